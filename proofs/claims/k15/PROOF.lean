import PyProof.Rows.All
import Wide.All
import OpenK.AllK
import Wide.FinOn
import Lean
import PyProof.EqAt
import PyProof.EqKinds
import PyProof.TupleCall
import PyProof.CompFree
import PyProof.CompMap
import KE.LcSums
import PyProof.ZipIter
import PyProof.Draws
import KE.KRevSl
import KE.KListMore
import PyProof.Rows.StrJoin2
import PyProof.Rows.StrFin3
import PyProof.StrOps2
import PyProof.NeData
import PyProof.P3Eq
import PyProof.StrLawsRepr
import PyProof.ReprLen
import PyProof.Rows.IntBool
import PyProof.SliceStr2
import PyProof.P3In
import PyProof.Rows.StrLen
import KE.KStrOpen
import PyProof.FitsInt
import PyProof.Rows.ReprOcc
import PyProof.ListRange
import PyProof.AttrMissHeap
import PyProof.FactsAll.zip
import PyProof.FactsAll.tuple_3
import KE.KDictOf
import PyProof.SeqRoads2
import PyProof.DictCompW
import PyProof.Rows.StrInSeq3
import OpenK.KOwn
import KE.KIsAll
import KE.KTryMore
import PyProof.StationsW
import PyProof.RulesAs
import PyProof.NsDelKeeps
import PySem.Challenge.RW_gainroads_k15_whole_rounds_and_worths
set_option Elab.async false
set_option linter.all false
set_option maxRecDepth 100000
local macro_rules | `(tactic| nofun)=>`(tactic| decide +kernel)
local macro_rules | `(⟨$xs,*⟩)=>do
 let es:=xs.getElems
 unless es.any (fun e=>match e with | `(())=>true | _=>false) do Lean.Macro.throwUnsupported
 let mut o:=#[]
 for e in es do
  match e with
  | `(())=>o:=(o.push (←`(_))).push (←`(rfl))
  | _=>o:=o.push e
 `(⟨$o,*⟩)
set_option genSizeOf false
set_option genInjectivity false
namespace L2
inductive aT {α0 α1:Type} (p:α0→α1→Prop):Prop
 | mk (a0:α0) (a1:α1) (h:p a0 a1)
inductive eF {α0 α1 α2:Type} (p:α0→α1→α2→Prop):Prop
 | mk (a0:α0) (a1:α1) (a2:α2) (h:p a0 a1 a2)
inductive pc {α0 α1 α2 α3:Type} (p:α0→α1→α2→α3→Prop):Prop
 | mk (a0:α0) (a1:α1) (a2:α2) (a3:α3) (h:p a0 a1 a2 a3)
inductive Fy {α0 α1 α2 α3 α4:Type} (p:α0→α1→α2→α3→α4→Prop):Prop
 | mk (a0:α0) (a1:α1) (a2:α2) (a3:α3) (a4:α4) (h:p a0 a1 a2 a3 a4)
inductive zO {α0 α1 α2 α3 α4 α5:Type} (p:α0→α1→α2→α3→α4→α5→Prop):Prop
 | mk (a0:α0) (a1:α1) (a2:α2) (a3:α3) (a4:α4) (a5:α5) (h:p a0 a1 a2 a3 a4 a5)
inductive Mm {α0 α1 α2 α3 α4 α5 α6:Type} (p:α0→α1→α2→α3→α4→α5→α6→Prop):Prop
 | mk (a0:α0) (a1:α1) (a2:α2) (a3:α3) (a4:α4) (a5:α5) (a6:α6) (h:p a0 a1 a2 a3 a4 a5 a6)
inductive Hh {α0 α1 α2 α3 α4 α5 α6 α7:Type} (p:α0→α1→α2→α3→α4→α5→α6→α7→Prop):Prop
 | mk (a0:α0) (a1:α1) (a2:α2) (a3:α3) (a4:α4) (a5:α5) (a6:α6) (a7:α7) (h:p a0 a1 a2 a3 a4 a5 a6 a7)
inductive Lp {α0 α1 α2 α3 α4 α5 α6 α7 α8:Type} (p:α0→α1→α2→α3→α4→α5→α6→α7→α8→Prop):Prop
 | mk (a0:α0) (a1:α1) (a2:α2) (a3:α3) (a4:α4) (a5:α5) (a6:α6) (a7:α7) (a8:α8) (h:p a0 a1 a2 a3 a4 a5 a6 a7 a8)
end L2
set_option genSizeOf true
set_option genInjectivity true
local macro_rules | `(tactic| lia)=>`(tactic| first | lia -verbose | omega)
local macro_rules | `(tactic| ext)=>`(tactic| decide)
local macro_rules | `(#[$i:ident])=>`(($i).heap.objs.size)
open List (mem_cons_self mem_cons_of_mem mem_append_left getElem?_set_self getElem?_set_ne mem_append_right append_nil of_mem_zip replicate length length_take getElem?_append_right getElem?_append_left getElem?_map mem_of_getElem? length_append length_map length_replicate size_toArray length_drop any_cons replicate_succ flatten_cons foldl nil_append map_nil map_cons forIn_cons lookup_cons all_eq_true length_cons length_nil nodup_nil zipIdx_cons zipIdx_nil forIn_nil take_of_length_le map_map drop_zero nodup_iff_pairwise_ne getElem?_eq_getElem take_length mem_singleton range_succ map_append getElem?_range mem_map_of_mem map_take find?_cons getElem?_of_mem getElem_mem cons_append mem_of_mem_drop map_drop pairwise_map mem_of_mem_take map_replicate)
open PySem.W (instObj methodObj lookIn plainGet kitOne kia_one kitx_list kitx_dict keepIn callWith_K mg_of isFn findCls exmOne kitAny WalkX SharedT through stepOk stepT topRun boot_drawn boot_toks boot_heap staticsOk namesBound gensDone laidKept topStub openGood LeftO topFrom view xlAt recOk mg_none_of Frag nsIn findIn)
open Nat (lt_of_lt_of_le lt_irrefl ne_of_lt le_trans le_of_lt ne_of_gt le_refl zero_le add_comm le_of_eq gcd le_add_right log2_lt lt_trans lt_succ_of_lt le_succ lt_succ_self sub_self zero_add)
open Int (toNat_natCast dvd_gcd gcd_dvd_left gcd_dvd_right fmod_def mul_neg natAbs_mul mul_comm mul_assoc mul_pos mul_ne_zero emod_nonneg emod_lt_of_pos mul_le_mul)
namespace L2
open PySem PySem.Spec PyProof.Rows
def xO (s:Stmt):Arguments:=match s with
 | .FunctionDef _ a _ _ _ _ _ _ _ _=>a
 | _=>{ posonlyargs:=[],args:=[],vararg:=none,kwonlyargs:=[],kw_defaults:=[],kwarg:=none,defaults:=[] }
def qo (s:Stmt):List Stmt:=match s with
 | .FunctionDef _ _ b _ _ _ _ _ _ _=>b
 | _=>[]
def ak (s:Stmt):Scope:=match s with
 | .FunctionDef _ _ _ _ _ _ sc _ _ _=>sc
 | _=>{ kind:=.function,names:=[],isGenerator:=false,isCoroutine:=false }
end L2
namespace L2
open PySem PySem.Spec PyProof.Rows PySem.W
abbrev rT (K:Frag) (C:Addr):Bool:=findIn K (.ref C) "__getattribute__" == some (some (.builtin "BaseException.__getattribute__")) && findIn K (.ref C) "__getattr__" == some none && mroIn K C (.type "BaseException")==some true
abbrev rP (K:Frag) (C:Addr):Bool:=rT K C && (clsIn K C).isSome && findIn K (.ref C) "__class__" == some (some (.builtin "object.__class__")) && specialIn K (.builtin "object.__class__") "__get__" == some (some (.builtin "getset_descriptor.__get__")) && takesIn K (.builtin "object.__class__")==some true && mroIn K C (.type "object")==some true
end L2
namespace L2
open PySem PySem.Spec PyProof.Rows PySem.W PySem.Builtin.ObjectAttr
def uj:List Value→Bool
 | .ref _ :: r=>uj r
 | l=>l==[.type "ValueError",.type "Exception",.type "BaseException",.type "object"]
abbrev hU (K:Frag) (C:Addr) (name:Str):Bool:=(clsIn K C).any (fun cd=>uj cd.mro && cd.hasDict) && findIn K (.ref C) "__setattr__" == some (some (.builtin "object.__setattr__")) && takerIn K C name==some none && mroIn K C (.type "object")==some true
abbrev Fv:List Value:=[.type "ValueError",.type "Exception",.type "BaseException",.type "object"]
def EC (d:Data):Option ClassData:=match d with
 | .cls cd=>some cd
 | _=>none
def bR (K:Frag) (C:Addr) (ini:Option Value):Bool:=match K.lookup C with
 | none=>false
 | some o=>match EC o.data with
  | none=>false
  | some cd=>(o.cls==.type "type") && ((cd.mro.head?==some (.ref C)) && (!cd.hasDel && (tailIn K Fv cd.mro.tail && (nsOkIn K cd.ns && (nsIn K cd.ns "__init__" == some ini && (o.slots.size==6 && o.slots[4]?==some (some (.builtin "ValueError.__new__"))))))))
end L2
namespace L2
open PySem PySem.Spec PyProof.Rows
abbrev Bw (K:Frag) (B:Addr):Bool:=PySem.W.specialIn K (.ref B) "__getattribute__" == some (some (.builtin "type.__getattribute__")) && PySem.W.readsIn K B (.type "type") && (match findCls K (.ref B) (.type "type") "__init__" with | some (.val v)=>v==.builtin "ValueError.__init__" | _=>false)
abbrev kr (K:Frag) (C:Addr) (f:Str):Bool:=rT K C && (PySem.W.clsIn K C).any (·.hasDict) && findIn K (.ref C) f==some none
def uO:Stmt→Nat→Stmt
 | .ClassDef _ _ _ body _ _ _ _ _ _ _,j=>body.getD j (.Pass ⟨0,0,0,0⟩)
 | _,_=>.Pass ⟨0,0,0,0⟩
def uG (K:Frag) (cs:List Addr) (g:Addr):Bool:=decide cs.Nodup && cs.all fun c=>rP K c && (kitOne K (.ref c) (.ref g)==some true && (kitOne K (.ref c) (.type "ValueError")==some true && cs.all fun d=>kitOne K (.ref c) (.ref d)==some (decide (c=d))))
def qG:Nat→List Obj→Frag
 | _,[]=>[]
 | n,o :: r=>match o.data with
  | .freed=>qG (n+1) r
  | _=>(n,o) :: qG (n+1) r
def fragOf (h:Heap):Frag:=qG 0 h.objs.toList
def ii:Option (Option Value)→Addr
 | some (some (.ref a))=>a
 | _=>0
def CZ:Option (Option Value)→Bool
 | some (some (.ref _))=>true
 | _=>false
def EB:Option (Option Value)→Bool
 | some none=>true
 | _=>false
def EK:Option Bool→Bool
 | some true=>true
 | _=>false
def A9 (K:Frag) (v:Option (Option Value)):Obj:=(List.lookup (ii v) K).getD ⟨.none,none,.plain,#[]⟩
def Mr:FuncData:=PySem.W.fnOf (PySem.Str.mk #[]) (PySem.Str.mk #[]) ⟨[],[],none,[],[],none,[]⟩ [] ⟨.function,[],false,false,[]⟩ .none .none .none .none none .none .none
def jg (K:Frag) (v:Option (Option Value)):FuncData:=match (A9 K v).data with
 | .func fd=>fd
 | _=>Mr
def bare (fd:FuncData):FuncData:={ fd with kwdefaults:=.none,doc:=.none,pyModule:=.none,annotations:=none,code:=.none,closureTuple:=.none }
def iA (K:Frag) (v:Option (Option Value)) (q:Str):Option FuncData:=
 match CZ v && PySem.W.codeIn K (jg K v).code q && keepIn K (.ref (ii v)) with
 | false=>none
 | true=>match List.lookup (ii v) K with
  | some ⟨_,_,.func fd,_⟩=>some (bare fd)
  | _=>none
def aG (K:Frag) (n:Str):Addr:=ii (nsIn K mainGlobals n)
def rG (K:Frag) (n:Str):Bool:=CZ (nsIn K mainGlobals n)
def oG (K:Frag) (n:Str):Bool:=EB (nsIn K mainGlobals n)
def fG (K:Frag) (n:Str):Option FuncData:=iA K (nsIn K mainGlobals n) n
def dG (n q:Str) (st:Stmt):Option FuncData:=some (PySem.W.fnOf n q (xO st) (qo st) (ak st) .none .none .none .none none .none .none)
end L2
namespace K15
open PySem L2
def bO (i:Nat):Stmt:=PySem.Challenge.pw_gainroads_k15_whole_rounds_and_worths.main.body.getD i (.Pass ⟨0,0,0,0⟩)
abbrev fH:Stmt:=bO 17
abbrev jw:Stmt:=bO 18
abbrev bN:Stmt:=bO 19
abbrev dN:Stmt:=bO 20
abbrev gC:Stmt:=bO 21
abbrev nz:Stmt:=bO 22
abbrev pX:Stmt:=bO 23
abbrev gO:Stmt:=bO 24
abbrev kP:Stmt:=bO 25
abbrev oV:Stmt:=bO 27
abbrev bc:Stmt:=bO 28
abbrev cI:Stmt:=bO 29
abbrev bz:Stmt:=bO 30
abbrev c8:Stmt:=bO 31
abbrev cU:Stmt:=bO 32
abbrev jG:Stmt:=bO 33
abbrev bw:Stmt:=bO 34
abbrev b6:Stmt:=bO 35
abbrev cz:Stmt:=bO 36
abbrev dO:Stmt:=bO 38
abbrev iM:Stmt:=bO 39
abbrev dS:Stmt:=bO 40
abbrev gk:Stmt:=bO 41
abbrev fk:Stmt:=bO 42
abbrev fz:Stmt:=bO 43
abbrev xN:Stmt:=bO 45
abbrev vU:Stmt:=bO 46
abbrev qX:Stmt:=bO 47
abbrev iw:Stmt:=bO 48
abbrev gU:Stmt:=bO 49
abbrev k4:Stmt:=bO 50
abbrev lI:Stmt:=bO 51
abbrev bA:Stmt:=bO 52
abbrev db:Stmt:=bO 53
abbrev d9:Stmt:=bO 54
abbrev dF:Stmt:=bO 55
abbrev bo:Stmt:=bO 56
abbrev aB:Stmt:=bO 57
abbrev av:Stmt:=bO 58
abbrev aN:Stmt:=bO 59
abbrev aF:Stmt:=bO 60
abbrev aM:Stmt:=bO 61
abbrev aY:Stmt:=bO 62
abbrev bq:Stmt:=bO 63
abbrev fQ:Stmt:=bO 64
abbrev b7:Stmt:=uO (bO 10) 0
abbrev mF:Stmt:=uO (bO 11) 0
abbrev sr:Stmt:=uO (bO 12) 0
abbrev pd:Stmt:=uO (bO 13) 0
abbrev qi:Stmt:=uO (bO 14) 0
abbrev nR:Stmt:=uO (bO 15) 0
end K15
namespace L2
open PySem PySem.Spec PySem.Calls PyProof.Rows
def topRunT (tb:String→Option Builtin) (p:Program) (w:World) (n₀:Nat) (ann:Option Value):Nat→SharedT→Thread→Option SharedT
 | 0,_,_=>none
 | n+1,s,t=>match through t with
  | true=>some s
  | false=>match stepOk n₀ ann t with
   | false=>none
   | true=>match stepT (denote tb) p w s t with
    | some (s',t')=>topRunT tb p w n₀ ann n s' t'
    | none=>none
theorem yi {tb:String→Option Builtin}{p:Program}{w:World}{n₀:Nat}{ann:Option Value}:∀{n:Nat}{s s':SharedT}{t:Thread},topRunT tb p w n₀ ann n s t=some s'→topRun tb p w n₀ ann n s.abs t=some s'.abs
 | 0,_,_,_,h=>by cases h
 | n+1,s,s',t,h=>by
  unfold topRunT at h
  unfold topRun
  cases he:through t with
  | true=>rw [he] at h;cases h;rfl
  | false=>
   rw [he] at h
   cases hk:stepOk n₀ ann t with
   | false=>rw [hk] at h;cases h
   | true=>
    rw [hk] at h
    cases hs:stepT (denote tb) p w s t with
    | none=>rw [hs] at h;cases h
    | some r=>obtain ⟨s₂,t₂⟩:=r;rw [hs] at h;rw [PySem.W.stepT_spec hs];exact yi h
open PySem.W in
noncomputable def Le (P:Params):BT:=.node (boot_o_0 P) (.node (boot_o_1 P) (.node (boot_o_3 P) (.node (boot_o_7 P) .nil .nil) .nil) (.node (boot_o_5 P) (.node (boot_o_9 P) .nil .nil) .nil)) (.node (boot_o_2 P) (.node (boot_o_4 P) (.node (boot_o_8 P) .nil .nil) .nil) (.node (boot_o_6 P) (.node (boot_o_10 P) .nil .nil) .nil))
noncomputable def bootS (w:World) (os:OsState):SharedT:=⟨Le w.params,11,{},#[],boot_drawn,boot_toks,os⟩
theorem CO (w:World):((boot_heap w.params).isNs mainGlobals,(boot_heap w.params).objs.size,(boot_heap w.params).nsMap mainGlobals "__annotations__")=(true,11,some (.ref 6)):=by kernel_rfl
noncomputable def looks {α:Type} (p q:Program) (Xt:Shared→Bool) (Yf:Shared→α) (w:World) (s:Shared):=
 (staticsOk (importedModules p.main.body) (boot_heap w.params) s.heap && namesBound p s.heap && gensDone s && laidKept (boot_heap w.params) s.heap,PySem.W.openSeen q [] (importedModules p.main.body) Xt true s,Yf s)
theorem left_tree {p q:Program}{Xt:Shared→Bool}{α:Type}{Yf:Shared→α}{Ya:α}{N:Nat}
 (e:PySem.W.opening p=PySem.W.plainProg p.main.scope.names) (hN:Nat.ble 600 N=true) (f:∀s,PySem.fenceModules? p s=some s)
 (run:∀(w:World) (os:OsState),(topRunT treeTable p w 11 (some (.ref 6)) N (bootS w os) (topStub p)).map (fun s=>looks p q Xt Yf w s.abs)=some (true,openGood q [],Ya)) :
 LeftO p q [] Xt Yf (fun _=>Ya) N:=fun w=>by
 obtain ⟨⟨h,gs,d,k,os⟩,ef,ev⟩:=Option.map_eq_some_iff.mp (PySem.W.boot_open e hN f w)
 obtain ⟨rfl,rfl,rfl,rfl⟩:h=boot_heap w.params∧gs=#[]∧d=boot_drawn∧k=boot_toks:=by simpa using ev
 obtain ⟨st,er,el⟩:=Option.map_eq_some_iff.mp (run w os)
 have r:=yi er
 have e0:(bootS w os).abs=⟨boot_heap w.params,#[],boot_drawn,boot_toks,os⟩:=rfl
 rw [e0] at r
 obtain ⟨z1,z2,z3⟩:_∧_∧_:=by simpa only [Prod.mk.injEq] using CO w
 obtain ⟨l1,l2,l3⟩:_∧_∧_:=by simpa only [looks,Prod.mk.injEq] using el
 have t:topFrom treeTable p w N ⟨boot_heap w.params,#[],boot_drawn,boot_toks,os⟩=some st.abs:=by
  unfold topFrom
  dsimp only
  rw [z1,z2,z3,r]
  show (match staticsOk (importedModules p.main.body) (boot_heap w.params) st.abs.heap && namesBound p st.abs.heap && gensDone st.abs && laidKept (boot_heap w.params) st.abs.heap with | true=>_ | false=>_)=_
  rw [l1]
 unfold PySem.W.openEnds
 rw [ef]
 show (topFrom treeTable p w N _).map _=_
 rw [t]
 exact congrArg some (Prod.ext l2 l3)
theorem left_of2 {α β:Type}{f f':World→β→α}{g g':α} (ef:f=f') (eg:g=g') (h:∀w os,f' w os=g') (w:World) (os:β):f w os=g:=by
 rw [ef,eg];exact h w os
end L2
namespace K15
open PySem L2
def qv:Program:=view PySem.Challenge.pw_gainroads_k15_whole_rounds_and_worths [1,2,3,4,5,6,7,8,9,10,11,12,13,14,15,17,18,19,20,21,22,23,24,25,27,28,29,30,31,32,33,34,35,36,38,39,40,41,42,43,45,46,47,48,49,50,51,52,53,54,55,56,57,58,59,60,61,62,63,64]
def obs (K:Frag):List (Option FuncData)×List Bool:=([fG K "is_number",
 fG K "common_divisor",
 fG K "is_fraction",
 fG K "is_above_nought",
 fG K "fraction",
 fG K "times",
 fG K "over",
 fG K "compared",
 fG K "least",
 fG K "is_shut",
 fG K "lift_once",
 fG K "round_ahead",
 fG K "gaining_round",
 fG K "lift_all",
 fG K "holding_worths",
 fG K "holds",
 fG K "shows_holding",
 fG K "greatest_gain",
 fG K "best_way",
 fG K "are_ties",
 fG K "is_way",
 fG K "is_round",
 fG K "gain_of",
 fG K "goes_on",
 fG K "room_of",
 fG K "_law_box",
 fG K "_law_take",
 fG K "_law_folded",
 fG K "_law_frac",
 fG K "_law_product",
 fG K "_law_over",
 fG K "_law_above",
 fG K "_law_names_by",
 fG K "_law_any_gain",
 fG K "_law_any_much",
 fG K "_law_any_price",
 fG K "_law_planted",
 fG K "_law_net_by",
 fG K "_law_all_told",
 fG K "_law_refused_alike",
 fG K "_law_pairs_right",
 fG K "_law_fewer_right",
 fG K "_law_by_worths",
 fG K "_law_right",
 fG K "law",
 iA K (findIn K (.ref (aG K "Gaining")) "__init__") "Gaining.__init__",
 iA K (findIn K (.ref (aG K "NotSoMuch")) "__init__") "NotSoMuch.__init__",
 iA K (findIn K (.ref (aG K "Short")) "__init__") "Short.__init__",
 iA K (findIn K (.ref (aG K "Lacking")) "__init__") "Lacking.__init__",
 iA K (findIn K (.ref (aG K "BadRow")) "__init__") "BadRow.__init__",
 iA K (findIn K (.ref (aG K "BadSheet")) "__init__") "BadSheet.__init__"],
 [rG K "GainError",
 rG K "BadNumber",
 rG K "Taken",
 rG K "NoPlace",
 rG K "NoTie",
 rG K "AsItIs",
 rG K "NoEnds",
 rG K "Over",
 rG K "TooMuch",
 rG K "Gaining",
 rG K "NotSoMuch",
 rG K "Short",
 rG K "Lacking",
 rG K "BadRow",
 rG K "BadSheet",
 keepIn K (.ref (aG K "GainError")),
 Bw K (aG K "GainError"),
 keepIn K (.ref (aG K "BadNumber")),
 bR K (aG K "BadNumber") (none),
 keepIn K (.ref (aG K "Taken")),
 bR K (aG K "Taken") (none),
 keepIn K (.ref (aG K "NoPlace")),
 bR K (aG K "NoPlace") (none),
 keepIn K (.ref (aG K "NoTie")),
 bR K (aG K "NoTie") (none),
 keepIn K (.ref (aG K "AsItIs")),
 bR K (aG K "AsItIs") (none),
 keepIn K (.ref (aG K "NoEnds")),
 bR K (aG K "NoEnds") (none),
 keepIn K (.ref (aG K "Over")),
 bR K (aG K "Over") (none),
 keepIn K (.ref (aG K "TooMuch")),
 bR K (aG K "TooMuch") (none),
 keepIn K (.ref (aG K "Gaining")),
 isFn K (.ref (ii (findIn K (.ref (aG K "Gaining")) "__init__"))),
 hU K (aG K "Gaining") "ties",
 kr K (aG K "Gaining") "ties",
 bR K (aG K "Gaining") (some (.ref (ii (findIn K (.ref (aG K "Gaining")) "__init__")))),
 keepIn K (.ref (aG K "NotSoMuch")),
 isFn K (.ref (ii (findIn K (.ref (aG K "NotSoMuch")) "__init__"))),
 hU K (aG K "NotSoMuch") "most",
 kr K (aG K "NotSoMuch") "most",
 bR K (aG K "NotSoMuch") (some (.ref (ii (findIn K (.ref (aG K "NotSoMuch")) "__init__")))),
 keepIn K (.ref (aG K "Short")),
 isFn K (.ref (ii (findIn K (.ref (aG K "Short")) "__init__"))),
 hU K (aG K "Short") "share",
 kr K (aG K "Short") "share",
 bR K (aG K "Short") (some (.ref (ii (findIn K (.ref (aG K "Short")) "__init__")))),
 keepIn K (.ref (aG K "Lacking")),
 isFn K (.ref (ii (findIn K (.ref (aG K "Lacking")) "__init__"))),
 hU K (aG K "Lacking") "place",
 kr K (aG K "Lacking") "place",
 bR K (aG K "Lacking") (some (.ref (ii (findIn K (.ref (aG K "Lacking")) "__init__")))),
 keepIn K (.ref (aG K "BadRow")),
 isFn K (.ref (ii (findIn K (.ref (aG K "BadRow")) "__init__"))),
 hU K (aG K "BadRow") "row",
 kr K (aG K "BadRow") "row",
 bR K (aG K "BadRow") (some (.ref (ii (findIn K (.ref (aG K "BadRow")) "__init__")))),
 keepIn K (.ref (aG K "BadSheet")),
 isFn K (.ref (ii (findIn K (.ref (aG K "BadSheet")) "__init__"))),
 hU K (aG K "BadSheet") "row",
 kr K (aG K "BadSheet") "row",
 bR K (aG K "BadSheet") (some (.ref (ii (findIn K (.ref (aG K "BadSheet")) "__init__")))),
 EK (exmOne K (.ref (aG K "Gaining")) (.ref (aG K "GainError"))),
 uG K [(aG K "BadNumber"),(aG K "Taken"),(aG K "NoPlace"),(aG K "NoTie"),(aG K "AsItIs"),(aG K "NoEnds"),(aG K "Over"),(aG K "TooMuch"),(aG K "Gaining"),(aG K "NotSoMuch"),(aG K "Short"),(aG K "Lacking"),(aG K "BadRow"),(aG K "BadSheet")] (aG K "GainError"),
 oG K "ValueError",
 oG K "abs",
 oG K "all",
 oG K "any",
 oG K "bool",
 oG K "dict",
 oG K "divmod",
 oG K "enumerate",
 oG K "int",
 oG K "isinstance",
 oG K "len",
 oG K "list",
 oG K "max",
 oG K "range",
 oG K "set",
 oG K "tuple",
 oG K "zip"])
def due:List (Option FuncData)×List Bool:=([dG "is_number" "is_number" fH,
 dG "common_divisor" "common_divisor" jw,
 dG "is_fraction" "is_fraction" bN,
 dG "is_above_nought" "is_above_nought" dN,
 dG "fraction" "fraction" gC,
 dG "times" "times" nz,
 dG "over" "over" pX,
 dG "compared" "compared" gO,
 dG "least" "least" kP,
 dG "is_shut" "is_shut" oV,
 dG "lift_once" "lift_once" bc,
 dG "round_ahead" "round_ahead" cI,
 dG "gaining_round" "gaining_round" bz,
 dG "lift_all" "lift_all" c8,
 dG "holding_worths" "holding_worths" cU,
 dG "holds" "holds" jG,
 dG "shows_holding" "shows_holding" bw,
 dG "greatest_gain" "greatest_gain" b6,
 dG "best_way" "best_way" cz,
 dG "are_ties" "are_ties" dO,
 dG "is_way" "is_way" iM,
 dG "is_round" "is_round" dS,
 dG "gain_of" "gain_of" gk,
 dG "goes_on" "goes_on" fk,
 dG "room_of" "room_of" fz,
 dG "_law_box" "_law_box" xN,
 dG "_law_take" "_law_take" vU,
 dG "_law_folded" "_law_folded" qX,
 dG "_law_frac" "_law_frac" iw,
 dG "_law_product" "_law_product" gU,
 dG "_law_over" "_law_over" k4,
 dG "_law_above" "_law_above" lI,
 dG "_law_names_by" "_law_names_by" bA,
 dG "_law_any_gain" "_law_any_gain" db,
 dG "_law_any_much" "_law_any_much" d9,
 dG "_law_any_price" "_law_any_price" dF,
 dG "_law_planted" "_law_planted" bo,
 dG "_law_net_by" "_law_net_by" aB,
 dG "_law_all_told" "_law_all_told" av,
 dG "_law_refused_alike" "_law_refused_alike" aN,
 dG "_law_pairs_right" "_law_pairs_right" aF,
 dG "_law_fewer_right" "_law_fewer_right" aM,
 dG "_law_by_worths" "_law_by_worths" aY,
 dG "_law_right" "_law_right" bq,
 dG "law" "law" fQ,
 dG "__init__" "Gaining.__init__" b7,
 dG "__init__" "NotSoMuch.__init__" mF,
 dG "__init__" "Short.__init__" sr,
 dG "__init__" "Lacking.__init__" pd,
 dG "__init__" "BadRow.__init__" qi,
 dG "__init__" "BadSheet.__init__" nR],replicate 82 true)
end K15
def L2.Xt (s:PySem.Shared):Bool:=xlAt K15.qv [] s && recOk [] s
def L2.Yf (s:PySem.Shared):=K15.obs (L2.fragOf s.heap)
noncomputable def L2.lhs (w:PySem.World) (os:PySem.OsState):=(L2.topRunT PySem.treeTable PySem.Challenge.pw_gainroads_k15_whole_rounds_and_worths w 11 (some (.ref 6)) 9650 (L2.bootS w os) (topStub PySem.Challenge.pw_gainroads_k15_whole_rounds_and_worths)).map fun s=>L2.looks PySem.Challenge.pw_gainroads_k15_whole_rounds_and_worths K15.qv L2.Xt L2.Yf w s.abs
noncomputable def L2.rhs:=some (true,openGood K15.qv [],K15.due)
theorem L2.lhs0:L2.lhs=L2.lhs:=rfl
theorem L2.rhs0:L2.rhs=L2.rhs:=rfl
name_quick lhsQ for L2.lhs by L2.lhs0
name_quick rhsQ for L2.rhs by L2.rhs0
theorem L2.left:∀w os,L2.lhs w os=L2.rhs:=L2.left_of2 PySem.W.Fast.lhsQ_eq PySem.W.Fast.rhsQ_eq (fun w os=>by kernel_rfl)
namespace L2
open PySem PySem.Spec PyProof.Rows
abbrev aI:=Sum Int Str
def fu:aI→Value→Bool
 | .inl k,v=>Value.isInt k v
 | .inr x,v=>Value.isStrOf x v
def LM (w:World):aI→Int
 | .inl k=>hashInt k
 | .inr x=>hashStr w x
theorem c9:∀{k:aI}{v:Value},fu k v=true→(aT fun i t=>k=Sum.inl i∧v=Value.int i t)∨(aT fun x t=>k=Sum.inr x∧v=Value.str x t)
 | .inl i,v,h=>by
  obtain ⟨t,e⟩:=Value.isInt_shape (k:=i) (v:=v) h
  exact .inl ⟨i,t,rfl,e⟩
 | .inr x,v,h=>by
  obtain ⟨t,e⟩:=Value.isStrOf_shape (x:=x) (v:=v) h
  exact .inr ⟨x,t,rfl,e⟩
theorem DR (i:Int) (t:Tok):fu (.inl i) (.int i t)=true:=by simp [fu,Value.isInt]
theorem Dt (x:Str) (t:Tok):fu (.inr x) (.str x t)=true:=by simp [fu,Value.isStrOf]
theorem Hq (a b:Int):decide ((Sum.inl a:aI)=Sum.inl b)=(a==b):=by
 by_cases e:a=b
 ·subst e;simp
 ·have h:¬(Sum.inl a:aI)=Sum.inl b:=fun q=>e (Sum.inl.inj q)
  rw [decide_eq_false h]
  exact (beq_eq_false_iff_ne.mpr e).symm
theorem Hi (a b:Str):decide ((Sum.inr a:aI)=Sum.inr b)=decide (a=b):=by
 by_cases e:a=b
 ·subst e;simp
 ·have h:¬(Sum.inr a:aI)=Sum.inr b:=fun q=>e (Sum.inr.inj q)
  rw [decide_eq_false h,decide_eq_false e]
theorem HW (a:Int) (b:Str):decide ((Sum.inl a:aI)=Sum.inr b)=false:=decide_eq_false (fun q=>nomatch q)
theorem Jn (a:Str) (b:Int):decide ((Sum.inr a:aI)=Sum.inl b)=false:=decide_eq_false (fun q=>nomatch q)
def bj (prog:Program) (w:World):PySem.KeyKind prog w aI where
 is:=fu
 hash:=LM w
 inj:=fun v a b ha hb=>by
  rcases c9 ha with ⟨i,t,rfl,rfl⟩ | ⟨x,t,rfl,rfl⟩
  ·rcases c9 hb with ⟨j,u,rfl,e⟩ | ⟨y,u,rfl,e⟩
   ·injection e with e1 _;rw [e1]
   ·exact nomatch e
  ·rcases c9 hb with ⟨j,u,rfl,e⟩ | ⟨y,u,rfl,e⟩
   ·exact nomatch e
   ·injection e with e1 _;rw [e1]
 byValue:=fun k v h=>by
  rcases c9 h with ⟨i,t,rfl,rfl⟩ | ⟨x,t,rfl,rfl⟩ <;> rfl
 pyHash:=fun hv h=>by
  rcases c9 hv with ⟨i,t,rfl,rfl⟩ | ⟨x,t,rfl,rfl⟩
  ·exact wpAny_pyHash_int h
  ·exact wpAny_pyHash_str h
 eqBool:=fun hu hv h=>by
  rcases c9 hu with ⟨i,t,rfl,rfl⟩ | ⟨x,t,rfl,rfl⟩
  ·rcases c9 hv with ⟨j,u,rfl,rfl⟩ | ⟨y,u,rfl,rfl⟩
   ·rw [Hq] at h;exact wpAny_eqBool_int h
   ·rw [HW] at h;exact SeqAt.EqAt.int_str i t y u _ _ _ _ h
  ·rcases c9 hv with ⟨j,u,rfl,rfl⟩ | ⟨y,u,rfl,rfl⟩
   ·rw [Jn] at h;exact SeqAt.EqAt.str_int x t j u _ _ _ _ h
   ·rw [Hi] at h;exact wpAny_eqBool_str h
 «strs»:=fun k x t v h=>by
  rcases c9 h with ⟨i,u,rfl,e⟩ | ⟨y,u,rfl,e⟩
  ·exact nomatch e
  ·injection e with e1 _
   subst e1
   cases v <;> rfl
inductive V where
 | non | bl (b:Bool) | int (i:Int) | str (x:Str) | byt (b:Array UInt8) | flt (b:UInt64) | ref (a:Addr) | ty (n:String)
 deriving DecidableEq
def aO:V→Value→Prop
 | .non,u=>u=Value.none
 | .bl b,u=>u=Value.bool b
 | .int i,u=>∃t,u=Value.int i t
 | .str x,u=>∃t,u=Value.str x t
 | .byt b,u=>∃t,u=Value.bytes b t
 | .flt b,u=>∃t,u=Value.float b t
 | .ref a,u=>u=Value.ref a
 | .ty n,u=>u=Value.type n
abbrev aD:List V→List Value→Prop:=Paired aO
theorem aD.length {xs:List V}{us:List Value} (r:aD xs us):xs.length=us.length:=Paired.length r
theorem aD.get:∀{xs:List V}{us:List Value}{i:Nat}{x:V},aD xs us→xs[i]?=some x→∃u,us[i]?=some u∧aO x u
 | _,_,_,_,.nil,e=>by simp at e
 | _,_,0,_,.cons r _,e=>by simp at e;subst e;exact ⟨_,rfl,r⟩
 | _,_,i+1,x,.cons _ t,e=>by
  obtain ⟨u,h1,h2⟩:=aD.get (i:=i) (x:=x) t (by simpa using e)
  exact ⟨u,by simpa using h1,h2⟩
theorem aD.set {x:V}{u:Value} (r:aO x u):∀{xs:List V}{us:List Value} (i:Nat),aD xs us→aD (xs.set i x) (us.set i u)
 | _,_,_,.nil=>.nil
 | _,_,0,.cons _ t=>.cons r t
 | _,_,i+1,.cons q t=>.cons q (aD.set r i t)
theorem aD.append:∀{xs ys:List V}{us ws:List Value},aD xs us→aD ys ws→aD (xs++ys) (us++ws)
 | _,_,_,_,.nil,s=>s
 | _,_,_,_,.cons r t,s=>.cons r (aD.append t s)
theorem aD.take:∀{xs:List V}{us:List Value} (n:Nat),aD xs us→aD (xs.take n) (us.take n)
 | _,_,0,_=>.nil
 | _,_,_+1,.nil=>.nil
 | _,_,n+1,.cons r t=>.cons r (aD.take n t)
theorem aD.drop:∀{xs:List V}{us:List Value} (n:Nat),aD xs us→aD (xs.drop n) (us.drop n)
 | _,_,0,r=>r
 | _,_,_+1,.nil=>.nil
 | _,_,n+1,.cons _ t=>aD.drop n t
def tP:Option V→Option Value→Prop
 | some v,some u=>aO v u
 | none,none=>True
 | _,_=>False
def KV {κ:Type}:List (κ×V)→List (κ×Value)→Prop:=Paired fun (p:κ×V) (q:κ×Value)=>p.1=q.1∧aO p.2 q.2
def kV:aI→V
 | .inl i=>.int i
 | .inr x=>.str x
inductive HO where
 | lst (xs:List V)
 | tup (xs:List V)
 | dK (kvs:List (aI×V)) | dT (kvs:List (List aI×V))
 | set (S:Int→Bool) (n:Nat)
 | ins (C dx:Addr) (fs:List (Str×V))
 | own (x:Addr)
 | xd (fs:List (Str×V))
 | met (f x:Addr)
 | rng (lo hi:Int)
 | frz (o:Obj) (u:HO)
 | tbl (ps:Array Value)
 | ext (φ:Heap→Prop)
abbrev Hp:=Addr→Option HO
def aE (H:Hp) (a:Addr) (o:HO):Hp:=fun b=>if b=a then some o else H b
theorem ao {H:Hp}{a:Addr}{o:HO}:aE H a o a=some o:=by unfold aE;rw [if_pos rfl]
theorem aj {H:Hp}{a b:Addr}{o:HO} (h:b≠a):aE H a o b=H b:=by unfold aE;rw [if_neg h]
theorem Fx {H:Hp}{a b:Addr}{o u:HO} (h:H a=some o) (h':H b=some u) (d:o≠u):a≠b:=by
 intro e;subst e;rw [h] at h';exact d (Option.some.inj h')
theorem aS {H:Hp}{a b:Addr}{o:HO} (h:H a=some o) (h':H b=none):a≠b:=by
 intro e;subst e;rw [h] at h';cases h'
section
variable (P:Program) (w:World)
def be (H:Hp) (h:Heap) (a:Addr):HO→Prop
 | .lst xs=>xs.length≤sizeLine∧aT fun (its:List Value) (n:Nat)=>aD xs its∧h.get? a=some { cls:=.type "list",data:=.seq its.toArray n }
 | .tup xs=>xs.length≤sizeLine∧∃its:List Value,aD xs its∧IsTup h a its.toArray∧∃o,h.get? a=some o∧o.dict=none
 | .dK kvs=>kvs.length≤sizeLine∧(a==sysModules)=false∧∃vs,KV kvs vs∧h.DictOf (bj P w) a vs
 | .dT kvs=>kvs.length≤sizeLine∧(a==sysModules)=false∧∃xs:List (List aI×Addr×Value),
  Paired (fun (p:List aI×V) (q:List aI×Addr×Value)=>p.1=q.1∧H q.2.1=some (.tup (p.1.map kV))∧aO p.2 q.2.2) kvs xs∧
  eF fun o es ep=>h.get? a=some o∧o.ExactDict∧o.data=.dict es ep∧es.toList=xs.map (entryOfKey (tupleKind (bj P w)))∧(xs.map (·.1)).Nodup
 | .set S n=>h.SetOf (intKind P w) a S n
 | .ins C dx fs=>H dx=some (.own a)∧fs.length≤1000∧dx≠a∧h.get? a=some (instObj C dx)∧
  ∃mA,h.Ns1 dx mA∧(∀f,tP (fs.lookup f) (mA f))∧PySem.Within mA (fs.map (·.1))
 | .own _=>∃o,h.get? a=some o
 | .xd fs=>∃mA,h.Ns1 a mA∧∀f,tP (fs.lookup f) (mA f)
 | .rng lo hi=>eF fun t u v=>h.get? a=some { cls:=.type "range",data:=.fields #[.int lo t,.int hi u,.int 1 v] }
 | .frz o u=>h.get? a=some o∧be H h a u
 | .tbl ps=>h.get? a=some { cls:=.none,data:=.fields ps }
 | .met f x=>h.get? a=some (methodObj (.ref f) (.ref x))
 | .ext φ=>φ h∧(∃o,h.get? a=some o)∧∀h1 h2:Heap,φ h1→(∀o,h1.get? a=some o→h2.get? a=some o)→φ h2
def dM (H:Hp) (h:Heap):Prop:=∀a o,H a=some o→be P w H h a o
end
section
variable {P:Program}{w:World}{H H':Hp}{h h':Heap}{a:Addr}{o:HO}
theorem be.lt (x:be P w H h a o):a<h.objs.size:=by
 cases o with
 | lst xs=>obtain ⟨_,_,_,_,e⟩:=x;exact Heap.lt_size e
 | tup xs=>obtain ⟨_,_,_,p,_⟩:=x;exact p.lt
 | dK kvs=>obtain ⟨_,_,_,_,o,_,_,e,_⟩:=x;exact Heap.lt_size e
 | dT kvs=>obtain ⟨_,_,_,_,o,_,_,e,_⟩:=x;exact Heap.lt_size e
 | set S n=>obtain ⟨o,_,_,_,e,_⟩:=x;exact Heap.lt_size e
 | ins C dx fs=>obtain ⟨_,_,_,e,_⟩:=x;exact Heap.lt_size e
 | own y=>obtain ⟨_,e⟩:=x;exact Heap.lt_size e
 | xd fs=>obtain ⟨_,⟨_,_,_,e,_⟩,_⟩:=x;exact Heap.lt_size e
 | rng lo hi=>obtain ⟨_,_,_,e⟩:=x;exact Heap.lt_size e
 | frz ob u=>obtain ⟨e,_⟩:=x;exact Heap.lt_size e
 | tbl ps=>exact Heap.lt_size (show h.get? a=some _ from x)
 | met f y=>exact Heap.lt_size (show h.get? a=some _ from x)
 | ext φ=>obtain ⟨_,⟨_,e⟩,_⟩:=x;exact Heap.lt_size e
theorem Paired.mapP {α β:Type}{F G:α→β→Prop}:∀{l₁:List α}{l₂:List β},Paired F l₁ l₂→(∀a b,F a b→G a b)→Paired G l₁ l₂
 | _,_,.nil,_=>.nil
 | _,_,.cons r t,f=>.cons (f _ _ r) (Paired.mapP t f)
theorem be.stay (x:be P w H h a o) (k:∀b u,(b=a∨H b=some (.own a))→h.get? b=some u→h'.get? b=some u)
 (ho:∀b,H b=some (.own a)→H' b=some (.own a)) (ht:∀b xs,H b=some (.tup xs)→H' b=some (.tup xs)):be P w H' h' a o:=by
 induction o with
 | lst xs=>obtain ⟨z,its,n,r,e⟩:=x;exact ⟨z,its,n,r,k _ _ (.inl rfl) e⟩
 | tup xs=>obtain ⟨z,its,r,⟨ob,e,c⟩,od,e',c'⟩:=x;exact ⟨z,its,r,⟨ob,k _ _ (.inl rfl) e,c⟩,od,k _ _ (.inl rfl) e',c'⟩
 | dK kvs=>obtain ⟨z,y,vs,r,ob,es,ep,e,c⟩:=x;exact ⟨z,y,vs,r,ob,es,ep,k _ _ (.inl rfl) e,c⟩
 | dT kvs=>
  obtain ⟨z,y,xs,r,ob,es,ep,e,c⟩:=x
  exact ⟨z,y,xs,Paired.mapP r fun p q z=>⟨z.1,ht _ _ z.2.1,z.2.2⟩,ob,es,ep,k _ _ (.inl rfl) e,c⟩
 | set S n=>obtain ⟨ob,es,ep,t,e,c⟩:=x;exact ⟨ob,es,ep,t,k _ _ (.inl rfl) e,c⟩
 | ins C dx fs=>
  obtain ⟨d,z,ne,e,mA,⟨od,es,ep,e2,c⟩,r⟩:=x
  exact ⟨ho _ d,z,ne,k _ _ (.inl rfl) e,mA,⟨od,es,ep,k _ _ (.inr d) e2,c⟩,r⟩
 | own y=>obtain ⟨ob,e⟩:=x;exact ⟨ob,k _ _ (.inl rfl) e⟩
 | xd fs=>obtain ⟨mA,⟨od,es,ep,e,c⟩,r⟩:=x;exact ⟨mA,⟨od,es,ep,k _ _ (.inl rfl) e,c⟩,r⟩
 | rng lo hi=>obtain ⟨t,u,v,e⟩:=x;exact ⟨t,u,v,k _ _ (.inl rfl) e⟩
 | frz ob u ih=>obtain ⟨e,q⟩:=x;exact ⟨k _ _ (.inl rfl) e,ih q⟩
 | tbl ps=>
  have e:h.get? a=some { cls:=.none,data:=.fields ps }:=x
  show h'.get? a=some { cls:=.none,data:=.fields ps }
  exact k a _ (.inl rfl) e
 | met f y=>
  have e:h.get? a=some (methodObj (.ref f) (.ref y)):=x
  show h'.get? a=some (methodObj (.ref f) (.ref y))
  exact k a _ (.inl rfl) e
 | ext φ=>obtain ⟨p,⟨o,e⟩,st⟩:=x;exact ⟨st _ _ p fun o q=>k _ _ (.inl rfl) q,⟨o,k _ _ (.inl rfl) e⟩,st⟩
theorem dM.lt (x:dM P w H h) (e:H a=some o):a<h.objs.size:=(x a o e).lt
theorem dM.fresh (x:dM P w H h) (e:h.objs.size≤a):H a=none:=by
 cases q:H a with
 | none=>rfl
 | some u=>exact absurd (lt_of_lt_of_le (x.lt q) e) (lt_irrefl _)
theorem dM.kept (x:dM P w H h) (k:∀b u,h.get? b=some u→h'.get? b=some u):dM P w H h':=fun a o e=>
 (x a o e).stay (fun b u _ q=>k b u q) (fun _ q=>q) fun _ _ q=>q
theorem dM.laid (x:dM P w H h) (k:∀b u,h.get? b=some u→h'.get? b=some u) (hp:h.objs.size≤a) (new:be P w (aE H a o) h' a o):dM P w (aE H a o) h':=fun b u e=>by
 have hn:=x.fresh hp
 by_cases hb:b=a
 ·subst hb;rw [ao] at e;cases e;exact new
 ·rw [aj hb] at e
  exact (x b u e).stay (fun c v _ q=>k c v q) (fun c q=>by rw [aj (aS q hn)];exact q) fun c xs q=>by rw [aj (aS q hn)];exact q
end
def Rd (H:Hp) (a:Addr) (u:HO):Prop:=H a=some u∨∃o,H a=some (.frz o u)
theorem Rd.ok {P:Program}{w:World}{H:Hp}{h:Heap}{a:Addr}{u:HO} (r:Rd H a u) (x:dM P w H h):be P w H h a u:=by
 rcases r with r | ⟨o,r⟩
 ·exact x a u r
 ·obtain ⟨_,q⟩:=x a _ r
  exact q
def FO:Option HO→Prop
 | some (.lst _)=>True
 | some (.dK _)=>True
 | some (.dT _)=>True
 | some (.set _ _)=>True
 | some (.ins _ _ _)=>True
 | some (.ext _)=>True
 | _=>False
section
variable {P:Program}{w:World}{H:Hp}{h h':Heap}{x e:Addr}{o':HO}
theorem dM.write (ok:dM P w H h) (mu:FO (H x)) (he:e=x∨H e=some (.own x)) (k:∀b u,b≠e→h.get? b=some u→h'.get? b=some u) (heo:∃u,h'.get? e=some u)
 (new:be P w (aE H x o') h' x o'):dM P w (aE H x o') h':=fun b u q=>by
 have nown:∀c y,H c=some (.own y)→c≠x:=fun c y r z=>by subst z;rw [r] at mu;exact mu
 have ntup:∀c xs,H c=some (.tup xs)→c≠x:=fun c xs r z=>by subst z;rw [r] at mu;exact mu
 by_cases hb:b=x
 ·subst hb;rw [ao] at q;cases q;exact new
 ·rw [aj hb] at q
  by_cases hbe:b=e
  ·have q':H b=some (.own x):=by
    rcases he with z | z
    ·exact absurd (hbe.trans z) hb
    ·rw [hbe];exact z
   rw [q] at q';cases q'
   obtain ⟨v,hv⟩:=heo
   exact ⟨v,by rw [hbe];exact hv⟩
  ·refine (ok b u q).stay (fun c v hc r=>k c v ?_ r) (fun c r=>by rw [aj (nown c b r)];exact r) fun c xs r=>by rw [aj (ntup c xs r)];exact r
   rcases hc with rfl | hc
   ·exact hbe
   ·rintro rfl
    rcases he with z | z
    ·exact nown c b hc z
    ·rw [hc] at z;cases z;exact hb rfl
end
structure Un (fs ex:List Addr) (H H':Hp) (h h':Heap):Prop where
 keep:∀b o,h.get? b=some o→H b=none→b∉fs→b∉ex→h'.get? b=some o
 slot:∀b o,h.get? b=some o→H b=none→b∈fs→b∉ex→∃sl,h'.get? b=some { o with slots:=sl }
 free:∀b o,h.get? b=some o→H b=none→b∉ex→H' b=none
 there:∀b o,h.get? b=some o→b∉ex→∃o',h'.get? b=some o'
 tups:∀b xs,H b=some (.tup xs)→H' b=some (.tup xs)
 frzs:∀b o u,H b=some (.frz o u)→H' b=some (.frz o u)
 tbls:∀b ps,H b=some (.tbl ps)→∃more,H' b=some (.tbl (ps++more))
section
variable {fs fs' ex ex':List Addr}{H H1 H2:Hp}{h h1 h2 h':Heap}{a x e:Addr}{o:HO}
theorem Un.any (u:Un fs ex H H1 h h1) {b:Addr}{ob:Obj} (q:h.get? b=some ob) (n:H b=none) (hx:b∉ex):∃sl,h1.get? b=some { ob with slots:=sl }:=by
 by_cases hb:b∈fs
 ·exact u.slot b ob q n hb hx
 ·exact ⟨ob.slots,u.keep b ob q n hb hx⟩
theorem Un.kept (k:∀b u,h.get? b=some u→h'.get? b=some u):Un fs ex H H h h':=
 ⟨fun b ob q _ _ _=>k b ob q,fun b ob q _ _ _=>⟨ob.slots,k b ob q⟩,fun _ _ _ n _=>n,fun b ob q _=>⟨ob,k b ob q⟩,fun _ _ q=>q,fun _ _ _ q=>q,fun _ ps q=>⟨#[],by rw [q];simp⟩⟩
theorem Un.refl:Un fs ex H H h h:=Un.kept fun _ _ q=>q
theorem Un.laid (k:∀b u,h.get? b=some u→h'.get? b=some u) (hp:h.objs.size≤a) (hn:H a=none):Un fs ex H (aE H a o) h h' where
 keep:=fun b u q _ _ _=>k b u q
 slot:=fun b u q _ _ _=>⟨u.slots,k b u q⟩
 free:=fun b u q n _=>by rw [aj (ne_of_lt (lt_of_lt_of_le (Heap.lt_size q) hp))];exact n
 there:=fun b u q _=>⟨u,k b u q⟩
 tups:=fun b xs q=>by rw [aj (aS q hn)];exact q
 frzs:=fun b u xs q=>by rw [aj (aS q hn)];exact q
 tbls:=fun b ps q=>⟨#[],by rw [aj (aS q hn),q];simp⟩
theorem Un.write (mu:FO (H x)) (he:e=x∨H e=some (.own x)) (k:∀b u,b≠e→h.get? b=some u→h'.get? b=some u) (heo:∃u,h'.get? e=some u):Un fs ex H (aE H x o) h h':=by
 have hx:∀b,H b=none→b≠x:=fun b n z=>by subst z;rw [n] at mu;exact mu
 have hb:∀b,H b=none→b≠e:=fun b n z=>by
  subst z
  rcases he with r | r
  ·exact hx b n r
  ·rw [n] at r;cases r
 have hm:∀b u,H b=some u→¬FO (some u)→b≠x:=fun b u q nm z=>by subst z;rw [q] at mu;exact nm mu
 refine ⟨fun b u q n _ _=>k b u (hb b n) q,fun b u q n _ _=>⟨u.slots,k b u (hb b n) q⟩,fun b u q n _=>by rw [aj (hx b n)];exact n,fun b u q _=>?_,
  fun b xs q=>by rw [aj (hm b _ q fun z=>z)];exact q,fun b u xs q=>by rw [aj (hm b _ q fun z=>z)];exact q,fun b ps q=>⟨#[],by rw [aj (hm b _ q fun z=>z),q];simp⟩⟩
 by_cases hbe:b=e
 ·subst hbe;exact heo
 ·exact ⟨u,k b u hbe q⟩
end
def Fn (h:Heap) (H:Hp):List Addr:=(List.range h.objs.size).filter fun a=>(H a).isSome
def rK (h:Heap) (H:Hp):Heap:=PySem.W.hideAll h (Fn h H)
theorem CY (h:Heap) (H:Hp):(rK h H).objs.size=h.objs.size:=PySem.W.hideAll_size _ _
theorem Eg {h:Heap}{H:Hp}{b:Addr}{o:Obj} (e:h.get? b=some o) (n:H b=none):(rK h H).get? b=some o:=
 PySem.W.hideAll_get _ e fun hm=>by
  have q:(H b).isSome=true:=(List.mem_filter.mp hm).2
  rw [n] at q;simp at q
theorem Ga {h:Heap}{H:Hp}{b:Addr}{o:Obj} (e:(rK h H).get? b=some o):h.get? b=some o∧H b=none:=by
 have e':h.get? b=some o:=PySem.W.of_hideAll (Fn h H) e
 refine ⟨e',?_⟩
 cases q:H b with
 | none=>rfl
 | some x=>
  have hm:b∈Fn h H:=List.mem_filter.mpr ⟨List.mem_range.mpr (Heap.lt_size e'),by simp [q]⟩
  have z:(rK h H).get? b=none:=PySem.W.hideAll_none (Fn h H) hm
  rw [z] at e;cases e
structure Mod (K:Frag) (mg:Str→Option Value) (base:Heap):Prop where
 kin:K.In base
 glob:base.Ns mainGlobals mg
 blt:∃mb,base.Ns builtinsNs mb∧∀x:Str,x≠"__name__"→mb x=bootBuiltins x
 nolimit:base.NoLimit
structure Cx where
 prog:Program
 w:World
 K:Frag
 mg:Str→Option Value
 base:Heap
 A:Around
 N:List Str
 s₀:Shared
 H₀:Hp
 env:Env
 outer:List Env
 stack:List Env
 ex:List Addr
 fn:Str→Bool
 calm:Bool
 pn:List (Addr×Obj)
 xe:Value→Shared→Prop
def im (l:List Env):List Addr:=l.filterMap (·.frame)
abbrev Cx.fs (X:Cx):List Addr:=im X.outer
def Cy (sc:Scope) (x:Str):Prop:=sc.names.lookup x=some .local∨sc.names.lookup x=some .cell∨sc.names.lookup x=some .free
def FM (sc:Scope) (x:Str):Prop:=sc.names.lookup x=some .local∨sc.names.lookup x=some .cell
def ID (env:Env) (h:Heap) (m:Str→Option Value) (x:Str) (u:Value):Prop:=
 (env.kindOf x=some .local∧m x=some u)∨((env.kindOf x=some .cell∨env.kindOf x=some .free)∧∃c,env.cells.lookup x=some c∧h.IsCell c (some u))
structure Cx.Ok (X:Cx):Prop where
 mod:Mod X.K X.mg X.base
 kind:X.env.scope.kind=.function
 glob:X.env.globals=mainGlobals
 blt:X.env.builtins=builtinsNs
 above:X.s₀.heap.objs.size≤X.env.locals
 inj:∀x y c,X.env.cells.lookup x=some c→X.env.cells.lookup y=some c→x=y
 has:∀x,(X.env.kindOf x=some .cell∨X.env.kindOf x=some .free)→∃c,X.env.cells.lookup x=some c
 cab:∀x c,X.fn x=true→X.env.cells.lookup x=some c→X.s₀.heap.objs.size≤c
 hd:X.calm=true→X.A.handled=none
 frames:X.A.frames=some X.stack
 stk:X.stack=X.outer∨(X.stack=X.env :: X.outer∧X.env.frame=some X.env.locals)
 exf:∀b∈X.ex,b≠X.env.locals∧∀x c,X.env.cells.lookup x=some c→c≠b
 bs:∀b o,X.base.get? b=some o→X.s₀.heap.get? b=some o∧X.H₀ b=none
 bsz:X.base.objs.size≤X.s₀.heap.objs.size
 noex:∀b o,X.base.get? b=some o→b∉X.ex
 exfs:∀b∈X.ex,b∉X.fs
 funs:X.s₀.heap.FunFrames X.base X.outer
 frf:∀b∈X.fs,X.H₀ b=none
structure ad (X:Cx) (pins:List (Addr×Obj)) (σ:List (Option V)) (H:Hp) (s:Shared):Prop where
 ok:X.Ok
 os:s.os=X.s₀.os
 bare:AllBare s.gens
 base:Un X.fs X.ex X.H₀ H X.s₀.heap s.heap
 loc:∃m,s.heap.Ns X.env.locals m∧∀(i:Nat) (x:Str) (v:V),X.N[i]?=some x→σ[i]?=some (some v)→Cy X.env.scope x→∃u,aO v u∧ID X.env s.heap m x u
 cell:∀x c,X.env.cells.lookup x=some c→∃v,s.heap.IsCell c v
 free:H X.env.locals=none
 freeC:∀x c,X.env.cells.lookup x=some c→H c=none
 pin:∀p∈X.pn++pins,s.heap.get? p.1=some p.2∧H p.1=none∧p.1≠X.env.locals∧p.1∉X.fs∧∀v,p.2.data≠.cell v
 hok:dM X.prog X.w H s.heap
 len:σ.length=X.N.length
section
variable {X:Cx}{pins:List (Addr×Obj)}{σ:List (Option V)}{H H':Hp}{s:Shared}{h':Heap}
theorem Cx.Ok.nofr (ok:X.Ok) {b:Addr}{o:Obj} (e:X.base.get? b=some o):b∉X.fs:=fun hb=>by
 have:=(ok.funs.mem hb).1
 rw [e] at this;cases this
theorem ad.bs (I:ad X pins σ H s):∀b o,X.base.get? b=some o→s.heap.get? b=some o∧H b=none:=fun b o e=>
 ⟨I.base.keep b o (I.ok.bs b o e).1 (I.ok.bs b o e).2 (I.ok.nofr e) (I.ok.noex b o e),I.base.free b o (I.ok.bs b o e).1 (I.ok.bs b o e).2 (I.ok.noex b o e)⟩
theorem ad.bk (I:ad X pins σ H s):∀b o,X.base.get? b=some o→s.heap.get? b=some o:=fun b o e=>(I.bs b o e).1
theorem ad.mod (I:ad X pins σ H s):Mod X.K X.mg X.base:=I.ok.mod
theorem ad.kIn (I:ad X pins σ H s):X.K.In s.heap:=I.ok.mod.kin.keeps I.bk
theorem ad.lt (I:ad X pins σ H s):X.env.locals < #[s]:=let ⟨_,hn,_⟩:=I.loc;hn.lt
theorem ad.sz (I:ad X pins σ H s):X.s₀.heap.objs.size≤#[s]:=le_trans I.ok.above (le_of_lt I.lt)
theorem ad.nofs (I:ad X pins σ H s) {a:Addr} (h:#[s]≤a):a∉X.fs:=fun hb=>by
 obtain ⟨_,o,ho,_⟩:=I.ok.funs.mem hb
 exact absurd (lt_of_lt_of_le (Heap.lt_size ho) (le_trans I.sz h)) (lt_irrefl _)
theorem ad.cne (I:ad X pins σ H s):∀x c,X.env.cells.lookup x=some c→c≠X.env.locals:=fun x c e z=>by
 obtain ⟨v,o,ho,hd⟩:=I.cell x c e
 obtain ⟨m,⟨o',es,ep,ho',hd',_⟩,_⟩:=I.loc
 rw [z,ho'] at ho;cases ho;rw [hd'] at hd;cases hd
theorem ad.funs (I:ad X pins σ H s):s.heap.FunFrames X.base X.outer:=by
 have all:∀(l:List Env),(∀b∈im l,b∈X.fs)→X.s₀.heap.FunFrames X.base l→s.heap.FunFrames X.base l:=by
  intro l
  induction l with
  | nil=>intro _ _;trivial
  | cons env r ih=>
   intro hs hl
   obtain ⟨hk,⟨L,o,hf,hn,ho,hd⟩,hr⟩:=hl
   have hL:L∈X.fs:=hs L (by unfold im;rw [List.filterMap_cons,hf];exact mem_cons_self)
   obtain ⟨sl,e⟩:=I.base.slot L o ho (I.ok.frf L hL) hL fun z=>I.ok.exfs L z hL
   exact ⟨hk,⟨L,_,hf,hn,e,hd⟩,ih (fun b hb=>hs b (by unfold im;rw [List.filterMap_cons,hf];exact mem_cons_of_mem _ hb)) hr⟩
 exact all X.outer (fun _ hb=>hb) I.ok.funs
theorem ad.stack (I:ad X pins σ H s):s.heap.FunFrames X.base X.stack:=by
 rcases I.ok.stk with e | ⟨e,hf⟩
 ·rw [e];exact I.funs
 ·rw [e]
  obtain ⟨m,hn,_⟩:=I.loc
  refine .cons (by rw [I.ok.kind];decide) hf hn ?_ I.funs
  exact Heap.get?_none_of_le (le_trans I.ok.bsz I.ok.above)
theorem ad.stkSub (I:ad X pins σ H s):∀b∈im X.stack,b∈X.env.locals :: X.fs:=fun b hb=>by
 rcases I.ok.stk with e | ⟨e,hf⟩
 ·rw [e] at hb;exact mem_cons_of_mem _ hb
 ·rw [e] at hb
  unfold im at hb
  rw [List.filterMap_cons,hf] at hb
  exact hb
theorem ad.stkFree (I:ad X pins σ H s):∀b∈im X.stack,H b=none:=fun b hb=>by
 rcases List.mem_cons.mp (I.stkSub b hb) with e | hb
 ·rw [e];exact I.free
 ·obtain ⟨_,o,ho,_⟩:=I.ok.funs.mem hb
  exact I.base.free b o ho (I.ok.frf b hb) fun z=>I.ok.exfs b z hb
theorem ad.step {g':Array GenState}{t':Nat}{d':Drawn}{ch:List Addr} (I:ad X pins σ H s)
 (hch:∀b∈ch,(b∈X.ex∨X.s₀.heap.objs.size≤b)∧b≠X.env.locals∧(∀x c,X.env.cells.lookup x=some c→c≠b)∧∀p∈X.pn++pins,p.1≠b)
 (keep:∀b o,b≠X.env.locals→b∉X.fs→b∉ch→s.heap.get? b=some o→H b=none→h'.get? b=some o)
 (slot:∀b o,b≠X.env.locals→b∈X.fs→b∉ch→s.heap.get? b=some o→H b=none→∃sl,h'.get? b=some { o with slots:=sl }) (free:∀b o,b∉ch→s.heap.get? b=some o→H b=none→H' b=none)
 (there:∀b o,b∉ch→s.heap.get? b=some o→∃o',h'.get? b=some o')
 (tups:∀b xs,H b=some (.tup xs)→H' b=some (.tup xs)) (frzs:∀b o u,H b=some (.frz o u)→H' b=some (.frz o u)) (tbls:∀b ps,H b=some (.tbl ps)→∃more,H' b=some (.tbl (ps++more)))
 (ns:∀m,s.heap.Ns X.env.locals m→h'.Ns X.env.locals m) (hok:dM X.prog X.w H' h') (hg:AllBare g') :
 ad X pins σ H' { s with heap:=h',gens:=g',drawn:=d',toks:=t' }:=by
 have neL:∀b o,X.s₀.heap.get? b=some o→b≠X.env.locals:=fun b o e=>ne_of_lt (lt_of_lt_of_le (Heap.lt_size e) I.ok.above)
 have neC:∀b o,X.s₀.heap.get? b=some o→b∉X.ex→b∉ch:=fun b o e hx hb=>by
  rcases (hch b hb).1 with z | z
  ·exact hx z
  ·exact absurd (lt_of_lt_of_le (Heap.lt_size e) z) (lt_irrefl _)
 have cellK:∀x c,X.env.cells.lookup x=some c→∀v,s.heap.IsCell c v→h'.IsCell c v:=fun x c e v ⟨o,ho,hd⟩=>by
  have nch:c∉ch:=fun z=>(hch c z).2.2.1 x c e rfl
  by_cases hc:c∈X.fs
  ·obtain ⟨sl,q⟩:=slot c o (I.cne x c e) hc nch ho (I.freeC x c e)
   exact ⟨_,q,hd⟩
  ·exact ⟨o,keep c o (I.cne x c e) hc nch ho (I.freeC x c e),hd⟩
 refine ⟨I.ok,I.os,hg,⟨fun b o e n hb hx=>?_,fun b o e n hb hx=>?_,fun b o e n hx=>?_,fun b o e hx=>?_,fun b xs e=>tups b xs (I.base.tups b xs e),fun b o xs e=>frzs b o xs (I.base.frzs b o xs e),fun b ps e=>?_⟩,?_,fun x c e=>?_,?_,fun x c e=>?_,fun p hp=>?_,hok,I.len⟩
 ·exact keep b o (neL b o e) hb (neC b o e hx) (I.base.keep b o e n hb hx) (I.base.free b o e n hx)
 ·obtain ⟨sl,e1⟩:=I.base.slot b o e n hb hx
  obtain ⟨sl',e2⟩:=slot b _ (neL b o e) hb (neC b o e hx) e1 (I.base.free b o e n hx)
  exact ⟨sl',e2⟩
 ·obtain ⟨o',e1⟩:=I.base.there b o e hx
  exact free b o' (neC b o e hx) e1 (I.base.free b o e n hx)
 ·obtain ⟨o',e1⟩:=I.base.there b o e hx
  exact there b o' (neC b o e hx) e1
 ·obtain ⟨m1,e1⟩:=I.base.tbls b ps e
  obtain ⟨m2,e2⟩:=tbls b _ e1
  exact ⟨m1++m2,by rw [e2,Array.append_assoc]⟩
 ·obtain ⟨m,hn,hl⟩:=I.loc
  refine ⟨m,ns m hn,fun i x v e1 e2 e3=>?_⟩
  obtain ⟨u,r,l⟩:=hl i x v e1 e2 e3
  refine ⟨u,r,?_⟩
  rcases l with l | ⟨k,c,e,z⟩
  ·exact .inl l
  ·exact .inr ⟨k,c,e,cellK x c e _ z⟩
 ·obtain ⟨v,z⟩:=I.cell x c e
  exact ⟨v,cellK x c e v z⟩
 ·obtain ⟨m,⟨o,_,_,ho,_⟩,_⟩:=I.loc
  exact free _ o (fun z=>(hch _ z).2.1 rfl) ho I.free
 ·obtain ⟨v,o,ho,hd⟩:=I.cell x c e
  exact free c o (fun z=>(hch c z).2.2.1 x c e rfl) ho (I.freeC x c e)
 ·obtain ⟨e,n,ne,nf,d⟩:=I.pin p hp
  have nch:p.1∉ch:=fun z=>(hch p.1 z).2.2.2 p hp rfl
  exact ⟨keep p.1 p.2 ne nf nch e n,free p.1 p.2 nch e n,ne,nf,d⟩
theorem ad.un {t':Nat} (I:ad X pins σ H s) (u:Un X.fs [] H H' s.heap h') (hok:dM X.prog X.w H' h'):ad X pins σ H' { s with heap:=h',toks:=t' }:=by
 obtain ⟨m,⟨o,es,ep,ho,r⟩,_⟩:=id I.loc
 obtain ⟨sl,hL⟩:=u.any ho I.free (by simp)
 exact I.step (g':=s.gens) (d':=s.drawn) (ch:=[]) (fun _ z=>nomatch z) (fun b o _ hb _ e n=>u.keep b o e n hb (by simp)) (fun b o _ hb _ e n=>u.slot b o e n hb (by simp)) (fun b o _ e n=>u.free b o e n (by simp)) (fun b o _ e=>u.there b o e (by simp)) u.tups u.frzs u.tbls (fun m' hm=>by
  obtain ⟨o',es',ep',ho',r'⟩:=hm
  rw [ho] at ho';cases ho'
  exact ⟨_,es',ep',hL,r'⟩) hok I.bare
theorem ad.call {g':Array GenState}{t':Nat}{d':Drawn}{ch:List Addr} (I:ad X pins σ H s) (u:Un (im X.stack) ch H H' s.heap h') (hok:dM X.prog X.w H' h') (hg:AllBare g')
 (hch:∀b∈ch,(b∈X.ex∨X.s₀.heap.objs.size≤b)∧b≠X.env.locals∧(∀x c,X.env.cells.lookup x=some c→c≠b)∧∀p∈X.pn++pins,p.1≠b) :
 ad X pins σ H' { s with heap:=h',gens:=g',drawn:=d',toks:=t' }:=by
 obtain ⟨m,⟨o,es,ep,ho,r⟩,_⟩:=id I.loc
 obtain ⟨sl,hL⟩:=u.any ho I.free fun z=>(hch _ z).2.1 rfl
 exact I.step (ch:=ch) hch (fun b o hL hb hc e n=>u.keep b o e n (fun z=>(List.mem_cons.mp (I.stkSub b z)).elim hL hb) hc) (fun b o _ _ hc e n=>u.any e n hc) (fun b o hc e n=>u.free b o e n hc) (fun b o hc e=>u.there b o e hc) u.tups u.frzs u.tbls (fun m' hm=>by
  obtain ⟨o',es',ep',ho',r'⟩:=hm
  rw [ho] at ho';cases ho'
  exact ⟨_,es',ep',hL,r'⟩) hok hg
theorem ad.turned {t':Nat}{it:Addr} (I:ad X pins σ H s) (k:∀b o,b≠it→s.heap.get? b=some o→h'.get? b=some o) (hn:H it=none) (hL:it≠X.env.locals)
 (h1:it∈X.ex∨X.s₀.heap.objs.size≤it) (h2:∀x c,X.env.cells.lookup x=some c→c≠it) (h3:∀p∈X.pn++pins,p.1≠it):ad X pins σ H { s with heap:=h',toks:=t' }:=by
 have nit:∀b u,H b=some u→b≠it:=fun b u e z=>by rw [z,hn] at e;cases e
 refine I.step (g':=s.gens) (d':=s.drawn) (ch:=[it]) (fun b hb=>?_) (fun b o _ _ hc e _=>k b o (fun z=>hc (by simp [z])) e) (fun b o _ _ hc e _=>⟨o.slots,k b o (fun z=>hc (by simp [z])) e⟩) (fun _ _ _ _ n=>n)
  (fun b o hc e=>⟨o,k b o (fun z=>hc (by simp [z])) e⟩) (fun _ _ e=>e) (fun _ _ _ e=>e) (fun b ps e=>⟨#[],by rw [e];simp⟩) (fun m hm=>?_) (fun b u e=>?_) I.bare
 ·have e:b=it:=by simpa using hb
  subst e
  exact ⟨h1,hL,h2,h3⟩
 ·obtain ⟨o,es,ep,ho,r⟩:=hm
  exact ⟨o,es,ep,k _ o (Ne.symm hL) ho,r⟩
 ·refine (I.hok b u e).stay (fun c v hc q=>k c v ?_ q) (fun _ q=>q) fun _ _ q=>q
  rcases hc with z | z
  ·rw [z];exact nit b u e
  ·exact nit c _ z
theorem ad.tok (I:ad X pins σ H s) (t:Nat):ad X pins σ H { s with toks:=t }:=I.un (h':=s.heap) (t':=t) Un.refl I.hok
theorem ad.kept {t':Nat} (I:ad X pins σ H s) (k:∀b u,s.heap.get? b=some u→h'.get? b=some u):ad X pins σ H { s with heap:=h',toks:=t' }:=I.un (Un.kept k) (I.hok.kept k)
theorem ad.laid {a:Addr}{o:HO}{t':Nat} (I:ad X pins σ H s) (k:∀b u,s.heap.get? b=some u→h'.get? b=some u) (hp:#[s]≤a) (new:be X.prog X.w (aE H a o) h' a o) :
 ad X pins σ (aE H a o) { s with heap:=h',toks:=t' }:=I.un (Un.laid k hp (I.hok.fresh hp)) (I.hok.laid k hp new)
theorem ad.write {x e:Addr}{o:HO}{t':Nat} (I:ad X pins σ H s) (mu:FO (H x)) (he:e=x∨H e=some (.own x)) (k:∀b u,b≠e→s.heap.get? b=some u→h'.get? b=some u) (heo:∃u,h'.get? e=some u)
 (new:be X.prog X.w (aE H x o) h' x o):ad X pins σ (aE H x o) { s with heap:=h',toks:=t' }:=I.un (Un.write mu he k heo) (I.hok.write mu he k heo new)
theorem ad.weak {σ':List (Option V)} (I:ad X pins σ H s) (hl:σ'.length=σ.length) (w:∀(i:Nat) v,σ'[i]?=some (some v)→σ[i]?=some (some v)):ad X pins σ' H s:=
 ⟨I.ok,I.os,I.bare,I.base,let ⟨m,hn,hl'⟩:=I.loc;⟨m,hn,fun i x v e1 e2 e3=>hl' i x v e1 (w i v e2) e3⟩,I.cell,I.free,I.freeC,I.pin,I.hok,hl.trans I.len⟩
theorem ad.pins_of {pins':List (Addr×Obj)} (I:ad X pins σ H s) (h:∀p∈pins',s.heap.get? p.1=some p.2∧H p.1=none∧p.1≠X.env.locals∧p.1∉X.fs∧∀v,p.2.data≠.cell v):ad X pins' σ H s:=
 ⟨I.ok,I.os,I.bare,I.base,I.loc,I.cell,I.free,I.freeC,fun p hp=>(List.mem_append.mp hp).elim (fun z=>I.pin p (mem_append_left _ z)) (h p),I.hok,I.len⟩
theorem wq {N:List Str} (hN:N.Nodup) {i j:Nat}{x:Str} (a:N[i]?=some x) (b:N[j]?=some x):i=j:=by
 obtain ⟨h1,e1⟩:=List.getElem?_eq_some_iff.mp a
 obtain ⟨h2,e2⟩:=List.getElem?_eq_some_iff.mp b
 exact (List.getElem_inj hN).mp (e1.trans e2.symm)
theorem uz {M:Model}{A:Around}{E:Value→Shared→Prop}{i:Nat}{x:Str}{v:V}{u:Value}{Q:Unit→Shared→Prop} (I:ad X pins σ H s) (hN:X.N.Nodup) (hi:X.N[i]?=some x) (hx:FM X.env.scope x) (r:aO v u)
 (h:∀s',ad X pins (σ.set i (some v)) H s'→(∃a,Heap.SameBut a s.heap s'.heap∧(a=X.env.locals∨X.env.cells.lookup x=some a))→Q () s') (hf:X.fn x=true∨X.env.scope.names.lookup x=some .local:=by first | exact .inl rfl | exact .inr rfl | assumption):wpAny M A (storeName X.env x u) Q E s:=by
 obtain ⟨m,hn,hl⟩:=id I.loc
 have hcls:(X.env.scope.kind==.class || (X.env.scope.kind==.module && X.env.locals != X.env.globals))=false:=by rw [I.ok.kind];rfl
 have hiσ:i<σ.length:=by rw [I.len];exact (List.getElem?_eq_some_iff.mp hi).1
 have cne:=I.cne
 have tracked:∀{a:Addr}{h':Heap},(∃o,s.heap.get? a=some o∧H a=none)→Heap.SameBut a s.heap h'→dM X.prog X.w H h':=fun {a h'} ha hs b ob e=>by
  obtain ⟨_,_,hfree⟩:=ha
  refine (I.hok b ob e).stay (fun c w' hc q=>(hs.2 c ?_).trans q) (fun _ q=>q) fun _ _ q=>q
  rintro rfl
  rcases hc with rfl | hc
  ·rw [hfree] at e;cases e
  ·rw [hfree] at hc;cases hc
 rcases hx with hk | hk
 ·refine wpAny_storeName_local hk hn (fun h' hn' hs=>?_) hcls
  obtain ⟨oL,_,_,hoL,_⟩:=id hn
  refine h _ ⟨I.ok,I.os,I.bare,⟨fun b o e n hb hx=>?_,fun b o e n hb hx=>?_,I.base.free,fun b o e hx=>?_,I.base.tups,I.base.frzs,I.base.tbls⟩,⟨_,hn',fun j y v' e1 e2 e3=>?_⟩,fun y c e=>?_,I.free,I.freeC,fun p hp=>?_,tracked ⟨oL,hoL,I.free⟩ hs,by simpa using I.len⟩ ⟨_,hs,.inl rfl⟩
  ·exact (hs.2 b (ne_of_lt (lt_of_lt_of_le (Heap.lt_size e) I.ok.above))).trans (I.base.keep b o e n hb hx)
  ·obtain ⟨sl,e1⟩:=I.base.slot b o e n hb hx
   exact ⟨sl,(hs.2 b (ne_of_lt (lt_of_lt_of_le (Heap.lt_size e) I.ok.above))).trans e1⟩
  ·obtain ⟨o',e1⟩:=I.base.there b o e hx
   exact ⟨o',(hs.2 b (ne_of_lt (lt_of_lt_of_le (Heap.lt_size e) I.ok.above))).trans e1⟩
  ·by_cases hj:j=i
   ·subst hj
    rw [hi] at e1;cases e1
    rw [getElem?_set_self hiσ] at e2
    cases e2
    exact ⟨u,r,.inl ⟨hk,by simp⟩⟩
   ·rw [getElem?_set_ne (Ne.symm hj)] at e2
    obtain ⟨u',r',q⟩:=hl j y v' e1 e2 e3
    refine ⟨u',r',?_⟩
    rcases q with ⟨k,e⟩ | ⟨k,c,e,z⟩
    ·refine .inl ⟨k,?_⟩
     have:y≠x:=fun e=>hj (wq hN e1 (e▸hi))
     simp [this,e]
    ·exact .inr ⟨k,c,e,z.sameBut hs (cne y c e)⟩
  ·obtain ⟨w',z⟩:=I.cell y c e
   exact ⟨w',z.sameBut hs (cne y c e)⟩
  ·obtain ⟨e,n,ne,nf,d⟩:=I.pin p hp
   exact ⟨(hs.2 p.1 ne).trans e,n,ne,nf,d⟩
 ·have hfn:X.fn x=true:=by
   rcases hf with z | z
   ·exact z
   ·rw [z] at hk;cases hk
  obtain ⟨c,hc⟩:=I.ok.has x (.inl hk)
  obtain ⟨w',z⟩:=I.cell x c hc
  refine wpAny_storeName_cell I.ok.kind hk hc z (fun h' hc' hs=>?_)
  obtain ⟨oc,hoc,hocd⟩:=id z
  refine h { s with heap:=h' } ⟨I.ok,I.os,I.bare,⟨fun b o e n hb hx=>?_,fun b o e n hb hx=>?_,I.base.free,fun b o e hx=>?_,I.base.tups,I.base.frzs,I.base.tbls⟩,⟨m,hn.sameBut hs (Ne.symm (cne x c hc)),fun j y v' e1 e2 e3=>?_⟩,fun y c' e=>?_,I.free,I.freeC,fun p hp=>?_,tracked ⟨oc,hoc,I.freeC x c hc⟩ hs,by simpa using I.len⟩ ⟨c,hs,.inr hc⟩
  ·exact (hs.2 b (ne_of_lt (lt_of_lt_of_le (Heap.lt_size e) (I.ok.cab x c hfn hc)))).trans (I.base.keep b o e n hb hx)
  ·obtain ⟨sl,e1⟩:=I.base.slot b o e n hb hx
   exact ⟨sl,(hs.2 b (ne_of_lt (lt_of_lt_of_le (Heap.lt_size e) (I.ok.cab x c hfn hc)))).trans e1⟩
  ·obtain ⟨o',e1⟩:=I.base.there b o e hx
   exact ⟨o',(hs.2 b (ne_of_lt (lt_of_lt_of_le (Heap.lt_size e) (I.ok.cab x c hfn hc)))).trans e1⟩
  ·by_cases hj:j=i
   ·subst hj
    rw [hi] at e1;cases e1
    rw [getElem?_set_self hiσ] at e2
    cases e2
    exact ⟨u,r,.inr ⟨.inl hk,c,hc,hc'⟩⟩
   ·rw [getElem?_set_ne (Ne.symm hj)] at e2
    obtain ⟨u',r',q⟩:=hl j y v' e1 e2 e3
    refine ⟨u',r',?_⟩
    rcases q with q | ⟨k,c',e,z'⟩
    ·exact .inl q
    ·refine .inr ⟨k,c',e,z'.sameBut hs ?_⟩
     rintro rfl
     exact hj (wq hN e1 (I.ok.inj _ _ _ e hc▸hi))
  ·by_cases hcc:c'=c
   ·subst hcc;exact ⟨_,hc'⟩
   ·obtain ⟨w2,z2⟩:=I.cell y c' e
    exact ⟨w2,z2.sameBut hs hcc⟩
  ·obtain ⟨e,n,ne,nf,d⟩:=I.pin p hp
   refine ⟨(hs.2 p.1 ?_).trans e,n,ne,nf,d⟩
   intro q
   rw [q,hoc] at e
   have q':oc=p.2:=Option.some.inj e
   exact d w' (by rw [←q'];exact hocd)
theorem kY {M:Model}{A:Around}{E:Value→Shared→Prop}{i:Nat}{x:Str}{v:V}{u:Value}{Q:Unit→Shared→Prop} (I:ad X pins σ H s) (hN:X.N.Nodup) (hi:X.N[i]?=some x) (hx:FM X.env.scope x) (r:aO v u)
 (h:∀s',ad X pins (σ.set i (some v)) H s'→Q () s') (hf:X.fn x=true∨X.env.scope.names.lookup x=some .local:=by first | exact .inl rfl | exact .inr rfl | assumption):wpAny M A (storeName X.env x u) Q E s:=
 uz I hN hi hx r (fun s' I' _=>h s' I') hf
theorem ad.call' {s':Shared}{ch:List Addr} (I:ad X pins σ H s) (ho:s'.os=s.os) (u:Un (im X.stack) ch H H' s.heap s'.heap) (hok:dM X.prog X.w H' s'.heap) (hg:AllBare s'.gens)
 (hch:∀b∈ch,(b∈X.ex∨X.s₀.heap.objs.size≤b)∧b≠X.env.locals∧(∀x c,X.env.cells.lookup x=some c→c≠b)∧∀p∈X.pn++pins,p.1≠b):ad X pins σ H' s':=by
 obtain ⟨h',g',d',t',o'⟩:=s'
 have e:o'=s.os:=ho
 subst e
 exact I.call (g':=g') (t':=t') (d':=d') u hok hg hch
end
abbrev XK:=Value→Option Addr→Hp→Prop
abbrev St:=List (Option V)
abbrev VK:=V→Hp→Prop
abbrev TE:=St→Hp→VK→Prop
abbrev TT:=St→Hp→(Bool→Hp→Prop)→Prop
abbrev TA:=St→Hp→(List V→Hp→Prop)→Prop
structure dj where
 nx:St→Hp→Prop
 rt:VK
 bk:St→Hp→Prop:=fun _ _=>False
 ct:St→Hp→Prop:=fun _ _=>False
abbrev TS:=dj→St→Hp→Prop
inductive EP (X:Cx) (pins:List (Addr×Obj)) (σ:St) (Q:VK) (u:Value) (s':Shared):Prop
 | mk (v:_) (H':_) (h0:ad X pins σ H' s') (h1:aO v u) (h2:Q v H')
def TP (X:Cx) (pins:List (Addr×Obj)) (σ:St) (Q:Bool→Hp→Prop) (b:Bool) (s':Shared):Prop:=∃H',ad X pins σ H' s'∧Q b H'
inductive AP (X:Cx) (pins:List (Addr×Obj)) (σ:St) (Q:List V→Hp→Prop) (us:List Value) (s':Shared):Prop
 | mk (vs:_) (H':_) (h0:ad X pins σ H' s') (h1:aD vs us) (h2:Q vs H')
def SP (X:Cx) (pins:List (Addr×Obj)) (D:dj) (f:Flow) (s':Shared):Prop:=
 match f with
 | .next=>∃σ' H',ad X pins σ' H' s'∧D.nx σ' H'
 | .brk=>∃σ' H',ad X pins σ' H' s'∧D.bk σ' H'
 | .cont=>∃σ' H',ad X pins σ' H' s'∧D.ct σ' H'
 | .ret u=>∃v σ' H',ad X pins σ' H' s'∧aO v u∧D.rt v H'
def PE (X:Cx) (e:Expr) (t:TE):Prop:=
 ∀(pins:List (Addr×Obj)) (s:Shared) (σ:St) (H:Hp) (Q:VK),ad X pins σ H s→t σ H Q→wpAny (model X.prog X.w) X.A (eval e X.env) (EP X pins σ Q) X.xe s
def PT (X:Cx) (e:Expr) (t:TT):Prop:=
 ∀(pins:List (Addr×Obj)) (s:Shared) (σ:St) (H:Hp) (Q:Bool→Hp→Prop),ad X pins σ H s→t σ H Q→wpAny (model X.prog X.w) X.A (isTrue e X.env (eval e X.env)) (TP X pins σ Q) X.xe s
def PW (X:Cx) (e:Expr) (t:TT):Prop:=
 ∀(whole:Sem Value) (pins:List (Addr×Obj)) (s:Shared) (σ:St) (H:Hp) (Q:Bool→Hp→Prop),ad X pins σ H s→t σ H Q→wpAny (model X.prog X.w) X.A (isTrue e X.env whole) (TP X pins σ Q) X.xe s
theorem PW.pt {X:Cx}{e:Expr}{t:TT} (h:PW X e t):PT X e t:=h _
def PA (X:Cx) (es:List Expr) (t:TA):Prop:=
 ∀(pos:Pos) (pins:List (Addr×Obj)) (s:Shared) (σ:St) (H:Hp) (Q:List V→Hp→Prop),ad X pins σ H s→t σ H Q→wpAny (model X.prog X.w) X.A (spliced (backTo pos (starEach es X.env))) (AP X pins σ Q) X.xe s
def PS (X:Cx) (st:Stmt) (t:TS):Prop:=
 ∀(pins:List (Addr×Obj)) (s:Shared) (σ:St) (H:Hp) (D:dj),ad X pins σ H s→t D σ H→wpAny (model X.prog X.w) X.A (exec st X.env) (SP X pins D) X.xe s
def mJ (X:Cx) (st:List Stmt) (t:TS):Prop:=
 ∀(pins:List (Addr×Obj)) (s:Shared) (σ:St) (H:Hp) (D:dj),ad X pins σ H s→t D σ H→wpAny (model X.prog X.w) X.A (execs st X.env) (SP X pins D) X.xe s
theorem aL {α:Type}{t:Sem α}{Q Q':α→Shared→Prop}{M:Model}{A:Around}{E:Value→Shared→Prop}{s:Shared} (h:wpAny M A t Q E s) (hQ:∀a s,Q a s→Q' a s):wpAny M A t Q' E s:=wpAny_mono h hQ fun _ _ x=>x
section
variable {X:Cx}
inductive KZ (i:Nat) (σ:St) (H:Hp) (Q:VK):Prop
 | mk (v:_) (h0:σ[i]?=some (some v)) (h1:Q v H)
def ET (i:Nat):TE:=fun σ H Q=>KZ i σ H Q
def tC (v:V):TE:=fun _ H Q=>Q v H
theorem CI {i:Nat}{x:Str}{pos:Pos} (hN:X.N[i]?=some x) (hv:Cy X.env.scope x) (hd:(x==("__debug__" : Str))=false:=by ext) (hcd:(x==("__classdict__" : Str))=false:=by ext):PE X (.Name x pos) (ET i):=by
 intro pins s σ H Q I h
 obtain ⟨v,e,h⟩:=h
 obtain ⟨m,hn,hl⟩:=I.loc
 obtain ⟨u,r,l⟩:=hl i x v hN e hv
 have aV:EP X pins σ Q u s:=⟨v,H,I,r,h⟩
 rcases l with ⟨hk,hm⟩ | ⟨hk,c,hc,hcell⟩
 ·exact wpAny_Name (wpAny_loadName_local I.ok.kind hk hn hm aV) hd
 ·rcases hk with hk | hk
  ·exact wpAny_Name (wpAny_loadName_cell I.ok.kind hk hc hcell aV) hd
  ·exact wpAny_Name (wpAny_loadName_free I.ok.kind hk hc hcell aV hcd) hd
theorem bJ {i j pos}:PE X (.Constant (.int i) j pos) (tC (.int i)):=fun _ _ _ H _ I h=>wpAny_Constant_int ⟨.int i,H,I.tok _,⟨()⟩,h⟩
theorem cM {b j pos}:PE X (.Constant (.bool b) j pos) (tC (.bl b)):=fun _ _ _ H _ I h=>Constant_bool ⟨.bl b,H,I,rfl,h⟩
theorem cj {j pos}:PE X (.Constant .none j pos) (tC .non):=fun _ _ _ H _ I h=>Constant_none ⟨.non,H,I,rfl,h⟩
theorem dJ {x j pos}:PE X (.Constant (.str x) j pos) (tC (.str x)):=fun _ _ _ H _ I h=>Calls.Constant_str ⟨.str x,H,I.tok _,⟨()⟩,h⟩
def Gl (X:Cx) (x:Str):Prop:=X.env.kindOf x=some .globalImplicit
theorem nh {E:Value→Shared→Prop}{pins:List (Addr×Obj)}{s:Shared}{σ:St}{H:Hp}{x:Str}{u:Value}{pos:Pos}{Q:Value→Shared→Prop} (I:ad X pins σ H s) (hg:Gl X x) (hm:X.mg x=some u) (h:Q u s)
 (hd:(x==("__debug__" : Str))=false:=by ext):wpAny (model X.prog X.w) X.A (eval (.Name x pos) X.env) Q E s:=
 Calls.Name_function_global I.ok.kind hg (Calls.loadGlobal_global (by rw [I.ok.glob];exact I.mod.glob.keeps I.bk) hm h) hd
theorem f9 {E:Value→Shared→Prop}{pins:List (Addr×Obj)}{s:Shared}{σ:St}{H:Hp}{x:Str}{u:Value}{pos:Pos}{Q:Value→Shared→Prop} (I:ad X pins σ H s) (hg:Gl X x) (hm:X.mg x=none) (hv:bootBuiltins x=some u) (h:Q u s)
 (hn:x≠"__name__" := by ext) (hd:(x==("__debug__" : Str))=false:=by ext):wpAny (model X.prog X.w) X.A (eval (.Name x pos) X.env) Q E s:=by
 obtain ⟨mb,h1,h2⟩:=I.mod.blt
 exact Calls.Name_function_global I.ok.kind hg (Calls.loadGlobal_builtin (by rw [I.ok.glob];exact I.mod.glob.keeps I.bk) hm (by rw [I.ok.blt];exact h1.keeps I.bk) ((h2 x hn).trans hv) h) hd
theorem Gr {x:Str}{v:V}{u:Value}{pos:Pos} (hg:Gl X x) (hm:X.mg x=none) (hv:bootBuiltins x=some u) (r:aO v u) (hn:x≠"__name__" := by ext) (hd:(x==("__debug__" : Str))=false:=by ext):PE X (.Name x pos) (tC v):=
 fun _ _ _ H _ I h=>f9 I hg hm hv ⟨v,H,I,r,h⟩ hn hd
variable {a b:Expr}{ta tb:TE}{pos:Pos}
inductive xJ (x:V) (P:Bool→Prop):Prop
 | mk (c:Bool) (e:x=.bl c) (h:P c)
inductive Ho (x:V) (P:Int→Prop):Prop
 | mk (c:Int) (e:x=.int c) (h:P c)
def tB (t:TE):TT:=fun σ H Q=>t σ H fun x H1=>xJ x fun c=>Q c H1
theorem bQ {e:Expr}{t:TE} (h:PE X e t) (he:∀whole,isTrue e X.env whole=(do let v ←whole;standAt e.pos;holding [v] (truthy v)):=by intro _;rfl):PT X e (tB t):=by
 intro pins s σ H Q I hw
 refine isTrue_plain (aL (h pins s σ H _ I hw) fun v s1 ⟨x,H1,I1,r1,q1⟩=>?_) (he _)
 obtain ⟨d,rfl,q⟩:=q1
 cases r1
 exact wpAny_truthy_bool ⟨H1,I1,q⟩
variable {tA tB':TT}{rest:List Expr}
def Lx (t u:TT):TT:=fun σ H Q=>t σ H fun c H1=>if c=true then u σ H1 Q else Q false H1
def Mv (t u:TT):TT:=fun σ H Q=>t σ H fun c H1=>if c=true then Q true H1 else u σ H1 Q
def LK (t:TT):TT:=fun σ H Q=>t σ H fun c H1=>Q (!c) H1
theorem AT (ha:PT X a tA):PW X (.BoolOp .And [a] pos) tA:=by
 intro wh pins s σ H Q I h
 refine isTrue_and (aL (ha pins s σ H Q I h) fun c s1 e=>?_)
 cases c with
 | true=>exact isTrue_and_nil e
 | false=>exact e
theorem iH (ha:PT X a tA):PW X (.BoolOp .Or [a] pos) tA:=by
 intro wh pins s σ H Q I h
 refine isTrue_or (aL (ha pins s σ H Q I h) fun c s1 e=>?_)
 cases c with
 | false=>exact isTrue_or_nil e
 | true=>exact e
theorem Db (ha:PT X a tA) (hb:PW X (.BoolOp .And (b :: rest) pos) tB'):PW X (.BoolOp .And (a :: b :: rest) pos) (Lx tA tB'):=by
 intro wh pins s σ H Q I h
 refine isTrue_and (aL (ha pins s σ H _ I h) fun c s1 ⟨H1,I1,q1⟩=>?_)
 cases c with
 | true=>exact hb wh pins s1 σ H1 Q I1 q1
 | false=>exact ⟨H1,I1,q1⟩
theorem iY (ha:PT X a tA) (hb:PW X (.BoolOp .Or (b :: rest) pos) tB'):PW X (.BoolOp .Or (a :: b :: rest) pos) (Mv tA tB'):=by
 intro wh pins s σ H Q I h
 refine isTrue_or (aL (ha pins s σ H _ I h) fun c s1 ⟨H1,I1,q1⟩=>?_)
 cases c with
 | true=>exact ⟨H1,I1,q1⟩
 | false=>exact hb wh pins s1 σ H1 Q I1 q1
theorem da (ha:PT X a tA):PT X (.UnaryOp .Not a pos) (LK tA):=by
 intro pins s σ H Q I h
 exact isTrue_not (ha pins s σ H (fun c H1=>Q (!c) H1) I h)
def JM (ta tb:TE):TE:=fun σ H Q=>ta σ H fun x H1=>xJ x fun c=>if c=true then tb σ H1 Q else Q (.bl false) H1
def LW (ta tb:TE):TE:=fun σ H Q=>ta σ H fun x H1=>xJ x fun c=>if c=true then Q (.bl true) H1 else tb σ H1 Q
def JU (ta:TE):TE:=fun σ H Q=>ta σ H fun x H1=>xJ x fun c=>Q (.bl (!c)) H1
theorem l7 {op}{t:TE} (h:PE X a t):PE X (.BoolOp op [a] pos) t:=fun pins s σ H Q I hw=>BoolOp_one (h pins s σ H Q I hw)
theorem qd (ha:PE X a ta) (hb:PE X (.BoolOp .And (b :: rest) pos) tb):PE X (.BoolOp .And (a :: b :: rest) pos) (JM ta tb):=by
 intro pins s σ H Q I h
 refine BoolOp_and (aL (ha pins s σ H _ I h) fun v s1 ⟨x,H1,I1,r1,q1⟩=>?_)
 obtain ⟨c,rfl,q1⟩:=q1
 cases r1
 refine wpAny_truthy_bool ?_
 cases c with
 | true=>exact hb pins s1 σ H1 Q I1 q1
 | false=>exact ⟨.bl false,H1,I1,rfl,q1⟩
theorem FE (ha:PE X a ta) (hb:PE X (.BoolOp .Or (b :: rest) pos) tb):PE X (.BoolOp .Or (a :: b :: rest) pos) (LW ta tb):=by
 intro pins s σ H Q I h
 refine BoolOp_or (aL (ha pins s σ H _ I h) fun v s1 ⟨x,H1,I1,r1,q1⟩=>?_)
 obtain ⟨c,rfl,q1⟩:=q1
 cases r1
 refine wpAny_truthy_bool ?_
 cases c with
 | false=>exact hb pins s1 σ H1 Q I1 q1
 | true=>exact ⟨.bl true,H1,I1,rfl,q1⟩
theorem Hn (ha:PE X a ta):PE X (.UnaryOp .Not a pos) (JU ta):=by
 intro pins s σ H Q I h
 refine UnaryOp_ (aL (ha pins s σ H _ I h) fun v s1 ⟨x,H1,I1,r1,q1⟩=>?_)
 obtain ⟨c,rfl,q1⟩:=q1
 cases r1
 exact not_of (wpAny_truthy_bool ⟨.bl (!c),H1,I1,rfl,q1⟩)
def Mw (t:TT) (ta tb:TE):TE:=fun σ H Q=>t σ H fun c H1=>if c=true then ta σ H1 Q else tb σ H1 Q
theorem fA {c:Expr} (hc:PT X c tA) (ha:PE X a ta) (hb:PE X b tb):PE X (.IfExp c a b pos) (Mw tA ta tb):=by
 intro pins s σ H Q I h
 refine wpAny_IfExp (aL (hc pins s σ H _ I h) fun d s1 ⟨H1,I1,q1⟩=>?_)
 cases d with
 | true=>exact ha pins s1 σ H1 Q I1 q1
 | false=>exact hb pins s1 σ H1 Q I1 q1
end
def aq (K:Frag) (H:Hp) (a:Addr) (xs:List V):Prop:=
 Rd H a (.lst xs)∨
  eF fun (o:Obj) (its:Array Value) (n:Nat)=>K.lookup a=some o∧o.cls=.type "list"∧o.dict=none∧o.data=.seq its n∧its.size≤sizeLine∧aD xs its.toList
def af (K:Frag) (H:Hp) (a:Addr) (xs:List V):Prop:=
 Rd H a (.tup xs)∨
  eF fun (o:Obj) (its:Array Value) (n:Nat)=>K.lookup a=some o∧o.cls=.type "tuple"∧o.data=.seq its n∧its.size≤sizeLine∧aD xs its.toList
def LL:Value→Option V
 | .none=>some .non
 | .bool b=>some (.bl b)
 | .int i _=>some (.int i)
 | .str x _=>some (.str x)
 | .bytes b _=>some (.byt b)
 | .float b _=>some (.flt b)
 | .ref a=>some (.ref a)
 | .type n=>some (.ty n)
 | _=>none
theorem aO.abs {x:V}{u:Value} (r:aO x u):LL u=some x:=by
 cases x with
 | non=>cases r;rfl
 | bl _=>cases r;rfl
 | int _=>obtain ⟨t,rfl⟩:=r;rfl
 | str _=>obtain ⟨t,rfl⟩:=r;rfl
 | byt _=>obtain ⟨t,rfl⟩:=r;rfl
 | flt _=>obtain ⟨t,rfl⟩:=r;rfl
 | ref _=>cases r;rfl
 | ty _=>cases r;rfl
theorem aO.inj {x y:V}{u:Value} (r:aO x u) (q:aO y u):x=y:=Option.some.inj (r.abs.symm.trans q.abs)
theorem aD.inj:∀{xs ys:List V}{us:List Value},aD xs us→aD ys us→xs=ys
 | _,_,_,.nil,.nil=>rfl
 | _,_,_,.cons r t,.cons r' t'=>by rw [r.inj r',aD.inj t t']
section
variable {X:Cx}{pins:List (Addr×Obj)}{σ:St}{H:Hp}{s:Shared}{a:Addr}{xs ys:List V}
theorem aq.of {K:Frag} (h:H a=some (.lst xs)):aq K H a xs:=.inl (.inl h)
theorem af.of {K:Frag} (h:H a=some (.tup xs)):af K H a xs:=.inl (.inl h)
theorem ad.list (I:ad X pins σ H s) (h:aq X.K H a xs):∃its:List Value,aD xs its∧PlainL s.heap a its.toArray∧xs.length≤sizeLine:=by
 rcases h with h | ⟨o,its,n,hk,hc,hd,hs,hz,r⟩
 ·obtain ⟨z,its,n,r,e⟩:=h.ok I.hok
  exact ⟨its,r,⟨_,n,e,rfl,rfl,rfl⟩,z⟩
 ·refine ⟨its.toList,r,⟨o,n,I.kIn a o hk,hc,hd,by simpa using hs⟩,?_⟩
  have e:=r.length
  simp only [Array.length_toList] at e
  lia
theorem ad.tuple (I:ad X pins σ H s) (h:af X.K H a xs):∃its:List Value,aD xs its∧IsTup s.heap a its.toArray∧xs.length≤sizeLine:=by
 rcases h with h | ⟨o,its,n,hk,hc,hs,hz,r⟩
 ·obtain ⟨z,its,r,p,_⟩:=h.ok I.hok
  exact ⟨its,r,p,z⟩
 ·refine ⟨its.toList,r,⟨o,I.kIn a o hk,hc,n,by simpa using hs⟩,?_⟩
  have e:=r.length
  simp only [Array.length_toList] at e
  lia
theorem ad.list_inj (I:ad X pins σ H s) (h:aq X.K H a xs) (h':aq X.K H a ys):xs=ys:=by
 obtain ⟨its,r,⟨o,n,e,_,_,d⟩,_⟩:=I.list h
 obtain ⟨its',r',⟨o',n',e',_,_,d'⟩,_⟩:=I.list h'
 rw [e] at e';cases e'
 rw [d] at d'
 injection d' with d1 _
 have:its=its':=by simpa using congrArg Array.toList d1
 subst this
 exact r.inj r'
theorem ad.tuple_inj (I:ad X pins σ H s) (h:af X.K H a xs) (h':af X.K H a ys):xs=ys:=by
 obtain ⟨its,r,⟨o,e,_,n,d⟩,_⟩:=I.tuple h
 obtain ⟨its',r',⟨o',e',_,n',d'⟩,_⟩:=I.tuple h'
 rw [e] at e';cases e'
 rw [d] at d'
 injection d' with d1 _
 have:its=its':=by simpa using congrArg Array.toList d1
 subst this
 exact r.inj r'
end
abbrev Cx.wish (X:Cx) (E:Value→Shared→Prop):Cx:={ X with xe:=E }
abbrev Cx.nox (X:Cx):Cx:=X.wish fun _ _=>False
theorem Cx.Ok.wish {X:Cx} (ok:X.Ok) (E:Value→Shared→Prop):(X.wish E).Ok:=
 ⟨ok.mod,ok.kind,ok.glob,ok.blt,ok.above,ok.inj,ok.has,ok.cab,ok.hd,ok.frames,ok.stk,ok.exf,ok.bs,ok.bsz,ok.noex,ok.exfs,ok.funs,ok.frf⟩
theorem Cx.Ok.unwish {X:Cx}{E:Value→Shared→Prop} (ok:(X.wish E).Ok):X.Ok:=
 ⟨ok.mod,ok.kind,ok.glob,ok.blt,ok.above,ok.inj,ok.has,ok.cab,ok.hd,ok.frames,ok.stk,ok.exf,ok.bs,ok.bsz,ok.noex,ok.exfs,ok.funs,ok.frf⟩
section
variable {X:Cx}{pins:List (Addr×Obj)}{σ:St}{H:Hp}{s:Shared}{E:Value→Shared→Prop}
theorem ad.wish (I:ad X pins σ H s) (E:Value→Shared→Prop):ad (X.wish E) pins σ H s:=⟨I.ok.wish E,I.os,I.bare,I.base,I.loc,I.cell,I.free,I.freeC,I.pin,I.hok,I.len⟩
theorem ad.unwish (I:ad (X.wish E) pins σ H s):ad X pins σ H s:=⟨I.ok.unwish,I.os,I.bare,I.base,I.loc,I.cell,I.free,I.freeC,I.pin,I.hok,I.len⟩
theorem SP.unwish {D:dj}{f:Flow}{s':Shared} (h:SP (X.wish E) pins D f s'):SP X pins D f s':=by
 cases f with
 | next=>obtain ⟨σ',H',I,q⟩:=h;exact ⟨σ',H',I.unwish,q⟩
 | brk=>obtain ⟨σ',H',I,q⟩:=h;exact ⟨σ',H',I.unwish,q⟩
 | cont=>obtain ⟨σ',H',I,q⟩:=h;exact ⟨σ',H',I.unwish,q⟩
 | ret u=>obtain ⟨v,σ',H',I,r,q⟩:=h;exact ⟨v,σ',H',I.unwish,r,q⟩
theorem mJ.nox {st:List Stmt}{t:TS} (h:mJ X.nox st t):mJ X st t:=fun pins s σ H D I hw=>
 wpAny_mono (h pins s σ H D (I.wish _) hw) (fun _ _ q=>q.unwish) fun _ _ z=>False.elim z
end
section
variable {X:Cx}{st:Stmt}{rest:List Stmt}{t u:TS}{e:Expr}{te:TE}{pos:Pos}
def Ft:TS:=fun D σ H=>D.nx σ H
def kN (t u:TS):TS:=fun D σ H=>t { D with nx:=u D } σ H
theorem aJ:mJ X [] Ft:=fun _ _ σ H _ I h=>wpAny_execs_nil ⟨σ,H,I,h⟩
theorem fC (h1:PS X st t) (h2:mJ X rest u):mJ X (st :: rest) (kN t u):=by
 intro pins s σ H D I h
 refine wpAny_execs_cons (aL (h1 pins s σ H { D with nx:=u D } I h) fun f s1 q=>?_)
 cases f with
 | next=>
  obtain ⟨σ',H',I',q⟩:=q
  exact h2 pins s1 σ' H' D I' q
 | ret v=>exact q
 | brk=>exact q
 | cont=>exact q
theorem ac (h1:PS X st t):mJ X [st] t:=by
 intro pins s σ H D I h
 refine wpAny_execs_cons (aL (h1 pins s σ H D I h) fun f s1 q=>?_)
 cases f with
 | next=>exact wpAny_execs_nil q
 | ret v=>exact q
 | brk=>exact q
 | cont=>exact q
def Kk:TS:=fun D σ H=>D.ct σ H
theorem GY:PS X (.Pass pos) Ft:=fun _ _ σ H _ I h=>wpAny_Pass ⟨σ,H,I,h⟩
theorem AF:PS X (.Continue pos) Kk:=fun _ _ σ H _ I h=>wpAny_Continue ⟨σ,H,I,h⟩
theorem ad.quiet {pins:List (Addr×Obj)}{σ:St}{H:Hp}{s:Shared} (I:ad X pins σ H s):interactive X.env=false:=by simp [interactive,I.ok.kind]
def KO (te:TE):TS:=fun D σ H=>te σ H fun _ H1=>D.nx σ H1
theorem f8 (he:PE X e te) (hs:swapsWith e none pos.line X.env=pure false:=by rfl):PS X (.Expr e pos) (KO te):=by
 intro pins s σ H D I h
 exact wpAny_Expr_any (aL (he pins s σ H _ I h) fun v s1 ⟨x,H1,I1,r1,q1⟩=>⟨σ,H1,I1,q1⟩) I.quiet hs
def Md (te:TE):TS:=fun D σ H=>te σ H D.rt
theorem am (he:PE X e te):PS X (.Return (some e) pos) (Md te):=by
 intro pins s σ H D I h
 exact wpAny_Return_some (aL (he pins s σ H _ I h) fun v s1 ⟨x,H1,I1,r1,q1⟩=>⟨x,σ,H1,I1,r1,q1⟩)
def Ei (c:TT) (t u:TS):TS:=fun D σ H=>c σ H fun b H1=>if b=true then t D σ H1 else u D σ H1
theorem bd {c:Expr}{a b:List Stmt}{tc:TT} (hc:PT X c tc) (ha:mJ X a t) (hb:mJ X b u):PS X (.If c a b pos) (Ei tc t u):=by
 intro pins s σ H D I h
 refine wpAny_If (aL (hc pins s σ H _ I h) fun d s1 ⟨H1,I1,q1⟩=>?_)
 cases d with
 | true=>exact ha pins s1 σ H1 D I1 q1
 | false=>exact hb pins s1 σ H1 D I1 q1
end
abbrev TG:=V→St→Hp→(St→Hp→Prop)→Prop
abbrev vm:=List V→St→Hp→(St→Hp→Prop)→Prop
def PG (X:Cx) (target:Expr) (t:TG):Prop:=
 ∀(pins:List (Addr×Obj)) (s:Shared) (σ:St) (H:Hp) (v:V) (u:Value) (Q:St→Hp→Prop),ad X pins σ H s→aO v u→t v σ H Q→
   wpAny (model X.prog X.w) X.A (assign target X.env u) (fun _ s'=>∃σ' H',ad X pins σ' H' s'∧Q σ' H') X.xe s
def DS (X:Cx) (ts:List Expr) (t:vm):Prop:=
 ∀(pins:List (Addr×Obj)) (s:Shared) (σ:St) (H:Hp) (vs:List V) (us:List Value) (Q:St→Hp→Prop),ad X pins σ H s→aD vs us→t vs σ H Q→
   wpAny (model X.prog X.w) X.A (assignInOrder ((assignEach ts X.env).map (·.2)) us) (fun _ s'=>∃σ' H',ad X pins σ' H' s'∧Q σ' H') X.xe s
abbrev E8:=V→V→V→Hp→(Hp→Prop)→Prop
def Ez (X:Cx) (t:E8):Prop:=
 ∀(pins:List (Addr×Obj)) (s:Shared) (σ:St) (H:Hp) (o i v:V) (ov iv u:Value) (Q:Hp→Prop),ad X pins σ H s→aO o ov→aO i iv→aO v u→t o i v H Q→
   wpAny (model X.prog X.w) X.A (setItem ov iv u) (fun _ s'=>∃H',ad X pins σ H' s'∧Q H') X.xe s
section
variable {X:Cx}{pos:Pos}
def oY (i:Nat):TG:=fun v σ H Q=>Q (σ.set i (some v)) H
theorem gW {i:Nat}{x:Str} (hN:X.N.Nodup) (hi:X.N[i]?=some x) (hx:FM X.env.scope x) (hf:X.fn x=true∨X.env.scope.names.lookup x=some .local:=by first | exact .inl rfl | exact .inr rfl | assumption):PG X (.Name x pos) (oY i):=by
 intro pins s σ H v u Q I r h
 exact wpAny_assign_Name (kY I hN hi hx r (fun s' I'=>⟨_,H,I',h⟩) hf)
def Jj:vm:=fun vs σ H Q=>vs=[]∧Q σ H
inductive HQ (t:TG) (u:vm) (vs:List V) (σ:St) (H:Hp) (Q:St→Hp→Prop):Prop
 | mk (v:_) (r:_) (h0:vs=v :: r) (h1:t v σ H fun σ' H'=>u r σ' H' Q)
def B8 (t:TG) (u:vm):vm:=fun vs σ H Q=>HQ t u vs σ H Q
theorem cF:DS X [] Jj:=by
 intro pins s σ H vs us Q I r h
 obtain ⟨e,h⟩:=h
 subst e
 cases r
 exact assignInOrder_nil ⟨σ,H,I,h⟩
theorem aC {e:Expr}{es:List Expr}{t:TG}{u:vm} (h1:PG X e t) (h2:DS X es u)
 (hs:(assignEach (e :: es) X.env).map (·.2)=assign e X.env :: (assignEach es X.env).map (·.2):=by rfl):DS X (e :: es) (B8 t u):=by
 intro pins s σ H vs us Q I r h
 obtain ⟨v,vr,e1,h⟩:=h
 subst e1
 cases r with
 | cons r rr=>
  rw [hs]
  refine assignInOrder_cons (aL (h1 pins s σ H _ _ _ I r h) fun _ s1 ⟨σ1,H1,I1,q1⟩=>?_)
  exact h2 pins s1 σ1 H1 _ _ Q I1 rr q1
inductive KU (K:Frag) (n:Nat) (t:vm) (v:V) (σ:St) (H:Hp) (Q:St→Hp→Prop):Prop
 | mk (a:_) (xs:_) (h0:v=.ref a) (h1:af K H a xs) (h2:xs.length=n) (h3:t xs σ H Q)
def Et (K:Frag) (n:Nat) (t:vm):TG:=fun v σ H Q=>KU K n t v σ H Q
theorem Ax {es:List Expr}{k:Nat}{t:vm}{n:Nat} (hc:X.calm=true) (h:DS X es t)
 (hn:(assignEach es X.env).length=n:=by rfl) (hst:(assignEach es X.env).findIdx? (·.1)=none:=by rfl):PG X (.Tuple es k pos) (Et X.K n t):=by
 intro pins s σ H v u Q I r hw
 obtain ⟨a,xs,e1,hq,hl,hw⟩:=hw
 subst e1
 cases r
 obtain ⟨its,rv,ht,hz⟩:=I.tuple hq
 refine assign_Tuple_tuple (I.ok.hd hc) ht (by simp [hn,←hl,rv.length]) hst fun h' hx=>?_
 have I1:ad X pins σ H { s with heap:=h' }:=I.kept (t':=s.toks) fun b o e=>hx b o (ne_of_lt (Heap.lt_size e)) e
 exact h pins _ σ H xs _ Q I1 (by simpa using rv) hw
def LC (to ti:TE) (t:E8):TG:=fun v σ H Q=>to σ H fun o H1=>ti σ H1 fun i H2=>t o i v H2 fun H3=>Q σ H3
theorem ua {o i:Expr}{to ti:TE}{t:E8} (ho:PE X o to) (hi:PE X i ti) (hs:Ez X t)
 (ha:∀v,assign (.Subscript o i pos) X.env v=(do
  let ov ←holding [v] (eval o X.env)
  let iv ←holding [v,ov] (eval i X.env)
  standAt pos
  holding [v,ov,iv] (setItem ov iv v)
  release [v,ov,iv] []):=by intro _;rfl):PG X (.Subscript o i pos) (LC to ti t):=by
 intro pins s σ H v u Q I r h
 rw [ha]
 refine wpAny_bind (wpAny_holding (aL (ho pins s σ H _ I h) fun ov s1 ⟨x,H1,I1,r1,q1⟩=>?_))
 refine wpAny_bind (wpAny_holding (aL (hi pins s1 σ H1 _ I1 q1) fun iv s2 ⟨y,H2,I2,r2,q2⟩=>?_))
 refine wpAny_bind (wpAny_standAt (wpAny_bind (wpAny_holding (aL (hs pins s2 σ H2 x y v ov iv u _ I2 r1 r2 r q2) fun _ s3 ⟨H3,I3,q3⟩=>?_))))
 exact wpAny_release ⟨σ,H3,I3,q3⟩
def Aa (te:TE) (g:TG):TS:=fun D σ H=>te σ H fun x H1=>g x σ H1 D.nx
theorem gc {tg e:Expr}{te:TE}{g:TG} (he:PE X e te) (hg:PG X tg g) (hs:swapsWithSole [tg] e pos.line X.env=pure false:=by rfl) (hw:swappedStores [tg] e X.env=pure none:=by rfl)
 (h1:(assignEach [tg] X.env).map (·.2)=[assign tg X.env]:=by rfl):PS X (.Assign [tg] e pos) (Aa te g):=by
 intro pins s σ H D I h
 refine wpAny_Assign_stores (aL (he pins s σ H _ I h) fun v s1 ⟨x,H1,I1,r1,q1⟩=>?_) hs hw
 rw [h1]
 exact aL (hg pins s1 σ H1 x v _ I1 r1 q1) fun _ s2 q=>q
theorem jo {i:Nat}{x:Str}{e:Expr}{te:TE}{pos':Pos} (hN:X.N.Nodup) (hi:X.N[i]?=some x) (hx:FM X.env.scope x) (he:PE X e te) (hs:swapsWith e (some (.Name x pos')) pos.line X.env=pure false:=by rfl) (hf:X.fn x=true∨X.env.scope.names.lookup x=some .local:=by first | exact .inl rfl | exact .inr rfl | assumption) :
 PS X (.Assign [.Name x pos'] e pos) (Aa te (oY i)):=by
 intro pins s σ H D I h
 refine wpAny_Assign_Name (aL (he pins s σ H _ I h) fun v s1 ⟨y,H1,I1,r1,q1⟩=>?_) hs
 exact kY I1 hN hi hx r1 (fun s2 I2=>⟨_,H1,I2,q1⟩) hf
def IN (i j:Nat) (ta:TA):TS:=fun D σ H=>ta σ H fun vs H1=>aT fun v w=>vs=[v,w]∧D.nx ((σ.set i (some v)).set j (some w)) H1
theorem l6 {i j:Nat}{x y:Str}{a b:Expr}{ta:TA}{px py pt:Pos}{kt k2 pt2} (hc:X.calm=true) (hN:X.N.Nodup) (hi:X.N[i]?=some x) (hj:X.N[j]?=some y) (hij:i≠j)
 (hx:X.env.scope.names.lookup x=some .local) (hy:X.env.scope.names.lookup y=some .local) (ha:PA X [a,b] ta)
 (hw:swappedStores [.Tuple [.Name x px,.Name y py] kt pt] (.Tuple [a,b] k2 pt2) X.env=pure (some [x,y]))
 (hs:swapsWithSole [.Tuple [.Name x px,.Name y py] kt pt] (.Tuple [a,b] k2 pt2) pos.line X.env=pure false:=by rfl) :
 PS X (.Assign [.Tuple [.Name x px,.Name y py] kt pt] (.Tuple [a,b] k2 pt2) pos) (IN i j ta):=by
 intro pins s σ H D I h
 rw [exec_Assign_arm]
 refine wpAny_bind (wpAny_standAt ?_)
 rw [hs]
 refine wpAny_bind (wpAny_pure ?_)
 rw [if_neg (by ext)]
 refine wpAny_bind (Tuple_ (aL (ha _ pins s σ H _ I h) fun us s1 ⟨vs,H1,I1,r1,q1⟩=>?_))
 obtain ⟨v,w,e1,q1⟩:=q1
 subst e1
 obtain ⟨u1,u2,rfl,rv,rw'⟩:aT fun u1 u2=>us=[u1,u2]∧aO v u1∧aO w u2:=by
  cases r1 with
  | cons p q=>
   cases q with
   | cons p' q'=>
    cases q'
    exact ⟨_,(),p,p'⟩
 refine wpAny_newObj_type ?_ (by show 2≤sizeLine;decide)
 have I2:ad X pins σ H1 { s1 with heap:=s1.heap.push { cls:=.type "tuple",data:=.seq [u1,u2].toArray } }:=I1.kept (t':=s1.toks) fun b o e=>Heap.get?_push_of_some _ e
 rw [hw]
 refine wpAny_bind (wpAny_pure ?_)
 show wpAny (model X.prog X.w) X.A (do rule "assign.swapped-stores";let items ←unpackItems (.ref #[s1]) 2 none;assignInOrder [fun v=>bindName X.env y v,fun v=>bindName X.env x v] items.reverse;pure Flow.next) _ _ _
 refine wpAny_bind (wpAny_rule (wpAny_bind (unpackItems_tuple (items:=#[u1,u2]) (I.ok.hd hc) (IsTup.new s1.heap _) fun h' hx'=>?_)))
 have I3:=I2.kept (h':=h') (t':=s1.toks) fun b o e=>hx' b o (ne_of_lt (Heap.lt_size e)) e
 show wpAny _ _ (assignInOrder [fun v=>bindName X.env y v,fun v=>bindName X.env x v] [u2,u1] >>= fun _=>pure Flow.next) _ _ _
 refine wpAny_bind (assignInOrder_cons (wpAny_bindName (kY I3 hN hj (.inl hy) rw' (fun s2 I4=>?_) (.inr hy))))
 refine assignInOrder_cons (wpAny_bindName (kY I4 hN hi (.inl hx) rv (fun s3 I5=>assignInOrder_nil (wpAny_pure ?_)) (.inr hx)))
 rw [List.set_comm _ _ (Ne.symm hij)] at I5
 exact ⟨_,H1,I5,q1⟩
end
section
variable {X:Cx}{pos:Pos}
def CQ (c:TT) (tb:TS):TS:=fun D σ H=>∃W:Nat→St→Hp→Prop,(∃m,W m σ H)∧∀m σ H,W m σ H→
 c σ H fun b H1=>if b=true then ∃N:St→Hp→Prop,(∀σ' H',N σ' H'→∃m',m'<m∧W m' σ' H')∧tb { D with nx:=N,ct:=N,bk:=D.nx } σ H1 else D.nx σ H1
theorem oq {c:Expr}{body:List Stmt}{tc:TT}{tb:TS} (hp:PassesOwn (model X.prog X.w) X.A X.env X.xe) (hc:PT X c tc) (hb:mJ X body tb):PS X (.While c body [] pos) (CQ tc tb):=by
 intro pins s σ H D I h
 obtain ⟨W,⟨m0,w0⟩,turn⟩:=h
 refine wpAny_While (codeAny_whileLoop (fun n s'=>∃σ' H',ad X pins σ' H' s'∧W n σ' H') ?_ m0 ⟨σ,H,I,w0⟩)
 rintro n s1 ⟨σ1,H1,I1,w1⟩
 refine wpAny_passesOwn hp (aL (hc pins s1 σ1 H1 _ I1 (turn n σ1 H1 w1)) fun b s2 ⟨H2,I2,q2⟩=>?_)
 cases b with
 | true=>
  obtain ⟨N,hN,q2⟩:=q2
  rw [if_pos rfl]
  refine wpAny_passesOwn hp (aL (hb pins s2 σ1 H2 _ I2 q2) fun f s3 q3=>?_)
  cases f with
  | next=>
   obtain ⟨σ3,H3,I3,n3⟩:=q3
   obtain ⟨m',hm,w3⟩:=hN σ3 H3 n3
   exact ⟨m',hm,σ3,H3,I3,w3⟩
  | cont=>
   obtain ⟨σ3,H3,I3,n3⟩:=q3
   obtain ⟨m',hm,w3⟩:=hN σ3 H3 n3
   exact ⟨m',hm,σ3,H3,I3,w3⟩
  | brk=>exact q3
  | ret v=>exact q3
 | false=>
  rw [if_neg Bool.false_ne_true]
  exact wpAny_execs_nil ⟨σ1,H2,I2,q2⟩
end
structure It where
 go:Nat→Hp→Prop
 yld:Nat→Hp→V→Hp→Prop
 stop:Nat→Hp→Prop
def jz (X:Cx) (pins:List (Addr×Obj)) (H:Hp) (b:Addr):Prop:=
 H b=none∧b≠X.env.locals∧b∉X.fs∧(b∈X.ex∨X.s₀.heap.objs.size≤b)∧(∀x c,X.env.cells.lookup x=some c→c≠b)∧∀p∈X.pn++pins,p.1≠b
theorem ad.fpOk {X:Cx}{pins:List (Addr×Obj)}{σ:St}{H H':Hp}{s:Shared}{b:Addr} (I:ad X pins σ H s) (hb:#[s]≤b) (hn:H' b=none):jz X pins H' b:=by
 refine ⟨hn,ne_of_gt (lt_of_lt_of_le I.lt hb),I.nofs hb,.inr (le_trans I.sz hb),fun x c e z=>?_,fun p hp z=>?_⟩
 ·obtain ⟨v,q⟩:=I.cell x c e
  exact absurd (lt_of_lt_of_le q.lt (by rw [z];exact hb)) (lt_irrefl _)
 ·exact absurd (lt_of_lt_of_le (Heap.lt_size (I.pin p hp).1) (by rw [z];exact hb)) (lt_irrefl _)
structure vR (P:Program) (w:World) (K:Frag) (tg:Expr) (J:It) (fp:List Addr) (it:Addr) (tn:Nat→Heap→Prop):Prop where
 mem:it∈fp
 obj:∀i h,tn i h→∀b∈fp,∃o,h.get? b=some o∧∀v,o.data≠.cell v
 keep:∀i h h',tn i h→(∀b∈fp,∀o,h.get? b=some o→h'.get? b=some o)→tn i h'
 item:∀(X:Cx),X.prog=P→X.w=w→X.K=K→X.calm=true→∀(i:Nat) (pins:List (Addr×Obj)) (s:Shared) (σ:St) (H:Hp) (E:Value→Shared→Prop),ad X pins σ H s→(∀b∈fp,jz X pins H b)→tn i s.heap→J.go i H→
  wpAny (model P w) X.A (pyNext (.ref it)) (fun r s1=>∃u,r=some u∧
   wpAny (model P w) X.A (letOwnedTupleGo tg (.ref it) u) (fun _ s2=>aT fun x H'=>ad X pins σ H' s2∧aO x u∧J.yld i H x H'∧tn (i+1) s2.heap∧∀b∈fp,H' b=none) E s1) E s
 done:∀(X:Cx),X.prog=P→X.w=w→X.K=K→X.calm=true→∀(i:Nat) (pins:List (Addr×Obj)) (s:Shared) (σ:St) (H:Hp) (E:Value→Shared→Prop),ad X pins σ H s→(∀b∈fp,jz X pins H b)→tn i s.heap→J.stop i H→
  wpAny (model P w) X.A (pyNext (.ref it)) (fun r s1=>r=none∧ad X pins σ H s1) E s
 self:∀(A:Around) (i:Nat) (s:Shared) (Q:Value→Shared→Prop) (E:Value→Shared→Prop),tn i s.heap→Q (.ref it) s→wpAny (model P w) A (pyIter (.ref it)) Q E s
abbrev TI:=St→Hp→(It→Hp→Prop)→Prop
def Ls (X:Cx) (pins:List (Addr×Obj)) (σ:St) (tg:Expr) (R:It→Hp→Prop) (itv:Value) (s2:Shared):Prop:=
 Fy fun (it:Addr) (fp:List Addr) (tn:Nat→Heap→Prop) (J:It) (H':Hp)=>itv=.ref it∧ad X pins σ H' s2∧vR X.prog X.w X.K tg J fp it tn∧tn 0 s2.heap∧(∀b∈fp,jz X pins H' b)∧R J H'
def PI (X:Cx) (tg iter:Expr) (wi:TI):Prop:=
 ∀(pins:List (Addr×Obj)) (s:Shared) (σ:St) (H:Hp) (R:It→Hp→Prop),ad X pins σ H s→wi σ H R→
   wpAny (model X.prog X.w) X.A (eval iter X.env) (fun v s1=>wpAny (model X.prog X.w) X.A (pyIter v) (Ls X pins σ tg R) X.xe s1) X.xe s
theorem Bl {M:Model}{A:Around}{E:Value→Shared→Prop}{s:Shared}{tg:Expr}{it:Addr}{u:Value}{o:Obj}{n:String}{vs:Array Value}{Q:Unit→Shared→Prop} (ho:s.heap.get? it=some o) (hc:o.cls=.type n) (hd:o.data=.fields vs)
 (hn:["enumerate", "zip", "dict_itemiterator", "dict_reverseitemiterator", "odict_iterator", "itertools.zip_longest", "itertools.pairwise"].contains n=false) (hQ:Q () s):wpAny M A (letOwnedTupleGo tg (.ref it) u) Q E s:=by
 unfold letOwnedTupleGo
 cases tg <;> first
  | exact wpAny_pure hQ
  | (cases u <;> first
   | exact wpAny_pure hQ
   | (refine wpAny_bind (wpAny_load ho ?_)
      rw [hc,hd]
      show wpAny M A (if (["enumerate", "zip", "dict_itemiterator", "dict_reverseitemiterator", "odict_iterator", "itertools.zip_longest", "itertools.pairwise"].contains n && vs[0]?==some (rawInt _))=true then _ else _) Q E s
      rw [if_neg (by intro h;rw [hn,Bool.false_and] at h;cases h)]
      exact wpAny_pure hQ))
def AU (K:Frag) (a:Addr):It:=
 ⟨fun i H=>aT fun xs x=>aq K H a xs∧xs[i]?=some x,fun i H x H'=>H'=H∧∀xs,aq K H a xs→xs[i]?=some x,fun i H=>∃xs,aq K H a xs∧xs.length≤i⟩
def Ba (K:Frag) (a:Addr):It:=
 ⟨fun i H=>aT fun xs x=>af K H a xs∧xs[i]?=some x,fun i H x H'=>H'=H∧∀xs,af K H a xs→xs[i]?=some x,fun i H=>∃xs,af K H a xs∧xs.length≤i⟩
def AO (lo:Int) (n:Nat):It:=⟨fun i _=>i<n,fun i H x H'=>H'=H∧x=.int (lo+i),fun i _=>n≤i⟩
theorem De {P:Program}{w:World}{K:Frag}{tg:Expr} (a it:Addr):vR P w K tg (AU K a) [it] it (fun i h=>h.IsListIter it a i) where
 mem:=by simp
 obj:=fun i h st b hb=>by
  have e:b=it:=by simpa using hb
  subst e
  obtain ⟨o,e,c,d⟩:=st
  exact ⟨o,e,fun v z=>by rw [d] at z;cases z⟩
 keep:=fun i h h' st k=>st.at fun o e=>k it (by simp) o e
 item:=by
  intro X hP hw hK hc i pins s σ H E I hf st hg
  subst hP hw hK
  obtain ⟨xs,x,hq,hx⟩:=hg
  obtain ⟨its,rv,p,hz⟩:=I.list hq
  obtain ⟨u,hu,ru⟩:=rv.get hx
  obtain ⟨f0,f1,f2,f3,f4,f5⟩:=hf it (by simp)
  refine wpAny_pyNext_list_item st p.isList (x:=u) (by simpa using hu) fun h' st' sb=>?_
  have I1:ad X pins σ H { s with heap:=h' }:=I.turned (t':=s.toks) (fun b o hb e=>(sb.2 b hb).trans e) f0 f1 f3 f4 f5
  obtain ⟨o,e,c,d⟩:=id st'
  exact ⟨u,rfl,Bl (s:={ s with heap:=h' }) e c d (by ext) ⟨x,H,I1,ru,⟨rfl,fun ys hy=>by rw [I.list_inj hy hq];exact hx⟩,st',fun b hb=>(hf b hb).1⟩⟩
 done:=by
  intro X hP hw hK hc i pins s σ H E I hf st hg
  subst hP hw hK
  obtain ⟨xs,hq,hx⟩:=hg
  obtain ⟨its,rv,p,hz⟩:=I.list hq
  obtain ⟨f0,f1,f2,f3,f4,f5⟩:=hf it (by simp)
  have hl:=rv.length
  exact wpAny_pyNext_list_end (I.ok.hd hc) st p.isList (by simp;lia) fun h' eb=>⟨rfl,I.turned (t':=s.toks) (fun b o hb e=>eb b o hb e) f0 f1 f3 f4 f5⟩
 self:=fun _ _ _ _ _ st h=>wpAny_pyIter_listiter st h
theorem Ck {P:Program}{w:World}{K:Frag}{tg:Expr} (a it:Addr):vR P w K tg (Ba K a) [it] it (fun i h=>h.IsTupleIter it a i) where
 mem:=by simp
 obj:=fun i h st b hb=>by
  have e:b=it:=by simpa using hb
  subst e
  obtain ⟨o,e,c,d⟩:=st
  exact ⟨o,e,fun v z=>by rw [d] at z;cases z⟩
 keep:=fun i h h' st k=>st.at fun o e=>k it (by simp) o e
 item:=by
  intro X hP hw hK hc i pins s σ H E I hf st hg
  subst hP hw hK
  obtain ⟨xs,x,hq,hx⟩:=hg
  obtain ⟨its,rv,p,hz⟩:=I.tuple hq
  obtain ⟨u,hu,ru⟩:=rv.get hx
  obtain ⟨f0,f1,f2,f3,f4,f5⟩:=hf it (by simp)
  refine wpAny_pyNext_tuple_item st (show s.heap.IsTuple a its.toArray from p) (x:=u) (by simpa using hu) fun h' st' sb=>?_
  have I1:ad X pins σ H { s with heap:=h' }:=I.turned (t':=s.toks) (fun b o hb e=>(sb.2 b hb).trans e) f0 f1 f3 f4 f5
  obtain ⟨o,e,c,d⟩:=id st'
  exact ⟨u,rfl,Bl (s:={ s with heap:=h' }) e c d (by ext) ⟨x,H,I1,ru,⟨rfl,fun ys hy=>by rw [I.tuple_inj hy hq];exact hx⟩,st',fun b hb=>(hf b hb).1⟩⟩
 done:=by
  intro X hP hw hK hc i pins s σ H E I hf st hg
  subst hP hw hK
  obtain ⟨xs,hq,hx⟩:=hg
  obtain ⟨its,rv,p,hz⟩:=I.tuple hq
  obtain ⟨f0,f1,f2,f3,f4,f5⟩:=hf it (by simp)
  have hl:=rv.length
  exact wpAny_pyNext_tuple_end (I.ok.hd hc) st (show s.heap.IsTuple a its.toArray from p) (by simp;lia) fun h' eb=>⟨rfl,I.turned (t':=s.toks) (fun b o hb e=>eb b o hb e) f0 f1 f3 f4 f5⟩
 self:=fun _ _ _ _ _ st h=>wpAny_pyIter_tupleiter st h
theorem BY {P:Program}{w:World}{K:Frag}{tg:Expr} (it:Addr) (lo:Int) (n:Nat):vR P w K tg (AO lo n) [it] it (fun i h=>IsRangeIter h it (lo+(i:Nat)*1) ((n:Int) - (i:Nat)) 1) where
 mem:=by simp
 obj:=fun i h st b hb=>by
  have e:b=it:=by simpa using hb
  subst e
  exact ⟨_,st,fun v z=>by
   have z':Data.fields _=Data.cell v:=z
   cases z'⟩
 keep:=fun i h h' st k=>k it (by simp) _ st
 item:=by
  intro X hP hw hK hc i pins s σ H E I hf st hg
  subst hP hw hK
  obtain ⟨f0,f1,f2,f3,f4,f5⟩:=hf it (by simp)
  have W:=Walks.range (prog:=X.prog) (w:=X.w) (I.ok.hd hc) it lo 1 n
  refine W.item i s _ _ hg st fun v h' tk hv st' kk=>?_
  obtain ⟨t,rfl⟩:=hv
  have I1:ad X pins σ H { s with heap:=h',toks:=tk }:=I.turned (fun b o hb e=>kk b o (by simpa using hb) e) f0 f1 f3 f4 f5
  refine ⟨(),Bl (s:={ s with heap:=h',toks:=tk }) (n := "range_iterator") st' rfl rfl (by ext) ⟨.int (lo+i),H,I1,⟨t,?_⟩,⟨rfl,rfl⟩,st',fun b hb=>(hf b hb).1⟩⟩
  rw [Int.mul_one]
 done:=by
  intro X hP hw hK hc i pins s σ H E I hf st hg
  subst hP hw hK
  obtain ⟨f0,f1,f2,f3,f4,f5⟩:=hf it (by simp)
  exact wpAny_pyNext_range_end (I.ok.hd hc) st (by have:n≤i:=hg;lia) fun h' eb=>⟨rfl,I.turned (t':=s.toks) (fun b o hb e=>eb b o hb e) f0 f1 f3 f4 f5⟩
 self:=fun _ _ _ _ _ st h=>wpAny_pyIter_rangeiter st h
section
variable {X:Cx}{tg:Expr}
def Fj (K:Frag) (tl:TE):TI:=fun σ H R=>tl σ H fun x H1=>∃a,x=.ref a∧(∃xs,aq K H1 a xs)∧R (AU K a) H1
def Ii (K:Frag) (tl:TE):TI:=fun σ H R=>tl σ H fun x H1=>∃a,x=.ref a∧(∃xs,af K H1 a xs)∧R (Ba K a) H1
theorem F9 {l:Expr}{tl:TE} (hl:PE X l tl):PI X tg l (Fj X.K tl):=by
 intro pins s σ H R I h
 refine aL (hl pins s σ H _ I h) fun v s1 ⟨x,H1,I1,r1,q1⟩=>?_
 obtain ⟨a,e,⟨xs,hq⟩,q⟩:=q1
 subst e
 cases r1
 obtain ⟨its,rv,p,hz⟩:=I1.list hq
 refine wpAny_pyIter_list p.isList ?_
 refine ⟨#[s1],[#[s1]],_,_,H1,rfl,I1.kept (t':=s1.toks) fun b o e=>Heap.get?_push_of_some _ e,De a _,⟨_,Heap.get?_push_size _ rfl,rfl,rfl⟩,fun b hb=>?_,q⟩
 have e:b=#[s1]:=by simpa using hb
 subst e
 exact I1.fpOk (le_refl _) (I1.hok.fresh (le_refl _))
theorem Iy {l:Expr}{tl:TE} (hl:PE X l tl):PI X tg l (Ii X.K tl):=by
 intro pins s σ H R I h
 refine aL (hl pins s σ H _ I h) fun v s1 ⟨x,H1,I1,r1,q1⟩=>?_
 obtain ⟨a,e,⟨xs,hq⟩,q⟩:=q1
 subst e
 cases r1
 obtain ⟨its,rv,p,hz⟩:=I1.tuple hq
 refine wpAny_pyIter_tuple (show s1.heap.IsTuple a its.toArray from p) ?_
 refine ⟨#[s1],[#[s1]],_,_,H1,rfl,I1.kept (t':=s1.toks) fun b o e=>Heap.get?_push_of_some _ e,Ck a _,⟨_,Heap.get?_push_size _ rfl,rfl,rfl⟩,fun b hb=>?_,q⟩
 have e:b=#[s1]:=by simpa using hb
 subst e
 exact I1.fpOk (le_refl _) (I1.hok.fresh (le_refl _))
theorem E2 {pins:List (Addr×Obj)}{σ:St}{H:Hp}{s:Shared}{R:It→Hp→Prop}{E:Value→Shared→Prop}{lo hi:Int}{t u v:Tok}{tk:Nat} (I:ad X pins σ H s) (h1:-(2 ^ 62)≤lo) (h2:lo<2 ^ 62) (h3:-(2 ^ 62)≤hi) (h4:hi<2 ^ 62)
 (q:R (AO lo (hi - lo).toNat) H):wpAny (model X.prog X.w) X.A (pyIter (.ref #[s])) (Ls X pins σ tg R) E { s with heap:=s.heap.push { cls:=.type "range",data:=.fields #[.int lo t,.int hi u,.int 1 v] },toks:=tk }:=by
 refine wpAny_pyIter_range (IsRange.new ..) (small_one h1 h2 h3 h4) ?_
 have I1:ad X pins σ H { s with heap:=s.heap.push { cls:=.type "range",data:=.fields #[.int lo t,.int hi u,.int 1 v] },toks:=tk }:=I.kept fun b o e=>Heap.get?_push_of_some _ e
 refine ⟨(s.heap.push { cls:=.type "range",data:=.fields #[.int lo t,.int hi u,.int 1 v] }).objs.size,[(s.heap.push { cls:=.type "range",data:=.fields #[.int lo t,.int hi u,.int 1 v] }).objs.size],_,_,H,rfl,
  I1.kept (t':=tk) fun b o e=>Heap.get?_push_of_some _ e,BY _ lo (hi - lo).toNat,?_,fun b hb=>?_,q⟩
 ·have e1:lo+((0:Nat):Int)*1=lo:=by simp
  have e2:(((hi - lo).toNat:Nat):Int) - ((0:Nat):Int)=Builtin.Range.rangeSize lo hi 1:=by rw [rangeSize_one];split <;> lia
  show IsRangeIter _ _ (lo+((0:Nat):Int)*1) ((((hi - lo).toNat:Nat):Int) - ((0:Nat):Int)) 1
  rw [e1,e2]
  exact Heap.get?_push_size _ rfl
 ·have e:b=(s.heap.push { cls:=.type "range",data:=.fields #[.int lo t,.int hi u,.int 1 v] }).objs.size:=by simpa using hb
  subst e
  exact I1.fpOk (le_refl _) (I1.hok.fresh (le_refl _))
def Ld (ta:TA):TI:=fun σ H R=>ta σ H fun vs H1=>∃j:Int,vs=[.int j]∧-(2 ^ 62)≤j∧j<2 ^ 62∧R (AO 0 j.toNat) H1
theorem gn {a:Expr}{ta:TA}{p pos:Pos} (hg:Gl X "range") (hm:X.mg "range" = none) (ha:PA X [a] ta) (hs:starEach [a] X.env=[(false,eval a X.env)]:=by rfl):PI X tg (.Call (.Name "range" p) [a] [] pos) (Ld ta):=by
 intro pins s σ H R I h
 refine Call_ (f9 I hg hm boot_range (PyProof.Rows.callWith_type1 (aL (ha pos pins s σ H _ I h) fun us s1 ⟨vs,H1,I1,r1,q1⟩=>?_) hs rfl))
 obtain ⟨j,e,q1,q2,q⟩:=q1
 subst e
 cases r1 with
 | cons r rr=>
  cases rr
  obtain ⟨t,rfl⟩:=r
  exact call_range_1 (E2 I1 (by lia) (by lia) q1 q2 (by simpa using q))
def IV (wi:TI) (g:TG) (tb:TS):TS:=fun D σ H=>wi σ H fun J H1=>∃W:Nat→Nat→St→Hp→Prop,(∃m,W 0 m σ H1)∧∀i m σ H,W i m σ H→
 (J.stop i H∧D.nx σ H)∨(J.go i H∧∃N:St→Hp→Prop,(∀σ' H',N σ' H'→∃m',m'<m∧W (i+1) m' σ' H')∧∀x H',J.yld i H x H'→g x σ H' fun σ2 H2=>tb { D with nx:=N,ct:=N,bk:=D.nx } σ2 H2)
def ql (fp:List Addr) (h:Heap):List (Addr×Obj):=fp.filterMap fun b=>(h.get? b).map fun o=>(b,o)
theorem i4 {fp:List Addr}{h:Heap}{b:Addr}{o:Obj} (hb:b∈fp) (e:h.get? b=some o):(b,o)∈ql fp h:=List.mem_filterMap.mpr ⟨b,hb,by rw [e];rfl⟩
theorem CU {fp:List Addr}{h:Heap}{p:Addr×Obj} (hp:p∈ql fp h):p.1∈fp∧h.get? p.1=some p.2:=by
 obtain ⟨b,hb,e⟩:=List.mem_filterMap.mp hp
 cases q:h.get? b with
 | none=>rw [q] at e;cases e
 | some o=>
  rw [q] at e
  have e':(b,o)=p:=Option.some.inj e
  subst e'
  exact ⟨hb,q⟩
theorem ad.pinned {pins:List (Addr×Obj)}{σ:St}{H:Hp}{s:Shared}{fp:List Addr} (I:ad X pins σ H s) (hf:∀b∈fp,jz X pins H b) (ho:∀b∈fp,∃o,s.heap.get? b=some o∧∀v,o.data≠.cell v):ad X (pins++ql fp s.heap) σ H s:=
 I.pins_of fun p hp=>(List.mem_append.mp hp).elim (fun z=>I.pin p (mem_append_right _ z)) fun z=>by
  obtain ⟨hb,e⟩:=CU z
  obtain ⟨f0,f1,f2,_⟩:=hf p.1 hb
  obtain ⟨o,e',d⟩:=ho p.1 hb
  rw [e] at e';cases e'
  exact ⟨e,f0,f1,f2,d⟩
theorem ad.unpinned {pins pl:List (Addr×Obj)}{σ:St}{H:Hp}{s:Shared} (I:ad X (pins++pl) σ H s):ad X pins σ H s:=I.pins_of fun p hp=>I.pin p (mem_append_right _ (mem_append_left _ hp))
theorem dX {iter:Expr}{body:List Stmt}{wi:TI}{g:TG}{tb:TS}{pos:Pos} (hp:PassesOwn (model X.prog X.w) X.A X.env X.xe) (hc:X.calm=true) (hi:PI X tg iter wi) (hg:PG X tg g) (hb:mJ X body tb)
 (hs:∀x,foldedSetIterable iter X.env x=pure x:=by intro _;rfl):PS X (.For tg iter body [] pos) (IV wi g tb):=by
 intro pins s σ H D I h
 refine wpAny_For (aL (hi pins s σ H _ I h) fun v s1 h1=>aL h1 fun itv s2 h2=>?_) hs
 obtain ⟨it,fp,tn,J,H2,e,I2,T,st2,f2,W,⟨m0,w0⟩,turn⟩:=h2
 subst e
 have stat:∀{H':Hp},(∀b∈fp,H' b=none)→∀b∈fp,jz X pins H' b:=fun hn b hb=>⟨hn b hb,(f2 b hb).2⟩
 refine codeAny_forLoop_any (fun n s'=>∃i σ' H',ad X pins σ' H' s'∧tn i s'.heap∧(∀b∈fp,H' b=none)∧W i n σ' H') ?_ m0 ⟨0,σ,H2,I2,st2,fun b hb=>(f2 b hb).1,w0⟩
 rintro n s3 ⟨i,σ3,H3,I3,st3,fr3,w3⟩
 rcases turn i n σ3 H3 w3 with ⟨stop,qn⟩ | ⟨go,N,hN,step⟩
 ·refine wpAny_passesOwn hp (aL (T.done X rfl rfl rfl hc i pins s3 σ3 H3 X.xe I3 (stat fr3) st3 stop) fun r s4 ⟨hr,I4⟩=>?_)
  subst hr
  exact wpAny_execs_nil ⟨σ3,H3,I4,qn⟩
 ·refine wpAny_passesOwn hp (aL (T.item X rfl rfl rfl hc i pins s3 σ3 H3 X.xe I3 (stat fr3) st3 go) fun r s4 ⟨u,hr,h4⟩=>?_)
  subst hr
  refine wpAny_passesOwn hp (aL h4 fun _ s5 ⟨x,H5,I5,r5,y5,st5,fr5⟩=>?_)
  have I5':=I5.pinned (stat fr5) (T.obj _ _ st5)
  refine wpAny_passesOwn hp (aL (hg _ s5 σ3 H5 x u _ I5' r5 (step x H5 y5)) fun _ s6 ⟨σ6,H6,I6,q6⟩=>?_)
  refine wpAny_passesOwn hp (aL (hb _ s6 σ6 H6 _ I6 q6) fun f s7 q7=>?_)
  have again:∀{σ7:St}{H7:Hp},ad X (pins++ql fp s5.heap) σ7 H7 s7→N σ7 H7→∃m,m<n∧∃i σ' H',ad X pins σ' H' s7∧tn i s7.heap∧(∀b∈fp,H' b=none)∧W i m σ' H':=fun {σ7 H7} I7 n7=>by
   obtain ⟨m',hm,w7⟩:=hN σ7 H7 n7
   refine ⟨m',hm,i+1,σ7,H7,I7.unpinned,T.keep _ _ _ st5 fun b hb o e=>(I7.pin (b,o) (mem_append_right _ (mem_append_right _ (i4 hb e)))).1,fun b hb=>?_,w7⟩
   obtain ⟨o,e,d⟩:=T.obj _ _ st5 b hb
   exact (I7.pin (b,o) (mem_append_right _ (mem_append_right _ (i4 hb e)))).2.1
  cases f with
  | next=>obtain ⟨σ7,H7,I7,n7⟩:=q7;exact again I7 n7
  | cont=>obtain ⟨σ7,H7,I7,n7⟩:=q7;exact again I7 n7
  | brk=>obtain ⟨σ7,H7,I7,q7⟩:=q7;exact ⟨σ7,H7,I7.unpinned,q7⟩
  | ret v=>obtain ⟨x7,σ7,H7,I7,r7,q7⟩:=q7;exact ⟨x7,σ7,H7,I7.unpinned,r7,q7⟩
end
theorem qQ {K:Frag}{a:Addr}{xs:List V}{g:TG}{tb:TS}{D:dj}{σ:St}{H:Hp} (Pv:Nat→St→Hp→Prop) (h0:Pv 0 σ H) (hl:∀i σ H,i≤xs.length→Pv i σ H→aq K H a xs)
 (hs:∀i x σ H,xs[i]?=some x→Pv i σ H→g x σ H fun σ2 H2=>tb { D with nx:=Pv (i+1),ct:=Pv (i+1),bk:=D.nx } σ2 H2) (hd:∀σ H,Pv xs.length σ H→D.nx σ H) :
 ∃W:Nat→Nat→St→Hp→Prop,(∃m,W 0 m σ H)∧∀i m σ H,W i m σ H→
  ((AU K a).stop i H∧D.nx σ H)∨((AU K a).go i H∧∃N:St→Hp→Prop,(∀σ' H',N σ' H'→∃m',m'<m∧W (i+1) m' σ' H')∧∀x H',(AU K a).yld i H x H'→g x σ H' fun σ2 H2=>tb { D with nx:=N,ct:=N,bk:=D.nx } σ2 H2):=by
 refine ⟨fun i m σ H=>m=xs.length - i∧i≤xs.length∧Pv i σ H,⟨xs.length,by simp,zero_le _,h0⟩,?_⟩
 rintro i m σ H ⟨rfl,hi,p⟩
 have q:=hl i σ H hi p
 by_cases hlt:i<xs.length
 ·refine .inr ⟨⟨xs,xs[i],q,by simp [hlt]⟩,Pv (i+1),fun σ' H' p'=>⟨xs.length - (i+1),by lia,rfl,hlt,p'⟩,fun x H' y=>?_⟩
  obtain ⟨e,y⟩:=y
  subst e
  exact hs i x σ _ (y xs q) p
 ·have e:i=xs.length:=by lia
  subst e
  exact .inl ⟨⟨xs,q,le_refl _⟩,hd σ H p⟩
theorem pY {K:Frag}{a:Addr}{xs:List V}{g:TG}{tb:TS}{D:dj}{σ:St}{H:Hp} (Pv:Nat→St→Hp→Prop) (h0:Pv 0 σ H) (hl:∀i σ H,i≤xs.length→Pv i σ H→af K H a xs)
 (hs:∀i x σ H,xs[i]?=some x→Pv i σ H→g x σ H fun σ2 H2=>tb { D with nx:=Pv (i+1),ct:=Pv (i+1),bk:=D.nx } σ2 H2) (hd:∀σ H,Pv xs.length σ H→D.nx σ H) :
 ∃W:Nat→Nat→St→Hp→Prop,(∃m,W 0 m σ H)∧∀i m σ H,W i m σ H→
  ((Ba K a).stop i H∧D.nx σ H)∨((Ba K a).go i H∧∃N:St→Hp→Prop,(∀σ' H',N σ' H'→∃m',m'<m∧W (i+1) m' σ' H')∧∀x H',(Ba K a).yld i H x H'→g x σ H' fun σ2 H2=>tb { D with nx:=N,ct:=N,bk:=D.nx } σ2 H2):=by
 refine ⟨fun i m σ H=>m=xs.length - i∧i≤xs.length∧Pv i σ H,⟨xs.length,by simp,zero_le _,h0⟩,?_⟩
 rintro i m σ H ⟨rfl,hi,p⟩
 have q:=hl i σ H hi p
 by_cases hlt:i<xs.length
 ·refine .inr ⟨⟨xs,xs[i],q,by simp [hlt]⟩,Pv (i+1),fun σ' H' p'=>⟨xs.length - (i+1),by lia,rfl,hlt,p'⟩,fun x H' y=>?_⟩
  obtain ⟨e,y⟩:=y
  subst e
  exact hs i x σ _ (y xs q) p
 ·have e:i=xs.length:=by lia
  subst e
  exact .inl ⟨⟨xs,q,le_refl _⟩,hd σ H p⟩
theorem o5 {lo:Int}{n:Nat}{g:TG}{tb:TS}{D:dj}{σ:St}{H:Hp} (Pv:Nat→St→Hp→Prop) (h0:Pv 0 σ H)
 (hs:∀i σ H,i<n→Pv i σ H→g (.int (lo+i)) σ H fun σ2 H2=>tb { D with nx:=Pv (i+1),ct:=Pv (i+1),bk:=D.nx } σ2 H2) (hd:∀σ H,Pv n σ H→D.nx σ H) :
 ∃W:Nat→Nat→St→Hp→Prop,(∃m,W 0 m σ H)∧∀i m σ H,W i m σ H→
  ((AO lo n).stop i H∧D.nx σ H)∨((AO lo n).go i H∧∃N:St→Hp→Prop,(∀σ' H',N σ' H'→∃m',m'<m∧W (i+1) m' σ' H')∧∀x H',(AO lo n).yld i H x H'→g x σ H' fun σ2 H2=>tb { D with nx:=N,ct:=N,bk:=D.nx } σ2 H2):=by
 refine ⟨fun i m σ H=>m=n - i∧i≤n∧Pv i σ H,⟨n,by simp,zero_le _,h0⟩,?_⟩
 rintro i m σ H ⟨rfl,hi,p⟩
 by_cases hlt:i<n
 ·refine .inr ⟨hlt,Pv (i+1),fun σ' H' p'=>⟨n - (i+1),by lia,rfl,hlt,p'⟩,fun x H' y=>?_⟩
  obtain ⟨e,y⟩:=y
  subst e y
  exact hs i σ _ hlt p
 ·have e:i=n:=by lia
  subst e
  exact .inl ⟨le_refl _,hd σ H p⟩
abbrev R2:=V→V→Hp→VK→Prop
def cn (X:Cx) (f:Value→Value→Sem Value) (r:R2):Prop:=
 ∀(pins:List (Addr×Obj)) (s:Shared) (σ:St) (H:Hp) (x y:V) (v u:Value) (Q:VK),ad X pins σ H s→aO x v→aO y u→r x y H Q→
   wpAny (model X.prog X.w) X.A (f v u) (EP X pins σ Q) X.xe s
def IU (X:Cx) (f:Value→Sem Value) (r:V→Hp→VK→Prop):Prop:=
 ∀(pins:List (Addr×Obj)) (s:Shared) (σ:St) (H:Hp) (x:V) (v:Value) (Q:VK),ad X pins σ H s→aO x v→r x H Q→
   wpAny (model X.prog X.w) X.A (f v) (EP X pins σ Q) X.xe s
def cy (X:Cx) (f:Value) (r:List V→Hp→VK→Prop):Prop:=
 ∀(pins:List (Addr×Obj)) (s:Shared) (σ:St) (H:Hp) (xs:List V) (us:List Value) (Q:VK),ad X pins σ H s→aD xs us→r xs H Q→
   wpAny (model X.prog X.w) X.A (call f us) (EP X pins σ Q) X.xe s
def Fr (r:R2) (ta tb:TE):TE:=fun σ H Q=>ta σ H fun x H1=>tb σ H1 fun y H2=>r x y H2 Q
def Ml (r:V→Hp→VK→Prop) (ta:TE):TE:=fun σ H Q=>ta σ H fun x H1=>r x H1 Q
inductive Mz (C:Int→Int→Prop) (g:Int→Int→V) (x:V) (y:V) (H:Hp) (Q:VK):Prop
 | mk (i:_) (j:_) (h0:x=.int i) (h1:y=.int j) (h2:C i j) (h3:Q (g i j) H)
def rI (C:Int→Int→Prop) (g:Int→Int→V):R2:=fun x y H Q=>Mz C g x y H Q
inductive Mg (g:Int→Int→V) (x:V) (y:V) (H:Hp) (Q:VK):Prop
 | mk (i:_) (j:_) (h0:x=.int i) (h1:y=.int j) (h2:Q (g i j) H)
def yl (g:Int→Int→V):R2:=fun x y H Q=>Mg g x y H Q
def rU (g:Int→V):V→Hp→VK→Prop:=fun x H Q=>Ho x fun i=>Q (g i) H
section
variable {X:Cx}{a b c:Expr}{ta tb tc:TE}{pos:Pos}
theorem ER (ha:PE X a ta) (hb:PE X b tb) {pins:List (Addr×Obj)}{s:Shared}{σ:St}{H:Hp}{R:V→V→Hp→Prop} (I:ad X pins σ H s)
 (h:ta σ H fun x H1=>tb σ H1 fun y H2=>R x y H2) {Q:Value→Shared→Prop}{f:Value→Value→Sem Value}
 (hf:∀v u s2 x y H2,ad X pins σ H2 s2→aO x v→aO y u→R x y H2→wpAny (model X.prog X.w) X.A (f v u) Q X.xe s2) :
 wpAny (model X.prog X.w) X.A (eval a X.env) (fun v s₁=>wpAny (model X.prog X.w) X.A (eval b X.env) (fun u s₂=>wpAny (model X.prog X.w) X.A (f v u) Q X.xe s₂) X.xe s₁) X.xe s:=by
 refine aL (ha pins s σ H _ I h) fun v s1 ⟨x,H1,I1,r1,q1⟩=>?_
 refine aL (hb pins s1 σ H1 _ I1 q1) fun u s2 ⟨y,H2,I2,r2,q2⟩=>?_
 exact hf v u s2 x y H2 I2 r1 r2 q2
theorem ap {op:Operator}{r:R2} (ho:cn X (binaryOp op) r) (ha:PE X a ta) (hb:PE X b tb):PE X (.BinOp a op b pos) (Fr r ta tb):=by
 intro pins s σ H Q I h
 exact wpAny_BinOp (ER ha hb I h fun v u s2 x y H2 I2 rx ry q=>ho pins s2 σ H2 x y v u Q I2 rx ry q)
theorem uL {op:UnaryOp}{r:V→Hp→VK→Prop} (ho:IU X (unaryOp op) r) (ha:PE X a ta):PE X (.UnaryOp op a pos) (Ml r ta):=by
 intro pins s σ H Q I h
 exact UnaryOp_ (aL (ha pins s σ H _ I h) fun v s1 ⟨x,H1,I1,r1,q1⟩=>ho pins s1 σ H1 x v Q I1 r1 q1)
theorem yA {f:Value→Value→Sem Value}{C:Int→Int→Prop}{g:Int→Int→Int}
 (rule:∀(i j:Int) (t u:Tok) (s:Shared) (Q:Value→Shared→Prop) (E:Value→Shared→Prop),C i j→Q (.int (g i j) s.toks) { s with toks:=s.toks+1 }→wpAny (model X.prog X.w) X.A (f (.int i t) (.int j u)) Q E s) :
 cn X f (rI C fun i j=>.int (g i j)):=by
 intro pins s σ H x y v u Q I rx ry h
 obtain ⟨i,j,rfl,rfl,hc,q⟩:=h
 obtain ⟨t,rfl⟩:=rx
 obtain ⟨t',rfl⟩:=ry
 exact rule i j t t' s _ _ hc ⟨.int (g i j),H,I.tok _,⟨()⟩,q⟩
theorem Ht {f:Value→Value→Sem Value}{g:Int→Int→Int}
 (rule:∀(i j:Int) (t u:Tok) (s:Shared) (Q:Value→Shared→Prop) (E:Value→Shared→Prop),Q (.int (g i j) s.toks) { s with toks:=s.toks+1 }→wpAny (model X.prog X.w) X.A (f (.int i t) (.int j u)) Q E s) :
 cn X f (yl fun i j=>.int (g i j)):=by
 intro pins s σ H x y v u Q I rx ry h
 obtain ⟨i,j,rfl,rfl,q⟩:=h
 obtain ⟨t,rfl⟩:=rx
 obtain ⟨t',rfl⟩:=ry
 exact rule i j t t' s _ _ ⟨.int (g i j),H,I.tok _,⟨()⟩,q⟩
theorem BH {f:Value→Value→Sem Value}{g:Int→Int→Bool}
 (rule:∀(i j:Int) (t u:Tok) (s:Shared) (Q:Value→Shared→Prop) (E:Value→Shared→Prop),Q (.bool (g i j)) s→wpAny (model X.prog X.w) X.A (f (.int i t) (.int j u)) Q E s) :
 cn X f (yl fun i j=>.bl (g i j)):=by
 intro pins s σ H x y v u Q I rx ry h
 obtain ⟨i,j,rfl,rfl,q⟩:=h
 obtain ⟨t,rfl⟩:=rx
 obtain ⟨t',rfl⟩:=ry
 exact rule i j t t' s _ _ ⟨.bl (g i j),H,I,rfl,q⟩
def Mh (i j:Int):Prop:=0<j∧j<1073741824
def LZ (i j:Int):Prop:=0≤j∧j≤1000000∧i.natAbs<2 ^ 64
def D9 (i j:Int):Prop:=(-(2 ^ 64)<i∧i<2 ^ 64)∨(-(2 ^ 64)<j∧j<2 ^ 64)
theorem D9.ok {i j:Int} (h:D9 i j):IntMulOk i j:=by
 rcases h with ⟨h1,h2⟩ | ⟨h1,h2⟩
 ·exact .of_left (intBits_le_64 h1 h2)
 ·exact .of_right (intBits_le_64 h1 h2)
theorem bL:cn X (binaryOp .Add) (yl fun i j=>.int (i+j)):=Ht fun _ _ _ _ _ _ _ q=>add_int q
theorem l4:cn X (binaryOp .Sub) (yl fun i j=>.int (i - j)):=Ht fun _ _ _ _ _ _ _ q=>sub_int q
theorem gP:cn X (binaryOp .Mult) (rI D9 fun i j=>.int (i*j)):=yA fun _ _ _ _ _ _ _ hc q=>mul_int q hc.ok
theorem FT:cn X (binaryOp .FloorDiv) (rI Mh fun i j=>.int (i / j)):=yA fun i j _ _ _ _ _ hc q=>by
 have h1:(0:Int)<j:=hc.1
 have h2:j<1073741824:=hc.2
 exact floordiv_int (by lia) (by rw [Int.fdiv_eq_ediv_of_nonneg i (by lia)];exact q) (.inl (PyProof.noPylong_small (by lia)))
theorem jn:cn X (binaryOp .Mod) (rI (fun _ j=>0<j) fun i j=>.int (i % j)):=yA fun i j _ _ _ _ _ hc q=>by
 have h1:(0:Int)<j:=hc
 exact mod_int' (by lia) (by rw [Int.fmod_eq_emod_of_nonneg i (by lia)];exact q)
theorem Gp:cn X (binaryOp .Mod) (rI (fun _ j=>j≠0) fun i j=>.int (i.fmod j)):=yA fun _ _ _ _ _ _ _ hc q=>mod_int' hc q
theorem Ad:cn X (binaryOp .Pow) (rI LZ fun i j=>.int (i ^ j.toNat)):=yA fun _ _ _ _ _ _ _ hc q=>pow_int_small hc.1 hc.2.1 hc.2.2 q
theorem Mn {f:Value→Sem Value}{g:Int→Int}
 (rule:∀(i:Int) (t:Tok) (s:Shared) (Q:Value→Shared→Prop) (E:Value→Shared→Prop),Q (.int (g i) s.toks) { s with toks:=s.toks+1 }→wpAny (model X.prog X.w) X.A (f (.int i t)) Q E s) :
 IU X f (rU fun i=>.int (g i)):=by
 intro pins s σ H x v Q I rx h
 obtain ⟨i,rfl,q⟩:=h
 obtain ⟨t,rfl⟩:=rx
 exact rule i t s _ _ ⟨.int (g i),H,I.tok _,⟨()⟩,q⟩
theorem pZ:IU X (unaryOp .USub) (rU fun i=>.int (-i)):=Mn fun _ _ _ _ _ q=>neg_int q
end
def Ih:V→V→Bool
 | .non,.non=>true | .non,.int _=>true | .int _,.non=>true | .non,.bl _=>true | .bl _,.non=>true | .non,.str _=>true | .str _,.non=>true
 | .int _,.int _=>true | .bl _,.bl _=>true | .str _,.str _=>true | .byt _,.byt _=>true
 | .int _,.str _=>true | .str _,.int _=>true | .bl _,.str _=>true | .str _,.bl _=>true
 | _,_=>false
def Mk:R2:=fun x y H Q=>Ih x y=true∧Q (.bl (decide (x=y))) H
def Mx:R2:=fun x y H Q=>Ih x y=true∧Q (.bl (!decide (x=y))) H
theorem A2 {i j:Int}:decide (V.int i=V.int j)=(i==j):=by
 rw [Bool.eq_iff_iff]
 simp
theorem CA {i j:Bool}:decide (V.bl i=V.bl j)=(i==j):=by
 rw [Bool.eq_iff_iff]
 simp
theorem Be {i j:Str}:decide (V.str i=V.str j)=(i==j):=by
 rw [Bool.eq_iff_iff]
 simp
theorem Bh {i j:Array UInt8}:decide (V.byt i=V.byt j)=(i.toList==j.toList):=by
 rw [Bool.eq_iff_iff]
 cases i
 cases j
 simp
section
variable {X:Cx}{a b c:Expr}{ta tb tc:TE}{pos:Pos}
theorem bu {pins:List (Addr×Obj)}{σ:St}{H:Hp}{s:Shared}{Q:VK}{k k':Bool} (I:ad X pins σ H s) (q:Q (.bl k) H) (e:k=k'):EP X pins σ Q (.bool k') s:=by
 subst e
 exact ⟨.bl k,H,I,rfl,q⟩
theorem fi:cn X (compareOp .Eq) Mk:=by
 intro pins s σ H x y v u Q I rx ry h
 obtain ⟨hs,q⟩:=h
 cases x with
 | non=>
  cases rx
  cases y with
  | non=>cases ry;exact PySem.EqNone.eq_none_none (bu I q (by simp))
  | bl j=>cases ry;exact PySem.EqNone.eq_none_bool (bu I q (by simp))
  | int j=>obtain ⟨t',rfl⟩:=ry;exact PySem.EqNone.eq_none_int (bu I q (by simp))
  | str j=>obtain ⟨t',rfl⟩:=ry;exact PySem.EqNone.eq_none_str (bu I q (by simp))
  | _=>exact absurd (show false=true from hs) Bool.false_ne_true
 | bl i=>
  cases rx
  cases y with
  | non=>cases ry;exact PySem.EqNone.eq_bool_none (bu I q (by simp))
  | bl j=>cases ry;exact eq_bool (bu I q CA)
  | str j=>obtain ⟨t',rfl⟩:=ry;exact PySem.EqMixed.eq_bool_str (bu I q (by simp))
  | _=>exact absurd (show false=true from hs) Bool.false_ne_true
 | int i=>
  obtain ⟨t,rfl⟩:=rx
  cases y with
  | non=>cases ry;exact PySem.EqNone.eq_int_none (bu I q (by simp))
  | int j=>obtain ⟨t',rfl⟩:=ry;exact eq_int (bu I q A2)
  | str j=>obtain ⟨t',rfl⟩:=ry;exact PySem.EqMixed.eq_int_str (bu I q (by simp))
  | _=>exact absurd (show false=true from hs) Bool.false_ne_true
 | str i=>
  obtain ⟨t,rfl⟩:=rx
  cases y with
  | non=>cases ry;exact PySem.EqNone.eq_str_none (bu I q (by simp))
  | bl j=>cases ry;exact PySem.EqMixed.eq_str_bool (bu I q (by simp))
  | int j=>obtain ⟨t',rfl⟩:=ry;exact PySem.EqMixed.eq_str_int (bu I q (by simp))
  | str j=>obtain ⟨t',rfl⟩:=ry;exact eq_str (bu I q Be)
  | _=>exact absurd (show false=true from hs) Bool.false_ne_true
 | byt i=>
  obtain ⟨t,rfl⟩:=rx
  cases y with
  | byt j=>obtain ⟨t',rfl⟩:=ry;exact PySem.W.eq_bytes (bu I q Bh)
  | _=>exact absurd (show false=true from hs) Bool.false_ne_true
 | _=>cases y <;> exact absurd (show false=true from hs) Bool.false_ne_true
theorem o8:cn X (compareOp .NotEq) Mx:=by
 intro pins s σ H x y v u Q I rx ry h
 obtain ⟨hs,q⟩:=h
 cases x with
 | non=>
  cases rx
  cases y with
  | non=>cases ry;exact PySem.EqNone.ne_none_none (bu I q (by simp))
  | bl j=>cases ry;exact PySem.EqNone.ne_none_bool (bu I q (by simp))
  | int j=>obtain ⟨t',rfl⟩:=ry;exact PySem.EqNone.ne_none_int (bu I q (by simp))
  | str j=>obtain ⟨t',rfl⟩:=ry;exact PySem.EqNone.ne_none_str (bu I q (by simp))
  | _=>exact absurd (show false=true from hs) Bool.false_ne_true
 | bl i=>
  cases rx
  cases y with
  | non=>cases ry;exact PySem.EqNone.ne_bool_none (bu I q (by simp))
  | bl j=>cases ry;exact ne_bool (bu I q (congrArg not CA))
  | str j=>obtain ⟨t',rfl⟩:=ry;exact PySem.EqMixed.ne_bool_str (bu I q (by simp))
  | _=>exact absurd (show false=true from hs) Bool.false_ne_true
 | int i=>
  obtain ⟨t,rfl⟩:=rx
  cases y with
  | non=>cases ry;exact PySem.EqNone.ne_int_none (bu I q (by simp))
  | int j=>obtain ⟨t',rfl⟩:=ry;exact ne_int (bu I q (congrArg not A2))
  | str j=>obtain ⟨t',rfl⟩:=ry;exact PySem.EqMixed.ne_int_str (bu I q (by simp))
  | _=>exact absurd (show false=true from hs) Bool.false_ne_true
 | str i=>
  obtain ⟨t,rfl⟩:=rx
  cases y with
  | non=>cases ry;exact PySem.EqNone.ne_str_none (bu I q (by simp))
  | bl j=>cases ry;exact PySem.EqMixed.ne_str_bool (bu I q (by simp))
  | int j=>obtain ⟨t',rfl⟩:=ry;exact PySem.EqMixed.ne_str_int (bu I q (by simp))
  | str j=>obtain ⟨t',rfl⟩:=ry;exact ne_str (bu I q (congrArg not Be))
  | _=>exact absurd (show false=true from hs) Bool.false_ne_true
 | byt i=>
  obtain ⟨t,rfl⟩:=rx
  cases y with
  | byt j=>obtain ⟨t',rfl⟩:=ry;exact PySem.W.ne_bytes (bu I q (congrArg not Bh))
  | _=>exact absurd (show false=true from hs) Bool.false_ne_true
 | _=>cases y <;> exact absurd (show false=true from hs) Bool.false_ne_true
theorem lB:cn X (compareOp .Lt) (yl fun i j=>.bl (decide (i<j))):=BH fun _ _ _ _ _ _ _ q=>lt_int q
theorem y8:cn X (compareOp .LtE) (yl fun i j=>.bl (decide (i≤j))):=BH fun _ _ _ _ _ _ _ q=>le_int q
theorem lD:cn X (compareOp .Gt) (yl fun i j=>.bl (decide (j<i))):=BH fun _ _ _ _ _ _ _ q=>gt_int q
theorem Fo:cn X (compareOp .GtE) (yl fun i j=>.bl (decide (j≤i))):=BH fun _ _ _ _ _ _ _ q=>ge_int q
theorem qa:cn X (compareOp .Is) (fun x y H Q=>y=.non∧Q (.bl (decide (x=.non))) H):=by
 intro pins s σ H x y v u Q I rx ry h
 obtain ⟨rfl,q⟩:=h
 cases ry
 refine is_none_gen (bu I q ?_)
 cases x <;> first
  | (cases rx;rfl)
  | (obtain ⟨t,rfl⟩:=rx;rfl)
theorem nj:cn X (compareOp .IsNot) (fun x y H Q=>y=.non∧Q (.bl (!decide (x=.non))) H):=by
 intro pins s σ H x y v u Q I rx ry h
 obtain ⟨rfl,q⟩:=h
 cases ry
 refine isnot_none_gen (bu I q ?_)
 cases x <;> first
  | (cases rx;rfl)
  | (obtain ⟨t,rfl⟩:=rx;rfl)
theorem um (b:Expr) {op:CmpOp} (h:op≠.In:=by ext) (h2:op≠.NotIn:=by ext):behindInMarks op b=false:=by
 have e1:(op==CmpOp.In)=false:=by cases op <;> first | rfl | exact absurd rfl h
 have e2:(op==CmpOp.NotIn)=false:=by cases op <;> first | rfl | exact absurd rfl h2
 cases b <;> simp [behindInMarks,e1,e2]
theorem bS {op:CmpOp}{r:R2} (ho:cn X (compareOp op) r) (ha:PE X a ta) (hb:PE X b tb) (hm:behindInMarks op b=false):PE X (.Compare a [op] [b] pos) (Fr r ta tb):=by
 intro pins s σ H Q I h
 exact wpAny_Compare1 (ER ha hb I h fun v u s2 x y H2 I2 rx ry q=>ho pins s2 σ H2 x y v u Q I2 rx ry q) hm
def JP (t:TE):TT:=fun σ H Q=>t σ H fun x H'=>xJ x fun k=>Q k H'
theorem aA {op:CmpOp}{r:R2} (ho:cn X (compareOp op) r) (ha:PE X a ta) (hb:PE X b tb) (hm:behindInMarks op b=false):PT X (.Compare a [op] [b] pos) (JP (Fr r ta tb)):=by
 intro pins s σ H Q I h
 refine wpAny_isTrue_Compare1 (aL (ha pins s σ H _ I h) fun v s1 ⟨x,H1,I1,r1,q1⟩=>aL (hb pins s1 σ H1 _ I1 q1) fun u s2 ⟨y,H2,I2,r2,q2⟩=>
  aL (ho pins s2 σ H2 x y v u _ I2 r1 r2 q2) fun c s3 ⟨z,H3,I3,r3,k,e,q3⟩=>?_) hm
 subst e
 cases r3
 exact wpAny_truthy_bool ⟨H3,I3,q3⟩
def IK (r r':R2) (ta tb tc:TE):TE:=fun σ H Q=>ta σ H fun x H1=>tb σ H1 fun y H2=>r x y H2 fun z H3=>xJ z fun k=>
 (if k=true then tc σ H3 fun w' H4=>r' y w' H4 Q else Q (.bl false) H3)
theorem E6 {op op':CmpOp}{r r':R2} (ho:cn X (compareOp op) r) (ho':cn X (compareOp op') r') (ha:PE X a ta) (hb:PE X b tb) (hc:PE X c tc)
 (hm:lastMarks [op,op'] [b,c]=false:=by with_unfolding_all rfl):PE X (.Compare a [op,op'] [b,c] pos) (IK r r' ta tb tc):=by
 intro pins s σ H Q I h
 refine Compare_chain (aL (ha pins s σ H _ I h) fun v s1 ⟨x,H1,I1,r1,q1⟩=>chain_link (aL (hb pins s1 σ H1 _ I1 q1) fun u s2 ⟨y,H2,I2,r2,q2⟩=>
  aL (ho pins s2 σ H2 x y v u _ I2 r1 r2 q2) fun d s3 ⟨z,H3,I3,r3,k,e,q3⟩=>?_)) hm
 subst e
 cases r3
 refine wpAny_truthy_bool ?_
 cases k with
 | false=>exact ite_ff ⟨.bl false,H3,I3,rfl,q3⟩
 | true=>exact ite_tt (chain_last (aL (hc pins s3 σ H3 _ I3 q3) fun w' s4 ⟨z',H4,I4,r4,q4⟩=>ho' pins s4 σ H4 y z' u w' Q I4 r2 r4 q4))
theorem tj:(sizeLine:Nat)<2 ^ 63:=by rw [sizeLine_eq];decide
theorem BU:cn X (binaryOp .Add) (fun x y H Q=>aT fun i j=>x=.str i∧y=.str j∧i.length+j.length≤sizeLine∧Q (.str (i++j)) H):=by
 intro pins s σ H x y v u Q I rx ry h
 obtain ⟨i,j,rfl,rfl,hz,q⟩:=h
 obtain ⟨t,rfl⟩:=rx
 obtain ⟨t',rfl⟩:=ry
 exact add_str (fun t' tk=>⟨.str (i++j),H,I.tok _,⟨()⟩,q⟩) hz
theorem pj {x:V}{us:List Value} (r:aD [x] us):∃u,us=[u]∧aO x u:=by
 cases r with
 | cons r1 r2=>cases r2;exact ⟨_,rfl,r1⟩
theorem xl {x y:V}{us:List Value} (r:aD [x,y] us):aT fun u w'=>us=[u,w']∧aO x u∧aO y w':=by
 cases r with
 | cons r1 r2=>
  cases r2 with
  | cons r3 r4=>cases r4;exact ⟨_,_,rfl,r1,r3⟩
theorem nQ:cy X (.builtin "abs") (fun xs H Q=>∃i,xs=[.int i]∧Q (.int (if i<0 then -i else i)) H):=by
 intro pins s σ H xs us Q I r h
 obtain ⟨i,rfl,q⟩:=h
 obtain ⟨u,rfl,t,rfl⟩:=pj r
 exact call_abs_int fun u tk=>⟨.int (if i<0 then -i else i),H,I.tok _,⟨()⟩,q⟩
theorem CN (hc:X.calm=true):cy X (.builtin "max") (fun xs H Q=>aT fun i j=>xs=[.int i,.int j]∧Q (.int (if j > i then j else i)) H):=by
 intro pins s σ H xs us Q I r h
 obtain ⟨i,j,rfl,q⟩:=h
 obtain ⟨u,w',rfl,⟨t,rfl⟩,⟨t',rfl⟩⟩:=xl r
 refine max_two_ints (I.ok.hd hc) fun h' tk k=>⟨_,H,I.kept k,?_,q⟩
 by_cases hj:j > i
 ·rw [if_pos hj,if_pos hj];exact ⟨()⟩
 ·rw [if_neg hj,if_neg hj];exact ⟨()⟩
theorem yq:cy X (.type "int") (fun xs H Q=>(∃i,xs=[.int i]∧Q (.int i) H)∨∃k,xs=[.bl k]∧Q (.int (if k then 1 else 0)) H):=by
 intro pins s σ H xs us Q I r h
 rcases h with ⟨i,rfl,q⟩ | ⟨k,rfl,q⟩
 ·obtain ⟨u,rfl,t,rfl⟩:=pj r
  exact call_int_int ⟨.int i,H,I,⟨()⟩,q⟩
 ·obtain ⟨u,rfl,r1⟩:=pj r
  cases r1
  exact call_int_bool ⟨.int (if k then 1 else 0),H,I.tok _,⟨()⟩,q⟩
end
structure Fi (h:Heap) (x dx C:Addr) (mA:Str→Option Value):Prop where
 obj:h.get? x=some (instObj C dx)
 ns:h.Ns1 dx mA
 ne:dx≠x
theorem yg {h:Heap}{dx:Addr}{mA:Str→Option Value} (n:h.Ns1 dx mA):∃od,h.get? dx=some od∧∀name,lookIn name od=some (mA name):=by
 obtain ⟨o,es,ep,ho,hd,hk,_,hm⟩:=n
 refine ⟨o,ho,fun name=>?_⟩
 have e:=hm name
 unfold nsFind findBy at e
 rw [←Array.find?_toList] at e
 unfold lookIn
 rw [hd]
 dsimp only
 split
 ·rename_i y q
  rw [q] at e
  exact congrArg some e
 ·rename_i q
  rw [q] at e
  have a:es.toList.any (·.refKey)=false:=by
   rw [List.any_eq_false]
   intro y hy
   obtain ⟨z,t,hkey⟩:=hk y (Array.mem_toList_iff.mp hy)
   simp [DictEntry.refKey,hkey]
  have a':¬es.toList.any (·.refKey)=true:=by rw [a];exact Bool.false_ne_true
  rw [if_neg a']
  exact congrArg some e
theorem Fi.look {h:Heap}{x dx C:Addr}{mA:Str→Option Value} (I:Fi h x dx C mA):∃od,PySem.W.InstAt h x (instObj C dx) C (some od)∧∀name,lookIn name od=some (mA name):=
 let ⟨od,ho,hl⟩:=yg I.ns
 ⟨od,⟨I.obj,rfl,rfl,ho⟩,hl⟩
section
variable {prog:Program}{w:World}{A:Around}{E:Value→Shared→Prop}{s:Shared}{K:Frag}{x dx C f:Addr}{mA:Str→Option Value}{name:Str}{v:Value}
end
theorem tP.some_of {v:V}{o:Option Value} (r:tP (some v) o):∃u,o=some u∧aO v u:=by
 cases o with
 | none=>exact (show False from r).elim
 | some u=>exact ⟨u,rfl,r⟩
theorem CL {v:V}{u:Value} (r:aO v u):PySem.W.handedIn u=true:=by
 cases v with
 | non=>cases (show u=Value.none from r);rfl
 | bl b=>cases (show u=Value.bool b from r);rfl
 | int i=>obtain ⟨t,e⟩:=(show ∃t,u=Value.int i t from r);cases e;rfl
 | str x=>obtain ⟨t,e⟩:=(show ∃t,u=Value.str x t from r);cases e;rfl
 | byt b=>obtain ⟨t,e⟩:=(show ∃t,u=Value.bytes b t from r);cases e;rfl
 | flt b=>obtain ⟨t,e⟩:=(show ∃t,u=Value.float b t from r);cases e;rfl
 | ref a=>cases (show u=Value.ref a from r);rfl
 | ty n=>cases (show u=Value.type n from r);rfl
section
variable {P:Program}{w:World}{H H':Hp}{h h':Heap}{a C dx:Addr}{fs fs':List (Str×V)}
theorem FW (hok:dM P w H h) (e:H a=some (.ins C dx fs)):∃mA,Fi h a dx C mA∧(∀f,tP (fs.lookup f) (mA f))∧PySem.Within mA (fs.map (·.1))∧fs.length≤1000∧H dx=some (.own a):=by
 obtain ⟨d,z,ne,ob,mA,n,r,q⟩:=(show be P w H h a (.ins C dx fs) from hok a _ e)
 exact ⟨mA,⟨ob,n,ne⟩,r,q,z,d⟩
end
structure Ik (K:Frag) (C:Addr):Prop where
 pg:plainGet K C Str.empty=true
 hd:PySem.W.hasDictIn K C=true
 po:PySem.W.plainOver K C=true
 sa:findIn K (.ref C) "__setattr__" = some (some (.builtin "object.__setattr__"))
theorem Ik.get {K:Frag}{C:Addr} (c:Ik K C) (f:Str):plainGet K C f=true:=c.pg
section
variable {X:Cx}{pins:List (Addr×Obj)}{σ:St}{H:Hp}{s:Shared}{a C dx:Addr}{fs:List (Str×V)}{f:Str}{v:V}{A:Around}{E:Value→Shared→Prop}
theorem Gm {prog:Program}{w:World}{env:Env}{e:Expr}{f:Str}{pos:Pos}{s:Shared}{Q:Value→Shared→Prop} (hb:attributeBase e f env (eval e env)=eval e env)
 (h:wpAny (model prog w) A (eval e env) (fun o s₁=>wpAny (model prog w) A (getAttr o f true) Q E s₁) E s):wpAny (model prog w) A (eval (.Attribute e f pos) env) Q E s:=
 Attribute_any_ h (by rw [arm_eval_Attribute,hb])
end
section
variable {X:Cx}{o e value:Expr}{f:Str}{pos pos' tpos:Pos}{ta tv:TE}
end
section
variable {X:Cx}{pins:List (Addr×Obj)}{σ:St}{H:Hp}{s:Shared}{A:Around}{E:Value→Shared→Prop}{Q:Value→Shared→Prop}{c:Value}{b:Bool}
inductive jv (K:Frag) (H:Hp):V→Value→Prop where
 | non:jv K H .non (.type "NoneType")
 | bl (x:Bool):jv K H (.bl x) (.type "bool")
 | int (i:Int):jv K H (.int i) (.type "int")
 | str (x:Str):jv K H (.str x) (.type "str")
 | flt (x:UInt64):jv K H (.flt x) (.type "float")
 | lst {a:Addr}{xs:List V} (e:H a=some (.lst xs)):jv K H (.ref a) (.type "list")
 | frz {a:Addr}{o:Obj}{xs:List V} (e:H a=some (.frz o (.lst xs))):jv K H (.ref a) (.type "list")
 | tup {a:Addr}{xs:List V} (e:H a=some (.tup xs)):jv K H (.ref a) (.type "tuple")
 | dK {a:Addr}{kvs:List (aI×V)} (e:H a=some (.dK kvs)):jv K H (.ref a) (.type "dict")
 | dT {a:Addr}{kvs:List (List aI×V)} (e:H a=some (.dT kvs)):jv K H (.ref a) (.type "dict")
 | ins {a C dx:Addr}{fs:List (Str×V)} (e:H a=some (.ins C dx fs)) (cl:Ik K C) (ha:findIn K (.ref C) "__class__" = some (some (.builtin "object.__class__")))
  (hn:PySem.W.specialIn K (.builtin "object.__class__") "__get__" = some (some (.builtin "getset_descriptor.__get__"))) (htk:PySem.W.takesIn K (.builtin "object.__class__")=some true)
  (hm:PySem.W.mroIn K C (.type "object")=some true):jv K H (.ref a) (.ref C)
theorem C5 {x:V}{u t:Value} (I:ad X pins σ H s) (rx:aO x u) (ty:jv X.K H x t) (e:kitOne X.K t c=some b) (h:∀tk,Q (.bool b) { s with toks:=tk }) :
 wpAny (model X.prog X.w) A (call (.builtin "isinstance") [u,c]) Q E s:=by
 cases ty with
 | non=>cases (show u=Value.none from rx);exact kia_one PySem.W.kitx_none I.kIn True.intro e (fun z=>nomatch z) h
 | bl y=>cases (show u=Value.bool y from rx);exact kia_one PySem.W.kitx_bool I.kIn True.intro e (fun z=>nomatch z) h
 | int i=>obtain ⟨t,q⟩:=(show ∃t,u=Value.int i t from rx);cases q;exact kia_one PySem.W.kitx_int I.kIn True.intro e (fun z=>nomatch z) h
 | str y=>obtain ⟨t,q⟩:=(show ∃t,u=Value.str y t from rx);cases q;exact kia_one PySem.W.kitx_str I.kIn True.intro e (fun z=>nomatch z) h
 | flt y=>obtain ⟨t,q⟩:=(show ∃t,u=Value.float y t from rx);cases q;exact kia_one PySem.W.kitx_float I.kIn True.intro e (fun z=>nomatch z) h
 | @lst a xs ea=>
  cases (show u=Value.ref a from rx)
  obtain ⟨_,_,n,_,h1⟩:=(show be X.prog X.w H s.heap a (.lst xs) from I.hok a _ ea)
  exact kia_one kitx_list I.kIn ⟨_,h1,rfl⟩ e (fun z=>nomatch z) h
 | @frz a ob xs ea=>
  cases (show u=Value.ref a from rx)
  obtain ⟨_,_,_,n,_,h1⟩:=(show be X.prog X.w H s.heap a (.frz ob (.lst xs)) from I.hok a _ ea)
  exact kia_one kitx_list I.kIn ⟨_,h1,rfl⟩ e (fun z=>nomatch z) h
 | @tup a xs ea=>
  cases (show u=Value.ref a from rx)
  obtain ⟨_,_,_,p,_⟩:=(show be X.prog X.w H s.heap a (.tup xs) from I.hok a _ ea)
  obtain ⟨o,h1,h2,_⟩:=p
  exact kia_one PySem.W.kitx_tuple I.kIn ⟨o,h1,h2⟩ e (fun z=>nomatch z) h
 | @dK a kvs ea=>
  cases (show u=Value.ref a from rx)
  obtain ⟨_,_,vs,_,p⟩:=(show be X.prog X.w H s.heap a (.dK kvs) from I.hok a _ ea)
  obtain ⟨o,es,ep,h1,h2,_⟩:=p
  exact kia_one kitx_dict I.kIn ⟨o,h1,h2.1⟩ e (fun z=>nomatch z) h
 | @dT a kvs ea=>
  cases (show u=Value.ref a from rx)
  obtain ⟨_,_,xs,_,o,es,ep,h1,h2,_⟩:=(show be X.prog X.w H s.heap a (.dT kvs) from I.hok a _ ea)
  exact kia_one kitx_dict I.kIn ⟨o,h1,h2.1⟩ e (fun z=>nomatch z) h
 | @ins a C dx fs ea cl ha hn htk hm=>
  cases (show u=Value.ref a from rx)
  obtain ⟨mA,O,_⟩:=FW I.hok ea
  obtain ⟨od,J,_⟩:=O.look
  exact kia_one (PySem.W.kitx_own (cl.get _) cl.hd ha hn htk hm) I.kIn J e (fun z=>nomatch z) h
end
structure dm (k:Nat) (A:Around):Prop where
 hd:A.handled=none
 dp:A.depth+3*k+5<recursionLimit
 un:A.units+16*k+200<cLine
 gd:A.guards=some []
theorem dm.mono {j k:Nat}{A:Around} (r:dm k A) (h:j≤k):dm j A:=⟨r.hd,by have:=r.dp;lia,by have:=r.un;lia,r.gd⟩
theorem dm.deeper {k:Nat}{A:Around} (r:dm (k+1) A) (env:Env):dm k (A.deeper env):=
 ⟨r.hd,by have:=r.dp;show A.depth+1+3*k+5<_;lia,by have:=r.un;show A.units+3+16*k+200<_;lia,r.gd⟩
theorem BV {A:Around}{C:Addr}{us:List Value}{kw:List (Str×Value)}:(A.under (.builtin "type.__call__" ⟨.ref C :: us,kw⟩)).depth=A.depth+1:=by
 first | rfl | simp [Around.under,Code.weight,Code.isCreation,Code.isGuard,Code.isCaller,Code.frames,Code.isFrame,guardIds]
theorem Cf {A:Around}{C:Addr}{us:List Value}{kw:List (Str×Value)}:(A.under (.builtin "type.__call__" ⟨.ref C :: us,kw⟩)).units=A.units+1:=by
 first | rfl | simp [Around.under,Code.cUnits,Code.frames,Code.isFrame]
theorem dm.make {k:Nat}{A:Around} (r:dm (k+1) A) (C:Addr) (us:List Value) (kw:List (Str×Value)):dm k (A.under (.builtin "type.__call__" ⟨.ref C :: us,kw⟩)):=
 ⟨r.hd,by have:=r.dp;rw [BV];lia,by have:=r.un;rw [Cf];lia,r.gd⟩
theorem dm.depth {k:Nat}{A:Around} (r:dm k A):A.depth<recursionLimit:=by have:=r.dp;lia
theorem dm.units {k:Nat}{A:Around} (r:dm k A):A.units+64<cLine:=by have:=r.un;lia
def Mc:TA:=fun _ H Q=>Q [] H
def FI (ta:TE) (tr:TA):TA:=fun σ H Q=>ta σ H fun x H1=>tr σ H1 fun xs H2=>Q (x :: xs) H2
section
variable {X:Cx}{e:Expr}{es:List Expr}{te:TE}{t:TA}{pos:Pos}
theorem cC:PA X [] Mc:=fun _ _ _ _ H Q I h=>Calls.spliced_nil ⟨[],H,I,.nil,h⟩
theorem cR (ha:PE X e te) (hr:PA X es t) (hs:starEach (e :: es) X.env=(false,eval e X.env) :: starEach es X.env:=by rfl):PA X (e :: es) (FI te t):=by
 intro pos pins s σ H Q I h
 rw [hs]
 show wpAny _ _ (spliced ((false,eval e X.env) :: backTo pos (starEach es X.env))) _ _ s
 refine Calls.spliced_cons (aL (ha pins s σ H _ I h) fun u s1 ⟨x,H1,I1,r1,q1⟩=>?_)
 exact aL (hr pos pins s1 σ H1 _ I1 q1) fun us s2 ⟨xs,H2,I2,r2,q2⟩=>⟨x :: xs,H2,I2,.cons r1 r2,q2⟩
def L7 (t:TA):TE:=fun σ H Q=>t σ H fun xs H1=>xs.length≤sizeLine∧∀p,H1 p=none→Q (.ref p) (aE H1 p (.lst xs))
theorem IG (h:PA X es t):PE X (.List es pos) (L7 t):=by
 intro pins s σ H Q I hq
 refine wpAny_List_spliced (aL (h pos pins s σ H _ I hq) fun us s1 ⟨xs,H1,I1,r,z,q⟩=>⟨by rw [←r.length];exact z,?_⟩)
 have hf:H1 #[s1]=none:=I1.hok.fresh (le_refl _)
 refine ⟨.ref #[s1],aE H1 #[s1] (.lst xs),I1.laid (t':=s1.toks) (fun b u e=>Heap.get?_push_of_some _ e) (le_refl _) ?_,rfl,q _ hf⟩
 exact ⟨z,us,0,r,Heap.get?_push_size _ rfl⟩
end
abbrev Sp:=List V→Hp→VK→XK→Prop
abbrev lZ:=List Env→Hp→Shared→XK→Value→Shared→Prop
structure vQ (P:Program) (w:World) (K:Frag) (mg:Str→Option Value) (base:Heap) (A:Around) (outer:List Env) (s:Shared) (H:Hp):Prop where
 frames:A.frames=some outer
 mod:Mod K mg base
 bs:∀b o,base.get? b=some o→s.heap.get? b=some o∧H b=none
 bsz:base.objs.size≤#[s]
 funs:s.heap.FunFrames base outer
 frf:∀b∈im outer,H b=none
 hok:dM P w H s.heap
 bare:AllBare s.gens
def CE (outer:List Env) (P:Program) (w:World) (H:Hp) (s:Shared) (Q:VK) (u:Value) (s':Shared):Prop:=
 aT fun v H'=>s'.os=s.os∧AllBare s'.gens∧Un (im outer) [] H H' s.heap s'.heap∧dM P w H' s'.heap∧aO v u∧Q v H'
def CR (CX:lZ) (outer:List Env) (P:Program) (w:World) (H:Hp) (s:Shared) (Q:VK) (E:XK) (r:Result) (s':Shared):Prop:=
 match r with
 | .ok (.ret u)=>CE outer P w H s Q u s'
 | .ok _=>False
 | .error e=>CX outer H s E e s'
structure aQ (P:Program) (w:World) (K:Frag) (mg:Str→Option Value) (base:Heap) (CX:lZ) (k:Nat) (f:Addr) (fd:FuncData) (ps:List Str) (sp:Sp):Prop where
 len:∀vs H Q E,sp vs H Q E→vs.length=ps.length
 run:∀(A:Around) (outer:List Env) (s:Shared) (H:Hp) (args:Args) (us:List Value) (vs:List V) (Q:VK) (E:XK),dm k A→vQ P w K mg base A outer s H→BindsTo s fd args (ps.zip us)→aD vs us→sp vs H Q E→
  codeAny (model P w) A (.call (.ref f) args) (CR CX outer P w H s Q E) s
theorem aQ.imp {P:Program}{w:World}{K:Frag}{mg:Str→Option Value}{base:Heap}{CX:lZ}{k:Nat}{f:Addr}{fd:FuncData}{ps:List Str}{sp sp':Sp} (F:aQ P w K mg base CX k f fd ps sp)
 (h:∀vs H Q E,sp' vs H Q E→sp vs H Q E):aQ P w K mg base CX k f fd ps sp':=
 ⟨fun vs H Q E q=>F.len vs H Q E (h _ _ _ _ q),fun A outer s H args us vs Q E hr he hb hv hs=>F.run A outer s H args us vs Q E hr he hb hv (h _ _ _ _ hs)⟩
theorem vQ.make {P:Program}{w:World}{K:Frag}{mg:Str→Option Value}{base:Heap}{A:Around}{outer:List Env}{s:Shared}{H:Hp} (e:vQ P w K mg base A outer s H) (C:Addr) (us:List Value) (kw:List (Str×Value)) :
 vQ P w K mg base (A.under (.builtin "type.__call__" ⟨.ref C :: us,kw⟩)) outer s H:=⟨by first | exact e.frames | (simpa [Around.under,Code.envs,Code.isFrame,pushEnvs] using e.frames),e.mod,e.bs,e.bsz,e.funs,e.frf,e.hok,e.bare⟩
section
variable {X:Cx}{pins:List (Addr×Obj)}{σ:St}{H:Hp}{s s':Shared}
theorem ad.env0 (I:ad X pins σ H s):vQ X.prog X.w X.K X.mg X.base X.A X.stack s H:=
 ⟨I.ok.frames,I.ok.mod,I.bs,le_trans I.ok.bsz I.sz,I.stack,I.stkFree,I.hok,I.bare⟩
theorem ad.after {Q:VK}{u:Value} (I:ad X pins σ H s) (h:CE X.stack X.prog X.w H s Q u s'):EP X pins σ Q u s':=by
 obtain ⟨v,H',os,bare,un,hok,r,q⟩:=h
 obtain ⟨hh,g,d,t,os'⟩:=s'
 obtain rfl:os'=s.os:=os
 exact ⟨v,H',I.call (h':=hh) (g':=g) (d':=d) (t':=t) (ch:=[]) un hok bare (fun b z=>absurd z (by simp)),r,q⟩
end
def Lj (sp:Sp) (dvs:List V) (E:XK) (t:TA):TE:=fun σ H Q=>t σ H fun vs H1=>sp (vs++dvs) H1 Q E
def gF (K:Frag) (fd:FuncData) (ps:List Str) (ds:List Value):Prop:=
 ∀(s:Shared) (us:List Value),K.In s.heap→(us++ds).length=ps.length→BindsTo s fd ⟨us,[]⟩ (ps.zip (us++ds))
theorem gF.all {K:Frag}{fd:FuncData}{ps:List Str} (h:∀us:List Value,us.length=ps.length→bindArgs fd ⟨us,[]⟩=pure (ps.zip us)):gF K fd ps []:=fun s us _ hl=>by
 rw [append_nil] at hl ⊢
 exact .of_eq (h us hl)
def ui (CX:lZ) (X:Cx) (E:XK):Prop:=∀(pins:List (Addr×Obj)) (σ:St) (H:Hp) (s:Shared) (e:Value) (s':Shared),ad X pins σ H s→CX X.stack H s E e s'→X.xe e s'
section
variable {X:Cx}{CX:lZ}{k:Nat}{f C:Addr}{fd:FuncData}{ps:List Str}{sp:Sp}{dvs:List V}{ds:List Value}{E:XK}{x m:Str}{p pos apos:Pos}{e o:Expr}{es:List Expr}{ta:TE}{t:TA}
theorem Jc {pins:List (Addr×Obj)}{σ:St}{H:Hp}{s:Shared}{Q:VK}{us:List Value}{vs:List V} (F:aQ X.prog X.w X.K X.mg X.base CX k f fd ps sp) (hr:dm k X.A) (hb:gF X.K fd ps ds) (hd:aD dvs ds) (hx:ui CX X E)
 (I:ad X pins σ H s) (r:aD vs us) (h:sp (vs++dvs) H Q E):wpAny (model X.prog X.w) X.A (call (.ref f) us) (EP X pins σ Q) X.xe s:=by
 have r2:aD (vs++dvs) (us++ds):=r.append hd
 have hl:(us++ds).length=ps.length:=by rw [←r2.length];exact F.len _ _ _ _ h
 refine wpAny_call (codeAny_mono (F.run X.A X.stack s H ⟨us,[]⟩ (us++ds) (vs++dvs) Q E hr I.env0 (hb s us I.kIn hl) r2 h) fun r s' hq=>?_)
 cases r with
 | error e=>exact hx pins σ H s e s' I hq
 | ok fl=>
  cases fl with
  | ret u=>exact I.after hq
  | next=>exact False.elim hq
  | brk=>exact False.elim hq
  | cont=>exact False.elim hq
theorem dU (F:aQ X.prog X.w X.K X.mg X.base CX k f fd ps sp) (hr:dm k X.A) (hg:Gl X x) (hm:X.mg x=some (.ref f)) (hk:keepIn X.K (.ref f)=true) (hb:gF X.K fd ps ds) (hd:aD dvs ds) (hx:ui CX X E)
 (ha:PA X (e :: es) t) (hdb:(x==("__debug__" : Str))=false:=by ext) (he:starEach (e :: es) X.env=(false,eval e X.env) :: starEach es X.env:=by rfl) (hpl:(backTo pos (starEach es X.env)).any (·.1)=false:=by rfl) :
 PE X (.Call (.Name x p) (e :: es) [] pos) (Lj sp dvs E t):=by
 intro pins s σ H Q I h
 refine wpAny_Call_Name_kw (nh I hg hm ?_ hdb)
 refine callWith_K (h₀:=X.base) I.ok.mod.kin hk (aL (ha pos pins s σ H _ I h) fun us s1 ⟨vs,H1,I1,r,q⟩=>⟨I1.kIn,?_⟩) he hpl
 exact Jc F hr hb hd hx I1 r q
end
section
variable {X:Cx}{CX:lZ}{k:Nat}{f C:Addr}{fd:FuncData}{ps ks:List Str}{sp:Sp}{E:XK}{x m:Str}{p pos apos kpos:Pos}{e o:Expr}{es:List Expr}{kws:List Keyword}{te ta:TE}{t tk:TA}{nm:Option Str}
variable {g:List Value→List Value→List Value}{gV:List V→List V→List V}
end
structure aw (N P:List Str) (sc:Scope):Prop where
 kind:sc.kind=.function
 co:sc.isCoroutine=false
 gen:sc.isGenerator=false
 nd:N.Nodup
 pre:N.take P.length=P
 par:∀x∈P,sc.names.lookup x=some .local∨sc.names.lookup x=some .cell
 nofree:∀y∈sc.names,y.2≠.free
theorem xX {kindOf:Str→Option NameKind}{x:Str}:∀{binds:List (Str×Value)}{m:Str→Option Value},(∀v,(x,v)∉binds)→bindL kindOf binds m x=m x
 | [],_,_=>rfl
 | (n,v) :: r,m,h=>by
  unfold bindL
  rw [xX fun w hw=>h w (mem_cons_of_mem _ hw)]
  split
  ·have:x≠n:=by rintro rfl;exact h v mem_cons_self
   simp [this]
  ·rfl
theorem yo {kindOf:Str→Option NameKind}{x:Str}:∀{binds:List (Str×Value)}{m:Str→Option Value},(∀v,(x,v)∉binds)→bindC kindOf binds m x=m x
 | [],_,_=>rfl
 | (n,v) :: r,m,h=>by
  unfold bindC
  rw [yo fun w hw=>h w (mem_cons_of_mem _ hw)]
  split
  ·rfl
  ·have:x≠n:=by rintro rfl;exact h v mem_cons_self
   simp [this]
theorem yr {kindOf:Str→Option NameKind}{x:Str}{v:Value}:∀{P:List Str}{vs:List Value}{i:Nat}{m:Str→Option Value},P.Nodup→P[i]?=some x→vs[i]?=some v→kindOf x=some .local→
 bindL kindOf (P.zip vs) m x=some v
 | [],_,_,_,_,h,_,_=>by simp at h
 | _ :: _,[],_,_,_,_,h,_=>by simp at h
 | p :: P,w :: vs,0,m,nd,h1,h2,hk=>by
  simp at h1 h2;subst h1;subst h2
  show bindL kindOf ((p,w) :: P.zip vs) m p=_
  unfold bindL
  rw [xX fun v hv=>(List.nodup_cons.mp nd).1 (of_mem_zip hv).1,if_pos hk]
  simp
 | p :: P,w :: vs,i+1,m,nd,h1,h2,hk=>by
  show bindL kindOf ((p,w) :: P.zip vs) m x=_
  unfold bindL
  exact yr (i:=i) (List.nodup_cons.mp nd).2 (by simpa using h1) (by simpa using h2) hk
theorem yd {kindOf:Str→Option NameKind}{x:Str}{v:Value}:∀{P:List Str}{vs:List Value}{i:Nat}{m:Str→Option Value},P.Nodup→P[i]?=some x→vs[i]?=some v→kindOf x≠some .local→
 bindC kindOf (P.zip vs) m x=some v
 | [],_,_,_,_,h,_,_=>by simp at h
 | _ :: _,[],_,_,_,_,h,_=>by simp at h
 | p :: P,w :: vs,0,m,nd,h1,h2,hk=>by
  simp at h1 h2;subst h1;subst h2
  show bindC kindOf ((p,w) :: P.zip vs) m p=_
  unfold bindC
  rw [yo fun v hv=>(List.nodup_cons.mp nd).1 (of_mem_zip hv).1,if_neg hk]
  simp
 | p :: P,w :: vs,i+1,m,nd,h1,h2,hk=>by
  show bindC kindOf ((p,w) :: P.zip vs) m x=_
  unfold bindC
  exact yd (i:=i) (List.nodup_cons.mp nd).2 (by simpa using h1) (by simpa using h2) hk
def mQ (N:List Str) (vs:List V):St:=vs.map some++replicate (N.length - vs.length) none
def rh (CX:lZ) (P:Program) (w:World) (K:Frag) (mg:Str→Option Value) (base:Heap) (N:List Str) (qual:Str) (scope:Scope) (f:Addr) (cd:Value) (A:Around) (outer:List Env) (s:Shared) (H:Hp) (E:XK):Cx where
 prog:=P
 w:=w
 K:=K
 mg:=mg
 base:=base
 A:=A.deeper (envOfC qual scope #[s] f cd)
 N:=N
 s₀:=s
 H₀:=H
 env:=envOfC qual scope #[s] f cd
 outer:=outer
 stack:=envOfC qual scope #[s] f cd :: outer
 ex:=[]
 calm:=true
 fn:=fun _=>true
 pn:=[]
 xe:=fun e s'=>wpAny (model P w) (A.deeper (envOfC qual scope #[s] f cd)) (leaving (envOfC qual scope #[s] f cd) e) (fun _ s''=>CX outer H s E e s'') (fun e' s''=>CX outer H s E e' s'') s'
theorem Av {sc:Scope}{n:Nat}{x:Str} (h:sc.names.lookup x=some .cell):∃c,(cellsFrom n sc.names []).lookup x=some c:=by
 have q:=PySem.W.cellsFrom_some sc.names n [] (.inl h)
 exact Option.isSome_iff_exists.mp q
theorem Dr {CX:lZ}{P:Program}{w:World}{K:Frag}{mg:Str→Option Value}{base:Heap}{N ps:List Str}{qual:Str}{scope:Scope}{f:Addr}{cd:Value}{A:Around}{outer:List Env}{s s1:Shared}{H:Hp}{E:XK}{us:List Value}{vs:List V}
 (S:aw N ps scope) (hd:A.handled=none) (e0:vQ P w K mg base A outer s H) (hl:vs.length=ps.length) (r:aD vs us)
 (x:InCallC s #[s] (bindL (envOfC qual scope #[s] f cd).kindOf (ps.zip us) fun _=>none) (cellsFrom (#[s]+1) scope.names []) (bindC (envOfC qual scope #[s] f cd).kindOf (ps.zip us) fun _=>none) s1) :
 ad (rh CX P w K mg base N qual scope f cd A outer s H E) [] (mQ N vs) H s1:=by
 have hpl:ps.length≤N.length:=by have:=congrArg length S.pre;rw [length_take] at this;lia
 obtain ⟨h1,tk,rfl,hk⟩:=x.done
 have noA:∀b:Addr,b∉(rh CX P w K mg base N qual scope f cd A outer s H E).ex:=fun b z=>absurd (show b∈([]:List Addr) from z) (by simp)
 refine ⟨⟨e0.mod,S.kind,rfl,rfl,le_refl _,fun y z c h1 h2=>?_,fun y hy=>?_,fun y c _ h=>?_,fun _=>hd,Around.frames_deeper e0.frames,.inr ⟨rfl,rfl⟩,fun b z=>absurd z (noA b),e0.bs,e0.bsz,fun b _ _=>noA b,fun b z=>absurd z (noA b),e0.funs,e0.frf⟩,
  rfl,e0.bare,Un.kept hk,⟨_,x.toInCall.ns,fun i y v h1 h2 h3=>?_⟩,fun y c h=>⟨_,x.cell y c h⟩,e0.hok.fresh (le_refl _),fun y c h=>?_,fun p hp=>absurd (show p∈([]:List (Addr×Obj)) from hp) (by simp),e0.hok.kept hk,?_⟩
 ·exact name_of_addr x.apart (PySem.mem_of_lookup h1) (PySem.mem_of_lookup h2)
 ·have hy:scope.names.lookup y=some .cell∨scope.names.lookup y=some .free:=hy
  rcases hy with hy | hy
  ·exact Av hy
  ·exact absurd rfl (S.nofree _ (PySem.mem_of_lookup hy))
 ·exact le_of_lt (x.above y c (PySem.mem_of_lookup h))
 ·have hi:i<vs.length:=by
   unfold mQ at h2
   by_cases hi:i<vs.length
   ·exact hi
   ·rw [getElem?_append_right (by simpa using hi)] at h2
    rw [List.getElem?_replicate] at h2
    split at h2 <;> cases h2
  have ha:vs[i]?=some v:=by
   unfold mQ at h2
   rw [getElem?_append_left (by simpa using hi),getElem?_map] at h2
   cases e:vs[i]? with
   | none=>rw [e] at h2;cases h2
   | some a=>rw [e] at h2;cases h2;rfl
  obtain ⟨u,hu,rv⟩:=r.get ha
  have hp:ps[i]?=some y:=by
   rw [←S.pre,List.getElem?_take_of_lt (by lia)];exact h1
  have ndP:ps.Nodup:=by rw [←S.pre];exact S.nd.sublist (List.take_sublist _ _)
  refine ⟨u,rv,?_⟩
  rcases S.par y (mem_of_getElem? hp) with k | k
  ·exact .inl ⟨k,yr ndP hp hu k⟩
  ·obtain ⟨c,e⟩:=Av (n:=#[s]+1) k
   refine .inr ⟨.inl k,c,e,?_⟩
   have q:=x.cell y c e
   rw [yd ndP hp hu (by show scope.names.lookup y≠_;rw [k];decide)] at q
   exact q
 ·exact e0.hok.fresh (le_of_lt (x.above y c (PySem.mem_of_lookup h)))
 ·unfold mQ
  show _=N.length
  rw [length_append,length_map,length_replicate]
  lia
theorem Fm {CX:lZ}{P:Program}{w:World}{K:Frag}{mg:Str→Option Value}{base:Heap}{k:Nat}{f:Addr}{name qual:Str}{params:Arguments}{body:List Stmt}{scope:Scope}{dV kV doc pm cdv ct oc:Value}{an od:Option Addr}
 {osl:Array (Option Value)}{N ps:List Str}{sp:Sp} (lk:K.lookup f=some ⟨oc,od,.func (PySem.W.fnOf name qual params body scope dV kV doc pm an cdv ct),osl⟩) (hcd:PySem.W.codeIn K cdv qual=true) (S:aw N ps scope)
 (len:∀vs H Q E,sp vs H Q E→vs.length=ps.length)
 (hbody:∀(A:Around) (outer:List Env) (s:Shared) (H:Hp) (vs:List V) (Q:VK) (E:XK),dm k (A.deeper (envOfC qual scope #[s] f cdv))→sp vs H Q E→
  ∃t,mJ (rh CX P w K mg base N qual scope f cdv A outer s H E) body t∧t { nx:=fun _ H'=>Q .non H',rt:=Q } (mQ N vs) H) :
 aQ P w K mg base CX (k+1) f (PySem.W.fnOf name qual params body scope dV kV doc pm an cdv ct) ps sp:=by
 refine ⟨len,fun A outer s H args us vs Q E hr e0 hb r hsp=>?_⟩
 have hl:=len _ _ _ _ hsp
 have KX:K.In s.heap:=e0.mod.kin.keeps fun b o e=>(e0.bs b o e).1
 have lim:s.heap.NoLimit:=e0.mod.nolimit.keeps fun b o e=>(e0.bs b o e).1
 have hkind:∀y∈ps.zip us,scope.names.lookup y.1=some .local∨(scope.names.lookup y.1=some .cell∧((cellsFrom (#[s]+1) scope.names []).lookup y.1).isSome=true):=fun ⟨n,v⟩ hy=>by
  rcases S.par n (of_mem_zip hy).1 with q | q
  ·exact .inl q
  ·exact .inr ⟨q,PySem.W.cellsFrom_some _ _ _ (.inl q)⟩
 refine codeAny_call_function hr.depth (KX _ _ lk) rfl S.co S.gen rfl (PySem.W.codeRec_of KX hcd) (hb _ _ _ _ ?_)
 refine wpAny_newFunctionEnv_cells S.kind hkind fun env he s1 x=>?_
 subst he
 refine ⟨lim.keeps x.toInCall.keep,codeAny_func ?_⟩
 obtain ⟨t,ht,hq⟩:=hbody A outer s H vs Q E (hr.deeper _) hsp
 have I:ad (rh CX P w K mg base N qual scope f cdv A outer s H E) [] (mQ N vs) H s1:=Dr S hr.hd e0 hl r x
 refine wpAny_mono (ht [] s1 (mQ N vs) H _ I hq) (fun fl s' hs=>?_) fun e s' hs=>hs
 have aV:∀{σ':St}{H':Hp}{v:V}{u:Value},ad (rh CX P w K mg base N qual scope f cdv A outer s H E) [] σ' H' s'→aO v u→Q v H'→CE outer P w H s Q u s':=
  fun {σ' H' v u} J rv q=>⟨v,H',J.os,J.bare,J.base,J.hok,rv,q⟩
 cases fl with
 | ret u=>
  obtain ⟨v,σ',H',J,rv,q⟩:=hs
  exact aV J rv q
 | next=>
  obtain ⟨σ',H',J,q⟩:=hs
  exact aV (v:=V.non) (u:=Value.none) J rfl q
 | brk=>
  obtain ⟨_,_,_,q⟩:=hs
  exact False.elim q
 | cont=>
  obtain ⟨_,_,_,q⟩:=hs
  exact False.elim q
end L2
namespace L2
open PySem PySem.Spec PyProof.Rows
section
variable {X:Cx}{x:Str}{p pos:Pos}{e:Expr}{es:List Expr}{t:TA}{id T:String}{r:List V→Hp→VK→Prop}
def Ll (r:List V→Hp→VK→Prop) (t:TA):TE:=fun σ H Q=>t σ H fun vs H1=>r vs H1 Q
theorem lc (hc:cy X (.builtin id) r) (hg:Gl X x) (hm:X.mg x=none) (hv:bootBuiltins x=some (.builtin id)) (ha:PA X (e :: es) t) (hn:x≠"__name__" := by ext) (hdb:(x==("__debug__" : Str))=false:=by ext)
 (he:starEach (e :: es) X.env=(false,eval e X.env) :: starEach es X.env:=by rfl) (hpl:(backTo pos (starEach es X.env)).any (·.1)=false:=by rfl):PE X (.Call (.Name x p) (e :: es) [] pos) (Ll r t):=by
 intro pins s σ H Q I h
 refine wpAny_Call_Name_kw (f9 I hg hm hv ?_ hn hdb)
 exact PyProof.Rows.callWith_builtin1 (aL (ha pos pins s σ H _ I h) fun us s1 ⟨vs,H1,I1,r1,q1⟩=>hc pins s1 σ H1 vs us Q I1 r1 q1) he hpl
theorem di (hc:cy X (.type T) r) (hg:Gl X x) (hm:X.mg x=none) (hv:bootBuiltins x=some (.type T)) (ha:PA X (e :: es) t) (hn:x≠"__name__" := by ext) (hdb:(x==("__debug__" : Str))=false:=by ext)
 (he:starEach (e :: es) X.env=(false,eval e X.env) :: starEach es X.env:=by rfl) (hpl:(backTo pos (starEach es X.env)).any (·.1)=false:=by rfl):PE X (.Call (.Name x p) (e :: es) [] pos) (Ll r t):=by
 intro pins s σ H Q I h
 refine wpAny_Call_Name_kw (f9 I hg hm hv ?_ hn hdb)
 exact PyProof.Rows.callWith_type1 (aL (ha pos pins s σ H _ I h) fun us s1 ⟨vs,H1,I1,r1,q1⟩=>hc pins s1 σ H1 vs us Q I1 r1 q1) he hpl
end
end L2
namespace HT
open PySem PyProof.Rows
section
open PySem.SeqAt
open PySem.AutoSeq1 (wpAny_loadPart')
open PySem.MeetsSeq PySem.MeetsSeq2 PySem.MeetsSeq3
end
section
variable {prog:Program}{w:World}{A:Around}{E:Value→Shared→Prop}{s:Shared}
theorem cat_tup {t b:Addr}{vs ws:List Value}{Q:Value→Shared→Prop} (ht:IsTup s.heap t vs.toArray) (hb:IsTup s.heap b ws.toArray) (hv:vs≠[])
 (h1:ws=[]→Q (.ref t) s) (h2:ws≠[]→Q (.ref #[s]) { s with heap:=s.heap.push { cls:=.type "tuple",data:=.seq (vs++ws).toArray } })
 (hsz:vs.length+ws.length≤sizeLine):wpAny (model prog w) A (binaryOp .Add (.ref t) (.ref b)) Q E s:=by
 obtain ⟨⟨cls,dd,data,sl⟩,ho,hc,n,hd⟩:=id ht
 obtain ⟨⟨cls2,dd2,data2,sl2⟩,ho2,hc2,n2,hd2⟩:=id hb
 simp only at hc hd hc2 hd2
 subst hc hd hc2 hd2
 have e:vs.toArray++ws.toArray=(vs++ws).toArray:=by simp
 by_cases hw:ws=[]
 ·exact concat_meets ⟨_,ho,rfl⟩ ⟨_,ho2,rfl⟩ noFill_tuple_add seq_tuple_add PySem.F.slot_tuple_add PySem.F.entry_tuple_add (PySem.F.args_tuple_add_2 _ _)
   (tuple_addW1 t b vs.toArray ws.toArray n n2 dd dd2 sl sl2 (by simpa using hv) (by simp [hw])) ⟨ho,ho2,h1 hw⟩
 ·refine concat_meets ⟨_,ho,rfl⟩ ⟨_,ho2,rfl⟩ noFill_tuple_add seq_tuple_add PySem.F.slot_tuple_add PySem.F.entry_tuple_add (PySem.F.args_tuple_add_2 _ _)
   (tuple_addW2 t b vs.toArray ws.toArray n n2 dd dd2 sl sl2 (by simpa using hv) (by simpa using hw) (by rw [size_toArray,size_toArray];exact hsz)) ⟨ho,ho2,?_⟩
  rw [e]
  exact h2 hw
def sIx (n d:Nat):Option Int→Nat
 | none=>d
 | some v=>if v<0 then (v+(n:Int)).toNat else min v.toNat n
theorem sIx_none (n d:Nat):sIx n d none=d:=rfl
theorem sIx_nat (n d k:Nat):sIx n d (some (k:Int))=min k n:=by
 show (if (k:Int)<0 then ((k:Int)+(n:Int)).toNat else min (k:Int).toNat n)=min k n
 rw [if_neg (by lia),toNat_natCast]
theorem Ip (n d:Nat) (hd:d≤n) (o:Option Int):sIx n d o≤n:=by
 cases o with
 | none=>exact hd
 | some v=>
  show (if v<0 then (v+(n:Int)).toNat else min v.toNat n)≤n
  by_cases hv:v<0
  ·rw [if_pos hv];lia
  ·rw [if_neg hv];exact Nat.min_le_right _ _
theorem A7 (v:Int) (n d:Nat):(if v<0 then max (v+(n:Int)) 0 else min v (n:Int))=((sIx n d (some v):Nat):Int):=by
 show (if v<0 then max (v+(n:Int)) 0 else min v (n:Int))=(((if v<0 then (v+(n:Int)).toNat else min v.toNat n):Nat):Int)
 by_cases hv:v<0
 ·simp only [if_pos hv];lia
 ·simp only [if_neg hv];lia
theorem Bn (lo hi:Option Int) (n:Nat):Builtin.Slice.sliceAdjust lo hi 1 (n:Int)=(((sIx n 0 lo:Nat):Int),((sIx n n hi:Nat):Int)):=by
 have h1:¬((1:Int)<0):=by lia
 unfold Builtin.Slice.sliceAdjust
 simp only [h1,if_false]
 refine Prod.ext ?_ ?_
 ·cases lo with
  | none=>rfl
  | some v=>exact A7 v n 0
 ·cases hi with
  | none=>rfl
  | some v=>exact A7 v n n
theorem Cm (i j:Nat):Builtin.Slice.slicePlaces (i:Int) (j:Int) 1=j - i:=by
 unfold Builtin.Slice.slicePlaces
 have h1:(1:Int) > 0:=by lia
 simp only [h1,if_true,Int.ediv_one]
 split <;> lia
theorem xm {v:Value}{o:Option Int}{Q:Option Int→Shared→Prop} (p:IsPart v o) (h:Q o s):wpAny (model prog w) A (Builtin.Slice.slicePartIndex v) Q E s:=by
 cases p with
 | none=>exact slicePart_none h
 | int i t=>exact slicePart_int h
theorem nF {sl:Addr}{vl vu:Value}{lo hi:Option Int}{n:Nat}{Q:Int×Int×Nat→Shared→Prop} (hs:s.heap.IsSliceOf sl vl vu .none) (pl:IsPart vl lo) (pu:IsPart vu hi)
 (h:Q (((sIx n 0 lo:Nat):Int),1,sIx n n hi - sIx n 0 lo) s):wpAny (model prog w) A (Builtin.Slice.sliceApplied (.ref sl) (pure (n:Int))) Q E s:=by
 obtain ⟨os,hos,hcs,hds⟩:=id hs
 unfold Builtin.Slice.sliceApplied Builtin.Slice.sliceFields
 refine wpAny_bind (wpAny_bind (wpAny_field hos hds (x:=vl) rfl (wpAny_bind (wpAny_field hos hds (x:=vu) rfl (wpAny_bind (wpAny_field hos hds (x:=.none) rfl (wpAny_pure ?_)))))))
 refine wpAny_bind (slicePart_none ?_)
 show wpAny _ _ (if ((1:Int)==0)=true then _ else _) _ _ s
 rw [if_neg (by ext)]
 refine wpAny_bind (xm pl (wpAny_bind (xm pu (wpAny_bind (wpAny_pure ?_)))))
 show wpAny _ _ (match Builtin.Slice.sliceAdjust lo hi 1 (n:Int) with | (lo,hi)=>pure (lo,(1:Int),Builtin.Slice.slicePlaces lo hi 1)) _ _ s
 rw [Bn lo hi n]
 show wpAny _ _ (pure (((sIx n 0 lo:Nat):Int),(1:Int),Builtin.Slice.slicePlaces ((sIx n 0 lo:Nat):Int) ((sIx n n hi:Nat):Int) 1)) _ _ s
 rw [Cm]
 exact wpAny_pure h
theorem EX (xs:Array Value) (i k:Nat):((List.range k).filterMap fun (m:Nat)=>xs[((i:Int)+(m:Int)*1).toNat]?).toArray=((xs.toList.drop i).take k).toArray:=by
 have e:(fun (m:Nat)=>xs[((i:Int)+(m:Int)*1).toNat]?)=fun m=>xs[i+m]?:=by
  funext m
  have:((i:Int)+(m:Int)*1).toNat=i+m:=by lia
  rw [this]
 rw [e]
 have:=pick_run xs i k
 rw [List.filterMap_map] at this
 have e2:((fun x=>xs[x]?) ∘ fun x=>i+x)=fun m=>xs[i+m]?:=rfl
 rw [e2] at this
 rw [this]
theorem getItem_tuple_cut {t sl:Addr}{items:Array Value}{vl vu:Value}{lo hi:Option Int}{Q:Value→Shared→Prop} (ht:IsTup s.heap t items) (hs:s.heap.IsSliceOf sl vl vu .none) (pl:IsPart vl lo) (pu:IsPart vu hi)
 (hw:¬(sIx items.size 0 lo=0∧sIx items.size items.size hi=items.size))
 (h:Q (.ref #[s]) { s with heap:=s.heap.push { cls:=.type "tuple",data:=.seq ((items.toList.drop (sIx items.size 0 lo)).take (sIx items.size items.size hi - sIx items.size 0 lo)).toArray } })
 (hsz:items.size≤sizeLine):wpAny (model prog w) A (getItem (.ref t) (.ref sl)) Q E s:=by
 have htake:sizeOk (.seq ((items.toList.drop (sIx items.size 0 lo)).take (sIx items.size items.size hi - sIx items.size 0 lo)).toArray):=by
  show ((items.toList.drop (sIx items.size 0 lo)).take (sIx items.size items.size hi - sIx items.size 0 lo)).toArray.size≤sizeLine
  rw [size_toArray,length_take,length_drop,Array.length_toList]
  exact le_trans (Nat.min_le_right ..) (le_trans (Nat.sub_le ..) hsz)
 have hj:sIx items.size items.size hi≤items.size:=Ip _ _ (le_refl _) hi
 obtain ⟨os,hos,hcs,hds⟩:=id hs
 have hTs:s.TypeIs (.ref sl) "slice" := ⟨os,hos,hcs⟩
 unfold getItem
 try with_reducible refine wpAny_holding ?_
 first | refine wpAny_bind (wpAny_pure ?_) | skip
 refine wpAny_bind (wpAny_sequenceKey ht.typeIs (by ext) ?_)
 refine wpAny_bind (wpAny_callSpecial?_slot (name:=Str.ofString "__getitem__") ht.typeIs PyProof.Rows.slot_tuple_getitem
  (wpAny_call_entry PyProof.Rows.slot_tuple_getitem ht.typeIs entry_tuple_getitem ?_ (args_tuple_getitem _ _)))
 show wpAny _ _ (Builtin.Tuple.tupleItemsOf (.ref t) >>= _) _ _ s
 refine wpAny_bind (tupleItemsOf_ ht ?_)
 refine wpAny_bind (wpAny_typeOf hTs ?_)
 rw [if_pos (by ext)]
 refine wpAny_bind (nF hs pl pu ?_)
 have hno:¬((((sIx items.size 0 lo:Nat):Int)==0 && (1:Int)==1 && (sIx items.size items.size hi - sIx items.size 0 lo)==items.size)=true):=by
  intro q
  rw [Bool.and_eq_true,Bool.and_eq_true] at q
  have q1:((sIx items.size 0 lo:Nat):Int)=0:=eq_of_beq q.1.1
  have q2:sIx items.size items.size hi - sIx items.size 0 lo=items.size:=eq_of_beq q.2
  exact hw ⟨by lia,by lia⟩
 show wpAny _ _ (if (((sIx items.size 0 lo:Nat):Int)==0 && (1:Int)==1 && (sIx items.size items.size hi - sIx items.size 0 lo)==items.size)=true then _ else _) _ _ s
 rw [if_neg hno,EX]
 first
  | exact wpAny_bind (m:=Builtin.Tuple.tupleExact _) (wpAny_newObj_type (wpAny_pure ⟨_,rfl,wpAny_pure h⟩) htake)
  | exact wpAny_bind (m:=Builtin.Tuple.tupleExact _) (wpAny_newObj_type (wpAny_bind (wpAny_pure (wpAny_pure ⟨_,rfl,wpAny_pure h⟩))) htake)
  | exact wpAny_bind (wpAny_bind (m:=Builtin.Tuple.tupleExact _) (wpAny_newObj_type (wpAny_pure (wpAny_pure ⟨_,rfl,wpAny_pure h⟩)) htake))
  | exact wpAny_bind (wpAny_bind (m:=Builtin.Tuple.tupleExact _) (wpAny_newObj_type (wpAny_pure ⟨_,rfl,wpAny_pure h⟩) htake))
end
end HT
namespace L2
open PySem PySem.Spec PyProof.Rows
abbrev TO:=St→Hp→(Option Int→Hp→Prop)→Prop
def PO (X:Cx) (e:Option Expr) (t:TO):Prop:=
 ∀(pins:List (Addr×Obj)) (s:Shared) (σ:St) (H:Hp) (Q:Option Int→Hp→Prop),ad X pins σ H s→t σ H Q→
   wpAny (model X.prog X.w) X.A (evalPart e X.env) (fun u s'=>aT fun o H'=>ad X pins σ H' s'∧IsPart u o∧Q o H') X.xe s
def GS:TO:=fun _ H Q=>Q none H
def Ke (t:TE):TO:=fun σ H Q=>t σ H fun x H1=>Ho x fun i=>Q (some i) H1
section
variable {X:Cx}{e:Expr}{te:TE}{lo hi:Option Expr}{tl th:TO}{pos p2:Pos}
theorem dA:PO X none GS:=by
 intro pins s σ H Q I h
 rw [evalPart_none]
 exact wpAny_pure ⟨none,H,I,.none,h⟩
theorem cH (h:PE X e te):PO X (some e) (Ke te):=by
 intro pins s σ H Q I hw
 rw [evalPart_some]
 refine aL (h pins s σ H _ I hw) fun u s1 ⟨x,H1,I1,r1,q1⟩=>?_
 obtain ⟨i,rfl,q⟩:=q1
 obtain ⟨t,rfl⟩:=r1
 exact ⟨some i,H1,I1,.int i t,q⟩
def DF (X:Cx) (r:V→Option Int→Option Int→Hp→VK→Prop):Prop:=
 ∀(pins:List (Addr×Obj)) (s:Shared) (σ:St) (H:Hp) (x:V) (v vl vu:Value) (lo hi:Option Int) (sl:Addr) (Q:VK),ad X pins σ H s→aO x v→s.heap.IsSliceOf sl vl vu .none→IsPart vl lo→IsPart vu hi→r x lo hi H Q→
   aT fun T id=>typeLookup (.type T) "__getitem__" = pure (some (.builtin id))∧s.TypeIs v T∧wpAny (model X.prog X.w) X.A (getItem v (.ref sl)) (EP X pins σ Q) X.xe s
def MC (r:V→Option Int→Option Int→Hp→VK→Prop) (te:TE) (tl th:TO):TE:=fun σ H Q=>te σ H fun x H1=>tl σ H1 fun l H2=>th σ H2 fun u H3=>r x l u H3 Q
theorem cg {r:V→Option Int→Option Int→Hp→VK→Prop} (hr:DF X r) (he:PE X e te) (hl:PO X lo tl) (hu:PO X hi th):PE X (.Subscript e (.Slice lo hi none p2) pos) (MC r te tl th):=by
 intro pins s σ H Q I h
 refine Subscript_ (aL (he pins s σ H _ I h) fun v s1 ⟨x,H1,I1,r1,q1⟩=>?_)
 refine wpAny_Slice (aL (hl pins s1 σ H1 _ I1 q1) fun vl s2 ⟨l,H2,I2,pl,q2⟩=>aL (hu pins s2 σ H2 _ I2 q2) fun vu s3 ⟨u,H3,I3,pu,q3⟩=>?_)
 rw [evalPart_none]
 refine wpAny_pure ?_
 have I4:ad X pins σ H3 { s3 with heap:=s3.heap.push { cls:=.type "slice",data:=.fields #[vl,vu,.none] } }:=I3.kept (t':=s3.toks) fun b ob q=>Heap.get?_push_of_some _ q
 obtain ⟨T,id,hT,ht,hg⟩:=hr pins { s3 with heap:=s3.heap.push { cls:=.type "slice",data:=.fields #[vl,vu,.none] } } σ H3 x v vl vu l u #[s3] Q I4 r1 (Heap.IsSliceOf.new ..) pl pu q3
 show wpAny (model X.prog X.w) X.A (subscriptTail e (.Slice lo hi none p2) v (.ref #[s3])) (EP X pins σ Q) X.xe { s3 with heap:=s3.heap.push { cls:=.type "slice",data:=.fields #[vl,vu,.none] } }
 exact tail_any (ops:=[.ref #[s3],v]) ht hT hg (by with_unfolding_all rfl)
def dW (xs:List V) (lo hi:Option Int):List V:=(xs.drop (HT.sIx xs.length 0 lo)).take (HT.sIx xs.length xs.length hi - HT.sIx xs.length 0 lo)
theorem vj (xs:List V) (lo hi:Option Int):(dW xs lo hi).length≤xs.length:=by
 unfold dW
 rw [length_take,length_drop]
 exact le_trans (Nat.min_le_right ..) (Nat.sub_le ..)
inductive Kw (K:Frag) (x:V) (lo:Option Int) (hi:Option Int) (H:Hp) (Q:VK):Prop
 | mk (a:_) (xs:_) (h0:x=.ref a) (h1:af K H a xs) (h2:¬(HT.sIx xs.length 0 lo=0∧HT.sIx xs.length xs.length hi=xs.length)) (h3:∀p,H p=none→Q (.ref p) (aE H p (.tup (dW xs lo hi))))
def Lz (K:Frag):V→Option Int→Option Int→Hp→VK→Prop:=fun x lo hi H Q=>Kw K x lo hi H Q
theorem Iz:DF X (Lz X.K):=by
 intro pins s σ H x v vl vu lo hi sl Q I rx hs pl pu h
 obtain ⟨a,xs,rfl,hx,hw,q⟩:=h
 cases rx
 obtain ⟨its,r,ht,hz⟩:=I.tuple hx
 have hlen:its.toArray.size=xs.length:=by rw [size_toArray];exact r.length.symm
 refine ⟨"tuple",_,PyProof.Rows.slot_tuple_getitem.lookup,ht.typeIs,?_⟩
 refine HT.getItem_tuple_cut ht hs pl pu (by rw [hlen];exact hw) ?_ (by rw [hlen];exact hz)
 rw [hlen]
 refine ⟨.ref #[s],_,I.laid (t':=s.toks) (o:=.tup (dW xs lo hi)) (fun b ob q=>Heap.get?_push_of_some _ q) (le_refl _) ?_,rfl,q _ (I.hok.fresh (le_refl _))⟩
 exact ⟨le_trans (vj xs lo hi) hz,_,(r.drop (HT.sIx xs.length 0 lo)).take (HT.sIx xs.length xs.length hi - HT.sIx xs.length 0 lo),IsTup.new _ _,_,Heap.get?_push_size _ rfl,rfl⟩
inductive Jx (K:Frag) (x:V) (y:V) (H:Hp) (Q:VK):Prop
 | mk (a:_) (b:_) (xs:_) (ys:_) (h0:x=.ref a) (h1:y=.ref b) (h2:af K H a xs) (h3:af K H b ys) (h4:xs≠[]) (h5:xs.length+ys.length≤sizeLine) (h6:(ys=[]→Q (.ref a) H)) (h7:(ys≠[]→∀p,H p=none→Q (.ref p) (aE H p (.tup (xs++ys)))))
def Ki (K:Frag):R2:=fun x y H Q=>Jx K x y H Q
theorem aD.nil_iff {xs:List V}{us:List Value} (r:aD xs us):us=[]↔xs=[]:=by
 cases r with
 | nil=>simp
 | cons _ _=>simp
theorem GP:cn X (binaryOp .Add) (Ki X.K):=by
 intro pins s σ H x y v u Q I rx ry h
 obtain ⟨a,b,xs,ys,rfl,rfl,ha,hb,hx,hz,q1,q2⟩:=h
 cases rx
 cases ry
 obtain ⟨its,r1,p1,_⟩:=I.tuple ha
 obtain ⟨its2,r2,p2,_⟩:=I.tuple hb
 refine HT.cat_tup p1 p2 (fun z=>hx (r1.nil_iff.mp z)) (fun z=>⟨.ref a,H,I,rfl,q1 (r2.nil_iff.mp z)⟩) (fun z=>?_) (by rw [←r1.length,←r2.length];exact hz)
 refine ⟨.ref #[s],_,I.laid (t':=s.toks) (o:=.tup (xs++ys)) (fun b ob q=>Heap.get?_push_of_some _ q) (le_refl _) ?_,rfl,q2 (fun w=>z (r2.nil_iff.mpr w)) _ (I.hok.fresh (le_refl _))⟩
 exact ⟨by rw [length_append];exact hz,_,r1.append r2,IsTup.new _ _,_,Heap.get?_push_size _ rfl,rfl⟩
end
def vh (n:Nat) (i:Int):Option Nat:=if 0≤i then (if i<n then some i.toNat else none) else if -(n:Int)≤i then some (i+n).toNat else none
def gB {α:Type} (xs:List α) (i:Int):Option α:=(vh xs.length i).bind fun j=>xs[j]?
theorem Bg {n:Nat}{i:Int}{j:Nat} (h:vh n i=some j):seqIndex? i n=some j∧j<n∧-(n:Int)≤i∧i<n:=by
 unfold vh at h
 by_cases h0:0≤i
 ·rw [if_pos h0] at h
  by_cases h1:i<n
  ·rw [if_pos h1] at h
   have e:i.toNat=j:=Option.some.inj h
   exact ⟨by rw [seqIndex_of h0 h1,e],by lia,by lia,h1⟩
  ·rw [if_neg h1] at h;cases h
 ·rw [if_neg h0] at h
  by_cases h1:-(n:Int)≤i
  ·rw [if_pos h1] at h
   have e:(i+n).toNat=j:=Option.some.inj h
   exact ⟨by rw [seqIndex_neg (by lia) h1,e],by lia,h1,by lia⟩
  ·rw [if_neg h1] at h;cases h
theorem xH {α:Type}{xs:List α}{i:Int}{v:α} (h:gB xs i=some v):∃j,seqIndex? i xs.length=some j∧xs[j]?=some v∧j<xs.length∧-(xs.length:Int)≤i∧i<xs.length:=by
 unfold gB at h
 cases e:vh xs.length i with
 | none=>rw [e] at h;cases h
 | some j=>
  rw [e] at h
  obtain ⟨h1,h2,h3,h4⟩:=Bg e
  exact ⟨j,h1,h,h2,h3,h4⟩
theorem cq {α:Type}{xs:List α}{j:Nat}{v:α} (h:xs[j]?=some v):gB xs (j:Int)=some v:=by
 have hj:j<xs.length:=(List.getElem?_eq_some_iff.mp h).1
 have e:vh xs.length (j:Int)=some j:=by
  unfold vh
  rw [if_pos (by lia),if_pos (by lia)];simp
 unfold gB;rw [e];exact h
theorem zt {α:Type} (xs:List α) (v:α):gB (xs++[v]) (-1)=some v:=by
 have hl:(xs++[v]).length=xs.length+1:=by simp
 have e:vh (xs++[v]).length (-1)=some xs.length:=by
  unfold vh
  rw [hl,if_neg (by ext),if_pos (by lia)]
  congr 1
  lia
 unfold gB
 rw [e]
 show (xs++[v])[xs.length]?=some v
 simp
def Gx (b:Expr):Prop:=∀o i,subscripted b false o i=operate [o,i] (getItem o i)
def si (X:Cx) (r:R2):Prop:=
 ∀(value slice:Expr) (pins:List (Addr×Obj)) (s:Shared) (σ:St) (H:Hp) (x y:V) (v u:Value) (Q:VK),ad X pins σ H s→aO x v→aO y u→r x y H Q→
   subscripted slice false v u=operate [v,u] (getItem v u)→wpAny (model X.prog X.w) X.A (subscriptTail value slice v u) (EP X pins σ Q) X.xe s
def FG (X:Cx) (id:String) (r:V→List V→Hp→VK→Prop):Prop:=
 ∀(pins:List (Addr×Obj)) (s:Shared) (σ:St) (H:Hp) (x:V) (xs:List V) (v:Value) (us:List Value) (Q:VK),ad X pins σ H s→aO x v→aD xs us→r x xs H Q→
   wpAny (model X.prog X.w) X.A (call (.builtin id) (v :: us)) (EP X pins σ Q) X.xe s
section
variable {X:Cx}{a b:Expr}{ta tb:TE}{pos:Pos}
theorem si.or {r r':R2} (h:si X r) (h':si X r'):si X (fun x y H Q=>r x y H Q∨r' x y H Q):=by
 intro value slice pins s σ H x y v u Q I rx ry q hs
 rcases q with q | q
 ·exact h value slice pins s σ H x y v u Q I rx ry q hs
 ·exact h' value slice pins s σ H x y v u Q I rx ry q hs
theorem bP {r:R2} (hr:si X r) (ha:PE X a ta) (hb:PE X b tb) (hs:Gx b):PE X (.Subscript a b pos) (Fr r ta tb):=by
 intro pins s σ H Q I h
 exact Subscript_ (ER ha hb I h fun v u s2 x y H2 I2 rx ry q=>hr a b pins s2 σ H2 x y v u Q I2 rx ry q (hs _ _))
inductive JO (K:Frag) (x:V) (y:V) (H:Hp) (Q:VK):Prop
 | mk (p:_) (xs:_) (i:_) (v:_) (h0:x=.ref p) (h1:y=.int i) (h2:aq K H p xs) (h3:gB xs i=some v) (h4:Q v H)
def E5 (K:Frag):R2:=fun x y H Q=>JO K x y H Q
inductive Lb (K:Frag) (x:V) (y:V) (H:Hp) (Q:VK):Prop
 | mk (p:_) (xs:_) (i:_) (v:_) (h0:x=.ref p) (h1:y=.int i) (h2:af K H p xs) (h3:gB xs i=some v) (h4:Q v H)
def EG (K:Frag):R2:=fun x y H Q=>Lb K x y H Q
inductive JY (x:V) (y:V) (H:Hp) (Q:VK):Prop
 | mk (z:_) (i:_) (c:_) (h0:x=.str z) (h1:y=.int i) (h2:z.length≤sizeLine) (h3:gB z.cps.toList i=some c) (h4:Q (.str ⟨#[c,]⟩) H)
def IZ:R2:=fun x y H Q=>JY  x y H Q
theorem AS:si X (E5 X.K):=by
 intro value slice pins s σ H x y v u Q I rx ry h hs
 obtain ⟨p,xs,i,z,rfl,rfl,hq,he,q⟩:=h
 cases rx
 obtain ⟨t,rfl⟩:=ry
 obtain ⟨its,r,pl,hz⟩:=I.list hq
 obtain ⟨j,h1,h2,h3,h4,h5⟩:=xH he
 obtain ⟨w,ew,rw'⟩:=r.get h2
 have hl:=r.length
 have hn:=tj
 have aV:EP X pins σ Q w s:=⟨z,H,I,rw',q⟩
 by_cases h0:0≤i
 ·have hj:i.toNat=j:=by
   rw [seqIndex_of h0 h5] at h1
   exact Option.some.inj h1
  exact item_listR pl.isList h0 (by lia) (by rw [hj];simpa using ew) aV hs
 ·have hj:(i+(its.toArray.size:Int)).toNat=j:=by
   rw [seqIndex_neg (by lia) h4] at h1
   rw [size_toArray,←hl]
   exact Option.some.inj h1
  exact subscriptTail_builtinR (x:=w) pl.isList.typeIs slot_list_getitem.lookup
   (wpAny_getItem_list_neg (Q:=fun r s'=>r=w∧EP X pins σ Q r s') pl.isList (by lia) (by rw [size_toArray] <;> lia) (by lia) (by rw [hj];simpa using ew) ⟨rfl,aV⟩) hs
theorem Dv:si X (EG X.K):=by
 intro value slice pins s σ H x y v u Q I rx ry h hs
 obtain ⟨p,xs,i,z,rfl,rfl,hq,he,q⟩:=h
 cases rx
 obtain ⟨t,rfl⟩:=ry
 obtain ⟨its,r,pl,hz⟩:=I.tuple hq
 obtain ⟨j,h1,h2,h3,h4,h5⟩:=xH he
 obtain ⟨w,ew,rw'⟩:=r.get h2
 have hl:=r.length
 have hn:=tj
 have aV:EP X pins σ Q w s:=⟨z,H,I,rw',q⟩
 exact subscriptTail_builtinR (x:=w) pl.typeIs slot_tuple_getitem.lookup
  (getItem_tuple (j:=j) (Q:=fun r s'=>r=w∧EP X pins σ Q r s') pl (by lia) (by lia) (by rw [size_toArray,←hl];exact h1) (by simpa using ew) ⟨rfl,aV⟩) hs
theorem zV:si X IZ:=by
 intro value slice pins s σ H x y v u Q I rx ry h hs
 obtain ⟨z,i,c,rfl,rfl,hz,he,q⟩:=h
 obtain ⟨t,rfl⟩:=rx
 obtain ⟨t',rfl⟩:=ry
 obtain ⟨j,h1,h2,h3,h4,h5⟩:=xH he
 have hl:z.cps.toList.length=z.length:=by simp [Str.length]
 rw [hl] at h1 h4 h5
 have hn:=tj
 exact tail_any (typeIs_str s z t) slot_str_getitem.lookup (getItem_str (c:=c) (by
  have e1:decide (i < -(2 ^ 63:Int))=false:=decide_eq_false (by lia)
  have e2:decide (i≥2 ^ 63)=false:=decide_eq_false (by lia)
  rw [e1,e2,Bool.or_false]) (by rw [h1];simpa using h2) ⟨.str ⟨#[c,]⟩,H,I.tok _,⟨()⟩,q⟩) hs
def MB (K:Frag):R2:=fun x y H Q=>E5 K x y H Q∨EG K x y H Q∨IZ x y H Q
theorem km:si X (MB X.K):=AS.or (Dv.or zV)
theorem BB (its:List Value) (n j:Nat) (u:Value):Obj.mapSeq (·.setIfInBounds j u) { cls:=.type "list",data:=.seq its.toArray n }={ cls:=.type "list",data:=.seq (its.set j u).toArray n }:=by
 simp [Obj.mapSeq]
theorem ad.lst {pins:List (Addr×Obj)}{σ:St}{H:Hp}{s:Shared}{p:Addr}{xs:List V} (I:ad X pins σ H s) (h:H p=some (.lst xs)) :
 aT fun (its:List Value) (n:Nat)=>aD xs its∧s.heap.get? p=some { cls:=.type "list",data:=.seq its.toArray n }∧xs.length≤sizeLine:=by
 obtain ⟨z,its,n,r,e⟩:=I.hok p _ h
 exact ⟨its,n,r,e,z⟩
theorem ad.lstUpd {pins:List (Addr×Obj)}{σ:St}{H:Hp}{s:Shared}{p:Addr}{xs ys:List V}{its its':List Value}{n n':Nat}{f:Obj→Obj} (I:ad X pins σ H s) (h:H p=some (.lst xs))
 (ho:s.heap.get? p=some { cls:=.type "list",data:=.seq its.toArray n }) (hf:f { cls:=.type "list",data:=.seq its.toArray n }={ cls:=.type "list",data:=.seq its'.toArray n' }) (r:aD ys its') (hz:ys.length≤sizeLine) (t:Nat) :
 ad X pins σ (aE H p (.lst ys)) { s with heap:=s.heap.update p f,toks:=t }:=by
 have e:(s.heap.update p f).get? p=some { cls:=.type "list",data:=.seq its'.toArray n' }:=by
  rw [Heap.get?_update_self f ho (by rw [hf] <;> rfl),hf]
 refine I.write (x:=p) (e:=p) (by rw [h];trivial) (.inl rfl) (fun b u hb q=>(Heap.get?_update_other _ _ (Ne.symm hb)).trans q) ⟨_,e⟩ ?_
 exact ⟨hz,its',n',r,e⟩
inductive Iv (o:V) (i:V) (v:V) (H:Hp) (Q:(Hp→Prop)):Prop
 | mk (p:_) (xs:_) (k:_) (j:_) (h0:o=.ref p) (h1:i=.int k) (h2:H p=some (.lst xs)) (h3:vh xs.length k=some j) (h4:Q (aE H p (.lst (xs.set j v))))
def K9:V→V→V→Hp→(Hp→Prop)→Prop:=fun o i v H Q=>Iv  o i v H Q
theorem wo:Ez X K9:=by
 intro pins s σ H o i v ov iv u Q I ro ri rv h
 obtain ⟨p,xs,k,j,rfl,rfl,hp,hj,q⟩:=h
 cases ro
 obtain ⟨t,rfl⟩:=ri
 obtain ⟨its,n,r,ho,hz⟩:=I.lst hp
 obtain ⟨h1,h2,h3,h4⟩:=Bg hj
 have hl:=r.length
 have hn:=tj
 have I':ad X pins σ (aE H p (.lst (xs.set j v))) { s with heap:=s.heap.update p (Obj.mapSeq (·.setIfInBounds j u)) }:=
  I.lstUpd hp ho (BB its n j u) (r.set rv j) (by rw [List.length_set];exact hz) s.toks
 by_cases h0:0≤k
 ·have hk:k.toNat=j:=by
   rw [seqIndex_of h0 h4] at h1
   exact Option.some.inj h1
  exact PySem.W.ki_setAt ho h0 (by lia) (by rw [size_toArray,←hl];exact h4) (by rw [hk];exact ⟨_,I',q⟩)
 ·have hk:(k+(its.toArray.size:Int)).toNat=j:=by
   rw [seqIndex_neg (by lia) h3] at h1
   rw [size_toArray,←hl]
   exact Option.some.inj h1
  exact PySem.W.ki_setBack ho (by lia) (by rw [size_toArray,←hl];exact h3) (by lia) (by rw [hk];exact ⟨_,I',q⟩)
theorem Ae (lo hi:Option Int) (n:Nat):(sliceBounds lo hi none n).1=((HT.sIx n 0 lo:Nat):Int)∧(sliceBounds lo hi none n).2.1=((HT.sIx n n hi:Nat):Int)∧(sliceBounds lo hi none n).2.2=1:=by
 refine ⟨?_,?_,rfl⟩
 ·cases lo with
  | none=>simp [sliceBounds,HT.sIx]
  | some i=>
   simp only [sliceBounds,HT.sIx,Option.getD_none,show (1:Int) > 0 by ext,if_true]
   by_cases h:i<0
   ·simp only [h,if_true] <;> lia
   ·simp only [h,if_false] <;> lia
 ·cases hi with
  | none=>simp [sliceBounds,HT.sIx]
  | some i=>
   simp only [sliceBounds,HT.sIx,Option.getD_none,show (1:Int) > 0 by ext,if_true]
   by_cases h:i<0
   ·simp only [h,if_true] <;> lia
   ·simp only [h,if_false] <;> lia
theorem yC (its:List Value) (lo hi:Option Int):slicePick its.toArray lo hi none=((its.drop (HT.sIx its.length 0 lo)).take (HT.sIx its.length its.length hi - HT.sIx its.length 0 lo)).toArray:=by
 obtain ⟨h1,h2,h3⟩:=Ae lo hi its.toArray.size
 unfold slicePick
 rw [h1,h2,h3]
 simp only [sliceRange_one,pick_run,size_toArray] <;> rfl
inductive JT (K:Frag) (x:V) (lo:Option Int) (hi:Option Int) (H:Hp) (Q:VK):Prop
 | mk (a:_) (xs:_) (h0:x=.ref a) (h1:aq K H a xs) (h2:∀p,H p=none→Q (.ref p) (aE H p (.lst (dW xs lo hi))))
def Mi (K:Frag):V→Option Int→Option Int→Hp→VK→Prop:=fun x lo hi H Q=>JT K x lo hi H Q
theorem xz:DF X (Mi X.K):=by
 intro pins s σ H x v vl vu lo hi sl Q I rx hs pl pu h
 obtain ⟨a,xs,rfl,hx,q⟩:=h
 cases rx
 obtain ⟨its,r,ht,hz⟩:=I.list hx
 have hlen:=r.length
 refine ⟨"list",_,slot_list_getitem.lookup,ht.isList.typeIs,?_⟩
 refine wpAny_getItem_list_slice ht.isList hs pl pu .none (by simp) ?_ (by rw [size_toArray] <;> lia)
 rw [yC,←hlen]
 refine ⟨.ref #[s],_,I.laid (t':=s.toks) (o:=.lst (dW xs lo hi)) (fun b ob q=>Heap.get?_push_of_some _ q) (le_refl _) ?_,rfl,q _ (I.hok.fresh (le_refl _))⟩
 exact ⟨le_trans (vj xs lo hi) hz,_,0,(r.drop (HT.sIx xs.length 0 lo)).take (HT.sIx xs.length xs.length hi - HT.sIx xs.length 0 lo),Heap.get?_push_size _ rfl⟩
def mM:V→Bool
 | .non=>true
 | .bl _=>true
 | .int _=>true
 | .str _=>true
 | _=>false
def tM:V→V→Bool
 | .non,.non=>true
 | .bl a,.bl b=>a==b
 | .bl a,.int b=>(if a then 1 else 0)==b
 | .int a,.bl b=>a==(if b then 1 else 0)
 | .int a,.int b=>a==b
 | .str a,.str b=>a==b
 | _,_=>false
theorem HF {A:Around}{s:Shared}{y x:V}{u v:Value} (ry:aO y u) (rx:aO x v) (fy:mM y=true) (fx:mM x=true):SeqAt.EqAt A s u v (tM y x):=by
 cases y with
 | non=>
  cases ry
  cases x with
  | non=>cases rx;exact SeqAt.EqAt.same _
  | bl b=>cases rx;exact SeqAt.EqAt.none_bool b
  | int b=>obtain ⟨t,rfl⟩:=rx;exact SeqAt.EqAt.none_int b t
  | str b=>obtain ⟨t,rfl⟩:=rx;exact SeqAt.EqAt.none_str b t
  | _=>exact absurd (show false=true from fx) Bool.false_ne_true
 | bl a=>
  cases ry
  cases x with
  | non=>cases rx;exact SeqAt.EqAt.bool_none a
  | bl b=>cases rx;exact SeqAt.EqAt.bool_bool a b
  | int b=>obtain ⟨t,rfl⟩:=rx;exact SeqAt.EqAt.bool_int a b t
  | str b=>obtain ⟨t,rfl⟩:=rx;exact SeqAt.EqAt.bool_str a b t
  | _=>exact absurd (show false=true from fx) Bool.false_ne_true
 | int a=>
  obtain ⟨t',rfl⟩:=ry
  cases x with
  | non=>cases rx;exact SeqAt.EqAt.int_none a t'
  | bl b=>cases rx;exact SeqAt.EqAt.int_bool a t' b
  | int b=>obtain ⟨t,rfl⟩:=rx;exact SeqAt.EqAt.int_int a t' b t
  | str b=>obtain ⟨t,rfl⟩:=rx;exact SeqAt.EqAt.int_str a t' b t
  | _=>exact absurd (show false=true from fx) Bool.false_ne_true
 | str a=>
  obtain ⟨t',rfl⟩:=ry
  cases x with
  | non=>cases rx;exact SeqAt.EqAt.str_none a t'
  | bl b=>cases rx;exact SeqAt.EqAt.str_bool a t' b
  | int b=>obtain ⟨t,rfl⟩:=rx;exact SeqAt.EqAt.str_int a t' b t
  | str b=>obtain ⟨t,rfl⟩:=rx;exact SeqAt.EqAt.str_str a t' b t
  | _=>exact absurd (show false=true from fx) Bool.false_ne_true
 | _=>exact absurd (show false=true from fy) Bool.false_ne_true
def wL (x:V) (u:Value):Bool:=match u with
 | .none=>tM .non x
 | .bool b=>tM (.bl b) x
 | .int i _=>tM (.int i) x
 | .str z _=>tM (.str z) x
 | _=>false
theorem CG {x y:V}{u:Value} (r:aO y u) (f:mM y=true):wL x u=tM y x:=by
 cases y with
 | non=>cases r;rfl
 | bl b=>cases r;rfl
 | int i=>obtain ⟨t,rfl⟩:=r;rfl
 | str z=>obtain ⟨t,rfl⟩:=r;rfl
 | _=>exact absurd (show false=true from f) Bool.false_ne_true
theorem xr {x:V}:∀{xs:List V}{us:List Value},aD xs us→xs.all mM=true→us.any (wL x)=xs.any fun y=>tM y x
 | _,_,.nil,_=>rfl
 | y :: xs,u :: us,.cons r t,f=>by
  rw [List.all_cons,Bool.and_eq_true] at f
  rw [any_cons,any_cons,CG r f.1,xr t f.2]
theorem vV {A:Around}{s:Shared}{x:V}{v:Value} (rx:aO x v) (fx:mM x=true):∀{xs:List V}{us:List Value},aD xs us→xs.all mM=true→∀u∈us,SeqAt.EqAt A s u v (wL x u)
 | _,_,.nil,_=>fun u hu=>by cases hu
 | y :: xs,u :: us,.cons r t,f=>fun u' hu=>by
  rw [List.all_cons,Bool.and_eq_true] at f
  rcases List.mem_cons.mp hu with rfl | hu
  ·rw [CG r f.1];exact HF r rx f.1 fx
  ·exact vV rx fx t f.2 u' hu
def C2 (x:V) (xs:List V):Bool:=xs.any fun y=>tM y x
inductive Ly (K:Frag) (neg:Bool) (x:V) (y:V) (H:Hp) (Q:VK):Prop
 | mk (p:_) (xs:_) (h0:y=.ref p) (h1:(aq K H p xs∨af K H p xs)) (h2:mM x=true) (h3:xs.all mM=true) (h4:Q (.bl (if neg then !C2 x xs else C2 x xs)) H)
def Ln (K:Frag) (neg:Bool):R2:=fun x y H Q=>Ly K neg x y H Q
theorem zW:cn X (compareOp .NotIn) (Ln X.K true):=by
 intro pins s σ H x y v u Q I rx ry h
 obtain ⟨p,xs,rfl,hq,fx,fs,q⟩:=h
 cases ry
 rcases hq with hq | hq
 ·obtain ⟨its,r,pl,hz⟩:=I.list hq
  refine SeqAt.notIn_listAt (wL x) pl.isList (fun w hw=>vV rx fx r fs w (by simpa using hw)) ⟨.bl _,H,I,rfl,?_⟩
  rw [show its.toArray.any (wL x)=its.any (wL x) by simp,xr r fs]
  exact q
 ·obtain ⟨its,r,pl,hz⟩:=I.tuple hq
  refine SeqAt.notIn_tupleAt (wL x) pl (fun w hw=>vV rx fx r fs w (by simpa using hw)) ⟨.bl _,H,I,rfl,?_⟩
  rw [show its.toArray.any (wL x)=its.any (wL x) by simp,xr r fs]
  exact q
theorem tW:cy X (.builtin "len") (fun xs H Q=>aT fun p ys=>xs=[.ref p]∧(aq X.K H p ys∨af X.K H p ys)∧Q (.int ys.length) H):=by
 intro pins s σ H xs us Q I r h
 obtain ⟨p,ys,rfl,hq,q⟩:=h
 obtain ⟨u,rfl,rx⟩:=pj r
 cases rx
 have hn:=tj
 rcases hq with hq | hq
 ·obtain ⟨its,r',pl,hz⟩:=I.list hq
  have hlen:=r'.length
  exact Calls.call_len_list pl.isList (by simp only [size_toArray] <;> lia) ⟨.int ys.length,H,I.tok _,⟨s.toks+1,by rw [size_toArray,hlen]⟩,q⟩
 ·obtain ⟨its,r',pl,hz⟩:=I.tuple hq
  have hlen:=r'.length
  exact len_tuple pl (by simp only [size_toArray] <;> lia) ⟨.int ys.length,H,I.tok _,⟨s.toks+1,by rw [size_toArray,hlen]⟩,q⟩
theorem tw:cy X (.type "list") (fun xs H Q=>aT fun p ys=>xs=[.ref p]∧(aq X.K H p ys∨af X.K H p ys)∧∀l,H l=none→Q (.ref l) (aE H l (.lst ys))):=by
 intro pins s σ H xs us Q I r h
 obtain ⟨p,ys,rfl,hq,q⟩:=h
 obtain ⟨u,rfl,rx⟩:=pj r
 cases rx
 have aV:∀(its:List Value),aD ys its→ys.length≤sizeLine→∀(h':Heap) (c':Nat),(∀b o',s.heap.get? b=some o'→h'.get? b=some o')→
  h'.get? #[s]=some { cls:=.type "list",dict:=none,data:=.seq its.toArray c',slots:=#[] }→EP X pins σ Q (.ref #[s]) { s with heap:=h' }:=fun its r' hz h' c' kp e=>
  ⟨.ref #[s],_,I.laid (t':=s.toks) kp (le_refl _) (show be X.prog X.w _ h' _ (.lst ys) from ⟨hz,its,c',r',e⟩),rfl,q _ (I.hok.fresh (le_refl _))⟩
 rcases hq with hq | hq
 ·obtain ⟨its,r',pl,hz⟩:=I.list hq
  have hlen:=r'.length
  obtain ⟨o,ho,hc,n,hd⟩:=pl.isList
  exact call_list_seq p (.inl rfl) ho hc hd (fun h' c' kp e=>aV its r' hz h' c' kp e) (by simp only [size_toArray] <;> lia)
 ·obtain ⟨its,r',pl,hz⟩:=I.tuple hq
  have hlen:=r'.length
  obtain ⟨o,ho,hc,n,hd⟩:=pl
  exact call_list_seq p (.inr rfl) ho hc hd (fun h' c' kp e=>aV its r' hz h' c' kp e) (by simp only [size_toArray] <;> lia)
theorem yS:cy X (.type "tuple") (fun xs H Q=>aT fun p ys=>xs=[.ref p]∧((aq X.K H p ys∧∀l,H l=none→Q (.ref l) (aE H l (.tup ys)))∨(af X.K H p ys∧Q (.ref p) H))):=by
 intro pins s σ H xs us Q I r h
 obtain ⟨p,ys,rfl,h⟩:=h
 obtain ⟨u,rfl,rx⟩:=pj r
 cases rx
 rcases h with ⟨hq,q⟩ | ⟨hq,q⟩
 ·obtain ⟨its,r',pl,hz⟩:=I.list hq
  have hlen:=r'.length
  refine call_tuple_list pl.isList (fun h' kp=>?_) (by simp only [size_toArray] <;> lia)
  have I1:ad X pins σ H { s with heap:=h' }:=I.kept (t':=s.toks) kp
  have I2:ad X pins σ (aE H h'.objs.size (.tup ys)) { s with heap:=h'.push { cls:=.type "tuple",data:=.seq its.toArray } }:=
   I1.laid (t':=s.toks) (fun b o e=>Heap.get?_push_of_some _ e) (le_refl _) (show be X.prog X.w _ _ _ (.tup ys) from ⟨hz,its,r',IsTup.new _ _,_,Heap.get?_push_size _ rfl,rfl⟩)
  exact ⟨.ref h'.objs.size,_,I2,rfl,q _ (I1.hok.fresh (le_refl _))⟩
 ·obtain ⟨its,r',pl,hz⟩:=I.tuple hq
  exact call_tuple_same pl ⟨.ref p,H,I,rfl,q⟩
def Lk (K:Frag) (T:String) (x:V) (H:Hp):Prop:=match x with
 | .str _=>T = "str"
 | .int _=>T = "int"
 | .ref p=>(T = "list"∧∃xs,aq K H p xs)∨(T = "tuple"∧∃o,K.lookup p=some o∧o.cls=.type "tuple"∧o.dict=none)∨
  (T = "dict"∧((∃kvs,H p=some (.dK kvs))∨∃kvs,H p=some (.dT kvs)))∨(T = "set"∧aT fun S n=>H p=some (.set S n))
 | _=>False
theorem Jr {pins:List (Addr×Obj)}{σ:St}{H:Hp}{s:Shared}{T:String}{x:V}{v:Value} (I:ad X pins σ H s) (r:aO x v) (ty:Lk X.K T x H) :
 s.TypeIs v T∧∀a,v=.ref a→∃ob,s.heap.get? a=some ob∧ob.dict=none:=by
 cases x with
 | str z=>
  obtain ⟨t,rfl⟩:=r
  cases (show T = "str" from ty)
  exact ⟨typeIs_str s z t,fun _ e=>nomatch e⟩
 | int i=>
  obtain ⟨t,rfl⟩:=r
  cases (show T = "int" from ty)
  exact ⟨typeIs_int s i t,fun _ e=>nomatch e⟩
 | ref p=>
  cases r
  rcases ty with ⟨rfl,xs,hq⟩ | ⟨rfl,o,hk,hc,hd⟩ | ⟨rfl,hk⟩ | ⟨rfl,S,n,hk⟩
  ·obtain ⟨its,_,pl,_⟩:=I.list hq
   refine ⟨pl.isList.typeIs,fun a e=>?_⟩
   cases e
   obtain ⟨o,n,e,c,hd,_⟩:=pl
   exact ⟨o,e,hd⟩
  ·refine ⟨⟨o,I.kIn p o hk,hc⟩,fun a e=>?_⟩
   cases e
   exact ⟨o,I.kIn _ o hk,hd⟩
  ·have z:∃o,s.heap.get? p=some o∧o.ExactDict:=by
    rcases hk with ⟨kvs,hk⟩ | ⟨kvs,hk⟩
    ·obtain ⟨_,_,_,_,o,_,_,e,ex,_⟩:=I.hok p _ hk
     exact ⟨o,e,ex⟩
    ·obtain ⟨_,_,_,_,o,_,_,e,ex,_⟩:=I.hok p _ hk
     exact ⟨o,e,ex⟩
   obtain ⟨o,e,ex⟩:=z
   refine ⟨⟨o,e,ex.1⟩,fun a e2=>?_⟩
   cases e2
   exact ⟨o,e,ex.2.1⟩
  ·obtain ⟨o,_,_,_,e,ex,_⟩:=I.hok p _ hk
   refine ⟨⟨o,e,ex.1⟩,fun a e2=>?_⟩
   cases e2
   exact ⟨o,e,ex.2.1⟩
 | _=>exact False.elim ty
def Lo (K:Frag) (T:String) (r:V→List V→Hp→VK→Prop) (to:TE) (t:TA):TE:=fun σ H Q=>to σ H fun x H1=>Lk K T x H1∧t σ H1 fun xs H2=>r x xs H2 Q
variable {o e:Expr}{es:List Expr}{to:TE}{t:TA}{name:Str}{apos cpos:Pos}{T id:String}{r:V→List V→Hp→VK→Prop}
theorem JZ (pa:PlainAttrs T) (slot:Slot T name id) (hty:typeOf (.builtin id)=pure (.type "method_descriptor")) (hm:FG X id r) (ho:PE X o to) (ha:PA X (e :: es) t)
 (hbase:attributeBase o name X.env (eval o X.env)=eval o X.env:=by rfl)
 (hfew:((backTo cpos (starEach (e :: es) X.env)).all (fun x=>!x.1) && (backToKw cpos (keywordEach [] X.env)).all (fun x=>x.1.isSome)
  && decide ((e :: es).length+([]:List Keyword).length+(if ([]:List Keyword).isEmpty then 0 else 1)<30))=true:=by rfl)
 (hline:(apos.endLine==cpos.line)=true:=by rfl) (hs:starEach (e :: es) X.env=(false,eval e X.env) :: starEach es X.env:=by rfl) (hplain:(backTo cpos (starEach es X.env)).any (·.1)=false:=by rfl) :
 PE X (.Call (.Attribute o name apos) (e :: es) [] cpos) (Lo X.K T r to t):=by
 intro pins s σ H Q I h
 refine wpAny_Call_method_late hbase hfew hline rfl (aL (ho pins s σ H _ I h) fun v s1 ⟨x,H1,I1,r1,ty,q1⟩=>?_)
 obtain ⟨h1,h2⟩:=Jr I1 r1 ty
 refine ⟨T,id,pa,slot,hty,h1,h2,?_⟩
 have hA:=ha cpos pins s1 σ H1 _ I1 q1
 rw [hs] at hA ⊢
 refine Calls.callWith_builtin (by show (false || (backTo cpos (starEach es X.env)).any (·.1))=false;rw [hplain] <;> rfl) (Calls.evalArgs_plain ?_)
 exact aL hA fun us s2 ⟨vs,H2,I2,r2,q2⟩=>hm pins s2 σ H2 x vs v us Q I2 r1 r2 q2
/- xs.append(e), list.index on a module's tuple .. are FG facts of 06m -/
end
end L2
namespace L2
open PySem PySem.Spec PyProof.Rows
def FA (X:Cx) (id:String) (r:V→List V→Hp→VK→Prop):Prop:=
 ∀(pins:List (Addr×Obj)) (s:Shared) (σ:St) (H:Hp) (x:V) (xs:List V) (v:Value) (us:List Value) (Q:VK),ad X pins σ H s→aO x v→aD xs us→r x xs H Q→
   wpAny (model X.prog X.w) X.A (call (.builtin id) (v :: us)) (EP X pins σ Q) X.xe s
theorem Paired.un {α β:Type}{R:α→β→Prop}{x:α}{xs:List α}{us:List β} (h:Paired R (x :: xs) us):aT fun u vs=>us=u :: vs∧R x u∧Paired R xs vs:=by
 cases h with
 | cons r q=>exact ⟨_,_,rfl,r,q⟩
theorem Paired.un0 {α β:Type}{R:α→β→Prop}{us:List β} (h:Paired R [] us):us=[]:=by
 cases h with
 | nil=>rfl
theorem aD.one {x:V}{us:List Value} (h:aD [x] us):∃u,us=[u]∧aO x u:=by
 obtain ⟨u,vs,rfl,r,q⟩:=Paired.un h
 rw [Paired.un0 q]
 exact ⟨u,rfl,r⟩
theorem aD.two {x y:V}{us:List Value} (h:aD [x,y] us):aT fun u v=>us=[u,v]∧aO x u∧aO y v:=by
 obtain ⟨u,vs,rfl,r,q⟩:=Paired.un h
 obtain ⟨v,rfl,q2⟩:=aD.one q
 exact ⟨u,v,rfl,r,q2⟩
theorem aD.rep {xs:List V}{us:List Value} (h:aD xs us):∀k:Nat,aD (replicate k xs).flatten (replicate k us).flatten
 | 0=>.nil
 | k+1=>by
  rw [replicate_succ,replicate_succ,flatten_cons,flatten_cons]
  exact aD.append h (aD.rep h k)
theorem yu (its:List Value):∀(k:Nat) (acc:List Value),
 foldl (fun x1 x2=>x1++x2) acc.toArray (replicate k its.toArray)=(acc++(replicate k its).flatten).toArray
 | 0,acc=>by simp
 | k+1,acc=>by
  have e:acc.toArray++its.toArray=(acc++its).toArray:=by simp
  have e2:(acc++its)++(replicate k its).flatten=acc++(replicate (k+1) its).flatten:=by
   rw [replicate_succ,flatten_cons,List.append_assoc]
  rw [←e2,←yu its k (acc++its),←e,replicate_succ,List.foldl_cons]
section
variable {X:Cx}{pins:List (Addr×Obj)}{σ:St}{H:Hp}{s:Shared}{l b:Addr}{xs ys zs:List V}
theorem ad.lset {its its':List Value}{n:Nat}{f:Array Value→Array Value}{t':Nat} (I:ad X pins σ H s) (hH:H l=some (.lst xs))
 (e:s.heap.get? l=some { cls:=.type "list",data:=.seq its.toArray n }) (hf:f its.toArray=its'.toArray) (hv:aD ys its') (hz:ys.length≤sizeLine) :
 ad X pins σ (aE H l (.lst ys)) { s with heap:=s.heap.update l (Obj.mapSeq f),toks:=t' }:=by
 have q:=PySem.IsL.update e f
 rw [hf] at q
 refine I.write (x:=l) (e:=l) (by rw [hH];exact trivial) (.inl rfl) (fun b' u hb hu=>(Heap.get?_update_other s.heap (Obj.mapSeq f) (Ne.symm hb)).trans hu) ⟨_,q⟩ ?_
 exact ⟨hz,its',_,hv,q⟩
theorem ad.lnew {its:List Value}{t':Nat} (I:ad X pins σ H s) (hv:aD ys its) (hz:ys.length≤sizeLine) :
 ad X pins σ (aE H #[s] (.lst ys)) { s with heap:=s.heap.push { cls:=.type "list",data:=.seq its.toArray },toks:=t' }:=
 I.laid (fun _ _ q=>Heap.get?_push_of_some _ q) (le_refl _) ⟨hz,its,0,hv,Heap.get?_push_size _ rfl⟩
theorem ad.fresh (I:ad X pins σ H s):H #[s]=none:=I.hok.fresh (le_refl _)
theorem ad.lstM (I:ad X pins σ H s) (hH:H l=some (.lst xs)):xs.length≤sizeLine∧aT fun (its:List Value) (n:Nat)=>aD xs its∧xs.length=its.length∧s.heap.get? l=some { cls:=.type "list",data:=.seq its.toArray n }:=by
 obtain ⟨z,its,n,r,e⟩:=I.hok l _ hH
 exact ⟨z,its,n,r,r.length,e⟩
theorem EY {n:Nat} (h:n≤sizeLine):Builtin.List.listTooLong n=false:=by
 unfold Builtin.List.listTooLong
 exact decide_eq_false (by lia)
end
section
variable {X:Cx}
inductive Ff (x:V) (vs:List V) (H:Hp) (Q:VK):Prop
 | mk (l:_) (xs:_) (y:_) (h0:x=.ref l) (h1:vs=[y]) (h2:H l=some (.lst xs)) (h3:xs.length<sizeLine) (h4:Q .non (aE H l (.lst (xs++[y]))))
def F8:V→List V→Hp→VK→Prop:=fun x vs H Q=>Ff  x vs H Q
theorem xU:FA X "list.append" F8:=by
 intro pins s σ H x vs v us Q I rx rv h
 obtain ⟨l,xs,y,rfl,rfl,hH,hz,q⟩:=h
 cases rx
 obtain ⟨u,rfl,ru⟩:=rv.one
 obtain ⟨z,its,n,r,hl,e⟩:=I.lstM hH
 refine call_meets F.slot_list_append ⟨_,e,rfl⟩ F.entry_list_append (F.args_list_append_2 _ _) (PySem.list_append l its.toArray n u (by rw [size_toArray];lia)) ⟨e,?_⟩
 refine ⟨.non,_,I.lset (its':=its++[u]) hH e (by simp) (r.append (.cons ru .nil)) ?_,rfl,q⟩
 rw [length_append,List.length_singleton]
 lia
inductive KH (x:V) (y:V) (H:Hp) (Q:VK):Prop
 | mk (l:_) (b:_) (xs:_) (zs:_) (h0:x=.ref l) (h1:y=.ref b) (h2:H l=some (.lst xs)) (h3:H b=some (.lst zs)) (h4:xs.length+zs.length≤sizeLine) (h5:∀p,H p=none→Q (.ref p) (aE H p (.lst (xs++zs))))
def LG:R2:=fun x y H Q=>KH  x y H Q
theorem HK:cn X (binaryOp .Add) LG:=by
 intro pins s σ H x y v u Q I rx ry h
 obtain ⟨l,b,xs,zs,rfl,rfl,hH,hB,hz,q⟩:=h
 cases rx
 cases ry
 obtain ⟨z,its,n,r,hl,e⟩:=I.lstM hH
 obtain ⟨z2,its2,n2,r2,hl2,e2⟩:=I.lstM hB
 refine PySem.P.add_list e e2 ?_ (by rw [size_toArray,size_toArray];lia)
 have ea:its.toArray++its2.toArray=(its++its2).toArray:=by simp
 rw [ea]
 exact ⟨.ref _,_,I.lnew (t':=s.toks) (r.append r2) (by rw [length_append];lia),rfl,q _ I.fresh⟩
inductive Ks (x:V) (y:V) (H:Hp) (Q:VK):Prop
 | mk (l:_) (k:_) (xs:_) (h0:x=.ref l) (h1:y=.int k) (h2:H l=some (.lst xs)) (h3:-(2 ^ 63)≤k) (h4:k<2 ^ 63) (h5:xs.length*k.toNat≤sizeLine) (h6:∀p,H p=none→Q (.ref p) (aE H p (.lst (replicate k.toNat xs).flatten)))
def LI:R2:=fun x y H Q=>Ks  x y H Q
theorem A6 {α:Type} (xs:List α) (k:Nat):(replicate k xs).flatten.length=k*xs.length:=by
 induction k with
 | zero=>simp
 | succ k ih=>rw [replicate_succ,flatten_cons,length_append,ih,Nat.succ_mul,add_comm]
theorem Js:cn X (binaryOp .Mult) LI:=by
 intro pins s σ H x y v u Q I rx ry h
 obtain ⟨l,k,xs,rfl,rfl,hH,h1,h2,hz,q⟩:=h
 cases rx
 obtain ⟨t,rfl⟩:=ry
 obtain ⟨z,its,n,r,hl,e⟩:=I.lstM hH
 have hlen:its.toArray.size*k.toNat≤sizeLine:=by rw [size_toArray,←hl];exact hz
 have hcap:¬its.toArray.size*k.toNat > (2 ^ 63 - 1) / 8:=by
  have:(sizeLine:Nat)≤(2 ^ 63 - 1) / 8:=by decide
  lia
 have hfit:¬(!Builtin.List.listFitsIndex k)=true:=by
  rw [fitsIndex_both h1 h2]
  exact Bool.false_ne_true
 have hlong:¬Builtin.List.listTooLong (its.toArray.size*k.toNat)=true:=by
  rw [EY hlen]
  exact Bool.false_ne_true
 have hnew:foldl (fun x1 x2=>x1++x2) #[] (replicate (if its.toArray.isEmpty=true then 0 else k.toNat) its.toArray)=(replicate k.toNat its).flatten.toArray:=by
  have f0:∀m:Nat,foldl (fun x1 x2=>x1++x2) #[] (replicate m its.toArray)=(replicate m its).flatten.toArray:=fun m=>by
   have:=yu its m []
   rw [nil_append] at this
   exact this
  rw [f0]
  cases its with
  | nil=>simp
  | cons a r'=>rw [if_neg (by simp)]
 refine wpAny_binaryOp_repeat_ref (T := "list") (U := "int") (by ext) ⟨_,e,rfl⟩ (fun s'=>typeIs_int s' k t) noFill_list_mul F.fills_int_mul F.slot_int_rmul repeat_list F.slot_int_index.lookup
  (call_meets F.slot_int_rmul (typeIs_int s k t) F.entry_int_rmul (F.args_int_rmul_2 _ _) (int___rmul___int_list k t l its.toArray n)
   ⟨e,rfl,⟨_,e,rfl⟩,call_meets F.slot_list_mul ⟨_,e,rfl⟩ F.entry_list_mul (F.args_list_mul_2 _ _) (AutoListH.list___mul___list_int_3 l its.toArray n k t hfit hcap hlong) ⟨e,?_⟩⟩)
 rw [hnew]
 exact ⟨.ref _,_,I.lnew (t':=s.toks) (r.rep k.toNat) (by rw [A6,Nat.mul_comm];exact hz),rfl,q _ I.fresh⟩
end
section
variable {prog:Program}{w:World}{A:Around}{E:Value→Shared→Prop}{s:Shared}
set_option maxRecDepth 100000 in
end
section
variable {X:Cx}
end
end L2
namespace Att
open PySem PySem.W PySem.Calls PyProof.Rows
theorem wK {P:Params}{h:Heap}:∀(ns:List Int) (vs:List Value),WellAll P h vs (ns.map WData.int)→IntsAre vs ns:=by
 intro ns
 induction ns with
 | nil=>
  intro vs w
  rw [map_nil] at w
  cases w
  exact .nil
 | cons n ns ih=>
  intro vs w
  rw [map_cons] at w
  cases w with
  | cons a b=>
   cases a
   exact .cons _ _ (ih _ b)
theorem Cz {l:OpenLaw}{n:Nat} (hn:l.most=some n) {P:Params}{h:Heap}{args:List WData}{vals:List Value}
 (hpre:l.row.toRowW.claim.pre args=true) (hwl:WellAll P h vals args) :
 ∃a vs ns,vals=[Value.ref a]∧args=[WData.list (ns.map WData.int)]∧h.get? a=some { cls:=.type "list",data:=.seq vs.toArray }∧IntsAre vs ns∧ns.length≤n:=by
 have hsh:WShape.hasAll [] args [.list .int]=true:=(pre_splitW hpre).1
 have hc:l.pre.holds [] { args:=args }=true:=(pre_splitW hpre).2
 obtain ⟨d,r,rfl,h1,h2⟩:=hasAllW_cons hsh
 obtain rfl:=hasAllW_nil h2
 obtain ⟨xs,rfl,h3⟩:=hasW_list h1
 obtain ⟨ns,rfl⟩:=items_int h3
 have hlen:ns.length≤n:=by
  unfold OpenLaw.pre at hc
  have h4:(WTm.not (.lt (.lit (.int (n:Int))) (.len (.arg 0)))).holds [] { args:=[.list (ns.map .int)] }=true:=by
   have h4:=(holds_andW hc).1
   rw [hn] at h4
   exact h4
  have h5:=condW_of h4 (w_not (w_lt w_lit (w_len_list (w_arg rfl))))
  rw [length_map] at h5
  refine Nat.le_of_not_lt fun q=>?_
  have q':(n:Int)<((ns.length:Nat):Int):=by lia
  first
   | (rw [decide_eq_true q'] at h5;exact absurd h5 (by ext))
   | (simp at h5;lia)
 cases hwl with
 | cons w1 w2=>
  cases w2
  cases w1 with
  | list ho hall=>exact ⟨_,_,ns,rfl,rfl,ho,wK ns _ hall,hlen⟩
theorem Du (l:OpenLaw) (args:List WData):l.row.toRowW.claim.post args (.bool true) args=true:=
 postW_of (r:=l.row.toRowW) (X:=(true==true))
  (show WShape.has [] (.bool true) .bool=true by first | rfl | decide | simp [WShape.has,WShape.arms,WShape.armsAll])
  (show (WTm.eq .res (.lit (.bool true))).value [] { args:=args,res:=some (.bool true),after:=args }=some (.bool (true==true)) from w_eq_bool (w_res rfl) w_lit) rfl
theorem attach_call {l:OpenLaw}{n:Nat}{q:Program}{loose:List Str}{XP:(Str→Option Value)→Heap→Prop}{YP:World→Heap→Prop}{d:DefRec}
 (hn:l.most=some n) (hdf:d.params.defaults=[])
 (call:∀(w:World) (s₀ s₁:Shared) (mg mb:Str→Option Value) (fa:Addr) (o:Obj) (pm cd doc:Value) (a:Addr) (vs:List Value) (ns:List Int),
  Ground q loose [] XP w s₀ mg mb s₁.heap→YP w s₁.heap→
  s₁.heap.get? fa=some o→o.data=.func (docDef d.name d.params d.body d.scope pm cd doc)→s₁.heap.CodeRec cd d.name→mg d.name=some (.ref fa)→
  s₁.heap.get? a=some { cls:=.type "list",data:=.seq vs.toArray }→IntsAre vs ns→ns.length≤n→s₁.gens=#[]→
  codeAny (model l.prog w) callerA (.call (.ref fa) ⟨[.ref a],[]⟩) (fun r s'=>r=.ok (.ret (.bool true))∧OldK s₁.heap s'.heap∧s'.os=s₁.os∧AllBare s'.gens) s₁) :
 WalkO q loose XP YP l.row.toRowW d [] (fun f vs=>PySem.call f vs):=by
 intro w s₀ s₁ mg mb G Y fa o pm cd doc dV kV ho hd hcd hD hmg hg args vals as hpre hlay hrd hwl hlo
 obtain rfl:dV=.none:=Dflts.none hD hdf
 obtain rfl:kV=.none:=Dflts.noKw hD
 obtain ⟨a,vs,ns,rfl,rfl,hobj,hints,hlen⟩:=Cz hn hpre hwl
 refine enter_call (codeAny_mono (call w s₀ s₁ mg mb fa o pm cd doc a vs ns G Y ho (fd_plain hd) hcd hmg hobj hints hlen hg) fun r s' hq=>?_)
 obtain ⟨rfl,h2,h3,h4⟩:=hq
 exact ⟨.inl ⟨.bool true,.bool true,[],rfl,fun _=>rfl,.bool true,Du l _,fun _=>⟨List.Pairwise.nil,fun _ hm=>(nomatch hm)⟩⟩,h2,h3,h4⟩
section
variable {prog:Program}{w:World}{A:Around}{E:Value→Shared→Prop}{s:Shared}{K:Frag}
end
end Att
namespace L2
open PySem PySem.Spec PyProof.Rows
theorem yh:∀{vs:List Value}{ns:List Int},IntsAre vs ns→aD (ns.map V.int) vs
 | _,_,.nil=>.nil
 | _,_,.cons n t h=>.cons ⟨t,rfl⟩ (yh h)
def xM (H:Hp):Prop:=∀b,H b=none∨aT fun o xs=>H b=some (.frz o (.lst xs))
theorem Fc {P:Program}{w:World}{K:Frag}{mg mb:Str→Option Value}{CX:lZ}{k:Nat}{fa a:Addr}{fd:FuncData}{x:Str}{sp:Sp}{s₁:Shared}{vs:List Value}{ns:List Int}
 (KX:K.In s₁.heap) (hns:s₁.heap.Ns mainGlobals mg) (hb:s₁.heap.Ns builtinsNs mb) (hbb:∀x:Str,x≠"__name__"→mb x=bootBuiltins x) (hlim:s₁.heap.NoLimit) (hg:s₁.gens=#[])
 (ha:s₁.heap.get? a=some { cls:=.type "list",data:=.seq vs.toArray }) (hi:IntsAre vs ns) (hl:ns.length≤sizeLine) (hr:dm k callerA)
 (F:∀base:Heap,K.In base→base.Ns mainGlobals mg→aQ P w K mg base CX k fa fd [x] sp) (hbind:∀(s:Shared) (u:Value),BindsTo s fd ⟨[u],[]⟩ [(x,u)])
 (hsp:∀H:Hp,xM H→aq K H a (ns.map V.int)→sp [.ref a] H (fun v _=>v=.bl true) fun _ _ _=>False)
 (hCX:∀H e s',CX [] H s₁ (fun _ _ _=>False) e s'→False) :
 codeAny (model P w) callerA (.call (.ref fa) ⟨[.ref a],[]⟩) (fun r s'=>r=.ok (.ret (.bool true))∧OldK s₁.heap s'.heap∧s'.os=s₁.os∧AllBare s'.gens) s₁:=by
 have rv:=yh hi
 have lenV:=hi.length
 have core:∀H:Hp,xM H→aq K H a (ns.map V.int)→dM P w H s₁.heap→(∀b,H b≠none→b=a)→(H a≠none→K.lookup a=none)→
  codeAny (model P w) callerA (.call (.ref fa) ⟨[.ref a],[]⟩) (fun r s'=>r=.ok (.ret (.bool true))∧OldK s₁.heap s'.heap∧s'.os=s₁.os∧AllBare s'.gens) s₁:=by
  intro H hO hS hok hA hK
  have base_of:∀{b:Addr}{o:Obj},s₁.heap.get? b=some o→H b=none→(rK s₁.heap H).get? b=some o:=fun e n=>Eg e n
  have noA:∀{b:Addr}{o:Obj}{es:Array DictEntry}{ep:Nat},s₁.heap.get? b=some o→o.data=.dict es ep→H b=none:=fun {b o es ep} e d=>by
   cases q:H b with
   | none=>rfl
   | some u=>
    have e':b=a:=hA b (by rw [q];simp)
    subst e'
    rw [ha] at e;cases e
    have d':Data.seq vs.toArray _=Data.dict es ep:=d
    cases d'
  have nsK:∀{b:Addr}{m:Str→Option Value},s₁.heap.Ns b m→(rK s₁.heap H).Ns b m:=fun {b m} ⟨o,es,ep,e,d,r⟩=>⟨o,es,ep,base_of e (noA e d),d,r⟩
  have hKb:K.In (rK s₁.heap H):=fun b o e=>base_of (KX b o e) (by
   cases q:H b with
   | none=>rfl
   | some u=>
    have e':b=a:=hA b (by rw [q];simp)
    subst e'
    rw [hK (by rw [q];simp)] at e;cases e)
  have hM:Mod K mg (rK s₁.heap H):=⟨hKb,nsK hns,⟨mb,nsK hb,hbb⟩,let ⟨mc,h1,h2⟩:=hlim;⟨mc,nsK h1,h2⟩⟩
  have e0:vQ P w K mg (rK s₁.heap H) callerA [] s₁ H:=⟨rfl,hM,fun b o e=>Ga e,le_of_eq (CY _ _),trivial,fun b hb=>absurd (show b∈([]:List Addr) from hb) (by simp),hok,.of_eq hg⟩
  refine codeAny_mono ((F _ hKb (nsK hns)).run callerA [] s₁ H ⟨[.ref a],[]⟩ [.ref a] [.ref a] _ _ hr e0 (hbind s₁ (.ref a)) (.cons rfl .nil) (hsp H hO hS)) fun r s' h=>?_
  cases r with
  | error e=>exact (hCX H e s' h).elim
  | ok fl=>
   cases fl with
   | next=>exact False.elim h
   | brk=>exact False.elim h
   | cont=>exact False.elim h
   | ret u=>
    obtain ⟨v,H',os,bare,un,hok',r',q⟩:=h
    have q':v=.bl true:=q
    subst q'
    obtain rfl:u=Value.bool true:=r'
    refine ⟨rfl,OldK.of_keep fun b o e=>?_,os,bare⟩
    cases q:H b with
    | none=>exact un.keep b o e q (by intro z;exact absurd (show b∈([]:List Addr) from z) (by simp)) (by simp)
    | some u=>
     rcases hO b with z | ⟨ob,xs,z⟩
     ·rw [q] at z;cases z
     ·have z2:=un.frzs b ob _ z
      obtain ⟨e1,_⟩:=hok b _ z
      obtain ⟨e2,_⟩:=hok' b _ z2
      rw [e] at e1;cases e1
      exact e2
 cases hk:K.lookup a with
 | some o=>
  have e:=KX a o hk
  rw [ha] at e
  cases e
  refine core (fun _=>none) (fun _=>.inl rfl) (.inr ⟨_,vs.toArray,_,hk,rfl,rfl,rfl,by rw [size_toArray,lenV];exact hl,by simpa using rv⟩) (fun b u z=>by have z':(none:Option HO)=some u:=z;cases z') (fun b z=>absurd rfl z) fun z=>absurd rfl z
 | none=>
  refine core (fun b=>if b=a then some (.frz { cls:=.type "list",data:=.seq vs.toArray } (.lst (ns.map V.int))) else none) (fun b=>?_) (.inl (.inr ⟨{ cls:=.type "list",data:=.seq vs.toArray },if_pos rfl⟩)) (fun b u z=>?_) (fun b z=>?_) fun _=>hk
  ·by_cases hb:b=a
   ·exact .inr ⟨_,_,if_pos hb⟩
   ·exact .inl (if_neg hb)
  ·by_cases hb:b=a
   ·have z':=(if_pos hb).symm.trans z
    cases z'
    subst hb
    exact ⟨ha,by rw [length_map];exact hl,vs,_,rv,ha⟩
   ·have z':=(if_neg hb).symm.trans z
    cases z'
  ·by_cases hb:b=a
   ·exact hb
   ·exact absurd (if_neg hb) z
theorem walk_of {l:PySem.W.OpenLaw}{n k:Nat}{q:Program}{loose:List Str}{XP:(Str→Option Value)→Heap→Prop}{YP:World→Heap→Prop}{d:DefRec}{K:Params→Frag}{CX:World→lZ}{sp:World→Sp}{x:Str}
 (hn:l.most=some n) (hn2:n≤sizeLine) (hdf:d.params.defaults=[]) (hr:dm k callerA)
 (hY:∀(w:World) (h:Heap),YP w h→(K w.params).In h)
 (F:∀(w:World) (mg:Str→Option Value) (fa:Addr) (h:Heap),(K w.params).In h→h.Ns mainGlobals mg→mg d.name=some (.ref fa)→
  ∃fd:FuncData,(∀(s:Shared) (u:Value),BindsTo s fd ⟨[u],[]⟩ [(x,u)])∧
   ∀base:Heap,(K w.params).In base→base.Ns mainGlobals mg→aQ l.prog w (K w.params) mg base (CX w) k fa fd [x] (sp w))
 (hsp:∀(w:World) (H:Hp) (a:Addr) (ns:List Int),ns.length≤n→xM H→aq (K w.params) H a (ns.map V.int)→sp w [.ref a] H (fun v _=>v=.bl true) fun _ _ _=>False)
 (hCX:∀(w:World) (H:Hp) (s:Shared) (e:Value) (s':Shared),CX w [] H s (fun _ _ _=>False) e s'→False) :
 PySem.W.WalkO q loose XP YP l.row.toRowW d [] (fun f vs=>PySem.call f vs):=by
 refine Att.attach_call hn hdf fun w s₀ s₁ mg mb fa o pm cd doc a vs ns G Y ho hd hcd hmg hobj hints hlen hg=>?_
 have KX:=hY w _ Y
 obtain ⟨fd,hb,hF⟩:=F w mg fa _ KX G.T.g hmg
 exact Fc KX G.T.g G.T.b G.T.builtins G.T.nolimit hg hobj hints (le_trans hlen hn2) hr hF hb (fun H hO hS=>hsp w H a ns hlen hO hS) fun H e s'=>hCX w H s₁ e s'
theorem EI {l:PySem.W.OpenLaw}{n k:Nat}{q:Program}{loose:List Str}{XP:(Str→Option Value)→Heap→Prop}{YP:World→Heap→Prop}{d:DefRec}{K:Params→Frag}{CX:lZ}{sp:Frag→Sp}{x:Str}
 (hn:l.most=some n) (hn2:n≤sizeLine) (hdf:d.params.defaults=[]) (hr:dm k callerA)
 (hY:∀(w:World) (h:Heap),YP w h→(K w.params).In h)
 (F:∀(w:World) (mg:Str→Option Value) (fa:Addr) (h:Heap),(K w.params).In h→h.Ns mainGlobals mg→mg d.name=some (.ref fa)→
  ∃fd:FuncData,(∀(s:Shared) (u:Value),BindsTo s fd ⟨[u],[]⟩ [(x,u)])∧
   ∀base:Heap,(K w.params).In base→base.Ns mainGlobals mg→aQ l.prog w (K w.params) mg base CX k fa fd [x] (sp (K w.params)))
 (hsp:∀(K:Frag) (H:Hp) (a:Addr) (ns:List Int),ns.length≤n→xM H→aq K H a (ns.map V.int)→sp K [.ref a] H (fun v _=>v=.bl true) fun _ _ _=>False)
 (hCX:∀(H:Hp) (s:Shared) (e:Value) (s':Shared),CX [] H s (fun _ _ _=>False) e s'→False) :
 PySem.W.WalkO q loose XP YP l.row.toRowW d [] (fun f vs=>PySem.call f vs):=
 walk_of (K:=K) (CX:=fun _=>CX) (sp:=fun w=>sp (K w.params)) hn hn2 hdf hr hY F (fun w H a ns h1 h2 h3=>hsp (K w.params) H a ns h1 h2 h3) fun _ H s e s'=>hCX H s e s'
end L2
/- THE LAST THEOREM (shape; LID, My.* are yours):
 My.Adr: a structure of the addresses that your layer names (classes, functions); My.Txt K t: a structure (Prop) of the equations over K;
 My.txt_mk : {K} {implicit addresses ..} (e1 : nsIn K mainGlobals "law" = some (some (.ref f))) (e2 : K.lookup f = some ⟨oc, od, .func (fnOf "law" "law" params body scope dV kV doc pm an cdv ct), sl⟩) (e3 : codeIn K cdv "law" = true) .. : ∃ t, My.Txt K t
set_option maxRecDepth 100000 in
set_option maxHeartbeats 0 in
theorem PySem.Challenge.cw_LID_holds : PySem.Challenge.rw_LID.Holds := by
 w_on; o_law; k_head; (case hw => w_witness2)
 k_fill
 refine L2.walk_of (l := PySem.Challenge.rw_LID) (n := 63) (k := 40) (x := "script") (CX := fun w => ..) (sp := fun _ => My.sp_law) rfl (by ext) rfl ⟨rfl, by ext, by ext⟩ (fun w h Y => PySem.W.kIn_of Y) ?F ?S ?C
 case F =>
  intro w mg fa h KX G hmg
  have T : ∃ t, My.Txt (L2.KOf KX) t := by
   dsimp only [L2.KOf]                          -- K must stand as «<heap const> w.params» for k_is
   refine' My.txt_mk ?e1 ?e2 ?e3 ..
   (case e1 => PySem.W.k_is)                    -- in the order: a name -> its address -> its object -> its parts
   (case e2 => PySem.W.k_is)
   ..
  obtain ⟨t, T⟩ := T
  have e0 := hmg.symm.trans (mg_of KX G T.law)
  cases e0                                       -- fa is the law's own address
  exact ⟨_, fun s u => .of_eq rfl, fun base kb nb => My.law_fn T kb nb⟩     -- if «.of_eq rfl» comes too early: refine' ⟨_, ?b, fun base kb nb => My.law_fn T kb nb⟩; exact fun s u => .of_eq rfl
 case S => exact fun w H a ns hl hO hS => ..
 case C => exact ..
(the tactic k_is has no namespace: write k_is) -/
namespace L2
open PySem PySem.Spec PyProof.Rows
abbrev CX0:lZ:=fun _ _ _ _ _ _=>False
abbrev E0:XK:=fun _ _ _=>False
theorem FC {X:Cx}:ui CX0 X E0:=fun _ _ _ _ _ _ _ h=>h.elim
structure oD (K:Frag) (x qual:Str) (st:Stmt) (f:Addr) (fd:FuncData):Prop where
 ex:Lp fun (oc:Value) (od:Option Addr) (kV doc pm:Value) (an:Option Addr) (cdv ct:Value) (osl:Array (Option Value))=>
  fd=PySem.W.fnOf x qual (xO st) (qo st) (ak st) .none kV doc pm an cdv ct∧K.lookup f=some ⟨oc,od,.func fd,osl⟩∧PySem.W.codeIn K cdv qual=true
 kp:keepIn K (.ref f)=true
section
variable {P:Program}{w:World}{K:Frag}{mg:Str→Option Value}{base:Heap}
theorem oD.ok {x qual:Str}{st:Stmt}{f:Addr}{fd:FuncData}{N ps:List Str}{k:Nat}{sp:Sp} (F:oD K x qual st f fd) (S:aw N ps (ak st)) (len:∀vs H Q E,sp vs H Q E→vs.length=ps.length)
 (hbody:∀(cdv:Value) (A:Around) (outer:List Env) (s:Shared) (H:Hp) (vs:List V) (Q:VK) (E:XK),dm k (A.deeper (envOfC qual (ak st) #[s] f cdv))→sp vs H Q E→
  ∃t,mJ (rh CX0 P w K mg base N qual (ak st) f cdv A outer s H E).nox (qo st) t∧t { nx:=fun _ H'=>Q .non H',rt:=Q } (mQ N vs) H):aQ P w K mg base CX0 (k+1) f fd ps sp:=by
 obtain ⟨oc,od,kV,doc,pm,an,cdv,ct,osl,rfl,lk,hcd⟩:=F.ex
 refine Fm lk hcd S len fun A outer s H vs Q E hr hsp=>?_
 obtain ⟨t,h,q⟩:=hbody cdv A outer s H vs Q E hr hsp
 exact ⟨t,h.nox,q⟩
theorem oD.binds {x qual:Str}{st:Stmt}{f:Addr}{fd:FuncData}{ps:List Str} (F:oD K x qual st f fd)
 (h:∀(kV doc pm:Value) (an:Option Addr) (cdv ct:Value) (us:List Value),us.length=ps.length→bindArgs (PySem.W.fnOf x qual (xO st) (qo st) (ak st) .none kV doc pm an cdv ct) ⟨us,[]⟩=pure (ps.zip us)):gF K fd ps []:=by
 obtain ⟨oc,od,kV,doc,pm,an,cdv,ct,osl,rfl,lk,hcd⟩:=F.ex
 exact .all (h kV doc pm an cdv ct)
end
section
variable {X:Cx}
theorem pv (i:Nat) {x:Str}{pos:Pos} (hN:X.N[i]?=some x:=by rfl) (hv:Cy X.env.scope x:=by first | exact Or.inl rfl | exact Or.inr (Or.inl rfl) | exact Or.inr (Or.inr rfl)) (hd:(x==("__debug__" : Str))=false:=by ext)
 (hcd:(x==("__classdict__" : Str))=false:=by ext):PE X (.Name x pos) (ET i):=CI hN hv hd hcd
end
theorem aX {A B:Prop} (h:B):if false=true then A else B:=by
 rw [if_neg Bool.false_ne_true]
 exact h
theorem cf {A B:Prop} (h:A):if true=true then A else B:=by
 rw [if_pos rfl]
 exact h
theorem ma {c A B:Prop} [Decidable c] (h1:c→A) (h2:¬c→B):if c then A else B:=by
 by_cases h:c
 ·rw [if_pos h]
  exact h1 h
 ·rw [if_neg h]
  exact h2 h
def ag (H H':Hp):Prop:=∀b o,H b=some o→H' b=some o
theorem ag.refl (H:Hp):ag H H:=fun _ _ h=>h
theorem ag.trans {H H1 H2:Hp} (a:ag H H1) (b:ag H1 H2):ag H H2:=fun c o h=>b c o (a c o h)
theorem ag.free {H H':Hp} (e:ag H H') {l:Addr} (h:H' l=Option.none):H l=Option.none:=by
 cases q:H l with
 | none=>rfl
 | some o=>
  rw [e l o q] at h
  cases h
theorem ag.seq {K:Frag}{H H':Hp}{a:Addr}{xs:List V} (e:ag H H') (h:aq K H a xs):aq K H' a xs:=by
 rcases h with (h | ⟨o,h⟩) | h
 ·exact .inl (.inl (e _ _ h))
 ·exact .inl (.inr ⟨o,e _ _ h⟩)
 ·exact .inr h
end L2
namespace L2
open PySem
theorem uN {scope:Scope}{env:Env} (h:∀y∈scope.names,y.2=.free→∃c,env.cells.lookup y.1=some c) :
 ∃cl,closureFor scope env=pure cl∧(∀x c,cl.lookup x=some c→env.cells.lookup x=some c)∧(∀y∈scope.names,y.2=.free→∃c,cl.lookup y.1=some c):=by
 have go:∀(names:List (Str×NameKind)) (acc:List (Str×Addr)),(∀y∈names,y.2=.free→∃c,env.cells.lookup y.1=some c)→(∀x c,acc.lookup x=some c→env.cells.lookup x=some c)→
  ∃cl,(forIn names acc (fun (x:Str×NameKind) (cs:List (Str×Addr))=>match x with
   | (name,kind)=>if (kind==.free)=true then (do let a ←cellOf env name;pure (ForInStep.yield ((name,a) :: cs))) else pure (ForInStep.yield cs)):Sem (List (Str×Addr)))=pure cl∧
   (∀x c,cl.lookup x=some c→env.cells.lookup x=some c)∧(∀y∈names,y.2=.free→∃c,cl.lookup y.1=some c)∧(∀x c,acc.lookup x=some c→∃c',cl.lookup x=some c'):=by
  intro names
  induction names with
  | nil=>intro acc _ ha;exact ⟨acc,rfl,ha,fun y hy=>(by cases hy),fun x c e=>⟨c,e⟩⟩
  | cons x r ih=>
   intro acc hn ha
   obtain ⟨name,kind⟩:=x
   rw [forIn_cons]
   by_cases hk:kind=.free
   ·subst hk
    obtain ⟨c,hc⟩:=hn (name,.free) mem_cons_self rfl
    have e:cellOf env name=pure c:=by unfold cellOf;rw [hc]
    obtain ⟨cl,e1,e2,e3,e4⟩:=ih ((name,c) :: acc) (fun y hy=>hn y (mem_cons_of_mem _ hy)) (fun x c' hx=>by
     rw [lookup_cons] at hx
     split at hx
     ·rename_i hb
      have:x=name:=by simpa using hb
      subst this
      cases hx;exact hc
     ·exact ha x c' hx)
    refine ⟨cl,?_,e2,fun y hy hf=>?_,fun x c' hx=>?_⟩
    ·simp only [beq_self_eq_true,if_true]
     rw [e,pure_bind,pure_bind]
     exact e1
    ·rcases List.mem_cons.mp hy with rfl | hy
     ·exact e4 name c (by simp)
     ·exact e3 y hy hf
    ·by_cases hb:(x==name)=true
     ·have:x=name:=by simpa using hb
      subst this
      exact e4 x c (by simp)
     ·exact e4 x c' (by rw [lookup_cons];simp only [Bool.not_eq_true] at hb;rw [hb];exact hx)
   ·have hb:(kind==NameKind.free)=false:=by simpa using hk
    obtain ⟨cl,e1,e2,e3,e4⟩:=ih acc (fun y hy=>hn y (mem_cons_of_mem _ hy)) ha
    refine ⟨cl,?_,e2,fun y hy hf=>?_,e4⟩
    ·simp only [hb,Bool.false_eq_true,if_false]
     rw [pure_bind]
     exact e1
    ·rcases List.mem_cons.mp hy with rfl | hy
     ·exact absurd hf hk
     ·exact e3 y hy hf
 obtain ⟨cl,e1,e2,e3,_⟩:=go scope.names [] h (fun x c e=>by simp at e)
 refine ⟨cl,?_,e2,e3⟩
 unfold closureFor
 show (forIn scope.names _ _ >>= fun cs=>pure cs)=_
 rw [bind_pure]
 exact e1
section
variable {prog:Program}{w:World}{A:Around}{R:Result→Shared→Prop}{s:Shared}
theorem zZ {elt target iter:Expr}{ifs:List Expr}{scope:Scope}{pos:Pos}{it acc:Value}{env:Env} (I:Nat→Shared→Prop)
 (turn:∀n s,I n s→wpAny (model prog w) A (pyNext it) (fun r s₁=>match r with
  | none=>R (.ok .next) s₁
  | some v=>wpAny (model prog w) A (letOwnedTupleGo target it v) (fun _ s₁'=>wpAny (model prog w) A (assign target env v) (fun _ s₂=>
   wpAny (model prog w) A (forIn ifs true fun c r=>if r=true then do let ok ←isTrue c env (eval c env);pure (ForInStep.yield ok) else pure (ForInStep.yield r)) (fun ok s₃=>
    if ok=true then wpAny (model prog w) A (eval elt env) (fun x s₄=>
     wpAny (model prog w) A (call (.builtin "list.append") [acc,x]) (fun _ s₅=>∃m,m<n∧I m s₅) (fun _ _=>False) s₄) (fun _ _=>False) s₃
    else ∃m,m<n∧I m s₃) (fun _ _=>False) s₂) (fun _ _=>False) s₁') (fun _ _=>False) s₁) (fun _ _=>False) s)
 (n:Nat) (h:I n s) :
 codeAny (model prog w) A (.compLoop (.ListComp elt [⟨target,iter,ifs,0⟩] scope pos) 0 it acc env) R s:=by
 refine codeAny_loop rfl I (fun n s hI=>?_) n h
 show wpAny _ A ((compTurn (.ListComp elt [⟨target,iter,ifs,0⟩] scope pos) 0 it acc env).onRaise (fun x=>do noteFrame x env;theTreesLotGoes x)) _ _ s
 refine wpAny_noted ?_
 rw [compTurn_list]
 refine wpAny_bind (wpAny_standAt (wpAny_bind (wpAny_mono (turn n s hI) (fun r s₁ h₁=>?_) fun _ _ h'=>h'.elim)))
 cases r with
 | none=>exact wpAny_pure h₁
 | some v=>
  refine wpAny_bind (wpAny_mono h₁ (fun _ s₁' h₁'=>?_) fun _ _ h'=>h'.elim)
  refine wpAny_bind (wpAny_mono h₁' (fun _ s₂ h₂=>wpAny_bind (wpAny_mono h₂ (fun ok s₃ h₃=>?_) fun _ _ h'=>h'.elim)) fun _ _ h'=>h'.elim)
  cases ok with
  | false=>exact wpAny_pure ⟨rfl,h₃⟩
  | true=>
   exact wpAny_bind (wpAny_bind (wpAny_mono h₃ (fun x s₄ h₄=>wpAny_bind (wpAny_mono h₄ (fun _ s₅ h₅=>wpAny_pure (wpAny_pure ⟨rfl,h₅⟩)) fun _ _ h'=>h'.elim)) fun _ _ h'=>h'.elim))
end
end L2
namespace L2
open PySem PySem.Spec PyProof.Rows
section
variable {X:Cx}
theorem AE:cy X (.builtin "isinstance") (fun xs H Q=>pc fun x T t b=>xs=[x,.ty T]∧jv X.K H x t∧kitOne X.K t (.type T)=some b∧Q (.bl b) H):=by
 intro pins s σ H xs us Q I r h
 obtain ⟨x,T,t,b,rfl,ty,e,q⟩:=h
 obtain ⟨u,c,rfl,ru,rc⟩:=r.two
 obtain rfl:c=Value.type T:=rc
 exact C5 I ru ty e fun tk=>⟨.bl b,H,I.tok tk,rfl,q⟩
end
def cO (X:Cx) (scope:Scope) (cl:List (Str×Addr)) (C:Addr) (N':List Str) (s:Shared) (H:Hp) (ex:List Addr) (pn:List (Addr×Obj)):Cx:=
 { X with N:=N',s₀:=s,H₀:=H,env:=compEnvC scope cl C X.env,outer:=X.stack,ex:=ex,fn:=fun _=>false,pn:=pn,xe:=fun _ _=>False }
def ie (L:Nat) (src:List Nat) (σ:St):St:=replicate L none++src.map fun j=>(σ[j]?).join
def jx (σ σ':St):Prop:=σ'.length=σ.length∧∀(i:Nat) v,σ[i]?=some (some v)→σ'[i]?=some (some v)
theorem fK {x:V}{r:St}:jx (none :: r) (some x :: r):=⟨rfl,fun i v e=>by
 cases i with
 | zero=>simp at e
 | succ i=>simpa using e⟩
theorem Cg {x y:V}{r:St}:jx (none :: none :: r) (some x :: some y :: r):=⟨rfl,fun i v e=>by
 cases i with
 | zero=>simp at e
 | succ i=>
  cases i with
  | zero=>simp at e
  | succ i=>simpa using e⟩
def rN (X:Cx) (ifs:List Expr) (t:TT):Prop:=
 ∀(pins:List (Addr×Obj)) (s:Shared) (σ:St) (H:Hp) (Q:Bool→Hp→Prop),ad X pins σ H s→t σ H Q→
   wpAny (model X.prog X.w) X.A (forIn ifs true fun c r=>if r=true then do let ok ←isTrue c X.env (eval c X.env);pure (ForInStep.yield ok) else pure (ForInStep.yield r)) (TP X pins σ Q) X.xe s
def tT:TT:=fun _ H Q=>Q true H
theorem bM {X:Cx}:rN X [] tT:=fun _ _ _ H _ I h=>wpAny_pure ⟨H,I,h⟩
def uC (esc:Scope) (N:List Str) (scope:Scope) (N':List Str) (L:Nat) (src:List Nat):Bool:=
 (scope.kind==.function) && scope.names.all (fun y=>y.2 != .cell && (y.2 != .local || scope.names.lookup y.1==some .local) && (y.2 != .free || esc.names.lookup y.1==some .cell || esc.names.lookup y.1==some .free)) &&
  (N'.length==L+src.length) && (List.range src.length).all fun i=>match src[i]?,N'[L+i]? with
   | some j,some x=>(N[j]?==some x) && (scope.names.lookup x==some .free)
   | _,_=>false
structure CC (esc:Scope) (N:List Str) (scope:Scope) (N':List Str) (L:Nat) (src:List Nat):Prop where
 kind:scope.kind=.function
 nocell:∀y∈scope.names,y.2≠.cell
 loc:∀y∈scope.names,y.2=.local→scope.names.lookup y.1=some .local
 free:∀y∈scope.names,y.2=.free→esc.names.lookup y.1=some .cell∨esc.names.lookup y.1=some .free
 len:N'.length=L+src.length
 frees:∀(i j:Nat),src[i]?=some j→∃x,N'[L+i]?=some x∧N[j]?=some x∧scope.names.lookup x=some .free
theorem xZ {esc:Scope}{N:List Str}{scope:Scope}{N':List Str}{L:Nat}{src:List Nat} (h:uC esc N scope N' L src=true):CC esc N scope N' L src:=by
 unfold uC at h
 simp only [Bool.and_eq_true,all_eq_true] at h
 obtain ⟨⟨⟨h1,h2⟩,h3⟩,h4⟩:=h
 refine ⟨by simpa using h1,fun y hy=>?_,fun y hy e=>?_,fun y hy e=>?_,by simpa using h3,fun i j e=>?_⟩
 ·have:=(h2 y hy).1.1
  simpa using this
 ·have:=(h2 y hy).1.2
  rw [e] at this
  simpa using this
 ·have:=(h2 y hy).2
  rw [e] at this
  simpa using this
 ·have hi:i<src.length:=(List.getElem?_eq_some_iff.mp e).1
  have:=h4 i (List.mem_range.mpr hi)
  rw [e] at this
  cases q:N'[L+i]? with
  | none=>rw [q] at this;simp at this
  | some x=>
   rw [q] at this
   simp only [Bool.and_eq_true,beq_iff_eq] at this
   exact ⟨x,rfl,this.1,this.2⟩
def rE (J:It) (σc:St) (g:TG) (tt:TT) (te:TE) (D:Addr) (H1:Hp) (Q:VK):Prop:=
 ∃W:Nat→Nat→Hp→List V→Prop,(∃m,W 0 m (aE H1 D (.lst [])) [])∧∀i m H ys,W i m H ys→H D=some (.lst ys)∧
  ((J.stop i H∧Q (.ref D) H)∨(J.go i H∧ys.length<sizeLine∧∃N:Hp→List V→Prop,(∀H' ys',N H' ys'→∃m',m'<m∧W (i+1) m' H' ys')∧
    ∀x H',J.yld i H x H'→g x σc H' fun σ2 H2=>jx σc σ2∧tt σ2 H2 fun b H3=>if b=true then te σ2 H3 fun y H4=>H4 D=some (.lst ys)∧N (aE H4 D (.lst (ys++[y]))) (ys++[y]) else N H3 ys))
def Br (wi:TI) (L:Nat) (src:List Nat) (g:TG) (tt:TT) (te:TE):TE:=fun σ H Q=>wi σ H fun J H1=>∀D,H1 D=none→rE J (ie L src σ) g tt te D H1 Q
section
variable {X:Cx}{elt tg iter:Expr}{ifs:List Expr}{scope:Scope}{pos:Pos}{N':List Str}{L:Nat}{src:List Nat}{wi:TI}{g:TG}{tt:TT}{te:TE}
end
theorem yt {J:It}{n:Nat}{H1:Hp}{D:Addr}{σc:St}{g:TG}{tt:TT}{te:TE}{Q:VK} (Pv:Nat→Hp→List V→Prop) (hz:n≤sizeLine) (h0:Pv 0 (aE H1 D (.lst [])) [])
 (hD:∀i H ys,Pv i H ys→H D=some (.lst ys)∧ys.length≤i)
 (hgo:∀i H ys,i<n→Pv i H ys→J.go i H) (hst:∀H ys,Pv n H ys→J.stop n H)
 (hs:∀i H ys x H',i<n→Pv i H ys→J.yld i H x H'→g x σc H' fun σ2 H2=>jx σc σ2∧tt σ2 H2 fun b H3=>if b=true then te σ2 H3 fun y H4=>H4 D=some (.lst ys)∧Pv (i+1) (aE H4 D (.lst (ys++[y]))) (ys++[y]) else Pv (i+1) H3 ys)
 (hd:∀H ys,Pv n H ys→Q (.ref D) H):rE J σc g tt te D H1 Q:=by
 refine ⟨fun i m H ys=>m=n - i∧i≤n∧Pv i H ys,⟨n,by simp,zero_le _,h0⟩,?_⟩
 rintro i m H ys ⟨rfl,hi,p⟩
 obtain ⟨q1,q2⟩:=hD i H ys p
 refine ⟨q1,?_⟩
 by_cases hlt:i<n
 ·exact .inr ⟨hgo i H ys hlt p,by lia,Pv (i+1),fun H' ys' p'=>⟨n - (i+1),by lia,rfl,hlt,p'⟩,fun x H' y=>hs i H ys x H' hlt p y⟩
 ·have e:i=n:=by lia
  subst e
  exact .inl ⟨hst H ys p,hd H ys p⟩
theorem gv {J:It}{n:Nat}{H1:Hp}{D:Addr}{σc:St}{g:TG}{te:TE}{Q:VK} (Pv:Nat→Hp→List V→Prop) (hz:n≤sizeLine) (h0:Pv 0 (aE H1 D (.lst [])) [])
 (hD:∀i H ys,Pv i H ys→H D=some (.lst ys)∧ys.length≤i)
 (hgo:∀i H ys,i<n→Pv i H ys→J.go i H) (hst:∀H ys,Pv n H ys→J.stop n H)
 (hs:∀i H ys x H',i<n→Pv i H ys→J.yld i H x H'→g x σc H' fun σ2 H2=>jx σc σ2∧te σ2 H2 fun y H4=>H4 D=some (.lst ys)∧Pv (i+1) (aE H4 D (.lst (ys++[y]))) (ys++[y]))
 (hd:∀H ys,Pv n H ys→Q (.ref D) H):rE J σc g tT te D H1 Q:=by
 refine yt Pv hz h0 hD hgo hst (fun i H ys x H' hi p y=>?_) hd
 have e:=hs i H ys x H' hi p y
 have q:(fun (σ2:St) (H2:Hp)=>jx σc σ2∧tT σ2 H2 fun b H3=>if b=true then te σ2 H3 fun y H4=>H4 D=some (.lst ys)∧Pv (i+1) (aE H4 D (.lst (ys++[y]))) (ys++[y]) else Pv (i+1) H3 ys) =
  (fun σ2 H2=>jx σc σ2∧te σ2 H2 fun y H4=>H4 D=some (.lst ys)∧Pv (i+1) (aE H4 D (.lst (ys++[y]))) (ys++[y])):=by
  funext σ2 H2
  unfold tT
  dsimp only
  rw [if_pos rfl]
 rw [q]
 exact e
section
variable {X:Cx}{pins:List (Addr×Obj)}{σ:St}{H:Hp}{s:Shared}{h':Heap}
theorem ad.turnedNew {t':Nat}{ch:List Addr}{T:Addr}{o:HO} (I:ad X pins σ H s) (hf:∀b∈ch,jz X pins H b) (k:∀b u,b∉ch→s.heap.get? b=some u→h'.get? b=some u)
 (hT:#[s]≤T) (new:be X.prog X.w (aE H T o) h' T o):ad X pins σ (aE H T o) { s with heap:=h',toks:=t' }:=by
 have hn:H T=none:=I.hok.fresh hT
 refine I.step (g':=s.gens) (d':=s.drawn) (ch:=ch) (fun b hb=>?_) (fun b o _ _ hc e _=>k b o hc e) (fun b o _ _ hc e _=>⟨o.slots,k b o hc e⟩) (fun b o hc e n=>?_)
  (fun b o hc e=>⟨o,k b o hc e⟩) (fun b xs e=>?_) (fun b o u e=>?_) (fun b ps e=>?_) (fun m hm=>?_) (fun b u e=>?_) I.bare
 ·obtain ⟨f0,f1,f2,f3,f4,f5⟩:=hf b hb
  exact ⟨f3,f1,f4,f5⟩
 ·rw [aj (ne_of_lt (lt_of_lt_of_le (Heap.lt_size e) hT))];exact n
 ·rw [aj (aS e hn)];exact e
 ·rw [aj (aS e hn)];exact e
 ·exact ⟨#[],by rw [aj (aS e hn),e];simp⟩
 ·obtain ⟨o,es,ep,ho,r⟩:=hm
  exact ⟨o,es,ep,k _ o (fun z=>(hf _ z).2.1 rfl) ho,r⟩
 ·by_cases hb:b=T
  ·subst hb;rw [ao] at e;cases e;exact new
  ·rw [aj hb] at e
   refine (I.hok b u e).stay (fun c v hc q=>k c v (fun z=>?_) q) (fun c q=>by rw [aj (aS q hn)];exact q) fun c xs q=>by rw [aj (aS q hn)];exact q
   have hcn:=(hf c z).1
   rcases hc with rfl | hc
   ·rw [e] at hcn;cases hcn
   ·rw [hc] at hcn;cases hcn
end
section
variable {X:Cx}
theorem yw {bs:List Bool}{us:List Value} (r:aD (bs.map V.bl) us) {i:Nat}{v:Value} (e:us[i]?=some v):∃b,bs[i]?=some b∧v=.bool b:=by
 have hl:=r.length
 rw [length_map] at hl
 have hi:i<us.length:=(List.getElem?_eq_some_iff.mp e).1
 have hb:bs[i]?=some bs[i]:=by simp [hl,hi]
 obtain ⟨u,h1,h2⟩:=r.get (i:=i) (x:=.bl bs[i]) (by rw [getElem?_map,hb];rfl)
 rw [e] at h1
 cases h1
 exact ⟨_,hb,h2⟩
theorem AR {s:Shared}{h':Heap}{o:Obj} (hk:∀b x,b∉[#[s]]→(s.heap.push o).get? b=some x→h'.get? b=some x):∀b x,s.heap.get? b=some x→h'.get? b=some x:=
 fun b x e=>hk b x (fun hm=>by rw [List.mem_singleton.mp hm] at e;exact lt_irrefl _ (Heap.lt_size e)) (Heap.get?_push_of_some _ e)
theorem Ex (hc:X.calm=true):cy X (.builtin "all") (fun xs H Q=>aT fun (l:Addr) (bs:List Bool)=>xs=[.ref l]∧aq X.K H l (bs.map V.bl)∧Q (.bl (bs.all id)) H):=by
 intro pins s σ H xs us Q I r h
 obtain ⟨l,bs,rfl,hq,q⟩:=h
 obtain ⟨u,rfl,ru⟩:=r.one
 obtain rfl:u=.ref l:=ru
 obtain ⟨its,rv,p,hz⟩:=I.list hq
 have hl:=p.isList
 have hlt:l < #[s]:=by obtain ⟨_,e,_⟩:=hl;exact Heap.lt_size e
 refine call_all_walk (wpAny_pyIter_list hl ?_)
 refine ⟨#[s],[#[s],l],[#[s]],its.toArray.size,_,_,fun i=>(bs[i]?).getD true,rfl,Walks.list (A:=X.A.in1) (I.ok.hd hc) _ l (ne_of_lt hlt) its.toArray,
  ⟨⟨_,Heap.get?_push_size _ rfl,rfl,rfl⟩,hl.push _⟩,fun i v s' Q' E' hP hQ=>?_,fun h' tk hk=>?_⟩
 ·obtain ⟨b,e,rfl⟩:=yw rv (i:=i) (v:=v) (by simpa using hP)
  simp only [e,Option.getD_some] at hQ
  exact wpAny_truthy_bool hQ
 ·have e:((List.range its.toArray.size).all fun i=>(bs[i]?).getD true)=bs.all id:=by
   rw [size_toArray,←rv.length,length_map];exact LSm.range_all bs
  rw [e]
  exact ⟨.bl _,H,I.kept (AR hk),rfl,q⟩
theorem El (hc:X.calm=true):cy X (.builtin "any") (fun xs H Q=>aT fun (l:Addr) (bs:List Bool)=>xs=[.ref l]∧aq X.K H l (bs.map V.bl)∧Q (.bl (bs.any id)) H):=by
 intro pins s σ H xs us Q I r h
 obtain ⟨l,bs,rfl,hq,q⟩:=h
 obtain ⟨u,rfl,ru⟩:=r.one
 obtain rfl:u=.ref l:=ru
 obtain ⟨its,rv,p,hz⟩:=I.list hq
 have hl:=p.isList
 have hlt:l < #[s]:=by obtain ⟨_,e,_⟩:=hl;exact Heap.lt_size e
 refine call_any_walk (wpAny_pyIter_list hl ?_)
 refine ⟨#[s],[#[s],l],[#[s]],its.toArray.size,_,_,fun i=>(bs[i]?).getD false,rfl,Walks.list (A:=X.A.in1) (I.ok.hd hc) _ l (ne_of_lt hlt) its.toArray,
  ⟨⟨_,Heap.get?_push_size _ rfl,rfl,rfl⟩,hl.push _⟩,fun i v s' Q' E' hP hQ=>?_,fun h' tk hk=>?_⟩
 ·obtain ⟨b,e,rfl⟩:=yw rv (i:=i) (v:=v) (by simpa using hP)
  simp only [e,Option.getD_some] at hQ
  exact wpAny_truthy_bool hQ
 ·have e:((List.range its.toArray.size).any fun i=>(bs[i]?).getD false)=bs.any id:=by
   rw [size_toArray,←rv.length,length_map];exact LSm.range_any bs
  rw [e]
  exact ⟨.bl _,H,I.kept (AR hk),rfl,q⟩
end
def Lu (K:Frag) (a:Addr):It:=
 ⟨fun i H=>aT fun xs x=>aq K H a xs∧xs[i]?=some x,fun i H v H'=>aT fun T x=>H T=none∧v=.ref T∧H'=aE H T (.tup [.int (i:Int),x])∧∀xs,aq K H a xs→xs[i]?=some x,fun i H=>∃xs,aq K H a xs∧xs.length≤i⟩
theorem CF {P:Program}{w:World}{K:Frag}{es:List Expr}{kk:Nat}{pos:Pos} (a e it:Addr) (hne:e≠it) :
 vR P w K (.Tuple es kk pos) (Lu K a) [e,it] e (fun i h=>(∃old,IsEnum h e it i old)∧h.IsListIter it a i) where
 mem:=by simp
 obj:=fun i h st b hb=>by
  obtain ⟨⟨old,he⟩,o,e1,c,d⟩:=st
  have hb':b=e∨b=it:=by simpa using hb
  rcases hb' with rfl | rfl
  ·exact ⟨_,he,fun v z=>by
    have z':Data.fields _=Data.cell v:=z
    cases z'⟩
  ·exact ⟨o,e1,fun v z=>by rw [d] at z;cases z⟩
 keep:=fun i h h' st k=>by
  obtain ⟨⟨old,he⟩,hi⟩:=st
  exact ⟨⟨old,k e (by simp) _ he⟩,hi.at fun o q=>k it (by simp) o q⟩
 item:=by
  intro X hP hw hK hc i pins s σ H E I hf st hg
  subst hP hw hK
  obtain ⟨⟨old,he⟩,hit⟩:=st
  obtain ⟨xs,x,hq,hx⟩:=hg
  obtain ⟨its,rv,p,hz⟩:=I.list hq
  obtain ⟨u,hu,ru⟩:=rv.get hx
  have hnT:H #[s]=none:=I.fresh
  refine wpAny_pyNext_enum_item he hit p.isList (x:=u) (by simpa using hu) hne fun h' ho hit' hT hsz hk=>?_
  refine ⟨(),wpAny_letOwnedTupleGo_enum (s:={ s with heap:=h',toks:=s.toks+1 }) ho fun h'' he'' hs''=>?_⟩
  have helt:e < #[s]:=Heap.lt_size he
  have hilt:it < #[s]:=by obtain ⟨_,y,_⟩:=hit;exact Heap.lt_size y
  have hT'':h''.get? #[s]=some { cls:=.type "tuple",data:=.seq #[.int i s.toks,u] }:=(hs''.2 _ (ne_of_gt helt)).trans hT
  refine ⟨.ref #[s],aE H #[s] (.tup [.int (i:Int),x]),I.turnedNew (ch:=[e,it]) (t':=s.toks+1) hf (fun b o hb q=>?_) (le_refl _) ?_,rfl,⟨_,x,hnT,rfl,rfl,fun ys hy=>by rw [I.list_inj hy hq];exact hx⟩,⟨⟨u,?_⟩,hit'.extBut hs''.extBut (Ne.symm hne)⟩,fun b hb=>?_⟩
  ·have h1:b≠e:=fun z=>hb (by simp [z])
   have h2:b≠it:=fun z=>hb (by simp [z])
   exact (hs''.2 b h1).trans (hk b o h1 h2 q)
  ·exact ⟨by show 2≤sizeLine;decide,[.int i s.toks,u],.cons ⟨()⟩ (.cons ru .nil),⟨_,hT'',rfl,()⟩,_,hT'',rfl⟩
  ·simpa using he''
  ·have hb':b=e∨b=it:=by simpa using hb
   have hlt:b < #[s]:=by rcases hb' with rfl | rfl <;> assumption
   rw [aj (ne_of_lt hlt)]
   exact (hf b hb).1
 done:=by
  intro X hP hw hK hc i pins s σ H E I hf st hg
  subst hP hw hK
  obtain ⟨⟨old,he⟩,hit⟩:=st
  obtain ⟨xs,hq,hx⟩:=hg
  obtain ⟨its,rv,p,hz⟩:=I.list hq
  obtain ⟨f0,f1,f2,f3,f4,f5⟩:=hf it (by simp)
  have hl:=rv.length
  exact wpAny_pyNext_enum_end (I.ok.hd hc) he hit p.isList (by simp;lia) fun h' eb=>⟨rfl,I.turned (t':=s.toks) (fun b o hb e=>eb b o hb e) f0 f1 f3 f4 f5⟩
 self:=fun _ _ _ _ _ st h=>by
  obtain ⟨⟨old,he⟩,_⟩:=st
  exact wpAny_pyIter_enum he h
def JI (K:Frag) (ta:TA):TI:=fun σ H R=>ta σ H fun vs H1=>∃a,vs=[.ref a]∧(∃xs,aq K H1 a xs)∧R (Lu K a) H1
theorem FQ {X:Cx}{es:List Expr}{kk:Nat}{tp:Pos}{a:Expr}{ta:TA}{p pos:Pos} (hg:Gl X "enumerate") (hm:X.mg "enumerate" = none) (ha:PA X [a] ta) (hs:starEach [a] X.env=[(false,eval a X.env)]:=by rfl) :
 PI X (.Tuple es kk tp) (.Call (.Name "enumerate" p) [a] [] pos) (JI X.K ta):=by
 intro pins s σ H R I h
 refine Call_ (f9 I hg hm boot_enumerate (PyProof.Rows.callWith_type1 (aL (ha pos pins s σ H _ I h) fun us s1 ⟨vs,H1,I1,r1,q1⟩=>?_) hs rfl))
 obtain ⟨a,rfl,⟨xs,hq⟩,q⟩:=q1
 obtain ⟨u,rfl,ru⟩:=r1.one
 obtain rfl:u=.ref a:=ru
 obtain ⟨its,rv,p,hz⟩:=I1.list hq
 refine call_enumerate_list p.isList fun h' hE hI hsz hk=>wpAny_pyIter_enum hE ?_
 have I2:ad X pins σ H1 { s1 with heap:=h',toks:=s1.toks }:=I1.kept hk
 refine ⟨#[s1]+1,[#[s1]+1,#[s1]],_,_,H1,rfl,I2,CF a (#[s1]+1) #[s1] (Nat.succ_ne_self _),⟨⟨_,hE⟩,hI⟩,fun b hb=>?_,q⟩
 have hb':b=#[s1]+1∨b=#[s1]:=by simpa using hb
 have hle:#[s1]≤b:=by rcases hb' with rfl | rfl <;> lia
 exact I1.fpOk hle (I1.hok.fresh hle)
end L2
namespace L2
open PySem PySem.Spec PyProof.Rows
theorem bh:bootBuiltins "len" = some (.builtin "len"):=by nofun
theorem jV:bootBuiltins "abs" = some (.builtin "abs"):=by nofun
theorem wV:bootBuiltins "max" = some (.builtin "max"):=by nofun
theorem ki:bootBuiltins "all" = some (.builtin "all"):=by nofun
theorem wI:bootBuiltins "any" = some (.builtin "any"):=by nofun
theorem yT:bootBuiltins "divmod" = some (.builtin "divmod"):=by nofun
theorem bG:bootBuiltins "isinstance" = some (.builtin "isinstance"):=by nofun
theorem pS:bootBuiltins "int" = some (.type "int"):=by nofun
theorem zr:bootBuiltins "bool" = some (.type "bool"):=by nofun
theorem fY:bootBuiltins "list" = some (.type "list"):=by nofun
theorem gS:bootBuiltins "tuple" = some (.type "tuple"):=by nofun
theorem rn {X:Cx}{x:Str}{T:String}{pos:Pos} (hg:Gl X x) (hm:X.mg x=none) (hv:bootBuiltins x=some (.type T)) (hn:x≠"__name__" := by ext) (hd:(x==("__debug__" : Str))=false:=by ext):PE X (.Name x pos) (tC (.ty T)):=
 Gr (v:=.ty T) hg hm hv rfl hn hd
mutual
inductive aU (E:Addr→Prop) (H:Hp):V→PyData→Prop
 | non:aU E H .non .none
 | bl (b:Bool):aU E H (.bl b) (.bool b)
 | int (i:Int):aU E H (.int i) (.int i)
 | str (x:Str):aU E H (.str x) (.str x)
 | lst {a:Addr}{xs:List V}{ds:List PyData} (h:H a=some (.lst xs)) (ne:¬E a) (r:ay E H xs ds):aU E H (.ref a) (.list ds)
 | tup {a:Addr}{xs:List V}{ds:List PyData} (h:H a=some (.tup xs)) (r:ay E H xs ds):aU E H (.ref a) (.tuple ds)
inductive ay (E:Addr→Prop) (H:Hp):List V→List PyData→Prop
 | nil:ay E H [] []
 | cons {x:V}{xs:List V}{d:PyData}{ds:List PyData} (h:aU E H x d) (r:ay E H xs ds):ay E H (x :: xs) (d :: ds)
end
structure aK (E:Addr→Prop) (H H':Hp):Prop where
 old:∀a o,¬E a→H a=some o→H' a=some o
 tup:∀a xs,H a=some (.tup xs)→H' a=some (.tup xs)
mutual
theorem aU.mono {E:Addr→Prop}{H H':Hp} (k:aK E H H'):∀{v:V}{d:PyData},aU E H v d→aU E H' v d
 | _,_,.non=>.non
 | _,_,.bl b=>.bl b
 | _,_,.int i=>.int i
 | _,_,.str x=>.str x
 | _,_,.lst h ne r=>.lst (k.old _ _ ne h) ne (ay.mono k r)
 | _,_,.tup h r=>.tup (k.tup _ _ h) (ay.mono k r)
theorem ay.mono {E:Addr→Prop}{H H':Hp} (k:aK E H H'):∀{vs:List V}{ds:List PyData},ay E H vs ds→ay E H' vs ds
 | _,_,.nil=>.nil
 | _,_,.cons h r=>.cons (aU.mono k h) (ay.mono k r)
end
theorem aK.refl {E:Addr→Prop} (H:Hp):aK E H H:=⟨fun _ _ _ h=>h,fun _ _ h=>h⟩
theorem aK.trans {E:Addr→Prop}{H H1 H2:Hp} (a:aK E H H1) (b:aK E H1 H2):aK E H H2:=⟨fun c o n h=>b.old c o n (a.old c o n h),fun c xs h=>b.tup c xs (a.tup c xs h)⟩
theorem ag.toE {E:Addr→Prop}{H H':Hp} (a:ag H H'):aK E H H':=⟨fun c o _ h=>a c o h,fun c xs h=>a c _ h⟩
theorem ag.new {H:Hp}{p:Addr}{o:HO} (h:H p=none):ag H (aE H p o):=fun b u e=>by rw [aj (aS e h)];exact e
theorem ay.length {E:Addr→Prop}{H:Hp}:∀{vs:List V}{ds:List PyData},ay E H vs ds→vs.length=ds.length
 | _,_,.nil=>rfl
 | _,_,.cons _ r=>by simp [ay.length r]
theorem ay.get {E:Addr→Prop}{H:Hp}:∀{vs:List V}{ds:List PyData}{i:Nat}{v:V},ay E H vs ds→vs[i]?=some v→∃d,ds[i]?=some d∧aU E H v d
 | _,_,_,_,.nil,e=>by simp at e
 | _,_,0,_,.cons h _,e=>by simp at e;subst e;exact ⟨_,rfl,h⟩
 | _,_,i+1,v,.cons _ r,e=>by
  obtain ⟨d,h1,h2⟩:=ay.get (i:=i) (v:=v) r (by simpa using e)
  exact ⟨d,by simpa using h1,h2⟩
theorem ay.append {E:Addr→Prop}{H:Hp}:∀{vs ws:List V}{ds es:List PyData},ay E H vs ds→ay E H ws es→ay E H (vs++ws) (ds++es)
 | _,_,_,_,.nil,s=>s
 | _,_,_,_,.cons h r,s=>.cons h (ay.append r s)
mutual
theorem aU.reads {E:Addr→Prop}{P:Program}{w:World}{H:Hp}{h:Heap} (ok:dM P w H h):∀{v:V}{d:PyData},aU E H v d→∀{u:Value},aO v u→∃as,Reads h u d as
 | _,_,.non,u,r=>by obtain rfl:u=.none:=r;exact ⟨_,.none⟩
 | _,_,.bl b,u,r=>by obtain rfl:u=.bool b:=r;exact ⟨_,.bool b⟩
 | _,_,.int i,u,r=>by obtain ⟨t,rfl⟩:=r;exact ⟨_,.int i t⟩
 | _,_,.str x,u,r=>by obtain ⟨t,rfl⟩:=r;exact ⟨_,.str x t⟩
 | _,_,.lst (a:=a) (xs:=xs) e _ q,u,r=>by
  obtain rfl:u=.ref a:=r
  obtain ⟨_,its,n,rv,e1⟩:=(show be P w H h a (.lst xs) from ok a _ e)
  obtain ⟨as,ra⟩:=ay.reads ok q rv
  exact ⟨_,.list e1 rfl rfl (by simpa using ra)⟩
 | _,_,.tup (a:=a) (xs:=xs) e q,u,r=>by
  obtain rfl:u=.ref a:=r
  obtain ⟨_,its,rv,⟨o,e1,c,n,dd⟩,_⟩:=(show be P w H h a (.tup xs) from ok a _ e)
  obtain ⟨as,ra⟩:=ay.reads ok q rv
  exact ⟨_,.tuple e1 c dd (by simpa using ra)⟩
theorem ay.reads {E:Addr→Prop}{P:Program}{w:World}{H:Hp}{h:Heap} (ok:dM P w H h):∀{vs:List V}{ds:List PyData},ay E H vs ds→∀{us:List Value},aD vs us→∃as,ReadsAll h us ds as
 | _,_,.nil,us,r=>by cases r;exact ⟨_,.nil⟩
 | _,_,.cons q qs,us,r=>by
  cases r with
  | cons r1 rr=>
   obtain ⟨as,h1⟩:=aU.reads ok q r1
   obtain ⟨bs,h2⟩:=ay.reads ok qs rr
   exact ⟨_,.cons h1 h2⟩
end
section
variable {X:Cx}
def BN (_ j:Int):Prop:=0<j∧j.natAbs.log2<9000
theorem An:cn X (binaryOp .FloorDiv) (rI BN fun i j=>.int (i / j)):=yA fun i j _ _ _ _ _ hc q=>by
 rw [←Int.fdiv_eq_ediv_of_nonneg _ (Int.le_of_lt hc.1)] at q
 exact floordiv_int (Int.ne_of_gt hc.1) q (.inl (PyProof.noPylong_of_log2 hc.2))
end
end L2
namespace L2
open PySem PySem.Spec PyProof.Rows
def DT:PyData→String
 | .none => "NoneType"
 | .bool _ => "bool"
 | .int _ => "int"
 | .str _ => "str"
 | .list _ => "list"
 | .tuple _ => "tuple"
 | .dict _ => "dict"
theorem aU.ty {K:Frag}{E:Addr→Prop}{H:Hp}{v:V}{d:PyData} (h:aU E H v d):jv K H v (.type (DT d)):=by
 cases h with
 | non=>exact .non
 | bl b=>exact .bl b
 | int i=>exact .int i
 | str x=>exact .str x
 | lst h ne r=>exact .lst h
 | tup h r=>exact .tup h
def IA:PyData→Bool
 | .int _=>true
 | .bool _=>true
 | _=>false
def Gq:PyData→Bool
 | .bool _=>true
 | _=>false
def JA:PyData→Bool
 | .tuple _=>true
 | _=>false
def Jp:PyData→Bool
 | .list _=>true
 | _=>false
theorem GV {K:Frag} (d:PyData):kitOne K (.type (DT d)) (.type "int")=some (IA d):=by cases d <;> rfl
theorem EJ {K:Frag} (d:PyData):kitOne K (.type (DT d)) (.type "bool")=some (Gq d):=by cases d <;> rfl
theorem CS {K:Frag} (d:PyData):kitOne K (.type (DT d)) (.type "tuple")=some (JA d):=by cases d <;> rfl
theorem vy {K:Frag} (d:PyData):kitOne K (.type (DT d)) (.type "list")=some (Jp d):=by cases d <;> rfl
inductive KD (K:Frag) (xs:List V) (H:Hp) (Q:VK):Prop
 | mk (x:_) (T:_) (t:_) (b:_) (h0:xs=[x,.ty T]) (h1:jv K H x t) (h2:kitOne K t (.type T)=some b) (h3:Q (.bl b) H)
def Ma (K:Frag):List V→Hp→VK→Prop:=fun xs H Q=>KD K xs H Q
section
variable {X:Cx}
theorem zJ:cy X (.builtin "divmod") (fun xs H Q=>aT fun i j=>xs=[.int i,.int j]∧BN i j∧∀p,H p=none→Q (.ref p) (aE H p (.tup [.int (i / j),.int (i % j)]))):=by
 intro pins s σ H xs us Q I r h
 obtain ⟨i,j,rfl,⟨h1,h2⟩,q⟩:=h
 obtain ⟨u,w',rfl,⟨t,rfl⟩,⟨t',rfl⟩⟩:=xl r
 refine divmod_int (by lia) ?_ (.inl (PyProof.noPylong_of_log2 h2))
 rw [Int.fdiv_eq_ediv_of_nonneg i (by lia),Int.fmod_eq_emod_of_nonneg i (by lia)]
 have hn:H #[s]=none:=I.hok.fresh (le_refl _)
 refine ⟨.ref #[s],_,?_,rfl,q _ hn⟩
 refine I.laid (fun b o e=>Heap.get?_push_of_some _ e) (le_refl _) ⟨by simp only [length_cons,length_nil];rw [sizeLine_eq];decide,[.int (i / j) s.toks,.int (i % j) (s.toks+1)],.cons ⟨()⟩ (.cons ⟨()⟩ .nil),?_⟩
 exact ⟨⟨_,Heap.get?_push_size s.heap rfl,rfl,0,rfl⟩,_,Heap.get?_push_size s.heap rfl,rfl⟩
end
theorem MD (c:Bool):-(2 ^ 64)<(if c=true then (1:Int) else 0)∧(if c=true then (1:Int) else 0)<2 ^ 64:=by cases c <;> decide
theorem zn (x:Int):0≤(if x<0 then -x else x):=by split <;> lia
theorem Kg {x:Int} (c:Bool) (h:0≤x):0≤x*(if c=true then (1:Int) else 0):=by cases c <;> simp [h]
theorem A1 {ms:List Int}{k:Int} (h0:0≤k) (h:k.toNat<ms.length):gB (ms.map V.int) k=some (V.int ms[k.toNat]):=by
 have q:=cq (xs:=ms.map V.int) (j:=k.toNat) (v:=V.int ms[k.toNat]) (by rw [getElem?_map];simp [h])
 rwa [Int.toNat_of_nonneg h0] at q
inductive Bx (H:Hp) (b:Addr) (t:Int):Prop
 | mk (c x:Int) (h0:H b=some (.lst [.int c,.int x,.int t])) (h1:0≤c) (h2:0≤x) (h3:x<2147483647)
abbrev Eb (b:Addr):Addr→Prop:=fun a=>a=b
theorem Bx.same {H H':Hp}{b:Addr}{t:Int} (h:Bx H b t) (k:ag H H'):Bx H' b t:=by
 obtain ⟨c,x,e,r,r2,r3⟩:=h
 exact ⟨c,x,k _ _ e,r,r2,r3⟩
theorem ya {H H1:Hp}{b:Addr}{xs:List V}{o:HO} (k:ag H H1) (hb:H1 b=some (.lst xs)):aK (Eb b) H (aE H1 b o):=
 ⟨fun a u n h=>by rw [aj n];exact k a u h,fun a ys h=>by
  have e:=k a _ h
  rw [aj (Fx e hb (by intro z;cases z))];exact e⟩
inductive Jm (K:Frag) (vs:List V) (H:Hp) (Q:VK):Prop
 | mk (a:Addr) (ms:List Int) (k:Int) (h0:vs=[.ref a,.int k]) (h1:aq K H a (ms.map V.int)) (h2:0≤k) (h3:k≤63) (h4:∀p H',H p=none→ag H H'→Bx H' p 0→Q (.ref p) H')
def Kt (K:Frag):Sp:=fun vs H Q _=>Jm K vs H Q
inductive FP (vs:List V) (H:Hp) (Q:VK):Prop
 | mk (b:Addr) (many t:Int) (h0:vs=[.ref b,.int many]) (h1:Bx H b t) (h2:0<many) (h3:many.natAbs.log2<9000) (h4:0≤t) (h5:t≤1000000) (h6:∀r t' H',0≤r→r<many→t≤t'→t'≤t+1→aK (Eb b) H H'→Bx H' b t'→Q (.int r) H')
def II:Sp:=fun vs H Q _=>FP  vs H Q
def At:List Str→Bool
 | []=>true
 | x :: r=>!r.contains x && At r
theorem DG:∀l:List Str,At l=true→l.Nodup
 | [],_=>nodup_nil
 | x :: r,h=>by
  unfold At at h
  simp only [Bool.and_eq_true,Bool.not_eq_true',List.contains_eq_mem,decide_eq_false_iff_not] at h
  exact List.nodup_cons.mpr ⟨h.1,DG r h.2⟩
inductive KW (K:Frag) (xs:List V) (H:Hp) (Q:VK):Prop
 | mk (p:_) (ys:_) (h0:xs=[.ref p]) (h1:(aq K H p ys∨af K H p ys)) (h2:Q (.int ys.length) H)
def Me (K:Frag):List V→Hp→VK→Prop:=fun xs H Q=>KW K xs H Q
section
variable {X:Cx}{K:Frag}
theorem kL (e:X.K=K:=by rfl):cy X (.builtin "isinstance") (Ma K):=by subst e;exact fun pins s σ H xs us Q I r ⟨x,T,t,b,h1,h2,h3,q⟩=>AE pins s σ H xs us Q I r ⟨x,T,t,b,h1,h2,h3,q⟩
theorem eG (e:X.K=K:=by rfl):cy X (.builtin "len") (Me K):=by subst e;exact fun pins s σ H xs us Q I r ⟨p,ys,h1,h2,q⟩=>tW pins s σ H xs us Q I r ⟨p,ys,h1,h2,q⟩
theorem Ky (e:X.K=K:=by rfl):si X (E5 K):=by subst e;exact AS
theorem KL (e:X.K=K:=by rfl):si X (EG K):=by subst e;exact Dv
theorem Gy (e:X.K=K:=by rfl):cn X (compareOp .NotIn) (Ln K true):=by subst e;exact zW
inductive Ko (K:Frag) (xs:List V) (H:Hp) (Q:VK):Prop
 | mk (l:Addr) (bs:List Bool) (h0:xs=[.ref l]) (h1:aq K H l (bs.map V.bl)) (h2:Q (.bl (bs.all id)) H)
def LU (K:Frag):List V→Hp→VK→Prop:=fun xs H Q=>Ko K xs H Q
inductive Km (K:Frag) (xs:List V) (H:Hp) (Q:VK):Prop
 | mk (l:Addr) (bs:List Bool) (h0:xs=[.ref l]) (h1:aq K H l (bs.map V.bl)) (h2:Q (.bl (bs.any id)) H)
def LJ (K:Frag):List V→Hp→VK→Prop:=fun xs H Q=>Km K xs H Q
theorem xf (hc:X.calm=true) (e:X.K=K:=by rfl):cy X (.builtin "all") (LU K):=by subst e;exact fun pins s σ H xs us Q I r ⟨l,bs,h1,h2,q⟩=>Ex hc pins s σ H xs us Q I r ⟨l,bs,h1,h2,q⟩
theorem Fz (hc:X.calm=true) (e:X.K=K:=by rfl):cy X (.builtin "any") (LJ K):=by subst e;exact fun pins s σ H xs us Q I r ⟨l,bs,h1,h2,q⟩=>El hc pins s σ H xs us Q I r ⟨l,bs,h1,h2,q⟩
theorem cx {pos:Pos}{es:List Expr}{k:Nat}{t:vm}{n:Nat} (hc:X.calm=true) (h:DS X es t) (e:X.K=K:=by rfl)
 (hn:(assignEach es X.env).length=n:=by rfl) (hst:(assignEach es X.env).findIdx? (·.1)=none:=by rfl):PG X (.Tuple es k pos) (Et K n t):=by
 subst e;exact Ax hc h hn hst
theorem eZ {tg l:Expr}{tl:TE} (hl:PE X l tl) (e:X.K=K:=by rfl):PI X tg l (Fj K tl):=by subst e;exact F9 hl
theorem dE {tg l:Expr}{tl:TE} (hl:PE X l tl) (e:X.K=K:=by rfl):PI X tg l (Ii K tl):=by subst e;exact Iy hl
end
end L2
namespace L2
open PySem PySem.Spec PyProof.Rows
def uK:Expr→Bool
 | .Starred ..=>false
 | _=>true
theorem tL {e:Expr}{es:List Expr}{env:Env} (h:uK e=true):starEach (e :: es) env=(false,eval e env) :: starEach es env:=by
 cases e <;> first | rfl | (simp [uK] at h)
section
variable {X:Cx}{e:Expr}{es:List Expr}{te:TE}{t:TA}
theorem EQ (ha:PE X e te) (hr:PA X es t) (hs:uK e=true:=by rfl):PA X (e :: es) (FI te t):=cR ha hr (tL hs)
theorem pw (i:Nat) {x:Str}{pos:Pos} (hv:Cy X.env.scope x) (hN:X.N[i]?=some x:=by rfl) (hd:(x==("__debug__" : Str))=false:=by ext) (hcd:(x==("__classdict__" : Str))=false:=by ext):PE X (.Name x pos) (ET i):=CI hN hv hd hcd
end
end L2
namespace KM
theorem gcd_fmod (n d:Int):Int.gcd d (n.fmod d)=Int.gcd n d:=by
 apply Nat.dvd_antisymm
 ·apply dvd_gcd
  ·have h1:((Int.gcd d (n.fmod d):Nat):Int) ∣ d:=gcd_dvd_left ..
   have h2:((Int.gcd d (n.fmod d):Nat):Int) ∣ n.fmod d:=gcd_dvd_right ..
   have h3:=Int.dvd_add h2 (Int.dvd_mul_of_dvd_left (c:=n.fdiv d) h1)
   rw [Int.fmod_add_mul_fdiv] at h3
   exact h3
  ·exact gcd_dvd_left ..
 ·apply dvd_gcd
  ·exact gcd_dvd_right ..
  ·rw [fmod_def]
   exact Int.dvd_sub (gcd_dvd_left ..) (Int.dvd_mul_of_dvd_left (gcd_dvd_right ..))
theorem fmod_natAbs_lt (n d:Int) (h:d≠0):(n.fmod d).natAbs<d.natAbs:=by
 rcases Int.lt_trichotomy d 0 with hd | hd | hd
 ·have e:n.fmod d=-((-n).fmod (-d)):=by
   rw [fmod_def,fmod_def]
   have:(-n).fdiv (-d)=n.fdiv d:=Int.neg_fdiv_neg n d
   rw [this,Int.neg_mul];lia
  have h1:=Int.fmod_nonneg_of_pos (-n) (b:=-d) (by lia)
  have h2:=Int.fmod_lt_of_pos (-n) (b:=-d) (by lia)
  lia
 ·exact absurd hd h
 ·have h1:=Int.fmod_nonneg_of_pos n hd
  have h2:=Int.fmod_lt_of_pos n hd
  lia
theorem gcd_zero_abs (n:Int):((Int.gcd n 0:Nat):Int)=if n<0 then -n else n:=by
 rw [Int.gcd_zero_right]
 split <;> lia
theorem gcd_emod (n d:Int):Int.gcd d (n % d)=Int.gcd n d:=by
 by_cases h:d=0
 ·subst h;rw [Int.emod_zero,Int.gcd_comm]
 ·apply Nat.dvd_antisymm
  ·apply dvd_gcd
   ·have h1:((Int.gcd d (n % d):Nat):Int) ∣ d:=gcd_dvd_left ..
    have h2:((Int.gcd d (n % d):Nat):Int) ∣ n % d:=gcd_dvd_right ..
    have h3:=Int.dvd_add h2 (Int.dvd_mul_of_dvd_left (c:=n / d) h1)
    rw [Int.emod_add_mul_ediv] at h3
    exact h3
   ·exact gcd_dvd_left ..
  ·apply dvd_gcd
   ·exact gcd_dvd_right ..
   ·rw [Int.emod_def]
    exact Int.dvd_sub (gcd_dvd_left ..) (Int.dvd_mul_of_dvd_left (gcd_dvd_right ..))
end KM
namespace KM
def low (n d:Int):Int×Int:=if 0<d then (n / (Int.gcd n d:Nat),d / (Int.gcd n d:Nat)) else (-n / (Int.gcd n d:Nat),-d / (Int.gcd n d:Nat))
theorem gcd_pos {n d:Int} (h:d≠0):0<Int.gcd n d:=by
 apply Nat.pos_of_ne_zero
 intro e
 exact h (Int.gcd_eq_zero_iff.mp e).2
theorem gcd_abs (n d:Int):Int.gcd (if n<0 then -n else n) (if d<0 then -d else d)=Int.gcd n d:=by
 split <;> split <;> simp [Int.gcd_neg,Int.neg_gcd]
theorem low_spec (n d:Int) (h:d≠0):1≤(low n d).2∧(low n d).1*d=n*(low n d).2∧Int.gcd (low n d).1 (low n d).2=1∧(low n d).1.natAbs≤n.natAbs∧(low n d).2.natAbs≤d.natAbs:=by
 have g0:=gcd_pos (n:=n) h
 have gi:((Int.gcd n d:Nat):Int)≠0:=by lia
 have d1:((Int.gcd n d:Nat):Int) ∣ n:=gcd_dvd_left ..
 have d2:((Int.gcd n d:Nat):Int) ∣ d:=gcd_dvd_right ..
 obtain ⟨a,ha⟩:=d1
 obtain ⟨b,hb⟩:=d2
 have ea:n / ((Int.gcd n d:Nat):Int)=a:=by
  conv=>lhs;lhs;rw [ha]
  exact Int.mul_ediv_cancel_left _ gi
 have eb:d / ((Int.gcd n d:Nat):Int)=b:=by
  conv=>lhs;lhs;rw [hb]
  exact Int.mul_ediv_cancel_left _ gi
 have ena:-n / ((Int.gcd n d:Nat):Int)=-a:=by
  have:-n=((Int.gcd n d:Nat):Int)*(-a):=by rw [mul_neg];lia
  rw [this]
  exact Int.mul_ediv_cancel_left _ gi
 have enb:-d / ((Int.gcd n d:Nat):Int)=-b:=by
  have:-d=((Int.gcd n d:Nat):Int)*(-b):=by rw [mul_neg];lia
  rw [this]
  exact Int.mul_ediv_cancel_left _ gi
 have hco:Int.gcd a b=1:=by
  have:=Int.gcd_ediv_gcd_ediv_gcd (i:=n) (j:=d) g0
  rw [ea,eb] at this
  exact this
 have hgp:(0:Int)<((Int.gcd n d:Nat):Int):=by lia
 have habs:n.natAbs=Int.gcd n d*a.natAbs:=by
  conv=>lhs;rw [ha]
  rw [natAbs_mul];rfl
 have hbbs:d.natAbs=Int.gcd n d*b.natAbs:=by
  conv=>lhs;rw [hb]
  rw [natAbs_mul];rfl
 have la:a.natAbs≤n.natAbs:=by rw [habs];exact Nat.le_mul_of_pos_left _ g0
 have lb:b.natAbs≤d.natAbs:=by rw [hbbs];exact Nat.le_mul_of_pos_left _ g0
 have hab:a*d=n*b:=by
  generalize ((Int.gcd n d:Nat):Int)=g at ha hb
  subst ha hb
  rw [mul_comm g a,mul_assoc]
 unfold low
 split
 ·rename_i hd
  refine ⟨?_,?_,?_,?_,?_⟩
  ·show 1≤d / _
   rw [eb]
   have:0<b:=by
    apply Int.pos_of_mul_pos_right (a:=((Int.gcd n d:Nat):Int)) _ hgp
    rw [←hb];exact hd
   lia
  ·show n / _*d=n*(d / _)
   rw [ea,eb];exact hab
  ·show Int.gcd (n / _) (d / _)=1
   rw [ea,eb];exact hco
  ·show (n / _).natAbs≤_
   rw [ea];exact la
  ·show (d / _).natAbs≤_
   rw [eb];exact lb
 ·rename_i hd
  refine ⟨?_,?_,?_,?_,?_⟩
  ·show 1≤-d / _
   rw [enb]
   have:0 < -b:=by
    apply Int.pos_of_mul_pos_right (a:=((Int.gcd n d:Nat):Int)) _ hgp
    rw [mul_neg,←hb];lia
   lia
  ·show -n / _*d=n*(-d / _)
   rw [ena,enb,Int.neg_mul,mul_neg,hab]
  ·show Int.gcd (-n / _) (-d / _)=1
   rw [ena,enb,Int.gcd_neg,Int.neg_gcd];exact hco
  ·show (-n / _).natAbs≤_
   rw [ena,Int.natAbs_neg];exact la
  ·show (-d / _).natAbs≤_
   rw [enb,Int.natAbs_neg];exact lb
end KM
namespace KM
theorem Am {n d a b:Int} (hd:d≠0) (hb:1≤b) (hg:Int.gcd a b=1) (he:a*d=n*b):low n d=(a,b):=by
 obtain ⟨h1,h2,h3,_,_⟩:=low_spec n d hd
 generalize low n d=z at *
 obtain ⟨x,y⟩:=z
 dsimp only at h1 h2 h3
 have e1:x*b=a*y:=by
  apply Int.eq_of_mul_eq_mul_right hd
  calc x*b*d=(x*d)*b:=by rw [mul_assoc,mul_comm b d,←mul_assoc]
   _=n*y*b:=by rw [h2]
   _=(n*b)*y:=by rw [mul_assoc,mul_comm y b,←mul_assoc]
   _=a*d*y:=by rw [he]
   _=a*y*d:=by rw [mul_assoc,mul_comm d y,←mul_assoc]
 have d1:y ∣ b:=by
  apply Int.natAbs_dvd_natAbs.mp
  apply Nat.Coprime.dvd_of_dvd_mul_left (k:=y.natAbs) (m:=x.natAbs)
  ·show gcd y.natAbs x.natAbs=1
   rw [Nat.gcd_comm];exact h3
  ·rw [←natAbs_mul]
   exact Int.natAbs_dvd_natAbs.mpr ⟨a,by rw [e1,mul_comm]⟩
 have d2:b ∣ y:=by
  apply Int.natAbs_dvd_natAbs.mp
  apply Nat.Coprime.dvd_of_dvd_mul_left (k:=b.natAbs) (m:=a.natAbs)
  ·show gcd b.natAbs a.natAbs=1
   rw [Nat.gcd_comm];exact hg
  ·rw [←natAbs_mul]
   exact Int.natAbs_dvd_natAbs.mpr ⟨x,by rw [←e1,mul_comm]⟩
 have e2:y=b:=Int.dvd_antisymm (by lia) (by lia) d1 d2
 subst e2
 have e3:x=a:=Int.eq_of_mul_eq_mul_right (by lia) e1
 rw [e3]
theorem EA {a b:Int} (hb:1≤b) (hg:Int.gcd a b=1):low a b=(a,b):=Am (by lia) hb hg rfl
section
variable {p0 p1 q0 q1:Int}
end
theorem fdiv_low {n d:Int} (hd:d≠0):(n.fdiv (if d<0 then -((Int.gcd n d:Nat):Int) else ((Int.gcd n d:Nat):Int)),d.fdiv (if d<0 then -((Int.gcd n d:Nat):Int) else ((Int.gcd n d:Nat):Int)))=low n d:=by
 have g0:(0:Int)≤((Int.gcd n d:Nat):Int):=Int.natCast_nonneg _
 unfold low
 by_cases h:d<0
 ·rw [if_pos h,if_neg (by lia)]
  have e:∀x:Int,x.fdiv (-((Int.gcd n d:Nat):Int))=-x / ((Int.gcd n d:Nat):Int):=fun x=>by
   rw [←Int.fdiv_eq_ediv_of_nonneg _ g0,←Int.neg_fdiv_neg,Int.neg_neg]
  rw [e,e]
 ·rw [if_neg h,if_pos (by lia),Int.fdiv_eq_ediv_of_nonneg _ g0,Int.fdiv_eq_ediv_of_nonneg _ g0]
end KM
namespace KM
abbrev Fra:=Int×Int
theorem AJ {p q:Fra} (hp:1≤p.2) (hq:1≤q.2) (gp:Int.gcd p.1 p.2=1) (gq:Int.gcd q.1 q.2=1) (h:q.1*p.2=p.1*q.2):p=q:=by
 have e1:=EA hp gp
 have e2:=Am (n:=p.1) (d:=p.2) (a:=q.1) (b:=q.2) (by lia) hq gq h
 rw [e1] at e2
 exact e2
theorem low_sgn {n d:Int} (hd:0<d):(0<(low n d).1↔0<n)∧((low n d).1<0↔n<0):=by
 obtain ⟨h1,h2,_,_,_⟩:=low_spec n d (by lia)
 generalize low n d=z at *
 obtain ⟨x,y⟩:=z
 dsimp only at *
 have hy:0<y:=by lia
 constructor
 ·constructor
  ·intro h
   have:0<x*d:=mul_pos h hd
   rw [h2] at this
   exact Int.pos_of_mul_pos_left this hy
  ·intro h
   have:0<n*y:=mul_pos h hy
   rw [←h2] at this
   exact Int.pos_of_mul_pos_left this hd
 ·constructor
  ·intro h
   have:x*d<0:=Int.mul_neg_of_neg_of_pos h hd
   rw [h2] at this
   apply Decidable.byContradiction
   intro hn
   have:=Int.mul_nonneg (show 0≤n by lia) (show 0≤y by lia)
   lia
  ·intro h
   have:n*y<0:=Int.mul_neg_of_neg_of_pos h hy
   rw [←h2] at this
   apply Decidable.byContradiction
   intro hn
   have:=Int.mul_nonneg (show 0≤x by lia) (show 0≤d by lia)
   lia
end KM
namespace KM
def vl (p:Fra):Rat:=Rat.divInt p.1 p.2
def Rd (p:Fra):Prop:=1≤p.2∧Int.gcd p.1 p.2=1
theorem Rd.low {n d:Int} (h:d≠0):Rd (KM.low n d):=⟨(low_spec n d h).1,(low_spec n d h).2.2.1⟩
theorem HX {n d:Int} (h:d≠0):vl (low n d)=Rat.divInt n d:=by
 obtain ⟨h1,h2,_⟩:=low_spec n d h
 exact (Rat.divInt_eq_divInt_iff (by lia) h).mpr (by rw [h2])
theorem Rd.eq {p q:Fra} (hp:Rd p) (hq:Rd q) (h:vl p=vl q):p=q:=by
 have:=(Rat.divInt_eq_divInt_iff (d₁:=p.2) (d₂:=q.2) (by have:=hp.1;lia) (by have:=hq.1;lia)).mp h
 exact AJ hp.1 hq.1 hp.2 hq.2 this.symm
theorem Iq {a b:Int} (h:a≠0) (k:b≠0):a*b≠0:=mul_ne_zero h k
def lTim (p q:Fra):Fra:=low (p.1*q.1) (p.2*q.2)
theorem vl_tim {p q:Fra} (hp:p.2≠0) (hq:q.2≠0):vl (lTim p q)=vl p*vl q:=by
 unfold lTim
 rw [HX (Iq hp hq)]
 exact (Rat.divInt_mul_divInt _ _).symm
theorem vl_zero:vl (0,1)=0:=Rat.zero_divInt 1
end KM
namespace L2
open PySem PySem.Spec PyProof.Rows
section
variable {prog:Program}{w:World}{A:Around}{E:Value→Shared→Prop}{s:Shared}
theorem Ca {it t:Addr}{i:Nat}{its:Array Value}{x:Value}{Q:Value→Shared→Prop} (hit:s.heap.IsTupleIter it t i) (ht:s.heap.IsTuple t its) (hx:its[i]?=some x)
 (q:∀h',h'.IsTupleIter it t (i+1)→Heap.SameBut it s.heap h'→Q x { s with heap:=h' }):wpAny (model prog w) A (Builtin.SmallTypes.nextOf (.ref it)) Q E s:=by
 obtain ⟨o,e1,e2,e3⟩:=id hit;obtain ⟨u,e4,_,k,e5⟩:=ht;unfold Builtin.SmallTypes.nextOf
 refine wpAny_bind (wpAny_callSpecial?_slot (name:=Str.ofString "__next__") hit.typeIs F.slot_tuple_iterator_next (wpAny_call_entry F.slot_tuple_iterator_next hit.typeIs F.entry_tuple_iterator_next ?_ (F.args_tuple_iterator_next_1 _)))
 show wpAny _ _ (field (.ref it) 0 >>= _) _ _ s;refine wpAny_bind (wpAny_field e1 e3 (x:=.ref t) rfl ?_)
 show wpAny _ _ (if (Value.ref t==Value.none)=true then _ else _) _ _ s;rw [if_neg (show ¬((Value.ref t==Value.none)=true) from Bool.false_ne_true)]
 show wpAny _ _ (field (.ref it) 1 >>= _) _ _ s;refine wpAny_bind (wpAny_field e1 e3 (x:=.int i 0) rfl ?_)
 show wpAny _ _ (seqItems? (.ref t) >>= _) _ _ s;refine wpAny_bind (wpAny_seqItems e4 e5 ?_)
 simp only [toNat_natCast,hx];refine wpAny_bind (wpAny_setField e1 e3 (by simp) (wpAny_pure ⟨x,rfl,wpAny_pure (q _ ?_ (Heap.SameBut.update ..))⟩))
 exact ⟨_,Heap.get?_update_self _ e1 (Obj.isFreed_of_fields (Obj.data_mapFields e3 _)),(Obj.cls_mapFields ..).trans e2,by rw [Obj.data_mapFields e3];simp [rawInt]⟩
theorem yR {it t:Addr}{i:Nat}{its:Array Value}{Q:Value→Shared→Prop} (hh:A.handled=none) (hit:s.heap.IsTupleIter it t i) (ht:s.heap.IsTuple t its) (hx:its[i]?=none)
 (q:∀h' e,Heap.ExtBut it s.heap h'→(∃o,h'.get? e=some o∧o.cls=.type "StopIteration")→E (.ref e) { s with heap:=h' }):wpAny (model prog w) A (Builtin.SmallTypes.nextOf (.ref it)) Q E s:=by
 obtain ⟨o,e1,e2,e3⟩:=id hit;obtain ⟨u,e4,_,k,e5⟩:=ht;unfold Builtin.SmallTypes.nextOf
 refine wpAny_bind (wpAny_callSpecial?_slot (name:=Str.ofString "__next__") hit.typeIs F.slot_tuple_iterator_next (wpAny_call_entry F.slot_tuple_iterator_next hit.typeIs F.entry_tuple_iterator_next ?_ (F.args_tuple_iterator_next_1 _)))
 show wpAny _ _ (field (.ref it) 0 >>= _) _ _ s;refine wpAny_bind (wpAny_field e1 e3 (x:=.ref t) rfl ?_)
 show wpAny _ _ (if (Value.ref t==Value.none)=true then _ else _) _ _ s;rw [if_neg (show ¬((Value.ref t==Value.none)=true) from Bool.false_ne_true)]
 show wpAny _ _ (field (.ref it) 1 >>= _) _ _ s;refine wpAny_bind (wpAny_field e1 e3 (x:=.int i 0) rfl ?_)
 show wpAny _ _ (seqItems? (.ref t) >>= _) _ _ s;refine wpAny_bind (wpAny_seqItems e4 e5 ?_)
 simp only [toNat_natCast,hx];refine wpAny_bind (wpAny_rule (wpAny_bind (wpAny_setField e1 e3 (by simp) ?_)))
 show wpAny _ _ (newExc (.type "StopIteration") [] >>= _) _ _ _;refine wpAny_bind ?_;simp only [newExc,newTuple]
 refine wpAny_bind (wpAny_newObj_type ?_ (by size_fits));refine wpAny_bind (m:=firstArgMember _ _) (wpAny_of_eq (a:=Value.none) (by first | rfl | (simp only [firstArgMember];rfl)) ?_);refine wpAny_newObj_type ?_ (by size_fits)
 simp only [raiseNew];refine wpAny_bind (wpAny_handled ?_);first | rw [show A.in1.handled=none from hh] | rw [hh]
 refine wpAny_bind (wpAny_pure (wpAny_throw ?_));exact q _ _ (((Heap.SameBut.update ..).extBut.push _).push _) ⟨_,Heap.get?_push_size _ rfl,rfl⟩
end
def bK (h:Heap) (l:Addr) (its:Array Value):Bool→Prop
 | true=>h.IsList l its
 | false=>h.IsTuple l its
def bE (h:Heap) (it l:Addr) (i:Nat):Bool→Prop
 | true=>h.IsListIter it l i
 | false=>h.IsTupleIter it l i
theorem bK.at {h h':Heap}{l:Addr}{its:Array Value}:∀{b:Bool},bK h l its b→(∀o,h.get? l=some o→h'.get? l=some o)→bK h' l its b
 | true,q,k=>Heap.IsList.at q k
 | false,q,k=>Heap.IsTuple.at q k
theorem bE.at {h h':Heap}{it l:Addr}{i:Nat}:∀{b:Bool},bE h it l i b→(∀o,h.get? it=some o→h'.get? it=some o)→bE h' it l i b
 | true,q,k=>Heap.IsListIter.at q k
 | false,q,k=>Heap.IsTupleIter.at q k
theorem bK.lt {h:Heap}{l:Addr}{its:Array Value}:∀{b:Bool},bK h l its b→l<h.objs.size
 | true,⟨_,e,_⟩=>Heap.lt_size e
 | false,⟨_,e,_⟩=>Heap.lt_size e
theorem bE.some {h:Heap}{it l:Addr}{i:Nat}:∀{b:Bool},bE h it l i b→∃o,h.get? it=some o∧∀v,o.data≠.cell v
 | true,⟨o,e,_,d⟩=>⟨o,e,fun v z=>by rw [d] at z;cases z⟩
 | false,⟨o,e,_,d⟩=>⟨o,e,fun v z=>by rw [d] at z;cases z⟩
theorem dc {prog:Program}{w:World}{A:Around} (hh:A.handled=none) (it l:Addr) (hne:l≠it) (its:Array Value):∀b:Bool,
 Draws prog w A it [it,l] its.size (fun i v=>its[i]?=some v) (fun i h=>bE h it l i b∧bK h l its b)
 | true=>Draws.list hh it l hne its
 | false=>{
  live:=fun _ _ st=>let ⟨o,ho,_⟩:=st.1;⟨o,ho⟩
  frame:=fun _ _ _ st hk=>⟨Heap.IsTupleIter.at st.1 fun o e=>hk it (by simp) o e,Heap.IsTuple.at st.2 fun o e=>hk l (by simp) o e⟩
  item:=fun i s Q E hi st q=>Ca st.1 st.2 (x:=its[i]) (by simp [hi]) fun h' it' same=>q _ h' s.toks (by simp [hi]) ⟨it',Heap.IsTuple.extBut st.2 same.extBut hne⟩ same
  done:=fun s Q E st q=>yR hh st.1 st.2 (by simp) q }
structure iO (z TI TO i1 i2:Addr):Prop where
 a1:TI≠z
 a2:TO≠z
 a3:i1≠z
 a4:i2≠z
 a5:TI≠TO
 a6:TI≠i1
 a7:TI≠i2
 a8:TO≠i1
 a9:TO≠i2
 a0:i1≠i2
section
variable {prog:Program}{w:World}{A:Around}{E:Value→Shared→Prop}{s:Shared}
variable {z TI TO i1 i2 l1 l2:Addr}{k:Nat}{xs ys:Array Value}{a b:Value}{c1 c2:Bool}
theorem Hf {x y:Value}{Q:Value→Shared→Prop} (D:iO z TI TO i1 i2) (n1:∀c,c=l1∨c=l2→c≠z∧c≠TO∧c≠i1∧c≠i2)
 (hz:IsZip s.heap z TI TO .none) (hTI:IsPair s.heap TI (.ref i1) (.ref i2)) (hTO:IsPair s.heap TO a b) (hh:A.handled=none)
 (h1:bE s.heap i1 l1 k c1) (h2:bE s.heap i2 l2 k c2) (q1:bK s.heap l1 xs c1) (q2:bK s.heap l2 ys c2) (hx:xs[k]?=some x) (hy:ys[k]?=some y)
 (hQ:∀h' tk,IsZip h' z TI TO (rawInt #[s])→IsPair h' TO x y→bE h' i1 l1 (k+1) c1→bE h' i2 l2 (k+1) c2→IsPair h' #[s] x y→h'.objs.size=#[s]+1→
  (∀c o,c≠z→c≠TO→c≠i1→c≠i2→s.heap.get? c=some o→h'.get? c=some o)→Q (.ref #[s]) { s with heap:=h',toks:=tk }) :
 wpAny (model prog w) A (Builtin.«zip.__next__» ⟨[.ref z],[]⟩) (fun aV s'=>∃v,aV=.done (.ret v)∧Q v s') E s:=by
 obtain ⟨m1,m2,m3,m4⟩:=n1 l1 (.inl rfl)
 obtain ⟨m5,m6,m7,m8⟩:=n1 l2 (.inr rfl)
 have kx:k<xs.size:=(Array.getElem?_eq_some_iff.mp hx).1
 have ky:k<ys.size:=(Array.getElem?_eq_some_iff.mp hy).1
 have D1:=dc (prog:=prog) (w:=w) hh i1 l1 m3 xs c1
 have D2:=dc (prog:=prog) (w:=w) hh i2 l2 m8 ys c2
 show wpAny _ _ (field (.ref z) 2 >>= _) _ _ _;refine wpAny_bind (wpAny_field hz rfl (x:=.bool false) rfl ?_)
 show wpAny _ _ (field (.ref z) 3 >>= _) _ _ _;refine wpAny_bind (wpAny_field hz rfl (x:=.ref TI) rfl (wpAny_bind (wpAny_seqItems hTI rfl ?_)))
 show wpAny _ _ (Builtin.SmallTypes.ownedTupleIsFree (.ref z) >>= _) _ _ _;refine wpAny_bind ?_;unfold Builtin.SmallTypes.ownedTupleIsFree
 refine wpAny_bind (wpAny_field hz rfl (x:=.none) rfl (wpAny_pure ?_));simp only [if_true]
 refine wpAny_bind (wpAny_rule (wpAny_bind (wpAny_field hz rfl (x:=.ref TO) rfl (wpAny_bind (wpAny_setField_rec hz (by simp) fun g1 z1 t1=>?_)))))
 replace z1:IsZip g1 z TI TO .ellipsis:=z1
 refine wpAny_bind ?_;simp only [zipIdx_cons,zipIdx_nil,forIn_cons,forIn_nil];refine wpAny_bind (wpAny_bind (wpAny_onRaise ?_))
 show wpAny _ _ (Builtin.SmallTypes.nextOf (.ref i1) >>= _) _ _ _
 refine wpAny_bind (D1.item k _ _ _ kx ⟨h1.at fun o e=>t1.extBut _ _ D.a3 e,q1.at fun o e=>t1.extBut _ _ m1 e⟩ fun x' g2 tk2 p1 st1 t2=>wpAny_pure ?_)
 have ex:x=x':=Option.some.inj (hx.symm.trans p1)
 subst ex
 have TO2:IsPair g2 TO a b:=t2.extBut _ _ D.a8 (t1.extBut _ _ D.a2 hTO)
 refine wpAny_bind (wpAny_seqItems TO2 rfl (wpAny_bind (wpAny_updateSeq_pair TO2 fun g3 TO3 t3=>?_)))
 replace TO3:IsPair g3 TO x b:=TO3
 refine wpAny_bind (wpAny_letGo (wpAny_pure ?_));refine wpAny_bind (wpAny_bind (wpAny_onRaise ?_));show wpAny _ _ (Builtin.SmallTypes.nextOf (.ref i2) >>= _) _ _ _
 refine wpAny_bind (D2.item k _ _ _ ky ⟨h2.at fun o e=>t3.extBut _ _ D.a9.symm (t2.extBut _ _ D.a0.symm (t1.extBut _ _ D.a4 e)),q2.at fun o e=>t3.extBut _ _ m6 (t2.extBut _ _ m7 (t1.extBut _ _ m5 e))⟩ fun y' g4 tk4 p2 st2 t4=>wpAny_pure ?_)
 have ey:y=y':=Option.some.inj (hy.symm.trans p2)
 subst ey
 have TO4:IsPair g4 TO x b:=t4.extBut _ _ D.a9 TO3
 refine wpAny_bind (wpAny_seqItems TO4 rfl (wpAny_bind (wpAny_updateSeq_pair TO4 fun g5 TO5 t5=>?_)))
 replace TO5:IsPair g5 TO x y:=TO5
 refine wpAny_bind (wpAny_letGo (wpAny_pure (wpAny_pure ?_)));refine wpAny_bind (wpAny_seqItems TO5 rfl (wpAny_bind (wpAny_newTuple ?_)))
 have sz:g5.objs.size=#[s]:=by rw [t5.1,t4.1,t3.1,t2.1,t1.1]
 have z5:IsZip g5 z TI TO .ellipsis:=t5.extBut _ _ D.a2.symm (t4.extBut _ _ D.a4.symm (t3.extBut _ _ D.a2.symm (t2.extBut _ _ D.a3.symm z1)))
 have keep:∀c o,c≠z→c≠TO→c≠i1→c≠i2→s.heap.get? c=some o→g5.get? c=some o:=fun c o d1 d2 d3 d4 e=>t5.extBut _ _ d2 (t4.extBut _ _ d4 (t3.extBut _ _ d2 (t2.extBut _ _ d3 (t1.extBut _ _ d1 e))))
 have it1:bE g5 i1 l1 (k+1) c1:=st1.1.at fun o e=>t5.extBut _ _ D.a8.symm (t4.extBut _ _ D.a0 (t3.extBut _ _ D.a8.symm e))
 have it2:bE g5 i2 l2 (k+1) c2:=st2.1.at fun o e=>t5.extBut _ _ D.a9.symm e
 have zlt:z<g5.objs.size:=Heap.lt_size z5
 show wpAny _ _ (Builtin.SmallTypes.ownedTupleHandOut (.ref z) (.ref g5.objs.size) >>= _) _ _ _;refine wpAny_bind ?_;unfold Builtin.SmallTypes.ownedTupleHandOut
 have z6:IsZip (g5.push { cls:=.type "tuple",data:=.seq #[x,y] }) z TI TO .ellipsis:=Heap.get?_push_of_some _ z5
 refine wpAny_bind (wpAny_setField_rec z6 (by simp) fun g7 z7 t7=>?_)
 replace z7:IsZip g7 z TI TO (rawInt g5.objs.size):=z7
 refine wpAny_setField_rec z7 (by simp) fun g8 z8 t8=>?_
 replace z8:IsZip g8 z TI TO (rawInt g5.objs.size):=z8
 have up:∀c o,c≠z→g5.get? c=some o→g8.get? c=some o:=fun c o d e=>t8.extBut _ _ d (t7.extBut _ _ d (Heap.get?_push_of_some _ e))
 have T8:IsPair g8 g5.objs.size x y:=t8.extBut _ _ (ne_of_gt zlt) (t7.extBut _ _ (ne_of_gt zlt) (Heap.get?_push_size _ rfl))
 have s8:g8.objs.size=g5.objs.size+1:=by rw [t8.1,t7.1,Heap.size_push]
 rw [sz] at z8 T8 s8
 refine wpAny_pure ⟨(),?_⟩;show Q (.ref g5.objs.size) _;rw [sz]
 exact hQ g8 _ z8 (up _ _ D.a2 TO5) (it1.at fun o e=>up _ o D.a3 e) (it2.at fun o e=>up _ o D.a4 e) T8 s8 fun c o d1 d2 d3 d4 e=>up c o d1 (keep c o d1 d2 d3 d4 e)
theorem Ic {Q:Fin→Shared→Prop} (hh:A.handled=none) (D:iO z TI TO i1 i2) (n1:∀c,c=l1∨c=l2→c≠z∧c≠TO∧c≠i1∧c≠i2)
 (hz:IsZip s.heap z TI TO .none) (hTI:IsPair s.heap TI (.ref i1) (.ref i2)) (hTO:IsPair s.heap TO a b)
 (h1:bE s.heap i1 l1 k c1) (h2:bE s.heap i2 l2 k c2) (q1:bK s.heap l1 xs c1) (q2:bK s.heap l2 ys c2) (hend:xs.size=k∨(k<xs.size∧ys.size=k))
 (hE:∀h' e tk,(∀c o,c≠z→c≠TO→c≠i1→c≠i2→s.heap.get? c=some o→h'.get? c=some o)→(∃o,h'.get? e=some o∧o.cls=.type "StopIteration")→E (.ref e) { s with heap:=h',toks:=tk }) :
 wpAny (model prog w) A (Builtin.«zip.__next__» ⟨[.ref z],[]⟩) Q E s:=by
 obtain ⟨m1,m2,m3,m4⟩:=n1 l1 (.inl rfl)
 obtain ⟨m5,m6,m7,m8⟩:=n1 l2 (.inr rfl)
 have D1:=dc (prog:=prog) (w:=w) hh i1 l1 m3 xs c1
 have D2:=dc (prog:=prog) (w:=w) hh i2 l2 m8 ys c2
 show wpAny _ _ (field (.ref z) 2 >>= _) _ _ _;refine wpAny_bind (wpAny_field hz rfl (x:=.bool false) rfl ?_)
 show wpAny _ _ (field (.ref z) 3 >>= _) _ _ _;refine wpAny_bind (wpAny_field hz rfl (x:=.ref TI) rfl (wpAny_bind (wpAny_seqItems hTI rfl ?_)))
 show wpAny _ _ (Builtin.SmallTypes.ownedTupleIsFree (.ref z) >>= _) _ _ _;refine wpAny_bind ?_;unfold Builtin.SmallTypes.ownedTupleIsFree
 refine wpAny_bind (wpAny_field hz rfl (x:=.none) rfl (wpAny_pure ?_));simp only [if_true]
 refine wpAny_bind (wpAny_rule (wpAny_bind (wpAny_field hz rfl (x:=.ref TO) rfl (wpAny_bind (wpAny_setField_rec hz (by simp) fun g1 z1 t1=>?_)))))
 replace z1:IsZip g1 z TI TO .ellipsis:=z1
 refine wpAny_bind ?_;simp only [zipIdx_cons,zipIdx_nil,forIn_cons,forIn_nil];refine wpAny_bind (wpAny_bind (wpAny_onRaise ?_))
 show wpAny _ _ (Builtin.SmallTypes.nextOf (.ref i1) >>= _) _ _ _
 have st0:bE g1 i1 l1 k c1∧bK g1 l1 xs c1:=⟨h1.at fun o e=>t1.extBut _ _ D.a3 e,q1.at fun o e=>t1.extBut _ _ m1 e⟩
 rcases hend with hk | ⟨kx,hk⟩
 ·refine wpAny_bind (D1.done _ _ _ (by rw [hk];exact st0) fun g2 e t2 he=>?_)
  obtain ⟨oe,e1,e2⟩:=he
  have z2:IsZip g2 z TI TO .ellipsis:=t2 _ _ D.a3.symm z1
  have ez:e≠z:=fun q=>by subst q;rw [z2] at e1;cases e1;simp at e2
  exact wpAny_setField_rec z2 (by simp) fun g3 _ t3=>hE g3 e _ (fun c o d1 _ d3 _ q=>t3.extBut _ _ d1 (t2 _ _ d3 (t1.extBut _ _ d1 q))) ⟨oe,t3.extBut _ _ ez e1,e2⟩
 ·refine wpAny_bind (D1.item k _ _ _ kx st0 fun x g2 tk2 p1 st1 t2=>wpAny_pure ?_)
  have TO2:IsPair g2 TO a b:=t2.extBut _ _ D.a8 (t1.extBut _ _ D.a2 hTO)
  refine wpAny_bind (wpAny_seqItems TO2 rfl (wpAny_bind (wpAny_updateSeq_pair TO2 fun g3 TO3 t3=>?_)))
  refine wpAny_bind (wpAny_letGo (wpAny_pure ?_));refine wpAny_bind (wpAny_bind (wpAny_onRaise ?_));show wpAny _ _ (Builtin.SmallTypes.nextOf (.ref i2) >>= _) _ _ _
  have st2:bE g3 i2 l2 k c2∧bK g3 l2 ys c2:=⟨h2.at fun o e=>t3.extBut _ _ D.a9.symm (t2.extBut _ _ D.a0.symm (t1.extBut _ _ D.a4 e)),q2.at fun o e=>t3.extBut _ _ m6 (t2.extBut _ _ m7 (t1.extBut _ _ m5 e))⟩
  refine wpAny_bind (D2.done _ _ _ (by rw [hk];exact st2) fun g4 e t4 he=>?_)
  obtain ⟨oe,e1,e2⟩:=he
  have z4:IsZip g4 z TI TO .ellipsis:=t4 _ _ D.a4.symm (t3.extBut _ _ D.a2.symm (t2.extBut _ _ D.a3.symm z1))
  have ez:e≠z:=fun q=>by subst q;rw [z4] at e1;cases e1;simp at e2
  exact wpAny_setField_rec z4 (by simp) fun g5 _ t5=>hE g5 e _ (fun c o d1 d2 d3 d4 q=>t5.extBut _ _ d1 (t4 _ _ d4 (t3.extBut _ _ d2 (t2.extBut _ _ d3 (t1.extBut _ _ d1 q))))) ⟨oe,t5.extBut _ _ ez e1,e2⟩
end
def Ji:Bool→String
 | true => "list_iterator"
 | false => "tuple_iterator"
abbrev zA (h:Heap) (l1:Addr) (c1:Bool):Heap:=h.push { cls:=.type (Ji c1),data:=.fields #[.ref l1,.int 0 0] }
abbrev zB (h:Heap) (l1 l2:Addr) (c1 c2:Bool):Heap:=(zA h l1 c1).push { cls:=.type (Ji c2),data:=.fields #[.ref l2,.int 0 0] }
abbrev zC (h:Heap) (l1 l2:Addr) (c1 c2:Bool):Heap:=(zB h l1 l2 c1 c2).push { cls:=.type "tuple",data:=.seq #[.ref h.objs.size,.ref (zA h l1 c1).objs.size] }
abbrev zD (h:Heap) (l1 l2:Addr) (c1 c2:Bool):Heap:=(zC h l1 l2 c1 c2).push { cls:=.type "tuple",data:=.seq #[.none,.none] }
abbrev zE (h:Heap) (l1 l2:Addr) (c1 c2:Bool):Heap:=(zD h l1 l2 c1 c2).push { cls:=.type "zip",data:=.fields #[.none,.bool false,.bool false,.ref (zB h l1 l2 c1 c2).objs.size,.ref (zC h l1 l2 c1 c2).objs.size] }
set_option maxHeartbeats 8000000 in
theorem HL (l1 l2:Addr) (xs ys:Array Value) (c1 c2:Bool) :
 Meets (Builtin.«zip.__new__» ⟨[.type "zip",.ref l1,.ref l2],[]⟩) (fun _ R s=>bK s.heap l1 xs c1∧bK s.heap l2 ys c2∧R (.ok (.ret (.ref (zD s.heap l1 l2 c1 c2).objs.size))) { s with heap:=zE s.heap l1 l2 c1 c2 }):=
 .of_wp fun prog w A R s h=>by
  obtain ⟨hp,g,d,tk,os⟩:=s;obtain ⟨q1,q2,h⟩:=h
  have hsub:=sub_zip
  have L2':bK (Shared.heap ⟨zA hp l1 c1,g,d,tk,os⟩) l2 ys c2:=bK.at q2 fun o e=>Heap.get?_push_of_some _ e
  cases c1 <;> cases c2
  ·have g1:Heap.IsTuple (Shared.heap ⟨hp,g,d,tk,os⟩) l1 xs:=q1
   have g2:Heap.IsTuple (Shared.heap ⟨hp.push { cls:=.type "tuple_iterator",data:=.fields #[.ref l1,.int 0 0] },g,d,tk,os⟩) l2 ys:=L2'
   wp_walk using wpAny_pyIter_tuple g1,wpAny_pyIter_tuple g2
   exact ⟨(),h⟩
  ·have g1:Heap.IsTuple (Shared.heap ⟨hp,g,d,tk,os⟩) l1 xs:=q1
   have g2:Heap.IsList (Shared.heap ⟨hp.push { cls:=.type "tuple_iterator",data:=.fields #[.ref l1,.int 0 0] },g,d,tk,os⟩) l2 ys:=L2'
   wp_walk using wpAny_pyIter_tuple g1,wpAny_pyIter_list g2
   exact ⟨(),h⟩
  ·have g1:Heap.IsList (Shared.heap ⟨hp,g,d,tk,os⟩) l1 xs:=q1
   have g2:Heap.IsTuple (Shared.heap ⟨hp.push { cls:=.type "list_iterator",data:=.fields #[.ref l1,.int 0 0] },g,d,tk,os⟩) l2 ys:=L2'
   wp_walk using wpAny_pyIter_list g1,wpAny_pyIter_tuple g2
   exact ⟨(),h⟩
  ·have g1:Heap.IsList (Shared.heap ⟨hp,g,d,tk,os⟩) l1 xs:=q1
   have g2:Heap.IsList (Shared.heap ⟨hp.push { cls:=.type "list_iterator",data:=.fields #[.ref l1,.int 0 0] },g,d,tk,os⟩) l2 ys:=L2'
   wp_walk using wpAny_pyIter_list g1,wpAny_pyIter_list g2
   exact ⟨(),h⟩
theorem Bk {h:Heap}{it l:Addr}:∀{c:Bool},h.get? it=some { cls:=.type (Ji c),data:=.fields #[.ref l,.int 0 0] }→bE h it l 0 c
 | true,e=>⟨_,e,rfl,rfl⟩
 | false,e=>⟨_,e,rfl,rfl⟩
section
variable {prog:Program}{w:World}{A:Around}{E:Value→Shared→Prop}{s:Shared}
theorem xW {l1 l2:Addr}{xs ys:Array Value}{c1 c2:Bool}{Q:Value→Shared→Prop} (q1:bK s.heap l1 xs c1) (q2:bK s.heap l2 ys c2)
 (h:∀h',IsZip h' (#[s]+4) (#[s]+2) (#[s]+3) .none→IsPair h' (#[s]+2) (.ref #[s]) (.ref (#[s]+1))→
  IsPair h' (#[s]+3) .none .none→bE h' #[s] l1 0 c1→bE h' (#[s]+1) l2 0 c2→
  (∀c o,s.heap.get? c=some o→h'.get? c=some o)→Q (.ref (#[s]+4)) { s with heap:=h' }) :
 wpAny (model prog w) A (call (.type "zip") [.ref l1,.ref l2]) Q E s:=by
 refine callType_new F.called_zip (by ext) (F.typeCall_zip_2 _ _) (F.newCall_zip_2 _ _) (fun obj=>F.args_object_init_3 obj _ _) F.entry_zip_new (HL l1 l2 xs ys c1 c2) ⟨q1,q2,?_⟩
 have s1:(zA s.heap l1 c1).objs.size=#[s]+1:=Heap.size_push ..
 have s2:(zB s.heap l1 l2 c1 c2).objs.size=#[s]+2:=by rw [Heap.size_push,s1]
 have s3:(zC s.heap l1 l2 c1 c2).objs.size=#[s]+3:=by rw [Heap.size_push,s2]
 have s4:(zD s.heap l1 l2 c1 c2).objs.size=#[s]+4:=by rw [Heap.size_push,s3]
 have g5:(zE s.heap l1 l2 c1 c2).get? (zD s.heap l1 l2 c1 c2).objs.size=some _:=Heap.get?_push_size _ rfl
 have g4:(zE s.heap l1 l2 c1 c2).get? (zC s.heap l1 l2 c1 c2).objs.size=some _:=Heap.get?_push_of_some _ (Heap.get?_push_size _ rfl)
 have g3:(zE s.heap l1 l2 c1 c2).get? (zB s.heap l1 l2 c1 c2).objs.size=some _:=Heap.get?_push_of_some _ (Heap.get?_push_of_some _ (Heap.get?_push_size _ rfl))
 have g2:(zE s.heap l1 l2 c1 c2).get? (zA s.heap l1 c1).objs.size=some _:=Heap.get?_push_of_some _ (Heap.get?_push_of_some _ (Heap.get?_push_of_some _ (Heap.get?_push_size _ rfl)))
 have g1:(zE s.heap l1 l2 c1 c2).get? #[s]=some _:=Heap.get?_push_of_some _ (Heap.get?_push_of_some _ (Heap.get?_push_of_some _ (Heap.get?_push_of_some _ (Heap.get?_push_size _ rfl))))
 show _∧_
 rw [s2,s3,s4] at g5
 rw [s1,s2] at g3
 rw [s3] at g4
 rw [s1] at g2
 rw [s4]
 exact ⟨⟨_,g5,rfl⟩,h _ g5 g3 g4 (Bk g1) (Bk g2) fun c o x=>Heap.get?_push_of_some _ (Heap.get?_push_of_some _ (Heap.get?_push_of_some _ (Heap.get?_push_of_some _ (Heap.get?_push_of_some _ x))))⟩
theorem qw {z TI TO i1 i2 l1 l2:Addr}{k:Nat}{xs ys:Array Value}{a b x y:Value}{c1 c2:Bool}{Q:Option Value→Shared→Prop} (D:iO z TI TO i1 i2) (n1:∀c,c=l1∨c=l2→c≠z∧c≠TO∧c≠i1∧c≠i2)
 (hz:IsZip s.heap z TI TO .none) (hTI:IsPair s.heap TI (.ref i1) (.ref i2)) (hTO:IsPair s.heap TO a b) (hh:A.handled=none)
 (h1:bE s.heap i1 l1 k c1) (h2:bE s.heap i2 l2 k c2) (q1:bK s.heap l1 xs c1) (q2:bK s.heap l2 ys c2) (hx:xs[k]?=some x) (hy:ys[k]?=some y)
 (hQ:∀h' tk,IsZip h' z TI TO (rawInt #[s])→IsPair h' TO x y→bE h' i1 l1 (k+1) c1→bE h' i2 l2 (k+1) c2→IsPair h' #[s] x y→h'.objs.size=#[s]+1→
  (∀c o,c≠z→c≠TO→c≠i1→c≠i2→s.heap.get? c=some o→h'.get? c=some o)→Q (some (.ref #[s])) { s with heap:=h',toks:=tk }) :
 wpAny (model prog w) A (pyNext (.ref z)) Q E s:=by
 have hT:s.TypeIs (.ref z) "zip" := ⟨_,hz,rfl⟩
 unfold pyNext
 exact wpAny_bind (wpAny_attempt (wpAny_callSpecial?_slot (name:=Str.ofString "__next__") hT F.slot_zip_next (wpAny_call_entry F.slot_zip_next hT F.entry_zip_next
  (Hf D n1 hz hTI hTO hh h1 h2 q1 q2 hx hy fun h' tk a1 a2 a3 a4 a5 a6 a7=>wpAny_pure (hQ h' tk a1 a2 a3 a4 a5 a6 a7)) (F.args_zip_next_1 _))))
theorem sg {z TI TO i1 i2 l1 l2:Addr}{k:Nat}{xs ys:Array Value}{a b:Value}{c1 c2:Bool}{Q:Option Value→Shared→Prop} (hh:A.handled=none) (D:iO z TI TO i1 i2) (n1:∀c,c=l1∨c=l2→c≠z∧c≠TO∧c≠i1∧c≠i2)
 (hz:IsZip s.heap z TI TO .none) (hTI:IsPair s.heap TI (.ref i1) (.ref i2)) (hTO:IsPair s.heap TO a b)
 (h1:bE s.heap i1 l1 k c1) (h2:bE s.heap i2 l2 k c2) (q1:bK s.heap l1 xs c1) (q2:bK s.heap l2 ys c2) (hend:xs.size=k∨(k<xs.size∧ys.size=k))
 (hQ:∀h' tk,(∀c o,c≠z→c≠TO→c≠i1→c≠i2→s.heap.get? c=some o→h'.get? c=some o)→Q none { s with heap:=h',toks:=tk }):wpAny (model prog w) A (pyNext (.ref z)) Q E s:=by
 have hT:s.TypeIs (.ref z) "zip" := ⟨_,hz,rfl⟩
 unfold pyNext
 refine wpAny_bind (wpAny_attempt (wpAny_callSpecial?_slot (name:=Str.ofString "__next__") hT F.slot_zip_next (wpAny_call_entry F.slot_zip_next hT F.entry_zip_next
  (Ic hh D n1 hz hTI hTO h1 h2 q1 q2 hend fun h' e tk hk he=>?_) (F.args_zip_next_1 _))))
 obtain ⟨o,ho,hc⟩:=he
 refine wpAny_bind (wpAny_isInstance (T := "StopIteration") (b:=true) ⟨o,ho,hc⟩ isSubtype_stop (wpAny_pure (hQ _ tk hk)))
end
theorem ad.turnedL {X:Cx}{pins:List (Addr×Obj)}{σ:St}{H:Hp}{s:Shared}{h':Heap}{t':Nat}{ch:List Addr} (I:ad X pins σ H s) (hf:∀b∈ch,jz X pins H b) (k:∀b u,b∉ch→s.heap.get? b=some u→h'.get? b=some u) :
 ad X pins σ H { s with heap:=h',toks:=t' }:=by
 refine I.step (g':=s.gens) (d':=s.drawn) (ch:=ch) (fun b hb=>?_) (fun b o _ _ hc e _=>k b o hc e) (fun b o _ _ hc e _=>⟨o.slots,k b o hc e⟩) (fun _ _ _ _ n=>n)
  (fun b o hc e=>⟨o,k b o hc e⟩) (fun _ _ e=>e) (fun _ _ _ e=>e) (fun b ps e=>⟨#[],by rw [e];simp⟩) (fun m hm=>?_) (fun b u e=>?_) I.bare
 ·obtain ⟨f0,f1,f2,f3,f4,f5⟩:=hf b hb
  exact ⟨f3,f1,f4,f5⟩
 ·obtain ⟨o,es,ep,ho,r⟩:=hm
  exact ⟨o,es,ep,k _ o (fun z=>(hf _ z).2.1 rfl) ho,r⟩
 ·refine (I.hok b u e).stay (fun c v hc q=>k c v (fun z=>?_) q) (fun _ q=>q) fun _ _ q=>q
  have hcn:=(hf c z).1
  rcases hc with rfl | hc
  ·rw [e] at hcn;cases hcn
  ·rw [hc] at hcn;cases hcn
def jK (K:Frag) (H:Hp) (a:Addr) (xs:List V):Bool→Prop
 | true=>aq K H a xs
 | false=>af K H a xs
theorem ad.seqC {X:Cx}{pins:List (Addr×Obj)}{σ:St}{H:Hp}{s:Shared}{a:Addr}{xs:List V} (I:ad X pins σ H s):∀{c:Bool},jK X.K H a xs c→∃its:List Value,aD xs its∧bK s.heap a its.toArray c
 | true,q=>let ⟨its,rv,p,_⟩:=I.list q;⟨its,rv,p.isList⟩
 | false,q=>let ⟨its,rv,p,_⟩:=I.tuple q;⟨its,rv,p⟩
theorem ad.seqC_inj {X:Cx}{pins:List (Addr×Obj)}{σ:St}{H:Hp}{s:Shared}{a:Addr}{xs ys:List V} (I:ad X pins σ H s):∀{c:Bool},jK X.K H a xs c→jK X.K H a ys c→xs=ys
 | true,p,q=>I.list_inj p q
 | false,p,q=>I.tuple_inj p q
def Hm (K:Frag) (a1 a2:Addr) (c1 c2:Bool):It:=
 ⟨fun i H=>pc fun xs ys x y=>jK K H a1 xs c1∧jK K H a2 ys c2∧xs[i]?=some x∧ys[i]?=some y,
  fun i H v H'=>eF fun T x y=>H T=none∧v=.ref T∧H'=aE H T (.tup [x,y])∧(∀xs,jK K H a1 xs c1→xs[i]?=some x)∧(∀ys,jK K H a2 ys c2→ys[i]?=some y),
  fun i H=>aT fun xs ys=>jK K H a1 xs c1∧jK K H a2 ys c2∧(xs.length=i∨(i<xs.length∧ys.length=i))⟩
theorem Fa {P:Program}{w:World}{K:Frag}{es:List Expr}{kk:Nat}{pos:Pos} (a1 a2 z TI TO i1 i2:Addr) (c1 c2:Bool) (D:iO z TI TO i1 i2) (n1:∀c,c=a1∨c=a2→c≠z∧c≠TO∧c≠i1∧c≠i2) :
 vR P w K (.Tuple es kk pos) (Hm K a1 a2 c1 c2) [z,TO,i1,i2,TI] z (fun i h=>IsZip h z TI TO .none∧IsPair h TI (.ref i1) (.ref i2)∧(aT fun a b=>IsPair h TO a b)∧bE h i1 a1 i c1∧bE h i2 a2 i c2) where
 mem:=by simp
 obj:=fun i h st b hb=>by
  obtain ⟨hz,hTI,⟨a,b',hTO⟩,h1,h2⟩:=st
  have hb':b=z∨b=TO∨b=i1∨b=i2∨b=TI:=by simpa using hb
  rcases hb' with rfl | rfl | rfl | rfl | rfl
  ·exact ⟨_,hz,fun v q=>by have q':Data.fields _=Data.cell v:=q;cases q'⟩
  ·exact ⟨_,hTO,fun v q=>by have q':Data.seq _ _=Data.cell v:=q;cases q'⟩
  ·exact h1.some
  ·exact h2.some
  ·exact ⟨_,hTI,fun v q=>by have q':Data.seq _ _=Data.cell v:=q;cases q'⟩
 keep:=fun i h h' st k=>by
  obtain ⟨hz,hTI,⟨a,b',hTO⟩,h1,h2⟩:=st
  exact ⟨k z (by simp) _ hz,k TI (by simp) _ hTI,⟨a,b',k TO (by simp) _ hTO⟩,h1.at fun o q=>k i1 (by simp) o q,h2.at fun o q=>k i2 (by simp) o q⟩
 item:=by
  intro X hP hw hK hc i pins s σ H E I hf st hg
  subst hP hw hK
  obtain ⟨hz,hTI,⟨a,b',hTO⟩,h1,h2⟩:=st
  obtain ⟨xs,ys,x,y,p1,p2,hx,hy⟩:=hg
  obtain ⟨its1,rv1,k1⟩:=I.seqC p1
  obtain ⟨its2,rv2,k2⟩:=I.seqC p2
  obtain ⟨u,hu,ru⟩:=rv1.get hx
  obtain ⟨v,hv,rw'⟩:=rv2.get hy
  have hnT:H #[s]=none:=I.fresh
  refine qw D n1 hz hTI hTO (I.ok.hd hc) h1 h2 k1 k2 (x:=u) (y:=v) (by simpa using hu) (by simpa using hv) fun h' tk zo TO' t1 t2 T' sz keep=>?_
  refine ⟨(),wpAny_letOwnedTupleGo_zip (s:={ s with heap:=h',toks:=tk }) zo fun h2' z2 s2=>?_⟩
  have zlt:z < #[s]:=Heap.lt_size hz
  have TOlt:TO < #[s]:=Heap.lt_size hTO
  have TIlt:TI < #[s]:=Heap.lt_size hTI
  have i1lt:i1 < #[s]:=let ⟨_,e,_⟩:=h1.some;Heap.lt_size e
  have i2lt:i2 < #[s]:=let ⟨_,e,_⟩:=h2.some;Heap.lt_size e
  have hT2:h2'.get? #[s]=some { cls:=.type "tuple",data:=.seq #[u,v] }:=(s2.2 _ (ne_of_gt zlt)).trans T'
  refine ⟨.ref #[s],aE H #[s] (.tup [x,y]),I.turnedNew (ch:=[z,TO,i1,i2,TI]) (t':=tk) hf (fun b o hb q=>?_) (le_refl _) ?_,rfl,
   ⟨_,x,y,hnT,rfl,rfl,fun zs hs=>by rw [I.seqC_inj hs p1];exact hx,fun zs hs=>by rw [I.seqC_inj hs p2];exact hy⟩,⟨z2,(s2.2 _ D.a1).trans (keep _ _ D.a1 D.a5 D.a6 D.a7 hTI),⟨_,_,(s2.2 _ D.a2).trans TO'⟩,t1.at fun o e=>(s2.2 _ D.a3).trans e,t2.at fun o e=>(s2.2 _ D.a4).trans e⟩,fun b hb=>?_⟩
  ·have e1:b≠z:=fun q=>hb (by simp [q])
   have e2:b≠TO:=fun q=>hb (by simp [q])
   have e3:b≠i1:=fun q=>hb (by simp [q])
   have e4:b≠i2:=fun q=>hb (by simp [q])
   exact (s2.2 b e1).trans (keep b o e1 e2 e3 e4 q)
  ·exact ⟨by show 2≤sizeLine;decide,[u,v],.cons ru (.cons rw' .nil),⟨_,hT2,rfl,()⟩,_,hT2,rfl⟩
  ·have hb':b=z∨b=TO∨b=i1∨b=i2∨b=TI:=by simpa using hb
   have hlt:b < #[s]:=by rcases hb' with rfl | rfl | rfl | rfl | rfl <;> assumption
   rw [aj (ne_of_lt hlt)]
   exact (hf b hb).1
 done:=by
  intro X hP hw hK hc i pins s σ H E I hf st hg
  subst hP hw hK
  obtain ⟨hz,hTI,⟨a,b',hTO⟩,h1,h2⟩:=st
  obtain ⟨xs,ys,p1,p2,hl⟩:=hg
  obtain ⟨its1,rv1,k1⟩:=I.seqC p1
  obtain ⟨its2,rv2,k2⟩:=I.seqC p2
  have l1:=rv1.length
  have l2:=rv2.length
  refine sg (I.ok.hd hc) D n1 hz hTI hTO h1 h2 k1 k2 (by simp;lia) fun h' tk keep=>⟨rfl,I.turnedL (ch:=[z,TO,i1,i2,TI]) (t':=tk) hf fun b o hb q=>?_⟩
  exact keep b o (fun q=>hb (by simp [q])) (fun q=>hb (by simp [q])) (fun q=>hb (by simp [q])) (fun q=>hb (by simp [q])) q
 self:=fun _ _ _ _ _ st h=>wpAny_pyIter_zip st.1 h
def HU (K:Frag) (ta:TA):TI:=fun σ H R=>ta σ H fun vs H1=>pc fun a1 a2 c1 c2=>vs=[.ref a1,.ref a2]∧(∃xs,jK K H1 a1 xs c1)∧(∃ys,jK K H1 a2 ys c2)∧R (Hm K a1 a2 c1 c2) H1
theorem vY:bootBuiltins "zip" = some (.type "zip"):=by nofun
theorem Hx {X:Cx}{es:List Expr}{kk:Nat}{tp:Pos}{a b:Expr}{ta:TA}{p pos:Pos} (hg:Gl X "zip") (hm:X.mg "zip" = none) (ha:PA X [a,b] ta) (hs:starEach [a,b] X.env=[(false,eval a X.env),(false,eval b X.env)]:=by rfl) (hs2:starEach [b] X.env=[(false,eval b X.env)]:=by rfl) :
 PI X (.Tuple es kk tp) (.Call (.Name "zip" p) [a,b] [] pos) (HU X.K ta):=by
 intro pins s σ H R I h
 refine Call_ (f9 I hg hm vY (PyProof.Rows.callWith_type1 (aL (ha pos pins s σ H _ I h) fun us s1 ⟨vs,H1,I1,r1,q1⟩=>?_) (by rw [hs,hs2]) (by rw [hs2];rfl)))
 obtain ⟨a1,a2,c1,c2,rfl,⟨xs,p1⟩,⟨ys,p2⟩,q⟩:=q1
 obtain ⟨u1,u2,rfl,ru1,ru2⟩:=r1.two
 obtain rfl:u1=.ref a1:=ru1
 obtain rfl:u2=.ref a2:=ru2
 obtain ⟨its1,rv1,k1⟩:=I1.seqC p1
 obtain ⟨its2,rv2,k2⟩:=I1.seqC p2
 have d1:=k1.lt
 have d2:=k2.lt
 refine xW k1 k2 fun h' hz hTI hTO t1 t2 hk=>wpAny_pyIter_zip hz ?_
 have I2:ad X pins σ H1 { s1 with heap:=h',toks:=s1.toks }:=I1.kept hk
 refine ⟨#[s1]+4,[#[s1]+4,#[s1]+3,#[s1],#[s1]+1,#[s1]+2],_,_,H1,rfl,I2,Fa a1 a2 (#[s1]+4) (#[s1]+2) (#[s1]+3) #[s1] (#[s1]+1) c1 c2
  ⟨by simp,by simp,ne_of_lt (by simp),by simp,by simp,ne_of_gt (by simp),by simp,ne_of_gt (by simp),by simp,ne_of_lt (by simp)⟩ (fun c hc=>?_),⟨hz,hTI,⟨_,_,hTO⟩,t1,t2⟩,fun b hb=>?_,q⟩
 ·have:c < #[s1]:=by rcases hc with rfl | rfl <;> assumption
  exact ⟨ne_of_lt (lt_of_lt_of_le this (le_add_right _ _)),ne_of_lt (lt_of_lt_of_le this (le_add_right _ _)),ne_of_lt this,ne_of_lt (lt_of_lt_of_le this (le_add_right _ _))⟩
 ·have hb':b=#[s1]+4∨b=#[s1]+3∨b=#[s1]∨b=#[s1]+1∨b=#[s1]+2:=by simpa using hb
  have hle:#[s1]≤b:=by rcases hb' with rfl | rfl | rfl | rfl | rfl <;> lia
  exact I1.fpOk hle (I1.hok.fresh hle)
section
variable {X:Cx}{K:Frag}
end
def Sz (m:Nat) (i:Int):Prop:=i.natAbs<2 ^ m
theorem Sz.mono {m n:Nat}{i:Int} (h:Sz m i) (k:m≤n):Sz n i:=lt_of_lt_of_le h (Nat.pow_le_pow_right (by ext) k)
theorem Sz.mul {m n:Nat}{i j:Int} (h:Sz m i) (k:Sz n j):Sz (m+n) (i*j):=by
 unfold Sz at *
 rw [natAbs_mul,Nat.pow_add]
 exact Nat.mul_lt_mul'' h k
theorem Sz.neg {m:Nat}{i:Int} (h:Sz m i):Sz m (-i):=by
 unfold Sz at *
 lia
theorem Sz.le {m:Nat}{i j:Int} (h:Sz m j) (k:i.natAbs≤j.natAbs):Sz m i:=Nat.lt_of_le_of_lt k h
theorem Sz.log {m:Nat}{i:Int} (h:Sz m i) (h0:i≠0):i.natAbs.log2<m:=(log2_lt (by lia)).mpr h
theorem Sz.bits {m:Nat}{i:Int} (h:Sz m i):Builtin.Int.intBits i≤m:=by
 unfold Builtin.Int.intBits
 by_cases h0:i=0
 ·subst h0;exact zero_le _
 ·have:=h.log h0
  rw [if_neg (by simpa using h0)]
  lia
def FD (i j:Int):Prop:=aT fun m n=>Sz m i∧Sz n j∧m+n≤134217728
section
variable {X:Cx}
theorem eX:cn X (binaryOp .Mult) (rI FD fun i j=>.int (i*j)):=yA fun _ _ _ _ _ _ _ hc q=>by
 obtain ⟨m,n,h1,h2,h3⟩:=hc
 exact mul_int q (PyProof.Rows.mulOk_of_bits h1.bits h2.bits h3)
def Ci (_ j:Int):Prop:=j≠0∧Sz 9000 j
theorem zT:cn X (binaryOp .FloorDiv) (rI Ci fun i j=>.int (i.fdiv j)):=yA fun i j _ _ _ _ _ hc q=>
 floordiv_int hc.1 q (.inl (PyProof.noPylong_of_log2 (hc.2.log hc.1)))
end
theorem dC {H H':Hp}{D:Addr}{o:HO} (hD:H D=none) (k:ag H H'):ag H (aE H' D o):=fun b u e=>by
 rw [aj (aS e hD)];exact k b u e
theorem aK.free {b p:Addr}{H H9:Hp}{t9:Int} (s:aK (Eb b) H H9) (B:Bx H9 b t9) (h:H9 p=none):H p=none:=by
 cases e:H p with
 | none=>rfl
 | some o=>
  by_cases hb:p=b
  ·obtain ⟨c,x,eb,_⟩:=B
   rw [←hb,h] at eb;cases eb
  ·rw [s.old p o hb e] at h;cases h
mutual
theorem aU.narrow {E F:Addr→Prop}{H:Hp} (k:∀a,F a→E a):∀{v:V}{d:PyData},aU E H v d→aU F H v d
 | _,_,.non=>.non
 | _,_,.bl b=>.bl b
 | _,_,.int i=>.int i
 | _,_,.str x=>.str x
 | _,_,.lst h ne r=>.lst h (fun z=>ne (k _ z)) (ay.narrow k r)
 | _,_,.tup h r=>.tup h (ay.narrow k r)
theorem ay.narrow {E F:Addr→Prop}{H:Hp} (k:∀a,F a→E a):∀{vs:List V}{ds:List PyData},ay E H vs ds→ay F H vs ds
 | _,_,.nil=>.nil
 | _,_,.cons h r=>.cons (aU.narrow k h) (ay.narrow k r)
end
theorem uD {x:V}{A B:Prop} (h:B):if (!decide (x=x))=true then A else B:=by rw [decide_eq_true rfl];exact aX h
abbrev fr (z:Int×Int):HO:=.tup [.int z.1,.int z.2]
abbrev LD (n1 _ n2 _:Int):Int:=n1*n2
abbrev Mf (n1 _ _ d2:Int):Int:=n1*d2
abbrev L8 (_ d1 _ d2:Int):Int:=d1*d2
abbrev LH (_ d1 n2 _:Int):Int:=d1*n2
def rJ (i j:Int):Int:=if i<j then -1 else if j<i then 1 else 0
inductive HC (vs:List V) (H:Hp) (Q:VK):Prop
 | mk (a b:Addr) (n1 d1 n2 d2:Int) (h0:vs=[.ref a,.ref b]) (h1:H a=some (.tup [.int n1,.int d1])) (h2:H b=some (.tup [.int n2,.int d2])) (h3:Sz 4000 n1) (h4:Sz 4000 d1) (h5:Sz 4000 n2) (h6:Sz 4000 d2) (h7:Q (.int (rJ (n1*d2) (n2*d1))) H)
def KY:Sp:=fun vs H Q _=>HC  vs H Q
theorem mm {i j:Int} (h1:Sz 4000 i) (h2:Sz 4000 j):FD i j:=⟨4000,4000,h1,h2,by ext⟩
theorem y4 {i j:Int} (h1:Sz 4000 i) (h2:Sz 4000 j):Sz 9000 (i*j):=(h1.mul h2).mono (by ext)
theorem LA {n d:Int} (hd:d≠0) (h:Sz 9000 d):Sz 9000 ((Int.gcd n d:Nat):Int):=h.le (by
 rw [Int.natAbs_natCast]
 exact Nat.le_of_dvd (by lia) (Int.ofNat_dvd_left.mp (gcd_dvd_right ..)))
structure Fb (b:Nat) (n d:Int):Prop where
 sn:Sz b n
 sd:Sz b d
 pos:1≤d
 co:Int.gcd n d=1
theorem Fb.low {b:Nat}{n d:Int} (h1:Sz b n) (h2:Sz b d) (hd:d≠0):Fb b (KM.low n d).1 (KM.low n d).2:=by
 obtain ⟨a,_,c,e,f⟩:=KM.low_spec n d hd
 exact ⟨h1.le e,h2.le f,a,c⟩
structure Nw (H:Hp) (p:Addr) (o:HO) (H':Hp):Prop where
 fr:H p=none
 sm:ag H H'
 at':H' p=some o
theorem Nw.mk' {H:Hp}{p:Addr}{o:HO} (h:H p=none):Nw H p o (aE H p o):=⟨h,ag.new h,ao⟩
section
variable {X:Cx}{es:List Expr}{t:TA}{pos:Pos}{K:Frag}
def KG (t:TA):TE:=fun σ H Q=>t σ H fun xs H1=>xs.length≤10000∧∀p H',Nw H1 p (.tup xs) H'→Q (.ref p) H'
def KF (t:TA):TE:=fun σ H Q=>t σ H fun xs H1=>xs.length≤10000∧∀p H',Nw H1 p (.lst xs) H'→Q (.ref p) H'
theorem gE {n:Nat} (h:n≤10000):n≤sizeLine:=by rw [sizeLine_eq];lia
theorem ar {x1} (h:PA X es t):PE X (.Tuple es x1 pos) (KG t):=by
 intro pins s σ H Q I hq
 refine wpAny_Tuple_spliced (aL (h pos pins s σ H _ I hq) fun us s1 ⟨xs,H1,I1,r,z',q⟩=>⟨by rw [←r.length];exact gE z',?_⟩)
 have z:=gE z'
 have hf:H1 #[s1]=none:=I1.hok.fresh (le_refl _)
 refine ⟨.ref #[s1],aE H1 #[s1] (.tup xs),I1.laid (t':=s1.toks) (fun b u e=>Heap.get?_push_of_some _ e) (le_refl _) ?_,rfl,q _ _ (.mk' hf)⟩
 exact ⟨z,us,r,⟨_,Heap.get?_push_size _ rfl,rfl,()⟩,_,Heap.get?_push_size _ rfl,rfl⟩
theorem cP (h:PA X es t):PE X (.List es pos) (KF t):=by
 intro pins s σ H Q I hq
 refine wpAny_List_spliced (aL (h pos pins s σ H _ I hq) fun us s1 ⟨xs,H1,I1,r,z',q⟩=>⟨by rw [←r.length];exact gE z',?_⟩)
 have z:=gE z'
 have hf:H1 #[s1]=none:=I1.hok.fresh (le_refl _)
 refine ⟨.ref #[s1],aE H1 #[s1] (.lst xs),I1.laid (t':=s1.toks) (fun b u e=>Heap.get?_push_of_some _ e) (le_refl _) ?_,rfl,q _ _ (.mk' hf)⟩
 exact ⟨z,us,0,r,Heap.get?_push_size _ rfl⟩
inductive IP (x:V) (y:V) (H:Hp) (Q:VK):Prop
 | mk (l:_) (b:_) (xs:_) (zs:_) (h0:x=.ref l) (h1:y=.ref b) (h2:H l=some (.lst xs)) (h3:H b=some (.lst zs)) (h4:xs.length+zs.length≤10000) (h5:∀p H',Nw H p (.lst (xs++zs)) H'→Q (.ref p) H')
def JN:R2:=fun x y H Q=>IP  x y H Q
theorem A4:cn X (binaryOp .Add) JN:=fun pins s σ H x y v u Q I rx ry ⟨l,b,xs,zs,e1,e2,h1,h2,hz,q⟩=>
 HK pins s σ H x y v u Q I rx ry ⟨l,b,xs,zs,e1,e2,h1,h2,gE hz,fun p hp=>q p _ (.mk' hp)⟩
inductive Kx (K:Frag) (x:V) (lo:Option Int) (hi:Option Int) (H:Hp) (Q:VK):Prop
 | mk (a:_) (xs:_) (h0:x=.ref a) (h1:aq K H a xs) (h2:∀p H',Nw H p (.lst (dW xs lo hi)) H'→Q (.ref p) H')
def LV (K:Frag):V→Option Int→Option Int→Hp→VK→Prop:=fun x lo hi H Q=>Kx K x lo hi H Q
theorem nG (e:X.K=K:=by rfl):DF X (LV K):=by
 subst e
 exact fun pins s σ H x v vl vu lo hi sl Q I rx hs pl pu ⟨a,xs,e,h,q⟩=>xz pins s σ H x v vl vu lo hi sl Q I rx hs pl pu ⟨a,xs,e,h,fun p hp=>q p _ (.mk' hp)⟩
inductive Jo (x:V) (y:V) (H:Hp) (Q:VK):Prop
 | mk (l:_) (k:_) (xs:_) (h0:x=.ref l) (h1:y=.int k) (h2:H l=some (.lst xs)) (h3:-(2 ^ 63)≤k) (h4:k<2 ^ 63) (h5:xs.length*k.toNat≤10000) (h6:∀p H',Nw H p (.lst (replicate k.toNat xs).flatten) H'→Q (.ref p) H')
def JC:R2:=fun x y H Q=>Jo  x y H Q
theorem F6:cn X (binaryOp .Mult) JC:=fun pins s σ H x y v u Q I rx ry ⟨l,k,xs,e1,e2,h1,h2,h3,hz,q⟩=>
 Js pins s σ H x y v u Q I rx ry ⟨l,k,xs,e1,e2,h1,h2,h3,gE hz,fun p hp=>q p _ (.mk' hp)⟩
inductive GJ (K:Frag) (xs:List V) (H:Hp) (Q:VK):Prop
 | mk (p:_) (ys:_) (h0:xs=[.ref p]) (h1:(aq K H p ys∨af K H p ys)) (h2:∀l H',Nw H l (.lst ys) H'→Q (.ref l) H')
def Jf (K:Frag):List V→Hp→VK→Prop:=fun xs H Q=>GJ K xs H Q
theorem yN (e:X.K=K:=by rfl):cy X (.type "list") (Jf K):=by
 subst e
 exact fun pins s σ H xs us Q I r ⟨p,ys,e,h,q⟩=>tw pins s σ H xs us Q I r ⟨p,ys,e,h,fun l hl=>q l _ (.mk' hl)⟩
inductive Ev (K:Frag) (xs:List V) (H:Hp) (Q:VK):Prop
 | mk (p:_) (ys:_) (h0:xs=[.ref p]) (h1:aq K H p ys) (h2:∀l H',Nw H l (.tup ys) H'→Q (.ref l) H')
def Gf (K:Frag):List V→Hp→VK→Prop:=fun xs H Q=>Ev K xs H Q
theorem iZ (e:X.K=K:=by rfl):cy X (.type "tuple") (Gf K):=by
 subst e
 exact fun pins s σ H xs us Q I r ⟨p,ys,e,h,q⟩=>yS pins s σ H xs us Q I r ⟨p,ys,e,.inl ⟨h,fun l hl=>q l _ (.mk' hl)⟩⟩
end
structure Ch (H:Hp) (p:Addr) (xs:List V) (H':Hp):Prop where
 at':H' p=some (.lst xs)
 ol:∀a o,a≠p→H a=some o→H' a=some o
 fre:∀a,a≠p→H a=none→H' a=none
theorem Ch.mk' {H:Hp}{p:Addr}{xs:List V}:Ch H p xs (aE H p (.lst xs)):=⟨ao,fun a o n h=>by rw [aj n];exact h,fun a n h=>by rw [aj n];exact h⟩
theorem Ch.tup {H H':Hp}{p a:Addr}{xs ys zs:List V} (c:Ch H p xs H') (h:H a=some (.tup ys)) (hp:H p=some (.lst zs)):H' a=some (.tup ys):=c.ol a _ (Fx h hp (by intro z;cases z)) h
section
variable {X:Cx}
inductive IB (x:V) (vs:List V) (H:Hp) (Q:VK):Prop
 | mk (l:_) (xs:_) (y:_) (h0:x=.ref l) (h1:vs=[y]) (h2:H l=some (.lst xs)) (h3:xs.length≤10000) (h4:∀H',Ch H l (xs++[y]) H'→Q .non H')
def Kv:V→List V→Hp→VK→Prop:=fun x vs H Q=>IB  x vs H Q
theorem gI:FA X "list.append" Kv:=fun pins s σ H x vs v us Q I rx rv ⟨l,xs,y,e1,e2,h,hz,q⟩=>xU pins s σ H x vs v us Q I rx rv ⟨l,xs,y,e1,e2,h,(by rw [sizeLine_eq];lia),q _ .mk'⟩
end
inductive GF (vs:List V) (H:Hp) (Q:VK):Prop
 | mk (n d:Int) (h0:vs=[.int n,.int d]) (h1:d≠0) (h2:Sz 9000 d) (h3:∀p H',Nw H p (fr (KM.low n d)) H'→Q (.ref p) H')
def HP:Sp:=fun vs H Q _=>GF  vs H Q
inductive Gi (num den:Int→Int→Int→Int→Int) (vs:List V) (H:Hp) (Q:VK):Prop
 | mk (a b:Addr) (n1 d1 n2 d2:Int) (h0:vs=[.ref a,.ref b]) (h1:H a=some (.tup [.int n1,.int d1])) (h2:H b=some (.tup [.int n2,.int d2])) (h3:(Sz 4000 n1∧Sz 4000 d1∧Sz 4000 n2∧Sz 4000 d2∧den n1 d1 n2 d2≠0)) (h4:∀p H',Nw H p (fr (KM.low (num n1 d1 n2 d2) (den n1 d1 n2 d2))) H'→Q (.ref p) H')
def C9 (num den:Int→Int→Int→Int→Int):Sp:=fun vs H Q _=>Gi num den vs H Q
theorem Fb.small {b:Nat}{n d:Int} (h1:n.natAbs<2 ^ b) (h2:d.natAbs<2 ^ b) (h3:1≤d) (h4:Int.gcd n d=1):Fb b n d:=⟨h1,h2,h3,h4⟩
theorem Bx.ch {H H':Hp}{b p:Addr}{t:Int}{xs:List V} (h:Bx H b t) (k:Ch H p xs H') (ne:b≠p):Bx H' b t:=by
 obtain ⟨c,x,e,q,q2,q3⟩:=h
 exact ⟨c,x,k.ol b _ ne e,q,q2,q3⟩
theorem Bx.ne {H:Hp}{b p:Addr}{t:Int} (h:Bx H b t) (hp:H p=none):b≠p:=fun z=>by
 obtain ⟨c,x,e,_⟩:=h
 rw [z,hp] at e;cases e
section
variable {X:Cx}{e:Expr}{te:TE}{st:Expr}{ts:TO}{p2 pos:Pos}{K:Frag}
inductive IH (x:V) (vs:List V) (H:Hp) (Q:VK):Prop
 | mk (l:_) (xs:_) (k:_) (y:_) (h0:x=.ref l) (h1:vs=[.int k,y]) (h2:H l=some (.lst xs)) (h3:0≤k) (h4:k≤xs.length) (h5:xs.length≤10000) (h6:∀H',Ch H l (xs.take k.toNat++y :: xs.drop k.toNat) H'→Q .non H')
def Kq:V→List V→Hp→VK→Prop:=fun x vs H Q=>IH  x vs H Q
theorem Cb:FA X "list.insert" Kq:=by
 intro pins s σ H x vs v us Q I rx rv h
 obtain ⟨l,xs,k,y,rfl,rfl,hH,h0,h1,hz,q⟩:=h
 cases rx
 obtain ⟨u1,u2,rfl,r1,r2⟩:=rv.two
 obtain ⟨t1,rfl⟩:=r1
 obtain ⟨z,its,n,r,hl,e⟩:=I.lstM hH
 have hf:Builtin.List.listFitsIndex k=true:=by
  unfold Builtin.List.listFitsIndex
  simp
  lia
 refine call_meets F.slot_list_insert ⟨_,e,rfl⟩ F.entry_list_insert (F.args_list_insert_3 _ _ _) (AutoSeq1.list_insert_list_int_val_1 l its.toArray n k t1 u2 (by simp [hf]) (by rw [size_toArray];lia)) ⟨e,?_⟩
 refine ⟨.non,_,I.lset (its':=its.take k.toNat++u2 :: its.drop k.toNat) hH e ?_ ((r.take k.toNat).append (.cons r2 (r.drop k.toNat))) ?_,rfl,q _ .mk'⟩
 ·have hk:¬k<0:=by lia
  have hm:min k.toNat its.length=k.toNat:=by lia
  simp only [if_neg hk,size_toArray,hm]
  apply Array.ext'
  simp
  exact take_of_length_le (by rw [length_drop];lia)
 ·rw [length_append,length_cons,length_take,length_drop,sizeLine_eq]
  lia
end
def S (l:List Nat):Str:=⟨l.toArray⟩
theorem rX {a b:List Nat} (h:S a=S b):a=b:=by
 have:a.toArray=b.toArray:=by injection h
 simpa using this
theorem Bm (a b:List Nat):S a++S b=S (a++b):=by
 show (⟨a.toArray++b.toArray⟩:Str)=⟨(a++b).toArray⟩
 simp
theorem zb (a:List Nat):(S a).length=a.length:=by
 show a.toArray.size=_
 simp
theorem Iw (a:List Nat):(S a).cps.toList=a:=rfl
theorem Dd (k:Nat) (l:List Nat):∀acc:List Nat,(replicate k l.toArray).foldl (·++·) acc.toArray=(acc++(replicate k l).flatten).toArray:=by
 induction k with
 | zero=>intro acc;simp
 | succ k ih=>
  intro acc
  rw [replicate_succ,List.foldl_cons,replicate_succ,flatten_cons]
  have:acc.toArray++l.toArray=(acc++l).toArray:=by simp
  rw [this,ih,List.append_assoc]
theorem x4:∀ls:List (List Nat),Str.join (S []) (ls.map S)=S ls.flatten
 | []=>rfl
 | [a]=>by
  show S a=S (a++[])
  rw [append_nil]
 | a :: b :: r=>by
  have e:Str.join (S []) ((a :: b :: r).map S)=S a++S []++Str.join (S []) ((b :: r).map S):=rfl
  rw [e,x4 (b :: r),Bm,Bm,append_nil]
  rfl
section
variable {X:Cx}{K:Frag}
inductive Im (x:V) (y:V) (H:Hp) (Q:VK):Prop
 | mk (l:_) (n:_) (h0:x=.str (S l)) (h1:y=.int n) (h2:1≤n) (h3:n≤1000) (h4:l.length≤100) (h5:Q (.str (S (replicate n.toNat l).flatten)) H)
def JB:R2:=fun x y H Q=>Im  x y H Q
theorem A3:cn X (binaryOp .Mult) JB:=by
 intro pins s σ H x y v u Q I rx ry h
 obtain ⟨l,n,rfl,rfl,h1,h2,h3,q⟩:=h
 obtain ⟨t,rfl⟩:=rx
 obtain ⟨t',rfl⟩:=ry
 have hlen:(S l).length=l.length:=zb l
 have hmul:l.length*n.toNat≤100*1000:=Nat.mul_le_mul h3 (by lia)
 refine PySem.P.mul_str ?_ ?_ ?_ ?_
 ·rw [decide_eq_false (by lia),decide_eq_false (by lia)];rfl
 ·intro _ _
  rw [hlen]
  have:(100:Int)<(2 ^ 63 - 1) / n:=by
   have:(100+1)*n≤2 ^ 63 - 1:=by lia
   have:=(Int.le_ediv_iff_mul_le (by lia:0<n)).mpr this
   lia
  lia
 ·intro _ _
  rw [hlen]
  unfold Builtin.Str.tooLong
  rw [decide_eq_false]
  rw [sizeLine_eq]
  lia
 ·rw [if_neg (by lia)]
  by_cases hn:(n==1 || (S l).length==0)=true
  ·rw [if_pos hn]
   refine ⟨.str (S l),H,I,⟨t,rfl⟩,?_⟩
   have e:(replicate n.toNat l).flatten=l:=by
    rw [hlen] at hn
    have hn':n=1∨l.length=0:=by simpa using hn
    rcases hn' with rfl | hn'
    ·simp
    ·have:l=[]:=List.eq_nil_of_length_eq_zero hn'
     subst this
     simp
   rw [e] at q
   exact q
  ·rw [if_neg hn]
   have e:(⟨(replicate n.toNat (S l).cps).foldl (·++·) #[]⟩:Str)=S (replicate n.toNat l).flatten:=by
    have e:=Dd n.toNat l []
    rw [nil_append] at e
    exact congrArg Str.mk e
   rw [e]
   refine ⟨?_,.str (S (replicate n.toNat l).flatten),H,I.tok _,⟨()⟩,q⟩
   rw [zb,A6,sizeLine_eq,Nat.mul_comm]
   lia
inductive IX (K:Frag) (x:V) (vs:List V) (H:Hp) (Q:VK):Prop
 | mk (a:_) (ls:_) (h0:x=.str (S [])) (h1:vs=[.ref a]) (h2:aq K H a ((ls:List (List Nat)).map fun l=>V.str (S l))) (h3:(ls.map (·.length)).sum≤10000) (h4:Q (.str (S ls.flatten)) H)
def JV (K:Frag):V→List V→Hp→VK→Prop:=fun x vs H Q=>IX K x vs H Q
theorem DY {ls:List (List Nat)}:∀{us:List Value},aD (ls.map fun l=>V.str (S l)) us→StrsAre us (ls.map S):=by
 induction ls with
 | nil=>intro us h;cases h;exact .nil
 | cons l r ih=>
  intro us h
  cases h with
  | cons h t=>
   obtain ⟨tk,rfl⟩:=h
   exact .cons _ _ (ih t)
theorem G9 (ek:X.K=K:=by rfl):FG X "str.join" (JV K):=by
 subst ek
 intro pins s σ H x vs v us Q I rx rv h
 obtain ⟨a,ls,rfl,rfl,hS,hz,q⟩:=h
 obtain ⟨t,rfl⟩:=rx
 obtain ⟨u,rfl,ru⟩:=rv.one
 obtain rfl:u=Value.ref a:=ru
 obtain ⟨its,r,ht,_⟩:=I.list hS
 have e1:((ls.map S).map (·.length)).sum=(ls.map (·.length)).sum:=by
  rw [map_map]
  congr 1
 refine join_list (ys:=ls.map S) ht.isList (by simpa using DY r) ?_ fun t' k=>?_
 ·rw [e1,show (S []).length=0 from rfl]
  lia
 ·have:=join_plain_closes (S []) (ls.map S)
  rw [eq_of_beq this,x4]
  exact ⟨.str (S ls.flatten),H,I.tok k,⟨()⟩,q⟩
inductive IF (x:V) (y:V) (H:Hp) (Q:VK):Prop
 | mk (a:_) (b:_) (h0:x=.str (S a)) (h1:y=.str (S b)) (h2:a.length+b.length≤10000) (h3:Q (.str (S (a++b))) H)
def KN:R2:=fun x y H Q=>IF  x y H Q
theorem Bc:cn X (binaryOp .Add) KN:=fun pins s σ H x y v u Q I rx ry ⟨a,b,e1,e2,hz,q⟩=>
 BU pins s σ H x y v u Q I rx ry ⟨S a,S b,e1,e2,by rw [zb,zb];exact gE hz,by rw [Bm];exact q⟩
end
theorem BQ:Str.ofString "abcdefghijklmnopqrstuvwxyz" = S ((List.range 26).map (97+·)):=by nofun
theorem EZ:Str.ofString "" = S []:=by nofun
theorem yy {i:Int} (h0:-26≤i) (h1:i<26):gB ((Str.ofString "abcdefghijklmnopqrstuvwxyz").cps.toList) i=some (97+(i % 26).toNat):=by
 rw [BQ,Iw]
 have:∀k:Fin 52,gB ((List.range 26).map (97+·)) ((k.val:Int) - 26)=some (97+(((k.val:Int) - 26) % 26).toNat):=by nofun
 have e:=this ⟨(i+26).toNat,by lia⟩
 simp only at e
 rw [show (((i+26).toNat:Nat):Int) - 26=i by lia] at e
 exact e
theorem Je {f:Int}{j k:Nat} (hj:j<26) (hk:k<26) (h:(f+11*(j:Int)) % 26=(f+11*(k:Int)) % 26):j=k:=by lia
structure y6 (l:List Nat):Prop where
 lo:1≤l.length
 hi:l.length≤8
 az:∀c∈l,97≤c∧c≤122
abbrev au (l:List Nat):V:=.str (S l)
def nm (c k:Nat):List Nat:=replicate (1+k) c
theorem Es (n c:Nat):(replicate n [c]).flatten=replicate n c:=by
 induction n with
 | zero=>rfl
 | succ n ih=>rw [replicate_succ,flatten_cons,ih,replicate_succ];rfl
theorem JF {c k:Nat} (hk:k<8) (h1:97≤c) (h2:c≤122):y6 (nm c k):=⟨by simp [nm],by simp [nm];lia,fun d hd=>by
 have:=List.eq_of_mem_replicate hd
 lia⟩
theorem o7 {xs:List V}{m:Int} (h:0≤m):dW xs none (some m)=xs.take m.toNat:=by
 unfold dW
 have e:m=((m.toNat:Nat):Int):=by lia
 rw [HT.sIx_none,e,HT.sIx_nat]
 simp only [toNat_natCast,drop_zero,Nat.sub_zero]
 by_cases hm:m.toNat≤xs.length
 ·rw [Nat.min_eq_left hm]
 ·rw [Nat.min_eq_right (by lia),take_of_length_le (le_refl _),take_of_length_le (by lia)]
theorem AC {ls:List (List Nat)}{f:Int} (hl:ls.length≤26) (h:∀(j:Nat) (l:List Nat),ls[j]?=some l→l.head?=some (97+((f+11*(j:Int)) % 26).toNat)):ls.Nodup:=by
 rw [nodup_iff_pairwise_ne,List.pairwise_iff_getElem]
 intro i j hi hj hij e
 have h1:=h i ls[i] (getElem?_eq_getElem hi)
 have h2:=h j ls[j] (getElem?_eq_getElem hj)
 rw [e,h2] at h1
 injection h1 with h1
 have a1:=emod_nonneg (f+11*(i:Int)) (by decide:(26:Int)≠0)
 have a2:=emod_nonneg (f+11*(j:Int)) (by decide:(26:Int)≠0)
 have:=Je (f:=f) (j:=i) (k:=j) (by lia) (by lia) (by lia)
 lia
theorem aK.ch {b D:Addr}{H H1 H2:Hp}{xs:List V} (s:aK (Eb b) H H1) (c:Ch H1 D xs H2) (hD:H D=none):aK (Eb b) H H2:=
 ⟨fun a u ne h=>c.ol a u (aS h hD) (s.old a u ne h),fun a us h=>c.ol a _ (aS h hD) (s.tup a us h)⟩
theorem aK.up {b D:Addr}{H H1:Hp}{o:HO} (s:aK (Eb b) H H1) (hD:H D=none):aK (Eb b) H (aE H1 D o):=
 ⟨fun a u ne h=>by rw [aj (aS h hD)];exact s.old a u ne h,fun a us h=>by rw [aj (aS h hD)];exact s.tup a us h⟩
def LY (x:Str):Prop:=x.length≤300∧∀c∈x.cps.toList,c<128
mutual
inductive Wt:PyData→Nat→Nat→Prop
 | non {k:Nat}:Wt .none 1 k
 | bl (b:Bool) {k:Nat}:Wt (.bool b) 1 k
 | int {i:Int} (h:Sz 1900 i) {k:Nat}:Wt (.int i) 1 k
 | str {x:Str} (h:LY x) {k:Nat}:Wt (.str x) 1 k
 | list {xs:List PyData}{n k:Nat} (h:mD xs n k):Wt (.list xs) (n+1) (k+1)
 | tuple {xs:List PyData}{n k:Nat} (h:mD xs n k):Wt (.tuple xs) (n+1) (k+1)
inductive mD:List PyData→Nat→Nat→Prop
 | nil {k:Nat}:mD [] 0 k
 | cons {x:PyData}{xs:List PyData}{m n k:Nat} (h:Wt x m k) (r:mD xs n k):mD (x :: xs) (m+n) k
end
mutual
theorem Wt.dep:∀{d:PyData}{n k:Nat},Wt d n k→d.depth≤k
 | _,_,_,.non=>by simp [PyData.depth]
 | _,_,_,.bl b=>by simp [PyData.depth]
 | _,_,_,.int h=>by simp [PyData.depth]
 | _,_,_,.str h=>by simp [PyData.depth]
 | _,_,_,.list h=>by simp only [PyData.depth];exact Nat.succ_le_succ (mD.dep h)
 | _,_,_,.tuple h=>by simp only [PyData.depth];exact Nat.succ_le_succ (mD.dep h)
theorem mD.dep:∀{ds:List PyData}{n k:Nat},mD ds n k→PyData.depthAll ds≤k
 | _,_,_,.nil=>by simp [PyData.depthAll]
 | _,_,_,.cons h r=>by simp only [PyData.depthAll];exact Nat.max_le.mpr ⟨Wt.dep h,mD.dep r⟩
end
end L2
namespace L2
open PySem PySem.Spec PyProof.Rows
mutual
theorem Wt.can:∀{d:PyData}{n k:Nat},Wt d n k→d.canLay0=true
 | _,_,_,.non=>by simp [PyData.canLay0]
 | _,_,_,.bl b=>by simp [PyData.canLay0]
 | _,_,_,.int h=>by simp [PyData.canLay0]
 | _,_,_,.str (x:=x) h=>by
  simp only [PyData.canLay0]
  unfold PySem.PyData.strOk
  rw [Array.all_eq_true]
  intro i hi
  have:=h.2 x.cps[i] (by simp)
  simp
  lia
 | _,_,_,.list h=>by simp only [PyData.canLay0];exact mD.can h
 | _,_,_,.tuple h=>by simp only [PyData.canLay0];exact mD.can h
theorem mD.can:∀{ds:List PyData}{n k:Nat},mD ds n k→PyData.canLayAll0 ds=true
 | _,_,_,.nil=>by simp [PyData.canLayAll0]
 | _,_,_,.cons h r=>by simp only [PyData.canLayAll0,Bool.and_eq_true];exact ⟨Wt.can h,mD.can r⟩
end
section
variable {X:Cx}
inductive KP (ne:Bool) (x:V) (y:V) (H:Hp) (Q:VK):Prop
 | mk (d e:PyData) (E F:Addr→Prop) (m n k l:Nat) (h0:aU E H x d) (h1:aU F H y e) (h2:Wt d m k) (h3:Wt e n l) (h4:k≤60) (h5:Q (.bl (if ne then !PyData.eqv d e else PyData.eqv d e)) H)
def HI (ne:Bool):R2:=fun x y H Q=>KP ne x y H Q
theorem Dg (hu:X.A.units+64<cLine):cn X (compareOp .Eq) (HI false):=by
 intro pins s σ H x y v u Q I rx ry h
 obtain ⟨d,e,E,F,m,n,k,l,hd,he,wd,we,hk,q⟩:=h
 obtain ⟨as,ra⟩:=hd.reads I.hok rx
 obtain ⟨bs,rb⟩:=he.reads I.hok ry
 exact PySem.SeqAt.compareEq_reads ra rb wd.can we.can (by have:=wd.dep;lia) ⟨.bl _,H,I,rfl,q⟩
theorem Dq (hu:X.A.units+64<cLine):cn X (compareOp .NotEq) (HI true):=by
 intro pins s σ H x y v u Q I rx ry h
 obtain ⟨d,e,E,F,m,n,k,l,hd,he,wd,we,hk,q⟩:=h
 obtain ⟨as,ra⟩:=hd.reads I.hok rx
 obtain ⟨bs,rb⟩:=he.reads I.hok ry
 exact PySem.SeqAt.compareNe_reads ra rb wd.can we.can (by have:=wd.dep;lia) ⟨.bl _,H,I,rfl,q⟩
end
abbrev ED:Addr→Prop:=fun _=>True
abbrev gh (p:KM.Fra):PyData:=.tuple [.int p.1,.int p.2]
structure aa where
 bg:List Nat
 en:List Nat
 most:KM.Fra
 gain:KM.Fra
 price:KM.Fra
abbrev jD (t:aa):PyData:=.tuple [.str (S t.bg),.str (S t.en),gh t.most,gh t.gain,gh t.price]
abbrev bX (ls:List (List Nat)) (ts:List aa):PyData:=.tuple [.tuple (ls.map fun l=>.str (S l)),.tuple (ts.map jD)]
theorem i8 {H:Hp}{o:Addr}{p:KM.Fra} (h:H o=some (.tup [.int p.1,.int p.2])):aU ED H (.ref o) (gh p):=.tup h (.cons (.int _) (.cons (.int _) .nil))
theorem uJ {E:Addr→Prop}{H:Hp}{v:V}{p:KM.Fra} (h:aU E H v (gh p)):∃o,v=.ref o∧H o=some (.tup [.int p.1,.int p.2]):=by
 cases h with
 | @tup a xs _ h r=>
  cases r with
  | cons h1 r=>
  cases r with
  | cons h2 r=>
  cases r
  cases h1
  cases h2
  exact ⟨a,rfl,h⟩
theorem aU.tupS {E F:Addr→Prop}{H H':Hp}{v:V}{d:PyData} (h:aU ED H v d) (k:aK E H H'):aU ED H' v d:=h.mono ⟨fun _ _ n _=>absurd trivial n,k.tup⟩
theorem ay.tupS {E:Addr→Prop}{H H':Hp}{v:List V}{d:List PyData} (h:ay ED H v d) (k:aK E H H'):ay ED H' v d:=h.mono ⟨fun _ _ n _=>absurd trivial n,k.tup⟩
theorem aU.tupC {H H':Hp}{v:V}{d:PyData}{p:Addr}{xs ys:List V} (h:aU ED H v d) (k:Ch H p xs H') (hp:H p=some (.lst ys)):aU ED H' v d:=h.mono ⟨fun _ _ n _=>absurd trivial n,fun _ _ e=>k.tup e hp⟩
theorem aU.sm {E:Addr→Prop}{H H':Hp}{v:V}{d:PyData} (h:aU E H v d) (k:ag H H'):aU E H' v d:=h.mono k.toE
theorem aU.any {E:Addr→Prop}{H:Hp}{v:V}{d:PyData} (h:aU ED H v d):aU E H v d:=h.narrow fun _ _=>trivial
theorem tK {H:Hp}:∀ls:List (List Nat),ay ED H (ls.map au) (ls.map fun l=>.str (S l))
 | []=>.nil
 | _ :: r=>.cons (.str _) (tK r)
theorem Bb {α:Type}{f:α→PyData}{m k:Nat}:∀{xs:List α},(∀x∈xs,Wt (f x) m k)→mD (xs.map f) (m*xs.length) k
 | [],_=>.nil
 | x :: r,h=>by
  have e:m*(x :: r).length=m+m*r.length:=by rw [length_cons,Nat.mul_succ,add_comm]
  rw [e]
  exact .cons (h x (by simp)) (Bb fun y hy=>h y (mem_cons_of_mem _ hy))
end L2
namespace L2
open PySem PySem.Spec PyProof.Rows
inductive IW (c:Nat) (lo:Int) (vs:List V) (H:Hp) (Q:VK):Prop
 | mk (b:Addr) (t:Int) (h0:vs=[.ref b]) (h1:Bx H b t) (h2:0≤t) (h3:t≤900000) (h4:∀o n d t' H',aK (Eb b) H H'→H' o=some (.tup [.int n,.int d])→Fb c n d→lo≤n→Bx H' b t'→t≤t'→t'≤t+6→Q (.ref o) H')
def JJ (c:Nat) (lo:Int):Sp:=fun vs H Q _=>IW c lo vs H Q
theorem FS {n d:Int} (hn:1≤n) (hn2:n≤60) (hd:1≤d) (hd2:d≤60):Fb 6 (KM.low n d).1 (KM.low n d).2∧1≤(KM.low n d).1:=by
 have a:Sz 6 n:=by show n.natAbs<64;lia
 have b:Sz 6 d:=by show d.natAbs<64;lia
 refine ⟨Fb.low a b (by lia),?_⟩
 have:=(KM.low_sgn (n:=n) (d:=d) (by lia)).1.mpr (by lia)
 lia
theorem Lm {c:Bool}{a b:Int}{σ:St}{H:Hp}{Q:VK} (h:Q (.int (if c=true then a else b)) H):if c=true then tC (.int a) σ H Q else tC (.int b) σ H Q:=by
 cases c with
 | true=>exact cf h
 | false=>exact aX h
theorem pF {m:Int} (h0:0<m) (h1:m<1099511627776):m.natAbs.log2<9000:=by
 have a:Sz 40 m:=by show m.natAbs<1099511627776;lia
 exact lt_trans (a.log (by lia)) (by ext)
theorem Gn {n f r:Int} (h0:0≤f) (h1:f<n) (r0:0≤r) (r1:r<n - 1):0≤(f+1+r) % n∧(f+1+r) % n<n∧(f+1+r) % n≠f:=by
 have hn:0<n:=by lia
 refine ⟨emod_nonneg _ (by lia),emod_lt_of_pos _ hn,?_⟩
 by_cases h:f+1+r<n
 ·rw [Int.emod_eq_of_lt (by lia) h];lia
 ·have e:(f+1+r) % n=f+1+r - n:=by
   have h2:(f+1+r) % n=(f+1+r - n) % n:=by rw [Int.sub_emod_right]
   rw [h2,Int.emod_eq_of_lt (by lia) (by lia)]
  rw [e];lia
theorem xD {α:Type}{xs:List α}{k:Int}{f:α→V} (h0:0≤k) (h:k.toNat<xs.length):gB (xs.map f) k=some (f xs[k.toNat]):=by
 have q:=cq (xs:=xs.map f) (j:=k.toNat) (v:=f xs[k.toNat]) (by rw [getElem?_map];simp [h])
 rwa [Int.toNat_of_nonneg h0] at q
end L2
namespace L2
theorem jJ {α:Type}{ls:List α} (h:ls.Nodup) {i j:Nat} (hi:i<ls.length) (hj:j<ls.length) (e:ls[i]=ls[j]):i=j:=by
 have p:=List.pairwise_iff_getElem.mp h
 rcases Nat.lt_trichotomy i j with q | q | q
 ·exact absurd e (p i j hi hj q)
 ·exact q
 ·exact absurd e.symm (p j i hj hi q)
end L2
namespace L2
open PySem PySem.Spec PyProof.Rows
theorem Ir {c:Bool}{ta tb:TE}{σ:St}{H:Hp}{Q:VK} (I:V→Hp→Prop) (rest:∀v H',I v H'→Q v H') (h1:c=true→(∀v H',I v H'→Q v H')→ta σ H Q) (h2:c=false→(∀v H',I v H'→Q v H')→tb σ H Q) :
 if c=true then ta σ H Q else tb σ H Q:=by
 cases c with
 | true=>exact cf (h1 rfl rest)
 | false=>exact aX (h2 rfl rest)
end L2
namespace L2
end L2
namespace L2
open PySem PySem.Spec PyProof.Rows
theorem ay.take {E:Addr→Prop}{H:Hp}:∀{xs:List V}{ds:List PyData} (n:Nat),ay E H xs ds→ay E H (xs.take n) (ds.take n)
 | _,_,0,_=>by simp;exact .nil
 | _,_,_+1,.nil=>by simp;exact .nil
 | _,_,n+1,.cons h r=>by simp;exact .cons h (ay.take n r)
end L2
namespace L2
open PySem PySem.Spec PyProof.Rows
open AutoSeq1 (wpAny_loadPart')
set_option maxHeartbeats 4000000 in
theorem Eh (l:Addr) (its:Array Value) (n:Nat) (dct:Option Addr) (sl:Array (Option Value)) :
 Meets (Builtin.«enumerate.__new__» ⟨[.type "enumerate",.ref l],[]⟩) (fun _ R s=>s.heap.get? l=some { cls:=.type "tuple",dict:=dct,data:=.seq its n,slots:=sl }∧
  R (.ok (.ret (.ref (s.heap.push { cls:=.type "tuple_iterator",data:=.fields #[.ref l,.int 0 0] }).objs.size))) { s with heap:=(s.heap.push { cls:=.type "tuple_iterator",data:=.fields #[.ref l,.int 0 0] }).push { cls:=.type "enumerate",data:=.fields #[.none,.bool false,.ref #[s],rawInt 0,.none,.none] } }):=
 .of_wp fun prog w A R s h=>by
  obtain ⟨hp,g,d,tk,os⟩:=s;obtain ⟨hl,h⟩:=h;have hsub:=sub_enumerate
  have hT:Heap.IsTuple (Shared.heap ⟨hp,g,d,tk,os⟩) l its:=⟨_,hl,rfl,n,rfl⟩
  wp_walk using wpAny_loadPart' hl
  refine wpAny_stack_any fun st=>wpAny_pure ?_;split
  ·rename_i c _ _ _ _ _;cases (c==Value.type "enumerate")
   ·wp_walk using wpAny_loadPart' hl,wpAny_pyIter_tuple hT
    exact ⟨(),h⟩
   ·wp_walk using wpAny_loadPart' hl,wpAny_pyIter_tuple hT
    exact ⟨(),h⟩
  ·wp_walk using wpAny_loadPart' hl,wpAny_pyIter_tuple hT
   exact ⟨(),h⟩
section
variable {prog:Program}{w:World}{A:Around}{E:Value→Shared→Prop}{s:Shared}
theorem Cq {l:Addr}{its:Array Value}{Q:Value→Shared→Prop}:∀{c:Bool},bK s.heap l its c→
 (∀h',IsEnum h' (#[s]+1) #[s] 0 .none→bE h' #[s] l 0 c→(∀b o,s.heap.get? b=some o→h'.get? b=some o)→Q (.ref (#[s]+1)) { s with heap:=h' })→
 wpAny (model prog w) A (call (.type "enumerate") [.ref l]) Q E s
 | true,q,h=>call_enumerate_list q fun h' a b _ k=>h h' a b k
 | false,q,h=>by
  obtain ⟨⟨c,dct,dt,sl⟩,hl,hc,n,hd⟩:=q
  dsimp only at hc hd
  subst hc hd
  refine callType_new F.called_enumerate (by ext) (F.typeCall_enumerate_1 _) (F.newCall_enumerate_1 _) (fun obj=>F.args_object_init_2 obj _) F.entry_enumerate_new (Eh l its n dct sl) ⟨hl,?_⟩
  have hz:(s.heap.push { cls:=.type "tuple_iterator",data:=.fields #[.ref l,.int 0 0] }).objs.size=#[s]+1:=Heap.size_push ..
  show _∧_
  rw [hz]
  have he:IsEnum ((s.heap.push { cls:=.type "tuple_iterator",data:=.fields #[.ref l,.int 0 0] }).push { cls:=.type "enumerate",data:=.fields #[.none,.bool false,.ref #[s],rawInt 0,.none,.none] }) (#[s]+1) #[s] 0 .none:=by
   rw [←hz];exact Heap.get?_push_size _ rfl
  exact ⟨⟨_,he,rfl⟩,h _ he ⟨_,Heap.get?_push_of_some _ (Heap.get?_push_size _ rfl),rfl,rfl⟩ fun b o e=>Heap.get?_push_of_some _ (Heap.get?_push_of_some _ e)⟩
end
def zf (K:Frag) (a:Addr) (c:Bool):It:=
 ⟨fun i H=>aT fun xs x=>jK K H a xs c∧xs[i]?=some x,fun i H v H'=>aT fun T x=>H T=none∧v=.ref T∧H'=aE H T (.tup [.int (i:Int),x])∧∀xs,jK K H a xs c→xs[i]?=some x,fun i H=>∃xs,jK K H a xs c∧xs.length=i⟩
theorem Bv {P:Program}{w:World}{K:Frag}{es:List Expr}{kk:Nat}{pos:Pos} (a e it:Addr) (c:Bool) (hne:e≠it) (hae:a≠e) (hai:a≠it) :
 vR P w K (.Tuple es kk pos) (zf K a c) [e,it] e (fun i h=>(∃old,IsEnum h e it i old)∧bE h it a i c) where
 mem:=by simp
 obj:=fun i h st b hb=>by
  obtain ⟨⟨old,he⟩,hi⟩:=st
  have hb':b=e∨b=it:=by simpa using hb
  rcases hb' with rfl | rfl
  ·exact ⟨_,he,fun v z=>by have z':Data.fields _=Data.cell v:=z;cases z'⟩
  ·exact hi.some
 keep:=fun i h h' st k=>by
  obtain ⟨⟨old,he⟩,hi⟩:=st
  exact ⟨⟨old,k e (by simp) _ he⟩,hi.at fun o q=>k it (by simp) o q⟩
 item:=by
  intro X hP hw hK hc i pins s σ H E I hf st hg
  subst hP hw hK
  obtain ⟨⟨old,he⟩,hit⟩:=st
  obtain ⟨xs,x,hq,hx⟩:=hg
  obtain ⟨its,rv,p⟩:=I.seqC hq
  obtain ⟨u,hu,ru⟩:=rv.get hx
  have hnT:H #[s]=none:=I.fresh
  have hiu:i<its.length:=(List.getElem?_eq_some_iff.mp hu).1
  have D:=dc (prog:=X.prog) (w:=X.w) (A:=X.A.in1) (I.ok.hd hc) it a hai its.toArray c
  refine wpAny_pyNext_enum_itemD D he ⟨hit,p⟩ (by simpa using hiu) hne (by simp;exact ⟨hne,Ne.symm hae⟩) fun u' h' tk hP ho st' hT hsz hk=>?_
  have eu:u=u':=by
   have:its.toArray[i]?=some u':=hP
   rw [List.getElem?_toArray,hu] at this
   exact Option.some.inj this
  subst eu
  refine ⟨(),wpAny_letOwnedTupleGo_enum (s:={ s with heap:=h',toks:=tk+1 }) ho fun h'' he'' hs''=>?_⟩
  have helt:e < #[s]:=Heap.lt_size he
  have hilt:it < #[s]:=let ⟨_,y,_⟩:=hit.some;Heap.lt_size y
  have hT'':h''.get? #[s]=some { cls:=.type "tuple",data:=.seq #[.int i tk,u] }:=(hs''.2 _ (ne_of_gt helt)).trans hT
  refine ⟨.ref #[s],aE H #[s] (.tup [.int (i:Int),x]),I.turnedNew (ch:=[e,it]) (t':=tk+1) hf (fun b o hb q=>?_) (le_refl _) ?_,rfl,⟨_,x,hnT,rfl,rfl,fun ys hy=>by rw [I.seqC_inj hy hq];exact hx⟩,⟨⟨u,?_⟩,st'.1.at fun o q=>(hs''.2 _ (Ne.symm hne)).trans q⟩,fun b hb=>?_⟩
  ·have h1:b≠e:=fun z=>hb (by simp [z])
   have h2:b≠it:=fun z=>hb (by simp [z])
   exact (hs''.2 b h1).trans (hk b o h1 h2 q)
  ·exact ⟨by show 2≤sizeLine;decide,[.int i tk,u],.cons ⟨()⟩ (.cons ru .nil),⟨_,hT'',rfl,()⟩,_,hT'',rfl⟩
  ·simpa using he''
  ·have hb':b=e∨b=it:=by simpa using hb
   have hlt:b < #[s]:=by rcases hb' with rfl | rfl <;> assumption
   rw [aj (ne_of_lt hlt)]
   exact (hf b hb).1
 done:=by
  intro X hP hw hK hc i pins s σ H E I hf st hg
  subst hP hw hK
  obtain ⟨⟨old,he⟩,hit⟩:=st
  obtain ⟨xs,hq,hx⟩:=hg
  obtain ⟨its,rv,p⟩:=I.seqC hq
  have hl:=rv.length
  have D:=dc (prog:=X.prog) (w:=X.w) (A:=X.A.in1) (I.ok.hd hc) it a hai its.toArray c
  have ei:i=its.toArray.size:=by simp;lia
  refine wpAny_pyNext_enum_endD D he (by rw [ei] at hit;exact ⟨hit,p⟩) fun h' eb=>⟨rfl,I.turnedL (ch:=[e,it]) (t':=s.toks) hf fun b o hb q=>eb b o (fun z=>hb (by simp [z])) q⟩
 self:=fun _ _ _ _ _ st h=>by
  obtain ⟨⟨old,he⟩,_⟩:=st
  exact wpAny_pyIter_enum he h
def Jw (K:Frag) (ta:TA):TI:=fun σ H R=>ta σ H fun vs H1=>aT fun a c=>vs=[.ref a]∧(∃xs,jK K H1 a xs c)∧R (zf K a c) H1
theorem EW {X:Cx}{K:Frag}{es:List Expr}{kk:Nat}{tp:Pos}{a:Expr}{ta:TA}{p pos:Pos} (hg:Gl X "enumerate") (hm:X.mg "enumerate" = none) (ha:PA X [a] ta) (hs:starEach [a] X.env=[(false,eval a X.env)]:=by rfl) (ek:X.K=K:=by rfl) :
 PI X (.Tuple es kk tp) (.Call (.Name "enumerate" p) [a] [] pos) (Jw K ta):=by
 subst ek
 intro pins s σ H R I h
 refine Call_ (f9 I hg hm boot_enumerate (PyProof.Rows.callWith_type1 (aL (ha pos pins s σ H _ I h) fun us s1 ⟨vs,H1,I1,r1,q1⟩=>?_) hs rfl))
 obtain ⟨a,c,rfl,⟨xs,hq⟩,q⟩:=q1
 obtain ⟨u,rfl,ru⟩:=r1.one
 obtain rfl:u=.ref a:=ru
 obtain ⟨its,rv,p⟩:=I1.seqC hq
 have d1:=p.lt
 refine Cq p fun h' hE hI hk=>wpAny_pyIter_enum hE ?_
 have I2:ad X pins σ H1 { s1 with heap:=h',toks:=s1.toks }:=I1.kept hk
 refine ⟨#[s1]+1,[#[s1]+1,#[s1]],_,_,H1,rfl,I2,Bv a (#[s1]+1) #[s1] c (Nat.succ_ne_self _) (ne_of_lt (lt_succ_of_lt d1)) (ne_of_lt d1),⟨⟨_,hE⟩,hI⟩,fun b hb=>?_,q⟩
 have hb':b=#[s1]+1∨b=#[s1]:=by simpa using hb
 have hle:#[s1]≤b:=by rcases hb' with rfl | rfl <;> lia
 exact I1.fpOk hle (I1.hok.fresh hle)
section
variable {X:Cx}
end
end L2
namespace L2
open PySem PySem.Spec PyProof.Rows
theorem ay.drop {E:Addr→Prop}{H:Hp}:∀{xs:List V}{ds:List PyData} (n:Nat),ay E H xs ds→ay E H (xs.drop n) (ds.drop n)
 | _,_,0,h=>by simpa using h
 | _,_,_+1,.nil=>by simp;exact .nil
 | _,_,n+1,.cons h r=>by simp;exact ay.drop n r
section
variable {z:Nat}{E:Addr→Prop}{H H':Hp}{n m k:Nat}{v:V}{xs ys:List V}
theorem rV:dW xs (some 1) none=xs.drop 1:=by
 unfold dW
 rw [HT.sIx_none,show (1:Int)=((1:Nat):Int) from rfl,HT.sIx_nat]
 cases xs with
 | nil=>simp
 | cons x r=>simp
end
section
variable {X:Cx}
end
end L2
namespace HT
open PySem PySem.Spec PyProof.Rows
section
variable {prog:Program}{w:World}{A:Around}{E:Value→Shared→Prop}{s:Shared}
theorem getItem_tuple_whole {t sl:Addr}{items:Array Value}{vl vu:Value}{lo hi:Option Int}{Q:Value→Shared→Prop} (ht:IsTup s.heap t items) (hs:s.heap.IsSliceOf sl vl vu .none) (pl:IsPart vl lo) (pu:IsPart vu hi)
 (h1:sIx items.size 0 lo=0) (h2:sIx items.size items.size hi=items.size) (h:Q (.ref t) s):wpAny (model prog w) A (getItem (.ref t) (.ref sl)) Q E s:=by
 obtain ⟨os,hos,hcs,hds⟩:=id hs
 have hTs:s.TypeIs (.ref sl) "slice" := ⟨os,hos,hcs⟩
 unfold getItem
 try with_reducible refine wpAny_holding ?_
 first | refine wpAny_bind (wpAny_pure ?_) | skip
 refine wpAny_bind (wpAny_sequenceKey ht.typeIs (by ext) ?_)
 refine wpAny_bind (wpAny_callSpecial?_slot (name:=Str.ofString "__getitem__") ht.typeIs PyProof.Rows.slot_tuple_getitem
  (wpAny_call_entry PyProof.Rows.slot_tuple_getitem ht.typeIs entry_tuple_getitem ?_ (args_tuple_getitem _ _)))
 show wpAny _ _ (Builtin.Tuple.tupleItemsOf (.ref t) >>= _) _ _ s
 refine wpAny_bind (tupleItemsOf_ ht ?_)
 refine wpAny_bind (wpAny_typeOf hTs ?_)
 rw [if_pos (by ext)]
 refine wpAny_bind (nF hs pl pu ?_)
 have hyes:((((sIx items.size 0 lo:Nat):Int)==0 && (1:Int)==1 && (sIx items.size items.size hi - sIx items.size 0 lo)==items.size)=true):=by
  rw [h1,h2];simp
 show wpAny _ _ (if (((sIx items.size 0 lo:Nat):Int)==0 && (1:Int)==1 && (sIx items.size items.size hi - sIx items.size 0 lo)==items.size)=true then _ else _) _ _ s
 rw [if_pos hyes]
 refine wpAny_bind (m:=Builtin.Tuple.tupleIsExact _) (wpAny_bind (wpAny_typeOf ht.typeIs (wpAny_pure ?_)))
 rw [if_pos (by ext)]
 exact wpAny_bind (wpAny_rule (wpAny_pure ⟨(),wpAny_pure h⟩))
end
end HT
namespace L2
open PySem PySem.Spec PyProof.Rows
section
variable {X:Cx}{K:Frag}
inductive IM (K:Frag) (x:V) (lo:Option Int) (hi:Option Int) (H:Hp) (Q:VK):Prop
 | mk (a:_) (xs:_) (h0:x=.ref a) (h1:af K H a xs) (h2:H a=some (.tup xs)) (h3:∀p H',ag H H'→H' p=some (.tup (dW xs lo hi))→Q (.ref p) H')
def Li (K:Frag):V→Option Int→Option Int→Hp→VK→Prop:=fun x lo hi H Q=>IM K x lo hi H Q
theorem jF (e:X.K=K:=by rfl):DF X (Li K):=by
 subst e
 intro pins s σ H x v vl vu lo hi sl Q I rx hs pl pu h
 obtain ⟨a,xs,rfl,hx,ha,q⟩:=h
 by_cases hw:HT.sIx xs.length 0 lo=0∧HT.sIx xs.length xs.length hi=xs.length
 ·cases rx
  obtain ⟨its,r,ht,hz⟩:=I.tuple hx
  have hlen:its.toArray.size=xs.length:=by rw [size_toArray];exact r.length.symm
  refine ⟨"tuple",_,PyProof.Rows.slot_tuple_getitem.lookup,ht.typeIs,?_⟩
  refine HT.getItem_tuple_whole ht hs pl pu (by rw [hlen];exact hw.1) (by rw [hlen];exact hw.2) ⟨.ref a,H,I,rfl,q a H (ag.refl _) ?_⟩
  have:dW xs lo hi=xs:=by
   unfold dW
   rw [hw.1,hw.2,drop_zero,Nat.sub_zero,take_length]
  rw [this];exact ha
 ·exact Iz pins s σ H _ v vl vu lo hi sl Q I rx hs pl pu ⟨a,xs,rfl,hx,hw,fun p hp=>q p _ (ag.new hp) ao⟩
end
theorem xC {α:Type}{p:List α→Prop} (h0:p []) (h1:∀l a,p l→p (l++[a])) (l:List α):p l:=by
 have:∀r:List α,p r.reverse:=fun r=>by
  induction r with
  | nil=>exact h0
  | cons a r ih=>rw [List.reverse_cons];exact h1 _ _ ih
 have h:=this l.reverse
 rwa [List.reverse_reverse] at h
def iB (ks:List aI):List aI:=ks.foldl (fun σ k=>if σ.any (fun x=>decide (x=k)) then σ else σ++[k]) []
theorem lF (ks:List aI) (k:aI):iB (ks++[k])=if (iB ks).any (fun x=>decide (x=k)) then iB ks else iB ks++[k]:=by
 unfold iB
 rw [List.foldl_append]
 rfl
theorem vL:∀(ks:List aI),(iB ks).length≤ks.length:=by
 intro ks
 induction ks using xC with
 | h0=>exact le_refl _
 | h1 ks k ih=>
  rw [lF,length_append]
  split
  ·simp;lia
  ·rw [length_append];simp;lia
theorem zk (ks:List aI):∀j,j∈iB ks↔j∈ks:=by
 induction ks using xC with
 | h0=>exact fun j=>Iff.rfl
 | h1 ks k ih=>
  intro j
  rw [lF,List.mem_append,mem_singleton]
  split
  ·rename_i h
   rw [ih]
   constructor
   ·exact .inl
   ·rintro (z | z)
    ·exact z
    ·obtain ⟨x,hx,e⟩:=List.any_eq_true.mp h
     rw [z,←ih,←of_decide_eq_true e];exact hx
  ·rw [List.mem_append,mem_singleton,ih]
theorem wM (ks:List aI):(iB ks).length=ks.length↔ks.Nodup:=by
 induction ks using xC with
 | h0=>exact ⟨fun _=>nodup_nil,fun _=>rfl⟩
 | h1 ks k ih=>
  rw [lF,length_append,List.nodup_append]
  have ol:=vL ks
  by_cases h:(iB ks).any (fun x=>decide (x=k))=true
  ·rw [if_pos h]
   obtain ⟨x,hx,e⟩:=List.any_eq_true.mp h
   have hk:k∈ks:=by rw [←of_decide_eq_true e];exact (zk ks x).mp hx
   constructor
   ·intro z;simp at z;lia
   ·intro z;exact absurd rfl (z.2.2 k hk k (by simp))
  ·rw [if_neg h,length_append]
   have hk:k∉ks:=fun z=>h (List.any_eq_true.mpr ⟨k,(zk ks k).mpr z,by simp⟩)
   constructor
   ·intro z
    refine ⟨ih.mp (by simpa using z),by simp,fun a ha b hb e=>?_⟩
    rw [mem_singleton] at hb
    rw [←hb,←e] at hk
    exact hk ha
   ·intro z
    rw [ih.mpr z.1]
def fW:aI→V
 | .inl i=>.int i
 | .inr x=>.str x
theorem xG {k:aI}{u:Value} (h:aO (fW k) u):fu k u=true∧u.scannable=true:=by
 cases k with
 | inl i=>obtain ⟨t,rfl⟩:=h;exact ⟨DR i t,rfl⟩
 | inr x=>obtain ⟨t,rfl⟩:=h;exact ⟨Dt x t,rfl⟩
section
variable {prog:Program}{w:World}{A:Around}{R:Result→Shared→Prop}{it:Addr}{fp wr:List Addr}{G:Array GenState→Array GenState→Prop}{P:Nat→Value→Prop}{St:Nat→Shared→Prop}
abbrev gQ (prog:Program) (w:World) (h:Heap) (a:Addr) (ks:List aI):Prop:=h.SetOf (bj prog w) a (fun j=>(iB ks).any (fun x=>decide (x=j))) (iB ks).length
theorem wA {h h':Heap}{a:Addr}{ks:List aI} (H:gQ prog w h a ks) (k:∀o,h.get? a=some o→h'.get? a=some o):gQ prog w h' a ks:=
 let ⟨o,es,ep,t,ho,r⟩:=H
 ⟨o,es,ep,t,k o ho,r⟩
theorem G8 {h:Heap}{a:Addr}{f g:aI→Bool}{n m:Nat} (H:h.SetOf (bj prog w) a f n) (e:∀k,f k=g k) (en:n=m):h.SetOf (bj prog w) a g m:=by
 cases en
 cases (funext e:f=g)
 exact H
theorem zR {ks:List aI} (W:WalksS prog w A.in1 it fp wr G ks.length P St) {a:Addr} (ha:a∉fp) (hv:∀i v,P i v→∀k,ks[i]?=some k→fu k v=true∧v.scannable=true) (hb:ks.length+1<scanBound) :
 ∀(r i:Nat) (s:Shared),ks.length - i=r→i≤ks.length→St i s→gQ prog w s.heap a (ks.take i)→
   (∀s',Moved (a :: wr) G s s'→gQ prog w s'.heap a ks→R (.ok (.ret .none)) s')→codeAny (model prog w) A (.builtin "set.update.loop" ⟨[.ref a,.ref it],[]⟩) R s:=by
 have nw:a∉wr:=fun z=>ha (W.sub _ z)
 have up:∀b∈wr,b∈a :: wr:=fun b z=>mem_cons_of_mem _ z
 intro r
 induction r with
 | zero=>
  intro i s hr hi st hS hR
  have e:i=ks.length:=by lia
  rw [e] at st hS
  rw [take_length] at hS
  refine codeAny_builtin F.entry_set_update_loop ?_
  rw [A.under_plainId F.plain_set_update_loop]
  show wpAny _ _ (pyNext (Value.ref it) >>= _) _ _ _
  refine wpAny_bind (W.done s _ _ st fun s' m=>?_)
  show wpAny _ _ (ret .none) _ _ _
  exact wpAny_pure (hR s' (m.mono up) (wA hS fun o ho=>m.heap a o nw ho))
 | succ r ih=>
  intro i s hr hi st hS hR
  have lt:i<ks.length:=by lia
  refine codeAny_builtin F.entry_set_update_loop ?_
  rw [A.under_plainId F.plain_set_update_loop]
  show wpAny _ _ (pyNext (Value.ref it) >>= _) _ _ _
  refine wpAny_bind (W.item i s _ _ lt st fun v s' pv st' m=>?_)
  obtain ⟨kv,sv⟩:=hv i v pv ks[i] (getElem?_eq_getElem lt)
  have hS':gQ prog w s'.heap a (ks.take i):=wA hS fun o ho=>m.heap a o nw ho
  have l1:(iB (ks.take i)).length+1<scanBound:=by
   have:=vL (ks.take i)
   rw [length_take] at this
   lia
  show wpAny _ _ (holding [v] (setAdd a v) >>= _) _ _ _
  refine wpAny_bind (wpAny_holding ?_)
  unfold setAdd
  refine wpAny_holding (wpAny_bind ((bj prog w).pyHash (k:=ks[i]) kv (wpAny_setAddHashed_of (knd:=bj prog w) (s:={ s' with toks:=s'.toks+1 }) kv sv hS' l1 fun h2 sb hS2=>?_)))
  have nx:gQ prog w h2 a (ks.take (i+1)):=by
   rw [List.take_succ_eq_append_getElem lt]
   refine G8 hS2 (fun j=>?_) ?_
   ·rw [lF]
    split
    ·rename_i z
     by_cases q:j=ks[i]
     ·subst q;rw [z];rfl
     ·rw [decide_eq_false q,Bool.or_false]
    ·rw [List.any_append]
     congr 1
     rw [any_cons,List.any_nil,Bool.or_false]
     by_cases q:j=ks[i]
     ·rw [decide_eq_true q,decide_eq_true q.symm]
     ·rw [decide_eq_false q,decide_eq_false (Ne.symm q)]
   ·rw [lF]
    split
    ·rfl
    ·rw [length_append];rfl
  refine wpAny_pure ⟨plainId_quiet F.plain_set_update_loop _,ih (i+1) _ (by lia) lt (W.frame _ s' _ _ st' (le_succ _) fun b z o e=>?_) nx fun s2 m2 hS3=>?_⟩
  ·rw [sb.2 b (fun q=>ha (q▸z))];exact e
  ·refine hR s2 (.trans W.gtrans ((m.mono up).then_heap (le_succ _) fun b o z e=>?_) m2) hS3
   rw [sb.2 b (fun q=>z (q▸mem_cons_self))];exact e
end
theorem AL:isSubtype (.type "tuple") (.type "set")=pure false:=by
 rw [isSubtype_type]
 kernel_rfl
theorem zL:isSubtype (.type "tuple") (.type "frozenset")=pure false:=by
 rw [isSubtype_type]
 kernel_rfl
section
variable {prog:Program}{w:World}{A:Around}{E:Value→Shared→Prop}{s:Shared}
abbrev fV (led:Bool):Obj:={ cls:=.type "set",dict:=none,data:=.set #[] 0 (.fresh 0 0 led) }
theorem Aq {h:Heap}{a:Addr}{led:Bool} (e:h.get? a=some (fV led)):gQ prog w h a []:=
 ⟨_,#[],0,_,e,⟨rfl,rfl,rfl⟩,rfl,fun x hx=>(by simp at hx),fun k=>(by simp [iB]),by ext,by rfl,rfl⟩
set_option maxHeartbeats 4000000 in
theorem CM {l:Addr}{vs:List Value}{ks:List aI}{led:Bool}{c:Bool} (hh:A.handled=none) (hl:if c=true then s.heap.IsList l vs.toArray else s.heap.IsTuple l vs.toArray) (hn:vs.length=ks.length)
 (hk:∀(i:Nat) v,vs[i]?=some v→∀k,ks[i]?=some k→fu k v=true∧v.scannable=true) (hb:ks.length+1<scanBound) {R:Fin→Shared→Prop}
 (h:∀h' tk,gQ prog w h' #[s] ks→(∀b o,b < #[s]→s.heap.get? b=some o→h'.get? b=some o)→R (.done (.ret .none)) { s with heap:=h',toks:=tk }) :
 wpAny (model prog w) A (Builtin.«set.__init__» ⟨[.ref #[s],.ref l],[]⟩) R E { s with heap:=s.heap.push (fV led) }:=by
 have hS:(s.heap.push (fV led)).get? #[s]=some (fV led):=Heap.get?_push_size _ rfl
 have hT:Shared.TypeIs { s with heap:=s.heap.push (fV led) } (.ref #[s]) "set" := ⟨_,hS,rfl⟩
 have vget:∀(i:Nat) v,vs.toArray[i]?=some v→∀k,ks[i]?=some k→fu k v=true∧v.scannable=true:=fun i v e=>hk i v (by simpa using e)
 have sz:vs.toArray.size=ks.length:=by rw [size_toArray];exact hn
 have hS2:∀o:Obj,((s.heap.push (fV led)).push o).get? #[s]=some (fV led):=fun o=>Heap.get?_push_of_some _ hS
 have lS:∀{x:Obj},s.heap.get? l=some x→l < #[s]:=fun e=>Heap.lt_size e
 have neI:#[s]≠(s.heap.push (fV led)).objs.size:=by rw [Heap.size_push];lia
 have aV:∀(s':Shared) (o:Obj),Moved (#[s] :: [(s.heap.push (fV led)).objs.size]) (fun a b=>b=a) { s with heap:=(s.heap.push (fV led)).push o } s'→gQ prog w s'.heap #[s] ks→R (.done (.ret .none)) s':=fun s' o m q=>by
  obtain ⟨h',g',d',tk',os'⟩:=s'
  cases (show g'=s.gens from m.gens)
  cases (show d'=s.drawn from m.drawn)
  cases (show os'=s.os from m.os)
  refine h h' tk' q fun b o hb e=>m.heap b o (fun z=>?_) (Heap.get?_push_of_some _ (Heap.get?_push_of_some _ e))
  rw [Heap.size_push] at z
  have z':b=#[s]∨b=#[s]+1:=by simpa using z
  have hb':(b:Nat) < #[s]:=hb
  rcases z' with z' | z'
  ·exact absurd z' (ne_of_lt hb')
  ·exact absurd z' (ne_of_lt (lt_succ_of_lt hb'))
 cases c with
 | true=>
  have hl':s.heap.IsList l vs.toArray:=hl
  obtain ⟨⟨oc,od,oo,os⟩,e1,rfl,n,rfl⟩:=hl'
  have e2:(s.heap.push (fV led)).get? l=some ⟨.type "list",od,.seq vs.toArray n,os⟩:=Heap.get?_push_of_some _ e1
  have q1:=PySem.F.sub_list_set
  have q2:=PySem.F.sub_list_frozenset
  have q3:(Value.type "list" == Value.type "dict")=false:=by decide
  have l1:(s.heap.push (fV led)).IsList l vs.toArray:=⟨_,e2,rfl,n,rfl⟩
  unfold Builtin.«set.__init__» noKeywords Builtin.Frozenset.updateFrom
  generalize hPI:pyIter=PI
  wp_walk
  subst hPI
  have ll:=lS e1
  refine wpAny_pyIter_list l1 (wpAny_bind (wpAny_runValue ?_))
  have ne1:l≠(s.heap.push (fV led)).objs.size:=by rw [Heap.size_push];exact ne_of_lt (lt_succ_of_lt ll)
  refine zR (a:=#[s]) (ks:=ks) (sz▸(Walks.list (by simpa using hh) _ l ne1 vs.toArray).toS) ?_ vget hb (ks.length - 0) 0 _ rfl (zero_le _) ⟨⟨_,Heap.get?_push_size _ rfl,rfl,rfl⟩,l1.push _⟩ (Aq (hS2 _)) fun s' m q=>?_
  ·intro z
   have z':#[s]=(s.heap.push (fV led)).objs.size∨#[s]=l:=by simpa using z
   rcases z' with z' | z'
   ·exact neI z'
   ·exact absurd z' (ne_of_gt ll)
  ·exact wpAny_pure (wpAny_pure (aV s' _ m q))
 | false=>
  have hl':s.heap.IsTuple l vs.toArray:=hl
  obtain ⟨⟨oc,od,oo,os⟩,e1,rfl,n,rfl⟩:=hl'
  have e2:(s.heap.push (fV led)).get? l=some ⟨.type "tuple",od,.seq vs.toArray n,os⟩:=Heap.get?_push_of_some _ e1
  have q1:=AL
  have q2:=zL
  have q3:(Value.type "tuple" == Value.type "dict")=false:=by decide
  have l1:(s.heap.push (fV led)).IsTuple l vs.toArray:=⟨_,e2,rfl,n,rfl⟩
  unfold Builtin.«set.__init__» noKeywords Builtin.Frozenset.updateFrom
  generalize hPI:pyIter=PI
  wp_walk
  subst hPI
  have ll:=lS e1
  refine wpAny_pyIter_tuple l1 (wpAny_bind (wpAny_runValue ?_))
  have ne1:l≠(s.heap.push (fV led)).objs.size:=by rw [Heap.size_push];exact ne_of_lt (lt_succ_of_lt ll)
  refine zR (a:=#[s]) (ks:=ks) (sz▸(Walks.tuple (by simpa using hh) _ l ne1 vs.toArray).toS) ?_ vget hb (ks.length - 0) 0 _ rfl (zero_le _) ⟨⟨_,Heap.get?_push_size _ rfl,rfl,rfl⟩,l1.at fun o e=>Heap.get?_push_of_some _ e⟩ (Aq (hS2 _)) fun s' m q=>?_
  ·intro z
   have z':#[s]=(s.heap.push (fV led)).objs.size∨#[s]=l:=by simpa using z
   rcases z' with z' | z'
   ·exact neI z'
   ·exact absurd z' (ne_of_gt ll)
  ·exact wpAny_pure (wpAny_pure (aV s' _ m q))
set_option maxHeartbeats 4000000 in
theorem CP {l:Addr}{vs:List Value}{ks:List aI}{c:Bool}{Q:Value→Shared→Prop} (hh:A.handled=none) (hl:if c=true then s.heap.IsList l vs.toArray else s.heap.IsTuple l vs.toArray) (hn:vs.length=ks.length)
 (hk:∀(i:Nat) v,vs[i]?=some v→∀k,ks[i]?=some k→fu k v=true∧v.scannable=true) (hb:ks.length+1<scanBound)
 (h:∀h' tk,gQ prog w h' #[s] ks→(∀b o,b < #[s]→s.heap.get? b=some o→h'.get? b=some o)→Q (.ref #[s]) { s with heap:=h',toks:=tk }) :
 wpAny (model prog w) A (call (.type "set") [.ref l]) Q E s:=by
 have T:=PySem.F.called_set
 obtain ⟨_,_,t0⟩:=T.mro
 have t1:=T.notType
 have t2:=T.canCreate
 have t3:=T.made
 have t4:=T.sub
 have t5:=PySem.F.typeCall_set_1 (.ref l)
 refine wpAny_call (codeAny_of_tree ?_)
 show wpAny _ _ (callAny (Value.type "set") _) _ _ s
 refine wpAny_pure ⟨Code.quiet_builtin _ (by nofun),codeAny_builtin PySem.F.entry_type_call ?_⟩
 rw [A.under_plain (weight_type_call_type "set" [Value.ref l] []) rfl]
 repeat (any_goals first | assumption | wp_step)
 refine codeAny_mono (code_set_new_1 (.ref l) (E:=E) (Q₁:=fun v s1=>∃led,v=.ref #[s]∧s1={ s with heap:=s.heap.push (fV led) }) fun led=>⟨led,rfl,rfl⟩) fun r s1 hr=>?_
 cases r with
 | error e=>exact hr
 | ok f=>
  cases f with
  | ret v=>
   obtain ⟨led,rfl,rfl⟩:=hr
   have hT:Shared.TypeIs { s with heap:=s.heap.push (fV led) } (.ref #[s]) "set" := ⟨_,Heap.get?_push_size _ rfl,rfl⟩
   have t6:=T.init.lookup
   have t7:=T.init.bind (.ref #[s])
   repeat (any_goals first | assumption | wp_step)
   refine codeAny_mono (codeAny_call_builtin (R:=wants (fun v s2=>v=.none∧aT fun h' tk=>s2={ s with heap:=h',toks:=tk }∧gQ prog w h' #[s] ks∧∀b o,b < #[s]→s.heap.get? b=some o→h'.get? b=some o) E) T.init.plain PySem.F.entry_set_init (check_set_init_1 hT ?_)) fun r2 s2 hr2=>?_
   ·exact CM (by simpa using hh) hl hn hk hb fun h' tk q kp=>⟨rfl,h',tk,rfl,q,kp⟩
   ·cases r2 with
    | error e=>exact hr2
    | ok f=>
     cases f with
     | ret v=>
      obtain ⟨rfl,h',tk,rfl,q,kp⟩:=hr2
      repeat (any_goals first | assumption | wp_step)
      exact h _ _ q kp
     | _=>exact hr2.elim
  | _=>exact hr.elim
end
theorem AM:bootBuiltins "set" = some (.type "set"):=by nofun
def A5 (K:Frag) (x:V) (H:Hp) (Q:VK):Prop:=aT fun a ks=>x=.ref a∧(aq K H a (ks.map fW)∨af K H a (ks.map fW))∧ks.length≤4000∧Q (.int ((iB ks).length:Nat)) H
def Gw (K:Frag) (te:TE):TE:=fun σ H Q=>te σ H fun x H1=>A5 K x H1 Q
section
variable {X:Cx}{K:Frag}{e:Expr}{te:TE}{p1 p2 p3 p4:Pos}
theorem tG:∀{ks:List aI}{us:List Value},aD (ks.map fW) us→us.length=ks.length∧∀(i:Nat) v,us[i]?=some v→∀k,ks[i]?=some k→fu k v=true∧v.scannable=true
 | [],_,.nil=>⟨rfl,fun i v e=>by simp at e⟩
 | k :: r,_,.cons h t=>by
  obtain ⟨a,b⟩:=tG (ks:=r) t
  refine ⟨by simp [a],fun i v e j f=>?_⟩
  cases i with
  | zero=>
   simp at e f
   subst e f
   exact xG h
  | succ i=>exact b i v (by simpa using e) j (by simpa using f)
theorem EN {A:Around}{E:Value→Shared→Prop}{s:Shared}{prog:Program}{w:World}{a:Addr}{ks:List aI}{Q:Value→Shared→Prop} (H:gQ prog w s.heap a ks) (hb:ks.length≤4000) (h:Q (.int ((iB ks).length:Nat) (s.toks+1)) { s with toks:=s.toks+1+1 }) :
 wpAny (model prog w) A (call (.builtin "len") [.ref a]) Q E s:=by
 obtain ⟨o,es,ep,t,ho,hx,hd,_,_,hlt,hf,hn⟩:=H
 have:=vL ks
 refine PySem.call_len_set ho hx hd hf (by lia) ?_
 rw [hn];exact h
theorem xY (he:PE X e te) (hc:X.calm=true) (hg1:Gl X "len") (hm1:X.mg "len" = none) (hg2:Gl X "set") (hm2:X.mg "set" = none) (ek:X.K=K:=by rfl) (hs:uK e=true:=by rfl) :
 PE X (.Call (.Name "len" p1) [.Call (.Name "set" p2) [e] [] p3] [] p4) (Gw K te):=by
 subst ek
 intro pins s σ H Q I h
 refine wpAny_Call_Name_kw (f9 I hg1 hm1 bh ?_ (by ext) (by ext))
 refine PyProof.Rows.callWith_builtin1 ?_ (tL rfl) rfl
 refine Calls.spliced_cons ?_
 refine wpAny_Call_Name_kw (f9 I hg2 hm2 AM ?_ (by ext) (by ext))
 refine PyProof.Rows.callWith_type1 ?_ (tL hs) rfl
 refine aL (EQ he cC hs p3 pins s σ H (fun xs H1=>match xs with | [x]=>A5 X.K x H1 Q | _=>False) I h) fun us s1 ⟨vs,H1,I1,r1,q1⟩=>?_
 match vs,r1,q1 with
 | [x],r1,q1=>
 obtain ⟨u,rfl,ru⟩:=pj r1
 obtain ⟨a,ks,rfl,hq,hz,q⟩:=q1
 cases ru
 have go:∀(its:List Value) (c:Bool),aD (ks.map fW) its→(if c=true then s1.heap.IsList a its.toArray else s1.heap.IsTuple a its.toArray)→wpAny (model X.prog X.w) X.A (call (.type "set") [.ref a]) (fun v s2=>wpAny (model X.prog X.w) X.A (call (.builtin "len") [v]) (EP X pins σ Q) X.xe s2) X.xe s1:=fun its c rv hl=>by
  obtain ⟨z1,z2⟩:=tG rv
  refine CP (I1.ok.hd hc) hl z1 z2 (by show ks.length+1<4096;lia) fun h' tk S kp=>?_
  have I2:ad X pins σ H1 { s1 with heap:=h',toks:=tk }:=I1.kept fun b o e=>kp b o (Heap.lt_size e) e
  exact EN (s:={ s1 with heap:=h',toks:=tk }) S hz ⟨.int _,H1,I2.tok _,⟨()⟩,q⟩
 have aV:=fun (v:Value) (s2:Shared) (z:wpAny (model X.prog X.w) X.A (call (.builtin "len") [v]) (EP X pins σ Q) X.xe s2)=>(Calls.spliced_nil z:wpAny (model X.prog X.w) X.A (spliced []) (fun vs s3=>wpAny (model X.prog X.w) X.A (call (.builtin "len") (v :: vs)) (EP X pins σ Q) X.xe s3) X.xe s2)
 rcases hq with hq | hq
 ·obtain ⟨its,rv,p,_⟩:=I1.list hq
  exact aL (go its true rv p.isList) fun v s2 z=>aV v s2 z
 ·obtain ⟨its,rv,p,_⟩:=I1.tuple hq
  exact aL (go its false rv p) fun v s2 z=>aV v s2 z
end
section
variable {X:Cx}{K:Frag}{o e:Expr}{es:List Expr}{to:TE}{t:TA}{name:Str}{apos cpos:Pos}{T id:String}{r:V→List V→Hp→VK→Prop}
theorem gX (pa:PlainAttrs T) (slot:Slot T name id) (hty:typeOf (.builtin id)=pure (.type "method_descriptor")) (hm:FG X id r) (ho:PE X o to) (ha:PA X (e :: es) t) (ek:X.K=K:=by rfl)
 (h1:attributeBase o name X.env (eval o X.env)=eval o X.env:=by rfl)
 (h2:((backTo cpos (starEach (e :: es) X.env)).all (fun x=>!x.1) && (backToKw cpos (keywordEach [] X.env)).all (fun x=>x.1.isSome) && decide ((e :: es).length+([]:List Keyword).length+(if ([]:List Keyword).isEmpty then 0 else 1)<30))=true:=by rfl)
 (h3:(apos.endLine==cpos.line)=true:=by rfl) (h4:starEach (e :: es) X.env=(false,eval e X.env) :: starEach es X.env:=by rfl) (h5:(backTo cpos (starEach es X.env)).any (·.1)=false:=by rfl) :
 PE X (.Call (.Attribute o name apos) (e :: es) [] cpos) (Lo K T r to t):=by
 subst ek
 exact JZ pa slot hty hm ho ha h1 h2 h3 h4 h5
end
theorem vG {X:Cx}{K:Frag}{es:List Expr}{kk:Nat}{tp:Pos}{a b:Expr}{ta:TA}{p pos:Pos} (hg:Gl X "zip") (hm:X.mg "zip" = none) (ha:PA X [a,b] ta) (ek:X.K=K:=by rfl) (h1:starEach [a,b] X.env=[(false,eval a X.env),(false,eval b X.env)]:=by rfl) (h2:starEach [b] X.env=[(false,eval b X.env)]:=by rfl) :
 PI X (.Tuple es kk tp) (.Call (.Name "zip" p) [a,b] [] pos) (HU K ta):=by
 subst ek
 exact Hx hg hm ha h1 h2
end L2
namespace L2
theorem ba {t u:TS}{D:dj}{σ:St}{H:Hp} (h:∀D':dj,(∀σ' H',u D σ' H'→D'.nx σ' H')→t D' σ H):kN t u D σ H:=h { D with nx:=u D } fun _ _ z=>z
theorem Ct {t u:TS}{D:dj}{σ:St}{H:Hp} (h:∀D':dj,(∀σ' H',u D σ' H'→D'.nx σ' H')→(∀v H',D.rt v H'→D'.rt v H')→t D' σ H):kN t u D σ H:=h { D with nx:=u D } (fun _ _ z=>z) fun _ _ z=>z
theorem pA {t:TS}{D:dj}{σ:St}{H:Hp} (h:∀D':dj,(∀σ' H',D.nx σ' H'→D'.nx σ' H')→t D' σ H):t D σ H:=h D fun _ _ z=>z
theorem Lh {t:TS}{D:dj}{σ:St}{H:Hp} (h:∀D':dj,(∀σ' H',D.nx σ' H'→D'.nx σ' H')→(∀v H',D.rt v H'→D'.rt v H')→t D' σ H):t D σ H:=h D (fun _ _ z=>z) fun _ _ z=>z
end L2
namespace L2
open PySem PySem.Spec PyProof.Rows
section
variable {X:Cx}
end
section
variable {K:Frag}{a a1 a2 D:Addr}{H1:Hp}{σc:St}{g:TG}{te:TE}{tt:TT}{Q:VK}{xs ys:List V}
theorem xw {α:Type} (f:Nat→α) (i:Nat):(List.range i).map f++[f i]=(List.range (i+1)).map f:=by
 rw [range_succ,map_append];rfl
theorem se {α β:Type} (f:Nat→β) (h:α→β) (l:List α) (e:∀(i:Nat) (x:α),l[i]?=some x→f i=h x):(List.range l.length).map f=l.map h:=by
 apply List.ext_getElem?
 intro i
 rw [getElem?_map,getElem?_map]
 by_cases hi:i<l.length
 ·rw [getElem?_range hi,getElem?_eq_getElem hi]
  show some (f i)=some (h l[i])
  rw [e i l[i] (getElem?_eq_getElem hi)]
 ·rw [List.getElem?_eq_none (by simp;lia),List.getElem?_eq_none (by lia)];rfl
theorem pC {J:It}{n:Nat} (f:Nat→V) (hz:n≤10000) (hD:H1 D=none) (hgo:∀i H',i<n→ag H1 H'→J.go i H') (hst:∀H',ag H1 H'→J.stop n H')
 (hs:∀i x H' H'' (R:VK),i<n→ag H1 H'→J.yld i H' x H''→(∀H4,ag H' H4→R (f i) H4)→g x σc H'' fun σ2 H2=>jx σc σ2∧te σ2 H2 R)
 (hd:∀H',ag H1 H'→H' D=some (.lst ((List.range n).map f))→Q (.ref D) H'):rE J σc g tT te D H1 Q:=by
 refine gv (n:=n) (fun i H' zs=>zs=(List.range i).map f∧H' D=some (.lst zs)∧ag H1 H') (gE hz) ⟨rfl,ao,dC hD (ag.refl _)⟩ ?_ ?_ ?_ ?_ ?_
 ·rintro i H' zs ⟨rfl,q,_⟩
  exact ⟨q,by simp⟩
 ·rintro i H' zs hi ⟨_,_,sm⟩
  exact hgo i H' hi sm
 ·rintro H' zs ⟨_,_,sm⟩
  exact hst H' sm
 ·rintro i H' zs x H'' hi ⟨rfl,q,sm⟩ y
  exact hs i x H' H'' _ hi sm y fun H4 s4=>⟨s4 _ _ q,xw f i,ao,dC hD (sm.trans s4)⟩
 ·rintro H' zs ⟨rfl,q,sm⟩
  exact hd H' sm q
theorem lK (f:Nat→V) (hz:xs.length≤10000) (hD:H1 D=none) (ha:H1 a=some (.lst xs))
 (hs:∀i x H' (R:VK),xs[i]?=some x→ag H1 H'→(∀H4,ag H' H4→R (f i) H4)→g x σc H' fun σ2 H2=>jx σc σ2∧te σ2 H2 R)
 (hd:∀H',ag H1 H'→H' D=some (.lst ((List.range xs.length).map f))→Q (.ref D) H'):rE (AU K a) σc g tT te D H1 Q:=by
 refine pC (n:=xs.length) f hz hD (fun i H' hi sm=>⟨xs,xs[i],aq.of (sm _ _ ha),by simp [hi]⟩) (fun H' sm=>⟨xs,aq.of (sm _ _ ha),le_refl _⟩) ?_ hd
 rintro i x H' H'' R hi sm ⟨rfl,ex⟩ k
 exact hs i x H'' R (ex _ (aq.of (sm _ _ ha))) sm k
theorem D7 (f:Nat→V) (hz:xs.length≤10000) (hD:H1 D=none) (ha:H1 a=some (.tup xs))
 (hs:∀i x H' (R:VK),xs[i]?=some x→ag H1 H'→(∀H4,ag H' H4→R (f i) H4)→g x σc H' fun σ2 H2=>jx σc σ2∧te σ2 H2 R)
 (hd:∀H',ag H1 H'→H' D=some (.lst ((List.range xs.length).map f))→Q (.ref D) H'):rE (Ba K a) σc g tT te D H1 Q:=by
 refine pC (n:=xs.length) f hz hD (fun i H' hi sm=>⟨xs,xs[i],af.of (sm _ _ ha),by simp [hi]⟩) (fun H' sm=>⟨xs,af.of (sm _ _ ha),le_refl _⟩) ?_ hd
 rintro i x H' H'' R hi sm ⟨rfl,ex⟩ k
 exact hs i x H'' R (ex _ (af.of (sm _ _ ha))) sm k
theorem yz {c1 c2:Bool}{j1 j2:Nat} (f:Nat→V) (hz:min xs.length ys.length≤10000) (hD:H1 D=none) (h1:∀H',ag H1 H'→jK K H' a1 xs c1) (h2:∀H',ag H1 H'→jK K H' a2 ys c2)
 (hs:∀i x y H' (R:VK),xs[i]?=some x→ys[i]?=some y→ag H1 H'→(∀H4,ag H' H4→R (f i) H4)→(fun σ2 H2=>jx σc σ2∧te σ2 H2 R) ((σc.set j1 (some x)).set j2 (some y)) H')
 (hd:∀H',ag H1 H'→H' D=some (.lst ((List.range (min xs.length ys.length)).map f))→Q (.ref D) H'):rE (Hm K a1 a2 c1 c2) σc (Et K 2 (B8 (oY j1) (B8 (oY j2) Jj))) tT te D H1 Q:=by
 refine pC (n:=min xs.length ys.length) f hz hD (fun i H' hi sm=>⟨xs,ys,xs[i]'(by lia),ys[i]'(by lia),h1 H' sm,h2 H' sm,by rw [getElem?_eq_getElem (by lia)],by rw [getElem?_eq_getElem (by lia)]⟩) (fun H' sm=>⟨xs,ys,h1 H' sm,h2 H' sm,by lia⟩) ?_ hd
 rintro i v H' H'' R hi sm ⟨T,x,y,hT,rfl,rfl,e1,e2⟩ k
 have st:=ag.new (o:=.tup [x,y]) hT
 exact ⟨T,(),af.of ao,rfl,_,(),_,(),rfl,hs i x y _ R (e1 _ (h1 H' sm)) (e2 _ (h2 H' sm)) (sm.trans st) fun H4 s4=>k H4 (st.trans s4)⟩
end
end L2
namespace L2
theorem Ja {tc:TT}{t u:TS}{D:dj}{σ:St}{H:Hp} (o1 o0:Hp→Prop) (hc:∀Q:Bool→Hp→Prop,(∀H',o1 H'→Q true H')→(∀H',o0 H'→Q false H')→tc σ H Q) (h1:∀H',o1 H'→t D σ H') (h0:∀H',o0 H'→u D σ H'):Ei tc t u D σ H:=
 hc _ (fun H' o=>by rw [if_pos rfl];exact h1 H' o) fun H' o=>by rw [if_neg (by ext)];exact h0 H' o
theorem BW {t u:TS}{D:dj}{σ:St}{H:Hp} (I:St→Hp→Prop) (rest:∀σ' H',I σ' H'→u D σ' H') (h:(∀σ' H',I σ' H'→u D σ' H')→t { D with nx:=u D } σ H):kN t u D σ H:=h rest
end L2
namespace L2
open PySem PySem.Spec PyProof.Rows
section
variable {X:Cx}{tg:Expr}
inductive GR (K:Frag) (x:V) (y:V) (H:Hp) (Q:VK):Prop
 | mk (a:_) (b:_) (xs:_) (ys:_) (h0:x=.ref a) (h1:y=.ref b) (h2:af K H a xs) (h3:H a=some (.tup xs)) (h4:af K H b ys) (h5:xs≠[]) (h6:xs.length+ys.length≤10000) (h7:∀p H',ag H H'→H' p=some (.tup (xs++ys))→Q (.ref p) H')
def Jb (K:Frag):R2:=fun x y H Q=>GR K x y H Q
theorem Ec {K:Frag} (e:X.K=K:=by rfl):cn X (binaryOp .Add) (Jb K):=by
 subst e
 intro pins s σ H x y v u Q I rx ry h
 obtain ⟨a,b,xs,ys,e1,e2,ha,ha',hb,hx,hz,q⟩:=h
 refine GP pins s σ H x y v u Q I rx ry ⟨a,b,xs,ys,e1,e2,ha,hb,hx,gE hz,fun z=>?_,fun z p hp=>q p _ (ag.new hp) ao⟩
 refine q a H (ag.refl _) ?_
 rw [z,append_nil];exact ha'
end
section
variable {X:Cx}{K:Frag}{o e:Expr}{es:List Expr}{to:TE}{t:TA}{name:Str}{apos cpos:Pos}{id:String}{r:V→List V→Hp→VK→Prop}
end
end L2
namespace L2
open PySem PyProof.Rows
def eY (X:Cx) (scope:Scope) (cl:List (Str×Addr)) (C:Addr) (N':List Str) (s:Shared) (H:Hp) (ex:List Addr) (pn:List (Addr×Obj)):Cx:=
 { cO X scope cl C N' s H ex pn with fn:=fun x=>scope.names.lookup x==some .cell }
def qO (esc:Scope) (N:List Str) (scope:Scope) (N':List Str) (L:Nat) (src:List Nat):Bool:=
 (scope.kind==.function) && scope.names.all (fun y=>(y.2 != .cell || scope.names.lookup y.1==some .cell) && (y.2 != .local || scope.names.lookup y.1==some .local) && (y.2 != .free || esc.names.lookup y.1==some .cell || esc.names.lookup y.1==some .free)) &&
  (N'.length==L+src.length) && (List.range src.length).all fun i=>match src[i]?,N'[L+i]? with
   | some j,some x=>(N[j]?==some x) && (scope.names.lookup x==some .free)
   | _,_=>false
structure AZ (esc:Scope) (N:List Str) (scope:Scope) (N':List Str) (L:Nat) (src:List Nat):Prop where
 kind:scope.kind=.function
 cells:∀y∈scope.names,y.2=.cell→scope.names.lookup y.1=some .cell
 loc:∀y∈scope.names,y.2=.local→scope.names.lookup y.1=some .local
 free:∀y∈scope.names,y.2=.free→esc.names.lookup y.1=some .cell∨esc.names.lookup y.1=some .free
 len:N'.length=L+src.length
 frees:∀(i j:Nat),src[i]?=some j→∃x,N'[L+i]?=some x∧N[j]?=some x∧scope.names.lookup x=some .free
theorem xn {esc:Scope}{N:List Str}{scope:Scope}{N':List Str}{L:Nat}{src:List Nat} (h:qO esc N scope N' L src=true):AZ esc N scope N' L src:=by
 unfold qO at h
 simp only [Bool.and_eq_true,all_eq_true] at h
 obtain ⟨⟨⟨h1,h2⟩,h3⟩,h4⟩:=h
 refine ⟨by simpa using h1,fun y hy e=>?_,fun y hy e=>?_,fun y hy e=>?_,by simpa using h3,fun i j e=>?_⟩
 ·have:=(h2 y hy).1.1
  rw [e] at this
  simpa using this
 ·have:=(h2 y hy).1.2
  rw [e] at this
  simpa using this
 ·have:=(h2 y hy).2
  rw [e] at this
  simpa using this
 ·have hi:i<src.length:=(List.getElem?_eq_some_iff.mp e).1
  have:=h4 i (List.mem_range.mpr hi)
  rw [e] at this
  cases q:N'[L+i]? with
  | none=>rw [q] at this;simp at this
  | some x=>
   rw [q] at this
   simp only [Bool.and_eq_true,beq_iff_eq] at this
   exact ⟨x,rfl,this.1,this.2⟩
theorem k8:∀(names:List (Str×NameKind)) (n:Nat) (acc acc':List (Str×Addr)),cellsFrom n names (acc++acc')=cellsFrom n names acc++acc'
 | [],_,_,_=>rfl
 | (name,kind) :: r,n,acc,acc'=>by
  unfold cellsFrom
  split
  ·exact k8 r (n+1) ((name,n) :: acc) acc'
  ·exact k8 r n acc acc'
theorem yG (names:List (Str×NameKind)) (n:Nat) (acc:List (Str×Addr)):cellsFrom n names acc=cellsFrom n names []++acc:=k8 names n [] acc
theorem jL {x:Str}{c:Addr}:∀(names:List (Str×NameKind)) (n:Nat) (acc:List (Str×Addr)),(x,c)∈cellsFrom n names acc→(x,NameKind.cell)∈names∨(x,c)∈acc
 | [],_,_,h=>.inr h
 | (name,kind) :: r,n,acc,h=>by
  unfold cellsFrom at h
  split at h
  ·rename_i hk
   rcases jL r (n+1) _ h with h | h
   ·exact .inl (mem_cons_of_mem _ h)
   ·rcases List.mem_cons.mp h with h | h
    ·injection h with h1 h2
     have hk':kind=.cell:=by simpa using hk
     rw [h1,hk'];exact .inl mem_cons_self
    ·exact .inr h
  ·rcases jL r n _ h with h | h
   ·exact .inl (mem_cons_of_mem _ h)
   ·exact .inr h
theorem lh {x:Str}:∀(names:List (Str×NameKind)) (n:Nat) (acc:List (Str×Addr)),(∃c,acc.lookup x=some c)→∃c,(cellsFrom n names acc).lookup x=some c
 | [],_,_,h=>h
 | (name,kind) :: r,n,acc,⟨c,h⟩=>by
  unfold cellsFrom
  split
  ·refine lh r (n+1) _ ?_
   rw [lookup_cons]
   cases hb:x==name with
   | true=>exact ⟨_,rfl⟩
   | false=>exact ⟨c,h⟩
  ·exact lh r n acc ⟨c,h⟩
theorem mi {x:Str}:∀(names:List (Str×NameKind)) (n:Nat) (acc:List (Str×Addr)),(x,NameKind.cell)∈names→∃c,(cellsFrom n names acc).lookup x=some c
 | (name,kind) :: r,n,acc,h=>by
  unfold cellsFrom
  rcases List.mem_cons.mp h with h | h
  ·injection h with h1 h2
   subst h1;subst h2
   rw [if_pos (show (NameKind.cell==NameKind.cell)=true from rfl)]
   exact lh r (n+1) _ ⟨n,by simp [lookup_cons]⟩
  ·split
   ·exact mi r (n+1) _ h
   ·exact mi r n acc h
theorem LF {M:Model}{A:Around}{E:Value→Shared→Prop}{s:Shared}{scope:Scope}{globals:Addr}{cl:List (Str×Addr)}{qual:Str}{env:Env}{Q:Env→Shared→Prop}
 (h:Q { scope:=scope,locals:=#[s],globals:=globals,cells:=cellsFrom (#[s]+1) scope.names cl,qual:=qual,func:=none,code:=env.code,frame:=env.frame,builtins:=env.builtins }
  { s with heap:=pushCells (s.heap.push { cls:=.type "dict",data:=.dict #[] }) scope.names }) :
 wpAny M A (newFunctionEnv scope globals cl [] qual none .none (some env)) Q E s:=by
 simp only [newFunctionEnv,Option.isSome_some,if_true]
 refine wpAny_bind (wpAny_alloc ?_)
 refine wpAny_bind (wpAny_layCells _ (fun name kind cells=>by cases hkc:kind==NameKind.cell <;> simp [hkc]) _ _ _ _ ?_)
 rw [show ({ s with heap:=s.heap.push { cls:=.type "dict",data:=.dict #[] } }:Shared).heap.objs.size=#[s]+1 from Heap.size_push ..]
 exact wpAny_bind (by rw [forIn_nil];exact wpAny_pure (wpAny_pure h))
section
variable {X:Cx}{elt tg iter:Expr}{ifs:List Expr}{scope:Scope}{pos:Pos}{N':List Str}{L:Nat}{src:List Nat}{wi:TI}{g:TG}{tt:TT}{te:TE}
theorem yj (hc:X.calm=true) (ck:AZ X.env.scope X.N scope N' L src) {cl:List (Str×Addr)}{pins:List (Addr×Obj)}{s:Shared}{σ:St}{H:Hp}{Q:VK} (I:ad X pins σ H s)
 (hsub:∀x c,cl.lookup x=some c→X.env.cells.lookup x=some c) (hhas:∀y∈scope.names,y.2=.free→∃c,cl.lookup y.1=some c)
 (hi:PI X tg iter wi) (hg:∀cl C s H ex pn,PG (eY X scope cl C N' s H ex pn) tg g) (hif:∀cl C s H ex pn,rN (eY X scope cl C N' s H ex pn) ifs tt)
 (he:∀cl C s H ex pn,PE (eY X scope cl C N' s H ex pn) elt te) (h:Br wi L src g tt te σ H Q) {RR:Value→Addr→Result→Shared→Prop}
 (hRR:∀D C H' f s' m,ad X pins σ H' s'→s'.heap.Ns C m→jz X pins H' C→Q (.ref D) H'→RR (.ref D) C (.ok f) s') :
 wpAny (model X.prog X.w) X.A (eval iter X.env) (fun x s₁=>wpAny (model X.prog X.w) X.A (pyIter x) (fun it s₂=>wpAny (model X.prog X.w) X.A (newList []) (fun acc s₃=>
  wpAny (model X.prog X.w) X.A (newFunctionEnv scope X.env.globals cl [] X.env.qual none .none (some X.env)) (fun cenv s₄=>
   codeAny (model X.prog X.w) X.A (.compStart (.ListComp elt [⟨tg,iter,ifs,0⟩] scope pos) 0 it acc { cenv with scope:=relabel scope X.env }) (RR acc cenv.locals) s₄) X.xe s₃) X.xe s₂) X.xe s₁) X.xe s:=by
 refine aL (hi pins s σ H _ I h) fun v s1 h1=>aL h1 fun itv s2 h2=>?_
 obtain ⟨it,fp,tn,J,H2,e,I2,T,st2,f2,q⟩:=h2
 subst e
 refine wpAny_newObj_type (LF ?_)
 dsimp only
 generalize hH2:s2.heap.push { cls:=.type "list",dict:=none,data:=.seq ([]:List Value).toArray }=hp2
 have hns₁:(pushCells (hp2.push { cls:=.type "dict",data:=.dict #[] }) scope.names).Ns hp2.objs.size fun _=>none:=(Heap.Ns.new hp2 (.type "dict")).keeps (pushCells_keeps _ _)
 have kp:∀b o,hp2.get? b=some o→(pushCells (hp2.push { cls:=.type "dict",data:=.dict #[] }) scope.names).get? b=some o:=fun b o e=>pushCells_keeps _ _ b o (Heap.get?_push_of_some _ e)
 have okc:=cellsFrom_ok scope.names (hp2.push { cls:=.type "dict",data:=.dict #[] }) (hp2.objs.size+1) [] ⟨fun _ _ hm=>(nomatch hm),List.Pairwise.nil⟩ (by rw [Heap.size_push];exact le_refl _)
 rw [Heap.size_push] at okc
 rw [yG]
 have ncell:∀x c,(cellsFrom (hp2.objs.size+1) scope.names []).lookup x=some c→(x,NameKind.cell)∈scope.names:=fun x c e=>(jL _ _ _ (PySem.mem_of_lookup e)).elim id (fun z=>by cases z)
 have nhas:∀x,(x,NameKind.cell)∈scope.names→∃c,(cellsFrom (hp2.objs.size+1) scope.names []).lookup x=some c:=fun x h=>mi _ _ _ h
 generalize pushCells (hp2.push { cls:=.type "dict",data:=.dict #[] }) scope.names=h₁ at hns₁ kp okc ⊢
 generalize cellsFrom (hp2.objs.size+1) scope.names []=nw at okc ncell nhas ⊢
 have hC:hp2.objs.size=#[s2]+1:=by rw [←hH2,Heap.size_push]
 have hDC:#[s2]≠hp2.objs.size:=by rw [hC];exact ne_of_lt (lt_succ_self _)
 have hCle:#[s2]≤hp2.objs.size:=by rw [hC];exact le_succ _
 have below:∀b,b < #[s2]→b≠hp2.objs.size∧b≠#[s2]:=fun b hb=>⟨by rw [hC];exact ne_of_lt (lt_succ_of_lt hb),ne_of_lt hb⟩
 have old:∀b o,s2.heap.get? b=some o→h₁.get? b=some o:=fun b o e=>kp b o (hH2▸Heap.get?_push_of_some _ e)
 have hacc:h₁.get? #[s2]=some { cls:=.type "list",dict:=none,data:=.seq ([]:List Value).toArray }:=kp _ _ (hH2▸Heap.get?_push_size _ rfl)
 have hDn:H2 #[s2]=none:=I2.fresh
 obtain ⟨W,⟨m0,w0⟩,turn⟩:=q _ hDn
 have fpo:∀b∈fp,∃o,s2.heap.get? b=some o∧∀v,o.data≠.cell v:=T.obj _ _ st2
 have fplt:∀b∈fp,b < #[s2]:=fun b hb=>by obtain ⟨o,e,_⟩:=fpo b hb;exact Heap.lt_size e
 have hfrs:∀b∈fp,b∉im X.stack:=fun b hb z=>by
  rcases List.mem_cons.mp (I2.stkSub b z) with z' | z'
  ·exact (f2 b hb).2.1 z'
  ·exact (f2 b hb).2.2.1 z'
 have spl:∀x c,(nw++cl).lookup x=some c→nw.lookup x=some c∨(nw.lookup x=none∧cl.lookup x=some c):=fun x c e=>by
  rw [List.lookup_append] at e
  cases q:nw.lookup x with
  | none=>rw [q] at e;exact .inr ⟨rfl,e⟩
  | some c'=>rw [q] at e;exact .inl e
 have nab:∀x c,nw.lookup x=some c→hp2.objs.size+1≤c:=fun x c e=>(okc.empty x c (PySem.mem_of_lookup e)).2
 have olt:∀x c,cl.lookup x=some c→c < #[s2]:=fun x c e=>by
  obtain ⟨v,o,ho,_⟩:=I2.cell x c (hsub _ _ e)
  exact Heap.lt_size ho
 have n2o:∀x c y,nw.lookup x=some c→cl.lookup y=some c→False:=fun x c y e1 e2=>lt_irrefl c (lt_of_lt_of_le (olt y c e2) (le_trans hCle (Nat.le_of_succ_le (nab x c e1))))
 generalize hX:eY X scope (nw++cl) hp2.objs.size N' s2 H2 fp (X.pn++pins)=X'
 have ok':X'.Ok:=by
  subst hX
  refine ⟨I2.ok.mod,ck.kind,I2.ok.glob,I2.ok.blt,hCle,fun x y c e1 e2=>(spl x c e1).elim (fun g1=>(spl y c e2).elim (fun g2=>name_of_addr okc.apart (PySem.mem_of_lookup g1) (PySem.mem_of_lookup g2)) (fun g2=>(n2o x c y g1 g2.2).elim)) (fun g1=>(spl y c e2).elim (fun g2=>(n2o y c x g2 g1.2).elim) (fun g2=>I2.ok.inj x y c (hsub _ _ g1.2) (hsub _ _ g2.2))),fun x hx=>?_,fun x c z e=>?cab,I2.ok.hd,I2.ok.frames,.inl rfl,fun b hb=>⟨(below b (fplt b hb)).1,fun x c e=>(spl x c e).elim (fun g z=>lt_irrefl b (lt_of_lt_of_le (fplt b hb) (le_trans hCle (Nat.le_of_succ_le (z▸nab x c g))))) (fun g=>(f2 b hb).2.2.2.2.1 x c (hsub _ _ g.2))⟩,
   I2.bs,le_trans I2.ok.bsz I2.sz,fun b o e hb=>?_,hfrs,I2.stack,I2.stkFree⟩
  ·-- a name that is a cell or free
   have hx':(relabel scope X.env).names.lookup x=some .cell∨(relabel scope X.env).names.lookup x=some .free:=hx
   have key:∀(names:List (Str×NameKind)),
    ((names.map fun (n,k)=>if (k==NameKind.free && X.env.scope.kind==.function && X.env.kindOf n==some .cell) then (n,NameKind.cell) else (n,k)).lookup x=some .cell∨
     (names.map fun (n,k)=>if (k==NameKind.free && X.env.scope.kind==.function && X.env.kindOf n==some .cell) then (n,NameKind.cell) else (n,k)).lookup x=some .free)→∃y∈names,y.1=x∧(y.2=.free∨y.2=.cell):=by
    intro names
    induction names with
    | nil=>intro h;rcases h with h | h <;> simp at h
    | cons y r ih=>
     intro h
     obtain ⟨n,k⟩:=y
     by_cases hb:x=n
     ·subst hb
      refine ⟨(x,k),mem_cons_self,rfl,?_⟩
      by_cases hk:k=.free
      ·exact .inl hk
      ·have hkb:(k==NameKind.free)=false:=by simpa using hk
       right
       simp only [map_cons,hkb,Bool.false_and,Bool.false_eq_true,if_false,lookup_cons,beq_self_eq_true,if_true] at h
       rcases h with h | h
       ·exact Option.some.inj h
       ·exact absurd (Option.some.inj h) hk
     ·have hb':(x==n)=false:=by simpa using hb
      have h':((r.map fun (n,k)=>if (k==NameKind.free && X.env.scope.kind==.function && X.env.kindOf n==some .cell) then (n,NameKind.cell) else (n,k)).lookup x=some .cell∨
       (r.map fun (n,k)=>if (k==NameKind.free && X.env.scope.kind==.function && X.env.kindOf n==some .cell) then (n,NameKind.cell) else (n,k)).lookup x=some .free):=by
       rw [map_cons] at h
       dsimp only at h
       by_cases hcnd:(k==NameKind.free && X.env.scope.kind==.function && X.env.kindOf n==some .cell)=true
       ·rw [if_pos hcnd] at h
        simpa only [lookup_cons,hb'] using h
       ·rw [if_neg hcnd] at h
        simpa only [lookup_cons,hb'] using h
      obtain ⟨y,hy,e1,e2⟩:=ih h'
      exact ⟨y,mem_cons_of_mem _ hy,e1,e2⟩
   obtain ⟨y,hy,e1,e2⟩:=key scope.names hx'
   show ∃c,(nw++cl).lookup x=some c
   rw [List.lookup_append]
   cases q:nw.lookup x with
   | some c=>exact ⟨c,rfl⟩
   | none=>
    rcases e2 with e2 | e2
    ·obtain ⟨c,hc'⟩:=hhas y hy e2
     exact ⟨c,by rw [←e1,hc'];rfl⟩
    ·obtain ⟨c,hc'⟩:=nhas x (by obtain ⟨y1,y2⟩:=y;dsimp only at e1 e2;rw [←e1,←e2];exact hy)
     rw [q] at hc';cases hc'
  case cab=>
   have z':(scope.names.lookup x==some NameKind.cell)=true:=z
   obtain ⟨c',hc'⟩:=nhas x (PySem.mem_of_lookup (by simpa using z'))
   rcases spl x c e with g | g
   ·have:=nab x c g
    show #[s2]≤c
    lia
   ·rw [hc'] at g;cases g.1
  ·rcases (f2 b hb).2.2.2.1 with z | z
   ·exact I2.ok.noex b o e z
   ·exact absurd (lt_of_lt_of_le (Heap.lt_size e) (le_trans I2.ok.bsz z)) (lt_irrefl _)
 have stat:∀{H':Hp},(∀b∈fp,H' b=none)→∀b∈fp,jz X' [] H' b:=by
  subst hX
  intro H' hn b hb
  refine ⟨hn b hb,(below b (fplt b hb)).1,hfrs b hb,.inl hb,fun x c e=>(spl x c e).elim (fun g z=>lt_irrefl b (lt_of_lt_of_le (fplt b hb) (le_trans hCle (Nat.le_of_succ_le (z▸nab x c g))))) (fun g=>(f2 b hb).2.2.2.2.1 x c (hsub _ _ g.2)),fun p hp=>?_⟩
  have hp':p∈X.pn++pins:=by simpa [eY,cO] using hp
  exact (f2 b hb).2.2.2.2.2 p hp'
 have I1:ad X' [] (ie L src σ) (aE H2 #[s2] (.lst [])) { s2 with heap:=h₁,toks:=s2.toks }:=by
  subst hX
  have up:∀b o,H2 b=some o→aE H2 #[s2] (.lst []) b=some o:=fun b o e=>by rw [aj (aS e hDn)];exact e
  have upn:∀b,b < #[s2]→H2 b=none→aE H2 #[s2] (.lst []) b=none:=fun b hb e=>by rw [aj (ne_of_lt hb)];exact e
  refine ⟨ok',rfl,I2.bare,Un.laid old (le_refl _) hDn,⟨_,hns₁,fun i x v e1 e2 e3=>?_⟩,fun x c e=>?_,?_,fun x c e=>?_,fun p hp=>?_,I2.hok.laid old (le_refl _) ⟨zero_le _,[],0,.nil,hacc⟩,?_⟩
  ·-- the names of the def around
   have hiL:L≤i:=by
    by_cases hlt:i<L
    ·exfalso
     unfold ie at e2
     rw [getElem?_append_left (by simpa using hlt),List.getElem?_replicate,if_pos hlt] at e2
     cases e2
    ·lia
   have e2':(src.map fun j=>(σ[j]?).join)[i - L]?=some (some v):=by
    unfold ie at e2
    rw [getElem?_append_right (by simpa using hiL),length_replicate] at e2
    exact e2
   rw [getElem?_map] at e2'
   cases hj:src[i - L]? with
   | none=>rw [hj] at e2';cases e2'
   | some j=>
    rw [hj] at e2'
    have e3':(σ[j]?).join=some v:=Option.some.inj e2'
    have hσ:σ[j]?=some (some v):=by
     cases q:σ[j]? with
     | none=>rw [q] at e3';cases e3'
     | some o=>rw [q] at e3';exact congrArg some e3'
    obtain ⟨x',g1,g2,g3⟩:=ck.frees (i - L) j hj
    have:L+(i - L)=i:=by lia
    rw [this] at g1
    have ex:x'=x:=Option.some.inj (g1.symm.trans e1)
    subst ex
    have hfree:=ck.free _ (PySem.mem_of_lookup g3) rfl
    obtain ⟨m,hn,hl⟩:=I2.loc
    obtain ⟨u,r,l⟩:=hl j x' v g2 hσ (hfree.elim (fun z=>.inr (.inl z)) fun z=>.inr (.inr z))
    refine ⟨u,r,.inr ⟨?_,?_⟩⟩
    ·-- its kind in the block
     have key:∀(names:List (Str×NameKind)),names.lookup x'=some .free→
      ((names.map fun (n,k)=>if (k==NameKind.free && X.env.scope.kind==.function && X.env.kindOf n==some .cell) then (n,NameKind.cell) else (n,k)).lookup x'=some .cell∨
       (names.map fun (n,k)=>if (k==NameKind.free && X.env.scope.kind==.function && X.env.kindOf n==some .cell) then (n,NameKind.cell) else (n,k)).lookup x'=some .free):=by
      intro names
      induction names with
      | nil=>intro h;simp at h
      | cons y r ih=>
       intro h
       obtain ⟨n,k⟩:=y
       by_cases hb:x'=n
       ·subst hb
        simp only [lookup_cons,beq_self_eq_true,if_true] at h
        have hk:k=.free:=Option.some.inj h
        subst hk
        rw [map_cons]
        dsimp only
        by_cases hcnd:(NameKind.free==NameKind.free && X.env.scope.kind==.function && X.env.kindOf x'==some .cell)=true
        ·rw [if_pos hcnd];left;simp [lookup_cons]
        ·rw [if_neg hcnd];right;simp [lookup_cons]
       ·have hb':(x'==n)=false:=by simpa using hb
        have h':=ih (by simpa only [lookup_cons,hb'] using h)
        rw [map_cons]
        dsimp only
        by_cases hcnd:(k==NameKind.free && X.env.scope.kind==.function && X.env.kindOf n==some .cell)=true
        ·rw [if_pos hcnd];simpa only [lookup_cons,hb'] using h'
        ·rw [if_neg hcnd];simpa only [lookup_cons,hb'] using h'
     exact key scope.names g3
    ·obtain ⟨c,hcl⟩:=hhas _ (PySem.mem_of_lookup g3) rfl
     have hcx:=hsub _ _ hcl
     rcases l with ⟨k1,_⟩ | ⟨_,c',e4,z⟩
     ·exfalso
      have k1':X.env.scope.names.lookup x'=some .local:=k1
      rcases hfree with z | z
      ·rw [z] at k1';cases k1'
      ·rw [z] at k1';cases k1'
     ·rw [hcx] at e4
      cases e4
      obtain ⟨o,ho,hd⟩:=z
      refine ⟨c,?_,o,old _ _ ho,hd⟩
      show (nw++cl).lookup x'=some c
      rw [List.lookup_append]
      cases q:nw.lookup x' with
      | none=>exact hcl
      | some c'=>
       exfalso
       have:=ck.cells _ (ncell _ _ q) rfl
       dsimp only at this
       rw [g3] at this;cases this
  ·rcases spl x c e with g | g
   ·exact ⟨none,(okc.empty x c (PySem.mem_of_lookup g)).1⟩
   ·obtain ⟨v,o,ho,hd⟩:=I2.cell x c (hsub _ _ g.2)
    exact ⟨v,o,old _ _ ho,hd⟩
  ·show aE H2 #[s2] (.lst []) hp2.objs.size=none
   rw [aj (Ne.symm hDC)]
   exact I2.hok.fresh hCle
  ·rcases spl x c e with g | g
   ·have:=nab x c g
    rw [aj (by intro z;rw [z] at this;lia)]
    exact I2.hok.fresh (by lia)
   ·obtain ⟨v,o,ho,hd⟩:=I2.cell x c (hsub _ _ g.2)
    exact upn c (Heap.lt_size ho) (I2.freeC x c (hsub _ _ g.2))
  ·have hp':p∈X.pn++pins:=by simpa [eY,cO] using hp
   obtain ⟨e,n,ne,nf,d⟩:=I2.pin p hp'
   have hlt:=Heap.lt_size e
   refine ⟨old _ _ e,upn _ hlt n,(below _ hlt).1,fun z=>?_,d⟩
   rcases List.mem_cons.mp (I2.stkSub _ z) with z' | z'
   ·exact ne z'
   ·exact nf z'
  ·show (ie L src σ).length=N'.length
   unfold ie
   rw [length_append,length_replicate,length_map,ck.len]
 have eA:X'.A=X.A:=by subst hX;rfl
 have eP:X'.prog=X.prog:=by subst hX;rfl
 have eW:X'.w=X.w:=by subst hX;rfl
 have eK:X'.K=X.K:=by subst hX;rfl
 have ec:X'.calm=true:=by subst hX;exact hc
 have exe:X'.xe=fun _ _=>False:=by subst hX;rfl
 have eE:X'.env=compEnvC scope (nw++cl) hp2.objs.size X.env:=by subst hX;rfl
 have hg':PG X' tg g:=by subst hX;exact hg _ _ _ _ _ _
 have hif':rN X' ifs tt:=by subst hX;exact hif _ _ _ _ _ _
 have he':PE X' elt te:=by subst hX;exact he _ _ _ _ _ _
 have aft:∀{H':Hp}{s':Shared},ad X' [] (ie L src σ) H' s'→ad X pins σ H' s'∧(∃m,s'.heap.Ns hp2.objs.size m)∧jz X pins H' hp2.objs.size:=by
  subst hX
  intro H' s' J
  refine ⟨I2.call' (ch:=fp) J.os J.base J.hok J.bare fun b hb=>⟨(f2 b hb).2.2.2.1,(f2 b hb).2.1,(f2 b hb).2.2.2.2.1,(f2 b hb).2.2.2.2.2⟩,?_,I2.fpOk hCle J.free⟩
  obtain ⟨m,hn,_⟩:=J.loc
  exact ⟨m,hn⟩
 have st1:tn 0 h₁:=T.keep _ _ _ st2 fun b hb o e=>old b o e
 have loop:∀s₃:Shared,s₃={ s2 with heap:=h₁,toks:=s2.toks }→
  codeAny (model X.prog X.w) X.A (.compLoop (.ListComp elt [⟨tg,iter,ifs,0⟩] scope pos) 0 (.ref it) (.ref #[s2]) (compEnvC scope (nw++cl) hp2.objs.size X.env))
   (RR (.ref #[s2]) hp2.objs.size) s₃:=by
  rintro s₃ rfl
  refine zZ (fun n s'=>eF fun i H' ys=>ad X' [] (ie L src σ) H' s'∧tn i s'.heap∧(∀b∈fp,H' b=none)∧W i n H' ys) ?_ m0
   ⟨0,_,[],I1,st1,fun b hb=>(by rw [aj (below b (fplt b hb)).2];exact (f2 b hb).1),w0⟩
  rintro n s3 ⟨i,H3,ys,I3,st3,fr3,w3⟩
  obtain ⟨hD,alt⟩:=turn i n H3 ys w3
  rcases alt with ⟨stop,qn⟩ | ⟨go,hlen,N,hN,step⟩
  ·have d:=T.done X' eP eW eK ec i [] s3 (ie L src σ) H3 (fun _ _=>False) I3 (stat fr3) st3 stop
   rw [eA] at d
   refine aL d fun r s4 ⟨hr,I4⟩=>?_
   subst hr
   obtain ⟨J,⟨m,hn⟩,fpC⟩:=aft I4
   exact hRR _ _ H3 .next s4 m J hn fpC qn
  ·have d:=T.item X' eP eW eK ec i [] s3 (ie L src σ) H3 (fun _ _=>False) I3 (stat fr3) st3 go
   rw [eA] at d
   refine aL d fun r s4 ⟨u,hr,h4⟩=>?_
   subst hr
   refine aL h4 fun _ s5 ⟨x,H5,I5,r5,y5,st5,fr5⟩=>?_
   have I5':=I5.pinned (stat fr5) (T.obj _ _ st5)
   have a1:=hg' _ s5 (ie L src σ) H5 x u _ I5' r5 (step x H5 y5)
   rw [eP,eW,eA,eE,exe] at a1
   refine aL a1 fun _ s6 ⟨σ6,H6,I6,bk,q6⟩=>?_
   have a2:=hif' _ s6 σ6 H6 _ I6 q6
   rw [eP,eW,eA,eE,exe] at a2
   refine aL a2 fun b s7 ⟨H7,I7,q7⟩=>?_
   have again:∀{H8:Hp}{s8:Shared}{ys':List V},ad X' ([]++ql fp s5.heap) σ6 H8 s8→N H8 ys'→∃m,m<n∧eF fun i H' ys=>ad X' [] (ie L src σ) H' s8∧tn i s8.heap∧(∀b∈fp,H' b=none)∧W i m H' ys:=fun {H8 s8 ys'} I8 n8=>by
    obtain ⟨m',hm,w8⟩:=hN H8 ys' n8
    refine ⟨m',hm,i+1,H8,ys',(I8.unpinned).weak bk.1.symm bk.2,T.keep _ _ _ st5 fun b hb o e=>(I8.pin (b,o) (mem_append_right _ (mem_append_right _ (i4 hb e)))).1,fun b hb=>?_,w8⟩
    obtain ⟨o,e,d⟩:=T.obj _ _ st5 b hb
    exact (I8.pin (b,o) (mem_append_right _ (mem_append_right _ (i4 hb e)))).2.1
   cases b with
   | false=>
    rw [if_neg Bool.false_ne_true] at q7 ⊢
    exact again I7 q7
   | true=>
    rw [if_pos rfl] at q7 ⊢
    have a3:=he' _ s7 σ6 H7 _ I7 q7
    rw [eP,eW,eA,eE,exe] at a3
    refine aL a3 fun xv s8 ⟨y,H8,I8,r8,hD8,q8⟩=>?_
    have a4:=xU (X:=X') _ s8 σ6 H8 (.ref #[s2]) [y] (.ref #[s2]) [xv] (fun _ H'=>H'=aE H8 #[s2] (.lst (ys++[y]))) I8 rfl (.cons r8 .nil) ⟨_,ys,y,rfl,rfl,hD8,hlen,rfl⟩
    rw [eP,eW,eA,exe] at a4
    refine aL a4 fun _ s9 ⟨_,H9,I9,_,e9⟩=>?_
    subst e9
    exact again I9 q8
 exact codeAny_compStart_list (loop _ rfl) (T.self _ 0 _ _ _ st1 (loop _ rfl))
theorem ci (hc:X.calm=true) (ck:qO X.env.scope X.N scope N' L src=true) (hi:PI X tg iter wi) (hg:∀cl C s H ex pn,PG (eY X scope cl C N' s H ex pn) tg g) (hif:∀cl C s H ex pn,rN (eY X scope cl C N' s H ex pn) ifs tt)
 (he:∀cl C s H ex pn,PE (eY X scope cl C N' s H ex pn) elt te) (hs:∀x,foldedSetIterable iter X.env x=pure x:=by intro _;rfl) :
 PE X (.ListComp elt [⟨tg,iter,ifs,0⟩] scope pos) (Br wi L src g tt te):=by
 intro pins s σ H Q I h
 have ck:=xn ck
 obtain ⟨cl,hclos,hsub,hhas⟩:=uN (scope:=scope) (env:=X.env) fun y hy e=>I.ok.has y.1 (ck.free y hy e)
 rw [eval_ListComp]
 refine wpAny_comprehension_free (use:=none) rfl hs hclos ck.kind ck.loc (yj hc ck I hsub hhas hi hg hif he h (RR:=fun acc C=>compPost (model X.prog X.w) X.A X.xe none (EP X pins σ Q) acc C) ?_)
 intro D C H' f s' m J hn fpC q
 refine ⟨m,hn,fun h' hsb=>⟨.ref D,H',?_,rfl,q⟩⟩
 obtain ⟨f0,f1,f2,f3,f4,f5⟩:=fpC
 exact J.turned (t':=s'.toks) (fun b o hb e=>(hsb.2 b hb).trans e) f0 f1 f3 f4 f5
theorem vq {j:Nat}{y:Str}{py spos:Pos} (hN:X.N.Nodup) (hj:X.N[j]?=some y) (hy:X.env.scope.names.lookup y=some .local) (hsw:swapsWith (.ListComp elt [⟨tg,iter,ifs,0⟩] scope pos) (some (.Name y py)) spos.line X.env=pure true)
 (hc:X.calm=true) (ck:qO X.env.scope X.N scope N' L src=true) (hi:PI X tg iter wi) (hg:∀cl C s H ex pn,PG (eY X scope cl C N' s H ex pn) tg g) (hif:∀cl C s H ex pn,rN (eY X scope cl C N' s H ex pn) ifs tt)
 (he:∀cl C s H ex pn,PE (eY X scope cl C N' s H ex pn) elt te) (hs:∀x,foldedSetIterable iter X.env x=pure x:=by intro _;rfl) :
 PS X (.Assign [.Name y py] (.ListComp elt [⟨tg,iter,ifs,0⟩] scope pos) spos) (Aa (Br wi L src g tt te) (oY j)):=by
 intro pins s σ H D I h
 have ck:=xn ck
 obtain ⟨cl,hclos,hsub,hhas⟩:=uN (scope:=scope) (env:=X.env) fun y hy e=>I.ok.has y.1 (ck.free y hy e)
 rw [exec_Assign_Name_used _ _ _ _ hsw]
 refine wpAny_bind (wpAny_standAt (wpAny_bind ?_))
 show wpAny _ X.A (do let _ ←comprehension (.ListComp elt [⟨tg,iter,ifs,0⟩] scope pos) scope X.env _ (newList []) false (eval iter X.env) (some (assign (.Name y py) X.env))) _ _ s
 refine wpAny_bind (wpAny_mono (wpAny_comprehension_free (use:=some (assign (.Name y py) X.env)) (Q:=fun _ s'=>SP X pins D .next s') rfl hs hclos ck.kind ck.loc
  (yj hc ck I hsub hhas hi hg hif he h (RR:=fun acc C=>compPost (model X.prog X.w) X.A X.xe (some (assign (.Name y py) X.env)) (fun _ s'=>SP X pins D .next s') acc C) ?_)) (fun _ s' hq=>wpAny_pure (wpAny_pure hq)) fun _ _ e=>e)
 intro L' C H' f s' m J hn fpC q
 show wpAny _ X.A (assign (.Name y py) X.env (.ref L')) _ _ _
 refine wpAny_assign_Name (uz J hN hj (.inl hy) (v:=.ref L') rfl (fun s2 J2 hsb=>?_) (.inr hy))
 obtain ⟨f0,f1,f2,f3,f4,f5⟩:=fpC
 obtain ⟨a,hsb,ha⟩:=hsb
 have hCa:C≠a:=by
  rcases ha with rfl | ha
  ·exact f1
  ·exact fun z=>f4 _ _ ha z.symm
 refine ⟨m,hn.sameBut hsb hCa,fun h' hsb'=>⟨_,H',?_,q⟩⟩
 exact J2.turned (t':=s2.toks) (fun b o hb e=>(hsb'.2 b hb).trans e) f0 f1 f3 f4 f5
end
end L2
namespace HT
open PySem PySem.Spec PyProof.Rows
section
variable {prog:Program}{w:World}{A:Around}{E:Value→Shared→Prop}{s:Shared}
end
end HT
namespace L2
open PySem PySem.Spec PyProof.Rows
section
variable {X:Cx}{K:Frag}
end
section
variable {X:Cx}{e:Expr}{te:TE}{st:Expr}{ts:TO}{p2 pos:Pos}
end
section
variable {H H' H'':Hp}{z n k m:Nat}{v:V}{E:Addr→Prop}{b th th' p:Addr}{xs ys zs:List V}
end
section
variable {E:Addr→Prop}{z:Nat}{H0:Hp}{σ:St}{n k m:Nat}{te tb:TE}{ta:TA}{v:V}{i:Nat}{p:Addr}{xs:List V}{K:Frag}
end
section
variable {b th:Addr}{H0:Hp}{σ:St}{zs:List V}{ta:TA}{te:TE}{n i:Nat}{Q:VK}{K:Frag}
end
theorem bt {te:TE}{i:Nat}{u:TS}{D:dj}{σ:St}{H:Hp} (h:∀Q:VK,(∀v H',u D (σ.set i (some v)) H'→Q v H')→te σ H Q):kN (Aa te (oY i)) u D σ H:=h _ fun _ _ z=>z
theorem HH {ta:TA}{i j:Nat}{u:TS}{D:dj}{σ:St}{H:Hp} (h:∀Q:List V→Hp→Prop,(∀v w H',u D ((σ.set i (some v)).set j (some w)) H'→Q [v,w] H')→ta σ H Q):kN (IN i j ta) u D σ H:=h _ fun _ _ _ z=>⟨_,(),z⟩
theorem kW {α:Type}{P:List α→Prop} (h:∀a,P [a]):∀us:List α,us.length=1→P us:=fun us hl=>by
 cases us with
 | nil=>cases hl
 | cons a r=>cases r with
  | nil=>exact h a
  | cons b r=>simp at hl
theorem cb {α:Type}{P:List α→Prop} (h:∀a b,P [a,b]):∀us:List α,us.length=2→P us:=fun us hl=>by
 cases us with
 | nil=>cases hl
 | cons a r=>exact kW (P:=fun r=>P (a :: r)) (fun b=>h a b) r (by simpa using hl)
theorem tH {α:Type}{P:List α→Prop} (h:∀a b c,P [a,b,c]):∀us:List α,us.length=3→P us:=fun us hl=>by
 cases us with
 | nil=>cases hl
 | cons a r=>exact cb (P:=fun r=>P (a :: r)) (fun b c=>h a b c) r (by simpa using hl)
theorem LB {α:Type}{P:List α→Prop} (h:∀a b c d,P [a,b,c,d]):∀us:List α,us.length=4→P us:=fun us hl=>by
 cases us with
 | nil=>cases hl
 | cons a r=>exact tH (P:=fun r=>P (a :: r)) (fun b c d=>h a b c d) r (by simpa using hl)
theorem Ai:∀{xs:List V}{us:List Value},xs.length=us.length→(∀(i:Nat) x u,xs[i]?=some x→us[i]?=some u→aO x u)→aD xs us
 | [],[],_,_=>.nil
 | x :: xs,u :: us,hl,h=>.cons (h 0 x u rfl rfl) (Ai (by simpa using hl) fun i y w e1 e2=>h (i+1) y w e1 e2)
section
variable {X:Cx}{a:Expr}{ta:TA}{p p2 pos pos2:Pos}
end
abbrev fZ (h:Heap) (z TI TO:Addr) (f0:Value) (b:Bool):Prop:=h.get? z=some { cls:=.type "zip",dict:=none,data:=.fields #[f0,.bool b,.bool false,.ref TI,.ref TO],slots:=#[] }
theorem AB {M:Model}{A:Around}{E:Value→Shared→Prop}{s:Shared}{a:Addr}{o:Obj}{Q:Option Obj→Shared→Prop} (e:s.heap.get? a=some o) (h:Q (some o) s):wpAny M A (loadIfAlive a) Q E s:=fun Γ p hΓ=>by
 unfold loadIfAlive
 rw [Sem.wp_loadIfAlive,e]
 exact h
section
variable {prog:Program}{w:World}{A:Around}{E:Value→Shared→Prop}{s:Shared}
variable {z TI TO i1 i2 l1 l2 T:Addr}{k:Nat}{xs ys:Array Value}{bb:Bool}{c1 c2:Bool}{oT:Obj}
theorem uI {Q:Bool→Shared→Prop} (hz:fZ s.heap z TI TO (rawInt T) bb) (hT:s.heap.get? T=some oT)
 (h:∀h',fZ h' z TI TO (rawInt T) true→Heap.SameBut z s.heap h'→Q false { s with heap:=h' }):wpAny (model prog w) A (Builtin.SmallTypes.ownedTupleIsFree (.ref z)) Q E s:=by
 unfold Builtin.SmallTypes.ownedTupleIsFree
 refine wpAny_bind (wpAny_field hz rfl (x:=rawInt T) rfl ?_)
 show wpAny _ _ (loadIfAlive ((T:Int).toNat) >>= _) _ _ _
 refine wpAny_bind (AB (a:=(T:Int).toNat) (by rw [toNat_natCast];exact hT) ?_)
 simp only [Option.isNone_some,Bool.false_eq_true,if_false]
 refine wpAny_bind (wpAny_field hz rfl (x:=.bool bb) rfl ?_)
 cases bb with
 | true=>exact wpAny_pure (h s.heap hz (Heap.SameBut.refl ..))
 | false=>
  refine wpAny_bind (wpAny_setField_rec hz (by simp) fun h' e sb=>wpAny_pure (h h' e sb))
theorem EL {x y:Value}{Q:Value→Shared→Prop} (D:iO z TI TO i1 i2) (n1:∀c,c=l1∨c=l2→c≠z∧c≠TO∧c≠i1∧c≠i2)
 (hz:fZ s.heap z TI TO (rawInt T) bb) (hT:s.heap.get? T=some oT) (hTI:IsPair s.heap TI (.ref i1) (.ref i2)) (hh:A.handled=none)
 (h1:bE s.heap i1 l1 k c1) (h2:bE s.heap i2 l2 k c2) (q1:bK s.heap l1 xs c1) (q2:bK s.heap l2 ys c2) (hx:xs[k]?=some x) (hy:ys[k]?=some y)
 (hQ:∀h' tk,fZ h' z TI TO (rawInt T) true→bE h' i1 l1 (k+1) c1→bE h' i2 l2 (k+1) c2→IsPair h' #[s] x y→
  (∀c o,c≠z→c≠i1→c≠i2→s.heap.get? c=some o→h'.get? c=some o)→Q (.ref #[s]) { s with heap:=h',toks:=tk }) :
 wpAny (model prog w) A (Builtin.«zip.__next__» ⟨[.ref z],[]⟩) (fun aV s'=>∃v,aV=.done (.ret v)∧Q v s') E s:=by
 obtain ⟨m1,m2,m3,m4⟩:=n1 l1 (.inl rfl)
 obtain ⟨m5,m6,m7,m8⟩:=n1 l2 (.inr rfl)
 have kx:k<xs.size:=(Array.getElem?_eq_some_iff.mp hx).1
 have ky:k<ys.size:=(Array.getElem?_eq_some_iff.mp hy).1
 have D1:=dc (prog:=prog) (w:=w) hh i1 l1 m3 xs c1
 have D2:=dc (prog:=prog) (w:=w) hh i2 l2 m8 ys c2
 show wpAny _ _ (field (.ref z) 2 >>= _) _ _ _;refine wpAny_bind (wpAny_field hz rfl (x:=.bool false) rfl ?_)
 show wpAny _ _ (field (.ref z) 3 >>= _) _ _ _;refine wpAny_bind (wpAny_field hz rfl (x:=.ref TI) rfl (wpAny_bind (wpAny_seqItems hTI rfl ?_)))
 show wpAny _ _ (Builtin.SmallTypes.ownedTupleIsFree (.ref z) >>= _) _ _ _
 refine wpAny_bind (uI hz hT fun g1 z1 t1=>?_)
 simp only [Bool.false_eq_true,if_false]
 refine wpAny_bind ?_
 rw [←Array.forIn_toList]
 simp only [forIn_cons,forIn_nil]
 refine wpAny_bind (wpAny_bind (wpAny_holding ?_))
 show wpAny _ _ (Builtin.SmallTypes.nextOf (.ref i1) >>= _) _ _ _
 refine wpAny_bind (D1.item k _ _ _ kx ⟨h1.at fun o e=>t1.extBut _ _ D.a3 e,q1.at fun o e=>t1.extBut _ _ m1 e⟩ fun x' g2 tk2 p1 st1 t2=>wpAny_pure ?_)
 have ex:x=x':=Option.some.inj (hx.symm.trans p1)
 subst ex
 refine wpAny_pure ?_
 refine wpAny_bind (wpAny_bind (wpAny_holding ?_))
 show wpAny _ _ (Builtin.SmallTypes.nextOf (.ref i2) >>= _) _ _ _
 refine wpAny_bind (D2.item k _ _ _ ky ⟨h2.at fun o e=>t2.extBut _ _ D.a0.symm (t1.extBut _ _ D.a4 e),q2.at fun o e=>t2.extBut _ _ m7 (t1.extBut _ _ m5 e)⟩ fun y' g4 tk4 p2 st2 t4=>wpAny_pure ?_)
 have ey:y=y':=Option.some.inj (hy.symm.trans p2)
 subst ey
 refine wpAny_pure (wpAny_pure ?_)
 refine wpAny_bind (wpAny_newTuple ?_ (by show 2≤sizeLine;rw [sizeLine_eq];decide))
 have sz:g4.objs.size=#[s]:=by rw [t4.1,t2.1,t1.1]
 have z4:fZ g4 z TI TO (rawInt T) true:=t4.extBut _ _ D.a4.symm (t2.extBut _ _ D.a3.symm z1)
 refine wpAny_pure ⟨(),?_⟩
 show Q (.ref g4.objs.size) _
 have pu:IsPair (g4.push { cls:=.type "tuple",data:=.seq #[x,y] }) g4.objs.size x y:=Heap.get?_push_size _ rfl
 rw [sz] at pu ⊢
 exact hQ _ _ (Heap.get?_push_of_some _ z4) ((st1.1.at fun o e=>t4.extBut _ _ D.a0 e).at fun o e=>Heap.get?_push_of_some _ e) (st2.1.at fun o e=>Heap.get?_push_of_some _ e) pu
  fun c o d1 d3 d4 e=>Heap.get?_push_of_some _ (t4.extBut _ _ d4 (t2.extBut _ _ d3 (t1.extBut _ _ d1 e)))
theorem FV {Q:Fin→Shared→Prop} (hh:A.handled=none) (D:iO z TI TO i1 i2) (n1:∀c,c=l1∨c=l2→c≠z∧c≠TO∧c≠i1∧c≠i2)
 (hz:fZ s.heap z TI TO (rawInt T) bb) (hT:s.heap.get? T=some oT) (hTI:IsPair s.heap TI (.ref i1) (.ref i2))
 (h1:bE s.heap i1 l1 k c1) (h2:bE s.heap i2 l2 k c2) (q1:bK s.heap l1 xs c1) (q2:bK s.heap l2 ys c2) (hend:xs.size=k∨(k<xs.size∧ys.size=k))
 (hE:∀h' e tk,(∀c o,c≠z→c≠i1→c≠i2→s.heap.get? c=some o→h'.get? c=some o)→(∃o,h'.get? e=some o∧o.cls=.type "StopIteration")→E (.ref e) { s with heap:=h',toks:=tk }) :
 wpAny (model prog w) A (Builtin.«zip.__next__» ⟨[.ref z],[]⟩) Q E s:=by
 obtain ⟨m1,m2,m3,m4⟩:=n1 l1 (.inl rfl)
 obtain ⟨m5,m6,m7,m8⟩:=n1 l2 (.inr rfl)
 have D1:=dc (prog:=prog) (w:=w) hh i1 l1 m3 xs c1
 have D2:=dc (prog:=prog) (w:=w) hh i2 l2 m8 ys c2
 show wpAny _ _ (field (.ref z) 2 >>= _) _ _ _;refine wpAny_bind (wpAny_field hz rfl (x:=.bool false) rfl ?_)
 show wpAny _ _ (field (.ref z) 3 >>= _) _ _ _;refine wpAny_bind (wpAny_field hz rfl (x:=.ref TI) rfl (wpAny_bind (wpAny_seqItems hTI rfl ?_)))
 show wpAny _ _ (Builtin.SmallTypes.ownedTupleIsFree (.ref z) >>= _) _ _ _
 refine wpAny_bind (uI hz hT fun g1 z1 t1=>?_)
 simp only [Bool.false_eq_true,if_false]
 refine wpAny_bind ?_
 rw [←Array.forIn_toList]
 simp only [forIn_cons,forIn_nil]
 refine wpAny_bind (wpAny_bind (wpAny_holding ?_))
 show wpAny _ _ (Builtin.SmallTypes.nextOf (.ref i1) >>= _) _ _ _
 have st0:bE g1 i1 l1 k c1∧bK g1 l1 xs c1:=⟨h1.at fun o e=>t1.extBut _ _ D.a3 e,q1.at fun o e=>t1.extBut _ _ m1 e⟩
 rcases hend with hk | ⟨kx,hk⟩
 ·refine wpAny_bind (D1.done _ _ _ (by rw [hk];exact st0) fun g2 e t2 he=>?_)
  exact hE g2 e _ (fun c o d1 d3 _ q=>t2 _ _ d3 (t1.extBut _ _ d1 q)) he
 ·refine wpAny_bind (D1.item k _ _ _ kx st0 fun x g2 tk2 p1 st1 t2=>wpAny_pure ?_)
  refine wpAny_pure ?_
  refine wpAny_bind (wpAny_bind (wpAny_holding ?_))
  show wpAny _ _ (Builtin.SmallTypes.nextOf (.ref i2) >>= _) _ _ _
  have st2:bE g2 i2 l2 k c2∧bK g2 l2 ys c2:=⟨h2.at fun o e=>t2.extBut _ _ D.a0.symm (t1.extBut _ _ D.a4 e),q2.at fun o e=>t2.extBut _ _ m7 (t1.extBut _ _ m5 e)⟩
  refine wpAny_bind (D2.done _ _ _ (by rw [hk];exact st2) fun g4 e t4 he=>?_)
  exact hE g4 e _ (fun c o d1 d3 d4 q=>t4 _ _ d4 (t2.extBut _ _ d3 (t1.extBut _ _ d1 q))) he
structure ZS (h:Heap) (z TI TO i1 i2 l1 l2:Addr) (c1 c2:Bool) (xs ys:Array Value) (k:Nat) (wr:List Addr):Prop where
 z:(IsZip h z TI TO .none∧aT fun a b=>IsPair h TO a b)∨eF fun (T:Addr) (o:Obj) (bb:Bool)=>fZ h z TI TO (rawInt T) bb∧h.get? T=some o∧T∉wr
 t:IsPair h TI (.ref i1) (.ref i2)
 a:bE h i1 l1 k c1
 b:bE h i2 l2 k c2
 c:bK h l1 xs c1
 d:bK h l2 ys c2
theorem ZS.keep {h h':Heap}{wr:List Addr} (st:ZS h z TI TO i1 i2 l1 l2 c1 c2 xs ys k wr) (hw:z∉wr∧TI∉wr∧TO∉wr∧i1∉wr∧i2∉wr∧l1∉wr∧l2∉wr) (kp:∀c o,c∉wr→h.get? c=some o→h'.get? c=some o):ZS h' z TI TO i1 i2 l1 l2 c1 c2 xs ys k wr:=by
 obtain ⟨w1,w2,w3,w4,w5,w6,w7⟩:=hw
 refine ⟨?_,kp _ _ w2 st.t,st.a.at fun o e=>kp _ o w4 e,st.b.at fun o e=>kp _ o w5 e,st.c.at fun o e=>kp _ o w6 e,st.d.at fun o e=>kp _ o w7 e⟩
 rcases st.z with ⟨h1,a,b,h2⟩ | ⟨T,o,bb,h1,h2,h3⟩
 ·exact .inl ⟨kp _ _ w1 h1,a,b,kp _ _ w3 h2⟩
 ·exact .inr ⟨T,o,bb,kp _ _ w1 h1,kp _ _ h3 h2,h3⟩
theorem Fg {x y:Value}{Q:Option Value→Shared→Prop}{wr:List Addr} (D:iO z TI TO i1 i2) (n1:∀c,c=l1∨c=l2→c≠z∧c≠TO∧c≠i1∧c≠i2) (hw:∀c∈wr,c < #[s])
 (st:ZS s.heap z TI TO i1 i2 l1 l2 c1 c2 xs ys k wr) (hh:A.handled=none) (hx:xs[k]?=some x) (hy:ys[k]?=some y)
 (hQ:∀h' tk,ZS h' z TI TO i1 i2 l1 l2 c1 c2 xs ys (k+1) wr→IsPair h' #[s] x y→(∀c o,c≠z→c≠TO→c≠i1→c≠i2→s.heap.get? c=some o→h'.get? c=some o)→Q (some (.ref #[s])) { s with heap:=h',toks:=tk }) :
 wpAny (model prog w) A (pyNext (.ref z)) Q E s:=by
 obtain ⟨m1,m2,m3,m4⟩:=n1 l1 (.inl rfl)
 obtain ⟨m5,m6,m7,m8⟩:=n1 l2 (.inr rfl)
 rcases st.z with ⟨hz,a,b,hTO⟩ | ⟨T,o,bb,hz,hT,hn⟩
 ·refine qw D n1 hz st.t hTO hh st.a st.b st.c st.d hx hy fun h' tk zo TO' t1 t2 T' sz keep=>hQ h' tk ⟨.inr ⟨_,_,false,zo,T',fun q=>?_⟩,keep _ _ D.a1 D.a5 D.a6 D.a7 st.t,t1,t2,st.c.at fun o e=>keep _ o m1 m2 m3 m4 e,st.d.at fun o e=>keep _ o m5 m6 m7 m8 e⟩ T' keep
  exact absurd (hw _ q) (lt_irrefl _)
 ·have hT':s.TypeIs (.ref z) "zip" := ⟨_,hz,rfl⟩
  unfold pyNext
  refine wpAny_bind (wpAny_attempt (wpAny_callSpecial?_slot (name:=Str.ofString "__next__") hT' F.slot_zip_next (wpAny_call_entry F.slot_zip_next hT' F.entry_zip_next
   (EL D n1 hz hT st.t hh st.a st.b st.c st.d hx hy fun h' tk zo t1 t2 T' keep=>wpAny_pure ?_) (F.args_zip_next_1 _))))
  have Tz:T≠z∧T≠i1∧T≠i2∨True:=.inr trivial
  refine hQ h' tk ⟨.inr ?_,keep _ _ D.a1 D.a6 D.a7 st.t,t1,t2,st.c.at fun o e=>keep _ o m1 m3 m4 e,st.d.at fun o e=>keep _ o m5 m7 m8 e⟩ T' fun c o d1 d2 d3 d4 e=>keep c o d1 d3 d4 e
  by_cases e1:T=z
  ·exact ⟨T,_,true,zo,by rw [e1];exact zo,hn⟩
  by_cases e2:T=i1
  ·obtain ⟨o',e',_⟩:=t1.some
   exact ⟨T,o',true,zo,by rw [e2];exact e',hn⟩
  by_cases e3:T=i2
  ·obtain ⟨o',e',_⟩:=t2.some
   exact ⟨T,o',true,zo,by rw [e3];exact e',hn⟩
  exact ⟨T,o,true,zo,keep _ _ e1 e2 e3 hT,hn⟩
theorem Gk {Q:Option Value→Shared→Prop}{wr:List Addr} (D:iO z TI TO i1 i2) (n1:∀c,c=l1∨c=l2→c≠z∧c≠TO∧c≠i1∧c≠i2)
 (st:ZS s.heap z TI TO i1 i2 l1 l2 c1 c2 xs ys k wr) (hh:A.handled=none) (hend:xs.size=k∨(k<xs.size∧ys.size=k))
 (hQ:∀h' tk,(∀c o,c≠z→c≠TO→c≠i1→c≠i2→s.heap.get? c=some o→h'.get? c=some o)→Q none { s with heap:=h',toks:=tk }) :
 wpAny (model prog w) A (pyNext (.ref z)) Q E s:=by
 rcases st.z with ⟨hz,a,b,hTO⟩ | ⟨T,o,bb,hz,hT,hn⟩
 ·exact sg hh D n1 hz st.t hTO st.a st.b st.c st.d hend hQ
 ·have hT':s.TypeIs (.ref z) "zip" := ⟨_,hz,rfl⟩
  unfold pyNext
  refine wpAny_bind (wpAny_attempt (wpAny_callSpecial?_slot (name:=Str.ofString "__next__") hT' F.slot_zip_next (wpAny_call_entry F.slot_zip_next hT' F.entry_zip_next
   (FV hh D n1 hz hT st.t st.a st.b st.c st.d hend fun h' e tk hk he=>?_) (F.args_zip_next_1 _))))
  obtain ⟨o,ho,hc⟩:=he
  refine wpAny_bind (wpAny_isInstance (T := "StopIteration") (b:=true) ⟨o,ho,hc⟩ isSubtype_stop (wpAny_pure (hQ _ tk fun c o d1 _ d3 d4 e=>hk c o d1 d3 d4 e)))
theorem yL:typeLookup (.type "zip") "keys" = pure none:=am_miss_of_fast (by kernel_rfl)
theorem wm:typeLookup (.type "zip") "__getattr__" = pure none:=am_miss_of_fast (by kernel_rfl)
theorem pJ:entryFor table "zip.__getattribute__" = some Builtin.«object.__getattribute__»:=
 entryFor_alias (id' := "object.__getattribute__") (by kernel_rfl) (by nofun) (by nofun) (by kernel_rfl)
theorem qt (a:Addr) (vs:Array Value) (name:Str) (u:Tok) (hmiss:typeLookup (.type "zip") name=pure none) (hname:(["__module__", "__name__", "__qualname__", "__doc__", "__annotations__"]:List Str).contains name=false) (hsz:name.length+100≤sizeLine) :
 Meets (Builtin.«object.__getattribute__» ⟨[.ref a,.str name u],[]⟩) (fun A R s=>s.heap.get? a=some { cls:=.type "zip",dict:=none,data:=.fields vs,slots:=#[] }∧raisesAttr (.ref a) name A R s):=
 Meets.of_wp fun prog w A R s hs=>by
  obtain ⟨hp,g,d,tk,os⟩:=s
  obtain ⟨hx,hs⟩:=hs
  have hT:(⟨hp,g,d,tk,os⟩:Shared).TypeIs (.ref a) "zip" := ⟨_,hx,rfl⟩
  unfold Builtin.«object.__getattribute__»
  repeat (any_goals (first | assumption | wp_step))
  simp only [hname,Bool.false_eq_true,if_false]
  repeat (any_goals (first | assumption | wp_step))
  exact wpAny_raiseAttrError hs.1 hs.2 (attrMsg_fits (by nofun) hsz)
theorem vE {a:Addr}{vs:Array Value}{name:Str} (hmiss:typeLookup (.type "zip") name=pure none) (hname:(["__module__", "__name__", "__qualname__", "__doc__", "__annotations__"]:List Str).contains name=false) (hsz:name.length+100≤sizeLine) {Q:Option Value→Shared→Prop} (hx:s.heap.get? a=some { cls:=.type "zip",dict:=none,data:=.fields vs,slots:=#[] }) (hA:A.handled=none)
 (h:∀h' tk,(∀b o,s.heap.get? b=some o→h'.get? b=some o)→Q none { s with heap:=h',toks:=tk }) :
 wpAny (model prog w) A (getAttr? (.ref a) name) Q E s:=by
 obtain ⟨hp,g,d,tk,os⟩:=s
 have hT:∀tk',(⟨hp,g,d,tk',os⟩:Shared).TypeIs (.ref a) "zip" := fun _=>⟨_,hx,rfl⟩
 have f1:=sub_AttributeError
 have f3:=F.slot_zip_getattribute.lookup
 have f4:=F.slot_zip_getattribute.bind (.ref a)
 have f5:=wm
 unfold getAttr? getAttrBy? getAttrBy
 repeat (any_goals (first | assumption | exact hT _ | ((with_reducible show wpAny _ _ (call (Value.builtin "zip.__getattribute__") _ _) _ _ _);refine call_meets F.slot_zip_getattribute (hT _) pJ (F.args_zip_getattribute_2 _ _) (qt a vs name _ hmiss hname hsz) ⟨hx,hA,fun h' tk' e hx'=>?_⟩) | wp_step))
 obtain ⟨t',u',he⟩:=hx'.there
 show wpAny _ _ (getattributeRaised _ _ _ _ _ _ _) _ _ _
 unfold getattributeRaised
 repeat (any_goals (first | assumption | wp_step))
 exact h _ _ hx'.keeps
theorem vX {a:Addr}{vs:Array Value}{Q:Option Value→Shared→Prop} (hx:s.heap.get? a=some { cls:=.type "zip",dict:=none,data:=.fields vs,slots:=#[] }) (hA:A.handled=none)
 (h:∀h' tk,(∀b o,s.heap.get? b=some o→h'.get? b=some o)→Q none { s with heap:=h',toks:=tk }) :
 wpAny (model prog w) A (getAttr? (.ref a) "keys") Q E s:=vE yL (by nofun) (by rw [sizeLine_eq];decide) hx hA h
end
theorem c6:entryFor table "dict.update.loop" = some Builtin.«dict.update.loop»:=entryFor_of_tree (by kernel_rfl)
theorem bv:plainId "dict.update.loop" = true:=by nofun
theorem wB {kvs:List (aI×Value)}{k:aI}{v:Value} (h:k∉kvs.map (·.1)):stored kvs k v=kvs++[(k,v)]:=by
 unfold stored
 rw [if_neg]
 intro z
 obtain ⟨x,hx,e⟩:=List.any_eq_true.mp z
 exact h (by rw [←of_decide_eq_true e];exact mem_map_of_mem hx)
theorem vN {α β:Type}:∀{ks:List α}{us:List β},ks.length=us.length→(ks.zip us).map (·.1)=ks
 | [],[],_=>rfl
 | k :: ks,u :: us,h=>by simp [vN (ks:=ks) (us:=us) (by simpa using h)]
section
variable {prog:Program}{w:World}{A:Around}{E:Value→Shared→Prop}{R:Result→Shared→Prop}
variable {z TI TO i1 i2 l1 l2 d:Addr}{xs ys:Array Value}{c1 c2:Bool}{ks:List aI}
theorem Dm (D:iO z TI TO i1 i2) (n1:∀c,c=l1∨c=l2→c≠z∧c≠TO∧c≠i1∧c≠i2) (hd:z≠d∧TI≠d∧TO≠d∧i1≠d∧i2≠d∧l1≠d∧l2≠d)
 (hh:A.handled=none) (hk:∀(i:Nat) v,xs[i]?=some v→∀k,ks[i]?=some k→fu k v=true) (lx:xs.size=ks.length) (ly:ys.size=ks.length) (nd:ks.Nodup) (hz:ks.length≤4000) :
 ∀(r i:Nat) (tk0:Tok) (s:Shared),ks.length - i=r→i≤ks.length→ZS s.heap z TI TO i1 i2 l1 l2 c1 c2 xs ys i [d]→s.heap.DictOf (bj prog w) d ((ks.zip ys.toList).take i)→
   (∀h' tk,h'.DictOf (bj prog w) d (ks.zip ys.toList)→(∀c o,c≠z→c≠TO→c≠i1→c≠i2→c≠d→s.heap.get? c=some o→h'.get? c=some o)→R (.ok (.ret .none)) { s with heap:=h',toks:=tk })→
   codeAny (model prog w) A (.builtin "dict.update.loop" ⟨[.ref d,.ref z,.int (i:Nat) tk0,.none],[]⟩) R s:=by
 intro r
 induction r with
 | zero=>
  intro i tk0 s hr hi st hD hR
  have e:i=ks.length:=by lia
  have lz:(ks.zip ys.toList).length=ks.length:=by simp [ly]
  rw [e,←lz,take_length] at hD
  refine codeAny_builtin c6 ?_
  rw [A.under_plainId bv]
  show wpAny _ _ (pyNext (Value.ref z) >>= _) _ _ _
  refine wpAny_bind (Gk D n1 st (by simpa using hh) (.inl (by rw [e,lx])) fun h' tk keep=>?_)
  show wpAny _ _ (Builtin.Dict.addKeywords d [] >>= _) _ _ _
  refine wpAny_bind (wpAny_pure (wpAny_pure ?_))
  obtain ⟨o,es,ep,ho,q⟩:=hD
  exact hR h' tk ⟨o,es,ep,keep d o hd.1.symm hd.2.2.1.symm hd.2.2.2.1.symm hd.2.2.2.2.1.symm ho,q⟩ fun c o d1 d2 d3 d4 _ e=>keep c o d1 d2 d3 d4 e
 | succ r ih=>
  intro i tk0 s hr hi st hD hR
  have lt:i<ks.length:=by lia
  have hx:xs[i]?=some xs[i]:=Array.getElem?_eq_getElem (by lia)
  have hy:ys[i]?=some ys[i]:=Array.getElem?_eq_getElem (by lia)
  have kv:=hk i _ hx ks[i] (getElem?_eq_getElem lt)
  have dlt:d < #[s]:=let ⟨o,es,ep,ho,_⟩:=hD;Heap.lt_size ho
  refine codeAny_builtin c6 ?_
  rw [A.under_plainId bv]
  show wpAny _ _ (pyNext (Value.ref z) >>= _) _ _ _
  refine wpAny_bind (Fg D n1 (fun c hc=>by rw [List.mem_singleton.mp hc];exact dlt) st (by simpa using hh) hx hy fun h' tk st' T' keep=>?_)
  have hD':h'.DictOf (bj prog w) d ((ks.zip ys.toList).take i):=let ⟨o,es,ep,ho,q⟩:=hD;⟨o,es,ep,keep d o hd.1.symm hd.2.2.1.symm hd.2.2.2.1.symm hd.2.2.2.2.1.symm ho,q⟩
  refine wpAny_bind (wpAny_holding (wpAny_bind (wpAny_tryCatch ?_)))
  unfold Builtin.Dict.pairItems
  refine wpAny_bind (wpAny_typeOf (show Shared.TypeIs { s with heap:=h',toks:=tk } (.ref #[s]) "tuple" from ⟨_,T',rfl⟩) ?_)
  rw [if_pos (by ext)]
  refine wpAny_bind (wpAny_seqItems T' rfl (wpAny_pure ?_))
  show wpAny _ _ (holding [xs[i],ys[i]] (dictSet d xs[i] ys[i])) _ _ _
  have nk:ks[i]∉((ks.zip ys.toList).take i).map (·.1):=by
   rw [map_take,vN (by simp [ly])]
   intro q
   obtain ⟨j,hj,e⟩:=List.getElem_of_mem q
   rw [length_take] at hj
   rw [List.getElem_take] at e
   have:=jJ nd (by lia) lt e
   lia
  have lz:((ks.zip ys.toList).take i).length≤sizeLine:=by rw [length_take,sizeLine_eq];simp;lia
  refine wpAny_holding (wpAny_dictSet_pairs (k:=ks[i]) kv hD' (hsz:=lz) fun h2 hD2 sb=>?_)
  rw [wB nk] at hD2
  have nx:h2.DictOf (bj prog w) d ((ks.zip ys.toList).take (i+1)):=by
   rw [List.take_succ_eq_append_getElem (by simp [ly];lia)]
   simpa using hD2
  obtain ⟨d1,d2,d3,d4,d5,d6,d7⟩:=hd
  refine wpAny_pure ⟨plainId_quiet bv _,?_⟩
  have st2:=st'.keep (h':=h2) (by simp only [mem_singleton];exact ⟨d1,d2,d3,d4,d5,d6,d7⟩) fun c o hc e=>(sb.2 c (by simpa using hc)).trans e
  have e1:((i:Nat):Int)+1=((i+1:Nat):Int):=by lia
  show codeAny _ _ (.builtin "dict.update.loop" ⟨[.ref d,.ref z,.int ((i:Nat)+1) 0,.none],[]⟩) _ _
  rw [e1]
  exact ih (i+1) 0 _ (by lia) lt st2 nx fun h3 tk3 hD3 k3=>hR h3 tk3 hD3 fun c o a1 a2 a3 a4 a5 e=>k3 c o a1 a2 a3 a4 a5 ((sb.2 c a5).trans (keep c o a1 a2 a3 a4 e))
theorem zF {s:Shared}{Q:Value→Shared→Prop}{a b:Value} (D:iO z TI TO i1 i2) (n1:∀c,c=l1∨c=l2→c≠z∧c≠TO∧c≠i1∧c≠i2)
 (hz:IsZip s.heap z TI TO .none) (hTI:IsPair s.heap TI (.ref i1) (.ref i2)) (hTO:IsPair s.heap TO a b) (h1:bE s.heap i1 l1 0 c1) (h2:bE s.heap i2 l2 0 c2) (q1:bK s.heap l1 xs c1) (q2:bK s.heap l2 ys c2)
 (hh:A.handled=none) (hk:∀(i:Nat) v,xs[i]?=some v→∀k,ks[i]?=some k→fu k v=true) (lx:xs.size=ks.length) (ly:ys.size=ks.length) (nd:ks.Nodup) (hs:ks.length≤4000)
 (h:∀h' tk,h'.DictOf (bj prog w) #[s] (ks.zip ys.toList)→(∀c o,c≠z→c≠TO→c≠i1→c≠i2→s.heap.get? c=some o→h'.get? c=some o)→Q (.ref #[s]) { s with heap:=h',toks:=tk }) :
 wpAny (model prog w) A (call (.type "dict") [.ref z]) Q E s:=by
 refine callType_codes (Q₁:=fun obj s₁=>obj=.ref #[s]∧s₁={ s with heap:=s.heap.push { cls:=.type "dict",data:=.dict #[] } }) F.kt_called_dict (F.kt_typeCall_dict_1 _) F.entry_dict_init (kt_code_dict_new _ ⟨rfl,rfl⟩) ?_
 rintro obj s₁ ⟨rfl,rfl⟩
 have hnew:(s.heap.push { cls:=.type "dict",data:=.dict #[] }).DictOf (bj prog w) #[s] []:=Heap.DictOf.new s.heap
 have up:∀c o,s.heap.get? c=some o→(s.heap.push { cls:=.type "dict",data:=.dict #[] }).get? c=some o:=fun c o e=>Heap.get?_push_of_some _ e
 have ne:∀c o,s.heap.get? c=some o→c≠#[s]:=fun c o e=>ne_of_lt (Heap.lt_size e)
 have hz':=up _ _ hz
 refine ⟨hnew.typeIs,F.args_dict_init_2 _ _,?_⟩
 unfold Builtin.«dict.__init__»
 refine wpAny_bind ?_
 unfold Builtin.Dict.selfAndRest
 refine wpAny_bind (wpAny_notOrdered_dict hnew.typeIs ?_)
 show wpAny _ _ (pure (#[s],[Value.ref z])) _ _ _
 refine wpAny_pure ?_
 show wpAny _ _ (Builtin.Dict.updateFrom "dict.__init__" #[s] (.ref z) [] .none) _ _ _
 unfold Builtin.Dict.updateFrom
 refine wpAny_bind (wpAny_typeOf (T := "zip") ⟨_,hz',rfl⟩ ?_)
 rw [if_pos (by ext)]
 refine wpAny_bind (vX hz' (by simpa using hh) fun g1 tk1 k1=>?_)
 simp only [Option.isNone_none,if_true]
 refine wpAny_bind (wpAny_rule ?_)
 refine wpAny_bind (wpAny_pyIter_zip (k1 _ _ hz') ?_)
 have kk:∀c o,s.heap.get? c=some o→g1.get? c=some o:=fun c o e=>k1 _ _ (up _ _ e)
 have hn1:g1.DictOf (bj prog w) #[s] []:=let ⟨o,es,ep,ho,q⟩:=hnew;⟨o,es,ep,k1 _ _ ho,q⟩
 refine wpAny_pure ⟨plainId_quiet bv _,?_⟩
 obtain ⟨o1,e1,_⟩:=h1.some
 obtain ⟨o2,e2,_⟩:=h2.some
 refine Dm (ks:=ks) D n1 ⟨ne _ _ hz,ne _ _ hTI,ne _ _ hTO,ne _ _ e1,ne _ _ e2,ne_of_lt q1.lt,ne_of_lt q2.lt⟩ (by simpa using hh) hk lx ly nd hs ks.length 0 0 _ rfl (zero_le _)
  ⟨.inl ⟨kk _ _ hz,_,_,kk _ _ hTO⟩,kk _ _ hTI,h1.at fun o e=>kk _ o e,h2.at fun o e=>kk _ o e,q1.at fun o e=>kk _ o e,q2.at fun o e=>kk _ o e⟩ hn1 fun h' tk hD keep=>?_
 exact ⟨rfl,h h' tk hD fun c o d1 d2 d3 d4 e=>keep c o d1 d2 d3 d4 (ne _ _ e) (kk _ _ e)⟩
end
theorem j8:bootBuiltins "dict" = some (.type "dict"):=by nofun
def Hy (K:Frag) (ta:TA):TE:=fun σ H Q=>ta σ H fun vs H1=>zO fun (a1 a2:Addr) (c1 c2:Bool) (ks:List aI) (ys:List V)=>vs=[.ref a1,.ref a2]∧jK K H1 a1 (ks.map fW) c1∧jK K H1 a2 ys c2∧ys.length=ks.length∧ks.Nodup∧ks.length≤4000∧∀p H',Nw H1 p (.dK (ks.zip ys)) H'→Q (.ref p) H'
theorem zi:∀{ks:List aI}{ys:List V}{us:List Value},aD ys us→KV (ks.zip ys) (ks.zip us)
 | [],_,_,_=>.nil
 | _ :: _,_,_,.nil=>.nil
 | k :: ks,_,_,.cons r t=>.cons ⟨rfl,r⟩ (zi t)
section
variable {X:Cx}{K:Frag}{a b:Expr}{ta:TA}{p1 p2 p3 p4:Pos}
theorem wP (hc:X.calm=true) (hg1:Gl X "dict") (hm1:X.mg "dict" = none) (hg2:Gl X "zip") (hm2:X.mg "zip" = none) (ha:PA X [a,b] ta) (ek:X.K=K:=by rfl) (hs:starEach [a,b] X.env=[(false,eval a X.env),(false,eval b X.env)]:=by rfl) (hs2:starEach [b] X.env=[(false,eval b X.env)]:=by rfl)
 (hs3:starEach [Expr.Call (.Name "zip" p2) [a,b] [] p3] X.env=[(false,eval (Expr.Call (.Name "zip" p2) [a,b] [] p3) X.env)]:=by rfl) :
 PE X (.Call (.Name "dict" p1) [.Call (.Name "zip" p2) [a,b] [] p3] [] p4) (Hy K ta):=by
 subst ek
 intro pins s σ H Q I h
 refine wpAny_Call_Name_kw (f9 I hg1 hm1 j8 ?_ (by ext) (by ext))
 refine PyProof.Rows.callWith_type1 ?_ hs3 rfl
 rw [hs3]
 show wpAny _ _ (spliced ((false,eval (Expr.Call (.Name "zip" p2) [a,b] [] p3) X.env) :: [])) _ _ s
 refine Calls.spliced_cons ?_
 refine Call_ (f9 I hg2 hm2 vY (PyProof.Rows.callWith_type1 (aL (ha p3 pins s σ H _ I h) fun us s1 ⟨vs,H1,I1,r1,q1⟩=>?_) (by rw [hs,hs2]) (by rw [hs2];rfl)))
 obtain ⟨a1,a2,c1,c2,ks,ys,rfl,p1,p2,ly,nd,hz4,q⟩:=q1
 obtain ⟨u1,u2,rfl,ru1,ru2⟩:=r1.two
 obtain rfl:u1=.ref a1:=ru1
 obtain rfl:u2=.ref a2:=ru2
 obtain ⟨its1,rv1,k1⟩:=I1.seqC p1
 obtain ⟨its2,rv2,k2⟩:=I1.seqC p2
 have d1:=k1.lt
 have d2:=k2.lt
 have l1:=rv1.length
 have l2:=rv2.length
 rw [length_map] at l1
 refine xW k1 k2 fun h' hz hTI hTO t1 t2 hk=>Calls.spliced_nil ?_
 have I2:ad X pins σ H1 { s1 with heap:=h',toks:=s1.toks }:=I1.kept hk
 have fr:∀b,#[s1]≤b→jz X pins H1 b:=fun b hle=>I1.fpOk hle (I1.hok.fresh hle)
 have nn:∀c,c=a1∨c=a2→c≠#[s1]+4∧c≠#[s1]+3∧c≠#[s1]∧c≠#[s1]+1:=fun c hc=>by
  have:c < #[s1]:=by rcases hc with rfl | rfl <;> assumption
  exact ⟨ne_of_lt (lt_of_lt_of_le this (le_add_right _ _)),ne_of_lt (lt_of_lt_of_le this (le_add_right _ _)),ne_of_lt this,ne_of_lt (lt_of_lt_of_le this (le_add_right _ _))⟩
 refine zF (s:={ s1 with heap:=h',toks:=s1.toks }) (ks:=ks) (xs:=its1.toArray) (ys:=its2.toArray) ⟨by simp,by simp,ne_of_lt (by simp),by simp,by simp,ne_of_gt (by simp),by simp,ne_of_gt (by simp),by simp,ne_of_lt (by simp)⟩ nn hz hTI hTO t1 t2 (k1.at fun o e=>hk _ o e) (k2.at fun o e=>hk _ o e) (I1.ok.hd hc)
  (fun i v e k f=>((tG rv1).2 i v (by simpa using e) k f).1) (by simp;lia) (by simp;lia) nd hz4 fun h2 tk hD keep=>?_
 have big:sysModules<h'.objs.size:=by
  have e:mainGlobals<h'.objs.size:=(I2.mod.glob.keeps I2.bk).lt
  exact lt_trans (by ext) e
 have I3:=I2.turnedNew (h':=h2) (t':=tk) (T:=h'.objs.size) (o:=.dK (ks.zip ys)) (ch:=[#[s1]+4,#[s1]+3,#[s1],#[s1]+1]) (fun b hb=>?_) (fun b u hb e=>?_) (le_refl _)
  ⟨by rw [sizeLine_eq];simp;lia,beq_eq_false_iff_ne.mpr (Ne.symm (ne_of_lt big)),ks.zip its2,zi rv2,by simpa using hD⟩
 ·exact ⟨.ref _,_,I3,rfl,q _ _ (.mk' (I2.hok.fresh (le_refl _)))⟩
 ·have hb':b=#[s1]+4∨b=#[s1]+3∨b=#[s1]∨b=#[s1]+1:=by simpa using hb
  exact fr b (by rcases hb' with rfl | rfl | rfl | rfl <;> lia)
 ·simp only [List.mem_cons,List.not_mem_nil,or_false,not_or] at hb
  exact keep b u hb.1 hb.2.1 hb.2.2.1 hb.2.2.2 e
def valD (kvs:List (aI×V)) (k:aI):Option V:=(kvs.find? fun kv=>decide (kv.1=k)).map (·.2)
theorem KV.valD:∀{kvs:List (aI×V)}{vs:List (aI×Value)} (r:KV kvs vs) (k:aI),tP (valD kvs k) (valueAt vs k)
 | _,_,.nil,_=>trivial
 | p :: ps,q :: qs,.cons h t,k=>by
  obtain ⟨h1,h2⟩:=h
  by_cases e:p.1=k
  ·have e':q.1=k:=h1.symm.trans e
   have b1:L2.valD (p :: ps) k=some p.2:=by simp [L2.valD,find?_cons,e]
   have b2:valueAt (q :: qs) k=some q.2:=by simp [valueAt,find?_cons,e']
   rw [b1,b2];exact h2
  ·have e':¬q.1=k:=fun z=>e (h1.trans z)
   have b1:L2.valD (p :: ps) k=L2.valD ps k:=by simp [L2.valD,find?_cons,e]
   have b2:valueAt (q :: qs) k=valueAt qs k:=by simp [valueAt,find?_cons,e']
   rw [b1,b2];exact KV.valD t k
inductive Ka (x:V) (y:V) (H:Hp) (Q:VK):Prop
 | mk (d:Addr) (kvs:List (aI×V)) (k:aI) (v:V) (h0:x=.ref d) (h1:y=fW k) (h2:H d=some (.dK kvs)) (h3:valD kvs k=some v) (h4:Q v H)
def LN:R2:=fun x y H Q=>Ka  x y H Q
theorem jI {P:Program}{w:World}{k:aI}{u:Value} (r:aO (fW k) u):(bj P w).is k u=true:=(xG r).1
theorem cm:si X LN:=by
 intro value slice pins s σ H x y v u Q I rx ry h hs
 obtain ⟨d,kvs,k,z,rfl,rfl,hd,he,q⟩:=h
 cases rx
 obtain ⟨_,_,vs,rel,dd⟩:=(show be X.prog X.w H s.heap d (.dK kvs) from I.hok d _ hd)
 have hv:=rel.valD k
 rw [he] at hv
 obtain ⟨w',hw,rw'⟩:=tP.some_of hv
 exact subscriptTail_builtinR (x:=w') dd.typeIs PySem.F.slot_dict_getitem.lookup (wpAny_getItem_of (jI ry) dd.mapOf hw ⟨rfl,z,H,I.tok _,rw',q⟩) hs
theorem kO:∀{ks:List aI}{ys:List V}{i:Nat}{k:aI}{y:V},ks.Nodup→ks[i]?=some k→ys[i]?=some y→valD (ks.zip ys) k=some y
 | [],_,_,_,_,_,h,_=>by simp at h
 | _ :: _,[],_,_,_,_,_,h=>by simp at h
 | k0 :: ks,y0 :: ys,0,k,y,_,h1,h2=>by
  simp at h1 h2
  subst h1 h2
  simp [valD]
 | k0 :: ks,y0 :: ys,i+1,k,y,nd,h1,h2=>by
  simp only [List.getElem?_cons_succ] at h1 h2
  have ne:¬k0=k:=fun z=>by
   rw [z] at nd
   exact (List.nodup_cons.mp nd).1 (mem_of_getElem? h1)
  have b1:valD ((k0 :: ks).zip (y0 :: ys)) k=valD (ks.zip ys) k:=by simp [valD,find?_cons,ne]
  rw [b1]
  exact kO (List.nodup_cons.mp nd).2 h1 h2
end
section
variable {X:Cx}
end
theorem aH {a b:Nat} (h:a≠b):@Ne Addr a b:=h
abbrev cw (h:Heap) (T:Addr) (a b c:Value):Prop:=h.get? T=some { cls:=.type "tuple",data:=.seq #[a,b,c] }
section
variable {prog:Program}{w:World}{A:Around}{E:Value→Shared→Prop}{s:Shared}
theorem rS {T:Addr}{a b c x:Value}{k:Nat}{Q:Unit→Shared→Prop} (hT:cw s.heap T a b c)
 (h:∀h',h'.get? T=some { cls:=.type "tuple",data:=.seq ((#[a,b,c]:Array Value).setIfInBounds k x) }→Heap.SameBut T s.heap h'→Q () { s with heap:=h' }) :
 wpAny (model prog w) A (updateSeq T (·.setIfInBounds k x)) Q E s:=by
 refine wpAny_updateSeq hT rfl (h _ ?_ (Heap.SameBut.update ..))
 rw [Heap.get?_update_self _ hT rfl]
 simp [Obj.mapSeq]
variable {n l1 l2 l3 T:Nat}{k:Nat}{xs ys zs:Array Value}{bb:Bool}{oT:Obj}
set_option maxHeartbeats 1000000 in
theorem Ej {a b c x y v:Value}{Q:Value→Shared→Prop} (hl:l1<n∧l2<n∧l3<n)
 (hz:IsZip s.heap (n+5) (n+3) (n+4) .none) (hTI:cw s.heap (n+3) (.ref n) (.ref (n+1)) (.ref (n+2))) (hTO:cw s.heap (n+4) a b c) (hh:A.handled=none)
 (h1:bE s.heap n l1 k true) (h2:bE s.heap (n+1) l2 k true) (h3:bE s.heap (n+2) l3 k true) (q1:bK s.heap l1 xs true) (q2:bK s.heap l2 ys true) (q3:bK s.heap l3 zs true) (hx:xs[k]?=some x) (hy:ys[k]?=some y) (hv:zs[k]?=some v)
 (hQ:∀h' tk,IsZip h' (n+5) (n+3) (n+4) (rawInt #[s])→bE h' n l1 (k+1) true→bE h' (n+1) l2 (k+1) true→bE h' (n+2) l3 (k+1) true→cw h' #[s] x y v→h'.objs.size=#[s]+1→
  (∀(c:Nat) o,c≠n+5→c≠n+4→c≠n→c≠n+1→c≠n+2→s.heap.get? c=some o→h'.get? c=some o)→Q (.ref #[s]) { s with heap:=h',toks:=tk }) :
 wpAny (model prog w) A (Builtin.«zip.__next__» ⟨[.ref (n+5)],[]⟩) (fun aV s'=>∃v,aV=.done (.ret v)∧Q v s') E s:=by
 obtain ⟨m1,m2,m3⟩:=hl
 have kx:k<xs.size:=(Array.getElem?_eq_some_iff.mp hx).1
 have ky:k<ys.size:=(Array.getElem?_eq_some_iff.mp hy).1
 have kv:k<zs.size:=(Array.getElem?_eq_some_iff.mp hv).1
 have D1:=dc (prog:=prog) (w:=w) hh n l1 (aH (by lia)) xs true
 have D2:=dc (prog:=prog) (w:=w) hh (n+1) l2 (aH (by lia)) ys true
 have D3:=dc (prog:=prog) (w:=w) hh (n+2) l3 (aH (by lia)) zs true
 show wpAny _ _ (field (.ref (n+5)) 2 >>= _) _ _ _;refine wpAny_bind (wpAny_field hz rfl (x:=.bool false) rfl ?_)
 show wpAny _ _ (field (.ref (n+5)) 3 >>= _) _ _ _;refine wpAny_bind (wpAny_field hz rfl (x:=.ref (n+3)) rfl (wpAny_bind (wpAny_seqItems hTI rfl ?_)))
 show wpAny _ _ (Builtin.SmallTypes.ownedTupleIsFree (.ref (n+5)) >>= _) _ _ _;refine wpAny_bind ?_;unfold Builtin.SmallTypes.ownedTupleIsFree
 refine wpAny_bind (wpAny_field hz rfl (x:=.none) rfl (wpAny_pure ?_));simp only [if_true]
 refine wpAny_bind (wpAny_rule (wpAny_bind (wpAny_field hz rfl (x:=.ref (n+4)) rfl (wpAny_bind (wpAny_setField_rec hz (by simp) fun g1 z1 t1=>?_)))))
 replace z1:IsZip g1 (n+5) (n+3) (n+4) .ellipsis:=z1
 refine wpAny_bind ?_;simp only [zipIdx_cons,zipIdx_nil,forIn_cons,forIn_nil];refine wpAny_bind (wpAny_bind (wpAny_onRaise ?_))
 show wpAny _ _ (Builtin.SmallTypes.nextOf (.ref n) >>= _) _ _ _
 refine wpAny_bind (D1.item k _ _ _ kx ⟨h1.at fun o e=>t1.extBut _ _ (aH (by lia)) e,q1.at fun o e=>t1.extBut _ _ (aH (by lia)) e⟩ fun x' g2 tk2 p1 st1 t2=>wpAny_pure ?_)
 have ex:x=x':=Option.some.inj (hx.symm.trans p1)
 subst ex
 have TO2:cw g2 (n+4) a b c:=t2.extBut _ _ (aH (by lia)) (t1.extBut _ _ (aH (by lia)) hTO)
 refine wpAny_bind (wpAny_seqItems TO2 rfl (wpAny_bind (rS TO2 fun g3 TO3 t3=>?_)))
 replace TO3:cw g3 (n+4) x b c:=TO3
 refine wpAny_bind (wpAny_letGo (wpAny_pure ?_));refine wpAny_bind (wpAny_bind (wpAny_onRaise ?_));show wpAny _ _ (Builtin.SmallTypes.nextOf (.ref (n+1)) >>= _) _ _ _
 refine wpAny_bind (D2.item k _ _ _ ky ⟨h2.at fun o e=>t3.extBut _ _ (aH (by lia)) (t2.extBut _ _ (aH (by lia)) (t1.extBut _ _ (aH (by lia)) e)),q2.at fun o e=>t3.extBut _ _ (aH (by lia)) (t2.extBut _ _ (aH (by lia)) (t1.extBut _ _ (aH (by lia)) e))⟩ fun y' g4 tk4 p2 st2 t4=>wpAny_pure ?_)
 have ey:y=y':=Option.some.inj (hy.symm.trans p2)
 subst ey
 have TO4:cw g4 (n+4) x b c:=t4.extBut _ _ (aH (by lia)) TO3
 refine wpAny_bind (wpAny_seqItems TO4 rfl (wpAny_bind (rS TO4 fun g5 TO5 t5=>?_)))
 replace TO5:cw g5 (n+4) x y c:=TO5
 refine wpAny_bind (wpAny_letGo (wpAny_pure ?_));refine wpAny_bind (wpAny_bind (wpAny_onRaise ?_));show wpAny _ _ (Builtin.SmallTypes.nextOf (.ref (n+2)) >>= _) _ _ _
 refine wpAny_bind (D3.item k _ _ _ kv ⟨h3.at fun o e=>t5.extBut _ _ (aH (by lia)) (t4.extBut _ _ (aH (by lia)) (t3.extBut _ _ (aH (by lia)) (t2.extBut _ _ (aH (by lia)) (t1.extBut _ _ (aH (by lia)) e)))),q3.at fun o e=>t5.extBut _ _ (aH (by lia)) (t4.extBut _ _ (aH (by lia)) (t3.extBut _ _ (aH (by lia)) (t2.extBut _ _ (aH (by lia)) (t1.extBut _ _ (aH (by lia)) e))))⟩ fun v' g6 tk6 p3 st3 t6=>wpAny_pure ?_)
 have ev:v=v':=Option.some.inj (hv.symm.trans p3)
 subst ev
 have TO6:cw g6 (n+4) x y c:=t6.extBut _ _ (aH (by lia)) TO5
 refine wpAny_bind (wpAny_seqItems TO6 rfl (wpAny_bind (rS TO6 fun g7 TO7 t7=>?_)))
 replace TO7:cw g7 (n+4) x y v:=TO7
 refine wpAny_bind (wpAny_letGo (wpAny_pure (wpAny_pure ?_)));refine wpAny_bind (wpAny_seqItems TO7 rfl (wpAny_bind (wpAny_newTuple ?_)))
 have sz:g7.objs.size=#[s]:=by rw [t7.1,t6.1,t5.1,t4.1,t3.1,t2.1,t1.1]
 have keep:∀(c:Nat) o,c≠n+5→c≠n+4→c≠n→c≠n+1→c≠n+2→s.heap.get? c=some o→g7.get? c=some o:=fun c o d1 d2 d3 d4 d5 e=>t7.extBut _ _ d2 (t6.extBut _ _ d5 (t5.extBut _ _ d2 (t4.extBut _ _ d4 (t3.extBut _ _ d2 (t2.extBut _ _ d3 (t1.extBut _ _ d1 e))))))
 have z7:IsZip g7 (n+5) (n+3) (n+4) .ellipsis:=t7.extBut _ _ (aH (by lia)) (t6.extBut _ _ (aH (by lia)) (t5.extBut _ _ (aH (by lia)) (t4.extBut _ _ (aH (by lia)) (t3.extBut _ _ (aH (by lia)) (t2.extBut _ _ (aH (by lia)) z1)))))
 have it1:bE g7 n l1 (k+1) true:=st1.1.at fun o e=>t7.extBut _ _ (aH (by lia)) (t6.extBut _ _ (aH (by lia)) (t5.extBut _ _ (aH (by lia)) (t4.extBut _ _ (aH (by lia)) (t3.extBut _ _ (aH (by lia)) e))))
 have it2:bE g7 (n+1) l2 (k+1) true:=st2.1.at fun o e=>t7.extBut _ _ (aH (by lia)) (t6.extBut _ _ (aH (by lia)) (t5.extBut _ _ (aH (by lia)) e))
 have it3:bE g7 (n+2) l3 (k+1) true:=st3.1.at fun o e=>t7.extBut _ _ (aH (by lia)) e
 have zlt:n+5<g7.objs.size:=Heap.lt_size z7
 show wpAny _ _ (Builtin.SmallTypes.ownedTupleHandOut (.ref (n+5)) (.ref g7.objs.size) >>= _) _ _ _;refine wpAny_bind ?_;unfold Builtin.SmallTypes.ownedTupleHandOut
 have z8:IsZip (g7.push { cls:=.type "tuple",data:=.seq #[x,y,v] }) (n+5) (n+3) (n+4) .ellipsis:=Heap.get?_push_of_some _ z7
 refine wpAny_bind (wpAny_setField_rec z8 (by simp) fun g9 z9 t9=>?_)
 replace z9:IsZip g9 (n+5) (n+3) (n+4) (rawInt g7.objs.size):=z9
 refine wpAny_setField_rec z9 (by simp) fun gA zA tA=>?_
 replace zA:IsZip gA (n+5) (n+3) (n+4) (rawInt g7.objs.size):=zA
 have up:∀(c:Nat) o,c≠n+5→g7.get? c=some o→gA.get? c=some o:=fun c o d e=>tA.extBut _ _ d (t9.extBut _ _ d (Heap.get?_push_of_some _ e))
 have TA:cw gA g7.objs.size x y v:=tA.extBut _ _ (ne_of_gt zlt) (t9.extBut _ _ (ne_of_gt zlt) (Heap.get?_push_size _ rfl))
 have sA:gA.objs.size=g7.objs.size+1:=by rw [tA.1,t9.1,Heap.size_push]
 rw [sz] at zA TA sA
 refine wpAny_pure ⟨(),?_⟩;show Q (.ref g7.objs.size) _;rw [sz]
 exact hQ gA _ zA (it1.at fun o e=>up _ o (aH (by lia)) e) (it2.at fun o e=>up _ o (aH (by lia)) e) (it3.at fun o e=>up _ o (aH (by lia)) e) TA sA fun c o d1 d2 d3 d4 d5 e=>up c o d1 (keep c o d1 d2 d3 d4 d5 e)
theorem Do {x y v:Value}{Q:Value→Shared→Prop} (hl:l1<n∧l2<n∧l3<n)
 (hz:fZ s.heap (n+5) (n+3) (n+4) (rawInt T) bb) (hT:s.heap.get? T=some oT) (hTI:cw s.heap (n+3) (.ref n) (.ref (n+1)) (.ref (n+2))) (hh:A.handled=none)
 (h1:bE s.heap n l1 k true) (h2:bE s.heap (n+1) l2 k true) (h3:bE s.heap (n+2) l3 k true) (q1:bK s.heap l1 xs true) (q2:bK s.heap l2 ys true) (q3:bK s.heap l3 zs true) (hx:xs[k]?=some x) (hy:ys[k]?=some y) (hv:zs[k]?=some v)
 (hQ:∀h' tk,fZ h' (n+5) (n+3) (n+4) (rawInt T) true→bE h' n l1 (k+1) true→bE h' (n+1) l2 (k+1) true→bE h' (n+2) l3 (k+1) true→cw h' #[s] x y v→h'.objs.size=#[s]+1→
  (∀(c:Nat) o,c≠n+5→c≠n→c≠n+1→c≠n+2→s.heap.get? c=some o→h'.get? c=some o)→Q (.ref #[s]) { s with heap:=h',toks:=tk }) :
 wpAny (model prog w) A (Builtin.«zip.__next__» ⟨[.ref (n+5)],[]⟩) (fun aV s'=>∃v,aV=.done (.ret v)∧Q v s') E s:=by
 obtain ⟨m1,m2,m3⟩:=hl
 have kx:k<xs.size:=(Array.getElem?_eq_some_iff.mp hx).1
 have ky:k<ys.size:=(Array.getElem?_eq_some_iff.mp hy).1
 have kv:k<zs.size:=(Array.getElem?_eq_some_iff.mp hv).1
 have D1:=dc (prog:=prog) (w:=w) hh n l1 (aH (by lia)) xs true
 have D2:=dc (prog:=prog) (w:=w) hh (n+1) l2 (aH (by lia)) ys true
 have D3:=dc (prog:=prog) (w:=w) hh (n+2) l3 (aH (by lia)) zs true
 show wpAny _ _ (field (.ref (n+5)) 2 >>= _) _ _ _;refine wpAny_bind (wpAny_field hz rfl (x:=.bool false) rfl ?_)
 show wpAny _ _ (field (.ref (n+5)) 3 >>= _) _ _ _;refine wpAny_bind (wpAny_field hz rfl (x:=.ref (n+3)) rfl (wpAny_bind (wpAny_seqItems hTI rfl ?_)))
 show wpAny _ _ (Builtin.SmallTypes.ownedTupleIsFree (.ref (n+5)) >>= _) _ _ _
 refine wpAny_bind (uI hz hT fun g1 z1 t1=>?_)
 simp only [Bool.false_eq_true,if_false]
 refine wpAny_bind ?_
 rw [←Array.forIn_toList]
 simp only [forIn_cons,forIn_nil]
 refine wpAny_bind (wpAny_bind (wpAny_holding ?_))
 show wpAny _ _ (Builtin.SmallTypes.nextOf (.ref n) >>= _) _ _ _
 refine wpAny_bind (D1.item k _ _ _ kx ⟨h1.at fun o e=>t1.extBut _ _ (aH (by lia)) e,q1.at fun o e=>t1.extBut _ _ (aH (by lia)) e⟩ fun x' g2 tk2 p1 st1 t2=>wpAny_pure ?_)
 have ex:x=x':=Option.some.inj (hx.symm.trans p1)
 subst ex
 refine wpAny_pure ?_
 refine wpAny_bind (wpAny_bind (wpAny_holding ?_))
 show wpAny _ _ (Builtin.SmallTypes.nextOf (.ref (n+1)) >>= _) _ _ _
 refine wpAny_bind (D2.item k _ _ _ ky ⟨h2.at fun o e=>t2.extBut _ _ (aH (by lia)) (t1.extBut _ _ (aH (by lia)) e),q2.at fun o e=>t2.extBut _ _ (aH (by lia)) (t1.extBut _ _ (aH (by lia)) e)⟩ fun y' g4 tk4 p2 st2 t4=>wpAny_pure ?_)
 have ey:y=y':=Option.some.inj (hy.symm.trans p2)
 subst ey
 refine wpAny_pure ?_
 refine wpAny_bind (wpAny_bind (wpAny_holding ?_))
 show wpAny _ _ (Builtin.SmallTypes.nextOf (.ref (n+2)) >>= _) _ _ _
 refine wpAny_bind (D3.item k _ _ _ kv ⟨h3.at fun o e=>t4.extBut _ _ (aH (by lia)) (t2.extBut _ _ (aH (by lia)) (t1.extBut _ _ (aH (by lia)) e)),q3.at fun o e=>t4.extBut _ _ (aH (by lia)) (t2.extBut _ _ (aH (by lia)) (t1.extBut _ _ (aH (by lia)) e))⟩ fun v' g6 tk6 p3 st3 t6=>wpAny_pure ?_)
 have ev:v=v':=Option.some.inj (hv.symm.trans p3)
 subst ev
 refine wpAny_pure (wpAny_pure ?_)
 refine wpAny_bind (wpAny_newTuple ?_ (by show 3≤sizeLine;rw [sizeLine_eq];decide))
 have sz:g6.objs.size=#[s]:=by rw [t6.1,t4.1,t2.1,t1.1]
 have z6:fZ g6 (n+5) (n+3) (n+4) (rawInt T) true:=t6.extBut _ _ (aH (by lia)) (t4.extBut _ _ (aH (by lia)) (t2.extBut _ _ (aH (by lia)) z1))
 refine wpAny_pure ⟨(),?_⟩
 show Q (.ref g6.objs.size) _
 have pu:cw (g6.push { cls:=.type "tuple",data:=.seq #[x,y,v] }) g6.objs.size x y v:=Heap.get?_push_size _ rfl
 have ps:(g6.push { cls:=.type "tuple",data:=.seq #[x,y,v] }).objs.size=#[s]+1:=by rw [Heap.size_push,sz]
 rw [sz] at pu ⊢
 exact hQ _ _ (Heap.get?_push_of_some _ z6) ((st1.1.at fun o e=>t6.extBut _ _ (aH (by lia)) (t4.extBut _ _ (aH (by lia)) e)).at fun o e=>Heap.get?_push_of_some _ e) ((st2.1.at fun o e=>t6.extBut _ _ (aH (by lia)) e).at fun o e=>Heap.get?_push_of_some _ e) (st3.1.at fun o e=>Heap.get?_push_of_some _ e) pu ps
  fun c o d1 d3 d4 d5 e=>Heap.get?_push_of_some _ (t6.extBut _ _ d5 (t4.extBut _ _ d4 (t2.extBut _ _ d3 (t1.extBut _ _ d1 e))))
theorem FU {Q:Fin→Shared→Prop} (hh:A.handled=none) (hl:l1<n) {f0:Value} (hz:fZ s.heap (n+5) (n+3) (n+4) f0 bb) (hf:(f0=.none∧bb=false)∨∃T:Nat,f0=rawInt T∧∃o,s.heap.get? T=some o) (hTI:cw s.heap (n+3) (.ref n) (.ref (n+1)) (.ref (n+2)))
 (h1:bE s.heap n l1 k true) (q1:bK s.heap l1 xs true) (hend:xs.size=k)
 (hE:∀h' e tk,(∀(c:Nat) o,c≠n+5→c≠n→s.heap.get? c=some o→h'.get? c=some o)→(∃o,h'.get? e=some o∧o.cls=.type "StopIteration")→E (.ref e) { s with heap:=h',toks:=tk }) :
 wpAny (model prog w) A (Builtin.«zip.__next__» ⟨[.ref (n+5)],[]⟩) Q E s:=by
 have D1:=dc (prog:=prog) (w:=w) hh n l1 (aH (by lia)) xs true
 show wpAny _ _ (field (.ref (n+5)) 2 >>= _) _ _ _;refine wpAny_bind (wpAny_field hz rfl (x:=.bool false) rfl ?_)
 show wpAny _ _ (field (.ref (n+5)) 3 >>= _) _ _ _;refine wpAny_bind (wpAny_field hz rfl (x:=.ref (n+3)) rfl (wpAny_bind (wpAny_seqItems hTI rfl ?_)))
 show wpAny _ _ (Builtin.SmallTypes.ownedTupleIsFree (.ref (n+5)) >>= _) _ _ _
 rcases hf with ⟨rfl,rfl⟩ | ⟨T,rfl,oT,hT⟩
 ·refine wpAny_bind ?_;unfold Builtin.SmallTypes.ownedTupleIsFree
  refine wpAny_bind (wpAny_field hz rfl (x:=.none) rfl (wpAny_pure ?_));simp only [if_true]
  refine wpAny_bind (wpAny_rule (wpAny_bind (wpAny_field hz rfl (x:=.ref (n+4)) rfl (wpAny_bind (wpAny_setField_rec hz (by simp) fun g1 z1 t1=>?_)))))
  replace z1:IsZip g1 (n+5) (n+3) (n+4) .ellipsis:=z1
  refine wpAny_bind ?_;simp only [zipIdx_cons,zipIdx_nil,forIn_cons,forIn_nil];refine wpAny_bind (wpAny_bind (wpAny_onRaise ?_))
  show wpAny _ _ (Builtin.SmallTypes.nextOf (.ref n) >>= _) _ _ _
  have st0:bE g1 n l1 k true∧bK g1 l1 xs true:=⟨h1.at fun o e=>t1.extBut _ _ (aH (by lia)) e,q1.at fun o e=>t1.extBut _ _ (aH (by lia)) e⟩
  refine wpAny_bind (D1.done _ _ _ (by rw [hend];exact st0) fun g2 e t2 he=>?_)
  obtain ⟨oe,e1,e2⟩:=he
  have z2:IsZip g2 (n+5) (n+3) (n+4) .ellipsis:=t2 _ _ (aH (by lia)) z1
  have ez:e≠n+5:=fun q=>by subst q;rw [z2] at e1;cases e1;simp at e2
  exact wpAny_setField_rec z2 (by simp) fun g3 _ t3=>hE g3 e _ (fun c o d1 d3 q=>t3.extBut _ _ d1 (t2 _ _ d3 (t1.extBut _ _ d1 q))) ⟨oe,t3.extBut _ _ ez e1,e2⟩
 ·refine wpAny_bind (uI hz hT fun g1 z1 t1=>?_)
  simp only [Bool.false_eq_true,if_false]
  refine wpAny_bind ?_
  rw [←Array.forIn_toList]
  simp only [forIn_cons,forIn_nil]
  refine wpAny_bind (wpAny_bind (wpAny_holding ?_))
  show wpAny _ _ (Builtin.SmallTypes.nextOf (.ref n) >>= _) _ _ _
  have st0:bE g1 n l1 k true∧bK g1 l1 xs true:=⟨h1.at fun o e=>t1.extBut _ _ (aH (by lia)) e,q1.at fun o e=>t1.extBut _ _ (aH (by lia)) e⟩
  refine wpAny_bind (D1.done _ _ _ (by rw [hend];exact st0) fun g2 e t2 he=>?_)
  exact hE g2 e _ (fun c o d1 d3 q=>t2 _ _ d3 (t1.extBut _ _ d1 q)) he
end
structure Z3 (h:Heap) (n l1 l2 l3:Nat) (xs ys zs:Array Value) (k:Nat):Prop where
 z:(IsZip h (n+5) (n+3) (n+4) .none∧eF fun a b c=>cw h (n+4) a b c)∨eF fun (T:Nat) (o:Obj) (bb:Bool)=>fZ h (n+5) (n+3) (n+4) (rawInt T) bb∧h.get? T=some o∧n+6<T
 t:cw h (n+3) (.ref n) (.ref (n+1)) (.ref (n+2))
 a:bE h n l1 k true
 b:bE h (n+1) l2 k true
 c:bE h (n+2) l3 k true
 d:bK h l1 xs true
 e:bK h l2 ys true
 f:bK h l3 zs true
section
variable {prog:Program}{w:World}{A:Around}{E:Value→Shared→Prop}{s:Shared}
variable {n l1 l2 l3:Nat}{k:Nat}{xs ys zs:Array Value}
theorem Z3.keep {h h':Heap} (st:Z3 h n l1 l2 l3 xs ys zs k) (hl:l1<n∧l2<n∧l3<n) (kp:∀(c:Nat) o,c≠n+6→h.get? c=some o→h'.get? c=some o):Z3 h' n l1 l2 l3 xs ys zs k:=by
 refine ⟨?_,kp _ _ (by lia) st.t,st.a.at fun o e=>kp _ o (by lia) e,st.b.at fun o e=>kp _ o (by lia) e,st.c.at fun o e=>kp _ o (by lia) e,st.d.at fun o e=>kp _ o (by lia) e,st.e.at fun o e=>kp _ o (by lia) e,st.f.at fun o e=>kp _ o (by lia) e⟩
 rcases st.z with ⟨h1,a,b,c,h2⟩ | ⟨T,o,bb,h1,h2,h3⟩
 ·exact .inl ⟨kp _ _ (by lia) h1,a,b,c,kp _ _ (by lia) h2⟩
 ·exact .inr ⟨T,o,bb,kp _ _ (by lia) h1,kp _ _ (by lia) h2,h3⟩
theorem CB {x y v:Value}{Q:Option Value→Shared→Prop} (hl:l1<n∧l2<n∧l3<n) (hsz:n+6 < #[s])
 (st:Z3 s.heap n l1 l2 l3 xs ys zs k) (hh:A.handled=none) (hx:xs[k]?=some x) (hy:ys[k]?=some y) (hv:zs[k]?=some v)
 (hQ:∀h' tk,Z3 h' n l1 l2 l3 xs ys zs (k+1)→cw h' #[s] x y v→h'.objs.size=#[s]+1→(∀(c:Nat) o,c≠n+5→c≠n+4→c≠n→c≠n+1→c≠n+2→s.heap.get? c=some o→h'.get? c=some o)→Q (some (.ref #[s])) { s with heap:=h',toks:=tk }) :
 wpAny (model prog w) A (pyNext (.ref (n+5))) Q E s:=by
 rcases st.z with ⟨hz,a,b,c,hTO⟩ | ⟨T,o,bb,hz,hT,hn⟩
 ·have hT':s.TypeIs (.ref (n+5)) "zip" := ⟨_,hz,rfl⟩
  unfold pyNext
  refine wpAny_bind (wpAny_attempt (wpAny_callSpecial?_slot (name:=Str.ofString "__next__") hT' F.slot_zip_next (wpAny_call_entry F.slot_zip_next hT' F.entry_zip_next
   (Ej hl hz st.t hTO hh st.a st.b st.c st.d st.e st.f hx hy hv fun h' tk zo t1 t2 t3 T' sz keep=>wpAny_pure ?_) (F.args_zip_next_1 _))))
  refine hQ h' tk ⟨.inr ⟨#[s],_,false,zo,T',hsz⟩,keep _ _ (by lia) (by lia) (by lia) (by lia) (by lia) st.t,t1,t2,t3,st.d.at fun o e=>keep _ o (by lia) (by lia) (by lia) (by lia) (by lia) e,st.e.at fun o e=>keep _ o (by lia) (by lia) (by lia) (by lia) (by lia) e,st.f.at fun o e=>keep _ o (by lia) (by lia) (by lia) (by lia) (by lia) e⟩ T' sz keep
 ·have hT':s.TypeIs (.ref (n+5)) "zip" := ⟨_,hz,rfl⟩
  unfold pyNext
  refine wpAny_bind (wpAny_attempt (wpAny_callSpecial?_slot (name:=Str.ofString "__next__") hT' F.slot_zip_next (wpAny_call_entry F.slot_zip_next hT' F.entry_zip_next
   (Do hl hz hT st.t hh st.a st.b st.c st.d st.e st.f hx hy hv fun h' tk zo t1 t2 t3 T' sz keep=>wpAny_pure ?_) (F.args_zip_next_1 _))))
  refine hQ h' tk ⟨.inr ⟨T,o,true,zo,keep _ _ (by lia) (by lia) (by lia) (by lia) hT,hn⟩,keep _ _ (by lia) (by lia) (by lia) (by lia) st.t,t1,t2,t3,st.d.at fun o e=>keep _ o (by lia) (by lia) (by lia) (by lia) e,st.e.at fun o e=>keep _ o (by lia) (by lia) (by lia) (by lia) e,st.f.at fun o e=>keep _ o (by lia) (by lia) (by lia) (by lia) e⟩ T' sz fun c o d1 _ d3 d4 d5 e=>keep c o d1 d3 d4 d5 e
theorem Fe {Q:Option Value→Shared→Prop} (hl:l1<n∧l2<n∧l3<n) (st:Z3 s.heap n l1 l2 l3 xs ys zs k) (hh:A.handled=none) (hend:xs.size=k)
 (hQ:∀h' tk,(∀(c:Nat) o,c≠n+5→c≠n→s.heap.get? c=some o→h'.get? c=some o)→Q none { s with heap:=h',toks:=tk }) :
 wpAny (model prog w) A (pyNext (.ref (n+5))) Q E s:=by
 obtain ⟨f0,bb,hz,hf⟩:aT fun f0 bb=>fZ s.heap (n+5) (n+3) (n+4) f0 bb∧((f0=.none∧bb=false)∨∃T:Nat,f0=rawInt T∧∃o,s.heap.get? T=some o):=by
  rcases st.z with ⟨hz,_⟩ | ⟨T,o,bb,hz,hT,hn⟩
  ·exact ⟨_,_,hz,.inl ⟨rfl,rfl⟩⟩
  ·exact ⟨_,_,hz,.inr ⟨T,rfl,o,hT⟩⟩
 have hT':s.TypeIs (.ref (n+5)) "zip" := ⟨_,hz,rfl⟩
 unfold pyNext
 refine wpAny_bind (wpAny_attempt (wpAny_callSpecial?_slot (name:=Str.ofString "__next__") hT' F.slot_zip_next (wpAny_call_entry F.slot_zip_next hT' F.entry_zip_next
  (FU hh hl.1 hz hf st.t st.a st.d hend fun h' e tk hk he=>?_) (F.args_zip_next_1 _))))
 obtain ⟨o,ho,hc⟩:=he
 exact wpAny_bind (wpAny_isInstance (T := "StopIteration") (b:=true) ⟨o,ho,hc⟩ isSubtype_stop (wpAny_pure (hQ _ tk hk)))
end
section
variable {prog:Program}{w:World}{A:Around}{E:Value→Shared→Prop}{R:Result→Shared→Prop}
variable {n l1 l2 l3:Nat}{xs ys zs:Array Value}
def BO (h:Heap) (ts:List Nat) (xs ys zs:Array Value):Prop:=∀(i:Nat) t,ts[i]?=some t→eF fun x y v=>xs[i]?=some x∧ys[i]?=some y∧zs[i]?=some v∧cw h t x y v
theorem Cv (hl:l1<n∧l2<n∧l3<n) (hh:A.handled=none) (ly:ys.size=xs.size) (lz:zs.size=xs.size) (hz:xs.size≤4000) :
 ∀(r i:Nat) (ts:List Nat) (c:Nat) (s:Shared),xs.size - i=r→i≤xs.size→Z3 s.heap n l1 l2 l3 xs ys zs i→n+6 < #[s]→ts.length=i→(∀t∈ts,n+6<t)→ts.Nodup→BO s.heap ts xs ys zs→
   s.heap.get? (n+6)=some { cls:=.type "list",data:=.seq (ts.map Value.ref).toArray c }→
   (∀h' tk ts' c',ts'.length=xs.size→(∀t∈ts',n+6<t)→ts'.Nodup→BO h' ts' xs ys zs→h'.get? (n+6)=some { cls:=.type "list",data:=.seq (ts'.map Value.ref).toArray c' }→(∀(c:Nat) o,c<n→s.heap.get? c=some o→h'.get? c=some o)→(∀t∈ts',t∉ts→s.heap.get? t=none)→R (.ok (.ret .none)) { s with heap:=h',toks:=tk })→
   codeAny (model prog w) A (.builtin "list.extend.loop" ⟨[.ref (n+6),.ref (n+5),.none],[]⟩) R s:=by
 intro r
 induction r with
 | zero=>
  intro i ts c s hr hi st hs lt ht nd tr hS hR
  have e:i=xs.size:=by lia
  refine codeAny_builtin F.entry_extend_loop ?_
  rw [A.under_plainId F.plain_extend_loop]
  show wpAny _ _ (pyNext (Value.ref (n+5)) >>= _) _ _ _
  refine wpAny_bind (Fe hl st (by simpa using hh) e.symm fun h' tk keep=>?_)
  refine wpAny_pure (hR h' tk ts c (by lia) ht nd (fun j t hj=>?_) (keep _ _ (by lia) (by lia) hS) (fun b o hb q=>keep b o (by lia) (by lia) q) fun t h1 h2=>absurd h1 h2)
  obtain ⟨x,y,v,a1,a2,a3,a4⟩:=tr j t hj
  have:=ht t (mem_of_getElem? hj)
  exact ⟨x,y,v,a1,a2,a3,keep _ _ (by lia) (by lia) a4⟩
 | succ r ih=>
  intro i ts c s hr hi st hs lt ht nd tr hS hR
  have lt':i<xs.size:=by lia
  have hx:xs[i]?=some xs[i]:=Array.getElem?_eq_getElem (by lia)
  have hy:ys[i]?=some ys[i]:=Array.getElem?_eq_getElem (by lia)
  have hv:zs[i]?=some zs[i]:=Array.getElem?_eq_getElem (by lia)
  refine codeAny_builtin F.entry_extend_loop ?_
  rw [A.under_plainId F.plain_extend_loop]
  show wpAny _ _ (pyNext (Value.ref (n+5)) >>= _) _ _ _
  refine wpAny_bind (CB hl hs st (by simpa using hh) hx hy hv fun h' tk st' T' sz keep=>?_)
  have hS':=keep _ _ (by lia) (by lia) (by lia) (by lia) (by lia) hS
  show wpAny _ _ (updateSeq (n+6) (·.push (.ref #[s])) >>= _) _ _ _
  refine wpAny_bind (wpAny_updateSeq (s:={ s with heap:=h',toks:=tk }) hS' rfl ?_)
  have e2:=Heap.get?_update_self (Obj.mapSeq (·.push (Value.ref #[s]))) hS' rfl
  obtain ⟨c2,e3⟩:∃c2,(h'.update (n+6) (Obj.mapSeq (·.push (Value.ref #[s])))).get? (n+6)=some { cls:=.type "list",data:=.seq ((ts++[#[s]]).map Value.ref).toArray c2 }:=by
   rw [e2]
   simp only [Obj.mapSeq,map_append,map_cons,map_nil,List.push_toArray]
   exact ⟨()⟩
  have oth:∀(b:Nat) o,b≠n+6→h'.get? b=some o→(h'.update (n+6) (Obj.mapSeq (·.push (Value.ref #[s])))).get? b=some o:=fun b o hb q=>(Heap.get?_update_other _ _ (aH (Ne.symm hb))).trans q
  have fr:s.heap.get? #[s]=none:=Heap.get?_none_of_le (le_refl _)
  have old:∀t∈ts,t < #[s]:=fun t hm=>by
   obtain ⟨j,hj⟩:=getElem?_of_mem hm
   obtain ⟨_,_,_,_,_,_,a4⟩:=tr j t hj
   exact Heap.lt_size a4
  refine wpAny_pure ⟨plainId_quiet F.plain_extend_loop _,ih (i+1) (ts++[#[s]]) c2 _ (by lia) (by lia) (st'.keep hl oth) (by show n+6<(h'.update _ _).objs.size;rw [Heap.size_update,sz];lia) (by rw [length_append,lt];rfl) (fun t hm=>?_) (List.nodup_append.mpr ⟨nd,by simp,fun a ha b hb e=>?_⟩) (fun j t hj=>?_) e3 fun h3 tk3 ts3 c3 l3' g3 n3 tr3 e4 k3 f3=>hR h3 tk3 ts3 c3 l3' g3 n3 tr3 e4 (fun b o hb q=>k3 b o hb (oth b o (by lia) (keep b o (by lia) (by lia) (by lia) (by lia) (by lia) q))) fun t h1 h2=>?_⟩
  ·rcases List.mem_append.mp hm with hm | hm
   ·exact ht t hm
   ·rw [List.mem_singleton.mp hm];exact hs
  ·rw [mem_singleton] at hb
   have:=old a ha
   rw [e,hb] at this
   exact absurd this (lt_irrefl _)
  ·by_cases hjl:j<ts.length
   ·rw [getElem?_append_left hjl] at hj
    obtain ⟨x,y,v,a1,a2,a3,a4⟩:=tr j t hj
    have:=ht t (mem_of_getElem? hj)
    exact ⟨x,y,v,a1,a2,a3,oth _ _ (by lia) (keep _ _ (by lia) (by lia) (by lia) (by lia) (by lia) a4)⟩
   ·have ej:j=i:=by
     have:=(List.getElem?_eq_some_iff.mp hj).1
     rw [length_append] at this
     simp at this
     lia
    subst ej
    rw [getElem?_append_right (by lia),lt,sub_self] at hj
    simp at hj
    subst hj
    exact ⟨_,_,_,hx,hy,hv,oth _ _ (by lia) T'⟩
  ·by_cases hm:t=#[s]
   ·rw [hm];exact fr
   ·have q:=f3 t h1 (fun z=>by
     rcases List.mem_append.mp z with z | z
     ·exact h2 z
     ·exact hm (List.mem_singleton.mp z))
    cases e:s.heap.get? t with
    | none=>rfl
    | some o=>
     have hlt:=Heap.lt_size e
     have g:=g3 t h1
     have:=oth t o (by lia) (keep t o (by lia) (by lia) (by lia) (by lia) (by lia) e)
     rw [show (h'.update (n+6) (Obj.mapSeq (·.push (Value.ref #[s])))).get? t=none from q] at this
     cases this
end
theorem zK:typeLookup (.type "zip") "__len__" = pure none:=am_miss_of_fast (by kernel_rfl)
theorem yQ:typeLookup (.type "zip") "__length_hint__" = pure none:=am_miss_of_fast (by kernel_rfl)
theorem xB (a b c:Value):checkTypeCall "zip" ⟨[a,b,c],[]⟩=pure ():=by kernel_rfl
theorem yO (a b c:Value):checkBuiltinCall "zip.__new__" ⟨[.type "zip",a,b,c],[]⟩=pure ():=by kernel_rfl
theorem tQ (a b c d:Value):argsOk "object.__init__" ⟨[a,b,c,d],[]⟩:=by
 unfold argsOk;rw [signature?_of (id := "object.__init__") (n:=['_','_','t','i','n','i','_','_']) (o:=['t','c','e','j','b','o']) (by kernel_rfl) F.owner_object];kernel_rfl
abbrev AW (h:Heap) (l1:Addr):Heap:=h.push { cls:=.type "list_iterator",data:=.fields #[.ref l1,.int 0 0] }
abbrev AQ (h:Heap) (l1 l2:Addr):Heap:=(AW h l1).push { cls:=.type "list_iterator",data:=.fields #[.ref l2,.int 0 0] }
abbrev Fs (h:Heap) (l1 l2 l3:Addr):Heap:=(AQ h l1 l2).push { cls:=.type "list_iterator",data:=.fields #[.ref l3,.int 0 0] }
abbrev Fq (h:Heap) (l1 l2 l3:Addr):Heap:=(Fs h l1 l2 l3).push { cls:=.type "tuple",data:=.seq #[.ref h.objs.size,.ref (AW h l1).objs.size,.ref (AQ h l1 l2).objs.size] }
abbrev FH (h:Heap) (l1 l2 l3:Addr):Heap:=(Fq h l1 l2 l3).push { cls:=.type "tuple",data:=.seq #[.none,.none,.none] }
abbrev wG (h:Heap) (l1 l2 l3:Addr):Heap:=(FH h l1 l2 l3).push { cls:=.type "zip",data:=.fields #[.none,.bool false,.bool false,.ref (Fs h l1 l2 l3).objs.size,.ref (Fq h l1 l2 l3).objs.size] }
set_option maxHeartbeats 8000000 in
theorem Go (l1 l2 l3:Addr) (xs ys zs:Array Value) :
 Meets (Builtin.«zip.__new__» ⟨[.type "zip",.ref l1,.ref l2,.ref l3],[]⟩) (fun _ R s=>bK s.heap l1 xs true∧bK s.heap l2 ys true∧bK s.heap l3 zs true∧R (.ok (.ret (.ref (FH s.heap l1 l2 l3).objs.size))) { s with heap:=wG s.heap l1 l2 l3 }):=
 .of_wp fun prog w A R s h=>by
  obtain ⟨hp,g,d,tk,os⟩:=s;obtain ⟨q1,q2,q3,h⟩:=h
  have hsub:=sub_zip
  have L2':bK (Shared.heap ⟨AW hp l1,g,d,tk,os⟩) l2 ys true:=bK.at q2 fun o e=>Heap.get?_push_of_some _ e
  have L3':bK (Shared.heap ⟨AQ hp l1 l2,g,d,tk,os⟩) l3 zs true:=bK.at q3 fun o e=>Heap.get?_push_of_some _ (Heap.get?_push_of_some _ e)
  have g1:Heap.IsList (Shared.heap ⟨hp,g,d,tk,os⟩) l1 xs:=q1
  have g2:Heap.IsList (Shared.heap ⟨AW hp l1,g,d,tk,os⟩) l2 ys:=L2'
  have g3:Heap.IsList (Shared.heap ⟨AQ hp l1 l2,g,d,tk,os⟩) l3 zs:=L3'
  wp_walk using wpAny_pyIter_list g1,wpAny_pyIter_list g2,wpAny_pyIter_list g3
  exact ⟨(),h⟩
section
variable {prog:Program}{w:World}{A:Around}{E:Value→Shared→Prop}{s:Shared}
theorem Dh {l1 l2 l3:Addr}{xs ys zs:Array Value}{Q:Value→Shared→Prop} (q1:bK s.heap l1 xs true) (q2:bK s.heap l2 ys true) (q3:bK s.heap l3 zs true)
 (h:∀h',Z3 h' #[s] l1 l2 l3 xs ys zs 0→h'.objs.size=#[s]+6→(∀c o,s.heap.get? c=some o→h'.get? c=some o)→IsZip h' (#[s]+5) (#[s]+3) (#[s]+4) .none→Q (.ref (#[s]+5)) { s with heap:=h' }) :
 wpAny (model prog w) A (call (.type "zip") [.ref l1,.ref l2,.ref l3]) Q E s:=by
 refine callType_new F.called_zip (by ext) (xB _ _ _) (yO _ _ _) (fun obj=>tQ obj _ _ _) F.entry_zip_new (Go l1 l2 l3 xs ys zs) ⟨q1,q2,q3,?_⟩
 have s1:(AW s.heap l1).objs.size=#[s]+1:=Heap.size_push ..
 have s2:(AQ s.heap l1 l2).objs.size=#[s]+2:=by rw [Heap.size_push,s1]
 have s3:(Fs s.heap l1 l2 l3).objs.size=#[s]+3:=by rw [Heap.size_push,s2]
 have s4:(Fq s.heap l1 l2 l3).objs.size=#[s]+4:=by rw [Heap.size_push,s3]
 have s5:(FH s.heap l1 l2 l3).objs.size=#[s]+5:=by rw [Heap.size_push,s4]
 have s6:(wG s.heap l1 l2 l3).objs.size=#[s]+6:=by rw [Heap.size_push,s5]
 have g6:(wG s.heap l1 l2 l3).get? (FH s.heap l1 l2 l3).objs.size=some _:=Heap.get?_push_size _ rfl
 have g5:(wG s.heap l1 l2 l3).get? (Fq s.heap l1 l2 l3).objs.size=some _:=Heap.get?_push_of_some _ (Heap.get?_push_size _ rfl)
 have g4:(wG s.heap l1 l2 l3).get? (Fs s.heap l1 l2 l3).objs.size=some _:=Heap.get?_push_of_some _ (Heap.get?_push_of_some _ (Heap.get?_push_size _ rfl))
 have g3:(wG s.heap l1 l2 l3).get? (AQ s.heap l1 l2).objs.size=some _:=Heap.get?_push_of_some _ (Heap.get?_push_of_some _ (Heap.get?_push_of_some _ (Heap.get?_push_size _ rfl)))
 have g2:(wG s.heap l1 l2 l3).get? (AW s.heap l1).objs.size=some _:=Heap.get?_push_of_some _ (Heap.get?_push_of_some _ (Heap.get?_push_of_some _ (Heap.get?_push_of_some _ (Heap.get?_push_size _ rfl))))
 have g1:(wG s.heap l1 l2 l3).get? #[s]=some _:=Heap.get?_push_of_some _ (Heap.get?_push_of_some _ (Heap.get?_push_of_some _ (Heap.get?_push_of_some _ (Heap.get?_push_of_some _ (Heap.get?_push_size _ rfl)))))
 have up:∀c o,s.heap.get? c=some o→(wG s.heap l1 l2 l3).get? c=some o:=fun c o x=>Heap.get?_push_of_some _ (Heap.get?_push_of_some _ (Heap.get?_push_of_some _ (Heap.get?_push_of_some _ (Heap.get?_push_of_some _ (Heap.get?_push_of_some _ x)))))
 show _∧_
 rw [s3,s4,s5] at g6
 rw [s1,s2,s3] at g4
 rw [s4] at g5
 rw [s2] at g3
 rw [s1] at g2
 rw [s5]
 exact ⟨⟨_,g6,rfl⟩,h _ ⟨.inl ⟨g6,_,_,_,g5⟩,g4,⟨_,g1,rfl,rfl⟩,⟨_,g2,rfl,rfl⟩,⟨_,g3,rfl,rfl⟩,q1.at fun o e=>up _ o e,q2.at fun o e=>up _ o e,q3.at fun o e=>up _ o e⟩ s6 up g6⟩
set_option maxHeartbeats 1000000 in
theorem yF {n l1 l2 l3:Nat}{xs ys zs:Array Value}{Q:Value→Shared→Prop} (hl:l1<n∧l2<n∧l3<n) (st:Z3 s.heap n l1 l2 l3 xs ys zs 0) (hz:IsZip s.heap (n+5) (n+3) (n+4) .none) (hs:#[s]=n+6) (hh:A.handled=none) (ly:ys.size=xs.size) (lz:zs.size=xs.size) (h4:xs.size≤4000)
 (h:∀h' tk ts' c',ts'.length=xs.size→(∀t∈ts',n+6<t)→ts'.Nodup→BO h' ts' xs ys zs→h'.get? (n+6)=some { cls:=.type "list",data:=.seq (ts'.map Value.ref).toArray c' }→(∀(c:Nat) o,c<n→s.heap.get? c=some o→h'.get? c=some o)→Q (.ref (n+6)) { s with heap:=h',toks:=tk }) :
 wpAny (model prog w) A (call (.type "list") [.ref (n+5)]) Q E s:=by
 refine callType_codes (Q₁:=fun obj s₁=>obj=.ref #[s]∧s₁={ s with heap:=s.heap.push { cls:=.type "list",data:=.seq #[] } }) F.called_list (F.typeCall_list_1 _) F.entry_list_init (code_list_new _ ⟨rfl,rfl⟩) fun obj s₁ h₁=>?_
 obtain ⟨rfl,rfl⟩:=h₁
 have hS:(s.heap.push { cls:=.type "list",data:=.seq #[] }).get? (n+6)=some { cls:=.type "list",data:=.seq #[] }:=by rw [←hs];exact Heap.get?_push_size _ rfl
 rw [hs]
 refine ⟨⟨_,hS,rfl⟩,F.args_list_init_2 _ _,?_⟩
 have st1:Z3 (s.heap.push { cls:=.type "list",data:=.seq #[] }) n l1 l2 l3 xs ys zs 0:=st.keep hl fun c o _ e=>Heap.get?_push_of_some _ e
 show wpAny _ _ (do let old ←Builtin.List.listItems (.ref (n+6));Builtin.List.listUpdate (.ref (n+6)) (fun _=>#[]);letGo old.toList.reverse;Builtin.List.listExtendWith (.ref (n+6)) (.ref (n+5)) .none) _ _ _
 refine wpAny_bind ?_
 unfold Builtin.List.listItems
 refine wpAny_bind (wpAny_seqItems hS rfl (wpAny_pure ?_))
 show wpAny _ _ (updateSeq (n+6) (fun _=>#[]) >>= fun _=>letGo (#[]:Array Value).toList.reverse >>= fun _=>Builtin.List.listExtendWith (.ref (n+6)) (.ref (n+5)) .none) _ _ _
 refine wpAny_bind (wpAny_updateSeq hS rfl ?_)
 have hS₂:=Heap.get?_update_self (Obj.mapSeq (fun _=>(#[]:Array Value))) hS rfl
 have oth:∀(b:Nat) o,b≠n+6→(s.heap.push { cls:=.type "list",data:=.seq #[] }).get? b=some o→((s.heap.push { cls:=.type "list",data:=.seq #[] }).update (n+6) (Obj.mapSeq (fun _=>(#[]:Array Value)))).get? b=some o:=
  fun b o hb e=>(Heap.get?_update_other _ _ (aH (Ne.symm hb))).trans e
 refine wpAny_bind (wpAny_letGo ?_)
 have st2:=st1.keep hl oth
 have hz2:=oth _ _ (by lia) (Heap.get?_push_of_some { cls:=.type "list",data:=.seq #[] } hz)
 unfold Builtin.List.listExtendWith
 refine wpAny_bind (wpAny_typeOf (T := "zip") ⟨_,hz2,rfl⟩ ?_)
 have h1:Builtin.List.listSameRef (.ref (n+6)) (.ref (n+5))=false:=by simp [Builtin.List.listSameRef]
 have h2:(Value.type "zip" == Value.type "list")=false:=by decide
 have h3:(Value.type "zip" == Value.type "tuple")=false:=by decide
 simp only [h1,h2,h3,Bool.or_false,Bool.false_eq_true,if_false]
 refine wpAny_bind (wpAny_pyIter_zip hz2 ?_)
 refine wpAny_bind (wpAny_holding ?_)
 unfold Builtin.List.listLengthHint
 refine wpAny_bind (wpAny_specialOf (T := "zip") ⟨_,hz2,rfl⟩ zK ?_)
 refine wpAny_ite_split (fun hab=>absurd hab (by ext)) (fun _=>?_)
 refine wpAny_ite_split (fun hab=>absurd hab (by ext)) (fun _=>?_)
 refine wpAny_bind (wpAny_specialOf (T := "zip") ⟨_,hz2,rfl⟩ yQ ?_)
 refine wpAny_pure ?_
 simp only [Bool.true_or,if_true]
 refine wpAny_bind (wpAny_rule ?_)
 refine wpAny_bind ?_
 show wpAny _ _ (updateSeq (n+6) (·.push .none) >>= fun _=>updateSeq (n+6) (·.pop)) _ _ _
 refine wpAny_bind (wpAny_updateSeq hS₂ rfl ?_)
 have hS₃:=Heap.get?_update_self (Obj.mapSeq (·.push Value.none)) hS₂ rfl
 refine wpAny_updateSeq (hz:=by seq_fits) hS₃ rfl ?_
 have hS₄:=Heap.get?_update_self (Obj.mapSeq (·.pop)) hS₃ rfl
 obtain ⟨c4,e4⟩:∃c4,((((s.heap.push { cls:=.type "list",data:=.seq #[] }).update (n+6) (Obj.mapSeq (fun _=>(#[]:Array Value)))).update (n+6) (Obj.mapSeq (·.push Value.none))).update (n+6) (Obj.mapSeq (·.pop))).get? (n+6)=some { cls:=.type "list",data:=.seq (([]:List Nat).map Value.ref).toArray c4 }:=by
  rw [hS₄]
  simp only [Obj.mapSeq,map_nil]
  exact ⟨()⟩
 have oth4:∀(b:Nat) o,b≠n+6→(s.heap.push { cls:=.type "list",data:=.seq #[] }).get? b=some o→((((s.heap.push { cls:=.type "list",data:=.seq #[] }).update (n+6) (Obj.mapSeq (fun _=>(#[]:Array Value)))).update (n+6) (Obj.mapSeq (·.push Value.none))).update (n+6) (Obj.mapSeq (·.pop))).get? b=some o:=
  fun b o hb e=>(Heap.get?_update_other _ _ (aH (Ne.symm hb))).trans ((Heap.get?_update_other _ _ (aH (Ne.symm hb))).trans (oth b o hb e))
 refine wpAny_pure ⟨plainId_quiet F.plain_extend_loop _,?_⟩
 refine Cv hl (by simpa using hh) ly lz h4 xs.size 0 [] c4 _ rfl (zero_le _) (st1.keep hl oth4) (by show n+6<Array.size _;rw [Heap.size_update,Heap.size_update,Heap.size_update,Heap.size_push,hs];lia) rfl (fun t ht=>(by cases ht)) nodup_nil (fun j t hj=>(by simp at hj)) e4 fun h' tk ts' c' l g nd tr e k f=>?_
 exact ⟨rfl,h h' tk ts' c' l g nd tr e fun c o hc q=>k c o hc (oth4 c o (by lia) (Heap.get?_push_of_some _ q))⟩
end
def yB (H:Hp) (N:Addr→Option HO):Hp:=fun b=>match N b with | some o=>some o | none=>H b
theorem vA {H:Hp}{N:Addr→Option HO}{b:Addr}{o:HO} (h:N b=some o):yB H N b=some o:=by unfold yB;rw [h]
theorem qR {H:Hp}{N:Addr→Option HO}{b:Addr} (h:N b=none):yB H N b=H b:=by unfold yB;rw [h]
section
variable {X:Cx}{pins:List (Addr×Obj)}{σ:St}{H:Hp}{s:Shared}{h':Heap}
theorem ad.many {t':Nat}{N:Addr→Option HO} (I:ad X pins σ H s) (k:∀b u,s.heap.get? b=some u→h'.get? b=some u)
 (hN:∀b o,N b=some o→#[s]≤b) (new:∀b o,N b=some o→be X.prog X.w (yB H N) h' b o):ad X pins σ (yB H N) { s with heap:=h',toks:=t' }:=by
 have old:∀b,b < #[s]→N b=none:=fun b hb=>by
  cases e:N b with
  | none=>rfl
  | some o=>exact absurd (lt_of_lt_of_le hb (hN b o e)) (lt_irrefl _)
 have hs:∀b u,H b=some u→yB H N b=some u:=fun b u e=>by rw [qR (old b (I.hok.lt e))];exact e
 refine I.step (g':=s.gens) (d':=s.drawn) (ch:=[]) (fun b hb=>(by cases hb)) (fun b o _ _ _ e _=>k b o e) (fun b o _ _ _ e _=>⟨o.slots,k b o e⟩) (fun b o _ e n=>?_)
  (fun b o _ e=>⟨o,k b o e⟩) (fun b xs e=>hs b _ e) (fun b o u e=>hs b _ e) (fun b ps e=>⟨#[],by rw [hs b _ e];simp⟩) (fun m hm=>?_) (fun b u e=>?_) I.bare
 ·rw [qR (old b (Heap.lt_size e))];exact n
 ·obtain ⟨o,es,ep,ho,r⟩:=hm
  exact ⟨o,es,ep,k _ o ho,r⟩
 ·cases hb:N b with
  | some o=>
   rw [vA hb] at e
   cases e
   exact new b _ hb
  | none=>
   rw [qR hb] at e
   exact (I.hok b u e).stay (fun c v hc q=>k c v q) (fun c q=>hs c _ q) fun c xs q=>hs c _ q
end
def Ge (K:Frag) (ta:TA):TE:=fun σ H Q=>ta σ H fun vs H1=>zO fun (a1 a2 a3:Addr) (xs ys zs:List V)=>vs=[.ref a1,.ref a2,.ref a3]∧aq K H1 a1 xs∧aq K H1 a2 ys∧aq K H1 a3 zs∧ys.length=xs.length∧zs.length=xs.length∧xs.length≤4000∧
 ∀(l:Addr) (ts:List Addr) (H':Hp),ag H1 H'→H1 l=none→H' l=some (.lst (ts.map V.ref))→ts.length=xs.length→(∀(i:Nat) t,ts[i]?=some t→eF fun x y z=>xs[i]?=some x∧ys[i]?=some y∧zs[i]?=some z∧H' t=some (.tup [x,y,z]))→Q (.ref l) H'
section
variable {X:Cx}{K:Frag}{a b c:Expr}{ta:TA}{p1 p2 p3 p4:Pos}
theorem Da (hc:X.calm=true) (hg1:Gl X "list") (hm1:X.mg "list" = none) (hg2:Gl X "zip") (hm2:X.mg "zip" = none) (ha:PA X [a,b,c] ta) (ek:X.K=K:=by rfl) (hs:starEach [a,b,c] X.env=[(false,eval a X.env),(false,eval b X.env),(false,eval c X.env)]:=by rfl) (hs2:starEach [b,c] X.env=[(false,eval b X.env),(false,eval c X.env)]:=by rfl)
 (hs3:starEach [Expr.Call (.Name "zip" p2) [a,b,c] [] p3] X.env=[(false,eval (Expr.Call (.Name "zip" p2) [a,b,c] [] p3) X.env)]:=by rfl) :
 PE X (.Call (.Name "list" p1) [.Call (.Name "zip" p2) [a,b,c] [] p3] [] p4) (Ge K ta):=by
 subst ek
 intro pins s σ H Q I h
 refine wpAny_Call_Name_kw (f9 I hg1 hm1 fY ?_ (by ext) (by ext))
 refine PyProof.Rows.callWith_type1 ?_ hs3 rfl
 rw [hs3]
 show wpAny _ _ (spliced ((false,eval (Expr.Call (.Name "zip" p2) [a,b,c] [] p3) X.env) :: [])) _ _ s
 refine Calls.spliced_cons ?_
 refine Call_ (f9 I hg2 hm2 vY (PyProof.Rows.callWith_type1 (aL (ha p3 pins s σ H _ I h) fun us s1 ⟨vs,H1,I1,r1,q1⟩=>?_) (by rw [hs,hs2]) (by rw [hs2];rfl)))
 obtain ⟨a1,a2,a3,xs,ys,zs,rfl,p1,p2,p3,ly,lz,h4,q⟩:=q1
 obtain ⟨u1,u2,u3,rfl,ru1,ru2,ru3⟩:eF fun u1 u2 u3=>us=[u1,u2,u3]∧aO (.ref a1) u1∧aO (.ref a2) u2∧aO (.ref a3) u3:=by
  cases r1 with
  | cons r1 r=>
  cases r with
  | cons r2 r=>
  cases r with
  | cons r3 r=>
  cases r
  exact ⟨_,_,(),r1,r2,r3⟩
 obtain rfl:u1=.ref a1:=ru1
 obtain rfl:u2=.ref a2:=ru2
 obtain rfl:u3=.ref a3:=ru3
 obtain ⟨its1,rv1,k1⟩:=I1.seqC (c:=true) p1
 obtain ⟨its2,rv2,k2⟩:=I1.seqC (c:=true) p2
 obtain ⟨its3,rv3,k3⟩:=I1.seqC (c:=true) p3
 have d1:=k1.lt
 have d2:=k2.lt
 have d3:=k3.lt
 have l1:=rv1.length
 have l2:=rv2.length
 have l3:=rv3.length
 refine Dh k1 k2 k3 fun h' st sz hk hz=>Calls.spliced_nil ?_
 refine yF (s:={ s1 with heap:=h' }) ⟨d1,d2,d3⟩ st hz sz (I1.ok.hd hc) (by simp;lia) (by simp;lia) (by simp;lia) fun h2 tk ts c' lt gt nd tr hL kp=>?_
 have lts:ts.length=xs.length:=by rw [lt];simp [l1]
 let N:Addr→Option HO:=fun b=>if b=#[s1]+6 then some (.lst (ts.map V.ref)) else if b∈ts then some (.tup [xs.getD (ts.idxOf b) .non,ys.getD (ts.idxOf b) .non,zs.getD (ts.idxOf b) .non]) else none
 have N6:N (#[s1]+6)=some (.lst (ts.map V.ref)):=if_pos rfl
 have Nt:∀(i:Nat) t,ts[i]?=some t→N t=some (.tup [xs.getD i .non,ys.getD i .non,zs.getD i .non]):=fun i t hi=>by
  have hm:=mem_of_getElem? hi
  have hix:ts.idxOf t=i:=by
   obtain ⟨hj,e⟩:=List.getElem?_eq_some_iff.mp hi
   have h1:ts.idxOf t<ts.length:=List.idxOf_lt_length_of_mem hm
   exact jJ nd h1 hj (by rw [List.getElem_idxOf h1,e])
  show (if _ then _ else _)=_
  rw [if_neg (fun z=>absurd (gt t hm) (by rw [z];exact lt_irrefl _)),if_pos hm,hix]
 have k9:∀b u,s1.heap.get? b=some u→h2.get? b=some u:=fun b u e=>kp b u (Heap.lt_size e) (hk b u e)
 have vals:∀ts:List Nat,aD (ts.map V.ref) (ts.map Value.ref):=fun ts=>by
  induction ts with
  | nil=>exact .nil
  | cons t r ih=>exact .cons rfl ih
 have get':∀{xs:List V}{i:Nat},i<xs.length→xs[i]?=some (xs.getD i .non):=fun {xs i} hi=>by simp [getElem?_eq_getElem hi]
 have I3:=I1.many (h':=h2) (t':=tk) (N:=N) k9 (fun b o e=>?_) (fun b o e=>?_)
 ·refine ⟨.ref (#[s1]+6),yB H1 N,I3,rfl,q _ ts _ (fun b u e=>?_) (I1.hok.fresh (le_add_right _ _)) (vA N6) lts fun i t hi=>?_⟩
  ·rw [qR]
   ·exact e
   ·have:=I1.hok.lt e
    show (if _ then _ else _)=_
    rw [if_neg (fun z=>absurd this (by rw [z];exact Nat.not_lt.mpr (le_add_right _ _))),if_neg fun hm=>?_]
    exact absurd this (Nat.not_lt.mpr (le_trans (le_add_right _ _) (le_of_lt (gt b hm))))
  ·have hi':i<xs.length:=by rw [←lts];exact (List.getElem?_eq_some_iff.mp hi).1
   exact ⟨_,_,_,get' hi',get' (by lia),get' (by lia),vA (Nt i t hi)⟩
 ·by_cases h6:b=#[s1]+6
  ·rw [h6];exact le_add_right _ _
  ·have e':(if b∈ts then some (HO.tup [xs.getD (ts.idxOf b) .non,ys.getD (ts.idxOf b) .non,zs.getD (ts.idxOf b) .non]) else none)=some o:=by rw [←e];exact (if_neg h6).symm
   by_cases hm:b∈ts
   ·exact le_trans (le_add_right _ _) (le_of_lt (gt b hm))
   ·rw [if_neg hm] at e';cases e'
 ·by_cases h6:b=#[s1]+6
  ·subst h6
   rw [N6] at e
   cases e
   exact ⟨by rw [length_map,lts,sizeLine_eq];lia,ts.map Value.ref,c',vals ts,hL⟩
  ·have e':(if b∈ts then some (HO.tup [xs.getD (ts.idxOf b) .non,ys.getD (ts.idxOf b) .non,zs.getD (ts.idxOf b) .non]) else none)=some o:=by rw [←e];exact (if_neg h6).symm
   by_cases hm:b∈ts
   ·rw [if_pos hm] at e'
    cases e'
    have h1:ts.idxOf b<ts.length:=List.idxOf_lt_length_of_mem hm
    obtain ⟨x,y,v,a1,a2,a3,a4⟩:=tr (ts.idxOf b) b (by rw [getElem?_eq_getElem h1,List.getElem_idxOf h1])
    obtain ⟨x',ex,rx⟩:=rv1.get (get' (xs:=xs) (i:=ts.idxOf b) (by lia))
    obtain ⟨y',ey,ry⟩:=rv2.get (get' (xs:=ys) (i:=ts.idxOf b) (by lia))
    obtain ⟨v',ev,rv⟩:=rv3.get (get' (xs:=zs) (i:=ts.idxOf b) (by lia))
    have b1:x'=x:=Option.some.inj (ex.symm.trans (by simpa using a1))
    have b2:y'=y:=Option.some.inj (ey.symm.trans (by simpa using a2))
    have b3:v'=v:=Option.some.inj (ev.symm.trans (by simpa using a3))
    subst b1 b2 b3
    exact ⟨by show 3≤sizeLine;rw [sizeLine_eq];decide,[x',y',v'],.cons rx (.cons ry (.cons rv .nil)),⟨_,a4,rfl,()⟩,_,a4,rfl⟩
   ·rw [if_neg hm] at e';cases e'
end
theorem xE:typeLookup (.type "list") "keys" = pure none:=am_miss_of_fast (by kernel_rfl)
section
variable {prog:Program}{w:World}{A:Around}{E:Value→Shared→Prop}{s:Shared}
theorem uR {a:Addr}{xs:Array Value}{k:Nat}{name:Str}{Q:Option Value→Shared→Prop} (hmiss:typeLookup (.type "list") name=pure none) (hname:(["__module__", "__name__", "__qualname__", "__doc__", "__annotations__"]:List Str).contains name=false) (hsz:name.length+100≤sizeLine)
 (hx:s.heap.get? a=some { cls:=.type "list",dict:=none,data:=.seq xs k,slots:=#[] }) (hA:A.handled=none)
 (h:∀h' tk,(∀b o,s.heap.get? b=some o→h'.get? b=some o)→Q none { s with heap:=h',toks:=tk }) :
 wpAny (model prog w) A (getAttr? (.ref a) name) Q E s:=by
 obtain ⟨hp,g,d,tk,os⟩:=s
 have hT:∀tk',(⟨hp,g,d,tk',os⟩:Shared).TypeIs (.ref a) "list" := fun _=>⟨_,hx,rfl⟩
 have f1:=sub_AttributeError
 have f3:=F.slot_list_getattribute.lookup
 have f4:=F.slot_list_getattribute.bind (.ref a)
 have f5:=am_list_getattr_none
 unfold getAttr? getAttrBy? getAttrBy
 repeat (any_goals (first | assumption | exact hT _ | ((with_reducible show wpAny _ _ (call (Value.builtin "list.__getattribute__") _ _) _ _ _);refine call_meets F.slot_list_getattribute (hT _) am_entry_list_getattribute (F.args_list_getattribute_2 _ _) (meets_getattribute_miss_list a xs k #[] name _ hmiss hname hsz) ⟨hx,hA,fun h' tk' e hx'=>?_⟩) | wp_step))
 obtain ⟨t',u',he⟩:=hx'.there
 show wpAny _ _ (getattributeRaised _ _ _ _ _ _ _) _ _ _
 unfold getattributeRaised
 repeat (any_goals (first | assumption | wp_step))
 exact h _ _ hx'.keeps
end
section
variable {prog:Program}{w:World}{A:Around}{E:Value→Shared→Prop}{R:Result→Shared→Prop}
variable {l it d:Nat}{vs:Array Value}{ks:List aI}{us:List Value}
def Ms (h:Heap) (vs:Array Value) (ks:List aI) (us:List Value) (it d:Nat):Prop:=∀(i:Nat),i<ks.length→zO fun (T:Nat) (x y:Value) (c:Nat) (sl:Array (Option Value)) (dd:Option Addr)=>vs[i]?=some (.ref T)∧h.get? T=some ⟨.type "tuple",dd,.seq #[x,y] c,sl⟩∧us[i]?=some y∧(∀k,ks[i]?=some k→fu k x=true)∧T≠it∧T≠d
theorem Cp (n1:l≠it∧l≠d∧it≠d) (hh:A.handled=none) (lv:vs.size=ks.length) (lu:us.length=ks.length) (nd:ks.Nodup) (hz:ks.length≤4000) :
 ∀(r i:Nat) (tk0:Tok) (s:Shared),ks.length - i=r→i≤ks.length→s.heap.IsListIter it l i→s.heap.IsList l vs→Ms s.heap vs ks us it d→s.heap.DictOf (bj prog w) d ((ks.zip us).take i)→
   (∀h' tk,h'.DictOf (bj prog w) d (ks.zip us)→(∀(c:Nat) o,c≠it→c≠d→s.heap.get? c=some o→h'.get? c=some o)→R (.ok (.ret .none)) { s with heap:=h',toks:=tk })→
   codeAny (model prog w) A (.builtin "dict.update.loop" ⟨[.ref d,.ref it,.int (i:Nat) tk0,.none],[]⟩) R s:=by
 have W:=(Walks.list (prog:=prog) (w:=w) (A:=A.in1) hh it l n1.1 vs)
 intro r
 induction r with
 | zero=>
  intro i tk0 s hr hi st hl pr hD hR
  have e:i=ks.length:=by lia
  have lz:(ks.zip us).length=ks.length:=by simp [lu]
  rw [e,←lz,take_length] at hD
  refine codeAny_builtin c6 ?_
  rw [A.under_plainId bv]
  show wpAny _ _ (pyNext (Value.ref it) >>= _) _ _ _
  refine wpAny_bind (W.done s _ _ (by rw [lv,←e];exact ⟨st,hl⟩) fun h' tk keep=>?_)
  show wpAny _ _ (Builtin.Dict.addKeywords d [] >>= _) _ _ _
  refine wpAny_bind (wpAny_pure (wpAny_pure ?_))
  obtain ⟨o,es,ep,ho,q⟩:=hD
  have kp:∀(c:Nat) o,c≠it→s.heap.get? c=some o→h'.get? c=some o:=fun c o hc e=>keep c o (by simpa using hc) e
  exact hR h' tk ⟨o,es,ep,kp d o (Ne.symm n1.2.2) ho,q⟩ fun c o d1 _ e=>kp c o d1 e
 | succ r ih=>
  intro i tk0 s hr hi st hl pr hD hR
  have lt:i<ks.length:=by lia
  obtain ⟨T,x,y,c,sl,dd,e1,e2,e3,e4,e5,e6⟩:=pr i lt
  have kv:=e4 ks[i] (getElem?_eq_getElem lt)
  refine codeAny_builtin c6 ?_
  rw [A.under_plainId bv]
  show wpAny _ _ (pyNext (Value.ref it) >>= _) _ _ _
  refine wpAny_bind (W.item i s _ _ (by lia) ⟨st,hl⟩ fun v h' tk pv st' keep=>?_)
  obtain rfl:v=.ref T:=Option.some.inj ((show vs[i]?=some v from pv).symm.trans e1)
  have kp:∀(c:Nat) o,c≠it→s.heap.get? c=some o→h'.get? c=some o:=fun c o hc e=>keep c o (by simpa using hc) e
  have hD':h'.DictOf (bj prog w) d ((ks.zip us).take i):=let ⟨o,es,ep,ho,q⟩:=hD;⟨o,es,ep,kp d o (Ne.symm n1.2.2) ho,q⟩
  have T':=kp T _ e5 e2
  refine wpAny_bind (wpAny_holding (wpAny_bind (wpAny_tryCatch ?_)))
  unfold Builtin.Dict.pairItems
  refine wpAny_bind (wpAny_typeOf (show Shared.TypeIs { s with heap:=h',toks:=tk } (.ref T) "tuple" from ⟨_,T',rfl⟩) ?_)
  rw [if_pos (by ext)]
  refine wpAny_bind (wpAny_seqItems T' rfl (wpAny_pure ?_))
  show wpAny _ _ (holding [x,y] (dictSet d x y)) _ _ _
  have hu:us[i]'(by lia)=y:=(List.getElem?_eq_some_iff.mp e3).2
  have nk:ks[i]∉((ks.zip us).take i).map (·.1):=by
   rw [map_take,vN (by simp [lu])]
   intro q
   obtain ⟨j,hj,e⟩:=List.getElem_of_mem q
   rw [length_take] at hj
   rw [List.getElem_take] at e
   have:=jJ nd (by lia) lt e
   lia
  have lz:((ks.zip us).take i).length≤sizeLine:=by rw [length_take,sizeLine_eq];simp;lia
  refine wpAny_holding (wpAny_dictSet_pairs (k:=ks[i]) kv hD' (hsz:=lz) fun h2 hD2 sb=>?_)
  rw [wB nk] at hD2
  have nx:h2.DictOf (bj prog w) d ((ks.zip us).take (i+1)):=by
   rw [List.take_succ_eq_append_getElem (by simp [lu];lia)]
   simpa [hu] using hD2
  have k2:∀(c:Nat) o,c≠d→h'.get? c=some o→h2.get? c=some o:=fun c o hc e=>(sb.2 c hc).trans e
  refine wpAny_pure ⟨plainId_quiet bv _,?_⟩
  have e9:((i:Nat):Int)+1=((i+1:Nat):Int):=by lia
  show codeAny _ _ (.builtin "dict.update.loop" ⟨[.ref d,.ref it,.int ((i:Nat)+1) 0,.none],[]⟩) _ _
  rw [e9]
  refine ih (i+1) 0 _ (by lia) lt ?_ ?_ (fun j hj=>?_) nx fun h3 tk3 hD3 k3=>hR h3 tk3 hD3 fun c o a1 a2 e=>k3 c o a1 a2 (k2 c o a2 (kp c o a1 e))
  ·obtain ⟨o,ho,q⟩:=st'.1
   exact ⟨o,k2 _ _ n1.2.2 ho,q⟩
  ·obtain ⟨o,ho,q⟩:=st'.2
   exact ⟨o,k2 _ _ n1.2.1 ho,q⟩
  ·obtain ⟨T,x,y,c,sl,dd,e1,e2,e3,e4,e5,e6⟩:=pr j hj
   exact ⟨T,x,y,c,sl,dd,e1,k2 _ _ e6 (kp _ _ e5 e2),e3,e4,e5,e6⟩
set_option maxHeartbeats 1000000 in
theorem Ar {s:Shared}{Q:Value→Shared→Prop}{c0:Nat} (hl:s.heap.get? l=some { cls:=.type "list",dict:=none,data:=.seq vs c0,slots:=#[] })
 (hh:A.handled=none) (lv:vs.size=ks.length) (lu:us.length=ks.length) (nd:ks.Nodup) (hz:ks.length≤4000)
 (pr:∀(i:Nat),i<ks.length→zO fun (T:Nat) (x y:Value) (c:Nat) (sl:Array (Option Value)) (dd:Option Addr)=>vs[i]?=some (.ref T)∧s.heap.get? T=some ⟨.type "tuple",dd,.seq #[x,y] c,sl⟩∧us[i]?=some y∧(∀k,ks[i]?=some k→fu k x=true))
 (h:∀h' tk,h'.DictOf (bj prog w) #[s] (ks.zip us)→(∀c o,s.heap.get? c=some o→h'.get? c=some o)→Q (.ref #[s]) { s with heap:=h',toks:=tk }) :
 wpAny (model prog w) A (call (.type "dict") [.ref l]) Q E s:=by
 refine callType_codes (Q₁:=fun obj s₁=>obj=.ref #[s]∧s₁={ s with heap:=s.heap.push { cls:=.type "dict",data:=.dict #[] } }) F.kt_called_dict (F.kt_typeCall_dict_1 _) F.entry_dict_init (kt_code_dict_new _ ⟨rfl,rfl⟩) ?_
 rintro obj s₁ ⟨rfl,rfl⟩
 have hnew:(s.heap.push { cls:=.type "dict",data:=.dict #[] }).DictOf (bj prog w) #[s] []:=Heap.DictOf.new s.heap
 have up:∀c o,s.heap.get? c=some o→(s.heap.push { cls:=.type "dict",data:=.dict #[] }).get? c=some o:=fun c o e=>Heap.get?_push_of_some _ e
 have ne:∀c o,s.heap.get? c=some o→c≠#[s]:=fun c o e=>ne_of_lt (Heap.lt_size e)
 have hl':=up _ _ hl
 refine ⟨hnew.typeIs,F.args_dict_init_2 _ _,?_⟩
 unfold Builtin.«dict.__init__»
 refine wpAny_bind ?_
 unfold Builtin.Dict.selfAndRest
 refine wpAny_bind (wpAny_notOrdered_dict hnew.typeIs ?_)
 show wpAny _ _ (pure (#[s],[Value.ref l])) _ _ _
 refine wpAny_pure ?_
 show wpAny _ _ (Builtin.Dict.updateFrom "dict.__init__" #[s] (.ref l) [] .none) _ _ _
 unfold Builtin.Dict.updateFrom
 refine wpAny_bind (wpAny_typeOf (T := "list") ⟨_,hl',rfl⟩ ?_)
 rw [if_pos (by ext)]
 refine wpAny_bind (uR xE (by nofun) (by rw [sizeLine_eq];decide) hl' (by simpa using hh) fun g1 tk1 k1=>?_)
 simp only [Option.isNone_none,if_true]
 refine wpAny_bind (wpAny_rule ?_)
 have l1:g1.IsList l vs:=⟨_,k1 _ _ hl',rfl,()⟩
 refine wpAny_bind (wpAny_pyIter_list l1 ?_)
 have kk:∀c o,s.heap.get? c=some o→g1.get? c=some o:=fun c o e=>k1 _ _ (up _ _ e)
 have pu:∀(ob:Obj) c o,g1.get? c=some o→(g1.push ob).get? c=some o:=fun ob c o e=>Heap.get?_push_of_some _ e
 obtain ⟨on,es,ep,hon,qn⟩:=hnew
 have hon1:=k1 _ _ hon
 have dlt:#[s]<g1.objs.size:=Heap.lt_size hon1
 have llt:l < #[s]:=Heap.lt_size hl
 refine wpAny_pure ⟨plainId_quiet bv _,?_⟩
 refine Cp (ks:=ks) (us:=us) (vs:=vs) (l:=l) (it:=g1.objs.size) (d:=#[s]) ⟨ne_of_lt (lt_trans llt dlt),ne_of_lt llt,ne_of_gt dlt⟩ (by simpa using hh) lv lu nd hz ks.length 0 0 _ rfl (zero_le _) ⟨_,Heap.get?_push_size _ rfl,rfl,rfl⟩ (l1.push _) (fun i hi=>?_) ⟨on,es,ep,pu _ _ _ hon1,qn⟩ fun h' tk hD keep=>?_
 ·obtain ⟨T,x,y,c,sl,dd,e1,e2,e3,e4⟩:=pr i hi
  have tlt:=Heap.lt_size e2
  exact ⟨T,x,y,c,sl,dd,e1,pu _ _ _ (kk _ _ e2),e3,e4,ne_of_lt (lt_trans tlt dlt),ne_of_lt tlt⟩
 ·exact ⟨rfl,h h' tk hD fun c o e=>keep c o (ne_of_lt (lt_trans (Heap.lt_size e) dlt)) (ne _ _ e) (pu _ _ _ (kk _ _ e))⟩
end
section
variable {X:Cx}
inductive GT (vs:List V) (H:Hp) (Q:VK):Prop
 | mk (l:Addr) (ts:List Addr) (ks:List aI) (ys:List V) (h0:vs=[.ref l]) (h1:H l=some (.lst (ts.map V.ref))) (h2:ts.length=ks.length) (h3:ys.length=ks.length) (h4:ks.Nodup) (h5:ks.length≤4000) (h6:(∀(i:Nat) t,ts[i]?=some t→aT fun k y=>ks[i]?=some k∧ys[i]?=some y∧H t=some (.tup [fW k,y]))) (h7:∀p H',Nw H p (.dK (ks.zip ys)) H'→Q (.ref p) H')
def Hu:List V→Hp→VK→Prop:=fun vs H Q=>GT  vs H Q
theorem zM {k k':Value}{d d':Option Addr}{x y x' y':Value}{n n':Nat}{s s':Array (Option Value)} (h:(⟨k,d,.seq #[x,y] n,s⟩:Obj)=⟨k',d',.seq #[x',y'] n',s'⟩):y=y':=by
 simp only [Obj.mk.injEq,Data.seq.injEq] at h
 have a:=h.2.2.1.1
 simp at a
 exact a.2
theorem xK {α:Type}{p:Nat→α→Prop}:∀n,(∀i,i<n→∃a,p i a)→∃as:List α,as.length=n∧∀(i:Nat) a,as[i]?=some a→p i a
 | 0,_=>⟨[],rfl,fun i a h=>by simp at h⟩
 | n+1,h=>by
  obtain ⟨as,l,q⟩:=xK n fun i hi=>h i (by lia)
  obtain ⟨a,ha⟩:=h n (by lia)
  refine ⟨as++[a],by rw [length_append,l];rfl,fun i b hb=>?_⟩
  by_cases c:i<n
  ·rw [getElem?_append_left (by lia)] at hb
   exact q i b hb
  ·have hlt:=(List.getElem?_eq_some_iff.mp hb).1
   rw [length_append] at hlt
   simp at hlt
   obtain rfl:i=n:=by lia
   rw [getElem?_append_right (by lia),l,sub_self] at hb
   obtain rfl:a=b:=Option.some.inj hb
   exact ha
theorem qV (hc:X.calm=true):cy X (.type "dict") Hu:=by
 intro pins s σ H xs us Q I r h
 obtain ⟨l,ts,ks,ys,rfl,hl,lt,ly,nd,h4,hp,q⟩:=h
 obtain ⟨u,rfl,ru⟩:=r.one
 obtain rfl:u=.ref l:=ru
 obtain ⟨z,its,n,rv,hlen,e⟩:=I.lstM hl
 rw [length_map] at hlen
 have isT:∀(i:Nat) t,ts[i]?=some t→its[i]?=some (.ref t):=fun i t hi=>by
  obtain ⟨w,hw,rw'⟩:=rv.get (show (ts.map V.ref)[i]?=some (V.ref t) by rw [getElem?_map,hi];rfl)
  obtain rfl:w=.ref t:=rw'
  exact hw
 have per:∀i,i<ks.length→zO fun (T:Nat) (x y:Value) (c:Nat) (sl:Array (Option Value)) (dd:Option Addr)=>its[i]?=some (.ref T)∧s.heap.get? T=some ⟨.type "tuple",dd,.seq #[x,y] c,sl⟩∧(∃yv,ys[i]?=some yv∧aO yv y)∧(∀k,ks[i]?=some k→fu k x=true):=fun i hi=>by
  have ht:=getElem?_eq_getElem (show i<ts.length by lia)
  obtain ⟨k,y,hk,hy,hT⟩:=hp i _ ht
  obtain ⟨_,us,rus,⟨ob,g1,g2,c,g3⟩,_⟩:=(show be X.prog X.w H s.heap ts[i] (.tup [fW k,y]) from I.hok _ _ hT)
  obtain ⟨a,b,rfl,ra,rb⟩:=rus.two
  obtain ⟨oc,od,oo,osl⟩:=ob
  simp only at g2 g3
  subst g2 g3
  exact ⟨ts[i],a,b,c,osl,od,isT i _ ht,g1,⟨y,hy,rb⟩,fun k' hk'=>by rw [hk] at hk';cases hk';exact (xG ra).1⟩
 have vals:∃us':List Value,us'.length=ks.length∧aD ys us'∧∀i (hi:i<ks.length) (T:Nat) (x y:Value) (c:Nat) (sl:Array (Option Value)) (dd:Option Addr),its[i]?=some (.ref T)→s.heap.get? T=some ⟨.type "tuple",dd,.seq #[x,y] c,sl⟩→us'[i]?=some y:=by
  obtain ⟨us',l1,h1⟩:=xK (p:=fun i y=>∀(T:Nat) (x y':Value) (c:Nat) (sl:Array (Option Value)) (dd:Option Addr),its[i]?=some (.ref T)→s.heap.get? T=some ⟨.type "tuple",dd,.seq #[x,y'] c,sl⟩→y'=y∧∃yv,ys[i]?=some yv∧aO yv y') ks.length fun i hi=>by
   obtain ⟨T,x,y,c,sl,dd,e1,e2,e3,e4⟩:=per i hi
   refine ⟨y,fun T' x' y' c' sl' dd' f1 f2=>?_⟩
   have eT:=Option.some.inj (e1.symm.trans f1)
   injection eT with eT
   have f3:s.heap.get? T=_:=(congrArg s.heap.get? eT).trans f2
   have ey:=zM (Option.some.inj (e2.symm.trans f3))
   subst ey
   exact ⟨rfl,e3⟩
  refine ⟨us',l1,?_,fun i hi T x y c sl dd e1 e2=>?_⟩
  ·refine Ai (by lia) fun i yv u e1 e2=>?_
   have hi:i<ks.length:=by rw [←l1];exact (List.getElem?_eq_some_iff.mp e2).1
   obtain ⟨T,x,y,c,sl,dd,g1,g2,g3,g4⟩:=per i hi
   obtain ⟨q1,yv',q2,q3⟩:=h1 i u e2 T x y c sl dd g1 g2
   rw [e1] at q2
   cases q2
   rw [←q1]
   exact q3
  ·obtain ⟨u,hu⟩:∃u,us'[i]?=some u:=⟨_,getElem?_eq_getElem (by lia)⟩
   rw [hu,(h1 i u hu T x y c sl dd e1 e2).1]
 obtain ⟨us',lu,rus,hus⟩:=vals
 refine Ar (E:=X.xe) (ks:=ks) (us:=us') (vs:=its.toArray) (l:=l) e (I.ok.hd hc) (by simp;lia) lu nd h4 (fun i hi=>?_) fun h' tk hD kp=>?_
 ·obtain ⟨T,x,y,c,sl,dd,e1,e2,_,e4⟩:=per i hi
  exact ⟨T,x,y,c,sl,dd,by simpa using e1,e2,hus i hi T x y c sl dd e1 e2,e4⟩
 ·have big:sysModules < #[s]:=by
   have e:mainGlobals < #[s]:=(I.mod.glob.keeps I.bk).lt
   exact lt_trans (by ext) e
  exact ⟨.ref _,_,I.laid (t':=tk) kp (le_refl _) (show be X.prog X.w _ h' _ (.dK (ks.zip ys)) from ⟨by rw [sizeLine_eq];simp;lia,beq_eq_false_iff_ne.mpr (Ne.symm (ne_of_lt big)),ks.zip us',zi rus,hD⟩),rfl,q _ _ (.mk' (I.hok.fresh (le_refl _)))⟩
end
section
variable {X:Cx}
end
structure Gb (a b:Nat) (p:KM.Fra):Prop where
 n:Sz a p.1
 d:Sz b p.2
 pos:1≤p.2
theorem Gb.mono {a b a' b':Nat}{p:KM.Fra} (h:Gb a b p) (ha:a≤a') (hb:b≤b'):Gb a' b' p:=⟨h.n.mono ha,h.d.mono hb,h.pos⟩
theorem tY {a b:Nat}{n d:Int} (hn:Sz a n) (hd:Sz b d) (h0:0<d):Gb a b (KM.low n d):=by
 have:=KM.low_spec n d (by lia)
 exact ⟨hn.le this.2.2.2.1,hd.le this.2.2.2.2,this.1⟩
def cu (p q:KM.Fra):KM.Fra:=KM.low (p.1*q.2) (p.2*q.1)
theorem Gb.tim {a b c d e f:Nat}{p q:KM.Fra} (h:Gb a b p) (k:Gb c d q) (h1:a+c≤e) (h3:b+d≤f):Gb e f (KM.lTim p q):=
 tY ((h.n.mul k.n).mono h1) ((h.d.mul k.d).mono h3) (mul_pos (by have:=h.pos;lia) (by have:=k.pos;lia))
theorem Gb.ovr {a b c d e f:Nat}{p q:KM.Fra} (h:Gb a b p) (k:Gb c d q) (hq:1≤q.1) (h1:a+d≤e) (h3:b+c≤f):Gb e f (cu p q):=
 tY ((h.n.mul k.d).mono h1) ((h.d.mul k.n).mono h3) (mul_pos (by have:=h.pos;lia) (by lia))
theorem qA {p q:KM.Fra} (h:1≤p.1) (h':1≤p.2) (k:1≤q.1) (k':1≤q.2):1≤(KM.lTim p q).1:=(KM.low_sgn (mul_pos (by lia) (by lia))).1.mpr (mul_pos (by lia) (by lia))
theorem AX {p q:KM.Fra} (h:1≤p.1) (h':1≤p.2) (k:1≤q.1) (k':1≤q.2):1≤(cu p q).1:=(KM.low_sgn (mul_pos (by lia) (by lia))).1.mpr (mul_pos (by lia) (by lia))
end L2
namespace L2
open PySem PySem.Spec PyProof.Rows
def dR (kvs:List (aI×V)) (k:aI) (v:V):List (aI×V):=if kvs.any (fun kv=>decide (kv.1=k)) then kvs.map (fun kv=>if kv.1=k then (kv.1,v) else kv) else kvs++[(k,v)]
theorem KV.any {kvs:List (aI×V)}{vs:List (aI×Value)} (r:KV kvs vs) (k:aI):kvs.any (fun kv=>decide (kv.1=k))=vs.any (fun kv=>decide (kv.1=k)):=by
 induction r with
 | nil=>rfl
 | cons h t ih=>rw [any_cons,any_cons,ih,h.1]
theorem ye {kvs:List (aI×V)}{vs:List (aI×Value)} (r:KV kvs vs) {k:aI}{v:V}{u:Value} (rv:aO v u):KV (dR kvs k v) (stored vs k u):=by
 unfold dR stored
 rw [r.any k]
 have m:KV (kvs.map (fun kv=>if kv.1=k then (kv.1,v) else kv)) (vs.map (fun kv=>if kv.1=k then (kv.1,u) else kv)):=by
  induction r with
  | nil=>exact .nil
  | @cons p q ps qs h t ih=>
   refine .cons ?_ ih
   obtain ⟨pk,pv⟩:=p
   obtain ⟨qk,qv⟩:=q
   obtain ⟨h1,h2⟩:=h
   obtain rfl:pk=qk:=h1
   show (if pk=k then (pk,v) else (pk,pv)).1=(if pk=k then (pk,u) else (pk,qv)).1∧aO (if pk=k then (pk,v) else (pk,pv)).2 (if pk=k then (pk,u) else (pk,qv)).2
   by_cases c:pk=k
   ·rw [if_pos c,if_pos c];exact ⟨rfl,rv⟩
   ·rw [if_neg c,if_neg c];exact ⟨rfl,h2⟩
 have a:KV (kvs++[(k,v)]) (vs++[(k,u)]):=by
  clear m
  induction r with
  | nil=>exact .cons ⟨rfl,rv⟩ .nil
  | cons h t ih=>exact .cons h ih
 cases vs.any (fun kv=>decide (kv.1=k)) with
 | true=>exact m
 | false=>exact a
theorem xT {kvs:List (aI×V)}{k:aI}{v:V} (h:kvs.length<sizeLine):(dR kvs k v).length≤sizeLine:=by
 unfold dR
 split
 ·rw [length_map];lia
 ·rw [length_append];exact h
theorem pp (kvs:List (aI×V)) (k:aI) (v:V) (x:aI):valD (dR kvs k v) x=if x=k then some v else valD kvs x:=by
 unfold dR
 cases c:kvs.any (fun kv=>decide (kv.1=k)) with
 | true=>
  rw [if_pos rfl]
  induction kvs with
  | nil=>cases c
  | cons p ps ih=>
   unfold valD at ih ⊢
   rw [map_cons,find?_cons,find?_cons]
   by_cases hp:p.1=k
   ·rw [if_pos hp]
    by_cases hx:x=k
    ·rw [if_pos hx,hp,hx];simp
    ·rw [if_neg hx]
     have n1:¬p.1=x:=fun z=>hx (z.symm.trans hp)
     have n2:decide (p.1=x)=false:=decide_eq_false n1
     rw [n2]
     dsimp only
     by_cases c2:ps.any (fun kv=>decide (kv.1=k))=true
     ·rw [ih c2,if_neg hx]
     ·have e:ps.map (fun kv=>if kv.1=k then (kv.1,v) else kv)=ps:=by
       have:∀kv∈ps,(fun kv:aI×V=>if kv.1=k then (kv.1,v) else kv) kv=kv:=fun kv hkv=>by
        by_cases q:kv.1=k
        ·exact absurd (List.any_eq_true.mpr ⟨kv,hkv,decide_eq_true q⟩) c2
        ·show (if kv.1=k then _ else _)=_
         rw [if_neg q]
       exact (List.map_congr_left this).trans (List.map_id _)
      rw [e]
   ·rw [if_neg hp]
    have c':ps.any (fun kv=>decide (kv.1=k))=true:=by
     rw [any_cons,decide_eq_false hp,Bool.false_or] at c
     exact c
    by_cases hpx:p.1=x
    ·have hx:¬x=k:=fun z=>hp (hpx.trans z)
     rw [if_neg hx,decide_eq_true hpx]
    ·rw [decide_eq_false hpx]
     dsimp only
     exact ih c'
 | false=>
  rw [if_neg Bool.false_ne_true]
  have nk:valD kvs k=none:=by
   unfold valD
   rw [Option.map_eq_none_iff,List.find?_eq_none]
   intro kv hkv q
   have:kvs.any (fun kv=>decide (kv.1=k))=true:=List.any_eq_true.mpr ⟨kv,hkv,q⟩
   rw [c] at this;cases this
  unfold valD at nk ⊢
  rw [List.find?_append]
  by_cases hx:x=k
  ·subst hx
   rw [Option.map_eq_none_iff] at nk
   rw [nk,if_pos rfl];simp
  ·rw [if_neg hx]
   cases kvs.find? (fun kv=>decide (kv.1=x)) with
   | some p=>rfl
   | none=>
    have:decide (k=x)=false:=decide_eq_false fun z=>hx z.symm
    simp [this]
section
variable {X:Cx}
theorem ad.dset {pins:List (Addr×Obj)}{σ:St}{H:Hp}{s:Shared}{d:Addr}{kvs kvs':List (aI×V)}{vs':List (aI×Value)}{h':Heap}{t':Nat} (I:ad X pins σ H s) (hH:H d=some (.dK kvs)) (hm:(d==sysModules)=false) (hz:kvs'.length≤sizeLine)
 (hv:KV kvs' vs') (hd:h'.DictOf (bj X.prog X.w) d vs') (sb:Heap.SameBut d s.heap h'):ad X pins σ (aE H d (.dK kvs')) { s with heap:=h',toks:=t' }:=by
 obtain ⟨o,es,ep,ho,q⟩:=hd
 refine I.write (x:=d) (e:=d) (by rw [hH];exact trivial) (.inl rfl) (fun b u hb hu=>(sb.2 b hb).trans hu) ⟨_,ho⟩ ?_
 exact ⟨hz,hm,vs',hv,o,es,ep,ho,q⟩
structure Fl (H:Hp) (p:Addr) (o:HO) (H':Hp):Prop where
 at':H' p=some o
 ol:∀a u,a≠p→H a=some u→H' a=some u
 fre:∀a,a≠p→H a=none→H' a=none
theorem Fl.mk' {H:Hp}{p:Addr}{o:HO}:Fl H p o (aE H p o):=⟨ao,fun a u n h=>by rw [aj n];exact h,fun a n h=>by rw [aj n];exact h⟩
inductive HG (o:V) (i:V) (v:V) (H:Hp) (Q:(Hp→Prop)):Prop
 | mk (d:_) (kvs:_) (k:_) (h0:o=.ref d) (h1:i=fW k) (h2:H d=some (.dK kvs)) (h3:kvs.length≤4000) (h4:∀H',Fl H d (.dK (dR kvs k v)) H'→Q H')
def KJ:V→V→V→Hp→(Hp→Prop)→Prop:=fun o i v H Q=>HG  o i v H Q
theorem zX:Ez X KJ:=by
 intro pins s σ H o i v ov iv u Q I ro ri rv h
 obtain ⟨d,kvs,k,rfl,rfl,hd,hl,q⟩:=h
 cases ro
 obtain ⟨hz,hm,vs,rel,dd⟩:=(show be X.prog X.w H s.heap d (.dK kvs) from I.hok d _ hd)
 exact wpAny_setItem_pairs (hsz:=by rw [←rel.length];exact hz) (jI ri) dd fun h' hd' sb=>⟨_,I.dset hd hm (xT (by rw [sizeLine_eq];lia)) (ye rel rv) hd' sb,q _ .mk'⟩
inductive IY (ng:Bool) (x:V) (y:V) (H:Hp) (Q:VK):Prop
 | mk (d:Addr) (kvs:List (aI×V)) (k:aI) (h0:y=.ref d) (h1:x=fW k) (h2:H d=some (.dK kvs)) (h3:Q (.bl (if ng then !(valD kvs k).isSome else (valD kvs k).isSome)) H)
def KR (ng:Bool):R2:=fun x y H Q=>IY ng x y H Q
theorem CV {o:Option V}{p:Option Value} (h:tP o p):o.isSome=p.isSome:=by
 cases o <;> cases p <;> first | rfl | exact h.elim
theorem qY:cn X (compareOp .NotIn) (KR true):=by
 intro pins s σ H x y v u Q I rx ry h
 obtain ⟨d,kvs,k,rfl,rfl,hd,q⟩:=h
 cases ry
 obtain ⟨hz,hm,vs,rel,dd⟩:=(show be X.prog X.w H s.heap d (.dK kvs) from I.hok d _ hd)
 show wpAny _ X.A (do return Value.bool (!(←contains (.ref d) v))) _ _ s
 refine wpAny_bind (wpAny_contains_slot dd.typeIs PySem.F.slot_dict_contains (wpAny_mono (call_meetsIn (Q:=fun b s'=>b=.bool (valueAt vs k).isSome∧s'={ s with toks:=s.toks+1 }) PySem.F.slot_dict_contains dd.typeIs PySem.F.entry_dict_contains (PySem.F.args_dict_contains_2 _ _) (meets_dict_contains (bj X.prog X.w) d (jI rx) hm) ⟨_,dd.mapOf,rfl,rfl⟩) (fun b s' hb=>?_) fun _ _ e=>e))
 obtain ⟨rfl,rfl⟩:=hb
 refine wpAny_truthy_bool (wpAny_pure ?_)
 rw [←CV (rel.valD k)]
 exact ⟨.bl _,H,I.tok _,rfl,q⟩
theorem zP {pos:Pos}:PE X (.Dict [] [] pos) (fun _ H Q=>∀p H',Nw H p (.dK []) H'→Q (.ref p) H'):=by
 intro pins s σ H Q I h
 refine wpAny_Dict_empty ?_
 have big:(#[s]==sysModules)=false:=by
  have e:mainGlobals < #[s]:=(I.mod.glob.keeps I.bk).lt
  exact beq_eq_false_iff_ne.mpr (Ne.symm (ne_of_lt (lt_trans (by ext) e)))
 exact ⟨.ref _,_,I.laid (fun _ _ e=>Heap.get?_push_of_some _ e) (le_refl _) (show be X.prog X.w _ _ _ (.dK []) from ⟨zero_le _,big,[],.nil,Heap.DictOf.new s.heap⟩),rfl,h _ _ (.mk' I.fresh)⟩
end
section
variable {prog:Program}{w:World}{A:Around}{R:Result→Shared→Prop}{s:Shared}
theorem yP {kx vx target iter:Expr}{ifs:List Expr}{scope:Scope}{pos:Pos}{it:Value}{D:Addr}{env:Env} (I:Nat→Shared→Prop)
 (turn:∀n s,I n s→wpAny (model prog w) A (pyNext it) (fun r s₁=>match r with
  | none=>R (.ok .next) s₁
  | some v=>wpAny (model prog w) A (letOwnedTupleGo target it v) (fun _ s₁'=>wpAny (model prog w) A (assign target env v) (fun _ s₂=>
   wpAny (model prog w) A (forIn ifs true fun c r=>if r=true then do let ok ←isTrue c env (eval c env);pure (ForInStep.yield ok) else pure (ForInStep.yield r)) (fun ok s₃=>
    if ok=true then wpAny (model prog w) A (eval kx env) (fun kv s₄=>wpAny (model prog w) A (eval vx env) (fun vv s₅=>
     wpAny (model prog w) A (dictSet D kv vv) (fun _ s₆=>∃m,m<n∧I m s₆) (fun _ _=>False) s₅) (fun _ _=>False) s₄) (fun _ _=>False) s₃
    else ∃m,m<n∧I m s₃) (fun _ _=>False) s₂) (fun _ _=>False) s₁') (fun _ _=>False) s₁) (fun _ _=>False) s)
 (n:Nat) (h:I n s) :
 codeAny (model prog w) A (.compLoop (.DictComp kx vx [⟨target,iter,ifs,0⟩] scope pos) 0 it (.ref D) env) R s:=by
 refine codeAny_loop rfl I (fun n s hI=>?_) n h
 show wpAny _ A ((compTurn (.DictComp kx vx [⟨target,iter,ifs,0⟩] scope pos) 0 it (.ref D) env).onRaise (fun x=>do noteFrame x env;theTreesLotGoes x)) _ _ s
 refine wpAny_noted ?_
 rw [compTurn_dict]
 refine wpAny_bind (wpAny_standAt (wpAny_bind (wpAny_mono (turn n s hI) (fun r s₁ h₁=>?_) fun _ _ h'=>h'.elim)))
 cases r with
 | none=>exact wpAny_pure h₁
 | some v=>
  refine wpAny_bind (wpAny_mono h₁ (fun _ s₁' h₁'=>?_) fun _ _ h'=>h'.elim)
  refine wpAny_bind (wpAny_mono h₁' (fun _ s₂ h₂=>wpAny_bind (wpAny_mono h₂ (fun ok s₃ h₃=>?_) fun _ _ h'=>h'.elim)) fun _ _ h'=>h'.elim)
  cases ok with
  | false=>exact wpAny_pure ⟨rfl,h₃⟩
  | true=>
   exact wpAny_bind (wpAny_bind (wpAny_mono h₃ (fun kv s₄ h₄=>wpAny_bind (wpAny_holding (wpAny_mono h₄ (fun vv s₅ h₅=>wpAny_bind (wpAny_standAt (wpAny_holding (wpAny_mono h₅ (fun _ s₆ h₆=>wpAny_pure ⟨rfl,h₆⟩) fun _ _ h'=>h'.elim)))) fun _ _ h'=>h'.elim))) fun _ _ h'=>h'.elim))
end
def Cu (J:It) (σc:St) (g:TG) (tt:TT) (tk tv:TE) (D:Addr) (H1:Hp) (Q:VK):Prop:=
 ∃W:Nat→Nat→Hp→List (aI×V)→Prop,(∃m,W 0 m (aE H1 D (.dK [])) [])∧∀i m H ys,W i m H ys→H D=some (.dK ys)∧
  ((J.stop i H∧Q (.ref D) H)∨(J.go i H∧ys.length<sizeLine∧∃N:Hp→List (aI×V)→Prop,(∀H' ys',N H' ys'→∃m',m'<m∧W (i+1) m' H' ys')∧
    ∀x H',J.yld i H x H'→g x σc H' fun σ2 H2=>jx σc σ2∧tt σ2 H2 fun b H3=>if b=true then tk σ2 H3 fun kv H4=>∃k,kv=fW k∧tv σ2 H4 fun y H5=>H5 D=some (.dK ys)∧N (aE H5 D (.dK (dR ys k y))) (dR ys k y) else N H3 ys))
def Aw (wi:TI) (L:Nat) (src:List Nat) (g:TG) (tt:TT) (tk tv:TE):TE:=fun σ H Q=>wi σ H fun J H1=>∀D,H1 D=none→Cu J (ie L src σ) g tt tk tv D H1 Q
section
variable {X:Cx}{kx vx tg iter:Expr}{ifs:List Expr}{scope:Scope}{pos:Pos}{N':List Str}{L:Nat}{src:List Nat}{wi:TI}{g:TG}{tt:TT}{tk tv:TE}
theorem yc (hc:X.calm=true) (ck:CC X.env.scope X.N scope N' L src) {cl:List (Str×Addr)}{pins:List (Addr×Obj)}{s:Shared}{σ:St}{H:Hp}{Q:VK} (I:ad X pins σ H s)
 (hsub:∀x c,cl.lookup x=some c→X.env.cells.lookup x=some c) (hhas:∀y∈scope.names,y.2=.free→∃c,cl.lookup y.1=some c)
 (hi:PI X tg iter wi) (hg:∀cl C s H ex pn,PG (cO X scope cl C N' s H ex pn) tg g) (hif:∀cl C s H ex pn,rN (cO X scope cl C N' s H ex pn) ifs tt)
 (hk:∀cl C s H ex pn,PE (cO X scope cl C N' s H ex pn) kx tk) (hv:∀cl C s H ex pn,PE (cO X scope cl C N' s H ex pn) vx tv) (h:Aw wi L src g tt tk tv σ H Q) {RR:Value→Addr→Result→Shared→Prop}
 (hRR:∀D C H' f s' m,ad X pins σ H' s'→s'.heap.Ns C m→jz X pins H' C→Q (.ref D) H'→RR (.ref D) C (.ok f) s') :
 wpAny (model X.prog X.w) X.A (eval iter X.env) (fun x s₁=>wpAny (model X.prog X.w) X.A (pyIter x) (fun it s₂=>wpAny (model X.prog X.w) X.A newDict (fun acc s₃=>
  wpAny (model X.prog X.w) X.A (newFunctionEnv scope X.env.globals cl [] X.env.qual none .none (some X.env)) (fun cenv s₄=>
   codeAny (model X.prog X.w) X.A (.compStart (.DictComp kx vx [⟨tg,iter,ifs,0⟩] scope pos) 0 it acc { cenv with scope:=relabel scope X.env }) (RR acc cenv.locals) s₄) X.xe s₃) X.xe s₂) X.xe s₁) X.xe s:=by
 refine aL (hi pins s σ H _ I h) fun v s1 h1=>aL h1 fun itv s2 h2=>?_
 obtain ⟨it,fp,tn,J,H2,e,I2,T,st2,f2,q⟩:=h2
 subst e
 refine wpAny_newObj_type (wpAny_newFunctionEnv ck.nocell (by intro y hy;simp at hy) (fun h₁ hns₁ hsb₁=>?_) ck.kind)
 dsimp only at hns₁ hsb₁ ⊢
 generalize hH2:s2.heap.push { cls:=.type "dict",dict:=none,data:=.dict #[] }=hp2 at hns₁ hsb₁ ⊢
 have hC:hp2.objs.size=#[s2]+1:=by rw [←hH2,Heap.size_push]
 have hDC:#[s2]≠hp2.objs.size:=by rw [hC];exact ne_of_lt (lt_succ_self _)
 have hCle:#[s2]≤hp2.objs.size:=by rw [hC];exact le_succ _
 have below:∀b,b < #[s2]→b≠hp2.objs.size∧b≠#[s2]:=fun b hb=>⟨by rw [hC];exact ne_of_lt (lt_succ_of_lt hb),ne_of_lt hb⟩
 have old:∀b o,s2.heap.get? b=some o→h₁.get? b=some o:=fun b o e=>hsb₁.extBut b o (below b (Heap.lt_size e)).1 (Heap.get?_push_of_some _ (hH2▸Heap.get?_push_of_some _ e))
 have hacc0:(s2.heap.push { cls:=.type "dict",dict:=none,data:=.dict #[] }).DictOf (bj X.prog X.w) #[s2] []:=Heap.DictOf.new s2.heap
 have hacc:h₁.DictOf (bj X.prog X.w) #[s2] []:=hacc0.at fun o e=>hsb₁.extBut _ _ hDC (Heap.get?_push_of_some _ (hH2▸e))
 have hbig:(#[s2]==sysModules)=false:=by
  have e:mainGlobals < #[s2]:=(I2.mod.glob.keeps I2.bk).lt
  exact beq_eq_false_iff_ne.mpr (Ne.symm (ne_of_lt (lt_trans (by ext) e)))
 have hDn:H2 #[s2]=none:=I2.fresh
 obtain ⟨W,⟨m0,w0⟩,turn⟩:=q _ hDn
 have fpo:∀b∈fp,∃o,s2.heap.get? b=some o∧∀v,o.data≠.cell v:=T.obj _ _ st2
 have fplt:∀b∈fp,b < #[s2]:=fun b hb=>by obtain ⟨o,e,_⟩:=fpo b hb;exact Heap.lt_size e
 have hfrs:∀b∈fp,b∉im X.stack:=fun b hb z=>by
  rcases List.mem_cons.mp (I2.stkSub b z) with z' | z'
  ·exact (f2 b hb).2.1 z'
  ·exact (f2 b hb).2.2.1 z'
 generalize hX:cO X scope cl hp2.objs.size N' s2 H2 fp (X.pn++pins)=X'
 have ok':X'.Ok:=by
  subst hX
  refine ⟨I2.ok.mod,ck.kind,I2.ok.glob,I2.ok.blt,hCle,fun x y c e1 e2=>I2.ok.inj x y c (hsub _ _ e1) (hsub _ _ e2),fun x hx=>?_,fun x c z _=>(by cases z),I2.ok.hd,I2.ok.frames,.inl rfl,fun b hb=>⟨(below b (fplt b hb)).1,fun x c e=>(f2 b hb).2.2.2.2.1 x c (hsub _ _ e)⟩,
   I2.bs,le_trans I2.ok.bsz I2.sz,fun b o e hb=>?_,hfrs,I2.stack,I2.stkFree⟩
  ·-- a name that is a cell or free
   have hx':(relabel scope X.env).names.lookup x=some .cell∨(relabel scope X.env).names.lookup x=some .free:=hx
   have key:∀(names:List (Str×NameKind)),(∀y∈names,y.2≠.cell)→
    ((names.map fun (n,k)=>if (k==NameKind.free && X.env.scope.kind==.function && X.env.kindOf n==some .cell) then (n,NameKind.cell) else (n,k)).lookup x=some .cell∨
     (names.map fun (n,k)=>if (k==NameKind.free && X.env.scope.kind==.function && X.env.kindOf n==some .cell) then (n,NameKind.cell) else (n,k)).lookup x=some .free)→∃y∈names,y.1=x∧y.2=.free:=by
    intro names
    induction names with
    | nil=>intro _ h;rcases h with h | h <;> simp at h
    | cons y r ih=>
     intro hn h
     obtain ⟨n,k⟩:=y
     by_cases hb:x=n
     ·subst hb
      refine ⟨(x,k),mem_cons_self,rfl,?_⟩
      by_cases hk:k=.free
      ·exact hk
      ·exfalso
       have hkb:(k==NameKind.free)=false:=by simpa using hk
       have hnc:k≠.cell:=hn (x,k) mem_cons_self
       simp only [map_cons,hkb,Bool.false_and,Bool.false_eq_true,if_false,lookup_cons,beq_self_eq_true,if_true] at h
       rcases h with h | h
       ·exact hnc (Option.some.inj h)
       ·exact hk (Option.some.inj h)
     ·have hb':(x==n)=false:=by simpa using hb
      have h':((r.map fun (n,k)=>if (k==NameKind.free && X.env.scope.kind==.function && X.env.kindOf n==some .cell) then (n,NameKind.cell) else (n,k)).lookup x=some .cell∨
       (r.map fun (n,k)=>if (k==NameKind.free && X.env.scope.kind==.function && X.env.kindOf n==some .cell) then (n,NameKind.cell) else (n,k)).lookup x=some .free):=by
       rw [map_cons] at h
       dsimp only at h
       by_cases hcnd:(k==NameKind.free && X.env.scope.kind==.function && X.env.kindOf n==some .cell)=true
       ·rw [if_pos hcnd] at h
        simpa only [lookup_cons,hb'] using h
       ·rw [if_neg hcnd] at h
        simpa only [lookup_cons,hb'] using h
      obtain ⟨y,hy,e1,e2⟩:=ih (fun y hy=>hn y (mem_cons_of_mem _ hy)) h'
      exact ⟨y,mem_cons_of_mem _ hy,e1,e2⟩
   obtain ⟨y,hy,e1,e2⟩:=key scope.names ck.nocell hx'
   obtain ⟨c,hc'⟩:=hhas y hy e2
   exact ⟨c,e1▸hc'⟩
  ·rcases (f2 b hb).2.2.2.1 with z | z
   ·exact I2.ok.noex b o e z
   ·exact absurd (lt_of_lt_of_le (Heap.lt_size e) (le_trans I2.ok.bsz z)) (lt_irrefl _)
 have stat:∀{H':Hp},(∀b∈fp,H' b=none)→∀b∈fp,jz X' [] H' b:=by
  subst hX
  intro H' hn b hb
  refine ⟨hn b hb,(below b (fplt b hb)).1,hfrs b hb,.inl hb,fun x c e=>(f2 b hb).2.2.2.2.1 x c (hsub _ _ e),fun p hp=>?_⟩
  have hp':p∈X.pn++pins:=by simpa [cO] using hp
  exact (f2 b hb).2.2.2.2.2 p hp'
 have I1:ad X' [] (ie L src σ) (aE H2 #[s2] (.dK [])) { s2 with heap:=h₁,toks:=s2.toks+([]:List (Str×Value)).length }:=by
  subst hX
  have up:∀b o,H2 b=some o→aE H2 #[s2] (.dK []) b=some o:=fun b o e=>by rw [aj (aS e hDn)];exact e
  have upn:∀b,b < #[s2]→H2 b=none→aE H2 #[s2] (.dK []) b=none:=fun b hb e=>by rw [aj (ne_of_lt hb)];exact e
  refine ⟨ok',rfl,I2.bare,Un.laid old (le_refl _) hDn,⟨_,hns₁,fun i x v e1 e2 e3=>?_⟩,fun x c e=>?_,?_,fun x c e=>?_,fun p hp=>?_,I2.hok.laid old (le_refl _) ⟨zero_le _,hbig,[],.nil,hacc⟩,?_⟩
  ·-- the names of the def around
   have hiL:L≤i:=by
    by_cases hlt:i<L
    ·exfalso
     unfold ie at e2
     rw [getElem?_append_left (by simpa using hlt),List.getElem?_replicate,if_pos hlt] at e2
     cases e2
    ·lia
   have e2':(src.map fun j=>(σ[j]?).join)[i - L]?=some (some v):=by
    unfold ie at e2
    rw [getElem?_append_right (by simpa using hiL),length_replicate] at e2
    exact e2
   rw [getElem?_map] at e2'
   cases hj:src[i - L]? with
   | none=>rw [hj] at e2';cases e2'
   | some j=>
    rw [hj] at e2'
    have e3':(σ[j]?).join=some v:=Option.some.inj e2'
    have hσ:σ[j]?=some (some v):=by
     cases q:σ[j]? with
     | none=>rw [q] at e3';cases e3'
     | some o=>rw [q] at e3';exact congrArg some e3'
    obtain ⟨x',g1,g2,g3⟩:=ck.frees (i - L) j hj
    have:L+(i - L)=i:=by lia
    rw [this] at g1
    have ex:x'=x:=Option.some.inj (g1.symm.trans e1)
    subst ex
    have hfree:=ck.free _ (PySem.mem_of_lookup g3) rfl
    obtain ⟨m,hn,hl⟩:=I2.loc
    obtain ⟨u,r,l⟩:=hl j x' v g2 hσ (hfree.elim (fun z=>.inr (.inl z)) fun z=>.inr (.inr z))
    refine ⟨u,r,.inr ⟨?_,?_⟩⟩
    ·-- its kind in the block
     have key:∀(names:List (Str×NameKind)),names.lookup x'=some .free→
      ((names.map fun (n,k)=>if (k==NameKind.free && X.env.scope.kind==.function && X.env.kindOf n==some .cell) then (n,NameKind.cell) else (n,k)).lookup x'=some .cell∨
       (names.map fun (n,k)=>if (k==NameKind.free && X.env.scope.kind==.function && X.env.kindOf n==some .cell) then (n,NameKind.cell) else (n,k)).lookup x'=some .free):=by
      intro names
      induction names with
      | nil=>intro h;simp at h
      | cons y r ih=>
       intro h
       obtain ⟨n,k⟩:=y
       by_cases hb:x'=n
       ·subst hb
        simp only [lookup_cons,beq_self_eq_true,if_true] at h
        have hk:k=.free:=Option.some.inj h
        subst hk
        rw [map_cons]
        dsimp only
        by_cases hcnd:(NameKind.free==NameKind.free && X.env.scope.kind==.function && X.env.kindOf x'==some .cell)=true
        ·rw [if_pos hcnd];left;simp [lookup_cons]
        ·rw [if_neg hcnd];right;simp [lookup_cons]
       ·have hb':(x'==n)=false:=by simpa using hb
        have h':=ih (by simpa only [lookup_cons,hb'] using h)
        rw [map_cons]
        dsimp only
        by_cases hcnd:(k==NameKind.free && X.env.scope.kind==.function && X.env.kindOf n==some .cell)=true
        ·rw [if_pos hcnd];simpa only [lookup_cons,hb'] using h'
        ·rw [if_neg hcnd];simpa only [lookup_cons,hb'] using h'
     exact key scope.names g3
    ·obtain ⟨c,hcl⟩:=hhas _ (PySem.mem_of_lookup g3) rfl
     have hcx:=hsub _ _ hcl
     rcases l with ⟨k1,_⟩ | ⟨_,c',e4,z⟩
     ·exfalso
      have k1':X.env.scope.names.lookup x'=some .local:=k1
      rcases hfree with z | z
      ·rw [z] at k1';cases k1'
      ·rw [z] at k1';cases k1'
     ·rw [hcx] at e4
      cases e4
      obtain ⟨o,ho,hd⟩:=z
      exact ⟨c,hcl,o,old _ _ ho,hd⟩
  ·obtain ⟨v,o,ho,hd⟩:=I2.cell x c (hsub _ _ e)
   exact ⟨v,o,old _ _ ho,hd⟩
  ·show aE H2 #[s2] (.dK []) hp2.objs.size=none
   rw [aj (Ne.symm hDC)]
   exact I2.hok.fresh hCle
  ·obtain ⟨v,o,ho,hd⟩:=I2.cell x c (hsub _ _ e)
   exact upn c (Heap.lt_size ho) (I2.freeC x c (hsub _ _ e))
  ·have hp':p∈X.pn++pins:=by simpa [cO] using hp
   obtain ⟨e,n,ne,nf,d⟩:=I2.pin p hp'
   have hlt:=Heap.lt_size e
   refine ⟨old _ _ e,upn _ hlt n,(below _ hlt).1,fun z=>?_,d⟩
   rcases List.mem_cons.mp (I2.stkSub _ z) with z' | z'
   ·exact ne z'
   ·exact nf z'
  ·show (ie L src σ).length=N'.length
   unfold ie
   rw [length_append,length_replicate,length_map,ck.len]
 have eA:X'.A=X.A:=by subst hX;rfl
 have eP:X'.prog=X.prog:=by subst hX;rfl
 have eW:X'.w=X.w:=by subst hX;rfl
 have eK:X'.K=X.K:=by subst hX;rfl
 have ec:X'.calm=true:=by subst hX;exact hc
 have exe:X'.xe=fun _ _=>False:=by subst hX;rfl
 have eE:X'.env=compEnvC scope cl hp2.objs.size X.env:=by subst hX;rfl
 have hg':PG X' tg g:=by subst hX;exact hg _ _ _ _ _ _
 have hif':rN X' ifs tt:=by subst hX;exact hif _ _ _ _ _ _
 have hk':PE X' kx tk:=by subst hX;exact hk _ _ _ _ _ _
 have hv':PE X' vx tv:=by subst hX;exact hv _ _ _ _ _ _
 have aft:∀{H':Hp}{s':Shared},ad X' [] (ie L src σ) H' s'→ad X pins σ H' s'∧(∃m,s'.heap.Ns hp2.objs.size m)∧jz X pins H' hp2.objs.size:=by
  subst hX
  intro H' s' J
  refine ⟨I2.call' (ch:=fp) J.os J.base J.hok J.bare fun b hb=>⟨(f2 b hb).2.2.2.1,(f2 b hb).2.1,(f2 b hb).2.2.2.2.1,(f2 b hb).2.2.2.2.2⟩,?_,I2.fpOk hCle J.free⟩
  obtain ⟨m,hn,_⟩:=J.loc
  exact ⟨m,hn⟩
 have st1:tn 0 h₁:=T.keep _ _ _ st2 fun b hb o e=>old b o e
 have loop:∀s₃:Shared,s₃={ s2 with heap:=h₁,toks:=s2.toks+([]:List (Str×Value)).length }→
  codeAny (model X.prog X.w) X.A (.compLoop (.DictComp kx vx [⟨tg,iter,ifs,0⟩] scope pos) 0 (.ref it) (.ref #[s2]) (compEnvC scope cl hp2.objs.size X.env))
   (RR (.ref #[s2]) hp2.objs.size) s₃:=by
  rintro s₃ rfl
  refine yP (fun n s'=>eF fun i H' ys=>ad X' [] (ie L src σ) H' s'∧tn i s'.heap∧(∀b∈fp,H' b=none)∧W i n H' ys) ?_ m0
   ⟨0,_,[],I1,st1,fun b hb=>(by rw [aj (below b (fplt b hb)).2];exact (f2 b hb).1),w0⟩
  rintro n s3 ⟨i,H3,ys,I3,st3,fr3,w3⟩
  obtain ⟨hD,alt⟩:=turn i n H3 ys w3
  rcases alt with ⟨stop,qn⟩ | ⟨go,hlen,N,hN,step⟩
  ·have d:=T.done X' eP eW eK ec i [] s3 (ie L src σ) H3 (fun _ _=>False) I3 (stat fr3) st3 stop
   rw [eA] at d
   refine aL d fun r s4 ⟨hr,I4⟩=>?_
   subst hr
   obtain ⟨J,⟨m,hn⟩,fpC⟩:=aft I4
   exact hRR _ _ H3 .next s4 m J hn fpC qn
  ·have d:=T.item X' eP eW eK ec i [] s3 (ie L src σ) H3 (fun _ _=>False) I3 (stat fr3) st3 go
   rw [eA] at d
   refine aL d fun r s4 ⟨u,hr,h4⟩=>?_
   subst hr
   refine aL h4 fun _ s5 ⟨x,H5,I5,r5,y5,st5,fr5⟩=>?_
   have I5':=I5.pinned (stat fr5) (T.obj _ _ st5)
   have a1:=hg' _ s5 (ie L src σ) H5 x u _ I5' r5 (step x H5 y5)
   rw [eP,eW,eA,eE,exe] at a1
   refine aL a1 fun _ s6 ⟨σ6,H6,I6,bk,q6⟩=>?_
   have a2:=hif' _ s6 σ6 H6 _ I6 q6
   rw [eP,eW,eA,eE,exe] at a2
   refine aL a2 fun b s7 ⟨H7,I7,q7⟩=>?_
   have again:∀{H8:Hp}{s8:Shared}{ys':List (aI×V)},ad X' ([]++ql fp s5.heap) σ6 H8 s8→N H8 ys'→∃m,m<n∧eF fun i H' ys=>ad X' [] (ie L src σ) H' s8∧tn i s8.heap∧(∀b∈fp,H' b=none)∧W i m H' ys:=fun {H8 s8 ys'} I8 n8=>by
    obtain ⟨m',hm,w8⟩:=hN H8 ys' n8
    refine ⟨m',hm,i+1,H8,ys',(I8.unpinned).weak bk.1.symm bk.2,T.keep _ _ _ st5 fun b hb o e=>(I8.pin (b,o) (mem_append_right _ (mem_append_right _ (i4 hb e)))).1,fun b hb=>?_,w8⟩
    obtain ⟨o,e,d⟩:=T.obj _ _ st5 b hb
    exact (I8.pin (b,o) (mem_append_right _ (mem_append_right _ (i4 hb e)))).2.1
   cases b with
   | false=>
    rw [if_neg Bool.false_ne_true] at q7 ⊢
    exact again I7 q7
   | true=>
    rw [if_pos rfl] at q7 ⊢
    have a3:=hk' _ s7 σ6 H7 _ I7 q7
    rw [eP,eW,eA,eE,exe] at a3
    refine aL a3 fun kv s8 ⟨yk,H8,I8,r8,k,ek,q8⟩=>?_
    subst ek
    have a4:=hv' _ s8 σ6 H8 _ I8 q8
    rw [eP,eW,eA,eE,exe] at a4
    refine aL a4 fun vv s9 ⟨y,H9,I9,r9,hD9,q9⟩=>?_
    obtain ⟨hz,hm,vs,rel,dd⟩:=(show be X'.prog X'.w H9 s9.heap #[s2] (.dK ys) from I9.hok _ _ hD9)
    rw [eP,eW] at dd
    refine wpAny_dictSet_pairs (knd:=bj X.prog X.w) (hsz:=by rw [←rel.length];exact hz) (jI r8) dd fun h' hd' sb=>?_
    have hd2:h'.DictOf (bj X'.prog X'.w) #[s2] (stored vs k vv):=by rw [eP,eW];exact hd'
    exact again (I9.dset (t':=s9.toks+1) hD9 hm (xT hlen) (ye rel r9) hd2 sb) q9
 exact codeAny_compStart_dict (loop _ rfl) (T.self _ 0 _ _ _ st1 (loop _ rfl))
theorem Ey (hc:X.calm=true) (ck:uC X.env.scope X.N scope N' L src=true) (hi:PI X tg iter wi) (hg:∀cl C s H ex pn,PG (cO X scope cl C N' s H ex pn) tg g) (hif:∀cl C s H ex pn,rN (cO X scope cl C N' s H ex pn) ifs tt)
 (hk:∀cl C s H ex pn,PE (cO X scope cl C N' s H ex pn) kx tk) (hv:∀cl C s H ex pn,PE (cO X scope cl C N' s H ex pn) vx tv) (hs:∀x,foldedSetIterable iter X.env x=pure x:=by intro _;rfl) :
 PE X (.DictComp kx vx [⟨tg,iter,ifs,0⟩] scope pos) (Aw wi L src g tt tk tv):=by
 intro pins s σ H Q I h
 have ck:=xZ ck
 obtain ⟨cl,hclos,hsub,hhas⟩:=uN (scope:=scope) (env:=X.env) fun y hy e=>I.ok.has y.1 (ck.free y hy e)
 rw [arm_eval_DictComp]
 refine wpAny_comprehension_free (use:=none) rfl hs hclos ck.kind ck.loc (yc hc ck I hsub hhas hi hg hif hk hv h (RR:=fun acc C=>compPost (model X.prog X.w) X.A X.xe none (EP X pins σ Q) acc C) ?_)
 intro D C H' f s' m J hn fpC q
 refine ⟨m,hn,fun h' hsb=>⟨.ref D,H',?_,rfl,q⟩⟩
 obtain ⟨f0,f1,f2,f3,f4,f5⟩:=fpC
 exact J.turned (t':=s'.toks) (fun b o hb e=>(hsb.2 b hb).trans e) f0 f1 f3 f4 f5
theorem Az {j:Nat}{y:Str}{py spos:Pos} (hN:X.N.Nodup) (hj:X.N[j]?=some y) (hy:X.env.scope.names.lookup y=some .local) (hsw:swapsWith (.DictComp kx vx [⟨tg,iter,ifs,0⟩] scope pos) (some (.Name y py)) spos.line X.env=pure true)
 (hc:X.calm=true) (ck:uC X.env.scope X.N scope N' L src=true) (hi:PI X tg iter wi) (hg:∀cl C s H ex pn,PG (cO X scope cl C N' s H ex pn) tg g) (hif:∀cl C s H ex pn,rN (cO X scope cl C N' s H ex pn) ifs tt)
 (hk:∀cl C s H ex pn,PE (cO X scope cl C N' s H ex pn) kx tk) (hv:∀cl C s H ex pn,PE (cO X scope cl C N' s H ex pn) vx tv) (hs:∀x,foldedSetIterable iter X.env x=pure x:=by intro _;rfl) :
 PS X (.Assign [.Name y py] (.DictComp kx vx [⟨tg,iter,ifs,0⟩] scope pos) spos) (Aa (Aw wi L src g tt tk tv) (oY j)):=by
 intro pins s σ H D I h
 have ck:=xZ ck
 obtain ⟨cl,hclos,hsub,hhas⟩:=uN (scope:=scope) (env:=X.env) fun y hy e=>I.ok.has y.1 (ck.free y hy e)
 rw [exec_Assign_Name_used _ _ _ _ hsw]
 refine wpAny_bind (wpAny_standAt (wpAny_bind ?_))
 show wpAny _ X.A (do let _ ←comprehension (.DictComp kx vx [⟨tg,iter,ifs,0⟩] scope pos) scope X.env _ newDict false (eval iter X.env) (some (assign (.Name y py) X.env))) _ _ s
 refine wpAny_bind (wpAny_mono (wpAny_comprehension_free (use:=some (assign (.Name y py) X.env)) (Q:=fun _ s'=>SP X pins D .next s') rfl hs hclos ck.kind ck.loc
  (yc hc ck I hsub hhas hi hg hif hk hv h (RR:=fun acc C=>compPost (model X.prog X.w) X.A X.xe (some (assign (.Name y py) X.env)) (fun _ s'=>SP X pins D .next s') acc C) ?_)) (fun _ s' hq=>wpAny_pure (wpAny_pure hq)) fun _ _ e=>e)
 intro L' C H' f s' m J hn fpC q
 show wpAny _ X.A (assign (.Name y py) X.env (.ref L')) _ _ _
 refine wpAny_assign_Name (uz J hN hj (.inl hy) (v:=.ref L') rfl (fun s2 J2 hsb=>?_) (.inr hy))
 obtain ⟨f0,f1,f2,f3,f4,f5⟩:=fpC
 obtain ⟨a,hsb,ha⟩:=hsb
 have hCa:C≠a:=by
  rcases ha with rfl | ha
  ·exact f1
  ·exact fun z=>f4 _ _ ha z.symm
 refine ⟨m,hn.sameBut hsb hCa,fun h' hsb'=>⟨_,H',?_,q⟩⟩
 exact J2.turned (t':=s2.toks) (fun b o hb e=>(hsb'.2 b hb).trans e) f0 f1 f3 f4 f5
end
end L2
namespace KM
theorem mul_le_l {a b c:Rat} (h:a≤b) (hc:0≤c):c*a≤c*b:=Rat.mul_le_mul_of_nonneg_left h hc
variable {ls:List (List Nat)}{es done:List Edge}{W u:List Nat→Rat}{S:List (List Nat)}{q:List Nat}{m:Rat}
end KM
namespace L2
open PySem PySem.Spec PyProof.Rows
section
variable {z:Nat}{E:Addr→Prop}{H H':Hp}{n m k:Nat}{v:V}{xs ys:List V}
end
section
variable {X:Cx}{K:Frag}
end
section
variable {X:Cx}
inductive Ef (x:V) (vs:List V) (H:Hp) (Q:VK):Prop
 | mk (l:Addr) (ks:List (List Nat)) (k:List Nat) (j:Nat) (h0:x=.ref l) (h1:vs=[au k]) (h2:H l=some (.lst (ks.map au))) (h3:ks.length≤10000) (h4:ks[j]?=some k) (h5:ks.Nodup) (h6:Q (.int (j:Int)) H)
def FY:V→List V→Hp→VK→Prop:=fun x vs H Q=>Ef  x vs H Q
theorem DV:FA X "list.index" FY:=by
 intro pins s σ H x vs v us Q I rx rv h
 obtain ⟨l,ks,k,j,rfl,rfl,hH,hz,hj,nd,q⟩:=h
 cases rx
 obtain ⟨u,rfl,ru⟩:=rv.one
 obtain ⟨t,rfl⟩:=ru
 obtain ⟨z,its,n,r,hl,e⟩:=I.lstM hH
 have hlen:ks.length=its.length:=by rw [←hl,length_map]
 have isI:∀(m:Nat) (w:Value),its[m]?=some w→aT fun i t'=>ks[m]?=some i∧w=.str (S i) t':=fun m w hw=>by
  obtain ⟨i,hi⟩:∃i,ks[m]?=some i:=⟨_,getElem?_eq_getElem (by rw [hlen];exact (List.getElem?_eq_some_iff.mp hw).1)⟩
  obtain ⟨w',hw',rw'⟩:=r.get (show (ks.map au)[m]?=some (au i) by rw [getElem?_map,hi];rfl)
  rw [hw] at hw'
  cases hw'
  obtain ⟨t',rfl⟩:=rw'
  exact ⟨i,t',hi,rfl⟩
 have hji:j<its.length:=by rw [←hlen];exact (List.getElem?_eq_some_iff.mp hj).1
 refine call_meets F.slot_list_index ⟨_,e,rfl⟩ F.entry_list_index (F.args_list_index_2 _ _)
  (MeetsSeq.list_index l its.toArray n (.str (S k) t) (fun y=>match y with | .str i _=>i==S k | _=>false) (fun y hy=>?_) j (by simpa using hji) (by lia) ?_ (fun m hm hlt=>?_)) ⟨e,?_⟩
 ·obtain ⟨m,hm⟩:=getElem?_of_mem (by simpa using hy:y∈its)
  obtain ⟨i,t',_,rfl⟩:=isI m y hm
  exact eqGives_str (S i) (S k) t' t
 ·obtain ⟨i,t',e1,e2⟩:=isI j its[j] (getElem?_eq_getElem hji)
  rw [hj] at e1
  cases e1
  simp only [List.getElem_toArray,e2,beq_self_eq_true]
 ·have hm':m<its.length:=by simpa using hm
  obtain ⟨i,t',e1,e2⟩:=isI m its[m] (getElem?_eq_getElem hm')
  simp only [List.getElem_toArray,e2]
  apply beq_eq_false_iff_ne.mpr
  intro q
  have q':i=k:=rX q
  subst q'
  have a1:=List.getElem?_eq_some_iff.mp e1
  have a2:=List.getElem?_eq_some_iff.mp hj
  have:=jJ nd a1.1 a2.1 (by rw [a1.2,a2.2])
  lia
 ·exact ⟨.int (j:Int),H,I.tok _,⟨()⟩,q⟩
theorem Bd:∀{ks:List Int}{its:List Value},aD (ks.map V.int) its→∃ps:List (Int×Tok),its=ps.map (fun p=>Value.int p.1 p.2)∧ks=ps.map (·.1)
 | [],_,.nil=>⟨[],rfl,rfl⟩
 | k :: ks,u :: us,.cons r t=>by
  obtain ⟨tk,rfl⟩:=r
  obtain ⟨ps,e1,e2⟩:=Bd t
  exact ⟨(k,tk) :: ps,by rw [e1];rfl,by rw [e2];rfl⟩
end
end L2
namespace L2
open PySem
theorem CH {a b c:Rat} (h:a<b) (k:b≤c):a<c:=by grind
theorem tZ {a b c:Rat} (h:a≤b) (k:b<c):a<c:=by grind
theorem uh {p q:KM.Fra} (hp:1≤p.2) (hq:1≤q.2):KM.vl p≤KM.vl q↔p.1*q.2≤q.1*p.2:=by
 have e:KM.vl q - KM.vl p=Rat.divInt (q.1*p.2 - p.1*q.2) (q.2*p.2):=by
  unfold KM.vl
  rw [Rat.divInt_sub_divInt _ _ (by lia) (by lia)]
 have h:=Rat.divInt_nonneg_iff_of_pos_right (a:=q.1*p.2 - p.1*q.2) (b:=q.2*p.2) (mul_pos (by lia) (by lia))
 rw [←e] at h
 constructor
 ·intro z
  have:=h.mp (by grind)
  lia
 ·intro z
  have:=h.mpr (by lia)
  grind
theorem lY {p q:KM.Fra} (hp:1≤p.2) (hq:1≤q.2):KM.vl p<KM.vl q↔p.1*q.2<q.1*p.2:=by
 have:=uh hq hp
 constructor
 ·intro z
  have n:¬KM.vl q≤KM.vl p:=Rat.not_le.mpr z
  rw [this] at n
  lia
 ·intro z
  apply Rat.not_le.mp
  rw [this]
  lia
theorem cW {p:KM.Fra} (h:1≤p.1) (k:1≤p.2):0<KM.vl p:=by
 have:=(lY (p:=(0,1)) (q:=p) (by ext) k).mpr (by show 0*p.2<p.1*1;lia)
 rw [KM.vl_zero] at this
 exact this
abbrev tV:=List Nat→KM.Fra
def k7 (ω:tV) (b:List Nat) (v:KM.Fra):tV:=fun l=>if l=b then v else ω l
def gH (ω:tV) (t:aa):Bool:=decide (t.most≠(0,1)) && decide ((ω t.bg).1*(KM.lTim t.gain (ω t.en)).2<(KM.lTim t.gain (ω t.en)).1*(ω t.bg).2)
structure LS where
 ω:tV
 on:List Nat→Option Nat
 lf:Option (List Nat)
 la:List Nat→Nat
 tm:List Nat→Nat
 ct:Nat
def mP (p i:Nat) (t:aa) (s:LS):LS:=if gH s.ω t=true then ⟨k7 s.ω t.bg (KM.lTim t.gain (s.ω t.en)),fun l=>if l=t.bg then some i else s.on l,some t.bg,fun l=>if l=t.bg then p else s.la l,fun l=>if l=t.bg then s.ct+1 else s.tm l,s.ct+1⟩ else s
def jk (p:Nat) (ts:List aa) (s:LS):Nat→LS
 | 0=>{ s with lf:=none }
 | i+1=>match ts[i]? with
  | some t=>mP p i t (jk p ts s i)
  | none=>jk p ts s i
theorem x3 {p i:Nat}{ts:List aa}{s:LS}{t:aa} (h:ts[i]?=some t):jk p ts s (i+1)=mP p i t (jk p ts s i):=by
 rw [jk,h]
def kf (p:Nat) (ts:List aa) (s:LS):LS:=jk p ts s ts.length
def xS:LS:=⟨fun _=>(1,1),fun _=>none,none,fun _=>0,fun _=>0,0⟩
def aW (ts:List aa):Nat→LS
 | 0=>xS
 | k+1=>kf (k+1) ts (aW ts k)
theorem tf {p i:Nat}{t:aa}{s:LS} (h:gH s.ω t=true):mP p i t s=⟨k7 s.ω t.bg (KM.lTim t.gain (s.ω t.en)),fun l=>if l=t.bg then some i else s.on l,some t.bg,fun l=>if l=t.bg then p else s.la l,fun l=>if l=t.bg then s.ct+1 else s.tm l,s.ct+1⟩:=by
 unfold mP;rw [if_pos h]
theorem wj {p i:Nat}{t:aa}{s:LS} (h:gH s.ω t=false):mP p i t s=s:=by
 unfold mP;rw [if_neg (by rw [h];decide)]
theorem ud {p:Nat}{ts:List aa}{s:LS}:∀{i:Nat},(jk p ts s i).lf=none→(jk p ts s i).ω=s.ω∧∀k t,k<i→ts[k]?=some t→gH s.ω t=false
 | 0,_=>⟨rfl,fun k t h=>by lia⟩
 | i+1,h=>by
  cases e:ts[i]? with
  | none=>
   have e':jk p ts s (i+1)=jk p ts s i:=by rw [jk,e]
   rw [e'] at h ⊢
   obtain ⟨h1,h2⟩:=ud h
   refine ⟨h1,fun k t hk et=>?_⟩
   by_cases c:k=i
   ·rw [c,e] at et;cases et
   ·exact h2 k t (by lia) et
  | some t=>
   rw [x3 e] at h ⊢
   cases q:gH (jk p ts s i).ω t with
   | true=>rw [tf q] at h;cases h
   | false=>
    rw [wj q] at h ⊢
    obtain ⟨h1,h2⟩:=ud h
    refine ⟨h1,fun k t' hk et=>?_⟩
    by_cases c:k=i
    ·rw [c,e] at et;cases et;rw [←h1];exact q
    ·exact h2 k t' (by lia) et
theorem tu {p:Nat}{ts:List aa}{s:LS} (h:(kf p ts s).lf=none):(kf p ts s).ω=s.ω∧∀t∈ts,gH s.ω t=false:=by
 obtain ⟨h1,h2⟩:=ud h
 refine ⟨h1,fun t ht=>?_⟩
 obtain ⟨k,hk⟩:=getElem?_of_mem ht
 exact h2 k t (List.getElem?_eq_some_iff.mp hk).1 hk
structure bp (ls:List (List Nat)) (t:aa):Prop where
 b:t.bg∈ls
 e:t.en∈ls
 ne:t.bg≠t.en
 g1:1≤t.gain.1
 g2:1≤t.gain.2
abbrev uW (s:LS) (l:List Nat):Rat:=KM.vl (s.ω l)
abbrev gR (t:aa):Rat:=KM.vl t.gain
structure BI (ls:List (List Nat)) (ts:List aa) (p i:Nat) (s:LS):Prop where
 pos:∀l∈ls,1≤(s.ω l).1∧1≤(s.ω l).2
 on:∀l k,s.on l=some k→∃t,ts[k]?=some t∧t.most≠(0,1)∧t.bg=l∧uW s l≤gR t*uW s t.en∧(s.tm l≤s.tm t.en→uW s l<gR t*uW s t.en)∧s.la l≤s.la t.en+1
 la1:∀l,1≤s.la l→s.on l≠none
 up:∀k t,ts[k]?=some t→t.most≠(0,1)→gR t*uW s t.en≤uW s t.bg∨(if k<i then p else p - 1)≤s.la t.en
 lap:∀l,s.la l≤p
 tmc:∀l,s.tm l≤s.ct
 lf:∀b,s.lf=some b→s.la b=p∧b∈ls
theorem Ay {ls:List (List Nat)}{t:aa}{ω:tV} (c:bp ls t) (pos:∀l∈ls,1≤(ω l).1∧1≤(ω l).2):KM.vl (KM.lTim t.gain (ω t.en))=KM.vl t.gain*KM.vl (ω t.en)∧1≤(KM.lTim t.gain (ω t.en)).2∧1≤(KM.lTim t.gain (ω t.en)).1:=by
 obtain ⟨p1,p2⟩:=pos t.en c.e
 have g2:=c.g2
 exact ⟨KM.vl_tim (by lia) (by lia),(KM.low_spec _ _ (mul_ne_zero (by lia) (by lia))).1,qA c.g1 c.g2 p1 p2⟩
theorem yx {ls:List (List Nat)}{t:aa}{ω:tV} (c:bp ls t) (pos:∀l∈ls,1≤(ω l).1∧1≤(ω l).2):gH ω t=true↔(t.most≠(0,1)∧KM.vl (ω t.bg)<KM.vl t.gain*KM.vl (ω t.en)):=by
 obtain ⟨e1,e2,e3⟩:=Ay c pos
 unfold gH
 rw [Bool.and_eq_true,decide_eq_true_iff,decide_eq_true_iff,←e1,lY (pos t.bg c.b).2 e2]
theorem BI.step {ls:List (List Nat)}{ts:List aa}{p i:Nat}{s:LS}{t:aa} (hp:1≤p) (c:bp ls t) (et:ts[i]?=some t) (tc:∀t∈ts,bp ls t) (h:BI ls ts p i s):BI ls ts p (i+1) (mP p i t s):=by
 have hlt:=yx c h.pos
 cases q:gH s.ω t with
 | false=>
  rw [wj q]
  refine ⟨h.pos,h.on,h.la1,fun k t' ek ho=>?_,h.lap,h.tmc,h.lf⟩
  by_cases ck:k=i
  ·subst ck
   rw [et] at ek
   cases ek
   left
   rw [q] at hlt
   have:¬(KM.vl (s.ω t.bg)<KM.vl t.gain*KM.vl (s.ω t.en)):=fun z=>by
    have:=hlt.mpr ⟨ho,z⟩
    cases this
   exact Rat.not_lt.mp this
  ·rcases h.up k t' ek ho with z | z
   ·exact .inl z
   ·right
    by_cases ck2:k<i
    ·rw [if_pos (by lia)];rw [if_pos ck2] at z;exact z
    ·rw [if_neg (by lia)];rw [if_neg ck2] at z;exact z
 | true=>
  rw [q] at hlt
  obtain ⟨ho,hl⟩:=hlt.mp rfl
  obtain ⟨e1,e2,e3⟩:=Ay c h.pos
  rw [tf q]
  have ub:∀l,l=t.bg→uW ⟨k7 s.ω t.bg (KM.lTim t.gain (s.ω t.en)),fun l=>if l=t.bg then some i else s.on l,some t.bg,fun l=>if l=t.bg then p else s.la l,fun l=>if l=t.bg then s.ct+1 else s.tm l,s.ct+1⟩ l=gR t*uW s t.en:=fun l e=>by
   show KM.vl (k7 _ _ _ l)=_
   unfold k7
   rw [if_pos e]
   exact e1
  have un:∀l,l≠t.bg→uW ⟨k7 s.ω t.bg (KM.lTim t.gain (s.ω t.en)),fun l=>if l=t.bg then some i else s.on l,some t.bg,fun l=>if l=t.bg then p else s.la l,fun l=>if l=t.bg then s.ct+1 else s.tm l,s.ct+1⟩ l=uW s l:=fun l e=>by
   show KM.vl (k7 _ _ _ l)=_
   unfold k7
   rw [if_neg e]
  generalize es:(⟨k7 s.ω t.bg (KM.lTim t.gain (s.ω t.en)),fun l=>if l=t.bg then some i else s.on l,some t.bg,fun l=>if l=t.bg then p else s.la l,fun l=>if l=t.bg then s.ct+1 else s.tm l,s.ct+1⟩:LS)=s' at ub un ⊢
  have a1:s'.ω=k7 s.ω t.bg (KM.lTim t.gain (s.ω t.en)):=by rw [←es]
  have a2:∀l,s'.on l=if l=t.bg then some i else s.on l:=fun l=>by rw [←es]
  have a3:∀l,s'.la l=if l=t.bg then p else s.la l:=fun l=>by rw [←es]
  have a4:∀l,s'.tm l=if l=t.bg then s.ct+1 else s.tm l:=fun l=>by rw [←es]
  have a5:s'.ct=s.ct+1:=by rw [←es]
  have a6:s'.lf=some t.bg:=by rw [←es]
  have mono:∀l,uW s l≤uW s' l:=fun l=>by
   by_cases cl:l=t.bg
   ·rw [ub l cl,cl];exact Rat.le_of_lt hl
   ·rw [un l cl];exact Rat.le_refl
  have lamono:∀l,s.la l≤s'.la l:=fun l=>by
   rw [a3]
   by_cases cl:l=t.bg
   ·rw [if_pos cl];exact h.lap l
   ·rw [if_neg cl];exact le_refl _
  have gpos:∀{t:aa},t∈ts→0<gR t:=fun {t} ht=>cW (tc t ht).g1 (tc t ht).g2
  refine ⟨fun l hl'=>?_,fun l k hk=>?_,fun l h1=>?_,fun k t' ek ho'=>?_,fun l=>?_,fun l=>?_,fun b hb=>?_⟩
  ·rw [a1]
   unfold k7
   by_cases cl:l=t.bg
   ·rw [if_pos cl];exact ⟨e3,e2⟩
   ·rw [if_neg cl];exact h.pos l hl'
  ·rw [a2] at hk
   by_cases cl:l=t.bg
   ·rw [if_pos cl] at hk
    cases hk
    have ne:t.en≠t.bg:=fun z=>c.ne z.symm
    refine ⟨t,et,ho,cl.symm,?_,fun z=>?_,?_⟩
    ·rw [ub l cl,un t.en ne];exact Rat.le_refl
    ·rw [a4,a4,if_pos cl,if_neg ne] at z
     have:=h.tmc t.en
     lia
    ·rw [a3,a3,if_pos cl,if_neg ne]
     rcases h.up i t et ho with z | z
     ·exact absurd hl (Rat.not_lt.mpr z)
     ·rw [if_neg (lt_irrefl _)] at z
      lia
   ·rw [if_neg cl] at hk
    obtain ⟨t',e',o',b',l',s',r'⟩:=h.on l k hk
    have gp:=gpos (mem_of_getElem? e')
    have hm:=KM.mul_le_l (mono t'.en) (Rat.le_of_lt gp)
    refine ⟨t',e',o',b',?_,fun z=>?_,?_⟩
    ·rw [un l cl];exact Rat.le_trans l' hm
    ·rw [un l cl]
     rw [a4,a4,if_neg cl] at z
     by_cases ce:t'.en=t.bg
     ·rw [ub t'.en ce]
      have:uW s t'.en<gR t*uW s t.en:=by rw [ce];exact hl
      have h2:=Rat.mul_lt_mul_of_pos_left this gp
      exact tZ l' h2
     ·rw [un t'.en ce]
      rw [if_neg ce] at z
      exact s' z
    ·rw [a3 l,if_neg cl]
     exact le_trans r' (Nat.add_le_add_right (lamono _) 1)
  ·rw [a2]
   by_cases cl:l=t.bg
   ·rw [if_pos cl];intro z;cases z
   ·rw [if_neg cl]
    rw [a3,if_neg cl] at h1
    exact h.la1 l h1
  ·by_cases ck:k=i
   ·subst ck
    rw [et] at ek
    cases ek
    left
    rw [ub t.bg rfl,un t.en (fun z=>c.ne z.symm)]
    exact Rat.le_refl
   ·by_cases ce:t'.en=t.bg
    ·right
     rw [a3,if_pos ce]
     split <;> lia
    ·rcases h.up k t' ek ho' with z | z
     ·left
      rw [un t'.en ce]
      exact Rat.le_trans z (mono _)
     ·right
      rw [a3,if_neg ce]
      by_cases ck2:k<i
      ·rw [if_pos (by lia)];rw [if_pos ck2] at z;exact z
      ·rw [if_neg (by lia)];rw [if_neg ck2] at z;exact z
  ·rw [a3]
   by_cases cl:l=t.bg
   ·rw [if_pos cl];exact le_refl _
   ·rw [if_neg cl];exact h.lap l
  ·rw [a4,a5]
   by_cases cl:l=t.bg
   ·rw [if_pos cl];exact le_refl _
   ·rw [if_neg cl];have:=h.tmc l;lia
  ·rw [a6] at hb
   cases hb
   exact ⟨by rw [a3,if_pos rfl],c.b⟩
theorem BI.all {ls:List (List Nat)}{ts:List aa} (tc:∀t∈ts,bp ls t) (p:Nat):∀i,i≤ts.length→BI ls ts p ts.length (aW ts p)→BI ls ts (p+1) i (jk (p+1) ts (aW ts p) i)
 | 0,_,h=>⟨h.pos,h.on,h.la1,fun k t e o=>by
  rcases h.up k t e o with z | z
  ·exact .inl z
  ·right
   rw [if_pos (List.getElem?_eq_some_iff.mp e).1] at z
   rw [if_neg (by lia)]
   exact z,fun l=>by have:=h.lap l;exact Nat.le_succ_of_le this,h.tmc,fun b hb=>by cases hb⟩
 | i+1,hi,h=>by
  have ih:=BI.all tc p i (by lia) h
  have e:ts[i]?=some ts[i]:=getElem?_eq_getElem (by lia)
  rw [x3 e]
  exact ih.step (by lia) (tc _ (getElem_mem _)) e tc
theorem BI.st {ls:List (List Nat)}{ts:List aa} (tc:∀t∈ts,bp ls t):∀p,BI ls ts p ts.length (aW ts p)
 | 0=>⟨fun l _=>⟨by show (1:Int)≤1;decide,by show (1:Int)≤1;decide⟩,(fun l k h=>by cases h),(fun l h=>by exact absurd h (by show ¬1≤0;decide)),(fun k t e o=>.inr (by split <;> exact zero_le _)),fun l=>le_refl _,fun l=>le_refl _,fun b hb=>by cases hb⟩
 | p+1=>BI.all tc p _ (le_refl _) (BI.st tc p)
def aR (us:List aa):Rat:=(us.map gR).foldr (· * ·) 1
structure Ed (s:LS) (t:aa):Prop where
 g:0<gR t
 le:uW s t.bg≤gR t*uW s t.en
 lt:s.tm t.bg≤s.tm t.en→uW s t.bg<gR t*uW s t.en
theorem Fw {s:LS}{c:List Nat}:∀{us:List aa}{a:List Nat},us.map (·.bg)++[c]=a :: us.map (·.en)→(∀t∈us,Ed s t)→us≠[]→uW s a≤aR us*uW s c∧(uW s a<aR us*uW s c∨s.tm c<s.tm a)
 | [],_,_,_,h=>absurd rfl h
 | t :: r,a,e,h,_=>by
  simp only [map_cons,cons_append,List.cons.injEq] at e
  obtain ⟨rfl,e⟩:=e
  have ht:=h t (mem_cons_self ..)
  have hr:=fun x hx=>h x (mem_cons_of_mem _ hx)
  have ep:aR (t :: r)=gR t*aR r:=rfl
  rw [ep]
  have g0:=Rat.le_of_lt ht.g
  cases r with
  | nil=>
   simp only [map_nil,nil_append,List.cons.injEq,and_true] at e
   subst e
   have e1:aR []=1:=rfl
   rw [e1,Rat.mul_one]
   refine ⟨ht.le,?_⟩
   by_cases z:s.tm t.bg≤s.tm t.en
   ·exact .inl (ht.lt z)
   ·exact .inr (by lia)
  | cons t2 r2=>
   obtain ⟨h1,h2⟩:=Fw e hr (by simp)
   have m1:=KM.mul_le_l h1 g0
   have ea:gR t*(aR (t2 :: r2)*uW s c)=gR t*aR (t2 :: r2)*uW s c:=(Rat.mul_assoc _ _ _).symm
   rw [ea] at m1
   refine ⟨Rat.le_trans ht.le m1,?_⟩
   by_cases z:s.tm t.bg≤s.tm t.en
   ·exact .inl (CH (ht.lt z) m1)
   ·rcases h2 with h2 | h2
    ·have m2:=Rat.mul_lt_mul_of_pos_left h2 ht.g
     rw [ea] at m2
     exact .inl (tZ ht.le m2)
    ·exact .inr (by lia)
structure cX (ts:List aa) (R:List Nat) (us:List aa):Prop where
 at':R.map (fun k=>ts[k]?)=us.map some
 op:∀t∈us,t.most≠(0,1)
 two:2≤R.length
 nd:(us.map (·.bg)).Nodup
 rot:us.map (·.en)=(us.map (·.bg)).drop 1++(us.map (·.bg)).take 1
 gain:1<aR us
theorem HD {ls:List (List Nat)}{ts:List aa}{s:LS}{ks:List Nat}{us:List aa}{l0 c:List Nat}{j:Nat} (tc:∀t∈ts,bp ls t) (pos:∀l∈ls,1≤(s.ω l).1∧1≤(s.ω l).2)
 (h1:ks.map (fun k=>ts[k]?)=us.map some) (ho:∀t∈us,t.most≠(0,1)) (he:∀t∈us,Ed s t) (nd:(us.map (·.bg)).Nodup) (ch:us.map (·.bg)++[c]=l0 :: us.map (·.en)) (hj:(us.map (·.bg))[j]?=some c):cX ts (ks.drop j) (us.drop j):=by
 have lj:j<us.length:=by have:=(List.getElem?_eq_some_iff.mp hj).1;rwa [length_map] at this
 have lk:ks.length=us.length:=by have:=congrArg length h1;simpa using this
 have memT:∀t∈us,t∈ts:=fun t ht=>by
  have:some t∈ks.map (fun k=>ts[k]?):=by rw [h1];exact mem_map_of_mem ht
  obtain ⟨k,_,hk⟩:=List.mem_map.mp this
  exact mem_of_getElem? hk
 have sub:∀t∈us.drop j,t∈us:=fun t ht=>mem_of_mem_drop ht
 have ch2:(us.drop j).map (·.bg)++[c]=c :: (us.drop j).map (·.en):=by
  have e:=congrArg (List.drop j) ch
  rw [List.drop_append_of_le_length (by rw [length_map];lia)] at e
  rw [map_drop,e]
  cases j with
  | zero=>
   cases us with
   | nil=>simp at lj
   | cons t r=>
    simp at hj ch
    simp [←ch.1,hj]
  | succ m=>
   rw [List.drop_succ_cons,map_drop]
   have hm:m<(us.map (·.en)).length:=by rw [length_map];lia
   rw [List.drop_eq_getElem_cons hm]
   have:(us.map (·.en))[m]?=some c:=by
    have e2:=congrArg (fun z=>z[m+1]?) ch
    simp only [List.getElem?_cons_succ] at e2
    rw [←e2,getElem?_append_left (by rw [length_map];exact lj)]
    exact hj
   rw [(List.getElem?_eq_some_iff.mp this).2]
 obtain ⟨t0,r0,e0⟩:aT fun t r=>us.drop j=t :: r:=by
  cases e:us.drop j with
  | nil=>have:=congrArg length e;simp at this;lia
  | cons t r=>exact ⟨t,r,rfl⟩
 have al:=Fw ch2 (fun t ht=>he t (sub t ht)) (by rw [e0];simp)
 have hc:c∈ls:=by
  obtain ⟨t,ht,rfl⟩:=List.mem_map.mp (mem_of_getElem? hj)
  exact (tc t (memT t ht)).b
 have up:0<uW s c:=cW (pos c hc).1 (pos c hc).2
 have gain:1<aR (us.drop j):=by
  rcases al.2 with z | z
  ·apply Rat.not_le.mp
   intro w
   have:=Rat.mul_le_mul_of_nonneg_right w (Rat.le_of_lt up)
   rw [Rat.one_mul] at this
   exact absurd z (Rat.not_lt.mpr this)
  ·lia
 have rot:(us.drop j).map (·.en)=((us.drop j).map (·.bg)).drop 1++((us.drop j).map (·.bg)).take 1:=by
  rw [e0] at ch2 ⊢
  simp only [map_cons,cons_append,List.cons.injEq] at ch2
  simp only [map_cons,List.drop_succ_cons,drop_zero,List.take_succ_cons,List.take_zero]
  rw [←ch2.2,ch2.1]
 refine ⟨by rw [map_drop,h1,map_drop],fun t ht=>ho t (sub t ht),?_,?_,rot,gain⟩
 ·rw [length_drop,lk]
  have:(us.drop j).length=us.length - j:=length_drop ..
  rw [←this]
  cases r0 with
  | nil=>
   rw [e0] at rot
   simp at rot
   exact absurd rot.symm (tc t0 (memT t0 (sub t0 (by rw [e0];simp)))).ne
  | cons t1 r1=>rw [e0];simp
 ·rw [map_drop]
  exact List.Sublist.nodup (List.drop_sublist _ _) nd
theorem xV {ls:List (List Nat)}{u:List Nat→Rat} (pos:∀l∈ls,0<u l) {c:List Nat}:∀{us:List aa}{a:List Nat},us.map (·.bg)++[c]=a :: us.map (·.en)→(∀t∈us,bp ls t∧gR t*u t.en≤u t.bg)→aR us*u c≤u a
 | [],a,e,_=>by
  simp at e
  rw [e]
  show (1:Rat)*u a≤u a
  rw [Rat.one_mul]
  exact Rat.le_refl
 | t :: r,a,e,h=>by
  simp only [map_cons,cons_append,List.cons.injEq] at e
  obtain ⟨rfl,e⟩:=e
  obtain ⟨ht,hh⟩:=h t (mem_cons_self ..)
  have ih:=xV pos e fun x hx=>h x (mem_cons_of_mem _ hx)
  have g0:0<gR t:=cW ht.g1 ht.g2
  have m:=KM.mul_le_l ih (Rat.le_of_lt g0)
  have ea:gR t*(aR r*u c)=aR (t :: r)*u c:=(Rat.mul_assoc _ _ _).symm
  rw [ea] at m
  exact Rat.le_trans m hh
end L2
namespace L2
open PySem PySem.Spec PyProof.Rows
section
variable {prog:Program}{w:World}{A:Around}{E:Value→Shared→Prop}{hp:Heap}{gs:Array GenState}{dr:Drawn}{tk:Nat}{os:OsState}
variable {nm qn:Str}{C N:Addr}{bs bm bB:List Value}{hd:Bool}{sn:List Str}{sb:List Value}{ab:Bool}{cl:Option Bool}{dd:Option Addr}{k0 k1 k2 k3 k5:Option Value}{B nw ni:String}
theorem BX (FB:ExcBaseFacts B nw ni bB) (T:OwnTail hp bB bm) {mN:Str→Option Value}{us:List Value}{fI:Addr}{oI:Obj}{R:Fin→Shared→Prop}
 (eC:hp.get? C=some (excClassObj nm qn C N bs bm hd sn sb ab cl dd k0 k1 k2 k3 k5 nw)) (eN:hp.Ns N mN) (eI:mN "__init__" = some (.ref fI)) (ef:hp.get? fI=some oI) (ec:oI.cls=.type "function") (lu:us.length≤sizeLine)
 (go:∀h1 x,Heap.MadeExcOf hp h1 x (.ref C) us→wpAny (model prog w) A (call (.ref fI) (.ref x :: us)) (fun r s1=>r=.none∧R (.done (.ret (.ref x))) s1) E ⟨h1,gs,dr,tk,os⟩) :
 wpAny (model prog w) A (Builtin.«type.__call__» ⟨.ref C :: us,[]⟩) R E ⟨hp,gs,dr,tk,os⟩:=by
 repeat (first | with_reducible refine wpAny_madeBy_exc eC ?_ | with_reducible refine wpAny_loadPart_at eC ?_ | wp_step)
 refine codeAny_call_builtin_code (Code.quiet_builtin _ FB.quiet) (wpAny_check_new_subT FB T eC ?_)
 refine codeAny_exc_new_subT FB T eC ?_ lu
 show wpAny _ _ _ _ _ _
 have up:∀b o,hp.get? b=some o→((hp.push { cls:=.type "tuple",data:=.seq us.toArray }).push { cls:=.ref C,data:=.fields #[.ref hp.objs.size,.none,.none,.none,.bool false,.none] }).get? b=some o:=fun b o e=>Heap.get?_push_of_some _ (Heap.get?_push_of_some _ e)
 have at1:((hp.push { cls:=.type "tuple",data:=.seq us.toArray }).push { cls:=.ref C,data:=.fields #[.ref hp.objs.size,.none,.none,.none,.bool false,.none] }).get? (hp.objs.size+1)=some { cls:=.ref C,data:=.fields #[.ref hp.objs.size,.none,.none,.none,.bool false,.none] }:=by heap_get
 have me:Heap.MadeExcOf hp ((hp.push { cls:=.type "tuple",data:=.seq us.toArray }).push { cls:=.ref C,data:=.fields #[.ref hp.objs.size,.none,.none,.none,.bool false,.none] }) (hp.objs.size+1) (.ref C) us:=
  ⟨up,Heap.get?_none_of_le (le_succ _),hp.objs.size,at1,Heap.get?_none_of_le (le_refl _),Heap.get?_push_of_some _ (Heap.get?_push_at rfl rfl)⟩
 have cc:(Value.ref C :: bm).contains (.ref C)=true:=by simp
 have f1:=up _ _ ef
 unfold isInstance
 repeat (first | with_reducible refine wpAny_loadPart_at at1 ?_ | (with_reducible refine wpAny_isSubtype_exc (up _ _ eC) ?_;rw [cc]) | wp_step)
 show wpAny _ _ (typeLookup (.ref C) _) _ _ _
 refine wpAny_typeLookup_tail (up _ _ eC) (eN.keeps up) (T.keeps up) FB.mroIs FB.init.lookup ?_
 rw [eI]
 refine wpAny_holding (wpAny_bind ?_)
 unfold bindSpecial
 refine wpAny_bind (wpAny_typeOf (T := "function") ⟨_,f1,ec⟩ ?_)
 rw [if_pos (by ext)]
 refine wpAny_pure (wpAny_bind (wpAny_mono (go _ _ me) (fun r s1 hr=>?_) fun _ _ z=>z))
 obtain ⟨rfl,hR⟩:=hr
 wp_walk
 exact hR
theorem C3 (FB:ExcBaseFacts B nw ni bB) (T:OwnTail hp bB bm) {mN:Str→Option Value}{us:List Value}{fI:Addr}{oI:Obj}{R:Value→Shared→Prop}
 (eC:hp.get? C=some (excClassObj nm qn C N bs bm hd sn sb ab cl dd k0 k1 k2 k3 k5 nw)) (eN:hp.Ns N mN) (eI:mN "__init__" = some (.ref fI)) (ef:hp.get? fI=some oI) (ec:oI.cls=.type "function") (lu:us.length≤sizeLine)
 (go:∀h1 x,Heap.MadeExcOf hp h1 x (.ref C) us→wpAny (model prog w) (A.under (.builtin "type.__call__" ⟨.ref C :: us,[]⟩)) (call (.ref fI) (.ref x :: us)) (fun r s1=>r=.none∧R (.ref x) s1) E ⟨h1,gs,dr,tk,os⟩) :
 wpAny (model prog w) A (call (.ref C) us) R E ⟨hp,gs,dr,tk,os⟩:=by
 have l1:=tc_lookup
 have l2:=tc_bind (.ref C)
 have ty:(⟨hp,gs,dr,tk,os⟩:Shared).TypeIs (.ref C) "type" := ⟨_,eC,rfl⟩
 refine wpAny_call (codeAny_of_tree ?_)
 show wpAny _ _ (callAny (.ref C) _) _ _ _
 repeat (any_goals (first | assumption | with_reducible refine wpAny_loadPart_at eC ?_ | wp_step))
 exact ⟨rfl,codeAny_call_builtin_at (Code.quiet_builtin _ (by nofun)) entry_typeCall (wpAny_check_type_call_sub eC (BX FB T eC eN eI ef ec lu fun h1 x m=>go h1 x m))⟩
end
end L2
namespace L2
open PySem PySem.Spec PyProof.Rows PySem.W
section
variable {prog:Program}{w:World}{A:Around}{E:Value→Shared→Prop}{s:Shared}{K:Frag}{x C:Addr}{ox:Obj}{od:Option Obj}{name:Str}{fill expr:Bool}
theorem AY {K:Frag}{C:Addr} (h:rT K C=true):findIn K (.ref C) "__getattribute__" = some (some (.builtin "BaseException.__getattribute__"))∧findIn K (.ref C) "__getattr__" = some none∧mroIn K C (.type "BaseException")=some true:=by
 simp only [rT,Bool.and_eq_true,beq_iff_eq] at h
 exact ⟨h.1.1,h.1.2,h.2⟩
theorem Dx {tk:Tok}{R:Result→Shared→Prop}{f:Builtin.ObjectAttr.Found} (X:K.In s.heap) (I:InstAt s.heap x ox C od) (g:rT K C=true) (hf:findObj K C od name=some f)
 (h:wpAny (model prog w) A.in1 (match f with | .value v=>ret v | .bind g a=>Builtin.ObjectAttr.bindTo g a (.ref x) (.ref C) | .missing=>unsupported "") (fun aV s'=>match aV with | .done (.ret v)=>R (.ok (.ret v)) s' | _=>False) (fun _ _=>False) s) (hm:f≠.missing) :
 codeAny (model prog w) A (.call (.builtin "BaseException.__getattribute__") ⟨[.ref x,.str name tk],[]⟩) R s:=by
 obtain ⟨g1,g2,g3⟩:=AY g
 have sub:Looks (model prog w) s.heap (isInstance (.ref x) (.type "BaseException")) true:=I.type.andThen (looks_mroIn X g3)
 refine codeAny_call_builtin PySem.F.attr_ValueError.ga.plain PySem.F.entry_bexc_ga (@check_slot (model prog w) _ _ s "BaseException.__getattribute__" "BaseException" "__getattribute__" (.ref x) [.str name tk] [] _ (by nofun) (by nofun) sub (PySem.F.args_bexc_ga _ _) ?_)
 have L1:=looks_find (M:=model prog w) X I hf
 have L0:=I.type (M:=model prog w)
 unfold Builtin.«object.__getattribute__»
 refine wpAny_bind (wpAny_pure (wpAny_bind (wpAny_pure (wpAny_bind (L0.here (wpAny_bind (L1.here ?_)))))))
 cases f with
 | missing=>exact absurd rfl hm
 | value v=>
  refine wpAny_mono h (fun aV s' z=>?_) fun _ _ z=>z.elim
  rcases aV with (_ | _ | _ | _) | _ <;> first | exact z | exact z.elim
 | bind g a=>
  refine wpAny_mono h (fun aV s' z=>?_) fun _ _ z=>z.elim
  rcases aV with (_ | _ | _ | _) | _ <;> first | exact z | exact z.elim
theorem AV {tk:Tok}{Q:Value→Shared→Prop}{f:Builtin.ObjectAttr.Found} (X:K.In s.heap) (I:InstAt s.heap x ox C od) (g:rT K C=true) (hf:findObj K C od name=some f) (hm:f≠.missing)
 (h:wpAny (model prog w) A.in1 (match f with | .value v=>ret v | .bind g a=>Builtin.ObjectAttr.bindTo g a (.ref x) (.ref C) | .missing=>unsupported "") (fun aV s'=>match aV with | .done (.ret v)=>wpAny (model prog w) A (handedOut v) Q E s' | _=>False) (fun _ _=>False) s) :
 wpAny (model prog w) A (getAttrBy (.ref x) (.str name tk) fill expr) Q E s:=by
 obtain ⟨g1,g2,g3⟩:=AY g
 have L0:=I.type (M:=model prog w)
 have L1:=looks_findIn (M:=model prog w) X g1
 have L2:=looks_findIn (M:=model prog w) X g2
 unfold getAttrBy
 refine wpAny_holding (wpAny_bind (L0.here (wpAny_bind (L1.here ?_))))
 dsimp only
 rw [show (onTheHeap (Value.ref C) && Value.builtin "BaseException.__getattribute__" == Value.builtin "object.__getattribute__")=false from by rw [show (Value.builtin "BaseException.__getattribute__" == Value.builtin "object.__getattribute__")=false from by nofun,Bool.and_false],if_neg (by ext)]
 unfold getAttrByItsOwn hookBefore
 rw [if_pos (show onTheHeap (Value.ref C)=true from rfl)]
 refine wpAny_bind (L2.here (wpAny_bind (wpAny_attempt (wpAny_holding ?_))))
 unfold callGetattribute
 rw [show (expr && onTheHeap (Value.builtin "BaseException.__getattribute__"))=false by cases expr <;> rfl,if_neg (by ext)]
 unfold boundAndCalled
 rw [PySem.F.attr_ValueError.ga.bind]
 refine wpAny_bind (wpAny_pure (wpAny_call (Dx X I g hf (wpAny_mono h (fun aV s' z=>?_) fun _ _ z=>z) hm)))
 rcases aV with (_ | _ | _ | _) | _ <;> first | exact z | exact z.elim
theorem JQ {v:Value}{Q:Value→Shared→Prop} (X:K.In s.heap) (I:InstAt s.heap x ox C od) (g:rT K C=true) (hf:findObj K C od name=some (.value v)) (hh:handedIn v=true) (h:Q v { s with toks:=s.toks+1 }) :
 wpAny (model prog w) A (getAttr (.ref x) name expr) Q E s:=by
 unfold getAttr
 refine wpAny_bind (wpAny_mkText (AV (s:={ s with toks:=s.toks+1 }) X I g hf (fun z=>nomatch z) (wpAny_pure ?_)))
 show wpAny _ _ (handedOut v) _ _ _
 rw [handedOut_of hh]
 exact wpAny_pure h
theorem uM {K:Frag}{C:Addr} (h:rP K C=true):rT K C=true∧(clsIn K C).isSome=true∧findIn K (.ref C) "__class__" = some (some (.builtin "object.__class__"))∧specialIn K (.builtin "object.__class__") "__get__" = some (some (.builtin "getset_descriptor.__get__"))∧takesIn K (.builtin "object.__class__")=some true∧mroIn K C (.type "object")=some true:=by
 unfold rP at h
 simp only [Bool.and_eq_true,beq_iff_eq] at h
 obtain ⟨⟨⟨⟨⟨a,b⟩,c⟩,d⟩,e⟩,f⟩:=h
 exact ⟨by unfold rT;simp only [Bool.and_eq_true,beq_iff_eq];exact a,b,c,d,e,f⟩
theorem Cr (g:rP K C=true):findObj K C od "__class__" = some (.bind (.builtin "getset_descriptor.__get__") (.builtin "object.__class__")):=by
 obtain ⟨_,hc,ha,hg,ht,_⟩:=uM g
 obtain ⟨cd,hc⟩:=Option.isSome_iff_exists.mp hc
 unfold findObj
 rw [hc,Option.bind_some,ha,Option.bind_some]
 dsimp only
 rw [hg,Option.bind_some]
 dsimp only
 rw [ht,Option.bind_some]
theorem GO {Q:Option Value→Shared→Prop} (X:K.In s.heap) (I:InstAt s.heap x ox C od) (g:rP K C=true) (h:Q (some (.ref C)) { s with toks:=s.toks+1 }):wpAny (model prog w) A (getAttr? (.ref x) "__class__") Q E s:=by
 obtain ⟨g0,_,_,_,_,gm⟩:=uM g
 unfold getAttr? getAttrBy?
 refine wpAny_bind (wpAny_mkText (wpAny_bind (wpAny_attempt (AV (s:={ s with toks:=s.toks+1 }) X I g0 (Cr g) (fun z=>nomatch z) ?_))))
 show wpAny _ _ (holding [_] (call _ _) >>= ret) _ _ _
 refine wpAny_bind (wpAny_holding (wpAny_call (class_get (s:={ s with toks:=s.toks+1 }) (ox:=ox) (od:=od) X I gm (wpAny_pure (handed_on rfl (wpAny_pure h))))))
theorem zx (g:rP K C=true):KitX K (.ref x) (.ref C) (fun h=>aT fun ox od=>InstAt h x ox C od) where
 ty:=fun _ _ _ ⟨_,_,I⟩=>I.type
 it:=fun _ _ X _=>by
  obtain ⟨cd,hc⟩:=Option.isSome_iff_exists.mp (uM g).2.1
  unfold clsIn at hc
  split at hc
  ·rename_i ho
   intro A' Q' E' s' k q
   unfold isType loadHead
   exact wpAny_bind (wpAny_loadPart (k _ _ (X _ _ ho)) (wpAny_pure q))
  ·cases hc
 ne:=fun h tp dd its n sl X htp=>by
  obtain ⟨cd,hc⟩:=Option.isSome_iff_exists.mp (uM g).2.1
  refine Bool.eq_false_iff.mpr fun q=>?_
  obtain rfl:C=tp:=Value.ref.inj (beq_iff_eq.mp q)
  unfold clsIn at hc
  split at hc
  ·rename_i ho
   have z:=(X _ _ ho).symm.trans htp
   cases z
  ·cases hc
 ca:=fun X ⟨_,_,I⟩ k=>GO X I g k
end
end L2
namespace L2
open PySem PySem.Spec PyProof.Rows PySem.W PySem.Builtin.ObjectAttr
theorem gl (self:Value):refuseLoop self "__setattr__" [.type "ValueError",.type "Exception",.type "BaseException",.type "object"]=pure ():=by kernel_rfl
theorem wJ (self:Value):∀{l:List Value},uj l=true→refuseLoop self "__setattr__" l=pure ()
 | .ref c :: r,e=>by rw [refuseLoop_ref];exact wJ self e
 | [],e=>by cases beq_iff_eq.mp (show (([]:List Value)==_)=true from e)
 | .none :: r,e=>by rw [beq_iff_eq.mp (show (_==_)=true from e)];exact gl self
 | .bool _ :: r,e=>by rw [beq_iff_eq.mp (show (_==_)=true from e)];exact gl self
 | .int _ _ :: r,e=>by rw [beq_iff_eq.mp (show (_==_)=true from e)];exact gl self
 | .float _ _ :: r,e=>by rw [beq_iff_eq.mp (show (_==_)=true from e)];exact gl self
 | .str _ _ :: r,e=>by rw [beq_iff_eq.mp (show (_==_)=true from e)];exact gl self
 | .bytes _ _ :: r,e=>by rw [beq_iff_eq.mp (show (_==_)=true from e)];exact gl self
 | .type _ :: r,e=>by rw [beq_iff_eq.mp (show (_==_)=true from e)];exact gl self
 | .builtin _ :: r,e=>by rw [beq_iff_eq.mp (show (_==_)=true from e)];exact gl self
theorem Ds {h:Heap}{a:Addr}{name:Str}{v:Value} (n:h.Ns1 a fun y=>if y=name then some v else none):∃o,h.get? a=some o∧o.data.pastItsLine=none:=by
 obtain ⟨o,es,ep,e,d,sk,uq,f⟩:=n
 refine ⟨o,e,?_⟩
 rw [d]
 refine pastItsLine_dict ?_
 have key:∀x∈es,∃t,x.key=.str name t:=fun x hx=>by
  obtain ⟨m,t,hm⟩:=sk x hx
  have q:=f m
  by_cases c:m=name
  ·exact ⟨t,by rw [hm,c]⟩
  ·dsimp only at q
   rw [if_neg c] at q
   simp only [nsFind,findBy,Option.map_eq_none_iff,Array.find?_eq_none] at q
   have:=q x hx
   rw [hm] at this
   simp [Value.isStr] at this
 have small:es.toList.length≤1:=by
  unfold UniqKeys at uq
  cases el:es.toList with
  | nil=>simp
  | cons x r=>
   cases r with
   | nil=>simp
   | cons y r=>
    rw [el] at uq
    obtain ⟨t1,k1⟩:=key x (Array.mem_toList_iff.mp (by rw [el];simp))
    obtain ⟨t2,k2⟩:=key y (Array.mem_toList_iff.mp (by rw [el];simp))
    exfalso
    exact (List.pairwise_cons.mp uq).1 y (by simp) name (by rw [k1];simp [Value.isStr]) (by rw [k2];simp [Value.isStr])
 rw [Array.length_toList] at small
 rw [sizeLine_eq]
 lia
section
variable {prog:Program}{w:World}{A:Around}{E:Value→Shared→Prop}{s:Shared}{K:Frag}{x C:Addr}{ox:Obj}{name:Str}{v:Value}
abbrev uH:Obj:={ cls:=.type "dict",data:=.dict #[] }
theorem JK {tk:Tok}{R:Result→Shared→Prop} (X:K.In s.heap) (I:InstAt s.heap x ox C none) {vs:Array Value} (hf:ox.data=.fields vs) (g:hU K C name=true)
 (h:∀h' tk',h'.Ns1 #[s] (fun y=>if y=name then some v else none)→h'.get? x=some { ox with dict:=some #[s] }→(∀b o,b≠x→s.heap.get? b=some o→h'.get? b=some o)→R (.ok (.ret .none)) { s with heap:=h',toks:=tk' }) :
 codeAny (model prog w) A (.call (.builtin "object.__setattr__") ⟨[.ref x,.str name tk,v],[]⟩) R s:=by
 have SF:=PySem.F.store_object
 unfold hU at g
 simp only [Bool.and_eq_true,beq_iff_eq] at g
 obtain ⟨⟨⟨g1,g2⟩,g3⟩,g4⟩:=g
 obtain ⟨cd,hc,hp⟩:=any_some g1
 rw [Bool.and_eq_true] at hp
 have sub:Looks (model prog w) s.heap (isInstance (.ref x) (.type "object")) true:=I.type.andThen (looks_mroIn X g4)
 refine codeAny_call_builtin SF.slot.plain SF.entry (@check_slot (model prog w) _ _ s "object.__setattr__" "object" "__setattr__" (.ref x) [.str name tk,v] [] _ SF.kind SF.split sub (SF.args (.ref x) (.str name tk) v) ?_)
 obtain ⟨attr,ha,hr⟩:=Option.bind_eq_some_iff.mp g3
 have lm:Looks (model prog w) s.heap (mroOf (.ref C)) cd.mro:=(looks_clsIn X hc).andThen .now
 have lt:Looks (model prog w) s.heap (storeTaker? attr) none:=by
  cases attr with
  | none=>exact .now
  | some a=>
   obtain ⟨b,hb,e⟩:=Option.map_eq_some_iff.mp hr
   refine (looks_takesIn X hb).andThen ?_
   cases b with
   | true=>cases e
   | false=>exact .now
 rw [osa_eq,refuse_eq]
 refine wpAny_bind (wpAny_bind (I.type.here (wpAny_bind (lm.here ?_))))
 rw [wJ _ hp.1]
 refine wpAny_pure (wpAny_bind (I.type.here (wpAny_bind ((looks_findIn X ha).here (wpAny_bind (lt.here ?_))))))
 obtain ⟨hx,hcl,hn,hd⟩:=I
 obtain ⟨oc,odi,oda,osl⟩:=ox
 dsimp only at hcl hd hn hf
 subst hcl hf
 have e0:odi=none:=by
  cases odi with
  | none=>rfl
  | some d=>exact hd.elim
 subst e0
 refine wpAny_bind (wpAny_pure (wpAny_bind (wpAny_bind (wpAny_loadPart hx (wpAny_bind ((looks_clsIn X hc).here ?_))))))
 rw [hp.2,if_neg (by ext)]
 show wpAny _ _ (alloc uH >>= fun d=>update x (fun o=>{ o with dict:=some d }) >>= fun _=>dictMade (.ref C) x d) _ _ _
 refine wpAny_bind (wpAny_alloc (wpAny_bind ?_))
 have lx:x < #[s]:=Heap.lt_size hx
 have hx1:(s.heap.push uH).get? x=some ⟨.ref C,none,.fields vs,osl⟩:=Heap.get?_push_of_some _ hx
 have nd:#[s]≠x:=ne_of_gt lx
 have hd1:((s.heap.push uH).update x fun o=>{ o with dict:=some #[s] }).get? #[s]=some uH:=by
  rw [Heap.get?_update_other _ _ (Ne.symm nd)]
  exact Heap.get?_push_size _ rfl
 refine wpAny_update hx1 ?_
 refine wpAny_pure ?_
 show wpAny _ _ (storeInDict #[s] (.str name tk) name v) _ _ _
 have n0:((s.heap.push uH).update x fun o=>{ o with dict:=some #[s] }).Ns1 #[s] (fun _=>none):=Heap.Ns1.of_empty ⟨uH,#[],_,hd1,rfl,(fun e he=>absurd he (by simp)),fun _=>rfl⟩
 unfold storeInDict
 refine wpAny_bind (wpAny_pure (wpAny_bind (wpAny_nsSet1 n0 fun h2 n2 sb=>wpAny_bind ?_)))
 obtain ⟨o2,e2,p2⟩:=Ds n2
 refine wpAny_lookBehind e2 p2 (wpAny_pure ?_)
 refine h h2 _ n2 ?_ fun b o nb hb=>?_
 ·rw [sb.2 x (Ne.symm nd)]
  exact Heap.get?_update_self _ hx1 rfl
 ·rw [sb.2 b (ne_of_lt (Heap.lt_size hb)),Heap.get?_update_other _ _ (Ne.symm nb)]
  exact Heap.get?_push_of_some _ hb
theorem Kh {Q:Unit→Shared→Prop} (X:K.In s.heap) (I:InstAt s.heap x ox C none) {vs:Array Value} (hf:ox.data=.fields vs) (g:hU K C name=true)
 (h:∀h' tk',h'.Ns1 #[s] (fun y=>if y=name then some v else none)→h'.get? x=some { ox with dict:=some #[s] }→(∀b o,b≠x→s.heap.get? b=some o→h'.get? b=some o)→Q () { s with heap:=h',toks:=tk' }) :
 wpAny (model prog w) A (setAttr (.ref x) name v) Q E s:=by
 have g2:findIn K (.ref C) "__setattr__" = some (some (.builtin "object.__setattr__")):=by
  unfold hU at g
  simp only [Bool.and_eq_true,beq_iff_eq] at g
  exact g.1.1.2
 exact set_plain X I g2 (JK (s:={ s with toks:=s.toks+1 }) X I hf g fun h' tk' a b c=>h h' tk' a b c)
end
theorem FR {d:Data}{cd:ClassData} (h:EC d=some cd):d=.cls cd:=by
 cases d with
 | cls c=>cases h;rfl
 | _=>cases h
theorem Lv {α:Type}{ls:List α} (h:ls.length=6):zO fun a b c d e f=>ls=[a,b,c,d,e,f]:=by
 match ls,h with
 | [a,b,c,d,e,f],_=>exact ⟨a,b,c,d,e,f,rfl⟩
theorem Mq {α:Type}{sl:Array α}{x:α} (h:sl.size=6) (k:sl[4]?=some x):Fy fun a b c d f=>sl=#[a,b,c,d,x,f]:=by
 obtain ⟨l⟩:=sl
 obtain ⟨a,b,c,d,e,f,rfl⟩:=Lv (show l.length=6 from h)
 obtain rfl:e=x:=Option.some.inj k
 exact ⟨a,b,c,d,f,rfl⟩
theorem Jh {K:Frag}{h:Heap}{N:Addr}{mp:Str→Option Value}{n:Str}{v:Value} (X:K.In h) (G:h.Ns N mp) (e:nsIn K N n=some (some v)):mp n=some v:=by
 obtain ⟨ob,es,ep,ho,hd,_,f⟩:=G
 unfold nsIn at e
 split at e
 ·rename_i q
  have z:=X _ _ q
  rw [ho] at z
  cases z
  cases hd
  split at e
  ·rename_i he
   cases e
   rw [←f]
   unfold nsFind findBy
   rw [←Array.find?_toList,he];rfl
  ·split at e <;> cases e
 ·cases e
theorem Ce {K:Frag}{h:Heap}{C:Addr}{ini:Option Value} (X:K.In h) (q:bR K C ini=true):∃nm qn N bs bm hd sn sb ab cl dd k0 k1 k2 k3 k5 mN,
 h.get? C=some (excClassObj nm qn C N bs bm hd sn sb ab cl dd k0 k1 k2 k3 k5 "ValueError.__new__")∧h.Ns N mN∧OwnTail h Fv bm∧mN "__init__" = ini:=by
 unfold bR at q
 cases ho:K.lookup C with
 | none=>rw [ho] at q;cases q
 | some o=>
  rw [ho] at q
  dsimp only at q
  cases hc:EC o.data with
  | none=>rw [hc] at q;cases q
  | some cd=>
   rw [hc] at q
   dsimp only at q
   rw [Bool.and_eq_true,Bool.and_eq_true,Bool.and_eq_true,Bool.and_eq_true,Bool.and_eq_true,Bool.and_eq_true,Bool.and_eq_true,beq_iff_eq,beq_iff_eq,beq_iff_eq,beq_iff_eq,beq_iff_eq,Bool.not_eq_true'] at q
   obtain ⟨q1,q2,dl,tl,ok,hi,z1,z2⟩:=q
   obtain ⟨k0,k1,k2,k3,k5,e6⟩:=Mq z1 z2
   have ed:=FR hc
   obtain ⟨oc,dd,od,sl⟩:=o
   dsimp only at q1 ed e6
   subst q1 ed e6
   obtain ⟨nm,bs,mro,ns,qn,hd,sn,sub,ab,col,del⟩:=cd
   dsimp only at q2 dl tl ok hi
   subst dl
   cases mro with
   | nil=>cases q2
   | cons m bm=>
    obtain rfl:m=.ref C:=Option.some.inj q2
    have nm1:h.Ns ns (h.nsMap ns):=.of_isNs (isNs_of_in X ok)
    refine ⟨nm,qn,ns,bs,bm,hd,sn,sub,ab,col,dd,k0,k1,k2,k3,k5,_,X _ _ ho,nm1,tail_of_in X tl,?_⟩
    cases ini with
    | none=>exact nsMap_none_of_in X ok hi
    | some v=>exact Jh X nm1 hi
section
variable {prog:Program}{w:World}{A:Around}{E:Value→Shared→Prop}{s:Shared}{K:Frag}{x C:Addr}{ox:Obj}{od:Option Obj}{a0:Value}
theorem Ib {u:Value}{Q:Value→Shared→Prop}{ini:Option Value} (X:K.In s.heap) (I:InstAt s.heap x ox C od) (hf:ox.data=.fields #[a0,.none,.none,.none,.bool false,.none]) (hm:bR K C ini=true)
 (h:∀h',h'.get? x=some { ox with data:=.fields #[.ref #[s],.none,.none,.none,.bool false,.none] }→(∀b o,b≠x→s.heap.get? b=some o→h'.get? b=some o)→Q .none { s with heap:=h' }) :
 wpAny (model prog w) A (call (.builtin "ValueError.__init__") [.ref x,u]) Q E s:=by
 have FB:=PySem.F.excBase_ValueError
 obtain ⟨nm,qn,N,bs,bm,hd,sn,sb,ab,cl,dd,k0,k1,k2,k3,k5,mN,eC,eN,T,_⟩:=Ce X hm
 have hx:=I.at_
 have hc:=I.cls
 obtain ⟨oc,odi,oda,osl⟩:=ox
 dsimp only at hf hc hx
 subst hf hc
 obtain ⟨hp,gs,dr,tk,os⟩:=s
 dsimp only at eC eN T hx
 refine wpAny_call (codeAny_call_builtin FB.init.plain FB.initEntry (wpAny_check_init_subT FB T eC hx rfl ?_))
 have lx:x<hp.objs.size:=Heap.lt_size hx
 have hx1:(hp.push { cls:=.type "tuple",data:=.seq #[u,] }).get? x=some ⟨.ref C,odi,.fields #[a0,.none,.none,.none,.bool false,.none],osl⟩:=Heap.get?_push_of_some _ hx
 unfold Builtin.«BaseException.__init__»
 refine wpAny_bind (wpAny_newTuple (wpAny_bind ?_))
 unfold Builtin.BaseException.bexcPut
 refine wpAny_bind (wpAny_field hx1 rfl rfl (wpAny_bind (wpAny_setField hx1 rfl (by show 0<6;decide) ?_)))
 have aV:wpAny (model prog w) A.in1 (ret .none) (fun aV s'=>match aV with | .done f=>(match Except.ok f with | Except.ok (Flow.ret v)=>Q v s' | Except.ok _=>False | Except.error e=>E e s') | .again c'=>False) (fun e s'=>E e s') ⟨(hp.push { cls:=.type "tuple",data:=.seq #[u,] }).update x (Obj.mapFields (·.setIfInBounds 0 (.ref hp.objs.size))),gs,dr,tk,os⟩:=by
  refine wpAny_pure (h _ ?_ fun b o nb hb=>?_)
  ·exact Heap.get?_update_self _ hx1 rfl
  ·rw [Heap.get?_update_other _ _ (Ne.symm nb)]
   exact Heap.get?_push_of_some _ hb
 have fin2:=wpAny_mono aV (Q':=fun aV s'=>match aV with | .done f=>(match (Except.ok f:Result) with | Except.ok (Flow.ret v)=>Q v s' | Except.ok _=>False | Except.error e=>E e s') | .again c'=>c'.quiet=true∧codeAny (model prog w) A c' (fun r s'=>match r with | Except.ok (Flow.ret v)=>Q v s' | Except.ok _=>False | Except.error e=>E e s') s') (fun f s' z=>by
  cases f with
  | done f=>exact z
  | again c=>exact z.elim) fun _ _ z=>z
 split
 ·exact wpAny_letGo fin2
 ·exact wpAny_pure fin2
end
end L2
namespace L2
open PySem PySem.Spec PyProof.Rows
theorem be.there {P:Program}{w:World}{H:Hp}{h:Heap}{a:Addr}{o:HO} (x:be P w H h a o):∃u,h.get? a=some u:=by
 cases o with
 | lst xs=>obtain ⟨_,_,_,_,e⟩:=x;exact ⟨_,e⟩
 | tup xs=>obtain ⟨_,_,_,⟨_,e,_⟩,_⟩:=x;exact ⟨_,e⟩
 | dK kvs=>obtain ⟨_,_,_,_,o,_,_,e,_⟩:=x;exact ⟨_,e⟩
 | dT kvs=>obtain ⟨_,_,_,_,o,_,_,e,_⟩:=x;exact ⟨_,e⟩
 | set S n=>obtain ⟨o,_,_,_,e,_⟩:=x;exact ⟨_,e⟩
 | ins C dx fs=>obtain ⟨_,_,_,e,_⟩:=x;exact ⟨_,e⟩
 | own y=>obtain ⟨_,e⟩:=x;exact ⟨_,e⟩
 | xd fs=>obtain ⟨_,⟨_,_,_,e,_⟩,_⟩:=x;exact ⟨_,e⟩
 | rng lo hi=>obtain ⟨_,_,_,e⟩:=x;exact ⟨_,e⟩
 | frz ob u=>obtain ⟨e,_⟩:=x;exact ⟨_,e⟩
 | tbl ps=>exact ⟨_,show h.get? a=some _ from x⟩
 | met f y=>exact ⟨_,show h.get? a=some _ from x⟩
 | ext φ=>obtain ⟨_,e,_⟩:=x;exact e
theorem dM.none' {P:Program}{w:World}{H:Hp}{h:Heap}{a:Addr} (x:dM P w H h) (e:h.get? a=none):H a=none:=by
 cases q:H a with
 | none=>rfl
 | some u=>obtain ⟨o,z⟩:=(x a u q).there;rw [e] at z;cases z
section
variable {X:Cx}{pins:List (Addr×Obj)}{σ:St}{H:Hp}{s:Shared}{h':Heap}
theorem ad.laidN {a:Addr}{o:HO}{t':Nat} (I:ad X pins σ H s) (k:∀b u,s.heap.get? b=some u→h'.get? b=some u) (hn:s.heap.get? a=none) (new:be X.prog X.w (aE H a o) h' a o) :
 ad X pins σ (aE H a o) { s with heap:=h',toks:=t' }:=by
 have hH:=I.hok.none' hn
 have ne:∀{b:Addr}{u:HO},H b=some u→b≠a:=fun q z=>by rw [z,hH] at q;cases q
 refine I.un ⟨fun b u q _ _ _=>k b u q,fun b u q _ _ _=>⟨u.slots,k b u q⟩,fun b u q n _=>?_,fun b u q _=>⟨u,k b u q⟩,fun b xs q=>?_,fun b u xs q=>?_,fun b ps q=>⟨#[],?_⟩⟩ fun b u e=>?_
 ·rw [aj (fun z=>by rw [z,hn] at q;cases q)];exact n
 ·rw [aj (ne q)];exact q
 ·rw [aj (ne q)];exact q
 ·rw [aj (ne q),q];simp
 ·by_cases hb:b=a
  ·subst hb;rw [ao] at e;cases e;exact new
  ·rw [aj hb] at e
   exact (I.hok b u e).stay (fun c v _ q=>k c v q) (fun c q=>by rw [aj (ne q)];exact q) fun c xs q=>by rw [aj (ne q)];exact q
end
def xI (x C:Addr) (dx:Option Addr) (h:Heap):Prop:=aT fun a0 sl=>h.get? x=some ⟨.ref C,dx,.fields #[a0,.none,.none,.none,.bool false,.none],sl⟩
def gD (x C:Addr) (dx:Option Addr):HO:=.ext (xI x C dx)
theorem Bf {P:Program}{w:World}{H:Hp}{h:Heap}{x C:Addr}{dx:Option Addr} (e:xI x C dx h):be P w H h x (gD x C dx):=
 ⟨e,let ⟨_,_,q⟩:=e;⟨_,q⟩,fun h1 h2 ⟨a0,sl,q⟩ k=>⟨a0,sl,k _ q⟩⟩
theorem uA {P:Program}{w:World}{H:Hp}{h:Heap}{x C:Addr}{dx:Option Addr} (ok:dM P w H h) (e:H x=some (gD x C dx)):xI x C dx h:=(ok x _ e).1
section
variable {X:Cx}{C f:Addr}{x:Str}{p pos:Pos}{e:Expr}{es:List Expr}{t:TA}{k:Nat}{fd:FuncData}{ps:List Str}{sp:Sp}{E:XK}
def Kj (C:Addr) (sp:Sp) (t:TA):TE:=fun σ H Q=>t σ H fun vs H1=>vs.length≤10000∧∀y H',Nw H1 y (gD y C none) H'→sp (.ref y :: vs) H' (fun v H2=>v=.non∧Q (.ref y) H2) E0
theorem Hl {K:Frag}{h:Heap}{f:Addr} (KX:K.In h) (q:isFn K (.ref f)=true):∃o,h.get? f=some o∧o.cls=.type "function" := by
 unfold isFn at q
 rw [beq_iff_eq] at q
 unfold PySem.W.typeIn at q
 obtain ⟨o,e,z⟩:=Option.map_eq_some_iff.mp q
 exact ⟨o,KX _ _ e,z⟩
theorem EU {pins:List (Addr×Obj)}{σ:St}{H:Hp}{s:Shared}{Q:VK}{us:List Value}{vs:List V} (q:bR X.K C (some (.ref f))=true) (fn:isFn X.K (.ref f)=true) (F:aQ X.prog X.w X.K X.mg X.base CX0 k f fd ps sp) (hr:dm (k+1) X.A) (hb:gF X.K fd ps [])
 (I:ad X pins σ H s) (r:aD vs us) (hl:vs.length≤10000) (h:∀y H',Nw H y (gD y C none) H'→sp (.ref y :: vs) H' (fun v H2=>v=.non∧Q (.ref y) H2) E0):wpAny (model X.prog X.w) X.A (call (.ref C) us) (EP X pins σ Q) X.xe s:=by
 obtain ⟨nm,qn,N,bs,bm,hd,sn,sb,ab,cl,dd,k0,k1,k2,k3,k5,mN,eC,eN,T,eI⟩:=Ce I.kIn q
 obtain ⟨oI,ef,ec⟩:=Hl I.kIn fn
 have FB:=PySem.F.excBase_ValueError
 obtain ⟨hp,gs,dr,tk,os⟩:=s
 refine C3 FB T eC eN eI ef ec (by rw [←r.length];exact gE hl) fun h1 y m=>?_
 obtain ⟨a0,e1,_,_⟩:=m.there
 have I2:=I.laidN (t':=tk) m.keeps m.new (Bf (H:=aE H y (gD y C none)) ⟨_,_,e1⟩)
 have hq:=h y _ (.mk' (I.hok.none' m.new))
 have r2:aD (V.ref y :: vs) (Value.ref y :: us):=.cons rfl r
 have ln:(Value.ref y :: us).length=ps.length:=by rw [←r2.length];exact F.len _ _ _ _ hq
 have hbb:=hb _ (Value.ref y :: us) I2.kIn (by rw [append_nil];exact ln)
 rw [append_nil] at hbb
 refine wpAny_call (codeAny_mono (F.run _ X.stack _ _ ⟨Value.ref y :: us,[]⟩ (Value.ref y :: us) _ _ E0 (hr.make C us []) (I2.env0.make C us []) hbb r2 hq) fun rs s' hq'=>?_)
 cases rs with
 | error z=>exact hq'.elim
 | ok fl=>
  cases fl with
  | ret u=>
   obtain ⟨v,H',I3,rv,ev,q3⟩:=I2.after hq'
   subst ev
   exact ⟨rv,⟨V.ref y,H',I3,rfl,q3⟩⟩
  | next=>exact False.elim hq'
  | brk=>exact False.elim hq'
  | cont=>exact False.elim hq'
theorem F7 (q:bR X.K C (some (.ref f))=true) (fn:isFn X.K (.ref f)=true) (kp:keepIn X.K (.ref C)=true) (F:aQ X.prog X.w X.K X.mg X.base CX0 k f fd ps sp) (hr:dm (k+1) X.A) (hb:gF X.K fd ps []) (hg:Gl X x) (hm:X.mg x=some (.ref C))
 (ha:PA X (e :: es) t) (hdb:(x==("__debug__" : Str))=false:=by ext) (he:starEach (e :: es) X.env=(false,eval e X.env) :: starEach es X.env:=by rfl) (hpl:(backTo pos (starEach es X.env)).any (·.1)=false:=by rfl):PE X (.Call (.Name x p) (e :: es) [] pos) (Kj C sp t):=by
 intro pins s σ H Q I h
 refine wpAny_Call_Name_kw (nh I hg hm ?_ hdb)
 exact callWith_K (h₀:=X.base) I.ok.mod.kin kp (aL (ha pos pins s σ H _ I h) fun us s1 ⟨vs,H1,I1,r,hl,q1⟩=>⟨I1.kIn,EU q fn F hr hb I1 r hl q1⟩) he hpl
theorem zh {h:Heap}{y C:Addr} (e:xI y C none h):aT fun ox a0=>PySem.W.InstAt h y ox C none∧ox.data=.fields #[a0,.none,.none,.none,.bool false,.none]:=by
 obtain ⟨a0,sl,q⟩:=e
 exact ⟨_,a0,⟨q,rfl,rfl,trivial⟩,rfl⟩
theorem ad.exc {pins:List (Addr×Obj)}{σ:St}{H:Hp}{s:Shared}{h':Heap}{y C:Addr}{dx:Option Addr}{t':Nat} (I:ad X pins σ H s) (e:H y=some (gD y C dx)) (k:∀b o,b≠y→s.heap.get? b=some o→h'.get? b=some o) {dx':Option Addr} (n:xI y C dx' h'):ad X pins σ (aE H y (gD y C dx')) { s with heap:=h',toks:=t' }:=
 I.write (x:=y) (e:=y) (by rw [e];exact trivial) (.inl rfl) k (let ⟨_,_,q⟩:=n;⟨_,q⟩) (Bf n)
theorem oj {H:Hp}{a:Addr}{o:HO} (h:H a=some o):aE H a o=H:=by
 funext b
 unfold aE
 split
 ·rename_i z;rw [z,h]
 ·rfl
def HJ (K:Frag) (t:TA):TE:=fun σ H Q=>t σ H fun vs H1=>pc fun y u C ini=>vs=[.ref y,u]∧H1 y=some (gD y C none)∧bR K C ini=true∧Q .non H1
theorem Ep {B:Addr}{pl:Sem Bool}{apos:Pos} (q:Bw X.K B=true) (hg:Gl X x) (hm:X.mg x=some (.ref B)) (ha:PA X (e :: es) t) (hdb:(x==("__debug__" : Str))=false:=by ext)
 (hst:starEach (e :: es) X.env=(false,eval e X.env) :: starEach es X.env:=by rfl) (hpl:(backTo pos (starEach es X.env)).any (·.1)=false:=by rfl)
 (ht:eval (.Call (.Attribute (.Name x p) "__init__" apos) (e :: es) [] pos) X.env=(do
  let ov ←eval (.Name x p) X.env
  standAt apos.atName
  let (f,first) ←holding [ov] (getMethod ov "__init__" pl)
  callWith pos f first (backTo pos (starEach (e :: es) X.env)) (backToKw pos (keywordEach [] X.env))):=by rfl) :
 PE X (.Call (.Attribute (.Name x p) "__init__" apos) (e :: es) [] pos) (HJ X.K t):=by
 intro pins s σ H Q I h
 unfold Bw at q
 rw [Bool.and_eq_true,Bool.and_eq_true,beq_iff_eq] at q
 obtain ⟨⟨q1,q2⟩,q3⟩:=q
 refine PySem.W.methodCall_KW (pl:=pl) (nh I hg hm ?_ hdb) ht
 cases e3:findCls X.K (.ref B) (.type "type") "__init__" with
 | none=>rw [e3] at q3;cases q3
 | some r=>
  cases r with
  | get g a o tp=>rw [e3] at q3;cases q3
  | val v=>
   rw [e3] at q3
   obtain rfl:=beq_iff_eq.mp (show (v==Value.builtin "ValueError.__init__")=true from q3)
   refine PySem.W.method_cls I.kIn q1 (PySem.W.cls_value I.kIn q2 e3 rfl ?_)
   have I1:ad X pins σ H { s with toks:=s.toks+1 }:=I.tok _
   refine PyProof.Rows.callWith_builtin1 (aL (ha pos pins _ σ H _ I1 h) fun us s1 ⟨vs,H1,I2,r,q4⟩=>?_) hst hpl
   obtain ⟨y,u,C,ini,rfl,hy,hC,k⟩:=q4
   obtain ⟨uy,uu,rfl,r1,r2⟩:=xl r
   cases r1
   obtain ⟨ox,a0,J,hf⟩:=zh (uA I2.hok hy)
   refine Ib I2.kIn J hf hC fun h' e1 kp=>?_
   have I3:=I2.exc (t':=s1.toks) hy kp (dx':=none) ⟨_,ox.slots,by
    rw [e1,J.cls]
    have:ox.dict=none:=by
     have z:=J.dict
     cases q:ox.dict with
     | none=>rfl
     | some d=>rw [q] at z;exact z.elim
    rw [this]⟩
   rw [oj hy] at I3
   exact ⟨.non,H1,I3,rfl,k⟩
def Kr (K:Frag) (ta tv:TE) (f:Str):TS:=fun D σ H=>tv σ H fun v H1=>ta σ H1 fun y H2=>aT fun a C=>y=.ref a∧H2 a=some (gD a C none)∧hU K C f=true∧∀dx H',H2 dx=none→dx≠a→H'=aE (aE H2 dx (.xd [(f,v)])) a (gD a C (some dx))→D.nx σ H'
theorem Gg {o value:Expr}{ta tv:TE}{f:Str}{pos':Pos} (ha:PE X o ta) (hv:PE X value tv) (hs:swapsWith value (some (.Attribute o f pos')) pos.line X.env=pure false):PS X (.Assign [.Attribute o f pos'] value pos) (Kr X.K ta tv f):=by
 intro pins s σ H D I h
 refine plainObj_wpAny_Assign_Attribute (aL (hv pins s σ H _ I h) fun u s1 ⟨v,H1,I1,ry,q⟩=>aL (ha pins s1 σ H1 _ I1 q) fun ov s2 ⟨y,H2,I2,rx,a,C,ex,ea,g,q2⟩=>?_) hs
 subst ex
 obtain rfl:ov=Value.ref a:=rx
 obtain ⟨ox,a0,J,hf⟩:=zh (uA I2.hok ea)
 refine Kh I2.kIn J hf g fun h' tk n1 e1 kp=>?_
 have nd:s2.heap.get? #[s2]=none:=Heap.get?_none_of_le (le_refl _)
 have na:#[s2]≠a:=ne_of_gt (Heap.lt_size J.at_)
 have fr:H2 #[s2]=none:=I2.hok.fresh (le_refl _)
 have ne:xI a C (some #[s2]) h':=⟨a0,ox.slots,by rw [e1,J.cls,hf]⟩
 obtain ⟨od,es,ep,h1,h2⟩:=id n1
 have h3:(s2.heap.push od).get? #[s2]=some od:=Heap.get?_push_size _ (Heap.get?_some_iff.mp h1).2
 have I3:ad X pins σ (aE H2 #[s2] (.xd [(f,v)])) { s2 with heap:=s2.heap.push od,toks:=tk }:=I2.laid (fun b o z=>Heap.get?_push_of_some _ z) (le_refl _) (show be X.prog X.w _ _ _ (.xd [(f,v)]) from ⟨_,n1.at fun o z=>by rw [h1] at z;cases z;exact h3,fun y=>by
  by_cases c:y=f
  ·subst c
   rw [if_pos rfl]
   simp only [List.lookup,beq_self_eq_true]
   exact ry
  ·rw [if_neg c]
   have:(y==f)=false:=beq_eq_false_iff_ne.mpr c
   simp only [List.lookup,this]
   exact trivial⟩)
 have ea3:aE H2 #[s2] (.xd [(f,v)]) a=some (gD a C none):=by rw [aj (Ne.symm na)];exact ea
 have I4:=I3.exc (t':=tk) (h':=h') ea3 (fun b o nb z=>by
  by_cases c:b=#[s2]
  ·subst c
   rw [h3] at z
   cases z
   exact h1
  ·rw [Heap.get?_push_ne _ _ _ c] at z
   exact kp b o nb z) ne
 exact ⟨σ,_,I4,q2 _ _ fr na rfl⟩
theorem fj (hg:Gl X x) (hm:X.mg x=some (.ref C)) (hdb:(x==("__debug__" : Str))=false:=by ext):PE X (.Name x p) (tC (.ref C)):=fun pins s σ H Q I h=>nh I hg hm ⟨.ref C,H,I,rfl,h⟩ hdb
def E3:V→Option Value
 | .ref a=>some (.ref a)
 | .ty T=>some (.type T)
 | _=>none
def Mj (H:Hp) (a C:Addr) (fs:List (Str×V)):Prop:=(fs=[]∧H a=some (gD a C none))∨∃dx,H a=some (gD a C (some dx))∧H dx=some (.xd fs)
end
theorem uw:bootBuiltins "ValueError" = some (.type "ValueError"):=by nofun
theorem EF {K:Frag}{cs:List Addr}{g:Addr} (h:uG K cs g=true):cs.Nodup:=of_decide_eq_true (Bool.and_eq_true _ _▸h).1
theorem zj {K:Frag}{cs:List Addr}{g c:Addr} (h:uG K cs g=true) (hc:c∈cs):rP K c=true∧kitOne K (.ref c) (.ref g)=some true∧kitOne K (.ref c) (.type "ValueError")=some true∧∀d∈cs,kitOne K (.ref c) (.ref d)=some (decide (c=d)):=by
 unfold uG at h
 rw [Bool.and_eq_true,all_eq_true] at h
 have z:=h.2 c hc
 obtain ⟨z1,z⟩:=Bool.and_eq_true_iff.mp z
 obtain ⟨z2,z⟩:=Bool.and_eq_true_iff.mp z
 obtain ⟨z3,z⟩:=Bool.and_eq_true_iff.mp z
 exact ⟨z1,beq_iff_eq.mp z2,beq_iff_eq.mp z3,fun d hd=>beq_iff_eq.mp (List.all_eq_true.mp z d hd)⟩
section
variable {X:Cx}
end
def qp (h:Heap) (a T:Addr) (C:Value) (dx:Option Addr) (fl:Value):Prop:=
 pc fun vs sl oT ts=>h.get? a=some ⟨C,dx,.fields vs,sl⟩∧vs[1]?=some (.ref T)∧T≠a∧h.get? T=some oT∧oT.data=.fields ts∧ts[3]?=some fl
def Kp (h h':Heap) (bad fs:List Addr):Prop:=∀b o,b∉bad→h.get? b=some o→(∃sl,h'.get? b=some { o with slots:=sl })∧(b∉fs→h'.get? b=some o)
def HN (head:Value) (L:Addr) (pl:List Value):Obj:={ cls:=.type "traceback",dict:=none,data:=.fields ([head,.ref L,.none,rawInt L,.none]++(if pl.isEmpty then replicate 6 Value.none else pl)).toArray }
section
variable {M:Model}{A:Around}{E:Value→Shared→Prop}{s:Shared}{base:Heap}{env:Env}{outer:List Env}{L a T:Addr}{C head:Value}{dx:Option Addr}{vs:Array Value}{sl:Array (Option Value)}{hn:Bool}{Q:Unit→Shared→Prop}
theorem x8 (hfr:A.frames=some (env :: outer)) (hl:s.heap.FunFrames base (env :: outer)) (hf:env.frame=some L) (he:s.heap.get? a=some ⟨C,dx,.fields vs,sl⟩) (hz:1<vs.size)
 (h:∀h' T,qp h' a T C dx (rawInt L)→T=#[s]→Kp s.heap h' [a] (im (env :: outer))→Q () { s with heap:=h' }) :
 wpAny M A (do let f ←frameOf env;let pl ←entryPlaceOf L hn;let b ←EntryCells.newEntry head f .none (rawInt L) .none pl;setField (.ref a) 1 b) Q E s:=by
 have na:a∉im (env :: outer):=fun z=>by
  obtain ⟨_,o,ho,q⟩:=hl.mem z
  rw [he] at ho
  cases ho
  exact q vs rfl
 refine wpAny_bind (wpAny_frameOf_fun hfr hl hf fun h1 s1=>wpAny_bind (wpAny_entryPlaceOf fun pl hp=>?_))
 have e1:h1.get? a=some ⟨C,dx,.fields vs,sl⟩:=(s1.2.1 a na).trans he
 unfold EntryCells.newEntry newFields
 refine wpAny_bind (wpAny_newObj_type ?_ (hp.sizeOk5 _ _ _ _ _))
 show wpAny M A (setField (.ref a) 1 (.ref h1.objs.size)) Q E { s with heap:=h1.push (HN head L pl) }
 have e2:=Heap.get?_push_of_some (h:=h1) (HN head L pl) e1
 have nT:h1.objs.size≠a:=ne_of_gt (Heap.lt_size e1)
 refine wpAny_setField e2 rfl hz (h _ h1.objs.size ⟨vs.setIfInBounds 1 (.ref h1.objs.size),sl,HN head L pl,_,?_,?_,nT,?_,rfl,?_⟩ s1.1 fun b o nb hb=>?_)
 ·exact Heap.get?_update_self _ e2 rfl
 ·simp [hz]
 ·rw [Heap.get?_update_other _ _ (Ne.symm nT)]
  exact Heap.get?_push_size h1 rfl
 ·rw [List.getElem?_toArray,getElem?_append_left (by show 3<5;decide)]
  rfl
 ·have nb':a≠b:=fun z=>nb (by simp [z])
  obtain ⟨sl',q⟩:=s1.2.2 b o hb
  refine ⟨⟨sl',?_⟩,fun nf=>?_⟩
  ·rw [Heap.get?_update_other _ _ nb']
   exact Heap.get?_push_of_some _ q
  ·rw [Heap.get?_update_other _ _ nb']
   exact Heap.get?_push_of_some _ ((s1.2.1 b nf).trans hb)
theorem By (hfr:A.frames=some (env :: outer)) (hl:s.heap.FunFrames base (env :: outer)) (hf:env.frame=some L) (he:s.heap.get? a=some ⟨C,dx,.fields vs,sl⟩) (h1:vs[1]?=some .none)
 (h:∀h' T,qp h' a T C dx (rawInt L)→T=#[s]→Kp s.heap h' [a] (im (env :: outer))→Q () { s with heap:=h' }):wpAny M A (noteFrame (.ref a) env) Q E s:=by
 unfold noteFrame
 simp only [hf]
 refine wpAny_bind (wpAny_field he rfl h1 ?_)
 rw [if_neg (by ext)]
 exact x8 hfr hl hf he (Array.getElem?_eq_some_iff.mp h1).1 h
theorem ym (hfr:A.frames=some (env :: outer)) (hl:s.heap.FunFrames base (env :: outer)) (hf:env.frame=some L) (ht:qp s.heap a T C dx .none)
 (h:∀h' T',qp h' a T' C dx (rawInt L)→T'=#[s]→Kp s.heap h' [a,T] (im (env :: outer))→Q () { s with heap:=h' }):wpAny M A (noteFrame (.ref a) env) Q E s:=by
 obtain ⟨vs,sl,oT,ts,he,h1,ne,hT,hd,h3⟩:=ht
 unfold noteFrame
 simp only [hf]
 refine wpAny_bind (wpAny_field he rfl h1 ?_)
 rw [if_pos (show (Value.ref T != Value.none)=true by simp)]
 refine wpAny_bind (wpAny_field hT hd h3 ?_)
 rw [if_neg (show ¬((Value.none==rawInt L)=true) by simp [rawInt])]
 refine wpAny_bind (wpAny_setField hT hd (Array.getElem?_eq_some_iff.mp h3).1 ?_)
 have ot:∀b,b≠T→(s.heap.update T (Obj.mapFields (·.setIfInBounds 3 Value.none))).get? b=s.heap.get? b:=fun b nb=>Heap.get?_update_other _ _ (Ne.symm nb)
 have nr:∀b o,s.heap.get? b=some o→(∀vs,o.data≠.fields vs)→b≠T:=fun b o hb q z=>by
  rw [z,hT] at hb
  cases hb
  exact q ts hd
 refine x8 hfr (hl.of_keeps fun b o hb q=>⟨o,(ot b (nr b o hb q)).trans hb,rfl⟩) hf ((ot a (Ne.symm ne)).trans he) (Array.getElem?_eq_some_iff.mp h1).1 fun h' T' t z k=>h h' T' t (z.trans (Heap.size_after_update ..)) fun b o nb hb=>?_
 have n1:b∉[a]:=fun z=>nb (by simp [List.mem_singleton.mp z])
 have n2:b≠T:=fun z=>nb (by simp [z])
 exact k b o n1 ((ot b n2).trans hb)
theorem uB {fl:Value} (ht:qp s.heap a T C dx fl) (h:∀h',qp h' a T C dx .none→Kp s.heap h' [T] []→Q () { s with heap:=h' }):wpAny M A (setFlight (.ref a) none) Q E s:=by
 obtain ⟨vs,sl,oT,ts,he,h1,ne,hT,hd,h3⟩:=ht
 unfold setFlight
 refine wpAny_bind (wpAny_field he rfl h1 ?_)
 rw [if_pos (show (Value.ref T != Value.none)=true by simp)]
 have z3:=(Array.getElem?_eq_some_iff.mp h3).1
 have dT:=Obj.data_mapFields hd (·.setIfInBounds 3 Value.none)
 refine wpAny_setField hT hd z3 (h _ ⟨vs,sl,_,_,?_,h1,ne,Heap.get?_update_self _ hT (Obj.isFreed_of_fields dT),dT,by simp [z3]⟩ fun b o nb hb=>?_)
 ·exact (Heap.get?_update_other _ _ ne).trans he
 ·have nb':T≠b:=fun z=>nb (by simp [z])
  have q:=(Heap.get?_update_other s.heap (Obj.mapFields (·.setIfInBounds 3 ((none:Option Addr).elim Value.none fun f=>rawInt f))) nb').trans hb
  exact ⟨⟨o.slots,q⟩,fun _=>q⟩
theorem Kp.trans0 {h h1 h2:Heap}{bad fs:List Addr}{T:Addr} (k:Kp h h1 bad fs) (k2:Kp h1 h2 [T] []) (n:h.objs.size≤T):Kp h h2 bad fs:=fun b o nb hb=>by
 have nT:b∉[T]:=fun z=>by
  have q:=Heap.lt_size hb
  rw [List.mem_singleton.mp z] at q
  exact absurd q (Nat.not_lt.mpr n)
 obtain ⟨⟨sl,q1⟩,q2⟩:=k b o nb hb
 exact ⟨⟨sl,(k2 b _ nT q1).2 (by simp)⟩,fun nf=>(k2 b _ nT (q2 nf)).2 (by simp)⟩
theorem AN (hfr:A.frames=some (env :: outer)) (hl:s.heap.FunFrames base (env :: outer)) (hf:env.frame=some L) (he:s.heap.get? a=some ⟨C,dx,.fields vs,sl⟩) (h1:vs[1]?=some .none)
 (h:∀h' T,qp h' a T C dx .none→T=#[s]→Kp s.heap h' [a] (im (env :: outer))→Q () { s with heap:=h' }):wpAny M A (leaving env (.ref a)) Q E s:=by
 unfold leaving
 exact wpAny_bind (By hfr hl hf he h1 fun h' T t z k=>uB t fun h2 t2 k2=>h h2 T t2 z (k.trans0 k2 (le_of_eq z.symm)))
theorem Cn (hfr:A.frames=some (env :: outer)) (hl:s.heap.FunFrames base (env :: outer)) (hf:env.frame=some L) (ht:qp s.heap a T C dx .none)
 (h:∀h' T',qp h' a T' C dx .none→T'=#[s]→Kp s.heap h' [a,T] (im (env :: outer))→Q () { s with heap:=h' }):wpAny M A (leaving env (.ref a)) Q E s:=by
 unfold leaving
 exact wpAny_bind (ym hfr hl hf ht fun h' T t z k=>uB t fun h2 t2 k2=>h h2 T t2 z (k.trans0 k2 (le_of_eq z.symm)))
end
def jt (x C:Addr) (dx:Option Addr):HO:=.ext fun h=>aT fun vs sl=>h.get? x=some ⟨.ref C,dx,.fields vs,sl⟩
theorem Gd {P:Program}{w:World}{H:Hp}{h:Heap}{x C:Addr}{dx:Option Addr} (e:aT fun vs sl=>h.get? x=some ⟨.ref C,dx,.fields vs,sl⟩):be P w H h x (jt x C dx):=
 ⟨e,let ⟨_,_,q⟩:=e;⟨_,q⟩,fun h1 h2 ⟨vs,sl,q⟩ k=>⟨vs,sl,k _ q⟩⟩
theorem vw {P:Program}{w:World}{H:Hp}{h:Heap}{x C:Addr}{dx:Option Addr} (ok:dM P w H h) (e:H x=some (jt x C dx)):aT fun vs sl=>h.get? x=some ⟨.ref C,dx,.fields vs,sl⟩:=(ok x _ e).1
theorem Hd {fs ch:List Addr}{H:Hp}{h h':Heap}{a:Addr}{φ:Heap→Prop}{o:HO} (ea:H a=some (.ext φ)) (k:Kp h h' (a :: ch) fs) (th:∃u,h'.get? a=some u):Un fs ch H (aE H a o) h h':=by
 have ne:∀{b:Addr},H b=none→b≠a:=fun q z=>by rw [z,ea] at q;cases q
 have nc:∀{b:Addr},b≠a→b∉ch→b∉a :: ch:=fun n1 n2 z=>(List.mem_cons.mp z).elim n1 n2
 refine ⟨fun b u q n f x=>(k b u (nc (ne n) x) q).2 f,fun b u q n _ x=>(k b u (nc (ne n) x) q).1,fun b u q n _=>by rw [aj (ne n)];exact n,fun b u q x=>?_,fun b xs q=>?_,fun b u xs q=>?_,fun b ps q=>⟨#[],?_⟩⟩
 ·by_cases e:b=a
  ·rw [e];exact th
  ·obtain ⟨⟨sl,z⟩,_⟩:=k b u (nc e x) q
   exact ⟨_,z⟩
 ·rw [aj (fun z=>by rw [z,ea] at q;cases q)];exact q
 ·rw [aj (fun z=>by rw [z,ea] at q;cases q)];exact q
 ·rw [aj (fun z=>by rw [z,ea] at q;cases q),q];simp
theorem ES {P:Program}{w:World}{fs ch:List Addr}{H:Hp}{h h':Heap}{a:Addr}{φ:Heap→Prop}{o:HO} (ok:dM P w H h) (ea:H a=some (.ext φ)) (k:Kp h h' (a :: ch) fs) (ff:∀b∈fs,H b=none) (fc:∀b∈ch,H b=none)
 (nw:be P w (aE H a o) h' a o):dM P w (aE H a o) h':=fun b u e=>by
 by_cases hb:b=a
 ·subst hb
  rw [ao] at e
  cases e
  exact nw
 ·rw [aj hb] at e
  refine (ok b u e).stay (fun c v cd q=>?_) (fun c q=>?_) fun c xs q=>?_
  ·have hc:H c≠none∧c≠a:=by
    rcases cd with rfl | cd
    ·exact ⟨by rw [e];simp,hb⟩
    ·exact ⟨by rw [cd];simp,fun z=>by rw [z,ea] at cd;cases cd⟩
   exact (k c v (fun z=>(List.mem_cons.mp z).elim hc.2 fun z=>hc.1 (fc c z)) q).2 fun z=>hc.1 (ff c z)
  ·rw [aj (fun z=>by rw [z,ea] at q;cases q)];exact q
  ·rw [aj (fun z=>by rw [z,ea] at q;cases q)];exact q
section
variable {X:Cx}{pins:List (Addr×Obj)}{σ:St}{H:Hp}{s:Shared}{h':Heap}{a T C:Addr}{dx:Option Addr}{φ:Heap→Prop}{ch:List Addr}{fl:Value}
theorem qp.there (t:qp h' a T (.ref C) dx fl):aT fun vs sl=>h'.get? a=some ⟨.ref C,dx,.fields vs,sl⟩:=let ⟨vs,sl,_,_,e,_⟩:=t;⟨vs,sl,e⟩
theorem ad.noted (I:ad X pins σ H s) (ea:H a=some (.ext φ)) (k:Kp s.heap h' (a :: ch) (im X.stack)) (t:aT fun vs sl=>h'.get? a=some ⟨.ref C,dx,.fields vs,sl⟩) (fc:∀b∈ch,H b=none)
 (hch:∀b∈ch,(b∈X.ex∨X.s₀.heap.objs.size≤b)∧b≠X.env.locals∧(∀x c,X.env.cells.lookup x=some c→c≠b)∧∀p∈X.pn++pins,p.1≠b):ad X pins σ (aE H a (jt a C dx)) { s with heap:=h' }:=
 I.call' (ch:=ch) rfl (Hd ea k (let ⟨_,_,e⟩:=t;⟨_,e⟩)) (ES I.hok ea k I.stkFree fc (Gd t)) I.bare hch
theorem ad.far (I:ad X pins σ H s) (n:#[s]≤T):(T∈X.ex∨X.s₀.heap.objs.size≤T)∧T≠X.env.locals∧(∀x c,X.env.cells.lookup x=some c→c≠T)∧∀p∈X.pn++pins,p.1≠T:=by
 have lt:∀{b:Addr}{u:Obj},s.heap.get? b=some u→b≠T:=fun q z=>by
  have q':=Heap.lt_size q
  rw [z] at q'
  exact absurd q' (Nat.not_lt.mpr n)
 refine ⟨.inr (le_trans I.sz n),?_,fun x c e=>?_,fun p hp=>lt (I.pin p hp).1⟩
 ·obtain ⟨m,⟨o,es,ep,ho,_⟩,_⟩:=I.loc
  exact Ne.symm (lt ho)
 ·obtain ⟨v,q⟩:=I.cell x c e
  obtain ⟨o,ho,_⟩:=q
  exact lt ho
end
def qr (P:Program) (w:World):lZ:=fun outer H s E e s'=>Fy fun a T C dx H'=>e=.ref a∧s'.os=s.os∧AllBare s'.gens∧Un (im outer) [] H H' s.heap s'.heap∧dM P w H' s'.heap∧qp s'.heap a T (.ref C) dx .none∧#[s]≤T∧H' T=none∧H' a=some (jt a C dx)∧E (.ref C) dx H'
def C8 (X:Cx) (E:XK):Prop:=∀pins σ H s a C dx,ad X pins σ H s→H a=some (gD a C dx)→E (.ref C) dx (aE H a (jt a C dx))→X.xe (.ref a) s
section
variable {P:Program}{w:World}{K:Frag}{mg:Str→Option Value}{base:Heap}{N:List Str}{qual:Str}{scope:Scope}{f:Addr}{cd:Value}{A:Around}{outer:List Env}{s:Shared}{H:Hp}{E:XK}
theorem BP:ui (qr P w) (rh (qr P w) P w K mg base N qual scope f cd A outer s H E) E:=by
 intro pins σ H1 s1 e s2 I h
 obtain ⟨a,T,C,dx,H',rfl,os,bare,un,hok,t,n,hT,ha,hE⟩:=h
 have J:=I.call' (ch:=[]) os un hok bare (fun b z=>by cases z)
 have far:=I.far n
 refine Cn (L:=#[s]) J.ok.frames J.stack rfl t fun h' T' t' z k=>?_
 have J2:=J.noted ha (ch:=[T]) k t'.there (fun b hb=>by rw [List.mem_singleton.mp hb];exact hT) (fun b hb=>by rw [List.mem_singleton.mp hb];exact far)
 rw [oj ha] at J2
 exact ⟨a,T',C,dx,H',rfl,J2.os,J2.bare,J2.base,J2.hok,t',by rw [z];exact J.sz,J.hok.fresh (by rw [z];exact le_refl _),ha,hE⟩
theorem Gz:C8 (rh (qr P w) P w K mg base N qual scope f cd A outer s H E) E:=by
 intro pins σ H1 s1 a C dx J ha hE
 obtain ⟨a0,sl,ea⟩:=uA J.hok ha
 refine AN (L:=#[s]) J.ok.frames J.stack rfl ea rfl fun h' T' t' z k=>?_
 have J2:=J.noted ha (ch:=[]) k t'.there (fun b hb=>by cases hb) (fun b hb=>by cases hb)
 have nT:H1 T'=none:=J.hok.fresh (by rw [z];exact le_refl _)
 exact ⟨a,T',C,dx,(),J2.os,J2.bare,J2.base,J2.hok,t',by rw [z];exact J.sz,by rw [aj (fun q=>by rw [q,ha] at nT;cases nT)];exact nT,ao,hE⟩
end
section
variable {M:Model}{A:Around}{E:Value→Shared→Prop}{s:Shared}{env:Env}
theorem C1 {x:Sem Value}{Q:Flow→Shared→Prop} (hh:A.handled=none)
 (h:wpAny M A x (fun v s1=>∃e a0 dx sl nm q C N bs bm hd sn sb ab cl dd k0 k1 k2 k3 k5 nw,v=.ref e∧bm.contains (.type "BaseException")=true∧s1.heap.get? C=some (excClassObj nm q C N bs bm hd sn sb ab cl dd k0 k1 k2 k3 k5 nw)∧
  s1.heap.get? e=some ⟨.ref C,dx,.fields #[a0,.none,.none,.none,.bool false,.none],sl⟩∧E (.ref e) s1) E s):wpAny M A (raiseStmt env (some x) none) Q E s:=by
 unfold raiseStmt
 refine wpAny_bind (wpAny_mono h (fun v s1 h1=>?_) fun _ _ x=>x)
 obtain ⟨e,a0,dx,sl,nm,q,C,N,bs,bm,hd,sn,sb,ab,cl,dd,k0,k1,k2,k3,k5,nw,rfl,hb,hC,he,hE⟩:=h1
 have hcB:(Value.ref C :: bm).contains (.type "BaseException")=true:=by rw [List.contains_cons,hb,Bool.or_true]
 obtain ⟨hp,g,d,tk,os⟩:=s1
 repeat
  first
   | (with_reducible refine wpAny_isSubtype_exc hC ?_
      rw [hcB])
   | (with_reducible refine wpAny_loadPart_at hC ?_)
   | (with_reducible refine wpAny_loadPart_at he ?_)
   | wp_step
 exact wpAny_raiseNew_none hh hE
end
section
variable {X:Cx}{e:Expr}{te:TE}{pos:Pos}{E:XK}
def I0 (K:Frag) (E:XK) (te:TE):TS:=fun D σ H=>te σ H fun v H'=>pc fun a C dx ini=>v=.ref a∧H' a=some (gD a C dx)∧bR K C ini=true∧E (.ref C) dx (aE H' a (jt a C dx))
theorem Ew (hc:X.calm=true) (hx:C8 X E) (he:PE X e te):PS X (.Raise (some e) none pos) (I0 X.K E te):=by
 intro pins s σ H D I h
 rw [arm_exec_Raise]
 refine wpAny_bind (wpAny_standAt ?_)
 show wpAny _ _ (raiseStmt X.env (some (do let v ←eval e X.env;standAt pos;pure v)) none) _ _ _
 refine C1 (I.ok.hd hc) (wpAny_bind (aL (he pins s σ H _ I h) fun u s1 ⟨v,H1,I1,r,a,C,dx,ini,ev,ha,q,hE⟩=>wpAny_bind (wpAny_standAt (wpAny_pure ?_))))
 subst ev
 obtain rfl:u=Value.ref a:=r
 obtain ⟨nm,qn,N,bs,bm,hd,sn,sb,ab,cl,dd,k0,k1,k2,k3,k5,mN,eC,eN,T,_⟩:=Ce I1.kIn q
 obtain ⟨a0,sl,ea⟩:=uA I1.hok ha
 exact ⟨a,a0,dx,sl,nm,qn,C,N,bs,bm,hd,sn,sb,ab,cl,dd,k0,k1,k2,k3,k5,(),T.hasType (by ext),eC,ea,hx pins σ H1 s1 a C dx I1 ha hE⟩
theorem PS.nox {st:Stmt}{t:TS} (h:PS X.nox st t):PS X st t:=fun pins s σ H D I hw=>wpAny_mono (h pins s σ H D (I.wish _) hw) (fun _ _ q=>q.unwish) fun _ _ z=>False.elim z
theorem oD.okX {P:Program}{w:World}{K:Frag}{mg:Str→Option Value}{base:Heap}{x qual:Str}{st:Stmt}{f:Addr}{fd:FuncData}{N ps:List Str}{k:Nat}{sp:Sp} (F:oD K x qual st f fd) (S:aw N ps (ak st)) (len:∀vs H Q E,sp vs H Q E→vs.length=ps.length)
 (hbody:∀(cdv:Value) (A:Around) (outer:List Env) (s:Shared) (H:Hp) (vs:List V) (Q:VK) (E:XK),dm k (A.deeper (envOfC qual (ak st) #[s] f cdv))→sp vs H Q E→
  ∃t,mJ (rh (qr P w) P w K mg base N qual (ak st) f cdv A outer s H E) (qo st) t∧t { nx:=fun _ H'=>Q .non H',rt:=Q } (mQ N vs) H):aQ P w K mg base (qr P w) (k+1) f fd ps sp:=by
 obtain ⟨oc,od,kV,doc,pm,an,cdv,ct,osl,rfl,lk,hcd⟩:=F.ex
 exact Fm lk hcd S len fun A outer s H vs Q E hr hsp=>hbody cdv A outer s H vs Q E hr hsp
end
section
variable {X:Cx}{pins:List (Addr×Obj)}{σ σ':St}{H:Hp}{s:Shared}{h':Heap}
theorem ad.locs {m':Str→Option Value}{t':Nat} (I:ad X pins σ H s) (hs:Heap.SameBut X.env.locals s.heap h') (hn:h'.Ns X.env.locals m') (hl:∀(i:Nat) (x:Str) (v:V),X.N[i]?=some x→σ'[i]?=some (some v)→Cy X.env.scope x→∃u,aO v u∧ID X.env h' m' x u) (ln:σ'.length=X.N.length) :
 ad X pins σ' H { s with heap:=h',toks:=t' }:=by
 have ne:∀{b:Addr}{o:Obj},X.s₀.heap.get? b=some o→b≠X.env.locals:=fun e=>ne_of_lt (lt_of_lt_of_le (Heap.lt_size e) I.ok.above)
 refine ⟨I.ok,I.os,I.bare,⟨fun b o e n hb hx=>(hs.2 b (ne e)).trans (I.base.keep b o e n hb hx),fun b o e n hb hx=>?_,I.base.free,fun b o e hx=>?_,I.base.tups,I.base.frzs,I.base.tbls⟩,⟨m',hn,hl⟩,fun y c e=>?_,I.free,I.freeC,fun p hp=>?_,fun b ob e=>?_,ln⟩
 ·obtain ⟨sl,q⟩:=I.base.slot b o e n hb hx
  exact ⟨sl,(hs.2 b (ne e)).trans q⟩
 ·obtain ⟨o',q⟩:=I.base.there b o e hx
  exact ⟨o',(hs.2 b (ne e)).trans q⟩
 ·obtain ⟨w',z⟩:=I.cell y c e
  exact ⟨w',z.sameBut hs (I.cne y c e)⟩
 ·obtain ⟨e,n,ne,nf,d⟩:=I.pin p hp
  exact ⟨(hs.2 p.1 ne).trans e,n,ne,nf,d⟩
 ·refine (I.hok b ob e).stay (fun c w' hc q=>(hs.2 c fun z=>?_).trans q) (fun _ q=>q) fun _ _ q=>q
  subst z
  have hf:=I.free
  rcases hc with rfl | hc
  ·rw [hf] at e;cases e
  ·rw [hf] at hc;cases hc
theorem uE {M:Model}{A:Around}{E:Value→Shared→Prop}{i:Nat}{x:Str}{pos:Pos}{Q:Unit→Shared→Prop} (I:ad X pins σ H s) (hN:X.N.Nodup) (hi:X.N[i]?=some x) (hk:X.env.scope.names.lookup x=some .local)
 (h:∀s',ad X pins (σ.set i none) H s'→Q () s'):wpAny M A (do bindName X.env x .none;unbindBehindTheSuite X.env x pos) Q E s:=by
 have iσ:i<σ.length:=by rw [I.len];exact (List.getElem?_eq_some_iff.mp hi).1
 refine wpAny_bind (wpAny_bindName (kY (v:=.non) (u:=.none) I hN hi (.inl hk) rfl (fun s1 I1=>?_) (.inr hk)))
 obtain ⟨m,hn,hl⟩:=id I1.loc
 have kl:X.env.kindOf x=some .local:=hk
 have hc:(X.env.scope.kind==.class || (X.env.scope.kind==.module && X.env.locals != X.env.globals))=false:=by rw [I.ok.kind];rfl
 have mx:∃u,m x=some u:=by
  obtain ⟨u,_,q⟩:=hl i x .non hi (by rw [getElem?_set_self iσ]) (.inl hk)
  rcases q with ⟨_,e⟩ | ⟨k,_⟩
  ·exact ⟨u,e⟩
  ·rw [kl] at k
   rcases k with k | k <;> cases k
 unfold unbindBehindTheSuite
 refine wpAny_onRaise ?_
 unfold unbindName
 refine wpAny_bind (wpAny_point (wpAny_bind ?_))
 unfold deleteName
 simp only [kl,hc]
 rw [if_neg (by ext)]
 obtain ⟨u,mx⟩:=mx
 refine wpAny_bind (wpAny_nsDel_keeps hn fun h2 v2 n2 s2=>?_)
 simp only [mx,if_true,Option.isSome_some,Bool.not_true,Bool.false_eq_true,if_false]
 refine wpAny_pure (wpAny_point (h _ (I1.locs s2 n2 (fun j y v e1 e2 e3=>?_) (by simpa using I.len))))
 have hj:j≠i:=fun z=>by
  rw [z,getElem?_set_self iσ] at e2
  cases e2
 rw [getElem?_set_ne (Ne.symm hj)] at e2
 obtain ⟨u',r',q⟩:=hl j y v e1 (by rw [getElem?_set_ne (Ne.symm hj)];exact e2) e3
 refine ⟨u',r',?_⟩
 rcases q with ⟨k,e⟩ | ⟨k,c,e,z⟩
 ·refine .inl ⟨k,?_⟩
  have ny:y≠x:=fun e=>hj (wq hN e1 (e▸hi))
  simp [ny,e]
 ·exact .inr ⟨k,c,e,z.sameBut s2 (I1.cne y c e)⟩
end
def uF (CX:lZ) (X:Cx) (EE:St→XK):Prop:=∀(pins:List (Addr×Obj)) (σ:St) (H:Hp) (s:Shared) (e:Value) (s':Shared),ad X pins σ H s→CX X.stack H s (EE σ) e s'→X.xe e s'
section
variable {X:Cx}{CX:lZ}{k:Nat}{f:Addr}{fd:FuncData}{ps:List Str}{sp:Sp}{EE:St→XK}{x:Str}{p pos:Pos}{e:Expr}{es:List Expr}{t:TA}
def HR (sp:Sp) (EE:St→XK) (t:TA):TE:=fun σ H Q=>t σ H fun vs H1=>sp vs H1 Q (EE σ)
theorem v0 (F:aQ X.prog X.w X.K X.mg X.base CX k f fd ps sp) (hr:dm k X.A) (hg:Gl X x) (hm:X.mg x=some (.ref f)) (hk:keepIn X.K (.ref f)=true) (hb:gF X.K fd ps []) (hx:uF CX X EE)
 (ha:PA X (e :: es) t) (hdb:(x==("__debug__" : Str))=false:=by ext) (he:starEach (e :: es) X.env=(false,eval e X.env) :: starEach es X.env:=by rfl) (hpl:(backTo pos (starEach es X.env)).any (·.1)=false:=by rfl) :
 PE X (.Call (.Name x p) (e :: es) [] pos) (HR sp EE t):=by
 intro pins s σ H Q I h
 refine wpAny_Call_Name_kw (nh I hg hm ?_ hdb)
 refine callWith_K (h₀:=X.base) I.ok.mod.kin hk (aL (ha pos pins s σ H _ I h) fun us s1 ⟨vs,H1,I1,r,q⟩=>⟨I1.kIn,?_⟩) he hpl
 have hl:us.length=ps.length:=by rw [←r.length];exact F.len _ _ _ _ q
 have hbb:=hb s1 us I1.kIn (by rw [append_nil];exact hl)
 rw [append_nil] at hbb
 refine wpAny_call (codeAny_mono (F.run X.A X.stack s1 H1 ⟨us,[]⟩ us vs Q (EE σ) hr I1.env0 hbb r q) fun rs s' hq=>?_)
 cases rs with
 | error z=>exact hx pins σ H1 s1 z s' I1 hq
 | ok fl=>
  cases fl with
  | ret u=>exact I1.after hq
  | next=>exact False.elim hq
  | brk=>exact False.elim hq
  | cont=>exact False.elim hq
end
abbrev Cx.tr (X:Cx) (pn:List (Addr×Obj)) (xe:Value→Shared→Prop):Cx:={ X with pn:=pn,xe:=xe }
abbrev Cx.hn (X:Cx) (A:Around):Cx:={ X with A:=A,calm:=false,xe:=fun _ _=>False }
section
variable {X:Cx}{pins pins' pn:List (Addr×Obj)}{σ:St}{H:Hp}{s:Shared}{xe:Value→Shared→Prop}
theorem Cx.Ok.tr (ok:X.Ok):(X.tr pn xe).Ok:=⟨ok.mod,ok.kind,ok.glob,ok.blt,ok.above,ok.inj,ok.has,ok.cab,ok.hd,ok.frames,ok.stk,ok.exf,ok.bs,ok.bsz,ok.noex,ok.exfs,ok.funs,ok.frf⟩
theorem Cx.Ok.untr (ok:(X.tr pn xe).Ok):X.Ok:=⟨ok.mod,ok.kind,ok.glob,ok.blt,ok.above,ok.inj,ok.has,ok.cab,ok.hd,ok.frames,ok.stk,ok.exf,ok.bs,ok.bsz,ok.noex,ok.exfs,ok.funs,ok.frf⟩
theorem ad.tr (I:ad X pins σ H s):ad (X.tr (X.pn++pins) xe) [] σ H s:=⟨I.ok.tr,I.os,I.bare,I.base,I.loc,I.cell,I.free,I.freeC,fun p hp=>I.pin p (by rw [append_nil] at hp;exact hp),I.hok,I.len⟩
theorem ad.untr (I:ad (X.tr (X.pn++pins) xe) pins' σ H s):ad X pins σ H s:=⟨I.ok.untr,I.os,I.bare,I.base,I.loc,I.cell,I.free,I.freeC,fun p hp=>I.pin p (mem_append_left _ hp),I.hok,I.len⟩
theorem Cx.Ok.hn {A:Around} (ok:X.Ok) (hA:A.frames=X.A.frames):(X.hn A).Ok:=⟨ok.mod,ok.kind,ok.glob,ok.blt,ok.above,ok.inj,ok.has,ok.cab,(fun z=>by cases z),hA.trans ok.frames,ok.stk,ok.exf,ok.bs,ok.bsz,ok.noex,ok.exfs,ok.funs,ok.frf⟩
theorem ad.hn {A:Around} (I:ad X pins σ H s) (hA:A.frames=X.A.frames):ad (X.hn A) pins σ H s:=⟨I.ok.hn hA,I.os,I.bare,I.base,I.loc,I.cell,I.free,I.freeC,I.pin,I.hok,I.len⟩
theorem ad.unhn {A:Around} (I:ad (X.hn A) pins σ H s) (ok:X.Ok):ad X pins σ H s:=⟨ok,I.os,I.bare,I.base,I.loc,I.cell,I.free,I.freeC,I.pin,I.hok,I.len⟩
end
theorem Kp.weak {h h':Heap}{bad bad' fs fs':List Addr} (k:Kp h h' bad fs) (hb:∀b∈bad,b∈bad') (hf:∀b∈fs,b∈fs'):Kp h h' bad' fs':=fun b o nb q=>
 ⟨(k b o (fun z=>nb (hb b z)) q).1,fun nf=>(k b o (fun z=>nb (hb b z)) q).2 fun z=>nf (hf b z)⟩
def Bo (X:Cx) (EE:St→XK) (e:Value) (s:Shared):Prop:=∃pins σ H a T C dx,e=.ref a∧ad X pins σ H s∧qp s.heap a T (.ref C) dx .none∧H T=none∧((T∈X.ex∨X.s₀.heap.objs.size≤T)∧T≠X.env.locals∧(∀x c,X.env.cells.lookup x=some c→c≠T)∧∀p∈X.pn++pins,p.1≠T)∧
 H a=some (jt a C dx)∧EE σ (.ref C) dx H
theorem Lg {X:Cx}{EE:St→XK}{Y:Cx} (h:X.xe=Bo Y EE) (hY:∀{pins σ H s},ad X pins σ H s→ad Y pins σ H s):uF (qr X.prog X.w) X EE:=by
 intro pins σ H s e s' I q
 obtain ⟨a,T,C,dx,H',rfl,os,bare,un,hok,t,n,hT,ha,hE⟩:=q
 have J:=I.call' (ch:=[]) os un hok bare (fun b z=>by cases z)
 rw [h]
 exact ⟨pins,σ,H',a,T,C,dx,rfl,hY J,t,hT,(hY I).far n,ha,hE⟩
def hD (i:Nat) (D:dj):dj:={ nx:=fun σ H=>D.nx (σ.set i none) H,rt:=D.rt,bk:=fun σ H=>D.bk (σ.set i none) H,ct:=fun σ H=>D.ct (σ.set i none) H }
def Bs (K:Frag) (Cc:Addr) (i:Nat) (th:TS) (D:dj):St→XK:=fun σ cv dx H=>∀a C,cv=.ref C→H a=some (jt a C dx)→exmOne K (.ref C) (.ref Cc)=some true∧th (hD i D) (σ.set i (some (.ref a))) H
def Lw (K:Frag) (Cc:Addr) (i:Nat) (tb:(St→XK)→TS) (th:TS):TS:=fun D σ H=>tb (Bs K Cc i th D) D σ H
section
variable {X:Cx}{body suite:List Stmt}{b0:Stmt}{x n:Str}{hpos pos np:Pos}{tb:(St→XK)→TS}{th:TS}{Cc:Addr}{i:Nat}
theorem Jl (hst:X.stack=X.env :: X.outer) (hfr:X.env.frame=some X.env.locals) (hN:X.N.Nodup) (hi:X.N[i]?=some n) (hk:X.env.scope.names.lookup n=some .local) (hg:Gl X x) (hm:X.mg x=some (.ref Cc))
 (hb:∀(EE:St→XK) (pn:List (Addr×Obj)) (xe:Value→Shared→Prop),uF (qr X.prog X.w) (X.tr pn xe) EE→mJ (X.tr pn xe) body (tb EE)) (hs:∀A:Around,mJ (X.hn A) (b0 :: suite) th) (hdb:(x==("__debug__" : Str))=false:=by ext) :
 PS X (.Try body [.ExceptHandler (some (.Name x np)) (some n) (b0 :: suite) hpos] [] [] pos) (Lw X.K Cc i tb th):=by
 intro pins s σ H D I h
 refine wpAny_Try_except ?_
 have hx:uF (qr X.prog X.w) (X.tr (X.pn++pins) (Bo (X.tr (X.pn++pins) fun _ _=>False) (Bs X.K Cc i th D))) (Bs X.K Cc i th D):=Lg (X:=X.tr (X.pn++pins) (Bo (X.tr (X.pn++pins) fun _ _=>False) (Bs X.K Cc i th D))) rfl fun J=>J.wish _
 refine wpAny_mono (hb _ _ _ hx [] s σ H D I.tr h) (fun f s1 q=>?_) fun e s1 q=>?_
 ·cases f with
  | next=>obtain ⟨σ',H',J,q⟩:=q;exact wpAny_execs_nil ⟨σ',H',J.untr,q⟩
  | brk=>obtain ⟨σ',H',J,q⟩:=q;exact ⟨σ',H',J.untr,q⟩
  | cont=>obtain ⟨σ',H',J,q⟩:=q;exact ⟨σ',H',J.untr,q⟩
  | ret u=>obtain ⟨v,σ',H',J,r,q⟩:=q;exact ⟨v,σ',H',J.untr,r,q⟩
 ·obtain ⟨pins',σ',H',a,T,C,dx,rfl,J0,t,hT,far,ha,hE⟩:=q
  have J:ad X pins σ' H' s1:=J0.untr
  obtain ⟨hm',hth⟩:=hE a C rfl ha
  have st:∀{h2:Heap}{bad:List Addr},Kp s1.heap h2 bad (im (X.env :: X.outer))→Kp s1.heap h2 bad (im X.stack):=fun k=>by rw [hst];exact k
  refine ym (L:=X.env.locals) (J.ok.frames.trans (congrArg some hst)) (by have z:=J.stack;rw [hst] at z;exact z) hfr t fun h2 T2 t2 z2 k2=>?_
  have J2:=J.noted ha (ch:=[T]) (st k2) t2.there (fun b hb=>by rw [List.mem_singleton.mp hb];exact hT) (fun b hb=>by
   rw [List.mem_singleton.mp hb]
   exact ⟨far.1,far.2.1,far.2.2.1,fun p hp=>far.2.2.2 p (mem_append_left _ hp)⟩)
  rw [oj ha] at J2
  have n2:#[s1]≤T2:=le_of_eq z2.symm
  have far0:=J.far n2
  have hT2:∀b∈[T2],H' b=none:=fun b hb=>by rw [List.mem_singleton.mp hb];exact J.hok.fresh n2
  have wk:∀{g g':Heap},Kp g g' [T2] []→Kp g g' [a,T2] (im X.stack):=fun k=>k.weak (fun b hb=>mem_cons_of_mem _ hb) fun b hb=>by cases hb
  refine uB t2 fun h3 t3 k3=>?_
  have J3:=J2.noted ha (ch:=[T2]) (wk k3) t3.there hT2 (fun b hb=>by rw [List.mem_singleton.mp hb];exact far0)
  rw [oj ha] at J3
  refine wpAny_handleBy_cons (codeAny_handlers_test ?_) (by intro q;cases q)
  have J3h:=J3.hn (A:=X.A.mark (some (.ref a))) rfl
  refine nh J3h hg hm ?_ hdb
  obtain ⟨vs,sl,ea⟩:=t3.there
  have LT:PySem.W.Looks (model X.prog X.w) h3 (typeOf (.ref a)) (.ref C):=(PySem.W.Looks.ld ea).andThen .now
  refine (PySem.W.exm_one J3.kIn LT hm').here ?_
  refine codeAny_handlers_suite_as (uB t3 fun h5 t5 k5=>?_)
  have J5:=J3.noted ha (ch:=[T2]) (wk k5) t5.there hT2 (fun b hb=>by rw [List.mem_singleton.mp hb];exact far0)
  rw [oj ha] at J5
  refine kY J5 hN hi (.inl hk) (v:=.ref a) (u:=.ref a) rfl (fun s6 J6=>?_) (.inr hk)
  refine wpAny_mono (hs _ pins s6 _ H' _ (J6.hn (A:=X.A.mark (some (.ref a))) rfl) hth) (fun f s7 q=>?_) fun _ _ z=>z.elim
  cases f with
  | next=>obtain ⟨σ7,H7,J7,q⟩:=q;exact uE (J7.unhn J.ok) hN hi hk fun s8 J8=>⟨_,_,J8,q⟩
  | brk=>obtain ⟨σ7,H7,J7,q⟩:=q;exact uE (J7.unhn J.ok) hN hi hk fun s8 J8=>⟨_,_,J8,q⟩
  | cont=>obtain ⟨σ7,H7,J7,q⟩:=q;exact uE (J7.unhn J.ok) hN hi hk fun s8 J8=>⟨_,_,J8,q⟩
  | ret u=>obtain ⟨v,σ7,H7,J7,r,q⟩:=q;exact uE (J7.unhn J.ok) hN hi hk fun s8 J8=>⟨v,_,_,J8,r,q⟩
end
theorem pi {P:Program}{w:World}{X:Cx}:ui (qr P w) X E0:=fun _ _ _ _ _ _ _ h=>by
 obtain ⟨a,T,C,dx,H',_,_,_,_,_,_,_,_,_,hE⟩:=h
 exact hE.elim
section
variable {X:Cx}{C:Addr}{e:Expr}{pos:Pos}
def Fp (K:Frag) (ta:TE) (f:Str):TE:=fun σ H Q=>ta σ H fun y H1=>Fy fun a C dx fs v=>y=.ref a∧H1 a=some (jt a C (some dx))∧H1 dx=some (.xd fs)∧fs.lookup f=some v∧kr K C f=true∧Q v H1
theorem G0 {ta:TE}{f:Str} (he:PE X e ta) (hb:attributeBase e f X.env (eval e X.env)=eval e X.env):PE X (.Attribute e f pos) (Fp X.K ta f):=by
 intro pins s σ H Q I h
 refine Gm hb (aL (he pins s σ H _ I h) fun u s1 ⟨y,H1,I1,rx,a,C,dx,fs,v,ex,ea,ed,el,g,q⟩=>?_)
 subst ex
 obtain rfl:u=Value.ref a:=rx
 obtain ⟨vs,sl,e1⟩:=vw I1.hok ea
 obtain ⟨mA,n1,rl⟩:=(show be X.prog X.w H1 s1.heap dx (.xd fs) from I1.hok dx _ ed)
 obtain ⟨od,e2,lk⟩:=yg n1
 have rv:=rl f
 rw [el] at rv
 cases em:mA f with
 | none=>rw [em] at rv;exact rv.elim
 | some uv=>
  rw [em] at rv
  unfold kr at g
  rw [Bool.and_eq_true,Bool.and_eq_true,beq_iff_eq] at g
  obtain ⟨⟨g1,g2⟩,g3⟩:=g
  obtain ⟨cd,hc,hd⟩:=PySem.W.any_some g2
  have J:PySem.W.InstAt s1.heap a ⟨.ref C,some dx,.fields vs,sl⟩ C (some od):=⟨e1,rfl,rfl,e2⟩
  have fo:PySem.W.findObj X.K C (some od) f=some (.value uv):=by
   unfold PySem.W.findObj
   rw [hc,Option.bind_some,g3,Option.bind_some]
   simp only [Option.bind_some]
   unfold PySem.W.ownOf
   rw [hd,if_pos rfl]
   dsimp only
   rw [lk f,em]
   rfl
  exact JQ I1.kIn J g1 fo (CL rv) ⟨v,H1,I1.tok _,rv,q⟩
inductive JH (K:Frag) (xs:List V) (H:Hp) (Q:VK):Prop
 | mk (a:_) (C:_) (dx:_) (c:_) (cv:_) (b:_) (h0:xs=[.ref a,c]) (h1:(H a=some (jt a C (some dx))∧∃fs,H dx=some (.xd fs))) (h2:E3 c=some cv) (h3:rP K C=true) (h4:kitOne K (.ref C) cv=some b) (h5:Q (.bl b) H)
def LR (K:Frag):List V→Hp→VK→Prop:=fun xs H Q=>JH K xs H Q
theorem tO {K:Frag} (ek:X.K=K:=by rfl):cy X (.builtin "isinstance") (LR K):=by
 subst ek
 intro pins s σ H xs us Q I r h
 obtain ⟨a,C,dx,c,cv,b,rfl,⟨ha,fs,hd⟩,hcv,g,ho,q⟩:=h
 obtain ⟨u,uc,rfl,ru,rc⟩:=xl r
 cases ru
 have ec:uc=cv:=by
  cases c with
  | ref y=>cases hcv;exact rc
  | ty T=>cases hcv;exact rc
  | _=>cases hcv
 subst ec
 have J:aT fun ox od=>PySem.W.InstAt s.heap a ox C od:=by
  obtain ⟨vs,sl,e1⟩:=vw I.hok ha
  obtain ⟨od,e2⟩:=(I.hok dx _ hd).there
  exact ⟨_,some od,e1,rfl,rfl,e2⟩
 exact kia_one (zx g) I.kIn J ho (fun z=>nomatch z) fun tk=>⟨.bl b,H,I.tok tk,rfl,q⟩
end
theorem EO:∀{cs:List V}{cvs us:List Value},cs.map E3=cvs.map some→aD cs us→us=cvs:=by
 intro cs
 induction cs with
 | nil=>
  intro cvs us e r
  cases r
  cases cvs with
  | nil=>rfl
  | cons c l=>cases e
 | cons c l ih=>
  intro cvs us e r
  cases cvs with
  | nil=>cases e
  | cons d m=>
   cases r with
   | cons r1 r2=>
    injection e with e1 e2
    rw [ih e2 r2]
    congr 1
    cases c with
    | ref y=>cases e1;exact r1
    | ty T=>cases e1;exact r1
    | _=>cases e1
section
variable {X:Cx}
inductive IQ (K:Frag) (xs:List V) (H:Hp) (Q:VK):Prop
 | mk (a:_) (C:_) (dx:_) (tp:_) (cs:_) (cvs:_) (b:_) (h0:xs=[.ref a,.ref tp]) (h1:(H a=some (jt a C (some dx))∧∃fs,H dx=some (.xd fs))) (h2:H tp=some (.tup cs)) (h3:cs.map E3=cvs.map some) (h4:rP K C=true) (h5:kitAny K (.ref C) cvs=some b) (h6:Q (.bl b) H)
def KA (K:Frag):List V→Hp→VK→Prop:=fun xs H Q=>IQ K xs H Q
theorem sj {K:Frag} (ek:X.K=K:=by rfl):cy X (.builtin "isinstance") (KA K):=by
 subst ek
 intro pins s σ H xs us Q I r h
 obtain ⟨a,C,dx,tp,cs,cvs,b,rfl,⟨ha,fs,hd⟩,ht,hcs,g,ho,q⟩:=h
 obtain ⟨u,uc,rfl,ru,rc⟩:=xl r
 cases ru
 obtain rfl:uc=Value.ref tp:=rc
 obtain ⟨its,rv,⟨o,e1,e2,n,e3⟩,_⟩:=I.tuple (af.of ht)
 have ei:=EO hcs rv
 subst ei
 obtain ⟨oc,od,odt,osl⟩:=o
 dsimp only at e2 e3
 subst e2 e3
 have J:aT fun ox od=>PySem.W.InstAt s.heap a ox C od:=by
  obtain ⟨vs,sl,e1⟩:=vw I.hok ha
  obtain ⟨od,e2⟩:=(I.hok dx _ hd).there
  exact ⟨_,some od,e1,rfl,rfl,e2⟩
 exact PySem.W.kia_tup (zx g) I.kIn J e1 ho (fun z=>nomatch z) fun tk=>⟨.bl b,H,I.tok tk,rfl,q⟩
theorem C7 {K:Frag}{e:Expr}{ta:TE}{f:Str}{pos:Pos} (he:PE X e ta) (ek:X.K=K:=by rfl) (hb:attributeBase e f X.env (eval e X.env)=eval e X.env:=by rfl):PE X (.Attribute e f pos) (Fp K ta f):=by
 subst ek
 exact G0 he hb
theorem tX {K:Frag}{t:Value}:∀{cs:List Value},(∀c∈cs,kitOne K t c=some false)→kitAny K t cs=some false
 | [],_=>rfl
 | c :: r,h=>by
  unfold kitAny
  rw [h c mem_cons_self]
  exact tX fun d hd=>h d (mem_cons_of_mem _ hd)
end
theorem DP (a b:List aa):aR (a++b)=aR a*aR b:=by
 induction a with
 | nil=>show aR b=1*aR b;rw [Rat.one_mul]
 | cons t r ih=>show gR t*aR (r++b)=gR t*aR r*aR b;rw [ih,Rat.mul_assoc]
section
variable {X:Cx}
def Ie (tk tv:TE):TE:=fun σ H Q=>∀p H0,Nw H p (.dK []) H0→tk σ H0 fun x H1=>∃k,x=fW k∧tv σ H1 fun y H2=>H2 p=some (.dK [])∧∀H3,Fl H2 p (.dK [(k,y)]) H3→Q (.ref p) H3
theorem Ak {k v:Expr}{tk tv:TE}{pos:Pos} (hk:PE X k tk) (hv:PE X v tv):PE X (.Dict [some k] [v] pos) (Ie tk tv):=by
 intro pins s σ H Q I h
 have big:(#[s]==sysModules)=false:=by
  have e:mainGlobals < #[s]:=(I.mod.glob.keeps I.bk).lt
  exact beq_eq_false_iff_ne.mpr (Ne.symm (ne_of_lt (lt_trans (by ext) e)))
 have I1:=I.laid (a:=#[s]) (o:=.dK []) (h':=s.heap.push { cls:=.type "dict",data:=.dict #[] }) (t':=s.toks) (fun _ _ e=>Heap.get?_push_of_some _ e) (le_refl _) (show be X.prog X.w _ _ _ (.dK []) from ⟨zero_le _,big,[],.nil,Heap.DictOf.new s.heap⟩)
 refine wpAny_Dict_walk (knd:=bj X.prog X.w) rfl rfl (by simp) (by show 1≤15;decide) (pairTrees_cons_walk (aL (hk pins _ σ _ _ I1 (h _ _ (.mk' I.fresh))) fun u s1 ⟨x,H1,I2,rx,kk,ex,q1⟩=>aL (hv pins s1 σ H1 _ I2 q1) fun w2 s2 ⟨y,H2,I3,ry,e,q2⟩=>pairTrees_nil_walk ?_))
 subst ex
 obtain ⟨hz,hm,vs,rel,dd⟩:=(show be X.prog X.w H2 s2.heap _ (.dK []) from I3.hok _ _ e)
 cases rel
 refine ⟨[(kk,w2)],⟨jI rx,rfl,True.intro⟩,dd,fun h' dd' hs=>⟨.ref #[s],_,?_,rfl,q2 _ .mk'⟩⟩
 exact I3.dset e hm (by show 1≤_;rw [sizeLine_eq];decide) (.cons ⟨rfl,ry⟩ .nil) dd' hs
def Kb (td ty:TE):TE:=fun σ H Q=>td σ H fun x H1=>aT fun d kv=>x=.ref d∧H1 d=some (.dK kv)∧ty σ H1 fun y H2=>aT fun kvs k=>y=fW k∧H2 d=some (.dK kvs)∧Q ((valD kvs k).getD .non) H2
theorem GD {o e:Expr}{apos cpos:Pos}{td ty:TE} (ho:PE X o td) (he:PE X e ty)
 (h1:attributeBase o "get" X.env (eval o X.env)=eval o X.env:=by rfl)
 (h2:((backTo cpos (starEach [e] X.env)).all (fun x=>!x.1) && (backToKw cpos (keywordEach [] X.env)).all (fun x=>x.1.isSome) && decide (([e]:List Expr).length+([]:List Keyword).length+(if ([]:List Keyword).isEmpty then 0 else 1)<30))=true:=by rfl)
 (h3:(apos.endLine==cpos.line)=true:=by rfl) (h4:backTo cpos (starEach [e] X.env)=[(false,eval e X.env)]:=by rfl):PE X (.Call (.Attribute o "get" apos) [e] [] cpos) (Kb td ty):=by
 intro pins s σ H Q I h
 refine wpAny_Call_method h1 h2 h3 PySem.F.plainAttrs_dict PySem.F.slot_dict_get PySem.F.type_dict_get (aL (ho pins s σ H _ I h) fun u s1 ⟨x,H1,I1,rx,d,kv,ex,hd,q1⟩=>?_)
 subst ex
 cases rx
 obtain ⟨hz,hm,vs,rel,dd⟩:=(show be X.prog X.w H1 s1.heap d (.dK kv) from I1.hok _ _ hd)
 refine ⟨dd.typeIs,fun b q=>?_,?_⟩
 ·cases q
  obtain ⟨ob,_,_,h1,h2,_⟩:=dd
  exact ⟨ob,h1,h2.2.1⟩
 rw [h4]
 refine Calls.callWith_builtin rfl (Calls.evalArgs_plain (Calls.spliced_cons (aL (he pins s1 σ H1 _ I1 q1) fun iv s2 ⟨y,H2,I2,ry,kvs,k,ey,hd2,q2⟩=>Calls.spliced_nil ?_)))
 subst ey
 obtain ⟨hz,hm,vs2,rel2,dd2⟩:=(show be X.prog X.w H2 s2.heap d (.dK kvs) from I2.hok _ _ hd2)
 refine call_meetsIn PySem.F.slot_dict_get dd2.typeIs PySem.F.entry_dict_get (PySem.F.args_dict_get_2 _ _) (meets_dict_get (bj X.prog X.w) d (jI ry) hm) ⟨_,dd2.mapOf,_,H2,I2.tok _,?_,q2⟩
 have r:=rel2.valD k
 revert r
 generalize valueAt vs2 k=o2
 cases valD kvs k <;> cases o2 <;> intro r
 ·exact rfl
 ·exact r.elim
 ·exact r.elim
 ·exact r
end
abbrev jR:=List Nat→Option KM.Fra
def Ao (a b:KM.Fra):Bool:=decide (a.1*b.2<b.1*a.2)
def fh (ω:jR) (t:aa):Option KM.Fra:=if t.most=(0,1) then none else
 match ω t.en with
 | none=>none
 | some we=>match ω t.bg with
  | none=>some (KM.lTim t.gain we)
  | some wb=>if Ao wb (KM.lTim t.gain we)=true then some (KM.lTim t.gain we) else none
theorem Kf {ω:jR}{t:aa}{we:KM.Fra} (h:t.most≠(0,1)) (e:ω t.en=some we) (b:ω t.bg=none):fh ω t=some (KM.lTim t.gain we):=by
 simp only [fh,if_neg h,e,b]
theorem JG {ω:jR}{t:aa}{we wb:KM.Fra} (h:t.most≠(0,1)) (e:ω t.en=some we) (b:ω t.bg=some wb):fh ω t=if Ao wb (KM.lTim t.gain we)=true then some (KM.lTim t.gain we) else none:=by
 simp only [fh,if_neg h,e,b]
structure LP where
 ω:jR
 on:List Nat→Option Nat
 lf:Option (List Nat)
def iq (i:Nat) (t:aa) (w:KM.Fra) (s:LP):LP:=⟨fun l=>if l=t.bg then some w else s.ω l,fun l=>if l=t.bg then some i else s.on l,some t.bg⟩
def fv (i:Nat) (t:aa) (s:LP):LP:=match fh s.ω t with
 | some w=>iq i t w s
 | none=>s
theorem gu {i:Nat}{t:aa}{s:LP}{w:KM.Fra} (h:fh s.ω t=some w):fv i t s=iq i t w s:=by unfold fv;rw [h]
theorem gM {i:Nat}{t:aa}{s:LP} (h:fh s.ω t=none):fv i t s=s:=by unfold fv;rw [h]
def upP (ts:List aa) (s:LP):Nat→LP
 | 0=>{ s with lf:=none }
 | i+1=>match ts[i]? with
  | some t=>fv i t (upP ts s i)
  | none=>upP ts s i
theorem wf {i:Nat}{ts:List aa}{s:LP}{t:aa} (h:ts[i]?=some t):upP ts s (i+1)=fv i t (upP ts s i):=by rw [upP,h]
def du (ts:List aa) (s:LP):LP:=upP ts s ts.length
def b5 (ts:List aa) (s:LP):Nat→LP
 | 0=>s
 | k+1=>du ts (b5 ts s k)
def i5 (s:LS):LP:=⟨fun l=>some (s.ω l),s.on,s.lf⟩
theorem Em (p i:Nat) (t:aa) (s:LS):fv i t (i5 s)=i5 (mP p i t s):=by
 have e:fh (i5 s).ω t=if gH s.ω t=true then some (KM.lTim t.gain (s.ω t.en)) else none:=by
  unfold fh gH
  by_cases c:t.most=(0,1)
  ·rw [if_pos c,decide_eq_false (fun z=>z c)];rfl
  ·rw [if_neg c,decide_eq_true c,Bool.true_and];rfl
 cases q:gH s.ω t with
 | true=>
  rw [q,if_pos rfl] at e
  rw [gu e,tf q]
  unfold iq i5
  congr 1
  funext l
  show (if l=t.bg then _ else _)=some (k7 _ _ _ _)
  unfold k7
  by_cases c:l=t.bg
  ·rw [if_pos c,if_pos c]
  ·rw [if_neg c,if_neg c]
 | false=>
  rw [q,if_neg Bool.false_ne_true] at e
  rw [gM e,wj q]
theorem ze (p:Nat) (ts:List aa) (s:LS):∀i,upP ts (i5 s) i=i5 (jk p ts s i)
 | 0=>rfl
 | i+1=>by
  rw [upP,jk]
  cases ts[i]? with
  | none=>exact ze p ts s i
  | some t=>
   show fv i t (upP ts (i5 s) i)=i5 (mP p i t (jk p ts s i))
   rw [ze p ts s i,Em p]
theorem zY (p:Nat) (ts:List aa) (s:LS):du ts (i5 s)=i5 (kf p ts s):=ze p ts s _
theorem wY (ts:List aa):∀k,b5 ts (i5 xS) k=i5 (aW ts k)
 | 0=>rfl
 | k+1=>by
  show du ts (b5 ts (i5 xS) k)=i5 (kf (k+1) ts (aW ts k))
  rw [wY ts k,zY (k+1)]
structure PV (ts:List aa) (ω0:jR) (s:LP):Prop where
 pos:∀l w,s.ω l=some w→1≤w.1∧KM.Rd w
 no:∀l,s.on l=none→s.ω l=ω0 l
 on:∀l k,s.on l=some k→eF fun t w we=>ts[k]?=some t∧t.most≠(0,1)∧t.bg=l∧s.ω l=some w∧s.ω t.en=some we∧KM.vl w≤gR t*KM.vl we
 up:∀l w,ω0 l=some w→∃w',s.ω l=some w'∧KM.vl w≤KM.vl w'
def Cl (s:LP) (t:aa):Prop:=∀we,s.ω t.en=some we→∃wb,s.ω t.bg=some wb∧gR t*KM.vl we≤KM.vl wb
theorem kQ {ls:List (List Nat)}{t:aa}{we:KM.Fra} (c:bp ls t) (p:1≤we.1∧KM.Rd we):KM.vl (KM.lTim t.gain we)=gR t*KM.vl we∧1≤(KM.lTim t.gain we).1∧KM.Rd (KM.lTim t.gain we):=by
 obtain ⟨p1,p2,_⟩:=p
 have g2:=c.g2
 exact ⟨KM.vl_tim (by lia) (by lia),qA c.g1 c.g2 p1 p2,KM.Rd.low (Int.ne_of_gt (mul_pos (by lia) (by lia)))⟩
theorem qf {ls:List (List Nat)}{ω:jR}{t:aa}{w:KM.Fra} (c:bp ls t) (pos:∀l w,ω l=some w→1≤w.1∧KM.Rd w) (h:fh ω t=some w):t.most≠(0,1)∧∃we,ω t.en=some we∧w=KM.lTim t.gain we∧∀wb,ω t.bg=some wb→KM.vl wb<gR t*KM.vl we:=by
 unfold fh at h
 by_cases m:t.most=(0,1)
 ·rw [if_pos m] at h;cases h
 rw [if_neg m] at h
 refine ⟨m,?_⟩
 cases e:ω t.en with
 | none=>rw [e] at h;cases h
 | some we=>
  rw [e] at h
  obtain ⟨v1,v2,v3⟩:=kQ c (pos _ _ e)
  cases b:ω t.bg with
  | none=>
   rw [b] at h
   exact ⟨we,rfl,(Option.some.inj h).symm,fun wb z=>by cases z⟩
  | some wb=>
   rw [b] at h
   have h:(if Ao wb (KM.lTim t.gain we)=true then some (KM.lTim t.gain we) else none)=some w:=h
   by_cases q:Ao wb (KM.lTim t.gain we)=true
   ·rw [if_pos q] at h
    refine ⟨we,rfl,(Option.some.inj h).symm,fun wb' z=>?_⟩
    cases z
    rw [←v1]
    exact (lY (pos _ _ b).2.1 v3.1).mpr (of_decide_eq_true q)
   ·rw [if_neg q] at h;cases h
theorem zG {ls:List (List Nat)}{s:LP}{t:aa} (c:bp ls t) (pos:∀l w,s.ω l=some w→1≤w.1∧KM.Rd w) (m:t.most≠(0,1)):fh s.ω t=none↔Cl s t:=by
 unfold fh Cl
 rw [if_neg m]
 cases e:s.ω t.en with
 | none=>exact ⟨fun _ we z=>(by cases z),fun _=>rfl⟩
 | some we=>
  obtain ⟨v1,v2,v3⟩:=kQ c (pos _ _ e)
  cases b:s.ω t.bg with
  | none=>
   constructor
   ·intro z;cases z
   ·intro z
    obtain ⟨wb,q,_⟩:=z we rfl
    cases q
  | some wb=>
   show (if Ao wb (KM.lTim t.gain we)=true then some (KM.lTim t.gain we) else none)=none↔_
   have iff:=lY (pos _ _ b).2.1 v3.1
   rw [v1] at iff
   by_cases q:Ao wb (KM.lTim t.gain we)=true
   ·rw [if_pos q]
    constructor
    ·intro z;cases z
    ·intro z
     obtain ⟨wb',q',le⟩:=z we rfl
     cases q'
     exact absurd (iff.mpr (of_decide_eq_true q)) (Rat.not_lt.mpr le)
   ·rw [if_neg q]
    refine ⟨fun _ we' z=>?_,fun _=>rfl⟩
    cases z
    exact ⟨wb,rfl,Rat.not_lt.mp fun z=>q (decide_eq_true (iff.mp z))⟩
theorem PV.step {ls:List (List Nat)}{ts:List aa}{ω0:jR}{s:LP}{i:Nat}{t:aa} (tc:∀t∈ts,bp ls t) (et:ts[i]?=some t) (h:PV ts ω0 s):PV ts ω0 (fv i t s)∧∀l w,s.ω l=some w→∃w',(fv i t s).ω l=some w'∧KM.vl w≤KM.vl w':=by
 have c:=tc t (mem_of_getElem? et)
 cases q:fh s.ω t with
 | none=>rw [gM q];exact ⟨h,fun l w e=>⟨w,e,Rat.le_refl⟩⟩
 | some w=>
  obtain ⟨m,we,ee,rfl,lt⟩:=qf c h.pos q
  obtain ⟨v1,v2,v3⟩:=kQ c (h.pos _ _ ee)
  rw [gu q]
  have g0:∀{t:aa},t∈ts→0≤gR t:=fun {t} ht=>Rat.le_of_lt (cW (tc t ht).g1 (tc t ht).g2)
  have eo:∀l,(iq i t (KM.lTim t.gain we) s).ω l=if l=t.bg then some (KM.lTim t.gain we) else s.ω l:=fun _=>rfl
  have en:∀l,(iq i t (KM.lTim t.gain we) s).on l=if l=t.bg then some i else s.on l:=fun _=>rfl
  have mo:∀l w,s.ω l=some w→∃w',(iq i t (KM.lTim t.gain we) s).ω l=some w'∧KM.vl w≤KM.vl w':=fun l w e=>by
   rw [eo]
   by_cases z:l=t.bg
   ·rw [if_pos z]
    rw [z] at e
    exact ⟨(),by rw [v1];exact Rat.le_of_lt (lt w e)⟩
   ·rw [if_neg z];exact ⟨w,e,Rat.le_refl⟩
  generalize iq i t (KM.lTim t.gain we) s=s' at eo en mo ⊢
  refine ⟨⟨fun l w' e=>?_,fun l e=>?_,fun l k e=>?_,fun l w' e=>?_⟩,mo⟩
  ·rw [eo] at e
   by_cases z:l=t.bg
   ·rw [if_pos z] at e;cases e;exact ⟨v2,v3⟩
   ·rw [if_neg z] at e;exact h.pos l w' e
  ·rw [en] at e
   by_cases z:l=t.bg
   ·rw [if_pos z] at e;cases e
   ·rw [if_neg z] at e;rw [eo,if_neg z];exact h.no l e
  ·rw [en] at e
   by_cases z:l=t.bg
   ·rw [if_pos z] at e
    cases e
    refine ⟨t,_,we,et,m,z.symm,by rw [eo,if_pos z],by rw [eo,if_neg fun y=>c.ne y.symm];exact ee,by rw [v1];exact Rat.le_refl⟩
   ·rw [if_neg z] at e
    obtain ⟨t',w',we',e1,e2,e3,e4,e5,e6⟩:=h.on l k e
    obtain ⟨we2,e7,e8⟩:=mo _ _ e5
    exact ⟨t',w',we2,e1,e2,e3,by rw [eo,if_neg z];exact e4,e7,Rat.le_trans e6 (KM.mul_le_l e8 (g0 (mem_of_getElem? e1)))⟩
  ·obtain ⟨w1,e1,l1⟩:=h.up l w' e
   obtain ⟨w2,e2,l2⟩:=mo _ _ e1
   exact ⟨w2,e2,Rat.le_trans l1 l2⟩
theorem PV.upP {ls:List (List Nat)}{ts:List aa}{ω0:jR}{s:LP} (tc:∀t∈ts,bp ls t) (h:PV ts ω0 s):∀i,PV ts ω0 (L2.upP ts s i)
 | 0=>⟨h.pos,h.no,h.on,h.up⟩
 | i+1=>by
  rw [L2.upP]
  cases e:ts[i]? with
  | none=>exact PV.upP tc h i
  | some t=>exact ((PV.upP tc h i).step tc e).1
theorem PV.st {ls:List (List Nat)}{ts:List aa}{s:LP} (tc:∀t∈ts,bp ls t) (h:PV ts s.ω s):∀k,PV ts s.ω (b5 ts s k)
 | 0=>h
 | k+1=>(PV.st tc h k).upP tc _
theorem vD {ts:List aa}{s:LP}:∀{i:Nat},(upP ts s i).lf=none→upP ts s i={ s with lf:=none }∧∀k t,k<i→ts[k]?=some t→fh s.ω t=none
 | 0,_=>⟨rfl,fun k t h=>by lia⟩
 | i+1,h=>by
  cases e:ts[i]? with
  | none=>
   have e':upP ts s (i+1)=upP ts s i:=by rw [upP,e]
   rw [e'] at h ⊢
   obtain ⟨h1,h2⟩:=vD h
   refine ⟨h1,fun k t hk et=>?_⟩
   by_cases c:k=i
   ·rw [c,e] at et;cases et
   ·exact h2 k t (by lia) et
  | some t=>
   rw [wf e] at h ⊢
   cases q:fh (upP ts s i).ω t with
   | some w=>rw [gu q] at h;cases h
   | none=>
    rw [gM q] at h ⊢
    obtain ⟨h1,h2⟩:=vD h
    refine ⟨h1,fun k t' hk et=>?_⟩
    by_cases c:k=i
    ·rw [c,e] at et;cases et;rw [h1] at q;exact q
    ·exact h2 k t' (by lia) et
theorem rf {ts:List aa}{s:LP} (h:(du ts s).lf=none):du ts s={ s with lf:=none }∧∀t∈ts,fh s.ω t=none:=by
 obtain ⟨h1,h2⟩:=vD h
 refine ⟨h1,fun t ht=>?_⟩
 obtain ⟨k,hk⟩:=getElem?_of_mem ht
 exact h2 k t (List.getElem?_eq_some_iff.mp hk).1 hk
theorem BC {ts:List aa}{s:LP} (h:∀t∈ts,fh s.ω t=none):∀i,upP ts s i={ s with lf:=none }
 | 0=>rfl
 | i+1=>by
  rw [upP]
  cases e:ts[i]? with
  | none=>exact BC h i
  | some t=>
   have q:=h t (mem_of_getElem? e)
   show fv i t (upP ts s i)=_
   rw [BC h i]
   exact gM q
theorem Ku {ls:List (List Nat)}{ts:List aa}{s:LP}{m:Nat} (tc:∀t∈ts,bp ls t) (h:PV ts s.ω s) (e:(b5 ts s (m+1)).lf=none):∀t∈ts,t.most≠(0,1)→Cl (b5 ts s m) t:=fun t ht ho=>
 (zG (tc t ht) (PV.st tc h m).pos ho).mp ((rf (s:=b5 ts s m) e).2 t ht)
theorem yb:∀(l:List Obj) (n a:Nat) (o:Obj),List.lookup a (qG n l)=some o→∃k,a=n+k∧l[k]?=some o∧o.data≠.freed
 | [],n,a,o,e=>nomatch e
 | p :: r,n,a,o,e=>by
  have step:List.lookup a (qG (n+1) r)=some o→∃k,a=n+k∧(p :: r)[k]?=some o∧o.data≠.freed:=fun e=>by
   obtain ⟨k,e1,e2,e3⟩:=yb r (n+1) a o e
   exact ⟨k+1,by lia,by simpa using e2,e3⟩
  unfold qG at e
  split at e
  ·exact step e
  ·rename_i hf
   by_cases q:a=n
   ·subst q
    simp only [lookup_cons,beq_self_eq_true] at e
    cases e
    exact ⟨0,rfl,rfl,hf⟩
   ·have q':(a==n)=false:=by simpa using q
    simp only [lookup_cons,q'] at e
    exact step e
theorem Dy (h:Heap):PySem.W.Frag.In (fragOf h) h:=fun a o e=>by
 obtain ⟨k,e1,e2,e3⟩:=yb _ 0 a o e
 have e1':a=k:=e1.trans (zero_add k)
 subst e1'
 unfold Heap.get?
 have:h.objs[a]?=some o:=by simpa using e2
 rw [this]
 cases o with
 | mk c d x s=>
  cases x <;> first | rfl | exact absurd rfl e3
theorem dH {v:Option (Option Value)} (e:CZ v=true):v=some (some (.ref (ii v))):=by
 unfold CZ at e;split at e
 ·rfl
 ·cases e
theorem cr {v:Option (Option Value)} (e:EB v=true):v=some none:=by
 unfold EB at e;split at e
 ·rfl
 ·cases e
theorem FZ {v:Option Bool} (e:EK v=true):v=some true:=by
 unfold EK at e;split at e
 ·rfl
 ·cases e
theorem yf {K:Frag}{v:Option (Option Value)}{q:Str}{x:FuncData} (e:iA K v q=some x) :
 v=some (some (.ref (ii v)))∧PySem.W.codeIn K (jg K v).code q=true∧keepIn K (.ref (ii v))=true∧
  List.lookup (ii v) K=some ⟨(A9 K v).cls,(A9 K v).dict,.func (jg K v),(A9 K v).slots⟩∧bare (jg K v)=x:=by
 unfold iA at e
 cases h:(CZ v && PySem.W.codeIn K (jg K v).code q && keepIn K (.ref (ii v))) with
 | false=>rw [h] at e;cases e
 | true=>
  rw [h] at e
  simp only [Bool.and_eq_true] at h
  refine ⟨dH h.1.1,h.1.2,h.2,?_⟩
  cases hl:List.lookup (ii v) K with
  | none=>rw [hl] at e;cases e
  | some o=>
   rw [hl] at e
   obtain ⟨c,d,x',s⟩:=o
   have eo:A9 K v=⟨c,d,x',s⟩:=by unfold A9;rw [hl];rfl
   cases x' <;> first | cases e | skip
   rename_i fd
   have ef:jg K v=fd:=by unfold jg;rw [eo]
   rw [eo,ef]
   exact ⟨rfl,rfl⟩
theorem ai {K:Frag}{v:Option (Option Value)}{q n:Str}{st:Stmt} (e:iA K v q=dG n q st):oD K n q st (ii v) (jg K v):=by
 have h:=yf e
 refine ⟨?_,h.2.2.1⟩
 obtain ⟨h1,h2,h3,h4,z⟩:=h
 refine ⟨_,_,(jg K v).kwdefaults,(jg K v).doc,(jg K v).pyModule,(jg K v).annotations,(jg K v).code,(jg K v).closureTuple,_,?_,h4,h2⟩
 clear h4 h2 h3 h1 e
 generalize jg K v=fd at z ⊢
 cases fd
 unfold bare PySem.W.fnOf at z
 cases z
 rfl
theorem aZ {K:Frag}{v:Option (Option Value)}{q n:Str}{st:Stmt} (e:iA K v q=dG n q st):v=some (some (.ref (ii v))):=(yf e).1
theorem walk_ofY {l:PySem.W.OpenLaw}{n k:Nat}{q:Program}{loose:List Str}{XP:(Str→Option Value)→Heap→Prop}{d:DefRec}{CX:lZ}{sp:Frag→Sp}{x:Str}{α:Type}{obs:Frag→α}{due:α}
 (hn:l.most=some n) (hn2:n≤sizeLine) (hdf:d.params.defaults=[]) (hr:dm k callerA)
 (F:∀(K:Frag) (w:World) (mg:Str→Option Value) (fa:Addr) (h:Heap),obs K=due→K.In h→h.Ns mainGlobals mg→mg d.name=some (.ref fa)→
  ∃fd:FuncData,(∀(s:Shared) (u:Value),BindsTo s fd ⟨[u],[]⟩ [(x,u)])∧
   ∀base:Heap,K.In base→base.Ns mainGlobals mg→aQ l.prog w K mg base CX k fa fd [x] (sp K))
 (hsp:∀(K:Frag) (H:Hp) (a:Addr) (ns:List Int),ns.length≤n→xM H→aq K H a (ns.map V.int)→sp K [.ref a] H (fun v _=>v=.bl true) fun _ _ _=>False)
 (hCX:∀(H:Hp) (s:Shared) (e:Value) (s':Shared),CX [] H s (fun _ _ _=>False) e s'→False) :
 WalkX q loose XP (fun s=>obs (fragOf s.heap)) (fun _=>due) l.row.toRowW d [] (fun f vs=>PySem.call f vs):=by
 intro w s₀ s₁ mg mb G y a o pm cd doc dV kV ho hd hcd hD hmg hg args vals as' L hpre hlay hrd hwl hlo
 have kx:(fragOf s₀.heap).In s₁.heap:=fun b ob hb=>L.keeps b ob (Dy s₀.heap b ob hb)
 exact EI (K:=fun _=>fragOf s₀.heap) (YP:=fun w h=>(fragOf s₀.heap).In h) hn hn2 hdf hr (fun _ _ z=>z) (fun w mg fa h=>F (fragOf s₀.heap) w mg fa h y) hsp hCX w s₀ s₁ mg mb G kx a o pm cd doc dV kV ho hd hcd hD hmg hg args vals as' hpre hlay hrd hwl hlo
inductive Wk (ts:List aa) (le:List Nat):List Nat→List aa→Prop
 | nil:Wk ts le le []
 | cons {t us}:t∈ts→t.most≠(0,1)→Wk ts le t.en us→Wk ts le t.bg (t :: us)
theorem i3 (t:aa) (us:List aa):aR (t :: us)=gR t*aR us:=rfl
theorem Wk.gp {ls:List (List Nat)}{ts:List aa}{le:List Nat} (tc:∀t∈ts,bp ls t) {l:List Nat}{us:List aa} (h:Wk ts le l us):0<aR us:=by
 induction h with
 | nil=>show (0:Rat)<1;decide
 | cons ht _ _ ih=>exact Rat.mul_pos (cW (tc _ ht).g1 (tc _ ht).g2) ih
def SV (ts:List aa) (le:List Nat) (s:LP):Prop:=∀l w,s.ω l=some w→∃us,Wk ts le l us∧KM.vl w=aR us
theorem SV.step {ls:List (List Nat)}{ts:List aa}{ω0:jR}{le:List Nat}{s:LP}{i:Nat}{t:aa} (tc:∀t∈ts,bp ls t) (et:ts[i]?=some t) (v:PV ts ω0 s) (h:SV ts le s):SV ts le (fv i t s):=by
 have c:=tc t (mem_of_getElem? et)
 cases q:fh s.ω t with
 | none=>rw [gM q];exact h
 | some w=>
  obtain ⟨m,we,ee,rfl,lt⟩:=qf c v.pos q
  obtain ⟨v1,v2,v3⟩:=kQ c (v.pos _ _ ee)
  rw [gu q]
  intro l w' e
  have e:(if l=t.bg then some (KM.lTim t.gain we) else s.ω l)=some w':=e
  by_cases z:l=t.bg
  ·rw [if_pos z] at e
   cases e
   obtain ⟨us,k,e1⟩:=h _ _ ee
   rw [z]
   exact ⟨t :: us,.cons (mem_of_getElem? et) m k,by rw [v1,e1];rfl⟩
  ·rw [if_neg z] at e;exact h l w' e
theorem SV.upP {ls:List (List Nat)}{ts:List aa}{ω0:jR}{le:List Nat}{s:LP} (tc:∀t∈ts,bp ls t) (v:PV ts ω0 s) (h:SV ts le s):∀i,SV ts le (L2.upP ts s i)
 | 0=>h
 | i+1=>by
  rw [L2.upP]
  cases e:ts[i]? with
  | none=>exact SV.upP tc v h i
  | some t=>exact (SV.upP tc v h i).step tc e (v.upP tc i)
theorem SV.st {ls:List (List Nat)}{ts:List aa}{le:List Nat}{s:LP} (tc:∀t∈ts,bp ls t) (v:PV ts s.ω s) (h:SV ts le s):∀k,SV ts le (b5 ts s k)
 | 0=>h
 | k+1=>(SV.st tc v h k).upP tc (PV.st tc v k) _
def Mo (s s':LP):Prop:=∀l w,s.ω l=some w→∃w',s'.ω l=some w'∧KM.vl w≤KM.vl w'
theorem Mo.refl (s:LP):Mo s s:=fun _ w e=>⟨w,e,Rat.le_refl⟩
theorem Mo.trans {a b c:LP} (h:Mo a b) (k:Mo b c):Mo a c:=fun l w e=>by
 obtain ⟨w1,e1,l1⟩:=h l w e
 obtain ⟨w2,e2,l2⟩:=k l w1 e1
 exact ⟨w2,e2,Rat.le_trans l1 l2⟩
theorem y9 {ls:List (List Nat)}{ts:List aa}{ω0:jR}{s:LP} (tc:∀t∈ts,bp ls t) (v:PV ts ω0 s) (i:Nat):∀j,Mo (upP ts s i) (upP ts s (i+j))
 | 0=>Mo.refl _
 | j+1=>by
  refine (y9 tc v i j).trans ?_
  show Mo _ (upP ts s (i+j+1))
  rw [upP]
  cases e:ts[i+j]? with
  | none=>exact Mo.refl _
  | some t=>exact ((v.upP tc (i+j)).step tc e).2
theorem Gs {ls:List (List Nat)}{ts:List aa}{ω0:jR}{s:LP}{i:Nat}{t:aa}{we:KM.Fra} (c:bp ls t) (v:PV ts ω0 s) (ho:t.most≠(0,1)) (e:s.ω t.en=some we):∃wb,(fv i t s).ω t.bg=some wb∧gR t*KM.vl we≤KM.vl wb:=by
 cases q:fh s.ω t with
 | none=>rw [gM q];exact (zG c v.pos ho).mp q we e
 | some w=>
  obtain ⟨m,we',ee,rfl,lt⟩:=qf c v.pos q
  rw [e] at ee
  cases ee
  obtain ⟨v1,v2,v3⟩:=kQ c (v.pos _ _ e)
  rw [gu q]
  exact ⟨_,if_pos rfl,by rw [v1];exact Rat.le_refl⟩
def Rc (ts:List aa) (le:List Nat) (p:Nat) (s:LP):Prop:=∀l us,Wk ts le l us→us.length≤p→∃w,s.ω l=some w∧aR us≤KM.vl w
theorem Rc.pass {ls:List (List Nat)}{ts:List aa}{ω0:jR}{le:List Nat}{p:Nat}{s:LP} (tc:∀t∈ts,bp ls t) (v:PV ts ω0 s) (h:Rc ts le p s):Rc ts le (p+1) (du ts s):=by
 have mo0:Mo s (du ts s):=by
  have:=y9 tc v 0 ts.length
  rw [zero_add] at this
  exact this
 intro l us k hl
 cases k with
 | nil=>
  obtain ⟨w,e,q⟩:=h _ _ .nil (zero_le _)
  obtain ⟨w',e',q'⟩:=mo0 _ _ e
  exact ⟨w',e',Rat.le_trans q q'⟩
 | @cons t r ht ho k=>
  obtain ⟨i,hi⟩:=getElem?_of_mem ht
  have li:=(List.getElem?_eq_some_iff.mp hi).1
  have lr:r.length≤p:=by simp only [length_cons] at hl;lia
  obtain ⟨we,e,q⟩:=h _ _ k lr
  obtain ⟨we',e',q'⟩:∃w',(upP ts s i).ω t.en=some w'∧KM.vl we≤KM.vl w':=by
   have m:=y9 tc v 0 i
   rw [zero_add] at m
   exact m _ _ e
  obtain ⟨wb,e2,q2⟩:=Gs (i:=i) (tc t ht) (v.upP tc i) ho e'
  have m2:=y9 tc v (i+1) (ts.length - (i+1))
  rw [show i+1+(ts.length - (i+1))=ts.length by lia,wf hi] at m2
  obtain ⟨wc,e3,q3⟩:=m2 _ _ e2
  have g0:0≤gR t:=Rat.le_of_lt (cW (tc t ht).g1 (tc t ht).g2)
  exact ⟨wc,e3,Rat.le_trans (KM.mul_le_l (Rat.le_trans q q') g0) (Rat.le_trans q2 q3)⟩
theorem Rc.st {ls:List (List Nat)}{ts:List aa}{le:List Nat}{s:LP} (tc:∀t∈ts,bp ls t) (v:PV ts s.ω s) (h:Rc ts le 0 s):∀k,Rc ts le k (b5 ts s k)
 | 0=>h
 | k+1=>(Rc.st tc v h k).pass tc (PV.st tc v k)
structure jN (ls:List (List Nat)) (ts:List aa) (u:List Nat→Rat):Prop where
 pos:∀l∈ls,0<u l
 le:∀t∈ts,t.most≠(0,1)→gR t*u t.en≤u t.bg
theorem Wk.split {ls:List (List Nat)}{ts:List aa}{le x:List Nat}{u:List Nat→Rat} (tc:∀t∈ts,bp ls t) (hu:jN ls ts u) {l:List Nat}{us:List aa} (h:Wk ts le l us):x∈l :: us.map (·.en)→aT fun a b=>us=a++b∧Wk ts le x b∧aR a*u x≤u l∧∃c,l :: us.map (·.en)=c++(x :: b.map (·.en)):=by
 induction h with
 | nil=>
  intro hx
  have:x=le:=by simpa using hx
  subst this
  exact ⟨[],[],rfl,.nil,by show (1:Rat)*_≤_;rw [Rat.one_mul];exact Rat.le_refl,[],rfl⟩
 | @cons t r ht ho k ih=>
  intro hx
  by_cases z:x=t.bg
  ·subst z
   exact ⟨[],t :: r,rfl,.cons ht ho k,by show (1:Rat)*_≤_;rw [Rat.one_mul];exact Rat.le_refl,[],rfl⟩
  ·have hx':x∈t.en :: r.map (·.en):=by
    rcases List.mem_cons.mp hx with y | y
    ·exact absurd y z
    ·exact y
   obtain ⟨a,b,rfl,kb,le',c,ec⟩:=ih hx'
   have g0:0≤gR t:=Rat.le_of_lt (cW (tc t ht).g1 (tc t ht).g2)
   refine ⟨t :: a,b,rfl,kb,?_,t.bg :: c,by rw [cons_append,←ec];rfl⟩
   rw [i3,Rat.mul_assoc]
   exact Rat.le_trans (KM.mul_le_l le' g0) (hu.le t ht ho)
theorem Wk.simple {ls:List (List Nat)}{ts:List aa}{le:List Nat}{u:List Nat→Rat} (tc:∀t∈ts,bp ls t) (hu:jN ls ts u) {l:List Nat}{us:List aa} (h:Wk ts le l us):∃us',Wk ts le l us'∧aR us≤aR us'∧(l :: us'.map (·.en)).Nodup:=by
 induction h with
 | nil=>exact ⟨[],.nil,Rat.le_refl,by simp⟩
 | @cons t r ht ho k ih=>
  obtain ⟨r',k',le',nd⟩:=ih
  have g0:0≤gR t:=Rat.le_of_lt (cW (tc t ht).g1 (tc t ht).g2)
  have q:=KM.mul_le_l le' g0
  by_cases z:t.bg∈t.en :: r'.map (·.en)
  ·obtain ⟨a,b,rfl,kb,lb,c,ec⟩:=k'.split tc hu z
   refine ⟨b,kb,?_,?_⟩
   ·have up:=hu.pos t.bg (tc t ht).b
    have q1:(gR t*aR a)*u t.bg≤u t.bg:=by
     rw [Rat.mul_assoc]
     exact Rat.le_trans (KM.mul_le_l lb g0) (hu.le t ht ho)
    have q2:gR t*aR a≤1:=by
     apply Rat.not_lt.mp
     intro y
     have:=Rat.mul_lt_mul_of_pos_right y up
     rw [Rat.one_mul] at this
     exact absurd this (Rat.not_lt.mpr q1)
    have pb:=Rat.le_of_lt (kb.gp tc)
    have q3:=Rat.mul_le_mul_of_nonneg_right q2 pb
    rw [Rat.one_mul,Rat.mul_assoc,←DP] at q3
    exact Rat.le_trans q q3
   ·rw [ec] at nd
    exact (List.nodup_append.mp nd).2.1
  ·exact ⟨t :: r',.cons ht ho k',q,List.nodup_cons.mpr ⟨z,nd⟩⟩
theorem Wk.sub {ls:List (List Nat)}{ts:List aa}{le:List Nat} (tc:∀t∈ts,bp ls t) {l:List Nat}{us:List aa} (h:Wk ts le l us):∀x∈us.map (·.en),x∈ls:=by
 induction h with
 | nil=>intro x hx;cases hx
 | @cons t r ht ho k ih=>
  intro x hx
  rcases List.mem_cons.mp hx with rfl | y
  ·exact (tc t ht).e
  ·exact ih x y
theorem pB:∀{xs ys:List (List Nat)},xs.Nodup→(∀x∈xs,x∈ys)→xs.length≤ys.length
 | [],_,_,_=>zero_le _
 | x :: xs,ys,nd,h=>by
  rw [List.nodup_cons] at nd
  have hx:=h x (mem_cons_self ..)
  have:=pB (xs:=xs) (ys:=ys.erase x) nd.2 fun y hy=>(List.mem_erase_of_ne (fun (z:y=x)=>nd.1 (z▸hy))).mpr (h y (mem_cons_of_mem _ hy))
  rw [List.length_erase_of_mem hx] at this
  have:0<ys.length:=List.length_pos_of_mem hx
  simp
  lia
theorem Wk.len {ls:List (List Nat)}{ts:List aa}{le:List Nat} (tc:∀t∈ts,bp ls t) (l10:ls.length≤10) {l:List Nat}{us:List aa} (h:Wk ts le l us) (nd:(l :: us.map (·.en)).Nodup):us.length≤9:=by
 cases h with
 | nil=>exact zero_le _
 | @cons t r ht ho k=>
  have:=pB (xs:=t.bg :: (t :: r).map (·.en)) (ys:=ls) nd fun x hx=>by
   rcases List.mem_cons.mp hx with rfl | y
   ·exact (tc t ht).b
   ·exact (Wk.cons ht ho k).sub tc x y
  simp only [length_cons,length_map] at this ⊢
  lia
theorem E7 {ls:List (List Nat)}{ts:List aa}{le:List Nat}{u:List Nat→Rat}{s:LP} (tc:∀t∈ts,bp ls t) (l10:ls.length≤10) (hu:jN ls ts u) (v:PV ts s.ω s) (h1:SV ts le s) (h2:Rc ts le 0 s):(b5 ts s (9+1)).lf=none:=by
 have S:=SV.st tc v h1 9
 have R:=Rc.st tc v h2 9
 have V:=PV.st tc v 9
 have no:∀t∈ts,fh (b5 ts s 9).ω t=none:=fun t ht=>by
  by_cases ho:t.most=(0,1)
  ·unfold fh;rw [if_pos ho]
  ·refine (zG (tc t ht) V.pos ho).mpr fun we e=>?_
   obtain ⟨us,k,eq⟩:=S _ _ e
   obtain ⟨us',k',q,nd⟩:=(Wk.cons ht ho k).simple tc hu
   obtain ⟨wb,e2,q2⟩:=R _ _ k' (k'.len tc l10 nd)
   exact ⟨wb,e2,by rw [eq,←i3];exact Rat.le_trans q q2⟩
 show (du ts (b5 ts s 9)).lf=none
 unfold du
 rw [BC no]
structure oX (ts:List aa) (s:LP) (tm:List Nat→Nat) (ct:Nat):Prop where
 on:∀l k,s.on l=some k→eF fun t w we=>ts[k]?=some t∧t.most≠(0,1)∧t.bg=l∧s.ω l=some w∧s.ω t.en=some we∧KM.vl w≤gR t*KM.vl we∧(tm l≤tm t.en→KM.vl w<gR t*KM.vl we)
 tmc:∀l,tm l≤ct
theorem oX.step {ls:List (List Nat)}{ts:List aa}{ω0:jR}{s:LP}{i ct:Nat}{t:aa}{tm:List Nat→Nat} (tc:∀t∈ts,bp ls t) (et:ts[i]?=some t) (v:PV ts ω0 s) (h:oX ts s tm ct):aT fun tm' ct'=>oX ts (fv i t s) tm' ct':=by
 have c:=tc t (mem_of_getElem? et)
 cases q:fh s.ω t with
 | none=>rw [gM q];exact ⟨tm,ct,h⟩
 | some w=>
  obtain ⟨m,we,ee,rfl,lt⟩:=qf c v.pos q
  obtain ⟨v1,v2,v3⟩:=kQ c (v.pos _ _ ee)
  rw [gu q]
  have eo:∀l,(iq i t (KM.lTim t.gain we) s).ω l=if l=t.bg then some (KM.lTim t.gain we) else s.ω l:=fun _=>rfl
  have en:∀l,(iq i t (KM.lTim t.gain we) s).on l=if l=t.bg then some i else s.on l:=fun _=>rfl
  generalize iq i t (KM.lTim t.gain we) s=s' at eo en ⊢
  refine ⟨fun l=>if l=t.bg then ct+1 else tm l,ct+1,fun l k e=>?_,fun l=>?_⟩
  ·rw [en] at e
   have ne:t.en≠t.bg:=fun z=>c.ne z.symm
   by_cases z:l=t.bg
   ·rw [if_pos z] at e
    cases e
    refine ⟨t,_,we,et,m,z.symm,by rw [eo,if_pos z],by rw [eo,if_neg ne];exact ee,by rw [v1];exact Rat.le_refl,fun y=>?_⟩
    rw [if_pos z,if_neg ne] at y
    have:=h.tmc t.en
    lia
   ·rw [if_neg z] at e
    obtain ⟨t',w',we',e1,e2,e3,e4,e5,e6,e7⟩:=h.on l k e
    have gp:=cW (tc t' (mem_of_getElem? e1)).g1 (tc t' (mem_of_getElem? e1)).g2
    by_cases y:t'.en=t.bg
    ·have st:KM.vl we'<gR t*KM.vl we:=lt we' (by rw [←y];exact e5)
     have q2:KM.vl w'<gR t'*KM.vl (KM.lTim t.gain we):=by
      rw [v1]
      exact tZ e6 (Rat.mul_lt_mul_of_pos_left st gp)
     exact ⟨t',w',_,e1,e2,e3,by rw [eo,if_neg z];exact e4,by rw [eo,if_pos y],Rat.le_of_lt q2,fun _=>q2⟩
    ·refine ⟨t',w',we',e1,e2,e3,by rw [eo,if_neg z];exact e4,by rw [eo,if_neg y];exact e5,e6,fun x=>e7 ?_⟩
     rw [if_neg z,if_neg y] at x
     exact x
  ·show (if l=t.bg then ct+1 else tm l)≤ct+1
   by_cases z:l=t.bg
   ·rw [if_pos z];exact le_refl _
   ·rw [if_neg z];exact Nat.le_succ_of_le (h.tmc l)
theorem oX.upP {ls:List (List Nat)}{ts:List aa}{ω0:jR}{s:LP} (tc:∀t∈ts,bp ls t) (v:PV ts ω0 s) (h:aT fun tm ct=>oX ts s tm ct):∀i,aT fun tm ct=>oX ts (L2.upP ts s i) tm ct
 | 0=>let ⟨tm,ct,k⟩:=h;⟨tm,ct,k.on,k.tmc⟩
 | i+1=>by
  rw [L2.upP]
  cases e:ts[i]? with
  | none=>exact oX.upP tc v h i
  | some t=>
   obtain ⟨tm,ct,k⟩:=oX.upP tc v h i
   exact k.step tc e (v.upP tc i)
theorem oX.st {ls:List (List Nat)}{ts:List aa}{s:LP} (tc:∀t∈ts,bp ls t) (v:PV ts s.ω s) (h:aT fun tm ct=>oX ts s tm ct):∀k,aT fun tm ct=>oX ts (b5 ts s k) tm ct
 | 0=>h
 | k+1=>oX.upP tc (PV.st tc v k) (oX.st tc v h k) _
theorem Ix {ts:List aa}{s:LP}{m:Nat} (e:(b5 ts s (m+1)).lf=none):∀j,(b5 ts s (m+j)).ω=(b5 ts s m).ω∧(b5 ts s (m+j)).on=(b5 ts s m).on:=by
 have e1:b5 ts s (m+1)={ b5 ts s m with lf:=none }:=(rf (s:=b5 ts s m) e).1
 have all:∀j,b5 ts s (m+1+j)={ b5 ts s m with lf:=none }:=by
  intro j
  induction j with
  | zero=>exact e1
  | succ j ih=>
   show du ts (b5 ts s (m+1+j))=_
   rw [ih]
   have e2:du ts { b5 ts s m with lf:=none }=du ts (b5 ts s m):=by
    unfold du
    have:∀i,upP ts { b5 ts s m with lf:=none } i=upP ts (b5 ts s m) i:=by
     intro i
     induction i with
     | zero=>rfl
     | succ i ih=>
      rw [upP,upP]
      cases ts[i]? with
      | none=>exact ih
      | some t=>
       show fv i t _=fv i t _
       rw [ih]
    exact this _
   rw [e2]
   exact e1
 intro j
 cases j with
 | zero=>exact ⟨rfl,rfl⟩
 | succ j=>
  rw [show m+(j+1)=m+1+j by lia,all j]
  exact ⟨rfl,rfl⟩
end L2
namespace L2
open PySem PySem.Spec PyProof.Rows
section
variable {X:Cx}
inductive IS (K:Frag) (xs:List V) (H:Hp) (Q:VK):Prop
 | mk (a:Addr) (i j:Int) (h0:xs=[.ref a]) (h1:af K H a [.int i,.int j]) (h2:Q (.int (if j > i then j else i)) H)
def Fu (K:Frag):List V→Hp→VK→Prop:=fun xs H Q=>IS K xs H Q
theorem CT (hc:X.calm=true):cy X (.builtin "max") (Fu X.K):=by
 intro pins s σ H xs us Q I r h
 obtain ⟨a,i,j,rfl,ha,q⟩:=h
 obtain ⟨u,rfl,ru⟩:=pj r
 cases ru
 obtain ⟨its,rv,hl,_⟩:=I.tuple ha
 obtain ⟨ps,e1,e2⟩:=Bd (ks:=[i,j]) rv
 obtain ⟨⟨x,t1⟩,⟨y,t2⟩,rfl⟩:aT fun p p'=>ps=[p,p']:=by
  match ps,e2 with
  | [p,p'],_=>exact ⟨p,p',rfl⟩
 have exi:i=x∧j=y:=by simpa using e2
 obtain ⟨rfl,rfl⟩:=exi
 have hi:s.heap.IsTuple a (intItems #[(i,t1),(j,t2)]):=by
  have h2:IsTup s.heap a (intItems #[(i,t1),(j,t2)]):=by rw [e1] at hl;simpa [intItems] using hl
  obtain ⟨o,a1,a2,n,a3⟩:=h2
  exact ⟨o,a1,a2,n,a3⟩
 have hlt:a < #[s]:=by obtain ⟨_,e,_⟩:=hi;exact Heap.lt_size e
 refine call_max_walk (wpAny_pyIter_tuple hi ⟨_,_,_,_,_,_,(),Walks.tuple (A:=X.A.in1) (I.ok.hd hc) #[s] a (ne_of_lt hlt) (intItems #[(i,t1),(j,t2)]),⟨⟨_,Heap.get?_push_size _ rfl,rfl,rfl⟩,hi.at fun o e=>Heap.get?_push_of_some _ e⟩,fun b hb=>?_,by simp [intItems],CmpOf.ints_gt (numAt #[(i,t1),(j,t2)]) (fun _ _=>intItems_at),fun v h' tk hP hk=>?_⟩)
 ·rw [Heap.size_push]
  have:b=#[s]∨b=a:=by simpa using hb
  rcases this with rfl | rfl
  ·exact lt_succ_self _
  ·exact lt_succ_of_lt hlt
 ·have old:∀b o,s.heap.get? b=some o→h'.get? b=some o:=fun b o e=>hk b o (fun hm=>by
   have:b=#[s]:=by simpa using hm
   exact absurd (Heap.lt_size e) (by rw [this];exact lt_irrefl _)) (Heap.get?_push_of_some _ e)
  have I':=I.kept (t':=tk) old
  have e0:argBest (fun i_1 j_1=>decide (numAt #[(i,t1),(j,t2)] i_1 > numAt #[(i,t1),(j,t2)] j_1)) ((intItems #[(i,t1),(j,t2)]).size - 1)=if j > i then 1 else 0:=by
   have sz:(intItems #[(i,t1),(j,t2)]).size - 1=1:=by simp [intItems]
   rw [sz]
   simp [argBest,numAt]
  rw [e0] at hP
  by_cases c:j > i
  ·rw [if_pos c] at hP q
   have:v=.int j t2:=by simpa [intItems] using hP.symm
   subst this
   exact ⟨.int j,H,I',⟨()⟩,q⟩
  ·rw [if_neg c] at hP q
   have:v=.int i t1:=by simpa [intItems] using hP.symm
   subst this
   exact ⟨.int i,H,I',⟨()⟩,q⟩
theorem HV {K:Frag} (hc:X.calm=true) (e:X.K=K:=by rfl):cy X (.builtin "max") (Fu K):=by subst e;exact CT hc
inductive Gh (x:V) (y:V) (H:Hp) (Q:VK):Prop
 | mk (a:_) (b:_) (xs:_) (ys:_) (h0:x=.ref a) (h1:y=.ref b) (h2:H a=some (.tup xs)) (h3:H b=some (.tup ys)) (h4:xs.length+ys.length≤10000) (h5:∀p H',ag H H'→H' p=some (.tup (xs++ys))→Q (.ref p) H')
def HM:R2:=fun x y H Q=>Gh  x y H Q
theorem lq:cn X (binaryOp .Add) HM:=by
 intro pins s σ H x y v u Q I rx ry h
 obtain ⟨a,b,xs,ys,rfl,rfl,ha,hb,hz,q⟩:=h
 by_cases hx:xs=[]
 ·subst hx
  cases rx
  cases ry
  obtain ⟨its,r1,p1,_⟩:=I.tuple (af.of (K:=X.K) ha)
  obtain ⟨its2,r2,p2,_⟩:=I.tuple (af.of (K:=X.K) hb)
  cases r1
  obtain ⟨⟨cls,dd,data,sl⟩,ho,hc,n,hd⟩:=id p1
  obtain ⟨⟨cls2,dd2,data2,sl2⟩,ho2,hc2,n2,hd2⟩:=id p2
  simp only at hc hd hc2 hd2
  subst hc hd hc2 hd2
  exact concat_meets ⟨_,ho,rfl⟩ ⟨_,ho2,rfl⟩ noFill_tuple_add seq_tuple_add PySem.F.slot_tuple_add PySem.F.entry_tuple_add (PySem.F.args_tuple_add_2 _ _)
   (tuple_addW0 a b _ _ n n2 dd dd2 sl sl2 (by simp)) ⟨ho,ho2,⟨.ref b,H,I,rfl,q b H (ag.refl _) hb⟩⟩
 ·exact Ec (K:=X.K) rfl pins s σ H _ _ v u Q I rx ry ⟨a,b,xs,ys,rfl,rfl,af.of ha,ha,af.of hb,hx,hz,q⟩
end
theorem zH {ls:List (List Nat)}{ts:List aa}{u:List Nat→Rat} (tc:∀t∈ts,bp ls t) (hu:jN ls ts u) {c l:List Nat}{us:List aa} (h:Wk ts c l us):aR us*u c≤u l:=by
 induction h with
 | nil=>show (1:Rat)*_≤_;rw [Rat.one_mul];exact Rat.le_refl
 | @cons t r ht ho k ih=>
  rw [i3,Rat.mul_assoc]
  exact Rat.le_trans (KM.mul_le_l ih (Rat.le_of_lt (cW (tc t ht).g1 (tc t ht).g2))) (hu.le t ht ho)
theorem zv {ls:List (List Nat)}{ts:List aa}{u:List Nat→Rat} (tc:∀t∈ts,bp ls t) (hu:jN ls ts u) {R:List Nat}{us:List aa} (h:cX ts R us):False:=by
 have mem:∀t∈us,t∈ts:=fun t ht=>by
  have m:some t∈R.map (fun k=>ts[k]?):=by rw [h.at'];exact mem_map_of_mem ht
  obtain ⟨k,_,hk⟩:=List.mem_map.mp m
  exact mem_of_getElem? hk
 cases us with
 | nil=>
  have:=h.gain
  exact absurd this (by show ¬(1:Rat)<1;exact Rat.lt_irrefl)
 | cons t r=>
  have e:(t :: r).map (·.bg)++[t.bg]=t.bg :: (t :: r).map (·.en):=by
   rw [h.rot];simp
  have q:=xV (ls:=ls) (u:=u) hu.pos e fun x hx=>⟨tc x (mem x hx),hu.le x (mem x hx) (h.op x hx)⟩
  have up:=hu.pos t.bg (tc t (mem t (by simp))).b
  have g:=h.gain
  have:=Rat.mul_lt_mul_of_pos_right g up
  rw [Rat.one_mul] at this
  exact absurd this (Rat.not_lt.mpr q)
theorem Wk.mono {ts ts':List aa} (h:∀t∈ts',t.most≠(0,1)→t∈ts) {c l:List Nat}{us:List aa} (k:Wk ts' c l us):Wk ts c l us:=by
 induction k with
 | nil=>exact .nil
 | cons ht ho _ ih=>exact .cons (h _ ht ho) ho ih
theorem jN.mono {ls:List (List Nat)}{ts ts':List aa}{u:List Nat→Rat} (hu:jN ls ts u) (h:∀t∈ts',t.most≠(0,1)→t∈ts):jN ls ts' u:=⟨hu.pos,fun t ht ho=>hu.le t (h t ht ho) ho⟩
def SA (ts:List aa) (s:LP):Prop:=∀l w,s.ω l=some w→aT fun c us=>Wk ts c l us∧KM.vl w=aR us
theorem SA.step {ls:List (List Nat)}{ts:List aa}{ω0:jR}{s:LP}{i:Nat}{t:aa} (tc:∀t∈ts,bp ls t) (et:ts[i]?=some t) (v:PV ts ω0 s) (h:SA ts s):SA ts (fv i t s):=by
 have c:=tc t (mem_of_getElem? et)
 cases q:fh s.ω t with
 | none=>rw [gM q];exact h
 | some w=>
  obtain ⟨m,we,ee,rfl,lt⟩:=qf c v.pos q
  obtain ⟨v1,v2,v3⟩:=kQ c (v.pos _ _ ee)
  rw [gu q]
  intro l w' e
  have e:(if l=t.bg then some (KM.lTim t.gain we) else s.ω l)=some w':=e
  by_cases z:l=t.bg
  ·rw [if_pos z] at e
   cases e
   obtain ⟨c,us,k,e1⟩:=h _ _ ee
   rw [z]
   exact ⟨c,t :: us,.cons (mem_of_getElem? et) m k,by rw [v1,e1];rfl⟩
  ·rw [if_neg z] at e;exact h l w' e
theorem SA.upP {ls:List (List Nat)}{ts:List aa}{ω0:jR}{s:LP} (tc:∀t∈ts,bp ls t) (v:PV ts ω0 s) (h:SA ts s):∀i,SA ts (L2.upP ts s i)
 | 0=>h
 | i+1=>by
  rw [L2.upP]
  cases e:ts[i]? with
  | none=>exact SA.upP tc v h i
  | some t=>exact (SA.upP tc v h i).step tc e (v.upP tc i)
theorem SA.st {ls:List (List Nat)}{ts:List aa}{s:LP} (tc:∀t∈ts,bp ls t) (v:PV ts s.ω s) (h:SA ts s):∀k,SA ts (b5 ts s k)
 | 0=>h
 | k+1=>(SA.st tc v h k).upP tc (PV.st tc v k) _
theorem Lr:KM.vl (1,1)=1:=by nofun
theorem Dn (ts:List aa):PV ts (i5 xS).ω (i5 xS):=⟨fun l w e=>by
 cases e
 exact ⟨by show (1:Int)≤1;decide,by show (1:Int)≤1;decide,by show Int.gcd 1 1=1;decide⟩,fun _ _=>rfl,(fun l k e=>by cases e),fun l w e=>⟨w,e,Rat.le_refl⟩⟩
theorem nq {ls:List (List Nat)}{ts:List aa} (tc:∀t∈ts,bp ls t) (k:Nat) (l:List Nat):1≤uW (aW ts k) l∧KM.Rd ((aW ts k).ω l)∧aT fun c us=>Wk ts c l us∧uW (aW ts k) l=aR us:=by
 have v:=PV.st tc (Dn ts) k
 have s:=SA.st tc (Dn ts) (fun l w e=>by cases e;exact ⟨l,[],.nil,Lr⟩) k
 rw [wY] at v s
 obtain ⟨w',e,q⟩:=v.up l (1,1) rfl
 have e:some ((aW ts k).ω l)=some w':=e
 cases e
 refine ⟨by rw [←Lr];exact q,(v.pos l _ rfl).2,s l _ rfl⟩
theorem KI {ls:List (List Nat)}{ts:List aa}{m:Nat} (tc:∀t∈ts,bp ls t) (hu:jN ls ts (uW (aW ts m))) {c l:List Nat}{us:List aa} (k:Wk ts c l us):aR us≤uW (aW ts m) l:=by
 have q:=zH tc hu k
 have m1:=KM.mul_le_l (nq tc m c).1 (Rat.le_of_lt (k.gp tc))
 rw [Rat.mul_one] at m1
 exact Rat.le_trans m1 q
theorem Ap {ls:List (List Nat)}{ts ts':List aa}{m m':Nat} (tc:∀t∈ts,bp ls t) (tc':∀t∈ts',bp ls t) (hu:jN ls ts (uW (aW ts m))) (h:∀t∈ts',t.most≠(0,1)→t∈ts) (l:List Nat):uW (aW ts' m') l≤uW (aW ts m) l:=by
 obtain ⟨_,_,c,us,k,e⟩:=nq tc' m' l
 rw [e]
 exact KI tc hu (k.mono h)
def cJ (κ:List Nat→KM.Fra) (t:aa):aa:={ t with gain:=KM.lTim t.gain (cu (κ t.bg) (κ t.en)) }
structure x9 (κ:List Nat→KM.Fra):Prop where
 p:∀l,1≤(κ l).1∧1≤(κ l).2
theorem Au {a b:KM.Fra} (ha:1≤a.1∧1≤a.2) (hb:1≤b.1∧1≤b.2):KM.vl (cu a b)*KM.vl b=KM.vl a∧1≤(cu a b).1∧1≤(cu a b).2:=by
 have ne:a.2*b.1≠0:=Int.ne_of_gt (mul_pos (by lia) (by lia))
 obtain ⟨l1,l2,l3⟩:=KM.low_spec (a.1*b.2) (a.2*b.1) ne
 have hp:0<a.1*b.2:=mul_pos (by lia) (by lia)
 have hq:0<a.2*b.1:=mul_pos (by lia) (by lia)
 have p1:1≤(KM.low (a.1*b.2) (a.2*b.1)).1:=by
  refine Int.not_lt.mp fun z=>?_
  have z:(KM.low (a.1*b.2) (a.2*b.1)).1≤0:=by lia
  have:=Int.mul_nonpos_of_nonpos_of_nonneg z (Int.le_of_lt hq)
  have:=mul_pos hp (show 0<(KM.low (a.1*b.2) (a.2*b.1)).2 by lia)
  lia
 refine ⟨?_,p1,l1⟩
 show KM.vl (KM.low (a.1*b.2) (a.2*b.1))*KM.vl b=KM.vl a
 have e1:KM.vl (KM.low (a.1*b.2) (a.2*b.1))=Rat.divInt (a.1*b.2) (a.2*b.1):=by
  unfold KM.vl
  rw [Rat.divInt_eq_divInt_iff (by lia) ne]
  exact l2
 rw [e1]
 unfold KM.vl
 rw [Rat.divInt_mul_divInt]
 rw [Rat.divInt_eq_divInt_iff (mul_ne_zero ne (by lia)) (by lia)]
 grind
theorem x9.pos {κ:List Nat→KM.Fra} (h:x9 κ) (l:List Nat):0<KM.vl (κ l):=cW (h.p l).1 (h.p l).2
theorem BZ {ls:List (List Nat)}{κ:List Nat→KM.Fra}{t:aa} (h:x9 κ) (c:bp ls t):gR (cJ κ t)*KM.vl (κ t.en)=gR t*KM.vl (κ t.bg):=by
 obtain ⟨e1,e2,e3⟩:=Au (h.p t.bg) (h.p t.en)
 have c2:=c.g2
 show KM.vl (KM.lTim t.gain (cu (κ t.bg) (κ t.en)))*_=_
 rw [KM.vl_tim (by lia) (by lia),Rat.mul_assoc,e1]
theorem KB {ls:List (List Nat)}{κ:List Nat→KM.Fra}{t:aa} (h:x9 κ) (c:bp ls t):bp ls (cJ κ t):=by
 obtain ⟨e1,e2,e3⟩:=Au (h.p t.bg) (h.p t.en)
 have c2:=c.g2
 exact ⟨c.b,c.e,c.ne,qA c.g1 c.g2 e2 e3,(KM.low_spec _ _ (Int.ne_of_gt (mul_pos (by lia) (by lia)))).1⟩
theorem Iu {ls:List (List Nat)}{ts:List aa}{κ:List Nat→KM.Fra}{u:List Nat→Rat} (h:x9 κ) (tc:∀t∈ts,bp ls t) (hu:jN ls ts u):jN ls (ts.map (cJ κ)) (fun l=>u l*KM.vl (κ l)):=by
 refine ⟨fun l hl=>Rat.mul_pos (hu.pos l hl) (h.pos l),fun t' ht' ho=>?_⟩
 obtain ⟨t,ht,rfl⟩:=List.mem_map.mp ht'
 have q:=BZ h (tc t ht)
 have le:=Rat.mul_le_mul_of_nonneg_right (hu.le t ht ho) (Rat.le_of_lt (h.pos t.bg))
 have e:gR (cJ κ t)*(u t.en*KM.vl (κ t.en))=gR t*u t.en*KM.vl (κ t.bg):=by grind
 show gR (cJ κ t)*(u t.en*KM.vl (κ t.en))≤u t.bg*KM.vl (κ t.bg)
 rw [e];exact le
theorem FX {ls:List (List Nat)}{ts:List aa}{κ:List Nat→KM.Fra}{u:List Nat→Rat} (h:x9 κ) (tc:∀t∈ts,bp ls t) (hu:jN ls (ts.map (cJ κ)) u):jN ls ts (fun l=>u l*KM.vl ((κ l).2,(κ l).1)):=by
 have inv:∀l,KM.vl ((κ l).2,(κ l).1)*KM.vl (κ l)=1:=fun l=>by
  have a:=(h.p l).1
  have b:=(h.p l).2
  unfold KM.vl
  rw [Rat.divInt_mul_divInt,show (1:Rat)=Rat.divInt 1 1 by nofun,Rat.divInt_eq_divInt_iff (mul_ne_zero (by show (κ l).1≠0;lia) (by lia)) (by ext)]
  show (κ l).2*(κ l).1*1=1*((κ l).1*(κ l).2)
  grind
 have ip:∀l,0<KM.vl ((κ l).2,(κ l).1):=fun l=>cW (h.p l).2 (h.p l).1
 refine ⟨fun l hl=>Rat.mul_pos (hu.pos l hl) (ip l),fun t ht ho=>?_⟩
 have le:=hu.le (cJ κ t) (mem_map_of_mem ht) ho
 have le:gR (cJ κ t)*u t.en≤u t.bg:=le
 have q:=BZ h (tc t ht)
 have i1:=inv t.en
 have i2:=inv t.bg
 have m:=Rat.mul_le_mul_of_nonneg_right le (Rat.le_of_lt (ip t.bg))
 have e:gR t*(u t.en*KM.vl ((κ t.en).2,(κ t.en).1))=gR (cJ κ t)*u t.en*KM.vl ((κ t.bg).2,(κ t.bg).1):=by
  generalize KM.vl ((κ t.en).2,(κ t.en).1)=a at *
  generalize KM.vl ((κ t.bg).2,(κ t.bg).1)=b at *
  have x1:gR t*a=gR (cJ κ t)*b:=by
   have:gR (cJ κ t)*KM.vl (κ t.en)*a*b=gR t*KM.vl (κ t.bg)*a*b:=by rw [q]
   grind
  grind
 rw [e];exact m
theorem FK {ls:List (List Nat)}{ts:List aa}{κ:List Nat→KM.Fra} (h:x9 κ) (tc:∀t∈ts,bp ls t) {c l:List Nat}{us:List aa} (k:Wk ts c l us):Wk (ts.map (cJ κ)) c l (us.map (cJ κ))∧aR (us.map (cJ κ))*KM.vl (κ c)=aR us*KM.vl (κ l):=by
 induction k with
 | nil=>exact ⟨.nil,rfl⟩
 | @cons t r ht ho k ih=>
  refine ⟨.cons (t:=cJ κ t) (mem_map_of_mem ht) ho ih.1,?_⟩
  rw [map_cons,i3,i3,Rat.mul_assoc,ih.2]
  have q:=BZ h (tc t ht)
  grind
theorem Jz {ts:List aa}{κ:List Nat→KM.Fra}{c l:List Nat}{us:List aa} (k:Wk (ts.map (cJ κ)) c l us):∃us0,us=us0.map (cJ κ)∧Wk ts c l us0:=by
 induction k with
 | nil=>exact ⟨[],rfl,.nil⟩
 | @cons t r ht ho k ih=>
  obtain ⟨us0,rfl,k0⟩:=ih
  obtain ⟨t0,h0,rfl⟩:=List.mem_map.mp ht
  exact ⟨t0 :: us0,rfl,.cons (t:=t0) h0 ho k0⟩
end L2
set_option maxHeartbeats 4000000
open L2
local macro_rules | `(#[$n:num,$i:ident])=>`(@pw _ $n _ _ (Or.inl $i) (by rfl) (by ext) (by ext)) | `(#[$n:num,($i:ident)])=>`(@pw _ $n _ _ (Or.inr (Or.inl $i)) (by rfl) (by ext) (by ext))
local macro_rules | `(#[$n:num,()])=>`(@pw _ $n _ _ (Or.inl (by kernel_rfl)) (by rfl) (by ext) (by ext)) | `(#[$n:num,0])=>`(@pw _ $n _ _ (Or.inr (Or.inl (by kernel_rfl))) (by rfl) (by ext) (by ext)) | `(#[$n:num,1])=>`(@pw _ $n _ _ (Or.inr (Or.inr (by kernel_rfl))) (by rfl) (by ext) (by ext))
local macro_rules | `(#[()])=>`(@bJ _ _ _ _) | `(#[(),()])=>`(@um _ _ (by ext) (by ext))
local macro_rules | `(#[[$a]])=>`(@EQ _ _ _ _ _ $a (@cC _) rfl) | `(#[[$a,$b,*]])=>`(@EQ _ _ _ _ _ $a #[[$b,*]] rfl)
local macro_rules | `(#[$a[$b]])=>`(@bP _ _ _ _ _ _ _ (@KL _ ($(Lean.mkIdent `K)) (by rfl)) $a $b (fun _ _=>rfl)) | `(#[$a[$b]!])=>`(@bP _ _ _ _ _ _ _ (@Ky _ ($(Lean.mkIdent `K)) (by rfl)) $a $b (fun _ _=>rfl))
local macro_rules | `(#[$g:ident,$k:ident,$t:term,$a:term])=>`(@dU _ _ _ _ _ _ _ _ _ _ _ _ _ _ _ _ $g ($(Lean.mkIdent `hr).mono (by ext)) $k ($t).m ($t).F.kp ($t).B .nil (@FC _) $a (by ext) (by rfl) (by rfl))
local macro_rules | `(#[$g:ident,(),$t:term,$a:term])=>`(@dU _ _ _ _ _ _ _ _ _ _ _ _ _ _ _ _ $g ($(Lean.mkIdent `hr).mono (by ext)) (by show _=_;kernel_rfl) ($t).m ($t).F.kp ($t).B .nil (@FC _) $a (by ext) (by rfl) (by rfl))
local macro_rules | `(#[$n:num,$s:term,$i:ident,$v:term])=>`(@jo _ _ ($n) _ _ _ _ $s rfl (Or.inl $i) $v (by rfl) (by first | exact .inl rfl | exact .inr rfl | assumption))
local macro_rules | `(#[$n:num,$s:term,$i:ident])=>`(@gW _ _ ($n) _ $s rfl (Or.inl $i) (by first | exact .inl rfl | exact .inr rfl | assumption)) | `(#[$n:num,(),()])=>`(@gW _ _ ($n) _ (@DG _ (by kernel_rfl)) rfl (Or.inl (by kernel_rfl)) (by first | exact .inl rfl | exact .inr rfl | assumption))
local macro_rules | `(#[(),(),$a,$b,$c,$d,$e])=>`(@lc _ _ _ _ _ _ _ _ _ $a $b $c $d $e (by ext) (by ext) (by rfl) (by rfl))
local macro_rules | `(#[$a :: $b])=>`(@fC _ _ _ _ _ $a $b)
local macro_rules | `(#[$f:ident $n:num $a*])=>do
 let us ←(Array.range n.getNat).mapM fun _=>`(_)
 `(@$f $us* $a*)
local macro_rules | `(#[($f:ident)])=>`($f ($(Lean.mkIdent `P):ident:=$(Lean.mkIdent `P)) ($(Lean.mkIdent `w):ident:=$(Lean.mkIdent `w)) ($(Lean.mkIdent `base):ident:=$(Lean.mkIdent `base)) $(Lean.mkIdent `T))
namespace K15
open PySem L2
theorem Al:aw ["thing"] ["thing"] (ak fH):=⟨rfl,rfl,rfl,by nofun,rfl,by nofun,by nofun⟩
theorem mH:aw ["n", "d"] ["n", "d"] (ak jw):=⟨rfl,rfl,rfl,by nofun,rfl,by nofun,by nofun⟩
theorem kZ:aw ["thing", "n", "d"] ["thing"] (ak bN):=⟨rfl,rfl,rfl,by nofun,rfl,by nofun,by nofun⟩
theorem tI:aw ["thing"] ["thing"] (ak dN):=⟨rfl,rfl,rfl,by nofun,rfl,by nofun,by nofun⟩
theorem pG:aw ["n", "d", "divisor"] ["n", "d"] (ak gC):=⟨rfl,rfl,rfl,by nofun,rfl,by nofun,by nofun⟩
theorem En:aw ["one", "other"] ["one", "other"] (ak nz):=⟨rfl,rfl,rfl,by nofun,rfl,by nofun,by nofun⟩
theorem GA:aw ["one", "other"] ["one", "other"] (ak pX):=⟨rfl,rfl,rfl,by nofun,rfl,by nofun,by nofun⟩
theorem pR:aw ["one", "other", "left", "right"] ["one", "other"] (ak gO):=⟨rfl,rfl,rfl,by nofun,rfl,by nofun,by nofun⟩
theorem qW:aw ["parts", "best", "part"] ["parts"] (ak kP):=⟨rfl,rfl,rfl,by nofun,rfl,by nofun,by nofun⟩
theorem B0:aw ["tie"] ["tie"] (ak oV):=⟨rfl,rfl,rfl,by nofun,rfl,by nofun,by nofun⟩
theorem bT:aw ["net", "worths", "onward", "lifted", "number", "tie", "begin", "end", "most", "gain", "price", "worth"] ["net", "worths", "onward"] (ak bc):=⟨rfl,rfl,rfl,by nofun,rfl,by nofun,by nofun⟩
theorem i0:aw ["net", "onward", "place", "places", "ties"] ["net", "onward", "place"] (ak cI):=⟨rfl,rfl,rfl,by nofun,rfl,by nofun,by nofun⟩
theorem cQ:aw ["net", "worths", "onward", "lifted", "turn"] ["net"] (ak bz):=⟨rfl,rfl,rfl,by nofun,rfl,by nofun,by nofun⟩
theorem pH:aw ["net", "worths", "gaining", "onward"] ["net", "worths"] (ak c8):=⟨rfl,rfl,rfl,by nofun,rfl,by nofun,by nofun⟩
theorem mC:aw ["net", "worths"] ["net"] (ak cU):=⟨rfl,rfl,rfl,by nofun,rfl,by nofun,by nofun⟩
theorem Ea:aw ["tie", "worths"] ["tie", "worths"] (ak jG):=⟨rfl,rfl,rfl,by nofun,rfl,by nofun,by nofun⟩
theorem ou:aw ["net", "thing", "worths"] ["net", "thing"] (ak bw):=⟨rfl,rfl,rfl,by nofun,rfl,by nofun,by nofun⟩
theorem oH:aw ["net", "begin", "end", "worths"] ["net", "begin", "end"] (ak b6):=⟨rfl,rfl,rfl,by nofun,rfl,by nofun,by nofun⟩
theorem gY:aw ["net", "begin", "end", "worths", "onward", "way", "place"] ["net", "begin", "end"] (ak cz):=⟨rfl,rfl,rfl,by nofun,rfl,by nofun,by nofun⟩
theorem AD:aw ["net", "thing"] ["net", "thing"] (ak dO):=⟨rfl,rfl,rfl,by nofun,rfl,by nofun,by nofun⟩
theorem Dp:aw ["net", "thing"] ["net", "thing"] (ak iM):=⟨rfl,rfl,rfl,by nofun,rfl,by nofun,by nofun⟩
theorem vn:aw ["net", "thing", "begins"] ["net", "thing"] (ak dS):=⟨rfl,rfl,rfl,by nofun,rfl,by nofun,by nofun⟩
theorem mT:aw ["net", "way", "gain", "number"] ["net", "way"] (ak gk):=⟨rfl,rfl,rfl,by nofun,rfl,by nofun,by nofun⟩
theorem mX:aw ["net", "way", "much", "goes", "number"] ["net", "way", "much"] (ak fk):=⟨rfl,rfl,rfl,by nofun,rfl,by nofun,by nofun⟩
theorem xp:aw ["net", "way", "shares"] ["net", "way"] (ak fz):=⟨rfl,rfl,rfl,by nofun,rfl,by nofun,by nofun⟩
theorem vJ:aw ["_law_script", "_law_k", "_law_cell"] ["_law_script", "_law_k"] (ak xN):=⟨rfl,rfl,rfl,by nofun,rfl,by nofun,by nofun⟩
theorem ut:aw ["_law_box_here", "_law_many", "_law_found", "_law_once"] ["_law_box_here", "_law_many"] (ak vU):=⟨rfl,rfl,rfl,by nofun,rfl,by nofun,by nofun⟩
theorem lE:aw ["_law_script", "_law_many", "_law_cells", "_law_k", "_law_cell"] ["_law_script", "_law_many"] (ak qX):=⟨rfl,rfl,rfl,by nofun,rfl,by nofun,by nofun⟩
theorem pq:aw ["_law_n", "_law_d", "_law_one", "_law_other"] ["_law_n", "_law_d"] (ak iw):=⟨rfl,rfl,rfl,by nofun,rfl,by nofun,by nofun⟩
theorem zq:aw ["_law_one", "_law_other"] ["_law_one", "_law_other"] (ak gU):=⟨rfl,rfl,rfl,by nofun,rfl,by nofun,by nofun⟩
theorem DZ:aw ["_law_one", "_law_other"] ["_law_one", "_law_other"] (ak k4):=⟨rfl,rfl,rfl,by nofun,rfl,by nofun,by nofun⟩
theorem Cj:aw ["_law_one", "_law_other"] ["_law_one", "_law_other"] (ak lI):=⟨rfl,rfl,rfl,by nofun,rfl,by nofun,by nofun⟩
theorem dD:aw ["_law_box_here", "_law_many", "_law_letters", "_law_first", "_law_rest", "_law_behind", "_law_sign", "_law_other"] ["_law_box_here", "_law_many"] (ak bA):=⟨rfl,rfl,rfl,by nofun,rfl,by nofun,by nofun⟩
theorem mr:aw ["_law_box_here", "_law_way", "_law_top"] ["_law_box_here"] (ak db):=⟨rfl,rfl,rfl,by nofun,rfl,by nofun,by nofun⟩
theorem sq:aw ["_law_box_here", "_law_way"] ["_law_box_here"] (ak d9):=⟨rfl,rfl,rfl,by nofun,rfl,by nofun,by nofun⟩
theorem pU:aw ["_law_box_here", "_law_way"] ["_law_box_here"] (ak dF):=⟨rfl,rfl,rfl,by nofun,rfl,by nofun,by nofun⟩
theorem dn:aw ["_law_box_here", "_law_places", "_law_many", "_law_first", "_law_a", "_law_b", "_law_more", "_law_gains", "_law_spots"] ["_law_box_here", "_law_places"] (ak bo):=⟨rfl,rfl,rfl,by nofun,rfl,by nofun,by nofun⟩
theorem bn:aw ["_law_box_here", "_law_most_places", "_law_most_ties", "_law_way", "_law_great", "_law_places", "_law_many", "_law_some", "_law_worths", "_law_ends", "_law_turn", "_law_at", "_law_begin", "_law_end", "_law_gain", "_law_less", "_law_ties", "_law_top"] ["_law_box_here", "_law_most_places", "_law_most_ties"] (ak aB):=⟨rfl,rfl,rfl,by nofun,rfl,by nofun,by nofun⟩
theorem bV:aw ["_law_which", "_law_net", "_law_begin", "_law_end", "_law_found", "_law_caught", "error", "_law_others"] ["_law_which", "_law_net", "_law_begin", "_law_end"] (ak av):=⟨rfl,rfl,rfl,by nofun,rfl,by nofun,by nofun⟩
theorem df:aw ["_law_net", "_law_first", "_law_second", "_law_which", "_law_word", "_law_ties"] ["_law_net"] (ak aN):=⟨rfl,rfl,rfl,by nofun,rfl,by nofun,by nofun⟩
theorem cS:aw ["_law_net", "_law_worths", "_law_known", "_law_begin", "_law_end", "_law_gain", "_law_way"] ["_law_net", "_law_worths"] (ak aF):=⟨rfl,rfl,rfl,by nofun,rfl,by nofun,by nofun⟩
theorem dZ:aw ["_law_box_here", "_law_net", "_law_worths", "_law_at", "_law_tie", "_law_shut", "_law_other"] ["_law_box_here", "_law_net", "_law_worths"] (ak aM):=⟨rfl,rfl,rfl,by nofun,rfl,by nofun,by nofun⟩
theorem bW:aw ["_law_box_here", "_law_net", "_law_some", "_law_known", "_law_ties", "_law_begin", "_law_end", "_law_top", "_law_gain", "_law_price"] ["_law_box_here", "_law_net"] (ak aY):=⟨rfl,rfl,rfl,by nofun,rfl,by nofun,by nofun⟩
theorem iV:aw ["_law_box_here", "_law_net", "_law_other", "_law_known", "_law_begin", "_law_end", "_law_gain", "_law_more", "_law_worths"] ["_law_box_here", "_law_net"] (ak bq):=⟨rfl,rfl,rfl,by nofun,rfl,by nofun,by nofun⟩
theorem ug:aw ["_law_script", "_law_cells", "_law_k", "_law_box_here", "_law_turn"] ["_law_script"] (ak fQ):=⟨rfl,rfl,rfl,by nofun,rfl,by nofun,by nofun⟩
theorem ww:aw ["self", "ties"] ["self", "ties"] (ak b7):=⟨rfl,rfl,rfl,by nofun,rfl,by nofun,by nofun⟩
end K15
namespace K15
open PySem L2
set_option genInjectivity false in
set_option genSizeOf false in
structure Df (K:Frag) (mg:Str→Option Value) (x:Str) (st:Stmt) (ps:List Str) where
 f:Addr
 d:FuncData
 m:mg x=some (.ref f)
 F:oD K x x st f d
 B:gF K d ps []
set_option genInjectivity false in
set_option genSizeOf false in
structure Txt (K:Frag) (mg:Str→Option Value) where
 b_ValueError:mg "ValueError" = none
 b_abs:mg "abs" = none
 b_all:mg "all" = none
 b_any:mg "any" = none
 b_bool:mg "bool" = none
 b_dict:mg "dict" = none
 b_divmod:mg "divmod" = none
 b_enumerate:mg "enumerate" = none
 b_int:mg "int" = none
 b_isinstance:mg "isinstance" = none
 b_len:mg "len" = none
 b_list:mg "list" = none
 b_max:mg "max" = none
 b_range:mg "range" = none
 b_set:mg "set" = none
 b_tuple:mg "tuple" = none
 b_zip:mg "zip" = none
 is_number_:Df K mg "is_number" fH ["thing"]
 common_divisor_:Df K mg "common_divisor" jw ["n", "d"]
 is_fraction_:Df K mg "is_fraction" bN ["thing"]
 is_above_nought_:Df K mg "is_above_nought" dN ["thing"]
 fraction_:Df K mg "fraction" gC ["n", "d"]
 times_:Df K mg "times" nz ["one", "other"]
 over_:Df K mg "over" pX ["one", "other"]
 compared_:Df K mg "compared" gO ["one", "other"]
 least_:Df K mg "least" kP ["parts"]
 is_shut_:Df K mg "is_shut" oV ["tie"]
 lift_once_:Df K mg "lift_once" bc ["net", "worths", "onward"]
 round_ahead_:Df K mg "round_ahead" cI ["net", "onward", "place"]
 gaining_round_:Df K mg "gaining_round" bz ["net"]
 lift_all_:Df K mg "lift_all" c8 ["net", "worths"]
 holding_worths_:Df K mg "holding_worths" cU ["net"]
 holds_:Df K mg "holds" jG ["tie", "worths"]
 shows_holding_:Df K mg "shows_holding" bw ["net", "thing"]
 greatest_gain_:Df K mg "greatest_gain" b6 ["net", "begin", "end"]
 best_way_:Df K mg "best_way" cz ["net", "begin", "end"]
 are_ties_:Df K mg "are_ties" dO ["net", "thing"]
 is_way_:Df K mg "is_way" iM ["net", "thing"]
 is_round_:Df K mg "is_round" dS ["net", "thing"]
 gain_of_:Df K mg "gain_of" gk ["net", "way"]
 goes_on_:Df K mg "goes_on" fk ["net", "way", "much"]
 room_of_:Df K mg "room_of" fz ["net", "way"]
 l_box_:Df K mg "_law_box" xN ["_law_script", "_law_k"]
 l_take_:Df K mg "_law_take" vU ["_law_box_here", "_law_many"]
 l_folded_:Df K mg "_law_folded" qX ["_law_script", "_law_many"]
 l_frac_:Df K mg "_law_frac" iw ["_law_n", "_law_d"]
 l_product_:Df K mg "_law_product" gU ["_law_one", "_law_other"]
 l_over_:Df K mg "_law_over" k4 ["_law_one", "_law_other"]
 l_above_:Df K mg "_law_above" lI ["_law_one", "_law_other"]
 l_names_by_:Df K mg "_law_names_by" bA ["_law_box_here", "_law_many"]
 l_any_gain_:Df K mg "_law_any_gain" db ["_law_box_here"]
 l_any_much_:Df K mg "_law_any_much" d9 ["_law_box_here"]
 l_any_price_:Df K mg "_law_any_price" dF ["_law_box_here"]
 l_planted_:Df K mg "_law_planted" bo ["_law_box_here", "_law_places"]
 l_net_by_:Df K mg "_law_net_by" aB ["_law_box_here", "_law_most_places", "_law_most_ties"]
 l_all_told_:Df K mg "_law_all_told" av ["_law_which", "_law_net", "_law_begin", "_law_end"]
 l_refused_alike_:Df K mg "_law_refused_alike" aN ["_law_net"]
 l_pairs_right_:Df K mg "_law_pairs_right" aF ["_law_net", "_law_worths"]
 l_fewer_right_:Df K mg "_law_fewer_right" aM ["_law_box_here", "_law_net", "_law_worths"]
 l_by_worths_:Df K mg "_law_by_worths" aY ["_law_box_here", "_law_net"]
 l_right_:Df K mg "_law_right" bq ["_law_box_here", "_law_net"]
 law_:Df K mg "law" fQ ["_law_script"]
 f_Gaining__init:Addr
 d_Gaining__init:FuncData
 F_Gaining__init:oD K "__init__" "Gaining.__init__" b7 f_Gaining__init d_Gaining__init
 B_Gaining__init:gF K d_Gaining__init ["self", "ties"] []
 f_NotSoMuch__init:Addr
 d_NotSoMuch__init:FuncData
 F_NotSoMuch__init:oD K "__init__" "NotSoMuch.__init__" mF f_NotSoMuch__init d_NotSoMuch__init
 B_NotSoMuch__init:gF K d_NotSoMuch__init ["self", "most"] []
 f_Short__init:Addr
 d_Short__init:FuncData
 F_Short__init:oD K "__init__" "Short.__init__" sr f_Short__init d_Short__init
 B_Short__init:gF K d_Short__init ["self", "share"] []
 f_Lacking__init:Addr
 d_Lacking__init:FuncData
 F_Lacking__init:oD K "__init__" "Lacking.__init__" pd f_Lacking__init d_Lacking__init
 B_Lacking__init:gF K d_Lacking__init ["self", "place"] []
 f_BadRow__init:Addr
 d_BadRow__init:FuncData
 F_BadRow__init:oD K "__init__" "BadRow.__init__" qi f_BadRow__init d_BadRow__init
 B_BadRow__init:gF K d_BadRow__init ["self", "row"] []
 f_BadSheet__init:Addr
 d_BadSheet__init:FuncData
 F_BadSheet__init:oD K "__init__" "BadSheet.__init__" nR f_BadSheet__init d_BadSheet__init
 B_BadSheet__init:gF K d_BadSheet__init ["self", "row"] []
 x_GainError:Addr
 m_GainError:mg "GainError" = some (.ref x_GainError)
 k_GainError:keepIn K (.ref x_GainError)=true
 xb_GainError:Bw K x_GainError=true
 x_BadNumber:Addr
 m_BadNumber:mg "BadNumber" = some (.ref x_BadNumber)
 k_BadNumber:keepIn K (.ref x_BadNumber)=true
 q_BadNumber:bR K x_BadNumber (none)=true
 x_Taken:Addr
 m_Taken:mg "Taken" = some (.ref x_Taken)
 k_Taken:keepIn K (.ref x_Taken)=true
 q_Taken:bR K x_Taken (none)=true
 x_NoPlace:Addr
 m_NoPlace:mg "NoPlace" = some (.ref x_NoPlace)
 k_NoPlace:keepIn K (.ref x_NoPlace)=true
 q_NoPlace:bR K x_NoPlace (none)=true
 x_NoTie:Addr
 m_NoTie:mg "NoTie" = some (.ref x_NoTie)
 k_NoTie:keepIn K (.ref x_NoTie)=true
 q_NoTie:bR K x_NoTie (none)=true
 x_AsItIs:Addr
 m_AsItIs:mg "AsItIs" = some (.ref x_AsItIs)
 k_AsItIs:keepIn K (.ref x_AsItIs)=true
 q_AsItIs:bR K x_AsItIs (none)=true
 x_NoEnds:Addr
 m_NoEnds:mg "NoEnds" = some (.ref x_NoEnds)
 k_NoEnds:keepIn K (.ref x_NoEnds)=true
 q_NoEnds:bR K x_NoEnds (none)=true
 x_Over:Addr
 m_Over:mg "Over" = some (.ref x_Over)
 k_Over:keepIn K (.ref x_Over)=true
 q_Over:bR K x_Over (none)=true
 x_TooMuch:Addr
 m_TooMuch:mg "TooMuch" = some (.ref x_TooMuch)
 k_TooMuch:keepIn K (.ref x_TooMuch)=true
 q_TooMuch:bR K x_TooMuch (none)=true
 x_Gaining:Addr
 m_Gaining:mg "Gaining" = some (.ref x_Gaining)
 k_Gaining:keepIn K (.ref x_Gaining)=true
 fn_Gaining:isFn K (.ref f_Gaining__init)=true
 st_Gaining:hU K x_Gaining "ties" = true
 fd_Gaining:kr K x_Gaining "ties" = true
 q_Gaining:bR K x_Gaining (some (.ref f_Gaining__init))=true
 x_NotSoMuch:Addr
 m_NotSoMuch:mg "NotSoMuch" = some (.ref x_NotSoMuch)
 k_NotSoMuch:keepIn K (.ref x_NotSoMuch)=true
 fn_NotSoMuch:isFn K (.ref f_NotSoMuch__init)=true
 st_NotSoMuch:hU K x_NotSoMuch "most" = true
 fd_NotSoMuch:kr K x_NotSoMuch "most" = true
 q_NotSoMuch:bR K x_NotSoMuch (some (.ref f_NotSoMuch__init))=true
 x_Short:Addr
 m_Short:mg "Short" = some (.ref x_Short)
 k_Short:keepIn K (.ref x_Short)=true
 fn_Short:isFn K (.ref f_Short__init)=true
 st_Short:hU K x_Short "share" = true
 fd_Short:kr K x_Short "share" = true
 q_Short:bR K x_Short (some (.ref f_Short__init))=true
 x_Lacking:Addr
 m_Lacking:mg "Lacking" = some (.ref x_Lacking)
 k_Lacking:keepIn K (.ref x_Lacking)=true
 fn_Lacking:isFn K (.ref f_Lacking__init)=true
 st_Lacking:hU K x_Lacking "place" = true
 fd_Lacking:kr K x_Lacking "place" = true
 q_Lacking:bR K x_Lacking (some (.ref f_Lacking__init))=true
 x_BadRow:Addr
 m_BadRow:mg "BadRow" = some (.ref x_BadRow)
 k_BadRow:keepIn K (.ref x_BadRow)=true
 fn_BadRow:isFn K (.ref f_BadRow__init)=true
 st_BadRow:hU K x_BadRow "row" = true
 fd_BadRow:kr K x_BadRow "row" = true
 q_BadRow:bR K x_BadRow (some (.ref f_BadRow__init))=true
 x_BadSheet:Addr
 m_BadSheet:mg "BadSheet" = some (.ref x_BadSheet)
 k_BadSheet:keepIn K (.ref x_BadSheet)=true
 fn_BadSheet:isFn K (.ref f_BadSheet__init)=true
 st_BadSheet:hU K x_BadSheet "row" = true
 fd_BadSheet:kr K x_BadSheet "row" = true
 q_BadSheet:bR K x_BadSheet (some (.ref f_BadSheet__init))=true
 em_Gaining_GainError:exmOne K (.ref x_Gaining) (.ref x_GainError)=some true
 kin:uG K [x_BadNumber,x_Taken,x_NoPlace,x_NoTie,x_AsItIs,x_NoEnds,x_Over,x_TooMuch,x_Gaining,x_NotSoMuch,x_Short,x_Lacking,x_BadRow,x_BadSheet] x_GainError=true
end K15
namespace K15
open PySem L2
abbrev ae (s:Stmt) (x:Str):Prop:=(ak s).names.lookup x=some NameKind.local
abbrev ah (s:Stmt) (x:Str):Prop:=(ak s).names.lookup x=some NameKind.globalImplicit
abbrev iC (s:Stmt) (x:Str):Prop:=(ak s).names.lookup x=some NameKind.cell
theorem mz:ae fH "thing" := by nofun
theorem jq:ah fH "isinstance" := by nofun
theorem wW:ah fH "int" := by nofun
theorem vS:ah fH "bool" := by nofun
theorem ic:ae bN "thing" := by nofun
theorem jS:ae bN "n" := by nofun
theorem ir:ae bN "d" := by nofun
theorem oK:ah bN "isinstance" := by nofun
theorem sC:ah bN "tuple" := by nofun
theorem va:ah bN "len" := by nofun
theorem i7:ah bN "is_number" := by nofun
theorem kX:ah bN "common_divisor" := by nofun
theorem jd:ae dN "thing" := by nofun
theorem ku:ah dN "is_fraction" := by nofun
theorem tJ:ae gC "n" := by nofun
theorem oJ:ae gC "d" := by nofun
theorem dk:ae gC "divisor" := by nofun
theorem mR:ah gC "common_divisor" := by nofun
theorem vp:ae nz "one" := by nofun
theorem ss:ae nz "other" := by nofun
theorem vZ:ah nz "fraction" := by nofun
theorem wQ:ae pX "one" := by nofun
theorem uf:ae pX "other" := by nofun
theorem wE:ah pX "fraction" := by nofun
theorem qB:ae gO "one" := by nofun
theorem oE:ae gO "other" := by nofun
theorem kh:ae gO "left" := by nofun
theorem jA:ae gO "right" := by nofun
theorem sh:ae kP "parts" := by nofun
theorem jU:ae kP "best" := by nofun
theorem oh:ae kP "part" := by nofun
theorem vt:ah kP "compared" := by nofun
theorem yM:ae oV "tie" := by nofun
theorem xq:ae bc "net" := by nofun
theorem de:ae bc "worths" := by nofun
theorem tS:ae bc "onward" := by nofun
theorem iI:ae bc "lifted" := by nofun
theorem l8:ae bc "number" := by nofun
theorem jX:ae bc "tie" := by nofun
theorem cE:ae bc "begin" := by nofun
theorem jQ:ae bc "end" := by nofun
theorem wp:ae bc "most" := by nofun
theorem nY:ae bc "gain" := by nofun
theorem uS:ae bc "price" := by nofun
theorem jj:ae bc "worth" := by nofun
theorem qE:ah bc "enumerate" := by nofun
theorem sV:ah bc "is_shut" := by nofun
theorem uY:ah bc "times" := by nofun
theorem qN:ah bc "compared" := by nofun
theorem uQ:ae cI "net" := by nofun
theorem jT:ae cI "onward" := by nofun
theorem b8:ae cI "place" := by nofun
theorem dQ:ae cI "places" := by nofun
theorem iu:ae cI "ties" := by nofun
theorem eH:ae bz "net" := by nofun
theorem jp:ae bz "worths" := by nofun
theorem fF:ae bz "onward" := by nofun
theorem cZ:ae bz "lifted" := by nofun
theorem qP:ae bz "turn" := by nofun
theorem qI:ah bz "range" := by nofun
theorem sI:ah bz "len" := by nofun
theorem mZ:ah bz "lift_once" := by nofun
theorem lV:ah bz "round_ahead" := by nofun
theorem qq:ae c8 "net" := by nofun
theorem u8:ae c8 "worths" := by nofun
theorem iJ:ae c8 "gaining" := by nofun
theorem ji:ae c8 "onward" := by nofun
theorem oF:ah c8 "gaining_round" := by nofun
theorem tz:ah c8 "Gaining" := by nofun
theorem rR:ah c8 "lift_once" := by nofun
theorem gL:ae cU "net" := by nofun
theorem i9:iC cU "worths" := by nofun
theorem mU:ah cU "lift_all" := by nofun
theorem lA:ae jG "tie" := by nofun
theorem qb:ae jG "worths" := by nofun
theorem wU:ah jG "is_shut" := by nofun
theorem wu:ah jG "compared" := by nofun
theorem yJ:ah jG "times" := by nofun
theorem hV:ae bw "net" := by nofun
theorem dB:ae bw "thing" := by nofun
theorem pD:iC bw "worths" := by nofun
theorem mj:ah bw "isinstance" := by nofun
theorem qU:ah bw "list" := by nofun
theorem kD:ah bw "len" := by nofun
theorem kE:ah bw "all" := by nofun
theorem rO:ah bw "dict" := by nofun
theorem sZ:ah bw "zip" := by nofun
theorem sS:ae b6 "net" := by nofun
theorem qJ:ae b6 "begin" := by nofun
theorem sL:ae b6 "end" := by nofun
theorem fB:ae b6 "worths" := by nofun
theorem nZ:ah b6 "lift_all" := by nofun
theorem qH:ae cz "net" := by nofun
theorem oB:ae cz "begin" := by nofun
theorem qC:ae cz "end" := by nofun
theorem jf:ae cz "worths" := by nofun
theorem jm:ae cz "onward" := by nofun
theorem kK:ae cz "way" := by nofun
theorem eh:ae cz "place" := by nofun
theorem sD:ah cz "lift_all" := by nofun
theorem gN:ae dO "thing" := by nofun
theorem pW:ah dO "isinstance" := by nofun
theorem wZ:ah dO "list" := by nofun
theorem xP:ah dO "all" := by nofun
theorem qj:ah dO "len" := by nofun
theorem xF:ah dO "set" := by nofun
theorem Aj:iC iM "net" := by nofun
theorem k6:ae iM "thing" := by nofun
theorem uP:ah iM "are_ties" := by nofun
theorem zN:ah iM "all" := by nofun
theorem Ac:ah iM "zip" := by nofun
theorem qy:iC dS "net" := by nofun
theorem gJ:ae dS "thing" := by nofun
theorem fM:ae dS "begins" := by nofun
theorem uT:ah dS "is_way" := by nofun
theorem kS:ah dS "len" := by nofun
theorem xu:ah dS "set" := by nofun
theorem yU:ae gk "net" := by nofun
theorem yX:ae gk "way" := by nofun
theorem iR:ae gk "gain" := by nofun
theorem nL:ae gk "number" := by nofun
theorem xc:ah gk "times" := by nofun
theorem yI:ae fk "net" := by nofun
theorem yV:ae fk "way" := by nofun
theorem kT:ae fk "much" := by nofun
theorem kR:ae fk "goes" := by nofun
theorem oA:ae fk "number" := by nofun
theorem wR:ah fk "times" := by nofun
theorem yK:iC fz "net" := by nofun
theorem rZ:ae fz "way" := by nofun
theorem nN:ae fz "shares" := by nofun
theorem uV:ah fz "goes_on" := by nofun
theorem xg:ah fz "least" := by nofun
theorem yH:ah fz "zip" := by nofun
theorem ur:ae iw "_law_n" := by nofun
theorem oz:ae iw "_law_d" := by nofun
theorem cV:ae iw "_law_one" := by nofun
theorem d8:ae iw "_law_other" := by nofun
theorem ue:ah iw "abs" := by nofun
theorem mK:ae gU "_law_one" := by nofun
theorem kC:ae gU "_law_other" := by nofun
theorem ul:ah gU "_law_frac" := by nofun
theorem qD:ae k4 "_law_one" := by nofun
theorem nS:ae k4 "_law_other" := by nofun
theorem xk:ah k4 "_law_frac" := by nofun
theorem o9:ae lI "_law_one" := by nofun
theorem mB:ae lI "_law_other" := by nofun
theorem eQ:iC bA "_law_box_here" := by nofun
theorem kF:ae bA "_law_many" := by nofun
theorem pE:iC bA "_law_letters" := by nofun
theorem jZ:iC bA "_law_first" := by nofun
theorem kJ:ae bA "_law_rest" := by nofun
theorem p8:iC bA "_law_behind" := by nofun
theorem sY:iC bA "_law_sign" := by nofun
theorem qZ:iC bA "_law_other" := by nofun
theorem gZ:ah bA "_law_take" := by nofun
theorem iD:ah bA "range" := by nofun
theorem wx:ah bA "int" := by nofun
theorem lM:ah bA "tuple" := by nofun
theorem eS:ae db "_law_box_here" := by nofun
theorem ft:ae db "_law_way" := by nofun
theorem lJ:ae db "_law_top" := by nofun
theorem hJ:ah db "_law_take" := by nofun
theorem sx:ah db "_law_frac" := by nofun
theorem jb:ae d9 "_law_box_here" := by nofun
theorem fe:ae d9 "_law_way" := by nofun
theorem kH:ah d9 "_law_take" := by nofun
theorem sX:ah d9 "_law_frac" := by nofun
theorem iy:ae dF "_law_box_here" := by nofun
theorem ib:ae dF "_law_way" := by nofun
theorem kq:ah dF "_law_take" := by nofun
theorem rF:ah dF "_law_frac" := by nofun
theorem b9:ae bo "_law_box_here" := by nofun
theorem kd:iC bo "_law_places" := by nofun
theorem iK:ae bo "_law_many" := by nofun
theorem sO:iC bo "_law_first" := by nofun
theorem jW:ae bo "_law_a" := by nofun
theorem j0:ae bo "_law_b" := by nofun
theorem iQ:ae bo "_law_more" := by nofun
theorem kG:ae bo "_law_gains" := by nofun
theorem eJ:ae bo "_law_spots" := by nofun
theorem dg:ah bo "_law_take" := by nofun
theorem ph:ah bo "len" := by nofun
theorem lU:ah bo "_law_frac" := by nofun
theorem u9:ah bo "range" := by nofun
theorem vH:ah bo "list" := by nofun
theorem wF:ah bo "zip" := by nofun
theorem ax:iC aB "_law_box_here" := by nofun
theorem nU:ae aB "_law_most_places" := by nofun
theorem pI:ae aB "_law_most_ties" := by nofun
theorem jB:ae aB "_law_way" := by nofun
theorem iF:ae aB "_law_great" := by nofun
theorem bC:ae aB "_law_places" := by nofun
theorem mE:ae aB "_law_many" := by nofun
theorem vc:iC aB "_law_some" := by nofun
theorem ia:ae aB "_law_worths" := by nofun
theorem fJ:ae aB "_law_ends" := by nofun
theorem uZ:ae aB "_law_turn" := by nofun
theorem kg:ae aB "_law_at" := by nofun
theorem dh:ae aB "_law_begin" := by nofun
theorem dY:ae aB "_law_end" := by nofun
theorem dI:ae aB "_law_gain" := by nofun
theorem mI:ae aB "_law_less" := by nofun
theorem cG:ae aB "_law_ties" := by nofun
theorem oi:ae aB "_law_top" := by nofun
theorem br:ah aB "_law_take" := by nofun
theorem qh:ah aB "_law_names_by" := by nofun
theorem xj:ah aB "dict" := by nofun
theorem rL:ah aB "_law_planted" := by nofun
theorem vK:ah aB "range" := by nofun
theorem gj:ah aB "len" := by nofun
theorem qg:ah aB "_law_any_gain" := by nofun
theorem re:ah aB "_law_product" := by nofun
theorem uU:ah aB "_law_over" := by nofun
theorem pV:ah aB "_law_any_much" := by nofun
theorem pK:ah aB "_law_any_price" := by nofun
theorem vF:ah aB "tuple" := by nofun
theorem jM:ae av "_law_which" := by nofun
theorem iG:ae av "_law_net" := by nofun
theorem jO:ae av "_law_begin" := by nofun
theorem lQ:ae av "_law_end" := by nofun
theorem cA:ae av "_law_found" := by nofun
theorem bF:ae av "_law_caught" := by nofun
theorem lH:ae av "error" := by nofun
theorem dq:ae av "_law_others" := by nofun
theorem lG:ah av "holding_worths" := by nofun
theorem mh:ah av "greatest_gain" := by nofun
theorem qe:ah av "best_way" := by nofun
theorem pN:ah av "GainError" := by nofun
theorem cK:ah av "isinstance" := by nofun
theorem pO:ah av "BadNumber" := by nofun
theorem tD:ah av "Taken" := by nofun
theorem qL:ah av "NoPlace" := by nofun
theorem tx:ah av "NoTie" := by nofun
theorem sB:ah av "AsItIs" := by nofun
theorem sQ:ah av "NoEnds" := by nofun
theorem vd:ah av "Over" := by nofun
theorem rQ:ah av "TooMuch" := by nofun
theorem pL:ah av "NotSoMuch" := by nofun
theorem uo:ah av "Short" := by nofun
theorem qS:ah av "Lacking" := by nofun
theorem sw:ah av "BadRow" := by nofun
theorem qm:ah av "BadSheet" := by nofun
theorem qM:ah av "Gaining" := by nofun
theorem oU:ah av "ValueError" := by nofun
theorem bZ:iC aN "_law_net" := by nofun
theorem io:ae aN "_law_first" := by nofun
theorem gT:ae aN "_law_second" := by nofun
theorem ij:ae aN "_law_which" := by nofun
theorem iz:ae aN "_law_word" := by nofun
theorem cB:ae aN "_law_ties" := by nofun
theorem kU:ah aN "_law_all_told" := by nofun
theorem mv:ah aN "is_round" := by nofun
theorem mW:ah aN "_law_above" := by nofun
theorem m9:ah aN "gain_of" := by nofun
theorem qz:ah aN "all" := by nofun
theorem bD:ae aF "_law_net" := by nofun
theorem nO:ae aF "_law_worths" := by nofun
theorem eO:ae aF "_law_known" := by nofun
theorem bY:ae aF "_law_begin" := by nofun
theorem cp:ae aF "_law_end" := by nofun
theorem cY:ae aF "_law_gain" := by nofun
theorem dv:ae aF "_law_way" := by nofun
theorem rW:ah aF "dict" := by nofun
theorem su:ah aF "zip" := by nofun
theorem kB:ah aF "greatest_gain" := by nofun
theorem oC:ah aF "best_way" := by nofun
theorem oO:ah aF "_law_above" := by nofun
theorem mO:ah aF "_law_product" := by nofun
theorem pQ:ah aF "is_way" := by nofun
theorem oN:ah aF "gain_of" := by nofun
theorem oM:ah aF "room_of" := by nofun
theorem md:ae aM "_law_box_here" := by nofun
theorem aP:ae aM "_law_net" := by nofun
theorem nV:ae aM "_law_worths" := by nofun
theorem bI:ae aM "_law_at" := by nofun
theorem fU:ae aM "_law_tie" := by nofun
theorem fE:ae aM "_law_shut" := by nofun
theorem eL:ae aM "_law_other" := by nofun
theorem pT:ah aM "_law_take" := by nofun
theorem sP:ah aM "len" := by nofun
theorem kA:ah aM "gaining_round" := by nofun
theorem sy:ah aM "any" := by nofun
theorem sW:ah aM "zip" := by nofun
theorem cD:ah aM "holding_worths" := by nofun
theorem cN:ae aY "_law_net" := by nofun
theorem rz:iC aY "_law_some" := by nofun
theorem dz:ae aY "_law_known" := by nofun
theorem dP:ae aY "_law_ties" := by nofun
theorem fR:ae aY "_law_begin" := by nofun
theorem hZ:ae aY "_law_end" := by nofun
theorem kI:ae aY "_law_top" := by nofun
theorem jP:ae aY "_law_gain" := by nofun
theorem jE:ae aY "_law_price" := by nofun
theorem lX:ah aY "dict" := by nofun
theorem oP:ah aY "_law_product" := by nofun
theorem rM:ah aY "_law_over" := by nofun
theorem uX:ah aY "any" := by nofun
theorem sU:ah aY "tuple" := by nofun
theorem kj:ae bq "_law_box_here" := by nofun
theorem bH:ae bq "_law_net" := by nofun
theorem fP:ae bq "_law_other" := by nofun
theorem jh:ae bq "_law_known" := by nofun
theorem fN:ae bq "_law_begin" := by nofun
theorem ig:ae bq "_law_end" := by nofun
theorem gG:ae bq "_law_gain" := by nofun
theorem jC:ae bq "_law_more" := by nofun
theorem fw:ae bq "_law_worths" := by nofun
theorem qu:ah bq "_law_by_worths" := by nofun
theorem eV:ah bq "gaining_round" := by nofun
theorem ik:ah bq "_law_refused_alike" := by nofun
theorem ja:ah bq "greatest_gain" := by nofun
theorem sM:ah bq "_law_product" := by nofun
theorem vB:ah bq "_law_over" := by nofun
theorem ow:ah bq "holding_worths" := by nofun
theorem oR:ah bq "shows_holding" := by nofun
theorem oQ:ah bq "_law_pairs_right" := by nofun
theorem oS:ah bq "_law_fewer_right" := by nofun
theorem xA:ae fQ "_law_script" := by nofun
theorem mw:ae fQ "_law_cells" := by nofun
theorem yn:ae fQ "_law_k" := by nofun
theorem ju:ae fQ "_law_box_here" := by nofun
theorem zy:ae fQ "_law_turn" := by nofun
theorem xL:ah fQ "_law_folded" := by nofun
theorem vk:ah fQ "range" := by nofun
theorem CK:ah fQ "max" := by nofun
theorem DQ:ah fQ "len" := by nofun
theorem AI:ah fQ "_law_box" := by nofun
theorem yD:ah fQ "_law_right" := by nofun
theorem xx:ah fQ "_law_net_by" := by nofun
theorem kc:ae b7 "self" := by nofun
theorem gK:ae b7 "ties" := by nofun
theorem mY:ah b7 "GainError" := by nofun
theorem mf:ah b7 "isinstance" := by nofun
theorem jY:ah b7 "list" := by nofun
end K15
namespace K15
open PySem L2
section
variable {P:Program}{w:World}{K:Frag}{mg:Str→Option Value}{base:Heap}
inductive Hv (vs:List V) (H:Hp) (Q:VK):Prop
 | mk (i:Int) (h0:vs=[.int i]) (h1:Q (.bl true) H)
def Lf:Sp:=fun vs H Q _=>Hv  vs H Q
theorem tN (T:Txt K mg):aQ P w K mg base CX0 1 T.is_number_.f T.is_number_.d ["thing"] Lf:=by
 refine T.is_number_.F.ok Al (fun vs H Q E h=>?_) (fun cdv A outer s H vs Q E hr h=>?_)
 ·obtain ⟨i,rfl,_⟩:=h
  rfl
 ·obtain ⟨i,rfl,k⟩:=h
  refine ⟨_,#[ac 3 #[am 4 #[qd 7 #[(),(),(@kL _ (K) (by rfl)),jq,T.b_isinstance,(@bG),#[[#[0,mz],#[rn 4 wW T.b_int (@pS) (by ext) (by ext)]]]] #[l7 5 #[Hn 4 #[(),(),(@kL _ (K) (by rfl)),jq,T.b_isinstance,(@bG),#[[#[0,mz],#[rn 4 vS T.b_bool (@zr) (by ext) (by ext)]]]]]]]]],?_⟩
  have hx:aU ED H (.int i) (.int i):=.int i
  exact ⟨(),_,_,_,(),hx.ty,GV (.int i),(),cf ⟨(),_,_,_,(),hx.ty,EJ (.int i),(),k⟩⟩
inductive Hs (vs:List V) (H:Hp) (Q:VK):Prop
 | mk (n d:Int) (h0:vs=[.int n,.int d]) (h1:Q (.int (Int.gcd n d:Nat)) H)
def KT:Sp:=fun vs H Q _=>Hs  vs H Q
theorem my (T:Txt K mg):aQ P w K mg base CX0 1 T.common_divisor_.f T.common_divisor_.d ["n", "d"] KT:=by
 refine T.common_divisor_.F.ok mH (fun vs H Q E h=>?_) (fun cdv A outer s H vs Q E hr h=>?_)
 ·obtain ⟨n,d,rfl,_⟩:=h
  rfl
 ·obtain ⟨n,d,rfl,k⟩:=h
  refine ⟨_,(fC (oq PassesOwn.never (aA o8 (pv 1) bJ (um _)) (ac (l6 (i:=0) (j:=1) rfl mH.nd rfl rfl (by ext) rfl rfl (cR (pv 1) (cR (ap Gp (pv 0) (pv 1)) cC)) rfl)))
   (ac (am (lc nQ (by rfl) T.b_abs jV (cR (pv 0) cC))))),?_⟩
  refine ⟨fun m σ H'=>∃a b:Int,σ=[some (.int a),some (.int b)]∧H'=H∧Int.gcd a b=Int.gcd n d∧m=b.natAbs,⟨_,n,d,rfl,rfl,rfl,rfl⟩,?_⟩
  rintro m σ H' ⟨a,b,rfl,rfl,hg,rfl⟩
  refine ⟨(),rfl,(),?_⟩
  by_cases hb:b=0
  ·subst hb
   refine aX ?_
   refine ⟨(),(),?_⟩
   rw [←KM.gcd_zero_abs,hg]
   exact k
  ·have e:(!decide (V.int b=V.int 0))=true:=by
    rw [decide_eq_false (fun z=>hb (by injection z))];rfl
   rw [e]
   refine cf ⟨fun σ' H''=>∃a' b':Int,σ'=[some (.int a'),some (.int b')]∧H''=H'∧Int.gcd a' b'=Int.gcd n d∧b'.natAbs<b.natAbs,?_,?_⟩
   ·rintro σ' H'' ⟨a',b',rfl,rfl,h1,h2⟩
    exact ⟨_,h2,a',b',rfl,rfl,h1,rfl⟩
   ·refine ⟨(),(),(),_,(),rfl,hb,_,(),?_⟩
    exact ⟨b,a.fmod b,rfl,rfl,(KM.gcd_fmod a b).trans hg,KM.fmod_natAbs_lt a b hb⟩
inductive KC (vs:List V) (H:Hp) (Q:VK):Prop
 | mk (o:Addr) (p:KM.Fra) (h0:vs=[.ref o]) (h1:H o=some (fr p)) (h2:KM.Rd p) (h3:Q (.bl true) H)
def Mb:Sp:=fun vs H Q _=>KC  vs H Q
theorem xR (T:Txt K mg):aQ P w K mg base CX0 2 T.is_fraction_.f T.is_fraction_.d ["thing"] Mb:=by
 have G_is_number:=#[(tN)]
 have G_common_divisor:=#[(my)]
 refine T.is_fraction_.F.ok kZ (fun vs H Q E h=>?_) (fun cdv A outer s H vs Q E hr h=>?_)
 ·obtain ⟨o,p,rfl,_⟩:=h
  rfl
 ·obtain ⟨o,p,rfl,ho,rp,k⟩:=h
  refine ⟨_,#[#[bd 8 #[PW.pt 3 #[iY 7 #[da 4 #[bQ 3 #[(),(),(@kL _ (K) (by rfl)),oK,T.b_isinstance,(@bG),#[[#[0,ic],#[rn 4 sC T.b_tuple (@gS) (by ext) (by ext)]]]] (by intro _;rfl)]] #[iH 4 #[aA 8 (@o8 _) #[(),(),(@eG _ (K) (by rfl)),va,T.b_len,(@bh),#[[#[0,ic]]]] #[()] #[(),()]]]]] #[ac 3 #[am 4 #[cM 4]]] (@aJ _)] :: #[#[gc 6 #[0,ic] (@cx _ (K) _ _ _ _ (2) rfl #[aC 5 #[1,kZ.nd,jS] #[aC 5 #[2,kZ.nd,ir] (@cF _) (by rfl)] (by rfl)] (by rfl) (by rfl) (by rfl)) (by rfl) (by rfl) (by rfl)] :: #[#[bd 8 #[PW.pt 3 #[iY 7 #[da 4 #[bQ 3 #[G_is_number,i7,T.is_number_,#[[#[1,jS]]]] (by intro _;rfl)]] #[iH 4 #[da 4 #[bQ 3 #[G_is_number,i7,T.is_number_,#[[#[2,ir]]]] (by intro _;rfl)]]]]] #[ac 3 #[am 4 #[cM 4]]] (@aJ _)] :: #[ac 3 #[am 4 #[qd 7 #[bS 8 (@Fo _) #[2,ir] #[()] #[(),()]] #[l7 5 #[bS 8 (@fi _) #[G_common_divisor,kX,T.common_divisor_,#[[#[1,jS],#[2,ir]]]] #[()] #[(),()]]]]]]]]],?_⟩
  have hx:aU ED H (.ref o) (gh p):=i8 ho
  refine ba fun DA nA=>⟨(),_,_,_,(),hx.ty,CS (gh p),(),aX ⟨(),o,(),.inr (af.of ho),rfl,(),aX (nA _ _ ?_)⟩⟩
  refine ba fun DB nB=>⟨(),o,(),af.of ho,rfl,_,(),_,(),rfl,nB _ _ ?_⟩
  refine ba fun DC nC=>⟨(),(),(),aX ⟨(),(),(),aX (nC _ _ ?_)⟩⟩
  refine ⟨(),_,(),rfl,(),?_⟩
  rw [decide_eq_true (show p.2≥1 from rp.1)]
  refine cf ⟨(),(),p.1,p.2,rfl,rfl,?_⟩
  rw [show Int.gcd p.1 p.2=1 from rp.2]
  exact k
inductive Ia (vs:List V) (H:Hp) (Q:VK):Prop
 | mk (o:Addr) (p:KM.Fra) (h0:vs=[.ref o]) (h1:H o=some (fr p)) (h2:KM.Rd p) (h3:1≤p.1) (h4:Q (.bl true) H)
def KS:Sp:=fun vs H Q _=>Ia  vs H Q
theorem ux (T:Txt K mg):aQ P w K mg base CX0 3 T.is_above_nought_.f T.is_above_nought_.d ["thing"] KS:=by
 have G_is_fraction:=#[(xR)]
 refine T.is_above_nought_.F.ok tI (fun vs H Q E h=>?_) (fun cdv A outer s H vs Q E hr h=>?_)
 ·obtain ⟨o,p,rfl,_⟩:=h
  rfl
 ·obtain ⟨o,p,rfl,ho,rp,h1,k⟩:=h
  refine ⟨_,#[ac 3 #[am 4 #[qd 7 #[G_is_fraction,ku,T.is_fraction_,#[[#[0,jd]]]] #[l7 5 #[bS 8 (@lD _) #[#[0,jd][#[()]]] #[()] #[(),()]]]]]],?_⟩
  refine ⟨(),o,p,rfl,ho,rp,(),cf ⟨(),o,_,_,(),rfl,af.of ho,rfl,_,(),rfl,?_⟩⟩
  have e:decide (p.1 > 0)=true:=decide_eq_true (by lia)
  exact Eq.mp (congrArg (fun b=>Q (.bl b) H) e.symm) k
end
end K15
namespace K15
open PySem L2
section
variable {P:Program}{w:World}{K:Frag}{mg:Str→Option Value}{base:Heap}
theorem Hj (T:Txt K mg):aQ P w K mg base CX0 1 T.l_box_.f T.l_box_.d ["_law_script", "_law_k"] (Kt K):=by
 refine T.l_box_.F.ok vJ (fun vs H Q E h=>?_) (fun cdv A outer s H vs Q E hr h=>?_)
 ·obtain ⟨a,ms,k,rfl,_⟩:=h
  rfl
 ·obtain ⟨a,ms,k,rfl,hS,hk0,hk1,kk⟩:=h
  refine ⟨_,(fC (jo (i:=2) vJ.nd rfl (Or.inl rfl) bJ)
   (fC (bd (aA lB (pv 1) (lc tW (by rfl) T.b_len bh (cR (pv 0) cC)) (um _)) (ac (jo (i:=2) vJ.nd rfl (Or.inl rfl) (bP km (pv 0) (pv 1) (fun _ _=>rfl)))) aJ)
   (ac (am (IG (cR (ap gP (lc nQ (by rfl) T.b_abs jV (cR (pv 2) cC)) (di yq (by rfl) T.b_int pS (cR (bS Fo (lc nQ (by rfl) T.b_abs jV (cR (pv 2) cC)) (ap Ad bJ bJ) (um _)) cC))) (cR (ap jn (ap bL (pv 2) (ap gP (ap gP bJ (pv 1)) (pv 1))) bJ) (cR bJ cC)))))))),?_⟩
  refine ⟨(),(),a,(),.inl hS,_,(),rfl,(),?_⟩
  refine ma (fun h=>?_) (fun h=>?_)
  case' refine_1=>
   have hlt:k.toNat<ms.length:=by
    have h':=of_decide_eq_true h
    rw [length_map] at h'
    lia
   refine ⟨(),(),.inl ⟨a,_,_,V.int ms[k.toNat],rfl,rfl,hS,?_,?_⟩⟩
   ·exact A1 hk0 hlt
  all_goals
   refine ⟨(),(),(),(),_,(),rfl,⟨by ext,by ext,by ext⟩,_,(),rfl,.inr ⟨(),_,(),rfl,.inr ?_,(),(),_,(),rfl,.inr ⟨by lia,by lia⟩,(),_,(),rfl,.inr ⟨by lia,by lia⟩,_,(),rfl,_,(),rfl,?_,?_,fun p hp=>kk p _ hp (ag.new hp) ⟨_,_,ao,?_,?_,?_⟩⟩⟩
   ·exact MD _
   ·show (0:Int)<2147483647;decide
   ·show 3≤sizeLine;decide
   ·exact Kg _ (zn _)
   ·exact emod_nonneg _ (by ext)
   ·exact emod_lt_of_pos _ (by ext)
end
end K15
namespace K15
open PySem L2
section
variable {P:Program}{w:World}{K:Frag}{mg:Str→Option Value}{base:Heap}
theorem jH (T:Txt K mg):aQ P w K mg base CX0 1 T.l_take_.f T.l_take_.d ["_law_box_here", "_law_many"] II:=by
 refine T.l_take_.F.ok ut (fun vs H Q E h=>?_) (fun cdv A outer s H vs Q E hr h=>?_)
 ·obtain ⟨b,many,t,rfl,_⟩:=h
  rfl
 ·obtain ⟨b,many,t,rfl,⟨c,x,hb,hc,hx0,hx1⟩,hm0,hm1,ht0,ht1,kk⟩:=h
  refine ⟨_,(fC (bd (aA lD (bP km (pv 0) bJ (fun _ _=>rfl)) bJ (um _)) (fC (gc (lc zJ (by rfl) T.b_divmod yT (cR (bP km (pv 0) bJ (fun _ _=>rfl)) (cR (pv 1) cC))) (Ax rfl (aC (ua (pv 0) bJ wo) (aC (gW (i:=2) ut.nd rfl (Or.inl rfl)) cF))))
   (ac (am (pv 2)))) aJ)
   (fC (gc (ap bL (bP km (pv 0) bJ (fun _ _=>rfl)) bJ) (ua (pv 0) bJ wo))
   (fC (jo (i:=3) ut.nd rfl (Or.inl rfl) (ap jn (ap Ad (ap bL (bP km (pv 0) bJ (fun _ _=>rfl)) (ap gP bJ (bP km (pv 0) bJ (fun _ _=>rfl)))) bJ) bJ))
   (ac (am (ap jn (ap FT (ap jn (ap bL (ap gP (pv 3) bJ) (ap gP (ap gP (bP km (pv 0) bJ (fun _ _=>rfl)) (bP km (pv 0) bJ (fun _ _=>rfl))) bJ)) bJ) bJ) (pv 1))))))),?_⟩
  refine ⟨(),.inl ⟨b,_,_,(),rfl,aq.of hb,rfl,_,(),rfl,(),?_⟩⟩
  refine ma (fun h=>?_) (fun h=>?_)
  ·refine ⟨(),.inl ⟨b,_,_,(),rfl,aq.of hb,rfl,(),_,(),⟨hm0,hm1⟩,fun p hp=>⟨p,(),af.of ao,rfl,_,(),(),b,[.int c,.int x,.int t],_,0,rfl,rfl,?_,rfl,_,(),rfl,(),?_⟩⟩⟩
   ·rw [aj (aS hb hp)];exact hb
   ·have hb':aE H p (.tup [.int (c / many),.int (c % many)]) b=some (.lst [.int c,.int x,.int t]):=by rw [aj (aS hb hp)];exact hb
    exact kk _ t _ (emod_nonneg _ (Int.ne_of_gt hm0)) (emod_lt_of_pos _ hm0) (Int.le_refl _) (by lia) (ya (ag.new hp) hb') ⟨_,_,ao,Int.ediv_nonneg hc (Int.le_of_lt hm0),hx0,hx1⟩
  ·refine ⟨(),.inl ⟨b,_,_,(),rfl,aq.of hb,rfl,_,(),rfl,(),b,_,_,2,rfl,rfl,hb,rfl,?_⟩⟩
   refine ⟨(),.inl ⟨b,_,_,(),rfl,aq.of ao,rfl,(),.inl ⟨b,_,_,(),rfl,aq.of ao,rfl,_,(),rfl,.inl ⟨by ext,by ext⟩,_,(),rfl,_,(),rfl,⟨by ext,by ext,?_⟩,_,(),rfl,?_,?_⟩⟩⟩
   ·have:(x+39373*(t+1)).natAbs<2 ^ 64:=by lia
    exact this
   ·show (0:Int)<2147483647;decide
   have ho0:0≤(x+39373*(t+1)) ^ (5:Int).toNat % 2147483647:=emod_nonneg _ (by ext)
   have ho1:(x+39373*(t+1)) ^ (5:Int).toNat % 2147483647<2147483647:=emod_lt_of_pos _ (by ext)
   generalize (x+39373*(t+1)) ^ (5:Int).toNat % 2147483647=on at ho0 ho1 ⊢
   refine ⟨(),_,(),rfl,.inr ⟨by ext,by ext⟩,(),.inl ⟨b,_,_,(),rfl,aq.of ao,rfl,(),.inl ⟨b,_,_,(),rfl,aq.of ao,rfl,_,(),rfl,.inl ⟨?_,?_⟩,_,(),rfl,.inr ⟨by ext,by ext⟩,_,(),rfl,_,(),rfl,?_,_,(),rfl,⟨by ext,by ext⟩,(),_,(),rfl,hm0,?_⟩⟩⟩
   ·show -(2 ^ 64)<t+1;lia
   ·show t+1<2 ^ 64;lia
   ·show (0:Int)<2147483629;decide
   ·exact kk _ (t+1) _ (emod_nonneg _ (Int.ne_of_gt hm0)) (emod_lt_of_pos _ hm0) (by lia) (Int.le_refl _) (ya (ag.refl H) hb) ⟨c,x,ao,hc,hx0,hx1⟩
end
end K15
namespace K15
open PySem L2
section
variable {P:Program}{w:World}{K:Frag}{mg:Str→Option Value}{base:Heap}
inductive Eo (K:Frag) (vs:List V) (H:Hp) (Q:VK):Prop
 | mk (a:Addr) (ns:List Int) (many:Int) (h0:vs=[.ref a,.int many]) (h1:aq K H a (ns.map V.int)) (h2:ns.length≤63) (h3:2≤many) (h4:many≤63) (h5:∀p ms H',H p=none→ag H H'→H' p=some (.lst ((ms:List Int).map V.int))→(ms.length:Int)≤many→Q (.ref p) H')
def GQ (K:Frag):Sp:=fun vs H Q _=>Eo K vs H Q
theorem CJ (T:Txt K mg):aQ P w K mg base CX0 1 T.l_folded_.f T.l_folded_.d ["_law_script", "_law_many"] (GQ K):=by
 refine T.l_folded_.F.ok lE (fun vs H Q E h=>?_) (fun cdv A outer s H vs Q E hr h=>?_)
 ·obtain ⟨a,ns,many,rfl,_⟩:=h
  rfl
 ·obtain ⟨a,ns,many,rfl,hS,hn,hm0,hm1,kk⟩:=h
  refine ⟨_,(fC (jo (i:=2) lE.nd rfl (Or.inl rfl) (di tw (by rfl) T.b_list fY (cR (cg xz (pv 0) dA (cH (pv 1))) cC)))
   (fC (dX PassesOwn.never rfl (FQ rfl T.b_enumerate (cR (cg xz (pv 0) (cH (pv 1)) (cH bJ)) cC)) (Ax rfl (aC (gW (i:=3) lE.nd rfl (Or.inl rfl)) (aC (gW (i:=4) lE.nd rfl (Or.inl rfl)) cF))) (ac (gc (ap bL (bP km (pv 2) (ap jn (pv 3) (pv 1)) (fun _ _=>rfl)) (ap gP (pv 4) (ap bL (pv 3) bJ))) (ua (pv 2) (ap jn (pv 3) (pv 1)) wo))))
   (ac (am (pv 2))))),?_⟩
  have cutE:∀(lo hi:Option Int),∃cs:List Int,dW (ns.map V.int) lo hi=cs.map V.int∧cs.length≤ns.length∧cs=(ns.drop (HT.sIx ns.length 0 lo)).take (HT.sIx ns.length ns.length hi - HT.sIx ns.length 0 lo):=fun lo hi=>by
   refine ⟨(ns.drop (HT.sIx ns.length 0 lo)).take (HT.sIx ns.length ns.length hi - HT.sIx ns.length 0 lo),?_,?_,rfl⟩
   ·unfold dW
    rw [length_map,map_take,map_drop]
   ·rw [length_take,length_drop];lia
  obtain ⟨c1,e1,l1,q1⟩:=cutE none (some many)
  obtain ⟨c2,e2,l2,q2⟩:=cutE (some many) (some 63)
  have em:many=((many.toNat:Nat):Int):=by lia
  have l1m:c1.length=min many.toNat ns.length:=by
   rw [q1,em,HT.sIx_nat,HT.sIx_none,length_take,length_drop]
   simp only [toNat_natCast]
   lia
  have l2m:c2.length≤ns.length - many.toNat:=by
   rw [q2,em,HT.sIx_nat,length_take,length_drop]
   simp only [toNat_natCast]
   lia
  refine ⟨(),(),(),a,(),hS,fun p1 hp1=>⟨p1,(),.inl (aq.of ao),fun p2 hp2=>?_⟩⟩
  rw [e1] at hp2 ⊢
  have n12:p2≠p1:=fun z=>by rw [z,ao] at hp2;cases hp2
  have s2:ag H (aE (aE H p1 (.lst (c1.map V.int))) p2 (.lst (c1.map V.int))):=(ag.new hp1).trans (ag.new hp2)
  refine ⟨(),(),(),(),a,(),s2.seq hS,fun p3 hp3=>⟨p3,rfl,⟨_,aq.of ao⟩,?_⟩⟩
  rw [e2]
  have s3:=s2.trans (ag.new (o:=.lst (c2.map V.int)) hp3)
  have n23:p2≠p3:=fun z=>by rw [←z,ao] at hp3;cases hp3
  refine ⟨fun i m σ H'=>m=c2.length - i∧i≤c2.length∧eF fun (ms:List Int) (v3 v4:Option V)=>σ=[some (.ref a),some (.int many),some (.ref p2),v3,v4]∧ms.length=c1.length∧H' p2=some (.lst (ms.map V.int))∧H' p3=some (.lst (c2.map V.int))∧(∀b o,b≠p2→H b=some o→H' b=some o),⟨(),zero_le _,c1,none,none,rfl,rfl,?_,ao,fun b o _ h=>s3 b o h⟩,?_⟩
  ·rw [aj n23];exact ao
  rintro i m σ H' ⟨rfl,hi,ms,v3,v4,rfl,hms,h2,h3,hk⟩
  by_cases hlt:i<c2.length
  ·refine .inr ⟨⟨c2.map V.int,V.int c2[i],aq.of h3,by rw [getElem?_map];simp [hlt]⟩,_,fun σ' H'' z=>z,?_⟩
   rintro x H'' ⟨t,y,ht,rfl,rfl,hy⟩
   have hy':=hy _ (aq.of h3)
   rw [getElem?_map,getElem?_eq_getElem hlt] at hy'
   obtain rfl:V.int c2[i]=y:=Option.some.inj hy'
   have nt2:p2≠t:=aS h2 ht
   have nt3:p3≠t:=aS h3 ht
   have hlen:many.toNat<ns.length:=by lia
   have hmod0:0≤(i:Int) % many:=emod_nonneg _ (by lia)
   have hmod1:(i:Int) % many<many:=emod_lt_of_pos _ (by lia)
   have hixlt:((i:Int) % many).toNat<ms.length:=by lia
   refine ⟨t,(),af.of ao,rfl,_,(),_,(),rfl,(),(),(),_,(),rfl,(by show (0:Int)<many;lia),.inl ⟨p2,ms.map V.int,_,V.int ms[((i:Int) % many).toNat],rfl,rfl,aq.of (by rw [aj nt2];exact h2),A1 hmod0 hixlt,(),(),_,(),rfl,_,(),rfl,.inr ⟨?_,?_⟩,_,(),rfl,(),(),(),_,(),rfl,(by show (0:Int)<many;lia),p2,ms.map V.int,_,((i:Int) % many).toNat,rfl,rfl,(by rw [aj nt2];exact h2),?_,?_⟩⟩
   ·lia
   ·lia
   ·unfold vh
    rw [if_pos hmod0,length_map,if_pos (by lia)]
   ·refine ⟨c2.length - (i+1),by lia,rfl,hlt,ms.set ((i:Int) % many).toNat (ms[((i:Int) % many).toNat]+c2[i]*((i:Int)+2)),_,(),by rw [List.length_set];exact hms,?_,?_,fun b o hb h=>?_⟩
    ·rw [ao,List.map_set]
    ·rw [aj (Ne.symm n23),aj nt3];exact h3
    ·have:=hk b o hb h
     rw [aj hb,aj (aS this ht)]
     exact this
  ·refine .inl ⟨⟨_,aq.of h3,by rw [length_map];lia⟩,?_⟩
   have hp2':H p2=none:=by
    rw [aj n12] at hp2
    exact hp2
   have sH:ag H H':=fun b o h=>hk b o (aS h hp2') h
   exact ⟨(),kk p2 ms H' hp2' sH h2 (by lia)⟩
end
end K15
namespace K15
open PySem L2
section
variable {P:Program}{w:World}{K:Frag}{mg:Str→Option Value}{base:Heap}
theorem vf (T:Txt K mg):aQ P w K mg base CX0 2 T.fraction_.f T.fraction_.d ["n", "d"] HP:=by
 have G_common_divisor:=#[(my)]
 refine T.fraction_.F.ok pG (fun vs H Q E h=>?_) (fun cdv A outer s H vs Q E hr h=>?_)
 ·obtain ⟨n,d,rfl,_⟩:=h
  rfl
 ·obtain ⟨n,d,rfl,hd,hs,k⟩:=h
  refine ⟨_,#[#[2,pG.nd,dk,#[G_common_divisor,mR,T.common_divisor_,#[[#[0,tJ],#[1,oJ]]]]] :: #[#[bd 8 #[aA 8 (@lB _) #[1,oJ] #[()] #[(),()]] #[ac 3 #[2,pG.nd,dk,#[uL 6 (@pZ _) #[2,dk]]]] (@aJ _)] :: #[ac 3 #[am 4 #[ar 5 #[[#[ap 8 (@zT _) #[0,tJ] #[2,dk]],#[ap 8 (@zT _) #[1,oJ] #[2,dk]]]]]]]]],?_⟩
  refine ⟨(),(),n,d,rfl,(),_,(),rfl,(),?_⟩
  have g0:=KM.gcd_pos (n:=n) hd
  have gs:=LA (n:=n) hd hs
  have kl:=KM.fdiv_low (n:=n) hd
  by_cases h0:d<0
  ·rw [decide_eq_true h0]
   rw [if_pos h0] at kl
   have c1:∀x,Ci x (-((Int.gcd n d:Nat):Int)):=fun x=>⟨by lia,gs.neg⟩
   refine cf ⟨(),(),(),(),_,(),rfl,c1 n,(),(),_,(),rfl,c1 d,(by show 2≤10000;decide),fun p H1 nw=>?_⟩
   have q:=k p H1
   rw [←kl] at q
   exact q nw
  ·rw [decide_eq_false h0]
   rw [if_neg h0] at kl
   have c1:∀x,Ci x ((Int.gcd n d:Nat):Int):=fun x=>⟨by lia,gs⟩
   refine aX ⟨(),(),_,(),rfl,c1 n,(),(),_,(),rfl,c1 d,(by show 2≤10000;decide),fun p H1 nw=>?_⟩
   have q:=k p H1
   rw [←kl] at q
   exact q nw
theorem rA (T:Txt K mg):aQ P w K mg base CX0 3 T.times_.f T.times_.d ["one", "other"] (C9 LD L8):=by
 have G_fraction:=#[(vf)]
 refine T.times_.F.ok En (fun vs H Q E h=>?_) (fun cdv A outer s H vs Q E hr h=>?_)
 ·obtain ⟨a,b,n1,d1,n2,d2,rfl,_⟩:=h
  rfl
 ·obtain ⟨a,b,n1,d1,n2,d2,rfl,ha,hb,⟨z1,z2,z3,z4,hd⟩,k⟩:=h
  refine ⟨_,#[ac 3 #[am 4 #[G_fraction,vZ,T.fraction_,#[[#[ap 8 (@eX _) #[#[0,vp][#[()]]] #[#[1,ss][#[()]]]],#[ap 8 (@eX _) #[#[0,vp][#[()]]] #[#[1,ss][#[()]]]]]]]]],?_⟩
  exact ⟨(),a,_,_,(),rfl,af.of ha,rfl,(),b,_,_,(),rfl,af.of hb,rfl,_,(),rfl,mm z1 z3,
   _,rfl,a,_,_,_,rfl,rfl,af.of ha,rfl,_,rfl,b,_,_,_,rfl,rfl,af.of hb,rfl,_,_,rfl,rfl,mm z2 z4,_,_,rfl,hd,y4 z2 z4,k⟩
theorem GX (T:Txt K mg):aQ P w K mg base CX0 3 T.over_.f T.over_.d ["one", "other"] (C9 Mf LH):=by
 have G_fraction:=#[(vf)]
 refine T.over_.F.ok GA (fun vs H Q E h=>?_) (fun cdv A outer s H vs Q E hr h=>?_)
 ·obtain ⟨a,b,n1,d1,n2,d2,rfl,_⟩:=h
  rfl
 ·obtain ⟨a,b,n1,d1,n2,d2,rfl,ha,hb,⟨z1,z2,z3,z4,hd⟩,k⟩:=h
  refine ⟨_,#[ac 3 #[am 4 #[G_fraction,wE,T.fraction_,#[[#[ap 8 (@eX _) #[#[0,wQ][#[()]]] #[#[1,uf][#[()]]]],#[ap 8 (@eX _) #[#[0,wQ][#[()]]] #[#[1,uf][#[()]]]]]]]]],?_⟩
  exact ⟨(),a,_,_,(),rfl,af.of ha,rfl,(),b,_,_,(),rfl,af.of hb,rfl,_,(),rfl,mm z1 z4,
   _,rfl,a,_,_,_,rfl,rfl,af.of ha,rfl,_,rfl,b,_,_,_,rfl,rfl,af.of hb,rfl,_,_,rfl,rfl,mm z2 z3,_,_,rfl,hd,y4 z2 z3,k⟩
theorem pP (T:Txt K mg):aQ P w K mg base CX0 1 T.compared_.f T.compared_.d ["one", "other"] KY:=by
 refine T.compared_.F.ok pR (fun vs H Q E h=>?_) (fun cdv A outer s H vs Q E hr h=>?_)
 ·obtain ⟨a,b,n1,d1,n2,d2,rfl,_⟩:=h
  rfl
 ·obtain ⟨a,b,n1,d1,n2,d2,rfl,ha,hb,z1,z2,z3,z4,k⟩:=h
  refine ⟨_,#[#[2,pR.nd,kh,#[ap 8 (@eX _) #[#[0,qB][#[()]]] #[#[1,oE][#[()]]]]] :: #[#[3,pR.nd,jA,#[ap 8 (@eX _) #[#[1,oE][#[()]]] #[#[0,qB][#[()]]]]] :: #[#[bd 8 #[aA 8 (@lB _) #[2,kh] #[3,jA] #[(),()]] #[ac 3 #[am 4 #[uL 6 (@pZ _) #[()]]]] (@aJ _)] :: #[#[bd 8 #[aA 8 (@lD _) #[2,kh] #[3,jA] #[(),()]] #[ac 3 #[am 4 #[()]]] (@aJ _)] :: #[ac 3 #[am 4 #[()]]]]]]],?_⟩
  refine ⟨(),a,_,_,(),rfl,af.of ha,rfl,(),b,_,_,(),rfl,af.of hb,rfl,_,(),rfl,mm z1 z4,(),b,_,_,(),rfl,af.of hb,rfl,(),a,_,_,(),rfl,af.of ha,rfl,_,(),rfl,mm z3 z2,
   _,rfl,_,rfl,_,_,rfl,rfl,_,rfl,?_⟩
  unfold rJ at k
  by_cases h1:n1*d2<n2*d1
  ·rw [decide_eq_true h1]
   rw [if_pos h1] at k
   exact cf ⟨(),k⟩
  ·rw [decide_eq_false h1]
   rw [if_neg h1] at k
   refine aX ⟨(),(),_,(),rfl,(),?_⟩
   by_cases h2:n2*d1<n1*d2
   ·rw [decide_eq_true h2]
    rw [if_pos h2] at k
    exact cf k
   ·rw [decide_eq_false h2]
    rw [if_neg h2] at k
    exact aX k
end
end K15
namespace K15
open PySem L2
section
variable {P:Program}{w:World}{K:Frag}{mg:Str→Option Value}{base:Heap}
theorem Bj {n d:Int} (hd:d≠0) (h:d.natAbs.log2<9000):BN n ((Int.gcd n d:Nat):Int):=by
 have g0:=KM.gcd_pos (n:=n) hd
 refine ⟨by lia,?_⟩
 have h1:Int.gcd n d≤d.natAbs:=Nat.le_of_dvd (by lia) (by
  have:((Int.gcd n d:Nat):Int) ∣ d:=gcd_dvd_right ..
  exact Int.ofNat_dvd_left.mp this)
 have h2:d.natAbs<2 ^ 9000:=(log2_lt (by lia)).mp h
 rw [Int.natAbs_natCast]
 exact (log2_lt (by lia)).mpr (Nat.lt_of_le_of_lt h1 h2)
inductive Hg (vs:List V) (H:Hp) (Q:VK):Prop
 | mk (n d:Int) (h0:vs=[.int n,.int d]) (h1:0<d) (h2:Sz 9000 d) (h3:∀p H',Nw H p (fr (KM.low n d)) H'→Q (.ref p) H')
def Jy:Sp:=fun vs H Q _=>Hg  vs H Q
theorem nu (T:Txt K mg):aQ P w K mg base CX0 1 T.l_frac_.f T.l_frac_.d ["_law_n", "_law_d"] Jy:=by
 refine T.l_frac_.F.ok pq (fun vs H Q E h=>?_) (fun cdv A outer s H vs Q E hr h=>?_)
 ·obtain ⟨n,d,rfl,_⟩:=h
  rfl
 ·obtain ⟨n,d,rfl,hd,hs,k⟩:=h
  have hl:=hs.log (Int.ne_of_gt hd)
  refine ⟨_,#[#[l6 2 (2) (3) _ _ _ _ _ _ _ _ _ _ _ rfl pq.nd rfl rfl (by ext) cV d8 #[[#[(),(),(@nQ _),ue,T.b_abs,(@jV),#[[#[0,ur]]]],#[(),(),(@nQ _),ue,T.b_abs,(@jV),#[[#[1,oz]]]]]] (by kernel_rfl) (by rfl)] :: #[#[oq 6 PassesOwn.never #[aA 8 (@lD _) #[3,d8] #[()] #[(),()]] #[ac 3 #[l6 2 (2) (3) _ _ _ _ _ _ _ _ _ _ _ rfl pq.nd rfl rfl (by ext) cV d8 #[[#[3,d8],#[ap 8 (@jn _) #[2,cV] #[3,d8]]]] (by kernel_rfl) (by rfl)]]] :: #[#[2,pq.nd,cV,#[ap 8 (@gP _) #[2,cV] #[fA 8 #[aA 8 (@lD _) #[1,oz] #[()] #[(),()]] #[()] #[uL 6 (@pZ _) #[()]]]]] :: #[ac 3 #[am 4 #[ar 5 #[[#[ap 8 (@An _) #[0,ur] #[2,cV]],#[ap 8 (@An _) #[1,oz] #[2,cV]]]]]]]]]],?_⟩
  refine ⟨(),(),(),(),_,(),?_⟩
  refine ⟨fun m σ H'=>∃a b:Int,σ=[some (.int n),some (.int d),some (.int a),some (.int b)]∧H'=H∧0≤a∧0≤b∧Int.gcd a b=Int.gcd n d∧m=b.natAbs,⟨_,_,(),rfl,zn n,zn d,KM.gcd_abs n d,rfl⟩,?_⟩
  rintro m σ H' ⟨a,b,rfl,rfl,ha,hb,hg,rfl⟩
  refine ⟨(),_,(),rfl,(),?_⟩
  by_cases hb0:0<b
  ·rw [decide_eq_true hb0]
   refine cf ⟨fun σ' H''=>∃a' b':Int,σ'=[some (.int n),some (.int d),some (.int a'),some (.int b')]∧H''=H'∧0≤a'∧0≤b'∧Int.gcd a' b'=Int.gcd n d∧b'.natAbs<b.natAbs,?_,?_⟩
   ·rintro σ' H'' ⟨a',b',rfl,rfl,h0,h1,h2,h3⟩
    exact ⟨_,h3,a',b',rfl,rfl,h0,h1,h2,rfl⟩
   ·refine ⟨(),(),(),_,(),rfl,hb0,_,(),?_⟩
    have q0:=emod_nonneg a (Int.ne_of_gt hb0)
    have q1:=emod_lt_of_pos a hb0
    exact ⟨b,a % b,rfl,rfl,hb,q0,(KM.gcd_emod a b).trans hg,by lia⟩
  ·have hb1:b=0:=by lia
   subst hb1
   rw [decide_eq_false hb0]
   refine aX ?_
   have eg:a=((Int.gcd n d:Nat):Int):=by
    rw [←hg,KM.gcd_zero_abs,if_neg (by lia)]
   have c1:=Bj (n:=n) (Int.ne_of_gt hd) hl
   have c2:=Bj (n:=d) (d:=d) (Int.ne_of_gt hd) hl
   rw [←eg] at c1
   refine ⟨(),(),_,(),rfl,(),?_⟩
   rw [decide_eq_true hd]
   refine cf ⟨_,(),rfl,.inr ⟨by ext,by ext⟩,?_⟩
   show oY 2 (V.int (a*1)) _ _ _
   rw [Int.mul_one]
   refine ⟨(),(),_,(),rfl,c1,(),(),_,(),rfl,⟨c1.1,c1.2⟩,(by show 2≤10000;decide),fun p H2 n2=>k p H2 ?_⟩
   unfold KM.low
   rw [if_pos hd,←eg]
   exact n2
theorem AK (T:Txt K mg):aQ P w K mg base CX0 2 T.l_any_gain_.f T.l_any_gain_.d ["_law_box_here"] (JJ 6 1):=by
 have G_l_take:=#[(jH)]
 have G_l_frac:=#[(nu)]
 refine T.l_any_gain_.F.ok mr (fun vs H Q E h=>?_) (fun cdv A outer s H vs Q E hr h=>?_)
 ·obtain ⟨b,t,rfl,_⟩:=h
  rfl
 ·obtain ⟨b,t,rfl,B,ht0,ht1,k⟩:=h
  refine ⟨_,#[#[1,mr.nd,ft,#[G_l_take,hJ,T.l_take_,#[[#[0,eS],#[()]]]]] :: #[#[bd 8 #[aA 8 (@lB _) #[1,ft] #[()] #[(),()]] #[ac 3 #[am 4 #[ar 5 #[[#[()],#[()]]]]]] (@aJ _)] :: #[#[2,mr.nd,lJ,#[ap 8 (@bL _) #[()] #[G_l_take,hJ,T.l_take_,#[[#[0,eS],#[fA 8 #[aA 8 (@fi _) #[1,ft] #[()] #[(),()]] #[()] #[()]]]]]]] :: #[ac 3 #[am 4 #[G_l_frac,sx,T.l_frac_,#[[#[2,lJ],#[ap 8 (@bL _) #[()] #[G_l_take,hJ,T.l_take_,#[[#[0,eS],#[fA 8 #[aA 8 (@fi _) #[1,ft] #[()] #[(),()]] #[()] #[()]]]]]]]]]]]]]],?_⟩
  refine ⟨(),b,8,t,rfl,B,by ext,by ext,ht0,by lia,fun wy t1 H1 w0 w1 h1a h1b s1 B1=>?_⟩
  refine ⟨(),_,(),rfl,(),ma (fun c=>?_) (fun c=>?_)⟩
  ·exact ⟨(by show 2≤10000;decide),fun o H2 n2=>k o _ _ t1 H2 (s1.trans n2.sm.toE) n2.at' (Fb.small (by ext) (by ext) (by ext) (by ext)) (by ext) (B1.same n2.sm) (by lia) (by lia)⟩
  have hw:0<(if decide (V.int wy=V.int 7)=true then (60:Int) else 12)∧(if decide (V.int wy=V.int 7)=true then (60:Int) else 12)≤60:=by split <;> decide
  refine ⟨(),(),rfl,(),Lm ?_⟩
  refine ⟨b,_,t1,rfl,B1,hw.1,pF hw.1 (by lia),by lia,by lia,fun r2 t2 H2 a20 a21 _ _ s2 B2=>⟨_,(),rfl,(),(),(),rfl,(),Lm ?_⟩⟩
  refine ⟨b,_,t2,rfl,B2,hw.1,pF hw.1 (by lia),by lia,by lia,fun r3 t3 H3 a30 a31 _ _ s3 B3=>⟨_,(),rfl,?_⟩⟩
  have f:=FS (n:=1+r2) (d:=1+r3) (by lia) (by lia) (by lia) (by lia)
  exact ⟨_,(),by lia,Sz.mono (m:=40) (by show (1+r3).natAbs<1099511627776;lia) (by ext),fun o H4 n4=>k o _ _ t3 H4 (((s1.trans s2).trans s3).trans n4.sm.toE) n4.at' f.1 f.2 (B3.same n4.sm) (by lia) (by lia)⟩
end
end K15
namespace K15
open PySem L2
def sf (d1 d2 k:Nat):List Nat:=if k<8 then nm d1 k else replicate (k - 7) d2++[d1]
theorem Dz {d1 d2:Nat} (hd:d1≠d2) {n:Nat} (hn:n≤10):((List.range n).map (sf d1 d2)).Nodup:=by
 have all:∀a b:Nat,a<10→b<10→sf d1 d2 a=sf d1 d2 b→a=b:=fun a b ha hb h=>by
  have hl:=congrArg length h
  have hh:=congrArg List.head? h
  unfold sf nm at hl hh
  have r:∀m x:Nat,0<m→(replicate m x).head?=some x:=fun m x hm=>by
   cases m with
   | zero=>lia
   | succ m=>rfl
  have r2:∀(m x:Nat) (l:List Nat),0<m→(replicate m x++l).head?=some x:=fun m x l hm=>by
   cases m with
   | zero=>lia
   | succ m=>rfl
  by_cases c1:a<8 <;> by_cases c2:b<8
  ·simp [c1,c2] at hl;exact hl
  ·rw [if_pos c1,if_neg c2,r _ _ (by lia),r2 _ _ _ (by lia)] at hh
   exact absurd (Option.some.inj hh) hd
  ·rw [if_neg c1,if_pos c2,r _ _ (by lia),r2 _ _ _ (by lia)] at hh
   exact absurd (Option.some.inj hh).symm hd
  ·simp [c1,c2] at hl;lia
 rw [nodup_iff_pairwise_ne,pairwise_map]
 refine List.Pairwise.imp_of_mem (fun {a b} ha hb hab z=>?_) (List.nodup_iff_pairwise_ne.mp List.nodup_range)
 exact hab (all a b (by have:=List.mem_range.mp ha;lia) (by have:=List.mem_range.mp hb;lia) z)
theorem IC {d1 d2 k:Nat} (hk:k<10) (h1:97≤d1) (h2:d1≤122) (h3:97≤d2) (h4:d2≤122):y6 (sf d1 d2 k):=by
 unfold sf
 by_cases c:k<8
 ·rw [if_pos c];exact JF c h1 h2
 ·rw [if_neg c]
  refine ⟨by simp,by simp;lia,fun x hx=>?_⟩
  rcases List.mem_append.mp hx with q | q
  ·rw [(List.mem_replicate.mp q).2];exact ⟨h3,h4⟩
  ·rw [List.mem_singleton.mp q];exact ⟨h1,h2⟩
section
variable {P:Program}{w:World}{K:Frag}{mg:Str→Option Value}{base:Heap}
inductive C0 (vs:List V) (H:Hp) (Q:VK):Prop
 | mk (b:Addr) (many t:Int) (h0:vs=[.ref b,.int many]) (h1:Bx H b t) (h2:0≤t) (h3:t≤900000) (h4:1≤many) (h5:many≤10) (h6:∀q ls t' H',aK (Eb b) H H'→H' q=some (.tup ((ls:List (List Nat)).map au))→ls.length=many.toNat→ls.Nodup→(∀l∈ls,y6 l)→Bx H' b t'→t≤t'→t'≤t+12→Q (.ref q) H')
def EV:Sp:=fun vs H Q _=>C0  vs H Q
theorem AA (T:Txt K mg):aQ P w K mg base CX0 2 T.l_names_by_.f T.l_names_by_.d ["_law_box_here", "_law_many"] EV:=by
 have G_l_take:=#[(jH)]
 refine T.l_names_by_.F.ok dD (fun vs H Q E h=>?_) (fun cdv A outer s H vs Q E hr h=>?_)
 ·obtain ⟨b,many,t,rfl,_⟩:=h
  rfl
 ·obtain ⟨b,many,t,rfl,B,ht0,ht1,hm1,hm2,k⟩:=h
  refine ⟨_,#[#[gc 6 #[ar 5 #[[#[dJ 4],#[G_l_take,gZ,T.l_take_,#[[#[0,(eQ)],#[()]]]],#[G_l_take,gZ,T.l_take_,#[[#[0,(eQ)],#[()]]]]]]] (@cx _ (K) _ _ _ _ (3) rfl #[aC 5 #[gW 2 (2) _ dD.nd rfl (Or.inr pE) (by first | exact .inl rfl | exact .inr rfl | assumption)] #[aC 5 #[gW 2 (3) _ dD.nd rfl (Or.inr jZ) (by first | exact .inl rfl | exact .inr rfl | assumption)] #[aC 5 #[4,dD.nd,kJ] (@cF _) (by rfl)] (by rfl)] (by rfl)] (by rfl) (by rfl) (by rfl)) (by rfl) (by rfl) (by rfl)] :: #[#[jo 2 (5) _ _ _ _ dD.nd rfl (Or.inr p8) (@gX _ (K) _ _ _ _ _ _ _ _ _ _ _ PySem.F.plainAttrs_str PySem.F.slot_str_join PySem.F.type_str_join (@G9 _ (K) (by rfl)) #[dJ 4] #[[#[ci 7 (["_law_k", "_law_box_here", "_law_letters"]) (1) ([0,2]) _ _ _ _ rfl (by kernel_rfl) #[gn 6 iD T.b_range #[[#[4,kJ]]] (by rfl)] (fun _ _ _ _ _ _=>#[0,(),()]) (fun _ _ _ _ _ _=>@bM _) (fun _ _ _ _ _ _=>#[bP 7 (@zV _) #[2,0] #[G_l_take,(),T.l_take_,#[[#[1,0],#[()]]]] (fun _ _=>rfl)]) (by intro _;rfl)]]] (by rfl) (by rfl) (by rfl) (by rfl) (by rfl) (by rfl)) (by rfl) (by first | exact .inl rfl | exact .inr rfl | assumption)] :: #[#[bd 8 #[aA 8 (@fi _) #[G_l_take,gZ,T.l_take_,#[[#[0,(eQ)],#[()]]]] #[()] #[(),()]] #[#[gc 6 #[#[cP 4 #[[#[ar 5 #[[#[dJ 4],#[dJ 4]]]],#[ar 5 #[[#[dJ 4],#[dJ 4]]]]]]][#[di 9 (@yq _) wx T.b_int (@pS) #[[#[bS 8 (@fi _) #[3,(jZ)] #[()] #[(),()]]]] (by ext) (by ext) (by rfl) (by rfl)]]!] (@cx _ (K) _ _ _ _ (2) rfl #[aC 5 #[gW 2 (6) _ dD.nd rfl (Or.inr sY) (by first | exact .inl rfl | exact .inr rfl | assumption)] #[aC 5 #[gW 2 (7) _ dD.nd rfl (Or.inr qZ) (by first | exact .inl rfl | exact .inr rfl | assumption)] (@cF _) (by rfl)] (by rfl)] (by rfl) (by rfl) (by rfl)) (by rfl) (by rfl) (by rfl)] :: #[ac 3 #[am 4 #[di 9 (@iZ _ (K) (by rfl)) lM T.b_tuple (@gS) #[[#[ci 7 (["_law_k", "_law_other", "_law_sign"]) (1) ([7,6]) _ _ _ _ rfl (by kernel_rfl) #[gn 6 iD T.b_range #[[#[1,kF]]] (by rfl)] (fun _ _ _ _ _ _=>#[0,(),()]) (fun _ _ _ _ _ _=>@bM _) (fun _ _ _ _ _ _=>#[fA 8 #[aA 8 (@lB _) #[0,()] #[()] #[(),()]] #[ap 8 (@A3 _) #[2,0] #[ap 8 (@bL _) #[0,()] #[()]]] #[ap 8 (@Bc _) #[ap 8 (@A3 _) #[1,0] #[ap 8 (@l4 _) #[0,()] #[()]]] #[2,0]]]) (by intro _;rfl)]]] (by ext) (by ext) (by rfl) (by rfl)]]]] (@aJ _)] :: #[ac 3 #[am 4 #[di 9 (@iZ _ (K) (by rfl)) lM T.b_tuple (@gS) #[[#[ci 7 (["_law_k", "_law_behind", "_law_first", "_law_letters"]) (1) ([5,3,2]) _ _ _ _ rfl (by kernel_rfl) #[gn 6 iD T.b_range #[[#[1,kF]]] (by rfl)] (fun _ _ _ _ _ _=>#[0,(),()]) (fun _ _ _ _ _ _=>@bM _) (fun _ _ _ _ _ _=>#[ap 8 (@Bc _) #[bP 7 (@zV _) #[3,0] #[ap 8 (@jn _) #[ap 8 (@bL _) #[2,0] #[ap 8 (@gP _) #[()] #[0,()]]] #[()]] (fun _ _=>rfl)] #[1,0]]) (by intro _;rfl)]]] (by ext) (by ext) (by rfl) (by rfl)]]]]]],?_⟩
  have hz:(Str.ofString "abcdefghijklmnopqrstuvwxyz").length≤sizeLine:=by nofun
  refine ⟨(),b,26,t,rfl,B,by ext,by ext,ht0,by lia,fun f t1 H1 f0 f1 h1a h1b s1 B1=>⟨(),b,8,t1,rfl,B1,by ext,by ext,by lia,by lia,fun r t2 H2 r0 r1 h2a h2b s2 B2=>⟨(by show 3≤10000;decide),fun q H3 n3=>⟨q,(),af.of n3.at',rfl,_,(),_,(),_,(),rfl,?_⟩⟩⟩⟩
  have B3:=B2.same n3.sm
  have s03:=(s1.trans s2).trans n3.sm.toE
  refine ⟨rfl,(),(),by lia,by lia,fun D2 hD2=>gv (n:=r.toNat) (fun i H' ys=>aT fun (cs:List Nat) (t':Int)=>ys=cs.map (fun c=>au [c])∧H' D2=some (.lst ys)∧cs.length=i∧(∀c∈cs,97≤c∧c≤122)∧Bx H' b t'∧t2≤t'∧t'≤t2+i∧aK (Eb b) H3 H') ?_ ?_ ?_ ?_ ?_ ?_ ?_⟩
  ·rw [sizeLine_eq];lia
  ·exact ⟨[],t2,rfl,ao,rfl,fun c h=>(by cases h),B3.same (ag.new hD2),by lia,by lia,(ag.new hD2).toE⟩
  ·rintro i' H'' ys ⟨cs,t7,rfl,e,rfl,_⟩
   exact ⟨e,by simp⟩
  ·intro i' H'' ys hi' _
   exact hi'
  ·intro H'' ys _
   exact le_refl _
  ·have nD2:¬D2=b:=fun z=>B3.ne hD2 z.symm
   rintro i' Ha ys x Hb hi' ⟨cs,t7,rfl,g1,g2,g3,g4,g5,g6,g7⟩ ⟨rfl,rfl⟩
   refine ⟨fK,(),(),b,26,t7,rfl,g4,by ext,by ext,by lia,by lia,fun r8 t8 Hc r80 r81 _ _ jc Cc=>⟨_,_,(),rfl,hz,yy (by lia) (by lia),?_⟩⟩
   have eD:=jc.old D2 _ nD2 g1
   refine ⟨eD,cs++[97+(r8 % 26).toNat],t8,by rw [map_append];rfl,ao,by rw [length_append,g2];rfl,fun c hc=>?_,?_,by lia,by lia,(g7.trans jc).up hD2⟩
   ·rcases List.mem_append.mp hc with h | h
    ·exact g3 c h
    ·rw [List.mem_singleton.mp h];lia
   ·have c':Ch Hc D2 (cs.map (fun c=>au [c])++[au [97+(r8 % 26).toNat]]) _:=Ch.mk'
    exact Cc.ch c' (Ne.symm nD2)
  rintro J4 ys ⟨cs,t7,rfl,g1,g2,g3,C4,g5,g6,j4⟩
  refine ⟨D2,cs.map (fun c=>[c]),?_,rfl,aq.of (by rw [g1,map_map];rfl),?_,?_⟩
  ·rw [show (Str.ofString "")=S [] from EZ]
  ·rw [map_map]
   have:(cs.map ((fun l:List Nat=>l.length) ∘ fun c=>[c])).sum=cs.length:=by
    clear g1 g2 g3 j4
    induction cs with
    | nil=>rfl
    | cons c r ih=>simp at ih ⊢;lia
   rw [this];lia
  have fl:(cs.map (fun c=>[c])).flatten=cs:=by
   clear g1 g2 g3 j4
   induction cs with
   | nil=>rfl
   | cons c r ih=>rw [map_cons,flatten_cons,ih];rfl
  rw [fl]
  have s04:=s03.trans j4
  refine ⟨(),b,4,t7,rfl,C4,by ext,by ext,by lia,by lia,fun r9 t9 H9 r90 r91 _ _ s9 B9=>⟨rfl,(),?_⟩⟩
  have s09:=s04.trans s9
  refine ma (fun c1=>?_) (fun c1=>?_)
  ·-- rows of one letter
   refine ⟨(by show 2≤10000;decide),fun u1 J1 e1=>⟨(by show 2≤10000;decide),fun u2 J2 e2=>⟨(by show 2≤10000;decide),fun u3 J3 e3=>⟨(),rfl,.inr ⟨(),?_⟩⟩⟩⟩⟩
   have ea:Str.ofString "a" = S [97]:=by nofun
   have ez:Str.ofString "z" = S [122]:=by nofun
   generalize decide (V.int f=V.int 25)=cc
   obtain ⟨u,d1,d2,eu,hu,hd⟩:eF fun u d1 d2=>gB [V.ref u1,V.ref u2] (if cc=true then 1 else 0)=some (.ref u)∧J3 u=some (.tup [au [d1],au [d2]])∧97≤d1∧d1≤122∧d1≠d2∧97≤d2∧d2≤122:=by
    cases cc with
    | true=>exact ⟨u2,122,97,rfl,by rw [e3.sm _ _ e2.at',ea,ez],by ext,by ext,by ext,by ext,by ext⟩
    | false=>exact ⟨u1,97,122,rfl,by rw [e3.sm _ _ (e2.sm _ _ e1.at'),ea,ez],by ext,by ext,by ext,by ext,by ext⟩
   refine ⟨u3,_,_,(),rfl,aq.of e3.at',eu,u,(),af.of hu,rfl,_,(),_,(),rfl,?_⟩
   have sJ:=((e1.sm.trans e2.sm).trans e3.sm)
   have BJ:=B9.same sJ
   refine ⟨(),(),by lia,by lia,fun D hD=>gv (n:=many.toNat) (fun i H' ys=>ys=(List.range i).map (fun k=>au (sf d1 d2 k))∧H' D=some (.lst ys)∧ag J3 H') ?_ ⟨rfl,ao,dC hD (ag.refl _)⟩ ?_ ?_ ?_ ?_ ?_⟩
   ·rw [sizeLine_eq];lia
   ·rintro i H' ys ⟨rfl,e,_⟩
    exact ⟨e,by simp⟩
   ·intro i H' ys hi _
    exact hi
   ·intro H' ys _
    exact le_refl _
   ·rintro i H' ys x H'' hi ⟨g1,g2,g3⟩ ⟨rfl,rfl⟩
    refine ⟨fK,(),_,(),rfl,(),ma (fun z=>?_) (fun z=>?_)⟩
    ·have hi8 : i < 8 := by have:(0:Int)+(i:Int)<8:=of_decide_eq_true z
                            lia
     refine ⟨(),(),_,(),rfl,[d1],(),rfl,by lia,by lia,(by show 1≤100;decide),?_⟩
     have en:(replicate (0+(i:Int)+1).toNat [d1]).flatten=sf d1 d2 i:=by
      rw [Es]
      unfold sf nm
      rw [if_pos hi8]
      congr 1
      lia
     rw [en]
     refine ⟨g2,?_,ao,dC hD g3⟩
     rw [g1,range_succ,map_append];rfl
    ·have hi8:¬i<8:=fun q=>z (decide_eq_true (show (0:Int)+(i:Int)<8 by lia))
     refine ⟨(),(),_,(),rfl,[d2],(),rfl,by lia,by lia,(by show 1≤100;decide),(),_,(),rfl,?_,?_⟩
     ·rw [Es,length_replicate];simp;lia
     have en:(replicate (0+(i:Int) - 7).toNat [d2]).flatten++[d1]=sf d1 d2 i:=by
      rw [Es]
      unfold sf
      rw [if_neg hi8]
      congr 2
      lia
     rw [en]
     refine ⟨g2,?_,ao,dC hD g3⟩
     rw [g1,range_succ,map_append];rfl
   rintro H4 ys1 ⟨ey1,eD1,s4⟩
   subst ey1
   refine ⟨D,(),aq.of eD1,fun q5 H5 n5=>k q5 ((List.range many.toNat).map (sf d1 d2)) t9 H5 (((s09.trans sJ.toE).trans s4.toE).trans n5.sm.toE) ?_ (by simp) (Dz hd.2.2.1 (by lia)) ?_ ((BJ.same s4).same n5.sm) (by lia) (by lia)⟩
   ·rw [n5.at',map_map];rfl
   ·intro l hl
    obtain ⟨j,hj,rfl⟩:=List.mem_map.mp hl
    exact IC (by have:=List.mem_range.mp hj;lia) hd.1 hd.2.1 hd.2.2.2.1 hd.2.2.2.2
  ·-- letters of eleven steps
   refine ⟨(),(),by lia,by lia,fun D hD=>gv (n:=many.toNat) (fun i H' ys=>ys=(List.range i).map (fun (k:Nat)=>au ((97+((f+11*(k:Int)) % 26).toNat) :: cs))∧H' D=some (.lst ys)∧ag H9 H') ?_ ⟨rfl,ao,dC hD (ag.refl _)⟩ ?_ ?_ ?_ ?_ ?_⟩
   ·rw [sizeLine_eq];lia
   ·rintro i H' ys ⟨rfl,e,_⟩
    exact ⟨e,by simp⟩
   ·intro i H' ys hi _
    exact hi
   ·intro H' ys _
    exact le_refl _
   ·rintro i H' ys x H'' hi ⟨g1',g2',g3'⟩ ⟨rfl,rfl⟩
    refine ⟨fK,(),(),(),_,(),rfl,.inl ⟨by ext,by ext⟩,_,(),rfl,_,(),rfl,(by show (0:Int)<26;decide),_,_,(),rfl,hz,yy (by lia) (by lia),(),[97+(((f+11*(0+(i:Int))) % 26) % 26).toNat],cs,rfl,rfl,?_,?_⟩
    ·simp;lia
    refine ⟨g2',?_,ao,dC hD g3'⟩
    rw [g1',range_succ,map_append]
    congr 1
    show [au ([97+(((f+11*(0+(i:Int))) % 26) % 26).toNat]++cs)]=[au ((97+((f+11*(i:Int)) % 26).toNat) :: cs)]
    have:(((f+11*(0+(i:Int))) % 26) % 26).toNat=((f+11*(i:Int)) % 26).toNat:=by lia
    rw [this];rfl
   rintro H4 ys1 ⟨ey1,eD1,s4⟩
   subst ey1
   refine ⟨D,(),aq.of eD1,fun q5 H5 n5=>k q5 ((List.range many.toNat).map (fun (k:Nat)=>(97+((f+11*(k:Int)) % 26).toNat) :: cs)) t9 H5 ((s09.trans s4.toE).trans n5.sm.toE) ?_ (by simp) (AC (f:=f) (by simp;lia) ?_) ?_ ((B9.same s4).same n5.sm) (by lia) (by lia)⟩
   ·rw [n5.at',map_map];rfl
   ·intro j l hl
    rw [getElem?_map] at hl
    obtain ⟨j',hj',rfl⟩:=Option.map_eq_some_iff.mp hl
    obtain ⟨hlt,ej⟩:=List.getElem?_eq_some_iff.mp hj'
    rw [List.getElem_range] at ej
    subst ej
    rfl
   ·intro l hl
    obtain ⟨j,hj,rfl⟩:=List.mem_map.mp hl
    refine ⟨by simp,by simp;lia,fun c hc=>?_⟩
    rcases List.mem_cons.mp hc with h | h
    ·rw [h];lia
    ·exact g3 c h
end
end K15
namespace K15
open PySem L2
section
variable {P:Program}{w:World}{K:Frag}{mg:Str→Option Value}{base:Heap}
inductive La (g:KM.Fra→KM.Fra→KM.Fra) (z:Bool) (vs:List V) (H:Hp) (Q:VK):Prop
 | mk (a b:Addr) (p q:KM.Fra) (c1 d1 c2 d2:Nat) (h0:vs=[.ref a,.ref b]) (h1:H a=some (fr p)) (h2:H b=some (fr q)) (h3:Gb c1 d1 p) (h4:Gb c2 d2 q) (h5:c1≤4000) (h6:d1≤4000) (h7:c2≤4000) (h8:d2≤4000) (h9:(z=true→1≤q.1)) (h10:∀o H',Nw H o (fr (g p q)) H'→Q (.ref o) H')
def Id (g:KM.Fra→KM.Fra→KM.Fra) (z:Bool):Sp:=fun vs H Q _=>La g z vs H Q
theorem ka (T:Txt K mg):aQ P w K mg base CX0 2 T.l_product_.f T.l_product_.d ["_law_one", "_law_other"] (Id KM.lTim false):=by
 have G_l_frac:=#[(nu)]
 refine T.l_product_.F.ok zq (fun vs H Q E h=>?_) (fun cdv A outer s H vs Q E hr h=>?_)
 ·obtain ⟨a,b,p,q,c1,d1,c2,d2,rfl,_⟩:=h
  rfl
 ·obtain ⟨a,b,p,q,c1,d1,c2,d2,rfl,ha,hb,fp,fq,h1,h2,h3,h4,_,k⟩:=h
  obtain ⟨z1,z2,z3,z4⟩:Sz 4000 p.1∧Sz 4000 p.2∧Sz 4000 q.1∧Sz 4000 q.2:=⟨fp.n.mono h1,fp.d.mono h2,fq.n.mono h3,fq.d.mono h4⟩
  refine ⟨_,#[ac 3 #[am 4 #[G_l_frac,ul,T.l_frac_,#[[#[ap 8 (@eX _) #[#[0,mK][#[()]]] #[#[1,kC][#[()]]]],#[ap 8 (@eX _) #[#[0,mK][#[()]]] #[#[1,kC][#[()]]]]]]]]],?_⟩
  exact ⟨(),a,_,_,(),rfl,af.of ha,rfl,(),b,_,_,(),rfl,af.of hb,rfl,_,(),rfl,mm z1 z3,
   _,rfl,a,_,_,_,rfl,rfl,af.of ha,rfl,_,rfl,b,_,_,_,rfl,rfl,af.of hb,rfl,_,_,rfl,rfl,mm z2 z4,_,_,rfl,mul_pos (by have:=fp.pos;lia) (by have:=fq.pos;lia),y4 z2 z4,fun o H' n=>k o H' n⟩
theorem uk (T:Txt K mg):aQ P w K mg base CX0 2 T.l_over_.f T.l_over_.d ["_law_one", "_law_other"] (Id cu true):=by
 have G_l_frac:=#[(nu)]
 refine T.l_over_.F.ok DZ (fun vs H Q E h=>?_) (fun cdv A outer s H vs Q E hr h=>?_)
 ·obtain ⟨a,b,p,q,c1,d1,c2,d2,rfl,_⟩:=h
  rfl
 ·obtain ⟨a,b,p,q,c1,d1,c2,d2,rfl,ha,hb,fp,fq,h1,h2,h3,h4,hz,k⟩:=h
  have hq:=hz rfl
  obtain ⟨z1,z2,z3,z4⟩:Sz 4000 p.1∧Sz 4000 p.2∧Sz 4000 q.1∧Sz 4000 q.2:=⟨fp.n.mono h1,fp.d.mono h2,fq.n.mono h3,fq.d.mono h4⟩
  refine ⟨_,#[ac 3 #[am 4 #[G_l_frac,xk,T.l_frac_,#[[#[ap 8 (@eX _) #[#[0,qD][#[()]]] #[#[1,nS][#[()]]]],#[ap 8 (@eX _) #[#[0,qD][#[()]]] #[#[1,nS][#[()]]]]]]]]],?_⟩
  exact ⟨(),a,_,_,(),rfl,af.of ha,rfl,(),b,_,_,(),rfl,af.of hb,rfl,_,(),rfl,mm z1 z4,
   _,rfl,a,_,_,_,rfl,rfl,af.of ha,rfl,_,rfl,b,_,_,_,rfl,rfl,af.of hb,rfl,_,_,rfl,rfl,mm z2 z3,_,_,rfl,mul_pos (by have:=fp.pos;lia) (by lia),y4 z2 z3,fun o H' n=>k o H' n⟩
inductive E4 (vs:List V) (H:Hp) (Q:VK):Prop
 | mk (a b:Addr) (p q:KM.Fra) (h0:vs=[.ref a,.ref b]) (h1:H a=some (fr p)) (h2:H b=some (fr q)) (h3:Sz 4000 p.1) (h4:Sz 4000 p.2) (h5:Sz 4000 q.1) (h6:Sz 4000 q.2) (h7:Q (.int (p.1*q.2 - q.1*p.2)) H)
def GU:Sp:=fun vs H Q _=>E4  vs H Q
theorem rj (T:Txt K mg):aQ P w K mg base CX0 1 T.l_above_.f T.l_above_.d ["_law_one", "_law_other"] GU:=by
 refine T.l_above_.F.ok Cj (fun vs H Q E h=>?_) (fun cdv A outer s H vs Q E hr h=>?_)
 ·obtain ⟨a,b,p,q,rfl,_⟩:=h
  rfl
 ·obtain ⟨a,b,p,q,rfl,ha,hb,z1,z2,z3,z4,k⟩:=h
  refine ⟨_,#[ac 3 #[am 4 #[ap 8 (@l4 _) #[ap 8 (@eX _) #[#[0,o9][#[()]]] #[#[1,mB][#[()]]]] #[ap 8 (@eX _) #[#[1,mB][#[()]]] #[#[0,o9][#[()]]]]]]],?_⟩
  exact ⟨(),a,_,_,(),rfl,af.of ha,rfl,(),b,_,_,(),rfl,af.of hb,rfl,_,(),rfl,mm z1 z4,(),b,_,_,(),rfl,af.of hb,rfl,(),a,_,_,(),rfl,af.of ha,rfl,_,(),rfl,mm z3 z2,_,(),rfl,k⟩
end
end K15
namespace K15
open PySem L2
set_option maxHeartbeats 4000000
theorem Dk {K:Frag}{a:Addr}{c:Bool}{xs:List V}{g:TG}{tb:TS}{D:dj}{σ:St}{H:Hp} (Pv:Nat→St→Hp→Prop) (h0:Pv 0 σ H) (hl:∀i σ H,i≤xs.length→Pv i σ H→jK K H a xs c)
 (hs:∀i x T σ H,xs[i]?=some x→H T=none→Pv i σ H→g (.ref T) σ (aE H T (.tup [.int (i:Int),x])) fun σ2 H2=>tb { D with nx:=Pv (i+1),ct:=Pv (i+1),bk:=D.nx } σ2 H2) (hd:∀σ H,Pv xs.length σ H→D.nx σ H) :
 ∃W:Nat→Nat→St→Hp→Prop,(∃m,W 0 m σ H)∧∀i m σ H,W i m σ H→
  ((zf K a c).stop i H∧D.nx σ H)∨((zf K a c).go i H∧∃N:St→Hp→Prop,(∀σ' H',N σ' H'→∃m',m'<m∧W (i+1) m' σ' H')∧∀x H',(zf K a c).yld i H x H'→g x σ H' fun σ2 H2=>tb { D with nx:=N,ct:=N,bk:=D.nx } σ2 H2):=by
 refine ⟨fun i m σ H=>m=xs.length - i∧i≤xs.length∧Pv i σ H,⟨xs.length,by simp,zero_le _,h0⟩,?_⟩
 rintro i m σ H ⟨rfl,hi,p⟩
 have q1:=hl i σ H hi p
 by_cases hlt:i<xs.length
 ·refine .inr ⟨⟨xs,xs[i],q1,by simp [hlt]⟩,Pv (i+1),fun σ' H' p'=>⟨xs.length - (i+1),by lia,rfl,hlt,p'⟩,fun x H' y=>?_⟩
  obtain ⟨T,u,hT,rfl,rfl,e1⟩:=y
  exact hs i u T σ H (e1 xs q1) hT p
 ·have e:i=xs.length:=by lia
  subst e
  exact .inl ⟨⟨xs,q1,rfl⟩,hd _ _ p⟩
theorem bU {E:Addr→Prop}{H:Hp}{v:V}{ls:List (List Nat)}{ts:List aa} (h:aU E H v (bX ls ts)):pc fun a p q ys=>v=.ref a∧H a=some (.tup [.ref p,.ref q])∧H p=some (.tup (ls.map au))∧H q=some (.tup ys)∧ay E H ys (ts.map jD):=by
 have sall:∀{ls:List (List Nat)}{xs:List V},ay E H xs (ls.map fun l=>PyData.str (S l))→xs=ls.map au:=by
  intro ls
  induction ls with
  | nil=>intro xs h;cases h;rfl
  | cons l r ih=>
   intro xs h
   cases h with
   | cons h1 h2=>cases h1;rw [ih h2];rfl
 cases h with
 | @tup a xs _ h r=>
  cases r with
  | cons h1 r=>
  cases r with
  | cons h2 r=>
  cases r
  cases h1 with
  | @tup p ps _ hp rp=>
  cases h2 with
  | @tup q ys _ hq rq=>
   have e:=sall rp
   subst e
   exact ⟨a,p,q,ys,rfl,h,hp,hq,rq⟩
theorem kM {E:Addr→Prop}{H:Hp}{v:V}{t:aa} (h:aU E H v (jD t)):pc fun a om og op=>v=.ref a∧H a=some (.tup [.str (S t.bg),.str (S t.en),.ref om,.ref og,.ref op])∧H om=some (fr t.most)∧H og=some (fr t.gain)∧H op=some (fr t.price):=by
 cases h with
 | @tup a xs _ h r=>
  cases r with
  | @cons u1 _ _ _ h1 r=>
  cases r with
  | @cons u2 _ _ _ h2 r=>
  cases r with
  | @cons u3 _ _ _ h3 r=>
  cases r with
  | @cons u4 _ _ _ h4 r=>
  cases r with
  | @cons u5 _ _ _ h5 r=>
  cases r
  cases h1
  cases h2
  obtain ⟨om,rfl,ho⟩:=uJ h3
  obtain ⟨og,rfl,hg⟩:=uJ h4
  obtain ⟨op,rfl,hp⟩:=uJ h5
  exact ⟨a,om,og,op,rfl,h,ho,hg,hp⟩
theorem vM {H H':Hp}{D:Addr}{ys zs:List V}{ds:List PyData}{v:V}{d:PyData} (c:Ch H D zs H') (hD:H D=some (.lst ys)) (i:ay ED H ys ds) (iv:aU ED H v d):ay ED H' (ys++[v]) (ds++[d]):=
 (i.mono ⟨fun _ _ n _=>absurd trivial n,fun _ _ e=>c.tup e hD⟩).append (.cons (iv.tupC c hD) .nil)
theorem Ab:Gb 1 1 (1,1):=⟨show (1:Int).natAbs<2 ^ 1 by ext,show (1:Int).natAbs<2 ^ 1 by ext,by ext⟩
structure dL (ls:List (List Nat)) (t:aa):Prop where
 b:t.bg∈ls
 e:t.en∈ls
 ne:t.bg≠t.en
 fm:Gb 20 3 t.most
 fg:Gb 6 6 t.gain
 g1:1≤t.gain.1
 fp:Gb 24 24 t.price
 m0:0≤t.most.1
 mc:Int.gcd t.most.1 t.most.2=1
section
variable {P:Program}{w:World}{K:Frag}{mg:Str→Option Value}{base:Heap}
theorem Lq:Sz 4000 (1:Int):=Sz.mono (m:=1) (show (1:Int).natAbs<2 ^ 1 by ext) (by ext)
theorem gz {a b:Nat}{p:KM.Fra} (h:Gb a b p) (ha:a≤4000) (hb:b≤4000):Sz 4000 p.1∧Sz 4000 p.2:=⟨h.n.mono ha,h.d.mono hb⟩
theorem gd {a b c d:Nat}{p q:KM.Fra} (h:Gb a b p) (k:Gb c d q):p.2*q.2≠0:=mul_ne_zero (by have:=h.pos;lia) (by have:=k.pos;lia)
theorem Ij {i j:Int}:decide (0<rJ i j)=decide (j<i):=by
 unfold rJ
 by_cases h:i<j
 ·rw [if_pos h,decide_eq_false (show ¬j<i by lia)];rfl
 ·rw [if_neg h]
  by_cases h2:j<i
  ·rw [if_pos h2,decide_eq_true h2];rfl
  ·rw [if_neg h2,decide_eq_false h2];rfl
end
end K15
namespace K15
open PySem L2
set_option maxHeartbeats 4000000
section
variable {P:Program}{w:World}{K:Frag}{mg:Str→Option Value}{base:Heap}
end
end K15
namespace K15
open PySem L2
set_option maxHeartbeats 4000000
theorem Mu {a b:List Nat}:tM (V.str (S a)) (V.str (S b))=(a==b):=by
 show (S a==S b)=(a==b)
 by_cases h:a=b
 ·subst h;simp
 ·rw [beq_eq_false_iff_ne.mpr h,beq_eq_false_iff_ne.mpr]
  exact fun z=>h (rX z)
theorem Mt (l:List Nat) (es:List (List Nat)):C2 (au l) (es.map au)=es.contains l:=by
 unfold C2
 induction es with
 | nil=>rfl
 | cons e r ih=>
  rw [map_cons,any_cons,ih,List.contains_cons]
  have:tM (au e) (au l)=(l==e):=by rw [show tM (au e) (au l)=(e==l) from Mu];exact Bool.beq_comm
  rw [this]
theorem JR (es:List (List Nat)):(es.map au).all mM=true:=by
 rw [all_eq_true]
 intro v hv
 obtain ⟨l,_,rfl⟩:=List.mem_map.mp hv
 rfl
theorem vT {α:Type} [DecidableEq α]:∀{xs ys:List α},xs.Nodup→(∀x∈xs,x∈ys)→xs.length≤ys.length
 | [],_,_,_=>zero_le _
 | x :: xs,ys,nd,h=>by
  rw [List.nodup_cons] at nd
  have hx:=h x (mem_cons_self ..)
  have:=vT (xs:=xs) (ys:=ys.erase x) nd.2 fun y hy=>(List.mem_erase_of_ne (fun (z:y=x)=>nd.1 (z▸hy))).mpr (h y (mem_cons_of_mem _ hy))
  rw [List.length_erase_of_mem hx] at this
  have:0<ys.length:=List.length_pos_of_mem hx
  simp
  lia
section
variable {P:Program}{w:World}{K:Frag}{mg:Str→Option Value}{base:Heap}
end
end K15
namespace K15
open PySem L2
set_option maxHeartbeats 4000000
section
variable {P:Program}{w:World}{K:Frag}{mg:Str→Option Value}{base:Heap}
end
end K15
namespace K15
open PySem L2
set_option maxHeartbeats 4000000
section
variable {P:Program}{w:World}{K:Frag}{mg:Str→Option Value}{base:Heap}
end
end K15
namespace K15
open PySem L2
set_option maxHeartbeats 4000000
theorem Af {α:Type} (n:Nat) (x:α):(replicate n [x]).flatten=replicate n x:=by
 induction n with
 | zero=>rfl
 | succ n ih=>rw [replicate_succ,flatten_cons,ih,replicate_succ];rfl
theorem He {α:Type}{ls:List α} (nd:ls.Nodup) {i j:Nat}{x:α} (h1:ls[i]?=some x) (h2:ls[j]?=some x):i=j:=by
 obtain ⟨a1,e1⟩:=List.getElem?_eq_some_iff.mp h1
 obtain ⟨a2,e2⟩:=List.getElem?_eq_some_iff.mp h2
 exact jJ nd a1 a2 (e1.trans e2.symm)
section
variable {P:Program}{w:World}{K:Frag}{mg:Str→Option Value}{base:Heap}
end
end K15
namespace K15
open PySem L2
set_option maxHeartbeats 4000000
section
variable {P:Program}{w:World}{K:Frag}{mg:Str→Option Value}{base:Heap}
inductive Kc (a b:Nat) (vs:List V) (H:Hp) (Q:VK):Prop
 | mk (bx:Addr) (t:Int) (h0:vs=[.ref bx]) (h1:Bx H bx t) (h2:0≤t) (h3:t≤900000) (h4:∀(o:Addr) (z:KM.Fra) (t':Int) (H':Hp),aK (Eb bx) H H'→H' o=some (fr z)→Gb a b z→0≤z.1→Int.gcd z.1 z.2=1→Bx H' bx t'→t≤t'→t'≤t+2→Q (.ref o) H')
def IJ (a b:Nat):Sp:=fun vs H Q _=>Kc a b vs H Q
theorem Bz {a b:Nat}{n d:Int} (h1:n.natAbs<2 ^ a) (h2:d.natAbs<2 ^ b) (h3:1≤d):Gb a b (n,d):=⟨h1,h2,h3⟩
theorem C6 {n d:Int} (hd:0<d) (h:0≤n):0≤(KM.low n d).1:=by
 have:=(KM.low_sgn (n:=n) hd).2
 by_cases q:(KM.low n d).1<0
 ·have:=this.mp q;lia
 ·lia
theorem yE (T:Txt K mg):aQ P w K mg base CX0 2 T.l_any_much_.f T.l_any_much_.d ["_law_box_here"] (IJ 20 3):=by
 have G_l_take:=#[(jH)]
 have G_l_frac:=#[(nu)]
 refine T.l_any_much_.F.ok sq (fun vs H Q E h=>?_) (fun cdv A outer s H vs Q E hr h=>?_)
 ·obtain ⟨b,t,rfl,_⟩:=h
  rfl
 ·obtain ⟨b,t,rfl,B,ht0,ht1,k⟩:=h
  refine ⟨_,#[#[1,sq.nd,fe,#[G_l_take,kH,T.l_take_,#[[#[0,jb],#[()]]]]] :: #[#[bd 8 #[aA 8 (@fi _) #[1,fe] #[()] #[(),()]] #[ac 3 #[am 4 #[ar 5 #[[#[()],#[()]]]]]] (@aJ _)] :: #[#[bd 8 #[aA 8 (@fi _) #[1,fe] #[()] #[(),()]] #[ac 3 #[am 4 #[ar 5 #[[#[ap 8 (@Ad _) #[()] #[()]],#[()]]]]]] (@aJ _)] :: #[ac 3 #[am 4 #[G_l_frac,sX,T.l_frac_,#[[#[ap 8 (@bL _) #[()] #[G_l_take,kH,T.l_take_,#[[#[0,jb],#[()]]]]],#[#[cP 4 #[[#[()],#[()],#[()],#[()],#[()],#[()]]]][#[ap 8 (@l4 _) #[1,fe] #[()]]]!]]]]]]]]],?_⟩
  refine ⟨(),b,8,t,rfl,B,by ext,by ext,ht0,by lia,fun wy t1 H1 w0 w1 h1a h1b s1 B1=>?_⟩
  refine ⟨(),rfl,(),ma (fun c=>?_) (fun c=>?_)⟩
  ·exact ⟨(by show 2≤10000;decide),fun o H2 n2=>k o (0,1) t1 H2 (s1.trans n2.sm.toE) n2.at' (Bz (by ext) (by ext) (by ext)) (by ext) (by ext) (B1.same n2.sm) (by lia) (by lia)⟩
  refine ⟨(),rfl,(),ma (fun c'=>?_) (fun c'=>?_)⟩
  ·have q6:(10:Int) ^ (6:Int).toNat=1000000:=by decide
   refine ⟨_,(),rfl,⟨by ext,by ext,by ext⟩,(by show 2≤10000;decide),fun o H2 n2=>k o (1000000,1) t1 H2 (s1.trans n2.sm.toE) ?_ (Bz (by ext) (by ext) (by ext)) (by ext) (by ext) (B1.same n2.sm) (by lia) (by lia)⟩
   rw [n2.at']
   show some (HO.tup [V.int ((10:Int) ^ (6:Int).toNat),V.int 1])=_
   rw [q6]
  have hw:wy≠0:=fun z=>c (by rw [z];decide)
  have hw':wy≠1:=fun z=>c' (by rw [z];decide)
  refine ⟨(),b,12,t1,rfl,B1,by ext,by ext,by lia,by lia,fun r2 t2 H2 a20 a21 _ _ s2 B2=>⟨_,(),rfl,(by show 6≤10000;decide),fun l5 H5 n5=>?_⟩⟩
  obtain ⟨e,ee,he0,he1⟩:∃e:Int,gB [V.int 1,V.int 1,V.int 1,V.int 2,V.int 3,V.int 7] (wy - 2)=some (V.int e)∧1≤e∧e≤7:=by
   obtain rfl | rfl | rfl | rfl | rfl | rfl:wy=2∨wy=3∨wy=4∨wy=5∨wy=6∨wy=7:=by lia
   ·exact ⟨1,rfl,by ext,by ext⟩
   ·exact ⟨1,rfl,by ext,by ext⟩
   ·exact ⟨1,rfl,by ext,by ext⟩
   ·exact ⟨2,rfl,by ext,by ext⟩
   ·exact ⟨3,rfl,by ext,by ext⟩
   ·exact ⟨7,rfl,by ext,by ext⟩
  have f:Gb 20 3 (KM.low (1+r2) e):=tY (show (1+r2).natAbs<1048576 by lia) (show e.natAbs<8 by lia) (by lia)
  exact ⟨(),_,(),rfl,l5,_,_,(),rfl,aq.of n5.at',ee,_,(),by lia,Sz.mono (m:=40) (by show e.natAbs<1099511627776;lia) (by ext),fun o H6 n6=>k o _ t2 H6 (((s1.trans s2).trans n5.sm.toE).trans n6.sm.toE) n6.at' f (C6 (by lia) (by lia)) (KM.low_spec _ _ (by lia)).2.2.1 ((B2.same n5.sm).same n6.sm) (by lia) (by lia)⟩
theorem zg (T:Txt K mg):aQ P w K mg base CX0 2 T.l_any_price_.f T.l_any_price_.d ["_law_box_here"] (IJ 24 24):=by
 have G_l_take:=#[(jH)]
 have G_l_frac:=#[(nu)]
 refine T.l_any_price_.F.ok pU (fun vs H Q E h=>?_) (fun cdv A outer s H vs Q E hr h=>?_)
 ·obtain ⟨b,t,rfl,_⟩:=h
  rfl
 ·obtain ⟨b,t,rfl,B,ht0,ht1,k⟩:=h
  refine ⟨_,#[#[1,pU.nd,ib,#[G_l_take,kq,T.l_take_,#[[#[0,iy],#[()]]]]] :: #[ac 3 #[am 4 #[fA 8 #[aA 8 (@fi _) #[1,ib] #[()] #[(),()]] #[ar 5 #[[#[()],#[()]]]] #[G_l_frac,rF,T.l_frac_,#[[#[G_l_take,kq,T.l_take_,#[[#[0,iy],#[()]]]],#[#[cP 4 #[[#[()],#[()],#[()]]]][#[ap 8 (@l4 _) #[1,ib] #[()]]]!]]]]]]]],?_⟩
  refine ⟨(),b,4,t,rfl,B,by ext,by ext,ht0,by lia,fun wy t1 H1 w0 w1 h1a h1b s1 B1=>?_⟩
  refine ⟨(),rfl,(),ma (fun c=>?_) (fun c=>?_)⟩
  ·exact ⟨(by show 2≤10000;decide),fun o H2 n2=>k o (0,1) t1 H2 (s1.trans n2.sm.toE) n2.at' (Bz (by ext) (by ext) (by ext)) (by ext) (by ext) (B1.same n2.sm) (by lia) (by lia)⟩
  have hw:wy≠0:=fun z=>c (by rw [z];decide)
  refine ⟨(),b,20,t1,rfl,B1,by ext,by ext,by lia,by lia,fun r2 t2 H2 a20 a21 _ _ s2 B2=>⟨(by show 3≤10000;decide),fun l5 H5 n5=>?_⟩⟩
  obtain ⟨e,ee,he0,he1⟩:∃e:Int,gB [V.int 1,V.int 1,V.int 6] (wy - 1)=some (V.int e)∧1≤e∧e≤7:=by
   obtain rfl | rfl | rfl:wy=1∨wy=2∨wy=3:=by lia
   ·exact ⟨1,rfl,by ext,by ext⟩
   ·exact ⟨1,rfl,by ext,by ext⟩
   ·exact ⟨6,rfl,by ext,by ext⟩
  have f:Gb 24 24 (KM.low r2 e):=tY (show r2.natAbs<16777216 by lia) (show e.natAbs<16777216 by lia) (by lia)
  exact ⟨(),_,(),rfl,l5,_,_,(),rfl,aq.of n5.at',ee,_,(),by lia,Sz.mono (m:=40) (by show e.natAbs<1099511627776;lia) (by ext),fun o H6 n6=>k o _ t2 H6 (((s1.trans s2).trans n5.sm.toE).trans n6.sm.toE) n6.at' f (C6 (by lia) (by lia)) (KM.low_spec _ _ (by lia)).2.2.1 ((B2.same n5.sm).same n6.sm) (by lia) (by lia)⟩
end
end K15
namespace K15
open PySem L2
set_option maxHeartbeats 4000000
abbrev Dj:=List Nat×List Nat×KM.Fra
abbrev DN (x:Dj):PyData:=.tuple [.str (S x.1),.str (S x.2.1),gh x.2.2]
structure Jg (ls:List (List Nat)) (x:Dj):Prop where
 b:x.1∈ls
 e:x.2.1∈ls
 ne:x.1≠x.2.1
 g:Gb 6 6 x.2.2
 g1:1≤x.2.2.1
theorem Bq {n d:Int} (hn:1≤n) (hn2:n<64) (hd:1≤d) (hd2:d<64):Gb 6 6 (KM.low n d)∧1≤(KM.low n d).1:=
 ⟨tY (show n.natAbs<64 by lia) (show d.natAbs<64 by lia) (by lia),(KM.low_sgn (by lia)).1.mpr (by lia)⟩
theorem Di {E:Addr→Prop}{H:Hp}{α:Type}{f:α→PyData}:∀{vs:List V}{xs:List α},vs.length=xs.length→(∀(i:Nat) v x,vs[i]?=some v→xs[i]?=some x→aU E H v (f x))→ay E H vs (xs.map f)
 | [],[],_,_=>.nil
 | [],_ :: _,h,_=>by simp at h
 | _ :: _,[],h,_=>by simp at h
 | v :: vs,x :: xs,h,k=>.cons (k 0 v x rfl rfl) (Di (by simpa using h) fun i v' x' h1 h2=>k (i+1) v' x' (by simpa using h1) (by simpa using h2))
theorem Hz {n f i j:Int} (h0:0<n) (hij:i<j) (hn:j - i<n):(f+i) % n≠(f+j) % n:=fun z=>by
 have h1:((f+j) - (f+i)) % n=0:=by
  rw [Int.sub_emod,z,Int.sub_self,Int.zero_emod]
 have h2:(f+j) - (f+i)=j - i:=by lia
 rw [h2,Int.emod_eq_of_lt (by lia) hn] at h1
 lia
section
variable {P:Program}{w:World}{K:Frag}{mg:Str→Option Value}{base:Heap}
inductive Fh (vs:List V) (H:Hp) (Q:VK):Prop
 | mk (b pl:Addr) (ls:List (List Nat)) (t:Int) (h0:vs=[.ref b,.ref pl]) (h1:Bx H b t) (h2:0≤t) (h3:t≤900000) (h4:H pl=some (.tup (ls.map au))) (h5:2≤ls.length) (h6:ls.length≤10) (h7:ls.Nodup) (h8:∀(L:Addr) (ys:List V) (es:List Dj) (t':Int) (H':Hp),aK (Eb b) H H'→H L=none→H' L=some (.lst ys)→ay ED H' ys (es.map DN)→es.length≤10→(∀x∈es,Jg ls x)→Bx H' b t'→t≤t'→t'≤t+5→Q (.ref L) H')
def GL:Sp:=fun vs H Q _=>Fh  vs H Q
theorem Bu (T:Txt K mg):aQ P w K mg base CX0 2 T.l_planted_.f T.l_planted_.d ["_law_box_here", "_law_places"] GL:=by
 have G_l_take:=#[(jH)]
 have G_l_frac:=#[(nu)]
 refine T.l_planted_.F.ok dn (fun vs H Q E h=>?_) (fun cdv A outer s H vs Q E hr h=>?_)
 ·obtain ⟨b,pl,ls,t,rfl,_⟩:=h
  rfl
 ·obtain ⟨b,pl,ls,t,rfl,B,ht0,ht1,hpl,l2,l10,nd,k⟩:=h
  have es:((ls.map au).length:Int)=(ls.length:Int):=by rw [length_map]
  refine ⟨_,#[#[2,dn.nd,iK,#[ap 8 (@bL _) #[()] #[G_l_take,dg,T.l_take_,#[[#[0,b9],#[ap 8 (@l4 _) #[(),(),(@eG _ (K) (by rfl)),ph,T.b_len,(@bh),#[[#[1,(kd)]]]] #[()]]]]]]] :: #[#[gc 6 #[ar 5 #[[#[G_l_take,dg,T.l_take_,#[[#[0,b9],#[(),(),(@eG _ (K) (by rfl)),ph,T.b_len,(@bh),#[[#[1,(kd)]]]]]]],#[ap 8 (@bL _) #[()] #[G_l_take,dg,T.l_take_,#[[#[0,b9],#[()]]]]],#[ap 8 (@bL _) #[()] #[G_l_take,dg,T.l_take_,#[[#[0,b9],#[()]]]]]]]] (@cx _ (K) _ _ _ _ (3) rfl #[aC 5 #[gW 2 (3) _ dn.nd rfl (Or.inr sO) (by first | exact .inl rfl | exact .inr rfl | assumption)] #[aC 5 #[4,dn.nd,jW] #[aC 5 #[5,dn.nd,j0] (@cF _) (by rfl)] (by rfl)] (by rfl)] (by rfl) (by rfl) (by rfl)) (by rfl) (by rfl) (by rfl)] :: #[#[6,dn.nd,iQ,#[ap 8 (@bL _) #[()] #[G_l_take,dg,T.l_take_,#[[#[0,b9],#[()]]]]]] :: #[#[7,dn.nd,kG,#[ap 8 (@A4 _) #[cP 4 #[[#[G_l_frac,lU,T.l_frac_,#[[#[4,jW],#[5,j0]]]],#[G_l_frac,lU,T.l_frac_,#[[#[ap 8 (@gP _) #[5,j0] #[ap 8 (@bL _) #[6,iQ] #[()]]],#[ap 8 (@gP _) #[4,jW] #[6,iQ]]]]]]]] #[ap 8 (@F6 _) #[cP 4 #[[#[ar 5 #[[#[()],#[()]]]]]]] #[ap 8 (@l4 _) #[2,iK] #[()]]]]] :: #[#[vq 7 (["_law_k", "_law_first", "_law_places"]) (1) ([3,1]) _ _ _ _ (8) _ _ _ dn.nd rfl eJ (by kernel_rfl) rfl (by kernel_rfl) #[gn 6 u9 T.b_range #[[#[2,iK]]] (by rfl)] (fun _ _ _ _ _ _=>#[0,(),()]) (fun _ _ _ _ _ _=>@bM _) (fun _ _ _ _ _ _=>#[#[2,0][#[ap 8 (@jn _) #[ap 8 (@bL _) #[1,0] #[0,()]] #[(),(),(@eG _ (K) (by rfl)),(by show _=_;kernel_rfl),T.b_len,(@bh),#[[#[2,0]]]]]]]) (by intro _;rfl)] :: #[ac 3 #[am 4 (@Da _ (K) _ _ _ _ _ _ _ _ rfl vH T.b_list wF T.b_zip #[[#[8,eJ],#[ap 8 (@A4 _) #[cg 10 (@nG _ (K) (by rfl)) #[8,eJ] #[cH 3 #[()]] (@dA _)] #[cg 10 (@nG _ (K) (by rfl)) #[8,eJ] (@dA _) #[cH 3 #[()]]]],#[7,kG]]] (by rfl) (by rfl) (by rfl) (by rfl))]]]]]]],?_⟩
  refine bt fun Q1 nA1=>⟨(),(),pl,(),.inr (af.of hpl),_,(),rfl,b,_,t,rfl,B,by lia,pF (by lia) (by lia),by lia,by lia,fun r1 t1 H1 r10 r11 h1a h1b s1 B1=>⟨_,(),rfl,nA1 _ _ ?_⟩⟩
  have hpl1:=s1.tup _ _ hpl
  refine ⟨(),(),pl,(),.inr (af.of hpl1),b,_,t1,rfl,B1,by lia,pF (by lia) (by lia),by lia,by lia,fun f t2 H2 f0 f1 h2a h2b s2 B2=>?_⟩
  refine ⟨(),b,6,t2,rfl,B2,by ext,by ext,by lia,by lia,fun a t3 H3 a0 a1 h3a h3b s3 B3=>⟨_,(),rfl,?_⟩⟩
  refine ⟨(),b,6,t3,rfl,B3,by ext,by ext,by lia,by lia,fun c t4 H4 c0 c1 h4a h4b s4 B4=>⟨_,(),rfl,(by show 3≤10000;decide),fun T5 H5 n5=>⟨T5,(),af.of n5.at',rfl,_,(),_,(),_,(),rfl,?_⟩⟩⟩
  dsimp only
  refine bt fun Q2 nA2=>⟨(),b,6,t4,rfl,B4.same n5.sm,by ext,by ext,by lia,by lia,fun m t6 H6 m0 m1 h6a h6b s6 B6=>⟨_,(),rfl,nA2 _ _ ?_⟩⟩
  have s06:aK (Eb b) H H6:=((((s1.trans s2).trans s3).trans s4).trans n5.sm.toE).trans s6
  have q1:1≤(1+a)*(1+m):=by
   have:=mul_le_mul (show (1:Int)≤1+a by lia) (show (1:Int)≤1+m by lia) (by ext) (by lia);lia
  have q2:(1+a)*(1+m)≤6*6:=mul_le_mul (by lia) (by lia) (by lia) (by ext)
  have q3:1≤(1+c)*(1+m+1):=by
   have:=mul_le_mul (show (1:Int)≤1+c by lia) (show (1:Int)≤1+m+1 by lia) (by ext) (by lia);lia
  have q4:(1+c)*(1+m+1)≤6*7:=mul_le_mul (by lia) (by lia) (by lia) (by ext)
  have g1:=Bq (n:=1+a) (d:=1+c) (by lia) (by lia) (by lia) (by lia)
  have g2:=Bq q3 (by lia) q1 (by lia)
  refine bt fun Q3 nA3=>?_
  refine ⟨(),(),1+a,1+c,rfl,by lia,Sz.mono (m:=40) (by show (1+c).natAbs<1099511627776;lia) (by ext),fun o1 H7 n7=>?_⟩
  refine ⟨(),(),_,(),rfl,_,(),rfl,.inr ⟨by lia,by lia⟩,(),(),_,(),rfl,.inr ⟨by lia,by lia⟩,(1+c)*(1+m+1),(1+a)*(1+m),rfl,by lia,Sz.mono (m:=40) (by show ((1+a)*(1+m)).natAbs<1099511627776;lia) (by ext),fun o2 H8 n8=>?_⟩
  refine ⟨(by show 2≤10000;decide),fun l9 H9 n9=>⟨(by show 2≤10000;decide),fun o3 H10 n10=>⟨(by show 1≤10000;decide),fun l11 H11 n11=>?_⟩⟩⟩
  refine ⟨(),_,(),rfl,l11,_,(),rfl,n11.at',by lia,by lia,by simp;lia,fun l12 H12 n12=>⟨l9,l12,_,(),rfl,n12.sm _ _ (n11.sm _ _ (n10.sm _ _ n9.at')),n12.at',?_,fun G H13 n13=>nA3 _ _ ?_⟩⟩
  ·rw [Af,length_replicate];simp;lia
  obtain ⟨mn,emn,hmn⟩:∃mn:Nat,2+r1=(mn:Int)∧2≤mn∧mn≤ls.length:=⟨(2+r1).toNat,by lia,by lia,by lia⟩
  have s613:ag H6 H13:=((((((n7.sm.trans n8.sm).trans n9.sm).trans n10.sm).trans n11.sm).trans n12.sm).trans n13.sm)
  have hG:H13 G=some (.lst ([.ref o1,.ref o2]++replicate (mn - 2) (.ref o3))):=by
   have:=n13.at'
   rw [Af,show (2+r1 - 2).toNat=mn - 2 by lia] at this
   exact this
  have ho1:H13 o1=some (fr (KM.low (1+a) (1+c))):=n13.sm _ _ (n12.sm _ _ (n11.sm _ _ (n10.sm _ _ (n9.sm _ _ (n8.sm _ _ n7.at')))))
  have ho2:H13 o2=some (fr (KM.low ((1+c)*(1+m+1)) ((1+a)*(1+m)))):=n13.sm _ _ (n12.sm _ _ (n11.sm _ _ (n10.sm _ _ (n9.sm _ _ n8.at'))))
  have ho3:H13 o3=some (fr (1,1)):=n13.sm _ _ (n12.sm _ _ (n11.sm _ _ n10.at'))
  have hplE:H13 pl=some (.tup (ls.map au)):=s613 _ _ (s06.tup _ _ hpl)
  have ix:∀i:Nat,∃l,ls[((f+(i:Int)) % (ls.length:Int)).toNat]?=some l∧0≤(f+(i:Int)) % (ls.length:Int)∧((f+(i:Int)) % (ls.length:Int)).toNat<ls.length:=fun i=>by
   have a1:=emod_nonneg (f+(i:Int)) (show (ls.length:Int)≠0 by lia)
   have a2:=emod_lt_of_pos (f+(i:Int)) (show (0:Int)<ls.length by lia)
   exact ⟨_,getElem?_eq_getElem (by lia),a1,by lia⟩
  obtain ⟨sp,hsp⟩:∃sp:Nat→List Nat,∀i:Nat,ls[((f+(i:Int)) % (ls.length:Int)).toNat]?=some (sp i):=⟨fun i=>Classical.choose (ix i),fun i=>(Classical.choose_spec (ix i)).1⟩
  have spm:∀i,sp i∈ls:=fun i=>mem_of_getElem? (hsp i)
  have spn:∀i j:Nat,i<j→j<ls.length→sp i≠sp j:=fun i j hij hj z=>by
   have h1:=hsp i
   have h2:=hsp j
   rw [z] at h1
   have:=He nd h1 h2
   obtain ⟨_,_,p1,_⟩:=ix i
   obtain ⟨_,_,p2,_⟩:=ix j
   exact Hz (n:=(ls.length:Int)) (f:=f) (i:=i) (j:=j) (by lia) (by lia) (by lia) (by lia)
  refine bt fun Q4 nA4=>⟨(),(),by lia,by lia,fun D hD=>?_⟩
  rw [emn,toNat_natCast]
  refine pC (n:=mn) (fun k=>au (sp k)) (by lia) hD (fun i H' hi sm=>hi) (fun H' sm=>le_refl _) ?_ ?_
  ·rintro i x H' H'' R hi sm ⟨rfl,rfl⟩ kk
   have hplX:=sm _ _ hplE
   obtain ⟨_,_,p1,p2⟩:=ix i
   have hat:gB (ls.map au) ((f+(0+(i:Int))) % ((ls.map au).length:Int))=some (au (sp i)):=by
    rw [es,Int.zero_add,xD p1 p2]
    have:=hsp i
    rw [getElem?_eq_getElem p2] at this
    rw [Option.some.inj this]
   exact ⟨fK,(),(),(),_,(),rfl,(),pl,(),.inr (af.of hplX),_,(),rfl,(by show (0:Int)<((ls.map au).length:Int);lia),pl,_,_,(),rfl,af.of hplX,hat,kk _ (ag.refl _)⟩
  intro J sJ hDJ
  refine nA4 _ _ ?_
  have ml:((List.range mn).map fun k=>au (sp k)).length=mn:=by simp
  refine ⟨(),(),(),D,(),aq.of hDJ,fun p1 J1 j1=>⟨(),(),D,(),aq.of (j1.sm _ _ hDJ),fun p2 J2 j2=>⟨p1,p2,_,(),rfl,j2.sm _ _ j1.at',j2.at',?_,fun p3 J3 j3=>?_⟩⟩⟩
  ·rw [rV,o7 (by ext),length_drop,length_take,ml]
   show mn - 1+min 1 mn≤10000
   lia
  have e3:J3 p3=some (.lst (((List.range mn).map fun k=>au (sp k)).drop 1++((List.range mn).map fun k=>au (sp k)).take 1)):=by
   rw [j3.at',rV,o7 (by ext)];rfl
  have sJ3:ag H13 J3:=sJ.trans ((j1.sm.trans j2.sm).trans j3.sm)
  refine ⟨(),D,p3,G,_,_,(),aq.of (j3.sm _ _ (j2.sm _ _ (j1.sm _ _ hDJ))),aq.of e3,aq.of (sJ3 _ _ hG),?_,?_,by rw [ml];lia,fun L ts J4 s4' fL hL lts hts=>?_⟩
  ·rw [length_append,length_drop,length_take,ml];lia
  ·rw [length_append,length_replicate,ml];simp;lia
  rw [ml] at lts
  have s134:=sJ3.trans s4'
  have gz:∀i:Nat,i<mn→∃z:Addr×KM.Fra,([V.ref o1,.ref o2]++replicate (mn - 2) (.ref o3))[i]?=some (.ref z.1)∧J4 z.1=some (fr z.2)∧Gb 6 6 z.2∧1≤z.2.1:=fun i hi=>by
   match i,hi with
   | 0,_=>exact ⟨(o1,_),rfl,s134 _ _ ho1,g1.1,g1.2⟩
   | 1,_=>exact ⟨(o2,_),rfl,s134 _ _ ho2,g2.1,g2.2⟩
   | i+2,hi=>
    refine ⟨(o3,(1,1)),?_,s134 _ _ ho3,Bz (by ext) (by ext) (by ext),(by show (1:Int)≤1;decide)⟩
    show (replicate (mn - 2) (V.ref o3))[i]?=_
    rw [List.getElem?_replicate,if_pos (by lia)]
  obtain ⟨zl,lzl,hzl⟩:=xK mn gz
  obtain ⟨g,hg⟩:∃g:Nat→KM.Fra,∀i,i<mn→∃o,([V.ref o1,.ref o2]++replicate (mn - 2) (.ref o3))[i]?=some (.ref o)∧J4 o=some (fr (g i))∧Gb 6 6 (g i)∧1≤(g i).1:=by
   refine ⟨fun i=>((zl[i]?).map Prod.snd).getD (1,1),fun i hi=>?_⟩
   obtain ⟨z,ez⟩:∃z,zl[i]?=some z:=⟨_,getElem?_eq_getElem (by lia)⟩
   have q:=hzl i z ez
   refine ⟨z.1,q.1,?_⟩
   show J4 z.1=some (fr (((zl[i]?).map Prod.snd).getD (1,1)))∧Gb 6 6 (((zl[i]?).map Prod.snd).getD (1,1))∧1≤(((zl[i]?).map Prod.snd).getD (1,1)).1
   rw [ez]
   exact q.2
  have s6':aK (Eb b) H J4:=s06.trans (s613.trans s134).toE
  refine k L (ts.map V.ref) ((List.range mn).map fun i=>(sp i,(if i+1<mn then sp (i+1) else sp 0),g i)) t6 J4 s6' ?_ hL ?_ (by simp;lia) ?_ (B6.same (s613.trans s134)) (by lia) (by lia)
  ·have:H13 L=none:=sJ3.free fL
   exact s06.free B6 (s613.free this)
  ·refine Di (by simp [lts]) fun i v x hv hx=>?_
   rw [getElem?_map] at hv hx
   obtain ⟨tt,ht,rfl⟩:=Option.map_eq_some_iff.mp hv
   obtain ⟨i',hi',rfl⟩:=Option.map_eq_some_iff.mp hx
   obtain ⟨il,e'⟩:=List.getElem?_eq_some_iff.mp hi'
   rw [List.getElem_range] at e'
   subst e'
   rw [List.length_range] at il
   obtain ⟨x,y,z,hx',hy',hz',hT⟩:=hts i tt ht
   obtain ⟨o,ho,ho',_⟩:=hg i il
   rw [ho] at hz'
   cases hz'
   rw [getElem?_map,getElem?_range il] at hx'
   cases hx'
   have ey:y=au (if i+1<mn then sp (i+1) else sp 0):=by
    by_cases c1:i+1<mn
    ·rw [getElem?_append_left (by rw [length_drop,ml];lia),List.getElem?_drop,getElem?_map,show 1+i=i+1 by lia,getElem?_range c1] at hy'
     rw [if_pos c1]
     exact (Option.some.inj hy').symm
    ·rw [getElem?_append_right (by rw [length_drop,ml];lia),length_drop,ml,show i - (mn - 1)=0 by lia,List.getElem?_take,if_pos (by ext),getElem?_map,getElem?_range (by lia)] at hy'
     rw [if_neg c1]
     exact (Option.some.inj hy').symm
   rw [ey] at hT
   exact .tup hT (.cons (.str _) (.cons (.str _) (.cons (i8 ho') .nil)))
  ·intro x hx
   obtain ⟨i,hi,rfl⟩:=List.mem_map.mp hx
   have il:=List.mem_range.mp hi
   obtain ⟨o,_,_,gg,gg1⟩:=hg i il
   refine ⟨spm i,?_,?_,gg,gg1⟩
   ·show (if i+1<mn then sp (i+1) else sp 0)∈ls
    split
    ·exact spm _
    ·exact spm _
   ·show sp i≠(if i+1<mn then sp (i+1) else sp 0)
    split
    ·exact spn i (i+1) (by lia) (by lia)
    ·exact fun z=>spn 0 i (by lia) (by lia) z.symm
end
end K15
namespace K15
open PySem L2
set_option maxHeartbeats 4000000
theorem wN {ls:List (List Nat)} (h:ls.Nodup):(ls.map fun l=>(Sum.inr (S l):aI)).Nodup:=by
 rw [nodup_iff_pairwise_ne,pairwise_map]
 refine List.Pairwise.imp (fun {a b} hab z=>?_) (List.nodup_iff_pairwise_ne.mp h)
 injection z with z
 exact hab (rX z)
abbrev WC (z:KM.Fra):Prop:=1≤z.1∧z.1≤3∧1≤z.2∧z.2≤3
theorem KQ {p q z:KM.Fra} (hp:WC p) (hq:WC q) (hz:1≤z.1∧z.1≤5∧1≤z.2∧z.2≤6):Gb 6 6 (KM.lTim (cu p q) z)∧1≤(KM.lTim (cu p q) z).1:=by
 obtain ⟨a1,a2,a3,a4⟩:=hp
 obtain ⟨b1,b2,b3,b4⟩:=hq
 obtain ⟨c1,c2,c3,c4⟩:=hz
 have m1:p.1*q.2≤3*3:=mul_le_mul a2 b4 (by lia) (by ext)
 have m2:p.2*q.1≤3*3:=mul_le_mul a4 b2 (by lia) (by ext)
 have p1:0<p.1*q.2:=mul_pos (by lia) (by lia)
 have p2:0<p.2*q.1:=mul_pos (by lia) (by lia)
 have sp:=KM.low_spec (p.1*q.2) (p.2*q.1) (by lia)
 have o1:1≤(cu p q).1:=AX a1 a3 b1 b3
 obtain ⟨s1,_,_,s2,s3⟩:=sp
 have o2:(cu p q).1≤9:=by
  have:(cu p q).1.natAbs≤(p.1*q.2).natAbs:=s2
  lia
 have o3:1≤(cu p q).2:=s1
 have o4:(cu p q).2≤9:=by
  have:(cu p q).2.natAbs≤(p.2*q.1).natAbs:=s3
  lia
 have n1:(cu p q).1*z.1≤9*5:=mul_le_mul o2 c2 (by lia) (by ext)
 have n2:(cu p q).2*z.2≤9*6:=mul_le_mul o4 c4 (by lia) (by ext)
 have n3:0<(cu p q).1*z.1:=mul_pos (by lia) (by lia)
 have n4:0<(cu p q).2*z.2:=mul_pos (by lia) (by lia)
 exact Bq (by lia) (by lia) (by lia) (by lia)
theorem y7 {z:KM.Fra} (h:WC z):Gb 2 2 z:=⟨show z.1.natAbs<4 by have:=h.1;have:=h.2.1;lia,show z.2.natAbs<4 by have:=h.2.2.1;have:=h.2.2.2;lia,h.2.2.1⟩
section
variable {P:Program}{w:World}{K:Frag}{mg:Str→Option Value}{base:Heap}
inductive GH (vs:List V) (H:Hp) (Q:VK):Prop
 | mk (b:Addr) (mp mt t:Int) (h0:vs=[.ref b,.int mp,.int mt]) (h1:Bx H b t) (h2:0≤t) (h3:t≤800000) (h4:2≤mp) (h5:mp≤10) (h6:1≤mt) (h7:mt≤24) (h8:∀(v:V) (ls:List (List Nat)) (ts:List aa) (t':Int) (H':Hp),aK (Eb b) H H'→aU ED H' v (bX ls ts)→2≤ls.length→ls.length≤10→ls.Nodup→(∀l∈ls,y6 l)→1≤ts.length→ts.length≤24→(∀t∈ts,dL ls t)→Bx H' b t'→t≤t'→t'≤t+700→Q v H')
def IL:Sp:=fun vs H Q _=>GH  vs H Q
theorem Cw (T:Txt K mg):aQ P w K mg base CX0 3 T.l_net_by_.f T.l_net_by_.d ["_law_box_here", "_law_most_places", "_law_most_ties"] IL:=by
 have G_l_take:=#[(jH)]
 have G_l_names_by:=#[(AA)]
 have G_l_planted:=#[(Bu)]
 have G_l_any_gain:=#[(AK)]
 have G_l_any_much:=#[(yE)]
 have G_l_any_price:=#[(zg)]
 have G_l_product:=#[(ka)]
 have G_l_over:=#[(uk)]
 refine T.l_net_by_.F.ok bn (fun vs H Q E h=>?_) (fun cdv A outer s H vs Q E hr h=>?_)
 ·obtain ⟨b,mp,mt,t,rfl,_⟩:=h
  rfl
 ·obtain ⟨b,mp,mt,t,rfl,B,ht0,ht1,mp1,mp2,mt1,mt2,k⟩:=h
  refine ⟨_,#[#[l6 2 (3) (4) _ _ _ _ _ _ _ _ _ _ _ rfl bn.nd rfl rfl (by ext) jB iF #[[#[G_l_take,br,T.l_take_,#[[#[0,(ax)],#[()]]]],#[bS 8 (@fi _) #[G_l_take,br,T.l_take_,#[[#[0,(ax)],#[()]]]] #[()] #[(),()]]]] (by kernel_rfl) (by rfl)] :: #[#[5,bn.nd,bC,#[G_l_names_by,qh,T.l_names_by_,#[[#[0,(ax)],#[fA 8 #[bQ 3 #[4,iF] (by intro _;rfl)] #[ap 8 (@bL _) #[()] #[G_l_take,br,T.l_take_,#[[#[0,(ax)],#[()]]]]] #[ap 8 (@bL _) #[()] #[G_l_take,br,T.l_take_,#[[#[0,(ax)],#[ap 8 (@l4 _) #[1,nU] #[()]]]]]]]]]]] :: #[#[6,bn.nd,mE,#[fA 8 #[bQ 3 #[4,iF] (by intro _;rfl)] #[ap 8 (@bL _) #[()] #[G_l_take,br,T.l_take_,#[[#[0,(ax)],#[()]]]]] #[ap 8 (@bL _) #[()] #[G_l_take,br,T.l_take_,#[[#[0,(ax)],#[2,pI]]]]]]] :: #[#[jo 2 (7) _ _ _ _ bn.nd rfl (Or.inr vc) #[cP 4 #[[#[ar 5 #[[#[()],#[()]]]],#[ar 5 #[[#[()],#[()]]]],#[ar 5 #[[#[()],#[()]]]],#[ar 5 #[[#[()],#[()]]]],#[ar 5 #[[#[()],#[()]]]],#[ar 5 #[[#[()],#[()]]]],#[ar 5 #[[#[()],#[()]]]]]]] (by rfl) (by first | exact .inl rfl | exact .inr rfl | assumption)] :: #[#[8,bn.nd,ia,#[di 9 (@qV _ rfl) xj T.b_dict (@j8) #[[#[ci 7 (["_law_place", "_law_box_here", "_law_some"]) (1) ([0,7]) _ _ _ _ rfl (by kernel_rfl) (@dE _ (K) _ _ _ #[5,bC] (by rfl)) (fun _ _ _ _ _ _=>#[0,(),()]) (fun _ _ _ _ _ _=>@bM _) (fun _ _ _ _ _ _=>#[ar 5 #[[#[0,()],#[#[2,0][#[G_l_take,(),T.l_take_,#[[#[1,0],#[()]]]]]!]]]]) (by intro _;rfl)]]] (by ext) (by ext) (by rfl) (by rfl)]] :: #[#[9,bn.nd,fJ,#[fA 8 #[aA 8 (@fi _) #[3,jB] #[()] #[(),()]] #[G_l_planted,rL,T.l_planted_,#[[#[0,(ax)],#[5,bC]]]] #[cP 4 (@cC _)]]] :: #[#[dX 8 PassesOwn.never rfl #[gn 6 vK T.b_range #[[#[6,mE]]] (by rfl)] #[10,bn.nd,uZ] #[#[11,bn.nd,kg,#[G_l_take,br,T.l_take_,#[[#[0,(ax)],#[(),(),(@eG _ (K) (by rfl)),gj,T.b_len,(@bh),#[[#[5,bC]]]]]]]] :: #[#[l6 2 (12) (13) _ _ _ _ _ _ _ _ _ _ _ rfl bn.nd rfl rfl (by ext) dh dY #[[#[#[5,bC][#[11,kg]]],#[#[5,bC][#[ap 8 (@jn _) #[ap 8 (@bL _) #[ap 8 (@bL _) #[11,kg] #[()]] #[G_l_take,br,T.l_take_,#[[#[0,(ax)],#[ap 8 (@l4 _) #[(),(),(@eG _ (K) (by rfl)),gj,T.b_len,(@bh),#[[#[5,bC]]]] #[()]]]]]] #[(),(),(@eG _ (K) (by rfl)),gj,T.b_len,(@bh),#[[#[5,bC]]]]]]]]] (by kernel_rfl) (by rfl)] :: #[#[14,bn.nd,dI,#[G_l_any_gain,qg,T.l_any_gain_,#[[#[0,(ax)]]]]] :: #[#[bd 8 #[aA 8 (@lB _) #[3,jB] #[()] #[(),()]] #[#[15,bn.nd,mI,#[#[cP 4 #[[#[ar 5 #[[#[()],#[()]]]],#[ar 5 #[[#[()],#[()]]]],#[ar 5 #[[#[()],#[()]]]],#[ar 5 #[[#[()],#[()]]]]]]][#[G_l_take,br,T.l_take_,#[[#[0,(ax)],#[()]]]]]!]] :: #[ac 3 #[14,bn.nd,dI,#[G_l_product,re,T.l_product_,#[[#[G_l_over,uU,T.l_over_,#[[#[bP 7 (@cm _) #[8,ia] #[12,dh] (fun _ _=>rfl)],#[bP 7 (@cm _) #[8,ia] #[13,dY] (fun _ _=>rfl)]]]],#[15,mI]]]]]]] (@aJ _)] :: #[ac 3 #[f8 4 (@gX _ (K) _ _ _ _ _ _ _ _ _ _ _ PySem.F.plainAttrs_list PySem.F.slot_list_insert PySem.F.type_list_insert (@Cb _) #[9,fJ] #[[#[G_l_take,br,T.l_take_,#[[#[0,(ax)],#[ap 8 (@bL _) #[(),(),(@eG _ (K) (by rfl)),gj,T.b_len,(@bh),#[[#[9,fJ]]]] #[()]]]]],#[ar 5 #[[#[12,dh],#[13,dY],#[14,dI]]]]]] (by rfl) (by rfl) (by rfl) (by rfl) (by rfl) (by rfl)) (by rfl)]]]]]] (by intro _;rfl)] :: #[#[16,bn.nd,cG,#[cP 4 (@cC _)]] :: #[#[dX 8 PassesOwn.never rfl (@eZ _ (K) _ _ _ #[cg 10 (@nG _ (K) (by rfl)) #[9,fJ] (@dA _) #[cH 3 #[()]]] (by rfl)) (@cx _ (K) _ _ _ _ (3) rfl #[aC 5 #[12,bn.nd,dh] #[aC 5 #[13,bn.nd,dY] #[aC 5 #[14,bn.nd,dI] (@cF _) (by rfl)] (by rfl)] (by rfl)] (by rfl) (by rfl) (by rfl)) #[#[17,bn.nd,oi,#[G_l_any_much,pV,T.l_any_much_,#[[#[0,(ax)]]]]] :: #[ac 3 #[f8 4 (@gX _ (K) _ _ _ _ _ _ _ _ _ _ _ PySem.F.plainAttrs_list PySem.F.slot_list_append PySem.F.type_list_append (@gI _) #[16,cG] #[[#[ar 5 #[[#[12,dh],#[13,dY],#[17,oi],#[14,dI],#[G_l_any_price,pK,T.l_any_price_,#[[#[0,(ax)]]]]]]]]] (by rfl) (by rfl) (by rfl) (by rfl) (by rfl) (by rfl)) (by rfl)]]] (by intro _;rfl)] :: #[#[bd 8 #[PW.pt 3 #[Db 7 #[aA 8 (@lB _) #[(),(),(@eG _ (K) (by rfl)),gj,T.b_len,(@bh),#[[#[16,cG]]]] #[()] #[(),()]] #[AT 4 #[aA 8 (@fi _) #[G_l_take,br,T.l_take_,#[[#[0,(ax)],#[()]]]] #[()] #[(),()]]]]] #[ac 3 #[f8 4 (@gX _ (K) _ _ _ _ _ _ _ _ _ _ _ PySem.F.plainAttrs_list PySem.F.slot_list_append PySem.F.type_list_append (@gI _) #[16,cG] #[[#[#[16,cG][#[()]]!]]] (by rfl) (by rfl) (by rfl) (by rfl) (by rfl) (by rfl)) (by rfl)]] (@aJ _)] :: #[ac 3 #[am 4 #[ar 5 #[[#[5,bC],#[di 9 (@iZ _ (K) (by rfl)) vF T.b_tuple (@gS) #[[#[16,cG]]] (by ext) (by ext) (by rfl) (by rfl)]]]]]]]]]]]]]]]],?_⟩
  refine HH fun Q1 nP=>⟨(),b,4,t,rfl,B,by ext,by ext,by lia,by lia,fun wy t1 H1 w0 w1 h1a h1b s1 B1=>⟨(),b,8,t1,rfl,B1,by ext,by ext,by lia,by lia,fun gr t2 H2 gr0 gr1 h2a h2b s2 B2=>⟨rfl,nP _ _ _ ?_⟩⟩⟩
  generalize decide (V.int gr=V.int 0)=great
  refine bt fun Q2 nA2=>⟨(),(),(),?_⟩
  refine Ir (fun v H'=>aT fun many t'=>v=.int many∧2≤many∧many≤10∧Bx H' b t'∧t2≤t'∧t'≤t2+1∧aK (Eb b) H2 H') ?_ (fun _ nx=>?_) (fun _ nx=>?_)
  rotate_left
  ·exact ⟨(),b,4,t2,rfl,B2,by ext,by ext,by lia,by lia,fun r t3 H3 r0 r1 h3a h3b s3 B3=>⟨_,(),rfl,nx _ _ ⟨7+r,t3,rfl,by lia,by lia,B3,by lia,by lia,s3⟩⟩⟩
  ·exact ⟨(),(),_,(),rfl,b,_,t2,rfl,B2,by lia,pF (by lia) (by lia),by lia,by lia,fun r t3 H3 r0 r1 h3a h3b s3 B3=>⟨_,(),rfl,nx _ _ ⟨2+r,t3,rfl,by lia,by lia,B3,by lia,by lia,s3⟩⟩⟩
  rintro v H3 ⟨many,t3,rfl,hm1,hm2,B3,h3a,h3b,s3⟩
  refine ⟨b,many,t3,rfl,B3,by lia,by lia,by lia,by lia,fun pl ls t4 H4 s4 hpl lls nd nc B4 h4a h4b=>nA2 _ _ ?_⟩
  have s04:aK (Eb b) H H4:=((s1.trans s2).trans s3).trans s4
  have l2:2≤ls.length:=by lia
  have l10:ls.length≤10:=by lia
  clear hm1 hm2 lls
  refine bt fun Q3 nA3=>⟨(),(),?_⟩
  refine Ir (fun v H'=>aT fun many t'=>v=.int many∧1≤many∧many≤24∧Bx H' b t'∧t4≤t'∧t'≤t4+1∧aK (Eb b) H4 H') ?_ (fun _ nx=>?_) (fun _ nx=>?_)
  rotate_left
  ·exact ⟨(),b,15,t4,rfl,B4,by ext,by ext,by lia,by lia,fun r t3 H3 r0 r1 h3a h3b s3 B3=>⟨_,(),rfl,nx _ _ ⟨10+r,t3,rfl,by lia,by lia,B3,by lia,by lia,s3⟩⟩⟩
  ·exact ⟨(),(),b,mt,t4,rfl,B4,by lia,pF (by lia) (by lia),by lia,by lia,fun r t3 H3 r0 r1 h3a h3b s3 B3=>⟨_,(),rfl,nx _ _ ⟨1+r,t3,rfl,by lia,by lia,B3,by lia,by lia,s3⟩⟩⟩
  rintro v H5 ⟨mn,t5,rfl,mn1,mn2,B5,h5a,h5b,s5⟩
  refine nA3 _ _ ?_
  have hpl5:=s5.tup _ _ hpl
  have s05:=s04.trans s5
  refine bt fun Q4 nA4=>⟨(by show 2≤10000;decide),fun u1 K1 m1=>⟨(by show 2≤10000;decide),fun u2 K2 m2=>⟨(by show 2≤10000;decide),fun u3 K3 m3=>⟨(by show 2≤10000;decide),fun u4 K4 m4=>⟨(by show 2≤10000;decide),fun u5 K5 m5=>⟨(by show 2≤10000;decide),fun u6 K6 m6=>⟨(by show 2≤10000;decide),fun u7 K7 m7=>⟨(by show 7≤10000;decide),fun sl K8 m8=>nA4 _ _ ?_⟩⟩⟩⟩⟩⟩⟩⟩
  have sK7:ag H5 K7:=(((((m1.sm.trans m2.sm).trans m3.sm).trans m4.sm).trans m5.sm).trans m6.sm).trans m7.sm
  have sK:=sK7.trans m8.sm
  have nsl:¬sl=b:=fun z=>(B5.same sK7).ne m8.fr z.symm
  have hplK:=sK _ _ hpl5
  have BK:=B5.same sK
  have some_at:∀(r:Int) (J:Hp),0≤r→r<7→aK (Eb b) K8 J→aT fun o z=>gB [V.ref u1,V.ref u2,V.ref u3,V.ref u4,V.ref u5,V.ref u6,V.ref u7] r=some (.ref o)∧J o=some (fr z)∧WC z:=fun r J r0 r1 sJ=>by
   have up:∀{u:Addr}{us:List V},K8 u=some (.tup us)→J u=some (.tup us):=fun h=>sJ.tup _ _ h
   obtain rfl | rfl | rfl | rfl | rfl | rfl | rfl:r=0∨r=1∨r=2∨r=3∨r=4∨r=5∨r=6:=by lia
   ·exact ⟨u1,(1,1),rfl,up (m8.sm _ _ (m7.sm _ _ (m6.sm _ _ (m5.sm _ _ (m4.sm _ _ (m3.sm _ _ (m2.sm _ _ m1.at'))))))),by ext⟩
   ·exact ⟨u2,(2,1),rfl,up (m8.sm _ _ (m7.sm _ _ (m6.sm _ _ (m5.sm _ _ (m4.sm _ _ (m3.sm _ _ m2.at')))))),by ext⟩
   ·exact ⟨u3,(3,1),rfl,up (m8.sm _ _ (m7.sm _ _ (m6.sm _ _ (m5.sm _ _ (m4.sm _ _ m3.at'))))),by ext⟩
   ·exact ⟨u4,(1,2),rfl,up (m8.sm _ _ (m7.sm _ _ (m6.sm _ _ (m5.sm _ _ m4.at')))),by ext⟩
   ·exact ⟨u5,(1,3),rfl,up (m8.sm _ _ (m7.sm _ _ (m6.sm _ _ m5.at'))),by ext⟩
   ·exact ⟨u6,(3,2),rfl,up (m8.sm _ _ (m7.sm _ _ m6.at')),by ext⟩
   ·exact ⟨u7,(2,3),rfl,up (m8.sm _ _ m7.at'),by ext⟩
  refine bt fun Q5 nA5=>⟨(),pl,rfl,⟨_,af.of hplK⟩,fun D hD=>gv (n:=(ls.map au).length) (fun i H' xs=>eF fun (as ws:List Addr) (t':Int)=>xs=as.map V.ref∧H' D=some (.lst xs)∧as.length=i∧ws.length=i∧(∀(j:Nat) a,as[j]?=some a→eF fun l w z=>ls[j]?=some l∧ws[j]?=some w∧H' a=some (.tup [au l,.ref w])∧H' w=some (fr z)∧WC z)∧Bx H' b t'∧t5≤t'∧t'≤t5+i∧aK (Eb b) K8 H') (gE (by rw [length_map];lia)) ⟨[],[],t5,rfl,ao,rfl,rfl,(fun j a h=>by simp at h),BK.same (ag.new hD),by lia,by lia,(ag.new hD).toE⟩ ?_ ?_ ?_ ?_ ?_⟩
  ·rintro i H' xs ⟨as,ws,t',rfl,e1,e2,_⟩
   exact ⟨e1,by rw [length_map];lia⟩
  ·rintro i H' xs hi ⟨as,ws,t',_,_,_,_,_,_,_,_,sE⟩
   exact ⟨_,_,af.of (sE.tup _ _ hplK),getElem?_eq_getElem hi⟩
  ·rintro H' xs ⟨as,ws,t',_,_,_,_,_,_,_,_,sE⟩
   exact ⟨_,af.of (sE.tup _ _ hplK),le_refl _⟩
  ·have nDb:¬D=b:=fun z=>BK.ne hD z.symm
   rintro i Ha xs x Hb hi ⟨as,ws,t',rfl,eD,la,lw,hw,BD,h1,h2,sE⟩ ⟨rfl,ex⟩
   have exi:=ex _ (af.of (sE.tup _ _ hplK))
   rw [length_map] at hi
   rw [getElem?_map,getElem?_eq_getElem hi] at exi
   obtain rfl:au ls[i]=x:=Option.some.inj exi
   refine ⟨fK,(),(),(),b,7,t',rfl,BD,by ext,by ext,by lia,by lia,fun r6 t6 J6 r60 r61 h6a h6b s6 B6=>?_⟩
   obtain ⟨o,z,eo,ho,wz⟩:=some_at r6 J6 r60 (by lia) (sE.trans s6)
   refine ⟨sl,_,_,(),rfl,aq.of (s6.old sl _ nsl (sE.old sl _ nsl m8.at')),eo,(by show 2≤10000;decide),fun q J7 n7=>?_⟩
   have js:aK (Eb b) Hb J7:=s6.trans n7.sm.toE
   have eD7:=js.old D _ nDb eD
   have c':Ch J7 D (as.map V.ref++[.ref q]) (aE J7 D (.lst (as.map V.ref++[.ref q]))):=Ch.mk'
   refine ⟨eD7,as++[q],ws++[o],t6,by rw [map_append];rfl,ao,by rw [length_append,la];rfl,by rw [length_append,lw];rfl,fun j a' ha'=>?_,(B6.same n7.sm).ch c' (fun z=>nDb z.symm),by lia,by lia,(sE.trans js).up hD⟩
   by_cases hj:j<i
   ·rw [getElem?_append_left (by lia)] at ha'
    obtain ⟨l,w,z,e1,e2,e3,e4,e5⟩:=hw j a' ha'
    exact ⟨l,w,z,e1,by rw [getElem?_append_left (by lia)];exact e2,c'.tup (js.tup _ _ e3) eD7,c'.tup (js.tup _ _ e4) eD7,e5⟩
   ·have hj':j=i:=by
     have:=(List.getElem?_eq_some_iff.mp ha').1
     rw [length_append] at this
     simp at this
     lia
    subst hj'
    rw [getElem?_append_right (by lia),la,sub_self] at ha'
    obtain rfl:q=a':=Option.some.inj ha'
    exact ⟨ls[j],o,z,getElem?_eq_getElem hi,by rw [getElem?_append_right (by lia),lw,sub_self];rfl,c'.tup n7.at' eD7,c'.tup (n7.sm _ _ ho) eD7,wz⟩
  rintro J xs ⟨as,ws,t6,rfl,eD,la,lw,hw,B6,h6a,h6b,s6⟩
  rw [length_map] at la lw h6b
  have wv:∀(j:Nat) (hj:j<ls.length),eF fun a w z=>as[j]?=some a∧ws[j]?=some w∧J a=some (.tup [au ls[j],.ref w])∧J w=some (fr z)∧WC z:=fun j hj=>by
   obtain ⟨a,ha⟩:∃a,as[j]?=some a:=⟨_,getElem?_eq_getElem (by lia)⟩
   obtain ⟨l,w,z,e1,e2,e3,e4,e5⟩:=hw j a ha
   rw [getElem?_eq_getElem hj] at e1
   cases e1
   exact ⟨a,w,z,ha,e2,e3,e4,e5⟩
  refine ⟨D,as,ls.map fun l=>(Sum.inr (S l):aI),ws.map V.ref,rfl,eD,by rw [length_map];exact la,by rw [length_map,length_map];exact lw,wN nd,by rw [length_map];lia,fun i a ha=>?_,fun W J1 nW=>nA5 _ _ ?_⟩
  ·obtain ⟨l,w,z,e1,e2,e3,_,_⟩:=hw i a ha
   exact ⟨Sum.inr (S l),.ref w,by rw [getElem?_map,e1];rfl,by rw [getElem?_map,e2];rfl,e3⟩
  have s81:aK (Eb b) K8 J1:=s6.trans nW.sm.toE
  have s01:aK (Eb b) H J1:=(s05.trans sK.toE).trans s81
  have BJ:=B6.same nW.sm
  have nWb:¬W=b:=fun z=>B6.ne nW.fr z.symm
  have hplJ:J1 pl=some (.tup (ls.map au)):=s81.tup _ _ hplK
  obtain ⟨kvs,ekv⟩:∃kvs,kvs=((ls.map fun l=>(Sum.inr (S l):aI)).zip (ws.map V.ref)):=⟨_,rfl⟩
  have hW:J1 W=some (.dK kvs):=by rw [ekv];exact nW.at'
  have wl:∀l∈ls,aT fun w z=>valD kvs (Sum.inr (S l))=some (.ref w)∧J1 w=some (fr z)∧WC z:=fun l hl=>by
   obtain ⟨j,hj⟩:=getElem?_of_mem hl
   have hlt:=(List.getElem?_eq_some_iff.mp hj).1
   obtain ⟨a,w,z,e1,e2,e3,e4,e5⟩:=wv j hlt
   refine ⟨w,z,?_,nW.sm _ _ e4,e5⟩
   rw [ekv]
   exact kO (i:=j) (wN nd) (by rw [getElem?_map,hj];rfl) (by rw [getElem?_map,e2];rfl)
  have t6a:t≤t6∧t6≤t+40:=by lia
  clear hw wv la lw h6a h6b h5a h5b h4a h4b h1a h1b h2a h2b h3a h3b some_at sK7 sK m1 m2 m3 m4 m5 m6 m7 m8 ekv hplK hpl5 hpl BK B4 B3 B2 B1 B5 s04 s05 nW eD s6 s81 B6
  refine bt fun Q6 nA6=>⟨(),rfl,(),?_⟩
  refine Ir (fun v H'=>pc fun (L:Addr) (ys:List V) (es:List Dj) (t':Int)=>v=.ref L∧H' L=some (.lst ys)∧ay ED H' ys (es.map DN)∧es.length≤10∧(∀x∈es,Jg ls x)∧Bx H' b t'∧t6≤t'∧t'≤t6+5∧aK (Eb b) J1 H'∧J1 L=none) ?_ (fun _ nx=>?_) (fun _ nx=>?_)
  rotate_left
  ·exact ⟨(),(),b,pl,ls,t6,rfl,BJ,by lia,by lia,hplJ,l2,l10,nd,fun L ys es t7 J2 sE fL hL iL lL cL BL h7a h7b=>nx _ _ ⟨L,ys,es,t7,rfl,hL,iL,lL,cL,BL,h7a,h7b,sE,fL⟩⟩
  ·exact ⟨(by show 0≤10000;decide),fun L J2 n2=>nx _ _ ⟨L,[],[],t6,rfl,n2.at',.nil,by ext,(fun x hx=>by cases hx),BJ.same n2.sm,by lia,by lia,n2.sm.toE,n2.fr⟩⟩
  rintro v J2 ⟨L,ys,es,t7,rfl,hL,iL,lL,cL,B7,h7a,h7b,s7,fL⟩
  refine nA6 _ _ ?_
  have nLb:¬L=b:=fun z=>BJ.ne fL z.symm
  have el:((ls.map au).length:Int)=(ls.length:Int):=by rw [length_map]
  refine ba fun DB nB=>?_
  refine ⟨(),mn,rfl,by lia,by lia,?_⟩
  refine o5 (fun i σ H'=>Lp fun (v10 v11 v12 v13 v14 v15:Option V) (ys:List V) (es:List Dj) (t':Int)=>σ=[some (.ref b),some (.int mp),some (.int mt),some (.int wy),some (.bl great),some (.ref pl),some (.int mn),some (.ref sl),some (.ref W),some (.ref L),v10,v11,v12,v13,v14,v15,none,none]∧H' L=some (.lst ys)∧ay ED H' ys (es.map DN)∧es.length≤10+i∧i≤es.length∧(∀x∈es,Jg ls x)∧Bx H' b t'∧t7≤t'∧t'≤t7+12*i∧aK (Eb b) J1 H') ⟨_,_,_,_,_,_,ys,es,t7,rfl,hL,iL,by lia,by lia,cL,B7,by lia,by lia,s7⟩ ?_ ?_
  ·clear hL iL lL cL B7 s7
   rintro i σ G hi ⟨v10,v11,v12,v13,v14,v15,ys,es,t8,rfl,hL,iL,lL,lL',cL,BG,h8a,h8b,sG⟩
   have lys:ys.length=es.length:=by rw [iL.length,length_map]
   have hplG:=sG.tup _ _ hplJ
   refine pA (t:=kN _ _) fun DH nH=>?_
   refine bt fun DI nI=>?_
   refine ⟨(),(),pl,(),.inr (af.of hplG),b,_,t8,rfl,BG,by lia,pF (by lia) (by lia),by lia,by lia,fun f t9 G1 f0 f1 _ _ g1 BG1=>nI _ _ ?_⟩
   have hplG1:=g1.tup _ _ hplG
   refine HH fun DJ nJ=>?_
   refine ⟨(),(),pl,_,_,(),rfl,af.of hplG1,xD f0 (by lia),(),(),_,(),rfl,(),(),pl,(),.inr (af.of hplG1),_,(),rfl,b,_,t9,rfl,BG1,by lia,pF (by lia) (by lia),by lia,by lia,fun r t10 G2 r0 r1 _ _ g2 BG2=>?_⟩
   have hplG2:=g2.tup _ _ hplG1
   obtain ⟨q0,q1,q2⟩:=Gn (n:=(ls.length:Int)) (f:=f) (r:=r) f0 (by lia) r0 (by lia)
   obtain ⟨la,ela⟩:∃la,la=(f+1+r) % (ls.length:Int):=⟨_,rfl⟩
   rw [←ela] at q0 q1 q2
   have hat:gB (ls.map au) ((f+1+r) % ((ls.map au).length:Int))=some (au ls[la.toNat]):=by rw [el,←ela];exact xD q0 (by lia)
   refine ⟨_,(),rfl,(),pl,(),.inr (af.of hplG2),_,(),rfl,(by show (0:Int)<((ls.map au).length:Int);lia),pl,_,_,(),rfl,af.of hplG2,hat,nJ _ _ _ ?_⟩
   obtain ⟨bg,ebg⟩:∃bg,bg=ls[f.toNat]:=⟨_,rfl⟩
   obtain ⟨en,een⟩:∃en,en=ls[la.toNat]:=⟨_,rfl⟩
   have mbg:bg∈ls:=by rw [ebg];exact getElem_mem _
   have men:en∈ls:=by rw [een];exact getElem_mem _
   have bne:bg≠en:=fun z=>by
    rw [ebg,een] at z
    have:=jJ nd (by lia) (by lia) z
    lia
   rw [←ebg,←een]
   refine bt fun DK nK=>?_
   refine ⟨(),b,t10,rfl,BG2,by lia,by lia,fun og n d t11 G3 g3 eg fg lg BG3 h11a h11b=>nK _ _ ?_⟩
   have g03:=(g1.trans g2).trans g3
   have t11a:t8≤t11∧t11≤t8+8:=by lia
   refine BW (fun σ H'=>pc fun (og:Addr) (g:KM.Fra) (v15:Option V) (t':Int)=>σ=[some (.ref b),some (.int mp),some (.int mt),some (.int wy),some (.bl great),some (.ref pl),some (.int mn),some (.ref sl),some (.ref W),some (.ref L),some (.int (0+(i:Int))),some (.int f),some (.str (S bg)),some (.str (S en)),some (.ref og),v15,none,none]∧H' og=some (fr g)∧Gb 6 6 g∧1≤g.1∧Bx H' b t'∧t11≤t'∧t'≤t11+1∧aK (Eb b) G3 H') ?_ fun nx=>?_
   ·rintro σ' G4 ⟨og,g,v15,t12,rfl,hog,gg,gg1,BG4,h12a,h12b,g4⟩
    have g04:=g03.trans g4
    have hL4:=g04.old L _ nLb hL
    refine ⟨(),.inl ⟨rfl,_,aq.of hL4⟩,(),(),L,(),.inl (aq.of hL4),_,(),rfl,b,_,t12,rfl,BG4,by lia,pF (by lia) (by lia),by lia,by lia,fun r t13 G5 r0 r1 _ _ g5 BG5=>⟨(),(),(),(by show 3≤10000;decide),fun q G6 n6=>?_⟩⟩
    have g06:=(g04.trans g5).trans n6.sm.toE
    have hL6:=g06.old L _ nLb hL
    refine ⟨L,ys,r,.ref q,rfl,rfl,hL6,r0,by lia,by lia,fun G7 c7=>nH _ _ ⟨_,_,_,_,_,_,_,es.take r.toNat++(bg,en,g) :: es.drop r.toNat,t13,rfl,c7.at',?_,?_,?_,fun x hx=>?_,(BG5.same n6.sm).ch c7 (fun z=>nLb z.symm),by lia,by lia,(sG.trans g06).ch c7 fL⟩⟩
    ·have i6:=iL.tupS g06
     rw [map_append,map_cons,map_take,map_drop]
     have nw:aU ED G6 (.ref q) (DN (bg,en,g)):=.tup n6.at' (.cons (.str _) (.cons (.str _) (.cons (i8 (p:=g) (n6.sm _ _ (g5.tup _ _ hog))) .nil)))
     exact ((i6.take _).append (.cons nw (i6.drop _))).mono ⟨fun _ _ n _=>absurd trivial n,fun _ _ e=>c7.tup e hL6⟩
    ·rw [length_append,length_cons,length_take,length_drop];lia
    ·rw [length_append,length_cons,length_take,length_drop];lia
    ·rcases List.mem_append.mp hx with q' | q'
     ·exact cL x (mem_of_mem_take q')
     ·rcases List.mem_cons.mp q' with q' | q'
      ·rw [q'];exact ⟨mbg,men,bne,gg,gg1⟩
      ·exact cL x (mem_of_mem_drop q')
   ·refine ⟨(),_,(),rfl,(),ma (fun c=>?_) (fun c=>?_)⟩
    ·refine bt fun DM nM=>⟨(by show 2≤10000;decide),fun u1 K1 m1=>⟨(by show 2≤10000;decide),fun u2 K2 m2=>⟨(by show 2≤10000;decide),fun u3 K3 m3=>⟨(by show 2≤10000;decide),fun u4 K4 m4=>⟨(by show 4≤10000;decide),fun l5 K5 m5=>⟨(),b,4,t11,rfl,BG3.same ((((m1.sm.trans m2.sm).trans m3.sm).trans m4.sm).trans m5.sm),by ext,by ext,by lia,by lia,fun r6 t12 K6 r60 r61 h6a h6b s6 B6=>?_⟩⟩⟩⟩⟩⟩
     have sm:=(((m1.sm.trans m2.sm).trans m3.sm).trans m4.sm).trans m5.sm
     have nl5:¬l5=b:=fun z=>(BG3.same (((m1.sm.trans m2.sm).trans m3.sm).trans m4.sm)).ne m5.fr z.symm
     have up:∀{u:Addr}{us:List V},K5 u=some (.tup us)→K6 u=some (.tup us):=fun h=>s6.tup _ _ h
     obtain ⟨so,z,eso,hso,gz'⟩:∃so,∃z:KM.Fra,gB [V.ref u1,V.ref u2,V.ref u3,V.ref u4] r6=some (.ref so)∧K6 so=some (fr z)∧(1≤z.1∧z.1≤5∧1≤z.2∧z.2≤6):=by
      obtain rfl | rfl | rfl | rfl:r6=0∨r6=1∨r6=2∨r6=3:=by lia
      ·exact ⟨u1,(1,1),rfl,up (m5.sm _ _ (m4.sm _ _ (m3.sm _ _ (m2.sm _ _ m1.at')))),by ext⟩
      ·exact ⟨u2,(1,1),rfl,up (m5.sm _ _ (m4.sm _ _ (m3.sm _ _ m2.at'))),by ext⟩
      ·exact ⟨u3,(1,2),rfl,up (m5.sm _ _ (m4.sm _ _ m3.at')),by ext⟩
      ·exact ⟨u4,(5,6),rfl,up (m5.sm _ _ m4.at'),by ext⟩
     refine ⟨l5,_,_,(),rfl,aq.of (s6.old l5 _ nl5 m5.at'),eso,nM _ _ ?_⟩
     have s36:aK (Eb b) G3 K6:=sm.toE.trans s6
     have sJ6:aK (Eb b) J1 K6:=(sG.trans g03).trans s36
     have hW6:=sJ6.old W _ nWb hW
     obtain ⟨w1',z1,v1,hw1,wc1⟩:=wl bg mbg
     obtain ⟨w2',z2,v2,hw2,wc2⟩:=wl en men
     refine ⟨(),(),W,kvs,Sum.inr (S bg),.ref w1',rfl,rfl,hW6,v1,(),(),W,kvs,Sum.inr (S en),.ref w2',rfl,rfl,hW6,v2,w1',w2',z1,z2,_,_,_,(),sJ6.tup _ _ hw1,sJ6.tup _ _ hw2,y7 wc1,y7 wc2,by ext,by ext,by ext,by ext,(fun _=>wc2.1),fun q K7 n7=>⟨(),q,so,_,z,4,4,3,3,rfl,n7.at',n7.sm _ _ hso,(y7 wc1).ovr (y7 wc2) wc2.1 (by ext) (by ext),⟨(show z.1.natAbs<8 by lia),(show z.2.natAbs<8 by lia),gz'.2.2.1⟩,by ext,by ext,by ext,by ext,(fun z=>by cases z),fun q2 K8 n8=>nx _ _ ?_⟩⟩
     have wg:=KQ wc1 wc2 gz'
     exact ⟨q2,_,_,t12,rfl,n8.at',wg.1,wg.2,(B6.same n7.sm).same n8.sm,by lia,by lia,s36.trans (n7.sm.trans n8.sm).toE⟩
    ·exact nx _ _ ⟨og,(n,d),_,t11,rfl,eg,⟨fg.sn,fg.sd,fg.pos⟩,lg,BG3,by lia,by lia,aK.refl _⟩
  clear hL iL lL cL B7 s7
  rintro σ G ⟨v10,v11,v12,v13,v14,v15,ys,es,t8,rfl,hL,iL,lL,lL',cL,BG,h8a,h8b,sG⟩
  have t8a:t≤t8∧t8≤t+333:=by lia
  have les:1≤es.length∧es.length≤34:=by lia
  have lys:ys.length=es.length:=by rw [iL.length,length_map]
  clear h7a h7b h8a h8b lL lL' t6a
  refine nB _ _ ?_
  clear nB
  refine bt fun Q7 nA7=>⟨(by show 0≤10000;decide),fun TL G1 n1=>nA7 _ _ ?_⟩
  have fT:J1 TL=none:=sG.free BG n1.fr
  have nTb:¬TL=b:=fun z=>BG.ne n1.fr z.symm
  refine ba fun DB nB=>?_
  refine ⟨(),(),L,(),aq.of (n1.sm _ _ hL),fun P' G2 n2=>?_⟩
  have eP:G2 P'=some (.lst (ys.take 24)):=by
   have:=n2.at'
   rw [o7 (by ext)] at this
   exact this
  have nPb:¬P'=b:=fun z=>(BG.same n1.sm).ne n2.fr z.symm
  have nPT:¬P'=TL:=fun z=>by have:=n1.at';rw [←z,n2.fr] at this;cases this
  have s12:=n1.sm.trans n2.sm
  have iP:ay ED G2 (ys.take 24) ((es.take 24).map DN):=by
   rw [map_take]
   exact (iL.take 24).mono s12.toE
  have lP:(ys.take 24).length=(es.take 24).length:=by rw [length_take,length_take];lia
  refine ⟨P',rfl,⟨_,aq.of n2.at'⟩,?_⟩
  refine qQ (xs:=ys.take 24) (fun i σ H'=>Mm fun (v12 v13 v14 v17:Option V) (zs:List V) (ts:List aa) (t':Int)=>σ=[some (.ref b),some (.int mp),some (.int mt),some (.int wy),some (.bl great),some (.ref pl),some (.int mn),some (.ref sl),some (.ref W),some (.ref L),v10,v11,v12,v13,v14,v15,some (.ref TL),v17]∧H' TL=some (.lst zs)∧ay ED H' zs (ts.map jD)∧ts.length=i∧(∀x∈ts,dL ls x)∧Bx H' b t'∧t8≤t'∧t'≤t8+4*i∧H' P'=some (.lst (ys.take 24))∧aK (Eb b) J1 H'∧(∀a us,G2 a=some (.tup us)→H' a=some (.tup us))) ⟨_,_,_,_,[],[],t8,rfl,n2.sm _ _ n1.at',.nil,rfl,(fun x hx=>by cases hx),BG.same s12,by lia,by lia,eP,sG.trans s12.toE,fun _ _ h=>h⟩ ?_ ?_ ?_
  ·rintro i σ H' _ ⟨_,_,_,_,_,_,_,_,_,_,_,_,_,_,_,q,_⟩
   exact aq.of q
  ·rintro i x σ F0 hx ⟨v12,v13,v14,v17,zs,ts,t9,rfl,hT,iT,lT,cT,BF,h9a,h9b,hP,sF,tF⟩
   have hi:i<(ys.take 24).length:=(List.getElem?_eq_some_iff.mp hx).1
   have h24:(ys.take 24).length≤24:=by rw [length_take];lia
   obtain ⟨dx,edx,gx⟩:=iP.get hx
   rw [getElem?_map] at edx
   obtain ⟨tr,etr,rfl⟩:=Option.map_eq_some_iff.mp edx
   have tc:=cL tr (mem_of_mem_take (mem_of_getElem? etr))
   obtain ⟨o,og,rfl,ho,hog⟩:aT fun o og=>x=.ref o∧G2 o=some (.tup [.str (S tr.1),.str (S tr.2.1),.ref og])∧G2 og=some (fr tr.2.2):=by
    cases gx with
    | @tup a xs _ h r'=>
     cases r' with
     | @cons u1 _ _ _ h1 r'=>
     cases r' with
     | @cons u2 _ _ _ h2 r'=>
     cases r' with
     | @cons u3 _ _ _ h3 r'=>
     cases r'
     cases h1
     cases h2
     obtain ⟨og,rfl,hog⟩:=uJ h3
     exact ⟨a,og,rfl,h,hog⟩
   have lzs:zs.length=ts.length:=by rw [iT.length,length_map]
   refine ⟨o,(),af.of (tF _ _ ho),rfl,_,(),_,(),_,(),rfl,?_⟩
   dsimp only
   refine bt fun Q8 nA8=>⟨(),b,t9,rfl,BF,by lia,by lia,fun om zm t10 F1 f1 hom gm zm0 zmc BF1 h10a h10b=>nA8 _ _ ?_⟩
   have hT1:=f1.old TL _ nTb hT
   refine ⟨(),.inl ⟨rfl,_,aq.of hT1⟩,(),(),(),(),(),b,t10,rfl,BF1,by lia,by lia,fun op zp t11 F2 f2 hop gp zp0 _ BF2 h11a h11b=>⟨(by show 5≤10000;decide),fun q F3 n3=>?_⟩⟩
   have f03:aK (Eb b) F0 F3:=(f1.trans f2).trans n3.sm.toE
   have hT3:=f03.old TL _ nTb hT
   refine ⟨TL,_,(),rfl,hT3,by lia,fun F4 c4=>⟨_,_,_,_,zs++[.ref q],ts++[⟨tr.1,tr.2.1,zm,tr.2.2,zp⟩],t11,rfl,c4.at',?_,by rw [length_append,lT];rfl,fun x hx=>?_,(BF2.same n3.sm).ch c4 (fun z=>nTb z.symm),by lia,by lia,c4.ol P' _ nPT (f03.old P' _ nPb hP),(sF.trans f03).ch c4 fT,fun a us h=>c4.tup (f03.tup _ _ (tF a us h)) hT3⟩⟩
   ·rw [map_append]
    refine vM c4 hT3 (iT.tupS f03) ?_
    exact .tup n3.at' (.cons (.str _) (.cons (.str _) (.cons (i8 (p:=zm) (n3.sm _ _ (f2.tup _ _ hom))) (.cons (i8 (p:=tr.2.2) (f03.tup _ _ (tF _ _ hog))) (.cons (i8 (p:=zp) (n3.sm _ _ hop)) .nil)))))
   ·rcases List.mem_append.mp hx with q' | q'
    ·exact cT x q'
    ·rw [List.mem_singleton.mp q']
     exact ⟨tc.b,tc.e,tc.ne,gm,tc.g,tc.g1,gp,zm0,zmc⟩
  rintro σ F0 ⟨v12,v13,v14,v17,zs,ts,t9,rfl,hT,iT,lT,cT,BF,h9a,h9b,hP,sF,tF⟩
  refine nB _ _ ?_
  have l24:(ys.take 24).length≤24∧1≤(ys.take 24).length:=by rw [length_take];lia
  have lzs:zs.length=ts.length:=by rw [iT.length,length_map]
  have hplF:=sF.tup _ _ hplJ
  refine BW (fun σ H'=>eF fun (zs:List V) (ts:List aa) (t':Int)=>σ=[some (.ref b),some (.int mp),some (.int mt),some (.int wy),some (.bl great),some (.ref pl),some (.int mn),some (.ref sl),some (.ref W),some (.ref L),v10,v11,v12,v13,v14,v15,some (.ref TL),v17]∧H' TL=some (.lst zs)∧ay ED H' zs (ts.map jD)∧1≤ts.length∧ts.length≤24∧(∀x∈ts,dL ls x)∧Bx H' b t'∧t9≤t'∧t'≤t9+1∧aK (Eb b) J1 H') ?_ fun nx=>?_
  ·rintro σ' F1 ⟨zs,ts,t10,rfl,hT,iT,l1,l2',cT,BF,h10a,h10b,sF⟩
   refine ⟨(),(),TL,(),aq.of hT,fun q F2 n2'=>⟨(by show 2≤10000;decide),fun v F3 n3=>?_⟩⟩
   have s23:=n2'.sm.trans n3.sm
   refine k (.ref v) ls ts t10 F3 ((s01.trans sF).trans s23.toE) ?_ l2 l10 nd nc l1 l2' cT (BF.same s23) (by lia) (by lia)
   refine .tup n3.at' (.cons (.tup (s23 _ _ (sF.tup _ _ hplJ)) (tK ls)) (.cons (.tup (n3.sm _ _ n2'.at') (iT.mono s23.toE)) .nil))
  ·refine ⟨(),TL,(),.inl (aq.of hT),_,(),rfl,(),ma (fun c=>?_) (fun c=>?_)⟩
   ·have hlt:(zs.length:Int)<24:=of_decide_eq_true c
    refine ⟨(),b,4,t9,rfl,BF,by ext,by ext,by lia,by lia,fun r t10 F1 r0 r1 _ _ f1 BF1=>⟨rfl,(),ma (fun c'=>?_) (fun c'=>?_)⟩⟩
    ·have hT1:=f1.old TL _ nTb hT
     obtain ⟨y0,ey0⟩:∃y0,zs[0]?=some y0:=⟨_,getElem?_eq_getElem (by lia)⟩
     obtain ⟨d0,ed0,g0⟩:=iT.get ey0
     rw [getElem?_map] at ed0
     obtain ⟨tt,et,rfl⟩:=Option.map_eq_some_iff.mp ed0
     refine ⟨(),.inl ⟨rfl,_,aq.of hT1⟩,(),TL,_,_,(),rfl,aq.of hT1,cq (j:=0) ey0,TL,_,(),rfl,hT1,by lia,fun F2 c2=>nx _ _ ⟨_,ts++[tt],t10,rfl,c2.at',?_,by simp,by rw [length_append];simp;lia,fun x hx=>?_,BF1.ch c2 (fun z=>nTb z.symm),by lia,by lia,(sF.trans f1).ch c2 fT⟩⟩
     ·rw [map_append]
      exact vM c2 hT1 (iT.tupS f1) (g0.tupS (F:=ED) f1)
     ·rcases List.mem_append.mp hx with q' | q'
      ·exact cT x q'
      ·rw [List.mem_singleton.mp q'];exact cT tt (mem_of_getElem? et)
    ·exact nx _ _ ⟨zs,ts,t10,rfl,f1.old TL _ nTb hT,iT.tupS f1,by lia,by lia,cT,BF1,by lia,by lia,sF.trans f1⟩
   ·exact aX (nx _ _ ⟨zs,ts,t9,rfl,hT,iT,by lia,by lia,cT,BF,by lia,by lia,sF⟩)
end
end K15
namespace K15
open PySem L2
set_option maxHeartbeats 4000000
theorem Jv (p:KM.Fra):PyData.eqv (gh p) (gh (0,1))=decide (p=(0,1)):=by
 have e1:PyData.eqv (gh p) (gh (0,1))=(p.1==0 && (p.2==1 && true)):=by simp [PyData.eqv,PyData.eqvAll]
 rw [e1]
 obtain ⟨a,b⟩:=p
 by_cases h1:a=0
 ·by_cases h2:b=1
  ·subst h1 h2;rfl
  ·simp [h1,h2]
 ·simp [h1]
theorem vC {p:KM.Fra}{a b:Nat} (h:Gb a b p) (ha:a≤1900) (hb:b≤1900):Wt (gh p) 3 1:=.tuple (.cons (.int (h.n.mono ha)) (.cons (.int (h.d.mono hb)) .nil))
theorem Jt:Gb 1 1 (0,1):=⟨show (0:Int).natAbs<2 ^ 1 by ext,show (1:Int).natAbs<2 ^ 1 by ext,by ext⟩
section
variable {P:Program}{w:World}{K:Frag}{mg:Str→Option Value}{base:Heap}
inductive GG (vs:List V) (H:Hp) (Q:VK):Prop
 | mk (v:V) (t:aa) (ls:List (List Nat)) (h0:vs=[v]) (h1:aU ED H v (jD t)) (h2:dL ls t) (h3:∀H',ag H H'→Q (.bl (decide (t.most=(0,1)))) H')
def Io:Sp:=fun vs H Q _=>GG  vs H Q
theorem wX (T:Txt K mg):aQ P w K mg base CX0 1 T.is_shut_.f T.is_shut_.d ["tie"] Io:=by
 refine T.is_shut_.F.ok B0 (fun vs H Q E h=>?_) (fun cdv A outer s H vs Q E hr h=>?_)
 ·obtain ⟨v,t,ls,rfl,_⟩:=h
  rfl
 ·obtain ⟨v,t,ls,rfl,hv,tc,k⟩:=h
  obtain ⟨o,om,og,op,rfl,ho,hom,hog,hop⟩:=kM hv
  refine ⟨_,#[ac 3 #[am 4 #[bS 8 (@Dg _ hr.units) #[#[0,yM][#[()]]] #[ar 5 #[[#[()],#[()]]]] #[(),()]]]],?_⟩
  refine ⟨(),o,_,_,(),rfl,af.of ho,rfl,(by show 2≤10000;decide),fun q H1 n1=>⟨gh t.most,gh (0,1),ED,ED,_,_,_,_,i8 (n1.sm _ _ hom),i8 (p:=(0,1)) n1.at',vC tc.fm (by ext) (by ext),vC Jt (by ext) (by ext),by ext,?_⟩⟩
  have:=k H1 n1.sm
  rw [←Jv] at this
  exact this
inductive DW (H:Hp) (W:Addr) (ls:List (List Nat)) (ω:List Nat→KM.Fra) (n:Nat):Prop
 | mk (kvs:_) (h0:H W=some (.dK kvs)) (h1:kvs.length≤n) (h2:∀l∈ls,∃o,valD kvs (Sum.inr (S l))=some (.ref o)∧H o=some (fr (ω l)))
inductive DO (H:Hp) (O:Addr) (ls:List (List Nat)) (on:List Nat→Option Nat) (n:Nat):Prop
 | mk (kvs:_) (h0:H O=some (.dK kvs)) (h1:kvs.length≤n) (h2:∀l∈ls,valD kvs (Sum.inr (S l))=(on l).map fun k:Nat=>V.int (k:Int))
def wC:Option (List Nat)→V
 | none=>.non
 | some l=>au l
def qc (W O:Addr) (H H':Hp):Prop:=∀a o,a≠W→a≠O→H a=some o→H' a=some o
theorem qc.tup {W O a:Addr}{H H':Hp}{k1 k2:List (aI×V)}{us:List V} (h:qc W O H H') (hW:H W=some (.dK k1)) (hO:H O=some (.dK k2)) (ha:H a=some (.tup us)):H' a=some (.tup us):=
 h a _ (fun z=>by rw [z,hW] at ha;cases ha) (fun z=>by rw [z,hO] at ha;cases ha) ha
theorem rm (kvs:List (aI×V)) (k:aI) (v:V):(dR kvs k v).length≤kvs.length+1:=by
 unfold dR
 split
 ·rw [length_map];lia
 ·rw [length_append];exact le_refl _
theorem tU {a b:List Nat} (h:a≠b):(Sum.inr (S a):aI)≠Sum.inr (S b):=fun z=>by
 injection z with z
 exact h (rX z)
theorem dL.tok {ls:List (List Nat)}{t:aa} (h:dL ls t):bp ls t:=⟨h.b,h.e,h.ne,h.g1,h.fg.pos⟩
inductive vg (H:Hp) (W:Addr) (ls:List (List Nat)) (ω:jR) (n:Nat):Prop
 | mk (kvs:_) (h0:H W=some (.dK kvs)) (h1:kvs.length≤n) (h2:∀l∈ls,(∀w,ω l=some w→∃o,valD kvs (Sum.inr (S l))=some (.ref o)∧H o=some (fr w))∧(ω l=none→valD kvs (Sum.inr (S l))=none))
abbrev GW (ls:List (List Nat)) (ω:jR) (c:Nat):Prop:=∀l∈ls,∀w,ω l=some w→Gb c c w∧1≤w.1
inductive Ek (vs:List V) (H:Hp) (Q:VK):Prop
 | mk (v:V) (W O:Addr) (ls:List (List Nat)) (ts:List aa) (s:LP) (n c:Nat) (h0:vs=[v,.ref W,.ref O]) (h1:aU ED H v (bX ls ts)) (h2:(∀t∈ts,dL ls t)) (h3:ts.length≤40) (h4:¬W=O) (h5:vg H W ls s.ω n) (h6:DO H O ls s.on n) (h7:n≤3000) (h8:GW ls s.ω c) (h9:c≤2000) (h10:∀H':Hp,qc W O H H'→vg H' W ls (du ts s).ω (n+ts.length)→DO H' O ls (du ts s).on (n+ts.length)→GW ls (du ts s).ω (c+6*ts.length)→Q (wC (du ts s).lf) H')
def GM:Sp:=fun vs H Q _=>Ek  vs H Q
theorem rY (T:Txt K mg):aQ P w K mg base CX0 4 T.lift_once_.f T.lift_once_.d ["net", "worths", "onward"] GM:=by
 have G_is_shut:=#[(wX)]
 have G_times:=#[(rA)]
 have G_compared:=#[(pP)]
 refine T.lift_once_.F.ok bT (fun vs H Q E h=>?_) (fun cdv A outer s H vs Q E hr h=>?_)
 ·obtain ⟨v,W,O,ls,ts,st,n,c,rfl,_⟩:=h
  rfl
 ·obtain ⟨v,W,O,ls,ts,st,n,c,rfl,hv,tc,h40,nWO,⟨kv0,hW0,lW0,vW0⟩,⟨ko0,hO0,lO0,vO0⟩,hn,gω,hc,k⟩:=h
  obtain ⟨na,pa,ta,ys,rfl,hna,hpa,hta,ity⟩:=bU hv
  have lys:ys.length=ts.length:=by rw [ity.length,length_map]
  refine ⟨_,#[#[3,bT.nd,iI,#[cj 3]] :: #[#[dX 8 PassesOwn.never rfl (@EW _ (K) _ _ _ _ _ _ _ qE T.b_enumerate #[[#[#[0,xq][#[()]]]]] (by rfl) (by rfl)) (@cx _ (K) _ _ _ _ (2) rfl #[aC 5 #[4,bT.nd,l8] #[aC 5 #[5,bT.nd,jX] (@cF _) (by rfl)] (by rfl)] (by rfl) (by rfl) (by rfl)) #[#[gc 6 #[5,jX] (@cx _ (K) _ _ _ _ (5) rfl #[aC 5 #[6,bT.nd,cE] #[aC 5 #[7,bT.nd,jQ] #[aC 5 #[8,bT.nd,wp] #[aC 5 #[9,bT.nd,nY] #[aC 5 #[10,bT.nd,uS] (@cF _) (by rfl)] (by rfl)] (by rfl)] (by rfl)] (by rfl)] (by rfl) (by rfl) (by rfl)) (by rfl) (by rfl) (by rfl)] :: #[#[bd 8 #[PW.pt 3 #[iY 7 #[bQ 3 #[G_is_shut,sV,T.is_shut_,#[[#[5,jX]]]] (by intro _;rfl)] #[iH 4 #[aA 8 (@qY _) #[7,jQ] #[1,de] rfl]]]] #[ac 3 #[AF 2]] (@aJ _)] :: #[#[11,bT.nd,jj,#[G_times,uY,T.times_,#[[#[9,nY],#[bP 7 (@cm _) #[1,de] #[7,jQ] (fun _ _=>rfl)]]]]] :: #[ac 3 #[bd 8 #[PW.pt 3 #[iY 7 #[aA 8 (@qY _) #[6,cE] #[1,de] rfl] #[iH 4 #[aA 8 (@lD _) #[G_compared,qN,T.compared_,#[[#[11,jj],#[bP 7 (@cm _) #[1,de] #[6,cE] (fun _ _=>rfl)]]]] #[()] #[(),()]]]]] #[#[gc 6 #[11,jj] #[ua 7 #[1,de] #[6,cE] (@zX _) (by intro _;rfl)] (by rfl) (by rfl) (by rfl)] :: #[#[gc 6 #[4,l8] #[ua 7 #[2,tS] #[6,cE] (@zX _) (by intro _;rfl)] (by rfl) (by rfl) (by rfl)] :: #[ac 3 #[3,bT.nd,iI,#[6,cE]]]]] (@aJ _)]]]]] (by intro _;rfl)] :: #[ac 3 #[am 4 #[3,iI]]]]],?_⟩
  refine bt fun Q1 nA=>nA _ _ ?_
  refine ba fun DB nB=>?_
  refine ⟨(),na,_,_,(),rfl,af.of hna,rfl,ta,false,rfl,⟨ys,af.of hta⟩,Dk (xs:=ys) (fun i σ H'=>Hh fun (v4 v5 v6 v7 v8 v9 v10 v11:Option V)=>σ=[some (.ref na),some (.ref W),some (.ref O),some (wC (upP ts st i).lf),v4,v5,v6,v7,v8,v9,v10,v11]∧vg H' W ls (upP ts st i).ω (n+i)∧DO H' O ls (upP ts st i).on (n+i)∧GW ls (upP ts st i).ω (c+6*i)∧qc W O H H') ⟨_,_,_,_,_,_,_,(),⟨kv0,hW0,by lia,vW0⟩,⟨ko0,hO0,by lia,vO0⟩,gω,fun _ _ _ _ h=>h⟩ ?_ ?_ ?_⟩
  ·rintro i σ H' _ ⟨v4,v5,v6,v7,v8,v9,v10,v11,rfl,_,_,_,f2⟩
   exact af.of (f2.tup hW0 hO0 hta)
  ·rintro i x T' σ J0 hx hT ⟨v4,v5,v6,v7,v8,v9,v10,v11,rfl,⟨kv,hW,lW,vW⟩,⟨ko,hO,lO,vO⟩,gω,f2⟩
   have hi:i<ys.length:=(List.getElem?_eq_some_iff.mp hx).1
   have nT:Nw J0 T' (.tup [.int (i:Int),x]) (aE J0 T' (.tup [.int (i:Int),x])):=.mk' hT
   generalize aE J0 T' (.tup [.int (i:Int),x])=J1 at nT ⊢
   obtain ⟨dy,edy,gy⟩:=ity.get hx
   rw [getElem?_map] at edy
   obtain ⟨t,et,rfl⟩:=Option.map_eq_some_iff.mp edy
   have tt:=tc t (mem_of_getElem? et)
   have eU:=wf (s:=st) et
   obtain ⟨o,om,og,op,rfl,ho,hom,hog,hop⟩:=kM gy
   generalize upP ts st i=U at eU vW vO gω ⊢
   have up1:∀{a:Addr}{us:List V},H a=some (.tup us)→J1 a=some (.tup us):=fun h=>nT.sm _ _ (f2.tup hW0 hO0 h)
   have gyJ:aU ED J1 (.ref o) (jD t):=.tup (up1 ho) (.cons (.str _) (.cons (.str _) (.cons (i8 (p:=t.most) (up1 hom)) (.cons (i8 (p:=t.gain) (up1 hog)) (.cons (i8 (p:=t.price) (up1 hop)) .nil)))))
   have grow:GW ls U.ω (c+6*(i+1)):=fun l hl w e=>⟨(gω l hl w e).1.mono (by lia) (by lia),(gω l hl w e).2⟩
   have keep:∀{J:Hp}{w4 w5 w6 w7 w8 w9 w10 w11:Option V},fh U.ω t=none→ag J0 J→Hh fun (v4 v5 v6 v7 v8 v9 v10 v11:Option V)=>[some (V.ref na),some (.ref W),some (.ref O),some (wC U.lf),w4,w5,w6,w7,w8,w9,w10,w11]=[some (.ref na),some (.ref W),some (.ref O),some (wC (upP ts st (i+1)).lf),v4,v5,v6,v7,v8,v9,v10,v11]∧vg J W ls (upP ts st (i+1)).ω (n+(i+1))∧DO J O ls (upP ts st (i+1)).on (n+(i+1))∧GW ls (upP ts st (i+1)).ω (c+6*(i+1))∧qc W O H J:=by
    intro J w4 w5 w6 w7 w8 w9 w10 w11 no sJ
    rw [eU,gM no]
    exact ⟨_,_,_,_,_,_,_,_,rfl,⟨kv,sJ _ _ hW,by lia,fun l hl'=>⟨fun w e=>let ⟨o',v',h'⟩:=(vW l hl').1 w e;⟨o',v',sJ _ _ h'⟩,(vW l hl').2⟩⟩,⟨ko,sJ _ _ hO,by lia,vO⟩,grow,fun a u h1 h2 h=>sJ _ _ (f2 a u h1 h2 h)⟩
   refine ⟨T',(),af.of nT.at',rfl,_,(),_,(),rfl,?_⟩
   dsimp only
   refine ⟨(),o,(),af.of (up1 ho),rfl,_,(),_,(),_,(),_,(),_,(),rfl,?_⟩
   dsimp only
   refine BW (fun σ' H'=>t.most≠(0,1)∧(∃we,U.ω t.en=some we)∧σ'=[some (.ref na),some (.ref W),some (.ref O),some (wC U.lf),some (.int (i:Int)),some (.ref o),some (.str (S t.bg)),some (.str (S t.en)),some (.ref om),some (.ref og),some (.ref op),v11]∧ag J1 H') ?_ fun nx=>?_
   ·rintro σ' J2 ⟨hopen,⟨we,ewe⟩,rfl,s2⟩
    have s02:=nT.sm.trans s2
    obtain ⟨oe,ve,hoe⟩:=(vW t.en tt.e).1 we ewe
    obtain ⟨ge,pe1⟩:=gω t.en tt.e we ewe
    obtain ⟨g1,g2⟩:=gz tt.fg (by ext) (by ext)
    obtain ⟨e1,e2⟩:=gz ge (by lia) (by lia)
    refine bt fun Q2 nA2=>⟨(),(),(),W,kv,Sum.inr (S t.en),.ref oe,rfl,rfl,s02 _ _ hW,ve,og,oe,_,_,_,(),s2 _ _ (up1 hog),s02 _ _ hoe,⟨g1,g2,e1,e2,gd tt.fg ge⟩,fun q J3 n3=>nA2 _ _ ?_⟩
    have gq:Gb (c+6*(i+1)) (c+6*(i+1)) (KM.lTim t.gain we):=tt.fg.tim ge (by lia) (by lia)
    obtain ⟨q1,q2⟩:=gz gq (by lia) (by lia)
    have s03:=s02.trans n3.sm
    refine Ja (fun H'=>fh U.ω t=some (KM.lTim t.gain we)∧J3=H') (fun H'=>fh U.ω t=none∧J3=H') (fun R r1 r0=>?_) ?_ ?_
    ·refine ⟨(),(),W,kv,Sum.inr (S t.bg),rfl,rfl,s03 _ _ hW,(),?_⟩
     cases eb:U.ω t.bg with
     | none=>
      rw [(vW t.bg tt.b).2 eb]
      exact cf (r1 _ ⟨Kf hopen ewe eb,rfl⟩)
     | some wb=>
      obtain ⟨ob,vb,hob⟩:=(vW t.bg tt.b).1 wb eb
      obtain ⟨gb,pb1⟩:=gω t.bg tt.b wb eb
      obtain ⟨b1,b2⟩:=gz gb (by lia) (by lia)
      rw [vb]
      refine aX ⟨(),(),(),W,kv,Sum.inr (S t.bg),.ref ob,rfl,rfl,s03 _ _ hW,vb,q,ob,_,_,_,(),n3.at',s03 _ _ hob,q1,q2,b1,b2,_,(),rfl,(),?_⟩
      have ecmp:decide (0<rJ ((KM.lTim t.gain we).1*wb.2) (wb.1*(KM.lTim t.gain we).2))=Ao wb (KM.lTim t.gain we):=Ij
      have eB:=JG hopen ewe eb
      rw [←ecmp] at eB
      cases cnd:decide (0<rJ ((KM.lTim t.gain we).1*wb.2) (wb.1*(KM.lTim t.gain we).2)) with
      | true=>
       rw [cnd,if_pos rfl] at eB
       refine Eq.mp (congrArg (fun b=>R b J3) cnd.symm) (r1 _ ⟨eB,rfl⟩)
      | false=>
       rw [cnd,if_neg Bool.false_ne_true] at eB
       refine Eq.mp (congrArg (fun b=>R b J3) cnd.symm) (r0 _ ⟨eB,rfl⟩)
    ·rintro _ ⟨hl,rfl⟩
     refine ba fun DC nC=>⟨(),(),(),W,kv,Sum.inr (S t.bg),rfl,rfl,s03 _ _ hW,by lia,fun J4 c4=>nC _ _ ?_⟩
     have hO4:=c4.ol O _ (fun z=>nWO z.symm) (s03 _ _ hO)
     refine ba fun DE nE=>⟨(),(),(),O,ko,Sum.inr (S t.bg),rfl,rfl,hO4,by lia,fun J5 c5=>nE _ _ ?_⟩
     have tupJ:∀{a:Addr}{us:List V},J3 a=some (.tup us)→J5 a=some (.tup us):=fun {a us} h=>c5.ol a _ (fun z=>by rw [z,s03 _ _ hO] at h;cases h) (c4.ol a _ (fun z=>by rw [z,s03 _ _ hW] at h;cases h) h)
     have aV:Hh fun (v4 v5 v6 v7 v8 v9 v10 v11:Option V)=>[some (V.ref na),some (.ref W),some (.ref O),some (.str (S t.bg)),some (.int (i:Int)),some (.ref o),some (.str (S t.bg)),some (.str (S t.en)),some (.ref om),some (.ref og),some (.ref op),some (.ref q)]=[some (.ref na),some (.ref W),some (.ref O),some (wC (upP ts st (i+1)).lf),v4,v5,v6,v7,v8,v9,v10,v11]∧vg J5 W ls (upP ts st (i+1)).ω (n+(i+1))∧DO J5 O ls (upP ts st (i+1)).on (n+(i+1))∧GW ls (upP ts st (i+1)).ω (c+6*(i+1))∧qc W O H J5:=by
      rw [eU,gu hl]
      have eo:∀l,(iq i t (KM.lTim t.gain we) U).ω l=if l=t.bg then some (KM.lTim t.gain we) else U.ω l:=fun _=>rfl
      have eon:∀l,(iq i t (KM.lTim t.gain we) U).on l=if l=t.bg then some i else U.on l:=fun _=>rfl
      have elf:wC (iq i t (KM.lTim t.gain we) U).lf=.str (S t.bg):=rfl
      rw [elf]
      generalize iq i t (KM.lTim t.gain we) U=U' at eo eon
      refine ⟨_,_,_,_,_,_,_,(),⟨_,c5.ol W _ nWO c4.at',by have:=rm kv (Sum.inr (S t.bg)) (.ref q);lia,fun l hl'=>?_⟩,⟨_,c5.at',by have:=rm ko (Sum.inr (S t.bg)) (.int (i:Int));lia,fun l hl'=>?_⟩,fun l hl' w' e'=>?_,fun a u h1 h2 h=>c5.ol a _ h2 (c4.ol a _ h1 (s03 _ _ (f2 a u h1 h2 h)))⟩
      ·rw [pp,eo]
       by_cases cl:l=t.bg
       ·subst cl
        rw [if_pos rfl,if_pos rfl]
        exact ⟨fun w' e'=>by cases e';exact ⟨q,rfl,tupJ n3.at'⟩,fun z=>by cases z⟩
       ·rw [if_neg (tU cl),if_neg cl]
        exact ⟨fun w' e'=>let ⟨o',v',h'⟩:=(vW l hl').1 w' e';⟨o',v',tupJ (s03 _ _ h')⟩,(vW l hl').2⟩
      ·rw [pp,eon]
       by_cases cl:l=t.bg
       ·subst cl
        rw [if_pos rfl,if_pos rfl]
        rfl
       ·rw [if_neg (tU cl),if_neg cl,vO l hl']
      ·rw [eo] at e'
       by_cases cl:l=t.bg
       ·rw [if_pos cl] at e'
        cases e'
        exact ⟨gq,qA tt.g1 tt.fg.pos pe1 ge.pos⟩
       ·rw [if_neg cl] at e'
        exact grow l hl' w' e'
     exact ⟨(),aV⟩
    ·rintro _ ⟨hl,rfl⟩
     exact keep hl s03
   ·refine ⟨(),.ref o,t,ls,rfl,gyJ,tt,fun J2 s2=>⟨(),?_⟩⟩
    have s02:=nT.sm.trans s2
    by_cases hs:t.most=(0,1)
    ·rw [decide_eq_true hs]
     refine cf (cf ?_)
     exact keep (by unfold fh;rw [if_pos hs]) s02
    ·rw [decide_eq_false hs]
     refine aX ⟨(),(),W,kv,Sum.inr (S t.en),rfl,rfl,s02 _ _ hW,(),?_⟩
     cases e:U.ω t.en with
     | none=>
      rw [(vW t.en tt.e).2 e]
      refine cf ?_
      exact keep (by unfold fh;rw [if_neg hs,e]) s02
     | some we=>
      obtain ⟨oe,ve,hoe⟩:=(vW t.en tt.e).1 we e
      rw [ve]
      exact aX (nx _ _ ⟨hs,⟨we,e⟩,rfl,s2⟩)
  ·rintro σ J ⟨v4,v5,v6,v7,v8,v9,v10,v11,rfl,dw,do',gω,f2⟩
   rw [lys] at dw do' gω ⊢
   exact nB _ _ ⟨(),k J f2 dw do' gω⟩
theorem qx {H:Hp}{W:Addr}{ls:List (List Nat)}{s:LS}{n:Nat}:vg H W ls (i5 s).ω n↔DW H W ls s.ω n:=by
 constructor
 ·rintro ⟨kv,h1,h2,h3⟩
  exact ⟨kv,h1,h2,fun l hl=>(h3 l hl).1 _ rfl⟩
 ·rintro ⟨kv,h1,h2,h3⟩
  exact ⟨kv,h1,h2,fun l hl=>⟨fun w e=>by cases e;exact h3 l hl,fun z=>by cases z⟩⟩
theorem xo {ls:List (List Nat)}{s:LS}{c:Nat}:GW ls (i5 s).ω c↔∀l∈ls,Gb c c (s.ω l)∧1≤(s.ω l).1:=
 ⟨fun h l hl=>h l hl _ rfl,fun h l hl w e=>by cases e;exact h l hl⟩
inductive GI (vs:List V) (H:Hp) (Q:VK):Prop
 | mk (v:V) (W O:Addr) (ls:List (List Nat)) (ts:List aa) (s:LS) (p n c:Nat) (h0:vs=[v,.ref W,.ref O]) (h1:aU ED H v (bX ls ts)) (h2:(∀t∈ts,dL ls t)) (h3:ts.length≤40) (h4:¬W=O) (h5:DW H W ls s.ω n) (h6:DO H O ls s.on n) (h7:n≤3000) (h8:(∀l∈ls,Gb c c (s.ω l)∧1≤(s.ω l).1)) (h9:c≤2000) (h10:∀H':Hp,qc W O H H'→DW H' W ls (kf p ts s).ω (n+ts.length)→DO H' O ls (kf p ts s).on (n+ts.length)→(∀l∈ls,Gb (c+6*ts.length) (c+6*ts.length) ((kf p ts s).ω l)∧1≤((kf p ts s).ω l).1)→Q (wC (kf p ts s).lf) H')
def Jq:Sp:=fun vs H Q _=>GI  vs H Q
theorem zQ (T:Txt K mg):aQ P w K mg base CX0 4 T.lift_once_.f T.lift_once_.d ["net", "worths", "onward"] Jq:=by
 refine (#[(rY)]).imp fun vs H Q E h=>?_
 obtain ⟨v,W,O,ls,ts,st,p,n,c,rfl,hv,tc,h40,nWO,dw,do',hn,gω,hc,k⟩:=h
 refine ⟨v,W,O,ls,ts,i5 st,n,c,rfl,hv,tc,h40,nWO,qx.mpr dw,do',hn,xo.mpr gω,hc,?_⟩
 rw [zY p]
 exact fun H' f dw do' gω=>k H' f (qx.mp dw) do' (xo.mp gω)
end
end K15
namespace K15
open PySem L2
set_option maxHeartbeats 4000000
abbrev bf (xs:List Nat):List V:=xs.map fun i:Nat=>V.int ((i:Nat):Int)
theorem As {ls:List (List Nat)}{t:aa} (h:dL ls t):(0<t.most.1)↔t.most≠(0,1):=by
 constructor
 ·intro q z;rw [z] at q;exact absurd q (by ext)
 ·intro q
  have h0:=h.m0
  by_cases c:0<t.most.1
  ·exact c
  ·exfalso
   have e:t.most.1=0:=by lia
   have g:=h.mc
   rw [e,Int.gcd_zero_left] at g
   have p:=h.fm.pos
   have e2:t.most.2=1:=by lia
   exact q (Prod.ext e e2)
section
variable {P:Program}{w:World}{K:Frag}{mg:Str→Option Value}{base:Heap}
end
end K15
namespace K15
open PySem L2
set_option maxHeartbeats 4000000
theorem tR {c:TT}{tb:TS}{D:dj}{σ:St}{H:Hp} (Pv:Nat→St→Hp→Prop) (m:Nat) (h0:Pv m σ H)
 (hs:∀m σ H,Pv m σ H→∀(Q:Bool→Hp→Prop) (D':dj),(∀m' σ' H',m'<m→Pv m' σ' H'→D'.nx σ' H')→(∀v H',D.rt v H'→D'.rt v H')→(∀H1,tb D' σ H1→Q true H1)→(∀H1,D.nx σ H1→Q false H1)→c σ H Q):CQ c tb D σ H:=by
 refine ⟨Pv,⟨m,h0⟩,fun m σ H h=>?_⟩
 refine hs m σ H h _ { D with nx:=fun σ' H'=>∃m',m'<m∧Pv m' σ' H',ct:=fun σ' H'=>∃m',m'<m∧Pv m' σ' H',bk:=D.nx } (fun m' σ' H' hm hp=>⟨m',hm,hp⟩) (fun _ _ z=>z) (fun H1 t=>?_) fun H1 t=>?_
 ·rw [if_pos rfl]
  exact ⟨_,fun _ _ z=>z,t⟩
 ·rw [if_neg (by ext)]
  exact t
theorem Dl {xs:List V}{j:Nat} (h:j≤xs.length):dW xs (some (j:Int)) none=xs.drop j:=by
 unfold dW
 rw [HT.sIx_none,HT.sIx_nat,Nat.min_eq_left h]
 exact take_of_length_le (by rw [length_drop];exact le_refl _)
section
variable {P:Program}{w:World}{K:Frag}{mg:Str→Option Value}{base:Heap}
inductive Er (vs:List V) (H:Hp) (Q:VK):Prop
 | mk (v:V) (O:Addr) (ls:List (List Nat)) (ts:List aa) (st:LS) (l0:List Nat) (n:Nat) (h0:vs=[v,.ref O,au l0]) (h1:aU ED H v (bX ls ts)) (h2:(∀t∈ts,dL ls t)) (h3:ls.length≤10) (h4:DO H O ls st.on n) (h5:BI ls ts ls.length ts.length st) (h6:st.lf=some l0) (h7:∀(R:List Nat) (us:List aa) (r:Addr) (H':Hp),cX ts R us→R.length≤10→ag H H'→H r=none→H' r=some (.lst (bf R))→Q (.ref r) H')
def Gu:Sp:=fun vs H Q _=>Er  vs H Q
theorem xy (T:Txt K mg):aQ P w K mg base CX0 1 T.round_ahead_.f T.round_ahead_.d ["net", "onward", "place"] Gu:=by
 refine T.round_ahead_.F.ok i0 (fun vs H Q E h=>?_) (fun cdv A outer s H vs Q E hr h=>?_)
 ·obtain ⟨v,O,ls,ts,st,l0,n,rfl,_⟩:=h
  rfl
 ·obtain ⟨v,O,ls,ts,st,l0,n,rfl,hv,tc,l10,⟨ko,hO,lO,vO⟩,bi,elf,k⟩:=h
  obtain ⟨na,pa,ta,ys,rfl,hna,hpa,hta,ity⟩:=bU hv
  have tk:∀t∈ts,bp ls t:=fun t ht=>(tc t ht).tok
  refine ⟨_,#[#[3,i0.nd,dQ,#[cP 4 (@cC _)]] :: #[#[4,i0.nd,iu,#[cP 4 (@cC _)]] :: #[#[oq 6 PassesOwn.never #[aA 8 (@Gy _ (K) (by rfl)) #[2,b8] #[3,dQ] rfl] #[#[f8 4 (@gX _ (K) _ _ _ _ _ _ _ _ _ _ _ PySem.F.plainAttrs_list PySem.F.slot_list_append PySem.F.type_list_append (@gI _) #[3,dQ] #[[#[2,b8]]] (by rfl) (by rfl) (by rfl) (by rfl) (by rfl) (by rfl)) (by rfl)] :: #[#[f8 4 (@gX _ (K) _ _ _ _ _ _ _ _ _ _ _ PySem.F.plainAttrs_list PySem.F.slot_list_append PySem.F.type_list_append (@gI _) #[4,iu] #[[#[bP 7 (@cm _) #[1,jT] #[2,b8] (fun _ _=>rfl)]]] (by rfl) (by rfl) (by rfl) (by rfl) (by rfl) (by rfl)) (by rfl)] :: #[ac 3 #[2,i0.nd,b8,#[#[#[#[0,uQ][#[()]]][#[bP 7 (@cm _) #[1,jT] #[2,b8] (fun _ _=>rfl)]]][#[()]]]]]]]] :: #[ac 3 #[am 4 #[cg 10 (@nG _ (K) (by rfl)) #[4,iu] #[cH 3 (@gX _ (K) _ _ _ _ _ _ _ _ _ _ _ PySem.F.plainAttrs_list PySem.F.slot_list_index PySem.F.type_list_index (@DV _) #[3,dQ] #[[#[2,b8]]] (by rfl) (by rfl) (by rfl) (by rfl) (by rfl) (by rfl))] (@dA _)]]]]]],?_⟩
  refine bt fun Q1 nA1=>⟨zero_le _,fun pl J1 n1=>nA1 _ _ ?_⟩
  refine bt fun Q2 nA2=>⟨zero_le _,fun tl J2 n2=>nA2 _ _ ?_⟩
  have fpl:H pl=none:=n1.fr
  have ftl:H tl=none:=n1.sm.free n2.fr
  have nlt:¬pl=tl:=fun z=>by have:=n2.fr;rw [←z,n1.at'] at this;cases this
  refine ba fun DB nB=>?_
  refine tR (fun m σ H'=>eF fun (us:List aa) (ks:List Nat) (c:List Nat)=>σ=[some (.ref na),some (.ref O),some (au c),some (.ref pl),some (.ref tl)]∧m=ls.length - us.length∧H' pl=some (.lst ((us.map (·.bg)).map au))∧H' tl=some (.lst (bf ks))∧ks.map (fun k=>ts[k]?)=us.map some∧(∀t∈us,t.most≠(0,1))∧(∀t∈us,Ed st t)∧(us.map (·.bg)).Nodup∧us.map (·.bg)++[c]=l0 :: us.map (·.en)∧c∈ls∧ls.length≤st.la c+us.length∧(∀t∈us,t.bg∈ls)∧ag H H') ls.length ⟨[],[],l0,rfl,rfl,n2.sm _ _ n1.at',n2.at',rfl,(fun t h=>by cases h),(fun t h=>by cases h),nodup_nil,rfl,(bi.lf l0 elf).2,by rw [(bi.lf l0 elf).1];exact le_add_right _ _,(fun t h=>by cases h),n1.sm.trans n2.sm⟩ ?_
  rintro m σ H' ⟨us,ks,c,rfl,rfl,hpl,htl,e1,ho,he,nd,ch,hc,hla,sub,sm⟩ Q D' nD rD qT qF
  have lk:ks.length=us.length:=by have:=congrArg length e1;simpa using this
  have lus:us.length≤ls.length:=by
   have:=vT (xs:=us.map (·.bg)) (ys:=ls) nd fun x hx=>by
    obtain ⟨t,ht,rfl⟩:=List.mem_map.mp hx
    exact sub t ht
   rwa [length_map] at this
  refine ⟨(),(),pl,(),.inl (aq.of hpl),rfl,JR _,(),?_⟩
  show Q (!C2 (au c) _) _
  rw [Mt]
  cases hcn:(us.map (·.bg)).contains c with
  | false=>
   refine qT _ ?_
   have nc:c∉us.map (·.bg):=fun z=>by
    have:=List.elem_eq_true_of_mem z
    rw [List.contains] at hcn
    rw [this] at hcn
    cases hcn
   have nd2:(us.map (·.bg)++[c]).Nodup:=List.nodup_append.mpr ⟨nd,by simp,fun a ha b hb=>by
    rw [List.mem_singleton.mp hb]
    exact fun z=>nc (z▸ha)⟩
   have ll:us.length+1≤ls.length:=by
    have:=vT (xs:=us.map (·.bg)++[c]) (ys:=ls) nd2 fun x hx=>by
     rcases List.mem_append.mp hx with z | z
     ·obtain ⟨t,ht,rfl⟩:=List.mem_map.mp z
      exact sub t ht
     ·rw [List.mem_singleton.mp z];exact hc
    rwa [length_append,length_map,List.length_singleton] at this
   obtain ⟨kk,ek⟩:∃kk,st.on c=some kk:=Option.ne_none_iff_exists'.mp (bi.la1 c (by lia))
   obtain ⟨t,et,op,rfl,le1,lt1,la1⟩:=bi.on c kk ek
   have tt:=tc t (mem_of_getElem? et)
   have edt:Ed st t:=⟨cW tt.g1 tt.fg.pos,le1,lt1⟩
   have vo:valD ko (Sum.inr (S t.bg))=some (.int (kk:Int)):=by rw [vO t.bg hc,ek];rfl
   obtain ⟨y,ey⟩:∃y,ys[kk]?=some y:=⟨_,getElem?_eq_getElem (by rw [ity.length,length_map];exact (List.getElem?_eq_some_iff.mp et).1)⟩
   obtain ⟨dy,edy,gy⟩:=ity.get ey
   rw [getElem?_map,et] at edy
   obtain rfl:jD t=dy:=Option.some.inj edy
   obtain ⟨o,om,og,op',rfl,hto,_,_,_⟩:=kM gy
   refine ba fun DC nC=>⟨(),.inl ⟨rfl,_,aq.of hpl⟩,(),pl,_,(),rfl,hpl,by rw [length_map,length_map];lia,fun J3 c3=>nC _ _ ?_⟩
   have sm3:ag H J3:=fun a u h=>c3.ol a u (fun z=>by rw [z,fpl] at h;cases h) (sm a u h)
   have htl3:=c3.ol tl _ (fun z=>nlt z.symm) htl
   refine ba fun DE nE=>⟨(),.inl ⟨rfl,_,aq.of htl3⟩,(),(),O,ko,Sum.inr (S t.bg),(),rfl,sm3 _ _ hO,vo,tl,_,(),rfl,htl3,by rw [length_map];lia,fun J4 c4=>nE _ _ ?_⟩
   have sm4:ag H J4:=fun a u h=>c4.ol a u (fun z=>by rw [z,ftl] at h;cases h) (sm3 a u h)
   refine ⟨(),na,_,_,(),rfl,af.of (sm4 _ _ hna),rfl,(),(),O,ko,Sum.inr (S t.bg),(),rfl,sm4 _ _ hO,vo,ta,ys,_,(),rfl,af.of (sm4 _ _ hta),cq ey,o,_,_,(),rfl,af.of (sm4 _ _ hto),rfl,?_⟩
   refine nD (ls.length - (us.length+1)) _ _ (by lia) ⟨us++[t],ks++[kk],t.en,rfl,by rw [length_append];rfl,?_,?_,?_,?_,?_,?_,?_,tt.e,?_,?_,sm4⟩
   ·rw [c4.ol pl _ nlt c3.at']
    simp
   ·rw [c4.at']
    simp [bf]
   ·rw [map_append,map_append,e1]
    simp [et]
   ·intro x hx
    rcases List.mem_append.mp hx with z | z
    ·exact ho x z
    ·rw [List.mem_singleton.mp z];exact op
   ·intro x hx
    rcases List.mem_append.mp hx with z | z
    ·exact he x z
    ·rw [List.mem_singleton.mp z];exact edt
   ·rw [map_append];exact nd2
   ·rw [map_append,map_append]
    show (us.map (·.bg)++[t.bg])++[t.en]=_
    rw [ch]
    rfl
   ·rw [length_append,List.length_singleton];lia
   ·intro x hx
    rcases List.mem_append.mp hx with z | z
    ·exact sub x z
    ·rw [List.mem_singleton.mp z];exact tt.b
  | true=>
   refine qF _ (nB _ _ ?_)
   obtain ⟨j,hj⟩:=getElem?_of_mem (List.contains_iff_mem.mp hcn)
   have lj:j<us.length:=by have:=(List.getElem?_eq_some_iff.mp hj).1;rwa [length_map] at this
   refine ⟨(),(),.inl ⟨rfl,_,aq.of hpl⟩,(),pl,_,c,j,rfl,rfl,hpl,by rw [length_map];lia,hj,nd,(),tl,(),aq.of htl,fun r J3 n3=>?_⟩
   have rk:=HD tk bi.pos e1 ho he nd ch hj
   refine k (ks.drop j) (us.drop j) r J3 rk (by rw [length_drop];lia) (sm.trans n3.sm) (sm.free n3.fr) ?_
   rw [n3.at',Dl (by rw [length_map];lia)]
   simp only [bf,map_drop]
end
end K15
namespace K15
open PySem L2
set_option maxHeartbeats 4000000
section
variable {P:Program}{w:World}{K:Frag}{mg:Str→Option Value}{base:Heap}
theorem xh {J:It}{n:Nat}{H1:Hp}{D:Addr}{σc:St}{g:TG}{tk tv:TE}{Q:VK} (Pv:Nat→Hp→List (aI×V)→Prop) (hz:n≤4000) (h0:Pv 0 (aE H1 D (.dK [])) [])
 (hD:∀i H ys,Pv i H ys→H D=some (.dK ys)∧ys.length≤i) (hgo:∀i H ys,i<n→Pv i H ys→J.go i H) (hst:∀H ys,Pv n H ys→J.stop n H)
 (hs:∀i H ys x H',i<n→Pv i H ys→J.yld i H x H'→g x σc H' fun σ2 H2=>jx σc σ2∧tk σ2 H2 fun kv H4=>∃k,kv=fW k∧tv σ2 H4 fun y H5=>H5 D=some (.dK ys)∧Pv (i+1) (aE H5 D (.dK (dR ys k y))) (dR ys k y))
 (hd:∀H ys,Pv n H ys→Q (.ref D) H):Cu J σc g tT tk tv D H1 Q:=by
 refine ⟨fun i m H ys=>m=n - i∧i≤n∧Pv i H ys,⟨n,by simp,zero_le _,h0⟩,?_⟩
 rintro i m H ys ⟨rfl,hi,p⟩
 obtain ⟨q1,q2⟩:=hD i H ys p
 refine ⟨q1,?_⟩
 by_cases hlt:i<n
 ·refine .inr ⟨hgo i H ys hlt p,by rw [sizeLine_eq];lia,Pv (i+1),fun H' ys' p'=>⟨n - (i+1),by lia,rfl,hlt,p'⟩,fun x H' y=>?_⟩
  have e:=hs i H ys x H' hlt p y
  have q:(fun (σ2:St) (H2:Hp)=>jx σc σ2∧tT σ2 H2 fun b H3=>if b=true then tk σ2 H3 fun kv H4=>∃k,kv=fW k∧tv σ2 H4 fun y H5=>H5 D=some (.dK ys)∧Pv (i+1) (aE H5 D (.dK (dR ys k y))) (dR ys k y) else Pv (i+1) H3 ys) =
   (fun σ2 H2=>jx σc σ2∧tk σ2 H2 fun kv H4=>∃k,kv=fW k∧tv σ2 H4 fun y H5=>H5 D=some (.dK ys)∧Pv (i+1) (aE H5 D (.dK (dR ys k y))) (dR ys k y)):=by
   funext σ2 H2
   unfold tT
   dsimp only
   rw [if_pos rfl]
  rw [q]
  exact e
 ·have e:i=n:=by lia
  subst e
  exact .inl ⟨hst H ys p,hd H ys p⟩
inductive GC (vs:List V) (H:Hp) (Q:VK):Prop
 | mk (v:V) (ls:List (List Nat)) (ts:List aa) (h0:vs=[v]) (h1:aU ED H v (bX ls ts)) (h2:(∀t∈ts,dL ls t)) (h3:ts.length≤24) (h4:1≤ls.length) (h5:ls.length≤10) (h6:((∃m,m<ls.length∧(aW ts (m+1)).lf=none∧∀H',ag H H'→Q .non H')∨((∀m,m<ls.length→(aW ts (m+1)).lf≠none)∧∀(R:List Nat) (us:List aa) (r:Addr) (H':Hp),cX ts R us→R.length≤10→ag H H'→H r=none→H' r=some (.lst (bf R))→Q (.ref r) H')))
def Hk:Sp:=fun vs H Q _=>GC  vs H Q
theorem jy (T:Txt K mg):aQ P w K mg base CX0 5 T.gaining_round_.f T.gaining_round_.d ["net"] Hk:=by
 have G_lift_once:=#[(zQ)]
 have G_round_ahead:=#[(xy)]
 refine T.gaining_round_.F.ok cQ (fun vs H Q E h=>?_) (fun cdv A outer s H vs Q E hr h=>?_)
 ·obtain ⟨v,ls,ts,rfl,_⟩:=h
  rfl
 ·obtain ⟨v,ls,ts,rfl,hv,tc,h24,l1,l10,k⟩:=h
  obtain ⟨na,pa,ta,ys,rfl,hna,hpa,hta,ity⟩:=bU hv
  refine ⟨_,#[#[Az 8 (["place"]) (1) ([]) _ _ _ _ _ (1) _ _ _ cQ.nd rfl jp (by kernel_rfl) rfl (by kernel_rfl) (@dE _ (K) _ _ _ #[#[0,eH][#[()]]] (by rfl)) (fun _ _ _ _ _ _=>#[0,(),()]) (fun _ _ _ _ _ _=>@bM _) (fun _ _ _ _ _ _=>#[0,()]) (fun _ _ _ _ _ _=>#[ar 5 #[[#[()],#[()]]]]) (by intro _;rfl)] :: #[#[2,cQ.nd,fF,#[zP 2]] :: #[#[3,cQ.nd,cZ,#[cj 3]] :: #[#[dX 8 PassesOwn.never rfl #[gn 6 qI T.b_range #[[#[(),(),(@eG _ (K) (by rfl)),sI,T.b_len,(@bh),#[[#[#[0,eH][#[()]]]]]]]] (by rfl)] #[4,cQ.nd,qP] #[#[3,cQ.nd,cZ,#[G_lift_once,mZ,T.lift_once_,#[[#[0,eH],#[1,jp],#[2,fF]]]]] :: #[ac 3 #[bd 8 #[aA 8 (@qa _) #[3,cZ] #[cj 3] #[(),()]] #[ac 3 #[am 4 #[cj 3]]] (@aJ _)]]] (by intro _;rfl)] :: #[ac 3 #[am 4 #[G_round_ahead,lV,T.round_ahead_,#[[#[0,eH],#[2,fF],#[3,cZ]]]]]]]]]],?_⟩
  refine bt fun Q1 nA1=>⟨(),na,_,_,(),rfl,af.of hna,rfl,pa,rfl,⟨_,af.of hpa⟩,fun W hW=>xh (n:=(ls.map au).length) (fun i H' kv=>H' W=some (.dK kv)∧kv.length≤i∧(∀(j:Nat) l,j<i→ls[j]?=some l→∃o,valD kv (Sum.inr (S l))=some (.ref o)∧H' o=some (fr (1,1)))∧ag H H') (by rw [length_map];lia) ⟨ao,le_refl _,(fun j l h=>by lia),ag.new hW⟩ ?_ ?_ ?_ ?_ ?_⟩
  ·rintro i H' kv ⟨e1,e2,_⟩
   exact ⟨e1,e2⟩
  ·rintro i H' kv hi ⟨_,_,_,sm⟩
   exact ⟨_,_,af.of (sm _ _ hpa),getElem?_eq_getElem hi⟩
  ·rintro H' kv ⟨_,_,_,sm⟩
   exact ⟨_,af.of (sm _ _ hpa),le_refl _⟩
  ·rintro i Ha kv x Hb hi ⟨eW,lW,vW,sm⟩ ⟨rfl,ex⟩
   have exi:=ex _ (af.of (sm _ _ hpa))
   rw [length_map] at hi
   rw [getElem?_map,getElem?_eq_getElem hi] at exi
   obtain rfl:au ls[i]=x:=Option.some.inj exi
   refine ⟨fK,(),Sum.inr (S ls[i]),rfl,(by show 2≤10000;decide),fun q J n1=>⟨n1.sm _ _ eW,ao,?_,fun j l hj el=>?_,dC hW (sm.trans n1.sm)⟩⟩
   ·exact le_trans (rm _ _ _) (by lia)
   ·have tupU:∀{a:Addr}{us:List V},J a=some (.tup us)→aE J W (.dK (dR kv (Sum.inr (S ls[i])) (.ref q))) a=some (.tup us):=fun {a us} h=>by
     rw [aj (fun z=>by rw [z,n1.sm _ _ eW] at h;cases h)];exact h
    rw [pp]
    by_cases c:l=ls[i]
    ·rw [c,if_pos rfl]
     exact ⟨q,rfl,tupU n1.at'⟩
    ·rw [if_neg (tU c)]
     have hji:j<i:=by
      by_cases z:j=i
      ·subst z
       rw [getElem?_eq_getElem hi] at el
       exact absurd (Option.some.inj el).symm c
      ·lia
     obtain ⟨o,v',h'⟩:=vW j l hji el
     exact ⟨o,v',tupU (n1.sm _ _ h')⟩
  rintro H1 kv ⟨eW,lW,vW,s1⟩
  rw [length_map] at lW vW
  refine nA1 _ _ ?_
  refine bt fun Q2 nA2=>fun O H2 n2=>nA2 _ _ ?_
  have nWO:¬W=O:=fun z=>by rw [←z] at n2;have:=n2.fr;rw [eW] at this;cases this
  have fO:H O=none:=s1.free n2.fr
  refine bt fun Q3 nA3=>nA3 _ _ ?_
  have s2:=s1.trans n2.sm
  have dw0:DW H2 W ls (fun _=>(1,1)) 10:=⟨kv,n2.sm _ _ eW,by lia,fun l hl=>by
   obtain ⟨j,hj⟩:=getElem?_of_mem hl
   obtain ⟨o,v',h'⟩:=vW j l (List.getElem?_eq_some_iff.mp hj).1 hj
   exact ⟨o,v',n2.sm _ _ h'⟩⟩
  have same_of:∀{J:Hp},qc W O H2 J→ag H J:=fun f a o h=>f a o (fun z=>by rw [z,hW] at h;cases h) (fun z=>by rw [z,fO] at h;cases h) (s2 _ _ h)
  refine Ct fun DB nB rB=>?_
  refine ⟨(),na,_,_,(),rfl,af.of (s2 _ _ hna),rfl,pa,(),.inr (af.of (s2 _ _ hpa)),(),by lia,by rw [length_map];lia,?_⟩
  rw [length_map,toNat_natCast]
  refine o5 (fun i σ H'=>∃(v4:Option V),σ=[some (.ref na),some (.ref W),some (.ref O),some (wC (aW ts i).lf),v4]∧(∀m,m<i→(aW ts (m+1)).lf≠none)∧DW H' W ls (aW ts i).ω (10+24*i)∧DO H' O ls (aW ts i).on (10+24*i)∧(∀l∈ls,Gb (1+144*i) (1+144*i) ((aW ts i).ω l)∧1≤((aW ts i).ω l).1)∧qc W O H2 H') ?_ ?_ ?_
  ·exact ⟨(),(fun m h=>by lia),dw0,⟨[],n2.at',by simp,fun l hl=>rfl⟩,(fun l hl=>⟨Ab,(by show (1:Int)≤1;decide)⟩),fun _ _ _ _ h=>h⟩
  ·rintro i σ J hi ⟨v4,rfl,hno,dw,do',gω,f2⟩
   have hvJ:aU ED J (.ref na) (bX ls ts):=hv.mono (same_of f2).toE
   refine Lh (t:=kN _ _) fun DC nC rC=>?_
   refine bt fun Q4 nA4=>⟨(),(),(),.ref na,W,O,ls,ts,aW ts i,i+1,10+24*i,1+144*i,rfl,hvJ,tc,by lia,nWO,dw,do',by lia,gω,by lia,fun J2 f3 dw2 do2 gω2=>nA4 _ _ ?_⟩
   have es:kf (i+1) ts (aW ts i)=aW ts (i+1):=rfl
   rw [es] at dw2 do2 gω2 ⊢
   have f4:qc W O H2 J2:=fun a o h1 h2 h=>f3 a o h1 h2 (f2 a o h1 h2 h)
   cases e:(aW ts (i+1)).lf with
   | none=>
    refine ⟨(),rfl,(),cf (rC _ _ (rB _ _ ?_))⟩
    rcases k with ⟨m,_,_,k⟩ | ⟨k,_⟩
    ·exact k J2 (same_of f4)
    ·exact absurd e (k i hi)
   | some l=>
    refine ⟨(),rfl,(),aX (nC _ _ ?_)⟩
    obtain ⟨ko2,hO2,lO2,vO2⟩:=do2
    obtain ⟨kv2,hW2,lW2,vW2⟩:=dw2
    refine ⟨_,by rw [e];rfl,fun m hm=>?_,⟨kv2,hW2,by lia,vW2⟩,⟨ko2,hO2,by lia,vO2⟩,(fun l hl=>⟨(gω2 l hl).1.mono (by lia) (by lia),(gω2 l hl).2⟩),f4⟩
    by_cases c:m=i
    ·rw [c,e];intro z;cases z
    ·exact hno m (by lia)
  ·rintro σ J ⟨v4,rfl,hno,dw,do',gω,f2⟩
   rcases k with ⟨m,hm,hm',_⟩ | ⟨_,k⟩
   ·exact absurd hm' (hno m hm)
   obtain ⟨n',en⟩:∃n',ls.length=n'+1:=⟨ls.length - 1,by lia⟩
   obtain ⟨l0,e0⟩:=Option.ne_none_iff_exists'.mp (hno n' (by lia))
   have e1:(aW ts ls.length).lf=some l0:=by rw [en];exact e0
   refine nB _ _ ?_
   have sJ:=same_of f2
   have hvJ:aU ED J (.ref na) (bX ls ts):=hv.mono sJ.toE
   refine ⟨(),(),(),.ref na,O,ls,ts,aW ts ls.length,l0,_,by rw [e1];rfl,hvJ,tc,l10,do',BI.st (fun t ht=>(tc t ht).tok) _,e1,fun R us r H' rk lR s' fr' hr'=>?_⟩
   exact k R us r H' rk lR (sJ.trans s') (sJ.free fr') hr'
end
end K15
namespace K15
open PySem L2
section
variable {P:Program}{w:World}{K:Frag}{mg:Str→Option Value}{base:Heap}
theorem Mp {H H1 H2:Hp}{y C dx:Addr}{fs:List (Str×V)} (fr:H y=none) (s:ag H H1) (hd:H1 dx=none) (ne:dx≠y) (e:H2=aE (aE H1 dx (.xd fs)) y (gD y C (some dx))):ag H H2∧Mj H2 y C fs∧∀a o,H1 a=some o→a≠y→H2 a=some o:=by
 subst e
 have k:∀a o,H1 a=some o→a≠y→aE (aE H1 dx (.xd fs)) y (gD y C (some dx)) a=some o:=fun a o h1 ny=>by
  have nd:a≠dx:=fun z=>by rw [z,hd] at h1;cases h1
  rw [aj ny,aj nd]
  exact h1
 exact ⟨fun a o h=>k a o (s _ _ h) (fun z=>by rw [z,fr] at h;cases h),.inr ⟨dx,ao,by rw [aj ne];exact ao⟩,k⟩
theorem MA {f:Str}{v:V}:([(f,v)]:List (Str×V)).lookup f=some v:=by simp [List.lookup]
inductive GN (K:Frag) (f:Str) (vs:List V) (H:Hp) (Q:VK):Prop
 | mk (y C l:Addr) (ns:List Int) (ini:Option Value) (h0:vs=[.ref y,.ref l]) (h1:H y=some (gD y C none)) (h2:bR K C ini=true) (h3:hU K C f=true) (h4:H l=some (.lst (ns.map V.int))) (h5:∀p dx H1 H',Nw H p (.lst (ns.map V.int)) H1→H1 dx=none→dx≠y→H'=aE (aE H1 dx (.xd [(f,.ref p)])) y (gD y C (some dx))→Q .non H')
def IT (K:Frag) (f:Str):Sp:=fun vs H Q _=>GN K f vs H Q
theorem zu {E:Addr→Prop}{H:Hp}:∀ns:List Int,ay E H (ns.map V.int) (ns.map PyData.int)
 | []=>.nil
 | i :: r=>.cons (.int i) (zu r)
theorem Co (T:Txt K mg):aQ P w K mg base CX0 1 T.f_Gaining__init T.d_Gaining__init ["self", "ties"] (IT K "ties"):=by
 refine T.F_Gaining__init.ok ww (fun vs H Q E h=>?_) (fun cdv A outer s H vs Q E hr h=>?_)
 ·obtain ⟨y,C,l,ns,ini,rfl,_⟩:=h
  rfl
 ·obtain ⟨y,C,l,ns,ini,rfl,hy,hx,hs,hl,k⟩:=h
  refine ⟨_,#[#[f8 4 #[Ep 10 T.xb_GainError mY T.m_GainError #[[#[0,kc],#[dJ 4]]] (by ext) (by rfl) (by rfl) (by rfl)] (by rfl)] :: #[ac 3 #[Gg 8 #[0,kc] #[fA 8 #[bQ 3 #[(),(),(@kL _ (K) (by rfl)),mf,T.b_isinstance,(@bG),#[[#[1,gK],#[rn 4 jY T.b_list (@fY) (by ext) (by ext)]]]] (by intro _;rfl)] #[di 9 (@yN _ (K) (by rfl)) jY T.b_list (@fY) #[[#[1,gK]]] (by ext) (by ext) (by rfl) (by rfl)] #[1,gK]] rfl]]],?_⟩
  have hd:aU (fun _=>False) H (.ref l) (.list (ns.map PyData.int)):=.lst hl id (zu ns)
  refine ⟨(),y,_,C,ini,rfl,hy,hx,(),_,_,_,(),hd.ty,vy _,(),cf ⟨(),l,(),.inl (aq.of hl),fun p H1 n1=>?_⟩⟩
  exact ⟨(),y,C,rfl,n1.sm _ _ hy,hs,fun dx H' h1 h2 h3=>k p dx H1 H' n1 h1 h2 h3⟩
end
end K15
namespace K15
open PySem L2
section
variable {P:Program}{w:World}{K:Frag}{mg:Str→Option Value}{base:Heap}
def yZ (T:Txt K mg):List Addr:=[T.x_BadNumber,T.x_Taken,T.x_NoPlace,T.x_NoTie,T.x_AsItIs,T.x_NoEnds,T.x_Over,T.x_TooMuch,T.x_Gaining,T.x_NotSoMuch,T.x_Short,T.x_Lacking,T.x_BadRow,T.x_BadSheet]
theorem Txt.kn (T:Txt K mg):uG K (yZ T) T.x_GainError=true:=T.kin
end
end K15
namespace K15
open PySem L2
set_option maxHeartbeats 4000000
theorem iE {H:Hp}{ys:List V}{ts:List aa}{k:Nat}{t:aa} (ity:ay ED H ys (ts.map jD)) (et:ts[k]?=some t):pc fun o om og op=>ys[k]?=some (.ref o)∧H o=some (.tup [.str (S t.bg),.str (S t.en),.ref om,.ref og,.ref op])∧H om=some (fr t.most)∧H og=some (fr t.gain)∧H op=some (fr t.price):=by
 obtain ⟨y,ey⟩:∃y,ys[k]?=some y:=⟨_,getElem?_eq_getElem (by rw [ity.length,length_map];exact (List.getElem?_eq_some_iff.mp et).1)⟩
 obtain ⟨dy,edy,gy⟩:=ity.get ey
 rw [getElem?_map,et] at edy
 obtain rfl:jD t=dy:=Option.some.inj edy
 obtain ⟨o,om,og,op,rfl,h1,h2,h3,h4⟩:=kM gy
 exact ⟨o,om,og,op,ey,h1,h2,h3,h4⟩
theorem BM (us:List aa) (t:aa):aR (us++[t])=aR us*gR t:=by
 induction us with
 | nil=>show gR t*1=1*gR t;rw [Rat.mul_one,Rat.one_mul]
 | cons u r ih=>show gR u*aR (r++[t])=gR u*aR r*gR t;rw [ih,Rat.mul_assoc]
theorem BE {α:Type} (n:Nat) (b:α):(List.range n).map (fun _=>b)=replicate n b:=by
 rw [List.map_const',List.length_range]
theorem cX.get {ts:List aa}{R:List Nat}{us:List aa} (h:R.map (fun k=>ts[k]?)=us.map some) {i k:Nat} (e:R[i]?=some k):∃t,us[i]?=some t∧ts[k]?=some t:=by
 have:=congrArg (fun z=>z[i]?) h
 simp only [getElem?_map,e,Option.map_some] at this
 cases hu:us[i]? with
 | none=>rw [hu] at this;cases this
 | some t=>rw [hu] at this;exact ⟨t,rfl,Option.some.inj this⟩
section
variable {P:Program}{w:World}{K:Frag}{mg:Str→Option Value}{base:Heap}
inductive HE (vs:List V) (H:Hp) (Q:VK):Prop
 | mk (v:V) (a:Addr) (ls:List (List Nat)) (ts:List aa) (R:List Nat) (us:List aa) (h0:vs=[v,.ref a]) (h1:aU ED H v (bX ls ts)) (h2:(∀t∈ts,dL ls t)) (h3:H a=some (.lst (bf R))) (h4:R.map (fun k=>ts[k]?)=us.map some) (h5:R.length≤12) (h6:∀(g:KM.Fra) (q:Addr) (H':Hp),Gb 80 80 g→KM.Rd g→KM.vl g=aR us→ag H H'→H' q=some (fr g)→Q (.ref q) H')
def Lc:Sp:=fun vs H Q _=>HE  vs H Q
end
end K15
namespace K15
open PySem L2
set_option maxHeartbeats 4000000
structure za (ls:List (List Nat)) (ts:List aa) (l0:List Nat) (R:List Nat) (us:List aa):Prop where
 at':R.map (fun k=>ts[k]?)=us.map some
 op:∀t∈us,t.most≠(0,1)
 ch:∃c,us.map (·.bg)++[c]=l0 :: us.map (·.en)
 nd:(l0 :: us.map (·.en)).Nodup
 sub:∀l∈l0 :: us.map (·.en),l∈ls
section
variable {P:Program}{w:World}{K:Frag}{mg:Str→Option Value}{base:Heap}
end
end K15
namespace K15
open PySem L2
set_option maxHeartbeats 4000000
section
variable {P:Program}{w:World}{K:Frag}{mg:Str→Option Value}{base:Heap}
inductive GE (g:Addr) (vs:List V) (H:Hp) (Q:VK) (E:XK):Prop
 | mk (v:V) (W:Addr) (ls:List (List Nat)) (ts:List aa) (s0:LP) (h0:vs=[v,.ref W]) (h1:aU ED H v (bX ls ts)) (h2:(∀t∈ts,dL ls t)) (h3:ts.length≤24) (h4:1≤ls.length) (h5:ls.length≤10) (h6:vg H W ls s0.ω 10) (h7:GW ls s0.ω 1) (h8:(∀l,s0.on l=none)) (h9:((aT fun mx mp=>mx<ls.length∧(aW ts (mx+1)).lf=none∧mp≤9∧(b5 ts s0 (mp+1)).lf=none∧∀(m:Nat) (O:Addr) (H':Hp),m≤mp→(b5 ts s0 (m+1)).lf=none→(∀a o,a≠W→H a=some o→H' a=some o)→H O=none→vg H' W ls (b5 ts s0 m).ω 300→DO H' O ls (b5 ts s0 m).on 300→GW ls (b5 ts s0 m).ω 1500→Q (.ref O) H')∨((∀m,m<ls.length→(aW ts (m+1)).lf≠none)∧∀(R:List Nat) (us:List aa) (a dx r:Addr) (H':Hp),cX ts R us→R.length≤10→ag H H'→H' a=some (jt a g (some dx))→H' dx=some (.xd [("ties",.ref r)])→H r=none→H' r=some (.lst (bf R))→E (.ref g) (some dx) H')))
def Dw (g:Addr):Sp:=fun vs H Q E=>GE g vs H Q E
theorem Ah (R:List Nat):bf R=(R.map fun i:Nat=>(i:Int)).map V.int:=by rw [map_map];rfl
theorem pM (T:Txt K mg):aQ P w K mg base (qr P w) 6 T.lift_all_.f T.lift_all_.d ["net", "worths"] (Dw T.x_Gaining):=by
 have G_Gaining__init:=#[(Co)]
 have G_lift_once:=#[(rY)]
 have G_gaining_round:=#[(jy)]
 refine T.lift_all_.F.okX pH (fun vs H Q E h=>?_) (fun cdv A outer s H vs Q E hr h=>?_)
 ·obtain ⟨v,W,ls,ts,s0,rfl,_⟩:=h
  rfl
 ·obtain ⟨v,W,ls,ts,s0,rfl,hv,tc,h24,l1,l10,dw,gw,on0,k⟩:=h
  refine ⟨_,#[#[PS.nox 3 #[2,pH.nd,iJ,#[G_gaining_round,oF,T.gaining_round_,#[[#[0,qq]]]]]] :: #[#[bd 8 #[aA 8 (@nj _) #[2,iJ] #[cj 3] #[(),()]] #[ac 3 #[Ew 5 rfl #[Gz 15] #[F7 13 T.q_Gaining T.fn_Gaining T.k_Gaining G_Gaining__init (hr.mono (by ext)) T.B_Gaining__init tz T.m_Gaining #[[#[2,iJ]]] (by ext) (by rfl) (by rfl)]]] (@aJ _)] :: #[#[PS.nox 3 #[3,pH.nd,ji,#[zP 2]]] :: #[#[PS.nox 3 #[oq 6 PassesOwn.never #[aA 8 (@nj _) #[G_lift_once,rR,T.lift_once_,#[[#[0,qq],#[1,u8],#[3,ji]]]] #[cj 3] #[(),()]] #[ac 3 #[GY 2]]]] :: #[ac 3 #[PS.nox 3 #[am 4 #[3,ji]]]]]]]],?_⟩
  rcases k with ⟨mx,mp,hmx,emx,hmp,emp,k⟩ | ⟨hno,k⟩
  case' inr=>
   refine bt fun Q1 nA1=>⟨(),v,ls,ts,rfl,hv,tc,h24,l1,l10,.inr ⟨hno,fun R us r0 H1 ok hR s1 f0 h0=>nA1 _ _ ?_⟩⟩
   refine ba fun DA nA=>?_
   refine ⟨(),rfl,(),cf ⟨(),(by show 1≤10000;decide),fun y J1 n1=>⟨y,T.x_Gaining,r0,R.map (fun i:Nat=>(i:Int)),(),n1.at',T.q_Gaining,T.st_Gaining,by rw [←Ah];exact n1.sm _ _ h0,fun p dx J2 J3 n2 hd ne e=>⟨rfl,y,T.x_Gaining,some dx,(),?_,T.q_Gaining,?_⟩⟩⟩⟩
   ·rw [e];exact ao
   obtain ⟨S3,_,k3⟩:=Mp n1.fr (n1.sm.trans n2.sm) hd ne e
   have py:p≠y:=fun z=>by have q:=n1.at';rw [←z,n2.fr] at q;cases q
   have hp3:=k3 _ _ n2.at' py
   have fy:∀{b:Addr}{o:HO},H1 b=some o→b≠y:=fun q z=>by rw [z,n1.fr] at q;cases q
   refine k R us y dx p _ ok hR (fun b o q=>?_) ao ?_ ?_ ?_
   ·rw [aj (fy (s1 _ _ q))];exact S3 _ _ (s1 _ _ q)
   ·rw [aj ne,e,aj ne];exact ao
   ·cases q:H p with
    | none=>rfl
    | some o=>have z:=n1.sm _ _ (s1 _ _ q);rw [n2.fr] at z;cases z
   ·rw [aj py,Ah];exact hp3
  refine bt fun Q1 nA1=>⟨(),v,ls,ts,rfl,hv,tc,h24,l1,l10,.inl ⟨mx,hmx,emx,fun H1 s1=>nA1 _ _ ?_⟩⟩
  refine ba fun DA nA=>?_
  refine ⟨(),rfl,(),aX (nA _ _ ?_)⟩
  refine bt fun Q2 nA2=>fun O H2 n2=>nA2 _ _ ?_
  obtain ⟨kv,hW,lW,vW⟩:=dw
  have s2:=s1.trans n2.sm
  have fO:H O=none:=s1.free n2.fr
  have nWO:¬W=O:=fun z=>by rw [←z,hW] at fO;cases fO
  have hW2:=s2 _ _ hW
  have f20:∀{J:Hp},qc W O H2 J→∀a o,a≠W→H a=some o→J a=some o:=fun f a o h1 h=>f a o h1 (fun z=>by rw [z,fO] at h;cases h) (s2 _ _ h)
  refine ba fun DB nB=>?_
  refine tR (fun m σ H'=>∃(i:Nat),σ=[some v,some (.ref W),some .non,some (.ref O)]∧m=mp - i∧i≤mp∧vg H' W ls (b5 ts s0 i).ω (10+24*i)∧DO H' O ls (b5 ts s0 i).on (10+24*i)∧GW ls (b5 ts s0 i).ω (1+144*i)∧qc W O H2 H') _ ⟨0,rfl,rfl,zero_le _,⟨kv,hW2,by lia,fun l hl=>⟨fun w e=>let ⟨o,a,b⟩:=(vW l hl).1 w e;⟨o,a,s2 _ _ b⟩,(vW l hl).2⟩⟩,⟨[],n2.at',by simp,fun l hl=>by rw [show (b5 ts s0 0).on l=none from on0 l];rfl⟩,gw,fun _ _ _ _ h=>h⟩ ?_
  rintro m σ J ⟨i,rfl,rfl,hi,dw,do',gω,f2⟩ Q D' nD rD qT qF
  have hvJ:aU ED J v (bX ls ts):=hv.mono ⟨fun _ _ n _=>absurd trivial n,fun a us h=>f20 f2 a _ (fun z=>by rw [z,hW] at h;cases h) h⟩
  refine ⟨(),(),(),v,W,O,ls,ts,b5 ts s0 i,10+24*i,1+144*i,rfl,hvJ,tc,by lia,nWO,dw,do',by lia,gω,by lia,fun J2 f3 dw2 do2 gω2=>?_⟩
  have es:du ts (b5 ts s0 i)=b5 ts s0 (i+1):=rfl
  have gr:GW ls (du ts (b5 ts s0 i)).ω (1+144*(i+1)):=fun l hl w e=>⟨(gω2 l hl w e).1.mono (by lia) (by lia),(gω2 l hl w e).2⟩
  have f4:qc W O H2 J2:=fun a o h1 h2 h=>f3 a o h1 h2 (f2 a o h1 h2 h)
  obtain ⟨ko2,hO2,lO2,vO2⟩:=do2
  obtain ⟨kv2,hW3,lW2,vW2⟩:=dw2
  cases e:(du ts (b5 ts s0 i)).lf with
  | none=>
   refine ⟨rfl,(),qF _ (nB _ _ ⟨(),?_⟩)⟩
   have eω:=(rf e).1
   rw [eω] at vW2 gr vO2
   exact k i O J2 hi e (f20 f4) fO ⟨kv2,hW3,by lia,vW2⟩ ⟨ko2,hO2,by lia,vO2⟩ fun l hl w e=>⟨(gr l hl w e).1.mono (by lia) (by lia),(gr l hl w e).2⟩
  | some l=>
   rw [es] at vW2 vO2 gr e
   refine ⟨rfl,(),qT _ (nD (mp - (i+1)) _ _ ?_ ⟨i+1,rfl,rfl,?_,⟨kv2,hW3,by lia,vW2⟩,⟨ko2,hO2,by lia,vO2⟩,gr,f4⟩)⟩
   ·by_cases c:i=mp
    ·rw [c,emp] at e;cases e
    ·lia
   ·by_cases c:i=mp
    ·rw [c,emp] at e;cases e
    ·lia
inductive HY (g:Addr) (vs:List V) (H:Hp) (Q:VK) (E:XK):Prop
 | mk (v:V) (ls:List (List Nat)) (ts:List aa) (h0:vs=[v]) (h1:aU ED H v (bX ls ts)) (h2:(∀t∈ts,dL ls t)) (h3:ts.length≤24) (h4:1≤ls.length) (h5:ls.length≤10) (h6:((∃mx,mx<ls.length∧(aW ts (mx+1)).lf=none∧∀(m:Nat) (r:Addr) (xs:List V) (H':Hp),m<ls.length→(aW ts (m+1)).lf=none→ag H H'→H r=none→H' r=some (.lst xs)→xs.length=ls.length→(∀(j:Nat) l,ls[j]?=some l→∃o,xs[j]?=some (.ref o)∧H' o=some (fr ((aW ts m).ω l)))→(∀l∈ls,Gb 1500 1500 ((aW ts m).ω l)∧1≤((aW ts m).ω l).1)→Q (.ref r) H')∨((∀m,m<ls.length→(aW ts (m+1)).lf≠none)∧∀(R:List Nat) (us:List aa) (a dx r:Addr) (H':Hp),cX ts R us→R.length≤10→ag H H'→H' a=some (jt a g (some dx))→H' dx=some (.xd [("ties",.ref r)])→H r=none→H' r=some (.lst (bf R))→E (.ref g) (some dx) H')))
def K0 (g:Addr):Sp:=fun vs H Q E=>HY g vs H Q E
theorem je (T:Txt K mg):aQ P w K mg base (qr P w) 7 T.holding_worths_.f T.holding_worths_.d ["net"] (K0 T.x_Gaining):=by
 have G_lift_all:=#[(pM)]
 refine T.holding_worths_.F.okX mC (fun vs H Q E h=>?_) (fun cdv A outer s H vs Q E hr h=>?_)
 ·obtain ⟨v,ls,ts,rfl,_⟩:=h
  rfl
 ·obtain ⟨v,ls,ts,rfl,hv,tc,h24,l1,l10,k⟩:=h
  obtain ⟨na,pa,ta,ys,rfl,hna,hpa,hta,ity⟩:=bU hv
  refine ⟨_,#[#[PS.nox 3 #[jo 2 (1) _ _ _ _ mC.nd rfl (Or.inr i9) #[Ey 8 (["place"]) (1) ([]) _ _ _ _ _ rfl (by kernel_rfl) (@dE _ (K) _ _ _ #[#[0,gL][#[()]]] (by rfl)) (fun _ _ _ _ _ _=>#[0,(),()]) (fun _ _ _ _ _ _=>@bM _) (fun _ _ _ _ _ _=>#[0,()]) (fun _ _ _ _ _ _=>#[ar 5 #[[#[()],#[()]]]]) (by intro _;rfl)] (by rfl) (by first | exact .inl rfl | exact .inr rfl | assumption)]] :: #[#[f8 4 #[dU 16 G_lift_all (hr.mono (by ext)) mU T.lift_all_.m T.lift_all_.F.kp T.lift_all_.B .nil #[BP 15] #[[#[0,gL],#[1,(i9)]]] (by ext) (by rfl) (by rfl)] (by rfl)] :: #[ac 3 #[PS.nox 3 #[am 4 #[ci 7 (["place", "worths"]) (1) ([1]) _ _ _ _ rfl (by kernel_rfl) (@dE _ (K) _ _ _ #[#[0,gL][#[()]]] (by rfl)) (fun _ _ _ _ _ _=>#[0,(),()]) (fun _ _ _ _ _ _=>@bM _) (fun _ _ _ _ _ _=>#[bP 7 (@cm _) #[1,0] #[0,()] (fun _ _=>rfl)]) (by intro _;rfl)]]]]]],?_⟩
  refine bt fun Q1 nA1=>⟨(),na,_,_,(),rfl,af.of hna,rfl,pa,rfl,⟨_,af.of hpa⟩,fun W hW=>xh (n:=(ls.map au).length) (fun i H' kv=>H' W=some (.dK kv)∧kv.length≤i∧(∀(j:Nat) l,j<i→ls[j]?=some l→∃o,valD kv (Sum.inr (S l))=some (.ref o)∧H' o=some (fr (1,1)))∧ag H H') (by rw [length_map];lia) ⟨ao,le_refl _,(fun j l h=>by lia),ag.new hW⟩ ?_ ?_ ?_ ?_ ?_⟩
  ·rintro i H' kv ⟨e1,e2,_⟩
   exact ⟨e1,e2⟩
  ·rintro i H' kv hi ⟨_,_,_,sm⟩
   exact ⟨_,_,af.of (sm _ _ hpa),getElem?_eq_getElem hi⟩
  ·rintro H' kv ⟨_,_,_,sm⟩
   exact ⟨_,af.of (sm _ _ hpa),le_refl _⟩
  ·rintro i Ha kv x Hb hi ⟨eW,lW,vW,sm⟩ ⟨rfl,ex⟩
   have exi:=ex _ (af.of (sm _ _ hpa))
   rw [length_map] at hi
   rw [getElem?_map,getElem?_eq_getElem hi] at exi
   obtain rfl:au ls[i]=x:=Option.some.inj exi
   refine ⟨fK,(),Sum.inr (S ls[i]),rfl,(by show 2≤10000;decide),fun q J n1=>⟨n1.sm _ _ eW,ao,?_,fun j l hj el=>?_,dC hW (sm.trans n1.sm)⟩⟩
   ·exact le_trans (rm _ _ _) (by lia)
   ·have tupU:∀{a:Addr}{us:List V},J a=some (.tup us)→aE J W (.dK (dR kv (Sum.inr (S ls[i])) (.ref q))) a=some (.tup us):=fun {a us} h=>by
     rw [aj (fun z=>by rw [z,n1.sm _ _ eW] at h;cases h)];exact h
    rw [pp]
    by_cases c:l=ls[i]
    ·rw [c,if_pos rfl]
     exact ⟨q,rfl,tupU n1.at'⟩
    ·rw [if_neg (tU c)]
     have hji:j<i:=by
      by_cases z:j=i
      ·subst z
       rw [getElem?_eq_getElem hi] at el
       exact absurd (Option.some.inj el).symm c
      ·lia
     obtain ⟨o,v',h'⟩:=vW j l hji el
     exact ⟨o,v',tupU (n1.sm _ _ h')⟩
  rintro H1 kv ⟨eW,lW,vW,s1⟩
  rw [length_map] at lW vW
  refine nA1 _ _ ?_
  refine ba fun DA nA=>?_
  have dw0:DW H1 W ls (fun _=>(1,1)) 10:=⟨kv,eW,by lia,fun l hl=>by
   obtain ⟨j,hj⟩:=getElem?_of_mem hl
   obtain ⟨o,v',h'⟩:=vW j l (List.getElem?_eq_some_iff.mp hj).1 hj
   exact ⟨o,v',h'⟩⟩
  have gw0:GW ls (i5 xS).ω 1:=xo.mpr fun l hl=>⟨Ab,(by show (1:Int)≤1;decide)⟩
  rcases k with ⟨mx,hmx,emx,k⟩ | ⟨hno,k⟩
  case' inr=>
   exact ⟨(),(),.ref na,W,ls,ts,i5 xS,rfl,hv.mono s1.toE,tc,h24,l1,l10,qx.mpr dw0,gw0,fun _=>rfl,.inr ⟨hno,fun R us a dx r H' ok hR sm ha hdx fr hr'=>k R us a dx r H' ok hR (s1.trans sm) ha hdx (s1.free fr) hr'⟩⟩
  refine ⟨(),(),.ref na,W,ls,ts,i5 xS,rfl,hv.mono s1.toE,tc,h24,l1,l10,qx.mpr dw0,gw0,fun _=>rfl,.inl ⟨mx,mx,hmx,emx,by lia,by rw [wY];exact emx,fun m O H3 hm em f3 _ dw3 _ g3=>nA _ _ ?_⟩⟩
  rw [wY] at em dw3 g3
  replace dw3:=qx.mp dw3
  replace g3:=xo.mp g3
  have em:(aW ts (m+1)).lf=none:=em
  have hm:m<ls.length:=by lia
  have s3:ag H H3:=fun a o h=>f3 a o (fun z=>by rw [z,hW] at h;cases h) (s1 _ _ h)
  obtain ⟨kv3,eW3,lW3,vW3⟩:=dw3
  refine ⟨(),na,_,_,(),rfl,af.of (s3 _ _ hna),rfl,pa,rfl,⟨_,af.of (s3 _ _ hpa)⟩,fun D hD=>yt (n:=(ls.map au).length) (fun i H' zs=>H' D=some (.lst zs)∧zs.length=i∧(∀(j:Nat) l,j<i→ls[j]?=some l→∃o,zs[j]?=some (.ref o)∧H' o=some (fr ((aW ts m).ω l)))∧ag H3 H') (gE (by rw [length_map];lia)) ⟨ao,rfl,(fun j l h=>by lia),ag.new hD⟩ ?_ ?_ ?_ ?_ ?_⟩
  ·rintro i H' zs ⟨e1,e2,_⟩
   exact ⟨e1,by lia⟩
  ·rintro i H' zs hi ⟨_,_,_,sm⟩
   exact ⟨_,_,af.of (sm _ _ (s3 _ _ hpa)),getElem?_eq_getElem hi⟩
  ·rintro H' zs ⟨_,_,_,sm⟩
   exact ⟨_,af.of (sm _ _ (s3 _ _ hpa)),le_refl _⟩
  ·rintro i H' zs x H'' hi ⟨hD',lz,vz,sm⟩ ⟨rfl,ex⟩
   have exi:=ex _ (af.of (sm _ _ (s3 _ _ hpa)))
   rw [length_map] at hi
   rw [getElem?_map,getElem?_eq_getElem hi] at exi
   obtain rfl:au ls[i]=x:=Option.some.inj exi
   obtain ⟨o,vo,ho⟩:=vW3 ls[i] (getElem_mem _)
   refine ⟨fK,(),(),W,kv3,Sum.inr (S ls[i]),.ref o,rfl,rfl,sm _ _ eW3,vo,hD',ao,by simp [lz],fun j l hj el=>?_,dC hD sm⟩
   have tupU:∀{a:Addr}{us:List V},H'' a=some (.tup us)→aE H'' D (.lst (zs++[.ref o])) a=some (.tup us):=fun {a us} h=>by
    rw [aj (fun z=>by rw [z,hD'] at h;cases h)];exact h
   by_cases c:j=i
   ·subst c
    rw [getElem?_eq_getElem hi] at el
    obtain rfl:=Option.some.inj el
    exact ⟨o,by rw [←lz];simp,tupU (sm _ _ ho)⟩
   ·obtain ⟨o',v',h'⟩:=vz j l (by lia) el
    exact ⟨o',by rw [getElem?_append_left (by lia)];exact v',tupU h'⟩
  ·rintro H' zs ⟨e1,lz,vz,sm⟩
   rw [length_map] at lz
   refine k m D zs H' hm em (s3.trans sm) (s3.free hD) e1 lz (fun j l el=>vz j l (by rw [length_map];exact (List.getElem?_eq_some_iff.mp el).1) el) g3
end
end K15
namespace K15
open PySem L2
set_option maxHeartbeats 4000000
theorem Ju {i j:Int}:decide (rJ i j≤0)=decide (i≤j):=by
 unfold rJ
 by_cases h:i<j
 ·rw [if_pos h,decide_eq_true (Int.le_of_lt h)];rfl
 ·rw [if_neg h]
  by_cases q:i > j
  ·rw [if_pos q,decide_eq_false (Int.not_le.mpr q)];rfl
  ·rw [if_neg q,decide_eq_true (Int.not_lt.mp q)];rfl
section
variable {P:Program}{w:World}{K:Frag}{mg:Str→Option Value}{base:Heap}
structure Wh (H:Hp) (W:Addr) (ls:List (List Nat)) (ω:List Nat→KM.Fra) (c:Nat):Prop where
 d:∃kvs,H W=some (.dK kvs)∧∀l∈ls,∃o,valD kvs (Sum.inr (S l))=some (.ref o)∧H o=some (fr (ω l))
 g:∀l∈ls,Gb c c (ω l)∧1≤(ω l).1
theorem Wh.sm {H H':Hp}{W:Addr}{ls:List (List Nat)}{ω:List Nat→KM.Fra}{c:Nat} (h:Wh H W ls ω c) (s:ag H H'):Wh H' W ls ω c:=
 ⟨let ⟨kvs,h1,h2⟩:=h.d;⟨kvs,s _ _ h1,fun l hl=>let ⟨o,a,b⟩:=h2 l hl;⟨o,a,s _ _ b⟩⟩,h.g⟩
inductive Eu (vs:List V) (H:Hp) (Q:VK):Prop
 | mk (v:V) (W:Addr) (ls:List (List Nat)) (t:aa) (ω:List Nat→KM.Fra) (h0:vs=[v,.ref W]) (h1:aU ED H v (jD t)) (h2:dL ls t) (h3:Wh H W ls ω 1500) (h4:gH ω t=false) (h5:∀H',ag H H'→Q (.bl true) H')
def GZ:Sp:=fun vs H Q _=>Eu  vs H Q
theorem Ee (T:Txt K mg):aQ P w K mg base CX0 4 T.holds_.f T.holds_.d ["tie", "worths"] GZ:=by
 have G_is_shut:=#[(wX)]
 have G_times:=#[(rA)]
 have G_compared:=#[(pP)]
 refine T.holds_.F.ok Ea (fun vs H Q E h=>?_) (fun cdv A outer s H vs Q E hr h=>?_)
 ·obtain ⟨v,W,ls,t,ω,rfl,_⟩:=h
  rfl
 ·obtain ⟨v,W,ls,t,ω,rfl,hv,tt,wh,lf,k⟩:=h
  obtain ⟨o,om,og,op,rfl,ho,hom,hog,hop⟩:=kM hv
  obtain ⟨⟨kvs,hW,vW⟩,gω⟩:=wh
  obtain ⟨oe,ve,hoe⟩:=vW t.en tt.e
  obtain ⟨ob,vb,hob⟩:=vW t.bg tt.b
  obtain ⟨ge,pe1⟩:=gω t.en tt.e
  obtain ⟨gb,pb1⟩:=gω t.bg tt.b
  obtain ⟨g1,g2⟩:=gz tt.fg (by ext) (by ext)
  obtain ⟨e1,e2⟩:=gz ge (by ext) (by ext)
  obtain ⟨b1,b2⟩:=gz gb (by ext) (by ext)
  refine ⟨_,#[ac 3 #[am 4 #[FE 7 #[G_is_shut,wU,T.is_shut_,#[[#[0,lA]]]] #[l7 5 #[bS 8 (@y8 _) #[G_compared,wu,T.compared_,#[[#[G_times,yJ,T.times_,#[[#[#[0,lA][#[()]]],#[bP 7 (@cm _) #[1,qb] #[#[0,lA][#[()]]] (fun _ _=>rfl)]]]],#[bP 7 (@cm _) #[1,qb] #[#[0,lA][#[()]]] (fun _ _=>rfl)]]]] #[()] #[(),()]]]]]],?_⟩
  refine ⟨(),.ref o,t,ls,rfl,hv,tt,fun H1 s1=>⟨(),?_⟩⟩
  by_cases hs:t.most=(0,1)
  ·rw [decide_eq_true hs]
   refine cf ?_
   exact k H1 s1
  ·rw [decide_eq_false hs]
   refine aX ⟨(),o,_,_,(),rfl,af.of (s1 _ _ ho),rfl,(),(),o,_,_,(),rfl,af.of (s1 _ _ ho),rfl,W,kvs,Sum.inr (S t.en),.ref oe,rfl,rfl,s1 _ _ hW,ve,og,oe,_,_,_,(),s1 _ _ hog,s1 _ _ hoe,⟨g1,g2,e1,e2,gd tt.fg ge⟩,fun q H2 n2=>?_⟩
   have gq:Gb 1506 1506 (KM.lTim t.gain (ω t.en)):=tt.fg.tim ge (by ext) (by ext)
   obtain ⟨q1,q2⟩:=gz gq (by ext) (by ext)
   have s2:=s1.trans n2.sm
   refine ⟨(),(),o,_,_,(),rfl,af.of (s2 _ _ ho),rfl,W,kvs,Sum.inr (S t.bg),.ref ob,rfl,rfl,s2 _ _ hW,vb,q,ob,_,_,_,(),n2.at',s2 _ _ hob,q1,q2,b1,b2,_,(),rfl,?_⟩
   have ek:decide (rJ ((KM.lTim t.gain (ω t.en)).1*(ω t.bg).2) ((ω t.bg).1*(KM.lTim t.gain (ω t.en)).2)≤0)=true:=by
    rw [Ju]
    unfold gH at lf
    rw [decide_eq_true hs,Bool.true_and] at lf
    exact decide_eq_true (Int.not_lt.mp (of_decide_eq_false lf))
   exact Eq.mp (congrArg (fun b=>Q (.bl b) H2) ek.symm) (k H2 s2)
theorem Cs (ls:List (List Nat)):(ls.map fun l=>(Sum.inr (S l):aI)).map fW=ls.map au:=by
 rw [map_map];rfl
theorem mL {ls:List (List Nat)} (h:ls.Nodup):(ls.map fun l=>(Sum.inr (S l):aI)).Nodup:=by
 rw [nodup_iff_pairwise_ne,pairwise_map]
 refine List.Pairwise.imp (fun {a b} hab z=>?_) (List.nodup_iff_pairwise_ne.mp h)
 injection z with z
 exact hab (rX z)
inductive E9 (vs:List V) (H:Hp) (Q:VK):Prop
 | mk (v:V) (r:Addr) (xs:List V) (ls:List (List Nat)) (ts:List aa) (ω:tV) (h0:vs=[v,.ref r]) (h1:aU ED H v (bX ls ts)) (h2:(∀t∈ts,dL ls t)) (h3:ts.length≤40) (h4:ls.length≤40) (h5:ls.Nodup) (h6:H r=some (.lst xs)) (h7:xs.length=ls.length) (h8:(∀(j:Nat) l,ls[j]?=some l→∃o,xs[j]?=some (.ref o)∧H o=some (fr (ω l)))) (h9:(∀l∈ls,Gb 1500 1500 (ω l)∧1≤(ω l).1)) (h10:(∀l∈ls,KM.Rd (ω l))) (h11:(∀t∈ts,gH ω t=false)) (h12:∀H',ag H H'→Q (.bl true) H')
def GB:Sp:=fun vs H Q _=>E9  vs H Q
theorem DU (n:Nat):((List.range n).map fun _=>V.bl true)=(replicate n true).map V.bl:=by
 rw [map_replicate]
 apply List.ext_getElem
 ·simp
 ·intro i h1 h2
  simp
theorem DL (n:Nat):(replicate n true).all id=true:=by
 rw [all_eq_true]
 intro x hx
 exact (List.mem_replicate.mp hx).2
theorem wa (T:Txt K mg):aQ P w K mg base CX0 5 T.shows_holding_.f T.shows_holding_.d ["net", "thing"] GB:=by
 have G_is_above_nought:=#[(ux)]
 have G_holds:=#[(Ee)]
 refine T.shows_holding_.F.ok ou (fun vs H Q E h=>?_) (fun cdv A outer s H vs Q E hr h=>?_)
 ·obtain ⟨v,r,xs,ls,ts,ω,rfl,_⟩:=h
  rfl
 ·obtain ⟨v,r,xs,ls,ts,ω,rfl,hv,tc,h40,l40,nd,hr',lx,vx,gω,rω,lf,k⟩:=h
  obtain ⟨na,pa,ta,ys,rfl,hna,hpa,hta,ity⟩:=bU hv
  have lys:ys.length=ts.length:=by rw [ity.length,length_map]
  refine ⟨_,#[#[bd 8 #[PW.pt 3 #[iY 7 #[da 4 #[bQ 3 #[(),(),(@kL _ (K) (by rfl)),mj,T.b_isinstance,(@bG),#[[#[1,dB],#[rn 4 qU T.b_list (@fY) (by ext) (by ext)]]]] (by intro _;rfl)]] #[iH 4 #[aA 8 (@o8 _) #[(),(),(@eG _ (K) (by rfl)),kD,T.b_len,(@bh),#[[#[1,dB]]]] #[(),(),(@eG _ (K) (by rfl)),kD,T.b_len,(@bh),#[[#[#[0,hV][#[()]]]]]] #[(),()]]]]] #[ac 3 #[am 4 #[cM 4]]] (@aJ _)] :: #[#[bd 8 #[da 4 #[bQ 3 #[(),(),(@xf _ (K) rfl (by rfl)),kE,T.b_all,(@ki),#[[#[ci 7 (["worth"]) (1) ([]) _ _ _ _ rfl (by kernel_rfl) (@eZ _ (K) _ _ _ #[1,dB] (by rfl)) (fun _ _ _ _ _ _=>#[0,(),()]) (fun _ _ _ _ _ _=>@bM _) (fun _ _ _ _ _ _=>#[G_is_above_nought,(),T.is_above_nought_,#[[#[0,()]]]]) (by intro _;rfl)]]]] (by intro _;rfl)]] #[ac 3 #[am 4 #[cM 4]]] (@aJ _)] :: #[#[jo 2 (2) _ _ _ _ ou.nd rfl (Or.inr pD) (@wP _ (K) _ _ _ _ _ _ _ rfl rO T.b_dict sZ T.b_zip #[[#[#[0,hV][#[()]]],#[1,dB]]] (by rfl) (by rfl) (by rfl) (by rfl)) (by rfl) (by first | exact .inl rfl | exact .inr rfl | assumption)] :: #[ac 3 #[am 4 #[(),(),(@xf _ (K) rfl (by rfl)),kE,T.b_all,(@ki),#[[#[ci 7 (["tie", "worths"]) (1) ([2]) _ _ _ _ rfl (by kernel_rfl) (@dE _ (K) _ _ _ #[#[0,hV][#[()]]] (by rfl)) (fun _ _ _ _ _ _=>#[0,(),()]) (fun _ _ _ _ _ _=>@bM _) (fun _ _ _ _ _ _=>#[G_holds,(),T.holds_,#[[#[0,()],#[1,0]]]]) (by intro _;rfl)]]]]]]]]],?_⟩
  refine ba fun DA nA=>⟨(),_,_,_,(),.lst hr',vy (.list []),(),aX ⟨(),r,xs,rfl,.inl (aq.of hr'),(),na,_,_,(),rfl,af.of hna,rfl,pa,(),.inr (af.of hpa),rfl,(),?_⟩⟩
  have ee:(!decide (V.int (xs.length:Int)=V.int ((ls.map au).length:Int)))=false:=by
   rw [length_map,lx,decide_eq_true rfl];rfl
  rw [ee]
  refine aX (nA _ _ ?_)
  refine ba fun DB nB=>⟨(),r,rfl,⟨_,aq.of hr'⟩,fun D hD=>lK (xs:=xs) (fun _=>.bl true) (by lia) hD hr' ?_ ?_⟩
  ·intro i x H' R hxi sm kk
   have hi:i<ls.length:=by rw [←lx];exact (List.getElem?_eq_some_iff.mp hxi).1
   obtain ⟨o,e1,e2⟩:=vx i _ (getElem?_eq_getElem hi)
   rw [hxi] at e1
   cases e1
   exact ⟨fK,(),o,(),sm _ _ e2,rω _ (getElem_mem _),(gω _ (getElem_mem _)).2,kk H' (ag.refl _)⟩
  intro H1 s1 hD1
  rw [DU] at hD1
  refine ⟨D,(),aq.of hD1,(),?_⟩
  rw [DL]
  refine aX (nB _ _ ?_)
  refine bt fun Q3 nA3=>⟨(),na,_,_,(),rfl,af.of (s1 _ _ hna),rfl,(),pa,r,false,true,ls.map fun l=>(Sum.inr (S l):aI),xs,rfl,?_,aq.of (s1 _ _ hr'),by rw [length_map];lia,mL nd,by rw [length_map];lia,fun W H2 n2=>nA3 _ _ ?_⟩
  ·rw [Cs];exact af.of (s1 _ _ hpa)
  have s2:=s1.trans n2.sm
  have wh:Wh H2 W ls ω 1500:=⟨⟨_,n2.at',fun l hl=>by
   obtain ⟨j,hj⟩:=getElem?_of_mem hl
   obtain ⟨o,e1,e2⟩:=vx j l hj
   exact ⟨o,kO (i:=j) (mL nd) (by rw [getElem?_map,hj];rfl) e1,s2 _ _ e2⟩⟩,gω⟩
  refine ⟨(),na,_,_,(),rfl,af.of (s2 _ _ hna),rfl,ta,rfl,⟨_,af.of (s2 _ _ hta)⟩,fun D2 hD2=>D7 (xs:=ys) (fun _=>.bl true) (by lia) hD2 (s2 _ _ hta) ?_ ?_⟩
  ·intro i x H' R hxi sm kk
   obtain ⟨dx,e1,g1⟩:=ity.get hxi
   rw [getElem?_map] at e1
   obtain ⟨t,et,rfl⟩:=Option.map_eq_some_iff.mp e1
   have ht:=mem_of_getElem? et
   exact ⟨fK,(),(),x,W,ls,t,ω,rfl,(g1.sm s2).sm sm,tc t ht,wh.sm sm,lf t ht,fun H4 s4=>kk H4 s4⟩
  ·intro H3 s3 hD3
   rw [DU] at hD3
   refine ⟨D2,(),aq.of hD3,?_⟩
   rw [DL]
   exact k H3 (s2.trans s3)
end
end K15
namespace K15
open PySem L2
set_option maxHeartbeats 4000000
def sE (le:List Nat):LP:=⟨fun l=>if l=le then some (1,1) else none,fun _=>none,none⟩
def aV (ts:List aa) (le:List Nat):LP:=b5 ts (sE le) 9
theorem zd {le l:List Nat}{w:KM.Fra} (e:(sE le).ω l=some w):l=le∧w=(1,1):=by
 have e:(if l=le then some ((1,1):KM.Fra) else none)=some w:=e
 by_cases c:l=le
 ·rw [if_pos c] at e;cases e;exact ⟨c,rfl⟩
 ·rw [if_neg c] at e;cases e
theorem Cd:KM.vl (1,1)=1:=by nofun
theorem zc (ts:List aa) (le:List Nat):PV ts (sE le).ω (sE le):=by
 refine ⟨fun l w e=>?_,fun _ _=>rfl,(fun l k e=>by cases e),fun l w e=>⟨w,e,Rat.le_refl⟩⟩
 obtain ⟨_,rfl⟩:=zd e
 exact ⟨by ext,by show (1:Int)≤1;decide,by show Int.gcd 1 1=1;decide⟩
theorem oy {ls:List (List Nat)}{ts:List aa}{m:Nat} (tc:∀t∈ts,bp ls t) (h:(aW ts (m+1)).lf=none):jN ls ts (uW (aW ts m)):=by
 have M:=BI.st tc m
 refine ⟨fun l hl=>cW (M.pos l hl).1 (M.pos l hl).2,fun t ht ho=>?_⟩
 have no:=(tu (s:=aW ts m) h).2 t ht
 refine Rat.not_lt.mp fun z=>?_
 rw [(yx (tc t ht) M.pos).mpr ⟨ho,z⟩] at no
 cases no
structure mG (ts:List aa) (le:List Nat) (tm:List Nat→Nat):Prop where
 pv:PV ts (sE le).ω (aV ts le)
 cl:∀t∈ts,t.most≠(0,1)→Cl (aV ts le) t
 on:∀l k,(aV ts le).on l=some k→eF fun t w we=>ts[k]?=some t∧t.most≠(0,1)∧t.bg=l∧(aV ts le).ω l=some w∧(aV ts le).ω t.en=some we∧KM.vl w=gR t*KM.vl we∧tm t.en<tm l
theorem FJ {ls:List (List Nat)}{ts:List aa}{m:Nat} (le:List Nat) (tc:∀t∈ts,bp ls t) (l10:ls.length≤10) (h:(aW ts (m+1)).lf=none):(b5 ts (sE le) (9+1)).lf=none:=by
 refine E7 (le:=le) tc l10 (oy tc h) (zc ts le) (fun l w e=>?_) fun l us k hl=>?_
 ·obtain ⟨rfl,rfl⟩:=zd e
  exact ⟨[],.nil,Cd⟩
 ·cases k with
  | nil=>exact ⟨(1,1),if_pos rfl,by rw [Cd];exact Rat.le_refl⟩
  | cons _ _ _=>simp at hl
theorem wH {ls:List (List Nat)}{ts:List aa}{m:Nat} (le:List Nat) (tc:∀t∈ts,bp ls t) (l10:ls.length≤10) (h:(aW ts (m+1)).lf=none):∃tm,mG ts le tm:=by
 obtain ⟨tm,ct,k⟩:=oX.st tc (zc ts le) ⟨fun _=>0,0,(fun l k e=>by cases e),fun _=>le_refl _⟩ 9
 have cl:=Ku tc (zc ts le) (FJ le tc l10 h)
 refine ⟨tm,PV.st tc (zc ts le) 9,cl,fun l kk e=>?_⟩
 obtain ⟨t,w,we,e1,e2,e3,e4,e5,e6,e7⟩:=k.on l kk e
 obtain ⟨wb,e8,e9⟩:=cl t (mem_of_getElem? e1) e2 we e5
 rw [e3,e4] at e8
 cases e8
 refine ⟨t,w,we,e1,e2,e3,e4,e5,Rat.le_antisymm e6 e9,Nat.lt_of_not_le fun z=>absurd (e7 z) (Rat.not_lt.mpr e9)⟩
theorem mG.has {ts:List aa}{le:List Nat}{tm:List Nat→Nat} (h:mG ts le tm) {p:List Nat}{w:KM.Fra} (ne:p≠le) (e:(aV ts le).ω p=some w):∃k,(aV ts le).on p=some k:=by
 cases q:(aV ts le).on p with
 | some k=>exact ⟨k,rfl⟩
 | none=>
  have z:=h.pv.no p q
  rw [e] at z
  exact absurd (zd z.symm).1 ne
theorem mG.low {ts:List aa}{le:List Nat}{tm:List Nat→Nat} (h:mG ts le tm):∀n p w,tm p<n→(aV ts le).ω p=some w→p=le∨tm le<tm p
 | 0,p,w,z,_=>absurd z (Nat.not_lt_zero _)
 | n+1,p,w,z,e=>by
  by_cases c:p=le
  ·exact .inl c
  ·right
   obtain ⟨k,ek⟩:=h.has c e
   obtain ⟨t,w',we,e1,e2,e3,e4,e5,e6,e7⟩:=h.on p k ek
   rcases h.low n t.en we (by lia) e5 with y | y
   ·rw [←y];exact e7
   ·lia
theorem mG.one {ls:List (List Nat)}{ts:List aa}{le:List Nat}{tm:List Nat→Nat} (tc:∀t∈ts,bp ls t) (h:mG ts le tm):(aV ts le).ω le=some (1,1):=by
 cases q:(aV ts le).on le with
 | none=>
  rw [h.pv.no le q]
  exact if_pos rfl
 | some k=>
  obtain ⟨t,w',we,e1,e2,e3,e4,e5,e6,e7⟩:=h.on le k q
  rcases h.low _ t.en we (lt_succ_self _) e5 with y | y
  ·exact absurd (e3.trans y.symm) (tc t (mem_of_getElem? e1)).ne
  ·lia
theorem mG.cmp {ls:List (List Nat)}{ts:List aa}{le:List Nat}{tm:List Nat→Nat} (tc:∀t∈ts,bp ls t) (h:mG ts le tm) {l:List Nat}{us:List aa} (k:Wk ts le l us):∃w,(aV ts le).ω l=some w∧aR us≤KM.vl w:=by
 induction k with
 | nil=>exact ⟨_,h.one tc,by rw [Cd];exact Rat.le_refl⟩
 | @cons t r ht ho k ih=>
  obtain ⟨we,e,q⟩:=ih
  obtain ⟨wb,e2,q2⟩:=h.cl t ht ho we e
  exact ⟨wb,e2,Rat.le_trans (KM.mul_le_l q (Rat.le_of_lt (cW (tc t ht).g1 (tc t ht).g2))) q2⟩
inductive xi (ts:List aa) (le:List Nat) (on:List Nat→Option Nat):List Nat→List Nat→Prop
 | nil:xi ts le on le []
 | cons {p k t R}:p≠le→on p=some k→ts[k]?=some t→t.bg=p→xi ts le on t.en R→xi ts le on p (k :: R)
theorem mG.way {ls:List (List Nat)}{ts:List aa}{le:List Nat}{tm:List Nat→Nat} (tc:∀t∈ts,bp ls t) (h:mG ts le tm):∀n p w,tm p<n→p∈ls→(aV ts le).ω p=some w→aT fun R us=>xi ts le (aV ts le).on p R∧za ls ts p R us∧us.map (·.bg)++[le]=p :: us.map (·.en)∧aR us=KM.vl w∧∀x∈us.map (·.en),tm x<tm p
 | 0,p,w,z,_,_=>absurd z (Nat.not_lt_zero _)
 | n+1,p,w,z,hp,e=>by
  by_cases c:p=le
  ·subst c
   rw [h.one tc] at e
   cases e
   exact ⟨[],[],.nil,⟨rfl,(fun t ht=>by cases ht),⟨p,rfl⟩,by simp,fun x hx=>by rw [List.mem_singleton.mp hx];exact hp⟩,rfl,Cd.symm,fun x hx=>by cases hx⟩
  ·obtain ⟨k,ek⟩:=h.has c e
   obtain ⟨t,w',we,e1,e2,e3,e4,e5,e6,e7⟩:=h.on p k ek
   rw [e] at e4
   cases e4
   have ht:=mem_of_getElem? e1
   obtain ⟨R,us,fo,ok,ch,pe,tms⟩:=mG.way tc h n t.en we (by lia) (tc t ht).e e5
   have nl:∀x∈t.en :: us.map (·.en),tm x<tm p:=fun x hx=>by
    rcases List.mem_cons.mp hx with rfl | hx
    ·exact e7
    ·have:=tms x hx;lia
   have ch2:(t :: us).map (·.bg)++[le]=p :: (t :: us).map (·.en):=by rw [map_cons,map_cons,cons_append,ch,e3]
   refine ⟨k :: R,t :: us,.cons c ek e1 e3 fo,⟨by rw [map_cons,map_cons,ok.at',e1],fun x hx=>?_,⟨le,ch2⟩,?_,fun x hx=>?_⟩,ch2,by rw [i3,pe,e6],fun x hx=>nl x hx⟩
   ·rcases List.mem_cons.mp hx with rfl | hx
    ·exact e2
    ·exact ok.op x hx
   ·refine List.nodup_cons.mpr ⟨fun hx=>?_,ok.nd⟩
    exact absurd (nl p hx) (lt_irrefl _)
   ·rcases List.mem_cons.mp hx with rfl | hx
    ·exact hp
    ·exact ok.sub x hx
theorem xi.uniq {ts:List aa}{le:List Nat}{on:List Nat→Option Nat}{p R:List Nat} (h:xi ts le on p R):∀{R':List Nat},xi ts le on p R'→R'=R:=by
 induction h with
 | nil=>
  intro R' k
  cases k with
  | nil=>rfl
  | cons ne _ _ _ _=>exact absurd rfl ne
 | cons ne eo et eb _ ih=>
  intro R' k
  cases k with
  | nil=>exact absurd rfl ne
  | cons _ eo' et' _ k'=>
   rw [eo] at eo'
   cases eo'
   rw [et] at et'
   cases et'
   rw [ih k']
section
variable {P:Program}{w:World}{K:Frag}{mg:Str→Option Value}{base:Heap}
theorem zS {ls:List (List Nat)}{ts:List aa}{le:List Nat}{g:Addr}{H:Hp}{Q:VK}{E:XK}{v:V}{W:Addr}{o:Addr} (hv:aU ED H v (bX ls ts)) (tc:∀t∈ts,dL ls t) (h24:ts.length≤24) (l1:1≤ls.length) (l10:ls.length≤10)
 (hW:H W=some (.dK [(Sum.inr (S le),.ref o)])) (ho:H o=some (fr (1,1)))
 (k:(∃mx,mx<ls.length∧(aW ts (mx+1)).lf=none∧∀(O:Addr) (H':Hp),(∀a o,a≠W→H a=some o→H' a=some o)→H O=none→vg H' W ls (aV ts le).ω 300→DO H' O ls (aV ts le).on 300→GW ls (aV ts le).ω 1500→Q (.ref O) H')∨
  ((∀m,m<ls.length→(aW ts (m+1)).lf≠none)∧∀(R:List Nat) (us:List aa) (a dx r:Addr) (H':Hp),cX ts R us→R.length≤10→ag H H'→H' a=some (jt a g (some dx))→H' dx=some (.xd [("ties",.ref r)])→H r=none→H' r=some (.lst (bf R))→E (.ref g) (some dx) H')):Dw g [v,.ref W] H Q E:=by
 have tk:∀t∈ts,bp ls t:=fun t ht=>(tc t ht).tok
 refine ⟨v,W,ls,ts,sE le,rfl,hv,tc,h24,l1,l10,⟨_,hW,by show 1≤10;decide,fun l hl=>?_⟩,fun l hl w e=>?_,fun _=>rfl,?_⟩
 ·have e1:valD [((Sum.inr (S le):aI),V.ref o)] (Sum.inr (S l))=if l=le then some (.ref o) else none:=by
   by_cases c:l=le
   ·subst c;rw [if_pos rfl];unfold valD;rw [find?_cons,decide_eq_true rfl];rfl
   ·have n:¬(Sum.inr (S le):aI)=Sum.inr (S l):=tU fun z=>c z.symm
    rw [if_neg c];unfold valD;rw [find?_cons,decide_eq_false n];rfl
  have e2:(sE le).ω l=if l=le then some (1,1) else none:=rfl
  rw [e1,e2]
  by_cases c:l=le
  ·rw [if_pos c,if_pos c]
   exact ⟨fun w e=>by cases e;exact ⟨o,rfl,ho⟩,fun z=>by cases z⟩
  ·rw [if_neg c,if_neg c]
   exact ⟨fun w e=>(by cases e),fun _=>rfl⟩
 ·obtain ⟨_,rfl⟩:=zd e
  exact ⟨Ab,(by show (1:Int)≤1;decide)⟩
 ·rcases k with ⟨mx,h1,h2,k⟩ | k
  ·refine .inl ⟨mx,9,h1,h2,le_refl _,FJ le tk l10 h2,fun m O H' hm em f fO dw do' gw=>?_⟩
   obtain ⟨q1,q2⟩:=Ix em (9 - m)
   rw [show m+(9 - m)=9 by lia] at q1 q2
   rw [←q1] at dw gw
   rw [←q2] at do'
   exact k O H' f fO dw do' gw
  ·exact .inr k
def IO (g:Addr) (ls:List (List Nat)) (ts:List aa) (H:Hp) (E:XK) (k:Prop):Prop:=
 (∃mx,mx<ls.length∧(aW ts (mx+1)).lf=none∧k)∨
 ((∀m,m<ls.length→(aW ts (m+1)).lf≠none)∧∀(R:List Nat) (us:List aa) (a dx r:Addr) (H':Hp),cX ts R us→R.length≤10→ag H H'→H' a=some (jt a g (some dx))→H' dx=some (.xd [("ties",.ref r)])→H r=none→H' r=some (.lst (bf R))→E (.ref g) (some dx) H')
inductive JL (g:Addr) (vs:List V) (H:Hp) (Q:VK) (E:XK):Prop
 | mk (v:V) (ls:List (List Nat)) (ts:List aa) (lb le:List Nat) (h0:vs=[v,au lb,au le]) (h1:aU ED H v (bX ls ts)) (h2:(∀t∈ts,dL ls t)) (h3:ts.length≤24) (h4:1≤ls.length) (h5:ls.length≤10) (h6:lb∈ls) (h7:IO g ls ts H E (∀H':Hp,ag H H'→(∀w o,(aV ts le).ω lb=some w→H' o=some (fr w)→Gb 1500 1500 w→Q (.ref o) H')∧((aV ts le).ω lb=none→Q .non H')))
def LX (g:Addr):Sp:=fun vs H Q E=>JL g vs H Q E
theorem jr (T:Txt K mg):aQ P w K mg base (qr P w) 7 T.greatest_gain_.f T.greatest_gain_.d ["net", "begin", "end"] (LX T.x_Gaining):=by
 have G_lift_all:=#[(pM)]
 refine T.greatest_gain_.F.okX oH (fun vs H Q E h=>?_) (fun cdv A outer s H vs Q E hr h=>?_)
 ·obtain ⟨v,ls,ts,lb,le,rfl,_⟩:=h
  rfl
 ·obtain ⟨v,ls,ts,lb,le,rfl,hv,tc,h24,l1,l10,hb,k⟩:=h
  refine ⟨_,#[#[PS.nox 3 #[3,oH.nd,fB,#[Ak 6 #[2,sL] #[ar 5 #[[#[()],#[()]]]]]]] :: #[#[f8 4 #[dU 16 G_lift_all (hr.mono (by ext)) nZ T.lift_all_.m T.lift_all_.F.kp T.lift_all_.B .nil #[BP 15] #[[#[0,sS],#[3,fB]]] (by ext) (by rfl) (by rfl)] (by rfl)] :: #[ac 3 #[PS.nox 3 #[am 4 #[GD 7 #[3,fB] #[1,qJ] (by rfl) (by rfl) (by rfl) (by rfl)]]]]]],?_⟩
  refine bt fun Q1 nA1=>fun W H1 n1=>⟨(),Sum.inr (S le),rfl,(by show 2≤10000;decide),fun o H2 n2=>⟨n2.sm _ _ n1.at',fun H3 c3=>nA1 _ _ ?_⟩⟩
  refine ba fun DA nA=>?_
  have s3:ag H H3:=fun a u h=>c3.ol a u (fun z=>by rw [z,n1.fr] at h;cases h) (n2.sm _ _ (n1.sm _ _ h))
  have oW:o≠W:=fun z=>by have:=n2.fr;rw [z,n1.at'] at this;cases this
  refine ⟨(),(),?_⟩
  refine zS (g:=T.x_Gaining) (E:=E) (Q:=fun _ J=>DA.nx _ J) (hv.mono s3.toE) tc h24 l1 l10 c3.at' (c3.ol o _ oW n2.at') ?_
  rcases k with ⟨mx,h1,h2,k⟩ | ⟨hno,k⟩
  case' inr=>exact .inr ⟨hno,fun R us a dx r H' ok hR sm ha hdx fr hr'=>k R us a dx r H' ok hR (s3.trans sm) ha hdx (s3.free fr) hr'⟩
  refine .inl ⟨mx,h1,h2,fun O H4 f4 fO dw do' gw=>?_⟩
  refine nA _ _ ?_
  obtain ⟨kv,hW,lW,vW⟩:=dw
  have s4:ag H H4:=fun a u h=>f4 a u (fun z=>by rw [z,n1.fr] at h;cases h) (s3 _ _ h)
  refine ⟨(),W,kv,rfl,hW,(),kv,Sum.inr (S lb),rfl,hW,?_⟩
  cases e:(aV ts le).ω lb with
  | none=>
   rw [(vW lb hb).2 e]
   exact (k H4 s4).2 e
  | some w=>
   obtain ⟨o',v',h'⟩:=(vW lb hb).1 w e
   rw [v']
   exact (k H4 s4).1 w o' e h' (gw lb hb w e).1
inductive KK (g:Addr) (vs:List V) (H:Hp) (Q:VK) (E:XK):Prop
 | mk (v:V) (ls:List (List Nat)) (ts:List aa) (lb le:List Nat) (h0:vs=[v,au lb,au le]) (h1:aU ED H v (bX ls ts)) (h2:(∀t∈ts,dL ls t)) (h3:ts.length≤24) (h4:1≤ls.length) (h5:ls.length≤10) (h6:lb∈ls) (h7:IO g ls ts H E (∀H':Hp,ag H H'→(∀w R r,(aV ts le).ω lb=some w→xi ts le (aV ts le).on lb R→H r=none→H' r=some (.lst (bf R))→Q (.ref r) H')∧((aV ts le).ω lb=none→Q .non H')))
def L9 (g:Addr):Sp:=fun vs H Q E=>KK g vs H Q E
theorem vi (T:Txt K mg):aQ P w K mg base (qr P w) 7 T.best_way_.f T.best_way_.d ["net", "begin", "end"] (L9 T.x_Gaining):=by
 have G_lift_all:=#[(pM)]
 refine T.best_way_.F.okX gY (fun vs H Q E h=>?_) (fun cdv A outer s H vs Q E hr h=>?_)
 ·obtain ⟨v,ls,ts,lb,le,rfl,_⟩:=h
  rfl
 ·obtain ⟨v,ls,ts,lb,le,rfl,hv,tc,h24,l1,l10,hb,k⟩:=h
  obtain ⟨na,pa,ta,ys,rfl,hna,hpa,hta,ity⟩:=bU hv
  refine ⟨_,#[#[PS.nox 3 #[3,gY.nd,jf,#[Ak 6 #[2,qC] #[ar 5 #[[#[()],#[()]]]]]]] :: #[#[4,gY.nd,jm,#[dU 16 G_lift_all (hr.mono (by ext)) sD T.lift_all_.m T.lift_all_.F.kp T.lift_all_.B .nil #[BP 15] #[[#[0,qH],#[3,jf]]] (by ext) (by rfl) (by rfl)]] :: #[#[PS.nox 3 #[bd 8 #[aA 8 (@qY _) #[1,oB] #[3,jf] rfl] #[ac 3 #[am 4 #[cj 3]]] (@aJ _)]] :: #[#[PS.nox 3 #[5,gY.nd,kK,#[cP 4 (@cC _)]]] :: #[#[PS.nox 3 #[6,gY.nd,eh,#[1,oB]]] :: #[#[PS.nox 3 #[oq 6 PassesOwn.never #[aA 8 (@o8 _) #[6,eh] #[2,qC] #[(),()]] #[#[f8 4 (@gX _ (K) _ _ _ _ _ _ _ _ _ _ _ PySem.F.plainAttrs_list PySem.F.slot_list_append PySem.F.type_list_append (@gI _) #[5,kK] #[[#[bP 7 (@cm _) #[4,jm] #[6,eh] (fun _ _=>rfl)]]] (by rfl) (by rfl) (by rfl) (by rfl) (by rfl) (by rfl)) (by rfl)] :: #[ac 3 #[6,gY.nd,eh,#[#[#[#[0,qH][#[()]]][#[bP 7 (@cm _) #[4,jm] #[6,eh] (fun _ _=>rfl)]]][#[()]]]]]]]] :: #[ac 3 #[PS.nox 3 #[am 4 #[5,kK]]]]]]]]]],?_⟩
  refine bt fun Q1 nA1=>fun W H1 n1=>⟨(),Sum.inr (S le),rfl,(by show 2≤10000;decide),fun o H2 n2=>⟨n2.sm _ _ n1.at',fun H3 c3=>nA1 _ _ ?_⟩⟩
  refine bt fun Q2 nA=>?_
  have s3:ag H H3:=fun a u h=>c3.ol a u (fun z=>by rw [z,n1.fr] at h;cases h) (n2.sm _ _ (n1.sm _ _ h))
  have oW:o≠W:=fun z=>by have:=n2.fr;rw [z,n1.at'] at this;cases this
  refine ⟨(),(),?_⟩
  refine zS (g:=T.x_Gaining) (E:=E) (hv.mono s3.toE) tc h24 l1 l10 c3.at' (c3.ol o _ oW n2.at') ?_
  rcases k with ⟨mx,h1,h2,k⟩ | ⟨hno,k⟩
  case' inr=>exact .inr ⟨hno,fun R us a dx r H' ok hR sm ha hdx fr hr'=>k R us a dx r H' ok hR (s3.trans sm) ha hdx (s3.free fr) hr'⟩
  refine .inl ⟨mx,h1,h2,fun O H4 f4 fO dw do' gw=>?_⟩
  refine nA _ _ ?_
  have tk:∀t∈ts,bp ls t:=fun t ht=>(tc t ht).tok
  obtain ⟨tm,FN⟩:=wH le tk l10 h2
  obtain ⟨kv,hW,lW,vW⟩:=dw
  obtain ⟨ko,hO,lO,vO⟩:=do'
  have s4:ag H H4:=fun a u h=>f4 a u (fun z=>by rw [z,n1.fr] at h;cases h) (s3 _ _ h)
  refine Ct fun DB nB rB=>⟨(),(),W,kv,Sum.inr (S lb),rfl,rfl,hW,(),?_⟩
  cases e:(aV ts le).ω lb with
  | none=>
   rw [(vW lb hb).2 e]
   exact cf (rB _ _ ((k H4 s4).2 e))
  | some w=>
   obtain ⟨o',v',h'⟩:=(vW lb hb).1 w e
   rw [v']
   refine aX (nB _ _ ?_)
   obtain ⟨R0,us0,fo0,ok0,ch0,_,_⟩:=FN.way tk _ lb w (lt_succ_self _) hb e
   have lR0:R0.length≤9:=by
    have e1:R0.length=us0.length:=by have:=congrArg length ok0.at';simpa using this
    have:=pB (xs:=lb :: us0.map (·.en)) (ys:=ls) ok0.nd ok0.sub
    simp only [length_cons,length_map] at this
    lia
   refine bt fun Q3 nA3=>⟨zero_le _,fun r H5 n5=>nA3 _ _ ?_⟩
   refine bt fun Q4 nA4=>⟨(),nA4 _ _ ?_⟩
   have fr':H r=none:=s4.free n5.fr
   refine ba fun DC nC=>?_
   refine tR (fun m σ H'=>eF fun (p pre R:List Nat)=>σ=[some (.ref na),some (au lb),some (au le),some (.ref W),some (.ref O),some (.ref r),some (au p)]∧m=R.length∧R0=pre++R∧p∈ls∧xi ts le (aV ts le).on p R∧H' r=some (.lst (bf pre))∧ag H4 H') _ ⟨lb,[],R0,rfl,rfl,rfl,hb,fo0,n5.at',n5.sm⟩ ?_
   rintro m σ J ⟨p,pre,R,rfl,rfl,eR,hp,fo,hr5,sm⟩ Q D' nD rD qT qF
   refine ⟨(),(),rfl,(),?_⟩
   have lp:pre.length+R.length≤9:=by rw [eR,length_append] at lR0;exact lR0
   cases fo with
   | nil=>
    have q:(!decide (au le=au le))=false:=by simp
    rw [q]
    refine qF _ (nC _ _ ⟨(),?_⟩)
    rw [append_nil] at eR
    exact (k J (s4.trans sm)).1 w R0 r e fo0 fr' (by rw [eR];exact hr5)
   | @cons p kk t R c eo et eb fo=>
    subst eb
    have q:(!decide (au t.bg=au le))=true:=by
     rw [decide_eq_false]
     ·rfl
     ·intro z
      injection z with z
      exact c (rX z)
    rw [q]
    refine qT _ ?_
    have tt:=tc t (mem_of_getElem? et)
    have vo:valD ko (Sum.inr (S t.bg))=some (.int (kk:Int)):=by rw [vO t.bg hp,eo];rfl
    obtain ⟨y,ey⟩:∃y,ys[kk]?=some y:=⟨_,getElem?_eq_getElem (by rw [ity.length,length_map];exact (List.getElem?_eq_some_iff.mp et).1)⟩
    obtain ⟨dy,edy,gy⟩:=ity.get ey
    rw [getElem?_map,et] at edy
    obtain rfl:jD t=dy:=Option.some.inj edy
    obtain ⟨o3,om,og,op',rfl,hto,_,_,_⟩:=kM gy
    refine ba fun DE nE=>⟨(),.inl ⟨rfl,_,aq.of hr5⟩,(),(),O,ko,Sum.inr (S t.bg),(),rfl,sm _ _ hO,vo,r,_,(),rfl,hr5,by rw [length_map];lia,fun J4 c4=>nE _ _ ?_⟩
    have sm4:ag H4 J4:=fun a u h=>c4.ol a u (fun z=>by rw [z,n5.fr] at h;cases h) (sm a u h)
    have sm5:=s4.trans sm4
    refine ⟨(),na,_,_,(),rfl,af.of (sm5 _ _ hna),rfl,(),(),O,ko,Sum.inr (S t.bg),(),rfl,sm4 _ _ hO,vo,ta,ys,_,(),rfl,af.of (sm5 _ _ hta),cq ey,o3,_,_,(),rfl,af.of (sm5 _ _ hto),rfl,?_⟩
    refine nD R.length _ _ (lt_succ_self _) ⟨t.en,pre++[kk],R,rfl,rfl,?_,tt.e,fo,?_,sm4⟩
    ·rw [eR];simp
    ·rw [c4.at']
     simp [bf]
end
end K15
namespace K15
open PySem L2
set_option maxHeartbeats 4000000
theorem za.mem {ls:List (List Nat)}{ts:List aa}{l0:List Nat}{R:List Nat}{us:List aa} (h:za ls ts l0 R us) {t:aa} (ht:t∈us):t∈ts:=by
 have m:some t∈R.map (fun k=>ts[k]?):=by rw [h.at'];exact mem_map_of_mem ht
 obtain ⟨k,_,hk⟩:=List.mem_map.mp m
 exact mem_of_getElem? hk
theorem yY {ts:List aa}{le:List Nat}:∀{us:List aa}{l0:List Nat},(∀t∈us,t∈ts∧t.most≠(0,1))→us.map (·.bg)++[le]=l0 :: us.map (·.en)→Wk ts le l0 us
 | [],l0,_,e=>by
  have:le=l0:=by simpa using e
  subst this
  exact .nil
 | t :: r,l0,h,e=>by
  simp only [map_cons,cons_append,List.cons.injEq] at e
  obtain ⟨rfl,e⟩:=e
  exact .cons (h t (by simp)).1 (h t (by simp)).2 (yY (fun x hx=>h x (by simp [hx])) e)
theorem xt {α:Type}{us:List α} (h:us≠[]):aT fun us' t'=>us=us'++[t']:=by
 rcases List.eq_nil_or_concat us with e | ⟨us',t',e⟩
 ·exact absurd e h
 ·exact ⟨us',t',by rw [e,List.concat_eq_append]⟩
section
variable {P:Program}{w:World}{K:Frag}{mg:Str→Option Value}{base:Heap}
end
end K15
namespace K15
open PySem L2
set_option maxHeartbeats 4000000
theorem LQ (R:List Nat):dW (bf R) (some 1) none=bf (R.drop 1):=by rw [rV,bf,bf,map_drop]
theorem Kd (R:List Nat):(R.map fun k:Nat=>(Sum.inl (k:Int):aI)).map fW=bf R:=by
 rw [map_map];rfl
theorem Hw {R:List Nat} (h:R.Nodup):(R.map fun k:Nat=>(Sum.inl (k:Int):aI)).Nodup:=by
 rw [nodup_iff_pairwise_ne,pairwise_map]
 refine List.Pairwise.imp (fun {a b} hab z=>?_) (List.nodup_iff_pairwise_ne.mp h)
 injection z with z
 exact hab (Int.ofNat.inj z)
theorem HB {ts:List aa}{R:List Nat}{us:List aa} (h:R.map (fun k=>ts[k]?)=us.map some) (nb:(us.map (·.bg)).Nodup):R.Nodup:=by
 have e:R.map (fun k=>(ts[k]?).map (·.bg))=(us.map (·.bg)).map some:=by
  have:=congrArg (List.map fun x:Option aa=>x.map (·.bg)) h
  rw [map_map,map_map] at this
  rw [map_map]
  exact this
 have n2:((us.map (·.bg)).map some).Nodup:=by
  rw [nodup_iff_pairwise_ne,pairwise_map]
  exact List.Pairwise.imp (fun {a b} hab z=>hab (Option.some.inj z)) (List.nodup_iff_pairwise_ne.mp nb)
 rw [←e,nodup_iff_pairwise_ne,pairwise_map] at n2
 exact List.nodup_iff_pairwise_ne.mpr (List.Pairwise.imp (fun {a b} hab z=>hab (by rw [z])) n2)
structure Ag (ts:List aa) (R:List Nat) (us:List aa):Prop where
 at':R.map (fun k=>ts[k]?)=us.map some
 nd:(us.map (·.bg)).Nodup
 ch:∀i t t',us[i]?=some t→us[i+1]?=some t'→t.en=t'.bg
theorem Ag.of_way {ls:List (List Nat)}{ts:List aa}{l0 le R:List Nat}{us:List aa} (h:za ls ts l0 R us) (ch:us.map (·.bg)++[le]=l0 :: us.map (·.en)):Ag ts R us:=by
 refine ⟨h.at',?_,fun i t t' e1 e2=>?_⟩
 ·have:=h.nd
  rw [←ch] at this
  exact (List.nodup_append.mp this).1
 ·have:=congrArg (fun z=>z[i+1]?) ch
  simp only [List.getElem?_cons_succ,getElem?_map,e1] at this
  rw [getElem?_append_left (by rw [length_map];exact (List.getElem?_eq_some_iff.mp e2).1),getElem?_map,e2] at this
  exact (Option.some.inj this).symm
theorem Ag.of_rnd {ts:List aa}{R:List Nat}{us:List aa} (h:cX ts R us):Ag ts R us:=by
 refine ⟨h.at',h.nd,fun i t t' e1 e2=>?_⟩
 have:=congrArg (fun z=>z[i]?) h.rot
 have l2:=(List.getElem?_eq_some_iff.mp e2).1
 simp only [getElem?_map,e1] at this
 rw [getElem?_append_left (by rw [length_drop,length_map];lia),List.getElem?_drop,add_comm 1 i,getElem?_map,e2] at this
 exact Option.some.inj this
section
variable {P:Program}{w:World}{K:Frag}{mg:Str→Option Value}{base:Heap}
inductive IR (vs:List V) (H:Hp) (Q:VK):Prop
 | mk (v:V) (a:Addr) (ls:List (List Nat)) (ts:List aa) (R:List Nat) (us:List aa) (h0:vs=[v,.ref a]) (h1:aU ED H v (bX ls ts)) (h2:H a=some (.lst (bf R))) (h3:Ag ts R us) (h4:R.length≤12) (h5:∀H',ag H H'→Q (.bl true) H')
def FF:Sp:=fun vs H Q _=>IR  vs H Q
theorem AH (T:Txt K mg):aQ P w K mg base CX0 2 T.are_ties_.f T.are_ties_.d ["net", "thing"] FF:=by
 have G_is_number:=#[(tN)]
 refine T.are_ties_.F.ok AD (fun vs H Q E h=>?_) (fun cdv A outer s H vs Q E hr h=>?_)
 ·obtain ⟨v,a,ls,ts,R,us,rfl,_⟩:=h
  rfl
 ·obtain ⟨v,a,ls,ts,R,us,rfl,hv,ha,wn,l12,k⟩:=h
  obtain ⟨na,pa,ta,ys,rfl,hna,hpa,hta,ity⟩:=bU hv
  have lN:(bf R).length=R.length:=length_map ..
  have ly:ys.length=ts.length:=by rw [ity.length,length_map]
  refine ⟨_,#[#[bd 8 #[da 4 #[bQ 3 #[(),(),(@kL _ (K) (by rfl)),pW,T.b_isinstance,(@bG),#[[#[1,gN],#[rn 4 wZ T.b_list (@fY) (by ext) (by ext)]]]] (by intro _;rfl)]] #[ac 3 #[am 4 #[cM 4]]] (@aJ _)] :: #[#[bd 8 #[da 4 #[bQ 3 #[(),(),(@xf _ (K) rfl (by rfl)),xP,T.b_all,(@ki),#[[#[ci 7 (["number", "net"]) (1) ([0]) _ _ _ _ rfl (by kernel_rfl) (@eZ _ (K) _ _ _ #[1,gN] (by rfl)) (fun _ _ _ _ _ _=>#[0,(),()]) (fun _ _ _ _ _ _=>@bM _) (fun _ _ _ _ _ _=>#[qd 7 #[G_is_number,(),T.is_number_,#[[#[0,()]]]] #[l7 5 #[E6 12 (@y8 _) (@lB _) #[()] #[0,()] #[(),(),(@eG _ (K) (by rfl)),(by show _=_;kernel_rfl),T.b_len,(@bh),#[[#[#[1,0][#[()]]]]]] (by with_unfolding_all rfl)]]]) (by intro _;rfl)]]]] (by intro _;rfl)]] #[ac 3 #[am 4 #[cM 4]]] (@aJ _)] :: #[ac 3 #[am 4 #[bS 8 (@fi _) (@xY _ (K) _ _ _ _ _ _ #[1,gN] rfl qj T.b_len xF T.b_set (by rfl) (by rfl)) #[(),(),(@eG _ (K) (by rfl)),qj,T.b_len,(@bh),#[[#[1,gN]]]] #[(),()]]]]]],?_⟩
  refine ba fun DA nA=>⟨(),_,_,_,(),.lst ha,vy (.list []),(),aX (nA _ _ ?_)⟩
  refine ba fun DB nB=>⟨(),a,rfl,⟨_,aq.of ha⟩,fun D hD=>lK (xs:=bf R) (fun _=>.bl true) (by lia) hD ha ?_ ?_⟩
  ·intro i x H' R' hxi sm kk
   rw [getElem?_map] at hxi
   obtain ⟨j,ej,rfl⟩:=Option.map_eq_some_iff.mp hxi
   obtain ⟨t,eu,et⟩:=cX.get wn.at' ej
   have jl:=(List.getElem?_eq_some_iff.mp et).1
   refine ⟨fK,(),(j:Int),rfl,(),cf ⟨(),_,(),rfl,(),?_⟩⟩
   rw [decide_eq_true (by lia)]
   refine cf ⟨(),na,_,_,(),rfl,af.of (sm _ _ hna),rfl,ta,ys,rfl,.inr (af.of (sm _ _ hta)),_,(),rfl,?_⟩
   show R' (.bl (decide _)) _
   rw [decide_eq_true (by lia)]
   exact kk H' (ag.refl _)
  intro H1 s1 hD1
  rw [BE,show replicate (bf R).length (V.bl true)=(replicate (bf R).length true).map V.bl by rw [map_replicate]] at hD1
  refine ⟨D,(),aq.of hD1,(),?_⟩
  rw [show (replicate (bf R).length true).all id=true by simp]
  refine aX (nB _ _ ?_)
  have ha1:=s1 _ _ ha
  refine ⟨(),a,R.map fun k:Nat=>(Sum.inl (k:Int):aI),rfl,.inl (aq.of (by rw [Kd];exact ha1)),by rw [length_map];lia,(),a,(),.inl (aq.of ha1),rfl,?_⟩
  have e1:(iB (R.map fun k:Nat=>(Sum.inl (k:Int):aI))).length=(bf R).length:=by
   rw [(wM _).mpr (Hw (HB wn.at' wn.nd))];simp [bf]
  rw [e1,decide_eq_true rfl]
  exact k H1 s1
theorem yp (T:Txt K mg):aQ P w K mg base CX0 3 T.is_way_.f T.is_way_.d ["net", "thing"] FF:=by
 have G_are_ties:=#[(AH)]
 refine T.is_way_.F.ok Dp (fun vs H Q E h=>?_) (fun cdv A outer s H vs Q E hr h=>?_)
 ·obtain ⟨v,a,ls,ts,R,us,rfl,_⟩:=h
  rfl
 ·obtain ⟨v,a,ls,ts,R,us,rfl,hv,ha,wn,l12,k⟩:=h
  obtain ⟨na,pa,ta,ys,rfl,hna,hpa,hta,ity⟩:=bU hv
  refine ⟨_,#[#[bd 8 #[da 4 #[bQ 3 #[G_are_ties,uP,T.are_ties_,#[[#[0,(Aj)],#[1,k6]]]] (by intro _;rfl)]] #[ac 3 #[am 4 #[cM 4]]] (@aJ _)] :: #[ac 3 #[am 4 #[(),(),(@xf _ (K) rfl (by rfl)),zN,T.b_all,(@ki),#[[#[ci 7 (["ahead", "behind", "net"]) (2) ([0]) _ _ _ _ rfl (by kernel_rfl) (@vG _ (K) _ _ _ _ _ _ _ _ Ac T.b_zip #[[#[1,k6],#[cg 10 (@nG _ (K) (by rfl)) #[1,k6] #[cH 3 #[()]] (@dA _)]]] (by rfl) (by rfl) (by rfl)) (fun _ _ _ _ _ _=>(@cx _ (K) _ _ _ _ (2) rfl #[aC 5 #[0,(),()] #[aC 5 #[1,(),()] (@cF _) (by rfl)] (by rfl)] (by rfl) (by rfl) (by rfl))) (fun _ _ _ _ _ _=>@bM _) (fun _ _ _ _ _ _=>#[bS 8 (@fi _) #[#[#[#[2,0][#[()]]][#[0,()]]][#[()]]] #[#[#[#[2,0][#[()]]][#[1,()]]][#[()]]] #[(),()]]) (by intro _;rfl)]]]]]]],?_⟩
  refine ba fun DA nA=>⟨(),(),.ref na,a,ls,ts,R,us,rfl,hv,ha,wn,l12,fun H1 s1=>⟨(),aX (nA _ _ ?_)⟩⟩
  refine ⟨(),(),(),a,(),aq.of (s1 _ _ ha),fun u2 H2 n2=>?_⟩
  have s2:=s1.trans n2.sm
  have hu:H2 u2=some (.lst (bf (R.drop 1))):=by rw [n2.at',LQ]
  refine ⟨a,u2,true,true,rfl,⟨_,aq.of (s2 _ _ ha)⟩,⟨_,aq.of hu⟩,fun D hD=>yz (xs:=bf R) (ys:=bf (R.drop 1)) (fun _=>.bl true) ?_ hD (fun H' sm=>aq.of (sm _ _ (s2 _ _ ha))) (fun H' sm=>aq.of (sm _ _ hu)) ?_ ?_⟩
  ·simp [bf];lia
  ·intro i x y H' R' hx hy sm kk
   rw [getElem?_map] at hx hy
   obtain ⟨j1,e1,rfl⟩:=Option.map_eq_some_iff.mp hx
   obtain ⟨j2,e2,rfl⟩:=Option.map_eq_some_iff.mp hy
   rw [List.getElem?_drop,add_comm 1 i] at e2
   obtain ⟨t1,u1,et1⟩:=cX.get wn.at' e1
   obtain ⟨t2,u2',et2⟩:=cX.get wn.at' e2
   obtain ⟨o1,om1,og1,op1,ey1,h1,_,_,_⟩:=iE ity et1
   obtain ⟨o2,om2,og2,op2,ey2,h2,_,_,_⟩:=iE ity et2
   have sn:=s2.trans sm
   refine ⟨Cg,?_⟩
   refine ⟨(),na,_,_,(),rfl,af.of (sn _ _ hna),rfl,(),ta,_,_,(),rfl,af.of (sn _ _ hta),cq ey1,o1,_,_,(),rfl,af.of (sn _ _ h1),rfl,(),na,_,_,(),rfl,af.of (sn _ _ hna),rfl,(),ta,_,_,(),rfl,af.of (sn _ _ hta),cq ey2,o2,_,_,(),rfl,af.of (sn _ _ h2),rfl,rfl,?_⟩
   rw [decide_eq_true (by rw [wn.ch i t1 t2 u1 u2'])]
   exact kk H' (ag.refl _)
  ·intro H3 s3 hD3
   rw [BE,show ∀n,replicate n (V.bl true)=(replicate n true).map V.bl from fun n=>by rw [map_replicate]] at hD3
   refine ⟨D,(),aq.of hD3,?_⟩
   rw [show ∀n,(replicate n true).all id=true from fun n=>by simp]
   exact k H3 (s2.trans s3)
inductive Jk (vs:List V) (H:Hp) (Q:VK):Prop
 | mk (v:V) (a:Addr) (ls:List (List Nat)) (ts:List aa) (R:List Nat) (us:List aa) (h0:vs=[v,.ref a]) (h1:aU ED H v (bX ls ts)) (h2:H a=some (.lst (bf R))) (h3:cX ts R us) (h4:R.length≤10) (h5:∀H',ag H H'→Q (.bl true) H')
def JE:Sp:=fun vs H Q _=>Jk  vs H Q
theorem AG (T:Txt K mg):aQ P w K mg base CX0 4 T.is_round_.f T.is_round_.d ["net", "thing"] JE:=by
 have G_is_way:=#[(yp)]
 refine T.is_round_.F.ok vn (fun vs H Q E h=>?_) (fun cdv A outer s H vs Q E hr h=>?_)
 ·obtain ⟨v,a,ls,ts,R,us,rfl,_⟩:=h
  rfl
 ·obtain ⟨v,a,ls,ts,R,us,rfl,hv,ha,rk,l10,k⟩:=h
  obtain ⟨na,pa,ta,ys,rfl,hna,hpa,hta,ity⟩:=bU hv
  have lR:R.length=us.length:=by have:=congrArg length rk.at';simpa using this
  have lN:(bf R).length=R.length:=length_map ..
  have two:=rk.two
  refine ⟨_,#[#[bd 8 #[PW.pt 3 #[iY 7 #[da 4 #[bQ 3 #[G_is_way,uT,T.is_way_,#[[#[0,(qy)],#[1,gJ]]]] (by intro _;rfl)]] #[iH 4 #[aA 8 (@lB _) #[(),(),(@eG _ (K) (by rfl)),kS,T.b_len,(@bh),#[[#[1,gJ]]]] #[()] #[(),()]]]]] #[ac 3 #[am 4 #[cM 4]]] (@aJ _)] :: #[#[vq 7 (["number", "net"]) (1) ([0]) _ _ _ _ (2) _ _ _ vn.nd rfl fM (by kernel_rfl) rfl (by kernel_rfl) (@eZ _ (K) _ _ _ #[1,gJ] (by rfl)) (fun _ _ _ _ _ _=>#[0,(),()]) (fun _ _ _ _ _ _=>@bM _) (fun _ _ _ _ _ _=>#[#[#[#[1,0][#[()]]][#[0,()]]][#[()]]]) (by intro _;rfl)] :: #[ac 3 #[am 4 #[qd 7 #[bS 8 (@fi _) #[#[#[#[0,(qy)][#[()]]][#[#[1,gJ][#[uL 6 (@pZ _) #[()]]]!]]][#[()]]] #[#[2,fM][#[()]]!] #[(),()]] #[l7 5 #[bS 8 (@fi _) (@xY _ (K) _ _ _ _ _ _ #[2,fM] rfl kS T.b_len xu T.b_set (by rfl) (by rfl)) #[(),(),(@eG _ (K) (by rfl)),kS,T.b_len,(@bh),#[[#[2,fM]]]] #[(),()]]]]]]]],?_⟩
  refine ba fun DA nA=>⟨(),(),.ref na,a,ls,ts,R,us,rfl,hv,ha,.of_rnd rk,by lia,fun H1 s1=>⟨(),aX ⟨(),a,(),.inl (aq.of (s1 _ _ ha)),_,(),rfl,(),?_⟩⟩⟩
  rw [decide_eq_false (by lia)]
  refine aX (nA _ _ ?_)
  have ha1:=s1 _ _ ha
  have mapE:(List.range (bf R).length).map (fun i=>((us[i]?).map fun t=>au t.bg).getD .non)=(us.map (·.bg)).map au:=by
   rw [lN,lR,se (fun i=>((us[i]?).map fun t=>au t.bg).getD .non) (fun t=>au t.bg) us (fun i x e=>by rw [e];rfl),map_map]
   rfl
  refine bt fun Q3 nA3=>⟨(),a,rfl,⟨_,aq.of ha1⟩,fun D3 hD3=>lK (xs:=bf R) (fun i=>((us[i]?).map fun t=>au t.bg).getD .non) (by lia) hD3 ha1 ?_ ?_⟩
  ·intro i x H' R' hxi sm kk
   rw [getElem?_map] at hxi
   obtain ⟨j,ej,rfl⟩:=Option.map_eq_some_iff.mp hxi
   obtain ⟨t,eu,et⟩:=cX.get rk.at' ej
   rw [eu] at kk
   obtain ⟨o2,om,og,op,ey,h1,_,_,_⟩:=iE ity et
   have sm':=s1.trans sm
   exact ⟨fK,(),na,_,_,(),rfl,af.of (sm' _ _ hna),rfl,(),ta,_,_,(),rfl,af.of (sm' _ _ hta),cq ey,o2,_,_,(),rfl,af.of (sm' _ _ h1),rfl,kk H' (ag.refl _)⟩
  intro H3 s3 hB
  rw [mapE] at hB
  refine nA3 _ _ ?_
  have s03:=s1.trans s3
  obtain ⟨us',t,eus⟩:=xt (us:=us) (fun e=>by rw [e,length_nil] at lR;lia)
  obtain ⟨R',j2,eR⟩:=xt (us:=R) (fun e=>by rw [e] at two;simp at two)
  have et:ts[j2]?=some t:=by
   have:=rk.at'
   rw [eR,eus,map_append,map_append] at this
   have:=(List.append_inj_right' this rfl)
   simpa using this
  obtain ⟨o3,om3,og3,op3,ey3,h13,_,_,_⟩:=iE ity et
  have elast:gB (bf R) (-1)=some (V.int (j2:Int)):=by
   rw [eR,show bf (R'++[j2])=bf R'++[V.int (j2:Int)] by simp [bf]]
   exact zt _ _
  obtain ⟨t0,r0,e0⟩:aT fun t0 r0=>us=t0 :: r0:=by
   cases us with
   | nil=>rw [length_nil] at lR;lia
   | cons t0 r0=>exact ⟨t0,r0,rfl⟩
  have hend:t.en=t0.bg:=by
   have:=congrArg List.getLast? rk.rot
   rw [eus,map_append,List.getLast?_append] at this
   rw [←eus,e0] at this
   simp at this
   exact this
  refine ⟨(),na,_,_,(),rfl,af.of (s03 _ _ hna),rfl,(),1,rfl,a,_,_,(),rfl,aq.of (s03 _ _ ha),elast,ta,_,_,(),rfl,af.of (s03 _ _ hta),cq ey3,o3,_,_,(),rfl,af.of (s03 _ _ h13),rfl,(),D3,_,_,(),rfl,aq.of hB,(cq (j:=0) (by rw [e0];rfl):gB ((us.map (·.bg)).map au) ((0:Nat):Int)=some (au t0.bg)),rfl,(),?_⟩
  rw [decide_eq_true (by rw [hend])]
  refine cf ⟨(),D3,(us.map (·.bg)).map fun l=>(Sum.inr (S l):aI),rfl,.inl (aq.of (by rw [Cs];exact hB)),by rw [length_map,length_map];lia,(),D3,(),.inl (aq.of hB),rfl,?_⟩
  have e1:(iB ((us.map (·.bg)).map fun l=>(Sum.inr (S l):aI))).length=((us.map (·.bg)).map au).length:=by
   rw [(wM _).mpr (mL rk.nd)];simp
  rw [e1,decide_eq_true rfl]
  exact k H3 s03
end
end K15
namespace K15
open PySem L2
set_option maxHeartbeats 4000000
def PF (c:Nat) (H:Hp) (x:V):Prop:=aT fun o f=>x=.ref o∧H o=some (fr f)∧Gb c c f∧1≤f.1
theorem PF.tup {c:Nat}{H H':Hp}{x:V} (h:PF c H x) (k:∀a us,H a=some (.tup us)→H' a=some (.tup us)):PF c H' x:=by
 obtain ⟨o,f,e1,e2,e3,e4⟩:=h
 exact ⟨o,f,e1,k _ _ e2,e3,e4⟩
section
variable {P:Program}{w:World}{K:Frag}{mg:Str→Option Value}{base:Heap}
theorem wO (T:Txt K mg):aQ P w K mg base CX0 4 T.gain_of_.f T.gain_of_.d ["net", "way"] Lc:=by
 have G_times:=#[(rA)]
 refine T.gain_of_.F.ok mT (fun vs H Q E h=>?_) (fun cdv A outer s H vs Q E hr h=>?_)
 ·obtain ⟨v,a,ls,ts,R,us,rfl,_⟩:=h
  rfl
 ·obtain ⟨v,a,ls,ts,R,us,rfl,hv,tc,ha,hR,l12,k⟩:=h
  obtain ⟨na,pa,ta,ys,rfl,hna,hpa,hta,ity⟩:=bU hv
  have lR:R.length=us.length:=by have:=congrArg length hR;simpa using this
  refine ⟨_,#[#[2,mT.nd,iR,#[ar 5 #[[#[()],#[()]]]]] :: #[#[dX 8 PassesOwn.never rfl (@eZ _ (K) _ _ _ #[1,yX] (by rfl)) #[3,mT.nd,nL] #[ac 3 #[2,mT.nd,iR,#[G_times,xc,T.times_,#[[#[2,iR],#[#[#[#[0,yU][#[()]]][#[3,nL]]][#[()]]]]]]]] (by intro _;rfl)] :: #[ac 3 #[am 4 #[2,iR]]]]],?_⟩
  refine bt fun Q1 nA1=>⟨(by show 2≤10000;decide),fun o0 H1 n1=>nA1 _ _ ?_⟩
  refine ba fun DB nB=>?_
  refine ⟨(),a,rfl,⟨_,aq.of (n1.sm _ _ ha)⟩,qQ (xs:=bf R) (fun j σ H'=>eF fun (o:Addr) (v3:Option V) (g:KM.Fra)=>σ=[some (.ref na),some (.ref a),some (.ref o),v3]∧ag H H'∧H' o=some (fr g)∧Gb (1+6*j) (1+6*j) g∧KM.Rd g∧KM.vl g=aR (us.take j)) ⟨o0,_,(1,1),rfl,n1.sm,n1.at',Ab,⟨by ext,by ext⟩,by show KM.vl (1,1)=1;decide +kernel⟩ ?_ ?_ ?_⟩
  ·rintro j σ H' _ ⟨_,_,_,_,sm,_⟩
   exact aq.of (sm _ _ ha)
  ·rintro j x σ J hx ⟨o,v3,g,rfl,sm,ho,gg,rg,eg⟩
   rw [getElem?_map] at hx
   obtain ⟨i,ei,rfl⟩:=Option.map_eq_some_iff.mp hx
   obtain ⟨t,eu,et⟩:=cX.get hR ei
   have tt:=tc t (mem_of_getElem? et)
   have lj:j<R.length:=(List.getElem?_eq_some_iff.mp ei).1
   obtain ⟨o2,om,og,op,ey,h1,h2,h3,h4⟩:=iE ity et
   obtain ⟨g1,g2⟩:=gz gg (by lia) (by lia)
   obtain ⟨e1,e2⟩:=gz tt.fg (by ext) (by ext)
   refine ⟨(),(),na,_,_,(),rfl,af.of (sm _ _ hna),rfl,(),ta,_,_,(),rfl,af.of (sm _ _ hta),cq ey,o2,_,_,(),rfl,af.of (sm _ _ h1),rfl,o,og,_,_,_,(),ho,sm _ _ h3,⟨g1,g2,e1,e2,gd gg tt.fg⟩,fun q J2 n2=>?_⟩
   refine ⟨q,_,KM.lTim g t.gain,rfl,sm.trans n2.sm,n2.at',gg.tim tt.fg (by lia) (by lia),KM.Rd.low (Int.ne_of_gt (mul_pos (by have:=rg.1;lia) (by have:=tt.fg.pos;lia))),?_⟩
   rw [List.take_succ,eu]
   show _=aR (us.take j++[t])
   rw [BM,←eg]
   exact KM.vl_tim (by have:=gg.pos;lia) (by have:=tt.fg.pos;lia)
  ·rintro σ J ⟨o,v3,g,rfl,sm,ho,gg,rg,eg⟩
   rw [show (bf R).length=us.length by rw [length_map];exact lR] at gg eg
   rw [take_length] at eg
   exact nB _ _ ⟨(),k g o J (gg.mono (by lia) (by lia)) rg eg sm ho⟩
inductive Gj (vs:List V) (H:Hp) (Q:VK):Prop
 | mk (v:V) (a m:Addr) (ls:List (List Nat)) (ts:List aa) (R:List Nat) (us:List aa) (h0:vs=[v,.ref a,.ref m]) (h1:aU ED H v (bX ls ts)) (h2:(∀t∈ts,dL ls t)) (h3:H a=some (.lst (bf R))) (h4:H m=some (fr (1,1))) (h5:R.map (fun k=>ts[k]?)=us.map some) (h6:R.length≤12) (h7:∀(D:Addr) (xs:List V) (H':Hp),ag H H'→H' D=some (.lst xs)→xs.length=R.length→(∀x∈xs,PF 80 H' x)→Q (.ref D) H')
def HZ:Sp:=fun vs H Q _=>Gj  vs H Q
theorem BS (T:Txt K mg):aQ P w K mg base CX0 4 T.goes_on_.f T.goes_on_.d ["net", "way", "much"] HZ:=by
 have G_times:=#[(rA)]
 refine T.goes_on_.F.ok mX (fun vs H Q E h=>?_) (fun cdv A outer s H vs Q E hr h=>?_)
 ·obtain ⟨v,a,m,ls,ts,R,us,rfl,_⟩:=h
  rfl
 ·obtain ⟨v,a,m,ls,ts,R,us,rfl,hv,tc,ha,hm,hR,l12,k⟩:=h
  obtain ⟨na,pa,ta,ys,rfl,hna,hpa,hta,ity⟩:=bU hv
  refine ⟨_,#[#[3,mX.nd,kR,#[cP 4 (@cC _)]] :: #[#[dX 8 PassesOwn.never rfl (@eZ _ (K) _ _ _ #[1,yV] (by rfl)) #[4,mX.nd,oA] #[#[f8 4 (@gX _ (K) _ _ _ _ _ _ _ _ _ _ _ PySem.F.plainAttrs_list PySem.F.slot_list_append PySem.F.type_list_append (@gI _) #[3,kR] #[[#[2,kT]]] (by rfl) (by rfl) (by rfl) (by rfl) (by rfl) (by rfl)) (by rfl)] :: #[ac 3 #[2,mX.nd,kT,#[G_times,wR,T.times_,#[[#[2,kT],#[#[#[#[0,yI][#[()]]][#[4,oA]]][#[()]]]]]]]]] (by intro _;rfl)] :: #[ac 3 #[am 4 #[3,kR]]]]],?_⟩
  refine bt fun Q1 nA1=>⟨zero_le _,fun D H1 n1=>nA1 _ _ ?_⟩
  refine ba fun DB nB=>?_
  refine ⟨(),a,rfl,⟨_,aq.of (n1.sm _ _ ha)⟩,qQ (xs:=bf R) (fun j σ H'=>pc fun (o:Addr) (v4:Option V) (g:KM.Fra) (xs:List V)=>σ=[some (.ref na),some (.ref a),some (.ref o),some (.ref D),v4]∧ag H H'∧H' D=some (.lst xs)∧xs.length=j∧(∀x∈xs,PF 80 H' x)∧H' o=some (fr g)∧Gb (1+6*j) (1+6*j) g∧1≤g.1) ⟨m,_,(1,1),[],rfl,n1.sm,n1.at',rfl,(fun x hx=>by cases hx),n1.sm _ _ hm,Ab,by ext⟩ ?_ ?_ ?_⟩
  ·rintro j σ H' _ ⟨_,_,_,_,_,sm,_⟩
   exact aq.of (sm _ _ ha)
  ·rintro j x σ J hx ⟨o,v4,g,xs,rfl,sm,hD,lx,px,ho,gg,g1⟩
   rw [getElem?_map] at hx
   obtain ⟨i,ei,rfl⟩:=Option.map_eq_some_iff.mp hx
   obtain ⟨t,eu,et⟩:=cX.get hR ei
   have tt:=tc t (mem_of_getElem? et)
   have lj:j<R.length:=(List.getElem?_eq_some_iff.mp ei).1
   obtain ⟨o2,om,og,op,ey,h1,h2,h3,h4⟩:=iE ity et
   obtain ⟨q1,q2⟩:=gz gg (by lia) (by lia)
   obtain ⟨e1,e2⟩:=gz tt.fg (by ext) (by ext)
   refine pA (t:=kN _ _) fun DC nC=>?_
   refine ba fun DE nE=>⟨(),.inl ⟨rfl,_,aq.of hD⟩,(),D,_,(),rfl,hD,by lia,fun J2 c2=>nE _ _ ?_⟩
   have fD:H D=none:=n1.fr
   have s2:ag H J2:=fun a u h=>c2.ol a u (fun z=>by rw [z,fD] at h;cases h) (sm _ _ h)
   have t2:∀a us,J a=some (.tup us)→J2 a=some (.tup us):=fun a us h=>c2.tup h hD
   have ho2:=t2 _ _ ho
   refine ⟨(),(),na,_,_,(),rfl,af.of (s2 _ _ hna),rfl,(),ta,_,_,(),rfl,af.of (s2 _ _ hta),cq ey,o2,_,_,(),rfl,af.of (s2 _ _ h1),rfl,o,og,_,_,_,(),ho2,s2 _ _ h3,⟨q1,q2,e1,e2,gd gg tt.fg⟩,fun q J3 n3=>nC _ _ ?_⟩
   refine ⟨q,_,KM.lTim g t.gain,xs++[.ref o],rfl,s2.trans n3.sm,n3.sm _ _ c2.at',by rw [length_append,lx];rfl,fun x hx=>?_,n3.at',gg.tim tt.fg (by lia) (by lia),qA g1 gg.pos tt.g1 tt.fg.pos⟩
   rcases List.mem_append.mp hx with z | z
   ·exact (px x z).tup fun a us h=>n3.sm _ _ (t2 _ _ h)
   ·rw [List.mem_singleton.mp z]
    exact ⟨o,g,rfl,n3.sm _ _ ho2,gg.mono (by lia) (by lia),g1⟩
  ·rintro σ J ⟨o,v4,g,xs,rfl,sm,hD,lx,px,ho,gg,g1⟩
   exact nB _ _ ⟨(),k D xs J sm hD (by rw [lx,length_map]) px⟩
inductive Jd (vs:List V) (H:Hp) (Q:VK):Prop
 | mk (a:Addr) (xs:List V) (h0:vs=[.ref a]) (h1:H a=some (.lst xs)) (h2:xs.length≤12) (h3:xs≠[]) (h4:(∀x∈xs,PF 200 H x)) (h5:∀x H',PF 200 H' x→ag H H'→Q x H')
def JW:Sp:=fun vs H Q _=>Jd  vs H Q
theorem EH (T:Txt K mg):aQ P w K mg base CX0 2 T.least_.f T.least_.d ["parts"] JW:=by
 have G_compared:=#[(pP)]
 refine T.least_.F.ok qW (fun vs H Q E h=>?_) (fun cdv A outer s H vs Q E hr h=>?_)
 ·obtain ⟨a,xs,rfl,_⟩:=h
  rfl
 ·obtain ⟨a,xs,rfl,ha,l12,ne,px,k⟩:=h
  refine ⟨_,#[#[1,qW.nd,jU,#[#[0,sh][#[()]]!]] :: #[#[dX 8 PassesOwn.never rfl (@eZ _ (K) _ _ _ #[0,sh] (by rfl)) #[2,qW.nd,oh] #[ac 3 #[bd 8 #[aA 8 (@lB _) #[G_compared,vt,T.compared_,#[[#[2,oh],#[1,jU]]]] #[()] #[(),()]] #[ac 3 #[1,qW.nd,jU,#[2,oh]]] (@aJ _)]] (by intro _;rfl)] :: #[ac 3 #[am 4 #[1,jU]]]]],?_⟩
  obtain ⟨x0,r0,e0⟩:aT fun x0 r0=>xs=x0 :: r0:=by
   cases xs with
   | nil=>exact absurd rfl ne
   | cons x r=>exact ⟨x,r,rfl⟩
  refine bt fun Q1 nA1=>⟨(),a,_,_,(),rfl,aq.of ha,(cq (j:=0) (by rw [e0];rfl):gB xs ((0:Nat):Int)=some x0),nA1 _ _ ?_⟩
  refine ba fun DB nB=>?_
  refine ⟨(),a,rfl,⟨_,aq.of ha⟩,qQ (xs:=xs) (fun j σ H'=>aT fun (x:V) (v2:Option V)=>σ=[some (.ref a),some x,v2]∧PF 200 H x∧ag H H') ⟨x0,(),px x0 (by rw [e0];simp),ag.refl _⟩ ?_ ?_ ?_⟩
  ·rintro j σ H' _ ⟨_,_,_,_,sm⟩
   exact aq.of (sm _ _ ha)
  ·rintro j y σ J hy ⟨x,v2,rfl,⟨o,f,rfl,ho,gf,f1⟩,sm⟩
   obtain ⟨o',f',rfl,ho',gf',f1'⟩:=px y (mem_of_getElem? hy)
   obtain ⟨q1,q2⟩:=gz gf (by ext) (by ext)
   obtain ⟨q3,q4⟩:=gz gf' (by ext) (by ext)
   refine ⟨(),(),o',o,_,_,_,(),sm _ _ ho',sm _ _ ho,q3,q4,q1,q2,_,(),rfl,(),ma (fun _=>⟨(),?_⟩) (fun _=>?_)⟩
   ·exact ⟨.ref o',(),⟨o',f',rfl,ho',gf',f1'⟩,sm⟩
   ·exact ⟨.ref o,(),⟨o,f,rfl,ho,gf,f1⟩,sm⟩
  ·rintro σ J ⟨x,v2,rfl,pf,sm⟩
   exact nB _ _ ⟨(),k x J (pf.tup fun a us h=>sm _ _ h) sm⟩
inductive Gc (vs:List V) (H:Hp) (Q:VK):Prop
 | mk (v:V) (a:Addr) (ls:List (List Nat)) (ts:List aa) (R:List Nat) (us:List aa) (h0:vs=[v,.ref a]) (h1:aU ED H v (bX ls ts)) (h2:(∀t∈ts,dL ls t)) (h3:H a=some (.lst (bf R))) (h4:R.map (fun k=>ts[k]?)=us.map some) (h5:(∀t∈us,t.most≠(0,1))) (h6:R≠[]) (h7:R.length≤12) (h8:∀x H',PF 200 H' x→ag H H'→Q x H')
def Hr:Sp:=fun vs H Q _=>Gc  vs H Q
theorem Bt (T:Txt K mg):aQ P w K mg base CX0 5 T.room_of_.f T.room_of_.d ["net", "way"] Hr:=by
 have G_goes_on:=#[(BS)]
 have G_least:=#[(EH)]
 have G_over:=#[(GX)]
 refine T.room_of_.F.ok xp (fun vs H Q E h=>?_) (fun cdv A outer s H vs Q E hr h=>?_)
 ·obtain ⟨v,a,ls,ts,R,us,rfl,_⟩:=h
  rfl
 ·obtain ⟨v,a,ls,ts,R,us,rfl,hv,tc,ha,hR,hop,ne,l12,k⟩:=h
  obtain ⟨na,pa,ta,ys,rfl,hna,hpa,hta,ity⟩:=bU hv
  have lN:(bf R).length=R.length:=length_map ..
  refine ⟨_,#[#[2,xp.nd,nN,#[G_goes_on,uV,T.goes_on_,#[[#[0,(yK)],#[1,rZ],#[ar 5 #[[#[()],#[()]]]]]]]] :: #[ac 3 #[am 4 #[G_least,xg,T.least_,#[[#[ci 7 (["number", "share", "net"]) (2) ([0]) _ _ _ _ rfl (by kernel_rfl) (@vG _ (K) _ _ _ _ _ _ _ _ yH T.b_zip #[[#[1,rZ],#[2,nN]]] (by rfl) (by rfl) (by rfl)) (fun _ _ _ _ _ _=>(@cx _ (K) _ _ _ _ (2) rfl #[aC 5 #[0,(),()] #[aC 5 #[1,(),()] (@cF _) (by rfl)] (by rfl)] (by rfl) (by rfl) (by rfl))) (fun _ _ _ _ _ _=>@bM _) (fun _ _ _ _ _ _=>#[G_over,(),T.over_,#[[#[#[#[#[2,0][#[()]]][#[0,()]]][#[()]]],#[1,()]]]]) (by intro _;rfl)]]]]]]],?_⟩
  refine bt fun Q1 nA1=>⟨(),(),(by show 2≤10000;decide),fun m H1 n1=>⟨.ref na,a,m,ls,ts,R,us,rfl,hv.mono n1.sm.toE,tc,n1.sm _ _ ha,n1.at',hR,l12,fun S2 xs H2 s2 hS lx px=>nA1 _ _ ?_⟩⟩
  have s02:=n1.sm.trans s2
  have ha2:=s02 _ _ ha
  have mn:min (bf R).length xs.length=R.length:=by rw [lN,lx,Nat.min_self]
  refine ⟨(),(),a,S2,true,true,rfl,⟨_,aq.of ha2⟩,⟨_,aq.of hS⟩,fun D hD=>gv (n:=min (bf R).length xs.length) (fun i H' zs=>H' D=some (.lst zs)∧zs.length=i∧(∀x∈zs,PF 200 H' x)∧ag H2 H') (gE (by lia)) ⟨ao,rfl,(fun x hx=>by cases hx),ag.new hD⟩ ?_ ?_ ?_ ?_ ?_⟩
  ·rintro i H' zs ⟨e1,e2,_⟩
   exact ⟨e1,by lia⟩
  ·rintro i H' zs hi ⟨_,_,_,sm⟩
   exact ⟨bf R,xs,(bf R)[i]'(by lia),xs[i]'(by lia),aq.of (sm _ _ ha2),aq.of (sm _ _ hS),by rw [getElem?_eq_getElem (by lia)],by rw [getElem?_eq_getElem (by lia)]⟩
  ·rintro H' zs ⟨_,_,_,sm⟩
   exact ⟨bf R,xs,aq.of (sm _ _ ha2),aq.of (sm _ _ hS),by lia⟩
  ·rintro i Ha zs v Hb hi ⟨eD,lz,pz,sm⟩ ⟨T2,x,y,hT,rfl,rfl,e1,e2⟩
   have st:=ag.new (o:=.tup [x,y]) hT
   have e1':=e1 _ (aq.of (sm _ _ ha2))
   have e2':=e2 _ (aq.of (sm _ _ hS))
   rw [getElem?_map] at e1'
   obtain ⟨j,ej,rfl⟩:=Option.map_eq_some_iff.mp e1'
   obtain ⟨t,eu,et⟩:=cX.get hR ej
   have tt:=tc t (mem_of_getElem? et)
   obtain ⟨o,f,rfl,ho,gf,f1⟩:=px y (mem_of_getElem? e2')
   obtain ⟨o2,om,og,op,ey,h1,h2,h3,h4⟩:=iE ity et
   have smb:=sm.trans st
   have s0b:=s02.trans smb
   obtain ⟨q1,q2⟩:=gz tt.fm (by ext) (by ext)
   obtain ⟨q3,q4⟩:=gz gf (by ext) (by ext)
   have mp:1≤t.most.1:=(As tt).mpr (hop t (mem_of_getElem? eu))
   have mq:=tt.fm.pos
   refine ⟨T2,(),af.of ao,rfl,_,(),_,(),rfl,Cg,(),na,_,_,(),rfl,af.of (s0b _ _ hna),rfl,(),ta,_,_,(),rfl,af.of (s0b _ _ hta),cq ey,o2,_,_,(),rfl,af.of (s0b _ _ h1),rfl,(),om,o,_,_,_,(),s0b _ _ h2,smb _ _ ho,⟨q1,q2,q3,q4,mul_ne_zero (by lia) (by lia)⟩,fun q J2 n2=>?_⟩
   have sJ:=st.trans n2.sm
   have eD2:=sJ _ _ eD
   have c':Ch J2 D (zs++[.ref q]) (aE J2 D (.lst (zs++[.ref q]))):=Ch.mk'
   have g9:Gb 200 200 (cu t.most f):=(tt.fm.ovr gf f1 (e:=100) (f:=83) (by ext) (by ext)).mono (by ext) (by ext)
   refine ⟨eD2,ao,by rw [length_append,lz];rfl,fun x hx=>?_,dC hD (sm.trans sJ)⟩
   rcases List.mem_append.mp hx with z | z
   ·exact (pz x z).tup fun a us h=>c'.tup (sJ _ _ h) eD2
   ·rw [List.mem_singleton.mp z]
    exact ⟨q,cu t.most f,rfl,c'.tup n2.at' eD2,g9,AX mp mq f1 gf.pos⟩
  ·rintro H' zs ⟨eD,lz,pz,sm⟩
   rw [mn] at lz
   exact ⟨D,zs,rfl,eD,by lia,(fun z=>by rw [z] at lz;cases R with | nil=>exact ne rfl | cons _ _=>simp at lz),pz,fun x H4 pf s4=>k x H4 pf ((s02.trans sm).trans s4)⟩
end
end K15
namespace K15
open PySem L2
section
variable {P:Program}{w:World}{K:Frag}{mg:Str→Option Value}{base:Heap}
theorem Fd {l:List Addr} (h:l.Nodup) {i j:Nat}{c d:Addr} (hi:l[i]?=some c) (hj:l[j]?=some d) (n:i≠j):c≠d:=fun z=>by
 obtain ⟨h1,e1⟩:=List.getElem?_eq_some_iff.mp hi
 obtain ⟨h2,e2⟩:=List.getElem?_eq_some_iff.mp hj
 have pw:=List.pairwise_iff_getElem.mp h
 rcases Nat.lt_or_gt_of_ne n with q | q
 ·exact pw i j h1 h2 q (by rw [e1,e2,z])
 ·exact pw j i h2 h1 q (by rw [e1,e2,z])
theorem iW (T:Txt K mg) {j:Nat}{d:Addr} (hj:(yZ T)[j]?=some d) (n:j≠8):kitOne K (.ref T.x_Gaining) (.ref d)=some false:=by
 have h8:(yZ T)[8]?=some T.x_Gaining:=rfl
 rw [(zj T.kn (mem_of_getElem? h8)).2.2.2 d (mem_of_getElem? hj),decide_eq_false (Fd (EF T.kn) h8 hj (Ne.symm n))]
def wd:Nat→Str
 | 0 => "worths"
 | 1 => "gain"
 | _ => "way"
inductive F5 (g:Addr) (vs:List V) (H:Hp) (Q:VK):Prop
 | mk (b:Nat) (v:V) (ls:List (List Nat)) (ts:List aa) (lb le:List Nat) (h0:vs=[.str (wd b),v,au lb,au le]) (h1:b<3) (h2:aU ED H v (bX ls ts)) (h3:(∀t∈ts,dL ls t)) (h4:ts.length≤24) (h5:1≤ls.length) (h6:ls.length≤10) (h7:lb∈ls) (h8:(∀m,m<ls.length→(aW ts (m+1)).lf≠none)) (h9:∀(R:List Nat) (us:List aa) (r tp:Addr) (H':Hp),cX ts R us→R.length≤10→ag H H'→H r=none→H' tp=some (.tup [.str "refused",.ref r])→H' r=some (.lst (bf R))→Q (.ref tp) H')
def IE (g:Addr):Sp:=fun vs H Q _=>F5 g vs H Q
theorem yW (T:Txt K mg):aQ P w K mg base CX0 8 T.l_all_told_.f T.l_all_told_.d ["_law_which", "_law_net", "_law_begin", "_law_end"] (IE T.x_Gaining):=by
 have G_holding_worths:=#[(je)]
 have G_greatest_gain:=#[(jr)]
 have G_best_way:=#[(vi)]
 refine T.l_all_told_.F.ok bV (fun vs H Q E h=>?_) (fun cdv A outer s H vs Q E hr h=>?_)
 ·obtain ⟨b,v,ls,ts,lb,le,rfl,_⟩:=h
  rfl
 ·obtain ⟨b,v,ls,ts,lb,le,rfl,b3,hv,tc,h24,l1,l10,hb,hno,k⟩:=h
  refine ⟨_,#[#[gc 6 #[ar 5 #[[#[cj 3],#[cj 3]]]] (@cx _ (K) _ _ _ _ (2) rfl #[aC 5 #[4,bV.nd,cA] #[aC 5 #[5,bV.nd,bF] (@cF _) (by rfl)] (by rfl)] (by rfl) (by rfl) (by rfl)) (by rfl) (by rfl) (by rfl)] :: #[#[Jl 12 (6) rfl rfl bV.nd rfl lH pN T.m_GainError (fun EE pn xe hx=>#[ac 3 #[bd 8 #[aA 8 (@fi _) #[0,jM] #[dJ 4] #[(),()]] #[ac 3 #[4,bV.nd,cA,#[v0 14 G_holding_worths (hr.mono (by ext)) lG T.holding_worths_.m T.holding_worths_.F.kp T.holding_worths_.B hx #[[#[1,iG]]] (by ext) (by rfl) (by rfl)]]] #[ac 3 #[bd 8 #[aA 8 (@fi _) #[0,jM] #[dJ 4] #[(),()]] #[ac 3 #[4,bV.nd,cA,#[v0 14 G_greatest_gain (hr.mono (by ext)) mh T.greatest_gain_.m T.greatest_gain_.F.kp T.greatest_gain_.B hx #[[#[1,iG],#[2,jO],#[3,lQ]]] (by ext) (by rfl) (by rfl)]]] #[ac 3 #[4,bV.nd,cA,#[v0 14 G_best_way (hr.mono (by ext)) qe T.best_way_.m T.best_way_.F.kp T.best_way_.B hx #[[#[1,iG],#[2,jO],#[3,lQ]]] (by ext) (by rfl) (by rfl)]]]]]]]) (fun _=>#[ac 3 #[5,bV.nd,bF,#[6,lH]]]) (by ext)] :: #[#[bd 8 #[aA 8 (@qa _) #[5,bF] #[cj 3] #[(),()]] #[ac 3 #[am 4 #[ar 5 #[[#[dJ 4],#[4,cA]]]]]] (@aJ _)] :: #[#[7,bV.nd,dq,#[(),(),(@sj _ (K) (by rfl)),cK,T.b_isinstance,(@bG),#[[#[5,bF],#[ar 5 #[[#[fj 4 pO T.m_BadNumber (by ext)],#[fj 4 tD T.m_Taken (by ext)],#[fj 4 qL T.m_NoPlace (by ext)],#[fj 4 tx T.m_NoTie (by ext)],#[fj 4 sB T.m_AsItIs (by ext)],#[fj 4 sQ T.m_NoEnds (by ext)],#[fj 4 vd T.m_Over (by ext)],#[fj 4 rQ T.m_TooMuch (by ext)],#[fj 4 pL T.m_NotSoMuch (by ext)],#[fj 4 uo T.m_Short (by ext)]]]]]]]] :: #[#[7,bV.nd,dq,#[FE 7 #[7,dq] #[l7 5 #[(),(),(@sj _ (K) (by rfl)),cK,T.b_isinstance,(@bG),#[[#[5,bF],#[ar 5 #[[#[fj 4 qS T.m_Lacking (by ext)],#[fj 4 sw T.m_BadRow (by ext)],#[fj 4 qm T.m_BadSheet (by ext)]]]]]]]]]] :: #[#[bd 8 #[PW.pt 3 #[iY 7 #[bQ 3 #[7,dq] (by intro _;rfl)] #[iY 7 #[da 4 #[bQ 3 #[(),(),(@tO _ (K) (by rfl)),cK,T.b_isinstance,(@bG),#[[#[5,bF],#[fj 4 qM T.m_Gaining (by ext)]]]] (by intro _;rfl)]] #[iH 4 #[da 4 #[bQ 3 #[(),(),(@tO _ (K) (by rfl)),cK,T.b_isinstance,(@bG),#[[#[5,bF],#[rn 4 oU T.b_ValueError (@uw) (by ext) (by ext)]]]] (by intro _;rfl)]]]]]] #[ac 3 #[am 4 #[ar 5 #[[#[dJ 4],#[cj 3]]]]]] (@aJ _)] :: #[ac 3 #[am 4 #[ar 5 #[[#[dJ 4],(@C7 _ (K) _ _ _ _ #[5,bF] (by rfl) (by rfl))]]]]]]]]]]],?_⟩
  refine ba fun D0 n0=>⟨(by show 2≤10000;decide),fun t0 H0 m0=>⟨t0,(),af.of m0.at',rfl,_,(),_,(),rfl,n0 _ _ ?_⟩⟩
  refine ba fun DA nA=>?_
  refine ⟨(),rfl,(),?_⟩
  have hv0:=hv.mono m0.sm.toE
  have b012:b=0∨b=1∨b=2:=by lia
  rcases b012 with rfl | rfl | rfl
  case' inl=>
   rw [show decide (V.str (wd 0)=V.str "worths")=true by nofun]
   refine cf ⟨(),v,ls,ts,rfl,hv0,tc,h24,l1,l10,.inr ⟨hno,fun R us a dx r H1 ok hR s1 ha hdx fr1 hr1=>?_⟩⟩
  case' inr.inl=>
   rw [show decide (V.str (wd 1)=V.str "worths")=false by nofun]
   refine aX ⟨(),rfl,(),?_⟩
   rw [show decide (V.str (wd 1)=V.str "gain")=true by nofun]
   refine cf ⟨(),(),(),v,ls,ts,lb,le,rfl,hv0,tc,h24,l1,l10,hb,.inr ⟨hno,fun R us a dx r H1 ok hR s1 ha hdx fr1 hr1=>?_⟩⟩
  case' inr.inr=>
   rw [show decide (V.str (wd 2)=V.str "worths")=false by nofun]
   refine aX ⟨(),rfl,(),?_⟩
   rw [show decide (V.str (wd 2)=V.str "gain")=false by nofun]
   refine aX ⟨(),(),(),v,ls,ts,lb,le,rfl,hv0,tc,h24,l1,l10,hb,.inr ⟨hno,fun R us a dx r H1 ok hR s1 ha hdx fr1 hr1=>?_⟩⟩
  all_goals
   intro a' C' eC ha'
   cases eC
   refine ⟨T.em_Gaining_GainError,⟨(),nA _ _ ?_⟩⟩
   have h8:(yZ T)[8]?=some T.x_Gaining:=rfl
   obtain ⟨q1,q2,q3,q4⟩:=zj T.kn (mem_of_getElem? h8)
   have q8:kitOne K (.ref T.x_Gaining) (.ref T.x_Gaining)=some true:=by rw [q4 _ (mem_of_getElem? h8)];simp
   refine ba fun DB nB=>⟨(),rfl,(),aX (nB _ _ ?_)⟩
   refine bt fun Q3 n3=>⟨(),(by show 10≤10000;decide),fun tq H2 m2=>⟨a',T.x_Gaining,dx,tq,_,[.ref T.x_BadNumber,.ref T.x_Taken,.ref T.x_NoPlace,.ref T.x_NoTie,.ref T.x_AsItIs,.ref T.x_NoEnds,.ref T.x_Over,.ref T.x_TooMuch,.ref T.x_NotSoMuch,.ref T.x_Short],false,rfl,⟨m2.sm _ _ ha',_,m2.sm _ _ hdx⟩,m2.at',rfl,q1,tX fun c hc=>?_,n3 _ _ ?_⟩⟩
   ·have hc':c=.ref T.x_BadNumber∨c=.ref T.x_Taken∨c=.ref T.x_NoPlace∨c=.ref T.x_NoTie∨c=.ref T.x_AsItIs∨c=.ref T.x_NoEnds∨c=.ref T.x_Over∨c=.ref T.x_TooMuch∨c=.ref T.x_NotSoMuch∨c=.ref T.x_Short:=by simpa using hc
    rcases hc' with rfl | rfl | rfl | rfl | rfl | rfl | rfl | rfl | rfl | rfl
    ·exact iW T (j:=0) rfl (by ext)
    ·exact iW T (j:=1) rfl (by ext)
    ·exact iW T (j:=2) rfl (by ext)
    ·exact iW T (j:=3) rfl (by ext)
    ·exact iW T (j:=4) rfl (by ext)
    ·exact iW T (j:=5) rfl (by ext)
    ·exact iW T (j:=6) rfl (by ext)
    ·exact iW T (j:=7) rfl (by ext)
    ·exact iW T (j:=9) rfl (by ext)
    ·exact iW T (j:=10) rfl (by ext)
   refine bt fun Q4 n4=>⟨(),(),aX ⟨(),(by show 3≤10000;decide),fun tq2 H3 m3=>⟨a',T.x_Gaining,dx,tq2,_,[.ref T.x_Lacking,.ref T.x_BadRow,.ref T.x_BadSheet],false,rfl,⟨m3.sm _ _ (m2.sm _ _ ha'),_,m3.sm _ _ (m2.sm _ _ hdx)⟩,m3.at',rfl,q1,tX fun c hc=>?_,n4 _ _ ?_⟩⟩⟩
   ·have hc':c=.ref T.x_Lacking∨c=.ref T.x_BadRow∨c=.ref T.x_BadSheet:=by simpa using hc
    rcases hc' with rfl | rfl | rfl
    ·exact iW T (j:=11) rfl (by ext)
    ·exact iW T (j:=12) rfl (by ext)
    ·exact iW T (j:=13) rfl (by ext)
   have S3:=m2.sm.trans m3.sm
   have ha3:=S3 _ _ ha'
   have hd3:=S3 _ _ hdx
   refine ba fun DC nC=>⟨(),(),aX ⟨(),a',T.x_Gaining,dx,_,_,true,rfl,⟨ha3,_,hd3⟩,rfl,q1,q8,(),aX ⟨(),a',T.x_Gaining,dx,_,_,true,rfl,⟨ha3,_,hd3⟩,rfl,q1,q3,(),aX (nC _ _ ?_)⟩⟩⟩
   refine ⟨(),a',T.x_Gaining,dx,_,(),ha3,hd3,MA,T.fd_Gaining,(by show 2≤10000;decide),fun tp H4 m4=>?_⟩
   exact k R us r tp H4 ok hR (((m0.sm.trans s1).trans S3).trans m4.sm) (m0.sm.free fr1) m4.at' (m4.sm _ _ (S3 _ _ hr1))
end
end K15
namespace K15
open PySem L2
set_option maxHeartbeats 4000000
theorem Bi {ls:List (List Nat)} (h:1≤ls.length):aT fun f l=>f∈ls∧l∈ls∧gB (ls.map au) ((0:Nat):Int)=some (au f)∧gB (ls.map au) (-1)=some (au l)∧(2≤ls.length→ls.Nodup→f≠l):=by
 cases ls with
 | nil=>simp at h
 | cons f r=>
  obtain ⟨r',l,e⟩:=xt (us:=f :: r) (by simp)
  refine ⟨f,l,by simp,by rw [e];simp,cq (j:=0) rfl,by rw [e,map_append];exact zt _ _,fun l2 nd z=>?_⟩
  cases r' with
  | nil=>
   have:r=[]:=(by simpa using e:f=l∧r=[]).2
   rw [this] at l2
   simp at l2
  | cons g r2=>
   have e2:f=g∧r=r2++[l]:=by simpa using e
   have:=(List.nodup_cons.mp nd).1
   rw [e2.2,z] at this
   simp at this
section
variable {P:Program}{w:World}{K:Frag}{mg:Str→Option Value}{base:Heap}
inductive Kl (vs:List V) (H:Hp) (Q:VK):Prop
 | mk (v:V) (ls:List (List Nat)) (ts:List aa) (h0:vs=[v]) (h1:aU ED H v (bX ls ts)) (h2:(∀t∈ts,dL ls t)) (h3:ts.length≤24) (h4:1≤ls.length) (h5:ls.length≤10) (h6:(∀m,m<ls.length→(aW ts (m+1)).lf≠none)) (h7:∀H':Hp,ag H H'→Q (.bl true) H')
def L6:Sp:=fun vs H Q _=>Kl  vs H Q
theorem tE (T:Txt K mg):aQ P w K mg base CX0 9 T.l_refused_alike_.f T.l_refused_alike_.d ["_law_net"] L6:=by
 have G_l_all_told:=#[(yW)]
 have G_is_round:=#[(AG)]
 have G_gain_of:=#[(wO)]
 have G_l_above:=#[(rj)]
 refine T.l_refused_alike_.F.ok df (fun vs H Q E h=>?_) (fun cdv A outer s H vs Q E hr h=>?_)
 ·obtain ⟨v,ls,ts,rfl,_⟩:=h
  rfl
 ·obtain ⟨v,ls,ts,rfl,hv,tc,h24,l1,l10,hno,k⟩:=h
  obtain ⟨na,pa,ta,ys,rfl,hna,hpa,hta,ity⟩:=bU hv
  obtain ⟨lb,le,hlb,hle,e0,e9,_⟩:=Bi l1
  refine ⟨_,#[#[l6 2 (1) (2) _ _ _ _ _ _ _ _ _ _ _ rfl df.nd rfl rfl (by ext) io gT #[[#[#[#[0,(bZ)][#[()]]][#[()]]],#[#[#[0,(bZ)][#[()]]][#[uL 6 (@pZ _) #[()]]]]]] (by kernel_rfl) (by rfl)] :: #[#[dX 8 PassesOwn.never rfl (@dE _ (K) _ _ _ #[ar 5 #[[#[dJ 4],#[dJ 4],#[dJ 4]]]] (by rfl)) #[3,df.nd,ij] #[#[gc 6 #[G_l_all_told,kU,T.l_all_told_,#[[#[3,ij],#[0,(bZ)],#[1,io],#[2,gT]]]] (@cx _ (K) _ _ _ _ (2) rfl #[aC 5 #[4,df.nd,iz] #[aC 5 #[5,df.nd,cB] (@cF _) (by rfl)] (by rfl)] (by rfl) (by rfl) (by rfl)) (by rfl) (by rfl) (by rfl)] :: #[#[bd 8 #[PW.pt 3 #[iY 7 #[aA 8 (@o8 _) #[4,iz] #[dJ 4] #[(),()]] #[iY 7 #[da 4 #[bQ 3 #[G_is_round,mv,T.is_round_,#[[#[0,(bZ)],#[5,cB]]]] (by intro _;rfl)]] #[iH 4 #[aA 8 (@y8 _) #[G_l_above,mW,T.l_above_,#[[#[G_gain_of,m9,T.gain_of_,#[[#[0,(bZ)],#[5,cB]]]],#[ar 5 #[[#[()],#[()]]]]]]] #[()] #[(),()]]]]]] #[ac 3 #[am 4 #[cM 4]]] (@aJ _)] :: #[ac 3 #[bd 8 #[da 4 #[bQ 3 #[(),(),(@xf _ (K) rfl (by rfl)),qz,T.b_all,(@ki),#[[#[ci 7 (["_law_number", "_law_net"]) (1) ([0]) _ _ _ _ rfl (by kernel_rfl) (@eZ _ (K) _ _ _ #[5,cB] (by rfl)) (fun _ _ _ _ _ _=>#[0,(),()]) (fun _ _ _ _ _ _=>@bM _) (fun _ _ _ _ _ _=>#[bS 8 (@lD _) #[#[#[#[#[1,0][#[()]]][#[0,()]]][#[()]]][#[()]]] #[()] #[(),()]]) (by intro _;rfl)]]]] (by intro _;rfl)]] #[ac 3 #[am 4 #[cM 4]]] (@aJ _)]]]] (by intro _;rfl)] :: #[ac 3 #[am 4 #[cM 4]]]]],?_⟩
  refine ba fun DA nA=>⟨(),na,_,_,(),rfl,af.of hna,rfl,pa,_,_,(),rfl,af.of hpa,e0,(),na,_,_,(),rfl,af.of hna,rfl,1,rfl,pa,_,_,(),rfl,af.of hpa,e9,_,(),nA _ _ ?_⟩
  refine ba fun DB nB=>⟨(by show 3≤10000;decide),fun TT H1 n1=>⟨TT,rfl,⟨_,af.of n1.at'⟩,pY (xs:=[.str "worths",.str "gain",.str "way"]) (fun j σ H'=>eF fun (v3 v4 v5:Option V)=>σ=[some (.ref na),some (au lb),some (au le),v3,v4,v5]∧ag H1 H') ⟨_,_,(),ag.refl _⟩ ?_ ?_ ?_⟩⟩
  ·rintro j σ H' _ ⟨_,_,_,_,sm⟩
   exact af.of (sm _ _ n1.at')
  rotate_left
  ·rintro σ H' ⟨_,_,_,rfl,sm⟩
   exact nB _ _ (k H' (n1.sm.trans sm))
  rintro j x σ J hx ⟨v3,v4,v5,rfl,sm⟩
  have j3:j<3:=(List.getElem?_eq_some_iff.mp hx).1
  obtain rfl:x=.str (wd j):=by
   have b012:j=0∨j=1∨j=2:=by lia
   rcases b012 with rfl | rfl | rfl <;> exact (Option.some.inj hx).symm
  have s0:=n1.sm.trans sm
  refine pA (t:=kN _ _) fun DC nC=>?_
  refine ba fun DD nD=>⟨(),(),(),(),j,.ref na,ls,ts,lb,le,rfl,j3,hv.mono s0.toE,tc,h24,l1,l10,hlb,hno,fun R us r tp H2 rk lR s2 f2 htp hr2=>⟨tp,(),af.of htp,rfl,_,(),_,(),rfl,nD _ _ ?_⟩⟩
  have s02:=s0.trans s2
  refine ba fun DE nE=>⟨(),rfl,(),?_⟩
  rw [show (!decide (V.str ("refused" : Str)=V.str "refused"))=false by simp]
  refine aX ⟨(),(),.ref na,r,ls,ts,R,us,rfl,hv.mono s02.toE,hr2,rk,lR,fun H3 s3=>⟨(),aX ?_⟩⟩
  have s03:=s02.trans s3
  refine ⟨(),(),.ref na,r,ls,ts,R,us,rfl,hv.mono s03.toE,tc,s3 _ _ hr2,rk.at',by lia,fun g q H4 gg rg eg s4 hq=>⟨(by show 2≤10000;decide),fun q2 H5 n5=>⟨q,q2,g,(1,1),rfl,n5.sm _ _ hq,n5.at',gg.n.mono (by ext),gg.d.mono (by ext),Lq,Lq,_,(),rfl,(),?_⟩⟩⟩
  have gt:¬g.1*1 - 1*g.2≤0:=by
   have:=rk.gain
   rw [←eg,show (1:Rat)=KM.vl (1,1) by nofun,lY (by ext) gg.pos] at this
   have t2:(1:Int)*g.2<g.1*1:=this
   lia
  rw [decide_eq_false gt]
  refine aX (nE _ _ ?_)
  have s35:=(s3.trans s4).trans n5.sm
  have s05:=s02.trans s35
  have hr5:=s35 _ _ hr2
  refine ⟨(),r,rfl,⟨_,aq.of hr5⟩,fun D hD=>lK (xs:=bf R) (fun _=>.bl true) (by rw [length_map];lia) hD hr5 ?_ ?_⟩
  ·intro i x H' R' hxi sm' kk
   rw [getElem?_map] at hxi
   obtain ⟨j',ej,rfl⟩:=Option.map_eq_some_iff.mp hxi
   obtain ⟨t,eu,et⟩:=cX.get rk.at' ej
   obtain ⟨o2,om,og,op,ey,h1,h2,_,_⟩:=iE ity et
   have s6:=s05.trans sm'
   refine ⟨fK,(),na,_,_,(),rfl,af.of (s6 _ _ hna),rfl,(),ta,_,_,(),rfl,af.of (s6 _ _ hta),cq ey,o2,_,_,(),rfl,af.of (s6 _ _ h1),rfl,om,_,_,(),rfl,af.of (s6 _ _ h2),rfl,_,(),rfl,?_⟩
   show R' (.bl (decide _)) _
   rw [decide_eq_true ((As (tc t (mem_of_getElem? et))).mpr (rk.op t (mem_of_getElem? eu)))]
   exact kk H' (ag.refl _)
  intro H6 s6 hD6
  rw [BE,show ∀n,replicate n (V.bl true)=(replicate n true).map V.bl from fun n=>by rw [map_replicate]] at hD6
  refine ⟨D,(),aq.of hD6,(),?_⟩
  rw [show ∀n,(replicate n true).all id=true from fun n=>by simp]
  exact aX (nC _ _ ⟨_,_,(),((sm.trans s2).trans s35).trans s6⟩)
end
end K15
namespace K15
open PySem L2
set_option maxHeartbeats 4000000
theorem wt (p:KM.Fra):PyData.eqv (gh p) (gh p)=true:=by simp [PyData.eqv,PyData.eqvAll]
structure wT (H:Hp) (r:Addr) (xs:List V) (ls:List (List Nat)) (ω:tV):Prop where
 at':H r=some (.lst xs)
 len:xs.length=ls.length
 v:∀(j:Nat) l,ls[j]?=some l→∃o,xs[j]?=some (.ref o)∧H o=some (fr (ω l))
 g:∀l∈ls,Gb 1500 1500 (ω l)∧1≤(ω l).1
theorem wT.sm {H H':Hp}{r:Addr}{xs:List V}{ls:List (List Nat)}{ω:tV} (h:wT H r xs ls ω) (s:ag H H'):wT H' r xs ls ω:=⟨s _ _ h.at',h.len,fun j l e=>let ⟨o,a,b⟩:=h.v j l e;⟨o,a,s _ _ b⟩,h.g⟩
section
variable {P:Program}{w:World}{K:Frag}{mg:Str→Option Value}{base:Heap}
inductive Kz (vs:List V) (H:Hp) (Q:VK):Prop
 | mk (v:V) (r:Addr) (xs:List V) (ls:List (List Nat)) (ts:List aa) (mx:Nat) (h0:vs=[v,.ref r]) (h1:aU ED H v (bX ls ts)) (h2:(∀t∈ts,dL ls t)) (h3:ts.length≤24) (h4:1≤ls.length) (h5:ls.length≤10) (h6:ls.Nodup) (h7:mx<ls.length) (h8:(aW ts (mx+1)).lf=none) (h9:wT H r xs ls (aW ts mx).ω) (h10:∀H':Hp,ag H H'→Q (.bl true) H')
def LE:Sp:=fun vs H Q _=>Kz  vs H Q
theorem vI (T:Txt K mg):aQ P w K mg base CX0 8 T.l_pairs_right_.f T.l_pairs_right_.d ["_law_net", "_law_worths"] LE:=by
 have G_greatest_gain:=#[(jr)]
 have G_best_way:=#[(vi)]
 have G_l_product:=#[(ka)]
 have G_l_above:=#[(rj)]
 have G_is_way:=#[(yp)]
 have G_gain_of:=#[(wO)]
 have G_room_of:=#[(Bt)]
 refine T.l_pairs_right_.F.ok cS (fun vs H Q E h=>?_) (fun cdv A outer s H vs Q E hr h=>?_)
 ·obtain ⟨v,r,xs,ls,ts,mx,rfl,_⟩:=h
  rfl
 ·obtain ⟨v,r,xs,ls,ts,mx,rfl,hv,tc,h24,l1,l10,nd,hmx,emx,tl,k⟩:=h
  obtain ⟨na,pa,ta,ys,rfl,hna,hpa,hta,ity⟩:=bU hv
  have tk:∀t∈ts,bp ls t:=fun t ht=>(tc t ht).tok
  have pot:=oy tk emx
  refine ⟨_,#[#[2,cS.nd,eO,(@wP _ (K) _ _ _ _ _ _ _ rfl rW T.b_dict su T.b_zip #[[#[#[0,bD][#[()]]],#[1,nO]]] (by rfl) (by rfl) (by rfl) (by rfl))] :: #[#[dX 8 PassesOwn.never rfl (@dE _ (K) _ _ _ #[#[0,bD][#[()]]] (by rfl)) #[3,cS.nd,bY] #[ac 3 #[dX 8 PassesOwn.never rfl (@dE _ (K) _ _ _ #[#[0,bD][#[()]]] (by rfl)) #[4,cS.nd,cp] #[#[5,cS.nd,cY,#[fA 8 #[aA 8 (@o8 _) #[3,bY] #[4,cp] #[(),()]] #[dU 16 G_greatest_gain (hr.mono (by ext)) kB T.greatest_gain_.m T.greatest_gain_.F.kp T.greatest_gain_.B .nil #[pi 3] #[[#[0,bD],#[3,bY],#[4,cp]]] (by ext) (by rfl) (by rfl)] #[cj 3]]] :: #[ac 3 #[bd 8 #[aA 8 (@nj _) #[5,cY] #[cj 3] #[(),()]] #[#[6,cS.nd,dv,#[dU 16 G_best_way (hr.mono (by ext)) oC T.best_way_.m T.best_way_.F.kp T.best_way_.B .nil #[pi 3] #[[#[0,bD],#[3,bY],#[4,cp]]] (by ext) (by rfl) (by rfl)]] :: #[#[bd 8 #[PW.pt 3 #[iY 7 #[aA 8 (@lD _) #[G_l_above,oO,T.l_above_,#[[#[G_l_product,mO,T.l_product_,#[[#[5,cY],#[bP 7 (@cm _) #[2,eO] #[4,cp] (fun _ _=>rfl)]]]],#[bP 7 (@cm _) #[2,eO] #[3,bY] (fun _ _=>rfl)]]]] #[()] #[(),()]] #[iH 4 #[da 4 #[bQ 3 #[G_is_way,pQ,T.is_way_,#[[#[0,bD],#[6,dv]]]] (by intro _;rfl)]]]]] #[ac 3 #[am 4 #[cM 4]]] (@aJ _)] :: #[ac 3 #[bd 8 #[PW.pt 3 #[iY 7 #[aA 8 (@Dq _ hr.units) #[G_gain_of,oN,T.gain_of_,#[[#[0,bD],#[6,dv]]]] #[5,cY] #[(),()]] #[iH 4 #[aA 8 (@y8 _) #[#[G_room_of,oM,T.room_of_,#[[#[0,bD],#[6,dv]]]][#[()]]] #[()] #[(),()]]]]] #[ac 3 #[am 4 #[cM 4]]] (@aJ _)]]]] (@aJ _)]]] (by intro _;rfl)]] (by intro _;rfl)] :: #[ac 3 #[am 4 #[cM 4]]]]],?_⟩
  refine bt fun Q3 nA3=>⟨(),na,_,_,(),rfl,af.of hna,rfl,(),pa,r,false,true,ls.map fun l=>(Sum.inr (S l):aI),xs,rfl,?_,aq.of tl.at',by rw [length_map,tl.len],mL nd,by rw [length_map];lia,fun W H2 n2=>nA3 _ _ ?_⟩
  ·rw [Cs];exact af.of hpa
  have s2:=n2.sm
  have wh:Wh H2 W ls (aW ts mx).ω 1500:=⟨⟨_,n2.at',fun l hl=>by
   obtain ⟨j,hj⟩:=getElem?_of_mem hl
   obtain ⟨o,e1,e2⟩:=tl.v j l hj
   exact ⟨o,kO (i:=j) (mL nd) (by rw [getElem?_map,hj];rfl) e1,s2 _ _ e2⟩⟩,tl.g⟩
  obtain ⟨⟨kvs,hW,vW⟩,gω⟩:=wh
  refine ba fun DA nA=>⟨(),na,_,_,(),rfl,af.of (s2 _ _ hna),rfl,pa,rfl,⟨_,af.of (s2 _ _ hpa)⟩,pY (xs:=ls.map au) (fun i σ H'=>pc fun (v3 v4 v5 v6:Option V)=>σ=[some (.ref na),some (.ref r),some (.ref W),v3,v4,v5,v6]∧ag H2 H') ⟨_,_,_,(),ag.refl _⟩ ?_ ?_ ?_⟩
  ·rintro i σ H' _ ⟨_,_,_,_,_,sm⟩
   exact af.of (sm _ _ (s2 _ _ hpa))
  rotate_left
  ·rintro σ H' ⟨_,_,_,_,rfl,sm⟩
   exact nA _ _ (k H' (s2.trans sm))
  rintro i x σ J hx ⟨v3,v4,v5,v6,rfl,sm⟩
  rw [getElem?_map] at hx
  obtain ⟨lb,elb,rfl⟩:=Option.map_eq_some_iff.mp hx
  have hlb:=mem_of_getElem? elb
  have sJ:=s2.trans sm
  refine pA (t:=IV _ _ _) fun DB nB=>⟨(),na,_,_,(),rfl,af.of (sJ _ _ hna),rfl,pa,rfl,⟨_,af.of (sJ _ _ hpa)⟩,pY (xs:=ls.map au) (fun i σ H'=>eF fun (v4 v5 v6:Option V)=>σ=[some (.ref na),some (.ref r),some (.ref W),some (au lb),v4,v5,v6]∧ag H2 H') ⟨_,_,(),sm⟩ ?_ ?_ ?_⟩
  ·rintro i σ H' _ ⟨_,_,_,_,sm⟩
   exact af.of (sm _ _ (s2 _ _ hpa))
  rotate_left
  ·rintro σ H' ⟨_,_,_,rfl,sm⟩
   exact nB _ _ ⟨_,_,_,(),sm⟩
  rintro i2 x σ G hx2 ⟨v4',v5',v6',rfl,smG⟩
  rw [getElem?_map] at hx2
  obtain ⟨le,ele,rfl⟩:=Option.map_eq_some_iff.mp hx2
  have hle:=mem_of_getElem? ele
  have sG:=s2.trans smG
  obtain ⟨tm,FN⟩:=wH le tk l10 emx
  refine pA (t:=kN _ _) fun DC nC=>?_
  have done:∀{G':Hp}{x5 x6:Option V},ag G G'→DC.nx [some (.ref na),some (.ref r),some (.ref W),some (au lb),some (au le),x5,x6] G':=fun s=>nC _ _ ⟨_,_,(),smG.trans s⟩
  refine bt fun Q5 n5=>⟨(),(),rfl,(),?_⟩
  by_cases c:lb=le
  ·rw [c,show (!decide (au le=au le))=false by simp]
   exact aX (n5 _ _ ⟨(),rfl,(),aX (done (ag.refl _))⟩)
  have q:(!decide (au lb=au le))=true:=by
   rw [decide_eq_false]
   ·rfl
   ·intro z
    injection z with z
    exact c (rX z)
  rw [q]
  refine cf ⟨(),(),(),.ref na,ls,ts,lb,le,rfl,hv.mono sG.toE,tc,h24,l1,l10,hlb,.inl ⟨mx,hmx,emx,fun G1 s1=>⟨fun w o e ho gb=>n5 _ _ ?_,fun e=>n5 _ _ ⟨(),rfl,(),aX (done s1)⟩⟩⟩⟩
  obtain ⟨R0,us,fo0,ok,ch,pe,_⟩:=FN.way tk _ lb w (lt_succ_self _) hlb e
  have une:us≠[]:=fun z=>by
   rw [z] at ch
   have:le=lb:=by simpa using ch
   exact c this.symm
  have lR0:R0.length=us.length:=by have:=congrArg length ok.at';simpa using this
  have lR:R0.length≤9:=by
   have:=pB (xs:=lb :: us.map (·.en)) (ys:=ls) ok.nd ok.sub
   simp only [length_cons,length_map] at this
   lia
  refine ⟨(),rfl,(),cf ?_⟩
  have sG1:=sG.trans s1
  refine bt fun Q6 n6=>⟨(),(),(),.ref na,ls,ts,lb,le,rfl,hv.mono sG1.toE,tc,h24,l1,l10,hlb,.inl ⟨mx,hmx,emx,fun G2 t2=>⟨fun w' R r2 e' fo f2 hr2=>n6 _ _ ?_,(fun z=>by rw [e] at z;cases z)⟩⟩⟩
  obtain rfl:=fo0.uniq fo
  have s12:=s1.trans t2
  have sG2:=sG.trans s12
  have smG2:=smG.trans s12
  have ho2:=t2 _ _ ho
  obtain ⟨oe,ve,hoe⟩:=vW le hle
  obtain ⟨ob,vb,hob⟩:=vW lb hlb
  obtain ⟨ge,pe1⟩:=gω le hle
  obtain ⟨gb2,pb1⟩:=gω lb hlb
  have hW2:=smG2 _ _ hW
  refine ba fun DE nE=>⟨(),(),(),W,kvs,Sum.inr (S le),.ref oe,rfl,rfl,hW2,ve,o,oe,w,(aW ts mx).ω le,_,_,_,(),ho2,smG2 _ _ hoe,gb,ge,by ext,by ext,by ext,by ext,(fun z=>by cases z),fun q3 G3 n3=>?_⟩
  have gq:Gb 3000 3000 (KM.lTim w ((aW ts mx).ω le)):=gb.tim ge (by ext) (by ext)
  refine ⟨(),(),W,kvs,Sum.inr (S lb),.ref ob,rfl,rfl,n3.sm _ _ hW2,vb,q3,ob,_,(aW ts mx).ω lb,rfl,n3.at',n3.sm _ _ (smG2 _ _ hob),gq.n.mono (by ext),gq.d.mono (by ext),gb2.n.mono (by ext),gb2.d.mono (by ext),_,(),rfl,(),?_⟩
  have le':(KM.lTim w ((aW ts mx).ω le)).1*((aW ts mx).ω lb).2≤((aW ts mx).ω lb).1*(KM.lTim w ((aW ts mx).ω le)).2:=by
   have q1:=zH tk pot (yY (fun x hx=>⟨ok.mem hx,ok.op x hx⟩) ch)
   rw [pe] at q1
   have e1:KM.vl (KM.lTim w ((aW ts mx).ω le))=KM.vl w*KM.vl ((aW ts mx).ω le):=KM.vl_tim (by have:=gb.pos;lia) (by have:=ge.pos;lia)
   rw [←e1] at q1
   exact (uh gq.pos gb2.pos).mp q1
  rw [decide_eq_false (by lia)]
  have s13:=s12.trans n3.sm
  have sG3:=sG.trans s13
  refine aX ⟨(),(),.ref na,r2,ls,ts,R,us,rfl,hv.mono sG3.toE,n3.sm _ _ hr2,.of_way ok ch,by lia,fun G4 s4=>⟨(),aX (nE _ _ ?_)⟩⟩
  have s14:=s13.trans s4
  have sG4:=sG.trans s14
  have hr4:=s4 _ _ (n3.sm _ _ hr2)
  refine ⟨(),(),.ref na,r2,ls,ts,R,us,rfl,hv.mono sG4.toE,tc,hr4,ok.at',by lia,fun g q4 G5 gg rg eg s5 hq4=>?_⟩
  have eg':g=w:=rg.eq (FN.pv.pos lb w e).2 (eg.trans pe)
  subst eg'
  refine ⟨(),gh g,gh g,ED,ED,_,_,_,_,i8 hq4,i8 (s5 _ _ (s4 _ _ (n3.sm _ _ ho2))),vC gg (by ext) (by ext),vC gg (by ext) (by ext),by ext,(),?_⟩
  rw [wt]
  have s15:=s14.trans s5
  refine aX ⟨(),(),.ref na,r2,ls,ts,R,us,rfl,hv.mono (sG.trans s15).toE,tc,s5 _ _ hr4,ok.at',ok.op,(fun z=>by rw [z] at lR0;cases us with | nil=>exact une rfl | cons _ _=>simp at lR0),by lia,fun x G6 pf s6=>?_⟩
  obtain ⟨o6,f6,rfl,ho6,gf6,f16⟩:=pf
  refine ⟨o6,_,_,(),rfl,af.of ho6,rfl,_,(),rfl,(),?_⟩
  rw [decide_eq_false (by lia)]
  exact aX (done (s15.trans s6))
end
end K15
namespace K15
open PySem L2
set_option maxHeartbeats 8000000
theorem oZ {E:Addr→Prop}{H:Hp}:∀{xs ys:List V}{ds es:List PyData},ay E H xs ds→ay E H ys es→ay E H (xs++ys) (ds++es)
 | _,_,_,_,.nil,h=>h
 | _,_,_,_,.cons a r,h=>.cons a (oZ r h)
theorem rH {E:Addr→Prop}{H:Hp}:∀(n:Nat) {xs:List V}{ds:List PyData},ay E H xs ds→ay E H (xs.take n) (ds.take n)
 | 0,_,_,_=>.nil
 | _+1,_,_,.nil=>.nil
 | n+1,_,_,.cons a r=>.cons a (rH n r)
theorem qK {E:Addr→Prop}{H:Hp}:∀(n:Nat) {xs:List V}{ds:List PyData},ay E H xs ds→ay E H (xs.drop n) (ds.drop n)
 | 0,_,_,h=>h
 | _+1,_,_,.nil=>.nil
 | n+1,_,_,.cons _ r=>qK n r
theorem EM {xs:List V}{n:Nat} (h:n≤xs.length):dW xs (some ((n:Nat):Int)) none=xs.drop n:=by
 unfold dW
 rw [HT.sIx_none,HT.sIx_nat,Nat.min_eq_left h,take_of_length_le (by rw [length_drop];lia)]
theorem wS {xs:List V}{n:Nat}:dW xs none (some ((n:Nat):Int))=xs.take n:=by
 rw [o7 (by lia)];rfl
def zw (t:aa):aa:={ t with most:=(0,1) }
theorem CD {E:Addr→Prop}{H:Hp}{ω:tV}:∀{ls:List (List Nat)}{xs:List V},xs.length=ls.length→(∀(j:Nat) l,ls[j]?=some l→∃o,xs[j]?=some (.ref o)∧H o=some (fr (ω l)))→ay E H xs ((ls.map ω).map gh):=by
 intro ls
 induction ls with
 | nil=>
  intro xs e _
  cases xs with
  | nil=>exact .nil
  | cons _ _=>cases e
 | cons l r ih=>
  intro xs e h
  cases xs with
  | nil=>cases e
  | cons x ys=>
   obtain ⟨o,e1,e2⟩:=h 0 l rfl
   obtain rfl:x=.ref o:=Option.some.inj e1
   exact .cons (i8 (p:=ω l) e2).any (ih (by simpa using e) fun j l' e'=>h (j+1) l' e')
theorem A8:∀(ps:List KM.Fra),PyData.eqvAll (ps.map gh) (ps.map gh)=true
 | []=>by simp [PyData.eqvAll]
 | p :: r=>by
  rw [map_cons,PyData.eqvAll,A8 r,wt];rfl
theorem Dc {ls:List (List Nat)}{ω:tV} (h:∀l∈ls,Gb 1500 1500 (ω l)∧1≤(ω l).1):Wt (.list ((ls.map ω).map gh)) (3*(ls.map ω).length+1) 2:=.list (Bb fun p hp=>by
 obtain ⟨l,hl,rfl⟩:=List.mem_map.mp hp
 exact vC (h l hl).1 (by ext) (by ext))
structure FL (ls:List (List Nat)) (ts ts':List aa):Prop where
 tc:∀t∈ts',dL ls t
 len:ts'.length≤24
 sub:∀t∈ts',t.most≠(0,1)→t∈ts
abbrev mV (ls:List (List Nat)) (ts:List aa):Prop:=∃m,m<ls.length∧(aW ts (m+1)).lf=none
section
variable {P:Program}{w:World}{K:Frag}{mg:Str→Option Value}{base:Heap}
inductive Ig (vs:List V) (H:Hp) (Q:VK):Prop
 | mk (b:Addr) (t:Int) (v:V) (r:Addr) (xs:List V) (ls:List (List Nat)) (ts:List aa) (mx:Nat) (h0:vs=[.ref b,v,.ref r]) (h1:Bx H b t) (h2:0≤t) (h3:t≤900000) (h4:aU ED H v (bX ls ts)) (h5:(∀t∈ts,dL ls t)) (h6:1≤ts.length) (h7:ts.length≤24) (h8:1≤ls.length) (h9:ls.length≤10) (h10:(aW ts (mx+1)).lf=none) (h11:wT H r xs ls (aW ts mx).ω) (h12:¬r=b) (h13:∀(t':Int) (H':Hp),aK (Eb b) H H'→Bx H' b t'→t≤t'→t'≤t+1→Q (.bl true) H')
def JD:Sp:=fun vs H Q _=>Ig  vs H Q
theorem vP (T:Txt K mg):aQ P w K mg base CX0 8 T.l_fewer_right_.f T.l_fewer_right_.d ["_law_box_here", "_law_net", "_law_worths"] JD:=by
 have G_l_take:=#[(jH)]
 have G_gaining_round:=#[(jy)]
 have G_holding_worths:=#[(je)]
 have G_l_above:=#[(rj)]
 refine T.l_fewer_right_.F.ok dZ (fun vs H Q E h=>?_) (fun cdv A outer s H vs Q E hr h=>?_)
 ·obtain ⟨b,t,v,r,xs,ls,ts,mx,rfl,_⟩:=h
  rfl
 ·obtain ⟨b,t,v,r,xs,ls,ts,mx,rfl,B,t0,t9,hv,tc,n1',h24,l1,l10,emx,tl,nrb,k⟩:=h
  have tk:∀t∈ts,bp ls t:=fun t ht=>(tc t ht).tok
  have pot:=oy tk emx
  obtain ⟨na,pa,ta,ys,rfl,hna,hpa,hta,ity⟩:=bU hv
  have ly:ys.length=ts.length:=by rw [ity.length,length_map]
  refine ⟨_,#[#[3,dZ.nd,bI,#[G_l_take,pT,T.l_take_,#[[#[0,md],#[(),(),(@eG _ (K) (by rfl)),sP,T.b_len,(@bh),#[[#[#[1,aP][#[()]]]]]]]]]] :: #[#[4,dZ.nd,fU,#[#[#[1,aP][#[()]]][#[3,bI]]]] :: #[#[5,dZ.nd,fE,#[ar 5 #[[#[#[1,aP][#[()]]],#[ap 8 (@lq _) #[ap 8 (@lq _) #[cg 10 (@jF _ (K) (by rfl)) #[#[1,aP][#[()]]] (@dA _) #[cH 3 #[3,bI]]] #[ar 5 #[[#[ap 8 (@lq _) #[ap 8 (@lq _) #[cg 10 (@jF _ (K) (by rfl)) #[4,fU] (@dA _) #[cH 3 #[()]]] #[ar 5 #[[#[ar 5 #[[#[()],#[()]]]]]]]] #[cg 10 (@jF _ (K) (by rfl)) #[4,fU] #[cH 3 #[()]] (@dA _)]]]]]] #[cg 10 (@jF _ (K) (by rfl)) #[#[1,aP][#[()]]] #[cH 3 #[ap 8 (@bL _) #[3,bI] #[()]]] (@dA _)]]]]]] :: #[#[dX 8 PassesOwn.never rfl (@dE _ (K) _ _ _ #[ar 5 #[[#[5,fE],#[ar 5 #[[#[#[1,aP][#[()]]],#[ap 8 (@lq _) #[cg 10 (@jF _ (K) (by rfl)) #[#[1,aP][#[()]]] (@dA _) #[cH 3 #[3,bI]]] #[cg 10 (@jF _ (K) (by rfl)) #[#[1,aP][#[()]]] #[cH 3 #[ap 8 (@bL _) #[3,bI] #[()]]] (@dA _)]]]]]]]] (by rfl)) #[6,dZ.nd,eL] #[#[bd 8 #[aA 8 (@nj _) #[G_gaining_round,kA,T.gaining_round_,#[[#[6,eL]]]] #[cj 3] #[(),()]] #[ac 3 #[am 4 #[cM 4]]] (@aJ _)] :: #[ac 3 #[bd 8 #[bQ 3 #[(),(),(@Fz _ (K) rfl (by rfl)),sy,T.b_any,(@wI),#[[#[ci 7 (["_law_one", "_law_worth"]) (2) ([]) _ _ _ _ rfl (by kernel_rfl) (@vG _ (K) _ _ _ _ _ _ _ _ sW T.b_zip #[[#[dU 16 G_holding_worths (hr.mono (by ext)) cD T.holding_worths_.m T.holding_worths_.F.kp T.holding_worths_.B .nil #[pi 3] #[[#[6,eL]]] (by ext) (by rfl) (by rfl)],#[2,nV]]] (by rfl) (by rfl) (by rfl)) (fun _ _ _ _ _ _=>(@cx _ (K) _ _ _ _ (2) rfl #[aC 5 #[0,(),()] #[aC 5 #[1,(),()] (@cF _) (by rfl)] (by rfl)] (by rfl) (by rfl) (by rfl))) (fun _ _ _ _ _ _=>@bM _) (fun _ _ _ _ _ _=>#[bS 8 (@lD _) #[G_l_above,(),T.l_above_,#[[#[0,()],#[1,()]]]] #[()] #[(),()]]) (by intro _;rfl)]]]] (by intro _;rfl)] #[ac 3 #[am 4 #[cM 4]]] (@aJ _)]]] (by intro _;rfl)] :: #[ac 3 #[am 4 #[bS 8 (@Dg _ hr.units) #[dU 16 G_holding_worths (hr.mono (by ext)) cD T.holding_worths_.m T.holding_worths_.F.kp T.holding_worths_.B .nil #[pi 3] #[[#[5,fE]]] (by ext) (by rfl) (by rfl)] #[dU 16 G_holding_worths (hr.mono (by ext)) cD T.holding_worths_.m T.holding_worths_.F.kp T.holding_worths_.B .nil #[pi 3] #[[#[ar 5 #[[#[#[1,aP][#[()]]],#[ap 8 (@lq _) #[cg 10 (@jF _ (K) (by rfl)) #[#[1,aP][#[()]]] (@dA _) #[cH 3 #[3,bI]]] #[cg 10 (@jF _ (K) (by rfl)) #[#[1,aP][#[()]]] #[cH 3 #[ap 8 (@bL _) #[3,bI] #[()]]] (@dA _)]]]]]]] (by ext) (by rfl) (by rfl)] #[(),()]]]]]]]],?_⟩
  refine bt fun Q1 n1=>⟨(),(),na,_,_,(),rfl,af.of hna,rfl,ta,(),.inr (af.of hta),b,_,t,rfl,B,by lia,pF (by lia) (by lia),by lia,by lia,fun f t1 H1 f0 f1 h1a h1b s1 B1=>n1 _ _ ?_⟩
  obtain ⟨i,rfl⟩:∃i:Nat,f=(i:Int):=⟨f.toNat,by lia⟩
  have il:i<ts.length:=by lia
  have hna1:=s1.tup _ _ hna
  have hpa1:=s1.tup _ _ hpa
  have hta1:=s1.tup _ _ hta
  have hv1:aU ED H1 (.ref na) (bX ls ts):=hv.tupS (F:=ED) s1
  have ity1:ay ED H1 ys (ts.map jD):=ity.tupS s1
  have tl1:wT H1 r xs ls (aW ts mx).ω:=⟨s1.old r _ nrb tl.at',tl.len,fun j l e=>let ⟨o,a,c⟩:=tl.v j l e;⟨o,a,s1.tup _ _ c⟩,tl.g⟩
  have et:ts[i]?=some ts[i]:=getElem?_eq_getElem il
  obtain ⟨o2,om,og,op,ey,hto,hom,hog,hop⟩:=iE ity1 et
  generalize etd:ts[i]=td at et hto hom hog hop
  have tt:=tc td (mem_of_getElem? et)
  refine bt fun Q2 n2=>⟨(),na,_,_,(),rfl,af.of hna1,rfl,(),ta,_,_,(),rfl,af.of hta1,cq ey,n2 _ _ ?_⟩
  refine bt fun Q3 n3=>?_
  refine ⟨(),na,_,_,(),rfl,af.of hna1,rfl,(),na,_,_,(),rfl,af.of hna1,rfl,(),(),ta,(),af.of hta1,hta1,fun p1 J1 j1 h1=>?_⟩
  refine ⟨(),(),o2,(),af.of (j1 _ _ hto),j1 _ _ hto,fun p2 J2 j2 h2=>⟨(by show 2≤10000;decide),fun q3 J3 m3=>⟨(by show 1≤10000;decide),fun q4 J4 m4=>⟨p2,q4,_,(),rfl,m4.sm _ _ (m3.sm _ _ h2),m4.at',(by show 3≤10000;decide),fun p5 J5 j5 h5=>?_⟩⟩⟩⟩
  have s15:ag H1 J5:=(((j1.trans j2).trans m3.sm).trans m4.sm).trans j5
  refine ⟨(),(),o2,(),af.of (s15 _ _ hto),s15 _ _ hto,fun p6 J6 j6 h6=>⟨p5,p6,_,(),rfl,j6 _ _ h5,h6,(by show 5≤10000;decide),fun p7 J7 j7 h7=>⟨(by show 1≤10000;decide),fun q8 J8 m8=>?_⟩⟩⟩
  have s27:ag J1 J8:=(((((j2.trans m3.sm).trans m4.sm).trans j5).trans j6).trans j7).trans m8.sm
  have s18:ag H1 J8:=j1.trans s27
  refine ⟨p1,q8,_,(),rfl,s27 _ _ h1,m8.at',?_,fun p9 J9 j9 h9=>?_⟩
  ·rw [wS,length_take];show min i ys.length+1≤10000;lia
  have s19:=s18.trans j9
  refine ⟨(),na,_,_,(),rfl,af.of (s19 _ _ hna1),rfl,(),_,(),rfl,(),ta,(),af.of (s19 _ _ hta1),s19 _ _ hta1,fun p10 J10 j10 h10=>?_⟩
  have c1:dW ys (some ((i:Int)+1)) none=ys.drop (i+1):=EM (n:=i+1) (by lia)
  rw [c1] at h10
  rw [wS] at h9 h1
  refine ⟨p9,p10,_,(),rfl,j10 _ _ h9,h10,?_,fun p11 J11 j11 h11=>⟨(by show 2≤10000;decide),fun SH JS mS=>n3 _ _ ?_⟩⟩
  ·simp only [length_append,length_take,length_drop,length_cons,length_nil];lia
  have s1S:ag H1 JS:=((s19.trans j10).trans j11).trans mS.sm
  have h7S:JS p7=some (.tup [.str (S td.bg),.str (S td.en),.ref q3,.ref og,.ref op]):=mS.sm _ _ (j11 _ _ (j10 _ _ (j9 _ _ (m8.sm _ _ h7))))
  have h3S:JS q3=some (fr (0,1)):=mS.sm _ _ (j11 _ _ (j10 _ _ (j9 _ _ (m8.sm _ _ (j7 _ _ (j6 _ _ (j5 _ _ (m4.sm _ _ m3.at'))))))))
  have iS:aU ED JS (.ref SH) (bX ls (ts.take i++[zw td]++ts.drop (i+1))):=by
   refine .tup mS.at' (.cons (.tup (s1S _ _ hpa1) (tK ls)) (.cons (.tup (mS.sm _ _ h11) ?_) .nil))
   have it:=ity1.mono s1S.toE
   rw [map_append,map_append,map_take,map_drop]
   exact oZ (oZ (rH i it) (.cons (.tup h7S (.cons (.str _) (.cons (.str _) (.cons (i8 (p:=(0,1)) h3S) (.cons (i8 (s1S _ _ hog)) (.cons (i8 (s1S _ _ hop)) .nil)))))) .nil)) (qK (i+1) it)
  have fS:FL ls ts (ts.take i++[zw td]++ts.drop (i+1)):=by
   refine ⟨fun t ht=>?_,by simp only [length_append,length_take,length_drop,length_cons,length_nil];lia,fun t ht ho=>?_⟩
   ·rcases List.mem_append.mp ht with z | z
    ·rcases List.mem_append.mp z with z | z
     ·exact tc t (mem_of_mem_take z)
     ·rw [List.mem_singleton.mp z]
      exact ⟨tt.b,tt.e,tt.ne,Jt.mono (by ext) (by ext),tt.fg,tt.g1,tt.fp,by show (0:Int)≤0;decide,by show Int.gcd 0 1=1;decide⟩
    ·exact tc t (mem_of_mem_drop z)
   ·rcases List.mem_append.mp ht with z | z
    ·rcases List.mem_append.mp z with z | z
     ·exact mem_of_mem_take z
     ·rw [List.mem_singleton.mp z] at ho
      exact absurd rfl ho
    ·exact mem_of_mem_drop z
  have fL:FL ls ts (ts.take i++ts.drop (i+1)):=by
   refine ⟨fun t ht=>?_,by simp only [length_append,length_take,length_drop];lia,fun t ht ho=>?_⟩
   ·rcases List.mem_append.mp ht with z | z
    ·exact tc t (mem_of_mem_take z)
    ·exact tc t (mem_of_mem_drop z)
   ·rcases List.mem_append.mp ht with z | z
    ·exact mem_of_mem_take z
    ·exact mem_of_mem_drop z
  have iLO:∀{J:Hp}{LO p3:Addr},ag H1 J→J LO=some (.tup [.ref pa,.ref p3])→J p3=some (.tup (ys.take i++ys.drop (i+1)))→aU ED J (.ref LO) (bX ls (ts.take i++ts.drop (i+1))):=fun {J LO p3} sJ h h3=>by
   refine .tup h (.cons (.tup (sJ _ _ hpa1) (tK ls)) (.cons (.tup h3 ?_) .nil))
   have it:=ity1.mono sJ.toE
   rw [map_append,map_take,map_drop]
   exact oZ (rH i it) (qK (i+1) it)
  refine ba fun DA nA=>?_
  refine ⟨(),(),na,_,_,(),rfl,af.of (s1S _ _ hna1),rfl,(),na,_,_,(),rfl,af.of (s1S _ _ hna1),rfl,(),(),ta,(),af.of (s1S _ _ hta1),s1S _ _ hta1,fun u1 L1 k1 g1=>?_⟩
  have s1L:=s1S.trans k1
  refine ⟨(),na,_,_,(),rfl,af.of (s1L _ _ hna1),rfl,(),_,(),rfl,(),ta,(),af.of (s1L _ _ hta1),s1L _ _ hta1,fun u2 L2' k2 g2=>?_⟩
  rw [c1] at g2
  rw [wS] at g1
  refine ⟨u1,u2,_,(),rfl,k2 _ _ g1,g2,?_,fun u3 L3 k3 g3=>⟨(by show 2≤10000;decide),fun LO L4 m4'=>⟨(by show 2≤10000;decide),fun TT L5 m5=>?_⟩⟩⟩
  ·simp only [length_take,length_drop];lia
  have sS5:ag JS L5:=(((k1.trans k2).trans k3).trans m4'.sm).trans m5.sm
  have s15':ag H1 L5:=s1S.trans sS5
  have iS5:aU ED L5 (.ref SH) (bX ls (ts.take i++[zw td]++ts.drop (i+1))):=iS.mono sS5.toE
  have iL5:=iLO s15' (m5.sm _ _ m4'.at') (m5.sm _ _ (m4'.sm _ _ g3))
  have potR:∀{ts':List aa},FL ls ts ts'→∀{R us},cX ts' R us→False:=fun {ts'} F {R us} rk=>zv (fun t ht=>(F.tc t ht).tok) (pot.mono F.sub) rk
  refine ⟨TT,rfl,⟨_,af.of m5.at'⟩,pY (xs:=[.ref SH,.ref LO]) (fun j σ H'=>∃(v6:Option V),σ=[some (.ref b),some (.ref na),some (.ref r),some (.int (i:Int)),some (.ref o2),some (.ref SH),v6]∧ag L5 H'∧(1≤j→mV ls (ts.take i++[zw td]++ts.drop (i+1)))∧(2≤j→mV ls (ts.take i++ts.drop (i+1)))) ⟨(),ag.refl _,(fun z=>by lia),fun z=>by lia⟩ ?_ ?_ ?_⟩
  ·rintro j σ H' _ ⟨_,_,sm,_⟩
   exact af.of (sm _ _ m5.at')
  ·rintro j x σ G hx ⟨v6,rfl,sm,r1,r2⟩
   have j2':j<2:=(List.getElem?_eq_some_iff.mp hx).1
   obtain ⟨y,ts',rfl,iX,fX,post⟩:aT fun y ts'=>x=.ref y∧aU ED L5 (.ref y) (bX ls ts')∧FL ls ts ts'∧(mV ls ts'→(1≤j+1→mV ls (ts.take i++[zw td]++ts.drop (i+1)))∧(2≤j+1→mV ls (ts.take i++ts.drop (i+1)))):=by
    have j01:j=0∨j=1:=by lia
    rcases j01 with rfl | rfl
    ·exact ⟨SH,_,(Option.some.inj hx).symm,iS5,fS,fun q=>⟨fun _=>q,fun z=>by lia⟩⟩
    ·exact ⟨LO,_,(Option.some.inj hx).symm,iL5,fL,fun q=>⟨fun _=>r1 (le_refl _),fun _=>q⟩⟩
   have tk':∀t∈ts',bp ls t:=fun t ht=>(fX.tc t ht).tok
   refine pA (t:=kN _ _) fun DB nB=>?_
   refine ba fun DC nC=>⟨(),.ref y,ls,ts',rfl,iX.mono sm.toE,fX.tc,fX.len,l1,l10,?_⟩
   by_cases hm:mV ls ts'
   case neg=>exact .inr ⟨fun m h z=>hm ⟨m,h,z⟩,fun R us r' H' rk _ _ _ _=>(potR fX rk).elim⟩
   obtain ⟨m',hm',em'⟩:=hm
   refine .inl ⟨m',hm',em',fun G1 g1'=>⟨rfl,(),aX (nC _ _ ?_)⟩⟩
   have sm1:=sm.trans g1'
   refine ⟨(),.ref y,ls,ts',rfl,iX.mono sm1.toE,fX.tc,fX.len,l1,l10,.inl ⟨m',hm',em',fun m r2' xs2 G2 hm2 em2 g2' f2 hr2 lx2 vx2 gx2=>?_⟩⟩
   have tl2:wT G2 r xs ls (aW ts mx).ω:=tl1.sm ((s15'.trans sm1).trans g2')
   refine ⟨(),r2',r,true,true,rfl,⟨_,aq.of hr2⟩,⟨_,aq.of tl2.at'⟩,fun D hD=>yz (xs:=xs2) (ys:=xs) (fun _=>.bl false) ?_ hD (fun H' s=>aq.of (s _ _ hr2)) (fun H' s=>aq.of (s _ _ tl2.at')) ?_ ?_⟩
   ·rw [lx2,tl.len];lia
   ·intro j' x' y' H' R' hx' hy' s' kk
    have jl:j'<ls.length:=by rw [←lx2];exact (List.getElem?_eq_some_iff.mp hx').1
    have el:=getElem?_eq_getElem jl
    obtain ⟨oa,ea,ha⟩:=vx2 j' _ el
    obtain ⟨ob,eb,hb⟩:=tl2.v j' _ el
    rw [hx'] at ea
    rw [hy'] at eb
    cases ea
    cases eb
    have hl:=getElem_mem jl
    obtain ⟨ga,_⟩:=gx2 _ hl
    obtain ⟨gb,_⟩:=tl.g _ hl
    refine ⟨Cg,(),(),oa,ob,_,(),s' _ _ ha,s' _ _ hb,ga.n.mono (by ext),ga.d.mono (by ext),gb.n.mono (by ext),gb.d.mono (by ext),_,(),rfl,?_⟩
    show R' (.bl (decide _)) _
    have le:=(uh ga.pos gb.pos).mp (Ap (m':=m) tk tk' pot fX.sub ls[j'])
    rw [decide_eq_false (by lia)]
    exact kk H' (ag.refl _)
   ·intro G3 g3' hD3
    rw [BE,show ∀n,replicate n (V.bl false)=(replicate n false).map V.bl from fun n=>by rw [map_replicate]] at hD3
    refine ⟨D,(),aq.of hD3,(),?_⟩
    rw [show ∀n,(replicate n false).any id=false from fun n=>by simp]
    obtain ⟨p1',p2'⟩:=post ⟨m',hm',em'⟩
    exact aX (nB _ _ ⟨(),(sm1.trans g2').trans g3',p1',p2'⟩)
  ·rintro σ G ⟨v6,rfl,sm,r1,r2⟩
   refine nA _ _ ?_
   obtain ⟨mS',hmS,emS⟩:=r1 (by show 1≤2;decide)
   obtain ⟨mL',hmL,emL⟩:=r2 (by show 2≤2;decide)
   have s1G:=s15'.trans sm
   refine ⟨(),.ref SH,ls,(),iS5.mono sm.toE,fS.tc,fS.len,l1,l10,.inl ⟨mS',hmS,emS,fun m1 ra xa G1 hm1 em1 g1' fa hra lxa vxa gxa=>?_⟩⟩
   have s1G1:=s1G.trans g1'
   refine ⟨(),na,_,_,(),rfl,af.of (s1G1 _ _ hna1),rfl,(),na,_,_,(),rfl,af.of (s1G1 _ _ hna1),rfl,(),(),ta,(),af.of (s1G1 _ _ hta1),s1G1 _ _ hta1,fun w1 M1 e1 y1=>?_⟩
   have s1M:=s1G1.trans e1
   refine ⟨(),na,_,_,(),rfl,af.of (s1M _ _ hna1),rfl,(),_,(),rfl,(),ta,(),af.of (s1M _ _ hta1),s1M _ _ hta1,fun w2 M2 e2 y2=>?_⟩
   rw [c1] at y2
   rw [wS] at y1
   refine ⟨w1,w2,_,(),rfl,e2 _ _ y1,y2,?_,fun w3 M3 e3 y3=>⟨(by show 2≤10000;decide),fun LP M4 m4''=>?_⟩⟩
   ·simp only [length_take,length_drop];lia
   have sGM:ag G1 M4:=((e1.trans e2).trans e3).trans m4''.sm
   have s1M4:=s1G1.trans sGM
   refine ⟨.ref LP,ls,(),iLO s1M4 m4''.at' (m4''.sm _ _ y3),fL.tc,fL.len,l1,l10,.inl ⟨mL',hmL,emL,fun m2 rb xb N1 hm2 em2 n1'' fb hrb lxb vxb gxb=>?_⟩⟩
   have sGN:=sGM.trans n1''
   have eω:ls.map (aW (ts.take i++[zw td]++ts.drop (i+1)) m1).ω=ls.map (aW (ts.take i++ts.drop (i+1)) m2).ω:=by
    apply List.map_congr_left
    intro l hl
    have tkS:∀t∈ts.take i++[zw td]++ts.drop (i+1),bp ls t:=fun t ht=>(fS.tc t ht).tok
    have tkL:∀t∈ts.take i++ts.drop (i+1),bp ls t:=fun t ht=>(fL.tc t ht).tok
    refine (nq tkS m1 l).2.1.eq (nq tkL m2 l).2.1 (Rat.le_antisymm (Ap tkL tkS (oy tkL em2) (fun t ht ho=>?_) l) (Ap tkS tkL (oy tkS em1) (fun t ht _=>?_) l))
    ·rcases List.mem_append.mp ht with z | z
     ·rcases List.mem_append.mp z with z | z
      ·exact mem_append_left _ z
      ·rw [List.mem_singleton.mp z] at ho
       exact absurd rfl ho
     ·exact mem_append_right _ z
    ·rcases List.mem_append.mp ht with z | z
     ·exact mem_append_left _ (mem_append_left _ z)
     ·exact mem_append_right _ z
   refine ⟨_,_,fun _=>False,fun _=>False,_,_,_,_,.lst (sGN _ _ hra) id (CD lxa fun j l e=>let ⟨o,a,c⟩:=vxa j l e;⟨o,a,sGN _ _ c⟩),.lst hrb id (CD lxb vxb),Dc gxa,Dc gxb,by ext,?_⟩
   rw [eω]
   have e9:PyData.eqv (.list ((ls.map (aW (ts.take i++ts.drop (i+1)) m2).ω).map gh)) (.list ((ls.map (aW (ts.take i++ts.drop (i+1)) m2).ω).map gh))=true:=by
    simp only [PyData.eqv];exact A8 _
   rw [e9]
   have sN:=s1G1.trans sGN
   exact k t1 N1 (s1.trans sN.toE) (B1.same sN) h1a h1b
end
end K15
namespace K15
open PySem L2
set_option maxHeartbeats 8000000
abbrev K5 (z:KM.Fra):Prop:=1≤z.1∧z.1≤5∧1≤z.2∧z.2≤2
def A0:List (List Nat)→List KM.Fra→List Nat→KM.Fra
 | l :: ls,z :: zs,x=>if x=l then z else A0 ls zs x
 | [],_,_=>(1,1)
 | _ :: _,[],_=>(1,1)
theorem CW:∀{ls:List (List Nat)}{zs:List KM.Fra}{j:Nat}{l:List Nat}{z:KM.Fra},ls.Nodup→ls[j]?=some l→zs[j]?=some z→A0 ls zs l=z
 | [],_,_,_,_,_,e,_=>by simp at e
 | _ :: _,[],_,_,_,_,_,e=>by simp at e
 | l0 :: ls,z0 :: zs,0,l,z,_,e1,e2=>by
  cases e1
  cases e2
  exact if_pos rfl
 | l0 :: ls,z0 :: zs,j+1,l,z,nd,e1,e2=>by
  have ne:l≠l0:=fun q=>(List.nodup_cons.mp nd).1 (by rw [←q];exact mem_of_getElem? (by simpa using e1:ls[j]?=some l))
  show (if l=l0 then z0 else A0 ls zs l)=z
  rw [if_neg ne]
  exact CW (List.nodup_cons.mp nd).2 (by simpa using e1) (by simpa using e2)
theorem Fk {Pz:KM.Fra→Prop} (h1:Pz (1,1)):∀{ls:List (List Nat)}{zs:List KM.Fra},(∀z∈zs,Pz z)→∀x,Pz (A0 ls zs x)
 | [],_,_,_=>h1
 | _ :: _,[],_,_=>h1
 | l0 :: ls,z0 :: zs,h,x=>by
  show Pz (if x=l0 then z0 else A0 ls zs x)
  by_cases c:x=l0
  ·rw [if_pos c];exact h z0 (by simp)
  ·rw [if_neg c];exact Fk h1 (fun z hz=>h z (by simp [hz])) x
theorem lC {z:KM.Fra} (h:K5 z):Gb 3 2 z:=⟨show z.1.natAbs<8 by lia,show z.2.natAbs<4 by lia,h.2.2.1⟩
structure zI (ls:List (List Nat)) (ts ts':List aa) (κ:List Nat→KM.Fra):Prop where
 tc:∀t∈ts',dL ls t
 len:ts'.length=ts.length
 p1:∀u,jN ls ts u→∃u',jN ls ts' u'
 p2:∀u,jN ls ts' u→∃u',jN ls ts u'
 w1:∀c l us,Wk ts c l us→∃us',Wk ts' c l us'∧aR us'*KM.vl (κ c)=aR us*KM.vl (κ l)
 w2:∀c l us',Wk ts' c l us'→∃us,Wk ts c l us∧aR us'*KM.vl (κ c)=aR us*KM.vl (κ l)
 k5:∀l,K5 (κ l)
theorem K5.mes {κ:List Nat→KM.Fra} (h:∀l,K5 (κ l)):x9 κ:=⟨fun l=>⟨(h l).1,(h l).2.2.1⟩⟩
theorem zI.self {ls:List (List Nat)}{ts:List aa} (tc:∀t∈ts,dL ls t):zI ls ts ts (fun _=>(1,1)):=⟨tc,rfl,fun u h=>⟨u,h⟩,fun u h=>⟨u,h⟩,fun _ _ us k=>⟨us,k,rfl⟩,fun _ _ us k=>⟨us,k,rfl⟩,fun _=>by show K5 (1,1);decide⟩
theorem zI.of {ls:List (List Nat)}{ts:List aa}{κ:List Nat→KM.Fra} (tc:∀t∈ts,dL ls t) (h:∀l,K5 (κ l)) (tc':∀t∈ts.map (cJ κ),dL ls t):zI ls ts (ts.map (cJ κ)) κ:=by
 have tk:∀t∈ts,bp ls t:=fun t ht=>(tc t ht).tok
 refine ⟨tc',length_map ..,fun u k=>⟨_,Iu (K5.mes h) tk k⟩,fun u k=>⟨_,FX (K5.mes h) tk k⟩,fun c l us k=>⟨_,FK (K5.mes h) tk k⟩,fun c l us' k=>?_,h⟩
 obtain ⟨us,rfl,k0⟩:=Jz k
 exact ⟨us,k0,(FK (K5.mes h) tk k0).2⟩
structure Kn (H:Hp) (W:Addr) (ls:List (List Nat)) (κ:List Nat→KM.Fra):Prop where
 d:∃kvs,H W=some (.dK kvs)∧∀l∈ls,∃o,valD kvs (Sum.inr (S l))=some (.ref o)∧H o=some (fr (κ l))
theorem Kn.sm {H H':Hp}{W:Addr}{ls:List (List Nat)}{κ:List Nat→KM.Fra} (h:Kn H W ls κ) (s:ag H H'):Kn H' W ls κ:=⟨let ⟨kvs,a,b⟩:=h.d;⟨kvs,s _ _ a,fun l hl=>let ⟨o,c,d⟩:=b l hl;⟨o,c,s _ _ d⟩⟩⟩
def wD (p:KM.Fra):Int:=if p.2 > p.1 then p.2 else p.1
section
variable {P:Program}{w:World}{K:Frag}{mg:Str→Option Value}{base:Heap}
inductive HS (vs:List V) (H:Hp) (Q:VK):Prop
 | mk (b:Addr) (t:Int) (v:V) (ls:List (List Nat)) (ts:List aa) (h0:vs=[.ref b,v]) (h1:Bx H b t) (h2:0≤t) (h3:t≤900000) (h4:aU ED H v (bX ls ts)) (h5:(∀t∈ts,dL ls t)) (h6:ts.length≤24) (h7:2≤ls.length) (h8:ls.length≤10) (h9:ls.Nodup) (h10:∀(T2 W:Addr) (u:V) (ts':List aa) (κ:List Nat→KM.Fra) (t':Int) (H':Hp),aK (Eb b) H H'→H' T2=some (.tup [u,.ref W])→aU ED H' u (bX ls ts')→zI ls ts ts' κ→Kn H' W ls κ→¬W=b→Bx H' b t'→t≤t'→t'≤t+10→Q (.ref T2) H')
def JX:Sp:=fun vs H Q _=>HS  vs H Q
theorem xQ (T:Txt K mg):aQ P w K mg base CX0 3 T.l_by_worths_.f T.l_by_worths_.d ["_law_box_here", "_law_net"] JX:=by
 have G_l_take:=#[(jH)]
 have G_l_product:=#[(ka)]
 have G_l_over:=#[(uk)]
 refine T.l_by_worths_.F.ok bW (fun vs H Q E h=>?_) (fun cdv A outer s H vs Q E hr h=>?_)
 ·obtain ⟨b,t,v,ls,ts,rfl,_⟩:=h
  rfl
 ·obtain ⟨b,t,v,ls,ts,rfl,B,ht0,ht9,hv,tc,h24,l2,l10,nd,k⟩:=h
  obtain ⟨na,pa,ta,ys,rfl,hna,hpa,hta,ity⟩:=bU hv
  have ly:ys.length=ts.length:=by rw [ity.length,length_map]
  refine ⟨_,#[#[jo 2 (2) _ _ _ _ bW.nd rfl (Or.inr rz) #[cP 4 #[[#[ar 5 #[[#[()],#[()]]]],#[ar 5 #[[#[()],#[()]]]],#[ar 5 #[[#[()],#[()]]]],#[ar 5 #[[#[()],#[()]]]],#[ar 5 #[[#[()],#[()]]]],#[ar 5 #[[#[()],#[()]]]]]]] (by rfl) (by first | exact .inl rfl | exact .inr rfl | assumption)] :: #[#[3,bW.nd,dz,#[di 9 (@qV _ rfl) lX T.b_dict (@j8) #[[#[ci 7 (["_law_place", "_law_box_here", "_law_some"]) (1) ([0,2]) _ _ _ _ rfl (by kernel_rfl) (@dE _ (K) _ _ _ #[#[1,cN][#[()]]] (by rfl)) (fun _ _ _ _ _ _=>#[0,(),()]) (fun _ _ _ _ _ _=>@bM _) (fun _ _ _ _ _ _=>#[ar 5 #[[#[0,()],#[#[2,0][#[G_l_take,(),T.l_take_,#[[#[1,0],#[()]]]]]!]]]]) (by intro _;rfl)]]] (by ext) (by ext) (by rfl) (by rfl)]] :: #[#[4,bW.nd,dP,#[cP 4 (@cC _)]] :: #[#[dX 8 PassesOwn.never rfl (@dE _ (K) _ _ _ #[#[1,cN][#[()]]] (by rfl)) (@cx _ (K) _ _ _ _ (5) rfl #[aC 5 #[5,bW.nd,fR] #[aC 5 #[6,bW.nd,hZ] #[aC 5 #[7,bW.nd,kI] #[aC 5 #[8,bW.nd,jP] #[aC 5 #[9,bW.nd,jE] (@cF _) (by rfl)] (by rfl)] (by rfl)] (by rfl)] (by rfl)] (by rfl) (by rfl) (by rfl)) #[ac 3 #[f8 4 (@gX _ (K) _ _ _ _ _ _ _ _ _ _ _ PySem.F.plainAttrs_list PySem.F.slot_list_append PySem.F.type_list_append (@gI _) #[4,dP] #[[#[ar 5 #[[#[5,fR],#[6,hZ],#[7,kI],#[G_l_product,oP,T.l_product_,#[[#[8,jP],#[G_l_over,rM,T.l_over_,#[[#[bP 7 (@cm _) #[3,dz] #[5,fR] (fun _ _=>rfl)],#[bP 7 (@cm _) #[3,dz] #[6,hZ] (fun _ _=>rfl)]]]]]]],#[9,jE]]]]]] (by rfl) (by rfl) (by rfl) (by rfl) (by rfl) (by rfl)) (by rfl)]] (by intro _;rfl)] :: #[#[bd 8 #[bQ 3 #[(),(),(@Fz _ (K) rfl (by rfl)),uX,T.b_any,(@wI),#[[#[ci 7 (["_law_tie"]) (1) ([]) _ _ _ _ rfl (by kernel_rfl) (@eZ _ (K) _ _ _ #[4,dP] (by rfl)) (fun _ _ _ _ _ _=>#[0,(),()]) (fun _ _ _ _ _ _=>@bM _) (fun _ _ _ _ _ _=>#[bS 8 (@lD _) #[(),(),(@HV _ (K) rfl (by rfl)),(by show _=_;kernel_rfl),T.b_max,(@wV),#[[#[#[0,()][#[()]]]]]] #[()] #[(),()]]) (by intro _;rfl)]]]] (by intro _;rfl)] #[ac 3 #[am 4 #[ar 5 #[[#[1,cN],#[di 9 (@qV _ rfl) lX T.b_dict (@j8) #[[#[ci 7 (["_law_place"]) (1) ([]) _ _ _ _ rfl (by kernel_rfl) (@dE _ (K) _ _ _ #[#[1,cN][#[()]]] (by rfl)) (fun _ _ _ _ _ _=>#[0,(),()]) (fun _ _ _ _ _ _=>@bM _) (fun _ _ _ _ _ _=>#[ar 5 #[[#[0,()],#[ar 5 #[[#[()],#[()]]]]]]]) (by intro _;rfl)]]] (by ext) (by ext) (by rfl) (by rfl)]]]]]] (@aJ _)] :: #[ac 3 #[am 4 #[ar 5 #[[#[ar 5 #[[#[#[1,cN][#[()]]],#[di 9 (@iZ _ (K) (by rfl)) sU T.b_tuple (@gS) #[[#[4,dP]]] (by ext) (by ext) (by rfl) (by rfl)]]]],#[3,dz]]]]]]]]]]],?_⟩
  refine bt fun Q4 nA4=>⟨(by show 2≤10000;decide),fun u1 K1 m1=>⟨(by show 2≤10000;decide),fun u2 K2 m2=>⟨(by show 2≤10000;decide),fun u3 K3 m3=>⟨(by show 2≤10000;decide),fun u4 K4 m4=>⟨(by show 2≤10000;decide),fun u5 K5' m5=>⟨(by show 2≤10000;decide),fun u6 K6 m6=>⟨(by show 6≤10000;decide),fun sl K8 m8=>nA4 _ _ ?_⟩⟩⟩⟩⟩⟩⟩
  have sK7:ag H K6:=((((m1.sm.trans m2.sm).trans m3.sm).trans m4.sm).trans m5.sm).trans m6.sm
  have sK:=sK7.trans m8.sm
  have nsl:¬sl=b:=fun z=>(B.same sK7).ne m8.fr z.symm
  have hnaK:=sK _ _ hna
  have hpaK:=sK _ _ hpa
  have BK:=B.same sK
  have some_at:∀(r:Int) (J:Hp),0≤r→r<6→aK (Eb b) K8 J→aT fun o z=>gB [V.ref u1,V.ref u2,V.ref u3,V.ref u4,V.ref u5,V.ref u6] r=some (.ref o)∧J o=some (fr z)∧K5 z:=fun r J r0 r1 sJ=>by
   have up:∀{u:Addr}{us:List V},K8 u=some (.tup us)→J u=some (.tup us):=fun h=>sJ.tup _ _ h
   obtain rfl | rfl | rfl | rfl | rfl | rfl:r=0∨r=1∨r=2∨r=3∨r=4∨r=5:=by lia
   ·exact ⟨u1,(1,1),rfl,up (m8.sm _ _ (m6.sm _ _ (m5.sm _ _ (m4.sm _ _ (m3.sm _ _ (m2.sm _ _ m1.at')))))),by ext⟩
   ·exact ⟨u2,(2,1),rfl,up (m8.sm _ _ (m6.sm _ _ (m5.sm _ _ (m4.sm _ _ (m3.sm _ _ m2.at'))))),by ext⟩
   ·exact ⟨u3,(3,1),rfl,up (m8.sm _ _ (m6.sm _ _ (m5.sm _ _ (m4.sm _ _ m3.at')))),by ext⟩
   ·exact ⟨u4,(1,2),rfl,up (m8.sm _ _ (m6.sm _ _ (m5.sm _ _ m4.at'))),by ext⟩
   ·exact ⟨u5,(3,2),rfl,up (m8.sm _ _ (m6.sm _ _ m5.at')),by ext⟩
   ·exact ⟨u6,(5,1),rfl,up (m8.sm _ _ m6.at'),by ext⟩
  refine bt fun Q5 nA5=>⟨(),na,_,_,(),rfl,af.of hnaK,rfl,pa,rfl,⟨_,af.of hpaK⟩,fun D hD=>gv (n:=(ls.map au).length) (fun i H' xs=>pc fun (as ws:List Addr) (zs:List KM.Fra) (t':Int)=>xs=as.map V.ref∧H' D=some (.lst xs)∧as.length=i∧ws.length=i∧zs.length=i∧(∀z∈zs,K5 z)∧(∀(j:Nat) a,as[j]?=some a→eF fun l w z=>ls[j]?=some l∧ws[j]?=some w∧zs[j]?=some z∧H' a=some (.tup [au l,.ref w])∧H' w=some (fr z))∧Bx H' b t'∧t≤t'∧t'≤t+i∧aK (Eb b) K8 H') (gE (by rw [length_map];lia)) ⟨[],[],[],t,rfl,ao,rfl,rfl,rfl,(fun z h=>by cases h),(fun j a h=>by simp at h),BK.same (ag.new hD),by lia,by lia,(ag.new hD).toE⟩ ?_ ?_ ?_ ?_ ?_⟩
  ·rintro i H' xs ⟨as,ws,zs,t',rfl,e1,e2,_⟩
   exact ⟨e1,by rw [length_map];lia⟩
  ·rintro i H' xs hi ⟨as,ws,zs,t',_,_,_,_,_,_,_,_,_,_,sE⟩
   exact ⟨_,_,af.of (sE.tup _ _ hpaK),getElem?_eq_getElem hi⟩
  ·rintro H' xs ⟨as,ws,zs,t',_,_,_,_,_,_,_,_,_,_,sE⟩
   exact ⟨_,af.of (sE.tup _ _ hpaK),le_refl _⟩
  ·have nDb:¬D=b:=fun z=>BK.ne hD z.symm
   rintro i Ha xs x Hb hi ⟨as,ws,zs,t',rfl,eD,la,lw,lz,kz,hw,BD,h1,h2,sE⟩ ⟨rfl,ex⟩
   have exi:=ex _ (af.of (sE.tup _ _ hpaK))
   rw [length_map] at hi
   rw [getElem?_map,getElem?_eq_getElem hi] at exi
   obtain rfl:au ls[i]=x:=Option.some.inj exi
   refine ⟨fK,(),(),(),b,6,t',rfl,BD,by ext,by ext,by lia,by lia,fun r6 t6 J6 r60 r61 h6a h6b s6 B6=>?_⟩
   obtain ⟨o,z,eo,ho,wz⟩:=some_at r6 J6 r60 (by lia) (sE.trans s6)
   refine ⟨sl,_,_,(),rfl,aq.of (s6.old sl _ nsl (sE.old sl _ nsl m8.at')),eo,(by show 2≤10000;decide),fun q J7 n7=>?_⟩
   have js:aK (Eb b) Hb J7:=s6.trans n7.sm.toE
   have eD7:=js.old D _ nDb eD
   have c':Ch J7 D (as.map V.ref++[.ref q]) (aE J7 D (.lst (as.map V.ref++[.ref q]))):=Ch.mk'
   refine ⟨eD7,as++[q],ws++[o],zs++[z],t6,by rw [map_append];rfl,ao,by rw [length_append,la];rfl,by rw [length_append,lw];rfl,by rw [length_append,lz];rfl,fun z' hz=>?_,fun j a' ha'=>?_,(B6.same n7.sm).ch c' (fun z=>nDb z.symm),by lia,by lia,(sE.trans js).up hD⟩
   ·rcases List.mem_append.mp hz with y | y
    ·exact kz z' y
    ·rw [List.mem_singleton.mp y];exact wz
   by_cases hj:j<i
   ·rw [getElem?_append_left (by lia)] at ha'
    obtain ⟨l,w,z',e1,e2,e5,e3,e4⟩:=hw j a' ha'
    exact ⟨l,w,z',e1,by rw [getElem?_append_left (by lia)];exact e2,by rw [getElem?_append_left (by lia)];exact e5,c'.tup (js.tup _ _ e3) eD7,c'.tup (js.tup _ _ e4) eD7⟩
   ·have hj':j=i:=by
     have:=(List.getElem?_eq_some_iff.mp ha').1
     rw [length_append] at this
     simp at this
     lia
    subst hj'
    rw [getElem?_append_right (by lia),la,sub_self] at ha'
    obtain rfl:q=a':=Option.some.inj ha'
    exact ⟨ls[j],o,z,getElem?_eq_getElem hi,by rw [getElem?_append_right (by lia),lw,sub_self];rfl,by rw [getElem?_append_right (by lia),lz,sub_self];rfl,c'.tup n7.at' eD7,c'.tup (n7.sm _ _ ho) eD7⟩
  rintro J xs ⟨as,ws,zs,t6,rfl,eD,la,lw,lz,kz,hw,B6,h6a,h6b,s6⟩
  rw [length_map] at la lw lz h6b
  refine ⟨D,as,ls.map fun l=>(Sum.inr (S l):aI),ws.map V.ref,rfl,eD,by rw [length_map];exact la,by rw [length_map,length_map];exact lw,mL nd,by rw [length_map];lia,fun i a ha=>?_,fun W J1 nW=>nA5 _ _ ?_⟩
  ·obtain ⟨l,w,z,e1,e2,_,e3,_⟩:=hw i a ha
   exact ⟨Sum.inr (S l),.ref w,by rw [getElem?_map,e1];rfl,by rw [getElem?_map,e2];rfl,e3⟩
  obtain ⟨κ,eκ⟩:∃κ,κ=A0 ls zs:=⟨_,rfl⟩
  have k5:∀l,K5 (κ l):=fun l=>by rw [eκ];exact Fk (by ext) kz l
  have s01:aK (Eb b) H J1:=(sK.toE.trans s6).trans nW.sm.toE
  have BJ:=B6.same nW.sm
  have nWb:¬W=b:=fun z=>B6.ne nW.fr z.symm
  obtain ⟨kvs,ekv⟩:∃kvs,kvs=((ls.map fun l=>(Sum.inr (S l):aI)).zip (ws.map V.ref)):=⟨_,rfl⟩
  have hW:J1 W=some (.dK kvs):=by rw [ekv];exact nW.at'
  have wl:∀l∈ls,∃o,valD kvs (Sum.inr (S l))=some (.ref o)∧J1 o=some (fr (κ l)):=fun l hl=>by
   obtain ⟨j,hj⟩:=getElem?_of_mem hl
   have hlt:=(List.getElem?_eq_some_iff.mp hj).1
   obtain ⟨a,ha⟩:∃a,as[j]?=some a:=⟨_,getElem?_eq_getElem (by lia)⟩
   obtain ⟨l',w,z,e1,e2,e5,e3,e4⟩:=hw j a ha
   rw [hj] at e1
   cases e1
   refine ⟨w,?_,?_⟩
   ·rw [ekv]
    exact kO (i:=j) (mL nd) (by rw [getElem?_map,hj];rfl) (by rw [getElem?_map,e2];rfl)
   ·rw [eκ,CW nd hj e5];exact nW.sm _ _ e4
  clear hw some_at ekv
  have hnaJ:=s01.tup _ _ hna
  have hpaJ:=s01.tup _ _ hpa
  have htaJ:=s01.tup _ _ hta
  have ityJ:ay ED J1 ys (ts.map jD):=ity.tupS s01
  refine bt fun Q7 nA7=>⟨zero_le _,fun TL G1 n1=>nA7 _ _ ?_⟩
  have sT:∀{G:Hp},(∀a u,a≠TL→J1 a=some u→G a=some u)→ag J1 G:=fun f a u h=>f a u (fun z=>by rw [z,n1.fr] at h;cases h) h
  refine ba fun DB nB=>?_
  refine ⟨(),na,_,_,(),rfl,af.of (n1.sm _ _ hnaJ),rfl,ta,rfl,⟨_,af.of (n1.sm _ _ htaJ)⟩,pY (xs:=ys) (fun i σ H'=>zO fun (v5 v6 v7 v8 v9:Option V) (zz:List V)=>σ=[some (.ref b),some (.ref na),some (.ref sl),some (.ref W),some (.ref TL),v5,v6,v7,v8,v9]∧H' TL=some (.lst zz)∧zz.length=i∧ay ED H' zz (((ts.take i).map (cJ κ)).map jD)∧∀a u,a≠TL→J1 a=some u→H' a=some u) ⟨_,_,_,_,_,[],rfl,n1.at',rfl,.nil,fun a u _ h=>n1.sm _ _ h⟩ ?_ ?_ ?_⟩
  ·rintro i σ H' _ ⟨_,_,_,_,_,_,_,_,_,_,f⟩
   exact af.of (sT f _ _ htaJ)
  ·rintro i x σ F0 hx ⟨v5,v6,v7,v8,v9,zz,rfl,hT,lzz,iT,f⟩
   have il:i<ys.length:=(List.getElem?_eq_some_iff.mp hx).1
   have et:ts[i]?=some ts[i]:=getElem?_eq_getElem (by lia)
   obtain ⟨o,om,og,op,ey,hto,hom,hog,hop⟩:=iE ityJ et
   rw [hx] at ey
   obtain rfl:x=.ref o:=Option.some.inj ey
   generalize etd:ts[i]=td at et hto hom hog hop
   have tt:=tc td (mem_of_getElem? et)
   have sF:=sT f
   refine ⟨o,(),af.of (sF _ _ hto),rfl,_,(),_,(),_,(),_,(),_,(),rfl,?_⟩
   dsimp only
   obtain ⟨w1,e1,hw1⟩:=wl td.bg tt.b
   obtain ⟨w2,e2,hw2⟩:=wl td.en tt.e
   have hWF:=sF _ _ hW
   refine ⟨(),.inl ⟨rfl,_,aq.of hT⟩,(),(),(),(),(),(),W,kvs,Sum.inr (S td.bg),.ref w1,rfl,rfl,hWF,e1,(),(),W,kvs,Sum.inr (S td.en),.ref w2,rfl,rfl,hWF,e2,w1,w2,κ td.bg,κ td.en,_,_,_,(),sF _ _ hw1,sF _ _ hw2,lC (k5 _),lC (k5 _),by ext,by ext,by ext,by ext,(fun _=>(k5 td.en).1),fun q1 F1 m1'=>?_⟩
   refine ⟨og,q1,td.gain,_,_,_,5,5,rfl,m1'.sm _ _ (sF _ _ hog),m1'.at',tt.fg,(lC (k5 _)).ovr (lC (k5 _)) (k5 td.en).1 (by ext) (by ext),by ext,by ext,by ext,by ext,(fun z=>by cases z),fun q2 F2 m2'=>⟨(),(by show 5≤10000;decide),fun q3 F3 m3'=>?_⟩⟩
   have s3:=(m1'.sm.trans m2'.sm).trans m3'.sm
   have hT3:=s3 _ _ hT
   have sF3:=sF.trans s3
   refine ⟨TL,_,(),rfl,hT3,by lia,fun F4 c4=>⟨_,_,_,_,_,zz++[.ref q3],rfl,c4.at',by rw [length_append,lzz];rfl,?_,fun a u ne h=>c4.ol a u ne (s3 _ _ (f a u ne h))⟩⟩
   rw [List.take_succ,et,map_append,map_append]
   refine vM c4 hT3 (iT.mono s3.toE) ?_
   exact .tup m3'.at' (.cons (.str _) (.cons (.str _) (.cons (i8 (p:=td.most) (sF3 _ _ hom)) (.cons (i8 (p:=KM.lTim td.gain (cu (κ td.bg) (κ td.en))) (m3'.sm _ _ m2'.at')) (.cons (i8 (p:=td.price) (sF3 _ _ hop)) .nil)))))
  rintro σ G ⟨v5,v6,v7,v8,v9,zz,rfl,hT,lzz,iT,f⟩
  rw [ly,take_length] at iT
  rw [ly] at lzz
  refine nB _ _ ?_
  have sG:=sT f
  have s0G:aK (Eb b) H G:=s01.trans sG.toE
  have BG:=BJ.same sG
  refine Ct fun DC nC rC=>⟨(),TL,rfl,⟨_,aq.of hT⟩,fun D2 hD2=>lK (xs:=zz) (fun i=>.bl (((ts[i]?).map fun t=>decide (wD (cJ κ t).gain > 60)).getD false)) (by lia) hD2 hT ?_ ?_⟩
  ·intro i x H' R hxi sm kk
   have il:i<ts.length:=by rw [←lzz];exact (List.getElem?_eq_some_iff.mp hxi).1
   have et:(ts.map (cJ κ))[i]?=some (cJ κ ts[i]):=by rw [getElem?_map,getElem?_eq_getElem il];rfl
   obtain ⟨o,om,og,op,ey,hto,hom,hog,hop⟩:=iE iT et
   rw [hxi] at ey
   obtain rfl:x=.ref o:=Option.some.inj ey
   refine ⟨fK,(),o,_,_,(),rfl,af.of (sm _ _ hto),rfl,og,_,(),af.of (sm _ _ hog),_,(),rfl,?_⟩
   have k1:=kk H' (ag.refl _)
   rw [getElem?_eq_getElem il] at k1
   exact k1
  intro G1 g1 hD1
  have eM:(List.range zz.length).map (fun i=>V.bl (((ts[i]?).map fun t=>decide (wD (cJ κ t).gain > 60)).getD false))=(ts.map fun t=>decide (wD (cJ κ t).gain > 60)).map V.bl:=by
   rw [lzz,se (fun i=>V.bl (((ts[i]?).map fun t=>decide (wD (cJ κ t).gain > 60)).getD false)) (fun t=>V.bl (decide (wD (cJ κ t).gain > 60))) ts (fun i x e=>by rw [e];rfl),map_map]
   rfl
  rw [eM] at hD1
  refine ⟨D2,(),aq.of hD1,(),?_⟩
  have sG1:=sG.trans g1
  have s0G1:aK (Eb b) H G1:=s01.trans sG1.toE
  have hnaG:=sG1 _ _ hnaJ
  have hpaG:=sG1 _ _ hpaJ
  have iNG:aU ED G1 (.ref na) (bX ls ts):=hv.tupS (F:=ED) s0G1
  cases hany:(ts.map fun t=>decide (wD (cJ κ t).gain > 60)).any id with
  | true=>
   refine cf ?_
   refine ⟨(),(),na,_,_,(),rfl,af.of hnaG,rfl,pa,rfl,⟨_,af.of hpaG⟩,fun D hD=>gv (n:=(ls.map au).length) (fun i H' xs=>aT fun (as ws:List Addr)=>xs=as.map V.ref∧H' D=some (.lst xs)∧as.length=i∧ws.length=i∧(∀(j:Nat) a,as[j]?=some a→aT fun l w=>ls[j]?=some l∧ws[j]?=some w∧H' a=some (.tup [au l,.ref w])∧H' w=some (fr (1,1)))∧ag G1 H') (gE (by rw [length_map];lia)) ⟨[],[],rfl,ao,rfl,rfl,(fun j a h=>by simp at h),ag.new hD⟩ ?_ ?_ ?_ ?_ ?_⟩
   ·rintro i H' xs ⟨as,ws,rfl,e1,e2,_⟩
    exact ⟨e1,by rw [length_map];lia⟩
   ·rintro i H' xs hi ⟨as,ws,_,_,_,_,_,sm⟩
    exact ⟨_,_,af.of (sm _ _ hpaG),getElem?_eq_getElem hi⟩
   ·rintro H' xs ⟨as,ws,_,_,_,_,_,sm⟩
    exact ⟨_,af.of (sm _ _ hpaG),le_refl _⟩
   ·rintro i Ha xs x Hb hi ⟨as,ws,rfl,eD',la',lw',hw',sm⟩ ⟨rfl,ex⟩
    have exi:=ex _ (af.of (sm _ _ hpaG))
    rw [length_map] at hi
    rw [getElem?_map,getElem?_eq_getElem hi] at exi
    obtain rfl:au ls[i]=x:=Option.some.inj exi
    refine ⟨fK,(),(by show 2≤10000;decide),fun o J6 m6'=>⟨(by show 2≤10000;decide),fun q J7 n7=>?_⟩⟩
    have js:=m6'.sm.trans n7.sm
    have eD7:=js _ _ eD'
    have c':Ch J7 D (as.map V.ref++[.ref q]) (aE J7 D (.lst (as.map V.ref++[.ref q]))):=Ch.mk'
    refine ⟨eD7,as++[q],ws++[o],by rw [map_append];rfl,ao,by rw [length_append,la'];rfl,by rw [length_append,lw'];rfl,fun j a' ha'=>?_,dC hD (sm.trans js)⟩
    by_cases hj:j<i
    ·rw [getElem?_append_left (by lia)] at ha'
     obtain ⟨l,w,e1,e2,e3,e4⟩:=hw' j a' ha'
     exact ⟨l,w,e1,by rw [getElem?_append_left (by lia)];exact e2,c'.tup (js _ _ e3) eD7,c'.tup (js _ _ e4) eD7⟩
    ·have hj':j=i:=by
      have:=(List.getElem?_eq_some_iff.mp ha').1
      rw [length_append] at this
      simp at this
      lia
     subst hj'
     rw [getElem?_append_right (by lia),la',sub_self] at ha'
     obtain rfl:q=a':=Option.some.inj ha'
     exact ⟨ls[j],o,getElem?_eq_getElem hi,by rw [getElem?_append_right (by lia),lw',sub_self];rfl,c'.tup n7.at' eD7,c'.tup (n7.sm _ _ m6'.at') eD7⟩
   rintro J' xs ⟨as',ws',rfl,eD',la',lw',hw',s6'⟩
   rw [length_map] at la' lw'
   refine ⟨D,as',ls.map fun l=>(Sum.inr (S l):aI),ws'.map V.ref,rfl,eD',by rw [length_map];exact la',by rw [length_map,length_map];exact lw',mL nd,by rw [length_map];lia,fun i a ha=>?_,fun W' J2 nW'=>⟨(by show 2≤10000;decide),fun T2 J3 n3=>?_⟩⟩
   ·obtain ⟨l,w,e1,e2,e3,_⟩:=hw' i a ha
    exact ⟨Sum.inr (S l),.ref w,by rw [getElem?_map,e1];rfl,by rw [getElem?_map,e2];rfl,e3⟩
   have sR:=(s6'.trans nW'.sm).trans n3.sm
   have BR:=(BG.same g1).same sR
   refine rC _ _ (k T2 W' (.ref na) ts (fun _=>(1,1)) t6 J3 (s0G1.trans sR.toE) n3.at' (iNG.mono sR.toE) (.self tc) ⟨⟨_,n3.sm _ _ nW'.at',fun l hl=>?_⟩⟩ (fun z=>((BG.same g1).same s6').ne nW'.fr z.symm) BR h6a (by lia))
   obtain ⟨j,hj⟩:=getElem?_of_mem hl
   have hlt:=(List.getElem?_eq_some_iff.mp hj).1
   obtain ⟨a,ha⟩:∃a,as'[j]?=some a:=⟨_,getElem?_eq_getElem (by lia)⟩
   obtain ⟨l',w,e1,e2,e3,e4⟩:=hw' j a ha
   rw [hj] at e1
   cases e1
   exact ⟨w,kO (i:=j) (mL nd) (by rw [getElem?_map,hj];rfl) (by rw [getElem?_map,e2];rfl),n3.sm _ _ (nW'.sm _ _ e4)⟩
  | false=>
   refine aX (nC _ _ ?_)
   refine ⟨(),na,_,_,(),rfl,af.of hnaG,rfl,(),TL,(),aq.of (g1 _ _ hT),fun q2 J2 n2'=>⟨(by show 2≤10000;decide),fun nt J3 n3=>⟨(),(by show 2≤10000;decide),fun T2 J4 n4=>?_⟩⟩⟩
   have sR:=(n2'.sm.trans n3.sm).trans n4.sm
   have tc':∀t∈ts.map (cJ κ),dL ls t:=fun t' ht'=>by
    obtain ⟨t0,h0,rfl⟩:=List.mem_map.mp ht'
    have tt:=tc t0 h0
    have hm:¬wD (cJ κ t0).gain > 60:=fun z=>by
     have:(ts.map fun t=>decide (wD (cJ κ t).gain > 60)).any id=true:=by
      rw [List.any_map,List.any_eq_true]
      exact ⟨t0,h0,decide_eq_true z⟩
     rw [hany] at this
     cases this
    have so:=KB (K5.mes k5) tt.tok
    have g1:=so.g1
    have g2:=so.g2
    have hm2:(cJ κ t0).gain.1≤60∧(cJ κ t0).gain.2≤60:=by
     unfold wD at hm
     by_cases c:(cJ κ t0).gain.2 > (cJ κ t0).gain.1
     ·rw [if_pos c] at hm;lia
     ·rw [if_neg c] at hm;lia
    exact ⟨tt.b,tt.e,tt.ne,tt.fm,⟨show (cJ κ t0).gain.1.natAbs<64 by lia,show (cJ κ t0).gain.2.natAbs<64 by lia,g2⟩,g1,tt.fp,tt.m0,tt.mc⟩
   refine k T2 W (.ref nt) (ts.map (cJ κ)) κ t6 J4 (s0G1.trans sR.toE) n4.at' ?_ (.of tc k5 tc') ⟨⟨kvs,sR _ _ (sG1 _ _ hW),fun l hl=>let ⟨o,c,d⟩:=wl l hl;⟨o,c,sR _ _ (sG1 _ _ d)⟩⟩⟩ nWb ((BG.same g1).same sR) h6a (by lia)
   exact .tup (n4.sm _ _ n3.at') (.cons (.tup (sR _ _ hpaG) (tK ls)) (.cons (.tup (n4.sm _ _ (n3.sm _ _ n2'.at')) ((iT.mono g1.toE).mono sR.toE)) .nil))
end
end K15
namespace K15
open PySem L2
set_option maxHeartbeats 8000000
theorem GK {ls:List (List Nat)}{ts ts':List aa}{κ:List Nat→KM.Fra}{lb le:List Nat}{tm tm':List Nat→Nat}{w:KM.Fra} (tk:∀t∈ts,bp ls t) (tk':∀t∈ts',bp ls t) (FN:mG ts le tm) (FN':mG ts' le tm') (sc:zI ls ts ts' κ) (hlb:lb∈ls) (e:(aV ts le).ω lb=some w):∃w',(aV ts' le).ω lb=some w'∧KM.vl w*KM.vl (κ lb)≤KM.vl w'*KM.vl (κ le):=by
 obtain ⟨R,us,_,ok,ch,pe,_⟩:=FN.way tk _ lb w (lt_succ_self _) hlb e
 obtain ⟨us',k',eq⟩:=sc.w1 _ _ _ (yY (fun x hx=>⟨ok.mem hx,ok.op x hx⟩) ch)
 obtain ⟨w',e',q⟩:=FN'.cmp tk' k'
 refine ⟨w',e',?_⟩
 rw [←pe,←eq]
 exact Rat.mul_le_mul_of_nonneg_right q (Rat.le_of_lt ((K5.mes sc.k5).pos le))
theorem zU {ls:List (List Nat)}{ts ts':List aa}{κ:List Nat→KM.Fra}{lb le:List Nat}{tm tm':List Nat→Nat}{w':KM.Fra} (tk:∀t∈ts,bp ls t) (tk':∀t∈ts',bp ls t) (FN:mG ts le tm) (FN':mG ts' le tm') (sc:zI ls ts ts' κ) (hlb:lb∈ls) (e:(aV ts' le).ω lb=some w'):∃w,(aV ts le).ω lb=some w∧KM.vl w'*KM.vl (κ le)≤KM.vl w*KM.vl (κ lb):=by
 obtain ⟨R,us',_,ok,ch,pe,_⟩:=FN'.way tk' _ lb w' (lt_succ_self _) hlb e
 obtain ⟨us,k0,eq⟩:=sc.w2 _ _ _ (yY (fun x hx=>⟨ok.mem hx,ok.op x hx⟩) ch)
 obtain ⟨w,e',q⟩:=FN.cmp tk k0
 refine ⟨w,e',?_⟩
 rw [←pe,eq]
 exact Rat.mul_le_mul_of_nonneg_right q (Rat.le_of_lt ((K5.mes sc.k5).pos lb))
section
variable {P:Program}{w:World}{K:Frag}{mg:Str→Option Value}{base:Heap}
inductive E1 (vs:List V) (H:Hp) (Q:VK):Prop
 | mk (b:Addr) (t:Int) (v:V) (ls:List (List Nat)) (ts:List aa) (h0:vs=[.ref b,v]) (h1:Bx H b t) (h2:0≤t) (h3:t≤890000) (h4:aU ED H v (bX ls ts)) (h5:(∀t∈ts,dL ls t)) (h6:1≤ts.length) (h7:ts.length≤24) (h8:2≤ls.length) (h9:ls.length≤10) (h10:ls.Nodup) (h11:∀(t':Int) (H':Hp),aK (Eb b) H H'→Bx H' b t'→t≤t'→t'≤t+11→Q (.bl true) H')
def Gv:Sp:=fun vs H Q _=>E1  vs H Q
theorem Bp (T:Txt K mg):aQ P w K mg base CX0 10 T.l_right_.f T.l_right_.d ["_law_box_here", "_law_net"] Gv:=by
 have G_l_by_worths:=#[(xQ)]
 have G_gaining_round:=#[(jy)]
 have G_l_refused_alike:=#[(tE)]
 have G_greatest_gain:=#[(jr)]
 have G_l_product:=#[(ka)]
 have G_l_over:=#[(uk)]
 have G_holding_worths:=#[(je)]
 have G_shows_holding:=#[(wa)]
 have G_l_pairs_right:=#[(vI)]
 have G_l_fewer_right:=#[(vP)]
 refine T.l_right_.F.ok iV (fun vs H Q E h=>?_) (fun cdv A outer s H vs Q E hr h=>?_)
 ·obtain ⟨b,t,v,ls,ts,rfl,_⟩:=h
  rfl
 ·obtain ⟨b,t,v,ls,ts,rfl,B,ht0,ht9,hv,tc,n1',h24,l2,l10,nd,k⟩:=h
  have tk:∀t∈ts,bp ls t:=fun t ht=>(tc t ht).tok
  obtain ⟨na,pa,ta,ys,rfl,hna,hpa,hta,ity⟩:=bU hv
  have l1:1≤ls.length:=by lia
  refine ⟨_,#[#[gc 6 #[G_l_by_worths,qu,T.l_by_worths_,#[[#[0,kj],#[1,bH]]]] (@cx _ (K) _ _ _ _ (2) rfl #[aC 5 #[2,iV.nd,fP] #[aC 5 #[3,iV.nd,jh] (@cF _) (by rfl)] (by rfl)] (by rfl) (by rfl) (by rfl)) (by rfl) (by rfl) (by rfl)] :: #[#[bd 8 #[aA 8 (@o8 _) #[bS 8 (@qa _) #[G_gaining_round,eV,T.gaining_round_,#[[#[1,bH]]]] #[cj 3] #[(),()]] #[bS 8 (@qa _) #[G_gaining_round,eV,T.gaining_round_,#[[#[2,fP]]]] #[cj 3] #[(),()]] #[(),()]] #[ac 3 #[am 4 #[cM 4]]] (@aJ _)] :: #[#[bd 8 #[aA 8 (@nj _) #[G_gaining_round,eV,T.gaining_round_,#[[#[1,bH]]]] #[cj 3] #[(),()]] #[ac 3 #[am 4 #[qd 7 #[G_l_refused_alike,ik,T.l_refused_alike_,#[[#[1,bH]]]] #[l7 5 #[G_l_refused_alike,ik,T.l_refused_alike_,#[[#[2,fP]]]]]]]] (@aJ _)] :: #[#[l6 2 (4) (5) _ _ _ _ _ _ _ _ _ _ _ rfl iV.nd rfl rfl (by ext) fN ig #[[#[#[#[1,bH][#[()]]][#[()]]],#[#[#[1,bH][#[()]]][#[uL 6 (@pZ _) #[()]]]]]] (by kernel_rfl) (by rfl)] :: #[#[l6 2 (6) (7) _ _ _ _ _ _ _ _ _ _ _ rfl iV.nd rfl rfl (by ext) gG jC #[[#[dU 16 G_greatest_gain (hr.mono (by ext)) ja T.greatest_gain_.m T.greatest_gain_.F.kp T.greatest_gain_.B .nil #[pi 3] #[[#[1,bH],#[4,fN],#[5,ig]]] (by ext) (by rfl) (by rfl)],#[dU 16 G_greatest_gain (hr.mono (by ext)) ja T.greatest_gain_.m T.greatest_gain_.F.kp T.greatest_gain_.B .nil #[pi 3] #[[#[2,fP],#[4,fN],#[5,ig]]] (by ext) (by rfl) (by rfl)]]] (by kernel_rfl) (by rfl)] :: #[#[bd 8 #[aA 8 (@o8 _) #[bS 8 (@qa _) #[6,gG] #[cj 3] #[(),()]] #[bS 8 (@qa _) #[7,jC] #[cj 3] #[(),()]] #[(),()]] #[ac 3 #[am 4 #[cM 4]]] (@aJ _)] :: #[#[bd 8 #[PW.pt 3 #[Db 7 #[aA 8 (@nj _) #[6,gG] #[cj 3] #[(),()]] #[AT 4 #[aA 8 (@Dq _ hr.units) #[7,jC] #[G_l_product,sM,T.l_product_,#[[#[6,gG],#[G_l_over,vB,T.l_over_,#[[#[bP 7 (@cm _) #[3,jh] #[4,fN] (fun _ _=>rfl)],#[bP 7 (@cm _) #[3,jh] #[5,ig] (fun _ _=>rfl)]]]]]]] #[(),()]]]]] #[ac 3 #[am 4 #[cM 4]]] (@aJ _)] :: #[#[8,iV.nd,fw,#[dU 16 G_holding_worths (hr.mono (by ext)) ow T.holding_worths_.m T.holding_worths_.F.kp T.holding_worths_.B .nil #[pi 3] #[[#[1,bH]]] (by ext) (by rfl) (by rfl)]] :: #[#[bd 8 #[PW.pt 3 #[iY 7 #[da 4 #[bQ 3 #[G_shows_holding,oR,T.shows_holding_,#[[#[1,bH],#[8,fw]]]] (by intro _;rfl)]] #[iH 4 #[da 4 #[bQ 3 #[G_l_pairs_right,oQ,T.l_pairs_right_,#[[#[1,bH],#[8,fw]]]] (by intro _;rfl)]]]]] #[ac 3 #[am 4 #[cM 4]]] (@aJ _)] :: #[ac 3 #[am 4 #[G_l_fewer_right,oS,T.l_fewer_right_,#[[#[0,kj],#[1,bH],#[8,fw]]]]]]]]]]]]]]],?_⟩
  refine ba fun D0 n0=>⟨(),(),b,t,.ref na,ls,ts,rfl,B,by lia,by lia,hv,tc,h24,l2,l10,nd,fun T2 W u ts' κ t1 H1 s1 hT2 iU sc kn nWb B1 h1a h1b=>⟨T2,(),af.of hT2,rfl,_,(),_,(),rfl,n0 _ _ ?_⟩⟩
  have tk':∀t∈ts',bp ls t:=fun t ht=>(sc.tc t ht).tok
  have h24':ts'.length≤24:=by rw [sc.len];exact h24
  have iN:aU ED H1 (.ref na) (bX ls ts):=hv.tupS (F:=ED) s1
  have hna1:=s1.tup _ _ hna
  have hpa1:=s1.tup _ _ hpa
  by_cases hm:mV ls ts
  case neg=>
   have hno:∀m,m<ls.length→(aW ts (m+1)).lf≠none:=fun m h z=>hm ⟨m,h,z⟩
   refine ba fun D1 n1=>⟨(),.ref na,ls,ts,rfl,iN,tc,h24,l1,l10,.inr ⟨hno,fun R us r H2 rk lR s2 f2 hr2=>⟨rfl,(),u,ls,ts',rfl,iU.mono s2.toE,sc.tc,h24',l1,l10,?_⟩⟩⟩
   by_cases hm':mV ls ts'
   ·obtain ⟨m',_,em'⟩:=hm'
    obtain ⟨u0,p0⟩:=sc.p2 _ (oy tk' em')
    exact (zv tk p0 rk).elim
   have hno':∀m,m<ls.length→(aW ts' (m+1)).lf≠none:=fun m h z=>hm' ⟨m,h,z⟩
   refine .inr ⟨hno',fun R2 us2 r2 H3 rk2 lR2 s3 f3 hr3=>⟨rfl,rfl,(),uD (n1 _ _ ?_)⟩⟩
   have s13:=s2.trans s3
   refine Ct fun D2 n2 r2'=>⟨(),.ref na,ls,ts,rfl,iN.mono s13.toE,tc,h24,l1,l10,.inr ⟨hno,fun R4 us4 r4 H4 rk4 lR4 s4 f4 hr4=>⟨rfl,(),cf ?_⟩⟩⟩
   have s14:=s13.trans s4
   refine ⟨(),.ref na,ls,ts,rfl,iN.mono s14.toE,tc,h24,l1,l10,hno,fun H5 s5=>⟨(),cf ?_⟩⟩
   have s15:=s14.trans s5
   refine ⟨(),u,ls,ts',rfl,iU.mono s15.toE,sc.tc,h24',l1,l10,hno',fun H6 s6=>r2' _ _ ?_⟩
   have s16:=s15.trans s6
   exact k t1 H6 (s1.trans s16.toE) (B1.same s16) h1a (by lia)
  obtain ⟨mx,hmx,emx⟩:=hm
  have pot:=oy tk emx
  refine ba fun D1 n1=>⟨(),.ref na,ls,ts,rfl,iN,tc,h24,l1,l10,.inl ⟨mx,hmx,emx,fun H2 s2=>⟨rfl,(),u,ls,ts',rfl,iU.mono s2.toE,sc.tc,h24',l1,l10,?_⟩⟩⟩
  by_cases hm':mV ls ts'
  case neg=>
   refine .inr ⟨fun m h z=>hm' ⟨m,h,z⟩,fun R2 us2 r2 H3 rk2 lR2 s3 f3 hr3=>?_⟩
   obtain ⟨u0,p0⟩:=sc.p1 _ pot
   exact (zv tk' p0 rk2).elim
  obtain ⟨m',hmx',emx'⟩:=hm'
  refine .inl ⟨m',hmx',emx',fun H3 s3=>⟨rfl,rfl,(),uD (n1 _ _ ?_)⟩⟩
  have s13:=s2.trans s3
  refine ba fun D2 n2=>⟨(),.ref na,ls,ts,rfl,iN.mono s13.toE,tc,h24,l1,l10,.inl ⟨mx,hmx,emx,fun H4 s4=>⟨rfl,(),aX (n2 _ _ ?_)⟩⟩⟩
  have s14:=s13.trans s4
  obtain ⟨lb,le,hlb,hle,e0,e9,nee⟩:=Bi l1
  have ne:=nee l2 nd
  obtain ⟨tm,FN⟩:=wH le tk l10 emx
  obtain ⟨tm',FN'⟩:=wH le tk' l10 emx'
  refine ba fun D3 n3=>⟨(),na,_,_,(),rfl,af.of (s14 _ _ hna1),rfl,pa,_,_,(),rfl,af.of (s14 _ _ hpa1),e0,(),na,_,_,(),rfl,af.of (s14 _ _ hna1),rfl,1,rfl,pa,_,_,(),rfl,af.of (s14 _ _ hpa1),e9,_,(),n3 _ _ ?_⟩
  refine ba fun D4 n4=>⟨(),(),(),.ref na,ls,ts,lb,le,rfl,iN.mono s14.toE,tc,h24,l1,l10,hlb,.inl ⟨mx,hmx,emx,fun H5 s5=>?_⟩⟩
  have s15:=s14.trans s5
  cases e:(aV ts le).ω lb with
  | none=>
   have e':(aV ts' le).ω lb=none:=by
    cases q:(aV ts' le).ω lb with
    | none=>rfl
    | some w'=>
     obtain ⟨w,e2,_⟩:=zU tk tk' FN FN' sc hlb q
     rw [e] at e2
     cases e2
   refine ⟨(fun _ _ z=>by cases z),fun _=>⟨(),(),(),u,ls,ts',lb,le,rfl,iU.mono s15.toE,sc.tc,h24',l1,l10,hlb,.inl ⟨m',hmx',emx',fun H6 s6=>⟨(fun _ _ z=>by rw [e'] at z;cases z),fun _=>⟨_,(),n4 _ _ ?_⟩⟩⟩⟩⟩
   have s16:=s15.trans s6
   refine ba fun D5 n5=>⟨(),rfl,(),rfl,rfl,(),uD (n5 _ _ ?_)⟩
   refine ba fun D6 n6=>⟨(),rfl,(),aX (n6 _ _ ?_)⟩
   refine bt fun Q7 n7=>⟨(),.ref na,ls,ts,rfl,iN.mono s16.toE,tc,h24,l1,l10,.inl ⟨mx,hmx,emx,fun m r xs H7 hm7 em7 s7 f7 hr7 lx vx gx=>n7 _ _ ?_⟩⟩
   have s17:=s16.trans s7
   have tl:wT H7 r xs ls (aW ts m).ω:=⟨hr7,lx,vx,gx⟩
   refine ba fun D8 n8=>⟨(),(),.ref na,r,xs,ls,ts,(aW ts m).ω,rfl,iN.mono s17.toE,tc,by lia,by lia,nd,hr7,lx,vx,gx,fun l _=>(nq tk m l).2.1,fun t ht=>(tu (s:=aW ts m) em7).2 t ht,fun H8 s8=>⟨(),aX ?_⟩⟩
   have s18:=s17.trans s8
   refine ⟨(),(),.ref na,r,xs,ls,ts,m,rfl,iN.mono s18.toE,tc,h24,l1,l10,nd,hm7,em7,tl.sm s8,fun H9 s9=>⟨(),aX (n8 _ _ ?_)⟩⟩
   have s19:=s18.trans s9
   refine ⟨(),(),(),b,t1,.ref na,r,xs,ls,ts,m,rfl,B1.same s19,by lia,by lia,iN.mono s19.toE,tc,n1',h24,l1,l10,em7,tl.sm (s8.trans s9),fun z=>(B1.same s16).ne f7 z.symm,fun t' HA sA BA ha hb=>?_⟩
   exact k t' HA ((s1.trans s19.toE).trans sA) BA (by lia) (by lia)
  | some wv=>
   obtain ⟨wv',e',le1⟩:=GK tk tk' FN FN' sc hlb e
   have le2:KM.vl wv'*KM.vl (κ le)≤KM.vl wv*KM.vl (κ lb):=by
    obtain ⟨w2,e2,q⟩:=zU tk tk' FN FN' sc hlb e'
    rw [e] at e2
    cases e2
    exact q
   refine ⟨fun w2 o _ ho gb=>?_,(fun z=>by cases z)⟩
   rename_i ew2
   cases ew2
   refine ⟨(),(),(),u,ls,ts',lb,le,rfl,iU.mono s15.toE,sc.tc,h24',l1,l10,hlb,.inl ⟨m',hmx',emx',fun H6 s6=>⟨fun w3 o' e3 ho' gb'=>⟨_,(),n4 _ _ ?_⟩,(fun z=>by rw [e'] at z;cases z)⟩⟩⟩
   rw [e'] at e3
   cases e3
   have s16:=s15.trans s6
   refine ba fun D5 n5=>⟨(),rfl,(),rfl,rfl,(),uD (n5 _ _ ?_)⟩
   obtain ⟨kvs,hW,vW⟩:=(kn.sm s16).d
   obtain ⟨ob,vb,hob⟩:=vW lb hlb
   obtain ⟨oe,ve,hoe⟩:=vW le hle
   have kb:=sc.k5 lb
   have ke:=sc.k5 le
   refine ba fun D6 n6=>⟨(),rfl,(),cf ?_⟩
   refine ⟨(),(),(),(),W,kvs,Sum.inr (S lb),.ref ob,rfl,rfl,hW,vb,(),(),W,kvs,Sum.inr (S le),.ref oe,rfl,rfl,hW,ve,ob,oe,κ lb,κ le,_,_,_,(),hob,hoe,lC kb,lC ke,by ext,by ext,by ext,by ext,(fun _=>ke.1),fun q1 G1 m1=>⟨o,q1,_,cu (κ lb) (κ le),_,_,5,5,rfl,m1.sm _ _ (s6 _ _ ho),m1.at',gb,(lC kb).ovr (lC ke) ke.1 (by ext) (by ext),by ext,by ext,by ext,by ext,(fun z=>by cases z),fun q2 G2 m2=>?_⟩⟩
   have sG:=m1.sm.trans m2.sm
   have gp:=gb.tim ((lC kb).ovr (lC ke) ke.1 (e:=5) (f:=5) (by ext) (by ext)) (e:=1505) (f:=1505) (by ext) (by ext)
   obtain ⟨o1,o2,o3⟩:=Au ⟨kb.1,kb.2.2.1⟩ ⟨ke.1,ke.2.2.1⟩
   have eqf:wv'=KM.lTim wv (cu (κ lb) (κ le)):=by
    have rd:KM.Rd (KM.lTim wv (cu (κ lb) (κ le))):=KM.Rd.low (Int.ne_of_gt (mul_pos (by have:=gb.pos;lia) (by lia)))
    refine (FN'.pv.pos lb wv' e').2.eq rd ?_
    have ev:KM.vl (KM.lTim wv (cu (κ lb) (κ le)))=KM.vl wv*KM.vl (cu (κ lb) (κ le)):=KM.vl_tim (by have:=gb.pos;lia) (by lia)
    have kp:=(K5.mes sc.k5).pos le
    have eq1:KM.vl wv'*KM.vl (κ le)=KM.vl wv*KM.vl (κ lb):=Rat.le_antisymm le2 le1
    have eq2:KM.vl wv'*KM.vl (κ le)=KM.vl (KM.lTim wv (cu (κ lb) (κ le)))*KM.vl (κ le):=by rw [eq1,ev,Rat.mul_assoc,o1]
    refine Rat.le_antisymm (Rat.not_lt.mp fun z=>?_) (Rat.not_lt.mp fun z=>?_)
    ·have:=Rat.mul_lt_mul_of_pos_right z kp
     rw [eq2] at this
     exact Rat.lt_irrefl this
    ·have:=Rat.mul_lt_mul_of_pos_right z kp
     rw [eq2] at this
     exact Rat.lt_irrefl this
   refine ⟨gh wv',gh (KM.lTim wv (cu (κ lb) (κ le))),ED,ED,_,_,_,_,i8 (sG _ _ ho'),i8 m2.at',vC gb' (by ext) (by ext),vC gp (by ext) (by ext),by ext,(),?_⟩
   rw [←eqf,wt]
   refine aX (n6 _ _ ?_)
   have s16':=s16.trans sG
   refine bt fun Q7 n7=>⟨(),.ref na,ls,ts,rfl,iN.mono s16'.toE,tc,h24,l1,l10,.inl ⟨mx,hmx,emx,fun m r xs H7 hm7 em7 s7 f7 hr7 lx vx gx=>n7 _ _ ?_⟩⟩
   have s17:=s16'.trans s7
   have tl:wT H7 r xs ls (aW ts m).ω:=⟨hr7,lx,vx,gx⟩
   refine ba fun D8 n8=>⟨(),(),.ref na,r,xs,ls,ts,(aW ts m).ω,rfl,iN.mono s17.toE,tc,by lia,by lia,nd,hr7,lx,vx,gx,fun l _=>(nq tk m l).2.1,fun t ht=>(tu (s:=aW ts m) em7).2 t ht,fun H8 s8=>⟨(),aX ?_⟩⟩
   have s18:=s17.trans s8
   refine ⟨(),(),.ref na,r,xs,ls,ts,m,rfl,iN.mono s18.toE,tc,h24,l1,l10,nd,hm7,em7,tl.sm s8,fun H9 s9=>⟨(),aX (n8 _ _ ?_)⟩⟩
   have s19:=s18.trans s9
   refine ⟨(),(),(),b,t1,.ref na,r,xs,ls,ts,m,rfl,B1.same s19,by lia,by lia,iN.mono s19.toE,tc,n1',h24,l1,l10,em7,tl.sm (s8.trans s9),fun z=>(B1.same s16').ne f7 z.symm,fun t' HA sA BA ha hb=>?_⟩
   exact k t' HA ((s1.trans s19.toE).trans sA) BA (by lia) (by lia)
end
end K15
namespace K15
open PySem L2
set_option maxHeartbeats 8000000
section
variable {P:Program}{w:World}{K:Frag}{mg:Str→Option Value}{base:Heap}
inductive Il (K:Frag) (vs:List V) (H:Hp) (Q:VK):Prop
 | mk (a:Addr) (ns:List Int) (h0:vs=[.ref a]) (h1:aq K H a (ns.map V.int)) (h2:ns.length≤63) (h3:∀H',Q (.bl true) H')
def spLaw (K:Frag):Sp:=fun vs H Q _=>Il K vs H Q
theorem law_start {H:Hp}{a:Addr}{ns:List Int} (hl:ns.length≤63) (_:xM H) (hS:aq K H a (ns.map V.int)):spLaw K [.ref a] H (fun v _=>v=.bl true) fun _ _ _=>False:=
 ⟨a,ns,rfl,hS,hl,fun _=>rfl⟩
theorem law_ok (T:Txt K mg):aQ P w K mg base CX0 40 T.law_.f T.law_.d ["_law_script"] (spLaw K):=by
 have G_l_folded:=#[(CJ)]
 have G_l_box:=#[(Hj)]
 have G_l_net_by:=#[(Cw)]
 have G_l_right:=#[(Bp)]
 refine T.law_.F.ok ug (fun vs H Q E h=>?_) (fun cdv A outer s H vs Q E hr h=>?_)
 ·obtain ⟨a,ns,rfl,_⟩:=h
  rfl
 ·obtain ⟨a,ns,rfl,hS,hn,k⟩:=h
  refine ⟨_,#[#[1,ug.nd,mw,#[G_l_folded,xL,T.l_folded_,#[[#[0,xA],#[()]]]]] :: #[#[dX 8 PassesOwn.never rfl #[gn 6 vk T.b_range #[[#[(),(),(@CN _ rfl),CK,T.b_max,(@wV),#[[#[()],#[(),(),(@eG _ (K) (by rfl)),DQ,T.b_len,(@bh),#[[#[1,mw]]]]]]]]] (by rfl)] #[2,ug.nd,yn] #[#[3,ug.nd,ju,#[G_l_box,AI,T.l_box_,#[[#[1,mw],#[2,yn]]]]] :: #[ac 3 #[dX 8 PassesOwn.never rfl #[gn 6 vk T.b_range #[[#[()]]] (by rfl)] #[4,ug.nd,zy] #[ac 3 #[bd 8 #[da 4 #[bQ 3 #[G_l_right,yD,T.l_right_,#[[#[3,ju],#[G_l_net_by,xx,T.l_net_by_,#[[#[3,ju],#[()],#[()]]]]]]] (by intro _;rfl)]] #[ac 3 #[am 4 #[cM 4]]] (@aJ _)]] (by intro _;rfl)]]] (by intro _;rfl)] :: #[ac 3 #[am 4 #[cM 4]]]]],?_⟩
  refine ba fun DA nA=>?_
  refine ⟨(),a,ns,3,rfl,hS,hn,by ext,by ext,fun p ms H1 hp s1 hp1 hm4=>?_⟩
  refine nA _ _ ?_
  have hmx:0≤(if ((ms.map V.int).length:Int) > 2 then ((ms.map V.int).length:Int) else 2)∧(if ((ms.map V.int).length:Int) > 2 then ((ms.map V.int).length:Int) else 2)≤4:=by
   rw [length_map]
   split <;> lia
  refine ba fun DX nX=>?_
  refine ⟨(),p,(),.inl (aq.of hp1),_,(),(),by lia,by lia,?_⟩
  generalize (if ((ms.map V.int).length:Int) > 2 then ((ms.map V.int).length:Int) else 2)=mx at hmx
  refine o5 (fun i σ H'=>eF fun v2 v3 v4=>σ=[some (.ref a),some (.ref p),v2,v3,v4]∧H' p=some (.lst (ms.map V.int))) ⟨_,_,(),hp1⟩ ?_ ?_
  case refine_2=>
   rintro σ H2 ⟨v2,v3,v4,rfl,hp2⟩
   exact nX _ _ (k _)
  rintro i σ H2 hi ⟨v2,v3,v4,rfl,hp2⟩
  refine pA (t:=kN _ _) fun DB nB=>?_
  refine ba fun DC nC=>?_
  refine ⟨(),(),p,ms,(),aq.of hp2,by lia,by lia,fun b H3 hb s3 B3=>?_⟩
  refine nC _ _ ?_
  have npb:¬p=b:=fun z=>by rw [z,hb] at hp2;cases hp2
  have hp3:=s3 _ _ hp2
  refine ⟨3,rfl,by ext,by ext,o5 (fun i' σ H'=>aT fun (v4:Option V) (t':Int)=>σ=[some (.ref a),some (.ref p),some (.int (0+(i:Int))),some (.ref b),v4]∧Bx H' b t'∧0≤t'∧t'≤3000*i'∧aK (Eb b) H3 H') ⟨_,0,rfl,B3,by lia,by lia,aK.refl _⟩ ?_ ?_⟩
  case refine_2=>
   rintro σ H' ⟨v4,t',rfl,_,_,_,sE⟩
   exact nB _ _ ⟨_,_,(),sE.old p _ npb hp3⟩
  rintro i' σ H4 hi' ⟨v4,t4,rfl,B4,h40,h41,sE4⟩
  refine pA (t:=Ei _ _ _) fun DD nD=>?_
  refine ⟨(),(),b,6,9,t4,rfl,B4,by lia,by lia,by ext,by ext,by ext,by ext,fun nv ls ts t5 H5 s5 iN l2 l10 nd nc l1 l24 tc B5 h5a h5b=>⟨b,t5,nv,ls,ts,rfl,B5,by lia,by lia,iN,tc,l1,l24,l2,l10,nd,fun t' H6 s6 B6 h6a h6b=>⟨(),aX (nD _ _ ⟨_,t',rfl,B6,by lia,by lia,(sE4.trans s5).trans s6⟩)⟩⟩⟩
end
end K15
namespace K15
open PySem L2
set_option maxHeartbeats 0 in
theorem txt_of {K:Frag}{h:Heap}{mg:Str→Option Value} (y:obs K=due) (X:K.In h) (G:h.Ns mainGlobals mg):∃T:Txt K mg,∀(s:Shared) (u:Value),BindsTo s T.law_.d ⟨[u],[]⟩ [("_law_script",u)]:=by
 have e:∀i,(obs K).1.getD i none=due.1.getD i none:=fun i=>by rw [y]
 have b:∀i,(obs K).2.getD i true=due.2.getD i true:=fun i=>by rw [y]
 refine ⟨{
  b_ValueError:=mg_none_of X G (cr (b 65)),
  b_abs:=mg_none_of X G (cr (b 66)),
  b_all:=mg_none_of X G (cr (b 67)),
  b_any:=mg_none_of X G (cr (b 68)),
  b_bool:=mg_none_of X G (cr (b 69)),
  b_dict:=mg_none_of X G (cr (b 70)),
  b_divmod:=mg_none_of X G (cr (b 71)),
  b_enumerate:=mg_none_of X G (cr (b 72)),
  b_int:=mg_none_of X G (cr (b 73)),
  b_isinstance:=mg_none_of X G (cr (b 74)),
  b_len:=mg_none_of X G (cr (b 75)),
  b_list:=mg_none_of X G (cr (b 76)),
  b_max:=mg_none_of X G (cr (b 77)),
  b_range:=mg_none_of X G (cr (b 78)),
  b_set:=mg_none_of X G (cr (b 79)),
  b_tuple:=mg_none_of X G (cr (b 80)),
  b_zip:=mg_none_of X G (cr (b 81)),
  is_number_:=⟨_,_,mg_of X G (aZ (e 0)),ai (e 0),(ai (e 0)).binds (ps:=["thing"]) fun _ _ _ _ _ _=>kW (fun _=>rfl)⟩,
  common_divisor_:=⟨_,_,mg_of X G (aZ (e 1)),ai (e 1),(ai (e 1)).binds (ps:=["n", "d"]) fun _ _ _ _ _ _=>cb (fun _ _=>rfl)⟩,
  is_fraction_:=⟨_,_,mg_of X G (aZ (e 2)),ai (e 2),(ai (e 2)).binds (ps:=["thing"]) fun _ _ _ _ _ _=>kW (fun _=>rfl)⟩,
  is_above_nought_:=⟨_,_,mg_of X G (aZ (e 3)),ai (e 3),(ai (e 3)).binds (ps:=["thing"]) fun _ _ _ _ _ _=>kW (fun _=>rfl)⟩,
  fraction_:=⟨_,_,mg_of X G (aZ (e 4)),ai (e 4),(ai (e 4)).binds (ps:=["n", "d"]) fun _ _ _ _ _ _=>cb (fun _ _=>rfl)⟩,
  times_:=⟨_,_,mg_of X G (aZ (e 5)),ai (e 5),(ai (e 5)).binds (ps:=["one", "other"]) fun _ _ _ _ _ _=>cb (fun _ _=>rfl)⟩,
  over_:=⟨_,_,mg_of X G (aZ (e 6)),ai (e 6),(ai (e 6)).binds (ps:=["one", "other"]) fun _ _ _ _ _ _=>cb (fun _ _=>rfl)⟩,
  compared_:=⟨_,_,mg_of X G (aZ (e 7)),ai (e 7),(ai (e 7)).binds (ps:=["one", "other"]) fun _ _ _ _ _ _=>cb (fun _ _=>rfl)⟩,
  least_:=⟨_,_,mg_of X G (aZ (e 8)),ai (e 8),(ai (e 8)).binds (ps:=["parts"]) fun _ _ _ _ _ _=>kW (fun _=>rfl)⟩,
  is_shut_:=⟨_,_,mg_of X G (aZ (e 9)),ai (e 9),(ai (e 9)).binds (ps:=["tie"]) fun _ _ _ _ _ _=>kW (fun _=>rfl)⟩,
  lift_once_:=⟨_,_,mg_of X G (aZ (e 10)),ai (e 10),(ai (e 10)).binds (ps:=["net", "worths", "onward"]) fun _ _ _ _ _ _=>tH (fun _ _ _=>rfl)⟩,
  round_ahead_:=⟨_,_,mg_of X G (aZ (e 11)),ai (e 11),(ai (e 11)).binds (ps:=["net", "onward", "place"]) fun _ _ _ _ _ _=>tH (fun _ _ _=>rfl)⟩,
  gaining_round_:=⟨_,_,mg_of X G (aZ (e 12)),ai (e 12),(ai (e 12)).binds (ps:=["net"]) fun _ _ _ _ _ _=>kW (fun _=>rfl)⟩,
  lift_all_:=⟨_,_,mg_of X G (aZ (e 13)),ai (e 13),(ai (e 13)).binds (ps:=["net", "worths"]) fun _ _ _ _ _ _=>cb (fun _ _=>rfl)⟩,
  holding_worths_:=⟨_,_,mg_of X G (aZ (e 14)),ai (e 14),(ai (e 14)).binds (ps:=["net"]) fun _ _ _ _ _ _=>kW (fun _=>rfl)⟩,
  holds_:=⟨_,_,mg_of X G (aZ (e 15)),ai (e 15),(ai (e 15)).binds (ps:=["tie", "worths"]) fun _ _ _ _ _ _=>cb (fun _ _=>rfl)⟩,
  shows_holding_:=⟨_,_,mg_of X G (aZ (e 16)),ai (e 16),(ai (e 16)).binds (ps:=["net", "thing"]) fun _ _ _ _ _ _=>cb (fun _ _=>rfl)⟩,
  greatest_gain_:=⟨_,_,mg_of X G (aZ (e 17)),ai (e 17),(ai (e 17)).binds (ps:=["net", "begin", "end"]) fun _ _ _ _ _ _=>tH (fun _ _ _=>rfl)⟩,
  best_way_:=⟨_,_,mg_of X G (aZ (e 18)),ai (e 18),(ai (e 18)).binds (ps:=["net", "begin", "end"]) fun _ _ _ _ _ _=>tH (fun _ _ _=>rfl)⟩,
  are_ties_:=⟨_,_,mg_of X G (aZ (e 19)),ai (e 19),(ai (e 19)).binds (ps:=["net", "thing"]) fun _ _ _ _ _ _=>cb (fun _ _=>rfl)⟩,
  is_way_:=⟨_,_,mg_of X G (aZ (e 20)),ai (e 20),(ai (e 20)).binds (ps:=["net", "thing"]) fun _ _ _ _ _ _=>cb (fun _ _=>rfl)⟩,
  is_round_:=⟨_,_,mg_of X G (aZ (e 21)),ai (e 21),(ai (e 21)).binds (ps:=["net", "thing"]) fun _ _ _ _ _ _=>cb (fun _ _=>rfl)⟩,
  gain_of_:=⟨_,_,mg_of X G (aZ (e 22)),ai (e 22),(ai (e 22)).binds (ps:=["net", "way"]) fun _ _ _ _ _ _=>cb (fun _ _=>rfl)⟩,
  goes_on_:=⟨_,_,mg_of X G (aZ (e 23)),ai (e 23),(ai (e 23)).binds (ps:=["net", "way", "much"]) fun _ _ _ _ _ _=>tH (fun _ _ _=>rfl)⟩,
  room_of_:=⟨_,_,mg_of X G (aZ (e 24)),ai (e 24),(ai (e 24)).binds (ps:=["net", "way"]) fun _ _ _ _ _ _=>cb (fun _ _=>rfl)⟩,
  l_box_:=⟨_,_,mg_of X G (aZ (e 25)),ai (e 25),(ai (e 25)).binds (ps:=["_law_script", "_law_k"]) fun _ _ _ _ _ _=>cb (fun _ _=>rfl)⟩,
  l_take_:=⟨_,_,mg_of X G (aZ (e 26)),ai (e 26),(ai (e 26)).binds (ps:=["_law_box_here", "_law_many"]) fun _ _ _ _ _ _=>cb (fun _ _=>rfl)⟩,
  l_folded_:=⟨_,_,mg_of X G (aZ (e 27)),ai (e 27),(ai (e 27)).binds (ps:=["_law_script", "_law_many"]) fun _ _ _ _ _ _=>cb (fun _ _=>rfl)⟩,
  l_frac_:=⟨_,_,mg_of X G (aZ (e 28)),ai (e 28),(ai (e 28)).binds (ps:=["_law_n", "_law_d"]) fun _ _ _ _ _ _=>cb (fun _ _=>rfl)⟩,
  l_product_:=⟨_,_,mg_of X G (aZ (e 29)),ai (e 29),(ai (e 29)).binds (ps:=["_law_one", "_law_other"]) fun _ _ _ _ _ _=>cb (fun _ _=>rfl)⟩,
  l_over_:=⟨_,_,mg_of X G (aZ (e 30)),ai (e 30),(ai (e 30)).binds (ps:=["_law_one", "_law_other"]) fun _ _ _ _ _ _=>cb (fun _ _=>rfl)⟩,
  l_above_:=⟨_,_,mg_of X G (aZ (e 31)),ai (e 31),(ai (e 31)).binds (ps:=["_law_one", "_law_other"]) fun _ _ _ _ _ _=>cb (fun _ _=>rfl)⟩,
  l_names_by_:=⟨_,_,mg_of X G (aZ (e 32)),ai (e 32),(ai (e 32)).binds (ps:=["_law_box_here", "_law_many"]) fun _ _ _ _ _ _=>cb (fun _ _=>rfl)⟩,
  l_any_gain_:=⟨_,_,mg_of X G (aZ (e 33)),ai (e 33),(ai (e 33)).binds (ps:=["_law_box_here"]) fun _ _ _ _ _ _=>kW (fun _=>rfl)⟩,
  l_any_much_:=⟨_,_,mg_of X G (aZ (e 34)),ai (e 34),(ai (e 34)).binds (ps:=["_law_box_here"]) fun _ _ _ _ _ _=>kW (fun _=>rfl)⟩,
  l_any_price_:=⟨_,_,mg_of X G (aZ (e 35)),ai (e 35),(ai (e 35)).binds (ps:=["_law_box_here"]) fun _ _ _ _ _ _=>kW (fun _=>rfl)⟩,
  l_planted_:=⟨_,_,mg_of X G (aZ (e 36)),ai (e 36),(ai (e 36)).binds (ps:=["_law_box_here", "_law_places"]) fun _ _ _ _ _ _=>cb (fun _ _=>rfl)⟩,
  l_net_by_:=⟨_,_,mg_of X G (aZ (e 37)),ai (e 37),(ai (e 37)).binds (ps:=["_law_box_here", "_law_most_places", "_law_most_ties"]) fun _ _ _ _ _ _=>tH (fun _ _ _=>rfl)⟩,
  l_all_told_:=⟨_,_,mg_of X G (aZ (e 38)),ai (e 38),(ai (e 38)).binds (ps:=["_law_which", "_law_net", "_law_begin", "_law_end"]) fun _ _ _ _ _ _=>LB (fun _ _ _ _=>rfl)⟩,
  l_refused_alike_:=⟨_,_,mg_of X G (aZ (e 39)),ai (e 39),(ai (e 39)).binds (ps:=["_law_net"]) fun _ _ _ _ _ _=>kW (fun _=>rfl)⟩,
  l_pairs_right_:=⟨_,_,mg_of X G (aZ (e 40)),ai (e 40),(ai (e 40)).binds (ps:=["_law_net", "_law_worths"]) fun _ _ _ _ _ _=>cb (fun _ _=>rfl)⟩,
  l_fewer_right_:=⟨_,_,mg_of X G (aZ (e 41)),ai (e 41),(ai (e 41)).binds (ps:=["_law_box_here", "_law_net", "_law_worths"]) fun _ _ _ _ _ _=>tH (fun _ _ _=>rfl)⟩,
  l_by_worths_:=⟨_,_,mg_of X G (aZ (e 42)),ai (e 42),(ai (e 42)).binds (ps:=["_law_box_here", "_law_net"]) fun _ _ _ _ _ _=>cb (fun _ _=>rfl)⟩,
  l_right_:=⟨_,_,mg_of X G (aZ (e 43)),ai (e 43),(ai (e 43)).binds (ps:=["_law_box_here", "_law_net"]) fun _ _ _ _ _ _=>cb (fun _ _=>rfl)⟩,
  law_:=⟨_,_,mg_of X G (aZ (e 44)),ai (e 44),(ai (e 44)).binds (ps:=["_law_script"]) fun _ _ _ _ _ _=>kW (fun _=>rfl)⟩,
  f_Gaining__init:=_,d_Gaining__init:=_,F_Gaining__init:=ai (e 45),B_Gaining__init:=(ai (e 45)).binds (ps:=["self", "ties"]) fun _ _ _ _ _ _=>cb (fun _ _=>rfl),
  f_NotSoMuch__init:=_,d_NotSoMuch__init:=_,F_NotSoMuch__init:=ai (e 46),B_NotSoMuch__init:=(ai (e 46)).binds (ps:=["self", "most"]) fun _ _ _ _ _ _=>cb (fun _ _=>rfl),
  f_Short__init:=_,d_Short__init:=_,F_Short__init:=ai (e 47),B_Short__init:=(ai (e 47)).binds (ps:=["self", "share"]) fun _ _ _ _ _ _=>cb (fun _ _=>rfl),
  f_Lacking__init:=_,d_Lacking__init:=_,F_Lacking__init:=ai (e 48),B_Lacking__init:=(ai (e 48)).binds (ps:=["self", "place"]) fun _ _ _ _ _ _=>cb (fun _ _=>rfl),
  f_BadRow__init:=_,d_BadRow__init:=_,F_BadRow__init:=ai (e 49),B_BadRow__init:=(ai (e 49)).binds (ps:=["self", "row"]) fun _ _ _ _ _ _=>cb (fun _ _=>rfl),
  f_BadSheet__init:=_,d_BadSheet__init:=_,F_BadSheet__init:=ai (e 50),B_BadSheet__init:=(ai (e 50)).binds (ps:=["self", "row"]) fun _ _ _ _ _ _=>cb (fun _ _=>rfl),
  x_GainError:=_,m_GainError:=mg_of X G (dH (b 0)),k_GainError:=(b 15),xb_GainError:=(b 16),
  x_BadNumber:=_,m_BadNumber:=mg_of X G (dH (b 1)),k_BadNumber:=(b 17),q_BadNumber:=(b 18),
  x_Taken:=_,m_Taken:=mg_of X G (dH (b 2)),k_Taken:=(b 19),q_Taken:=(b 20),
  x_NoPlace:=_,m_NoPlace:=mg_of X G (dH (b 3)),k_NoPlace:=(b 21),q_NoPlace:=(b 22),
  x_NoTie:=_,m_NoTie:=mg_of X G (dH (b 4)),k_NoTie:=(b 23),q_NoTie:=(b 24),
  x_AsItIs:=_,m_AsItIs:=mg_of X G (dH (b 5)),k_AsItIs:=(b 25),q_AsItIs:=(b 26),
  x_NoEnds:=_,m_NoEnds:=mg_of X G (dH (b 6)),k_NoEnds:=(b 27),q_NoEnds:=(b 28),
  x_Over:=_,m_Over:=mg_of X G (dH (b 7)),k_Over:=(b 29),q_Over:=(b 30),
  x_TooMuch:=_,m_TooMuch:=mg_of X G (dH (b 8)),k_TooMuch:=(b 31),q_TooMuch:=(b 32),
  x_Gaining:=_,m_Gaining:=mg_of X G (dH (b 9)),k_Gaining:=(b 33),fn_Gaining:=(b 34),st_Gaining:=(b 35),fd_Gaining:=(b 36),q_Gaining:=(b 37),
  x_NotSoMuch:=_,m_NotSoMuch:=mg_of X G (dH (b 10)),k_NotSoMuch:=(b 38),fn_NotSoMuch:=(b 39),st_NotSoMuch:=(b 40),fd_NotSoMuch:=(b 41),q_NotSoMuch:=(b 42),
  x_Short:=_,m_Short:=mg_of X G (dH (b 11)),k_Short:=(b 43),fn_Short:=(b 44),st_Short:=(b 45),fd_Short:=(b 46),q_Short:=(b 47),
  x_Lacking:=_,m_Lacking:=mg_of X G (dH (b 12)),k_Lacking:=(b 48),fn_Lacking:=(b 49),st_Lacking:=(b 50),fd_Lacking:=(b 51),q_Lacking:=(b 52),
  x_BadRow:=_,m_BadRow:=mg_of X G (dH (b 13)),k_BadRow:=(b 53),fn_BadRow:=(b 54),st_BadRow:=(b 55),fd_BadRow:=(b 56),q_BadRow:=(b 57),
  x_BadSheet:=_,m_BadSheet:=mg_of X G (dH (b 14)),k_BadSheet:=(b 58),fn_BadSheet:=(b 59),st_BadSheet:=(b 60),fd_BadSheet:=(b 61),q_BadSheet:=(b 62),
  em_Gaining_GainError:=(FZ (b 63)),
  kin:=(b 64) },fun s u=>?_⟩
 obtain ⟨_,_,_,_,_,_,_,_,_,z,_⟩:=(ai (e 44):oD K "law" "law" fQ _ _).ex
 show BindsTo s (jg K (nsIn K mainGlobals "law")) _ _
 rw [z]
 exact .of_eq rfl
end K15
open PySem PySem.W PyProof.Rows
set_option maxRecDepth 100000 in
set_option maxHeartbeats 0 in
theorem PySem.Challenge.cw_gainroads_k15_whole_rounds_and_worths_holds : PySem.Challenge.rw_gainroads_k15_whole_rounds_and_worths.Holds := by
 w_on;o_law
 refine holds_openX (q:=K15.qv) (loose:=[]) (Xt:=L2.Xt) (XP:=XL K15.qv []) (Yf:=L2.Yf) (Ya:=fun _=>K15.due) (N:=9650) (L2.left_tree rfl rfl (fun _=>rfl) L2.left) (fun s e=>xl_of s (Bool.and_eq_true_iff.mp e).1) XL.keeps (by rfl) (by rfl) (by rfl) (fun s e=>recFacts_of (Bool.and_eq_true_iff.mp e).2) (by rfl) (by first | assumption | decide +kernel) (by nofun) ⟨rfl,rfl,rfl,rfl,rfl,by nofun⟩ ?hw ?hc
 case hw=>w_witness2
 refine L2.walk_ofY (obs:=K15.obs) (due:=K15.due) (l:=PySem.Challenge.rw_gainroads_k15_whole_rounds_and_worths) (n:=63) (k:=40) (x := "_law_script") (CX:=L2.CX0) (sp:=K15.spLaw) rfl (by ext) rfl ⟨rfl,by ext,by ext,rfl⟩ ?F ?S ?C
 case F=>
  intro K w mg fa h y KX G hmg
  obtain ⟨T,hb⟩:=K15.txt_of y KX G
  have e0:=hmg.symm.trans T.law_.m
  cases e0
  exact ⟨T.law_.d,hb,fun base kb nb=>K15.law_ok T⟩
 case S=>exact fun K H a ns hl hO hS=>K15.law_start hl hO hS
 case C=>exact fun _ _ _ _ z=>z
