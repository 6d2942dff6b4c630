import PyProof.Rows.All
import Wide.All
import OpenK.AllK
import Wide.FinOn
import Lean
import PyProof.EqAt
import PyProof.EqKinds
import PyProof.TupleCall
import PyProof.CompFree
import PyProof.CompMap
import KE.LcSums
import PyProof.ZipIter
import PyProof.Draws
import KE.KRevSl
import KE.KListMore
import PyProof.Rows.StrJoin2
import PyProof.Rows.StrFin3
import PyProof.StrOps2
import PyProof.NeData
import PyProof.P3Eq
import PyProof.StrLawsRepr
import PyProof.ReprLen
import PyProof.Rows.IntBool
import PyProof.SliceStr2
import PyProof.P3In
import PyProof.Rows.StrLen
import KE.KStrOpen
import PyProof.FitsInt
import PyProof.Rows.ReprOcc
import PyProof.ListRange
import PyProof.AttrMissHeap
import PyProof.FactsAll.zip
import PyProof.FactsAll.tuple_3
import KE.KDictOf
import PyProof.SeqRoads2
import PyProof.DictCompW
import PyProof.Rows.StrInSeq3
import OpenK.KOwn
import KE.KIsAll
import KE.KTryMore
import PyProof.StationsW
import PyProof.RulesAs
import PyProof.NsDelKeeps
import KE.KDictSum
import KE.KIntText
import PyProof.StrCalls2
import PyProof.Rows.StrItems
import PyProof.DictUpdate
import PyProof.Rows.StrSplitCount
import PyProof.Rows.StrFirst
import PyProof.Rows.StrLawsPart
import PyProof.Rows.StrDigitsNeg
import KE.IntTextLaws
import PyProof.Rows.FStr
import PyProof.SeqRoads
import PyProof.Rows.SeqMore
import KE.KEqDict
import PyProof.FactsAll.tuple_2
import PyProof.DictValues
import PyProof.FactsAll.dict_4
import PyProof.Rows.SortStr
import PyProof.CollectIter
import PyProof.FactsAll.set_1
import PyProof.FactsAll.set_2
import PyProof.FactsAll.bool_1
import PySem.Challenge.RW_gainroads_k18_betterings_told
set_option Elab.async false
set_option linter.all false
set_option maxRecDepth 100000
local macro_rules | `(tactic| nofun)=>`(tactic| decide +kernel)
local macro_rules | `(⟨$xs,*⟩)=>do
 let es:=xs.getElems
 unless es.any (fun e=>match e with | `(())=>true | _=>false) do Lean.Macro.throwUnsupported
 let mut o:=#[]
 for e in es do
  match e with
  | `(())=>o:=(o.push (←`(_))).push (←`(rfl))
  | _=>o:=o.push e
 `(⟨$o,*⟩)
set_option genSizeOf false
set_option genInjectivity false
namespace L2
inductive aZ {α0 α1:Type} (p:α0→α1→Prop):Prop
 | mk (a0:α0) (a1:α1) (h:p a0 a1)
inductive fD {α0 α1 α2:Type} (p:α0→α1→α2→Prop):Prop
 | mk (a0:α0) (a1:α1) (a2:α2) (h:p a0 a1 a2)
inductive tQ {α0 α1 α2 α3:Type} (p:α0→α1→α2→α3→Prop):Prop
 | mk (a0:α0) (a1:α1) (a2:α2) (a3:α3) (h:p a0 a1 a2 a3)
inductive A3 {α0 α1 α2 α3 α4:Type} (p:α0→α1→α2→α3→α4→Prop):Prop
 | mk (a0:α0) (a1:α1) (a2:α2) (a3:α3) (a4:α4) (h:p a0 a1 a2 a3 a4)
inductive AF {α0 α1 α2 α3 α4 α5:Type} (p:α0→α1→α2→α3→α4→α5→Prop):Prop
 | mk (a0:α0) (a1:α1) (a2:α2) (a3:α3) (a4:α4) (a5:α5) (h:p a0 a1 a2 a3 a4 a5)
inductive KR {α0 α1 α2 α3 α4 α5 α6:Type} (p:α0→α1→α2→α3→α4→α5→α6→Prop):Prop
 | mk (a0:α0) (a1:α1) (a2:α2) (a3:α3) (a4:α4) (a5:α5) (a6:α6) (h:p a0 a1 a2 a3 a4 a5 a6)
inductive Jf {α0 α1 α2 α3 α4 α5 α6 α7:Type} (p:α0→α1→α2→α3→α4→α5→α6→α7→Prop):Prop
 | mk (a0:α0) (a1:α1) (a2:α2) (a3:α3) (a4:α4) (a5:α5) (a6:α6) (a7:α7) (h:p a0 a1 a2 a3 a4 a5 a6 a7)
inductive IH {α0 α1 α2 α3 α4 α5 α6 α7 α8:Type} (p:α0→α1→α2→α3→α4→α5→α6→α7→α8→Prop):Prop
 | mk (a0:α0) (a1:α1) (a2:α2) (a3:α3) (a4:α4) (a5:α5) (a6:α6) (a7:α7) (a8:α8) (h:p a0 a1 a2 a3 a4 a5 a6 a7 a8)
inductive Ez {α0 α1 α2 α3 α4 α5 α6 α7 α8 α9:Type} (p:α0→α1→α2→α3→α4→α5→α6→α7→α8→α9→Prop):Prop
 | mk (a0:α0) (a1:α1) (a2:α2) (a3:α3) (a4:α4) (a5:α5) (a6:α6) (a7:α7) (a8:α8) (a9:α9) (h:p a0 a1 a2 a3 a4 a5 a6 a7 a8 a9)
inductive Lj {α0 α1 α2 α3 α4 α5 α6 α7 α8 α9 α10:Type} (p:α0→α1→α2→α3→α4→α5→α6→α7→α8→α9→α10→Prop):Prop
 | mk (a0:α0) (a1:α1) (a2:α2) (a3:α3) (a4:α4) (a5:α5) (a6:α6) (a7:α7) (a8:α8) (a9:α9) (a10:α10) (h:p a0 a1 a2 a3 a4 a5 a6 a7 a8 a9 a10)
inductive LH {α0 α1 α2 α3 α4 α5 α6 α7 α8 α9 α10 α11:Type} (p:α0→α1→α2→α3→α4→α5→α6→α7→α8→α9→α10→α11→Prop):Prop
 | mk (a0:α0) (a1:α1) (a2:α2) (a3:α3) (a4:α4) (a5:α5) (a6:α6) (a7:α7) (a8:α8) (a9:α9) (a10:α10) (a11:α11) (h:p a0 a1 a2 a3 a4 a5 a6 a7 a8 a9 a10 a11)
end L2
set_option genSizeOf true
set_option genInjectivity true
local macro_rules | `(tactic| trivial)=>`(tactic| first | lia | omega)
namespace L2
open PySem PySem.Spec PyProof.Rows
abbrev ay:=Sum Int Str
def bG:ay→Value→Bool
 | .inl k,v=>Value.isInt k v
 | .inr x,v=>Value.isStrOf x v
def Lw (w:World):ay→Int
 | .inl k=>hashInt k
 | .inr x=>hashStr w x
theorem cg:∀{k:ay}{v:Value},bG k v=true→(aZ fun i t=>k=Sum.inl i∧v=Value.int i t)∨(aZ fun x t=>k=Sum.inr x∧v=Value.str x t)
 | .inl i,v,h=>by
  obtain ⟨t,e⟩:=Value.isInt_shape (k:=i) (v:=v) h
  exact .inl ⟨i,t,rfl,e⟩
 | .inr x,v,h=>by
  obtain ⟨t,e⟩:=Value.isStrOf_shape (x:=x) (v:=v) h
  exact .inr ⟨x,t,rfl,e⟩
theorem DS (i:Int) (t:Tok):bG (.inl i) (.int i t)=true:=by simp [bG,Value.isInt]
theorem Dr (x:Str) (t:Tok):bG (.inr x) (.str x t)=true:=by simp [bG,Value.isStrOf]
theorem IM (a b:Int):decide ((Sum.inl a:ay)=Sum.inl b)=(a==b):=by
 by_cases e:a=b
 ·subst e;simp
 ·have h:¬(Sum.inl a:ay)=Sum.inl b:=fun q=>e (Sum.inl.inj q)
  rw [decide_eq_false h]
  exact (beq_eq_false_iff_ne.mpr e).symm
theorem Hy (a b:Str):decide ((Sum.inr a:ay)=Sum.inr b)=decide (a=b):=by
 by_cases e:a=b
 ·subst e;simp
 ·have h:¬(Sum.inr a:ay)=Sum.inr b:=fun q=>e (Sum.inr.inj q)
  rw [decide_eq_false h,decide_eq_false e]
theorem Ir (a:Int) (b:Str):decide ((Sum.inl a:ay)=Sum.inr b)=false:=decide_eq_false (fun q=>nomatch q)
theorem IB (a:Str) (b:Int):decide ((Sum.inr a:ay)=Sum.inl b)=false:=decide_eq_false (fun q=>nomatch q)
def aG (prog:Program) (w:World):PySem.KeyKind prog w ay where
 is:=bG
 hash:=Lw w
 inj:=fun v a b ha hb=>by
  rcases cg ha with ⟨i,t,rfl,rfl⟩ | ⟨x,t,rfl,rfl⟩
  ·rcases cg hb with ⟨j,u,rfl,e⟩ | ⟨y,u,rfl,e⟩
   ·injection e with e1 _;rw [e1]
   ·exact nomatch e
  ·rcases cg hb with ⟨j,u,rfl,e⟩ | ⟨y,u,rfl,e⟩
   ·exact nomatch e
   ·injection e with e1 _;rw [e1]
 byValue:=fun k v h=>by
  rcases cg h with ⟨i,t,rfl,rfl⟩ | ⟨x,t,rfl,rfl⟩ <;> rfl
 pyHash:=fun hv h=>by
  rcases cg hv with ⟨i,t,rfl,rfl⟩ | ⟨x,t,rfl,rfl⟩
  ·exact wpAny_pyHash_int h
  ·exact wpAny_pyHash_str h
 eqBool:=fun hu hv h=>by
  rcases cg hu with ⟨i,t,rfl,rfl⟩ | ⟨x,t,rfl,rfl⟩
  ·rcases cg hv with ⟨j,u,rfl,rfl⟩ | ⟨y,u,rfl,rfl⟩
   ·rw [IM] at h;exact wpAny_eqBool_int h
   ·rw [Ir] at h;exact SeqAt.EqAt.int_str i t y u _ _ _ _ h
  ·rcases cg hv with ⟨j,u,rfl,rfl⟩ | ⟨y,u,rfl,rfl⟩
   ·rw [IB] at h;exact SeqAt.EqAt.str_int x t j u _ _ _ _ h
   ·rw [Hy] at h;exact wpAny_eqBool_str h
 «strs»:=fun k x t v h=>by
  rcases cg h with ⟨i,u,rfl,e⟩ | ⟨y,u,rfl,e⟩
  ·exact nomatch e
  ·injection e with e1 _
   subst e1
   cases v <;> rfl
inductive V where
 | non | bl (b:Bool) | int (i:Int) | str (x:Str) | byt (b:Array UInt8) | flt (b:UInt64) | ref (a:Addr) | ty (n:String)
 deriving DecidableEq
def aP:V→Value→Prop
 | .non,u=>u=Value.none
 | .bl b,u=>u=Value.bool b
 | .int i,u=>∃t,u=Value.int i t
 | .str x,u=>∃t,u=Value.str x t
 | .byt b,u=>∃t,u=Value.bytes b t
 | .flt b,u=>∃t,u=Value.float b t
 | .ref a,u=>u=Value.ref a
 | .ty n,u=>u=Value.type n
abbrev aA:List V→List Value→Prop:=Paired aP
theorem aA.length {xs:List V}{us:List Value} (r:aA xs us):xs.length=us.length:=Paired.length r
theorem aA.get:∀{xs:List V}{us:List Value}{i:Nat}{x:V},aA xs us→xs[i]?=some x→∃u,us[i]?=some u∧aP x u
 | _,_,_,_,.nil,e=>by simp at e
 | _,_,0,_,.cons r _,e=>by simp at e;subst e;exact ⟨_,rfl,r⟩
 | _,_,i+1,x,.cons _ t,e=>by
  obtain ⟨u,h1,h2⟩:=aA.get (i:=i) (x:=x) t (by simpa using e)
  exact ⟨u,by simpa using h1,h2⟩
theorem aA.set {x:V}{u:Value} (r:aP x u):∀{xs:List V}{us:List Value} (i:Nat),aA xs us→aA (xs.set i x) (us.set i u)
 | _,_,_,.nil=>.nil
 | _,_,0,.cons _ t=>.cons r t
 | _,_,i+1,.cons q t=>.cons q (aA.set r i t)
theorem aA.append:∀{xs ys:List V}{us ws:List Value},aA xs us→aA ys ws→aA (xs++ys) (us++ws)
 | _,_,_,_,.nil,s=>s
 | _,_,_,_,.cons r t,s=>.cons r (aA.append t s)
theorem aA.take:∀{xs:List V}{us:List Value} (n:Nat),aA xs us→aA (xs.take n) (us.take n)
 | _,_,0,_=>.nil
 | _,_,_+1,.nil=>.nil
 | _,_,n+1,.cons r t=>.cons r (aA.take n t)
theorem aA.drop:∀{xs:List V}{us:List Value} (n:Nat),aA xs us→aA (xs.drop n) (us.drop n)
 | _,_,0,r=>r
 | _,_,_+1,.nil=>.nil
 | _,_,n+1,.cons _ t=>aA.drop n t
def tP:Option V→Option Value→Prop
 | some v,some u=>aP v u
 | none,none=>True
 | _,_=>False
def KV {κ:Type}:List (κ×V)→List (κ×Value)→Prop:=Paired fun (p:κ×V) (q:κ×Value)=>p.1=q.1∧aP p.2 q.2
def kV:ay→V
 | .inl i=>.int i
 | .inr x=>.str x
inductive HO where
 | lst (xs:List V)
 | tup (xs:List V)
 | dK (kvs:List (ay×V)) | dT (kvs:List (List ay×V))
 | set (S:Int→Bool) (n:Nat)
 | ins (C dx:Addr) (fs:List (Str×V))
 | own (x:Addr)
 | xd (fs:List (Str×V))
 | met (f x:Addr)
 | rng (lo hi:Int)
 | frz (o:Obj) (u:HO)
 | tbl (ps:Array Value)
 | ext (φ:Heap→Prop)
abbrev Hp:=Addr→Option HO
def aN (H:Hp) (a:Addr) (o:HO):Hp:=fun b=>if b=a then some o else H b
theorem aB {H:Hp}{a:Addr}{o:HO}:aN H a o a=some o:=by unfold aN;rw [if_pos rfl]
theorem aE {H:Hp}{a b:Addr}{o:HO} (h:b≠a):aN H a o b=H b:=by unfold aN;rw [if_neg h]
theorem Bg {H:Hp}{a b:Addr}{o u:HO} (h:H a=some o) (h':H b=some u) (d:o≠u):a≠b:=by
 intro e;subst e;rw [h] at h';exact d (Option.some.inj h')
theorem aS {H:Hp}{a b:Addr}{o:HO} (h:H a=some o) (h':H b=none):a≠b:=by
 intro e;subst e;rw [h] at h';cases h'
section
variable (P:Program) (w:World)
def bD (H:Hp) (h:Heap) (a:Addr):HO→Prop
 | .lst xs=>xs.length≤sizeLine∧aZ fun (its:List Value) (n:Nat)=>aA xs its∧h.get? a=some { cls:=.type "list",data:=.seq its.toArray n }
 | .tup xs=>xs.length≤sizeLine∧∃its:List Value,aA xs its∧IsTup h a its.toArray∧∃o,h.get? a=some o∧o.dict=none
 | .dK kvs=>kvs.length≤sizeLine∧(a==sysModules)=false∧∃vs,KV kvs vs∧h.DictOf (aG P w) a vs
 | .dT kvs=>kvs.length≤sizeLine∧(a==sysModules)=false∧∃xs:List (List ay×Addr×Value),
  Paired (fun (p:List ay×V) (q:List ay×Addr×Value)=>p.1=q.1∧H q.2.1=some (.tup (p.1.map kV))∧aP p.2 q.2.2) kvs xs∧
  fD fun o es ep=>h.get? a=some o∧o.ExactDict∧o.data=.dict es ep∧es.toList=xs.map (entryOfKey (tupleKind (aG P w)))∧(xs.map (·.1)).Nodup
 | .set S n=>h.SetOf (intKind P w) a S n
 | .ins C dx fs=>H dx=some (.own a)∧fs.length≤1000∧dx≠a∧h.get? a=some (PySem.W.instObj C dx)∧
  ∃mA,h.Ns1 dx mA∧(∀f,tP (fs.lookup f) (mA f))∧PySem.Within mA (fs.map (·.1))
 | .own _=>∃o,h.get? a=some o
 | .xd fs=>∃mA,h.Ns1 a mA∧∀f,tP (fs.lookup f) (mA f)
 | .rng lo hi=>fD fun t u v=>h.get? a=some { cls:=.type "range",data:=.fields #[.int lo t,.int hi u,.int 1 v] }
 | .frz o u=>h.get? a=some o∧bD H h a u
 | .tbl ps=>h.get? a=some { cls:=.none,data:=.fields ps }
 | .met f x=>h.get? a=some (PySem.W.methodObj (.ref f) (.ref x))
 | .ext φ=>φ h∧(∃o,h.get? a=some o)∧∀h1 h2:Heap,φ h1→(∀o,h1.get? a=some o→h2.get? a=some o)→φ h2
def gS (H:Hp) (h:Heap):Prop:=∀a o,H a=some o→bD P w H h a o
end
section
variable {P:Program}{w:World}{H H':Hp}{h h':Heap}{a:Addr}{o:HO}
theorem bD.lt (x:bD P w H h a o):a<h.objs.size:=by
 cases o with
 | lst xs=>obtain ⟨_,_,_,_,e⟩:=x;exact Heap.lt_size e
 | tup xs=>obtain ⟨_,_,_,p,_⟩:=x;exact p.lt
 | dK kvs=>obtain ⟨_,_,_,_,o,_,_,e,_⟩:=x;exact Heap.lt_size e
 | dT kvs=>obtain ⟨_,_,_,_,o,_,_,e,_⟩:=x;exact Heap.lt_size e
 | set S n=>obtain ⟨o,_,_,_,e,_⟩:=x;exact Heap.lt_size e
 | ins C dx fs=>obtain ⟨_,_,_,e,_⟩:=x;exact Heap.lt_size e
 | own y=>obtain ⟨_,e⟩:=x;exact Heap.lt_size e
 | xd fs=>obtain ⟨_,⟨_,_,_,e,_⟩,_⟩:=x;exact Heap.lt_size e
 | rng lo hi=>obtain ⟨_,_,_,e⟩:=x;exact Heap.lt_size e
 | frz ob u=>obtain ⟨e,_⟩:=x;exact Heap.lt_size e
 | tbl ps=>exact Heap.lt_size (show h.get? a=some _ from x)
 | met f y=>exact Heap.lt_size (show h.get? a=some _ from x)
 | ext φ=>obtain ⟨_,⟨_,e⟩,_⟩:=x;exact Heap.lt_size e
theorem Paired.mapP {α β:Type}{F G:α→β→Prop}:∀{l₁:List α}{l₂:List β},Paired F l₁ l₂→(∀a b,F a b→G a b)→Paired G l₁ l₂
 | _,_,.nil,_=>.nil
 | _,_,.cons r t,f=>.cons (f _ _ r) (Paired.mapP t f)
theorem bD.stay (x:bD P w H h a o) (k:∀b u,(b=a∨H b=some (.own a))→h.get? b=some u→h'.get? b=some u)
 (ho:∀b,H b=some (.own a)→H' b=some (.own a)) (ht:∀b xs,H b=some (.tup xs)→H' b=some (.tup xs)):bD P w H' h' a o:=by
 induction o with
 | lst xs=>obtain ⟨z,its,n,r,e⟩:=x;exact ⟨z,its,n,r,k _ _ (.inl rfl) e⟩
 | tup xs=>obtain ⟨z,its,r,⟨ob,e,c⟩,od,e',c'⟩:=x;exact ⟨z,its,r,⟨ob,k _ _ (.inl rfl) e,c⟩,od,k _ _ (.inl rfl) e',c'⟩
 | dK kvs=>obtain ⟨z,y,vs,r,ob,es,ep,e,c⟩:=x;exact ⟨z,y,vs,r,ob,es,ep,k _ _ (.inl rfl) e,c⟩
 | dT kvs=>
  obtain ⟨z,y,xs,r,ob,es,ep,e,c⟩:=x
  exact ⟨z,y,xs,Paired.mapP r fun p q z=>⟨z.1,ht _ _ z.2.1,z.2.2⟩,ob,es,ep,k _ _ (.inl rfl) e,c⟩
 | set S n=>obtain ⟨ob,es,ep,t,e,c⟩:=x;exact ⟨ob,es,ep,t,k _ _ (.inl rfl) e,c⟩
 | ins C dx fs=>
  obtain ⟨d,z,ne,e,mA,⟨od,es,ep,e2,c⟩,r⟩:=x
  exact ⟨ho _ d,z,ne,k _ _ (.inl rfl) e,mA,⟨od,es,ep,k _ _ (.inr d) e2,c⟩,r⟩
 | own y=>obtain ⟨ob,e⟩:=x;exact ⟨ob,k _ _ (.inl rfl) e⟩
 | xd fs=>obtain ⟨mA,⟨od,es,ep,e,c⟩,r⟩:=x;exact ⟨mA,⟨od,es,ep,k _ _ (.inl rfl) e,c⟩,r⟩
 | rng lo hi=>obtain ⟨t,u,v,e⟩:=x;exact ⟨t,u,v,k _ _ (.inl rfl) e⟩
 | frz ob u ih=>obtain ⟨e,q⟩:=x;exact ⟨k _ _ (.inl rfl) e,ih q⟩
 | tbl ps=>
  have e:h.get? a=some { cls:=.none,data:=.fields ps }:=x
  show h'.get? a=some { cls:=.none,data:=.fields ps }
  exact k a _ (.inl rfl) e
 | met f y=>
  have e:h.get? a=some (PySem.W.methodObj (.ref f) (.ref y)):=x
  show h'.get? a=some (PySem.W.methodObj (.ref f) (.ref y))
  exact k a _ (.inl rfl) e
 | ext φ=>obtain ⟨p,⟨o,e⟩,st⟩:=x;exact ⟨st _ _ p fun o q=>k _ _ (.inl rfl) q,⟨o,k _ _ (.inl rfl) e⟩,st⟩
theorem gS.lt (x:gS P w H h) (e:H a=some o):a<h.objs.size:=(x a o e).lt
theorem gS.fresh (x:gS P w H h) (e:h.objs.size≤a):H a=none:=by
 cases q:H a with
 | none=>rfl
 | some u=>exact absurd (Nat.lt_of_lt_of_le (x.lt q) e) (Nat.lt_irrefl _)
theorem gS.kept (x:gS P w H h) (k:∀b u,h.get? b=some u→h'.get? b=some u):gS P w H h':=fun a o e=>
 (x a o e).stay (fun b u _ q=>k b u q) (fun _ q=>q) fun _ _ q=>q
theorem gS.laid (x:gS P w H h) (k:∀b u,h.get? b=some u→h'.get? b=some u) (hp:h.objs.size≤a) (new:bD P w (aN H a o) h' a o):gS P w (aN H a o) h':=fun b u e=>by
 have hn:=x.fresh hp
 by_cases hb:b=a
 ·subst hb;rw [aB] at e;cases e;exact new
 ·rw [aE hb] at e
  exact (x b u e).stay (fun c v _ q=>k c v q) (fun c q=>by rw [aE (aS q hn)];exact q) fun c xs q=>by rw [aE (aS q hn)];exact q
end
def Rd (H:Hp) (a:Addr) (u:HO):Prop:=H a=some u∨∃o,H a=some (.frz o u)
theorem Rd.ok {P:Program}{w:World}{H:Hp}{h:Heap}{a:Addr}{u:HO} (r:Rd H a u) (x:gS P w H h):bD P w H h a u:=by
 rcases r with r | ⟨o,r⟩
 ·exact x a u r
 ·obtain ⟨_,q⟩:=x a _ r
  exact q
def Ft:Option HO→Prop
 | some (.lst _)=>True
 | some (.dK _)=>True
 | some (.dT _)=>True
 | some (.set _ _)=>True
 | some (.ins _ _ _)=>True
 | some (.ext _)=>True
 | _=>False
section
variable {P:Program}{w:World}{H:Hp}{h h':Heap}{x e:Addr}{o':HO}
theorem gS.write (ok:gS P w H h) (mu:Ft (H x)) (he:e=x∨H e=some (.own x)) (k:∀b u,b≠e→h.get? b=some u→h'.get? b=some u) (heo:∃u,h'.get? e=some u)
 (new:bD P w (aN H x o') h' x o'):gS P w (aN H x o') h':=fun b u q=>by
 have nown:∀c y,H c=some (.own y)→c≠x:=fun c y r z=>by subst z;rw [r] at mu;exact mu
 have ntup:∀c xs,H c=some (.tup xs)→c≠x:=fun c xs r z=>by subst z;rw [r] at mu;exact mu
 by_cases hb:b=x
 ·subst hb;rw [aB] at q;cases q;exact new
 ·rw [aE hb] at q
  by_cases hbe:b=e
  ·have q':H b=some (.own x):=by
    rcases he with z | z
    ·exact absurd (hbe.trans z) hb
    ·rw [hbe];exact z
   rw [q] at q';cases q'
   obtain ⟨v,hv⟩:=heo
   exact ⟨v,by rw [hbe];exact hv⟩
  ·refine (ok b u q).stay (fun c v hc r=>k c v ?_ r) (fun c r=>by rw [aE (nown c b r)];exact r) fun c xs r=>by rw [aE (ntup c xs r)];exact r
   rcases hc with rfl | hc
   ·exact hbe
   ·rintro rfl
    rcases he with z | z
    ·exact nown c b hc z
    ·rw [hc] at z;cases z;exact hb rfl
end
structure Un (fs ex:List Addr) (H H':Hp) (h h':Heap):Prop where
 keep:∀b o,h.get? b=some o→H b=none→b∉fs→b∉ex→h'.get? b=some o
 slot:∀b o,h.get? b=some o→H b=none→b∈fs→b∉ex→∃sl,h'.get? b=some { o with slots:=sl }
 free:∀b o,h.get? b=some o→H b=none→b∉ex→H' b=none
 there:∀b o,h.get? b=some o→b∉ex→∃o',h'.get? b=some o'
 tups:∀b xs,H b=some (.tup xs)→H' b=some (.tup xs)
 frzs:∀b o u,H b=some (.frz o u)→H' b=some (.frz o u)
 tbls:∀b ps,H b=some (.tbl ps)→∃more,H' b=some (.tbl (ps++more))
section
variable {fs fs' ex ex':List Addr}{H H1 H2:Hp}{h h1 h2 h':Heap}{a x e:Addr}{o:HO}
theorem Un.any (u:Un fs ex H H1 h h1) {b:Addr}{ob:Obj} (q:h.get? b=some ob) (n:H b=none) (hx:b∉ex):∃sl,h1.get? b=some { ob with slots:=sl }:=by
 by_cases hb:b∈fs
 ·exact u.slot b ob q n hb hx
 ·exact ⟨ob.slots,u.keep b ob q n hb hx⟩
theorem Un.kept (k:∀b u,h.get? b=some u→h'.get? b=some u):Un fs ex H H h h':=
 ⟨fun b ob q _ _ _=>k b ob q,fun b ob q _ _ _=>⟨ob.slots,k b ob q⟩,fun _ _ _ n _=>n,fun b ob q _=>⟨ob,k b ob q⟩,fun _ _ q=>q,fun _ _ _ q=>q,fun _ ps q=>⟨#[],by rw [q];simp⟩⟩
theorem Un.refl:Un fs ex H H h h:=Un.kept fun _ _ q=>q
theorem Un.laid (k:∀b u,h.get? b=some u→h'.get? b=some u) (hp:h.objs.size≤a) (hn:H a=none):Un fs ex H (aN H a o) h h' where
 keep:=fun b u q _ _ _=>k b u q
 slot:=fun b u q _ _ _=>⟨u.slots,k b u q⟩
 free:=fun b u q n _=>by rw [aE (Nat.ne_of_lt (Nat.lt_of_lt_of_le (Heap.lt_size q) hp))];exact n
 there:=fun b u q _=>⟨u,k b u q⟩
 tups:=fun b xs q=>by rw [aE (aS q hn)];exact q
 frzs:=fun b u xs q=>by rw [aE (aS q hn)];exact q
 tbls:=fun b ps q=>⟨#[],by rw [aE (aS q hn),q];simp⟩
theorem Un.write (mu:Ft (H x)) (he:e=x∨H e=some (.own x)) (k:∀b u,b≠e→h.get? b=some u→h'.get? b=some u) (heo:∃u,h'.get? e=some u):Un fs ex H (aN H x o) h h':=by
 have hx:∀b,H b=none→b≠x:=fun b n z=>by subst z;rw [n] at mu;exact mu
 have hb:∀b,H b=none→b≠e:=fun b n z=>by
  subst z
  rcases he with r | r
  ·exact hx b n r
  ·rw [n] at r;cases r
 have hm:∀b u,H b=some u→¬Ft (some u)→b≠x:=fun b u q nm z=>by subst z;rw [q] at mu;exact nm mu
 refine ⟨fun b u q n _ _=>k b u (hb b n) q,fun b u q n _ _=>⟨u.slots,k b u (hb b n) q⟩,fun b u q n _=>by rw [aE (hx b n)];exact n,fun b u q _=>?_,
  fun b xs q=>by rw [aE (hm b _ q fun z=>z)];exact q,fun b u xs q=>by rw [aE (hm b _ q fun z=>z)];exact q,fun b ps q=>⟨#[],by rw [aE (hm b _ q fun z=>z),q];simp⟩⟩
 by_cases hbe:b=e
 ·subst hbe;exact heo
 ·exact ⟨u,k b u hbe q⟩
end
def FL (h:Heap) (H:Hp):List Addr:=(List.range h.objs.size).filter fun a=>(H a).isSome
def se (h:Heap) (H:Hp):Heap:=PySem.W.hideAll h (FL h H)
theorem Ej (h:Heap) (H:Hp):(se h H).objs.size=h.objs.size:=PySem.W.hideAll_size _ _
theorem Fp {h:Heap}{H:Hp}{b:Addr}{o:Obj} (e:h.get? b=some o) (n:H b=none):(se h H).get? b=some o:=
 PySem.W.hideAll_get _ e fun hm=>by
  have q:(H b).isSome=true:=(List.mem_filter.mp hm).2
  rw [n] at q;simp at q
theorem GO {h:Heap}{H:Hp}{b:Addr}{o:Obj} (e:(se h H).get? b=some o):h.get? b=some o∧H b=none:=by
 have e':h.get? b=some o:=PySem.W.of_hideAll (FL h H) e
 refine ⟨e',?_⟩
 cases q:H b with
 | none=>rfl
 | some x=>
  have hm:b∈FL h H:=List.mem_filter.mpr ⟨List.mem_range.mpr (Heap.lt_size e'),by simp [q]⟩
  have z:(se h H).get? b=none:=PySem.W.hideAll_none (FL h H) hm
  rw [z] at e;cases e
structure Mod (K:PySem.W.Frag) (mg:Str→Option Value) (base:Heap):Prop where
 kin:K.In base
 glob:base.Ns mainGlobals mg
 blt:∃mb,base.Ns builtinsNs mb∧∀x:Str,x≠"__name__"→mb x=bootBuiltins x
 nolimit:base.NoLimit
structure Cx where
 prog:Program
 w:World
 K:PySem.W.Frag
 mg:Str→Option Value
 base:Heap
 A:Around
 N:List Str
 s₀:Shared
 H₀:Hp
 env:Env
 outer:List Env
 stack:List Env
 ex:List Addr
 fn:Str→Bool
 calm:Bool
 pn:List (Addr×Obj)
 xe:Value→Shared→Prop
def qt (l:List Env):List Addr:=l.filterMap (·.frame)
abbrev Cx.fs (X:Cx):List Addr:=qt X.outer
def CF (sc:Scope) (x:Str):Prop:=sc.names.lookup x=some .local∨sc.names.lookup x=some .cell∨sc.names.lookup x=some .free
def CA (sc:Scope) (x:Str):Prop:=sc.names.lookup x=some .local∨sc.names.lookup x=some .cell
def LF (env:Env) (h:Heap) (m:Str→Option Value) (x:Str) (u:Value):Prop:=
 (env.kindOf x=some .local∧m x=some u)∨((env.kindOf x=some .cell∨env.kindOf x=some .free)∧∃c,env.cells.lookup x=some c∧h.IsCell c (some u))
structure Cx.Ok (X:Cx):Prop where
 mod:Mod X.K X.mg X.base
 kind:X.env.scope.kind=.function
 glob:X.env.globals=mainGlobals
 blt:X.env.builtins=builtinsNs
 above:X.s₀.heap.objs.size≤X.env.locals
 inj:∀x y c,X.env.cells.lookup x=some c→X.env.cells.lookup y=some c→x=y
 has:∀x,(X.env.kindOf x=some .cell∨X.env.kindOf x=some .free)→∃c,X.env.cells.lookup x=some c
 cab:∀x c,X.fn x=true→X.env.cells.lookup x=some c→X.s₀.heap.objs.size≤c
 hd:X.calm=true→X.A.handled=none
 frames:X.A.frames=some X.stack
 stk:X.stack=X.outer∨(X.stack=X.env :: X.outer∧X.env.frame=some X.env.locals)
 exf:∀b∈X.ex,b≠X.env.locals∧∀x c,X.env.cells.lookup x=some c→c≠b
 bs:∀b o,X.base.get? b=some o→X.s₀.heap.get? b=some o∧X.H₀ b=none
 bsz:X.base.objs.size≤X.s₀.heap.objs.size
 noex:∀b o,X.base.get? b=some o→b∉X.ex
 exfs:∀b∈X.ex,b∉X.fs
 funs:X.s₀.heap.FunFrames X.base X.outer
 frf:∀b∈X.fs,X.H₀ b=none
structure af (X:Cx) (pins:List (Addr×Obj)) (σ:List (Option V)) (H:Hp) (s:Shared):Prop where
 ok:X.Ok
 os:s.os=X.s₀.os
 bare:AllBare s.gens
 base:Un X.fs X.ex X.H₀ H X.s₀.heap s.heap
 loc:∃m,s.heap.Ns X.env.locals m∧∀(i:Nat) (x:Str) (v:V),X.N[i]?=some x→σ[i]?=some (some v)→CF X.env.scope x→∃u,aP v u∧LF X.env s.heap m x u
 cell:∀x c,X.env.cells.lookup x=some c→∃v,s.heap.IsCell c v
 free:H X.env.locals=none
 freeC:∀x c,X.env.cells.lookup x=some c→H c=none
 pin:∀p∈X.pn++pins,s.heap.get? p.1=some p.2∧H p.1=none∧p.1≠X.env.locals∧p.1∉X.fs∧∀v,p.2.data≠.cell v
 hok:gS X.prog X.w H s.heap
 len:σ.length=X.N.length
section
variable {X:Cx}{pins:List (Addr×Obj)}{σ:List (Option V)}{H H':Hp}{s:Shared}{h':Heap}
theorem Cx.Ok.nofr (ok:X.Ok) {b:Addr}{o:Obj} (e:X.base.get? b=some o):b∉X.fs:=fun hb=>by
 have:=(ok.funs.mem hb).1
 rw [e] at this;cases this
theorem af.bs (I:af X pins σ H s):∀b o,X.base.get? b=some o→s.heap.get? b=some o∧H b=none:=fun b o e=>
 ⟨I.base.keep b o (I.ok.bs b o e).1 (I.ok.bs b o e).2 (I.ok.nofr e) (I.ok.noex b o e),I.base.free b o (I.ok.bs b o e).1 (I.ok.bs b o e).2 (I.ok.noex b o e)⟩
theorem af.bk (I:af X pins σ H s):∀b o,X.base.get? b=some o→s.heap.get? b=some o:=fun b o e=>(I.bs b o e).1
theorem af.mod (I:af X pins σ H s):Mod X.K X.mg X.base:=I.ok.mod
theorem af.kIn (I:af X pins σ H s):X.K.In s.heap:=I.ok.mod.kin.keeps I.bk
theorem af.lt (I:af X pins σ H s):X.env.locals<s.heap.objs.size:=let ⟨_,hn,_⟩:=I.loc;hn.lt
theorem af.sz (I:af X pins σ H s):X.s₀.heap.objs.size≤s.heap.objs.size:=Nat.le_trans I.ok.above (Nat.le_of_lt I.lt)
theorem af.nofs (I:af X pins σ H s) {a:Addr} (h:s.heap.objs.size≤a):a∉X.fs:=fun hb=>by
 obtain ⟨_,o,ho,_⟩:=I.ok.funs.mem hb
 exact absurd (Nat.lt_of_lt_of_le (Heap.lt_size ho) (Nat.le_trans I.sz h)) (Nat.lt_irrefl _)
theorem af.cne (I:af X pins σ H s):∀x c,X.env.cells.lookup x=some c→c≠X.env.locals:=fun x c e z=>by
 obtain ⟨v,o,ho,hd⟩:=I.cell x c e
 obtain ⟨m,⟨o',es,ep,ho',hd',_⟩,_⟩:=I.loc
 rw [z,ho'] at ho;cases ho;rw [hd'] at hd;cases hd
theorem af.funs (I:af X pins σ H s):s.heap.FunFrames X.base X.outer:=by
 have all:∀(l:List Env),(∀b∈qt l,b∈X.fs)→X.s₀.heap.FunFrames X.base l→s.heap.FunFrames X.base l:=by
  intro l
  induction l with
  | nil=>intro _ _;trivial
  | cons env r ih=>
   intro hs hl
   obtain ⟨hk,⟨L,o,hf,hn,ho,hd⟩,hr⟩:=hl
   have hL:L∈X.fs:=hs L (by unfold qt;rw [List.filterMap_cons,hf];exact List.mem_cons_self)
   obtain ⟨sl,e⟩:=I.base.slot L o ho (I.ok.frf L hL) hL fun z=>I.ok.exfs L z hL
   exact ⟨hk,⟨L,_,hf,hn,e,hd⟩,ih (fun b hb=>hs b (by unfold qt;rw [List.filterMap_cons,hf];exact List.mem_cons_of_mem _ hb)) hr⟩
 exact all X.outer (fun _ hb=>hb) I.ok.funs
theorem af.stack (I:af X pins σ H s):s.heap.FunFrames X.base X.stack:=by
 rcases I.ok.stk with e | ⟨e,hf⟩
 ·rw [e];exact I.funs
 ·rw [e]
  obtain ⟨m,hn,_⟩:=I.loc
  refine .cons (by rw [I.ok.kind];decide) hf hn ?_ I.funs
  exact Heap.get?_none_of_le (Nat.le_trans I.ok.bsz I.ok.above)
theorem af.stkSub (I:af X pins σ H s):∀b∈qt X.stack,b∈X.env.locals :: X.fs:=fun b hb=>by
 rcases I.ok.stk with e | ⟨e,hf⟩
 ·rw [e] at hb;exact List.mem_cons_of_mem _ hb
 ·rw [e] at hb
  unfold qt at hb
  rw [List.filterMap_cons,hf] at hb
  exact hb
theorem af.stkFree (I:af X pins σ H s):∀b∈qt X.stack,H b=none:=fun b hb=>by
 rcases List.mem_cons.mp (I.stkSub b hb) with e | hb
 ·rw [e];exact I.free
 ·obtain ⟨_,o,ho,_⟩:=I.ok.funs.mem hb
  exact I.base.free b o ho (I.ok.frf b hb) fun z=>I.ok.exfs b z hb
theorem af.step {g':Array GenState}{t':Nat}{d':Drawn}{ch:List Addr} (I:af X pins σ H s)
 (hch:∀b∈ch,(b∈X.ex∨X.s₀.heap.objs.size≤b)∧b≠X.env.locals∧(∀x c,X.env.cells.lookup x=some c→c≠b)∧∀p∈X.pn++pins,p.1≠b)
 (keep:∀b o,b≠X.env.locals→b∉X.fs→b∉ch→s.heap.get? b=some o→H b=none→h'.get? b=some o)
 (slot:∀b o,b≠X.env.locals→b∈X.fs→b∉ch→s.heap.get? b=some o→H b=none→∃sl,h'.get? b=some { o with slots:=sl }) (free:∀b o,b∉ch→s.heap.get? b=some o→H b=none→H' b=none)
 (there:∀b o,b∉ch→s.heap.get? b=some o→∃o',h'.get? b=some o')
 (tups:∀b xs,H b=some (.tup xs)→H' b=some (.tup xs)) (frzs:∀b o u,H b=some (.frz o u)→H' b=some (.frz o u)) (tbls:∀b ps,H b=some (.tbl ps)→∃more,H' b=some (.tbl (ps++more)))
 (ns:∀m,s.heap.Ns X.env.locals m→h'.Ns X.env.locals m) (hok:gS X.prog X.w H' h') (hg:AllBare g') :
 af X pins σ H' { s with heap:=h',gens:=g',drawn:=d',toks:=t' }:=by
 have neL:∀b o,X.s₀.heap.get? b=some o→b≠X.env.locals:=fun b o e=>Nat.ne_of_lt (Nat.lt_of_lt_of_le (Heap.lt_size e) I.ok.above)
 have neC:∀b o,X.s₀.heap.get? b=some o→b∉X.ex→b∉ch:=fun b o e hx hb=>by
  rcases (hch b hb).1 with z | z
  ·exact hx z
  ·exact absurd (Nat.lt_of_lt_of_le (Heap.lt_size e) z) (Nat.lt_irrefl _)
 have cellK:∀x c,X.env.cells.lookup x=some c→∀v,s.heap.IsCell c v→h'.IsCell c v:=fun x c e v ⟨o,ho,hd⟩=>by
  have nch:c∉ch:=fun z=>(hch c z).2.2.1 x c e rfl
  by_cases hc:c∈X.fs
  ·obtain ⟨sl,q⟩:=slot c o (I.cne x c e) hc nch ho (I.freeC x c e)
   exact ⟨_,q,hd⟩
  ·exact ⟨o,keep c o (I.cne x c e) hc nch ho (I.freeC x c e),hd⟩
 refine ⟨I.ok,I.os,hg,⟨fun b o e n hb hx=>?_,fun b o e n hb hx=>?_,fun b o e n hx=>?_,fun b o e hx=>?_,fun b xs e=>tups b xs (I.base.tups b xs e),fun b o xs e=>frzs b o xs (I.base.frzs b o xs e),fun b ps e=>?_⟩,?_,fun x c e=>?_,?_,fun x c e=>?_,fun p hp=>?_,hok,I.len⟩
 ·exact keep b o (neL b o e) hb (neC b o e hx) (I.base.keep b o e n hb hx) (I.base.free b o e n hx)
 ·obtain ⟨sl,e1⟩:=I.base.slot b o e n hb hx
  obtain ⟨sl',e2⟩:=slot b _ (neL b o e) hb (neC b o e hx) e1 (I.base.free b o e n hx)
  exact ⟨sl',e2⟩
 ·obtain ⟨o',e1⟩:=I.base.there b o e hx
  exact free b o' (neC b o e hx) e1 (I.base.free b o e n hx)
 ·obtain ⟨o',e1⟩:=I.base.there b o e hx
  exact there b o' (neC b o e hx) e1
 ·obtain ⟨m1,e1⟩:=I.base.tbls b ps e
  obtain ⟨m2,e2⟩:=tbls b _ e1
  exact ⟨m1++m2,by rw [e2,Array.append_assoc]⟩
 ·obtain ⟨m,hn,hl⟩:=I.loc
  refine ⟨m,ns m hn,fun i x v e1 e2 e3=>?_⟩
  obtain ⟨u,r,l⟩:=hl i x v e1 e2 e3
  refine ⟨u,r,?_⟩
  rcases l with l | ⟨k,c,e,z⟩
  ·exact .inl l
  ·exact .inr ⟨k,c,e,cellK x c e _ z⟩
 ·obtain ⟨v,z⟩:=I.cell x c e
  exact ⟨v,cellK x c e v z⟩
 ·obtain ⟨m,⟨o,_,_,ho,_⟩,_⟩:=I.loc
  exact free _ o (fun z=>(hch _ z).2.1 rfl) ho I.free
 ·obtain ⟨v,o,ho,hd⟩:=I.cell x c e
  exact free c o (fun z=>(hch c z).2.2.1 x c e rfl) ho (I.freeC x c e)
 ·obtain ⟨e,n,ne,nf,d⟩:=I.pin p hp
  have nch:p.1∉ch:=fun z=>(hch p.1 z).2.2.2 p hp rfl
  exact ⟨keep p.1 p.2 ne nf nch e n,free p.1 p.2 nch e n,ne,nf,d⟩
theorem af.un {t':Nat} (I:af X pins σ H s) (u:Un X.fs [] H H' s.heap h') (hok:gS X.prog X.w H' h'):af X pins σ H' { s with heap:=h',toks:=t' }:=by
 obtain ⟨m,⟨o,es,ep,ho,r⟩,_⟩:=id I.loc
 obtain ⟨sl,hL⟩:=u.any ho I.free (by simp)
 exact I.step (g':=s.gens) (d':=s.drawn) (ch:=[]) (fun _ z=>nomatch z) (fun b o _ hb _ e n=>u.keep b o e n hb (by simp)) (fun b o _ hb _ e n=>u.slot b o e n hb (by simp)) (fun b o _ e n=>u.free b o e n (by simp)) (fun b o _ e=>u.there b o e (by simp)) u.tups u.frzs u.tbls (fun m' hm=>by
  obtain ⟨o',es',ep',ho',r'⟩:=hm
  rw [ho] at ho';cases ho'
  exact ⟨_,es',ep',hL,r'⟩) hok I.bare
theorem af.call {g':Array GenState}{t':Nat}{d':Drawn}{ch:List Addr} (I:af X pins σ H s) (u:Un (qt X.stack) ch H H' s.heap h') (hok:gS X.prog X.w H' h') (hg:AllBare g')
 (hch:∀b∈ch,(b∈X.ex∨X.s₀.heap.objs.size≤b)∧b≠X.env.locals∧(∀x c,X.env.cells.lookup x=some c→c≠b)∧∀p∈X.pn++pins,p.1≠b) :
 af X pins σ H' { s with heap:=h',gens:=g',drawn:=d',toks:=t' }:=by
 obtain ⟨m,⟨o,es,ep,ho,r⟩,_⟩:=id I.loc
 obtain ⟨sl,hL⟩:=u.any ho I.free fun z=>(hch _ z).2.1 rfl
 exact I.step (ch:=ch) hch (fun b o hL hb hc e n=>u.keep b o e n (fun z=>(List.mem_cons.mp (I.stkSub b z)).elim hL hb) hc) (fun b o _ _ hc e n=>u.any e n hc) (fun b o hc e n=>u.free b o e n hc) (fun b o hc e=>u.there b o e hc) u.tups u.frzs u.tbls (fun m' hm=>by
  obtain ⟨o',es',ep',ho',r'⟩:=hm
  rw [ho] at ho';cases ho'
  exact ⟨_,es',ep',hL,r'⟩) hok hg
theorem af.turned {t':Nat}{it:Addr} (I:af X pins σ H s) (k:∀b o,b≠it→s.heap.get? b=some o→h'.get? b=some o) (hn:H it=none) (hL:it≠X.env.locals)
 (h1:it∈X.ex∨X.s₀.heap.objs.size≤it) (h2:∀x c,X.env.cells.lookup x=some c→c≠it) (h3:∀p∈X.pn++pins,p.1≠it):af X pins σ H { s with heap:=h',toks:=t' }:=by
 have nit:∀b u,H b=some u→b≠it:=fun b u e z=>by rw [z,hn] at e;cases e
 refine I.step (g':=s.gens) (d':=s.drawn) (ch:=[it]) (fun b hb=>?_) (fun b o _ _ hc e _=>k b o (fun z=>hc (by simp [z])) e) (fun b o _ _ hc e _=>⟨o.slots,k b o (fun z=>hc (by simp [z])) e⟩) (fun _ _ _ _ n=>n)
  (fun b o hc e=>⟨o,k b o (fun z=>hc (by simp [z])) e⟩) (fun _ _ e=>e) (fun _ _ _ e=>e) (fun b ps e=>⟨#[],by rw [e];simp⟩) (fun m hm=>?_) (fun b u e=>?_) I.bare
 ·have e:b=it:=by simpa using hb
  subst e
  exact ⟨h1,hL,h2,h3⟩
 ·obtain ⟨o,es,ep,ho,r⟩:=hm
  exact ⟨o,es,ep,k _ o (Ne.symm hL) ho,r⟩
 ·refine (I.hok b u e).stay (fun c v hc q=>k c v ?_ q) (fun _ q=>q) fun _ _ q=>q
  rcases hc with z | z
  ·rw [z];exact nit b u e
  ·exact nit c _ z
theorem af.tok (I:af X pins σ H s) (t:Nat):af X pins σ H { s with toks:=t }:=I.un (h':=s.heap) (t':=t) Un.refl I.hok
theorem af.kept {t':Nat} (I:af X pins σ H s) (k:∀b u,s.heap.get? b=some u→h'.get? b=some u):af X pins σ H { s with heap:=h',toks:=t' }:=I.un (Un.kept k) (I.hok.kept k)
theorem af.laid {a:Addr}{o:HO}{t':Nat} (I:af X pins σ H s) (k:∀b u,s.heap.get? b=some u→h'.get? b=some u) (hp:s.heap.objs.size≤a) (new:bD X.prog X.w (aN H a o) h' a o) :
 af X pins σ (aN H a o) { s with heap:=h',toks:=t' }:=I.un (Un.laid k hp (I.hok.fresh hp)) (I.hok.laid k hp new)
theorem af.write {x e:Addr}{o:HO}{t':Nat} (I:af X pins σ H s) (mu:Ft (H x)) (he:e=x∨H e=some (.own x)) (k:∀b u,b≠e→s.heap.get? b=some u→h'.get? b=some u) (heo:∃u,h'.get? e=some u)
 (new:bD X.prog X.w (aN H x o) h' x o):af X pins σ (aN H x o) { s with heap:=h',toks:=t' }:=I.un (Un.write mu he k heo) (I.hok.write mu he k heo new)
theorem af.weak {σ':List (Option V)} (I:af X pins σ H s) (hl:σ'.length=σ.length) (w:∀(i:Nat) v,σ'[i]?=some (some v)→σ[i]?=some (some v)):af X pins σ' H s:=
 ⟨I.ok,I.os,I.bare,I.base,let ⟨m,hn,hl'⟩:=I.loc;⟨m,hn,fun i x v e1 e2 e3=>hl' i x v e1 (w i v e2) e3⟩,I.cell,I.free,I.freeC,I.pin,I.hok,hl.trans I.len⟩
theorem af.pins_of {pins':List (Addr×Obj)} (I:af X pins σ H s) (h:∀p∈pins',s.heap.get? p.1=some p.2∧H p.1=none∧p.1≠X.env.locals∧p.1∉X.fs∧∀v,p.2.data≠.cell v):af X pins' σ H s:=
 ⟨I.ok,I.os,I.bare,I.base,I.loc,I.cell,I.free,I.freeC,fun p hp=>(List.mem_append.mp hp).elim (fun z=>I.pin p (List.mem_append_left _ z)) (h p),I.hok,I.len⟩
theorem z0 {N:List Str} (hN:N.Nodup) {i j:Nat}{x:Str} (a:N[i]?=some x) (b:N[j]?=some x):i=j:=by
 obtain ⟨h1,e1⟩:=List.getElem?_eq_some_iff.mp a
 obtain ⟨h2,e2⟩:=List.getElem?_eq_some_iff.mp b
 exact (List.getElem_inj hN).mp (e1.trans e2.symm)
theorem tG {M:Model}{A:Around}{E:Value→Shared→Prop}{i:Nat}{x:Str}{v:V}{u:Value}{Q:Unit→Shared→Prop} (I:af X pins σ H s) (hN:X.N.Nodup) (hi:X.N[i]?=some x) (hx:CA X.env.scope x) (r:aP v u)
 (h:∀s',af X pins (σ.set i (some v)) H s'→(∃a,Heap.SameBut a s.heap s'.heap∧(a=X.env.locals∨X.env.cells.lookup x=some a))→Q () s') (hf:X.fn x=true∨X.env.scope.names.lookup x=some .local:=by first | exact .inl rfl | exact .inr rfl | assumption):wpAny M A (storeName X.env x u) Q E s:=by
 obtain ⟨m,hn,hl⟩:=id I.loc
 have hcls:(X.env.scope.kind==.class || (X.env.scope.kind==.module && X.env.locals != X.env.globals))=false:=by rw [I.ok.kind];rfl
 have hiσ:i<σ.length:=by rw [I.len];exact (List.getElem?_eq_some_iff.mp hi).1
 have cne:=I.cne
 have tracked:∀{a:Addr}{h':Heap},(∃o,s.heap.get? a=some o∧H a=none)→Heap.SameBut a s.heap h'→gS X.prog X.w H h':=fun {a h'} ha hs b ob e=>by
  obtain ⟨_,_,hfree⟩:=ha
  refine (I.hok b ob e).stay (fun c w' hc q=>(hs.2 c ?_).trans q) (fun _ q=>q) fun _ _ q=>q
  rintro rfl
  rcases hc with rfl | hc
  ·rw [hfree] at e;cases e
  ·rw [hfree] at hc;cases hc
 rcases hx with hk | hk
 ·refine wpAny_storeName_local hk hn (fun h' hn' hs=>?_) hcls
  obtain ⟨oL,_,_,hoL,_⟩:=id hn
  refine h _ ⟨I.ok,I.os,I.bare,⟨fun b o e n hb hx=>?_,fun b o e n hb hx=>?_,I.base.free,fun b o e hx=>?_,I.base.tups,I.base.frzs,I.base.tbls⟩,⟨_,hn',fun j y v' e1 e2 e3=>?_⟩,fun y c e=>?_,I.free,I.freeC,fun p hp=>?_,tracked ⟨oL,hoL,I.free⟩ hs,by simpa using I.len⟩ ⟨_,hs,.inl rfl⟩
  ·exact (hs.2 b (Nat.ne_of_lt (Nat.lt_of_lt_of_le (Heap.lt_size e) I.ok.above))).trans (I.base.keep b o e n hb hx)
  ·obtain ⟨sl,e1⟩:=I.base.slot b o e n hb hx
   exact ⟨sl,(hs.2 b (Nat.ne_of_lt (Nat.lt_of_lt_of_le (Heap.lt_size e) I.ok.above))).trans e1⟩
  ·obtain ⟨o',e1⟩:=I.base.there b o e hx
   exact ⟨o',(hs.2 b (Nat.ne_of_lt (Nat.lt_of_lt_of_le (Heap.lt_size e) I.ok.above))).trans e1⟩
  ·by_cases hj:j=i
   ·subst hj
    rw [hi] at e1;cases e1
    rw [List.getElem?_set_self hiσ] at e2
    cases e2
    exact ⟨u,r,.inl ⟨hk,by simp⟩⟩
   ·rw [List.getElem?_set_ne (Ne.symm hj)] at e2
    obtain ⟨u',r',q⟩:=hl j y v' e1 e2 e3
    refine ⟨u',r',?_⟩
    rcases q with ⟨k,e⟩ | ⟨k,c,e,z⟩
    ·refine .inl ⟨k,?_⟩
     have:y≠x:=fun e=>hj (z0 hN e1 (e▸hi))
     simp [this,e]
    ·exact .inr ⟨k,c,e,z.sameBut hs (cne y c e)⟩
  ·obtain ⟨w',z⟩:=I.cell y c e
   exact ⟨w',z.sameBut hs (cne y c e)⟩
  ·obtain ⟨e,n,ne,nf,d⟩:=I.pin p hp
   exact ⟨(hs.2 p.1 ne).trans e,n,ne,nf,d⟩
 ·have hfn:X.fn x=true:=by
   rcases hf with z | z
   ·exact z
   ·rw [z] at hk;cases hk
  obtain ⟨c,hc⟩:=I.ok.has x (.inl hk)
  obtain ⟨w',z⟩:=I.cell x c hc
  refine wpAny_storeName_cell I.ok.kind hk hc z (fun h' hc' hs=>?_)
  obtain ⟨oc,hoc,hocd⟩:=id z
  refine h { s with heap:=h' } ⟨I.ok,I.os,I.bare,⟨fun b o e n hb hx=>?_,fun b o e n hb hx=>?_,I.base.free,fun b o e hx=>?_,I.base.tups,I.base.frzs,I.base.tbls⟩,⟨m,hn.sameBut hs (Ne.symm (cne x c hc)),fun j y v' e1 e2 e3=>?_⟩,fun y c' e=>?_,I.free,I.freeC,fun p hp=>?_,tracked ⟨oc,hoc,I.freeC x c hc⟩ hs,by simpa using I.len⟩ ⟨c,hs,.inr hc⟩
  ·exact (hs.2 b (Nat.ne_of_lt (Nat.lt_of_lt_of_le (Heap.lt_size e) (I.ok.cab x c hfn hc)))).trans (I.base.keep b o e n hb hx)
  ·obtain ⟨sl,e1⟩:=I.base.slot b o e n hb hx
   exact ⟨sl,(hs.2 b (Nat.ne_of_lt (Nat.lt_of_lt_of_le (Heap.lt_size e) (I.ok.cab x c hfn hc)))).trans e1⟩
  ·obtain ⟨o',e1⟩:=I.base.there b o e hx
   exact ⟨o',(hs.2 b (Nat.ne_of_lt (Nat.lt_of_lt_of_le (Heap.lt_size e) (I.ok.cab x c hfn hc)))).trans e1⟩
  ·by_cases hj:j=i
   ·subst hj
    rw [hi] at e1;cases e1
    rw [List.getElem?_set_self hiσ] at e2
    cases e2
    exact ⟨u,r,.inr ⟨.inl hk,c,hc,hc'⟩⟩
   ·rw [List.getElem?_set_ne (Ne.symm hj)] at e2
    obtain ⟨u',r',q⟩:=hl j y v' e1 e2 e3
    refine ⟨u',r',?_⟩
    rcases q with q | ⟨k,c',e,z'⟩
    ·exact .inl q
    ·refine .inr ⟨k,c',e,z'.sameBut hs ?_⟩
     rintro rfl
     exact hj (z0 hN e1 (I.ok.inj _ _ _ e hc▸hi))
  ·by_cases hcc:c'=c
   ·subst hcc;exact ⟨_,hc'⟩
   ·obtain ⟨w2,z2⟩:=I.cell y c' e
    exact ⟨w2,z2.sameBut hs hcc⟩
  ·obtain ⟨e,n,ne,nf,d⟩:=I.pin p hp
   refine ⟨(hs.2 p.1 ?_).trans e,n,ne,nf,d⟩
   intro q
   rw [q,hoc] at e
   have q':oc=p.2:=Option.some.inj e
   exact d w' (by rw [←q'];exact hocd)
theorem oK {M:Model}{A:Around}{E:Value→Shared→Prop}{i:Nat}{x:Str}{v:V}{u:Value}{Q:Unit→Shared→Prop} (I:af X pins σ H s) (hN:X.N.Nodup) (hi:X.N[i]?=some x) (hx:CA X.env.scope x) (r:aP v u)
 (h:∀s',af X pins (σ.set i (some v)) H s'→Q () s') (hf:X.fn x=true∨X.env.scope.names.lookup x=some .local:=by first | exact .inl rfl | exact .inr rfl | assumption):wpAny M A (storeName X.env x u) Q E s:=
 tG I hN hi hx r (fun s' I' _=>h s' I') hf
theorem af.call' {s':Shared}{ch:List Addr} (I:af X pins σ H s) (ho:s'.os=s.os) (u:Un (qt X.stack) ch H H' s.heap s'.heap) (hok:gS X.prog X.w H' s'.heap) (hg:AllBare s'.gens)
 (hch:∀b∈ch,(b∈X.ex∨X.s₀.heap.objs.size≤b)∧b≠X.env.locals∧(∀x c,X.env.cells.lookup x=some c→c≠b)∧∀p∈X.pn++pins,p.1≠b):af X pins σ H' s':=by
 obtain ⟨h',g',d',t',o'⟩:=s'
 have e:o'=s.os:=ho
 subst e
 exact I.call (g':=g') (t':=t') (d':=d') u hok hg hch
end
abbrev XK:=Value→Option Addr→Hp→Prop
abbrev St:=List (Option V)
abbrev VK:=V→Hp→Prop
abbrev TE:=St→Hp→VK→Prop
abbrev TT:=St→Hp→(Bool→Hp→Prop)→Prop
abbrev TA:=St→Hp→(List V→Hp→Prop)→Prop
structure fj where
 nx:St→Hp→Prop
 rt:VK
 bk:St→Hp→Prop:=fun _ _=>False
 ct:St→Hp→Prop:=fun _ _=>False
abbrev TS:=fj→St→Hp→Prop
inductive EP (X:Cx) (pins:List (Addr×Obj)) (σ:St) (Q:VK) (u:Value) (s':Shared):Prop
 | mk (v:_) (H':_) (h0:af X pins σ H' s') (h1:aP v u) (h2:Q v H')
def TP (X:Cx) (pins:List (Addr×Obj)) (σ:St) (Q:Bool→Hp→Prop) (b:Bool) (s':Shared):Prop:=∃H',af X pins σ H' s'∧Q b H'
inductive AP (X:Cx) (pins:List (Addr×Obj)) (σ:St) (Q:List V→Hp→Prop) (us:List Value) (s':Shared):Prop
 | mk (vs:_) (H':_) (h0:af X pins σ H' s') (h1:aA vs us) (h2:Q vs H')
def SP (X:Cx) (pins:List (Addr×Obj)) (D:fj) (f:Flow) (s':Shared):Prop:=
 match f with
 | .next=>∃σ' H',af X pins σ' H' s'∧D.nx σ' H'
 | .brk=>∃σ' H',af X pins σ' H' s'∧D.bk σ' H'
 | .cont=>∃σ' H',af X pins σ' H' s'∧D.ct σ' H'
 | .ret u=>∃v σ' H',af X pins σ' H' s'∧aP v u∧D.rt v H'
def PE (X:Cx) (e:Expr) (t:TE):Prop:=
 ∀(pins:List (Addr×Obj)) (s:Shared) (σ:St) (H:Hp) (Q:VK),af X pins σ H s→t σ H Q→wpAny (model X.prog X.w) X.A (eval e X.env) (EP X pins σ Q) X.xe s
def PT (X:Cx) (e:Expr) (t:TT):Prop:=
 ∀(pins:List (Addr×Obj)) (s:Shared) (σ:St) (H:Hp) (Q:Bool→Hp→Prop),af X pins σ H s→t σ H Q→wpAny (model X.prog X.w) X.A (isTrue e X.env (eval e X.env)) (TP X pins σ Q) X.xe s
def PW (X:Cx) (e:Expr) (t:TT):Prop:=
 ∀(whole:Sem Value) (pins:List (Addr×Obj)) (s:Shared) (σ:St) (H:Hp) (Q:Bool→Hp→Prop),af X pins σ H s→t σ H Q→wpAny (model X.prog X.w) X.A (isTrue e X.env whole) (TP X pins σ Q) X.xe s
theorem PW.pt {X:Cx}{e:Expr}{t:TT} (h:PW X e t):PT X e t:=h _
def PA (X:Cx) (es:List Expr) (t:TA):Prop:=
 ∀(pos:Pos) (pins:List (Addr×Obj)) (s:Shared) (σ:St) (H:Hp) (Q:List V→Hp→Prop),af X pins σ H s→t σ H Q→wpAny (model X.prog X.w) X.A (spliced (backTo pos (starEach es X.env))) (AP X pins σ Q) X.xe s
def PS (X:Cx) (st:Stmt) (t:TS):Prop:=
 ∀(pins:List (Addr×Obj)) (s:Shared) (σ:St) (H:Hp) (D:fj),af X pins σ H s→t D σ H→wpAny (model X.prog X.w) X.A (exec st X.env) (SP X pins D) X.xe s
def qj (X:Cx) (st:List Stmt) (t:TS):Prop:=
 ∀(pins:List (Addr×Obj)) (s:Shared) (σ:St) (H:Hp) (D:fj),af X pins σ H s→t D σ H→wpAny (model X.prog X.w) X.A (execs st X.env) (SP X pins D) X.xe s
theorem aO {α:Type}{t:Sem α}{Q Q':α→Shared→Prop}{M:Model}{A:Around}{E:Value→Shared→Prop}{s:Shared} (h:wpAny M A t Q E s) (hQ:∀a s,Q a s→Q' a s):wpAny M A t Q' E s:=wpAny_mono h hQ fun _ _ x=>x
section
variable {X:Cx}
inductive KH (i:Nat) (σ:St) (H:Hp) (Q:VK):Prop
 | mk (v:_) (h0:σ[i]?=some (some v)) (h1:Q v H)
def vU (i:Nat):TE:=fun σ H Q=>KH i σ H Q
def tC (v:V):TE:=fun _ H Q=>Q v H
theorem DN {i:Nat}{x:Str}{pos:Pos} (hN:X.N[i]?=some x) (hv:CF X.env.scope x) (hd:(x==("__debug__" : Str))=false:=by decide) (hcd:(x==("__classdict__" : Str))=false:=by decide):PE X (.Name x pos) (vU i):=by
 intro pins s σ H Q I h
 obtain ⟨v,e,h⟩:=h
 obtain ⟨m,hn,hl⟩:=I.loc
 obtain ⟨u,r,l⟩:=hl i x v hN e hv
 have fin:EP X pins σ Q u s:=⟨v,H,I,r,h⟩
 rcases l with ⟨hk,hm⟩ | ⟨hk,c,hc,hcell⟩
 ·exact wpAny_Name (wpAny_loadName_local I.ok.kind hk hn hm fin) hd
 ·rcases hk with hk | hk
  ·exact wpAny_Name (wpAny_loadName_cell I.ok.kind hk hc hcell fin) hd
  ·exact wpAny_Name (wpAny_loadName_free I.ok.kind hk hc hcell fin hcd) hd
theorem bH {i j pos}:PE X (.Constant (.int i) j pos) (tC (.int i)):=fun _ _ _ H _ I h=>wpAny_Constant_int ⟨.int i,H,I.tok _,⟨()⟩,h⟩
theorem ie {b j pos}:PE X (.Constant (.bool b) j pos) (tC (.bl b)):=fun _ _ _ H _ I h=>Constant_bool ⟨.bl b,H,I,rfl,h⟩
theorem cR {j pos}:PE X (.Constant .none j pos) (tC .non):=fun _ _ _ H _ I h=>Constant_none ⟨.non,H,I,rfl,h⟩
theorem jS {x j pos}:PE X (.Constant (.str x) j pos) (tC (.str x)):=fun _ _ _ H _ I h=>Calls.Constant_str ⟨.str x,H,I.tok _,⟨()⟩,h⟩
def Gl (X:Cx) (x:Str):Prop:=X.env.kindOf x=some .globalImplicit
theorem FW {E:Value→Shared→Prop}{pins:List (Addr×Obj)}{s:Shared}{σ:St}{H:Hp}{x:Str}{u:Value}{pos:Pos}{Q:Value→Shared→Prop} (I:af X pins σ H s) (hg:Gl X x) (hm:X.mg x=some u) (h:Q u s)
 (hd:(x==("__debug__" : Str))=false:=by decide):wpAny (model X.prog X.w) X.A (eval (.Name x pos) X.env) Q E s:=
 Calls.Name_function_global I.ok.kind hg (Calls.loadGlobal_global (by rw [I.ok.glob];exact I.mod.glob.keeps I.bk) hm h) hd
theorem iA {E:Value→Shared→Prop}{pins:List (Addr×Obj)}{s:Shared}{σ:St}{H:Hp}{x:Str}{u:Value}{pos:Pos}{Q:Value→Shared→Prop} (I:af X pins σ H s) (hg:Gl X x) (hm:X.mg x=none) (hv:bootBuiltins x=some u) (h:Q u s)
 (hn:x≠"__name__" := by decide) (hd:(x==("__debug__" : Str))=false:=by decide):wpAny (model X.prog X.w) X.A (eval (.Name x pos) X.env) Q E s:=by
 obtain ⟨mb,h1,h2⟩:=I.mod.blt
 exact Calls.Name_function_global I.ok.kind hg (Calls.loadGlobal_builtin (by rw [I.ok.glob];exact I.mod.glob.keeps I.bk) hm (by rw [I.ok.blt];exact h1.keeps I.bk) ((h2 x hn).trans hv) h) hd
theorem GY {x:Str}{v:V}{u:Value}{pos:Pos} (hg:Gl X x) (hm:X.mg x=none) (hv:bootBuiltins x=some u) (r:aP v u) (hn:x≠"__name__" := by decide) (hd:(x==("__debug__" : Str))=false:=by decide):PE X (.Name x pos) (tC v):=
 fun _ _ _ H _ I h=>iA I hg hm hv ⟨v,H,I,r,h⟩ hn hd
variable {a b:Expr}{ta tb:TE}{pos:Pos}
inductive Bp (x:V) (P:Bool→Prop):Prop
 | mk (c:Bool) (e:x=.bl c) (h:P c)
inductive IX (x:V) (P:Int→Prop):Prop
 | mk (c:Int) (e:x=.int c) (h:P c)
def tB (t:TE):TT:=fun σ H Q=>t σ H fun x H1=>Bp x fun c=>Q c H1
theorem jx {e:Expr}{t:TE} (h:PE X e t) (he:∀whole,isTrue e X.env whole=(do let v ←whole;standAt e.pos;holding [v] (truthy v)):=by intro _;rfl):PT X e (tB t):=by
 intro pins s σ H Q I hw
 refine isTrue_plain (aO (h pins s σ H _ I hw) fun v s1 ⟨x,H1,I1,r1,q1⟩=>?_) (he _)
 obtain ⟨d,rfl,q⟩:=q1
 cases r1
 exact wpAny_truthy_bool ⟨H1,I1,q⟩
variable {tA tB':TT}{rest:List Expr}
def Lg (t u:TT):TT:=fun σ H Q=>t σ H fun c H1=>if c=true then u σ H1 Q else Q false H1
def L6 (t u:TT):TT:=fun σ H Q=>t σ H fun c H1=>if c=true then Q true H1 else u σ H1 Q
def LB (t:TT):TT:=fun σ H Q=>t σ H fun c H1=>Q (!c) H1
theorem n0 (ha:PT X a tA):PW X (.BoolOp .And [a] pos) tA:=by
 intro wh pins s σ H Q I h
 refine isTrue_and (aO (ha pins s σ H Q I h) fun c s1 e=>?_)
 cases c with
 | true=>exact isTrue_and_nil e
 | false=>exact e
theorem jQ (ha:PT X a tA):PW X (.BoolOp .Or [a] pos) tA:=by
 intro wh pins s σ H Q I h
 refine isTrue_or (aO (ha pins s σ H Q I h) fun c s1 e=>?_)
 cases c with
 | false=>exact isTrue_or_nil e
 | true=>exact e
theorem qG (ha:PT X a tA) (hb:PW X (.BoolOp .And (b :: rest) pos) tB'):PW X (.BoolOp .And (a :: b :: rest) pos) (Lg tA tB'):=by
 intro wh pins s σ H Q I h
 refine isTrue_and (aO (ha pins s σ H _ I h) fun c s1 ⟨H1,I1,q1⟩=>?_)
 cases c with
 | true=>exact hb wh pins s1 σ H1 Q I1 q1
 | false=>exact ⟨H1,I1,q1⟩
theorem iX (ha:PT X a tA) (hb:PW X (.BoolOp .Or (b :: rest) pos) tB'):PW X (.BoolOp .Or (a :: b :: rest) pos) (L6 tA tB'):=by
 intro wh pins s σ H Q I h
 refine isTrue_or (aO (ha pins s σ H _ I h) fun c s1 ⟨H1,I1,q1⟩=>?_)
 cases c with
 | true=>exact ⟨H1,I1,q1⟩
 | false=>exact hb wh pins s1 σ H1 Q I1 q1
theorem oD (ha:PT X a tA):PT X (.UnaryOp .Not a pos) (LB tA):=by
 intro pins s σ H Q I h
 exact isTrue_not (ha pins s σ H (fun c H1=>Q (!c) H1) I h)
def Ki (ta tb:TE):TE:=fun σ H Q=>ta σ H fun x H1=>Bp x fun c=>if c=true then tb σ H1 Q else Q (.bl false) H1
def Ks (ta:TE):TE:=fun σ H Q=>ta σ H fun x H1=>Bp x fun c=>Q (.bl (!c)) H1
theorem Dd {op}{t:TE} (h:PE X a t):PE X (.BoolOp op [a] pos) t:=fun pins s σ H Q I hw=>BoolOp_one (h pins s σ H Q I hw)
theorem Jj (ha:PE X a ta) (hb:PE X (.BoolOp .And (b :: rest) pos) tb):PE X (.BoolOp .And (a :: b :: rest) pos) (Ki ta tb):=by
 intro pins s σ H Q I h
 refine BoolOp_and (aO (ha pins s σ H _ I h) fun v s1 ⟨x,H1,I1,r1,q1⟩=>?_)
 obtain ⟨c,rfl,q1⟩:=q1
 cases r1
 refine wpAny_truthy_bool ?_
 cases c with
 | true=>exact hb pins s1 σ H1 Q I1 q1
 | false=>exact ⟨.bl false,H1,I1,rfl,q1⟩
theorem Dm (ha:PE X a ta):PE X (.UnaryOp .Not a pos) (Ks ta):=by
 intro pins s σ H Q I h
 refine UnaryOp_ (aO (ha pins s σ H _ I h) fun v s1 ⟨x,H1,I1,r1,q1⟩=>?_)
 obtain ⟨c,rfl,q1⟩:=q1
 cases r1
 exact not_of (wpAny_truthy_bool ⟨.bl (!c),H1,I1,rfl,q1⟩)
def LT (t:TT) (ta tb:TE):TE:=fun σ H Q=>t σ H fun c H1=>if c=true then ta σ H1 Q else tb σ H1 Q
theorem hU {c:Expr} (hc:PT X c tA) (ha:PE X a ta) (hb:PE X b tb):PE X (.IfExp c a b pos) (LT tA ta tb):=by
 intro pins s σ H Q I h
 refine wpAny_IfExp (aO (hc pins s σ H _ I h) fun d s1 ⟨H1,I1,q1⟩=>?_)
 cases d with
 | true=>exact ha pins s1 σ H1 Q I1 q1
 | false=>exact hb pins s1 σ H1 Q I1 q1
end
def ah (K:PySem.W.Frag) (H:Hp) (a:Addr) (xs:List V):Prop:=
 Rd H a (.lst xs)∨
  fD fun (o:Obj) (its:Array Value) (n:Nat)=>K.lookup a=some o∧o.cls=.type "list"∧o.dict=none∧o.data=.seq its n∧its.size≤sizeLine∧aA xs its.toList
def ag (K:PySem.W.Frag) (H:Hp) (a:Addr) (xs:List V):Prop:=
 Rd H a (.tup xs)∨
  fD fun (o:Obj) (its:Array Value) (n:Nat)=>K.lookup a=some o∧o.cls=.type "tuple"∧o.data=.seq its n∧its.size≤sizeLine∧aA xs its.toList
def Lh:Value→Option V
 | .none=>some .non
 | .bool b=>some (.bl b)
 | .int i _=>some (.int i)
 | .str x _=>some (.str x)
 | .bytes b _=>some (.byt b)
 | .float b _=>some (.flt b)
 | .ref a=>some (.ref a)
 | .type n=>some (.ty n)
 | _=>none
theorem aP.abs {x:V}{u:Value} (r:aP x u):Lh u=some x:=by
 cases x with
 | non=>cases r;rfl
 | bl _=>cases r;rfl
 | int _=>obtain ⟨t,rfl⟩:=r;rfl
 | str _=>obtain ⟨t,rfl⟩:=r;rfl
 | byt _=>obtain ⟨t,rfl⟩:=r;rfl
 | flt _=>obtain ⟨t,rfl⟩:=r;rfl
 | ref _=>cases r;rfl
 | ty _=>cases r;rfl
theorem aP.inj {x y:V}{u:Value} (r:aP x u) (q:aP y u):x=y:=Option.some.inj (r.abs.symm.trans q.abs)
theorem aA.inj:∀{xs ys:List V}{us:List Value},aA xs us→aA ys us→xs=ys
 | _,_,_,.nil,.nil=>rfl
 | _,_,_,.cons r t,.cons r' t'=>by rw [r.inj r',aA.inj t t']
section
variable {X:Cx}{pins:List (Addr×Obj)}{σ:St}{H:Hp}{s:Shared}{a:Addr}{xs ys:List V}
theorem ah.of {K:PySem.W.Frag} (h:H a=some (.lst xs)):ah K H a xs:=.inl (.inl h)
theorem ag.of {K:PySem.W.Frag} (h:H a=some (.tup xs)):ag K H a xs:=.inl (.inl h)
theorem af.list (I:af X pins σ H s) (h:ah X.K H a xs):∃its:List Value,aA xs its∧PlainL s.heap a its.toArray∧xs.length≤sizeLine:=by
 rcases h with h | ⟨o,its,n,hk,hc,hd,hs,hz,r⟩
 ·obtain ⟨z,its,n,r,e⟩:=h.ok I.hok
  exact ⟨its,r,⟨_,n,e,rfl,rfl,rfl⟩,z⟩
 ·refine ⟨its.toList,r,⟨o,n,I.kIn a o hk,hc,hd,by simpa using hs⟩,?_⟩
  have e:=r.length
  simp only [Array.length_toList] at e
  trivial
theorem af.tuple (I:af X pins σ H s) (h:ag X.K H a xs):∃its:List Value,aA xs its∧IsTup s.heap a its.toArray∧xs.length≤sizeLine:=by
 rcases h with h | ⟨o,its,n,hk,hc,hs,hz,r⟩
 ·obtain ⟨z,its,r,p,_⟩:=h.ok I.hok
  exact ⟨its,r,p,z⟩
 ·refine ⟨its.toList,r,⟨o,I.kIn a o hk,hc,n,by simpa using hs⟩,?_⟩
  have e:=r.length
  simp only [Array.length_toList] at e
  trivial
theorem af.list_inj (I:af X pins σ H s) (h:ah X.K H a xs) (h':ah X.K H a ys):xs=ys:=by
 obtain ⟨its,r,⟨o,n,e,_,_,d⟩,_⟩:=I.list h
 obtain ⟨its',r',⟨o',n',e',_,_,d'⟩,_⟩:=I.list h'
 rw [e] at e';cases e'
 rw [d] at d'
 injection d' with d1 _
 have:its=its':=by simpa using congrArg Array.toList d1
 subst this
 exact r.inj r'
theorem af.tuple_inj (I:af X pins σ H s) (h:ag X.K H a xs) (h':ag X.K H a ys):xs=ys:=by
 obtain ⟨its,r,⟨o,e,_,n,d⟩,_⟩:=I.tuple h
 obtain ⟨its',r',⟨o',e',_,n',d'⟩,_⟩:=I.tuple h'
 rw [e] at e';cases e'
 rw [d] at d'
 injection d' with d1 _
 have:its=its':=by simpa using congrArg Array.toList d1
 subst this
 exact r.inj r'
end
abbrev Cx.wish (X:Cx) (E:Value→Shared→Prop):Cx:={ X with xe:=E }
abbrev Cx.nox (X:Cx):Cx:=X.wish fun _ _=>False
theorem Cx.Ok.wish {X:Cx} (ok:X.Ok) (E:Value→Shared→Prop):(X.wish E).Ok:=
 ⟨ok.mod,ok.kind,ok.glob,ok.blt,ok.above,ok.inj,ok.has,ok.cab,ok.hd,ok.frames,ok.stk,ok.exf,ok.bs,ok.bsz,ok.noex,ok.exfs,ok.funs,ok.frf⟩
theorem Cx.Ok.unwish {X:Cx}{E:Value→Shared→Prop} (ok:(X.wish E).Ok):X.Ok:=
 ⟨ok.mod,ok.kind,ok.glob,ok.blt,ok.above,ok.inj,ok.has,ok.cab,ok.hd,ok.frames,ok.stk,ok.exf,ok.bs,ok.bsz,ok.noex,ok.exfs,ok.funs,ok.frf⟩
section
variable {X:Cx}{pins:List (Addr×Obj)}{σ:St}{H:Hp}{s:Shared}{E:Value→Shared→Prop}
theorem af.wish (I:af X pins σ H s) (E:Value→Shared→Prop):af (X.wish E) pins σ H s:=⟨I.ok.wish E,I.os,I.bare,I.base,I.loc,I.cell,I.free,I.freeC,I.pin,I.hok,I.len⟩
theorem af.unwish (I:af (X.wish E) pins σ H s):af X pins σ H s:=⟨I.ok.unwish,I.os,I.bare,I.base,I.loc,I.cell,I.free,I.freeC,I.pin,I.hok,I.len⟩
theorem SP.unwish {D:fj}{f:Flow}{s':Shared} (h:SP (X.wish E) pins D f s'):SP X pins D f s':=by
 cases f with
 | next=>obtain ⟨σ',H',I,q⟩:=h;exact ⟨σ',H',I.unwish,q⟩
 | brk=>obtain ⟨σ',H',I,q⟩:=h;exact ⟨σ',H',I.unwish,q⟩
 | cont=>obtain ⟨σ',H',I,q⟩:=h;exact ⟨σ',H',I.unwish,q⟩
 | ret u=>obtain ⟨v,σ',H',I,r,q⟩:=h;exact ⟨v,σ',H',I.unwish,r,q⟩
theorem qj.nox {st:List Stmt}{t:TS} (h:qj X.nox st t):qj X st t:=fun pins s σ H D I hw=>
 wpAny_mono (h pins s σ H D (I.wish _) hw) (fun _ _ q=>q.unwish) fun _ _ z=>False.elim z
end
section
variable {X:Cx}{st:Stmt}{rest:List Stmt}{t u:TS}{e:Expr}{te:TE}{pos:Pos}
def JL:TS:=fun D σ H=>D.nx σ H
def jH (t u:TS):TS:=fun D σ H=>t { D with nx:=u D } σ H
theorem aK:qj X [] JL:=fun _ _ σ H _ I h=>wpAny_execs_nil ⟨σ,H,I,h⟩
theorem gk (h1:PS X st t) (h2:qj X rest u):qj X (st :: rest) (jH t u):=by
 intro pins s σ H D I h
 refine wpAny_execs_cons (aO (h1 pins s σ H { D with nx:=u D } I h) fun f s1 q=>?_)
 cases f with
 | next=>
  obtain ⟨σ',H',I',q⟩:=q
  exact h2 pins s1 σ' H' D I' q
 | ret v=>exact q
 | brk=>exact q
 | cont=>exact q
theorem ac (h1:PS X st t):qj X [st] t:=by
 intro pins s σ H D I h
 refine wpAny_execs_cons (aO (h1 pins s σ H D I h) fun f s1 q=>?_)
 cases f with
 | next=>exact wpAny_execs_nil q
 | ret v=>exact q
 | brk=>exact q
 | cont=>exact q
def JA:TS:=fun D σ H=>D.ct σ H
theorem Am:PS X (.Continue pos) JA:=fun _ _ σ H _ I h=>wpAny_Continue ⟨σ,H,I,h⟩
theorem af.quiet {pins:List (Addr×Obj)}{σ:St}{H:Hp}{s:Shared} (I:af X pins σ H s):interactive X.env=false:=by simp [interactive,I.ok.kind]
def y9 (te:TE):TS:=fun D σ H=>te σ H fun _ H1=>D.nx σ H1
theorem cI (he:PE X e te) (hs:swapsWith e none pos.line X.env=pure false:=by rfl):PS X (.Expr e pos) (y9 te):=by
 intro pins s σ H D I h
 exact wpAny_Expr_any (aO (he pins s σ H _ I h) fun v s1 ⟨x,H1,I1,r1,q1⟩=>⟨σ,H1,I1,q1⟩) I.quiet hs
def Lv (te:TE):TS:=fun D σ H=>te σ H D.rt
theorem aw (he:PE X e te):PS X (.Return (some e) pos) (Lv te):=by
 intro pins s σ H D I h
 exact wpAny_Return_some (aO (he pins s σ H _ I h) fun v s1 ⟨x,H1,I1,r1,q1⟩=>⟨x,σ,H1,I1,r1,q1⟩)
def LJ (c:TT) (t u:TS):TS:=fun D σ H=>c σ H fun b H1=>if b=true then t D σ H1 else u D σ H1
theorem bh {c:Expr}{a b:List Stmt}{tc:TT} (hc:PT X c tc) (ha:qj X a t) (hb:qj X b u):PS X (.If c a b pos) (LJ tc t u):=by
 intro pins s σ H D I h
 refine wpAny_If (aO (hc pins s σ H _ I h) fun d s1 ⟨H1,I1,q1⟩=>?_)
 cases d with
 | true=>exact ha pins s1 σ H1 D I1 q1
 | false=>exact hb pins s1 σ H1 D I1 q1
end
abbrev TG:=V→St→Hp→(St→Hp→Prop)→Prop
abbrev p5:=List V→St→Hp→(St→Hp→Prop)→Prop
def PG (X:Cx) (target:Expr) (t:TG):Prop:=
 ∀(pins:List (Addr×Obj)) (s:Shared) (σ:St) (H:Hp) (v:V) (u:Value) (Q:St→Hp→Prop),af X pins σ H s→aP v u→t v σ H Q→
   wpAny (model X.prog X.w) X.A (assign target X.env u) (fun _ s'=>∃σ' H',af X pins σ' H' s'∧Q σ' H') X.xe s
def AY (X:Cx) (ts:List Expr) (t:p5):Prop:=
 ∀(pins:List (Addr×Obj)) (s:Shared) (σ:St) (H:Hp) (vs:List V) (us:List Value) (Q:St→Hp→Prop),af X pins σ H s→aA vs us→t vs σ H Q→
   wpAny (model X.prog X.w) X.A (assignInOrder ((assignEach ts X.env).map (·.2)) us) (fun _ s'=>∃σ' H',af X pins σ' H' s'∧Q σ' H') X.xe s
abbrev EA:=V→V→V→Hp→(Hp→Prop)→Prop
def Cg (X:Cx) (t:EA):Prop:=
 ∀(pins:List (Addr×Obj)) (s:Shared) (σ:St) (H:Hp) (o i v:V) (ov iv u:Value) (Q:Hp→Prop),af X pins σ H s→aP o ov→aP i iv→aP v u→t o i v H Q→
   wpAny (model X.prog X.w) X.A (setItem ov iv u) (fun _ s'=>∃H',af X pins σ H' s'∧Q H') X.xe s
abbrev Fw:=V→V→Hp→VK→Prop
def KT (X:Cx) (op:Operator) (t:Fw):Prop:=
 ∀(pins:List (Addr×Obj)) (s:Shared) (σ:St) (H:Hp) (x y:V) (v u:Value) (Q:VK),af X pins σ H s→aP x v→aP y u→t x y H Q→
   wpAny (model X.prog X.w) X.A (inplaceOp op v u) (EP X pins σ Q) X.xe s
section
variable {X:Cx}{pos:Pos}
def qZ (i:Nat):TG:=fun v σ H Q=>Q (σ.set i (some v)) H
theorem dc {i:Nat}{x:Str} (hN:X.N.Nodup) (hi:X.N[i]?=some x) (hx:CA X.env.scope x) (hf:X.fn x=true∨X.env.scope.names.lookup x=some .local:=by first | exact .inl rfl | exact .inr rfl | assumption):PG X (.Name x pos) (qZ i):=by
 intro pins s σ H v u Q I r h
 exact wpAny_assign_Name (oK I hN hi hx r (fun s' I'=>⟨_,H,I',h⟩) hf)
def Lu:p5:=fun vs σ H Q=>vs=[]∧Q σ H
inductive Hk (t:TG) (u:p5) (vs:List V) (σ:St) (H:Hp) (Q:St→Hp→Prop):Prop
 | mk (v:_) (r:_) (h0:vs=v :: r) (h1:t v σ H fun σ' H'=>u r σ' H' Q)
def KC (t:TG) (u:p5):p5:=fun vs σ H Q=>Hk t u vs σ H Q
theorem bK:AY X [] Lu:=by
 intro pins s σ H vs us Q I r h
 obtain ⟨e,h⟩:=h
 subst e
 cases r
 exact assignInOrder_nil ⟨σ,H,I,h⟩
theorem aj {e:Expr}{es:List Expr}{t:TG}{u:p5} (h1:PG X e t) (h2:AY X es u)
 (hs:(assignEach (e :: es) X.env).map (·.2)=assign e X.env :: (assignEach es X.env).map (·.2):=by rfl):AY X (e :: es) (KC t u):=by
 intro pins s σ H vs us Q I r h
 obtain ⟨v,vr,e1,h⟩:=h
 subst e1
 cases r with
 | cons r rr=>
  rw [hs]
  refine assignInOrder_cons (aO (h1 pins s σ H _ _ _ I r h) fun _ s1 ⟨σ1,H1,I1,q1⟩=>?_)
  exact h2 pins s1 σ1 H1 _ _ Q I1 rr q1
inductive JJ (K:PySem.W.Frag) (n:Nat) (t:p5) (v:V) (σ:St) (H:Hp) (Q:St→Hp→Prop):Prop
 | mk (a:_) (xs:_) (h0:v=.ref a) (h1:ag K H a xs) (h2:xs.length=n) (h3:t xs σ H Q)
def Ij (K:PySem.W.Frag) (n:Nat) (t:p5):TG:=fun v σ H Q=>JJ K n t v σ H Q
theorem zK {es:List Expr}{k:Nat}{t:p5}{n:Nat} (hc:X.calm=true) (h:AY X es t)
 (hn:(assignEach es X.env).length=n:=by rfl) (hst:(assignEach es X.env).findIdx? (·.1)=none:=by rfl):PG X (.Tuple es k pos) (Ij X.K n t):=by
 intro pins s σ H v u Q I r hw
 obtain ⟨a,xs,e1,hq,hl,hw⟩:=hw
 subst e1
 cases r
 obtain ⟨its,rv,ht,hz⟩:=I.tuple hq
 refine assign_Tuple_tuple (I.ok.hd hc) ht (by simp [hn,←hl,rv.length]) hst fun h' hx=>?_
 have I1:af X pins σ H { s with heap:=h' }:=I.kept (t':=s.toks) fun b o e=>hx b o (Nat.ne_of_lt (Heap.lt_size e)) e
 exact h pins _ σ H xs _ Q I1 (by simpa using rv) hw
def LO (to ti:TE) (t:EA):TG:=fun v σ H Q=>to σ H fun o H1=>ti σ H1 fun i H2=>t o i v H2 fun H3=>Q σ H3
theorem kP {o i:Expr}{to ti:TE}{t:EA} (ho:PE X o to) (hi:PE X i ti) (hs:Cg X t)
 (ha:∀v,assign (.Subscript o i pos) X.env v=(do
  let ov ←holding [v] (eval o X.env)
  let iv ←holding [v,ov] (eval i X.env)
  standAt pos
  holding [v,ov,iv] (setItem ov iv v)
  release [v,ov,iv] []):=by intro _;rfl):PG X (.Subscript o i pos) (LO to ti t):=by
 intro pins s σ H v u Q I r h
 rw [ha]
 refine wpAny_bind (wpAny_holding (aO (ho pins s σ H _ I h) fun ov s1 ⟨x,H1,I1,r1,q1⟩=>?_))
 refine wpAny_bind (wpAny_holding (aO (hi pins s1 σ H1 _ I1 q1) fun iv s2 ⟨y,H2,I2,r2,q2⟩=>?_))
 refine wpAny_bind (wpAny_standAt (wpAny_bind (wpAny_holding (aO (hs pins s2 σ H2 x y v ov iv u _ I2 r1 r2 r q2) fun _ s3 ⟨H3,I3,q3⟩=>?_))))
 exact wpAny_release ⟨σ,H3,I3,q3⟩
def zV (te:TE) (g:TG):TS:=fun D σ H=>te σ H fun x H1=>g x σ H1 D.nx
theorem cW {tg e:Expr}{te:TE}{g:TG} (he:PE X e te) (hg:PG X tg g) (hs:swapsWithSole [tg] e pos.line X.env=pure false:=by rfl) (hw:swappedStores [tg] e X.env=pure none:=by rfl)
 (h1:(assignEach [tg] X.env).map (·.2)=[assign tg X.env]:=by rfl):PS X (.Assign [tg] e pos) (zV te g):=by
 intro pins s σ H D I h
 refine wpAny_Assign_stores (aO (he pins s σ H _ I h) fun v s1 ⟨x,H1,I1,r1,q1⟩=>?_) hs hw
 rw [h1]
 exact aO (hg pins s1 σ H1 x v _ I1 r1 q1) fun _ s2 q=>q
theorem iq {i:Nat}{x:Str}{e:Expr}{te:TE}{pos':Pos} (hN:X.N.Nodup) (hi:X.N[i]?=some x) (hx:CA X.env.scope x) (he:PE X e te) (hs:swapsWith e (some (.Name x pos')) pos.line X.env=pure false:=by rfl) (hf:X.fn x=true∨X.env.scope.names.lookup x=some .local:=by first | exact .inl rfl | exact .inr rfl | assumption) :
 PS X (.Assign [.Name x pos'] e pos) (zV te (qZ i)):=by
 intro pins s σ H D I h
 refine wpAny_Assign_Name (aO (he pins s σ H _ I h) fun v s1 ⟨y,H1,I1,r1,q1⟩=>?_) hs
 exact oK I1 hN hi hx r1 (fun s2 I2=>⟨_,H1,I2,q1⟩) hf
def Iy (i j:Nat) (ta:TA):TS:=fun D σ H=>ta σ H fun vs H1=>aZ fun v w=>vs=[v,w]∧D.nx ((σ.set i (some v)).set j (some w)) H1
theorem ua {i j:Nat}{x y:Str}{a b:Expr}{ta:TA}{px py pt:Pos}{kt k2 pt2} (hc:X.calm=true) (hN:X.N.Nodup) (hi:X.N[i]?=some x) (hj:X.N[j]?=some y) (hij:i≠j)
 (hx:X.env.scope.names.lookup x=some .local) (hy:X.env.scope.names.lookup y=some .local) (ha:PA X [a,b] ta)
 (hw:swappedStores [.Tuple [.Name x px,.Name y py] kt pt] (.Tuple [a,b] k2 pt2) X.env=pure (some [x,y]))
 (hs:swapsWithSole [.Tuple [.Name x px,.Name y py] kt pt] (.Tuple [a,b] k2 pt2) pos.line X.env=pure false:=by rfl) :
 PS X (.Assign [.Tuple [.Name x px,.Name y py] kt pt] (.Tuple [a,b] k2 pt2) pos) (Iy i j ta):=by
 intro pins s σ H D I h
 rw [exec_Assign_arm]
 refine wpAny_bind (wpAny_standAt ?_)
 rw [hs]
 refine wpAny_bind (wpAny_pure ?_)
 rw [if_neg (by decide)]
 refine wpAny_bind (Tuple_ (aO (ha _ pins s σ H _ I h) fun us s1 ⟨vs,H1,I1,r1,q1⟩=>?_))
 obtain ⟨v,w,e1,q1⟩:=q1
 subst e1
 obtain ⟨u1,u2,rfl,rv,rw'⟩:aZ fun u1 u2=>us=[u1,u2]∧aP v u1∧aP w u2:=by
  cases r1 with
  | cons p q=>
   cases q with
   | cons p' q'=>
    cases q'
    exact ⟨_,(),p,p'⟩
 refine wpAny_newObj_type ?_ (by show 2≤sizeLine;decide)
 have I2:af X pins σ H1 { s1 with heap:=s1.heap.push { cls:=.type "tuple",data:=.seq [u1,u2].toArray } }:=I1.kept (t':=s1.toks) fun b o e=>Heap.get?_push_of_some _ e
 rw [hw]
 refine wpAny_bind (wpAny_pure ?_)
 show wpAny (model X.prog X.w) X.A (do rule "assign.swapped-stores";let items ←unpackItems (.ref s1.heap.objs.size) 2 none;assignInOrder [fun v=>bindName X.env y v,fun v=>bindName X.env x v] items.reverse;pure Flow.next) _ _ _
 refine wpAny_bind (wpAny_rule (wpAny_bind (unpackItems_tuple (items:=#[u1,u2]) (I.ok.hd hc) (IsTup.new s1.heap _) fun h' hx'=>?_)))
 have I3:=I2.kept (h':=h') (t':=s1.toks) fun b o e=>hx' b o (Nat.ne_of_lt (Heap.lt_size e)) e
 show wpAny _ _ (assignInOrder [fun v=>bindName X.env y v,fun v=>bindName X.env x v] [u2,u1] >>= fun _=>pure Flow.next) _ _ _
 refine wpAny_bind (assignInOrder_cons (wpAny_bindName (oK I3 hN hj (.inl hy) rw' (fun s2 I4=>?_) (.inr hy))))
 refine assignInOrder_cons (wpAny_bindName (oK I4 hN hi (.inl hx) rv (fun s3 I5=>assignInOrder_nil (wpAny_pure ?_)) (.inr hx)))
 rw [List.set_comm _ _ (Ne.symm hij)] at I5
 exact ⟨_,H1,I5,q1⟩
def Lm (i:Nat) (te:TE) (ti:Fw):TS:=fun D σ H=>∃x,σ[i]?=some (some x)∧te σ H fun y H1=>ti x y H1 fun z H2=>D.nx (σ.set i (some z)) H2
theorem Jq {i:Nat}{x:Str}{e:Expr}{te:TE}{op:Operator}{ti:Fw}{pos':Pos} (hN:X.N.Nodup) (hi:X.N[i]?=some x) (hx:CA X.env.scope x) (he:PE X e te) (ho:KT X op ti) (hf:X.fn x=true∨X.env.scope.names.lookup x=some .local:=by first | exact .inl rfl | exact .inr rfl | assumption) :
 PS X (.AugAssign (.Name x pos') op e pos) (Lm i te ti):=by
 intro pins s σ H D I h
 obtain ⟨v,e1,h⟩:=h
 obtain ⟨m,hn,hl⟩:=I.loc
 have vis:CF X.env.scope x:=by rcases hx with k | k;exact .inl k;exact .inr (.inl k)
 obtain ⟨u,r,l⟩:=hl i x v hi e1 vis
 refine wpAny_AugAssign_Name ?_
 have go:wpAny (model X.prog X.w) X.A (eval e X.env) (fun w s₂=>wpAny (model X.prog X.w) X.A (inplaceOp op u w) (fun r s₃=>wpAny (model X.prog X.w) X.A (storeName X.env x r) (fun _=>SP X pins D .next) X.xe s₃) X.xe s₂) X.xe s:=by
  refine aO (he pins s σ H _ I h) fun w s1 ⟨y,H1,I1,r1,q1⟩=>?_
  refine aO (ho pins s1 σ H1 v y u w _ I1 r r1 q1) fun z s2 ⟨zv,H2,I2,r2,q2⟩=>?_
  exact oK I2 hN hi hx r2 (fun s3 I3=>⟨_,H2,I3,q2⟩) hf
 rcases l with ⟨hk,hm⟩ | ⟨hk,c,hc,hcell⟩
 ·exact wpAny_loadName_local I.ok.kind hk hn hm go
 ·rcases hk with hk | hk
  ·exact wpAny_loadName_cell I.ok.kind hk hc hcell go
  ·rcases hx with k | k
   ·have:X.env.scope.names.lookup x=some .free:=hk
    rw [k] at this;cases this
   ·have:X.env.scope.names.lookup x=some .free:=hk
    rw [k] at this;cases this
def L9 (f:Int→Int→Int):Fw:=fun x y H Q=>aZ fun i j=>x=.int i∧y=.int j∧Q (.int (f i j)) H
theorem IG:KT X .Add (L9 fun i j=>i+j):=by
 intro pins s σ H x y v u Q I r1 r2 h
 obtain ⟨i,j,e1,e2,q⟩:=h
 subst e1;subst e2
 obtain ⟨t,rfl⟩:=r1
 obtain ⟨t',rfl⟩:=r2
 exact iadd_int ⟨.int _,H,I.tok _,⟨()⟩,q⟩
end
section
variable {X:Cx}{pos:Pos}
def D0 (c:TT) (tb:TS):TS:=fun D σ H=>∃W:Nat→St→Hp→Prop,(∃m,W m σ H)∧∀m σ H,W m σ H→
 c σ H fun b H1=>if b=true then ∃N:St→Hp→Prop,(∀σ' H',N σ' H'→∃m',m'<m∧W m' σ' H')∧tb { D with nx:=N,ct:=N,bk:=D.nx } σ H1 else D.nx σ H1
theorem lp {c:Expr}{body:List Stmt}{tc:TT}{tb:TS} (hp:PassesOwn (model X.prog X.w) X.A X.env X.xe) (hc:PT X c tc) (hb:qj X body tb):PS X (.While c body [] pos) (D0 tc tb):=by
 intro pins s σ H D I h
 obtain ⟨W,⟨m0,w0⟩,turn⟩:=h
 refine wpAny_While (codeAny_whileLoop (fun n s'=>∃σ' H',af X pins σ' H' s'∧W n σ' H') ?_ m0 ⟨σ,H,I,w0⟩)
 rintro n s1 ⟨σ1,H1,I1,w1⟩
 refine wpAny_passesOwn hp (aO (hc pins s1 σ1 H1 _ I1 (turn n σ1 H1 w1)) fun b s2 ⟨H2,I2,q2⟩=>?_)
 cases b with
 | true=>
  obtain ⟨N,hN,q2⟩:=q2
  rw [if_pos rfl]
  refine wpAny_passesOwn hp (aO (hb pins s2 σ1 H2 _ I2 q2) fun f s3 q3=>?_)
  cases f with
  | next=>
   obtain ⟨σ3,H3,I3,n3⟩:=q3
   obtain ⟨m',hm,w3⟩:=hN σ3 H3 n3
   exact ⟨m',hm,σ3,H3,I3,w3⟩
  | cont=>
   obtain ⟨σ3,H3,I3,n3⟩:=q3
   obtain ⟨m',hm,w3⟩:=hN σ3 H3 n3
   exact ⟨m',hm,σ3,H3,I3,w3⟩
  | brk=>exact q3
  | ret v=>exact q3
 | false=>
  rw [if_neg Bool.false_ne_true]
  exact wpAny_execs_nil ⟨σ1,H2,I2,q2⟩
end
structure It where
 go:Nat→Hp→Prop
 yld:Nat→Hp→V→Hp→Prop
 stop:Nat→Hp→Prop
def kB (X:Cx) (pins:List (Addr×Obj)) (H:Hp) (b:Addr):Prop:=
 H b=none∧b≠X.env.locals∧b∉X.fs∧(b∈X.ex∨X.s₀.heap.objs.size≤b)∧(∀x c,X.env.cells.lookup x=some c→c≠b)∧∀p∈X.pn++pins,p.1≠b
theorem af.fpOk {X:Cx}{pins:List (Addr×Obj)}{σ:St}{H H':Hp}{s:Shared}{b:Addr} (I:af X pins σ H s) (hb:s.heap.objs.size≤b) (hn:H' b=none):kB X pins H' b:=by
 refine ⟨hn,Nat.ne_of_gt (Nat.lt_of_lt_of_le I.lt hb),I.nofs hb,.inr (Nat.le_trans I.sz hb),fun x c e z=>?_,fun p hp z=>?_⟩
 ·obtain ⟨v,q⟩:=I.cell x c e
  exact absurd (Nat.lt_of_lt_of_le q.lt (by rw [z];exact hb)) (Nat.lt_irrefl _)
 ·exact absurd (Nat.lt_of_lt_of_le (Heap.lt_size (I.pin p hp).1) (by rw [z];exact hb)) (Nat.lt_irrefl _)
structure xH (P:Program) (w:World) (K:PySem.W.Frag) (tg:Expr) (J:It) (fp:List Addr) (it:Addr) (tn:Nat→Heap→Prop):Prop where
 mem:it∈fp
 obj:∀i h,tn i h→∀b∈fp,∃o,h.get? b=some o∧∀v,o.data≠.cell v
 keep:∀i h h',tn i h→(∀b∈fp,∀o,h.get? b=some o→h'.get? b=some o)→tn i h'
 item:∀(X:Cx),X.prog=P→X.w=w→X.K=K→X.calm=true→∀(i:Nat) (pins:List (Addr×Obj)) (s:Shared) (σ:St) (H:Hp) (E:Value→Shared→Prop),af X pins σ H s→(∀b∈fp,kB X pins H b)→tn i s.heap→J.go i H→
  wpAny (model P w) X.A (pyNext (.ref it)) (fun r s1=>∃u,r=some u∧
   wpAny (model P w) X.A (letOwnedTupleGo tg (.ref it) u) (fun _ s2=>aZ fun x H'=>af X pins σ H' s2∧aP x u∧J.yld i H x H'∧tn (i+1) s2.heap∧∀b∈fp,H' b=none) E s1) E s
 done:∀(X:Cx),X.prog=P→X.w=w→X.K=K→X.calm=true→∀(i:Nat) (pins:List (Addr×Obj)) (s:Shared) (σ:St) (H:Hp) (E:Value→Shared→Prop),af X pins σ H s→(∀b∈fp,kB X pins H b)→tn i s.heap→J.stop i H→
  wpAny (model P w) X.A (pyNext (.ref it)) (fun r s1=>r=none∧af X pins σ H s1) E s
 self:∀(A:Around) (i:Nat) (s:Shared) (Q:Value→Shared→Prop) (E:Value→Shared→Prop),tn i s.heap→Q (.ref it) s→wpAny (model P w) A (pyIter (.ref it)) Q E s
abbrev TI:=St→Hp→(It→Hp→Prop)→Prop
def KW (X:Cx) (pins:List (Addr×Obj)) (σ:St) (tg:Expr) (R:It→Hp→Prop) (itv:Value) (s2:Shared):Prop:=
 A3 fun (it:Addr) (fp:List Addr) (tn:Nat→Heap→Prop) (J:It) (H':Hp)=>itv=.ref it∧af X pins σ H' s2∧xH X.prog X.w X.K tg J fp it tn∧tn 0 s2.heap∧(∀b∈fp,kB X pins H' b)∧R J H'
def PI (X:Cx) (tg iter:Expr) (wi:TI):Prop:=
 ∀(pins:List (Addr×Obj)) (s:Shared) (σ:St) (H:Hp) (R:It→Hp→Prop),af X pins σ H s→wi σ H R→
   wpAny (model X.prog X.w) X.A (eval iter X.env) (fun v s1=>wpAny (model X.prog X.w) X.A (pyIter v) (KW X pins σ tg R) X.xe s1) X.xe s
theorem BX {M:Model}{A:Around}{E:Value→Shared→Prop}{s:Shared}{tg:Expr}{it:Addr}{u:Value}{o:Obj}{n:String}{vs:Array Value}{Q:Unit→Shared→Prop} (ho:s.heap.get? it=some o) (hc:o.cls=.type n) (hd:o.data=.fields vs)
 (hn:["enumerate", "zip", "dict_itemiterator", "dict_reverseitemiterator", "odict_iterator", "itertools.zip_longest", "itertools.pairwise"].contains n=false) (hQ:Q () s):wpAny M A (letOwnedTupleGo tg (.ref it) u) Q E s:=by
 unfold letOwnedTupleGo
 cases tg <;> first
  | exact wpAny_pure hQ
  | (cases u <;> first
   | exact wpAny_pure hQ
   | (refine wpAny_bind (wpAny_load ho ?_)
      rw [hc,hd]
      show wpAny M A (if (["enumerate", "zip", "dict_itemiterator", "dict_reverseitemiterator", "odict_iterator", "itertools.zip_longest", "itertools.pairwise"].contains n && vs[0]?==some (rawInt _))=true then _ else _) Q E s
      rw [if_neg (by intro h;rw [hn,Bool.false_and] at h;cases h)]
      exact wpAny_pure hQ))
def AT (K:PySem.W.Frag) (a:Addr):It:=
 ⟨fun i H=>aZ fun xs x=>ah K H a xs∧xs[i]?=some x,fun i H x H'=>H'=H∧∀xs,ah K H a xs→xs[i]?=some x,fun i H=>∃xs,ah K H a xs∧xs.length≤i⟩
def AQ (K:PySem.W.Frag) (a:Addr):It:=
 ⟨fun i H=>aZ fun xs x=>ag K H a xs∧xs[i]?=some x,fun i H x H'=>H'=H∧∀xs,ag K H a xs→xs[i]?=some x,fun i H=>∃xs,ag K H a xs∧xs.length≤i⟩
def Ba (lo:Int) (n:Nat):It:=⟨fun i _=>i<n,fun i H x H'=>H'=H∧x=.int (lo+i),fun i _=>n≤i⟩
theorem Dj {P:Program}{w:World}{K:PySem.W.Frag}{tg:Expr} (a it:Addr):xH P w K tg (AT K a) [it] it (fun i h=>h.IsListIter it a i) where
 mem:=by simp
 obj:=fun i h st b hb=>by
  have e:b=it:=by simpa using hb
  subst e
  obtain ⟨o,e,c,d⟩:=st
  exact ⟨o,e,fun v z=>by rw [d] at z;cases z⟩
 keep:=fun i h h' st k=>st.at fun o e=>k it (by simp) o e
 item:=by
  intro X hP hw hK hc i pins s σ H E I hf st hg
  subst hP hw hK
  obtain ⟨xs,x,hq,hx⟩:=hg
  obtain ⟨its,rv,p,hz⟩:=I.list hq
  obtain ⟨u,hu,ru⟩:=rv.get hx
  obtain ⟨f0,f1,f2,f3,f4,f5⟩:=hf it (by simp)
  refine wpAny_pyNext_list_item st p.isList (x:=u) (by simpa using hu) fun h' st' sb=>?_
  have I1:af X pins σ H { s with heap:=h' }:=I.turned (t':=s.toks) (fun b o hb e=>(sb.2 b hb).trans e) f0 f1 f3 f4 f5
  obtain ⟨o,e,c,d⟩:=id st'
  exact ⟨u,rfl,BX (s:={ s with heap:=h' }) e c d (by decide) ⟨x,H,I1,ru,⟨rfl,fun ys hy=>by rw [I.list_inj hy hq];exact hx⟩,st',fun b hb=>(hf b hb).1⟩⟩
 done:=by
  intro X hP hw hK hc i pins s σ H E I hf st hg
  subst hP hw hK
  obtain ⟨xs,hq,hx⟩:=hg
  obtain ⟨its,rv,p,hz⟩:=I.list hq
  obtain ⟨f0,f1,f2,f3,f4,f5⟩:=hf it (by simp)
  have hl:=rv.length
  exact wpAny_pyNext_list_end (I.ok.hd hc) st p.isList (by simp;trivial) fun h' eb=>⟨rfl,I.turned (t':=s.toks) (fun b o hb e=>eb b o hb e) f0 f1 f3 f4 f5⟩
 self:=fun _ _ _ _ _ st h=>wpAny_pyIter_listiter st h
theorem Br {P:Program}{w:World}{K:PySem.W.Frag}{tg:Expr} (a it:Addr):xH P w K tg (AQ K a) [it] it (fun i h=>h.IsTupleIter it a i) where
 mem:=by simp
 obj:=fun i h st b hb=>by
  have e:b=it:=by simpa using hb
  subst e
  obtain ⟨o,e,c,d⟩:=st
  exact ⟨o,e,fun v z=>by rw [d] at z;cases z⟩
 keep:=fun i h h' st k=>st.at fun o e=>k it (by simp) o e
 item:=by
  intro X hP hw hK hc i pins s σ H E I hf st hg
  subst hP hw hK
  obtain ⟨xs,x,hq,hx⟩:=hg
  obtain ⟨its,rv,p,hz⟩:=I.tuple hq
  obtain ⟨u,hu,ru⟩:=rv.get hx
  obtain ⟨f0,f1,f2,f3,f4,f5⟩:=hf it (by simp)
  refine wpAny_pyNext_tuple_item st (show s.heap.IsTuple a its.toArray from p) (x:=u) (by simpa using hu) fun h' st' sb=>?_
  have I1:af X pins σ H { s with heap:=h' }:=I.turned (t':=s.toks) (fun b o hb e=>(sb.2 b hb).trans e) f0 f1 f3 f4 f5
  obtain ⟨o,e,c,d⟩:=id st'
  exact ⟨u,rfl,BX (s:={ s with heap:=h' }) e c d (by decide) ⟨x,H,I1,ru,⟨rfl,fun ys hy=>by rw [I.tuple_inj hy hq];exact hx⟩,st',fun b hb=>(hf b hb).1⟩⟩
 done:=by
  intro X hP hw hK hc i pins s σ H E I hf st hg
  subst hP hw hK
  obtain ⟨xs,hq,hx⟩:=hg
  obtain ⟨its,rv,p,hz⟩:=I.tuple hq
  obtain ⟨f0,f1,f2,f3,f4,f5⟩:=hf it (by simp)
  have hl:=rv.length
  exact wpAny_pyNext_tuple_end (I.ok.hd hc) st (show s.heap.IsTuple a its.toArray from p) (by simp;trivial) fun h' eb=>⟨rfl,I.turned (t':=s.toks) (fun b o hb e=>eb b o hb e) f0 f1 f3 f4 f5⟩
 self:=fun _ _ _ _ _ st h=>wpAny_pyIter_tupleiter st h
theorem Bw {P:Program}{w:World}{K:PySem.W.Frag}{tg:Expr} (it:Addr) (lo:Int) (n:Nat):xH P w K tg (Ba lo n) [it] it (fun i h=>IsRangeIter h it (lo+(i:Nat)*1) ((n:Int) - (i:Nat)) 1) where
 mem:=by simp
 obj:=fun i h st b hb=>by
  have e:b=it:=by simpa using hb
  subst e
  exact ⟨_,st,fun v z=>by
   have z':Data.fields _=Data.cell v:=z
   cases z'⟩
 keep:=fun i h h' st k=>k it (by simp) _ st
 item:=by
  intro X hP hw hK hc i pins s σ H E I hf st hg
  subst hP hw hK
  obtain ⟨f0,f1,f2,f3,f4,f5⟩:=hf it (by simp)
  have W:=Walks.range (prog:=X.prog) (w:=X.w) (I.ok.hd hc) it lo 1 n
  refine W.item i s _ _ hg st fun v h' tk hv st' kk=>?_
  obtain ⟨t,rfl⟩:=hv
  have I1:af X pins σ H { s with heap:=h',toks:=tk }:=I.turned (fun b o hb e=>kk b o (by simpa using hb) e) f0 f1 f3 f4 f5
  refine ⟨(),BX (s:={ s with heap:=h',toks:=tk }) (n := "range_iterator") st' rfl rfl (by decide) ⟨.int (lo+i),H,I1,⟨t,?_⟩,⟨rfl,rfl⟩,st',fun b hb=>(hf b hb).1⟩⟩
  rw [Int.mul_one]
 done:=by
  intro X hP hw hK hc i pins s σ H E I hf st hg
  subst hP hw hK
  obtain ⟨f0,f1,f2,f3,f4,f5⟩:=hf it (by simp)
  exact wpAny_pyNext_range_end (I.ok.hd hc) st (by have:n≤i:=hg;trivial) fun h' eb=>⟨rfl,I.turned (t':=s.toks) (fun b o hb e=>eb b o hb e) f0 f1 f3 f4 f5⟩
 self:=fun _ _ _ _ _ st h=>wpAny_pyIter_rangeiter st h
section
variable {X:Cx}{tg:Expr}
def FD (K:PySem.W.Frag) (tl:TE):TI:=fun σ H R=>tl σ H fun x H1=>∃a,x=.ref a∧(∃xs,ah K H1 a xs)∧R (AT K a) H1
def EJ (K:PySem.W.Frag) (tl:TE):TI:=fun σ H R=>tl σ H fun x H1=>∃a,x=.ref a∧(∃xs,ag K H1 a xs)∧R (AQ K a) H1
theorem AM {l:Expr}{tl:TE} (hl:PE X l tl):PI X tg l (FD X.K tl):=by
 intro pins s σ H R I h
 refine aO (hl pins s σ H _ I h) fun v s1 ⟨x,H1,I1,r1,q1⟩=>?_
 obtain ⟨a,e,⟨xs,hq⟩,q⟩:=q1
 subst e
 cases r1
 obtain ⟨its,rv,p,hz⟩:=I1.list hq
 refine wpAny_pyIter_list p.isList ?_
 refine ⟨s1.heap.objs.size,[s1.heap.objs.size],_,_,H1,rfl,I1.kept (t':=s1.toks) fun b o e=>Heap.get?_push_of_some _ e,Dj a _,⟨_,Heap.get?_push_size _ rfl,rfl,rfl⟩,fun b hb=>?_,q⟩
 have e:b=s1.heap.objs.size:=by simpa using hb
 subst e
 exact I1.fpOk (Nat.le_refl _) (I1.hok.fresh (Nat.le_refl _))
theorem HR {l:Expr}{tl:TE} (hl:PE X l tl):PI X tg l (EJ X.K tl):=by
 intro pins s σ H R I h
 refine aO (hl pins s σ H _ I h) fun v s1 ⟨x,H1,I1,r1,q1⟩=>?_
 obtain ⟨a,e,⟨xs,hq⟩,q⟩:=q1
 subst e
 cases r1
 obtain ⟨its,rv,p,hz⟩:=I1.tuple hq
 refine wpAny_pyIter_tuple (show s1.heap.IsTuple a its.toArray from p) ?_
 refine ⟨s1.heap.objs.size,[s1.heap.objs.size],_,_,H1,rfl,I1.kept (t':=s1.toks) fun b o e=>Heap.get?_push_of_some _ e,Br a _,⟨_,Heap.get?_push_size _ rfl,rfl,rfl⟩,fun b hb=>?_,q⟩
 have e:b=s1.heap.objs.size:=by simpa using hb
 subst e
 exact I1.fpOk (Nat.le_refl _) (I1.hok.fresh (Nat.le_refl _))
theorem Ep {pins:List (Addr×Obj)}{σ:St}{H:Hp}{s:Shared}{R:It→Hp→Prop}{E:Value→Shared→Prop}{lo hi:Int}{t u v:Tok}{tk:Nat} (I:af X pins σ H s) (h1:-(2 ^ 62)≤lo) (h2:lo<2 ^ 62) (h3:-(2 ^ 62)≤hi) (h4:hi<2 ^ 62)
 (q:R (Ba lo (hi - lo).toNat) H):wpAny (model X.prog X.w) X.A (pyIter (.ref s.heap.objs.size)) (KW X pins σ tg R) E { s with heap:=s.heap.push { cls:=.type "range",data:=.fields #[.int lo t,.int hi u,.int 1 v] },toks:=tk }:=by
 refine wpAny_pyIter_range (IsRange.new ..) (small_one h1 h2 h3 h4) ?_
 have I1:af X pins σ H { s with heap:=s.heap.push { cls:=.type "range",data:=.fields #[.int lo t,.int hi u,.int 1 v] },toks:=tk }:=I.kept fun b o e=>Heap.get?_push_of_some _ e
 refine ⟨(s.heap.push { cls:=.type "range",data:=.fields #[.int lo t,.int hi u,.int 1 v] }).objs.size,[(s.heap.push { cls:=.type "range",data:=.fields #[.int lo t,.int hi u,.int 1 v] }).objs.size],_,_,H,rfl,
  I1.kept (t':=tk) fun b o e=>Heap.get?_push_of_some _ e,Bw _ lo (hi - lo).toNat,?_,fun b hb=>?_,q⟩
 ·have e1:lo+((0:Nat):Int)*1=lo:=by simp
  have e2:(((hi - lo).toNat:Nat):Int) - ((0:Nat):Int)=Builtin.Range.rangeSize lo hi 1:=by rw [rangeSize_one];split <;> trivial
  show IsRangeIter _ _ (lo+((0:Nat):Int)*1) ((((hi - lo).toNat:Nat):Int) - ((0:Nat):Int)) 1
  rw [e1,e2]
  exact Heap.get?_push_size _ rfl
 ·have e:b=(s.heap.push { cls:=.type "range",data:=.fields #[.int lo t,.int hi u,.int 1 v] }).objs.size:=by simpa using hb
  subst e
  exact I1.fpOk (Nat.le_refl _) (I1.hok.fresh (Nat.le_refl _))
def Ka (ta:TA):TI:=fun σ H R=>ta σ H fun vs H1=>∃j:Int,vs=[.int j]∧-(2 ^ 62)≤j∧j<2 ^ 62∧R (Ba 0 j.toNat) H1
theorem eX {a:Expr}{ta:TA}{p pos:Pos} (hg:Gl X "range") (hm:X.mg "range" = none) (ha:PA X [a] ta) (hs:starEach [a] X.env=[(false,eval a X.env)]:=by rfl):PI X tg (.Call (.Name "range" p) [a] [] pos) (Ka ta):=by
 intro pins s σ H R I h
 refine Call_ (iA I hg hm boot_range (PyProof.Rows.callWith_type1 (aO (ha pos pins s σ H _ I h) fun us s1 ⟨vs,H1,I1,r1,q1⟩=>?_) hs rfl))
 obtain ⟨j,e,q1,q2,q⟩:=q1
 subst e
 cases r1 with
 | cons r rr=>
  cases rr
  obtain ⟨t,rfl⟩:=r
  exact call_range_1 (Ep I1 (by trivial) (by trivial) q1 q2 (by simpa using q))
def Jr (wi:TI) (g:TG) (tb:TS):TS:=fun D σ H=>wi σ H fun J H1=>∃W:Nat→Nat→St→Hp→Prop,(∃m,W 0 m σ H1)∧∀i m σ H,W i m σ H→
 (J.stop i H∧D.nx σ H)∨(J.go i H∧∃N:St→Hp→Prop,(∀σ' H',N σ' H'→∃m',m'<m∧W (i+1) m' σ' H')∧∀x H',J.yld i H x H'→g x σ H' fun σ2 H2=>tb { D with nx:=N,ct:=N,bk:=D.nx } σ2 H2)
def qe (fp:List Addr) (h:Heap):List (Addr×Obj):=fp.filterMap fun b=>(h.get? b).map fun o=>(b,o)
theorem jz {fp:List Addr}{h:Heap}{b:Addr}{o:Obj} (hb:b∈fp) (e:h.get? b=some o):(b,o)∈qe fp h:=List.mem_filterMap.mpr ⟨b,hb,by rw [e];rfl⟩
theorem En {fp:List Addr}{h:Heap}{p:Addr×Obj} (hp:p∈qe fp h):p.1∈fp∧h.get? p.1=some p.2:=by
 obtain ⟨b,hb,e⟩:=List.mem_filterMap.mp hp
 cases q:h.get? b with
 | none=>rw [q] at e;cases e
 | some o=>
  rw [q] at e
  have e':(b,o)=p:=Option.some.inj e
  subst e'
  exact ⟨hb,q⟩
theorem af.pinned {pins:List (Addr×Obj)}{σ:St}{H:Hp}{s:Shared}{fp:List Addr} (I:af X pins σ H s) (hf:∀b∈fp,kB X pins H b) (ho:∀b∈fp,∃o,s.heap.get? b=some o∧∀v,o.data≠.cell v):af X (pins++qe fp s.heap) σ H s:=
 I.pins_of fun p hp=>(List.mem_append.mp hp).elim (fun z=>I.pin p (List.mem_append_right _ z)) fun z=>by
  obtain ⟨hb,e⟩:=En z
  obtain ⟨f0,f1,f2,_⟩:=hf p.1 hb
  obtain ⟨o,e',d⟩:=ho p.1 hb
  rw [e] at e';cases e'
  exact ⟨e,f0,f1,f2,d⟩
theorem af.unpinned {pins pl:List (Addr×Obj)}{σ:St}{H:Hp}{s:Shared} (I:af X (pins++pl) σ H s):af X pins σ H s:=I.pins_of fun p hp=>I.pin p (List.mem_append_right _ (List.mem_append_left _ hp))
theorem cC {iter:Expr}{body:List Stmt}{wi:TI}{g:TG}{tb:TS}{pos:Pos} (hp:PassesOwn (model X.prog X.w) X.A X.env X.xe) (hc:X.calm=true) (hi:PI X tg iter wi) (hg:PG X tg g) (hb:qj X body tb)
 (hs:∀x,foldedSetIterable iter X.env x=pure x:=by intro _;rfl):PS X (.For tg iter body [] pos) (Jr wi g tb):=by
 intro pins s σ H D I h
 refine wpAny_For (aO (hi pins s σ H _ I h) fun v s1 h1=>aO h1 fun itv s2 h2=>?_) hs
 obtain ⟨it,fp,tn,J,H2,e,I2,T,st2,f2,W,⟨m0,w0⟩,turn⟩:=h2
 subst e
 have stat:∀{H':Hp},(∀b∈fp,H' b=none)→∀b∈fp,kB X pins H' b:=fun hn b hb=>⟨hn b hb,(f2 b hb).2⟩
 refine codeAny_forLoop_any (fun n s'=>∃i σ' H',af X pins σ' H' s'∧tn i s'.heap∧(∀b∈fp,H' b=none)∧W i n σ' H') ?_ m0 ⟨0,σ,H2,I2,st2,fun b hb=>(f2 b hb).1,w0⟩
 rintro n s3 ⟨i,σ3,H3,I3,st3,fr3,w3⟩
 rcases turn i n σ3 H3 w3 with ⟨stop,qn⟩ | ⟨go,N,hN,step⟩
 ·refine wpAny_passesOwn hp (aO (T.done X rfl rfl rfl hc i pins s3 σ3 H3 X.xe I3 (stat fr3) st3 stop) fun r s4 ⟨hr,I4⟩=>?_)
  subst hr
  exact wpAny_execs_nil ⟨σ3,H3,I4,qn⟩
 ·refine wpAny_passesOwn hp (aO (T.item X rfl rfl rfl hc i pins s3 σ3 H3 X.xe I3 (stat fr3) st3 go) fun r s4 ⟨u,hr,h4⟩=>?_)
  subst hr
  refine wpAny_passesOwn hp (aO h4 fun _ s5 ⟨x,H5,I5,r5,y5,st5,fr5⟩=>?_)
  have I5':=I5.pinned (stat fr5) (T.obj _ _ st5)
  refine wpAny_passesOwn hp (aO (hg _ s5 σ3 H5 x u _ I5' r5 (step x H5 y5)) fun _ s6 ⟨σ6,H6,I6,q6⟩=>?_)
  refine wpAny_passesOwn hp (aO (hb _ s6 σ6 H6 _ I6 q6) fun f s7 q7=>?_)
  have again:∀{σ7:St}{H7:Hp},af X (pins++qe fp s5.heap) σ7 H7 s7→N σ7 H7→∃m,m<n∧∃i σ' H',af X pins σ' H' s7∧tn i s7.heap∧(∀b∈fp,H' b=none)∧W i m σ' H':=fun {σ7 H7} I7 n7=>by
   obtain ⟨m',hm,w7⟩:=hN σ7 H7 n7
   refine ⟨m',hm,i+1,σ7,H7,I7.unpinned,T.keep _ _ _ st5 fun b hb o e=>(I7.pin (b,o) (List.mem_append_right _ (List.mem_append_right _ (jz hb e)))).1,fun b hb=>?_,w7⟩
   obtain ⟨o,e,d⟩:=T.obj _ _ st5 b hb
   exact (I7.pin (b,o) (List.mem_append_right _ (List.mem_append_right _ (jz hb e)))).2.1
  cases f with
  | next=>obtain ⟨σ7,H7,I7,n7⟩:=q7;exact again I7 n7
  | cont=>obtain ⟨σ7,H7,I7,n7⟩:=q7;exact again I7 n7
  | brk=>obtain ⟨σ7,H7,I7,q7⟩:=q7;exact ⟨σ7,H7,I7.unpinned,q7⟩
  | ret v=>obtain ⟨x7,σ7,H7,I7,r7,q7⟩:=q7;exact ⟨x7,σ7,H7,I7.unpinned,r7,q7⟩
end
theorem jm {K:PySem.W.Frag}{a:Addr}{xs:List V}{g:TG}{tb:TS}{D:fj}{σ:St}{H:Hp} (Pv:Nat→St→Hp→Prop) (h0:Pv 0 σ H) (hl:∀i σ H,i≤xs.length→Pv i σ H→ah K H a xs)
 (hs:∀i x σ H,xs[i]?=some x→Pv i σ H→g x σ H fun σ2 H2=>tb { D with nx:=Pv (i+1),ct:=Pv (i+1),bk:=D.nx } σ2 H2) (hd:∀σ H,Pv xs.length σ H→D.nx σ H) :
 ∃W:Nat→Nat→St→Hp→Prop,(∃m,W 0 m σ H)∧∀i m σ H,W i m σ H→
  ((AT K a).stop i H∧D.nx σ H)∨((AT K a).go i H∧∃N:St→Hp→Prop,(∀σ' H',N σ' H'→∃m',m'<m∧W (i+1) m' σ' H')∧∀x H',(AT K a).yld i H x H'→g x σ H' fun σ2 H2=>tb { D with nx:=N,ct:=N,bk:=D.nx } σ2 H2):=by
 refine ⟨fun i m σ H=>m=xs.length - i∧i≤xs.length∧Pv i σ H,⟨xs.length,by simp,Nat.zero_le _,h0⟩,?_⟩
 rintro i m σ H ⟨rfl,hi,p⟩
 have q:=hl i σ H hi p
 by_cases hlt:i<xs.length
 ·refine .inr ⟨⟨xs,xs[i],q,by simp [hlt]⟩,Pv (i+1),fun σ' H' p'=>⟨xs.length - (i+1),by trivial,rfl,hlt,p'⟩,fun x H' y=>?_⟩
  obtain ⟨e,y⟩:=y
  subst e
  exact hs i x σ _ (y xs q) p
 ·have e:i=xs.length:=by trivial
  subst e
  exact .inl ⟨⟨xs,q,Nat.le_refl _⟩,hd σ H p⟩
theorem uP {K:PySem.W.Frag}{a:Addr}{xs:List V}{g:TG}{tb:TS}{D:fj}{σ:St}{H:Hp} (Pv:Nat→St→Hp→Prop) (h0:Pv 0 σ H) (hl:∀i σ H,i≤xs.length→Pv i σ H→ag K H a xs)
 (hs:∀i x σ H,xs[i]?=some x→Pv i σ H→g x σ H fun σ2 H2=>tb { D with nx:=Pv (i+1),ct:=Pv (i+1),bk:=D.nx } σ2 H2) (hd:∀σ H,Pv xs.length σ H→D.nx σ H) :
 ∃W:Nat→Nat→St→Hp→Prop,(∃m,W 0 m σ H)∧∀i m σ H,W i m σ H→
  ((AQ K a).stop i H∧D.nx σ H)∨((AQ K a).go i H∧∃N:St→Hp→Prop,(∀σ' H',N σ' H'→∃m',m'<m∧W (i+1) m' σ' H')∧∀x H',(AQ K a).yld i H x H'→g x σ H' fun σ2 H2=>tb { D with nx:=N,ct:=N,bk:=D.nx } σ2 H2):=by
 refine ⟨fun i m σ H=>m=xs.length - i∧i≤xs.length∧Pv i σ H,⟨xs.length,by simp,Nat.zero_le _,h0⟩,?_⟩
 rintro i m σ H ⟨rfl,hi,p⟩
 have q:=hl i σ H hi p
 by_cases hlt:i<xs.length
 ·refine .inr ⟨⟨xs,xs[i],q,by simp [hlt]⟩,Pv (i+1),fun σ' H' p'=>⟨xs.length - (i+1),by trivial,rfl,hlt,p'⟩,fun x H' y=>?_⟩
  obtain ⟨e,y⟩:=y
  subst e
  exact hs i x σ _ (y xs q) p
 ·have e:i=xs.length:=by trivial
  subst e
  exact .inl ⟨⟨xs,q,Nat.le_refl _⟩,hd σ H p⟩
theorem j6 {lo:Int}{n:Nat}{g:TG}{tb:TS}{D:fj}{σ:St}{H:Hp} (Pv:Nat→St→Hp→Prop) (h0:Pv 0 σ H)
 (hs:∀i σ H,i<n→Pv i σ H→g (.int (lo+i)) σ H fun σ2 H2=>tb { D with nx:=Pv (i+1),ct:=Pv (i+1),bk:=D.nx } σ2 H2) (hd:∀σ H,Pv n σ H→D.nx σ H) :
 ∃W:Nat→Nat→St→Hp→Prop,(∃m,W 0 m σ H)∧∀i m σ H,W i m σ H→
  ((Ba lo n).stop i H∧D.nx σ H)∨((Ba lo n).go i H∧∃N:St→Hp→Prop,(∀σ' H',N σ' H'→∃m',m'<m∧W (i+1) m' σ' H')∧∀x H',(Ba lo n).yld i H x H'→g x σ H' fun σ2 H2=>tb { D with nx:=N,ct:=N,bk:=D.nx } σ2 H2):=by
 refine ⟨fun i m σ H=>m=n - i∧i≤n∧Pv i σ H,⟨n,by simp,Nat.zero_le _,h0⟩,?_⟩
 rintro i m σ H ⟨rfl,hi,p⟩
 by_cases hlt:i<n
 ·refine .inr ⟨hlt,Pv (i+1),fun σ' H' p'=>⟨n - (i+1),by trivial,rfl,hlt,p'⟩,fun x H' y=>?_⟩
  obtain ⟨e,y⟩:=y
  subst e y
  exact hs i σ _ hlt p
 ·have e:i=n:=by trivial
  subst e
  exact .inl ⟨Nat.le_refl _,hd σ H p⟩
abbrev R2:=V→V→Hp→VK→Prop
def cN (X:Cx) (f:Value→Value→Sem Value) (r:R2):Prop:=
 ∀(pins:List (Addr×Obj)) (s:Shared) (σ:St) (H:Hp) (x y:V) (v u:Value) (Q:VK),af X pins σ H s→aP x v→aP y u→r x y H Q→
   wpAny (model X.prog X.w) X.A (f v u) (EP X pins σ Q) X.xe s
def Hs (X:Cx) (f:Value→Sem Value) (r:V→Hp→VK→Prop):Prop:=
 ∀(pins:List (Addr×Obj)) (s:Shared) (σ:St) (H:Hp) (x:V) (v:Value) (Q:VK),af X pins σ H s→aP x v→r x H Q→
   wpAny (model X.prog X.w) X.A (f v) (EP X pins σ Q) X.xe s
def dj (X:Cx) (f:Value) (r:List V→Hp→VK→Prop):Prop:=
 ∀(pins:List (Addr×Obj)) (s:Shared) (σ:St) (H:Hp) (xs:List V) (us:List Value) (Q:VK),af X pins σ H s→aA xs us→r xs H Q→
   wpAny (model X.prog X.w) X.A (call f us) (EP X pins σ Q) X.xe s
def CN (r:R2) (ta tb:TE):TE:=fun σ H Q=>ta σ H fun x H1=>tb σ H1 fun y H2=>r x y H2 Q
def L5 (r:V→Hp→VK→Prop) (ta:TE):TE:=fun σ H Q=>ta σ H fun x H1=>r x H1 Q
inductive LU (C:Int→Int→Prop) (g:Int→Int→V) (x:V) (y:V) (H:Hp) (Q:VK):Prop
 | mk (i:_) (j:_) (h0:x=.int i) (h1:y=.int j) (h2:C i j) (h3:Q (g i j) H)
def rI (C:Int→Int→Prop) (g:Int→Int→V):R2:=fun x y H Q=>LU C g x y H Q
inductive LI (g:Int→Int→V) (x:V) (y:V) (H:Hp) (Q:VK):Prop
 | mk (i:_) (j:_) (h0:x=.int i) (h1:y=.int j) (h2:Q (g i j) H)
def x6 (g:Int→Int→V):R2:=fun x y H Q=>LI g x y H Q
def rU (g:Int→V):V→Hp→VK→Prop:=fun x H Q=>IX x fun i=>Q (g i) H
section
variable {X:Cx}{a b c:Expr}{ta tb tc:TE}{pos:Pos}
theorem EW (ha:PE X a ta) (hb:PE X b tb) {pins:List (Addr×Obj)}{s:Shared}{σ:St}{H:Hp}{R:V→V→Hp→Prop} (I:af X pins σ H s)
 (h:ta σ H fun x H1=>tb σ H1 fun y H2=>R x y H2) {Q:Value→Shared→Prop}{f:Value→Value→Sem Value}
 (hf:∀v u s2 x y H2,af X pins σ H2 s2→aP x v→aP y u→R x y H2→wpAny (model X.prog X.w) X.A (f v u) Q X.xe s2) :
 wpAny (model X.prog X.w) X.A (eval a X.env) (fun v s₁=>wpAny (model X.prog X.w) X.A (eval b X.env) (fun u s₂=>wpAny (model X.prog X.w) X.A (f v u) Q X.xe s₂) X.xe s₁) X.xe s:=by
 refine aO (ha pins s σ H _ I h) fun v s1 ⟨x,H1,I1,r1,q1⟩=>?_
 refine aO (hb pins s1 σ H1 _ I1 q1) fun u s2 ⟨y,H2,I2,r2,q2⟩=>?_
 exact hf v u s2 x y H2 I2 r1 r2 q2
theorem ai {op:Operator}{r:R2} (ho:cN X (binaryOp op) r) (ha:PE X a ta) (hb:PE X b tb):PE X (.BinOp a op b pos) (CN r ta tb):=by
 intro pins s σ H Q I h
 exact wpAny_BinOp (EW ha hb I h fun v u s2 x y H2 I2 rx ry q=>ho pins s2 σ H2 x y v u Q I2 rx ry q)
theorem uJ {op:UnaryOp}{r:V→Hp→VK→Prop} (ho:Hs X (unaryOp op) r) (ha:PE X a ta):PE X (.UnaryOp op a pos) (L5 r ta):=by
 intro pins s σ H Q I h
 exact UnaryOp_ (aO (ha pins s σ H _ I h) fun v s1 ⟨x,H1,I1,r1,q1⟩=>ho pins s1 σ H1 x v Q I1 r1 q1)
theorem yy {f:Value→Value→Sem Value}{C:Int→Int→Prop}{g:Int→Int→Int}
 (rule:∀(i j:Int) (t u:Tok) (s:Shared) (Q:Value→Shared→Prop) (E:Value→Shared→Prop),C i j→Q (.int (g i j) s.toks) { s with toks:=s.toks+1 }→wpAny (model X.prog X.w) X.A (f (.int i t) (.int j u)) Q E s) :
 cN X f (rI C fun i j=>.int (g i j)):=by
 intro pins s σ H x y v u Q I rx ry h
 obtain ⟨i,j,rfl,rfl,hc,q⟩:=h
 obtain ⟨t,rfl⟩:=rx
 obtain ⟨t',rfl⟩:=ry
 exact rule i j t t' s _ _ hc ⟨.int (g i j),H,I.tok _,⟨()⟩,q⟩
theorem Hd {f:Value→Value→Sem Value}{g:Int→Int→Int}
 (rule:∀(i j:Int) (t u:Tok) (s:Shared) (Q:Value→Shared→Prop) (E:Value→Shared→Prop),Q (.int (g i j) s.toks) { s with toks:=s.toks+1 }→wpAny (model X.prog X.w) X.A (f (.int i t) (.int j u)) Q E s) :
 cN X f (x6 fun i j=>.int (g i j)):=by
 intro pins s σ H x y v u Q I rx ry h
 obtain ⟨i,j,rfl,rfl,q⟩:=h
 obtain ⟨t,rfl⟩:=rx
 obtain ⟨t',rfl⟩:=ry
 exact rule i j t t' s _ _ ⟨.int (g i j),H,I.tok _,⟨()⟩,q⟩
theorem By {f:Value→Value→Sem Value}{g:Int→Int→Bool}
 (rule:∀(i j:Int) (t u:Tok) (s:Shared) (Q:Value→Shared→Prop) (E:Value→Shared→Prop),Q (.bool (g i j)) s→wpAny (model X.prog X.w) X.A (f (.int i t) (.int j u)) Q E s) :
 cN X f (x6 fun i j=>.bl (g i j)):=by
 intro pins s σ H x y v u Q I rx ry h
 obtain ⟨i,j,rfl,rfl,q⟩:=h
 obtain ⟨t,rfl⟩:=rx
 obtain ⟨t',rfl⟩:=ry
 exact rule i j t t' s _ _ ⟨.bl (g i j),H,I,rfl,q⟩
def LL (i j:Int):Prop:=0<j∧j<1073741824
def Lk (i j:Int):Prop:=0≤j∧j≤1000000∧i.natAbs<2 ^ 64
def Et (i j:Int):Prop:=(-(2 ^ 64)<i∧i<2 ^ 64)∨(-(2 ^ 64)<j∧j<2 ^ 64)
theorem Et.ok {i j:Int} (h:Et i j):IntMulOk i j:=by
 rcases h with ⟨h1,h2⟩ | ⟨h1,h2⟩
 ·exact .of_left (intBits_le_64 h1 h2)
 ·exact .of_right (intBits_le_64 h1 h2)
theorem bE:cN X (binaryOp .Add) (x6 fun i j=>.int (i+j)):=Hd fun _ _ _ _ _ _ _ q=>add_int q
theorem f9:cN X (binaryOp .Sub) (x6 fun i j=>.int (i - j)):=Hd fun _ _ _ _ _ _ _ q=>sub_int q
theorem ir:cN X (binaryOp .Mult) (rI Et fun i j=>.int (i*j)):=yy fun _ _ _ _ _ _ _ hc q=>mul_int q hc.ok
theorem GI:cN X (binaryOp .FloorDiv) (rI LL fun i j=>.int (i / j)):=yy fun i j _ _ _ _ _ hc q=>by
 have h1:(0:Int)<j:=hc.1
 have h2:j<1073741824:=hc.2
 exact floordiv_int (by trivial) (by rw [Int.fdiv_eq_ediv_of_nonneg i (by trivial)];exact q) (.inl (PyProof.noPylong_small (by trivial)))
theorem jh:cN X (binaryOp .Mod) (rI (fun _ j=>0<j) fun i j=>.int (i % j)):=yy fun i j _ _ _ _ _ hc q=>by
 have h1:(0:Int)<j:=hc
 exact mod_int' (by trivial) (by rw [Int.fmod_eq_emod_of_nonneg i (by trivial)];exact q)
theorem GU:cN X (binaryOp .Mod) (rI (fun _ j=>j≠0) fun i j=>.int (i.fmod j)):=yy fun _ _ _ _ _ _ _ hc q=>mod_int' hc q
theorem zr:cN X (binaryOp .Pow) (rI Lk fun i j=>.int (i ^ j.toNat)):=yy fun _ _ _ _ _ _ _ hc q=>pow_int_small hc.1 hc.2.1 hc.2.2 q
theorem L8 {f:Value→Sem Value}{g:Int→Int}
 (rule:∀(i:Int) (t:Tok) (s:Shared) (Q:Value→Shared→Prop) (E:Value→Shared→Prop),Q (.int (g i) s.toks) { s with toks:=s.toks+1 }→wpAny (model X.prog X.w) X.A (f (.int i t)) Q E s) :
 Hs X f (rU fun i=>.int (g i)):=by
 intro pins s σ H x v Q I rx h
 obtain ⟨i,rfl,q⟩:=h
 obtain ⟨t,rfl⟩:=rx
 exact rule i t s _ _ ⟨.int (g i),H,I.tok _,⟨()⟩,q⟩
theorem qc:Hs X (unaryOp .USub) (rU fun i=>.int (-i)):=L8 fun _ _ _ _ _ q=>neg_int q
end
def Jh:V→V→Bool
 | .non,.non=>true | .non,.int _=>true | .int _,.non=>true | .non,.bl _=>true | .bl _,.non=>true | .non,.str _=>true | .str _,.non=>true
 | .int _,.int _=>true | .bl _,.bl _=>true | .str _,.str _=>true | .byt _,.byt _=>true
 | .int _,.str _=>true | .str _,.int _=>true | .bl _,.str _=>true | .str _,.bl _=>true
 | _,_=>false
def LX:R2:=fun x y H Q=>Jh x y=true∧Q (.bl (decide (x=y))) H
def LW:R2:=fun x y H Q=>Jh x y=true∧Q (.bl (!decide (x=y))) H
theorem Be {i j:Int}:decide (V.int i=V.int j)=(i==j):=by
 rw [Bool.eq_iff_iff]
 simp
theorem CY {i j:Bool}:decide (V.bl i=V.bl j)=(i==j):=by
 rw [Bool.eq_iff_iff]
 simp
theorem qm {i j:Str}:decide (V.str i=V.str j)=(i==j):=by
 rw [Bool.eq_iff_iff]
 simp
theorem Bf {i j:Array UInt8}:decide (V.byt i=V.byt j)=(i.toList==j.toList):=by
 rw [Bool.eq_iff_iff]
 cases i
 cases j
 simp
section
variable {X:Cx}{a b c:Expr}{ta tb tc:TE}{pos:Pos}
theorem bt {pins:List (Addr×Obj)}{σ:St}{H:Hp}{s:Shared}{Q:VK}{k k':Bool} (I:af X pins σ H s) (q:Q (.bl k) H) (e:k=k'):EP X pins σ Q (.bool k') s:=by
 subst e
 exact ⟨.bl k,H,I,rfl,q⟩
theorem gY:cN X (compareOp .Eq) LX:=by
 intro pins s σ H x y v u Q I rx ry h
 obtain ⟨hs,q⟩:=h
 cases x with
 | non=>
  cases rx
  cases y with
  | non=>cases ry;exact PySem.EqNone.eq_none_none (bt I q (by simp))
  | bl j=>cases ry;exact PySem.EqNone.eq_none_bool (bt I q (by simp))
  | int j=>obtain ⟨t',rfl⟩:=ry;exact PySem.EqNone.eq_none_int (bt I q (by simp))
  | str j=>obtain ⟨t',rfl⟩:=ry;exact PySem.EqNone.eq_none_str (bt I q (by simp))
  | _=>exact absurd (show false=true from hs) Bool.false_ne_true
 | bl i=>
  cases rx
  cases y with
  | non=>cases ry;exact PySem.EqNone.eq_bool_none (bt I q (by simp))
  | bl j=>cases ry;exact eq_bool (bt I q CY)
  | str j=>obtain ⟨t',rfl⟩:=ry;exact PySem.EqMixed.eq_bool_str (bt I q (by simp))
  | _=>exact absurd (show false=true from hs) Bool.false_ne_true
 | int i=>
  obtain ⟨t,rfl⟩:=rx
  cases y with
  | non=>cases ry;exact PySem.EqNone.eq_int_none (bt I q (by simp))
  | int j=>obtain ⟨t',rfl⟩:=ry;exact eq_int (bt I q Be)
  | str j=>obtain ⟨t',rfl⟩:=ry;exact PySem.EqMixed.eq_int_str (bt I q (by simp))
  | _=>exact absurd (show false=true from hs) Bool.false_ne_true
 | str i=>
  obtain ⟨t,rfl⟩:=rx
  cases y with
  | non=>cases ry;exact PySem.EqNone.eq_str_none (bt I q (by simp))
  | bl j=>cases ry;exact PySem.EqMixed.eq_str_bool (bt I q (by simp))
  | int j=>obtain ⟨t',rfl⟩:=ry;exact PySem.EqMixed.eq_str_int (bt I q (by simp))
  | str j=>obtain ⟨t',rfl⟩:=ry;exact eq_str (bt I q qm)
  | _=>exact absurd (show false=true from hs) Bool.false_ne_true
 | byt i=>
  obtain ⟨t,rfl⟩:=rx
  cases y with
  | byt j=>obtain ⟨t',rfl⟩:=ry;exact PySem.W.eq_bytes (bt I q Bf)
  | _=>exact absurd (show false=true from hs) Bool.false_ne_true
 | _=>cases y <;> exact absurd (show false=true from hs) Bool.false_ne_true
theorem lV:cN X (compareOp .NotEq) LW:=by
 intro pins s σ H x y v u Q I rx ry h
 obtain ⟨hs,q⟩:=h
 cases x with
 | non=>
  cases rx
  cases y with
  | non=>cases ry;exact PySem.EqNone.ne_none_none (bt I q (by simp))
  | bl j=>cases ry;exact PySem.EqNone.ne_none_bool (bt I q (by simp))
  | int j=>obtain ⟨t',rfl⟩:=ry;exact PySem.EqNone.ne_none_int (bt I q (by simp))
  | str j=>obtain ⟨t',rfl⟩:=ry;exact PySem.EqNone.ne_none_str (bt I q (by simp))
  | _=>exact absurd (show false=true from hs) Bool.false_ne_true
 | bl i=>
  cases rx
  cases y with
  | non=>cases ry;exact PySem.EqNone.ne_bool_none (bt I q (by simp))
  | bl j=>cases ry;exact ne_bool (bt I q (congrArg not CY))
  | str j=>obtain ⟨t',rfl⟩:=ry;exact PySem.EqMixed.ne_bool_str (bt I q (by simp))
  | _=>exact absurd (show false=true from hs) Bool.false_ne_true
 | int i=>
  obtain ⟨t,rfl⟩:=rx
  cases y with
  | non=>cases ry;exact PySem.EqNone.ne_int_none (bt I q (by simp))
  | int j=>obtain ⟨t',rfl⟩:=ry;exact ne_int (bt I q (congrArg not Be))
  | str j=>obtain ⟨t',rfl⟩:=ry;exact PySem.EqMixed.ne_int_str (bt I q (by simp))
  | _=>exact absurd (show false=true from hs) Bool.false_ne_true
 | str i=>
  obtain ⟨t,rfl⟩:=rx
  cases y with
  | non=>cases ry;exact PySem.EqNone.ne_str_none (bt I q (by simp))
  | bl j=>cases ry;exact PySem.EqMixed.ne_str_bool (bt I q (by simp))
  | int j=>obtain ⟨t',rfl⟩:=ry;exact PySem.EqMixed.ne_str_int (bt I q (by simp))
  | str j=>obtain ⟨t',rfl⟩:=ry;exact ne_str (bt I q (congrArg not qm))
  | _=>exact absurd (show false=true from hs) Bool.false_ne_true
 | byt i=>
  obtain ⟨t,rfl⟩:=rx
  cases y with
  | byt j=>obtain ⟨t',rfl⟩:=ry;exact PySem.W.ne_bytes (bt I q (congrArg not Bf))
  | _=>exact absurd (show false=true from hs) Bool.false_ne_true
 | _=>cases y <;> exact absurd (show false=true from hs) Bool.false_ne_true
theorem kH:cN X (compareOp .Lt) (x6 fun i j=>.bl (decide (i<j))):=By fun _ _ _ _ _ _ _ q=>lt_int q
theorem JT:cN X (compareOp .LtE) (x6 fun i j=>.bl (decide (i≤j))):=By fun _ _ _ _ _ _ _ q=>le_int q
theorem lM:cN X (compareOp .Gt) (x6 fun i j=>.bl (decide (j<i))):=By fun _ _ _ _ _ _ _ q=>gt_int q
theorem JF:cN X (compareOp .GtE) (x6 fun i j=>.bl (decide (j≤i))):=By fun _ _ _ _ _ _ _ q=>ge_int q
theorem wE:cN X (compareOp .Is) (fun x y H Q=>y=.non∧Q (.bl (decide (x=.non))) H):=by
 intro pins s σ H x y v u Q I rx ry h
 obtain ⟨rfl,q⟩:=h
 cases ry
 refine is_none_gen (bt I q ?_)
 cases x <;> first
  | (cases rx;rfl)
  | (obtain ⟨t,rfl⟩:=rx;rfl)
theorem xx:cN X (compareOp .IsNot) (fun x y H Q=>y=.non∧Q (.bl (!decide (x=.non))) H):=by
 intro pins s σ H x y v u Q I rx ry h
 obtain ⟨rfl,q⟩:=h
 cases ry
 refine isnot_none_gen (bt I q ?_)
 cases x <;> first
  | (cases rx;rfl)
  | (obtain ⟨t,rfl⟩:=rx;rfl)
theorem tM (b:Expr) {op:CmpOp} (h:op≠.In:=by decide) (h2:op≠.NotIn:=by decide):behindInMarks op b=false:=by
 have e1:(op==CmpOp.In)=false:=by cases op <;> first | rfl | exact absurd rfl h
 have e2:(op==CmpOp.NotIn)=false:=by cases op <;> first | rfl | exact absurd rfl h2
 cases b <;> simp [behindInMarks,e1,e2]
theorem oa {op:CmpOp}{r:R2} (ho:cN X (compareOp op) r) (ha:PE X a ta) (hb:PE X b tb) (hm:behindInMarks op b=false):PE X (.Compare a [op] [b] pos) (CN r ta tb):=by
 intro pins s σ H Q I h
 exact wpAny_Compare1 (EW ha hb I h fun v u s2 x y H2 I2 rx ry q=>ho pins s2 σ H2 x y v u Q I2 rx ry q) hm
def Jz (t:TE):TT:=fun σ H Q=>t σ H fun x H'=>Bp x fun k=>Q k H'
theorem ap {op:CmpOp}{r:R2} (ho:cN X (compareOp op) r) (ha:PE X a ta) (hb:PE X b tb) (hm:behindInMarks op b=false):PT X (.Compare a [op] [b] pos) (Jz (CN r ta tb)):=by
 intro pins s σ H Q I h
 refine wpAny_isTrue_Compare1 (aO (ha pins s σ H _ I h) fun v s1 ⟨x,H1,I1,r1,q1⟩=>aO (hb pins s1 σ H1 _ I1 q1) fun u s2 ⟨y,H2,I2,r2,q2⟩=>
  aO (ho pins s2 σ H2 x y v u _ I2 r1 r2 q2) fun c s3 ⟨z,H3,I3,r3,k,e,q3⟩=>?_) hm
 subst e
 cases r3
 exact wpAny_truthy_bool ⟨H3,I3,q3⟩
theorem BR {xs:List V}{its:List Value} (r:aA xs its):(!its.toArray.isEmpty)=!xs.isEmpty:=by
 cases r <;> simp
theorem tW:(sizeLine:Nat)<2 ^ 63:=by rw [sizeLine_eq];decide
theorem BZ:cN X (binaryOp .Add) (fun x y H Q=>aZ fun i j=>x=.str i∧y=.str j∧i.length+j.length≤sizeLine∧Q (.str (i++j)) H):=by
 intro pins s σ H x y v u Q I rx ry h
 obtain ⟨i,j,rfl,rfl,hz,q⟩:=h
 obtain ⟨t,rfl⟩:=rx
 obtain ⟨t',rfl⟩:=ry
 exact add_str (fun t' tk=>⟨.str (i++j),H,I.tok _,⟨()⟩,q⟩) hz
theorem ny {x:V}{us:List Value} (r:aA [x] us):∃u,us=[u]∧aP x u:=by
 cases r with
 | cons r1 r2=>cases r2;exact ⟨_,rfl,r1⟩
theorem BQ {x y:V}{us:List Value} (r:aA [x,y] us):aZ fun u w'=>us=[u,w']∧aP x u∧aP y w':=by
 cases r with
 | cons r1 r2=>
  cases r2 with
  | cons r3 r4=>cases r4;exact ⟨_,_,rfl,r1,r3⟩
theorem oW:dj X (.builtin "abs") (fun xs H Q=>∃i,xs=[.int i]∧Q (.int (if i<0 then -i else i)) H):=by
 intro pins s σ H xs us Q I r h
 obtain ⟨i,rfl,q⟩:=h
 obtain ⟨u,rfl,t,rfl⟩:=ny r
 exact call_abs_int fun u tk=>⟨.int (if i<0 then -i else i),H,I.tok _,⟨()⟩,q⟩
theorem CJ (hc:X.calm=true):dj X (.builtin "max") (fun xs H Q=>aZ fun i j=>xs=[.int i,.int j]∧Q (.int (if j > i then j else i)) H):=by
 intro pins s σ H xs us Q I r h
 obtain ⟨i,j,rfl,q⟩:=h
 obtain ⟨u,w',rfl,⟨t,rfl⟩,⟨t',rfl⟩⟩:=BQ r
 refine max_two_ints (I.ok.hd hc) fun h' tk k=>⟨_,H,I.kept k,?_,q⟩
 by_cases hj:j > i
 ·rw [if_pos hj,if_pos hj];exact ⟨()⟩
 ·rw [if_neg hj,if_neg hj];exact ⟨()⟩
theorem CD (hc:X.calm=true):dj X (.builtin "min") (fun xs H Q=>aZ fun i j=>xs=[.int i,.int j]∧Q (.int (if j<i then j else i)) H):=by
 intro pins s σ H xs us Q I r h
 obtain ⟨i,j,rfl,q⟩:=h
 obtain ⟨u,w',rfl,⟨t,rfl⟩,⟨t',rfl⟩⟩:=BQ r
 refine min_two_ints (I.ok.hd hc) fun h' tk k=>⟨_,H,I.kept k,?_,q⟩
 by_cases hj:j<i
 ·rw [if_pos hj,if_pos hj];exact ⟨()⟩
 ·rw [if_neg hj,if_neg hj];exact ⟨()⟩
theorem yD:dj X (.type "int") (fun xs H Q=>(∃i,xs=[.int i]∧Q (.int i) H)∨∃k,xs=[.bl k]∧Q (.int (if k then 1 else 0)) H):=by
 intro pins s σ H xs us Q I r h
 rcases h with ⟨i,rfl,q⟩ | ⟨k,rfl,q⟩
 ·obtain ⟨u,rfl,t,rfl⟩:=ny r
  exact call_int_int ⟨.int i,H,I,⟨()⟩,q⟩
 ·obtain ⟨u,rfl,r1⟩:=ny r
  cases r1
  exact call_int_bool ⟨.int (if k then 1 else 0),H,I.tok _,⟨()⟩,q⟩
end
structure Fr (h:Heap) (x dx C:Addr) (mA:Str→Option Value):Prop where
 obj:h.get? x=some (PySem.W.instObj C dx)
 ns:h.Ns1 dx mA
 ne:dx≠x
theorem C3 {h:Heap}{dx:Addr}{mA:Str→Option Value} (n:h.Ns1 dx mA):∃od,h.get? dx=some od∧∀name,PySem.W.lookIn name od=some (mA name):=by
 obtain ⟨o,es,ep,ho,hd,hk,_,hm⟩:=n
 refine ⟨o,ho,fun name=>?_⟩
 have e:=hm name
 unfold nsFind findBy at e
 rw [←Array.find?_toList] at e
 unfold PySem.W.lookIn
 rw [hd]
 dsimp only
 split
 ·rename_i y q
  rw [q] at e
  exact congrArg some e
 ·rename_i q
  rw [q] at e
  have a:es.toList.any (·.refKey)=false:=by
   rw [List.any_eq_false]
   intro y hy
   obtain ⟨z,t,hkey⟩:=hk y (Array.mem_toList_iff.mp hy)
   simp [DictEntry.refKey,hkey]
  have a':¬es.toList.any (·.refKey)=true:=by rw [a];exact Bool.false_ne_true
  rw [if_neg a']
  exact congrArg some e
theorem Fr.look {h:Heap}{x dx C:Addr}{mA:Str→Option Value} (I:Fr h x dx C mA):∃od,PySem.W.InstAt h x (PySem.W.instObj C dx) C (some od)∧∀name,PySem.W.lookIn name od=some (mA name):=
 let ⟨od,ho,hl⟩:=C3 I.ns
 ⟨od,⟨I.obj,rfl,rfl,ho⟩,hl⟩
section
variable {prog:Program}{w:World}{A:Around}{E:Value→Shared→Prop}{s:Shared}{K:PySem.W.Frag}{x dx C f:Addr}{mA:Str→Option Value}{name:Str}{v:Value}
end
theorem tP.some_of {v:V}{o:Option Value} (r:tP (some v) o):∃u,o=some u∧aP v u:=by
 cases o with
 | none=>exact (show False from r).elim
 | some u=>exact ⟨u,rfl,r⟩
section
variable {P:Program}{w:World}{H H':Hp}{h h':Heap}{a C dx:Addr}{fs fs':List (Str×V)}
theorem Gq (hok:gS P w H h) (e:H a=some (.ins C dx fs)):∃mA,Fr h a dx C mA∧(∀f,tP (fs.lookup f) (mA f))∧PySem.Within mA (fs.map (·.1))∧fs.length≤1000∧H dx=some (.own a):=by
 obtain ⟨d,z,ne,ob,mA,n,r,q⟩:=(show bD P w H h a (.ins C dx fs) from hok a _ e)
 exact ⟨mA,⟨ob,n,ne⟩,r,q,z,d⟩
end
structure HN (K:PySem.W.Frag) (C:Addr):Prop where
 pg:PySem.W.plainGet K C Str.empty=true
 hd:PySem.W.hasDictIn K C=true
 po:PySem.W.plainOver K C=true
 sa:PySem.W.findIn K (.ref C) "__setattr__" = some (some (.builtin "object.__setattr__"))
theorem HN.get {K:PySem.W.Frag}{C:Addr} (c:HN K C) (f:Str):PySem.W.plainGet K C f=true:=c.pg
section
variable {X:Cx}{pins:List (Addr×Obj)}{σ:St}{H:Hp}{s:Shared}{a C dx:Addr}{fs:List (Str×V)}{f:Str}{v:V}{A:Around}{E:Value→Shared→Prop}
end
section
variable {X:Cx}{o e value:Expr}{f:Str}{pos pos' tpos:Pos}{ta tv:TE}
end
section
variable {X:Cx}{pins:List (Addr×Obj)}{σ:St}{H:Hp}{s:Shared}{A:Around}{E:Value→Shared→Prop}{Q:Value→Shared→Prop}{c:Value}{b:Bool}
inductive jU (K:PySem.W.Frag) (H:Hp):V→Value→Prop where
 | non:jU K H .non (.type "NoneType")
 | bl (x:Bool):jU K H (.bl x) (.type "bool")
 | int (i:Int):jU K H (.int i) (.type "int")
 | str (x:Str):jU K H (.str x) (.type "str")
 | flt (x:UInt64):jU K H (.flt x) (.type "float")
 | lst {a:Addr}{xs:List V} (e:H a=some (.lst xs)):jU K H (.ref a) (.type "list")
 | frz {a:Addr}{o:Obj}{xs:List V} (e:H a=some (.frz o (.lst xs))):jU K H (.ref a) (.type "list")
 | tup {a:Addr}{xs:List V} (e:H a=some (.tup xs)):jU K H (.ref a) (.type "tuple")
 | dK {a:Addr}{kvs:List (ay×V)} (e:H a=some (.dK kvs)):jU K H (.ref a) (.type "dict")
 | dT {a:Addr}{kvs:List (List ay×V)} (e:H a=some (.dT kvs)):jU K H (.ref a) (.type "dict")
 | ins {a C dx:Addr}{fs:List (Str×V)} (e:H a=some (.ins C dx fs)) (cl:HN K C) (ha:PySem.W.findIn K (.ref C) "__class__" = some (some (.builtin "object.__class__")))
  (hn:PySem.W.specialIn K (.builtin "object.__class__") "__get__" = some (some (.builtin "getset_descriptor.__get__"))) (htk:PySem.W.takesIn K (.builtin "object.__class__")=some true)
  (hm:PySem.W.mroIn K C (.type "object")=some true):jU K H (.ref a) (.ref C)
theorem Dk {x:V}{u t:Value} (I:af X pins σ H s) (rx:aP x u) (ty:jU X.K H x t) (e:PySem.W.kitOne X.K t c=some b) (h:∀tk,Q (.bool b) { s with toks:=tk }) :
 wpAny (model X.prog X.w) A (call (.builtin "isinstance") [u,c]) Q E s:=by
 cases ty with
 | non=>cases (show u=Value.none from rx);exact PySem.W.kia_one PySem.W.kitx_none I.kIn True.intro e (fun z=>nomatch z) h
 | bl y=>cases (show u=Value.bool y from rx);exact PySem.W.kia_one PySem.W.kitx_bool I.kIn True.intro e (fun z=>nomatch z) h
 | int i=>obtain ⟨t,q⟩:=(show ∃t,u=Value.int i t from rx);cases q;exact PySem.W.kia_one PySem.W.kitx_int I.kIn True.intro e (fun z=>nomatch z) h
 | str y=>obtain ⟨t,q⟩:=(show ∃t,u=Value.str y t from rx);cases q;exact PySem.W.kia_one PySem.W.kitx_str I.kIn True.intro e (fun z=>nomatch z) h
 | flt y=>obtain ⟨t,q⟩:=(show ∃t,u=Value.float y t from rx);cases q;exact PySem.W.kia_one PySem.W.kitx_float I.kIn True.intro e (fun z=>nomatch z) h
 | @lst a xs ea=>
  cases (show u=Value.ref a from rx)
  obtain ⟨_,_,n,_,h1⟩:=(show bD X.prog X.w H s.heap a (.lst xs) from I.hok a _ ea)
  exact PySem.W.kia_one PySem.W.kitx_list I.kIn ⟨_,h1,rfl⟩ e (fun z=>nomatch z) h
 | @frz a ob xs ea=>
  cases (show u=Value.ref a from rx)
  obtain ⟨_,_,_,n,_,h1⟩:=(show bD X.prog X.w H s.heap a (.frz ob (.lst xs)) from I.hok a _ ea)
  exact PySem.W.kia_one PySem.W.kitx_list I.kIn ⟨_,h1,rfl⟩ e (fun z=>nomatch z) h
 | @tup a xs ea=>
  cases (show u=Value.ref a from rx)
  obtain ⟨_,_,_,p,_⟩:=(show bD X.prog X.w H s.heap a (.tup xs) from I.hok a _ ea)
  obtain ⟨o,h1,h2,_⟩:=p
  exact PySem.W.kia_one PySem.W.kitx_tuple I.kIn ⟨o,h1,h2⟩ e (fun z=>nomatch z) h
 | @dK a kvs ea=>
  cases (show u=Value.ref a from rx)
  obtain ⟨_,_,vs,_,p⟩:=(show bD X.prog X.w H s.heap a (.dK kvs) from I.hok a _ ea)
  obtain ⟨o,es,ep,h1,h2,_⟩:=p
  exact PySem.W.kia_one PySem.W.kitx_dict I.kIn ⟨o,h1,h2.1⟩ e (fun z=>nomatch z) h
 | @dT a kvs ea=>
  cases (show u=Value.ref a from rx)
  obtain ⟨_,_,xs,_,o,es,ep,h1,h2,_⟩:=(show bD X.prog X.w H s.heap a (.dT kvs) from I.hok a _ ea)
  exact PySem.W.kia_one PySem.W.kitx_dict I.kIn ⟨o,h1,h2.1⟩ e (fun z=>nomatch z) h
 | @ins a C dx fs ea cl ha hn htk hm=>
  cases (show u=Value.ref a from rx)
  obtain ⟨mA,O,_⟩:=Gq I.hok ea
  obtain ⟨od,J,_⟩:=O.look
  exact PySem.W.kia_one (PySem.W.kitx_own (cl.get _) cl.hd ha hn htk hm) I.kIn J e (fun z=>nomatch z) h
end
structure gD (k:Nat) (A:Around):Prop where
 hd:A.handled=none
 dp:A.depth+3*k+5<recursionLimit
 un:A.units+16*k+200<cLine
 gd:A.guards=some []
theorem gD.mono {j k:Nat}{A:Around} (r:gD k A) (h:j≤k):gD j A:=⟨r.hd,by have:=r.dp;trivial,by have:=r.un;trivial,r.gd⟩
theorem gD.deeper {k:Nat}{A:Around} (r:gD (k+1) A) (env:Env):gD k (A.deeper env):=
 ⟨r.hd,by have:=r.dp;show A.depth+1+3*k+5<_;trivial,by have:=r.un;show A.units+3+16*k+200<_;trivial,r.gd⟩
theorem gD.depth {k:Nat}{A:Around} (r:gD k A):A.depth<recursionLimit:=by have:=r.dp;trivial
theorem gD.units {k:Nat}{A:Around} (r:gD k A):A.units+64<cLine:=by have:=r.un;trivial
def zZ:TA:=fun _ H Q=>Q [] H
def uK (ta:TE) (tr:TA):TA:=fun σ H Q=>ta σ H fun x H1=>tr σ H1 fun xs H2=>Q (x :: xs) H2
section
variable {X:Cx}{e:Expr}{es:List Expr}{te:TE}{t:TA}{pos:Pos}
theorem bc:PA X [] zZ:=fun _ _ _ _ H Q I h=>Calls.spliced_nil ⟨[],H,I,.nil,h⟩
theorem dB (ha:PE X e te) (hr:PA X es t) (hs:starEach (e :: es) X.env=(false,eval e X.env) :: starEach es X.env:=by rfl):PA X (e :: es) (uK te t):=by
 intro pos pins s σ H Q I h
 rw [hs]
 show wpAny _ _ (spliced ((false,eval e X.env) :: backTo pos (starEach es X.env))) _ _ s
 refine Calls.spliced_cons (aO (ha pins s σ H _ I h) fun u s1 ⟨x,H1,I1,r1,q1⟩=>?_)
 exact aO (hr pos pins s1 σ H1 _ I1 q1) fun us s2 ⟨xs,H2,I2,r2,q2⟩=>⟨x :: xs,H2,I2,.cons r1 r2,q2⟩
def Lp (t:TA):TE:=fun σ H Q=>t σ H fun xs H1=>xs.length≤sizeLine∧∀p,H1 p=none→Q (.ref p) (aN H1 p (.lst xs))
theorem IZ (h:PA X es t):PE X (.List es pos) (Lp t):=by
 intro pins s σ H Q I hq
 refine wpAny_List_spliced (aO (h pos pins s σ H _ I hq) fun us s1 ⟨xs,H1,I1,r,z,q⟩=>⟨by rw [←r.length];exact z,?_⟩)
 have hf:H1 s1.heap.objs.size=none:=I1.hok.fresh (Nat.le_refl _)
 refine ⟨.ref s1.heap.objs.size,aN H1 s1.heap.objs.size (.lst xs),I1.laid (t':=s1.toks) (fun b u e=>Heap.get?_push_of_some _ e) (Nat.le_refl _) ?_,rfl,q _ hf⟩
 exact ⟨z,us,0,r,Heap.get?_push_size _ rfl⟩
end
abbrev Sp:=List V→Hp→VK→XK→Prop
abbrev oh:=List Env→Hp→Shared→XK→Value→Shared→Prop
structure BM (P:Program) (w:World) (K:PySem.W.Frag) (mg:Str→Option Value) (base:Heap) (A:Around) (outer:List Env) (s:Shared) (H:Hp):Prop where
 frames:A.frames=some outer
 mod:Mod K mg base
 bs:∀b o,base.get? b=some o→s.heap.get? b=some o∧H b=none
 bsz:base.objs.size≤s.heap.objs.size
 funs:s.heap.FunFrames base outer
 frf:∀b∈qt outer,H b=none
 hok:gS P w H s.heap
 bare:AllBare s.gens
def CE (outer:List Env) (P:Program) (w:World) (H:Hp) (s:Shared) (Q:VK) (u:Value) (s':Shared):Prop:=
 aZ fun v H'=>s'.os=s.os∧AllBare s'.gens∧Un (qt outer) [] H H' s.heap s'.heap∧gS P w H' s'.heap∧aP v u∧Q v H'
def CR (CX:oh) (outer:List Env) (P:Program) (w:World) (H:Hp) (s:Shared) (Q:VK) (E:XK) (r:Result) (s':Shared):Prop:=
 match r with
 | .ok (.ret u)=>CE outer P w H s Q u s'
 | .ok _=>False
 | .error e=>CX outer H s E e s'
structure aY (P:Program) (w:World) (K:PySem.W.Frag) (mg:Str→Option Value) (base:Heap) (CX:oh) (k:Nat) (f:Addr) (fd:FuncData) (ps:List Str) (sp:Sp):Prop where
 len:∀vs H Q E,sp vs H Q E→vs.length=ps.length
 run:∀(A:Around) (outer:List Env) (s:Shared) (H:Hp) (args:Args) (us:List Value) (vs:List V) (Q:VK) (E:XK),gD k A→BM P w K mg base A outer s H→BindsTo s fd args (ps.zip us)→aA vs us→sp vs H Q E→
  codeAny (model P w) A (.call (.ref f) args) (CR CX outer P w H s Q E) s
section
variable {X:Cx}{pins:List (Addr×Obj)}{σ:St}{H:Hp}{s s':Shared}
theorem af.env0 (I:af X pins σ H s):BM X.prog X.w X.K X.mg X.base X.A X.stack s H:=
 ⟨I.ok.frames,I.ok.mod,I.bs,Nat.le_trans I.ok.bsz I.sz,I.stack,I.stkFree,I.hok,I.bare⟩
theorem af.after {Q:VK}{u:Value} (I:af X pins σ H s) (h:CE X.stack X.prog X.w H s Q u s'):EP X pins σ Q u s':=by
 obtain ⟨v,H',os,bare,un,hok,r,q⟩:=h
 obtain ⟨hh,g,d,t,os'⟩:=s'
 obtain rfl:os'=s.os:=os
 exact ⟨v,H',I.call (h':=hh) (g':=g) (d':=d) (t':=t) (ch:=[]) un hok bare (fun b z=>absurd z (by simp)),r,q⟩
end
def KI (sp:Sp) (dvs:List V) (E:XK) (t:TA):TE:=fun σ H Q=>t σ H fun vs H1=>sp (vs++dvs) H1 Q E
def uL (K:PySem.W.Frag) (fd:FuncData) (ps:List Str) (ds:List Value):Prop:=
 ∀(s:Shared) (us:List Value),K.In s.heap→(us++ds).length=ps.length→BindsTo s fd ⟨us,[]⟩ (ps.zip (us++ds))
theorem uL.all {K:PySem.W.Frag}{fd:FuncData}{ps:List Str} (h:∀us:List Value,us.length=ps.length→bindArgs fd ⟨us,[]⟩=pure (ps.zip us)):uL K fd ps []:=fun s us _ hl=>by
 rw [List.append_nil] at hl ⊢
 exact .of_eq (h us hl)
def Aj (CX:oh) (X:Cx) (E:XK):Prop:=∀(pins:List (Addr×Obj)) (σ:St) (H:Hp) (s:Shared) (e:Value) (s':Shared),af X pins σ H s→CX X.stack H s E e s'→X.xe e s'
section
variable {X:Cx}{CX:oh}{k:Nat}{f C:Addr}{fd:FuncData}{ps:List Str}{sp:Sp}{dvs:List V}{ds:List Value}{E:XK}{x m:Str}{p pos apos:Pos}{e o:Expr}{es:List Expr}{ta:TE}{t:TA}
theorem Ii {pins:List (Addr×Obj)}{σ:St}{H:Hp}{s:Shared}{Q:VK}{us:List Value}{vs:List V} (F:aY X.prog X.w X.K X.mg X.base CX k f fd ps sp) (hr:gD k X.A) (hb:uL X.K fd ps ds) (hd:aA dvs ds) (hx:Aj CX X E)
 (I:af X pins σ H s) (r:aA vs us) (h:sp (vs++dvs) H Q E):wpAny (model X.prog X.w) X.A (call (.ref f) us) (EP X pins σ Q) X.xe s:=by
 have r2:aA (vs++dvs) (us++ds):=r.append hd
 have hl:(us++ds).length=ps.length:=by rw [←r2.length];exact F.len _ _ _ _ h
 refine wpAny_call (codeAny_mono (F.run X.A X.stack s H ⟨us,[]⟩ (us++ds) (vs++dvs) Q E hr I.env0 (hb s us I.kIn hl) r2 h) fun r s' hq=>?_)
 cases r with
 | error e=>exact hx pins σ H s e s' I hq
 | ok fl=>
  cases fl with
  | ret u=>exact I.after hq
  | next=>exact False.elim hq
  | brk=>exact False.elim hq
  | cont=>exact False.elim hq
theorem AG (F:aY X.prog X.w X.K X.mg X.base CX k f fd ps sp) (hr:gD k X.A) (hg:Gl X x) (hm:X.mg x=some (.ref f)) (hk:PySem.W.keepIn X.K (.ref f)=true) (hb:uL X.K fd ps ds) (hd:aA dvs ds) (hx:Aj CX X E)
 (ha:PA X (e :: es) t) (hdb:(x==("__debug__" : Str))=false:=by decide) (he:starEach (e :: es) X.env=(false,eval e X.env) :: starEach es X.env:=by rfl) (hpl:(backTo pos (starEach es X.env)).any (·.1)=false:=by rfl) :
 PE X (.Call (.Name x p) (e :: es) [] pos) (KI sp dvs E t):=by
 intro pins s σ H Q I h
 refine wpAny_Call_Name_kw (FW I hg hm ?_ hdb)
 refine PySem.W.callWith_K (h₀:=X.base) I.ok.mod.kin hk (aO (ha pos pins s σ H _ I h) fun us s1 ⟨vs,H1,I1,r,q⟩=>⟨I1.kIn,?_⟩) he hpl
 exact Ii F hr hb hd hx I1 r q
end
section
variable {X:Cx}{CX:oh}{k:Nat}{f C:Addr}{fd:FuncData}{ps ks:List Str}{sp:Sp}{E:XK}{x m:Str}{p pos apos kpos:Pos}{e o:Expr}{es:List Expr}{kws:List Keyword}{te ta:TE}{t tk:TA}{nm:Option Str}
variable {g:List Value→List Value→List Value}{gV:List V→List V→List V}
end
structure aD (N P:List Str) (sc:Scope):Prop where
 kind:sc.kind=.function
 co:sc.isCoroutine=false
 gen:sc.isGenerator=false
 nd:N.Nodup
 pre:N.take P.length=P
 par:∀x∈P,sc.names.lookup x=some .local∨sc.names.lookup x=some .cell
 nofree:∀y∈sc.names,y.2≠.free
theorem yA {kindOf:Str→Option NameKind}{x:Str}:∀{binds:List (Str×Value)}{m:Str→Option Value},(∀v,(x,v)∉binds)→bindL kindOf binds m x=m x
 | [],_,_=>rfl
 | (n,v) :: r,m,h=>by
  unfold bindL
  rw [yA fun w hw=>h w (List.mem_cons_of_mem _ hw)]
  split
  ·have:x≠n:=by rintro rfl;exact h v List.mem_cons_self
   simp [this]
  ·rfl
theorem ym {kindOf:Str→Option NameKind}{x:Str}:∀{binds:List (Str×Value)}{m:Str→Option Value},(∀v,(x,v)∉binds)→bindC kindOf binds m x=m x
 | [],_,_=>rfl
 | (n,v) :: r,m,h=>by
  unfold bindC
  rw [ym fun w hw=>h w (List.mem_cons_of_mem _ hw)]
  split
  ·rfl
  ·have:x≠n:=by rintro rfl;exact h v List.mem_cons_self
   simp [this]
theorem yo {kindOf:Str→Option NameKind}{x:Str}{v:Value}:∀{P:List Str}{vs:List Value}{i:Nat}{m:Str→Option Value},P.Nodup→P[i]?=some x→vs[i]?=some v→kindOf x=some .local→
 bindL kindOf (P.zip vs) m x=some v
 | [],_,_,_,_,h,_,_=>by simp at h
 | _ :: _,[],_,_,_,_,h,_=>by simp at h
 | p :: P,w :: vs,0,m,nd,h1,h2,hk=>by
  simp at h1 h2;subst h1;subst h2
  show bindL kindOf ((p,w) :: P.zip vs) m p=_
  unfold bindL
  rw [yA fun v hv=>(List.nodup_cons.mp nd).1 (List.of_mem_zip hv).1,if_pos hk]
  simp
 | p :: P,w :: vs,i+1,m,nd,h1,h2,hk=>by
  show bindL kindOf ((p,w) :: P.zip vs) m x=_
  unfold bindL
  exact yo (i:=i) (List.nodup_cons.mp nd).2 (by simpa using h1) (by simpa using h2) hk
theorem yz {kindOf:Str→Option NameKind}{x:Str}{v:Value}:∀{P:List Str}{vs:List Value}{i:Nat}{m:Str→Option Value},P.Nodup→P[i]?=some x→vs[i]?=some v→kindOf x≠some .local→
 bindC kindOf (P.zip vs) m x=some v
 | [],_,_,_,_,h,_,_=>by simp at h
 | _ :: _,[],_,_,_,_,h,_=>by simp at h
 | p :: P,w :: vs,0,m,nd,h1,h2,hk=>by
  simp at h1 h2;subst h1;subst h2
  show bindC kindOf ((p,w) :: P.zip vs) m p=_
  unfold bindC
  rw [ym fun v hv=>(List.nodup_cons.mp nd).1 (List.of_mem_zip hv).1,if_neg hk]
  simp
 | p :: P,w :: vs,i+1,m,nd,h1,h2,hk=>by
  show bindC kindOf ((p,w) :: P.zip vs) m x=_
  unfold bindC
  exact yz (i:=i) (List.nodup_cons.mp nd).2 (by simpa using h1) (by simpa using h2) hk
def pd (N:List Str) (vs:List V):St:=vs.map some++List.replicate (N.length - vs.length) none
def xZ (CX:oh) (P:Program) (w:World) (K:PySem.W.Frag) (mg:Str→Option Value) (base:Heap) (N:List Str) (qual:Str) (scope:Scope) (f:Addr) (cd:Value) (A:Around) (outer:List Env) (s:Shared) (H:Hp) (E:XK):Cx where
 prog:=P
 w:=w
 K:=K
 mg:=mg
 base:=base
 A:=A.deeper (envOfC qual scope s.heap.objs.size f cd)
 N:=N
 s₀:=s
 H₀:=H
 env:=envOfC qual scope s.heap.objs.size f cd
 outer:=outer
 stack:=envOfC qual scope s.heap.objs.size f cd :: outer
 ex:=[]
 calm:=true
 fn:=fun _=>true
 pn:=[]
 xe:=fun e s'=>wpAny (model P w) (A.deeper (envOfC qual scope s.heap.objs.size f cd)) (leaving (envOfC qual scope s.heap.objs.size f cd) e) (fun _ s''=>CX outer H s E e s'') (fun e' s''=>CX outer H s E e' s'') s'
theorem zY {sc:Scope}{n:Nat}{x:Str} (h:sc.names.lookup x=some .cell):∃c,(cellsFrom n sc.names []).lookup x=some c:=by
 have q:=PySem.W.cellsFrom_some sc.names n [] (.inl h)
 exact Option.isSome_iff_exists.mp q
theorem Ea {CX:oh}{P:Program}{w:World}{K:PySem.W.Frag}{mg:Str→Option Value}{base:Heap}{N ps:List Str}{qual:Str}{scope:Scope}{f:Addr}{cd:Value}{A:Around}{outer:List Env}{s s1:Shared}{H:Hp}{E:XK}{us:List Value}{vs:List V}
 (S:aD N ps scope) (hd:A.handled=none) (e0:BM P w K mg base A outer s H) (hl:vs.length=ps.length) (r:aA vs us)
 (x:InCallC s s.heap.objs.size (bindL (envOfC qual scope s.heap.objs.size f cd).kindOf (ps.zip us) fun _=>none) (cellsFrom (s.heap.objs.size+1) scope.names []) (bindC (envOfC qual scope s.heap.objs.size f cd).kindOf (ps.zip us) fun _=>none) s1) :
 af (xZ CX P w K mg base N qual scope f cd A outer s H E) [] (pd N vs) H s1:=by
 have hpl:ps.length≤N.length:=by have:=congrArg List.length S.pre;rw [List.length_take] at this;trivial
 obtain ⟨h1,tk,rfl,hk⟩:=x.done
 have noA:∀b:Addr,b∉(xZ CX P w K mg base N qual scope f cd A outer s H E).ex:=fun b z=>absurd (show b∈([]:List Addr) from z) (by simp)
 refine ⟨⟨e0.mod,S.kind,rfl,rfl,Nat.le_refl _,fun y z c h1 h2=>?_,fun y hy=>?_,fun y c _ h=>?_,fun _=>hd,Around.frames_deeper e0.frames,.inr ⟨rfl,rfl⟩,fun b z=>absurd z (noA b),e0.bs,e0.bsz,fun b _ _=>noA b,fun b z=>absurd z (noA b),e0.funs,e0.frf⟩,
  rfl,e0.bare,Un.kept hk,⟨_,x.toInCall.ns,fun i y v h1 h2 h3=>?_⟩,fun y c h=>⟨_,x.cell y c h⟩,e0.hok.fresh (Nat.le_refl _),fun y c h=>?_,fun p hp=>absurd (show p∈([]:List (Addr×Obj)) from hp) (by simp),e0.hok.kept hk,?_⟩
 ·exact name_of_addr x.apart (PySem.mem_of_lookup h1) (PySem.mem_of_lookup h2)
 ·have hy:scope.names.lookup y=some .cell∨scope.names.lookup y=some .free:=hy
  rcases hy with hy | hy
  ·exact zY hy
  ·exact absurd rfl (S.nofree _ (PySem.mem_of_lookup hy))
 ·exact Nat.le_of_lt (x.above y c (PySem.mem_of_lookup h))
 ·have hi:i<vs.length:=by
   unfold pd at h2
   by_cases hi:i<vs.length
   ·exact hi
   ·rw [List.getElem?_append_right (by simpa using hi)] at h2
    rw [List.getElem?_replicate] at h2
    split at h2 <;> cases h2
  have ha:vs[i]?=some v:=by
   unfold pd at h2
   rw [List.getElem?_append_left (by simpa using hi),List.getElem?_map] at h2
   cases e:vs[i]? with
   | none=>rw [e] at h2;cases h2
   | some a=>rw [e] at h2;cases h2;rfl
  obtain ⟨u,hu,rv⟩:=r.get ha
  have hp:ps[i]?=some y:=by
   rw [←S.pre,List.getElem?_take_of_lt (by trivial)];exact h1
  have ndP:ps.Nodup:=by rw [←S.pre];exact S.nd.sublist (List.take_sublist _ _)
  refine ⟨u,rv,?_⟩
  rcases S.par y (List.mem_of_getElem? hp) with k | k
  ·exact .inl ⟨k,yo ndP hp hu k⟩
  ·obtain ⟨c,e⟩:=zY (n:=s.heap.objs.size+1) k
   refine .inr ⟨.inl k,c,e,?_⟩
   have q:=x.cell y c e
   rw [yz ndP hp hu (by show scope.names.lookup y≠_;rw [k];decide)] at q
   exact q
 ·exact e0.hok.fresh (Nat.le_of_lt (x.above y c (PySem.mem_of_lookup h)))
 ·unfold pd
  show _=N.length
  rw [List.length_append,List.length_map,List.length_replicate]
  trivial
theorem Kv {CX:oh}{P:Program}{w:World}{K:PySem.W.Frag}{mg:Str→Option Value}{base:Heap}{k:Nat}{f:Addr}{name qual:Str}{params:Arguments}{body:List Stmt}{scope:Scope}{dV kV doc pm cdv ct oc:Value}{an od:Option Addr}
 {osl:Array (Option Value)}{N ps:List Str}{sp:Sp} (lk:K.lookup f=some ⟨oc,od,.func (PySem.W.fnOf name qual params body scope dV kV doc pm an cdv ct),osl⟩) (hcd:PySem.W.codeIn K cdv qual=true) (S:aD N ps scope)
 (len:∀vs H Q E,sp vs H Q E→vs.length=ps.length)
 (hbody:∀(A:Around) (outer:List Env) (s:Shared) (H:Hp) (vs:List V) (Q:VK) (E:XK),gD k (A.deeper (envOfC qual scope s.heap.objs.size f cdv))→sp vs H Q E→
  ∃t,qj (xZ CX P w K mg base N qual scope f cdv A outer s H E) body t∧t { nx:=fun _ H'=>Q .non H',rt:=Q } (pd N vs) H) :
 aY P w K mg base CX (k+1) f (PySem.W.fnOf name qual params body scope dV kV doc pm an cdv ct) ps sp:=by
 refine ⟨len,fun A outer s H args us vs Q E hr e0 hb r hsp=>?_⟩
 have hl:=len _ _ _ _ hsp
 have KX:K.In s.heap:=e0.mod.kin.keeps fun b o e=>(e0.bs b o e).1
 have lim:s.heap.NoLimit:=e0.mod.nolimit.keeps fun b o e=>(e0.bs b o e).1
 have hkind:∀y∈ps.zip us,scope.names.lookup y.1=some .local∨(scope.names.lookup y.1=some .cell∧((cellsFrom (s.heap.objs.size+1) scope.names []).lookup y.1).isSome=true):=fun ⟨n,v⟩ hy=>by
  rcases S.par n (List.of_mem_zip hy).1 with q | q
  ·exact .inl q
  ·exact .inr ⟨q,PySem.W.cellsFrom_some _ _ _ (.inl q)⟩
 refine codeAny_call_function hr.depth (KX _ _ lk) rfl S.co S.gen rfl (PySem.W.codeRec_of KX hcd) (hb _ _ _ _ ?_)
 refine wpAny_newFunctionEnv_cells S.kind hkind fun env he s1 x=>?_
 subst he
 refine ⟨lim.keeps x.toInCall.keep,codeAny_func ?_⟩
 obtain ⟨t,ht,hq⟩:=hbody A outer s H vs Q E (hr.deeper _) hsp
 have I:af (xZ CX P w K mg base N qual scope f cdv A outer s H E) [] (pd N vs) H s1:=Ea S hr.hd e0 hl r x
 refine wpAny_mono (ht [] s1 (pd N vs) H _ I hq) (fun fl s' hs=>?_) fun e s' hs=>hs
 have fin:∀{σ':St}{H':Hp}{v:V}{u:Value},af (xZ CX P w K mg base N qual scope f cdv A outer s H E) [] σ' H' s'→aP v u→Q v H'→CE outer P w H s Q u s':=
  fun {σ' H' v u} J rv q=>⟨v,H',J.os,J.bare,J.base,J.hok,rv,q⟩
 cases fl with
 | ret u=>
  obtain ⟨v,σ',H',J,rv,q⟩:=hs
  exact fin J rv q
 | next=>
  obtain ⟨σ',H',J,q⟩:=hs
  exact fin (v:=V.non) (u:=Value.none) J rfl q
 | brk=>
  obtain ⟨_,_,_,q⟩:=hs
  exact False.elim q
 | cont=>
  obtain ⟨_,_,_,q⟩:=hs
  exact False.elim q
end L2
namespace L2
open PySem PySem.Spec PyProof.Rows
section
variable {X:Cx}{x:Str}{p pos:Pos}{e:Expr}{es:List Expr}{t:TA}{id T:String}{r:List V→Hp→VK→Prop}
def KZ (r:List V→Hp→VK→Prop) (t:TA):TE:=fun σ H Q=>t σ H fun vs H1=>r vs H1 Q
theorem lH (hc:dj X (.builtin id) r) (hg:Gl X x) (hm:X.mg x=none) (hv:bootBuiltins x=some (.builtin id)) (ha:PA X (e :: es) t) (hn:x≠"__name__" := by decide) (hdb:(x==("__debug__" : Str))=false:=by decide)
 (he:starEach (e :: es) X.env=(false,eval e X.env) :: starEach es X.env:=by rfl) (hpl:(backTo pos (starEach es X.env)).any (·.1)=false:=by rfl):PE X (.Call (.Name x p) (e :: es) [] pos) (KZ r t):=by
 intro pins s σ H Q I h
 refine wpAny_Call_Name_kw (iA I hg hm hv ?_ hn hdb)
 exact PyProof.Rows.callWith_builtin1 (aO (ha pos pins s σ H _ I h) fun us s1 ⟨vs,H1,I1,r1,q1⟩=>hc pins s1 σ H1 vs us Q I1 r1 q1) he hpl
theorem cu (hc:dj X (.type T) r) (hg:Gl X x) (hm:X.mg x=none) (hv:bootBuiltins x=some (.type T)) (ha:PA X (e :: es) t) (hn:x≠"__name__" := by decide) (hdb:(x==("__debug__" : Str))=false:=by decide)
 (he:starEach (e :: es) X.env=(false,eval e X.env) :: starEach es X.env:=by rfl) (hpl:(backTo pos (starEach es X.env)).any (·.1)=false:=by rfl):PE X (.Call (.Name x p) (e :: es) [] pos) (KZ r t):=by
 intro pins s σ H Q I h
 refine wpAny_Call_Name_kw (iA I hg hm hv ?_ hn hdb)
 exact PyProof.Rows.callWith_type1 (aO (ha pos pins s σ H _ I h) fun us s1 ⟨vs,H1,I1,r1,q1⟩=>hc pins s1 σ H1 vs us Q I1 r1 q1) he hpl
end
end L2
namespace HT
open PySem PyProof.Rows
section
open PySem.SeqAt
open PySem.AutoSeq1 (wpAny_loadPart')
open PySem.MeetsSeq PySem.MeetsSeq2 PySem.MeetsSeq3
end
section
variable {prog:Program}{w:World}{A:Around}{E:Value→Shared→Prop}{s:Shared}
def sIx (n d:Nat):Option Int→Nat
 | none=>d
 | some v=>if v<0 then (v+(n:Int)).toNat else min v.toNat n
theorem sIx_none (n d:Nat):sIx n d none=d:=rfl
theorem sIx_nat (n d k:Nat):sIx n d (some (k:Int))=min k n:=by
 show (if (k:Int)<0 then ((k:Int)+(n:Int)).toNat else min (k:Int).toNat n)=min k n
 rw [if_neg (by trivial),Int.toNat_natCast]
theorem Jg (n d:Nat) (hd:d≤n) (o:Option Int):sIx n d o≤n:=by
 cases o with
 | none=>exact hd
 | some v=>
  show (if v<0 then (v+(n:Int)).toNat else min v.toNat n)≤n
  by_cases hv:v<0
  ·rw [if_pos hv];trivial
  ·rw [if_neg hv];exact Nat.min_le_right _ _
theorem AC (v:Int) (n d:Nat):(if v<0 then max (v+(n:Int)) 0 else min v (n:Int))=((sIx n d (some v):Nat):Int):=by
 show (if v<0 then max (v+(n:Int)) 0 else min v (n:Int))=(((if v<0 then (v+(n:Int)).toNat else min v.toNat n):Nat):Int)
 by_cases hv:v<0
 ·simp only [if_pos hv];trivial
 ·simp only [if_neg hv];trivial
theorem Ce (lo hi:Option Int) (n:Nat):Builtin.Slice.sliceAdjust lo hi 1 (n:Int)=(((sIx n 0 lo:Nat):Int),((sIx n n hi:Nat):Int)):=by
 have h1:¬((1:Int)<0):=by trivial
 unfold Builtin.Slice.sliceAdjust
 simp only [h1,if_false]
 refine Prod.ext ?_ ?_
 ·cases lo with
  | none=>rfl
  | some v=>exact AC v n 0
 ·cases hi with
  | none=>rfl
  | some v=>exact AC v n n
theorem BU (i j:Nat):Builtin.Slice.slicePlaces (i:Int) (j:Int) 1=j - i:=by
 unfold Builtin.Slice.slicePlaces
 have h1:(1:Int) > 0:=by trivial
 simp only [h1,if_true,Int.ediv_one]
 split <;> trivial
theorem wM {v:Value}{o:Option Int}{Q:Option Int→Shared→Prop} (p:IsPart v o) (h:Q o s):wpAny (model prog w) A (Builtin.Slice.slicePartIndex v) Q E s:=by
 cases p with
 | none=>exact slicePart_none h
 | int i t=>exact slicePart_int h
theorem ot {sl:Addr}{vl vu:Value}{lo hi:Option Int}{n:Nat}{Q:Int×Int×Nat→Shared→Prop} (hs:s.heap.IsSliceOf sl vl vu .none) (pl:IsPart vl lo) (pu:IsPart vu hi)
 (h:Q (((sIx n 0 lo:Nat):Int),1,sIx n n hi - sIx n 0 lo) s):wpAny (model prog w) A (Builtin.Slice.sliceApplied (.ref sl) (pure (n:Int))) Q E s:=by
 obtain ⟨os,hos,hcs,hds⟩:=id hs
 unfold Builtin.Slice.sliceApplied Builtin.Slice.sliceFields
 refine wpAny_bind (wpAny_bind (wpAny_field hos hds (x:=vl) rfl (wpAny_bind (wpAny_field hos hds (x:=vu) rfl (wpAny_bind (wpAny_field hos hds (x:=.none) rfl (wpAny_pure ?_)))))))
 refine wpAny_bind (slicePart_none ?_)
 show wpAny _ _ (if ((1:Int)==0)=true then _ else _) _ _ s
 rw [if_neg (by decide)]
 refine wpAny_bind (wM pl (wpAny_bind (wM pu (wpAny_bind (wpAny_pure ?_)))))
 show wpAny _ _ (match Builtin.Slice.sliceAdjust lo hi 1 (n:Int) with | (lo,hi)=>pure (lo,(1:Int),Builtin.Slice.slicePlaces lo hi 1)) _ _ s
 rw [Ce lo hi n]
 show wpAny _ _ (pure (((sIx n 0 lo:Nat):Int),(1:Int),Builtin.Slice.slicePlaces ((sIx n 0 lo:Nat):Int) ((sIx n n hi:Nat):Int) 1)) _ _ s
 rw [BU]
 exact wpAny_pure h
theorem EU (xs:Array Value) (i k:Nat):((List.range k).filterMap fun (m:Nat)=>xs[((i:Int)+(m:Int)*1).toNat]?).toArray=((xs.toList.drop i).take k).toArray:=by
 have e:(fun (m:Nat)=>xs[((i:Int)+(m:Int)*1).toNat]?)=fun m=>xs[i+m]?:=by
  funext m
  have:((i:Int)+(m:Int)*1).toNat=i+m:=by trivial
  rw [this]
 rw [e]
 have:=pick_run xs i k
 rw [List.filterMap_map] at this
 have e2:((fun x=>xs[x]?) ∘ fun x=>i+x)=fun m=>xs[i+m]?:=rfl
 rw [e2] at this
 rw [this]
theorem getItem_tuple_cut {t sl:Addr}{items:Array Value}{vl vu:Value}{lo hi:Option Int}{Q:Value→Shared→Prop} (ht:IsTup s.heap t items) (hs:s.heap.IsSliceOf sl vl vu .none) (pl:IsPart vl lo) (pu:IsPart vu hi)
 (hw:¬(sIx items.size 0 lo=0∧sIx items.size items.size hi=items.size))
 (h:Q (.ref s.heap.objs.size) { s with heap:=s.heap.push { cls:=.type "tuple",data:=.seq ((items.toList.drop (sIx items.size 0 lo)).take (sIx items.size items.size hi - sIx items.size 0 lo)).toArray } })
 (hsz:items.size≤sizeLine):wpAny (model prog w) A (getItem (.ref t) (.ref sl)) Q E s:=by
 have htake:sizeOk (.seq ((items.toList.drop (sIx items.size 0 lo)).take (sIx items.size items.size hi - sIx items.size 0 lo)).toArray):=by
  show ((items.toList.drop (sIx items.size 0 lo)).take (sIx items.size items.size hi - sIx items.size 0 lo)).toArray.size≤sizeLine
  rw [List.size_toArray,List.length_take,List.length_drop,Array.length_toList]
  exact Nat.le_trans (Nat.min_le_right ..) (Nat.le_trans (Nat.sub_le ..) hsz)
 have hj:sIx items.size items.size hi≤items.size:=Jg _ _ (Nat.le_refl _) hi
 obtain ⟨os,hos,hcs,hds⟩:=id hs
 have hTs:s.TypeIs (.ref sl) "slice" := ⟨os,hos,hcs⟩
 unfold getItem
 try with_reducible refine wpAny_holding ?_
 first | refine wpAny_bind (wpAny_pure ?_) | skip
 refine wpAny_bind (wpAny_sequenceKey ht.typeIs (by decide) ?_)
 refine wpAny_bind (wpAny_callSpecial?_slot (name:=Str.ofString "__getitem__") ht.typeIs PyProof.Rows.slot_tuple_getitem
  (wpAny_call_entry PyProof.Rows.slot_tuple_getitem ht.typeIs entry_tuple_getitem ?_ (args_tuple_getitem _ _)))
 show wpAny _ _ (Builtin.Tuple.tupleItemsOf (.ref t) >>= _) _ _ s
 refine wpAny_bind (tupleItemsOf_ ht ?_)
 refine wpAny_bind (wpAny_typeOf hTs ?_)
 rw [if_pos (by decide)]
 refine wpAny_bind (ot hs pl pu ?_)
 have hno:¬((((sIx items.size 0 lo:Nat):Int)==0 && (1:Int)==1 && (sIx items.size items.size hi - sIx items.size 0 lo)==items.size)=true):=by
  intro q
  rw [Bool.and_eq_true,Bool.and_eq_true] at q
  have q1:((sIx items.size 0 lo:Nat):Int)=0:=eq_of_beq q.1.1
  have q2:sIx items.size items.size hi - sIx items.size 0 lo=items.size:=eq_of_beq q.2
  exact hw ⟨by trivial,by trivial⟩
 show wpAny _ _ (if (((sIx items.size 0 lo:Nat):Int)==0 && (1:Int)==1 && (sIx items.size items.size hi - sIx items.size 0 lo)==items.size)=true then _ else _) _ _ s
 rw [if_neg hno,EU]
 first
  | exact wpAny_bind (m:=Builtin.Tuple.tupleExact _) (wpAny_newObj_type (wpAny_pure ⟨_,rfl,wpAny_pure h⟩) htake)
  | exact wpAny_bind (m:=Builtin.Tuple.tupleExact _) (wpAny_newObj_type (wpAny_bind (wpAny_pure (wpAny_pure ⟨_,rfl,wpAny_pure h⟩))) htake)
  | exact wpAny_bind (wpAny_bind (m:=Builtin.Tuple.tupleExact _) (wpAny_newObj_type (wpAny_pure (wpAny_pure ⟨_,rfl,wpAny_pure h⟩)) htake))
  | exact wpAny_bind (wpAny_bind (m:=Builtin.Tuple.tupleExact _) (wpAny_newObj_type (wpAny_pure ⟨_,rfl,wpAny_pure h⟩) htake))
end
end HT
namespace L2
open PySem PySem.Spec PyProof.Rows
abbrev TO:=St→Hp→(Option Int→Hp→Prop)→Prop
def PO (X:Cx) (e:Option Expr) (t:TO):Prop:=
 ∀(pins:List (Addr×Obj)) (s:Shared) (σ:St) (H:Hp) (Q:Option Int→Hp→Prop),af X pins σ H s→t σ H Q→
   wpAny (model X.prog X.w) X.A (evalPart e X.env) (fun u s'=>aZ fun o H'=>af X pins σ H' s'∧IsPart u o∧Q o H') X.xe s
def AZ:TO:=fun _ H Q=>Q none H
def Fz (t:TE):TO:=fun σ H Q=>t σ H fun x H1=>IX x fun i=>Q (some i) H1
section
variable {X:Cx}{e:Expr}{te:TE}{lo hi:Option Expr}{tl th:TO}{pos p2:Pos}
theorem fS:PO X none AZ:=by
 intro pins s σ H Q I h
 rw [evalPart_none]
 exact wpAny_pure ⟨none,H,I,.none,h⟩
theorem d7 (h:PE X e te):PO X (some e) (Fz te):=by
 intro pins s σ H Q I hw
 rw [evalPart_some]
 refine aO (h pins s σ H _ I hw) fun u s1 ⟨x,H1,I1,r1,q1⟩=>?_
 obtain ⟨i,rfl,q⟩:=q1
 obtain ⟨t,rfl⟩:=r1
 exact ⟨some i,H1,I1,.int i t,q⟩
def CK (X:Cx) (r:V→Option Int→Option Int→Hp→VK→Prop):Prop:=
 ∀(pins:List (Addr×Obj)) (s:Shared) (σ:St) (H:Hp) (x:V) (v vl vu:Value) (lo hi:Option Int) (sl:Addr) (Q:VK),af X pins σ H s→aP x v→s.heap.IsSliceOf sl vl vu .none→IsPart vl lo→IsPart vu hi→r x lo hi H Q→
   aZ fun T id=>typeLookup (.type T) "__getitem__" = pure (some (.builtin id))∧s.TypeIs v T∧wpAny (model X.prog X.w) X.A (getItem v (.ref sl)) (EP X pins σ Q) X.xe s
def KY (r:V→Option Int→Option Int→Hp→VK→Prop) (te:TE) (tl th:TO):TE:=fun σ H Q=>te σ H fun x H1=>tl σ H1 fun l H2=>th σ H2 fun u H3=>r x l u H3 Q
theorem dI {r:V→Option Int→Option Int→Hp→VK→Prop} (hr:CK X r) (he:PE X e te) (hl:PO X lo tl) (hu:PO X hi th):PE X (.Subscript e (.Slice lo hi none p2) pos) (KY r te tl th):=by
 intro pins s σ H Q I h
 refine Subscript_ (aO (he pins s σ H _ I h) fun v s1 ⟨x,H1,I1,r1,q1⟩=>?_)
 refine wpAny_Slice (aO (hl pins s1 σ H1 _ I1 q1) fun vl s2 ⟨l,H2,I2,pl,q2⟩=>aO (hu pins s2 σ H2 _ I2 q2) fun vu s3 ⟨u,H3,I3,pu,q3⟩=>?_)
 rw [evalPart_none]
 refine wpAny_pure ?_
 have I4:af X pins σ H3 { s3 with heap:=s3.heap.push { cls:=.type "slice",data:=.fields #[vl,vu,.none] } }:=I3.kept (t':=s3.toks) fun b ob q=>Heap.get?_push_of_some _ q
 obtain ⟨T,id,hT,ht,hg⟩:=hr pins { s3 with heap:=s3.heap.push { cls:=.type "slice",data:=.fields #[vl,vu,.none] } } σ H3 x v vl vu l u s3.heap.objs.size Q I4 r1 (Heap.IsSliceOf.new ..) pl pu q3
 show wpAny (model X.prog X.w) X.A (subscriptTail e (.Slice lo hi none p2) v (.ref s3.heap.objs.size)) (EP X pins σ Q) X.xe { s3 with heap:=s3.heap.push { cls:=.type "slice",data:=.fields #[vl,vu,.none] } }
 exact tail_any (ops:=[.ref s3.heap.objs.size,v]) ht hT hg (by with_unfolding_all rfl)
def gQ (xs:List V) (lo hi:Option Int):List V:=(xs.drop (HT.sIx xs.length 0 lo)).take (HT.sIx xs.length xs.length hi - HT.sIx xs.length 0 lo)
theorem lU (xs:List V) (lo hi:Option Int):(gQ xs lo hi).length≤xs.length:=by
 unfold gQ
 rw [List.length_take,List.length_drop]
 exact Nat.le_trans (Nat.min_le_right ..) (Nat.sub_le ..)
inductive KF (K:PySem.W.Frag) (x:V) (lo:Option Int) (hi:Option Int) (H:Hp) (Q:VK):Prop
 | mk (a:_) (xs:_) (h0:x=.ref a) (h1:ag K H a xs) (h2:¬(HT.sIx xs.length 0 lo=0∧HT.sIx xs.length xs.length hi=xs.length)) (h3:∀p,H p=none→Q (.ref p) (aN H p (.tup (gQ xs lo hi))))
def Lx (K:PySem.W.Frag):V→Option Int→Option Int→Hp→VK→Prop:=fun x lo hi H Q=>KF K x lo hi H Q
theorem Ht:CK X (Lx X.K):=by
 intro pins s σ H x v vl vu lo hi sl Q I rx hs pl pu h
 obtain ⟨a,xs,rfl,hx,hw,q⟩:=h
 cases rx
 obtain ⟨its,r,ht,hz⟩:=I.tuple hx
 have hlen:its.toArray.size=xs.length:=by rw [List.size_toArray];exact r.length.symm
 refine ⟨"tuple",_,PyProof.Rows.slot_tuple_getitem.lookup,ht.typeIs,?_⟩
 refine HT.getItem_tuple_cut ht hs pl pu (by rw [hlen];exact hw) ?_ (by rw [hlen];exact hz)
 rw [hlen]
 refine ⟨.ref s.heap.objs.size,_,I.laid (t':=s.toks) (o:=.tup (gQ xs lo hi)) (fun b ob q=>Heap.get?_push_of_some _ q) (Nat.le_refl _) ?_,rfl,q _ (I.hok.fresh (Nat.le_refl _))⟩
 exact ⟨Nat.le_trans (lU xs lo hi) hz,_,(r.drop (HT.sIx xs.length 0 lo)).take (HT.sIx xs.length xs.length hi - HT.sIx xs.length 0 lo),IsTup.new _ _,_,Heap.get?_push_size _ rfl,rfl⟩
end
def o5 (n:Nat) (i:Int):Option Nat:=if 0≤i then (if i<n then some i.toNat else none) else if -(n:Int)≤i then some (i+n).toNat else none
def ik {α:Type} (xs:List α) (i:Int):Option α:=(o5 xs.length i).bind fun j=>xs[j]?
theorem Bd {n:Nat}{i:Int}{j:Nat} (h:o5 n i=some j):seqIndex? i n=some j∧j<n∧-(n:Int)≤i∧i<n:=by
 unfold o5 at h
 by_cases h0:0≤i
 ·rw [if_pos h0] at h
  by_cases h1:i<n
  ·rw [if_pos h1] at h
   have e:i.toNat=j:=Option.some.inj h
   exact ⟨by rw [seqIndex_of h0 h1,e],by trivial,by trivial,h1⟩
  ·rw [if_neg h1] at h;cases h
 ·rw [if_neg h0] at h
  by_cases h1:-(n:Int)≤i
  ·rw [if_pos h1] at h
   have e:(i+n).toNat=j:=Option.some.inj h
   exact ⟨by rw [seqIndex_neg (by trivial) h1,e],by trivial,h1,by trivial⟩
  ·rw [if_neg h1] at h;cases h
theorem xY {α:Type}{xs:List α}{i:Int}{v:α} (h:ik xs i=some v):∃j,seqIndex? i xs.length=some j∧xs[j]?=some v∧j<xs.length∧-(xs.length:Int)≤i∧i<xs.length:=by
 unfold ik at h
 cases e:o5 xs.length i with
 | none=>rw [e] at h;cases h
 | some j=>
  rw [e] at h
  obtain ⟨h1,h2,h3,h4⟩:=Bd e
  exact ⟨j,h1,h,h2,h3,h4⟩
theorem cv {α:Type}{xs:List α}{j:Nat}{v:α} (h:xs[j]?=some v):ik xs (j:Int)=some v:=by
 have hj:j<xs.length:=(List.getElem?_eq_some_iff.mp h).1
 have e:o5 xs.length (j:Int)=some j:=by
  unfold o5
  rw [if_pos (by trivial),if_pos (by trivial)];simp
 unfold ik;rw [e];exact h
theorem vL {α:Type} (xs:List α) (v:α):ik (xs++[v]) (-1)=some v:=by
 have hl:(xs++[v]).length=xs.length+1:=by simp
 have e:o5 (xs++[v]).length (-1)=some xs.length:=by
  unfold o5
  rw [hl,if_neg (by decide),if_pos (by trivial)]
  congr 1
  trivial
 unfold ik
 rw [e]
 show (xs++[v])[xs.length]?=some v
 simp
def FR (b:Expr):Prop:=∀o i,subscripted b false o i=operate [o,i] (getItem o i)
def sf (X:Cx) (r:R2):Prop:=
 ∀(value slice:Expr) (pins:List (Addr×Obj)) (s:Shared) (σ:St) (H:Hp) (x y:V) (v u:Value) (Q:VK),af X pins σ H s→aP x v→aP y u→r x y H Q→
   subscripted slice false v u=operate [v,u] (getItem v u)→wpAny (model X.prog X.w) X.A (subscriptTail value slice v u) (EP X pins σ Q) X.xe s
def FK (X:Cx) (id:String) (r:V→List V→Hp→VK→Prop):Prop:=
 ∀(pins:List (Addr×Obj)) (s:Shared) (σ:St) (H:Hp) (x:V) (xs:List V) (v:Value) (us:List Value) (Q:VK),af X pins σ H s→aP x v→aA xs us→r x xs H Q→
   wpAny (model X.prog X.w) X.A (call (.builtin id) (v :: us)) (EP X pins σ Q) X.xe s
section
variable {X:Cx}{a b:Expr}{ta tb:TE}{pos:Pos}
theorem sf.or {r r':R2} (h:sf X r) (h':sf X r'):sf X (fun x y H Q=>r x y H Q∨r' x y H Q):=by
 intro value slice pins s σ H x y v u Q I rx ry q hs
 rcases q with q | q
 ·exact h value slice pins s σ H x y v u Q I rx ry q hs
 ·exact h' value slice pins s σ H x y v u Q I rx ry q hs
theorem cF {r:R2} (hr:sf X r) (ha:PE X a ta) (hb:PE X b tb) (hs:FR b):PE X (.Subscript a b pos) (CN r ta tb):=by
 intro pins s σ H Q I h
 exact Subscript_ (EW ha hb I h fun v u s2 x y H2 I2 rx ry q=>hr a b pins s2 σ H2 x y v u Q I2 rx ry q (hs _ _))
inductive JV (K:PySem.W.Frag) (x:V) (y:V) (H:Hp) (Q:VK):Prop
 | mk (p:_) (xs:_) (i:_) (v:_) (h0:x=.ref p) (h1:y=.int i) (h2:ah K H p xs) (h3:ik xs i=some v) (h4:Q v H)
def Bs (K:PySem.W.Frag):R2:=fun x y H Q=>JV K x y H Q
inductive Ku (K:PySem.W.Frag) (x:V) (y:V) (H:Hp) (Q:VK):Prop
 | mk (p:_) (xs:_) (i:_) (v:_) (h0:x=.ref p) (h1:y=.int i) (h2:ag K H p xs) (h3:ik xs i=some v) (h4:Q v H)
def Ey (K:PySem.W.Frag):R2:=fun x y H Q=>Ku K x y H Q
inductive JC (x:V) (y:V) (H:Hp) (Q:VK):Prop
 | mk (z:_) (i:_) (c:_) (h0:x=.str z) (h1:y=.int i) (h2:z.length≤sizeLine) (h3:ik z.cps.toList i=some c) (h4:Q (.str ⟨#[c]⟩) H)
def Ik:R2:=fun x y H Q=>JC  x y H Q
theorem A5:sf X (Bs X.K):=by
 intro value slice pins s σ H x y v u Q I rx ry h hs
 obtain ⟨p,xs,i,z,rfl,rfl,hq,he,q⟩:=h
 cases rx
 obtain ⟨t,rfl⟩:=ry
 obtain ⟨its,r,pl,hz⟩:=I.list hq
 obtain ⟨j,h1,h2,h3,h4,h5⟩:=xY he
 obtain ⟨w,ew,rw'⟩:=r.get h2
 have hl:=r.length
 have hn:=tW
 have fin:EP X pins σ Q w s:=⟨z,H,I,rw',q⟩
 by_cases h0:0≤i
 ·have hj:i.toNat=j:=by
   rw [seqIndex_of h0 h5] at h1
   exact Option.some.inj h1
  exact item_listR pl.isList h0 (by trivial) (by rw [hj];simpa using ew) fin hs
 ·have hj:(i+(its.toArray.size:Int)).toNat=j:=by
   rw [seqIndex_neg (by trivial) h4] at h1
   rw [List.size_toArray,←hl]
   exact Option.some.inj h1
  exact subscriptTail_builtinR (x:=w) pl.isList.typeIs slot_list_getitem.lookup
   (wpAny_getItem_list_neg (Q:=fun r s'=>r=w∧EP X pins σ Q r s') pl.isList (by trivial) (by rw [List.size_toArray] <;> trivial) (by trivial) (by rw [hj];simpa using ew) ⟨rfl,fin⟩) hs
theorem CT:sf X (Ey X.K):=by
 intro value slice pins s σ H x y v u Q I rx ry h hs
 obtain ⟨p,xs,i,z,rfl,rfl,hq,he,q⟩:=h
 cases rx
 obtain ⟨t,rfl⟩:=ry
 obtain ⟨its,r,pl,hz⟩:=I.tuple hq
 obtain ⟨j,h1,h2,h3,h4,h5⟩:=xY he
 obtain ⟨w,ew,rw'⟩:=r.get h2
 have hl:=r.length
 have hn:=tW
 have fin:EP X pins σ Q w s:=⟨z,H,I,rw',q⟩
 exact subscriptTail_builtinR (x:=w) pl.typeIs slot_tuple_getitem.lookup
  (getItem_tuple (j:=j) (Q:=fun r s'=>r=w∧EP X pins σ Q r s') pl (by trivial) (by trivial) (by rw [List.size_toArray,←hl];exact h1) (by simpa using ew) ⟨rfl,fin⟩) hs
theorem zd:sf X Ik:=by
 intro value slice pins s σ H x y v u Q I rx ry h hs
 obtain ⟨z,i,c,rfl,rfl,hz,he,q⟩:=h
 obtain ⟨t,rfl⟩:=rx
 obtain ⟨t',rfl⟩:=ry
 obtain ⟨j,h1,h2,h3,h4,h5⟩:=xY he
 have hl:z.cps.toList.length=z.length:=by simp [Str.length]
 rw [hl] at h1 h4 h5
 have hn:=tW
 exact tail_any (typeIs_str s z t) slot_str_getitem.lookup (getItem_str (c:=c) (by
  have e1:decide (i < -(2 ^ 63:Int))=false:=decide_eq_false (by trivial)
  have e2:decide (i≥2 ^ 63)=false:=decide_eq_false (by trivial)
  rw [e1,e2,Bool.or_false]) (by rw [h1];simpa using h2) ⟨.str ⟨#[c]⟩,H,I.tok _,⟨()⟩,q⟩) hs
def L7 (K:PySem.W.Frag):R2:=fun x y H Q=>Bs K x y H Q∨Ey K x y H Q∨Ik x y H Q
theorem kA:sf X (L7 X.K):=A5.or (CT.or zd)
theorem Bz (its:List Value) (n j:Nat) (u:Value):Obj.mapSeq (·.setIfInBounds j u) { cls:=.type "list",data:=.seq its.toArray n }={ cls:=.type "list",data:=.seq (its.set j u).toArray n }:=by
 simp [Obj.mapSeq]
theorem af.lst {pins:List (Addr×Obj)}{σ:St}{H:Hp}{s:Shared}{p:Addr}{xs:List V} (I:af X pins σ H s) (h:H p=some (.lst xs)) :
 aZ fun (its:List Value) (n:Nat)=>aA xs its∧s.heap.get? p=some { cls:=.type "list",data:=.seq its.toArray n }∧xs.length≤sizeLine:=by
 obtain ⟨z,its,n,r,e⟩:=I.hok p _ h
 exact ⟨its,n,r,e,z⟩
theorem af.lstUpd {pins:List (Addr×Obj)}{σ:St}{H:Hp}{s:Shared}{p:Addr}{xs ys:List V}{its its':List Value}{n n':Nat}{f:Obj→Obj} (I:af X pins σ H s) (h:H p=some (.lst xs))
 (ho:s.heap.get? p=some { cls:=.type "list",data:=.seq its.toArray n }) (hf:f { cls:=.type "list",data:=.seq its.toArray n }={ cls:=.type "list",data:=.seq its'.toArray n' }) (r:aA ys its') (hz:ys.length≤sizeLine) (t:Nat) :
 af X pins σ (aN H p (.lst ys)) { s with heap:=s.heap.update p f,toks:=t }:=by
 have e:(s.heap.update p f).get? p=some { cls:=.type "list",data:=.seq its'.toArray n' }:=by
  rw [Heap.get?_update_self f ho (by rw [hf] <;> rfl),hf]
 refine I.write (x:=p) (e:=p) (by rw [h];trivial) (.inl rfl) (fun b u hb q=>(Heap.get?_update_other _ _ (Ne.symm hb)).trans q) ⟨_,e⟩ ?_
 exact ⟨hz,its',n',r,e⟩
inductive Ho (o:V) (i:V) (v:V) (H:Hp) (Q:(Hp→Prop)):Prop
 | mk (p:_) (xs:_) (k:_) (j:_) (h0:o=.ref p) (h1:i=.int k) (h2:H p=some (.lst xs)) (h3:o5 xs.length k=some j) (h4:Q (aN H p (.lst (xs.set j v))))
def JE:V→V→V→Hp→(Hp→Prop)→Prop:=fun o i v H Q=>Ho  o i v H Q
theorem re:Cg X JE:=by
 intro pins s σ H o i v ov iv u Q I ro ri rv h
 obtain ⟨p,xs,k,j,rfl,rfl,hp,hj,q⟩:=h
 cases ro
 obtain ⟨t,rfl⟩:=ri
 obtain ⟨its,n,r,ho,hz⟩:=I.lst hp
 obtain ⟨h1,h2,h3,h4⟩:=Bd hj
 have hl:=r.length
 have hn:=tW
 have I':af X pins σ (aN H p (.lst (xs.set j v))) { s with heap:=s.heap.update p (Obj.mapSeq (·.setIfInBounds j u)) }:=
  I.lstUpd hp ho (Bz its n j u) (r.set rv j) (by rw [List.length_set];exact hz) s.toks
 by_cases h0:0≤k
 ·have hk:k.toNat=j:=by
   rw [seqIndex_of h0 h4] at h1
   exact Option.some.inj h1
  exact PySem.W.ki_setAt ho h0 (by trivial) (by rw [List.size_toArray,←hl];exact h4) (by rw [hk];exact ⟨_,I',q⟩)
 ·have hk:(k+(its.toArray.size:Int)).toNat=j:=by
   rw [seqIndex_neg (by trivial) h3] at h1
   rw [List.size_toArray,←hl]
   exact Option.some.inj h1
  exact PySem.W.ki_setBack ho (by trivial) (by rw [List.size_toArray,←hl];exact h3) (by trivial) (by rw [hk];exact ⟨_,I',q⟩)
theorem zz (lo hi:Option Int) (n:Nat):(sliceBounds lo hi none n).1=((HT.sIx n 0 lo:Nat):Int)∧(sliceBounds lo hi none n).2.1=((HT.sIx n n hi:Nat):Int)∧(sliceBounds lo hi none n).2.2=1:=by
 refine ⟨?_,?_,rfl⟩
 ·cases lo with
  | none=>simp [sliceBounds,HT.sIx]
  | some i=>
   simp only [sliceBounds,HT.sIx,Option.getD_none,show (1:Int) > 0 by decide,if_true]
   by_cases h:i<0
   ·simp only [h,if_true] <;> trivial
   ·simp only [h,if_false] <;> trivial
 ·cases hi with
  | none=>simp [sliceBounds,HT.sIx]
  | some i=>
   simp only [sliceBounds,HT.sIx,Option.getD_none,show (1:Int) > 0 by decide,if_true]
   by_cases h:i<0
   ·simp only [h,if_true] <;> trivial
   ·simp only [h,if_false] <;> trivial
theorem yO (its:List Value) (lo hi:Option Int):slicePick its.toArray lo hi none=((its.drop (HT.sIx its.length 0 lo)).take (HT.sIx its.length its.length hi - HT.sIx its.length 0 lo)).toArray:=by
 obtain ⟨h1,h2,h3⟩:=zz lo hi its.toArray.size
 unfold slicePick
 rw [h1,h2,h3]
 simp only [sliceRange_one,pick_run,List.size_toArray] <;> rfl
inductive Ky (K:PySem.W.Frag) (x:V) (lo:Option Int) (hi:Option Int) (H:Hp) (Q:VK):Prop
 | mk (a:_) (xs:_) (h0:x=.ref a) (h1:ah K H a xs) (h2:∀p,H p=none→Q (.ref p) (aN H p (.lst (gQ xs lo hi))))
def Lq (K:PySem.W.Frag):V→Option Int→Option Int→Hp→VK→Prop:=fun x lo hi H Q=>Ky K x lo hi H Q
theorem xy:CK X (Lq X.K):=by
 intro pins s σ H x v vl vu lo hi sl Q I rx hs pl pu h
 obtain ⟨a,xs,rfl,hx,q⟩:=h
 cases rx
 obtain ⟨its,r,ht,hz⟩:=I.list hx
 have hlen:=r.length
 refine ⟨"list",_,slot_list_getitem.lookup,ht.isList.typeIs,?_⟩
 refine wpAny_getItem_list_slice ht.isList hs pl pu .none (by simp) ?_ (by rw [List.size_toArray] <;> trivial)
 rw [yO,←hlen]
 refine ⟨.ref s.heap.objs.size,_,I.laid (t':=s.toks) (o:=.lst (gQ xs lo hi)) (fun b ob q=>Heap.get?_push_of_some _ q) (Nat.le_refl _) ?_,rfl,q _ (I.hok.fresh (Nat.le_refl _))⟩
 exact ⟨Nat.le_trans (lU xs lo hi) hz,_,0,(r.drop (HT.sIx xs.length 0 lo)).take (HT.sIx xs.length xs.length hi - HT.sIx xs.length 0 lo),Heap.get?_push_size _ rfl⟩
def lQ:V→Bool
 | .non=>true
 | .bl _=>true
 | .int _=>true
 | .str _=>true
 | _=>false
def tI:V→V→Bool
 | .non,.non=>true
 | .bl a,.bl b=>a==b
 | .bl a,.int b=>(if a then 1 else 0)==b
 | .int a,.bl b=>a==(if b then 1 else 0)
 | .int a,.int b=>a==b
 | .str a,.str b=>a==b
 | _,_=>false
theorem Hu {A:Around}{s:Shared}{y x:V}{u v:Value} (ry:aP y u) (rx:aP x v) (fy:lQ y=true) (fx:lQ x=true):SeqAt.EqAt A s u v (tI y x):=by
 cases y with
 | non=>
  cases ry
  cases x with
  | non=>cases rx;exact SeqAt.EqAt.same _
  | bl b=>cases rx;exact SeqAt.EqAt.none_bool b
  | int b=>obtain ⟨t,rfl⟩:=rx;exact SeqAt.EqAt.none_int b t
  | str b=>obtain ⟨t,rfl⟩:=rx;exact SeqAt.EqAt.none_str b t
  | _=>exact absurd (show false=true from fx) Bool.false_ne_true
 | bl a=>
  cases ry
  cases x with
  | non=>cases rx;exact SeqAt.EqAt.bool_none a
  | bl b=>cases rx;exact SeqAt.EqAt.bool_bool a b
  | int b=>obtain ⟨t,rfl⟩:=rx;exact SeqAt.EqAt.bool_int a b t
  | str b=>obtain ⟨t,rfl⟩:=rx;exact SeqAt.EqAt.bool_str a b t
  | _=>exact absurd (show false=true from fx) Bool.false_ne_true
 | int a=>
  obtain ⟨t',rfl⟩:=ry
  cases x with
  | non=>cases rx;exact SeqAt.EqAt.int_none a t'
  | bl b=>cases rx;exact SeqAt.EqAt.int_bool a t' b
  | int b=>obtain ⟨t,rfl⟩:=rx;exact SeqAt.EqAt.int_int a t' b t
  | str b=>obtain ⟨t,rfl⟩:=rx;exact SeqAt.EqAt.int_str a t' b t
  | _=>exact absurd (show false=true from fx) Bool.false_ne_true
 | str a=>
  obtain ⟨t',rfl⟩:=ry
  cases x with
  | non=>cases rx;exact SeqAt.EqAt.str_none a t'
  | bl b=>cases rx;exact SeqAt.EqAt.str_bool a t' b
  | int b=>obtain ⟨t,rfl⟩:=rx;exact SeqAt.EqAt.str_int a t' b t
  | str b=>obtain ⟨t,rfl⟩:=rx;exact SeqAt.EqAt.str_str a t' b t
  | _=>exact absurd (show false=true from fx) Bool.false_ne_true
 | _=>exact absurd (show false=true from fy) Bool.false_ne_true
def oA (x:V) (u:Value):Bool:=match u with
 | .none=>tI .non x
 | .bool b=>tI (.bl b) x
 | .int i _=>tI (.int i) x
 | .str z _=>tI (.str z) x
 | _=>false
theorem C1 {x y:V}{u:Value} (r:aP y u) (f:lQ y=true):oA x u=tI y x:=by
 cases y with
 | non=>cases r;rfl
 | bl b=>cases r;rfl
 | int i=>obtain ⟨t,rfl⟩:=r;rfl
 | str z=>obtain ⟨t,rfl⟩:=r;rfl
 | _=>exact absurd (show false=true from f) Bool.false_ne_true
theorem qg {x:V}:∀{xs:List V}{us:List Value},aA xs us→xs.all lQ=true→us.any (oA x)=xs.any fun y=>tI y x
 | _,_,.nil,_=>rfl
 | y :: xs,u :: us,.cons r t,f=>by
  rw [List.all_cons,Bool.and_eq_true] at f
  rw [List.any_cons,List.any_cons,C1 r f.1,qg t f.2]
theorem oP {A:Around}{s:Shared}{x:V}{v:Value} (rx:aP x v) (fx:lQ x=true):∀{xs:List V}{us:List Value},aA xs us→xs.all lQ=true→∀u∈us,SeqAt.EqAt A s u v (oA x u)
 | _,_,.nil,_=>fun u hu=>by cases hu
 | y :: xs,u :: us,.cons r t,f=>fun u' hu=>by
  rw [List.all_cons,Bool.and_eq_true] at f
  rcases List.mem_cons.mp hu with rfl | hu
  ·rw [C1 r f.1];exact Hu r rx f.1 fx
  ·exact oP rx fx t f.2 u' hu
def jN (x:V) (xs:List V):Bool:=xs.any fun y=>tI y x
inductive LN (K:PySem.W.Frag) (neg:Bool) (x:V) (y:V) (H:Hp) (Q:VK):Prop
 | mk (p:_) (xs:_) (h0:y=.ref p) (h1:(ah K H p xs∨ag K H p xs)) (h2:lQ x=true) (h3:xs.all lQ=true) (h4:Q (.bl (if neg then !jN x xs else jN x xs)) H)
def FE (K:PySem.W.Frag) (neg:Bool):R2:=fun x y H Q=>LN K neg x y H Q
theorem Eo:cN X (compareOp .In) (FE X.K false):=by
 intro pins s σ H x y v u Q I rx ry h
 obtain ⟨p,xs,rfl,hq,fx,fs,q⟩:=h
 cases ry
 rcases hq with hq | hq
 ·obtain ⟨its,r,pl,hz⟩:=I.list hq
  refine SeqAt.in_listAt (oA x) pl.isList (fun w hw=>oP rx fx r fs w (by simpa using hw)) ⟨.bl _,H,I,rfl,?_⟩
  rw [show its.toArray.any (oA x)=its.any (oA x) by simp,qg r fs]
  exact q
 ·obtain ⟨its,r,pl,hz⟩:=I.tuple hq
  refine SeqAt.in_tupleAt (oA x) pl (fun w hw=>oP rx fx r fs w (by simpa using hw)) ⟨.bl _,H,I,rfl,?_⟩
  rw [show its.toArray.any (oA x)=its.any (oA x) by simp,qg r fs]
  exact q
theorem ze:cN X (compareOp .NotIn) (FE X.K true):=by
 intro pins s σ H x y v u Q I rx ry h
 obtain ⟨p,xs,rfl,hq,fx,fs,q⟩:=h
 cases ry
 rcases hq with hq | hq
 ·obtain ⟨its,r,pl,hz⟩:=I.list hq
  refine SeqAt.notIn_listAt (oA x) pl.isList (fun w hw=>oP rx fx r fs w (by simpa using hw)) ⟨.bl _,H,I,rfl,?_⟩
  rw [show its.toArray.any (oA x)=its.any (oA x) by simp,qg r fs]
  exact q
 ·obtain ⟨its,r,pl,hz⟩:=I.tuple hq
  refine SeqAt.notIn_tupleAt (oA x) pl (fun w hw=>oP rx fx r fs w (by simpa using hw)) ⟨.bl _,H,I,rfl,?_⟩
  rw [show its.toArray.any (oA x)=its.any (oA x) by simp,qg r fs]
  exact q
theorem uC:dj X (.builtin "len") (fun xs H Q=>aZ fun p ys=>xs=[.ref p]∧(ah X.K H p ys∨ag X.K H p ys)∧Q (.int ys.length) H):=by
 intro pins s σ H xs us Q I r h
 obtain ⟨p,ys,rfl,hq,q⟩:=h
 obtain ⟨u,rfl,rx⟩:=ny r
 cases rx
 have hn:=tW
 rcases hq with hq | hq
 ·obtain ⟨its,r',pl,hz⟩:=I.list hq
  have hlen:=r'.length
  exact Calls.call_len_list pl.isList (by simp only [List.size_toArray] <;> trivial) ⟨.int ys.length,H,I.tok _,⟨s.toks+1,by rw [List.size_toArray,hlen]⟩,q⟩
 ·obtain ⟨its,r',pl,hz⟩:=I.tuple hq
  have hlen:=r'.length
  exact len_tuple pl (by simp only [List.size_toArray] <;> trivial) ⟨.int ys.length,H,I.tok _,⟨s.toks+1,by rw [List.size_toArray,hlen]⟩,q⟩
theorem tX:dj X (.type "list") (fun xs H Q=>aZ fun p ys=>xs=[.ref p]∧(ah X.K H p ys∨ag X.K H p ys)∧∀l,H l=none→Q (.ref l) (aN H l (.lst ys))):=by
 intro pins s σ H xs us Q I r h
 obtain ⟨p,ys,rfl,hq,q⟩:=h
 obtain ⟨u,rfl,rx⟩:=ny r
 cases rx
 have fin:∀(its:List Value),aA ys its→ys.length≤sizeLine→∀(h':Heap) (c':Nat),(∀b o',s.heap.get? b=some o'→h'.get? b=some o')→
  h'.get? s.heap.objs.size=some { cls:=.type "list",dict:=none,data:=.seq its.toArray c',slots:=#[] }→EP X pins σ Q (.ref s.heap.objs.size) { s with heap:=h' }:=fun its r' hz h' c' kp e=>
  ⟨.ref s.heap.objs.size,_,I.laid (t':=s.toks) kp (Nat.le_refl _) (show bD X.prog X.w _ h' _ (.lst ys) from ⟨hz,its,c',r',e⟩),rfl,q _ (I.hok.fresh (Nat.le_refl _))⟩
 rcases hq with hq | hq
 ·obtain ⟨its,r',pl,hz⟩:=I.list hq
  have hlen:=r'.length
  obtain ⟨o,ho,hc,n,hd⟩:=pl.isList
  exact call_list_seq p (.inl rfl) ho hc hd (fun h' c' kp e=>fin its r' hz h' c' kp e) (by simp only [List.size_toArray] <;> trivial)
 ·obtain ⟨its,r',pl,hz⟩:=I.tuple hq
  have hlen:=r'.length
  obtain ⟨o,ho,hc,n,hd⟩:=pl
  exact call_list_seq p (.inr rfl) ho hc hd (fun h' c' kp e=>fin its r' hz h' c' kp e) (by simp only [List.size_toArray] <;> trivial)
theorem yQ:dj X (.type "tuple") (fun xs H Q=>aZ fun p ys=>xs=[.ref p]∧((ah X.K H p ys∧∀l,H l=none→Q (.ref l) (aN H l (.tup ys)))∨(ag X.K H p ys∧Q (.ref p) H))):=by
 intro pins s σ H xs us Q I r h
 obtain ⟨p,ys,rfl,h⟩:=h
 obtain ⟨u,rfl,rx⟩:=ny r
 cases rx
 rcases h with ⟨hq,q⟩ | ⟨hq,q⟩
 ·obtain ⟨its,r',pl,hz⟩:=I.list hq
  have hlen:=r'.length
  refine call_tuple_list pl.isList (fun h' kp=>?_) (by simp only [List.size_toArray] <;> trivial)
  have I1:af X pins σ H { s with heap:=h' }:=I.kept (t':=s.toks) kp
  have I2:af X pins σ (aN H h'.objs.size (.tup ys)) { s with heap:=h'.push { cls:=.type "tuple",data:=.seq its.toArray } }:=
   I1.laid (t':=s.toks) (fun b o e=>Heap.get?_push_of_some _ e) (Nat.le_refl _) (show bD X.prog X.w _ _ _ (.tup ys) from ⟨hz,its,r',IsTup.new _ _,_,Heap.get?_push_size _ rfl,rfl⟩)
  exact ⟨.ref h'.objs.size,_,I2,rfl,q _ (I1.hok.fresh (Nat.le_refl _))⟩
 ·obtain ⟨its,r',pl,hz⟩:=I.tuple hq
  exact call_tuple_same pl ⟨.ref p,H,I,rfl,q⟩
def KS (K:PySem.W.Frag) (T:String) (x:V) (H:Hp):Prop:=match x with
 | .str _=>T = "str"
 | .int _=>T = "int"
 | .ref p=>(T = "list"∧∃xs,ah K H p xs)∨(T = "tuple"∧∃o,K.lookup p=some o∧o.cls=.type "tuple"∧o.dict=none)∨
  (T = "dict"∧((∃kvs,H p=some (.dK kvs))∨∃kvs,H p=some (.dT kvs)))∨(T = "set"∧aZ fun S n=>H p=some (.set S n))
 | _=>False
theorem Id {pins:List (Addr×Obj)}{σ:St}{H:Hp}{s:Shared}{T:String}{x:V}{v:Value} (I:af X pins σ H s) (r:aP x v) (ty:KS X.K T x H) :
 s.TypeIs v T∧∀a,v=.ref a→∃ob,s.heap.get? a=some ob∧ob.dict=none:=by
 cases x with
 | str z=>
  obtain ⟨t,rfl⟩:=r
  cases (show T = "str" from ty)
  exact ⟨typeIs_str s z t,fun _ e=>nomatch e⟩
 | int i=>
  obtain ⟨t,rfl⟩:=r
  cases (show T = "int" from ty)
  exact ⟨typeIs_int s i t,fun _ e=>nomatch e⟩
 | ref p=>
  cases r
  rcases ty with ⟨rfl,xs,hq⟩ | ⟨rfl,o,hk,hc,hd⟩ | ⟨rfl,hk⟩ | ⟨rfl,S,n,hk⟩
  ·obtain ⟨its,_,pl,_⟩:=I.list hq
   refine ⟨pl.isList.typeIs,fun a e=>?_⟩
   cases e
   obtain ⟨o,n,e,c,hd,_⟩:=pl
   exact ⟨o,e,hd⟩
  ·refine ⟨⟨o,I.kIn p o hk,hc⟩,fun a e=>?_⟩
   cases e
   exact ⟨o,I.kIn _ o hk,hd⟩
  ·have z:∃o,s.heap.get? p=some o∧o.ExactDict:=by
    rcases hk with ⟨kvs,hk⟩ | ⟨kvs,hk⟩
    ·obtain ⟨_,_,_,_,o,_,_,e,ex,_⟩:=I.hok p _ hk
     exact ⟨o,e,ex⟩
    ·obtain ⟨_,_,_,_,o,_,_,e,ex,_⟩:=I.hok p _ hk
     exact ⟨o,e,ex⟩
   obtain ⟨o,e,ex⟩:=z
   refine ⟨⟨o,e,ex.1⟩,fun a e2=>?_⟩
   cases e2
   exact ⟨o,e,ex.2.1⟩
  ·obtain ⟨o,_,_,_,e,ex,_⟩:=I.hok p _ hk
   refine ⟨⟨o,e,ex.1⟩,fun a e2=>?_⟩
   cases e2
   exact ⟨o,e,ex.2.1⟩
 | _=>exact False.elim ty
def FN (K:PySem.W.Frag) (T:String) (r:V→List V→Hp→VK→Prop) (to:TE) (t:TA):TE:=fun σ H Q=>to σ H fun x H1=>KS K T x H1∧t σ H1 fun xs H2=>r x xs H2 Q
variable {o e:Expr}{es:List Expr}{to:TE}{t:TA}{name:Str}{apos cpos:Pos}{T id:String}{r:V→List V→Hp→VK→Prop}
theorem KL (pa:PlainAttrs T) (slot:Slot T name id) (hty:typeOf (.builtin id)=pure (.type "method_descriptor")) (hm:FK X id r) (ho:PE X o to) (ha:PA X (e :: es) t)
 (hbase:attributeBase o name X.env (eval o X.env)=eval o X.env:=by rfl)
 (hfew:((backTo cpos (starEach (e :: es) X.env)).all (fun x=>!x.1) && (backToKw cpos (keywordEach [] X.env)).all (fun x=>x.1.isSome)
  && decide ((e :: es).length+([]:List Keyword).length+(if ([]:List Keyword).isEmpty then 0 else 1)<30))=true:=by rfl)
 (hline:(apos.endLine==cpos.line)=true:=by rfl) (hs:starEach (e :: es) X.env=(false,eval e X.env) :: starEach es X.env:=by rfl) (hplain:(backTo cpos (starEach es X.env)).any (·.1)=false:=by rfl) :
 PE X (.Call (.Attribute o name apos) (e :: es) [] cpos) (FN X.K T r to t):=by
 intro pins s σ H Q I h
 refine wpAny_Call_method_late hbase hfew hline rfl (aO (ho pins s σ H _ I h) fun v s1 ⟨x,H1,I1,r1,ty,q1⟩=>?_)
 obtain ⟨h1,h2⟩:=Id I1 r1 ty
 refine ⟨T,id,pa,slot,hty,h1,h2,?_⟩
 have hA:=ha cpos pins s1 σ H1 _ I1 q1
 rw [hs] at hA ⊢
 refine Calls.callWith_builtin (by show (false || (backTo cpos (starEach es X.env)).any (·.1))=false;rw [hplain] <;> rfl) (Calls.evalArgs_plain ?_)
 exact aO hA fun us s2 ⟨vs,H2,I2,r2,q2⟩=>hm pins s2 σ H2 x vs v us Q I2 r1 r2 q2
/- xs.append(e), list.index on a module's tuple .. are FK facts of 06m -/
end
end L2
namespace L2
open PySem PySem.Spec PyProof.Rows
def wD (X:Cx) (id:String) (r:V→List V→Hp→VK→Prop):Prop:=
 ∀(pins:List (Addr×Obj)) (s:Shared) (σ:St) (H:Hp) (x:V) (xs:List V) (v:Value) (us:List Value) (Q:VK),af X pins σ H s→aP x v→aA xs us→r x xs H Q→
   wpAny (model X.prog X.w) X.A (call (.builtin id) (v :: us)) (EP X pins σ Q) X.xe s
theorem Paired.un {α β:Type}{R:α→β→Prop}{x:α}{xs:List α}{us:List β} (h:Paired R (x :: xs) us):aZ fun u vs=>us=u :: vs∧R x u∧Paired R xs vs:=by
 cases h with
 | cons r q=>exact ⟨_,_,rfl,r,q⟩
theorem Paired.un0 {α β:Type}{R:α→β→Prop}{us:List β} (h:Paired R [] us):us=[]:=by
 cases h with
 | nil=>rfl
theorem aA.one {x:V}{us:List Value} (h:aA [x] us):∃u,us=[u]∧aP x u:=by
 obtain ⟨u,vs,rfl,r,q⟩:=Paired.un h
 rw [Paired.un0 q]
 exact ⟨u,rfl,r⟩
theorem aA.two {x y:V}{us:List Value} (h:aA [x,y] us):aZ fun u v=>us=[u,v]∧aP x u∧aP y v:=by
 obtain ⟨u,vs,rfl,r,q⟩:=Paired.un h
 obtain ⟨v,rfl,q2⟩:=aA.one q
 exact ⟨u,v,rfl,r,q2⟩
theorem aA.eraseIdx:∀{xs:List V}{us:List Value} (i:Nat),aA xs us→aA (xs.eraseIdx i) (us.eraseIdx i)
 | _,_,_,.nil=>.nil
 | _,_,0,.cons _ t=>t
 | _,_,i+1,.cons r t=>.cons r (aA.eraseIdx i t)
theorem aA.rep {xs:List V}{us:List Value} (h:aA xs us):∀k:Nat,aA (List.replicate k xs).flatten (List.replicate k us).flatten
 | 0=>.nil
 | k+1=>by
  rw [List.replicate_succ,List.replicate_succ,List.flatten_cons,List.flatten_cons]
  exact aA.append h (aA.rep h k)
theorem yj {α:Type}:∀(l:List α) (i:Nat),(l.eraseIdx i).length≤l.length
 | [],_=>Nat.le_refl _
 | _ :: _,0=>Nat.le_succ _
 | _ :: r,i+1=>Nat.succ_le_succ (yj r i)
theorem yi (its:List Value):∀(k:Nat) (acc:List Value),
 List.foldl (fun x1 x2=>x1++x2) acc.toArray (List.replicate k its.toArray)=(acc++(List.replicate k its).flatten).toArray
 | 0,acc=>by simp
 | k+1,acc=>by
  have e:acc.toArray++its.toArray=(acc++its).toArray:=by simp
  have e2:(acc++its)++(List.replicate k its).flatten=acc++(List.replicate (k+1) its).flatten:=by
   rw [List.replicate_succ,List.flatten_cons,List.append_assoc]
  rw [←e2,←yi its k (acc++its),←e,List.replicate_succ,List.foldl_cons]
section
variable {X:Cx}{pins:List (Addr×Obj)}{σ:St}{H:Hp}{s:Shared}{l b:Addr}{xs ys zs:List V}
theorem af.lset {its its':List Value}{n:Nat}{f:Array Value→Array Value}{t':Nat} (I:af X pins σ H s) (hH:H l=some (.lst xs))
 (e:s.heap.get? l=some { cls:=.type "list",data:=.seq its.toArray n }) (hf:f its.toArray=its'.toArray) (hv:aA ys its') (hz:ys.length≤sizeLine) :
 af X pins σ (aN H l (.lst ys)) { s with heap:=s.heap.update l (Obj.mapSeq f),toks:=t' }:=by
 have q:=PySem.IsL.update e f
 rw [hf] at q
 refine I.write (x:=l) (e:=l) (by rw [hH];exact trivial) (.inl rfl) (fun b' u hb hu=>(Heap.get?_update_other s.heap (Obj.mapSeq f) (Ne.symm hb)).trans hu) ⟨_,q⟩ ?_
 exact ⟨hz,its',_,hv,q⟩
theorem af.lnew {its:List Value}{t':Nat} (I:af X pins σ H s) (hv:aA ys its) (hz:ys.length≤sizeLine) :
 af X pins σ (aN H s.heap.objs.size (.lst ys)) { s with heap:=s.heap.push { cls:=.type "list",data:=.seq its.toArray },toks:=t' }:=
 I.laid (fun _ _ q=>Heap.get?_push_of_some _ q) (Nat.le_refl _) ⟨hz,its,0,hv,Heap.get?_push_size _ rfl⟩
theorem af.fresh (I:af X pins σ H s):H s.heap.objs.size=none:=I.hok.fresh (Nat.le_refl _)
theorem af.lstM (I:af X pins σ H s) (hH:H l=some (.lst xs)):xs.length≤sizeLine∧aZ fun (its:List Value) (n:Nat)=>aA xs its∧xs.length=its.length∧s.heap.get? l=some { cls:=.type "list",data:=.seq its.toArray n }:=by
 obtain ⟨z,its,n,r,e⟩:=I.hok l _ hH
 exact ⟨z,its,n,r,r.length,e⟩
theorem zE {n:Nat} (h:n≤sizeLine):Builtin.List.listTooLong n=false:=by
 unfold Builtin.List.listTooLong
 exact decide_eq_false (by trivial)
end
section
variable {X:Cx}
inductive EM (x:V) (vs:List V) (H:Hp) (Q:VK):Prop
 | mk (l:_) (xs:_) (y:_) (h0:x=.ref l) (h1:vs=[y]) (h2:H l=some (.lst xs)) (h3:xs.length<sizeLine) (h4:Q .non (aN H l (.lst (xs++[y]))))
def GC:V→List V→Hp→VK→Prop:=fun x vs H Q=>EM  x vs H Q
theorem yE:wD X "list.append" GC:=by
 intro pins s σ H x vs v us Q I rx rv h
 obtain ⟨l,xs,y,rfl,rfl,hH,hz,q⟩:=h
 cases rx
 obtain ⟨u,rfl,ru⟩:=rv.one
 obtain ⟨z,its,n,r,hl,e⟩:=I.lstM hH
 refine call_meets F.slot_list_append ⟨_,e,rfl⟩ F.entry_list_append (F.args_list_append_2 _ _) (PySem.list_append l its.toArray n u (by rw [List.size_toArray];trivial)) ⟨e,?_⟩
 refine ⟨.non,_,I.lset (its':=its++[u]) hH e (by simp) (r.append (.cons ru .nil)) ?_,rfl,q⟩
 rw [List.length_append,List.length_singleton]
 trivial
inductive EV (x:V) (vs:List V) (H:Hp) (Q:VK):Prop
 | mk (l:_) (b:_) (xs:_) (zs:_) (h0:x=.ref l) (h1:vs=[.ref b]) (h2:H l=some (.lst xs)) (h3:H b=some (.lst zs)) (h4:xs.length+zs.length≤sizeLine) (h5:Q .non (aN H l (.lst (xs++zs))))
def F8:V→List V→Hp→VK→Prop:=fun x vs H Q=>EV  x vs H Q
theorem Ee:wD X "list.extend" F8:=by
 intro pins s σ H x vs v us Q I rx rv h
 obtain ⟨l,b,xs,zs,rfl,rfl,hH,hB,hz,q⟩:=h
 cases rx
 obtain ⟨u,rfl,ru⟩:=rv.one
 cases ru
 obtain ⟨z,its,n,r,hl,e⟩:=I.lstM hH
 obtain ⟨z2,its2,n2,r2,hl2,e2⟩:=I.lstM hB
 have hsz:its.toArray.size+its2.toArray.size≤sizeLine:=by rw [List.size_toArray,List.size_toArray];trivial
 have hlong:¬(!its.toArray.isEmpty && Builtin.List.listTooLong (its.toArray.size+its2.toArray.size))=true:=by
  rw [zE hsz,Bool.and_false]
  exact Bool.false_ne_true
 refine call_meets F.slot_list_extend ⟨_,e,rfl⟩ F.entry_list_extend (F.args_list_extend_2 _ _)
  (AutoSeq1.list_extend_list_list_0 l its.toArray n b its2.toArray n2 hlong (by rw [List.size_toArray];trivial) (by trivial)) ⟨e,e2,?_⟩
 refine ⟨.non,_,I.lset (its':=its++its2) hH e (by simp) (r.append r2) ?_,rfl,q⟩
 rw [List.length_append]
 trivial
inductive Go (x:V) (vs:List V) (H:Hp) (Q:VK):Prop
 | mk (l:_) (xs:_) (i:_) (k:_) (y:_) (h0:x=.ref l) (h1:vs=[.int i]) (h2:H l=some (.lst xs)) (h3:-(2 ^ 63)≤i) (h4:i<2 ^ 63) (h5:seqIndex? i xs.length=some k) (h6:xs[k]?=some y) (h7:Q y (aN H l (.lst (xs.eraseIdx k))))
def Hm:V→List V→Hp→VK→Prop:=fun x vs H Q=>Go  x vs H Q
theorem ES:wD X "list.pop" Hm:=by
 intro pins s σ H x vs v us Q I rx rv h
 obtain ⟨l,xs,i,k,y,rfl,rfl,hH,h1,h2,hk,hy,q⟩:=h
 cases rx
 obtain ⟨u,rfl,ru⟩:=rv.one
 obtain ⟨t,rfl⟩:=ru
 obtain ⟨z,its,n,r,hl,e⟩:=I.lstM hH
 obtain ⟨w,hw,rw'⟩:=r.get hy
 refine call_meets F.slot_list_pop ⟨_,e,rfl⟩ F.entry_list_pop (F.args_list_pop_2 _ _)
  (MeetsSeq.list_pop_at l its.toArray n i t k w (fitsIndex_both h1 h2) (by rw [List.size_toArray,←hl];exact hk) (by rw [←Array.getElem?_toList];exact hw) (by rw [List.size_toArray];trivial)) ⟨e,?_⟩
 refine ⟨y,_,I.lset (its':=its.eraseIdx k) hH e ?_ (r.eraseIdx k) ?_,rw',q⟩
 ·show its.toArray.eraseIdxIfInBounds k=(its.eraseIdx k).toArray
  rw [List.eraseIdxIfInBounds_toArray]
 ·have:=yj xs k
  trivial
inductive Kr (x:V) (y:V) (H:Hp) (Q:VK):Prop
 | mk (l:_) (b:_) (xs:_) (zs:_) (h0:x=.ref l) (h1:y=.ref b) (h2:H l=some (.lst xs)) (h3:H b=some (.lst zs)) (h4:xs.length+zs.length≤sizeLine) (h5:∀p,H p=none→Q (.ref p) (aN H p (.lst (xs++zs))))
def LA:R2:=fun x y H Q=>Kr  x y H Q
theorem Ix:cN X (binaryOp .Add) LA:=by
 intro pins s σ H x y v u Q I rx ry h
 obtain ⟨l,b,xs,zs,rfl,rfl,hH,hB,hz,q⟩:=h
 cases rx
 cases ry
 obtain ⟨z,its,n,r,hl,e⟩:=I.lstM hH
 obtain ⟨z2,its2,n2,r2,hl2,e2⟩:=I.lstM hB
 refine PySem.P.add_list e e2 ?_ (by rw [List.size_toArray,List.size_toArray];trivial)
 have ea:its.toArray++its2.toArray=(its++its2).toArray:=by simp
 rw [ea]
 exact ⟨.ref _,_,I.lnew (t':=s.toks) (r.append r2) (by rw [List.length_append];trivial),rfl,q _ I.fresh⟩
inductive JP (x:V) (y:V) (H:Hp) (Q:VK):Prop
 | mk (l:_) (k:_) (xs:_) (h0:x=.ref l) (h1:y=.int k) (h2:H l=some (.lst xs)) (h3:-(2 ^ 63)≤k) (h4:k<2 ^ 63) (h5:xs.length*k.toNat≤sizeLine) (h6:∀p,H p=none→Q (.ref p) (aN H p (.lst (List.replicate k.toNat xs).flatten)))
def Ld:R2:=fun x y H Q=>JP  x y H Q
theorem A4 {α:Type} (xs:List α) (k:Nat):(List.replicate k xs).flatten.length=k*xs.length:=by
 induction k with
 | zero=>simp
 | succ k ih=>rw [List.replicate_succ,List.flatten_cons,List.length_append,ih,Nat.succ_mul,Nat.add_comm]
theorem IL:cN X (binaryOp .Mult) Ld:=by
 intro pins s σ H x y v u Q I rx ry h
 obtain ⟨l,k,xs,rfl,rfl,hH,h1,h2,hz,q⟩:=h
 cases rx
 obtain ⟨t,rfl⟩:=ry
 obtain ⟨z,its,n,r,hl,e⟩:=I.lstM hH
 have hlen:its.toArray.size*k.toNat≤sizeLine:=by rw [List.size_toArray,←hl];exact hz
 have hcap:¬its.toArray.size*k.toNat > (2 ^ 63 - 1) / 8:=by
  have:(sizeLine:Nat)≤(2 ^ 63 - 1) / 8:=by decide
  trivial
 have hfit:¬(!Builtin.List.listFitsIndex k)=true:=by
  rw [fitsIndex_both h1 h2]
  exact Bool.false_ne_true
 have hlong:¬Builtin.List.listTooLong (its.toArray.size*k.toNat)=true:=by
  rw [zE hlen]
  exact Bool.false_ne_true
 have hnew:List.foldl (fun x1 x2=>x1++x2) #[] (List.replicate (if its.toArray.isEmpty=true then 0 else k.toNat) its.toArray)=(List.replicate k.toNat its).flatten.toArray:=by
  have f0:∀m:Nat,List.foldl (fun x1 x2=>x1++x2) #[] (List.replicate m its.toArray)=(List.replicate m its).flatten.toArray:=fun m=>by
   have:=yi its m []
   rw [List.nil_append] at this
   exact this
  rw [f0]
  cases its with
  | nil=>simp
  | cons a r'=>rw [if_neg (by simp)]
 refine wpAny_binaryOp_repeat_ref (T := "list") (U := "int") (by decide) ⟨_,e,rfl⟩ (fun s'=>typeIs_int s' k t) noFill_list_mul F.fills_int_mul F.slot_int_rmul repeat_list F.slot_int_index.lookup
  (call_meets F.slot_int_rmul (typeIs_int s k t) F.entry_int_rmul (F.args_int_rmul_2 _ _) (int___rmul___int_list k t l its.toArray n)
   ⟨e,rfl,⟨_,e,rfl⟩,call_meets F.slot_list_mul ⟨_,e,rfl⟩ F.entry_list_mul (F.args_list_mul_2 _ _) (AutoListH.list___mul___list_int_3 l its.toArray n k t hfit hcap hlong) ⟨e,?_⟩⟩)
 rw [hnew]
 exact ⟨.ref _,_,I.lnew (t':=s.toks) (r.rep k.toNat) (by rw [A4,Nat.mul_comm];exact hz),rfl,q _ I.fresh⟩
end
section
variable {prog:Program}{w:World}{A:Around}{E:Value→Shared→Prop}{s:Shared}
set_option maxRecDepth 100000 in
end
section
variable {X:Cx}
end
end L2
namespace Att
open PySem PySem.W PySem.Calls PyProof.Rows
theorem wC {P:Params}{h:Heap}:∀(ns:List Int) (vs:List Value),WellAll P h vs (ns.map WData.int)→IntsAre vs ns:=by
 intro ns
 induction ns with
 | nil=>
  intro vs w
  rw [List.map_nil] at w
  cases w
  exact .nil
 | cons n ns ih=>
  intro vs w
  rw [List.map_cons] at w
  cases w with
  | cons a b=>
   cases a
   exact .cons _ _ (ih _ b)
theorem CZ {l:OpenLaw}{n:Nat} (hn:l.most=some n) {P:Params}{h:Heap}{args:List WData}{vals:List Value}
 (hpre:l.row.toRowW.claim.pre args=true) (hwl:WellAll P h vals args) :
 ∃a vs ns,vals=[Value.ref a]∧args=[WData.list (ns.map WData.int)]∧h.get? a=some { cls:=.type "list",data:=.seq vs.toArray }∧IntsAre vs ns∧ns.length≤n:=by
 have hsh:WShape.hasAll [] args [.list .int]=true:=(pre_splitW hpre).1
 have hc:l.pre.holds [] { args:=args }=true:=(pre_splitW hpre).2
 obtain ⟨d,r,rfl,h1,h2⟩:=hasAllW_cons hsh
 obtain rfl:=hasAllW_nil h2
 obtain ⟨xs,rfl,h3⟩:=hasW_list h1
 obtain ⟨ns,rfl⟩:=items_int h3
 have hlen:ns.length≤n:=by
  unfold OpenLaw.pre at hc
  have h4:(WTm.not (.lt (.lit (.int (n:Int))) (.len (.arg 0)))).holds [] { args:=[.list (ns.map .int)] }=true:=by
   have h4:=(holds_andW hc).1
   rw [hn] at h4
   exact h4
  have h5:=condW_of h4 (w_not (w_lt w_lit (w_len_list (w_arg rfl))))
  rw [List.length_map] at h5
  refine Nat.le_of_not_lt fun q=>?_
  have q':(n:Int)<((ns.length:Nat):Int):=by trivial
  first
   | (rw [decide_eq_true q'] at h5;exact absurd h5 (by decide))
   | (simp at h5;trivial)
 cases hwl with
 | cons w1 w2=>
  cases w2
  cases w1 with
  | list ho hall=>exact ⟨_,_,ns,rfl,rfl,ho,wC ns _ hall,hlen⟩
theorem DP (l:OpenLaw) (args:List WData):l.row.toRowW.claim.post args (.bool true) args=true:=
 postW_of (r:=l.row.toRowW) (X:=(true==true))
  (show WShape.has [] (.bool true) .bool=true by first | rfl | decide | simp [WShape.has,WShape.arms,WShape.armsAll])
  (show (WTm.eq .res (.lit (.bool true))).value [] { args:=args,res:=some (.bool true),after:=args }=some (.bool (true==true)) from w_eq_bool (w_res rfl) w_lit) rfl
theorem attach_call {l:OpenLaw}{n:Nat}{q:Program}{loose:List Str}{XP:(Str→Option Value)→Heap→Prop}{YP:World→Heap→Prop}{d:DefRec}
 (hn:l.most=some n) (hdf:d.params.defaults=[])
 (call:∀(w:World) (s₀ s₁:Shared) (mg mb:Str→Option Value) (fa:Addr) (o:Obj) (pm cd doc:Value) (a:Addr) (vs:List Value) (ns:List Int),
  Ground q loose [] XP w s₀ mg mb s₁.heap→YP w s₁.heap→
  s₁.heap.get? fa=some o→o.data=.func (docDef d.name d.params d.body d.scope pm cd doc)→s₁.heap.CodeRec cd d.name→mg d.name=some (.ref fa)→
  s₁.heap.get? a=some { cls:=.type "list",data:=.seq vs.toArray }→IntsAre vs ns→ns.length≤n→s₁.gens=#[]→
  codeAny (model l.prog w) callerA (.call (.ref fa) ⟨[.ref a],[]⟩) (fun r s'=>r=.ok (.ret (.bool true))∧OldK s₁.heap s'.heap∧s'.os=s₁.os∧AllBare s'.gens) s₁) :
 WalkO q loose XP YP l.row.toRowW d [] (fun f vs=>PySem.call f vs):=by
 intro w s₀ s₁ mg mb G Y fa o pm cd doc dV kV ho hd hcd hD hmg hg args vals as hpre hlay hrd hwl hlo
 obtain rfl:dV=.none:=Dflts.none hD hdf
 obtain rfl:kV=.none:=Dflts.noKw hD
 obtain ⟨a,vs,ns,rfl,rfl,hobj,hints,hlen⟩:=CZ hn hpre hwl
 refine enter_call (codeAny_mono (call w s₀ s₁ mg mb fa o pm cd doc a vs ns G Y ho (fd_plain hd) hcd hmg hobj hints hlen hg) fun r s' hq=>?_)
 obtain ⟨rfl,h2,h3,h4⟩:=hq
 exact ⟨.inl ⟨.bool true,.bool true,[],rfl,fun _=>rfl,.bool true,DP l _,fun _=>⟨List.Pairwise.nil,fun _ hm=>(nomatch hm)⟩⟩,h2,h3,h4⟩
section
variable {prog:Program}{w:World}{A:Around}{E:Value→Shared→Prop}{s:Shared}{K:Frag}
end
end Att
namespace L2
open PySem PySem.Spec PyProof.Rows
theorem ye:∀{vs:List Value}{ns:List Int},IntsAre vs ns→aA (ns.map V.int) vs
 | _,_,.nil=>.nil
 | _,_,.cons n t h=>.cons ⟨t,rfl⟩ (ye h)
def xF (H:Hp):Prop:=∀b,H b=none∨aZ fun o xs=>H b=some (.frz o (.lst xs))
theorem E2 {P:Program}{w:World}{K:PySem.W.Frag}{mg mb:Str→Option Value}{CX:oh}{k:Nat}{fa a:Addr}{fd:FuncData}{x:Str}{sp:Sp}{s₁:Shared}{vs:List Value}{ns:List Int}
 (KX:K.In s₁.heap) (hns:s₁.heap.Ns mainGlobals mg) (hb:s₁.heap.Ns builtinsNs mb) (hbb:∀x:Str,x≠"__name__"→mb x=bootBuiltins x) (hlim:s₁.heap.NoLimit) (hg:s₁.gens=#[])
 (ha:s₁.heap.get? a=some { cls:=.type "list",data:=.seq vs.toArray }) (hi:IntsAre vs ns) (hl:ns.length≤sizeLine) (hr:gD k callerA)
 (F:∀base:Heap,K.In base→base.Ns mainGlobals mg→aY P w K mg base CX k fa fd [x] sp) (hbind:∀(s:Shared) (u:Value),BindsTo s fd ⟨[u],[]⟩ [(x,u)])
 (hsp:∀H:Hp,xF H→ah K H a (ns.map V.int)→sp [.ref a] H (fun v _=>v=.bl true) fun _ _ _=>False)
 (hCX:∀H e s',CX [] H s₁ (fun _ _ _=>False) e s'→False) :
 codeAny (model P w) callerA (.call (.ref fa) ⟨[.ref a],[]⟩) (fun r s'=>r=.ok (.ret (.bool true))∧OldK s₁.heap s'.heap∧s'.os=s₁.os∧AllBare s'.gens) s₁:=by
 have rv:=ye hi
 have lenV:=hi.length
 have core:∀H:Hp,xF H→ah K H a (ns.map V.int)→gS P w H s₁.heap→(∀b,H b≠none→b=a)→(H a≠none→K.lookup a=none)→
  codeAny (model P w) callerA (.call (.ref fa) ⟨[.ref a],[]⟩) (fun r s'=>r=.ok (.ret (.bool true))∧OldK s₁.heap s'.heap∧s'.os=s₁.os∧AllBare s'.gens) s₁:=by
  intro H hO hS hok hA hK
  have base_of:∀{b:Addr}{o:Obj},s₁.heap.get? b=some o→H b=none→(se s₁.heap H).get? b=some o:=fun e n=>Fp e n
  have noA:∀{b:Addr}{o:Obj}{es:Array DictEntry}{ep:Nat},s₁.heap.get? b=some o→o.data=.dict es ep→H b=none:=fun {b o es ep} e d=>by
   cases q:H b with
   | none=>rfl
   | some u=>
    have e':b=a:=hA b (by rw [q];simp)
    subst e'
    rw [ha] at e;cases e
    have d':Data.seq vs.toArray _=Data.dict es ep:=d
    cases d'
  have nsK:∀{b:Addr}{m:Str→Option Value},s₁.heap.Ns b m→(se s₁.heap H).Ns b m:=fun {b m} ⟨o,es,ep,e,d,r⟩=>⟨o,es,ep,base_of e (noA e d),d,r⟩
  have hKb:K.In (se s₁.heap H):=fun b o e=>base_of (KX b o e) (by
   cases q:H b with
   | none=>rfl
   | some u=>
    have e':b=a:=hA b (by rw [q];simp)
    subst e'
    rw [hK (by rw [q];simp)] at e;cases e)
  have hM:Mod K mg (se s₁.heap H):=⟨hKb,nsK hns,⟨mb,nsK hb,hbb⟩,let ⟨mc,h1,h2⟩:=hlim;⟨mc,nsK h1,h2⟩⟩
  have e0:BM P w K mg (se s₁.heap H) callerA [] s₁ H:=⟨rfl,hM,fun b o e=>GO e,Nat.le_of_eq (Ej _ _),trivial,fun b hb=>absurd (show b∈([]:List Addr) from hb) (by simp),hok,.of_eq hg⟩
  refine codeAny_mono ((F _ hKb (nsK hns)).run callerA [] s₁ H ⟨[.ref a],[]⟩ [.ref a] [.ref a] _ _ hr e0 (hbind s₁ (.ref a)) (.cons rfl .nil) (hsp H hO hS)) fun r s' h=>?_
  cases r with
  | error e=>exact (hCX H e s' h).elim
  | ok fl=>
   cases fl with
   | next=>exact False.elim h
   | brk=>exact False.elim h
   | cont=>exact False.elim h
   | ret u=>
    obtain ⟨v,H',os,bare,un,hok',r',q⟩:=h
    have q':v=.bl true:=q
    subst q'
    obtain rfl:u=Value.bool true:=r'
    refine ⟨rfl,OldK.of_keep fun b o e=>?_,os,bare⟩
    cases q:H b with
    | none=>exact un.keep b o e q (by intro z;exact absurd (show b∈([]:List Addr) from z) (by simp)) (by simp)
    | some u=>
     rcases hO b with z | ⟨ob,xs,z⟩
     ·rw [q] at z;cases z
     ·have z2:=un.frzs b ob _ z
      obtain ⟨e1,_⟩:=hok b _ z
      obtain ⟨e2,_⟩:=hok' b _ z2
      rw [e] at e1;cases e1
      exact e2
 cases hk:K.lookup a with
 | some o=>
  have e:=KX a o hk
  rw [ha] at e
  cases e
  refine core (fun _=>none) (fun _=>.inl rfl) (.inr ⟨_,vs.toArray,_,hk,rfl,rfl,rfl,by rw [List.size_toArray,lenV];exact hl,by simpa using rv⟩) (fun b u z=>by have z':(none:Option HO)=some u:=z;cases z') (fun b z=>absurd rfl z) fun z=>absurd rfl z
 | none=>
  refine core (fun b=>if b=a then some (.frz { cls:=.type "list",data:=.seq vs.toArray } (.lst (ns.map V.int))) else none) (fun b=>?_) (.inl (.inr ⟨{ cls:=.type "list",data:=.seq vs.toArray },if_pos rfl⟩)) (fun b u z=>?_) (fun b z=>?_) fun _=>hk
  ·by_cases hb:b=a
   ·exact .inr ⟨_,_,if_pos hb⟩
   ·exact .inl (if_neg hb)
  ·by_cases hb:b=a
   ·have z':=(if_pos hb).symm.trans z
    cases z'
    subst hb
    exact ⟨ha,by rw [List.length_map];exact hl,vs,_,rv,ha⟩
   ·have z':=(if_neg hb).symm.trans z
    cases z'
  ·by_cases hb:b=a
   ·exact hb
   ·exact absurd (if_neg hb) z
theorem walk_of {l:PySem.W.OpenLaw}{n k:Nat}{q:Program}{loose:List Str}{XP:(Str→Option Value)→Heap→Prop}{YP:World→Heap→Prop}{d:DefRec}{K:Params→PySem.W.Frag}{CX:World→oh}{sp:World→Sp}{x:Str}
 (hn:l.most=some n) (hn2:n≤sizeLine) (hdf:d.params.defaults=[]) (hr:gD k callerA)
 (hY:∀(w:World) (h:Heap),YP w h→(K w.params).In h)
 (F:∀(w:World) (mg:Str→Option Value) (fa:Addr) (h:Heap),(K w.params).In h→h.Ns mainGlobals mg→mg d.name=some (.ref fa)→
  ∃fd:FuncData,(∀(s:Shared) (u:Value),BindsTo s fd ⟨[u],[]⟩ [(x,u)])∧
   ∀base:Heap,(K w.params).In base→base.Ns mainGlobals mg→aY l.prog w (K w.params) mg base (CX w) k fa fd [x] (sp w))
 (hsp:∀(w:World) (H:Hp) (a:Addr) (ns:List Int),ns.length≤n→xF H→ah (K w.params) H a (ns.map V.int)→sp w [.ref a] H (fun v _=>v=.bl true) fun _ _ _=>False)
 (hCX:∀(w:World) (H:Hp) (s:Shared) (e:Value) (s':Shared),CX w [] H s (fun _ _ _=>False) e s'→False) :
 PySem.W.WalkO q loose XP YP l.row.toRowW d [] (fun f vs=>PySem.call f vs):=by
 refine Att.attach_call hn hdf fun w s₀ s₁ mg mb fa o pm cd doc a vs ns G Y ho hd hcd hmg hobj hints hlen hg=>?_
 have KX:=hY w _ Y
 obtain ⟨fd,hb,hF⟩:=F w mg fa _ KX G.T.g hmg
 exact E2 KX G.T.g G.T.b G.T.builtins G.T.nolimit hg hobj hints (Nat.le_trans hlen hn2) hr hF hb (fun H hO hS=>hsp w H a ns hlen hO hS) fun H e s'=>hCX w H s₁ e s'
theorem EN {l:PySem.W.OpenLaw}{n k:Nat}{q:Program}{loose:List Str}{XP:(Str→Option Value)→Heap→Prop}{YP:World→Heap→Prop}{d:DefRec}{K:Params→PySem.W.Frag}{CX:oh}{sp:PySem.W.Frag→Sp}{x:Str}
 (hn:l.most=some n) (hn2:n≤sizeLine) (hdf:d.params.defaults=[]) (hr:gD k callerA)
 (hY:∀(w:World) (h:Heap),YP w h→(K w.params).In h)
 (F:∀(w:World) (mg:Str→Option Value) (fa:Addr) (h:Heap),(K w.params).In h→h.Ns mainGlobals mg→mg d.name=some (.ref fa)→
  ∃fd:FuncData,(∀(s:Shared) (u:Value),BindsTo s fd ⟨[u],[]⟩ [(x,u)])∧
   ∀base:Heap,(K w.params).In base→base.Ns mainGlobals mg→aY l.prog w (K w.params) mg base CX k fa fd [x] (sp (K w.params)))
 (hsp:∀(K:PySem.W.Frag) (H:Hp) (a:Addr) (ns:List Int),ns.length≤n→xF H→ah K H a (ns.map V.int)→sp K [.ref a] H (fun v _=>v=.bl true) fun _ _ _=>False)
 (hCX:∀(H:Hp) (s:Shared) (e:Value) (s':Shared),CX [] H s (fun _ _ _=>False) e s'→False) :
 PySem.W.WalkO q loose XP YP l.row.toRowW d [] (fun f vs=>PySem.call f vs):=
 walk_of (K:=K) (CX:=fun _=>CX) (sp:=fun w=>sp (K w.params)) hn hn2 hdf hr hY F (fun w H a ns h1 h2 h3=>hsp (K w.params) H a ns h1 h2 h3) fun _ H s e s'=>hCX H s e s'
end L2
/- THE LAST THEOREM (shape; LID, My.* are yours):
 My.Adr: a structure of the addresses that your layer names (classes, functions); My.Txt K t: a structure (Prop) of the equations over K;
 My.txt_mk : {K} {implicit addresses ..} (e1 : nsIn K mainGlobals "law" = some (some (.ref f))) (e2 : K.lookup f = some ⟨oc, od, .func (fnOf "law" "law" params body scope dV kV doc pm an cdv ct), sl⟩) (e3 : codeIn K cdv "law" = true) .. : ∃ t, My.Txt K t
set_option maxRecDepth 100000 in
set_option maxHeartbeats 0 in
theorem PySem.Challenge.cw_LID_holds : PySem.Challenge.rw_LID.Holds := by
 w_on; o_law; k_head; (case hw => w_witness2)
 k_fill
 refine L2.walk_of (l := PySem.Challenge.rw_LID) (n := 63) (k := 40) (x := "script") (CX := fun w => ..) (sp := fun _ => My.sp_law) rfl (by decide) rfl ⟨rfl, by decide, by decide⟩ (fun w h Y => PySem.W.kIn_of Y) ?F ?S ?C
 case F =>
  intro w mg fa h KX G hmg
  have T : ∃ t, My.Txt (L2.KOf KX) t := by
   dsimp only [L2.KOf]                          -- K must stand as «<heap const> w.params» for k_is
   refine' My.txt_mk ?e1 ?e2 ?e3 ..
   (case e1 => PySem.W.k_is)                    -- in the order: a name -> its address -> its object -> its parts
   (case e2 => PySem.W.k_is)
   ..
  obtain ⟨t, T⟩ := T
  have e0 := hmg.symm.trans (PySem.W.mg_of KX G T.law)
  cases e0                                       -- fa is the law's own address
  exact ⟨_, fun s u => .of_eq rfl, fun base kb nb => My.law_fn T kb nb⟩     -- if «.of_eq rfl» comes too early: refine' ⟨_, ?b, fun base kb nb => My.law_fn T kb nb⟩; exact fun s u => .of_eq rfl
 case S => exact fun w H a ns hl hO hS => ..
 case C => exact ..
(the tactic k_is has no namespace: write k_is) -/
namespace L2
open PySem PySem.Spec PyProof.Rows
def xB (s:Stmt):Arguments:=match s with
 | .FunctionDef _ a _ _ _ _ _ _ _ _=>a
 | _=>{ posonlyargs:=[],args:=[],vararg:=none,kwonlyargs:=[],kw_defaults:=[],kwarg:=none,defaults:=[] }
def uF (s:Stmt):List Stmt:=match s with
 | .FunctionDef _ _ b _ _ _ _ _ _ _=>b
 | _=>[]
def av (s:Stmt):Scope:=match s with
 | .FunctionDef _ _ _ _ _ _ sc _ _ _=>sc
 | _=>{ kind:=.function,names:=[],isGenerator:=false,isCoroutine:=false }
abbrev CX0:oh:=fun _ _ _ _ _ _=>False
abbrev E0:XK:=fun _ _ _=>False
theorem Fx {X:Cx}:Aj CX0 X E0:=fun _ _ _ _ _ _ _ h=>h.elim
structure Ae (K:PySem.W.Frag) (x qual:Str) (st:Stmt) (f:Addr) (fd:FuncData):Prop where
 ex:IH fun (oc:Value) (od:Option Addr) (kV doc pm:Value) (an:Option Addr) (cdv ct:Value) (osl:Array (Option Value))=>
  fd=PySem.W.fnOf x qual (xB st) (uF st) (av st) .none kV doc pm an cdv ct∧K.lookup f=some ⟨oc,od,.func fd,osl⟩∧PySem.W.codeIn K cdv qual=true
 kp:PySem.W.keepIn K (.ref f)=true
section
variable {P:Program}{w:World}{K:PySem.W.Frag}{mg:Str→Option Value}{base:Heap}
theorem Ae.ok {x qual:Str}{st:Stmt}{f:Addr}{fd:FuncData}{N ps:List Str}{k:Nat}{sp:Sp} (F:Ae K x qual st f fd) (S:aD N ps (av st)) (len:∀vs H Q E,sp vs H Q E→vs.length=ps.length)
 (hbody:∀(cdv:Value) (A:Around) (outer:List Env) (s:Shared) (H:Hp) (vs:List V) (Q:VK) (E:XK),gD k (A.deeper (envOfC qual (av st) s.heap.objs.size f cdv))→sp vs H Q E→
  ∃t,qj (xZ CX0 P w K mg base N qual (av st) f cdv A outer s H E).nox (uF st) t∧t { nx:=fun _ H'=>Q .non H',rt:=Q } (pd N vs) H):aY P w K mg base CX0 (k+1) f fd ps sp:=by
 obtain ⟨oc,od,kV,doc,pm,an,cdv,ct,osl,rfl,lk,hcd⟩:=F.ex
 refine Kv lk hcd S len fun A outer s H vs Q E hr hsp=>?_
 obtain ⟨t,h,q⟩:=hbody cdv A outer s H vs Q E hr hsp
 exact ⟨t,h.nox,q⟩
theorem Ae.binds {x qual:Str}{st:Stmt}{f:Addr}{fd:FuncData}{ps:List Str} (F:Ae K x qual st f fd)
 (h:∀(kV doc pm:Value) (an:Option Addr) (cdv ct:Value) (us:List Value),us.length=ps.length→bindArgs (PySem.W.fnOf x qual (xB st) (uF st) (av st) .none kV doc pm an cdv ct) ⟨us,[]⟩=pure (ps.zip us)):uL K fd ps []:=by
 obtain ⟨oc,od,kV,doc,pm,an,cdv,ct,osl,rfl,lk,hcd⟩:=F.ex
 exact .all (h kV doc pm an cdv ct)
end
section
variable {X:Cx}
theorem pv (i:Nat) {x:Str}{pos:Pos} (hN:X.N[i]?=some x:=by rfl) (hv:CF X.env.scope x:=by first | exact Or.inl rfl | exact Or.inr (Or.inl rfl) | exact Or.inr (Or.inr rfl)) (hd:(x==("__debug__" : Str))=false:=by decide)
 (hcd:(x==("__classdict__" : Str))=false:=by decide):PE X (.Name x pos) (vU i):=DN hN hv hd hcd
end
theorem aR {A B:Prop} (h:B):if false=true then A else B:=by
 rw [if_neg Bool.false_ne_true]
 exact h
theorem bF {A B:Prop} (h:A):if true=true then A else B:=by
 rw [if_pos rfl]
 exact h
theorem eV {c A B:Prop} [Decidable c] (h1:c→A) (h2:¬c→B):if c then A else B:=by
 by_cases h:c
 ·rw [if_pos h]
  exact h1 h
 ·rw [if_neg h]
  exact h2 h
def ad (H H':Hp):Prop:=∀b o,H b=some o→H' b=some o
theorem ad.refl (H:Hp):ad H H:=fun _ _ h=>h
theorem ad.trans {H H1 H2:Hp} (a:ad H H1) (b:ad H1 H2):ad H H2:=fun c o h=>b c o (a c o h)
theorem ad.free {H H':Hp} (e:ad H H') {l:Addr} (h:H' l=Option.none):H l=Option.none:=by
 cases q:H l with
 | none=>rfl
 | some o=>
  rw [e l o q] at h
  cases h
theorem ad.seq {K:PySem.W.Frag}{H H':Hp}{a:Addr}{xs:List V} (e:ad H H') (h:ah K H a xs):ah K H' a xs:=by
 rcases h with (h | ⟨o,h⟩) | h
 ·exact .inl (.inl (e _ _ h))
 ·exact .inl (.inr ⟨o,e _ _ h⟩)
 ·exact .inr h
end L2
namespace L2
open PySem
theorem xw {scope:Scope}{env:Env} (h:∀y∈scope.names,y.2=.free→∃c,env.cells.lookup y.1=some c) :
 ∃cl,closureFor scope env=pure cl∧(∀x c,cl.lookup x=some c→env.cells.lookup x=some c)∧(∀y∈scope.names,y.2=.free→∃c,cl.lookup y.1=some c):=by
 have go:∀(names:List (Str×NameKind)) (acc:List (Str×Addr)),(∀y∈names,y.2=.free→∃c,env.cells.lookup y.1=some c)→(∀x c,acc.lookup x=some c→env.cells.lookup x=some c)→
  ∃cl,(forIn names acc (fun (x:Str×NameKind) (cs:List (Str×Addr))=>match x with
   | (name,kind)=>if (kind==.free)=true then (do let a ←cellOf env name;pure (ForInStep.yield ((name,a) :: cs))) else pure (ForInStep.yield cs)):Sem (List (Str×Addr)))=pure cl∧
   (∀x c,cl.lookup x=some c→env.cells.lookup x=some c)∧(∀y∈names,y.2=.free→∃c,cl.lookup y.1=some c)∧(∀x c,acc.lookup x=some c→∃c',cl.lookup x=some c'):=by
  intro names
  induction names with
  | nil=>intro acc _ ha;exact ⟨acc,rfl,ha,fun y hy=>(by cases hy),fun x c e=>⟨c,e⟩⟩
  | cons x r ih=>
   intro acc hn ha
   obtain ⟨name,kind⟩:=x
   rw [List.forIn_cons]
   by_cases hk:kind=.free
   ·subst hk
    obtain ⟨c,hc⟩:=hn (name,.free) List.mem_cons_self rfl
    have e:cellOf env name=pure c:=by unfold cellOf;rw [hc]
    obtain ⟨cl,e1,e2,e3,e4⟩:=ih ((name,c) :: acc) (fun y hy=>hn y (List.mem_cons_of_mem _ hy)) (fun x c' hx=>by
     rw [List.lookup_cons] at hx
     split at hx
     ·rename_i hb
      have:x=name:=by simpa using hb
      subst this
      cases hx;exact hc
     ·exact ha x c' hx)
    refine ⟨cl,?_,e2,fun y hy hf=>?_,fun x c' hx=>?_⟩
    ·simp only [beq_self_eq_true,if_true]
     rw [e,pure_bind,pure_bind]
     exact e1
    ·rcases List.mem_cons.mp hy with rfl | hy
     ·exact e4 name c (by simp)
     ·exact e3 y hy hf
    ·by_cases hb:(x==name)=true
     ·have:x=name:=by simpa using hb
      subst this
      exact e4 x c (by simp)
     ·exact e4 x c' (by rw [List.lookup_cons];simp only [Bool.not_eq_true] at hb;rw [hb];exact hx)
   ·have hb:(kind==NameKind.free)=false:=by simpa using hk
    obtain ⟨cl,e1,e2,e3,e4⟩:=ih acc (fun y hy=>hn y (List.mem_cons_of_mem _ hy)) ha
    refine ⟨cl,?_,e2,fun y hy hf=>?_,e4⟩
    ·simp only [hb,Bool.false_eq_true,if_false]
     rw [pure_bind]
     exact e1
    ·rcases List.mem_cons.mp hy with rfl | hy
     ·exact absurd hf hk
     ·exact e3 y hy hf
 obtain ⟨cl,e1,e2,e3,_⟩:=go scope.names [] h (fun x c e=>by simp at e)
 refine ⟨cl,?_,e2,e3⟩
 unfold closureFor
 show (forIn scope.names _ _ >>= fun cs=>pure cs)=_
 rw [bind_pure]
 exact e1
section
variable {prog:Program}{w:World}{A:Around}{R:Result→Shared→Prop}{s:Shared}
theorem Ak {elt target iter:Expr}{ifs:List Expr}{scope:Scope}{pos:Pos}{it acc:Value}{env:Env} (I:Nat→Shared→Prop)
 (turn:∀n s,I n s→wpAny (model prog w) A (pyNext it) (fun r s₁=>match r with
  | none=>R (.ok .next) s₁
  | some v=>wpAny (model prog w) A (letOwnedTupleGo target it v) (fun _ s₁'=>wpAny (model prog w) A (assign target env v) (fun _ s₂=>
   wpAny (model prog w) A (forIn ifs true fun c r=>if r=true then do let ok ←isTrue c env (eval c env);pure (ForInStep.yield ok) else pure (ForInStep.yield r)) (fun ok s₃=>
    if ok=true then wpAny (model prog w) A (eval elt env) (fun x s₄=>
     wpAny (model prog w) A (call (.builtin "list.append") [acc,x]) (fun _ s₅=>∃m,m<n∧I m s₅) (fun _ _=>False) s₄) (fun _ _=>False) s₃
    else ∃m,m<n∧I m s₃) (fun _ _=>False) s₂) (fun _ _=>False) s₁') (fun _ _=>False) s₁) (fun _ _=>False) s)
 (n:Nat) (h:I n s) :
 codeAny (model prog w) A (.compLoop (.ListComp elt [⟨target,iter,ifs,0⟩] scope pos) 0 it acc env) R s:=by
 refine codeAny_loop rfl I (fun n s hI=>?_) n h
 show wpAny _ A ((compTurn (.ListComp elt [⟨target,iter,ifs,0⟩] scope pos) 0 it acc env).onRaise (fun x=>do noteFrame x env;theTreesLotGoes x)) _ _ s
 refine wpAny_noted ?_
 rw [compTurn_list]
 refine wpAny_bind (wpAny_standAt (wpAny_bind (wpAny_mono (turn n s hI) (fun r s₁ h₁=>?_) fun _ _ h'=>h'.elim)))
 cases r with
 | none=>exact wpAny_pure h₁
 | some v=>
  refine wpAny_bind (wpAny_mono h₁ (fun _ s₁' h₁'=>?_) fun _ _ h'=>h'.elim)
  refine wpAny_bind (wpAny_mono h₁' (fun _ s₂ h₂=>wpAny_bind (wpAny_mono h₂ (fun ok s₃ h₃=>?_) fun _ _ h'=>h'.elim)) fun _ _ h'=>h'.elim)
  cases ok with
  | false=>exact wpAny_pure ⟨rfl,h₃⟩
  | true=>
   exact wpAny_bind (wpAny_bind (wpAny_mono h₃ (fun x s₄ h₄=>wpAny_bind (wpAny_mono h₄ (fun _ s₅ h₅=>wpAny_pure (wpAny_pure ⟨rfl,h₅⟩)) fun _ _ h'=>h'.elim)) fun _ _ h'=>h'.elim))
end
end L2
namespace L2
open PySem PySem.Spec PyProof.Rows
section
variable {X:Cx}
theorem Ap:dj X (.builtin "isinstance") (fun xs H Q=>tQ fun x T t b=>xs=[x,.ty T]∧jU X.K H x t∧PySem.W.kitOne X.K t (.type T)=some b∧Q (.bl b) H):=by
 intro pins s σ H xs us Q I r h
 obtain ⟨x,T,t,b,rfl,ty,e,q⟩:=h
 obtain ⟨u,c,rfl,ru,rc⟩:=r.two
 obtain rfl:c=Value.type T:=rc
 exact Dk I ru ty e fun tk=>⟨.bl b,H,I.tok tk,rfl,q⟩
end
def bY (X:Cx) (scope:Scope) (cl:List (Str×Addr)) (C:Addr) (N':List Str) (s:Shared) (H:Hp) (ex:List Addr) (pn:List (Addr×Obj)):Cx:=
 { X with N:=N',s₀:=s,H₀:=H,env:=compEnvC scope cl C X.env,outer:=X.stack,ex:=ex,fn:=fun _=>false,pn:=pn,xe:=fun _ _=>False }
def i7 (L:Nat) (src:List Nat) (σ:St):St:=List.replicate L none++src.map fun j=>(σ[j]?).join
def kQ (σ σ':St):Prop:=σ'.length=σ.length∧∀(i:Nat) v,σ[i]?=some (some v)→σ'[i]?=some (some v)
theorem di {x:V}{r:St}:kQ (none :: r) (some x :: r):=⟨rfl,fun i v e=>by
 cases i with
 | zero=>simp at e
 | succ i=>simpa using e⟩
def rf (X:Cx) (ifs:List Expr) (t:TT):Prop:=
 ∀(pins:List (Addr×Obj)) (s:Shared) (σ:St) (H:Hp) (Q:Bool→Hp→Prop),af X pins σ H s→t σ H Q→
   wpAny (model X.prog X.w) X.A (forIn ifs true fun c r=>if r=true then do let ok ←isTrue c X.env (eval c X.env);pure (ForInStep.yield ok) else pure (ForInStep.yield r)) (TP X pins σ Q) X.xe s
def tT:TT:=fun _ H Q=>Q true H
theorem cH {X:Cx}:rf X [] tT:=fun _ _ _ H _ I h=>wpAny_pure ⟨H,I,h⟩
theorem lh {X:Cx}{c:Expr}{t:TT} (hc:PT X c t):rf X [c] t:=by
 intro pins s σ H Q I h
 rw [List.forIn_cons]
 refine wpAny_bind ?_
 rw [if_pos rfl]
 exact wpAny_bind (aO (hc pins s σ H Q I h) fun b s1 q=>wpAny_pure (wpAny_pure q))
def ql (esc:Scope) (N:List Str) (scope:Scope) (N':List Str) (L:Nat) (src:List Nat):Bool:=
 (scope.kind==.function) && scope.names.all (fun y=>y.2 != .cell && (y.2 != .local || scope.names.lookup y.1==some .local) && (y.2 != .free || esc.names.lookup y.1==some .cell || esc.names.lookup y.1==some .free)) &&
  (N'.length==L+src.length) && (List.range src.length).all fun i=>match src[i]?,N'[L+i]? with
   | some j,some x=>(N[j]?==some x) && (scope.names.lookup x==some .free)
   | _,_=>false
structure zL (esc:Scope) (N:List Str) (scope:Scope) (N':List Str) (L:Nat) (src:List Nat):Prop where
 kind:scope.kind=.function
 nocell:∀y∈scope.names,y.2≠.cell
 loc:∀y∈scope.names,y.2=.local→scope.names.lookup y.1=some .local
 free:∀y∈scope.names,y.2=.free→esc.names.lookup y.1=some .cell∨esc.names.lookup y.1=some .free
 len:N'.length=L+src.length
 frees:∀(i j:Nat),src[i]?=some j→∃x,N'[L+i]?=some x∧N[j]?=some x∧scope.names.lookup x=some .free
theorem tU {esc:Scope}{N:List Str}{scope:Scope}{N':List Str}{L:Nat}{src:List Nat} (h:ql esc N scope N' L src=true):zL esc N scope N' L src:=by
 unfold ql at h
 simp only [Bool.and_eq_true,List.all_eq_true] at h
 obtain ⟨⟨⟨h1,h2⟩,h3⟩,h4⟩:=h
 refine ⟨by simpa using h1,fun y hy=>?_,fun y hy e=>?_,fun y hy e=>?_,by simpa using h3,fun i j e=>?_⟩
 ·have:=(h2 y hy).1.1
  simpa using this
 ·have:=(h2 y hy).1.2
  rw [e] at this
  simpa using this
 ·have:=(h2 y hy).2
  rw [e] at this
  simpa using this
 ·have hi:i<src.length:=(List.getElem?_eq_some_iff.mp e).1
  have:=h4 i (List.mem_range.mpr hi)
  rw [e] at this
  cases q:N'[L+i]? with
  | none=>rw [q] at this;simp at this
  | some x=>
   rw [q] at this
   simp only [Bool.and_eq_true,beq_iff_eq] at this
   exact ⟨x,rfl,this.1,this.2⟩
def uM (J:It) (σc:St) (g:TG) (tt:TT) (te:TE) (D:Addr) (H1:Hp) (Q:VK):Prop:=
 ∃W:Nat→Nat→Hp→List V→Prop,(∃m,W 0 m (aN H1 D (.lst [])) [])∧∀i m H ys,W i m H ys→H D=some (.lst ys)∧
  ((J.stop i H∧Q (.ref D) H)∨(J.go i H∧ys.length<sizeLine∧∃N:Hp→List V→Prop,(∀H' ys',N H' ys'→∃m',m'<m∧W (i+1) m' H' ys')∧
    ∀x H',J.yld i H x H'→g x σc H' fun σ2 H2=>kQ σc σ2∧tt σ2 H2 fun b H3=>if b=true then te σ2 H3 fun y H4=>H4 D=some (.lst ys)∧N (aN H4 D (.lst (ys++[y]))) (ys++[y]) else N H3 ys))
def Cj (wi:TI) (L:Nat) (src:List Nat) (g:TG) (tt:TT) (te:TE):TE:=fun σ H Q=>wi σ H fun J H1=>∀D,H1 D=none→uM J (i7 L src σ) g tt te D H1 Q
section
variable {X:Cx}{elt tg iter:Expr}{ifs:List Expr}{scope:Scope}{pos:Pos}{N':List Str}{L:Nat}{src:List Nat}{wi:TI}{g:TG}{tt:TT}{te:TE}
theorem zD (hc:X.calm=true) (ck:zL X.env.scope X.N scope N' L src) {cl:List (Str×Addr)}{pins:List (Addr×Obj)}{s:Shared}{σ:St}{H:Hp}{Q:VK} (I:af X pins σ H s)
 (hsub:∀x c,cl.lookup x=some c→X.env.cells.lookup x=some c) (hhas:∀y∈scope.names,y.2=.free→∃c,cl.lookup y.1=some c)
 (hi:PI X tg iter wi) (hg:∀cl C s H ex pn,PG (bY X scope cl C N' s H ex pn) tg g) (hif:∀cl C s H ex pn,rf (bY X scope cl C N' s H ex pn) ifs tt)
 (he:∀cl C s H ex pn,PE (bY X scope cl C N' s H ex pn) elt te) (h:Cj wi L src g tt te σ H Q) {RR:Value→Addr→Result→Shared→Prop}
 (hRR:∀D C H' f s' m,af X pins σ H' s'→s'.heap.Ns C m→kB X pins H' C→Q (.ref D) H'→RR (.ref D) C (.ok f) s') :
 wpAny (model X.prog X.w) X.A (eval iter X.env) (fun x s₁=>wpAny (model X.prog X.w) X.A (pyIter x) (fun it s₂=>wpAny (model X.prog X.w) X.A (newList []) (fun acc s₃=>
  wpAny (model X.prog X.w) X.A (newFunctionEnv scope X.env.globals cl [] X.env.qual none .none (some X.env)) (fun cenv s₄=>
   codeAny (model X.prog X.w) X.A (.compStart (.ListComp elt [⟨tg,iter,ifs,0⟩] scope pos) 0 it acc { cenv with scope:=relabel scope X.env }) (RR acc cenv.locals) s₄) X.xe s₃) X.xe s₂) X.xe s₁) X.xe s:=by
 refine aO (hi pins s σ H _ I h) fun v s1 h1=>aO h1 fun itv s2 h2=>?_
 obtain ⟨it,fp,tn,J,H2,e,I2,T,st2,f2,q⟩:=h2
 subst e
 refine wpAny_newObj_type (wpAny_newFunctionEnv ck.nocell (by intro y hy;simp at hy) (fun h₁ hns₁ hsb₁=>?_) ck.kind)
 dsimp only at hns₁ hsb₁ ⊢
 generalize hH2:s2.heap.push { cls:=.type "list",dict:=none,data:=.seq ([]:List Value).toArray }=hp2 at hns₁ hsb₁ ⊢
 have hC:hp2.objs.size=s2.heap.objs.size+1:=by rw [←hH2,Heap.size_push]
 have hDC:s2.heap.objs.size≠hp2.objs.size:=by rw [hC];exact Nat.ne_of_lt (Nat.lt_succ_self _)
 have hCle:s2.heap.objs.size≤hp2.objs.size:=by rw [hC];exact Nat.le_succ _
 have below:∀b,b<s2.heap.objs.size→b≠hp2.objs.size∧b≠s2.heap.objs.size:=fun b hb=>⟨by rw [hC];exact Nat.ne_of_lt (Nat.lt_succ_of_lt hb),Nat.ne_of_lt hb⟩
 have old:∀b o,s2.heap.get? b=some o→h₁.get? b=some o:=fun b o e=>hsb₁.extBut b o (below b (Heap.lt_size e)).1 (Heap.get?_push_of_some _ (hH2▸Heap.get?_push_of_some _ e))
 have hacc:h₁.get? s2.heap.objs.size=some { cls:=.type "list",dict:=none,data:=.seq ([]:List Value).toArray }:=hsb₁.extBut _ _ hDC (Heap.get?_push_of_some _ (hH2▸Heap.get?_push_size _ rfl))
 have hDn:H2 s2.heap.objs.size=none:=I2.fresh
 obtain ⟨W,⟨m0,w0⟩,turn⟩:=q _ hDn
 have fpo:∀b∈fp,∃o,s2.heap.get? b=some o∧∀v,o.data≠.cell v:=T.obj _ _ st2
 have fplt:∀b∈fp,b<s2.heap.objs.size:=fun b hb=>by obtain ⟨o,e,_⟩:=fpo b hb;exact Heap.lt_size e
 have hfrs:∀b∈fp,b∉qt X.stack:=fun b hb z=>by
  rcases List.mem_cons.mp (I2.stkSub b z) with z' | z'
  ·exact (f2 b hb).2.1 z'
  ·exact (f2 b hb).2.2.1 z'
 generalize hX:bY X scope cl hp2.objs.size N' s2 H2 fp (X.pn++pins)=X'
 have ok':X'.Ok:=by
  subst hX
  refine ⟨I2.ok.mod,ck.kind,I2.ok.glob,I2.ok.blt,hCle,fun x y c e1 e2=>I2.ok.inj x y c (hsub _ _ e1) (hsub _ _ e2),fun x hx=>?_,fun x c z _=>(by cases z),I2.ok.hd,I2.ok.frames,.inl rfl,fun b hb=>⟨(below b (fplt b hb)).1,fun x c e=>(f2 b hb).2.2.2.2.1 x c (hsub _ _ e)⟩,
   I2.bs,Nat.le_trans I2.ok.bsz I2.sz,fun b o e hb=>?_,hfrs,I2.stack,I2.stkFree⟩
  ·-- a name that is a cell or free
   have hx':(relabel scope X.env).names.lookup x=some .cell∨(relabel scope X.env).names.lookup x=some .free:=hx
   have key:∀(names:List (Str×NameKind)),(∀y∈names,y.2≠.cell)→
    ((names.map fun (n,k)=>if (k==NameKind.free && X.env.scope.kind==.function && X.env.kindOf n==some .cell) then (n,NameKind.cell) else (n,k)).lookup x=some .cell∨
     (names.map fun (n,k)=>if (k==NameKind.free && X.env.scope.kind==.function && X.env.kindOf n==some .cell) then (n,NameKind.cell) else (n,k)).lookup x=some .free)→∃y∈names,y.1=x∧y.2=.free:=by
    intro names
    induction names with
    | nil=>intro _ h;rcases h with h | h <;> simp at h
    | cons y r ih=>
     intro hn h
     obtain ⟨n,k⟩:=y
     by_cases hb:x=n
     ·subst hb
      refine ⟨(x,k),List.mem_cons_self,rfl,?_⟩
      by_cases hk:k=.free
      ·exact hk
      ·exfalso
       have hkb:(k==NameKind.free)=false:=by simpa using hk
       have hnc:k≠.cell:=hn (x,k) List.mem_cons_self
       simp only [List.map_cons,hkb,Bool.false_and,Bool.false_eq_true,if_false,List.lookup_cons,beq_self_eq_true,if_true] at h
       rcases h with h | h
       ·exact hnc (Option.some.inj h)
       ·exact hk (Option.some.inj h)
     ·have hb':(x==n)=false:=by simpa using hb
      have h':((r.map fun (n,k)=>if (k==NameKind.free && X.env.scope.kind==.function && X.env.kindOf n==some .cell) then (n,NameKind.cell) else (n,k)).lookup x=some .cell∨
       (r.map fun (n,k)=>if (k==NameKind.free && X.env.scope.kind==.function && X.env.kindOf n==some .cell) then (n,NameKind.cell) else (n,k)).lookup x=some .free):=by
       rw [List.map_cons] at h
       dsimp only at h
       by_cases hcnd:(k==NameKind.free && X.env.scope.kind==.function && X.env.kindOf n==some .cell)=true
       ·rw [if_pos hcnd] at h
        simpa only [List.lookup_cons,hb'] using h
       ·rw [if_neg hcnd] at h
        simpa only [List.lookup_cons,hb'] using h
      obtain ⟨y,hy,e1,e2⟩:=ih (fun y hy=>hn y (List.mem_cons_of_mem _ hy)) h'
      exact ⟨y,List.mem_cons_of_mem _ hy,e1,e2⟩
   obtain ⟨y,hy,e1,e2⟩:=key scope.names ck.nocell hx'
   obtain ⟨c,hc'⟩:=hhas y hy e2
   exact ⟨c,e1▸hc'⟩
  ·rcases (f2 b hb).2.2.2.1 with z | z
   ·exact I2.ok.noex b o e z
   ·exact absurd (Nat.lt_of_lt_of_le (Heap.lt_size e) (Nat.le_trans I2.ok.bsz z)) (Nat.lt_irrefl _)
 have stat:∀{H':Hp},(∀b∈fp,H' b=none)→∀b∈fp,kB X' [] H' b:=by
  subst hX
  intro H' hn b hb
  refine ⟨hn b hb,(below b (fplt b hb)).1,hfrs b hb,.inl hb,fun x c e=>(f2 b hb).2.2.2.2.1 x c (hsub _ _ e),fun p hp=>?_⟩
  have hp':p∈X.pn++pins:=by simpa [bY] using hp
  exact (f2 b hb).2.2.2.2.2 p hp'
 have I1:af X' [] (i7 L src σ) (aN H2 s2.heap.objs.size (.lst [])) { s2 with heap:=h₁,toks:=s2.toks+([]:List (Str×Value)).length }:=by
  subst hX
  have up:∀b o,H2 b=some o→aN H2 s2.heap.objs.size (.lst []) b=some o:=fun b o e=>by rw [aE (aS e hDn)];exact e
  have upn:∀b,b<s2.heap.objs.size→H2 b=none→aN H2 s2.heap.objs.size (.lst []) b=none:=fun b hb e=>by rw [aE (Nat.ne_of_lt hb)];exact e
  refine ⟨ok',rfl,I2.bare,Un.laid old (Nat.le_refl _) hDn,⟨_,hns₁,fun i x v e1 e2 e3=>?_⟩,fun x c e=>?_,?_,fun x c e=>?_,fun p hp=>?_,I2.hok.laid old (Nat.le_refl _) ⟨Nat.zero_le _,[],0,.nil,hacc⟩,?_⟩
  ·-- the names of the def around
   have hiL:L≤i:=by
    by_cases hlt:i<L
    ·exfalso
     unfold i7 at e2
     rw [List.getElem?_append_left (by simpa using hlt),List.getElem?_replicate,if_pos hlt] at e2
     cases e2
    ·trivial
   have e2':(src.map fun j=>(σ[j]?).join)[i - L]?=some (some v):=by
    unfold i7 at e2
    rw [List.getElem?_append_right (by simpa using hiL),List.length_replicate] at e2
    exact e2
   rw [List.getElem?_map] at e2'
   cases hj:src[i - L]? with
   | none=>rw [hj] at e2';cases e2'
   | some j=>
    rw [hj] at e2'
    have e3':(σ[j]?).join=some v:=Option.some.inj e2'
    have hσ:σ[j]?=some (some v):=by
     cases q:σ[j]? with
     | none=>rw [q] at e3';cases e3'
     | some o=>rw [q] at e3';exact congrArg some e3'
    obtain ⟨x',g1,g2,g3⟩:=ck.frees (i - L) j hj
    have:L+(i - L)=i:=by trivial
    rw [this] at g1
    have ex:x'=x:=Option.some.inj (g1.symm.trans e1)
    subst ex
    have hfree:=ck.free _ (PySem.mem_of_lookup g3) rfl
    obtain ⟨m,hn,hl⟩:=I2.loc
    obtain ⟨u,r,l⟩:=hl j x' v g2 hσ (hfree.elim (fun z=>.inr (.inl z)) fun z=>.inr (.inr z))
    refine ⟨u,r,.inr ⟨?_,?_⟩⟩
    ·-- its kind in the block
     have key:∀(names:List (Str×NameKind)),names.lookup x'=some .free→
      ((names.map fun (n,k)=>if (k==NameKind.free && X.env.scope.kind==.function && X.env.kindOf n==some .cell) then (n,NameKind.cell) else (n,k)).lookup x'=some .cell∨
       (names.map fun (n,k)=>if (k==NameKind.free && X.env.scope.kind==.function && X.env.kindOf n==some .cell) then (n,NameKind.cell) else (n,k)).lookup x'=some .free):=by
      intro names
      induction names with
      | nil=>intro h;simp at h
      | cons y r ih=>
       intro h
       obtain ⟨n,k⟩:=y
       by_cases hb:x'=n
       ·subst hb
        simp only [List.lookup_cons,beq_self_eq_true,if_true] at h
        have hk:k=.free:=Option.some.inj h
        subst hk
        rw [List.map_cons]
        dsimp only
        by_cases hcnd:(NameKind.free==NameKind.free && X.env.scope.kind==.function && X.env.kindOf x'==some .cell)=true
        ·rw [if_pos hcnd];left;simp [List.lookup_cons]
        ·rw [if_neg hcnd];right;simp [List.lookup_cons]
       ·have hb':(x'==n)=false:=by simpa using hb
        have h':=ih (by simpa only [List.lookup_cons,hb'] using h)
        rw [List.map_cons]
        dsimp only
        by_cases hcnd:(k==NameKind.free && X.env.scope.kind==.function && X.env.kindOf n==some .cell)=true
        ·rw [if_pos hcnd];simpa only [List.lookup_cons,hb'] using h'
        ·rw [if_neg hcnd];simpa only [List.lookup_cons,hb'] using h'
     exact key scope.names g3
    ·obtain ⟨c,hcl⟩:=hhas _ (PySem.mem_of_lookup g3) rfl
     have hcx:=hsub _ _ hcl
     rcases l with ⟨k1,_⟩ | ⟨_,c',e4,z⟩
     ·exfalso
      have k1':X.env.scope.names.lookup x'=some .local:=k1
      rcases hfree with z | z
      ·rw [z] at k1';cases k1'
      ·rw [z] at k1';cases k1'
     ·rw [hcx] at e4
      cases e4
      obtain ⟨o,ho,hd⟩:=z
      exact ⟨c,hcl,o,old _ _ ho,hd⟩
  ·obtain ⟨v,o,ho,hd⟩:=I2.cell x c (hsub _ _ e)
   exact ⟨v,o,old _ _ ho,hd⟩
  ·show aN H2 s2.heap.objs.size (.lst []) hp2.objs.size=none
   rw [aE (Ne.symm hDC)]
   exact I2.hok.fresh hCle
  ·obtain ⟨v,o,ho,hd⟩:=I2.cell x c (hsub _ _ e)
   exact upn c (Heap.lt_size ho) (I2.freeC x c (hsub _ _ e))
  ·have hp':p∈X.pn++pins:=by simpa [bY] using hp
   obtain ⟨e,n,ne,nf,d⟩:=I2.pin p hp'
   have hlt:=Heap.lt_size e
   refine ⟨old _ _ e,upn _ hlt n,(below _ hlt).1,fun z=>?_,d⟩
   rcases List.mem_cons.mp (I2.stkSub _ z) with z' | z'
   ·exact ne z'
   ·exact nf z'
  ·show (i7 L src σ).length=N'.length
   unfold i7
   rw [List.length_append,List.length_replicate,List.length_map,ck.len]
 have eA:X'.A=X.A:=by subst hX;rfl
 have eP:X'.prog=X.prog:=by subst hX;rfl
 have eW:X'.w=X.w:=by subst hX;rfl
 have eK:X'.K=X.K:=by subst hX;rfl
 have ec:X'.calm=true:=by subst hX;exact hc
 have exe:X'.xe=fun _ _=>False:=by subst hX;rfl
 have eE:X'.env=compEnvC scope cl hp2.objs.size X.env:=by subst hX;rfl
 have hg':PG X' tg g:=by subst hX;exact hg _ _ _ _ _ _
 have hif':rf X' ifs tt:=by subst hX;exact hif _ _ _ _ _ _
 have he':PE X' elt te:=by subst hX;exact he _ _ _ _ _ _
 have aft:∀{H':Hp}{s':Shared},af X' [] (i7 L src σ) H' s'→af X pins σ H' s'∧(∃m,s'.heap.Ns hp2.objs.size m)∧kB X pins H' hp2.objs.size:=by
  subst hX
  intro H' s' J
  refine ⟨I2.call' (ch:=fp) J.os J.base J.hok J.bare fun b hb=>⟨(f2 b hb).2.2.2.1,(f2 b hb).2.1,(f2 b hb).2.2.2.2.1,(f2 b hb).2.2.2.2.2⟩,?_,I2.fpOk hCle J.free⟩
  obtain ⟨m,hn,_⟩:=J.loc
  exact ⟨m,hn⟩
 have st1:tn 0 h₁:=T.keep _ _ _ st2 fun b hb o e=>old b o e
 have loop:∀s₃:Shared,s₃={ s2 with heap:=h₁,toks:=s2.toks+([]:List (Str×Value)).length }→
  codeAny (model X.prog X.w) X.A (.compLoop (.ListComp elt [⟨tg,iter,ifs,0⟩] scope pos) 0 (.ref it) (.ref s2.heap.objs.size) (compEnvC scope cl hp2.objs.size X.env))
   (RR (.ref s2.heap.objs.size) hp2.objs.size) s₃:=by
  rintro s₃ rfl
  refine Ak (fun n s'=>fD fun i H' ys=>af X' [] (i7 L src σ) H' s'∧tn i s'.heap∧(∀b∈fp,H' b=none)∧W i n H' ys) ?_ m0
   ⟨0,_,[],I1,st1,fun b hb=>(by rw [aE (below b (fplt b hb)).2];exact (f2 b hb).1),w0⟩
  rintro n s3 ⟨i,H3,ys,I3,st3,fr3,w3⟩
  obtain ⟨hD,alt⟩:=turn i n H3 ys w3
  rcases alt with ⟨stop,qn⟩ | ⟨go,hlen,N,hN,step⟩
  ·have d:=T.done X' eP eW eK ec i [] s3 (i7 L src σ) H3 (fun _ _=>False) I3 (stat fr3) st3 stop
   rw [eA] at d
   refine aO d fun r s4 ⟨hr,I4⟩=>?_
   subst hr
   obtain ⟨J,⟨m,hn⟩,fpC⟩:=aft I4
   exact hRR _ _ H3 .next s4 m J hn fpC qn
  ·have d:=T.item X' eP eW eK ec i [] s3 (i7 L src σ) H3 (fun _ _=>False) I3 (stat fr3) st3 go
   rw [eA] at d
   refine aO d fun r s4 ⟨u,hr,h4⟩=>?_
   subst hr
   refine aO h4 fun _ s5 ⟨x,H5,I5,r5,y5,st5,fr5⟩=>?_
   have I5':=I5.pinned (stat fr5) (T.obj _ _ st5)
   have a1:=hg' _ s5 (i7 L src σ) H5 x u _ I5' r5 (step x H5 y5)
   rw [eP,eW,eA,eE,exe] at a1
   refine aO a1 fun _ s6 ⟨σ6,H6,I6,bk,q6⟩=>?_
   have a2:=hif' _ s6 σ6 H6 _ I6 q6
   rw [eP,eW,eA,eE,exe] at a2
   refine aO a2 fun b s7 ⟨H7,I7,q7⟩=>?_
   have again:∀{H8:Hp}{s8:Shared}{ys':List V},af X' ([]++qe fp s5.heap) σ6 H8 s8→N H8 ys'→∃m,m<n∧fD fun i H' ys=>af X' [] (i7 L src σ) H' s8∧tn i s8.heap∧(∀b∈fp,H' b=none)∧W i m H' ys:=fun {H8 s8 ys'} I8 n8=>by
    obtain ⟨m',hm,w8⟩:=hN H8 ys' n8
    refine ⟨m',hm,i+1,H8,ys',(I8.unpinned).weak bk.1.symm bk.2,T.keep _ _ _ st5 fun b hb o e=>(I8.pin (b,o) (List.mem_append_right _ (List.mem_append_right _ (jz hb e)))).1,fun b hb=>?_,w8⟩
    obtain ⟨o,e,d⟩:=T.obj _ _ st5 b hb
    exact (I8.pin (b,o) (List.mem_append_right _ (List.mem_append_right _ (jz hb e)))).2.1
   cases b with
   | false=>
    rw [if_neg Bool.false_ne_true] at q7 ⊢
    exact again I7 q7
   | true=>
    rw [if_pos rfl] at q7 ⊢
    have a3:=he' _ s7 σ6 H7 _ I7 q7
    rw [eP,eW,eA,eE,exe] at a3
    refine aO a3 fun xv s8 ⟨y,H8,I8,r8,hD8,q8⟩=>?_
    have a4:=yE (X:=X') _ s8 σ6 H8 (.ref s2.heap.objs.size) [y] (.ref s2.heap.objs.size) [xv] (fun _ H'=>H'=aN H8 s2.heap.objs.size (.lst (ys++[y]))) I8 rfl (.cons r8 .nil) ⟨_,ys,y,rfl,rfl,hD8,hlen,rfl⟩
    rw [eP,eW,eA,exe] at a4
    refine aO a4 fun _ s9 ⟨_,H9,I9,_,e9⟩=>?_
    subst e9
    exact again I9 q8
 exact codeAny_compStart_list (loop _ rfl) (T.self _ 0 _ _ _ st1 (loop _ rfl))
theorem fN (hc:X.calm=true) (ck:ql X.env.scope X.N scope N' L src=true) (hi:PI X tg iter wi) (hg:∀cl C s H ex pn,PG (bY X scope cl C N' s H ex pn) tg g) (hif:∀cl C s H ex pn,rf (bY X scope cl C N' s H ex pn) ifs tt)
 (he:∀cl C s H ex pn,PE (bY X scope cl C N' s H ex pn) elt te) (hs:∀x,foldedSetIterable iter X.env x=pure x:=by intro _;rfl) :
 PE X (.ListComp elt [⟨tg,iter,ifs,0⟩] scope pos) (Cj wi L src g tt te):=by
 intro pins s σ H Q I h
 have ck:=tU ck
 obtain ⟨cl,hclos,hsub,hhas⟩:=xw (scope:=scope) (env:=X.env) fun y hy e=>I.ok.has y.1 (ck.free y hy e)
 rw [eval_ListComp]
 refine wpAny_comprehension_free (use:=none) rfl hs hclos ck.kind ck.loc (zD hc ck I hsub hhas hi hg hif he h (RR:=fun acc C=>compPost (model X.prog X.w) X.A X.xe none (EP X pins σ Q) acc C) ?_)
 intro D C H' f s' m J hn fpC q
 refine ⟨m,hn,fun h' hsb=>⟨.ref D,H',?_,rfl,q⟩⟩
 obtain ⟨f0,f1,f2,f3,f4,f5⟩:=fpC
 exact J.turned (t':=s'.toks) (fun b o hb e=>(hsb.2 b hb).trans e) f0 f1 f3 f4 f5
theorem fW {j:Nat}{y:Str}{py spos:Pos} (hN:X.N.Nodup) (hj:X.N[j]?=some y) (hy:X.env.scope.names.lookup y=some .local) (hsw:swapsWith (.ListComp elt [⟨tg,iter,ifs,0⟩] scope pos) (some (.Name y py)) spos.line X.env=pure true)
 (hc:X.calm=true) (ck:ql X.env.scope X.N scope N' L src=true) (hi:PI X tg iter wi) (hg:∀cl C s H ex pn,PG (bY X scope cl C N' s H ex pn) tg g) (hif:∀cl C s H ex pn,rf (bY X scope cl C N' s H ex pn) ifs tt)
 (he:∀cl C s H ex pn,PE (bY X scope cl C N' s H ex pn) elt te) (hs:∀x,foldedSetIterable iter X.env x=pure x:=by intro _;rfl) :
 PS X (.Assign [.Name y py] (.ListComp elt [⟨tg,iter,ifs,0⟩] scope pos) spos) (zV (Cj wi L src g tt te) (qZ j)):=by
 intro pins s σ H D I h
 have ck:=tU ck
 obtain ⟨cl,hclos,hsub,hhas⟩:=xw (scope:=scope) (env:=X.env) fun y hy e=>I.ok.has y.1 (ck.free y hy e)
 rw [exec_Assign_Name_used _ _ _ _ hsw]
 refine wpAny_bind (wpAny_standAt (wpAny_bind ?_))
 show wpAny _ X.A (do let _ ←comprehension (.ListComp elt [⟨tg,iter,ifs,0⟩] scope pos) scope X.env _ (newList []) false (eval iter X.env) (some (assign (.Name y py) X.env))) _ _ s
 refine wpAny_bind (wpAny_mono (wpAny_comprehension_free (use:=some (assign (.Name y py) X.env)) (Q:=fun _ s'=>SP X pins D .next s') rfl hs hclos ck.kind ck.loc
  (zD hc ck I hsub hhas hi hg hif he h (RR:=fun acc C=>compPost (model X.prog X.w) X.A X.xe (some (assign (.Name y py) X.env)) (fun _ s'=>SP X pins D .next s') acc C) ?_)) (fun _ s' hq=>wpAny_pure (wpAny_pure hq)) fun _ _ e=>e)
 intro L' C H' f s' m J hn fpC q
 show wpAny _ X.A (assign (.Name y py) X.env (.ref L')) _ _ _
 refine wpAny_assign_Name (tG J hN hj (.inl hy) (v:=.ref L') rfl (fun s2 J2 hsb=>?_) (.inr hy))
 obtain ⟨f0,f1,f2,f3,f4,f5⟩:=fpC
 obtain ⟨a,hsb,ha⟩:=hsb
 have hCa:C≠a:=by
  rcases ha with rfl | ha
  ·exact f1
  ·exact fun z=>f4 _ _ ha z.symm
 refine ⟨m,hn.sameBut hsb hCa,fun h' hsb'=>⟨_,H',?_,q⟩⟩
 exact J2.turned (t':=s2.toks) (fun b o hb e=>(hsb'.2 b hb).trans e) f0 f1 f3 f4 f5
end
theorem pb {J:It}{n:Nat}{H1:Hp}{D:Addr}{σc:St}{g:TG}{tt:TT}{te:TE}{Q:VK} (Pv:Nat→Hp→List V→Prop) (hz:n≤sizeLine) (h0:Pv 0 (aN H1 D (.lst [])) [])
 (hD:∀i H ys,Pv i H ys→H D=some (.lst ys)∧ys.length≤i)
 (hgo:∀i H ys,i<n→Pv i H ys→J.go i H) (hst:∀H ys,Pv n H ys→J.stop n H)
 (hs:∀i H ys x H',i<n→Pv i H ys→J.yld i H x H'→g x σc H' fun σ2 H2=>kQ σc σ2∧tt σ2 H2 fun b H3=>if b=true then te σ2 H3 fun y H4=>H4 D=some (.lst ys)∧Pv (i+1) (aN H4 D (.lst (ys++[y]))) (ys++[y]) else Pv (i+1) H3 ys)
 (hd:∀H ys,Pv n H ys→Q (.ref D) H):uM J σc g tt te D H1 Q:=by
 refine ⟨fun i m H ys=>m=n - i∧i≤n∧Pv i H ys,⟨n,by simp,Nat.zero_le _,h0⟩,?_⟩
 rintro i m H ys ⟨rfl,hi,p⟩
 obtain ⟨q1,q2⟩:=hD i H ys p
 refine ⟨q1,?_⟩
 by_cases hlt:i<n
 ·exact .inr ⟨hgo i H ys hlt p,by trivial,Pv (i+1),fun H' ys' p'=>⟨n - (i+1),by trivial,rfl,hlt,p'⟩,fun x H' y=>hs i H ys x H' hlt p y⟩
 ·have e:i=n:=by trivial
  subst e
  exact .inl ⟨hst H ys p,hd H ys p⟩
theorem mD {J:It}{n:Nat}{H1:Hp}{D:Addr}{σc:St}{g:TG}{te:TE}{Q:VK} (Pv:Nat→Hp→List V→Prop) (hz:n≤sizeLine) (h0:Pv 0 (aN H1 D (.lst [])) [])
 (hD:∀i H ys,Pv i H ys→H D=some (.lst ys)∧ys.length≤i)
 (hgo:∀i H ys,i<n→Pv i H ys→J.go i H) (hst:∀H ys,Pv n H ys→J.stop n H)
 (hs:∀i H ys x H',i<n→Pv i H ys→J.yld i H x H'→g x σc H' fun σ2 H2=>kQ σc σ2∧te σ2 H2 fun y H4=>H4 D=some (.lst ys)∧Pv (i+1) (aN H4 D (.lst (ys++[y]))) (ys++[y]))
 (hd:∀H ys,Pv n H ys→Q (.ref D) H):uM J σc g tT te D H1 Q:=by
 refine pb Pv hz h0 hD hgo hst (fun i H ys x H' hi p y=>?_) hd
 have e:=hs i H ys x H' hi p y
 have q:(fun (σ2:St) (H2:Hp)=>kQ σc σ2∧tT σ2 H2 fun b H3=>if b=true then te σ2 H3 fun y H4=>H4 D=some (.lst ys)∧Pv (i+1) (aN H4 D (.lst (ys++[y]))) (ys++[y]) else Pv (i+1) H3 ys) =
  (fun σ2 H2=>kQ σc σ2∧te σ2 H2 fun y H4=>H4 D=some (.lst ys)∧Pv (i+1) (aN H4 D (.lst (ys++[y]))) (ys++[y])):=by
  funext σ2 H2
  unfold tT
  dsimp only
  rw [if_pos rfl]
 rw [q]
 exact e
section
variable {X:Cx}{pins:List (Addr×Obj)}{σ:St}{H:Hp}{s:Shared}{h':Heap}
theorem af.turnedNew {t':Nat}{ch:List Addr}{T:Addr}{o:HO} (I:af X pins σ H s) (hf:∀b∈ch,kB X pins H b) (k:∀b u,b∉ch→s.heap.get? b=some u→h'.get? b=some u)
 (hT:s.heap.objs.size≤T) (new:bD X.prog X.w (aN H T o) h' T o):af X pins σ (aN H T o) { s with heap:=h',toks:=t' }:=by
 have hn:H T=none:=I.hok.fresh hT
 refine I.step (g':=s.gens) (d':=s.drawn) (ch:=ch) (fun b hb=>?_) (fun b o _ _ hc e _=>k b o hc e) (fun b o _ _ hc e _=>⟨o.slots,k b o hc e⟩) (fun b o hc e n=>?_)
  (fun b o hc e=>⟨o,k b o hc e⟩) (fun b xs e=>?_) (fun b o u e=>?_) (fun b ps e=>?_) (fun m hm=>?_) (fun b u e=>?_) I.bare
 ·obtain ⟨f0,f1,f2,f3,f4,f5⟩:=hf b hb
  exact ⟨f3,f1,f4,f5⟩
 ·rw [aE (Nat.ne_of_lt (Nat.lt_of_lt_of_le (Heap.lt_size e) hT))];exact n
 ·rw [aE (aS e hn)];exact e
 ·rw [aE (aS e hn)];exact e
 ·exact ⟨#[],by rw [aE (aS e hn),e];simp⟩
 ·obtain ⟨o,es,ep,ho,r⟩:=hm
  exact ⟨o,es,ep,k _ o (fun z=>(hf _ z).2.1 rfl) ho,r⟩
 ·by_cases hb:b=T
  ·subst hb;rw [aB] at e;cases e;exact new
  ·rw [aE hb] at e
   refine (I.hok b u e).stay (fun c v hc q=>k c v (fun z=>?_) q) (fun c q=>by rw [aE (aS q hn)];exact q) fun c xs q=>by rw [aE (aS q hn)];exact q
   have hcn:=(hf c z).1
   rcases hc with rfl | hc
   ·rw [e] at hcn;cases hcn
   ·rw [hc] at hcn;cases hcn
end
section
variable {X:Cx}
theorem CV {bs:List Bool}{us:List Value} (r:aA (bs.map V.bl) us) {i:Nat}{v:Value} (e:us[i]?=some v):∃b,bs[i]?=some b∧v=.bool b:=by
 have hl:=r.length
 rw [List.length_map] at hl
 have hi:i<us.length:=(List.getElem?_eq_some_iff.mp e).1
 have hb:bs[i]?=some bs[i]:=by simp [hl,hi]
 obtain ⟨u,h1,h2⟩:=r.get (i:=i) (x:=.bl bs[i]) (by rw [List.getElem?_map,hb];rfl)
 rw [e] at h1
 cases h1
 exact ⟨_,hb,h2⟩
theorem Gx {s:Shared}{h':Heap}{o:Obj} (hk:∀b x,b∉[s.heap.objs.size]→(s.heap.push o).get? b=some x→h'.get? b=some x):∀b x,s.heap.get? b=some x→h'.get? b=some x:=
 fun b x e=>hk b x (fun hm=>by rw [List.mem_singleton.mp hm] at e;exact Nat.lt_irrefl _ (Heap.lt_size e)) (Heap.get?_push_of_some _ e)
theorem Fs (hc:X.calm=true):dj X (.builtin "any") (fun xs H Q=>aZ fun (l:Addr) (bs:List Bool)=>xs=[.ref l]∧ah X.K H l (bs.map V.bl)∧Q (.bl (bs.any id)) H):=by
 intro pins s σ H xs us Q I r h
 obtain ⟨l,bs,rfl,hq,q⟩:=h
 obtain ⟨u,rfl,ru⟩:=r.one
 obtain rfl:u=.ref l:=ru
 obtain ⟨its,rv,p,hz⟩:=I.list hq
 have hl:=p.isList
 have hlt:l<s.heap.objs.size:=by obtain ⟨_,e,_⟩:=hl;exact Heap.lt_size e
 refine call_any_walk (wpAny_pyIter_list hl ?_)
 refine ⟨s.heap.objs.size,[s.heap.objs.size,l],[s.heap.objs.size],its.toArray.size,_,_,fun i=>(bs[i]?).getD false,rfl,Walks.list (A:=X.A.in1) (I.ok.hd hc) _ l (Nat.ne_of_lt hlt) its.toArray,
  ⟨⟨_,Heap.get?_push_size _ rfl,rfl,rfl⟩,hl.push _⟩,fun i v s' Q' E' hP hQ=>?_,fun h' tk hk=>?_⟩
 ·obtain ⟨b,e,rfl⟩:=CV rv (i:=i) (v:=v) (by simpa using hP)
  simp only [e,Option.getD_some] at hQ
  exact wpAny_truthy_bool hQ
 ·have e:((List.range its.toArray.size).any fun i=>(bs[i]?).getD false)=bs.any id:=by
   rw [List.size_toArray,←rv.length,List.length_map];exact LSm.range_any bs
  rw [e]
  exact ⟨.bl _,H,I.kept (Gx hk),rfl,q⟩
end
def KQ (K:PySem.W.Frag) (a:Addr):It:=
 ⟨fun i H=>aZ fun xs x=>ah K H a xs∧xs[i]?=some x,fun i H v H'=>aZ fun T x=>H T=none∧v=.ref T∧H'=aN H T (.tup [.int (i:Int),x])∧∀xs,ah K H a xs→xs[i]?=some x,fun i H=>∃xs,ah K H a xs∧xs.length≤i⟩
theorem Du {P:Program}{w:World}{K:PySem.W.Frag}{es:List Expr}{kk:Nat}{pos:Pos} (a e it:Addr) (hne:e≠it) :
 xH P w K (.Tuple es kk pos) (KQ K a) [e,it] e (fun i h=>(∃old,IsEnum h e it i old)∧h.IsListIter it a i) where
 mem:=by simp
 obj:=fun i h st b hb=>by
  obtain ⟨⟨old,he⟩,o,e1,c,d⟩:=st
  have hb':b=e∨b=it:=by simpa using hb
  rcases hb' with rfl | rfl
  ·exact ⟨_,he,fun v z=>by
    have z':Data.fields _=Data.cell v:=z
    cases z'⟩
  ·exact ⟨o,e1,fun v z=>by rw [d] at z;cases z⟩
 keep:=fun i h h' st k=>by
  obtain ⟨⟨old,he⟩,hi⟩:=st
  exact ⟨⟨old,k e (by simp) _ he⟩,hi.at fun o q=>k it (by simp) o q⟩
 item:=by
  intro X hP hw hK hc i pins s σ H E I hf st hg
  subst hP hw hK
  obtain ⟨⟨old,he⟩,hit⟩:=st
  obtain ⟨xs,x,hq,hx⟩:=hg
  obtain ⟨its,rv,p,hz⟩:=I.list hq
  obtain ⟨u,hu,ru⟩:=rv.get hx
  have hnT:H s.heap.objs.size=none:=I.fresh
  refine wpAny_pyNext_enum_item he hit p.isList (x:=u) (by simpa using hu) hne fun h' ho hit' hT hsz hk=>?_
  refine ⟨(),wpAny_letOwnedTupleGo_enum (s:={ s with heap:=h',toks:=s.toks+1 }) ho fun h'' he'' hs''=>?_⟩
  have helt:e<s.heap.objs.size:=Heap.lt_size he
  have hilt:it<s.heap.objs.size:=by obtain ⟨_,y,_⟩:=hit;exact Heap.lt_size y
  have hT'':h''.get? s.heap.objs.size=some { cls:=.type "tuple",data:=.seq #[.int i s.toks,u] }:=(hs''.2 _ (Nat.ne_of_gt helt)).trans hT
  refine ⟨.ref s.heap.objs.size,aN H s.heap.objs.size (.tup [.int (i:Int),x]),I.turnedNew (ch:=[e,it]) (t':=s.toks+1) hf (fun b o hb q=>?_) (Nat.le_refl _) ?_,rfl,⟨_,x,hnT,rfl,rfl,fun ys hy=>by rw [I.list_inj hy hq];exact hx⟩,⟨⟨u,?_⟩,hit'.extBut hs''.extBut (Ne.symm hne)⟩,fun b hb=>?_⟩
  ·have h1:b≠e:=fun z=>hb (by simp [z])
   have h2:b≠it:=fun z=>hb (by simp [z])
   exact (hs''.2 b h1).trans (hk b o h1 h2 q)
  ·exact ⟨by show 2≤sizeLine;decide,[.int i s.toks,u],.cons ⟨()⟩ (.cons ru .nil),⟨_,hT'',rfl,()⟩,_,hT'',rfl⟩
  ·simpa using he''
  ·have hb':b=e∨b=it:=by simpa using hb
   have hlt:b<s.heap.objs.size:=by rcases hb' with rfl | rfl <;> assumption
   rw [aE (Nat.ne_of_lt hlt)]
   exact (hf b hb).1
 done:=by
  intro X hP hw hK hc i pins s σ H E I hf st hg
  subst hP hw hK
  obtain ⟨⟨old,he⟩,hit⟩:=st
  obtain ⟨xs,hq,hx⟩:=hg
  obtain ⟨its,rv,p,hz⟩:=I.list hq
  obtain ⟨f0,f1,f2,f3,f4,f5⟩:=hf it (by simp)
  have hl:=rv.length
  exact wpAny_pyNext_enum_end (I.ok.hd hc) he hit p.isList (by simp;trivial) fun h' eb=>⟨rfl,I.turned (t':=s.toks) (fun b o hb e=>eb b o hb e) f0 f1 f3 f4 f5⟩
 self:=fun _ _ _ _ _ st h=>by
  obtain ⟨⟨old,he⟩,_⟩:=st
  exact wpAny_pyIter_enum he h
def JS (K:PySem.W.Frag) (ta:TA):TI:=fun σ H R=>ta σ H fun vs H1=>∃a,vs=[.ref a]∧(∃xs,ah K H1 a xs)∧R (KQ K a) H1
theorem GT {X:Cx}{es:List Expr}{kk:Nat}{tp:Pos}{a:Expr}{ta:TA}{p pos:Pos} (hg:Gl X "enumerate") (hm:X.mg "enumerate" = none) (ha:PA X [a] ta) (hs:starEach [a] X.env=[(false,eval a X.env)]:=by rfl) :
 PI X (.Tuple es kk tp) (.Call (.Name "enumerate" p) [a] [] pos) (JS X.K ta):=by
 intro pins s σ H R I h
 refine Call_ (iA I hg hm boot_enumerate (PyProof.Rows.callWith_type1 (aO (ha pos pins s σ H _ I h) fun us s1 ⟨vs,H1,I1,r1,q1⟩=>?_) hs rfl))
 obtain ⟨a,rfl,⟨xs,hq⟩,q⟩:=q1
 obtain ⟨u,rfl,ru⟩:=r1.one
 obtain rfl:u=.ref a:=ru
 obtain ⟨its,rv,p,hz⟩:=I1.list hq
 refine call_enumerate_list p.isList fun h' hE hI hsz hk=>wpAny_pyIter_enum hE ?_
 have I2:af X pins σ H1 { s1 with heap:=h',toks:=s1.toks }:=I1.kept hk
 refine ⟨s1.heap.objs.size+1,[s1.heap.objs.size+1,s1.heap.objs.size],_,_,H1,rfl,I2,Du a (s1.heap.objs.size+1) s1.heap.objs.size (Nat.succ_ne_self _),⟨⟨_,hE⟩,hI⟩,fun b hb=>?_,q⟩
 have hb':b=s1.heap.objs.size+1∨b=s1.heap.objs.size:=by simpa using hb
 have hle:s1.heap.objs.size≤b:=by rcases hb' with rfl | rfl <;> trivial
 exact I1.fpOk hle (I1.hok.fresh hle)
end L2
namespace L2
open PySem PySem.Spec PyProof.Rows
theorem aF:bootBuiltins "len" = some (.builtin "len"):=by nofun
theorem kE:bootBuiltins "abs" = some (.builtin "abs"):=by nofun
theorem wO:bootBuiltins "min" = some (.builtin "min"):=by nofun
theorem Cf:bootBuiltins "max" = some (.builtin "max"):=by nofun
theorem Ct:bootBuiltins "any" = some (.builtin "any"):=by nofun
theorem yP:bootBuiltins "divmod" = some (.builtin "divmod"):=by nofun
theorem c9:bootBuiltins "isinstance" = some (.builtin "isinstance"):=by nofun
theorem pM:bootBuiltins "int" = some (.type "int"):=by nofun
theorem tL:bootBuiltins "bool" = some (.type "bool"):=by nofun
theorem vy:bootBuiltins "str" = some (.type "str"):=by nofun
theorem jv:bootBuiltins "list" = some (.type "list"):=by nofun
theorem eH:bootBuiltins "tuple" = some (.type "tuple"):=by nofun
theorem uI {X:Cx}{x:Str}{T:String}{pos:Pos} (hg:Gl X x) (hm:X.mg x=none) (hv:bootBuiltins x=some (.type T)) (hn:x≠"__name__" := by decide) (hd:(x==("__debug__" : Str))=false:=by decide):PE X (.Name x pos) (tC (.ty T)):=
 GY (v:=.ty T) hg hm hv rfl hn hd
mutual
inductive aM (E:Addr→Prop) (H:Hp):V→PyData→Prop
 | non:aM E H .non .none
 | bl (b:Bool):aM E H (.bl b) (.bool b)
 | int (i:Int):aM E H (.int i) (.int i)
 | str (x:Str):aM E H (.str x) (.str x)
 | lst {a:Addr}{xs:List V}{ds:List PyData} (h:H a=some (.lst xs)) (ne:¬E a) (r:ae E H xs ds):aM E H (.ref a) (.list ds)
 | tup {a:Addr}{xs:List V}{ds:List PyData} (h:H a=some (.tup xs)) (r:ae E H xs ds):aM E H (.ref a) (.tuple ds)
inductive ae (E:Addr→Prop) (H:Hp):List V→List PyData→Prop
 | nil:ae E H [] []
 | cons {x:V}{xs:List V}{d:PyData}{ds:List PyData} (h:aM E H x d) (r:ae E H xs ds):ae E H (x :: xs) (d :: ds)
end
structure aq (E:Addr→Prop) (H H':Hp):Prop where
 old:∀a o,¬E a→H a=some o→H' a=some o
 tup:∀a xs,H a=some (.tup xs)→H' a=some (.tup xs)
mutual
theorem aM.mono {E:Addr→Prop}{H H':Hp} (k:aq E H H'):∀{v:V}{d:PyData},aM E H v d→aM E H' v d
 | _,_,.non=>.non
 | _,_,.bl b=>.bl b
 | _,_,.int i=>.int i
 | _,_,.str x=>.str x
 | _,_,.lst h ne r=>.lst (k.old _ _ ne h) ne (ae.mono k r)
 | _,_,.tup h r=>.tup (k.tup _ _ h) (ae.mono k r)
theorem ae.mono {E:Addr→Prop}{H H':Hp} (k:aq E H H'):∀{vs:List V}{ds:List PyData},ae E H vs ds→ae E H' vs ds
 | _,_,.nil=>.nil
 | _,_,.cons h r=>.cons (aM.mono k h) (ae.mono k r)
end
theorem aq.refl {E:Addr→Prop} (H:Hp):aq E H H:=⟨fun _ _ _ h=>h,fun _ _ h=>h⟩
theorem aq.trans {E:Addr→Prop}{H H1 H2:Hp} (a:aq E H H1) (b:aq E H1 H2):aq E H H2:=⟨fun c o n h=>b.old c o n (a.old c o n h),fun c xs h=>b.tup c xs (a.tup c xs h)⟩
theorem ad.toE {E:Addr→Prop}{H H':Hp} (a:ad H H'):aq E H H':=⟨fun c o _ h=>a c o h,fun c xs h=>a c _ h⟩
theorem ad.new {H:Hp}{p:Addr}{o:HO} (h:H p=none):ad H (aN H p o):=fun b u e=>by rw [aE (aS e h)];exact e
theorem ae.length {E:Addr→Prop}{H:Hp}:∀{vs:List V}{ds:List PyData},ae E H vs ds→vs.length=ds.length
 | _,_,.nil=>rfl
 | _,_,.cons _ r=>by simp [ae.length r]
theorem ae.get {E:Addr→Prop}{H:Hp}:∀{vs:List V}{ds:List PyData}{i:Nat}{v:V},ae E H vs ds→vs[i]?=some v→∃d,ds[i]?=some d∧aM E H v d
 | _,_,_,_,.nil,e=>by simp at e
 | _,_,0,_,.cons h _,e=>by simp at e;subst e;exact ⟨_,rfl,h⟩
 | _,_,i+1,v,.cons _ r,e=>by
  obtain ⟨d,h1,h2⟩:=ae.get (i:=i) (v:=v) r (by simpa using e)
  exact ⟨d,by simpa using h1,h2⟩
theorem ae.append {E:Addr→Prop}{H:Hp}:∀{vs ws:List V}{ds es:List PyData},ae E H vs ds→ae E H ws es→ae E H (vs++ws) (ds++es)
 | _,_,_,_,.nil,s=>s
 | _,_,_,_,.cons h r,s=>.cons h (ae.append r s)
mutual
theorem aM.reads {E:Addr→Prop}{P:Program}{w:World}{H:Hp}{h:Heap} (ok:gS P w H h):∀{v:V}{d:PyData},aM E H v d→∀{u:Value},aP v u→∃as,Reads h u d as
 | _,_,.non,u,r=>by obtain rfl:u=.none:=r;exact ⟨_,.none⟩
 | _,_,.bl b,u,r=>by obtain rfl:u=.bool b:=r;exact ⟨_,.bool b⟩
 | _,_,.int i,u,r=>by obtain ⟨t,rfl⟩:=r;exact ⟨_,.int i t⟩
 | _,_,.str x,u,r=>by obtain ⟨t,rfl⟩:=r;exact ⟨_,.str x t⟩
 | _,_,.lst (a:=a) (xs:=xs) e _ q,u,r=>by
  obtain rfl:u=.ref a:=r
  obtain ⟨_,its,n,rv,e1⟩:=(show bD P w H h a (.lst xs) from ok a _ e)
  obtain ⟨as,ra⟩:=ae.reads ok q rv
  exact ⟨_,.list e1 rfl rfl (by simpa using ra)⟩
 | _,_,.tup (a:=a) (xs:=xs) e q,u,r=>by
  obtain rfl:u=.ref a:=r
  obtain ⟨_,its,rv,⟨o,e1,c,n,dd⟩,_⟩:=(show bD P w H h a (.tup xs) from ok a _ e)
  obtain ⟨as,ra⟩:=ae.reads ok q rv
  exact ⟨_,.tuple e1 c dd (by simpa using ra)⟩
theorem ae.reads {E:Addr→Prop}{P:Program}{w:World}{H:Hp}{h:Heap} (ok:gS P w H h):∀{vs:List V}{ds:List PyData},ae E H vs ds→∀{us:List Value},aA vs us→∃as,ReadsAll h us ds as
 | _,_,.nil,us,r=>by cases r;exact ⟨_,.nil⟩
 | _,_,.cons q qs,us,r=>by
  cases r with
  | cons r1 rr=>
   obtain ⟨as,h1⟩:=aM.reads ok q r1
   obtain ⟨bs,h2⟩:=ae.reads ok qs rr
   exact ⟨_,.cons h1 h2⟩
end
section
variable {X:Cx}
theorem yS {k:Nat} (hr:gD k X.A):dj X (.type "str") (fun xs H Q=>fD fun (a:Addr) (d:PyData) (E:Addr→Prop)=>xs=[.ref a]∧aM E H (.ref a) d∧d.showable=true∧d.hasDict=false∧d.depth≤50∧d.shown.length≤sizeLine∧Q (.str d.shown) H):=by
 intro pins s σ H xs us Q I r h
 obtain ⟨a,d,E,rfl,hd,h1,h2,h3,h4,q⟩:=h
 obtain ⟨u,rfl,ru⟩:=r.one
 obtain rfl:u=.ref a:=ru
 obtain ⟨as,rr⟩:=hd.reads I.hok (u:=.ref a) rfl
 refine str_of_reads rr h1 (PyData.noDict_hsm h2) hr.gd (by have:=hr.units;trivial) (fun _ _ e=>e) (fun h' u tk hk=>?_) h4
 exact ⟨.str _,H,I.kept hk,⟨()⟩,q⟩
def BA (_ j:Int):Prop:=0<j∧j.natAbs.log2<9000
theorem zU:cN X (binaryOp .FloorDiv) (rI BA fun i j=>.int (i / j)):=yy fun i j _ _ _ _ _ hc q=>by
 rw [←Int.fdiv_eq_ediv_of_nonneg _ (Int.le_of_lt hc.1)] at q
 exact floordiv_int (Int.ne_of_gt hc.1) q (.inl (PyProof.noPylong_of_log2 hc.2))
end
end L2
namespace L2
open PySem PySem.Spec PyProof.Rows
def Dq:PyData→String
 | .none => "NoneType"
 | .bool _ => "bool"
 | .int _ => "int"
 | .str _ => "str"
 | .list _ => "list"
 | .tuple _ => "tuple"
 | .dict _ => "dict"
theorem aM.ty {K:PySem.W.Frag}{E:Addr→Prop}{H:Hp}{v:V}{d:PyData} (h:aM E H v d):jU K H v (.type (Dq d)):=by
 cases h with
 | non=>exact .non
 | bl b=>exact .bl b
 | int i=>exact .int i
 | str x=>exact .str x
 | lst h ne r=>exact .lst h
 | tup h r=>exact .tup h
def Im:PyData→Bool
 | .int _=>true
 | .bool _=>true
 | _=>false
def Gh:PyData→Bool
 | .bool _=>true
 | _=>false
def Hr:PyData→Bool
 | .tuple _=>true
 | _=>false
def IN:PyData→Bool
 | .list _=>true
 | _=>false
theorem GR {K:PySem.W.Frag} (d:PyData):PySem.W.kitOne K (.type (Dq d)) (.type "int")=some (Im d):=by cases d <;> rfl
theorem zq {K:PySem.W.Frag} (d:PyData):PySem.W.kitOne K (.type (Dq d)) (.type "bool")=some (Gh d):=by cases d <;> rfl
theorem ug {K:PySem.W.Frag} (d:PyData):PySem.W.kitOne K (.type (Dq d)) (.type "tuple")=some (Hr d):=by cases d <;> rfl
theorem EZ {K:PySem.W.Frag} (d:PyData):PySem.W.kitOne K (.type (Dq d)) (.type "list")=some (IN d):=by cases d <;> rfl
inductive KG (K:PySem.W.Frag) (xs:List V) (H:Hp) (Q:VK):Prop
 | mk (x:_) (T:_) (t:_) (b:_) (h0:xs=[x,.ty T]) (h1:jU K H x t) (h2:PySem.W.kitOne K t (.type T)=some b) (h3:Q (.bl b) H)
def Li (K:PySem.W.Frag):List V→Hp→VK→Prop:=fun xs H Q=>KG K xs H Q
section
variable {X:Cx}
theorem zP:dj X (.builtin "divmod") (fun xs H Q=>aZ fun i j=>xs=[.int i,.int j]∧BA i j∧∀p,H p=none→Q (.ref p) (aN H p (.tup [.int (i / j),.int (i % j)]))):=by
 intro pins s σ H xs us Q I r h
 obtain ⟨i,j,rfl,⟨h1,h2⟩,q⟩:=h
 obtain ⟨u,w',rfl,⟨t,rfl⟩,⟨t',rfl⟩⟩:=BQ r
 refine divmod_int (by trivial) ?_ (.inl (PyProof.noPylong_of_log2 h2))
 rw [Int.fdiv_eq_ediv_of_nonneg i (by trivial),Int.fmod_eq_emod_of_nonneg i (by trivial)]
 have hn:H s.heap.objs.size=none:=I.hok.fresh (Nat.le_refl _)
 refine ⟨.ref s.heap.objs.size,_,?_,rfl,q _ hn⟩
 refine I.laid (fun b o e=>Heap.get?_push_of_some _ e) (Nat.le_refl _) ⟨by simp only [List.length_cons,List.length_nil];rw [sizeLine_eq];decide,[.int (i / j) s.toks,.int (i % j) (s.toks+1)],.cons ⟨()⟩ (.cons ⟨()⟩ .nil),?_⟩
 exact ⟨⟨_,Heap.get?_push_size s.heap rfl,rfl,0,rfl⟩,_,Heap.get?_push_size s.heap rfl,rfl⟩
end
theorem LR (c:Bool):-(2 ^ 64)<(if c=true then (1:Int) else 0)∧(if c=true then (1:Int) else 0)<2 ^ 64:=by cases c <;> decide
theorem zN (x:Int):0≤(if x<0 then -x else x):=by split <;> trivial
theorem JD {x:Int} (c:Bool) (h:0≤x):0≤x*(if c=true then (1:Int) else 0):=by cases c <;> simp [h]
theorem AV {ms:List Int}{k:Int} (h0:0≤k) (h:k.toNat<ms.length):ik (ms.map V.int) k=some (V.int ms[k.toNat]):=by
 have q:=cv (xs:=ms.map V.int) (j:=k.toNat) (v:=V.int ms[k.toNat]) (by rw [List.getElem?_map];simp [h])
 rwa [Int.toNat_of_nonneg h0] at q
inductive Bx (H:Hp) (b:Addr) (t:Int):Prop
 | mk (c x:Int) (h0:H b=some (.lst [.int c,.int x,.int t])) (h1:0≤c) (h2:0≤x) (h3:x<2147483647)
abbrev Eb (b:Addr):Addr→Prop:=fun a=>a=b
theorem Bx.same {H H':Hp}{b:Addr}{t:Int} (h:Bx H b t) (k:ad H H'):Bx H' b t:=by
 obtain ⟨c,x,e,r,r2,r3⟩:=h
 exact ⟨c,x,k _ _ e,r,r2,r3⟩
theorem yH {H H1:Hp}{b:Addr}{xs:List V}{o:HO} (k:ad H H1) (hb:H1 b=some (.lst xs)):aq (Eb b) H (aN H1 b o):=
 ⟨fun a u n h=>by rw [aE n];exact k a u h,fun a ys h=>by
  have e:=k a _ h
  rw [aE (Bg e hb (by intro z;cases z))];exact e⟩
inductive IV (K:PySem.W.Frag) (vs:List V) (H:Hp) (Q:VK):Prop
 | mk (a:Addr) (ms:List Int) (k:Int) (h0:vs=[.ref a,.int k]) (h1:ah K H a (ms.map V.int)) (h2:0≤k) (h3:k≤63) (h4:∀p H',H p=none→ad H H'→Bx H' p 0→Q (.ref p) H')
def JQ (K:PySem.W.Frag):Sp:=fun vs H Q _=>IV K vs H Q
inductive GS (vs:List V) (H:Hp) (Q:VK):Prop
 | mk (b:Addr) (many t:Int) (h0:vs=[.ref b,.int many]) (h1:Bx H b t) (h2:0<many) (h3:many.natAbs.log2<9000) (h4:0≤t) (h5:t≤1000000) (h6:∀r t' H',0≤r→r<many→t≤t'→t'≤t+1→aq (Eb b) H H'→Bx H' b t'→Q (.int r) H')
def HF:Sp:=fun vs H Q _=>GS  vs H Q
def zW:List Str→Bool
 | []=>true
 | x :: r=>!r.contains x && zW r
theorem Eg:∀l:List Str,zW l=true→l.Nodup
 | [],_=>List.nodup_nil
 | x :: r,h=>by
  unfold zW at h
  simp only [Bool.and_eq_true,Bool.not_eq_true',List.contains_eq_mem,decide_eq_false_iff_not] at h
  exact List.nodup_cons.mpr ⟨h.1,Eg r h.2⟩
inductive JM (K:PySem.W.Frag) (xs:List V) (H:Hp) (Q:VK):Prop
 | mk (p:_) (ys:_) (h0:xs=[.ref p]) (h1:(ah K H p ys∨ag K H p ys)) (h2:Q (.int ys.length) H)
def Le (K:PySem.W.Frag):List V→Hp→VK→Prop:=fun xs H Q=>JM K xs H Q
section
variable {X:Cx}{K:PySem.W.Frag}
theorem lB (e:X.K=K:=by rfl):dj X (.builtin "isinstance") (Li K):=by subst e;exact fun pins s σ H xs us Q I r ⟨x,T,t,b,h1,h2,h3,q⟩=>Ap pins s σ H xs us Q I r ⟨x,T,t,b,h1,h2,h3,q⟩
theorem bX (e:X.K=K:=by rfl):dj X (.builtin "len") (Le K):=by subst e;exact fun pins s σ H xs us Q I r ⟨p,ys,h1,h2,q⟩=>uC pins s σ H xs us Q I r ⟨p,ys,h1,h2,q⟩
theorem JX (e:X.K=K:=by rfl):sf X (Bs K):=by subst e;exact A5
theorem KO (e:X.K=K:=by rfl):sf X (Ey K):=by subst e;exact CT
theorem Cu (e:X.K=K:=by rfl):cN X (compareOp .In) (FE K false):=by subst e;exact Eo
theorem qx (e:X.K=K:=by rfl):cN X (compareOp .NotIn) (FE K true):=by subst e;exact ze
inductive JH (K:PySem.W.Frag) (xs:List V) (H:Hp) (Q:VK):Prop
 | mk (l:Addr) (bs:List Bool) (h0:xs=[.ref l]) (h1:ah K H l (bs.map V.bl)) (h2:Q (.bl (bs.any id)) H)
def Ls (K:PySem.W.Frag):List V→Hp→VK→Prop:=fun xs H Q=>JH K xs H Q
theorem JR (hc:X.calm=true) (e:X.K=K:=by rfl):dj X (.builtin "any") (Ls K):=by subst e;exact fun pins s σ H xs us Q I r ⟨l,bs,h1,h2,q⟩=>Fs hc pins s σ H xs us Q I r ⟨l,bs,h1,h2,q⟩
theorem bM {pos:Pos}{es:List Expr}{k:Nat}{t:p5}{n:Nat} (hc:X.calm=true) (h:AY X es t) (e:X.K=K:=by rfl)
 (hn:(assignEach es X.env).length=n:=by rfl) (hst:(assignEach es X.env).findIdx? (·.1)=none:=by rfl):PG X (.Tuple es k pos) (Ij K n t):=by
 subst e;exact zK hc h hn hst
theorem br {tg l:Expr}{tl:TE} (hl:PE X l tl) (e:X.K=K:=by rfl):PI X tg l (FD K tl):=by subst e;exact AM hl
theorem lA {tg l:Expr}{tl:TE} (hl:PE X l tl) (e:X.K=K:=by rfl):PI X tg l (EJ K tl):=by subst e;exact HR hl
end
end L2
namespace L2
open PySem PySem.Spec PyProof.Rows
def pY:Expr→Bool
 | .Starred ..=>false
 | _=>true
theorem l7 {e:Expr}{es:List Expr}{env:Env} (h:pY e=true):starEach (e :: es) env=(false,eval e env) :: starEach es env:=by
 cases e <;> first | rfl | (simp [pY] at h)
section
variable {X:Cx}{e:Expr}{es:List Expr}{te:TE}{t:TA}
theorem Cp (ha:PE X e te) (hr:PA X es t) (hs:pY e=true:=by rfl):PA X (e :: es) (uK te t):=dB ha hr (l7 hs)
theorem pw (i:Nat) {x:Str}{pos:Pos} (hv:CF X.env.scope x) (hN:X.N[i]?=some x:=by rfl) (hd:(x==("__debug__" : Str))=false:=by decide) (hcd:(x==("__classdict__" : Str))=false:=by decide):PE X (.Name x pos) (vU i):=DN hN hv hd hcd
end
end L2
namespace KM
theorem gcd_fmod (n d:Int):Int.gcd d (n.fmod d)=Int.gcd n d:=by
 apply Nat.dvd_antisymm
 ·apply Int.dvd_gcd
  ·have h1:((Int.gcd d (n.fmod d):Nat):Int) ∣ d:=Int.gcd_dvd_left ..
   have h2:((Int.gcd d (n.fmod d):Nat):Int) ∣ n.fmod d:=Int.gcd_dvd_right ..
   have h3:=Int.dvd_add h2 (Int.dvd_mul_of_dvd_left (c:=n.fdiv d) h1)
   rw [Int.fmod_add_mul_fdiv] at h3
   exact h3
  ·exact Int.gcd_dvd_left ..
 ·apply Int.dvd_gcd
  ·exact Int.gcd_dvd_right ..
  ·rw [Int.fmod_def]
   exact Int.dvd_sub (Int.gcd_dvd_left ..) (Int.dvd_mul_of_dvd_left (Int.gcd_dvd_right ..))
theorem fmod_natAbs_lt (n d:Int) (h:d≠0):(n.fmod d).natAbs<d.natAbs:=by
 rcases Int.lt_trichotomy d 0 with hd | hd | hd
 ·have e:n.fmod d=-((-n).fmod (-d)):=by
   rw [Int.fmod_def,Int.fmod_def]
   have:(-n).fdiv (-d)=n.fdiv d:=Int.neg_fdiv_neg n d
   rw [this,Int.neg_mul];trivial
  have h1:=Int.fmod_nonneg_of_pos (-n) (b:=-d) (by trivial)
  have h2:=Int.fmod_lt_of_pos (-n) (b:=-d) (by trivial)
  trivial
 ·exact absurd hd h
 ·have h1:=Int.fmod_nonneg_of_pos n hd
  have h2:=Int.fmod_lt_of_pos n hd
  trivial
theorem gcd_zero_abs (n:Int):((Int.gcd n 0:Nat):Int)=if n<0 then -n else n:=by
 rw [Int.gcd_zero_right]
 split <;> trivial
theorem gcd_emod (n d:Int):Int.gcd d (n % d)=Int.gcd n d:=by
 by_cases h:d=0
 ·subst h;rw [Int.emod_zero,Int.gcd_comm]
 ·apply Nat.dvd_antisymm
  ·apply Int.dvd_gcd
   ·have h1:((Int.gcd d (n % d):Nat):Int) ∣ d:=Int.gcd_dvd_left ..
    have h2:((Int.gcd d (n % d):Nat):Int) ∣ n % d:=Int.gcd_dvd_right ..
    have h3:=Int.dvd_add h2 (Int.dvd_mul_of_dvd_left (c:=n / d) h1)
    rw [Int.emod_add_mul_ediv] at h3
    exact h3
   ·exact Int.gcd_dvd_left ..
  ·apply Int.dvd_gcd
   ·exact Int.gcd_dvd_right ..
   ·rw [Int.emod_def]
    exact Int.dvd_sub (Int.gcd_dvd_left ..) (Int.dvd_mul_of_dvd_left (Int.gcd_dvd_right ..))
end KM
namespace KM
def low (n d:Int):Int×Int:=if 0<d then (n / (Int.gcd n d:Nat),d / (Int.gcd n d:Nat)) else (-n / (Int.gcd n d:Nat),-d / (Int.gcd n d:Nat))
theorem gcd_pos {n d:Int} (h:d≠0):0<Int.gcd n d:=by
 apply Nat.pos_of_ne_zero
 intro e
 exact h (Int.gcd_eq_zero_iff.mp e).2
theorem gcd_abs (n d:Int):Int.gcd (if n<0 then -n else n) (if d<0 then -d else d)=Int.gcd n d:=by
 split <;> split <;> simp [Int.gcd_neg,Int.neg_gcd]
theorem low_spec (n d:Int) (h:d≠0):1≤(low n d).2∧(low n d).1*d=n*(low n d).2∧Int.gcd (low n d).1 (low n d).2=1∧(low n d).1.natAbs≤n.natAbs∧(low n d).2.natAbs≤d.natAbs:=by
 have g0:=gcd_pos (n:=n) h
 have gi:((Int.gcd n d:Nat):Int)≠0:=by trivial
 have d1:((Int.gcd n d:Nat):Int) ∣ n:=Int.gcd_dvd_left ..
 have d2:((Int.gcd n d:Nat):Int) ∣ d:=Int.gcd_dvd_right ..
 obtain ⟨a,ha⟩:=d1
 obtain ⟨b,hb⟩:=d2
 have ea:n / ((Int.gcd n d:Nat):Int)=a:=by
  conv=>lhs;lhs;rw [ha]
  exact Int.mul_ediv_cancel_left _ gi
 have eb:d / ((Int.gcd n d:Nat):Int)=b:=by
  conv=>lhs;lhs;rw [hb]
  exact Int.mul_ediv_cancel_left _ gi
 have ena:-n / ((Int.gcd n d:Nat):Int)=-a:=by
  have:-n=((Int.gcd n d:Nat):Int)*(-a):=by rw [Int.mul_neg];trivial
  rw [this]
  exact Int.mul_ediv_cancel_left _ gi
 have enb:-d / ((Int.gcd n d:Nat):Int)=-b:=by
  have:-d=((Int.gcd n d:Nat):Int)*(-b):=by rw [Int.mul_neg];trivial
  rw [this]
  exact Int.mul_ediv_cancel_left _ gi
 have hco:Int.gcd a b=1:=by
  have:=Int.gcd_ediv_gcd_ediv_gcd (i:=n) (j:=d) g0
  rw [ea,eb] at this
  exact this
 have hgp:(0:Int)<((Int.gcd n d:Nat):Int):=by trivial
 have habs:n.natAbs=Int.gcd n d*a.natAbs:=by
  conv=>lhs;rw [ha]
  rw [Int.natAbs_mul];rfl
 have hbbs:d.natAbs=Int.gcd n d*b.natAbs:=by
  conv=>lhs;rw [hb]
  rw [Int.natAbs_mul];rfl
 have la:a.natAbs≤n.natAbs:=by rw [habs];exact Nat.le_mul_of_pos_left _ g0
 have lb:b.natAbs≤d.natAbs:=by rw [hbbs];exact Nat.le_mul_of_pos_left _ g0
 have hab:a*d=n*b:=by
  generalize ((Int.gcd n d:Nat):Int)=g at ha hb
  subst ha hb
  rw [Int.mul_comm g a,Int.mul_assoc]
 unfold low
 split
 ·rename_i hd
  refine ⟨?_,?_,?_,?_,?_⟩
  ·show 1≤d / _
   rw [eb]
   have:0<b:=by
    apply Int.pos_of_mul_pos_right (a:=((Int.gcd n d:Nat):Int)) _ hgp
    rw [←hb];exact hd
   trivial
  ·show n / _*d=n*(d / _)
   rw [ea,eb];exact hab
  ·show Int.gcd (n / _) (d / _)=1
   rw [ea,eb];exact hco
  ·show (n / _).natAbs≤_
   rw [ea];exact la
  ·show (d / _).natAbs≤_
   rw [eb];exact lb
 ·rename_i hd
  refine ⟨?_,?_,?_,?_,?_⟩
  ·show 1≤-d / _
   rw [enb]
   have:0 < -b:=by
    apply Int.pos_of_mul_pos_right (a:=((Int.gcd n d:Nat):Int)) _ hgp
    rw [Int.mul_neg,←hb];trivial
   trivial
  ·show -n / _*d=n*(-d / _)
   rw [ena,enb,Int.neg_mul,Int.mul_neg,hab]
  ·show Int.gcd (-n / _) (-d / _)=1
   rw [ena,enb,Int.gcd_neg,Int.neg_gcd];exact hco
  ·show (-n / _).natAbs≤_
   rw [ena,Int.natAbs_neg];exact la
  ·show (-d / _).natAbs≤_
   rw [enb,Int.natAbs_neg];exact lb
end KM
namespace KM
section
variable {p0 p1 q0 q1:Int}
end
theorem fdiv_low {n d:Int} (hd:d≠0):(n.fdiv (if d<0 then -((Int.gcd n d:Nat):Int) else ((Int.gcd n d:Nat):Int)),d.fdiv (if d<0 then -((Int.gcd n d:Nat):Int) else ((Int.gcd n d:Nat):Int)))=low n d:=by
 have g0:(0:Int)≤((Int.gcd n d:Nat):Int):=Int.natCast_nonneg _
 unfold low
 by_cases h:d<0
 ·rw [if_pos h,if_neg (by trivial)]
  have e:∀x:Int,x.fdiv (-((Int.gcd n d:Nat):Int))=-x / ((Int.gcd n d:Nat):Int):=fun x=>by
   rw [←Int.fdiv_eq_ediv_of_nonneg _ g0,←Int.neg_fdiv_neg,Int.neg_neg]
  rw [e,e]
 ·rw [if_neg h,if_pos (by trivial),Int.fdiv_eq_ediv_of_nonneg _ g0,Int.fdiv_eq_ediv_of_nonneg _ g0]
end KM
namespace KM
abbrev Fra:=Int×Int
def ladd (t p:Fra):Fra:=low (t.1*p.2+p.1*t.2) (t.2*p.2)
theorem low_sgn {n d:Int} (hd:0<d):(0<(low n d).1↔0<n)∧((low n d).1<0↔n<0):=by
 obtain ⟨h1,h2,_,_,_⟩:=low_spec n d (by trivial)
 generalize low n d=z at *
 obtain ⟨x,y⟩:=z
 dsimp only at *
 have hy:0<y:=by trivial
 constructor
 ·constructor
  ·intro h
   have:0<x*d:=Int.mul_pos h hd
   rw [h2] at this
   exact Int.pos_of_mul_pos_left this hy
  ·intro h
   have:0<n*y:=Int.mul_pos h hy
   rw [←h2] at this
   exact Int.pos_of_mul_pos_left this hd
 ·constructor
  ·intro h
   have:x*d<0:=Int.mul_neg_of_neg_of_pos h hd
   rw [h2] at this
   apply Decidable.byContradiction
   intro hn
   have:=Int.mul_nonneg (show 0≤n by trivial) (show 0≤y by trivial)
   trivial
  ·intro h
   have:n*y<0:=Int.mul_neg_of_neg_of_pos h hy
   rw [←h2] at this
   apply Decidable.byContradiction
   intro hn
   have:=Int.mul_nonneg (show 0≤x by trivial) (show 0≤d by trivial)
   trivial
end KM
namespace KM
def vl (p:Fra):Rat:=Rat.divInt p.1 p.2
theorem Jb {n d:Int} (h:d≠0):vl (low n d)=Rat.divInt n d:=by
 obtain ⟨h1,h2,_⟩:=low_spec n d h
 exact (Rat.divInt_eq_divInt_iff (by trivial) h).mpr (by rw [h2])
theorem Ja {a b:Int} (h:a≠0) (k:b≠0):a*b≠0:=Int.mul_ne_zero h k
def lTim (p q:Fra):Fra:=low (p.1*q.1) (p.2*q.2)
theorem vl_tim {p q:Fra} (hp:p.2≠0) (hq:q.2≠0):vl (lTim p q)=vl p*vl q:=by
 unfold lTim
 rw [Jb (Ja hp hq)]
 exact (Rat.divInt_mul_divInt _ _).symm
theorem vl_zero:vl (0,1)=0:=Rat.zero_divInt 1
end KM
namespace L2
open PySem PySem.Spec PyProof.Rows
section
variable {prog:Program}{w:World}{A:Around}{E:Value→Shared→Prop}{s:Shared}
theorem Bq {it t:Addr}{i:Nat}{its:Array Value}{x:Value}{Q:Value→Shared→Prop} (hit:s.heap.IsTupleIter it t i) (ht:s.heap.IsTuple t its) (hx:its[i]?=some x)
 (q:∀h',h'.IsTupleIter it t (i+1)→Heap.SameBut it s.heap h'→Q x { s with heap:=h' }):wpAny (model prog w) A (Builtin.SmallTypes.nextOf (.ref it)) Q E s:=by
 obtain ⟨o,e1,e2,e3⟩:=id hit;obtain ⟨u,e4,_,k,e5⟩:=ht;unfold Builtin.SmallTypes.nextOf
 refine wpAny_bind (wpAny_callSpecial?_slot (name:=Str.ofString "__next__") hit.typeIs F.slot_tuple_iterator_next (wpAny_call_entry F.slot_tuple_iterator_next hit.typeIs F.entry_tuple_iterator_next ?_ (F.args_tuple_iterator_next_1 _)))
 show wpAny _ _ (field (.ref it) 0 >>= _) _ _ s;refine wpAny_bind (wpAny_field e1 e3 (x:=.ref t) rfl ?_)
 show wpAny _ _ (if (Value.ref t==Value.none)=true then _ else _) _ _ s;rw [if_neg (show ¬((Value.ref t==Value.none)=true) from Bool.false_ne_true)]
 show wpAny _ _ (field (.ref it) 1 >>= _) _ _ s;refine wpAny_bind (wpAny_field e1 e3 (x:=.int i 0) rfl ?_)
 show wpAny _ _ (seqItems? (.ref t) >>= _) _ _ s;refine wpAny_bind (wpAny_seqItems e4 e5 ?_)
 simp only [Int.toNat_natCast,hx];refine wpAny_bind (wpAny_setField e1 e3 (by simp) (wpAny_pure ⟨x,rfl,wpAny_pure (q _ ?_ (Heap.SameBut.update ..))⟩))
 exact ⟨_,Heap.get?_update_self _ e1 (Obj.isFreed_of_fields (Obj.data_mapFields e3 _)),(Obj.cls_mapFields ..).trans e2,by rw [Obj.data_mapFields e3];simp [rawInt]⟩
theorem yN {it t:Addr}{i:Nat}{its:Array Value}{Q:Value→Shared→Prop} (hh:A.handled=none) (hit:s.heap.IsTupleIter it t i) (ht:s.heap.IsTuple t its) (hx:its[i]?=none)
 (q:∀h' e,Heap.ExtBut it s.heap h'→(∃o,h'.get? e=some o∧o.cls=.type "StopIteration")→E (.ref e) { s with heap:=h' }):wpAny (model prog w) A (Builtin.SmallTypes.nextOf (.ref it)) Q E s:=by
 obtain ⟨o,e1,e2,e3⟩:=id hit;obtain ⟨u,e4,_,k,e5⟩:=ht;unfold Builtin.SmallTypes.nextOf
 refine wpAny_bind (wpAny_callSpecial?_slot (name:=Str.ofString "__next__") hit.typeIs F.slot_tuple_iterator_next (wpAny_call_entry F.slot_tuple_iterator_next hit.typeIs F.entry_tuple_iterator_next ?_ (F.args_tuple_iterator_next_1 _)))
 show wpAny _ _ (field (.ref it) 0 >>= _) _ _ s;refine wpAny_bind (wpAny_field e1 e3 (x:=.ref t) rfl ?_)
 show wpAny _ _ (if (Value.ref t==Value.none)=true then _ else _) _ _ s;rw [if_neg (show ¬((Value.ref t==Value.none)=true) from Bool.false_ne_true)]
 show wpAny _ _ (field (.ref it) 1 >>= _) _ _ s;refine wpAny_bind (wpAny_field e1 e3 (x:=.int i 0) rfl ?_)
 show wpAny _ _ (seqItems? (.ref t) >>= _) _ _ s;refine wpAny_bind (wpAny_seqItems e4 e5 ?_)
 simp only [Int.toNat_natCast,hx];refine wpAny_bind (wpAny_rule (wpAny_bind (wpAny_setField e1 e3 (by simp) ?_)))
 show wpAny _ _ (newExc (.type "StopIteration") [] >>= _) _ _ _;refine wpAny_bind ?_;simp only [newExc,newTuple]
 refine wpAny_bind (wpAny_newObj_type ?_ (by size_fits));refine wpAny_bind (m:=firstArgMember _ _) (wpAny_of_eq (a:=Value.none) (by first | rfl | (simp only [firstArgMember];rfl)) ?_);refine wpAny_newObj_type ?_ (by size_fits)
 simp only [raiseNew];refine wpAny_bind (wpAny_handled ?_);first | rw [show A.in1.handled=none from hh] | rw [hh]
 refine wpAny_bind (wpAny_pure (wpAny_throw ?_));exact q _ _ (((Heap.SameBut.update ..).extBut.push _).push _) ⟨_,Heap.get?_push_size _ rfl,rfl⟩
end
def fE (h:Heap) (l:Addr) (its:Array Value):Bool→Prop
 | true=>h.IsList l its
 | false=>h.IsTuple l its
def fV (h:Heap) (it l:Addr) (i:Nat):Bool→Prop
 | true=>h.IsListIter it l i
 | false=>h.IsTupleIter it l i
theorem fE.at {h h':Heap}{l:Addr}{its:Array Value}:∀{b:Bool},fE h l its b→(∀o,h.get? l=some o→h'.get? l=some o)→fE h' l its b
 | true,q,k=>Heap.IsList.at q k
 | false,q,k=>Heap.IsTuple.at q k
theorem fV.at {h h':Heap}{it l:Addr}{i:Nat}:∀{b:Bool},fV h it l i b→(∀o,h.get? it=some o→h'.get? it=some o)→fV h' it l i b
 | true,q,k=>Heap.IsListIter.at q k
 | false,q,k=>Heap.IsTupleIter.at q k
theorem fE.lt {h:Heap}{l:Addr}{its:Array Value}:∀{b:Bool},fE h l its b→l<h.objs.size
 | true,⟨_,e,_⟩=>Heap.lt_size e
 | false,⟨_,e,_⟩=>Heap.lt_size e
theorem fV.some {h:Heap}{it l:Addr}{i:Nat}:∀{b:Bool},fV h it l i b→∃o,h.get? it=some o∧∀v,o.data≠.cell v
 | true,⟨o,e,_,d⟩=>⟨o,e,fun v z=>by rw [d] at z;cases z⟩
 | false,⟨o,e,_,d⟩=>⟨o,e,fun v z=>by rw [d] at z;cases z⟩
theorem kM {prog:Program}{w:World}{A:Around} (hh:A.handled=none) (it l:Addr) (hne:l≠it) (its:Array Value):∀b:Bool,
 Draws prog w A it [it,l] its.size (fun i v=>its[i]?=some v) (fun i h=>fV h it l i b∧fE h l its b)
 | true=>Draws.list hh it l hne its
 | false=>{
  live:=fun _ _ st=>let ⟨o,ho,_⟩:=st.1;⟨o,ho⟩
  frame:=fun _ _ _ st hk=>⟨Heap.IsTupleIter.at st.1 fun o e=>hk it (by simp) o e,Heap.IsTuple.at st.2 fun o e=>hk l (by simp) o e⟩
  item:=fun i s Q E hi st q=>Bq st.1 st.2 (x:=its[i]) (by simp [hi]) fun h' it' same=>q _ h' s.toks (by simp [hi]) ⟨it',Heap.IsTuple.extBut st.2 same.extBut hne⟩ same
  done:=fun s Q E st q=>yN hh st.1 st.2 (by simp) q }
section
variable {prog:Program}{w:World}{A:Around}{E:Value→Shared→Prop}{s:Shared}
variable {z TI TO i1 i2 l1 l2:Addr}{k:Nat}{xs ys:Array Value}{a b:Value}{c1 c2:Bool}
end
section
variable {prog:Program}{w:World}{A:Around}{E:Value→Shared→Prop}{s:Shared}
end
theorem af.turnedL {X:Cx}{pins:List (Addr×Obj)}{σ:St}{H:Hp}{s:Shared}{h':Heap}{t':Nat}{ch:List Addr} (I:af X pins σ H s) (hf:∀b∈ch,kB X pins H b) (k:∀b u,b∉ch→s.heap.get? b=some u→h'.get? b=some u) :
 af X pins σ H { s with heap:=h',toks:=t' }:=by
 refine I.step (g':=s.gens) (d':=s.drawn) (ch:=ch) (fun b hb=>?_) (fun b o _ _ hc e _=>k b o hc e) (fun b o _ _ hc e _=>⟨o.slots,k b o hc e⟩) (fun _ _ _ _ n=>n)
  (fun b o hc e=>⟨o,k b o hc e⟩) (fun _ _ e=>e) (fun _ _ _ e=>e) (fun b ps e=>⟨#[],by rw [e];simp⟩) (fun m hm=>?_) (fun b u e=>?_) I.bare
 ·obtain ⟨f0,f1,f2,f3,f4,f5⟩:=hf b hb
  exact ⟨f3,f1,f4,f5⟩
 ·obtain ⟨o,es,ep,ho,r⟩:=hm
  exact ⟨o,es,ep,k _ o (fun z=>(hf _ z).2.1 rfl) ho,r⟩
 ·refine (I.hok b u e).stay (fun c v hc q=>k c v (fun z=>?_) q) (fun _ q=>q) fun _ _ q=>q
  have hcn:=(hf c z).1
  rcases hc with rfl | hc
  ·rw [e] at hcn;cases hcn
  ·rw [hc] at hcn;cases hcn
def x4 (K:PySem.W.Frag) (H:Hp) (a:Addr) (xs:List V):Bool→Prop
 | true=>ah K H a xs
 | false=>ag K H a xs
theorem af.seqC {X:Cx}{pins:List (Addr×Obj)}{σ:St}{H:Hp}{s:Shared}{a:Addr}{xs:List V} (I:af X pins σ H s):∀{c:Bool},x4 X.K H a xs c→∃its:List Value,aA xs its∧fE s.heap a its.toArray c
 | true,q=>let ⟨its,rv,p,_⟩:=I.list q;⟨its,rv,p.isList⟩
 | false,q=>let ⟨its,rv,p,_⟩:=I.tuple q;⟨its,rv,p⟩
theorem af.seqC_inj {X:Cx}{pins:List (Addr×Obj)}{σ:St}{H:Hp}{s:Shared}{a:Addr}{xs ys:List V} (I:af X pins σ H s):∀{c:Bool},x4 X.K H a xs c→x4 X.K H a ys c→xs=ys
 | true,p,q=>I.list_inj p q
 | false,p,q=>I.tuple_inj p q
theorem Fe:bootBuiltins "zip" = some (.type "zip"):=by nofun
section
variable {X:Cx}{K:PySem.W.Frag}
end
def Sz (m:Nat) (i:Int):Prop:=i.natAbs<2 ^ m
theorem Sz.mono {m n:Nat}{i:Int} (h:Sz m i) (k:m≤n):Sz n i:=Nat.lt_of_lt_of_le h (Nat.pow_le_pow_right (by decide) k)
theorem Sz.mul {m n:Nat}{i j:Int} (h:Sz m i) (k:Sz n j):Sz (m+n) (i*j):=by
 unfold Sz at *
 rw [Int.natAbs_mul,Nat.pow_add]
 exact Nat.mul_lt_mul'' h k
theorem Sz.add {m:Nat}{i j:Int} (h:Sz m i) (k:Sz m j):Sz (m+1) (i+j):=by
 unfold Sz at *
 rw [Nat.pow_succ]
 trivial
theorem Sz.sub {m:Nat}{i j:Int} (h:Sz m i) (k:Sz m j):Sz (m+1) (i - j):=by
 unfold Sz at *
 rw [Nat.pow_succ]
 trivial
theorem Sz.neg {m:Nat}{i:Int} (h:Sz m i):Sz m (-i):=by
 unfold Sz at *
 trivial
theorem Sz.le {m:Nat}{i j:Int} (h:Sz m j) (k:i.natAbs≤j.natAbs):Sz m i:=Nat.lt_of_le_of_lt k h
theorem Sz.log {m:Nat}{i:Int} (h:Sz m i) (h0:i≠0):i.natAbs.log2<m:=(Nat.log2_lt (by trivial)).mpr h
theorem Sz.bits {m:Nat}{i:Int} (h:Sz m i):Builtin.Int.intBits i≤m:=by
 unfold Builtin.Int.intBits
 by_cases h0:i=0
 ·subst h0;exact Nat.zero_le _
 ·have:=h.log h0
  rw [if_neg (by simpa using h0)]
  trivial
def FM (i j:Int):Prop:=aZ fun m n=>Sz m i∧Sz n j∧m+n≤134217728
section
variable {X:Cx}
theorem bO:cN X (binaryOp .Mult) (rI FM fun i j=>.int (i*j)):=yy fun _ _ _ _ _ _ _ hc q=>by
 obtain ⟨m,n,h1,h2,h3⟩:=hc
 exact mul_int q (PyProof.Rows.mulOk_of_bits h1.bits h2.bits h3)
def BB (_ j:Int):Prop:=j≠0∧Sz 9000 j
theorem zw:cN X (binaryOp .FloorDiv) (rI BB fun i j=>.int (i.fdiv j)):=yy fun i j _ _ _ _ _ hc q=>
 floordiv_int hc.1 q (.inl (PyProof.noPylong_of_log2 (hc.2.log hc.1)))
end
theorem fc {H H':Hp}{D:Addr}{o:HO} (hD:H D=none) (k:ad H H'):ad H (aN H' D o):=fun b u e=>by
 rw [aE (aS e hD)];exact k b u e
theorem ae.nth {E:Addr→Prop}{H:Hp}{vs:List V}{ds:List PyData} (r:ae E H vs ds) (i:Nat) {v:V}{d:PyData} (hv:vs[i]?=some v) (hd:ds[i]?=some d):aM E H v d:=by
 obtain ⟨d',e,h⟩:=r.get hv
 rw [hd] at e
 cases e
 exact h
theorem aq.weak {E:Addr→Prop}{b:Addr}{H H':Hp} (hE:E b) (s:aq (Eb b) H H'):aq E H H':=⟨fun a o n h=>s.old a o (fun z=>n (by rw [z];exact hE)) h,s.tup⟩
theorem aq.free {b p:Addr}{H H9:Hp}{t9:Int} (s:aq (Eb b) H H9) (B:Bx H9 b t9) (h:H9 p=none):H p=none:=by
 cases e:H p with
 | none=>rfl
 | some o=>
  by_cases hb:p=b
  ·obtain ⟨c,x,eb,_⟩:=B
   rw [←hb,h] at eb;cases eb
  ·rw [s.old p o hb e] at h;cases h
mutual
theorem aM.narrow {E F:Addr→Prop}{H:Hp} (k:∀a,F a→E a):∀{v:V}{d:PyData},aM E H v d→aM F H v d
 | _,_,.non=>.non
 | _,_,.bl b=>.bl b
 | _,_,.int i=>.int i
 | _,_,.str x=>.str x
 | _,_,.lst h ne r=>.lst h (fun z=>ne (k _ z)) (ae.narrow k r)
 | _,_,.tup h r=>.tup h (ae.narrow k r)
theorem ae.narrow {E F:Addr→Prop}{H:Hp} (k:∀a,F a→E a):∀{vs:List V}{ds:List PyData},ae E H vs ds→ae F H vs ds
 | _,_,.nil=>.nil
 | _,_,.cons h r=>.cons (aM.narrow k h) (ae.narrow k r)
end
theorem xJ {x:V}{A B:Prop} (h:B):if (!decide (x=x))=true then A else B:=by rw [decide_eq_true rfl];exact aR h
abbrev fr (z:Int×Int):HO:=.tup [.int z.1,.int z.2]
abbrev Lz (n1 d1 n2 d2:Int):Int:=n1*d2 - n2*d1
abbrev LK (n1 _ n2 _:Int):Int:=n1*n2
abbrev Ln (n1 _ _ d2:Int):Int:=n1*d2
abbrev Js (_ d1 _ d2:Int):Int:=d1*d2
abbrev Ly (_ d1 n2 _:Int):Int:=d1*n2
def rN (i j:Int):Int:=if i<j then -1 else if j<i then 1 else 0
inductive Hq (vs:List V) (H:Hp) (Q:VK):Prop
 | mk (a b:Addr) (n1 d1 n2 d2:Int) (h0:vs=[.ref a,.ref b]) (h1:H a=some (.tup [.int n1,.int d1])) (h2:H b=some (.tup [.int n2,.int d2])) (h3:Sz 4000 n1) (h4:Sz 4000 d1) (h5:Sz 4000 n2) (h6:Sz 4000 d2) (h7:Q (.int (rN (n1*d2) (n2*d1))) H)
def JZ:Sp:=fun vs H Q _=>Hq  vs H Q
theorem gE {i j:Int} (h1:Sz 4000 i) (h2:Sz 4000 j):FM i j:=⟨4000,4000,h1,h2,by decide⟩
theorem rF {i j:Int} (h1:Sz 4000 i) (h2:Sz 4000 j):Sz 9000 (i*j):=(h1.mul h2).mono (by decide)
theorem Lf {n d:Int} (hd:d≠0) (h:Sz 9000 d):Sz 9000 ((Int.gcd n d:Nat):Int):=h.le (by
 rw [Int.natAbs_natCast]
 exact Nat.le_of_dvd (by trivial) (Int.ofNat_dvd_left.mp (Int.gcd_dvd_right ..)))
structure Fb (b:Nat) (n d:Int):Prop where
 sn:Sz b n
 sd:Sz b d
 pos:1≤d
 co:Int.gcd n d=1
theorem Fb.low {b:Nat}{n d:Int} (h1:Sz b n) (h2:Sz b d) (hd:d≠0):Fb b (KM.low n d).1 (KM.low n d).2:=by
 obtain ⟨a,_,c,e,f⟩:=KM.low_spec n d hd
 exact ⟨h1.le e,h2.le f,a,c⟩
structure Nw (H:Hp) (p:Addr) (o:HO) (H':Hp):Prop where
 fr:H p=none
 sm:ad H H'
 at':H' p=some o
theorem Nw.mk' {H:Hp}{p:Addr}{o:HO} (h:H p=none):Nw H p o (aN H p o):=⟨h,ad.new h,aB⟩
section
variable {X:Cx}{es:List Expr}{t:TA}{pos:Pos}{K:PySem.W.Frag}
def BN (t:TA):TE:=fun σ H Q=>t σ H fun xs H1=>xs.length≤10000∧∀p H',Nw H1 p (.tup xs) H'→Q (.ref p) H'
def Ju (t:TA):TE:=fun σ H Q=>t σ H fun xs H1=>xs.length≤10000∧∀p H',Nw H1 p (.lst xs) H'→Q (.ref p) H'
theorem lX {n:Nat} (h:n≤10000):n≤sizeLine:=by rw [sizeLine_eq];trivial
theorem ak {x1} (h:PA X es t):PE X (.Tuple es x1 pos) (BN t):=by
 intro pins s σ H Q I hq
 refine wpAny_Tuple_spliced (aO (h pos pins s σ H _ I hq) fun us s1 ⟨xs,H1,I1,r,z',q⟩=>⟨by rw [←r.length];exact lX z',?_⟩)
 have z:=lX z'
 have hf:H1 s1.heap.objs.size=none:=I1.hok.fresh (Nat.le_refl _)
 refine ⟨.ref s1.heap.objs.size,aN H1 s1.heap.objs.size (.tup xs),I1.laid (t':=s1.toks) (fun b u e=>Heap.get?_push_of_some _ e) (Nat.le_refl _) ?_,rfl,q _ _ (.mk' hf)⟩
 exact ⟨z,us,r,⟨_,Heap.get?_push_size _ rfl,rfl,()⟩,_,Heap.get?_push_size _ rfl,rfl⟩
theorem aL (h:PA X es t):PE X (.List es pos) (Ju t):=by
 intro pins s σ H Q I hq
 refine wpAny_List_spliced (aO (h pos pins s σ H _ I hq) fun us s1 ⟨xs,H1,I1,r,z',q⟩=>⟨by rw [←r.length];exact lX z',?_⟩)
 have z:=lX z'
 have hf:H1 s1.heap.objs.size=none:=I1.hok.fresh (Nat.le_refl _)
 refine ⟨.ref s1.heap.objs.size,aN H1 s1.heap.objs.size (.lst xs),I1.laid (t':=s1.toks) (fun b u e=>Heap.get?_push_of_some _ e) (Nat.le_refl _) ?_,rfl,q _ _ (.mk' hf)⟩
 exact ⟨z,us,0,r,Heap.get?_push_size _ rfl⟩
inductive Ie (x:V) (y:V) (H:Hp) (Q:VK):Prop
 | mk (l:_) (b:_) (xs:_) (zs:_) (h0:x=.ref l) (h1:y=.ref b) (h2:H l=some (.lst xs)) (h3:H b=some (.lst zs)) (h4:xs.length+zs.length≤10000) (h5:∀p H',Nw H p (.lst (xs++zs)) H'→Q (.ref p) H')
def JY:R2:=fun x y H Q=>Ie  x y H Q
theorem lJ:cN X (binaryOp .Add) JY:=fun pins s σ H x y v u Q I rx ry ⟨l,b,xs,zs,e1,e2,h1,h2,hz,q⟩=>
 Ix pins s σ H x y v u Q I rx ry ⟨l,b,xs,zs,e1,e2,h1,h2,lX hz,fun p hp=>q p _ (.mk' hp)⟩
inductive Ke (K:PySem.W.Frag) (x:V) (lo:Option Int) (hi:Option Int) (H:Hp) (Q:VK):Prop
 | mk (a:_) (xs:_) (h0:x=.ref a) (h1:ah K H a xs) (h2:∀p H',Nw H p (.lst (gQ xs lo hi)) H'→Q (.ref p) H')
def LE (K:PySem.W.Frag):V→Option Int→Option Int→Hp→VK→Prop:=fun x lo hi H Q=>Ke K x lo hi H Q
theorem jt (e:X.K=K:=by rfl):CK X (LE K):=by
 subst e
 exact fun pins s σ H x v vl vu lo hi sl Q I rx hs pl pu ⟨a,xs,e,h,q⟩=>xy pins s σ H x v vl vu lo hi sl Q I rx hs pl pu ⟨a,xs,e,h,fun p hp=>q p _ (.mk' hp)⟩
inductive Hh (x:V) (y:V) (H:Hp) (Q:VK):Prop
 | mk (l:_) (k:_) (xs:_) (h0:x=.ref l) (h1:y=.int k) (h2:H l=some (.lst xs)) (h3:-(2 ^ 63)≤k) (h4:k<2 ^ 63) (h5:xs.length*k.toNat≤10000) (h6:∀p H',Nw H p (.lst (List.replicate k.toNat xs).flatten) H'→Q (.ref p) H')
def JB:R2:=fun x y H Q=>Hh  x y H Q
theorem xU:cN X (binaryOp .Mult) JB:=fun pins s σ H x y v u Q I rx ry ⟨l,k,xs,e1,e2,h1,h2,h3,hz,q⟩=>
 IL pins s σ H x y v u Q I rx ry ⟨l,k,xs,e1,e2,h1,h2,h3,lX hz,fun p hp=>q p _ (.mk' hp)⟩
inductive FZ (K:PySem.W.Frag) (xs:List V) (H:Hp) (Q:VK):Prop
 | mk (p:_) (ys:_) (h0:xs=[.ref p]) (h1:(ah K H p ys∨ag K H p ys)) (h2:∀l H',Nw H l (.lst ys) H'→Q (.ref l) H')
def Hj (K:PySem.W.Frag):List V→Hp→VK→Prop:=fun xs H Q=>FZ K xs H Q
theorem sw (e:X.K=K:=by rfl):dj X (.type "list") (Hj K):=by
 subst e
 exact fun pins s σ H xs us Q I r ⟨p,ys,e,h,q⟩=>tX pins s σ H xs us Q I r ⟨p,ys,e,h,fun l hl=>q l _ (.mk' hl)⟩
inductive ER (K:PySem.W.Frag) (xs:List V) (H:Hp) (Q:VK):Prop
 | mk (p:_) (ys:_) (h0:xs=[.ref p]) (h1:ah K H p ys) (h2:∀l H',Nw H l (.tup ys) H'→Q (.ref l) H')
def GK (K:PySem.W.Frag):List V→Hp→VK→Prop:=fun xs H Q=>ER K xs H Q
theorem jB (e:X.K=K:=by rfl):dj X (.type "tuple") (GK K):=by
 subst e
 exact fun pins s σ H xs us Q I r ⟨p,ys,e,h,q⟩=>yQ pins s σ H xs us Q I r ⟨p,ys,e,.inl ⟨h,fun l hl=>q l _ (.mk' hl)⟩⟩
end
structure Ch (H:Hp) (p:Addr) (xs:List V) (H':Hp):Prop where
 at':H' p=some (.lst xs)
 ol:∀a o,a≠p→H a=some o→H' a=some o
 fre:∀a,a≠p→H a=none→H' a=none
theorem Ch.mk' {H:Hp}{p:Addr}{xs:List V}:Ch H p xs (aN H p (.lst xs)):=⟨aB,fun a o n h=>by rw [aE n];exact h,fun a n h=>by rw [aE n];exact h⟩
theorem Ch.tup {H H':Hp}{p a:Addr}{xs ys zs:List V} (c:Ch H p xs H') (h:H a=some (.tup ys)) (hp:H p=some (.lst zs)):H' a=some (.tup ys):=c.ol a _ (Bg h hp (by intro z;cases z)) h
section
variable {X:Cx}
inductive Ip (o:V) (i:V) (v:V) (H:Hp) (Q:(Hp→Prop)):Prop
 | mk (p:_) (xs:_) (k:_) (j:_) (h0:o=.ref p) (h1:i=.int k) (h2:H p=some (.lst xs)) (h3:o5 xs.length k=some j) (h4:∀H',Ch H p (xs.set j v) H'→Q H')
def Jw:V→V→V→Hp→(Hp→Prop)→Prop:=fun o i v H Q=>Ip  o i v H Q
theorem yF:Cg X Jw:=fun pins s σ H o i v ov iv u Q I ro ri rv ⟨p,xs,k,j,e1,e2,h,hj,q⟩=>re pins s σ H o i v ov iv u Q I ro ri rv ⟨p,xs,k,j,e1,e2,h,hj,q _ .mk'⟩
inductive HH (x:V) (vs:List V) (H:Hp) (Q:VK):Prop
 | mk (l:_) (xs:_) (y:_) (h0:x=.ref l) (h1:vs=[y]) (h2:H l=some (.lst xs)) (h3:xs.length≤10000) (h4:∀H',Ch H l (xs++[y]) H'→Q .non H')
def Cm:V→List V→Hp→VK→Prop:=fun x vs H Q=>HH  x vs H Q
theorem bU:wD X "list.append" Cm:=fun pins s σ H x vs v us Q I rx rv ⟨l,xs,y,e1,e2,h,hz,q⟩=>yE pins s σ H x vs v us Q I rx rv ⟨l,xs,y,e1,e2,h,(by rw [sizeLine_eq];trivial),q _ .mk'⟩
end
inductive GH (vs:List V) (H:Hp) (Q:VK):Prop
 | mk (n d:Int) (h0:vs=[.int n,.int d]) (h1:d≠0) (h2:Sz 9000 d) (h3:∀p H',Nw H p (fr (KM.low n d)) H'→Q (.ref p) H')
def Jl:Sp:=fun vs H Q _=>GH  vs H Q
inductive Gv (num den:Int→Int→Int→Int→Int) (vs:List V) (H:Hp) (Q:VK):Prop
 | mk (a b:Addr) (n1 d1 n2 d2:Int) (h0:vs=[.ref a,.ref b]) (h1:H a=some (.tup [.int n1,.int d1])) (h2:H b=some (.tup [.int n2,.int d2])) (h3:(Sz 4000 n1∧Sz 4000 d1∧Sz 4000 n2∧Sz 4000 d2∧den n1 d1 n2 d2≠0)) (h4:∀p H',Nw H p (fr (KM.low (num n1 d1 n2 d2) (den n1 d1 n2 d2))) H'→Q (.ref p) H')
def Ai (num den:Int→Int→Int→Int→Int):Sp:=fun vs H Q _=>Gv num den vs H Q
theorem Fb.small {b:Nat}{n d:Int} (h1:n.natAbs<2 ^ b) (h2:d.natAbs<2 ^ b) (h3:1≤d) (h4:Int.gcd n d=1):Fb b n d:=⟨h1,h2,h3,h4⟩
theorem Bx.ch {H H':Hp}{b p:Addr}{t:Int}{xs:List V} (h:Bx H b t) (k:Ch H p xs H') (ne:b≠p):Bx H' b t:=by
 obtain ⟨c,x,e,q,q2,q3⟩:=h
 exact ⟨c,x,k.ol b _ ne e,q,q2,q3⟩
theorem Bx.ne {H:Hp}{b p:Addr}{t:Int} (h:Bx H b t) (hp:H p=none):b≠p:=fun z=>by
 obtain ⟨c,x,e,_⟩:=h
 rw [z,hp] at e;cases e
section
variable {X:Cx}{e:Expr}{te:TE}{st:Expr}{ts:TO}{p2 pos:Pos}{K:PySem.W.Frag}
inductive IE (x:V) (vs:List V) (H:Hp) (Q:VK):Prop
 | mk (l:_) (xs:_) (k:_) (y:_) (h0:x=.ref l) (h1:vs=[.int k,y]) (h2:H l=some (.lst xs)) (h3:0≤k) (h4:k≤xs.length) (h5:xs.length≤10000) (h6:∀H',Ch H l (xs.take k.toNat++y :: xs.drop k.toNat) H'→Q .non H')
def Kh:V→List V→Hp→VK→Prop:=fun x vs H Q=>IE  x vs H Q
theorem BE:wD X "list.insert" Kh:=by
 intro pins s σ H x vs v us Q I rx rv h
 obtain ⟨l,xs,k,y,rfl,rfl,hH,h0,h1,hz,q⟩:=h
 cases rx
 obtain ⟨u1,u2,rfl,r1,r2⟩:=rv.two
 obtain ⟨t1,rfl⟩:=r1
 obtain ⟨z,its,n,r,hl,e⟩:=I.lstM hH
 have hf:Builtin.List.listFitsIndex k=true:=by
  unfold Builtin.List.listFitsIndex
  simp
  trivial
 refine call_meets F.slot_list_insert ⟨_,e,rfl⟩ F.entry_list_insert (F.args_list_insert_3 _ _ _) (AutoSeq1.list_insert_list_int_val_1 l its.toArray n k t1 u2 (by simp [hf]) (by rw [List.size_toArray];trivial)) ⟨e,?_⟩
 refine ⟨.non,_,I.lset (its':=its.take k.toNat++u2 :: its.drop k.toNat) hH e ?_ ((r.take k.toNat).append (.cons r2 (r.drop k.toNat))) ?_,rfl,q _ .mk'⟩
 ·have hk:¬k<0:=by trivial
  have hm:min k.toNat its.length=k.toNat:=by trivial
  simp only [if_neg hk,List.size_toArray,hm]
  apply Array.ext'
  simp
  exact List.take_of_length_le (by rw [List.length_drop];trivial)
 ·rw [List.length_append,List.length_cons,List.length_take,List.length_drop,sizeLine_eq]
  trivial
end
def S (l:List Nat):Str:=⟨l.toArray⟩
theorem gW {a b:List Nat} (h:S a=S b):a=b:=by
 have:a.toArray=b.toArray:=by injection h
 simpa using this
theorem Bt (a b:List Nat):S a++S b=S (a++b):=by
 show (⟨a.toArray++b.toArray⟩:Str)=⟨(a++b).toArray⟩
 simp
theorem xt (a:List Nat):(S a).length=a.length:=by
 show a.toArray.size=_
 simp
theorem II (a:List Nat):(S a).cps.toList=a:=rfl
theorem Em (k:Nat) (l:List Nat):∀acc:List Nat,(List.replicate k l.toArray).foldl (·++·) acc.toArray=(acc++(List.replicate k l).flatten).toArray:=by
 induction k with
 | zero=>intro acc;simp
 | succ k ih=>
  intro acc
  rw [List.replicate_succ,List.foldl_cons,List.replicate_succ,List.flatten_cons]
  have:acc.toArray++l.toArray=(acc++l).toArray:=by simp
  rw [this,ih,List.append_assoc]
theorem ya:∀ls:List (List Nat),Str.join (S []) (ls.map S)=S ls.flatten
 | []=>rfl
 | [a]=>by
  show S a=S (a++[])
  rw [List.append_nil]
 | a :: b :: r=>by
  have e:Str.join (S []) ((a :: b :: r).map S)=S a++S []++Str.join (S []) ((b :: r).map S):=rfl
  rw [e,ya (b :: r),Bt,Bt,List.append_nil]
  rfl
section
variable {X:Cx}{K:PySem.W.Frag}
inductive IC (x:V) (y:V) (H:Hp) (Q:VK):Prop
 | mk (l:_) (n:_) (h0:x=.str (S l)) (h1:y=.int n) (h2:1≤n) (h3:n≤1000) (h4:l.length≤100) (h5:Q (.str (S (List.replicate n.toNat l).flatten)) H)
def Kd:R2:=fun x y H Q=>IC  x y H Q
theorem A6:cN X (binaryOp .Mult) Kd:=by
 intro pins s σ H x y v u Q I rx ry h
 obtain ⟨l,n,rfl,rfl,h1,h2,h3,q⟩:=h
 obtain ⟨t,rfl⟩:=rx
 obtain ⟨t',rfl⟩:=ry
 have hlen:(S l).length=l.length:=xt l
 have hmul:l.length*n.toNat≤100*1000:=Nat.mul_le_mul h3 (by trivial)
 refine PySem.P.mul_str ?_ ?_ ?_ ?_
 ·rw [decide_eq_false (by trivial),decide_eq_false (by trivial)];rfl
 ·intro _ _
  rw [hlen]
  have:(100:Int)<(2 ^ 63 - 1) / n:=by
   have:(100+1)*n≤2 ^ 63 - 1:=by trivial
   have:=(Int.le_ediv_iff_mul_le (by trivial:0<n)).mpr this
   trivial
  trivial
 ·intro _ _
  rw [hlen]
  unfold Builtin.Str.tooLong
  rw [decide_eq_false]
  rw [sizeLine_eq]
  trivial
 ·rw [if_neg (by trivial)]
  by_cases hn:(n==1 || (S l).length==0)=true
  ·rw [if_pos hn]
   refine ⟨.str (S l),H,I,⟨t,rfl⟩,?_⟩
   have e:(List.replicate n.toNat l).flatten=l:=by
    rw [hlen] at hn
    have hn':n=1∨l.length=0:=by simpa using hn
    rcases hn' with rfl | hn'
    ·simp
    ·have:l=[]:=List.eq_nil_of_length_eq_zero hn'
     subst this
     simp
   rw [e] at q
   exact q
  ·rw [if_neg hn]
   have e:(⟨(List.replicate n.toNat (S l).cps).foldl (·++·) #[]⟩:Str)=S (List.replicate n.toNat l).flatten:=by
    have e:=Em n.toNat l []
    rw [List.nil_append] at e
    exact congrArg Str.mk e
   rw [e]
   refine ⟨?_,.str (S (List.replicate n.toNat l).flatten),H,I.tok _,⟨()⟩,q⟩
   rw [xt,A4,sizeLine_eq,Nat.mul_comm]
   trivial
inductive Je (K:PySem.W.Frag) (x:V) (vs:List V) (H:Hp) (Q:VK):Prop
 | mk (a:_) (ls:_) (h0:x=.str (S [])) (h1:vs=[.ref a]) (h2:ah K H a ((ls:List (List Nat)).map fun l=>V.str (S l))) (h3:(ls.map (·.length)).sum≤10000) (h4:Q (.str (S ls.flatten)) H)
def KD (K:PySem.W.Frag):V→List V→Hp→VK→Prop:=fun x vs H Q=>Je K x vs H Q
theorem Dt {ls:List (List Nat)}:∀{us:List Value},aA (ls.map fun l=>V.str (S l)) us→StrsAre us (ls.map S):=by
 induction ls with
 | nil=>intro us h;cases h;exact .nil
 | cons l r ih=>
  intro us h
  cases h with
  | cons h t=>
   obtain ⟨tk,rfl⟩:=h
   exact .cons _ _ (ih t)
theorem GG (ek:X.K=K:=by rfl):FK X "str.join" (KD K):=by
 subst ek
 intro pins s σ H x vs v us Q I rx rv h
 obtain ⟨a,ls,rfl,rfl,hS,hz,q⟩:=h
 obtain ⟨t,rfl⟩:=rx
 obtain ⟨u,rfl,ru⟩:=rv.one
 obtain rfl:u=Value.ref a:=ru
 obtain ⟨its,r,ht,_⟩:=I.list hS
 have e1:((ls.map S).map (·.length)).sum=(ls.map (·.length)).sum:=by
  rw [List.map_map]
  congr 1
 refine join_list (ys:=ls.map S) ht.isList (by simpa using Dt r) ?_ fun t' k=>?_
 ·rw [e1,show (S []).length=0 from rfl]
  trivial
 ·have:=join_plain_closes (S []) (ls.map S)
  rw [eq_of_beq this,ya]
  exact ⟨.str (S ls.flatten),H,I.tok k,⟨()⟩,q⟩
inductive HV (x:V) (y:V) (H:Hp) (Q:VK):Prop
 | mk (a:_) (b:_) (h0:x=.str (S a)) (h1:y=.str (S b)) (h2:a.length+b.length≤10000) (h3:Q (.str (S (a++b))) H)
def KN:R2:=fun x y H Q=>HV  x y H Q
theorem AI:cN X (binaryOp .Add) KN:=fun pins s σ H x y v u Q I rx ry ⟨a,b,e1,e2,hz,q⟩=>
 BZ pins s σ H x y v u Q I rx ry ⟨S a,S b,e1,e2,by rw [xt,xt];exact lX hz,by rw [Bt];exact q⟩
end
theorem BC:Str.ofString "abcdefghijklmnopqrstuvwxyz" = S ((List.range 26).map (97+·)):=by nofun
theorem E6:Str.ofString "" = S []:=by nofun
theorem x5 {i:Int} (h0:-26≤i) (h1:i<26):ik ((Str.ofString "abcdefghijklmnopqrstuvwxyz").cps.toList) i=some (97+(i % 26).toNat):=by
 rw [BC,II]
 have:∀k:Fin 52,ik ((List.range 26).map (97+·)) ((k.val:Int) - 26)=some (97+(((k.val:Int) - 26) % 26).toNat):=by nofun
 have e:=this ⟨(i+26).toNat,by trivial⟩
 simp only at e
 rw [show (((i+26).toNat:Nat):Int) - 26=i by trivial] at e
 exact e
theorem Ji {f:Int}{j k:Nat} (hj:j<26) (hk:k<26) (h:(f+11*(j:Int)) % 26=(f+11*(k:Int)) % 26):j=k:=by trivial
structure lK (l:List Nat):Prop where
 lo:1≤l.length
 hi:l.length≤8
 az:∀c∈l,97≤c∧c≤122
abbrev ar (l:List Nat):V:=.str (S l)
def nm (c k:Nat):List Nat:=List.replicate (1+k) c
theorem EI (n c:Nat):(List.replicate n [c]).flatten=List.replicate n c:=by
 induction n with
 | zero=>rfl
 | succ n ih=>rw [List.replicate_succ,List.flatten_cons,ih,List.replicate_succ];rfl
theorem Kb {c k:Nat} (hk:k<8) (h1:97≤c) (h2:c≤122):lK (nm c k):=⟨by simp [nm],by simp [nm];trivial,fun d hd=>by
 have:=List.eq_of_mem_replicate hd
 trivial⟩
theorem pq {xs:List V}{m:Int} (h:0≤m):gQ xs none (some m)=xs.take m.toNat:=by
 unfold gQ
 have e:m=((m.toNat:Nat):Int):=by trivial
 rw [HT.sIx_none,e,HT.sIx_nat]
 simp only [Int.toNat_natCast,List.drop_zero,Nat.sub_zero]
 by_cases hm:m.toNat≤xs.length
 ·rw [Nat.min_eq_left hm]
 ·rw [Nat.min_eq_right (by trivial),List.take_of_length_le (Nat.le_refl _),List.take_of_length_le (by trivial)]
theorem Ax {ls:List (List Nat)}{f:Int} (hl:ls.length≤26) (h:∀(j:Nat) (l:List Nat),ls[j]?=some l→l.head?=some (97+((f+11*(j:Int)) % 26).toNat)):ls.Nodup:=by
 rw [List.nodup_iff_pairwise_ne,List.pairwise_iff_getElem]
 intro i j hi hj hij e
 have h1:=h i ls[i] (List.getElem?_eq_getElem hi)
 have h2:=h j ls[j] (List.getElem?_eq_getElem hj)
 rw [e,h2] at h1
 injection h1 with h1
 have a1:=Int.emod_nonneg (f+11*(i:Int)) (by decide:(26:Int)≠0)
 have a2:=Int.emod_nonneg (f+11*(j:Int)) (by decide:(26:Int)≠0)
 have:=Ji (f:=f) (j:=i) (k:=j) (by trivial) (by trivial) (by trivial)
 trivial
theorem aq.ch {b D:Addr}{H H1 H2:Hp}{xs:List V} (s:aq (Eb b) H H1) (c:Ch H1 D xs H2) (hD:H D=none):aq (Eb b) H H2:=
 ⟨fun a u ne h=>c.ol a u (aS h hD) (s.old a u ne h),fun a us h=>c.ol a _ (aS h hD) (s.tup a us h)⟩
theorem aq.up {b D:Addr}{H H1:Hp}{o:HO} (s:aq (Eb b) H H1) (hD:H D=none):aq (Eb b) H (aN H1 D o):=
 ⟨fun a u ne h=>by rw [aE (aS h hD)];exact s.old a u ne h,fun a us h=>by rw [aE (aS h hD)];exact s.tup a us h⟩
def IF (x:Str):Prop:=x.length≤300∧∀c∈x.cps.toList,c<128
mutual
inductive Wt:PyData→Nat→Nat→Prop
 | non {k:Nat}:Wt .none 1 k
 | bl (b:Bool) {k:Nat}:Wt (.bool b) 1 k
 | int {i:Int} (h:Sz 1900 i) {k:Nat}:Wt (.int i) 1 k
 | str {x:Str} (h:IF x) {k:Nat}:Wt (.str x) 1 k
 | list {xs:List PyData}{n k:Nat} (h:cX xs n k):Wt (.list xs) (n+1) (k+1)
 | tuple {xs:List PyData}{n k:Nat} (h:cX xs n k):Wt (.tuple xs) (n+1) (k+1)
inductive cX:List PyData→Nat→Nat→Prop
 | nil {k:Nat}:cX [] 0 k
 | cons {x:PyData}{xs:List PyData}{m n k:Nat} (h:Wt x m k) (r:cX xs n k):cX (x :: xs) (m+n) k
end
mutual
theorem Wt.deep:∀{d:PyData}{n k:Nat},Wt d n k→∀{l:Nat},k≤l→Wt d n l
 | _,_,_,.non,_,_=>.non
 | _,_,_,.bl b,_,_=>.bl b
 | _,_,_,.int h,_,_=>.int h
 | _,_,_,.str h,_,_=>.str h
 | _,_,_,.list h,l,hl=>by
  obtain ⟨m,rfl⟩:∃m,l=m+1:=⟨l - 1,by trivial⟩
  exact .list (cX.deep h (by trivial))
 | _,_,_,.tuple h,l,hl=>by
  obtain ⟨m,rfl⟩:∃m,l=m+1:=⟨l - 1,by trivial⟩
  exact .tuple (cX.deep h (by trivial))
theorem cX.deep:∀{ds:List PyData}{n k:Nat},cX ds n k→∀{l:Nat},k≤l→cX ds n l
 | _,_,_,.nil,_,_=>.nil
 | _,_,_,.cons h r,_,hl=>.cons (Wt.deep h hl) (cX.deep r hl)
end
theorem Wt.pos {d:PyData}{n k:Nat} (h:Wt d n k):1≤n:=by cases h <;> trivial
mutual
theorem Wt.dep:∀{d:PyData}{n k:Nat},Wt d n k→d.depth≤k
 | _,_,_,.non=>by simp [PyData.depth]
 | _,_,_,.bl b=>by simp [PyData.depth]
 | _,_,_,.int h=>by simp [PyData.depth]
 | _,_,_,.str h=>by simp [PyData.depth]
 | _,_,_,.list h=>by simp only [PyData.depth];exact Nat.succ_le_succ (cX.dep h)
 | _,_,_,.tuple h=>by simp only [PyData.depth];exact Nat.succ_le_succ (cX.dep h)
theorem cX.dep:∀{ds:List PyData}{n k:Nat},cX ds n k→PyData.depthAll ds≤k
 | _,_,_,.nil=>by simp [PyData.depthAll]
 | _,_,_,.cons h r=>by simp only [PyData.depthAll];exact Nat.max_le.mpr ⟨Wt.dep h,cX.dep r⟩
end
mutual
theorem Wt.sho:∀{d:PyData}{n k:Nat},Wt d n k→d.showable=true
 | _,_,_,.non=>by simp [PyData.showable]
 | _,_,_,.bl b=>by simp [PyData.showable]
 | _,_,_,.int (i:=i) h=>by
  simp only [PyData.showable,decide_eq_true_iff]
  by_cases h0:i=0
  ·subst h0;decide
  ·exact Nat.lt_trans (h.log h0) (by decide)
 | _,_,_,.str h=>by simp [PyData.showable]
 | _,_,_,.list h=>by simp only [PyData.showable];exact cX.sho h
 | _,_,_,.tuple h=>by simp only [PyData.showable];exact cX.sho h
theorem cX.sho:∀{ds:List PyData}{n k:Nat},cX ds n k→PyData.showableAll ds=true
 | _,_,_,.nil=>by simp [PyData.showableAll]
 | _,_,_,.cons h r=>by simp only [PyData.showableAll,Bool.and_eq_true];exact ⟨Wt.sho h,cX.sho r⟩
end
mutual
theorem Wt.nod:∀{d:PyData}{n k:Nat},Wt d n k→d.hasDict=false
 | _,_,_,.non=>by simp [PyData.hasDict]
 | _,_,_,.bl b=>by simp [PyData.hasDict]
 | _,_,_,.int h=>by simp [PyData.hasDict]
 | _,_,_,.str h=>by simp [PyData.hasDict]
 | _,_,_,.list h=>by simp only [PyData.hasDict];exact cX.nod h
 | _,_,_,.tuple h=>by simp only [PyData.hasDict];exact cX.nod h
theorem cX.nod:∀{ds:List PyData}{n k:Nat},cX ds n k→PyData.hasDictAll ds=false
 | _,_,_,.nil=>by simp [PyData.hasDictAll]
 | _,_,_,.cons h r=>by simp only [PyData.hasDictAll,Bool.or_eq_false_iff];exact ⟨Wt.nod h,cX.nod r⟩
end
mutual
theorem Wt.len:∀{d:PyData}{n k:Nat},Wt d n k→d.shown.length+2≤3010*n
 | _,_,_,.non=>by
  rw [PyData.shown]
  decide +kernel
 | _,_,_,.bl b=>by
  rw [PyData.shown]
  cases b <;> decide +kernel
 | _,_,_,.int (i:=i) h=>by
  rw [PyData.shown]
  have hl:i.natAbs.log2<1920:=by
   by_cases h0:i=0
   ·subst h0;decide
   ·exact Nat.lt_trans (h.log h0) (by decide)
  have:=int_text_len_1921 hl
  trivial
 | _,_,_,.str (x:=x) h=>by
  rw [PyData.shown]
  have:=PySem.StrLaws.reprText_len x (fun c hc=>Nat.lt_trans (h.2 c hc) (by decide))
  have:=h.1
  trivial
 | _,_,_,.list (xs:=xs) (n:=n) h=>by
  rw [PyData.shown]
  have h1:=listText_len_le (PyData.shownAll xs)
  have h2:=cX.len h
  trivial
 | _,_,_,.tuple (xs:=xs) (n:=n) h=>by
  rw [PyData.shown]
  have h1:=tupleText_len_le (PyData.shownAll xs)
  have h2:=cX.len h
  trivial
theorem cX.len:∀{ds:List PyData}{n k:Nat},cX ds n k→((PyData.shownAll ds).map (·.length)).sum+2*(PyData.shownAll ds).length≤3010*n
 | _,_,_,.nil=>by simp [PyData.shownAll]
 | _,_,_,.cons (x:=x) (xs:=xs) (m:=m) (n:=n) h r=>by
  rw [PyData.shownAll,List.map_cons,List.sum_cons,List.length_cons]
  have h1:=Wt.len h
  have h2:=cX.len r
  have h3:=h.pos
  trivial
end
end L2
namespace L2
open PySem PySem.Spec PyProof.Rows
mutual
theorem Wt.can:∀{d:PyData}{n k:Nat},Wt d n k→d.canLay0=true
 | _,_,_,.non=>by simp [PyData.canLay0]
 | _,_,_,.bl b=>by simp [PyData.canLay0]
 | _,_,_,.int h=>by simp [PyData.canLay0]
 | _,_,_,.str (x:=x) h=>by
  simp only [PyData.canLay0]
  unfold PySem.PyData.strOk
  rw [Array.all_eq_true]
  intro i hi
  have:=h.2 x.cps[i] (by simp)
  simp
  trivial
 | _,_,_,.list h=>by simp only [PyData.canLay0];exact cX.can h
 | _,_,_,.tuple h=>by simp only [PyData.canLay0];exact cX.can h
theorem cX.can:∀{ds:List PyData}{n k:Nat},cX ds n k→PyData.canLayAll0 ds=true
 | _,_,_,.nil=>by simp [PyData.canLayAll0]
 | _,_,_,.cons h r=>by simp only [PyData.canLayAll0,Bool.and_eq_true];exact ⟨Wt.can h,cX.can r⟩
end
section
variable {X:Cx}
inductive Kk (ne:Bool) (x:V) (y:V) (H:Hp) (Q:VK):Prop
 | mk (d e:PyData) (E F:Addr→Prop) (m n k l:Nat) (h0:aM E H x d) (h1:aM F H y e) (h2:Wt d m k) (h3:Wt e n l) (h4:k≤60) (h5:Q (.bl (if ne then !PyData.eqv d e else PyData.eqv d e)) H)
def Ll (ne:Bool):R2:=fun x y H Q=>Kk ne x y H Q
theorem Cw (hu:X.A.units+64<cLine):cN X (compareOp .Eq) (Ll false):=by
 intro pins s σ H x y v u Q I rx ry h
 obtain ⟨d,e,E,F,m,n,k,l,hd,he,wd,we,hk,q⟩:=h
 obtain ⟨as,ra⟩:=hd.reads I.hok rx
 obtain ⟨bs,rb⟩:=he.reads I.hok ry
 exact PySem.SeqAt.compareEq_reads ra rb wd.can we.can (by have:=wd.dep;trivial) ⟨.bl _,H,I,rfl,q⟩
inductive Hi (xs:List V) (H:Hp) (Q:VK):Prop
 | mk (a:Addr) (d:PyData) (E:Addr→Prop) (n k:Nat) (h0:xs=[.ref a]) (h1:aM E H (.ref a) d) (h2:Wt d n k) (h3:n≤5500) (h4:k≤50) (h5:Q (.str d.shown) H)
def Kx:List V→Hp→VK→Prop:=fun xs H Q=>Hi  xs H Q
theorem yh {k:Nat} (hr:gD k X.A):dj X (.type "str") Kx:=fun pins s σ H xs us Q I r ⟨a,d,E,n,k,e,hd,w,hn,hk,q⟩=>
 yS hr pins s σ H xs us Q I r ⟨a,d,E,e,hd,w.sho,w.nod,by have:=w.dep;trivial,by have:=w.len;rw [sizeLine_eq];trivial,q⟩
end
abbrev ED:Addr→Prop:=fun _=>True
abbrev cM (p:KM.Fra):PyData:=.tuple [.int p.1,.int p.2]
structure aI where
 bg:List Nat
 en:List Nat
 most:KM.Fra
 gain:KM.Fra
 price:KM.Fra
abbrev oB (t:aI):PyData:=.tuple [.str (S t.bg),.str (S t.en),cM t.most,cM t.gain,cM t.price]
abbrev gF (ls:List (List Nat)) (ts:List aI):PyData:=.tuple [.tuple (ls.map fun l=>.str (S l)),.tuple (ts.map oB)]
theorem fY {H:Hp}{o:Addr}{p:KM.Fra} (h:H o=some (.tup [.int p.1,.int p.2])):aM ED H (.ref o) (cM p):=.tup h (.cons (.int _) (.cons (.int _) .nil))
theorem iG {E:Addr→Prop}{H:Hp}{v:V}{p:KM.Fra} (h:aM E H v (cM p)):∃o,v=.ref o∧H o=some (.tup [.int p.1,.int p.2]):=by
 cases h with
 | @tup a xs _ h r=>
  cases r with
  | cons h1 r=>
  cases r with
  | cons h2 r=>
  cases r
  cases h1
  cases h2
  exact ⟨a,rfl,h⟩
theorem aM.tupS {E F:Addr→Prop}{H H':Hp}{v:V}{d:PyData} (h:aM ED H v d) (k:aq E H H'):aM ED H' v d:=h.mono ⟨fun _ _ n _=>absurd trivial n,k.tup⟩
theorem ae.tupS {E:Addr→Prop}{H H':Hp}{v:List V}{d:List PyData} (h:ae ED H v d) (k:aq E H H'):ae ED H' v d:=h.mono ⟨fun _ _ n _=>absurd trivial n,k.tup⟩
theorem aM.tupC {H H':Hp}{v:V}{d:PyData}{p:Addr}{xs ys:List V} (h:aM ED H v d) (k:Ch H p xs H') (hp:H p=some (.lst ys)):aM ED H' v d:=h.mono ⟨fun _ _ n _=>absurd trivial n,fun _ _ e=>k.tup e hp⟩
theorem aM.sm {E:Addr→Prop}{H H':Hp}{v:V}{d:PyData} (h:aM E H v d) (k:ad H H'):aM E H' v d:=h.mono k.toE
theorem aM.any {E:Addr→Prop}{H:Hp}{v:V}{d:PyData} (h:aM ED H v d):aM E H v d:=h.narrow fun _ _=>trivial
theorem zk {H:Hp}:∀ls:List (List Nat),ae ED H (ls.map ar) (ls.map fun l=>.str (S l))
 | []=>.nil
 | _ :: r=>.cons (.str _) (zk r)
theorem mC {l:List Nat} (h:lK l):IF (S l):=⟨by rw [xt];have:=h.hi;trivial,fun c hc=>by have:=h.az c hc;trivial⟩
theorem p7 {α:Type}{f:α→PyData}{m k:Nat}:∀{xs:List α},(∀x∈xs,Wt (f x) m k)→cX (xs.map f) (m*xs.length) k
 | [],_=>.nil
 | x :: r,h=>by
  have e:m*(x :: r).length=m+m*r.length:=by rw [List.length_cons,Nat.mul_succ,Nat.add_comm]
  rw [e]
  exact .cons (h x (by simp)) (p7 fun y hy=>h y (List.mem_cons_of_mem _ hy))
end L2
namespace L2
open PySem PySem.Spec PyProof.Rows
inductive Iw (c:Nat) (lo:Int) (vs:List V) (H:Hp) (Q:VK):Prop
 | mk (b:Addr) (t:Int) (h0:vs=[.ref b]) (h1:Bx H b t) (h2:0≤t) (h3:t≤900000) (h4:∀o n d t' H',aq (Eb b) H H'→H' o=some (.tup [.int n,.int d])→Fb c n d→lo≤n→Bx H' b t'→t≤t'→t'≤t+6→Q (.ref o) H')
def Kg (c:Nat) (lo:Int):Sp:=fun vs H Q _=>Iw c lo vs H Q
theorem GL {n d:Int} (hn:1≤n) (hn2:n≤60) (hd:1≤d) (hd2:d≤60):Fb 6 (KM.low n d).1 (KM.low n d).2∧1≤(KM.low n d).1:=by
 have a:Sz 6 n:=by show n.natAbs<64;trivial
 have b:Sz 6 d:=by show d.natAbs<64;trivial
 refine ⟨Fb.low a b (by trivial),?_⟩
 have:=(KM.low_sgn (n:=n) (d:=d) (by trivial)).1.mpr (by trivial)
 trivial
theorem Lb {c:Bool}{a b:Int}{σ:St}{H:Hp}{Q:VK} (h:Q (.int (if c=true then a else b)) H):if c=true then tC (.int a) σ H Q else tC (.int b) σ H Q:=by
 cases c with
 | true=>exact bF h
 | false=>exact aR h
theorem mH {m:Int} (h0:0<m) (h1:m<1099511627776):m.natAbs.log2<9000:=by
 have a:Sz 40 m:=by show m.natAbs<1099511627776;trivial
 exact Nat.lt_trans (a.log (by trivial)) (by decide)
theorem AK {n f r:Int} (h0:0≤f) (h1:f<n) (r0:0≤r) (r1:r<n - 1):0≤(f+1+r) % n∧(f+1+r) % n<n∧(f+1+r) % n≠f:=by
 have hn:0<n:=by trivial
 refine ⟨Int.emod_nonneg _ (by trivial),Int.emod_lt_of_pos _ hn,?_⟩
 by_cases h:f+1+r<n
 ·rw [Int.emod_eq_of_lt (by trivial) h];trivial
 ·have e:(f+1+r) % n=f+1+r - n:=by
   have h2:(f+1+r) % n=(f+1+r - n) % n:=by rw [Int.sub_emod_right]
   rw [h2,Int.emod_eq_of_lt (by trivial) (by trivial)]
  rw [e];trivial
theorem p8 {α:Type}{xs:List α}{k:Int}{f:α→V} (h0:0≤k) (h:k.toNat<xs.length):ik (xs.map f) k=some (f xs[k.toNat]):=by
 have q:=cv (xs:=xs.map f) (j:=k.toNat) (v:=f xs[k.toNat]) (by rw [List.getElem?_map];simp [h])
 rwa [Int.toNat_of_nonneg h0] at q
end L2
namespace L2
theorem jk {α:Type}{ls:List α} (h:ls.Nodup) {i j:Nat} (hi:i<ls.length) (hj:j<ls.length) (e:ls[i]=ls[j]):i=j:=by
 have p:=List.pairwise_iff_getElem.mp h
 rcases Nat.lt_trichotomy i j with q | q | q
 ·exact absurd e (p i j hi hj q)
 ·exact q
 ·exact absurd e.symm (p j i hj hi q)
end L2
namespace L2
open PySem PySem.Spec PyProof.Rows
theorem IJ {c:Bool}{ta tb:TE}{σ:St}{H:Hp}{Q:VK} (I:V→Hp→Prop) (rest:∀v H',I v H'→Q v H') (h1:c=true→(∀v H',I v H'→Q v H')→ta σ H Q) (h2:c=false→(∀v H',I v H'→Q v H')→tb σ H Q) :
 if c=true then ta σ H Q else tb σ H Q:=by
 cases c with
 | true=>exact bF (h1 rfl rest)
 | false=>exact aR (h2 rfl rest)
end L2
namespace L2
end L2
namespace L2
open PySem PySem.Spec PyProof.Rows
theorem ae.take {E:Addr→Prop}{H:Hp}:∀{xs:List V}{ds:List PyData} (n:Nat),ae E H xs ds→ae E H (xs.take n) (ds.take n)
 | _,_,0,_=>by simp;exact .nil
 | _,_,_+1,.nil=>by simp;exact .nil
 | _,_,n+1,.cons h r=>by simp;exact .cons h (ae.take n r)
end L2
namespace L2
open PySem PySem.Spec PyProof.Rows
open AutoSeq1 (wpAny_loadPart')
set_option maxHeartbeats 4000000 in
theorem Er (l:Addr) (its:Array Value) (n:Nat) (dct:Option Addr) (sl:Array (Option Value)) :
 Meets (Builtin.«enumerate.__new__» ⟨[.type "enumerate",.ref l],[]⟩) (fun _ R s=>s.heap.get? l=some { cls:=.type "tuple",dict:=dct,data:=.seq its n,slots:=sl }∧
  R (.ok (.ret (.ref (s.heap.push { cls:=.type "tuple_iterator",data:=.fields #[.ref l,.int 0 0] }).objs.size))) { s with heap:=(s.heap.push { cls:=.type "tuple_iterator",data:=.fields #[.ref l,.int 0 0] }).push { cls:=.type "enumerate",data:=.fields #[.none,.bool false,.ref s.heap.objs.size,rawInt 0,.none,.none] } }):=
 .of_wp fun prog w A R s h=>by
  obtain ⟨hp,g,d,tk,os⟩:=s;obtain ⟨hl,h⟩:=h;have hsub:=sub_enumerate
  have hT:Heap.IsTuple (Shared.heap ⟨hp,g,d,tk,os⟩) l its:=⟨_,hl,rfl,n,rfl⟩
  wp_walk using wpAny_loadPart' hl
  refine wpAny_stack_any fun st=>wpAny_pure ?_;split
  ·rename_i c _ _ _ _ _;cases (c==Value.type "enumerate")
   ·wp_walk using wpAny_loadPart' hl,wpAny_pyIter_tuple hT
    exact ⟨(),h⟩
   ·wp_walk using wpAny_loadPart' hl,wpAny_pyIter_tuple hT
    exact ⟨(),h⟩
  ·wp_walk using wpAny_loadPart' hl,wpAny_pyIter_tuple hT
   exact ⟨(),h⟩
section
variable {prog:Program}{w:World}{A:Around}{E:Value→Shared→Prop}{s:Shared}
theorem Cq {l:Addr}{its:Array Value}{Q:Value→Shared→Prop}:∀{c:Bool},fE s.heap l its c→
 (∀h',IsEnum h' (s.heap.objs.size+1) s.heap.objs.size 0 .none→fV h' s.heap.objs.size l 0 c→(∀b o,s.heap.get? b=some o→h'.get? b=some o)→Q (.ref (s.heap.objs.size+1)) { s with heap:=h' })→
 wpAny (model prog w) A (call (.type "enumerate") [.ref l]) Q E s
 | true,q,h=>call_enumerate_list q fun h' a b _ k=>h h' a b k
 | false,q,h=>by
  obtain ⟨⟨c,dct,dt,sl⟩,hl,hc,n,hd⟩:=q
  dsimp only at hc hd
  subst hc hd
  refine callType_new F.called_enumerate (by decide) (F.typeCall_enumerate_1 _) (F.newCall_enumerate_1 _) (fun obj=>F.args_object_init_2 obj _) F.entry_enumerate_new (Er l its n dct sl) ⟨hl,?_⟩
  have hz:(s.heap.push { cls:=.type "tuple_iterator",data:=.fields #[.ref l,.int 0 0] }).objs.size=s.heap.objs.size+1:=Heap.size_push ..
  show _∧_
  rw [hz]
  have he:IsEnum ((s.heap.push { cls:=.type "tuple_iterator",data:=.fields #[.ref l,.int 0 0] }).push { cls:=.type "enumerate",data:=.fields #[.none,.bool false,.ref s.heap.objs.size,rawInt 0,.none,.none] }) (s.heap.objs.size+1) s.heap.objs.size 0 .none:=by
   rw [←hz];exact Heap.get?_push_size _ rfl
  exact ⟨⟨_,he,rfl⟩,h _ he ⟨_,Heap.get?_push_of_some _ (Heap.get?_push_size _ rfl),rfl,rfl⟩ fun b o e=>Heap.get?_push_of_some _ (Heap.get?_push_of_some _ e)⟩
end
def zh (K:PySem.W.Frag) (a:Addr) (c:Bool):It:=
 ⟨fun i H=>aZ fun xs x=>x4 K H a xs c∧xs[i]?=some x,fun i H v H'=>aZ fun T x=>H T=none∧v=.ref T∧H'=aN H T (.tup [.int (i:Int),x])∧∀xs,x4 K H a xs c→xs[i]?=some x,fun i H=>∃xs,x4 K H a xs c∧xs.length=i⟩
theorem Ck {P:Program}{w:World}{K:PySem.W.Frag}{es:List Expr}{kk:Nat}{pos:Pos} (a e it:Addr) (c:Bool) (hne:e≠it) (hae:a≠e) (hai:a≠it) :
 xH P w K (.Tuple es kk pos) (zh K a c) [e,it] e (fun i h=>(∃old,IsEnum h e it i old)∧fV h it a i c) where
 mem:=by simp
 obj:=fun i h st b hb=>by
  obtain ⟨⟨old,he⟩,hi⟩:=st
  have hb':b=e∨b=it:=by simpa using hb
  rcases hb' with rfl | rfl
  ·exact ⟨_,he,fun v z=>by have z':Data.fields _=Data.cell v:=z;cases z'⟩
  ·exact hi.some
 keep:=fun i h h' st k=>by
  obtain ⟨⟨old,he⟩,hi⟩:=st
  exact ⟨⟨old,k e (by simp) _ he⟩,hi.at fun o q=>k it (by simp) o q⟩
 item:=by
  intro X hP hw hK hc i pins s σ H E I hf st hg
  subst hP hw hK
  obtain ⟨⟨old,he⟩,hit⟩:=st
  obtain ⟨xs,x,hq,hx⟩:=hg
  obtain ⟨its,rv,p⟩:=I.seqC hq
  obtain ⟨u,hu,ru⟩:=rv.get hx
  have hnT:H s.heap.objs.size=none:=I.fresh
  have hiu:i<its.length:=(List.getElem?_eq_some_iff.mp hu).1
  have D:=kM (prog:=X.prog) (w:=X.w) (A:=X.A.in1) (I.ok.hd hc) it a hai its.toArray c
  refine wpAny_pyNext_enum_itemD D he ⟨hit,p⟩ (by simpa using hiu) hne (by simp;exact ⟨hne,Ne.symm hae⟩) fun u' h' tk hP ho st' hT hsz hk=>?_
  have eu:u=u':=by
   have:its.toArray[i]?=some u':=hP
   rw [List.getElem?_toArray,hu] at this
   exact Option.some.inj this
  subst eu
  refine ⟨(),wpAny_letOwnedTupleGo_enum (s:={ s with heap:=h',toks:=tk+1 }) ho fun h'' he'' hs''=>?_⟩
  have helt:e<s.heap.objs.size:=Heap.lt_size he
  have hilt:it<s.heap.objs.size:=let ⟨_,y,_⟩:=hit.some;Heap.lt_size y
  have hT'':h''.get? s.heap.objs.size=some { cls:=.type "tuple",data:=.seq #[.int i tk,u] }:=(hs''.2 _ (Nat.ne_of_gt helt)).trans hT
  refine ⟨.ref s.heap.objs.size,aN H s.heap.objs.size (.tup [.int (i:Int),x]),I.turnedNew (ch:=[e,it]) (t':=tk+1) hf (fun b o hb q=>?_) (Nat.le_refl _) ?_,rfl,⟨_,x,hnT,rfl,rfl,fun ys hy=>by rw [I.seqC_inj hy hq];exact hx⟩,⟨⟨u,?_⟩,st'.1.at fun o q=>(hs''.2 _ (Ne.symm hne)).trans q⟩,fun b hb=>?_⟩
  ·have h1:b≠e:=fun z=>hb (by simp [z])
   have h2:b≠it:=fun z=>hb (by simp [z])
   exact (hs''.2 b h1).trans (hk b o h1 h2 q)
  ·exact ⟨by show 2≤sizeLine;decide,[.int i tk,u],.cons ⟨()⟩ (.cons ru .nil),⟨_,hT'',rfl,()⟩,_,hT'',rfl⟩
  ·simpa using he''
  ·have hb':b=e∨b=it:=by simpa using hb
   have hlt:b<s.heap.objs.size:=by rcases hb' with rfl | rfl <;> assumption
   rw [aE (Nat.ne_of_lt hlt)]
   exact (hf b hb).1
 done:=by
  intro X hP hw hK hc i pins s σ H E I hf st hg
  subst hP hw hK
  obtain ⟨⟨old,he⟩,hit⟩:=st
  obtain ⟨xs,hq,hx⟩:=hg
  obtain ⟨its,rv,p⟩:=I.seqC hq
  have hl:=rv.length
  have D:=kM (prog:=X.prog) (w:=X.w) (A:=X.A.in1) (I.ok.hd hc) it a hai its.toArray c
  have ei:i=its.toArray.size:=by simp;trivial
  refine wpAny_pyNext_enum_endD D he (by rw [ei] at hit;exact ⟨hit,p⟩) fun h' eb=>⟨rfl,I.turnedL (ch:=[e,it]) (t':=s.toks) hf fun b o hb q=>eb b o (fun z=>hb (by simp [z])) q⟩
 self:=fun _ _ _ _ _ st h=>by
  obtain ⟨⟨old,he⟩,_⟩:=st
  exact wpAny_pyIter_enum he h
def Hv (K:PySem.W.Frag) (ta:TA):TI:=fun σ H R=>ta σ H fun vs H1=>aZ fun a c=>vs=[.ref a]∧(∃xs,x4 K H1 a xs c)∧R (zh K a c) H1
theorem wq {X:Cx}{K:PySem.W.Frag}{es:List Expr}{kk:Nat}{tp:Pos}{a:Expr}{ta:TA}{p pos:Pos} (hg:Gl X "enumerate") (hm:X.mg "enumerate" = none) (ha:PA X [a] ta) (hs:starEach [a] X.env=[(false,eval a X.env)]:=by rfl) (ek:X.K=K:=by rfl) :
 PI X (.Tuple es kk tp) (.Call (.Name "enumerate" p) [a] [] pos) (Hv K ta):=by
 subst ek
 intro pins s σ H R I h
 refine Call_ (iA I hg hm boot_enumerate (PyProof.Rows.callWith_type1 (aO (ha pos pins s σ H _ I h) fun us s1 ⟨vs,H1,I1,r1,q1⟩=>?_) hs rfl))
 obtain ⟨a,c,rfl,⟨xs,hq⟩,q⟩:=q1
 obtain ⟨u,rfl,ru⟩:=r1.one
 obtain rfl:u=.ref a:=ru
 obtain ⟨its,rv,p⟩:=I1.seqC hq
 have d1:=p.lt
 refine Cq p fun h' hE hI hk=>wpAny_pyIter_enum hE ?_
 have I2:af X pins σ H1 { s1 with heap:=h',toks:=s1.toks }:=I1.kept hk
 refine ⟨s1.heap.objs.size+1,[s1.heap.objs.size+1,s1.heap.objs.size],_,_,H1,rfl,I2,Ck a (s1.heap.objs.size+1) s1.heap.objs.size c (Nat.succ_ne_self _) (Nat.ne_of_lt (Nat.lt_succ_of_lt d1)) (Nat.ne_of_lt d1),⟨⟨_,hE⟩,hI⟩,fun b hb=>?_,q⟩
 have hb':b=s1.heap.objs.size+1∨b=s1.heap.objs.size:=by simpa using hb
 have hle:s1.heap.objs.size≤b:=by rcases hb' with rfl | rfl <;> trivial
 exact I1.fpOk hle (I1.hok.fresh hle)
section
variable {X:Cx}
end
end L2
namespace L2
open PySem PySem.Spec PyProof.Rows
theorem ae.drop {E:Addr→Prop}{H:Hp}:∀{xs:List V}{ds:List PyData} (n:Nat),ae E H xs ds→ae E H (xs.drop n) (ds.drop n)
 | _,_,0,h=>by simpa using h
 | _,_,_+1,.nil=>by simp;exact .nil
 | _,_,n+1,.cons h r=>by simp;exact ae.drop n r
theorem ae.set {E:Addr→Prop}{H:Hp}{y:V}{d:PyData} (hy:aM E H y d):∀{xs:List V}{ds:List PyData} (i:Nat),ae E H xs ds→ae E H (xs.set i y) (ds.set i d)
 | _,_,_,.nil=>by simp;exact .nil
 | _,_,0,.cons h r=>by simp;exact .cons hy r
 | _,_,i+1,.cons h r=>by simp;exact .cons h (ae.set hy i r)
section
variable {z:Nat}{E:Addr→Prop}{H H':Hp}{n m k:Nat}{v:V}{xs ys:List V}
theorem cV:gQ xs (some 1) none=xs.drop 1:=by
 unfold gQ
 rw [HT.sIx_none,show (1:Int)=((1:Nat):Int) from rfl,HT.sIx_nat]
 cases xs with
 | nil=>simp
 | cons x r=>simp
end
section
variable {X:Cx}
end
end L2
namespace HT
open PySem PySem.Spec PyProof.Rows
section
variable {prog:Program}{w:World}{A:Around}{E:Value→Shared→Prop}{s:Shared}
theorem getItem_tuple_whole {t sl:Addr}{items:Array Value}{vl vu:Value}{lo hi:Option Int}{Q:Value→Shared→Prop} (ht:IsTup s.heap t items) (hs:s.heap.IsSliceOf sl vl vu .none) (pl:IsPart vl lo) (pu:IsPart vu hi)
 (h1:sIx items.size 0 lo=0) (h2:sIx items.size items.size hi=items.size) (h:Q (.ref t) s):wpAny (model prog w) A (getItem (.ref t) (.ref sl)) Q E s:=by
 obtain ⟨os,hos,hcs,hds⟩:=id hs
 have hTs:s.TypeIs (.ref sl) "slice" := ⟨os,hos,hcs⟩
 unfold getItem
 try with_reducible refine wpAny_holding ?_
 first | refine wpAny_bind (wpAny_pure ?_) | skip
 refine wpAny_bind (wpAny_sequenceKey ht.typeIs (by decide) ?_)
 refine wpAny_bind (wpAny_callSpecial?_slot (name:=Str.ofString "__getitem__") ht.typeIs PyProof.Rows.slot_tuple_getitem
  (wpAny_call_entry PyProof.Rows.slot_tuple_getitem ht.typeIs entry_tuple_getitem ?_ (args_tuple_getitem _ _)))
 show wpAny _ _ (Builtin.Tuple.tupleItemsOf (.ref t) >>= _) _ _ s
 refine wpAny_bind (tupleItemsOf_ ht ?_)
 refine wpAny_bind (wpAny_typeOf hTs ?_)
 rw [if_pos (by decide)]
 refine wpAny_bind (ot hs pl pu ?_)
 have hyes:((((sIx items.size 0 lo:Nat):Int)==0 && (1:Int)==1 && (sIx items.size items.size hi - sIx items.size 0 lo)==items.size)=true):=by
  rw [h1,h2];simp
 show wpAny _ _ (if (((sIx items.size 0 lo:Nat):Int)==0 && (1:Int)==1 && (sIx items.size items.size hi - sIx items.size 0 lo)==items.size)=true then _ else _) _ _ s
 rw [if_pos hyes]
 refine wpAny_bind (m:=Builtin.Tuple.tupleIsExact _) (wpAny_bind (wpAny_typeOf ht.typeIs (wpAny_pure ?_)))
 rw [if_pos (by decide)]
 exact wpAny_bind (wpAny_rule (wpAny_pure ⟨(),wpAny_pure h⟩))
end
end HT
namespace L2
open PySem PySem.Spec PyProof.Rows
section
variable {X:Cx}{K:PySem.W.Frag}
inductive Jn (K:PySem.W.Frag) (x:V) (lo:Option Int) (hi:Option Int) (H:Hp) (Q:VK):Prop
 | mk (a:_) (xs:_) (h0:x=.ref a) (h1:ag K H a xs) (h2:H a=some (.tup xs)) (h3:∀p H',ad H H'→H' p=some (.tup (gQ xs lo hi))→Q (.ref p) H')
def FH (K:PySem.W.Frag):V→Option Int→Option Int→Hp→VK→Prop:=fun x lo hi H Q=>Jn K x lo hi H Q
theorem xQ (e:X.K=K:=by rfl):CK X (FH K):=by
 subst e
 intro pins s σ H x v vl vu lo hi sl Q I rx hs pl pu h
 obtain ⟨a,xs,rfl,hx,ha,q⟩:=h
 by_cases hw:HT.sIx xs.length 0 lo=0∧HT.sIx xs.length xs.length hi=xs.length
 ·cases rx
  obtain ⟨its,r,ht,hz⟩:=I.tuple hx
  have hlen:its.toArray.size=xs.length:=by rw [List.size_toArray];exact r.length.symm
  refine ⟨"tuple",_,PyProof.Rows.slot_tuple_getitem.lookup,ht.typeIs,?_⟩
  refine HT.getItem_tuple_whole ht hs pl pu (by rw [hlen];exact hw.1) (by rw [hlen];exact hw.2) ⟨.ref a,H,I,rfl,q a H (ad.refl _) ?_⟩
  have:gQ xs lo hi=xs:=by
   unfold gQ
   rw [hw.1,hw.2,List.drop_zero,Nat.sub_zero,List.take_length]
  rw [this];exact ha
 ·exact Ht pins s σ H _ v vl vu lo hi sl Q I rx hs pl pu ⟨a,xs,rfl,hx,hw,fun p hp=>q p _ (ad.new hp) aB⟩
end
theorem uH {α:Type}{p:List α→Prop} (h0:p []) (h1:∀l a,p l→p (l++[a])) (l:List α):p l:=by
 have:∀r:List α,p r.reverse:=fun r=>by
  induction r with
  | nil=>exact h0
  | cons a r ih=>rw [List.reverse_cons];exact h1 _ _ ih
 have h:=this l.reverse
 rwa [List.reverse_reverse] at h
def cQ (ks:List ay):List ay:=ks.foldl (fun σ k=>if σ.any (fun x=>decide (x=k)) then σ else σ++[k]) []
theorem gT (ks:List ay) (k:ay):cQ (ks++[k])=if (cQ ks).any (fun x=>decide (x=k)) then cQ ks else cQ ks++[k]:=by
 unfold cQ
 rw [List.foldl_append]
 rfl
theorem lq:∀(ks:List ay),(cQ ks).length≤ks.length:=by
 intro ks
 induction ks using uH with
 | h0=>exact Nat.le_refl _
 | h1 ks k ih=>
  rw [gT,List.length_append]
  split
  ·simp;trivial
  ·rw [List.length_append];simp;trivial
theorem qW (ks:List ay):∀j,j∈cQ ks↔j∈ks:=by
 induction ks using uH with
 | h0=>exact fun j=>Iff.rfl
 | h1 ks k ih=>
  intro j
  rw [gT,List.mem_append,List.mem_singleton]
  split
  ·rename_i h
   rw [ih]
   constructor
   ·exact .inl
   ·rintro (z | z)
    ·exact z
    ·obtain ⟨x,hx,e⟩:=List.any_eq_true.mp h
     rw [z,←ih,←of_decide_eq_true e];exact hx
  ·rw [List.mem_append,List.mem_singleton,ih]
theorem xm (ks:List ay):(cQ ks).length=ks.length↔ks.Nodup:=by
 induction ks using uH with
 | h0=>exact ⟨fun _=>List.nodup_nil,fun _=>rfl⟩
 | h1 ks k ih=>
  rw [gT,List.length_append,List.nodup_append]
  have ol:=lq ks
  by_cases h:(cQ ks).any (fun x=>decide (x=k))=true
  ·rw [if_pos h]
   obtain ⟨x,hx,e⟩:=List.any_eq_true.mp h
   have hk:k∈ks:=by rw [←of_decide_eq_true e];exact (qW ks x).mp hx
   constructor
   ·intro z;simp at z;trivial
   ·intro z;exact absurd rfl (z.2.2 k hk k (by simp))
  ·rw [if_neg h,List.length_append]
   have hk:k∉ks:=fun z=>h (List.any_eq_true.mpr ⟨k,(qW ks k).mpr z,by simp⟩)
   constructor
   ·intro z
    refine ⟨ih.mp (by simpa using z),by simp,fun a ha b hb e=>?_⟩
    rw [List.mem_singleton] at hb
    rw [←hb,←e] at hk
    exact hk ha
   ·intro z
    rw [ih.mpr z.1]
def dA:ay→V
 | .inl i=>.int i
 | .inr x=>.str x
theorem xu {k:ay}{u:Value} (h:aP (dA k) u):bG k u=true∧u.scannable=true:=by
 cases k with
 | inl i=>obtain ⟨t,rfl⟩:=h;exact ⟨DS i t,rfl⟩
 | inr x=>obtain ⟨t,rfl⟩:=h;exact ⟨Dr x t,rfl⟩
section
variable {prog:Program}{w:World}{A:Around}{R:Result→Shared→Prop}{it:Addr}{fp wr:List Addr}{G:Array GenState→Array GenState→Prop}{P:Nat→Value→Prop}{St:Nat→Shared→Prop}
abbrev im (prog:Program) (w:World) (h:Heap) (a:Addr) (ks:List ay):Prop:=h.SetOf (aG prog w) a (fun j=>(cQ ks).any (fun x=>decide (x=j))) (cQ ks).length
theorem wN {h h':Heap}{a:Addr}{ks:List ay} (H:im prog w h a ks) (k:∀o,h.get? a=some o→h'.get? a=some o):im prog w h' a ks:=
 let ⟨o,es,ep,t,ho,r⟩:=H
 ⟨o,es,ep,t,k o ho,r⟩
theorem GZ {h:Heap}{a:Addr}{f g:ay→Bool}{n m:Nat} (H:h.SetOf (aG prog w) a f n) (e:∀k,f k=g k) (en:n=m):h.SetOf (aG prog w) a g m:=by
 cases en
 cases (funext e:f=g)
 exact H
theorem z5 {ks:List ay} (W:WalksS prog w A.in1 it fp wr G ks.length P St) {a:Addr} (ha:a∉fp) (hv:∀i v,P i v→∀k,ks[i]?=some k→bG k v=true∧v.scannable=true) (hb:ks.length+1<scanBound) :
 ∀(r i:Nat) (s:Shared),ks.length - i=r→i≤ks.length→St i s→im prog w s.heap a (ks.take i)→
   (∀s',Moved (a :: wr) G s s'→im prog w s'.heap a ks→R (.ok (.ret .none)) s')→codeAny (model prog w) A (.builtin "set.update.loop" ⟨[.ref a,.ref it],[]⟩) R s:=by
 have nw:a∉wr:=fun z=>ha (W.sub _ z)
 have up:∀b∈wr,b∈a :: wr:=fun b z=>List.mem_cons_of_mem _ z
 intro r
 induction r with
 | zero=>
  intro i s hr hi st hS hR
  have e:i=ks.length:=by trivial
  rw [e] at st hS
  rw [List.take_length] at hS
  refine codeAny_builtin F.entry_set_update_loop ?_
  rw [A.under_plainId F.plain_set_update_loop]
  show wpAny _ _ (pyNext (Value.ref it) >>= _) _ _ _
  refine wpAny_bind (W.done s _ _ st fun s' m=>?_)
  show wpAny _ _ (ret .none) _ _ _
  exact wpAny_pure (hR s' (m.mono up) (wN hS fun o ho=>m.heap a o nw ho))
 | succ r ih=>
  intro i s hr hi st hS hR
  have lt:i<ks.length:=by trivial
  refine codeAny_builtin F.entry_set_update_loop ?_
  rw [A.under_plainId F.plain_set_update_loop]
  show wpAny _ _ (pyNext (Value.ref it) >>= _) _ _ _
  refine wpAny_bind (W.item i s _ _ lt st fun v s' pv st' m=>?_)
  obtain ⟨kv,sv⟩:=hv i v pv ks[i] (List.getElem?_eq_getElem lt)
  have hS':im prog w s'.heap a (ks.take i):=wN hS fun o ho=>m.heap a o nw ho
  have l1:(cQ (ks.take i)).length+1<scanBound:=by
   have:=lq (ks.take i)
   rw [List.length_take] at this
   trivial
  show wpAny _ _ (holding [v] (setAdd a v) >>= _) _ _ _
  refine wpAny_bind (wpAny_holding ?_)
  unfold setAdd
  refine wpAny_holding (wpAny_bind ((aG prog w).pyHash (k:=ks[i]) kv (wpAny_setAddHashed_of (knd:=aG prog w) (s:={ s' with toks:=s'.toks+1 }) kv sv hS' l1 fun h2 sb hS2=>?_)))
  have nx:im prog w h2 a (ks.take (i+1)):=by
   rw [List.take_succ_eq_append_getElem lt]
   refine GZ hS2 (fun j=>?_) ?_
   ·rw [gT]
    split
    ·rename_i z
     by_cases q:j=ks[i]
     ·subst q;rw [z];rfl
     ·rw [decide_eq_false q,Bool.or_false]
    ·rw [List.any_append]
     congr 1
     rw [List.any_cons,List.any_nil,Bool.or_false]
     by_cases q:j=ks[i]
     ·rw [decide_eq_true q,decide_eq_true q.symm]
     ·rw [decide_eq_false q,decide_eq_false (Ne.symm q)]
   ·rw [gT]
    split
    ·rfl
    ·rw [List.length_append];rfl
  refine wpAny_pure ⟨plainId_quiet F.plain_set_update_loop _,ih (i+1) _ (by trivial) lt (W.frame _ s' _ _ st' (Nat.le_succ _) fun b z o e=>?_) nx fun s2 m2 hS3=>?_⟩
  ·rw [sb.2 b (fun q=>ha (q▸z))];exact e
  ·refine hR s2 (.trans W.gtrans ((m.mono up).then_heap (Nat.le_succ _) fun b o z e=>?_) m2) hS3
   rw [sb.2 b (fun q=>z (q▸List.mem_cons_self))];exact e
end
theorem vA:isSubtype (.type "tuple") (.type "set")=pure false:=by
 rw [isSubtype_type]
 kernel_rfl
theorem tq:isSubtype (.type "tuple") (.type "frozenset")=pure false:=by
 rw [isSubtype_type]
 kernel_rfl
section
variable {prog:Program}{w:World}{A:Around}{E:Value→Shared→Prop}{s:Shared}
abbrev bL (led:Bool):Obj:={ cls:=.type "set",dict:=none,data:=.set #[] 0 (.fresh 0 0 led) }
theorem Ag {h:Heap}{a:Addr}{led:Bool} (e:h.get? a=some (bL led)):im prog w h a []:=
 ⟨_,#[],0,_,e,⟨rfl,rfl,rfl⟩,rfl,fun x hx=>(by simp at hx),fun k=>(by simp [cQ]),by decide,by rfl,rfl⟩
set_option maxHeartbeats 4000000 in
theorem CU {l:Addr}{vs:List Value}{ks:List ay}{led:Bool}{c:Bool} (hh:A.handled=none) (hl:if c=true then s.heap.IsList l vs.toArray else s.heap.IsTuple l vs.toArray) (hn:vs.length=ks.length)
 (hk:∀(i:Nat) v,vs[i]?=some v→∀k,ks[i]?=some k→bG k v=true∧v.scannable=true) (hb:ks.length+1<scanBound) {R:Fin→Shared→Prop}
 (h:∀h' tk,im prog w h' s.heap.objs.size ks→(∀b o,b<s.heap.objs.size→s.heap.get? b=some o→h'.get? b=some o)→R (.done (.ret .none)) { s with heap:=h',toks:=tk }) :
 wpAny (model prog w) A (Builtin.«set.__init__» ⟨[.ref s.heap.objs.size,.ref l],[]⟩) R E { s with heap:=s.heap.push (bL led) }:=by
 have hS:(s.heap.push (bL led)).get? s.heap.objs.size=some (bL led):=Heap.get?_push_size _ rfl
 have hT:Shared.TypeIs { s with heap:=s.heap.push (bL led) } (.ref s.heap.objs.size) "set" := ⟨_,hS,rfl⟩
 have vget:∀(i:Nat) v,vs.toArray[i]?=some v→∀k,ks[i]?=some k→bG k v=true∧v.scannable=true:=fun i v e=>hk i v (by simpa using e)
 have sz:vs.toArray.size=ks.length:=by rw [List.size_toArray];exact hn
 have hS2:∀o:Obj,((s.heap.push (bL led)).push o).get? s.heap.objs.size=some (bL led):=fun o=>Heap.get?_push_of_some _ hS
 have lS:∀{x:Obj},s.heap.get? l=some x→l<s.heap.objs.size:=fun e=>Heap.lt_size e
 have neI:s.heap.objs.size≠(s.heap.push (bL led)).objs.size:=by rw [Heap.size_push];trivial
 have fin:∀(s':Shared) (o:Obj),Moved (s.heap.objs.size :: [(s.heap.push (bL led)).objs.size]) (fun a b=>b=a) { s with heap:=(s.heap.push (bL led)).push o } s'→im prog w s'.heap s.heap.objs.size ks→R (.done (.ret .none)) s':=fun s' o m q=>by
  obtain ⟨h',g',d',tk',os'⟩:=s'
  cases (show g'=s.gens from m.gens)
  cases (show d'=s.drawn from m.drawn)
  cases (show os'=s.os from m.os)
  refine h h' tk' q fun b o hb e=>m.heap b o (fun z=>?_) (Heap.get?_push_of_some _ (Heap.get?_push_of_some _ e))
  rw [Heap.size_push] at z
  have z':b=s.heap.objs.size∨b=s.heap.objs.size+1:=by simpa using z
  have hb':(b:Nat)<s.heap.objs.size:=hb
  rcases z' with z' | z'
  ·exact absurd z' (Nat.ne_of_lt hb')
  ·exact absurd z' (Nat.ne_of_lt (Nat.lt_succ_of_lt hb'))
 cases c with
 | true=>
  have hl':s.heap.IsList l vs.toArray:=hl
  obtain ⟨⟨oc,od,oo,os⟩,e1,rfl,n,rfl⟩:=hl'
  have e2:(s.heap.push (bL led)).get? l=some ⟨.type "list",od,.seq vs.toArray n,os⟩:=Heap.get?_push_of_some _ e1
  have q1:=PySem.F.sub_list_set
  have q2:=PySem.F.sub_list_frozenset
  have q3:(Value.type "list" == Value.type "dict")=false:=by decide
  have l1:(s.heap.push (bL led)).IsList l vs.toArray:=⟨_,e2,rfl,n,rfl⟩
  unfold Builtin.«set.__init__» noKeywords Builtin.Frozenset.updateFrom
  generalize hPI:pyIter=PI
  wp_walk
  subst hPI
  have ll:=lS e1
  refine wpAny_pyIter_list l1 (wpAny_bind (wpAny_runValue ?_))
  have ne1:l≠(s.heap.push (bL led)).objs.size:=by rw [Heap.size_push];exact Nat.ne_of_lt (Nat.lt_succ_of_lt ll)
  refine z5 (a:=s.heap.objs.size) (ks:=ks) (sz▸(Walks.list (by simpa using hh) _ l ne1 vs.toArray).toS) ?_ vget hb (ks.length - 0) 0 _ rfl (Nat.zero_le _) ⟨⟨_,Heap.get?_push_size _ rfl,rfl,rfl⟩,l1.push _⟩ (Ag (hS2 _)) fun s' m q=>?_
  ·intro z
   have z':s.heap.objs.size=(s.heap.push (bL led)).objs.size∨s.heap.objs.size=l:=by simpa using z
   rcases z' with z' | z'
   ·exact neI z'
   ·exact absurd z' (Nat.ne_of_gt ll)
  ·exact wpAny_pure (wpAny_pure (fin s' _ m q))
 | false=>
  have hl':s.heap.IsTuple l vs.toArray:=hl
  obtain ⟨⟨oc,od,oo,os⟩,e1,rfl,n,rfl⟩:=hl'
  have e2:(s.heap.push (bL led)).get? l=some ⟨.type "tuple",od,.seq vs.toArray n,os⟩:=Heap.get?_push_of_some _ e1
  have q1:=vA
  have q2:=tq
  have q3:(Value.type "tuple" == Value.type "dict")=false:=by decide
  have l1:(s.heap.push (bL led)).IsTuple l vs.toArray:=⟨_,e2,rfl,n,rfl⟩
  unfold Builtin.«set.__init__» noKeywords Builtin.Frozenset.updateFrom
  generalize hPI:pyIter=PI
  wp_walk
  subst hPI
  have ll:=lS e1
  refine wpAny_pyIter_tuple l1 (wpAny_bind (wpAny_runValue ?_))
  have ne1:l≠(s.heap.push (bL led)).objs.size:=by rw [Heap.size_push];exact Nat.ne_of_lt (Nat.lt_succ_of_lt ll)
  refine z5 (a:=s.heap.objs.size) (ks:=ks) (sz▸(Walks.tuple (by simpa using hh) _ l ne1 vs.toArray).toS) ?_ vget hb (ks.length - 0) 0 _ rfl (Nat.zero_le _) ⟨⟨_,Heap.get?_push_size _ rfl,rfl,rfl⟩,l1.at fun o e=>Heap.get?_push_of_some _ e⟩ (Ag (hS2 _)) fun s' m q=>?_
  ·intro z
   have z':s.heap.objs.size=(s.heap.push (bL led)).objs.size∨s.heap.objs.size=l:=by simpa using z
   rcases z' with z' | z'
   ·exact neI z'
   ·exact absurd z' (Nat.ne_of_gt ll)
  ·exact wpAny_pure (wpAny_pure (fin s' _ m q))
set_option maxHeartbeats 4000000 in
theorem Da {l:Addr}{vs:List Value}{ks:List ay}{c:Bool}{Q:Value→Shared→Prop} (hh:A.handled=none) (hl:if c=true then s.heap.IsList l vs.toArray else s.heap.IsTuple l vs.toArray) (hn:vs.length=ks.length)
 (hk:∀(i:Nat) v,vs[i]?=some v→∀k,ks[i]?=some k→bG k v=true∧v.scannable=true) (hb:ks.length+1<scanBound)
 (h:∀h' tk,im prog w h' s.heap.objs.size ks→(∀b o,b<s.heap.objs.size→s.heap.get? b=some o→h'.get? b=some o)→Q (.ref s.heap.objs.size) { s with heap:=h',toks:=tk }) :
 wpAny (model prog w) A (call (.type "set") [.ref l]) Q E s:=by
 have T:=PySem.F.called_set
 obtain ⟨_,_,t0⟩:=T.mro
 have t1:=T.notType
 have t2:=T.canCreate
 have t3:=T.made
 have t4:=T.sub
 have t5:=PySem.F.typeCall_set_1 (.ref l)
 refine wpAny_call (codeAny_of_tree ?_)
 show wpAny _ _ (callAny (Value.type "set") _) _ _ s
 refine wpAny_pure ⟨Code.quiet_builtin _ (by nofun),codeAny_builtin PySem.F.entry_type_call ?_⟩
 rw [A.under_plain (weight_type_call_type "set" [Value.ref l] []) rfl]
 repeat (any_goals first | assumption | wp_step)
 refine codeAny_mono (code_set_new_1 (.ref l) (E:=E) (Q₁:=fun v s1=>∃led,v=.ref s.heap.objs.size∧s1={ s with heap:=s.heap.push (bL led) }) fun led=>⟨led,rfl,rfl⟩) fun r s1 hr=>?_
 cases r with
 | error e=>exact hr
 | ok f=>
  cases f with
  | ret v=>
   obtain ⟨led,rfl,rfl⟩:=hr
   have hT:Shared.TypeIs { s with heap:=s.heap.push (bL led) } (.ref s.heap.objs.size) "set" := ⟨_,Heap.get?_push_size _ rfl,rfl⟩
   have t6:=T.init.lookup
   have t7:=T.init.bind (.ref s.heap.objs.size)
   repeat (any_goals first | assumption | wp_step)
   refine codeAny_mono (codeAny_call_builtin (R:=wants (fun v s2=>v=.none∧aZ fun h' tk=>s2={ s with heap:=h',toks:=tk }∧im prog w h' s.heap.objs.size ks∧∀b o,b<s.heap.objs.size→s.heap.get? b=some o→h'.get? b=some o) E) T.init.plain PySem.F.entry_set_init (check_set_init_1 hT ?_)) fun r2 s2 hr2=>?_
   ·exact CU (by simpa using hh) hl hn hk hb fun h' tk q kp=>⟨rfl,h',tk,rfl,q,kp⟩
   ·cases r2 with
    | error e=>exact hr2
    | ok f=>
     cases f with
     | ret v=>
      obtain ⟨rfl,h',tk,rfl,q,kp⟩:=hr2
      repeat (any_goals first | assumption | wp_step)
      exact h _ _ q kp
     | _=>exact hr2.elim
  | _=>exact hr.elim
end
theorem vz:bootBuiltins "set" = some (.type "set"):=by nofun
def A7 (K:PySem.W.Frag) (x:V) (H:Hp) (Q:VK):Prop:=aZ fun a ks=>x=.ref a∧(ah K H a (ks.map dA)∨ag K H a (ks.map dA))∧ks.length≤4000∧Q (.int ((cQ ks).length:Nat)) H
def GD (K:PySem.W.Frag) (te:TE):TE:=fun σ H Q=>te σ H fun x H1=>A7 K x H1 Q
section
variable {X:Cx}{K:PySem.W.Frag}{e:Expr}{te:TE}{p1 p2 p3 p4:Pos}
theorem ue:∀{ks:List ay}{us:List Value},aA (ks.map dA) us→us.length=ks.length∧∀(i:Nat) v,us[i]?=some v→∀k,ks[i]?=some k→bG k v=true∧v.scannable=true
 | [],_,.nil=>⟨rfl,fun i v e=>by simp at e⟩
 | k :: r,_,.cons h t=>by
  obtain ⟨a,b⟩:=ue (ks:=r) t
  refine ⟨by simp [a],fun i v e j f=>?_⟩
  cases i with
  | zero=>
   simp at e f
   subst e f
   exact xu h
  | succ i=>exact b i v (by simpa using e) j (by simpa using f)
theorem EK {A:Around}{E:Value→Shared→Prop}{s:Shared}{prog:Program}{w:World}{a:Addr}{ks:List ay}{Q:Value→Shared→Prop} (H:im prog w s.heap a ks) (hb:ks.length≤4000) (h:Q (.int ((cQ ks).length:Nat) (s.toks+1)) { s with toks:=s.toks+1+1 }) :
 wpAny (model prog w) A (call (.builtin "len") [.ref a]) Q E s:=by
 obtain ⟨o,es,ep,t,ho,hx,hd,_,_,hlt,hf,hn⟩:=H
 have:=lq ks
 refine PySem.call_len_set ho hx hd hf (by trivial) ?_
 rw [hn];exact h
theorem yn (he:PE X e te) (hc:X.calm=true) (hg1:Gl X "len") (hm1:X.mg "len" = none) (hg2:Gl X "set") (hm2:X.mg "set" = none) (ek:X.K=K:=by rfl) (hs:pY e=true:=by rfl) :
 PE X (.Call (.Name "len" p1) [.Call (.Name "set" p2) [e] [] p3] [] p4) (GD K te):=by
 subst ek
 intro pins s σ H Q I h
 refine wpAny_Call_Name_kw (iA I hg1 hm1 aF ?_ (by decide) (by decide))
 refine PyProof.Rows.callWith_builtin1 ?_ (l7 rfl) rfl
 refine Calls.spliced_cons ?_
 refine wpAny_Call_Name_kw (iA I hg2 hm2 vz ?_ (by decide) (by decide))
 refine PyProof.Rows.callWith_type1 ?_ (l7 hs) rfl
 refine aO (Cp he bc hs p3 pins s σ H (fun xs H1=>match xs with | [x]=>A7 X.K x H1 Q | _=>False) I h) fun us s1 ⟨vs,H1,I1,r1,q1⟩=>?_
 match vs,r1,q1 with
 | [x],r1,q1=>
 obtain ⟨u,rfl,ru⟩:=ny r1
 obtain ⟨a,ks,rfl,hq,hz,q⟩:=q1
 cases ru
 have go:∀(its:List Value) (c:Bool),aA (ks.map dA) its→(if c=true then s1.heap.IsList a its.toArray else s1.heap.IsTuple a its.toArray)→wpAny (model X.prog X.w) X.A (call (.type "set") [.ref a]) (fun v s2=>wpAny (model X.prog X.w) X.A (call (.builtin "len") [v]) (EP X pins σ Q) X.xe s2) X.xe s1:=fun its c rv hl=>by
  obtain ⟨z1,z2⟩:=ue rv
  refine Da (I1.ok.hd hc) hl z1 z2 (by show ks.length+1<4096;trivial) fun h' tk S kp=>?_
  have I2:af X pins σ H1 { s1 with heap:=h',toks:=tk }:=I1.kept fun b o e=>kp b o (Heap.lt_size e) e
  exact EK (s:={ s1 with heap:=h',toks:=tk }) S hz ⟨.int _,H1,I2.tok _,⟨()⟩,q⟩
 have fin:=fun (v:Value) (s2:Shared) (z:wpAny (model X.prog X.w) X.A (call (.builtin "len") [v]) (EP X pins σ Q) X.xe s2)=>(Calls.spliced_nil z:wpAny (model X.prog X.w) X.A (spliced []) (fun vs s3=>wpAny (model X.prog X.w) X.A (call (.builtin "len") (v :: vs)) (EP X pins σ Q) X.xe s3) X.xe s2)
 rcases hq with hq | hq
 ·obtain ⟨its,rv,p,_⟩:=I1.list hq
  exact aO (go its true rv p.isList) fun v s2 z=>fin v s2 z
 ·obtain ⟨its,rv,p,_⟩:=I1.tuple hq
  exact aO (go its false rv p) fun v s2 z=>fin v s2 z
end
section
variable {X:Cx}{K:PySem.W.Frag}{o e:Expr}{es:List Expr}{to:TE}{t:TA}{name:Str}{apos cpos:Pos}{T id:String}{r:V→List V→Hp→VK→Prop}
theorem bS (pa:PlainAttrs T) (slot:Slot T name id) (hty:typeOf (.builtin id)=pure (.type "method_descriptor")) (hm:FK X id r) (ho:PE X o to) (ha:PA X (e :: es) t) (ek:X.K=K:=by rfl)
 (h1:attributeBase o name X.env (eval o X.env)=eval o X.env:=by rfl)
 (h2:((backTo cpos (starEach (e :: es) X.env)).all (fun x=>!x.1) && (backToKw cpos (keywordEach [] X.env)).all (fun x=>x.1.isSome) && decide ((e :: es).length+([]:List Keyword).length+(if ([]:List Keyword).isEmpty then 0 else 1)<30))=true:=by rfl)
 (h3:(apos.endLine==cpos.line)=true:=by rfl) (h4:starEach (e :: es) X.env=(false,eval e X.env) :: starEach es X.env:=by rfl) (h5:(backTo cpos (starEach es X.env)).any (·.1)=false:=by rfl) :
 PE X (.Call (.Attribute o name apos) (e :: es) [] cpos) (FN K T r to t):=by
 subst ek
 exact KL pa slot hty hm ho ha h1 h2 h3 h4 h5
end
end L2
namespace L2
theorem aT {t u:TS}{D:fj}{σ:St}{H:Hp} (h:∀D':fj,(∀σ' H',u D σ' H'→D'.nx σ' H')→t D' σ H):jH t u D σ H:=h { D with nx:=u D } fun _ _ z=>z
theorem dW {t u:TS}{D:fj}{σ:St}{H:Hp} (h:∀D':fj,(∀σ' H',u D σ' H'→D'.nx σ' H')→(∀v H',D.rt v H'→D'.rt v H')→t D' σ H):jH t u D σ H:=h { D with nx:=u D } (fun _ _ z=>z) fun _ _ z=>z
theorem nz {t:TS}{D:fj}{σ:St}{H:Hp} (h:∀D':fj,(∀σ' H',D.nx σ' H'→D'.nx σ' H')→t D' σ H):t D σ H:=h D fun _ _ z=>z
theorem JW {t:TS}{D:fj}{σ:St}{H:Hp} (h:∀D':fj,(∀σ' H',D.nx σ' H'→D'.nx σ' H')→(∀v H',D.rt v H'→D'.rt v H')→t D' σ H):t D σ H:=h D (fun _ _ z=>z) fun _ _ z=>z
end L2
namespace L2
open PySem PySem.Spec PyProof.Rows
def y8:PyData→Option (List PyData)
 | .list xs=>some xs
 | .tuple xs=>some xs
 | _=>none
theorem HI {e:PyData}{xs:List PyData}{n l:Nat} (h:Wt e n l) (s:y8 e=some xs):aZ fun m k=>cX xs m k∧k+1=l:=by
 cases h <;> simp [y8] at s
 all_goals
  rename_i w
  subst s
  exact ⟨_,_,w,rfl⟩
section
variable {X:Cx}
inductive KP (ng:Bool) (x:V) (y:V) (H:Hp) (Q:VK):Prop
 | mk (d e:PyData) (E F:Addr→Prop) (m n k l:Nat) (xs:List PyData) (h0:aM E H x d) (h1:aM F H y e) (h2:Wt d m k) (h3:Wt e n l) (h4:l≤60) (h5:y8 e=some xs) (h6:Q (.bl (if ng then !xs.any (fun z=>PyData.eqv z d) else xs.any (fun z=>PyData.eqv z d))) H)
def LD (ng:Bool):R2:=fun x y H Q=>KP ng x y H Q
theorem IP (hu:X.A.units+64<cLine):cN X (compareOp .In) (LD false):=by
 intro pins s σ H x y v u Q I rx ry h
 obtain ⟨d,e,E,F,m,n,k,l,xs,hd,he,wd,we,hl,hs,q⟩:=h
 obtain ⟨as,ra⟩:=hd.reads I.hok rx
 obtain ⟨bs,rb⟩:=he.reads I.hok ry
 obtain ⟨m',k',wl,ek⟩:=HI we hs
 have dl:=wl.dep
 cases e <;> simp [y8] at hs
 ·subst hs
  exact PySem.SeqAt.in_list_reads rb ra wl.can wd.can (by trivial) ⟨.bl _,H,I,rfl,q⟩
 ·subst hs
  exact PySem.SeqAt.in_tuple_reads rb ra wl.can wd.can (by trivial) ⟨.bl _,H,I,rfl,q⟩
end
section
variable {K:PySem.W.Frag}{a a1 a2 D:Addr}{H1:Hp}{σc:St}{g:TG}{te:TE}{tt:TT}{Q:VK}{xs ys:List V}
theorem xR {α:Type} (f:Nat→α) (i:Nat):(List.range i).map f++[f i]=(List.range (i+1)).map f:=by
 rw [List.range_succ,List.map_append];rfl
theorem Eh {J:It}{n:Nat} (f:Nat→V) (hz:n≤10000) (hD:H1 D=none) (hgo:∀i H',i<n→ad H1 H'→J.go i H') (hst:∀H',ad H1 H'→J.stop n H')
 (hs:∀i x H' H'' (R:VK),i<n→ad H1 H'→J.yld i H' x H''→(∀H4,ad H' H4→R (f i) H4)→g x σc H'' fun σ2 H2=>kQ σc σ2∧te σ2 H2 R)
 (hd:∀H',ad H1 H'→H' D=some (.lst ((List.range n).map f))→Q (.ref D) H'):uM J σc g tT te D H1 Q:=by
 refine mD (n:=n) (fun i H' zs=>zs=(List.range i).map f∧H' D=some (.lst zs)∧ad H1 H') (lX hz) ⟨rfl,aB,fc hD (ad.refl _)⟩ ?_ ?_ ?_ ?_ ?_
 ·rintro i H' zs ⟨rfl,q,_⟩
  exact ⟨q,by simp⟩
 ·rintro i H' zs hi ⟨_,_,sm⟩
  exact hgo i H' hi sm
 ·rintro H' zs ⟨_,_,sm⟩
  exact hst H' sm
 ·rintro i H' zs x H'' hi ⟨rfl,q,sm⟩ y
  exact hs i x H' H'' _ hi sm y fun H4 s4=>⟨s4 _ _ q,xR f i,aB,fc hD (sm.trans s4)⟩
 ·rintro H' zs ⟨rfl,q,sm⟩
  exact hd H' sm q
end
end L2
namespace L2
theorem uN {t u:TS}{D:fj}{σ:St}{H:Hp} (I:St→Hp→Prop) (rest:∀σ' H',I σ' H'→u D σ' H') (h:(∀σ' H',I σ' H'→u D σ' H')→t { D with nx:=u D } σ H):jH t u D σ H:=h rest
end L2
namespace L2
open PySem PySem.Spec PyProof.Rows
section
variable {X:Cx}{tg:Expr}
end
section
variable {X:Cx}{K:PySem.W.Frag}{o e:Expr}{es:List Expr}{to:TE}{t:TA}{name:Str}{apos cpos:Pos}{id:String}{r:V→List V→Hp→VK→Prop}
end
end L2
namespace L2
open PySem PyProof.Rows
section
variable {X:Cx}{elt tg iter:Expr}{ifs:List Expr}{scope:Scope}{pos:Pos}{N':List Str}{L:Nat}{src:List Nat}{wi:TI}{g:TG}{tt:TT}{te:TE}
end
end L2
namespace HT
open PySem PySem.Spec PyProof.Rows
section
variable {prog:Program}{w:World}{A:Around}{E:Value→Shared→Prop}{s:Shared}
end
end HT
namespace L2
open PySem PySem.Spec PyProof.Rows
section
variable {X:Cx}{K:PySem.W.Frag}
end
section
variable {X:Cx}{e:Expr}{te:TE}{st:Expr}{ts:TO}{p2 pos:Pos}
end
def LV (H H':Hp):Prop:=∀a us,H a=some (.tup us)→H' a=some (.tup us)
section
variable {H H' H'':Hp}{z n k m:Nat}{v:V}{E:Addr→Prop}{b th th' p:Addr}{xs ys zs:List V}
end
section
variable {E:Addr→Prop}{z:Nat}{H0:Hp}{σ:St}{n k m:Nat}{te tb:TE}{ta:TA}{v:V}{i:Nat}{p:Addr}{xs:List V}{K:PySem.W.Frag}
end
section
variable {b th:Addr}{H0:Hp}{σ:St}{zs:List V}{ta:TA}{te:TE}{n i:Nat}{Q:VK}{K:PySem.W.Frag}
end
theorem bT {te:TE}{i:Nat}{u:TS}{D:fj}{σ:St}{H:Hp} (h:∀Q:VK,(∀v H',u D (σ.set i (some v)) H'→Q v H')→te σ H Q):jH (zV te (qZ i)) u D σ H:=h _ fun _ _ z=>z
theorem HQ {ta:TA}{i j:Nat}{u:TS}{D:fj}{σ:St}{H:Hp} (h:∀Q:List V→Hp→Prop,(∀v w H',u D ((σ.set i (some v)).set j (some w)) H'→Q [v,w] H')→ta σ H Q):jH (Iy i j ta) u D σ H:=h _ fun _ _ _ z=>⟨_,(),z⟩
theorem FF {te:TE}{D:fj}{σ:St}{H:Hp} (h:∀Q:VK,(∀v H',D.nx σ H'→Q v H')→te σ H Q):y9 te D σ H:=h _ fun _ _ z=>z
theorem tu {α:Type}{P:List α→Prop} (h:∀a,P [a]):∀us:List α,us.length=1→P us:=fun us hl=>by
 cases us with
 | nil=>cases hl
 | cons a r=>cases r with
  | nil=>exact h a
  | cons b r=>simp at hl
theorem dD {α:Type}{P:List α→Prop} (h:∀a b,P [a,b]):∀us:List α,us.length=2→P us:=fun us hl=>by
 cases us with
 | nil=>cases hl
 | cons a r=>exact tu (P:=fun r=>P (a :: r)) (fun b=>h a b) r (by simpa using hl)
theorem xz {α:Type}{P:List α→Prop} (h:∀a b c,P [a,b,c]):∀us:List α,us.length=3→P us:=fun us hl=>by
 cases us with
 | nil=>cases hl
 | cons a r=>exact dD (P:=fun r=>P (a :: r)) (fun b c=>h a b c) r (by simpa using hl)
theorem BV {α:Type}{P:List α→Prop} (h:∀a b c d,P [a,b,c,d]):∀us:List α,us.length=4→P us:=fun us hl=>by
 cases us with
 | nil=>cases hl
 | cons a r=>exact xz (P:=fun r=>P (a :: r)) (fun b c d=>h a b c d) r (by simpa using hl)
theorem Ab:∀{xs:List V}{us:List Value},xs.length=us.length→(∀(i:Nat) x u,xs[i]?=some x→us[i]?=some u→aP x u)→aA xs us
 | [],[],_,_=>.nil
 | x :: xs,u :: us,hl,h=>.cons (h 0 x u rfl rfl) (Ab (by simpa using hl) fun i y w e1 e2=>h (i+1) y w e1 e2)
section
variable {X:Cx}{a:Expr}{ta:TA}{p p2 pos pos2:Pos}
inductive Iu (x:V) (vs:List V) (H:Hp) (Q:VK):Prop
 | mk (l:_) (xs:_) (i:_) (y:_) (h0:x=.ref l) (h1:vs=[.int (i:Nat)]) (h2:H l=some (.lst xs)) (h3:xs.length≤10000) (h4:xs[i]?=some y) (h5:∀H',Ch H l (xs.eraseIdx i) H'→Q y H')
def KK:V→List V→Hp→VK→Prop:=fun x vs H Q=>Iu  x vs H Q
theorem Gf:wD X "list.pop" KK:=by
 intro pins s σ H x vs v us Q I rx rv h
 obtain ⟨l,xs,i,y,e1,e2,hH,hz,hy,q⟩:=h
 have hi:i<xs.length:=(List.getElem?_eq_some_iff.mp hy).1
 refine ES pins s σ H x vs v us Q I rx rv ⟨l,xs,_,i,y,e1,e2,hH,by trivial,by trivial,?_,hy,q _ .mk'⟩
 have h0:¬((i:Int)<0):=by trivial
 simp [seqIndex?,h0,hi]
inductive EC (x:V) (vs:List V) (H:Hp) (Q:VK):Prop
 | mk (l:Addr) (ks:List Int) (k:Int) (j:Nat) (h0:x=.ref l) (h1:vs=[.int k]) (h2:H l=some (.lst (ks.map V.int))) (h3:ks.length≤10000) (h4:ks[j]?=some k) (h5:(∀m,m<j→ks[m]?≠some k)) (h6:Q (.int (j:Int)) H)
def Gj:V→List V→Hp→VK→Prop:=fun x vs H Q=>EC  x vs H Q
theorem DZ:wD X "list.index" Gj:=by
 intro pins s σ H x vs v us Q I rx rv h
 obtain ⟨l,ks,k,j,rfl,rfl,hH,hz,hj,hno,q⟩:=h
 cases rx
 obtain ⟨u,rfl,ru⟩:=rv.one
 obtain ⟨t,rfl⟩:=ru
 obtain ⟨z,its,n,r,hl,e⟩:=I.lstM hH
 have hlen:ks.length=its.length:=by rw [←hl,List.length_map]
 have isI:∀(m:Nat) (w:Value),its[m]?=some w→aZ fun i t'=>ks[m]?=some i∧w=.int i t':=fun m w hw=>by
  obtain ⟨i,hi⟩:∃i,ks[m]?=some i:=⟨_,List.getElem?_eq_getElem (by rw [hlen];exact (List.getElem?_eq_some_iff.mp hw).1)⟩
  obtain ⟨w',hw',rw'⟩:=r.get (show (ks.map V.int)[m]?=some (V.int i) by rw [List.getElem?_map,hi];rfl)
  rw [hw] at hw'
  cases hw'
  obtain ⟨t',rfl⟩:=rw'
  exact ⟨i,t',hi,rfl⟩
 have hji:j<its.length:=by rw [←hlen];exact (List.getElem?_eq_some_iff.mp hj).1
 refine call_meets F.slot_list_index ⟨_,e,rfl⟩ F.entry_list_index (F.args_list_index_2 _ _)
  (MeetsSeq.list_index l its.toArray n (.int k t) (fun y=>match y with | .int i _=>i==k | _=>false) (fun y hy=>?_) j (by simpa using hji) (by trivial) ?_ (fun m hm hlt=>?_)) ⟨e,?_⟩
 ·obtain ⟨m,hm⟩:=List.getElem?_of_mem (by simpa using hy:y∈its)
  obtain ⟨i,t',_,rfl⟩:=isI m y hm
  exact MeetsSeq.EqGives.int i k t' t
 ·obtain ⟨i,t',e1,e2⟩:=isI j its[j] (List.getElem?_eq_getElem hji)
  rw [hj] at e1
  cases e1
  simp only [List.getElem_toArray,e2,beq_self_eq_true]
 ·have hm':m<its.length:=by simpa using hm
  obtain ⟨i,t',e1,e2⟩:=isI m its[m] (List.getElem?_eq_getElem hm')
  have:=hno m hlt
  rw [e1] at this
  simp only [List.getElem_toArray,e2]
  simpa using fun z=>this (by rw [z])
 ·exact ⟨.int (j:Int),H,I.tok _,⟨()⟩,q⟩
end
abbrev mw (h:Heap) (z TI TO:Addr) (f0:Value) (b:Bool):Prop:=h.get? z=some { cls:=.type "zip",dict:=none,data:=.fields #[f0,.bool b,.bool false,.ref TI,.ref TO],slots:=#[] }
theorem Ao {M:Model}{A:Around}{E:Value→Shared→Prop}{s:Shared}{a:Addr}{o:Obj}{Q:Option Obj→Shared→Prop} (e:s.heap.get? a=some o) (h:Q (some o) s):wpAny M A (loadIfAlive a) Q E s:=fun Γ p hΓ=>by
 unfold loadIfAlive
 rw [Sem.wp_loadIfAlive,e]
 exact h
section
variable {prog:Program}{w:World}{A:Around}{E:Value→Shared→Prop}{s:Shared}
variable {z TI TO i1 i2 l1 l2 T:Addr}{k:Nat}{xs ys:Array Value}{bb:Bool}{c1 c2:Bool}{oT:Obj}
theorem AB {Q:Bool→Shared→Prop} (hz:mw s.heap z TI TO (rawInt T) bb) (hT:s.heap.get? T=some oT)
 (h:∀h',mw h' z TI TO (rawInt T) true→Heap.SameBut z s.heap h'→Q false { s with heap:=h' }):wpAny (model prog w) A (Builtin.SmallTypes.ownedTupleIsFree (.ref z)) Q E s:=by
 unfold Builtin.SmallTypes.ownedTupleIsFree
 refine wpAny_bind (wpAny_field hz rfl (x:=rawInt T) rfl ?_)
 show wpAny _ _ (loadIfAlive ((T:Int).toNat) >>= _) _ _ _
 refine wpAny_bind (Ao (a:=(T:Int).toNat) (by rw [Int.toNat_natCast];exact hT) ?_)
 simp only [Option.isNone_some,Bool.false_eq_true,if_false]
 refine wpAny_bind (wpAny_field hz rfl (x:=.bool bb) rfl ?_)
 cases bb with
 | true=>exact wpAny_pure (h s.heap hz (Heap.SameBut.refl ..))
 | false=>
  refine wpAny_bind (wpAny_setField_rec hz (by simp) fun h' e sb=>wpAny_pure (h h' e sb))
end
theorem jL:entryFor table "dict.update.loop" = some Builtin.«dict.update.loop»:=entryFor_of_tree (by kernel_rfl)
theorem dN:plainId "dict.update.loop" = true:=by nofun
theorem Bi {kvs:List (ay×Value)}{k:ay}{v:Value} (h:k∉kvs.map (·.1)):stored kvs k v=kvs++[(k,v)]:=by
 unfold stored
 rw [if_neg]
 intro z
 obtain ⟨x,hx,e⟩:=List.any_eq_true.mp z
 exact h (by rw [←of_decide_eq_true e];exact List.mem_map_of_mem hx)
theorem zy {α β:Type}:∀{ks:List α}{us:List β},ks.length=us.length→(ks.zip us).map (·.1)=ks
 | [],[],_=>rfl
 | k :: ks,u :: us,h=>by simp [zy (ks:=ks) (us:=us) (by simpa using h)]
section
variable {prog:Program}{w:World}{A:Around}{E:Value→Shared→Prop}{R:Result→Shared→Prop}
variable {z TI TO i1 i2 l1 l2 d:Addr}{xs ys:Array Value}{c1 c2:Bool}{ks:List ay}
end
theorem ux:bootBuiltins "dict" = some (.type "dict"):=by nofun
theorem Ec:∀{ks:List ay}{ys:List V}{us:List Value},aA ys us→KV (ks.zip ys) (ks.zip us)
 | [],_,_,_=>.nil
 | _ :: _,_,_,.nil=>.nil
 | k :: ks,_,_,.cons r t=>.cons ⟨rfl,r⟩ (Ec t)
section
variable {X:Cx}{K:PySem.W.Frag}{a b:Expr}{ta:TA}{p1 p2 p3 p4:Pos}
def valD (kvs:List (ay×V)) (k:ay):Option V:=(kvs.find? fun kv=>decide (kv.1=k)).map (·.2)
theorem KV.valD:∀{kvs:List (ay×V)}{vs:List (ay×Value)} (r:KV kvs vs) (k:ay),tP (valD kvs k) (valueAt vs k)
 | _,_,.nil,_=>trivial
 | p :: ps,q :: qs,.cons h t,k=>by
  obtain ⟨h1,h2⟩:=h
  by_cases e:p.1=k
  ·have e':q.1=k:=h1.symm.trans e
   have b1:L2.valD (p :: ps) k=some p.2:=by simp [L2.valD,List.find?_cons,e]
   have b2:valueAt (q :: qs) k=some q.2:=by simp [valueAt,List.find?_cons,e']
   rw [b1,b2];exact h2
  ·have e':¬q.1=k:=fun z=>e (h1.trans z)
   have b1:L2.valD (p :: ps) k=L2.valD ps k:=by simp [L2.valD,List.find?_cons,e]
   have b2:valueAt (q :: qs) k=valueAt qs k:=by simp [valueAt,List.find?_cons,e']
   rw [b1,b2];exact KV.valD t k
inductive Kf (x:V) (y:V) (H:Hp) (Q:VK):Prop
 | mk (d:Addr) (kvs:List (ay×V)) (k:ay) (v:V) (h0:x=.ref d) (h1:y=dA k) (h2:H d=some (.dK kvs)) (h3:valD kvs k=some v) (h4:Q v H)
def LP:R2:=fun x y H Q=>Kf  x y H Q
theorem j9 {P:Program}{w:World}{k:ay}{u:Value} (r:aP (dA k) u):(aG P w).is k u=true:=(xu r).1
theorem fK:sf X LP:=by
 intro value slice pins s σ H x y v u Q I rx ry h hs
 obtain ⟨d,kvs,k,z,rfl,rfl,hd,he,q⟩:=h
 cases rx
 obtain ⟨_,_,vs,rel,dd⟩:=(show bD X.prog X.w H s.heap d (.dK kvs) from I.hok d _ hd)
 have hv:=rel.valD k
 rw [he] at hv
 obtain ⟨w',hw,rw'⟩:=tP.some_of hv
 exact subscriptTail_builtinR (x:=w') dd.typeIs PySem.F.slot_dict_getitem.lookup (wpAny_getItem_of (j9 ry) dd.mapOf hw ⟨rfl,z,H,I.tok _,rw',q⟩) hs
theorem wf:∀{ks:List ay}{ys:List V}{i:Nat}{k:ay}{y:V},ks.Nodup→ks[i]?=some k→ys[i]?=some y→valD (ks.zip ys) k=some y
 | [],_,_,_,_,_,h,_=>by simp at h
 | _ :: _,[],_,_,_,_,_,h=>by simp at h
 | k0 :: ks,y0 :: ys,0,k,y,_,h1,h2=>by
  simp at h1 h2
  subst h1 h2
  simp [valD]
 | k0 :: ks,y0 :: ys,i+1,k,y,nd,h1,h2=>by
  simp only [List.getElem?_cons_succ] at h1 h2
  have ne:¬k0=k:=fun z=>by
   rw [z] at nd
   exact (List.nodup_cons.mp nd).1 (List.mem_of_getElem? h1)
  have b1:valD ((k0 :: ks).zip (y0 :: ys)) k=valD (ks.zip ys) k:=by simp [valD,List.find?_cons,ne]
  rw [b1]
  exact wf (List.nodup_cons.mp nd).2 h1 h2
end
section
variable {X:Cx}
end
theorem aH {a b:Nat} (h:a≠b):@Ne Addr a b:=h
abbrev cS (h:Heap) (T:Addr) (a b c:Value):Prop:=h.get? T=some { cls:=.type "tuple",data:=.seq #[a,b,c] }
section
variable {prog:Program}{w:World}{A:Around}{E:Value→Shared→Prop}{s:Shared}
theorem qU {T:Addr}{a b c x:Value}{k:Nat}{Q:Unit→Shared→Prop} (hT:cS s.heap T a b c)
 (h:∀h',h'.get? T=some { cls:=.type "tuple",data:=.seq ((#[a,b,c]:Array Value).setIfInBounds k x) }→Heap.SameBut T s.heap h'→Q () { s with heap:=h' }) :
 wpAny (model prog w) A (updateSeq T (·.setIfInBounds k x)) Q E s:=by
 refine wpAny_updateSeq hT rfl (h _ ?_ (Heap.SameBut.update ..))
 rw [Heap.get?_update_self _ hT rfl]
 simp [Obj.mapSeq]
variable {n l1 l2 l3 T:Nat}{k:Nat}{xs ys zs:Array Value}{bb:Bool}{oT:Obj}
set_option maxHeartbeats 1000000 in
theorem Ex {a b c x y v:Value}{Q:Value→Shared→Prop} (hl:l1<n∧l2<n∧l3<n)
 (hz:IsZip s.heap (n+5) (n+3) (n+4) .none) (hTI:cS s.heap (n+3) (.ref n) (.ref (n+1)) (.ref (n+2))) (hTO:cS s.heap (n+4) a b c) (hh:A.handled=none)
 (h1:fV s.heap n l1 k true) (h2:fV s.heap (n+1) l2 k true) (h3:fV s.heap (n+2) l3 k true) (q1:fE s.heap l1 xs true) (q2:fE s.heap l2 ys true) (q3:fE s.heap l3 zs true) (hx:xs[k]?=some x) (hy:ys[k]?=some y) (hv:zs[k]?=some v)
 (hQ:∀h' tk,IsZip h' (n+5) (n+3) (n+4) (rawInt s.heap.objs.size)→fV h' n l1 (k+1) true→fV h' (n+1) l2 (k+1) true→fV h' (n+2) l3 (k+1) true→cS h' s.heap.objs.size x y v→h'.objs.size=s.heap.objs.size+1→
  (∀(c:Nat) o,c≠n+5→c≠n+4→c≠n→c≠n+1→c≠n+2→s.heap.get? c=some o→h'.get? c=some o)→Q (.ref s.heap.objs.size) { s with heap:=h',toks:=tk }) :
 wpAny (model prog w) A (Builtin.«zip.__next__» ⟨[.ref (n+5)],[]⟩) (fun fin s'=>∃v,fin=.done (.ret v)∧Q v s') E s:=by
 obtain ⟨m1,m2,m3⟩:=hl
 have kx:k<xs.size:=(Array.getElem?_eq_some_iff.mp hx).1
 have ky:k<ys.size:=(Array.getElem?_eq_some_iff.mp hy).1
 have kv:k<zs.size:=(Array.getElem?_eq_some_iff.mp hv).1
 have D1:=kM (prog:=prog) (w:=w) hh n l1 (aH (by trivial)) xs true
 have D2:=kM (prog:=prog) (w:=w) hh (n+1) l2 (aH (by trivial)) ys true
 have D3:=kM (prog:=prog) (w:=w) hh (n+2) l3 (aH (by trivial)) zs true
 show wpAny _ _ (field (.ref (n+5)) 2 >>= _) _ _ _;refine wpAny_bind (wpAny_field hz rfl (x:=.bool false) rfl ?_)
 show wpAny _ _ (field (.ref (n+5)) 3 >>= _) _ _ _;refine wpAny_bind (wpAny_field hz rfl (x:=.ref (n+3)) rfl (wpAny_bind (wpAny_seqItems hTI rfl ?_)))
 show wpAny _ _ (Builtin.SmallTypes.ownedTupleIsFree (.ref (n+5)) >>= _) _ _ _;refine wpAny_bind ?_;unfold Builtin.SmallTypes.ownedTupleIsFree
 refine wpAny_bind (wpAny_field hz rfl (x:=.none) rfl (wpAny_pure ?_));simp only [if_true]
 refine wpAny_bind (wpAny_rule (wpAny_bind (wpAny_field hz rfl (x:=.ref (n+4)) rfl (wpAny_bind (wpAny_setField_rec hz (by simp) fun g1 z1 t1=>?_)))))
 replace z1:IsZip g1 (n+5) (n+3) (n+4) .ellipsis:=z1
 refine wpAny_bind ?_;simp only [List.zipIdx_cons,List.zipIdx_nil,List.forIn_cons,List.forIn_nil];refine wpAny_bind (wpAny_bind (wpAny_onRaise ?_))
 show wpAny _ _ (Builtin.SmallTypes.nextOf (.ref n) >>= _) _ _ _
 refine wpAny_bind (D1.item k _ _ _ kx ⟨h1.at fun o e=>t1.extBut _ _ (aH (by trivial)) e,q1.at fun o e=>t1.extBut _ _ (aH (by trivial)) e⟩ fun x' g2 tk2 p1 st1 t2=>wpAny_pure ?_)
 have ex:x=x':=Option.some.inj (hx.symm.trans p1)
 subst ex
 have TO2:cS g2 (n+4) a b c:=t2.extBut _ _ (aH (by trivial)) (t1.extBut _ _ (aH (by trivial)) hTO)
 refine wpAny_bind (wpAny_seqItems TO2 rfl (wpAny_bind (qU TO2 fun g3 TO3 t3=>?_)))
 replace TO3:cS g3 (n+4) x b c:=TO3
 refine wpAny_bind (wpAny_letGo (wpAny_pure ?_));refine wpAny_bind (wpAny_bind (wpAny_onRaise ?_));show wpAny _ _ (Builtin.SmallTypes.nextOf (.ref (n+1)) >>= _) _ _ _
 refine wpAny_bind (D2.item k _ _ _ ky ⟨h2.at fun o e=>t3.extBut _ _ (aH (by trivial)) (t2.extBut _ _ (aH (by trivial)) (t1.extBut _ _ (aH (by trivial)) e)),q2.at fun o e=>t3.extBut _ _ (aH (by trivial)) (t2.extBut _ _ (aH (by trivial)) (t1.extBut _ _ (aH (by trivial)) e))⟩ fun y' g4 tk4 p2 st2 t4=>wpAny_pure ?_)
 have ey:y=y':=Option.some.inj (hy.symm.trans p2)
 subst ey
 have TO4:cS g4 (n+4) x b c:=t4.extBut _ _ (aH (by trivial)) TO3
 refine wpAny_bind (wpAny_seqItems TO4 rfl (wpAny_bind (qU TO4 fun g5 TO5 t5=>?_)))
 replace TO5:cS g5 (n+4) x y c:=TO5
 refine wpAny_bind (wpAny_letGo (wpAny_pure ?_));refine wpAny_bind (wpAny_bind (wpAny_onRaise ?_));show wpAny _ _ (Builtin.SmallTypes.nextOf (.ref (n+2)) >>= _) _ _ _
 refine wpAny_bind (D3.item k _ _ _ kv ⟨h3.at fun o e=>t5.extBut _ _ (aH (by trivial)) (t4.extBut _ _ (aH (by trivial)) (t3.extBut _ _ (aH (by trivial)) (t2.extBut _ _ (aH (by trivial)) (t1.extBut _ _ (aH (by trivial)) e)))),q3.at fun o e=>t5.extBut _ _ (aH (by trivial)) (t4.extBut _ _ (aH (by trivial)) (t3.extBut _ _ (aH (by trivial)) (t2.extBut _ _ (aH (by trivial)) (t1.extBut _ _ (aH (by trivial)) e))))⟩ fun v' g6 tk6 p3 st3 t6=>wpAny_pure ?_)
 have ev:v=v':=Option.some.inj (hv.symm.trans p3)
 subst ev
 have TO6:cS g6 (n+4) x y c:=t6.extBut _ _ (aH (by trivial)) TO5
 refine wpAny_bind (wpAny_seqItems TO6 rfl (wpAny_bind (qU TO6 fun g7 TO7 t7=>?_)))
 replace TO7:cS g7 (n+4) x y v:=TO7
 refine wpAny_bind (wpAny_letGo (wpAny_pure (wpAny_pure ?_)));refine wpAny_bind (wpAny_seqItems TO7 rfl (wpAny_bind (wpAny_newTuple ?_)))
 have sz:g7.objs.size=s.heap.objs.size:=by rw [t7.1,t6.1,t5.1,t4.1,t3.1,t2.1,t1.1]
 have keep:∀(c:Nat) o,c≠n+5→c≠n+4→c≠n→c≠n+1→c≠n+2→s.heap.get? c=some o→g7.get? c=some o:=fun c o d1 d2 d3 d4 d5 e=>t7.extBut _ _ d2 (t6.extBut _ _ d5 (t5.extBut _ _ d2 (t4.extBut _ _ d4 (t3.extBut _ _ d2 (t2.extBut _ _ d3 (t1.extBut _ _ d1 e))))))
 have z7:IsZip g7 (n+5) (n+3) (n+4) .ellipsis:=t7.extBut _ _ (aH (by trivial)) (t6.extBut _ _ (aH (by trivial)) (t5.extBut _ _ (aH (by trivial)) (t4.extBut _ _ (aH (by trivial)) (t3.extBut _ _ (aH (by trivial)) (t2.extBut _ _ (aH (by trivial)) z1)))))
 have it1:fV g7 n l1 (k+1) true:=st1.1.at fun o e=>t7.extBut _ _ (aH (by trivial)) (t6.extBut _ _ (aH (by trivial)) (t5.extBut _ _ (aH (by trivial)) (t4.extBut _ _ (aH (by trivial)) (t3.extBut _ _ (aH (by trivial)) e))))
 have it2:fV g7 (n+1) l2 (k+1) true:=st2.1.at fun o e=>t7.extBut _ _ (aH (by trivial)) (t6.extBut _ _ (aH (by trivial)) (t5.extBut _ _ (aH (by trivial)) e))
 have it3:fV g7 (n+2) l3 (k+1) true:=st3.1.at fun o e=>t7.extBut _ _ (aH (by trivial)) e
 have zlt:n+5<g7.objs.size:=Heap.lt_size z7
 show wpAny _ _ (Builtin.SmallTypes.ownedTupleHandOut (.ref (n+5)) (.ref g7.objs.size) >>= _) _ _ _;refine wpAny_bind ?_;unfold Builtin.SmallTypes.ownedTupleHandOut
 have z8:IsZip (g7.push { cls:=.type "tuple",data:=.seq #[x,y,v] }) (n+5) (n+3) (n+4) .ellipsis:=Heap.get?_push_of_some _ z7
 refine wpAny_bind (wpAny_setField_rec z8 (by simp) fun g9 z9 t9=>?_)
 replace z9:IsZip g9 (n+5) (n+3) (n+4) (rawInt g7.objs.size):=z9
 refine wpAny_setField_rec z9 (by simp) fun gA zA tA=>?_
 replace zA:IsZip gA (n+5) (n+3) (n+4) (rawInt g7.objs.size):=zA
 have up:∀(c:Nat) o,c≠n+5→g7.get? c=some o→gA.get? c=some o:=fun c o d e=>tA.extBut _ _ d (t9.extBut _ _ d (Heap.get?_push_of_some _ e))
 have TA:cS gA g7.objs.size x y v:=tA.extBut _ _ (Nat.ne_of_gt zlt) (t9.extBut _ _ (Nat.ne_of_gt zlt) (Heap.get?_push_size _ rfl))
 have sA:gA.objs.size=g7.objs.size+1:=by rw [tA.1,t9.1,Heap.size_push]
 rw [sz] at zA TA sA
 refine wpAny_pure ⟨(),?_⟩;show Q (.ref g7.objs.size) _;rw [sz]
 exact hQ gA _ zA (it1.at fun o e=>up _ o (aH (by trivial)) e) (it2.at fun o e=>up _ o (aH (by trivial)) e) (it3.at fun o e=>up _ o (aH (by trivial)) e) TA sA fun c o d1 d2 d3 d4 d5 e=>up c o d1 (keep c o d1 d2 d3 d4 d5 e)
theorem CL {x y v:Value}{Q:Value→Shared→Prop} (hl:l1<n∧l2<n∧l3<n)
 (hz:mw s.heap (n+5) (n+3) (n+4) (rawInt T) bb) (hT:s.heap.get? T=some oT) (hTI:cS s.heap (n+3) (.ref n) (.ref (n+1)) (.ref (n+2))) (hh:A.handled=none)
 (h1:fV s.heap n l1 k true) (h2:fV s.heap (n+1) l2 k true) (h3:fV s.heap (n+2) l3 k true) (q1:fE s.heap l1 xs true) (q2:fE s.heap l2 ys true) (q3:fE s.heap l3 zs true) (hx:xs[k]?=some x) (hy:ys[k]?=some y) (hv:zs[k]?=some v)
 (hQ:∀h' tk,mw h' (n+5) (n+3) (n+4) (rawInt T) true→fV h' n l1 (k+1) true→fV h' (n+1) l2 (k+1) true→fV h' (n+2) l3 (k+1) true→cS h' s.heap.objs.size x y v→h'.objs.size=s.heap.objs.size+1→
  (∀(c:Nat) o,c≠n+5→c≠n→c≠n+1→c≠n+2→s.heap.get? c=some o→h'.get? c=some o)→Q (.ref s.heap.objs.size) { s with heap:=h',toks:=tk }) :
 wpAny (model prog w) A (Builtin.«zip.__next__» ⟨[.ref (n+5)],[]⟩) (fun fin s'=>∃v,fin=.done (.ret v)∧Q v s') E s:=by
 obtain ⟨m1,m2,m3⟩:=hl
 have kx:k<xs.size:=(Array.getElem?_eq_some_iff.mp hx).1
 have ky:k<ys.size:=(Array.getElem?_eq_some_iff.mp hy).1
 have kv:k<zs.size:=(Array.getElem?_eq_some_iff.mp hv).1
 have D1:=kM (prog:=prog) (w:=w) hh n l1 (aH (by trivial)) xs true
 have D2:=kM (prog:=prog) (w:=w) hh (n+1) l2 (aH (by trivial)) ys true
 have D3:=kM (prog:=prog) (w:=w) hh (n+2) l3 (aH (by trivial)) zs true
 show wpAny _ _ (field (.ref (n+5)) 2 >>= _) _ _ _;refine wpAny_bind (wpAny_field hz rfl (x:=.bool false) rfl ?_)
 show wpAny _ _ (field (.ref (n+5)) 3 >>= _) _ _ _;refine wpAny_bind (wpAny_field hz rfl (x:=.ref (n+3)) rfl (wpAny_bind (wpAny_seqItems hTI rfl ?_)))
 show wpAny _ _ (Builtin.SmallTypes.ownedTupleIsFree (.ref (n+5)) >>= _) _ _ _
 refine wpAny_bind (AB hz hT fun g1 z1 t1=>?_)
 simp only [Bool.false_eq_true,if_false]
 refine wpAny_bind ?_
 rw [←Array.forIn_toList]
 simp only [List.forIn_cons,List.forIn_nil]
 refine wpAny_bind (wpAny_bind (wpAny_holding ?_))
 show wpAny _ _ (Builtin.SmallTypes.nextOf (.ref n) >>= _) _ _ _
 refine wpAny_bind (D1.item k _ _ _ kx ⟨h1.at fun o e=>t1.extBut _ _ (aH (by trivial)) e,q1.at fun o e=>t1.extBut _ _ (aH (by trivial)) e⟩ fun x' g2 tk2 p1 st1 t2=>wpAny_pure ?_)
 have ex:x=x':=Option.some.inj (hx.symm.trans p1)
 subst ex
 refine wpAny_pure ?_
 refine wpAny_bind (wpAny_bind (wpAny_holding ?_))
 show wpAny _ _ (Builtin.SmallTypes.nextOf (.ref (n+1)) >>= _) _ _ _
 refine wpAny_bind (D2.item k _ _ _ ky ⟨h2.at fun o e=>t2.extBut _ _ (aH (by trivial)) (t1.extBut _ _ (aH (by trivial)) e),q2.at fun o e=>t2.extBut _ _ (aH (by trivial)) (t1.extBut _ _ (aH (by trivial)) e)⟩ fun y' g4 tk4 p2 st2 t4=>wpAny_pure ?_)
 have ey:y=y':=Option.some.inj (hy.symm.trans p2)
 subst ey
 refine wpAny_pure ?_
 refine wpAny_bind (wpAny_bind (wpAny_holding ?_))
 show wpAny _ _ (Builtin.SmallTypes.nextOf (.ref (n+2)) >>= _) _ _ _
 refine wpAny_bind (D3.item k _ _ _ kv ⟨h3.at fun o e=>t4.extBut _ _ (aH (by trivial)) (t2.extBut _ _ (aH (by trivial)) (t1.extBut _ _ (aH (by trivial)) e)),q3.at fun o e=>t4.extBut _ _ (aH (by trivial)) (t2.extBut _ _ (aH (by trivial)) (t1.extBut _ _ (aH (by trivial)) e))⟩ fun v' g6 tk6 p3 st3 t6=>wpAny_pure ?_)
 have ev:v=v':=Option.some.inj (hv.symm.trans p3)
 subst ev
 refine wpAny_pure (wpAny_pure ?_)
 refine wpAny_bind (wpAny_newTuple ?_ (by show 3≤sizeLine;rw [sizeLine_eq];decide))
 have sz:g6.objs.size=s.heap.objs.size:=by rw [t6.1,t4.1,t2.1,t1.1]
 have z6:mw g6 (n+5) (n+3) (n+4) (rawInt T) true:=t6.extBut _ _ (aH (by trivial)) (t4.extBut _ _ (aH (by trivial)) (t2.extBut _ _ (aH (by trivial)) z1))
 refine wpAny_pure ⟨(),?_⟩
 show Q (.ref g6.objs.size) _
 have pu:cS (g6.push { cls:=.type "tuple",data:=.seq #[x,y,v] }) g6.objs.size x y v:=Heap.get?_push_size _ rfl
 have ps:(g6.push { cls:=.type "tuple",data:=.seq #[x,y,v] }).objs.size=s.heap.objs.size+1:=by rw [Heap.size_push,sz]
 rw [sz] at pu ⊢
 exact hQ _ _ (Heap.get?_push_of_some _ z6) ((st1.1.at fun o e=>t6.extBut _ _ (aH (by trivial)) (t4.extBut _ _ (aH (by trivial)) e)).at fun o e=>Heap.get?_push_of_some _ e) ((st2.1.at fun o e=>t6.extBut _ _ (aH (by trivial)) e).at fun o e=>Heap.get?_push_of_some _ e) (st3.1.at fun o e=>Heap.get?_push_of_some _ e) pu ps
  fun c o d1 d3 d4 d5 e=>Heap.get?_push_of_some _ (t6.extBut _ _ d5 (t4.extBut _ _ d4 (t2.extBut _ _ d3 (t1.extBut _ _ d1 e))))
theorem GQ {Q:Fin→Shared→Prop} (hh:A.handled=none) (hl:l1<n) {f0:Value} (hz:mw s.heap (n+5) (n+3) (n+4) f0 bb) (hf:(f0=.none∧bb=false)∨∃T:Nat,f0=rawInt T∧∃o,s.heap.get? T=some o) (hTI:cS s.heap (n+3) (.ref n) (.ref (n+1)) (.ref (n+2)))
 (h1:fV s.heap n l1 k true) (q1:fE s.heap l1 xs true) (hend:xs.size=k)
 (hE:∀h' e tk,(∀(c:Nat) o,c≠n+5→c≠n→s.heap.get? c=some o→h'.get? c=some o)→(∃o,h'.get? e=some o∧o.cls=.type "StopIteration")→E (.ref e) { s with heap:=h',toks:=tk }) :
 wpAny (model prog w) A (Builtin.«zip.__next__» ⟨[.ref (n+5)],[]⟩) Q E s:=by
 have D1:=kM (prog:=prog) (w:=w) hh n l1 (aH (by trivial)) xs true
 show wpAny _ _ (field (.ref (n+5)) 2 >>= _) _ _ _;refine wpAny_bind (wpAny_field hz rfl (x:=.bool false) rfl ?_)
 show wpAny _ _ (field (.ref (n+5)) 3 >>= _) _ _ _;refine wpAny_bind (wpAny_field hz rfl (x:=.ref (n+3)) rfl (wpAny_bind (wpAny_seqItems hTI rfl ?_)))
 show wpAny _ _ (Builtin.SmallTypes.ownedTupleIsFree (.ref (n+5)) >>= _) _ _ _
 rcases hf with ⟨rfl,rfl⟩ | ⟨T,rfl,oT,hT⟩
 ·refine wpAny_bind ?_;unfold Builtin.SmallTypes.ownedTupleIsFree
  refine wpAny_bind (wpAny_field hz rfl (x:=.none) rfl (wpAny_pure ?_));simp only [if_true]
  refine wpAny_bind (wpAny_rule (wpAny_bind (wpAny_field hz rfl (x:=.ref (n+4)) rfl (wpAny_bind (wpAny_setField_rec hz (by simp) fun g1 z1 t1=>?_)))))
  replace z1:IsZip g1 (n+5) (n+3) (n+4) .ellipsis:=z1
  refine wpAny_bind ?_;simp only [List.zipIdx_cons,List.zipIdx_nil,List.forIn_cons,List.forIn_nil];refine wpAny_bind (wpAny_bind (wpAny_onRaise ?_))
  show wpAny _ _ (Builtin.SmallTypes.nextOf (.ref n) >>= _) _ _ _
  have st0:fV g1 n l1 k true∧fE g1 l1 xs true:=⟨h1.at fun o e=>t1.extBut _ _ (aH (by trivial)) e,q1.at fun o e=>t1.extBut _ _ (aH (by trivial)) e⟩
  refine wpAny_bind (D1.done _ _ _ (by rw [hend];exact st0) fun g2 e t2 he=>?_)
  obtain ⟨oe,e1,e2⟩:=he
  have z2:IsZip g2 (n+5) (n+3) (n+4) .ellipsis:=t2 _ _ (aH (by trivial)) z1
  have ez:e≠n+5:=fun q=>by subst q;rw [z2] at e1;cases e1;simp at e2
  exact wpAny_setField_rec z2 (by simp) fun g3 _ t3=>hE g3 e _ (fun c o d1 d3 q=>t3.extBut _ _ d1 (t2 _ _ d3 (t1.extBut _ _ d1 q))) ⟨oe,t3.extBut _ _ ez e1,e2⟩
 ·refine wpAny_bind (AB hz hT fun g1 z1 t1=>?_)
  simp only [Bool.false_eq_true,if_false]
  refine wpAny_bind ?_
  rw [←Array.forIn_toList]
  simp only [List.forIn_cons,List.forIn_nil]
  refine wpAny_bind (wpAny_bind (wpAny_holding ?_))
  show wpAny _ _ (Builtin.SmallTypes.nextOf (.ref n) >>= _) _ _ _
  have st0:fV g1 n l1 k true∧fE g1 l1 xs true:=⟨h1.at fun o e=>t1.extBut _ _ (aH (by trivial)) e,q1.at fun o e=>t1.extBut _ _ (aH (by trivial)) e⟩
  refine wpAny_bind (D1.done _ _ _ (by rw [hend];exact st0) fun g2 e t2 he=>?_)
  exact hE g2 e _ (fun c o d1 d3 q=>t2 _ _ d3 (t1.extBut _ _ d1 q)) he
end
structure Z3 (h:Heap) (n l1 l2 l3:Nat) (xs ys zs:Array Value) (k:Nat):Prop where
 z:(IsZip h (n+5) (n+3) (n+4) .none∧fD fun a b c=>cS h (n+4) a b c)∨fD fun (T:Nat) (o:Obj) (bb:Bool)=>mw h (n+5) (n+3) (n+4) (rawInt T) bb∧h.get? T=some o∧n+6<T
 t:cS h (n+3) (.ref n) (.ref (n+1)) (.ref (n+2))
 a:fV h n l1 k true
 b:fV h (n+1) l2 k true
 c:fV h (n+2) l3 k true
 d:fE h l1 xs true
 e:fE h l2 ys true
 f:fE h l3 zs true
section
variable {prog:Program}{w:World}{A:Around}{E:Value→Shared→Prop}{s:Shared}
variable {n l1 l2 l3:Nat}{k:Nat}{xs ys zs:Array Value}
theorem Z3.keep {h h':Heap} (st:Z3 h n l1 l2 l3 xs ys zs k) (hl:l1<n∧l2<n∧l3<n) (kp:∀(c:Nat) o,c≠n+6→h.get? c=some o→h'.get? c=some o):Z3 h' n l1 l2 l3 xs ys zs k:=by
 refine ⟨?_,kp _ _ (by trivial) st.t,st.a.at fun o e=>kp _ o (by trivial) e,st.b.at fun o e=>kp _ o (by trivial) e,st.c.at fun o e=>kp _ o (by trivial) e,st.d.at fun o e=>kp _ o (by trivial) e,st.e.at fun o e=>kp _ o (by trivial) e,st.f.at fun o e=>kp _ o (by trivial) e⟩
 rcases st.z with ⟨h1,a,b,c,h2⟩ | ⟨T,o,bb,h1,h2,h3⟩
 ·exact .inl ⟨kp _ _ (by trivial) h1,a,b,c,kp _ _ (by trivial) h2⟩
 ·exact .inr ⟨T,o,bb,kp _ _ (by trivial) h1,kp _ _ (by trivial) h2,h3⟩
theorem CG {x y v:Value}{Q:Option Value→Shared→Prop} (hl:l1<n∧l2<n∧l3<n) (hsz:n+6<s.heap.objs.size)
 (st:Z3 s.heap n l1 l2 l3 xs ys zs k) (hh:A.handled=none) (hx:xs[k]?=some x) (hy:ys[k]?=some y) (hv:zs[k]?=some v)
 (hQ:∀h' tk,Z3 h' n l1 l2 l3 xs ys zs (k+1)→cS h' s.heap.objs.size x y v→h'.objs.size=s.heap.objs.size+1→(∀(c:Nat) o,c≠n+5→c≠n+4→c≠n→c≠n+1→c≠n+2→s.heap.get? c=some o→h'.get? c=some o)→Q (some (.ref s.heap.objs.size)) { s with heap:=h',toks:=tk }) :
 wpAny (model prog w) A (pyNext (.ref (n+5))) Q E s:=by
 rcases st.z with ⟨hz,a,b,c,hTO⟩ | ⟨T,o,bb,hz,hT,hn⟩
 ·have hT':s.TypeIs (.ref (n+5)) "zip" := ⟨_,hz,rfl⟩
  unfold pyNext
  refine wpAny_bind (wpAny_attempt (wpAny_callSpecial?_slot (name:=Str.ofString "__next__") hT' F.slot_zip_next (wpAny_call_entry F.slot_zip_next hT' F.entry_zip_next
   (Ex hl hz st.t hTO hh st.a st.b st.c st.d st.e st.f hx hy hv fun h' tk zo t1 t2 t3 T' sz keep=>wpAny_pure ?_) (F.args_zip_next_1 _))))
  refine hQ h' tk ⟨.inr ⟨s.heap.objs.size,_,false,zo,T',hsz⟩,keep _ _ (by trivial) (by trivial) (by trivial) (by trivial) (by trivial) st.t,t1,t2,t3,st.d.at fun o e=>keep _ o (by trivial) (by trivial) (by trivial) (by trivial) (by trivial) e,st.e.at fun o e=>keep _ o (by trivial) (by trivial) (by trivial) (by trivial) (by trivial) e,st.f.at fun o e=>keep _ o (by trivial) (by trivial) (by trivial) (by trivial) (by trivial) e⟩ T' sz keep
 ·have hT':s.TypeIs (.ref (n+5)) "zip" := ⟨_,hz,rfl⟩
  unfold pyNext
  refine wpAny_bind (wpAny_attempt (wpAny_callSpecial?_slot (name:=Str.ofString "__next__") hT' F.slot_zip_next (wpAny_call_entry F.slot_zip_next hT' F.entry_zip_next
   (CL hl hz hT st.t hh st.a st.b st.c st.d st.e st.f hx hy hv fun h' tk zo t1 t2 t3 T' sz keep=>wpAny_pure ?_) (F.args_zip_next_1 _))))
  refine hQ h' tk ⟨.inr ⟨T,o,true,zo,keep _ _ (by trivial) (by trivial) (by trivial) (by trivial) hT,hn⟩,keep _ _ (by trivial) (by trivial) (by trivial) (by trivial) st.t,t1,t2,t3,st.d.at fun o e=>keep _ o (by trivial) (by trivial) (by trivial) (by trivial) e,st.e.at fun o e=>keep _ o (by trivial) (by trivial) (by trivial) (by trivial) e,st.f.at fun o e=>keep _ o (by trivial) (by trivial) (by trivial) (by trivial) e⟩ T' sz fun c o d1 _ d3 d4 d5 e=>keep c o d1 d3 d4 d5 e
theorem E1 {Q:Option Value→Shared→Prop} (hl:l1<n∧l2<n∧l3<n) (st:Z3 s.heap n l1 l2 l3 xs ys zs k) (hh:A.handled=none) (hend:xs.size=k)
 (hQ:∀h' tk,(∀(c:Nat) o,c≠n+5→c≠n→s.heap.get? c=some o→h'.get? c=some o)→Q none { s with heap:=h',toks:=tk }) :
 wpAny (model prog w) A (pyNext (.ref (n+5))) Q E s:=by
 obtain ⟨f0,bb,hz,hf⟩:aZ fun f0 bb=>mw s.heap (n+5) (n+3) (n+4) f0 bb∧((f0=.none∧bb=false)∨∃T:Nat,f0=rawInt T∧∃o,s.heap.get? T=some o):=by
  rcases st.z with ⟨hz,_⟩ | ⟨T,o,bb,hz,hT,hn⟩
  ·exact ⟨_,_,hz,.inl ⟨rfl,rfl⟩⟩
  ·exact ⟨_,_,hz,.inr ⟨T,rfl,o,hT⟩⟩
 have hT':s.TypeIs (.ref (n+5)) "zip" := ⟨_,hz,rfl⟩
 unfold pyNext
 refine wpAny_bind (wpAny_attempt (wpAny_callSpecial?_slot (name:=Str.ofString "__next__") hT' F.slot_zip_next (wpAny_call_entry F.slot_zip_next hT' F.entry_zip_next
  (GQ hh hl.1 hz hf st.t st.a st.d hend fun h' e tk hk he=>?_) (F.args_zip_next_1 _))))
 obtain ⟨o,ho,hc⟩:=he
 exact wpAny_bind (wpAny_isInstance (T := "StopIteration") (b:=true) ⟨o,ho,hc⟩ isSubtype_stop (wpAny_pure (hQ _ tk hk)))
end
section
variable {prog:Program}{w:World}{A:Around}{E:Value→Shared→Prop}{R:Result→Shared→Prop}
variable {n l1 l2 l3:Nat}{xs ys zs:Array Value}
def BP (h:Heap) (ts:List Nat) (xs ys zs:Array Value):Prop:=∀(i:Nat) t,ts[i]?=some t→fD fun x y v=>xs[i]?=some x∧ys[i]?=some y∧zs[i]?=some v∧cS h t x y v
theorem CI (hl:l1<n∧l2<n∧l3<n) (hh:A.handled=none) (ly:ys.size=xs.size) (lz:zs.size=xs.size) (hz:xs.size≤4000) :
 ∀(r i:Nat) (ts:List Nat) (c:Nat) (s:Shared),xs.size - i=r→i≤xs.size→Z3 s.heap n l1 l2 l3 xs ys zs i→n+6<s.heap.objs.size→ts.length=i→(∀t∈ts,n+6<t)→ts.Nodup→BP s.heap ts xs ys zs→
   s.heap.get? (n+6)=some { cls:=.type "list",data:=.seq (ts.map Value.ref).toArray c }→
   (∀h' tk ts' c',ts'.length=xs.size→(∀t∈ts',n+6<t)→ts'.Nodup→BP h' ts' xs ys zs→h'.get? (n+6)=some { cls:=.type "list",data:=.seq (ts'.map Value.ref).toArray c' }→(∀(c:Nat) o,c<n→s.heap.get? c=some o→h'.get? c=some o)→(∀t∈ts',t∉ts→s.heap.get? t=none)→R (.ok (.ret .none)) { s with heap:=h',toks:=tk })→
   codeAny (model prog w) A (.builtin "list.extend.loop" ⟨[.ref (n+6),.ref (n+5),.none],[]⟩) R s:=by
 intro r
 induction r with
 | zero=>
  intro i ts c s hr hi st hs lt ht nd tr hS hR
  have e:i=xs.size:=by trivial
  refine codeAny_builtin F.entry_extend_loop ?_
  rw [A.under_plainId F.plain_extend_loop]
  show wpAny _ _ (pyNext (Value.ref (n+5)) >>= _) _ _ _
  refine wpAny_bind (E1 hl st (by simpa using hh) e.symm fun h' tk keep=>?_)
  refine wpAny_pure (hR h' tk ts c (by trivial) ht nd (fun j t hj=>?_) (keep _ _ (by trivial) (by trivial) hS) (fun b o hb q=>keep b o (by trivial) (by trivial) q) fun t h1 h2=>absurd h1 h2)
  obtain ⟨x,y,v,a1,a2,a3,a4⟩:=tr j t hj
  have:=ht t (List.mem_of_getElem? hj)
  exact ⟨x,y,v,a1,a2,a3,keep _ _ (by trivial) (by trivial) a4⟩
 | succ r ih=>
  intro i ts c s hr hi st hs lt ht nd tr hS hR
  have lt':i<xs.size:=by trivial
  have hx:xs[i]?=some xs[i]:=Array.getElem?_eq_getElem (by trivial)
  have hy:ys[i]?=some ys[i]:=Array.getElem?_eq_getElem (by trivial)
  have hv:zs[i]?=some zs[i]:=Array.getElem?_eq_getElem (by trivial)
  refine codeAny_builtin F.entry_extend_loop ?_
  rw [A.under_plainId F.plain_extend_loop]
  show wpAny _ _ (pyNext (Value.ref (n+5)) >>= _) _ _ _
  refine wpAny_bind (CG hl hs st (by simpa using hh) hx hy hv fun h' tk st' T' sz keep=>?_)
  have hS':=keep _ _ (by trivial) (by trivial) (by trivial) (by trivial) (by trivial) hS
  show wpAny _ _ (updateSeq (n+6) (·.push (.ref s.heap.objs.size)) >>= _) _ _ _
  refine wpAny_bind (wpAny_updateSeq (s:={ s with heap:=h',toks:=tk }) hS' rfl ?_)
  have e2:=Heap.get?_update_self (Obj.mapSeq (·.push (Value.ref s.heap.objs.size))) hS' rfl
  obtain ⟨c2,e3⟩:∃c2,(h'.update (n+6) (Obj.mapSeq (·.push (Value.ref s.heap.objs.size)))).get? (n+6)=some { cls:=.type "list",data:=.seq ((ts++[s.heap.objs.size]).map Value.ref).toArray c2 }:=by
   rw [e2]
   simp only [Obj.mapSeq,List.map_append,List.map_cons,List.map_nil,List.push_toArray]
   exact ⟨()⟩
  have oth:∀(b:Nat) o,b≠n+6→h'.get? b=some o→(h'.update (n+6) (Obj.mapSeq (·.push (Value.ref s.heap.objs.size)))).get? b=some o:=fun b o hb q=>(Heap.get?_update_other _ _ (aH (Ne.symm hb))).trans q
  have fr:s.heap.get? s.heap.objs.size=none:=Heap.get?_none_of_le (Nat.le_refl _)
  have old:∀t∈ts,t<s.heap.objs.size:=fun t hm=>by
   obtain ⟨j,hj⟩:=List.getElem?_of_mem hm
   obtain ⟨_,_,_,_,_,_,a4⟩:=tr j t hj
   exact Heap.lt_size a4
  refine wpAny_pure ⟨plainId_quiet F.plain_extend_loop _,ih (i+1) (ts++[s.heap.objs.size]) c2 _ (by trivial) (by trivial) (st'.keep hl oth) (by show n+6<(h'.update _ _).objs.size;rw [Heap.size_update,sz];trivial) (by rw [List.length_append,lt];rfl) (fun t hm=>?_) (List.nodup_append.mpr ⟨nd,by simp,fun a ha b hb e=>?_⟩) (fun j t hj=>?_) e3 fun h3 tk3 ts3 c3 l3' g3 n3 tr3 e4 k3 f3=>hR h3 tk3 ts3 c3 l3' g3 n3 tr3 e4 (fun b o hb q=>k3 b o hb (oth b o (by trivial) (keep b o (by trivial) (by trivial) (by trivial) (by trivial) (by trivial) q))) fun t h1 h2=>?_⟩
  ·rcases List.mem_append.mp hm with hm | hm
   ·exact ht t hm
   ·rw [List.mem_singleton.mp hm];exact hs
  ·rw [List.mem_singleton] at hb
   have:=old a ha
   rw [e,hb] at this
   exact absurd this (Nat.lt_irrefl _)
  ·by_cases hjl:j<ts.length
   ·rw [List.getElem?_append_left hjl] at hj
    obtain ⟨x,y,v,a1,a2,a3,a4⟩:=tr j t hj
    have:=ht t (List.mem_of_getElem? hj)
    exact ⟨x,y,v,a1,a2,a3,oth _ _ (by trivial) (keep _ _ (by trivial) (by trivial) (by trivial) (by trivial) (by trivial) a4)⟩
   ·have ej:j=i:=by
     have:=(List.getElem?_eq_some_iff.mp hj).1
     rw [List.length_append] at this
     simp at this
     trivial
    subst ej
    rw [List.getElem?_append_right (by trivial),lt,Nat.sub_self] at hj
    simp at hj
    subst hj
    exact ⟨_,_,_,hx,hy,hv,oth _ _ (by trivial) T'⟩
  ·by_cases hm:t=s.heap.objs.size
   ·rw [hm];exact fr
   ·have q:=f3 t h1 (fun z=>by
     rcases List.mem_append.mp z with z | z
     ·exact h2 z
     ·exact hm (List.mem_singleton.mp z))
    cases e:s.heap.get? t with
    | none=>rfl
    | some o=>
     have hlt:=Heap.lt_size e
     have g:=g3 t h1
     have:=oth t o (by trivial) (keep t o (by trivial) (by trivial) (by trivial) (by trivial) (by trivial) e)
     rw [show (h'.update (n+6) (Obj.mapSeq (·.push (Value.ref s.heap.objs.size)))).get? t=none from q] at this
     cases this
end
theorem Al:typeLookup (.type "zip") "__len__" = pure none:=am_miss_of_fast (by kernel_rfl)
theorem y4:typeLookup (.type "zip") "__length_hint__" = pure none:=am_miss_of_fast (by kernel_rfl)
theorem xS (a b c:Value):checkTypeCall "zip" ⟨[a,b,c],[]⟩=pure ():=by kernel_rfl
theorem yW (a b c:Value):checkBuiltinCall "zip.__new__" ⟨[.type "zip",a,b,c],[]⟩=pure ():=by kernel_rfl
theorem tZ (a b c d:Value):argsOk "object.__init__" ⟨[a,b,c,d],[]⟩:=by
 unfold argsOk;rw [signature?_of (id := "object.__init__") (n:=['_','_','t','i','n','i','_','_']) (o:=['t','c','e','j','b','o']) (by kernel_rfl) F.owner_object];kernel_rfl
abbrev A9 (h:Heap) (l1:Addr):Heap:=h.push { cls:=.type "list_iterator",data:=.fields #[.ref l1,.int 0 0] }
abbrev A1 (h:Heap) (l1 l2:Addr):Heap:=(A9 h l1).push { cls:=.type "list_iterator",data:=.fields #[.ref l2,.int 0 0] }
abbrev FA (h:Heap) (l1 l2 l3:Addr):Heap:=(A1 h l1 l2).push { cls:=.type "list_iterator",data:=.fields #[.ref l3,.int 0 0] }
abbrev FC (h:Heap) (l1 l2 l3:Addr):Heap:=(FA h l1 l2 l3).push { cls:=.type "tuple",data:=.seq #[.ref h.objs.size,.ref (A9 h l1).objs.size,.ref (A1 h l1 l2).objs.size] }
abbrev Fy (h:Heap) (l1 l2 l3:Addr):Heap:=(FC h l1 l2 l3).push { cls:=.type "tuple",data:=.seq #[.none,.none,.none] }
abbrev wQ (h:Heap) (l1 l2 l3:Addr):Heap:=(Fy h l1 l2 l3).push { cls:=.type "zip",data:=.fields #[.none,.bool false,.bool false,.ref (FA h l1 l2 l3).objs.size,.ref (FC h l1 l2 l3).objs.size] }
set_option maxHeartbeats 8000000 in
theorem Gc (l1 l2 l3:Addr) (xs ys zs:Array Value) :
 Meets (Builtin.«zip.__new__» ⟨[.type "zip",.ref l1,.ref l2,.ref l3],[]⟩) (fun _ R s=>fE s.heap l1 xs true∧fE s.heap l2 ys true∧fE s.heap l3 zs true∧R (.ok (.ret (.ref (Fy s.heap l1 l2 l3).objs.size))) { s with heap:=wQ s.heap l1 l2 l3 }):=
 .of_wp fun prog w A R s h=>by
  obtain ⟨hp,g,d,tk,os⟩:=s;obtain ⟨q1,q2,q3,h⟩:=h
  have hsub:=sub_zip
  have L2':fE (Shared.heap ⟨A9 hp l1,g,d,tk,os⟩) l2 ys true:=fE.at q2 fun o e=>Heap.get?_push_of_some _ e
  have L3':fE (Shared.heap ⟨A1 hp l1 l2,g,d,tk,os⟩) l3 zs true:=fE.at q3 fun o e=>Heap.get?_push_of_some _ (Heap.get?_push_of_some _ e)
  have g1:Heap.IsList (Shared.heap ⟨hp,g,d,tk,os⟩) l1 xs:=q1
  have g2:Heap.IsList (Shared.heap ⟨A9 hp l1,g,d,tk,os⟩) l2 ys:=L2'
  have g3:Heap.IsList (Shared.heap ⟨A1 hp l1 l2,g,d,tk,os⟩) l3 zs:=L3'
  wp_walk using wpAny_pyIter_list g1,wpAny_pyIter_list g2,wpAny_pyIter_list g3
  exact ⟨(),h⟩
section
variable {prog:Program}{w:World}{A:Around}{E:Value→Shared→Prop}{s:Shared}
theorem Db {l1 l2 l3:Addr}{xs ys zs:Array Value}{Q:Value→Shared→Prop} (q1:fE s.heap l1 xs true) (q2:fE s.heap l2 ys true) (q3:fE s.heap l3 zs true)
 (h:∀h',Z3 h' s.heap.objs.size l1 l2 l3 xs ys zs 0→h'.objs.size=s.heap.objs.size+6→(∀c o,s.heap.get? c=some o→h'.get? c=some o)→IsZip h' (s.heap.objs.size+5) (s.heap.objs.size+3) (s.heap.objs.size+4) .none→Q (.ref (s.heap.objs.size+5)) { s with heap:=h' }) :
 wpAny (model prog w) A (call (.type "zip") [.ref l1,.ref l2,.ref l3]) Q E s:=by
 refine callType_new F.called_zip (by decide) (xS _ _ _) (yW _ _ _) (fun obj=>tZ obj _ _ _) F.entry_zip_new (Gc l1 l2 l3 xs ys zs) ⟨q1,q2,q3,?_⟩
 have s1:(A9 s.heap l1).objs.size=s.heap.objs.size+1:=Heap.size_push ..
 have s2:(A1 s.heap l1 l2).objs.size=s.heap.objs.size+2:=by rw [Heap.size_push,s1]
 have s3:(FA s.heap l1 l2 l3).objs.size=s.heap.objs.size+3:=by rw [Heap.size_push,s2]
 have s4:(FC s.heap l1 l2 l3).objs.size=s.heap.objs.size+4:=by rw [Heap.size_push,s3]
 have s5:(Fy s.heap l1 l2 l3).objs.size=s.heap.objs.size+5:=by rw [Heap.size_push,s4]
 have s6:(wQ s.heap l1 l2 l3).objs.size=s.heap.objs.size+6:=by rw [Heap.size_push,s5]
 have g6:(wQ s.heap l1 l2 l3).get? (Fy s.heap l1 l2 l3).objs.size=some _:=Heap.get?_push_size _ rfl
 have g5:(wQ s.heap l1 l2 l3).get? (FC s.heap l1 l2 l3).objs.size=some _:=Heap.get?_push_of_some _ (Heap.get?_push_size _ rfl)
 have g4:(wQ s.heap l1 l2 l3).get? (FA s.heap l1 l2 l3).objs.size=some _:=Heap.get?_push_of_some _ (Heap.get?_push_of_some _ (Heap.get?_push_size _ rfl))
 have g3:(wQ s.heap l1 l2 l3).get? (A1 s.heap l1 l2).objs.size=some _:=Heap.get?_push_of_some _ (Heap.get?_push_of_some _ (Heap.get?_push_of_some _ (Heap.get?_push_size _ rfl)))
 have g2:(wQ s.heap l1 l2 l3).get? (A9 s.heap l1).objs.size=some _:=Heap.get?_push_of_some _ (Heap.get?_push_of_some _ (Heap.get?_push_of_some _ (Heap.get?_push_of_some _ (Heap.get?_push_size _ rfl))))
 have g1:(wQ s.heap l1 l2 l3).get? s.heap.objs.size=some _:=Heap.get?_push_of_some _ (Heap.get?_push_of_some _ (Heap.get?_push_of_some _ (Heap.get?_push_of_some _ (Heap.get?_push_of_some _ (Heap.get?_push_size _ rfl)))))
 have up:∀c o,s.heap.get? c=some o→(wQ s.heap l1 l2 l3).get? c=some o:=fun c o x=>Heap.get?_push_of_some _ (Heap.get?_push_of_some _ (Heap.get?_push_of_some _ (Heap.get?_push_of_some _ (Heap.get?_push_of_some _ (Heap.get?_push_of_some _ x)))))
 show _∧_
 rw [s3,s4,s5] at g6
 rw [s1,s2,s3] at g4
 rw [s4] at g5
 rw [s2] at g3
 rw [s1] at g2
 rw [s5]
 exact ⟨⟨_,g6,rfl⟩,h _ ⟨.inl ⟨g6,_,_,_,g5⟩,g4,⟨_,g1,rfl,rfl⟩,⟨_,g2,rfl,rfl⟩,⟨_,g3,rfl,rfl⟩,q1.at fun o e=>up _ o e,q2.at fun o e=>up _ o e,q3.at fun o e=>up _ o e⟩ s6 up g6⟩
set_option maxHeartbeats 1000000 in
theorem yU {n l1 l2 l3:Nat}{xs ys zs:Array Value}{Q:Value→Shared→Prop} (hl:l1<n∧l2<n∧l3<n) (st:Z3 s.heap n l1 l2 l3 xs ys zs 0) (hz:IsZip s.heap (n+5) (n+3) (n+4) .none) (hs:s.heap.objs.size=n+6) (hh:A.handled=none) (ly:ys.size=xs.size) (lz:zs.size=xs.size) (h4:xs.size≤4000)
 (h:∀h' tk ts' c',ts'.length=xs.size→(∀t∈ts',n+6<t)→ts'.Nodup→BP h' ts' xs ys zs→h'.get? (n+6)=some { cls:=.type "list",data:=.seq (ts'.map Value.ref).toArray c' }→(∀(c:Nat) o,c<n→s.heap.get? c=some o→h'.get? c=some o)→Q (.ref (n+6)) { s with heap:=h',toks:=tk }) :
 wpAny (model prog w) A (call (.type "list") [.ref (n+5)]) Q E s:=by
 refine callType_codes (Q₁:=fun obj s₁=>obj=.ref s.heap.objs.size∧s₁={ s with heap:=s.heap.push { cls:=.type "list",data:=.seq #[] } }) F.called_list (F.typeCall_list_1 _) F.entry_list_init (code_list_new _ ⟨rfl,rfl⟩) fun obj s₁ h₁=>?_
 obtain ⟨rfl,rfl⟩:=h₁
 have hS:(s.heap.push { cls:=.type "list",data:=.seq #[] }).get? (n+6)=some { cls:=.type "list",data:=.seq #[] }:=by rw [←hs];exact Heap.get?_push_size _ rfl
 rw [hs]
 refine ⟨⟨_,hS,rfl⟩,F.args_list_init_2 _ _,?_⟩
 have st1:Z3 (s.heap.push { cls:=.type "list",data:=.seq #[] }) n l1 l2 l3 xs ys zs 0:=st.keep hl fun c o _ e=>Heap.get?_push_of_some _ e
 show wpAny _ _ (do let old ←Builtin.List.listItems (.ref (n+6));Builtin.List.listUpdate (.ref (n+6)) (fun _=>#[]);letGo old.toList.reverse;Builtin.List.listExtendWith (.ref (n+6)) (.ref (n+5)) .none) _ _ _
 refine wpAny_bind ?_
 unfold Builtin.List.listItems
 refine wpAny_bind (wpAny_seqItems hS rfl (wpAny_pure ?_))
 show wpAny _ _ (updateSeq (n+6) (fun _=>#[]) >>= fun _=>letGo (#[]:Array Value).toList.reverse >>= fun _=>Builtin.List.listExtendWith (.ref (n+6)) (.ref (n+5)) .none) _ _ _
 refine wpAny_bind (wpAny_updateSeq hS rfl ?_)
 have hS₂:=Heap.get?_update_self (Obj.mapSeq (fun _=>(#[]:Array Value))) hS rfl
 have oth:∀(b:Nat) o,b≠n+6→(s.heap.push { cls:=.type "list",data:=.seq #[] }).get? b=some o→((s.heap.push { cls:=.type "list",data:=.seq #[] }).update (n+6) (Obj.mapSeq (fun _=>(#[]:Array Value)))).get? b=some o:=
  fun b o hb e=>(Heap.get?_update_other _ _ (aH (Ne.symm hb))).trans e
 refine wpAny_bind (wpAny_letGo ?_)
 have st2:=st1.keep hl oth
 have hz2:=oth _ _ (by trivial) (Heap.get?_push_of_some { cls:=.type "list",data:=.seq #[] } hz)
 unfold Builtin.List.listExtendWith
 refine wpAny_bind (wpAny_typeOf (T := "zip") ⟨_,hz2,rfl⟩ ?_)
 have h1:Builtin.List.listSameRef (.ref (n+6)) (.ref (n+5))=false:=by simp [Builtin.List.listSameRef]
 have h2:(Value.type "zip" == Value.type "list")=false:=by decide
 have h3:(Value.type "zip" == Value.type "tuple")=false:=by decide
 simp only [h1,h2,h3,Bool.or_false,Bool.false_eq_true,if_false]
 refine wpAny_bind (wpAny_pyIter_zip hz2 ?_)
 refine wpAny_bind (wpAny_holding ?_)
 unfold Builtin.List.listLengthHint
 refine wpAny_bind (wpAny_specialOf (T := "zip") ⟨_,hz2,rfl⟩ Al ?_)
 refine wpAny_ite_split (fun hab=>absurd hab (by decide)) (fun _=>?_)
 refine wpAny_ite_split (fun hab=>absurd hab (by decide)) (fun _=>?_)
 refine wpAny_bind (wpAny_specialOf (T := "zip") ⟨_,hz2,rfl⟩ y4 ?_)
 refine wpAny_pure ?_
 simp only [Bool.true_or,if_true]
 refine wpAny_bind (wpAny_rule ?_)
 refine wpAny_bind ?_
 show wpAny _ _ (updateSeq (n+6) (·.push .none) >>= fun _=>updateSeq (n+6) (·.pop)) _ _ _
 refine wpAny_bind (wpAny_updateSeq hS₂ rfl ?_)
 have hS₃:=Heap.get?_update_self (Obj.mapSeq (·.push Value.none)) hS₂ rfl
 refine wpAny_updateSeq (hz:=by seq_fits) hS₃ rfl ?_
 have hS₄:=Heap.get?_update_self (Obj.mapSeq (·.pop)) hS₃ rfl
 obtain ⟨c4,e4⟩:∃c4,((((s.heap.push { cls:=.type "list",data:=.seq #[] }).update (n+6) (Obj.mapSeq (fun _=>(#[]:Array Value)))).update (n+6) (Obj.mapSeq (·.push Value.none))).update (n+6) (Obj.mapSeq (·.pop))).get? (n+6)=some { cls:=.type "list",data:=.seq (([]:List Nat).map Value.ref).toArray c4 }:=by
  rw [hS₄]
  simp only [Obj.mapSeq,List.map_nil]
  exact ⟨()⟩
 have oth4:∀(b:Nat) o,b≠n+6→(s.heap.push { cls:=.type "list",data:=.seq #[] }).get? b=some o→((((s.heap.push { cls:=.type "list",data:=.seq #[] }).update (n+6) (Obj.mapSeq (fun _=>(#[]:Array Value)))).update (n+6) (Obj.mapSeq (·.push Value.none))).update (n+6) (Obj.mapSeq (·.pop))).get? b=some o:=
  fun b o hb e=>(Heap.get?_update_other _ _ (aH (Ne.symm hb))).trans ((Heap.get?_update_other _ _ (aH (Ne.symm hb))).trans (oth b o hb e))
 refine wpAny_pure ⟨plainId_quiet F.plain_extend_loop _,?_⟩
 refine CI hl (by simpa using hh) ly lz h4 xs.size 0 [] c4 _ rfl (Nat.zero_le _) (st1.keep hl oth4) (by show n+6<Array.size _;rw [Heap.size_update,Heap.size_update,Heap.size_update,Heap.size_push,hs];trivial) rfl (fun t ht=>(by cases ht)) List.nodup_nil (fun j t hj=>(by simp at hj)) e4 fun h' tk ts' c' l g nd tr e k f=>?_
 exact ⟨rfl,h h' tk ts' c' l g nd tr e fun c o hc q=>k c o hc (oth4 c o (by trivial) (Heap.get?_push_of_some _ q))⟩
end
def yd (H:Hp) (N:Addr→Option HO):Hp:=fun b=>match N b with | some o=>some o | none=>H b
theorem vN {H:Hp}{N:Addr→Option HO}{b:Addr}{o:HO} (h:N b=some o):yd H N b=some o:=by unfold yd;rw [h]
theorem qX {H:Hp}{N:Addr→Option HO}{b:Addr} (h:N b=none):yd H N b=H b:=by unfold yd;rw [h]
section
variable {X:Cx}{pins:List (Addr×Obj)}{σ:St}{H:Hp}{s:Shared}{h':Heap}
theorem af.many {t':Nat}{N:Addr→Option HO} (I:af X pins σ H s) (k:∀b u,s.heap.get? b=some u→h'.get? b=some u)
 (hN:∀b o,N b=some o→s.heap.objs.size≤b) (new:∀b o,N b=some o→bD X.prog X.w (yd H N) h' b o):af X pins σ (yd H N) { s with heap:=h',toks:=t' }:=by
 have old:∀b,b<s.heap.objs.size→N b=none:=fun b hb=>by
  cases e:N b with
  | none=>rfl
  | some o=>exact absurd (Nat.lt_of_lt_of_le hb (hN b o e)) (Nat.lt_irrefl _)
 have hs:∀b u,H b=some u→yd H N b=some u:=fun b u e=>by rw [qX (old b (I.hok.lt e))];exact e
 refine I.step (g':=s.gens) (d':=s.drawn) (ch:=[]) (fun b hb=>(by cases hb)) (fun b o _ _ _ e _=>k b o e) (fun b o _ _ _ e _=>⟨o.slots,k b o e⟩) (fun b o _ e n=>?_)
  (fun b o _ e=>⟨o,k b o e⟩) (fun b xs e=>hs b _ e) (fun b o u e=>hs b _ e) (fun b ps e=>⟨#[],by rw [hs b _ e];simp⟩) (fun m hm=>?_) (fun b u e=>?_) I.bare
 ·rw [qX (old b (Heap.lt_size e))];exact n
 ·obtain ⟨o,es,ep,ho,r⟩:=hm
  exact ⟨o,es,ep,k _ o ho,r⟩
 ·cases hb:N b with
  | some o=>
   rw [vN hb] at e
   cases e
   exact new b _ hb
  | none=>
   rw [qX hb] at e
   exact (I.hok b u e).stay (fun c v hc q=>k c v q) (fun c q=>hs c _ q) fun c xs q=>hs c _ q
end
def GN (K:PySem.W.Frag) (ta:TA):TE:=fun σ H Q=>ta σ H fun vs H1=>AF fun (a1 a2 a3:Addr) (xs ys zs:List V)=>vs=[.ref a1,.ref a2,.ref a3]∧ah K H1 a1 xs∧ah K H1 a2 ys∧ah K H1 a3 zs∧ys.length=xs.length∧zs.length=xs.length∧xs.length≤4000∧
 ∀(l:Addr) (ts:List Addr) (H':Hp),ad H1 H'→H1 l=none→H' l=some (.lst (ts.map V.ref))→ts.length=xs.length→(∀(i:Nat) t,ts[i]?=some t→fD fun x y z=>xs[i]?=some x∧ys[i]?=some y∧zs[i]?=some z∧H' t=some (.tup [x,y,z]))→Q (.ref l) H'
section
variable {X:Cx}{K:PySem.W.Frag}{a b c:Expr}{ta:TA}{p1 p2 p3 p4:Pos}
theorem DY (hc:X.calm=true) (hg1:Gl X "list") (hm1:X.mg "list" = none) (hg2:Gl X "zip") (hm2:X.mg "zip" = none) (ha:PA X [a,b,c] ta) (ek:X.K=K:=by rfl) (hs:starEach [a,b,c] X.env=[(false,eval a X.env),(false,eval b X.env),(false,eval c X.env)]:=by rfl) (hs2:starEach [b,c] X.env=[(false,eval b X.env),(false,eval c X.env)]:=by rfl)
 (hs3:starEach [Expr.Call (.Name "zip" p2) [a,b,c] [] p3] X.env=[(false,eval (Expr.Call (.Name "zip" p2) [a,b,c] [] p3) X.env)]:=by rfl) :
 PE X (.Call (.Name "list" p1) [.Call (.Name "zip" p2) [a,b,c] [] p3] [] p4) (GN K ta):=by
 subst ek
 intro pins s σ H Q I h
 refine wpAny_Call_Name_kw (iA I hg1 hm1 jv ?_ (by decide) (by decide))
 refine PyProof.Rows.callWith_type1 ?_ hs3 rfl
 rw [hs3]
 show wpAny _ _ (spliced ((false,eval (Expr.Call (.Name "zip" p2) [a,b,c] [] p3) X.env) :: [])) _ _ s
 refine Calls.spliced_cons ?_
 refine Call_ (iA I hg2 hm2 Fe (PyProof.Rows.callWith_type1 (aO (ha p3 pins s σ H _ I h) fun us s1 ⟨vs,H1,I1,r1,q1⟩=>?_) (by rw [hs,hs2]) (by rw [hs2];rfl)))
 obtain ⟨a1,a2,a3,xs,ys,zs,rfl,p1,p2,p3,ly,lz,h4,q⟩:=q1
 obtain ⟨u1,u2,u3,rfl,ru1,ru2,ru3⟩:fD fun u1 u2 u3=>us=[u1,u2,u3]∧aP (.ref a1) u1∧aP (.ref a2) u2∧aP (.ref a3) u3:=by
  cases r1 with
  | cons r1 r=>
  cases r with
  | cons r2 r=>
  cases r with
  | cons r3 r=>
  cases r
  exact ⟨_,_,(),r1,r2,r3⟩
 obtain rfl:u1=.ref a1:=ru1
 obtain rfl:u2=.ref a2:=ru2
 obtain rfl:u3=.ref a3:=ru3
 obtain ⟨its1,rv1,k1⟩:=I1.seqC (c:=true) p1
 obtain ⟨its2,rv2,k2⟩:=I1.seqC (c:=true) p2
 obtain ⟨its3,rv3,k3⟩:=I1.seqC (c:=true) p3
 have d1:=k1.lt
 have d2:=k2.lt
 have d3:=k3.lt
 have l1:=rv1.length
 have l2:=rv2.length
 have l3:=rv3.length
 refine Db k1 k2 k3 fun h' st sz hk hz=>Calls.spliced_nil ?_
 refine yU (s:={ s1 with heap:=h' }) ⟨d1,d2,d3⟩ st hz sz (I1.ok.hd hc) (by simp;trivial) (by simp;trivial) (by simp;trivial) fun h2 tk ts c' lt gt nd tr hL kp=>?_
 have lts:ts.length=xs.length:=by rw [lt];simp [l1]
 let N:Addr→Option HO:=fun b=>if b=s1.heap.objs.size+6 then some (.lst (ts.map V.ref)) else if b∈ts then some (.tup [xs.getD (ts.idxOf b) .non,ys.getD (ts.idxOf b) .non,zs.getD (ts.idxOf b) .non]) else none
 have N6:N (s1.heap.objs.size+6)=some (.lst (ts.map V.ref)):=if_pos rfl
 have Nt:∀(i:Nat) t,ts[i]?=some t→N t=some (.tup [xs.getD i .non,ys.getD i .non,zs.getD i .non]):=fun i t hi=>by
  have hm:=List.mem_of_getElem? hi
  have hix:ts.idxOf t=i:=by
   obtain ⟨hj,e⟩:=List.getElem?_eq_some_iff.mp hi
   have h1:ts.idxOf t<ts.length:=List.idxOf_lt_length_of_mem hm
   exact jk nd h1 hj (by rw [List.getElem_idxOf h1,e])
  show (if _ then _ else _)=_
  rw [if_neg (fun z=>absurd (gt t hm) (by rw [z];exact Nat.lt_irrefl _)),if_pos hm,hix]
 have k9:∀b u,s1.heap.get? b=some u→h2.get? b=some u:=fun b u e=>kp b u (Heap.lt_size e) (hk b u e)
 have vals:∀ts:List Nat,aA (ts.map V.ref) (ts.map Value.ref):=fun ts=>by
  induction ts with
  | nil=>exact .nil
  | cons t r ih=>exact .cons rfl ih
 have get':∀{xs:List V}{i:Nat},i<xs.length→xs[i]?=some (xs.getD i .non):=fun {xs i} hi=>by simp [List.getElem?_eq_getElem hi]
 have I3:=I1.many (h':=h2) (t':=tk) (N:=N) k9 (fun b o e=>?_) (fun b o e=>?_)
 ·refine ⟨.ref (s1.heap.objs.size+6),yd H1 N,I3,rfl,q _ ts _ (fun b u e=>?_) (I1.hok.fresh (Nat.le_add_right _ _)) (vN N6) lts fun i t hi=>?_⟩
  ·rw [qX]
   ·exact e
   ·have:=I1.hok.lt e
    show (if _ then _ else _)=_
    rw [if_neg (fun z=>absurd this (by rw [z];exact Nat.not_lt.mpr (Nat.le_add_right _ _))),if_neg fun hm=>?_]
    exact absurd this (Nat.not_lt.mpr (Nat.le_trans (Nat.le_add_right _ _) (Nat.le_of_lt (gt b hm))))
  ·have hi':i<xs.length:=by rw [←lts];exact (List.getElem?_eq_some_iff.mp hi).1
   exact ⟨_,_,_,get' hi',get' (by trivial),get' (by trivial),vN (Nt i t hi)⟩
 ·by_cases h6:b=s1.heap.objs.size+6
  ·rw [h6];exact Nat.le_add_right _ _
  ·have e':(if b∈ts then some (HO.tup [xs.getD (ts.idxOf b) .non,ys.getD (ts.idxOf b) .non,zs.getD (ts.idxOf b) .non]) else none)=some o:=by rw [←e];exact (if_neg h6).symm
   by_cases hm:b∈ts
   ·exact Nat.le_trans (Nat.le_add_right _ _) (Nat.le_of_lt (gt b hm))
   ·rw [if_neg hm] at e';cases e'
 ·by_cases h6:b=s1.heap.objs.size+6
  ·subst h6
   rw [N6] at e
   cases e
   exact ⟨by rw [List.length_map,lts,sizeLine_eq];trivial,ts.map Value.ref,c',vals ts,hL⟩
  ·have e':(if b∈ts then some (HO.tup [xs.getD (ts.idxOf b) .non,ys.getD (ts.idxOf b) .non,zs.getD (ts.idxOf b) .non]) else none)=some o:=by rw [←e];exact (if_neg h6).symm
   by_cases hm:b∈ts
   ·rw [if_pos hm] at e'
    cases e'
    have h1:ts.idxOf b<ts.length:=List.idxOf_lt_length_of_mem hm
    obtain ⟨x,y,v,a1,a2,a3,a4⟩:=tr (ts.idxOf b) b (by rw [List.getElem?_eq_getElem h1,List.getElem_idxOf h1])
    obtain ⟨x',ex,rx⟩:=rv1.get (get' (xs:=xs) (i:=ts.idxOf b) (by trivial))
    obtain ⟨y',ey,ry⟩:=rv2.get (get' (xs:=ys) (i:=ts.idxOf b) (by trivial))
    obtain ⟨v',ev,rv⟩:=rv3.get (get' (xs:=zs) (i:=ts.idxOf b) (by trivial))
    have b1:x'=x:=Option.some.inj (ex.symm.trans (by simpa using a1))
    have b2:y'=y:=Option.some.inj (ey.symm.trans (by simpa using a2))
    have b3:v'=v:=Option.some.inj (ev.symm.trans (by simpa using a3))
    subst b1 b2 b3
    exact ⟨by show 3≤sizeLine;rw [sizeLine_eq];decide,[x',y',v'],.cons rx (.cons ry (.cons rv .nil)),⟨_,a4,rfl,()⟩,_,a4,rfl⟩
   ·rw [if_neg hm] at e';cases e'
end
theorem xD:typeLookup (.type "list") "keys" = pure none:=am_miss_of_fast (by kernel_rfl)
section
variable {prog:Program}{w:World}{A:Around}{E:Value→Shared→Prop}{s:Shared}
theorem uX {a:Addr}{xs:Array Value}{k:Nat}{name:Str}{Q:Option Value→Shared→Prop} (hmiss:typeLookup (.type "list") name=pure none) (hname:(["__module__", "__name__", "__qualname__", "__doc__", "__annotations__"]:List Str).contains name=false) (hsz:name.length+100≤sizeLine)
 (hx:s.heap.get? a=some { cls:=.type "list",dict:=none,data:=.seq xs k,slots:=#[] }) (hA:A.handled=none)
 (h:∀h' tk,(∀b o,s.heap.get? b=some o→h'.get? b=some o)→Q none { s with heap:=h',toks:=tk }) :
 wpAny (model prog w) A (getAttr? (.ref a) name) Q E s:=by
 obtain ⟨hp,g,d,tk,os⟩:=s
 have hT:∀tk',(⟨hp,g,d,tk',os⟩:Shared).TypeIs (.ref a) "list" := fun _=>⟨_,hx,rfl⟩
 have f1:=sub_AttributeError
 have f3:=F.slot_list_getattribute.lookup
 have f4:=F.slot_list_getattribute.bind (.ref a)
 have f5:=am_list_getattr_none
 unfold getAttr? getAttrBy? getAttrBy
 repeat (any_goals (first | assumption | exact hT _ | ((with_reducible show wpAny _ _ (call (Value.builtin "list.__getattribute__") _ _) _ _ _);refine call_meets F.slot_list_getattribute (hT _) am_entry_list_getattribute (F.args_list_getattribute_2 _ _) (meets_getattribute_miss_list a xs k #[] name _ hmiss hname hsz) ⟨hx,hA,fun h' tk' e hx'=>?_⟩) | wp_step))
 obtain ⟨t',u',he⟩:=hx'.there
 show wpAny _ _ (getattributeRaised _ _ _ _ _ _ _) _ _ _
 unfold getattributeRaised
 repeat (any_goals (first | assumption | wp_step))
 exact h _ _ hx'.keeps
end
section
variable {prog:Program}{w:World}{A:Around}{E:Value→Shared→Prop}{R:Result→Shared→Prop}
variable {l it d:Nat}{vs:Array Value}{ks:List ay}{us:List Value}
def L3 (h:Heap) (vs:Array Value) (ks:List ay) (us:List Value) (it d:Nat):Prop:=∀(i:Nat),i<ks.length→AF fun (T:Nat) (x y:Value) (c:Nat) (sl:Array (Option Value)) (dd:Option Addr)=>vs[i]?=some (.ref T)∧h.get? T=some ⟨.type "tuple",dd,.seq #[x,y] c,sl⟩∧us[i]?=some y∧(∀k,ks[i]?=some k→bG k x=true)∧T≠it∧T≠d
theorem BW (n1:l≠it∧l≠d∧it≠d) (hh:A.handled=none) (lv:vs.size=ks.length) (lu:us.length=ks.length) (nd:ks.Nodup) (hz:ks.length≤4000) :
 ∀(r i:Nat) (tk0:Tok) (s:Shared),ks.length - i=r→i≤ks.length→s.heap.IsListIter it l i→s.heap.IsList l vs→L3 s.heap vs ks us it d→s.heap.DictOf (aG prog w) d ((ks.zip us).take i)→
   (∀h' tk,h'.DictOf (aG prog w) d (ks.zip us)→(∀(c:Nat) o,c≠it→c≠d→s.heap.get? c=some o→h'.get? c=some o)→R (.ok (.ret .none)) { s with heap:=h',toks:=tk })→
   codeAny (model prog w) A (.builtin "dict.update.loop" ⟨[.ref d,.ref it,.int (i:Nat) tk0,.none],[]⟩) R s:=by
 have W:=(Walks.list (prog:=prog) (w:=w) (A:=A.in1) hh it l n1.1 vs)
 intro r
 induction r with
 | zero=>
  intro i tk0 s hr hi st hl pr hD hR
  have e:i=ks.length:=by trivial
  have lz:(ks.zip us).length=ks.length:=by simp [lu]
  rw [e,←lz,List.take_length] at hD
  refine codeAny_builtin jL ?_
  rw [A.under_plainId dN]
  show wpAny _ _ (pyNext (Value.ref it) >>= _) _ _ _
  refine wpAny_bind (W.done s _ _ (by rw [lv,←e];exact ⟨st,hl⟩) fun h' tk keep=>?_)
  show wpAny _ _ (Builtin.Dict.addKeywords d [] >>= _) _ _ _
  refine wpAny_bind (wpAny_pure (wpAny_pure ?_))
  obtain ⟨o,es,ep,ho,q⟩:=hD
  have kp:∀(c:Nat) o,c≠it→s.heap.get? c=some o→h'.get? c=some o:=fun c o hc e=>keep c o (by simpa using hc) e
  exact hR h' tk ⟨o,es,ep,kp d o (Ne.symm n1.2.2) ho,q⟩ fun c o d1 _ e=>kp c o d1 e
 | succ r ih=>
  intro i tk0 s hr hi st hl pr hD hR
  have lt:i<ks.length:=by trivial
  obtain ⟨T,x,y,c,sl,dd,e1,e2,e3,e4,e5,e6⟩:=pr i lt
  have kv:=e4 ks[i] (List.getElem?_eq_getElem lt)
  refine codeAny_builtin jL ?_
  rw [A.under_plainId dN]
  show wpAny _ _ (pyNext (Value.ref it) >>= _) _ _ _
  refine wpAny_bind (W.item i s _ _ (by trivial) ⟨st,hl⟩ fun v h' tk pv st' keep=>?_)
  obtain rfl:v=.ref T:=Option.some.inj ((show vs[i]?=some v from pv).symm.trans e1)
  have kp:∀(c:Nat) o,c≠it→s.heap.get? c=some o→h'.get? c=some o:=fun c o hc e=>keep c o (by simpa using hc) e
  have hD':h'.DictOf (aG prog w) d ((ks.zip us).take i):=let ⟨o,es,ep,ho,q⟩:=hD;⟨o,es,ep,kp d o (Ne.symm n1.2.2) ho,q⟩
  have T':=kp T _ e5 e2
  refine wpAny_bind (wpAny_holding (wpAny_bind (wpAny_tryCatch ?_)))
  unfold Builtin.Dict.pairItems
  refine wpAny_bind (wpAny_typeOf (show Shared.TypeIs { s with heap:=h',toks:=tk } (.ref T) "tuple" from ⟨_,T',rfl⟩) ?_)
  rw [if_pos (by decide)]
  refine wpAny_bind (wpAny_seqItems T' rfl (wpAny_pure ?_))
  show wpAny _ _ (holding [x,y] (dictSet d x y)) _ _ _
  have hu:us[i]'(by trivial)=y:=(List.getElem?_eq_some_iff.mp e3).2
  have nk:ks[i]∉((ks.zip us).take i).map (·.1):=by
   rw [List.map_take,zy (by simp [lu])]
   intro q
   obtain ⟨j,hj,e⟩:=List.getElem_of_mem q
   rw [List.length_take] at hj
   rw [List.getElem_take] at e
   have:=jk nd (by trivial) lt e
   trivial
  have lz:((ks.zip us).take i).length≤sizeLine:=by rw [List.length_take,sizeLine_eq];simp;trivial
  refine wpAny_holding (wpAny_dictSet_pairs (k:=ks[i]) kv hD' (hsz:=lz) fun h2 hD2 sb=>?_)
  rw [Bi nk] at hD2
  have nx:h2.DictOf (aG prog w) d ((ks.zip us).take (i+1)):=by
   rw [List.take_succ_eq_append_getElem (by simp [lu];trivial)]
   simpa [hu] using hD2
  have k2:∀(c:Nat) o,c≠d→h'.get? c=some o→h2.get? c=some o:=fun c o hc e=>(sb.2 c hc).trans e
  refine wpAny_pure ⟨plainId_quiet dN _,?_⟩
  have e9:((i:Nat):Int)+1=((i+1:Nat):Int):=by trivial
  show codeAny _ _ (.builtin "dict.update.loop" ⟨[.ref d,.ref it,.int ((i:Nat)+1) 0,.none],[]⟩) _ _
  rw [e9]
  refine ih (i+1) 0 _ (by trivial) lt ?_ ?_ (fun j hj=>?_) nx fun h3 tk3 hD3 k3=>hR h3 tk3 hD3 fun c o a1 a2 e=>k3 c o a1 a2 (k2 c o a2 (kp c o a1 e))
  ·obtain ⟨o,ho,q⟩:=st'.1
   exact ⟨o,k2 _ _ n1.2.2 ho,q⟩
  ·obtain ⟨o,ho,q⟩:=st'.2
   exact ⟨o,k2 _ _ n1.2.1 ho,q⟩
  ·obtain ⟨T,x,y,c,sl,dd,e1,e2,e3,e4,e5,e6⟩:=pr j hj
   exact ⟨T,x,y,c,sl,dd,e1,k2 _ _ e6 (kp _ _ e5 e2),e3,e4,e5,e6⟩
set_option maxHeartbeats 1000000 in
theorem Ac {s:Shared}{Q:Value→Shared→Prop}{c0:Nat} (hl:s.heap.get? l=some { cls:=.type "list",dict:=none,data:=.seq vs c0,slots:=#[] })
 (hh:A.handled=none) (lv:vs.size=ks.length) (lu:us.length=ks.length) (nd:ks.Nodup) (hz:ks.length≤4000)
 (pr:∀(i:Nat),i<ks.length→AF fun (T:Nat) (x y:Value) (c:Nat) (sl:Array (Option Value)) (dd:Option Addr)=>vs[i]?=some (.ref T)∧s.heap.get? T=some ⟨.type "tuple",dd,.seq #[x,y] c,sl⟩∧us[i]?=some y∧(∀k,ks[i]?=some k→bG k x=true))
 (h:∀h' tk,h'.DictOf (aG prog w) s.heap.objs.size (ks.zip us)→(∀c o,s.heap.get? c=some o→h'.get? c=some o)→Q (.ref s.heap.objs.size) { s with heap:=h',toks:=tk }) :
 wpAny (model prog w) A (call (.type "dict") [.ref l]) Q E s:=by
 refine callType_codes (Q₁:=fun obj s₁=>obj=.ref s.heap.objs.size∧s₁={ s with heap:=s.heap.push { cls:=.type "dict",data:=.dict #[] } }) F.kt_called_dict (F.kt_typeCall_dict_1 _) F.entry_dict_init (kt_code_dict_new _ ⟨rfl,rfl⟩) ?_
 rintro obj s₁ ⟨rfl,rfl⟩
 have hnew:(s.heap.push { cls:=.type "dict",data:=.dict #[] }).DictOf (aG prog w) s.heap.objs.size []:=Heap.DictOf.new s.heap
 have up:∀c o,s.heap.get? c=some o→(s.heap.push { cls:=.type "dict",data:=.dict #[] }).get? c=some o:=fun c o e=>Heap.get?_push_of_some _ e
 have ne:∀c o,s.heap.get? c=some o→c≠s.heap.objs.size:=fun c o e=>Nat.ne_of_lt (Heap.lt_size e)
 have hl':=up _ _ hl
 refine ⟨hnew.typeIs,F.args_dict_init_2 _ _,?_⟩
 unfold Builtin.«dict.__init__»
 refine wpAny_bind ?_
 unfold Builtin.Dict.selfAndRest
 refine wpAny_bind (wpAny_notOrdered_dict hnew.typeIs ?_)
 show wpAny _ _ (pure (s.heap.objs.size,[Value.ref l])) _ _ _
 refine wpAny_pure ?_
 show wpAny _ _ (Builtin.Dict.updateFrom "dict.__init__" s.heap.objs.size (.ref l) [] .none) _ _ _
 unfold Builtin.Dict.updateFrom
 refine wpAny_bind (wpAny_typeOf (T := "list") ⟨_,hl',rfl⟩ ?_)
 rw [if_pos (by decide)]
 refine wpAny_bind (uX xD (by nofun) (by rw [sizeLine_eq];decide) hl' (by simpa using hh) fun g1 tk1 k1=>?_)
 simp only [Option.isNone_none,if_true]
 refine wpAny_bind (wpAny_rule ?_)
 have l1:g1.IsList l vs:=⟨_,k1 _ _ hl',rfl,()⟩
 refine wpAny_bind (wpAny_pyIter_list l1 ?_)
 have kk:∀c o,s.heap.get? c=some o→g1.get? c=some o:=fun c o e=>k1 _ _ (up _ _ e)
 have pu:∀(ob:Obj) c o,g1.get? c=some o→(g1.push ob).get? c=some o:=fun ob c o e=>Heap.get?_push_of_some _ e
 obtain ⟨on,es,ep,hon,qn⟩:=hnew
 have hon1:=k1 _ _ hon
 have dlt:s.heap.objs.size<g1.objs.size:=Heap.lt_size hon1
 have llt:l<s.heap.objs.size:=Heap.lt_size hl
 refine wpAny_pure ⟨plainId_quiet dN _,?_⟩
 refine BW (ks:=ks) (us:=us) (vs:=vs) (l:=l) (it:=g1.objs.size) (d:=s.heap.objs.size) ⟨Nat.ne_of_lt (Nat.lt_trans llt dlt),Nat.ne_of_lt llt,Nat.ne_of_gt dlt⟩ (by simpa using hh) lv lu nd hz ks.length 0 0 _ rfl (Nat.zero_le _) ⟨_,Heap.get?_push_size _ rfl,rfl,rfl⟩ (l1.push _) (fun i hi=>?_) ⟨on,es,ep,pu _ _ _ hon1,qn⟩ fun h' tk hD keep=>?_
 ·obtain ⟨T,x,y,c,sl,dd,e1,e2,e3,e4⟩:=pr i hi
  have tlt:=Heap.lt_size e2
  exact ⟨T,x,y,c,sl,dd,e1,pu _ _ _ (kk _ _ e2),e3,e4,Nat.ne_of_lt (Nat.lt_trans tlt dlt),Nat.ne_of_lt tlt⟩
 ·exact ⟨rfl,h h' tk hD fun c o e=>keep c o (Nat.ne_of_lt (Nat.lt_trans (Heap.lt_size e) dlt)) (ne _ _ e) (pu _ _ _ (kk _ _ e))⟩
end
section
variable {X:Cx}
inductive Gz (vs:List V) (H:Hp) (Q:VK):Prop
 | mk (l:Addr) (ts:List Addr) (ks:List ay) (ys:List V) (h0:vs=[.ref l]) (h1:H l=some (.lst (ts.map V.ref))) (h2:ts.length=ks.length) (h3:ys.length=ks.length) (h4:ks.Nodup) (h5:ks.length≤4000) (h6:(∀(i:Nat) t,ts[i]?=some t→aZ fun k y=>ks[i]?=some k∧ys[i]?=some y∧H t=some (.tup [dA k,y]))) (h7:∀p H',Nw H p (.dK (ks.zip ys)) H'→Q (.ref p) H')
def Ic:List V→Hp→VK→Prop:=fun vs H Q=>Gz  vs H Q
theorem zF {k k':Value}{d d':Option Addr}{x y x' y':Value}{n n':Nat}{s s':Array (Option Value)} (h:(⟨k,d,.seq #[x,y] n,s⟩:Obj)=⟨k',d',.seq #[x',y'] n',s'⟩):y=y':=by
 simp only [Obj.mk.injEq,Data.seq.injEq] at h
 have a:=h.2.2.1.1
 simp at a
 exact a.2
theorem uQ {α:Type}{p:Nat→α→Prop}:∀n,(∀i,i<n→∃a,p i a)→∃as:List α,as.length=n∧∀(i:Nat) a,as[i]?=some a→p i a
 | 0,_=>⟨[],rfl,fun i a h=>by simp at h⟩
 | n+1,h=>by
  obtain ⟨as,l,q⟩:=uQ n fun i hi=>h i (by trivial)
  obtain ⟨a,ha⟩:=h n (by trivial)
  refine ⟨as++[a],by rw [List.length_append,l];rfl,fun i b hb=>?_⟩
  by_cases c:i<n
  ·rw [List.getElem?_append_left (by trivial)] at hb
   exact q i b hb
  ·have hlt:=(List.getElem?_eq_some_iff.mp hb).1
   rw [List.length_append] at hlt
   simp at hlt
   obtain rfl:i=n:=by trivial
   rw [List.getElem?_append_right (by trivial),l,Nat.sub_self] at hb
   obtain rfl:a=b:=Option.some.inj hb
   exact ha
theorem xc (hc:X.calm=true):dj X (.type "dict") Ic:=by
 intro pins s σ H xs us Q I r h
 obtain ⟨l,ts,ks,ys,rfl,hl,lt,ly,nd,h4,hp,q⟩:=h
 obtain ⟨u,rfl,ru⟩:=r.one
 obtain rfl:u=.ref l:=ru
 obtain ⟨z,its,n,rv,hlen,e⟩:=I.lstM hl
 rw [List.length_map] at hlen
 have isT:∀(i:Nat) t,ts[i]?=some t→its[i]?=some (.ref t):=fun i t hi=>by
  obtain ⟨w,hw,rw'⟩:=rv.get (show (ts.map V.ref)[i]?=some (V.ref t) by rw [List.getElem?_map,hi];rfl)
  obtain rfl:w=.ref t:=rw'
  exact hw
 have per:∀i,i<ks.length→AF fun (T:Nat) (x y:Value) (c:Nat) (sl:Array (Option Value)) (dd:Option Addr)=>its[i]?=some (.ref T)∧s.heap.get? T=some ⟨.type "tuple",dd,.seq #[x,y] c,sl⟩∧(∃yv,ys[i]?=some yv∧aP yv y)∧(∀k,ks[i]?=some k→bG k x=true):=fun i hi=>by
  have ht:=List.getElem?_eq_getElem (show i<ts.length by trivial)
  obtain ⟨k,y,hk,hy,hT⟩:=hp i _ ht
  obtain ⟨_,us,rus,⟨ob,g1,g2,c,g3⟩,_⟩:=(show bD X.prog X.w H s.heap ts[i] (.tup [dA k,y]) from I.hok _ _ hT)
  obtain ⟨a,b,rfl,ra,rb⟩:=rus.two
  obtain ⟨oc,od,oo,osl⟩:=ob
  simp only at g2 g3
  subst g2 g3
  exact ⟨ts[i],a,b,c,osl,od,isT i _ ht,g1,⟨y,hy,rb⟩,fun k' hk'=>by rw [hk] at hk';cases hk';exact (xu ra).1⟩
 have vals:∃us':List Value,us'.length=ks.length∧aA ys us'∧∀i (hi:i<ks.length) (T:Nat) (x y:Value) (c:Nat) (sl:Array (Option Value)) (dd:Option Addr),its[i]?=some (.ref T)→s.heap.get? T=some ⟨.type "tuple",dd,.seq #[x,y] c,sl⟩→us'[i]?=some y:=by
  obtain ⟨us',l1,h1⟩:=uQ (p:=fun i y=>∀(T:Nat) (x y':Value) (c:Nat) (sl:Array (Option Value)) (dd:Option Addr),its[i]?=some (.ref T)→s.heap.get? T=some ⟨.type "tuple",dd,.seq #[x,y'] c,sl⟩→y'=y∧∃yv,ys[i]?=some yv∧aP yv y') ks.length fun i hi=>by
   obtain ⟨T,x,y,c,sl,dd,e1,e2,e3,e4⟩:=per i hi
   refine ⟨y,fun T' x' y' c' sl' dd' f1 f2=>?_⟩
   have eT:=Option.some.inj (e1.symm.trans f1)
   injection eT with eT
   have f3:s.heap.get? T=_:=(congrArg s.heap.get? eT).trans f2
   have ey:=zF (Option.some.inj (e2.symm.trans f3))
   subst ey
   exact ⟨rfl,e3⟩
  refine ⟨us',l1,?_,fun i hi T x y c sl dd e1 e2=>?_⟩
  ·refine Ab (by trivial) fun i yv u e1 e2=>?_
   have hi:i<ks.length:=by rw [←l1];exact (List.getElem?_eq_some_iff.mp e2).1
   obtain ⟨T,x,y,c,sl,dd,g1,g2,g3,g4⟩:=per i hi
   obtain ⟨q1,yv',q2,q3⟩:=h1 i u e2 T x y c sl dd g1 g2
   rw [e1] at q2
   cases q2
   rw [←q1]
   exact q3
  ·obtain ⟨u,hu⟩:∃u,us'[i]?=some u:=⟨_,List.getElem?_eq_getElem (by trivial)⟩
   rw [hu,(h1 i u hu T x y c sl dd e1 e2).1]
 obtain ⟨us',lu,rus,hus⟩:=vals
 refine Ac (E:=X.xe) (ks:=ks) (us:=us') (vs:=its.toArray) (l:=l) e (I.ok.hd hc) (by simp;trivial) lu nd h4 (fun i hi=>?_) fun h' tk hD kp=>?_
 ·obtain ⟨T,x,y,c,sl,dd,e1,e2,_,e4⟩:=per i hi
  exact ⟨T,x,y,c,sl,dd,by simpa using e1,e2,hus i hi T x y c sl dd e1 e2,e4⟩
 ·have big:sysModules<s.heap.objs.size:=by
   have e:mainGlobals<s.heap.objs.size:=(I.mod.glob.keeps I.bk).lt
   exact Nat.lt_trans (by decide) e
  exact ⟨.ref _,_,I.laid (t':=tk) kp (Nat.le_refl _) (show bD X.prog X.w _ h' _ (.dK (ks.zip ys)) from ⟨by rw [sizeLine_eq];simp;trivial,beq_eq_false_iff_ne.mpr (Ne.symm (Nat.ne_of_lt big)),ks.zip us',Ec rus,hD⟩),rfl,q _ _ (.mk' (I.hok.fresh (Nat.le_refl _)))⟩
end
section
variable {X:Cx}
inductive FV (x:V) (y:V) (H:Hp) (Q:VK):Prop
 | mk (a c:Addr) (xs:List V) (h0:x=.ref a) (h1:y=.ref c) (h2:H a=some (.lst xs)) (h3:H c=some (.lst [])) (h4:Q (.bl (!xs.isEmpty)) H)
def HP:R2:=fun x y H Q=>FV  x y H Q
theorem vJ (hu:X.A.units+64<cLine):cN X (compareOp .NotEq) HP:=by
 intro pins s σ H x y v u Q I rx ry h
 obtain ⟨a,c,xs,rfl,rfl,ha,hc,q⟩:=h
 cases rx
 cases ry
 obtain ⟨z,its,n,r,hl,e⟩:=I.lstM ha
 obtain ⟨z2,its2,n2,r2,hl2,e2⟩:=I.lstM hc
 have h0:its2=[]:=List.eq_nil_of_length_eq_zero hl2.symm
 subst h0
 have l1:s.heap.IsList a its.toArray:=⟨_,e,rfl,()⟩
 have l2:s.heap.IsList c (#[]:Array Value):=⟨_,e2,rfl,()⟩
 have hu':X.A.units<cLine:=by trivial
 cases xs with
 | nil=>
  have:its=[]:=List.eq_nil_of_length_eq_zero hl.symm
  subst this
  refine (PySem.SeqAt.RcNeAt.lists (e:=fun _=>true) l1 l2 rfl hu' (fun j j1 j2=>absurd j1 (by simp))) X.prog X.w X.xe _ ?_
  exact ⟨.bl _,H,I,rfl,q⟩
 | cons y ys=>
  refine (PySem.SeqAt.RcNeAt.lists_lengths l1 l2 (by simp at hl ⊢;exact fun z=>by rw [z] at hl;simp at hl) hu') X.prog X.w X.xe _ ?_
  exact ⟨.bl _,H,I,rfl,q⟩
inductive IT (x:V) (vs:List V) (H:Hp) (Q:VK):Prop
 | mk (l:_) (b:_) (xs:_) (zs:_) (h0:x=.ref l) (h1:vs=[.ref b]) (h2:H l=some (.lst xs)) (h3:H b=some (.lst zs)) (h4:xs.length+zs.length≤10000) (h5:∀H',Ch H l (xs++zs) H'→Q .non H')
def JN:V→List V→Hp→VK→Prop:=fun x vs H Q=>IT  x vs H Q
theorem wI:wD X "list.extend" JN:=fun pins s σ H x vs v us Q I rx rv ⟨l,b,xs,zs,e1,e2,h,h',hz,q⟩=>Ee pins s σ H x vs v us Q I rx rv ⟨l,b,xs,zs,e1,e2,h,h',(by rw [sizeLine_eq];trivial),q _ .mk'⟩
end
theorem EY {α:Type}{P:List α→Prop} (h:∀a b c d e,P [a,b,c,d,e]):∀us:List α,us.length=5→P us:=fun us hl=>by
 cases us with
 | nil=>cases hl
 | cons a r=>exact BV (P:=fun r=>P (a :: r)) (fun b c d e=>h a b c d e) r (by simpa using hl)
structure Gb (a b:Nat) (p:KM.Fra):Prop where
 n:Sz a p.1
 d:Sz b p.2
 pos:1≤p.2
theorem Gb.mono {a b a' b':Nat}{p:KM.Fra} (h:Gb a b p) (ha:a≤a') (hb:b≤b'):Gb a' b' p:=⟨h.n.mono ha,h.d.mono hb,h.pos⟩
theorem ma {a b:Nat}{n d:Int} (hn:Sz a n) (hd:Sz b d) (h0:0<d):Gb a b (KM.low n d):=by
 have:=KM.low_spec n d (by trivial)
 exact ⟨hn.le this.2.2.2.1,hd.le this.2.2.2.2,this.1⟩
def mM (p q:KM.Fra):KM.Fra:=KM.low (p.1*q.2 - q.1*p.2) (p.2*q.2)
def eI (p q:KM.Fra):KM.Fra:=KM.low (p.1*q.2) (p.2*q.1)
theorem Gb.add {a b c d e f:Nat}{p q:KM.Fra} (h:Gb a b p) (k:Gb c d q) (h1:a+d<e) (h2:c+b<e) (h3:b+d≤f):Gb e f (KM.ladd p q):=by
 obtain ⟨e',rfl⟩:∃e',e=e'+1:=⟨e - 1,by trivial⟩
 exact ma (((h.n.mul k.d).mono (by trivial)).add ((k.n.mul h.d).mono (by trivial))) ((h.d.mul k.d).mono h3) (Int.mul_pos (by have:=h.pos;trivial) (by have:=k.pos;trivial))
theorem Gb.min {a b c d e f:Nat}{p q:KM.Fra} (h:Gb a b p) (k:Gb c d q) (h1:a+d<e) (h2:c+b<e) (h3:b+d≤f):Gb e f (mM p q):=by
 obtain ⟨e',rfl⟩:∃e',e=e'+1:=⟨e - 1,by trivial⟩
 exact ma (((h.n.mul k.d).mono (by trivial)).sub ((k.n.mul h.d).mono (by trivial))) ((h.d.mul k.d).mono h3) (Int.mul_pos (by have:=h.pos;trivial) (by have:=k.pos;trivial))
theorem Gb.tim {a b c d e f:Nat}{p q:KM.Fra} (h:Gb a b p) (k:Gb c d q) (h1:a+c≤e) (h3:b+d≤f):Gb e f (KM.lTim p q):=
 ma ((h.n.mul k.n).mono h1) ((h.d.mul k.d).mono h3) (Int.mul_pos (by have:=h.pos;trivial) (by have:=k.pos;trivial))
theorem Gb.ovr {a b c d e f:Nat}{p q:KM.Fra} (h:Gb a b p) (k:Gb c d q) (hq:1≤q.1) (h1:a+d≤e) (h3:b+c≤f):Gb e f (eI p q):=
 ma ((h.n.mul k.d).mono h1) ((h.d.mul k.n).mono h3) (Int.mul_pos (by have:=h.pos;trivial) (by trivial))
theorem nX {p q:KM.Fra} (h:1≤p.1) (h':1≤p.2) (k:1≤q.1) (k':1≤q.2):1≤(KM.lTim p q).1:=(KM.low_sgn (Int.mul_pos (by trivial) (by trivial))).1.mpr (Int.mul_pos (by trivial) (by trivial))
theorem AX {p q:KM.Fra} (h:1≤p.1) (h':1≤p.2) (k:1≤q.1) (k':1≤q.2):1≤(eI p q).1:=(KM.low_sgn (Int.mul_pos (by trivial) (by trivial))).1.mpr (Int.mul_pos (by trivial) (by trivial))
end L2
namespace L2
open PySem PySem.Spec PyProof.Rows
def dM (kvs:List (ay×V)) (k:ay) (v:V):List (ay×V):=if kvs.any (fun kv=>decide (kv.1=k)) then kvs.map (fun kv=>if kv.1=k then (kv.1,v) else kv) else kvs++[(k,v)]
theorem KV.any {kvs:List (ay×V)}{vs:List (ay×Value)} (r:KV kvs vs) (k:ay):kvs.any (fun kv=>decide (kv.1=k))=vs.any (fun kv=>decide (kv.1=k)):=by
 induction r with
 | nil=>rfl
 | cons h t ih=>rw [List.any_cons,List.any_cons,ih,h.1]
theorem x9 {kvs:List (ay×V)}{vs:List (ay×Value)} (r:KV kvs vs) {k:ay}{v:V}{u:Value} (rv:aP v u):KV (dM kvs k v) (stored vs k u):=by
 unfold dM stored
 rw [r.any k]
 have m:KV (kvs.map (fun kv=>if kv.1=k then (kv.1,v) else kv)) (vs.map (fun kv=>if kv.1=k then (kv.1,u) else kv)):=by
  induction r with
  | nil=>exact .nil
  | @cons p q ps qs h t ih=>
   refine .cons ?_ ih
   obtain ⟨pk,pv⟩:=p
   obtain ⟨qk,qv⟩:=q
   obtain ⟨h1,h2⟩:=h
   obtain rfl:pk=qk:=h1
   show (if pk=k then (pk,v) else (pk,pv)).1=(if pk=k then (pk,u) else (pk,qv)).1∧aP (if pk=k then (pk,v) else (pk,pv)).2 (if pk=k then (pk,u) else (pk,qv)).2
   by_cases c:pk=k
   ·rw [if_pos c,if_pos c];exact ⟨rfl,rv⟩
   ·rw [if_neg c,if_neg c];exact ⟨rfl,h2⟩
 have a:KV (kvs++[(k,v)]) (vs++[(k,u)]):=by
  clear m
  induction r with
  | nil=>exact .cons ⟨rfl,rv⟩ .nil
  | cons h t ih=>exact .cons h ih
 cases vs.any (fun kv=>decide (kv.1=k)) with
 | true=>exact m
 | false=>exact a
theorem yr {kvs:List (ay×V)}{k:ay}{v:V} (h:kvs.length<sizeLine):(dM kvs k v).length≤sizeLine:=by
 unfold dM
 split
 ·rw [List.length_map];trivial
 ·rw [List.length_append];exact h
theorem mj (kvs:List (ay×V)) (k:ay) (v:V) (x:ay):valD (dM kvs k v) x=if x=k then some v else valD kvs x:=by
 unfold dM
 cases c:kvs.any (fun kv=>decide (kv.1=k)) with
 | true=>
  rw [if_pos rfl]
  induction kvs with
  | nil=>cases c
  | cons p ps ih=>
   unfold valD at ih ⊢
   rw [List.map_cons,List.find?_cons,List.find?_cons]
   by_cases hp:p.1=k
   ·rw [if_pos hp]
    by_cases hx:x=k
    ·rw [if_pos hx,hp,hx];simp
    ·rw [if_neg hx]
     have n1:¬p.1=x:=fun z=>hx (z.symm.trans hp)
     have n2:decide (p.1=x)=false:=decide_eq_false n1
     rw [n2]
     dsimp only
     by_cases c2:ps.any (fun kv=>decide (kv.1=k))=true
     ·rw [ih c2,if_neg hx]
     ·have e:ps.map (fun kv=>if kv.1=k then (kv.1,v) else kv)=ps:=by
       have:∀kv∈ps,(fun kv:ay×V=>if kv.1=k then (kv.1,v) else kv) kv=kv:=fun kv hkv=>by
        by_cases q:kv.1=k
        ·exact absurd (List.any_eq_true.mpr ⟨kv,hkv,decide_eq_true q⟩) c2
        ·show (if kv.1=k then _ else _)=_
         rw [if_neg q]
       exact (List.map_congr_left this).trans (List.map_id _)
      rw [e]
   ·rw [if_neg hp]
    have c':ps.any (fun kv=>decide (kv.1=k))=true:=by
     rw [List.any_cons,decide_eq_false hp,Bool.false_or] at c
     exact c
    by_cases hpx:p.1=x
    ·have hx:¬x=k:=fun z=>hp (hpx.trans z)
     rw [if_neg hx,decide_eq_true hpx]
    ·rw [decide_eq_false hpx]
     dsimp only
     exact ih c'
 | false=>
  rw [if_neg Bool.false_ne_true]
  have nk:valD kvs k=none:=by
   unfold valD
   rw [Option.map_eq_none_iff,List.find?_eq_none]
   intro kv hkv q
   have:kvs.any (fun kv=>decide (kv.1=k))=true:=List.any_eq_true.mpr ⟨kv,hkv,q⟩
   rw [c] at this;cases this
  unfold valD at nk ⊢
  rw [List.find?_append]
  by_cases hx:x=k
  ·subst hx
   rw [Option.map_eq_none_iff] at nk
   rw [nk,if_pos rfl];simp
  ·rw [if_neg hx]
   cases kvs.find? (fun kv=>decide (kv.1=x)) with
   | some p=>rfl
   | none=>
    have:decide (k=x)=false:=decide_eq_false fun z=>hx z.symm
    simp [this]
section
variable {X:Cx}
theorem af.dset {pins:List (Addr×Obj)}{σ:St}{H:Hp}{s:Shared}{d:Addr}{kvs kvs':List (ay×V)}{vs':List (ay×Value)}{h':Heap}{t':Nat} (I:af X pins σ H s) (hH:H d=some (.dK kvs)) (hm:(d==sysModules)=false) (hz:kvs'.length≤sizeLine)
 (hv:KV kvs' vs') (hd:h'.DictOf (aG X.prog X.w) d vs') (sb:Heap.SameBut d s.heap h'):af X pins σ (aN H d (.dK kvs')) { s with heap:=h',toks:=t' }:=by
 obtain ⟨o,es,ep,ho,q⟩:=hd
 refine I.write (x:=d) (e:=d) (by rw [hH];exact trivial) (.inl rfl) (fun b u hb hu=>(sb.2 b hb).trans hu) ⟨_,ho⟩ ?_
 exact ⟨hz,hm,vs',hv,o,es,ep,ho,q⟩
structure AL (H:Hp) (p:Addr) (o:HO) (H':Hp):Prop where
 at':H' p=some o
 ol:∀a u,a≠p→H a=some u→H' a=some u
 fre:∀a,a≠p→H a=none→H' a=none
theorem AL.mk' {H:Hp}{p:Addr}{o:HO}:AL H p o (aN H p o):=⟨aB,fun a u n h=>by rw [aE n];exact h,fun a n h=>by rw [aE n];exact h⟩
inductive Hf (o:V) (i:V) (v:V) (H:Hp) (Q:(Hp→Prop)):Prop
 | mk (d:_) (kvs:_) (k:_) (h0:o=.ref d) (h1:i=dA k) (h2:H d=some (.dK kvs)) (h3:kvs.length≤4000) (h4:∀H',AL H d (.dK (dM kvs k v)) H'→Q H')
def Kl:V→V→V→Hp→(Hp→Prop)→Prop:=fun o i v H Q=>Hf  o i v H Q
theorem rj:Cg X Kl:=by
 intro pins s σ H o i v ov iv u Q I ro ri rv h
 obtain ⟨d,kvs,k,rfl,rfl,hd,hl,q⟩:=h
 cases ro
 obtain ⟨hz,hm,vs,rel,dd⟩:=(show bD X.prog X.w H s.heap d (.dK kvs) from I.hok d _ hd)
 exact wpAny_setItem_pairs (hsz:=by rw [←rel.length];exact hz) (j9 ri) dd fun h' hd' sb=>⟨_,I.dset hd hm (yr (by rw [sizeLine_eq];trivial)) (x9 rel rv) hd' sb,q _ .mk'⟩
inductive Jd (ng:Bool) (x:V) (y:V) (H:Hp) (Q:VK):Prop
 | mk (d:Addr) (kvs:List (ay×V)) (k:ay) (h0:y=.ref d) (h1:x=dA k) (h2:H d=some (.dK kvs)) (h3:Q (.bl (if ng then !(valD kvs k).isSome else (valD kvs k).isSome)) H)
def FG (ng:Bool):R2:=fun x y H Q=>Jd ng x y H Q
theorem yK {o:Option V}{p:Option Value} (h:tP o p):o.isSome=p.isSome:=by
 cases o <;> cases p <;> first | rfl | exact h.elim
theorem AU:cN X (compareOp .In) (FG false):=by
 intro pins s σ H x y v u Q I rx ry h
 obtain ⟨d,kvs,k,rfl,rfl,hd,q⟩:=h
 cases ry
 obtain ⟨hz,hm,vs,rel,dd⟩:=(show bD X.prog X.w H s.heap d (.dK kvs) from I.hok d _ hd)
 show wpAny _ X.A (do return Value.bool (←contains (.ref d) v)) _ _ s
 refine wpAny_bind (wpAny_contains_slot dd.typeIs PySem.F.slot_dict_contains (wpAny_mono (call_meetsIn (Q:=fun b s'=>b=.bool (valueAt vs k).isSome∧s'={ s with toks:=s.toks+1 }) PySem.F.slot_dict_contains dd.typeIs PySem.F.entry_dict_contains (PySem.F.args_dict_contains_2 _ _) (meets_dict_contains (aG X.prog X.w) d (j9 rx) hm) ⟨_,dd.mapOf,rfl,rfl⟩) (fun b s' hb=>?_) fun _ _ e=>e))
 obtain ⟨rfl,rfl⟩:=hb
 refine wpAny_truthy_bool (wpAny_pure ?_)
 rw [←yK (rel.valD k)]
 exact ⟨.bl _,H,I.tok _,rfl,q⟩
theorem rZ:cN X (compareOp .NotIn) (FG true):=by
 intro pins s σ H x y v u Q I rx ry h
 obtain ⟨d,kvs,k,rfl,rfl,hd,q⟩:=h
 cases ry
 obtain ⟨hz,hm,vs,rel,dd⟩:=(show bD X.prog X.w H s.heap d (.dK kvs) from I.hok d _ hd)
 show wpAny _ X.A (do return Value.bool (!(←contains (.ref d) v))) _ _ s
 refine wpAny_bind (wpAny_contains_slot dd.typeIs PySem.F.slot_dict_contains (wpAny_mono (call_meetsIn (Q:=fun b s'=>b=.bool (valueAt vs k).isSome∧s'={ s with toks:=s.toks+1 }) PySem.F.slot_dict_contains dd.typeIs PySem.F.entry_dict_contains (PySem.F.args_dict_contains_2 _ _) (meets_dict_contains (aG X.prog X.w) d (j9 rx) hm) ⟨_,dd.mapOf,rfl,rfl⟩) (fun b s' hb=>?_) fun _ _ e=>e))
 obtain ⟨rfl,rfl⟩:=hb
 refine wpAny_truthy_bool (wpAny_pure ?_)
 rw [←yK (rel.valD k)]
 exact ⟨.bl _,H,I.tok _,rfl,q⟩
theorem ET {pos:Pos}:PE X (.Dict [] [] pos) (fun _ H Q=>∀p H',Nw H p (.dK []) H'→Q (.ref p) H'):=by
 intro pins s σ H Q I h
 refine wpAny_Dict_empty ?_
 have big:(s.heap.objs.size==sysModules)=false:=by
  have e:mainGlobals<s.heap.objs.size:=(I.mod.glob.keeps I.bk).lt
  exact beq_eq_false_iff_ne.mpr (Ne.symm (Nat.ne_of_lt (Nat.lt_trans (by decide) e)))
 exact ⟨.ref _,_,I.laid (fun _ _ e=>Heap.get?_push_of_some _ e) (Nat.le_refl _) (show bD X.prog X.w _ _ _ (.dK []) from ⟨Nat.zero_le _,big,[],.nil,Heap.DictOf.new s.heap⟩),rfl,h _ _ (.mk' I.fresh)⟩
end
section
variable {prog:Program}{w:World}{A:Around}{R:Result→Shared→Prop}{s:Shared}
theorem yM {kx vx target iter:Expr}{ifs:List Expr}{scope:Scope}{pos:Pos}{it:Value}{D:Addr}{env:Env} (I:Nat→Shared→Prop)
 (turn:∀n s,I n s→wpAny (model prog w) A (pyNext it) (fun r s₁=>match r with
  | none=>R (.ok .next) s₁
  | some v=>wpAny (model prog w) A (letOwnedTupleGo target it v) (fun _ s₁'=>wpAny (model prog w) A (assign target env v) (fun _ s₂=>
   wpAny (model prog w) A (forIn ifs true fun c r=>if r=true then do let ok ←isTrue c env (eval c env);pure (ForInStep.yield ok) else pure (ForInStep.yield r)) (fun ok s₃=>
    if ok=true then wpAny (model prog w) A (eval kx env) (fun kv s₄=>wpAny (model prog w) A (eval vx env) (fun vv s₅=>
     wpAny (model prog w) A (dictSet D kv vv) (fun _ s₆=>∃m,m<n∧I m s₆) (fun _ _=>False) s₅) (fun _ _=>False) s₄) (fun _ _=>False) s₃
    else ∃m,m<n∧I m s₃) (fun _ _=>False) s₂) (fun _ _=>False) s₁') (fun _ _=>False) s₁) (fun _ _=>False) s)
 (n:Nat) (h:I n s) :
 codeAny (model prog w) A (.compLoop (.DictComp kx vx [⟨target,iter,ifs,0⟩] scope pos) 0 it (.ref D) env) R s:=by
 refine codeAny_loop rfl I (fun n s hI=>?_) n h
 show wpAny _ A ((compTurn (.DictComp kx vx [⟨target,iter,ifs,0⟩] scope pos) 0 it (.ref D) env).onRaise (fun x=>do noteFrame x env;theTreesLotGoes x)) _ _ s
 refine wpAny_noted ?_
 rw [compTurn_dict]
 refine wpAny_bind (wpAny_standAt (wpAny_bind (wpAny_mono (turn n s hI) (fun r s₁ h₁=>?_) fun _ _ h'=>h'.elim)))
 cases r with
 | none=>exact wpAny_pure h₁
 | some v=>
  refine wpAny_bind (wpAny_mono h₁ (fun _ s₁' h₁'=>?_) fun _ _ h'=>h'.elim)
  refine wpAny_bind (wpAny_mono h₁' (fun _ s₂ h₂=>wpAny_bind (wpAny_mono h₂ (fun ok s₃ h₃=>?_) fun _ _ h'=>h'.elim)) fun _ _ h'=>h'.elim)
  cases ok with
  | false=>exact wpAny_pure ⟨rfl,h₃⟩
  | true=>
   exact wpAny_bind (wpAny_bind (wpAny_mono h₃ (fun kv s₄ h₄=>wpAny_bind (wpAny_holding (wpAny_mono h₄ (fun vv s₅ h₅=>wpAny_bind (wpAny_standAt (wpAny_holding (wpAny_mono h₅ (fun _ s₆ h₆=>wpAny_pure ⟨rfl,h₆⟩) fun _ _ h'=>h'.elim)))) fun _ _ h'=>h'.elim))) fun _ _ h'=>h'.elim))
end
def Dy (J:It) (σc:St) (g:TG) (tt:TT) (tk tv:TE) (D:Addr) (H1:Hp) (Q:VK):Prop:=
 ∃W:Nat→Nat→Hp→List (ay×V)→Prop,(∃m,W 0 m (aN H1 D (.dK [])) [])∧∀i m H ys,W i m H ys→H D=some (.dK ys)∧
  ((J.stop i H∧Q (.ref D) H)∨(J.go i H∧ys.length<sizeLine∧∃N:Hp→List (ay×V)→Prop,(∀H' ys',N H' ys'→∃m',m'<m∧W (i+1) m' H' ys')∧
    ∀x H',J.yld i H x H'→g x σc H' fun σ2 H2=>kQ σc σ2∧tt σ2 H2 fun b H3=>if b=true then tk σ2 H3 fun kv H4=>∃k,kv=dA k∧tv σ2 H4 fun y H5=>H5 D=some (.dK ys)∧N (aN H5 D (.dK (dM ys k y))) (dM ys k y) else N H3 ys))
def C8 (wi:TI) (L:Nat) (src:List Nat) (g:TG) (tt:TT) (tk tv:TE):TE:=fun σ H Q=>wi σ H fun J H1=>∀D,H1 D=none→Dy J (i7 L src σ) g tt tk tv D H1 Q
section
variable {X:Cx}{kx vx tg iter:Expr}{ifs:List Expr}{scope:Scope}{pos:Pos}{N':List Str}{L:Nat}{src:List Nat}{wi:TI}{g:TG}{tt:TT}{tk tv:TE}
theorem Dx (hc:X.calm=true) (ck:zL X.env.scope X.N scope N' L src) {cl:List (Str×Addr)}{pins:List (Addr×Obj)}{s:Shared}{σ:St}{H:Hp}{Q:VK} (I:af X pins σ H s)
 (hsub:∀x c,cl.lookup x=some c→X.env.cells.lookup x=some c) (hhas:∀y∈scope.names,y.2=.free→∃c,cl.lookup y.1=some c)
 (hi:PI X tg iter wi) (hg:∀cl C s H ex pn,PG (bY X scope cl C N' s H ex pn) tg g) (hif:∀cl C s H ex pn,rf (bY X scope cl C N' s H ex pn) ifs tt)
 (hk:∀cl C s H ex pn,PE (bY X scope cl C N' s H ex pn) kx tk) (hv:∀cl C s H ex pn,PE (bY X scope cl C N' s H ex pn) vx tv) (h:C8 wi L src g tt tk tv σ H Q) {RR:Value→Addr→Result→Shared→Prop}
 (hRR:∀D C H' f s' m,af X pins σ H' s'→s'.heap.Ns C m→kB X pins H' C→Q (.ref D) H'→RR (.ref D) C (.ok f) s') :
 wpAny (model X.prog X.w) X.A (eval iter X.env) (fun x s₁=>wpAny (model X.prog X.w) X.A (pyIter x) (fun it s₂=>wpAny (model X.prog X.w) X.A newDict (fun acc s₃=>
  wpAny (model X.prog X.w) X.A (newFunctionEnv scope X.env.globals cl [] X.env.qual none .none (some X.env)) (fun cenv s₄=>
   codeAny (model X.prog X.w) X.A (.compStart (.DictComp kx vx [⟨tg,iter,ifs,0⟩] scope pos) 0 it acc { cenv with scope:=relabel scope X.env }) (RR acc cenv.locals) s₄) X.xe s₃) X.xe s₂) X.xe s₁) X.xe s:=by
 refine aO (hi pins s σ H _ I h) fun v s1 h1=>aO h1 fun itv s2 h2=>?_
 obtain ⟨it,fp,tn,J,H2,e,I2,T,st2,f2,q⟩:=h2
 subst e
 refine wpAny_newObj_type (wpAny_newFunctionEnv ck.nocell (by intro y hy;simp at hy) (fun h₁ hns₁ hsb₁=>?_) ck.kind)
 dsimp only at hns₁ hsb₁ ⊢
 generalize hH2:s2.heap.push { cls:=.type "dict",dict:=none,data:=.dict #[] }=hp2 at hns₁ hsb₁ ⊢
 have hC:hp2.objs.size=s2.heap.objs.size+1:=by rw [←hH2,Heap.size_push]
 have hDC:s2.heap.objs.size≠hp2.objs.size:=by rw [hC];exact Nat.ne_of_lt (Nat.lt_succ_self _)
 have hCle:s2.heap.objs.size≤hp2.objs.size:=by rw [hC];exact Nat.le_succ _
 have below:∀b,b<s2.heap.objs.size→b≠hp2.objs.size∧b≠s2.heap.objs.size:=fun b hb=>⟨by rw [hC];exact Nat.ne_of_lt (Nat.lt_succ_of_lt hb),Nat.ne_of_lt hb⟩
 have old:∀b o,s2.heap.get? b=some o→h₁.get? b=some o:=fun b o e=>hsb₁.extBut b o (below b (Heap.lt_size e)).1 (Heap.get?_push_of_some _ (hH2▸Heap.get?_push_of_some _ e))
 have hacc0:(s2.heap.push { cls:=.type "dict",dict:=none,data:=.dict #[] }).DictOf (aG X.prog X.w) s2.heap.objs.size []:=Heap.DictOf.new s2.heap
 have hacc:h₁.DictOf (aG X.prog X.w) s2.heap.objs.size []:=hacc0.at fun o e=>hsb₁.extBut _ _ hDC (Heap.get?_push_of_some _ (hH2▸e))
 have hbig:(s2.heap.objs.size==sysModules)=false:=by
  have e:mainGlobals<s2.heap.objs.size:=(I2.mod.glob.keeps I2.bk).lt
  exact beq_eq_false_iff_ne.mpr (Ne.symm (Nat.ne_of_lt (Nat.lt_trans (by decide) e)))
 have hDn:H2 s2.heap.objs.size=none:=I2.fresh
 obtain ⟨W,⟨m0,w0⟩,turn⟩:=q _ hDn
 have fpo:∀b∈fp,∃o,s2.heap.get? b=some o∧∀v,o.data≠.cell v:=T.obj _ _ st2
 have fplt:∀b∈fp,b<s2.heap.objs.size:=fun b hb=>by obtain ⟨o,e,_⟩:=fpo b hb;exact Heap.lt_size e
 have hfrs:∀b∈fp,b∉qt X.stack:=fun b hb z=>by
  rcases List.mem_cons.mp (I2.stkSub b z) with z' | z'
  ·exact (f2 b hb).2.1 z'
  ·exact (f2 b hb).2.2.1 z'
 generalize hX:bY X scope cl hp2.objs.size N' s2 H2 fp (X.pn++pins)=X'
 have ok':X'.Ok:=by
  subst hX
  refine ⟨I2.ok.mod,ck.kind,I2.ok.glob,I2.ok.blt,hCle,fun x y c e1 e2=>I2.ok.inj x y c (hsub _ _ e1) (hsub _ _ e2),fun x hx=>?_,fun x c z _=>(by cases z),I2.ok.hd,I2.ok.frames,.inl rfl,fun b hb=>⟨(below b (fplt b hb)).1,fun x c e=>(f2 b hb).2.2.2.2.1 x c (hsub _ _ e)⟩,
   I2.bs,Nat.le_trans I2.ok.bsz I2.sz,fun b o e hb=>?_,hfrs,I2.stack,I2.stkFree⟩
  ·-- a name that is a cell or free
   have hx':(relabel scope X.env).names.lookup x=some .cell∨(relabel scope X.env).names.lookup x=some .free:=hx
   have key:∀(names:List (Str×NameKind)),(∀y∈names,y.2≠.cell)→
    ((names.map fun (n,k)=>if (k==NameKind.free && X.env.scope.kind==.function && X.env.kindOf n==some .cell) then (n,NameKind.cell) else (n,k)).lookup x=some .cell∨
     (names.map fun (n,k)=>if (k==NameKind.free && X.env.scope.kind==.function && X.env.kindOf n==some .cell) then (n,NameKind.cell) else (n,k)).lookup x=some .free)→∃y∈names,y.1=x∧y.2=.free:=by
    intro names
    induction names with
    | nil=>intro _ h;rcases h with h | h <;> simp at h
    | cons y r ih=>
     intro hn h
     obtain ⟨n,k⟩:=y
     by_cases hb:x=n
     ·subst hb
      refine ⟨(x,k),List.mem_cons_self,rfl,?_⟩
      by_cases hk:k=.free
      ·exact hk
      ·exfalso
       have hkb:(k==NameKind.free)=false:=by simpa using hk
       have hnc:k≠.cell:=hn (x,k) List.mem_cons_self
       simp only [List.map_cons,hkb,Bool.false_and,Bool.false_eq_true,if_false,List.lookup_cons,beq_self_eq_true,if_true] at h
       rcases h with h | h
       ·exact hnc (Option.some.inj h)
       ·exact hk (Option.some.inj h)
     ·have hb':(x==n)=false:=by simpa using hb
      have h':((r.map fun (n,k)=>if (k==NameKind.free && X.env.scope.kind==.function && X.env.kindOf n==some .cell) then (n,NameKind.cell) else (n,k)).lookup x=some .cell∨
       (r.map fun (n,k)=>if (k==NameKind.free && X.env.scope.kind==.function && X.env.kindOf n==some .cell) then (n,NameKind.cell) else (n,k)).lookup x=some .free):=by
       rw [List.map_cons] at h
       dsimp only at h
       by_cases hcnd:(k==NameKind.free && X.env.scope.kind==.function && X.env.kindOf n==some .cell)=true
       ·rw [if_pos hcnd] at h
        simpa only [List.lookup_cons,hb'] using h
       ·rw [if_neg hcnd] at h
        simpa only [List.lookup_cons,hb'] using h
      obtain ⟨y,hy,e1,e2⟩:=ih (fun y hy=>hn y (List.mem_cons_of_mem _ hy)) h'
      exact ⟨y,List.mem_cons_of_mem _ hy,e1,e2⟩
   obtain ⟨y,hy,e1,e2⟩:=key scope.names ck.nocell hx'
   obtain ⟨c,hc'⟩:=hhas y hy e2
   exact ⟨c,e1▸hc'⟩
  ·rcases (f2 b hb).2.2.2.1 with z | z
   ·exact I2.ok.noex b o e z
   ·exact absurd (Nat.lt_of_lt_of_le (Heap.lt_size e) (Nat.le_trans I2.ok.bsz z)) (Nat.lt_irrefl _)
 have stat:∀{H':Hp},(∀b∈fp,H' b=none)→∀b∈fp,kB X' [] H' b:=by
  subst hX
  intro H' hn b hb
  refine ⟨hn b hb,(below b (fplt b hb)).1,hfrs b hb,.inl hb,fun x c e=>(f2 b hb).2.2.2.2.1 x c (hsub _ _ e),fun p hp=>?_⟩
  have hp':p∈X.pn++pins:=by simpa [bY] using hp
  exact (f2 b hb).2.2.2.2.2 p hp'
 have I1:af X' [] (i7 L src σ) (aN H2 s2.heap.objs.size (.dK [])) { s2 with heap:=h₁,toks:=s2.toks+([]:List (Str×Value)).length }:=by
  subst hX
  have up:∀b o,H2 b=some o→aN H2 s2.heap.objs.size (.dK []) b=some o:=fun b o e=>by rw [aE (aS e hDn)];exact e
  have upn:∀b,b<s2.heap.objs.size→H2 b=none→aN H2 s2.heap.objs.size (.dK []) b=none:=fun b hb e=>by rw [aE (Nat.ne_of_lt hb)];exact e
  refine ⟨ok',rfl,I2.bare,Un.laid old (Nat.le_refl _) hDn,⟨_,hns₁,fun i x v e1 e2 e3=>?_⟩,fun x c e=>?_,?_,fun x c e=>?_,fun p hp=>?_,I2.hok.laid old (Nat.le_refl _) ⟨Nat.zero_le _,hbig,[],.nil,hacc⟩,?_⟩
  ·-- the names of the def around
   have hiL:L≤i:=by
    by_cases hlt:i<L
    ·exfalso
     unfold i7 at e2
     rw [List.getElem?_append_left (by simpa using hlt),List.getElem?_replicate,if_pos hlt] at e2
     cases e2
    ·trivial
   have e2':(src.map fun j=>(σ[j]?).join)[i - L]?=some (some v):=by
    unfold i7 at e2
    rw [List.getElem?_append_right (by simpa using hiL),List.length_replicate] at e2
    exact e2
   rw [List.getElem?_map] at e2'
   cases hj:src[i - L]? with
   | none=>rw [hj] at e2';cases e2'
   | some j=>
    rw [hj] at e2'
    have e3':(σ[j]?).join=some v:=Option.some.inj e2'
    have hσ:σ[j]?=some (some v):=by
     cases q:σ[j]? with
     | none=>rw [q] at e3';cases e3'
     | some o=>rw [q] at e3';exact congrArg some e3'
    obtain ⟨x',g1,g2,g3⟩:=ck.frees (i - L) j hj
    have:L+(i - L)=i:=by trivial
    rw [this] at g1
    have ex:x'=x:=Option.some.inj (g1.symm.trans e1)
    subst ex
    have hfree:=ck.free _ (PySem.mem_of_lookup g3) rfl
    obtain ⟨m,hn,hl⟩:=I2.loc
    obtain ⟨u,r,l⟩:=hl j x' v g2 hσ (hfree.elim (fun z=>.inr (.inl z)) fun z=>.inr (.inr z))
    refine ⟨u,r,.inr ⟨?_,?_⟩⟩
    ·-- its kind in the block
     have key:∀(names:List (Str×NameKind)),names.lookup x'=some .free→
      ((names.map fun (n,k)=>if (k==NameKind.free && X.env.scope.kind==.function && X.env.kindOf n==some .cell) then (n,NameKind.cell) else (n,k)).lookup x'=some .cell∨
       (names.map fun (n,k)=>if (k==NameKind.free && X.env.scope.kind==.function && X.env.kindOf n==some .cell) then (n,NameKind.cell) else (n,k)).lookup x'=some .free):=by
      intro names
      induction names with
      | nil=>intro h;simp at h
      | cons y r ih=>
       intro h
       obtain ⟨n,k⟩:=y
       by_cases hb:x'=n
       ·subst hb
        simp only [List.lookup_cons,beq_self_eq_true,if_true] at h
        have hk:k=.free:=Option.some.inj h
        subst hk
        rw [List.map_cons]
        dsimp only
        by_cases hcnd:(NameKind.free==NameKind.free && X.env.scope.kind==.function && X.env.kindOf x'==some .cell)=true
        ·rw [if_pos hcnd];left;simp [List.lookup_cons]
        ·rw [if_neg hcnd];right;simp [List.lookup_cons]
       ·have hb':(x'==n)=false:=by simpa using hb
        have h':=ih (by simpa only [List.lookup_cons,hb'] using h)
        rw [List.map_cons]
        dsimp only
        by_cases hcnd:(k==NameKind.free && X.env.scope.kind==.function && X.env.kindOf n==some .cell)=true
        ·rw [if_pos hcnd];simpa only [List.lookup_cons,hb'] using h'
        ·rw [if_neg hcnd];simpa only [List.lookup_cons,hb'] using h'
     exact key scope.names g3
    ·obtain ⟨c,hcl⟩:=hhas _ (PySem.mem_of_lookup g3) rfl
     have hcx:=hsub _ _ hcl
     rcases l with ⟨k1,_⟩ | ⟨_,c',e4,z⟩
     ·exfalso
      have k1':X.env.scope.names.lookup x'=some .local:=k1
      rcases hfree with z | z
      ·rw [z] at k1';cases k1'
      ·rw [z] at k1';cases k1'
     ·rw [hcx] at e4
      cases e4
      obtain ⟨o,ho,hd⟩:=z
      exact ⟨c,hcl,o,old _ _ ho,hd⟩
  ·obtain ⟨v,o,ho,hd⟩:=I2.cell x c (hsub _ _ e)
   exact ⟨v,o,old _ _ ho,hd⟩
  ·show aN H2 s2.heap.objs.size (.dK []) hp2.objs.size=none
   rw [aE (Ne.symm hDC)]
   exact I2.hok.fresh hCle
  ·obtain ⟨v,o,ho,hd⟩:=I2.cell x c (hsub _ _ e)
   exact upn c (Heap.lt_size ho) (I2.freeC x c (hsub _ _ e))
  ·have hp':p∈X.pn++pins:=by simpa [bY] using hp
   obtain ⟨e,n,ne,nf,d⟩:=I2.pin p hp'
   have hlt:=Heap.lt_size e
   refine ⟨old _ _ e,upn _ hlt n,(below _ hlt).1,fun z=>?_,d⟩
   rcases List.mem_cons.mp (I2.stkSub _ z) with z' | z'
   ·exact ne z'
   ·exact nf z'
  ·show (i7 L src σ).length=N'.length
   unfold i7
   rw [List.length_append,List.length_replicate,List.length_map,ck.len]
 have eA:X'.A=X.A:=by subst hX;rfl
 have eP:X'.prog=X.prog:=by subst hX;rfl
 have eW:X'.w=X.w:=by subst hX;rfl
 have eK:X'.K=X.K:=by subst hX;rfl
 have ec:X'.calm=true:=by subst hX;exact hc
 have exe:X'.xe=fun _ _=>False:=by subst hX;rfl
 have eE:X'.env=compEnvC scope cl hp2.objs.size X.env:=by subst hX;rfl
 have hg':PG X' tg g:=by subst hX;exact hg _ _ _ _ _ _
 have hif':rf X' ifs tt:=by subst hX;exact hif _ _ _ _ _ _
 have hk':PE X' kx tk:=by subst hX;exact hk _ _ _ _ _ _
 have hv':PE X' vx tv:=by subst hX;exact hv _ _ _ _ _ _
 have aft:∀{H':Hp}{s':Shared},af X' [] (i7 L src σ) H' s'→af X pins σ H' s'∧(∃m,s'.heap.Ns hp2.objs.size m)∧kB X pins H' hp2.objs.size:=by
  subst hX
  intro H' s' J
  refine ⟨I2.call' (ch:=fp) J.os J.base J.hok J.bare fun b hb=>⟨(f2 b hb).2.2.2.1,(f2 b hb).2.1,(f2 b hb).2.2.2.2.1,(f2 b hb).2.2.2.2.2⟩,?_,I2.fpOk hCle J.free⟩
  obtain ⟨m,hn,_⟩:=J.loc
  exact ⟨m,hn⟩
 have st1:tn 0 h₁:=T.keep _ _ _ st2 fun b hb o e=>old b o e
 have loop:∀s₃:Shared,s₃={ s2 with heap:=h₁,toks:=s2.toks+([]:List (Str×Value)).length }→
  codeAny (model X.prog X.w) X.A (.compLoop (.DictComp kx vx [⟨tg,iter,ifs,0⟩] scope pos) 0 (.ref it) (.ref s2.heap.objs.size) (compEnvC scope cl hp2.objs.size X.env))
   (RR (.ref s2.heap.objs.size) hp2.objs.size) s₃:=by
  rintro s₃ rfl
  refine yM (fun n s'=>fD fun i H' ys=>af X' [] (i7 L src σ) H' s'∧tn i s'.heap∧(∀b∈fp,H' b=none)∧W i n H' ys) ?_ m0
   ⟨0,_,[],I1,st1,fun b hb=>(by rw [aE (below b (fplt b hb)).2];exact (f2 b hb).1),w0⟩
  rintro n s3 ⟨i,H3,ys,I3,st3,fr3,w3⟩
  obtain ⟨hD,alt⟩:=turn i n H3 ys w3
  rcases alt with ⟨stop,qn⟩ | ⟨go,hlen,N,hN,step⟩
  ·have d:=T.done X' eP eW eK ec i [] s3 (i7 L src σ) H3 (fun _ _=>False) I3 (stat fr3) st3 stop
   rw [eA] at d
   refine aO d fun r s4 ⟨hr,I4⟩=>?_
   subst hr
   obtain ⟨J,⟨m,hn⟩,fpC⟩:=aft I4
   exact hRR _ _ H3 .next s4 m J hn fpC qn
  ·have d:=T.item X' eP eW eK ec i [] s3 (i7 L src σ) H3 (fun _ _=>False) I3 (stat fr3) st3 go
   rw [eA] at d
   refine aO d fun r s4 ⟨u,hr,h4⟩=>?_
   subst hr
   refine aO h4 fun _ s5 ⟨x,H5,I5,r5,y5,st5,fr5⟩=>?_
   have I5':=I5.pinned (stat fr5) (T.obj _ _ st5)
   have a1:=hg' _ s5 (i7 L src σ) H5 x u _ I5' r5 (step x H5 y5)
   rw [eP,eW,eA,eE,exe] at a1
   refine aO a1 fun _ s6 ⟨σ6,H6,I6,bk,q6⟩=>?_
   have a2:=hif' _ s6 σ6 H6 _ I6 q6
   rw [eP,eW,eA,eE,exe] at a2
   refine aO a2 fun b s7 ⟨H7,I7,q7⟩=>?_
   have again:∀{H8:Hp}{s8:Shared}{ys':List (ay×V)},af X' ([]++qe fp s5.heap) σ6 H8 s8→N H8 ys'→∃m,m<n∧fD fun i H' ys=>af X' [] (i7 L src σ) H' s8∧tn i s8.heap∧(∀b∈fp,H' b=none)∧W i m H' ys:=fun {H8 s8 ys'} I8 n8=>by
    obtain ⟨m',hm,w8⟩:=hN H8 ys' n8
    refine ⟨m',hm,i+1,H8,ys',(I8.unpinned).weak bk.1.symm bk.2,T.keep _ _ _ st5 fun b hb o e=>(I8.pin (b,o) (List.mem_append_right _ (List.mem_append_right _ (jz hb e)))).1,fun b hb=>?_,w8⟩
    obtain ⟨o,e,d⟩:=T.obj _ _ st5 b hb
    exact (I8.pin (b,o) (List.mem_append_right _ (List.mem_append_right _ (jz hb e)))).2.1
   cases b with
   | false=>
    rw [if_neg Bool.false_ne_true] at q7 ⊢
    exact again I7 q7
   | true=>
    rw [if_pos rfl] at q7 ⊢
    have a3:=hk' _ s7 σ6 H7 _ I7 q7
    rw [eP,eW,eA,eE,exe] at a3
    refine aO a3 fun kv s8 ⟨yk,H8,I8,r8,k,ek,q8⟩=>?_
    subst ek
    have a4:=hv' _ s8 σ6 H8 _ I8 q8
    rw [eP,eW,eA,eE,exe] at a4
    refine aO a4 fun vv s9 ⟨y,H9,I9,r9,hD9,q9⟩=>?_
    obtain ⟨hz,hm,vs,rel,dd⟩:=(show bD X'.prog X'.w H9 s9.heap s2.heap.objs.size (.dK ys) from I9.hok _ _ hD9)
    rw [eP,eW] at dd
    refine wpAny_dictSet_pairs (knd:=aG X.prog X.w) (hsz:=by rw [←rel.length];exact hz) (j9 r8) dd fun h' hd' sb=>?_
    have hd2:h'.DictOf (aG X'.prog X'.w) s2.heap.objs.size (stored vs k vv):=by rw [eP,eW];exact hd'
    exact again (I9.dset (t':=s9.toks+1) hD9 hm (yr hlen) (x9 rel r9) hd2 sb) q9
 exact codeAny_compStart_dict (loop _ rfl) (T.self _ 0 _ _ _ st1 (loop _ rfl))
theorem An {j:Nat}{y:Str}{py spos:Pos} (hN:X.N.Nodup) (hj:X.N[j]?=some y) (hy:X.env.scope.names.lookup y=some .local) (hsw:swapsWith (.DictComp kx vx [⟨tg,iter,ifs,0⟩] scope pos) (some (.Name y py)) spos.line X.env=pure true)
 (hc:X.calm=true) (ck:ql X.env.scope X.N scope N' L src=true) (hi:PI X tg iter wi) (hg:∀cl C s H ex pn,PG (bY X scope cl C N' s H ex pn) tg g) (hif:∀cl C s H ex pn,rf (bY X scope cl C N' s H ex pn) ifs tt)
 (hk:∀cl C s H ex pn,PE (bY X scope cl C N' s H ex pn) kx tk) (hv:∀cl C s H ex pn,PE (bY X scope cl C N' s H ex pn) vx tv) (hs:∀x,foldedSetIterable iter X.env x=pure x:=by intro _;rfl) :
 PS X (.Assign [.Name y py] (.DictComp kx vx [⟨tg,iter,ifs,0⟩] scope pos) spos) (zV (C8 wi L src g tt tk tv) (qZ j)):=by
 intro pins s σ H D I h
 have ck:=tU ck
 obtain ⟨cl,hclos,hsub,hhas⟩:=xw (scope:=scope) (env:=X.env) fun y hy e=>I.ok.has y.1 (ck.free y hy e)
 rw [exec_Assign_Name_used _ _ _ _ hsw]
 refine wpAny_bind (wpAny_standAt (wpAny_bind ?_))
 show wpAny _ X.A (do let _ ←comprehension (.DictComp kx vx [⟨tg,iter,ifs,0⟩] scope pos) scope X.env _ newDict false (eval iter X.env) (some (assign (.Name y py) X.env))) _ _ s
 refine wpAny_bind (wpAny_mono (wpAny_comprehension_free (use:=some (assign (.Name y py) X.env)) (Q:=fun _ s'=>SP X pins D .next s') rfl hs hclos ck.kind ck.loc
  (Dx hc ck I hsub hhas hi hg hif hk hv h (RR:=fun acc C=>compPost (model X.prog X.w) X.A X.xe (some (assign (.Name y py) X.env)) (fun _ s'=>SP X pins D .next s') acc C) ?_)) (fun _ s' hq=>wpAny_pure (wpAny_pure hq)) fun _ _ e=>e)
 intro L' C H' f s' m J hn fpC q
 show wpAny _ X.A (assign (.Name y py) X.env (.ref L')) _ _ _
 refine wpAny_assign_Name (tG J hN hj (.inl hy) (v:=.ref L') rfl (fun s2 J2 hsb=>?_) (.inr hy))
 obtain ⟨f0,f1,f2,f3,f4,f5⟩:=fpC
 obtain ⟨a,hsb,ha⟩:=hsb
 have hCa:C≠a:=by
  rcases ha with rfl | ha
  ·exact f1
  ·exact fun z=>f4 _ _ ha z.symm
 refine ⟨m,hn.sameBut hsb hCa,fun h' hsb'=>⟨_,H',?_,q⟩⟩
 exact J2.turned (t':=s2.toks) (fun b o hb e=>(hsb'.2 b hb).trans e) f0 f1 f3 f4 f5
end
end L2
namespace KM
theorem mul_le_l {a b c:Rat} (h:a≤b) (hc:0≤c):c*a≤c*b:=Rat.mul_le_mul_of_nonneg_left h hc
variable {ls:List (List Nat)}{es done:List Edge}{W u:List Nat→Rat}{S:List (List Nat)}{q:List Nat}{m:Rat}
end KM
namespace L2
open PySem PySem.Spec PyProof.Rows
section
variable {z:Nat}{E:Addr→Prop}{H H':Hp}{n m k:Nat}{v:V}{xs ys:List V}
end
section
variable {X:Cx}{K:PySem.W.Frag}
end
section
variable {X:Cx}
inductive EB (x:V) (vs:List V) (H:Hp) (Q:VK):Prop
 | mk (l:Addr) (ks:List (List Nat)) (k:List Nat) (j:Nat) (h0:x=.ref l) (h1:vs=[ar k]) (h2:H l=some (.lst (ks.map ar))) (h3:ks.length≤10000) (h4:ks[j]?=some k) (h5:ks.Nodup) (h6:Q (.int (j:Int)) H)
def Ge:V→List V→Hp→VK→Prop:=fun x vs H Q=>EB  x vs H Q
theorem CW:wD X "list.index" Ge:=by
 intro pins s σ H x vs v us Q I rx rv h
 obtain ⟨l,ks,k,j,rfl,rfl,hH,hz,hj,nd,q⟩:=h
 cases rx
 obtain ⟨u,rfl,ru⟩:=rv.one
 obtain ⟨t,rfl⟩:=ru
 obtain ⟨z,its,n,r,hl,e⟩:=I.lstM hH
 have hlen:ks.length=its.length:=by rw [←hl,List.length_map]
 have isI:∀(m:Nat) (w:Value),its[m]?=some w→aZ fun i t'=>ks[m]?=some i∧w=.str (S i) t':=fun m w hw=>by
  obtain ⟨i,hi⟩:∃i,ks[m]?=some i:=⟨_,List.getElem?_eq_getElem (by rw [hlen];exact (List.getElem?_eq_some_iff.mp hw).1)⟩
  obtain ⟨w',hw',rw'⟩:=r.get (show (ks.map ar)[m]?=some (ar i) by rw [List.getElem?_map,hi];rfl)
  rw [hw] at hw'
  cases hw'
  obtain ⟨t',rfl⟩:=rw'
  exact ⟨i,t',hi,rfl⟩
 have hji:j<its.length:=by rw [←hlen];exact (List.getElem?_eq_some_iff.mp hj).1
 refine call_meets F.slot_list_index ⟨_,e,rfl⟩ F.entry_list_index (F.args_list_index_2 _ _)
  (MeetsSeq.list_index l its.toArray n (.str (S k) t) (fun y=>match y with | .str i _=>i==S k | _=>false) (fun y hy=>?_) j (by simpa using hji) (by trivial) ?_ (fun m hm hlt=>?_)) ⟨e,?_⟩
 ·obtain ⟨m,hm⟩:=List.getElem?_of_mem (by simpa using hy:y∈its)
  obtain ⟨i,t',_,rfl⟩:=isI m y hm
  exact eqGives_str (S i) (S k) t' t
 ·obtain ⟨i,t',e1,e2⟩:=isI j its[j] (List.getElem?_eq_getElem hji)
  rw [hj] at e1
  cases e1
  simp only [List.getElem_toArray,e2,beq_self_eq_true]
 ·have hm':m<its.length:=by simpa using hm
  obtain ⟨i,t',e1,e2⟩:=isI m its[m] (List.getElem?_eq_getElem hm')
  simp only [List.getElem_toArray,e2]
  apply beq_eq_false_iff_ne.mpr
  intro q
  have q':i=k:=gW q
  subst q'
  have a1:=List.getElem?_eq_some_iff.mp e1
  have a2:=List.getElem?_eq_some_iff.mp hj
  have:=jk nd a1.1 a2.1 (by rw [a1.2,a2.2])
  trivial
 ·exact ⟨.int (j:Int),H,I.tok _,⟨()⟩,q⟩
theorem AD:∀{ks:List Int}{its:List Value},aA (ks.map V.int) its→∃ps:List (Int×Tok),its=ps.map (fun p=>Value.int p.1 p.2)∧ks=ps.map (·.1)
 | [],_,.nil=>⟨[],rfl,rfl⟩
 | k :: ks,u :: us,.cons r t=>by
  obtain ⟨tk,rfl⟩:=r
  obtain ⟨ps,e1,e2⟩:=AD t
  exact ⟨(k,tk) :: ps,by rw [e1];rfl,by rw [e2];rfl⟩
end
end L2
namespace L2
open PySem
theorem Ek {a b c:Rat} (h:a<b) (k:b≤c):a<c:=by grind
theorem x3 {a b c:Rat} (h:a≤b) (k:b<c):a<c:=by grind
theorem Dn {p q:KM.Fra} (hp:1≤p.2) (hq:1≤q.2):KM.vl p≤KM.vl q↔p.1*q.2≤q.1*p.2:=by
 have e:KM.vl q - KM.vl p=Rat.divInt (q.1*p.2 - p.1*q.2) (q.2*p.2):=by
  unfold KM.vl
  rw [Rat.divInt_sub_divInt _ _ (by trivial) (by trivial)]
 have h:=Rat.divInt_nonneg_iff_of_pos_right (a:=q.1*p.2 - p.1*q.2) (b:=q.2*p.2) (Int.mul_pos (by trivial) (by trivial))
 rw [←e] at h
 constructor
 ·intro z
  have:=h.mp (by grind)
  trivial
 ·intro z
  have:=h.mpr (by trivial)
  grind
theorem tV {p q:KM.Fra} (hp:1≤p.2) (hq:1≤q.2):KM.vl p<KM.vl q↔p.1*q.2<q.1*p.2:=by
 have:=Dn hq hp
 constructor
 ·intro z
  have n:¬KM.vl q≤KM.vl p:=Rat.not_le.mpr z
  rw [this] at n
  trivial
 ·intro z
  apply Rat.not_le.mp
  rw [this]
  trivial
theorem xC {p:KM.Fra} (h:1≤p.1) (k:1≤p.2):0<KM.vl p:=by
 have:=(tV (p:=(0,1)) (q:=p) (by decide) k).mpr (by show 0*p.2<p.1*1;trivial)
 rw [KM.vl_zero] at this
 exact this
abbrev Bc:=List Nat→KM.Fra
def eJ (ω:Bc) (b:List Nat) (v:KM.Fra):Bc:=fun l=>if l=b then v else ω l
def gI (ω:Bc) (t:aI):Bool:=decide (t.most≠(0,1)) && decide ((ω t.bg).1*(KM.lTim t.gain (ω t.en)).2<(KM.lTim t.gain (ω t.en)).1*(ω t.bg).2)
structure LS where
 ω:Bc
 on:List Nat→Option Nat
 lf:Option (List Nat)
 la:List Nat→Nat
 tm:List Nat→Nat
 ct:Nat
def qP (p i:Nat) (t:aI) (s:LS):LS:=if gI s.ω t=true then ⟨eJ s.ω t.bg (KM.lTim t.gain (s.ω t.en)),fun l=>if l=t.bg then some i else s.on l,some t.bg,fun l=>if l=t.bg then p else s.la l,fun l=>if l=t.bg then s.ct+1 else s.tm l,s.ct+1⟩ else s
def upTo (p:Nat) (ts:List aI) (s:LS):Nat→LS
 | 0=>{ s with lf:=none }
 | i+1=>match ts[i]? with
  | some t=>qP p i t (upTo p ts s i)
  | none=>upTo p ts s i
theorem pf {p i:Nat}{ts:List aI}{s:LS}{t:aI} (h:ts[i]?=some t):upTo p ts s (i+1)=qP p i t (upTo p ts s i):=by
 rw [upTo,h]
def rW (p:Nat) (ts:List aI) (s:LS):LS:=upTo p ts s ts.length
def L4:LS:=⟨fun _=>(1,1),fun _=>none,none,fun _=>0,fun _=>0,0⟩
def dL (ts:List aI):Nat→LS
 | 0=>L4
 | k+1=>rW (k+1) ts (dL ts k)
theorem ph {p i:Nat}{t:aI}{s:LS} (h:gI s.ω t=true):qP p i t s=⟨eJ s.ω t.bg (KM.lTim t.gain (s.ω t.en)),fun l=>if l=t.bg then some i else s.on l,some t.bg,fun l=>if l=t.bg then p else s.la l,fun l=>if l=t.bg then s.ct+1 else s.tm l,s.ct+1⟩:=by
 unfold qP;rw [if_pos h]
theorem rQ {p i:Nat}{t:aI}{s:LS} (h:gI s.ω t=false):qP p i t s=s:=by
 unfold qP;rw [if_neg (by rw [h];decide)]
structure wJ (ls:List (List Nat)) (t:aI):Prop where
 b:t.bg∈ls
 e:t.en∈ls
 ne:t.bg≠t.en
 g1:1≤t.gain.1
 g2:1≤t.gain.2
abbrev uW (s:LS) (l:List Nat):Rat:=KM.vl (s.ω l)
abbrev gR (t:aI):Rat:=KM.vl t.gain
structure BI (ls:List (List Nat)) (ts:List aI) (p i:Nat) (s:LS):Prop where
 pos:∀l∈ls,1≤(s.ω l).1∧1≤(s.ω l).2
 on:∀l k,s.on l=some k→∃t,ts[k]?=some t∧t.most≠(0,1)∧t.bg=l∧uW s l≤gR t*uW s t.en∧(s.tm l≤s.tm t.en→uW s l<gR t*uW s t.en)∧s.la l≤s.la t.en+1
 la1:∀l,1≤s.la l→s.on l≠none
 up:∀k t,ts[k]?=some t→t.most≠(0,1)→gR t*uW s t.en≤uW s t.bg∨(if k<i then p else p - 1)≤s.la t.en
 lap:∀l,s.la l≤p
 tmc:∀l,s.tm l≤s.ct
 lf:∀b,s.lf=some b→s.la b=p∧b∈ls
theorem zx {ls:List (List Nat)}{t:aI}{ω:Bc} (c:wJ ls t) (pos:∀l∈ls,1≤(ω l).1∧1≤(ω l).2):KM.vl (KM.lTim t.gain (ω t.en))=KM.vl t.gain*KM.vl (ω t.en)∧1≤(KM.lTim t.gain (ω t.en)).2∧1≤(KM.lTim t.gain (ω t.en)).1:=by
 obtain ⟨p1,p2⟩:=pos t.en c.e
 have g2:=c.g2
 exact ⟨KM.vl_tim (by trivial) (by trivial),(KM.low_spec _ _ (Int.mul_ne_zero (by trivial) (by trivial))).1,nX c.g1 c.g2 p1 p2⟩
theorem De {ls:List (List Nat)}{t:aI}{ω:Bc} (c:wJ ls t) (pos:∀l∈ls,1≤(ω l).1∧1≤(ω l).2):gI ω t=true↔(t.most≠(0,1)∧KM.vl (ω t.bg)<KM.vl t.gain*KM.vl (ω t.en)):=by
 obtain ⟨e1,e2,e3⟩:=zx c pos
 unfold gI
 rw [Bool.and_eq_true,decide_eq_true_iff,decide_eq_true_iff,←e1,tV (pos t.bg c.b).2 e2]
theorem BI.step {ls:List (List Nat)}{ts:List aI}{p i:Nat}{s:LS}{t:aI} (hp:1≤p) (c:wJ ls t) (et:ts[i]?=some t) (tc:∀t∈ts,wJ ls t) (h:BI ls ts p i s):BI ls ts p (i+1) (qP p i t s):=by
 have hlt:=De c h.pos
 cases q:gI s.ω t with
 | false=>
  rw [rQ q]
  refine ⟨h.pos,h.on,h.la1,fun k t' ek ho=>?_,h.lap,h.tmc,h.lf⟩
  by_cases ck:k=i
  ·subst ck
   rw [et] at ek
   cases ek
   left
   rw [q] at hlt
   have:¬(KM.vl (s.ω t.bg)<KM.vl t.gain*KM.vl (s.ω t.en)):=fun z=>by
    have:=hlt.mpr ⟨ho,z⟩
    cases this
   exact Rat.not_lt.mp this
  ·rcases h.up k t' ek ho with z | z
   ·exact .inl z
   ·right
    by_cases ck2:k<i
    ·rw [if_pos (by trivial)];rw [if_pos ck2] at z;exact z
    ·rw [if_neg (by trivial)];rw [if_neg ck2] at z;exact z
 | true=>
  rw [q] at hlt
  obtain ⟨ho,hl⟩:=hlt.mp rfl
  obtain ⟨e1,e2,e3⟩:=zx c h.pos
  rw [ph q]
  have ub:∀l,l=t.bg→uW ⟨eJ s.ω t.bg (KM.lTim t.gain (s.ω t.en)),fun l=>if l=t.bg then some i else s.on l,some t.bg,fun l=>if l=t.bg then p else s.la l,fun l=>if l=t.bg then s.ct+1 else s.tm l,s.ct+1⟩ l=gR t*uW s t.en:=fun l e=>by
   show KM.vl (eJ _ _ _ l)=_
   unfold eJ
   rw [if_pos e]
   exact e1
  have un:∀l,l≠t.bg→uW ⟨eJ s.ω t.bg (KM.lTim t.gain (s.ω t.en)),fun l=>if l=t.bg then some i else s.on l,some t.bg,fun l=>if l=t.bg then p else s.la l,fun l=>if l=t.bg then s.ct+1 else s.tm l,s.ct+1⟩ l=uW s l:=fun l e=>by
   show KM.vl (eJ _ _ _ l)=_
   unfold eJ
   rw [if_neg e]
  generalize es:(⟨eJ s.ω t.bg (KM.lTim t.gain (s.ω t.en)),fun l=>if l=t.bg then some i else s.on l,some t.bg,fun l=>if l=t.bg then p else s.la l,fun l=>if l=t.bg then s.ct+1 else s.tm l,s.ct+1⟩:LS)=s' at ub un ⊢
  have a1:s'.ω=eJ s.ω t.bg (KM.lTim t.gain (s.ω t.en)):=by rw [←es]
  have a2:∀l,s'.on l=if l=t.bg then some i else s.on l:=fun l=>by rw [←es]
  have a3:∀l,s'.la l=if l=t.bg then p else s.la l:=fun l=>by rw [←es]
  have a4:∀l,s'.tm l=if l=t.bg then s.ct+1 else s.tm l:=fun l=>by rw [←es]
  have a5:s'.ct=s.ct+1:=by rw [←es]
  have a6:s'.lf=some t.bg:=by rw [←es]
  have mono:∀l,uW s l≤uW s' l:=fun l=>by
   by_cases cl:l=t.bg
   ·rw [ub l cl,cl];exact Rat.le_of_lt hl
   ·rw [un l cl];exact Rat.le_refl
  have lamono:∀l,s.la l≤s'.la l:=fun l=>by
   rw [a3]
   by_cases cl:l=t.bg
   ·rw [if_pos cl];exact h.lap l
   ·rw [if_neg cl];exact Nat.le_refl _
  have gpos:∀{t:aI},t∈ts→0<gR t:=fun {t} ht=>xC (tc t ht).g1 (tc t ht).g2
  refine ⟨fun l hl'=>?_,fun l k hk=>?_,fun l h1=>?_,fun k t' ek ho'=>?_,fun l=>?_,fun l=>?_,fun b hb=>?_⟩
  ·rw [a1]
   unfold eJ
   by_cases cl:l=t.bg
   ·rw [if_pos cl];exact ⟨e3,e2⟩
   ·rw [if_neg cl];exact h.pos l hl'
  ·rw [a2] at hk
   by_cases cl:l=t.bg
   ·rw [if_pos cl] at hk
    cases hk
    have ne:t.en≠t.bg:=fun z=>c.ne z.symm
    refine ⟨t,et,ho,cl.symm,?_,fun z=>?_,?_⟩
    ·rw [ub l cl,un t.en ne];exact Rat.le_refl
    ·rw [a4,a4,if_pos cl,if_neg ne] at z
     have:=h.tmc t.en
     trivial
    ·rw [a3,a3,if_pos cl,if_neg ne]
     rcases h.up i t et ho with z | z
     ·exact absurd hl (Rat.not_lt.mpr z)
     ·rw [if_neg (Nat.lt_irrefl _)] at z
      trivial
   ·rw [if_neg cl] at hk
    obtain ⟨t',e',o',b',l',s',r'⟩:=h.on l k hk
    have gp:=gpos (List.mem_of_getElem? e')
    have hm:=KM.mul_le_l (mono t'.en) (Rat.le_of_lt gp)
    refine ⟨t',e',o',b',?_,fun z=>?_,?_⟩
    ·rw [un l cl];exact Rat.le_trans l' hm
    ·rw [un l cl]
     rw [a4,a4,if_neg cl] at z
     by_cases ce:t'.en=t.bg
     ·rw [ub t'.en ce]
      have:uW s t'.en<gR t*uW s t.en:=by rw [ce];exact hl
      have h2:=Rat.mul_lt_mul_of_pos_left this gp
      exact x3 l' h2
     ·rw [un t'.en ce]
      rw [if_neg ce] at z
      exact s' z
    ·rw [a3 l,if_neg cl]
     exact Nat.le_trans r' (Nat.add_le_add_right (lamono _) 1)
  ·rw [a2]
   by_cases cl:l=t.bg
   ·rw [if_pos cl];intro z;cases z
   ·rw [if_neg cl]
    rw [a3,if_neg cl] at h1
    exact h.la1 l h1
  ·by_cases ck:k=i
   ·subst ck
    rw [et] at ek
    cases ek
    left
    rw [ub t.bg rfl,un t.en (fun z=>c.ne z.symm)]
    exact Rat.le_refl
   ·by_cases ce:t'.en=t.bg
    ·right
     rw [a3,if_pos ce]
     split <;> trivial
    ·rcases h.up k t' ek ho' with z | z
     ·left
      rw [un t'.en ce]
      exact Rat.le_trans z (mono _)
     ·right
      rw [a3,if_neg ce]
      by_cases ck2:k<i
      ·rw [if_pos (by trivial)];rw [if_pos ck2] at z;exact z
      ·rw [if_neg (by trivial)];rw [if_neg ck2] at z;exact z
  ·rw [a3]
   by_cases cl:l=t.bg
   ·rw [if_pos cl];exact Nat.le_refl _
   ·rw [if_neg cl];exact h.lap l
  ·rw [a4,a5]
   by_cases cl:l=t.bg
   ·rw [if_pos cl];exact Nat.le_refl _
   ·rw [if_neg cl];have:=h.tmc l;trivial
  ·rw [a6] at hb
   cases hb
   exact ⟨by rw [a3,if_pos rfl],c.b⟩
theorem BI.all {ls:List (List Nat)}{ts:List aI} (tc:∀t∈ts,wJ ls t) (p:Nat):∀i,i≤ts.length→BI ls ts p ts.length (dL ts p)→BI ls ts (p+1) i (upTo (p+1) ts (dL ts p) i)
 | 0,_,h=>⟨h.pos,h.on,h.la1,fun k t e o=>by
  rcases h.up k t e o with z | z
  ·exact .inl z
  ·right
   rw [if_pos (List.getElem?_eq_some_iff.mp e).1] at z
   rw [if_neg (by trivial)]
   exact z,fun l=>by have:=h.lap l;exact Nat.le_succ_of_le this,h.tmc,fun b hb=>by cases hb⟩
 | i+1,hi,h=>by
  have ih:=BI.all tc p i (by trivial) h
  have e:ts[i]?=some ts[i]:=List.getElem?_eq_getElem (by trivial)
  rw [pf e]
  exact ih.step (by trivial) (tc _ (List.getElem_mem _)) e tc
theorem BI.st {ls:List (List Nat)}{ts:List aI} (tc:∀t∈ts,wJ ls t):∀p,BI ls ts p ts.length (dL ts p)
 | 0=>⟨fun l _=>⟨by show (1:Int)≤1;decide,by show (1:Int)≤1;decide⟩,(fun l k h=>by cases h),(fun l h=>by exact absurd h (by show ¬1≤0;decide)),(fun k t e o=>.inr (by split <;> exact Nat.zero_le _)),fun l=>Nat.le_refl _,fun l=>Nat.le_refl _,fun b hb=>by cases hb⟩
 | p+1=>BI.all tc p _ (Nat.le_refl _) (BI.st tc p)
def dh (us:List aI):Rat:=(us.map gR).foldr (· * ·) 1
structure Ed (s:LS) (t:aI):Prop where
 g:0<gR t
 le:uW s t.bg≤gR t*uW s t.en
 lt:s.tm t.bg≤s.tm t.en→uW s t.bg<gR t*uW s t.en
theorem FO {s:LS}{c:List Nat}:∀{us:List aI}{a:List Nat},us.map (·.bg)++[c]=a :: us.map (·.en)→(∀t∈us,Ed s t)→us≠[]→uW s a≤dh us*uW s c∧(uW s a<dh us*uW s c∨s.tm c<s.tm a)
 | [],_,_,_,h=>absurd rfl h
 | t :: r,a,e,h,_=>by
  simp only [List.map_cons,List.cons_append,List.cons.injEq] at e
  obtain ⟨rfl,e⟩:=e
  have ht:=h t (List.mem_cons_self ..)
  have hr:=fun x hx=>h x (List.mem_cons_of_mem _ hx)
  have ep:dh (t :: r)=gR t*dh r:=rfl
  rw [ep]
  have g0:=Rat.le_of_lt ht.g
  cases r with
  | nil=>
   simp only [List.map_nil,List.nil_append,List.cons.injEq,and_true] at e
   subst e
   have e1:dh []=1:=rfl
   rw [e1,Rat.mul_one]
   refine ⟨ht.le,?_⟩
   by_cases z:s.tm t.bg≤s.tm t.en
   ·exact .inl (ht.lt z)
   ·exact .inr (by trivial)
  | cons t2 r2=>
   obtain ⟨h1,h2⟩:=FO e hr (by simp)
   have m1:=KM.mul_le_l h1 g0
   have ea:gR t*(dh (t2 :: r2)*uW s c)=gR t*dh (t2 :: r2)*uW s c:=(Rat.mul_assoc _ _ _).symm
   rw [ea] at m1
   refine ⟨Rat.le_trans ht.le m1,?_⟩
   by_cases z:s.tm t.bg≤s.tm t.en
   ·exact .inl (Ek (ht.lt z) m1)
   ·rcases h2 with h2 | h2
    ·have m2:=Rat.mul_lt_mul_of_pos_left h2 ht.g
     rw [ea] at m2
     exact .inl (x3 ht.le m2)
    ·exact .inr (by trivial)
structure Cb (ts:List aI) (R:List Nat) (us:List aI):Prop where
 at':R.map (fun k=>ts[k]?)=us.map some
 op:∀t∈us,t.most≠(0,1)
 two:2≤R.length
 nd:(us.map (·.bg)).Nodup
 rot:us.map (·.en)=(us.map (·.bg)).drop 1++(us.map (·.bg)).take 1
 gain:1<dh us
theorem HM {ls:List (List Nat)}{ts:List aI}{s:LS}{ks:List Nat}{us:List aI}{l0 c:List Nat}{j:Nat} (tc:∀t∈ts,wJ ls t) (pos:∀l∈ls,1≤(s.ω l).1∧1≤(s.ω l).2)
 (h1:ks.map (fun k=>ts[k]?)=us.map some) (ho:∀t∈us,t.most≠(0,1)) (he:∀t∈us,Ed s t) (nd:(us.map (·.bg)).Nodup) (ch:us.map (·.bg)++[c]=l0 :: us.map (·.en)) (hj:(us.map (·.bg))[j]?=some c):Cb ts (ks.drop j) (us.drop j):=by
 have lj:j<us.length:=by have:=(List.getElem?_eq_some_iff.mp hj).1;rwa [List.length_map] at this
 have lk:ks.length=us.length:=by have:=congrArg List.length h1;simpa using this
 have memT:∀t∈us,t∈ts:=fun t ht=>by
  have:some t∈ks.map (fun k=>ts[k]?):=by rw [h1];exact List.mem_map_of_mem ht
  obtain ⟨k,_,hk⟩:=List.mem_map.mp this
  exact List.mem_of_getElem? hk
 have sub:∀t∈us.drop j,t∈us:=fun t ht=>List.mem_of_mem_drop ht
 have ch2:(us.drop j).map (·.bg)++[c]=c :: (us.drop j).map (·.en):=by
  have e:=congrArg (List.drop j) ch
  rw [List.drop_append_of_le_length (by rw [List.length_map];trivial)] at e
  rw [List.map_drop,e]
  cases j with
  | zero=>
   cases us with
   | nil=>simp at lj
   | cons t r=>
    simp at hj ch
    simp [←ch.1,hj]
  | succ m=>
   rw [List.drop_succ_cons,List.map_drop]
   have hm:m<(us.map (·.en)).length:=by rw [List.length_map];trivial
   rw [List.drop_eq_getElem_cons hm]
   have:(us.map (·.en))[m]?=some c:=by
    have e2:=congrArg (fun z=>z[m+1]?) ch
    simp only [List.getElem?_cons_succ] at e2
    rw [←e2,List.getElem?_append_left (by rw [List.length_map];exact lj)]
    exact hj
   rw [(List.getElem?_eq_some_iff.mp this).2]
 obtain ⟨t0,r0,e0⟩:aZ fun t r=>us.drop j=t :: r:=by
  cases e:us.drop j with
  | nil=>have:=congrArg List.length e;simp at this;trivial
  | cons t r=>exact ⟨t,r,rfl⟩
 have al:=FO ch2 (fun t ht=>he t (sub t ht)) (by rw [e0];simp)
 have hc:c∈ls:=by
  obtain ⟨t,ht,rfl⟩:=List.mem_map.mp (List.mem_of_getElem? hj)
  exact (tc t (memT t ht)).b
 have up:0<uW s c:=xC (pos c hc).1 (pos c hc).2
 have gain:1<dh (us.drop j):=by
  rcases al.2 with z | z
  ·apply Rat.not_le.mp
   intro w
   have:=Rat.mul_le_mul_of_nonneg_right w (Rat.le_of_lt up)
   rw [Rat.one_mul] at this
   exact absurd z (Rat.not_lt.mpr this)
  ·trivial
 have rot:(us.drop j).map (·.en)=((us.drop j).map (·.bg)).drop 1++((us.drop j).map (·.bg)).take 1:=by
  rw [e0] at ch2 ⊢
  simp only [List.map_cons,List.cons_append,List.cons.injEq] at ch2
  simp only [List.map_cons,List.drop_succ_cons,List.drop_zero,List.take_succ_cons,List.take_zero]
  rw [←ch2.2,ch2.1]
 refine ⟨by rw [List.map_drop,h1,List.map_drop],fun t ht=>ho t (sub t ht),?_,?_,rot,gain⟩
 ·rw [List.length_drop,lk]
  have:(us.drop j).length=us.length - j:=List.length_drop ..
  rw [←this]
  cases r0 with
  | nil=>
   rw [e0] at rot
   simp at rot
   exact absurd rot.symm (tc t0 (memT t0 (sub t0 (by rw [e0];simp)))).ne
  | cons t1 r1=>rw [e0];simp
 ·rw [List.map_drop]
  exact List.Sublist.nodup (List.drop_sublist _ _) nd
end L2
namespace L2
open PySem PySem.Spec PyProof.Rows
section
variable {prog:Program}{w:World}{A:Around}{E:Value→Shared→Prop}{hp:Heap}{gs:Array GenState}{dr:Drawn}{tk:Nat}{os:OsState}
variable {nm qn:Str}{C N:Addr}{bs bm bB:List Value}{hd:Bool}{sn:List Str}{sb:List Value}{ab:Bool}{cl:Option Bool}{dd:Option Addr}{k0 k1 k2 k3 k5:Option Value}{B nw ni:String}
end
end L2
namespace L2
open PySem PySem.Spec PyProof.Rows PySem.W
section
variable {prog:Program}{w:World}{A:Around}{E:Value→Shared→Prop}{s:Shared}{K:Frag}{x C:Addr}{ox:Obj}{od:Option Obj}{name:Str}{fill expr:Bool}
end
end L2
namespace L2
open PySem PySem.Spec PyProof.Rows PySem.W PySem.Builtin.ObjectAttr
section
variable {prog:Program}{w:World}{A:Around}{E:Value→Shared→Prop}{s:Shared}{K:Frag}{x C:Addr}{ox:Obj}{name:Str}{v:Value}
end
section
variable {prog:Program}{w:World}{A:Around}{E:Value→Shared→Prop}{s:Shared}{K:Frag}{x C:Addr}{ox:Obj}{od:Option Obj}{a0:Value}
end
end L2
namespace L2
open PySem PySem.Spec PyProof.Rows
section
variable {X:Cx}{pins:List (Addr×Obj)}{σ:St}{H:Hp}{s:Shared}{h':Heap}
end
section
variable {X:Cx}{C f:Addr}{x:Str}{p pos:Pos}{e:Expr}{es:List Expr}{t:TA}{k:Nat}{fd:FuncData}{ps:List Str}{sp:Sp}{E:XK}
end
section
variable {X:Cx}
end
section
variable {M:Model}{A:Around}{E:Value→Shared→Prop}{s:Shared}{base:Heap}{env:Env}{outer:List Env}{L a T:Addr}{C head:Value}{dx:Option Addr}{vs:Array Value}{sl:Array (Option Value)}{hn:Bool}{Q:Unit→Shared→Prop}
end
section
variable {X:Cx}{pins:List (Addr×Obj)}{σ:St}{H:Hp}{s:Shared}{h':Heap}{a T C:Addr}{dx:Option Addr}{φ:Heap→Prop}{ch:List Addr}{fl:Value}
end
section
variable {P:Program}{w:World}{K:PySem.W.Frag}{mg:Str→Option Value}{base:Heap}{N:List Str}{qual:Str}{scope:Scope}{f:Addr}{cd:Value}{A:Around}{outer:List Env}{s:Shared}{H:Hp}{E:XK}
end
section
variable {M:Model}{A:Around}{E:Value→Shared→Prop}{s:Shared}{env:Env}
end
section
variable {X:Cx}{e:Expr}{te:TE}{pos:Pos}{E:XK}
end
section
variable {X:Cx}{pins:List (Addr×Obj)}{σ σ':St}{H:Hp}{s:Shared}{h':Heap}
end
section
variable {X:Cx}{CX:oh}{k:Nat}{f:Addr}{fd:FuncData}{ps:List Str}{sp:Sp}{EE:St→XK}{x:Str}{p pos:Pos}{e:Expr}{es:List Expr}{t:TA}
end
section
variable {X:Cx}{pins pins' pn:List (Addr×Obj)}{σ:St}{H:Hp}{s:Shared}{xe:Value→Shared→Prop}
end
section
variable {X:Cx}{body suite:List Stmt}{b0:Stmt}{x n:Str}{hpos pos np:Pos}{tb:(St→XK)→TS}{th:TS}{Cc:Addr}{i:Nat}
end
section
variable {X:Cx}{C:Addr}{e:Expr}{pos:Pos}
end
section
variable {X:Cx}
end
theorem tj (a b:List aI):dh (a++b)=dh a*dh b:=by
 induction a with
 | nil=>show dh b=1*dh b;rw [Rat.one_mul]
 | cons t r ih=>show gR t*dh (r++b)=gR t*dh r*dh b;rw [ih,Rat.mul_assoc]
section
variable {X:Cx}
def I0 (tk tv:TE):TE:=fun σ H Q=>∀p H0,Nw H p (.dK []) H0→tk σ H0 fun x H1=>∃k,x=dA k∧tv σ H1 fun y H2=>H2 p=some (.dK [])∧∀H3,AL H2 p (.dK [(k,y)]) H3→Q (.ref p) H3
theorem EH {k v:Expr}{tk tv:TE}{pos:Pos} (hk:PE X k tk) (hv:PE X v tv):PE X (.Dict [some k] [v] pos) (I0 tk tv):=by
 intro pins s σ H Q I h
 have big:(s.heap.objs.size==sysModules)=false:=by
  have e:mainGlobals<s.heap.objs.size:=(I.mod.glob.keeps I.bk).lt
  exact beq_eq_false_iff_ne.mpr (Ne.symm (Nat.ne_of_lt (Nat.lt_trans (by decide) e)))
 have I1:=I.laid (a:=s.heap.objs.size) (o:=.dK []) (h':=s.heap.push { cls:=.type "dict",data:=.dict #[] }) (t':=s.toks) (fun _ _ e=>Heap.get?_push_of_some _ e) (Nat.le_refl _) (show bD X.prog X.w _ _ _ (.dK []) from ⟨Nat.zero_le _,big,[],.nil,Heap.DictOf.new s.heap⟩)
 refine wpAny_Dict_walk (knd:=aG X.prog X.w) rfl rfl (by simp) (by show 1≤15;decide) (pairTrees_cons_walk (aO (hk pins _ σ _ _ I1 (h _ _ (.mk' I.fresh))) fun u s1 ⟨x,H1,I2,rx,kk,ex,q1⟩=>aO (hv pins s1 σ H1 _ I2 q1) fun w2 s2 ⟨y,H2,I3,ry,e,q2⟩=>pairTrees_nil_walk ?_))
 subst ex
 obtain ⟨hz,hm,vs,rel,dd⟩:=(show bD X.prog X.w H2 s2.heap _ (.dK []) from I3.hok _ _ e)
 cases rel
 refine ⟨[(kk,w2)],⟨j9 rx,rfl,True.intro⟩,dd,fun h' dd' hs=>⟨.ref s.heap.objs.size,_,?_,rfl,q2 _ .mk'⟩⟩
 exact I3.dset e hm (by show 1≤_;rw [sizeLine_eq];decide) (.cons ⟨rfl,ry⟩ .nil) dd' hs
end
def qB:Nat→List Obj→PySem.W.Frag
 | _,[]=>[]
 | n,o :: r=>match o.data with
  | .freed=>qB (n+1) r
  | _=>(n,o) :: qB (n+1) r
def fragOf (h:Heap):PySem.W.Frag:=qB 0 h.objs.toList
theorem yg:∀(l:List Obj) (n a:Nat) (o:Obj),List.lookup a (qB n l)=some o→∃k,a=n+k∧l[k]?=some o∧o.data≠.freed
 | [],n,a,o,e=>nomatch e
 | p :: r,n,a,o,e=>by
  have step:List.lookup a (qB (n+1) r)=some o→∃k,a=n+k∧(p :: r)[k]?=some o∧o.data≠.freed:=fun e=>by
   obtain ⟨k,e1,e2,e3⟩:=yg r (n+1) a o e
   exact ⟨k+1,by trivial,by simpa using e2,e3⟩
  unfold qB at e
  split at e
  ·exact step e
  ·rename_i hf
   by_cases q:a=n
   ·subst q
    simp only [List.lookup_cons,beq_self_eq_true] at e
    cases e
    exact ⟨0,rfl,rfl,hf⟩
   ·have q':(a==n)=false:=by simpa using q
    simp only [List.lookup_cons,q'] at e
    exact step e
theorem Dg (h:Heap):PySem.W.Frag.In (fragOf h) h:=fun a o e=>by
 obtain ⟨k,e1,e2,e3⟩:=yg _ 0 a o e
 have e1':a=k:=e1.trans (Nat.zero_add k)
 subst e1'
 unfold Heap.get?
 have:h.objs[a]?=some o:=by simpa using e2
 rw [this]
 cases o with
 | mk c d x s=>
  cases x <;> first | rfl | exact absurd rfl e3
def uw:Option (Option Value)→Addr
 | some (some (.ref a))=>a
 | _=>0
def Fv:Option (Option Value)→Bool
 | some (some (.ref _))=>true
 | _=>false
def EQ:Option (Option Value)→Bool
 | some none=>true
 | _=>false
theorem He {v:Option (Option Value)} (e:Fv v=true):v=some (some (.ref (uw v))):=by
 unfold Fv at e;split at e
 ·rfl
 ·cases e
theorem cw {v:Option (Option Value)} (e:EQ v=true):v=some none:=by
 unfold EQ at e;split at e
 ·rfl
 ·cases e
def AS (K:PySem.W.Frag) (v:Option (Option Value)):Obj:=(List.lookup (uw v) K).getD ⟨.none,none,.plain,#[]⟩
def LY:FuncData:=PySem.W.fnOf (PySem.Str.mk #[]) (PySem.Str.mk #[]) ⟨[],[],none,[],[],none,[]⟩ [] ⟨.function,[],false,false,[]⟩ .none .none .none .none none .none .none
def jE (K:PySem.W.Frag) (v:Option (Option Value)):FuncData:=match (AS K v).data with
 | .func fd=>fd
 | _=>LY
def bare (fd:FuncData):FuncData:={ fd with kwdefaults:=.none,doc:=.none,pyModule:=.none,annotations:=none,code:=.none,closureTuple:=.none }
def tN (K:PySem.W.Frag) (v:Option (Option Value)) (q:Str):Option FuncData:=
 match Fv v && PySem.W.codeIn K (jE K v).code q && PySem.W.keepIn K (.ref (uw v)) with
 | false=>none
 | true=>match List.lookup (uw v) K with
  | some ⟨_,_,.func fd,_⟩=>some (bare fd)
  | _=>none
theorem yf {K:PySem.W.Frag}{v:Option (Option Value)}{q:Str}{x:FuncData} (e:tN K v q=some x) :
 v=some (some (.ref (uw v)))∧PySem.W.codeIn K (jE K v).code q=true∧PySem.W.keepIn K (.ref (uw v))=true∧
  List.lookup (uw v) K=some ⟨(AS K v).cls,(AS K v).dict,.func (jE K v),(AS K v).slots⟩∧bare (jE K v)=x:=by
 unfold tN at e
 cases h:(Fv v && PySem.W.codeIn K (jE K v).code q && PySem.W.keepIn K (.ref (uw v))) with
 | false=>rw [h] at e;cases e
 | true=>
  rw [h] at e
  simp only [Bool.and_eq_true] at h
  refine ⟨He h.1.1,h.1.2,h.2,?_⟩
  cases hl:List.lookup (uw v) K with
  | none=>rw [hl] at e;cases e
  | some o=>
   rw [hl] at e
   obtain ⟨c,d,x',s⟩:=o
   have eo:AS K v=⟨c,d,x',s⟩:=by unfold AS;rw [hl];rfl
   cases x' <;> first | cases e | skip
   rename_i fd
   have ef:jE K v=fd:=by unfold jE;rw [eo]
   rw [eo,ef]
   exact ⟨rfl,rfl⟩
def oG (K:PySem.W.Frag) (n:Str):Bool:=EQ (PySem.W.nsIn K mainGlobals n)
def fG (K:PySem.W.Frag) (n:Str):Option FuncData:=tN K (PySem.W.nsIn K mainGlobals n) n
def dG (n q:Str) (st:Stmt):Option FuncData:=some (PySem.W.fnOf n q (xB st) (uF st) (av st) .none .none .none .none none .none .none)
theorem au {K:PySem.W.Frag}{v:Option (Option Value)}{q n:Str}{st:Stmt} (e:tN K v q=dG n q st):Ae K n q st (uw v) (jE K v):=by
 have h:=yf e
 refine ⟨?_,h.2.2.1⟩
 obtain ⟨h1,h2,h3,h4,z⟩:=h
 refine ⟨_,_,(jE K v).kwdefaults,(jE K v).doc,(jE K v).pyModule,(jE K v).annotations,(jE K v).code,(jE K v).closureTuple,_,?_,h4,h2⟩
 clear h4 h2 h3 h1 e
 generalize jE K v=fd at z ⊢
 cases fd
 unfold bare PySem.W.fnOf at z
 cases z
 rfl
theorem aV {K:PySem.W.Frag}{v:Option (Option Value)}{q n:Str}{st:Stmt} (e:tN K v q=dG n q st):v=some (some (.ref (uw v))):=(yf e).1
theorem walk_ofY {l:PySem.W.OpenLaw}{n k:Nat}{q:Program}{loose:List Str}{XP:(Str→Option Value)→Heap→Prop}{d:DefRec}{CX:oh}{sp:PySem.W.Frag→Sp}{x:Str}{α:Type}{obs:PySem.W.Frag→α}{due:α}
 (hn:l.most=some n) (hn2:n≤sizeLine) (hdf:d.params.defaults=[]) (hr:gD k callerA)
 (F:∀(K:PySem.W.Frag) (w:World) (mg:Str→Option Value) (fa:Addr) (h:Heap),obs K=due→K.In h→h.Ns mainGlobals mg→mg d.name=some (.ref fa)→
  ∃fd:FuncData,(∀(s:Shared) (u:Value),BindsTo s fd ⟨[u],[]⟩ [(x,u)])∧
   ∀base:Heap,K.In base→base.Ns mainGlobals mg→aY l.prog w K mg base CX k fa fd [x] (sp K))
 (hsp:∀(K:PySem.W.Frag) (H:Hp) (a:Addr) (ns:List Int),ns.length≤n→xF H→ah K H a (ns.map V.int)→sp K [.ref a] H (fun v _=>v=.bl true) fun _ _ _=>False)
 (hCX:∀(H:Hp) (s:Shared) (e:Value) (s':Shared),CX [] H s (fun _ _ _=>False) e s'→False) :
 PySem.W.WalkX q loose XP (fun s=>obs (fragOf s.heap)) (fun _=>due) l.row.toRowW d [] (fun f vs=>PySem.call f vs):=by
 intro w s₀ s₁ mg mb G y a o pm cd doc dV kV ho hd hcd hD hmg hg args vals as' L hpre hlay hrd hwl hlo
 have kx:(fragOf s₀.heap).In s₁.heap:=fun b ob hb=>L.keeps b ob (Dg s₀.heap b ob hb)
 exact EN (K:=fun _=>fragOf s₀.heap) (YP:=fun w h=>(fragOf s₀.heap).In h) hn hn2 hdf hr (fun _ _ z=>z) (fun w mg fa h=>F (fragOf s₀.heap) w mg fa h y) hsp hCX w s₀ s₁ mg mb G kx a o pm cd doc dV kV ho hd hcd hD hmg hg args vals as' hpre hlay hrd hwl hlo
section
variable {X:Cx}
end
end L2
namespace L2
open PySem PySem.Spec PySem.Calls PySem.W PyProof.Rows
section
variable {prog:Program}{w:World}{A:Around}{E:Value→Shared→Prop}{s:Shared}
theorem Aw {T newId:String}{Bn:Builtin}{args:List Value}{Q:Value→Shared→Prop} (ft:TypeCalled T newId "object.__init__")
 (hne:(some newId != some "object.__new__")=true) (hct:checkTypeCall T ⟨args,[]⟩=pure ()) (hcn:checkBuiltinCall newId ⟨.type T :: args,[]⟩=pure ())
 (hok:∀obj,argsOk "object.__init__" ⟨obj :: args,[]⟩) (entryN:entryFor table newId=some Bn)
 (g:wpAny (model prog w) A.in1.in1 (Bn ⟨.type T :: args,[]⟩) (fun fin s'=>match fin with | .done f=>wants (fun obj s₁=>s₁.TypeIs obj T∧Q obj s₁) E (.ok f) s' | .again c'=>c'.quiet=true∧codeAny (model prog w) A.in1 c' (wants (fun obj s₁=>s₁.TypeIs obj T∧Q obj s₁) E) s') (fun e s'=>wants (fun obj s₁=>s₁.TypeIs obj T∧Q obj s₁) E (.error e) s') s) :
 wpAny (model prog w) A (call (.type T) args) Q E s:=by
 obtain ⟨c,tl,hmro⟩:=ft.mro
 have hmade:=ft.made
 have hsub:=ft.sub
 refine wpAny_call (codeAny_of_tree ?_)
 show wpAny _ _ (callAny (.type T) _) _ _ _
 refine wpAny_pure ⟨Code.quiet_builtin _ (by nofun),codeAny_builtin PySem.F.entry_type_call ?_⟩
 rw [Around.under_plain (weight_type_call_type T args []) (units_type_call_type T args [])]
 have h1:=ft.notType
 have h2:=ft.canCreate
 repeat (any_goals (first | assumption | wp_step))
 refine codeAny_mono (codeAny_call_builtin ft.plain entryN (wpAny_of_eq hcn g)) fun r s₁ hr=>?_
 cases r with
 | error e=>exact hr
 | ok fl=>
  cases fl with
  | ret obj=>
   obtain ⟨hT,hq⟩:=hr
   have hli:=ft.init.lookup
   have hbi:=ft.init.bind obj
   repeat (any_goals (first | assumption | wp_step))
   refine codeAny_mono (codeAny_call_builtin ft.init.plain PySem.F.entry_object_init (ft.init.check _ _ _ _ _ _ _ _ hT (hok obj) (object_init_meets ft.init.lookup ft.made hne prog w A.in1 (wants (fun r s₂=>r=.none∧Q obj s₂) E) s₁ ⟨hT,rfl,hq⟩))) fun r₂ s₂ hr₂=>?_
   cases r₂ with
   | error e=>exact hr₂
   | ok fl₂=>
    cases fl₂ with
    | ret r=>
     obtain ⟨rfl,hq⟩:=hr₂
     repeat (any_goals (first | assumption | wp_step))
    | _=>exact hr₂.elim
  | _=>exact hr.elim
theorem xf {d:Addr}{kvs:List (ay×Value)}{ep:Nat}{Q:Value→Shared→Prop} (hh:A.handled=none) (hm:s.heap.DictAt (aG prog w) d kvs ep) (lo:(d==sysModules)=false) (hn:kvs.length≤sizeLine)
 (h:∀(h':Heap) (tk:Nat) (vs:List Value),(∀b o,s.heap.get? b=some o→h'.get? b=some o)→vs.length=kvs.length→(∀(i:Nat) (v:Value),vs[i]?=some v→∃k,∃x,kvs[i]?=some (k,x)∧(aG prog w).is k v=true)→
  Q (.ref h'.objs.size) { s with heap:=h'.push { cls:=.type "tuple",data:=.seq vs.toArray },toks:=tk }) :
 wpAny (model prog w) A (call (.type "tuple") [.ref d]) Q E s:=by
 refine Aw PySem.F.called_tuple (by decide) (PySem.F.typeCall_tuple_1 _) (PySem.F.newCall_tuple_1 _) (fun obj=>PySem.F.args_object_init_2 obj _) PySem.F.entry_tuple_new ?_
 refine wpAny_mono (Q:=fun fin s'=>∃v,fin=Fin.done (.ret v)∧wants (fun obj s₁=>s₁.TypeIs obj "tuple"∧Q obj s₁) E (.ok (.ret v)) s') ?_ (fun fin s' h'=>by obtain ⟨v,rfl,hv⟩:=h';exact hv) fun _ _ x=>x
 obtain ⟨hp,gg,dd,tk,os⟩:=s
 have hsub:=sub_tuple_self
 have hinit:=init_tuple_lookup
 have hmh:=madeHere_tuple
 have hT:Shared.TypeIs ⟨hp,gg,dd,tk,os⟩ (.ref d) "dict" := hm.dictOf.typeIs
 have hh2:A.in1.in1.handled=none:=by simpa using hh
 wp_walk using wpAny_typeOf hT,kdu_collect (kdl_dict (knd:=aG prog w) lo) hh2 hm hn
 intro h' t' acc hk hacc
 show wpAny _ _ (Builtin.Tuple.tupleExact acc.toList.toArray >>= fun v=>ret v) _ _ _
 unfold Builtin.Tuple.tupleExact
 have hl:acc.toList.length=kvs.length:=by rw [Array.length_toList];exact hacc.1
 refine wpAny_bind (wpAny_newObj_type ?_ (by show acc.toList.toArray.size≤sizeLine;rw [List.size_toArray,hl];exact hn))
 refine wpAny_pure ⟨(),⟨_,Heap.get?_push_size _ rfl,rfl⟩,?_⟩
 exact h h' t' acc.toList hk hl fun i v e=>hacc.2 i v (by rw [←Array.getElem?_toList];exact e)
end
section
variable {X:Cx}
inductive HX (xs:List V) (H:Hp) (Q:VK):Prop
 | mk (d:Addr) (kvs:List (ay×V)) (h0:xs=[.ref d]) (h1:H d=some (.dK kvs)) (h2:∀l H',Nw H l (.tup (kvs.map fun q=>dA q.1)) H'→Q (.ref l) H')
def Kj:List V→Hp→VK→Prop:=fun xs H Q=>HX  xs H Q
theorem Bj {k:ay}{v:Value} (h:bG k v=true):aP (dA k) v:=by
 rcases cg h with ⟨i,t,rfl,rfl⟩ | ⟨x,t,rfl,rfl⟩
 ·exact ⟨t,rfl⟩
 ·exact ⟨t,rfl⟩
theorem G9 {xs:List V}:∀{us:List Value},us.length=xs.length→(∀(i:Nat) (u:Value),us[i]?=some u→∃x,xs[i]?=some x∧aP x u)→aA xs us:=by
 induction xs with
 | nil=>intro us h _;cases us with | nil=>exact .nil | cons _ _=>simp at h
 | cons x r ih=>
  intro us h g
  cases us with
  | nil=>simp at h
  | cons u q=>
   obtain ⟨y,e,ry⟩:=g 0 u rfl
   cases (Option.some.inj e:x=y)
   exact .cons ry (ih (by simpa using h) fun i u hu=>by simpa using g (i+1) u (by simpa using hu))
theorem yJ {α β:Type}{F:α→β→Prop}:∀{l₁:List α}{l₂:List β},Paired F l₁ l₂→∀(i:Nat) (b:β),l₂[i]?=some b→∃a,l₁[i]?=some a∧F a b
 | _,_,.nil,i,b,e=>by simp at e
 | _,_,.cons h r,0,b,e=>by cases (Option.some.inj e);exact ⟨_,rfl,h⟩
 | _,_,.cons h r,i+1,b,e=>by simpa using yJ r i b (by simpa using e)
theorem C5 (hc:X.calm=true):dj X (.type "tuple") Kj:=by
 intro pins s σ H xs us Q I r h
 obtain ⟨d,kvs,rfl,hd,q⟩:=h
 obtain ⟨u,rfl,ru⟩:=r.one
 obtain rfl:u=.ref d:=ru
 obtain ⟨hz,hm,vs,rel,dd⟩:=(show bD X.prog X.w H s.heap d (.dK kvs) from I.hok d _ hd)
 obtain ⟨ep,hat⟩:=dd.dictAt
 have hl:kvs.length=vs.length:=rel.length
 refine xf (I.ok.hd hc) hat hm (by trivial) fun h' tk us hk l2 hu=>?_
 have rv:aA (kvs.map fun q=>dA q.1) us:=G9 (by rw [List.length_map,l2,hl]) fun i u e=>by
  obtain ⟨k,x,e1,e2⟩:=hu i u e
  obtain ⟨p,hp,hp1,hp2⟩:=yJ rel i _ e1
  exact ⟨dA p.1,by rw [List.getElem?_map,hp];rfl,by rw [hp1];exact Bj e2⟩
 have I1:af X pins σ H { s with heap:=h',toks:=tk }:=I.kept (t':=tk) hk
 have I2:af X pins σ (aN H h'.objs.size (.tup (kvs.map fun q=>dA q.1))) { s with heap:=h'.push { cls:=.type "tuple",data:=.seq us.toArray },toks:=tk }:=
  I1.laid (t':=tk) (fun b o e=>Heap.get?_push_of_some _ e) (Nat.le_refl _) (show bD X.prog X.w _ _ _ (.tup _) from ⟨by rw [List.length_map];exact hz,us,rv,IsTup.new _ _,_,Heap.get?_push_size _ rfl,rfl⟩)
 exact ⟨.ref h'.objs.size,_,I2,rfl,q _ _ (.mk' (I1.hok.fresh (Nat.le_refl _)))⟩
end
section
open PySem.Builtin.Str (occurrences partsBetween)
variable {prog:Program}{w:World}{A:Around}{E:Value→Shared→Prop}{s:Shared}
end
section
variable {X:Cx}
end
end L2
namespace L2
open PySem PySem.Spec PyProof.Rows
section
variable {X:Cx}
inductive Gk (x:V) (y:V) (H:Hp) (Q:VK):Prop
 | mk (a c:Addr) (xs:List V) (h0:x=.ref a) (h1:y=.ref c) (h2:H a=some (.lst xs)) (h3:H c=some (.lst [])) (h4:Q (.bl xs.isEmpty) H)
def Jm:R2:=fun x y H Q=>Gk  x y H Q
theorem E8 (hu:X.A.units+64<cLine):cN X (compareOp .Eq) Jm:=by
 intro pins s σ H x y v u Q I rx ry h
 obtain ⟨a,c,xs,rfl,rfl,ha,hc,q⟩:=h
 cases rx
 cases ry
 obtain ⟨z,its,n,r,hl,e⟩:=I.lstM ha
 obtain ⟨z2,its2,n2,r2,hl2,e2⟩:=I.lstM hc
 have h0:its2=[]:=List.eq_nil_of_length_eq_zero hl2.symm
 subst h0
 have l1:s.heap.IsList a its.toArray:=⟨_,e,rfl,()⟩
 have l2:s.heap.IsList c (#[]:Array Value):=⟨_,e2,rfl,()⟩
 have hu':X.A.units<cLine:=by trivial
 cases xs with
 | nil=>
  have:its=[]:=List.eq_nil_of_length_eq_zero hl.symm
  subst this
  refine (PySem.SeqAt.RcAt.lists (e:=fun _=>true) l1 l2 rfl hu' (fun j j1 j2=>absurd j1 (by simp))) X.prog X.w X.xe _ ?_
  exact ⟨.bl _,H,I,rfl,q⟩
 | cons y ys=>
  refine (PySem.SeqAt.RcAt.lists_lengths l1 l2 (by simp at hl ⊢;exact fun z=>by rw [z] at hl;simp at hl) hu') X.prog X.w X.xe _ ?_
  exact ⟨.bl _,H,I,rfl,q⟩
end
section
variable {H H':Hp}{d p t q z:Addr}{v:V}{es:List Ent}{past:List RSt}{cur:RSt}{F:List Addr}
theorem AL.tp {o:HO} (c:AL H d o H') (h:∃kv,H d=some (.dK kv)):LV H H':=fun a us e=>c.ol a _ (fun z=>by obtain ⟨kv,h⟩:=h;rw [z,h] at e;cases e) e
end
theorem E5 {k:ay}{v:V}{r:List (ay×V)}:valD ((k,v) :: r) k=some v:=by simp [valD]
section
variable {p t q z p' t' q':Addr}{v v':V}
end
section
variable {C:Addr}{H H' H0 H1 H2:Hp}{r L d b:Addr}{F F' F0 F1 F2:List Addr}{past:List RSt}{cur:RSt}{N M:Nat}{E:Addr→Prop}
end
section
variable {X:Cx}{body suite:List Stmt}{b0:Stmt}{x:Str}{hpos pos np:Pos}{tb:(St→XK)→TS}{th:TS}{Cc:Addr}
end
section
variable {X:Cx}{CX:oh}{k:Nat}{f C:Addr}{fd:FuncData}{ps:List Str}{sp:Sp}{EE:St→XK}{m:Str}{pos apos:Pos}{e o:Expr}{es:List Expr}{ta:TE}{t:TA}
end
section
variable {C:Addr}{H H' H0:Hp}{P E:Addr→Prop}{xs:List PairAt}{N M:Nat}{x y:PairAt}{i:Nat}
end
section
variable {C:Addr}{H2 H H':Hp}{b s o nl:Addr}{ls:List (List Nat)}{xs:List PairAt}{N M:Nat}{t t':Int}{x y:PairAt}{i:Nat}
end
end L2
namespace L2
open PySem PySem.Spec PyProof.Rows PySem.NumText
end L2
namespace L2
open PySem PySem.Spec PyProof.Rows
section
variable {X:Cx}
end
end L2
namespace L2
open PySem PySem.Spec PyProof.Rows PySem.NumText
section
variable {X:Cx}
end
section
variable {X:Cx}
end
end L2
namespace L2
open PySem PySem.Spec PyProof.Rows PySem.NumText
section
variable {X:Cx}
end
end L2
namespace KM
variable {ls:List (List Nat)}{es done:List Edge}{W u u':List Nat→Rat}{S:List (List Nat)}{q:List Nat}{m:Rat}
end KM
namespace L2
open PySem PySem.Spec PyProof.Rows
section
variable {X:Cx}
end
section
variable {X:Cx}
end
section
variable {X:Cx}
end
end L2
namespace L2
open PySem PyProof.Rows
section
variable {prog:Program}{w:World}{A:Around}{R:Result→Shared→Prop}{s:Shared}
end
section
variable {X:Cx}{elt tg iter tg2 iter2:Expr}{ifs ifs2:List Expr}{scope:Scope}{pos:Pos}{N':List Str}{L:Nat}{src:List Nat}{wi wi2:TI}{g g2:TG}{tt tt2:TT}{te:TE}
end
end L2
namespace L2
open PySem PySem.Spec PyProof.Rows
section
variable {X:Cx}
end
section
variable {prog:Program}{w:World}{A:Around}{E:Value→Shared→Prop}{R:Result→Shared→Prop}
variable {l it d:Nat}{vs:Array Value}{xs0 ps:List (List ay×Addr×Value)}
end
section
variable {X:Cx}
end
section
variable {prog:Program}{w:World}{A:Around}{E:Value→Shared→Prop}{s:Shared}
end
section
variable {X:Cx}
end
end L2
namespace L2
open PySem PyProof.Rows
section
variable {X:Cx}
end
end L2
namespace L2
open PySem PySem.Spec PyProof.Rows
section
variable {z:Nat}{E:Addr→Prop}{H H':Hp}{n m k:Nat}{v:V}{xs ys:List V}
end
section
variable {z:Nat}{E:Addr→Prop}{H H':Hp}{n m k:Nat}{v:V}{xs ys:List V}
end
end L2
namespace KM
end KM
namespace KM
end KM
namespace L2
open PySem PySem.Spec PyProof.Rows
def Up (xs:Array Nat):Prop:=xs.toList.Pairwise (· < ·)
theorem uO {xs:Array Nat} (h:Up xs) {i k:Nat} (hi:i<k) (hk:k<xs.size):xs.getD i 0<xs.getD k 0:=by
 have:=List.pairwise_iff_getElem.mp h i k (by simpa using Nat.lt_trans hi hk) (by simpa using hk) hi
 simpa [Array.getD,hk,Nat.lt_trans hi hk] using this
def FB (xs:Array Nat) (j r:Nat):Prop:=r≤xs.size∧(∀i,i<r→xs.getD i 0<j)∧∀i,r≤i→i<xs.size→j≤xs.getD i 0
theorem Fa {xs:Array Nat}{i a b:Nat} (h:i<xs.size):xs.getD i a=xs.getD i b:=by simp [Array.getD,h]
theorem Eu {xs:Array Nat} (u:Up xs) (j:Nat):∀(f lo hi:Nat),hi≤xs.size→lo≤hi→hi - lo≤f→(∀i,i<lo→xs.getD i 0<j)→(∀i,hi≤i→i<xs.size→j≤xs.getD i 0)→FB xs j (SetTable.below.go xs j f lo hi):=by
 intro f
 induction f with
 | zero=>
  intro lo hi h1 h2 h3 h4 h5
  have:lo=hi:=by trivial
  subst this
  exact ⟨h1,h4,h5⟩
 | succ f ih=>
  intro lo hi h1 h2 h3 h4 h5
  unfold SetTable.below.go
  by_cases c:lo<hi
  ·rw [if_pos c]
   dsimp only
   have m1:(lo+hi) / 2<hi:=by trivial
   have m2:lo≤(lo+hi) / 2:=by trivial
   have ms:(lo+hi) / 2<xs.size:=by trivial
   rw [Fa (b:=0) ms]
   by_cases q:xs.getD ((lo+hi) / 2) 0<j
   ·rw [if_pos q]
    refine ih _ _ h1 (by trivial) (by trivial) (fun i hi'=>?_) h5
    by_cases e:i=(lo+hi) / 2
    ·rw [e];exact q
    ·exact Nat.lt_trans (uO u (show i<(lo+hi) / 2 by trivial) ms) q
   ·rw [if_neg q]
    refine ih _ _ (by trivial) m2 (by trivial) h4 fun i hi' hs=>?_
    by_cases e:i=(lo+hi) / 2
    ·rw [e];trivial
    ·have:=uO u (show (lo+hi) / 2<i by trivial) hs
     trivial
  ·rw [if_neg c]
   have:lo=hi:=by trivial
   subst this
   exact ⟨h1,h4,h5⟩
theorem o7 {xs:Array Nat} (u:Up xs) (j:Nat):FB xs j (SetTable.below xs j):=
 Eu u j _ _ _ (Nat.le_refl _) (Nat.zero_le _) (by trivial) (fun i h=>absurd h (Nat.not_lt_zero _)) fun i h1 h2=>absurd h2 (by trivial)
theorem xE {xs:Array Nat}{j r q:Nat} (a:FB xs j r) (b:FB xs j q):r=q:=by
 rcases Nat.lt_trichotomy r q with h | h | h
 ·have h1:=b.2.1 r h
  have h2:=a.2.2 r (Nat.le_refl _) (by have:=b.1;trivial)
  trivial
 ·exact h
 ·have h1:=a.2.1 q h
  have h2:=b.2.2 q (Nat.le_refl _) (by have:=a.1;trivial)
  trivial
theorem wA {xs:Array Nat} (u:Up xs):SetTable.below xs 0=0:=xE (o7 u 0) ⟨Nat.zero_le _,fun i h=>absurd h (Nat.not_lt_zero _),fun i _ _=>Nat.zero_le _⟩
theorem wY {xs:Array Nat} (u:Up xs) {i:Nat} (hi:i<xs.size):SetTable.below xs (xs.getD i 0+1)=i+1:=by
 refine xE (o7 u _) ⟨hi,fun k hk=>?_,fun k hk hs=>?_⟩
 ·by_cases e:k=i
  ·rw [e];trivial
  ·have:=uO u (show k<i by trivial) hi
   trivial
 ·have:=uO u (show i<k by trivial) hs
  trivial
theorem Cy {xs:Array Nat} (u:Up xs) {j:Nat} (no:∀i,i<xs.size→xs.getD i 0≠j):Up (SetTable.insertAt xs (SetTable.below xs j) j):=by
 obtain ⟨h1,h2,h3⟩:=o7 u j
 generalize SetTable.below xs j=r at h1 h2 h3
 unfold Up
 rw [SetTable.toList_insertAt]
 have gd:∀(i:Nat) x,xs.toList[i]?=some x→i<xs.size∧xs.getD i 0=x:=fun i x e=>by
  obtain ⟨q1,q2⟩:=List.getElem?_eq_some_iff.mp e
  have q1':i<xs.size:=by simpa using q1
  exact ⟨q1',by simpa [Array.getD,q1'] using q2⟩
 have up:xs.toList.Pairwise (· < ·):=u
 have e0:xs.toList=xs.toList.take r++xs.toList.drop r:=(List.take_append_drop r _).symm
 rw [e0,List.pairwise_append] at up
 refine List.pairwise_append.mpr ⟨up.1,List.pairwise_cons.mpr ⟨fun y hy=>?_,up.2.1⟩,fun x hx y hy=>?_⟩
 ·obtain ⟨i,hi⟩:=List.getElem?_of_mem hy
  rw [List.getElem?_drop] at hi
  obtain ⟨q1,q2⟩:=gd _ _ hi
  have:=h3 (r+i) (by trivial) q1
  have:=no (r+i) q1
  trivial
 ·have hxj:x<j:=by
   obtain ⟨i,hi⟩:=List.getElem?_of_mem hx
   rw [List.getElem?_take] at hi
   split at hi
   ·obtain ⟨q1,q2⟩:=gd _ _ hi
    have:=h2 i (by assumption)
    trivial
   ·cases hi
  rcases List.mem_cons.mp hy with e | hy
  ·rw [e];exact hxj
  ·exact up.2.2 x hx y hy
theorem E4 (n:Nat):Up (Array.range n):=by
 unfold Up
 rw [Array.toList_range]
 exact List.pairwise_lt_range
theorem yC {t:SetTable} (u:Up t.place) {j:Nat} (h:∀i,t.slot j≠.live i):∀i,i<t.place.size→t.place.getD i 0≠j:=by
 intro i hi e
 refine h (SetTable.below t.place j) ?_
 have b:SetTable.below t.place j=i:=by
  refine xE (o7 u j) ⟨Nat.le_of_lt hi,fun k hk=>?_,fun k hk hs=>?_⟩
  ·rw [←e];exact uO u hk hi
  ·by_cases q:k=i
   ·rw [q];trivial
   ·have:=uO u (show i<k by trivial) hs
    trivial
 have e':t.place[i]=j:=by simpa [Array.getD,hi] using e
 unfold SetTable.slot
 dsimp only
 rw [b,Array.getElem?_eq_getElem hi,e']
 simp
theorem Bh {t:SetTable}{g:Nat→Int}{h:Int}:∀(f:Nat) (p:SetTable.Probe) (j:Nat) (d:Option Nat),(∀e,p.dummy=some e→∀i,t.slot e≠.live i)→SetTable.probe.go t g h f p=some (.empty j d)→(∀i,t.slot j≠.live i)∧∀e,d=some e→∀i,t.slot e≠.live i:=by
 intro f
 induction f with
 | zero=>intro p j d _ e;cases e
 | succ f ih=>
  intro p j d hp e
  unfold SetTable.probe.go at e
  have adv:∀q:SetTable.Probe,(t.advance q).dummy=q.dummy:=fun q=>by
   unfold SetTable.advance
   split
   ·rfl
   ·rfl
  cases hs:t.slot p.j with
  | empty=>
   rw [hs] at e
   injection e with e
   injection e with e1 e2
   subst e1 e2
   exact ⟨fun i z=>(nomatch (hs.symm.trans z)),hp⟩
  | dummy=>
   rw [hs] at e
   refine ih _ j d (fun e1 he i=>?_) e
   rw [adv] at he
   injection he with he
   rw [←he,hs]
   exact fun z=>nomatch z
  | live k=>
   rw [hs] at e
   dsimp only at e
   split at e
   ·injection e with e
    cases e
   ·refine ih _ j d (fun e1 he=>?_) e
    rw [adv] at he
    exact hp e1 he
theorem GW {t:SetTable} (u:Up t.place) {h:Int}{j:Nat}{b:Bool} (e:t.freeSlot h=some (j,b)):∀i,i<t.place.size→t.place.getD i 0≠j:=by
 unfold SetTable.freeSlot at e
 split at e
 ·rename_i j0 d he
  obtain ⟨h1,h2⟩:=Bh _ _ _ _ (fun e1 he1=>by cases he1) he
  injection e with e
  injection e with e1 e2
  cases d with
  | none=>
   have e1:j0=j:=e1
   subst e1
   exact yC u h1
  | some d=>
   have e1:d=j:=e1
   subst e1
   exact yC u (h2 d rfl)
 ·cases e
def Tb (led:Bool) (t:SetTable):Prop:=Up t.place∧t.led=led
theorem nu {led:Bool}{t:SetTable} (h:t.led=led) (n:Nat):Tb led (t.standIn n):=⟨E4 n,h⟩
theorem HS {led:Bool}{t:SetTable} (h:Tb led t) (es:Array (Int×Value)) (k:Int) (x:Value):Tb led (layNew t es k x).2.1:=by
 unfold layNew
 cases hf:t.freeSlot k with
 | none=>exact nu h.2 _
 | some jb=>
  obtain ⟨j,b⟩:=jb
  dsimp only
  have u2:Up (t.put j).1.place:=Cy h.1 (GW h.1 hf)
  unfold SetTable.orStandIn
  split
  ·exact ⟨u2,h.2⟩
  ·exact nu (t:=(t.put j).1) h.2 _
theorem F9 {m fi mo:Nat}{le pl:Bool}{hs:Array Int}{t:SetTable}{od:Array Nat} (e:SetTable.laid m fi mo le pl hs=some (t,od)):Tb le t:=by
 unfold SetTable.laid at e
 cases hc:SetTable.layClean m hs with
 | none=>rw [hc] at e;cases e
 | some ow=>
  rw [hc] at e
  injection e with e
  injection e with e1 e2
  subst e1
  refine ⟨?_,rfl⟩
  unfold Up
  dsimp only
  rw [List.pairwise_map,List.pairwise_filterMap]
  refine List.Pairwise.imp (fun {a b} hab=>?_) List.pairwise_lt_range
  intro x hx y hy
  cases h1:ow.getD a none with
  | none=>rw [h1] at hx;cases hx
  | some c1=>
   cases h2:ow.getD b none with
   | none=>rw [h2] at hy;cases hy
   | some c2=>
    rw [h1] at hx
    rw [h2] at hy
    cases hx
    cases hy
    exact hab
theorem Fh {led:Bool}{t:SetTable} (h:Tb led t) (es:Array (Int×Value)) (n:Nat):Tb led (relayAll t es n).2.1:=by
 unfold relayAll
 split
 ·rename_i t' od he
  dsimp only
  have h':Tb led t':=by
   have:=F9 he
   rw [h.2] at this
   exact this
  split
  ·exact h'
  ·exact nu h.2 _
 ·exact nu h.2 _
def eF (w:World):Bool:=!(w.params.followText "set-order")
def ig (prog:Program) (w:World) (h:Heap) (a:Addr) (S:ay→Bool) (n:Nat):Prop:=
 tQ fun ob xs ep tb=>h.get? a=some ob∧ob.ExactSet∧ob.data=.set xs ep tb∧ElemsOf (aG prog w) xs.toList∧(∀k,S k=true↔∃e∈xs.toList,bG k e.2=true)∧xs.size<scanBound∧tb.fits xs.size=true∧xs.size=n∧Tb (eF w) tb
section
variable {prog:Program}{w:World}{A:Around}{E:Value→Shared→Prop}{s:Shared}
theorem ig.but {h h':Heap}{a:Addr}{S:ay→Bool}{n:Nat} (x:ig prog w h a S n) (k:∀o,h.get? a=some o→h'.get? a=some o):ig prog w h' a S n:=
 let ⟨ob,xs,ep,tb,h1,r⟩:=x;⟨ob,xs,ep,tb,k ob h1,r⟩
theorem ig.eq {h:Heap}{a:Addr}{S S':ay→Bool}{n m:Nat} (x:ig prog w h a S n) (e:∀k,S k=S' k) (en:n=m):ig prog w h a S' m:=by
 cases en
 cases (funext e:S=S')
 exact x
theorem ig.store {h:Heap}{a:Addr}{ob:Obj}{xs ys:Array (Int×Value)}{ep:Nat}{tb tc:SetTable}{S:ay→Bool} (h1:h.get? a=some ob) (h2:ob.ExactSet) (h3:ob.data=.set xs ep tb)
 (g1:ElemsOf (aG prog w) ys.toList) (g2:∀k,S k=true↔∃e∈ys.toList,bG k e.2=true) (g3:ys.size<scanBound) (g4:tc.fits ys.size=true) (g5:Tb (eF w) tc) :
 (h.update a (Obj.putSet ys tc)).get? a=some { ob with data:=.set ys (ep+1) tc }∧ig prog w (h.update a (Obj.putSet ys tc)) a S ys.size:=by
 have e:=(SetOf_store (knd:=aG prog w) h1 h2 h3 g1 g2 g3 g4).1
 exact ⟨e,_,ys,ep+1,tc,e,h2,rfl,g1,g2,g3,g4,rfl,g5⟩
theorem IU {led:Bool}{t:SetTable} (h:Tb led t):Tb led { t with plain:=false }:=h
theorem yp {g:Bool→Sem Unit} (hg:∀(b:Bool) (s1:Shared) (R:Unit→Shared→Prop),R () s1→wpAny (model prog w) A (g b) R E s1) {a:Addr}{ob:Obj}{xs ys:Array (Int×Value)}{ep:Nat}{tb tc:SetTable}{S:ay→Bool} (h1:s.heap.get? a=some ob) (h2:ob.ExactSet) (h3:ob.data=.set xs ep tb)
 (g1:ElemsOf (aG prog w) ys.toList) (g2:∀k,S k=true↔∃e∈ys.toList,bG k e.2=true) (g3:ys.size<scanBound) (g4:tc.fits ys.size=true) (g5:Tb (eF w) tc) {dum:Bool}{R:Option Bool→Shared→Prop}
 (k:∀h',Heap.SameBut a s.heap h'→ig prog w h' a S ys.size→R (some true) { s with heap:=h' }) :
 wpAny (model prog w) A (do
  storeSet a ys tc
  if (!dum && tc.tooFull)=true then do
      g (relayAll tc ys (SetTable.grown ys.size)).2.2
      storeSet a (relayAll tc ys (SetTable.grown ys.size)).1 (relayAll tc ys (SetTable.grown ys.size)).2.1
      pure (some true)
   else pure (some true)) R E s:=by
 obtain ⟨e1,q1⟩:=ig.store (S:=S) h1 h2 h3 g1 g2 g3 g4 g5
 have b1:=Heap.SameBut.update s.heap a (Obj.putSet ys tc)
 refine wpAny_bind (wpAny_storeSet_of h1 h3 ?_ (fits_of_scanBound g3))
 split
 case isFalse=>exact wpAny_pure (k _ b1 q1)
 have pm:=relayAll_perm tc ys (SetTable.grown ys.size)
 have ft:=relayAll_fits tc ys (SetTable.grown ys.size)
 have tt:=Fh g5 ys (SetTable.grown ys.size)
 generalize relayAll tc ys (SetTable.grown ys.size)=Z at pm ft tt ⊢
 obtain ⟨zs,td,gv⟩:=Z
 dsimp only at pm ft tt ⊢
 have zl:zs.size=ys.size:=by have:=pm.length_eq;simpa using this
 have g3':zs.size<scanBound:=by trivial
 obtain ⟨_,q2⟩:=ig.store (ys:=zs) (tc:=td) (S:=S) e1 h2 rfl (g1.perm pm) (fun k'=>(g2 k').trans ⟨fun ⟨e,m,q⟩=>⟨e,pm.mem_iff.mpr m,q⟩,fun ⟨e,m,q⟩=>⟨e,pm.mem_iff.mp m,q⟩⟩) g3' ft tt
 rw [zl] at q2
 exact wpAny_bind (hg _ _ _ (wpAny_bind (wpAny_storeSet_of e1 rfl (wpAny_pure (k _ (b1.trans (Heap.SameBut.update _ a _)) q2)) (fits_of_scanBound g3'))))
theorem Fd {a:Addr}{S:ay→Bool}{n:Nat}{k:ay}{x:Value}{R:Bool→Shared→Prop} (kv:bG k x=true) (sv:x.scannable=true) (H:ig prog w s.heap a S n) (room:n+1<scanBound)
 (q:∀h',Heap.SameBut a s.heap h'→ig prog w h' a (fun j=>S j || decide (j=k)) (if S k then n else n+1)→R (!S k) { s with heap:=h' }) :
 wpAny (model prog w) A (setAddHashed a x ((aG prog w).hash k)) R E s:=by
 obtain ⟨ob,xs,ep,tb,h1,h2,h3,h4,h5,h6,h7,h8,h9⟩:=id H
 have gw:∀(b:Bool) (s1:Shared) (R':Unit→Shared→Prop),R' () s1→wpAny (model prog w) A (match b with | true=>rule "set.scan.the-table-gave-way" | false=>pure ()) R' E s1:=fun b s1 R' r=>by
  cases b
  ·exact wpAny_pure r
  ·exact wpAny_rule r
 unfold setAddHashed setAddHashedIn
 refine wpAny_holding ?_
 refine wpAny_bind (wpAny_setState_of h1 h3 h7 ?_)
 dsimp only
 rw [if_pos (byScan_of (knd:=aG prog w) sv h6 h4)]
 unfold setAddByScan
 refine wpAny_bind (wpAny_bind (wpAny_rule (wpAny_bind (wpAny_setScan_of (knd:=aG prog w) kv h1 h3 h7 h4 ?_))))
 cases hf:List.findIdx? (fun e=>(aG prog w).is k e.2) xs.toList with
 | some j=>
  obtain ⟨hj,hp,_⟩:=List.findIdx?_eq_some_iff_getElem.mp hf
  have hk:S k=true:=(h5 k).mpr ⟨_,List.getElem_mem hj,hp⟩
  dsimp only
  refine wpAny_pure (wpAny_pure ?_)
  have q':=q s.heap (Heap.SameBut.refl a s.heap) (H.eq (fun j=>?_) (by rw [if_pos hk]))
  ·rw [hk] at q'
   exact q'
  ·by_cases e:j=k
   ·rw [e,hk];rfl
   ·rw [decide_eq_false e,Bool.or_false]
 | none=>
  have hk:S k=false:=by
   cases hc:S k with
   | false=>rfl
   | true=>
    obtain ⟨e,m,hp⟩:=(h5 k).mp hc
    have:=List.findIdx?_eq_none_iff.mp hf e m
    rw [show (aG prog w).is k e.2=true from hp] at this
    cases this
  dsimp only
  have pm:=layNew_perm tb xs ((aG prog w).hash k) x
  have ft:=layNew_fits tb xs ((aG prog w).hash k) x
  have tt:=HS h9 xs ((aG prog w).hash k) x
  generalize layNew tb xs ((aG prog w).hash k) x=Z at pm ft tt ⊢
  obtain ⟨ys,tc,dum,gv⟩:=Z
  dsimp only at pm ft tt ⊢
  rw [Array.toList_push] at pm
  have yl:ys.size=n+1:=by have:=pm.length_eq;simp at this;trivial
  have g1:ElemsOf (aG prog w) ys.toList:=(h4.push kv sv).perm pm
  have g2:=mem_push_iff (knd:=aG prog w) kv h5 pm
  have fin:∀h',Heap.SameBut a s.heap h'→ig prog w h' a (fun j=>S j || decide (j=k)) ys.size→R true { s with heap:=h' }:=fun h' b z=>by
   have q':=q h' b
   rw [hk,if_neg (by decide),←yl] at q'
   exact q' z
  refine wpAny_bind (gw _ _ _ ?_)
  split
  ·refine wpAny_bind ?_
   rw [hashByValue_scannable 8 sv]
   refine wpAny_pure ?_
   refine yp gw h1 h2 h3 g1 g2 (by trivial) ?_ ?_ fun h' b z=>wpAny_pure (fin h' b z)
   ·split
    ·exact ft
    ·exact SetTable.fits_plain_off ft
   ·split
    ·exact tt
    ·exact IU tt
  ·refine wpAny_bind (wpAny_pure ?_)
   simp only [↓reduceIte]
   exact yp gw h1 h2 h3 g1 g2 (by trivial) ft tt fun h' b z=>wpAny_pure (fin h' b z)
end
abbrev gM (prog:Program) (w:World) (h:Heap) (a:Addr) (ks:List ay):Prop:=ig prog w h a (fun j=>(cQ ks).any (fun x=>decide (x=j))) (cQ ks).length
theorem zH {prog:Program}{w:World}{h:Heap}{a:Addr} (e:h.get? a=some (bL (eF w))):gM prog w h a []:=
 ⟨_,#[],0,_,e,⟨rfl,rfl,rfl⟩,rfl,fun x hx=>(by simp at hx),fun k=>(by simp [cQ]),by decide,by rfl,rfl,List.Pairwise.nil,rfl⟩
section
variable {prog:Program}{w:World}{A:Around}{R:Result→Shared→Prop}{it:Addr}{fp wr:List Addr}{G:Array GenState→Array GenState→Prop}{P:Nat→Value→Prop}{St:Nat→Shared→Prop}
theorem x8 {ks:List ay} (W:WalksS prog w A.in1 it fp wr G ks.length P St) {a:Addr} (ha:a∉fp) (hv:∀i v,P i v→∀k,ks[i]?=some k→bG k v=true∧v.scannable=true) (hb:ks.length+1<scanBound) :
 ∀(r i:Nat) (s:Shared),ks.length - i=r→i≤ks.length→St i s→gM prog w s.heap a (ks.take i)→
   (∀s',Moved (a :: wr) G s s'→gM prog w s'.heap a ks→R (.ok (.ret .none)) s')→codeAny (model prog w) A (.builtin "set.update.loop" ⟨[.ref a,.ref it],[]⟩) R s:=by
 have nw:a∉wr:=fun z=>ha (W.sub _ z)
 have up:∀b∈wr,b∈a :: wr:=fun b z=>List.mem_cons_of_mem _ z
 intro r
 induction r with
 | zero=>
  intro i s hr hi st hS hR
  have e:i=ks.length:=by trivial
  rw [e] at st hS
  rw [List.take_length] at hS
  refine codeAny_builtin F.entry_set_update_loop ?_
  rw [A.under_plainId F.plain_set_update_loop]
  show wpAny _ _ (pyNext (Value.ref it) >>= _) _ _ _
  refine wpAny_bind (W.done s _ _ st fun s' m=>?_)
  show wpAny _ _ (ret .none) _ _ _
  exact wpAny_pure (hR s' (m.mono up) (ig.but hS fun o ho=>m.heap a o nw ho))
 | succ r ih=>
  intro i s hr hi st hS hR
  have lt:i<ks.length:=by trivial
  refine codeAny_builtin F.entry_set_update_loop ?_
  rw [A.under_plainId F.plain_set_update_loop]
  show wpAny _ _ (pyNext (Value.ref it) >>= _) _ _ _
  refine wpAny_bind (W.item i s _ _ lt st fun v s' pv st' m=>?_)
  obtain ⟨kv,sv⟩:=hv i v pv ks[i] (List.getElem?_eq_getElem lt)
  have hS':gM prog w s'.heap a (ks.take i):=ig.but hS fun o ho=>m.heap a o nw ho
  have l1:(cQ (ks.take i)).length+1<scanBound:=by
   have:=lq (ks.take i)
   rw [List.length_take] at this
   trivial
  show wpAny _ _ (holding [v] (setAdd a v) >>= _) _ _ _
  refine wpAny_bind (wpAny_holding ?_)
  unfold setAdd
  refine wpAny_holding (wpAny_bind ((aG prog w).pyHash (k:=ks[i]) kv (Fd (s:={ s' with toks:=s'.toks+1 }) kv sv hS' l1 fun h2 sb hS2=>?_)))
  have nx:gM prog w h2 a (ks.take (i+1)):=by
   rw [List.take_succ_eq_append_getElem lt]
   refine ig.eq hS2 (fun j=>?_) ?_
   ·rw [gT]
    split
    ·rename_i z
     by_cases q:j=ks[i]
     ·subst q;rw [z];rfl
     ·rw [decide_eq_false q,Bool.or_false]
    ·rw [List.any_append]
     congr 1
     rw [List.any_cons,List.any_nil,Bool.or_false]
     by_cases q:j=ks[i]
     ·rw [decide_eq_true q,decide_eq_true q.symm]
     ·rw [decide_eq_false q,decide_eq_false (Ne.symm q)]
   ·rw [gT]
    split
    ·rfl
    ·rw [List.length_append];rfl
  refine wpAny_pure ⟨plainId_quiet F.plain_set_update_loop _,ih (i+1) _ (by trivial) lt (W.frame _ s' _ _ st' (Nat.le_succ _) fun b z o e=>?_) nx fun s2 m2 hS3=>?_⟩
  ·rw [sb.2 b (fun q=>ha (q▸z))];exact e
  ·refine hR s2 (.trans W.gtrans ((m.mono up).then_heap (Nat.le_succ _) fun b o z e=>?_) m2) hS3
   rw [sb.2 b (fun q=>z (q▸List.mem_cons_self))];exact e
end
section
variable {prog:Program}{w:World}{A:Around}{E:Value→Shared→Prop}{s:Shared}
theorem Fq (x:Value) {R:Value→Shared→Prop} (h:R (.ref s.heap.objs.size) { s with heap:=s.heap.push (bL (eF w)) }) :
 codeAny (model prog w) A (.call (.builtin "set.__new__") ⟨[.type "set",x],[]⟩) (wants R E) s:=by
 refine codeAny_of_tree ?_
 show wpAny _ A.in1 (checkBuiltinCall "set.__new__" ⟨[.type "set",x],[]⟩ >>= fun _=>again (.builtin "set.__new__" ⟨[.type "set",x],[]⟩)) _ _ s
 refine wpAny_bind (wpAny_of_eq (PySem.F.newCall_set_1 x) (wpAny_pure ⟨plainId_quiet PySem.F.plain_set_new _,codeAny_builtin PySem.F.entry_set_new ?_⟩))
 rw [Around.under_plainId PySem.F.plain_set_new _]
 unfold Builtin.«set.__new__» Builtin.Frozenset.newClass
 have su:=sub_set_self
 obtain ⟨hp,g,d,tk,os⟩:=s
 dsimp only
 wp_walk
 refine wpAny_askSetting (wpAny_pure ?_)
 dsimp only
 simp only [newObj]
 exact wpAny_bind (wpAny_alloc (wpAny_pure (wpAny_pure h)))
set_option maxHeartbeats 4000000 in
theorem DT {l:Addr}{vs:List Value}{ks:List ay}{c:Bool} (hh:A.handled=none) (hl:if c=true then s.heap.IsList l vs.toArray else s.heap.IsTuple l vs.toArray) (hn:vs.length=ks.length)
 (hk:∀(i:Nat) v,vs[i]?=some v→∀k,ks[i]?=some k→bG k v=true∧v.scannable=true) (hb:ks.length+1<scanBound) {R:Fin→Shared→Prop}
 (h:∀h' tk,gM prog w h' s.heap.objs.size ks→(∀b o,b<s.heap.objs.size→s.heap.get? b=some o→h'.get? b=some o)→R (.done (.ret .none)) { s with heap:=h',toks:=tk }) :
 wpAny (model prog w) A (Builtin.«set.__init__» ⟨[.ref s.heap.objs.size,.ref l],[]⟩) R E { s with heap:=s.heap.push (bL (eF w)) }:=by
 have hS:(s.heap.push (bL (eF w))).get? s.heap.objs.size=some (bL (eF w)):=Heap.get?_push_size _ rfl
 have hT:Shared.TypeIs { s with heap:=s.heap.push (bL (eF w)) } (.ref s.heap.objs.size) "set" := ⟨_,hS,rfl⟩
 have vget:∀(i:Nat) v,vs.toArray[i]?=some v→∀k,ks[i]?=some k→bG k v=true∧v.scannable=true:=fun i v e=>hk i v (by simpa using e)
 have sz:vs.toArray.size=ks.length:=by rw [List.size_toArray];exact hn
 have hS2:∀o:Obj,((s.heap.push (bL (eF w))).push o).get? s.heap.objs.size=some (bL (eF w)):=fun o=>Heap.get?_push_of_some _ hS
 have lS:∀{x:Obj},s.heap.get? l=some x→l<s.heap.objs.size:=fun e=>Heap.lt_size e
 have neI:s.heap.objs.size≠(s.heap.push (bL (eF w))).objs.size:=by rw [Heap.size_push];trivial
 have fin:∀(s':Shared) (o:Obj),Moved (s.heap.objs.size :: [(s.heap.push (bL (eF w))).objs.size]) (fun a b=>b=a) { s with heap:=(s.heap.push (bL (eF w))).push o } s'→gM prog w s'.heap s.heap.objs.size ks→R (.done (.ret .none)) s':=fun s' o m q=>by
  obtain ⟨h',g',d',tk',os'⟩:=s'
  cases (show g'=s.gens from m.gens)
  cases (show d'=s.drawn from m.drawn)
  cases (show os'=s.os from m.os)
  refine h h' tk' q fun b o hb e=>m.heap b o (fun z=>?_) (Heap.get?_push_of_some _ (Heap.get?_push_of_some _ e))
  rw [Heap.size_push] at z
  have z':b=s.heap.objs.size∨b=s.heap.objs.size+1:=by simpa using z
  have hb':(b:Nat)<s.heap.objs.size:=hb
  rcases z' with z' | z'
  ·exact absurd z' (Nat.ne_of_lt hb')
  ·exact absurd z' (Nat.ne_of_lt (Nat.lt_succ_of_lt hb'))
 cases c with
 | true=>
  have hl':s.heap.IsList l vs.toArray:=hl
  obtain ⟨⟨oc,od,oo,os⟩,e1,rfl,n,rfl⟩:=hl'
  have e2:(s.heap.push (bL (eF w))).get? l=some ⟨.type "list",od,.seq vs.toArray n,os⟩:=Heap.get?_push_of_some _ e1
  have q1:=PySem.F.sub_list_set
  have q2:=PySem.F.sub_list_frozenset
  have q3:(Value.type "list" == Value.type "dict")=false:=by decide
  have l1:(s.heap.push (bL (eF w))).IsList l vs.toArray:=⟨_,e2,rfl,n,rfl⟩
  unfold Builtin.«set.__init__» noKeywords Builtin.Frozenset.updateFrom
  generalize hPI:pyIter=PI
  wp_walk
  subst hPI
  have ll:=lS e1
  refine wpAny_pyIter_list l1 (wpAny_bind (wpAny_runValue ?_))
  have ne1:l≠(s.heap.push (bL (eF w))).objs.size:=by rw [Heap.size_push];exact Nat.ne_of_lt (Nat.lt_succ_of_lt ll)
  refine x8 (a:=s.heap.objs.size) (ks:=ks) (sz▸(Walks.list (by simpa using hh) _ l ne1 vs.toArray).toS) ?_ vget hb (ks.length - 0) 0 _ rfl (Nat.zero_le _) ⟨⟨_,Heap.get?_push_size _ rfl,rfl,rfl⟩,l1.push _⟩ (zH (hS2 _)) fun s' m q=>?_
  ·intro z
   have z':s.heap.objs.size=(s.heap.push (bL (eF w))).objs.size∨s.heap.objs.size=l:=by simpa using z
   rcases z' with z' | z'
   ·exact neI z'
   ·exact absurd z' (Nat.ne_of_gt ll)
  ·exact wpAny_pure (wpAny_pure (fin s' _ m q))
 | false=>
  have hl':s.heap.IsTuple l vs.toArray:=hl
  obtain ⟨⟨oc,od,oo,os⟩,e1,rfl,n,rfl⟩:=hl'
  have e2:(s.heap.push (bL (eF w))).get? l=some ⟨.type "tuple",od,.seq vs.toArray n,os⟩:=Heap.get?_push_of_some _ e1
  have q1:=vA
  have q2:=tq
  have q3:(Value.type "tuple" == Value.type "dict")=false:=by decide
  have l1:(s.heap.push (bL (eF w))).IsTuple l vs.toArray:=⟨_,e2,rfl,n,rfl⟩
  unfold Builtin.«set.__init__» noKeywords Builtin.Frozenset.updateFrom
  generalize hPI:pyIter=PI
  wp_walk
  subst hPI
  have ll:=lS e1
  refine wpAny_pyIter_tuple l1 (wpAny_bind (wpAny_runValue ?_))
  have ne1:l≠(s.heap.push (bL (eF w))).objs.size:=by rw [Heap.size_push];exact Nat.ne_of_lt (Nat.lt_succ_of_lt ll)
  refine x8 (a:=s.heap.objs.size) (ks:=ks) (sz▸(Walks.tuple (by simpa using hh) _ l ne1 vs.toArray).toS) ?_ vget hb (ks.length - 0) 0 _ rfl (Nat.zero_le _) ⟨⟨_,Heap.get?_push_size _ rfl,rfl,rfl⟩,l1.at fun o e=>Heap.get?_push_of_some _ e⟩ (zH (hS2 _)) fun s' m q=>?_
  ·intro z
   have z':s.heap.objs.size=(s.heap.push (bL (eF w))).objs.size∨s.heap.objs.size=l:=by simpa using z
   rcases z' with z' | z'
   ·exact neI z'
   ·exact absurd z' (Nat.ne_of_gt ll)
  ·exact wpAny_pure (wpAny_pure (fin s' _ m q))
set_option maxHeartbeats 4000000 in
theorem C6 {l:Addr}{vs:List Value}{ks:List ay}{c:Bool}{Q:Value→Shared→Prop} (hh:A.handled=none) (hl:if c=true then s.heap.IsList l vs.toArray else s.heap.IsTuple l vs.toArray) (hn:vs.length=ks.length)
 (hk:∀(i:Nat) v,vs[i]?=some v→∀k,ks[i]?=some k→bG k v=true∧v.scannable=true) (hb:ks.length+1<scanBound)
 (h:∀h' tk,gM prog w h' s.heap.objs.size ks→(∀b o,b<s.heap.objs.size→s.heap.get? b=some o→h'.get? b=some o)→Q (.ref s.heap.objs.size) { s with heap:=h',toks:=tk }) :
 wpAny (model prog w) A (call (.type "set") [.ref l]) Q E s:=by
 have T:=PySem.F.called_set
 obtain ⟨_,_,t0⟩:=T.mro
 have t1:=T.notType
 have t2:=T.canCreate
 have t3:=T.made
 have t4:=T.sub
 have t5:=PySem.F.typeCall_set_1 (.ref l)
 refine wpAny_call (codeAny_of_tree ?_)
 show wpAny _ _ (callAny (Value.type "set") _) _ _ s
 refine wpAny_pure ⟨Code.quiet_builtin _ (by nofun),codeAny_builtin PySem.F.entry_type_call ?_⟩
 rw [A.under_plain (weight_type_call_type "set" [Value.ref l] []) rfl]
 repeat (any_goals first | assumption | wp_step)
 refine codeAny_mono (Fq (.ref l) (E:=E) (R:=fun v s1=>v=.ref s.heap.objs.size∧s1={ s with heap:=s.heap.push (bL (eF w)) }) ⟨rfl,rfl⟩) fun r s1 hr=>?_
 cases r with
 | error e=>exact hr
 | ok f=>
  cases f with
  | ret v=>
   obtain ⟨rfl,rfl⟩:=hr
   have hT:Shared.TypeIs { s with heap:=s.heap.push (bL (eF w)) } (.ref s.heap.objs.size) "set" := ⟨_,Heap.get?_push_size _ rfl,rfl⟩
   have t6:=T.init.lookup
   have t7:=T.init.bind (.ref s.heap.objs.size)
   repeat (any_goals first | assumption | wp_step)
   refine codeAny_mono (codeAny_call_builtin (R:=wants (fun v s2=>v=.none∧aZ fun h' tk=>s2={ s with heap:=h',toks:=tk }∧gM prog w h' s.heap.objs.size ks∧∀b o,b<s.heap.objs.size→s.heap.get? b=some o→h'.get? b=some o) E) T.init.plain PySem.F.entry_set_init (check_set_init_1 hT ?_)) fun r2 s2 hr2=>?_
   ·exact DT (by simpa using hh) hl hn hk hb fun h' tk q kp=>⟨rfl,h',tk,rfl,q,kp⟩
   ·cases r2 with
    | error e=>exact hr2
    | ok f=>
     cases f with
     | ret v=>
      obtain ⟨rfl,h',tk,rfl,q,kp⟩:=hr2
      repeat (any_goals first | assumption | wp_step)
      exact h _ _ q kp
     | _=>exact hr2.elim
  | _=>exact hr.elim
end
theorem rX {α:Type}:∀{l:List α}{j:Nat} (h:j<l.length),(l[j] :: l.eraseIdx j).Perm l
 | y :: r,0,_=>.refl _
 | y :: r,j+1,h=>by
  have h':j<r.length:=by simpa using h
  show (r[j] :: y :: r.eraseIdx j).Perm (y :: r)
  exact (List.Perm.swap _ _ _).trans ((rX h').cons y)
theorem FU {α:Type} (nx:Nat→Nat):∀(f k:Nat) (l:List α) (out:Array α),l.length≤f→(pickOrder.go nx f k l out).toList.Perm (out.toList++l):=by
 intro f
 induction f with
 | zero=>
  intro k l out h
  have:l=[]:=List.eq_nil_of_length_eq_zero (by trivial)
  subst this
  unfold pickOrder.go
  simp
 | succ f ih=>
  intro k l out h
  unfold pickOrder.go
  cases l with
  | nil=>simp
  | cons y r=>
   have hm:nx k % (y :: r).length<(y :: r).length:=Nat.mod_lt _ (by simp)
   generalize nx k % (y :: r).length=j at hm
   rw [List.getElem?_eq_getElem hm]
   dsimp only
   refine (ih _ _ _ (by rw [List.length_eraseIdx];split <;> simp at h ⊢ <;> trivial)).trans ?_
   rw [Array.toList_push,List.append_assoc]
   refine List.Perm.append_left _ ?_
   exact rX hm
theorem Ef {α:Type} (nx:Nat→Nat) (xs:Array α):(pickOrder nx xs).toList.Perm xs.toList:=by
 have:=FU nx xs.size 0 xs.toList #[] (by simp)
 simpa [pickOrder] using this
section
variable {M:Model}{A:Around}{E:Value→Shared→Prop}{s:Shared}
theorem zM {src:Source}{n:Nat}{Q:Nat→Shared→Prop} (hn:n≠0) (h:∀x d',x<n→Q x { s with drawn:=d' }):wpAny M A (choose src n) Q E s:=fun Γ p _=>by
 unfold choose
 rw [Sem.wp_choose]
 exact ⟨hn,h _ _ (Nat.mod_lt _ (Nat.pos_of_ne_zero hn))⟩
theorem wK {α:Type}:∀(n:Nat) (xs:List α) {s:Shared}{Q:List α→Shared→Prop},n=xs.length→(∀ys d',ys.Perm xs→Q ys { s with drawn:=d' })→wpAny M A (drawOrder n xs) Q E s:=by
 intro n
 induction n with
 | zero=>
  intro xs s Q e h
  have:xs=[]:=List.eq_nil_of_length_eq_zero e.symm
  subst this
  exact wpAny_pure (h [] s.drawn (.refl _))
 | succ n ih=>
  intro xs s Q e h
  cases xs with
  | nil=>cases e
  | cons y r=>
   unfold drawOrder
   refine wpAny_bind (zM (by simp) fun x d' hx=>?_)
   rw [List.getElem?_eq_getElem hx]
   dsimp only
   refine wpAny_bind (ih _ (by rw [List.length_eraseIdx_of_lt hx];simp at e ⊢;trivial) fun ys d2 hp=>wpAny_pure (h _ d2 ?_))
   exact (hp.cons _).trans (rX hx)
end
section
variable {prog:Program}{w:World}{A:Around}{E:Value→Shared→Prop}{s:Shared}{a:Addr}{ob:Obj}{xs:Array (Int×Value)}{ep:Nat}{tb:SetTable}
theorem pi {Q:Bool→Shared→Prop} (h:Q (w.params.followText "set-order") s):wpAny (model prog w) A setsByText Q E s:=by
 unfold setsByText
 exact wpAny_bind (wpAny_askSetting (wpAny_pure h))
theorem At {Q:Bool→Shared→Prop} (h1:s.heap.get? a=some ob) (h3:ob.data=.set xs ep tb) (h7:tb.fits xs.size=true) (h:Q (!(w.params.followText "set-order") && (!tb.plain && decide (xs.size > 1))) s) :
 wpAny (model prog w) A (setDrawn a) Q E s:=by
 unfold setDrawn
 refine wpAny_bind (wpAny_setState_of h1 h3 h7 ?_)
 exact wpAny_bind (pi (wpAny_pure h))
theorem sx {Q:Array (Int×Value)→Shared→Prop} (h1:s.heap.get? a=some ob) (h3:ob.data=.set xs ep tb) (h7:tb.fits xs.size=true) (h:Q xs s):wpAny (model prog w) A (setEntries a) Q E s:=by
 unfold setEntries
 exact wpAny_bind (wpAny_setState_of h1 h3 h7 (wpAny_pure h))
theorem uz {slot i:Nat}{Q:Option (Value×Nat)→Shared→Prop} (h1:s.heap.get? a=some ob) (h3:ob.data=.set xs ep tb) (h7:tb.fits xs.size=true) (ht:w.params.followText "set-order" = true)
 (h:Q ((pickOrder (w.params.setOrder a ep) xs)[i]?.map fun e=>(e.2,slot)) s):wpAny (model prog w) A (setNext a slot i ep) Q E s:=by
 unfold setNext
 refine wpAny_bind (wpAny_setState_of h1 h3 h7 ?_)
 dsimp only
 refine wpAny_bind (pi ?_)
 rw [ht]
 simp only [↓reduceIte,bne_self_eq_false,Bool.false_eq_true]
 refine wpAny_bind ?_
 unfold setWalk
 refine wpAny_bind (wpAny_setState_of h1 h3 h7 ?_)
 dsimp only
 refine wpAny_bind (pi ?_)
 rw [ht]
 simp only [↓reduceIte]
 refine wpAny_bind (wpAny_askSetting (wpAny_pure ?_))
 exact wpAny_pure h
theorem si {slot i:Nat}{Q:Option (Value×Nat)→Shared→Prop} (h1:s.heap.get? a=some ob) (h3:ob.data=.set xs ep tb) (h7:tb.fits xs.size=true) (ht:w.params.followText "set-order" = false) (hd:(!tb.plain && decide (xs.size > 1))=false) (hl:tb.led=true)
 (h:Q (match xs[SetTable.below tb.place slot]?,tb.place[SetTable.below tb.place slot]? with | some (_,x),some j=>some (x,j+1) | _,_=>none) s):wpAny (model prog w) A (setNext a slot i ep) Q E s:=by
 unfold setNext
 refine wpAny_bind (wpAny_setState_of h1 h3 h7 ?_)
 dsimp only
 refine wpAny_bind (pi ?_)
 rw [ht]
 simp only [↓reduceIte,Bool.false_eq_true]
 show wpAny _ _ (if (!tb.plain && decide (xs.size > 1))=true then _ else _) _ _ _
 rw [hd]
 simp only [↓reduceIte,Bool.false_eq_true]
 refine wpAny_bind (show wpAny _ _ (if (!tb.led && !xs.isEmpty)=true then _ else _) _ _ _ from ?_)
 rw [hl]
 simp only [Bool.not_true,Bool.false_and,↓reduceIte,Bool.false_eq_true]
 refine wpAny_pure ?_
 exact wpAny_pure h
end
theorem eC:Slot "set_iterator" "__next__" "set_iterator.__next__" := Slot.of (n := "__next__") (owner := "set_iterator") (by rw [typeLookup_type,builtinLookup_eq_fast];kernel_rfl) (by nofun) (by nofun) (by nofun) (by first | exact Or.inl (by nofun) | exact Or.inr (by nofun)) (by rw [isSubtype_type];kernel_rfl)
theorem sr:Slot "set_iterator" "__iter__" "set_iterator.__iter__" := Slot.of (n := "__iter__") (owner := "set_iterator") (by rw [typeLookup_type,builtinLookup_eq_fast];kernel_rfl) (by nofun) (by nofun) (by nofun) (by first | exact Or.inl (by nofun) | exact Or.inr (by nofun)) (by rw [isSubtype_type];kernel_rfl)
theorem qD:entryFor table "set_iterator.__next__" = some Builtin.«set_iterator.__next__»:=entryFor_of_tree (by kernel_rfl)
theorem xW:entryFor table "set_iterator.__iter__" = some Builtin.«dict_keyiterator.__iter__»:=entryFor_alias (by kernel_rfl) rfl (by nofun) (by kernel_rfl) (id' := "dict_keyiterator.__iter__")
theorem xP:entryFor table "set.__iter__" = some Builtin.«frozenset.__iter__»:=entryFor_alias (by kernel_rfl) rfl (by nofun) (by kernel_rfl) (id' := "frozenset.__iter__")
theorem sj (v:Value):argsOk "set_iterator.__next__" ⟨[v],[]⟩:=by unfold argsOk;kernel_rfl
theorem yY (v:Value):argsOk "set_iterator.__iter__" ⟨[v],[]⟩:=by unfold argsOk;kernel_rfl
def rR (h:Heap) (I:Addr) (first:Value) (i n ep:Nat) (a:Addr):Prop:=∃o,h.get? I=some o∧o.cls=.type "set_iterator"∧o.data=.fields #[first,.int i 0,.ref a,.int n 0,.int ep 0]
theorem rR.ty {s:Shared}{I:Addr}{first:Value}{i n ep:Nat}{a:Addr} (x:rR s.heap I first i n ep a):s.TypeIs (.ref I) "set_iterator" := let ⟨o,h1,h2,_⟩:=x;⟨o,h1,h2⟩
section
variable {prog:Program}{w:World}{A:Around}{E:Value→Shared→Prop}{s:Shared}{a I:Addr}{ob:Obj}{xs:Array (Int×Value)}{ep:Nat}{tb:SetTable}
theorem zt {first:Value}{i n:Nat}{Q:Value→Shared→Prop} (x:rR s.heap I first i n ep a) (h:Q (.ref I) s):wpAny (model prog w) A (pyIter (.ref I)) Q E s:=by
 refine wpAny_pyIter_slot x.ty sr (wpAny_call_entry sr x.ty xW ?_ (yY _))
 show wpAny _ _ (ret (.ref I)) _ _ s
 exact wpAny_pure ⟨(),_,_,x.ty,eC.lookup,h⟩
theorem zC {Q:Option Value→Shared→Prop} (hh:A.handled=none) (hT:s.TypeIs (.ref I) "set_iterator")
 (body:∀R:Fin→Shared→Prop,∀R2:Value→Shared→Prop,(∀s1:Shared,(∃h',s1={ s with heap:=h' }∧∀b o,b≠I→s.heap.get? b=some o→h'.get? b=some o)→wpAny (model prog w) A.in1 (newExc (.type "StopIteration") [] >>= fun e=>raiseNew e) R R2 s1)→wpAny (model prog w) A.in1 (Builtin.«set_iterator.__next__» ⟨[.ref I],[]⟩) R R2 s)
 (hQ:∀h',(∀b o,b≠I→s.heap.get? b=some o→h'.get? b=some o)→Q none { s with heap:=h' }):wpAny (model prog w) A (pyNext (.ref I)) Q E s:=by
 unfold pyNext
 refine wpAny_bind (wpAny_attempt (wpAny_callSpecial?_slot (name:=Str.ofString "__next__") hT eC (wpAny_call_entry eC hT qD ?_ (sj _))))
 refine body _ _ ?_
 rintro s1 ⟨h',rfl,kp⟩
 refine wpAny_bind ?_
 simp only [newExc,newTuple]
 refine wpAny_bind (wpAny_newObj_type ?_ (by size_fits))
 refine wpAny_bind (m:=firstArgMember _ _) (wpAny_of_eq (a:=Value.none) (by first | rfl | (simp only [firstArgMember];rfl)) ?_)
 refine wpAny_newObj_type ?_ (by size_fits)
 simp only [raiseNew]
 refine wpAny_bind (wpAny_handled ?_)
 rw [show A.in1.handled=none from hh]
 refine wpAny_bind (wpAny_pure (wpAny_throw ?_))
 refine wpAny_bind (wpAny_isInstance (T := "StopIteration") (b:=true) ⟨_,Heap.get?_push_size _ rfl,rfl⟩ isSubtype_stop ?_)
 exact wpAny_pure (hQ _ fun b o hb e=>Heap.get?_push_of_some _ (Heap.get?_push_of_some _ (kp b o hb e)))
theorem zc {Q:Option Value→Shared→Prop} (hT:s.TypeIs (.ref I) "set_iterator") (v:Value)
 (body:∀R:Fin→Shared→Prop,∀R2:Value→Shared→Prop,(∀s1,Q (some v) s1→R (.done (.ret v)) s1)→wpAny (model prog w) A.in1 (Builtin.«set_iterator.__next__» ⟨[.ref I],[]⟩) R R2 s):wpAny (model prog w) A (pyNext (.ref I)) Q E s:=by
 unfold pyNext
 refine wpAny_bind (wpAny_attempt (wpAny_callSpecial?_slot (name:=Str.ofString "__next__") hT eC (wpAny_call_entry eC hT qD ?_ (sj _))))
 exact body _ _ fun s1 q=>⟨(),wpAny_pure q⟩
theorem uE {u:Value}{k:Nat}{vs:Array Value}{o:Obj} (ho:s.heap.get? I=some o) (hd:o.data=.fields vs):(s.heap.update I (Obj.mapFields (·.setIfInBounds k u))).get? I=some (Obj.mapFields (·.setIfInBounds k u) o):=
 Heap.get?_update_self _ ho (Obj.isFreed_of_fields (Obj.data_mapFields hd _))
theorem rE {first:Value}{i n:Nat}{R:Fin→Shared→Prop}{R2:Value→Shared→Prop} (x:rR s.heap I first i n ep a) (h1:s.heap.get? a=some ob) (h3:ob.data=.set xs ep tb) (h7:tb.fits xs.size=true) (hn:xs.size=n)
 (h:wpAny (model prog w) A (match first with
  | .int slot _=>(setNext a slot.toNat (i:Int).toNat (ep:Int).toNat >>= fun g=>match g with
   | some (v,next)=>(setField (.ref I) 0 (rawInt next) >>= fun _=>setField (.ref I) 1 (rawInt ((i:Int)+1)) >>= fun _=>ret v)
   | none=>(setField (.ref I) 2 .none >>= fun _=>newExc (.type "StopIteration") [] >>= fun e=>raiseNew e))
  | _=>(seqItems? first >>= fun ps=>match ps with
   | some places=>(match places[(i:Int).toNat]? with
    | some (.int place _)=>(setNextDrawn a place.toNat (ep:Int).toNat >>= fun v=>setField (.ref I) 1 (rawInt ((i:Int)+1)) >>= fun _=>ret v)
    | some _=>unsupported "internal:set_iterator"
    | none=>(setField (.ref I) 0 (rawInt 0) >>= fun _=>setField (.ref I) 2 .none >>= fun _=>newExc (.type "StopIteration") [] >>= fun e=>raiseNew e))
   | _=>unsupported "internal:set_iterator")) R R2 s):wpAny (model prog w) A (Builtin.«set_iterator.__next__» ⟨[.ref I],[]⟩) R R2 s:=by
 obtain ⟨o,i1,i2,i3⟩:=x
 unfold Builtin.«set_iterator.__next__»
 refine wpAny_bind (wpAny_pure ?_)
 refine wpAny_bind (wpAny_fieldsOf i1 i3 ?_)
 dsimp only
 refine wpAny_bind (sx h1 h3 h7 ?_)
 rw [if_neg (by simp [hn])]
 cases first <;> exact h
end
section
variable {prog:Program}{w:World}{A:Around}{E:Value→Shared→Prop}{s:Shared}{a I:Addr}{ob:Obj}{xs:Array (Int×Value)}{ep:Nat}{tb:SetTable}
theorem rR.keep {h h':Heap}{first:Value}{i n:Nat} (x:rR h I first i n ep a) (k:∀o,h.get? I=some o→h'.get? I=some o):rR h' I first i n ep a:=let ⟨o,h1,r⟩:=x;⟨o,k o h1,r⟩
theorem cp {h:Heap}{I b:Addr}{f:Obj→Obj} (hb:b≠I) (o:Obj) (e:h.get? b=some o):(h.update I f).get? b=some o:=(Heap.get?_update_other _ _ (Ne.symm hb)).trans e
def wZ (prog:Program) (w:World) (a:Addr) (ob:Obj) (ep:Nat) (slot i:Nat) (g:Option (Value×Nat)):Prop:=
 ∀(A:Around) (E:Value→Shared→Prop) (s:Shared) (Q:Option (Value×Nat)→Shared→Prop),s.heap.get? a=some ob→Q g s→wpAny (model prog w) A (setNext a slot i ep) Q E s
theorem Kt {n:Nat}{us:List Value}{sl:Nat→Nat} (hh:A.handled=none) (ne:a≠I) (h3:ob.data=.set xs ep tb) (h7:tb.fits xs.size=true) (hn:xs.size=n) (hu:us.length=n)
 (gv:∀i v,us[i]?=some v→wZ prog w a ob ep (sl i) i (some (v,sl (i+1)))) (gn:wZ prog w a ob ep (sl n) n none) :
 Walks prog w A I [I,a] [I] n (fun i v=>us[i]?=some v) (fun i h=>rR h I (.int (sl i) 0) i n ep a∧h.get? a=some ob) where
 sub:=fun b hb=>by simp at hb;simp [hb]
 frame:=fun i h h' st k=>⟨st.1.keep fun o e=>k I (by simp) o e,k a (by simp) _ st.2⟩
 item:=fun i s Q E hi st hQ=>by
  obtain ⟨v,hv⟩:∃v,us[i]?=some v:=⟨_,List.getElem?_eq_getElem (by trivial)⟩
  refine zc st.1.ty v fun R R2 kq=>rE st.1 st.2 h3 h7 hn ?_
  dsimp only
  simp only [Int.toNat_natCast]
  refine wpAny_bind (gv i v hv _ _ _ _ st.2 ?_)
  dsimp only
  obtain ⟨o,i1,i2,i3⟩:=st.1
  have e1:=uE (k:=0) (u:=rawInt (sl (i+1))) i1 i3
  have d1:(Obj.mapFields (·.setIfInBounds 0 (rawInt (sl (i+1)))) o).data=.fields #[.int (sl (i+1)) 0,.int i 0,.ref a,.int n 0,.int ep 0]:=by rw [Obj.data_mapFields i3];simp [rawInt]
  have e2:=uE (s:={ s with heap:=s.heap.update I (Obj.mapFields (·.setIfInBounds 0 (rawInt (sl (i+1))))) }) (k:=1) (u:=rawInt ((i:Int)+1)) e1 d1
  refine wpAny_bind (wpAny_setField i1 i3 (by simp) (wpAny_bind (wpAny_setField e1 d1 (by simp) ?_)))
  refine wpAny_pure (kq _ ?_)
  have:=hQ v ((s.heap.update I (Obj.mapFields (·.setIfInBounds 0 (rawInt (sl (i+1)))))).update I (Obj.mapFields (·.setIfInBounds 1 (rawInt ((i:Int)+1))))) s.toks hv ?_ ?_
  ·exact this
  ·refine ⟨⟨_,e2,(Obj.cls_mapFields ..).trans ((Obj.cls_mapFields ..).trans i2),by rw [Obj.data_mapFields d1];simp [rawInt]⟩,cp ne _ (cp ne _ st.2)⟩
  ·exact fun b o hb e=>cp (by simpa using hb) _ (cp (by simpa using hb) _ e)
 done:=fun s Q E st hQ=>by
  refine zC hh st.1.ty (fun R R2 k=>rE st.1 st.2 h3 h7 hn ?_) fun h' kp=>hQ h' s.toks fun b o hb e=>kp b o (by simpa using hb) e
  dsimp only
  simp only [Int.toNat_natCast]
  refine wpAny_bind (gn _ _ _ _ st.2 ?_)
  dsimp only
  obtain ⟨o,i1,i2,i3⟩:=st.1
  exact wpAny_bind (wpAny_setField i1 i3 (by simp) (k _ ⟨(),fun b o hb e=>cp hb _ e⟩))
 self:=fun i s Q E st hQ=>zt st.1 hQ
theorem JU {n:Nat}{us:List Value}{T:Addr}{oT:Obj}{ps:List Nat}{c0:Nat} (hh:A.handled=none) (ne:a≠I) (nT:T≠I) (h3:ob.data=.set xs ep tb) (h7:tb.fits xs.size=true) (hn:xs.size=n) (hu:us.length=n)
 (hT:oT.data=.seq (ps.map fun (i:Nat)=>Value.int (i:Int) 0).toArray c0) (hp:ps.length=n) (gv:∀(i:Nat) v,us[i]?=some v→aZ fun (p:Nat) (z:Int×Value)=>ps[i]?=some p∧xs[p]?=some z∧z.2=v) :
 Walks prog w A I [I,a,T] [I] n (fun i v=>us[i]?=some v) (fun i h=>rR h I (.ref T) i n ep a∧h.get? a=some ob∧h.get? T=some oT) where
 sub:=fun b hb=>by simp at hb;simp [hb]
 frame:=fun i h h' st k=>⟨st.1.keep fun o e=>k I (by simp) o e,k a (by simp) _ st.2.1,k T (by simp) _ st.2.2⟩
 item:=fun i s Q E hi st hQ=>by
  obtain ⟨v,hv⟩:∃v,us[i]?=some v:=⟨_,List.getElem?_eq_getElem (by trivial)⟩
  obtain ⟨p,z,e1,e2,rfl⟩:=gv i v hv
  refine zc st.1.ty z.2 fun R R2 kq=>rE st.1 st.2.1 h3 h7 hn ?_
  dsimp only
  simp only [Int.toNat_natCast]
  refine wpAny_bind ?_
  unfold seqItems?
  refine wpAny_bind (wpAny_load st.2.2 ?_)
  rw [hT]
  refine wpAny_pure ?_
  dsimp only
  have e3:(ps.map fun (i:Nat)=>Value.int (i:Int) 0).toArray[i]?=some (.int (p:Int) 0):=by simp [e1]
  rw [e3]
  dsimp only
  refine wpAny_bind ?_
  unfold setNextDrawn
  refine wpAny_bind (wpAny_setState_of st.2.1 h3 h7 ?_)
  dsimp only
  simp only [Int.toNat_natCast,bne_self_eq_false,Bool.false_eq_true,↓reduceIte]
  refine wpAny_bind (wpAny_pure ?_)
  rw [e2]
  obtain ⟨z1,z2⟩:=z
  refine wpAny_pure ?_
  obtain ⟨o,i1,i2,i3⟩:=st.1
  have e4:=uE (k:=1) (u:=rawInt ((i:Int)+1)) i1 i3
  refine wpAny_bind (wpAny_setField i1 i3 (by simp) ?_)
  refine wpAny_pure (kq _ ?_)
  have:=hQ z2 (s.heap.update I (Obj.mapFields (·.setIfInBounds 1 (rawInt ((i:Int)+1))))) s.toks hv ?_ ?_
  ·exact this
  ·refine ⟨⟨_,e4,(Obj.cls_mapFields ..).trans i2,by rw [Obj.data_mapFields i3];simp [rawInt]⟩,cp ne _ st.2.1,cp nT _ st.2.2⟩
  ·exact fun b o hb e=>cp (by simpa using hb) _ e
 done:=fun s Q E st hQ=>by
  refine zC hh st.1.ty (fun R R2 k=>rE st.1 st.2.1 h3 h7 hn ?_) fun h' kp=>hQ h' s.toks fun b o hb e=>kp b o (by simpa using hb) e
  dsimp only
  simp only [Int.toNat_natCast]
  refine wpAny_bind ?_
  unfold seqItems?
  refine wpAny_bind (wpAny_load st.2.2 ?_)
  rw [hT]
  refine wpAny_pure ?_
  dsimp only
  have e3:(ps.map fun (i:Nat)=>Value.int (i:Int) 0).toArray[n]?=none:=by simp [hp]
  rw [e3]
  dsimp only
  obtain ⟨o,i1,i2,i3⟩:=st.1
  have e4:=uE (k:=0) (u:=rawInt 0) i1 i3
  have d4:(Obj.mapFields (·.setIfInBounds 0 (rawInt 0)) o).data=.fields #[.int 0 0,.int n 0,.ref a,.int n 0,.int ep 0]:=by rw [Obj.data_mapFields i3];simp [rawInt]
  exact wpAny_bind (wpAny_setField i1 i3 (by simp) (wpAny_bind (wpAny_setField e4 d4 (by simp) (k _ ⟨(),fun b o hb e=>cp hb _ (cp hb _ e)⟩))))
 self:=fun i s Q E st hQ=>zt st.1 hQ
end
theorem vB {α:Type} [DecidableEq α]:∀{l m:List α},l.Nodup→(∀x,x∈l→x∈m)→m.length≤l.length→l.Perm m
 | [],m,_,_,h=>by
  have:m=[]:=List.eq_nil_of_length_eq_zero (by simpa using h)
  subst this
  exact .refl _
 | x :: r,m,nd,sub,h=>by
  have hx:x∈m:=sub x (by simp)
  have nd':=List.nodup_cons.mp nd
  have p:=List.perm_cons_erase hx
  have q:r.Perm (m.erase x):=vB nd'.2 (fun y hy=>(List.mem_erase_of_ne (fun e=>nd'.1 (by rw [←e];exact hy))).mpr (sub y (by simp [hy]))) (by rw [List.length_erase_of_mem hx];simp at h;trivial)
  exact (q.cons x).trans p.symm
theorem A8 (ks:List ay):(cQ ks).Nodup:=by
 induction ks using uH with
 | h0=>exact List.nodup_nil
 | h1 ks k ih=>
  rw [gT]
  split
  ·exact ih
  ·rename_i h
   refine List.nodup_append.mpr ⟨ih,by simp,fun x hx y hy e=>h ?_⟩
   rw [List.mem_singleton] at hy
   exact List.any_eq_true.mpr ⟨x,hx,by simp [e,hy]⟩
def kf:Value→ay
 | .int i _=>.inl i
 | .str x _=>.inr x
 | _=>.inl 0
theorem FJ {k:ay}{v:Value} (h:bG k v=true):kf v=k:=by
 rcases cg h with ⟨i,t,rfl,rfl⟩ | ⟨x,t,rfl,rfl⟩ <;> rfl
section
variable {prog:Program}{w:World}{A:Around}{E:Value→Shared→Prop}{s:Shared}{a:Addr}
theorem zX {ks:List ay}{xs:Array (Int×Value)}{us:List Value} (h4:ElemsOf (aG prog w) xs.toList) (h5:∀k,(cQ ks).any (fun x=>decide (x=k))=true↔∃e∈xs.toList,bG k e.2=true) (h8:xs.size=(cQ ks).length) (p:us.Perm (xs.toList.map (·.2))) :
 (us.map kf).Perm (cQ ks)∧∀v,v∈us→bG (kf v) v=true:=by
 have kk:∀v,v∈us→bG (kf v) v=true:=fun v hv=>by
  obtain ⟨e,he,rfl⟩:=List.mem_map.mp (p.mem_iff.mp hv)
  obtain ⟨⟨k,hk,_⟩,_⟩:=h4 e he
  have hk':bG k e.2=true:=hk
  rw [FJ hk'];exact hk'
 refine ⟨.symm (vB (A8 ks) (fun k hk=>?_) ?_),kk⟩
 ·obtain ⟨e,he,h⟩:=(h5 k).mp (List.any_eq_true.mpr ⟨k,hk,by simp⟩)
  exact List.mem_map.mpr ⟨e.2,p.mem_iff.mpr (List.mem_map.mpr ⟨e,he,rfl⟩),FJ h⟩
 ·have:=p.length_eq
  simp at this ⊢
  trivial
theorem GP {ks:List ay}{n:Nat}{Q:Value→Shared→Prop} (H:gM prog w s.heap a ks) (hn:(cQ ks).length=n)
 (h:∀(h':Heap) d' (I:Addr) (us:List Value) (fp:List Addr) (St:Nat→Heap→Prop),(us.map kf).Perm (cQ ks)→(∀v,v∈us→bG (kf v) v=true)→us.length=n→(∀A':Around,A'.handled=none→Walks prog w A' I fp [I] n (fun i v=>us[i]?=some v) St)→St 0 h'→
  (∀b o,s.heap.get? b=some o→h'.get? b=some o)→(∀b,b∈fp→b=a∨s.heap.objs.size≤b)→s.heap.objs.size≤I→Q (.ref I) { s with heap:=h',drawn:=d' }) :
 wpAny (model prog w) A (pyIter (.ref a)) Q E s:=by
 obtain ⟨ob,xs,ep,tb,h1,h2,h3,h4,h5,h6,h7,h8,h9⟩:=id H
 have hT:s.TypeIs (.ref a) "set" := ⟨ob,h1,h2.1⟩
 have la:=Heap.lt_size h1
 have sz:xs.size=n:=by trivial
 refine wpAny_pyIter_slot hT PySem.F.slot_set_iter (wpAny_call_entry PySem.F.slot_set_iter hT xP ?_ (PySem.F.args_set_iter_1 _))
 unfold Builtin.«frozenset.__iter__»
 refine wpAny_bind (wpAny_pure ?_)
 refine wpAny_bind ?_
 unfold Builtin.Frozenset.sizeOf
 refine wpAny_bind (sx h1 h3 h7 (wpAny_pure ?_))
 refine wpAny_bind (At h1 h3 h7 ?_)
 by_cases hd:(!(w.params.followText "set-order") && (!tb.plain && decide (xs.size > 1)))=true
 ·rw [hd]
  simp only [↓reduceIte]
  refine wpAny_bind (wK _ _ (by simp) fun ps d' hp=>?_)
  refine wpAny_bind (wpAny_newTuple ?_ ?_)
  ·simp only [rawInt]
   have h1':(s.heap.push { cls:=.type "tuple",data:=.seq (ps.map fun (i:Nat)=>Value.int (i:Int) 0).toArray }).get? a=some ob:=Heap.get?_push_of_some _ h1
   refine wpAny_bind ?_
   unfold setEpoch
   refine wpAny_bind (wpAny_setState_of (s:={ s with heap:=s.heap.push { cls:=.type "tuple",data:=.seq (ps.map fun (i:Nat)=>Value.int (i:Int) 0).toArray },drawn:=d' }) h1' h3 h7 (wpAny_pure ?_))
   simp only [newFields]
   refine wpAny_bind (wpAny_newObj_type (wpAny_pure ⟨(), "set_iterator",_,⟨_,Heap.get?_push_size _ rfl,rfl⟩,eC.lookup,?_⟩))
   have pl:ps.length=n:=by have:=hp.length_eq;simp at this;trivial
   obtain ⟨us,hul,hus⟩:=uQ (p:=fun i v=>aZ fun (p:Nat) (z:Int×Value)=>ps[i]?=some p∧xs[p]?=some z∧z.2=v) n fun i hi=>by
    have e1:ps[i]?=some ps[i]:=List.getElem?_eq_getElem (by trivial)
    have m:ps[i]∈List.range xs.size:=hp.mem_iff.mp (List.getElem_mem _)
    have m':ps[i]<xs.size:=by simpa using m
    exact ⟨_,ps[i],xs[ps[i]],e1,Array.getElem?_eq_getElem m',rfl⟩
   have eu:us=(ps.map fun p=>(xs[p]?.map (·.2)).getD .none):=by
    refine List.ext_getElem? fun i=>?_
    by_cases hi:i<n
    ·obtain ⟨v,hv⟩:∃v,us[i]?=some v:=⟨_,List.getElem?_eq_getElem (by trivial)⟩
     obtain ⟨p,z,e1,e2,e3⟩:=hus i v hv
     rw [hv,List.getElem?_map,e1]
     simp [e2,e3]
    ·rw [List.getElem?_eq_none (by trivial),List.getElem?_eq_none (by simp;trivial)]
   have ex:(List.range xs.size).map (fun p=>(xs[p]?.map (·.2)).getD .none)=xs.toList.map (·.2):=by
    refine List.ext_getElem (by simp) fun i q1 q2=>?_
    simp at q1
    simp [q1]
   have pu:us.Perm (xs.toList.map (·.2)):=by
    rw [eu,←ex]
    exact hp.map _
   obtain ⟨k1,k2⟩:=zX h4 h5 h8 pu
   have zT:(s.heap.push { cls:=.type "tuple",data:=.seq (ps.map fun (i:Nat)=>Value.int (i:Int) 0).toArray }).objs.size=s.heap.objs.size+1:=by rw [Heap.size_push]
   refine h _ d' _ us [_,a,s.heap.objs.size] _ k1 k2 hul (fun A' hA=>JU (T:=s.heap.objs.size) (ob:=ob) (ps:=ps) (c0:=0) (oT:={ cls:=.type "tuple",data:=.seq (ps.map fun (i:Nat)=>Value.int (i:Int) 0).toArray }) hA ?_ ?_ h3 h7 sz hul rfl pl hus) ?_ ?_ ?_ ?_
   ·rw [zT];exact Nat.ne_of_lt (Nat.lt_succ_of_lt la)
   ·rw [zT];exact Nat.ne_of_lt (Nat.lt_succ_self _)
   ·refine ⟨⟨_,Heap.get?_push_size _ rfl,rfl,by simp [rawInt,sz]⟩,Heap.get?_push_of_some _ h1',Heap.get?_push_of_some _ (Heap.get?_push_size _ rfl)⟩
   ·exact fun b o e=>Heap.get?_push_of_some _ (Heap.get?_push_of_some _ e)
   ·intro b hb
    simp only [List.mem_cons,List.not_mem_nil,or_false] at hb
    rcases hb with e | e | e
    ·right;rw [e,zT];exact Nat.le_succ _
    ·exact .inl e
    ·right;rw [e];exact Nat.le_refl _
   ·rw [zT];exact Nat.le_succ _
  ·have:=hp.length_eq
   have b1:scanBound=4096:=rfl
   simp at this ⊢
   rw [sizeLine_eq]
   trivial
 ·have hd':(!(w.params.followText "set-order") && (!tb.plain && decide (xs.size > 1)))=false:=by simpa using hd
  rw [hd']
  simp only [↓reduceIte,Bool.false_eq_true]
  refine wpAny_bind (wpAny_pure ?_)
  refine wpAny_bind ?_
  unfold setEpoch
  refine wpAny_bind (wpAny_setState_of h1 h3 h7 (wpAny_pure ?_))
  simp only [newFields]
  refine wpAny_bind (wpAny_newObj_type (wpAny_pure ⟨(), "set_iterator",_,⟨_,Heap.get?_push_size _ rfl,rfl⟩,eC.lookup,?_⟩))
  have fin:∀(us:List Value) (sl:Nat→Nat),us.Perm (xs.toList.map (·.2))→sl 0=0→(∀i v,us[i]?=some v→wZ prog w a ob ep (sl i) i (some (v,sl (i+1))))→wZ prog w a ob ep (sl n) n none→Q (.ref s.heap.objs.size) { s with heap:=s.heap.push { cls:=.type "set_iterator",data:=.fields [rawInt 0,rawInt 0,.ref a,rawInt xs.size,rawInt ep].toArray } }:=fun us sl pu s0 gv gn=>by
   obtain ⟨k1,k2⟩:=zX h4 h5 h8 pu
   have hul:us.length=n:=by have:=pu.length_eq;simp at this;trivial
   refine h _ s.drawn _ us [_,a] _ k1 k2 hul (fun A' hA=>Kt (ob:=ob) (sl:=sl) hA (Nat.ne_of_lt la) h3 h7 sz hul gv gn) ?_ (fun b o e=>Heap.get?_push_of_some _ e) ?_ (Nat.le_refl _)
   ·exact ⟨⟨_,Heap.get?_push_size _ rfl,rfl,by simp [rawInt,sz,s0]⟩,Heap.get?_push_of_some _ h1⟩
   ·intro b hb
    simp only [List.mem_cons,List.not_mem_nil,or_false] at hb
    rcases hb with e | e
    ·right;rw [e];exact Nat.le_refl _
    ·exact .inl e
  cases ht:w.params.followText "set-order" with
  | true=>
   have pp:=Ef (w.params.setOrder a ep) xs
   refine fin ((pickOrder (w.params.setOrder a ep) xs).toList.map (·.2)) (fun _=>0) (pp.map _) rfl (fun i v hv A' E' s' Q' g1 g2=>uz g1 h3 h7 ht ?_) fun A' E' s' Q' g1 g2=>uz g1 h3 h7 ht ?_
   ·rw [List.getElem?_map] at hv
    obtain ⟨z,e1,rfl⟩:=Option.map_eq_some_iff.mp hv
    have e2:(pickOrder (w.params.setOrder a ep) xs)[i]?=some z:=by rw [←Array.getElem?_toList];exact e1
    rw [e2]
    exact g2
   ·have e2:(pickOrder (w.params.setOrder a ep) xs)[n]?=none:=by
     have:=pp.length_eq
     rw [Array.getElem?_eq_none_iff]
     simp at this
     trivial
    rw [e2]
    exact g2
  | false=>
   rw [ht] at hd'
   have hd2:(!tb.plain && decide (xs.size > 1))=false:=by simpa using hd'
   have led:tb.led=true:=by rw [h9.2];unfold eF;rw [ht];rfl
   have ps:tb.place.size=xs.size:=by
    have:=h7
    simp [SetTable.fits] at this
    exact this.1
   refine fin (xs.toList.map (·.2)) (fun i=>if i=0 then 0 else tb.place.getD (i - 1) 0+1) (.refl _) rfl (fun i v hv A' E' s' Q' g1 g2=>si g1 h3 h7 ht hd2 led ?_) fun A' E' s' Q' g1 g2=>si g1 h3 h7 ht hd2 led ?_
   ·have hi:i<xs.size:=by have:=(List.getElem?_eq_some_iff.mp hv).1;simpa using this
    have eb:SetTable.below tb.place (if i=0 then 0 else tb.place.getD (i - 1) 0+1)=i:=by
     split
     ·rename_i q;rw [q];exact wA h9.1
     ·rw [wY h9.1 (by trivial)];trivial
    rw [eb]
    rw [List.getElem?_map] at hv
    obtain ⟨z,e1,rfl⟩:=Option.map_eq_some_iff.mp hv
    have e2:xs[i]?=some z:=by rw [←Array.getElem?_toList];exact e1
    have e3:tb.place[i]?=some (tb.place.getD i 0):=by
     have:i<tb.place.size:=by trivial
     rw [Array.getElem?_eq_getElem this]
     simp [Array.getD,this]
    rw [e2,e3]
    obtain ⟨z1,z2⟩:=z
    simpa using g2
   ·have eb:SetTable.below tb.place (if n=0 then 0 else tb.place.getD (n - 1) 0+1)=n:=by
     split
     ·rename_i q;rw [q];exact wA h9.1
     ·rw [wY h9.1 (by trivial)];trivial
    rw [eb,Array.getElem?_eq_none (by trivial)]
    exact g2
end
section
variable {prog:Program}{w:World}{A:Around}{E:Value→Shared→Prop}{s:Shared}{a:Addr}
theorem EG {Q:Bool→Shared→Prop} (hT:s.TypeIs (.ref a) "set") (h:Q false s):wpAny (model prog w) A (Builtin.List.listLengthHint (.ref a)) Q E s:=by
 unfold Builtin.List.listLengthHint
 refine wpAny_bind (wpAny_specialOf hT PySem.F.slot_set_len.lookup ?_)
 generalize hid:("set.__len__" : String)=id1
 wp_delta
 rw [show splitId id1=some ("set", "__len__") from by rw [←hid];decide +kernel]
 subst hid
 refine wpAny_bind (wpAny_isInstance (T := "set") (b:=true) hT (by rw [isSubtype_type];kernel_rfl) ?_)
 refine wpAny_ite_split (fun z=>absurd z (by decide)) (fun _=>wpAny_ite_split (fun _=>wpAny_bind (wpAny_typeOf hT (wpAny_pure h))) (fun z=>absurd (by nofun) z))
theorem Bk {ks:List ay}{R:Result→Shared→Prop} (H:gM prog w s.heap a ks) (hh:A.handled=none) (hz:ks.length≤4000) (L:Addr) (ne:L≠a) (res:Value) (c0:Nat) (hL:s.heap.get? L=some { cls:=.type "list",data:=.seq #[] c0 })
 (hR:∀(h':Heap) d' tk (us:List Value) c',(us.map kf).Perm (cQ ks)→(∀v,v∈us→bG (kf v) v=true)→(∀b o,b≠L→s.heap.get? b=some o→h'.get? b=some o)→h'.get? L=some { cls:=.type "list",dict:=none,data:=.seq us.toArray c',slots:=#[] }→R (.ok (.ret res)) { s with heap:=h',drawn:=d',toks:=tk }) :
 wpAny (model prog w) A.in1 (Builtin.List.listExtendWith (.ref L) (.ref a) res)
  (fun f s'=>match f with | .done q=>R (.ok q) s' | .again c=>c.quiet=true∧codeAny (model prog w) A c R s') (fun e s'=>R (.error e) s') s:=by
 have hT:s.TypeIs (.ref a) "set" := let ⟨o,_,_,_,h1,h2,_⟩:=H;⟨o,h1,h2.1⟩
 have la:L<s.heap.objs.size:=Heap.lt_size hL
 have ol:=lq ks
 unfold Builtin.List.listExtendWith
 refine wpAny_bind (wpAny_typeOf (T := "set") hT ?_)
 have z1:Builtin.List.listSameRef (.ref L) (.ref a)=false:=by simp [Builtin.List.listSameRef,ne]
 have z2:(Value.type "set" == Value.type "list")=false:=by decide
 have z3:(Value.type "set" == Value.type "tuple")=false:=by decide
 simp only [z1,z2,z3,Bool.or_false,Bool.false_eq_true,if_false]
 refine wpAny_bind (GP H rfl fun h1 d1 I us fp St k1 k2 ul W st kp fb li=>?_)
 have nI:L≠I:=Nat.ne_of_lt (Nat.lt_of_lt_of_le la li)
 have nf:L∉fp:=fun hb=>by
  rcases fb L hb with e | e
  ·exact ne e
  ·exact absurd la (Nat.not_lt.mpr e)
 have key:∀(h:Heap) (c1 tk:Nat),St 0 h→(∀b o,b≠L→s.heap.get? b=some o→h.get? b=some o)→h.get? L=some { cls:=.type "list",data:=.seq #[] c1 }→
  codeAny (model prog w) A (.builtin "list.extend.loop" ⟨[.ref L,.ref I,res],[]⟩) R { s with heap:=h,drawn:=d1,toks:=tk }:=fun h c1 tk hst hk hl=>by
  refine codeAny_extend_loopS (W A.in1 hh).toS (by rw [sizeLine_eq];trivial) L nf res _ 0 _ #[] c1 rfl (Nat.zero_le _) hst hl (ItemsOf.nil _) fun s' acc c' m hl' it=>?_
  have ea:acc=us.toArray:=by
   refine Array.ext (by simpa [ul] using it.1) fun i q1 q2=>?_
   have:us[i]?=some acc[i]:=it.2 i acc[i] (Array.getElem?_eq_getElem q1)
   have q2':i<us.length:=by simpa using q2
   rw [List.getElem?_eq_getElem q2'] at this
   simpa using (Option.some.inj this).symm
  rw [ea] at hl'
  obtain ⟨hp',g',d2,tk',os'⟩:=s'
  cases (show g'=s.gens from m.gens)
  cases (show d2=d1 from m.drawn)
  cases (show os'=s.os from m.os)
  refine hR hp' _ tk' us c' k1 k2 (fun b o hb e=>m.heap b o (fun hm=>?_) (hk b o hb e)) hl'
  rcases List.mem_cons.mp hm with e' | hm
  ·exact hb e'
  ·exact absurd (Heap.lt_size e) (Nat.not_lt.mpr (List.mem_singleton.mp hm▸li))
 have hL1:=kp L _ hL
 obtain ⟨oS,_,_,_,a1,a2,_⟩:=id H
 refine wpAny_bind (wpAny_holding (EG ⟨oS,kp _ _ a1,a2.1⟩ ?_))
 refine wpAny_ite_split (fun _=>?_) (fun _=>wpAny_pure ⟨plainId_quiet PySem.F.plain_extend_loop _,key _ c0 s.toks st (fun b o _ e=>kp b o e) hL1⟩)
 refine wpAny_bind (wpAny_rule ?_)
 refine wpAny_bind ?_
 show wpAny _ _ (updateSeq L (·.push .none) >>= fun _=>updateSeq L (·.pop)) _ _ _
 have hL2:=Heap.get?_update_self (Obj.mapSeq (·.push Value.none)) hL1 rfl
 have hL3:=Heap.get?_update_self (Obj.mapSeq (·.pop)) hL2 rfl
 refine wpAny_bind (wpAny_updateSeq hL1 rfl (wpAny_updateSeq (hz:=by seq_fits) hL2 rfl (wpAny_pure ⟨plainId_quiet PySem.F.plain_extend_loop _,key _ _ s.toks ((W A.in1 hh).frame 0 _ _ st fun b hb o e=>?_) (fun b o hb e=>?_) hL3⟩)))
 ·have hb':b≠L:=fun q=>nf (q▸hb)
  exact cp hb' _ (cp hb' _ e)
 ·exact cp hb _ (cp hb _ (kp b o e))
theorem Az {ks:List ay}{Q:List Value→Shared→Prop} (H:gM prog w s.heap a ks) (hh:A.handled=none) (hz:ks.length≤4000)
 (h:∀(h':Heap) d' tk (us:List Value),(us.map kf).Perm (cQ ks)→(∀v,v∈us→bG (kf v) v=true)→(∀b o,s.heap.get? b=some o→h'.get? b=some o)→s.heap.objs.size≤h'.objs.size→Q us { s with heap:=h',drawn:=d',toks:=tk }) :
 wpAny (model prog w) A (collect (.ref a)) Q E s:=by
 have la:a<s.heap.objs.size:=let ⟨o,_,_,_,h1,_⟩:=H;Heap.lt_size h1
 unfold collect
 refine wpAny_bind (wpAny_runValue (codeAny_builtin entry_proto_collect' ?_))
 rw [Around.under_plainId PySem.F.plain_proto_collect _]
 show wpAny _ A.in1 (newList [] >>= fun l=>again (.builtin "list.__iadd__" ⟨[l,.ref a],[]⟩)) _ _ s
 refine wpAny_bind (wpAny_newObj_type (wpAny_pure ⟨plainId_quiet PySem.F.plain_list_iadd _,codeAny_builtin entry_list_iadd' ?_⟩))
 rw [Around.under_plainId PySem.F.plain_list_iadd _]
 show wpAny _ A.in1 (Builtin.List.listExtendWith (.ref s.heap.objs.size) (.ref a) (.ref s.heap.objs.size)) _ _ _
 have kp0:∀b o,s.heap.get? b=some o→(s.heap.push { cls:=.type "list",data:=.seq ([]:List Value).toArray }).get? b=some o:=fun b o e=>Heap.get?_push_of_some _ e
 have key:=Bk (A:=A) (s:={ s with heap:=s.heap.push { cls:=.type "list",data:=.seq ([]:List Value).toArray } })
  (R:=fun (q:Result) (s':Shared)=>A3 fun (h':Heap) (d':_) (tk:_) (us:List Value) (c':Nat)=>q=.ok (.ret (.ref s.heap.objs.size))∧s'={ s with heap:=h',drawn:=d',toks:=tk }∧(us.map kf).Perm (cQ ks)∧(∀v,v∈us→bG (kf v) v=true)∧(∀b o,s.heap.get? b=some o→h'.get? b=some o)∧h'.get? s.heap.objs.size=some { cls:=.type "list",dict:=none,data:=.seq us.toArray c',slots:=#[] })
  (ig.but H fun o e=>kp0 _ _ e) hh hz s.heap.objs.size (Nat.ne_of_gt la) (.ref s.heap.objs.size) 0 (Heap.get?_push_size _ rfl) (fun h' d' tk us c' k1 k2 kp hl=>⟨h',d',tk,us,c',rfl,rfl,k1,k2,fun b o e=>kp b o (Nat.ne_of_lt (Heap.lt_size e)) (kp0 b o e),hl⟩)
 refine wpAny_mono key (fun f s' x=>?_) fun e s' x=>?_
 ·cases f with
  | done q=>
   obtain ⟨h',d',tk,us,c',e,rfl,k1,k2,kp,hl⟩:=x
   cases e
   show wpAny _ A (load s.heap.objs.size >>= _) _ _ _
   refine wpAny_bind (wpAny_load hl (wpAny_pure ?_))
   simpa using h h' d' tk us k1 k2 kp (Nat.le_of_lt (Heap.lt_size hl))
  | again c1=>
   refine ⟨x.1,codeAny_mono x.2 fun q s2 y=>?_⟩
   obtain ⟨h',d',tk,us,c',rfl,rfl,k1,k2,kp,hl⟩:=y
   show wpAny _ A (load s.heap.objs.size >>= _) _ _ _
   refine wpAny_bind (wpAny_load hl (wpAny_pure ?_))
   simpa using h h' d' tk us k1 k2 kp (Nat.le_of_lt (Heap.lt_size hl))
 ·obtain ⟨_,_,_,_,_,e',_⟩:=x
  cases e'
theorem yB:∀{us:List Value}{ns:List Str},us.map kf=ns.map Sum.inr→(∀v,v∈us→bG (kf v) v=true)→StrsAre us ns
 | [],[],_,_=>.nil
 | v :: us,n :: ns,e,k=>by
  injection e with e1 e2
  have kv:=k v (by simp)
  rw [e1] at kv
  obtain ⟨i,t,q,_⟩ | ⟨x,t,q,rfl⟩:=cg kv
  ·cases q
  ·cases q
   exact .cons _ _ (yB e2 fun u hu=>k u (by simp [hu]))
theorem GA {ks:List ay}{ns:List Str} (h:∀k,k∈ks→k∈ns.map Sum.inr):∃ms:List Str,ks=ms.map Sum.inr:=by
 induction ks with
 | nil=>exact ⟨[],rfl⟩
 | cons k r ih=>
  obtain ⟨ms,e⟩:=ih fun j hj=>h j (by simp [hj])
  obtain ⟨i,_,e2⟩:=List.mem_map.mp (h k (by simp))
  exact ⟨i :: ms,by rw [e,←e2];rfl⟩
theorem C7 {α β:Type}{f:α→β}{l:List α} (h:(l.map f).Nodup):l.Nodup:=by
 induction l with
 | nil=>exact List.nodup_nil
 | cons x r ih=>
  rw [List.map_cons,List.nodup_cons] at h
  exact List.nodup_cons.mpr ⟨fun hx=>h.1 (List.mem_map.mpr ⟨x,hx,rfl⟩),ih h.2⟩
theorem Ar {ns:List Str}{Q:Value→Shared→Prop} (H:gM prog w s.heap a (ns.map Sum.inr)) (hh:A.handled=none) (hz:ns.length≤60)
 (h:∀(h':Heap) d' tk (D:Addr) (out:List Value) (ms:List Str) e,StrsAre out ms→ms.Nodup→(∀x,x∈ms↔x∈ns)→(∀b o,s.heap.get? b=some o→h'.get? b=some o)→s.heap.objs.size≤D→h'.get? D=some (seqObj "list" out.toArray e)→Q (.ref D) { s with heap:=h',drawn:=d',toks:=tk }) :
 wpAny (model prog w) A (call (.builtin "sorted") [.ref a]) Q E s:=by
 refine Calls.call_function_entry kind_sorted plain_sorted entry_sorted (args_sorted1 _) ?_
 unfold Builtin.«sorted»
 refine wpAny_bind (m:=checkCount "sorted" 1 1 _) (wpAny_pure ?_)
 refine wpAny_bind (Az (A:=A.in1) H hh (by simp;trivial) fun h' d' tk us k1 k2 kp kz=>?_)
 have ul:us.length≤60:=by
  have:=k1.length_eq
  have:=lq (ns.map (Sum.inr:Str→ay))
  simp at *
  trivial
 refine wpAny_bind (wpAny_newList ?_ (by rw [sizeLine_eq];trivial))
 have km:∀k,k∈us.map kf→k∈ns.map (Sum.inr:Str→ay):=fun k hk=>(qW _ k).mp (k1.mem_iff.mp hk)
 obtain ⟨ms0,e0⟩:=GA km
 have iu:=yB e0 k2
 have hD:(h'.push (seqObj "list" us.toArray 0)).get? h'.objs.size=some (seqObj "list" us.toArray 0):=Heap.get?_push_size _ rfl
 refine wpAny_bind (wpAny_holding (wpAny_call_entry slot_list_sort ⟨_,hD,rfl⟩ entry_list_sort (list_sort_treeK strKind_oneLt hD iu.keysOf (fun v₁ v₂ rest e=>keyKind_strs (by rw [←e];exact iu)) (by trivial) fun st' hp hs=>⟨(),?_⟩) (args_list_sort _)))
 obtain ⟨ns',a1,a2,a3⟩:=sorted_out_str iu hp hs
 obtain ⟨e,he⟩:=sortedHeap_at (out:=(arrOf st').map (·.2)) hD
 have nd:ns'.Nodup:=by
  refine (a2.nodup_iff).mpr ?_
  have:(us.map kf).Nodup:=(k1.nodup_iff).mpr (A8 _)
  rw [e0] at this
  exact C7 this
 refine wpAny_pure ⟨(),?_⟩
 refine h _ d' tk _ ((arrOf st').map (·.2)).toList ns' e a1 nd (fun x=>?_) (fun b o eb=>?_) kz (by rw [Array.toArray_toList];exact he)
 ·rw [a2.mem_iff]
  have:x∈ms0↔(Sum.inr x:ay)∈us.map kf:=by rw [e0];simp
  rw [this,k1.mem_iff,qW]
  simp
 ·have lb:b<s.heap.objs.size:=Heap.lt_size eb
  have lb':b<h'.objs.size:=Nat.lt_of_lt_of_le lb kz
  rw [sortedHeap_old (Nat.ne_of_lt lb') (by rw [Heap.size_push];exact Nat.lt_succ_of_lt lb')]
  exact Heap.get?_push_of_some _ (kp b o eb)
end
theorem af.drw {X:Cx}{pins:List (Addr×Obj)}{σ:List (Option V)}{H:Hp}{s:Shared} (I:af X pins σ H s) (d:Drawn):af X pins σ H { s with drawn:=d }:=⟨I.ok,I.os,I.bare,I.base,I.loc,I.cell,I.free,I.freeC,I.pin,I.hok,I.len⟩
theorem yZ:bootBuiltins "sorted" = some (.builtin "sorted"):=by nofun
theorem zj:∀{us:List Value}{ns:List Str},StrsAre us ns→aA (ns.map V.str) us
 | [],_,h=>by cases h;exact .nil
 | u :: us,_,h=>by
  cases h with
  | cons i t h=>exact .cons ⟨t,rfl⟩ (zj h)
def DU (K:PySem.W.Frag) (x:V) (H:Hp) (Q:VK):Prop:=aZ fun (a:Addr) (ns:List Str)=>x=.ref a∧(ah K H a (ns.map V.str)∨ag K H a (ns.map V.str))∧ns.length≤60∧∀(l:Addr) (ms:List Str) H',ms.Nodup→(∀i,i∈ms↔i∈ns)→Nw H l (.lst (ms.map V.str)) H'→Q (.ref l) H'
def ID (K:PySem.W.Frag) (te:TE):TE:=fun σ H Q=>te σ H fun x H1=>DU K x H1 Q
section
variable {X:Cx}{K:PySem.W.Frag}{e:Expr}{te:TE}{p1 p2 p3 p4:Pos}
theorem E7 (he:PE X e te) (hc:X.calm=true) (hg1:Gl X "sorted") (hm1:X.mg "sorted" = none) (hg2:Gl X "set") (hm2:X.mg "set" = none) (ek:X.K=K:=by rfl) (hs:pY e=true:=by rfl) :
 PE X (.Call (.Name "sorted" p1) [.Call (.Name "set" p2) [e] [] p3] [] p4) (ID K te):=by
 subst ek
 intro pins s σ H Q I h
 refine wpAny_Call_Name_kw (iA I hg1 hm1 yZ ?_ (by decide) (by decide))
 refine PyProof.Rows.callWith_builtin1 ?_ (l7 rfl) rfl
 refine Calls.spliced_cons ?_
 refine wpAny_Call_Name_kw (iA I hg2 hm2 vz ?_ (by decide) (by decide))
 refine PyProof.Rows.callWith_type1 ?_ (l7 hs) rfl
 refine aO (Cp he bc hs p3 pins s σ H (fun xs H1=>match xs with | [x]=>DU X.K x H1 Q | _=>False) I h) fun us s1 ⟨vs,H1,I1,r1,q1⟩=>?_
 match vs,r1,q1 with
 | [x],r1,q1=>
 obtain ⟨u,rfl,ru⟩:=ny r1
 obtain ⟨a,ns,rfl,hq,hz,q⟩:=q1
 cases ru
 have go:∀(its:List Value) (c:Bool),aA (ns.map V.str) its→(if c=true then s1.heap.IsList a its.toArray else s1.heap.IsTuple a its.toArray)→wpAny (model X.prog X.w) X.A (call (.type "set") [.ref a]) (fun v s2=>wpAny (model X.prog X.w) X.A (call (.builtin "sorted") [v]) (EP X pins σ Q) X.xe s2) X.xe s1:=fun its c rv hl=>by
  have rv':aA ((ns.map (Sum.inr:Str→ay)).map dA) its:=by rw [List.map_map];exact rv
  obtain ⟨z1,z2⟩:=ue rv'
  refine C6 (I1.ok.hd hc) hl z1 z2 (by simp;show ns.length+1<4096;trivial) fun h' tk S kp=>?_
  have kp':∀b o,s1.heap.get? b=some o→h'.get? b=some o:=fun b o e=>kp b o (Heap.lt_size e) e
  have I2:af X pins σ H1 { s1 with heap:=h',toks:=tk }:=I1.kept kp'
  refine Ar (s:={ s1 with heap:=h',toks:=tk }) S (I1.ok.hd hc) hz fun h2 d2 tk2 D out ms e io nd mi k2 lD hD=>?_
  have zms:ms.length≤60:=by
   have sub:∀l m:List Str,l.Nodup→(∀x,x∈l→x∈m)→l.length≤m.length:=fun l m nd sb=>by
    induction l generalizing m with
    | nil=>exact Nat.zero_le _
    | cons y r ih=>
     have nd':=List.nodup_cons.mp nd
     have hy:=sb y (by simp)
     have:=ih (m.erase y) nd'.2 fun x hx=>(List.mem_erase_of_ne (fun e=>nd'.1 (by rw [←e];exact hx))).mpr (sb x (by simp [hx]))
     rw [List.length_erase_of_mem hy] at this
     have:=List.length_pos_of_mem hy
     simp
     trivial
   exact Nat.le_trans (sub _ _ nd fun x hx=>(mi x).mp hx) hz
  have I3:=(I2.drw d2).laid (a:=D) (o:=.lst (ms.map V.str)) (t':=tk2) (h':=h2) (fun b u q=>k2 b u q) lD ⟨by rw [List.length_map,sizeLine_eq];trivial,out,e,zj io,hD⟩
  exact ⟨.ref D,_,I3,rfl,q _ _ _ nd mi (.mk' ((I2.drw d2).hok.fresh lD))⟩
 have fin:=fun (v:Value) (s2:Shared) (z:wpAny (model X.prog X.w) X.A (call (.builtin "sorted") [v]) (EP X pins σ Q) X.xe s2)=>(Calls.spliced_nil z:wpAny (model X.prog X.w) X.A (spliced []) (fun vs s3=>wpAny (model X.prog X.w) X.A (call (.builtin "sorted") (v :: vs)) (EP X pins σ Q) X.xe s3) X.xe s2)
 rcases hq with hq | hq
 ·obtain ⟨its,rv,p,_⟩:=I1.list hq
  exact aO (go its true rv p.isList) fun v s2 z=>fin v s2 z
 ·obtain ⟨its,rv,p,_⟩:=I1.tuple hq
  exact aO (go its false rv p) fun v s2 z=>fin v s2 z
end
section
variable {prog:Program}{w:World}{A:Around}{E:Value→Shared→Prop}{s:Shared}
end
section
variable {X:Cx}{a:Expr}{ta:TA}{p p2 pos pos2:Pos}
end
section
variable {X:Cx}
end
section
variable {z:Nat}{E:Addr→Prop}{H H':Hp}{n m k:Nat}{v:V}{xs ys:List V}
end
section
variable {z:Nat}{E:Addr→Prop}{H H':Hp}{n m k:Nat}{v:V}{xs ys:List V}
end
theorem vD (f:Nat→Int):∀(n i:Nat),i≤n→f (argBest (fun i j=>decide (f i<f j)) n)≤f i
 | 0,i,h=>by rw [show i=0 by trivial];exact Int.le_refl _
 | n+1,i,h=>by
  have ih:=vD f n
  unfold argBest
  by_cases q:f (n+1)<f (argBest (fun i j=>decide (f i<f j)) n)
  ·rw [if_pos (decide_eq_true q)]
   rcases Nat.lt_or_ge i (n+1) with z | z
   ·exact Int.le_trans (Int.le_of_lt q) (ih i (by trivial))
   ·rw [show i=n+1 by trivial];exact Int.le_refl _
  ·rw [if_neg (by simpa using q)]
   rcases Nat.lt_or_ge i (n+1) with z | z
   ·exact ih i (by trivial)
   ·rw [show i=n+1 by trivial];exact Int.not_lt.mp q
inductive Jk (xs:List V) (H:Hp) (Q:VK):Prop
 | mk (a:Addr) (ks:List Int) (h0:xs=[.ref a]) (h1:H a=some (.lst (ks.map V.int))) (h2:ks≠[]) (h3:∀k∈ks,(∀j∈ks,k≤j)→Q (.int k) H)
def Ko:List V→Hp→VK→Prop:=fun xs H Q=>Jk  xs H Q
section
variable {X:Cx}
theorem DV (hc:X.calm=true):dj X (.builtin "min") Ko:=by
 intro pins s σ H xs us Q I r h
 obtain ⟨a,ks,rfl,ha,hne,q⟩:=h
 obtain ⟨u,rfl,ru⟩:=ny r
 cases ru
 obtain ⟨z,its,n,rv,hl,e⟩:=I.lstM ha
 obtain ⟨ps,e1,e2⟩:=AD rv
 have hi:s.heap.IsList a (intItems ps.toArray):=⟨_,e,rfl,n,by rw [e1];simp [intItems]⟩
 have hp:0<ps.toArray.size:=by
  rw [List.size_toArray]
  cases ps with
  | nil=>exact absurd e2 hne
  | cons p r=>simp
 refine min_intList (I.ok.hd hc) hi hp fun v h' tk hv hk=>?_
 have am:=vD (fun i=>numAt ps.toArray i) (ps.toArray.size - 1)
 generalize argBest (fun i j=>decide (numAt ps.toArray i<numAt ps.toArray j)) (ps.toArray.size - 1)=b at hv am
 simp only [intItems,Array.getElem?_map,Option.map_eq_some_iff] at hv
 obtain ⟨p,hp',rfl⟩:=hv
 have hm:p∈ps:=by
  have:=Array.mem_of_getElem? hp'
  simpa using this
 have at':∀{i:Nat}{p:Int×Tok},ps.toArray[i]?=some p→numAt ps.toArray i=p.1:=fun h=>by
  unfold numAt;rw [h];rfl
 refine ⟨.int p.1,H,I.kept hk,⟨()⟩,q p.1 (by rw [e2];exact List.mem_map_of_mem hm) fun j hj=>?_⟩
 rw [e2] at hj
 obtain ⟨p2,m2,rfl⟩:=List.mem_map.mp hj
 obtain ⟨i,hi2⟩:=List.mem_iff_getElem?.mp m2
 have hi3:ps.toArray[i]?=some p2:=by simpa using hi2
 have:=am i (by have:=(List.getElem?_eq_some_iff.mp hi2).1;rw [List.size_toArray];trivial)
 rw [at' hp',at' hi3] at this
 exact this
end
end L2
namespace L2
open PySem PySem.Spec PyProof.Rows Builtin
section
variable {prog:Program}{w:World}{A:Around}{E:Value→Shared→Prop}{s:Shared}
theorem Aa {it t:Addr}{items:Array Value} (hne:t≠it):∀(n i:Nat) (s:Shared) (Q:List Value→Shared→Prop),s.heap.IsListIter it t i→s.heap.IsList t items→i+n≤items.size→
 (∀h',h'.IsListIter it t (i+n)→Heap.SameBut it s.heap h'→Q ((items.toList.drop i).take n) { s with heap:=h' })→wpAny (model prog w) A (draw (.ref it) n) Q E s
 | 0,i,s,Q,hit,_,_,hQ=>by
  show wpAny _ _ (pure []) Q E s
  exact wpAny_pure (by simpa using hQ s.heap hit (Heap.SameBut.refl ..))
 | n+1,i,s,Q,hit,ht,hle,hQ=>by
  have hlt:i<items.size:=by trivial
  show wpAny _ _ (pyNext (.ref it) >>= _) Q E s
  refine wpAny_bind (wpAny_pyNext_list_item hit ht (x:=items[i]) (by simp [hlt]) fun h₁ hit₁ hs₁=>?_)
  refine wpAny_bind (wpAny_holding (Aa hne n (i+1) _ _ hit₁ (ht.extBut hs₁.extBut hne) (by trivial) fun h₂ hit₂ hs₂=>wpAny_pure ?_))
  have hd:items.toList.drop i=items[i] :: items.toList.drop (i+1):=by simp [List.drop_eq_getElem_cons,hlt]
  have:=hQ h₂ (by rw [show i+(n+1)=i+1+n by trivial];exact hit₂) (hs₁.trans hs₂)
  rw [hd,List.take_succ_cons] at this
  exact this
theorem wU {t:Addr}{items:Array Value}{Q:List Value→Shared→Prop} (hh:A.handled=none) (ht:s.heap.IsList t items)
 (hQ:∀h',Heap.ExtBut s.heap.objs.size s.heap h'→Q items.toList { s with heap:=h' }):wpAny (model prog w) A (unpackItems (.ref t) items.size none) Q E s:=by
 have hlt:t≠s.heap.objs.size:=by obtain ⟨o,ho,_⟩:=ht;exact Nat.ne_of_lt (Heap.lt_size ho)
 unfold unpackItems
 refine wpAny_bind ?_
 ·unfold notIterableAtAll
  refine wpAny_bind (wpAny_specialOf ht.typeIs F.slot_list_iter.lookup ?_)
  refine wpAny_pure ?_
  simp only [Bool.false_eq_true,if_false]
  refine wpAny_bind (wpAny_holding (wpAny_pyIter_list ht ?_))
  refine wpAny_bind (wpAny_holding (Aa hlt items.size 0 _ _ ⟨_,Heap.get?_push_size _ rfl,rfl,rfl⟩ (ht.push _) (by trivial) fun h₁ hit₁ hs₁=>?_))
  have hall:List.take items.size (List.drop 0 items.toList)=items.toList:=by
   rw [List.drop_zero];exact List.take_of_length_le (by simp)
  rw [hall]
  rw [if_neg (by simp)]
  have ht₁:h₁.IsList t items:=(ht.push _).extBut hs₁.extBut hlt
  refine wpAny_bind (wpAny_holding (wpAny_pyNext_list_end hh hit₁ ht₁ (by simp) fun h₂ he₂=>?_))
  simp only [Option.isSome_none,Bool.false_eq_true,if_false]
  refine wpAny_pure (hQ h₂ fun b o hb e=>he₂ b o hb (hs₁.extBut b o hb (Heap.get?_push_of_some _ e)))
theorem wj {env:Env}{elts:List Expr}{x1}{pos:Pos}{t:Addr}{items:Array Value}{Q:Unit→Shared→Prop} (hh:A.handled=none) (ht:s.heap.IsList t items)
 (hn:(assignEach elts env).length=items.size) (hstar:(assignEach elts env).findIdx? (·.1)=none)
 (h:∀h',Heap.ExtBut s.heap.objs.size s.heap h'→wpAny (model prog w) A (assignInOrder ((assignEach elts env).map (·.2)) items.toList) Q E { s with heap:=h' }) :
 wpAny (model prog w) A (assign (.Tuple elts x1 pos) env (.ref t)) Q E s:=by
 rw [assign_Tuple]
 refine wpAny_bind (wpAny_standAt ?_)
 unfold unpack
 rw [hn,hstar]
 exact wpAny_bind (wpAny_holding (wU hh ht h))
end
section
variable {X:Cx}{pos:Pos}
inductive JK (n:Nat) (t:p5) (v:V) (σ:St) (H:Hp) (Q:St→Hp→Prop):Prop
 | mk (a:_) (xs:_) (h0:v=.ref a) (h1:H a=some (.lst xs)) (h2:xs.length=n) (h3:t xs σ H Q)
def LC (n:Nat) (t:p5):TG:=fun v σ H Q=>JK n t v σ H Q
theorem Hn {es:List Expr}{k:Nat}{t:p5}{n:Nat} (hc:X.calm=true) (h:AY X es t)
 (hn:(assignEach es X.env).length=n:=by rfl) (hst:(assignEach es X.env).findIdx? (·.1)=none:=by rfl):PG X (.Tuple es k pos) (LC n t):=by
 intro pins s σ H v u Q I r hw
 obtain ⟨a,xs,e1,hq,hl,hw⟩:=hw
 subst e1
 cases r
 obtain ⟨z,its,m,rv,hl2,e⟩:=I.lstM hq
 have hi:s.heap.IsList a its.toArray:=⟨_,e,rfl,m,rfl⟩
 refine wj (I.ok.hd hc) hi (by simp [hn,←hl,rv.length]) hst fun h' hx=>?_
 have I1:af X pins σ H { s with heap:=h' }:=I.kept (t':=s.toks) fun b o e=>hx b o (Nat.ne_of_lt (Heap.lt_size e)) e
 exact h pins _ σ H xs _ Q I1 (by simpa using rv) hw
end
end L2
namespace L2
open PySem PySem.Spec PyProof.Rows
section
variable {X:Cx}
end
def IA (ta tb:TE):TE:=fun σ H Q=>ta σ H fun x H1=>(x=.non∧tb σ H1 Q)∨(fD fun p y xs=>x=.ref p∧H1 p=some (.tup (y :: xs))∧Q x H1)
section
variable {X:Cx}{a b:Expr}{rest:List Expr}{pos:Pos}{ta tb:TE}
theorem Iv (ha:PE X a ta) (hb:PE X (.BoolOp .Or (b :: rest) pos) tb):PE X (.BoolOp .Or (a :: b :: rest) pos) (IA ta tb):=by
 intro pins s σ H Q I h
 refine BoolOp_or (aO (ha pins s σ H _ I h) fun v s1 ⟨x,H1,I1,r1,q1⟩=>?_)
 rcases q1 with ⟨rfl,q⟩ | ⟨p,y,xs,rfl,hp,q⟩
 ·cases r1
  exact truthy_none (hb pins s1 σ H1 Q I1 q)
 ·cases r1
  obtain ⟨its,r,pl,hz⟩:=I1.tuple (ag.of hp)
  have hs:sizeLine=16777216:=sizeLine_eq
  have hlen:=r.length
  refine truthy_tuple pl (by simp only [List.size_toArray];trivial) ?_
  rw [BR r]
  exact ⟨.ref p,H1,I1.tok _,rfl,q⟩
end
section
variable {X:Cx}{kx vx tg iter:Expr}{ifs:List Expr}{scope:Scope}{pos:Pos}{N':List Str}{L:Nat}{src:List Nat}{wi:TI}{g:TG}{tt:TT}{tk tv:TE}
end
end L2
set_option maxHeartbeats 4000000
open L2
local macro_rules | `(#[$n:num,$i:ident])=>`(@pw _ $n _ _ (Or.inl $i) (by rfl) (by decide) (by decide)) | `(#[$n:num,($i:ident)])=>`(@pw _ $n _ _ (Or.inr (Or.inl $i)) (by rfl) (by decide) (by decide))
local macro_rules | `(#[$n:num,()])=>`(@pw _ $n _ _ (Or.inl (by kernel_rfl)) (by rfl) (by decide) (by decide)) | `(#[$n:num,0])=>`(@pw _ $n _ _ (Or.inr (Or.inl (by kernel_rfl))) (by rfl) (by decide) (by decide)) | `(#[$n:num,1])=>`(@pw _ $n _ _ (Or.inr (Or.inr (by kernel_rfl))) (by rfl) (by decide) (by decide))
local macro_rules | `(#[()])=>`(@bH _ _ _ _) | `(#[(),()])=>`(@tM _ _ (by decide) (by decide))
local macro_rules | `(#[[$a]])=>`(@Cp _ _ _ _ _ $a (@bc _) rfl) | `(#[[$a,$b,*]])=>`(@Cp _ _ _ _ _ $a #[[$b,*]] rfl)
local macro_rules | `(#[$a[$b]])=>`(@cF _ _ _ _ _ _ _ (@KO _ ($(Lean.mkIdent `K)) (by rfl)) $a $b (fun _ _=>rfl)) | `(#[$a[$b]!])=>`(@cF _ _ _ _ _ _ _ (@JX _ ($(Lean.mkIdent `K)) (by rfl)) $a $b (fun _ _=>rfl))
local macro_rules | `(#[$g:ident,$k:ident,$t:term,$a:term])=>`(@AG _ _ _ _ _ _ _ _ _ _ _ _ _ _ _ _ $g ($(Lean.mkIdent `hr).mono (by decide)) $k ($t).m ($t).F.kp ($t).B .nil (@Fx _) $a (by decide) (by rfl) (by rfl))
local macro_rules | `(#[$g:ident,(),$t:term,$a:term])=>`(@AG _ _ _ _ _ _ _ _ _ _ _ _ _ _ _ _ $g ($(Lean.mkIdent `hr).mono (by decide)) (by show _=_;kernel_rfl) ($t).m ($t).F.kp ($t).B .nil (@Fx _) $a (by decide) (by rfl) (by rfl))
local macro_rules | `(#[$n:num,$s:term,$i:ident,$v:term])=>`(@iq _ _ ($n) _ _ _ _ $s rfl (Or.inl $i) $v (by rfl) (by first | exact .inl rfl | exact .inr rfl | assumption))
local macro_rules | `(#[$n:num,$s:term,$i:ident])=>`(@dc _ _ ($n) _ $s rfl (Or.inl $i) (by first | exact .inl rfl | exact .inr rfl | assumption)) | `(#[$n:num,(),()])=>`(@dc _ _ ($n) _ (@Eg _ (by kernel_rfl)) rfl (Or.inl (by kernel_rfl)) (by first | exact .inl rfl | exact .inr rfl | assumption))
local macro_rules | `(#[(),(),$a,$b,$c,$d,$e])=>`(@lH _ _ _ _ _ _ _ _ _ $a $b $c $d $e (by decide) (by decide) (by rfl) (by rfl))
local macro_rules | `(#[$a :: $b])=>`(@gk _ _ _ _ _ $a $b)
local macro_rules | `(#[$f:ident $n:num $a*])=>do
 let us ←(Array.range n.getNat).mapM fun _=>`(_)
 `(@$f $us* $a*)
local macro_rules | `(#[($f:ident)])=>`($f ($(Lean.mkIdent `P):ident:=$(Lean.mkIdent `P)) ($(Lean.mkIdent `w):ident:=$(Lean.mkIdent `w)) ($(Lean.mkIdent `base):ident:=$(Lean.mkIdent `base)) $(Lean.mkIdent `T))
namespace K18
open PySem L2
def cn (i:Nat):Stmt:=PySem.Challenge.pw_gainroads_k18_betterings_told.main.body.getD i (.Pass ⟨0,0,0,0⟩)
abbrev jY:Stmt:=cn 1
abbrev ia:Stmt:=cn 2
abbrev nY:Stmt:=cn 3
abbrev nV:Stmt:=cn 4
abbrev qw:Stmt:=cn 5
abbrev g8:Stmt:=cn 6
abbrev bJ:Stmt:=cn 8
abbrev cA:Stmt:=cn 9
abbrev pz:Stmt:=cn 11
abbrev aX:Stmt:=cn 12
abbrev dg:Stmt:=cn 13
abbrev bu:Stmt:=cn 14
abbrev bz:Stmt:=cn 16
abbrev bQ:Stmt:=cn 17
abbrev bp:Stmt:=cn 18
abbrev xX:Stmt:=cn 20
abbrev wk:Stmt:=cn 21
abbrev rm:Stmt:=cn 22
abbrev ji:Stmt:=cn 23
abbrev nU:Stmt:=cn 24
abbrev iH:Stmt:=cn 25
abbrev kh:Stmt:=cn 26
abbrev lI:Stmt:=cn 27
abbrev my:Stmt:=cn 28
abbrev bw:Stmt:=cn 29
abbrev dX:Stmt:=cn 30
abbrev fk:Stmt:=cn 31
abbrev eG:Stmt:=cn 32
abbrev bf:Stmt:=cn 33
abbrev aC:Stmt:=cn 34
abbrev aU:Stmt:=cn 35
abbrev aW:Stmt:=cn 36
abbrev dY:Stmt:=cn 37
abbrev d8:Stmt:=cn 38
abbrev bP:Stmt:=cn 39
abbrev aJ:Stmt:=cn 40
abbrev eY:Stmt:=cn 41
abbrev bd:Stmt:=cn 42
abbrev cf:Stmt:=cn 43
abbrev bq:Stmt:=cn 44
abbrev cE:Stmt:=cn 45
abbrev bo:Stmt:=cn 46
abbrev cq:Stmt:=cn 47
abbrev bV:Stmt:=cn 48
theorem mT:aD ["n", "d"] ["n", "d"] (av jY):=⟨rfl,rfl,rfl,by nofun,rfl,by nofun,by nofun⟩
theorem pK:aD ["n", "d", "divisor"] ["n", "d"] (av ia):=⟨rfl,rfl,rfl,by nofun,rfl,by nofun,by nofun⟩
theorem Fg:aD ["one", "other"] ["one", "other"] (av nY):=⟨rfl,rfl,rfl,by nofun,rfl,by nofun,by nofun⟩
theorem EF:aD ["one", "other"] ["one", "other"] (av nV):=⟨rfl,rfl,rfl,by nofun,rfl,by nofun,by nofun⟩
theorem F5:aD ["one", "other"] ["one", "other"] (av qw):=⟨rfl,rfl,rfl,by nofun,rfl,by nofun,by nofun⟩
theorem pE:aD ["one", "other", "left", "right"] ["one", "other"] (av g8):=⟨rfl,rfl,rfl,by nofun,rfl,by nofun,by nofun⟩
theorem ga:aD ["number", "tie", "much", "begin", "end", "most", "gain", "price", "steps"] ["number", "tie", "much"] (av bJ):=⟨rfl,rfl,rfl,by nofun,rfl,by nofun,by nofun⟩
theorem jT:aD ["net", "stream", "steps", "number", "tie"] ["net", "stream"] (av cA):=⟨rfl,rfl,rfl,by nofun,rfl,by nofun,by nofun⟩
theorem Cv:aD ["tie"] ["tie"] (av pz):=⟨rfl,rfl,rfl,by nofun,rfl,by nofun,by nofun⟩
theorem bZ:aD ["net", "worths", "onward", "lifted", "number", "tie", "begin", "end", "most", "gain", "price", "worth"] ["net", "worths", "onward"] (av aX):=⟨rfl,rfl,rfl,by nofun,rfl,by nofun,by nofun⟩
theorem jy:aD ["net", "onward", "place", "places", "ties"] ["net", "onward", "place"] (av dg):=⟨rfl,rfl,rfl,by nofun,rfl,by nofun,by nofun⟩
theorem dJ:aD ["net", "worths", "onward", "lifted", "turn"] ["net"] (av bu):=⟨rfl,rfl,rfl,by nofun,rfl,by nofun,by nofun⟩
theorem bN:aD ["steps", "end", "courses", "places", "at", "number", "back", "begin", "onward", "room", "gain"] ["steps", "end"] (av bz):=⟨rfl,rfl,rfl,by nofun,rfl,by nofun,by nofun⟩
theorem ja:aD ["steps", "courses", "near", "ties", "numbers"] ["steps", "courses"] (av bQ):=⟨rfl,rfl,rfl,by nofun,rfl,by nofun,by nofun⟩
theorem ff:aD ["net", "begin", "end", "stream", "steps", "courses", "ring", "lengths", "first", "pairs"] ["net", "begin", "end", "stream"] (av bp):=⟨rfl,rfl,rfl,by nofun,rfl,by nofun,by nofun⟩
theorem vM:aD ["_law_script", "_law_k", "_law_cell"] ["_law_script", "_law_k"] (av xX):=⟨rfl,rfl,rfl,by nofun,rfl,by nofun,by nofun⟩
theorem uf:aD ["_law_box_here", "_law_many", "_law_found", "_law_once"] ["_law_box_here", "_law_many"] (av wk):=⟨rfl,rfl,rfl,by nofun,rfl,by nofun,by nofun⟩
theorem lN:aD ["_law_script", "_law_many", "_law_cells", "_law_k", "_law_cell"] ["_law_script", "_law_many"] (av rm):=⟨rfl,rfl,rfl,by nofun,rfl,by nofun,by nofun⟩
theorem pj:aD ["_law_n", "_law_d", "_law_one", "_law_other"] ["_law_n", "_law_d"] (av ji):=⟨rfl,rfl,rfl,by nofun,rfl,by nofun,by nofun⟩
theorem Fk:aD ["_law_one", "_law_other"] ["_law_one", "_law_other"] (av nU):=⟨rfl,rfl,rfl,by nofun,rfl,by nofun,by nofun⟩
theorem zn:aD ["_law_one", "_law_other"] ["_law_one", "_law_other"] (av iH):=⟨rfl,rfl,rfl,by nofun,rfl,by nofun,by nofun⟩
theorem Ca:aD ["_law_one", "_law_other"] ["_law_one", "_law_other"] (av kh):=⟨rfl,rfl,rfl,by nofun,rfl,by nofun,by nofun⟩
theorem Dz:aD ["_law_one", "_law_other"] ["_law_one", "_law_other"] (av lI):=⟨rfl,rfl,rfl,by nofun,rfl,by nofun,by nofun⟩
theorem BY:aD ["_law_one", "_law_other"] ["_law_one", "_law_other"] (av my):=⟨rfl,rfl,rfl,by nofun,rfl,by nofun,by nofun⟩
theorem eL:aD ["_law_box_here", "_law_many", "_law_letters", "_law_first", "_law_rest", "_law_behind", "_law_sign", "_law_other"] ["_law_box_here", "_law_many"] (av bw):=⟨rfl,rfl,rfl,by nofun,rfl,by nofun,by nofun⟩
theorem mF:aD ["_law_box_here", "_law_way", "_law_top"] ["_law_box_here"] (av dX):=⟨rfl,rfl,rfl,by nofun,rfl,by nofun,by nofun⟩
theorem sq:aD ["_law_box_here", "_law_way"] ["_law_box_here"] (av fk):=⟨rfl,rfl,rfl,by nofun,rfl,by nofun,by nofun⟩
theorem qA:aD ["_law_box_here", "_law_way"] ["_law_box_here"] (av eG):=⟨rfl,rfl,rfl,by nofun,rfl,by nofun,by nofun⟩
theorem dQ:aD ["_law_box_here", "_law_places", "_law_many", "_law_first", "_law_a", "_law_b", "_law_more", "_law_gains", "_law_spots"] ["_law_box_here", "_law_places"] (av bf):=⟨rfl,rfl,rfl,by nofun,rfl,by nofun,by nofun⟩
theorem be:aD ["_law_box_here", "_law_most_places", "_law_most_ties", "_law_way", "_law_great", "_law_places", "_law_many", "_law_some", "_law_worths", "_law_ends", "_law_turn", "_law_at", "_law_begin", "_law_end", "_law_gain", "_law_less", "_law_ties", "_law_top"] ["_law_box_here", "_law_most_places", "_law_most_ties"] (av aC):=⟨rfl,rfl,rfl,by nofun,rfl,by nofun,by nofun⟩
theorem cG:aD ["_law_net", "_law_stream", "_law_found", "_law_number", "_law_begin", "_law_end", "_law_top", "_law_gain", "_law_price", "_law_goes"] ["_law_net", "_law_stream"] (av aU):=⟨rfl,rfl,rfl,by nofun,rfl,by nofun,by nofun⟩
theorem gO:aD ["_law_box_here", "_law_steps", "_law_first", "_law_end", "_law_barred", "_law_rows", "_law_met", "_law_course", "_law_here"] ["_law_box_here", "_law_steps", "_law_first", "_law_end", "_law_barred"] (av aW):=⟨rfl,rfl,rfl,by nofun,rfl,by nofun,by nofun⟩
theorem de:aD ["_law_steps", "_law_part", "_law_found", "_law_step"] ["_law_steps", "_law_part"] (av dY):=⟨rfl,rfl,rfl,by nofun,rfl,by nofun,by nofun⟩
theorem oM:aD ["_law_stream", "_law_parts", "_law_much", "_law_made", "_law_step", "_law_part", "_law_goes"] ["_law_stream", "_law_parts", "_law_much"] (av d8):=⟨rfl,rfl,rfl,by nofun,rfl,by nofun,by nofun⟩
theorem d9:aD ["_law_parts", "_law_found", "_law_step", "_law_part", "_law_one"] ["_law_parts"] (av bP):=⟨rfl,rfl,rfl,by nofun,rfl,by nofun,by nofun⟩
theorem dz:aD ["_law_box_here", "_law_net", "_law_begin", "_law_end", "_law_stream", "_law_turn", "_law_course", "_law_parts", "_law_share"] ["_law_box_here", "_law_net", "_law_begin", "_law_end"] (av aJ):=⟨rfl,rfl,rfl,by nofun,rfl,by nofun,by nofun⟩
theorem uu:aD ["_law_box_here", "_law_net", "_law_at"] ["_law_box_here", "_law_net"] (av eY):=⟨rfl,rfl,rfl,by nofun,rfl,by nofun,by nofun⟩
theorem iV:aD ["_law_steps", "_law_thing", "_law_found", "_law_one", "_law_some"] ["_law_steps", "_law_thing"] (av bd):=⟨rfl,rfl,rfl,by nofun,rfl,by nofun,by nofun⟩
theorem qE:aD ["_law_course", "_law_first", "_law_end", "_law_barred", "_law_spots"] ["_law_course", "_law_first", "_law_end", "_law_barred"] (av cf):=⟨rfl,rfl,rfl,by nofun,rfl,by nofun,by nofun⟩
theorem jC:aD ["_law_net", "_law_begin", "_law_end", "_law_stream", "_law_thing", "_law_steps", "_law_some", "_law_ring", "_law_course", "_law_places"] ["_law_net", "_law_begin", "_law_end", "_law_stream", "_law_thing"] (av bq):=⟨rfl,rfl,rfl,by nofun,rfl,by nofun,by nofun⟩
theorem gJ:aD ["_law_steps", "_law_end", "_law_found", "_law_at", "_law_some"] ["_law_steps", "_law_end"] (av cE):=⟨rfl,rfl,rfl,by nofun,rfl,by nofun,by nofun⟩
theorem df:aD ["_law_steps", "_law_places", "_law_step", "_law_near", "_law_worths", "_law_turn", "_law_grown", "_law_one"] ["_law_steps", "_law_places"] (av bo):=⟨rfl,rfl,rfl,by nofun,rfl,by nofun,by nofun⟩
theorem qV:aD ["_law_net", "_law_begin", "_law_end", "_law_stream", "_law_found", "_law_steps", "_law_places"] ["_law_net", "_law_begin", "_law_end", "_law_stream", "_law_found"] (av cq):=⟨rfl,rfl,rfl,by nofun,rfl,by nofun,by nofun⟩
theorem fZ:aD ["_law_script", "_law_cells", "_law_k", "_law_box_here", "_law_turn", "_law_net", "_law_begin", "_law_end", "_law_stream", "_law_written", "_law_one", "_law_other", "_law_found", "_law_part"] ["_law_script"] (av bV):=⟨rfl,rfl,rfl,by nofun,rfl,by nofun,by nofun⟩
end K18
namespace K18
open PySem L2
set_option genInjectivity false in
set_option genSizeOf false in
structure Df (K:PySem.W.Frag) (mg:Str→Option Value) (x:Str) (st:Stmt) (ps:List Str) where
 f:Addr
 d:FuncData
 m:mg x=some (.ref f)
 F:Ae K x x st f d
 B:uL K d ps []
set_option genInjectivity false in
set_option genSizeOf false in
structure Txt (K:PySem.W.Frag) (mg:Str→Option Value) where
 b_abs:mg "abs" = none
 b_any:mg "any" = none
 b_bool:mg "bool" = none
 b_dict:mg "dict" = none
 b_divmod:mg "divmod" = none
 b_enumerate:mg "enumerate" = none
 b_int:mg "int" = none
 b_isinstance:mg "isinstance" = none
 b_len:mg "len" = none
 b_list:mg "list" = none
 b_max:mg "max" = none
 b_min:mg "min" = none
 b_range:mg "range" = none
 b_set:mg "set" = none
 b_sorted:mg "sorted" = none
 b_str:mg "str" = none
 b_tuple:mg "tuple" = none
 b_zip:mg "zip" = none
 common_divisor_:Df K mg "common_divisor" jY ["n", "d"]
 fraction_:Df K mg "fraction" ia ["n", "d"]
 taken_:Df K mg "taken" nY ["one", "other"]
 times_:Df K mg "times" nV ["one", "other"]
 over_:Df K mg "over" qw ["one", "other"]
 compared_:Df K mg "compared" g8 ["one", "other"]
 steps_of_:Df K mg "steps_of" bJ ["number", "tie", "much"]
 left_steps_:Df K mg "left_steps" cA ["net", "stream"]
 is_shut_:Df K mg "is_shut" pz ["tie"]
 lift_once_:Df K mg "lift_once" aX ["net", "worths", "onward"]
 round_ahead_:Df K mg "round_ahead" dg ["net", "onward", "place"]
 gaining_round_:Df K mg "gaining_round" bu ["net"]
 courses_to_:Df K mg "courses_to" bz ["steps", "end"]
 gaining_ring_:Df K mg "gaining_ring" bQ ["steps", "courses"]
 bettering_:Df K mg "bettering" bp ["net", "begin", "end", "stream"]
 l_box_:Df K mg "_law_box" xX ["_law_script", "_law_k"]
 l_take_:Df K mg "_law_take" wk ["_law_box_here", "_law_many"]
 l_folded_:Df K mg "_law_folded" rm ["_law_script", "_law_many"]
 l_frac_:Df K mg "_law_frac" ji ["_law_n", "_law_d"]
 l_sum_:Df K mg "_law_sum" nU ["_law_one", "_law_other"]
 l_product_:Df K mg "_law_product" iH ["_law_one", "_law_other"]
 l_minus_:Df K mg "_law_minus" kh ["_law_one", "_law_other"]
 l_over_:Df K mg "_law_over" lI ["_law_one", "_law_other"]
 l_above_:Df K mg "_law_above" my ["_law_one", "_law_other"]
 l_names_by_:Df K mg "_law_names_by" bw ["_law_box_here", "_law_many"]
 l_any_gain_:Df K mg "_law_any_gain" dX ["_law_box_here"]
 l_any_much_:Df K mg "_law_any_much" fk ["_law_box_here"]
 l_any_price_:Df K mg "_law_any_price" eG ["_law_box_here"]
 l_planted_:Df K mg "_law_planted" bf ["_law_box_here", "_law_places"]
 l_net_by_:Df K mg "_law_net_by" aC ["_law_box_here", "_law_most_places", "_law_most_ties"]
 l_steps_of_:Df K mg "_law_steps_of" aU ["_law_net", "_law_stream"]
 l_course_by_:Df K mg "_law_course_by" aW ["_law_box_here", "_law_steps", "_law_first", "_law_end", "_law_barred"]
 l_parts_on_:Df K mg "_law_parts_on" dY ["_law_steps", "_law_part"]
 l_put_:Df K mg "_law_put" d8 ["_law_stream", "_law_parts", "_law_much"]
 l_much_along_:Df K mg "_law_much_along" bP ["_law_parts"]
 l_stream_by_:Df K mg "_law_stream_by" aJ ["_law_box_here", "_law_net", "_law_begin", "_law_end"]
 l_ends_by_:Df K mg "_law_ends_by" eY ["_law_box_here", "_law_net"]
 l_told_steps_:Df K mg "_law_told_steps" bd ["_law_steps", "_law_thing"]
 l_is_course_:Df K mg "_law_is_course" cf ["_law_course", "_law_first", "_law_end", "_law_barred"]
 l_shown_:Df K mg "_law_shown" bq ["_law_net", "_law_begin", "_law_end", "_law_stream", "_law_thing"]
 l_leading_:Df K mg "_law_leading" cE ["_law_steps", "_law_end"]
 l_held_all_:Df K mg "_law_held_all" bo ["_law_steps", "_law_places"]
 l_right_:Df K mg "_law_right" cq ["_law_net", "_law_begin", "_law_end", "_law_stream", "_law_found"]
 law_:Df K mg "law" bV ["_law_script"]
end K18
namespace K18
open PySem L2
abbrev aa (s:Stmt) (x:Str):Prop:=(av s).names.lookup x=some NameKind.local
abbrev ao (s:Stmt) (x:Str):Prop:=(av s).names.lookup x=some NameKind.globalImplicit
abbrev gc (s:Stmt) (x:Str):Prop:=(av s).names.lookup x=some NameKind.cell
theorem tw:aa ia "n" := by nofun
theorem oO:aa ia "d" := by nofun
theorem dZ:aa ia "divisor" := by nofun
theorem nR:ao ia "common_divisor" := by nofun
theorem pN:aa nY "one" := by nofun
theorem mO:aa nY "other" := by nofun
theorem vQ:ao nY "fraction" := by nofun
theorem vw:aa nV "one" := by nofun
theorem sg:aa nV "other" := by nofun
theorem vX:ao nV "fraction" := by nofun
theorem wR:aa qw "one" := by nofun
theorem um:aa qw "other" := by nofun
theorem wH:ao qw "fraction" := by nofun
theorem qu:aa g8 "one" := by nofun
theorem oE:aa g8 "other" := by nofun
theorem kr:aa g8 "left" := by nofun
theorem jZ:aa g8 "right" := by nofun
theorem mW:aa bJ "number" := by nofun
theorem xO:aa bJ "tie" := by nofun
theorem i0:aa bJ "much" := by nofun
theorem jV:aa bJ "begin" := by nofun
theorem lr:aa bJ "end" := by nofun
theorem kw:aa bJ "most" := by nofun
theorem i8:aa bJ "gain" := by nofun
theorem vY:aa bJ "price" := by nofun
theorem ij:aa bJ "steps" := by nofun
theorem lc:ao bJ "compared" := by nofun
theorem wm:ao bJ "taken" := by nofun
theorem vZ:ao bJ "times" := by nofun
theorem wS:ao bJ "over" := by nofun
theorem vI:aa cA "net" := by nofun
theorem sM:aa cA "stream" := by nofun
theorem jj:aa cA "steps" := by nofun
theorem iU:aa cA "number" := by nofun
theorem oV:aa cA "tie" := by nofun
theorem pL:ao cA "enumerate" := by nofun
theorem qC:ao cA "steps_of" := by nofun
theorem yT:aa pz "tie" := by nofun
theorem xb:aa aX "net" := by nofun
theorem dS:aa aX "worths" := by nofun
theorem tO:aa aX "onward" := by nofun
theorem ju:aa aX "lifted" := by nofun
theorem mq:aa aX "number" := by nofun
theorem kJ:aa aX "tie" := by nofun
theorem cY:aa aX "begin" := by nofun
theorem kD:aa aX "end" := by nofun
theorem vT:aa aX "most" := by nofun
theorem oN:aa aX "gain" := by nofun
theorem uV:aa aX "price" := by nofun
theorem jG:aa aX "worth" := by nofun
theorem qy:ao aX "enumerate" := by nofun
theorem sN:ao aX "is_shut" := by nofun
theorem uZ:ao aX "times" := by nofun
theorem rM:ao aX "compared" := by nofun
theorem uU:aa dg "net" := by nofun
theorem kG:aa dg "onward" := by nofun
theorem cx:aa dg "place" := by nofun
theorem eS:aa dg "places" := by nofun
theorem jl:aa dg "ties" := by nofun
theorem fz:aa bu "net" := by nofun
theorem jR:aa bu "worths" := by nofun
theorem gh:aa bu "onward" := by nofun
theorem dO:aa bu "lifted" := by nofun
theorem rA:aa bu "turn" := by nofun
theorem qi:ao bu "range" := by nofun
theorem sC:ao bu "len" := by nofun
theorem nS:ao bu "lift_once" := by nofun
theorem l8:ao bu "round_ahead" := by nofun
theorem tS:aa bz "steps" := by nofun
theorem oI:aa bz "end" := by nofun
theorem cU:aa bz "courses" := by nofun
theorem fw:aa bz "places" := by nofun
theorem i9:aa bz "at" := by nofun
theorem kU:aa bz "number" := by nofun
theorem mP:aa bz "back" := by nofun
theorem f6:aa bz "begin" := by nofun
theorem iI:aa bz "onward" := by nofun
theorem uY:aa bz "room" := by nofun
theorem u8:aa bz "gain" := by nofun
theorem vV:ao bz "len" := by nofun
theorem qQ:aa bQ "steps" := by nofun
theorem pO:gc bQ "courses" := by nofun
theorem kS:gc bQ "near" := by nofun
theorem kW:aa bQ "ties" := by nofun
theorem gf:aa bQ "numbers" := by nofun
theorem kI:ao bQ "tuple" := by nofun
theorem lF:ao bQ "gaining_round" := by nofun
theorem xp:aa bp "net" := by nofun
theorem mX:aa bp "begin" := by nofun
theorem wV:aa bp "end" := by nofun
theorem uh:aa bp "stream" := by nofun
theorem jF:aa bp "steps" := by nofun
theorem dm:gc bp "courses" := by nofun
theorem dF:aa bp "ring" := by nofun
theorem iS:aa bp "lengths" := by nofun
theorem gH:aa bp "first" := by nofun
theorem mS:aa bp "pairs" := by nofun
theorem pF:ao bp "left_steps" := by nofun
theorem pI:ao bp "courses_to" := by nofun
theorem oC:ao bp "gaining_ring" := by nofun
theorem wW:ao bp "min" := by nofun
theorem tK:aa ji "_law_n" := by nofun
theorem oi:aa ji "_law_d" := by nofun
theorem dH:aa ji "_law_one" := by nofun
theorem fh:aa ji "_law_other" := by nofun
theorem uk:ao ji "abs" := by nofun
theorem mG:aa nU "_law_one" := by nofun
theorem kR:aa nU "_law_other" := by nofun
theorem xI:ao nU "_law_frac" := by nofun
theorem nj:aa iH "_law_one" := by nofun
theorem k7:aa iH "_law_other" := by nofun
theorem uj:ao iH "_law_frac" := by nofun
theorem kj:aa kh "_law_one" := by nofun
theorem jJ:aa kh "_law_other" := by nofun
theorem vH:ao kh "_law_frac" := by nofun
theorem p6:aa lI "_law_one" := by nofun
theorem oj:aa lI "_law_other" := by nofun
theorem wF:ao lI "_law_frac" := by nofun
theorem o8:aa my "_law_one" := by nofun
theorem mU:aa my "_law_other" := by nofun
theorem fI:gc bw "_law_box_here" := by nofun
theorem kX:aa bw "_law_many" := by nofun
theorem pV:gc bw "_law_letters" := by nofun
theorem ku:gc bw "_law_first" := by nofun
theorem kZ:aa bw "_law_rest" := by nofun
theorem qq:gc bw "_law_behind" := by nofun
theorem sB:gc bw "_law_sign" := by nofun
theorem qY:gc bw "_law_other" := by nofun
theorem iO:ao bw "_law_take" := by nofun
theorem jg:ao bw "range" := by nofun
theorem wp:ao bw "int" := by nofun
theorem mr:ao bw "tuple" := by nofun
theorem fH:aa dX "_law_box_here" := by nofun
theorem fX:aa dX "_law_way" := by nofun
theorem mh:aa dX "_law_top" := by nofun
theorem iJ:ao dX "_law_take" := by nofun
theorem sX:ao dX "_law_frac" := by nofun
theorem jD:aa fk "_law_box_here" := by nofun
theorem f7:aa fk "_law_way" := by nofun
theorem k8:ao fk "_law_take" := by nofun
theorem sS:ao fk "_law_frac" := by nofun
theorem jw:aa eG "_law_box_here" := by nofun
theorem iQ:aa eG "_law_way" := by nofun
theorem ki:ao eG "_law_take" := by nofun
theorem rT:ao eG "_law_frac" := by nofun
theorem cB:aa bf "_law_box_here" := by nofun
theorem kF:gc bf "_law_places" := by nofun
theorem je:aa bf "_law_many" := by nofun
theorem sR:gc bf "_law_first" := by nofun
theorem kL:aa bf "_law_a" := by nofun
theorem kn:aa bf "_law_b" := by nofun
theorem jd:aa bf "_law_more" := by nofun
theorem ld:aa bf "_law_gains" := by nofun
theorem fA:aa bf "_law_spots" := by nofun
theorem dR:ao bf "_law_take" := by nofun
theorem pB:ao bf "len" := by nofun
theorem lZ:ao bf "_law_frac" := by nofun
theorem vh:ao bf "range" := by nofun
theorem vP:ao bf "list" := by nofun
theorem xa:ao bf "zip" := by nofun
theorem ax:gc aC "_law_box_here" := by nofun
theorem oF:aa aC "_law_most_places" := by nofun
theorem pS:aa aC "_law_most_ties" := by nofun
theorem jX:aa aC "_law_way" := by nofun
theorem jn:aa aC "_law_great" := by nofun
theorem bC:aa aC "_law_places" := by nofun
theorem mY:aa aC "_law_many" := by nofun
theorem vt:gc aC "_law_some" := by nofun
theorem iK:aa aC "_law_worths" := by nofun
theorem gG:aa aC "_law_ends" := by nofun
theorem uT:aa aC "_law_turn" := by nofun
theorem kN:aa aC "_law_at" := by nofun
theorem dU:aa aC "_law_begin" := by nofun
theorem fv:aa aC "_law_end" := by nofun
theorem eN:aa aC "_law_gain" := by nofun
theorem mR:aa aC "_law_less" := by nofun
theorem cZ:aa aC "_law_ties" := by nofun
theorem oq:aa aC "_law_top" := by nofun
theorem bn:ao aC "_law_take" := by nofun
theorem qH:ao aC "_law_names_by" := by nofun
theorem wx:ao aC "dict" := by nofun
theorem qM:ao aC "_law_planted" := by nofun
theorem wc:ao aC "range" := by nofun
theorem gN:ao aC "len" := by nofun
theorem pZ:ao aC "_law_any_gain" := by nofun
theorem qJ:ao aC "_law_product" := by nofun
theorem vq:ao aC "_law_over" := by nofun
theorem qb:ao aC "_law_any_much" := by nofun
theorem pQ:ao aC "_law_any_price" := by nofun
theorem vR:ao aC "tuple" := by nofun
theorem uD:aa aU "_law_net" := by nofun
theorem qr:aa aU "_law_stream" := by nofun
theorem eQ:aa aU "_law_found" := by nofun
theorem d6:aa aU "_law_number" := by nofun
theorem gZ:aa aU "_law_begin" := by nofun
theorem jp:aa aU "_law_end" := by nofun
theorem jr:aa aU "_law_top" := by nofun
theorem fB:aa aU "_law_gain" := by nofun
theorem qS:aa aU "_law_price" := by nofun
theorem dn:aa aU "_law_goes" := by nofun
theorem pG:ao aU "enumerate" := by nofun
theorem rL:ao aU "_law_above" := by nofun
theorem rJ:ao aU "_law_minus" := by nofun
theorem pT:ao aU "_law_product" := by nofun
theorem sZ:ao aU "_law_over" := by nofun
theorem oQ:aa aW "_law_box_here" := by nofun
theorem qf:aa aW "_law_steps" := by nofun
theorem qo:aa aW "_law_first" := by nofun
theorem sQ:aa aW "_law_end" := by nofun
theorem pJ:aa aW "_law_barred" := by nofun
theorem cm:aa aW "_law_rows" := by nofun
theorem iM:gc aW "_law_met" := by nofun
theorem jP:gc aW "_law_course" := by nofun
theorem eR:gc aW "_law_here" := by nofun
theorem tx:ao aW "list" := by nofun
theorem mZ:ao aW "len" := by nofun
theorem qN:ao aW "_law_take" := by nofun
theorem vk:ao aW "min" := by nofun
theorem kC:aa dY "_law_steps" := by nofun
theorem bI:aa dY "_law_part" := by nofun
theorem cj:aa dY "_law_found" := by nofun
theorem cy:aa dY "_law_step" := by nofun
theorem jO:ao dY "_law_product" := by nofun
theorem ww:aa d8 "_law_stream" := by nofun
theorem wX:aa d8 "_law_parts" := by nofun
theorem xA:aa d8 "_law_much" := by nofun
theorem eZ:aa d8 "_law_made" := by nofun
theorem dC:aa d8 "_law_step" := by nofun
theorem qz:aa d8 "_law_part" := by nofun
theorem lG:aa d8 "_law_goes" := by nofun
theorem zQ:ao d8 "list" := by nofun
theorem nq:ao d8 "_law_product" := by nofun
theorem wL:ao d8 "_law_minus" := by nofun
theorem y7:ao d8 "_law_sum" := by nofun
theorem pH:aa bP "_law_parts" := by nofun
theorem bR:aa bP "_law_found" := by nofun
theorem kd:aa bP "_law_step" := by nofun
theorem kc:aa bP "_law_part" := by nofun
theorem gX:aa bP "_law_one" := by nofun
theorem p9:ao bP "_law_over" := by nofun
theorem pX:ao bP "_law_above" := by nofun
theorem e8:aa aJ "_law_box_here" := by nofun
theorem kY:aa aJ "_law_net" := by nofun
theorem qI:aa aJ "_law_begin" := by nofun
theorem sT:aa aJ "_law_end" := by nofun
theorem cz:aa aJ "_law_stream" := by nofun
theorem qK:aa aJ "_law_turn" := by nofun
theorem gj:aa aJ "_law_course" := by nofun
theorem gK:aa aJ "_law_parts" := by nofun
theorem j8:aa aJ "_law_share" := by nofun
theorem vj:ao aJ "len" := by nofun
theorem sW:ao aJ "range" := by nofun
theorem kO:ao aJ "_law_take" := by nofun
theorem nt:ao aJ "_law_course_by" := by nofun
theorem oR:ao aJ "_law_steps_of" := by nofun
theorem oJ:ao aJ "_law_parts_on" := by nofun
theorem sI:ao aJ "_law_put" := by nofun
theorem oY:ao aJ "_law_product" := by nofun
theorem mN:ao aJ "_law_much_along" := by nofun
theorem jM:aa eY "_law_box_here" := by nofun
theorem eM:aa eY "_law_net" := by nofun
theorem jW:aa eY "_law_at" := by nofun
theorem l6:ao eY "_law_take" := by nofun
theorem kK:ao eY "len" := by nofun
theorem pU:aa bd "_law_steps" := by nofun
theorem jK:aa bd "_law_thing" := by nofun
theorem cD:aa bd "_law_found" := by nofun
theorem ci:gc bd "_law_one" := by nofun
theorem eB:aa bd "_law_some" := by nofun
theorem bW:ao bd "isinstance" := by nofun
theorem sO:ao bd "list" := by nofun
theorem qL:ao bd "tuple" := by nofun
theorem tE:ao bd "len" := by nofun
theorem k4:ao bd "bool" := by nofun
theorem tz:ao bd "int" := by nofun
theorem gC:aa cf "_law_course" := by nofun
theorem ka:aa cf "_law_first" := by nofun
theorem sV:aa cf "_law_end" := by nofun
theorem cJ:aa cf "_law_spots" := by nofun
theorem nh:ao cf "len" := by nofun
theorem vn:ao cf "set" := by nofun
theorem va:ao cf "any" := by nofun
theorem wG:aa bq "_law_net" := by nofun
theorem u9:aa bq "_law_begin" := by nofun
theorem o9:aa bq "_law_end" := by nofun
theorem tD:aa bq "_law_stream" := by nofun
theorem da:aa bq "_law_thing" := by nofun
theorem vd:gc bq "_law_steps" := by nofun
theorem hJ:aa bq "_law_some" := by nofun
theorem fu:aa bq "_law_ring" := by nofun
theorem mB:aa bq "_law_course" := by nofun
theorem cK:aa bq "_law_places" := by nofun
theorem rV:ao bq "isinstance" := by nofun
theorem xq:ao bq "tuple" := by nofun
theorem fJ:ao bq "len" := by nofun
theorem rY:ao bq "_law_steps_of" := by nofun
theorem kg:ao bq "_law_is_course" := by nofun
theorem yX:ao bq "set" := by nofun
theorem uS:ao bq "_law_above" := by nofun
theorem rP:ao bq "_law_parts_on" := by nofun
theorem sY:aa cE "_law_steps" := by nofun
theorem vm:aa cE "_law_end" := by nofun
theorem dk:gc cE "_law_found" := by nofun
theorem hV:gc cE "_law_at" := by nofun
theorem l4:aa cE "_law_some" := by nofun
theorem xk:ao cE "len" := by nofun
theorem tY:ao cE "sorted" := by nofun
theorem xj:ao cE "set" := by nofun
theorem qR:aa bo "_law_steps" := by nofun
theorem j5:gc bo "_law_places" := by nofun
theorem dv:aa bo "_law_step" := by nofun
theorem k6:aa bo "_law_near" := by nofun
theorem eh:aa bo "_law_worths" := by nofun
theorem sy:aa bo "_law_turn" := by nofun
theorem gU:aa bo "_law_grown" := by nofun
theorem jq:aa bo "_law_one" := by nofun
theorem vf:ao bo "dict" := by nofun
theorem tR:ao bo "range" := by nofun
theorem wu:ao bo "len" := by nofun
theorem pR:ao bo "_law_product" := by nofun
theorem rG:ao bo "_law_above" := by nofun
theorem o6:aa cq "_law_net" := by nofun
theorem mV:aa cq "_law_begin" := by nofun
theorem oZ:aa cq "_law_end" := by nofun
theorem md:aa cq "_law_stream" := by nofun
theorem mQ:aa cq "_law_found" := by nofun
theorem jI:aa cq "_law_steps" := by nofun
theorem jo:aa cq "_law_places" := by nofun
theorem u0:ao cq "_law_shown" := by nofun
theorem rO:ao cq "_law_steps_of" := by nofun
theorem sP:ao cq "_law_leading" := by nofun
theorem rH:ao cq "_law_held_all" := by nofun
theorem xN:aa bV "_law_script" := by nofun
theorem mJ:aa bV "_law_cells" := by nofun
theorem yI:aa bV "_law_k" := by nofun
theorem ii:aa bV "_law_box_here" := by nofun
theorem zb:aa bV "_law_turn" := by nofun
theorem dP:aa bV "_law_net" := by nofun
theorem fQ:aa bV "_law_begin" := by nofun
theorem iB:aa bV "_law_end" := by nofun
theorem gP:aa bV "_law_stream" := by nofun
theorem pe:aa bV "_law_written" := by nofun
theorem pP:aa bV "_law_one" := by nofun
theorem mL:aa bV "_law_other" := by nofun
theorem mK:aa bV "_law_found" := by nofun
theorem uB:aa bV "_law_part" := by nofun
theorem xL:ao bV "_law_folded" := by nofun
theorem vF:ao bV "range" := by nofun
theorem CS:ao bV "max" := by nofun
theorem yw:ao bV "len" := by nofun
theorem AA:ao bV "_law_box" := by nofun
theorem xV:ao bV "_law_net_by" := by nofun
theorem xl:ao bV "_law_ends_by" := by nofun
theorem vi:ao bV "_law_stream_by" := by nofun
theorem yx:ao bV "str" := by nofun
theorem pA:ao bV "bettering" := by nofun
theorem yR:ao bV "_law_right" := by nofun
end K18
namespace L2
open PySem PySem.Spec PySem.Calls PyProof.Rows
def topRunT (tb:String→Option Builtin) (p:Program) (w:World) (n₀:Nat) (ann:Option Value):Nat→PySem.W.SharedT→Thread→Option PySem.W.SharedT
 | 0,_,_=>none
 | n+1,s,t=>match PySem.W.through t with
  | true=>some s
  | false=>match PySem.W.stepOk n₀ ann t with
   | false=>none
   | true=>match PySem.W.stepT (denote tb) p w s t with
    | some (s',t')=>topRunT tb p w n₀ ann n s' t'
    | none=>none
theorem yu {tb:String→Option Builtin}{p:Program}{w:World}{n₀:Nat}{ann:Option Value}:∀{n:Nat}{s s':PySem.W.SharedT}{t:Thread},topRunT tb p w n₀ ann n s t=some s'→PySem.W.topRun tb p w n₀ ann n s.abs t=some s'.abs
 | 0,_,_,_,h=>by cases h
 | n+1,s,s',t,h=>by
  unfold topRunT at h
  unfold PySem.W.topRun
  cases he:PySem.W.through t with
  | true=>rw [he] at h;cases h;rfl
  | false=>
   rw [he] at h
   cases hk:PySem.W.stepOk n₀ ann t with
   | false=>rw [hk] at h;cases h
   | true=>
    rw [hk] at h
    cases hs:PySem.W.stepT (denote tb) p w s t with
    | none=>rw [hs] at h;cases h
    | some r=>obtain ⟨s₂,t₂⟩:=r;rw [hs] at h;rw [PySem.W.stepT_spec hs];exact yu h
open PySem.W in
noncomputable def KA (P:Params):BT:=.node (boot_o_0 P) (.node (boot_o_1 P) (.node (boot_o_3 P) (.node (boot_o_7 P) .nil .nil) .nil) (.node (boot_o_5 P) (.node (boot_o_9 P) .nil .nil) .nil)) (.node (boot_o_2 P) (.node (boot_o_4 P) (.node (boot_o_8 P) .nil .nil) .nil) (.node (boot_o_6 P) (.node (boot_o_10 P) .nil .nil) .nil))
noncomputable def bootS (w:World) (os:OsState):PySem.W.SharedT:=⟨KA w.params,11,{},#[],PySem.W.boot_drawn,PySem.W.boot_toks,os⟩
theorem CQ (w:World):((PySem.W.boot_heap w.params).isNs mainGlobals,(PySem.W.boot_heap w.params).objs.size,(PySem.W.boot_heap w.params).nsMap mainGlobals "__annotations__")=(true,11,some (.ref 6)):=by kernel_rfl
noncomputable def looks {α:Type} (p q:Program) (Xt:Shared→Bool) (Yf:Shared→α) (w:World) (s:Shared):=
 (PySem.W.staticsOk (importedModules p.main.body) (PySem.W.boot_heap w.params) s.heap && PySem.W.namesBound p s.heap && PySem.W.gensDone s && PySem.W.laidKept (PySem.W.boot_heap w.params) s.heap,PySem.W.openSeen q [] (importedModules p.main.body) Xt true s,Yf s)
theorem left_tree {p q:Program}{Xt:Shared→Bool}{α:Type}{Yf:Shared→α}{Ya:α}{N:Nat}
 (e:PySem.W.opening p=PySem.W.plainProg p.main.scope.names) (hN:Nat.ble 600 N=true) (f:∀s,PySem.fenceModules? p s=some s)
 (run:∀(w:World) (os:OsState),(topRunT treeTable p w 11 (some (.ref 6)) N (bootS w os) (PySem.W.topStub p)).map (fun s=>looks p q Xt Yf w s.abs)=some (true,PySem.W.openGood q [],Ya)) :
 PySem.W.LeftO p q [] Xt Yf (fun _=>Ya) N:=fun w=>by
 obtain ⟨⟨h,gs,d,k,os⟩,ef,ev⟩:=Option.map_eq_some_iff.mp (PySem.W.boot_open e hN f w)
 obtain ⟨rfl,rfl,rfl,rfl⟩:h=PySem.W.boot_heap w.params∧gs=#[]∧d=PySem.W.boot_drawn∧k=PySem.W.boot_toks:=by simpa using ev
 obtain ⟨st,er,el⟩:=Option.map_eq_some_iff.mp (run w os)
 have r:=yu er
 have e0:(bootS w os).abs=⟨PySem.W.boot_heap w.params,#[],PySem.W.boot_drawn,PySem.W.boot_toks,os⟩:=rfl
 rw [e0] at r
 obtain ⟨z1,z2,z3⟩:_∧_∧_:=by simpa only [Prod.mk.injEq] using CQ w
 obtain ⟨l1,l2,l3⟩:_∧_∧_:=by simpa only [looks,Prod.mk.injEq] using el
 have t:PySem.W.topFrom treeTable p w N ⟨PySem.W.boot_heap w.params,#[],PySem.W.boot_drawn,PySem.W.boot_toks,os⟩=some st.abs:=by
  unfold PySem.W.topFrom
  dsimp only
  rw [z1,z2,z3,r]
  show (match PySem.W.staticsOk (importedModules p.main.body) (PySem.W.boot_heap w.params) st.abs.heap && PySem.W.namesBound p st.abs.heap && PySem.W.gensDone st.abs && PySem.W.laidKept (PySem.W.boot_heap w.params) st.abs.heap with | true=>_ | false=>_)=_
  rw [l1]
 unfold PySem.W.openEnds
 rw [ef]
 show (PySem.W.topFrom treeTable p w N _).map _=_
 rw [t]
 exact congrArg some (Prod.ext l2 l3)
theorem left_of2 {α β:Type}{f f':World→β→α}{g g':α} (ef:f=f') (eg:g=g') (h:∀w os,f' w os=g') (w:World) (os:β):f w os=g:=by
 rw [ef,eg];exact h w os
end L2
namespace K18
open PySem L2
def qv:Program:=PySem.W.view PySem.Challenge.pw_gainroads_k18_betterings_told [1,2,3,4,5,6,8,9,11,12,13,14,16,17,18,20,21,22,23,24,25,26,27,28,29,30,31,32,33,34,35,36,37,38,39,40,41,42,43,44,45,46,47,48]
def obs (K:PySem.W.Frag):List (Option FuncData)×List Bool:=([fG K "common_divisor",
 fG K "fraction",
 fG K "taken",
 fG K "times",
 fG K "over",
 fG K "compared",
 fG K "steps_of",
 fG K "left_steps",
 fG K "is_shut",
 fG K "lift_once",
 fG K "round_ahead",
 fG K "gaining_round",
 fG K "courses_to",
 fG K "gaining_ring",
 fG K "bettering",
 fG K "_law_box",
 fG K "_law_take",
 fG K "_law_folded",
 fG K "_law_frac",
 fG K "_law_sum",
 fG K "_law_product",
 fG K "_law_minus",
 fG K "_law_over",
 fG K "_law_above",
 fG K "_law_names_by",
 fG K "_law_any_gain",
 fG K "_law_any_much",
 fG K "_law_any_price",
 fG K "_law_planted",
 fG K "_law_net_by",
 fG K "_law_steps_of",
 fG K "_law_course_by",
 fG K "_law_parts_on",
 fG K "_law_put",
 fG K "_law_much_along",
 fG K "_law_stream_by",
 fG K "_law_ends_by",
 fG K "_law_told_steps",
 fG K "_law_is_course",
 fG K "_law_shown",
 fG K "_law_leading",
 fG K "_law_held_all",
 fG K "_law_right",
 fG K "law"],
 [oG K "abs",
 oG K "any",
 oG K "bool",
 oG K "dict",
 oG K "divmod",
 oG K "enumerate",
 oG K "int",
 oG K "isinstance",
 oG K "len",
 oG K "list",
 oG K "max",
 oG K "min",
 oG K "range",
 oG K "set",
 oG K "sorted",
 oG K "str",
 oG K "tuple",
 oG K "zip"])
def due:List (Option FuncData)×List Bool:=([dG "common_divisor" "common_divisor" jY,
 dG "fraction" "fraction" ia,
 dG "taken" "taken" nY,
 dG "times" "times" nV,
 dG "over" "over" qw,
 dG "compared" "compared" g8,
 dG "steps_of" "steps_of" bJ,
 dG "left_steps" "left_steps" cA,
 dG "is_shut" "is_shut" pz,
 dG "lift_once" "lift_once" aX,
 dG "round_ahead" "round_ahead" dg,
 dG "gaining_round" "gaining_round" bu,
 dG "courses_to" "courses_to" bz,
 dG "gaining_ring" "gaining_ring" bQ,
 dG "bettering" "bettering" bp,
 dG "_law_box" "_law_box" xX,
 dG "_law_take" "_law_take" wk,
 dG "_law_folded" "_law_folded" rm,
 dG "_law_frac" "_law_frac" ji,
 dG "_law_sum" "_law_sum" nU,
 dG "_law_product" "_law_product" iH,
 dG "_law_minus" "_law_minus" kh,
 dG "_law_over" "_law_over" lI,
 dG "_law_above" "_law_above" my,
 dG "_law_names_by" "_law_names_by" bw,
 dG "_law_any_gain" "_law_any_gain" dX,
 dG "_law_any_much" "_law_any_much" fk,
 dG "_law_any_price" "_law_any_price" eG,
 dG "_law_planted" "_law_planted" bf,
 dG "_law_net_by" "_law_net_by" aC,
 dG "_law_steps_of" "_law_steps_of" aU,
 dG "_law_course_by" "_law_course_by" aW,
 dG "_law_parts_on" "_law_parts_on" dY,
 dG "_law_put" "_law_put" d8,
 dG "_law_much_along" "_law_much_along" bP,
 dG "_law_stream_by" "_law_stream_by" aJ,
 dG "_law_ends_by" "_law_ends_by" eY,
 dG "_law_told_steps" "_law_told_steps" bd,
 dG "_law_is_course" "_law_is_course" cf,
 dG "_law_shown" "_law_shown" bq,
 dG "_law_leading" "_law_leading" cE,
 dG "_law_held_all" "_law_held_all" bo,
 dG "_law_right" "_law_right" cq,
 dG "law" "law" bV],List.replicate 18 true)
end K18
def L2.Xt (s:PySem.Shared):Bool:=PySem.W.xlAt K18.qv [] s && PySem.W.recOk [] s
def L2.Yf (s:PySem.Shared):=K18.obs (L2.fragOf s.heap)
noncomputable def L2.lhs (w:PySem.World) (os:PySem.OsState):=(L2.topRunT PySem.treeTable PySem.Challenge.pw_gainroads_k18_betterings_told w 11 (some (.ref 6)) 2932 (L2.bootS w os) (PySem.W.topStub PySem.Challenge.pw_gainroads_k18_betterings_told)).map fun s=>L2.looks PySem.Challenge.pw_gainroads_k18_betterings_told K18.qv L2.Xt L2.Yf w s.abs
noncomputable def L2.rhs:=some (true,PySem.W.openGood K18.qv [],K18.due)
theorem L2.lhs0:L2.lhs=L2.lhs:=rfl
theorem L2.rhs0:L2.rhs=L2.rhs:=rfl
name_quick lhsQ for L2.lhs by L2.lhs0
name_quick rhsQ for L2.rhs by L2.rhs0
theorem L2.left:∀w os,L2.lhs w os=L2.rhs:=L2.left_of2 PySem.W.Fast.lhsQ_eq PySem.W.Fast.rhsQ_eq (fun w os=>by kernel_rfl)
namespace K18
open PySem L2
section
variable {P:Program}{w:World}{K:PySem.W.Frag}{mg:Str→Option Value}{base:Heap}
inductive HG (vs:List V) (H:Hp) (Q:VK):Prop
 | mk (n d:Int) (h0:vs=[.int n,.int d]) (h1:Q (.int (Int.gcd n d:Nat)) H)
def Kz:Sp:=fun vs H Q _=>HG  vs H Q
theorem uR (T:Txt K mg):aY P w K mg base CX0 1 T.common_divisor_.f T.common_divisor_.d ["n", "d"] Kz:=by
 refine T.common_divisor_.F.ok mT (fun vs H Q E h=>?_) (fun cdv A outer s H vs Q E hr h=>?_)
 ·obtain ⟨n,d,rfl,_⟩:=h
  rfl
 ·obtain ⟨n,d,rfl,k⟩:=h
  refine ⟨_,(gk (lp PassesOwn.never (ap lV (pv 1) bH (tM _)) (ac (ua (i:=0) (j:=1) rfl mT.nd rfl rfl (by decide) rfl rfl (dB (pv 1) (dB (ai GU (pv 0) (pv 1)) bc)) rfl)))
   (ac (aw (lH oW (by rfl) T.b_abs kE (dB (pv 0) bc))))),?_⟩
  refine ⟨fun m σ H'=>∃a b:Int,σ=[some (.int a),some (.int b)]∧H'=H∧Int.gcd a b=Int.gcd n d∧m=b.natAbs,⟨_,n,d,rfl,rfl,rfl,rfl⟩,?_⟩
  rintro m σ H' ⟨a,b,rfl,rfl,hg,rfl⟩
  refine ⟨(),rfl,(),?_⟩
  by_cases hb:b=0
  ·subst hb
   refine aR ?_
   refine ⟨(),(),?_⟩
   rw [←KM.gcd_zero_abs,hg]
   exact k
  ·have e:(!decide (V.int b=V.int 0))=true:=by
    rw [decide_eq_false (fun z=>hb (by injection z))];rfl
   rw [e]
   refine bF ⟨fun σ' H''=>∃a' b':Int,σ'=[some (.int a'),some (.int b')]∧H''=H'∧Int.gcd a' b'=Int.gcd n d∧b'.natAbs<b.natAbs,?_,?_⟩
   ·rintro σ' H'' ⟨a',b',rfl,rfl,h1,h2⟩
    exact ⟨_,h2,a',b',rfl,rfl,h1,rfl⟩
   ·refine ⟨(),(),(),_,(),rfl,hb,_,(),?_⟩
    exact ⟨b,a.fmod b,rfl,rfl,(KM.gcd_fmod a b).trans hg,KM.fmod_natAbs_lt a b hb⟩
end
end K18
namespace K18
open PySem L2
section
variable {P:Program}{w:World}{K:PySem.W.Frag}{mg:Str→Option Value}{base:Heap}
theorem IW (T:Txt K mg):aY P w K mg base CX0 1 T.l_box_.f T.l_box_.d ["_law_script", "_law_k"] (JQ K):=by
 refine T.l_box_.F.ok vM (fun vs H Q E h=>?_) (fun cdv A outer s H vs Q E hr h=>?_)
 ·obtain ⟨a,ms,k,rfl,_⟩:=h
  rfl
 ·obtain ⟨a,ms,k,rfl,hS,hk0,hk1,kk⟩:=h
  refine ⟨_,(gk (iq (i:=2) vM.nd rfl (Or.inl rfl) bH)
   (gk (bh (ap kH (pv 1) (lH uC (by rfl) T.b_len aF (dB (pv 0) bc)) (tM _)) (ac (iq (i:=2) vM.nd rfl (Or.inl rfl) (cF kA (pv 0) (pv 1) (fun _ _=>rfl)))) aK)
   (ac (aw (IZ (dB (ai ir (lH oW (by rfl) T.b_abs kE (dB (pv 2) bc)) (cu yD (by rfl) T.b_int pM (dB (oa JF (lH oW (by rfl) T.b_abs kE (dB (pv 2) bc)) (ai zr bH bH) (tM _)) bc))) (dB (ai jh (ai bE (pv 2) (ai ir (ai ir bH (pv 1)) (pv 1))) bH) (dB bH bc)))))))),?_⟩
  refine ⟨(),(),a,(),.inl hS,_,(),rfl,(),?_⟩
  refine eV (fun h=>?_) (fun h=>?_)
  case' refine_1=>
   have hlt:k.toNat<ms.length:=by
    have h':=of_decide_eq_true h
    rw [List.length_map] at h'
    trivial
   refine ⟨(),(),.inl ⟨a,_,_,V.int ms[k.toNat],rfl,rfl,hS,?_,?_⟩⟩
   ·exact AV hk0 hlt
  all_goals
   refine ⟨(),(),(),(),_,(),rfl,⟨by decide,by decide,by decide⟩,_,(),rfl,.inr ⟨(),_,(),rfl,.inr ?_,(),(),_,(),rfl,.inr ⟨by trivial,by trivial⟩,(),_,(),rfl,.inr ⟨by trivial,by trivial⟩,_,(),rfl,_,(),rfl,?_,?_,fun p hp=>kk p _ hp (ad.new hp) ⟨_,_,aB,?_,?_,?_⟩⟩⟩
   ·exact LR _
   ·show (0:Int)<2147483647;decide
   ·show 3≤sizeLine;decide
   ·exact JD _ (zN _)
   ·exact Int.emod_nonneg _ (by decide)
   ·exact Int.emod_lt_of_pos _ (by decide)
end
end K18
namespace K18
open PySem L2
section
variable {P:Program}{w:World}{K:PySem.W.Frag}{mg:Str→Option Value}{base:Heap}
theorem jA (T:Txt K mg):aY P w K mg base CX0 1 T.l_take_.f T.l_take_.d ["_law_box_here", "_law_many"] HF:=by
 refine T.l_take_.F.ok uf (fun vs H Q E h=>?_) (fun cdv A outer s H vs Q E hr h=>?_)
 ·obtain ⟨b,many,t,rfl,_⟩:=h
  rfl
 ·obtain ⟨b,many,t,rfl,⟨c,x,hb,hc,hx0,hx1⟩,hm0,hm1,ht0,ht1,kk⟩:=h
  refine ⟨_,(gk (bh (ap lM (cF kA (pv 0) bH (fun _ _=>rfl)) bH (tM _)) (gk (cW (lH zP (by rfl) T.b_divmod yP (dB (cF kA (pv 0) bH (fun _ _=>rfl)) (dB (pv 1) bc))) (zK rfl (aj (kP (pv 0) bH re) (aj (dc (i:=2) uf.nd rfl (Or.inl rfl)) bK))))
   (ac (aw (pv 2)))) aK)
   (gk (cW (ai bE (cF kA (pv 0) bH (fun _ _=>rfl)) bH) (kP (pv 0) bH re))
   (gk (iq (i:=3) uf.nd rfl (Or.inl rfl) (ai jh (ai zr (ai bE (cF kA (pv 0) bH (fun _ _=>rfl)) (ai ir bH (cF kA (pv 0) bH (fun _ _=>rfl)))) bH) bH))
   (ac (aw (ai jh (ai GI (ai jh (ai bE (ai ir (pv 3) bH) (ai ir (ai ir (cF kA (pv 0) bH (fun _ _=>rfl)) (cF kA (pv 0) bH (fun _ _=>rfl))) bH)) bH) bH) (pv 1))))))),?_⟩
  refine ⟨(),.inl ⟨b,_,_,(),rfl,ah.of hb,rfl,_,(),rfl,(),?_⟩⟩
  refine eV (fun h=>?_) (fun h=>?_)
  ·refine ⟨(),.inl ⟨b,_,_,(),rfl,ah.of hb,rfl,(),_,(),⟨hm0,hm1⟩,fun p hp=>⟨p,(),ag.of aB,rfl,_,(),(),b,[.int c,.int x,.int t],_,0,rfl,rfl,?_,rfl,_,(),rfl,(),?_⟩⟩⟩
   ·rw [aE (aS hb hp)];exact hb
   ·have hb':aN H p (.tup [.int (c / many),.int (c % many)]) b=some (.lst [.int c,.int x,.int t]):=by rw [aE (aS hb hp)];exact hb
    exact kk _ t _ (Int.emod_nonneg _ (Int.ne_of_gt hm0)) (Int.emod_lt_of_pos _ hm0) (Int.le_refl _) (by trivial) (yH (ad.new hp) hb') ⟨_,_,aB,Int.ediv_nonneg hc (Int.le_of_lt hm0),hx0,hx1⟩
  ·refine ⟨(),.inl ⟨b,_,_,(),rfl,ah.of hb,rfl,_,(),rfl,(),b,_,_,2,rfl,rfl,hb,rfl,?_⟩⟩
   refine ⟨(),.inl ⟨b,_,_,(),rfl,ah.of aB,rfl,(),.inl ⟨b,_,_,(),rfl,ah.of aB,rfl,_,(),rfl,.inl ⟨by decide,by decide⟩,_,(),rfl,_,(),rfl,⟨by decide,by decide,?_⟩,_,(),rfl,?_,?_⟩⟩⟩
   ·have:(x+39373*(t+1)).natAbs<2 ^ 64:=by trivial
    exact this
   ·show (0:Int)<2147483647;decide
   have ho0:0≤(x+39373*(t+1)) ^ (5:Int).toNat % 2147483647:=Int.emod_nonneg _ (by decide)
   have ho1:(x+39373*(t+1)) ^ (5:Int).toNat % 2147483647<2147483647:=Int.emod_lt_of_pos _ (by decide)
   generalize (x+39373*(t+1)) ^ (5:Int).toNat % 2147483647=on at ho0 ho1 ⊢
   refine ⟨(),_,(),rfl,.inr ⟨by decide,by decide⟩,(),.inl ⟨b,_,_,(),rfl,ah.of aB,rfl,(),.inl ⟨b,_,_,(),rfl,ah.of aB,rfl,_,(),rfl,.inl ⟨?_,?_⟩,_,(),rfl,.inr ⟨by decide,by decide⟩,_,(),rfl,_,(),rfl,?_,_,(),rfl,⟨by decide,by decide⟩,(),_,(),rfl,hm0,?_⟩⟩⟩
   ·show -(2 ^ 64)<t+1;trivial
   ·show t+1<2 ^ 64;trivial
   ·show (0:Int)<2147483629;decide
   ·exact kk _ (t+1) _ (Int.emod_nonneg _ (Int.ne_of_gt hm0)) (Int.emod_lt_of_pos _ hm0) (by trivial) (Int.le_refl _) (yH (ad.refl H) hb) ⟨c,x,aB,hc,hx0,hx1⟩
end
end K18
namespace K18
open PySem L2
section
variable {P:Program}{w:World}{K:PySem.W.Frag}{mg:Str→Option Value}{base:Heap}
inductive EO (K:PySem.W.Frag) (vs:List V) (H:Hp) (Q:VK):Prop
 | mk (a:Addr) (ns:List Int) (many:Int) (h0:vs=[.ref a,.int many]) (h1:ah K H a (ns.map V.int)) (h2:ns.length≤63) (h3:2≤many) (h4:many≤63) (h5:∀p ms H',H p=none→ad H H'→H' p=some (.lst ((ms:List Int).map V.int))→(ms.length:Int)≤many→Q (.ref p) H')
def FY (K:PySem.W.Frag):Sp:=fun vs H Q _=>EO K vs H Q
theorem Dc (T:Txt K mg):aY P w K mg base CX0 1 T.l_folded_.f T.l_folded_.d ["_law_script", "_law_many"] (FY K):=by
 refine T.l_folded_.F.ok lN (fun vs H Q E h=>?_) (fun cdv A outer s H vs Q E hr h=>?_)
 ·obtain ⟨a,ns,many,rfl,_⟩:=h
  rfl
 ·obtain ⟨a,ns,many,rfl,hS,hn,hm0,hm1,kk⟩:=h
  refine ⟨_,(gk (iq (i:=2) lN.nd rfl (Or.inl rfl) (cu tX (by rfl) T.b_list jv (dB (dI xy (pv 0) fS (d7 (pv 1))) bc)))
   (gk (cC PassesOwn.never rfl (GT rfl T.b_enumerate (dB (dI xy (pv 0) (d7 (pv 1)) (d7 bH)) bc)) (zK rfl (aj (dc (i:=3) lN.nd rfl (Or.inl rfl)) (aj (dc (i:=4) lN.nd rfl (Or.inl rfl)) bK))) (ac (cW (ai bE (cF kA (pv 2) (ai jh (pv 3) (pv 1)) (fun _ _=>rfl)) (ai ir (pv 4) (ai bE (pv 3) bH))) (kP (pv 2) (ai jh (pv 3) (pv 1)) re))))
   (ac (aw (pv 2))))),?_⟩
  have cutE:∀(lo hi:Option Int),∃cs:List Int,gQ (ns.map V.int) lo hi=cs.map V.int∧cs.length≤ns.length∧cs=(ns.drop (HT.sIx ns.length 0 lo)).take (HT.sIx ns.length ns.length hi - HT.sIx ns.length 0 lo):=fun lo hi=>by
   refine ⟨(ns.drop (HT.sIx ns.length 0 lo)).take (HT.sIx ns.length ns.length hi - HT.sIx ns.length 0 lo),?_,?_,rfl⟩
   ·unfold gQ
    rw [List.length_map,List.map_take,List.map_drop]
   ·rw [List.length_take,List.length_drop];trivial
  obtain ⟨c1,e1,l1,q1⟩:=cutE none (some many)
  obtain ⟨c2,e2,l2,q2⟩:=cutE (some many) (some 63)
  have em:many=((many.toNat:Nat):Int):=by trivial
  have l1m:c1.length=min many.toNat ns.length:=by
   rw [q1,em,HT.sIx_nat,HT.sIx_none,List.length_take,List.length_drop]
   simp only [Int.toNat_natCast]
   trivial
  have l2m:c2.length≤ns.length - many.toNat:=by
   rw [q2,em,HT.sIx_nat,List.length_take,List.length_drop]
   simp only [Int.toNat_natCast]
   trivial
  refine ⟨(),(),(),a,(),hS,fun p1 hp1=>⟨p1,(),.inl (ah.of aB),fun p2 hp2=>?_⟩⟩
  rw [e1] at hp2 ⊢
  have n12:p2≠p1:=fun z=>by rw [z,aB] at hp2;cases hp2
  have s2:ad H (aN (aN H p1 (.lst (c1.map V.int))) p2 (.lst (c1.map V.int))):=(ad.new hp1).trans (ad.new hp2)
  refine ⟨(),(),(),(),a,(),s2.seq hS,fun p3 hp3=>⟨p3,rfl,⟨_,ah.of aB⟩,?_⟩⟩
  rw [e2]
  have s3:=s2.trans (ad.new (o:=.lst (c2.map V.int)) hp3)
  have n23:p2≠p3:=fun z=>by rw [←z,aB] at hp3;cases hp3
  refine ⟨fun i m σ H'=>m=c2.length - i∧i≤c2.length∧fD fun (ms:List Int) (v3 v4:Option V)=>σ=[some (.ref a),some (.int many),some (.ref p2),v3,v4]∧ms.length=c1.length∧H' p2=some (.lst (ms.map V.int))∧H' p3=some (.lst (c2.map V.int))∧(∀b o,b≠p2→H b=some o→H' b=some o),⟨(),Nat.zero_le _,c1,none,none,rfl,rfl,?_,aB,fun b o _ h=>s3 b o h⟩,?_⟩
  ·rw [aE n23];exact aB
  rintro i m σ H' ⟨rfl,hi,ms,v3,v4,rfl,hms,h2,h3,hk⟩
  by_cases hlt:i<c2.length
  ·refine .inr ⟨⟨c2.map V.int,V.int c2[i],ah.of h3,by rw [List.getElem?_map];simp [hlt]⟩,_,fun σ' H'' z=>z,?_⟩
   rintro x H'' ⟨t,y,ht,rfl,rfl,hy⟩
   have hy':=hy _ (ah.of h3)
   rw [List.getElem?_map,List.getElem?_eq_getElem hlt] at hy'
   obtain rfl:V.int c2[i]=y:=Option.some.inj hy'
   have nt2:p2≠t:=aS h2 ht
   have nt3:p3≠t:=aS h3 ht
   have hlen:many.toNat<ns.length:=by trivial
   have hmod0:0≤(i:Int) % many:=Int.emod_nonneg _ (by trivial)
   have hmod1:(i:Int) % many<many:=Int.emod_lt_of_pos _ (by trivial)
   have hixlt:((i:Int) % many).toNat<ms.length:=by trivial
   refine ⟨t,(),ag.of aB,rfl,_,(),_,(),rfl,(),(),(),_,(),rfl,(by show (0:Int)<many;trivial),.inl ⟨p2,ms.map V.int,_,V.int ms[((i:Int) % many).toNat],rfl,rfl,ah.of (by rw [aE nt2];exact h2),AV hmod0 hixlt,(),(),_,(),rfl,_,(),rfl,.inr ⟨?_,?_⟩,_,(),rfl,(),(),(),_,(),rfl,(by show (0:Int)<many;trivial),p2,ms.map V.int,_,((i:Int) % many).toNat,rfl,rfl,(by rw [aE nt2];exact h2),?_,?_⟩⟩
   ·trivial
   ·trivial
   ·unfold o5
    rw [if_pos hmod0,List.length_map,if_pos (by trivial)]
   ·refine ⟨c2.length - (i+1),by trivial,rfl,hlt,ms.set ((i:Int) % many).toNat (ms[((i:Int) % many).toNat]+c2[i]*((i:Int)+2)),_,(),by rw [List.length_set];exact hms,?_,?_,fun b o hb h=>?_⟩
    ·rw [aB,List.map_set]
    ·rw [aE (Ne.symm n23),aE nt3];exact h3
    ·have:=hk b o hb h
     rw [aE hb,aE (aS this ht)]
     exact this
  ·refine .inl ⟨⟨_,ah.of h3,by rw [List.length_map];trivial⟩,?_⟩
   have hp2':H p2=none:=by
    rw [aE n12] at hp2
    exact hp2
   have sH:ad H H':=fun b o h=>hk b o (aS h hp2') h
   exact ⟨(),kk p2 ms H' hp2' sH h2 (by trivial)⟩
end
end K18
namespace K18
open PySem L2
section
variable {P:Program}{w:World}{K:PySem.W.Frag}{mg:Str→Option Value}{base:Heap}
theorem pC (T:Txt K mg):aY P w K mg base CX0 2 T.fraction_.f T.fraction_.d ["n", "d"] Jl:=by
 have G_common_divisor:=#[(uR)]
 refine T.fraction_.F.ok pK (fun vs H Q E h=>?_) (fun cdv A outer s H vs Q E hr h=>?_)
 ·obtain ⟨n,d,rfl,_⟩:=h
  rfl
 ·obtain ⟨n,d,rfl,hd,hs,k⟩:=h
  refine ⟨_,#[#[2,pK.nd,dZ,#[G_common_divisor,nR,T.common_divisor_,#[[#[0,tw],#[1,oO]]]]] :: #[#[bh 8 #[ap 8 (@kH _) #[1,oO] #[()] #[(),()]] #[ac 3 #[2,pK.nd,dZ,#[uJ 6 (@qc _) #[2,dZ]]]] (@aK _)] :: #[ac 3 #[aw 4 #[ak 5 #[[#[ai 8 (@zw _) #[0,tw] #[2,dZ]],#[ai 8 (@zw _) #[1,oO] #[2,dZ]]]]]]]]],?_⟩
  refine ⟨(),(),n,d,rfl,(),_,(),rfl,(),?_⟩
  have g0:=KM.gcd_pos (n:=n) hd
  have gs:=Lf (n:=n) hd hs
  have kl:=KM.fdiv_low (n:=n) hd
  by_cases h0:d<0
  ·rw [decide_eq_true h0]
   rw [if_pos h0] at kl
   have c1:∀x,BB x (-((Int.gcd n d:Nat):Int)):=fun x=>⟨by trivial,gs.neg⟩
   refine bF ⟨(),(),(),(),_,(),rfl,c1 n,(),(),_,(),rfl,c1 d,(by show 2≤10000;decide),fun p H1 nw=>?_⟩
   have q:=k p H1
   rw [←kl] at q
   exact q nw
  ·rw [decide_eq_false h0]
   rw [if_neg h0] at kl
   have c1:∀x,BB x ((Int.gcd n d:Nat):Int):=fun x=>⟨by trivial,gs⟩
   refine aR ⟨(),(),_,(),rfl,c1 n,(),(),_,(),rfl,c1 d,(by show 2≤10000;decide),fun p H1 nw=>?_⟩
   have q:=k p H1
   rw [←kl] at q
   exact q nw
theorem Fi (T:Txt K mg):aY P w K mg base CX0 3 T.taken_.f T.taken_.d ["one", "other"] (Ai Lz Js):=by
 have G_fraction:=#[(pC)]
 refine T.taken_.F.ok Fg (fun vs H Q E h=>?_) (fun cdv A outer s H vs Q E hr h=>?_)
 ·obtain ⟨a,b,n1,d1,n2,d2,rfl,_⟩:=h
  rfl
 ·obtain ⟨a,b,n1,d1,n2,d2,rfl,ha,hb,⟨z1,z2,z3,z4,hd⟩,k⟩:=h
  refine ⟨_,#[ac 3 #[aw 4 #[G_fraction,vQ,T.fraction_,#[[#[ai 8 (@f9 _) #[ai 8 (@bO _) #[#[0,pN][#[()]]] #[#[1,mO][#[()]]]] #[ai 8 (@bO _) #[#[1,mO][#[()]]] #[#[0,pN][#[()]]]]],#[ai 8 (@bO _) #[#[0,pN][#[()]]] #[#[1,mO][#[()]]]]]]]]],?_⟩
  exact ⟨(),a,_,_,(),rfl,ag.of ha,rfl,(),b,_,_,(),rfl,ag.of hb,rfl,_,(),rfl,gE z1 z4,(),b,_,_,(),rfl,ag.of hb,rfl,(),a,_,_,(),rfl,ag.of ha,rfl,_,(),rfl,gE z3 z2,_,(),rfl,
   _,rfl,a,_,_,_,rfl,rfl,ag.of ha,rfl,_,rfl,b,_,_,_,rfl,rfl,ag.of hb,rfl,_,_,rfl,rfl,gE z2 z4,_,_,rfl,hd,rF z2 z4,k⟩
theorem zI (T:Txt K mg):aY P w K mg base CX0 3 T.times_.f T.times_.d ["one", "other"] (Ai LK Js):=by
 have G_fraction:=#[(pC)]
 refine T.times_.F.ok EF (fun vs H Q E h=>?_) (fun cdv A outer s H vs Q E hr h=>?_)
 ·obtain ⟨a,b,n1,d1,n2,d2,rfl,_⟩:=h
  rfl
 ·obtain ⟨a,b,n1,d1,n2,d2,rfl,ha,hb,⟨z1,z2,z3,z4,hd⟩,k⟩:=h
  refine ⟨_,#[ac 3 #[aw 4 #[G_fraction,vX,T.fraction_,#[[#[ai 8 (@bO _) #[#[0,vw][#[()]]] #[#[1,sg][#[()]]]],#[ai 8 (@bO _) #[#[0,vw][#[()]]] #[#[1,sg][#[()]]]]]]]]],?_⟩
  exact ⟨(),a,_,_,(),rfl,ag.of ha,rfl,(),b,_,_,(),rfl,ag.of hb,rfl,_,(),rfl,gE z1 z3,
   _,rfl,a,_,_,_,rfl,rfl,ag.of ha,rfl,_,rfl,b,_,_,_,rfl,rfl,ag.of hb,rfl,_,_,rfl,rfl,gE z2 z4,_,_,rfl,hd,rF z2 z4,k⟩
theorem FP (T:Txt K mg):aY P w K mg base CX0 3 T.over_.f T.over_.d ["one", "other"] (Ai Ln Ly):=by
 have G_fraction:=#[(pC)]
 refine T.over_.F.ok F5 (fun vs H Q E h=>?_) (fun cdv A outer s H vs Q E hr h=>?_)
 ·obtain ⟨a,b,n1,d1,n2,d2,rfl,_⟩:=h
  rfl
 ·obtain ⟨a,b,n1,d1,n2,d2,rfl,ha,hb,⟨z1,z2,z3,z4,hd⟩,k⟩:=h
  refine ⟨_,#[ac 3 #[aw 4 #[G_fraction,wH,T.fraction_,#[[#[ai 8 (@bO _) #[#[0,wR][#[()]]] #[#[1,um][#[()]]]],#[ai 8 (@bO _) #[#[0,wR][#[()]]] #[#[1,um][#[()]]]]]]]]],?_⟩
  exact ⟨(),a,_,_,(),rfl,ag.of ha,rfl,(),b,_,_,(),rfl,ag.of hb,rfl,_,(),rfl,gE z1 z4,
   _,rfl,a,_,_,_,rfl,rfl,ag.of ha,rfl,_,rfl,b,_,_,_,rfl,rfl,ag.of hb,rfl,_,_,rfl,rfl,gE z2 z3,_,_,rfl,hd,rF z2 z3,k⟩
theorem vE (T:Txt K mg):aY P w K mg base CX0 1 T.compared_.f T.compared_.d ["one", "other"] JZ:=by
 refine T.compared_.F.ok pE (fun vs H Q E h=>?_) (fun cdv A outer s H vs Q E hr h=>?_)
 ·obtain ⟨a,b,n1,d1,n2,d2,rfl,_⟩:=h
  rfl
 ·obtain ⟨a,b,n1,d1,n2,d2,rfl,ha,hb,z1,z2,z3,z4,k⟩:=h
  refine ⟨_,#[#[2,pE.nd,kr,#[ai 8 (@bO _) #[#[0,qu][#[()]]] #[#[1,oE][#[()]]]]] :: #[#[3,pE.nd,jZ,#[ai 8 (@bO _) #[#[1,oE][#[()]]] #[#[0,qu][#[()]]]]] :: #[#[bh 8 #[ap 8 (@kH _) #[2,kr] #[3,jZ] #[(),()]] #[ac 3 #[aw 4 #[uJ 6 (@qc _) #[()]]]] (@aK _)] :: #[#[bh 8 #[ap 8 (@lM _) #[2,kr] #[3,jZ] #[(),()]] #[ac 3 #[aw 4 #[()]]] (@aK _)] :: #[ac 3 #[aw 4 #[()]]]]]]],?_⟩
  refine ⟨(),a,_,_,(),rfl,ag.of ha,rfl,(),b,_,_,(),rfl,ag.of hb,rfl,_,(),rfl,gE z1 z4,(),b,_,_,(),rfl,ag.of hb,rfl,(),a,_,_,(),rfl,ag.of ha,rfl,_,(),rfl,gE z3 z2,
   _,rfl,_,rfl,_,_,rfl,rfl,_,rfl,?_⟩
  unfold rN at k
  by_cases h1:n1*d2<n2*d1
  ·rw [decide_eq_true h1]
   rw [if_pos h1] at k
   exact bF ⟨(),k⟩
  ·rw [decide_eq_false h1]
   rw [if_neg h1] at k
   refine aR ⟨(),(),_,(),rfl,(),?_⟩
   by_cases h2:n2*d1<n1*d2
   ·rw [decide_eq_true h2]
    rw [if_pos h2] at k
    exact bF k
   ·rw [decide_eq_false h2]
    rw [if_neg h2] at k
    exact aR k
end
end K18
namespace K18
open PySem L2
section
variable {P:Program}{w:World}{K:PySem.W.Frag}{mg:Str→Option Value}{base:Heap}
theorem AO {n d:Int} (hd:d≠0) (h:d.natAbs.log2<9000):BA n ((Int.gcd n d:Nat):Int):=by
 have g0:=KM.gcd_pos (n:=n) hd
 refine ⟨by trivial,?_⟩
 have h1:Int.gcd n d≤d.natAbs:=Nat.le_of_dvd (by trivial) (by
  have:((Int.gcd n d:Nat):Int) ∣ d:=Int.gcd_dvd_right ..
  exact Int.ofNat_dvd_left.mp this)
 have h2:d.natAbs<2 ^ 9000:=(Nat.log2_lt (by trivial)).mp h
 rw [Int.natAbs_natCast]
 exact (Nat.log2_lt (by trivial)).mpr (Nat.lt_of_le_of_lt h1 h2)
inductive Gw (vs:List V) (H:Hp) (Q:VK):Prop
 | mk (n d:Int) (h0:vs=[.int n,.int d]) (h1:0<d) (h2:Sz 9000 d) (h3:∀p H',Nw H p (fr (KM.low n d)) H'→Q (.ref p) H')
def Ig:Sp:=fun vs H Q _=>Gw  vs H Q
theorem ke (T:Txt K mg):aY P w K mg base CX0 1 T.l_frac_.f T.l_frac_.d ["_law_n", "_law_d"] Ig:=by
 refine T.l_frac_.F.ok pj (fun vs H Q E h=>?_) (fun cdv A outer s H vs Q E hr h=>?_)
 ·obtain ⟨n,d,rfl,_⟩:=h
  rfl
 ·obtain ⟨n,d,rfl,hd,hs,k⟩:=h
  have hl:=hs.log (Int.ne_of_gt hd)
  refine ⟨_,#[#[ua 2 (2) (3) _ _ _ _ _ _ _ _ _ _ _ rfl pj.nd rfl rfl (by decide) dH fh #[[#[(),(),(@oW _),uk,T.b_abs,(@kE),#[[#[0,tK]]]],#[(),(),(@oW _),uk,T.b_abs,(@kE),#[[#[1,oi]]]]]] (by kernel_rfl) (by rfl)] :: #[#[lp 6 PassesOwn.never #[ap 8 (@lM _) #[3,fh] #[()] #[(),()]] #[ac 3 #[ua 2 (2) (3) _ _ _ _ _ _ _ _ _ _ _ rfl pj.nd rfl rfl (by decide) dH fh #[[#[3,fh],#[ai 8 (@jh _) #[2,dH] #[3,fh]]]] (by kernel_rfl) (by rfl)]]] :: #[#[2,pj.nd,dH,#[ai 8 (@ir _) #[2,dH] #[hU 8 #[ap 8 (@lM _) #[1,oi] #[()] #[(),()]] #[()] #[uJ 6 (@qc _) #[()]]]]] :: #[ac 3 #[aw 4 #[ak 5 #[[#[ai 8 (@zU _) #[0,tK] #[2,dH]],#[ai 8 (@zU _) #[1,oi] #[2,dH]]]]]]]]]],?_⟩
  refine ⟨(),(),(),(),_,(),?_⟩
  refine ⟨fun m σ H'=>∃a b:Int,σ=[some (.int n),some (.int d),some (.int a),some (.int b)]∧H'=H∧0≤a∧0≤b∧Int.gcd a b=Int.gcd n d∧m=b.natAbs,⟨_,_,(),rfl,zN n,zN d,KM.gcd_abs n d,rfl⟩,?_⟩
  rintro m σ H' ⟨a,b,rfl,rfl,ha,hb,hg,rfl⟩
  refine ⟨(),_,(),rfl,(),?_⟩
  by_cases hb0:0<b
  ·rw [decide_eq_true hb0]
   refine bF ⟨fun σ' H''=>∃a' b':Int,σ'=[some (.int n),some (.int d),some (.int a'),some (.int b')]∧H''=H'∧0≤a'∧0≤b'∧Int.gcd a' b'=Int.gcd n d∧b'.natAbs<b.natAbs,?_,?_⟩
   ·rintro σ' H'' ⟨a',b',rfl,rfl,h0,h1,h2,h3⟩
    exact ⟨_,h3,a',b',rfl,rfl,h0,h1,h2,rfl⟩
   ·refine ⟨(),(),(),_,(),rfl,hb0,_,(),?_⟩
    have q0:=Int.emod_nonneg a (Int.ne_of_gt hb0)
    have q1:=Int.emod_lt_of_pos a hb0
    exact ⟨b,a % b,rfl,rfl,hb,q0,(KM.gcd_emod a b).trans hg,by trivial⟩
  ·have hb1:b=0:=by trivial
   subst hb1
   rw [decide_eq_false hb0]
   refine aR ?_
   have eg:a=((Int.gcd n d:Nat):Int):=by
    rw [←hg,KM.gcd_zero_abs,if_neg (by trivial)]
   have c1:=AO (n:=n) (Int.ne_of_gt hd) hl
   have c2:=AO (n:=d) (d:=d) (Int.ne_of_gt hd) hl
   rw [←eg] at c1
   refine ⟨(),(),_,(),rfl,(),?_⟩
   rw [decide_eq_true hd]
   refine bF ⟨_,(),rfl,.inr ⟨by decide,by decide⟩,?_⟩
   show qZ 2 (V.int (a*1)) _ _ _
   rw [Int.mul_one]
   refine ⟨(),(),_,(),rfl,c1,(),(),_,(),rfl,⟨c1.1,c1.2⟩,(by show 2≤10000;decide),fun p H2 n2=>k p H2 ?_⟩
   unfold KM.low
   rw [if_pos hd,←eg]
   exact n2
theorem Av (T:Txt K mg):aY P w K mg base CX0 2 T.l_any_gain_.f T.l_any_gain_.d ["_law_box_here"] (Kg 6 1):=by
 have G_l_take:=#[(jA)]
 have G_l_frac:=#[(ke)]
 refine T.l_any_gain_.F.ok mF (fun vs H Q E h=>?_) (fun cdv A outer s H vs Q E hr h=>?_)
 ·obtain ⟨b,t,rfl,_⟩:=h
  rfl
 ·obtain ⟨b,t,rfl,B,ht0,ht1,k⟩:=h
  refine ⟨_,#[#[1,mF.nd,fX,#[G_l_take,iJ,T.l_take_,#[[#[0,fH],#[()]]]]] :: #[#[bh 8 #[ap 8 (@kH _) #[1,fX] #[()] #[(),()]] #[ac 3 #[aw 4 #[ak 5 #[[#[()],#[()]]]]]] (@aK _)] :: #[#[2,mF.nd,mh,#[ai 8 (@bE _) #[()] #[G_l_take,iJ,T.l_take_,#[[#[0,fH],#[hU 8 #[ap 8 (@gY _) #[1,fX] #[()] #[(),()]] #[()] #[()]]]]]]] :: #[ac 3 #[aw 4 #[G_l_frac,sX,T.l_frac_,#[[#[2,mh],#[ai 8 (@bE _) #[()] #[G_l_take,iJ,T.l_take_,#[[#[0,fH],#[hU 8 #[ap 8 (@gY _) #[1,fX] #[()] #[(),()]] #[()] #[()]]]]]]]]]]]]]],?_⟩
  refine ⟨(),b,8,t,rfl,B,by decide,by decide,ht0,by trivial,fun wy t1 H1 w0 w1 h1a h1b s1 B1=>?_⟩
  refine ⟨(),_,(),rfl,(),eV (fun c=>?_) (fun c=>?_)⟩
  ·exact ⟨(by show 2≤10000;decide),fun o H2 n2=>k o _ _ t1 H2 (s1.trans n2.sm.toE) n2.at' (Fb.small (by decide) (by decide) (by decide) (by decide)) (by decide) (B1.same n2.sm) (by trivial) (by trivial)⟩
  have hw:0<(if decide (V.int wy=V.int 7)=true then (60:Int) else 12)∧(if decide (V.int wy=V.int 7)=true then (60:Int) else 12)≤60:=by split <;> decide
  refine ⟨(),(),rfl,(),Lb ?_⟩
  refine ⟨b,_,t1,rfl,B1,hw.1,mH hw.1 (by trivial),by trivial,by trivial,fun r2 t2 H2 a20 a21 _ _ s2 B2=>⟨_,(),rfl,(),(),(),rfl,(),Lb ?_⟩⟩
  refine ⟨b,_,t2,rfl,B2,hw.1,mH hw.1 (by trivial),by trivial,by trivial,fun r3 t3 H3 a30 a31 _ _ s3 B3=>⟨_,(),rfl,?_⟩⟩
  have f:=GL (n:=1+r2) (d:=1+r3) (by trivial) (by trivial) (by trivial) (by trivial)
  exact ⟨_,(),by trivial,Sz.mono (m:=40) (by show (1+r3).natAbs<1099511627776;trivial) (by decide),fun o H4 n4=>k o _ _ t3 H4 (((s1.trans s2).trans s3).trans n4.sm.toE) n4.at' f.1 f.2 (B3.same n4.sm) (by trivial) (by trivial)⟩
end
end K18
namespace K18
open PySem L2
def sk (d1 d2 k:Nat):List Nat:=if k<8 then nm d1 k else List.replicate (k - 7) d2++[d1]
theorem CO {d1 d2:Nat} (hd:d1≠d2) {n:Nat} (hn:n≤10):((List.range n).map (sk d1 d2)).Nodup:=by
 have all:∀a b:Nat,a<10→b<10→sk d1 d2 a=sk d1 d2 b→a=b:=fun a b ha hb h=>by
  have hl:=congrArg List.length h
  have hh:=congrArg List.head? h
  unfold sk nm at hl hh
  have r:∀m x:Nat,0<m→(List.replicate m x).head?=some x:=fun m x hm=>by
   cases m with
   | zero=>trivial
   | succ m=>rfl
  have r2:∀(m x:Nat) (l:List Nat),0<m→(List.replicate m x++l).head?=some x:=fun m x l hm=>by
   cases m with
   | zero=>trivial
   | succ m=>rfl
  by_cases c1:a<8 <;> by_cases c2:b<8
  ·simp [c1,c2] at hl;exact hl
  ·rw [if_pos c1,if_neg c2,r _ _ (by trivial),r2 _ _ _ (by trivial)] at hh
   exact absurd (Option.some.inj hh) hd
  ·rw [if_neg c1,if_pos c2,r _ _ (by trivial),r2 _ _ _ (by trivial)] at hh
   exact absurd (Option.some.inj hh).symm hd
  ·simp [c1,c2] at hl;trivial
 rw [List.nodup_iff_pairwise_ne,List.pairwise_map]
 refine List.Pairwise.imp_of_mem (fun {a b} ha hb hab z=>?_) (List.nodup_iff_pairwise_ne.mp List.nodup_range)
 exact hab (all a b (by have:=List.mem_range.mp ha;trivial) (by have:=List.mem_range.mp hb;trivial) z)
theorem HD {d1 d2 k:Nat} (hk:k<10) (h1:97≤d1) (h2:d1≤122) (h3:97≤d2) (h4:d2≤122):lK (sk d1 d2 k):=by
 unfold sk
 by_cases c:k<8
 ·rw [if_pos c];exact Kb c h1 h2
 ·rw [if_neg c]
  refine ⟨by simp,by simp;trivial,fun x hx=>?_⟩
  rcases List.mem_append.mp hx with q | q
  ·rw [(List.mem_replicate.mp q).2];exact ⟨h3,h4⟩
  ·rw [List.mem_singleton.mp q];exact ⟨h1,h2⟩
section
variable {P:Program}{w:World}{K:PySem.W.Frag}{mg:Str→Option Value}{base:Heap}
inductive DQ (vs:List V) (H:Hp) (Q:VK):Prop
 | mk (b:Addr) (many t:Int) (h0:vs=[.ref b,.int many]) (h1:Bx H b t) (h2:0≤t) (h3:t≤900000) (h4:1≤many) (h5:many≤10) (h6:∀q ls t' H',aq (Eb b) H H'→H' q=some (.tup ((ls:List (List Nat)).map ar))→ls.length=many.toNat→ls.Nodup→(∀l∈ls,lK l)→Bx H' b t'→t≤t'→t'≤t+12→Q (.ref q) H')
def Ff:Sp:=fun vs H Q _=>DQ  vs H Q
theorem Ay (T:Txt K mg):aY P w K mg base CX0 2 T.l_names_by_.f T.l_names_by_.d ["_law_box_here", "_law_many"] Ff:=by
 have G_l_take:=#[(jA)]
 refine T.l_names_by_.F.ok eL (fun vs H Q E h=>?_) (fun cdv A outer s H vs Q E hr h=>?_)
 ·obtain ⟨b,many,t,rfl,_⟩:=h
  rfl
 ·obtain ⟨b,many,t,rfl,B,ht0,ht1,hm1,hm2,k⟩:=h
  refine ⟨_,#[#[cW 6 #[ak 5 #[[#[jS 4],#[G_l_take,iO,T.l_take_,#[[#[0,(fI)],#[()]]]],#[G_l_take,iO,T.l_take_,#[[#[0,(fI)],#[()]]]]]]] (@bM _ (K) _ _ _ _ (3) rfl #[aj 5 #[dc 2 (2) _ eL.nd rfl (Or.inr pV) (by first | exact .inl rfl | exact .inr rfl | assumption)] #[aj 5 #[dc 2 (3) _ eL.nd rfl (Or.inr ku) (by first | exact .inl rfl | exact .inr rfl | assumption)] #[aj 5 #[4,eL.nd,kZ] (@bK _) (by rfl)] (by rfl)] (by rfl)] (by rfl) (by rfl) (by rfl)) (by rfl) (by rfl) (by rfl)] :: #[#[iq 2 (5) _ _ _ _ eL.nd rfl (Or.inr qq) (@bS _ (K) _ _ _ _ _ _ _ _ _ _ _ PySem.F.plainAttrs_str PySem.F.slot_str_join PySem.F.type_str_join (@GG _ (K) (by rfl)) #[jS 4] #[[#[fN 7 (["_law_k", "_law_box_here", "_law_letters"]) (1) ([0,2]) _ _ _ _ rfl (by kernel_rfl) #[eX 6 jg T.b_range #[[#[4,kZ]]] (by rfl)] (fun _ _ _ _ _ _=>#[0,(),()]) (fun _ _ _ _ _ _=>@cH _) (fun _ _ _ _ _ _=>#[cF 7 (@zd _) #[2,0] #[G_l_take,(),T.l_take_,#[[#[1,0],#[()]]]] (fun _ _=>rfl)]) (by intro _;rfl)]]] (by rfl) (by rfl) (by rfl) (by rfl) (by rfl) (by rfl)) (by rfl) (by first | exact .inl rfl | exact .inr rfl | assumption)] :: #[#[bh 8 #[ap 8 (@gY _) #[G_l_take,iO,T.l_take_,#[[#[0,(fI)],#[()]]]] #[()] #[(),()]] #[#[cW 6 #[#[aL 4 #[[#[ak 5 #[[#[jS 4],#[jS 4]]]],#[ak 5 #[[#[jS 4],#[jS 4]]]]]]][#[cu 9 (@yD _) wp T.b_int (@pM) #[[#[oa 8 (@gY _) #[3,(ku)] #[()] #[(),()]]]] (by decide) (by decide) (by rfl) (by rfl)]]!] (@bM _ (K) _ _ _ _ (2) rfl #[aj 5 #[dc 2 (6) _ eL.nd rfl (Or.inr sB) (by first | exact .inl rfl | exact .inr rfl | assumption)] #[aj 5 #[dc 2 (7) _ eL.nd rfl (Or.inr qY) (by first | exact .inl rfl | exact .inr rfl | assumption)] (@bK _) (by rfl)] (by rfl)] (by rfl) (by rfl) (by rfl)) (by rfl) (by rfl) (by rfl)] :: #[ac 3 #[aw 4 #[cu 9 (@jB _ (K) (by rfl)) mr T.b_tuple (@eH) #[[#[fN 7 (["_law_k", "_law_other", "_law_sign"]) (1) ([7,6]) _ _ _ _ rfl (by kernel_rfl) #[eX 6 jg T.b_range #[[#[1,kX]]] (by rfl)] (fun _ _ _ _ _ _=>#[0,(),()]) (fun _ _ _ _ _ _=>@cH _) (fun _ _ _ _ _ _=>#[hU 8 #[ap 8 (@kH _) #[0,()] #[()] #[(),()]] #[ai 8 (@A6 _) #[2,0] #[ai 8 (@bE _) #[0,()] #[()]]] #[ai 8 (@AI _) #[ai 8 (@A6 _) #[1,0] #[ai 8 (@f9 _) #[0,()] #[()]]] #[2,0]]]) (by intro _;rfl)]]] (by decide) (by decide) (by rfl) (by rfl)]]]] (@aK _)] :: #[ac 3 #[aw 4 #[cu 9 (@jB _ (K) (by rfl)) mr T.b_tuple (@eH) #[[#[fN 7 (["_law_k", "_law_behind", "_law_first", "_law_letters"]) (1) ([5,3,2]) _ _ _ _ rfl (by kernel_rfl) #[eX 6 jg T.b_range #[[#[1,kX]]] (by rfl)] (fun _ _ _ _ _ _=>#[0,(),()]) (fun _ _ _ _ _ _=>@cH _) (fun _ _ _ _ _ _=>#[ai 8 (@AI _) #[cF 7 (@zd _) #[3,0] #[ai 8 (@jh _) #[ai 8 (@bE _) #[2,0] #[ai 8 (@ir _) #[()] #[0,()]]] #[()]] (fun _ _=>rfl)] #[1,0]]) (by intro _;rfl)]]] (by decide) (by decide) (by rfl) (by rfl)]]]]]],?_⟩
  have hz:(Str.ofString "abcdefghijklmnopqrstuvwxyz").length≤sizeLine:=by nofun
  refine ⟨(),b,26,t,rfl,B,by decide,by decide,ht0,by trivial,fun f t1 H1 f0 f1 h1a h1b s1 B1=>⟨(),b,8,t1,rfl,B1,by decide,by decide,by trivial,by trivial,fun r t2 H2 r0 r1 h2a h2b s2 B2=>⟨(by show 3≤10000;decide),fun q H3 n3=>⟨q,(),ag.of n3.at',rfl,_,(),_,(),_,(),rfl,?_⟩⟩⟩⟩
  have B3:=B2.same n3.sm
  have s03:=(s1.trans s2).trans n3.sm.toE
  refine ⟨rfl,(),(),by trivial,by trivial,fun D2 hD2=>mD (n:=r.toNat) (fun i H' ys=>aZ fun (cs:List Nat) (t':Int)=>ys=cs.map (fun c=>ar [c])∧H' D2=some (.lst ys)∧cs.length=i∧(∀c∈cs,97≤c∧c≤122)∧Bx H' b t'∧t2≤t'∧t'≤t2+i∧aq (Eb b) H3 H') ?_ ?_ ?_ ?_ ?_ ?_ ?_⟩
  ·rw [sizeLine_eq];trivial
  ·exact ⟨[],t2,rfl,aB,rfl,fun c h=>(by cases h),B3.same (ad.new hD2),by trivial,by trivial,(ad.new hD2).toE⟩
  ·rintro i' H'' ys ⟨cs,t7,rfl,e,rfl,_⟩
   exact ⟨e,by simp⟩
  ·intro i' H'' ys hi' _
   exact hi'
  ·intro H'' ys _
   exact Nat.le_refl _
  ·have nD2:¬D2=b:=fun z=>B3.ne hD2 z.symm
   rintro i' Ha ys x Hb hi' ⟨cs,t7,rfl,g1,g2,g3,g4,g5,g6,g7⟩ ⟨rfl,rfl⟩
   refine ⟨di,(),(),b,26,t7,rfl,g4,by decide,by decide,by trivial,by trivial,fun r8 t8 Hc r80 r81 _ _ jc Cc=>⟨_,_,(),rfl,hz,x5 (by trivial) (by trivial),?_⟩⟩
   have eD:=jc.old D2 _ nD2 g1
   refine ⟨eD,cs++[97+(r8 % 26).toNat],t8,by rw [List.map_append];rfl,aB,by rw [List.length_append,g2];rfl,fun c hc=>?_,?_,by trivial,by trivial,(g7.trans jc).up hD2⟩
   ·rcases List.mem_append.mp hc with h | h
    ·exact g3 c h
    ·rw [List.mem_singleton.mp h];trivial
   ·have c':Ch Hc D2 (cs.map (fun c=>ar [c])++[ar [97+(r8 % 26).toNat]]) _:=Ch.mk'
    exact Cc.ch c' (Ne.symm nD2)
  rintro J4 ys ⟨cs,t7,rfl,g1,g2,g3,C4,g5,g6,j4⟩
  refine ⟨D2,cs.map (fun c=>[c]),?_,rfl,ah.of (by rw [g1,List.map_map];rfl),?_,?_⟩
  ·rw [show (Str.ofString "")=S [] from E6]
  ·rw [List.map_map]
   have:(cs.map ((fun l:List Nat=>l.length) ∘ fun c=>[c])).sum=cs.length:=by
    clear g1 g2 g3 j4
    induction cs with
    | nil=>rfl
    | cons c r ih=>simp at ih ⊢;trivial
   rw [this];trivial
  have fl:(cs.map (fun c=>[c])).flatten=cs:=by
   clear g1 g2 g3 j4
   induction cs with
   | nil=>rfl
   | cons c r ih=>rw [List.map_cons,List.flatten_cons,ih];rfl
  rw [fl]
  have s04:=s03.trans j4
  refine ⟨(),b,4,t7,rfl,C4,by decide,by decide,by trivial,by trivial,fun r9 t9 H9 r90 r91 _ _ s9 B9=>⟨rfl,(),?_⟩⟩
  have s09:=s04.trans s9
  refine eV (fun c1=>?_) (fun c1=>?_)
  ·-- rows of one letter
   refine ⟨(by show 2≤10000;decide),fun u1 J1 e1=>⟨(by show 2≤10000;decide),fun u2 J2 e2=>⟨(by show 2≤10000;decide),fun u3 J3 e3=>⟨(),rfl,.inr ⟨(),?_⟩⟩⟩⟩⟩
   have ea:Str.ofString "a" = S [97]:=by nofun
   have ez:Str.ofString "z" = S [122]:=by nofun
   generalize decide (V.int f=V.int 25)=cc
   obtain ⟨u,d1,d2,eu,hu,hd⟩:fD fun u d1 d2=>ik [V.ref u1,V.ref u2] (if cc=true then 1 else 0)=some (.ref u)∧J3 u=some (.tup [ar [d1],ar [d2]])∧97≤d1∧d1≤122∧d1≠d2∧97≤d2∧d2≤122:=by
    cases cc with
    | true=>exact ⟨u2,122,97,rfl,by rw [e3.sm _ _ e2.at',ea,ez],by decide,by decide,by decide,by decide,by decide⟩
    | false=>exact ⟨u1,97,122,rfl,by rw [e3.sm _ _ (e2.sm _ _ e1.at'),ea,ez],by decide,by decide,by decide,by decide,by decide⟩
   refine ⟨u3,_,_,(),rfl,ah.of e3.at',eu,u,(),ag.of hu,rfl,_,(),_,(),rfl,?_⟩
   have sJ:=((e1.sm.trans e2.sm).trans e3.sm)
   have BJ:=B9.same sJ
   refine ⟨(),(),by trivial,by trivial,fun D hD=>mD (n:=many.toNat) (fun i H' ys=>ys=(List.range i).map (fun k=>ar (sk d1 d2 k))∧H' D=some (.lst ys)∧ad J3 H') ?_ ⟨rfl,aB,fc hD (ad.refl _)⟩ ?_ ?_ ?_ ?_ ?_⟩
   ·rw [sizeLine_eq];trivial
   ·rintro i H' ys ⟨rfl,e,_⟩
    exact ⟨e,by simp⟩
   ·intro i H' ys hi _
    exact hi
   ·intro H' ys _
    exact Nat.le_refl _
   ·rintro i H' ys x H'' hi ⟨g1,g2,g3⟩ ⟨rfl,rfl⟩
    refine ⟨di,(),_,(),rfl,(),eV (fun z=>?_) (fun z=>?_)⟩
    ·have hi8 : i < 8 := by have:(0:Int)+(i:Int)<8:=of_decide_eq_true z
                            trivial
     refine ⟨(),(),_,(),rfl,[d1],(),rfl,by trivial,by trivial,(by show 1≤100;decide),?_⟩
     have en:(List.replicate (0+(i:Int)+1).toNat [d1]).flatten=sk d1 d2 i:=by
      rw [EI]
      unfold sk nm
      rw [if_pos hi8]
      congr 1
      trivial
     rw [en]
     refine ⟨g2,?_,aB,fc hD g3⟩
     rw [g1,List.range_succ,List.map_append];rfl
    ·have hi8:¬i<8:=fun q=>z (decide_eq_true (show (0:Int)+(i:Int)<8 by trivial))
     refine ⟨(),(),_,(),rfl,[d2],(),rfl,by trivial,by trivial,(by show 1≤100;decide),(),_,(),rfl,?_,?_⟩
     ·rw [EI,List.length_replicate];simp;trivial
     have en:(List.replicate (0+(i:Int) - 7).toNat [d2]).flatten++[d1]=sk d1 d2 i:=by
      rw [EI]
      unfold sk
      rw [if_neg hi8]
      congr 2
      trivial
     rw [en]
     refine ⟨g2,?_,aB,fc hD g3⟩
     rw [g1,List.range_succ,List.map_append];rfl
   rintro H4 ys1 ⟨ey1,eD1,s4⟩
   subst ey1
   refine ⟨D,(),ah.of eD1,fun q5 H5 n5=>k q5 ((List.range many.toNat).map (sk d1 d2)) t9 H5 (((s09.trans sJ.toE).trans s4.toE).trans n5.sm.toE) ?_ (by simp) (CO hd.2.2.1 (by trivial)) ?_ ((BJ.same s4).same n5.sm) (by trivial) (by trivial)⟩
   ·rw [n5.at',List.map_map];rfl
   ·intro l hl
    obtain ⟨j,hj,rfl⟩:=List.mem_map.mp hl
    exact HD (by have:=List.mem_range.mp hj;trivial) hd.1 hd.2.1 hd.2.2.2.1 hd.2.2.2.2
  ·-- letters of eleven steps
   refine ⟨(),(),by trivial,by trivial,fun D hD=>mD (n:=many.toNat) (fun i H' ys=>ys=(List.range i).map (fun (k:Nat)=>ar ((97+((f+11*(k:Int)) % 26).toNat) :: cs))∧H' D=some (.lst ys)∧ad H9 H') ?_ ⟨rfl,aB,fc hD (ad.refl _)⟩ ?_ ?_ ?_ ?_ ?_⟩
   ·rw [sizeLine_eq];trivial
   ·rintro i H' ys ⟨rfl,e,_⟩
    exact ⟨e,by simp⟩
   ·intro i H' ys hi _
    exact hi
   ·intro H' ys _
    exact Nat.le_refl _
   ·rintro i H' ys x H'' hi ⟨g1',g2',g3'⟩ ⟨rfl,rfl⟩
    refine ⟨di,(),(),(),_,(),rfl,.inl ⟨by decide,by decide⟩,_,(),rfl,_,(),rfl,(by show (0:Int)<26;decide),_,_,(),rfl,hz,x5 (by trivial) (by trivial),(),[97+(((f+11*(0+(i:Int))) % 26) % 26).toNat],cs,rfl,rfl,?_,?_⟩
    ·simp;trivial
    refine ⟨g2',?_,aB,fc hD g3'⟩
    rw [g1',List.range_succ,List.map_append]
    congr 1
    show [ar ([97+(((f+11*(0+(i:Int))) % 26) % 26).toNat]++cs)]=[ar ((97+((f+11*(i:Int)) % 26).toNat) :: cs)]
    have:(((f+11*(0+(i:Int))) % 26) % 26).toNat=((f+11*(i:Int)) % 26).toNat:=by trivial
    rw [this];rfl
   rintro H4 ys1 ⟨ey1,eD1,s4⟩
   subst ey1
   refine ⟨D,(),ah.of eD1,fun q5 H5 n5=>k q5 ((List.range many.toNat).map (fun (k:Nat)=>(97+((f+11*(k:Int)) % 26).toNat) :: cs)) t9 H5 ((s09.trans s4.toE).trans n5.sm.toE) ?_ (by simp) (Ax (f:=f) (by simp;trivial) ?_) ?_ ((B9.same s4).same n5.sm) (by trivial) (by trivial)⟩
   ·rw [n5.at',List.map_map];rfl
   ·intro j l hl
    rw [List.getElem?_map] at hl
    obtain ⟨j',hj',rfl⟩:=Option.map_eq_some_iff.mp hl
    obtain ⟨hlt,ej⟩:=List.getElem?_eq_some_iff.mp hj'
    rw [List.getElem_range] at ej
    subst ej
    rfl
   ·intro l hl
    obtain ⟨j,hj,rfl⟩:=List.mem_map.mp hl
    refine ⟨by simp,by simp;trivial,fun c hc=>?_⟩
    rcases List.mem_cons.mp hc with h | h
    ·rw [h];trivial
    ·exact g3 c h
end
end K18
namespace K18
open PySem L2
section
variable {P:Program}{w:World}{K:PySem.W.Frag}{mg:Str→Option Value}{base:Heap}
inductive Km (g:KM.Fra→KM.Fra→KM.Fra) (z:Bool) (vs:List V) (H:Hp) (Q:VK):Prop
 | mk (a b:Addr) (p q:KM.Fra) (c1 d1 c2 d2:Nat) (h0:vs=[.ref a,.ref b]) (h1:H a=some (fr p)) (h2:H b=some (fr q)) (h3:Gb c1 d1 p) (h4:Gb c2 d2 q) (h5:c1≤4000) (h6:d1≤4000) (h7:c2≤4000) (h8:d2≤4000) (h9:(z=true→1≤q.1)) (h10:∀o H',Nw H o (fr (g p q)) H'→Q (.ref o) H')
def Cl (g:KM.Fra→KM.Fra→KM.Fra) (z:Bool):Sp:=fun vs H Q _=>Km g z vs H Q
theorem Fl (T:Txt K mg):aY P w K mg base CX0 2 T.l_sum_.f T.l_sum_.d ["_law_one", "_law_other"] (Cl KM.ladd false):=by
 have G_l_frac:=#[(ke)]
 refine T.l_sum_.F.ok Fk (fun vs H Q E h=>?_) (fun cdv A outer s H vs Q E hr h=>?_)
 ·obtain ⟨a,b,p,q,c1,d1,c2,d2,rfl,_⟩:=h
  rfl
 ·obtain ⟨a,b,p,q,c1,d1,c2,d2,rfl,ha,hb,fp,fq,h1,h2,h3,h4,_,k⟩:=h
  obtain ⟨z1,z2,z3,z4⟩:Sz 4000 p.1∧Sz 4000 p.2∧Sz 4000 q.1∧Sz 4000 q.2:=⟨fp.n.mono h1,fp.d.mono h2,fq.n.mono h3,fq.d.mono h4⟩
  refine ⟨_,#[ac 3 #[aw 4 #[G_l_frac,xI,T.l_frac_,#[[#[ai 8 (@bE _) #[ai 8 (@bO _) #[#[0,mG][#[()]]] #[#[1,kR][#[()]]]] #[ai 8 (@bO _) #[#[1,kR][#[()]]] #[#[0,mG][#[()]]]]],#[ai 8 (@bO _) #[#[0,mG][#[()]]] #[#[1,kR][#[()]]]]]]]]],?_⟩
  exact ⟨(),a,_,_,(),rfl,ag.of ha,rfl,(),b,_,_,(),rfl,ag.of hb,rfl,_,(),rfl,gE z1 z4,(),b,_,_,(),rfl,ag.of hb,rfl,(),a,_,_,(),rfl,ag.of ha,rfl,_,(),rfl,gE z3 z2,_,(),rfl,
   _,rfl,a,_,_,_,rfl,rfl,ag.of ha,rfl,_,rfl,b,_,_,_,rfl,rfl,ag.of hb,rfl,_,_,rfl,rfl,gE z2 z4,_,_,rfl,Int.mul_pos (by have:=fp.pos;trivial) (by have:=fq.pos;trivial),rF z2 z4,fun o H' n=>k o H' n⟩
theorem xg (T:Txt K mg):aY P w K mg base CX0 2 T.l_minus_.f T.l_minus_.d ["_law_one", "_law_other"] (Cl mM false):=by
 have G_l_frac:=#[(ke)]
 refine T.l_minus_.F.ok Ca (fun vs H Q E h=>?_) (fun cdv A outer s H vs Q E hr h=>?_)
 ·obtain ⟨a,b,p,q,c1,d1,c2,d2,rfl,_⟩:=h
  rfl
 ·obtain ⟨a,b,p,q,c1,d1,c2,d2,rfl,ha,hb,fp,fq,h1,h2,h3,h4,_,k⟩:=h
  obtain ⟨z1,z2,z3,z4⟩:Sz 4000 p.1∧Sz 4000 p.2∧Sz 4000 q.1∧Sz 4000 q.2:=⟨fp.n.mono h1,fp.d.mono h2,fq.n.mono h3,fq.d.mono h4⟩
  refine ⟨_,#[ac 3 #[aw 4 #[G_l_frac,vH,T.l_frac_,#[[#[ai 8 (@f9 _) #[ai 8 (@bO _) #[#[0,kj][#[()]]] #[#[1,jJ][#[()]]]] #[ai 8 (@bO _) #[#[1,jJ][#[()]]] #[#[0,kj][#[()]]]]],#[ai 8 (@bO _) #[#[0,kj][#[()]]] #[#[1,jJ][#[()]]]]]]]]],?_⟩
  exact ⟨(),a,_,_,(),rfl,ag.of ha,rfl,(),b,_,_,(),rfl,ag.of hb,rfl,_,(),rfl,gE z1 z4,(),b,_,_,(),rfl,ag.of hb,rfl,(),a,_,_,(),rfl,ag.of ha,rfl,_,(),rfl,gE z3 z2,_,(),rfl,
   _,rfl,a,_,_,_,rfl,rfl,ag.of ha,rfl,_,rfl,b,_,_,_,rfl,rfl,ag.of hb,rfl,_,_,rfl,rfl,gE z2 z4,_,_,rfl,Int.mul_pos (by have:=fp.pos;trivial) (by have:=fq.pos;trivial),rF z2 z4,fun o H' n=>k o H' n⟩
theorem e7 (T:Txt K mg):aY P w K mg base CX0 2 T.l_product_.f T.l_product_.d ["_law_one", "_law_other"] (Cl KM.lTim false):=by
 have G_l_frac:=#[(ke)]
 refine T.l_product_.F.ok zn (fun vs H Q E h=>?_) (fun cdv A outer s H vs Q E hr h=>?_)
 ·obtain ⟨a,b,p,q,c1,d1,c2,d2,rfl,_⟩:=h
  rfl
 ·obtain ⟨a,b,p,q,c1,d1,c2,d2,rfl,ha,hb,fp,fq,h1,h2,h3,h4,_,k⟩:=h
  obtain ⟨z1,z2,z3,z4⟩:Sz 4000 p.1∧Sz 4000 p.2∧Sz 4000 q.1∧Sz 4000 q.2:=⟨fp.n.mono h1,fp.d.mono h2,fq.n.mono h3,fq.d.mono h4⟩
  refine ⟨_,#[ac 3 #[aw 4 #[G_l_frac,uj,T.l_frac_,#[[#[ai 8 (@bO _) #[#[0,nj][#[()]]] #[#[1,k7][#[()]]]],#[ai 8 (@bO _) #[#[0,nj][#[()]]] #[#[1,k7][#[()]]]]]]]]],?_⟩
  exact ⟨(),a,_,_,(),rfl,ag.of ha,rfl,(),b,_,_,(),rfl,ag.of hb,rfl,_,(),rfl,gE z1 z3,
   _,rfl,a,_,_,_,rfl,rfl,ag.of ha,rfl,_,rfl,b,_,_,_,rfl,rfl,ag.of hb,rfl,_,_,rfl,rfl,gE z2 z4,_,_,rfl,Int.mul_pos (by have:=fp.pos;trivial) (by have:=fq.pos;trivial),rF z2 z4,fun o H' n=>k o H' n⟩
theorem uA (T:Txt K mg):aY P w K mg base CX0 2 T.l_over_.f T.l_over_.d ["_law_one", "_law_other"] (Cl eI true):=by
 have G_l_frac:=#[(ke)]
 refine T.l_over_.F.ok Dz (fun vs H Q E h=>?_) (fun cdv A outer s H vs Q E hr h=>?_)
 ·obtain ⟨a,b,p,q,c1,d1,c2,d2,rfl,_⟩:=h
  rfl
 ·obtain ⟨a,b,p,q,c1,d1,c2,d2,rfl,ha,hb,fp,fq,h1,h2,h3,h4,hz,k⟩:=h
  have hq:=hz rfl
  obtain ⟨z1,z2,z3,z4⟩:Sz 4000 p.1∧Sz 4000 p.2∧Sz 4000 q.1∧Sz 4000 q.2:=⟨fp.n.mono h1,fp.d.mono h2,fq.n.mono h3,fq.d.mono h4⟩
  refine ⟨_,#[ac 3 #[aw 4 #[G_l_frac,wF,T.l_frac_,#[[#[ai 8 (@bO _) #[#[0,p6][#[()]]] #[#[1,oj][#[()]]]],#[ai 8 (@bO _) #[#[0,p6][#[()]]] #[#[1,oj][#[()]]]]]]]]],?_⟩
  exact ⟨(),a,_,_,(),rfl,ag.of ha,rfl,(),b,_,_,(),rfl,ag.of hb,rfl,_,(),rfl,gE z1 z4,
   _,rfl,a,_,_,_,rfl,rfl,ag.of ha,rfl,_,rfl,b,_,_,_,rfl,rfl,ag.of hb,rfl,_,_,rfl,rfl,gE z2 z3,_,_,rfl,Int.mul_pos (by have:=fp.pos;trivial) (by trivial),rF z2 z3,fun o H' n=>k o H' n⟩
inductive Fj (vs:List V) (H:Hp) (Q:VK):Prop
 | mk (a b:Addr) (p q:KM.Fra) (h0:vs=[.ref a,.ref b]) (h1:H a=some (fr p)) (h2:H b=some (fr q)) (h3:Sz 4000 p.1) (h4:Sz 4000 p.2) (h5:Sz 4000 q.1) (h6:Sz 4000 q.2) (h7:Q (.int (p.1*q.2 - q.1*p.2)) H)
def GJ:Sp:=fun vs H Q _=>Fj  vs H Q
theorem nN (T:Txt K mg):aY P w K mg base CX0 1 T.l_above_.f T.l_above_.d ["_law_one", "_law_other"] GJ:=by
 refine T.l_above_.F.ok BY (fun vs H Q E h=>?_) (fun cdv A outer s H vs Q E hr h=>?_)
 ·obtain ⟨a,b,p,q,rfl,_⟩:=h
  rfl
 ·obtain ⟨a,b,p,q,rfl,ha,hb,z1,z2,z3,z4,k⟩:=h
  refine ⟨_,#[ac 3 #[aw 4 #[ai 8 (@f9 _) #[ai 8 (@bO _) #[#[0,o8][#[()]]] #[#[1,mU][#[()]]]] #[ai 8 (@bO _) #[#[1,mU][#[()]]] #[#[0,o8][#[()]]]]]]],?_⟩
  exact ⟨(),a,_,_,(),rfl,ag.of ha,rfl,(),b,_,_,(),rfl,ag.of hb,rfl,_,(),rfl,gE z1 z4,(),b,_,_,(),rfl,ag.of hb,rfl,(),a,_,_,(),rfl,ag.of ha,rfl,_,(),rfl,gE z3 z2,_,(),rfl,k⟩
end
end K18
namespace K18
open PySem L2
set_option maxHeartbeats 4000000
theorem ut {K:PySem.W.Frag}{a:Addr}{c:Bool}{xs:List V}{g:TG}{tb:TS}{D:fj}{σ:St}{H:Hp} (Pv:Nat→St→Hp→Prop) (h0:Pv 0 σ H) (hl:∀i σ H,i≤xs.length→Pv i σ H→x4 K H a xs c)
 (hs:∀i x T σ H,xs[i]?=some x→H T=none→Pv i σ H→g (.ref T) σ (aN H T (.tup [.int (i:Int),x])) fun σ2 H2=>tb { D with nx:=Pv (i+1),ct:=Pv (i+1),bk:=D.nx } σ2 H2) (hd:∀σ H,Pv xs.length σ H→D.nx σ H) :
 ∃W:Nat→Nat→St→Hp→Prop,(∃m,W 0 m σ H)∧∀i m σ H,W i m σ H→
  ((zh K a c).stop i H∧D.nx σ H)∨((zh K a c).go i H∧∃N:St→Hp→Prop,(∀σ' H',N σ' H'→∃m',m'<m∧W (i+1) m' σ' H')∧∀x H',(zh K a c).yld i H x H'→g x σ H' fun σ2 H2=>tb { D with nx:=N,ct:=N,bk:=D.nx } σ2 H2):=by
 refine ⟨fun i m σ H=>m=xs.length - i∧i≤xs.length∧Pv i σ H,⟨xs.length,by simp,Nat.zero_le _,h0⟩,?_⟩
 rintro i m σ H ⟨rfl,hi,p⟩
 have q1:=hl i σ H hi p
 by_cases hlt:i<xs.length
 ·refine .inr ⟨⟨xs,xs[i],q1,by simp [hlt]⟩,Pv (i+1),fun σ' H' p'=>⟨xs.length - (i+1),by trivial,rfl,hlt,p'⟩,fun x H' y=>?_⟩
  obtain ⟨T,u,hT,rfl,rfl,e1⟩:=y
  exact hs i u T σ H (e1 xs q1) hT p
 ·have e:i=xs.length:=by trivial
  subst e
  exact .inl ⟨⟨xs,q1,rfl⟩,hd _ _ p⟩
theorem jf {E:Addr→Prop}{H:Hp}{v:V}{ls:List (List Nat)}{ts:List aI} (h:aM E H v (gF ls ts)):tQ fun a p q ys=>v=.ref a∧H a=some (.tup [.ref p,.ref q])∧H p=some (.tup (ls.map ar))∧H q=some (.tup ys)∧ae E H ys (ts.map oB):=by
 have sall:∀{ls:List (List Nat)}{xs:List V},ae E H xs (ls.map fun l=>PyData.str (S l))→xs=ls.map ar:=by
  intro ls
  induction ls with
  | nil=>intro xs h;cases h;rfl
  | cons l r ih=>
   intro xs h
   cases h with
   | cons h1 h2=>cases h1;rw [ih h2];rfl
 cases h with
 | @tup a xs _ h r=>
  cases r with
  | cons h1 r=>
  cases r with
  | cons h2 r=>
  cases r
  cases h1 with
  | @tup p ps _ hp rp=>
  cases h2 with
  | @tup q ys _ hq rq=>
   have e:=sall rp
   subst e
   exact ⟨a,p,q,ys,rfl,h,hp,hq,rq⟩
theorem oU {E:Addr→Prop}{H:Hp}{v:V}{t:aI} (h:aM E H v (oB t)):tQ fun a om og op=>v=.ref a∧H a=some (.tup [.str (S t.bg),.str (S t.en),.ref om,.ref og,.ref op])∧H om=some (fr t.most)∧H og=some (fr t.gain)∧H op=some (fr t.price):=by
 cases h with
 | @tup a xs _ h r=>
  cases r with
  | @cons u1 _ _ _ h1 r=>
  cases r with
  | @cons u2 _ _ _ h2 r=>
  cases r with
  | @cons u3 _ _ _ h3 r=>
  cases r with
  | @cons u4 _ _ _ h4 r=>
  cases r with
  | @cons u5 _ _ _ h5 r=>
  cases r
  cases h1
  cases h2
  obtain ⟨om,rfl,ho⟩:=iG h3
  obtain ⟨og,rfl,hg⟩:=iG h4
  obtain ⟨op,rfl,hp⟩:=iG h5
  exact ⟨a,om,og,op,rfl,h,ho,hg,hp⟩
theorem qm {a b:List Nat}:decide (V.str (S a)=V.str (S b))=decide (a=b):=by
 by_cases h:a=b
 ·subst h;simp
 ·rw [decide_eq_false h,decide_eq_false]
  intro z
  injection z with z
  exact h (gW z)
theorem gB {H H':Hp}{D:Addr}{ys zs:List V}{ds:List PyData}{v:V}{d:PyData} (c:Ch H D zs H') (hD:H D=some (.lst ys)) (i:ae ED H ys ds) (iv:aM ED H v d):ae ED H' (ys++[v]) (ds++[d]):=
 (i.mono ⟨fun _ _ n _=>absurd trivial n,fun _ _ e=>c.tup e hD⟩).append (.cons (iv.tupC c hD) .nil)
theorem ad.ch {H H1 H2:Hp}{D:Addr}{xs:List V} (s:ad H H1) (c:Ch H1 D xs H2) (hD:H D=none):ad H H2:=fun b o h=>c.ol b o (fun z=>by rw [z,hD] at h;cases h) (s b o h)
theorem Cz {p q:Prop} [Decidable p] [Decidable q] (h:p↔q):decide p=decide q:=decide_eq_decide.mpr h
theorem BH:Gb 1 1 (1,1):=⟨show (1:Int).natAbs<2 ^ 1 by decide,show (1:Int).natAbs<2 ^ 1 by decide,by decide⟩
structure SD where
 n:Nat
 bk:Bool
 st:List Nat
 en:List Nat
 room:KM.Fra
 gain:KM.Fra
abbrev sD (s:SD):PyData:=.tuple [.int s.n,.bool s.bk,.str (S s.st),.str (S s.en),cM s.room,cM s.gain]
def dq (i:Nat) (t:aI) (p:KM.Fra):List SD:=(if p.1*t.most.2<t.most.1*p.2 then [⟨i,false,t.bg,t.en,mM t.most p,t.gain⟩] else [])++(if 0<p.1 then [⟨i,true,t.en,t.bg,KM.lTim p t.gain,eI (1,1) t.gain⟩] else [])
def lC (ts:List aI) (ps:List KM.Fra) (j:Nat):List SD:=match ts[j]?,ps[j]? with
 | some t,some p=>dq j t p
 | _,_=>[]
def aQ (ts:List aI) (ps:List KM.Fra) (n:Nat):List SD:=(List.range n).flatMap (lC ts ps)
theorem B8 {ts:List aI}{ps:List KM.Fra}{n:Nat}{t:aI}{p:KM.Fra} (h1:ts[n]?=some t) (h2:ps[n]?=some p):lC ts ps n=dq n t p:=by
 unfold lC;rw [h1,h2]
theorem pW {ts:List aI}{ps:List KM.Fra}{n:Nat}{t:aI}{p:KM.Fra} (h1:ts[n]?=some t) (h2:ps[n]?=some p):aQ ts ps (n+1)=aQ ts ps n++dq n t p:=by
 unfold aQ
 rw [List.range_succ,List.flatMap_append,List.flatMap_cons,List.flatMap_nil,List.append_nil,B8 h1 h2]
theorem wB (i:Nat) (t:aI) (p:KM.Fra):(dq i t p).length≤2:=by
 unfold dq
 rw [List.length_append]
 split <;> split <;> simp
theorem As (ts:List aI) (ps:List KM.Fra) (j:Nat):(lC ts ps j).length≤2:=by
 unfold lC
 split
 ·exact wB _ _ _
 ·simp
theorem fU (ts:List aI) (ps:List KM.Fra):∀n,(aQ ts ps n).length≤2*n
 | 0=>by simp [aQ]
 | n+1=>by
  have h:=fU ts ps n
  have h2:=As ts ps n
  unfold aQ at h ⊢
  rw [List.range_succ,List.flatMap_append,List.length_append,List.flatMap_cons,List.flatMap_nil,List.append_nil]
  trivial
structure qh (ls:List (List Nat)) (t:aI):Prop where
 b:t.bg∈ls
 e:t.en∈ls
 ne:t.bg≠t.en
 fm:Gb 20 3 t.most
 fg:Gb 6 6 t.gain
 g1:1≤t.gain.1
 fp:Gb 24 24 t.price
 m0:0≤t.most.1
 mc:Int.gcd t.most.1 t.most.2=1
section
variable {P:Program}{w:World}{K:PySem.W.Frag}{mg:Str→Option Value}{base:Heap}
theorem LQ:Sz 4000 (0:Int):=Sz.mono (m:=1) (show (0:Int).natAbs<2 ^ 1 by decide) (by decide)
theorem Do:Sz 4000 (1:Int):=Sz.mono (m:=1) (show (1:Int).natAbs<2 ^ 1 by decide) (by decide)
theorem gz {a b:Nat}{p:KM.Fra} (h:Gb a b p) (ha:a≤4000) (hb:b≤4000):Sz 4000 p.1∧Sz 4000 p.2:=⟨h.n.mono ha,h.d.mono hb⟩
theorem gd {a b c d:Nat}{p q:KM.Fra} (h:Gb a b p) (k:Gb c d q):p.2*q.2≠0:=Int.mul_ne_zero (by have:=h.pos;trivial) (by have:=k.pos;trivial)
inductive IQ (vs:List V) (H:Hp) (Q:VK):Prop
 | mk (i:Nat) (v u:V) (t:aI) (p:KM.Fra) (a b:Nat) (ls:List (List Nat)) (h0:vs=[.int (i:Int),v,u]) (h1:aM ED H v (oB t)) (h2:aM ED H u (cM p)) (h3:qh ls t) (h4:Gb a b p) (h5:a≤3000) (h6:b≤3000) (h7:∀L xs H',ad H H'→H L=none→H' L=some (.lst xs)→ae ED H' xs ((dq i t p).map sD)→Q (.ref L) H')
def Kw:Sp:=fun vs H Q _=>IQ  vs H Q
theorem HW {i j:Int}:decide (rN i j<0)=decide (i<j):=by
 unfold rN
 by_cases h:i<j
 ·rw [if_pos h,decide_eq_true h];rfl
 ·rw [if_neg h,decide_eq_false h]
  by_cases h2:j<i
  ·rw [if_pos h2];rfl
  ·rw [if_neg h2];rfl
theorem CM {i j:Int}:decide (0<rN i j)=decide (j<i):=by
 unfold rN
 by_cases h:i<j
 ·rw [if_pos h,decide_eq_false (show ¬j<i by trivial)];rfl
 ·rw [if_neg h]
  by_cases h2:j<i
  ·rw [if_pos h2,decide_eq_true h2];rfl
  ·rw [if_neg h2,decide_eq_false h2];rfl
theorem Au (T:Txt K mg):aY P w K mg base CX0 4 T.steps_of_.f T.steps_of_.d ["number", "tie", "much"] Kw:=by
 have G_compared:=#[(vE)]
 have G_taken:=#[(Fi)]
 have G_times:=#[(zI)]
 have G_over:=#[(FP)]
 refine T.steps_of_.F.ok ga (fun vs H Q E h=>?_) (fun cdv A outer s H vs Q E hr h=>?_)
 ·obtain ⟨i,v,u,t,p,a,b,ls,rfl,_⟩:=h
  rfl
 ·obtain ⟨i,v,u,t,p,ba,bb,ls,rfl,hv,hu,tc,gp,hba,hbb,k⟩:=h
  obtain ⟨o,om,og,op,rfl,ho,hom,hog,hop⟩:=oU hv
  obtain ⟨ou,rfl,hou⟩:=iG hu
  obtain ⟨m1,m2⟩:=gz tc.fm (by decide) (by decide)
  obtain ⟨g1,g2⟩:=gz tc.fg (by decide) (by decide)
  obtain ⟨p1,p2⟩:=gz gp (by trivial) (by trivial)
  refine ⟨_,#[#[cW 6 #[1,xO] (@bM _ (K) _ _ _ _ (5) rfl #[aj 5 #[3,ga.nd,jV] #[aj 5 #[4,ga.nd,lr] #[aj 5 #[5,ga.nd,kw] #[aj 5 #[6,ga.nd,i8] #[aj 5 #[7,ga.nd,vY] (@bK _) (by rfl)] (by rfl)] (by rfl)] (by rfl)] (by rfl)] (by rfl) (by rfl) (by rfl)) (by rfl) (by rfl) (by rfl)] :: #[#[8,ga.nd,ij,#[aL 4 (@bc _)]] :: #[#[bh 8 #[ap 8 (@kH _) #[G_compared,lc,T.compared_,#[[#[2,i0],#[5,kw]]]] #[()] #[(),()]] #[ac 3 #[cI 4 (@bS _ (K) _ _ _ _ _ _ _ _ _ _ _ PySem.F.plainAttrs_list PySem.F.slot_list_append PySem.F.type_list_append (@bU _) #[8,ij] #[[#[ak 5 #[[#[0,mW],#[ie 4],#[3,jV],#[4,lr],#[G_taken,wm,T.taken_,#[[#[5,kw],#[2,i0]]]],#[6,i8]]]]]] (by rfl) (by rfl) (by rfl) (by rfl) (by rfl) (by rfl)) (by rfl)]] (@aK _)] :: #[#[bh 8 #[ap 8 (@lM _) #[G_compared,lc,T.compared_,#[[#[2,i0],#[ak 5 #[[#[()],#[()]]]]]]] #[()] #[(),()]] #[ac 3 #[cI 4 (@bS _ (K) _ _ _ _ _ _ _ _ _ _ _ PySem.F.plainAttrs_list PySem.F.slot_list_append PySem.F.type_list_append (@bU _) #[8,ij] #[[#[ak 5 #[[#[0,mW],#[ie 4],#[4,lr],#[3,jV],#[G_times,vZ,T.times_,#[[#[2,i0],#[6,i8]]]],#[G_over,wS,T.over_,#[[#[ak 5 #[[#[()],#[()]]]],#[6,i8]]]]]]]]] (by rfl) (by rfl) (by rfl) (by rfl) (by rfl) (by rfl)) (by rfl)]] (@aK _)] :: #[ac 3 #[aw 4 #[8,ij]]]]]]],?_⟩
  refine ⟨(),o,(),ag.of ho,rfl,_,(),_,(),_,(),_,(),_,(),rfl,?_⟩
  dsimp only
  refine bT fun Q1 nA=>⟨(by show 0≤10000;decide),fun L H1 n1=>nA _ _ ?_⟩
  have hou1:=n1.sm _ _ hou
  have hom1:=n1.sm _ _ hom
  have hog1:=n1.sm _ _ hog
  refine uN (fun σ' H'=>∃xs,σ'=[some (.int (i:Int)),some (.ref o),some (.ref ou),some (.str (S t.bg)),some (.str (S t.en)),some (.ref om),some (.ref og),some (.ref op),some (.ref L)]∧ad H H'∧H' L=some (.lst xs)∧ae ED H' xs ((if p.1*t.most.2<t.most.1*p.2 then [(⟨i,false,t.bg,t.en,mM t.most p,t.gain⟩:SD)] else []).map sD)) ?_ fun nx=>?_
  ·rintro σ' H2 ⟨xs,rfl,s2,hL,iL⟩
   refine uN (fun σ' H'=>∃xs,σ'=[some (.int (i:Int)),some (.ref o),some (.ref ou),some (.str (S t.bg)),some (.str (S t.en)),some (.ref om),some (.ref og),some (.ref op),some (.ref L)]∧ad H H'∧H' L=some (.lst xs)∧ae ED H' xs ((dq i t p).map sD)) ?_ fun nx=>?_
   ·rintro σ' H3 ⟨xs,rfl,s3,hL,iL⟩
    exact ⟨(),k L xs H3 s3 n1.fr hL iL⟩
   ·have lx:xs.length≤1:=by
     rw [iL.length,List.length_map];split <;> simp
    have hou2:=s2 _ _ hou
    refine ⟨(),(by show 2≤10000;decide),fun z H3 n3=>⟨ou,z,_,_,_,(),n3.sm _ _ hou2,n3.at',p1,p2,LQ,Do,_,(),rfl,(),?_⟩⟩
    have e0:decide (rN (p.1*1) (0*p.2) > 0)=decide (0<p.1):=by
     show decide (0<rN (p.1*1) (0*p.2))=_
     rw [CM,Int.mul_one,Int.zero_mul]
    have hL3:=n3.sm _ _ hL
    have iL3:=iL.mono n3.sm.toE
    have s3:=s2.trans n3.sm
    rw [e0]
    by_cases hp:0<p.1
    ·rw [decide_eq_true hp]
     refine bF (FF fun Q2 nQ=>?_)
     refine ⟨(),.inl ⟨rfl,_,ah.of hL3⟩,(),(),(),(),(),ou,og,_,_,_,(),s3 _ _ hou,s3 _ _ hog,⟨p1,p2,g1,g2,gd gp tc.fg⟩,fun q1 H4 n4=>⟨(by show 2≤10000;decide),fun q2 H5 n5=>⟨(),q2,og,_,_,_,(),n5.at',n5.sm _ _ (n4.sm _ _ (s3 _ _ hog)),⟨Do,Do,g1,g2,(by show (1:Int)*t.gain.1≠0;have:=tc.g1;trivial)⟩,fun q3 H6 n6=>⟨(by show 6≤10000;decide),fun q4 H7 n7=>?_⟩⟩⟩⟩
     have s37:=((n4.sm.trans n5.sm).trans n6.sm).trans n7.sm
     have hL7:=s37 _ _ hL3
     refine ⟨L,_,(),rfl,hL7,by trivial,fun H8 c8=>nQ _ _ (nx _ _ ⟨(),ad.ch (s3.trans s37) c8 n1.fr,c8.at',?_⟩)⟩
     have es:dq i t p=(if p.1*t.most.2<t.most.1*p.2 then [(⟨i,false,t.bg,t.en,mM t.most p,t.gain⟩:SD)] else [])++[⟨i,true,t.en,t.bg,KM.lTim p t.gain,eI (1,1) t.gain⟩]:=by unfold dq;rw [if_pos hp]
     rw [es,List.map_append]
     refine gB c8 hL7 (iL3.mono s37.toE) ?_
     exact .tup n7.at' (.cons (.int _) (.cons (.bl _) (.cons (.str _) (.cons (.str _) (.cons (fY (p:=KM.lTim p t.gain) (n7.sm _ _ (n6.sm _ _ (n5.sm _ _ n4.at')))) (.cons (fY (p:=eI (1,1) t.gain) (n7.sm _ _ n6.at')) .nil))))))
    ·rw [decide_eq_false hp]
     refine aR (nx _ _ ⟨xs,rfl,s3,hL3,?_⟩)
     have es:dq i t p=(if p.1*t.most.2<t.most.1*p.2 then [(⟨i,false,t.bg,t.en,mM t.most p,t.gain⟩:SD)] else []):=by unfold dq;rw [if_neg hp,List.append_nil]
     rw [es]
     exact iL3
  ·refine ⟨(),(),ou,om,_,_,_,(),hou1,hom1,p1,p2,m1,m2,_,(),rfl,(),?_⟩
   rw [HW]
   by_cases hp:p.1*t.most.2<t.most.1*p.2
   ·rw [decide_eq_true hp]
    refine bF (FF fun Q2 nQ=>?_)
    refine ⟨(),.inl ⟨rfl,_,ah.of n1.at'⟩,(),(),(),(),(),om,ou,_,_,_,(),hom1,hou1,⟨m1,m2,p1,p2,gd tc.fm gp⟩,fun q1 H4 n4=>⟨(),(by show 6≤10000;decide),fun q4 H7 n7=>?_⟩⟩
    have s17:=n4.sm.trans n7.sm
    have hL7:=s17 _ _ n1.at'
    refine ⟨L,_,(),rfl,hL7,by simp,fun H8 c8=>nQ _ _ (nx _ _ ⟨(),ad.ch (n1.sm.trans s17) c8 n1.fr,c8.at',?_⟩)⟩
    rw [if_pos hp]
    refine gB (ds:=[]) c8 hL7 .nil ?_
    exact .tup n7.at' (.cons (.int _) (.cons (.bl _) (.cons (.str _) (.cons (.str _) (.cons (fY (p:=mM t.most p) (n7.sm _ _ n4.at')) (.cons (fY (p:=t.gain) (s17 _ _ hog1)) .nil))))))
   ·rw [decide_eq_false hp]
    refine aR (nx _ _ ⟨[],rfl,n1.sm,n1.at',?_⟩)
    rw [if_neg hp]
    exact .nil
end
end K18
namespace K18
open PySem L2
set_option maxHeartbeats 4000000
section
variable {P:Program}{w:World}{K:PySem.W.Frag}{mg:Str→Option Value}{base:Heap}
inductive Kc (vs:List V) (H:Hp) (Q:VK):Prop
 | mk (v:V) (sa:Addr) (ls:List (List Nat)) (ts:List aI) (xs:List V) (ps:List KM.Fra) (a b:Nat) (h0:vs=[v,.ref sa]) (h1:aM ED H v (gF ls ts)) (h2:(∀t∈ts,qh ls t)) (h3:ts.length≤40) (h4:H sa=some (.lst xs)) (h5:ae ED H xs (ps.map cM)) (h6:ps.length=ts.length) (h7:(∀p∈ps,Gb a b p)) (h8:a≤3000) (h9:b≤3000) (h10:∀L zs H',ad H H'→H L=none→H' L=some (.lst zs)→ae ED H' zs ((aQ ts ps ts.length).map sD)→Q (.ref L) H')
def HC:Sp:=fun vs H Q _=>Kc  vs H Q
theorem yL (T:Txt K mg):aY P w K mg base CX0 5 T.left_steps_.f T.left_steps_.d ["net", "stream"] HC:=by
 have G_steps_of:=#[(Au)]
 refine T.left_steps_.F.ok jT (fun vs H Q E h=>?_) (fun cdv A outer s H vs Q E hr h=>?_)
 ·obtain ⟨v,sa,ls,ts,xs,ps,a,b,rfl,_⟩:=h
  rfl
 ·obtain ⟨v,sa,ls,ts,xs,ps,ba,bb,rfl,hv,tc,h40,hsa,ips,lps,gp,hba,hbb,k⟩:=h
  obtain ⟨na,pa,ta,ys,rfl,hna,hpa,hta,ity⟩:=jf hv
  have lys:ys.length=ts.length:=by rw [ity.length,List.length_map]
  refine ⟨_,#[#[2,jT.nd,jj,#[aL 4 (@bc _)]] :: #[#[cC 8 PassesOwn.never rfl (@wq _ (K) _ _ _ _ _ _ _ pL T.b_enumerate #[[#[#[0,vI][#[()]]]]] (by rfl) (by rfl)) (@bM _ (K) _ _ _ _ (2) rfl #[aj 5 #[3,jT.nd,iU] #[aj 5 #[4,jT.nd,oV] (@bK _) (by rfl)] (by rfl)] (by rfl) (by rfl) (by rfl)) #[ac 3 #[cI 4 (@bS _ (K) _ _ _ _ _ _ _ _ _ _ _ PySem.F.plainAttrs_list PySem.F.slot_list_extend PySem.F.type_list_extend (@wI _) #[2,jj] #[[#[G_steps_of,qC,T.steps_of_,#[[#[3,iU],#[4,oV],#[#[1,sM][#[3,iU]]!]]]]]] (by rfl) (by rfl) (by rfl) (by rfl) (by rfl) (by rfl)) (by rfl)]] (by intro _;rfl)] :: #[ac 3 #[aw 4 #[2,jj]]]]],?_⟩
  refine bT fun Q1 nA=>⟨(by show 0≤10000;decide),fun L H1 n1=>nA _ _ ?_⟩
  refine aT fun DB nB=>?_
  refine ⟨(),na,_,_,(),rfl,ag.of (n1.sm _ _ hna),rfl,ta,false,rfl,⟨ys,ag.of (n1.sm _ _ hta)⟩,ut (xs:=ys) (fun i σ H'=>fD fun v3 v4 zs=>σ=[some (.ref na),some (.ref sa),some (.ref L),v3,v4]∧H' L=some (.lst zs)∧ae ED H' zs ((aQ ts ps i).map sD)∧ad H H') ⟨_,_,[],rfl,n1.at',.nil,n1.sm⟩ ?_ ?_ ?_⟩
  ·rintro i σ H' _ ⟨v3,v4,zs,rfl,_,_,sm⟩
   exact ag.of (sm _ _ hta)
  ·rintro i x T' σ J0 hx hT ⟨v3,v4,zs,rfl,hL,iL,sm⟩
   have hi:i<ys.length:=(List.getElem?_eq_some_iff.mp hx).1
   have nT:Nw J0 T' (.tup [.int (i:Int),x]) (aN J0 T' (.tup [.int (i:Int),x])):=.mk' hT
   generalize aN J0 T' (.tup [.int (i:Int),x])=J1 at nT ⊢
   obtain ⟨dy,edy,gy⟩:=ity.get hx
   rw [List.getElem?_map] at edy
   obtain ⟨t,et,rfl⟩:=Option.map_eq_some_iff.mp edy
   have ep:ps[i]?=some ps[i]:=List.getElem?_eq_getElem (by trivial)
   have lx:xs.length=ps.length:=by rw [ips.length,List.length_map]
   have exs:xs[i]?=some xs[i]:=List.getElem?_eq_getElem (by trivial)
   obtain ⟨dp,edp,gx⟩:=ips.get exs
   rw [List.getElem?_map,ep] at edp
   obtain rfl:cM ps[i]=dp:=Option.some.inj edp
   have s1:=sm.trans nT.sm
   have llen:zs.length≤80:=by
    rw [iL.length,List.length_map]
    have:=fU ts ps i
    trivial
   refine ⟨T',(),ag.of nT.at',rfl,_,(),_,(),rfl,?_⟩
   refine ⟨(),.inl ⟨rfl,_,ah.of (nT.sm _ _ hL)⟩,(),(),(),(),sa,_,_,(),rfl,ah.of (s1 _ _ hsa),cv exs,i,x,xs[i],t,ps[i],ba,bb,ls,rfl,gy.sm s1,gx.sm s1,tc t (List.mem_of_getElem? et),gp _ (List.mem_of_getElem? ep),hba,hbb,fun L2 z2 J2 s2 f2 e2 i2=>?_⟩
   have hL2:=s2 _ _ (nT.sm _ _ hL)
   have l2:z2.length≤2:=by
    rw [i2.length,List.length_map];exact wB _ _ _
   refine ⟨L,L2,zs,z2,rfl,rfl,hL2,e2,by trivial,fun J3 c3=>⟨_,_,(),c3.at',?_,ad.ch (s1.trans s2) c3 n1.fr⟩⟩
   rw [pW et ep,List.map_append]
   have up:∀{zs:List V}{ds:List PyData},ae ED J2 zs ds→ae ED J3 zs ds:=fun h=>h.mono ⟨fun _ _ n _=>absurd trivial n,fun _ _ e=>c3.tup e hL2⟩
   exact (up ((iL.mono nT.sm.toE).mono s2.toE)).append (up i2)
  ·rintro σ H' ⟨v3,v4,zs,rfl,hL,iL,sm⟩
   rw [lys] at iL
   exact nB _ _ ⟨(),k L zs H' sm n1.fr hL iL⟩
theorem mI (T:Txt K mg):aY P w K mg base CX0 3 T.l_steps_of_.f T.l_steps_of_.d ["_law_net", "_law_stream"] HC:=by
 have G_l_above:=#[(nN)]
 have G_l_minus:=#[(xg)]
 have G_l_product:=#[(e7)]
 have G_l_over:=#[(uA)]
 refine T.l_steps_of_.F.ok cG (fun vs H Q E h=>?_) (fun cdv A outer s H vs Q E hr h=>?_)
 ·obtain ⟨v,sa,ls,ts,xs,ps,a,b,rfl,_⟩:=h
  rfl
 ·obtain ⟨v,sa,ls,ts,xs,ps,ba,bb,rfl,hv,tc,h40,hsa,ips,lps,gp,hba,hbb,k⟩:=h
  obtain ⟨na,pa,ta,ys,rfl,hna,hpa,hta,ity⟩:=jf hv
  have lys:ys.length=ts.length:=by rw [ity.length,List.length_map]
  refine ⟨_,#[#[2,cG.nd,eQ,#[aL 4 (@bc _)]] :: #[#[cC 8 PassesOwn.never rfl (@wq _ (K) _ _ _ _ _ _ _ pG T.b_enumerate #[[#[#[0,uD][#[()]]]]] (by rfl) (by rfl)) (@bM _ (K) _ _ _ _ (2) rfl #[aj 5 #[3,cG.nd,d6] #[aj 5 (@bM _ (K) _ _ _ _ (5) rfl #[aj 5 #[4,cG.nd,gZ] #[aj 5 #[5,cG.nd,jp] #[aj 5 #[6,cG.nd,jr] #[aj 5 #[7,cG.nd,fB] #[aj 5 #[8,cG.nd,qS] (@bK _) (by rfl)] (by rfl)] (by rfl)] (by rfl)] (by rfl)] (by rfl) (by rfl) (by rfl)) (@bK _) (by rfl)] (by rfl)] (by rfl) (by rfl) (by rfl)) #[#[9,cG.nd,dn,#[#[1,qr][#[3,d6]]!]] :: #[#[bh 8 #[ap 8 (@lM _) #[G_l_above,rL,T.l_above_,#[[#[6,jr],#[9,dn]]]] #[()] #[(),()]] #[ac 3 #[cI 4 (@bS _ (K) _ _ _ _ _ _ _ _ _ _ _ PySem.F.plainAttrs_list PySem.F.slot_list_append PySem.F.type_list_append (@bU _) #[2,eQ] #[[#[ak 5 #[[#[3,d6],#[ie 4],#[4,gZ],#[5,jp],#[G_l_minus,rJ,T.l_minus_,#[[#[6,jr],#[9,dn]]]],#[7,fB]]]]]] (by rfl) (by rfl) (by rfl) (by rfl) (by rfl) (by rfl)) (by rfl)]] (@aK _)] :: #[ac 3 #[bh 8 #[ap 8 (@lM _) #[#[9,dn][#[()]]] #[()] #[(),()]] #[ac 3 #[cI 4 (@bS _ (K) _ _ _ _ _ _ _ _ _ _ _ PySem.F.plainAttrs_list PySem.F.slot_list_append PySem.F.type_list_append (@bU _) #[2,eQ] #[[#[ak 5 #[[#[3,d6],#[ie 4],#[5,jp],#[4,gZ],#[G_l_product,pT,T.l_product_,#[[#[9,dn],#[7,fB]]]],#[G_l_over,sZ,T.l_over_,#[[#[ak 5 #[[#[()],#[()]]]],#[7,fB]]]]]]]]] (by rfl) (by rfl) (by rfl) (by rfl) (by rfl) (by rfl)) (by rfl)]] (@aK _)]]]] (by intro _;rfl)] :: #[ac 3 #[aw 4 #[2,eQ]]]]],?_⟩
  refine bT fun Q1 nA=>⟨(by show 0≤10000;decide),fun L H1 n1=>nA _ _ ?_⟩
  refine aT fun DB nB=>?_
  refine ⟨(),na,_,_,(),rfl,ag.of (n1.sm _ _ hna),rfl,ta,false,rfl,⟨ys,ag.of (n1.sm _ _ hta)⟩,ut (xs:=ys) (fun i σ H'=>Jf fun v3 v4 v5 v6 v7 v8 v9 zs=>σ=[some (.ref na),some (.ref sa),some (.ref L),v3,v4,v5,v6,v7,v8,v9]∧H' L=some (.lst zs)∧ae ED H' zs ((aQ ts ps i).map sD)∧ad H H') ⟨_,_,_,_,_,_,_,[],rfl,n1.at',.nil,n1.sm⟩ ?_ ?_ ?_⟩
  ·rintro i σ H' _ ⟨v3,v4,v5,v6,v7,v8,v9,zs,rfl,_,_,sm⟩
   exact ag.of (sm _ _ hta)
  ·rintro i x T' σ J0 hx hT ⟨v3,v4,v5,v6,v7,v8,v9,zs,rfl,hL,iL,sm⟩
   have hi:i<ys.length:=(List.getElem?_eq_some_iff.mp hx).1
   have nT:Nw J0 T' (.tup [.int (i:Int),x]) (aN J0 T' (.tup [.int (i:Int),x])):=.mk' hT
   generalize aN J0 T' (.tup [.int (i:Int),x])=J1 at nT ⊢
   obtain ⟨dy,edy,gy⟩:=ity.get hx
   rw [List.getElem?_map] at edy
   obtain ⟨t,et,rfl⟩:=Option.map_eq_some_iff.mp edy
   obtain ⟨p,ep⟩:∃p,ps[i]?=some p:=⟨_,List.getElem?_eq_getElem (by trivial)⟩
   have lx:xs.length=ps.length:=by rw [ips.length,List.length_map]
   obtain ⟨xo,exs⟩:∃xo,xs[i]?=some xo:=⟨_,List.getElem?_eq_getElem (by trivial)⟩
   obtain ⟨dp,edp,gx⟩:=ips.get exs
   rw [List.getElem?_map,ep] at edp
   obtain rfl:cM p=dp:=Option.some.inj edp
   have s1:=sm.trans nT.sm
   have llen:zs.length≤80:=by
    rw [iL.length,List.length_map]
    have:=fU ts ps i
    trivial
   have tt:=tc t (List.mem_of_getElem? et)
   have gp':=gp p (List.mem_of_getElem? ep)
   obtain ⟨o,om,og,op,rfl,ho,hom,hog,hop⟩:=oU gy
   obtain ⟨ou,rfl,hou⟩:=iG gx
   obtain ⟨m1,m2⟩:=gz tt.fm (by decide) (by decide)
   obtain ⟨p1,p2⟩:=gz gp' (by trivial) (by trivial)
   have hL1:=nT.sm _ _ hL
   refine ⟨T',(),ag.of nT.at',rfl,_,(),_,(),o,(),ag.of (s1 _ _ ho),rfl,_,(),_,(),_,(),_,(),_,(),rfl,rfl,?_⟩
   dsimp only
   refine bT fun Q2 nA2=>⟨(),(),sa,_,_,(),rfl,ah.of (s1 _ _ hsa),cv exs,nA2 _ _ ?_⟩
   refine uN (fun σ' H'=>∃xs,σ'=[some (.ref na),some (.ref sa),some (.ref L),some (.int (i:Int)),some (.str (S t.bg)),some (.str (S t.en)),some (.ref om),some (.ref og),some (.ref op),some (.ref ou)]∧ad H H'∧H' L=some (.lst xs)∧ae ED H' xs ((aQ ts ps i++(if p.1*t.most.2<t.most.1*p.2 then [(⟨i,false,t.bg,t.en,mM t.most p,t.gain⟩:SD)] else [])).map sD)) ?_ fun nx=>?_
   ·rintro σ' J2 ⟨xs',rfl,s2,hL2,iL2⟩
    have lx2:xs'.length≤81:=by
     rw [iL2.length,List.length_map,List.length_append]
     have:=fU ts ps i
     split <;> simp <;> trivial
    refine ⟨(),ou,_,_,(),rfl,ag.of (s2 _ _ hou),rfl,_,(),rfl,(),?_⟩
    by_cases hp:0<p.1
    ·rw [show decide (p.1 > 0)=true from decide_eq_true hp]
     refine bF ?_
     refine ⟨(),.inl ⟨rfl,_,ah.of hL2⟩,(),(),(),(),(),ou,og,p,t.gain,_,_,_,(),s2 _ _ hou,s2 _ _ hog,gp',tt.fg,by trivial,by trivial,by decide,by decide,(fun z=>by cases z),fun q1 H4 n4=>⟨(by show 2≤10000;decide),fun q2 H5 n5=>⟨(),q2,og,(1,1),t.gain,1,1,6,6,rfl,n5.at',n5.sm _ _ (n4.sm _ _ (s2 _ _ hog)),BH,tt.fg,by decide,by decide,by decide,by decide,(fun _=>tt.g1),fun q3 H6 n6=>⟨(by show 6≤10000;decide),fun q4 H7 n7=>?_⟩⟩⟩⟩
     have s27:=((n4.sm.trans n5.sm).trans n6.sm).trans n7.sm
     have hL7:=s27 _ _ hL2
     refine ⟨L,_,(),rfl,hL7,by trivial,fun H8 c8=>⟨_,_,_,_,_,_,_,(),c8.at',?_,ad.ch (s2.trans s27) c8 n1.fr⟩⟩
     have es:dq i t p=(if p.1*t.most.2<t.most.1*p.2 then [(⟨i,false,t.bg,t.en,mM t.most p,t.gain⟩:SD)] else [])++[⟨i,true,t.en,t.bg,KM.lTim p t.gain,eI (1,1) t.gain⟩]:=by unfold dq;rw [if_pos hp]
     rw [pW et ep,es,←List.append_assoc,List.map_append]
     refine gB c8 hL7 (iL2.mono s27.toE) ?_
     exact .tup n7.at' (.cons (.int _) (.cons (.bl _) (.cons (.str _) (.cons (.str _) (.cons (fY (p:=KM.lTim p t.gain) (n7.sm _ _ (n6.sm _ _ (n5.sm _ _ n4.at')))) (.cons (fY (p:=eI (1,1) t.gain) (n7.sm _ _ n6.at')) .nil))))))
    ·rw [show decide (p.1 > 0)=false from decide_eq_false hp]
     refine aR ⟨_,_,_,_,_,_,_,(),hL2,?_,s2⟩
     have es:dq i t p=(if p.1*t.most.2<t.most.1*p.2 then [(⟨i,false,t.bg,t.en,mM t.most p,t.gain⟩:SD)] else []):=by unfold dq;rw [if_neg hp,List.append_nil]
     rw [pW et ep,es]
     exact iL2
   ·refine ⟨(),(),om,ou,t.most,p,rfl,s1 _ _ hom,s1 _ _ hou,m1,m2,p1,p2,_,(),rfl,(),?_⟩
    have e0:decide (t.most.1*p.2 - p.1*t.most.2 > 0)=decide (p.1*t.most.2<t.most.1*p.2):=Cz (by trivial)
    rw [e0]
    have iL1:=iL.mono nT.sm.toE
    by_cases hp:p.1*t.most.2<t.most.1*p.2
    ·rw [decide_eq_true hp]
     refine bF ?_
     refine ⟨(),.inl ⟨rfl,_,ah.of hL1⟩,(),(),(),(),(),om,ou,t.most,p,_,_,_,(),s1 _ _ hom,s1 _ _ hou,tt.fm,gp',by decide,by decide,by trivial,by trivial,(fun z=>by cases z),fun q1 H4 n4=>⟨(),(by show 6≤10000;decide),fun q4 H7 n7=>?_⟩⟩
     have s17:=n4.sm.trans n7.sm
     have hL7:=s17 _ _ hL1
     refine ⟨L,_,(),rfl,hL7,by trivial,fun H8 c8=>nx _ _ ⟨(),ad.ch (s1.trans s17) c8 n1.fr,c8.at',?_⟩⟩
     rw [if_pos hp,List.map_append]
     refine gB c8 hL7 (iL1.mono s17.toE) ?_
     exact .tup n7.at' (.cons (.int _) (.cons (.bl _) (.cons (.str _) (.cons (.str _) (.cons (fY (p:=mM t.most p) (n7.sm _ _ n4.at')) (.cons (fY (p:=t.gain) (s17 _ _ (s1 _ _ hog))) .nil))))))
    ·rw [decide_eq_false hp]
     refine aR (nx _ _ ⟨(),s1,hL1,?_⟩)
     rw [if_neg hp,List.append_nil]
     exact iL1
  ·rintro σ H' ⟨v3,v4,v5,v6,v7,v8,v9,zs,rfl,hL,iL,sm⟩
   rw [lys] at iL
   exact nB _ _ ⟨(),k L zs H' sm n1.fr hL iL⟩
end
end K18
namespace K18
open PySem L2
set_option maxHeartbeats 4000000
theorem LZ {a b:List Nat}:tI (V.str (S a)) (V.str (S b))=(a==b):=by
 show (S a==S b)=(a==b)
 by_cases h:a=b
 ·subst h;simp
 ·rw [beq_eq_false_iff_ne.mpr h,beq_eq_false_iff_ne.mpr]
  exact fun z=>h (gW z)
theorem zf (l:List Nat) (es:List (List Nat)):jN (ar l) (es.map ar)=es.contains l:=by
 unfold jN
 induction es with
 | nil=>rfl
 | cons e r ih=>
  rw [List.map_cons,List.any_cons,ih,List.contains_cons]
  have:tI (ar e) (ar l)=(l==e):=by rw [show tI (ar e) (ar l)=(e==l) from LZ];exact Bool.beq_comm
  rw [this]
theorem Bo (es:List (List Nat)):(es.map ar).all lQ=true:=by
 rw [List.all_eq_true]
 intro v hv
 obtain ⟨l,_,rfl⟩:=List.mem_map.mp hv
 rfl
theorem yG {E:Addr→Prop}{H:Hp}:∀{xs:List V}{ds:List PyData} (n:Nat),ae E H xs ds→ae E H (xs.eraseIdx n) (ds.eraseIdx n)
 | _,_,_,.nil=>.nil
 | _,_,0,.cons h r=>r
 | _,_,n+1,.cons h r=>.cons h (yG n r)
theorem yt {α β:Type} (f:α→β):∀(xs:List α) (n:Nat),(xs.map f).eraseIdx n=(xs.eraseIdx n).map f
 | [],_=>rfl
 | _ :: _,0=>rfl
 | x :: xs,n+1=>by
  show f x :: (xs.map f).eraseIdx n=f x :: (xs.eraseIdx n).map f
  rw [yt f xs n]
abbrev zB (r:List SD×List Nat):PyData:=.tuple [.list (r.1.map sD),.str (S r.2)]
theorem GX {E:Addr→Prop}{H:Hp}{v:V}{r:List SD×List Nat} (h:aM E H v (zB r)):fD fun T c zs=>v=.ref T∧H T=some (.tup [.ref c,.str (S r.2)])∧H c=some (.lst zs)∧¬E c∧ae E H zs (r.1.map sD):=by
 cases h with
 | @tup a xs _ h r'=>
  cases r' with
  | @cons u1 _ _ _ h1 r'=>
  cases r' with
  | @cons u2 _ _ _ h2 r'=>
  cases r'
  cases h2
  cases h1 with
  | @lst c zs _ hc ne rz=>exact ⟨a,c,zs,rfl,h,hc,ne,rz⟩
theorem bA {E:Addr→Prop}{H:Hp}{v:V}{s:SD} (h:aM E H v (sD s)):fD fun o r g=>v=.ref o∧H o=some (.tup [.int s.n,.bl s.bk,.str (S s.st),.str (S s.en),.ref r,.ref g])∧H r=some (fr s.room)∧H g=some (fr s.gain):=by
 cases h with
 | @tup a xs _ h r'=>
  cases r' with
  | @cons u1 _ _ _ h1 r'=>
  cases r' with
  | @cons u2 _ _ _ h2 r'=>
  cases r' with
  | @cons u3 _ _ _ h3 r'=>
  cases r' with
  | @cons u4 _ _ _ h4 r'=>
  cases r' with
  | @cons u5 _ _ _ h5 r'=>
  cases r' with
  | @cons u6 _ _ _ h6 r'=>
  cases r'
  cases h1
  cases h2
  cases h3
  cases h4
  obtain ⟨r,rfl,hr⟩:=iG h5
  obtain ⟨g,rfl,hg⟩:=iG h6
  exact ⟨a,r,g,rfl,h,hr,hg⟩
structure Rw (f:List Nat) (ls:List (List Nat)) (ss:List SD) (ms:List (List Nat)) (r:List SD×List Nat):Prop where
 m:∀c∈r.1,c∈ss
 p:f :: r.1.map SD.en=r.1.map SD.st++[r.2]
 nd:(r.1.map SD.st++[r.2]).Nodup
 s:∀c∈r.1,c.st∈ms
 l:r.2∈ls
theorem Rw.up {f:List Nat}{ls:List (List Nat)}{ss:List SD}{ms:List (List Nat)}{r:List SD×List Nat} (h:Rw f ls ss ms r) (x:List Nat):Rw f ls ss (ms++[x]) r:=⟨h.m,h.p,h.nd,fun c hc=>List.mem_append_left _ (h.s c hc),h.l⟩
theorem Rw.on {f:List Nat}{ls:List (List Nat)}{ss:List SD}{ms:List (List Nat)}{r:List SD×List Nat}{s:SD} (h:Rw f ls ss ms r) (hs:s∈ss) (he:s.st=r.2) (hn:s.en∉ms) (hr:r.2∈ms) (hl:s.en∈ls):Rw f ls ss ms (r.1++[s],s.en):=by
 refine ⟨fun c hc=>?_,?_,?_,fun c hc=>?_,hl⟩
 ·rcases List.mem_append.mp hc with q | q
  ·exact h.m c q
  ·rw [List.mem_singleton.mp q];exact hs
 ·rw [List.map_append,List.map_append,←List.cons_append,h.p]
  simp [he]
 ·have e:(r.1++[s]).map SD.st++[s.en]=(r.1.map SD.st++[r.2])++[s.en]:=by simp [he]
  show ((r.1++[s]).map SD.st++[s.en]).Nodup
  rw [e,List.nodup_append]
  refine ⟨h.nd,by simp,fun a ha b hb=>?_⟩
  rw [List.mem_singleton.mp hb]
  rintro rfl
  rcases List.mem_append.mp ha with q | q
  ·obtain ⟨c,hc,e'⟩:=List.mem_map.mp q
   exact hn (e'▸h.s c hc)
  ·rw [List.mem_singleton.mp q] at hn
   exact hn hr
 ·rcases List.mem_append.mp hc with q | q
  ·exact h.s c q
  ·rw [List.mem_singleton.mp q,he];exact hr
theorem rh {α:Type} [DecidableEq α]:∀{xs ys:List α},xs.Nodup→(∀x∈xs,x∈ys)→xs.length≤ys.length
 | [],_,_,_=>Nat.zero_le _
 | x :: xs,ys,nd,h=>by
  rw [List.nodup_cons] at nd
  have hx:=h x (List.mem_cons_self ..)
  have:=rh (xs:=xs) (ys:=ys.erase x) nd.2 fun y hy=>(List.mem_erase_of_ne (fun (z:y=x)=>nd.1 (z▸hy))).mpr (h y (List.mem_cons_of_mem _ hy))
  rw [List.length_erase_of_mem hx] at this
  have:0<ys.length:=List.length_pos_of_mem hx
  simp
  trivial
def nO (ls ms:List (List Nat)):Nat:=(ls.filter fun l=>!ms.contains l).length
theorem EL {ls ms:List (List Nat)}{h:List Nat} (hl:h∈ls) (hm:h∉ms):nO ls (ms++[h])<nO ls ms:=by
 unfold nO
 have e:(ls.filter fun l=>!(ms++[h]).contains l)=(ls.filter fun l=>!ms.contains l).filter fun l=>!(l==h):=by
  rw [List.filter_filter]
  congr 1
  funext l
  by_cases q:l=h <;> by_cases q2:l∈ms <;> simp [q,q2]
 rw [e]
 apply List.length_filter_lt_length_iff_exists.mpr
 exact ⟨h,List.mem_filter.mpr ⟨hl,by simp [hm]⟩,by simp⟩
section
variable {P:Program}{w:World}{K:PySem.W.Frag}{mg:Str→Option Value}{base:Heap}
structure KU (f e:List Nat) (ls:List (List Nat)) (ss cs:List SD):Prop where
 m:∀c∈cs,c∈ss
 p:f :: cs.map SD.en=cs.map SD.st++[e]
 nd:(cs.map SD.st++[e]).Nodup
 l:cs.length≤ls.length
inductive C9 (vs:List V) (H:Hp) (Q:VK):Prop
 | mk (b sa ba:Addr) (f e:List Nat) (xs:List V) (ss:List SD) (ls bs:List (List Nat)) (t:Int) (h0:vs=[.ref b,.ref sa,.str (S f),.str (S e),.ref ba]) (h1:Bx H b t) (h2:0≤t) (h3:t≤900000) (h4:¬sa=b) (h5:H sa=some (.lst xs)) (h6:ae ED H xs (ss.map sD)) (h7:ss.length≤80) (h8:H ba=some (.lst (bs.map ar))) (h9:bs.length≤10) (h10:f∈ls) (h11:(∀s∈ss,s.en∈ls)) (h12:ls.length≤10) (h13:(∀t' H',aq (Eb b) H H'→Bx H' b t'→t≤t'→t'≤t+900→Q .non H')) (h14:∀C zs cs t' H',aq (Eb b) H H'→Bx H' b t'→t≤t'→t'≤t+900→¬C=b→H' C=some (.lst zs)→ae ED H' zs (cs.map sD)→KU f e ls ss cs→Q (.ref C) H')
def EX:Sp:=fun vs H Q _=>C9  vs H Q
theorem Gd {E:Addr→Prop}{H:Hp}{v:V}{s:SD} (h:aM E H v (sD s)):aM ED H v (sD s):=by
 obtain ⟨o,r,g,rfl,ho,hr,hg⟩:=bA h
 exact .tup ho (.cons (.int _) (.cons (.bl _) (.cons (.str _) (.cons (.str _) (.cons (fY (p:=s.room) hr) (.cons (fY (p:=s.gain) hg) .nil))))))
theorem vS {E:Addr→Prop}{H:Hp}:∀{ss:List SD}{vs:List V},ae E H vs (ss.map sD)→ae ED H vs (ss.map sD)
 | [],_,.nil=>.nil
 | _ :: _,_,.cons h r=>.cons (Gd h) (vS r)
theorem GF {E:Addr→Prop}{H:Hp}{vs:List V}{ds:List PyData} (h:ae ED H vs ds):ae E H vs ds:=h.narrow fun _ _=>trivial
def E3 (b R M:Addr):Addr→Prop:=fun a=>a=b∨a=R∨a=M
inductive Jx (b R M sa ba:Addr) (f e:List Nat) (ls:List (List Nat)) (ss:List SD) (G:Hp) (t:Int) (m:Nat) (σ:St) (H':Hp):Prop
 | mk (rvs:List V) (rs:List (List SD×List Nat)) (ms:List (List Nat)) (v7 v8:Option V) (t':Int) (h0:σ=[some (.ref b),some (.ref sa),some (.str (S f)),some (.str (S e)),some (.ref ba),some (.ref R),some (.ref M),v7,v8]) (h1:H' R=some (.lst rvs)) (h2:ae (E3 b R M) H' rvs (rs.map zB)) (h3:H' M=some (.lst (ms.map ar))) (h4:Bx H' b t') (h5:aq (E3 b R M) G H') (h6:(∀r∈rs,Rw f ls ss ms r)) (h7:m=nO ls ms*81+rs.length) (h8:t≤t') (h9:t'+(m:Int)≤t+811) (h10:ms.length+nO ls ms≤20)
def Ia (b R M sa ba:Addr) (f e:List Nat) (ls:List (List Nat)) (ss:List SD) (G:Hp) (t:Int):Nat→St→Hp→Prop:=fun m σ H'=>Jx b R M sa ba f e ls ss G t m σ H'
theorem xM (T:Txt K mg):aY P w K mg base CX0 2 T.l_course_by_.f T.l_course_by_.d ["_law_box_here", "_law_steps", "_law_first", "_law_end", "_law_barred"] EX:=by
 have G_l_take:=#[(jA)]
 refine T.l_course_by_.F.ok gO (fun vs H Q E h=>?_) (fun cdv A outer s H vs Q E hr h=>?_)
 ·obtain ⟨b,sa,ba,f,e,xs,ss,ls,bs,t,rfl,_⟩:=h
  rfl
 ·obtain ⟨b,sa,ba,f,e,xs,ss,ls,bs,t,rfl,B0,ht0,ht1,nsb,hsa,ixs,lss,hba,lbs,fls,sls,lls,k1,k2⟩:=h
  refine ⟨_,#[#[cW 6 #[ak 5 #[[#[aL 4 #[[#[ak 5 #[[#[aL 4 (@bc _)],#[2,qo]]]]]]],#[cu 9 (@sw _ (K) (by rfl)) tx T.b_list (@jv) #[[#[4,pJ]]] (by decide) (by decide) (by rfl) (by rfl)]]]] (@bM _ (K) _ _ _ _ (2) rfl #[aj 5 #[5,gO.nd,cm] #[aj 5 #[dc 2 (6) _ gO.nd rfl (Or.inr iM) (by first | exact .inl rfl | exact .inr rfl | assumption)] (@bK _) (by rfl)] (by rfl)] (by rfl) (by rfl) (by rfl)) (by rfl) (by rfl) (by rfl)] :: #[#[lp 6 PassesOwn.never #[ap 8 (@vJ _ hr.units) #[5,cm] #[aL 4 (@bc _)] #[(),()]] #[#[cW 6 (@bS _ (K) _ _ _ _ _ _ _ _ _ _ _ PySem.F.plainAttrs_list PySem.F.slot_list_pop PySem.F.type_list_pop (@Gf _) #[5,cm] #[[#[ai 8 (@f9 _) #[ai 8 (@f9 _) #[(),(),(@bX _ (K) (by rfl)),mZ,T.b_len,(@aF),#[[#[5,cm]]]] #[()]] #[G_l_take,qN,T.l_take_,#[[#[0,oQ],#[(),(),(@CD _ rfl),vk,T.b_min,(@wO),#[[#[(),(),(@bX _ (K) (by rfl)),mZ,T.b_len,(@aF),#[[#[5,cm]]]],#[()]]]]]]]]]] (by rfl) (by rfl) (by rfl) (by rfl) (by rfl) (by rfl)) (@bM _ (K) _ _ _ _ (2) rfl #[aj 5 #[dc 2 (7) _ gO.nd rfl (Or.inr jP) (by first | exact .inl rfl | exact .inr rfl | assumption)] #[aj 5 #[dc 2 (8) _ gO.nd rfl (Or.inr eR) (by first | exact .inl rfl | exact .inr rfl | assumption)] (@bK _) (by rfl)] (by rfl)] (by rfl) (by rfl) (by rfl)) (by rfl) (by rfl) (by rfl)] :: #[#[bh 8 #[ap 8 (@gY _) #[8,(eR)] #[3,sQ] #[(),()]] #[ac 3 #[aw 4 #[7,(jP)]]] (@aK _)] :: #[ac 3 #[bh 8 #[ap 8 (@qx _ (K) (by rfl)) #[8,(eR)] #[6,(iM)] rfl] #[#[cI 4 (@bS _ (K) _ _ _ _ _ _ _ _ _ _ _ PySem.F.plainAttrs_list PySem.F.slot_list_append PySem.F.type_list_append (@bU _) #[6,(iM)] #[[#[8,(eR)]]] (by rfl) (by rfl) (by rfl) (by rfl) (by rfl) (by rfl)) (by rfl)] :: #[ac 3 #[cI 4 (@bS _ (K) _ _ _ _ _ _ _ _ _ _ _ PySem.F.plainAttrs_list PySem.F.slot_list_extend PySem.F.type_list_extend (@wI _) #[5,cm] #[[#[fN 7 (["_law_step", "_law_course", "_law_here", "_law_met"]) (1) ([7,8,6]) _ _ _ _ rfl (by kernel_rfl) (@br _ (K) _ _ _ #[1,qf] (by rfl)) (fun _ _ _ _ _ _=>#[0,(),()]) (fun _ _ _ _ _ _=>#[lh 3 #[PW.pt 3 #[qG 7 #[ap 8 (@gY _) #[#[0,()][#[()]]] #[2,0] #[(),()]] #[n0 4 #[ap 8 (@qx _ (K) (by rfl)) #[#[0,()][#[()]]] #[3,0] rfl]]]]]) (fun _ _ _ _ _ _=>#[ak 5 #[[#[ai 8 (@lJ _) #[1,0] #[aL 4 #[[#[0,()]]]]],#[#[0,()][#[()]]]]]]) (by intro _;rfl)]]] (by rfl) (by rfl) (by rfl) (by rfl) (by rfl) (by rfl)) (by rfl)]]] (@aK _)]]]]] :: #[ac 3 #[aw 4 #[cR 3]]]]],?_⟩
  refine ⟨(by show 0≤10000;decide),fun c0 G1 n1=>⟨(),(by show 2≤10000;decide),fun T0 G2 n2=>⟨(by show 1≤10000;decide),fun R G3 n3=>⟨(),ba,(),.inl (ah.of (n3.sm _ _ (n2.sm _ _ (n1.sm _ _ hba)))),fun M G4 n4=>⟨(by show 2≤10000;decide),fun T1 G5 n5=>⟨T1,(),ag.of n5.at',rfl,_,(),_,(),rfl,?_⟩⟩⟩⟩⟩⟩
  dsimp only
  have s05:ad H G5:=(((n1.sm.trans n2.sm).trans n3.sm).trans n4.sm).trans n5.sm
  have hR5:G5 R=some (.lst [.ref T0]):=n5.sm _ _ (n4.sm _ _ n3.at')
  have hM5:=n5.sm _ _ n4.at'
  have hc5:G5 c0=some (.lst []):=n5.sm _ _ (n4.sm _ _ (n3.sm _ _ (n2.sm _ _ n1.at')))
  have hT5:G5 T0=some (.tup [.ref c0,.str (S f)]):=n5.sm _ _ (n4.sm _ _ (n3.sm _ _ n2.at'))
  have B5:=B0.same s05
  have fR:H R=none:=(n1.sm.trans n2.sm).free n3.fr
  have fM:H M=none:=((n1.sm.trans n2.sm).trans n3.sm).free n4.fr
  have nRb:¬R=b:=fun z=>B0.ne fR z.symm
  have nMb:¬M=b:=fun z=>B0.ne fM z.symm
  have nRM:¬R=M:=fun z=>by have q:=n4.fr;rw [←z,n3.at'] at q;cases q
  have hsa5:=s05 _ _ hsa
  have nsR:¬sa=R:=fun z=>by rw [z,fR] at hsa;cases hsa
  have nsM:¬sa=M:=fun z=>by rw [z,fM] at hsa;cases hsa
  have nc:¬E3 b R M c0:=by
   rintro (z | z | z)
   ·exact B0.ne n1.fr z.symm
   ·have:=n2.sm _ _ n1.at';rw [z,n3.fr] at this;cases this
   ·have:=n3.sm _ _ (n2.sm _ _ n1.at');rw [z,n4.fr] at this;cases this
  have out:∀{J:Hp},aq (E3 b R M) G5 J→aq (Eb b) H J:=fun h=>⟨fun a o na ha=>h.old a o (by
   rintro (z | z | z)
   ·exact na z
   ·rw [z,fR] at ha;cases ha
   ·rw [z,fM] at ha;cases ha) (s05 _ _ ha),fun a us ha=>h.tup a us (s05 _ _ ha)⟩
  refine dW fun DB nB rB=>?_
  have un0:nO ls bs≤10:=Nat.le_trans (List.length_filter_le ..) lls
  refine ⟨Ia b R M sa ba f e ls ss G5 t,⟨nO ls bs*81+1,[.ref T0],[([],f)],bs,none,none,t,rfl,hR5,.cons (.tup hT5 (.cons (.lst hc5 nc .nil) (.cons (.str _) .nil))) .nil,hM5,B5,aq.refl _,?_,rfl,by trivial,by trivial,by trivial⟩,?_⟩
  ·intro r hr'
   rw [List.mem_singleton.mp hr']
   exact ⟨(fun c hc=>by cases hc),rfl,(by simp),(fun c hc=>by cases hc),fls⟩
  rintro m σ J ⟨rvs,rs,ms,v7,v8,t',rfl,hR,iR,hM,B,sE,hrw,em,ht2,ht3,hms⟩
  have lrs:rvs.length=rs.length:=by rw [iR.length,List.length_map]
  refine ⟨(),(by show 0≤10000;decide),fun z J1 m1=>⟨R,z,rvs,rfl,rfl,m1.sm _ _ hR,m1.at',(),?_⟩⟩
  have hR1:=m1.sm _ _ hR
  have B1:=B.same m1.sm
  have sE1:aq (E3 b R M) G5 J1:=sE.trans m1.sm.toE
  by_cases h0:rvs=[]
  ·subst h0
   refine aR (nB _ _ ?_)
   exact k1 t' J1 (out sE1) B1 (by trivial) (by trivial)
  have l1:1≤rvs.length:=by
   cases rvs with
   | nil=>exact absurd rfl h0
   | cons=>simp
  have e1:(!rvs.isEmpty)=true:=by
   cases rvs with
   | nil=>exact absurd rfl h0
   | cons=>rfl
  rw [e1]
  refine bF ⟨fun σ' J'=>∃m',m'<m∧Ia b R M sa ba f e ls ss G5 t m' σ' J',fun σ' J' z=>z,?_⟩
  have hmn:0<(if (3:Int)<(rvs.length:Int) then (3:Int) else (rvs.length:Int))∧(if (3:Int)<(rvs.length:Int) then (3:Int) else (rvs.length:Int))≤3∧(if (3:Int)<(rvs.length:Int) then (3:Int) else (rvs.length:Int))≤rvs.length:=by
   split <;> trivial
  refine ⟨(),.inl ⟨rfl,_,ah.of hR1⟩,(),R,(),.inl (ah.of hR1),_,(),rfl,(),(),R,(),.inl (ah.of hR1),_,(),b,_,t',rfl,B1,hmn.1,mH hmn.1 (by trivial),by trivial,by trivial,fun r t2 J2 r0 r1 h2a h2b j2 B2=>?_⟩
  obtain ⟨i,ei,hi⟩:∃i:Nat,(rvs.length:Int) - 1 - r=(i:Int)∧i<rvs.length:=⟨((rvs.length:Int) - 1 - r).toNat,by trivial,by trivial⟩
  obtain ⟨y,ey⟩:∃y,rvs[i]?=some y:=⟨_,List.getElem?_eq_getElem hi⟩
  obtain ⟨row,er⟩:∃row,rs[i]?=some row:=⟨_,List.getElem?_eq_getElem (by trivial)⟩
  have wb:aq (E3 b R M) J1 J2:=aq.weak (.inl rfl) j2
  have hR2:J2 R=some (.lst rvs):=j2.old R _ nRb hR1
  have iR2:ae (E3 b R M) J2 rvs (rs.map zB):=(iR.mono m1.sm.toE).mono wb
  have hM2:=j2.old M _ nMb (m1.sm _ _ hM)
  refine ⟨_,(),rfl,R,rvs,i,y,rfl,congrArg (fun z=>[V.int z]) ei,hR2,by trivial,ey,fun J3 c3=>?_⟩
  have sC3:aq (E3 b R M) J2 J3:=⟨fun a o na ha=>c3.ol a o (fun z=>na (.inr (.inl z))) ha,fun a us ha=>c3.tup ha hR2⟩
  have iR3:=iR2.mono sC3
  obtain ⟨T',c,zs,rfl,hT',hc,ncE,izs⟩:=GX (iR3.nth i ey (by rw [List.getElem?_map,er];rfl))
  have hrow:=hrw row (List.mem_of_getElem? er)
  have hM3:=c3.ol M _ (fun z=>nRM z.symm) hM2
  have B3:=B2.ch c3 (fun z=>nRb z.symm)
  have sE3:aq (E3 b R M) G5 J3:=(sE1.trans wb).trans sC3
  have lpath:row.1.length+1≤ls.length:=by
   have:=rh (ys:=ls) hrow.nd fun x hx=>by
    rw [←hrow.p] at hx
    rcases List.mem_cons.mp hx with q | q
    ·rw [q];exact fls
    ·obtain ⟨c,hc,rfl⟩:=List.mem_map.mp q
     exact sls c (hrow.m c hc)
   simp at this
   trivial
  refine ⟨T',(),ag.of hT',rfl,_,(),_,(),rfl,?_⟩
  dsimp only
  have lrs':(rs.eraseIdx i).length=rs.length - 1:=List.length_eraseIdx_of_lt (by trivial)
  have iE:=yG i iR3
  rw [yt] at iE
  have mE:∀r∈rs.eraseIdx i,r∈rs:=fun r hr'=>List.mem_of_mem_eraseIdx hr'
  refine dW fun DC nC rC=>?_
  refine ⟨(),(),rfl,(),?_⟩
  rw [show decide (V.str (S row.2)=V.str (S e))=decide (row.2=e) from qm]
  by_cases he:row.2=e
  ·rw [decide_eq_true he]
   refine bF ⟨(),rC _ _ (rB _ _ ?_)⟩
   have hrow':=hrow
   refine k2 c zs row.1 t2 J3 (out sE3) B3 (by trivial) (by trivial) (fun z=>ncE (.inl z)) hc (vS izs) ⟨hrow.m,?_,?_,by trivial⟩
   ·rw [←he];exact hrow.p
   ·rw [←he];exact hrow.nd
  rw [decide_eq_false he]
  refine aR (nC _ _ ?_)
  refine ⟨(),(),M,(),.inl (ah.of hM3),rfl,Bo ms,(),?_⟩
  have einv:(if true=true then !jN (V.str (S row.2)) (ms.map ar) else jN (V.str (S row.2)) (ms.map ar))=!ms.contains row.2:=by
   show (!jN (ar row.2) (ms.map ar))=_
   rw [zf]
  rw [einv]
  by_cases hin:row.2∈ms
  ·rw [show (!ms.contains row.2)=false by simp [hin]]
   refine aR ⟨nO ls ms*81+(rs.length - 1),by trivial,rvs.eraseIdx i,rs.eraseIdx i,ms,_,_,t2,rfl,c3.at',iE,hM3,B3,sE3,fun r hr'=>hrw r (mE r hr'),by rw [lrs'],by trivial,by trivial,hms⟩
  rw [show (!ms.contains row.2)=true by simp [hin]]
  have ult:=EL hrow.l hin
  refine bF ?_
  refine aT fun DD nD=>?_
  refine ⟨(),.inl ⟨rfl,_,ah.of hM3⟩,(),M,_,(),rfl,hM3,by rw [List.length_map];trivial,fun J4 c4=>nD _ _ ?_⟩
  have hR4:=c4.ol R _ nRM c3.at'
  have sC4:aq (E3 b R M) J3 J4:=⟨fun a o na ha=>c4.ol a o (fun z=>na (.inr (.inr z))) ha,fun a us ha=>c4.tup ha hM3⟩
  have iE4:=iE.mono sC4
  have izs4:=izs.mono sC4
  have hc4:=c4.ol c _ (fun z=>ncE (.inr (.inr z))) hc
  have B4:=B3.ch c4 (fun z=>nMb z.symm)
  have sE4:=sE3.trans sC4
  have hsa4:J4 sa=some (.lst xs):=sE4.old sa _ (fun z=>z.elim nsb fun z=>z.elim nsR nsM) hsa5
  have ixs4:ae ED J4 xs (ss.map sD):=(ixs.mono s05.toE).tupS sE4
  have lxs:xs.length=ss.length:=by rw [ixs.length,List.length_map]
  have hM4:J4 M=some (.lst ((ms++[row.2]).map ar)):=by rw [c4.at',List.map_append];rfl
  refine ⟨(),.inl ⟨rfl,_,ah.of hR4⟩,(),sa,rfl,⟨_,ah.of hsa4⟩,fun D hD=>pb (n:=xs.length) (fun i H' ys=>∃ns:List (List SD×List Nat),H' D=some (.lst ys)∧ae (fun a=>E3 b R M a∨a=D) H' ys (ns.map zB)∧ys.length≤i∧(∀r∈ns,Rw f ls ss (ms++[row.2]) r)∧ad J4 H') (lX (by trivial)) ⟨[],aB,.nil,Nat.le_refl _,(fun r hr'=>by cases hr'),ad.new hD⟩ ?_ ?_ ?_ ?_ ?_⟩
  ·rintro i H' ys ⟨ns,e1,_,e3,_⟩
   exact ⟨e1,e3⟩
  ·rintro i H' ys hi' ⟨ns,_,_,_,_,sm⟩
   exact ⟨xs,xs[i],ah.of (sm _ _ hsa4),List.getElem?_eq_getElem hi'⟩
  ·rintro H' ys ⟨ns,_,_,_,_,sm⟩
   exact ⟨xs,ah.of (sm _ _ hsa4),Nat.le_refl _⟩
  ·rintro i' H' ys x H'' hi' ⟨ns,hD',iD,lD,rD,sm⟩ ⟨rfl,ex⟩
   have exi:=ex _ (ah.of (sm _ _ hsa4))
   obtain ⟨dx,edx,gx⟩:=ixs4.get exi
   rw [List.getElem?_map] at edx
   obtain ⟨sd,esd,rfl⟩:=Option.map_eq_some_iff.mp edx
   have msd:=List.mem_of_getElem? esd
   obtain ⟨o,orr,og,rfl,ho,hor,hog⟩:=bA gx
   have ho':=sm _ _ ho
   have hM':=sm _ _ hM4
   have hno:∀{J:Hp},ad H'' J→∃ns:List (List SD×List Nat),J D=some (.lst ys)∧ae (fun a=>E3 b R M a∨a=D) J ys (ns.map zB)∧ys.length≤i'+1∧(∀r∈ns,Rw f ls ss (ms++[row.2]) r)∧ad J4 J:=fun sJ=>⟨ns,sJ _ _ hD',iD.mono sJ.toE,by trivial,rD,sm.trans sJ⟩
   refine ⟨di,(),o,_,_,(),rfl,ag.of ho',rfl,(),rfl,(),?_⟩
   rw [show decide (V.str (S sd.st)=V.str (S row.2))=decide (sd.st=row.2) from qm]
   by_cases h1:sd.st=row.2
   ·rw [decide_eq_true h1]
    refine bF ⟨(),o,_,_,(),rfl,ag.of ho',rfl,(),M,(),.inl (ah.of hM'),rfl,Bo _,(),?_⟩
    have einv2:(if true=true then !jN (V.str (S sd.en)) ((ms++[row.2]).map ar) else jN (V.str (S sd.en)) ((ms++[row.2]).map ar))=!(ms++[row.2]).contains sd.en:=by
     show (!jN (ar sd.en) ((ms++[row.2]).map ar))=_
     rw [zf]
    rw [einv2]
    by_cases h2:sd.en∈ms++[row.2]
    ·rw [show (!(ms++[row.2]).contains sd.en)=false by rw [List.contains_iff_mem.mpr h2];rfl]
     exact aR (hno (ad.refl _))
    ·rw [show (!(ms++[row.2]).contains sd.en)=true by simpa using h2]
     refine bF ⟨(),(),(by show 1≤10000;decide),fun l1 K1 q1=>⟨c,l1,zs,(),rfl,q1.sm _ _ (sm _ _ hc4),q1.at',?_,fun c' K2 q2=>⟨(),o,_,_,(),rfl,ag.of (q2.sm _ _ (q1.sm _ _ ho')),rfl,(by show 2≤10000;decide),fun T2 K3 q3=>?_⟩⟩⟩
     ·have:zs.length=row.1.length:=by rw [izs.length,List.length_map]
      simp
      trivial
     have s3:=(q1.sm.trans q2.sm).trans q3.sm
     have hD3:=s3 _ _ hD'
     have ncD:¬(E3 b R M c'∨c'=D):=by
      rintro ((z | z | z) | z)
      ·exact absurd z (fun z=>(B4.same (sm.trans q1.sm)).ne q2.fr z.symm)
      ·have:=q1.sm _ _ (sm _ _ hR4);rw [←z,q2.fr] at this;cases this
      ·have:=q1.sm _ _ hM';rw [←z,q2.fr] at this;cases this
      ·have:=q1.sm _ _ hD';rw [←z,q2.fr] at this;cases this
     have sU:aq (fun a=>E3 b R M a∨a=D) K3 (aN K3 D (.lst (ys++[.ref T2]))):=by
      have c5:Ch K3 D (ys++[.ref T2]) _:=Ch.mk'
      exact ⟨fun a o na ha=>c5.ol a o (fun z=>na (.inr z)) ha,fun a us ha=>c5.tup ha hD3⟩
     refine ⟨hD3,ns++[(row.1++[sd],sd.en)],aB,?_,by rw [List.length_append];simp;trivial,fun r hr'=>?_,fc hD (sm.trans s3)⟩
     ·rw [List.map_append]
      refine ((iD.mono s3.toE).append (.cons ?_ .nil)).mono sU
      refine .tup q3.at' (.cons (.lst (q3.sm _ _ q2.at') ncD ?_) (.cons (.str _) .nil))
      rw [List.map_append]
      have z1:ae ED K3 zs (row.1.map sD):=((vS izs4).mono (sm.trans s3).toE)
      exact (GF z1).append (.cons ((gx.mono (sm.trans s3).toE).any) .nil)
     ·rcases List.mem_append.mp hr' with q | q
      ·exact rD r q
      ·rw [List.mem_singleton.mp q]
       exact (hrow.up row.2).on msd h1 h2 (by simp) (sls sd msd)
   ·rw [decide_eq_false h1]
    exact aR (aR (hno (ad.refl _)))
  ·rintro J5 ys ⟨ns,hD5,iD5,lD5,rD5,sm5⟩
   have hR5':=sm5 _ _ hR4
   have lns:ys.length=ns.length:=by rw [iD5.length,List.length_map]
   have lE:(rvs.eraseIdx i).length=rs.length - 1:=by rw [←lrs',iE.length,List.length_map]
   refine ⟨R,D,_,ys,rfl,rfl,hR5',hD5,by trivial,fun J6 c6=>?_⟩
   have sC6:aq (E3 b R M) J5 J6:=⟨fun a o na ha=>c6.ol a o (fun z=>na (.inr (.inl z))) ha,fun a us ha=>c6.tup ha hR5'⟩
   refine ⟨nO ls (ms++[row.2])*81+(rs.eraseIdx i++ns).length,?_,_,rs.eraseIdx i++ns,ms++[row.2],_,_,t2,rfl,c6.at',?_,c6.ol M _ (fun z=>nRM z.symm) (sm5 _ _ hM4),(B4.same sm5).ch c6 (fun z=>nRb z.symm),(sE4.trans sm5.toE).trans sC6,fun r hr'=>?_,rfl,by trivial,?_,?_⟩
   ·rw [List.length_append,lrs'];trivial
   ·rw [List.map_append]
    exact (((iE4.mono sm5.toE)).append (iD5.narrow fun a z=>.inl z)).mono sC6
   ·rcases List.mem_append.mp hr' with q | q
    ·exact (hrw r (mE r q)).up _
    ·exact rD5 r q
   ·rw [List.length_append,lrs'];trivial
   ·rw [List.length_append];simp;trivial
end
end K18
namespace K18
open PySem L2
set_option maxHeartbeats 4000000
abbrev AH (x:SD×KM.Fra):PyData:=.tuple [sD x.1,cM x.2]
theorem DR {E:Addr→Prop}{H:Hp}{v:V}{x:SD×KM.Fra} (h:aM E H v (AH x)):fD fun T o p=>v=.ref T∧H T=some (.tup [.ref o,.ref p])∧aM E H (.ref o) (sD x.1)∧H p=some (fr x.2):=by
 cases h with
 | @tup a xs _ h r'=>
  cases r' with
  | @cons u1 _ _ _ h1 r'=>
  cases r' with
  | @cons u2 _ _ _ h2 r'=>
  cases r'
  obtain ⟨o,r,g,rfl,_⟩:=bA h1
  obtain ⟨p,rfl,hp⟩:=iG h2
  exact ⟨a,o,p,rfl,h,h1,hp⟩
structure IY (a b:Nat) (x:SD×KM.Fra):Prop where
 r:Gb a b x.1.room
 g:Gb 6 6 x.1.gain
 g1:1≤x.1.gain.1
 p:Gb 55 55 x.2
 p1:1≤x.2.1
section
variable {P:Program}{w:World}{K:PySem.W.Frag}{mg:Str→Option Value}{base:Heap}
inductive Cr (vs:List V) (H:Hp) (Q:VK):Prop
 | mk (ca po:Addr) (zs:List V) (cs:List SD) (h0:vs=[.ref ca,.ref po]) (h1:H ca=some (.lst zs)) (h2:ae ED H zs (cs.map sD)) (h3:cs.length≤10) (h4:(∀c∈cs,Gb 6 6 c.gain∧1≤c.gain.1)) (h5:H po=some (fr (1,1))) (h6:∀T F q fs (xs:List (SD×KM.Fra)) H',ad H H'→H' T=some (.tup [.ref F,.ref q])→H F=none→H' F=some (.lst fs)→ae ED H' fs (xs.map AH)→xs.map (·.1)=cs→(∀x∈xs,Gb 55 55 x.2∧1≤x.2.1)→Q (.ref T) H')
def C0:Sp:=fun vs H Q _=>Cr  vs H Q
theorem y3 (T:Txt K mg):aY P w K mg base CX0 3 T.l_parts_on_.f T.l_parts_on_.d ["_law_steps", "_law_part"] C0:=by
 have G_l_product:=#[(e7)]
 refine T.l_parts_on_.F.ok de (fun vs H Q E h=>?_) (fun cdv A outer s H vs Q E hr h=>?_)
 ·obtain ⟨ca,po,zs,cs,rfl,_⟩:=h
  rfl
 ·obtain ⟨ca,po,zs,cs,rfl,hca,izs,lcs,gcs,hpo,k⟩:=h
  have lzs:zs.length=cs.length:=by rw [izs.length,List.length_map]
  refine ⟨_,#[#[2,de.nd,cj,#[aL 4 (@bc _)]] :: #[#[cC 8 PassesOwn.never rfl (@br _ (K) _ _ _ #[0,kC] (by rfl)) #[3,de.nd,cy] #[#[cI 4 (@bS _ (K) _ _ _ _ _ _ _ _ _ _ _ PySem.F.plainAttrs_list PySem.F.slot_list_append PySem.F.type_list_append (@bU _) #[2,cj] #[[#[ak 5 #[[#[3,cy],#[1,bI]]]]]] (by rfl) (by rfl) (by rfl) (by rfl) (by rfl) (by rfl)) (by rfl)] :: #[ac 3 #[1,de.nd,bI,#[G_l_product,jO,T.l_product_,#[[#[1,bI],#[#[3,cy][#[()]]]]]]]]] (by intro _;rfl)] :: #[ac 3 #[aw 4 #[ak 5 #[[#[2,cj],#[1,bI]]]]]]]],?_⟩
  refine bT fun Q1 nA=>⟨(by show 0≤10000;decide),fun F H1 n1=>nA _ _ ?_⟩
  refine aT fun DB nB=>?_
  refine ⟨(),ca,rfl,⟨_,ah.of (n1.sm _ _ hca)⟩,jm (xs:=zs) (fun i σ H'=>A3 fun po v3 fs xs pp=>σ=[some (.ref ca),some (.ref po),some (.ref F),v3]∧H' po=some (fr pp)∧Gb (1+6*i) (1+6*i) pp∧1≤pp.1∧H' F=some (.lst fs)∧ae ED H' fs (xs.map AH)∧xs.map (·.1)=cs.take i∧(∀x∈xs,Gb 55 55 x.2∧1≤x.2.1)∧ad H H') ⟨po,none,[],[],(1,1),rfl,n1.sm _ _ hpo,BH,by decide,n1.at',.nil,rfl,(fun x hx=>by cases hx),n1.sm⟩ ?_ ?_ ?_⟩
  ·rintro i σ H' _ ⟨_,_,_,_,_,_,_,_,_,_,_,_,_,sm⟩
   exact ah.of (sm _ _ hca)
  ·rintro i x σ J hx ⟨po,v3,fs,xs,pp,rfl,hpo,gpp,pp1,hF,iF,ex,gx,sm⟩
   have hi:i<zs.length:=(List.getElem?_eq_some_iff.mp hx).1
   obtain ⟨dx,edx,gs⟩:=izs.get hx
   rw [List.getElem?_map] at edx
   obtain ⟨sd,esd,rfl⟩:=Option.map_eq_some_iff.mp edx
   obtain ⟨gg,g1⟩:=gcs sd (List.mem_of_getElem? esd)
   obtain ⟨o,orr,og,rfl,ho,hor,hog⟩:=bA gs
   have lxs:xs.length=i:=by
    have:=congrArg List.length ex
    rw [List.length_map,List.length_take] at this
    trivial
   have lfs:fs.length=i:=by rw [iF.length,List.length_map,lxs]
   refine aT fun DC nC=>?_
   refine ⟨(),.inl ⟨rfl,_,ah.of hF⟩,(),(),(by show 2≤10000;decide),fun T2 J2 n2=>⟨F,_,(),rfl,n2.sm _ _ hF,by trivial,fun J3 c3=>nC _ _ ?_⟩⟩
   have hF2:=n2.sm _ _ hF
   have s3:ad H J3:=ad.ch (sm.trans n2.sm) c3 n1.fr
   have hpo3:=c3.tup (n2.sm _ _ hpo) hF2
   have ho3:=s3 _ _ ho
   refine ⟨(),(),o,_,_,(),rfl,ag.of ho3,rfl,po,og,pp,sd.gain,_,_,_,(),hpo3,s3 _ _ hog,gpp,gg,by trivial,by trivial,by decide,by decide,(fun z=>by cases z),fun q J4 n4=>?_⟩
   refine ⟨q,_,fs++[.ref T2],xs++[(sd,pp)],(),n4.at',gpp.tim gg (by trivial) (by trivial),nX pp1 gpp.pos g1 gg.pos,n4.sm _ _ c3.at',?_,?_,fun x hx=>?_,s3.trans n4.sm⟩
   ·rw [List.map_append]
    refine (gB c3 hF2 (iF.mono n2.sm.toE) ?_).mono n4.sm.toE
    exact .tup n2.at' (.cons ((gs.mono (sm.trans n2.sm).toE)) (.cons (fY (p:=pp) (n2.sm _ _ hpo)) .nil))
   ·rw [List.map_append,ex,List.take_succ,esd];rfl
   ·rcases List.mem_append.mp hx with q' | q'
    ·exact gx x q'
    ·rw [List.mem_singleton.mp q']
     exact ⟨gpp.mono (by trivial) (by trivial),pp1⟩
  ·rintro σ J ⟨po,v3,fs,xs,pp,rfl,hpo,gpp,pp1,hF,iF,ex,gx,sm⟩
   rw [lzs,List.take_length] at ex
   refine nB _ _ ⟨(),(),(by show 2≤10000;decide),fun T2 J2 n2=>?_⟩
   exact k T2 F po fs xs J2 (sm.trans n2.sm) n2.at' n1.fr (n2.sm _ _ hF) (iF.mono n2.sm.toE) ex gx
inductive Ev (vs:List V) (H:Hp) (Q:VK):Prop
 | mk (F:Addr) (fs:List V) (xs:List (SD×KM.Fra)) (a b:Nat) (h0:vs=[.ref F]) (h1:H F=some (.lst fs)) (h2:ae ED H fs (xs.map AH)) (h3:1≤xs.length) (h4:(∀x∈xs,IY a b x)) (h5:a≤3000) (h6:b≤3000) (h7:∀o z H',ad H H'→H' o=some (fr z)→Gb (a+55) (b+55) z→Q (.ref o) H')
def Gs:Sp:=fun vs H Q _=>Ev  vs H Q
theorem xn (T:Txt K mg):aY P w K mg base CX0 3 T.l_much_along_.f T.l_much_along_.d ["_law_parts"] Gs:=by
 have G_l_over:=#[(uA)]
 have G_l_above:=#[(nN)]
 refine T.l_much_along_.F.ok d9 (fun vs H Q E h=>?_) (fun cdv A outer s H vs Q E hr h=>?_)
 ·obtain ⟨F,fs,xs,a,b,rfl,_⟩:=h
  rfl
 ·obtain ⟨F,fs,xs,a,b,rfl,hF,iF,l1,gx,ha,hb,k⟩:=h
  have lfs:fs.length=xs.length:=by rw [iF.length,List.length_map]
  refine ⟨_,#[#[1,d9.nd,bR,#[cR 3]] :: #[#[cC 8 PassesOwn.never rfl (@br _ (K) _ _ _ #[0,pH] (by rfl)) (@bM _ (K) _ _ _ _ (2) rfl #[aj 5 #[2,d9.nd,kd] #[aj 5 #[3,d9.nd,kc] (@bK _) (by rfl)] (by rfl)] (by rfl) (by rfl) (by rfl)) #[#[4,d9.nd,gX,#[G_l_over,p9,T.l_over_,#[[#[#[2,kd][#[()]]],#[3,kc]]]]] :: #[ac 3 #[1,d9.nd,bR,#[hU 8 #[PW.pt 3 #[iX 7 #[ap 8 (@wE _) #[1,bR] #[cR 3] #[(),()]] #[jQ 4 #[ap 8 (@lM _) #[G_l_above,pX,T.l_above_,#[[#[1,bR],#[4,gX]]]] #[()] #[(),()]]]]] #[4,gX] #[1,bR]]]]] (by intro _;rfl)] :: #[ac 3 #[aw 4 #[1,bR]]]]],?_⟩
  refine bT fun Q1 nA=>nA _ _ ?_
  refine aT fun DB nB=>?_
  refine ⟨(),F,rfl,⟨_,ah.of hF⟩,jm (xs:=fs) (fun i σ H'=>tQ fun v1 v2 v3 v4=>σ=[some (.ref F),some v1,v2,v3,v4]∧(i=0→v1=.non)∧(1≤i→aZ fun o z=>v1=.ref o∧H' o=some (fr z)∧Gb (a+55) (b+55) z)∧ad H H') ⟨.non,_,_,(),(fun _=>rfl),(fun z=>by trivial),ad.refl _⟩ ?_ ?_ ?_⟩
  ·rintro i σ H' _ ⟨_,_,_,_,_,_,_,sm⟩
   exact ah.of (sm _ _ hF)
  ·rintro i x σ J hx ⟨v1,v2,v3,v4,rfl,hz,hnz,sm⟩
   obtain ⟨dx,edx,gs⟩:=iF.get hx
   rw [List.getElem?_map] at edx
   obtain ⟨pr,epr,rfl⟩:=Option.map_eq_some_iff.mp edx
   have pc:=gx pr (List.mem_of_getElem? epr)
   obtain ⟨T2,o,p,rfl,hT2,gst,hp⟩:=DR gs
   obtain ⟨o',orr,og,eo,ho,hor,hog⟩:=bA gst
   cases eo
   refine ⟨T2,(),ag.of (sm _ _ hT2),rfl,_,(),_,(),rfl,?_⟩
   dsimp only
   refine bT fun Q2 nA2=>⟨(),o,_,_,(),rfl,ag.of (sm _ _ ho),rfl,(),orr,p,pr.1.room,pr.2,_,_,_,(),sm _ _ hor,sm _ _ hp,pc.r,pc.p,by trivial,by trivial,by decide,by decide,(fun _=>pc.p1),fun q J2 n2=>nA2 _ _ ?_⟩
   have gq:Gb (a+55) (b+55) (eI pr.1.room pr.2):=pc.r.ovr pc.p pc.p1 (by trivial) (by trivial)
   have fin:∀J' v,ad J2 J'→(aZ fun o z=>v=.ref o∧J' o=some (fr z)∧Gb (a+55) (b+55) z)→tQ fun v1 v2 v3 v4=>[some (V.ref F),some v,some (.ref o),some (.ref p),some (.ref q)]=[some (.ref F),some v1,v2,v3,v4]∧(i+1=0→v1=.non)∧(1≤i+1→aZ fun o z=>v1=.ref o∧J' o=some (fr z)∧Gb (a+55) (b+55) z)∧ad H J':=fun J' v sJ hv=>⟨v,_,_,(),(fun z=>by trivial),(fun _=>hv),(sm.trans n2.sm).trans sJ⟩
   by_cases h0:i=0
   ·obtain rfl:=hz h0
    refine ⟨(),rfl,(),?_⟩
    refine bF (bF ⟨(),?_⟩)
    exact fin J2 _ (ad.refl _) ⟨q,(),n2.at',gq⟩
   ·obtain ⟨oz,z,rfl,hoz,gz'⟩:=hnz (by trivial)
    refine ⟨(),rfl,(),?_⟩
    refine aR ⟨(),(),oz,q,z,(),n2.sm _ _ hoz,n2.at',gz'.n.mono (by trivial),gz'.d.mono (by trivial),gq.n.mono (by trivial),gq.d.mono (by trivial),_,(),rfl,(),eV (fun c=>⟨(),?_⟩) (fun c=>⟨(),?_⟩)⟩
    ·exact fin J2 _ (ad.refl _) ⟨q,(),n2.at',gq⟩
    ·exact fin J2 _ (ad.refl _) ⟨oz,z,rfl,n2.sm _ _ hoz,gz'⟩
  ·rintro σ J ⟨v1,v2,v3,v4,rfl,hz,hnz,sm⟩
   obtain ⟨o,z,rfl,ho,gz'⟩:=hnz (by trivial)
   exact nB _ _ ⟨(),k o z J sm ho gz'⟩
end
end K18
namespace K18
open PySem L2
set_option maxHeartbeats 4000000
theorem Gi {n j:Nat} (h:j<n):o5 n (j:Int)=some j:=by
 unfold o5
 simp [h]
section
variable {P:Program}{w:World}{K:PySem.W.Frag}{mg:Str→Option Value}{base:Heap}
inductive HL (vs:List V) (H:Hp) (Q:VK):Prop
 | mk (sa F mo:Addr) (ys fs:List V) (ps:List KM.Fra) (xs:List (SD×KM.Fra)) (mz:KM.Fra) (a1 b1 a2 b2 a b e f:Nat) (h0:vs=[.ref sa,.ref F,.ref mo]) (h1:H sa=some (.lst ys)) (h2:ae ED H ys (ps.map cM)) (h3:H F=some (.lst fs)) (h4:ae ED H fs (xs.map AH)) (h5:(∀x∈xs,IY a b x)) (h6:(∀x∈xs,x.1.n<ps.length)) (h7:(xs.map (·.1.n)).Nodup) (h8:H mo=some (fr mz)) (h9:Gb a2 b2 mz) (h10:(∀p∈ps,Gb a1 b1 p)) (h11:a1≤2000) (h12:b1≤2000) (h13:a2≤2000) (h14:b2≤2000) (h15:a1+(b2+61)<e) (h16:(a2+61)+b1<e) (h17:b1+(b2+61)≤f) (h18:ps.length≤40) (h19:∀(L:Addr) (ys':List V) (ps':List KM.Fra) (H':Hp),ad H H'→H L=none→H' L=some (.lst ys')→ae ED H' ys' (ps'.map cM)→ps'.length=ps.length→(∀p∈ps',Gb e f p)→Q (.ref L) H')
def Jv:Sp:=fun vs H Q _=>HL  vs H Q
theorem Fm (T:Txt K mg):aY P w K mg base CX0 3 T.l_put_.f T.l_put_.d ["_law_stream", "_law_parts", "_law_much"] Jv:=by
 have G_l_product:=#[(e7)]
 have G_l_minus:=#[(xg)]
 have G_l_sum:=#[(Fl)]
 refine T.l_put_.F.ok oM (fun vs H Q E h=>?_) (fun cdv A outer s H vs Q E hr h=>?_)
 ·obtain ⟨sa,F,mo,ys,fs,ps,xs,mz,a1,b1,a2,b2,a,b,e,f,rfl,_⟩:=h
  rfl
 ·obtain ⟨sa,F,mo,ys,fs,ps,xs,mz,a1,b1,a2,b2,a,b,e,f,rfl,hsa,iys,hF,iF,px,nx,nd,hmo,gm,gp,ha1,hb1,ha2,hb2,he1,he2,hf,hps,k⟩:=h
  have lys:ys.length=ps.length:=by rw [iys.length,List.length_map]
  have lfs:fs.length=xs.length:=by rw [iF.length,List.length_map]
  refine ⟨_,#[#[3,oM.nd,eZ,#[cu 9 (@sw _ (K) (by rfl)) zQ T.b_list (@jv) #[[#[0,ww]]] (by decide) (by decide) (by rfl) (by rfl)]] :: #[#[cC 8 PassesOwn.never rfl (@br _ (K) _ _ _ #[1,wX] (by rfl)) (@bM _ (K) _ _ _ _ (2) rfl #[aj 5 #[4,oM.nd,dC] #[aj 5 #[5,oM.nd,qz] (@bK _) (by rfl)] (by rfl)] (by rfl) (by rfl) (by rfl)) #[#[6,oM.nd,lG,#[G_l_product,nq,T.l_product_,#[[#[2,xA],#[5,qz]]]]] :: #[ac 3 #[bh 8 #[jx 3 #[#[4,dC][#[()]]] (by intro _;rfl)] #[ac 3 #[cW 6 #[G_l_minus,wL,T.l_minus_,#[[#[#[3,eZ][#[#[4,dC][#[()]]]]!],#[G_l_product,nq,T.l_product_,#[[#[6,lG],#[#[4,dC][#[()]]]]]]]]] #[kP 7 #[3,eZ] #[#[4,dC][#[()]]] (@yF _) (by intro _;rfl)] (by rfl) (by rfl) (by rfl)]] #[ac 3 #[cW 6 #[G_l_sum,y7,T.l_sum_,#[[#[#[3,eZ][#[#[4,dC][#[()]]]]!],#[6,lG]]]] #[kP 7 #[3,eZ] #[#[4,dC][#[()]]] (@yF _) (by intro _;rfl)] (by rfl) (by rfl) (by rfl)]]]]] (by intro _;rfl)] :: #[ac 3 #[aw 4 #[3,eZ]]]]],?_⟩
  refine bT fun Q1 nA=>⟨(),sa,(),.inl (ah.of hsa),fun L H1 n1=>nA _ _ ?_⟩
  refine aT fun DB nB=>?_
  refine ⟨(),F,rfl,⟨_,ah.of (n1.sm _ _ hF)⟩,jm (xs:=fs) (fun i σ H'=>A3 fun (v4 v5 v6:Option V) (ys':List V) (ps':List KM.Fra)=>σ=[some (.ref sa),some (.ref F),some (.ref mo),some (.ref L),v4,v5,v6]∧H' L=some (.lst ys')∧ae ED H' ys' (ps'.map cM)∧ps'.length=ps.length∧(∀p∈ps',Gb e f p)∧(∀(j:Nat),(∀x∈xs.take i,x.1.n≠j)→ps'[j]?=ps[j]?)∧ad H H') ⟨_,_,_,ys,ps,rfl,n1.at',iys.mono n1.sm.toE,rfl,(fun p hp=>(gp p hp).mono (by trivial) (by trivial)),(fun j _=>rfl),n1.sm⟩ ?_ ?_ ?_⟩
  ·rintro i σ H' _ ⟨_,_,_,_,_,_,_,_,_,_,_,sm⟩
   exact ah.of (sm _ _ hF)
  ·rintro i x σ J hx ⟨v4,v5,v6,ys',ps',rfl,hL,iL,lL,gL,sL,sm⟩
   have hi:i<fs.length:=(List.getElem?_eq_some_iff.mp hx).1
   obtain ⟨dx,edx,gs⟩:=iF.get hx
   rw [List.getElem?_map] at edx
   obtain ⟨pr,epr,rfl⟩:=Option.map_eq_some_iff.mp edx
   have mpr:=List.mem_of_getElem? epr
   have pc:=px pr mpr
   have pn:=nx pr mpr
   obtain ⟨T2,o,p,rfl,hT2,gst,hp⟩:=DR gs
   obtain ⟨o',orr,og,eo,ho,hor,hog⟩:=bA gst
   cases eo
   have fresh:∀x∈xs.take i,x.1.n≠pr.1.n:=fun x hx' z=>by
    obtain ⟨j,hj⟩:=List.getElem?_of_mem hx'
    have hji:j<i:=by
     have:=(List.getElem?_eq_some_iff.mp hj).1
     rw [List.length_take] at this
     trivial
    rw [List.getElem?_take,if_pos hji] at hj
    have hl1:=(List.getElem?_eq_some_iff.mp hj).1
    have hl2:=(List.getElem?_eq_some_iff.mp epr).1
    have z':=jk (ls:=xs.map (·.1.n)) nd (i:=j) (j:=i) (by rw [List.length_map];exact hl1) (by rw [List.length_map];exact hl2) (by
     rw [List.getElem_map,List.getElem_map,(List.getElem?_eq_some_iff.mp hj).2,(List.getElem?_eq_some_iff.mp epr).2];exact z)
    trivial
   have eq0:=sL pr.1.n fresh
   obtain ⟨q0,eq1⟩:∃q0,ps[pr.1.n]?=some q0:=⟨_,List.getElem?_eq_getElem pn⟩
   rw [eq1] at eq0
   have gq0:=gp q0 (List.mem_of_getElem? eq1)
   have lY:ys'.length=ps.length:=by rw [iL.length,List.length_map,lL]
   obtain ⟨yv,ey⟩:∃yv,ys'[pr.1.n]?=some yv:=⟨_,List.getElem?_eq_getElem (by trivial)⟩
   have gy:=iL.nth pr.1.n ey (by rw [List.getElem?_map,eq0];rfl)
   obtain ⟨oy,rfl,hoy⟩:=iG gy
   refine ⟨T2,(),ag.of (sm _ _ hT2),rfl,_,(),_,(),rfl,?_⟩
   dsimp only
   refine bT fun Q2 nA2=>⟨(),(),mo,p,mz,pr.2,_,_,_,(),sm _ _ hmo,sm _ _ hp,gm,pc.p,by trivial,by trivial,by decide,by decide,(fun z=>by cases z),fun q J2 n2=>nA2 _ _ ?_⟩
   have gq:Gb (a2+55) (b2+55) (KM.lTim mz pr.2):=gm.tim pc.p (by trivial) (by trivial)
   have s2:=sm.trans n2.sm
   have hL2:=n2.sm _ _ hL
   have ho2:=s2 _ _ ho
   have fin:∀(w:Addr) (z:KM.Fra) (J' J'':Hp),ad J2 J'→J' w=some (fr z)→Gb e f z→Ch J' L (ys'.set pr.1.n (.ref w)) J''→A3 fun (v4 v5 v6:Option V) (ys':List V) (ps':List KM.Fra)=>[some (V.ref sa),some (.ref F),some (.ref mo),some (.ref L),some (.ref o),some (.ref p),some (.ref q)]=[some (.ref sa),some (.ref F),some (.ref mo),some (.ref L),v4,v5,v6]∧J'' L=some (.lst ys')∧ae ED J'' ys' (ps'.map cM)∧ps'.length=ps.length∧(∀p∈ps',Gb e f p)∧(∀(j:Nat),(∀x∈xs.take (i+1),x.1.n≠j)→ps'[j]?=ps[j]?)∧ad H J'':=fun w z J' J'' s' hw gw c'=>by
    have hL':=s' _ _ hL2
    refine ⟨_,_,_,_,ps'.set pr.1.n z,rfl,c'.at',?_,by rw [List.length_set,lL],fun p hp=>?_,fun j hj=>?_,ad.ch (s2.trans s') c' n1.fr⟩
    ·have:(ps'.set pr.1.n z).map cM=(ps'.map cM).set pr.1.n (cM z):=by rw [List.map_set]
     rw [this]
     have i':ae ED J' ys' (ps'.map cM):=(iL.mono n2.sm.toE).mono s'.toE
     exact (i'.set (fY hw) pr.1.n).mono ⟨fun _ _ n _=>absurd trivial n,fun _ _ e=>c'.tup e hL'⟩
    ·rcases List.mem_or_eq_of_mem_set hp with h | h
     ·exact gL p h
     ·rw [h];exact gw
    ·have n1':pr.1.n≠j:=hj pr (by rw [List.take_succ,epr];simp)
     rw [List.getElem?_set_ne n1']
     exact sL j fun x hx'=>hj x (by rw [List.take_succ];exact List.mem_append_left _ hx')
   have ixn:o5 ys'.length (pr.1.n:Int)=some pr.1.n:=Gi (by trivial)
   refine ⟨(),o,_,_,(),rfl,ag.of ho2,rfl,?_⟩
   cases hbk:pr.1.bk with
   | true=>
    refine ⟨(),bF ?_⟩
    refine ⟨(),(),o,_,_,(),rfl,ag.of ho2,rfl,L,_,_,(),rfl,ah.of hL2,cv ey,(),(),o,_,_,(),rfl,ag.of ho2,rfl,q,og,_,pr.1.gain,_,_,_,(),n2.at',s2 _ _ hog,gq,pc.g,by trivial,by trivial,by decide,by decide,(fun z=>by cases z),fun q3 J3 n3=>?_⟩
    have gz3:Gb (a2+61) (b2+61) (KM.lTim (KM.lTim mz pr.2) pr.1.gain):=gq.tim pc.g (by trivial) (by trivial)
    refine ⟨oy,q3,q0,_,_,_,_,(),n3.sm _ _ (n2.sm _ _ hoy),n3.at',gq0,gz3,by trivial,by trivial,by trivial,by trivial,(fun z=>by cases z),fun q4 J4 n4=>?_⟩
    have s4:=n3.sm.trans n4.sm
    refine ⟨(),(),o,_,_,(),rfl,ag.of (s4 _ _ ho2),rfl,L,ys',_,pr.1.n,rfl,rfl,s4 _ _ hL2,ixn,fun J5 c5=>fin q4 _ J4 J5 s4 n4.at' ?_ c5⟩
    exact gq0.min gz3 (by trivial) (by trivial) (by trivial)
   | false=>
    refine ⟨(),aR ?_⟩
    refine ⟨(),(),o,_,_,(),rfl,ag.of ho2,rfl,L,_,_,(),rfl,ah.of hL2,cv ey,(),oy,q,q0,_,_,_,_,(),n2.sm _ _ hoy,n2.at',gq0,gq,by trivial,by trivial,by trivial,by trivial,(fun z=>by cases z),fun q4 J4 n4=>?_⟩
    refine ⟨(),(),o,_,_,(),rfl,ag.of (n4.sm _ _ ho2),rfl,L,ys',_,pr.1.n,rfl,rfl,n4.sm _ _ hL2,ixn,fun J5 c5=>fin q4 _ J4 J5 n4.sm n4.at' ?_ c5⟩
    exact gq0.add gq (by trivial) (by trivial) (by trivial)
  ·rintro σ J ⟨v4,v5,v6,ys',ps',rfl,hL,iL,lL,gL,sL,sm⟩
   exact nB _ _ ⟨(),k L ys' ps' J sm n1.fr hL iL lL gL⟩
end
end K18
namespace K18
open PySem L2
set_option maxHeartbeats 4000000
theorem vK {α:Type} (n:Nat) (x:α):(List.replicate n [x]).flatten=List.replicate n x:=by
 induction n with
 | zero=>rfl
 | succ n ih=>rw [List.replicate_succ,List.flatten_cons,ih,List.replicate_succ];rfl
theorem yq {E:Addr→Prop}{H:Hp}{v:V}{d:PyData} (h:aM E H v d):∀n,ae E H (List.replicate n v) (List.replicate n d)
 | 0=>.nil
 | n+1=>.cons h (yq h n)
def nb:Nat→Nat
 | 0=>1
 | 1=>141
 | 2=>392
 | 3=>893
 | _=>1894
def db:Nat→Nat
 | 0=>1
 | 1=>126
 | 2=>376
 | 3=>876
 | _=>1876
def rn (i:Nat):Nat:=max (21+db i) (nb i+6)
def rd (i:Nat):Nat:=db i+6
theorem bits {i:Nat} (h:i<4):nb i≤nb (i+1)∧db i≤db (i+1)∧nb i≤1894∧db i≤1876∧nb i+(rd i+57+61)<nb (i+1)∧(rn i+56+61)+db i<nb (i+1)∧db i+(rd i+57+61)≤db (i+1)∧rn i≤1900∧rd i≤1900:=by
 obtain rfl | rfl | rfl | rfl:i=0∨i=1∨i=2∨i=3:=by trivial
 all_goals decide
theorem F6 {i:Nat} (h:i≤4):nb i≤1894∧db i≤1876:=by
 obtain rfl | rfl | rfl | rfl | rfl:i=0∨i=1∨i=2∨i=3∨i=4:=by trivial
 all_goals decide
theorem qd {α:Type}{ls:List α} (nd:ls.Nodup) {i j:Nat}{x:α} (h1:ls[i]?=some x) (h2:ls[j]?=some x):i=j:=by
 obtain ⟨a1,e1⟩:=List.getElem?_eq_some_iff.mp h1
 obtain ⟨a2,e2⟩:=List.getElem?_eq_some_iff.mp h2
 exact jk nd a1 a2 (e1.trans e2.symm)
structure Hl (ls:List (List Nat)) (ts:List aI) (a b:Nat) (s:SD):Prop where
 n:s.n<ts.length
 e:s.en∈ls
 w:∃t,ts[s.n]?=some t∧t.bg≠t.en∧((s.st=t.bg∧s.en=t.en)∨(s.st=t.en∧s.en=t.bg))
 r:Gb a b s.room
 g:Gb 6 6 s.gain
 g1:1≤s.gain.1
theorem Kn {g:KM.Fra} (h:Gb 6 6 g) (h1:1≤g.1):Gb 6 6 (eI (1,1) g)∧1≤(eI (1,1) g).1:=by
 have e:eI (1,1) g=KM.low (1*g.2) (1*g.1):=rfl
 refine ⟨?_,AX (by decide) (by decide) h1 h.pos⟩
 rw [e,Int.one_mul,Int.one_mul]
 exact ma h.d h.n (by trivial)
theorem AJ {ls:List (List Nat)}{ts:List aI}{ps:List KM.Fra}{a b c d:Nat} (tc:∀t∈ts,qh ls t) (gp:∀p∈ps,Gb a b p) (h1:21+b≤c) (h2:a+6≤c) (h3:b+6≤d):∀s∈aQ ts ps ts.length,Hl ls ts c d s:=by
 intro s hs
 unfold aQ at hs
 obtain ⟨j,hj,hs⟩:=List.mem_flatMap.mp hs
 have hj':=List.mem_range.mp hj
 have et:=List.getElem?_eq_getElem hj'
 unfold lC at hs
 rw [et] at hs
 cases ep:ps[j]? with
 | none=>rw [ep] at hs;cases hs
 | some p=>
  rw [ep] at hs
  have tt:=tc _ (List.mem_of_getElem? et)
  have pp:=gp p (List.mem_of_getElem? ep)
  generalize ts[j]=t at hs tt et
  unfold dq at hs
  rcases List.mem_append.mp hs with q | q
  ·by_cases c1:p.1*t.most.2<t.most.1*p.2
   ·rw [if_pos c1] at q
    rw [List.mem_singleton.mp q]
    exact ⟨hj',tt.e,⟨t,et,tt.ne,.inl ⟨rfl,rfl⟩⟩,tt.fm.min pp (by trivial) (by trivial) (by trivial),tt.fg,tt.g1⟩
   ·rw [if_neg c1] at q;cases q
  ·by_cases c1:0<p.1
   ·rw [if_pos c1] at q
    rw [List.mem_singleton.mp q]
    have o:=Kn tt.fg tt.g1
    exact ⟨hj',tt.b,⟨t,et,tt.ne,.inr ⟨rfl,rfl⟩⟩,pp.tim tt.fg (by trivial) (by trivial),o.1,o.2⟩
   ·rw [if_neg c1] at q;cases q
theorem Dp {ls:List (List Nat)}{ts:List aI}{a b:Nat}{f e:List Nat}{ss cs:List SD} (hs:∀s∈ss,Hl ls ts a b s) (h:KU f e ls ss cs):(cs.map SD.n).Nodup:=by
 have P1:∀(i:Nat) c,cs[i]?=some c→(cs.map SD.st++[e])[i]?=some c.st:=fun i c hc=>by
  have:=(List.getElem?_eq_some_iff.mp hc).1
  rw [List.getElem?_append_left (by rw [List.length_map];exact this),List.getElem?_map,hc];rfl
 have P2:∀(i:Nat) c,cs[i]?=some c→(cs.map SD.st++[e])[i+1]?=some c.en:=fun i c hc=>by
  rw [←h.p,List.getElem?_cons_succ,List.getElem?_map,hc];rfl
 rw [List.nodup_iff_pairwise_ne,List.pairwise_iff_getElem]
 intro i j hi hj hij z
 rw [List.length_map] at hi hj
 have ei:=List.getElem?_eq_getElem hi
 have ej:=List.getElem?_eq_getElem hj
 rw [List.getElem_map,List.getElem_map] at z
 obtain ⟨t,e1,ne,w1⟩:=(hs _ (h.m _ (List.mem_of_getElem? ei))).w
 obtain ⟨t2,e2,_,w2⟩:=(hs _ (h.m _ (List.mem_of_getElem? ej))).w
 rw [z,e2] at e1
 cases e1
 have a1:=P1 i _ ei
 have a2:=P2 i _ ei
 have b1:=P1 j _ ej
 have b2:=P2 j _ ej
 rcases w1 with ⟨q1,q2⟩ | ⟨q1,q2⟩ <;> rcases w2 with ⟨q3,q4⟩ | ⟨q3,q4⟩
 ·rw [q1] at a1;rw [q3] at b1;have:=qd h.nd a1 b1;trivial
 ·rw [q1] at a1;rw [q4] at b2;have:=qd h.nd a1 b2;trivial
 ·rw [q1] at a1;rw [q4] at b2;have:=qd h.nd a1 b2;trivial
 ·rw [q1] at a1;rw [q3] at b1;have:=qd h.nd a1 b1;trivial
section
variable {P:Program}{w:World}{K:PySem.W.Frag}{mg:Str→Option Value}{base:Heap}
inductive Ih (vs:List V) (H:Hp) (Q:VK):Prop
 | mk (b:Addr) (v:V) (ls:List (List Nat)) (ts:List aI) (f e:List Nat) (t:Int) (h0:vs=[.ref b,v,.str (S f),.str (S e)]) (h1:Bx H b t) (h2:0≤t) (h3:t≤800000) (h4:aM ED H v (gF ls ts)) (h5:(∀t∈ts,qh ls t)) (h6:ts.length≤40) (h7:f∈ls) (h8:f≠e) (h9:ls.length≤10) (h10:∀(L:Addr) (ys:List V) (ps:List KM.Fra) (t':Int) (H':Hp),aq (Eb b) H H'→Bx H' b t'→t≤t'→t'≤t+5000→H L=none→H' L=some (.lst ys)→ae ED H' ys (ps.map cM)→ps.length=ts.length→(∀p∈ps,Gb 1894 1876 p)→Q (.ref L) H')
def Kq:Sp:=fun vs H Q _=>Ih  vs H Q
theorem xK (T:Txt K mg):aY P w K mg base CX0 4 T.l_stream_by_.f T.l_stream_by_.d ["_law_box_here", "_law_net", "_law_begin", "_law_end"] Kq:=by
 have G_l_take:=#[(jA)]
 have G_l_steps_of:=#[(mI)]
 have G_l_course_by:=#[(xM)]
 have G_l_parts_on:=#[(y3)]
 have G_l_much_along:=#[(xn)]
 have G_l_product:=#[(e7)]
 have G_l_put:=#[(Fm)]
 refine T.l_stream_by_.F.ok dz (fun vs H Q E h=>?_) (fun cdv A outer s H vs Q E hr h=>?_)
 ·obtain ⟨b,v,ls,ts,f,e,t,rfl,_⟩:=h
  rfl
 ·obtain ⟨b,v,ls,ts,f,e,t,rfl,B0,ht0,ht1,hv,tc,h40,fls,fe,lls,k⟩:=h
  obtain ⟨na,pa,ta,tys,rfl,hna,hpa,hta,ity⟩:=jf hv
  have lty:tys.length=ts.length:=by rw [ity.length,List.length_map]
  refine ⟨_,#[#[4,dz.nd,cz,#[ai 8 (@xU _) #[aL 4 #[[#[ak 5 #[[#[()],#[()]]]]]]] #[(),(),(@bX _ (K) (by rfl)),vj,T.b_len,(@aF),#[[#[#[1,kY][#[()]]]]]]]] :: #[#[cC 8 PassesOwn.never rfl #[eX 6 sW T.b_range #[[#[G_l_take,kO,T.l_take_,#[[#[0,e8],#[()]]]]]] (by rfl)] #[5,dz.nd,qK] #[#[6,dz.nd,gj,#[G_l_course_by,nt,T.l_course_by_,#[[#[0,e8],#[G_l_steps_of,oR,T.l_steps_of_,#[[#[1,kY],#[4,cz]]]],#[2,qI],#[3,sT],#[aL 4 (@bc _)]]]]] :: #[ac 3 #[bh 8 #[ap 8 (@xx _) #[6,gj] #[cR 3] #[(),()]] #[#[7,dz.nd,gK,#[#[G_l_parts_on,oJ,T.l_parts_on_,#[[#[6,gj],#[ak 5 #[[#[()],#[()]]]]]]][#[()]]]] :: #[#[8,dz.nd,j8,#[#[aL 4 #[[#[ak 5 #[[#[()],#[()]]]],#[ak 5 #[[#[()],#[()]]]],#[ak 5 #[[#[()],#[()]]]],#[ak 5 #[[#[()],#[()]]]]]]][#[G_l_take,kO,T.l_take_,#[[#[0,e8],#[()]]]]]!]] :: #[ac 3 #[4,dz.nd,cz,#[G_l_put,sI,T.l_put_,#[[#[4,cz],#[7,gK],#[G_l_product,oY,T.l_product_,#[[#[G_l_much_along,mN,T.l_much_along_,#[[#[7,gK]]]],#[8,j8]]]]]]]]]]] (@aK _)]]] (by intro _;rfl)] :: #[ac 3 #[aw 4 #[4,cz]]]]],?_⟩
  refine bT fun Q1 nA=>⟨(by show 2≤10000;decide),fun o0 H1 n1=>⟨(by show 1≤10000;decide),fun l0 H2 n2=>⟨(),na,_,_,(),rfl,ag.of (n2.sm _ _ (n1.sm _ _ hna)),rfl,ta,(),.inr (ag.of (n2.sm _ _ (n1.sm _ _ hta))),l0,_,(),rfl,n2.at',by trivial,by trivial,by simp;trivial,fun L0 H3 n3=>nA _ _ ?_⟩⟩⟩
  have s3:=(n1.sm.trans n2.sm).trans n3.sm
  have B3:=B0.same s3
  have ho0:=n3.sm _ _ (n2.sm _ _ n1.at')
  have hL0:H3 L0=some (.lst (List.replicate ts.length (.ref o0))):=by
   have:=n3.at'
   rw [vK,lty,Int.toNat_natCast] at this
   exact this
  have iL0:ae ED H3 (List.replicate ts.length (.ref o0)) ((List.replicate ts.length (0,1)).map cM):=by
   rw [List.map_replicate]
   exact yq (fY (p:=(0,1)) ho0) _
  have fL0:=(n1.sm.trans n2.sm).free n3.fr
  refine aT fun DB nB=>?_
  refine ⟨(),b,5,t,rfl,B3,by decide,by decide,ht0,by trivial,fun r t1 H4 r0 r1 h1a h1b s4 B4=>⟨r,rfl,by trivial,by trivial,?_⟩⟩
  have nLb:∀{L:Addr},H L=none→¬L=b:=fun h z=>B0.ne h z.symm
  refine j6 (fun i σ H'=>Jf fun (L:Addr) (ys:List V) (ps:List KM.Fra) (v5 v6 v7 v8:Option V) (t':Int)=>σ=[some (.ref b),some (.ref na),some (.str (S f)),some (.str (S e)),some (.ref L),v5,v6,v7,v8]∧H' L=some (.lst ys)∧ae ED H' ys (ps.map cM)∧ps.length=ts.length∧(∀p∈ps,Gb (nb i) (db i) p)∧Bx H' b t'∧t≤t'∧t'≤t1+905*i∧aq (Eb b) H H'∧H L=none) ⟨L0,_,List.replicate ts.length (0,1),_,_,_,_,t1,rfl,s4.old L0 _ (nLb fL0) hL0,iL0.tupS s4,by simp,?_,B4,by trivial,by trivial,s3.toE.trans s4,fL0⟩ ?_ ?_
  ·intro p hp
   rw [List.eq_of_mem_replicate hp]
   exact ⟨show (0:Int).natAbs<2 ^ 1 by decide,show (1:Int).natAbs<2 ^ 1 by decide,by decide⟩
  ·rintro i σ J hi ⟨L,ys,ps,v5,v6,v7,v8,t',rfl,hL,iL,lps,gp,B,ht2,ht3,sE,fL⟩
   obtain ⟨b1,b2,b3,b4,b5,b6,b7,b8,b9⟩:=bits (show i<4 by trivial)
   refine nz (t:=jH _ _) fun DC nC=>?_
   refine bT fun Q2 nA2=>?_
   refine ⟨(),(),(),.ref na,L,ls,ts,ys,ps,nb i,db i,rfl,hv.tupS (F:=ED) sE,tc,h40,hL,iL,lps,gp,by trivial,by trivial,fun SA zs J1 s1 fSA hSA iSA=>⟨(),(),(by show 0≤10000;decide),fun ba J2 n2=>?_⟩⟩
   have s2:=s1.trans n2.sm
   have B2:=B.same s2
   have sc:=AJ (c:=rn i) (d:=rd i) tc gp (by unfold rn;trivial) (by unfold rn;trivial) (Nat.le_refl _)
   have nL:=nLb fL
   refine ⟨b,SA,ba,f,e,zs,aQ ts ps ts.length,ls,[],t',rfl,B2,by trivial,by trivial,(fun z=>B.ne fSA z.symm),n2.sm _ _ hSA,iSA.mono n2.sm.toE,Nat.le_trans (fU ts ps _) (by trivial),n2.at',by decide,fls,fun s hs=>(sc s hs).e,lls,fun t3 J3 s3 B3 h3a h3b=>nA2 _ _ ?_,fun C czs cs t3 J3 s3 B3 h3a h3b nCb hC iC coc=>nA2 _ _ ?_⟩
   ·have sJ:=s2.toE.trans s3
    exact ⟨(),rfl,(),aR (nC _ _ ⟨L,ys,ps,_,_,_,_,t3,rfl,sJ.old L _ nL hL,iL.tupS sJ,lps,fun p hp=>(gp p hp).mono b1 b2,B3,by trivial,by trivial,sE.trans sJ,fL⟩)⟩
   have sJ:=s2.toE.trans s3
   have hL3:=sJ.old L _ nL hL
   have iL3:=iL.tupS sJ
   have cok:∀c∈cs,Hl ls ts (rn i) (rd i) c:=fun c hc=>sc c (coc.m c hc)
   have lcs:1≤cs.length:=by
    cases cs with
    | nil=>exact absurd (List.cons.inj coc.p).1 fe
    | cons=>simp
   refine ⟨(),rfl,(),bF ?_⟩
   refine bT fun Q3 nA3=>⟨(),(by show 2≤10000;decide),fun po J4 n4=>⟨C,po,czs,cs,rfl,n4.sm _ _ hC,iC.mono n4.sm.toE,by have:=coc.l;trivial,(fun c hc=>⟨(cok c hc).g,(cok c hc).g1⟩),n4.at',fun T5 F q5 fs xs J5 s5 hT5 fF hF iF exs gxs=>⟨T5,_,_,(),rfl,ag.of hT5,rfl,nA3 _ _ ?_⟩⟩⟩
   have s45:=n4.sm.trans s5
   have nFb:¬F=b:=fun z=>(B3.same n4.sm).ne fF z.symm
   have mxs:∀x∈xs,x.1∈cs:=fun x hx=>by rw [←exs];exact List.mem_map_of_mem hx
   have px:∀x∈xs,IY (rn i) (rd i) x:=fun x hx=>⟨(cok _ (mxs x hx)).r,(cok _ (mxs x hx)).g,(cok _ (mxs x hx)).g1,(gxs x hx).1,(gxs x hx).2⟩
   have lxs:xs.length=cs.length:=by rw [←exs,List.length_map]
   have ndx:(xs.map (·.1.n)).Nodup:=by
    have:=Dp sc coc
    rw [←exs,List.map_map] at this
    exact this
   have B5:=B3.same s45
   refine bT fun Q4 nA4=>⟨(by show 2≤10000;decide),fun u1 K1 m1=>⟨(by show 2≤10000;decide),fun u2 K2 m2=>⟨(by show 2≤10000;decide),fun u3 K3 m3=>⟨(by show 2≤10000;decide),fun u4 K4 m4=>⟨(by show 4≤10000;decide),fun l5 K5 m5=>⟨(),b,4,t3,rfl,B5.same ((((m1.sm.trans m2.sm).trans m3.sm).trans m4.sm).trans m5.sm),by decide,by decide,by trivial,by trivial,fun r6 t6 K6 r60 r61 h6a h6b s6 B6=>?_⟩⟩⟩⟩⟩⟩
   have sm:=(((m1.sm.trans m2.sm).trans m3.sm).trans m4.sm).trans m5.sm
   have nl5:¬l5=b:=fun z=>(B5.same (((m1.sm.trans m2.sm).trans m3.sm).trans m4.sm)).ne m5.fr z.symm
   have hl5:=s6.old l5 _ nl5 m5.at'
   have t1':∀{u:Addr}{us:List V},K5 u=some (.tup us)→K6 u=some (.tup us):=fun h=>s6.tup _ _ h
   obtain ⟨so,z,eso,hso,gz'⟩:aZ fun so z=>ik [V.ref u1,V.ref u2,V.ref u3,V.ref u4] r6=some (.ref so)∧K6 so=some (fr z)∧Gb 1 2 z:=by
    have g12:∀{d:Int},1≤d→d<4→Gb 1 2 (1,d):=fun h h'=>⟨show (1:Int).natAbs<2 ^ 1 by decide,(by show Int.natAbs _<4;trivial),h⟩
    obtain rfl | rfl | rfl | rfl:r6=0∨r6=1∨r6=2∨r6=3:=by trivial
    ·exact ⟨u1,(1,1),rfl,t1' (m5.sm _ _ (m4.sm _ _ (m3.sm _ _ (m2.sm _ _ m1.at')))),g12 (by decide) (by decide)⟩
    ·exact ⟨u2,(1,1),rfl,t1' (m5.sm _ _ (m4.sm _ _ (m3.sm _ _ m2.at'))),g12 (by decide) (by decide)⟩
    ·exact ⟨u3,(1,2),rfl,t1' (m5.sm _ _ (m4.sm _ _ m3.at')),g12 (by decide) (by decide)⟩
    ·exact ⟨u4,(1,3),rfl,t1' (m5.sm _ _ m4.at'),g12 (by decide) (by decide)⟩
   refine ⟨l5,_,_,(),rfl,ah.of hl5,eso,nA4 _ _ ?_⟩
   have sF:aq (Eb b) J5 K6:=sm.toE.trans s6
   have hF6:=sF.old F _ nFb hF
   have iF6:=iF.tupS sF
   have s36:aq (Eb b) J3 K6:=s45.toE.trans sF
   have hL6:=s36.old L _ nL hL3
   refine ⟨(),(),(),F,fs,xs,rn i,rd i,rfl,hF6,iF6,by trivial,px,by trivial,by trivial,fun mo mz K7 s7 hmo gmz=>⟨(),mo,so,mz,z,_,_,_,(),hmo,s7 _ _ hso,gmz,gz',by trivial,by trivial,by decide,by decide,(fun z=>by cases z),fun mm K8 n8=>?_⟩⟩
   have s78:=s7.trans n8.sm
   refine ⟨L,F,mm,ys,fs,ps,xs,_,nb i,db i,rn i+56,rd i+57,rn i,rd i,nb (i+1),db (i+1),rfl,s78 _ _ hL6,(iL3.tupS s36).mono s78.toE,s78 _ _ hF6,iF6.mono s78.toE,px,(fun x hx=>by rw [lps];exact (cok _ (mxs x hx)).n),ndx,n8.at',gmz.tim gz' (by trivial) (by trivial),gp,by trivial,by trivial,by trivial,by trivial,b5,b6,b7,by trivial,fun L' ys' ps' K9 s9 fL' hL' iL' lL' gL'=>nC _ _ ?_⟩
   have s39:aq (Eb b) J3 K9:=s36.trans (s78.trans s9).toE
   have sAll:aq (Eb b) H K9:=(sE.trans sJ).trans s39
   refine ⟨L',ys',ps',_,_,_,_,t6,rfl,hL',iL',by trivial,gL',(B6.same s78).same s9,by trivial,by trivial,sAll,?_⟩
   have f8:K6 L'=none:=s78.free fL'
   have:aq (Eb b) H K6:=(sE.trans sJ).trans s36
   exact this.free B6 f8
  ·rintro σ J ⟨L,ys,ps,v5,v6,v7,v8,t',rfl,hL,iL,lps,gp,B,ht2,ht3,sE,fL⟩
   have bl:=F6 (show r.toNat≤4 by trivial)
   exact nB _ _ ⟨(),k L ys ps t' J sE B ht2 (by trivial) fL hL iL lps fun p hp=>(gp p hp).mono bl.1 bl.2⟩
end
end K18
namespace K18
open PySem L2
set_option maxHeartbeats 4000000
section
variable {P:Program}{w:World}{K:PySem.W.Frag}{mg:Str→Option Value}{base:Heap}
inductive Jy (a b:Nat) (vs:List V) (H:Hp) (Q:VK):Prop
 | mk (bx:Addr) (t:Int) (h0:vs=[.ref bx]) (h1:Bx H bx t) (h2:0≤t) (h3:t≤900000) (h4:∀(o:Addr) (z:KM.Fra) (t':Int) (H':Hp),aq (Eb bx) H H'→H' o=some (fr z)→Gb a b z→0≤z.1→Int.gcd z.1 z.2=1→Bx H' bx t'→t≤t'→t'≤t+2→Q (.ref o) H')
def IO (a b:Nat):Sp:=fun vs H Q _=>Jy a b vs H Q
theorem BO {a b:Nat}{n d:Int} (h1:n.natAbs<2 ^ a) (h2:d.natAbs<2 ^ b) (h3:1≤d):Gb a b (n,d):=⟨h1,h2,h3⟩
theorem DL {n d:Int} (hd:0<d) (h:0≤n):0≤(KM.low n d).1:=by
 have:=(KM.low_sgn (n:=n) hd).2
 by_cases q:(KM.low n d).1<0
 ·have:=this.mp q;trivial
 ·trivial
theorem y6 (T:Txt K mg):aY P w K mg base CX0 2 T.l_any_much_.f T.l_any_much_.d ["_law_box_here"] (IO 20 3):=by
 have G_l_take:=#[(jA)]
 have G_l_frac:=#[(ke)]
 refine T.l_any_much_.F.ok sq (fun vs H Q E h=>?_) (fun cdv A outer s H vs Q E hr h=>?_)
 ·obtain ⟨b,t,rfl,_⟩:=h
  rfl
 ·obtain ⟨b,t,rfl,B,ht0,ht1,k⟩:=h
  refine ⟨_,#[#[1,sq.nd,f7,#[G_l_take,k8,T.l_take_,#[[#[0,jD],#[()]]]]] :: #[#[bh 8 #[ap 8 (@gY _) #[1,f7] #[()] #[(),()]] #[ac 3 #[aw 4 #[ak 5 #[[#[()],#[()]]]]]] (@aK _)] :: #[#[bh 8 #[ap 8 (@gY _) #[1,f7] #[()] #[(),()]] #[ac 3 #[aw 4 #[ak 5 #[[#[ai 8 (@zr _) #[()] #[()]],#[()]]]]]] (@aK _)] :: #[ac 3 #[aw 4 #[G_l_frac,sS,T.l_frac_,#[[#[ai 8 (@bE _) #[()] #[G_l_take,k8,T.l_take_,#[[#[0,jD],#[()]]]]],#[#[aL 4 #[[#[()],#[()],#[()],#[()],#[()],#[()]]]][#[ai 8 (@f9 _) #[1,f7] #[()]]]!]]]]]]]]],?_⟩
  refine ⟨(),b,8,t,rfl,B,by decide,by decide,ht0,by trivial,fun wy t1 H1 w0 w1 h1a h1b s1 B1=>?_⟩
  refine ⟨(),rfl,(),eV (fun c=>?_) (fun c=>?_)⟩
  ·exact ⟨(by show 2≤10000;decide),fun o H2 n2=>k o (0,1) t1 H2 (s1.trans n2.sm.toE) n2.at' (BO (by decide) (by decide) (by decide)) (by decide) (by decide) (B1.same n2.sm) (by trivial) (by trivial)⟩
  refine ⟨(),rfl,(),eV (fun c'=>?_) (fun c'=>?_)⟩
  ·have q6:(10:Int) ^ (6:Int).toNat=1000000:=by decide
   refine ⟨_,(),rfl,⟨by decide,by decide,by decide⟩,(by show 2≤10000;decide),fun o H2 n2=>k o (1000000,1) t1 H2 (s1.trans n2.sm.toE) ?_ (BO (by decide) (by decide) (by decide)) (by decide) (by decide) (B1.same n2.sm) (by trivial) (by trivial)⟩
   rw [n2.at']
   show some (HO.tup [V.int ((10:Int) ^ (6:Int).toNat),V.int 1])=_
   rw [q6]
  have hw:wy≠0:=fun z=>c (by rw [z];decide)
  have hw':wy≠1:=fun z=>c' (by rw [z];decide)
  refine ⟨(),b,12,t1,rfl,B1,by decide,by decide,by trivial,by trivial,fun r2 t2 H2 a20 a21 _ _ s2 B2=>⟨_,(),rfl,(by show 6≤10000;decide),fun l5 H5 n5=>?_⟩⟩
  obtain ⟨e,ee,he0,he1⟩:∃e:Int,ik [V.int 1,V.int 1,V.int 1,V.int 2,V.int 3,V.int 7] (wy - 2)=some (V.int e)∧1≤e∧e≤7:=by
   obtain rfl | rfl | rfl | rfl | rfl | rfl:wy=2∨wy=3∨wy=4∨wy=5∨wy=6∨wy=7:=by trivial
   ·exact ⟨1,rfl,by decide,by decide⟩
   ·exact ⟨1,rfl,by decide,by decide⟩
   ·exact ⟨1,rfl,by decide,by decide⟩
   ·exact ⟨2,rfl,by decide,by decide⟩
   ·exact ⟨3,rfl,by decide,by decide⟩
   ·exact ⟨7,rfl,by decide,by decide⟩
  have f:Gb 20 3 (KM.low (1+r2) e):=ma (show (1+r2).natAbs<1048576 by trivial) (show e.natAbs<8 by trivial) (by trivial)
  exact ⟨(),_,(),rfl,l5,_,_,(),rfl,ah.of n5.at',ee,_,(),by trivial,Sz.mono (m:=40) (by show e.natAbs<1099511627776;trivial) (by decide),fun o H6 n6=>k o _ t2 H6 (((s1.trans s2).trans n5.sm.toE).trans n6.sm.toE) n6.at' f (DL (by trivial) (by trivial)) (KM.low_spec _ _ (by trivial)).2.2.1 ((B2.same n5.sm).same n6.sm) (by trivial) (by trivial)⟩
theorem Af (T:Txt K mg):aY P w K mg base CX0 2 T.l_any_price_.f T.l_any_price_.d ["_law_box_here"] (IO 24 24):=by
 have G_l_take:=#[(jA)]
 have G_l_frac:=#[(ke)]
 refine T.l_any_price_.F.ok qA (fun vs H Q E h=>?_) (fun cdv A outer s H vs Q E hr h=>?_)
 ·obtain ⟨b,t,rfl,_⟩:=h
  rfl
 ·obtain ⟨b,t,rfl,B,ht0,ht1,k⟩:=h
  refine ⟨_,#[#[1,qA.nd,iQ,#[G_l_take,ki,T.l_take_,#[[#[0,jw],#[()]]]]] :: #[ac 3 #[aw 4 #[hU 8 #[ap 8 (@gY _) #[1,iQ] #[()] #[(),()]] #[ak 5 #[[#[()],#[()]]]] #[G_l_frac,rT,T.l_frac_,#[[#[G_l_take,ki,T.l_take_,#[[#[0,jw],#[()]]]],#[#[aL 4 #[[#[()],#[()],#[()]]]][#[ai 8 (@f9 _) #[1,iQ] #[()]]]!]]]]]]]],?_⟩
  refine ⟨(),b,4,t,rfl,B,by decide,by decide,ht0,by trivial,fun wy t1 H1 w0 w1 h1a h1b s1 B1=>?_⟩
  refine ⟨(),rfl,(),eV (fun c=>?_) (fun c=>?_)⟩
  ·exact ⟨(by show 2≤10000;decide),fun o H2 n2=>k o (0,1) t1 H2 (s1.trans n2.sm.toE) n2.at' (BO (by decide) (by decide) (by decide)) (by decide) (by decide) (B1.same n2.sm) (by trivial) (by trivial)⟩
  have hw:wy≠0:=fun z=>c (by rw [z];decide)
  refine ⟨(),b,20,t1,rfl,B1,by decide,by decide,by trivial,by trivial,fun r2 t2 H2 a20 a21 _ _ s2 B2=>⟨(by show 3≤10000;decide),fun l5 H5 n5=>?_⟩⟩
  obtain ⟨e,ee,he0,he1⟩:∃e:Int,ik [V.int 1,V.int 1,V.int 6] (wy - 1)=some (V.int e)∧1≤e∧e≤7:=by
   obtain rfl | rfl | rfl:wy=1∨wy=2∨wy=3:=by trivial
   ·exact ⟨1,rfl,by decide,by decide⟩
   ·exact ⟨1,rfl,by decide,by decide⟩
   ·exact ⟨6,rfl,by decide,by decide⟩
  have f:Gb 24 24 (KM.low r2 e):=ma (show r2.natAbs<16777216 by trivial) (show e.natAbs<16777216 by trivial) (by trivial)
  exact ⟨(),_,(),rfl,l5,_,_,(),rfl,ah.of n5.at',ee,_,(),by trivial,Sz.mono (m:=40) (by show e.natAbs<1099511627776;trivial) (by decide),fun o H6 n6=>k o _ t2 H6 (((s1.trans s2).trans n5.sm.toE).trans n6.sm.toE) n6.at' f (DL (by trivial) (by trivial)) (KM.low_spec _ _ (by trivial)).2.2.1 ((B2.same n5.sm).same n6.sm) (by trivial) (by trivial)⟩
inductive Gn (vs:List V) (H:Hp) (Q:VK):Prop
 | mk (b:Addr) (v:V) (ls:List (List Nat)) (ts:List aI) (t:Int) (h0:vs=[.ref b,v]) (h1:Bx H b t) (h2:0≤t) (h3:t≤900000) (h4:aM ED H v (gF ls ts)) (h5:2≤ls.length) (h6:ls.length≤10) (h7:ls.Nodup) (h8:∀(T:Addr) (f e:List Nat) (t':Int) (H':Hp),aq (Eb b) H H'→H' T=some (.tup [.str (S f),.str (S e)])→f∈ls→e∈ls→f≠e→Bx H' b t'→t≤t'→t'≤t+2→Q (.ref T) H')
def IK:Sp:=fun vs H Q _=>Gn  vs H Q
theorem Bv (T:Txt K mg):aY P w K mg base CX0 2 T.l_ends_by_.f T.l_ends_by_.d ["_law_box_here", "_law_net"] IK:=by
 have G_l_take:=#[(jA)]
 refine T.l_ends_by_.F.ok uu (fun vs H Q E h=>?_) (fun cdv A outer s H vs Q E hr h=>?_)
 ·obtain ⟨b,v,ls,ts,t,rfl,_⟩:=h
  rfl
 ·obtain ⟨b,v,ls,ts,t,rfl,B,ht0,ht1,hv,l2,l10,nd,k⟩:=h
  obtain ⟨na,pa,ta,tys,rfl,hna,hpa,hta,ity⟩:=jf hv
  have es:((ls.map ar).length:Int)=(ls.length:Int):=by rw [List.length_map]
  refine ⟨_,#[#[2,uu.nd,jW,#[G_l_take,l6,T.l_take_,#[[#[0,jM],#[(),(),(@bX _ (K) (by rfl)),kK,T.b_len,(@aF),#[[#[#[1,eM][#[()]]]]]]]]]] :: #[ac 3 #[aw 4 #[ak 5 #[[#[#[#[1,eM][#[()]]][#[2,jW]]],#[#[#[1,eM][#[()]]][#[ai 8 (@jh _) #[ai 8 (@bE _) #[ai 8 (@bE _) #[2,jW] #[()]] #[G_l_take,l6,T.l_take_,#[[#[0,jM],#[ai 8 (@f9 _) #[(),(),(@bX _ (K) (by rfl)),kK,T.b_len,(@aF),#[[#[#[1,eM][#[()]]]]]] #[()]]]]]] #[(),(),(@bX _ (K) (by rfl)),kK,T.b_len,(@aF),#[[#[#[1,eM][#[()]]]]]]]]]]]]]]],?_⟩
  refine ⟨(),(),na,_,_,(),rfl,ag.of hna,rfl,pa,(),.inr (ag.of hpa),b,_,t,rfl,B,by trivial,mH (by trivial) (by trivial),by trivial,by trivial,fun f t1 H1 f0 f1 h1a h1b s1 B1=>?_⟩
  have hna1:=s1.tup _ _ hna
  have hpa1:=s1.tup _ _ hpa
  refine ⟨(),na,_,_,(),rfl,ag.of hna1,rfl,(),pa,_,_,(),rfl,ag.of hpa1,p8 f0 (by trivial),(),na,_,_,(),rfl,ag.of hna1,rfl,(),_,(),rfl,(),(),na,_,_,(),rfl,ag.of hna1,rfl,pa,(),.inr (ag.of hpa1),_,(),rfl,b,_,t1,rfl,B1,by trivial,mH (by trivial) (by trivial),by trivial,by trivial,fun r t2 H2 r0 r1 h2a h2b s2 B2=>?_⟩
  have hna2:=s2.tup _ _ hna1
  have hpa2:=s2.tup _ _ hpa1
  obtain ⟨q0,q1,q2⟩:=AK (n:=(ls.length:Int)) (f:=f) (r:=r) f0 (by trivial) r0 (by trivial)
  obtain ⟨la,ela⟩:∃la,la=(f+1+r) % (ls.length:Int):=⟨_,rfl⟩
  rw [←ela] at q0 q1 q2
  have hat:ik (ls.map ar) ((f+1+r) % ((ls.map ar).length:Int))=some (ar ls[la.toNat]):=by rw [es,←ela];exact p8 q0 (by trivial)
  refine ⟨_,(),rfl,(),na,_,_,(),rfl,ag.of hna2,rfl,pa,(),.inr (ag.of hpa2),_,(),rfl,(by show (0:Int)<((ls.map ar).length:Int);trivial),pa,_,_,(),rfl,ag.of hpa2,hat,(by show 2≤10000;decide),fun T2 H3 n3=>?_⟩
  refine k T2 ls[f.toNat] ls[la.toNat] t2 H3 ((s1.trans s2).trans n3.sm.toE) n3.at' (List.getElem_mem _) (List.getElem_mem _) (fun z=>?_) (B2.same n3.sm) (by trivial) (by trivial)
  have:=jk nd (by trivial) (by trivial) z
  trivial
end
end K18
namespace K18
open PySem L2
set_option maxHeartbeats 4000000
abbrev DX:=List Nat×List Nat×KM.Fra
abbrev Dl (x:DX):PyData:=.tuple [.str (S x.1),.str (S x.2.1),cM x.2.2]
structure HJ (ls:List (List Nat)) (x:DX):Prop where
 b:x.1∈ls
 e:x.2.1∈ls
 ne:x.1≠x.2.1
 g:Gb 6 6 x.2.2
 g1:1≤x.2.2.1
theorem Cn {n d:Int} (hn:1≤n) (hn2:n<64) (hd:1≤d) (hd2:d<64):Gb 6 6 (KM.low n d)∧1≤(KM.low n d).1:=
 ⟨ma (show n.natAbs<64 by trivial) (show d.natAbs<64 by trivial) (by trivial),(KM.low_sgn (by trivial)).1.mpr (by trivial)⟩
theorem Dv {E:Addr→Prop}{H:Hp}{α:Type}{f:α→PyData}:∀{vs:List V}{xs:List α},vs.length=xs.length→(∀(i:Nat) v x,vs[i]?=some v→xs[i]?=some x→aM E H v (f x))→ae E H vs (xs.map f)
 | [],[],_,_=>.nil
 | [],_ :: _,h,_=>by simp at h
 | _ :: _,[],h,_=>by simp at h
 | v :: vs,x :: xs,h,k=>.cons (k 0 v x rfl rfl) (Dv (by simpa using h) fun i v' x' h1 h2=>k (i+1) v' x' (by simpa using h1) (by simpa using h2))
theorem Iq {n f i j:Int} (h0:0<n) (hij:i<j) (hn:j - i<n):(f+i) % n≠(f+j) % n:=fun z=>by
 have h1:((f+j) - (f+i)) % n=0:=by
  rw [Int.sub_emod,z,Int.sub_self,Int.zero_emod]
 have h2:(f+j) - (f+i)=j - i:=by trivial
 rw [h2,Int.emod_eq_of_lt (by trivial) hn] at h1
 trivial
section
variable {P:Program}{w:World}{K:PySem.W.Frag}{mg:Str→Option Value}{base:Heap}
inductive Fn (vs:List V) (H:Hp) (Q:VK):Prop
 | mk (b pl:Addr) (ls:List (List Nat)) (t:Int) (h0:vs=[.ref b,.ref pl]) (h1:Bx H b t) (h2:0≤t) (h3:t≤900000) (h4:H pl=some (.tup (ls.map ar))) (h5:2≤ls.length) (h6:ls.length≤10) (h7:ls.Nodup) (h8:∀(L:Addr) (ys:List V) (es:List DX) (t':Int) (H':Hp),aq (Eb b) H H'→H L=none→H' L=some (.lst ys)→ae ED H' ys (es.map Dl)→es.length≤10→(∀x∈es,HJ ls x)→Bx H' b t'→t≤t'→t'≤t+5→Q (.ref L) H')
def GB:Sp:=fun vs H Q _=>Fn  vs H Q
theorem Bu (T:Txt K mg):aY P w K mg base CX0 2 T.l_planted_.f T.l_planted_.d ["_law_box_here", "_law_places"] GB:=by
 have G_l_take:=#[(jA)]
 have G_l_frac:=#[(ke)]
 refine T.l_planted_.F.ok dQ (fun vs H Q E h=>?_) (fun cdv A outer s H vs Q E hr h=>?_)
 ·obtain ⟨b,pl,ls,t,rfl,_⟩:=h
  rfl
 ·obtain ⟨b,pl,ls,t,rfl,B,ht0,ht1,hpl,l2,l10,nd,k⟩:=h
  have es:((ls.map ar).length:Int)=(ls.length:Int):=by rw [List.length_map]
  refine ⟨_,#[#[2,dQ.nd,je,#[ai 8 (@bE _) #[()] #[G_l_take,dR,T.l_take_,#[[#[0,cB],#[ai 8 (@f9 _) #[(),(),(@bX _ (K) (by rfl)),pB,T.b_len,(@aF),#[[#[1,(kF)]]]] #[()]]]]]]] :: #[#[cW 6 #[ak 5 #[[#[G_l_take,dR,T.l_take_,#[[#[0,cB],#[(),(),(@bX _ (K) (by rfl)),pB,T.b_len,(@aF),#[[#[1,(kF)]]]]]]],#[ai 8 (@bE _) #[()] #[G_l_take,dR,T.l_take_,#[[#[0,cB],#[()]]]]],#[ai 8 (@bE _) #[()] #[G_l_take,dR,T.l_take_,#[[#[0,cB],#[()]]]]]]]] (@bM _ (K) _ _ _ _ (3) rfl #[aj 5 #[dc 2 (3) _ dQ.nd rfl (Or.inr sR) (by first | exact .inl rfl | exact .inr rfl | assumption)] #[aj 5 #[4,dQ.nd,kL] #[aj 5 #[5,dQ.nd,kn] (@bK _) (by rfl)] (by rfl)] (by rfl)] (by rfl) (by rfl) (by rfl)) (by rfl) (by rfl) (by rfl)] :: #[#[6,dQ.nd,jd,#[ai 8 (@bE _) #[()] #[G_l_take,dR,T.l_take_,#[[#[0,cB],#[()]]]]]] :: #[#[7,dQ.nd,ld,#[ai 8 (@lJ _) #[aL 4 #[[#[G_l_frac,lZ,T.l_frac_,#[[#[4,kL],#[5,kn]]]],#[G_l_frac,lZ,T.l_frac_,#[[#[ai 8 (@ir _) #[5,kn] #[ai 8 (@bE _) #[6,jd] #[()]]],#[ai 8 (@ir _) #[4,kL] #[6,jd]]]]]]]] #[ai 8 (@xU _) #[aL 4 #[[#[ak 5 #[[#[()],#[()]]]]]]] #[ai 8 (@f9 _) #[2,je] #[()]]]]] :: #[#[fW 7 (["_law_k", "_law_first", "_law_places"]) (1) ([3,1]) _ _ _ _ (8) _ _ _ dQ.nd rfl fA (by kernel_rfl) rfl (by kernel_rfl) #[eX 6 vh T.b_range #[[#[2,je]]] (by rfl)] (fun _ _ _ _ _ _=>#[0,(),()]) (fun _ _ _ _ _ _=>@cH _) (fun _ _ _ _ _ _=>#[#[2,0][#[ai 8 (@jh _) #[ai 8 (@bE _) #[1,0] #[0,()]] #[(),(),(@bX _ (K) (by rfl)),(by show _=_;kernel_rfl),T.b_len,(@aF),#[[#[2,0]]]]]]]) (by intro _;rfl)] :: #[ac 3 #[aw 4 (@DY _ (K) _ _ _ _ _ _ _ _ rfl vP T.b_list xa T.b_zip #[[#[8,fA],#[ai 8 (@lJ _) #[dI 10 (@jt _ (K) (by rfl)) #[8,fA] #[d7 3 #[()]] (@fS _)] #[dI 10 (@jt _ (K) (by rfl)) #[8,fA] (@fS _) #[d7 3 #[()]]]],#[7,ld]]] (by rfl) (by rfl) (by rfl) (by rfl))]]]]]]],?_⟩
  refine bT fun Q1 nA1=>⟨(),(),pl,(),.inr (ag.of hpl),_,(),rfl,b,_,t,rfl,B,by trivial,mH (by trivial) (by trivial),by trivial,by trivial,fun r1 t1 H1 r10 r11 h1a h1b s1 B1=>⟨_,(),rfl,nA1 _ _ ?_⟩⟩
  have hpl1:=s1.tup _ _ hpl
  refine ⟨(),(),pl,(),.inr (ag.of hpl1),b,_,t1,rfl,B1,by trivial,mH (by trivial) (by trivial),by trivial,by trivial,fun f t2 H2 f0 f1 h2a h2b s2 B2=>?_⟩
  refine ⟨(),b,6,t2,rfl,B2,by decide,by decide,by trivial,by trivial,fun a t3 H3 a0 a1 h3a h3b s3 B3=>⟨_,(),rfl,?_⟩⟩
  refine ⟨(),b,6,t3,rfl,B3,by decide,by decide,by trivial,by trivial,fun c t4 H4 c0 c1 h4a h4b s4 B4=>⟨_,(),rfl,(by show 3≤10000;decide),fun T5 H5 n5=>⟨T5,(),ag.of n5.at',rfl,_,(),_,(),_,(),rfl,?_⟩⟩⟩
  dsimp only
  refine bT fun Q2 nA2=>⟨(),b,6,t4,rfl,B4.same n5.sm,by decide,by decide,by trivial,by trivial,fun m t6 H6 m0 m1 h6a h6b s6 B6=>⟨_,(),rfl,nA2 _ _ ?_⟩⟩
  have s06:aq (Eb b) H H6:=((((s1.trans s2).trans s3).trans s4).trans n5.sm.toE).trans s6
  have q1:1≤(1+a)*(1+m):=by
   have:=Int.mul_le_mul (show (1:Int)≤1+a by trivial) (show (1:Int)≤1+m by trivial) (by decide) (by trivial);trivial
  have q2:(1+a)*(1+m)≤6*6:=Int.mul_le_mul (by trivial) (by trivial) (by trivial) (by decide)
  have q3:1≤(1+c)*(1+m+1):=by
   have:=Int.mul_le_mul (show (1:Int)≤1+c by trivial) (show (1:Int)≤1+m+1 by trivial) (by decide) (by trivial);trivial
  have q4:(1+c)*(1+m+1)≤6*7:=Int.mul_le_mul (by trivial) (by trivial) (by trivial) (by decide)
  have g1:=Cn (n:=1+a) (d:=1+c) (by trivial) (by trivial) (by trivial) (by trivial)
  have g2:=Cn q3 (by trivial) q1 (by trivial)
  refine bT fun Q3 nA3=>?_
  refine ⟨(),(),1+a,1+c,rfl,by trivial,Sz.mono (m:=40) (by show (1+c).natAbs<1099511627776;trivial) (by decide),fun o1 H7 n7=>?_⟩
  refine ⟨(),(),_,(),rfl,_,(),rfl,.inr ⟨by trivial,by trivial⟩,(),(),_,(),rfl,.inr ⟨by trivial,by trivial⟩,(1+c)*(1+m+1),(1+a)*(1+m),rfl,by trivial,Sz.mono (m:=40) (by show ((1+a)*(1+m)).natAbs<1099511627776;trivial) (by decide),fun o2 H8 n8=>?_⟩
  refine ⟨(by show 2≤10000;decide),fun l9 H9 n9=>⟨(by show 2≤10000;decide),fun o3 H10 n10=>⟨(by show 1≤10000;decide),fun l11 H11 n11=>?_⟩⟩⟩
  refine ⟨(),_,(),rfl,l11,_,(),rfl,n11.at',by trivial,by trivial,by simp;trivial,fun l12 H12 n12=>⟨l9,l12,_,(),rfl,n12.sm _ _ (n11.sm _ _ (n10.sm _ _ n9.at')),n12.at',?_,fun G H13 n13=>nA3 _ _ ?_⟩⟩
  ·rw [vK,List.length_replicate];simp;trivial
  obtain ⟨mn,emn,hmn⟩:∃mn:Nat,2+r1=(mn:Int)∧2≤mn∧mn≤ls.length:=⟨(2+r1).toNat,by trivial,by trivial,by trivial⟩
  have s613:ad H6 H13:=((((((n7.sm.trans n8.sm).trans n9.sm).trans n10.sm).trans n11.sm).trans n12.sm).trans n13.sm)
  have hG:H13 G=some (.lst ([.ref o1,.ref o2]++List.replicate (mn - 2) (.ref o3))):=by
   have:=n13.at'
   rw [vK,show (2+r1 - 2).toNat=mn - 2 by trivial] at this
   exact this
  have ho1:H13 o1=some (fr (KM.low (1+a) (1+c))):=n13.sm _ _ (n12.sm _ _ (n11.sm _ _ (n10.sm _ _ (n9.sm _ _ (n8.sm _ _ n7.at')))))
  have ho2:H13 o2=some (fr (KM.low ((1+c)*(1+m+1)) ((1+a)*(1+m)))):=n13.sm _ _ (n12.sm _ _ (n11.sm _ _ (n10.sm _ _ (n9.sm _ _ n8.at'))))
  have ho3:H13 o3=some (fr (1,1)):=n13.sm _ _ (n12.sm _ _ (n11.sm _ _ n10.at'))
  have hplE:H13 pl=some (.tup (ls.map ar)):=s613 _ _ (s06.tup _ _ hpl)
  have ix:∀i:Nat,∃l,ls[((f+(i:Int)) % (ls.length:Int)).toNat]?=some l∧0≤(f+(i:Int)) % (ls.length:Int)∧((f+(i:Int)) % (ls.length:Int)).toNat<ls.length:=fun i=>by
   have a1:=Int.emod_nonneg (f+(i:Int)) (show (ls.length:Int)≠0 by trivial)
   have a2:=Int.emod_lt_of_pos (f+(i:Int)) (show (0:Int)<ls.length by trivial)
   exact ⟨_,List.getElem?_eq_getElem (by trivial),a1,by trivial⟩
  obtain ⟨sp,hsp⟩:∃sp:Nat→List Nat,∀i:Nat,ls[((f+(i:Int)) % (ls.length:Int)).toNat]?=some (sp i):=⟨fun i=>Classical.choose (ix i),fun i=>(Classical.choose_spec (ix i)).1⟩
  have spm:∀i,sp i∈ls:=fun i=>List.mem_of_getElem? (hsp i)
  have spn:∀i j:Nat,i<j→j<ls.length→sp i≠sp j:=fun i j hij hj z=>by
   have h1:=hsp i
   have h2:=hsp j
   rw [z] at h1
   have:=qd nd h1 h2
   obtain ⟨_,_,p1,_⟩:=ix i
   obtain ⟨_,_,p2,_⟩:=ix j
   exact Iq (n:=(ls.length:Int)) (f:=f) (i:=i) (j:=j) (by trivial) (by trivial) (by trivial) (by trivial)
  refine bT fun Q4 nA4=>⟨(),(),by trivial,by trivial,fun D hD=>?_⟩
  rw [emn,Int.toNat_natCast]
  refine Eh (n:=mn) (fun k=>ar (sp k)) (by trivial) hD (fun i H' hi sm=>hi) (fun H' sm=>Nat.le_refl _) ?_ ?_
  ·rintro i x H' H'' R hi sm ⟨rfl,rfl⟩ kk
   have hplX:=sm _ _ hplE
   obtain ⟨_,_,p1,p2⟩:=ix i
   have hat:ik (ls.map ar) ((f+(0+(i:Int))) % ((ls.map ar).length:Int))=some (ar (sp i)):=by
    rw [es,Int.zero_add,p8 p1 p2]
    have:=hsp i
    rw [List.getElem?_eq_getElem p2] at this
    rw [Option.some.inj this]
   exact ⟨di,(),(),(),_,(),rfl,(),pl,(),.inr (ag.of hplX),_,(),rfl,(by show (0:Int)<((ls.map ar).length:Int);trivial),pl,_,_,(),rfl,ag.of hplX,hat,kk _ (ad.refl _)⟩
  intro J sJ hDJ
  refine nA4 _ _ ?_
  have ml:((List.range mn).map fun k=>ar (sp k)).length=mn:=by simp
  refine ⟨(),(),(),D,(),ah.of hDJ,fun p1 J1 j1=>⟨(),(),D,(),ah.of (j1.sm _ _ hDJ),fun p2 J2 j2=>⟨p1,p2,_,(),rfl,j2.sm _ _ j1.at',j2.at',?_,fun p3 J3 j3=>?_⟩⟩⟩
  ·rw [cV,pq (by decide),List.length_drop,List.length_take,ml]
   show mn - 1+min 1 mn≤10000
   trivial
  have e3:J3 p3=some (.lst (((List.range mn).map fun k=>ar (sp k)).drop 1++((List.range mn).map fun k=>ar (sp k)).take 1)):=by
   rw [j3.at',cV,pq (by decide)];rfl
  have sJ3:ad H13 J3:=sJ.trans ((j1.sm.trans j2.sm).trans j3.sm)
  refine ⟨(),D,p3,G,_,_,(),ah.of (j3.sm _ _ (j2.sm _ _ (j1.sm _ _ hDJ))),ah.of e3,ah.of (sJ3 _ _ hG),?_,?_,by rw [ml];trivial,fun L ts J4 s4' fL hL lts hts=>?_⟩
  ·rw [List.length_append,List.length_drop,List.length_take,ml];trivial
  ·rw [List.length_append,List.length_replicate,ml];simp;trivial
  rw [ml] at lts
  have s134:=sJ3.trans s4'
  have gz:∀i:Nat,i<mn→∃z:Addr×KM.Fra,([V.ref o1,.ref o2]++List.replicate (mn - 2) (.ref o3))[i]?=some (.ref z.1)∧J4 z.1=some (fr z.2)∧Gb 6 6 z.2∧1≤z.2.1:=fun i hi=>by
   match i,hi with
   | 0,_=>exact ⟨(o1,_),rfl,s134 _ _ ho1,g1.1,g1.2⟩
   | 1,_=>exact ⟨(o2,_),rfl,s134 _ _ ho2,g2.1,g2.2⟩
   | i+2,hi=>
    refine ⟨(o3,(1,1)),?_,s134 _ _ ho3,BO (by decide) (by decide) (by decide),(by show (1:Int)≤1;decide)⟩
    show (List.replicate (mn - 2) (V.ref o3))[i]?=_
    rw [List.getElem?_replicate,if_pos (by trivial)]
  obtain ⟨zl,lzl,hzl⟩:=uQ mn gz
  obtain ⟨g,hg⟩:∃g:Nat→KM.Fra,∀i,i<mn→∃o,([V.ref o1,.ref o2]++List.replicate (mn - 2) (.ref o3))[i]?=some (.ref o)∧J4 o=some (fr (g i))∧Gb 6 6 (g i)∧1≤(g i).1:=by
   refine ⟨fun i=>((zl[i]?).map Prod.snd).getD (1,1),fun i hi=>?_⟩
   obtain ⟨z,ez⟩:∃z,zl[i]?=some z:=⟨_,List.getElem?_eq_getElem (by trivial)⟩
   have q:=hzl i z ez
   refine ⟨z.1,q.1,?_⟩
   show J4 z.1=some (fr (((zl[i]?).map Prod.snd).getD (1,1)))∧Gb 6 6 (((zl[i]?).map Prod.snd).getD (1,1))∧1≤(((zl[i]?).map Prod.snd).getD (1,1)).1
   rw [ez]
   exact q.2
  have s6':aq (Eb b) H J4:=s06.trans (s613.trans s134).toE
  refine k L (ts.map V.ref) ((List.range mn).map fun i=>(sp i,(if i+1<mn then sp (i+1) else sp 0),g i)) t6 J4 s6' ?_ hL ?_ (by simp;trivial) ?_ (B6.same (s613.trans s134)) (by trivial) (by trivial)
  ·have:H13 L=none:=sJ3.free fL
   exact s06.free B6 (s613.free this)
  ·refine Dv (by simp [lts]) fun i v x hv hx=>?_
   rw [List.getElem?_map] at hv hx
   obtain ⟨tt,ht,rfl⟩:=Option.map_eq_some_iff.mp hv
   obtain ⟨i',hi',rfl⟩:=Option.map_eq_some_iff.mp hx
   obtain ⟨il,e'⟩:=List.getElem?_eq_some_iff.mp hi'
   rw [List.getElem_range] at e'
   subst e'
   rw [List.length_range] at il
   obtain ⟨x,y,z,hx',hy',hz',hT⟩:=hts i tt ht
   obtain ⟨o,ho,ho',_⟩:=hg i il
   rw [ho] at hz'
   cases hz'
   rw [List.getElem?_map,List.getElem?_range il] at hx'
   cases hx'
   have ey:y=ar (if i+1<mn then sp (i+1) else sp 0):=by
    by_cases c1:i+1<mn
    ·rw [List.getElem?_append_left (by rw [List.length_drop,ml];trivial),List.getElem?_drop,List.getElem?_map,show 1+i=i+1 by trivial,List.getElem?_range c1] at hy'
     rw [if_pos c1]
     exact (Option.some.inj hy').symm
    ·rw [List.getElem?_append_right (by rw [List.length_drop,ml];trivial),List.length_drop,ml,show i - (mn - 1)=0 by trivial,List.getElem?_take,if_pos (by decide),List.getElem?_map,List.getElem?_range (by trivial)] at hy'
     rw [if_neg c1]
     exact (Option.some.inj hy').symm
   rw [ey] at hT
   exact .tup hT (.cons (.str _) (.cons (.str _) (.cons (fY ho') .nil)))
  ·intro x hx
   obtain ⟨i,hi,rfl⟩:=List.mem_map.mp hx
   have il:=List.mem_range.mp hi
   obtain ⟨o,_,_,gg,gg1⟩:=hg i il
   refine ⟨spm i,?_,?_,gg,gg1⟩
   ·show (if i+1<mn then sp (i+1) else sp 0)∈ls
    split
    ·exact spm _
    ·exact spm _
   ·show sp i≠(if i+1<mn then sp (i+1) else sp 0)
    split
    ·exact spn i (i+1) (by trivial) (by trivial)
    ·exact fun z=>spn 0 i (by trivial) (by trivial) z.symm
end
end K18
namespace K18
open PySem L2
set_option maxHeartbeats 4000000
theorem xh {ls:List (List Nat)} (h:ls.Nodup):(ls.map fun l=>(Sum.inr (S l):ay)).Nodup:=by
 rw [List.nodup_iff_pairwise_ne,List.pairwise_map]
 refine List.Pairwise.imp (fun {a b} hab z=>?_) (List.nodup_iff_pairwise_ne.mp h)
 injection z with z
 exact hab (gW z)
abbrev WC (z:KM.Fra):Prop:=1≤z.1∧z.1≤3∧1≤z.2∧z.2≤3
theorem JG {p q z:KM.Fra} (hp:WC p) (hq:WC q) (hz:1≤z.1∧z.1≤5∧1≤z.2∧z.2≤6):Gb 6 6 (KM.lTim (eI p q) z)∧1≤(KM.lTim (eI p q) z).1:=by
 obtain ⟨a1,a2,a3,a4⟩:=hp
 obtain ⟨b1,b2,b3,b4⟩:=hq
 obtain ⟨c1,c2,c3,c4⟩:=hz
 have m1:p.1*q.2≤3*3:=Int.mul_le_mul a2 b4 (by trivial) (by decide)
 have m2:p.2*q.1≤3*3:=Int.mul_le_mul a4 b2 (by trivial) (by decide)
 have p1:0<p.1*q.2:=Int.mul_pos (by trivial) (by trivial)
 have p2:0<p.2*q.1:=Int.mul_pos (by trivial) (by trivial)
 have sp:=KM.low_spec (p.1*q.2) (p.2*q.1) (by trivial)
 have o1:1≤(eI p q).1:=AX a1 a3 b1 b3
 obtain ⟨s1,_,_,s2,s3⟩:=sp
 have o2:(eI p q).1≤9:=by
  have:(eI p q).1.natAbs≤(p.1*q.2).natAbs:=s2
  trivial
 have o3:1≤(eI p q).2:=s1
 have o4:(eI p q).2≤9:=by
  have:(eI p q).2.natAbs≤(p.2*q.1).natAbs:=s3
  trivial
 have n1:(eI p q).1*z.1≤9*5:=Int.mul_le_mul o2 c2 (by trivial) (by decide)
 have n2:(eI p q).2*z.2≤9*6:=Int.mul_le_mul o4 c4 (by trivial) (by decide)
 have n3:0<(eI p q).1*z.1:=Int.mul_pos (by trivial) (by trivial)
 have n4:0<(eI p q).2*z.2:=Int.mul_pos (by trivial) (by trivial)
 exact Cn (by trivial) (by trivial) (by trivial) (by trivial)
theorem za {z:KM.Fra} (h:WC z):Gb 2 2 z:=⟨show z.1.natAbs<4 by have:=h.1;have:=h.2.1;trivial,show z.2.natAbs<4 by have:=h.2.2.1;have:=h.2.2.2;trivial,h.2.2.1⟩
section
variable {P:Program}{w:World}{K:PySem.W.Frag}{mg:Str→Option Value}{base:Heap}
inductive G8 (vs:List V) (H:Hp) (Q:VK):Prop
 | mk (b:Addr) (mp mt t:Int) (h0:vs=[.ref b,.int mp,.int mt]) (h1:Bx H b t) (h2:0≤t) (h3:t≤800000) (h4:2≤mp) (h5:mp≤10) (h6:1≤mt) (h7:mt≤24) (h8:∀(v:V) (ls:List (List Nat)) (ts:List aI) (t':Int) (H':Hp),aq (Eb b) H H'→aM ED H' v (gF ls ts)→2≤ls.length→ls.length≤10→ls.Nodup→(∀l∈ls,lK l)→1≤ts.length→ts.length≤24→(∀t∈ts,qh ls t)→Bx H' b t'→t≤t'→t'≤t+700→Q v H')
def Ib:Sp:=fun vs H Q _=>G8  vs H Q
theorem Dh (T:Txt K mg):aY P w K mg base CX0 3 T.l_net_by_.f T.l_net_by_.d ["_law_box_here", "_law_most_places", "_law_most_ties"] Ib:=by
 have G_l_take:=#[(jA)]
 have G_l_names_by:=#[(Ay)]
 have G_l_planted:=#[(Bu)]
 have G_l_any_gain:=#[(Av)]
 have G_l_any_much:=#[(y6)]
 have G_l_any_price:=#[(Af)]
 have G_l_product:=#[(e7)]
 have G_l_over:=#[(uA)]
 refine T.l_net_by_.F.ok be (fun vs H Q E h=>?_) (fun cdv A outer s H vs Q E hr h=>?_)
 ·obtain ⟨b,mp,mt,t,rfl,_⟩:=h
  rfl
 ·obtain ⟨b,mp,mt,t,rfl,B,ht0,ht1,mp1,mp2,mt1,mt2,k⟩:=h
  refine ⟨_,#[#[ua 2 (3) (4) _ _ _ _ _ _ _ _ _ _ _ rfl be.nd rfl rfl (by decide) jX jn #[[#[G_l_take,bn,T.l_take_,#[[#[0,(ax)],#[()]]]],#[oa 8 (@gY _) #[G_l_take,bn,T.l_take_,#[[#[0,(ax)],#[()]]]] #[()] #[(),()]]]] (by kernel_rfl) (by rfl)] :: #[#[5,be.nd,bC,#[G_l_names_by,qH,T.l_names_by_,#[[#[0,(ax)],#[hU 8 #[jx 3 #[4,jn] (by intro _;rfl)] #[ai 8 (@bE _) #[()] #[G_l_take,bn,T.l_take_,#[[#[0,(ax)],#[()]]]]] #[ai 8 (@bE _) #[()] #[G_l_take,bn,T.l_take_,#[[#[0,(ax)],#[ai 8 (@f9 _) #[1,oF] #[()]]]]]]]]]]] :: #[#[6,be.nd,mY,#[hU 8 #[jx 3 #[4,jn] (by intro _;rfl)] #[ai 8 (@bE _) #[()] #[G_l_take,bn,T.l_take_,#[[#[0,(ax)],#[()]]]]] #[ai 8 (@bE _) #[()] #[G_l_take,bn,T.l_take_,#[[#[0,(ax)],#[2,pS]]]]]]] :: #[#[iq 2 (7) _ _ _ _ be.nd rfl (Or.inr vt) #[aL 4 #[[#[ak 5 #[[#[()],#[()]]]],#[ak 5 #[[#[()],#[()]]]],#[ak 5 #[[#[()],#[()]]]],#[ak 5 #[[#[()],#[()]]]],#[ak 5 #[[#[()],#[()]]]],#[ak 5 #[[#[()],#[()]]]],#[ak 5 #[[#[()],#[()]]]]]]] (by rfl) (by first | exact .inl rfl | exact .inr rfl | assumption)] :: #[#[8,be.nd,iK,#[cu 9 (@xc _ rfl) wx T.b_dict (@ux) #[[#[fN 7 (["_law_place", "_law_box_here", "_law_some"]) (1) ([0,7]) _ _ _ _ rfl (by kernel_rfl) (@lA _ (K) _ _ _ #[5,bC] (by rfl)) (fun _ _ _ _ _ _=>#[0,(),()]) (fun _ _ _ _ _ _=>@cH _) (fun _ _ _ _ _ _=>#[ak 5 #[[#[0,()],#[#[2,0][#[G_l_take,(),T.l_take_,#[[#[1,0],#[()]]]]]!]]]]) (by intro _;rfl)]]] (by decide) (by decide) (by rfl) (by rfl)]] :: #[#[9,be.nd,gG,#[hU 8 #[ap 8 (@gY _) #[3,jX] #[()] #[(),()]] #[G_l_planted,qM,T.l_planted_,#[[#[0,(ax)],#[5,bC]]]] #[aL 4 (@bc _)]]] :: #[#[cC 8 PassesOwn.never rfl #[eX 6 wc T.b_range #[[#[6,mY]]] (by rfl)] #[10,be.nd,uT] #[#[11,be.nd,kN,#[G_l_take,bn,T.l_take_,#[[#[0,(ax)],#[(),(),(@bX _ (K) (by rfl)),gN,T.b_len,(@aF),#[[#[5,bC]]]]]]]] :: #[#[ua 2 (12) (13) _ _ _ _ _ _ _ _ _ _ _ rfl be.nd rfl rfl (by decide) dU fv #[[#[#[5,bC][#[11,kN]]],#[#[5,bC][#[ai 8 (@jh _) #[ai 8 (@bE _) #[ai 8 (@bE _) #[11,kN] #[()]] #[G_l_take,bn,T.l_take_,#[[#[0,(ax)],#[ai 8 (@f9 _) #[(),(),(@bX _ (K) (by rfl)),gN,T.b_len,(@aF),#[[#[5,bC]]]] #[()]]]]]] #[(),(),(@bX _ (K) (by rfl)),gN,T.b_len,(@aF),#[[#[5,bC]]]]]]]]] (by kernel_rfl) (by rfl)] :: #[#[14,be.nd,eN,#[G_l_any_gain,pZ,T.l_any_gain_,#[[#[0,(ax)]]]]] :: #[#[bh 8 #[ap 8 (@kH _) #[3,jX] #[()] #[(),()]] #[#[15,be.nd,mR,#[#[aL 4 #[[#[ak 5 #[[#[()],#[()]]]],#[ak 5 #[[#[()],#[()]]]],#[ak 5 #[[#[()],#[()]]]],#[ak 5 #[[#[()],#[()]]]]]]][#[G_l_take,bn,T.l_take_,#[[#[0,(ax)],#[()]]]]]!]] :: #[ac 3 #[14,be.nd,eN,#[G_l_product,qJ,T.l_product_,#[[#[G_l_over,vq,T.l_over_,#[[#[cF 7 (@fK _) #[8,iK] #[12,dU] (fun _ _=>rfl)],#[cF 7 (@fK _) #[8,iK] #[13,fv] (fun _ _=>rfl)]]]],#[15,mR]]]]]]] (@aK _)] :: #[ac 3 #[cI 4 (@bS _ (K) _ _ _ _ _ _ _ _ _ _ _ PySem.F.plainAttrs_list PySem.F.slot_list_insert PySem.F.type_list_insert (@BE _) #[9,gG] #[[#[G_l_take,bn,T.l_take_,#[[#[0,(ax)],#[ai 8 (@bE _) #[(),(),(@bX _ (K) (by rfl)),gN,T.b_len,(@aF),#[[#[9,gG]]]] #[()]]]]],#[ak 5 #[[#[12,dU],#[13,fv],#[14,eN]]]]]] (by rfl) (by rfl) (by rfl) (by rfl) (by rfl) (by rfl)) (by rfl)]]]]]] (by intro _;rfl)] :: #[#[16,be.nd,cZ,#[aL 4 (@bc _)]] :: #[#[cC 8 PassesOwn.never rfl (@br _ (K) _ _ _ #[dI 10 (@jt _ (K) (by rfl)) #[9,gG] (@fS _) #[d7 3 #[()]]] (by rfl)) (@bM _ (K) _ _ _ _ (3) rfl #[aj 5 #[12,be.nd,dU] #[aj 5 #[13,be.nd,fv] #[aj 5 #[14,be.nd,eN] (@bK _) (by rfl)] (by rfl)] (by rfl)] (by rfl) (by rfl) (by rfl)) #[#[17,be.nd,oq,#[G_l_any_much,qb,T.l_any_much_,#[[#[0,(ax)]]]]] :: #[ac 3 #[cI 4 (@bS _ (K) _ _ _ _ _ _ _ _ _ _ _ PySem.F.plainAttrs_list PySem.F.slot_list_append PySem.F.type_list_append (@bU _) #[16,cZ] #[[#[ak 5 #[[#[12,dU],#[13,fv],#[17,oq],#[14,eN],#[G_l_any_price,pQ,T.l_any_price_,#[[#[0,(ax)]]]]]]]]] (by rfl) (by rfl) (by rfl) (by rfl) (by rfl) (by rfl)) (by rfl)]]] (by intro _;rfl)] :: #[#[bh 8 #[PW.pt 3 #[qG 7 #[ap 8 (@kH _) #[(),(),(@bX _ (K) (by rfl)),gN,T.b_len,(@aF),#[[#[16,cZ]]]] #[()] #[(),()]] #[n0 4 #[ap 8 (@gY _) #[G_l_take,bn,T.l_take_,#[[#[0,(ax)],#[()]]]] #[()] #[(),()]]]]] #[ac 3 #[cI 4 (@bS _ (K) _ _ _ _ _ _ _ _ _ _ _ PySem.F.plainAttrs_list PySem.F.slot_list_append PySem.F.type_list_append (@bU _) #[16,cZ] #[[#[#[16,cZ][#[()]]!]]] (by rfl) (by rfl) (by rfl) (by rfl) (by rfl) (by rfl)) (by rfl)]] (@aK _)] :: #[ac 3 #[aw 4 #[ak 5 #[[#[5,bC],#[cu 9 (@jB _ (K) (by rfl)) vR T.b_tuple (@eH) #[[#[16,cZ]]] (by decide) (by decide) (by rfl) (by rfl)]]]]]]]]]]]]]]]],?_⟩
  refine HQ fun Q1 nP=>⟨(),b,4,t,rfl,B,by decide,by decide,by trivial,by trivial,fun wy t1 H1 w0 w1 h1a h1b s1 B1=>⟨(),b,8,t1,rfl,B1,by decide,by decide,by trivial,by trivial,fun gr t2 H2 gr0 gr1 h2a h2b s2 B2=>⟨rfl,nP _ _ _ ?_⟩⟩⟩
  generalize decide (V.int gr=V.int 0)=great
  refine bT fun Q2 nA2=>⟨(),(),(),?_⟩
  refine IJ (fun v H'=>aZ fun many t'=>v=.int many∧2≤many∧many≤10∧Bx H' b t'∧t2≤t'∧t'≤t2+1∧aq (Eb b) H2 H') ?_ (fun _ nx=>?_) (fun _ nx=>?_)
  rotate_left
  ·exact ⟨(),b,4,t2,rfl,B2,by decide,by decide,by trivial,by trivial,fun r t3 H3 r0 r1 h3a h3b s3 B3=>⟨_,(),rfl,nx _ _ ⟨7+r,t3,rfl,by trivial,by trivial,B3,by trivial,by trivial,s3⟩⟩⟩
  ·exact ⟨(),(),_,(),rfl,b,_,t2,rfl,B2,by trivial,mH (by trivial) (by trivial),by trivial,by trivial,fun r t3 H3 r0 r1 h3a h3b s3 B3=>⟨_,(),rfl,nx _ _ ⟨2+r,t3,rfl,by trivial,by trivial,B3,by trivial,by trivial,s3⟩⟩⟩
  rintro v H3 ⟨many,t3,rfl,hm1,hm2,B3,h3a,h3b,s3⟩
  refine ⟨b,many,t3,rfl,B3,by trivial,by trivial,by trivial,by trivial,fun pl ls t4 H4 s4 hpl lls nd nc B4 h4a h4b=>nA2 _ _ ?_⟩
  have s04:aq (Eb b) H H4:=((s1.trans s2).trans s3).trans s4
  have l2:2≤ls.length:=by trivial
  have l10:ls.length≤10:=by trivial
  clear hm1 hm2 lls
  refine bT fun Q3 nA3=>⟨(),(),?_⟩
  refine IJ (fun v H'=>aZ fun many t'=>v=.int many∧1≤many∧many≤24∧Bx H' b t'∧t4≤t'∧t'≤t4+1∧aq (Eb b) H4 H') ?_ (fun _ nx=>?_) (fun _ nx=>?_)
  rotate_left
  ·exact ⟨(),b,15,t4,rfl,B4,by decide,by decide,by trivial,by trivial,fun r t3 H3 r0 r1 h3a h3b s3 B3=>⟨_,(),rfl,nx _ _ ⟨10+r,t3,rfl,by trivial,by trivial,B3,by trivial,by trivial,s3⟩⟩⟩
  ·exact ⟨(),(),b,mt,t4,rfl,B4,by trivial,mH (by trivial) (by trivial),by trivial,by trivial,fun r t3 H3 r0 r1 h3a h3b s3 B3=>⟨_,(),rfl,nx _ _ ⟨1+r,t3,rfl,by trivial,by trivial,B3,by trivial,by trivial,s3⟩⟩⟩
  rintro v H5 ⟨mn,t5,rfl,mn1,mn2,B5,h5a,h5b,s5⟩
  refine nA3 _ _ ?_
  have hpl5:=s5.tup _ _ hpl
  have s05:=s04.trans s5
  refine bT fun Q4 nA4=>⟨(by show 2≤10000;decide),fun u1 K1 m1=>⟨(by show 2≤10000;decide),fun u2 K2 m2=>⟨(by show 2≤10000;decide),fun u3 K3 m3=>⟨(by show 2≤10000;decide),fun u4 K4 m4=>⟨(by show 2≤10000;decide),fun u5 K5 m5=>⟨(by show 2≤10000;decide),fun u6 K6 m6=>⟨(by show 2≤10000;decide),fun u7 K7 m7=>⟨(by show 7≤10000;decide),fun sl K8 m8=>nA4 _ _ ?_⟩⟩⟩⟩⟩⟩⟩⟩
  have sK7:ad H5 K7:=(((((m1.sm.trans m2.sm).trans m3.sm).trans m4.sm).trans m5.sm).trans m6.sm).trans m7.sm
  have sK:=sK7.trans m8.sm
  have nsl:¬sl=b:=fun z=>(B5.same sK7).ne m8.fr z.symm
  have hplK:=sK _ _ hpl5
  have BK:=B5.same sK
  have some_at:∀(r:Int) (J:Hp),0≤r→r<7→aq (Eb b) K8 J→aZ fun o z=>ik [V.ref u1,V.ref u2,V.ref u3,V.ref u4,V.ref u5,V.ref u6,V.ref u7] r=some (.ref o)∧J o=some (fr z)∧WC z:=fun r J r0 r1 sJ=>by
   have up:∀{u:Addr}{us:List V},K8 u=some (.tup us)→J u=some (.tup us):=fun h=>sJ.tup _ _ h
   obtain rfl | rfl | rfl | rfl | rfl | rfl | rfl:r=0∨r=1∨r=2∨r=3∨r=4∨r=5∨r=6:=by trivial
   ·exact ⟨u1,(1,1),rfl,up (m8.sm _ _ (m7.sm _ _ (m6.sm _ _ (m5.sm _ _ (m4.sm _ _ (m3.sm _ _ (m2.sm _ _ m1.at'))))))),by decide⟩
   ·exact ⟨u2,(2,1),rfl,up (m8.sm _ _ (m7.sm _ _ (m6.sm _ _ (m5.sm _ _ (m4.sm _ _ (m3.sm _ _ m2.at')))))),by decide⟩
   ·exact ⟨u3,(3,1),rfl,up (m8.sm _ _ (m7.sm _ _ (m6.sm _ _ (m5.sm _ _ (m4.sm _ _ m3.at'))))),by decide⟩
   ·exact ⟨u4,(1,2),rfl,up (m8.sm _ _ (m7.sm _ _ (m6.sm _ _ (m5.sm _ _ m4.at')))),by decide⟩
   ·exact ⟨u5,(1,3),rfl,up (m8.sm _ _ (m7.sm _ _ (m6.sm _ _ m5.at'))),by decide⟩
   ·exact ⟨u6,(3,2),rfl,up (m8.sm _ _ (m7.sm _ _ m6.at')),by decide⟩
   ·exact ⟨u7,(2,3),rfl,up (m8.sm _ _ m7.at'),by decide⟩
  refine bT fun Q5 nA5=>⟨(),pl,rfl,⟨_,ag.of hplK⟩,fun D hD=>mD (n:=(ls.map ar).length) (fun i H' xs=>fD fun (as ws:List Addr) (t':Int)=>xs=as.map V.ref∧H' D=some (.lst xs)∧as.length=i∧ws.length=i∧(∀(j:Nat) a,as[j]?=some a→fD fun l w z=>ls[j]?=some l∧ws[j]?=some w∧H' a=some (.tup [ar l,.ref w])∧H' w=some (fr z)∧WC z)∧Bx H' b t'∧t5≤t'∧t'≤t5+i∧aq (Eb b) K8 H') (lX (by rw [List.length_map];trivial)) ⟨[],[],t5,rfl,aB,rfl,rfl,(fun j a h=>by simp at h),BK.same (ad.new hD),by trivial,by trivial,(ad.new hD).toE⟩ ?_ ?_ ?_ ?_ ?_⟩
  ·rintro i H' xs ⟨as,ws,t',rfl,e1,e2,_⟩
   exact ⟨e1,by rw [List.length_map];trivial⟩
  ·rintro i H' xs hi ⟨as,ws,t',_,_,_,_,_,_,_,_,sE⟩
   exact ⟨_,_,ag.of (sE.tup _ _ hplK),List.getElem?_eq_getElem hi⟩
  ·rintro H' xs ⟨as,ws,t',_,_,_,_,_,_,_,_,sE⟩
   exact ⟨_,ag.of (sE.tup _ _ hplK),Nat.le_refl _⟩
  ·have nDb:¬D=b:=fun z=>BK.ne hD z.symm
   rintro i Ha xs x Hb hi ⟨as,ws,t',rfl,eD,la,lw,hw,BD,h1,h2,sE⟩ ⟨rfl,ex⟩
   have exi:=ex _ (ag.of (sE.tup _ _ hplK))
   rw [List.length_map] at hi
   rw [List.getElem?_map,List.getElem?_eq_getElem hi] at exi
   obtain rfl:ar ls[i]=x:=Option.some.inj exi
   refine ⟨di,(),(),(),b,7,t',rfl,BD,by decide,by decide,by trivial,by trivial,fun r6 t6 J6 r60 r61 h6a h6b s6 B6=>?_⟩
   obtain ⟨o,z,eo,ho,wz⟩:=some_at r6 J6 r60 (by trivial) (sE.trans s6)
   refine ⟨sl,_,_,(),rfl,ah.of (s6.old sl _ nsl (sE.old sl _ nsl m8.at')),eo,(by show 2≤10000;decide),fun q J7 n7=>?_⟩
   have js:aq (Eb b) Hb J7:=s6.trans n7.sm.toE
   have eD7:=js.old D _ nDb eD
   have c':Ch J7 D (as.map V.ref++[.ref q]) (aN J7 D (.lst (as.map V.ref++[.ref q]))):=Ch.mk'
   refine ⟨eD7,as++[q],ws++[o],t6,by rw [List.map_append];rfl,aB,by rw [List.length_append,la];rfl,by rw [List.length_append,lw];rfl,fun j a' ha'=>?_,(B6.same n7.sm).ch c' (fun z=>nDb z.symm),by trivial,by trivial,(sE.trans js).up hD⟩
   by_cases hj:j<i
   ·rw [List.getElem?_append_left (by trivial)] at ha'
    obtain ⟨l,w,z,e1,e2,e3,e4,e5⟩:=hw j a' ha'
    exact ⟨l,w,z,e1,by rw [List.getElem?_append_left (by trivial)];exact e2,c'.tup (js.tup _ _ e3) eD7,c'.tup (js.tup _ _ e4) eD7,e5⟩
   ·have hj':j=i:=by
     have:=(List.getElem?_eq_some_iff.mp ha').1
     rw [List.length_append] at this
     simp at this
     trivial
    subst hj'
    rw [List.getElem?_append_right (by trivial),la,Nat.sub_self] at ha'
    obtain rfl:q=a':=Option.some.inj ha'
    exact ⟨ls[j],o,z,List.getElem?_eq_getElem hi,by rw [List.getElem?_append_right (by trivial),lw,Nat.sub_self];rfl,c'.tup n7.at' eD7,c'.tup (n7.sm _ _ ho) eD7,wz⟩
  rintro J xs ⟨as,ws,t6,rfl,eD,la,lw,hw,B6,h6a,h6b,s6⟩
  rw [List.length_map] at la lw h6b
  have wv:∀(j:Nat) (hj:j<ls.length),fD fun a w z=>as[j]?=some a∧ws[j]?=some w∧J a=some (.tup [ar ls[j],.ref w])∧J w=some (fr z)∧WC z:=fun j hj=>by
   obtain ⟨a,ha⟩:∃a,as[j]?=some a:=⟨_,List.getElem?_eq_getElem (by trivial)⟩
   obtain ⟨l,w,z,e1,e2,e3,e4,e5⟩:=hw j a ha
   rw [List.getElem?_eq_getElem hj] at e1
   cases e1
   exact ⟨a,w,z,ha,e2,e3,e4,e5⟩
  refine ⟨D,as,ls.map fun l=>(Sum.inr (S l):ay),ws.map V.ref,rfl,eD,by rw [List.length_map];exact la,by rw [List.length_map,List.length_map];exact lw,xh nd,by rw [List.length_map];trivial,fun i a ha=>?_,fun W J1 nW=>nA5 _ _ ?_⟩
  ·obtain ⟨l,w,z,e1,e2,e3,_,_⟩:=hw i a ha
   exact ⟨Sum.inr (S l),.ref w,by rw [List.getElem?_map,e1];rfl,by rw [List.getElem?_map,e2];rfl,e3⟩
  have s81:aq (Eb b) K8 J1:=s6.trans nW.sm.toE
  have s01:aq (Eb b) H J1:=(s05.trans sK.toE).trans s81
  have BJ:=B6.same nW.sm
  have nWb:¬W=b:=fun z=>B6.ne nW.fr z.symm
  have hplJ:J1 pl=some (.tup (ls.map ar)):=s81.tup _ _ hplK
  obtain ⟨kvs,ekv⟩:∃kvs,kvs=((ls.map fun l=>(Sum.inr (S l):ay)).zip (ws.map V.ref)):=⟨_,rfl⟩
  have hW:J1 W=some (.dK kvs):=by rw [ekv];exact nW.at'
  have wl:∀l∈ls,aZ fun w z=>valD kvs (Sum.inr (S l))=some (.ref w)∧J1 w=some (fr z)∧WC z:=fun l hl=>by
   obtain ⟨j,hj⟩:=List.getElem?_of_mem hl
   have hlt:=(List.getElem?_eq_some_iff.mp hj).1
   obtain ⟨a,w,z,e1,e2,e3,e4,e5⟩:=wv j hlt
   refine ⟨w,z,?_,nW.sm _ _ e4,e5⟩
   rw [ekv]
   exact wf (i:=j) (xh nd) (by rw [List.getElem?_map,hj];rfl) (by rw [List.getElem?_map,e2];rfl)
  have t6a:t≤t6∧t6≤t+40:=by trivial
  clear hw wv la lw h6a h6b h5a h5b h4a h4b h1a h1b h2a h2b h3a h3b some_at sK7 sK m1 m2 m3 m4 m5 m6 m7 m8 ekv hplK hpl5 hpl BK B4 B3 B2 B1 B5 s04 s05 nW eD s6 s81 B6
  refine bT fun Q6 nA6=>⟨(),rfl,(),?_⟩
  refine IJ (fun v H'=>tQ fun (L:Addr) (ys:List V) (es:List DX) (t':Int)=>v=.ref L∧H' L=some (.lst ys)∧ae ED H' ys (es.map Dl)∧es.length≤10∧(∀x∈es,HJ ls x)∧Bx H' b t'∧t6≤t'∧t'≤t6+5∧aq (Eb b) J1 H'∧J1 L=none) ?_ (fun _ nx=>?_) (fun _ nx=>?_)
  rotate_left
  ·exact ⟨(),(),b,pl,ls,t6,rfl,BJ,by trivial,by trivial,hplJ,l2,l10,nd,fun L ys es t7 J2 sE fL hL iL lL cL BL h7a h7b=>nx _ _ ⟨L,ys,es,t7,rfl,hL,iL,lL,cL,BL,h7a,h7b,sE,fL⟩⟩
  ·exact ⟨(by show 0≤10000;decide),fun L J2 n2=>nx _ _ ⟨L,[],[],t6,rfl,n2.at',.nil,by decide,(fun x hx=>by cases hx),BJ.same n2.sm,by trivial,by trivial,n2.sm.toE,n2.fr⟩⟩
  rintro v J2 ⟨L,ys,es,t7,rfl,hL,iL,lL,cL,B7,h7a,h7b,s7,fL⟩
  refine nA6 _ _ ?_
  have nLb:¬L=b:=fun z=>BJ.ne fL z.symm
  have el:((ls.map ar).length:Int)=(ls.length:Int):=by rw [List.length_map]
  refine aT fun DB nB=>?_
  refine ⟨(),mn,rfl,by trivial,by trivial,?_⟩
  refine j6 (fun i σ H'=>IH fun (v10 v11 v12 v13 v14 v15:Option V) (ys:List V) (es:List DX) (t':Int)=>σ=[some (.ref b),some (.int mp),some (.int mt),some (.int wy),some (.bl great),some (.ref pl),some (.int mn),some (.ref sl),some (.ref W),some (.ref L),v10,v11,v12,v13,v14,v15,none,none]∧H' L=some (.lst ys)∧ae ED H' ys (es.map Dl)∧es.length≤10+i∧i≤es.length∧(∀x∈es,HJ ls x)∧Bx H' b t'∧t7≤t'∧t'≤t7+12*i∧aq (Eb b) J1 H') ⟨_,_,_,_,_,_,ys,es,t7,rfl,hL,iL,by trivial,by trivial,cL,B7,by trivial,by trivial,s7⟩ ?_ ?_
  ·clear hL iL lL cL B7 s7
   rintro i σ G hi ⟨v10,v11,v12,v13,v14,v15,ys,es,t8,rfl,hL,iL,lL,lL',cL,BG,h8a,h8b,sG⟩
   have lys:ys.length=es.length:=by rw [iL.length,List.length_map]
   have hplG:=sG.tup _ _ hplJ
   refine nz (t:=jH _ _) fun DH nH=>?_
   refine bT fun DI nI=>?_
   refine ⟨(),(),pl,(),.inr (ag.of hplG),b,_,t8,rfl,BG,by trivial,mH (by trivial) (by trivial),by trivial,by trivial,fun f t9 G1 f0 f1 _ _ g1 BG1=>nI _ _ ?_⟩
   have hplG1:=g1.tup _ _ hplG
   refine HQ fun DJ nJ=>?_
   refine ⟨(),(),pl,_,_,(),rfl,ag.of hplG1,p8 f0 (by trivial),(),(),_,(),rfl,(),(),pl,(),.inr (ag.of hplG1),_,(),rfl,b,_,t9,rfl,BG1,by trivial,mH (by trivial) (by trivial),by trivial,by trivial,fun r t10 G2 r0 r1 _ _ g2 BG2=>?_⟩
   have hplG2:=g2.tup _ _ hplG1
   obtain ⟨q0,q1,q2⟩:=AK (n:=(ls.length:Int)) (f:=f) (r:=r) f0 (by trivial) r0 (by trivial)
   obtain ⟨la,ela⟩:∃la,la=(f+1+r) % (ls.length:Int):=⟨_,rfl⟩
   rw [←ela] at q0 q1 q2
   have hat:ik (ls.map ar) ((f+1+r) % ((ls.map ar).length:Int))=some (ar ls[la.toNat]):=by rw [el,←ela];exact p8 q0 (by trivial)
   refine ⟨_,(),rfl,(),pl,(),.inr (ag.of hplG2),_,(),rfl,(by show (0:Int)<((ls.map ar).length:Int);trivial),pl,_,_,(),rfl,ag.of hplG2,hat,nJ _ _ _ ?_⟩
   obtain ⟨bg,ebg⟩:∃bg,bg=ls[f.toNat]:=⟨_,rfl⟩
   obtain ⟨en,een⟩:∃en,en=ls[la.toNat]:=⟨_,rfl⟩
   have mbg:bg∈ls:=by rw [ebg];exact List.getElem_mem _
   have men:en∈ls:=by rw [een];exact List.getElem_mem _
   have bne:bg≠en:=fun z=>by
    rw [ebg,een] at z
    have:=jk nd (by trivial) (by trivial) z
    trivial
   rw [←ebg,←een]
   refine bT fun DK nK=>?_
   refine ⟨(),b,t10,rfl,BG2,by trivial,by trivial,fun og n d t11 G3 g3 eg fg lg BG3 h11a h11b=>nK _ _ ?_⟩
   have g03:=(g1.trans g2).trans g3
   have t11a:t8≤t11∧t11≤t8+8:=by trivial
   refine uN (fun σ H'=>tQ fun (og:Addr) (g:KM.Fra) (v15:Option V) (t':Int)=>σ=[some (.ref b),some (.int mp),some (.int mt),some (.int wy),some (.bl great),some (.ref pl),some (.int mn),some (.ref sl),some (.ref W),some (.ref L),some (.int (0+(i:Int))),some (.int f),some (.str (S bg)),some (.str (S en)),some (.ref og),v15,none,none]∧H' og=some (fr g)∧Gb 6 6 g∧1≤g.1∧Bx H' b t'∧t11≤t'∧t'≤t11+1∧aq (Eb b) G3 H') ?_ fun nx=>?_
   ·rintro σ' G4 ⟨og,g,v15,t12,rfl,hog,gg,gg1,BG4,h12a,h12b,g4⟩
    have g04:=g03.trans g4
    have hL4:=g04.old L _ nLb hL
    refine ⟨(),.inl ⟨rfl,_,ah.of hL4⟩,(),(),L,(),.inl (ah.of hL4),_,(),rfl,b,_,t12,rfl,BG4,by trivial,mH (by trivial) (by trivial),by trivial,by trivial,fun r t13 G5 r0 r1 _ _ g5 BG5=>⟨(),(),(),(by show 3≤10000;decide),fun q G6 n6=>?_⟩⟩
    have g06:=(g04.trans g5).trans n6.sm.toE
    have hL6:=g06.old L _ nLb hL
    refine ⟨L,ys,r,.ref q,rfl,rfl,hL6,r0,by trivial,by trivial,fun G7 c7=>nH _ _ ⟨_,_,_,_,_,_,_,es.take r.toNat++(bg,en,g) :: es.drop r.toNat,t13,rfl,c7.at',?_,?_,?_,fun x hx=>?_,(BG5.same n6.sm).ch c7 (fun z=>nLb z.symm),by trivial,by trivial,(sG.trans g06).ch c7 fL⟩⟩
    ·have i6:=iL.tupS g06
     rw [List.map_append,List.map_cons,List.map_take,List.map_drop]
     have nw:aM ED G6 (.ref q) (Dl (bg,en,g)):=.tup n6.at' (.cons (.str _) (.cons (.str _) (.cons (fY (p:=g) (n6.sm _ _ (g5.tup _ _ hog))) .nil)))
     exact ((i6.take _).append (.cons nw (i6.drop _))).mono ⟨fun _ _ n _=>absurd trivial n,fun _ _ e=>c7.tup e hL6⟩
    ·rw [List.length_append,List.length_cons,List.length_take,List.length_drop];trivial
    ·rw [List.length_append,List.length_cons,List.length_take,List.length_drop];trivial
    ·rcases List.mem_append.mp hx with q' | q'
     ·exact cL x (List.mem_of_mem_take q')
     ·rcases List.mem_cons.mp q' with q' | q'
      ·rw [q'];exact ⟨mbg,men,bne,gg,gg1⟩
      ·exact cL x (List.mem_of_mem_drop q')
   ·refine ⟨(),_,(),rfl,(),eV (fun c=>?_) (fun c=>?_)⟩
    ·refine bT fun DM nM=>⟨(by show 2≤10000;decide),fun u1 K1 m1=>⟨(by show 2≤10000;decide),fun u2 K2 m2=>⟨(by show 2≤10000;decide),fun u3 K3 m3=>⟨(by show 2≤10000;decide),fun u4 K4 m4=>⟨(by show 4≤10000;decide),fun l5 K5 m5=>⟨(),b,4,t11,rfl,BG3.same ((((m1.sm.trans m2.sm).trans m3.sm).trans m4.sm).trans m5.sm),by decide,by decide,by trivial,by trivial,fun r6 t12 K6 r60 r61 h6a h6b s6 B6=>?_⟩⟩⟩⟩⟩⟩
     have sm:=(((m1.sm.trans m2.sm).trans m3.sm).trans m4.sm).trans m5.sm
     have nl5:¬l5=b:=fun z=>(BG3.same (((m1.sm.trans m2.sm).trans m3.sm).trans m4.sm)).ne m5.fr z.symm
     have up:∀{u:Addr}{us:List V},K5 u=some (.tup us)→K6 u=some (.tup us):=fun h=>s6.tup _ _ h
     obtain ⟨so,z,eso,hso,gz'⟩:∃so,∃z:KM.Fra,ik [V.ref u1,V.ref u2,V.ref u3,V.ref u4] r6=some (.ref so)∧K6 so=some (fr z)∧(1≤z.1∧z.1≤5∧1≤z.2∧z.2≤6):=by
      obtain rfl | rfl | rfl | rfl:r6=0∨r6=1∨r6=2∨r6=3:=by trivial
      ·exact ⟨u1,(1,1),rfl,up (m5.sm _ _ (m4.sm _ _ (m3.sm _ _ (m2.sm _ _ m1.at')))),by decide⟩
      ·exact ⟨u2,(1,1),rfl,up (m5.sm _ _ (m4.sm _ _ (m3.sm _ _ m2.at'))),by decide⟩
      ·exact ⟨u3,(1,2),rfl,up (m5.sm _ _ (m4.sm _ _ m3.at')),by decide⟩
      ·exact ⟨u4,(5,6),rfl,up (m5.sm _ _ m4.at'),by decide⟩
     refine ⟨l5,_,_,(),rfl,ah.of (s6.old l5 _ nl5 m5.at'),eso,nM _ _ ?_⟩
     have s36:aq (Eb b) G3 K6:=sm.toE.trans s6
     have sJ6:aq (Eb b) J1 K6:=(sG.trans g03).trans s36
     have hW6:=sJ6.old W _ nWb hW
     obtain ⟨w1',z1,v1,hw1,wc1⟩:=wl bg mbg
     obtain ⟨w2',z2,v2,hw2,wc2⟩:=wl en men
     refine ⟨(),(),W,kvs,Sum.inr (S bg),.ref w1',rfl,rfl,hW6,v1,(),(),W,kvs,Sum.inr (S en),.ref w2',rfl,rfl,hW6,v2,w1',w2',z1,z2,_,_,_,(),sJ6.tup _ _ hw1,sJ6.tup _ _ hw2,za wc1,za wc2,by decide,by decide,by decide,by decide,(fun _=>wc2.1),fun q K7 n7=>⟨(),q,so,_,z,4,4,3,3,rfl,n7.at',n7.sm _ _ hso,(za wc1).ovr (za wc2) wc2.1 (by decide) (by decide),⟨(show z.1.natAbs<8 by trivial),(show z.2.natAbs<8 by trivial),gz'.2.2.1⟩,by decide,by decide,by decide,by decide,(fun z=>by cases z),fun q2 K8 n8=>nx _ _ ?_⟩⟩
     have wg:=JG wc1 wc2 gz'
     exact ⟨q2,_,_,t12,rfl,n8.at',wg.1,wg.2,(B6.same n7.sm).same n8.sm,by trivial,by trivial,s36.trans (n7.sm.trans n8.sm).toE⟩
    ·exact nx _ _ ⟨og,(n,d),_,t11,rfl,eg,⟨fg.sn,fg.sd,fg.pos⟩,lg,BG3,by trivial,by trivial,aq.refl _⟩
  clear hL iL lL cL B7 s7
  rintro σ G ⟨v10,v11,v12,v13,v14,v15,ys,es,t8,rfl,hL,iL,lL,lL',cL,BG,h8a,h8b,sG⟩
  have t8a:t≤t8∧t8≤t+333:=by trivial
  have les:1≤es.length∧es.length≤34:=by trivial
  have lys:ys.length=es.length:=by rw [iL.length,List.length_map]
  clear h7a h7b h8a h8b lL lL' t6a
  refine nB _ _ ?_
  clear nB
  refine bT fun Q7 nA7=>⟨(by show 0≤10000;decide),fun TL G1 n1=>nA7 _ _ ?_⟩
  have fT:J1 TL=none:=sG.free BG n1.fr
  have nTb:¬TL=b:=fun z=>BG.ne n1.fr z.symm
  refine aT fun DB nB=>?_
  refine ⟨(),(),L,(),ah.of (n1.sm _ _ hL),fun P' G2 n2=>?_⟩
  have eP:G2 P'=some (.lst (ys.take 24)):=by
   have:=n2.at'
   rw [pq (by decide)] at this
   exact this
  have nPb:¬P'=b:=fun z=>(BG.same n1.sm).ne n2.fr z.symm
  have nPT:¬P'=TL:=fun z=>by have:=n1.at';rw [←z,n2.fr] at this;cases this
  have s12:=n1.sm.trans n2.sm
  have iP:ae ED G2 (ys.take 24) ((es.take 24).map Dl):=by
   rw [List.map_take]
   exact (iL.take 24).mono s12.toE
  have lP:(ys.take 24).length=(es.take 24).length:=by rw [List.length_take,List.length_take];trivial
  refine ⟨P',rfl,⟨_,ah.of n2.at'⟩,?_⟩
  refine jm (xs:=ys.take 24) (fun i σ H'=>KR fun (v12 v13 v14 v17:Option V) (zs:List V) (ts:List aI) (t':Int)=>σ=[some (.ref b),some (.int mp),some (.int mt),some (.int wy),some (.bl great),some (.ref pl),some (.int mn),some (.ref sl),some (.ref W),some (.ref L),v10,v11,v12,v13,v14,v15,some (.ref TL),v17]∧H' TL=some (.lst zs)∧ae ED H' zs (ts.map oB)∧ts.length=i∧(∀x∈ts,qh ls x)∧Bx H' b t'∧t8≤t'∧t'≤t8+4*i∧H' P'=some (.lst (ys.take 24))∧aq (Eb b) J1 H'∧(∀a us,G2 a=some (.tup us)→H' a=some (.tup us))) ⟨_,_,_,_,[],[],t8,rfl,n2.sm _ _ n1.at',.nil,rfl,(fun x hx=>by cases hx),BG.same s12,by trivial,by trivial,eP,sG.trans s12.toE,fun _ _ h=>h⟩ ?_ ?_ ?_
  ·rintro i σ H' _ ⟨_,_,_,_,_,_,_,_,_,_,_,_,_,_,_,q,_⟩
   exact ah.of q
  ·rintro i x σ F0 hx ⟨v12,v13,v14,v17,zs,ts,t9,rfl,hT,iT,lT,cT,BF,h9a,h9b,hP,sF,tF⟩
   have hi:i<(ys.take 24).length:=(List.getElem?_eq_some_iff.mp hx).1
   have h24:(ys.take 24).length≤24:=by rw [List.length_take];trivial
   obtain ⟨dx,edx,gx⟩:=iP.get hx
   rw [List.getElem?_map] at edx
   obtain ⟨tr,etr,rfl⟩:=Option.map_eq_some_iff.mp edx
   have tc:=cL tr (List.mem_of_mem_take (List.mem_of_getElem? etr))
   obtain ⟨o,og,rfl,ho,hog⟩:aZ fun o og=>x=.ref o∧G2 o=some (.tup [.str (S tr.1),.str (S tr.2.1),.ref og])∧G2 og=some (fr tr.2.2):=by
    cases gx with
    | @tup a xs _ h r'=>
     cases r' with
     | @cons u1 _ _ _ h1 r'=>
     cases r' with
     | @cons u2 _ _ _ h2 r'=>
     cases r' with
     | @cons u3 _ _ _ h3 r'=>
     cases r'
     cases h1
     cases h2
     obtain ⟨og,rfl,hog⟩:=iG h3
     exact ⟨a,og,rfl,h,hog⟩
   have lzs:zs.length=ts.length:=by rw [iT.length,List.length_map]
   refine ⟨o,(),ag.of (tF _ _ ho),rfl,_,(),_,(),_,(),rfl,?_⟩
   dsimp only
   refine bT fun Q8 nA8=>⟨(),b,t9,rfl,BF,by trivial,by trivial,fun om zm t10 F1 f1 hom gm zm0 zmc BF1 h10a h10b=>nA8 _ _ ?_⟩
   have hT1:=f1.old TL _ nTb hT
   refine ⟨(),.inl ⟨rfl,_,ah.of hT1⟩,(),(),(),(),(),b,t10,rfl,BF1,by trivial,by trivial,fun op zp t11 F2 f2 hop gp zp0 _ BF2 h11a h11b=>⟨(by show 5≤10000;decide),fun q F3 n3=>?_⟩⟩
   have f03:aq (Eb b) F0 F3:=(f1.trans f2).trans n3.sm.toE
   have hT3:=f03.old TL _ nTb hT
   refine ⟨TL,_,(),rfl,hT3,by trivial,fun F4 c4=>⟨_,_,_,_,zs++[.ref q],ts++[⟨tr.1,tr.2.1,zm,tr.2.2,zp⟩],t11,rfl,c4.at',?_,by rw [List.length_append,lT];rfl,fun x hx=>?_,(BF2.same n3.sm).ch c4 (fun z=>nTb z.symm),by trivial,by trivial,c4.ol P' _ nPT (f03.old P' _ nPb hP),(sF.trans f03).ch c4 fT,fun a us h=>c4.tup (f03.tup _ _ (tF a us h)) hT3⟩⟩
   ·rw [List.map_append]
    refine gB c4 hT3 (iT.tupS f03) ?_
    exact .tup n3.at' (.cons (.str _) (.cons (.str _) (.cons (fY (p:=zm) (n3.sm _ _ (f2.tup _ _ hom))) (.cons (fY (p:=tr.2.2) (f03.tup _ _ (tF _ _ hog))) (.cons (fY (p:=zp) (n3.sm _ _ hop)) .nil)))))
   ·rcases List.mem_append.mp hx with q' | q'
    ·exact cT x q'
    ·rw [List.mem_singleton.mp q']
     exact ⟨tc.b,tc.e,tc.ne,gm,tc.g,tc.g1,gp,zm0,zmc⟩
  rintro σ F0 ⟨v12,v13,v14,v17,zs,ts,t9,rfl,hT,iT,lT,cT,BF,h9a,h9b,hP,sF,tF⟩
  refine nB _ _ ?_
  have l24:(ys.take 24).length≤24∧1≤(ys.take 24).length:=by rw [List.length_take];trivial
  have lzs:zs.length=ts.length:=by rw [iT.length,List.length_map]
  have hplF:=sF.tup _ _ hplJ
  refine uN (fun σ H'=>fD fun (zs:List V) (ts:List aI) (t':Int)=>σ=[some (.ref b),some (.int mp),some (.int mt),some (.int wy),some (.bl great),some (.ref pl),some (.int mn),some (.ref sl),some (.ref W),some (.ref L),v10,v11,v12,v13,v14,v15,some (.ref TL),v17]∧H' TL=some (.lst zs)∧ae ED H' zs (ts.map oB)∧1≤ts.length∧ts.length≤24∧(∀x∈ts,qh ls x)∧Bx H' b t'∧t9≤t'∧t'≤t9+1∧aq (Eb b) J1 H') ?_ fun nx=>?_
  ·rintro σ' F1 ⟨zs,ts,t10,rfl,hT,iT,l1,l2',cT,BF,h10a,h10b,sF⟩
   refine ⟨(),(),TL,(),ah.of hT,fun q F2 n2'=>⟨(by show 2≤10000;decide),fun v F3 n3=>?_⟩⟩
   have s23:=n2'.sm.trans n3.sm
   refine k (.ref v) ls ts t10 F3 ((s01.trans sF).trans s23.toE) ?_ l2 l10 nd nc l1 l2' cT (BF.same s23) (by trivial) (by trivial)
   refine .tup n3.at' (.cons (.tup (s23 _ _ (sF.tup _ _ hplJ)) (zk ls)) (.cons (.tup (n3.sm _ _ n2'.at') (iT.mono s23.toE)) .nil))
  ·refine ⟨(),TL,(),.inl (ah.of hT),_,(),rfl,(),eV (fun c=>?_) (fun c=>?_)⟩
   ·have hlt:(zs.length:Int)<24:=of_decide_eq_true c
    refine ⟨(),b,4,t9,rfl,BF,by decide,by decide,by trivial,by trivial,fun r t10 F1 r0 r1 _ _ f1 BF1=>⟨rfl,(),eV (fun c'=>?_) (fun c'=>?_)⟩⟩
    ·have hT1:=f1.old TL _ nTb hT
     obtain ⟨y0,ey0⟩:∃y0,zs[0]?=some y0:=⟨_,List.getElem?_eq_getElem (by trivial)⟩
     obtain ⟨d0,ed0,g0⟩:=iT.get ey0
     rw [List.getElem?_map] at ed0
     obtain ⟨tt,et,rfl⟩:=Option.map_eq_some_iff.mp ed0
     refine ⟨(),.inl ⟨rfl,_,ah.of hT1⟩,(),TL,_,_,(),rfl,ah.of hT1,cv (j:=0) ey0,TL,_,(),rfl,hT1,by trivial,fun F2 c2=>nx _ _ ⟨_,ts++[tt],t10,rfl,c2.at',?_,by simp,by rw [List.length_append];simp;trivial,fun x hx=>?_,BF1.ch c2 (fun z=>nTb z.symm),by trivial,by trivial,(sF.trans f1).ch c2 fT⟩⟩
     ·rw [List.map_append]
      exact gB c2 hT1 (iT.tupS f1) (g0.tupS (F:=ED) f1)
     ·rcases List.mem_append.mp hx with q' | q'
      ·exact cT x q'
      ·rw [List.mem_singleton.mp q'];exact cT tt (List.mem_of_getElem? et)
    ·exact nx _ _ ⟨zs,ts,t10,rfl,f1.old TL _ nTb hT,iT.tupS f1,by trivial,by trivial,cT,BF1,by trivial,by trivial,sF.trans f1⟩
   ·exact aR (nx _ _ ⟨zs,ts,t9,rfl,hT,iT,by trivial,by trivial,cT,BF,by trivial,by trivial,sF⟩)
end
end K18
namespace K18
open PySem L2
set_option maxHeartbeats 4000000
structure zJ (ls:List (List Nat)) (t:aI):Prop where
 b:t.bg∈ls
 e:t.en∈ls
 ne:t.bg≠t.en
 fm:Gb 1900 1900 t.most
 fg:Gb 6 6 t.gain
 g1:1≤t.gain.1
theorem IS (p:KM.Fra):PyData.eqv (cM p) (cM (0,1))=decide (p=(0,1)):=by
 have e1:PyData.eqv (cM p) (cM (0,1))=(p.1==0 && (p.2==1 && true)):=by simp [PyData.eqv,PyData.eqvAll]
 rw [e1]
 obtain ⟨a,b⟩:=p
 by_cases h1:a=0
 ·by_cases h2:b=1
  ·subst h1 h2;rfl
  ·simp [h1,h2]
 ·simp [h1]
theorem uy {p:KM.Fra}{a b:Nat} (h:Gb a b p) (ha:a≤1900) (hb:b≤1900):Wt (cM p) 3 1:=.tuple (.cons (.int (h.n.mono ha)) (.cons (.int (h.d.mono hb)) .nil))
theorem Iz:Gb 1 1 (0,1):=⟨show (0:Int).natAbs<2 ^ 1 by decide,show (1:Int).natAbs<2 ^ 1 by decide,by decide⟩
section
variable {P:Program}{w:World}{K:PySem.W.Frag}{mg:Str→Option Value}{base:Heap}
inductive Gp (vs:List V) (H:Hp) (Q:VK):Prop
 | mk (v:V) (t:aI) (ls:List (List Nat)) (h0:vs=[v]) (h1:aM ED H v (oB t)) (h2:zJ ls t) (h3:∀H',ad H H'→Q (.bl (decide (t.most=(0,1)))) H')
def HU:Sp:=fun vs H Q _=>Gp  vs H Q
theorem Ci (T:Txt K mg):aY P w K mg base CX0 1 T.is_shut_.f T.is_shut_.d ["tie"] HU:=by
 refine T.is_shut_.F.ok Cv (fun vs H Q E h=>?_) (fun cdv A outer s H vs Q E hr h=>?_)
 ·obtain ⟨v,t,ls,rfl,_⟩:=h
  rfl
 ·obtain ⟨v,t,ls,rfl,hv,tc,k⟩:=h
  obtain ⟨o,om,og,op,rfl,ho,hom,hog,hop⟩:=oU hv
  refine ⟨_,#[ac 3 #[aw 4 #[oa 8 (@Cw _ hr.units) #[#[0,yT][#[()]]] #[ak 5 #[[#[()],#[()]]]] #[(),()]]]],?_⟩
  refine ⟨(),o,_,_,(),rfl,ag.of ho,rfl,(by show 2≤10000;decide),fun q H1 n1=>⟨cM t.most,cM (0,1),ED,ED,_,_,_,_,fY (n1.sm _ _ hom),fY (p:=(0,1)) n1.at',uy tc.fm (by decide) (by decide),uy Iz (by decide) (by decide),by decide,?_⟩⟩
  have:=k H1 n1.sm
  rw [←IS] at this
  exact this
inductive DW (H:Hp) (W:Addr) (ls:List (List Nat)) (ω:List Nat→KM.Fra) (n:Nat):Prop
 | mk (kvs:_) (h0:H W=some (.dK kvs)) (h1:kvs.length≤n) (h2:∀l∈ls,∃o,valD kvs (Sum.inr (S l))=some (.ref o)∧H o=some (fr (ω l)))
inductive DO (H:Hp) (O:Addr) (ls:List (List Nat)) (on:List Nat→Option Nat) (n:Nat):Prop
 | mk (kvs:_) (h0:H O=some (.dK kvs)) (h1:kvs.length≤n) (h2:∀l∈ls,valD kvs (Sum.inr (S l))=(on l).map fun k:Nat=>V.int (k:Int))
def zS:Option (List Nat)→V
 | none=>.non
 | some l=>ar l
def xi (W O:Addr) (H H':Hp):Prop:=∀a o,a≠W→a≠O→H a=some o→H' a=some o
theorem xi.tup {W O a:Addr}{H H':Hp}{k1 k2:List (ay×V)}{us:List V} (h:xi W O H H') (hW:H W=some (.dK k1)) (hO:H O=some (.dK k2)) (ha:H a=some (.tup us)):H' a=some (.tup us):=
 h a _ (fun z=>by rw [z,hW] at ha;cases ha) (fun z=>by rw [z,hO] at ha;cases ha) ha
theorem rK (kvs:List (ay×V)) (k:ay) (v:V):(dM kvs k v).length≤kvs.length+1:=by
 unfold dM
 split
 ·rw [List.length_map];trivial
 ·rw [List.length_append];exact Nat.le_refl _
theorem uv {a b:List Nat} (h:a≠b):(Sum.inr (S a):ay)≠Sum.inr (S b):=fun z=>by
 injection z with z
 exact h (gW z)
theorem zJ.tok {ls:List (List Nat)}{t:aI} (h:zJ ls t):wJ ls t:=⟨h.b,h.e,h.ne,h.g1,h.fg.pos⟩
inductive GE (vs:List V) (H:Hp) (Q:VK):Prop
 | mk (v:V) (W O:Addr) (ls:List (List Nat)) (ts:List aI) (s:LS) (p n c:Nat) (h0:vs=[v,.ref W,.ref O]) (h1:aM ED H v (gF ls ts)) (h2:(∀t∈ts,zJ ls t)) (h3:ts.length≤60) (h4:¬W=O) (h5:DW H W ls s.ω n) (h6:DO H O ls s.on n) (h7:n≤3000) (h8:(∀l∈ls,Gb c c (s.ω l)∧1≤(s.ω l).1)) (h9:c≤3600) (h10:∀H':Hp,xi W O H H'→DW H' W ls (rW p ts s).ω (n+ts.length)→DO H' O ls (rW p ts s).on (n+ts.length)→(∀l∈ls,Gb (c+6*ts.length) (c+6*ts.length) ((rW p ts s).ω l)∧1≤((rW p ts s).ω l).1)→Q (zS (rW p ts s).lf) H')
def HY:Sp:=fun vs H Q _=>GE  vs H Q
theorem zR (T:Txt K mg):aY P w K mg base CX0 4 T.lift_once_.f T.lift_once_.d ["net", "worths", "onward"] HY:=by
 have G_is_shut:=#[(Ci)]
 have G_times:=#[(zI)]
 have G_compared:=#[(vE)]
 refine T.lift_once_.F.ok bZ (fun vs H Q E h=>?_) (fun cdv A outer s H vs Q E hr h=>?_)
 ·obtain ⟨v,W,O,ls,ts,st,p,n,c,rfl,_⟩:=h
  rfl
 ·obtain ⟨v,W,O,ls,ts,st,p,n,c,rfl,hv,tc,h40,nWO,⟨kv0,hW0,lW0,vW0⟩,⟨ko0,hO0,lO0,vO0⟩,hn,gω,hc,k⟩:=h
  obtain ⟨na,pa,ta,ys,rfl,hna,hpa,hta,ity⟩:=jf hv
  have lys:ys.length=ts.length:=by rw [ity.length,List.length_map]
  refine ⟨_,#[#[3,bZ.nd,ju,#[cR 3]] :: #[#[cC 8 PassesOwn.never rfl (@wq _ (K) _ _ _ _ _ _ _ qy T.b_enumerate #[[#[#[0,xb][#[()]]]]] (by rfl) (by rfl)) (@bM _ (K) _ _ _ _ (2) rfl #[aj 5 #[4,bZ.nd,mq] #[aj 5 #[5,bZ.nd,kJ] (@bK _) (by rfl)] (by rfl)] (by rfl) (by rfl) (by rfl)) #[#[cW 6 #[5,kJ] (@bM _ (K) _ _ _ _ (5) rfl #[aj 5 #[6,bZ.nd,cY] #[aj 5 #[7,bZ.nd,kD] #[aj 5 #[8,bZ.nd,vT] #[aj 5 #[9,bZ.nd,oN] #[aj 5 #[10,bZ.nd,uV] (@bK _) (by rfl)] (by rfl)] (by rfl)] (by rfl)] (by rfl)] (by rfl) (by rfl) (by rfl)) (by rfl) (by rfl) (by rfl)] :: #[#[bh 8 #[PW.pt 3 #[iX 7 #[jx 3 #[G_is_shut,sN,T.is_shut_,#[[#[5,kJ]]]] (by intro _;rfl)] #[jQ 4 #[ap 8 (@rZ _) #[7,kD] #[1,dS] rfl]]]] #[ac 3 #[Am 2]] (@aK _)] :: #[#[11,bZ.nd,jG,#[G_times,uZ,T.times_,#[[#[9,oN],#[cF 7 (@fK _) #[1,dS] #[7,kD] (fun _ _=>rfl)]]]]] :: #[ac 3 #[bh 8 #[PW.pt 3 #[iX 7 #[ap 8 (@rZ _) #[6,cY] #[1,dS] rfl] #[jQ 4 #[ap 8 (@lM _) #[G_compared,rM,T.compared_,#[[#[11,jG],#[cF 7 (@fK _) #[1,dS] #[6,cY] (fun _ _=>rfl)]]]] #[()] #[(),()]]]]] #[#[cW 6 #[11,jG] #[kP 7 #[1,dS] #[6,cY] (@rj _) (by intro _;rfl)] (by rfl) (by rfl) (by rfl)] :: #[#[cW 6 #[4,mq] #[kP 7 #[2,tO] #[6,cY] (@rj _) (by intro _;rfl)] (by rfl) (by rfl) (by rfl)] :: #[ac 3 #[3,bZ.nd,ju,#[6,cY]]]]] (@aK _)]]]]] (by intro _;rfl)] :: #[ac 3 #[aw 4 #[3,ju]]]]],?_⟩
  refine bT fun Q1 nA=>nA _ _ ?_
  refine aT fun DB nB=>?_
  refine ⟨(),na,_,_,(),rfl,ag.of hna,rfl,ta,false,rfl,⟨ys,ag.of hta⟩,ut (xs:=ys) (fun i σ H'=>Ez fun (v4 v5 v6 v7 v8 v9 v10 v11:Option V) (kv ko:List (ay×V))=>σ=[some (.ref na),some (.ref W),some (.ref O),some (zS (upTo p ts st i).lf),v4,v5,v6,v7,v8,v9,v10,v11]∧H' W=some (.dK kv)∧kv.length≤n+i∧(∀l∈ls,∃o,valD kv (Sum.inr (S l))=some (.ref o)∧H' o=some (fr ((upTo p ts st i).ω l)))∧H' O=some (.dK ko)∧ko.length≤n+i∧(∀l∈ls,valD ko (Sum.inr (S l))=((upTo p ts st i).on l).map fun k:Nat=>V.int (k:Int))∧(∀l∈ls,Gb (c+6*i) (c+6*i) ((upTo p ts st i).ω l)∧1≤((upTo p ts st i).ω l).1)∧xi W O H H') ⟨_,_,_,_,_,_,_,_,kv0,ko0,rfl,hW0,by trivial,vW0,hO0,by trivial,vO0,gω,fun _ _ _ _ h=>h⟩ ?_ ?_ ?_⟩
  ·rintro i σ H' _ ⟨v4,v5,v6,v7,v8,v9,v10,v11,kv,ko,rfl,_,_,_,_,_,_,_,f2⟩
   exact ag.of (f2.tup hW0 hO0 hta)
  ·rintro i x T' σ J0 hx hT ⟨v4,v5,v6,v7,v8,v9,v10,v11,kv,ko,rfl,hW,lW,vW,hO,lO,vO,gω,f2⟩
   have hi:i<ys.length:=(List.getElem?_eq_some_iff.mp hx).1
   have nT:Nw J0 T' (.tup [.int (i:Int),x]) (aN J0 T' (.tup [.int (i:Int),x])):=.mk' hT
   generalize aN J0 T' (.tup [.int (i:Int),x])=J1 at nT ⊢
   obtain ⟨dy,edy,gy⟩:=ity.get hx
   rw [List.getElem?_map] at edy
   obtain ⟨t,et,rfl⟩:=Option.map_eq_some_iff.mp edy
   have tt:=tc t (List.mem_of_getElem? et)
   have eU:=pf (p:=p) (s:=st) et
   obtain ⟨o,om,og,op,rfl,ho,hom,hog,hop⟩:=oU gy
   generalize upTo p ts st i=U at eU vW vO gω ⊢
   have up1:∀{a:Addr}{us:List V},H a=some (.tup us)→J1 a=some (.tup us):=fun h=>nT.sm _ _ (f2.tup hW0 hO0 h)
   have gyJ:aM ED J1 (.ref o) (oB t):=.tup (up1 ho) (.cons (.str _) (.cons (.str _) (.cons (fY (p:=t.most) (up1 hom)) (.cons (fY (p:=t.gain) (up1 hog)) (.cons (fY (p:=t.price) (up1 hop)) .nil)))))
   have grow:∀l∈ls,Gb (c+6*(i+1)) (c+6*(i+1)) (U.ω l)∧1≤(U.ω l).1:=fun l hl=>⟨(gω l hl).1.mono (by trivial) (by trivial),(gω l hl).2⟩
   have keep:∀{J:Hp}{w4 w5 w6 w7 w8 w9 w10 w11:Option V},gI U.ω t=false→ad J0 J→Ez fun (v4 v5 v6 v7 v8 v9 v10 v11:Option V) (kv ko:List (ay×V))=>[some (V.ref na),some (.ref W),some (.ref O),some (zS U.lf),w4,w5,w6,w7,w8,w9,w10,w11]=[some (.ref na),some (.ref W),some (.ref O),some (zS (upTo p ts st (i+1)).lf),v4,v5,v6,v7,v8,v9,v10,v11]∧J W=some (.dK kv)∧kv.length≤n+(i+1)∧(∀l∈ls,∃o,valD kv (Sum.inr (S l))=some (.ref o)∧J o=some (fr ((upTo p ts st (i+1)).ω l)))∧J O=some (.dK ko)∧ko.length≤n+(i+1)∧(∀l∈ls,valD ko (Sum.inr (S l))=((upTo p ts st (i+1)).on l).map fun k:Nat=>V.int (k:Int))∧(∀l∈ls,Gb (c+6*(i+1)) (c+6*(i+1)) ((upTo p ts st (i+1)).ω l)∧1≤((upTo p ts st (i+1)).ω l).1)∧xi W O H J:=by
    intro J w4 w5 w6 w7 w8 w9 w10 w11 no sJ
    rw [eU,rQ no]
    exact ⟨_,_,_,_,_,_,_,_,kv,ko,rfl,sJ _ _ hW,by trivial,(fun l hl'=>let ⟨o',v',h'⟩:=vW l hl';⟨o',v',sJ _ _ h'⟩),sJ _ _ hO,by trivial,vO,grow,fun a u h1 h2 h=>sJ _ _ (f2 a u h1 h2 h)⟩
   refine ⟨T',(),ag.of nT.at',rfl,_,(),_,(),rfl,?_⟩
   dsimp only
   refine ⟨(),o,(),ag.of (up1 ho),rfl,_,(),_,(),_,(),_,(),_,(),rfl,?_⟩
   dsimp only
   refine uN (fun σ' H'=>t.most≠(0,1)∧σ'=[some (.ref na),some (.ref W),some (.ref O),some (zS U.lf),some (.int (i:Int)),some (.ref o),some (.str (S t.bg)),some (.str (S t.en)),some (.ref om),some (.ref og),some (.ref op),v11]∧ad J1 H') ?_ fun nx=>?_
   ·rintro σ' J2 ⟨hopen,rfl,s2⟩
    have s02:=nT.sm.trans s2
    obtain ⟨oe,ve,hoe⟩:=vW t.en tt.e
    obtain ⟨ob,vb,hob⟩:=vW t.bg tt.b
    obtain ⟨ge,pe1⟩:=gω t.en tt.e
    obtain ⟨gb,pb1⟩:=gω t.bg tt.b
    obtain ⟨g1,g2⟩:=gz tt.fg (by decide) (by decide)
    obtain ⟨e1,e2⟩:=gz ge (by trivial) (by trivial)
    obtain ⟨b1,b2⟩:=gz gb (by trivial) (by trivial)
    refine bT fun Q2 nA2=>⟨(),(),(),W,kv,Sum.inr (S t.en),.ref oe,rfl,rfl,s02 _ _ hW,ve,og,oe,_,_,_,(),s2 _ _ (up1 hog),s02 _ _ hoe,⟨g1,g2,e1,e2,gd tt.fg ge⟩,fun q J3 n3=>nA2 _ _ ?_⟩
    have gq:Gb (c+6*(i+1)) (c+6*(i+1)) (KM.lTim t.gain (U.ω t.en)):=tt.fg.tim ge (by trivial) (by trivial)
    obtain ⟨q1,q2⟩:=gz gq (by trivial) (by trivial)
    have s03:=s02.trans n3.sm
    refine ⟨(),(),W,kv,Sum.inr (S t.bg),rfl,rfl,s03 _ _ hW,(),?_⟩
    rw [vb]
    refine aR ?_
    refine ⟨(),(),(),W,kv,Sum.inr (S t.bg),.ref ob,rfl,rfl,s03 _ _ hW,vb,q,ob,_,_,_,(),n3.at',s03 _ _ hob,q1,q2,b1,b2,_,(),rfl,(),?_⟩
    have ecmp:decide (0<rN ((KM.lTim t.gain (U.ω t.en)).1*(U.ω t.bg).2) ((U.ω t.bg).1*(KM.lTim t.gain (U.ω t.en)).2))=gI U.ω t:=by
     unfold gI
     rw [decide_eq_true hopen,Bool.true_and]
     exact CM
    refine eV (fun cnd=>?_) (fun cnd=>?_)
    ·have hl:gI U.ω t=true:=ecmp.symm.trans cnd
     refine aT fun DC nC=>⟨(),(),(),W,kv,Sum.inr (S t.bg),rfl,rfl,s03 _ _ hW,by trivial,fun J4 c4=>nC _ _ ?_⟩
     have hO4:=c4.ol O _ (fun z=>nWO z.symm) (s03 _ _ hO)
     refine aT fun DE nE=>⟨(),(),(),O,ko,Sum.inr (S t.bg),rfl,rfl,hO4,by trivial,fun J5 c5=>nE _ _ ?_⟩
     have tupJ:∀{a:Addr}{us:List V},J3 a=some (.tup us)→J5 a=some (.tup us):=fun {a us} h=>c5.ol a _ (fun z=>by rw [z,s03 _ _ hO] at h;cases h) (c4.ol a _ (fun z=>by rw [z,s03 _ _ hW] at h;cases h) h)
     have fin:Ez fun (v4 v5 v6 v7 v8 v9 v10 v11:Option V) (kv ko:List (ay×V))=>[some (V.ref na),some (.ref W),some (.ref O),some (.str (S t.bg)),some (.int (i:Int)),some (.ref o),some (.str (S t.bg)),some (.str (S t.en)),some (.ref om),some (.ref og),some (.ref op),some (.ref q)]=[some (.ref na),some (.ref W),some (.ref O),some (zS (upTo p ts st (i+1)).lf),v4,v5,v6,v7,v8,v9,v10,v11]∧J5 W=some (.dK kv)∧kv.length≤n+(i+1)∧(∀l∈ls,∃o,valD kv (Sum.inr (S l))=some (.ref o)∧J5 o=some (fr ((upTo p ts st (i+1)).ω l)))∧J5 O=some (.dK ko)∧ko.length≤n+(i+1)∧(∀l∈ls,valD ko (Sum.inr (S l))=((upTo p ts st (i+1)).on l).map fun k:Nat=>V.int (k:Int))∧(∀l∈ls,Gb (c+6*(i+1)) (c+6*(i+1)) ((upTo p ts st (i+1)).ω l)∧1≤((upTo p ts st (i+1)).ω l).1)∧xi W O H J5:=by
      rw [eU,ph hl]
      refine ⟨_,_,_,_,_,_,_,_,_,(),c5.ol W _ nWO c4.at',by have:=rK kv (Sum.inr (S t.bg)) (.ref q);trivial,fun l hl'=>?_,c5.at',by have:=rK ko (Sum.inr (S t.bg)) (.int (i:Int));trivial,fun l hl'=>?_,fun l hl'=>?_,fun a u h1 h2 h=>c5.ol a _ h2 (c4.ol a _ h1 (s03 _ _ (f2 a u h1 h2 h)))⟩
      ·rw [mj]
       by_cases cl:l=t.bg
       ·subst cl
        refine ⟨q,if_pos rfl,?_⟩
        show J5 q=some (fr (eJ _ _ _ _))
        unfold eJ
        rw [if_pos rfl]
        exact tupJ n3.at'
       ·rw [if_neg (uv cl)]
        obtain ⟨o',v',h'⟩:=vW l hl'
        refine ⟨o',v',?_⟩
        show J5 o'=some (fr (eJ _ _ _ _))
        unfold eJ
        rw [if_neg cl]
        exact tupJ (s03 _ _ h')
      ·rw [mj]
       by_cases cl:l=t.bg
       ·subst cl
        rw [if_pos rfl]
        show _=Option.map _ (if _ then _ else _)
        rw [if_pos rfl]
        rfl
       ·rw [if_neg (uv cl),vO l hl']
        show _=Option.map _ (if _ then _ else _)
        rw [if_neg cl]
      ·show Gb _ _ (eJ _ _ _ _)∧1≤(eJ _ _ _ _).1
       unfold eJ
       by_cases cl:l=t.bg
       ·rw [if_pos cl];exact ⟨gq,nX tt.g1 tt.fg.pos pe1 ge.pos⟩
       ·rw [if_neg cl];exact grow l hl'
     exact ⟨(),fin⟩
    ·have hl:gI U.ω t=false:=by
      rw [←ecmp]
      exact Bool.eq_false_iff.mpr cnd
     exact keep hl s03
   ·refine ⟨(),.ref o,t,ls,rfl,gyJ,tt,fun J2 s2=>⟨(),?_⟩⟩
    have s02:=nT.sm.trans s2
    by_cases hs:t.most=(0,1)
    ·rw [decide_eq_true hs]
     refine bF (bF ?_)
     exact keep (by unfold gI;rw [decide_eq_false (fun z=>z hs)];rfl) s02
    ·rw [decide_eq_false hs]
     obtain ⟨oe,ve,hoe⟩:=vW t.en tt.e
     refine aR ⟨(),(),W,kv,Sum.inr (S t.en),rfl,rfl,s02 _ _ hW,(),?_⟩
     rw [ve]
     exact aR (nx _ _ ⟨hs,rfl,s2⟩)
  ·rintro σ J ⟨v4,v5,v6,v7,v8,v9,v10,v11,kv,ko,rfl,hW,lW,vW,hO,lO,vO,gω,f2⟩
   rw [lys] at lW lO gω vW vO ⊢
   exact nB _ _ ⟨(),k J f2 ⟨kv,hW,by trivial,vW⟩ ⟨ko,hO,by trivial,vO⟩ fun l hl=>⟨(gω l hl).1.mono (by trivial) (by trivial),(gω l hl).2⟩⟩
end
end K18
namespace K18
open PySem L2
set_option maxHeartbeats 4000000
abbrev wa (xs:List Nat):List V:=xs.map fun i:Nat=>V.int ((i:Nat):Int)
theorem CC {c:TT}{tb:TS}{D:fj}{σ:St}{H:Hp} (Pv:Nat→St→Hp→Prop) (m:Nat) (h0:Pv m σ H)
 (hs:∀m σ H,Pv m σ H→∀(Q:Bool→Hp→Prop) (D':fj),(∀m' σ' H',m'<m→Pv m' σ' H'→D'.nx σ' H')→(∀v H',D.rt v H'→D'.rt v H')→(∀H1,tb D' σ H1→Q true H1)→(∀H1,D.nx σ H1→Q false H1)→c σ H Q):D0 c tb D σ H:=by
 refine ⟨Pv,⟨m,h0⟩,fun m σ H h=>?_⟩
 refine hs m σ H h _ { D with nx:=fun σ' H'=>∃m',m'<m∧Pv m' σ' H',ct:=fun σ' H'=>∃m',m'<m∧Pv m' σ' H',bk:=D.nx } (fun m' σ' H' hm hp=>⟨m',hm,hp⟩) (fun _ _ z=>z) (fun H1 t=>?_) fun H1 t=>?_
 ·rw [if_pos rfl]
  exact ⟨_,fun _ _ z=>z,t⟩
 ·rw [if_neg (by decide)]
  exact t
theorem Di {xs:List V}{j:Nat} (h:j≤xs.length):gQ xs (some (j:Int)) none=xs.drop j:=by
 unfold gQ
 rw [HT.sIx_none,HT.sIx_nat,Nat.min_eq_left h]
 exact List.take_of_length_le (by rw [List.length_drop];exact Nat.le_refl _)
section
variable {P:Program}{w:World}{K:PySem.W.Frag}{mg:Str→Option Value}{base:Heap}
inductive E9 (vs:List V) (H:Hp) (Q:VK):Prop
 | mk (v:V) (O:Addr) (ls:List (List Nat)) (ts:List aI) (st:LS) (l0:List Nat) (n:Nat) (h0:vs=[v,.ref O,ar l0]) (h1:aM ED H v (gF ls ts)) (h2:(∀t∈ts,zJ ls t)) (h3:ls.length≤10) (h4:DO H O ls st.on n) (h5:BI ls ts ls.length ts.length st) (h6:st.lf=some l0) (h7:∀(R:List Nat) (us:List aI) (r:Addr) (H':Hp),Cb ts R us→R.length≤10→ad H H'→H r=none→H' r=some (.lst (wa R))→Q (.ref r) H')
def F7:Sp:=fun vs H Q _=>E9  vs H Q
theorem xT (T:Txt K mg):aY P w K mg base CX0 1 T.round_ahead_.f T.round_ahead_.d ["net", "onward", "place"] F7:=by
 refine T.round_ahead_.F.ok jy (fun vs H Q E h=>?_) (fun cdv A outer s H vs Q E hr h=>?_)
 ·obtain ⟨v,O,ls,ts,st,l0,n,rfl,_⟩:=h
  rfl
 ·obtain ⟨v,O,ls,ts,st,l0,n,rfl,hv,tc,l10,⟨ko,hO,lO,vO⟩,bi,elf,k⟩:=h
  obtain ⟨na,pa,ta,ys,rfl,hna,hpa,hta,ity⟩:=jf hv
  have tk:∀t∈ts,wJ ls t:=fun t ht=>(tc t ht).tok
  refine ⟨_,#[#[3,jy.nd,eS,#[aL 4 (@bc _)]] :: #[#[4,jy.nd,jl,#[aL 4 (@bc _)]] :: #[#[lp 6 PassesOwn.never #[ap 8 (@qx _ (K) (by rfl)) #[2,cx] #[3,eS] rfl] #[#[cI 4 (@bS _ (K) _ _ _ _ _ _ _ _ _ _ _ PySem.F.plainAttrs_list PySem.F.slot_list_append PySem.F.type_list_append (@bU _) #[3,eS] #[[#[2,cx]]] (by rfl) (by rfl) (by rfl) (by rfl) (by rfl) (by rfl)) (by rfl)] :: #[#[cI 4 (@bS _ (K) _ _ _ _ _ _ _ _ _ _ _ PySem.F.plainAttrs_list PySem.F.slot_list_append PySem.F.type_list_append (@bU _) #[4,jl] #[[#[cF 7 (@fK _) #[1,kG] #[2,cx] (fun _ _=>rfl)]]] (by rfl) (by rfl) (by rfl) (by rfl) (by rfl) (by rfl)) (by rfl)] :: #[ac 3 #[2,jy.nd,cx,#[#[#[#[0,uU][#[()]]][#[cF 7 (@fK _) #[1,kG] #[2,cx] (fun _ _=>rfl)]]][#[()]]]]]]]] :: #[ac 3 #[aw 4 #[dI 10 (@jt _ (K) (by rfl)) #[4,jl] #[d7 3 (@bS _ (K) _ _ _ _ _ _ _ _ _ _ _ PySem.F.plainAttrs_list PySem.F.slot_list_index PySem.F.type_list_index (@CW _) #[3,eS] #[[#[2,cx]]] (by rfl) (by rfl) (by rfl) (by rfl) (by rfl) (by rfl))] (@fS _)]]]]]],?_⟩
  refine bT fun Q1 nA1=>⟨Nat.zero_le _,fun pl J1 n1=>nA1 _ _ ?_⟩
  refine bT fun Q2 nA2=>⟨Nat.zero_le _,fun tl J2 n2=>nA2 _ _ ?_⟩
  have fpl:H pl=none:=n1.fr
  have ftl:H tl=none:=n1.sm.free n2.fr
  have nlt:¬pl=tl:=fun z=>by have:=n2.fr;rw [←z,n1.at'] at this;cases this
  refine aT fun DB nB=>?_
  refine CC (fun m σ H'=>fD fun (us:List aI) (ks:List Nat) (c:List Nat)=>σ=[some (.ref na),some (.ref O),some (ar c),some (.ref pl),some (.ref tl)]∧m=ls.length - us.length∧H' pl=some (.lst ((us.map (·.bg)).map ar))∧H' tl=some (.lst (wa ks))∧ks.map (fun k=>ts[k]?)=us.map some∧(∀t∈us,t.most≠(0,1))∧(∀t∈us,Ed st t)∧(us.map (·.bg)).Nodup∧us.map (·.bg)++[c]=l0 :: us.map (·.en)∧c∈ls∧ls.length≤st.la c+us.length∧(∀t∈us,t.bg∈ls)∧ad H H') ls.length ⟨[],[],l0,rfl,rfl,n2.sm _ _ n1.at',n2.at',rfl,(fun t h=>by cases h),(fun t h=>by cases h),List.nodup_nil,rfl,(bi.lf l0 elf).2,by rw [(bi.lf l0 elf).1];exact Nat.le_add_right _ _,(fun t h=>by cases h),n1.sm.trans n2.sm⟩ ?_
  rintro m σ H' ⟨us,ks,c,rfl,rfl,hpl,htl,e1,ho,he,nd,ch,hc,hla,sub,sm⟩ Q D' nD rD qT qF
  have lk:ks.length=us.length:=by have:=congrArg List.length e1;simpa using this
  have lus:us.length≤ls.length:=by
   have:=rh (xs:=us.map (·.bg)) (ys:=ls) nd fun x hx=>by
    obtain ⟨t,ht,rfl⟩:=List.mem_map.mp hx
    exact sub t ht
   rwa [List.length_map] at this
  refine ⟨(),(),pl,(),.inl (ah.of hpl),rfl,Bo _,(),?_⟩
  show Q (!jN (ar c) _) _
  rw [zf]
  cases hcn:(us.map (·.bg)).contains c with
  | false=>
   refine qT _ ?_
   have nc:c∉us.map (·.bg):=fun z=>by
    have:=List.elem_eq_true_of_mem z
    rw [List.contains] at hcn
    rw [this] at hcn
    cases hcn
   have nd2:(us.map (·.bg)++[c]).Nodup:=List.nodup_append.mpr ⟨nd,by simp,fun a ha b hb=>by
    rw [List.mem_singleton.mp hb]
    exact fun z=>nc (z▸ha)⟩
   have ll:us.length+1≤ls.length:=by
    have:=rh (xs:=us.map (·.bg)++[c]) (ys:=ls) nd2 fun x hx=>by
     rcases List.mem_append.mp hx with z | z
     ·obtain ⟨t,ht,rfl⟩:=List.mem_map.mp z
      exact sub t ht
     ·rw [List.mem_singleton.mp z];exact hc
    rwa [List.length_append,List.length_map,List.length_singleton] at this
   obtain ⟨kk,ek⟩:∃kk,st.on c=some kk:=Option.ne_none_iff_exists'.mp (bi.la1 c (by trivial))
   obtain ⟨t,et,op,rfl,le1,lt1,la1⟩:=bi.on c kk ek
   have tt:=tc t (List.mem_of_getElem? et)
   have edt:Ed st t:=⟨xC tt.g1 tt.fg.pos,le1,lt1⟩
   have vo:valD ko (Sum.inr (S t.bg))=some (.int (kk:Int)):=by rw [vO t.bg hc,ek];rfl
   obtain ⟨y,ey⟩:∃y,ys[kk]?=some y:=⟨_,List.getElem?_eq_getElem (by rw [ity.length,List.length_map];exact (List.getElem?_eq_some_iff.mp et).1)⟩
   obtain ⟨dy,edy,gy⟩:=ity.get ey
   rw [List.getElem?_map,et] at edy
   obtain rfl:oB t=dy:=Option.some.inj edy
   obtain ⟨o,om,og,op',rfl,hto,_,_,_⟩:=oU gy
   refine aT fun DC nC=>⟨(),.inl ⟨rfl,_,ah.of hpl⟩,(),pl,_,(),rfl,hpl,by rw [List.length_map,List.length_map];trivial,fun J3 c3=>nC _ _ ?_⟩
   have sm3:ad H J3:=fun a u h=>c3.ol a u (fun z=>by rw [z,fpl] at h;cases h) (sm a u h)
   have htl3:=c3.ol tl _ (fun z=>nlt z.symm) htl
   refine aT fun DE nE=>⟨(),.inl ⟨rfl,_,ah.of htl3⟩,(),(),O,ko,Sum.inr (S t.bg),(),rfl,sm3 _ _ hO,vo,tl,_,(),rfl,htl3,by rw [List.length_map];trivial,fun J4 c4=>nE _ _ ?_⟩
   have sm4:ad H J4:=fun a u h=>c4.ol a u (fun z=>by rw [z,ftl] at h;cases h) (sm3 a u h)
   refine ⟨(),na,_,_,(),rfl,ag.of (sm4 _ _ hna),rfl,(),(),O,ko,Sum.inr (S t.bg),(),rfl,sm4 _ _ hO,vo,ta,ys,_,(),rfl,ag.of (sm4 _ _ hta),cv ey,o,_,_,(),rfl,ag.of (sm4 _ _ hto),rfl,?_⟩
   refine nD (ls.length - (us.length+1)) _ _ (by trivial) ⟨us++[t],ks++[kk],t.en,rfl,by rw [List.length_append];rfl,?_,?_,?_,?_,?_,?_,?_,tt.e,?_,?_,sm4⟩
   ·rw [c4.ol pl _ nlt c3.at']
    simp
   ·rw [c4.at']
    simp [wa]
   ·rw [List.map_append,List.map_append,e1]
    simp [et]
   ·intro x hx
    rcases List.mem_append.mp hx with z | z
    ·exact ho x z
    ·rw [List.mem_singleton.mp z];exact op
   ·intro x hx
    rcases List.mem_append.mp hx with z | z
    ·exact he x z
    ·rw [List.mem_singleton.mp z];exact edt
   ·rw [List.map_append];exact nd2
   ·rw [List.map_append,List.map_append]
    show (us.map (·.bg)++[t.bg])++[t.en]=_
    rw [ch]
    rfl
   ·rw [List.length_append,List.length_singleton];trivial
   ·intro x hx
    rcases List.mem_append.mp hx with z | z
    ·exact sub x z
    ·rw [List.mem_singleton.mp z];exact tt.b
  | true=>
   refine qF _ (nB _ _ ?_)
   obtain ⟨j,hj⟩:=List.getElem?_of_mem (List.contains_iff_mem.mp hcn)
   have lj:j<us.length:=by have:=(List.getElem?_eq_some_iff.mp hj).1;rwa [List.length_map] at this
   refine ⟨(),(),.inl ⟨rfl,_,ah.of hpl⟩,(),pl,_,c,j,rfl,rfl,hpl,by rw [List.length_map];trivial,hj,nd,(),tl,(),ah.of htl,fun r J3 n3=>?_⟩
   have rk:=HM tk bi.pos e1 ho he nd ch hj
   refine k (ks.drop j) (us.drop j) r J3 rk (by rw [List.length_drop];trivial) (sm.trans n3.sm) (sm.free n3.fr) ?_
   rw [n3.at',Di (by rw [List.length_map];trivial)]
   simp only [wa,List.map_drop]
end
end K18
namespace K18
open PySem L2
set_option maxHeartbeats 4000000
section
variable {P:Program}{w:World}{K:PySem.W.Frag}{mg:Str→Option Value}{base:Heap}
theorem Cd {J:It}{n:Nat}{H1:Hp}{D:Addr}{σc:St}{g:TG}{tk tv:TE}{Q:VK} (Pv:Nat→Hp→List (ay×V)→Prop) (hz:n≤4000) (h0:Pv 0 (aN H1 D (.dK [])) [])
 (hD:∀i H ys,Pv i H ys→H D=some (.dK ys)∧ys.length≤i) (hgo:∀i H ys,i<n→Pv i H ys→J.go i H) (hst:∀H ys,Pv n H ys→J.stop n H)
 (hs:∀i H ys x H',i<n→Pv i H ys→J.yld i H x H'→g x σc H' fun σ2 H2=>kQ σc σ2∧tk σ2 H2 fun kv H4=>∃k,kv=dA k∧tv σ2 H4 fun y H5=>H5 D=some (.dK ys)∧Pv (i+1) (aN H5 D (.dK (dM ys k y))) (dM ys k y))
 (hd:∀H ys,Pv n H ys→Q (.ref D) H):Dy J σc g tT tk tv D H1 Q:=by
 refine ⟨fun i m H ys=>m=n - i∧i≤n∧Pv i H ys,⟨n,by simp,Nat.zero_le _,h0⟩,?_⟩
 rintro i m H ys ⟨rfl,hi,p⟩
 obtain ⟨q1,q2⟩:=hD i H ys p
 refine ⟨q1,?_⟩
 by_cases hlt:i<n
 ·refine .inr ⟨hgo i H ys hlt p,by rw [sizeLine_eq];trivial,Pv (i+1),fun H' ys' p'=>⟨n - (i+1),by trivial,rfl,hlt,p'⟩,fun x H' y=>?_⟩
  have e:=hs i H ys x H' hlt p y
  have q:(fun (σ2:St) (H2:Hp)=>kQ σc σ2∧tT σ2 H2 fun b H3=>if b=true then tk σ2 H3 fun kv H4=>∃k,kv=dA k∧tv σ2 H4 fun y H5=>H5 D=some (.dK ys)∧Pv (i+1) (aN H5 D (.dK (dM ys k y))) (dM ys k y) else Pv (i+1) H3 ys) =
   (fun σ2 H2=>kQ σc σ2∧tk σ2 H2 fun kv H4=>∃k,kv=dA k∧tv σ2 H4 fun y H5=>H5 D=some (.dK ys)∧Pv (i+1) (aN H5 D (.dK (dM ys k y))) (dM ys k y)):=by
   funext σ2 H2
   unfold tT
   dsimp only
   rw [if_pos rfl]
  rw [q]
  exact e
 ·have e:i=n:=by trivial
  subst e
  exact .inl ⟨hst H ys p,hd H ys p⟩
inductive Gr (vs:List V) (H:Hp) (Q:VK):Prop
 | mk (v:V) (ls:List (List Nat)) (ts:List aI) (h0:vs=[v]) (h1:aM ED H v (gF ls ts)) (h2:(∀t∈ts,zJ ls t)) (h3:ts.length≤48) (h4:1≤ls.length) (h5:ls.length≤10) (h6:((∃m,m<ls.length∧(dL ts (m+1)).lf=none∧∀H',ad H H'→Q .non H')∨((∀m,m<ls.length→(dL ts (m+1)).lf≠none)∧∀(R:List Nat) (us:List aI) (r:Addr) (H':Hp),Cb ts R us→R.length≤10→ad H H'→H r=none→H' r=some (.lst (wa R))→Q (.ref r) H')))
def Hz:Sp:=fun vs H Q _=>Gr  vs H Q
theorem vG (T:Txt K mg):aY P w K mg base CX0 5 T.gaining_round_.f T.gaining_round_.d ["net"] Hz:=by
 have G_lift_once:=#[(zR)]
 have G_round_ahead:=#[(xT)]
 refine T.gaining_round_.F.ok dJ (fun vs H Q E h=>?_) (fun cdv A outer s H vs Q E hr h=>?_)
 ·obtain ⟨v,ls,ts,rfl,_⟩:=h
  rfl
 ·obtain ⟨v,ls,ts,rfl,hv,tc,h24,l1,l10,k⟩:=h
  obtain ⟨na,pa,ta,ys,rfl,hna,hpa,hta,ity⟩:=jf hv
  refine ⟨_,#[#[An 8 (["place"]) (1) ([]) _ _ _ _ _ (1) _ _ _ dJ.nd rfl jR (by kernel_rfl) rfl (by kernel_rfl) (@lA _ (K) _ _ _ #[#[0,fz][#[()]]] (by rfl)) (fun _ _ _ _ _ _=>#[0,(),()]) (fun _ _ _ _ _ _=>@cH _) (fun _ _ _ _ _ _=>#[0,()]) (fun _ _ _ _ _ _=>#[ak 5 #[[#[()],#[()]]]]) (by intro _;rfl)] :: #[#[2,dJ.nd,gh,#[ET 2]] :: #[#[3,dJ.nd,dO,#[cR 3]] :: #[#[cC 8 PassesOwn.never rfl #[eX 6 qi T.b_range #[[#[(),(),(@bX _ (K) (by rfl)),sC,T.b_len,(@aF),#[[#[#[0,fz][#[()]]]]]]]] (by rfl)] #[4,dJ.nd,rA] #[#[3,dJ.nd,dO,#[G_lift_once,nS,T.lift_once_,#[[#[0,fz],#[1,jR],#[2,gh]]]]] :: #[ac 3 #[bh 8 #[ap 8 (@wE _) #[3,dO] #[cR 3] #[(),()]] #[ac 3 #[aw 4 #[cR 3]]] (@aK _)]]] (by intro _;rfl)] :: #[ac 3 #[aw 4 #[G_round_ahead,l8,T.round_ahead_,#[[#[0,fz],#[2,gh],#[3,dO]]]]]]]]]],?_⟩
  refine bT fun Q1 nA1=>⟨(),na,_,_,(),rfl,ag.of hna,rfl,pa,rfl,⟨_,ag.of hpa⟩,fun W hW=>Cd (n:=(ls.map ar).length) (fun i H' kv=>H' W=some (.dK kv)∧kv.length≤i∧(∀(j:Nat) l,j<i→ls[j]?=some l→∃o,valD kv (Sum.inr (S l))=some (.ref o)∧H' o=some (fr (1,1)))∧ad H H') (by rw [List.length_map];trivial) ⟨aB,Nat.le_refl _,(fun j l h=>by trivial),ad.new hW⟩ ?_ ?_ ?_ ?_ ?_⟩
  ·rintro i H' kv ⟨e1,e2,_⟩
   exact ⟨e1,e2⟩
  ·rintro i H' kv hi ⟨_,_,_,sm⟩
   exact ⟨_,_,ag.of (sm _ _ hpa),List.getElem?_eq_getElem hi⟩
  ·rintro H' kv ⟨_,_,_,sm⟩
   exact ⟨_,ag.of (sm _ _ hpa),Nat.le_refl _⟩
  ·rintro i Ha kv x Hb hi ⟨eW,lW,vW,sm⟩ ⟨rfl,ex⟩
   have exi:=ex _ (ag.of (sm _ _ hpa))
   rw [List.length_map] at hi
   rw [List.getElem?_map,List.getElem?_eq_getElem hi] at exi
   obtain rfl:ar ls[i]=x:=Option.some.inj exi
   refine ⟨di,(),Sum.inr (S ls[i]),rfl,(by show 2≤10000;decide),fun q J n1=>⟨n1.sm _ _ eW,aB,?_,fun j l hj el=>?_,fc hW (sm.trans n1.sm)⟩⟩
   ·exact Nat.le_trans (rK _ _ _) (by trivial)
   ·have tupU:∀{a:Addr}{us:List V},J a=some (.tup us)→aN J W (.dK (dM kv (Sum.inr (S ls[i])) (.ref q))) a=some (.tup us):=fun {a us} h=>by
     rw [aE (fun z=>by rw [z,n1.sm _ _ eW] at h;cases h)];exact h
    rw [mj]
    by_cases c:l=ls[i]
    ·rw [c,if_pos rfl]
     exact ⟨q,rfl,tupU n1.at'⟩
    ·rw [if_neg (uv c)]
     have hji:j<i:=by
      by_cases z:j=i
      ·subst z
       rw [List.getElem?_eq_getElem hi] at el
       exact absurd (Option.some.inj el).symm c
      ·trivial
     obtain ⟨o,v',h'⟩:=vW j l hji el
     exact ⟨o,v',tupU (n1.sm _ _ h')⟩
  rintro H1 kv ⟨eW,lW,vW,s1⟩
  rw [List.length_map] at lW vW
  refine nA1 _ _ ?_
  refine bT fun Q2 nA2=>fun O H2 n2=>nA2 _ _ ?_
  have nWO:¬W=O:=fun z=>by rw [←z] at n2;have:=n2.fr;rw [eW] at this;cases this
  have fO:H O=none:=s1.free n2.fr
  refine bT fun Q3 nA3=>nA3 _ _ ?_
  have s2:=s1.trans n2.sm
  have dw0:DW H2 W ls (fun _=>(1,1)) 10:=⟨kv,n2.sm _ _ eW,by trivial,fun l hl=>by
   obtain ⟨j,hj⟩:=List.getElem?_of_mem hl
   obtain ⟨o,v',h'⟩:=vW j l (List.getElem?_eq_some_iff.mp hj).1 hj
   exact ⟨o,v',n2.sm _ _ h'⟩⟩
  have same_of:∀{J:Hp},xi W O H2 J→ad H J:=fun f a o h=>f a o (fun z=>by rw [z,hW] at h;cases h) (fun z=>by rw [z,fO] at h;cases h) (s2 _ _ h)
  refine dW fun DB nB rB=>?_
  refine ⟨(),na,_,_,(),rfl,ag.of (s2 _ _ hna),rfl,pa,(),.inr (ag.of (s2 _ _ hpa)),(),by trivial,by rw [List.length_map];trivial,?_⟩
  rw [List.length_map,Int.toNat_natCast]
  refine j6 (fun i σ H'=>∃(v4:Option V),σ=[some (.ref na),some (.ref W),some (.ref O),some (zS (dL ts i).lf),v4]∧(∀m,m<i→(dL ts (m+1)).lf≠none)∧DW H' W ls (dL ts i).ω (10+48*i)∧DO H' O ls (dL ts i).on (10+48*i)∧(∀l∈ls,Gb (1+288*i) (1+288*i) ((dL ts i).ω l)∧1≤((dL ts i).ω l).1)∧xi W O H2 H') ?_ ?_ ?_
  ·exact ⟨(),(fun m h=>by trivial),dw0,⟨[],n2.at',by simp,fun l hl=>rfl⟩,(fun l hl=>⟨BH,(by show (1:Int)≤1;decide)⟩),fun _ _ _ _ h=>h⟩
  ·rintro i σ J hi ⟨v4,rfl,hno,dw,do',gω,f2⟩
   have hvJ:aM ED J (.ref na) (gF ls ts):=hv.mono (same_of f2).toE
   refine JW (t:=jH _ _) fun DC nC rC=>?_
   refine bT fun Q4 nA4=>⟨(),(),(),.ref na,W,O,ls,ts,dL ts i,i+1,10+48*i,1+288*i,rfl,hvJ,tc,by trivial,nWO,dw,do',by trivial,gω,by trivial,fun J2 f3 dw2 do2 gω2=>nA4 _ _ ?_⟩
   have es:rW (i+1) ts (dL ts i)=dL ts (i+1):=rfl
   rw [es] at dw2 do2 gω2 ⊢
   have f4:xi W O H2 J2:=fun a o h1 h2 h=>f3 a o h1 h2 (f2 a o h1 h2 h)
   cases e:(dL ts (i+1)).lf with
   | none=>
    refine ⟨(),rfl,(),bF (rC _ _ (rB _ _ ?_))⟩
    rcases k with ⟨m,_,_,k⟩ | ⟨k,_⟩
    ·exact k J2 (same_of f4)
    ·exact absurd e (k i hi)
   | some l=>
    refine ⟨(),rfl,(),aR (nC _ _ ?_)⟩
    obtain ⟨ko2,hO2,lO2,vO2⟩:=do2
    obtain ⟨kv2,hW2,lW2,vW2⟩:=dw2
    refine ⟨_,by rw [e];rfl,fun m hm=>?_,⟨kv2,hW2,by trivial,vW2⟩,⟨ko2,hO2,by trivial,vO2⟩,(fun l hl=>⟨(gω2 l hl).1.mono (by trivial) (by trivial),(gω2 l hl).2⟩),f4⟩
    by_cases c:m=i
    ·rw [c,e];intro z;cases z
    ·exact hno m (by trivial)
  ·rintro σ J ⟨v4,rfl,hno,dw,do',gω,f2⟩
   rcases k with ⟨m,hm,hm',_⟩ | ⟨_,k⟩
   ·exact absurd hm' (hno m hm)
   obtain ⟨n',en⟩:∃n',ls.length=n'+1:=⟨ls.length - 1,by trivial⟩
   obtain ⟨l0,e0⟩:=Option.ne_none_iff_exists'.mp (hno n' (by trivial))
   have e1:(dL ts ls.length).lf=some l0:=by rw [en];exact e0
   refine nB _ _ ?_
   have sJ:=same_of f2
   have hvJ:aM ED J (.ref na) (gF ls ts):=hv.mono sJ.toE
   refine ⟨(),(),(),.ref na,O,ls,ts,dL ts ls.length,l0,_,by rw [e1];rfl,hvJ,tc,l10,do',BI.st (fun t ht=>(tc t ht).tok) _,e1,fun R us r H' rk lR s' fr' hr'=>?_⟩
   exact k R us r H' rk lR (sJ.trans s') (sJ.free fr') hr'
end
end K18
namespace K18
open PySem L2
set_option maxHeartbeats 8000000
abbrev pD (s:SD):PyData:=.tuple [.int s.n,.bool s.bk]
abbrev kT (l:List Nat):ay:=Sum.inr (S l)
structure Cs (e:List Nat) (ss:List SD) (pl:List (List Nat)) (cr:List Nat→List SD):Prop where
 nd:pl.Nodup
 hd:e∈pl
 ce:cr e=[]
 st:∀l∈pl,l≠e→∃c,c∈ss∧c.st=l∧c.en∈pl∧cr l=c :: cr c.en
def CB (F0:Hp) (P:Addr) (H:Hp) (C:Addr) (pl:List (List Nat)) (cr:List Nat→List SD):Prop:=∃kvs,H C=some (.dK kvs)∧kvs.map (·.1)=pl.map kT∧∀l∈pl,aZ fun o ys=>valD kvs (kT l)=some (.ref o)∧(o≠P∧F0 o=none)∧H o=some (.lst ys)∧ae ED H ys ((cr l).map pD)
def CP (C P:Addr):Addr→Prop:=fun a=>a=C∨a=P
theorem uG {E:Addr→Prop}{H H':Hp} (s:aq E H H'):aq ED H H':=⟨fun _ _ n _=>absurd trivial n,s.tup⟩
theorem rS {kvs:List (ay×V)}{pl:List (List Nat)}{l:List Nat} (h:kvs.map (·.1)=pl.map kT):(valD kvs (kT l)).isSome=decide (l∈pl):=by
 unfold valD
 rw [Option.isSome_map]
 by_cases hl:l∈pl
 ·rw [decide_eq_true hl]
  have:kT l∈kvs.map (·.1):=by rw [h];exact List.mem_map_of_mem hl
  obtain ⟨kv,m,e⟩:=List.mem_map.mp this
  cases q:kvs.find? fun kv=>decide (kv.1=kT l) with
  | some _=>rfl
  | none=>exact absurd (decide_eq_true e) (by simpa using List.find?_eq_none.mp q kv m)
 ·rw [decide_eq_false hl]
  cases q:kvs.find? fun kv=>decide (kv.1=kT l) with
  | none=>rfl
  | some kv=>
   have m:=List.mem_of_find?_eq_some q
   have e:kv.1=kT l:=by simpa using List.find?_some q
   have:kT l∈pl.map kT:=by rw [←h,←e];exact List.mem_map_of_mem m
   obtain ⟨l',m',e'⟩:=List.mem_map.mp this
   exact absurd ((gW (Sum.inr.inj e'))▸m') hl
theorem Ew {kvs:List (ay×V)}{pl:List (List Nat)}{l:List Nat}{v:V} (h:kvs.map (·.1)=pl.map kT) (hl:l∉pl):(dM kvs (kT l) v).map (·.1)=(pl++[l]).map kT:=by
 unfold dM
 rw [if_neg,List.map_append,h,List.map_append];rfl
 intro z
 obtain ⟨kv,m,e⟩:=List.any_eq_true.mp z
 have e':kv.1=kT l:=of_decide_eq_true e
 have:kT l∈pl.map kT:=by rw [←h,←e'];exact List.mem_map_of_mem m
 obtain ⟨l',m',e2⟩:=List.mem_map.mp this
 exact hl ((gW (Sum.inr.inj e2))▸m')
theorem Cs.add {e:List Nat}{ss:List SD}{pl:List (List Nat)}{cr:List Nat→List SD}{c:SD} (h:Cs e ss pl cr) (hc:c∈ss) (he:c.en∈pl) (hn:c.st∉pl):Cs e ss (pl++[c.st]) (fun l=>if l=c.st then c :: cr c.en else cr l):=by
 have ne:∀{l},l∈pl→l≠c.st:=fun m z=>hn (z▸m)
 refine ⟨List.nodup_append.mpr ⟨h.nd,by simp,fun a ha b hb=>by rw [List.mem_singleton.mp hb];exact ne ha⟩,List.mem_append_left _ h.hd,by rw [if_neg (ne h.hd)];exact h.ce,fun l hl n=>?_⟩
 rcases List.mem_append.mp hl with m | m
 ·obtain ⟨d,a,b,q,r⟩:=h.st l m n
  exact ⟨d,a,b,List.mem_append_left _ q,by rw [if_neg (ne m),if_neg (ne q)];exact r⟩
 ·rw [List.mem_singleton.mp m]
  exact ⟨c,hc,rfl,List.mem_append_left _ he,by rw [if_pos rfl,if_neg (ne he)]⟩
def cP (cs:List SD) (l:List Nat):List (List Nat):=l :: cs.map (·.en)
theorem Cs.walk {e:List Nat}{ss:List SD}{pl:List (List Nat)}{cr:List Nat→List SD} (h:Cs e ss pl cr):∀(n:Nat) (l:List Nat),l∈pl→(cr l).length=n→(∀x∈cP (cr l) l,x∈pl∧(x=l∨(cr x).length<n))∧(cP (cr l) l).Nodup:=by
 intro n
 induction n with
 | zero=>
  intro l hl hn
  have:cr l=[]:=List.eq_nil_of_length_eq_zero hn
  rw [this]
  exact ⟨fun x hx=>by rw [show x=l by simpa [cP] using hx];exact ⟨hl,.inl rfl⟩,by simp [cP]⟩
 | succ n ih=>
  intro l hl hn
  by_cases q:l=e
  ·rw [q,h.ce] at hn;cases hn
  obtain ⟨c,a,b,m,r⟩:=h.st l hl q
  have hn':(cr c.en).length=n:=by rw [r,List.length_cons] at hn;trivial
  obtain ⟨i1,i2⟩:=ih c.en m hn'
  have e1:cP (cr l) l=l :: cP (cr c.en) c.en:=by rw [r];rfl
  have lt:∀x∈cP (cr c.en) c.en,x∈pl∧(cr x).length<n+1:=fun x hx=>by
   obtain ⟨m,z⟩:=i1 x hx
   refine ⟨m,?_⟩
   rcases z with z | z
   ·rw [z,hn'];trivial
   ·trivial
  rw [e1]
  refine ⟨fun x hx=>?_,List.nodup_cons.mpr ⟨fun z=>?_,i2⟩⟩
  ·rcases List.mem_cons.mp hx with z | z
   ·rw [z];exact ⟨hl,.inl rfl⟩
   ·exact ⟨(lt x z).1,.inr (lt x z).2⟩
  ·have:=(lt l z).2
   trivial
theorem Cs.len {e:List Nat}{ss:List SD}{pl:List (List Nat)}{cr:List Nat→List SD} (h:Cs e ss pl cr) (l:List Nat) (hl:l∈pl):(cr l).length≤pl.length:=by
 obtain ⟨a,b⟩:=h.walk _ l hl rfl
 have:=b.length_le_of_subset fun x hx=>(a x hx).1
 rw [cP,List.length_cons,List.length_map] at this
 trivial
section
variable {P:Program}{w:World}{K:PySem.W.Frag}{mg:Str→Option Value}{base:Heap}
inductive Co (vs:List V) (H:Hp) (Q:VK):Prop
 | mk (sa:Addr) (e:List Nat) (xs:List V) (ss:List SD) (ls:List (List Nat)) (h0:vs=[.ref sa,.str (S e)]) (h1:H sa=some (.lst xs)) (h2:ae ED H xs (ss.map sD)) (h3:ss.length≤80) (h4:e∈ls) (h5:(∀s∈ss,s.st∈ls∧s.en∈ls)) (h6:ls.length≤10) (h7:∀P C pl cr H',ad H H'→H C=none→CB H P H' C pl cr→Cs e ss pl cr→(∀l∈pl,l∈ls)→(∀s∈ss,s.en∈pl→s.st∈pl)→Q (.ref C) H')
def El:Sp:=fun vs H Q _=>Co  vs H Q
theorem yV (T:Txt K mg):aY P w K mg base CX0 1 T.courses_to_.f T.courses_to_.d ["steps", "end"] El:=by
 refine T.courses_to_.F.ok bN (fun vs H Q E h=>?_) (fun cdv A outer s H vs Q E hr h=>?_)
 ·obtain ⟨sa,e,xs,ss,ls,rfl,_⟩:=h
  rfl
 ·obtain ⟨sa,e,xs,ss,ls,rfl,hsa,ixs,lss,els,sls,lls,k⟩:=h
  refine ⟨_,#[#[2,bN.nd,cU,#[EH 6 #[1,oI] #[aL 4 (@bc _)]]] :: #[#[3,bN.nd,fw,#[aL 4 #[[#[1,oI]]]]] :: #[#[4,bN.nd,i9,#[()]] :: #[#[lp 6 PassesOwn.never #[ap 8 (@kH _) #[4,i9] #[(),(),(@bX _ (K) (by rfl)),vV,T.b_len,(@aF),#[[#[3,fw]]]] #[(),()]] #[#[cC 8 PassesOwn.never rfl (@br _ (K) _ _ _ #[0,tS] (by rfl)) (@bM _ (K) _ _ _ _ (6) rfl #[aj 5 #[5,bN.nd,kU] #[aj 5 #[6,bN.nd,mP] #[aj 5 #[7,bN.nd,f6] #[aj 5 #[8,bN.nd,iI] #[aj 5 #[9,bN.nd,uY] #[aj 5 #[10,bN.nd,u8] (@bK _) (by rfl)] (by rfl)] (by rfl)] (by rfl)] (by rfl)] (by rfl)] (by rfl) (by rfl) (by rfl)) #[ac 3 #[bh 8 #[PW.pt 3 #[qG 7 #[ap 8 (@gY _) #[8,iI] #[#[3,fw][#[4,i9]]!] #[(),()]] #[n0 4 #[ap 8 (@rZ _) #[7,f6] #[2,cU] rfl]]]] #[#[cW 6 #[ai 8 (@lJ _) #[aL 4 #[[#[ak 5 #[[#[5,kU],#[6,mP]]]]]]] #[cF 7 (@fK _) #[2,cU] #[8,iI] (fun _ _=>rfl)]] #[kP 7 #[2,cU] #[7,f6] (@rj _) (by intro _;rfl)] (by rfl) (by rfl) (by rfl)] :: #[ac 3 #[cI 4 (@bS _ (K) _ _ _ _ _ _ _ _ _ _ _ PySem.F.plainAttrs_list PySem.F.slot_list_append PySem.F.type_list_append (@bU _) #[3,fw] #[[#[7,f6]]] (by rfl) (by rfl) (by rfl) (by rfl) (by rfl) (by rfl)) (by rfl)]]] (@aK _)]] (by intro _;rfl)] :: #[ac 3 #[Jq 2 (4) _ _ _ _ _ _ bN.nd rfl (Or.inl i9) #[()] (@IG _) (by first | exact .inl rfl | exact .inr rfl | assumption)]]]] :: #[ac 3 #[aw 4 #[2,cU]]]]]]],?_⟩
  refine aT fun D1 m1=>fun C G1 n1=>⟨(),kT e,rfl,(by show 0≤10000;decide),fun c0 G2 n2=>⟨n2.sm _ _ n1.at',fun G3 c3=>m1 _ _ ?_⟩⟩
  refine aT fun D2 m2=>⟨(),(by show 1≤10000;decide),fun P G4 n4=>m2 _ _ ?_⟩
  refine aT fun D3 m3=>m3 _ _ ?_
  have fC:H C=none:=n1.fr
  have s02:ad H G2:=n1.sm.trans n2.sm
  have s03:ad H G3:=fun a o h=>c3.ol a o (fun z=>by rw [z,fC] at h;cases h) (s02 a o h)
  have s04:=s03.trans n4.sm
  have fP:H P=none:=s03.free n4.fr
  have nCP:C≠P:=fun z=>by have:=n4.fr;rw [←z,c3.at'] at this;cases this
  have nsC:sa≠C:=fun z=>by rw [z,fC] at hsa;cases hsa
  have nsP:sa≠P:=fun z=>by rw [z,fP] at hsa;cases hsa
  have hsa4:=s04 _ _ hsa
  have ixs4:=ixs.mono s04.toE
  have nc0:c0≠C:=fun z=>by have:=n2.fr;rw [z,n1.at'] at this;cases this
  have hc03:G3 c0=some (.lst []):=c3.ol _ _ nc0 n2.at'
  have nc0P:c0≠P:=fun z=>by have:=n4.fr;rw [←z,hc03] at this;cases this
  have cb0:CB H P G4 C [e] (fun _=>[]):=⟨[(kT e,.ref c0)],n4.sm _ _ c3.at',rfl,fun l hl=>⟨c0,[],by rw [List.mem_singleton.mp hl];exact E5,⟨nc0P,n1.sm.free n2.fr⟩,n4.sm _ _ hc03,.nil⟩⟩
  have out:∀{J:Hp},aq (CP C P) G4 J→ad H J:=fun s a o h=>s.old a o (fun z=>z.elim (fun z=>by rw [z,fC] at h;cases h) fun z=>by rw [z,fP] at h;cases h) (s04 a o h)
  let WI:Nat→St→Hp→Prop:=fun m σ J=>IH fun (pl:List (List Nat)) (cr:List Nat→List SD) (i:Nat) (v5 v6 v7 v8 v9 v10:Option V)=>σ=[some (.ref sa),some (.str (S e)),some (.ref C),some (.ref P),some (.int (i:Int)),v5,v6,v7,v8,v9,v10]∧J P=some (.lst (pl.map ar))∧CB H P J C pl cr∧Cs e ss pl cr∧(∀l∈pl,l∈ls)∧i≤pl.length∧(∀s∈ss,(∃j,j<i∧pl[j]?=some s.en)→s.st∈pl)∧aq (CP C P) G4 J∧m=11 - i
  have pl10:∀{pl:List (List Nat)}{cr:List Nat→List SD},Cs e ss pl cr→(∀l∈pl,l∈ls)→pl.length≤10:=fun c h=>Nat.le_trans (c.nd.length_le_of_subset h) lls
  refine aT fun D4 m4=>⟨WI,⟨11,[e],fun _=>[],0,_,_,_,_,_,(),n4.at',cb0,⟨by simp,List.mem_singleton.mpr rfl,rfl,fun l hl n=>absurd (List.mem_singleton.mp hl) n⟩,fun l hl=>by rw [List.mem_singleton.mp hl];exact els,Nat.zero_le _,fun s _ ⟨j,h,_⟩=>absurd h (Nat.not_lt_zero _),aq.refl _,rfl⟩,?_⟩
  rintro m σ J ⟨pl,cr,i,v5,v6,v7,v8,v9,v10,rfl,hP,cb,cs,pls,hi,cl,sE,em⟩
  refine ⟨(),(),P,(),.inl (ah.of hP),_,(),rfl,(),eV (fun c=>?_) fun c=>?_⟩
  case refine_2=>
   have hle:pl.length≤i:=by
    have c':=c
    rw [decide_eq_true_eq,List.length_map] at c'
    trivial
   refine m4 _ _ ⟨(),k P C pl cr J (out sE) fC cb cs pls fun s hs he=>cl s hs ?_⟩
   obtain ⟨j,hj⟩:=List.mem_iff_getElem?.mp he
   exact ⟨j,by have:=(List.getElem?_eq_some_iff.mp hj).1;trivial,hj⟩
  have hlt:i<pl.length:=by
   have c':=of_decide_eq_true c
   rw [List.length_map] at c'
   trivial
  refine ⟨fun σ' J'=>∃m',m'<m∧WI m' σ' J',fun σ' J' z=>z,?_⟩
  obtain ⟨l0,hl0⟩:∃l0,pl[i]?=some l0:=⟨_,List.getElem?_eq_getElem hlt⟩
  have hl0m:=List.mem_of_getElem? hl0
  have h10:=pl10 cs pls
  have lxs:xs.length=ss.length:=by rw [ixs.length,List.length_map]
  have hsaJ:=sE.old sa _ (fun z=>z.elim nsC nsP) hsa4
  let FI:Nat→St→Hp→Prop:=fun j σ J'=>Jf fun (pl':List (List Nat)) (cr':List Nat→List SD) (v5 v6 v7 v8 v9 v10:Option V)=>σ=[some (.ref sa),some (.str (S e)),some (.ref C),some (.ref P),some (.int (i:Int)),v5,v6,v7,v8,v9,v10]∧J' P=some (.lst (pl'.map ar))∧CB H P J' C pl' cr'∧Cs e ss pl' cr'∧(∀l∈pl',l∈ls)∧(∃ext,pl'=pl++ext)∧(∀(j':Nat) s,j'<j→ss[j']?=some s→s.en=l0→s.st∈pl')∧aq (CP C P) G4 J'
  refine aT fun D5 m5=>⟨(),sa,rfl,⟨_,ah.of hsaJ⟩,jm (xs:=xs) FI ⟨pl,cr,_,_,_,_,_,(),hP,cb,cs,pls,⟨[],(List.append_nil pl).symm⟩,fun j' s h=>absurd h (Nat.not_lt_zero _),sE⟩ (fun j σ J' _ ⟨_,_,_,_,_,_,_,_,_,_,_,_,_,_,_,s⟩=>ah.of (s.old sa _ (fun z=>z.elim nsC nsP) hsa4)) ?_ ?_⟩
  case refine_2=>
   rintro σ J' ⟨pl',cr',v5,v6,v7,v8,v9,v10,rfl,hP',cb',cs',pls',⟨ext,rfl⟩,cl',sE'⟩
   refine m5 _ _ ⟨(),_,(),rfl,_,?_,(pl++ext),cr',i+1,_,_,_,_,_,(),hP',cb',cs',pls',by rw [List.length_append];trivial,?_,sE',rfl⟩
   ·trivial
   ·intro s hs ⟨j,hj,ej⟩
    rcases Nat.lt_or_ge j i with h | h
    ·rw [List.getElem?_append_left (by trivial)] at ej
     exact List.mem_append_left _ (cl s hs ⟨j,h,ej⟩)
    ·have:j=i:=by trivial
     subst this
     rw [List.getElem?_append_left hlt,hl0] at ej
     obtain ⟨k',hk'⟩:=List.mem_iff_getElem?.mp hs
     exact cl' k' s (by have:=(List.getElem?_eq_some_iff.mp hk').1;trivial) hk' (by cases ej;rfl)
  rintro j x σ J1 hx ⟨pl1,cr1,v5,v6,v7,v8,v9,v10,rfl,hP1,cb1,cs1,pls1,⟨ext,epl⟩,cl1,sE1⟩
  obtain ⟨st,est⟩:∃st,ss[j]?=some st:=by
   have:j<ss.length:=by rw [←lxs];exact (List.getElem?_eq_some_iff.mp hx).1
   exact ⟨_,List.getElem?_eq_getElem this⟩
  have mst:=List.mem_of_getElem? est
  obtain ⟨y,ey,hy⟩:=(ixs4.mono (uG sE1)).get hx
  rw [List.getElem?_map,est] at ey
  cases ey
  obtain ⟨o,r,g,rfl,ho,hr1,hg1⟩:=bA hy
  have e1i:pl1[i]?=some l0:=by rw [epl,List.getElem?_append_left hlt,hl0]
  have next:∀(v5 v6 v7 v8 v9 v10:Option V) (J2:Hp) (pl2:List (List Nat)) (cr2:List Nat→List SD),J2 P=some (.lst (pl2.map ar))→CB H P J2 C pl2 cr2→Cs e ss pl2 cr2→(∀l∈pl2,l∈ls)→(∃ext,pl2=pl1++ext)→(st.en=l0→st.st∈pl2)→aq (CP C P) G4 J2→FI (j+1) [some (.ref sa),some (.str (S e)),some (.ref C),some (.ref P),some (.int (i:Int)),v5,v6,v7,v8,v9,v10] J2:=fun v5 v6 v7 v8 v9 v10 J2 pl2 cr2 a b c d ⟨ext2,e2⟩ f g=>⟨pl2,cr2,_,_,_,_,_,(),a,b,c,d,⟨ext++ext2,by rw [e2,epl,List.append_assoc]⟩,fun j' s hj hs he=>by
   rcases Nat.lt_or_ge j' j with h | h
   ·have:=cl1 j' s h hs he
    rw [e2];exact List.mem_append_left _ this
   ·have:j'=j:=by trivial
    subst this
    rw [est] at hs
    cases hs
    exact f he,g⟩
  refine ⟨o,(),ag.of ho,rfl,_,(),_,(),_,(),_,(),_,(),_,(),rfl,?_⟩
  dsimp only
  have eat:ik (pl1.map ar) (i:Int)=some (ar l0):=by
   exact cv (by rw [List.getElem?_map,e1i];rfl)
  refine ⟨(),(),(),P,_,_,(),rfl,ah.of hP1,eat,rfl,(),eV (fun c=>?_) fun c=>?_⟩
  case refine_2=>
   refine aR (next _ _ _ _ _ _ _ _ _ hP1 cb1 cs1 pls1 ⟨[],(List.append_nil _).symm⟩ (fun z=>absurd (decide_eq_true (by rw [z])) c) sE1)
  have een:st.en=l0:=gW (by have:=of_decide_eq_true c;injection this)
  have cb1':=cb1
  obtain ⟨kvs,hC1,hk1,hv1⟩:=cb1'
  refine ⟨(),(),C,kvs,kT st.st,rfl,rfl,hC1,(),?_⟩
  rw [rS hk1]
  by_cases hin:st.st∈pl1
  ·rw [decide_eq_true hin]
   exact aR (next _ _ _ _ _ _ _ _ _ hP1 cb1 cs1 pls1 ⟨[],(List.append_nil _).symm⟩ (fun _=>hin) sE1)
  rw [decide_eq_false hin]
  refine bF ?_
  have men:st.en∈pl1:=by rw [een,epl];exact List.mem_append_left _ hl0m
  obtain ⟨oc,yc,vc,ncP,hoc,ic⟩:=hv1 st.en men
  have lc1:=pl10 cs1 pls1
  have lkv:kvs.length=pl1.length:=by have:=congrArg List.length hk1;simpa using this
  have hyc:yc.length≤10:=by
   have:=cs1.len st.en men
   rw [ic.length,List.length_map]
   trivial
  refine aT fun D6 m6=>⟨(),(),(by show 2≤10000;decide),fun T K1 n1=>⟨(by show 1≤10000;decide),fun L1 K2 n2=>⟨(),(),C,kvs,kT st.en,(),rfl,n2.sm _ _ (n1.sm _ _ hC1),vc,L1,oc,_,(),rfl,n2.at',n2.sm _ _ (n1.sm _ _ hoc),by show 1+yc.length≤10000;trivial,fun p K3 n3=>⟨(),(),C,kvs,kT st.st,rfl,rfl,n3.sm _ _ (n2.sm _ _ (n1.sm _ _ hC1)),by trivial,fun K4 c4=>m6 _ _ ?_⟩⟩⟩⟩
  have s13:ad J1 K3:=(n1.sm.trans n2.sm).trans n3.sm
  have hC3:=s13 _ _ hC1
  have hP3:=s13 _ _ hP1
  have s34:aq (CP C P) K3 K4:=⟨fun a o n h=>c4.ol a o (fun z=>n (.inl z)) h,fun a us h=>c4.tp ⟨_,hC3⟩ a us h⟩
  have hP4:K4 P=some (.lst (pl1.map ar)):=c4.ol _ _ (Ne.symm nCP) hP3
  refine ⟨(),.inl ⟨rfl,_,ah.of hP4⟩,(),P,_,ar st.st,rfl,rfl,hP4,by rw [List.length_map];trivial,fun K5 c5=>?_⟩
  have s45:aq (CP C P) K4 K5:=⟨fun a o n h=>c5.ol a o (fun z=>n (.inr z)) h,fun a us h=>c5.tup h hP4⟩
  have s15:aq (CP C P) J1 K5:=(s13.toE.trans s34).trans s45
  have hC5:K5 C=some (.dK (dM kvs (kT st.st) (.ref p))):=c5.ol _ _ nCP c4.at'
  have npC:p≠C:=fun z=>by have:=n3.fr;rw [z,n2.sm _ _ (n1.sm _ _ hC1)] at this;cases this
  have npP:p≠P:=fun z=>by have:=n3.fr;rw [z,n2.sm _ _ (n1.sm _ _ hP1)] at this;cases this
  have fp0:H p=none:=(out sE1).free ((n1.sm.trans n2.sm).free n3.fr)
  have nTn:∀{a:Addr},CP C P a→K3 a≠none:=fun z=>z.elim (fun z=>by rw [z,hC3];exact fun q=>nomatch q) fun z=>by rw [z,hP3];exact fun q=>nomatch q
  have s35:=s34.trans s45
  have hp5:K5 p=some (.lst ([.ref T]++yc)):=s35.old p _ (fun z=>z.elim npC npP) n3.at'
  have hT5:K5 T=some (.tup [.int st.n,.bl st.bk]):=s35.tup _ _ (n3.sm _ _ (n2.sm _ _ n1.at'))
  refine next _ _ _ _ _ _ K5 (pl1++[st.st]) _ (by rw [List.map_append];exact c5.at') ⟨_,hC5,Ew hk1 hin,fun l hl=>?_⟩ (cs1.add mst men hin) (fun l hl=>?_) ⟨()⟩ (fun _=>List.mem_append_right _ (List.mem_singleton.mpr rfl)) (sE1.trans s15)
  ·rw [mj]
   by_cases q:l=st.st
   ·subst q
    rw [if_pos rfl]
    exact ⟨p,(),⟨npP,fp0⟩,hp5,by rw [if_pos rfl];exact .cons (.tup hT5 (.cons (.int _) (.cons (.bl _) .nil))) (ic.mono (uG s15))⟩
   ·rw [if_neg (uv q),if_neg q]
    have m:l∈pl1:=(List.mem_append.mp hl).elim id fun z=>absurd (List.mem_singleton.mp z) q
    obtain ⟨o',ys',a1,a2,a3,a4⟩:=hv1 l m
    exact ⟨o',ys',a1,a2,s15.old o' _ (fun z=>z.elim (fun z=>by rw [z,hC1] at a3;cases a3) a2.1) a3,a4.mono (uG s15)⟩
  ·rcases List.mem_append.mp hl with m | m
   ·exact pls1 l m
   ·rw [List.mem_singleton.mp m];exact (sls st mst).1
end
end K18
namespace K18
open PySem L2
set_option maxHeartbeats 8000000
theorem C2 {α β:Type}{c:α→Bool}{f:α→β}{ds:List α}{i:Nat}{d:α} (h:ds[i]?=some d):((ds.take (i+1)).filter c).map f=((ds.take i).filter c).map f++(if c d=true then [f d] else []):=by
 rw [List.take_add_one,h,List.filter_append,List.map_append]
 congr 1
 show ([d].filter c).map f=_
 by_cases q:c d=true
 ·rw [if_pos q,List.filter_cons_of_pos q];rfl
 ·rw [if_neg q,List.filter_cons_of_neg q];rfl
theorem dE {K:PySem.W.Frag}{α:Type}{a D:Addr}{xs:List V}{ds:List α}{H1:Hp}{σc:St}{g:TG}{tt:TT}{te:TE}{Q:VK} (dt:α→PyData) (c:α→Bool) (f:α→PyData) (hz:xs.length≤10000) (hD:H1 D=none) (ha:H1 a=some (.lst xs)) (ixs:ae ED H1 xs (ds.map dt))
 (hs:∀(i:Nat) (x:V) (d:α) (H':Hp) (R1:VK) (R2:Hp→Prop),xs[i]?=some x→ds[i]?=some d→aM ED H' x (dt d)→ad H1 H'→(c d=true→∀y H4,ad H' H4→aM ED H4 y (f d)→R1 y H4)→(c d=false→∀H4,ad H' H4→R2 H4)→g x σc H' fun σ2 H2=>kQ σc σ2∧tt σ2 H2 fun b H3=>if b=true then te σ2 H3 R1 else R2 H3)
 (hd:∀H' ys,ad H1 H'→H' D=some (.lst ys)→ae ED H' ys ((ds.filter c).map f)→Q (.ref D) H'):uM (AT K a) σc g tt te D H1 Q:=by
 have lxs:xs.length=ds.length:=by rw [ixs.length,List.length_map]
 refine pb (n:=xs.length) (fun i H' ys=>H' D=some (.lst ys)∧ys.length≤i∧ae ED H' ys (((ds.take i).filter c).map f)∧ad H1 H') (by rw [sizeLine_eq];trivial) ⟨aB,Nat.le_refl _,.nil,ad.new hD⟩ ?_ ?_ ?_ ?_ ?_
 ·rintro i H' ys ⟨h1,h2,_⟩
  exact ⟨h1,h2⟩
 ·rintro i H' ys hi ⟨_,_,_,sm⟩
  exact ⟨xs,xs[i],ah.of (sm _ _ ha),List.getElem?_eq_getElem hi⟩
 ·rintro H' ys ⟨_,_,_,sm⟩
  exact ⟨xs,ah.of (sm _ _ ha),Nat.le_refl _⟩
 ·rintro i H' ys x H'' hi ⟨h1,h2,h3,sm⟩ ⟨rfl,ex⟩
  have hx:=ex xs (ah.of (sm _ _ ha))
  obtain ⟨d,ed⟩:∃d,ds[i]?=some d:=⟨_,List.getElem?_eq_getElem (show i<ds.length by trivial)⟩
  obtain ⟨y,ey,hy⟩:=(ixs.mono sm.toE).get hx
  rw [List.getElem?_map,ed] at ey
  cases ey
  have tf:=C2 (c:=c) (f:=f) ed
  refine hs i x d _ _ _ hx ed hy sm (fun hc y H4 s4 hy4=>⟨s4 _ _ h1,aB,?_,?_,?_⟩) (fun hc H4 s4=>⟨s4 _ _ h1,by trivial,?_,sm.trans s4⟩)
  ·rw [List.length_append];exact Nat.add_le_add_right h2 1
  ·rw [tf,if_pos hc]
   exact gB .mk' (s4 _ _ h1) (h3.mono s4.toE) hy4
  ·exact fc hD (sm.trans s4)
  ·rw [tf,if_neg (by rw [hc];exact Bool.false_ne_true),List.append_nil]
   exact h3.mono s4.toE
 ·rintro H' ys ⟨h1,h2,h3,sm⟩
  rw [lxs,List.take_length] at h3
  exact hd H' ys sm h1 h3
theorem Kp {a b c d e f:V}{r:St}:kQ (none :: none :: none :: none :: none :: none :: r) (some a :: some b :: some c :: some d :: some e :: some f :: r):=⟨rfl,fun i v h=>by
 match i with
 | 0=>cases h
 | 1=>cases h
 | 2=>cases h
 | 3=>cases h
 | 4=>cases h
 | 5=>cases h
 | i+6=>exact h⟩
theorem oX {E:Addr→Prop}{H:Hp}:∀ls:List (List Nat),ae E H (ls.map ar) (ls.map fun l=>.str (S l))
 | []=>.nil
 | l :: r=>.cons (.str _) (oX r)
abbrev eO (s:SD):aI:=⟨s.st,s.en,s.room,s.gain,(0,1)⟩
def cO (ss:List SD) (pl:List (List Nat)):List SD:=ss.filter fun s=>decide (s.en∈pl)
structure vC (ls:List (List Nat)) (s:SD):Prop where
 b:s.st∈ls
 e:s.en∈ls
 ne:s.st≠s.en
 r:Gb 1900 1900 s.room
 g:Gb 6 6 s.gain
 g1:1≤s.gain.1
 r0:1≤s.room.1
theorem AR {near:List SD}:∀{R:List Nat}{us:List aI},R.map (fun k=>(near.map eO)[k]?)=us.map some→∃rs:List SD,R.map (fun k=>near[k]?)=rs.map some∧us=rs.map eO
 | [],us,h=>⟨[],rfl,by cases us with | nil=>rfl | cons _ _=>cases h⟩
 | k :: R,[],h=>by cases h
 | k :: R,u :: us,h=>by
  rw [List.map_cons,List.map_cons,List.cons.injEq] at h
  obtain ⟨rs,a,b⟩:=AR h.2
  have h1:=h.1
  rw [List.getElem?_map] at h1
  obtain ⟨s,e,f⟩:=Option.map_eq_some_iff.mp h1
  exact ⟨s :: rs,by rw [List.map_cons,List.map_cons,a,e],by rw [List.map_cons,f,b]⟩
theorem zg {E:Addr→Prop}{H:Hp}:∀R:List Nat,ae E H (wa R) (R.map fun i:Nat=>.int (i:Int))
 | []=>.nil
 | i :: r=>.cons (.int _) (zg r)
def Dw (near:List SD) (i:Nat):PyData:=match near[i]? with
 | some s=>sD s
 | none=>.none
theorem Gg {near rs:List SD}{R:List Nat} (h:R.map (fun k=>near[k]?)=rs.map some):R.map (Dw near)=rs.map sD:=by
 have:R.map (Dw near)=(R.map (fun k=>near[k]?)).map fun o=>match o with
  | some s=>sD s
  | none=>.none:=by rw [List.map_map];rfl
 rw [this,h,List.map_map];rfl
theorem Hx {near rs:List SD}{R:List Nat} (h:R.map (fun k=>near[k]?)=rs.map some) {k:Nat} (hk:k∈R):∃s,near[k]?=some s∧s∈rs:=by
 have:near[k]?∈rs.map some:=by rw [←h];exact List.mem_map_of_mem hk
 obtain ⟨s,m,e⟩:=List.mem_map.mp this
 exact ⟨s,e.symm,m⟩
section
variable {P:Program}{w:World}{K:PySem.W.Frag}{mg:Str→Option Value}{base:Heap}
structure zu (ss:List SD) (pl:List (List Nat)) (rs:List SD):Prop where
 sub:∀s∈rs,s∈ss∧s.st∈pl∧s.en∈pl
 two:2≤rs.length
 ten:rs.length≤10
 nd:(rs.map (·.st)).Nodup
 rot:rs.map (·.en)=(rs.map (·.st)).drop 1++(rs.map (·.st)).take 1
 gain:1<dh (rs.map eO)
inductive KB (vs:List V) (H:Hp) (Q:VK):Prop
 | mk (sa C P:Addr) (e:List Nat) (xs:List V) (ss:List SD) (ls pl:List (List Nat)) (cr:List Nat→List SD) (h0:vs=[.ref sa,.ref C]) (h1:H sa=some (.lst xs)) (h2:ae ED H xs (ss.map sD)) (h3:ss.length≤48) (h4:(∀s∈ss,vC ls s)) (h5:ls.length≤10) (h6:(∀l∈pl,l∈ls)) (h7:(∃F0,CB F0 P H C pl cr)) (h8:Cs e ss pl cr) (h9:(∀s∈ss,s.en∈pl→s.st∈pl)) (h10:(∀m H',m<pl.length→(dL ((cO ss pl).map eO) (m+1)).lf=none→ad H H'→Q .non H')) (h11:(∀L ys rs H',zu ss pl rs→ad H H'→H' L=some (.lst ys)→ae ED H' ys (rs.map sD)→Q (.ref L) H'))
def LG:Sp:=fun vs H Q _=>KB  vs H Q
theorem wP (T:Txt K mg):aY P w K mg base CX0 6 T.gaining_ring_.f T.gaining_ring_.d ["steps", "courses"] LG:=by
 have G_gaining_round:=#[(vG)]
 refine T.gaining_ring_.F.ok ja (fun vs H Q E h=>?_) (fun cdv A outer s H vs Q E hr h=>?_)
 ·obtain ⟨sa,C,P,e,xs,ss,ls,pl,cr,rfl,_⟩:=h
  rfl
 ·obtain ⟨sa,C,P,e,xs,ss,ls,pl,cr,rfl,hsa,ixs,lss,gss,lls,pls,cb,cs,cl,k1,k2⟩:=h
  obtain ⟨F0,kvs,hC,hk,hv⟩:=cb
  have lxs:xs.length=ss.length:=by rw [ixs.length,List.length_map]
  refine ⟨_,#[#[iq 2 (2) _ _ _ _ ja.nd rfl (Or.inr kS) #[fN 7 (["step", "courses"]) (1) ([1]) _ _ _ _ rfl (by kernel_rfl) (@br _ (K) _ _ _ #[0,qQ] (by rfl)) (fun _ _ _ _ _ _=>#[0,(),()]) (fun _ _ _ _ _ _=>#[lh 3 #[ap 8 (@AU _) #[#[0,()][#[()]]] #[1,0] rfl]]) (fun _ _ _ _ _ _=>#[0,()]) (by intro _;rfl)] (by rfl) (by first | exact .inl rfl | exact .inr rfl | assumption)] :: #[#[3,ja.nd,kW,#[cu 9 (@jB _ (K) (by rfl)) kI T.b_tuple (@eH) #[[#[fN 7 (["number", "back", "begin", "onward", "room", "gain"]) (6) ([]) _ _ _ _ rfl (by kernel_rfl) (@br _ (K) _ _ _ #[2,(kS)] (by rfl)) (fun _ _ _ _ _ _=>(@bM _ (K) _ _ _ _ (6) rfl #[aj 5 #[0,(),()] #[aj 5 #[1,(),()] #[aj 5 #[2,(),()] #[aj 5 #[3,(),()] #[aj 5 #[4,(),()] #[aj 5 #[5,(),()] (@bK _) (by rfl)] (by rfl)] (by rfl)] (by rfl)] (by rfl)] (by rfl)] (by rfl) (by rfl) (by rfl))) (fun _ _ _ _ _ _=>@cH _) (fun _ _ _ _ _ _=>#[ak 5 #[[#[2,()],#[3,()],#[4,()],#[5,()],#[ak 5 #[[#[()],#[()]]]]]]]) (by intro _;rfl)]]] (by decide) (by decide) (by rfl) (by rfl)]] :: #[#[4,ja.nd,gf,#[G_gaining_round,lF,T.gaining_round_,#[[#[ak 5 #[[#[cu 9 (@C5 _ rfl) kI T.b_tuple (@eH) #[[#[1,(pO)]]] (by decide) (by decide) (by rfl) (by rfl)],#[3,kW]]]]]]]] :: #[#[bh 8 #[ap 8 (@wE _) #[4,gf] #[cR 3] #[(),()]] #[ac 3 #[aw 4 #[cR 3]]] (@aK _)] :: #[ac 3 #[aw 4 #[fN 7 (["number", "near"]) (1) ([2]) _ _ _ _ rfl (by kernel_rfl) (@br _ (K) _ _ _ #[4,gf] (by rfl)) (fun _ _ _ _ _ _=>#[0,(),()]) (fun _ _ _ _ _ _=>@cH _) (fun _ _ _ _ _ _=>#[#[1,0][#[0,()]]!]) (by intro _;rfl)]]]]]]],?_⟩
  refine aT fun D1 m1=>⟨(),sa,rfl,⟨xs,ah.of hsa⟩,fun D hD=>dE (ds:=ss) sD (fun s=>decide (s.en∈pl)) sD (by trivial) hD hsa ixs ?_ ?_⟩
  ·intro i x st H' R1 R2 hx ed hy sm q1 q2
   obtain ⟨o,r,g,rfl,ho,hr1,hg1⟩:=bA hy
   refine ⟨di,(),o,_,_,(),rfl,ag.of ho,rfl,(),C,kvs,kT st.en,rfl,rfl,sm _ _ hC,(),?_⟩
   rw [show (if false=true then !(valD kvs (kT st.en)).isSome else (valD kvs (kT st.en)).isSome)=decide (st.en∈pl) from rS hk]
   exact eV (fun z=>⟨(),q1 z _ _ (ad.refl _) hy⟩) fun z=>q2 (by simpa using z) _ (ad.refl _)
  intro H2 ns s2 hD2 ins
  rw [show (ss.filter fun s=>decide (s.en∈pl))=cO ss pl from rfl] at ins
  have ln:(cO ss pl).length≤48:=Nat.le_trans (List.length_filter_le ..) lss
  have lns:ns.length=(cO ss pl).length:=by rw [ins.length,List.length_map]
  have mn:∀s∈cO ss pl,s∈ss∧s.st∈pl∧s.en∈pl:=fun s hs=>by
   obtain ⟨a,b⟩:=List.mem_filter.mp hs
   have b':=of_decide_eq_true b
   exact ⟨a,cl s a b',b'⟩
  refine m1 _ _ ?_
  refine aT fun D2 m2=>⟨(),D,rfl,⟨ns,ah.of hD2⟩,fun Z hZ=>dE (ds:=cO ss pl) sD (fun _=>true) (fun s=>oB (eO s)) (by trivial) hZ hD2 ins ?_ ?_⟩
  ·intro i x st H' R1 R2 hx ed hy sm q1 q2
   obtain ⟨o,r,g,rfl,ho,hr1,hg1⟩:=bA hy
   refine ⟨o,(),ag.of ho,rfl,_,(),_,(),_,(),_,(),_,(),_,(),rfl,Kp,?_⟩
   exact bF (B:=R2 H') ⟨(),(),(),(),(by show 2≤10000;decide),fun z J1 n1=>⟨(by show 5≤10000;decide),fun y J2 n2=>q1 rfl _ _ (n1.sm.trans n2.sm) (.tup n2.at' (.cons (.str _) (.cons (.str _) (.cons (fY (n2.sm _ _ (n1.sm _ _ hr1))) (.cons (fY (n2.sm _ _ (n1.sm _ _ hg1))) (.cons (fY (p:=(0,1)) (n2.sm _ _ n1.at')) .nil))))))⟩⟩
  intro H3 zs s3 hZ3 iz
  rw [show (cO ss pl).filter (fun _=>true)=cO ss pl from List.filter_eq_self.mpr fun _ _=>rfl] at iz
  refine ⟨Z,zs,rfl,ah.of hZ3,fun t H4 n4=>m2 _ _ ?_⟩
  have s24:ad H2 H4:=s3.trans n4.sm
  have s04:ad H H4:=s2.trans s24
  have hD4:=s24 _ _ hD2
  have in4:=ins.mono s24.toE
  have itz:=iz.mono n4.sm.toE
  have hk2:(kvs.map fun q=>dA q.1)=pl.map ar:=by
   have:=congrArg (List.map dA) hk
   rw [List.map_map,List.map_map] at this
   exact this
  have pl10:pl.length≤10:=Nat.le_trans (cs.nd.length_le_of_subset pls) lls
  have tg:∀t∈(cO ss pl).map eO,zJ pl t:=fun t ht=>by
   obtain ⟨s,hs,rfl⟩:=List.mem_map.mp ht
   obtain ⟨a,b,c⟩:=mn s hs
   have g:=gss s a
   exact ⟨b,c,g.ne,g.r,g.g,g.g1⟩
  have netI:∀{pa na:Addr}{J J':Hp},ad H4 J→J pa=some (.tup (kvs.map fun q=>dA q.1))→Nw J na (.tup [.ref pa,.ref t]) J'→aM ED J' (.ref na) (gF pl ((cO ss pl).map eO)):=fun {pa na J J'} sJ hp nn=>by
   refine .tup nn.at' (.cons (.tup (nn.sm _ _ (hk2▸hp)) ?_) (.cons (.tup (nn.sm _ _ (sJ _ _ n4.at')) ?_) .nil))
   ·exact oX pl
   ·rw [List.map_map]
    exact itz.mono (sJ.trans nn.sm).toE
  refine dW fun D3 m3 r3=>⟨(),C,kvs,rfl,s04 _ _ hC,fun pa H5 n5=>⟨(),(by show 2≤10000;decide),fun na H6 n6=>⟨.ref na,pl,(),netI n5.sm n5.at' n6,tg,by rw [List.length_map];exact ln,List.length_pos_of_mem cs.hd,pl10,?_⟩⟩⟩
  have s06:ad H H6:=(s04.trans n5.sm).trans n6.sm
  have s46:ad H4 H6:=n5.sm.trans n6.sm
  by_cases hx:∃m,m<pl.length∧(dL ((cO ss pl).map eO) (m+1)).lf=none
  ·obtain ⟨m,hm,hl⟩:=hx
   refine .inl ⟨m,hm,hl,fun H7 s7=>m3 _ _ ?_⟩
   refine dW fun D4 m4 r4=>⟨(),rfl,(),bF (r4 _ _ (k1 m H7 hm hl (s06.trans s7)))⟩
  refine .inr ⟨fun m hm hl=>hx ⟨m,hm,hl⟩,fun R us r H7 rnd lR s7 fr7 h7=>m3 _ _ ?_⟩
  refine dW fun D4 m4 r4=>⟨(),rfl,(),aR (m4 _ _ ?_)⟩
  obtain ⟨rs,e1,rfl⟩:=AR rnd.at'
  have lrs:R.length=rs.length:=by have:=congrArg List.length e1;simpa using this
  have rg:zu ss pl rs:=⟨fun s hs=>mn s ?_,by have:=rnd.two;trivial,by trivial,by have:=rnd.nd;rwa [List.map_map] at this,by have:=rnd.rot;rwa [List.map_map,List.map_map] at this,rnd.gain⟩
  ·have s27:ad H2 H7:=(s24.trans s46).trans s7
   refine ⟨(),r,rfl,⟨wa R,ah.of h7⟩,fun Y hY=>dE (ds:=R) (fun i:Nat=>.int (i:Int)) (fun _=>true) (Dw (cO ss pl)) (by rw [List.length_map];trivial) hY h7 (zg R) ?_ ?_⟩
   ·intro i x kk H' R1 R2 hx ed hy sm q1 q2
    cases hy
    obtain ⟨s,es,ms⟩:=Hx e1 (List.mem_of_getElem? ed)
    have isn:=ins.mono (s27.trans sm).toE
    obtain ⟨v,ev⟩:∃v,ns[kk]?=some v:=⟨_,List.getElem?_eq_getElem (show kk<ns.length by rw [lns];exact (List.getElem?_eq_some_iff.mp es).1)⟩
    obtain ⟨y,ey,iv⟩:=isn.get ev
    rw [List.getElem?_map,es] at ey
    cases ey
    refine ⟨di,bF (B:=R2 H') ⟨(),(),D,_,_,(),rfl,ah.of (sm _ _ (s7 _ _ (s46 _ _ hD4))),cv ev,q1 rfl _ _ (ad.refl _) ?_⟩⟩
    rw [show Dw (cO ss pl) kk=sD s by unfold Dw;rw [es]]
    exact iv
   ·intro H8 ys s8 hY8 iy
    rw [show R.filter (fun _=>true)=R from List.filter_eq_self.mpr fun _ _=>rfl,Gg e1] at iy
    exact k2 Y ys rs H8 rg ((s06.trans s7).trans s8) hY8 iy
  ·have:some s∈R.map fun k=>(cO ss pl)[k]?:=by rw [e1];exact List.mem_map_of_mem hs
   obtain ⟨k,_,hk⟩:=List.mem_map.mp this
   exact List.mem_of_getElem? hk
end
end K18
namespace K18
open PySem L2
set_option maxHeartbeats 8000000
theorem Ah:∀{ks:List Int}{k:Int},k∈ks→∃j:Nat,ks[j]?=some k∧∀m:Nat,m<j→ks[m]?≠some k
 | x :: ks,k,h=>by
  by_cases q:x=k
  ·exact ⟨0,by rw [q];rfl,fun m h=>absurd h (Nat.not_lt_zero _)⟩
  ·have h':k∈ks:=(List.mem_cons.mp h).elim (fun z=>absurd z.symm q) id
   obtain ⟨j,a,b⟩:=Ah h'
   refine ⟨j+1,by rw [List.getElem?_cons_succ];exact a,fun m hm=>?_⟩
   cases m with
   | zero=>intro z;rw [List.getElem?_cons_zero] at z;exact q (Option.some.inj z)
   | succ m=>rw [List.getElem?_cons_succ];exact b m (by trivial)
theorem Ad {E:Addr→Prop}{H:Hp}:∀{vs:List V}{ks:List Int},ae E H vs (ks.map PyData.int)→vs=ks.map V.int
 | [],[],_=>rfl
 | [],_ :: _,h=>by cases h
 | _ :: _,[],h=>by cases h
 | v :: vs,k :: ks,h=>by
  cases h with
  | cons a b=>
  cases a
  rw [Ad b];rfl
theorem Ds {ys:List V} (j:Nat):gQ ys (some (j:Int)) none=ys.drop j:=by
 unfold gQ
 rw [HT.sIx_none,HT.sIx_nat]
 by_cases h:j≤ys.length
 ·rw [Nat.min_eq_left h]
  exact List.take_of_length_le (by rw [List.length_drop];trivial)
 ·rw [Nat.min_eq_right (by trivial),List.drop_eq_nil_of_le (Nat.le_refl _),List.drop_eq_nil_of_le (by trivial),List.take_nil]
theorem FS {α:Type} (k:Nat) (A B:List α) (h:B=A.drop 1++A.take 1) (hk:k<A.length):B.drop k++B.take k=(A.drop k++A.take k).drop 1++(A.drop k++A.take k).take 1:=by
 subst h
 cases k with
 | zero=>simp
 | succ k=>
  cases A with
  | nil=>cases hk
  | cons x A=>
   have hk':k<A.length:=by rw [List.length_cons] at hk;trivial
   obtain ⟨y,ys,e⟩:aZ fun y ys=>A.drop k=y :: ys:=by
    cases q:A.drop k with
    | nil=>have:=congrArg List.length q;rw [List.length_drop] at this;simp at this;trivial
    | cons y ys=>exact ⟨y,ys,rfl⟩
   have e2:A.drop (k+1)=ys:=by
    have:=congrArg (List.drop 1) e
    rw [List.drop_drop] at this
    simpa [Nat.add_comm] using this
   have e3:A.take (k+1)=A.take k++[y]:=by
    rw [List.take_add_one]
    have:A[k]?=some y:=by
     have:=congrArg (fun z=>z[0]?) e
     simpa using this
    rw [this];rfl
   show (A++[x]).drop (k+1)++(A++[x]).take (k+1)=(A.drop k++x :: A.take k).drop 1++(A.drop k++x :: A.take k).take 1
   rw [List.drop_append_of_le_length (by trivial),List.take_append_of_le_length (by trivial),e2,e3,e]
   simp
theorem zu.turn {ss rs:List SD}{pl:List (List Nat)} (h:zu ss pl rs) (k:Nat) (hk:k<rs.length):zu ss pl (rs.drop k++rs.take k):=by
 have pm:(rs.drop k++rs.take k).Perm rs:=by
  have:=List.perm_append_comm (l₁:=rs.drop k) (l₂:=rs.take k)
  rwa [List.take_append_drop] at this
 refine ⟨fun s hs=>h.sub s (pm.mem_iff.mp hs),by rw [pm.length_eq];exact h.two,by rw [pm.length_eq];exact h.ten,(pm.map _).nodup_iff.mpr h.nd,?_,?_⟩
 ·rw [List.map_append,List.map_append,List.map_drop,List.map_take,List.map_drop,List.map_take]
  exact FS k _ _ h.rot (by rw [List.length_map];exact hk)
 ·rw [List.map_append,tj,Rat.mul_comm,←tj,←List.map_append,List.take_append_drop]
  exact h.gain
section
variable {P:Program}{w:World}{K:PySem.W.Frag}{mg:Str→Option Value}{base:Heap}
inductive Jo (vs:List V) (H:Hp) (Q:VK):Prop
 | mk (v:V) (sa:Addr) (ls:List (List Nat)) (ts:List aI) (xs:List V) (ps:List KM.Fra) (f e:List Nat) (h0:vs=[v,.str (S f),.str (S e),.ref sa]) (h1:aM ED H v (gF ls ts)) (h2:(∀t∈ts,qh ls t)) (h3:ts.length≤24) (h4:H sa=some (.lst xs)) (h5:ae ED H xs (ps.map cM)) (h6:ps.length=ts.length) (h7:(∀p∈ps,Gb 1894 1876 p)) (h8:(∀s∈aQ ts ps ts.length,vC ls s)) (h9:e∈ls) (h10:ls.length≤10) (h11:(∀T p ys pl cr H',Cs e (aQ ts ps ts.length) pl cr→f∈pl→ad H H'→H' T=some (.tup [.str (Str.ofString "way"),.ref p])→H p=none→H' p=some (.lst ys)→ae ED H' ys ((cr f).map pD)→Q (.ref T) H')) (h12:(∀pl cr m H',Cs e (aQ ts ps ts.length) pl cr→(∀l∈pl,l∈ls)→(∀s∈aQ ts ps ts.length,s.en∈pl→s.st∈pl)→f∉pl→m<pl.length→(dL ((cO (aQ ts ps ts.length) pl).map eO) (m+1)).lf=none→ad H H'→Q .non H')) (h13:(∀T p q ys zs pl cr r0 rs H',Cs e (aQ ts ps ts.length) pl cr→zu (aQ ts ps ts.length) pl (r0 :: rs)→(∀s∈r0 :: rs,(cr r0.st).length≤(cr s.st).length)→ad H H'→H' T=some (.tup [.str (Str.ofString "ring"),.ref p,.ref q])→H p=none→H q=none→p≠q→H' p=some (.lst ys)→ae ED H' ys ((r0 :: rs).map pD)→H' q=some (.lst zs)→ae ED H' zs ((cr r0.st).map pD)→Q (.ref T) H'))
def JI:Sp:=fun vs H Q _=>Jo  vs H Q
theorem zG (T:Txt K mg):aY P w K mg base CX0 8 T.bettering_.f T.bettering_.d ["net", "begin", "end", "stream"] JI:=by
 have G_left_steps:=#[(yL)]
 have G_courses_to:=#[(yV)]
 have G_gaining_ring:=#[(wP)]
 refine T.bettering_.F.ok ff (fun vs H Q E h=>?_) (fun cdv A outer s H vs Q E hr h=>?_)
 ·obtain ⟨v,sa,ls,ts,xs,ps,f,e,rfl,_⟩:=h
  rfl
 ·obtain ⟨v,sa,ls,ts,xs,ps,f,e,rfl,iN,tc,l24,hsa,ixs,lps,gp,gss,els,l10,k1,k2,k3⟩:=h
  have lss:(aQ ts ps ts.length).length≤48:=Nat.le_trans (fU ts ps ts.length) (by trivial)
  refine ⟨_,#[#[4,ff.nd,jF,#[G_left_steps,pF,T.left_steps_,#[[#[0,xp],#[3,uh]]]]] :: #[#[iq 2 (5) _ _ _ _ ff.nd rfl (Or.inr dm) #[G_courses_to,pI,T.courses_to_,#[[#[4,jF],#[2,wV]]]] (by rfl) (by first | exact .inl rfl | exact .inr rfl | assumption)] :: #[#[bh 8 #[ap 8 (@AU _) #[1,mX] #[5,(dm)] rfl] #[ac 3 #[aw 4 #[ak 5 #[[#[jS 4],#[cF 7 (@fK _) #[5,(dm)] #[1,mX] (fun _ _=>rfl)]]]]]] (@aK _)] :: #[#[6,ff.nd,dF,#[G_gaining_ring,oC,T.gaining_ring_,#[[#[4,jF],#[5,(dm)]]]]] :: #[#[bh 8 #[ap 8 (@wE _) #[6,dF] #[cR 3] #[(),()]] #[ac 3 #[aw 4 #[cR 3]]] (@aK _)] :: #[#[fW 7 (["step", "courses"]) (1) ([5]) _ _ _ _ (7) _ _ _ ff.nd rfl iS (by kernel_rfl) rfl (by kernel_rfl) (@br _ (K) _ _ _ #[6,dF] (by rfl)) (fun _ _ _ _ _ _=>#[0,(),()]) (fun _ _ _ _ _ _=>@cH _) (fun _ _ _ _ _ _=>#[(),(),(@bX _ (K) (by rfl)),(by show _=_;kernel_rfl),T.b_len,(@aF),#[[#[cF 7 (@fK _) #[1,0] #[#[0,()][#[()]]] (fun _ _=>rfl)]]]]) (by intro _;rfl)] :: #[#[8,ff.nd,gH,(@bS _ (K) _ _ _ _ _ _ _ _ _ _ _ PySem.F.plainAttrs_list PySem.F.slot_list_index PySem.F.type_list_index (@DZ _) #[7,iS] #[[#[(),(),(@DV _ rfl),wW,T.b_min,(@wO),#[[#[7,iS]]]]]] (by rfl) (by rfl) (by rfl) (by rfl) (by rfl) (by rfl))] :: #[#[fW 7 (["step"]) (1) ([]) _ _ _ _ (9) _ _ _ ff.nd rfl mS (by kernel_rfl) rfl (by kernel_rfl) (@br _ (K) _ _ _ #[ai 8 (@lJ _) #[dI 10 (@jt _ (K) (by rfl)) #[6,dF] #[d7 3 #[8,gH]] (@fS _)] #[dI 10 (@jt _ (K) (by rfl)) #[6,dF] (@fS _) #[d7 3 #[8,gH]]]] (by rfl)) (fun _ _ _ _ _ _=>#[0,(),()]) (fun _ _ _ _ _ _=>@cH _) (fun _ _ _ _ _ _=>#[ak 5 #[[#[#[0,()][#[()]]],#[#[0,()][#[()]]]]]]) (by intro _;rfl)] :: #[ac 3 #[aw 4 #[ak 5 #[[#[jS 4],#[9,mS],#[cF 7 (@fK _) #[5,(dm)] #[#[#[6,dF][#[8,gH]]!][#[()]]] (fun _ _=>rfl)]]]]]]]]]]]]]],?_⟩
  refine aT fun D1 m1=>⟨(),(),v,sa,ls,ts,xs,ps,1894,1876,rfl,iN,tc,by trivial,hsa,ixs,lps,gp,by decide,by decide,fun L zs H1 s1 fL hL iL=>m1 _ _ ?_⟩
  generalize aQ ts ps ts.length=ss at *
  refine aT fun D2 m2=>⟨(),(),L,e,zs,ss,ls,rfl,hL,iL,by trivial,els,fun s hs=>⟨(gss s hs).b,(gss s hs).e⟩,l10,fun P C pl cr H2 s2 fC cb cs pls cl=>m2 _ _ ?_⟩
  have cb':=cb
  obtain ⟨kvs,hC,hk,hv⟩:=cb'
  have s02:=s1.trans s2
  refine dW fun D3 m3 r3=>⟨(),(),C,kvs,kT f,rfl,rfl,hC,(),?_⟩
  rw [show (if false=true then !(valD kvs (kT f)).isSome else (valD kvs (kT f)).isSome)=decide (f∈pl) from rS hk]
  refine eV (fun z=>?_) fun z=>?_
  ·have hf:=of_decide_eq_true z
   obtain ⟨o,ys,vo,fo,ho,io⟩:=hv f hf
   exact ⟨(),(),C,kvs,kT f,(),rfl,hC,vo,(by show 2≤10000;decide),fun T H3 n3=>r3 _ _ (k1 T o ys pl cr H3 cs hf (s02.trans n3.sm) n3.at' (s1.free fo.2) (n3.sm _ _ ho) (io.mono n3.sm.toE))⟩
  have nf:f∉pl:=by simpa using z
  refine m3 _ _ ?_
  refine aT fun D4 m4=>⟨(),(),L,C,P,e,zs,ss,ls,pl,cr,rfl,s2 _ _ hL,iL.mono s2.toE,lss,gss,l10,pls,⟨_,cb⟩,cs,cl,fun m H3 hm hl s3=>m4 _ _ ?_,fun R ys rs H3 rg s3 hR iR=>m4 _ _ ?_⟩
  ·refine dW fun D5 m5 r5=>⟨(),rfl,(),bF (r5 _ _ (k2 pl cr m H3 cs pls cl nf hm hl (s02.trans s3)))⟩
  refine dW fun D5 m5 r5=>⟨(),rfl,(),aR (m5 _ _ ?_)⟩
  have lys:ys.length=rs.length:=by rw [iR.length,List.length_map]
  have r10:=rg.ten
  have r2:=rg.two
  have hC3:=s3 _ _ hC
  refine aT fun D6 m6=>⟨(),R,rfl,⟨ys,ah.of hR⟩,fun Y hY=>dE (ds:=rs) sD (fun _=>true) (fun s=>.int ((cr s.st).length:Int)) (by trivial) hY hR iR ?_ ?_⟩
  ·intro i x st H' R1 R2 hx ed hy sm q1 q2
   obtain ⟨o,r,g,rfl,ho,hr1,hg1⟩:=bA hy
   obtain ⟨oc,yc,vc,_,hoc,ic⟩:=hv st.st (rg.sub st (List.mem_of_getElem? ed)).2.1
   refine ⟨di,bF (B:=R2 H') ⟨(),(),o,_,_,(),rfl,ag.of ho,rfl,C,kvs,kT st.st,(),rfl,sm _ _ hC3,vc,oc,yc,rfl,.inl (ah.of (sm _ _ (s3 _ _ hoc))),q1 rfl _ _ (ad.refl _) ?_⟩⟩
   rw [show yc.length=(cr st.st).length by rw [ic.length,List.length_map]]
   exact .int _
  intro H4 lv s4 hY4 iY
  rw [show rs.filter (fun _=>true)=rs from List.filter_eq_self.mpr fun _ _=>rfl,show rs.map (fun s=>PyData.int ((cr s.st).length:Int))=(rs.map fun s=>((cr s.st).length:Int)).map PyData.int by rw [List.map_map];rfl] at iY
  have elv:=Ad iY
  subst elv
  refine m6 _ _ ?_
  have ne0:(rs.map fun s=>((cr s.st).length:Int))≠[]:=fun q=>by
   have h:=congrArg List.length q
   rw [List.length_map] at h
   exact absurd h (show rs.length≠0 by trivial)
  refine aT fun D7 m7=>⟨(),.inl ⟨rfl,_,ah.of hY4⟩,(),Y,(),hY4,ne0,fun k hk hmin=>?_⟩
  obtain ⟨j,ej,bj⟩:=Ah hk
  refine ⟨Y,_,k,j,rfl,rfl,hY4,by rw [List.length_map];trivial,ej,bj,m7 _ _ ?_⟩
  obtain ⟨r0,er,rfl⟩:∃r0,rs[j]?=some r0∧((cr r0.st).length:Int)=k:=by
   rw [List.getElem?_map] at ej
   exact Option.map_eq_some_iff.mp ej
  have hj:j<rs.length:=(List.getElem?_eq_some_iff.mp er).1
  have hR4:=s4 _ _ hR
  have iR4:=iR.mono s4.toE
  have ed:rs.drop j=r0 :: rs.drop (j+1):=by
   rw [List.drop_eq_getElem_cons hj,(List.getElem?_eq_some_iff.mp er).2]
  have rg':=rg.turn j hj
  rw [ed,List.cons_append] at rg'
  have pm:(r0 :: (rs.drop (j+1)++rs.take j)).Perm rs:=by
   rw [←List.cons_append,←ed]
   have:=List.perm_append_comm (l₁:=rs.drop j) (l₂:=rs.take j)
   rwa [List.take_append_drop] at this
  have sh:∀s∈r0 :: (rs.drop (j+1)++rs.take j),(cr r0.st).length≤(cr s.st).length:=fun s hs=>by
   have:=hmin _ (List.mem_map_of_mem (pm.mem_iff.mp hs))
   trivial
  refine aT fun D8 m8=>⟨(),(),(j:Int),rfl,R,ys,rfl,ah.of hR4,fun A HA nA=>⟨(),(),(j:Int),rfl,R,ys,rfl,ah.of (nA.sm _ _ hR4),fun B HB nB=>⟨A,B,_,(),rfl,nB.sm _ _ nA.at',nB.at',(by have:=lU ys (some (j:Int)) none;have:=lU ys none (some (j:Int));trivial),fun Z HZ nZ=>⟨Z,rfl,⟨_,ah.of nZ.at'⟩,fun W hW=>?_⟩⟩⟩⟩
  have s4Z:ad H4 HZ:=(nA.sm.trans nB.sm).trans nZ.sm
  have hZ:=nZ.at'
  rw [Ds,pq (by trivial),show ((j:Int)).toNat=j from rfl] at hZ
  have iZ:ae ED HZ (ys.drop j++ys.take j) ((r0 :: (rs.drop (j+1)++rs.take j)).map sD):=by
   rw [←List.cons_append,←ed,List.map_append,List.map_drop,List.map_take]
   exact ((iR4.drop j).append (iR4.take j)).mono s4Z.toE
  have lz:(ys.drop j++ys.take j).length≤10:=by
   rw [List.length_append,List.length_drop,List.length_take];trivial
  refine dE (ds:=r0 :: (rs.drop (j+1)++rs.take j)) sD (fun _=>true) pD (by trivial) hW hZ iZ ?_ ?_
  ·intro i x st H' R1 R2 hx ed' hy sm q1 q2
   obtain ⟨o,r,g,rfl,ho,hr1,hg1⟩:=bA hy
   exact ⟨di,bF (B:=R2 H') ⟨(),o,_,_,(),rfl,ag.of ho,rfl,(),o,_,_,(),rfl,ag.of ho,rfl,(by show 2≤10000;decide),fun y J2 n2=>q1 rfl _ _ n2.sm (.tup n2.at' (.cons (.int _) (.cons (.bl _) .nil)))⟩⟩
  intro H5 pv s5 hW5 iP
  rw [show (r0 :: (rs.drop (j+1)++rs.take j)).filter (fun _=>true)=r0 :: (rs.drop (j+1)++rs.take j) from List.filter_eq_self.mpr fun _ _=>rfl] at iP
  refine m8 _ _ ?_
  have s45:ad H4 H5:=s4Z.trans s5
  have hR5:=s45 _ _ hR4
  have iR5:=iR4.mono s45.toE
  obtain ⟨y,ey⟩:∃y,ys[j]?=some y:=⟨_,List.getElem?_eq_getElem (by trivial)⟩
  obtain ⟨d,edd,hy⟩:=iR5.get ey
  rw [List.getElem?_map,er] at edd
  cases edd
  obtain ⟨o,r,g,rfl,ho,hr1,hg1⟩:=bA hy
  obtain ⟨oc,yc,vc,foc,hoc,ic⟩:=hv r0.st (rg.sub r0 (List.mem_of_getElem? er)).2.1
  have s2Z:ad H2 HZ:=(s3.trans s4).trans s4Z
  have s25:ad H2 H5:=(s3.trans s4).trans s45
  refine ⟨(),(),(),(),R,_,_,(),rfl,ah.of hR5,cv ey,o,_,_,(),rfl,ag.of ho,rfl,C,kvs,kT r0.st,(),rfl,s25 _ _ hC,vc,(by show 3≤10000;decide),fun T H6 n6=>?_⟩
  exact k3 T W oc pv yc pl cr r0 _ H6 cs rg' sh ((s02.trans s25).trans n6.sm) n6.at' ((s02.trans s2Z).free hW) (s1.free foc.2) (fun z=>by rw [z,s2Z _ _ hoc] at hW;cases hW) (n6.sm _ _ hW5) (iP.mono n6.sm.toE) (n6.sm _ _ (s25 _ _ hoc)) (ic.mono (s25.trans n6.sm).toE)
end
end K18
namespace K18
open PySem L2
set_option maxHeartbeats 8000000
theorem HK (s:SD) (c:SD):PyData.eqv (.tuple [.int s.n,.bool s.bk]) (pD c)=(decide (s.n=c.n) && decide (s.bk=c.bk)):=by
 have:PyData.eqv (.tuple [.int s.n,.bool s.bk]) (pD c)=(((s.n:Int)==(c.n:Int)) && ((s.bk==c.bk) && true)):=by simp [PyData.eqv,PyData.eqvAll,pD]
 rw [this,Bool.and_true]
 congr 1
 ·by_cases h:s.n=c.n
  ·rw [h];simp
  ·rw [decide_eq_false h];simp;trivial
theorem Fu {c:SD} (h:c.n≤100):Wt (pD c) 3 1:=.tuple (.cons (.int (show ((c.n:Int)).natAbs<2 ^ 1900 from Nat.lt_of_lt_of_le (show ((c.n:Int)).natAbs<2 ^ 7 by trivial) (Nat.pow_le_pow_right (by decide) (by decide)))) (.cons (.bl _) .nil))
section
variable {P:Program}{w:World}{K:PySem.W.Frag}{mg:Str→Option Value}{base:Heap}
def Uq (ss:List SD):Prop:=∀s∈ss,∀t∈ss,s.n=t.n→s.bk=t.bk→s=t
def Jt (cs:List SD):Prop:=∀(i:Nat) a b,cs[i]?=some a→cs[i+1]?=some b→a.en=b.st
inductive FT (vs:List V) (H:Hp) (Q:VK):Prop
 | mk (sa p:Addr) (xs ys:List V) (ss cs:List SD) (h0:vs=[.ref sa,.ref p]) (h1:H sa=some (.lst xs)) (h2:ae ED H xs (ss.map sD)) (h3:ss.length≤80) (h4:(∀s∈ss,s.n≤100)) (h5:Uq ss) (h6:H p=some (.lst ys)) (h7:ae ED H ys (cs.map pD)) (h8:(∀c∈cs,c∈ss)) (h9:Jt cs) (h10:cs.length≤20) (h11:∀L us H',ad H H'→H L=none→H' L=some (.lst us)→ae ED H' us (cs.map sD)→Q (.ref L) H')
def HE:Sp:=fun vs H Q _=>FT  vs H Q
theorem FX (T:Txt K mg):aY P w K mg base CX0 1 T.l_told_steps_.f T.l_told_steps_.d ["_law_steps", "_law_thing"] HE:=by
 refine T.l_told_steps_.F.ok iV (fun vs H Q E h=>?_) (fun cdv A outer s H vs Q E hr h=>?_)
 ·obtain ⟨sa,p,xs,ys,ss,cs,rfl,_⟩:=h
  rfl
 ·obtain ⟨sa,p,xs,ys,ss,cs,rfl,hsa,ixs,lss,n100,uq,hp,ip,sub,chd,l20,k⟩:=h
  have lys:ys.length=cs.length:=by rw [ip.length,List.length_map]
  have lxs:xs.length=ss.length:=by rw [ixs.length,List.length_map]
  refine ⟨_,#[#[bh 8 #[oD 4 #[jx 3 #[(),(),(@lB _ (K) (by rfl)),bW,T.b_isinstance,(@c9),#[[#[1,jK],#[uI 4 sO T.b_list (@jv) (by decide) (by decide)]]]] (by intro _;rfl)]] #[ac 3 #[aw 4 #[cR 3]]] (@aK _)] :: #[#[2,iV.nd,cD,#[aL 4 (@bc _)]] :: #[#[cC 8 PassesOwn.never rfl #[AM 4 #[1,jK]] #[dc 2 (3) _ iV.nd rfl (Or.inr ci) (by first | exact .inl rfl | exact .inr rfl | assumption)] #[#[bh 8 #[PW.pt 3 #[iX 7 #[oD 4 #[jx 3 #[(),(),(@lB _ (K) (by rfl)),bW,T.b_isinstance,(@c9),#[[#[3,(ci)],#[uI 4 qL T.b_tuple (@eH) (by decide) (by decide)]]]] (by intro _;rfl)]] #[iX 7 #[ap 8 (@lV _) #[(),(),(@bX _ (K) (by rfl)),tE,T.b_len,(@aF),#[[#[3,(ci)]]]] #[()] #[(),()]] #[jQ 4 #[oD 4 #[jx 3 #[(),(),(@lB _ (K) (by rfl)),bW,T.b_isinstance,(@c9),#[[#[#[3,(ci)][#[()]]],#[uI 4 k4 T.b_bool (@tL) (by decide) (by decide)]]]] (by intro _;rfl)]]]]]] #[ac 3 #[aw 4 #[cR 3]]] (@aK _)] :: #[#[bh 8 #[PW.pt 3 #[iX 7 #[oD 4 #[jx 3 #[(),(),(@lB _ (K) (by rfl)),bW,T.b_isinstance,(@c9),#[[#[#[3,(ci)][#[()]]],#[uI 4 tz T.b_int (@pM) (by decide) (by decide)]]]] (by intro _;rfl)]] #[jQ 4 #[jx 3 #[(),(),(@lB _ (K) (by rfl)),bW,T.b_isinstance,(@c9),#[[#[#[3,(ci)][#[()]]],#[uI 4 k4 T.b_bool (@tL) (by decide) (by decide)]]]] (by intro _;rfl)]]]] #[ac 3 #[aw 4 #[cR 3]]] (@aK _)] :: #[#[fW 7 (["_law_step", "_law_one"]) (1) ([3]) _ _ _ _ (4) _ _ _ iV.nd rfl eB (by kernel_rfl) rfl (by kernel_rfl) (@br _ (K) _ _ _ #[0,pU] (by rfl)) (fun _ _ _ _ _ _=>#[0,(),()]) (fun _ _ _ _ _ _=>#[lh 3 #[ap 8 (@Cw _ hr.units) #[dI 10 (@xQ _ (K) (by rfl)) #[0,()] (@fS _) #[d7 3 #[()]]] #[1,0] #[(),()]]]) (fun _ _ _ _ _ _=>#[0,()]) (by intro _;rfl)] :: #[#[bh 8 #[PW.pt 3 #[iX 7 #[ap 8 (@E8 _ hr.units) #[4,eB] #[aL 4 (@bc _)] #[(),()]] #[jQ 4 #[PW.pt 3 #[qG 7 #[ap 8 (@vJ _ hr.units) #[2,cD] #[aL 4 (@bc _)] #[(),()]] #[n0 4 #[ap 8 (@lV _) #[#[#[2,cD][#[uJ 6 (@qc _) #[()]]]!][#[()]]] #[#[#[4,eB][#[()]]!][#[()]]] #[(),()]]]]]]]] #[ac 3 #[aw 4 #[cR 3]]] (@aK _)] :: #[ac 3 #[cI 4 (@bS _ (K) _ _ _ _ _ _ _ _ _ _ _ PySem.F.plainAttrs_list PySem.F.slot_list_append PySem.F.type_list_append (@bU _) #[2,cD] #[[#[#[4,eB][#[()]]!]]] (by rfl) (by rfl) (by rfl) (by rfl) (by rfl) (by rfl)) (by rfl)]]]]]] (by intro _;rfl)] :: #[ac 3 #[aw 4 #[2,cD]]]]]],?_⟩
  refine dW fun D1 n1 r1=>⟨(),_,_,_,(),(aM.lst (E:=fun _=>False) hp (fun z=>z) (ip.narrow fun _ z=>z.elim)).ty,EZ _,(),aR (n1 _ _ ?_)⟩
  refine aT fun D2 n2=>⟨(by show 0≤10000;decide),fun L G2 m2=>n2 _ _ ?_⟩
  have fL:=m2.fr
  have nsL:sa≠L:=fun z=>by rw [z,fL] at hsa;cases hsa
  have npL:p≠L:=fun z=>by rw [z,fL] at hp;cases hp
  have mv:∀{J:Hp},aq (fun a=>a=L) G2 J→ad H J:=fun s a o h=>s.old a o (fun z=>by rw [z,fL] at h;cases h) (m2.sm a o h)
  refine dW fun D3 n3 r3=>⟨(),p,rfl,⟨ys,ah.of (m2.sm _ _ hp)⟩,jm (xs:=ys) (fun j σ J=>fD fun (v3 v4:Option V) (us:List V)=>σ=[some (.ref sa),some (.ref p),some (.ref L),v3,v4]∧J L=some (.lst us)∧us.length=j∧ae ED J us ((cs.take j).map sD)∧aq (fun a=>a=L) G2 J) ⟨_,_,[],rfl,m2.at',rfl,.nil,aq.refl _⟩ (fun j σ J _ ⟨_,_,_,_,_,_,_,s⟩=>ah.of (mv s _ _ hp)) ?_ ?_⟩
  case refine_2=>
   rintro σ J ⟨v3,v4,us,rfl,hL,lu,iu,s⟩
   refine n3 _ _ ⟨(),k L us J (mv s) fL hL ?_⟩
   rwa [lys,List.take_length] at iu
  rintro j y σ J hy ⟨v3,v4,us,rfl,hL,lu,iu,s⟩
  have sH:=mv s
  obtain ⟨c,ec⟩:∃c,cs[j]?=some c:=⟨_,List.getElem?_eq_getElem (by have:=(List.getElem?_eq_some_iff.mp hy).1;trivial)⟩
  have mc:=sub c (List.mem_of_getElem? ec)
  obtain ⟨d,ed,gy⟩:=(ip.mono sH.toE).get hy
  rw [List.getElem?_map,ec] at ed
  cases ed
  have gy':=gy
  cases gy with
  | @tup o zs _ ho q=>
  cases q with
  | cons a1 q=>
  cases q with
  | cons a2 q=>
  cases q
  cases a1
  cases a2
  refine nz (t:=jH _ _) fun DB nB=>?_
  refine dW fun D4 n4 r4=>⟨(),_,_,_,(),gy'.ty,ug _,(),aR ⟨(),o,(),.inr (ag.of ho),rfl,(),aR ⟨(),o,_,_,(),rfl,ag.of ho,rfl,_,_,_,(),(aM.bl (E:=ED) (H:=J) c.bk).ty,zq _,(),aR (n4 _ _ ?_)⟩⟩⟩
  refine dW fun D5 n5 r5=>⟨(),o,_,_,(),rfl,ag.of ho,rfl,_,_,_,(),(aM.int (E:=ED) (H:=J) (c.n:Int)).ty,GR _,(),aR ⟨(),o,_,_,(),rfl,ag.of ho,rfl,_,_,_,(),(aM.int (E:=ED) (H:=J) (c.n:Int)).ty,zq _,(),aR (n5 _ _ ?_)⟩⟩
  have hsaJ:=sH _ _ hsa
  have ixJ:=ixs.mono sH.toE
  refine aT fun D6 n6=>⟨(),sa,rfl,⟨xs,ah.of hsaJ⟩,fun W hW=>dE (ds:=ss) sD (fun s=>decide (s.n=c.n) && decide (s.bk=c.bk)) sD (by trivial) hW hsaJ ixJ ?_ ?_⟩
  ·intro i x st H' R1 R2 hx ed hy' sm q1 q2
   obtain ⟨o2,r,g,rfl,ho2,hr1,hg1⟩:=bA hy'
   refine ⟨di,(),(),o2,(),ag.of ho2,ho2,fun z J2 m2' h2=>⟨(),.tuple [.int st.n,.bool st.bk],pD c,ED,ED,_,_,_,_,.tup h2 (.cons (.int _) (.cons (.bl _) .nil)),gy'.mono (sm.trans m2').toE,Fu (n100 st (List.mem_of_getElem? ed)),Fu (n100 c mc),by decide,(),?_⟩⟩
   rw [show (if false=true then !PyData.eqv (.tuple [.int st.n,.bool st.bk]) (pD c) else PyData.eqv (.tuple [.int st.n,.bool st.bk]) (pD c))=(decide (st.n=c.n) && decide (st.bk=c.bk)) from HK st c]
   exact eV (fun z=>⟨(),q1 z _ _ m2' (hy'.mono m2'.toE)⟩) fun z=>q2 (by simpa using z) _ m2'
  intro J3 sv s3 hW3 isv
  have elt:∀s∈ss.filter (fun s=>decide (s.n=c.n) && decide (s.bk=c.bk)),s=c:=fun s hs=>by
   obtain ⟨m,q⟩:=List.mem_filter.mp hs
   rw [Bool.and_eq_true] at q
   exact uq s m c mc (of_decide_eq_true q.1) (of_decide_eq_true q.2)
  have mem:c∈ss.filter (fun s=>decide (s.n=c.n) && decide (s.bk=c.bk)):=List.mem_filter.mpr ⟨mc,by simp⟩
  generalize (ss.filter fun s=>decide (s.n=c.n) && decide (s.bk=c.bk))=fs at isv elt mem
  obtain ⟨fr,rfl⟩:∃fr,fs=c :: fr:=by
   cases fs with
   | nil=>cases mem
   | cons a r=>exact ⟨r,by rw [elt a (List.mem_cons_self ..)]⟩
  cases isv with
  | @cons v0 sv0 _ _ iv0 isv=>
  refine n6 _ _ ?_
  have hL3:=s3 _ _ hL
  have nLz:∀{q:Addr}{J':Hp},ad J3 J'→J' q=none→¬q=L:=fun s h z=>by rw [z,s _ _ hL3] at h;cases h
  obtain ⟨ov,rv,gv,rfl,hov,_,_⟩:=bA iv0
  have fin:∀J6,ad J3 J6→y9 (FN K "list" Cm (vU 2) (uK (CN (Bs K) (vU 4) (tC (.int 0))) zZ)) DB [some (.ref sa),some (.ref p),some (.ref L),some (.ref o),some (.ref W)] J6:=fun J6 s6=>by
   have hL6:=s6 _ _ hL3
   refine ⟨(),.inl ⟨rfl,_,ah.of hL6⟩,(),W,_,_,.ref ov,rfl,rfl,ah.of (s6 _ _ hW3),cv (j:=0) rfl,L,us,(),rfl,hL6,by have:=(List.getElem?_eq_some_iff.mp ec).1;trivial,fun J7 c7=>nB _ _ ⟨_,_,us++[.ref ov],rfl,c7.at',by rw [List.length_append,lu];rfl,?_,?_⟩⟩
   ·rw [List.take_add_one,ec,List.map_append]
    exact gB c7 hL6 (iu.mono (s3.trans s6).toE) (iv0.mono s6.toE)
   ·exact (s.trans (s3.trans s6).toE).trans ⟨fun x o n e=>c7.ol x o n e,fun x us' e=>c7.tup e hL6⟩
  refine dW fun D7 n7 r7=>⟨(),(by show 0≤10000;decide),fun z J4 m4=>⟨W,z,(),rfl,m4.sm _ _ hW3,m4.at',(),aR ⟨(),(by show 0≤10000;decide),fun z2 J5 m5=>⟨L,z2,us,rfl,rfl,m5.sm _ _ (m4.sm _ _ hL3),m5.at',(),?_⟩⟩⟩⟩
  have s35:=m4.sm.trans m5.sm
  by_cases h0:us=[]
  ·subst h0
   exact aR (n7 _ _ (fin _ s35))
  have h1:(!us.isEmpty)=true:=by
   cases us with
   | nil=>exact absurd rfl h0
   | cons=>rfl
  rw [h1]
  obtain ⟨us',u,rfl⟩:aZ fun us' u=>us=us'++[u]:=⟨us.dropLast,us.getLast h0,(List.dropLast_concat_getLast h0).symm⟩
  rw [List.length_append,List.length_singleton] at lu
  obtain ⟨m,rfl⟩:∃m,j=m+1:=⟨us'.length,lu.symm⟩
  obtain ⟨c0,ec0⟩:∃c0,cs[m]?=some c0:=⟨_,List.getElem?_eq_getElem (by have:=(List.getElem?_eq_some_iff.mp ec).1;trivial)⟩
  obtain ⟨du,edu,iuu⟩:=(iu.mono (s3.trans s35).toE).get (show (us'++[u])[m]?=some u by rw [List.getElem?_append_right (by trivial),show m - us'.length=0 by trivial];rfl)
  rw [List.getElem?_map,List.getElem?_take_of_lt (by trivial),ec0] at edu
  cases edu
  obtain ⟨ou,ru,gu,rfl,hou,_,_⟩:=bA iuu
  refine bF ⟨(),1,rfl,L,_,_,.ref ou,rfl,rfl,ah.of (s35 _ _ hL3),vL _ _,ou,_,_,(),rfl,ag.of hou,rfl,(),W,_,_,.ref ov,rfl,rfl,ah.of (s35 _ _ hW3),cv (j:=0) rfl,ov,_,_,(),rfl,ag.of (s35 _ _ hov),rfl,rfl,(),?_⟩
  rw [chd m c0 c ec0 ec,decide_eq_true rfl]
  exact aR (n7 _ _ (fin _ s35))
end
end K18
namespace K18
open PySem L2
set_option maxHeartbeats 8000000
theorem oH {E:Addr→Prop}{H:Hp}:∀{vs:List V}{ls:List (List Nat)},ae E H vs (ls.map fun l=>.str (S l))→vs=ls.map ar
 | [],[],_=>rfl
 | [],_ :: _,h=>by cases h
 | _ :: _,[],h=>by cases h
 | v :: vs,l :: ls,h=>by
  cases h with
  | cons a b=>
  cases a
  rw [oH b];rfl
theorem yb {E:Addr→Prop}{H:Hp}:∀{vs:List V}{ls:List Bool},ae E H vs (ls.map PyData.bool)→vs=ls.map V.bl
 | [],[],_=>rfl
 | [],_ :: _,h=>by cases h
 | _ :: _,[],h=>by cases h
 | v :: vs,l :: ls,h=>by
  cases h with
  | cons a b=>
  cases a
  rw [yb b];rfl
theorem qO {α:Type} (xs:List α):xs.filter (fun _=>true)=xs:=List.filter_eq_self.mpr fun _ _=>rfl
theorem j7 (ls:List (List Nat)):(ls.map ar).all lQ=true:=by
 rw [List.all_eq_true]
 intro v hv
 obtain ⟨l,_,rfl⟩:=List.mem_map.mp hv
 rfl
section
variable {P:Program}{w:World}{K:PySem.W.Frag}{mg:Str→Option Value}{base:Heap}
inductive Jp (vs:List V) (H:Hp) (Q:VK):Prop
 | mk (ca ba:Addr) (zs:List V) (cs:List SD) (f e:List Nat) (bs r:List (List Nat)) (h0:vs=[.ref ca,.str (S f),.str (S e),.ref ba]) (h1:H ca=some (.lst zs)) (h2:ae ED H zs (cs.map sD)) (h3:cs.length≤20) (h4:H ba=some (.lst (bs.map ar))) (h5:(∀c,cs[0]?=some c→c.st=f)) (h6:cP cs f=r++[e]) (h7:(cP cs f).Nodup) (h8:(∀c∈cs,c.en∉bs)) (h9:∀H',ad H H'→Q (.bl true) H')
def KJ:Sp:=fun vs H Q _=>Jp  vs H Q
theorem zO (T:Txt K mg):aY P w K mg base CX0 1 T.l_is_course_.f T.l_is_course_.d ["_law_course", "_law_first", "_law_end", "_law_barred"] KJ:=by
 refine T.l_is_course_.F.ok qE (fun vs H Q E h=>?_) (fun cdv A outer s H vs Q E hr h=>?_)
 ·obtain ⟨ca,ba,zs,cs,f,e,bs,r,rfl,_⟩:=h
  rfl
 ·obtain ⟨ca,ba,zs,cs,f,e,bs,r,rfl,hca,iz,l20,hba,c0,er,nd,nb,k⟩:=h
  have lzs:zs.length=cs.length:=by rw [iz.length,List.length_map]
  refine ⟨_,#[#[4,qE.nd,cJ,#[ai 8 (@lJ _) #[aL 4 #[[#[1,ka]]]] #[fN 7 (["_law_step"]) (1) ([]) _ _ _ _ rfl (by kernel_rfl) (@br _ (K) _ _ _ #[0,gC] (by rfl)) (fun _ _ _ _ _ _=>#[0,(),()]) (fun _ _ _ _ _ _=>@cH _) (fun _ _ _ _ _ _=>#[#[0,()][#[()]]]) (by intro _;rfl)]]] :: #[#[bh 8 #[PW.pt 3 #[iX 7 #[PW.pt 3 #[qG 7 #[ap 8 (@vJ _ hr.units) #[0,gC] #[aL 4 (@bc _)] #[(),()]] #[n0 4 #[ap 8 (@lV _) #[#[#[0,gC][#[()]]!][#[()]]] #[1,ka] #[(),()]]]]] #[iX 7 #[ap 8 (@lV _) #[#[4,cJ][#[uJ 6 (@qc _) #[()]]]!] #[2,sV] #[(),()]] #[jQ 4 #[ap 8 (@lV _) (@yn _ (K) _ _ _ _ _ _ #[4,cJ] rfl nh T.b_len vn T.b_set (by rfl) (by rfl)) #[(),(),(@bX _ (K) (by rfl)),nh,T.b_len,(@aF),#[[#[4,cJ]]]] #[(),()]]]]]] #[ac 3 #[aw 4 #[ie 4]]] (@aK _)] :: #[ac 3 #[aw 4 #[Dm 4 #[(),(),(@JR _ (K) rfl (by rfl)),va,T.b_any,(@Ct),#[[#[fN 7 (["_law_spot", "_law_barred"]) (1) ([3]) _ _ _ _ rfl (by kernel_rfl) (@br _ (K) _ _ _ #[dI 10 (@jt _ (K) (by rfl)) #[4,cJ] #[d7 3 #[()]] (@fS _)] (by rfl)) (fun _ _ _ _ _ _=>#[0,(),()]) (fun _ _ _ _ _ _=>@cH _) (fun _ _ _ _ _ _=>#[oa 8 (@Cu _ (K) (by rfl)) #[0,()] #[1,0] rfl]) (by intro _;rfl)]]]]]]]]],?_⟩
  refine aT fun D1 m1=>⟨(),(by show 1≤10000;decide),fun A H1 n1=>⟨(),ca,rfl,⟨zs,ah.of (n1.sm _ _ hca)⟩,fun Y hY=>dE (ds:=cs) sD (fun _=>true) (fun s=>.str (S s.en)) (by trivial) hY (n1.sm _ _ hca) (iz.mono n1.sm.toE) ?_ ?_⟩⟩
  ·intro i x st H' R1 R2 hx ed hy sm q1 q2
   obtain ⟨o,r,g,rfl,ho,hr1,hg1⟩:=bA hy
   exact ⟨di,bF (B:=R2 H') ⟨(),o,_,_,(),rfl,ag.of ho,rfl,q1 rfl _ _ (ad.refl _) (.str _)⟩⟩
  intro H2 yv s2 hY2 iy
  rw [qO,show cs.map (fun s=>PyData.str (S s.en))=(cs.map (·.en)).map fun l=>PyData.str (S l) by rw [List.map_map];rfl] at iy
  have:=oH iy
  subst this
  refine ⟨A,Y,_,(),rfl,s2 _ _ n1.at',hY2,by simp;trivial,fun Sp H3 n3=>m1 _ _ ?_⟩
  have hSp:H3 Sp=some (.lst ((cP cs f).map ar)):=n3.at'
  have s03:ad H H3:=(n1.sm.trans s2).trans n3.sm
  have lsp:(cP cs f).length≤21:=by rw [cP,List.length_cons,List.length_map];trivial
  refine dW fun D2 m2 r2=>⟨(),(by show 0≤10000;decide),fun z J m=>⟨ca,z,zs,rfl,rfl,m.sm _ _ (s03 _ _ hca),m.at',(),?_⟩⟩
  have s0J:ad H J:=s03.trans m.sm
  have hSpJ:=m.sm _ _ hSp
  have last:ik ((cP cs f).map ar) (-1)=some (ar e):=by rw [er,List.map_append];exact vL _ _
  have ok1:(cQ ((cP cs f).map kT)).length=(cP cs f).length:=by
   have:=(xm ((cP cs f).map kT)).mpr (nd.map kT fun a b h q=>h (gW (Sum.inr.inj q)))
   rw [this,List.length_map]
  have kv1:((cP cs f).map kT).map dA=(cP cs f).map ar:=by rw [List.map_map];rfl
  have go:∀{b:Bool}{A:Prop}{B:Prop},(b=false)→B→(if b=true then A else B):=fun h q=>by rw [h];exact aR q
  have lz0:∀{x:V}{r:List V},zs=x :: r→fD fun o rr gg=>x=.ref o∧H o=some (.tup [.int (cs[0]?.map (·.n)).get!,.bl (cs[0]?.map (·.bk)).get!,.str (S f),.str (S ((cs[0]?.map (·.en)).getD [])),.ref rr,.ref gg]):=fun {x r} h=>by
   subst h
   cases cs with
   | nil=>simp at lzs
   | cons c cr=>
    cases iz with
    | cons a b=>
    obtain ⟨o,rr,gg,e1,e2,_,_⟩:=bA a
    rw [c0 c rfl] at e2
    exact ⟨o,rr,gg,e1,e2⟩
  have fin:D2.nx [some (.ref ca),some (.str (S f)),some (.str (S e)),some (.ref ba),some (.ref Sp)] J:=by
   refine m2 _ _ ?_
   refine ⟨(),(),Sp,(),ah.of hSpJ,fun A2 J2 n2=>⟨A2,rfl,⟨_,ah.of n2.at'⟩,fun Y2 hY2=>?_⟩⟩
   have hA2:=n2.at'
   rw [cV] at hA2
   have hA3:J2 A2=some (.lst ((cs.map (·.en)).map ar)):=hA2
   refine dE (ds:=cs.map (·.en)) (fun l=>.str (S l)) (fun _=>true) (fun l=>.bool (decide (l∈bs))) (by simp;trivial) hY2 hA3 (oX _) ?_ ?_
   ·intro i x l H' R1 R2 hx ed hy sm q1 q2
    cases hy
    refine ⟨di,bF (B:=R2 H') ⟨(),(),ba,(),.inl (ah.of (sm _ _ (n2.sm _ _ (s0J _ _ hba)))),rfl,j7 _,q1 rfl _ _ (ad.refl _) ?_⟩⟩
    rw [show (if false=true then !jN (V.str (S l)) (bs.map ar) else jN (V.str (S l)) (bs.map ar))=decide (l∈bs) from (zf l bs).trans (by simp)]
    exact .bl _
   ·intro J3 bv s3 hY3 ib
    rw [qO,show (cs.map (·.en)).map (fun l=>PyData.bool (decide (l∈bs)))=((cs.map (·.en)).map fun l=>decide (l∈bs)).map PyData.bool by rw [List.map_map,List.map_map,List.map_map];rfl] at ib
    have:=yb ib
    subst this
    refine ⟨Y2,(),ah.of hY3,(),?_⟩
    rw [show (((cs.map (·.en)).map fun l=>decide (l∈bs)).any id)=false by
     rw [List.any_eq_false]
     intro b hb
     obtain ⟨l,hl,rfl⟩:=List.mem_map.mp hb
     obtain ⟨c,hc,rfl⟩:=List.mem_map.mp hl
     simpa using nb c hc]
    exact k _ ((s0J.trans n2.sm).trans s3)
  by_cases h0:zs=[]
  ·refine go (by rw [h0];rfl) ?_
   refine ⟨(),1,rfl,Sp,_,_,ar e,rfl,rfl,ah.of hSpJ,last,(),rfl,(),?_⟩
   rw [decide_eq_true rfl]
   refine aR ⟨(),Sp,(cP cs f).map kT,rfl,.inl (by rw [kv1];exact ah.of hSpJ),by rw [List.length_map];trivial,(),Sp,(),.inl (ah.of hSpJ),rfl,(),?_⟩
   rw [ok1,List.length_map,decide_eq_true rfl]
   exact aR fin
  obtain ⟨x,xr,ez⟩:aZ fun x xr=>zs=x :: xr:=by
   cases zs with
   | nil=>exact absurd rfl h0
   | cons x r=>exact ⟨x,r,rfl⟩
  obtain ⟨o,rr,gg,rfl,ho⟩:=lz0 ez
  rw [show (!zs.isEmpty)=true by rw [ez];rfl]
  refine bF ⟨(),ca,zs,_,.ref o,rfl,rfl,ah.of (s0J _ _ hca),cv (j:=0) (by rw [ez];rfl),o,_,_,(),rfl,ag.of (s0J _ _ ho),rfl,(),rfl,(),?_⟩
  rw [decide_eq_true rfl]
  refine aR ?_
  refine ⟨(),1,rfl,Sp,_,_,ar e,rfl,rfl,ah.of hSpJ,last,(),rfl,(),?_⟩
  rw [decide_eq_true rfl]
  refine aR ⟨(),Sp,(cP cs f).map kT,rfl,.inl (by rw [kv1];exact ah.of hSpJ),by rw [List.length_map];trivial,(),Sp,(),.inl (ah.of hSpJ),rfl,(),?_⟩
  rw [ok1,List.length_map,decide_eq_true rfl]
  exact aR fin
end
end K18
namespace K18
open PySem L2
set_option maxHeartbeats 8000000
theorem Il {nl:List (List Nat)}:∀{ms:List Str},(∀i∈ms,∃l,l∈nl∧i=S l)→∃ml:List (List Nat),ms=ml.map S
 | [],_=>⟨[],rfl⟩
 | m :: ms,h=>by
  obtain ⟨l,_,e⟩:=h m (List.mem_cons_self ..)
  obtain ⟨ml,q⟩:=Il (ms:=ms) fun i hi=>h i (List.mem_cons_of_mem _ hi)
  exact ⟨l :: ml,by rw [e,q];rfl⟩
section
variable {P:Program}{w:World}{K:PySem.W.Frag}{mg:Str→Option Value}{base:Heap}
inductive GV (vs:List V) (H:Hp) (Q:VK):Prop
 | mk (sa:Addr) (e:List Nat) (xs:List V) (ss:List SD) (pl:List (List Nat)) (h0:vs=[.ref sa,.str (S e)]) (h1:H sa=some (.lst xs)) (h2:ae ED H xs (ss.map sD)) (h3:ss.length≤48) (h4:e∈pl) (h5:(∀s∈ss,s.en∈pl→s.st∈pl)) (h6:pl.length≤10) (h7:∀(F:Addr) (fl:List (List Nat)) (H':Hp),ad H H'→H' F=some (.lst (fl.map ar))→fl.Nodup→(∀l∈fl,l∈pl)→e∈fl→(∀s∈ss,s.en∈fl→s.st∈fl)→Q (.ref F) H')
def Hw:Sp:=fun vs H Q _=>GV  vs H Q
theorem BS (T:Txt K mg):aY P w K mg base CX0 1 T.l_leading_.f T.l_leading_.d ["_law_steps", "_law_end"] Hw:=by
 refine T.l_leading_.F.ok gJ (fun vs H Q E h=>?_) (fun cdv A outer s H vs Q E hr h=>?_)
 ·obtain ⟨sa,e,xs,ss,pl,rfl,_⟩:=h
  rfl
 ·obtain ⟨sa,e,xs,ss,pl,rfl,hsa,ixs,lss,epl,cl,p10,k⟩:=h
  have lxs:xs.length=ss.length:=by rw [ixs.length,List.length_map]
  refine ⟨_,#[#[cW 6 #[ak 5 #[[#[aL 4 #[[#[1,vm]]]],#[()]]]] (@bM _ (K) _ _ _ _ (2) rfl #[aj 5 #[dc 2 (2) _ gJ.nd rfl (Or.inr dk) (by first | exact .inl rfl | exact .inr rfl | assumption)] #[aj 5 #[dc 2 (3) _ gJ.nd rfl (Or.inr hV) (by first | exact .inl rfl | exact .inr rfl | assumption)] (@bK _) (by rfl)] (by rfl)] (by rfl) (by rfl) (by rfl)) (by rfl) (by rfl) (by rfl)] :: #[#[lp 6 PassesOwn.never #[ap 8 (@kH _) #[3,(hV)] #[(),(),(@bX _ (K) (by rfl)),xk,T.b_len,(@aF),#[[#[2,(dk)]]]] #[(),()]] #[#[fW 7 (["_law_step", "_law_at", "_law_found"]) (1) ([3,2]) _ _ _ _ (4) _ _ _ gJ.nd rfl l4 (by kernel_rfl) rfl (by kernel_rfl) (@br _ (K) _ _ _ #[0,sY] (by rfl)) (fun _ _ _ _ _ _=>#[0,(),()]) (fun _ _ _ _ _ _=>#[lh 3 #[ap 8 (@gY _) #[#[0,()][#[()]]] #[#[2,0][#[1,0]]!] #[(),()]]]) (fun _ _ _ _ _ _=>#[#[0,()][#[()]]]) (by intro _;rfl)] :: #[#[iq 2 (2) _ _ _ _ gJ.nd rfl (Or.inr dk) #[ai 8 (@lJ _) #[2,(dk)] (@E7 _ (K) _ _ _ _ _ _ #[fN 7 (["_law_place", "_law_found"]) (1) ([2]) _ _ _ _ rfl (by kernel_rfl) (@br _ (K) _ _ _ #[4,l4] (by rfl)) (fun _ _ _ _ _ _=>#[0,(),()]) (fun _ _ _ _ _ _=>#[lh 3 #[ap 8 (@qx _ (K) (by rfl)) #[0,()] #[1,0] rfl]]) (fun _ _ _ _ _ _=>#[0,()]) (by intro _;rfl)] rfl tY T.b_sorted xj T.b_set (by rfl) (by rfl))] (by rfl) (by first | exact .inl rfl | exact .inr rfl | assumption)] :: #[ac 3 #[iq 2 (3) _ _ _ _ gJ.nd rfl (Or.inr hV) #[ai 8 (@bE _) #[3,(hV)] #[()]] (by rfl) (by first | exact .inl rfl | exact .inr rfl | assumption)]]]]] :: #[ac 3 #[aw 4 #[2,(dk)]]]]],?_⟩
  refine aT fun D1 m1=>⟨(),(by show 1≤10000;decide),fun F0 G1 n1=>⟨(by show 2≤10000;decide),fun T0 G2 n2=>⟨T0,(),ag.of n2.at',rfl,_,(),_,(),rfl,m1 _ _ ?_⟩⟩⟩
  let WI:Nat→St→Hp→Prop:=fun m σ J=>tQ fun (F:Addr) (fl:List (List Nat)) (i:Nat) (v4:Option V)=>σ=[some (.ref sa),some (.str (S e)),some (.ref F),some (.int (i:Int)),v4]∧J F=some (.lst (fl.map ar))∧fl.Nodup∧(∀l∈fl,l∈pl)∧e∈fl∧i≤fl.length∧(∀s∈ss,(∃j,j<i∧fl[j]?=some s.en)→s.st∈fl)∧ad H J∧m=11 - i
  refine aT fun D4 m4=>⟨WI,⟨11,F0,[e],0,(),n2.sm _ _ n1.at',by simp,fun l hl=>by rw [List.mem_singleton.mp hl];exact epl,List.mem_singleton.mpr rfl,Nat.zero_le _,fun s _ ⟨j,h,_⟩=>absurd h (Nat.not_lt_zero _),n1.sm.trans n2.sm,rfl⟩,?_⟩
  rintro m σ J ⟨F,fl,i,v4,rfl,hF,nd,fpl,efl,hi,cl',sJ,em⟩
  have f10:fl.length≤10:=Nat.le_trans (nd.length_le_of_subset fpl) p10
  refine ⟨(),(),F,(),.inl (ah.of hF),_,(),rfl,(),eV (fun c=>?_) fun c=>?_⟩
  case refine_2=>
   have hle:fl.length≤i:=by
    have c':=c
    rw [decide_eq_true_eq,List.length_map] at c'
    trivial
   refine m4 _ _ ⟨(),k F fl J sJ hF nd fpl efl fun s hs he=>cl' s hs ?_⟩
   obtain ⟨j,hj⟩:=List.mem_iff_getElem?.mp he
   exact ⟨j,by have:=(List.getElem?_eq_some_iff.mp hj).1;trivial,hj⟩
  have hlt:i<fl.length:=by
   have c':=of_decide_eq_true c
   rw [List.length_map] at c'
   trivial
  refine ⟨fun σ' J'=>∃m',m'<m∧WI m' σ' J',fun σ' J' z=>z,?_⟩
  obtain ⟨l0,hl0⟩:∃l0,fl[i]?=some l0:=⟨_,List.getElem?_eq_getElem hlt⟩
  have hl0m:=List.mem_of_getElem? hl0
  have hsaJ:=sJ _ _ hsa
  have eat:ik (fl.map ar) (i:Int)=some (ar l0):=cv (by rw [List.getElem?_map,hl0];rfl)
  refine aT fun D5 m5=>⟨(),sa,rfl,⟨xs,ah.of hsaJ⟩,fun Y hY=>dE (ds:=ss) sD (fun s=>decide (s.en=l0)) (fun s=>.str (S s.st)) (by trivial) hY hsaJ (ixs.mono sJ.toE) ?_ ?_⟩
  ·intro j x st H' R1 R2 hx ed hy sm q1 q2
   obtain ⟨o,r,g,rfl,ho,hr1,hg1⟩:=bA hy
   refine ⟨di,(),o,_,_,(),rfl,ag.of ho,rfl,(),(),F,_,_,(),rfl,ah.of (sm _ _ hF),eat,rfl,(),?_⟩
   rw [show decide (V.str (S st.en)=ar l0)=decide (st.en=l0) from decide_eq_decide.mpr ⟨fun h=>gW (V.str.inj h),fun h=>by rw [h]⟩]
   exact eV (fun z=>⟨(),o,_,_,(),rfl,ag.of ho,rfl,q1 z _ _ (ad.refl _) (.str _)⟩) fun z=>q2 (by simpa using z) _ (ad.refl _)
  intro J1 yv s1 hY1 iy
  rw [show (ss.filter fun s=>decide (s.en=l0)).map (fun s=>PyData.str (S s.st))=((ss.filter fun s=>decide (s.en=l0)).map (·.st)).map fun l=>PyData.str (S l) by rw [List.map_map];rfl] at iy
  have:=oH iy
  subst this
  have memS:∀l,l∈(ss.filter fun s=>decide (s.en=l0)).map (·.st)↔∃s,s∈ss∧s.en=l0∧s.st=l:=fun l=>by simp [List.mem_map,List.mem_filter,and_assoc]
  have lenS:((ss.filter fun s=>decide (s.en=l0)).map (·.st)).length≤48:=by rw [List.length_map];exact Nat.le_trans (List.length_filter_le ..) lss
  generalize (ss.filter fun s=>decide (s.en=l0)).map (·.st)=nl at hY1 iy memS lenS
  refine m5 _ _ ?_
  have hF1:=s1 _ _ hF
  refine aT fun D6 m6=>⟨(),(),Y,rfl,⟨_,ah.of hY1⟩,fun Z hZ=>dE (ds:=nl) (fun l=>.str (S l)) (fun l=>decide (l∉fl)) (fun l=>.str (S l)) (by rw [List.length_map];trivial) hZ hY1 (oX _) ?_ ?_⟩
  ·intro j x l H' R1 R2 hx ed hy sm q1 q2
   have hy':=hy
   cases hy
   refine ⟨di,(),(),F,(),.inl (ah.of (sm _ _ hF1)),rfl,j7 _,(),?_⟩
   rw [show (if true=true then !jN (V.str (S l)) (fl.map ar) else jN (V.str (S l)) (fl.map ar))=decide (l∉fl) by
    rw [if_pos rfl,show jN (V.str (S l)) (fl.map ar)=fl.contains l from zf l fl];simp]
   exact eV (fun z=>⟨(),q1 z _ _ (ad.refl _) hy'⟩) fun z=>q2 (by simpa using z) _ (ad.refl _)
  intro J2 zv s2 hZ2 iz
  have:=oH iz
  subst this
  refine ⟨Z,(nl.filter fun l=>decide (l∉fl)).map S,rfl,.inl (by rw [List.map_map];exact ah.of hZ2),by rw [List.length_map];exact Nat.le_trans (List.length_filter_le ..) (by trivial),fun M ms J3 ndm mem n3=>?_⟩
  obtain ⟨ml,rfl⟩:=Il (nl:=nl) (ms:=ms) fun i hi=>by
   obtain ⟨l,hl,e⟩:=List.mem_map.mp ((mem i).mp hi)
   exact ⟨l,(List.mem_filter.mp hl).1,e.symm⟩
  have ndl:ml.Nodup:=by
   refine List.Pairwise.of_map (R:=fun a b=>a≠b) S (fun a b h q=>h (by rw [q])) ndm
  have memL:∀l,l∈ml↔l∈nl∧l∉fl:=fun l=>by
   constructor
   ·intro h
    obtain ⟨l',hl',e⟩:=List.mem_map.mp ((mem (S l)).mp (List.mem_map_of_mem h))
    rw [←gW e]
    obtain ⟨a,b⟩:=List.mem_filter.mp hl'
    exact ⟨a,of_decide_eq_true b⟩
   ·intro ⟨a,b⟩
    obtain ⟨l',hl',e⟩:=List.mem_map.mp ((mem (S l)).mpr (List.mem_map_of_mem (List.mem_filter.mpr ⟨a,decide_eq_true b⟩)))
    rw [←gW e];exact hl'
  have sub2:∀l∈fl++ml,l∈pl:=fun l hl=>(List.mem_append.mp hl).elim (fpl l) fun h=>by
   obtain ⟨s,hs,a,b⟩:=(memS l).mp ((memL l).mp h).1
   rw [←b]
   exact cl s hs (by rw [a];exact fpl l0 hl0m)
  have nd2:(fl++ml).Nodup:=List.nodup_append.mpr ⟨nd,ndl,fun a ha b hb q=>((memL b).mp hb).2 (q▸ha)⟩
  have m10:(fl++ml).length≤10:=Nat.le_trans (nd2.length_le_of_subset sub2) p10
  have s13:=s2.trans n3.sm
  refine ⟨F,M,_,(),rfl,s13 _ _ hF1,n3.at',by rw [List.length_append] at m10;simp;trivial,fun F2 J4 n4=>m6 _ _ ?_⟩
  have hF2:J4 F2=some (.lst ((fl++ml).map ar)):=by rw [List.map_append,←(show (ml.map S).map V.str=ml.map ar by rw [List.map_map];rfl)];exact n4.at'
  refine ⟨(),_,(),rfl,⟨10 - i,by trivial,F2,fl++ml,i+1,(),hF2,nd2,sub2,List.mem_append_left _ efl,by rw [List.length_append];trivial,?_,((sJ.trans s1).trans s13).trans n4.sm,by trivial⟩⟩
  intro s hs ⟨j,hj,ej⟩
  rcases Nat.lt_or_ge j i with h | h
  ·rw [List.getElem?_append_left (by trivial)] at ej
   exact List.mem_append_left _ (cl' s hs ⟨j,h,ej⟩)
  ·have:j=i:=by trivial
   subst this
   rw [List.getElem?_append_left hlt,hl0] at ej
   have e1:s.en=l0:=by cases ej;rfl
   by_cases q:s.st∈fl
   ·exact List.mem_append_left _ q
   ·exact List.mem_append_right _ ((memL _).mpr ⟨(memS _).mpr ⟨s,hs,e1,rfl⟩,q⟩)
end
end K18
namespace K18
open PySem L2
set_option maxHeartbeats 16000000
abbrev La (l:List Nat):PyData:=.tuple [.str (S l),cM (1,1)]
theorem AN {H:Hp}:∀{vs:List V}{fl:List (List Nat)},ae ED H vs (fl.map La)→aZ fun (ts qs:List Addr)=>vs=ts.map V.ref∧ts.length=fl.length∧qs.length=fl.length∧∀(i:Nat) l,fl[i]?=some l→aZ fun t q=>ts[i]?=some t∧qs[i]?=some q∧H t=some (.tup [.str (S l),.ref q])∧H q=some (fr (1,1))
 | [],[],_=>⟨[],[],rfl,rfl,rfl,fun i l h=>by cases h⟩
 | [],_ :: _,h=>by cases h
 | _ :: _,[],h=>by cases h
 | v :: vs,l :: fl,h=>by
  cases h with
  | cons a b=>
  obtain ⟨ts,qs,e1,e2,e3,f⟩:=AN b
  cases a with
  | @tup t zs _ ht q=>
  cases q with
  | cons x1 q=>
  cases q with
  | cons x2 q=>
  cases q
  cases x1
  cases x2 with
  | @tup o ws _ ho q=>
  cases q with
  | cons y1 q=>
  cases q with
  | cons y2 q=>
  cases q
  cases y1
  cases y2
  refine ⟨t :: ts,o :: qs,by rw [e1];rfl,by rw [List.length_cons,e2];rfl,by rw [List.length_cons,e3];rfl,fun i l' hl=>?_⟩
  cases i with
  | zero=>cases hl;exact ⟨t,o,rfl,rfl,ht,ho⟩
  | succ i=>exact f i l' hl
theorem ud {p:Nat}{ts:List aI}{s:LS}:∀{n:Nat},(L2.upTo p ts s n).lf=none→(L2.upTo p ts s n).ω=s.ω
 | 0,_=>rfl
 | n+1,h=>by
  cases et:ts[n]? with
  | none=>
   have e:L2.upTo p ts s (n+1)=L2.upTo p ts s n:=by rw [L2.upTo,et]
   rw [e] at h ⊢
   exact ud h
  | some t=>
   rw [pf et] at h ⊢
   cases q:gI (L2.upTo p ts s n).ω t with
   | true=>rw [ph q] at h;cases h
   | false=>rw [rQ q] at h ⊢;exact ud h
section
variable {P:Program}{w:World}{K:PySem.W.Frag}{mg:Str→Option Value}{base:Heap}
inductive GM (vs:List V) (H:Hp) (Q:VK):Prop
 | mk (sa F:Addr) (xs:List V) (ss:List SD) (ls fl:List (List Nat)) (m:Nat) (h0:vs=[.ref sa,.ref F]) (h1:H sa=some (.lst xs)) (h2:ae ED H xs (ss.map sD)) (h3:ss.length≤48) (h4:(∀s∈ss,vC ls s)) (h5:H F=some (.lst (fl.map ar))) (h6:fl.Nodup) (h7:fl.length≤10) (h8:(∀s∈ss,s.en∈fl→s.st∈fl)) (h9:m<fl.length) (h10:(dL ((cO ss fl).map eO) (m+1)).lf=none) (h11:∀H',ad H H'→Q (.bl true) H')
def Io:Sp:=fun vs H Q _=>GM  vs H Q
theorem Aq (T:Txt K mg):aY P w K mg base CX0 3 T.l_held_all_.f T.l_held_all_.d ["_law_steps", "_law_places"] Io:=by
 have G_l_product:=#[(e7)]
 have G_l_above:=#[(nN)]
 refine T.l_held_all_.F.ok df (fun vs H Q E h=>?_) (fun cdv A outer s H vs Q E hr h=>?_)
 ·obtain ⟨sa,F,xs,ss,ls,fl,m,rfl,_⟩:=h
  rfl
 ·obtain ⟨sa,F,xs,ss,ls,fl,m,rfl,hsa,ixs,lss,gss,hF,nd,f10,cl,hm,hlf,k⟩:=h
  have lxs:xs.length=ss.length:=by rw [ixs.length,List.length_map]
  refine ⟨_,#[#[fW 7 (["_law_step", "_law_places"]) (1) ([1]) _ _ _ _ (3) _ _ _ df.nd rfl k6 (by kernel_rfl) rfl (by kernel_rfl) (@br _ (K) _ _ _ #[0,qR] (by rfl)) (fun _ _ _ _ _ _=>#[0,(),()]) (fun _ _ _ _ _ _=>#[lh 3 #[PW.pt 3 #[qG 7 #[ap 8 (@Cu _ (K) (by rfl)) #[#[0,()][#[()]]] #[1,0] rfl] #[n0 4 #[ap 8 (@Cu _ (K) (by rfl)) #[#[0,()][#[()]]] #[1,0] rfl]]]]]) (fun _ _ _ _ _ _=>#[0,()]) (by intro _;rfl)] :: #[#[4,df.nd,eh,#[cu 9 (@xc _ rfl) vf T.b_dict (@ux) #[[#[fN 7 (["_law_place"]) (1) ([]) _ _ _ _ rfl (by kernel_rfl) (@br _ (K) _ _ _ #[1,(j5)] (by rfl)) (fun _ _ _ _ _ _=>#[0,(),()]) (fun _ _ _ _ _ _=>@cH _) (fun _ _ _ _ _ _=>#[ak 5 #[[#[0,()],#[ak 5 #[[#[()],#[()]]]]]]]) (by intro _;rfl)]]] (by decide) (by decide) (by rfl) (by rfl)]] :: #[#[cC 8 PassesOwn.never rfl #[eX 6 tR T.b_range #[[#[ai 8 (@bE _) #[(),(),(@bX _ (K) (by rfl)),wu,T.b_len,(@aF),#[[#[1,(j5)]]]] #[()]]]] (by rfl)] #[5,df.nd,sy] #[#[6,df.nd,gU,#[ie 4]] :: #[ac 3 #[cC 8 PassesOwn.never rfl (@br _ (K) _ _ _ #[3,k6] (by rfl)) #[2,df.nd,dv] #[#[7,df.nd,jq,#[G_l_product,pR,T.l_product_,#[[#[#[2,dv][#[()]]],#[cF 7 (@fK _) #[4,eh] #[#[2,dv][#[()]]] (fun _ _=>rfl)]]]]] :: #[ac 3 #[bh 8 #[ap 8 (@lM _) #[G_l_above,rG,T.l_above_,#[[#[7,jq],#[cF 7 (@fK _) #[4,eh] #[#[2,dv][#[()]]] (fun _ _=>rfl)]]]] #[()] #[(),()]] #[ac 3 #[cW 6 #[ak 5 #[[#[7,jq],#[ie 4]]]] (@bM _ (K) _ _ _ _ (2) rfl #[aj 5 #[kP 7 #[4,eh] #[#[2,dv][#[()]]] (@rj _) (by intro _;rfl)] #[aj 5 #[6,df.nd,gU] (@bK _) (by rfl)] (by rfl)] (by rfl) (by rfl) (by rfl)) (by rfl) (by rfl) (by rfl)]] (@aK _)]]] (by intro _;rfl)]]] (by intro _;rfl)] :: #[ac 3 #[aw 4 #[Dm 4 #[6,gU]]]]]]],?_⟩
  refine aT fun D1 m1=>⟨(),sa,rfl,⟨xs,ah.of hsa⟩,fun N hN=>dE (ds:=ss) sD (fun s=>decide (s.en∈fl)) sD (by trivial) hN hsa ixs ?_ ?_⟩
  ·intro i x st H' R1 R2 hx ed hy sm q1 q2
   obtain ⟨o,r,g,rfl,ho,hr1,hg1⟩:=bA hy
   have inF:∀l,(if false=true then !jN (V.str (S l)) (fl.map ar) else jN (V.str (S l)) (fl.map ar))=decide (l∈fl):=fun l=>(zf l fl).trans (by simp)
   have ms:=List.mem_of_getElem? ed
   refine ⟨di,(),o,_,_,(),rfl,ag.of ho,rfl,(),F,(),.inl (ah.of (sm _ _ hF)),rfl,j7 _,(),?_⟩
   rw [inF st.st]
   by_cases z:st.en∈fl
   ·rw [decide_eq_true (cl st ms z)]
    refine bF ⟨(),o,_,_,(),rfl,ag.of ho,rfl,(),F,(),.inl (ah.of (sm _ _ hF)),rfl,j7 _,(),?_⟩
    rw [inF st.en,decide_eq_true z]
    exact bF ⟨(),q1 (decide_eq_true z) _ _ (ad.refl _) hy⟩
   ·refine eV (fun _=>⟨(),o,_,_,(),rfl,ag.of ho,rfl,(),F,(),.inl (ah.of (sm _ _ hF)),rfl,j7 _,(),?_⟩) fun _=>q2 (decide_eq_false z) _ (ad.refl _)
    rw [inF st.en,decide_eq_false z]
    exact aR (q2 (decide_eq_false z) _ (ad.refl _))
  intro H1 ns s1 hN1 ins
  rw [show (ss.filter fun s=>decide (s.en∈fl))=cO ss fl from rfl] at ins
  have ln:(cO ss fl).length≤48:=Nat.le_trans (List.length_filter_le ..) lss
  have lns:ns.length=(cO ss fl).length:=by rw [ins.length,List.length_map]
  have mn:∀s∈cO ss fl,vC ls s∧s.st∈fl∧s.en∈fl:=fun s hs=>by
   obtain ⟨a,b⟩:=List.mem_filter.mp hs
   have b':=of_decide_eq_true b
   exact ⟨gss s a,cl s a b',b'⟩
  generalize cO ss fl=near at hlf ins ln lns mn
  refine m1 _ _ ?_
  have hF1:=s1 _ _ hF
  refine aT fun D2 m2=>⟨(),F,rfl,⟨_,ah.of hF1⟩,fun Z hZ=>dE (ds:=fl) (fun l=>.str (S l)) (fun _=>true) La (by rw [List.length_map];trivial) hZ hF1 (oX _) ?_ ?_⟩
  ·intro i x l H' R1 R2 hx ed hy sm q1 q2
   cases hy
   exact ⟨di,bF (B:=R2 H') ⟨(),(by show 2≤10000;decide),fun z J1 n1=>⟨(by show 2≤10000;decide),fun y J2 n2=>q1 rfl _ _ (n1.sm.trans n2.sm) (.tup n2.at' (.cons (.str _) (.cons (fY (p:=(1,1)) (n2.sm _ _ n1.at')) .nil)))⟩⟩⟩
  intro H2 zs s2 hZ2 iz
  rw [qO] at iz
  obtain ⟨ts,qs,rfl,lts,lqs,at'⟩:=AN iz
  refine ⟨Z,ts,fl.map kT,qs.map V.ref,rfl,hZ2,by rw [List.length_map];exact lts,by rw [List.length_map,List.length_map];exact lqs,nd.map kT fun a b h q=>h (gW (Sum.inr.inj q)),by rw [List.length_map];trivial,fun i t et=>?_,fun W H3 n3=>m2 _ _ ?_⟩
  ·obtain ⟨l,el⟩:∃l,fl[i]?=some l:=⟨_,List.getElem?_eq_getElem (by have:=(List.getElem?_eq_some_iff.mp et).1;trivial)⟩
   obtain ⟨t',q,e1,e2,h1,h2⟩:=at' i l el
   rw [et] at e1
   cases e1
   exact ⟨kT l,.ref q,by rw [List.getElem?_map,el];rfl,by rw [List.getElem?_map,e2];rfl,h1⟩
  have s02:=s1.trans s2
  have s03:=s02.trans n3.sm
  have dw0:DW H3 W fl (fun _=>(1,1)) 10:=by
   refine ⟨_,n3.at',by rw [List.length_zip,List.length_map,List.length_map];trivial,fun l hl=>?_⟩
   obtain ⟨i,el⟩:=List.mem_iff_getElem?.mp hl
   obtain ⟨t',q,e1,e2,h1,h2⟩:=at' i l el
   exact ⟨q,wf (nd.map kT fun a b h q=>h (gW (Sum.inr.inj q))) (by rw [List.getElem?_map,el];rfl) (by rw [List.getElem?_map,e2];rfl),n3.sm _ _ h2⟩
  have hN3:=n3.sm _ _ (s2 _ _ hN1)
  have in3:=ins.mono (s2.trans n3.sm).toE
  have hF3:=s03 _ _ hF
  have nNW:N≠W:=fun z=>by have:=n3.fr;rw [←z,s2 _ _ hN1] at this;cases this
  generalize ett:near.map eO=tt at hlf
  have ltt:tt.length=near.length:=by rw [←ett,List.length_map]
  have mvW:∀{J:Hp}{a:Addr}{us:List V},aq (fun a=>a=W) H3 J→a≠W→H3 a=some (.lst us)→J a=some (.lst us):=fun s n h=>s.old _ _ n h
  have nFW:F≠W:=fun z=>by have:=n3.fr;rw [←z,s02 _ _ hF] at this;cases this
  refine aT fun D3 m3=>⟨(),F,(),.inl (ah.of hF3),_,(),rfl,(),by rw [List.length_map];trivial,by rw [List.length_map];trivial,j6 (fun i σ J=>tQ fun (v2 v5 g v7:Option V)=>σ=[some (.ref sa),some (.ref F),v2,some (.ref N),some (.ref W),v5,g,v7]∧DW J W fl (dL tt (min i m)).ω (10+48*i)∧(∀l∈fl,Gb (1+288*(min i m)) (1+288*(min i m)) ((dL tt (min i m)).ω l)∧1≤((dL tt (min i m)).ω l).1)∧(m<i→g=some (.bl false))∧aq (fun a=>a=W) H3 J) ⟨_,_,_,(),?_,?_,fun h=>absurd h (Nat.not_lt_zero _),aq.refl _⟩ ?_ ?_⟩
  ·rw [Nat.zero_min];exact dw0
  ·intro l hl
   rw [Nat.zero_min]
   exact ⟨⟨show (1:Int).natAbs<2 ^ (1+288*0) by decide,show (1:Int).natAbs<2 ^ (1+288*0) by decide,Int.le_refl 1⟩,Int.le_refl 1⟩
  case refine_4=>
   rintro σ J ⟨v2,v5,g,v7,rfl,dw,gω,hg,sE⟩
   refine m3 _ _ ?_
   rw [hg (by rw [List.length_map];trivial)]
   exact ⟨(),(),k _ fun a o ha=>sE.old a o (fun z=>by have:=n3.fr;rw [←z,s02 _ _ ha] at this;cases this) (s03 _ _ ha)⟩
  rintro i σ J hi ⟨v2,v5,g,v7,rfl,dw,gω,hg,sE⟩
  have hi':i<fl.length+1:=by rw [List.length_map] at hi;trivial
  have hmin:min i m≤9:=by trivial
  generalize ec:min i m=c at dw gω hmin
  refine nz (t:=jH _ _) fun DB nB=>?_
  refine aT fun D4 m4=>m4 _ _ ?_
  have nNW':∀{J':Hp},aq (fun a=>a=W) H3 J'→J' N=some (.lst ns):=fun s=>mvW s nNW hN3
  refine ⟨(),N,rfl,⟨ns,ah.of (nNW' sE)⟩,jm (xs:=ns) (fun j σ J'=>aZ fun (v2 v7:Option V)=>σ=[some (.ref sa),some (.ref F),v2,some (.ref N),some (.ref W),some (.int (0+(i:Int))),some (.bl (L2.upTo (c+1) tt (dL tt c) j).lf.isSome),v7]∧DW J' W fl (L2.upTo (c+1) tt (dL tt c) j).ω (10+48*i+j)∧(∀l∈fl,Gb (1+288*c+6*j) (1+288*c+6*j) ((L2.upTo (c+1) tt (dL tt c) j).ω l)∧1≤((L2.upTo (c+1) tt (dL tt c) j).ω l).1)∧aq (fun a=>a=W) H3 J') ⟨_,(),dw,gω,sE⟩ (fun j σ J' _ ⟨_,_,_,_,_,s⟩=>ah.of (nNW' s)) ?_ ?_⟩
  case refine_2=>
   rintro σ J' ⟨v2,v7,rfl,dw',gω',sE'⟩
   rw [lns,←ltt] at dw' gω'
   rw [lns,←ltt]
   have ep:L2.upTo (c+1) tt (dL tt c) tt.length=dL tt (c+1):=rfl
   rw [ep] at dw' gω' ⊢
   have lt48:tt.length≤48:=by rw [ltt];exact ln
   by_cases h:i<m
   ·have e1:min (i+1) m=c+1:=by trivial
    refine nB _ _ ⟨_,_,_,(),?_,?_,fun h=>by trivial,sE'⟩
    ·rw [e1]
     obtain ⟨kv,a,b,d⟩:=dw'
     exact ⟨kv,a,by trivial,d⟩
    ·rw [e1]
     exact fun l hl=>⟨(gω' l hl).1.mono (by trivial) (by trivial),(gω' l hl).2⟩
   ·have e0:c=m:=by trivial
    have e1:min (i+1) m=m:=by trivial
    subst e0
    have eω:(dL tt (c+1)).ω=(dL tt c).ω:=by
     rw [←ep]
     exact ud (by rw [ep];exact hlf)
    rw [eω] at dw' gω'
    refine nB _ _ ⟨_,_,_,(),?_,?_,fun _=>by rw [hlf];rfl,sE'⟩
    ·rw [e1]
     obtain ⟨kv,a,b,d⟩:=dw'
     exact ⟨kv,a,by trivial,d⟩
    ·rw [e1];exact gω
  rintro j x σ J1 hx ⟨v2',v7',rfl,dw1,gω1,sE1⟩
  clear dw gω
  obtain ⟨kv,hW,lW,vW⟩:=dw1
  obtain ⟨st,est⟩:∃st,near[j]?=some st:=⟨_,List.getElem?_eq_getElem (by have:=(List.getElem?_eq_some_iff.mp hx).1;trivial)⟩
  have hj:j<48:=by have:=(List.getElem?_eq_some_iff.mp est).1;trivial
  obtain ⟨gs,mb,me⟩:=mn st (List.mem_of_getElem? est)
  have eU:=pf (p:=c+1) (s:=dL tt c) (show tt[j]?=some (eO st) by rw [←ett,List.getElem?_map,est];rfl)
  obtain ⟨d,ed,gy⟩:=(in3.mono (uG sE1)).get hx
  rw [List.getElem?_map,est] at ed
  cases ed
  obtain ⟨o,r,g,rfl,ho,hr1,hg1⟩:=bA gy
  generalize L2.upTo (c+1) tt (dL tt c) j=U at eU vW gω1
  rw [eU]
  obtain ⟨oe,ve,hoe⟩:=vW st.en me
  obtain ⟨ob,vb,hob⟩:=vW st.st mb
  obtain ⟨ge,pe1⟩:=gω1 st.en me
  obtain ⟨gb,pb1⟩:=gω1 st.st mb
  have grow:∀l∈fl,Gb (1+288*c+6*(j+1)) (1+288*c+6*(j+1)) (U.ω l)∧1≤(U.ω l).1:=fun l hl=>⟨(gω1 l hl).1.mono (by trivial) (by trivial),(gω1 l hl).2⟩
  refine nz (t:=jH _ _) fun DC nC=>?_
  refine aT fun D5 m5=>⟨(),o,_,_,(),rfl,ag.of ho,rfl,(),(),o,_,_,(),rfl,ag.of ho,rfl,W,kv,kT st.en,.ref oe,rfl,rfl,hW,ve,g,oe,st.gain,_,6,6,_,(),hg1,hoe,gs.g,ge,by decide,by decide,by trivial,by trivial,fun z=>absurd z Bool.false_ne_true,fun q J3 n3=>m5 _ _ ?_⟩
  have gq:Gb (1+288*c+6*(j+1)) (1+288*c+6*(j+1)) (KM.lTim st.gain (U.ω st.en)):=gs.g.tim ge (by trivial) (by trivial)
  obtain ⟨q1,q2⟩:=gz gq (by trivial) (by trivial)
  obtain ⟨b1,b2⟩:=gz gb (by trivial) (by trivial)
  refine ⟨(),(),(),o,_,_,(),rfl,ag.of (n3.sm _ _ ho),rfl,W,kv,kT st.st,.ref ob,rfl,rfl,n3.sm _ _ hW,vb,q,ob,_,(),n3.at',n3.sm _ _ hob,q1,q2,b1,b2,_,(),rfl,(),?_⟩
  have ecmp:decide ((KM.lTim st.gain (U.ω st.en)).1*(U.ω st.st).2 - (U.ω st.st).1*(KM.lTim st.gain (U.ω st.en)).2 > 0)=gI U.ω (eO st):=by
   unfold gI
   rw [decide_eq_true (show (eO st).most≠(0,1) from fun h=>by have:=gs.r0;rw [show st.room=(0,1) from h] at this;exact absurd this (by decide)),Bool.true_and]
   exact decide_eq_decide.mpr ⟨fun h=>by show (U.ω st.st).1*(KM.lTim st.gain (U.ω st.en)).2<(KM.lTim st.gain (U.ω st.en)).1*(U.ω st.st).2;trivial,fun h=>by have h':(U.ω st.st).1*(KM.lTim st.gain (U.ω st.en)).2<(KM.lTim st.gain (U.ω st.en)).1*(U.ω st.st).2:=h;trivial⟩
  rw [ecmp]
  cases hl:gI U.ω (eO st) with
  | false=>
   refine aR (nC _ _ ?_)
   rw [rQ hl]
   exact ⟨_,_,rfl,⟨kv,n3.sm _ _ hW,by trivial,fun l hl'=>let ⟨o',v',h'⟩:=vW l hl';⟨o',v',n3.sm _ _ h'⟩⟩,grow,sE1.trans n3.sm.toE⟩
  | true=>
   refine bF ⟨(),(by show 2≤10000;decide),fun T J4 n4=>⟨T,(),ag.of n4.at',rfl,_,(),(),(),o,_,_,(),rfl,ag.of (n4.sm _ _ (n3.sm _ _ ho)),rfl,W,kv,kT st.st,rfl,rfl,n4.sm _ _ (n3.sm _ _ hW),by trivial,fun J5 c5=>⟨_,(),rfl,nC _ _ ?_⟩⟩⟩
   rw [ph hl]
   have hW4:=n4.sm _ _ (n3.sm _ _ hW)
   have s15:aq (fun a=>a=W) J1 J5:=(n3.sm.trans n4.sm).toE.trans ⟨fun a o n h=>c5.ol a o n h,fun a us h=>c5.tp ⟨_,hW4⟩ a us h⟩
   have tupJ:∀{a:Addr}{us:List V},J3 a=some (.tup us)→J5 a=some (.tup us):=fun {a us} h=>c5.tp ⟨_,hW4⟩ a us (n4.sm _ _ h)
   refine ⟨_,(),⟨_,c5.at',by have:=rK kv (kT st.st) (.ref q);trivial,fun l hl'=>?_⟩,fun l hl'=>?_,sE1.trans s15⟩
   ·rw [mj]
    by_cases cl':l=st.st
    ·subst cl'
     refine ⟨q,if_pos rfl,?_⟩
     show J5 q=some (fr (eJ _ _ _ _))
     unfold eJ
     rw [if_pos rfl]
     exact tupJ n3.at'
    ·rw [if_neg (uv cl')]
     obtain ⟨o',v',h'⟩:=vW l hl'
     refine ⟨o',v',?_⟩
     show J5 o'=some (fr (eJ _ _ _ _))
     unfold eJ
     rw [if_neg cl']
     exact tupJ (n3.sm _ _ h')
   ·show Gb _ _ (eJ _ _ _ _)∧1≤(eJ _ _ _ _).1
    unfold eJ
    by_cases cl':l=st.st
    ·rw [if_pos cl']
     exact ⟨gq,nX gs.g1 gs.g.pos pe1 ge.pos⟩
    ·rw [if_neg cl']
     exact grow l hl'
end
end K18
namespace K18
open PySem L2
set_option maxHeartbeats 8000000
theorem IR:KM.vl (1,1)=dh []:=by nofun
theorem Ei (t:aI):dh [t]=gR t:=by
 show gR t*1=gR t
 exact Rat.mul_one _
theorem Gy {p q:KM.Fra} (hp:1≤p.2) (hq:1≤q.2):KM.vl (KM.lTim p q)=KM.vl p*KM.vl q:=KM.vl_tim (by trivial) (by trivial)
section
variable {P:Program}{w:World}{K:PySem.W.Frag}{mg:Str→Option Value}{base:Heap}
inductive CH (vs:List V) (H:Hp) (Q:VK):Prop
 | mk (ca po:Addr) (zs:List V) (cs:List SD) (h0:vs=[.ref ca,.ref po]) (h1:H ca=some (.lst zs)) (h2:ae ED H zs (cs.map sD)) (h3:cs.length≤10) (h4:(∀c∈cs,Gb 6 6 c.gain∧1≤c.gain.1)) (h5:H po=some (fr (1,1))) (h6:∀T F q g H',ad H H'→H' T=some (.tup [.ref F,.ref q])→H' q=some (fr g)→Gb 61 61 g→KM.vl g=dh (cs.map eO)→Q (.ref T) H')
def Es:Sp:=fun vs H Q _=>CH  vs H Q
theorem xG (T:Txt K mg):aY P w K mg base CX0 3 T.l_parts_on_.f T.l_parts_on_.d ["_law_steps", "_law_part"] Es:=by
 have G_l_product:=#[(e7)]
 refine T.l_parts_on_.F.ok de (fun vs H Q E h=>?_) (fun cdv A outer s H vs Q E hr h=>?_)
 ·obtain ⟨ca,po,zs,cs,rfl,_⟩:=h
  rfl
 ·obtain ⟨ca,po,zs,cs,rfl,hca,izs,lcs,gcs,hpo,k⟩:=h
  have lzs:zs.length=cs.length:=by rw [izs.length,List.length_map]
  refine ⟨_,#[#[2,de.nd,cj,#[aL 4 (@bc _)]] :: #[#[cC 8 PassesOwn.never rfl (@br _ (K) _ _ _ #[0,kC] (by rfl)) #[3,de.nd,cy] #[#[cI 4 (@bS _ (K) _ _ _ _ _ _ _ _ _ _ _ PySem.F.plainAttrs_list PySem.F.slot_list_append PySem.F.type_list_append (@bU _) #[2,cj] #[[#[ak 5 #[[#[3,cy],#[1,bI]]]]]] (by rfl) (by rfl) (by rfl) (by rfl) (by rfl) (by rfl)) (by rfl)] :: #[ac 3 #[1,de.nd,bI,#[G_l_product,jO,T.l_product_,#[[#[1,bI],#[#[3,cy][#[()]]]]]]]]] (by intro _;rfl)] :: #[ac 3 #[aw 4 #[ak 5 #[[#[2,cj],#[1,bI]]]]]]]],?_⟩
  refine bT fun Q1 nA=>⟨(by show 0≤10000;decide),fun F H1 n1=>nA _ _ ?_⟩
  refine aT fun DB nB=>?_
  refine ⟨(),ca,rfl,⟨_,ah.of (n1.sm _ _ hca)⟩,jm (xs:=zs) (fun i σ H'=>A3 fun po v3 fs xs pp=>σ=[some (.ref ca),some (.ref po),some (.ref F),v3]∧H' po=some (fr pp)∧Gb (1+6*i) (1+6*i) pp∧1≤pp.1∧H' F=some (.lst fs)∧ae ED H' fs (xs.map AH)∧xs.map (·.1)=cs.take i∧(∀x∈xs,Gb 55 55 x.2∧1≤x.2.1)∧ad H H'∧KM.vl pp=dh ((cs.take i).map eO)) ⟨po,none,[],[],(1,1),rfl,n1.sm _ _ hpo,BH,by decide,n1.at',.nil,rfl,(fun x hx=>by cases hx),n1.sm,IR⟩ ?_ ?_ ?_⟩
  ·rintro i σ H' _ ⟨_,_,_,_,_,_,_,_,_,_,_,_,_,sm,_⟩
   exact ah.of (sm _ _ hca)
  ·rintro i x σ J hx ⟨po,v3,fs,xs,pp,rfl,hpo,gpp,pp1,hF,iF,ex,gx,sm,vp⟩
   have hi:i<zs.length:=(List.getElem?_eq_some_iff.mp hx).1
   obtain ⟨dx,edx,gs⟩:=izs.get hx
   rw [List.getElem?_map] at edx
   obtain ⟨sd,esd,rfl⟩:=Option.map_eq_some_iff.mp edx
   obtain ⟨gg,g1⟩:=gcs sd (List.mem_of_getElem? esd)
   obtain ⟨o,orr,og,rfl,ho,hor,hog⟩:=bA gs
   have lxs:xs.length=i:=by
    have:=congrArg List.length ex
    rw [List.length_map,List.length_take] at this
    trivial
   have lfs:fs.length=i:=by rw [iF.length,List.length_map,lxs]
   refine aT fun DC nC=>?_
   refine ⟨(),.inl ⟨rfl,_,ah.of hF⟩,(),(),(by show 2≤10000;decide),fun T2 J2 n2=>⟨F,_,(),rfl,n2.sm _ _ hF,by trivial,fun J3 c3=>nC _ _ ?_⟩⟩
   have hF2:=n2.sm _ _ hF
   have s3:ad H J3:=ad.ch (sm.trans n2.sm) c3 n1.fr
   have hpo3:=c3.tup (n2.sm _ _ hpo) hF2
   have ho3:=s3 _ _ ho
   refine ⟨(),(),o,_,_,(),rfl,ag.of ho3,rfl,po,og,pp,sd.gain,_,_,_,(),hpo3,s3 _ _ hog,gpp,gg,by trivial,by trivial,by decide,by decide,(fun z=>by cases z),fun q J4 n4=>?_⟩
   refine ⟨q,_,fs++[.ref T2],xs++[(sd,pp)],(),n4.at',gpp.tim gg (by trivial) (by trivial),nX pp1 gpp.pos g1 gg.pos,n4.sm _ _ c3.at',?_,?_,fun x hx=>?_,s3.trans n4.sm,?_⟩
   ·rw [List.map_append]
    refine (gB c3 hF2 (iF.mono n2.sm.toE) ?_).mono n4.sm.toE
    exact .tup n2.at' (.cons ((gs.mono (sm.trans n2.sm).toE)) (.cons (fY (p:=pp) (n2.sm _ _ hpo)) .nil))
   ·rw [List.map_append,ex,List.take_succ,esd];rfl
   ·rcases List.mem_append.mp hx with q' | q'
    ·exact gx x q'
    ·rw [List.mem_singleton.mp q']
     exact ⟨gpp.mono (by trivial) (by trivial),pp1⟩
   ·rw [List.take_add_one,esd,List.map_append,tj,←vp,Gy gpp.pos gg.pos]
    congr 1
    exact (Ei (eO sd)).symm
  ·rintro σ J ⟨po,v3,fs,xs,pp,rfl,hpo,gpp,pp1,hF,iF,ex,gx,sm,vp⟩
   rw [lzs,List.take_length] at ex
   refine nB _ _ ⟨(),(),(by show 2≤10000;decide),fun T2 J2 n2=>?_⟩
   exact k T2 F po pp J2 (sm.trans n2.sm) n2.at' (n2.sm _ _ hpo) (gpp.mono (by trivial) (by trivial)) (by rw [vp,lzs,List.take_length])
end
end K18
namespace K18
open PySem L2
set_option maxHeartbeats 8000000
theorem wT {K:PySem.W.Frag}{a D:Addr}{xs:List V}{ds:List (List SD)}{H1:Hp}{σc:St}{g:TG}{te:TE}{Q:VK} (hz:xs.length≤10000) (lxs:xs.length=ds.length) (hD:H1 D=none) (ha:H1 a=some (.tup xs))
 (hs:∀(i:Nat) (x:V) (d:List SD) (H':Hp) (R1:VK),xs[i]?=some x→ds[i]?=some d→ad H1 H'→(∀L us H4,ad H' H4→H' L=none→H4 L=some (.lst us)→ae ED H4 us (d.map sD)→R1 (.ref L) H4)→g x σc H' fun σ2 H2=>kQ σc σ2∧te σ2 H2 R1)
 (hd:∀H' ys,ad H1 H'→H' D=some (.lst ys)→ys.length=ds.length→(∀(i:Nat) d,ds[i]?=some d→aZ fun L us=>ys[i]?=some (.ref L)∧H' L=some (.lst us)∧ae ED H' us (d.map sD))→Q (.ref D) H'):uM (AQ K a) σc g tT te D H1 Q:=by
 refine pb (n:=xs.length) (fun i H' ys=>H' D=some (.lst ys)∧ys.length=i∧(∀(j:Nat) d,j<i→ds[j]?=some d→aZ fun L us=>ys[j]?=some (.ref L)∧L≠D∧H' L=some (.lst us)∧ae ED H' us (d.map sD))∧ad H1 H') (by rw [sizeLine_eq];trivial) ⟨aB,rfl,fun j d h=>absurd h (Nat.not_lt_zero _),ad.new hD⟩ ?_ ?_ ?_ ?_ ?_
 ·rintro i H' ys ⟨h1,h2,_⟩
  exact ⟨h1,Nat.le_of_eq h2⟩
 ·rintro i H' ys hi ⟨_,_,_,sm⟩
  exact ⟨xs,xs[i],ag.of (sm _ _ ha),List.getElem?_eq_getElem hi⟩
 ·rintro H' ys ⟨_,_,_,sm⟩
  exact ⟨xs,ag.of (sm _ _ ha),Nat.le_refl _⟩
 ·rintro i H' ys x H'' hi ⟨h1,h2,h3,sm⟩ ⟨rfl,ex⟩
  have hx:=ex xs (ag.of (sm _ _ ha))
  obtain ⟨d,ed⟩:∃d,ds[i]?=some d:=⟨_,List.getElem?_eq_getElem (show i<ds.length by trivial)⟩
  simp only [tT,eq_self,if_true]
  refine hs i x d _ _ hx ed sm fun L us H4 s4 fL hL iL=>?_
  have nLD:L≠D:=fun z=>by rw [z,h1] at fL;cases fL
  have ch:Ch H4 D (ys++[.ref L]) (aN H4 D (.lst (ys++[.ref L]))):=.mk'
  have hD4:=s4 _ _ h1
  have sE:aq (fun a=>a=D) H4 (aN H4 D (.lst (ys++[.ref L]))):=⟨fun a o n h=>ch.ol a o n h,fun a us h=>ch.tup h hD4⟩
  refine ⟨hD4,aB,by rw [List.length_append,h2];rfl,fun j d' hj ed'=>?_,fc hD (sm.trans s4)⟩
  rcases Nat.lt_or_ge j i with h | h
  ·obtain ⟨L',us',e1,e2,e3,e4⟩:=h3 j d' h ed'
   exact ⟨L',us',by rw [List.getElem?_append_left (by trivial)];exact e1,e2,sE.old _ _ e2 (s4 _ _ e3),(e4.mono s4.toE).mono (uG sE)⟩
  ·have:j=i:=by trivial
   subst this
   rw [ed] at ed'
   cases ed'
   exact ⟨L,us,by rw [List.getElem?_append_right (by trivial),h2,Nat.sub_self];rfl,nLD,sE.old _ _ nLD hL,iL.mono (uG sE)⟩
 ·rintro H' ys ⟨h1,h2,h3,sm⟩
  refine hd H' ys sm h1 (by trivial) fun i d ed=>?_
  obtain ⟨L,us,a,_,b,c⟩:=h3 i d (by have:=(List.getElem?_eq_some_iff.mp ed).1;trivial) ed
  exact ⟨L,us,a,b,c⟩
theorem Cs.facts {e:List Nat}{ss:List SD}{pl:List (List Nat)}{cr:List Nat→List SD} (h:Cs e ss pl cr):∀(n:Nat) (l:List Nat),l∈pl→(cr l).length=n→(∀c∈cr l,c∈ss)∧Jt (cr l)∧(∃r,cP (cr l) l=r++[e])∧∀c,(cr l)[0]?=some c→c.st=l:=by
 intro n
 induction n with
 | zero=>
  intro l hl hn
  have e0:cr l=[]:=List.eq_nil_of_length_eq_zero hn
  have:l=e:=by
   by_cases q:l=e
   ·exact q
   ·obtain ⟨c,_,_,_,r⟩:=h.st l hl q
    rw [e0] at r;cases r
  rw [e0]
  exact ⟨(fun c hc=>by cases hc),(fun i a b h=>by cases h),⟨[],by rw [this];rfl⟩,(fun c hc=>by cases hc)⟩
 | succ n ih=>
  intro l hl hn
  by_cases q:l=e
  ·rw [q,h.ce] at hn;cases hn
  obtain ⟨c,a,b,m,r⟩:=h.st l hl q
  have hn':(cr c.en).length=n:=by rw [r,List.length_cons] at hn;trivial
  obtain ⟨i1,i2,⟨r',i3⟩,i4⟩:=ih c.en m hn'
  have e1:cP (cr l) l=l :: cP (cr c.en) c.en:=by rw [r];rfl
  refine ⟨fun d hd=>?_,fun i x y hx hy=>?_,⟨l :: r',by rw [e1,i3];rfl⟩,fun d hd=>?_⟩
  ·rw [r] at hd
   rcases List.mem_cons.mp hd with z | z
   ·rw [z];exact a
   ·exact i1 d z
  ·rw [r] at hx hy
   rw [List.getElem?_cons_succ] at hy
   cases i with
   | zero=>cases hx;exact (i4 y hy).symm
   | succ i=>exact i2 i x y hx hy
  ·rw [r] at hd;cases hd;exact b
theorem tH {H:Hp}:∀{css:List (List SD)}{wv:List V},wv.length=css.length→(∀(i:Nat) d,css[i]?=some d→aZ fun L us=>wv[i]?=some (.ref L)∧H L=some (.lst us)∧ae ED H us (d.map sD))→ae (fun _=>False) H wv (css.map fun d=>.list (d.map sD))
 | [],[],_,_=>.nil
 | [],_ :: _,h,_=>by cases h
 | _ :: _,[],h,_=>by cases h
 | d :: css,v :: wv,h,f=>by
  obtain ⟨L,us,e,hL,iL⟩:=f 0 d rfl
  cases e
  exact .cons (.lst hL (fun z=>z) (iL.narrow fun _ z=>z.elim)) (tH (by simpa using h) fun i d hd=>f (i+1) d hd)
theorem Jc {ls:List (List Nat)} (nc:∀l∈ls,lK l) {s:SD} (g:vC ls s) (n:s.n≤100):Wt (sD s) 11 2:=
 .tuple (.cons (.int (show ((s.n:Int)).natAbs<2 ^ 1900 from Nat.lt_of_lt_of_le (show ((s.n:Int)).natAbs<2 ^ 7 by trivial) (Nat.pow_le_pow_right (by decide) (by decide)))) (.cons (.bl _) (.cons (.str (mC (nc _ g.b))) (.cons (.str (mC (nc _ g.e))) (.cons (uy g.r (by decide) (by decide)) (.cons (uy g.g (by decide) (by decide)) .nil))))))
theorem wo {ls:List (List Nat)} (nc:∀l∈ls,lK l):∀{css:List (List SD)},(∀d∈css,∀s∈d,vC ls s∧s.n≤100)→∃n,cX (css.map fun d=>.list (d.map sD)) n 3
 | [],_=>⟨_,.nil⟩
 | d :: css,h=>by
  obtain ⟨n,w⟩:=wo nc (css:=css) fun d hd=>h d (List.mem_cons_of_mem _ hd)
  exact ⟨_,.cons (.list (p7 (m:=11) (k:=2) fun s hs=>Jc nc (h d (List.mem_cons_self ..) s hs).1 (h d (List.mem_cons_self ..) s hs).2)) w⟩
theorem A0 (css:List (List SD)):(css.map fun d=>PyData.list (d.map sD)).any (fun z=>PyData.eqv z .none)=false:=by
 rw [List.any_eq_false]
 intro x hx
 obtain ⟨d,_,rfl⟩:=List.mem_map.mp hx
 simp [PyData.eqv]
section
variable {P:Program}{w:World}{K:PySem.W.Frag}{mg:Str→Option Value}{base:Heap}
inductive Fc (vs:List V) (H:Hp) (Q:VK):Prop
 | mk (v:V) (sa T:Addr) (ls:List (List Nat)) (ts:List aI) (xs:List V) (ps:List KM.Fra) (f e:List Nat) (pl:List (List Nat)) (cr:List Nat→List SD) (h0:vs=[v,.str (S f),.str (S e),.ref sa,.ref T]) (h1:aM ED H v (gF ls ts)) (h2:(∀t∈ts,qh ls t)) (h3:(∀l∈ls,lK l)) (h4:ts.length≤24) (h5:H sa=some (.lst xs)) (h6:ae ED H xs (ps.map cM)) (h7:ps.length=ts.length) (h8:(∀p∈ps,Gb 1894 1876 p)) (h9:(∀s∈aQ ts ps ts.length,vC ls s)) (h10:Uq (aQ ts ps ts.length)) (h11:(∀s∈aQ ts ps ts.length,s.n≤100)) (h12:Cs e (aQ ts ps ts.length) pl cr) (h13:pl.length≤10) (h14:((aZ fun p ys=>f∈pl∧H T=some (.tup [.str (Str.ofString "way"),.ref p])∧H p=some (.lst ys)∧ae ED H ys ((cr f).map pD))∨(AF fun p q ys zs r0 rs=>zu (aQ ts ps ts.length) pl (r0 :: rs)∧(∀s∈r0 :: rs,(cr r0.st).length≤(cr s.st).length)∧H T=some (.tup [.str (Str.ofString "ring"),.ref p,.ref q])∧H p=some (.lst ys)∧ae ED H ys ((r0 :: rs).map pD)∧H q=some (.lst zs)∧ae ED H zs ((cr r0.st).map pD)))) (h15:∀H',ad H H'→Q (.bl true) H')
def Bb:Sp:=fun vs H Q _=>Fc  vs H Q
theorem Fo (T:Txt K mg):aY P w K mg base CX0 5 T.l_shown_.f T.l_shown_.d ["_law_net", "_law_begin", "_law_end", "_law_stream", "_law_thing"] Bb:=by
 have G_l_steps_of:=#[(mI)]
 have G_l_told_steps:=#[(FX)]
 have G_l_is_course:=#[(zO)]
 have G_l_above:=#[(nN)]
 have G_l_parts_on:=#[(xG)]
 refine T.l_shown_.F.ok jC (fun vs H Q E h=>?_) (fun cdv A outer s H vs Q E hr h=>?_)
 ·obtain ⟨v,sa,T,ls,ts,xs,ps,f,e,pl,cr,rfl,_⟩:=h
  rfl
 ·obtain ⟨v,sa,TH,ls,ts,xs,ps,f,e,pl,cr,rfl,iN,tc,nc,l24,hsa,ixs,lps,gp,gss,uq,n100,cs,p10,alt,k⟩:=h
  refine ⟨_,#[#[bh 8 #[PW.pt 3 #[iX 7 #[oD 4 #[jx 3 #[(),(),(@lB _ (K) (by rfl)),rV,T.b_isinstance,(@c9),#[[#[4,da],#[uI 4 xq T.b_tuple (@eH) (by decide) (by decide)]]]] (by intro _;rfl)]] #[iX 7 #[oD 4 #[ap 8 (@Cu _ (K) (by rfl)) #[(),(),(@bX _ (K) (by rfl)),fJ,T.b_len,(@aF),#[[#[4,da]]]] #[ak 5 #[[#[()],#[()]]]] rfl]] #[jQ 4 #[ap 8 (@lV _) #[#[4,da][#[()]]] #[#[aL 4 #[[#[jS 4],#[jS 4]]]][#[ai 8 (@f9 _) #[(),(),(@bX _ (K) (by rfl)),fJ,T.b_len,(@aF),#[[#[4,da]]]] #[()]]]!] #[(),()]]]]]] #[ac 3 #[aw 4 #[ie 4]]] (@aK _)] :: #[#[iq 2 (5) _ _ _ _ jC.nd rfl (Or.inr vd) #[G_l_steps_of,rY,T.l_steps_of_,#[[#[0,wG],#[3,tD]]]] (by rfl) (by first | exact .inl rfl | exact .inr rfl | assumption)] :: #[#[fW 7 (["_law_part", "_law_steps"]) (1) ([5]) _ _ _ _ (6) _ _ _ jC.nd rfl hJ (by kernel_rfl) rfl (by kernel_rfl) (@lA _ (K) _ _ _ #[dI 10 (@xQ _ (K) (by rfl)) #[4,da] #[d7 3 #[()]] (@fS _)] (by rfl)) (fun _ _ _ _ _ _=>#[0,(),()]) (fun _ _ _ _ _ _=>@cH _) (fun _ _ _ _ _ _=>#[G_l_told_steps,(),T.l_told_steps_,#[[#[1,0],#[0,()]]]]) (by intro _;rfl)] :: #[#[bh 8 #[ap 8 (@IP _ hr.units) #[cR 3] #[6,hJ] rfl] #[ac 3 #[aw 4 #[ie 4]]] (@aK _)] :: #[#[bh 8 #[ap 8 (@gY _) #[(),(),(@bX _ (K) (by rfl)),fJ,T.b_len,(@aF),#[[#[4,da]]]] #[()] #[(),()]] #[ac 3 #[aw 4 #[G_l_is_course,kg,T.l_is_course_,#[[#[#[6,hJ][#[()]]!],#[1,u9],#[2,o9],#[aL 4 (@bc _)]]]]]] (@aK _)] :: #[#[cW 6 #[6,hJ] #[Hn 5 (2) rfl #[aj 5 #[7,jC.nd,fu] #[aj 5 #[8,jC.nd,mB] (@bK _) (by rfl)] (by rfl)] (by rfl) (by rfl)] (by rfl) (by rfl) (by rfl)] :: #[#[fW 7 (["_law_step"]) (1) ([]) _ _ _ _ (9) _ _ _ jC.nd rfl cK (by kernel_rfl) rfl (by kernel_rfl) (@br _ (K) _ _ _ #[7,fu] (by rfl)) (fun _ _ _ _ _ _=>#[0,(),()]) (fun _ _ _ _ _ _=>@cH _) (fun _ _ _ _ _ _=>#[#[0,()][#[()]]]) (by intro _;rfl)] :: #[#[bh 8 #[PW.pt 3 #[iX 7 #[ap 8 (@kH _) #[(),(),(@bX _ (K) (by rfl)),fJ,T.b_len,(@aF),#[[#[7,fu]]]] #[()] #[(),()]] #[iX 7 #[ap 8 (@lV _) #[#[#[7,fu][#[uJ 6 (@qc _) #[()]]]!][#[()]]] #[#[9,cK][#[()]]!] #[(),()]] #[jQ 4 #[ap 8 (@lV _) (@yn _ (K) _ _ _ _ _ _ #[9,cK] rfl fJ T.b_len yX T.b_set (by rfl) (by rfl)) #[(),(),(@bX _ (K) (by rfl)),fJ,T.b_len,(@aF),#[[#[9,cK]]]] #[(),()]]]]]] #[ac 3 #[aw 4 #[ie 4]]] (@aK _)] :: #[#[bh 8 #[ap 8 (@JT _) #[G_l_above,uS,T.l_above_,#[[#[#[G_l_parts_on,rP,T.l_parts_on_,#[[#[7,fu],#[ak 5 #[[#[()],#[()]]]]]]][#[()]]],#[ak 5 #[[#[()],#[()]]]]]]] #[()] #[(),()]] #[ac 3 #[aw 4 #[ie 4]]] (@aK _)] :: #[ac 3 #[aw 4 #[G_l_is_course,kg,T.l_is_course_,#[[#[8,mB],#[#[9,cK][#[()]]!],#[2,o9],#[dI 10 (@jt _ (K) (by rfl)) #[9,cK] #[d7 3 #[()]] (@fS _)]]]]]]]]]]]]]]],?_⟩
  have lss:(aQ ts ps ts.length).length≤48:=Nat.le_trans (fU ts ps ts.length) (by trivial)
  rcases alt with ⟨p,ys,fpl,hT,hp,iy⟩ | ⟨p,q,ys,zs,r0,rs,rg,sh,hT,hp,iy,hq,iz⟩
  ·obtain ⟨sub,chd,⟨r,er⟩,c0⟩:=cs.facts _ f fpl rfl
   have lcr:=cs.len f fpl
   refine dW fun D1 n1 r1=>⟨(),_,_,_,(),(aM.tup (E:=fun _=>False) hT (.cons (.str _) (.cons (.lst hp (fun z=>z) (iy.narrow fun _ z=>z.elim)) .nil))).ty,ug _,(),aR ⟨(),TH,(),.inr (ag.of hT),(by show 2≤10000;decide),fun z J m=>⟨z,(),.inr (ag.of m.at'),rfl,rfl,(),aR ⟨(),TH,_,_,(),rfl,ag.of (m.sm _ _ hT),rfl,(by show 2≤10000;decide),fun L2 J2 m2=>⟨(),TH,(),.inr (ag.of (m2.sm _ _ (m.sm _ _ hT))),_,(),rfl,L2,_,_,(),rfl,ah.of m2.at',rfl,rfl,(),?_⟩⟩⟩⟩⟩
   rw [decide_eq_true rfl]
   refine aR (n1 _ _ ?_)
   have s2:=m.sm.trans m2.sm
   have hT2:=s2 _ _ hT
   have iN2:=iN.sm s2
   refine aT fun D2 n2=>⟨(),(),v,sa,ls,ts,xs,ps,1894,1876,rfl,iN2,tc,by trivial,s2 _ _ hsa,ixs.mono s2.toE,lps,gp,by decide,by decide,fun L us J3 s3 fL hL iL=>n2 _ _ ?_⟩
   generalize aQ ts ps ts.length=ss at *
   have s03:=s2.trans s3
   refine aT fun D3 n3=>⟨(),(),TH,(),ag.of (s3 _ _ hT2),s3 _ _ hT2,fun Sl J4 m4 h4=>⟨Sl,rfl,⟨_,ag.of h4⟩,fun W hW=>wT (ds:=[cr f]) (by rw [cV];show 1≤10000;decide) (by rw [cV];rfl) hW h4 ?_ ?_⟩⟩
   ·intro i x d H' R1 hx hd sm q1
    cases i with
    | succ i=>cases hd
    | zero=>
    cases hd
    rw [cV] at hx
    cases hx
    have s0:ad H H':=(s03.trans m4).trans sm
    exact ⟨di,(),(),L,p,us,ys,ss,cr f,rfl,sm _ _ (m4 _ _ hL),iL.mono (m4.trans sm).toE,by trivial,n100,uq,s0 _ _ hp,iy.mono s0.toE,sub,chd,by trivial,fun Lo uo J5 s5 f5 h5 i5=>q1 Lo uo J5 s5 f5 h5 i5⟩
   intro J5 wv s5 hW5 lw at5
   refine n3 _ _ ?_
   obtain ⟨Lc,uc,e1,hLc,iLc⟩:=at5 0 (cr f) rfl
   obtain ⟨x0,rfl⟩:∃x0,wv=[x0]:=by
    cases wv with
    | nil=>cases lw
    | cons a b=>
     cases b with
     | nil=>exact ⟨a,rfl⟩
     | cons=>cases lw
   cases e1
   have s05:ad H J5:=(s03.trans m4).trans s5
   obtain ⟨wn,wl⟩:=wo nc (css:=[cr f]) fun d hd s hs=>by
    rw [List.mem_singleton.mp hd] at hs
    exact ⟨gss s (sub s hs),n100 s (sub s hs)⟩
   have iW:aM (fun _=>False) J5 (.ref W) (.list ([cr f].map fun d=>.list (d.map sD))):=.lst hW5 (fun z=>z) (tH lw at5)
   refine dW fun D4 n4 r4=>⟨(),_,_,ED,_,1,_,0,_,_,.non,iW,.non,.list wl,by decide,rfl,(),?_⟩
   rw [if_neg Bool.false_ne_true,A0]
   refine aR (n4 _ _ ?_)
   refine dW fun D5 n5 r5=>⟨(),TH,(),.inr (ag.of (s05 _ _ hT)),rfl,(),bF ?_⟩
   refine ⟨(),W,_,_,.ref Lc,rfl,rfl,ah.of hW5,cv (j:=0) rfl,(),(),(by show 0≤10000;decide),fun z2 J6 m6=>⟨Lc,z2,uc,cr f,f,e,[],r,rfl,m6.sm _ _ hLc,iLc.mono m6.sm.toE,by trivial,m6.at',c0,er,(cs.walk _ f fpl rfl).2,(fun c _ h=>by cases h),fun J7 s7=>r5 _ _ (k _ ((s05.trans m6.sm).trans s7))⟩⟩
  ·have m0:=(rg.sub r0 (List.mem_cons_self ..)).2.1
   obtain ⟨sub,chd,⟨r,er⟩,c0⟩:=cs.facts _ r0.st m0 rfl
   have lcr:=cs.len r0.st m0
   have l10:=rg.ten
   have l2:=rg.two
   have rs2:∀s∈r0 :: rs,s∈aQ ts ps ts.length:=fun s hs=>(rg.sub s hs).1
   have rot:rs.map (·.en)=[]∨True:=.inr trivial
   have chr:Jt (r0 :: rs):=fun i a b ha hb=>by
    have e:=congrArg (fun z=>z[i]?) rg.rot
    simp only [List.map_cons,List.drop_succ_cons,List.drop_zero] at e
    have hb':rs[i]?=some b:=by rwa [List.getElem?_cons_succ] at hb
    rw [List.getElem?_append_left (by rw [List.length_map];exact (List.getElem?_eq_some_iff.mp hb').1),List.getElem?_map,hb',←List.map_cons,List.getElem?_map,ha] at e
    simpa using e
   refine dW fun D1 n1 r1=>⟨(),_,_,_,(),(aM.tup (E:=fun _=>False) hT (.cons (.str _) (.cons (.lst hp (fun z=>z) (iy.narrow fun _ z=>z.elim)) (.cons (.lst hq (fun z=>z) (iz.narrow fun _ z=>z.elim)) .nil)))).ty,ug _,(),aR ⟨(),TH,(),.inr (ag.of hT),(by show 2≤10000;decide),fun z J m=>⟨z,(),.inr (ag.of m.at'),rfl,rfl,(),aR ⟨(),TH,_,_,(),rfl,ag.of (m.sm _ _ hT),rfl,(by show 2≤10000;decide),fun L2 J2 m2=>⟨(),TH,(),.inr (ag.of (m2.sm _ _ (m.sm _ _ hT))),_,(),rfl,L2,_,_,(),rfl,ah.of m2.at',rfl,rfl,(),?_⟩⟩⟩⟩⟩
   rw [decide_eq_true rfl]
   refine aR (n1 _ _ ?_)
   have s2:=m.sm.trans m2.sm
   have hT2:=s2 _ _ hT
   have iN2:=iN.sm s2
   refine aT fun D2 n2=>⟨(),(),v,sa,ls,ts,xs,ps,1894,1876,rfl,iN2,tc,by trivial,s2 _ _ hsa,ixs.mono s2.toE,lps,gp,by decide,by decide,fun L us J3 s3 fL hL iL=>n2 _ _ ?_⟩
   generalize aQ ts ps ts.length=ss at *
   have s03:=s2.trans s3
   refine aT fun D3 n3=>⟨(),(),TH,(),ag.of (s3 _ _ hT2),s3 _ _ hT2,fun Sl J4 m4 h4=>⟨Sl,rfl,⟨_,ag.of h4⟩,fun W hW=>wT (ds:=[r0 :: rs,cr r0.st]) (by rw [cV];show 2≤10000;decide) (by rw [cV];rfl) hW h4 ?_ ?_⟩⟩
   ·intro i x d H' R1 hx hd sm q1
    have s0:ad H H':=(s03.trans m4).trans sm
    rw [cV] at hx
    match i with
    | 0=>
     cases hd
     cases hx
     exact ⟨di,(),(),L,p,us,ys,ss,r0 :: rs,rfl,sm _ _ (m4 _ _ hL),iL.mono (m4.trans sm).toE,by trivial,n100,uq,s0 _ _ hp,iy.mono s0.toE,rs2,chr,by trivial,fun Lo uo J5 s5 f5 h5 i5=>q1 Lo uo J5 s5 f5 h5 i5⟩
    | 1=>
     cases hd
     cases hx
     exact ⟨di,(),(),L,q,us,zs,ss,cr r0.st,rfl,sm _ _ (m4 _ _ hL),iL.mono (m4.trans sm).toE,by trivial,n100,uq,s0 _ _ hq,iz.mono s0.toE,sub,chd,by trivial,fun Lo uo J5 s5 f5 h5 i5=>q1 Lo uo J5 s5 f5 h5 i5⟩
    | i+2=>cases hd
   intro J5 wv s5 hW5 lw at5
   refine n3 _ _ ?_
   obtain ⟨Lr,ur,e1,hLr,iLr⟩:=at5 0 (r0 :: rs) rfl
   obtain ⟨Lc,uc,e2,hLc,iLc⟩:=at5 1 (cr r0.st) rfl
   obtain ⟨x0,x1,rfl⟩:aZ fun x0 x1=>wv=[x0,x1]:=by
    match wv,lw with
    | [a,b],_=>exact ⟨a,b,rfl⟩
   cases e1
   cases e2
   have s05:ad H J5:=(s03.trans m4).trans s5
   obtain ⟨wn,wl⟩:=wo nc (css:=[r0 :: rs,cr r0.st]) fun d hd s hs=>by
    have:s∈ss:=by
     rcases List.mem_cons.mp hd with z | z
     ·rw [z] at hs;exact rs2 s hs
     ·rw [List.mem_singleton.mp z] at hs;exact sub s hs
    exact ⟨gss s this,n100 s this⟩
   have iW:aM (fun _=>False) J5 (.ref W) (.list ([r0 :: rs,cr r0.st].map fun d=>.list (d.map sD))):=.lst hW5 (fun z=>z) (tH lw at5)
   refine dW fun D4 n4 r4=>⟨(),_,_,ED,_,1,_,0,_,_,.non,iW,.non,.list wl,by decide,rfl,(),?_⟩
   rw [if_neg Bool.false_ne_true,A0]
   refine aR (n4 _ _ ?_)
   refine dW fun D5 n5 r5=>⟨(),TH,(),.inr (ag.of (s05 _ _ hT)),rfl,(),aR (n5 _ _ ?_)⟩
   refine aT fun D6 n6=>⟨(),W,(),hW5,rfl,_,(),_,(),rfl,n6 _ _ ?_⟩
   have lur:ur.length=(r0 :: rs).length:=by rw [iLr.length,List.length_map]
   refine aT fun D7 n7=>⟨(),Lr,rfl,⟨ur,ah.of hLr⟩,fun Pl hPl=>dE (ds:=r0 :: rs) sD (fun _=>true) (fun s=>.str (S s.st)) (by trivial) hPl hLr iLr ?_ ?_⟩
   ·intro i x st H' R1 R2 hx ed hy sm q1 q2
    obtain ⟨o,r,g,rfl,ho,hr1,hg1⟩:=bA hy
    exact ⟨di,bF (B:=R2 H') ⟨(),o,_,_,(),rfl,ag.of ho,rfl,q1 rfl _ _ (ad.refl _) (.str _)⟩⟩
   intro J6 pv s6 hP6 ip
   rw [qO,show (r0 :: rs).map (fun s=>PyData.str (S s.st))=((r0 :: rs).map (·.st)).map fun l=>PyData.str (S l) by rw [List.map_map];rfl] at ip
   have:=oH ip
   subst this
   refine n7 _ _ ?_
   have hLr6:=s6 _ _ hLr
   have s06:ad H J6:=s05.trans s6
   obtain ⟨ini,la,ela⟩:aZ fun ini la=>r0 :: rs=ini++[la]:=⟨_,_,(List.dropLast_concat_getLast (List.cons_ne_nil r0 rs)).symm⟩
   have een:la.en=r0.st:=by
    have e:(ini++[la]).map (·.en)=rs.map (·.st)++[r0.st]:=by rw [←ela];exact rg.rot
    have e':=congrArg List.getLast? e
    simpa using e'
   have iLr6:=iLr.mono s6.toE
   have lini:ini.length+1=(r0 :: rs).length:=by rw [ela,List.length_append];rfl
   obtain ⟨ui,ul,eul⟩:aZ fun ui ul=>ur=ui++[ul]:=by
    have ne:ur≠[]:=fun z=>by rw [z] at lur;cases lur
    exact ⟨_,_,(List.dropLast_concat_getLast ne).symm⟩
   have lui:ui.length=ini.length:=by
    have:=congrArg List.length eul
    rw [List.length_append,List.length_singleton] at this
    trivial
   obtain ⟨dl,edl,hul⟩:=iLr6.get (show ur[ini.length]?=some ul by rw [eul,List.getElem?_append_right (by trivial),show ini.length - ui.length=0 by trivial];rfl)
   rw [List.getElem?_map,ela,List.getElem?_append_right (Nat.le_refl _),Nat.sub_self] at edl
   cases edl
   obtain ⟨ol,rl,gl,rfl,hol,_,_⟩:=bA hul
   have nd1:=rg.nd
   have ndk:∀{ls:List (List Nat)},ls.Nodup→(ls.map kT).Nodup:=fun nd=>nd.map kT fun a b h q=>h (gW (Sum.inr.inj q))
   have ok1:(cQ (((r0 :: rs).map (·.st)).map kT)).length=((r0 :: rs).map (·.st)).length:=by
    have:=(xm (((r0 :: rs).map (·.st)).map kT)).mpr (ndk nd1)
    rw [this,List.length_map]
   have kv1:(((r0 :: rs).map (·.st)).map kT).map dA=((r0 :: rs).map (·.st)).map ar:=by rw [List.map_map];rfl
   refine dW fun D8 n8 r8=>⟨(),Lr,(),.inl (ah.of hLr6),_,(),rfl,(),eV (fun c=>?_) fun _=>⟨(),1,rfl,Lr,_,_,.ref ol,rfl,rfl,ah.of hLr6,by rw [eul];exact vL _ _,ol,_,_,(),rfl,ag.of hol,rfl,(),Pl,_,_,ar r0.st,rfl,rfl,ah.of hP6,cv (j:=0) rfl,rfl,(),?_⟩⟩
   ·have:=of_decide_eq_true c
    trivial
   rw [een,decide_eq_true rfl]
   refine aR ⟨(),Pl,((r0 :: rs).map (·.st)).map kT,rfl,.inl (by rw [kv1];exact ah.of hP6),by rw [List.length_map,List.length_map];trivial,(),Pl,(),.inl (ah.of hP6),rfl,(),?_⟩
   rw [ok1,List.length_map,List.length_map,List.length_map,decide_eq_true rfl]
   refine aR (n8 _ _ ?_)
   have gg1:∀c∈r0 :: rs,Gb 6 6 c.gain∧1≤c.gain.1:=fun c hc=>⟨(gss c (rs2 c hc)).g,(gss c (rs2 c hc)).g1⟩
   refine dW fun D9 n9 r9=>⟨(),(by show 2≤10000;decide),fun o1 J7 m7=>⟨Lr,o1,ur,r0 :: rs,rfl,m7.sm _ _ hLr6,iLr6.mono m7.sm.toE,l10,gg1,m7.at',fun T F q' g J8 s8 hT8 hq8 gg vg=>⟨T,_,_,(),rfl,ag.of hT8,rfl,(by show 2≤10000;decide),fun o2 J9 m9=>⟨q',o2,g,(1,1),rfl,m9.sm _ _ hq8,m9.at',(gz gg (by decide) (by decide)).1,(gz gg (by decide) (by decide)).2,Do,Do,_,(),rfl,(),eV (fun c=>?_) fun _=>n9 _ _ ?_⟩⟩⟩⟩
   ·have c':=of_decide_eq_true c
    have h1:1<KM.vl g:=by rw [vg];exact rg.gain
    have h2:=(tV (p:=(1,1)) (q:=g) (by decide) gg.pos).mp (by rw [IR];exact h1)
    exfalso
    simp only [] at h2 c'
    trivial
   have s69:ad J6 J9:=(m7.sm.trans s8).trans m9.sm
   have s09:ad H J9:=s06.trans s69
   refine ⟨(),(),Pl,_,_,ar r0.st,rfl,rfl,ah.of (s69 _ _ hP6),cv (j:=0) rfl,(),(),(),Pl,(),ah.of (s69 _ _ hP6),fun Bl J10 m10=>⟨Lc,Bl,uc,cr r0.st,r0.st,e,rs.map (·.st),r,rfl,m10.sm _ _ (s69 _ _ (s6 _ _ hLc)),iLc.mono ((s6.trans s69).trans m10.sm).toE,by trivial,by have:=m10.at';rwa [cV] at this,c0,er,(cs.walk _ r0.st m0 rfl).2,fun c hc hb=>?_,fun J11 s11=>k _ ((s09.trans m10.sm).trans s11)⟩⟩
   obtain ⟨s,hs,es⟩:=List.mem_map.mp hb
   obtain ⟨w1,w2⟩:=cs.walk _ r0.st m0 rfl
   have mc:c.en∈(cr r0.st).map (·.en):=List.mem_map_of_mem hc
   have nr:c.en≠r0.st:=fun z=>(List.nodup_cons.mp w2).1 (z▸mc)
   have lt:=((w1 c.en (List.mem_cons_of_mem _ mc)).2).resolve_left nr
   have:=sh s (List.mem_cons_of_mem _ hs)
   rw [es] at this
   trivial
end
end K18
namespace K18
open PySem L2
set_option maxHeartbeats 8000000
theorem Cs.into {e:List Nat}{ss:List SD}{pl fl:List (List Nat)}{cr:List Nat→List SD} (h:Cs e ss pl cr) (he:e∈fl) (cl:∀s∈ss,s.en∈fl→s.st∈fl):∀(n:Nat) (l:List Nat),l∈pl→(cr l).length≤n→l∈fl:=by
 intro n
 induction n with
 | zero=>
  intro l hl hn
  by_cases q:l=e
  ·rw [q];exact he
  obtain ⟨c,a,b,m,r⟩:=h.st l hl q
  rw [r,List.length_cons] at hn
  trivial
 | succ n ih=>
  intro l hl hn
  by_cases q:l=e
  ·rw [q];exact he
  obtain ⟨c,a,b,m,r⟩:=h.st l hl q
  rw [r,List.length_cons] at hn
  rw [←b]
  exact cl c a (ih c.en m (by trivial))
section
variable {P:Program}{w:World}{K:PySem.W.Frag}{mg:Str→Option Value}{base:Heap}
inductive JO (vs:List V) (H:Hp) (Q:VK) (E:XK):Prop
 | mk (v tv:V) (sa:Addr) (f e:List Nat) (h0:vs=[v,.str (S f),.str (S e),.ref sa,tv]) (h1:((∃T,tv=.ref T∧Bb [v,.str (S f),.str (S e),.ref sa,.ref T] H Q E)∨(tv=.non∧KR fun (ls:List (List Nat)) (ts:List aI) (xs:List V) (ps:List KM.Fra) (pl:List (List Nat)) (cr:List Nat→List SD) (m:Nat)=>aM ED H v (gF ls ts)∧(∀t∈ts,qh ls t)∧ts.length≤24∧H sa=some (.lst xs)∧ae ED H xs (ps.map cM)∧ps.length=ts.length∧(∀p∈ps,Gb 1894 1876 p)∧(∀s∈aQ ts ps ts.length,vC ls s)∧Cs e (aQ ts ps ts.length) pl cr∧pl.length≤10∧(∀s∈aQ ts ps ts.length,s.en∈pl→s.st∈pl)∧f∉pl∧m<pl.length∧(dL ((cO (aQ ts ps ts.length) pl).map eO) (m+1)).lf=none∧∀H',ad H H'→Q (.bl true) H')))
def LM:Sp:=fun vs H Q E=>JO  vs H Q E
theorem Bm (T:Txt K mg):aY P w K mg base CX0 8 T.l_right_.f T.l_right_.d ["_law_net", "_law_begin", "_law_end", "_law_stream", "_law_found"] LM:=by
 have G_l_shown:=#[(Fo)]
 have G_l_steps_of:=#[(mI)]
 have G_l_leading:=#[(BS)]
 have G_l_held_all:=#[(Aq)]
 refine T.l_right_.F.ok qV (fun vs H Q E h=>?_) (fun cdv A outer s H vs Q E hr h=>?_)
 ·obtain ⟨v,tv,sa,f,e,rfl,_⟩:=h
  rfl
 ·obtain ⟨v,tv,sa,f,e,rfl,alt⟩:=h
  refine ⟨_,#[#[bh 8 #[ap 8 (@xx _) #[4,mQ] #[cR 3] #[(),()]] #[ac 3 #[aw 4 #[G_l_shown,u0,T.l_shown_,#[[#[0,o6],#[1,mV],#[2,oZ],#[3,md],#[4,mQ]]]]]] (@aK _)] :: #[#[5,qV.nd,jI,#[G_l_steps_of,rO,T.l_steps_of_,#[[#[0,o6],#[3,md]]]]] :: #[#[6,qV.nd,jo,#[G_l_leading,sP,T.l_leading_,#[[#[5,jI],#[2,oZ]]]]] :: #[ac 3 #[aw 4 #[Jj 7 #[oa 8 (@qx _ (K) (by rfl)) #[1,mV] #[6,jo] rfl] #[Dd 5 #[G_l_held_all,rH,T.l_held_all_,#[[#[5,jI],#[6,jo]]]]]]]]]]],?_⟩
  rcases alt with ⟨TH,rfl,hsh⟩ | ⟨rfl,ls,ts,xs,ps,pl,cr,m,iN,tc,l24,hsa,ixs,lps,gp,gss,cs,p10,cl,nf,hm,hlf,k⟩
  ·refine dW fun D1 n1 r1=>⟨(),rfl,(),bF ⟨(),(),(),(),(),?_⟩⟩
   obtain ⟨v',sa',T',ls,ts,xs,ps,f',e',pl,cr,ev,a1,a2,a3,a4,a5,a6,a7,a8,a9,a10,a11,a12,a13,a14,k⟩:=hsh
   exact ⟨v',sa',T',ls,ts,xs,ps,f',e',pl,cr,ev,a1,a2,a3,a4,a5,a6,a7,a8,a9,a10,a11,a12,a13,a14,fun H' s=>r1 _ _ (k H' s)⟩
  ·have lss:(aQ ts ps ts.length).length≤48:=Nat.le_trans (fU ts ps ts.length) (by trivial)
   refine dW fun D1 n1 r1=>⟨(),rfl,(),aR (n1 _ _ ?_)⟩
   refine aT fun D2 n2=>⟨(),(),v,sa,ls,ts,xs,ps,1894,1876,rfl,iN,tc,by trivial,hsa,ixs,lps,gp,by decide,by decide,fun L us J3 s3 fL hL iL=>n2 _ _ ?_⟩
   generalize aQ ts ps ts.length=ss at *
   refine aT fun D3 n3=>⟨(),(),L,e,us,ss,pl,rfl,hL,iL,lss,cs.hd,cl,p10,fun F fl J4 s4 hF nd fpl efl fcl=>n3 _ _ ?_⟩
   have plf:∀l∈pl,l∈fl:=fun l hl=>cs.into efl fcl _ l hl (Nat.le_refl _)
   have len:fl.length=pl.length:=Nat.le_antisymm (nd.length_le_of_subset fpl) (cs.nd.length_le_of_subset plf)
   have near:cO ss fl=cO ss pl:=List.filter_congr fun s _=>decide_eq_decide.mpr ⟨fpl _,plf _⟩
   have nff:f∉fl:=fun z=>nf (fpl f z)
   refine ⟨(),(),F,(),.inl (ah.of hF),rfl,j7 _,(),?_⟩
   rw [show (if true=true then !jN (V.str (S f)) (fl.map ar) else jN (V.str (S f)) (fl.map ar))=true by rw [if_pos rfl,show jN (V.str (S f)) (fl.map ar)=fl.contains f from zf f fl];simp [nff]]
   exact bF ⟨(),(),L,F,us,ss,ls,fl,m,rfl,s4 _ _ hL,iL.mono s4.toE,lss,gss,hF,nd,by trivial,fcl,by trivial,by rw [near];exact hlf,fun H' s=>k H' ((s3.trans s4).trans s)⟩
end
end K18
namespace K18
open PySem L2
set_option maxHeartbeats 8000000
theorem tJ {ts:List aI}{ps:List KM.Fra}{n:Nat}{s:SD} (h:s∈aQ ts ps n):aZ fun t p=>ts[s.n]?=some t∧ps[s.n]?=some p∧((s=⟨s.n,false,t.bg,t.en,mM t.most p,t.gain⟩∧p.1*t.most.2<t.most.1*p.2)∨(s=⟨s.n,true,t.en,t.bg,KM.lTim p t.gain,eI (1,1) t.gain⟩∧0<p.1)):=by
 unfold aQ at h
 obtain ⟨j,hj,hs⟩:=List.mem_flatMap.mp h
 unfold lC at hs
 cases et:ts[j]? with
 | none=>rw [et] at hs;cases hs
 | some t=>
  cases ep:ps[j]? with
  | none=>rw [et,ep] at hs;cases hs
  | some p=>
   rw [et,ep] at hs
   have hs':s∈dq j t p:=hs
   unfold dq at hs'
   rcases List.mem_append.mp hs' with z | z
   ·by_cases c:p.1*t.most.2<t.most.1*p.2
    ·rw [if_pos c] at z
     rw [List.mem_singleton.mp z]
     exact ⟨t,p,et,ep,.inl ⟨rfl,c⟩⟩
    ·rw [if_neg c] at z;cases z
   ·by_cases c:0<p.1
    ·rw [if_pos c] at z
     rw [List.mem_singleton.mp z]
     exact ⟨t,p,et,ep,.inr ⟨rfl,c⟩⟩
    ·rw [if_neg c] at z;cases z
theorem zi (ts:List aI) (ps:List KM.Fra) (n:Nat):Uq (aQ ts ps n):=fun s hs t ht en eb=>by
 obtain ⟨a,p,e1,e2,f⟩:=tJ hs
 obtain ⟨b,q,e3,e4,g⟩:=tJ ht
 rw [en,e3] at e1
 rw [en,e4] at e2
 cases e1
 cases e2
 rcases f with ⟨f,_⟩ | ⟨f,_⟩ <;> rcases g with ⟨g,_⟩ | ⟨g,_⟩
 ·rw [f,g,en]
 ·rw [f,g] at eb;cases eb
 ·rw [f,g] at eb;cases eb
 ·rw [f,g,en]
theorem Ga {ls:List (List Nat)}{ts:List aI}{ps:List KM.Fra} (tc:∀t∈ts,qh ls t) (gp:∀p∈ps,Gb 1894 1876 p) (l24:ts.length≤24):∀s∈aQ ts ps ts.length,vC ls s∧s.n≤100:=fun s hs=>by
 have sc:=AJ (c:=1900) (d:=1882) tc gp (by decide) (by decide) (by decide) s hs
 obtain ⟨t,et,ne,alt⟩:=sc.w
 have tt:=tc t (List.mem_of_getElem? et)
 obtain ⟨t',p,e1,e2,f⟩:=tJ hs
 rw [et] at e1
 cases e1
 have pp:=gp p (List.mem_of_getElem? e2)
 have n24:=sc.n
 refine ⟨⟨?_,sc.e,?_,sc.r.mono (by decide) (by decide),sc.g,sc.g1,?_⟩,by trivial⟩
 ·rcases alt with ⟨a,_⟩ | ⟨a,_⟩
  ·rw [a];exact tt.b
  ·rw [a];exact tt.e
 ·rcases alt with ⟨a,b⟩ | ⟨a,b⟩
  ·rw [a,b];exact ne
  ·rw [a,b];exact ne.symm
 ·have mp:=tt.fm.pos
  have qp:=pp.pos
  rcases f with ⟨f,c⟩ | ⟨f,c⟩
  ·rw [f]
   show 1≤(KM.low (t.most.1*p.2 - p.1*t.most.2) (t.most.2*p.2)).1
   exact (KM.low_sgn (Int.mul_pos (by trivial) (by trivial))).1.mpr (by trivial)
  ·rw [f]
   exact nX (by trivial) qp tt.g1 tt.fg.pos
end K18
namespace K18
open PySem L2
set_option maxHeartbeats 8000000
theorem AW (v:V):∀n:Nat,(List.replicate n [v]).flatten=List.replicate n v
 | 0=>rfl
 | n+1=>by rw [List.replicate_succ,List.flatten_cons,AW v n];rfl
theorem AE {E:Addr→Prop}{H:Hp}{v:V}{d:PyData} (h:aM E H v d):∀n:Nat,ae E H (List.replicate n v) (List.replicate n d)
 | 0=>.nil
 | n+1=>.cons h (AE h n)
theorem Gu {ls:List (List Nat)}{t:aI} (hl:∀l∈ls,lK l) (h:qh ls t):Wt (oB t) 12 2:=
 .tuple (.cons (.str (mC (hl _ h.b))) (.cons (.str (mC (hl _ h.e))) (.cons (uy h.fm (by decide) (by decide)) (.cons (uy h.fg (by decide) (by decide)) (.cons (uy h.fp (by decide) (by decide)) .nil)))))
theorem Gm {ls:List (List Nat)}{ts:List aI} (hl:∀l∈ls,lK l) (ht:∀t∈ts,qh ls t):Wt (gF ls ts) (1*ls.length+1+(12*ts.length+1+0)+1) 4:=
 .tuple (.cons (.deep (.tuple (p7 (m:=1) (k:=0) fun l h=>.str (mC (hl l h)))) (by decide)) (.cons (.tuple (p7 fun t h=>Gu hl (ht t h))) .nil))
theorem FQ {ps:List KM.Fra} (h:∀p∈ps,Gb 1894 1876 p):Wt (.list (ps.map cM)) (3*ps.length+1) 4:=Wt.deep (.list (k:=1) (p7 fun p hp=>uy (h p hp) (by decide) (by decide))) (by decide)
section
variable {P:Program}{w:World}{K:PySem.W.Frag}{mg:Str→Option Value}{base:Heap}
inductive Hg (K:PySem.W.Frag) (vs:List V) (H:Hp) (Q:VK):Prop
 | mk (a:Addr) (ns:List Int) (h0:vs=[.ref a]) (h1:ah K H a (ns.map V.int)) (h2:ns.length≤63) (h3:∀H',Q (.bl true) H')
def spLaw (K:PySem.W.Frag):Sp:=fun vs H Q _=>Hg K vs H Q
theorem law_start {H:Hp}{a:Addr}{ns:List Int} (hl:ns.length≤63) (_:xF H) (hS:ah K H a (ns.map V.int)):spLaw K [.ref a] H (fun v _=>v=.bl true) fun _ _ _=>False:=
 ⟨a,ns,rfl,hS,hl,fun _=>rfl⟩
theorem law_ok (T:Txt K mg):aY P w K mg base CX0 40 T.law_.f T.law_.d ["_law_script"] (spLaw K):=by
 have G_l_folded:=#[(Dc)]
 have G_l_box:=#[(IW)]
 have G_l_net_by:=#[(Dh)]
 have G_l_ends_by:=#[(Bv)]
 have G_l_stream_by:=#[(xK)]
 have G_bettering:=#[(zG)]
 have G_l_right:=#[(Bm)]
 refine T.law_.F.ok fZ (fun vs H Q E h=>?_) (fun cdv A outer s H vs Q E hr h=>?_)
 ·obtain ⟨a,ns,rfl,_⟩:=h
  rfl
 ·obtain ⟨a,ns,rfl,hS,hn,k⟩:=h
  refine ⟨_,#[#[1,fZ.nd,mJ,#[G_l_folded,xL,T.l_folded_,#[[#[0,xN],#[()]]]]] :: #[#[cC 8 PassesOwn.never rfl #[eX 6 vF T.b_range #[[#[(),(),(@CJ _ rfl),CS,T.b_max,(@Cf),#[[#[()],#[(),(),(@bX _ (K) (by rfl)),yw,T.b_len,(@aF),#[[#[1,mJ]]]]]]]]] (by rfl)] #[2,fZ.nd,yI] #[#[3,fZ.nd,ii,#[G_l_box,AA,T.l_box_,#[[#[1,mJ],#[2,yI]]]]] :: #[ac 3 #[cC 8 PassesOwn.never rfl #[eX 6 vF T.b_range #[[#[()]]] (by rfl)] #[4,fZ.nd,zb] #[#[5,fZ.nd,dP,#[G_l_net_by,xV,T.l_net_by_,#[[#[3,ii],#[()],#[()]]]]] :: #[#[cW 6 #[G_l_ends_by,xl,T.l_ends_by_,#[[#[3,ii],#[5,dP]]]] (@bM _ (K) _ _ _ _ (2) rfl #[aj 5 #[6,fZ.nd,fQ] #[aj 5 #[7,fZ.nd,iB] (@bK _) (by rfl)] (by rfl)] (by rfl) (by rfl) (by rfl)) (by rfl) (by rfl) (by rfl)] :: #[#[cC 8 PassesOwn.never rfl (@lA _ (K) _ _ _ #[ak 5 #[[#[G_l_stream_by,vi,T.l_stream_by_,#[[#[3,ii],#[5,dP],#[6,fQ],#[7,iB]]]],#[ai 8 (@xU _) #[aL 4 #[[#[ak 5 #[[#[()],#[()]]]]]]] #[(),(),(@bX _ (K) (by rfl)),yw,T.b_len,(@aF),#[[#[#[5,dP][#[()]]]]]]]]]] (by rfl)) #[8,fZ.nd,gP] #[#[9,fZ.nd,pe,#[cu 9 #[yh 2 hr] yx T.b_str (@vy) #[[#[aL 4 #[[#[5,dP],#[8,gP]]]]]] (by decide) (by decide) (by rfl) (by rfl)]] :: #[ac 3 #[cC 8 PassesOwn.never rfl (@lA _ (K) _ _ _ #[ak 5 #[[#[ak 5 #[[#[6,fQ],#[7,iB]]]],#[ak 5 #[[#[7,iB],#[6,fQ]]]],#[ak 5 #[[#[6,fQ],#[7,iB]]]]]]] (by rfl)) (@bM _ (K) _ _ _ _ (2) rfl #[aj 5 #[10,fZ.nd,pP] #[aj 5 #[11,fZ.nd,mL] (@bK _) (by rfl)] (by rfl)] (by rfl) (by rfl) (by rfl)) #[#[12,fZ.nd,mK,#[G_bettering,pA,T.bettering_,#[[#[5,dP],#[10,pP],#[11,mL],#[8,gP]]]]] :: #[#[bh 8 #[PW.pt 3 #[iX 7 #[oD 4 #[jx 3 #[G_l_right,yR,T.l_right_,#[[#[5,dP],#[10,pP],#[11,mL],#[8,gP],#[12,mK]]]] (by intro _;rfl)]] #[jQ 4 #[ap 8 (@lV _) #[cu 9 #[yh 2 hr] yx T.b_str (@vy) #[[#[aL 4 #[[#[5,dP],#[8,gP]]]]]] (by decide) (by decide) (by rfl) (by rfl)] #[9,pe] #[(),()]]]]] #[ac 3 #[aw 4 #[ie 4]]] (@aK _)] :: #[ac 3 #[cC 8 PassesOwn.never rfl (@lA _ (K) _ _ _ #[dI 10 (@xQ _ (K) (by rfl)) #[Iv 7 #[12,mK] #[Dd 5 #[ak 5 (@bc _)]]] #[d7 3 #[()]] (@fS _)] (by rfl)) #[13,fZ.nd,uB] #[ac 3 #[cI 4 (@bS _ (K) _ _ _ _ _ _ _ _ _ _ _ PySem.F.plainAttrs_list PySem.F.slot_list_append PySem.F.type_list_append (@bU _) #[13,uB] #[[#[ak 5 #[[#[()],#[ie 4]]]]]] (by rfl) (by rfl) (by rfl) (by rfl) (by rfl) (by rfl)) (by rfl)]] (by intro _;rfl)]]]] (by intro _;rfl)]]] (by intro _;rfl)] :: #[ac 3 #[bh 8 #[ap 8 (@xx _) #[G_bettering,pA,T.bettering_,#[[#[ak 5 #[[#[#[5,dP][#[()]]],#[ak 5 (@bc _)]]]],#[6,fQ],#[7,iB],#[aL 4 (@bc _)]]]] #[cR 3] #[(),()]] #[ac 3 #[aw 4 #[ie 4]]] (@aK _)]]]]] (by intro _;rfl)]]] (by intro _;rfl)] :: #[ac 3 #[aw 4 #[ie 4]]]]],?_⟩
  refine aT fun DA nA=>?_
  refine ⟨(),a,ns,4,rfl,hS,hn,by decide,by decide,fun p ms H1 hp s1 hp1 hm4=>?_⟩
  refine nA _ _ ?_
  have hmx:0≤(if ((ms.map V.int).length:Int) > 2 then ((ms.map V.int).length:Int) else 2)∧(if ((ms.map V.int).length:Int) > 2 then ((ms.map V.int).length:Int) else 2)≤4:=by
   rw [List.length_map]
   split <;> trivial
  refine ⟨(),p,(),.inl (ah.of hp1),_,(),(),by trivial,by trivial,?_⟩
  generalize (if ((ms.map V.int).length:Int) > 2 then ((ms.map V.int).length:Int) else 2)=mx at hmx
  refine j6 (fun i σ H'=>LH fun v2 v3 v4 v5 v6 v7 v8 v9 v10 v11 v12 v13=>σ=[some (.ref a),some (.ref p),v2,v3,v4,v5,v6,v7,v8,v9,v10,v11,v12,v13]∧H' p=some (.lst (ms.map V.int))) ⟨_,_,_,_,_,_,_,_,_,_,_,(),hp1⟩ ?_ ?_
  case refine_2=>
   rintro σ H' ⟨v2,v3,v4,v5,v6,v7,v8,v9,v10,v11,v12,v13,rfl,_⟩
   exact k _
  rintro i σ H2 hi ⟨v2,v3,v4,v5,v6,v7,v8,v9,v10,v11,v12,v13,rfl,hp2⟩
  refine nz (t:=jH _ _) fun DB nB=>?_
  refine aT fun DC nC=>?_
  refine ⟨(),(),p,ms,(),ah.of hp2,by trivial,by trivial,fun b H3 hb s3 B3=>?_⟩
  refine nC _ _ ?_
  have npb:¬p=b:=fun z=>by rw [z,hb] at hp2;cases hp2
  have hp3:=s3 _ _ hp2
  refine ⟨2,rfl,by decide,by decide,j6 (fun i' σ H'=>Lj fun (v4 v5 v6 v7 v8 v9 v10 v11 v12 v13:Option V) (t':Int)=>σ=[some (.ref a),some (.ref p),some (.int (0+(i:Int))),some (.ref b),v4,v5,v6,v7,v8,v9,v10,v11,v12,v13]∧Bx H' b t'∧0≤t'∧t'≤10000*i'∧aq (Eb b) H3 H') ⟨_,_,_,_,_,_,_,_,_,_,0,rfl,B3,by trivial,by trivial,aq.refl _⟩ ?_ ?_⟩
  case refine_2=>
   rintro σ H' ⟨v4,v5,v6,v7,v8,v9,v10,v11,v12,v13,t',rfl,_,_,_,sE⟩
   exact nB _ _ ⟨_,_,_,_,_,_,_,_,_,_,_,(),sE.old p _ npb hp3⟩
  rintro i' σ H4 hi' ⟨v4,v5,v6,v7,v8,v9,v10,v11,v12,v13,t4,rfl,B4,h40,h41,sE4⟩
  refine nz (t:=jH _ _) fun DD nD=>?_
  refine bT fun Q5 nA5=>⟨(),b,5,8,t4,rfl,B4,by trivial,by trivial,by decide,by decide,by decide,by decide,fun nv ls ts t5 H5 s5 iN l2 l10 nd nc l1 l24 tc B5 h5a h5b=>nA5 _ _ ?_⟩
  refine ⟨(),(),b,nv,ls,ts,t5,rfl,B5,by trivial,by trivial,iN,l2,l10,nd,fun T6 f e t6 H6 s6 hT6 mf me fe B6 h6a h6b=>⟨T6,(),ag.of hT6,rfl,_,(),_,(),rfl,?_⟩⟩
  dsimp only
  have iN6:aM ED H6 nv (gF ls ts):=iN.tupS (F:=ED) s6
  refine dW fun D8 n8 r8=>?_
  refine ⟨(),(),(),(),b,nv,ls,ts,f,e,t6,rfl,B6,by trivial,by trivial,iN6,tc,by trivial,mf,fe,l10,fun L1 y1 p1 t7 H7 s7 B7 h7a h7b f1 hL1 iL1 lp1 g1=>?_⟩
  obtain ⟨na,pa,qa,ty,rfl,hna,hpa,hqa,ity⟩:=jf (iN6.tupS (F:=ED) s7)
  refine ⟨(by show 2≤10000;decide),fun o0 K0 k0=>⟨(by show 1≤10000;decide),fun ol K1 k1=>⟨(),na,_,_,(),rfl,ag.of (k1.sm _ _ (k0.sm _ _ hna)),rfl,qa,(),.inr (ag.of (k1.sm _ _ (k0.sm _ _ hqa))),?_⟩⟩⟩
  have lty:ty.length=ts.length:=by rw [ity.length,List.length_map]
  refine ⟨ol,_,(),rfl,k1.at',by trivial,by trivial,by show 1*((ty.length:Int)).toNat≤10000;trivial,fun L2 K2 k2=>⟨(by show 2≤10000;decide),fun TT H9 n9=>?_⟩⟩
  have hL2:K2 L2=some (.lst (List.replicate ts.length (.ref o0))):=by
   have:=k2.at'
   rw [show ((ty.length:Int)).toNat=ts.length by trivial,AW] at this
   exact this
  have s79:ad H7 H9:=((k0.sm.trans k1.sm).trans k2.sm).trans n9.sm
  have iL2:ae ED H9 (List.replicate ts.length (.ref o0)) ((List.replicate ts.length (0,1)).map cM):=by
   rw [List.map_replicate]
   exact AE (fY (p:=(0,1)) (n9.sm _ _ (k2.sm _ _ (k1.sm _ _ k0.at')))) _
  have nL1:¬L1=b:=fun z=>B6.ne f1 z.symm
  have iN9:aM ED H9 (.ref na) (gF ls ts):=(iN6.tupS (F:=ED) s7).sm s79
  have B9:=B7.same s79
  have s39:aq (Eb b) H3 H9:=(((sE4.trans s5).trans s6).trans s7).trans s79.toE
  have gs:∀{ps:List KM.Fra},(∀p∈ps,Gb 1894 1876 p)→∀s∈aQ ts ps ts.length,vC ls s∧s.n≤100:=fun h=>Ga tc h (by trivial)
  have str:∀x,x∈[V.ref L1,V.ref L2]→fD fun (L:Addr) (ys:List V) (ps:List KM.Fra)=>x=.ref L∧H9 L=some (.lst ys)∧ae ED H9 ys (ps.map cM)∧ps.length=ts.length∧∀p∈ps,Gb 1894 1876 p:=fun x hx=>by
   have:x=.ref L1∨x=.ref L2:=by simpa using hx
   rcases this with rfl | rfl
   ·exact ⟨L1,y1,p1,rfl,s79 _ _ hL1,iL1.mono s79.toE,lp1,g1⟩
   ·exact ⟨L2,_,List.replicate ts.length (0,1),rfl,n9.sm _ _ hL2,iL2,by rw [List.length_replicate],fun p hp=>by rw [List.eq_of_mem_replicate hp];exact Iz.mono (by decide) (by decide)⟩
  refine ⟨TT,rfl,⟨_,ag.of n9.at'⟩,uP (xs:=[.ref L1,.ref L2]) (fun j σ H'=>AF fun (v8 v9 v10 v11 v12 v13:Option V)=>σ=[some (.ref a),some (.ref p),some (.int (0+(i:Int))),some (.ref b),some (.int (0+(i':Int))),some (.ref na),some (.str (S f)),some (.str (S e)),v8,v9,v10,v11,v12,v13]∧ad H9 H') ⟨_,_,_,_,_,(),ad.refl _⟩ ?_ ?_ ?_⟩
  ·rintro j σ H' _ ⟨_,_,_,_,_,_,_,sm⟩
   exact ag.of (sm _ _ n9.at')
  case refine_3=>
   rintro σ H' ⟨v8,v9,v10,v11,v12,v13,rfl,sm⟩
   refine n8 _ _ ?_
   refine ⟨(),na,_,_,(),rfl,ag.of (sm _ _ (s79 _ _ hna)),rfl,(by show 0≤10000;decide),fun te J0 j0=>⟨(by show 2≤10000;decide),fun tn J1 j1=>⟨(),(),(by show 0≤10000;decide),fun le J2 j2=>?_⟩⟩⟩
   have s9:ad H9 J2:=((sm.trans j0.sm).trans j1.sm).trans j2.sm
   have hpaJ:=(sm.trans (j0.sm.trans (j1.sm.trans j2.sm))) _ _ (s79 _ _ hpa)
   have iE:aM ED J2 (.ref tn) (gF ls []):=.tup (j2.sm _ _ j1.at') (.cons (.tup hpaJ (zk ls)) (.cons (.tup (j2.sm _ _ (j1.sm _ _ j0.at')) .nil) .nil))
   refine ⟨.ref tn,le,ls,[],[],[],f,e,rfl,iE,(fun _ h=>by cases h),by decide,j2.at',.nil,rfl,(fun _ h=>by cases h),(fun _ h=>by cases h),me,l10,?_,?_,?_⟩
   ·intro Tw p' ys pl cr J cs fpl
    exfalso
    by_cases q:f=e
    ·exact fe q
    ·obtain ⟨c,hc,_⟩:=cs.st f fpl q
     cases hc
   ·intro pl cr m J cs _ _ _ _ _ sJ
    exact ⟨rfl,(),aR (nD _ _ ⟨_,_,_,_,_,_,_,_,_,_,t7,rfl,B9.same (s9.trans sJ),by trivial,by trivial,s39.trans (s9.trans sJ).toE⟩)⟩
   ·intro Tw p' q' ys zs pl cr r0 rs J cs rg
    cases (rg.sub r0 (List.mem_cons_self ..)).1
  rintro j x σ G0 hx ⟨v8,v9,v10,v11,v12,v13,rfl,sm⟩
  obtain ⟨L,ys,ps,rfl,hL9,iL9,lps,gp⟩:=str x (List.mem_of_getElem? hx)
  have iN0:=iN9.sm sm
  have hL0:=sm _ _ hL9
  have iL0:=iL9.mono sm.toE
  have lys:ys.length=ps.length:=by rw [iL9.length,List.length_map]
  have wt:Wt (.list [gF ls ts,.list (ps.map cM)]) ((1*ls.length+1+(12*ts.length+1+0)+1)+((3*ps.length+1)+0)+1) 5:=.list (.cons (Gm nc tc) (.cons (FQ gp) .nil))
  have shown:∀{J J':Hp}{l:Addr},ad G0 J→Nw J l (.lst [.ref na,.ref L]) J'→aM (fun _=>False) J' (.ref l) (.list [gF ls ts,.list (ps.map cM)]):=fun {J J' l} sJ nl=>by
   have s':=sJ.trans nl.sm
   exact .lst nl.at' (fun z=>z) (.cons ((iN0.sm s').narrow fun _ z=>z.elim) (.cons (.lst (s' _ _ hL0) (fun z=>z) ((iL0.mono s'.toE).narrow fun _ z=>z.elim)) .nil))
  refine nz (t:=jH _ _) fun DE nE=>?_
  refine aT fun DF nF=>⟨(),(),(by show 2≤10000;decide),fun l2' G2 k2=>⟨l2',_,_,_,(),shown (ad.refl _) k2,wt,by trivial,by decide,nF _ _ ?_⟩⟩
  generalize hsz:PyData.shown (.list [gF ls ts,.list (ps.map cM)])=sz
  refine ⟨(),(),(by show 2≤10000;decide),fun T1 I1 i1=>⟨(),(),(by show 2≤10000;decide),fun T2 I2 i2=>⟨(),(),(by show 2≤10000;decide),fun T3 I3 i3=>⟨(by show 3≤10000;decide),fun TP I4 i4=>?_⟩⟩⟩⟩
  have s04:ad G0 I4:=(((k2.sm.trans i1.sm).trans i2.sm).trans i3.sm).trans i4.sm
  have prs:∀x,x∈[V.ref T1,V.ref T2,V.ref T3]→fD fun (Tq:Addr) (o u:List Nat)=>x=.ref Tq∧I4 Tq=some (.tup [ar o,ar u])∧o∈ls∧u∈ls∧o≠u:=fun x hx=>by
   have:x=.ref T1∨x=.ref T2∨x=.ref T3:=by simpa using hx
   rcases this with rfl | rfl | rfl
   ·exact ⟨T1,f,e,rfl,i4.sm _ _ (i3.sm _ _ (i2.sm _ _ i1.at')),mf,me,fe⟩
   ·exact ⟨T2,e,f,rfl,i4.sm _ _ (i3.sm _ _ i2.at'),me,mf,fe.symm⟩
   ·exact ⟨T3,f,e,rfl,i4.sm _ _ i3.at',mf,me,fe⟩
  refine ⟨TP,rfl,⟨_,ag.of i4.at'⟩,uP (xs:=[.ref T1,.ref T2,.ref T3]) (fun j' σ H'=>tQ fun (v10 v11 v12 v13:Option V)=>σ=[some (.ref a),some (.ref p),some (.int (0+(i:Int))),some (.ref b),some (.int (0+(i':Int))),some (.ref na),some (.str (S f)),some (.str (S e)),some (.ref L),some (.str sz),v10,v11,v12,v13]∧ad I4 H') ⟨_,_,_,(),ad.refl _⟩ ?_ ?_ ?_⟩
  ·rintro j' σ H' _ ⟨_,_,_,_,_,sm'⟩
   exact ag.of (sm' _ _ i4.at')
  case refine_3=>
   rintro σ H' ⟨v10,v11,v12,v13,rfl,sm'⟩
   exact nE _ _ ⟨_,_,_,_,_,(),sm.trans (s04.trans sm')⟩
  rintro j' x σ F0 hx' ⟨v10,v11,v12,v13,rfl,sm'⟩
  obtain ⟨Tq,o,u,rfl,hTq,mo,mu,ou⟩:=prs x (List.mem_of_getElem? hx')
  refine ⟨Tq,(),ag.of (sm' _ _ hTq),rfl,_,(),_,(),rfl,?_⟩
  refine nz (t:=jH _ _) fun DG nG=>?_
  have sF:ad G0 F0:=s04.trans sm'
  have iNF:=iN0.sm sF
  have hLF:=sF _ _ hL0
  have iLF:=iL0.mono sF.toE
  have gsp:=gs gp
  have tail:∀(Tw:Addr) (y:V) (qs:List Addr) (J:Hp) (v13:Option V),ad F0 J→J Tw=some (.tup (y :: qs.map V.ref))→qs.length≤2→(∀q∈qs,F0 q=none∧∃ys,J q=some (.lst ys)∧ys.length≤50)→
   Jr (EJ K (KY (FH K) (IA (vU 12) (BN zZ)) (Fz (tC (V.int 1))) AZ)) (qZ 13) (y9 (FN K "list" Cm (vU 13) (uK (BN (uK (tC (V.int 0)) (uK (tC (V.bl true)) zZ))) zZ))) DG
    [some (.ref a),some (.ref p),some (.int (0+(i:Int))),some (.ref b),some (.int (0+(i':Int))),some (.ref na),some (.str (S f)),some (.str (S e)),some (.ref L),some (.str sz),some (ar o),some (ar u),some (.ref Tw),v13] J:=by
   intro Tw y qs J v13 sJ hTw l2q hqs
   refine ⟨(),.inr ⟨Tw,y,qs.map V.ref,rfl,hTw,(),Tw,(),ag.of hTw,hTw,fun Z J1 z1 hZ=>?_⟩⟩
   rw [cV] at hZ
   have hZ':J1 Z=some (.tup (qs.map V.ref)):=hZ
   refine ⟨Z,rfl,⟨_,ag.of hZ'⟩,uP (xs:=qs.map V.ref) (fun m σ H'=>∃(v13:Option V),σ=[some (.ref a),some (.ref p),some (.int (0+(i:Int))),some (.ref b),some (.int (0+(i':Int))),some (.ref na),some (.str (S f)),some (.str (S e)),some (.ref L),some (.str sz),some (ar o),some (ar u),some (.ref Tw),v13]∧ad F0 H'∧H' Z=some (.tup (qs.map V.ref))∧∀q∈qs,∃ys,H' q=some (.lst ys)∧ys.length≤50+m) ⟨(),sJ.trans z1,hZ',fun q hq=>?_⟩ ?_ ?_ ?_⟩
   ·obtain ⟨_,ys,h1,h2⟩:=hqs q hq
    exact ⟨ys,z1 _ _ h1,by trivial⟩
   ·rintro m σ H' _ ⟨_,_,_,h,_⟩
    exact ag.of h
   ·rintro m x σ J2 hx2 ⟨v13,rfl,sJ2,hZ2,all2⟩
    obtain ⟨q,hq,rfl⟩:=List.mem_map.mp (List.mem_of_getElem? hx2)
    obtain ⟨ys,hy,ly⟩:=all2 q hq
    have lm:m<2:=by
     have:=(List.getElem?_eq_some_iff.mp hx2).1
     rw [List.length_map] at this
     trivial
    refine ⟨(),.inl ⟨rfl,_,ah.of hy⟩,(by show 2≤10000;decide),fun pr J3 k3=>⟨q,ys,.ref pr,rfl,rfl,k3.sm _ _ hy,by trivial,fun J4 c4=>⟨(),ad.ch (sJ2.trans k3.sm) c4 (hqs q hq).1,c4.ol _ _ (Bg (k3.sm _ _ hZ2) (k3.sm _ _ hy) (by intro z;cases z)) (k3.sm _ _ hZ2),fun q2 hq2=>?_⟩⟩⟩
    by_cases e2:q2=q
    ·subst e2
     exact ⟨_,c4.at',by rw [List.length_append];show ys.length+1≤50+(m+1);trivial⟩
    ·obtain ⟨ys2,hy2,ly2⟩:=all2 q2 hq2
     exact ⟨ys2,c4.ol _ _ e2 (k3.sm _ _ hy2),by trivial⟩
   ·rintro σ H' ⟨v13,rfl,sJ',_⟩
    exact nG _ _ ⟨_,_,_,(),sm'.trans sJ'⟩
  refine aT fun DH nH=>⟨(),(),(),(),.ref na,L,ls,ts,ys,ps,o,u,rfl,iNF,tc,by trivial,hLF,iLF,lps,gp,fun s hs=>(gsp s hs).1,mu,l10,fun T p' zs pl cr H' cs opl sH fp hT hp iz=>nH _ _ ?_,fun pl cr m H' cs pls cl npl hm hlf sH=>nH _ _ ?_,fun T p' q' zs ws pl cr r0 rs H' cs rg sh sH fp fq npq hT hp iz hq iw=>nH _ _ ?_⟩
  ·have pls:∀l∈pl,l∈ls:=fun l hl=>by
    by_cases q:l=u
    ·rw [q];exact mu
    ·obtain ⟨c,hc,ec,_,_⟩:=cs.st l hl q
     rw [←ec];exact (gsp c hc).1.b
   have p10:pl.length≤10:=Nat.le_trans (cs.nd.length_le_of_subset pls) l10
   refine aT fun DI nI=>⟨(),(),(),(),(),.ref na,.ref T,L,o,u,rfl,.inl ⟨T,rfl,.ref na,L,T,ls,ts,ys,ps,o,u,pl,cr,rfl,iNF.sm sH,tc,nc,l24,sH _ _ hLF,iLF.mono sH.toE,lps,gp,fun s hs=>(gsp s hs).1,zi ts ps ts.length,fun s hs=>(gsp s hs).2,cs,p10,.inl ⟨p',zs,opl,fp,hp,iz⟩,fun J s2=>⟨(),aR ⟨(),(),(by show 2≤10000;decide),fun l3 F3 k5=>⟨l3,_,_,_,(),shown ((sF.trans sH).trans s2) k5,wt,by trivial,by decide,(),rfl,(),?_⟩⟩⟩⟩⟩
   rw [hsz]
   refine xJ (nI _ _ ?_)
   have s3:=(sH.trans s2).trans k5.sm
   refine tail T _ [p'] F3 _ s3 ((s2.trans k5.sm) _ _ fp) (Nat.le_succ 1) fun q hq=>?_
   obtain rfl:=List.mem_singleton.mp hq
   exact ⟨hT,zs,k5.sm _ _ (s2 _ _ hp),by rw [iz.length,List.length_map];have:=cs.len o opl;trivial⟩
  ·refine aT fun DI nI=>⟨(),(),(),(),(),.ref na,.non,L,o,u,rfl,.inr ⟨rfl,ls,ts,ys,ps,pl,cr,m,iNF.sm sH,tc,l24,sH _ _ hLF,iLF.mono sH.toE,lps,gp,fun s hs=>(gsp s hs).1,cs,Nat.le_trans (cs.nd.length_le_of_subset pls) l10,cl,npl,hm,hlf,fun J s2=>⟨(),aR ⟨(),(),(by show 2≤10000;decide),fun l3 F3 k5=>⟨l3,_,_,_,(),shown ((sF.trans sH).trans s2) k5,wt,by trivial,by decide,(),rfl,(),?_⟩⟩⟩⟩⟩
   rw [hsz]
   refine xJ (nI _ _ ?_)
   have s3:=(sH.trans s2).trans k5.sm
   refine ⟨(),.inl ⟨rfl,(by show 0≤10000;decide),fun te J0 j0=>⟨(),te,(),ag.of j0.at',j0.at',fun Z J1 z1 hZ=>⟨Z,rfl,⟨_,ag.of hZ⟩,uP (xs:=[]) (fun m σ H'=>∃(v13:Option V),σ=[some (.ref a),some (.ref p),some (.int (0+(i:Int))),some (.ref b),some (.int (0+(i':Int))),some (.ref na),some (.str (S f)),some (.str (S e)),some (.ref L),some (.str sz),some (ar o),some (ar u),some .non,v13]∧ad F0 H'∧H' Z=some (.tup [])) ⟨(),(s3.trans j0.sm).trans z1,hZ⟩ ?_ ?_ ?_⟩⟩⟩⟩
   ·rintro m σ H' _ ⟨_,_,_,h⟩
    exact ag.of h
   ·rintro m x σ J2 hx2 _
    cases hx2
   ·rintro σ H' ⟨v13,rfl,sJ',_⟩
    exact nG _ _ ⟨_,_,_,(),sm'.trans sJ'⟩
  ·have pls:∀l∈pl,l∈ls:=fun l hl=>by
    by_cases q:l=u
    ·rw [q];exact mu
    ·obtain ⟨c,hc,ec,_,_⟩:=cs.st l hl q
     rw [←ec];exact (gsp c hc).1.b
   have p10:pl.length≤10:=Nat.le_trans (cs.nd.length_le_of_subset pls) l10
   refine aT fun DI nI=>⟨(),(),(),(),(),.ref na,.ref T,L,o,u,rfl,.inl ⟨T,rfl,.ref na,L,T,ls,ts,ys,ps,o,u,pl,cr,rfl,iNF.sm sH,tc,nc,l24,sH _ _ hLF,iLF.mono sH.toE,lps,gp,fun s hs=>(gsp s hs).1,zi ts ps ts.length,fun s hs=>(gsp s hs).2,cs,p10,.inr ⟨p',q',zs,ws,r0,rs,rg,sh,fp,hp,iz,hq,iw⟩,fun J s2=>⟨(),aR ⟨(),(),(by show 2≤10000;decide),fun l3 F3 k5=>⟨l3,_,_,_,(),shown ((sF.trans sH).trans s2) k5,wt,by trivial,by decide,(),rfl,(),?_⟩⟩⟩⟩⟩
   rw [hsz]
   refine xJ (nI _ _ ?_)
   have s3:=(sH.trans s2).trans k5.sm
   refine tail T _ [p',q'] F3 _ s3 ((s2.trans k5.sm) _ _ fp) (Nat.le_refl 2) fun q hq'=>?_
   rcases List.mem_cons.mp hq' with rfl | hq'
   ·exact ⟨fq,zs,k5.sm _ _ (s2 _ _ hp),by rw [iz.length,List.length_map];have:=rg.ten;trivial⟩
   ·obtain rfl:=List.mem_singleton.mp hq'
    exact ⟨npq,ws,k5.sm _ _ (s2 _ _ hq),by rw [iw.length,List.length_map];have:=cs.len r0.st (rg.sub r0 (List.mem_cons_self ..)).2.1;trivial⟩
end
end K18
namespace K18
open PySem L2
set_option maxHeartbeats 0 in
theorem txt_of {K:PySem.W.Frag}{h:Heap}{mg:Str→Option Value} (y:obs K=due) (X:K.In h) (G:h.Ns mainGlobals mg):∃T:Txt K mg,∀(s:Shared) (u:Value),BindsTo s T.law_.d ⟨[u],[]⟩ [("_law_script",u)]:=by
 have e:∀i,(obs K).1.getD i none=due.1.getD i none:=fun i=>by rw [y]
 have b:∀i,(obs K).2.getD i true=due.2.getD i true:=fun i=>by rw [y]
 refine ⟨{
  b_abs:=PySem.W.mg_none_of X G (cw (b 0)),
  b_any:=PySem.W.mg_none_of X G (cw (b 1)),
  b_bool:=PySem.W.mg_none_of X G (cw (b 2)),
  b_dict:=PySem.W.mg_none_of X G (cw (b 3)),
  b_divmod:=PySem.W.mg_none_of X G (cw (b 4)),
  b_enumerate:=PySem.W.mg_none_of X G (cw (b 5)),
  b_int:=PySem.W.mg_none_of X G (cw (b 6)),
  b_isinstance:=PySem.W.mg_none_of X G (cw (b 7)),
  b_len:=PySem.W.mg_none_of X G (cw (b 8)),
  b_list:=PySem.W.mg_none_of X G (cw (b 9)),
  b_max:=PySem.W.mg_none_of X G (cw (b 10)),
  b_min:=PySem.W.mg_none_of X G (cw (b 11)),
  b_range:=PySem.W.mg_none_of X G (cw (b 12)),
  b_set:=PySem.W.mg_none_of X G (cw (b 13)),
  b_sorted:=PySem.W.mg_none_of X G (cw (b 14)),
  b_str:=PySem.W.mg_none_of X G (cw (b 15)),
  b_tuple:=PySem.W.mg_none_of X G (cw (b 16)),
  b_zip:=PySem.W.mg_none_of X G (cw (b 17)),
  common_divisor_:=⟨_,_,PySem.W.mg_of X G (aV (e 0)),au (e 0),(au (e 0)).binds (ps:=["n", "d"]) fun _ _ _ _ _ _=>dD (fun _ _=>rfl)⟩,
  fraction_:=⟨_,_,PySem.W.mg_of X G (aV (e 1)),au (e 1),(au (e 1)).binds (ps:=["n", "d"]) fun _ _ _ _ _ _=>dD (fun _ _=>rfl)⟩,
  taken_:=⟨_,_,PySem.W.mg_of X G (aV (e 2)),au (e 2),(au (e 2)).binds (ps:=["one", "other"]) fun _ _ _ _ _ _=>dD (fun _ _=>rfl)⟩,
  times_:=⟨_,_,PySem.W.mg_of X G (aV (e 3)),au (e 3),(au (e 3)).binds (ps:=["one", "other"]) fun _ _ _ _ _ _=>dD (fun _ _=>rfl)⟩,
  over_:=⟨_,_,PySem.W.mg_of X G (aV (e 4)),au (e 4),(au (e 4)).binds (ps:=["one", "other"]) fun _ _ _ _ _ _=>dD (fun _ _=>rfl)⟩,
  compared_:=⟨_,_,PySem.W.mg_of X G (aV (e 5)),au (e 5),(au (e 5)).binds (ps:=["one", "other"]) fun _ _ _ _ _ _=>dD (fun _ _=>rfl)⟩,
  steps_of_:=⟨_,_,PySem.W.mg_of X G (aV (e 6)),au (e 6),(au (e 6)).binds (ps:=["number", "tie", "much"]) fun _ _ _ _ _ _=>xz (fun _ _ _=>rfl)⟩,
  left_steps_:=⟨_,_,PySem.W.mg_of X G (aV (e 7)),au (e 7),(au (e 7)).binds (ps:=["net", "stream"]) fun _ _ _ _ _ _=>dD (fun _ _=>rfl)⟩,
  is_shut_:=⟨_,_,PySem.W.mg_of X G (aV (e 8)),au (e 8),(au (e 8)).binds (ps:=["tie"]) fun _ _ _ _ _ _=>tu (fun _=>rfl)⟩,
  lift_once_:=⟨_,_,PySem.W.mg_of X G (aV (e 9)),au (e 9),(au (e 9)).binds (ps:=["net", "worths", "onward"]) fun _ _ _ _ _ _=>xz (fun _ _ _=>rfl)⟩,
  round_ahead_:=⟨_,_,PySem.W.mg_of X G (aV (e 10)),au (e 10),(au (e 10)).binds (ps:=["net", "onward", "place"]) fun _ _ _ _ _ _=>xz (fun _ _ _=>rfl)⟩,
  gaining_round_:=⟨_,_,PySem.W.mg_of X G (aV (e 11)),au (e 11),(au (e 11)).binds (ps:=["net"]) fun _ _ _ _ _ _=>tu (fun _=>rfl)⟩,
  courses_to_:=⟨_,_,PySem.W.mg_of X G (aV (e 12)),au (e 12),(au (e 12)).binds (ps:=["steps", "end"]) fun _ _ _ _ _ _=>dD (fun _ _=>rfl)⟩,
  gaining_ring_:=⟨_,_,PySem.W.mg_of X G (aV (e 13)),au (e 13),(au (e 13)).binds (ps:=["steps", "courses"]) fun _ _ _ _ _ _=>dD (fun _ _=>rfl)⟩,
  bettering_:=⟨_,_,PySem.W.mg_of X G (aV (e 14)),au (e 14),(au (e 14)).binds (ps:=["net", "begin", "end", "stream"]) fun _ _ _ _ _ _=>BV (fun _ _ _ _=>rfl)⟩,
  l_box_:=⟨_,_,PySem.W.mg_of X G (aV (e 15)),au (e 15),(au (e 15)).binds (ps:=["_law_script", "_law_k"]) fun _ _ _ _ _ _=>dD (fun _ _=>rfl)⟩,
  l_take_:=⟨_,_,PySem.W.mg_of X G (aV (e 16)),au (e 16),(au (e 16)).binds (ps:=["_law_box_here", "_law_many"]) fun _ _ _ _ _ _=>dD (fun _ _=>rfl)⟩,
  l_folded_:=⟨_,_,PySem.W.mg_of X G (aV (e 17)),au (e 17),(au (e 17)).binds (ps:=["_law_script", "_law_many"]) fun _ _ _ _ _ _=>dD (fun _ _=>rfl)⟩,
  l_frac_:=⟨_,_,PySem.W.mg_of X G (aV (e 18)),au (e 18),(au (e 18)).binds (ps:=["_law_n", "_law_d"]) fun _ _ _ _ _ _=>dD (fun _ _=>rfl)⟩,
  l_sum_:=⟨_,_,PySem.W.mg_of X G (aV (e 19)),au (e 19),(au (e 19)).binds (ps:=["_law_one", "_law_other"]) fun _ _ _ _ _ _=>dD (fun _ _=>rfl)⟩,
  l_product_:=⟨_,_,PySem.W.mg_of X G (aV (e 20)),au (e 20),(au (e 20)).binds (ps:=["_law_one", "_law_other"]) fun _ _ _ _ _ _=>dD (fun _ _=>rfl)⟩,
  l_minus_:=⟨_,_,PySem.W.mg_of X G (aV (e 21)),au (e 21),(au (e 21)).binds (ps:=["_law_one", "_law_other"]) fun _ _ _ _ _ _=>dD (fun _ _=>rfl)⟩,
  l_over_:=⟨_,_,PySem.W.mg_of X G (aV (e 22)),au (e 22),(au (e 22)).binds (ps:=["_law_one", "_law_other"]) fun _ _ _ _ _ _=>dD (fun _ _=>rfl)⟩,
  l_above_:=⟨_,_,PySem.W.mg_of X G (aV (e 23)),au (e 23),(au (e 23)).binds (ps:=["_law_one", "_law_other"]) fun _ _ _ _ _ _=>dD (fun _ _=>rfl)⟩,
  l_names_by_:=⟨_,_,PySem.W.mg_of X G (aV (e 24)),au (e 24),(au (e 24)).binds (ps:=["_law_box_here", "_law_many"]) fun _ _ _ _ _ _=>dD (fun _ _=>rfl)⟩,
  l_any_gain_:=⟨_,_,PySem.W.mg_of X G (aV (e 25)),au (e 25),(au (e 25)).binds (ps:=["_law_box_here"]) fun _ _ _ _ _ _=>tu (fun _=>rfl)⟩,
  l_any_much_:=⟨_,_,PySem.W.mg_of X G (aV (e 26)),au (e 26),(au (e 26)).binds (ps:=["_law_box_here"]) fun _ _ _ _ _ _=>tu (fun _=>rfl)⟩,
  l_any_price_:=⟨_,_,PySem.W.mg_of X G (aV (e 27)),au (e 27),(au (e 27)).binds (ps:=["_law_box_here"]) fun _ _ _ _ _ _=>tu (fun _=>rfl)⟩,
  l_planted_:=⟨_,_,PySem.W.mg_of X G (aV (e 28)),au (e 28),(au (e 28)).binds (ps:=["_law_box_here", "_law_places"]) fun _ _ _ _ _ _=>dD (fun _ _=>rfl)⟩,
  l_net_by_:=⟨_,_,PySem.W.mg_of X G (aV (e 29)),au (e 29),(au (e 29)).binds (ps:=["_law_box_here", "_law_most_places", "_law_most_ties"]) fun _ _ _ _ _ _=>xz (fun _ _ _=>rfl)⟩,
  l_steps_of_:=⟨_,_,PySem.W.mg_of X G (aV (e 30)),au (e 30),(au (e 30)).binds (ps:=["_law_net", "_law_stream"]) fun _ _ _ _ _ _=>dD (fun _ _=>rfl)⟩,
  l_course_by_:=⟨_,_,PySem.W.mg_of X G (aV (e 31)),au (e 31),(au (e 31)).binds (ps:=["_law_box_here", "_law_steps", "_law_first", "_law_end", "_law_barred"]) fun _ _ _ _ _ _=>EY (fun _ _ _ _ _=>rfl)⟩,
  l_parts_on_:=⟨_,_,PySem.W.mg_of X G (aV (e 32)),au (e 32),(au (e 32)).binds (ps:=["_law_steps", "_law_part"]) fun _ _ _ _ _ _=>dD (fun _ _=>rfl)⟩,
  l_put_:=⟨_,_,PySem.W.mg_of X G (aV (e 33)),au (e 33),(au (e 33)).binds (ps:=["_law_stream", "_law_parts", "_law_much"]) fun _ _ _ _ _ _=>xz (fun _ _ _=>rfl)⟩,
  l_much_along_:=⟨_,_,PySem.W.mg_of X G (aV (e 34)),au (e 34),(au (e 34)).binds (ps:=["_law_parts"]) fun _ _ _ _ _ _=>tu (fun _=>rfl)⟩,
  l_stream_by_:=⟨_,_,PySem.W.mg_of X G (aV (e 35)),au (e 35),(au (e 35)).binds (ps:=["_law_box_here", "_law_net", "_law_begin", "_law_end"]) fun _ _ _ _ _ _=>BV (fun _ _ _ _=>rfl)⟩,
  l_ends_by_:=⟨_,_,PySem.W.mg_of X G (aV (e 36)),au (e 36),(au (e 36)).binds (ps:=["_law_box_here", "_law_net"]) fun _ _ _ _ _ _=>dD (fun _ _=>rfl)⟩,
  l_told_steps_:=⟨_,_,PySem.W.mg_of X G (aV (e 37)),au (e 37),(au (e 37)).binds (ps:=["_law_steps", "_law_thing"]) fun _ _ _ _ _ _=>dD (fun _ _=>rfl)⟩,
  l_is_course_:=⟨_,_,PySem.W.mg_of X G (aV (e 38)),au (e 38),(au (e 38)).binds (ps:=["_law_course", "_law_first", "_law_end", "_law_barred"]) fun _ _ _ _ _ _=>BV (fun _ _ _ _=>rfl)⟩,
  l_shown_:=⟨_,_,PySem.W.mg_of X G (aV (e 39)),au (e 39),(au (e 39)).binds (ps:=["_law_net", "_law_begin", "_law_end", "_law_stream", "_law_thing"]) fun _ _ _ _ _ _=>EY (fun _ _ _ _ _=>rfl)⟩,
  l_leading_:=⟨_,_,PySem.W.mg_of X G (aV (e 40)),au (e 40),(au (e 40)).binds (ps:=["_law_steps", "_law_end"]) fun _ _ _ _ _ _=>dD (fun _ _=>rfl)⟩,
  l_held_all_:=⟨_,_,PySem.W.mg_of X G (aV (e 41)),au (e 41),(au (e 41)).binds (ps:=["_law_steps", "_law_places"]) fun _ _ _ _ _ _=>dD (fun _ _=>rfl)⟩,
  l_right_:=⟨_,_,PySem.W.mg_of X G (aV (e 42)),au (e 42),(au (e 42)).binds (ps:=["_law_net", "_law_begin", "_law_end", "_law_stream", "_law_found"]) fun _ _ _ _ _ _=>EY (fun _ _ _ _ _=>rfl)⟩,
  law_:=⟨_,_,PySem.W.mg_of X G (aV (e 43)),au (e 43),(au (e 43)).binds (ps:=["_law_script"]) fun _ _ _ _ _ _=>tu (fun _=>rfl)⟩ },fun s u=>?_⟩
 obtain ⟨_,_,_,_,_,_,_,_,_,z,_⟩:=(au (e 43):Ae K "law" "law" bV _ _).ex
 show BindsTo s (jE K (PySem.W.nsIn K mainGlobals "law")) _ _
 rw [z]
 exact .of_eq rfl
end K18
open PySem PySem.W PyProof.Rows
set_option maxRecDepth 100000 in
set_option maxHeartbeats 0 in
theorem PySem.Challenge.cw_gainroads_k18_betterings_told_holds : PySem.Challenge.rw_gainroads_k18_betterings_told.Holds := by
 w_on;o_law
 refine holds_openX (q:=K18.qv) (loose:=[]) (Xt:=L2.Xt) (XP:=XL K18.qv []) (Yf:=L2.Yf) (Ya:=fun _=>K18.due) (N:=2932) (L2.left_tree rfl rfl (fun _=>rfl) L2.left) (fun s e=>xl_of s (Bool.and_eq_true_iff.mp e).1) XL.keeps (by rfl) (by rfl) (by rfl) (fun s e=>recFacts_of (Bool.and_eq_true_iff.mp e).2) (by rfl) (by first | assumption | decide +kernel) (by nofun) ⟨rfl,rfl,rfl,rfl,rfl,by nofun⟩ ?hw ?hc
 case hw=>w_witness2
 refine L2.walk_ofY (obs:=K18.obs) (due:=K18.due) (l:=PySem.Challenge.rw_gainroads_k18_betterings_told) (n:=63) (k:=40) (x := "_law_script") (CX:=L2.CX0) (sp:=K18.spLaw) rfl (by decide) rfl ⟨rfl,by decide,by decide,rfl⟩ ?F ?S ?C
 case F=>
  intro K w mg fa h y KX G hmg
  obtain ⟨T,hb⟩:=K18.txt_of y KX G
  have e0:=hmg.symm.trans T.law_.m
  cases e0
  exact ⟨T.law_.d,hb,fun base kb nb=>K18.law_ok T⟩
 case S=>exact fun K H a ns hl hO hS=>K18.law_start hl hO hS
 case C=>exact fun _ _ _ _ z=>z
