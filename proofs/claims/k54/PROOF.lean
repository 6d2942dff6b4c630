import PyProof.Rows.All
import Wide.All
import OpenK.AllK
import Wide.FinOn
import Lean
import PyProof.EqAt
import PyProof.EqKinds
import PyProof.TupleCall
import PyProof.CompFree
import PyProof.CompMap
import KE.LcSums
import PyProof.ZipIter
import PyProof.Draws
import KE.KRevSl
import KE.KListMore
import PyProof.Rows.StrJoin2
import PyProof.Rows.StrFin3
import PyProof.StrOps2
import PyProof.NeData
import PyProof.P3Eq
import PyProof.StrLawsRepr
import PyProof.ReprLen
import PyProof.Rows.IntBool
import PyProof.SliceStr2
import PyProof.P3In
import PyProof.Rows.StrLen
import KE.KStrOpen
import PyProof.FitsInt
import PyProof.Rows.ReprOcc
import PyProof.ListRange
import PyProof.AttrMissHeap
import PyProof.FactsAll.zip
import PyProof.FactsAll.tuple_3
import KE.KDictOf
import PyProof.SeqRoads2
import PyProof.DictCompW
import PyProof.Rows.StrInSeq3
import OpenK.KOwn
import KE.KIsAll
import KE.KTryMore
import PyProof.StationsW
import PyProof.RulesAs
import PyProof.NsDelKeeps
import KE.KDictSum
import KE.KIntText
import PyProof.StrCalls2
import PyProof.Rows.StrItems
import PyProof.DictUpdate
import PyProof.Rows.StrSplitCount
import PyProof.Rows.StrFirst
import PyProof.Rows.StrLawsPart
import PyProof.Rows.StrDigitsNeg
import KE.IntTextLaws
import PyProof.Rows.FStr
import PyProof.SeqRoads
import PyProof.Rows.SeqMore
import KE.KEqDict
import PyProof.FactsAll.tuple_2
import PyProof.DictValues
import PyProof.FactsAll.dict_4
import PyProof.Rows.SortStr
import PyProof.CollectIter
import PyProof.FactsAll.set_1
import PyProof.FactsAll.set_2
import PySem.Challenge.RW_gainroads_k54_books_or_not
set_option Elab.async false
set_option linter.all false
set_option maxRecDepth 100000
local macro_rules | `(tactic| nofun)=>`(tactic| decide +kernel)
local macro_rules | `(⟨$xs,*⟩)=>do
 let es:=xs.getElems
 unless es.any (fun e=>match e with | `(())=>true | _=>false) do Lean.Macro.throwUnsupported
 let mut o:=#[]
 for e in es do
  match e with
  | `(())=>o:=(o.push (←`(_))).push (←`(rfl))
  | _=>o:=o.push e
 `(⟨$o,*⟩)
set_option genSizeOf false
set_option genInjectivity false
namespace L2
inductive bP {α0 α1:Type} (p:α0→α1→Prop):Prop
 | mk (a0:α0) (a1:α1) (h:p a0 a1)
inductive fP {α0 α1 α2:Type} (p:α0→α1→α2→Prop):Prop
 | mk (a0:α0) (a1:α1) (a2:α2) (h:p a0 a1 a2)
inductive xF {α0 α1 α2 α3:Type} (p:α0→α1→α2→α3→Prop):Prop
 | mk (a0:α0) (a1:α1) (a2:α2) (a3:α3) (h:p a0 a1 a2 a3)
inductive Aq {α0 α1 α2 α3 α4:Type} (p:α0→α1→α2→α3→α4→Prop):Prop
 | mk (a0:α0) (a1:α1) (a2:α2) (a3:α3) (a4:α4) (h:p a0 a1 a2 a3 a4)
inductive Kf {α0 α1 α2 α3 α4 α5:Type} (p:α0→α1→α2→α3→α4→α5→Prop):Prop
 | mk (a0:α0) (a1:α1) (a2:α2) (a3:α3) (a4:α4) (a5:α5) (h:p a0 a1 a2 a3 a4 a5)
inductive Lw {α0 α1 α2 α3 α4 α5 α6:Type} (p:α0→α1→α2→α3→α4→α5→α6→Prop):Prop
 | mk (a0:α0) (a1:α1) (a2:α2) (a3:α3) (a4:α4) (a5:α5) (a6:α6) (h:p a0 a1 a2 a3 a4 a5 a6)
inductive CP {α0 α1 α2 α3 α4 α5 α6 α7:Type} (p:α0→α1→α2→α3→α4→α5→α6→α7→Prop):Prop
 | mk (a0:α0) (a1:α1) (a2:α2) (a3:α3) (a4:α4) (a5:α5) (a6:α6) (a7:α7) (h:p a0 a1 a2 a3 a4 a5 a6 a7)
inductive LB {α0 α1 α2 α3 α4 α5 α6 α7 α8:Type} (p:α0→α1→α2→α3→α4→α5→α6→α7→α8→Prop):Prop
 | mk (a0:α0) (a1:α1) (a2:α2) (a3:α3) (a4:α4) (a5:α5) (a6:α6) (a7:α7) (a8:α8) (h:p a0 a1 a2 a3 a4 a5 a6 a7 a8)
inductive Lg {α0 α1 α2 α3 α4 α5 α6 α7 α8 α9:Type} (p:α0→α1→α2→α3→α4→α5→α6→α7→α8→α9→Prop):Prop
 | mk (a0:α0) (a1:α1) (a2:α2) (a3:α3) (a4:α4) (a5:α5) (a6:α6) (a7:α7) (a8:α8) (a9:α9) (h:p a0 a1 a2 a3 a4 a5 a6 a7 a8 a9)
inductive BA {α0 α1 α2 α3 α4 α5 α6 α7 α8 α9 α10:Type} (p:α0→α1→α2→α3→α4→α5→α6→α7→α8→α9→α10→Prop):Prop
 | mk (a0:α0) (a1:α1) (a2:α2) (a3:α3) (a4:α4) (a5:α5) (a6:α6) (a7:α7) (a8:α8) (a9:α9) (a10:α10) (h:p a0 a1 a2 a3 a4 a5 a6 a7 a8 a9 a10)
end L2
set_option genSizeOf true
set_option genInjectivity true
local macro_rules | `(tactic| trivial)=>`(tactic| first | lia | omega)
namespace L2
open PySem PySem.Spec PyProof.Rows
abbrev bc:=Sum Int Str
def qB:bc→Value→Bool
 | .inl k,v=>Value.isInt k v
 | .inr x,v=>Value.isStrOf x v
def KI (w:World):bc→Int
 | .inl k=>hashInt k
 | .inr x=>hashStr w x
theorem d0:∀{k:bc}{v:Value},qB k v=true→(bP fun i t=>k=Sum.inl i∧v=Value.int i t)∨(bP fun x t=>k=Sum.inr x∧v=Value.str x t)
 | .inl i,v,h=>by
  obtain ⟨t,e⟩:=Value.isInt_shape (k:=i) (v:=v) h
  exact .inl ⟨i,t,rfl,e⟩
 | .inr x,v,h=>by
  obtain ⟨t,e⟩:=Value.isStrOf_shape (x:=x) (v:=v) h
  exact .inr ⟨x,t,rfl,e⟩
theorem B0 (i:Int) (t:Tok):qB (.inl i) (.int i t)=true:=by simp [qB,Value.isInt]
theorem Co (x:Str) (t:Tok):qB (.inr x) (.str x t)=true:=by simp [qB,Value.isStrOf]
theorem Hf (a b:Int):decide ((Sum.inl a:bc)=Sum.inl b)=(a==b):=by
 by_cases e:a=b
 ·subst e;simp
 ·have h:¬(Sum.inl a:bc)=Sum.inl b:=fun q=>e (Sum.inl.inj q)
  rw [decide_eq_false h]
  exact (beq_eq_false_iff_ne.mpr e).symm
theorem HD (a b:Str):decide ((Sum.inr a:bc)=Sum.inr b)=decide (a=b):=by
 by_cases e:a=b
 ·subst e;simp
 ·have h:¬(Sum.inr a:bc)=Sum.inr b:=fun q=>e (Sum.inr.inj q)
  rw [decide_eq_false h,decide_eq_false e]
theorem GI (a:Int) (b:Str):decide ((Sum.inl a:bc)=Sum.inr b)=false:=decide_eq_false (fun q=>nomatch q)
theorem GZ (a:Str) (b:Int):decide ((Sum.inr a:bc)=Sum.inl b)=false:=decide_eq_false (fun q=>nomatch q)
def dU (prog:Program) (w:World):PySem.KeyKind prog w bc where
 is:=qB
 hash:=KI w
 inj:=fun v a b ha hb=>by
  rcases d0 ha with ⟨i,t,rfl,rfl⟩ | ⟨x,t,rfl,rfl⟩
  ·rcases d0 hb with ⟨j,u,rfl,e⟩ | ⟨y,u,rfl,e⟩
   ·injection e with e1 _;rw [e1]
   ·exact nomatch e
  ·rcases d0 hb with ⟨j,u,rfl,e⟩ | ⟨y,u,rfl,e⟩
   ·exact nomatch e
   ·injection e with e1 _;rw [e1]
 byValue:=fun k v h=>by
  rcases d0 h with ⟨i,t,rfl,rfl⟩ | ⟨x,t,rfl,rfl⟩ <;> rfl
 pyHash:=fun hv h=>by
  rcases d0 hv with ⟨i,t,rfl,rfl⟩ | ⟨x,t,rfl,rfl⟩
  ·exact wpAny_pyHash_int h
  ·exact wpAny_pyHash_str h
 eqBool:=fun hu hv h=>by
  rcases d0 hu with ⟨i,t,rfl,rfl⟩ | ⟨x,t,rfl,rfl⟩
  ·rcases d0 hv with ⟨j,u,rfl,rfl⟩ | ⟨y,u,rfl,rfl⟩
   ·rw [Hf] at h;exact wpAny_eqBool_int h
   ·rw [GI] at h;exact SeqAt.EqAt.int_str i t y u _ _ _ _ h
  ·rcases d0 hv with ⟨j,u,rfl,rfl⟩ | ⟨y,u,rfl,rfl⟩
   ·rw [GZ] at h;exact SeqAt.EqAt.str_int x t j u _ _ _ _ h
   ·rw [HD] at h;exact wpAny_eqBool_str h
 «strs»:=fun k x t v h=>by
  rcases d0 h with ⟨i,u,rfl,e⟩ | ⟨y,u,rfl,e⟩
  ·exact nomatch e
  ·injection e with e1 _
   subst e1
   cases v <;> rfl
inductive V where
 | non | bl (b:Bool) | int (i:Int) | str (x:Str) | byt (b:Array UInt8) | flt (b:UInt64) | ref (a:Addr) | ty (n:String)
 deriving DecidableEq
def bj:V→Value→Prop
 | .non,u=>u=Value.none
 | .bl b,u=>u=Value.bool b
 | .int i,u=>∃t,u=Value.int i t
 | .str x,u=>∃t,u=Value.str x t
 | .byt b,u=>∃t,u=Value.bytes b t
 | .flt b,u=>∃t,u=Value.float b t
 | .ref a,u=>u=Value.ref a
 | .ty n,u=>u=Value.type n
abbrev aL:List V→List Value→Prop:=Paired bj
theorem aL.length {xs:List V}{us:List Value} (r:aL xs us):xs.length=us.length:=Paired.length r
theorem aL.get:∀{xs:List V}{us:List Value}{i:Nat}{x:V},aL xs us→xs[i]?=some x→∃u,us[i]?=some u∧bj x u
 | _,_,_,_,.nil,e=>by simp at e
 | _,_,0,_,.cons r _,e=>by simp at e;subst e;exact ⟨_,rfl,r⟩
 | _,_,i+1,x,.cons _ t,e=>by
  obtain ⟨u,h1,h2⟩:=aL.get (i:=i) (x:=x) t (by simpa using e)
  exact ⟨u,by simpa using h1,h2⟩
theorem aL.set {x:V}{u:Value} (r:bj x u):∀{xs:List V}{us:List Value} (i:Nat),aL xs us→aL (xs.set i x) (us.set i u)
 | _,_,_,.nil=>.nil
 | _,_,0,.cons _ t=>.cons r t
 | _,_,i+1,.cons q t=>.cons q (aL.set r i t)
theorem aL.append:∀{xs ys:List V}{us ws:List Value},aL xs us→aL ys ws→aL (xs++ys) (us++ws)
 | _,_,_,_,.nil,s=>s
 | _,_,_,_,.cons r t,s=>.cons r (aL.append t s)
theorem aL.take:∀{xs:List V}{us:List Value} (n:Nat),aL xs us→aL (xs.take n) (us.take n)
 | _,_,0,_=>.nil
 | _,_,_+1,.nil=>.nil
 | _,_,n+1,.cons r t=>.cons r (aL.take n t)
theorem aL.drop:∀{xs:List V}{us:List Value} (n:Nat),aL xs us→aL (xs.drop n) (us.drop n)
 | _,_,0,r=>r
 | _,_,_+1,.nil=>.nil
 | _,_,n+1,.cons _ t=>aL.drop n t
def Ec:Option V→Option Value→Prop
 | some v,some u=>bj v u
 | none,none=>True
 | _,_=>False
def KV {κ:Type}:List (κ×V)→List (κ×Value)→Prop:=Paired fun (p:κ×V) (q:κ×Value)=>p.1=q.1∧bj p.2 q.2
def kV:bc→V
 | .inl i=>.int i
 | .inr x=>.str x
inductive HO where
 | lst (xs:List V)
 | tup (xs:List V)
 | dK (kvs:List (bc×V)) | dT (kvs:List (List bc×V))
 | set (S:Int→Bool) (n:Nat)
 | ins (C dx:Addr) (fs:List (Str×V))
 | own (x:Addr)
 | xd (fs:List (Str×V))
 | met (f x:Addr)
 | rng (lo hi:Int)
 | frz (o:Obj) (u:HO)
 | tbl (ps:Array Value)
 | ext (φ:Heap→Prop)
abbrev Hp:=Addr→Option HO
def aQ (H:Hp) (a:Addr) (o:HO):Hp:=fun b=>if b=a then some o else H b
theorem aE {H:Hp}{a:Addr}{o:HO}:aQ H a o a=some o:=by unfold aQ;rw [if_pos rfl]
theorem aG {H:Hp}{a b:Addr}{o:HO} (h:b≠a):aQ H a o b=H b:=by unfold aQ;rw [if_neg h]
theorem gn {H:Hp}{a b:Addr}{o u:HO} (h:H a=some o) (h':H b=some u) (d:o≠u):a≠b:=by
 intro e;subst e;rw [h] at h';exact d (Option.some.inj h')
theorem aY {H:Hp}{a b:Addr}{o:HO} (h:H a=some o) (h':H b=none):a≠b:=by
 intro e;subst e;rw [h] at h';cases h'
section
variable (P:Program) (w:World)
def bU (H:Hp) (h:Heap) (a:Addr):HO→Prop
 | .lst xs=>xs.length≤sizeLine∧bP fun (its:List Value) (n:Nat)=>aL xs its∧h.get? a=some { cls:=.type "list",data:=.seq its.toArray n }
 | .tup xs=>xs.length≤sizeLine∧∃its:List Value,aL xs its∧IsTup h a its.toArray∧∃o,h.get? a=some o∧o.dict=none
 | .dK kvs=>kvs.length≤sizeLine∧(a==sysModules)=false∧∃vs,KV kvs vs∧h.DictOf (dU P w) a vs
 | .dT kvs=>kvs.length≤sizeLine∧(a==sysModules)=false∧∃xs:List (List bc×Addr×Value),
  Paired (fun (p:List bc×V) (q:List bc×Addr×Value)=>p.1=q.1∧H q.2.1=some (.tup (p.1.map kV))∧bj p.2 q.2.2) kvs xs∧
  fP fun o es ep=>h.get? a=some o∧o.ExactDict∧o.data=.dict es ep∧es.toList=xs.map (entryOfKey (tupleKind (dU P w)))∧(xs.map (·.1)).Nodup
 | .set S n=>h.SetOf (intKind P w) a S n
 | .ins C dx fs=>H dx=some (.own a)∧fs.length≤1000∧dx≠a∧h.get? a=some (PySem.W.instObj C dx)∧
  ∃mA,h.Ns1 dx mA∧(∀f,Ec (fs.lookup f) (mA f))∧PySem.Within mA (fs.map (·.1))
 | .own _=>∃o,h.get? a=some o
 | .xd fs=>∃mA,h.Ns1 a mA∧∀f,Ec (fs.lookup f) (mA f)
 | .rng lo hi=>fP fun t u v=>h.get? a=some { cls:=.type "range",data:=.fields #[.int lo t,.int hi u,.int 1 v] }
 | .frz o u=>h.get? a=some o∧bU H h a u
 | .tbl ps=>h.get? a=some { cls:=.none,data:=.fields ps }
 | .met f x=>h.get? a=some (PySem.W.methodObj (.ref f) (.ref x))
 | .ext φ=>φ h∧(∃o,h.get? a=some o)∧∀h1 h2:Heap,φ h1→(∀o,h1.get? a=some o→h2.get? a=some o)→φ h2
def gf (H:Hp) (h:Heap):Prop:=∀a o,H a=some o→bU P w H h a o
end
section
variable {P:Program}{w:World}{H H':Hp}{h h':Heap}{a:Addr}{o:HO}
theorem bU.lt (x:bU P w H h a o):a<h.objs.size:=by
 cases o with
 | lst xs=>obtain ⟨_,_,_,_,e⟩:=x;exact Heap.lt_size e
 | tup xs=>obtain ⟨_,_,_,p,_⟩:=x;exact p.lt
 | dK kvs=>obtain ⟨_,_,_,_,o,_,_,e,_⟩:=x;exact Heap.lt_size e
 | dT kvs=>obtain ⟨_,_,_,_,o,_,_,e,_⟩:=x;exact Heap.lt_size e
 | set S n=>obtain ⟨o,_,_,_,e,_⟩:=x;exact Heap.lt_size e
 | ins C dx fs=>obtain ⟨_,_,_,e,_⟩:=x;exact Heap.lt_size e
 | own y=>obtain ⟨_,e⟩:=x;exact Heap.lt_size e
 | xd fs=>obtain ⟨_,⟨_,_,_,e,_⟩,_⟩:=x;exact Heap.lt_size e
 | rng lo hi=>obtain ⟨_,_,_,e⟩:=x;exact Heap.lt_size e
 | frz ob u=>obtain ⟨e,_⟩:=x;exact Heap.lt_size e
 | tbl ps=>exact Heap.lt_size (show h.get? a=some _ from x)
 | met f y=>exact Heap.lt_size (show h.get? a=some _ from x)
 | ext φ=>obtain ⟨_,⟨_,e⟩,_⟩:=x;exact Heap.lt_size e
theorem Paired.mapP {α β:Type}{F G:α→β→Prop}:∀{l₁:List α}{l₂:List β},Paired F l₁ l₂→(∀a b,F a b→G a b)→Paired G l₁ l₂
 | _,_,.nil,_=>.nil
 | _,_,.cons r t,f=>.cons (f _ _ r) (Paired.mapP t f)
theorem bU.stay (x:bU P w H h a o) (k:∀b u,(b=a∨H b=some (.own a))→h.get? b=some u→h'.get? b=some u)
 (ho:∀b,H b=some (.own a)→H' b=some (.own a)) (ht:∀b xs,H b=some (.tup xs)→H' b=some (.tup xs)):bU P w H' h' a o:=by
 induction o with
 | lst xs=>obtain ⟨z,its,n,r,e⟩:=x;exact ⟨z,its,n,r,k _ _ (.inl rfl) e⟩
 | tup xs=>obtain ⟨z,its,r,⟨ob,e,c⟩,od,e',c'⟩:=x;exact ⟨z,its,r,⟨ob,k _ _ (.inl rfl) e,c⟩,od,k _ _ (.inl rfl) e',c'⟩
 | dK kvs=>obtain ⟨z,y,vs,r,ob,es,ep,e,c⟩:=x;exact ⟨z,y,vs,r,ob,es,ep,k _ _ (.inl rfl) e,c⟩
 | dT kvs=>
  obtain ⟨z,y,xs,r,ob,es,ep,e,c⟩:=x
  exact ⟨z,y,xs,Paired.mapP r fun p q z=>⟨z.1,ht _ _ z.2.1,z.2.2⟩,ob,es,ep,k _ _ (.inl rfl) e,c⟩
 | set S n=>obtain ⟨ob,es,ep,t,e,c⟩:=x;exact ⟨ob,es,ep,t,k _ _ (.inl rfl) e,c⟩
 | ins C dx fs=>
  obtain ⟨d,z,ne,e,mA,⟨od,es,ep,e2,c⟩,r⟩:=x
  exact ⟨ho _ d,z,ne,k _ _ (.inl rfl) e,mA,⟨od,es,ep,k _ _ (.inr d) e2,c⟩,r⟩
 | own y=>obtain ⟨ob,e⟩:=x;exact ⟨ob,k _ _ (.inl rfl) e⟩
 | xd fs=>obtain ⟨mA,⟨od,es,ep,e,c⟩,r⟩:=x;exact ⟨mA,⟨od,es,ep,k _ _ (.inl rfl) e,c⟩,r⟩
 | rng lo hi=>obtain ⟨t,u,v,e⟩:=x;exact ⟨t,u,v,k _ _ (.inl rfl) e⟩
 | frz ob u ih=>obtain ⟨e,q⟩:=x;exact ⟨k _ _ (.inl rfl) e,ih q⟩
 | tbl ps=>
  have e:h.get? a=some { cls:=.none,data:=.fields ps }:=x
  show h'.get? a=some { cls:=.none,data:=.fields ps }
  exact k a _ (.inl rfl) e
 | met f y=>
  have e:h.get? a=some (PySem.W.methodObj (.ref f) (.ref y)):=x
  show h'.get? a=some (PySem.W.methodObj (.ref f) (.ref y))
  exact k a _ (.inl rfl) e
 | ext φ=>obtain ⟨p,⟨o,e⟩,st⟩:=x;exact ⟨st _ _ p fun o q=>k _ _ (.inl rfl) q,⟨o,k _ _ (.inl rfl) e⟩,st⟩
theorem gf.lt (x:gf P w H h) (e:H a=some o):a<h.objs.size:=(x a o e).lt
theorem gf.fresh (x:gf P w H h) (e:h.objs.size≤a):H a=none:=by
 cases q:H a with
 | none=>rfl
 | some u=>exact absurd (Nat.lt_of_lt_of_le (x.lt q) e) (Nat.lt_irrefl _)
theorem gf.kept (x:gf P w H h) (k:∀b u,h.get? b=some u→h'.get? b=some u):gf P w H h':=fun a o e=>
 (x a o e).stay (fun b u _ q=>k b u q) (fun _ q=>q) fun _ _ q=>q
theorem gf.laid (x:gf P w H h) (k:∀b u,h.get? b=some u→h'.get? b=some u) (hp:h.objs.size≤a) (new:bU P w (aQ H a o) h' a o):gf P w (aQ H a o) h':=fun b u e=>by
 have hn:=x.fresh hp
 by_cases hb:b=a
 ·subst hb;rw [aE] at e;cases e;exact new
 ·rw [aG hb] at e
  exact (x b u e).stay (fun c v _ q=>k c v q) (fun c q=>by rw [aG (aY q hn)];exact q) fun c xs q=>by rw [aG (aY q hn)];exact q
end
def Rd (H:Hp) (a:Addr) (u:HO):Prop:=H a=some u∨∃o,H a=some (.frz o u)
theorem Rd.ok {P:Program}{w:World}{H:Hp}{h:Heap}{a:Addr}{u:HO} (r:Rd H a u) (x:gf P w H h):bU P w H h a u:=by
 rcases r with r | ⟨o,r⟩
 ·exact x a u r
 ·obtain ⟨_,q⟩:=x a _ r
  exact q
def EC:Option HO→Prop
 | some (.lst _)=>True
 | some (.dK _)=>True
 | some (.dT _)=>True
 | some (.set _ _)=>True
 | some (.ins _ _ _)=>True
 | some (.ext _)=>True
 | _=>False
section
variable {P:Program}{w:World}{H:Hp}{h h':Heap}{x e:Addr}{o':HO}
theorem gf.write (ok:gf P w H h) (mu:EC (H x)) (he:e=x∨H e=some (.own x)) (k:∀b u,b≠e→h.get? b=some u→h'.get? b=some u) (heo:∃u,h'.get? e=some u)
 (new:bU P w (aQ H x o') h' x o'):gf P w (aQ H x o') h':=fun b u q=>by
 have nown:∀c y,H c=some (.own y)→c≠x:=fun c y r z=>by subst z;rw [r] at mu;exact mu
 have ntup:∀c xs,H c=some (.tup xs)→c≠x:=fun c xs r z=>by subst z;rw [r] at mu;exact mu
 by_cases hb:b=x
 ·subst hb;rw [aE] at q;cases q;exact new
 ·rw [aG hb] at q
  by_cases hbe:b=e
  ·have q':H b=some (.own x):=by
    rcases he with z | z
    ·exact absurd (hbe.trans z) hb
    ·rw [hbe];exact z
   rw [q] at q';cases q'
   obtain ⟨v,hv⟩:=heo
   exact ⟨v,by rw [hbe];exact hv⟩
  ·refine (ok b u q).stay (fun c v hc r=>k c v ?_ r) (fun c r=>by rw [aG (nown c b r)];exact r) fun c xs r=>by rw [aG (ntup c xs r)];exact r
   rcases hc with rfl | hc
   ·exact hbe
   ·rintro rfl
    rcases he with z | z
    ·exact nown c b hc z
    ·rw [hc] at z;cases z;exact hb rfl
end
structure Un (fs ex:List Addr) (H H':Hp) (h h':Heap):Prop where
 keep:∀b o,h.get? b=some o→H b=none→b∉fs→b∉ex→h'.get? b=some o
 slot:∀b o,h.get? b=some o→H b=none→b∈fs→b∉ex→∃sl,h'.get? b=some { o with slots:=sl }
 free:∀b o,h.get? b=some o→H b=none→b∉ex→H' b=none
 there:∀b o,h.get? b=some o→b∉ex→∃o',h'.get? b=some o'
 tups:∀b xs,H b=some (.tup xs)→H' b=some (.tup xs)
 frzs:∀b o u,H b=some (.frz o u)→H' b=some (.frz o u)
 tbls:∀b ps,H b=some (.tbl ps)→∃more,H' b=some (.tbl (ps++more))
section
variable {fs fs' ex ex':List Addr}{H H1 H2:Hp}{h h1 h2 h':Heap}{a x e:Addr}{o:HO}
theorem Un.any (u:Un fs ex H H1 h h1) {b:Addr}{ob:Obj} (q:h.get? b=some ob) (n:H b=none) (hx:b∉ex):∃sl,h1.get? b=some { ob with slots:=sl }:=by
 by_cases hb:b∈fs
 ·exact u.slot b ob q n hb hx
 ·exact ⟨ob.slots,u.keep b ob q n hb hx⟩
theorem Un.kept (k:∀b u,h.get? b=some u→h'.get? b=some u):Un fs ex H H h h':=
 ⟨fun b ob q _ _ _=>k b ob q,fun b ob q _ _ _=>⟨ob.slots,k b ob q⟩,fun _ _ _ n _=>n,fun b ob q _=>⟨ob,k b ob q⟩,fun _ _ q=>q,fun _ _ _ q=>q,fun _ ps q=>⟨#[],by rw [q];simp⟩⟩
theorem Un.refl:Un fs ex H H h h:=Un.kept fun _ _ q=>q
theorem Un.laid (k:∀b u,h.get? b=some u→h'.get? b=some u) (hp:h.objs.size≤a) (hn:H a=none):Un fs ex H (aQ H a o) h h' where
 keep:=fun b u q _ _ _=>k b u q
 slot:=fun b u q _ _ _=>⟨u.slots,k b u q⟩
 free:=fun b u q n _=>by rw [aG (Nat.ne_of_lt (Nat.lt_of_lt_of_le (Heap.lt_size q) hp))];exact n
 there:=fun b u q _=>⟨u,k b u q⟩
 tups:=fun b xs q=>by rw [aG (aY q hn)];exact q
 frzs:=fun b u xs q=>by rw [aG (aY q hn)];exact q
 tbls:=fun b ps q=>⟨#[],by rw [aG (aY q hn),q];simp⟩
theorem Un.write (mu:EC (H x)) (he:e=x∨H e=some (.own x)) (k:∀b u,b≠e→h.get? b=some u→h'.get? b=some u) (heo:∃u,h'.get? e=some u):Un fs ex H (aQ H x o) h h':=by
 have hx:∀b,H b=none→b≠x:=fun b n z=>by subst z;rw [n] at mu;exact mu
 have hb:∀b,H b=none→b≠e:=fun b n z=>by
  subst z
  rcases he with r | r
  ·exact hx b n r
  ·rw [n] at r;cases r
 have hm:∀b u,H b=some u→¬EC (some u)→b≠x:=fun b u q nm z=>by subst z;rw [q] at mu;exact nm mu
 refine ⟨fun b u q n _ _=>k b u (hb b n) q,fun b u q n _ _=>⟨u.slots,k b u (hb b n) q⟩,fun b u q n _=>by rw [aG (hx b n)];exact n,fun b u q _=>?_,
  fun b xs q=>by rw [aG (hm b _ q fun z=>z)];exact q,fun b u xs q=>by rw [aG (hm b _ q fun z=>z)];exact q,fun b ps q=>⟨#[],by rw [aG (hm b _ q fun z=>z),q];simp⟩⟩
 by_cases hbe:b=e
 ·subst hbe;exact heo
 ·exact ⟨u,k b u hbe q⟩
end
def ES (h:Heap) (H:Hp):List Addr:=(List.range h.objs.size).filter fun a=>(H a).isSome
def qu (h:Heap) (H:Hp):Heap:=PySem.W.hideAll h (ES h H)
theorem CI (h:Heap) (H:Hp):(qu h H).objs.size=h.objs.size:=PySem.W.hideAll_size _ _
theorem En {h:Heap}{H:Hp}{b:Addr}{o:Obj} (e:h.get? b=some o) (n:H b=none):(qu h H).get? b=some o:=
 PySem.W.hideAll_get _ e fun hm=>by
  have q:(H b).isSome=true:=(List.mem_filter.mp hm).2
  rw [n] at q;simp at q
theorem FN {h:Heap}{H:Hp}{b:Addr}{o:Obj} (e:(qu h H).get? b=some o):h.get? b=some o∧H b=none:=by
 have e':h.get? b=some o:=PySem.W.of_hideAll (ES h H) e
 refine ⟨e',?_⟩
 cases q:H b with
 | none=>rfl
 | some x=>
  have hm:b∈ES h H:=List.mem_filter.mpr ⟨List.mem_range.mpr (Heap.lt_size e'),by simp [q]⟩
  have z:(qu h H).get? b=none:=PySem.W.hideAll_none (ES h H) hm
  rw [z] at e;cases e
structure Mod (K:PySem.W.Frag) (mg:Str→Option Value) (base:Heap):Prop where
 kin:K.In base
 glob:base.Ns mainGlobals mg
 blt:∃mb,base.Ns builtinsNs mb∧∀x:Str,x≠"__name__"→mb x=bootBuiltins x
 nolimit:base.NoLimit
structure Cx where
 prog:Program
 w:World
 K:PySem.W.Frag
 mg:Str→Option Value
 base:Heap
 A:Around
 N:List Str
 s₀:Shared
 H₀:Hp
 env:Env
 outer:List Env
 stack:List Env
 ex:List Addr
 fn:Str→Bool
 calm:Bool
 pn:List (Addr×Obj)
 xe:Value→Shared→Prop
def iJ (l:List Env):List Addr:=l.filterMap (·.frame)
abbrev Cx.fs (X:Cx):List Addr:=iJ X.outer
def ER (sc:Scope) (x:Str):Prop:=sc.names.lookup x=some .local∨sc.names.lookup x=some .cell∨sc.names.lookup x=some .free
def E6 (sc:Scope) (x:Str):Prop:=sc.names.lookup x=some .local∨sc.names.lookup x=some .cell
def Ld (env:Env) (h:Heap) (m:Str→Option Value) (x:Str) (u:Value):Prop:=
 (env.kindOf x=some .local∧m x=some u)∨((env.kindOf x=some .cell∨env.kindOf x=some .free)∧∃c,env.cells.lookup x=some c∧h.IsCell c (some u))
structure Cx.Ok (X:Cx):Prop where
 mod:Mod X.K X.mg X.base
 kind:X.env.scope.kind=.function
 glob:X.env.globals=mainGlobals
 blt:X.env.builtins=builtinsNs
 above:X.s₀.heap.objs.size≤X.env.locals
 inj:∀x y c,X.env.cells.lookup x=some c→X.env.cells.lookup y=some c→x=y
 has:∀x,(X.env.kindOf x=some .cell∨X.env.kindOf x=some .free)→∃c,X.env.cells.lookup x=some c
 cab:∀x c,X.fn x=true→X.env.cells.lookup x=some c→X.s₀.heap.objs.size≤c
 hd:X.calm=true→X.A.handled=none
 frames:X.A.frames=some X.stack
 stk:X.stack=X.outer∨(X.stack=X.env :: X.outer∧X.env.frame=some X.env.locals)
 exf:∀b∈X.ex,b≠X.env.locals∧∀x c,X.env.cells.lookup x=some c→c≠b
 bs:∀b o,X.base.get? b=some o→X.s₀.heap.get? b=some o∧X.H₀ b=none
 bsz:X.base.objs.size≤X.s₀.heap.objs.size
 noex:∀b o,X.base.get? b=some o→b∉X.ex
 exfs:∀b∈X.ex,b∉X.fs
 funs:X.s₀.heap.FunFrames X.base X.outer
 frf:∀b∈X.fs,X.H₀ b=none
structure ag (X:Cx) (pins:List (Addr×Obj)) (σ:List (Option V)) (H:Hp) (s:Shared):Prop where
 ok:X.Ok
 os:s.os=X.s₀.os
 bare:AllBare s.gens
 base:Un X.fs X.ex X.H₀ H X.s₀.heap s.heap
 loc:∃m,s.heap.Ns X.env.locals m∧∀(i:Nat) (x:Str) (v:V),X.N[i]?=some x→σ[i]?=some (some v)→ER X.env.scope x→∃u,bj v u∧Ld X.env s.heap m x u
 cell:∀x c,X.env.cells.lookup x=some c→∃v,s.heap.IsCell c v
 free:H X.env.locals=none
 freeC:∀x c,X.env.cells.lookup x=some c→H c=none
 pin:∀p∈X.pn++pins,s.heap.get? p.1=some p.2∧H p.1=none∧p.1≠X.env.locals∧p.1∉X.fs∧∀v,p.2.data≠.cell v
 hok:gf X.prog X.w H s.heap
 len:σ.length=X.N.length
section
variable {X:Cx}{pins:List (Addr×Obj)}{σ:List (Option V)}{H H':Hp}{s:Shared}{h':Heap}
theorem Cx.Ok.nofr (ok:X.Ok) {b:Addr}{o:Obj} (e:X.base.get? b=some o):b∉X.fs:=fun hb=>by
 have:=(ok.funs.mem hb).1
 rw [e] at this;cases this
theorem ag.bs (I:ag X pins σ H s):∀b o,X.base.get? b=some o→s.heap.get? b=some o∧H b=none:=fun b o e=>
 ⟨I.base.keep b o (I.ok.bs b o e).1 (I.ok.bs b o e).2 (I.ok.nofr e) (I.ok.noex b o e),I.base.free b o (I.ok.bs b o e).1 (I.ok.bs b o e).2 (I.ok.noex b o e)⟩
theorem ag.bk (I:ag X pins σ H s):∀b o,X.base.get? b=some o→s.heap.get? b=some o:=fun b o e=>(I.bs b o e).1
theorem ag.mod (I:ag X pins σ H s):Mod X.K X.mg X.base:=I.ok.mod
theorem ag.kIn (I:ag X pins σ H s):X.K.In s.heap:=I.ok.mod.kin.keeps I.bk
theorem ag.lt (I:ag X pins σ H s):X.env.locals<s.heap.objs.size:=let ⟨_,hn,_⟩:=I.loc;hn.lt
theorem ag.sz (I:ag X pins σ H s):X.s₀.heap.objs.size≤s.heap.objs.size:=Nat.le_trans I.ok.above (Nat.le_of_lt I.lt)
theorem ag.nofs (I:ag X pins σ H s) {a:Addr} (h:s.heap.objs.size≤a):a∉X.fs:=fun hb=>by
 obtain ⟨_,o,ho,_⟩:=I.ok.funs.mem hb
 exact absurd (Nat.lt_of_lt_of_le (Heap.lt_size ho) (Nat.le_trans I.sz h)) (Nat.lt_irrefl _)
theorem ag.cne (I:ag X pins σ H s):∀x c,X.env.cells.lookup x=some c→c≠X.env.locals:=fun x c e z=>by
 obtain ⟨v,o,ho,hd⟩:=I.cell x c e
 obtain ⟨m,⟨o',es,ep,ho',hd',_⟩,_⟩:=I.loc
 rw [z,ho'] at ho;cases ho;rw [hd'] at hd;cases hd
theorem ag.funs (I:ag X pins σ H s):s.heap.FunFrames X.base X.outer:=by
 have all:∀(l:List Env),(∀b∈iJ l,b∈X.fs)→X.s₀.heap.FunFrames X.base l→s.heap.FunFrames X.base l:=by
  intro l
  induction l with
  | nil=>intro _ _;trivial
  | cons env r ih=>
   intro hs hl
   obtain ⟨hk,⟨L,o,hf,hn,ho,hd⟩,hr⟩:=hl
   have hL:L∈X.fs:=hs L (by unfold iJ;rw [List.filterMap_cons,hf];exact List.mem_cons_self)
   obtain ⟨sl,e⟩:=I.base.slot L o ho (I.ok.frf L hL) hL fun z=>I.ok.exfs L z hL
   exact ⟨hk,⟨L,_,hf,hn,e,hd⟩,ih (fun b hb=>hs b (by unfold iJ;rw [List.filterMap_cons,hf];exact List.mem_cons_of_mem _ hb)) hr⟩
 exact all X.outer (fun _ hb=>hb) I.ok.funs
theorem ag.stack (I:ag X pins σ H s):s.heap.FunFrames X.base X.stack:=by
 rcases I.ok.stk with e | ⟨e,hf⟩
 ·rw [e];exact I.funs
 ·rw [e]
  obtain ⟨m,hn,_⟩:=I.loc
  refine .cons (by rw [I.ok.kind];decide) hf hn ?_ I.funs
  exact Heap.get?_none_of_le (Nat.le_trans I.ok.bsz I.ok.above)
theorem ag.stkSub (I:ag X pins σ H s):∀b∈iJ X.stack,b∈X.env.locals :: X.fs:=fun b hb=>by
 rcases I.ok.stk with e | ⟨e,hf⟩
 ·rw [e] at hb;exact List.mem_cons_of_mem _ hb
 ·rw [e] at hb
  unfold iJ at hb
  rw [List.filterMap_cons,hf] at hb
  exact hb
theorem ag.stkFree (I:ag X pins σ H s):∀b∈iJ X.stack,H b=none:=fun b hb=>by
 rcases List.mem_cons.mp (I.stkSub b hb) with e | hb
 ·rw [e];exact I.free
 ·obtain ⟨_,o,ho,_⟩:=I.ok.funs.mem hb
  exact I.base.free b o ho (I.ok.frf b hb) fun z=>I.ok.exfs b z hb
theorem ag.step {g':Array GenState}{t':Nat}{d':Drawn}{ch:List Addr} (I:ag X pins σ H s)
 (hch:∀b∈ch,(b∈X.ex∨X.s₀.heap.objs.size≤b)∧b≠X.env.locals∧(∀x c,X.env.cells.lookup x=some c→c≠b)∧∀p∈X.pn++pins,p.1≠b)
 (keep:∀b o,b≠X.env.locals→b∉X.fs→b∉ch→s.heap.get? b=some o→H b=none→h'.get? b=some o)
 (slot:∀b o,b≠X.env.locals→b∈X.fs→b∉ch→s.heap.get? b=some o→H b=none→∃sl,h'.get? b=some { o with slots:=sl }) (free:∀b o,b∉ch→s.heap.get? b=some o→H b=none→H' b=none)
 (there:∀b o,b∉ch→s.heap.get? b=some o→∃o',h'.get? b=some o')
 (tups:∀b xs,H b=some (.tup xs)→H' b=some (.tup xs)) (frzs:∀b o u,H b=some (.frz o u)→H' b=some (.frz o u)) (tbls:∀b ps,H b=some (.tbl ps)→∃more,H' b=some (.tbl (ps++more)))
 (ns:∀m,s.heap.Ns X.env.locals m→h'.Ns X.env.locals m) (hok:gf X.prog X.w H' h') (hg:AllBare g') :
 ag X pins σ H' { s with heap:=h',gens:=g',drawn:=d',toks:=t' }:=by
 have neL:∀b o,X.s₀.heap.get? b=some o→b≠X.env.locals:=fun b o e=>Nat.ne_of_lt (Nat.lt_of_lt_of_le (Heap.lt_size e) I.ok.above)
 have neC:∀b o,X.s₀.heap.get? b=some o→b∉X.ex→b∉ch:=fun b o e hx hb=>by
  rcases (hch b hb).1 with z | z
  ·exact hx z
  ·exact absurd (Nat.lt_of_lt_of_le (Heap.lt_size e) z) (Nat.lt_irrefl _)
 have cellK:∀x c,X.env.cells.lookup x=some c→∀v,s.heap.IsCell c v→h'.IsCell c v:=fun x c e v ⟨o,ho,hd⟩=>by
  have nch:c∉ch:=fun z=>(hch c z).2.2.1 x c e rfl
  by_cases hc:c∈X.fs
  ·obtain ⟨sl,q⟩:=slot c o (I.cne x c e) hc nch ho (I.freeC x c e)
   exact ⟨_,q,hd⟩
  ·exact ⟨o,keep c o (I.cne x c e) hc nch ho (I.freeC x c e),hd⟩
 refine ⟨I.ok,I.os,hg,⟨fun b o e n hb hx=>?_,fun b o e n hb hx=>?_,fun b o e n hx=>?_,fun b o e hx=>?_,fun b xs e=>tups b xs (I.base.tups b xs e),fun b o xs e=>frzs b o xs (I.base.frzs b o xs e),fun b ps e=>?_⟩,?_,fun x c e=>?_,?_,fun x c e=>?_,fun p hp=>?_,hok,I.len⟩
 ·exact keep b o (neL b o e) hb (neC b o e hx) (I.base.keep b o e n hb hx) (I.base.free b o e n hx)
 ·obtain ⟨sl,e1⟩:=I.base.slot b o e n hb hx
  obtain ⟨sl',e2⟩:=slot b _ (neL b o e) hb (neC b o e hx) e1 (I.base.free b o e n hx)
  exact ⟨sl',e2⟩
 ·obtain ⟨o',e1⟩:=I.base.there b o e hx
  exact free b o' (neC b o e hx) e1 (I.base.free b o e n hx)
 ·obtain ⟨o',e1⟩:=I.base.there b o e hx
  exact there b o' (neC b o e hx) e1
 ·obtain ⟨m1,e1⟩:=I.base.tbls b ps e
  obtain ⟨m2,e2⟩:=tbls b _ e1
  exact ⟨m1++m2,by rw [e2,Array.append_assoc]⟩
 ·obtain ⟨m,hn,hl⟩:=I.loc
  refine ⟨m,ns m hn,fun i x v e1 e2 e3=>?_⟩
  obtain ⟨u,r,l⟩:=hl i x v e1 e2 e3
  refine ⟨u,r,?_⟩
  rcases l with l | ⟨k,c,e,z⟩
  ·exact .inl l
  ·exact .inr ⟨k,c,e,cellK x c e _ z⟩
 ·obtain ⟨v,z⟩:=I.cell x c e
  exact ⟨v,cellK x c e v z⟩
 ·obtain ⟨m,⟨o,_,_,ho,_⟩,_⟩:=I.loc
  exact free _ o (fun z=>(hch _ z).2.1 rfl) ho I.free
 ·obtain ⟨v,o,ho,hd⟩:=I.cell x c e
  exact free c o (fun z=>(hch c z).2.2.1 x c e rfl) ho (I.freeC x c e)
 ·obtain ⟨e,n,ne,nf,d⟩:=I.pin p hp
  have nch:p.1∉ch:=fun z=>(hch p.1 z).2.2.2 p hp rfl
  exact ⟨keep p.1 p.2 ne nf nch e n,free p.1 p.2 nch e n,ne,nf,d⟩
theorem ag.un {t':Nat} (I:ag X pins σ H s) (u:Un X.fs [] H H' s.heap h') (hok:gf X.prog X.w H' h'):ag X pins σ H' { s with heap:=h',toks:=t' }:=by
 obtain ⟨m,⟨o,es,ep,ho,r⟩,_⟩:=id I.loc
 obtain ⟨sl,hL⟩:=u.any ho I.free (by simp)
 exact I.step (g':=s.gens) (d':=s.drawn) (ch:=[]) (fun _ z=>nomatch z) (fun b o _ hb _ e n=>u.keep b o e n hb (by simp)) (fun b o _ hb _ e n=>u.slot b o e n hb (by simp)) (fun b o _ e n=>u.free b o e n (by simp)) (fun b o _ e=>u.there b o e (by simp)) u.tups u.frzs u.tbls (fun m' hm=>by
  obtain ⟨o',es',ep',ho',r'⟩:=hm
  rw [ho] at ho';cases ho'
  exact ⟨_,es',ep',hL,r'⟩) hok I.bare
theorem ag.call {g':Array GenState}{t':Nat}{d':Drawn}{ch:List Addr} (I:ag X pins σ H s) (u:Un (iJ X.stack) ch H H' s.heap h') (hok:gf X.prog X.w H' h') (hg:AllBare g')
 (hch:∀b∈ch,(b∈X.ex∨X.s₀.heap.objs.size≤b)∧b≠X.env.locals∧(∀x c,X.env.cells.lookup x=some c→c≠b)∧∀p∈X.pn++pins,p.1≠b) :
 ag X pins σ H' { s with heap:=h',gens:=g',drawn:=d',toks:=t' }:=by
 obtain ⟨m,⟨o,es,ep,ho,r⟩,_⟩:=id I.loc
 obtain ⟨sl,hL⟩:=u.any ho I.free fun z=>(hch _ z).2.1 rfl
 exact I.step (ch:=ch) hch (fun b o hL hb hc e n=>u.keep b o e n (fun z=>(List.mem_cons.mp (I.stkSub b z)).elim hL hb) hc) (fun b o _ _ hc e n=>u.any e n hc) (fun b o hc e n=>u.free b o e n hc) (fun b o hc e=>u.there b o e hc) u.tups u.frzs u.tbls (fun m' hm=>by
  obtain ⟨o',es',ep',ho',r'⟩:=hm
  rw [ho] at ho';cases ho'
  exact ⟨_,es',ep',hL,r'⟩) hok hg
theorem ag.turned {t':Nat}{it:Addr} (I:ag X pins σ H s) (k:∀b o,b≠it→s.heap.get? b=some o→h'.get? b=some o) (hn:H it=none) (hL:it≠X.env.locals)
 (h1:it∈X.ex∨X.s₀.heap.objs.size≤it) (h2:∀x c,X.env.cells.lookup x=some c→c≠it) (h3:∀p∈X.pn++pins,p.1≠it):ag X pins σ H { s with heap:=h',toks:=t' }:=by
 have nit:∀b u,H b=some u→b≠it:=fun b u e z=>by rw [z,hn] at e;cases e
 refine I.step (g':=s.gens) (d':=s.drawn) (ch:=[it]) (fun b hb=>?_) (fun b o _ _ hc e _=>k b o (fun z=>hc (by simp [z])) e) (fun b o _ _ hc e _=>⟨o.slots,k b o (fun z=>hc (by simp [z])) e⟩) (fun _ _ _ _ n=>n)
  (fun b o hc e=>⟨o,k b o (fun z=>hc (by simp [z])) e⟩) (fun _ _ e=>e) (fun _ _ _ e=>e) (fun b ps e=>⟨#[],by rw [e];simp⟩) (fun m hm=>?_) (fun b u e=>?_) I.bare
 ·have e:b=it:=by simpa using hb
  subst e
  exact ⟨h1,hL,h2,h3⟩
 ·obtain ⟨o,es,ep,ho,r⟩:=hm
  exact ⟨o,es,ep,k _ o (Ne.symm hL) ho,r⟩
 ·refine (I.hok b u e).stay (fun c v hc q=>k c v ?_ q) (fun _ q=>q) fun _ _ q=>q
  rcases hc with z | z
  ·rw [z];exact nit b u e
  ·exact nit c _ z
theorem ag.tok (I:ag X pins σ H s) (t:Nat):ag X pins σ H { s with toks:=t }:=I.un (h':=s.heap) (t':=t) Un.refl I.hok
theorem ag.kept {t':Nat} (I:ag X pins σ H s) (k:∀b u,s.heap.get? b=some u→h'.get? b=some u):ag X pins σ H { s with heap:=h',toks:=t' }:=I.un (Un.kept k) (I.hok.kept k)
theorem ag.laid {a:Addr}{o:HO}{t':Nat} (I:ag X pins σ H s) (k:∀b u,s.heap.get? b=some u→h'.get? b=some u) (hp:s.heap.objs.size≤a) (new:bU X.prog X.w (aQ H a o) h' a o) :
 ag X pins σ (aQ H a o) { s with heap:=h',toks:=t' }:=I.un (Un.laid k hp (I.hok.fresh hp)) (I.hok.laid k hp new)
theorem ag.write {x e:Addr}{o:HO}{t':Nat} (I:ag X pins σ H s) (mu:EC (H x)) (he:e=x∨H e=some (.own x)) (k:∀b u,b≠e→s.heap.get? b=some u→h'.get? b=some u) (heo:∃u,h'.get? e=some u)
 (new:bU X.prog X.w (aQ H x o) h' x o):ag X pins σ (aQ H x o) { s with heap:=h',toks:=t' }:=I.un (Un.write mu he k heo) (I.hok.write mu he k heo new)
theorem ag.weak {σ':List (Option V)} (I:ag X pins σ H s) (hl:σ'.length=σ.length) (w:∀(i:Nat) v,σ'[i]?=some (some v)→σ[i]?=some (some v)):ag X pins σ' H s:=
 ⟨I.ok,I.os,I.bare,I.base,let ⟨m,hn,hl'⟩:=I.loc;⟨m,hn,fun i x v e1 e2 e3=>hl' i x v e1 (w i v e2) e3⟩,I.cell,I.free,I.freeC,I.pin,I.hok,hl.trans I.len⟩
theorem ag.pins_of {pins':List (Addr×Obj)} (I:ag X pins σ H s) (h:∀p∈pins',s.heap.get? p.1=some p.2∧H p.1=none∧p.1≠X.env.locals∧p.1∉X.fs∧∀v,p.2.data≠.cell v):ag X pins' σ H s:=
 ⟨I.ok,I.os,I.bare,I.base,I.loc,I.cell,I.free,I.freeC,fun p hp=>(List.mem_append.mp hp).elim (fun z=>I.pin p (List.mem_append_left _ z)) (h p),I.hok,I.len⟩
theorem yx {N:List Str} (hN:N.Nodup) {i j:Nat}{x:Str} (a:N[i]?=some x) (b:N[j]?=some x):i=j:=by
 obtain ⟨h1,e1⟩:=List.getElem?_eq_some_iff.mp a
 obtain ⟨h2,e2⟩:=List.getElem?_eq_some_iff.mp b
 exact (List.getElem_inj hN).mp (e1.trans e2.symm)
theorem xq {M:Model}{A:Around}{E:Value→Shared→Prop}{i:Nat}{x:Str}{v:V}{u:Value}{Q:Unit→Shared→Prop} (I:ag X pins σ H s) (hN:X.N.Nodup) (hi:X.N[i]?=some x) (hx:E6 X.env.scope x) (r:bj v u)
 (h:∀s',ag X pins (σ.set i (some v)) H s'→(∃a,Heap.SameBut a s.heap s'.heap∧(a=X.env.locals∨X.env.cells.lookup x=some a))→Q () s') (hf:X.fn x=true∨X.env.scope.names.lookup x=some .local:=by first | exact .inl rfl | exact .inr rfl | assumption):wpAny M A (storeName X.env x u) Q E s:=by
 obtain ⟨m,hn,hl⟩:=id I.loc
 have hcls:(X.env.scope.kind==.class || (X.env.scope.kind==.module && X.env.locals != X.env.globals))=false:=by rw [I.ok.kind];rfl
 have hiσ:i<σ.length:=by rw [I.len];exact (List.getElem?_eq_some_iff.mp hi).1
 have cne:=I.cne
 have tracked:∀{a:Addr}{h':Heap},(∃o,s.heap.get? a=some o∧H a=none)→Heap.SameBut a s.heap h'→gf X.prog X.w H h':=fun {a h'} ha hs b ob e=>by
  obtain ⟨_,_,hfree⟩:=ha
  refine (I.hok b ob e).stay (fun c w' hc q=>(hs.2 c ?_).trans q) (fun _ q=>q) fun _ _ q=>q
  rintro rfl
  rcases hc with rfl | hc
  ·rw [hfree] at e;cases e
  ·rw [hfree] at hc;cases hc
 rcases hx with hk | hk
 ·refine wpAny_storeName_local hk hn (fun h' hn' hs=>?_) hcls
  obtain ⟨oL,_,_,hoL,_⟩:=id hn
  refine h _ ⟨I.ok,I.os,I.bare,⟨fun b o e n hb hx=>?_,fun b o e n hb hx=>?_,I.base.free,fun b o e hx=>?_,I.base.tups,I.base.frzs,I.base.tbls⟩,⟨_,hn',fun j y v' e1 e2 e3=>?_⟩,fun y c e=>?_,I.free,I.freeC,fun p hp=>?_,tracked ⟨oL,hoL,I.free⟩ hs,by simpa using I.len⟩ ⟨_,hs,.inl rfl⟩
  ·exact (hs.2 b (Nat.ne_of_lt (Nat.lt_of_lt_of_le (Heap.lt_size e) I.ok.above))).trans (I.base.keep b o e n hb hx)
  ·obtain ⟨sl,e1⟩:=I.base.slot b o e n hb hx
   exact ⟨sl,(hs.2 b (Nat.ne_of_lt (Nat.lt_of_lt_of_le (Heap.lt_size e) I.ok.above))).trans e1⟩
  ·obtain ⟨o',e1⟩:=I.base.there b o e hx
   exact ⟨o',(hs.2 b (Nat.ne_of_lt (Nat.lt_of_lt_of_le (Heap.lt_size e) I.ok.above))).trans e1⟩
  ·by_cases hj:j=i
   ·subst hj
    rw [hi] at e1;cases e1
    rw [List.getElem?_set_self hiσ] at e2
    cases e2
    exact ⟨u,r,.inl ⟨hk,by simp⟩⟩
   ·rw [List.getElem?_set_ne (Ne.symm hj)] at e2
    obtain ⟨u',r',q⟩:=hl j y v' e1 e2 e3
    refine ⟨u',r',?_⟩
    rcases q with ⟨k,e⟩ | ⟨k,c,e,z⟩
    ·refine .inl ⟨k,?_⟩
     have:y≠x:=fun e=>hj (yx hN e1 (e▸hi))
     simp [this,e]
    ·exact .inr ⟨k,c,e,z.sameBut hs (cne y c e)⟩
  ·obtain ⟨w',z⟩:=I.cell y c e
   exact ⟨w',z.sameBut hs (cne y c e)⟩
  ·obtain ⟨e,n,ne,nf,d⟩:=I.pin p hp
   exact ⟨(hs.2 p.1 ne).trans e,n,ne,nf,d⟩
 ·have hfn:X.fn x=true:=by
   rcases hf with z | z
   ·exact z
   ·rw [z] at hk;cases hk
  obtain ⟨c,hc⟩:=I.ok.has x (.inl hk)
  obtain ⟨w',z⟩:=I.cell x c hc
  refine wpAny_storeName_cell I.ok.kind hk hc z (fun h' hc' hs=>?_)
  obtain ⟨oc,hoc,hocd⟩:=id z
  refine h { s with heap:=h' } ⟨I.ok,I.os,I.bare,⟨fun b o e n hb hx=>?_,fun b o e n hb hx=>?_,I.base.free,fun b o e hx=>?_,I.base.tups,I.base.frzs,I.base.tbls⟩,⟨m,hn.sameBut hs (Ne.symm (cne x c hc)),fun j y v' e1 e2 e3=>?_⟩,fun y c' e=>?_,I.free,I.freeC,fun p hp=>?_,tracked ⟨oc,hoc,I.freeC x c hc⟩ hs,by simpa using I.len⟩ ⟨c,hs,.inr hc⟩
  ·exact (hs.2 b (Nat.ne_of_lt (Nat.lt_of_lt_of_le (Heap.lt_size e) (I.ok.cab x c hfn hc)))).trans (I.base.keep b o e n hb hx)
  ·obtain ⟨sl,e1⟩:=I.base.slot b o e n hb hx
   exact ⟨sl,(hs.2 b (Nat.ne_of_lt (Nat.lt_of_lt_of_le (Heap.lt_size e) (I.ok.cab x c hfn hc)))).trans e1⟩
  ·obtain ⟨o',e1⟩:=I.base.there b o e hx
   exact ⟨o',(hs.2 b (Nat.ne_of_lt (Nat.lt_of_lt_of_le (Heap.lt_size e) (I.ok.cab x c hfn hc)))).trans e1⟩
  ·by_cases hj:j=i
   ·subst hj
    rw [hi] at e1;cases e1
    rw [List.getElem?_set_self hiσ] at e2
    cases e2
    exact ⟨u,r,.inr ⟨.inl hk,c,hc,hc'⟩⟩
   ·rw [List.getElem?_set_ne (Ne.symm hj)] at e2
    obtain ⟨u',r',q⟩:=hl j y v' e1 e2 e3
    refine ⟨u',r',?_⟩
    rcases q with q | ⟨k,c',e,z'⟩
    ·exact .inl q
    ·refine .inr ⟨k,c',e,z'.sameBut hs ?_⟩
     rintro rfl
     exact hj (yx hN e1 (I.ok.inj _ _ _ e hc▸hi))
  ·by_cases hcc:c'=c
   ·subst hcc;exact ⟨_,hc'⟩
   ·obtain ⟨w2,z2⟩:=I.cell y c' e
    exact ⟨w2,z2.sameBut hs hcc⟩
  ·obtain ⟨e,n,ne,nf,d⟩:=I.pin p hp
   refine ⟨(hs.2 p.1 ?_).trans e,n,ne,nf,d⟩
   intro q
   rw [q,hoc] at e
   have q':oc=p.2:=Option.some.inj e
   exact d w' (by rw [←q'];exact hocd)
theorem ju {M:Model}{A:Around}{E:Value→Shared→Prop}{i:Nat}{x:Str}{v:V}{u:Value}{Q:Unit→Shared→Prop} (I:ag X pins σ H s) (hN:X.N.Nodup) (hi:X.N[i]?=some x) (hx:E6 X.env.scope x) (r:bj v u)
 (h:∀s',ag X pins (σ.set i (some v)) H s'→Q () s') (hf:X.fn x=true∨X.env.scope.names.lookup x=some .local:=by first | exact .inl rfl | exact .inr rfl | assumption):wpAny M A (storeName X.env x u) Q E s:=
 xq I hN hi hx r (fun s' I' _=>h s' I') hf
theorem ag.call' {s':Shared}{ch:List Addr} (I:ag X pins σ H s) (ho:s'.os=s.os) (u:Un (iJ X.stack) ch H H' s.heap s'.heap) (hok:gf X.prog X.w H' s'.heap) (hg:AllBare s'.gens)
 (hch:∀b∈ch,(b∈X.ex∨X.s₀.heap.objs.size≤b)∧b≠X.env.locals∧(∀x c,X.env.cells.lookup x=some c→c≠b)∧∀p∈X.pn++pins,p.1≠b):ag X pins σ H' s':=by
 obtain ⟨h',g',d',t',o'⟩:=s'
 have e:o'=s.os:=ho
 subst e
 exact I.call (g':=g') (t':=t') (d':=d') u hok hg hch
end
abbrev XK:=Value→Option Addr→Hp→Prop
abbrev St:=List (Option V)
abbrev VK:=V→Hp→Prop
abbrev TE:=St→Hp→VK→Prop
abbrev TT:=St→Hp→(Bool→Hp→Prop)→Prop
abbrev TA:=St→Hp→(List V→Hp→Prop)→Prop
structure fW where
 nx:St→Hp→Prop
 rt:VK
 bk:St→Hp→Prop:=fun _ _=>False
 ct:St→Hp→Prop:=fun _ _=>False
abbrev TS:=fW→St→Hp→Prop
inductive EP (X:Cx) (pins:List (Addr×Obj)) (σ:St) (Q:VK) (u:Value) (s':Shared):Prop
 | mk (v:_) (H':_) (h0:ag X pins σ H' s') (h1:bj v u) (h2:Q v H')
def TP (X:Cx) (pins:List (Addr×Obj)) (σ:St) (Q:Bool→Hp→Prop) (b:Bool) (s':Shared):Prop:=∃H',ag X pins σ H' s'∧Q b H'
inductive AP (X:Cx) (pins:List (Addr×Obj)) (σ:St) (Q:List V→Hp→Prop) (us:List Value) (s':Shared):Prop
 | mk (vs:_) (H':_) (h0:ag X pins σ H' s') (h1:aL vs us) (h2:Q vs H')
def SP (X:Cx) (pins:List (Addr×Obj)) (D:fW) (f:Flow) (s':Shared):Prop:=
 match f with
 | .next=>∃σ' H',ag X pins σ' H' s'∧D.nx σ' H'
 | .brk=>∃σ' H',ag X pins σ' H' s'∧D.bk σ' H'
 | .cont=>∃σ' H',ag X pins σ' H' s'∧D.ct σ' H'
 | .ret u=>∃v σ' H',ag X pins σ' H' s'∧bj v u∧D.rt v H'
def PE (X:Cx) (e:Expr) (t:TE):Prop:=
 ∀(pins:List (Addr×Obj)) (s:Shared) (σ:St) (H:Hp) (Q:VK),ag X pins σ H s→t σ H Q→wpAny (model X.prog X.w) X.A (eval e X.env) (EP X pins σ Q) X.xe s
def PT (X:Cx) (e:Expr) (t:TT):Prop:=
 ∀(pins:List (Addr×Obj)) (s:Shared) (σ:St) (H:Hp) (Q:Bool→Hp→Prop),ag X pins σ H s→t σ H Q→wpAny (model X.prog X.w) X.A (isTrue e X.env (eval e X.env)) (TP X pins σ Q) X.xe s
def PW (X:Cx) (e:Expr) (t:TT):Prop:=
 ∀(whole:Sem Value) (pins:List (Addr×Obj)) (s:Shared) (σ:St) (H:Hp) (Q:Bool→Hp→Prop),ag X pins σ H s→t σ H Q→wpAny (model X.prog X.w) X.A (isTrue e X.env whole) (TP X pins σ Q) X.xe s
theorem PW.pt {X:Cx}{e:Expr}{t:TT} (h:PW X e t):PT X e t:=h _
def PA (X:Cx) (es:List Expr) (t:TA):Prop:=
 ∀(pos:Pos) (pins:List (Addr×Obj)) (s:Shared) (σ:St) (H:Hp) (Q:List V→Hp→Prop),ag X pins σ H s→t σ H Q→wpAny (model X.prog X.w) X.A (spliced (backTo pos (starEach es X.env))) (AP X pins σ Q) X.xe s
def PS (X:Cx) (st:Stmt) (t:TS):Prop:=
 ∀(pins:List (Addr×Obj)) (s:Shared) (σ:St) (H:Hp) (D:fW),ag X pins σ H s→t D σ H→wpAny (model X.prog X.w) X.A (exec st X.env) (SP X pins D) X.xe s
def pQ (X:Cx) (st:List Stmt) (t:TS):Prop:=
 ∀(pins:List (Addr×Obj)) (s:Shared) (σ:St) (H:Hp) (D:fW),ag X pins σ H s→t D σ H→wpAny (model X.prog X.w) X.A (execs st X.env) (SP X pins D) X.xe s
theorem aS {α:Type}{t:Sem α}{Q Q':α→Shared→Prop}{M:Model}{A:Around}{E:Value→Shared→Prop}{s:Shared} (h:wpAny M A t Q E s) (hQ:∀a s,Q a s→Q' a s):wpAny M A t Q' E s:=wpAny_mono h hQ fun _ _ x=>x
section
variable {X:Cx}
inductive Jw (i:Nat) (σ:St) (H:Hp) (Q:VK):Prop
 | mk (v:_) (h0:σ[i]?=some (some v)) (h1:Q v H)
def Bo (i:Nat):TE:=fun σ H Q=>Jw i σ H Q
def tC (v:V):TE:=fun _ H Q=>Q v H
theorem CQ {i:Nat}{x:Str}{pos:Pos} (hN:X.N[i]?=some x) (hv:ER X.env.scope x) (hd:(x==("__debug__" : Str))=false:=by decide) (hcd:(x==("__classdict__" : Str))=false:=by decide):PE X (.Name x pos) (Bo i):=by
 intro pins s σ H Q I h
 obtain ⟨v,e,h⟩:=h
 obtain ⟨m,hn,hl⟩:=I.loc
 obtain ⟨u,r,l⟩:=hl i x v hN e hv
 have fin:EP X pins σ Q u s:=⟨v,H,I,r,h⟩
 rcases l with ⟨hk,hm⟩ | ⟨hk,c,hc,hcell⟩
 ·exact wpAny_Name (wpAny_loadName_local I.ok.kind hk hn hm fin) hd
 ·rcases hk with hk | hk
  ·exact wpAny_Name (wpAny_loadName_cell I.ok.kind hk hc hcell fin) hd
  ·exact wpAny_Name (wpAny_loadName_free I.ok.kind hk hc hcell fin hcd) hd
theorem bO {i j pos}:PE X (.Constant (.int i) j pos) (tC (.int i)):=fun _ _ _ H _ I h=>wpAny_Constant_int ⟨.int i,H,I.tok _,⟨()⟩,h⟩
theorem dj {b j pos}:PE X (.Constant (.bool b) j pos) (tC (.bl b)):=fun _ _ _ H _ I h=>Constant_bool ⟨.bl b,H,I,rfl,h⟩
theorem Cg {j pos}:PE X (.Constant .none j pos) (tC .non):=fun _ _ _ H _ I h=>Constant_none ⟨.non,H,I,rfl,h⟩
theorem lK {x j pos}:PE X (.Constant (.str x) j pos) (tC (.str x)):=fun _ _ _ H _ I h=>Calls.Constant_str ⟨.str x,H,I.tok _,⟨()⟩,h⟩
def Gl (X:Cx) (x:Str):Prop:=X.env.kindOf x=some .globalImplicit
theorem Gn {E:Value→Shared→Prop}{pins:List (Addr×Obj)}{s:Shared}{σ:St}{H:Hp}{x:Str}{u:Value}{pos:Pos}{Q:Value→Shared→Prop} (I:ag X pins σ H s) (hg:Gl X x) (hm:X.mg x=some u) (h:Q u s)
 (hd:(x==("__debug__" : Str))=false:=by decide):wpAny (model X.prog X.w) X.A (eval (.Name x pos) X.env) Q E s:=
 Calls.Name_function_global I.ok.kind hg (Calls.loadGlobal_global (by rw [I.ok.glob];exact I.mod.glob.keeps I.bk) hm h) hd
theorem nh {E:Value→Shared→Prop}{pins:List (Addr×Obj)}{s:Shared}{σ:St}{H:Hp}{x:Str}{u:Value}{pos:Pos}{Q:Value→Shared→Prop} (I:ag X pins σ H s) (hg:Gl X x) (hm:X.mg x=none) (hv:bootBuiltins x=some u) (h:Q u s)
 (hn:x≠"__name__" := by decide) (hd:(x==("__debug__" : Str))=false:=by decide):wpAny (model X.prog X.w) X.A (eval (.Name x pos) X.env) Q E s:=by
 obtain ⟨mb,h1,h2⟩:=I.mod.blt
 exact Calls.Name_function_global I.ok.kind hg (Calls.loadGlobal_builtin (by rw [I.ok.glob];exact I.mod.glob.keeps I.bk) hm (by rw [I.ok.blt];exact h1.keeps I.bk) ((h2 x hn).trans hv) h) hd
theorem Gm {x:Str}{v:V}{u:Value}{pos:Pos} (hg:Gl X x) (hm:X.mg x=none) (hv:bootBuiltins x=some u) (r:bj v u) (hn:x≠"__name__" := by decide) (hd:(x==("__debug__" : Str))=false:=by decide):PE X (.Name x pos) (tC v):=
 fun _ _ _ H _ I h=>nh I hg hm hv ⟨v,H,I,r,h⟩ hn hd
variable {a b:Expr}{ta tb:TE}{pos:Pos}
inductive AV (x:V) (P:Bool→Prop):Prop
 | mk (c:Bool) (e:x=.bl c) (h:P c)
inductive HG (x:V) (P:Int→Prop):Prop
 | mk (c:Int) (e:x=.int c) (h:P c)
def tB (t:TE):TT:=fun σ H Q=>t σ H fun x H1=>AV x fun c=>Q c H1
theorem bK {e:Expr}{t:TE} (h:PE X e t) (he:∀whole,isTrue e X.env whole=(do let v ←whole;standAt e.pos;holding [v] (truthy v)):=by intro _;rfl):PT X e (tB t):=by
 intro pins s σ H Q I hw
 refine isTrue_plain (aS (h pins s σ H _ I hw) fun v s1 ⟨x,H1,I1,r1,q1⟩=>?_) (he _)
 obtain ⟨d,rfl,q⟩:=q1
 cases r1
 exact wpAny_truthy_bool ⟨H1,I1,q⟩
variable {tA tB':TT}{rest:List Expr}
def KY (t u:TT):TT:=fun σ H Q=>t σ H fun c H1=>if c=true then u σ H1 Q else Q false H1
def Lp (t u:TT):TT:=fun σ H Q=>t σ H fun c H1=>if c=true then Q true H1 else u σ H1 Q
def KQ (t:TT):TT:=fun σ H Q=>t σ H fun c H1=>Q (!c) H1
theorem jF (ha:PT X a tA):PW X (.BoolOp .And [a] pos) tA:=by
 intro wh pins s σ H Q I h
 refine isTrue_and (aS (ha pins s σ H Q I h) fun c s1 e=>?_)
 cases c with
 | true=>exact isTrue_and_nil e
 | false=>exact e
theorem gr (ha:PT X a tA):PW X (.BoolOp .Or [a] pos) tA:=by
 intro wh pins s σ H Q I h
 refine isTrue_or (aS (ha pins s σ H Q I h) fun c s1 e=>?_)
 cases c with
 | false=>exact isTrue_or_nil e
 | true=>exact e
theorem lE (ha:PT X a tA) (hb:PW X (.BoolOp .And (b :: rest) pos) tB'):PW X (.BoolOp .And (a :: b :: rest) pos) (KY tA tB'):=by
 intro wh pins s σ H Q I h
 refine isTrue_and (aS (ha pins s σ H _ I h) fun c s1 ⟨H1,I1,q1⟩=>?_)
 cases c with
 | true=>exact hb wh pins s1 σ H1 Q I1 q1
 | false=>exact ⟨H1,I1,q1⟩
theorem gh (ha:PT X a tA) (hb:PW X (.BoolOp .Or (b :: rest) pos) tB'):PW X (.BoolOp .Or (a :: b :: rest) pos) (Lp tA tB'):=by
 intro wh pins s σ H Q I h
 refine isTrue_or (aS (ha pins s σ H _ I h) fun c s1 ⟨H1,I1,q1⟩=>?_)
 cases c with
 | true=>exact ⟨H1,I1,q1⟩
 | false=>exact hb wh pins s1 σ H1 Q I1 q1
theorem cw (ha:PT X a tA):PT X (.UnaryOp .Not a pos) (KQ tA):=by
 intro pins s σ H Q I h
 exact isTrue_not (ha pins s σ H (fun c H1=>Q (!c) H1) I h)
def JR (ta tb:TE):TE:=fun σ H Q=>ta σ H fun x H1=>AV x fun c=>if c=true then tb σ H1 Q else Q (.bl false) H1
def EX (ta:TE):TE:=fun σ H Q=>ta σ H fun x H1=>AV x fun c=>Q (.bl (!c)) H1
theorem gW {op}{t:TE} (h:PE X a t):PE X (.BoolOp op [a] pos) t:=fun pins s σ H Q I hw=>BoolOp_one (h pins s σ H Q I hw)
theorem gB (ha:PE X a ta) (hb:PE X (.BoolOp .And (b :: rest) pos) tb):PE X (.BoolOp .And (a :: b :: rest) pos) (JR ta tb):=by
 intro pins s σ H Q I h
 refine BoolOp_and (aS (ha pins s σ H _ I h) fun v s1 ⟨x,H1,I1,r1,q1⟩=>?_)
 obtain ⟨c,rfl,q1⟩:=q1
 cases r1
 refine wpAny_truthy_bool ?_
 cases c with
 | true=>exact hb pins s1 σ H1 Q I1 q1
 | false=>exact ⟨.bl false,H1,I1,rfl,q1⟩
theorem C8 (ha:PE X a ta):PE X (.UnaryOp .Not a pos) (EX ta):=by
 intro pins s σ H Q I h
 refine UnaryOp_ (aS (ha pins s σ H _ I h) fun v s1 ⟨x,H1,I1,r1,q1⟩=>?_)
 obtain ⟨c,rfl,q1⟩:=q1
 cases r1
 exact not_of (wpAny_truthy_bool ⟨.bl (!c),H1,I1,rfl,q1⟩)
def Lh (t:TT) (ta tb:TE):TE:=fun σ H Q=>t σ H fun c H1=>if c=true then ta σ H1 Q else tb σ H1 Q
theorem fZ {c:Expr} (hc:PT X c tA) (ha:PE X a ta) (hb:PE X b tb):PE X (.IfExp c a b pos) (Lh tA ta tb):=by
 intro pins s σ H Q I h
 refine wpAny_IfExp (aS (hc pins s σ H _ I h) fun d s1 ⟨H1,I1,q1⟩=>?_)
 cases d with
 | true=>exact ha pins s1 σ H1 Q I1 q1
 | false=>exact hb pins s1 σ H1 Q I1 q1
end
def ah (K:PySem.W.Frag) (H:Hp) (a:Addr) (xs:List V):Prop:=
 Rd H a (.lst xs)∨
  fP fun (o:Obj) (its:Array Value) (n:Nat)=>K.lookup a=some o∧o.cls=.type "list"∧o.dict=none∧o.data=.seq its n∧its.size≤sizeLine∧aL xs its.toList
def ad (K:PySem.W.Frag) (H:Hp) (a:Addr) (xs:List V):Prop:=
 Rd H a (.tup xs)∨
  fP fun (o:Obj) (its:Array Value) (n:Nat)=>K.lookup a=some o∧o.cls=.type "tuple"∧o.data=.seq its n∧its.size≤sizeLine∧aL xs its.toList
def Kp:Value→Option V
 | .none=>some .non
 | .bool b=>some (.bl b)
 | .int i _=>some (.int i)
 | .str x _=>some (.str x)
 | .bytes b _=>some (.byt b)
 | .float b _=>some (.flt b)
 | .ref a=>some (.ref a)
 | .type n=>some (.ty n)
 | _=>none
theorem bj.abs {x:V}{u:Value} (r:bj x u):Kp u=some x:=by
 cases x with
 | non=>cases r;rfl
 | bl _=>cases r;rfl
 | int _=>obtain ⟨t,rfl⟩:=r;rfl
 | str _=>obtain ⟨t,rfl⟩:=r;rfl
 | byt _=>obtain ⟨t,rfl⟩:=r;rfl
 | flt _=>obtain ⟨t,rfl⟩:=r;rfl
 | ref _=>cases r;rfl
 | ty _=>cases r;rfl
theorem bj.inj {x y:V}{u:Value} (r:bj x u) (q:bj y u):x=y:=Option.some.inj (r.abs.symm.trans q.abs)
theorem aL.inj:∀{xs ys:List V}{us:List Value},aL xs us→aL ys us→xs=ys
 | _,_,_,.nil,.nil=>rfl
 | _,_,_,.cons r t,.cons r' t'=>by rw [r.inj r',aL.inj t t']
section
variable {X:Cx}{pins:List (Addr×Obj)}{σ:St}{H:Hp}{s:Shared}{a:Addr}{xs ys:List V}
theorem ah.of {K:PySem.W.Frag} (h:H a=some (.lst xs)):ah K H a xs:=.inl (.inl h)
theorem ad.of {K:PySem.W.Frag} (h:H a=some (.tup xs)):ad K H a xs:=.inl (.inl h)
theorem ag.list (I:ag X pins σ H s) (h:ah X.K H a xs):∃its:List Value,aL xs its∧PlainL s.heap a its.toArray∧xs.length≤sizeLine:=by
 rcases h with h | ⟨o,its,n,hk,hc,hd,hs,hz,r⟩
 ·obtain ⟨z,its,n,r,e⟩:=h.ok I.hok
  exact ⟨its,r,⟨_,n,e,rfl,rfl,rfl⟩,z⟩
 ·refine ⟨its.toList,r,⟨o,n,I.kIn a o hk,hc,hd,by simpa using hs⟩,?_⟩
  have e:=r.length
  simp only [Array.length_toList] at e
  trivial
theorem ag.tuple (I:ag X pins σ H s) (h:ad X.K H a xs):∃its:List Value,aL xs its∧IsTup s.heap a its.toArray∧xs.length≤sizeLine:=by
 rcases h with h | ⟨o,its,n,hk,hc,hs,hz,r⟩
 ·obtain ⟨z,its,r,p,_⟩:=h.ok I.hok
  exact ⟨its,r,p,z⟩
 ·refine ⟨its.toList,r,⟨o,I.kIn a o hk,hc,n,by simpa using hs⟩,?_⟩
  have e:=r.length
  simp only [Array.length_toList] at e
  trivial
theorem ag.list_inj (I:ag X pins σ H s) (h:ah X.K H a xs) (h':ah X.K H a ys):xs=ys:=by
 obtain ⟨its,r,⟨o,n,e,_,_,d⟩,_⟩:=I.list h
 obtain ⟨its',r',⟨o',n',e',_,_,d'⟩,_⟩:=I.list h'
 rw [e] at e';cases e'
 rw [d] at d'
 injection d' with d1 _
 have:its=its':=by simpa using congrArg Array.toList d1
 subst this
 exact r.inj r'
theorem ag.tuple_inj (I:ag X pins σ H s) (h:ad X.K H a xs) (h':ad X.K H a ys):xs=ys:=by
 obtain ⟨its,r,⟨o,e,_,n,d⟩,_⟩:=I.tuple h
 obtain ⟨its',r',⟨o',e',_,n',d'⟩,_⟩:=I.tuple h'
 rw [e] at e';cases e'
 rw [d] at d'
 injection d' with d1 _
 have:its=its':=by simpa using congrArg Array.toList d1
 subst this
 exact r.inj r'
end
abbrev Cx.wish (X:Cx) (E:Value→Shared→Prop):Cx:={ X with xe:=E }
abbrev Cx.nox (X:Cx):Cx:=X.wish fun _ _=>False
theorem Cx.Ok.wish {X:Cx} (ok:X.Ok) (E:Value→Shared→Prop):(X.wish E).Ok:=
 ⟨ok.mod,ok.kind,ok.glob,ok.blt,ok.above,ok.inj,ok.has,ok.cab,ok.hd,ok.frames,ok.stk,ok.exf,ok.bs,ok.bsz,ok.noex,ok.exfs,ok.funs,ok.frf⟩
theorem Cx.Ok.unwish {X:Cx}{E:Value→Shared→Prop} (ok:(X.wish E).Ok):X.Ok:=
 ⟨ok.mod,ok.kind,ok.glob,ok.blt,ok.above,ok.inj,ok.has,ok.cab,ok.hd,ok.frames,ok.stk,ok.exf,ok.bs,ok.bsz,ok.noex,ok.exfs,ok.funs,ok.frf⟩
section
variable {X:Cx}{pins:List (Addr×Obj)}{σ:St}{H:Hp}{s:Shared}{E:Value→Shared→Prop}
theorem ag.wish (I:ag X pins σ H s) (E:Value→Shared→Prop):ag (X.wish E) pins σ H s:=⟨I.ok.wish E,I.os,I.bare,I.base,I.loc,I.cell,I.free,I.freeC,I.pin,I.hok,I.len⟩
theorem ag.unwish (I:ag (X.wish E) pins σ H s):ag X pins σ H s:=⟨I.ok.unwish,I.os,I.bare,I.base,I.loc,I.cell,I.free,I.freeC,I.pin,I.hok,I.len⟩
theorem SP.unwish {D:fW}{f:Flow}{s':Shared} (h:SP (X.wish E) pins D f s'):SP X pins D f s':=by
 cases f with
 | next=>obtain ⟨σ',H',I,q⟩:=h;exact ⟨σ',H',I.unwish,q⟩
 | brk=>obtain ⟨σ',H',I,q⟩:=h;exact ⟨σ',H',I.unwish,q⟩
 | cont=>obtain ⟨σ',H',I,q⟩:=h;exact ⟨σ',H',I.unwish,q⟩
 | ret u=>obtain ⟨v,σ',H',I,r,q⟩:=h;exact ⟨v,σ',H',I.unwish,r,q⟩
theorem pQ.nox {st:List Stmt}{t:TS} (h:pQ X.nox st t):pQ X st t:=fun pins s σ H D I hw=>
 wpAny_mono (h pins s σ H D (I.wish _) hw) (fun _ _ q=>q.unwish) fun _ _ z=>False.elim z
end
section
variable {X:Cx}{st:Stmt}{rest:List Stmt}{t u:TS}{e:Expr}{te:TE}{pos:Pos}
def IH:TS:=fun D σ H=>D.nx σ H
def kH (t u:TS):TS:=fun D σ H=>t { D with nx:=u D } σ H
theorem aM:pQ X [] IH:=fun _ _ σ H _ I h=>wpAny_execs_nil ⟨σ,H,I,h⟩
theorem fe (h1:PS X st t) (h2:pQ X rest u):pQ X (st :: rest) (kH t u):=by
 intro pins s σ H D I h
 refine wpAny_execs_cons (aS (h1 pins s σ H { D with nx:=u D } I h) fun f s1 q=>?_)
 cases f with
 | next=>
  obtain ⟨σ',H',I',q⟩:=q
  exact h2 pins s1 σ' H' D I' q
 | ret v=>exact q
 | brk=>exact q
 | cont=>exact q
theorem ac (h1:PS X st t):pQ X [st] t:=by
 intro pins s σ H D I h
 refine wpAny_execs_cons (aS (h1 pins s σ H D I h) fun f s1 q=>?_)
 cases f with
 | next=>exact wpAny_execs_nil q
 | ret v=>exact q
 | brk=>exact q
 | cont=>exact q
theorem ag.quiet {pins:List (Addr×Obj)}{σ:St}{H:Hp}{s:Shared} (I:ag X pins σ H s):interactive X.env=false:=by simp [interactive,I.ok.kind]
def IV (te:TE):TS:=fun D σ H=>te σ H fun _ H1=>D.nx σ H1
theorem fF (he:PE X e te) (hs:swapsWith e none pos.line X.env=pure false:=by rfl):PS X (.Expr e pos) (IV te):=by
 intro pins s σ H D I h
 exact wpAny_Expr_any (aS (he pins s σ H _ I h) fun v s1 ⟨x,H1,I1,r1,q1⟩=>⟨σ,H1,I1,q1⟩) I.quiet hs
def GF (te:TE):TS:=fun D σ H=>te σ H D.rt
theorem ax (he:PE X e te):PS X (.Return (some e) pos) (GF te):=by
 intro pins s σ H D I h
 exact wpAny_Return_some (aS (he pins s σ H _ I h) fun v s1 ⟨x,H1,I1,r1,q1⟩=>⟨x,σ,H1,I1,r1,q1⟩)
def Di (c:TT) (t u:TS):TS:=fun D σ H=>c σ H fun b H1=>if b=true then t D σ H1 else u D σ H1
theorem bn {c:Expr}{a b:List Stmt}{tc:TT} (hc:PT X c tc) (ha:pQ X a t) (hb:pQ X b u):PS X (.If c a b pos) (Di tc t u):=by
 intro pins s σ H D I h
 refine wpAny_If (aS (hc pins s σ H _ I h) fun d s1 ⟨H1,I1,q1⟩=>?_)
 cases d with
 | true=>exact ha pins s1 σ H1 D I1 q1
 | false=>exact hb pins s1 σ H1 D I1 q1
end
abbrev TG:=V→St→Hp→(St→Hp→Prop)→Prop
abbrev uk:=List V→St→Hp→(St→Hp→Prop)→Prop
def PG (X:Cx) (target:Expr) (t:TG):Prop:=
 ∀(pins:List (Addr×Obj)) (s:Shared) (σ:St) (H:Hp) (v:V) (u:Value) (Q:St→Hp→Prop),ag X pins σ H s→bj v u→t v σ H Q→
   wpAny (model X.prog X.w) X.A (assign target X.env u) (fun _ s'=>∃σ' H',ag X pins σ' H' s'∧Q σ' H') X.xe s
def Cz (X:Cx) (ts:List Expr) (t:uk):Prop:=
 ∀(pins:List (Addr×Obj)) (s:Shared) (σ:St) (H:Hp) (vs:List V) (us:List Value) (Q:St→Hp→Prop),ag X pins σ H s→aL vs us→t vs σ H Q→
   wpAny (model X.prog X.w) X.A (assignInOrder ((assignEach ts X.env).map (·.2)) us) (fun _ s'=>∃σ' H',ag X pins σ' H' s'∧Q σ' H') X.xe s
abbrev DI:=V→V→V→Hp→(Hp→Prop)→Prop
def A9 (X:Cx) (t:DI):Prop:=
 ∀(pins:List (Addr×Obj)) (s:Shared) (σ:St) (H:Hp) (o i v:V) (ov iv u:Value) (Q:Hp→Prop),ag X pins σ H s→bj o ov→bj i iv→bj v u→t o i v H Q→
   wpAny (model X.prog X.w) X.A (setItem ov iv u) (fun _ s'=>∃H',ag X pins σ H' s'∧Q H') X.xe s
section
variable {X:Cx}{pos:Pos}
def ow (i:Nat):TG:=fun v σ H Q=>Q (σ.set i (some v)) H
theorem gv {i:Nat}{x:Str} (hN:X.N.Nodup) (hi:X.N[i]?=some x) (hx:E6 X.env.scope x) (hf:X.fn x=true∨X.env.scope.names.lookup x=some .local:=by first | exact .inl rfl | exact .inr rfl | assumption):PG X (.Name x pos) (ow i):=by
 intro pins s σ H v u Q I r h
 exact wpAny_assign_Name (ju I hN hi hx r (fun s' I'=>⟨_,H,I',h⟩) hf)
def DV:uk:=fun vs σ H Q=>vs=[]∧Q σ H
inductive Hn (t:TG) (u:uk) (vs:List V) (σ:St) (H:Hp) (Q:St→Hp→Prop):Prop
 | mk (v:_) (r:_) (h0:vs=v :: r) (h1:t v σ H fun σ' H'=>u r σ' H' Q)
def vA (t:TG) (u:uk):uk:=fun vs σ H Q=>Hn t u vs σ H Q
theorem bI:Cz X [] DV:=by
 intro pins s σ H vs us Q I r h
 obtain ⟨e,h⟩:=h
 subst e
 cases r
 exact assignInOrder_nil ⟨σ,H,I,h⟩
theorem ak {e:Expr}{es:List Expr}{t:TG}{u:uk} (h1:PG X e t) (h2:Cz X es u)
 (hs:(assignEach (e :: es) X.env).map (·.2)=assign e X.env :: (assignEach es X.env).map (·.2):=by rfl):Cz X (e :: es) (vA t u):=by
 intro pins s σ H vs us Q I r h
 obtain ⟨v,vr,e1,h⟩:=h
 subst e1
 cases r with
 | cons r rr=>
  rw [hs]
  refine assignInOrder_cons (aS (h1 pins s σ H _ _ _ I r h) fun _ s1 ⟨σ1,H1,I1,q1⟩=>?_)
  exact h2 pins s1 σ1 H1 _ _ Q I1 rr q1
inductive Jm (K:PySem.W.Frag) (n:Nat) (t:uk) (v:V) (σ:St) (H:Hp) (Q:St→Hp→Prop):Prop
 | mk (a:_) (xs:_) (h0:v=.ref a) (h1:ad K H a xs) (h2:xs.length=n) (h3:t xs σ H Q)
def Be (K:PySem.W.Frag) (n:Nat) (t:uk):TG:=fun v σ H Q=>Jm K n t v σ H Q
theorem zp {es:List Expr}{k:Nat}{t:uk}{n:Nat} (hc:X.calm=true) (h:Cz X es t)
 (hn:(assignEach es X.env).length=n:=by rfl) (hst:(assignEach es X.env).findIdx? (·.1)=none:=by rfl):PG X (.Tuple es k pos) (Be X.K n t):=by
 intro pins s σ H v u Q I r hw
 obtain ⟨a,xs,e1,hq,hl,hw⟩:=hw
 subst e1
 cases r
 obtain ⟨its,rv,ht,hz⟩:=I.tuple hq
 refine assign_Tuple_tuple (I.ok.hd hc) ht (by simp [hn,←hl,rv.length]) hst fun h' hx=>?_
 have I1:ag X pins σ H { s with heap:=h' }:=I.kept (t':=s.toks) fun b o e=>hx b o (Nat.ne_of_lt (Heap.lt_size e)) e
 exact h pins _ σ H xs _ Q I1 (by simpa using rv) hw
def Kt (to ti:TE) (t:DI):TG:=fun v σ H Q=>to σ H fun o H1=>ti σ H1 fun i H2=>t o i v H2 fun H3=>Q σ H3
theorem je {o i:Expr}{to ti:TE}{t:DI} (ho:PE X o to) (hi:PE X i ti) (hs:A9 X t)
 (ha:∀v,assign (.Subscript o i pos) X.env v=(do
  let ov ←holding [v] (eval o X.env)
  let iv ←holding [v,ov] (eval i X.env)
  standAt pos
  holding [v,ov,iv] (setItem ov iv v)
  release [v,ov,iv] []):=by intro _;rfl):PG X (.Subscript o i pos) (Kt to ti t):=by
 intro pins s σ H v u Q I r h
 rw [ha]
 refine wpAny_bind (wpAny_holding (aS (ho pins s σ H _ I h) fun ov s1 ⟨x,H1,I1,r1,q1⟩=>?_))
 refine wpAny_bind (wpAny_holding (aS (hi pins s1 σ H1 _ I1 q1) fun iv s2 ⟨y,H2,I2,r2,q2⟩=>?_))
 refine wpAny_bind (wpAny_standAt (wpAny_bind (wpAny_holding (aS (hs pins s2 σ H2 x y v ov iv u _ I2 r1 r2 r q2) fun _ s3 ⟨H3,I3,q3⟩=>?_))))
 exact wpAny_release ⟨σ,H3,I3,q3⟩
def A5 (te:TE) (g:TG):TS:=fun D σ H=>te σ H fun x H1=>g x σ H1 D.nx
theorem dH {tg e:Expr}{te:TE}{g:TG} (he:PE X e te) (hg:PG X tg g) (hs:swapsWithSole [tg] e pos.line X.env=pure false:=by rfl) (hw:swappedStores [tg] e X.env=pure none:=by rfl)
 (h1:(assignEach [tg] X.env).map (·.2)=[assign tg X.env]:=by rfl):PS X (.Assign [tg] e pos) (A5 te g):=by
 intro pins s σ H D I h
 refine wpAny_Assign_stores (aS (he pins s σ H _ I h) fun v s1 ⟨x,H1,I1,r1,q1⟩=>?_) hs hw
 rw [h1]
 exact aS (hg pins s1 σ H1 x v _ I1 r1 q1) fun _ s2 q=>q
theorem lG {i:Nat}{x:Str}{e:Expr}{te:TE}{pos':Pos} (hN:X.N.Nodup) (hi:X.N[i]?=some x) (hx:E6 X.env.scope x) (he:PE X e te) (hs:swapsWith e (some (.Name x pos')) pos.line X.env=pure false:=by rfl) (hf:X.fn x=true∨X.env.scope.names.lookup x=some .local:=by first | exact .inl rfl | exact .inr rfl | assumption) :
 PS X (.Assign [.Name x pos'] e pos) (A5 te (ow i)):=by
 intro pins s σ H D I h
 refine wpAny_Assign_Name (aS (he pins s σ H _ I h) fun v s1 ⟨y,H1,I1,r1,q1⟩=>?_) hs
 exact ju I1 hN hi hx r1 (fun s2 I2=>⟨_,H1,I2,q1⟩) hf
def Ia (i j:Nat) (ta:TA):TS:=fun D σ H=>ta σ H fun vs H1=>bP fun v w=>vs=[v,w]∧D.nx ((σ.set i (some v)).set j (some w)) H1
theorem gZ {i j:Nat}{x y:Str}{a b:Expr}{ta:TA}{px py pt:Pos}{kt k2 pt2} (hc:X.calm=true) (hN:X.N.Nodup) (hi:X.N[i]?=some x) (hj:X.N[j]?=some y) (hij:i≠j)
 (hx:X.env.scope.names.lookup x=some .local) (hy:X.env.scope.names.lookup y=some .local) (ha:PA X [a,b] ta)
 (hw:swappedStores [.Tuple [.Name x px,.Name y py] kt pt] (.Tuple [a,b] k2 pt2) X.env=pure (some [x,y]))
 (hs:swapsWithSole [.Tuple [.Name x px,.Name y py] kt pt] (.Tuple [a,b] k2 pt2) pos.line X.env=pure false:=by rfl) :
 PS X (.Assign [.Tuple [.Name x px,.Name y py] kt pt] (.Tuple [a,b] k2 pt2) pos) (Ia i j ta):=by
 intro pins s σ H D I h
 rw [exec_Assign_arm]
 refine wpAny_bind (wpAny_standAt ?_)
 rw [hs]
 refine wpAny_bind (wpAny_pure ?_)
 rw [if_neg (by decide)]
 refine wpAny_bind (Tuple_ (aS (ha _ pins s σ H _ I h) fun us s1 ⟨vs,H1,I1,r1,q1⟩=>?_))
 obtain ⟨v,w,e1,q1⟩:=q1
 subst e1
 obtain ⟨u1,u2,rfl,rv,rw'⟩:bP fun u1 u2=>us=[u1,u2]∧bj v u1∧bj w u2:=by
  cases r1 with
  | cons p q=>
   cases q with
   | cons p' q'=>
    cases q'
    exact ⟨_,(),p,p'⟩
 refine wpAny_newObj_type ?_ (by show 2≤sizeLine;decide)
 have I2:ag X pins σ H1 { s1 with heap:=s1.heap.push { cls:=.type "tuple",data:=.seq [u1,u2].toArray } }:=I1.kept (t':=s1.toks) fun b o e=>Heap.get?_push_of_some _ e
 rw [hw]
 refine wpAny_bind (wpAny_pure ?_)
 show wpAny (model X.prog X.w) X.A (do rule "assign.swapped-stores";let items ←unpackItems (.ref s1.heap.objs.size) 2 none;assignInOrder [fun v=>bindName X.env y v,fun v=>bindName X.env x v] items.reverse;pure Flow.next) _ _ _
 refine wpAny_bind (wpAny_rule (wpAny_bind (unpackItems_tuple (items:=#[u1,u2]) (I.ok.hd hc) (IsTup.new s1.heap _) fun h' hx'=>?_)))
 have I3:=I2.kept (h':=h') (t':=s1.toks) fun b o e=>hx' b o (Nat.ne_of_lt (Heap.lt_size e)) e
 show wpAny _ _ (assignInOrder [fun v=>bindName X.env y v,fun v=>bindName X.env x v] [u2,u1] >>= fun _=>pure Flow.next) _ _ _
 refine wpAny_bind (assignInOrder_cons (wpAny_bindName (ju I3 hN hj (.inl hy) rw' (fun s2 I4=>?_) (.inr hy))))
 refine assignInOrder_cons (wpAny_bindName (ju I4 hN hi (.inl hx) rv (fun s3 I5=>assignInOrder_nil (wpAny_pure ?_)) (.inr hx)))
 rw [List.set_comm _ _ (Ne.symm hij)] at I5
 exact ⟨_,H1,I5,q1⟩
end
section
variable {X:Cx}{pos:Pos}
def Ig (c:TT) (tb:TS):TS:=fun D σ H=>∃W:Nat→St→Hp→Prop,(∃m,W m σ H)∧∀m σ H,W m σ H→
 c σ H fun b H1=>if b=true then ∃N:St→Hp→Prop,(∀σ' H',N σ' H'→∃m',m'<m∧W m' σ' H')∧tb { D with nx:=N,ct:=N,bk:=D.nx } σ H1 else D.nx σ H1
theorem zv {c:Expr}{body:List Stmt}{tc:TT}{tb:TS} (hp:PassesOwn (model X.prog X.w) X.A X.env X.xe) (hc:PT X c tc) (hb:pQ X body tb):PS X (.While c body [] pos) (Ig tc tb):=by
 intro pins s σ H D I h
 obtain ⟨W,⟨m0,w0⟩,turn⟩:=h
 refine wpAny_While (codeAny_whileLoop (fun n s'=>∃σ' H',ag X pins σ' H' s'∧W n σ' H') ?_ m0 ⟨σ,H,I,w0⟩)
 rintro n s1 ⟨σ1,H1,I1,w1⟩
 refine wpAny_passesOwn hp (aS (hc pins s1 σ1 H1 _ I1 (turn n σ1 H1 w1)) fun b s2 ⟨H2,I2,q2⟩=>?_)
 cases b with
 | true=>
  obtain ⟨N,hN,q2⟩:=q2
  rw [if_pos rfl]
  refine wpAny_passesOwn hp (aS (hb pins s2 σ1 H2 _ I2 q2) fun f s3 q3=>?_)
  cases f with
  | next=>
   obtain ⟨σ3,H3,I3,n3⟩:=q3
   obtain ⟨m',hm,w3⟩:=hN σ3 H3 n3
   exact ⟨m',hm,σ3,H3,I3,w3⟩
  | cont=>
   obtain ⟨σ3,H3,I3,n3⟩:=q3
   obtain ⟨m',hm,w3⟩:=hN σ3 H3 n3
   exact ⟨m',hm,σ3,H3,I3,w3⟩
  | brk=>exact q3
  | ret v=>exact q3
 | false=>
  rw [if_neg Bool.false_ne_true]
  exact wpAny_execs_nil ⟨σ1,H2,I2,q2⟩
end
structure It where
 go:Nat→Hp→Prop
 yld:Nat→Hp→V→Hp→Prop
 stop:Nat→Hp→Prop
def jD (X:Cx) (pins:List (Addr×Obj)) (H:Hp) (b:Addr):Prop:=
 H b=none∧b≠X.env.locals∧b∉X.fs∧(b∈X.ex∨X.s₀.heap.objs.size≤b)∧(∀x c,X.env.cells.lookup x=some c→c≠b)∧∀p∈X.pn++pins,p.1≠b
theorem ag.fpOk {X:Cx}{pins:List (Addr×Obj)}{σ:St}{H H':Hp}{s:Shared}{b:Addr} (I:ag X pins σ H s) (hb:s.heap.objs.size≤b) (hn:H' b=none):jD X pins H' b:=by
 refine ⟨hn,Nat.ne_of_gt (Nat.lt_of_lt_of_le I.lt hb),I.nofs hb,.inr (Nat.le_trans I.sz hb),fun x c e z=>?_,fun p hp z=>?_⟩
 ·obtain ⟨v,q⟩:=I.cell x c e
  exact absurd (Nat.lt_of_lt_of_le q.lt (by rw [z];exact hb)) (Nat.lt_irrefl _)
 ·exact absurd (Nat.lt_of_lt_of_le (Heap.lt_size (I.pin p hp).1) (by rw [z];exact hb)) (Nat.lt_irrefl _)
structure sM (P:Program) (w:World) (K:PySem.W.Frag) (tg:Expr) (J:It) (fp:List Addr) (it:Addr) (tn:Nat→Heap→Prop):Prop where
 mem:it∈fp
 obj:∀i h,tn i h→∀b∈fp,∃o,h.get? b=some o∧∀v,o.data≠.cell v
 keep:∀i h h',tn i h→(∀b∈fp,∀o,h.get? b=some o→h'.get? b=some o)→tn i h'
 item:∀(X:Cx),X.prog=P→X.w=w→X.K=K→X.calm=true→∀(i:Nat) (pins:List (Addr×Obj)) (s:Shared) (σ:St) (H:Hp) (E:Value→Shared→Prop),ag X pins σ H s→(∀b∈fp,jD X pins H b)→tn i s.heap→J.go i H→
  wpAny (model P w) X.A (pyNext (.ref it)) (fun r s1=>∃u,r=some u∧
   wpAny (model P w) X.A (letOwnedTupleGo tg (.ref it) u) (fun _ s2=>bP fun x H'=>ag X pins σ H' s2∧bj x u∧J.yld i H x H'∧tn (i+1) s2.heap∧∀b∈fp,H' b=none) E s1) E s
 done:∀(X:Cx),X.prog=P→X.w=w→X.K=K→X.calm=true→∀(i:Nat) (pins:List (Addr×Obj)) (s:Shared) (σ:St) (H:Hp) (E:Value→Shared→Prop),ag X pins σ H s→(∀b∈fp,jD X pins H b)→tn i s.heap→J.stop i H→
  wpAny (model P w) X.A (pyNext (.ref it)) (fun r s1=>r=none∧ag X pins σ H s1) E s
 self:∀(A:Around) (i:Nat) (s:Shared) (Q:Value→Shared→Prop) (E:Value→Shared→Prop),tn i s.heap→Q (.ref it) s→wpAny (model P w) A (pyIter (.ref it)) Q E s
abbrev TI:=St→Hp→(It→Hp→Prop)→Prop
def Kl (X:Cx) (pins:List (Addr×Obj)) (σ:St) (tg:Expr) (R:It→Hp→Prop) (itv:Value) (s2:Shared):Prop:=
 Aq fun (it:Addr) (fp:List Addr) (tn:Nat→Heap→Prop) (J:It) (H':Hp)=>itv=.ref it∧ag X pins σ H' s2∧sM X.prog X.w X.K tg J fp it tn∧tn 0 s2.heap∧(∀b∈fp,jD X pins H' b)∧R J H'
def PI (X:Cx) (tg iter:Expr) (wi:TI):Prop:=
 ∀(pins:List (Addr×Obj)) (s:Shared) (σ:St) (H:Hp) (R:It→Hp→Prop),ag X pins σ H s→wi σ H R→
   wpAny (model X.prog X.w) X.A (eval iter X.env) (fun v s1=>wpAny (model X.prog X.w) X.A (pyIter v) (Kl X pins σ tg R) X.xe s1) X.xe s
theorem yk {M:Model}{A:Around}{E:Value→Shared→Prop}{s:Shared}{tg:Expr}{it:Addr}{u:Value}{o:Obj}{n:String}{vs:Array Value}{Q:Unit→Shared→Prop} (ho:s.heap.get? it=some o) (hc:o.cls=.type n) (hd:o.data=.fields vs)
 (hn:["enumerate", "zip", "dict_itemiterator", "dict_reverseitemiterator", "odict_iterator", "itertools.zip_longest", "itertools.pairwise"].contains n=false) (hQ:Q () s):wpAny M A (letOwnedTupleGo tg (.ref it) u) Q E s:=by
 unfold letOwnedTupleGo
 cases tg <;> first
  | exact wpAny_pure hQ
  | (cases u <;> first
   | exact wpAny_pure hQ
   | (refine wpAny_bind (wpAny_load ho ?_)
      rw [hc,hd]
      show wpAny M A (if (["enumerate", "zip", "dict_itemiterator", "dict_reverseitemiterator", "odict_iterator", "itertools.zip_longest", "itertools.pairwise"].contains n && vs[0]?==some (rawInt _))=true then _ else _) Q E s
      rw [if_neg (by intro h;rw [hn,Bool.false_and] at h;cases h)]
      exact wpAny_pure hQ))
def yr (K:PySem.W.Frag) (a:Addr):It:=
 ⟨fun i H=>bP fun xs x=>ah K H a xs∧xs[i]?=some x,fun i H x H'=>H'=H∧∀xs,ah K H a xs→xs[i]?=some x,fun i H=>∃xs,ah K H a xs∧xs.length≤i⟩
def yP (K:PySem.W.Frag) (a:Addr):It:=
 ⟨fun i H=>bP fun xs x=>ad K H a xs∧xs[i]?=some x,fun i H x H'=>H'=H∧∀xs,ad K H a xs→xs[i]?=some x,fun i H=>∃xs,ad K H a xs∧xs.length≤i⟩
def zX (lo:Int) (n:Nat):It:=⟨fun i _=>i<n,fun i H x H'=>H'=H∧x=.int (lo+i),fun i _=>n≤i⟩
theorem CW {P:Program}{w:World}{K:PySem.W.Frag}{tg:Expr} (a it:Addr):sM P w K tg (yr K a) [it] it (fun i h=>h.IsListIter it a i) where
 mem:=by simp
 obj:=fun i h st b hb=>by
  have e:b=it:=by simpa using hb
  subst e
  obtain ⟨o,e,c,d⟩:=st
  exact ⟨o,e,fun v z=>by rw [d] at z;cases z⟩
 keep:=fun i h h' st k=>st.at fun o e=>k it (by simp) o e
 item:=by
  intro X hP hw hK hc i pins s σ H E I hf st hg
  subst hP hw hK
  obtain ⟨xs,x,hq,hx⟩:=hg
  obtain ⟨its,rv,p,hz⟩:=I.list hq
  obtain ⟨u,hu,ru⟩:=rv.get hx
  obtain ⟨f0,f1,f2,f3,f4,f5⟩:=hf it (by simp)
  refine wpAny_pyNext_list_item st p.isList (x:=u) (by simpa using hu) fun h' st' sb=>?_
  have I1:ag X pins σ H { s with heap:=h' }:=I.turned (t':=s.toks) (fun b o hb e=>(sb.2 b hb).trans e) f0 f1 f3 f4 f5
  obtain ⟨o,e,c,d⟩:=id st'
  exact ⟨u,rfl,yk (s:={ s with heap:=h' }) e c d (by decide) ⟨x,H,I1,ru,⟨rfl,fun ys hy=>by rw [I.list_inj hy hq];exact hx⟩,st',fun b hb=>(hf b hb).1⟩⟩
 done:=by
  intro X hP hw hK hc i pins s σ H E I hf st hg
  subst hP hw hK
  obtain ⟨xs,hq,hx⟩:=hg
  obtain ⟨its,rv,p,hz⟩:=I.list hq
  obtain ⟨f0,f1,f2,f3,f4,f5⟩:=hf it (by simp)
  have hl:=rv.length
  exact wpAny_pyNext_list_end (I.ok.hd hc) st p.isList (by simp;trivial) fun h' eb=>⟨rfl,I.turned (t':=s.toks) (fun b o hb e=>eb b o hb e) f0 f1 f3 f4 f5⟩
 self:=fun _ _ _ _ _ st h=>wpAny_pyIter_listiter st h
theorem AY {P:Program}{w:World}{K:PySem.W.Frag}{tg:Expr} (a it:Addr):sM P w K tg (yP K a) [it] it (fun i h=>h.IsTupleIter it a i) where
 mem:=by simp
 obj:=fun i h st b hb=>by
  have e:b=it:=by simpa using hb
  subst e
  obtain ⟨o,e,c,d⟩:=st
  exact ⟨o,e,fun v z=>by rw [d] at z;cases z⟩
 keep:=fun i h h' st k=>st.at fun o e=>k it (by simp) o e
 item:=by
  intro X hP hw hK hc i pins s σ H E I hf st hg
  subst hP hw hK
  obtain ⟨xs,x,hq,hx⟩:=hg
  obtain ⟨its,rv,p,hz⟩:=I.tuple hq
  obtain ⟨u,hu,ru⟩:=rv.get hx
  obtain ⟨f0,f1,f2,f3,f4,f5⟩:=hf it (by simp)
  refine wpAny_pyNext_tuple_item st (show s.heap.IsTuple a its.toArray from p) (x:=u) (by simpa using hu) fun h' st' sb=>?_
  have I1:ag X pins σ H { s with heap:=h' }:=I.turned (t':=s.toks) (fun b o hb e=>(sb.2 b hb).trans e) f0 f1 f3 f4 f5
  obtain ⟨o,e,c,d⟩:=id st'
  exact ⟨u,rfl,yk (s:={ s with heap:=h' }) e c d (by decide) ⟨x,H,I1,ru,⟨rfl,fun ys hy=>by rw [I.tuple_inj hy hq];exact hx⟩,st',fun b hb=>(hf b hb).1⟩⟩
 done:=by
  intro X hP hw hK hc i pins s σ H E I hf st hg
  subst hP hw hK
  obtain ⟨xs,hq,hx⟩:=hg
  obtain ⟨its,rv,p,hz⟩:=I.tuple hq
  obtain ⟨f0,f1,f2,f3,f4,f5⟩:=hf it (by simp)
  have hl:=rv.length
  exact wpAny_pyNext_tuple_end (I.ok.hd hc) st (show s.heap.IsTuple a its.toArray from p) (by simp;trivial) fun h' eb=>⟨rfl,I.turned (t':=s.toks) (fun b o hb e=>eb b o hb e) f0 f1 f3 f4 f5⟩
 self:=fun _ _ _ _ _ st h=>wpAny_pyIter_tupleiter st h
theorem A0 {P:Program}{w:World}{K:PySem.W.Frag}{tg:Expr} (it:Addr) (lo:Int) (n:Nat):sM P w K tg (zX lo n) [it] it (fun i h=>IsRangeIter h it (lo+(i:Nat)*1) ((n:Int) - (i:Nat)) 1) where
 mem:=by simp
 obj:=fun i h st b hb=>by
  have e:b=it:=by simpa using hb
  subst e
  exact ⟨_,st,fun v z=>by
   have z':Data.fields _=Data.cell v:=z
   cases z'⟩
 keep:=fun i h h' st k=>k it (by simp) _ st
 item:=by
  intro X hP hw hK hc i pins s σ H E I hf st hg
  subst hP hw hK
  obtain ⟨f0,f1,f2,f3,f4,f5⟩:=hf it (by simp)
  have W:=Walks.range (prog:=X.prog) (w:=X.w) (I.ok.hd hc) it lo 1 n
  refine W.item i s _ _ hg st fun v h' tk hv st' kk=>?_
  obtain ⟨t,rfl⟩:=hv
  have I1:ag X pins σ H { s with heap:=h',toks:=tk }:=I.turned (fun b o hb e=>kk b o (by simpa using hb) e) f0 f1 f3 f4 f5
  refine ⟨(),yk (s:={ s with heap:=h',toks:=tk }) (n := "range_iterator") st' rfl rfl (by decide) ⟨.int (lo+i),H,I1,⟨t,?_⟩,⟨rfl,rfl⟩,st',fun b hb=>(hf b hb).1⟩⟩
  rw [Int.mul_one]
 done:=by
  intro X hP hw hK hc i pins s σ H E I hf st hg
  subst hP hw hK
  obtain ⟨f0,f1,f2,f3,f4,f5⟩:=hf it (by simp)
  exact wpAny_pyNext_range_end (I.ok.hd hc) st (by have:n≤i:=hg;trivial) fun h' eb=>⟨rfl,I.turned (t':=s.toks) (fun b o hb e=>eb b o hb e) f0 f1 f3 f4 f5⟩
 self:=fun _ _ _ _ _ st h=>wpAny_pyIter_rangeiter st h
section
variable {X:Cx}{tg:Expr}
def E4 (K:PySem.W.Frag) (tl:TE):TI:=fun σ H R=>tl σ H fun x H1=>∃a,x=.ref a∧(∃xs,ah K H1 a xs)∧R (yr K a) H1
def GH (K:PySem.W.Frag) (tl:TE):TI:=fun σ H R=>tl σ H fun x H1=>∃a,x=.ref a∧(∃xs,ad K H1 a xs)∧R (yP K a) H1
theorem tH {l:Expr}{tl:TE} (hl:PE X l tl):PI X tg l (E4 X.K tl):=by
 intro pins s σ H R I h
 refine aS (hl pins s σ H _ I h) fun v s1 ⟨x,H1,I1,r1,q1⟩=>?_
 obtain ⟨a,e,⟨xs,hq⟩,q⟩:=q1
 subst e
 cases r1
 obtain ⟨its,rv,p,hz⟩:=I1.list hq
 refine wpAny_pyIter_list p.isList ?_
 refine ⟨s1.heap.objs.size,[s1.heap.objs.size],_,_,H1,rfl,I1.kept (t':=s1.toks) fun b o e=>Heap.get?_push_of_some _ e,CW a _,⟨_,Heap.get?_push_size _ rfl,rfl,rfl⟩,fun b hb=>?_,q⟩
 have e:b=s1.heap.objs.size:=by simpa using hb
 subst e
 exact I1.fpOk (Nat.le_refl _) (I1.hok.fresh (Nat.le_refl _))
theorem HI {l:Expr}{tl:TE} (hl:PE X l tl):PI X tg l (GH X.K tl):=by
 intro pins s σ H R I h
 refine aS (hl pins s σ H _ I h) fun v s1 ⟨x,H1,I1,r1,q1⟩=>?_
 obtain ⟨a,e,⟨xs,hq⟩,q⟩:=q1
 subst e
 cases r1
 obtain ⟨its,rv,p,hz⟩:=I1.tuple hq
 refine wpAny_pyIter_tuple (show s1.heap.IsTuple a its.toArray from p) ?_
 refine ⟨s1.heap.objs.size,[s1.heap.objs.size],_,_,H1,rfl,I1.kept (t':=s1.toks) fun b o e=>Heap.get?_push_of_some _ e,AY a _,⟨_,Heap.get?_push_size _ rfl,rfl,rfl⟩,fun b hb=>?_,q⟩
 have e:b=s1.heap.objs.size:=by simpa using hb
 subst e
 exact I1.fpOk (Nat.le_refl _) (I1.hok.fresh (Nat.le_refl _))
theorem De {pins:List (Addr×Obj)}{σ:St}{H:Hp}{s:Shared}{R:It→Hp→Prop}{E:Value→Shared→Prop}{lo hi:Int}{t u v:Tok}{tk:Nat} (I:ag X pins σ H s) (h1:-(2 ^ 62)≤lo) (h2:lo<2 ^ 62) (h3:-(2 ^ 62)≤hi) (h4:hi<2 ^ 62)
 (q:R (zX lo (hi - lo).toNat) H):wpAny (model X.prog X.w) X.A (pyIter (.ref s.heap.objs.size)) (Kl X pins σ tg R) E { s with heap:=s.heap.push { cls:=.type "range",data:=.fields #[.int lo t,.int hi u,.int 1 v] },toks:=tk }:=by
 refine wpAny_pyIter_range (IsRange.new ..) (small_one h1 h2 h3 h4) ?_
 have I1:ag X pins σ H { s with heap:=s.heap.push { cls:=.type "range",data:=.fields #[.int lo t,.int hi u,.int 1 v] },toks:=tk }:=I.kept fun b o e=>Heap.get?_push_of_some _ e
 refine ⟨(s.heap.push { cls:=.type "range",data:=.fields #[.int lo t,.int hi u,.int 1 v] }).objs.size,[(s.heap.push { cls:=.type "range",data:=.fields #[.int lo t,.int hi u,.int 1 v] }).objs.size],_,_,H,rfl,
  I1.kept (t':=tk) fun b o e=>Heap.get?_push_of_some _ e,A0 _ lo (hi - lo).toNat,?_,fun b hb=>?_,q⟩
 ·have e1:lo+((0:Nat):Int)*1=lo:=by simp
  have e2:(((hi - lo).toNat:Nat):Int) - ((0:Nat):Int)=Builtin.Range.rangeSize lo hi 1:=by rw [rangeSize_one];split <;> trivial
  show IsRangeIter _ _ (lo+((0:Nat):Int)*1) ((((hi - lo).toNat:Nat):Int) - ((0:Nat):Int)) 1
  rw [e1,e2]
  exact Heap.get?_push_size _ rfl
 ·have e:b=(s.heap.push { cls:=.type "range",data:=.fields #[.int lo t,.int hi u,.int 1 v] }).objs.size:=by simpa using hb
  subst e
  exact I1.fpOk (Nat.le_refl _) (I1.hok.fresh (Nat.le_refl _))
def Jy (ta:TA):TI:=fun σ H R=>ta σ H fun vs H1=>∃j:Int,vs=[.int j]∧-(2 ^ 62)≤j∧j<2 ^ 62∧R (zX 0 j.toNat) H1
theorem b9 {a:Expr}{ta:TA}{p pos:Pos} (hg:Gl X "range") (hm:X.mg "range" = none) (ha:PA X [a] ta) (hs:starEach [a] X.env=[(false,eval a X.env)]:=by rfl):PI X tg (.Call (.Name "range" p) [a] [] pos) (Jy ta):=by
 intro pins s σ H R I h
 refine Call_ (nh I hg hm boot_range (PyProof.Rows.callWith_type1 (aS (ha pos pins s σ H _ I h) fun us s1 ⟨vs,H1,I1,r1,q1⟩=>?_) hs rfl))
 obtain ⟨j,e,q1,q2,q⟩:=q1
 subst e
 cases r1 with
 | cons r rr=>
  cases rr
  obtain ⟨t,rfl⟩:=r
  exact call_range_1 (De I1 (by trivial) (by trivial) q1 q2 (by simpa using q))
def DO (wi:TI) (g:TG) (tb:TS):TS:=fun D σ H=>wi σ H fun J H1=>∃W:Nat→Nat→St→Hp→Prop,(∃m,W 0 m σ H1)∧∀i m σ H,W i m σ H→
 (J.stop i H∧D.nx σ H)∨(J.go i H∧∃N:St→Hp→Prop,(∀σ' H',N σ' H'→∃m',m'<m∧W (i+1) m' σ' H')∧∀x H',J.yld i H x H'→g x σ H' fun σ2 H2=>tb { D with nx:=N,ct:=N,bk:=D.nx } σ2 H2)
def nI (fp:List Addr) (h:Heap):List (Addr×Obj):=fp.filterMap fun b=>(h.get? b).map fun o=>(b,o)
theorem fO {fp:List Addr}{h:Heap}{b:Addr}{o:Obj} (hb:b∈fp) (e:h.get? b=some o):(b,o)∈nI fp h:=List.mem_filterMap.mpr ⟨b,hb,by rw [e];rfl⟩
theorem Cw {fp:List Addr}{h:Heap}{p:Addr×Obj} (hp:p∈nI fp h):p.1∈fp∧h.get? p.1=some p.2:=by
 obtain ⟨b,hb,e⟩:=List.mem_filterMap.mp hp
 cases q:h.get? b with
 | none=>rw [q] at e;cases e
 | some o=>
  rw [q] at e
  have e':(b,o)=p:=Option.some.inj e
  subst e'
  exact ⟨hb,q⟩
theorem ag.pinned {pins:List (Addr×Obj)}{σ:St}{H:Hp}{s:Shared}{fp:List Addr} (I:ag X pins σ H s) (hf:∀b∈fp,jD X pins H b) (ho:∀b∈fp,∃o,s.heap.get? b=some o∧∀v,o.data≠.cell v):ag X (pins++nI fp s.heap) σ H s:=
 I.pins_of fun p hp=>(List.mem_append.mp hp).elim (fun z=>I.pin p (List.mem_append_right _ z)) fun z=>by
  obtain ⟨hb,e⟩:=Cw z
  obtain ⟨f0,f1,f2,_⟩:=hf p.1 hb
  obtain ⟨o,e',d⟩:=ho p.1 hb
  rw [e] at e';cases e'
  exact ⟨e,f0,f1,f2,d⟩
theorem ag.unpinned {pins pl:List (Addr×Obj)}{σ:St}{H:Hp}{s:Shared} (I:ag X (pins++pl) σ H s):ag X pins σ H s:=I.pins_of fun p hp=>I.pin p (List.mem_append_right _ (List.mem_append_left _ hp))
theorem cN {iter:Expr}{body:List Stmt}{wi:TI}{g:TG}{tb:TS}{pos:Pos} (hp:PassesOwn (model X.prog X.w) X.A X.env X.xe) (hc:X.calm=true) (hi:PI X tg iter wi) (hg:PG X tg g) (hb:pQ X body tb)
 (hs:∀x,foldedSetIterable iter X.env x=pure x:=by intro _;rfl):PS X (.For tg iter body [] pos) (DO wi g tb):=by
 intro pins s σ H D I h
 refine wpAny_For (aS (hi pins s σ H _ I h) fun v s1 h1=>aS h1 fun itv s2 h2=>?_) hs
 obtain ⟨it,fp,tn,J,H2,e,I2,T,st2,f2,W,⟨m0,w0⟩,turn⟩:=h2
 subst e
 have stat:∀{H':Hp},(∀b∈fp,H' b=none)→∀b∈fp,jD X pins H' b:=fun hn b hb=>⟨hn b hb,(f2 b hb).2⟩
 refine codeAny_forLoop_any (fun n s'=>∃i σ' H',ag X pins σ' H' s'∧tn i s'.heap∧(∀b∈fp,H' b=none)∧W i n σ' H') ?_ m0 ⟨0,σ,H2,I2,st2,fun b hb=>(f2 b hb).1,w0⟩
 rintro n s3 ⟨i,σ3,H3,I3,st3,fr3,w3⟩
 rcases turn i n σ3 H3 w3 with ⟨stop,qn⟩ | ⟨go,N,hN,step⟩
 ·refine wpAny_passesOwn hp (aS (T.done X rfl rfl rfl hc i pins s3 σ3 H3 X.xe I3 (stat fr3) st3 stop) fun r s4 ⟨hr,I4⟩=>?_)
  subst hr
  exact wpAny_execs_nil ⟨σ3,H3,I4,qn⟩
 ·refine wpAny_passesOwn hp (aS (T.item X rfl rfl rfl hc i pins s3 σ3 H3 X.xe I3 (stat fr3) st3 go) fun r s4 ⟨u,hr,h4⟩=>?_)
  subst hr
  refine wpAny_passesOwn hp (aS h4 fun _ s5 ⟨x,H5,I5,r5,y5,st5,fr5⟩=>?_)
  have I5':=I5.pinned (stat fr5) (T.obj _ _ st5)
  refine wpAny_passesOwn hp (aS (hg _ s5 σ3 H5 x u _ I5' r5 (step x H5 y5)) fun _ s6 ⟨σ6,H6,I6,q6⟩=>?_)
  refine wpAny_passesOwn hp (aS (hb _ s6 σ6 H6 _ I6 q6) fun f s7 q7=>?_)
  have again:∀{σ7:St}{H7:Hp},ag X (pins++nI fp s5.heap) σ7 H7 s7→N σ7 H7→∃m,m<n∧∃i σ' H',ag X pins σ' H' s7∧tn i s7.heap∧(∀b∈fp,H' b=none)∧W i m σ' H':=fun {σ7 H7} I7 n7=>by
   obtain ⟨m',hm,w7⟩:=hN σ7 H7 n7
   refine ⟨m',hm,i+1,σ7,H7,I7.unpinned,T.keep _ _ _ st5 fun b hb o e=>(I7.pin (b,o) (List.mem_append_right _ (List.mem_append_right _ (fO hb e)))).1,fun b hb=>?_,w7⟩
   obtain ⟨o,e,d⟩:=T.obj _ _ st5 b hb
   exact (I7.pin (b,o) (List.mem_append_right _ (List.mem_append_right _ (fO hb e)))).2.1
  cases f with
  | next=>obtain ⟨σ7,H7,I7,n7⟩:=q7;exact again I7 n7
  | cont=>obtain ⟨σ7,H7,I7,n7⟩:=q7;exact again I7 n7
  | brk=>obtain ⟨σ7,H7,I7,q7⟩:=q7;exact ⟨σ7,H7,I7.unpinned,q7⟩
  | ret v=>obtain ⟨x7,σ7,H7,I7,r7,q7⟩:=q7;exact ⟨x7,σ7,H7,I7.unpinned,r7,q7⟩
end
theorem yE {K:PySem.W.Frag}{a:Addr}{xs:List V}{g:TG}{tb:TS}{D:fW}{σ:St}{H:Hp} (Pv:Nat→St→Hp→Prop) (h0:Pv 0 σ H) (hl:∀i σ H,i≤xs.length→Pv i σ H→ah K H a xs)
 (hs:∀i x σ H,xs[i]?=some x→Pv i σ H→g x σ H fun σ2 H2=>tb { D with nx:=Pv (i+1),ct:=Pv (i+1),bk:=D.nx } σ2 H2) (hd:∀σ H,Pv xs.length σ H→D.nx σ H) :
 ∃W:Nat→Nat→St→Hp→Prop,(∃m,W 0 m σ H)∧∀i m σ H,W i m σ H→
  ((yr K a).stop i H∧D.nx σ H)∨((yr K a).go i H∧∃N:St→Hp→Prop,(∀σ' H',N σ' H'→∃m',m'<m∧W (i+1) m' σ' H')∧∀x H',(yr K a).yld i H x H'→g x σ H' fun σ2 H2=>tb { D with nx:=N,ct:=N,bk:=D.nx } σ2 H2):=by
 refine ⟨fun i m σ H=>m=xs.length - i∧i≤xs.length∧Pv i σ H,⟨xs.length,by simp,Nat.zero_le _,h0⟩,?_⟩
 rintro i m σ H ⟨rfl,hi,p⟩
 have q:=hl i σ H hi p
 by_cases hlt:i<xs.length
 ·refine .inr ⟨⟨xs,xs[i],q,by simp [hlt]⟩,Pv (i+1),fun σ' H' p'=>⟨xs.length - (i+1),by trivial,rfl,hlt,p'⟩,fun x H' y=>?_⟩
  obtain ⟨e,y⟩:=y
  subst e
  exact hs i x σ _ (y xs q) p
 ·have e:i=xs.length:=by trivial
  subst e
  exact .inl ⟨⟨xs,q,Nat.le_refl _⟩,hd σ H p⟩
theorem wc {K:PySem.W.Frag}{a:Addr}{xs:List V}{g:TG}{tb:TS}{D:fW}{σ:St}{H:Hp} (Pv:Nat→St→Hp→Prop) (h0:Pv 0 σ H) (hl:∀i σ H,i≤xs.length→Pv i σ H→ad K H a xs)
 (hs:∀i x σ H,xs[i]?=some x→Pv i σ H→g x σ H fun σ2 H2=>tb { D with nx:=Pv (i+1),ct:=Pv (i+1),bk:=D.nx } σ2 H2) (hd:∀σ H,Pv xs.length σ H→D.nx σ H) :
 ∃W:Nat→Nat→St→Hp→Prop,(∃m,W 0 m σ H)∧∀i m σ H,W i m σ H→
  ((yP K a).stop i H∧D.nx σ H)∨((yP K a).go i H∧∃N:St→Hp→Prop,(∀σ' H',N σ' H'→∃m',m'<m∧W (i+1) m' σ' H')∧∀x H',(yP K a).yld i H x H'→g x σ H' fun σ2 H2=>tb { D with nx:=N,ct:=N,bk:=D.nx } σ2 H2):=by
 refine ⟨fun i m σ H=>m=xs.length - i∧i≤xs.length∧Pv i σ H,⟨xs.length,by simp,Nat.zero_le _,h0⟩,?_⟩
 rintro i m σ H ⟨rfl,hi,p⟩
 have q:=hl i σ H hi p
 by_cases hlt:i<xs.length
 ·refine .inr ⟨⟨xs,xs[i],q,by simp [hlt]⟩,Pv (i+1),fun σ' H' p'=>⟨xs.length - (i+1),by trivial,rfl,hlt,p'⟩,fun x H' y=>?_⟩
  obtain ⟨e,y⟩:=y
  subst e
  exact hs i x σ _ (y xs q) p
 ·have e:i=xs.length:=by trivial
  subst e
  exact .inl ⟨⟨xs,q,Nat.le_refl _⟩,hd σ H p⟩
theorem iF {lo:Int}{n:Nat}{g:TG}{tb:TS}{D:fW}{σ:St}{H:Hp} (Pv:Nat→St→Hp→Prop) (h0:Pv 0 σ H)
 (hs:∀i σ H,i<n→Pv i σ H→g (.int (lo+i)) σ H fun σ2 H2=>tb { D with nx:=Pv (i+1),ct:=Pv (i+1),bk:=D.nx } σ2 H2) (hd:∀σ H,Pv n σ H→D.nx σ H) :
 ∃W:Nat→Nat→St→Hp→Prop,(∃m,W 0 m σ H)∧∀i m σ H,W i m σ H→
  ((zX lo n).stop i H∧D.nx σ H)∨((zX lo n).go i H∧∃N:St→Hp→Prop,(∀σ' H',N σ' H'→∃m',m'<m∧W (i+1) m' σ' H')∧∀x H',(zX lo n).yld i H x H'→g x σ H' fun σ2 H2=>tb { D with nx:=N,ct:=N,bk:=D.nx } σ2 H2):=by
 refine ⟨fun i m σ H=>m=n - i∧i≤n∧Pv i σ H,⟨n,by simp,Nat.zero_le _,h0⟩,?_⟩
 rintro i m σ H ⟨rfl,hi,p⟩
 by_cases hlt:i<n
 ·refine .inr ⟨hlt,Pv (i+1),fun σ' H' p'=>⟨n - (i+1),by trivial,rfl,hlt,p'⟩,fun x H' y=>?_⟩
  obtain ⟨e,y⟩:=y
  subst e y
  exact hs i σ _ hlt p
 ·have e:i=n:=by trivial
  subst e
  exact .inl ⟨Nat.le_refl _,hd σ H p⟩
abbrev R2:=V→V→Hp→VK→Prop
def cU (X:Cx) (f:Value→Value→Sem Value) (r:R2):Prop:=
 ∀(pins:List (Addr×Obj)) (s:Shared) (σ:St) (H:Hp) (x y:V) (v u:Value) (Q:VK),ag X pins σ H s→bj x v→bj y u→r x y H Q→
   wpAny (model X.prog X.w) X.A (f v u) (EP X pins σ Q) X.xe s
def E5 (X:Cx) (f:Value→Sem Value) (r:V→Hp→VK→Prop):Prop:=
 ∀(pins:List (Addr×Obj)) (s:Shared) (σ:St) (H:Hp) (x:V) (v:Value) (Q:VK),ag X pins σ H s→bj x v→r x H Q→
   wpAny (model X.prog X.w) X.A (f v) (EP X pins σ Q) X.xe s
def d8 (X:Cx) (f:Value) (r:List V→Hp→VK→Prop):Prop:=
 ∀(pins:List (Addr×Obj)) (s:Shared) (σ:St) (H:Hp) (xs:List V) (us:List Value) (Q:VK),ag X pins σ H s→aL xs us→r xs H Q→
   wpAny (model X.prog X.w) X.A (call f us) (EP X pins σ Q) X.xe s
def EM (r:R2) (ta tb:TE):TE:=fun σ H Q=>ta σ H fun x H1=>tb σ H1 fun y H2=>r x y H2 Q
def Lq (r:V→Hp→VK→Prop) (ta:TE):TE:=fun σ H Q=>ta σ H fun x H1=>r x H1 Q
inductive Ll (C:Int→Int→Prop) (g:Int→Int→V) (x:V) (y:V) (H:Hp) (Q:VK):Prop
 | mk (i:_) (j:_) (h0:x=.int i) (h1:y=.int j) (h2:C i j) (h3:Q (g i j) H)
def rI (C:Int→Int→Prop) (g:Int→Int→V):R2:=fun x y H Q=>Ll C g x y H Q
inductive KA (g:Int→Int→V) (x:V) (y:V) (H:Hp) (Q:VK):Prop
 | mk (i:_) (j:_) (h0:x=.int i) (h1:y=.int j) (h2:Q (g i j) H)
def xo (g:Int→Int→V):R2:=fun x y H Q=>KA g x y H Q
def rU (g:Int→V):V→Hp→VK→Prop:=fun x H Q=>HG x fun i=>Q (g i) H
section
variable {X:Cx}{a b c:Expr}{ta tb tc:TE}{pos:Pos}
theorem Ev (ha:PE X a ta) (hb:PE X b tb) {pins:List (Addr×Obj)}{s:Shared}{σ:St}{H:Hp}{R:V→V→Hp→Prop} (I:ag X pins σ H s)
 (h:ta σ H fun x H1=>tb σ H1 fun y H2=>R x y H2) {Q:Value→Shared→Prop}{f:Value→Value→Sem Value}
 (hf:∀v u s2 x y H2,ag X pins σ H2 s2→bj x v→bj y u→R x y H2→wpAny (model X.prog X.w) X.A (f v u) Q X.xe s2) :
 wpAny (model X.prog X.w) X.A (eval a X.env) (fun v s₁=>wpAny (model X.prog X.w) X.A (eval b X.env) (fun u s₂=>wpAny (model X.prog X.w) X.A (f v u) Q X.xe s₂) X.xe s₁) X.xe s:=by
 refine aS (ha pins s σ H _ I h) fun v s1 ⟨x,H1,I1,r1,q1⟩=>?_
 refine aS (hb pins s1 σ H1 _ I1 q1) fun u s2 ⟨y,H2,I2,r2,q2⟩=>?_
 exact hf v u s2 x y H2 I2 r1 r2 q2
theorem aj {op:Operator}{r:R2} (ho:cU X (binaryOp op) r) (ha:PE X a ta) (hb:PE X b tb):PE X (.BinOp a op b pos) (EM r ta tb):=by
 intro pins s σ H Q I h
 exact wpAny_BinOp (Ev ha hb I h fun v u s2 x y H2 I2 rx ry q=>ho pins s2 σ H2 x y v u Q I2 rx ry q)
theorem jV {op:UnaryOp}{r:V→Hp→VK→Prop} (ho:E5 X (unaryOp op) r) (ha:PE X a ta):PE X (.UnaryOp op a pos) (Lq r ta):=by
 intro pins s σ H Q I h
 exact UnaryOp_ (aS (ha pins s σ H _ I h) fun v s1 ⟨x,H1,I1,r1,q1⟩=>ho pins s1 σ H1 x v Q I1 r1 q1)
theorem xA {f:Value→Value→Sem Value}{C:Int→Int→Prop}{g:Int→Int→Int}
 (rule:∀(i j:Int) (t u:Tok) (s:Shared) (Q:Value→Shared→Prop) (E:Value→Shared→Prop),C i j→Q (.int (g i j) s.toks) { s with toks:=s.toks+1 }→wpAny (model X.prog X.w) X.A (f (.int i t) (.int j u)) Q E s) :
 cU X f (rI C fun i j=>.int (g i j)):=by
 intro pins s σ H x y v u Q I rx ry h
 obtain ⟨i,j,rfl,rfl,hc,q⟩:=h
 obtain ⟨t,rfl⟩:=rx
 obtain ⟨t',rfl⟩:=ry
 exact rule i j t t' s _ _ hc ⟨.int (g i j),H,I.tok _,⟨()⟩,q⟩
theorem GS {f:Value→Value→Sem Value}{g:Int→Int→Int}
 (rule:∀(i j:Int) (t u:Tok) (s:Shared) (Q:Value→Shared→Prop) (E:Value→Shared→Prop),Q (.int (g i j) s.toks) { s with toks:=s.toks+1 }→wpAny (model X.prog X.w) X.A (f (.int i t) (.int j u)) Q E s) :
 cU X f (xo fun i j=>.int (g i j)):=by
 intro pins s σ H x y v u Q I rx ry h
 obtain ⟨i,j,rfl,rfl,q⟩:=h
 obtain ⟨t,rfl⟩:=rx
 obtain ⟨t',rfl⟩:=ry
 exact rule i j t t' s _ _ ⟨.int (g i j),H,I.tok _,⟨()⟩,q⟩
theorem AX {f:Value→Value→Sem Value}{g:Int→Int→Bool}
 (rule:∀(i j:Int) (t u:Tok) (s:Shared) (Q:Value→Shared→Prop) (E:Value→Shared→Prop),Q (.bool (g i j)) s→wpAny (model X.prog X.w) X.A (f (.int i t) (.int j u)) Q E s) :
 cU X f (xo fun i j=>.bl (g i j)):=by
 intro pins s σ H x y v u Q I rx ry h
 obtain ⟨i,j,rfl,rfl,q⟩:=h
 obtain ⟨t,rfl⟩:=rx
 obtain ⟨t',rfl⟩:=ry
 exact rule i j t t' s _ _ ⟨.bl (g i j),H,I,rfl,q⟩
def Lc (i j:Int):Prop:=0<j∧j<1073741824
def Kx (i j:Int):Prop:=0≤j∧j≤1000000∧i.natAbs<2 ^ 64
def AJ (i j:Int):Prop:=(-(2 ^ 64)<i∧i<2 ^ 64)∨(-(2 ^ 64)<j∧j<2 ^ 64)
theorem AJ.ok {i j:Int} (h:AJ i j):IntMulOk i j:=by
 rcases h with ⟨h1,h2⟩ | ⟨h1,h2⟩
 ·exact .of_left (intBits_le_64 h1 h2)
 ·exact .of_right (intBits_le_64 h1 h2)
theorem bi:cU X (binaryOp .Add) (xo fun i j=>.int (i+j)):=GS fun _ _ _ _ _ _ _ q=>add_int q
theorem lV:cU X (binaryOp .Sub) (xo fun i j=>.int (i - j)):=GS fun _ _ _ _ _ _ _ q=>sub_int q
theorem fh:cU X (binaryOp .Mult) (rI AJ fun i j=>.int (i*j)):=xA fun _ _ _ _ _ _ _ hc q=>mul_int q hc.ok
theorem FJ:cU X (binaryOp .FloorDiv) (rI Lc fun i j=>.int (i / j)):=xA fun i j _ _ _ _ _ hc q=>by
 have h1:(0:Int)<j:=hc.1
 have h2:j<1073741824:=hc.2
 exact floordiv_int (by trivial) (by rw [Int.fdiv_eq_ediv_of_nonneg i (by trivial)];exact q) (.inl (PyProof.noPylong_small (by trivial)))
theorem jS:cU X (binaryOp .Mod) (rI (fun _ j=>0<j) fun i j=>.int (i % j)):=xA fun i j _ _ _ _ _ hc q=>by
 have h1:(0:Int)<j:=hc
 exact mod_int' (by trivial) (by rw [Int.fmod_eq_emod_of_nonneg i (by trivial)];exact q)
theorem FR:cU X (binaryOp .Mod) (rI (fun _ j=>j≠0) fun i j=>.int (i.fmod j)):=xA fun _ _ _ _ _ _ _ hc q=>mod_int' hc q
theorem yT:cU X (binaryOp .Pow) (rI Kx fun i j=>.int (i ^ j.toNat)):=xA fun _ _ _ _ _ _ _ hc q=>pow_int_small hc.1 hc.2.1 hc.2.2 q
theorem Lk {f:Value→Sem Value}{g:Int→Int}
 (rule:∀(i:Int) (t:Tok) (s:Shared) (Q:Value→Shared→Prop) (E:Value→Shared→Prop),Q (.int (g i) s.toks) { s with toks:=s.toks+1 }→wpAny (model X.prog X.w) X.A (f (.int i t)) Q E s) :
 E5 X f (rU fun i=>.int (g i)):=by
 intro pins s σ H x v Q I rx h
 obtain ⟨i,rfl,q⟩:=h
 obtain ⟨t,rfl⟩:=rx
 exact rule i t s _ _ ⟨.int (g i),H,I.tok _,⟨()⟩,q⟩
theorem i6:E5 X (unaryOp .USub) (rU fun i=>.int (-i)):=Lk fun _ _ _ _ _ q=>neg_int q
end
def Hg:V→V→Bool
 | .non,.non=>true | .non,.int _=>true | .int _,.non=>true | .non,.bl _=>true | .bl _,.non=>true | .non,.str _=>true | .str _,.non=>true
 | .int _,.int _=>true | .bl _,.bl _=>true | .str _,.str _=>true | .byt _,.byt _=>true
 | .int _,.str _=>true | .str _,.int _=>true | .bl _,.str _=>true | .str _,.bl _=>true
 | _,_=>false
def Lx:R2:=fun x y H Q=>Hg x y=true∧Q (.bl (decide (x=y))) H
def Lo:R2:=fun x y H Q=>Hg x y=true∧Q (.bl (!decide (x=y))) H
theorem Az {i j:Int}:decide (V.int i=V.int j)=(i==j):=by
 rw [Bool.eq_iff_iff]
 simp
theorem BL {i j:Bool}:decide (V.bl i=V.bl j)=(i==j):=by
 rw [Bool.eq_iff_iff]
 simp
theorem Aj {i j:Str}:decide (V.str i=V.str j)=(i==j):=by
 rw [Bool.eq_iff_iff]
 simp
theorem An {i j:Array UInt8}:decide (V.byt i=V.byt j)=(i.toList==j.toList):=by
 rw [Bool.eq_iff_iff]
 cases i
 cases j
 simp
section
variable {X:Cx}{a b c:Expr}{ta tb tc:TE}{pos:Pos}
theorem bL {pins:List (Addr×Obj)}{σ:St}{H:Hp}{s:Shared}{Q:VK}{k k':Bool} (I:ag X pins σ H s) (q:Q (.bl k) H) (e:k=k'):EP X pins σ Q (.bool k') s:=by
 subst e
 exact ⟨.bl k,H,I,rfl,q⟩
theorem b8:cU X (compareOp .Eq) Lx:=by
 intro pins s σ H x y v u Q I rx ry h
 obtain ⟨hs,q⟩:=h
 cases x with
 | non=>
  cases rx
  cases y with
  | non=>cases ry;exact PySem.EqNone.eq_none_none (bL I q (by simp))
  | bl j=>cases ry;exact PySem.EqNone.eq_none_bool (bL I q (by simp))
  | int j=>obtain ⟨t',rfl⟩:=ry;exact PySem.EqNone.eq_none_int (bL I q (by simp))
  | str j=>obtain ⟨t',rfl⟩:=ry;exact PySem.EqNone.eq_none_str (bL I q (by simp))
  | _=>exact absurd (show false=true from hs) Bool.false_ne_true
 | bl i=>
  cases rx
  cases y with
  | non=>cases ry;exact PySem.EqNone.eq_bool_none (bL I q (by simp))
  | bl j=>cases ry;exact eq_bool (bL I q BL)
  | str j=>obtain ⟨t',rfl⟩:=ry;exact PySem.EqMixed.eq_bool_str (bL I q (by simp))
  | _=>exact absurd (show false=true from hs) Bool.false_ne_true
 | int i=>
  obtain ⟨t,rfl⟩:=rx
  cases y with
  | non=>cases ry;exact PySem.EqNone.eq_int_none (bL I q (by simp))
  | int j=>obtain ⟨t',rfl⟩:=ry;exact eq_int (bL I q Az)
  | str j=>obtain ⟨t',rfl⟩:=ry;exact PySem.EqMixed.eq_int_str (bL I q (by simp))
  | _=>exact absurd (show false=true from hs) Bool.false_ne_true
 | str i=>
  obtain ⟨t,rfl⟩:=rx
  cases y with
  | non=>cases ry;exact PySem.EqNone.eq_str_none (bL I q (by simp))
  | bl j=>cases ry;exact PySem.EqMixed.eq_str_bool (bL I q (by simp))
  | int j=>obtain ⟨t',rfl⟩:=ry;exact PySem.EqMixed.eq_str_int (bL I q (by simp))
  | str j=>obtain ⟨t',rfl⟩:=ry;exact eq_str (bL I q Aj)
  | _=>exact absurd (show false=true from hs) Bool.false_ne_true
 | byt i=>
  obtain ⟨t,rfl⟩:=rx
  cases y with
  | byt j=>obtain ⟨t',rfl⟩:=ry;exact PySem.W.eq_bytes (bL I q An)
  | _=>exact absurd (show false=true from hs) Bool.false_ne_true
 | _=>cases y <;> exact absurd (show false=true from hs) Bool.false_ne_true
theorem jH:cU X (compareOp .NotEq) Lo:=by
 intro pins s σ H x y v u Q I rx ry h
 obtain ⟨hs,q⟩:=h
 cases x with
 | non=>
  cases rx
  cases y with
  | non=>cases ry;exact PySem.EqNone.ne_none_none (bL I q (by simp))
  | bl j=>cases ry;exact PySem.EqNone.ne_none_bool (bL I q (by simp))
  | int j=>obtain ⟨t',rfl⟩:=ry;exact PySem.EqNone.ne_none_int (bL I q (by simp))
  | str j=>obtain ⟨t',rfl⟩:=ry;exact PySem.EqNone.ne_none_str (bL I q (by simp))
  | _=>exact absurd (show false=true from hs) Bool.false_ne_true
 | bl i=>
  cases rx
  cases y with
  | non=>cases ry;exact PySem.EqNone.ne_bool_none (bL I q (by simp))
  | bl j=>cases ry;exact ne_bool (bL I q (congrArg not BL))
  | str j=>obtain ⟨t',rfl⟩:=ry;exact PySem.EqMixed.ne_bool_str (bL I q (by simp))
  | _=>exact absurd (show false=true from hs) Bool.false_ne_true
 | int i=>
  obtain ⟨t,rfl⟩:=rx
  cases y with
  | non=>cases ry;exact PySem.EqNone.ne_int_none (bL I q (by simp))
  | int j=>obtain ⟨t',rfl⟩:=ry;exact ne_int (bL I q (congrArg not Az))
  | str j=>obtain ⟨t',rfl⟩:=ry;exact PySem.EqMixed.ne_int_str (bL I q (by simp))
  | _=>exact absurd (show false=true from hs) Bool.false_ne_true
 | str i=>
  obtain ⟨t,rfl⟩:=rx
  cases y with
  | non=>cases ry;exact PySem.EqNone.ne_str_none (bL I q (by simp))
  | bl j=>cases ry;exact PySem.EqMixed.ne_str_bool (bL I q (by simp))
  | int j=>obtain ⟨t',rfl⟩:=ry;exact PySem.EqMixed.ne_str_int (bL I q (by simp))
  | str j=>obtain ⟨t',rfl⟩:=ry;exact ne_str (bL I q (congrArg not Aj))
  | _=>exact absurd (show false=true from hs) Bool.false_ne_true
 | byt i=>
  obtain ⟨t,rfl⟩:=rx
  cases y with
  | byt j=>obtain ⟨t',rfl⟩:=ry;exact PySem.W.ne_bytes (bL I q (congrArg not An))
  | _=>exact absurd (show false=true from hs) Bool.false_ne_true
 | _=>cases y <;> exact absurd (show false=true from hs) Bool.false_ne_true
theorem gJ:cU X (compareOp .Lt) (xo fun i j=>.bl (decide (i<j))):=AX fun _ _ _ _ _ _ _ q=>lt_int q
theorem AU:cU X (compareOp .LtE) (xo fun i j=>.bl (decide (i≤j))):=AX fun _ _ _ _ _ _ _ q=>le_int q
theorem oO:cU X (compareOp .Gt) (xo fun i j=>.bl (decide (j<i))):=AX fun _ _ _ _ _ _ _ q=>gt_int q
theorem tu:cU X (compareOp .GtE) (xo fun i j=>.bl (decide (j≤i))):=AX fun _ _ _ _ _ _ _ q=>ge_int q
theorem lJ (b:Expr) {op:CmpOp} (h:op≠.In:=by decide) (h2:op≠.NotIn:=by decide):behindInMarks op b=false:=by
 have e1:(op==CmpOp.In)=false:=by cases op <;> first | rfl | exact absurd rfl h
 have e2:(op==CmpOp.NotIn)=false:=by cases op <;> first | rfl | exact absurd rfl h2
 cases b <;> simp [behindInMarks,e1,e2]
theorem bH {op:CmpOp}{r:R2} (ho:cU X (compareOp op) r) (ha:PE X a ta) (hb:PE X b tb) (hm:behindInMarks op b=false):PE X (.Compare a [op] [b] pos) (EM r ta tb):=by
 intro pins s σ H Q I h
 exact wpAny_Compare1 (Ev ha hb I h fun v u s2 x y H2 I2 rx ry q=>ho pins s2 σ H2 x y v u Q I2 rx ry q) hm
def Ju (t:TE):TT:=fun σ H Q=>t σ H fun x H'=>AV x fun k=>Q k H'
theorem aH {op:CmpOp}{r:R2} (ho:cU X (compareOp op) r) (ha:PE X a ta) (hb:PE X b tb) (hm:behindInMarks op b=false):PT X (.Compare a [op] [b] pos) (Ju (EM r ta tb)):=by
 intro pins s σ H Q I h
 refine wpAny_isTrue_Compare1 (aS (ha pins s σ H _ I h) fun v s1 ⟨x,H1,I1,r1,q1⟩=>aS (hb pins s1 σ H1 _ I1 q1) fun u s2 ⟨y,H2,I2,r2,q2⟩=>
  aS (ho pins s2 σ H2 x y v u _ I2 r1 r2 q2) fun c s3 ⟨z,H3,I3,r3,k,e,q3⟩=>?_) hm
 subst e
 cases r3
 exact wpAny_truthy_bool ⟨H3,I3,q3⟩
theorem sB:(sizeLine:Nat)<2 ^ 63:=by rw [sizeLine_eq];decide
theorem Bf:cU X (binaryOp .Add) (fun x y H Q=>bP fun i j=>x=.str i∧y=.str j∧i.length+j.length≤sizeLine∧Q (.str (i++j)) H):=by
 intro pins s σ H x y v u Q I rx ry h
 obtain ⟨i,j,rfl,rfl,hz,q⟩:=h
 obtain ⟨t,rfl⟩:=rx
 obtain ⟨t',rfl⟩:=ry
 exact add_str (fun t' tk=>⟨.str (i++j),H,I.tok _,⟨()⟩,q⟩) hz
theorem oD {x:V}{us:List Value} (r:aL [x] us):∃u,us=[u]∧bj x u:=by
 cases r with
 | cons r1 r2=>cases r2;exact ⟨_,rfl,r1⟩
theorem A8 {x y:V}{us:List Value} (r:aL [x,y] us):bP fun u w'=>us=[u,w']∧bj x u∧bj y w':=by
 cases r with
 | cons r1 r2=>
  cases r2 with
  | cons r3 r4=>cases r4;exact ⟨_,_,rfl,r1,r3⟩
theorem ny:d8 X (.builtin "abs") (fun xs H Q=>∃i,xs=[.int i]∧Q (.int (if i<0 then -i else i)) H):=by
 intro pins s σ H xs us Q I r h
 obtain ⟨i,rfl,q⟩:=h
 obtain ⟨u,rfl,t,rfl⟩:=oD r
 exact call_abs_int fun u tk=>⟨.int (if i<0 then -i else i),H,I.tok _,⟨()⟩,q⟩
theorem CC (hc:X.calm=true):d8 X (.builtin "max") (fun xs H Q=>bP fun i j=>xs=[.int i,.int j]∧Q (.int (if j > i then j else i)) H):=by
 intro pins s σ H xs us Q I r h
 obtain ⟨i,j,rfl,q⟩:=h
 obtain ⟨u,w',rfl,⟨t,rfl⟩,⟨t',rfl⟩⟩:=A8 r
 refine max_two_ints (I.ok.hd hc) fun h' tk k=>⟨_,H,I.kept k,?_,q⟩
 by_cases hj:j > i
 ·rw [if_pos hj,if_pos hj];exact ⟨()⟩
 ·rw [if_neg hj,if_neg hj];exact ⟨()⟩
theorem BM (hc:X.calm=true):d8 X (.builtin "min") (fun xs H Q=>bP fun i j=>xs=[.int i,.int j]∧Q (.int (if j<i then j else i)) H):=by
 intro pins s σ H xs us Q I r h
 obtain ⟨i,j,rfl,q⟩:=h
 obtain ⟨u,w',rfl,⟨t,rfl⟩,⟨t',rfl⟩⟩:=A8 r
 refine min_two_ints (I.ok.hd hc) fun h' tk k=>⟨_,H,I.kept k,?_,q⟩
 by_cases hj:j<i
 ·rw [if_pos hj,if_pos hj];exact ⟨()⟩
 ·rw [if_neg hj,if_neg hj];exact ⟨()⟩
theorem iD:d8 X (.type "int") (fun xs H Q=>(∃i,xs=[.int i]∧Q (.int i) H)∨∃k,xs=[.bl k]∧Q (.int (if k then 1 else 0)) H):=by
 intro pins s σ H xs us Q I r h
 rcases h with ⟨i,rfl,q⟩ | ⟨k,rfl,q⟩
 ·obtain ⟨u,rfl,t,rfl⟩:=oD r
  exact call_int_int ⟨.int i,H,I,⟨()⟩,q⟩
 ·obtain ⟨u,rfl,r1⟩:=oD r
  cases r1
  exact call_int_bool ⟨.int (if k then 1 else 0),H,I.tok _,⟨()⟩,q⟩
end
structure Es (h:Heap) (x dx C:Addr) (mA:Str→Option Value):Prop where
 obj:h.get? x=some (PySem.W.instObj C dx)
 ns:h.Ns1 dx mA
 ne:dx≠x
theorem BN {h:Heap}{dx:Addr}{mA:Str→Option Value} (n:h.Ns1 dx mA):∃od,h.get? dx=some od∧∀name,PySem.W.lookIn name od=some (mA name):=by
 obtain ⟨o,es,ep,ho,hd,hk,_,hm⟩:=n
 refine ⟨o,ho,fun name=>?_⟩
 have e:=hm name
 unfold nsFind findBy at e
 rw [←Array.find?_toList] at e
 unfold PySem.W.lookIn
 rw [hd]
 dsimp only
 split
 ·rename_i y q
  rw [q] at e
  exact congrArg some e
 ·rename_i q
  rw [q] at e
  have a:es.toList.any (·.refKey)=false:=by
   rw [List.any_eq_false]
   intro y hy
   obtain ⟨z,t,hkey⟩:=hk y (Array.mem_toList_iff.mp hy)
   simp [DictEntry.refKey,hkey]
  have a':¬es.toList.any (·.refKey)=true:=by rw [a];exact Bool.false_ne_true
  rw [if_neg a']
  exact congrArg some e
theorem Es.look {h:Heap}{x dx C:Addr}{mA:Str→Option Value} (I:Es h x dx C mA):∃od,PySem.W.InstAt h x (PySem.W.instObj C dx) C (some od)∧∀name,PySem.W.lookIn name od=some (mA name):=
 let ⟨od,ho,hl⟩:=BN I.ns
 ⟨od,⟨I.obj,rfl,rfl,ho⟩,hl⟩
section
variable {prog:Program}{w:World}{A:Around}{E:Value→Shared→Prop}{s:Shared}{K:PySem.W.Frag}{x dx C f:Addr}{mA:Str→Option Value}{name:Str}{v:Value}
end
section
variable {P:Program}{w:World}{H H':Hp}{h h':Heap}{a C dx:Addr}{fs fs':List (Str×V)}
theorem Gj (hok:gf P w H h) (e:H a=some (.ins C dx fs)):∃mA,Es h a dx C mA∧(∀f,Ec (fs.lookup f) (mA f))∧PySem.Within mA (fs.map (·.1))∧fs.length≤1000∧H dx=some (.own a):=by
 obtain ⟨d,z,ne,ob,mA,n,r,q⟩:=(show bU P w H h a (.ins C dx fs) from hok a _ e)
 exact ⟨mA,⟨ob,n,ne⟩,r,q,z,d⟩
end
structure Hx (K:PySem.W.Frag) (C:Addr):Prop where
 pg:PySem.W.plainGet K C Str.empty=true
 hd:PySem.W.hasDictIn K C=true
 po:PySem.W.plainOver K C=true
 sa:PySem.W.findIn K (.ref C) "__setattr__" = some (some (.builtin "object.__setattr__"))
theorem Hx.get {K:PySem.W.Frag}{C:Addr} (c:Hx K C) (f:Str):PySem.W.plainGet K C f=true:=c.pg
section
variable {X:Cx}{pins:List (Addr×Obj)}{σ:St}{H:Hp}{s:Shared}{a C dx:Addr}{fs:List (Str×V)}{f:Str}{v:V}{A:Around}{E:Value→Shared→Prop}
end
section
variable {X:Cx}{o e value:Expr}{f:Str}{pos pos' tpos:Pos}{ta tv:TE}
end
section
variable {X:Cx}{pins:List (Addr×Obj)}{σ:St}{H:Hp}{s:Shared}{A:Around}{E:Value→Shared→Prop}{Q:Value→Shared→Prop}{c:Value}{b:Bool}
inductive iX (K:PySem.W.Frag) (H:Hp):V→Value→Prop where
 | non:iX K H .non (.type "NoneType")
 | bl (x:Bool):iX K H (.bl x) (.type "bool")
 | int (i:Int):iX K H (.int i) (.type "int")
 | str (x:Str):iX K H (.str x) (.type "str")
 | flt (x:UInt64):iX K H (.flt x) (.type "float")
 | lst {a:Addr}{xs:List V} (e:H a=some (.lst xs)):iX K H (.ref a) (.type "list")
 | frz {a:Addr}{o:Obj}{xs:List V} (e:H a=some (.frz o (.lst xs))):iX K H (.ref a) (.type "list")
 | tup {a:Addr}{xs:List V} (e:H a=some (.tup xs)):iX K H (.ref a) (.type "tuple")
 | dK {a:Addr}{kvs:List (bc×V)} (e:H a=some (.dK kvs)):iX K H (.ref a) (.type "dict")
 | dT {a:Addr}{kvs:List (List bc×V)} (e:H a=some (.dT kvs)):iX K H (.ref a) (.type "dict")
 | ins {a C dx:Addr}{fs:List (Str×V)} (e:H a=some (.ins C dx fs)) (cl:Hx K C) (ha:PySem.W.findIn K (.ref C) "__class__" = some (some (.builtin "object.__class__")))
  (hn:PySem.W.specialIn K (.builtin "object.__class__") "__get__" = some (some (.builtin "getset_descriptor.__get__"))) (htk:PySem.W.takesIn K (.builtin "object.__class__")=some true)
  (hm:PySem.W.mroIn K C (.type "object")=some true):iX K H (.ref a) (.ref C)
theorem C2 {x:V}{u t:Value} (I:ag X pins σ H s) (rx:bj x u) (ty:iX X.K H x t) (e:PySem.W.kitOne X.K t c=some b) (h:∀tk,Q (.bool b) { s with toks:=tk }) :
 wpAny (model X.prog X.w) A (call (.builtin "isinstance") [u,c]) Q E s:=by
 cases ty with
 | non=>cases (show u=Value.none from rx);exact PySem.W.kia_one PySem.W.kitx_none I.kIn True.intro e (fun z=>nomatch z) h
 | bl y=>cases (show u=Value.bool y from rx);exact PySem.W.kia_one PySem.W.kitx_bool I.kIn True.intro e (fun z=>nomatch z) h
 | int i=>obtain ⟨t,q⟩:=(show ∃t,u=Value.int i t from rx);cases q;exact PySem.W.kia_one PySem.W.kitx_int I.kIn True.intro e (fun z=>nomatch z) h
 | str y=>obtain ⟨t,q⟩:=(show ∃t,u=Value.str y t from rx);cases q;exact PySem.W.kia_one PySem.W.kitx_str I.kIn True.intro e (fun z=>nomatch z) h
 | flt y=>obtain ⟨t,q⟩:=(show ∃t,u=Value.float y t from rx);cases q;exact PySem.W.kia_one PySem.W.kitx_float I.kIn True.intro e (fun z=>nomatch z) h
 | @lst a xs ea=>
  cases (show u=Value.ref a from rx)
  obtain ⟨_,_,n,_,h1⟩:=(show bU X.prog X.w H s.heap a (.lst xs) from I.hok a _ ea)
  exact PySem.W.kia_one PySem.W.kitx_list I.kIn ⟨_,h1,rfl⟩ e (fun z=>nomatch z) h
 | @frz a ob xs ea=>
  cases (show u=Value.ref a from rx)
  obtain ⟨_,_,_,n,_,h1⟩:=(show bU X.prog X.w H s.heap a (.frz ob (.lst xs)) from I.hok a _ ea)
  exact PySem.W.kia_one PySem.W.kitx_list I.kIn ⟨_,h1,rfl⟩ e (fun z=>nomatch z) h
 | @tup a xs ea=>
  cases (show u=Value.ref a from rx)
  obtain ⟨_,_,_,p,_⟩:=(show bU X.prog X.w H s.heap a (.tup xs) from I.hok a _ ea)
  obtain ⟨o,h1,h2,_⟩:=p
  exact PySem.W.kia_one PySem.W.kitx_tuple I.kIn ⟨o,h1,h2⟩ e (fun z=>nomatch z) h
 | @dK a kvs ea=>
  cases (show u=Value.ref a from rx)
  obtain ⟨_,_,vs,_,p⟩:=(show bU X.prog X.w H s.heap a (.dK kvs) from I.hok a _ ea)
  obtain ⟨o,es,ep,h1,h2,_⟩:=p
  exact PySem.W.kia_one PySem.W.kitx_dict I.kIn ⟨o,h1,h2.1⟩ e (fun z=>nomatch z) h
 | @dT a kvs ea=>
  cases (show u=Value.ref a from rx)
  obtain ⟨_,_,xs,_,o,es,ep,h1,h2,_⟩:=(show bU X.prog X.w H s.heap a (.dT kvs) from I.hok a _ ea)
  exact PySem.W.kia_one PySem.W.kitx_dict I.kIn ⟨o,h1,h2.1⟩ e (fun z=>nomatch z) h
 | @ins a C dx fs ea cl ha hn htk hm=>
  cases (show u=Value.ref a from rx)
  obtain ⟨mA,O,_⟩:=Gj I.hok ea
  obtain ⟨od,J,_⟩:=O.look
  exact PySem.W.kia_one (PySem.W.kitx_own (cl.get _) cl.hd ha hn htk hm) I.kIn J e (fun z=>nomatch z) h
end
structure fY (k:Nat) (A:Around):Prop where
 hd:A.handled=none
 dp:A.depth+3*k+5<recursionLimit
 un:A.units+16*k+200<cLine
 gd:A.guards=some []
theorem fY.mono {j k:Nat}{A:Around} (r:fY k A) (h:j≤k):fY j A:=⟨r.hd,by have:=r.dp;trivial,by have:=r.un;trivial,r.gd⟩
theorem fY.deeper {k:Nat}{A:Around} (r:fY (k+1) A) (env:Env):fY k (A.deeper env):=
 ⟨r.hd,by have:=r.dp;show A.depth+1+3*k+5<_;trivial,by have:=r.un;show A.units+3+16*k+200<_;trivial,r.gd⟩
theorem fY.depth {k:Nat}{A:Around} (r:fY k A):A.depth<recursionLimit:=by have:=r.dp;trivial
theorem fY.units {k:Nat}{A:Around} (r:fY k A):A.units+64<cLine:=by have:=r.un;trivial
def Hl:TA:=fun _ H Q=>Q [] H
def yn (ta:TE) (tr:TA):TA:=fun σ H Q=>ta σ H fun x H1=>tr σ H1 fun xs H2=>Q (x :: xs) H2
section
variable {X:Cx}{e:Expr}{es:List Expr}{te:TE}{t:TA}{pos:Pos}
theorem bE:PA X [] Hl:=fun _ _ _ _ H Q I h=>Calls.spliced_nil ⟨[],H,I,.nil,h⟩
theorem bT (ha:PE X e te) (hr:PA X es t) (hs:starEach (e :: es) X.env=(false,eval e X.env) :: starEach es X.env:=by rfl):PA X (e :: es) (yn te t):=by
 intro pos pins s σ H Q I h
 rw [hs]
 show wpAny _ _ (spliced ((false,eval e X.env) :: backTo pos (starEach es X.env))) _ _ s
 refine Calls.spliced_cons (aS (ha pins s σ H _ I h) fun u s1 ⟨x,H1,I1,r1,q1⟩=>?_)
 exact aS (hr pos pins s1 σ H1 _ I1 q1) fun us s2 ⟨xs,H2,I2,r2,q2⟩=>⟨x :: xs,H2,I2,.cons r1 r2,q2⟩
def Ku (t:TA):TE:=fun σ H Q=>t σ H fun xs H1=>xs.length≤sizeLine∧∀p,H1 p=none→Q (.ref p) (aQ H1 p (.lst xs))
theorem HN (h:PA X es t):PE X (.List es pos) (Ku t):=by
 intro pins s σ H Q I hq
 refine wpAny_List_spliced (aS (h pos pins s σ H _ I hq) fun us s1 ⟨xs,H1,I1,r,z,q⟩=>⟨by rw [←r.length];exact z,?_⟩)
 have hf:H1 s1.heap.objs.size=none:=I1.hok.fresh (Nat.le_refl _)
 refine ⟨.ref s1.heap.objs.size,aQ H1 s1.heap.objs.size (.lst xs),I1.laid (t':=s1.toks) (fun b u e=>Heap.get?_push_of_some _ e) (Nat.le_refl _) ?_,rfl,q _ hf⟩
 exact ⟨z,us,0,r,Heap.get?_push_size _ rfl⟩
end
abbrev Sp:=List V→Hp→VK→XK→Prop
abbrev mi:=List Env→Hp→Shared→XK→Value→Shared→Prop
structure Bu (P:Program) (w:World) (K:PySem.W.Frag) (mg:Str→Option Value) (base:Heap) (A:Around) (outer:List Env) (s:Shared) (H:Hp):Prop where
 frames:A.frames=some outer
 mod:Mod K mg base
 bs:∀b o,base.get? b=some o→s.heap.get? b=some o∧H b=none
 bsz:base.objs.size≤s.heap.objs.size
 funs:s.heap.FunFrames base outer
 frf:∀b∈iJ outer,H b=none
 hok:gf P w H s.heap
 bare:AllBare s.gens
def CE (outer:List Env) (P:Program) (w:World) (H:Hp) (s:Shared) (Q:VK) (u:Value) (s':Shared):Prop:=
 bP fun v H'=>s'.os=s.os∧AllBare s'.gens∧Un (iJ outer) [] H H' s.heap s'.heap∧gf P w H' s'.heap∧bj v u∧Q v H'
def CR (CX:mi) (outer:List Env) (P:Program) (w:World) (H:Hp) (s:Shared) (Q:VK) (E:XK) (r:Result) (s':Shared):Prop:=
 match r with
 | .ok (.ret u)=>CE outer P w H s Q u s'
 | .ok _=>False
 | .error e=>CX outer H s E e s'
structure aV (P:Program) (w:World) (K:PySem.W.Frag) (mg:Str→Option Value) (base:Heap) (CX:mi) (k:Nat) (f:Addr) (fd:FuncData) (ps:List Str) (sp:Sp):Prop where
 len:∀vs H Q E,sp vs H Q E→vs.length=ps.length
 run:∀(A:Around) (outer:List Env) (s:Shared) (H:Hp) (args:Args) (us:List Value) (vs:List V) (Q:VK) (E:XK),fY k A→Bu P w K mg base A outer s H→BindsTo s fd args (ps.zip us)→aL vs us→sp vs H Q E→
  codeAny (model P w) A (.call (.ref f) args) (CR CX outer P w H s Q E) s
theorem aV.mono {P:Program}{w:World}{K:PySem.W.Frag}{mg:Str→Option Value}{base:Heap}{CX:mi}{j k:Nat}{f:Addr}{fd:FuncData}{ps:List Str}{sp:Sp} (F:aV P w K mg base CX j f fd ps sp) (h:j≤k) :
 aV P w K mg base CX k f fd ps sp:=⟨F.len,fun A outer s H args us vs Q E hr=>F.run A outer s H args us vs Q E (hr.mono h)⟩
section
variable {X:Cx}{pins:List (Addr×Obj)}{σ:St}{H:Hp}{s s':Shared}
theorem ag.env0 (I:ag X pins σ H s):Bu X.prog X.w X.K X.mg X.base X.A X.stack s H:=
 ⟨I.ok.frames,I.ok.mod,I.bs,Nat.le_trans I.ok.bsz I.sz,I.stack,I.stkFree,I.hok,I.bare⟩
theorem ag.after {Q:VK}{u:Value} (I:ag X pins σ H s) (h:CE X.stack X.prog X.w H s Q u s'):EP X pins σ Q u s':=by
 obtain ⟨v,H',os,bare,un,hok,r,q⟩:=h
 obtain ⟨hh,g,d,t,os'⟩:=s'
 obtain rfl:os'=s.os:=os
 exact ⟨v,H',I.call (h':=hh) (g':=g) (d':=d) (t':=t) (ch:=[]) un hok bare (fun b z=>absurd z (by simp)),r,q⟩
end
def Kb (sp:Sp) (dvs:List V) (E:XK) (t:TA):TE:=fun σ H Q=>t σ H fun vs H1=>sp (vs++dvs) H1 Q E
def tF (K:PySem.W.Frag) (fd:FuncData) (ps:List Str) (ds:List Value):Prop:=
 ∀(s:Shared) (us:List Value),K.In s.heap→(us++ds).length=ps.length→BindsTo s fd ⟨us,[]⟩ (ps.zip (us++ds))
theorem tF.all {K:PySem.W.Frag}{fd:FuncData}{ps:List Str} (h:∀us:List Value,us.length=ps.length→bindArgs fd ⟨us,[]⟩=pure (ps.zip us)):tF K fd ps []:=fun s us _ hl=>by
 rw [List.append_nil] at hl ⊢
 exact .of_eq (h us hl)
def zf (CX:mi) (X:Cx) (E:XK):Prop:=∀(pins:List (Addr×Obj)) (σ:St) (H:Hp) (s:Shared) (e:Value) (s':Shared),ag X pins σ H s→CX X.stack H s E e s'→X.xe e s'
section
variable {X:Cx}{CX:mi}{k:Nat}{f C:Addr}{fd:FuncData}{ps:List Str}{sp:Sp}{dvs:List V}{ds:List Value}{E:XK}{x m:Str}{p pos apos:Pos}{e o:Expr}{es:List Expr}{ta:TE}{t:TA}
theorem GN {pins:List (Addr×Obj)}{σ:St}{H:Hp}{s:Shared}{Q:VK}{us:List Value}{vs:List V} (F:aV X.prog X.w X.K X.mg X.base CX k f fd ps sp) (hr:fY k X.A) (hb:tF X.K fd ps ds) (hd:aL dvs ds) (hx:zf CX X E)
 (I:ag X pins σ H s) (r:aL vs us) (h:sp (vs++dvs) H Q E):wpAny (model X.prog X.w) X.A (call (.ref f) us) (EP X pins σ Q) X.xe s:=by
 have r2:aL (vs++dvs) (us++ds):=r.append hd
 have hl:(us++ds).length=ps.length:=by rw [←r2.length];exact F.len _ _ _ _ h
 refine wpAny_call (codeAny_mono (F.run X.A X.stack s H ⟨us,[]⟩ (us++ds) (vs++dvs) Q E hr I.env0 (hb s us I.kIn hl) r2 h) fun r s' hq=>?_)
 cases r with
 | error e=>exact hx pins σ H s e s' I hq
 | ok fl=>
  cases fl with
  | ret u=>exact I.after hq
  | next=>exact False.elim hq
  | brk=>exact False.elim hq
  | cont=>exact False.elim hq
theorem iM (F:aV X.prog X.w X.K X.mg X.base CX k f fd ps sp) (hr:fY k X.A) (hg:Gl X x) (hm:X.mg x=some (.ref f)) (hk:PySem.W.keepIn X.K (.ref f)=true) (hb:tF X.K fd ps ds) (hd:aL dvs ds) (hx:zf CX X E)
 (ha:PA X (e :: es) t) (hdb:(x==("__debug__" : Str))=false:=by decide) (he:starEach (e :: es) X.env=(false,eval e X.env) :: starEach es X.env:=by rfl) (hpl:(backTo pos (starEach es X.env)).any (·.1)=false:=by rfl) :
 PE X (.Call (.Name x p) (e :: es) [] pos) (Kb sp dvs E t):=by
 intro pins s σ H Q I h
 refine wpAny_Call_Name_kw (Gn I hg hm ?_ hdb)
 refine PySem.W.callWith_K (h₀:=X.base) I.ok.mod.kin hk (aS (ha pos pins s σ H _ I h) fun us s1 ⟨vs,H1,I1,r,q⟩=>⟨I1.kIn,?_⟩) he hpl
 exact GN F hr hb hd hx I1 r q
end
section
variable {X:Cx}{CX:mi}{k:Nat}{f C:Addr}{fd:FuncData}{ps ks:List Str}{sp:Sp}{E:XK}{x m:Str}{p pos apos kpos:Pos}{e o:Expr}{es:List Expr}{kws:List Keyword}{te ta:TE}{t tk:TA}{nm:Option Str}
variable {g:List Value→List Value→List Value}{gV:List V→List V→List V}
end
structure aI (N P:List Str) (sc:Scope):Prop where
 kind:sc.kind=.function
 co:sc.isCoroutine=false
 gen:sc.isGenerator=false
 nd:N.Nodup
 pre:N.take P.length=P
 par:∀x∈P,sc.names.lookup x=some .local∨sc.names.lookup x=some .cell
 nofree:∀y∈sc.names,y.2≠.free
theorem xp {kindOf:Str→Option NameKind}{x:Str}:∀{binds:List (Str×Value)}{m:Str→Option Value},(∀v,(x,v)∉binds)→bindL kindOf binds m x=m x
 | [],_,_=>rfl
 | (n,v) :: r,m,h=>by
  unfold bindL
  rw [xp fun w hw=>h w (List.mem_cons_of_mem _ hw)]
  split
  ·have:x≠n:=by rintro rfl;exact h v List.mem_cons_self
   simp [this]
  ·rfl
theorem xI {kindOf:Str→Option NameKind}{x:Str}:∀{binds:List (Str×Value)}{m:Str→Option Value},(∀v,(x,v)∉binds)→bindC kindOf binds m x=m x
 | [],_,_=>rfl
 | (n,v) :: r,m,h=>by
  unfold bindC
  rw [xI fun w hw=>h w (List.mem_cons_of_mem _ hw)]
  split
  ·rfl
  ·have:x≠n:=by rintro rfl;exact h v List.mem_cons_self
   simp [this]
theorem xb {kindOf:Str→Option NameKind}{x:Str}{v:Value}:∀{P:List Str}{vs:List Value}{i:Nat}{m:Str→Option Value},P.Nodup→P[i]?=some x→vs[i]?=some v→kindOf x=some .local→
 bindL kindOf (P.zip vs) m x=some v
 | [],_,_,_,_,h,_,_=>by simp at h
 | _ :: _,[],_,_,_,_,h,_=>by simp at h
 | p :: P,w :: vs,0,m,nd,h1,h2,hk=>by
  simp at h1 h2;subst h1;subst h2
  show bindL kindOf ((p,w) :: P.zip vs) m p=_
  unfold bindL
  rw [xp fun v hv=>(List.nodup_cons.mp nd).1 (List.of_mem_zip hv).1,if_pos hk]
  simp
 | p :: P,w :: vs,i+1,m,nd,h1,h2,hk=>by
  show bindL kindOf ((p,w) :: P.zip vs) m x=_
  unfold bindL
  exact xb (i:=i) (List.nodup_cons.mp nd).2 (by simpa using h1) (by simpa using h2) hk
theorem xE {kindOf:Str→Option NameKind}{x:Str}{v:Value}:∀{P:List Str}{vs:List Value}{i:Nat}{m:Str→Option Value},P.Nodup→P[i]?=some x→vs[i]?=some v→kindOf x≠some .local→
 bindC kindOf (P.zip vs) m x=some v
 | [],_,_,_,_,h,_,_=>by simp at h
 | _ :: _,[],_,_,_,_,h,_=>by simp at h
 | p :: P,w :: vs,0,m,nd,h1,h2,hk=>by
  simp at h1 h2;subst h1;subst h2
  show bindC kindOf ((p,w) :: P.zip vs) m p=_
  unfold bindC
  rw [xI fun v hv=>(List.nodup_cons.mp nd).1 (List.of_mem_zip hv).1,if_neg hk]
  simp
 | p :: P,w :: vs,i+1,m,nd,h1,h2,hk=>by
  show bindC kindOf ((p,w) :: P.zip vs) m x=_
  unfold bindC
  exact xE (i:=i) (List.nodup_cons.mp nd).2 (by simpa using h1) (by simpa using h2) hk
def mD (N:List Str) (vs:List V):St:=vs.map some++List.replicate (N.length - vs.length) none
def wD (CX:mi) (P:Program) (w:World) (K:PySem.W.Frag) (mg:Str→Option Value) (base:Heap) (N:List Str) (qual:Str) (scope:Scope) (f:Addr) (cd:Value) (A:Around) (outer:List Env) (s:Shared) (H:Hp) (E:XK):Cx where
 prog:=P
 w:=w
 K:=K
 mg:=mg
 base:=base
 A:=A.deeper (envOfC qual scope s.heap.objs.size f cd)
 N:=N
 s₀:=s
 H₀:=H
 env:=envOfC qual scope s.heap.objs.size f cd
 outer:=outer
 stack:=envOfC qual scope s.heap.objs.size f cd :: outer
 ex:=[]
 calm:=true
 fn:=fun _=>true
 pn:=[]
 xe:=fun e s'=>wpAny (model P w) (A.deeper (envOfC qual scope s.heap.objs.size f cd)) (leaving (envOfC qual scope s.heap.objs.size f cd) e) (fun _ s''=>CX outer H s E e s'') (fun e' s''=>CX outer H s E e' s'') s'
theorem zi {sc:Scope}{n:Nat}{x:Str} (h:sc.names.lookup x=some .cell):∃c,(cellsFrom n sc.names []).lookup x=some c:=by
 have q:=PySem.W.cellsFrom_some sc.names n [] (.inl h)
 exact Option.isSome_iff_exists.mp q
theorem BQ {CX:mi}{P:Program}{w:World}{K:PySem.W.Frag}{mg:Str→Option Value}{base:Heap}{N ps:List Str}{qual:Str}{scope:Scope}{f:Addr}{cd:Value}{A:Around}{outer:List Env}{s s1:Shared}{H:Hp}{E:XK}{us:List Value}{vs:List V}
 (S:aI N ps scope) (hd:A.handled=none) (e0:Bu P w K mg base A outer s H) (hl:vs.length=ps.length) (r:aL vs us)
 (x:InCallC s s.heap.objs.size (bindL (envOfC qual scope s.heap.objs.size f cd).kindOf (ps.zip us) fun _=>none) (cellsFrom (s.heap.objs.size+1) scope.names []) (bindC (envOfC qual scope s.heap.objs.size f cd).kindOf (ps.zip us) fun _=>none) s1) :
 ag (wD CX P w K mg base N qual scope f cd A outer s H E) [] (mD N vs) H s1:=by
 have hpl:ps.length≤N.length:=by have:=congrArg List.length S.pre;rw [List.length_take] at this;trivial
 obtain ⟨h1,tk,rfl,hk⟩:=x.done
 have noA:∀b:Addr,b∉(wD CX P w K mg base N qual scope f cd A outer s H E).ex:=fun b z=>absurd (show b∈([]:List Addr) from z) (by simp)
 refine ⟨⟨e0.mod,S.kind,rfl,rfl,Nat.le_refl _,fun y z c h1 h2=>?_,fun y hy=>?_,fun y c _ h=>?_,fun _=>hd,Around.frames_deeper e0.frames,.inr ⟨rfl,rfl⟩,fun b z=>absurd z (noA b),e0.bs,e0.bsz,fun b _ _=>noA b,fun b z=>absurd z (noA b),e0.funs,e0.frf⟩,
  rfl,e0.bare,Un.kept hk,⟨_,x.toInCall.ns,fun i y v h1 h2 h3=>?_⟩,fun y c h=>⟨_,x.cell y c h⟩,e0.hok.fresh (Nat.le_refl _),fun y c h=>?_,fun p hp=>absurd (show p∈([]:List (Addr×Obj)) from hp) (by simp),e0.hok.kept hk,?_⟩
 ·exact name_of_addr x.apart (PySem.mem_of_lookup h1) (PySem.mem_of_lookup h2)
 ·have hy:scope.names.lookup y=some .cell∨scope.names.lookup y=some .free:=hy
  rcases hy with hy | hy
  ·exact zi hy
  ·exact absurd rfl (S.nofree _ (PySem.mem_of_lookup hy))
 ·exact Nat.le_of_lt (x.above y c (PySem.mem_of_lookup h))
 ·have hi:i<vs.length:=by
   unfold mD at h2
   by_cases hi:i<vs.length
   ·exact hi
   ·rw [List.getElem?_append_right (by simpa using hi)] at h2
    rw [List.getElem?_replicate] at h2
    split at h2 <;> cases h2
  have ha:vs[i]?=some v:=by
   unfold mD at h2
   rw [List.getElem?_append_left (by simpa using hi),List.getElem?_map] at h2
   cases e:vs[i]? with
   | none=>rw [e] at h2;cases h2
   | some a=>rw [e] at h2;cases h2;rfl
  obtain ⟨u,hu,rv⟩:=r.get ha
  have hp:ps[i]?=some y:=by
   rw [←S.pre,List.getElem?_take_of_lt (by trivial)];exact h1
  have ndP:ps.Nodup:=by rw [←S.pre];exact S.nd.sublist (List.take_sublist _ _)
  refine ⟨u,rv,?_⟩
  rcases S.par y (List.mem_of_getElem? hp) with k | k
  ·exact .inl ⟨k,xb ndP hp hu k⟩
  ·obtain ⟨c,e⟩:=zi (n:=s.heap.objs.size+1) k
   refine .inr ⟨.inl k,c,e,?_⟩
   have q:=x.cell y c e
   rw [xE ndP hp hu (by show scope.names.lookup y≠_;rw [k];decide)] at q
   exact q
 ·exact e0.hok.fresh (Nat.le_of_lt (x.above y c (PySem.mem_of_lookup h)))
 ·unfold mD
  show _=N.length
  rw [List.length_append,List.length_map,List.length_replicate]
  trivial
theorem JL {CX:mi}{P:Program}{w:World}{K:PySem.W.Frag}{mg:Str→Option Value}{base:Heap}{k:Nat}{f:Addr}{name qual:Str}{params:Arguments}{body:List Stmt}{scope:Scope}{dV kV doc pm cdv ct oc:Value}{an od:Option Addr}
 {osl:Array (Option Value)}{N ps:List Str}{sp:Sp} (lk:K.lookup f=some ⟨oc,od,.func (PySem.W.fnOf name qual params body scope dV kV doc pm an cdv ct),osl⟩) (hcd:PySem.W.codeIn K cdv qual=true) (S:aI N ps scope)
 (len:∀vs H Q E,sp vs H Q E→vs.length=ps.length)
 (hbody:∀(A:Around) (outer:List Env) (s:Shared) (H:Hp) (vs:List V) (Q:VK) (E:XK),fY k (A.deeper (envOfC qual scope s.heap.objs.size f cdv))→sp vs H Q E→
  ∃t,pQ (wD CX P w K mg base N qual scope f cdv A outer s H E) body t∧t { nx:=fun _ H'=>Q .non H',rt:=Q } (mD N vs) H) :
 aV P w K mg base CX (k+1) f (PySem.W.fnOf name qual params body scope dV kV doc pm an cdv ct) ps sp:=by
 refine ⟨len,fun A outer s H args us vs Q E hr e0 hb r hsp=>?_⟩
 have hl:=len _ _ _ _ hsp
 have KX:K.In s.heap:=e0.mod.kin.keeps fun b o e=>(e0.bs b o e).1
 have lim:s.heap.NoLimit:=e0.mod.nolimit.keeps fun b o e=>(e0.bs b o e).1
 have hkind:∀y∈ps.zip us,scope.names.lookup y.1=some .local∨(scope.names.lookup y.1=some .cell∧((cellsFrom (s.heap.objs.size+1) scope.names []).lookup y.1).isSome=true):=fun ⟨n,v⟩ hy=>by
  rcases S.par n (List.of_mem_zip hy).1 with q | q
  ·exact .inl q
  ·exact .inr ⟨q,PySem.W.cellsFrom_some _ _ _ (.inl q)⟩
 refine codeAny_call_function hr.depth (KX _ _ lk) rfl S.co S.gen rfl (PySem.W.codeRec_of KX hcd) (hb _ _ _ _ ?_)
 refine wpAny_newFunctionEnv_cells S.kind hkind fun env he s1 x=>?_
 subst he
 refine ⟨lim.keeps x.toInCall.keep,codeAny_func ?_⟩
 obtain ⟨t,ht,hq⟩:=hbody A outer s H vs Q E (hr.deeper _) hsp
 have I:ag (wD CX P w K mg base N qual scope f cdv A outer s H E) [] (mD N vs) H s1:=BQ S hr.hd e0 hl r x
 refine wpAny_mono (ht [] s1 (mD N vs) H _ I hq) (fun fl s' hs=>?_) fun e s' hs=>hs
 have fin:∀{σ':St}{H':Hp}{v:V}{u:Value},ag (wD CX P w K mg base N qual scope f cdv A outer s H E) [] σ' H' s'→bj v u→Q v H'→CE outer P w H s Q u s':=
  fun {σ' H' v u} J rv q=>⟨v,H',J.os,J.bare,J.base,J.hok,rv,q⟩
 cases fl with
 | ret u=>
  obtain ⟨v,σ',H',J,rv,q⟩:=hs
  exact fin J rv q
 | next=>
  obtain ⟨σ',H',J,q⟩:=hs
  exact fin (v:=V.non) (u:=Value.none) J rfl q
 | brk=>
  obtain ⟨_,_,_,q⟩:=hs
  exact False.elim q
 | cont=>
  obtain ⟨_,_,_,q⟩:=hs
  exact False.elim q
end L2
namespace L2
open PySem PySem.Spec PyProof.Rows
section
variable {X:Cx}{x:Str}{p pos:Pos}{e:Expr}{es:List Expr}{t:TA}{id T:String}{r:List V→Hp→VK→Prop}
def HC (r:List V→Hp→VK→Prop) (t:TA):TE:=fun σ H Q=>t σ H fun vs H1=>r vs H1 Q
theorem fU (hc:d8 X (.builtin id) r) (hg:Gl X x) (hm:X.mg x=none) (hv:bootBuiltins x=some (.builtin id)) (ha:PA X (e :: es) t) (hn:x≠"__name__" := by decide) (hdb:(x==("__debug__" : Str))=false:=by decide)
 (he:starEach (e :: es) X.env=(false,eval e X.env) :: starEach es X.env:=by rfl) (hpl:(backTo pos (starEach es X.env)).any (·.1)=false:=by rfl):PE X (.Call (.Name x p) (e :: es) [] pos) (HC r t):=by
 intro pins s σ H Q I h
 refine wpAny_Call_Name_kw (nh I hg hm hv ?_ hn hdb)
 exact PyProof.Rows.callWith_builtin1 (aS (ha pos pins s σ H _ I h) fun us s1 ⟨vs,H1,I1,r1,q1⟩=>hc pins s1 σ H1 vs us Q I1 r1 q1) he hpl
theorem bA (hc:d8 X (.type T) r) (hg:Gl X x) (hm:X.mg x=none) (hv:bootBuiltins x=some (.type T)) (ha:PA X (e :: es) t) (hn:x≠"__name__" := by decide) (hdb:(x==("__debug__" : Str))=false:=by decide)
 (he:starEach (e :: es) X.env=(false,eval e X.env) :: starEach es X.env:=by rfl) (hpl:(backTo pos (starEach es X.env)).any (·.1)=false:=by rfl):PE X (.Call (.Name x p) (e :: es) [] pos) (HC r t):=by
 intro pins s σ H Q I h
 refine wpAny_Call_Name_kw (nh I hg hm hv ?_ hn hdb)
 exact PyProof.Rows.callWith_type1 (aS (ha pos pins s σ H _ I h) fun us s1 ⟨vs,H1,I1,r1,q1⟩=>hc pins s1 σ H1 vs us Q I1 r1 q1) he hpl
end
end L2
namespace HT
open PySem PyProof.Rows
section
open PySem.SeqAt
open PySem.AutoSeq1 (wpAny_loadPart')
open PySem.MeetsSeq PySem.MeetsSeq2 PySem.MeetsSeq3
end
section
variable {prog:Program}{w:World}{A:Around}{E:Value→Shared→Prop}{s:Shared}
theorem cat_tup {t b:Addr}{vs ws:List Value}{Q:Value→Shared→Prop} (ht:IsTup s.heap t vs.toArray) (hb:IsTup s.heap b ws.toArray) (hv:vs≠[])
 (h1:ws=[]→Q (.ref t) s) (h2:ws≠[]→Q (.ref s.heap.objs.size) { s with heap:=s.heap.push { cls:=.type "tuple",data:=.seq (vs++ws).toArray } })
 (hsz:vs.length+ws.length≤sizeLine):wpAny (model prog w) A (binaryOp .Add (.ref t) (.ref b)) Q E s:=by
 obtain ⟨⟨cls,dd,data,sl⟩,ho,hc,n,hd⟩:=id ht
 obtain ⟨⟨cls2,dd2,data2,sl2⟩,ho2,hc2,n2,hd2⟩:=id hb
 simp only at hc hd hc2 hd2
 subst hc hd hc2 hd2
 have e:vs.toArray++ws.toArray=(vs++ws).toArray:=by simp
 by_cases hw:ws=[]
 ·exact concat_meets ⟨_,ho,rfl⟩ ⟨_,ho2,rfl⟩ noFill_tuple_add seq_tuple_add PySem.F.slot_tuple_add PySem.F.entry_tuple_add (PySem.F.args_tuple_add_2 _ _)
   (tuple_addW1 t b vs.toArray ws.toArray n n2 dd dd2 sl sl2 (by simpa using hv) (by simp [hw])) ⟨ho,ho2,h1 hw⟩
 ·refine concat_meets ⟨_,ho,rfl⟩ ⟨_,ho2,rfl⟩ noFill_tuple_add seq_tuple_add PySem.F.slot_tuple_add PySem.F.entry_tuple_add (PySem.F.args_tuple_add_2 _ _)
   (tuple_addW2 t b vs.toArray ws.toArray n n2 dd dd2 sl sl2 (by simpa using hv) (by simpa using hw) (by rw [List.size_toArray,List.size_toArray];exact hsz)) ⟨ho,ho2,?_⟩
  rw [e]
  exact h2 hw
def sIx (n d:Nat):Option Int→Nat
 | none=>d
 | some v=>if v<0 then (v+(n:Int)).toNat else min v.toNat n
theorem sIx_none (n d:Nat):sIx n d none=d:=rfl
theorem sIx_nat (n d k:Nat):sIx n d (some (k:Int))=min k n:=by
 show (if (k:Int)<0 then ((k:Int)+(n:Int)).toNat else min (k:Int).toNat n)=min k n
 rw [if_neg (by trivial),Int.toNat_natCast]
theorem Hw (n d:Nat) (hd:d≤n) (o:Option Int):sIx n d o≤n:=by
 cases o with
 | none=>exact hd
 | some v=>
  show (if v<0 then (v+(n:Int)).toNat else min v.toNat n)≤n
  by_cases hv:v<0
  ·rw [if_pos hv];trivial
  ·rw [if_neg hv];exact Nat.min_le_right _ _
theorem Ag (v:Int) (n d:Nat):(if v<0 then max (v+(n:Int)) 0 else min v (n:Int))=((sIx n d (some v):Nat):Int):=by
 show (if v<0 then max (v+(n:Int)) 0 else min v (n:Int))=(((if v<0 then (v+(n:Int)).toNat else min v.toNat n):Nat):Int)
 by_cases hv:v<0
 ·simp only [if_pos hv];trivial
 ·simp only [if_neg hv];trivial
theorem AW (lo hi:Option Int) (n:Nat):Builtin.Slice.sliceAdjust lo hi 1 (n:Int)=(((sIx n 0 lo:Nat):Int),((sIx n n hi:Nat):Int)):=by
 have h1:¬((1:Int)<0):=by trivial
 unfold Builtin.Slice.sliceAdjust
 simp only [h1,if_false]
 refine Prod.ext ?_ ?_
 ·cases lo with
  | none=>rfl
  | some v=>exact Ag v n 0
 ·cases hi with
  | none=>rfl
  | some v=>exact Ag v n n
theorem Bw (i j:Nat):Builtin.Slice.slicePlaces (i:Int) (j:Int) 1=j - i:=by
 unfold Builtin.Slice.slicePlaces
 have h1:(1:Int) > 0:=by trivial
 simp only [h1,if_true,Int.ediv_one]
 split <;> trivial
theorem qD {v:Value}{o:Option Int}{Q:Option Int→Shared→Prop} (p:IsPart v o) (h:Q o s):wpAny (model prog w) A (Builtin.Slice.slicePartIndex v) Q E s:=by
 cases p with
 | none=>exact slicePart_none h
 | int i t=>exact slicePart_int h
theorem mW {sl:Addr}{vl vu:Value}{lo hi:Option Int}{n:Nat}{Q:Int×Int×Nat→Shared→Prop} (hs:s.heap.IsSliceOf sl vl vu .none) (pl:IsPart vl lo) (pu:IsPart vu hi)
 (h:Q (((sIx n 0 lo:Nat):Int),1,sIx n n hi - sIx n 0 lo) s):wpAny (model prog w) A (Builtin.Slice.sliceApplied (.ref sl) (pure (n:Int))) Q E s:=by
 obtain ⟨os,hos,hcs,hds⟩:=id hs
 unfold Builtin.Slice.sliceApplied Builtin.Slice.sliceFields
 refine wpAny_bind (wpAny_bind (wpAny_field hos hds (x:=vl) rfl (wpAny_bind (wpAny_field hos hds (x:=vu) rfl (wpAny_bind (wpAny_field hos hds (x:=.none) rfl (wpAny_pure ?_)))))))
 refine wpAny_bind (slicePart_none ?_)
 show wpAny _ _ (if ((1:Int)==0)=true then _ else _) _ _ s
 rw [if_neg (by decide)]
 refine wpAny_bind (qD pl (wpAny_bind (qD pu (wpAny_bind (wpAny_pure ?_)))))
 show wpAny _ _ (match Builtin.Slice.sliceAdjust lo hi 1 (n:Int) with | (lo,hi)=>pure (lo,(1:Int),Builtin.Slice.slicePlaces lo hi 1)) _ _ s
 rw [AW lo hi n]
 show wpAny _ _ (pure (((sIx n 0 lo:Nat):Int),(1:Int),Builtin.Slice.slicePlaces ((sIx n 0 lo:Nat):Int) ((sIx n n hi:Nat):Int) 1)) _ _ s
 rw [Bw]
 exact wpAny_pure h
theorem Dz (xs:Array Value) (i k:Nat):((List.range k).filterMap fun (m:Nat)=>xs[((i:Int)+(m:Int)*1).toNat]?).toArray=((xs.toList.drop i).take k).toArray:=by
 have e:(fun (m:Nat)=>xs[((i:Int)+(m:Int)*1).toNat]?)=fun m=>xs[i+m]?:=by
  funext m
  have:((i:Int)+(m:Int)*1).toNat=i+m:=by trivial
  rw [this]
 rw [e]
 have:=pick_run xs i k
 rw [List.filterMap_map] at this
 have e2:((fun x=>xs[x]?) ∘ fun x=>i+x)=fun m=>xs[i+m]?:=rfl
 rw [e2] at this
 rw [this]
theorem getItem_tuple_cut {t sl:Addr}{items:Array Value}{vl vu:Value}{lo hi:Option Int}{Q:Value→Shared→Prop} (ht:IsTup s.heap t items) (hs:s.heap.IsSliceOf sl vl vu .none) (pl:IsPart vl lo) (pu:IsPart vu hi)
 (hw:¬(sIx items.size 0 lo=0∧sIx items.size items.size hi=items.size))
 (h:Q (.ref s.heap.objs.size) { s with heap:=s.heap.push { cls:=.type "tuple",data:=.seq ((items.toList.drop (sIx items.size 0 lo)).take (sIx items.size items.size hi - sIx items.size 0 lo)).toArray } })
 (hsz:items.size≤sizeLine):wpAny (model prog w) A (getItem (.ref t) (.ref sl)) Q E s:=by
 have htake:sizeOk (.seq ((items.toList.drop (sIx items.size 0 lo)).take (sIx items.size items.size hi - sIx items.size 0 lo)).toArray):=by
  show ((items.toList.drop (sIx items.size 0 lo)).take (sIx items.size items.size hi - sIx items.size 0 lo)).toArray.size≤sizeLine
  rw [List.size_toArray,List.length_take,List.length_drop,Array.length_toList]
  exact Nat.le_trans (Nat.min_le_right ..) (Nat.le_trans (Nat.sub_le ..) hsz)
 have hj:sIx items.size items.size hi≤items.size:=Hw _ _ (Nat.le_refl _) hi
 obtain ⟨os,hos,hcs,hds⟩:=id hs
 have hTs:s.TypeIs (.ref sl) "slice" := ⟨os,hos,hcs⟩
 unfold getItem
 try with_reducible refine wpAny_holding ?_
 first | refine wpAny_bind (wpAny_pure ?_) | skip
 refine wpAny_bind (wpAny_sequenceKey ht.typeIs (by decide) ?_)
 refine wpAny_bind (wpAny_callSpecial?_slot (name:=Str.ofString "__getitem__") ht.typeIs PyProof.Rows.slot_tuple_getitem
  (wpAny_call_entry PyProof.Rows.slot_tuple_getitem ht.typeIs entry_tuple_getitem ?_ (args_tuple_getitem _ _)))
 show wpAny _ _ (Builtin.Tuple.tupleItemsOf (.ref t) >>= _) _ _ s
 refine wpAny_bind (tupleItemsOf_ ht ?_)
 refine wpAny_bind (wpAny_typeOf hTs ?_)
 rw [if_pos (by decide)]
 refine wpAny_bind (mW hs pl pu ?_)
 have hno:¬((((sIx items.size 0 lo:Nat):Int)==0 && (1:Int)==1 && (sIx items.size items.size hi - sIx items.size 0 lo)==items.size)=true):=by
  intro q
  rw [Bool.and_eq_true,Bool.and_eq_true] at q
  have q1:((sIx items.size 0 lo:Nat):Int)=0:=eq_of_beq q.1.1
  have q2:sIx items.size items.size hi - sIx items.size 0 lo=items.size:=eq_of_beq q.2
  exact hw ⟨by trivial,by trivial⟩
 show wpAny _ _ (if (((sIx items.size 0 lo:Nat):Int)==0 && (1:Int)==1 && (sIx items.size items.size hi - sIx items.size 0 lo)==items.size)=true then _ else _) _ _ s
 rw [if_neg hno,Dz]
 first
  | exact wpAny_bind (m:=Builtin.Tuple.tupleExact _) (wpAny_newObj_type (wpAny_pure ⟨_,rfl,wpAny_pure h⟩) htake)
  | exact wpAny_bind (m:=Builtin.Tuple.tupleExact _) (wpAny_newObj_type (wpAny_bind (wpAny_pure (wpAny_pure ⟨_,rfl,wpAny_pure h⟩))) htake)
  | exact wpAny_bind (wpAny_bind (m:=Builtin.Tuple.tupleExact _) (wpAny_newObj_type (wpAny_pure (wpAny_pure ⟨_,rfl,wpAny_pure h⟩)) htake))
  | exact wpAny_bind (wpAny_bind (m:=Builtin.Tuple.tupleExact _) (wpAny_newObj_type (wpAny_pure ⟨_,rfl,wpAny_pure h⟩) htake))
end
end HT
namespace L2
open PySem PySem.Spec PyProof.Rows
abbrev TO:=St→Hp→(Option Int→Hp→Prop)→Prop
def PO (X:Cx) (e:Option Expr) (t:TO):Prop:=
 ∀(pins:List (Addr×Obj)) (s:Shared) (σ:St) (H:Hp) (Q:Option Int→Hp→Prop),ag X pins σ H s→t σ H Q→
   wpAny (model X.prog X.w) X.A (evalPart e X.env) (fun u s'=>bP fun o H'=>ag X pins σ H' s'∧IsPart u o∧Q o H') X.xe s
def FY:TO:=fun _ H Q=>Q none H
def JS (t:TE):TO:=fun σ H Q=>t σ H fun x H1=>HG x fun i=>Q (some i) H1
section
variable {X:Cx}{e:Expr}{te:TE}{lo hi:Option Expr}{tl th:TO}{pos p2:Pos}
theorem dq:PO X none FY:=by
 intro pins s σ H Q I h
 rw [evalPart_none]
 exact wpAny_pure ⟨none,H,I,.none,h⟩
theorem cj (h:PE X e te):PO X (some e) (JS te):=by
 intro pins s σ H Q I hw
 rw [evalPart_some]
 refine aS (h pins s σ H _ I hw) fun u s1 ⟨x,H1,I1,r1,q1⟩=>?_
 obtain ⟨i,rfl,q⟩:=q1
 obtain ⟨t,rfl⟩:=r1
 exact ⟨some i,H1,I1,.int i t,q⟩
def zh (X:Cx) (r:V→Option Int→Option Int→Hp→VK→Prop):Prop:=
 ∀(pins:List (Addr×Obj)) (s:Shared) (σ:St) (H:Hp) (x:V) (v vl vu:Value) (lo hi:Option Int) (sl:Addr) (Q:VK),ag X pins σ H s→bj x v→s.heap.IsSliceOf sl vl vu .none→IsPart vl lo→IsPart vu hi→r x lo hi H Q→
   bP fun T id=>typeLookup (.type T) "__getitem__" = pure (some (.builtin id))∧s.TypeIs v T∧wpAny (model X.prog X.w) X.A (getItem v (.ref sl)) (EP X pins σ Q) X.xe s
def Ls (r:V→Option Int→Option Int→Hp→VK→Prop) (te:TE) (tl th:TO):TE:=fun σ H Q=>te σ H fun x H1=>tl σ H1 fun l H2=>th σ H2 fun u H3=>r x l u H3 Q
theorem cn {r:V→Option Int→Option Int→Hp→VK→Prop} (hr:zh X r) (he:PE X e te) (hl:PO X lo tl) (hu:PO X hi th):PE X (.Subscript e (.Slice lo hi none p2) pos) (Ls r te tl th):=by
 intro pins s σ H Q I h
 refine Subscript_ (aS (he pins s σ H _ I h) fun v s1 ⟨x,H1,I1,r1,q1⟩=>?_)
 refine wpAny_Slice (aS (hl pins s1 σ H1 _ I1 q1) fun vl s2 ⟨l,H2,I2,pl,q2⟩=>aS (hu pins s2 σ H2 _ I2 q2) fun vu s3 ⟨u,H3,I3,pu,q3⟩=>?_)
 rw [evalPart_none]
 refine wpAny_pure ?_
 have I4:ag X pins σ H3 { s3 with heap:=s3.heap.push { cls:=.type "slice",data:=.fields #[vl,vu,.none] } }:=I3.kept (t':=s3.toks) fun b ob q=>Heap.get?_push_of_some _ q
 obtain ⟨T,id,hT,ht,hg⟩:=hr pins { s3 with heap:=s3.heap.push { cls:=.type "slice",data:=.fields #[vl,vu,.none] } } σ H3 x v vl vu l u s3.heap.objs.size Q I4 r1 (Heap.IsSliceOf.new ..) pl pu q3
 show wpAny (model X.prog X.w) X.A (subscriptTail e (.Slice lo hi none p2) v (.ref s3.heap.objs.size)) (EP X pins σ Q) X.xe { s3 with heap:=s3.heap.push { cls:=.type "slice",data:=.fields #[vl,vu,.none] } }
 exact tail_any (ops:=[.ref s3.heap.objs.size,v]) ht hT hg (by with_unfolding_all rfl)
def eX (xs:List V) (lo hi:Option Int):List V:=(xs.drop (HT.sIx xs.length 0 lo)).take (HT.sIx xs.length xs.length hi - HT.sIx xs.length 0 lo)
theorem uf (xs:List V) (lo hi:Option Int):(eX xs lo hi).length≤xs.length:=by
 unfold eX
 rw [List.length_take,List.length_drop]
 exact Nat.le_trans (Nat.min_le_right ..) (Nat.sub_le ..)
inductive Jc (K:PySem.W.Frag) (x:V) (lo:Option Int) (hi:Option Int) (H:Hp) (Q:VK):Prop
 | mk (a:_) (xs:_) (h0:x=.ref a) (h1:ad K H a xs) (h2:¬(HT.sIx xs.length 0 lo=0∧HT.sIx xs.length xs.length hi=xs.length)) (h3:∀p,H p=none→Q (.ref p) (aQ H p (.tup (eX xs lo hi))))
def KJ (K:PySem.W.Frag):V→Option Int→Option Int→Hp→VK→Prop:=fun x lo hi H Q=>Jc K x lo hi H Q
theorem Hz:zh X (KJ X.K):=by
 intro pins s σ H x v vl vu lo hi sl Q I rx hs pl pu h
 obtain ⟨a,xs,rfl,hx,hw,q⟩:=h
 cases rx
 obtain ⟨its,r,ht,hz⟩:=I.tuple hx
 have hlen:its.toArray.size=xs.length:=by rw [List.size_toArray];exact r.length.symm
 refine ⟨"tuple",_,PyProof.Rows.slot_tuple_getitem.lookup,ht.typeIs,?_⟩
 refine HT.getItem_tuple_cut ht hs pl pu (by rw [hlen];exact hw) ?_ (by rw [hlen];exact hz)
 rw [hlen]
 refine ⟨.ref s.heap.objs.size,_,I.laid (t':=s.toks) (o:=.tup (eX xs lo hi)) (fun b ob q=>Heap.get?_push_of_some _ q) (Nat.le_refl _) ?_,rfl,q _ (I.hok.fresh (Nat.le_refl _))⟩
 exact ⟨Nat.le_trans (uf xs lo hi) hz,_,(r.drop (HT.sIx xs.length 0 lo)).take (HT.sIx xs.length xs.length hi - HT.sIx xs.length 0 lo),IsTup.new _ _,_,Heap.get?_push_size _ rfl,rfl⟩
inductive Ic (K:PySem.W.Frag) (x:V) (y:V) (H:Hp) (Q:VK):Prop
 | mk (a:_) (b:_) (xs:_) (ys:_) (h0:x=.ref a) (h1:y=.ref b) (h2:ad K H a xs) (h3:ad K H b ys) (h4:xs≠[]) (h5:xs.length+ys.length≤sizeLine) (h6:(ys=[]→Q (.ref a) H)) (h7:(ys≠[]→∀p,H p=none→Q (.ref p) (aQ H p (.tup (xs++ys)))))
def I0 (K:PySem.W.Frag):R2:=fun x y H Q=>Ic K x y H Q
theorem aL.nil_iff {xs:List V}{us:List Value} (r:aL xs us):us=[]↔xs=[]:=by
 cases r with
 | nil=>simp
 | cons _ _=>simp
theorem Fe:cU X (binaryOp .Add) (I0 X.K):=by
 intro pins s σ H x y v u Q I rx ry h
 obtain ⟨a,b,xs,ys,rfl,rfl,ha,hb,hx,hz,q1,q2⟩:=h
 cases rx
 cases ry
 obtain ⟨its,r1,p1,_⟩:=I.tuple ha
 obtain ⟨its2,r2,p2,_⟩:=I.tuple hb
 refine HT.cat_tup p1 p2 (fun z=>hx (r1.nil_iff.mp z)) (fun z=>⟨.ref a,H,I,rfl,q1 (r2.nil_iff.mp z)⟩) (fun z=>?_) (by rw [←r1.length,←r2.length];exact hz)
 refine ⟨.ref s.heap.objs.size,_,I.laid (t':=s.toks) (o:=.tup (xs++ys)) (fun b ob q=>Heap.get?_push_of_some _ q) (Nat.le_refl _) ?_,rfl,q2 (fun w=>z (r2.nil_iff.mpr w)) _ (I.hok.fresh (Nat.le_refl _))⟩
 exact ⟨by rw [List.length_append];exact hz,_,r1.append r2,IsTup.new _ _,_,Heap.get?_push_size _ rfl,rfl⟩
end
def sf (n:Nat) (i:Int):Option Nat:=if 0≤i then (if i<n then some i.toNat else none) else if -(n:Int)≤i then some (i+n).toNat else none
def ko {α:Type} (xs:List α) (i:Int):Option α:=(sf xs.length i).bind fun j=>xs[j]?
theorem Ay {n:Nat}{i:Int}{j:Nat} (h:sf n i=some j):seqIndex? i n=some j∧j<n∧-(n:Int)≤i∧i<n:=by
 unfold sf at h
 by_cases h0:0≤i
 ·rw [if_pos h0] at h
  by_cases h1:i<n
  ·rw [if_pos h1] at h
   have e:i.toNat=j:=Option.some.inj h
   exact ⟨by rw [seqIndex_of h0 h1,e],by trivial,by trivial,h1⟩
  ·rw [if_neg h1] at h;cases h
 ·rw [if_neg h0] at h
  by_cases h1:-(n:Int)≤i
  ·rw [if_pos h1] at h
   have e:(i+n).toNat=j:=Option.some.inj h
   exact ⟨by rw [seqIndex_neg (by trivial) h1,e],by trivial,h1,by trivial⟩
  ·rw [if_neg h1] at h;cases h
theorem vL {α:Type}{xs:List α}{i:Int}{v:α} (h:ko xs i=some v):∃j,seqIndex? i xs.length=some j∧xs[j]?=some v∧j<xs.length∧-(xs.length:Int)≤i∧i<xs.length:=by
 unfold ko at h
 cases e:sf xs.length i with
 | none=>rw [e] at h;cases h
 | some j=>
  rw [e] at h
  obtain ⟨h1,h2,h3,h4⟩:=Ay e
  exact ⟨j,h1,h,h2,h3,h4⟩
theorem eN {α:Type}{xs:List α}{j:Nat}{v:α} (h:xs[j]?=some v):ko xs (j:Int)=some v:=by
 have hj:j<xs.length:=(List.getElem?_eq_some_iff.mp h).1
 have e:sf xs.length (j:Int)=some j:=by
  unfold sf
  rw [if_pos (by trivial),if_pos (by trivial)];simp
 unfold ko;rw [e];exact h
def Fc (b:Expr):Prop:=∀o i,subscripted b false o i=operate [o,i] (getItem o i)
def qi (X:Cx) (r:R2):Prop:=
 ∀(value slice:Expr) (pins:List (Addr×Obj)) (s:Shared) (σ:St) (H:Hp) (x y:V) (v u:Value) (Q:VK),ag X pins σ H s→bj x v→bj y u→r x y H Q→
   subscripted slice false v u=operate [v,u] (getItem v u)→wpAny (model X.prog X.w) X.A (subscriptTail value slice v u) (EP X pins σ Q) X.xe s
def yL (X:Cx) (id:String) (r:V→List V→Hp→VK→Prop):Prop:=
 ∀(pins:List (Addr×Obj)) (s:Shared) (σ:St) (H:Hp) (x:V) (xs:List V) (v:Value) (us:List Value) (Q:VK),ag X pins σ H s→bj x v→aL xs us→r x xs H Q→
   wpAny (model X.prog X.w) X.A (call (.builtin id) (v :: us)) (EP X pins σ Q) X.xe s
section
variable {X:Cx}{a b:Expr}{ta tb:TE}{pos:Pos}
theorem qi.or {r r':R2} (h:qi X r) (h':qi X r'):qi X (fun x y H Q=>r x y H Q∨r' x y H Q):=by
 intro value slice pins s σ H x y v u Q I rx ry q hs
 rcases q with q | q
 ·exact h value slice pins s σ H x y v u Q I rx ry q hs
 ·exact h' value slice pins s σ H x y v u Q I rx ry q hs
theorem d7 {r:R2} (hr:qi X r) (ha:PE X a ta) (hb:PE X b tb) (hs:Fc b):PE X (.Subscript a b pos) (EM r ta tb):=by
 intro pins s σ H Q I h
 exact Subscript_ (Ev ha hb I h fun v u s2 x y H2 I2 rx ry q=>hr a b pins s2 σ H2 x y v u Q I2 rx ry q (hs _ _))
inductive Jr (K:PySem.W.Frag) (x:V) (y:V) (H:Hp) (Q:VK):Prop
 | mk (p:_) (xs:_) (i:_) (v:_) (h0:x=.ref p) (h1:y=.int i) (h2:ah K H p xs) (h3:ko xs i=some v) (h4:Q v H)
def Eo (K:PySem.W.Frag):R2:=fun x y H Q=>Jr K x y H Q
inductive Jg (K:PySem.W.Frag) (x:V) (y:V) (H:Hp) (Q:VK):Prop
 | mk (p:_) (xs:_) (i:_) (v:_) (h0:x=.ref p) (h1:y=.int i) (h2:ad K H p xs) (h3:ko xs i=some v) (h4:Q v H)
def Dc (K:PySem.W.Frag):R2:=fun x y H Q=>Jg K x y H Q
inductive JN (x:V) (y:V) (H:Hp) (Q:VK):Prop
 | mk (z:_) (i:_) (c:_) (h0:x=.str z) (h1:y=.int i) (h2:z.length≤sizeLine) (h3:ko z.cps.toList i=some c) (h4:Q (.str ⟨#[c]⟩) H)
def GV:R2:=fun x y H Q=>JN  x y H Q
theorem Aw:qi X (Eo X.K):=by
 intro value slice pins s σ H x y v u Q I rx ry h hs
 obtain ⟨p,xs,i,z,rfl,rfl,hq,he,q⟩:=h
 cases rx
 obtain ⟨t,rfl⟩:=ry
 obtain ⟨its,r,pl,hz⟩:=I.list hq
 obtain ⟨j,h1,h2,h3,h4,h5⟩:=vL he
 obtain ⟨w,ew,rw'⟩:=r.get h2
 have hl:=r.length
 have hn:=sB
 have fin:EP X pins σ Q w s:=⟨z,H,I,rw',q⟩
 by_cases h0:0≤i
 ·have hj:i.toNat=j:=by
   rw [seqIndex_of h0 h5] at h1
   exact Option.some.inj h1
  exact item_listR pl.isList h0 (by trivial) (by rw [hj];simpa using ew) fin hs
 ·have hj:(i+(its.toArray.size:Int)).toNat=j:=by
   rw [seqIndex_neg (by trivial) h4] at h1
   rw [List.size_toArray,←hl]
   exact Option.some.inj h1
  exact subscriptTail_builtinR (x:=w) pl.isList.typeIs slot_list_getitem.lookup
   (wpAny_getItem_list_neg (Q:=fun r s'=>r=w∧EP X pins σ Q r s') pl.isList (by trivial) (by rw [List.size_toArray] <;> trivial) (by trivial) (by rw [hj];simpa using ew) ⟨rfl,fin⟩) hs
theorem BZ:qi X (Dc X.K):=by
 intro value slice pins s σ H x y v u Q I rx ry h hs
 obtain ⟨p,xs,i,z,rfl,rfl,hq,he,q⟩:=h
 cases rx
 obtain ⟨t,rfl⟩:=ry
 obtain ⟨its,r,pl,hz⟩:=I.tuple hq
 obtain ⟨j,h1,h2,h3,h4,h5⟩:=vL he
 obtain ⟨w,ew,rw'⟩:=r.get h2
 have hl:=r.length
 have hn:=sB
 have fin:EP X pins σ Q w s:=⟨z,H,I,rw',q⟩
 exact subscriptTail_builtinR (x:=w) pl.typeIs slot_tuple_getitem.lookup
  (getItem_tuple (j:=j) (Q:=fun r s'=>r=w∧EP X pins σ Q r s') pl (by trivial) (by trivial) (by rw [List.size_toArray,←hl];exact h1) (by simpa using ew) ⟨rfl,fin⟩) hs
theorem vf:qi X GV:=by
 intro value slice pins s σ H x y v u Q I rx ry h hs
 obtain ⟨z,i,c,rfl,rfl,hz,he,q⟩:=h
 obtain ⟨t,rfl⟩:=rx
 obtain ⟨t',rfl⟩:=ry
 obtain ⟨j,h1,h2,h3,h4,h5⟩:=vL he
 have hl:z.cps.toList.length=z.length:=by simp [Str.length]
 rw [hl] at h1 h4 h5
 have hn:=sB
 exact tail_any (typeIs_str s z t) slot_str_getitem.lookup (getItem_str (c:=c) (by
  have e1:decide (i < -(2 ^ 63:Int))=false:=decide_eq_false (by trivial)
  have e2:decide (i≥2 ^ 63)=false:=decide_eq_false (by trivial)
  rw [e1,e2,Bool.or_false]) (by rw [h1];simpa using h2) ⟨.str ⟨#[c]⟩,H,I.tok _,⟨()⟩,q⟩) hs
def Ij (K:PySem.W.Frag):R2:=fun x y H Q=>Eo K x y H Q∨Dc K x y H Q∨GV x y H Q
theorem jX:qi X (Ij X.K):=Aw.or (BZ.or vf)
theorem Bv (its:List Value) (n j:Nat) (u:Value):Obj.mapSeq (·.setIfInBounds j u) { cls:=.type "list",data:=.seq its.toArray n }={ cls:=.type "list",data:=.seq (its.set j u).toArray n }:=by
 simp [Obj.mapSeq]
theorem ag.lst {pins:List (Addr×Obj)}{σ:St}{H:Hp}{s:Shared}{p:Addr}{xs:List V} (I:ag X pins σ H s) (h:H p=some (.lst xs)) :
 bP fun (its:List Value) (n:Nat)=>aL xs its∧s.heap.get? p=some { cls:=.type "list",data:=.seq its.toArray n }∧xs.length≤sizeLine:=by
 obtain ⟨z,its,n,r,e⟩:=I.hok p _ h
 exact ⟨its,n,r,e,z⟩
theorem ag.lstUpd {pins:List (Addr×Obj)}{σ:St}{H:Hp}{s:Shared}{p:Addr}{xs ys:List V}{its its':List Value}{n n':Nat}{f:Obj→Obj} (I:ag X pins σ H s) (h:H p=some (.lst xs))
 (ho:s.heap.get? p=some { cls:=.type "list",data:=.seq its.toArray n }) (hf:f { cls:=.type "list",data:=.seq its.toArray n }={ cls:=.type "list",data:=.seq its'.toArray n' }) (r:aL ys its') (hz:ys.length≤sizeLine) (t:Nat) :
 ag X pins σ (aQ H p (.lst ys)) { s with heap:=s.heap.update p f,toks:=t }:=by
 have e:(s.heap.update p f).get? p=some { cls:=.type "list",data:=.seq its'.toArray n' }:=by
  rw [Heap.get?_update_self f ho (by rw [hf] <;> rfl),hf]
 refine I.write (x:=p) (e:=p) (by rw [h];trivial) (.inl rfl) (fun b u hb q=>(Heap.get?_update_other _ _ (Ne.symm hb)).trans q) ⟨_,e⟩ ?_
 exact ⟨hz,its',n',r,e⟩
inductive Ik (o:V) (i:V) (v:V) (H:Hp) (Q:(Hp→Prop)):Prop
 | mk (p:_) (xs:_) (k:_) (j:_) (h0:o=.ref p) (h1:i=.int k) (h2:H p=some (.lst xs)) (h3:sf xs.length k=some j) (h4:Q (aQ H p (.lst (xs.set j v))))
def JG:V→V→V→Hp→(Hp→Prop)→Prop:=fun o i v H Q=>Ik  o i v H Q
theorem uz:A9 X JG:=by
 intro pins s σ H o i v ov iv u Q I ro ri rv h
 obtain ⟨p,xs,k,j,rfl,rfl,hp,hj,q⟩:=h
 cases ro
 obtain ⟨t,rfl⟩:=ri
 obtain ⟨its,n,r,ho,hz⟩:=I.lst hp
 obtain ⟨h1,h2,h3,h4⟩:=Ay hj
 have hl:=r.length
 have hn:=sB
 have I':ag X pins σ (aQ H p (.lst (xs.set j v))) { s with heap:=s.heap.update p (Obj.mapSeq (·.setIfInBounds j u)) }:=
  I.lstUpd hp ho (Bv its n j u) (r.set rv j) (by rw [List.length_set];exact hz) s.toks
 by_cases h0:0≤k
 ·have hk:k.toNat=j:=by
   rw [seqIndex_of h0 h4] at h1
   exact Option.some.inj h1
  exact PySem.W.ki_setAt ho h0 (by trivial) (by rw [List.size_toArray,←hl];exact h4) (by rw [hk];exact ⟨_,I',q⟩)
 ·have hk:(k+(its.toArray.size:Int)).toNat=j:=by
   rw [seqIndex_neg (by trivial) h3] at h1
   rw [List.size_toArray,←hl]
   exact Option.some.inj h1
  exact PySem.W.ki_setBack ho (by trivial) (by rw [List.size_toArray,←hl];exact h3) (by trivial) (by rw [hk];exact ⟨_,I',q⟩)
theorem zI (lo hi:Option Int) (n:Nat):(sliceBounds lo hi none n).1=((HT.sIx n 0 lo:Nat):Int)∧(sliceBounds lo hi none n).2.1=((HT.sIx n n hi:Nat):Int)∧(sliceBounds lo hi none n).2.2=1:=by
 refine ⟨?_,?_,rfl⟩
 ·cases lo with
  | none=>simp [sliceBounds,HT.sIx]
  | some i=>
   simp only [sliceBounds,HT.sIx,Option.getD_none,show (1:Int) > 0 by decide,if_true]
   by_cases h:i<0
   ·simp only [h,if_true] <;> trivial
   ·simp only [h,if_false] <;> trivial
 ·cases hi with
  | none=>simp [sliceBounds,HT.sIx]
  | some i=>
   simp only [sliceBounds,HT.sIx,Option.getD_none,show (1:Int) > 0 by decide,if_true]
   by_cases h:i<0
   ·simp only [h,if_true] <;> trivial
   ·simp only [h,if_false] <;> trivial
theorem xW (its:List Value) (lo hi:Option Int):slicePick its.toArray lo hi none=((its.drop (HT.sIx its.length 0 lo)).take (HT.sIx its.length its.length hi - HT.sIx its.length 0 lo)).toArray:=by
 obtain ⟨h1,h2,h3⟩:=zI lo hi its.toArray.size
 unfold slicePick
 rw [h1,h2,h3]
 simp only [sliceRange_one,pick_run,List.size_toArray] <;> rfl
inductive IW (K:PySem.W.Frag) (x:V) (lo:Option Int) (hi:Option Int) (H:Hp) (Q:VK):Prop
 | mk (a:_) (xs:_) (h0:x=.ref a) (h1:ah K H a xs) (h2:∀p,H p=none→Q (.ref p) (aQ H p (.lst (eX xs lo hi))))
def KN (K:PySem.W.Frag):V→Option Int→Option Int→Hp→VK→Prop:=fun x lo hi H Q=>IW K x lo hi H Q
theorem Gp:zh X (KN X.K):=by
 intro pins s σ H x v vl vu lo hi sl Q I rx hs pl pu h
 obtain ⟨a,xs,rfl,hx,q⟩:=h
 cases rx
 obtain ⟨its,r,ht,hz⟩:=I.list hx
 have hlen:=r.length
 refine ⟨"list",_,slot_list_getitem.lookup,ht.isList.typeIs,?_⟩
 refine wpAny_getItem_list_slice ht.isList hs pl pu .none (by simp) ?_ (by rw [List.size_toArray] <;> trivial)
 rw [xW,←hlen]
 refine ⟨.ref s.heap.objs.size,_,I.laid (t':=s.toks) (o:=.lst (eX xs lo hi)) (fun b ob q=>Heap.get?_push_of_some _ q) (Nat.le_refl _) ?_,rfl,q _ (I.hok.fresh (Nat.le_refl _))⟩
 exact ⟨Nat.le_trans (uf xs lo hi) hz,_,0,(r.drop (HT.sIx xs.length 0 lo)).take (HT.sIx xs.length xs.length hi - HT.sIx xs.length 0 lo),Heap.get?_push_size _ rfl⟩
def mC:V→Bool
 | .non=>true
 | .bl _=>true
 | .int _=>true
 | .str _=>true
 | _=>false
def xl:V→V→Bool
 | .non,.non=>true
 | .bl a,.bl b=>a==b
 | .bl a,.int b=>(if a then 1 else 0)==b
 | .int a,.bl b=>a==(if b then 1 else 0)
 | .int a,.int b=>a==b
 | .str a,.str b=>a==b
 | _,_=>false
theorem Iq {A:Around}{s:Shared}{y x:V}{u v:Value} (ry:bj y u) (rx:bj x v) (fy:mC y=true) (fx:mC x=true):SeqAt.EqAt A s u v (xl y x):=by
 cases y with
 | non=>
  cases ry
  cases x with
  | non=>cases rx;exact SeqAt.EqAt.same _
  | bl b=>cases rx;exact SeqAt.EqAt.none_bool b
  | int b=>obtain ⟨t,rfl⟩:=rx;exact SeqAt.EqAt.none_int b t
  | str b=>obtain ⟨t,rfl⟩:=rx;exact SeqAt.EqAt.none_str b t
  | _=>exact absurd (show false=true from fx) Bool.false_ne_true
 | bl a=>
  cases ry
  cases x with
  | non=>cases rx;exact SeqAt.EqAt.bool_none a
  | bl b=>cases rx;exact SeqAt.EqAt.bool_bool a b
  | int b=>obtain ⟨t,rfl⟩:=rx;exact SeqAt.EqAt.bool_int a b t
  | str b=>obtain ⟨t,rfl⟩:=rx;exact SeqAt.EqAt.bool_str a b t
  | _=>exact absurd (show false=true from fx) Bool.false_ne_true
 | int a=>
  obtain ⟨t',rfl⟩:=ry
  cases x with
  | non=>cases rx;exact SeqAt.EqAt.int_none a t'
  | bl b=>cases rx;exact SeqAt.EqAt.int_bool a t' b
  | int b=>obtain ⟨t,rfl⟩:=rx;exact SeqAt.EqAt.int_int a t' b t
  | str b=>obtain ⟨t,rfl⟩:=rx;exact SeqAt.EqAt.int_str a t' b t
  | _=>exact absurd (show false=true from fx) Bool.false_ne_true
 | str a=>
  obtain ⟨t',rfl⟩:=ry
  cases x with
  | non=>cases rx;exact SeqAt.EqAt.str_none a t'
  | bl b=>cases rx;exact SeqAt.EqAt.str_bool a t' b
  | int b=>obtain ⟨t,rfl⟩:=rx;exact SeqAt.EqAt.str_int a t' b t
  | str b=>obtain ⟨t,rfl⟩:=rx;exact SeqAt.EqAt.str_str a t' b t
  | _=>exact absurd (show false=true from fx) Bool.false_ne_true
 | _=>exact absurd (show false=true from fy) Bool.false_ne_true
def u4 (x:V) (u:Value):Bool:=match u with
 | .none=>xl .non x
 | .bool b=>xl (.bl b) x
 | .int i _=>xl (.int i) x
 | .str z _=>xl (.str z) x
 | _=>false
theorem CM {x y:V}{u:Value} (r:bj y u) (f:mC y=true):u4 x u=xl y x:=by
 cases y with
 | non=>cases r;rfl
 | bl b=>cases r;rfl
 | int i=>obtain ⟨t,rfl⟩:=r;rfl
 | str z=>obtain ⟨t,rfl⟩:=r;rfl
 | _=>exact absurd (show false=true from f) Bool.false_ne_true
theorem wL {x:V}:∀{xs:List V}{us:List Value},aL xs us→xs.all mC=true→us.any (u4 x)=xs.any fun y=>xl y x
 | _,_,.nil,_=>rfl
 | y :: xs,u :: us,.cons r t,f=>by
  rw [List.all_cons,Bool.and_eq_true] at f
  rw [List.any_cons,List.any_cons,CM r f.1,wL t f.2]
theorem uF {A:Around}{s:Shared}{x:V}{v:Value} (rx:bj x v) (fx:mC x=true):∀{xs:List V}{us:List Value},aL xs us→xs.all mC=true→∀u∈us,SeqAt.EqAt A s u v (u4 x u)
 | _,_,.nil,_=>fun u hu=>by cases hu
 | y :: xs,u :: us,.cons r t,f=>fun u' hu=>by
  rw [List.all_cons,Bool.and_eq_true] at f
  rcases List.mem_cons.mp hu with rfl | hu
  ·rw [CM r f.1];exact Iq r rx f.1 fx
  ·exact uF rx fx t f.2 u' hu
def EI (x:V) (xs:List V):Bool:=xs.any fun y=>xl y x
inductive KD (K:PySem.W.Frag) (neg:Bool) (x:V) (y:V) (H:Hp) (Q:VK):Prop
 | mk (p:_) (xs:_) (h0:y=.ref p) (h1:(ah K H p xs∨ad K H p xs)) (h2:mC x=true) (h3:xs.all mC=true) (h4:Q (.bl (if neg then !EI x xs else EI x xs)) H)
def Kj (K:PySem.W.Frag) (neg:Bool):R2:=fun x y H Q=>KD K neg x y H Q
theorem BI:cU X (compareOp .In) (Kj X.K false):=by
 intro pins s σ H x y v u Q I rx ry h
 obtain ⟨p,xs,rfl,hq,fx,fs,q⟩:=h
 cases ry
 rcases hq with hq | hq
 ·obtain ⟨its,r,pl,hz⟩:=I.list hq
  refine SeqAt.in_listAt (u4 x) pl.isList (fun w hw=>uF rx fx r fs w (by simpa using hw)) ⟨.bl _,H,I,rfl,?_⟩
  rw [show its.toArray.any (u4 x)=its.any (u4 x) by simp,wL r fs]
  exact q
 ·obtain ⟨its,r,pl,hz⟩:=I.tuple hq
  refine SeqAt.in_tupleAt (u4 x) pl (fun w hw=>uF rx fx r fs w (by simpa using hw)) ⟨.bl _,H,I,rfl,?_⟩
  rw [show its.toArray.any (u4 x)=its.any (u4 x) by simp,wL r fs]
  exact q
theorem nF:d8 X (.builtin "len") (fun xs H Q=>bP fun p ys=>xs=[.ref p]∧(ah X.K H p ys∨ad X.K H p ys)∧Q (.int ys.length) H):=by
 intro pins s σ H xs us Q I r h
 obtain ⟨p,ys,rfl,hq,q⟩:=h
 obtain ⟨u,rfl,rx⟩:=oD r
 cases rx
 have hn:=sB
 rcases hq with hq | hq
 ·obtain ⟨its,r',pl,hz⟩:=I.list hq
  have hlen:=r'.length
  exact Calls.call_len_list pl.isList (by simp only [List.size_toArray] <;> trivial) ⟨.int ys.length,H,I.tok _,⟨s.toks+1,by rw [List.size_toArray,hlen]⟩,q⟩
 ·obtain ⟨its,r',pl,hz⟩:=I.tuple hq
  have hlen:=r'.length
  exact len_tuple pl (by simp only [List.size_toArray] <;> trivial) ⟨.int ys.length,H,I.tok _,⟨s.toks+1,by rw [List.size_toArray,hlen]⟩,q⟩
theorem y9:d8 X (.type "list") (fun xs H Q=>bP fun p ys=>xs=[.ref p]∧(ah X.K H p ys∨ad X.K H p ys)∧∀l,H l=none→Q (.ref l) (aQ H l (.lst ys))):=by
 intro pins s σ H xs us Q I r h
 obtain ⟨p,ys,rfl,hq,q⟩:=h
 obtain ⟨u,rfl,rx⟩:=oD r
 cases rx
 have fin:∀(its:List Value),aL ys its→ys.length≤sizeLine→∀(h':Heap) (c':Nat),(∀b o',s.heap.get? b=some o'→h'.get? b=some o')→
  h'.get? s.heap.objs.size=some { cls:=.type "list",dict:=none,data:=.seq its.toArray c',slots:=#[] }→EP X pins σ Q (.ref s.heap.objs.size) { s with heap:=h' }:=fun its r' hz h' c' kp e=>
  ⟨.ref s.heap.objs.size,_,I.laid (t':=s.toks) kp (Nat.le_refl _) (show bU X.prog X.w _ h' _ (.lst ys) from ⟨hz,its,c',r',e⟩),rfl,q _ (I.hok.fresh (Nat.le_refl _))⟩
 rcases hq with hq | hq
 ·obtain ⟨its,r',pl,hz⟩:=I.list hq
  have hlen:=r'.length
  obtain ⟨o,ho,hc,n,hd⟩:=pl.isList
  exact call_list_seq p (.inl rfl) ho hc hd (fun h' c' kp e=>fin its r' hz h' c' kp e) (by simp only [List.size_toArray] <;> trivial)
 ·obtain ⟨its,r',pl,hz⟩:=I.tuple hq
  have hlen:=r'.length
  obtain ⟨o,ho,hc,n,hd⟩:=pl
  exact call_list_seq p (.inr rfl) ho hc hd (fun h' c' kp e=>fin its r' hz h' c' kp e) (by simp only [List.size_toArray] <;> trivial)
theorem xS:d8 X (.type "tuple") (fun xs H Q=>bP fun p ys=>xs=[.ref p]∧((ah X.K H p ys∧∀l,H l=none→Q (.ref l) (aQ H l (.tup ys)))∨(ad X.K H p ys∧Q (.ref p) H))):=by
 intro pins s σ H xs us Q I r h
 obtain ⟨p,ys,rfl,h⟩:=h
 obtain ⟨u,rfl,rx⟩:=oD r
 cases rx
 rcases h with ⟨hq,q⟩ | ⟨hq,q⟩
 ·obtain ⟨its,r',pl,hz⟩:=I.list hq
  have hlen:=r'.length
  refine call_tuple_list pl.isList (fun h' kp=>?_) (by simp only [List.size_toArray] <;> trivial)
  have I1:ag X pins σ H { s with heap:=h' }:=I.kept (t':=s.toks) kp
  have I2:ag X pins σ (aQ H h'.objs.size (.tup ys)) { s with heap:=h'.push { cls:=.type "tuple",data:=.seq its.toArray } }:=
   I1.laid (t':=s.toks) (fun b o e=>Heap.get?_push_of_some _ e) (Nat.le_refl _) (show bU X.prog X.w _ _ _ (.tup ys) from ⟨hz,its,r',IsTup.new _ _,_,Heap.get?_push_size _ rfl,rfl⟩)
  exact ⟨.ref h'.objs.size,_,I2,rfl,q _ (I1.hok.fresh (Nat.le_refl _))⟩
 ·obtain ⟨its,r',pl,hz⟩:=I.tuple hq
  exact call_tuple_same pl ⟨.ref p,H,I,rfl,q⟩
def Ii (K:PySem.W.Frag) (T:String) (x:V) (H:Hp):Prop:=match x with
 | .str _=>T = "str"
 | .int _=>T = "int"
 | .ref p=>(T = "list"∧∃xs,ah K H p xs)∨(T = "tuple"∧∃o,K.lookup p=some o∧o.cls=.type "tuple"∧o.dict=none)∨
  (T = "dict"∧((∃kvs,H p=some (.dK kvs))∨∃kvs,H p=some (.dT kvs)))∨(T = "set"∧bP fun S n=>H p=some (.set S n))
 | _=>False
theorem Ci {pins:List (Addr×Obj)}{σ:St}{H:Hp}{s:Shared}{T:String}{x:V}{v:Value} (I:ag X pins σ H s) (r:bj x v) (ty:Ii X.K T x H) :
 s.TypeIs v T∧∀a,v=.ref a→∃ob,s.heap.get? a=some ob∧ob.dict=none:=by
 cases x with
 | str z=>
  obtain ⟨t,rfl⟩:=r
  cases (show T = "str" from ty)
  exact ⟨typeIs_str s z t,fun _ e=>nomatch e⟩
 | int i=>
  obtain ⟨t,rfl⟩:=r
  cases (show T = "int" from ty)
  exact ⟨typeIs_int s i t,fun _ e=>nomatch e⟩
 | ref p=>
  cases r
  rcases ty with ⟨rfl,xs,hq⟩ | ⟨rfl,o,hk,hc,hd⟩ | ⟨rfl,hk⟩ | ⟨rfl,S,n,hk⟩
  ·obtain ⟨its,_,pl,_⟩:=I.list hq
   refine ⟨pl.isList.typeIs,fun a e=>?_⟩
   cases e
   obtain ⟨o,n,e,c,hd,_⟩:=pl
   exact ⟨o,e,hd⟩
  ·refine ⟨⟨o,I.kIn p o hk,hc⟩,fun a e=>?_⟩
   cases e
   exact ⟨o,I.kIn _ o hk,hd⟩
  ·have z:∃o,s.heap.get? p=some o∧o.ExactDict:=by
    rcases hk with ⟨kvs,hk⟩ | ⟨kvs,hk⟩
    ·obtain ⟨_,_,_,_,o,_,_,e,ex,_⟩:=I.hok p _ hk
     exact ⟨o,e,ex⟩
    ·obtain ⟨_,_,_,_,o,_,_,e,ex,_⟩:=I.hok p _ hk
     exact ⟨o,e,ex⟩
   obtain ⟨o,e,ex⟩:=z
   refine ⟨⟨o,e,ex.1⟩,fun a e2=>?_⟩
   cases e2
   exact ⟨o,e,ex.2.1⟩
  ·obtain ⟨o,_,_,_,e,ex,_⟩:=I.hok p _ hk
   refine ⟨⟨o,e,ex.1⟩,fun a e2=>?_⟩
   cases e2
   exact ⟨o,e,ex.2.1⟩
 | _=>exact False.elim ty
def KS (K:PySem.W.Frag) (T:String) (r:V→List V→Hp→VK→Prop) (to:TE):TE:=fun σ H Q=>to σ H fun x H1=>Ii K T x H1∧r x [] H1 Q
def Kg (K:PySem.W.Frag) (T:String) (r:V→List V→Hp→VK→Prop) (to:TE) (t:TA):TE:=fun σ H Q=>to σ H fun x H1=>Ii K T x H1∧t σ H1 fun xs H2=>r x xs H2 Q
variable {o e:Expr}{es:List Expr}{to:TE}{t:TA}{name:Str}{apos cpos:Pos}{T id:String}{r:V→List V→Hp→VK→Prop}
theorem Cr (pa:PlainAttrs T) (slot:Slot T name id) (hty:typeOf (.builtin id)=pure (.type "method_descriptor")) (hm:yL X id r) (ho:PE X o to)
 (hbase:attributeBase o name X.env (eval o X.env)=eval o X.env:=by rfl) (hline:(apos.endLine==cpos.line)=true:=by rfl):PE X (.Call (.Attribute o name apos) [] [] cpos) (KS X.K T r to):=by
 intro pins s σ H Q I h
 refine wpAny_Call_method0_late hbase hline (aS (ho pins s σ H _ I h) fun v s1 ⟨x,H1,I1,r1,ty,q1⟩=>?_)
 obtain ⟨h1,h2⟩:=Ci I1 r1 ty
 exact ⟨T,id,pa,slot,hty,h1,h2,Calls.callWith_builtin rfl (PySem.evalArgs_none (hm pins s1 σ H1 x [] v [] Q I1 r1 .nil q1))⟩
theorem Jx (pa:PlainAttrs T) (slot:Slot T name id) (hty:typeOf (.builtin id)=pure (.type "method_descriptor")) (hm:yL X id r) (ho:PE X o to) (ha:PA X (e :: es) t)
 (hbase:attributeBase o name X.env (eval o X.env)=eval o X.env:=by rfl)
 (hfew:((backTo cpos (starEach (e :: es) X.env)).all (fun x=>!x.1) && (backToKw cpos (keywordEach [] X.env)).all (fun x=>x.1.isSome)
  && decide ((e :: es).length+([]:List Keyword).length+(if ([]:List Keyword).isEmpty then 0 else 1)<30))=true:=by rfl)
 (hline:(apos.endLine==cpos.line)=true:=by rfl) (hs:starEach (e :: es) X.env=(false,eval e X.env) :: starEach es X.env:=by rfl) (hplain:(backTo cpos (starEach es X.env)).any (·.1)=false:=by rfl) :
 PE X (.Call (.Attribute o name apos) (e :: es) [] cpos) (Kg X.K T r to t):=by
 intro pins s σ H Q I h
 refine wpAny_Call_method_late hbase hfew hline rfl (aS (ho pins s σ H _ I h) fun v s1 ⟨x,H1,I1,r1,ty,q1⟩=>?_)
 obtain ⟨h1,h2⟩:=Ci I1 r1 ty
 refine ⟨T,id,pa,slot,hty,h1,h2,?_⟩
 have hA:=ha cpos pins s1 σ H1 _ I1 q1
 rw [hs] at hA ⊢
 refine Calls.callWith_builtin (by show (false || (backTo cpos (starEach es X.env)).any (·.1))=false;rw [hplain] <;> rfl) (Calls.evalArgs_plain ?_)
 exact aS hA fun us s2 ⟨vs,H2,I2,r2,q2⟩=>hm pins s2 σ H2 x vs v us Q I2 r1 r2 q2
/- xs.append(e), list.index on a module's tuple .. are yL facts of 06m -/
end
end L2
namespace L2
open PySem PySem.Spec PyProof.Rows
def yv (X:Cx) (id:String) (r:V→List V→Hp→VK→Prop):Prop:=
 ∀(pins:List (Addr×Obj)) (s:Shared) (σ:St) (H:Hp) (x:V) (xs:List V) (v:Value) (us:List Value) (Q:VK),ag X pins σ H s→bj x v→aL xs us→r x xs H Q→
   wpAny (model X.prog X.w) X.A (call (.builtin id) (v :: us)) (EP X pins σ Q) X.xe s
theorem Paired.un {α β:Type}{R:α→β→Prop}{x:α}{xs:List α}{us:List β} (h:Paired R (x :: xs) us):bP fun u vs=>us=u :: vs∧R x u∧Paired R xs vs:=by
 cases h with
 | cons r q=>exact ⟨_,_,rfl,r,q⟩
theorem Paired.un0 {α β:Type}{R:α→β→Prop}{us:List β} (h:Paired R [] us):us=[]:=by
 cases h with
 | nil=>rfl
theorem aL.one {x:V}{us:List Value} (h:aL [x] us):∃u,us=[u]∧bj x u:=by
 obtain ⟨u,vs,rfl,r,q⟩:=Paired.un h
 rw [Paired.un0 q]
 exact ⟨u,rfl,r⟩
theorem aL.two {x y:V}{us:List Value} (h:aL [x,y] us):bP fun u v=>us=[u,v]∧bj x u∧bj y v:=by
 obtain ⟨u,vs,rfl,r,q⟩:=Paired.un h
 obtain ⟨v,rfl,q2⟩:=aL.one q
 exact ⟨u,v,rfl,r,q2⟩
theorem aL.eraseIdx:∀{xs:List V}{us:List Value} (i:Nat),aL xs us→aL (xs.eraseIdx i) (us.eraseIdx i)
 | _,_,_,.nil=>.nil
 | _,_,0,.cons _ t=>t
 | _,_,i+1,.cons r t=>.cons r (aL.eraseIdx i t)
theorem aL.rep {xs:List V}{us:List Value} (h:aL xs us):∀k:Nat,aL (List.replicate k xs).flatten (List.replicate k us).flatten
 | 0=>.nil
 | k+1=>by
  rw [List.replicate_succ,List.replicate_succ,List.flatten_cons,List.flatten_cons]
  exact aL.append h (aL.rep h k)
theorem xO {α:Type}:∀(l:List α) (i:Nat),(l.eraseIdx i).length≤l.length
 | [],_=>Nat.le_refl _
 | _ :: _,0=>Nat.le_succ _
 | _ :: r,i+1=>Nat.succ_le_succ (xO r i)
theorem xJ (its:List Value):∀(k:Nat) (acc:List Value),
 List.foldl (fun x1 x2=>x1++x2) acc.toArray (List.replicate k its.toArray)=(acc++(List.replicate k its).flatten).toArray
 | 0,acc=>by simp
 | k+1,acc=>by
  have e:acc.toArray++its.toArray=(acc++its).toArray:=by simp
  have e2:(acc++its)++(List.replicate k its).flatten=acc++(List.replicate (k+1) its).flatten:=by
   rw [List.replicate_succ,List.flatten_cons,List.append_assoc]
  rw [←e2,←xJ its k (acc++its),←e,List.replicate_succ,List.foldl_cons]
section
variable {X:Cx}{pins:List (Addr×Obj)}{σ:St}{H:Hp}{s:Shared}{l b:Addr}{xs ys zs:List V}
theorem ag.lset {its its':List Value}{n:Nat}{f:Array Value→Array Value}{t':Nat} (I:ag X pins σ H s) (hH:H l=some (.lst xs))
 (e:s.heap.get? l=some { cls:=.type "list",data:=.seq its.toArray n }) (hf:f its.toArray=its'.toArray) (hv:aL ys its') (hz:ys.length≤sizeLine) :
 ag X pins σ (aQ H l (.lst ys)) { s with heap:=s.heap.update l (Obj.mapSeq f),toks:=t' }:=by
 have q:=PySem.IsL.update e f
 rw [hf] at q
 refine I.write (x:=l) (e:=l) (by rw [hH];exact trivial) (.inl rfl) (fun b' u hb hu=>(Heap.get?_update_other s.heap (Obj.mapSeq f) (Ne.symm hb)).trans hu) ⟨_,q⟩ ?_
 exact ⟨hz,its',_,hv,q⟩
theorem ag.lnew {its:List Value}{t':Nat} (I:ag X pins σ H s) (hv:aL ys its) (hz:ys.length≤sizeLine) :
 ag X pins σ (aQ H s.heap.objs.size (.lst ys)) { s with heap:=s.heap.push { cls:=.type "list",data:=.seq its.toArray },toks:=t' }:=
 I.laid (fun _ _ q=>Heap.get?_push_of_some _ q) (Nat.le_refl _) ⟨hz,its,0,hv,Heap.get?_push_size _ rfl⟩
theorem ag.fresh (I:ag X pins σ H s):H s.heap.objs.size=none:=I.hok.fresh (Nat.le_refl _)
theorem ag.lstM (I:ag X pins σ H s) (hH:H l=some (.lst xs)):xs.length≤sizeLine∧bP fun (its:List Value) (n:Nat)=>aL xs its∧xs.length=its.length∧s.heap.get? l=some { cls:=.type "list",data:=.seq its.toArray n }:=by
 obtain ⟨z,its,n,r,e⟩:=I.hok l _ hH
 exact ⟨z,its,n,r,r.length,e⟩
theorem zj {n:Nat} (h:n≤sizeLine):Builtin.List.listTooLong n=false:=by
 unfold Builtin.List.listTooLong
 exact decide_eq_false (by trivial)
end
section
variable {X:Cx}
inductive Ee (x:V) (vs:List V) (H:Hp) (Q:VK):Prop
 | mk (l:_) (xs:_) (y:_) (h0:x=.ref l) (h1:vs=[y]) (h2:H l=some (.lst xs)) (h3:xs.length<sizeLine) (h4:Q .non (aQ H l (.lst (xs++[y]))))
def Fv:V→List V→Hp→VK→Prop:=fun x vs H Q=>Ee  x vs H Q
theorem sN:yv X "list.append" Fv:=by
 intro pins s σ H x vs v us Q I rx rv h
 obtain ⟨l,xs,y,rfl,rfl,hH,hz,q⟩:=h
 cases rx
 obtain ⟨u,rfl,ru⟩:=rv.one
 obtain ⟨z,its,n,r,hl,e⟩:=I.lstM hH
 refine call_meets F.slot_list_append ⟨_,e,rfl⟩ F.entry_list_append (F.args_list_append_2 _ _) (PySem.list_append l its.toArray n u (by rw [List.size_toArray];trivial)) ⟨e,?_⟩
 refine ⟨.non,_,I.lset (its':=its++[u]) hH e (by simp) (r.append (.cons ru .nil)) ?_,rfl,q⟩
 rw [List.length_append,List.length_singleton]
 trivial
inductive DT (x:V) (vs:List V) (H:Hp) (Q:VK):Prop
 | mk (l:_) (b:_) (xs:_) (zs:_) (h0:x=.ref l) (h1:vs=[.ref b]) (h2:H l=some (.lst xs)) (h3:H b=some (.lst zs)) (h4:xs.length+zs.length≤sizeLine) (h5:Q .non (aQ H l (.lst (xs++zs))))
def FK:V→List V→Hp→VK→Prop:=fun x vs H Q=>DT  x vs H Q
theorem Ck:yv X "list.extend" FK:=by
 intro pins s σ H x vs v us Q I rx rv h
 obtain ⟨l,b,xs,zs,rfl,rfl,hH,hB,hz,q⟩:=h
 cases rx
 obtain ⟨u,rfl,ru⟩:=rv.one
 cases ru
 obtain ⟨z,its,n,r,hl,e⟩:=I.lstM hH
 obtain ⟨z2,its2,n2,r2,hl2,e2⟩:=I.lstM hB
 have hsz:its.toArray.size+its2.toArray.size≤sizeLine:=by rw [List.size_toArray,List.size_toArray];trivial
 have hlong:¬(!its.toArray.isEmpty && Builtin.List.listTooLong (its.toArray.size+its2.toArray.size))=true:=by
  rw [zj hsz,Bool.and_false]
  exact Bool.false_ne_true
 refine call_meets F.slot_list_extend ⟨_,e,rfl⟩ F.entry_list_extend (F.args_list_extend_2 _ _)
  (AutoSeq1.list_extend_list_list_0 l its.toArray n b its2.toArray n2 hlong (by rw [List.size_toArray];trivial) (by trivial)) ⟨e,e2,?_⟩
 refine ⟨.non,_,I.lset (its':=its++its2) hH e (by simp) (r.append r2) ?_,rfl,q⟩
 rw [List.length_append]
 trivial
inductive F5 (x:V) (vs:List V) (H:Hp) (Q:VK):Prop
 | mk (l:_) (xs:_) (i:_) (k:_) (y:_) (h0:x=.ref l) (h1:vs=[.int i]) (h2:H l=some (.lst xs)) (h3:-(2 ^ 63)≤i) (h4:i<2 ^ 63) (h5:seqIndex? i xs.length=some k) (h6:xs[k]?=some y) (h7:Q y (aQ H l (.lst (xs.eraseIdx k))))
def Il:V→List V→Hp→VK→Prop:=fun x vs H Q=>F5  x vs H Q
theorem DU:yv X "list.pop" Il:=by
 intro pins s σ H x vs v us Q I rx rv h
 obtain ⟨l,xs,i,k,y,rfl,rfl,hH,h1,h2,hk,hy,q⟩:=h
 cases rx
 obtain ⟨u,rfl,ru⟩:=rv.one
 obtain ⟨t,rfl⟩:=ru
 obtain ⟨z,its,n,r,hl,e⟩:=I.lstM hH
 obtain ⟨w,hw,rw'⟩:=r.get hy
 refine call_meets F.slot_list_pop ⟨_,e,rfl⟩ F.entry_list_pop (F.args_list_pop_2 _ _)
  (MeetsSeq.list_pop_at l its.toArray n i t k w (fitsIndex_both h1 h2) (by rw [List.size_toArray,←hl];exact hk) (by rw [←Array.getElem?_toList];exact hw) (by rw [List.size_toArray];trivial)) ⟨e,?_⟩
 refine ⟨y,_,I.lset (its':=its.eraseIdx k) hH e ?_ (r.eraseIdx k) ?_,rw',q⟩
 ·show its.toArray.eraseIdxIfInBounds k=(its.eraseIdx k).toArray
  rw [List.eraseIdxIfInBounds_toArray]
 ·have:=xO xs k
  trivial
inductive JM (x:V) (y:V) (H:Hp) (Q:VK):Prop
 | mk (l:_) (b:_) (xs:_) (zs:_) (h0:x=.ref l) (h1:y=.ref b) (h2:H l=some (.lst xs)) (h3:H b=some (.lst zs)) (h4:xs.length+zs.length≤sizeLine) (h5:∀p,H p=none→Q (.ref p) (aQ H p (.lst (xs++zs))))
def KR:R2:=fun x y H Q=>JM  x y H Q
theorem Iw:cU X (binaryOp .Add) KR:=by
 intro pins s σ H x y v u Q I rx ry h
 obtain ⟨l,b,xs,zs,rfl,rfl,hH,hB,hz,q⟩:=h
 cases rx
 cases ry
 obtain ⟨z,its,n,r,hl,e⟩:=I.lstM hH
 obtain ⟨z2,its2,n2,r2,hl2,e2⟩:=I.lstM hB
 refine PySem.P.add_list e e2 ?_ (by rw [List.size_toArray,List.size_toArray];trivial)
 have ea:its.toArray++its2.toArray=(its++its2).toArray:=by simp
 rw [ea]
 exact ⟨.ref _,_,I.lnew (t':=s.toks) (r.append r2) (by rw [List.length_append];trivial),rfl,q _ I.fresh⟩
inductive IR (x:V) (y:V) (H:Hp) (Q:VK):Prop
 | mk (l:_) (k:_) (xs:_) (h0:x=.ref l) (h1:y=.int k) (h2:H l=some (.lst xs)) (h3:-(2 ^ 63)≤k) (h4:k<2 ^ 63) (h5:xs.length*k.toNat≤sizeLine) (h6:∀p,H p=none→Q (.ref p) (aQ H p (.lst (List.replicate k.toNat xs).flatten)))
def KB:R2:=fun x y H Q=>IR  x y H Q
theorem AD {α:Type} (xs:List α) (k:Nat):(List.replicate k xs).flatten.length=k*xs.length:=by
 induction k with
 | zero=>simp
 | succ k ih=>rw [List.replicate_succ,List.flatten_cons,List.length_append,ih,Nat.succ_mul,Nat.add_comm]
theorem GG:cU X (binaryOp .Mult) KB:=by
 intro pins s σ H x y v u Q I rx ry h
 obtain ⟨l,k,xs,rfl,rfl,hH,h1,h2,hz,q⟩:=h
 cases rx
 obtain ⟨t,rfl⟩:=ry
 obtain ⟨z,its,n,r,hl,e⟩:=I.lstM hH
 have hlen:its.toArray.size*k.toNat≤sizeLine:=by rw [List.size_toArray,←hl];exact hz
 have hcap:¬its.toArray.size*k.toNat > (2 ^ 63 - 1) / 8:=by
  have:(sizeLine:Nat)≤(2 ^ 63 - 1) / 8:=by decide
  trivial
 have hfit:¬(!Builtin.List.listFitsIndex k)=true:=by
  rw [fitsIndex_both h1 h2]
  exact Bool.false_ne_true
 have hlong:¬Builtin.List.listTooLong (its.toArray.size*k.toNat)=true:=by
  rw [zj hlen]
  exact Bool.false_ne_true
 have hnew:List.foldl (fun x1 x2=>x1++x2) #[] (List.replicate (if its.toArray.isEmpty=true then 0 else k.toNat) its.toArray)=(List.replicate k.toNat its).flatten.toArray:=by
  have f0:∀m:Nat,List.foldl (fun x1 x2=>x1++x2) #[] (List.replicate m its.toArray)=(List.replicate m its).flatten.toArray:=fun m=>by
   have:=xJ its m []
   rw [List.nil_append] at this
   exact this
  rw [f0]
  cases its with
  | nil=>simp
  | cons a r'=>rw [if_neg (by simp)]
 refine wpAny_binaryOp_repeat_ref (T := "list") (U := "int") (by decide) ⟨_,e,rfl⟩ (fun s'=>typeIs_int s' k t) noFill_list_mul F.fills_int_mul F.slot_int_rmul repeat_list F.slot_int_index.lookup
  (call_meets F.slot_int_rmul (typeIs_int s k t) F.entry_int_rmul (F.args_int_rmul_2 _ _) (int___rmul___int_list k t l its.toArray n)
   ⟨e,rfl,⟨_,e,rfl⟩,call_meets F.slot_list_mul ⟨_,e,rfl⟩ F.entry_list_mul (F.args_list_mul_2 _ _) (AutoListH.list___mul___list_int_3 l its.toArray n k t hfit hcap hlong) ⟨e,?_⟩⟩)
 rw [hnew]
 exact ⟨.ref _,_,I.lnew (t':=s.toks) (r.rep k.toNat) (by rw [AD,Nat.mul_comm];exact hz),rfl,q _ I.fresh⟩
end
section
variable {prog:Program}{w:World}{A:Around}{E:Value→Shared→Prop}{s:Shared}
set_option maxRecDepth 100000 in
end
section
variable {X:Cx}
end
end L2
namespace Att
open PySem PySem.W PySem.Calls PyProof.Rows
theorem vi {P:Params}{h:Heap}:∀(ns:List Int) (vs:List Value),WellAll P h vs (ns.map WData.int)→IntsAre vs ns:=by
 intro ns
 induction ns with
 | nil=>
  intro vs w
  rw [List.map_nil] at w
  cases w
  exact .nil
 | cons n ns ih=>
  intro vs w
  rw [List.map_cons] at w
  cases w with
  | cons a b=>
   cases a
   exact .cons _ _ (ih _ b)
theorem BR {l:OpenLaw}{n:Nat} (hn:l.most=some n) {P:Params}{h:Heap}{args:List WData}{vals:List Value}
 (hpre:l.row.toRowW.claim.pre args=true) (hwl:WellAll P h vals args) :
 ∃a vs ns,vals=[Value.ref a]∧args=[WData.list (ns.map WData.int)]∧h.get? a=some { cls:=.type "list",data:=.seq vs.toArray }∧IntsAre vs ns∧ns.length≤n:=by
 have hsh:WShape.hasAll [] args [.list .int]=true:=(pre_splitW hpre).1
 have hc:l.pre.holds [] { args:=args }=true:=(pre_splitW hpre).2
 obtain ⟨d,r,rfl,h1,h2⟩:=hasAllW_cons hsh
 obtain rfl:=hasAllW_nil h2
 obtain ⟨xs,rfl,h3⟩:=hasW_list h1
 obtain ⟨ns,rfl⟩:=items_int h3
 have hlen:ns.length≤n:=by
  unfold OpenLaw.pre at hc
  have h4:(WTm.not (.lt (.lit (.int (n:Int))) (.len (.arg 0)))).holds [] { args:=[.list (ns.map .int)] }=true:=by
   have h4:=(holds_andW hc).1
   rw [hn] at h4
   exact h4
  have h5:=condW_of h4 (w_not (w_lt w_lit (w_len_list (w_arg rfl))))
  rw [List.length_map] at h5
  refine Nat.le_of_not_lt fun q=>?_
  have q':(n:Int)<((ns.length:Nat):Int):=by trivial
  first
   | (rw [decide_eq_true q'] at h5;exact absurd h5 (by decide))
   | (simp at h5;trivial)
 cases hwl with
 | cons w1 w2=>
  cases w2
  cases w1 with
  | list ho hall=>exact ⟨_,_,ns,rfl,rfl,ho,vi ns _ hall,hlen⟩
theorem BU (l:OpenLaw) (args:List WData):l.row.toRowW.claim.post args (.bool true) args=true:=
 postW_of (r:=l.row.toRowW) (X:=(true==true))
  (show WShape.has [] (.bool true) .bool=true by first | rfl | decide | simp [WShape.has,WShape.arms,WShape.armsAll])
  (show (WTm.eq .res (.lit (.bool true))).value [] { args:=args,res:=some (.bool true),after:=args }=some (.bool (true==true)) from w_eq_bool (w_res rfl) w_lit) rfl
theorem attach_call {l:OpenLaw}{n:Nat}{q:Program}{loose:List Str}{XP:(Str→Option Value)→Heap→Prop}{YP:World→Heap→Prop}{d:DefRec}
 (hn:l.most=some n) (hdf:d.params.defaults=[])
 (call:∀(w:World) (s₀ s₁:Shared) (mg mb:Str→Option Value) (fa:Addr) (o:Obj) (pm cd doc:Value) (a:Addr) (vs:List Value) (ns:List Int),
  Ground q loose [] XP w s₀ mg mb s₁.heap→YP w s₁.heap→
  s₁.heap.get? fa=some o→o.data=.func (docDef d.name d.params d.body d.scope pm cd doc)→s₁.heap.CodeRec cd d.name→mg d.name=some (.ref fa)→
  s₁.heap.get? a=some { cls:=.type "list",data:=.seq vs.toArray }→IntsAre vs ns→ns.length≤n→s₁.gens=#[]→
  codeAny (model l.prog w) callerA (.call (.ref fa) ⟨[.ref a],[]⟩) (fun r s'=>r=.ok (.ret (.bool true))∧OldK s₁.heap s'.heap∧s'.os=s₁.os∧AllBare s'.gens) s₁) :
 WalkO q loose XP YP l.row.toRowW d [] (fun f vs=>PySem.call f vs):=by
 intro w s₀ s₁ mg mb G Y fa o pm cd doc dV kV ho hd hcd hD hmg hg args vals as hpre hlay hrd hwl hlo
 obtain rfl:dV=.none:=Dflts.none hD hdf
 obtain rfl:kV=.none:=Dflts.noKw hD
 obtain ⟨a,vs,ns,rfl,rfl,hobj,hints,hlen⟩:=BR hn hpre hwl
 refine enter_call (codeAny_mono (call w s₀ s₁ mg mb fa o pm cd doc a vs ns G Y ho (fd_plain hd) hcd hmg hobj hints hlen hg) fun r s' hq=>?_)
 obtain ⟨rfl,h2,h3,h4⟩:=hq
 exact ⟨.inl ⟨.bool true,.bool true,[],rfl,fun _=>rfl,.bool true,BU l _,fun _=>⟨List.Pairwise.nil,fun _ hm=>(nomatch hm)⟩⟩,h2,h3,h4⟩
section
variable {prog:Program}{w:World}{A:Around}{E:Value→Shared→Prop}{s:Shared}{K:Frag}
end
end Att
namespace L2
open PySem PySem.Spec PyProof.Rows
theorem xK:∀{vs:List Value}{ns:List Int},IntsAre vs ns→aL (ns.map V.int) vs
 | _,_,.nil=>.nil
 | _,_,.cons n t h=>.cons ⟨t,rfl⟩ (xK h)
def wR (H:Hp):Prop:=∀b,H b=none∨bP fun o xs=>H b=some (.frz o (.lst xs))
theorem Dr {P:Program}{w:World}{K:PySem.W.Frag}{mg mb:Str→Option Value}{CX:mi}{k:Nat}{fa a:Addr}{fd:FuncData}{x:Str}{sp:Sp}{s₁:Shared}{vs:List Value}{ns:List Int}
 (KX:K.In s₁.heap) (hns:s₁.heap.Ns mainGlobals mg) (hb:s₁.heap.Ns builtinsNs mb) (hbb:∀x:Str,x≠"__name__"→mb x=bootBuiltins x) (hlim:s₁.heap.NoLimit) (hg:s₁.gens=#[])
 (ha:s₁.heap.get? a=some { cls:=.type "list",data:=.seq vs.toArray }) (hi:IntsAre vs ns) (hl:ns.length≤sizeLine) (hr:fY k callerA)
 (F:∀base:Heap,K.In base→base.Ns mainGlobals mg→aV P w K mg base CX k fa fd [x] sp) (hbind:∀(s:Shared) (u:Value),BindsTo s fd ⟨[u],[]⟩ [(x,u)])
 (hsp:∀H:Hp,wR H→ah K H a (ns.map V.int)→sp [.ref a] H (fun v _=>v=.bl true) fun _ _ _=>False)
 (hCX:∀H e s',CX [] H s₁ (fun _ _ _=>False) e s'→False) :
 codeAny (model P w) callerA (.call (.ref fa) ⟨[.ref a],[]⟩) (fun r s'=>r=.ok (.ret (.bool true))∧OldK s₁.heap s'.heap∧s'.os=s₁.os∧AllBare s'.gens) s₁:=by
 have rv:=xK hi
 have lenV:=hi.length
 have core:∀H:Hp,wR H→ah K H a (ns.map V.int)→gf P w H s₁.heap→(∀b,H b≠none→b=a)→(H a≠none→K.lookup a=none)→
  codeAny (model P w) callerA (.call (.ref fa) ⟨[.ref a],[]⟩) (fun r s'=>r=.ok (.ret (.bool true))∧OldK s₁.heap s'.heap∧s'.os=s₁.os∧AllBare s'.gens) s₁:=by
  intro H hO hS hok hA hK
  have base_of:∀{b:Addr}{o:Obj},s₁.heap.get? b=some o→H b=none→(qu s₁.heap H).get? b=some o:=fun e n=>En e n
  have noA:∀{b:Addr}{o:Obj}{es:Array DictEntry}{ep:Nat},s₁.heap.get? b=some o→o.data=.dict es ep→H b=none:=fun {b o es ep} e d=>by
   cases q:H b with
   | none=>rfl
   | some u=>
    have e':b=a:=hA b (by rw [q];simp)
    subst e'
    rw [ha] at e;cases e
    have d':Data.seq vs.toArray _=Data.dict es ep:=d
    cases d'
  have nsK:∀{b:Addr}{m:Str→Option Value},s₁.heap.Ns b m→(qu s₁.heap H).Ns b m:=fun {b m} ⟨o,es,ep,e,d,r⟩=>⟨o,es,ep,base_of e (noA e d),d,r⟩
  have hKb:K.In (qu s₁.heap H):=fun b o e=>base_of (KX b o e) (by
   cases q:H b with
   | none=>rfl
   | some u=>
    have e':b=a:=hA b (by rw [q];simp)
    subst e'
    rw [hK (by rw [q];simp)] at e;cases e)
  have hM:Mod K mg (qu s₁.heap H):=⟨hKb,nsK hns,⟨mb,nsK hb,hbb⟩,let ⟨mc,h1,h2⟩:=hlim;⟨mc,nsK h1,h2⟩⟩
  have e0:Bu P w K mg (qu s₁.heap H) callerA [] s₁ H:=⟨rfl,hM,fun b o e=>FN e,Nat.le_of_eq (CI _ _),trivial,fun b hb=>absurd (show b∈([]:List Addr) from hb) (by simp),hok,.of_eq hg⟩
  refine codeAny_mono ((F _ hKb (nsK hns)).run callerA [] s₁ H ⟨[.ref a],[]⟩ [.ref a] [.ref a] _ _ hr e0 (hbind s₁ (.ref a)) (.cons rfl .nil) (hsp H hO hS)) fun r s' h=>?_
  cases r with
  | error e=>exact (hCX H e s' h).elim
  | ok fl=>
   cases fl with
   | next=>exact False.elim h
   | brk=>exact False.elim h
   | cont=>exact False.elim h
   | ret u=>
    obtain ⟨v,H',os,bare,un,hok',r',q⟩:=h
    have q':v=.bl true:=q
    subst q'
    obtain rfl:u=Value.bool true:=r'
    refine ⟨rfl,OldK.of_keep fun b o e=>?_,os,bare⟩
    cases q:H b with
    | none=>exact un.keep b o e q (by intro z;exact absurd (show b∈([]:List Addr) from z) (by simp)) (by simp)
    | some u=>
     rcases hO b with z | ⟨ob,xs,z⟩
     ·rw [q] at z;cases z
     ·have z2:=un.frzs b ob _ z
      obtain ⟨e1,_⟩:=hok b _ z
      obtain ⟨e2,_⟩:=hok' b _ z2
      rw [e] at e1;cases e1
      exact e2
 cases hk:K.lookup a with
 | some o=>
  have e:=KX a o hk
  rw [ha] at e
  cases e
  refine core (fun _=>none) (fun _=>.inl rfl) (.inr ⟨_,vs.toArray,_,hk,rfl,rfl,rfl,by rw [List.size_toArray,lenV];exact hl,by simpa using rv⟩) (fun b u z=>by have z':(none:Option HO)=some u:=z;cases z') (fun b z=>absurd rfl z) fun z=>absurd rfl z
 | none=>
  refine core (fun b=>if b=a then some (.frz { cls:=.type "list",data:=.seq vs.toArray } (.lst (ns.map V.int))) else none) (fun b=>?_) (.inl (.inr ⟨{ cls:=.type "list",data:=.seq vs.toArray },if_pos rfl⟩)) (fun b u z=>?_) (fun b z=>?_) fun _=>hk
  ·by_cases hb:b=a
   ·exact .inr ⟨_,_,if_pos hb⟩
   ·exact .inl (if_neg hb)
  ·by_cases hb:b=a
   ·have z':=(if_pos hb).symm.trans z
    cases z'
    subst hb
    exact ⟨ha,by rw [List.length_map];exact hl,vs,_,rv,ha⟩
   ·have z':=(if_neg hb).symm.trans z
    cases z'
  ·by_cases hb:b=a
   ·exact hb
   ·exact absurd (if_neg hb) z
theorem walk_of {l:PySem.W.OpenLaw}{n k:Nat}{q:Program}{loose:List Str}{XP:(Str→Option Value)→Heap→Prop}{YP:World→Heap→Prop}{d:DefRec}{K:Params→PySem.W.Frag}{CX:World→mi}{sp:World→Sp}{x:Str}
 (hn:l.most=some n) (hn2:n≤sizeLine) (hdf:d.params.defaults=[]) (hr:fY k callerA)
 (hY:∀(w:World) (h:Heap),YP w h→(K w.params).In h)
 (F:∀(w:World) (mg:Str→Option Value) (fa:Addr) (h:Heap),(K w.params).In h→h.Ns mainGlobals mg→mg d.name=some (.ref fa)→
  ∃fd:FuncData,(∀(s:Shared) (u:Value),BindsTo s fd ⟨[u],[]⟩ [(x,u)])∧
   ∀base:Heap,(K w.params).In base→base.Ns mainGlobals mg→aV l.prog w (K w.params) mg base (CX w) k fa fd [x] (sp w))
 (hsp:∀(w:World) (H:Hp) (a:Addr) (ns:List Int),ns.length≤n→wR H→ah (K w.params) H a (ns.map V.int)→sp w [.ref a] H (fun v _=>v=.bl true) fun _ _ _=>False)
 (hCX:∀(w:World) (H:Hp) (s:Shared) (e:Value) (s':Shared),CX w [] H s (fun _ _ _=>False) e s'→False) :
 PySem.W.WalkO q loose XP YP l.row.toRowW d [] (fun f vs=>PySem.call f vs):=by
 refine Att.attach_call hn hdf fun w s₀ s₁ mg mb fa o pm cd doc a vs ns G Y ho hd hcd hmg hobj hints hlen hg=>?_
 have KX:=hY w _ Y
 obtain ⟨fd,hb,hF⟩:=F w mg fa _ KX G.T.g hmg
 exact Dr KX G.T.g G.T.b G.T.builtins G.T.nolimit hg hobj hints (Nat.le_trans hlen hn2) hr hF hb (fun H hO hS=>hsp w H a ns hlen hO hS) fun H e s'=>hCX w H s₁ e s'
theorem Db {l:PySem.W.OpenLaw}{n k:Nat}{q:Program}{loose:List Str}{XP:(Str→Option Value)→Heap→Prop}{YP:World→Heap→Prop}{d:DefRec}{K:Params→PySem.W.Frag}{CX:mi}{sp:PySem.W.Frag→Sp}{x:Str}
 (hn:l.most=some n) (hn2:n≤sizeLine) (hdf:d.params.defaults=[]) (hr:fY k callerA)
 (hY:∀(w:World) (h:Heap),YP w h→(K w.params).In h)
 (F:∀(w:World) (mg:Str→Option Value) (fa:Addr) (h:Heap),(K w.params).In h→h.Ns mainGlobals mg→mg d.name=some (.ref fa)→
  ∃fd:FuncData,(∀(s:Shared) (u:Value),BindsTo s fd ⟨[u],[]⟩ [(x,u)])∧
   ∀base:Heap,(K w.params).In base→base.Ns mainGlobals mg→aV l.prog w (K w.params) mg base CX k fa fd [x] (sp (K w.params)))
 (hsp:∀(K:PySem.W.Frag) (H:Hp) (a:Addr) (ns:List Int),ns.length≤n→wR H→ah K H a (ns.map V.int)→sp K [.ref a] H (fun v _=>v=.bl true) fun _ _ _=>False)
 (hCX:∀(H:Hp) (s:Shared) (e:Value) (s':Shared),CX [] H s (fun _ _ _=>False) e s'→False) :
 PySem.W.WalkO q loose XP YP l.row.toRowW d [] (fun f vs=>PySem.call f vs):=
 walk_of (K:=K) (CX:=fun _=>CX) (sp:=fun w=>sp (K w.params)) hn hn2 hdf hr hY F (fun w H a ns h1 h2 h3=>hsp (K w.params) H a ns h1 h2 h3) fun _ H s e s'=>hCX H s e s'
end L2
/- THE LAST THEOREM (shape; LID, My.* are yours):
 My.Adr: a structure of the addresses that your layer names (classes, functions); My.Txt K t: a structure (Prop) of the equations over K;
 My.txt_mk : {K} {implicit addresses ..} (e1 : nsIn K mainGlobals "law" = some (some (.ref f))) (e2 : K.lookup f = some ⟨oc, od, .func (fnOf "law" "law" params body scope dV kV doc pm an cdv ct), sl⟩) (e3 : codeIn K cdv "law" = true) .. : ∃ t, My.Txt K t
set_option maxRecDepth 100000 in
set_option maxHeartbeats 0 in
theorem PySem.Challenge.cw_LID_holds : PySem.Challenge.rw_LID.Holds := by
 w_on; o_law; k_head; (case hw => w_witness2)
 k_fill
 refine L2.walk_of (l := PySem.Challenge.rw_LID) (n := 63) (k := 40) (x := "script") (CX := fun w => ..) (sp := fun _ => My.sp_law) rfl (by decide) rfl ⟨rfl, by decide, by decide⟩ (fun w h Y => PySem.W.kIn_of Y) ?F ?S ?C
 case F =>
  intro w mg fa h KX G hmg
  have T : ∃ t, My.Txt (L2.KOf KX) t := by
   dsimp only [L2.KOf]                          -- K must stand as «<heap const> w.params» for k_is
   refine' My.txt_mk ?e1 ?e2 ?e3 ..
   (case e1 => PySem.W.k_is)                    -- in the order: a name -> its address -> its object -> its parts
   (case e2 => PySem.W.k_is)
   ..
  obtain ⟨t, T⟩ := T
  have e0 := hmg.symm.trans (PySem.W.mg_of KX G T.law)
  cases e0                                       -- fa is the law's own address
  exact ⟨_, fun s u => .of_eq rfl, fun base kb nb => My.law_fn T kb nb⟩     -- if «.of_eq rfl» comes too early: refine' ⟨_, ?b, fun base kb nb => My.law_fn T kb nb⟩; exact fun s u => .of_eq rfl
 case S => exact fun w H a ns hl hO hS => ..
 case C => exact ..
(the tactic k_is has no namespace: write k_is) -/
namespace L2
open PySem PySem.Spec PyProof.Rows
def wJ (s:Stmt):Arguments:=match s with
 | .FunctionDef _ a _ _ _ _ _ _ _ _=>a
 | _=>{ posonlyargs:=[],args:=[],vararg:=none,kwonlyargs:=[],kw_defaults:=[],kwarg:=none,defaults:=[] }
def tJ (s:Stmt):List Stmt:=match s with
 | .FunctionDef _ _ b _ _ _ _ _ _ _=>b
 | _=>[]
def aB (s:Stmt):Scope:=match s with
 | .FunctionDef _ _ _ _ _ _ sc _ _ _=>sc
 | _=>{ kind:=.function,names:=[],isGenerator:=false,isCoroutine:=false }
abbrev CX0:mi:=fun _ _ _ _ _ _=>False
abbrev E0:XK:=fun _ _ _=>False
theorem mt {X:Cx}:zf CX0 X E0:=fun _ _ _ _ _ _ _ h=>h.elim
structure yp (K:PySem.W.Frag) (x qual:Str) (st:Stmt) (f:Addr) (fd:FuncData):Prop where
 ex:LB fun (oc:Value) (od:Option Addr) (kV doc pm:Value) (an:Option Addr) (cdv ct:Value) (osl:Array (Option Value))=>
  fd=PySem.W.fnOf x qual (wJ st) (tJ st) (aB st) .none kV doc pm an cdv ct∧K.lookup f=some ⟨oc,od,.func fd,osl⟩∧PySem.W.codeIn K cdv qual=true
 kp:PySem.W.keepIn K (.ref f)=true
section
variable {P:Program}{w:World}{K:PySem.W.Frag}{mg:Str→Option Value}{base:Heap}
theorem yp.ok {x qual:Str}{st:Stmt}{f:Addr}{fd:FuncData}{N ps:List Str}{k:Nat}{sp:Sp} (F:yp K x qual st f fd) (S:aI N ps (aB st)) (len:∀vs H Q E,sp vs H Q E→vs.length=ps.length)
 (hbody:∀(cdv:Value) (A:Around) (outer:List Env) (s:Shared) (H:Hp) (vs:List V) (Q:VK) (E:XK),fY k (A.deeper (envOfC qual (aB st) s.heap.objs.size f cdv))→sp vs H Q E→
  ∃t,pQ (wD CX0 P w K mg base N qual (aB st) f cdv A outer s H E).nox (tJ st) t∧t { nx:=fun _ H'=>Q .non H',rt:=Q } (mD N vs) H):aV P w K mg base CX0 (k+1) f fd ps sp:=by
 obtain ⟨oc,od,kV,doc,pm,an,cdv,ct,osl,rfl,lk,hcd⟩:=F.ex
 refine JL lk hcd S len fun A outer s H vs Q E hr hsp=>?_
 obtain ⟨t,h,q⟩:=hbody cdv A outer s H vs Q E hr hsp
 exact ⟨t,h.nox,q⟩
theorem yp.binds {x qual:Str}{st:Stmt}{f:Addr}{fd:FuncData}{ps:List Str} (F:yp K x qual st f fd)
 (h:∀(kV doc pm:Value) (an:Option Addr) (cdv ct:Value) (us:List Value),us.length=ps.length→bindArgs (PySem.W.fnOf x qual (wJ st) (tJ st) (aB st) .none kV doc pm an cdv ct) ⟨us,[]⟩=pure (ps.zip us)):tF K fd ps []:=by
 obtain ⟨oc,od,kV,doc,pm,an,cdv,ct,osl,rfl,lk,hcd⟩:=F.ex
 exact .all (h kV doc pm an cdv ct)
end
section
variable {X:Cx}
theorem pv (i:Nat) {x:Str}{pos:Pos} (hN:X.N[i]?=some x:=by rfl) (hv:ER X.env.scope x:=by first | exact Or.inl rfl | exact Or.inr (Or.inl rfl) | exact Or.inr (Or.inr rfl)) (hd:(x==("__debug__" : Str))=false:=by decide)
 (hcd:(x==("__classdict__" : Str))=false:=by decide):PE X (.Name x pos) (Bo i):=CQ hN hv hd hcd
end
theorem aO {A B:Prop} (h:B):if false=true then A else B:=by
 rw [if_neg Bool.false_ne_true]
 exact h
theorem av {A B:Prop} (h:A):if true=true then A else B:=by
 rw [if_pos rfl]
 exact h
theorem cG {c A B:Prop} [Decidable c] (h1:c→A) (h2:¬c→B):if c then A else B:=by
 by_cases h:c
 ·rw [if_pos h]
  exact h1 h
 ·rw [if_neg h]
  exact h2 h
def aa (H H':Hp):Prop:=∀b o,H b=some o→H' b=some o
theorem aa.refl (H:Hp):aa H H:=fun _ _ h=>h
theorem aa.trans {H H1 H2:Hp} (a:aa H H1) (b:aa H1 H2):aa H H2:=fun c o h=>b c o (a c o h)
theorem aa.free {H H':Hp} (e:aa H H') {l:Addr} (h:H' l=Option.none):H l=Option.none:=by
 cases q:H l with
 | none=>rfl
 | some o=>
  rw [e l o q] at h
  cases h
theorem aa.seq {K:PySem.W.Frag}{H H':Hp}{a:Addr}{xs:List V} (e:aa H H') (h:ah K H a xs):ah K H' a xs:=by
 rcases h with (h | ⟨o,h⟩) | h
 ·exact .inl (.inl (e _ _ h))
 ·exact .inl (.inr ⟨o,e _ _ h⟩)
 ·exact .inr h
end L2
namespace L2
open PySem
theorem wo {scope:Scope}{env:Env} (h:∀y∈scope.names,y.2=.free→∃c,env.cells.lookup y.1=some c) :
 ∃cl,closureFor scope env=pure cl∧(∀x c,cl.lookup x=some c→env.cells.lookup x=some c)∧(∀y∈scope.names,y.2=.free→∃c,cl.lookup y.1=some c):=by
 have go:∀(names:List (Str×NameKind)) (acc:List (Str×Addr)),(∀y∈names,y.2=.free→∃c,env.cells.lookup y.1=some c)→(∀x c,acc.lookup x=some c→env.cells.lookup x=some c)→
  ∃cl,(forIn names acc (fun (x:Str×NameKind) (cs:List (Str×Addr))=>match x with
   | (name,kind)=>if (kind==.free)=true then (do let a ←cellOf env name;pure (ForInStep.yield ((name,a) :: cs))) else pure (ForInStep.yield cs)):Sem (List (Str×Addr)))=pure cl∧
   (∀x c,cl.lookup x=some c→env.cells.lookup x=some c)∧(∀y∈names,y.2=.free→∃c,cl.lookup y.1=some c)∧(∀x c,acc.lookup x=some c→∃c',cl.lookup x=some c'):=by
  intro names
  induction names with
  | nil=>intro acc _ ha;exact ⟨acc,rfl,ha,fun y hy=>(by cases hy),fun x c e=>⟨c,e⟩⟩
  | cons x r ih=>
   intro acc hn ha
   obtain ⟨name,kind⟩:=x
   rw [List.forIn_cons]
   by_cases hk:kind=.free
   ·subst hk
    obtain ⟨c,hc⟩:=hn (name,.free) List.mem_cons_self rfl
    have e:cellOf env name=pure c:=by unfold cellOf;rw [hc]
    obtain ⟨cl,e1,e2,e3,e4⟩:=ih ((name,c) :: acc) (fun y hy=>hn y (List.mem_cons_of_mem _ hy)) (fun x c' hx=>by
     rw [List.lookup_cons] at hx
     split at hx
     ·rename_i hb
      have:x=name:=by simpa using hb
      subst this
      cases hx;exact hc
     ·exact ha x c' hx)
    refine ⟨cl,?_,e2,fun y hy hf=>?_,fun x c' hx=>?_⟩
    ·simp only [beq_self_eq_true,if_true]
     rw [e,pure_bind,pure_bind]
     exact e1
    ·rcases List.mem_cons.mp hy with rfl | hy
     ·exact e4 name c (by simp)
     ·exact e3 y hy hf
    ·by_cases hb:(x==name)=true
     ·have:x=name:=by simpa using hb
      subst this
      exact e4 x c (by simp)
     ·exact e4 x c' (by rw [List.lookup_cons];simp only [Bool.not_eq_true] at hb;rw [hb];exact hx)
   ·have hb:(kind==NameKind.free)=false:=by simpa using hk
    obtain ⟨cl,e1,e2,e3,e4⟩:=ih acc (fun y hy=>hn y (List.mem_cons_of_mem _ hy)) ha
    refine ⟨cl,?_,e2,fun y hy hf=>?_,e4⟩
    ·simp only [hb,Bool.false_eq_true,if_false]
     rw [pure_bind]
     exact e1
    ·rcases List.mem_cons.mp hy with rfl | hy
     ·exact absurd hf hk
     ·exact e3 y hy hf
 obtain ⟨cl,e1,e2,e3,_⟩:=go scope.names [] h (fun x c e=>by simp at e)
 refine ⟨cl,?_,e2,e3⟩
 unfold closureFor
 show (forIn scope.names _ _ >>= fun cs=>pure cs)=_
 rw [bind_pure]
 exact e1
section
variable {prog:Program}{w:World}{A:Around}{R:Result→Shared→Prop}{s:Shared}
theorem yy {elt target iter:Expr}{ifs:List Expr}{scope:Scope}{pos:Pos}{it acc:Value}{env:Env} (I:Nat→Shared→Prop)
 (turn:∀n s,I n s→wpAny (model prog w) A (pyNext it) (fun r s₁=>match r with
  | none=>R (.ok .next) s₁
  | some v=>wpAny (model prog w) A (letOwnedTupleGo target it v) (fun _ s₁'=>wpAny (model prog w) A (assign target env v) (fun _ s₂=>
   wpAny (model prog w) A (forIn ifs true fun c r=>if r=true then do let ok ←isTrue c env (eval c env);pure (ForInStep.yield ok) else pure (ForInStep.yield r)) (fun ok s₃=>
    if ok=true then wpAny (model prog w) A (eval elt env) (fun x s₄=>
     wpAny (model prog w) A (call (.builtin "list.append") [acc,x]) (fun _ s₅=>∃m,m<n∧I m s₅) (fun _ _=>False) s₄) (fun _ _=>False) s₃
    else ∃m,m<n∧I m s₃) (fun _ _=>False) s₂) (fun _ _=>False) s₁') (fun _ _=>False) s₁) (fun _ _=>False) s)
 (n:Nat) (h:I n s) :
 codeAny (model prog w) A (.compLoop (.ListComp elt [⟨target,iter,ifs,0⟩] scope pos) 0 it acc env) R s:=by
 refine codeAny_loop rfl I (fun n s hI=>?_) n h
 show wpAny _ A ((compTurn (.ListComp elt [⟨target,iter,ifs,0⟩] scope pos) 0 it acc env).onRaise (fun x=>do noteFrame x env;theTreesLotGoes x)) _ _ s
 refine wpAny_noted ?_
 rw [compTurn_list]
 refine wpAny_bind (wpAny_standAt (wpAny_bind (wpAny_mono (turn n s hI) (fun r s₁ h₁=>?_) fun _ _ h'=>h'.elim)))
 cases r with
 | none=>exact wpAny_pure h₁
 | some v=>
  refine wpAny_bind (wpAny_mono h₁ (fun _ s₁' h₁'=>?_) fun _ _ h'=>h'.elim)
  refine wpAny_bind (wpAny_mono h₁' (fun _ s₂ h₂=>wpAny_bind (wpAny_mono h₂ (fun ok s₃ h₃=>?_) fun _ _ h'=>h'.elim)) fun _ _ h'=>h'.elim)
  cases ok with
  | false=>exact wpAny_pure ⟨rfl,h₃⟩
  | true=>
   exact wpAny_bind (wpAny_bind (wpAny_mono h₃ (fun x s₄ h₄=>wpAny_bind (wpAny_mono h₄ (fun _ s₅ h₅=>wpAny_pure (wpAny_pure ⟨rfl,h₅⟩)) fun _ _ h'=>h'.elim)) fun _ _ h'=>h'.elim))
end
end L2
namespace L2
open PySem PySem.Spec PyProof.Rows
section
variable {X:Cx}
theorem lg:d8 X (.builtin "isinstance") (fun xs H Q=>xF fun x T t b=>xs=[x,.ty T]∧iX X.K H x t∧PySem.W.kitOne X.K t (.type T)=some b∧Q (.bl b) H):=by
 intro pins s σ H xs us Q I r h
 obtain ⟨x,T,t,b,rfl,ty,e,q⟩:=h
 obtain ⟨u,c,rfl,ru,rc⟩:=r.two
 obtain rfl:c=Value.type T:=rc
 exact C2 I ru ty e fun tk=>⟨.bl b,H,I.tok tk,rfl,q⟩
end
def s0 (X:Cx) (scope:Scope) (cl:List (Str×Addr)) (C:Addr) (N':List Str) (s:Shared) (H:Hp) (ex:List Addr) (pn:List (Addr×Obj)):Cx:=
 { X with N:=N',s₀:=s,H₀:=H,env:=compEnvC scope cl C X.env,outer:=X.stack,ex:=ex,fn:=fun _=>false,pn:=pn,xe:=fun _ _=>False }
def io (L:Nat) (src:List Nat) (σ:St):St:=List.replicate L none++src.map fun j=>(σ[j]?).join
def fD (σ σ':St):Prop:=σ'.length=σ.length∧∀(i:Nat) v,σ[i]?=some (some v)→σ'[i]?=some (some v)
theorem cR {x:V}{r:St}:fD (none :: r) (some x :: r):=⟨rfl,fun i v e=>by
 cases i with
 | zero=>simp at e
 | succ i=>simpa using e⟩
theorem qC {x y:V}{r:St}:fD (none :: none :: r) (some x :: some y :: r):=⟨rfl,fun i v e=>by
 cases i with
 | zero=>simp at e
 | succ i=>
  cases i with
  | zero=>simp at e
  | succ i=>simpa using e⟩
def mX (X:Cx) (ifs:List Expr) (t:TT):Prop:=
 ∀(pins:List (Addr×Obj)) (s:Shared) (σ:St) (H:Hp) (Q:Bool→Hp→Prop),ag X pins σ H s→t σ H Q→
   wpAny (model X.prog X.w) X.A (forIn ifs true fun c r=>if r=true then do let ok ←isTrue c X.env (eval c X.env);pure (ForInStep.yield ok) else pure (ForInStep.yield r)) (TP X pins σ Q) X.xe s
def tT:TT:=fun _ H Q=>Q true H
theorem bf {X:Cx}:mX X [] tT:=fun _ _ _ H _ I h=>wpAny_pure ⟨H,I,h⟩
theorem qx {X:Cx}{c:Expr}{t:TT} (hc:PT X c t):mX X [c] t:=by
 intro pins s σ H Q I h
 rw [List.forIn_cons]
 refine wpAny_bind ?_
 rw [if_pos rfl]
 exact wpAny_bind (aS (hc pins s σ H Q I h) fun b s1 q=>wpAny_pure (wpAny_pure q))
def gl (J:It) (σc:St) (g:TG) (tt:TT) (te:TE) (D:Addr) (H1:Hp) (Q:VK):Prop:=
 ∃W:Nat→Nat→Hp→List V→Prop,(∃m,W 0 m (aQ H1 D (.lst [])) [])∧∀i m H ys,W i m H ys→H D=some (.lst ys)∧
  ((J.stop i H∧Q (.ref D) H)∨(J.go i H∧ys.length<sizeLine∧∃N:Hp→List V→Prop,(∀H' ys',N H' ys'→∃m',m'<m∧W (i+1) m' H' ys')∧
    ∀x H',J.yld i H x H'→g x σc H' fun σ2 H2=>fD σc σ2∧tt σ2 H2 fun b H3=>if b=true then te σ2 H3 fun y H4=>H4 D=some (.lst ys)∧N (aQ H4 D (.lst (ys++[y]))) (ys++[y]) else N H3 ys))
def Bl (wi:TI) (L:Nat) (src:List Nat) (g:TG) (tt:TT) (te:TE):TE:=fun σ H Q=>wi σ H fun J H1=>∀D,H1 D=none→gl J (io L src σ) g tt te D H1 Q
section
variable {X:Cx}{elt tg iter:Expr}{ifs:List Expr}{scope:Scope}{pos:Pos}{N':List Str}{L:Nat}{src:List Nat}{wi:TI}{g:TG}{tt:TT}{te:TE}
end
theorem xa {J:It}{n:Nat}{H1:Hp}{D:Addr}{σc:St}{g:TG}{tt:TT}{te:TE}{Q:VK} (Pv:Nat→Hp→List V→Prop) (hz:n≤sizeLine) (h0:Pv 0 (aQ H1 D (.lst [])) [])
 (hD:∀i H ys,Pv i H ys→H D=some (.lst ys)∧ys.length≤i)
 (hgo:∀i H ys,i<n→Pv i H ys→J.go i H) (hst:∀H ys,Pv n H ys→J.stop n H)
 (hs:∀i H ys x H',i<n→Pv i H ys→J.yld i H x H'→g x σc H' fun σ2 H2=>fD σc σ2∧tt σ2 H2 fun b H3=>if b=true then te σ2 H3 fun y H4=>H4 D=some (.lst ys)∧Pv (i+1) (aQ H4 D (.lst (ys++[y]))) (ys++[y]) else Pv (i+1) H3 ys)
 (hd:∀H ys,Pv n H ys→Q (.ref D) H):gl J σc g tt te D H1 Q:=by
 refine ⟨fun i m H ys=>m=n - i∧i≤n∧Pv i H ys,⟨n,by simp,Nat.zero_le _,h0⟩,?_⟩
 rintro i m H ys ⟨rfl,hi,p⟩
 obtain ⟨q1,q2⟩:=hD i H ys p
 refine ⟨q1,?_⟩
 by_cases hlt:i<n
 ·exact .inr ⟨hgo i H ys hlt p,by trivial,Pv (i+1),fun H' ys' p'=>⟨n - (i+1),by trivial,rfl,hlt,p'⟩,fun x H' y=>hs i H ys x H' hlt p y⟩
 ·have e:i=n:=by trivial
  subst e
  exact .inl ⟨hst H ys p,hd H ys p⟩
theorem gH {J:It}{n:Nat}{H1:Hp}{D:Addr}{σc:St}{g:TG}{te:TE}{Q:VK} (Pv:Nat→Hp→List V→Prop) (hz:n≤sizeLine) (h0:Pv 0 (aQ H1 D (.lst [])) [])
 (hD:∀i H ys,Pv i H ys→H D=some (.lst ys)∧ys.length≤i)
 (hgo:∀i H ys,i<n→Pv i H ys→J.go i H) (hst:∀H ys,Pv n H ys→J.stop n H)
 (hs:∀i H ys x H',i<n→Pv i H ys→J.yld i H x H'→g x σc H' fun σ2 H2=>fD σc σ2∧te σ2 H2 fun y H4=>H4 D=some (.lst ys)∧Pv (i+1) (aQ H4 D (.lst (ys++[y]))) (ys++[y]))
 (hd:∀H ys,Pv n H ys→Q (.ref D) H):gl J σc g tT te D H1 Q:=by
 refine xa Pv hz h0 hD hgo hst (fun i H ys x H' hi p y=>?_) hd
 have e:=hs i H ys x H' hi p y
 have q:(fun (σ2:St) (H2:Hp)=>fD σc σ2∧tT σ2 H2 fun b H3=>if b=true then te σ2 H3 fun y H4=>H4 D=some (.lst ys)∧Pv (i+1) (aQ H4 D (.lst (ys++[y]))) (ys++[y]) else Pv (i+1) H3 ys) =
  (fun σ2 H2=>fD σc σ2∧te σ2 H2 fun y H4=>H4 D=some (.lst ys)∧Pv (i+1) (aQ H4 D (.lst (ys++[y]))) (ys++[y])):=by
  funext σ2 H2
  unfold tT
  dsimp only
  rw [if_pos rfl]
 rw [q]
 exact e
section
variable {X:Cx}{pins:List (Addr×Obj)}{σ:St}{H:Hp}{s:Shared}{h':Heap}
theorem ag.turnedNew {t':Nat}{ch:List Addr}{T:Addr}{o:HO} (I:ag X pins σ H s) (hf:∀b∈ch,jD X pins H b) (k:∀b u,b∉ch→s.heap.get? b=some u→h'.get? b=some u)
 (hT:s.heap.objs.size≤T) (new:bU X.prog X.w (aQ H T o) h' T o):ag X pins σ (aQ H T o) { s with heap:=h',toks:=t' }:=by
 have hn:H T=none:=I.hok.fresh hT
 refine I.step (g':=s.gens) (d':=s.drawn) (ch:=ch) (fun b hb=>?_) (fun b o _ _ hc e _=>k b o hc e) (fun b o _ _ hc e _=>⟨o.slots,k b o hc e⟩) (fun b o hc e n=>?_)
  (fun b o hc e=>⟨o,k b o hc e⟩) (fun b xs e=>?_) (fun b o u e=>?_) (fun b ps e=>?_) (fun m hm=>?_) (fun b u e=>?_) I.bare
 ·obtain ⟨f0,f1,f2,f3,f4,f5⟩:=hf b hb
  exact ⟨f3,f1,f4,f5⟩
 ·rw [aG (Nat.ne_of_lt (Nat.lt_of_lt_of_le (Heap.lt_size e) hT))];exact n
 ·rw [aG (aY e hn)];exact e
 ·rw [aG (aY e hn)];exact e
 ·exact ⟨#[],by rw [aG (aY e hn),e];simp⟩
 ·obtain ⟨o,es,ep,ho,r⟩:=hm
  exact ⟨o,es,ep,k _ o (fun z=>(hf _ z).2.1 rfl) ho,r⟩
 ·by_cases hb:b=T
  ·subst hb;rw [aE] at e;cases e;exact new
  ·rw [aG hb] at e
   refine (I.hok b u e).stay (fun c v hc q=>k c v (fun z=>?_) q) (fun c q=>by rw [aG (aY q hn)];exact q) fun c xs q=>by rw [aG (aY q hn)];exact q
   have hcn:=(hf c z).1
   rcases hc with rfl | hc
   ·rw [e] at hcn;cases hcn
   ·rw [hc] at hcn;cases hcn
end
section
variable {X:Cx}
theorem C7 {bs:List Bool}{us:List Value} (r:aL (bs.map V.bl) us) {i:Nat}{v:Value} (e:us[i]?=some v):∃b,bs[i]?=some b∧v=.bool b:=by
 have hl:=r.length
 rw [List.length_map] at hl
 have hi:i<us.length:=(List.getElem?_eq_some_iff.mp e).1
 have hb:bs[i]?=some bs[i]:=by simp [hl,hi]
 obtain ⟨u,h1,h2⟩:=r.get (i:=i) (x:=.bl bs[i]) (by rw [List.getElem?_map,hb];rfl)
 rw [e] at h1
 cases h1
 exact ⟨_,hb,h2⟩
theorem Gh {s:Shared}{h':Heap}{o:Obj} (hk:∀b x,b∉[s.heap.objs.size]→(s.heap.push o).get? b=some x→h'.get? b=some x):∀b x,s.heap.get? b=some x→h'.get? b=some x:=
 fun b x e=>hk b x (fun hm=>by rw [List.mem_singleton.mp hm] at e;exact Nat.lt_irrefl _ (Heap.lt_size e)) (Heap.get?_push_of_some _ e)
theorem DQ (hc:X.calm=true):d8 X (.builtin "all") (fun xs H Q=>bP fun (l:Addr) (bs:List Bool)=>xs=[.ref l]∧ah X.K H l (bs.map V.bl)∧Q (.bl (bs.all id)) H):=by
 intro pins s σ H xs us Q I r h
 obtain ⟨l,bs,rfl,hq,q⟩:=h
 obtain ⟨u,rfl,ru⟩:=r.one
 obtain rfl:u=.ref l:=ru
 obtain ⟨its,rv,p,hz⟩:=I.list hq
 have hl:=p.isList
 have hlt:l<s.heap.objs.size:=by obtain ⟨_,e,_⟩:=hl;exact Heap.lt_size e
 refine call_all_walk (wpAny_pyIter_list hl ?_)
 refine ⟨s.heap.objs.size,[s.heap.objs.size,l],[s.heap.objs.size],its.toArray.size,_,_,fun i=>(bs[i]?).getD true,rfl,Walks.list (A:=X.A.in1) (I.ok.hd hc) _ l (Nat.ne_of_lt hlt) its.toArray,
  ⟨⟨_,Heap.get?_push_size _ rfl,rfl,rfl⟩,hl.push _⟩,fun i v s' Q' E' hP hQ=>?_,fun h' tk hk=>?_⟩
 ·obtain ⟨b,e,rfl⟩:=C7 rv (i:=i) (v:=v) (by simpa using hP)
  simp only [e,Option.getD_some] at hQ
  exact wpAny_truthy_bool hQ
 ·have e:((List.range its.toArray.size).all fun i=>(bs[i]?).getD true)=bs.all id:=by
   rw [List.size_toArray,←rv.length,List.length_map];exact LSm.range_all bs
  rw [e]
  exact ⟨.bl _,H,I.kept (Gh hk),rfl,q⟩
end
def Kh (K:PySem.W.Frag) (a:Addr):It:=
 ⟨fun i H=>bP fun xs x=>ah K H a xs∧xs[i]?=some x,fun i H v H'=>bP fun T x=>H T=none∧v=.ref T∧H'=aQ H T (.tup [.int (i:Int),x])∧∀xs,ah K H a xs→xs[i]?=some x,fun i H=>∃xs,ah K H a xs∧xs.length≤i⟩
theorem Cn {P:Program}{w:World}{K:PySem.W.Frag}{es:List Expr}{kk:Nat}{pos:Pos} (a e it:Addr) (hne:e≠it) :
 sM P w K (.Tuple es kk pos) (Kh K a) [e,it] e (fun i h=>(∃old,IsEnum h e it i old)∧h.IsListIter it a i) where
 mem:=by simp
 obj:=fun i h st b hb=>by
  obtain ⟨⟨old,he⟩,o,e1,c,d⟩:=st
  have hb':b=e∨b=it:=by simpa using hb
  rcases hb' with rfl | rfl
  ·exact ⟨_,he,fun v z=>by
    have z':Data.fields _=Data.cell v:=z
    cases z'⟩
  ·exact ⟨o,e1,fun v z=>by rw [d] at z;cases z⟩
 keep:=fun i h h' st k=>by
  obtain ⟨⟨old,he⟩,hi⟩:=st
  exact ⟨⟨old,k e (by simp) _ he⟩,hi.at fun o q=>k it (by simp) o q⟩
 item:=by
  intro X hP hw hK hc i pins s σ H E I hf st hg
  subst hP hw hK
  obtain ⟨⟨old,he⟩,hit⟩:=st
  obtain ⟨xs,x,hq,hx⟩:=hg
  obtain ⟨its,rv,p,hz⟩:=I.list hq
  obtain ⟨u,hu,ru⟩:=rv.get hx
  have hnT:H s.heap.objs.size=none:=I.fresh
  refine wpAny_pyNext_enum_item he hit p.isList (x:=u) (by simpa using hu) hne fun h' ho hit' hT hsz hk=>?_
  refine ⟨(),wpAny_letOwnedTupleGo_enum (s:={ s with heap:=h',toks:=s.toks+1 }) ho fun h'' he'' hs''=>?_⟩
  have helt:e<s.heap.objs.size:=Heap.lt_size he
  have hilt:it<s.heap.objs.size:=by obtain ⟨_,y,_⟩:=hit;exact Heap.lt_size y
  have hT'':h''.get? s.heap.objs.size=some { cls:=.type "tuple",data:=.seq #[.int i s.toks,u] }:=(hs''.2 _ (Nat.ne_of_gt helt)).trans hT
  refine ⟨.ref s.heap.objs.size,aQ H s.heap.objs.size (.tup [.int (i:Int),x]),I.turnedNew (ch:=[e,it]) (t':=s.toks+1) hf (fun b o hb q=>?_) (Nat.le_refl _) ?_,rfl,⟨_,x,hnT,rfl,rfl,fun ys hy=>by rw [I.list_inj hy hq];exact hx⟩,⟨⟨u,?_⟩,hit'.extBut hs''.extBut (Ne.symm hne)⟩,fun b hb=>?_⟩
  ·have h1:b≠e:=fun z=>hb (by simp [z])
   have h2:b≠it:=fun z=>hb (by simp [z])
   exact (hs''.2 b h1).trans (hk b o h1 h2 q)
  ·exact ⟨by show 2≤sizeLine;decide,[.int i s.toks,u],.cons ⟨()⟩ (.cons ru .nil),⟨_,hT'',rfl,()⟩,_,hT'',rfl⟩
  ·simpa using he''
  ·have hb':b=e∨b=it:=by simpa using hb
   have hlt:b<s.heap.objs.size:=by rcases hb' with rfl | rfl <;> assumption
   rw [aG (Nat.ne_of_lt hlt)]
   exact (hf b hb).1
 done:=by
  intro X hP hw hK hc i pins s σ H E I hf st hg
  subst hP hw hK
  obtain ⟨⟨old,he⟩,hit⟩:=st
  obtain ⟨xs,hq,hx⟩:=hg
  obtain ⟨its,rv,p,hz⟩:=I.list hq
  obtain ⟨f0,f1,f2,f3,f4,f5⟩:=hf it (by simp)
  have hl:=rv.length
  exact wpAny_pyNext_enum_end (I.ok.hd hc) he hit p.isList (by simp;trivial) fun h' eb=>⟨rfl,I.turned (t':=s.toks) (fun b o hb e=>eb b o hb e) f0 f1 f3 f4 f5⟩
 self:=fun _ _ _ _ _ st h=>by
  obtain ⟨⟨old,he⟩,_⟩:=st
  exact wpAny_pyIter_enum he h
def Jq (K:PySem.W.Frag) (ta:TA):TI:=fun σ H R=>ta σ H fun vs H1=>∃a,vs=[.ref a]∧(∃xs,ah K H1 a xs)∧R (Kh K a) H1
theorem Gq {X:Cx}{es:List Expr}{kk:Nat}{tp:Pos}{a:Expr}{ta:TA}{p pos:Pos} (hg:Gl X "enumerate") (hm:X.mg "enumerate" = none) (ha:PA X [a] ta) (hs:starEach [a] X.env=[(false,eval a X.env)]:=by rfl) :
 PI X (.Tuple es kk tp) (.Call (.Name "enumerate" p) [a] [] pos) (Jq X.K ta):=by
 intro pins s σ H R I h
 refine Call_ (nh I hg hm boot_enumerate (PyProof.Rows.callWith_type1 (aS (ha pos pins s σ H _ I h) fun us s1 ⟨vs,H1,I1,r1,q1⟩=>?_) hs rfl))
 obtain ⟨a,rfl,⟨xs,hq⟩,q⟩:=q1
 obtain ⟨u,rfl,ru⟩:=r1.one
 obtain rfl:u=.ref a:=ru
 obtain ⟨its,rv,p,hz⟩:=I1.list hq
 refine call_enumerate_list p.isList fun h' hE hI hsz hk=>wpAny_pyIter_enum hE ?_
 have I2:ag X pins σ H1 { s1 with heap:=h',toks:=s1.toks }:=I1.kept hk
 refine ⟨s1.heap.objs.size+1,[s1.heap.objs.size+1,s1.heap.objs.size],_,_,H1,rfl,I2,Cn a (s1.heap.objs.size+1) s1.heap.objs.size (Nat.succ_ne_self _),⟨⟨_,hE⟩,hI⟩,fun b hb=>?_,q⟩
 have hb':b=s1.heap.objs.size+1∨b=s1.heap.objs.size:=by simpa using hb
 have hle:s1.heap.objs.size≤b:=by rcases hb' with rfl | rfl <;> trivial
 exact I1.fpOk hle (I1.hok.fresh hle)
end L2
namespace L2
open PySem PySem.Spec PyProof.Rows
theorem bh:bootBuiltins "len" = some (.builtin "len"):=by nofun
theorem jG:bootBuiltins "abs" = some (.builtin "abs"):=by nofun
theorem AN:bootBuiltins "min" = some (.builtin "min"):=by nofun
theorem A3:bootBuiltins "max" = some (.builtin "max"):=by nofun
theorem dY:bootBuiltins "all" = some (.builtin "all"):=by nofun
theorem xT:bootBuiltins "divmod" = some (.builtin "divmod"):=by nofun
theorem aJ:bootBuiltins "isinstance" = some (.builtin "isinstance"):=by nofun
theorem dg:bootBuiltins "int" = some (.type "int"):=by nofun
theorem jJ:bootBuiltins "bool" = some (.type "bool"):=by nofun
theorem zL:bootBuiltins "str" = some (.type "str"):=by nofun
theorem b4:bootBuiltins "list" = some (.type "list"):=by nofun
theorem bN:bootBuiltins "tuple" = some (.type "tuple"):=by nofun
theorem eR {X:Cx}{x:Str}{T:String}{pos:Pos} (hg:Gl X x) (hm:X.mg x=none) (hv:bootBuiltins x=some (.type T)) (hn:x≠"__name__" := by decide) (hd:(x==("__debug__" : Str))=false:=by decide):PE X (.Name x pos) (tC (.ty T)):=
 Gm (v:=.ty T) hg hm hv rfl hn hd
mutual
inductive aK (E:Addr→Prop) (H:Hp):V→PyData→Prop
 | non:aK E H .non .none
 | bl (b:Bool):aK E H (.bl b) (.bool b)
 | int (i:Int):aK E H (.int i) (.int i)
 | str (x:Str):aK E H (.str x) (.str x)
 | lst {a:Addr}{xs:List V}{ds:List PyData} (h:H a=some (.lst xs)) (ne:¬E a) (r:au E H xs ds):aK E H (.ref a) (.list ds)
 | tup {a:Addr}{xs:List V}{ds:List PyData} (h:H a=some (.tup xs)) (r:au E H xs ds):aK E H (.ref a) (.tuple ds)
inductive au (E:Addr→Prop) (H:Hp):List V→List PyData→Prop
 | nil:au E H [] []
 | cons {x:V}{xs:List V}{d:PyData}{ds:List PyData} (h:aK E H x d) (r:au E H xs ds):au E H (x :: xs) (d :: ds)
end
structure af (E:Addr→Prop) (H H':Hp):Prop where
 old:∀a o,¬E a→H a=some o→H' a=some o
 tup:∀a xs,H a=some (.tup xs)→H' a=some (.tup xs)
mutual
theorem aK.mono {E:Addr→Prop}{H H':Hp} (k:af E H H'):∀{v:V}{d:PyData},aK E H v d→aK E H' v d
 | _,_,.non=>.non
 | _,_,.bl b=>.bl b
 | _,_,.int i=>.int i
 | _,_,.str x=>.str x
 | _,_,.lst h ne r=>.lst (k.old _ _ ne h) ne (au.mono k r)
 | _,_,.tup h r=>.tup (k.tup _ _ h) (au.mono k r)
theorem au.mono {E:Addr→Prop}{H H':Hp} (k:af E H H'):∀{vs:List V}{ds:List PyData},au E H vs ds→au E H' vs ds
 | _,_,.nil=>.nil
 | _,_,.cons h r=>.cons (aK.mono k h) (au.mono k r)
end
theorem af.refl {E:Addr→Prop} (H:Hp):af E H H:=⟨fun _ _ _ h=>h,fun _ _ h=>h⟩
theorem af.trans {E:Addr→Prop}{H H1 H2:Hp} (a:af E H H1) (b:af E H1 H2):af E H H2:=⟨fun c o n h=>b.old c o n (a.old c o n h),fun c xs h=>b.tup c xs (a.tup c xs h)⟩
theorem aa.toE {E:Addr→Prop}{H H':Hp} (a:aa H H'):af E H H':=⟨fun c o _ h=>a c o h,fun c xs h=>a c _ h⟩
theorem aa.new {H:Hp}{p:Addr}{o:HO} (h:H p=none):aa H (aQ H p o):=fun b u e=>by rw [aG (aY e h)];exact e
theorem au.length {E:Addr→Prop}{H:Hp}:∀{vs:List V}{ds:List PyData},au E H vs ds→vs.length=ds.length
 | _,_,.nil=>rfl
 | _,_,.cons _ r=>by simp [au.length r]
theorem au.get {E:Addr→Prop}{H:Hp}:∀{vs:List V}{ds:List PyData}{i:Nat}{v:V},au E H vs ds→vs[i]?=some v→∃d,ds[i]?=some d∧aK E H v d
 | _,_,_,_,.nil,e=>by simp at e
 | _,_,0,_,.cons h _,e=>by simp at e;subst e;exact ⟨_,rfl,h⟩
 | _,_,i+1,v,.cons _ r,e=>by
  obtain ⟨d,h1,h2⟩:=au.get (i:=i) (v:=v) r (by simpa using e)
  exact ⟨d,by simpa using h1,h2⟩
theorem au.append {E:Addr→Prop}{H:Hp}:∀{vs ws:List V}{ds es:List PyData},au E H vs ds→au E H ws es→au E H (vs++ws) (ds++es)
 | _,_,_,_,.nil,s=>s
 | _,_,_,_,.cons h r,s=>.cons h (au.append r s)
mutual
theorem aK.reads {E:Addr→Prop}{P:Program}{w:World}{H:Hp}{h:Heap} (ok:gf P w H h):∀{v:V}{d:PyData},aK E H v d→∀{u:Value},bj v u→∃as,Reads h u d as
 | _,_,.non,u,r=>by obtain rfl:u=.none:=r;exact ⟨_,.none⟩
 | _,_,.bl b,u,r=>by obtain rfl:u=.bool b:=r;exact ⟨_,.bool b⟩
 | _,_,.int i,u,r=>by obtain ⟨t,rfl⟩:=r;exact ⟨_,.int i t⟩
 | _,_,.str x,u,r=>by obtain ⟨t,rfl⟩:=r;exact ⟨_,.str x t⟩
 | _,_,.lst (a:=a) (xs:=xs) e _ q,u,r=>by
  obtain rfl:u=.ref a:=r
  obtain ⟨_,its,n,rv,e1⟩:=(show bU P w H h a (.lst xs) from ok a _ e)
  obtain ⟨as,ra⟩:=au.reads ok q rv
  exact ⟨_,.list e1 rfl rfl (by simpa using ra)⟩
 | _,_,.tup (a:=a) (xs:=xs) e q,u,r=>by
  obtain rfl:u=.ref a:=r
  obtain ⟨_,its,rv,⟨o,e1,c,n,dd⟩,_⟩:=(show bU P w H h a (.tup xs) from ok a _ e)
  obtain ⟨as,ra⟩:=au.reads ok q rv
  exact ⟨_,.tuple e1 c dd (by simpa using ra)⟩
theorem au.reads {E:Addr→Prop}{P:Program}{w:World}{H:Hp}{h:Heap} (ok:gf P w H h):∀{vs:List V}{ds:List PyData},au E H vs ds→∀{us:List Value},aL vs us→∃as,ReadsAll h us ds as
 | _,_,.nil,us,r=>by cases r;exact ⟨_,.nil⟩
 | _,_,.cons q qs,us,r=>by
  cases r with
  | cons r1 rr=>
   obtain ⟨as,h1⟩:=aK.reads ok q r1
   obtain ⟨bs,h2⟩:=au.reads ok qs rr
   exact ⟨_,.cons h1 h2⟩
end
section
variable {X:Cx}
def AO (_ j:Int):Prop:=0<j∧j.natAbs.log2<9000
theorem yz:cU X (binaryOp .FloorDiv) (rI AO fun i j=>.int (i / j)):=xA fun i j _ _ _ _ _ hc q=>by
 rw [←Int.fdiv_eq_ediv_of_nonneg _ (Int.le_of_lt hc.1)] at q
 exact floordiv_int (Int.ne_of_gt hc.1) q (.inl (PyProof.noPylong_of_log2 hc.2))
def JH (i j k:Nat) (ta:TA):TS:=fun D σ H=>ta σ H fun vs H1=>fP fun v w u=>vs=[v,w,u]∧D.nx (((σ.set i (some v)).set j (some w)).set k (some u)) H1
theorem Gf {pos:Pos}{i j k:Nat}{x y z:Str}{a b c:Expr}{ta:TA}{px py pz pt:Pos}{kt k2 pt2} (hc:X.calm=true) (hN:X.N.Nodup) (hi:X.N[i]?=some x) (hj:X.N[j]?=some y) (hk:X.N[k]?=some z) (hij:i≠j) (hik:i≠k) (hjk:j≠k)
 (hx:X.env.scope.names.lookup x=some .local) (hy:X.env.scope.names.lookup y=some .local) (hz:X.env.scope.names.lookup z=some .local) (ha:PA X [a,b,c] ta)
 (hw:swappedStores [.Tuple [.Name x px,.Name y py,.Name z pz] kt pt] (.Tuple [a,b,c] k2 pt2) X.env=pure (some [x,y,z]))
 (hs:swapsWithSole [.Tuple [.Name x px,.Name y py,.Name z pz] kt pt] (.Tuple [a,b,c] k2 pt2) pos.line X.env=pure false:=by rfl) :
 PS X (.Assign [.Tuple [.Name x px,.Name y py,.Name z pz] kt pt] (.Tuple [a,b,c] k2 pt2) pos) (JH i j k ta):=by
 intro pins s σ H D I h
 rw [exec_Assign_arm]
 refine wpAny_bind (wpAny_standAt ?_)
 rw [hs]
 refine wpAny_bind (wpAny_pure ?_)
 rw [if_neg (by decide)]
 refine wpAny_bind (Tuple_ (aS (ha _ pins s σ H _ I h) fun us s1 ⟨vs,H1,I1,r1,q1⟩=>?_))
 obtain ⟨v,w,u,e1,q1⟩:=q1
 subst e1
 obtain ⟨u1,u2,u3,rfl,rv,rw',ru⟩:fP fun u1 u2 u3=>us=[u1,u2,u3]∧bj v u1∧bj w u2∧bj u u3:=by
  cases r1 with
  | cons p q=>
   cases q with
   | cons p' q'=>
    cases q' with
    | cons p'' q''=>
     cases q''
     exact ⟨_,_,(),p,p',p''⟩
 refine wpAny_newObj_type ?_ (by show 3≤sizeLine;decide)
 have I2:ag X pins σ H1 { s1 with heap:=s1.heap.push { cls:=.type "tuple",data:=.seq [u1,u2,u3].toArray } }:=I1.kept (t':=s1.toks) fun b o e=>Heap.get?_push_of_some _ e
 rw [hw]
 refine wpAny_bind (wpAny_pure ?_)
 show wpAny (model X.prog X.w) X.A (do rule "assign.swapped-stores";let items ←unpackItems (.ref s1.heap.objs.size) 3 none;assignInOrder [fun v=>bindName X.env z v,fun v=>bindName X.env y v,fun v=>bindName X.env x v] items.reverse;pure Flow.next) _ _ _
 refine wpAny_bind (wpAny_rule (wpAny_bind (unpackItems_tuple (items:=#[u1,u2,u3]) (I.ok.hd hc) (IsTup.new s1.heap _) fun h' hx'=>?_)))
 have I3:=I2.kept (h':=h') (t':=s1.toks) fun b o e=>hx' b o (Nat.ne_of_lt (Heap.lt_size e)) e
 show wpAny _ _ (assignInOrder [fun v=>bindName X.env z v,fun v=>bindName X.env y v,fun v=>bindName X.env x v] [u3,u2,u1] >>= fun _=>pure Flow.next) _ _ _
 refine wpAny_bind (assignInOrder_cons (wpAny_bindName (ju I3 hN hk (.inl hz) ru (fun s2 I4=>?_) (.inr hz))))
 refine assignInOrder_cons (wpAny_bindName (ju I4 hN hj (.inl hy) rw' (fun s3 I5=>?_) (.inr hy)))
 refine assignInOrder_cons (wpAny_bindName (ju I5 hN hi (.inl hx) rv (fun s4 I6=>assignInOrder_nil (wpAny_pure ?_)) (.inr hx)))
 have e:(((σ.set i (some v)).set j (some w)).set k (some u))=(((σ.set k (some u)).set j (some w)).set i (some v)):=by
  rw [List.set_comm _ _ (Ne.symm hjk),List.set_comm (some v) (some w) hij,List.set_comm (some v) (some u) hik]
 rw [←e] at I6
 exact ⟨_,H1,I6,q1⟩
end
end L2
namespace L2
open PySem PySem.Spec PyProof.Rows
def zF:PyData→String
 | .none => "NoneType"
 | .bool _ => "bool"
 | .int _ => "int"
 | .str _ => "str"
 | .list _ => "list"
 | .tuple _ => "tuple"
 | .dict _ => "dict"
theorem aK.ty {K:PySem.W.Frag}{E:Addr→Prop}{H:Hp}{v:V}{d:PyData} (h:aK E H v d):iX K H v (.type (zF d)):=by
 cases h with
 | non=>exact .non
 | bl b=>exact .bl b
 | int i=>exact .int i
 | str x=>exact .str x
 | lst h ne r=>exact .lst h
 | tup h r=>exact .tup h
def BH:PyData→Bool
 | .int _=>true
 | .bool _=>true
 | _=>false
def lj:PyData→Bool
 | .int _=>true
 | _=>false
def Ah:PyData→Bool
 | .bool _=>true
 | _=>false
def yI:PyData→Bool
 | .tuple _=>true
 | _=>false
def cZ:PyData→Bool
 | .list _=>true
 | _=>false
def CZ:PyData→Bool
 | .str _=>true
 | _=>false
theorem vJ {K:PySem.W.Frag} (d:PyData):PySem.W.kitOne K (.type (zF d)) (.type "int")=some (BH d):=by cases d <;> rfl
theorem nM {K:PySem.W.Frag} (d:PyData):PySem.W.kitOne K (.type (zF d)) (.type "bool")=some (Ah d):=by cases d <;> rfl
theorem jE {K:PySem.W.Frag} (d:PyData):PySem.W.kitOne K (.type (zF d)) (.type "tuple")=some (yI d):=by cases d <;> rfl
theorem kX {K:PySem.W.Frag} (d:PyData):PySem.W.kitOne K (.type (zF d)) (.type "list")=some (cZ d):=by cases d <;> rfl
theorem Gv {K:PySem.W.Frag} (d:PyData):PySem.W.kitOne K (.type (zF d)) (.type "str")=some (CZ d):=by cases d <;> rfl
inductive Jo (K:PySem.W.Frag) (xs:List V) (H:Hp) (Q:VK):Prop
 | mk (x:_) (T:_) (t:_) (b:_) (h0:xs=[x,.ty T]) (h1:iX K H x t) (h2:PySem.W.kitOne K t (.type T)=some b) (h3:Q (.bl b) H)
def Ko (K:PySem.W.Frag):List V→Hp→VK→Prop:=fun xs H Q=>Jo K xs H Q
section
variable {X:Cx}
theorem zJ:d8 X (.builtin "divmod") (fun xs H Q=>bP fun i j=>xs=[.int i,.int j]∧AO i j∧∀p,H p=none→Q (.ref p) (aQ H p (.tup [.int (i / j),.int (i % j)]))):=by
 intro pins s σ H xs us Q I r h
 obtain ⟨i,j,rfl,⟨h1,h2⟩,q⟩:=h
 obtain ⟨u,w',rfl,⟨t,rfl⟩,⟨t',rfl⟩⟩:=A8 r
 refine divmod_int (by trivial) ?_ (.inl (PyProof.noPylong_of_log2 h2))
 rw [Int.fdiv_eq_ediv_of_nonneg i (by trivial),Int.fmod_eq_emod_of_nonneg i (by trivial)]
 have hn:H s.heap.objs.size=none:=I.hok.fresh (Nat.le_refl _)
 refine ⟨.ref s.heap.objs.size,_,?_,rfl,q _ hn⟩
 refine I.laid (fun b o e=>Heap.get?_push_of_some _ e) (Nat.le_refl _) ⟨by simp only [List.length_cons,List.length_nil];rw [sizeLine_eq];decide,[.int (i / j) s.toks,.int (i % j) (s.toks+1)],.cons ⟨()⟩ (.cons ⟨()⟩ .nil),?_⟩
 exact ⟨⟨_,Heap.get?_push_size s.heap rfl,rfl,0,rfl⟩,_,Heap.get?_push_size s.heap rfl,rfl⟩
end
theorem Lj (c:Bool):-(2 ^ 64)<(if c=true then (1:Int) else 0)∧(if c=true then (1:Int) else 0)<2 ^ 64:=by cases c <;> decide
theorem yJ (x:Int):0≤(if x<0 then -x else x):=by split <;> trivial
theorem Jf {x:Int} (c:Bool) (h:0≤x):0≤x*(if c=true then (1:Int) else 0):=by cases c <;> simp [h]
theorem Ab {ms:List Int}{k:Int} (h0:0≤k) (h:k.toNat<ms.length):ko (ms.map V.int) k=some (V.int ms[k.toNat]):=by
 have q:=eN (xs:=ms.map V.int) (j:=k.toNat) (v:=V.int ms[k.toNat]) (by rw [List.getElem?_map];simp [h])
 rwa [Int.toNat_of_nonneg h0] at q
inductive Bx (H:Hp) (b:Addr) (t:Int):Prop
 | mk (c x:Int) (h0:H b=some (.lst [.int c,.int x,.int t])) (h1:0≤c) (h2:0≤x) (h3:x<2147483647)
abbrev Eb (b:Addr):Addr→Prop:=fun a=>a=b
theorem Bx.same {H H':Hp}{b:Addr}{t:Int} (h:Bx H b t) (k:aa H H'):Bx H' b t:=by
 obtain ⟨c,x,e,r,r2,r3⟩:=h
 exact ⟨c,x,k _ _ e,r,r2,r3⟩
theorem xz {H H1:Hp}{b:Addr}{xs:List V}{o:HO} (k:aa H H1) (hb:H1 b=some (.lst xs)):af (Eb b) H (aQ H1 b o):=
 ⟨fun a u n h=>by rw [aG n];exact k a u h,fun a ys h=>by
  have e:=k a _ h
  rw [aG (gn e hb (by intro z;cases z))];exact e⟩
inductive GD (K:PySem.W.Frag) (vs:List V) (H:Hp) (Q:VK):Prop
 | mk (a:Addr) (ms:List Int) (k:Int) (h0:vs=[.ref a,.int k]) (h1:ah K H a (ms.map V.int)) (h2:0≤k) (h3:k≤63) (h4:∀p H',H p=none→aa H H'→Bx H' p 0→Q (.ref p) H')
def JV (K:PySem.W.Frag):Sp:=fun vs H Q _=>GD K vs H Q
inductive Gg (vs:List V) (H:Hp) (Q:VK):Prop
 | mk (b:Addr) (many t:Int) (h0:vs=[.ref b,.int many]) (h1:Bx H b t) (h2:0<many) (h3:many.natAbs.log2<9000) (h4:0≤t) (h5:t≤1000000) (h6:∀r t' H',0≤r→r<many→t≤t'→t'≤t+1→af (Eb b) H H'→Bx H' b t'→Q (.int r) H')
def GE:Sp:=fun vs H Q _=>Gg  vs H Q
def y6:List Str→Bool
 | []=>true
 | x :: r=>!r.contains x && y6 r
theorem zk:∀l:List Str,y6 l=true→l.Nodup
 | [],_=>List.nodup_nil
 | x :: r,h=>by
  unfold y6 at h
  simp only [Bool.and_eq_true,Bool.not_eq_true',List.contains_eq_mem,decide_eq_false_iff_not] at h
  exact List.nodup_cons.mpr ⟨h.1,zk r h.2⟩
inductive IU (K:PySem.W.Frag) (xs:List V) (H:Hp) (Q:VK):Prop
 | mk (p:_) (ys:_) (h0:xs=[.ref p]) (h1:(ah K H p ys∨ad K H p ys)) (h2:Q (.int ys.length) H)
def Kz (K:PySem.W.Frag):List V→Hp→VK→Prop:=fun xs H Q=>IU K xs H Q
section
variable {X:Cx}{K:PySem.W.Frag}
theorem cV (e:X.K=K:=by rfl):d8 X (.builtin "isinstance") (Ko K):=by subst e;exact fun pins s σ H xs us Q I r ⟨x,T,t,b,h1,h2,h3,q⟩=>lg pins s σ H xs us Q I r ⟨x,T,t,b,h1,h2,h3,q⟩
theorem d9 (e:X.K=K:=by rfl):d8 X (.builtin "len") (Kz K):=by subst e;exact fun pins s σ H xs us Q I r ⟨p,ys,h1,h2,q⟩=>nF pins s σ H xs us Q I r ⟨p,ys,h1,h2,q⟩
theorem Im (e:X.K=K:=by rfl):qi X (Ij K):=by subst e;exact jX
theorem Jd (e:X.K=K:=by rfl):qi X (Eo K):=by subst e;exact Aw
theorem JO (e:X.K=K:=by rfl):qi X (Dc K):=by subst e;exact BZ
theorem Iu (e:X.K=K:=by rfl):cU X (compareOp .In) (Kj K false):=by subst e;exact BI
inductive JP (K:PySem.W.Frag) (xs:List V) (H:Hp) (Q:VK):Prop
 | mk (l:Addr) (bs:List Bool) (h0:xs=[.ref l]) (h1:ah K H l (bs.map V.bl)) (h2:Q (.bl (bs.all id)) H)
def sZ (K:PySem.W.Frag):List V→Hp→VK→Prop:=fun xs H Q=>JP K xs H Q
theorem k9 (hc:X.calm=true) (e:X.K=K:=by rfl):d8 X (.builtin "all") (sZ K):=by subst e;exact fun pins s σ H xs us Q I r ⟨l,bs,h1,h2,q⟩=>DQ hc pins s σ H xs us Q I r ⟨l,bs,h1,h2,q⟩
theorem br {pos:Pos}{es:List Expr}{k:Nat}{t:uk}{n:Nat} (hc:X.calm=true) (h:Cz X es t) (e:X.K=K:=by rfl)
 (hn:(assignEach es X.env).length=n:=by rfl) (hst:(assignEach es X.env).findIdx? (·.1)=none:=by rfl):PG X (.Tuple es k pos) (Be K n t):=by
 subst e;exact zp hc h hn hst
theorem oh {tg l:Expr}{tl:TE} (hl:PE X l tl) (e:X.K=K:=by rfl):PI X tg l (E4 K tl):=by subst e;exact tH hl
theorem dW {tg l:Expr}{tl:TE} (hl:PE X l tl) (e:X.K=K:=by rfl):PI X tg l (GH K tl):=by subst e;exact HI hl
end
end L2
namespace L2
open PySem PySem.Spec PyProof.Rows
def wM:Expr→Bool
 | .Starred ..=>false
 | _=>true
theorem CU {e:Expr}{es:List Expr}{env:Env} (h:wM e=true):starEach (e :: es) env=(false,eval e env) :: starEach es env:=by
 cases e <;> first | rfl | (simp [wM] at h)
section
variable {X:Cx}{e:Expr}{es:List Expr}{te:TE}{t:TA}
theorem HV (ha:PE X e te) (hr:PA X es t) (hs:wM e=true:=by rfl):PA X (e :: es) (yn te t):=bT ha hr (CU hs)
theorem pw (i:Nat) {x:Str}{pos:Pos} (hv:ER X.env.scope x) (hN:X.N[i]?=some x:=by rfl) (hd:(x==("__debug__" : Str))=false:=by decide) (hcd:(x==("__classdict__" : Str))=false:=by decide):PE X (.Name x pos) (Bo i):=CQ hN hv hd hcd
end
end L2
namespace KM
theorem gcd_fmod (n d:Int):Int.gcd d (n.fmod d)=Int.gcd n d:=by
 apply Nat.dvd_antisymm
 ·apply Int.dvd_gcd
  ·have h1:((Int.gcd d (n.fmod d):Nat):Int) ∣ d:=Int.gcd_dvd_left ..
   have h2:((Int.gcd d (n.fmod d):Nat):Int) ∣ n.fmod d:=Int.gcd_dvd_right ..
   have h3:=Int.dvd_add h2 (Int.dvd_mul_of_dvd_left (c:=n.fdiv d) h1)
   rw [Int.fmod_add_mul_fdiv] at h3
   exact h3
  ·exact Int.gcd_dvd_left ..
 ·apply Int.dvd_gcd
  ·exact Int.gcd_dvd_right ..
  ·rw [Int.fmod_def]
   exact Int.dvd_sub (Int.gcd_dvd_left ..) (Int.dvd_mul_of_dvd_left (Int.gcd_dvd_right ..))
theorem fmod_natAbs_lt (n d:Int) (h:d≠0):(n.fmod d).natAbs<d.natAbs:=by
 rcases Int.lt_trichotomy d 0 with hd | hd | hd
 ·have e:n.fmod d=-((-n).fmod (-d)):=by
   rw [Int.fmod_def,Int.fmod_def]
   have:(-n).fdiv (-d)=n.fdiv d:=Int.neg_fdiv_neg n d
   rw [this,Int.neg_mul];trivial
  have h1:=Int.fmod_nonneg_of_pos (-n) (b:=-d) (by trivial)
  have h2:=Int.fmod_lt_of_pos (-n) (b:=-d) (by trivial)
  trivial
 ·exact absurd hd h
 ·have h1:=Int.fmod_nonneg_of_pos n hd
  have h2:=Int.fmod_lt_of_pos n hd
  trivial
theorem gcd_zero_abs (n:Int):((Int.gcd n 0:Nat):Int)=if n<0 then -n else n:=by
 rw [Int.gcd_zero_right]
 split <;> trivial
theorem gcd_emod (n d:Int):Int.gcd d (n % d)=Int.gcd n d:=by
 by_cases h:d=0
 ·subst h;rw [Int.emod_zero,Int.gcd_comm]
 ·apply Nat.dvd_antisymm
  ·apply Int.dvd_gcd
   ·have h1:((Int.gcd d (n % d):Nat):Int) ∣ d:=Int.gcd_dvd_left ..
    have h2:((Int.gcd d (n % d):Nat):Int) ∣ n % d:=Int.gcd_dvd_right ..
    have h3:=Int.dvd_add h2 (Int.dvd_mul_of_dvd_left (c:=n / d) h1)
    rw [Int.emod_add_mul_ediv] at h3
    exact h3
   ·exact Int.gcd_dvd_left ..
  ·apply Int.dvd_gcd
   ·exact Int.gcd_dvd_right ..
   ·rw [Int.emod_def]
    exact Int.dvd_sub (Int.gcd_dvd_left ..) (Int.dvd_mul_of_dvd_left (Int.gcd_dvd_right ..))
end KM
namespace KM
def low (n d:Int):Int×Int:=if 0<d then (n / (Int.gcd n d:Nat),d / (Int.gcd n d:Nat)) else (-n / (Int.gcd n d:Nat),-d / (Int.gcd n d:Nat))
theorem gcd_pos {n d:Int} (h:d≠0):0<Int.gcd n d:=by
 apply Nat.pos_of_ne_zero
 intro e
 exact h (Int.gcd_eq_zero_iff.mp e).2
theorem gcd_abs (n d:Int):Int.gcd (if n<0 then -n else n) (if d<0 then -d else d)=Int.gcd n d:=by
 split <;> split <;> simp [Int.gcd_neg,Int.neg_gcd]
theorem low_spec (n d:Int) (h:d≠0):1≤(low n d).2∧(low n d).1*d=n*(low n d).2∧Int.gcd (low n d).1 (low n d).2=1∧(low n d).1.natAbs≤n.natAbs∧(low n d).2.natAbs≤d.natAbs:=by
 have g0:=gcd_pos (n:=n) h
 have gi:((Int.gcd n d:Nat):Int)≠0:=by trivial
 have d1:((Int.gcd n d:Nat):Int) ∣ n:=Int.gcd_dvd_left ..
 have d2:((Int.gcd n d:Nat):Int) ∣ d:=Int.gcd_dvd_right ..
 obtain ⟨a,ha⟩:=d1
 obtain ⟨b,hb⟩:=d2
 have ea:n / ((Int.gcd n d:Nat):Int)=a:=by
  conv=>lhs;lhs;rw [ha]
  exact Int.mul_ediv_cancel_left _ gi
 have eb:d / ((Int.gcd n d:Nat):Int)=b:=by
  conv=>lhs;lhs;rw [hb]
  exact Int.mul_ediv_cancel_left _ gi
 have ena:-n / ((Int.gcd n d:Nat):Int)=-a:=by
  have:-n=((Int.gcd n d:Nat):Int)*(-a):=by rw [Int.mul_neg];trivial
  rw [this]
  exact Int.mul_ediv_cancel_left _ gi
 have enb:-d / ((Int.gcd n d:Nat):Int)=-b:=by
  have:-d=((Int.gcd n d:Nat):Int)*(-b):=by rw [Int.mul_neg];trivial
  rw [this]
  exact Int.mul_ediv_cancel_left _ gi
 have hco:Int.gcd a b=1:=by
  have:=Int.gcd_ediv_gcd_ediv_gcd (i:=n) (j:=d) g0
  rw [ea,eb] at this
  exact this
 have hgp:(0:Int)<((Int.gcd n d:Nat):Int):=by trivial
 have habs:n.natAbs=Int.gcd n d*a.natAbs:=by
  conv=>lhs;rw [ha]
  rw [Int.natAbs_mul];rfl
 have hbbs:d.natAbs=Int.gcd n d*b.natAbs:=by
  conv=>lhs;rw [hb]
  rw [Int.natAbs_mul];rfl
 have la:a.natAbs≤n.natAbs:=by rw [habs];exact Nat.le_mul_of_pos_left _ g0
 have lb:b.natAbs≤d.natAbs:=by rw [hbbs];exact Nat.le_mul_of_pos_left _ g0
 have hab:a*d=n*b:=by
  generalize ((Int.gcd n d:Nat):Int)=g at ha hb
  subst ha hb
  rw [Int.mul_comm g a,Int.mul_assoc]
 unfold low
 split
 ·rename_i hd
  refine ⟨?_,?_,?_,?_,?_⟩
  ·show 1≤d / _
   rw [eb]
   have:0<b:=by
    apply Int.pos_of_mul_pos_right (a:=((Int.gcd n d:Nat):Int)) _ hgp
    rw [←hb];exact hd
   trivial
  ·show n / _*d=n*(d / _)
   rw [ea,eb];exact hab
  ·show Int.gcd (n / _) (d / _)=1
   rw [ea,eb];exact hco
  ·show (n / _).natAbs≤_
   rw [ea];exact la
  ·show (d / _).natAbs≤_
   rw [eb];exact lb
 ·rename_i hd
  refine ⟨?_,?_,?_,?_,?_⟩
  ·show 1≤-d / _
   rw [enb]
   have:0 < -b:=by
    apply Int.pos_of_mul_pos_right (a:=((Int.gcd n d:Nat):Int)) _ hgp
    rw [Int.mul_neg,←hb];trivial
   trivial
  ·show -n / _*d=n*(-d / _)
   rw [ena,enb,Int.neg_mul,Int.mul_neg,hab]
  ·show Int.gcd (-n / _) (-d / _)=1
   rw [ena,enb,Int.gcd_neg,Int.neg_gcd];exact hco
  ·show (-n / _).natAbs≤_
   rw [ena,Int.natAbs_neg];exact la
  ·show (-d / _).natAbs≤_
   rw [enb,Int.natAbs_neg];exact lb
end KM
namespace KM
theorem yA {n d a b:Int} (hd:d≠0) (hb:1≤b) (hg:Int.gcd a b=1) (he:a*d=n*b):low n d=(a,b):=by
 obtain ⟨h1,h2,h3,_,_⟩:=low_spec n d hd
 generalize low n d=z at *
 obtain ⟨x,y⟩:=z
 dsimp only at h1 h2 h3
 have e1:x*b=a*y:=by
  apply Int.eq_of_mul_eq_mul_right hd
  calc x*b*d=(x*d)*b:=by rw [Int.mul_assoc,Int.mul_comm b d,←Int.mul_assoc]
   _=n*y*b:=by rw [h2]
   _=(n*b)*y:=by rw [Int.mul_assoc,Int.mul_comm y b,←Int.mul_assoc]
   _=a*d*y:=by rw [he]
   _=a*y*d:=by rw [Int.mul_assoc,Int.mul_comm d y,←Int.mul_assoc]
 have d1:y ∣ b:=by
  apply Int.natAbs_dvd_natAbs.mp
  apply Nat.Coprime.dvd_of_dvd_mul_left (k:=y.natAbs) (m:=x.natAbs)
  ·show Nat.gcd y.natAbs x.natAbs=1
   rw [Nat.gcd_comm];exact h3
  ·rw [←Int.natAbs_mul]
   exact Int.natAbs_dvd_natAbs.mpr ⟨a,by rw [e1,Int.mul_comm]⟩
 have d2:b ∣ y:=by
  apply Int.natAbs_dvd_natAbs.mp
  apply Nat.Coprime.dvd_of_dvd_mul_left (k:=b.natAbs) (m:=a.natAbs)
  ·show Nat.gcd b.natAbs a.natAbs=1
   rw [Nat.gcd_comm];exact hg
  ·rw [←Int.natAbs_mul]
   exact Int.natAbs_dvd_natAbs.mpr ⟨x,by rw [←e1,Int.mul_comm]⟩
 have e2:y=b:=Int.dvd_antisymm (by trivial) (by trivial) d1 d2
 subst e2
 have e3:x=a:=Int.eq_of_mul_eq_mul_right (by trivial) e1
 rw [e3]
theorem low_self {a b:Int} (hb:1≤b) (hg:Int.gcd a b=1):low a b=(a,b):=yA (by trivial) hb hg rfl
section
variable {p0 p1 q0 q1:Int}
end
theorem fdiv_low {n d:Int} (hd:d≠0):(n.fdiv (if d<0 then -((Int.gcd n d:Nat):Int) else ((Int.gcd n d:Nat):Int)),d.fdiv (if d<0 then -((Int.gcd n d:Nat):Int) else ((Int.gcd n d:Nat):Int)))=low n d:=by
 have g0:(0:Int)≤((Int.gcd n d:Nat):Int):=Int.natCast_nonneg _
 unfold low
 by_cases h:d<0
 ·rw [if_pos h,if_neg (by trivial)]
  have e:∀x:Int,x.fdiv (-((Int.gcd n d:Nat):Int))=-x / ((Int.gcd n d:Nat):Int):=fun x=>by
   rw [←Int.fdiv_eq_ediv_of_nonneg _ g0,←Int.neg_fdiv_neg,Int.neg_neg]
  rw [e,e]
 ·rw [if_neg h,if_pos (by trivial),Int.fdiv_eq_ediv_of_nonneg _ g0,Int.fdiv_eq_ediv_of_nonneg _ g0]
end KM
namespace KM
abbrev Fra:=Int×Int
def ladd (t p:Fra):Fra:=low (t.1*p.2+p.1*t.2) (t.2*p.2)
def sumF (ps:List Fra):Fra:=ps.foldl ladd (0,1)
theorem zK {p q:Fra} (hp:1≤p.2) (hq:1≤q.2) (gp:Int.gcd p.1 p.2=1) (gq:Int.gcd q.1 q.2=1) (h:q.1*p.2=p.1*q.2):p=q:=by
 have e1:=low_self hp gp
 have e2:=yA (n:=p.1) (d:=p.2) (a:=q.1) (b:=q.2) (by trivial) hq gq h
 rw [e1] at e2
 exact e2
theorem low_sgn {n d:Int} (hd:0<d):(0<(low n d).1↔0<n)∧((low n d).1<0↔n<0):=by
 obtain ⟨h1,h2,_,_,_⟩:=low_spec n d (by trivial)
 generalize low n d=z at *
 obtain ⟨x,y⟩:=z
 dsimp only at *
 have hy:0<y:=by trivial
 constructor
 ·constructor
  ·intro h
   have:0<x*d:=Int.mul_pos h hd
   rw [h2] at this
   exact Int.pos_of_mul_pos_left this hy
  ·intro h
   have:0<n*y:=Int.mul_pos h hy
   rw [←h2] at this
   exact Int.pos_of_mul_pos_left this hd
 ·constructor
  ·intro h
   have:x*d<0:=Int.mul_neg_of_neg_of_pos h hd
   rw [h2] at this
   apply Decidable.byContradiction
   intro hn
   have:=Int.mul_nonneg (show 0≤n by trivial) (show 0≤y by trivial)
   trivial
  ·intro h
   have:n*y<0:=Int.mul_neg_of_neg_of_pos h hy
   rw [←h2] at this
   apply Decidable.byContradiction
   intro hn
   have:=Int.mul_nonneg (show 0≤x by trivial) (show 0≤d by trivial)
   trivial
end KM
namespace KM
def vl (p:Fra):Rat:=Rat.divInt p.1 p.2
def Rd (p:Fra):Prop:=1≤p.2∧Int.gcd p.1 p.2=1
theorem Rd.low {n d:Int} (h:d≠0):Rd (KM.low n d):=⟨(low_spec n d h).1,(low_spec n d h).2.2.1⟩
theorem ze {n d:Int} (h:d≠0):vl (low n d)=Rat.divInt n d:=by
 obtain ⟨h1,h2,_⟩:=low_spec n d h
 exact (Rat.divInt_eq_divInt_iff (by trivial) h).mpr (by rw [h2])
theorem Rd.eq {p q:Fra} (hp:Rd p) (hq:Rd q) (h:vl p=vl q):p=q:=by
 have:=(Rat.divInt_eq_divInt_iff (d₁:=p.2) (d₂:=q.2) (by have:=hp.1;trivial) (by have:=hq.1;trivial)).mp h
 exact zK hp.1 hq.1 hp.2 hq.2 this.symm
theorem Rd.nz {p:Fra} (h:Rd p):p.2≠0:=by have:=h.1;trivial
theorem pT {a b:Int} (h:a≠0) (k:b≠0):a*b≠0:=Int.mul_ne_zero h k
theorem GQ {p q:Fra} (hp:p.2≠0) (hq:q.2≠0):vl (ladd p q)=vl p+vl q:=by
 unfold ladd
 rw [ze (pT hp hq)]
 exact (Rat.divInt_add_divInt _ _ hp hq).symm
def lTim (p q:Fra):Fra:=low (p.1*q.1) (p.2*q.2)
def lTak (p q:Fra):Fra:=low (p.1*q.2 - q.1*p.2) (p.2*q.2)
theorem vl_tim {p q:Fra} (hp:p.2≠0) (hq:q.2≠0):vl (lTim p q)=vl p*vl q:=by
 unfold lTim
 rw [ze (pT hp hq)]
 exact (Rat.divInt_mul_divInt _ _).symm
theorem vl_tak {p q:Fra} (hp:p.2≠0) (hq:q.2≠0):vl (lTak p q)=vl p - vl q:=by
 unfold lTak
 rw [ze (pT hp hq)]
 exact (Rat.divInt_sub_divInt _ _ hp hq).symm
theorem Rd.add {p q:Fra} (hp:Rd p) (hq:Rd q):Rd (ladd p q):=Rd.low (pT hp.nz hq.nz)
theorem Rd.tim {p q:Fra} (hp:Rd p) (hq:Rd q):Rd (lTim p q):=Rd.low (pT hp.nz hq.nz)
theorem Rd.tak {p q:Fra} (hp:Rd p) (hq:Rd q):Rd (lTak p q):=Rd.low (pT hp.nz hq.nz)
theorem Rd.zero:Rd (0,1):=⟨by decide,by decide⟩
theorem Gw:vl (0,1)=0:=Rat.zero_divInt 1
def rsum (xs:List Rat):Rat:=xs.foldr (·+·) 0
theorem rsum_app (xs ys:List Rat):rsum (xs++ys)=rsum xs+rsum ys:=by
 induction xs with
 | nil=>show rsum ys=0+rsum ys;grind
 | cons x r ih=>show x+rsum (r++ys)=x+rsum r+rsum ys;rw [ih];grind
theorem BV:∀(ps:List Fra) (t:Fra),Rd t→(∀p∈ps,Rd p)→Rd (ps.foldl ladd t)∧vl (ps.foldl ladd t)=vl t+rsum (ps.map vl)
 | [],t,ht,_=>⟨ht,by show vl t=vl t+0;grind⟩
 | p :: r,t,ht,h=>by
  have hp:=h p (by simp)
  obtain ⟨a,b⟩:=BV r (ladd t p) (ht.add hp) fun q hq=>h q (List.mem_cons_of_mem _ hq)
  refine ⟨a,?_⟩
  show vl (r.foldl ladd (ladd t p))=vl t+(vl p+rsum (r.map vl))
  rw [b,GQ ht.nz hp.nz]
  grind
theorem sumF_vl {ps:List Fra} (h:∀p∈ps,Rd p):Rd (sumF ps)∧vl (sumF ps)=rsum (ps.map vl):=by
 obtain ⟨a,b⟩:=BV ps (0,1) Rd.zero h
 refine ⟨a,?_⟩
 show vl (ps.foldl ladd (0,1))=_
 rw [b,Gw]
 grind
end KM
namespace L2
open PySem PySem.Spec PyProof.Rows
section
variable {prog:Program}{w:World}{A:Around}{E:Value→Shared→Prop}{s:Shared}
theorem Bi {it t:Addr}{i:Nat}{its:Array Value}{x:Value}{Q:Value→Shared→Prop} (hit:s.heap.IsTupleIter it t i) (ht:s.heap.IsTuple t its) (hx:its[i]?=some x)
 (q:∀h',h'.IsTupleIter it t (i+1)→Heap.SameBut it s.heap h'→Q x { s with heap:=h' }):wpAny (model prog w) A (Builtin.SmallTypes.nextOf (.ref it)) Q E s:=by
 obtain ⟨o,e1,e2,e3⟩:=id hit;obtain ⟨u,e4,_,k,e5⟩:=ht;unfold Builtin.SmallTypes.nextOf
 refine wpAny_bind (wpAny_callSpecial?_slot (name:=Str.ofString "__next__") hit.typeIs F.slot_tuple_iterator_next (wpAny_call_entry F.slot_tuple_iterator_next hit.typeIs F.entry_tuple_iterator_next ?_ (F.args_tuple_iterator_next_1 _)))
 show wpAny _ _ (field (.ref it) 0 >>= _) _ _ s;refine wpAny_bind (wpAny_field e1 e3 (x:=.ref t) rfl ?_)
 show wpAny _ _ (if (Value.ref t==Value.none)=true then _ else _) _ _ s;rw [if_neg (show ¬((Value.ref t==Value.none)=true) from Bool.false_ne_true)]
 show wpAny _ _ (field (.ref it) 1 >>= _) _ _ s;refine wpAny_bind (wpAny_field e1 e3 (x:=.int i 0) rfl ?_)
 show wpAny _ _ (seqItems? (.ref t) >>= _) _ _ s;refine wpAny_bind (wpAny_seqItems e4 e5 ?_)
 simp only [Int.toNat_natCast,hx];refine wpAny_bind (wpAny_setField e1 e3 (by simp) (wpAny_pure ⟨x,rfl,wpAny_pure (q _ ?_ (Heap.SameBut.update ..))⟩))
 exact ⟨_,Heap.get?_update_self _ e1 (Obj.isFreed_of_fields (Obj.data_mapFields e3 _)),(Obj.cls_mapFields ..).trans e2,by rw [Obj.data_mapFields e3];simp [rawInt]⟩
theorem yh {it t:Addr}{i:Nat}{its:Array Value}{Q:Value→Shared→Prop} (hh:A.handled=none) (hit:s.heap.IsTupleIter it t i) (ht:s.heap.IsTuple t its) (hx:its[i]?=none)
 (q:∀h' e,Heap.ExtBut it s.heap h'→(∃o,h'.get? e=some o∧o.cls=.type "StopIteration")→E (.ref e) { s with heap:=h' }):wpAny (model prog w) A (Builtin.SmallTypes.nextOf (.ref it)) Q E s:=by
 obtain ⟨o,e1,e2,e3⟩:=id hit;obtain ⟨u,e4,_,k,e5⟩:=ht;unfold Builtin.SmallTypes.nextOf
 refine wpAny_bind (wpAny_callSpecial?_slot (name:=Str.ofString "__next__") hit.typeIs F.slot_tuple_iterator_next (wpAny_call_entry F.slot_tuple_iterator_next hit.typeIs F.entry_tuple_iterator_next ?_ (F.args_tuple_iterator_next_1 _)))
 show wpAny _ _ (field (.ref it) 0 >>= _) _ _ s;refine wpAny_bind (wpAny_field e1 e3 (x:=.ref t) rfl ?_)
 show wpAny _ _ (if (Value.ref t==Value.none)=true then _ else _) _ _ s;rw [if_neg (show ¬((Value.ref t==Value.none)=true) from Bool.false_ne_true)]
 show wpAny _ _ (field (.ref it) 1 >>= _) _ _ s;refine wpAny_bind (wpAny_field e1 e3 (x:=.int i 0) rfl ?_)
 show wpAny _ _ (seqItems? (.ref t) >>= _) _ _ s;refine wpAny_bind (wpAny_seqItems e4 e5 ?_)
 simp only [Int.toNat_natCast,hx];refine wpAny_bind (wpAny_rule (wpAny_bind (wpAny_setField e1 e3 (by simp) ?_)))
 show wpAny _ _ (newExc (.type "StopIteration") [] >>= _) _ _ _;refine wpAny_bind ?_;simp only [newExc,newTuple]
 refine wpAny_bind (wpAny_newObj_type ?_ (by size_fits));refine wpAny_bind (m:=firstArgMember _ _) (wpAny_of_eq (a:=Value.none) (by first | rfl | (simp only [firstArgMember];rfl)) ?_);refine wpAny_newObj_type ?_ (by size_fits)
 simp only [raiseNew];refine wpAny_bind (wpAny_handled ?_);first | rw [show A.in1.handled=none from hh] | rw [hh]
 refine wpAny_bind (wpAny_pure (wpAny_throw ?_));exact q _ _ (((Heap.SameBut.update ..).extBut.push _).push _) ⟨_,Heap.get?_push_size _ rfl,rfl⟩
end
def iq (h:Heap) (l:Addr) (its:Array Value):Bool→Prop
 | true=>h.IsList l its
 | false=>h.IsTuple l its
def fN (h:Heap) (it l:Addr) (i:Nat):Bool→Prop
 | true=>h.IsListIter it l i
 | false=>h.IsTupleIter it l i
theorem iq.at {h h':Heap}{l:Addr}{its:Array Value}:∀{b:Bool},iq h l its b→(∀o,h.get? l=some o→h'.get? l=some o)→iq h' l its b
 | true,q,k=>Heap.IsList.at q k
 | false,q,k=>Heap.IsTuple.at q k
theorem fN.at {h h':Heap}{it l:Addr}{i:Nat}:∀{b:Bool},fN h it l i b→(∀o,h.get? it=some o→h'.get? it=some o)→fN h' it l i b
 | true,q,k=>Heap.IsListIter.at q k
 | false,q,k=>Heap.IsTupleIter.at q k
theorem iq.lt {h:Heap}{l:Addr}{its:Array Value}:∀{b:Bool},iq h l its b→l<h.objs.size
 | true,⟨_,e,_⟩=>Heap.lt_size e
 | false,⟨_,e,_⟩=>Heap.lt_size e
theorem fN.some {h:Heap}{it l:Addr}{i:Nat}:∀{b:Bool},fN h it l i b→∃o,h.get? it=some o∧∀v,o.data≠.cell v
 | true,⟨o,e,_,d⟩=>⟨o,e,fun v z=>by rw [d] at z;cases z⟩
 | false,⟨o,e,_,d⟩=>⟨o,e,fun v z=>by rw [d] at z;cases z⟩
theorem pI {prog:Program}{w:World}{A:Around} (hh:A.handled=none) (it l:Addr) (hne:l≠it) (its:Array Value):∀b:Bool,
 Draws prog w A it [it,l] its.size (fun i v=>its[i]?=some v) (fun i h=>fN h it l i b∧iq h l its b)
 | true=>Draws.list hh it l hne its
 | false=>{
  live:=fun _ _ st=>let ⟨o,ho,_⟩:=st.1;⟨o,ho⟩
  frame:=fun _ _ _ st hk=>⟨Heap.IsTupleIter.at st.1 fun o e=>hk it (by simp) o e,Heap.IsTuple.at st.2 fun o e=>hk l (by simp) o e⟩
  item:=fun i s Q E hi st q=>Bi st.1 st.2 (x:=its[i]) (by simp [hi]) fun h' it' same=>q _ h' s.toks (by simp [hi]) ⟨it',Heap.IsTuple.extBut st.2 same.extBut hne⟩ same
  done:=fun s Q E st q=>yh hh st.1 st.2 (by simp) q }
structure sU (z TI TO i1 i2:Addr):Prop where
 a1:TI≠z
 a2:TO≠z
 a3:i1≠z
 a4:i2≠z
 a5:TI≠TO
 a6:TI≠i1
 a7:TI≠i2
 a8:TO≠i1
 a9:TO≠i2
 a0:i1≠i2
section
variable {prog:Program}{w:World}{A:Around}{E:Value→Shared→Prop}{s:Shared}
variable {z TI TO i1 i2 l1 l2:Addr}{k:Nat}{xs ys:Array Value}{a b:Value}{c1 c2:Bool}
theorem FT {x y:Value}{Q:Value→Shared→Prop} (D:sU z TI TO i1 i2) (n1:∀c,c=l1∨c=l2→c≠z∧c≠TO∧c≠i1∧c≠i2)
 (hz:IsZip s.heap z TI TO .none) (hTI:IsPair s.heap TI (.ref i1) (.ref i2)) (hTO:IsPair s.heap TO a b) (hh:A.handled=none)
 (h1:fN s.heap i1 l1 k c1) (h2:fN s.heap i2 l2 k c2) (q1:iq s.heap l1 xs c1) (q2:iq s.heap l2 ys c2) (hx:xs[k]?=some x) (hy:ys[k]?=some y)
 (hQ:∀h' tk,IsZip h' z TI TO (rawInt s.heap.objs.size)→IsPair h' TO x y→fN h' i1 l1 (k+1) c1→fN h' i2 l2 (k+1) c2→IsPair h' s.heap.objs.size x y→h'.objs.size=s.heap.objs.size+1→
  (∀c o,c≠z→c≠TO→c≠i1→c≠i2→s.heap.get? c=some o→h'.get? c=some o)→Q (.ref s.heap.objs.size) { s with heap:=h',toks:=tk }) :
 wpAny (model prog w) A (Builtin.«zip.__next__» ⟨[.ref z],[]⟩) (fun fin s'=>∃v,fin=.done (.ret v)∧Q v s') E s:=by
 obtain ⟨m1,m2,m3,m4⟩:=n1 l1 (.inl rfl)
 obtain ⟨m5,m6,m7,m8⟩:=n1 l2 (.inr rfl)
 have kx:k<xs.size:=(Array.getElem?_eq_some_iff.mp hx).1
 have ky:k<ys.size:=(Array.getElem?_eq_some_iff.mp hy).1
 have D1:=pI (prog:=prog) (w:=w) hh i1 l1 m3 xs c1
 have D2:=pI (prog:=prog) (w:=w) hh i2 l2 m8 ys c2
 show wpAny _ _ (field (.ref z) 2 >>= _) _ _ _;refine wpAny_bind (wpAny_field hz rfl (x:=.bool false) rfl ?_)
 show wpAny _ _ (field (.ref z) 3 >>= _) _ _ _;refine wpAny_bind (wpAny_field hz rfl (x:=.ref TI) rfl (wpAny_bind (wpAny_seqItems hTI rfl ?_)))
 show wpAny _ _ (Builtin.SmallTypes.ownedTupleIsFree (.ref z) >>= _) _ _ _;refine wpAny_bind ?_;unfold Builtin.SmallTypes.ownedTupleIsFree
 refine wpAny_bind (wpAny_field hz rfl (x:=.none) rfl (wpAny_pure ?_));simp only [if_true]
 refine wpAny_bind (wpAny_rule (wpAny_bind (wpAny_field hz rfl (x:=.ref TO) rfl (wpAny_bind (wpAny_setField_rec hz (by simp) fun g1 z1 t1=>?_)))))
 replace z1:IsZip g1 z TI TO .ellipsis:=z1
 refine wpAny_bind ?_;simp only [List.zipIdx_cons,List.zipIdx_nil,List.forIn_cons,List.forIn_nil];refine wpAny_bind (wpAny_bind (wpAny_onRaise ?_))
 show wpAny _ _ (Builtin.SmallTypes.nextOf (.ref i1) >>= _) _ _ _
 refine wpAny_bind (D1.item k _ _ _ kx ⟨h1.at fun o e=>t1.extBut _ _ D.a3 e,q1.at fun o e=>t1.extBut _ _ m1 e⟩ fun x' g2 tk2 p1 st1 t2=>wpAny_pure ?_)
 have ex:x=x':=Option.some.inj (hx.symm.trans p1)
 subst ex
 have TO2:IsPair g2 TO a b:=t2.extBut _ _ D.a8 (t1.extBut _ _ D.a2 hTO)
 refine wpAny_bind (wpAny_seqItems TO2 rfl (wpAny_bind (wpAny_updateSeq_pair TO2 fun g3 TO3 t3=>?_)))
 replace TO3:IsPair g3 TO x b:=TO3
 refine wpAny_bind (wpAny_letGo (wpAny_pure ?_));refine wpAny_bind (wpAny_bind (wpAny_onRaise ?_));show wpAny _ _ (Builtin.SmallTypes.nextOf (.ref i2) >>= _) _ _ _
 refine wpAny_bind (D2.item k _ _ _ ky ⟨h2.at fun o e=>t3.extBut _ _ D.a9.symm (t2.extBut _ _ D.a0.symm (t1.extBut _ _ D.a4 e)),q2.at fun o e=>t3.extBut _ _ m6 (t2.extBut _ _ m7 (t1.extBut _ _ m5 e))⟩ fun y' g4 tk4 p2 st2 t4=>wpAny_pure ?_)
 have ey:y=y':=Option.some.inj (hy.symm.trans p2)
 subst ey
 have TO4:IsPair g4 TO x b:=t4.extBut _ _ D.a9 TO3
 refine wpAny_bind (wpAny_seqItems TO4 rfl (wpAny_bind (wpAny_updateSeq_pair TO4 fun g5 TO5 t5=>?_)))
 replace TO5:IsPair g5 TO x y:=TO5
 refine wpAny_bind (wpAny_letGo (wpAny_pure (wpAny_pure ?_)));refine wpAny_bind (wpAny_seqItems TO5 rfl (wpAny_bind (wpAny_newTuple ?_)))
 have sz:g5.objs.size=s.heap.objs.size:=by rw [t5.1,t4.1,t3.1,t2.1,t1.1]
 have z5:IsZip g5 z TI TO .ellipsis:=t5.extBut _ _ D.a2.symm (t4.extBut _ _ D.a4.symm (t3.extBut _ _ D.a2.symm (t2.extBut _ _ D.a3.symm z1)))
 have keep:∀c o,c≠z→c≠TO→c≠i1→c≠i2→s.heap.get? c=some o→g5.get? c=some o:=fun c o d1 d2 d3 d4 e=>t5.extBut _ _ d2 (t4.extBut _ _ d4 (t3.extBut _ _ d2 (t2.extBut _ _ d3 (t1.extBut _ _ d1 e))))
 have it1:fN g5 i1 l1 (k+1) c1:=st1.1.at fun o e=>t5.extBut _ _ D.a8.symm (t4.extBut _ _ D.a0 (t3.extBut _ _ D.a8.symm e))
 have it2:fN g5 i2 l2 (k+1) c2:=st2.1.at fun o e=>t5.extBut _ _ D.a9.symm e
 have zlt:z<g5.objs.size:=Heap.lt_size z5
 show wpAny _ _ (Builtin.SmallTypes.ownedTupleHandOut (.ref z) (.ref g5.objs.size) >>= _) _ _ _;refine wpAny_bind ?_;unfold Builtin.SmallTypes.ownedTupleHandOut
 have z6:IsZip (g5.push { cls:=.type "tuple",data:=.seq #[x,y] }) z TI TO .ellipsis:=Heap.get?_push_of_some _ z5
 refine wpAny_bind (wpAny_setField_rec z6 (by simp) fun g7 z7 t7=>?_)
 replace z7:IsZip g7 z TI TO (rawInt g5.objs.size):=z7
 refine wpAny_setField_rec z7 (by simp) fun g8 z8 t8=>?_
 replace z8:IsZip g8 z TI TO (rawInt g5.objs.size):=z8
 have up:∀c o,c≠z→g5.get? c=some o→g8.get? c=some o:=fun c o d e=>t8.extBut _ _ d (t7.extBut _ _ d (Heap.get?_push_of_some _ e))
 have T8:IsPair g8 g5.objs.size x y:=t8.extBut _ _ (Nat.ne_of_gt zlt) (t7.extBut _ _ (Nat.ne_of_gt zlt) (Heap.get?_push_size _ rfl))
 have s8:g8.objs.size=g5.objs.size+1:=by rw [t8.1,t7.1,Heap.size_push]
 rw [sz] at z8 T8 s8
 refine wpAny_pure ⟨(),?_⟩;show Q (.ref g5.objs.size) _;rw [sz]
 exact hQ g8 _ z8 (up _ _ D.a2 TO5) (it1.at fun o e=>up _ o D.a3 e) (it2.at fun o e=>up _ o D.a4 e) T8 s8 fun c o d1 d2 d3 d4 e=>up c o d1 (keep c o d1 d2 d3 d4 e)
theorem HX {Q:Fin→Shared→Prop} (hh:A.handled=none) (D:sU z TI TO i1 i2) (n1:∀c,c=l1∨c=l2→c≠z∧c≠TO∧c≠i1∧c≠i2)
 (hz:IsZip s.heap z TI TO .none) (hTI:IsPair s.heap TI (.ref i1) (.ref i2)) (hTO:IsPair s.heap TO a b)
 (h1:fN s.heap i1 l1 k c1) (h2:fN s.heap i2 l2 k c2) (q1:iq s.heap l1 xs c1) (q2:iq s.heap l2 ys c2) (hend:xs.size=k∨(k<xs.size∧ys.size=k))
 (hE:∀h' e tk,(∀c o,c≠z→c≠TO→c≠i1→c≠i2→s.heap.get? c=some o→h'.get? c=some o)→(∃o,h'.get? e=some o∧o.cls=.type "StopIteration")→E (.ref e) { s with heap:=h',toks:=tk }) :
 wpAny (model prog w) A (Builtin.«zip.__next__» ⟨[.ref z],[]⟩) Q E s:=by
 obtain ⟨m1,m2,m3,m4⟩:=n1 l1 (.inl rfl)
 obtain ⟨m5,m6,m7,m8⟩:=n1 l2 (.inr rfl)
 have D1:=pI (prog:=prog) (w:=w) hh i1 l1 m3 xs c1
 have D2:=pI (prog:=prog) (w:=w) hh i2 l2 m8 ys c2
 show wpAny _ _ (field (.ref z) 2 >>= _) _ _ _;refine wpAny_bind (wpAny_field hz rfl (x:=.bool false) rfl ?_)
 show wpAny _ _ (field (.ref z) 3 >>= _) _ _ _;refine wpAny_bind (wpAny_field hz rfl (x:=.ref TI) rfl (wpAny_bind (wpAny_seqItems hTI rfl ?_)))
 show wpAny _ _ (Builtin.SmallTypes.ownedTupleIsFree (.ref z) >>= _) _ _ _;refine wpAny_bind ?_;unfold Builtin.SmallTypes.ownedTupleIsFree
 refine wpAny_bind (wpAny_field hz rfl (x:=.none) rfl (wpAny_pure ?_));simp only [if_true]
 refine wpAny_bind (wpAny_rule (wpAny_bind (wpAny_field hz rfl (x:=.ref TO) rfl (wpAny_bind (wpAny_setField_rec hz (by simp) fun g1 z1 t1=>?_)))))
 replace z1:IsZip g1 z TI TO .ellipsis:=z1
 refine wpAny_bind ?_;simp only [List.zipIdx_cons,List.zipIdx_nil,List.forIn_cons,List.forIn_nil];refine wpAny_bind (wpAny_bind (wpAny_onRaise ?_))
 show wpAny _ _ (Builtin.SmallTypes.nextOf (.ref i1) >>= _) _ _ _
 have st0:fN g1 i1 l1 k c1∧iq g1 l1 xs c1:=⟨h1.at fun o e=>t1.extBut _ _ D.a3 e,q1.at fun o e=>t1.extBut _ _ m1 e⟩
 rcases hend with hk | ⟨kx,hk⟩
 ·refine wpAny_bind (D1.done _ _ _ (by rw [hk];exact st0) fun g2 e t2 he=>?_)
  obtain ⟨oe,e1,e2⟩:=he
  have z2:IsZip g2 z TI TO .ellipsis:=t2 _ _ D.a3.symm z1
  have ez:e≠z:=fun q=>by subst q;rw [z2] at e1;cases e1;simp at e2
  exact wpAny_setField_rec z2 (by simp) fun g3 _ t3=>hE g3 e _ (fun c o d1 _ d3 _ q=>t3.extBut _ _ d1 (t2 _ _ d3 (t1.extBut _ _ d1 q))) ⟨oe,t3.extBut _ _ ez e1,e2⟩
 ·refine wpAny_bind (D1.item k _ _ _ kx st0 fun x g2 tk2 p1 st1 t2=>wpAny_pure ?_)
  have TO2:IsPair g2 TO a b:=t2.extBut _ _ D.a8 (t1.extBut _ _ D.a2 hTO)
  refine wpAny_bind (wpAny_seqItems TO2 rfl (wpAny_bind (wpAny_updateSeq_pair TO2 fun g3 TO3 t3=>?_)))
  refine wpAny_bind (wpAny_letGo (wpAny_pure ?_));refine wpAny_bind (wpAny_bind (wpAny_onRaise ?_));show wpAny _ _ (Builtin.SmallTypes.nextOf (.ref i2) >>= _) _ _ _
  have st2:fN g3 i2 l2 k c2∧iq g3 l2 ys c2:=⟨h2.at fun o e=>t3.extBut _ _ D.a9.symm (t2.extBut _ _ D.a0.symm (t1.extBut _ _ D.a4 e)),q2.at fun o e=>t3.extBut _ _ m6 (t2.extBut _ _ m7 (t1.extBut _ _ m5 e))⟩
  refine wpAny_bind (D2.done _ _ _ (by rw [hk];exact st2) fun g4 e t4 he=>?_)
  obtain ⟨oe,e1,e2⟩:=he
  have z4:IsZip g4 z TI TO .ellipsis:=t4 _ _ D.a4.symm (t3.extBut _ _ D.a2.symm (t2.extBut _ _ D.a3.symm z1))
  have ez:e≠z:=fun q=>by subst q;rw [z4] at e1;cases e1;simp at e2
  exact wpAny_setField_rec z4 (by simp) fun g5 _ t5=>hE g5 e _ (fun c o d1 d2 d3 d4 q=>t5.extBut _ _ d1 (t4 _ _ d4 (t3.extBut _ _ d2 (t2.extBut _ _ d3 (t1.extBut _ _ d1 q))))) ⟨oe,t5.extBut _ _ ez e1,e2⟩
end
def Hi:Bool→String
 | true => "list_iterator"
 | false => "tuple_iterator"
abbrev zA (h:Heap) (l1:Addr) (c1:Bool):Heap:=h.push { cls:=.type (Hi c1),data:=.fields #[.ref l1,.int 0 0] }
abbrev zB (h:Heap) (l1 l2:Addr) (c1 c2:Bool):Heap:=(zA h l1 c1).push { cls:=.type (Hi c2),data:=.fields #[.ref l2,.int 0 0] }
abbrev zC (h:Heap) (l1 l2:Addr) (c1 c2:Bool):Heap:=(zB h l1 l2 c1 c2).push { cls:=.type "tuple",data:=.seq #[.ref h.objs.size,.ref (zA h l1 c1).objs.size] }
abbrev zD (h:Heap) (l1 l2:Addr) (c1 c2:Bool):Heap:=(zC h l1 l2 c1 c2).push { cls:=.type "tuple",data:=.seq #[.none,.none] }
abbrev zE (h:Heap) (l1 l2:Addr) (c1 c2:Bool):Heap:=(zD h l1 l2 c1 c2).push { cls:=.type "zip",data:=.fields #[.none,.bool false,.bool false,.ref (zB h l1 l2 c1 c2).objs.size,.ref (zC h l1 l2 c1 c2).objs.size] }
set_option maxHeartbeats 8000000 in
theorem HA (l1 l2:Addr) (xs ys:Array Value) (c1 c2:Bool) :
 Meets (Builtin.«zip.__new__» ⟨[.type "zip",.ref l1,.ref l2],[]⟩) (fun _ R s=>iq s.heap l1 xs c1∧iq s.heap l2 ys c2∧R (.ok (.ret (.ref (zD s.heap l1 l2 c1 c2).objs.size))) { s with heap:=zE s.heap l1 l2 c1 c2 }):=
 .of_wp fun prog w A R s h=>by
  obtain ⟨hp,g,d,tk,os⟩:=s;obtain ⟨q1,q2,h⟩:=h
  have hsub:=sub_zip
  have L2':iq (Shared.heap ⟨zA hp l1 c1,g,d,tk,os⟩) l2 ys c2:=iq.at q2 fun o e=>Heap.get?_push_of_some _ e
  cases c1 <;> cases c2
  ·have g1:Heap.IsTuple (Shared.heap ⟨hp,g,d,tk,os⟩) l1 xs:=q1
   have g2:Heap.IsTuple (Shared.heap ⟨hp.push { cls:=.type "tuple_iterator",data:=.fields #[.ref l1,.int 0 0] },g,d,tk,os⟩) l2 ys:=L2'
   wp_walk using wpAny_pyIter_tuple g1,wpAny_pyIter_tuple g2
   exact ⟨(),h⟩
  ·have g1:Heap.IsTuple (Shared.heap ⟨hp,g,d,tk,os⟩) l1 xs:=q1
   have g2:Heap.IsList (Shared.heap ⟨hp.push { cls:=.type "tuple_iterator",data:=.fields #[.ref l1,.int 0 0] },g,d,tk,os⟩) l2 ys:=L2'
   wp_walk using wpAny_pyIter_tuple g1,wpAny_pyIter_list g2
   exact ⟨(),h⟩
  ·have g1:Heap.IsList (Shared.heap ⟨hp,g,d,tk,os⟩) l1 xs:=q1
   have g2:Heap.IsTuple (Shared.heap ⟨hp.push { cls:=.type "list_iterator",data:=.fields #[.ref l1,.int 0 0] },g,d,tk,os⟩) l2 ys:=L2'
   wp_walk using wpAny_pyIter_list g1,wpAny_pyIter_tuple g2
   exact ⟨(),h⟩
  ·have g1:Heap.IsList (Shared.heap ⟨hp,g,d,tk,os⟩) l1 xs:=q1
   have g2:Heap.IsList (Shared.heap ⟨hp.push { cls:=.type "list_iterator",data:=.fields #[.ref l1,.int 0 0] },g,d,tk,os⟩) l2 ys:=L2'
   wp_walk using wpAny_pyIter_list g1,wpAny_pyIter_list g2
   exact ⟨(),h⟩
theorem AG {h:Heap}{it l:Addr}:∀{c:Bool},h.get? it=some { cls:=.type (Hi c),data:=.fields #[.ref l,.int 0 0] }→fN h it l 0 c
 | true,e=>⟨_,e,rfl,rfl⟩
 | false,e=>⟨_,e,rfl,rfl⟩
section
variable {prog:Program}{w:World}{A:Around}{E:Value→Shared→Prop}{s:Shared}
theorem Cl {l1 l2:Addr}{xs ys:Array Value}{c1 c2:Bool}{Q:Value→Shared→Prop} (q1:iq s.heap l1 xs c1) (q2:iq s.heap l2 ys c2)
 (h:∀h',IsZip h' (s.heap.objs.size+4) (s.heap.objs.size+2) (s.heap.objs.size+3) .none→IsPair h' (s.heap.objs.size+2) (.ref s.heap.objs.size) (.ref (s.heap.objs.size+1))→
  IsPair h' (s.heap.objs.size+3) .none .none→fN h' s.heap.objs.size l1 0 c1→fN h' (s.heap.objs.size+1) l2 0 c2→
  (∀c o,s.heap.get? c=some o→h'.get? c=some o)→Q (.ref (s.heap.objs.size+4)) { s with heap:=h' }) :
 wpAny (model prog w) A (call (.type "zip") [.ref l1,.ref l2]) Q E s:=by
 refine callType_new F.called_zip (by decide) (F.typeCall_zip_2 _ _) (F.newCall_zip_2 _ _) (fun obj=>F.args_object_init_3 obj _ _) F.entry_zip_new (HA l1 l2 xs ys c1 c2) ⟨q1,q2,?_⟩
 have s1:(zA s.heap l1 c1).objs.size=s.heap.objs.size+1:=Heap.size_push ..
 have s2:(zB s.heap l1 l2 c1 c2).objs.size=s.heap.objs.size+2:=by rw [Heap.size_push,s1]
 have s3:(zC s.heap l1 l2 c1 c2).objs.size=s.heap.objs.size+3:=by rw [Heap.size_push,s2]
 have s4:(zD s.heap l1 l2 c1 c2).objs.size=s.heap.objs.size+4:=by rw [Heap.size_push,s3]
 have g5:(zE s.heap l1 l2 c1 c2).get? (zD s.heap l1 l2 c1 c2).objs.size=some _:=Heap.get?_push_size _ rfl
 have g4:(zE s.heap l1 l2 c1 c2).get? (zC s.heap l1 l2 c1 c2).objs.size=some _:=Heap.get?_push_of_some _ (Heap.get?_push_size _ rfl)
 have g3:(zE s.heap l1 l2 c1 c2).get? (zB s.heap l1 l2 c1 c2).objs.size=some _:=Heap.get?_push_of_some _ (Heap.get?_push_of_some _ (Heap.get?_push_size _ rfl))
 have g2:(zE s.heap l1 l2 c1 c2).get? (zA s.heap l1 c1).objs.size=some _:=Heap.get?_push_of_some _ (Heap.get?_push_of_some _ (Heap.get?_push_of_some _ (Heap.get?_push_size _ rfl)))
 have g1:(zE s.heap l1 l2 c1 c2).get? s.heap.objs.size=some _:=Heap.get?_push_of_some _ (Heap.get?_push_of_some _ (Heap.get?_push_of_some _ (Heap.get?_push_of_some _ (Heap.get?_push_size _ rfl))))
 show _∧_
 rw [s2,s3,s4] at g5
 rw [s1,s2] at g3
 rw [s3] at g4
 rw [s1] at g2
 rw [s4]
 exact ⟨⟨_,g5,rfl⟩,h _ g5 g3 g4 (AG g1) (AG g2) fun c o x=>Heap.get?_push_of_some _ (Heap.get?_push_of_some _ (Heap.get?_push_of_some _ (Heap.get?_push_of_some _ (Heap.get?_push_of_some _ x))))⟩
theorem wP {z TI TO i1 i2 l1 l2:Addr}{k:Nat}{xs ys:Array Value}{a b x y:Value}{c1 c2:Bool}{Q:Option Value→Shared→Prop} (D:sU z TI TO i1 i2) (n1:∀c,c=l1∨c=l2→c≠z∧c≠TO∧c≠i1∧c≠i2)
 (hz:IsZip s.heap z TI TO .none) (hTI:IsPair s.heap TI (.ref i1) (.ref i2)) (hTO:IsPair s.heap TO a b) (hh:A.handled=none)
 (h1:fN s.heap i1 l1 k c1) (h2:fN s.heap i2 l2 k c2) (q1:iq s.heap l1 xs c1) (q2:iq s.heap l2 ys c2) (hx:xs[k]?=some x) (hy:ys[k]?=some y)
 (hQ:∀h' tk,IsZip h' z TI TO (rawInt s.heap.objs.size)→IsPair h' TO x y→fN h' i1 l1 (k+1) c1→fN h' i2 l2 (k+1) c2→IsPair h' s.heap.objs.size x y→h'.objs.size=s.heap.objs.size+1→
  (∀c o,c≠z→c≠TO→c≠i1→c≠i2→s.heap.get? c=some o→h'.get? c=some o)→Q (some (.ref s.heap.objs.size)) { s with heap:=h',toks:=tk }) :
 wpAny (model prog w) A (pyNext (.ref z)) Q E s:=by
 have hT:s.TypeIs (.ref z) "zip" := ⟨_,hz,rfl⟩
 unfold pyNext
 exact wpAny_bind (wpAny_attempt (wpAny_callSpecial?_slot (name:=Str.ofString "__next__") hT F.slot_zip_next (wpAny_call_entry F.slot_zip_next hT F.entry_zip_next
  (FT D n1 hz hTI hTO hh h1 h2 q1 q2 hx hy fun h' tk a1 a2 a3 a4 a5 a6 a7=>wpAny_pure (hQ h' tk a1 a2 a3 a4 a5 a6 a7)) (F.args_zip_next_1 _))))
theorem xV {z TI TO i1 i2 l1 l2:Addr}{k:Nat}{xs ys:Array Value}{a b:Value}{c1 c2:Bool}{Q:Option Value→Shared→Prop} (hh:A.handled=none) (D:sU z TI TO i1 i2) (n1:∀c,c=l1∨c=l2→c≠z∧c≠TO∧c≠i1∧c≠i2)
 (hz:IsZip s.heap z TI TO .none) (hTI:IsPair s.heap TI (.ref i1) (.ref i2)) (hTO:IsPair s.heap TO a b)
 (h1:fN s.heap i1 l1 k c1) (h2:fN s.heap i2 l2 k c2) (q1:iq s.heap l1 xs c1) (q2:iq s.heap l2 ys c2) (hend:xs.size=k∨(k<xs.size∧ys.size=k))
 (hQ:∀h' tk,(∀c o,c≠z→c≠TO→c≠i1→c≠i2→s.heap.get? c=some o→h'.get? c=some o)→Q none { s with heap:=h',toks:=tk }):wpAny (model prog w) A (pyNext (.ref z)) Q E s:=by
 have hT:s.TypeIs (.ref z) "zip" := ⟨_,hz,rfl⟩
 unfold pyNext
 refine wpAny_bind (wpAny_attempt (wpAny_callSpecial?_slot (name:=Str.ofString "__next__") hT F.slot_zip_next (wpAny_call_entry F.slot_zip_next hT F.entry_zip_next
  (HX hh D n1 hz hTI hTO h1 h2 q1 q2 hend fun h' e tk hk he=>?_) (F.args_zip_next_1 _))))
 obtain ⟨o,ho,hc⟩:=he
 refine wpAny_bind (wpAny_isInstance (T := "StopIteration") (b:=true) ⟨o,ho,hc⟩ isSubtype_stop (wpAny_pure (hQ _ tk hk)))
end
theorem ag.turnedL {X:Cx}{pins:List (Addr×Obj)}{σ:St}{H:Hp}{s:Shared}{h':Heap}{t':Nat}{ch:List Addr} (I:ag X pins σ H s) (hf:∀b∈ch,jD X pins H b) (k:∀b u,b∉ch→s.heap.get? b=some u→h'.get? b=some u) :
 ag X pins σ H { s with heap:=h',toks:=t' }:=by
 refine I.step (g':=s.gens) (d':=s.drawn) (ch:=ch) (fun b hb=>?_) (fun b o _ _ hc e _=>k b o hc e) (fun b o _ _ hc e _=>⟨o.slots,k b o hc e⟩) (fun _ _ _ _ n=>n)
  (fun b o hc e=>⟨o,k b o hc e⟩) (fun _ _ e=>e) (fun _ _ _ e=>e) (fun b ps e=>⟨#[],by rw [e];simp⟩) (fun m hm=>?_) (fun b u e=>?_) I.bare
 ·obtain ⟨f0,f1,f2,f3,f4,f5⟩:=hf b hb
  exact ⟨f3,f1,f4,f5⟩
 ·obtain ⟨o,es,ep,ho,r⟩:=hm
  exact ⟨o,es,ep,k _ o (fun z=>(hf _ z).2.1 rfl) ho,r⟩
 ·refine (I.hok b u e).stay (fun c v hc q=>k c v (fun z=>?_) q) (fun _ q=>q) fun _ _ q=>q
  have hcn:=(hf c z).1
  rcases hc with rfl | hc
  ·rw [e] at hcn;cases hcn
  ·rw [hc] at hcn;cases hcn
def iV (K:PySem.W.Frag) (H:Hp) (a:Addr) (xs:List V):Bool→Prop
 | true=>ah K H a xs
 | false=>ad K H a xs
theorem ag.seqC {X:Cx}{pins:List (Addr×Obj)}{σ:St}{H:Hp}{s:Shared}{a:Addr}{xs:List V} (I:ag X pins σ H s):∀{c:Bool},iV X.K H a xs c→∃its:List Value,aL xs its∧iq s.heap a its.toArray c
 | true,q=>let ⟨its,rv,p,_⟩:=I.list q;⟨its,rv,p.isList⟩
 | false,q=>let ⟨its,rv,p,_⟩:=I.tuple q;⟨its,rv,p⟩
theorem ag.seqC_inj {X:Cx}{pins:List (Addr×Obj)}{σ:St}{H:Hp}{s:Shared}{a:Addr}{xs ys:List V} (I:ag X pins σ H s):∀{c:Bool},iV X.K H a xs c→iV X.K H a ys c→xs=ys
 | true,p,q=>I.list_inj p q
 | false,p,q=>I.tuple_inj p q
def yK (K:PySem.W.Frag) (a1 a2:Addr) (c1 c2:Bool):It:=
 ⟨fun i H=>xF fun xs ys x y=>iV K H a1 xs c1∧iV K H a2 ys c2∧xs[i]?=some x∧ys[i]?=some y,
  fun i H v H'=>fP fun T x y=>H T=none∧v=.ref T∧H'=aQ H T (.tup [x,y])∧(∀xs,iV K H a1 xs c1→xs[i]?=some x)∧(∀ys,iV K H a2 ys c2→ys[i]?=some y),
  fun i H=>bP fun xs ys=>iV K H a1 xs c1∧iV K H a2 ys c2∧(xs.length=i∨(i<xs.length∧ys.length=i))⟩
theorem DM {P:Program}{w:World}{K:PySem.W.Frag}{es:List Expr}{kk:Nat}{pos:Pos} (a1 a2 z TI TO i1 i2:Addr) (c1 c2:Bool) (D:sU z TI TO i1 i2) (n1:∀c,c=a1∨c=a2→c≠z∧c≠TO∧c≠i1∧c≠i2) :
 sM P w K (.Tuple es kk pos) (yK K a1 a2 c1 c2) [z,TO,i1,i2,TI] z (fun i h=>IsZip h z TI TO .none∧IsPair h TI (.ref i1) (.ref i2)∧(bP fun a b=>IsPair h TO a b)∧fN h i1 a1 i c1∧fN h i2 a2 i c2) where
 mem:=by simp
 obj:=fun i h st b hb=>by
  obtain ⟨hz,hTI,⟨a,b',hTO⟩,h1,h2⟩:=st
  have hb':b=z∨b=TO∨b=i1∨b=i2∨b=TI:=by simpa using hb
  rcases hb' with rfl | rfl | rfl | rfl | rfl
  ·exact ⟨_,hz,fun v q=>by have q':Data.fields _=Data.cell v:=q;cases q'⟩
  ·exact ⟨_,hTO,fun v q=>by have q':Data.seq _ _=Data.cell v:=q;cases q'⟩
  ·exact h1.some
  ·exact h2.some
  ·exact ⟨_,hTI,fun v q=>by have q':Data.seq _ _=Data.cell v:=q;cases q'⟩
 keep:=fun i h h' st k=>by
  obtain ⟨hz,hTI,⟨a,b',hTO⟩,h1,h2⟩:=st
  exact ⟨k z (by simp) _ hz,k TI (by simp) _ hTI,⟨a,b',k TO (by simp) _ hTO⟩,h1.at fun o q=>k i1 (by simp) o q,h2.at fun o q=>k i2 (by simp) o q⟩
 item:=by
  intro X hP hw hK hc i pins s σ H E I hf st hg
  subst hP hw hK
  obtain ⟨hz,hTI,⟨a,b',hTO⟩,h1,h2⟩:=st
  obtain ⟨xs,ys,x,y,p1,p2,hx,hy⟩:=hg
  obtain ⟨its1,rv1,k1⟩:=I.seqC p1
  obtain ⟨its2,rv2,k2⟩:=I.seqC p2
  obtain ⟨u,hu,ru⟩:=rv1.get hx
  obtain ⟨v,hv,rw'⟩:=rv2.get hy
  have hnT:H s.heap.objs.size=none:=I.fresh
  refine wP D n1 hz hTI hTO (I.ok.hd hc) h1 h2 k1 k2 (x:=u) (y:=v) (by simpa using hu) (by simpa using hv) fun h' tk zo TO' t1 t2 T' sz keep=>?_
  refine ⟨(),wpAny_letOwnedTupleGo_zip (s:={ s with heap:=h',toks:=tk }) zo fun h2' z2 s2=>?_⟩
  have zlt:z<s.heap.objs.size:=Heap.lt_size hz
  have TOlt:TO<s.heap.objs.size:=Heap.lt_size hTO
  have TIlt:TI<s.heap.objs.size:=Heap.lt_size hTI
  have i1lt:i1<s.heap.objs.size:=let ⟨_,e,_⟩:=h1.some;Heap.lt_size e
  have i2lt:i2<s.heap.objs.size:=let ⟨_,e,_⟩:=h2.some;Heap.lt_size e
  have hT2:h2'.get? s.heap.objs.size=some { cls:=.type "tuple",data:=.seq #[u,v] }:=(s2.2 _ (Nat.ne_of_gt zlt)).trans T'
  refine ⟨.ref s.heap.objs.size,aQ H s.heap.objs.size (.tup [x,y]),I.turnedNew (ch:=[z,TO,i1,i2,TI]) (t':=tk) hf (fun b o hb q=>?_) (Nat.le_refl _) ?_,rfl,
   ⟨_,x,y,hnT,rfl,rfl,fun zs hs=>by rw [I.seqC_inj hs p1];exact hx,fun zs hs=>by rw [I.seqC_inj hs p2];exact hy⟩,⟨z2,(s2.2 _ D.a1).trans (keep _ _ D.a1 D.a5 D.a6 D.a7 hTI),⟨_,_,(s2.2 _ D.a2).trans TO'⟩,t1.at fun o e=>(s2.2 _ D.a3).trans e,t2.at fun o e=>(s2.2 _ D.a4).trans e⟩,fun b hb=>?_⟩
  ·have e1:b≠z:=fun q=>hb (by simp [q])
   have e2:b≠TO:=fun q=>hb (by simp [q])
   have e3:b≠i1:=fun q=>hb (by simp [q])
   have e4:b≠i2:=fun q=>hb (by simp [q])
   exact (s2.2 b e1).trans (keep b o e1 e2 e3 e4 q)
  ·exact ⟨by show 2≤sizeLine;decide,[u,v],.cons ru (.cons rw' .nil),⟨_,hT2,rfl,()⟩,_,hT2,rfl⟩
  ·have hb':b=z∨b=TO∨b=i1∨b=i2∨b=TI:=by simpa using hb
   have hlt:b<s.heap.objs.size:=by rcases hb' with rfl | rfl | rfl | rfl | rfl <;> assumption
   rw [aG (Nat.ne_of_lt hlt)]
   exact (hf b hb).1
 done:=by
  intro X hP hw hK hc i pins s σ H E I hf st hg
  subst hP hw hK
  obtain ⟨hz,hTI,⟨a,b',hTO⟩,h1,h2⟩:=st
  obtain ⟨xs,ys,p1,p2,hl⟩:=hg
  obtain ⟨its1,rv1,k1⟩:=I.seqC p1
  obtain ⟨its2,rv2,k2⟩:=I.seqC p2
  have l1:=rv1.length
  have l2:=rv2.length
  refine xV (I.ok.hd hc) D n1 hz hTI hTO h1 h2 k1 k2 (by simp;trivial) fun h' tk keep=>⟨rfl,I.turnedL (ch:=[z,TO,i1,i2,TI]) (t':=tk) hf fun b o hb q=>?_⟩
  exact keep b o (fun q=>hb (by simp [q])) (fun q=>hb (by simp [q])) (fun q=>hb (by simp [q])) (fun q=>hb (by simp [q])) q
 self:=fun _ _ _ _ _ st h=>wpAny_pyIter_zip st.1 h
def Io (K:PySem.W.Frag) (ta:TA):TI:=fun σ H R=>ta σ H fun vs H1=>xF fun a1 a2 c1 c2=>vs=[.ref a1,.ref a2]∧(∃xs,iV K H1 a1 xs c1)∧(∃ys,iV K H1 a2 ys c2)∧R (yK K a1 a2 c1 c2) H1
theorem DP:bootBuiltins "zip" = some (.type "zip"):=by nofun
theorem Hh {X:Cx}{es:List Expr}{kk:Nat}{tp:Pos}{a b:Expr}{ta:TA}{p pos:Pos} (hg:Gl X "zip") (hm:X.mg "zip" = none) (ha:PA X [a,b] ta) (hs:starEach [a,b] X.env=[(false,eval a X.env),(false,eval b X.env)]:=by rfl) (hs2:starEach [b] X.env=[(false,eval b X.env)]:=by rfl) :
 PI X (.Tuple es kk tp) (.Call (.Name "zip" p) [a,b] [] pos) (Io X.K ta):=by
 intro pins s σ H R I h
 refine Call_ (nh I hg hm DP (PyProof.Rows.callWith_type1 (aS (ha pos pins s σ H _ I h) fun us s1 ⟨vs,H1,I1,r1,q1⟩=>?_) (by rw [hs,hs2]) (by rw [hs2];rfl)))
 obtain ⟨a1,a2,c1,c2,rfl,⟨xs,p1⟩,⟨ys,p2⟩,q⟩:=q1
 obtain ⟨u1,u2,rfl,ru1,ru2⟩:=r1.two
 obtain rfl:u1=.ref a1:=ru1
 obtain rfl:u2=.ref a2:=ru2
 obtain ⟨its1,rv1,k1⟩:=I1.seqC p1
 obtain ⟨its2,rv2,k2⟩:=I1.seqC p2
 have d1:=k1.lt
 have d2:=k2.lt
 refine Cl k1 k2 fun h' hz hTI hTO t1 t2 hk=>wpAny_pyIter_zip hz ?_
 have I2:ag X pins σ H1 { s1 with heap:=h',toks:=s1.toks }:=I1.kept hk
 refine ⟨s1.heap.objs.size+4,[s1.heap.objs.size+4,s1.heap.objs.size+3,s1.heap.objs.size,s1.heap.objs.size+1,s1.heap.objs.size+2],_,_,H1,rfl,I2,DM a1 a2 (s1.heap.objs.size+4) (s1.heap.objs.size+2) (s1.heap.objs.size+3) s1.heap.objs.size (s1.heap.objs.size+1) c1 c2
  ⟨by simp,by simp,Nat.ne_of_lt (by simp),by simp,by simp,Nat.ne_of_gt (by simp),by simp,Nat.ne_of_gt (by simp),by simp,Nat.ne_of_lt (by simp)⟩ (fun c hc=>?_),⟨hz,hTI,⟨_,_,hTO⟩,t1,t2⟩,fun b hb=>?_,q⟩
 ·have:c<s1.heap.objs.size:=by rcases hc with rfl | rfl <;> assumption
  exact ⟨Nat.ne_of_lt (Nat.lt_of_lt_of_le this (Nat.le_add_right _ _)),Nat.ne_of_lt (Nat.lt_of_lt_of_le this (Nat.le_add_right _ _)),Nat.ne_of_lt this,Nat.ne_of_lt (Nat.lt_of_lt_of_le this (Nat.le_add_right _ _))⟩
 ·have hb':b=s1.heap.objs.size+4∨b=s1.heap.objs.size+3∨b=s1.heap.objs.size∨b=s1.heap.objs.size+1∨b=s1.heap.objs.size+2:=by simpa using hb
  have hle:s1.heap.objs.size≤b:=by rcases hb' with rfl | rfl | rfl | rfl | rfl <;> trivial
  exact I1.fpOk hle (I1.hok.fresh hle)
def rW:PyData→Bool
 | .list _=>true
 | .tuple _=>true
 | _=>false
theorem iQ {K:PySem.W.Frag} (d:PyData):PySem.W.kitAny K (.type (zF d)) [.type "list",.type "tuple"]=some (rW d):=by
 unfold PySem.W.kitAny PySem.W.kitAny PySem.W.kitAny
 rw [kX,jE]
 cases d <;> rfl
inductive GL (K:PySem.W.Frag) (xs:List V) (H:Hp) (Q:VK):Prop
 | mk (x:V) (p:Addr) (d:PyData) (E:Addr→Prop) (h0:xs=[x,.ref p]) (h1:aK E H x d) (h2:ad K H p [.ty "list",.ty "tuple"]) (h3:Q (.bl (rW d)) H)
def E3 (K:PySem.W.Frag):List V→Hp→VK→Prop:=fun xs H Q=>GL K xs H Q
section
variable {X:Cx}{K:PySem.W.Frag}
theorem zl:d8 X (.builtin "isinstance") (E3 X.K):=by
 intro pins s σ H xs us Q I r h
 obtain ⟨x,p,d,E,rfl,hx,hp,q⟩:=h
 obtain ⟨u,c,rfl,ru,rc⟩:=r.two
 obtain rfl:c=Value.ref p:=rc
 obtain ⟨its,rv,⟨o,e1,e2,n,e3⟩,_⟩:=I.tuple hp
 obtain ⟨u1,u2,rfl,r1,r2⟩:=rv.two
 obtain rfl:u1=Value.type "list" := r1
 obtain rfl:u2=Value.type "tuple" := r2
 have q':∀tk,EP X pins σ Q (.bool (rW d)) { s with toks:=tk }:=fun tk=>⟨.bl _,H,I.tok tk,rfl,q⟩
 obtain ⟨oc,od,odt,osl⟩:=o
 dsimp only at e2 e3
 subst e2 e3
 cases hx with
 | non=>cases (show u=Value.none from ru);exact PySem.W.kia_tup PySem.W.kitx_none I.kIn True.intro e1 (iQ .none) (fun z=>nomatch z) q'
 | bl y=>cases (show u=Value.bool y from ru);exact PySem.W.kia_tup PySem.W.kitx_bool I.kIn True.intro e1 (iQ (.bool y)) (fun z=>nomatch z) q'
 | int i=>obtain ⟨t,w⟩:=(show ∃t,u=Value.int i t from ru);cases w;exact PySem.W.kia_tup PySem.W.kitx_int I.kIn True.intro e1 (iQ (.int i)) (fun z=>nomatch z) q'
 | str y=>obtain ⟨t,w⟩:=(show ∃t,u=Value.str y t from ru);cases w;exact PySem.W.kia_tup PySem.W.kitx_str I.kIn True.intro e1 (iQ (.str y)) (fun z=>nomatch z) q'
 | @lst a xs ds ea _ _=>
  cases (show u=Value.ref a from ru)
  obtain ⟨_,_,m,_,h1⟩:=(show bU X.prog X.w H s.heap a (.lst xs) from I.hok a _ ea)
  exact PySem.W.kia_tup PySem.W.kitx_list I.kIn ⟨_,h1,rfl⟩ e1 (iQ (.list ds)) (fun z=>nomatch z) q'
 | @tup a xs ds ea _=>
  cases (show u=Value.ref a from ru)
  obtain ⟨_,_,_,p,_⟩:=(show bU X.prog X.w H s.heap a (.tup xs) from I.hok a _ ea)
  obtain ⟨o,h1,h2,_⟩:=p
  exact PySem.W.kia_tup PySem.W.kitx_tuple I.kIn ⟨o,h1,h2⟩ e1 (iQ (.tuple ds)) (fun z=>nomatch z) q'
theorem BS (e:X.K=K:=by rfl):d8 X (.builtin "isinstance") (E3 K):=by subst e;exact zl
end
def Sz (m:Nat) (i:Int):Prop:=i.natAbs<2 ^ m
theorem Sz.mono {m n:Nat}{i:Int} (h:Sz m i) (k:m≤n):Sz n i:=Nat.lt_of_lt_of_le h (Nat.pow_le_pow_right (by decide) k)
theorem Sz.mul {m n:Nat}{i j:Int} (h:Sz m i) (k:Sz n j):Sz (m+n) (i*j):=by
 unfold Sz at *
 rw [Int.natAbs_mul,Nat.pow_add]
 exact Nat.mul_lt_mul'' h k
theorem Sz.add {m:Nat}{i j:Int} (h:Sz m i) (k:Sz m j):Sz (m+1) (i+j):=by
 unfold Sz at *
 rw [Nat.pow_succ]
 trivial
theorem Sz.sub {m:Nat}{i j:Int} (h:Sz m i) (k:Sz m j):Sz (m+1) (i - j):=by
 unfold Sz at *
 rw [Nat.pow_succ]
 trivial
theorem Sz.neg {m:Nat}{i:Int} (h:Sz m i):Sz m (-i):=by
 unfold Sz at *
 trivial
theorem Sz.le {m:Nat}{i j:Int} (h:Sz m j) (k:i.natAbs≤j.natAbs):Sz m i:=Nat.lt_of_le_of_lt k h
theorem Sz.log {m:Nat}{i:Int} (h:Sz m i) (h0:i≠0):i.natAbs.log2<m:=(Nat.log2_lt (by trivial)).mpr h
theorem Sz.bits {m:Nat}{i:Int} (h:Sz m i):Builtin.Int.intBits i≤m:=by
 unfold Builtin.Int.intBits
 by_cases h0:i=0
 ·subst h0;exact Nat.zero_le _
 ·have:=h.log h0
  rw [if_neg (by simpa using h0)]
  trivial
def EW (i j:Int):Prop:=bP fun m n=>Sz m i∧Sz n j∧m+n≤134217728
section
variable {X:Cx}
theorem cJ:cU X (binaryOp .Mult) (rI EW fun i j=>.int (i*j)):=xA fun _ _ _ _ _ _ _ hc q=>by
 obtain ⟨m,n,h1,h2,h3⟩:=hc
 exact mul_int q (PyProof.Rows.mulOk_of_bits h1.bits h2.bits h3)
def Bs (_ j:Int):Prop:=j≠0∧Sz 9000 j
theorem zu:cU X (binaryOp .FloorDiv) (rI Bs fun i j=>.int (i.fdiv j)):=xA fun i j _ _ _ _ _ hc q=>
 floordiv_int hc.1 q (.inl (PyProof.noPylong_of_log2 (hc.2.log hc.1)))
end
theorem mF {K:PySem.W.Frag}{a1 a2:Addr}{c1 c2:Bool}{xs ys:List V}{n:Nat}{g:TG}{tb:TS}{D:fW}{σ:St}{H:Hp} (Pv:Nat→St→Hp→Prop) (hn:n=min xs.length ys.length) (h0:Pv 0 σ H) (hl:∀i σ H,i≤n→Pv i σ H→iV K H a1 xs c1∧iV K H a2 ys c2)
 (hs:∀i x y T σ H,xs[i]?=some x→ys[i]?=some y→H T=none→Pv i σ H→g (.ref T) σ (aQ H T (.tup [x,y])) fun σ2 H2=>tb { D with nx:=Pv (i+1),ct:=Pv (i+1),bk:=D.nx } σ2 H2) (hd:∀σ H,Pv n σ H→D.nx σ H) :
 ∃W:Nat→Nat→St→Hp→Prop,(∃m,W 0 m σ H)∧∀i m σ H,W i m σ H→
  ((yK K a1 a2 c1 c2).stop i H∧D.nx σ H)∨((yK K a1 a2 c1 c2).go i H∧∃N:St→Hp→Prop,(∀σ' H',N σ' H'→∃m',m'<m∧W (i+1) m' σ' H')∧∀x H',(yK K a1 a2 c1 c2).yld i H x H'→g x σ H' fun σ2 H2=>tb { D with nx:=N,ct:=N,bk:=D.nx } σ2 H2):=by
 refine ⟨fun i m σ H=>m=n - i∧i≤n∧Pv i σ H,⟨n,by simp,Nat.zero_le _,h0⟩,?_⟩
 rintro i m σ H ⟨rfl,hi,p⟩
 obtain ⟨q1,q2⟩:=hl i σ H hi p
 by_cases hlt:i<n
 ·have l1:i<xs.length:=by trivial
  have l2:i<ys.length:=by trivial
  refine .inr ⟨⟨xs,ys,xs[i],ys[i],q1,q2,by simp [l1],by simp [l2]⟩,Pv (i+1),fun σ' H' p'=>⟨n - (i+1),by trivial,rfl,hlt,p'⟩,fun x H' y=>?_⟩
  obtain ⟨T,u,v,hT,rfl,rfl,e1,e2⟩:=y
  exact hs i u v T σ H (e1 xs q1) (e2 ys q2) hT p
 ·have e:i=n:=by trivial
  subst e
  refine .inl ⟨⟨xs,ys,q1,q2,?_⟩,hd _ _ p⟩
  trivial
theorem di {H H':Hp}{D:Addr}{o:HO} (hD:H D=none) (k:aa H H'):aa H (aQ H' D o):=fun b u e=>by
 rw [aG (aY e hD)];exact k b u e
theorem au.nth {E:Addr→Prop}{H:Hp}{vs:List V}{ds:List PyData} (r:au E H vs ds) (i:Nat) {v:V}{d:PyData} (hv:vs[i]?=some v) (hd:ds[i]?=some d):aK E H v d:=by
 obtain ⟨d',e,h⟩:=r.get hv
 rw [hd] at e
 cases e
 exact h
theorem af.weak {E:Addr→Prop}{b:Addr}{H H':Hp} (hE:E b) (s:af (Eb b) H H'):af E H H':=⟨fun a o n h=>s.old a o (fun z=>n (by rw [z];exact hE)) h,s.tup⟩
theorem af.free {b p:Addr}{H H9:Hp}{t9:Int} (s:af (Eb b) H H9) (B:Bx H9 b t9) (h:H9 p=none):H p=none:=by
 cases e:H p with
 | none=>rfl
 | some o=>
  by_cases hb:p=b
  ·obtain ⟨c,x,eb,_⟩:=B
   rw [←hb,h] at eb;cases eb
  ·rw [s.old p o hb e] at h;cases h
mutual
theorem aK.narrow {E F:Addr→Prop}{H:Hp} (k:∀a,F a→E a):∀{v:V}{d:PyData},aK E H v d→aK F H v d
 | _,_,.non=>.non
 | _,_,.bl b=>.bl b
 | _,_,.int i=>.int i
 | _,_,.str x=>.str x
 | _,_,.lst h ne r=>.lst h (fun z=>ne (k _ z)) (au.narrow k r)
 | _,_,.tup h r=>.tup h (au.narrow k r)
theorem au.narrow {E F:Addr→Prop}{H:Hp} (k:∀a,F a→E a):∀{vs:List V}{ds:List PyData},au E H vs ds→au F H vs ds
 | _,_,.nil=>.nil
 | _,_,.cons h r=>.cons (aK.narrow k h) (au.narrow k r)
end
abbrev fr (z:Int×Int):HO:=.tup [.int z.1,.int z.2]
abbrev Lf (n1 d1 n2 d2:Int):Int:=n1*d2+n2*d1
abbrev Kv (n1 d1 n2 d2:Int):Int:=n1*d2 - n2*d1
abbrev Ks (n1 _ n2 _:Int):Int:=n1*n2
abbrev Dv (_ d1 _ d2:Int):Int:=d1*d2
def uN (i j:Int):Int:=if i<j then -1 else if j<i then 1 else 0
inductive HH (vs:List V) (H:Hp) (Q:VK):Prop
 | mk (a b:Addr) (n1 d1 n2 d2:Int) (h0:vs=[.ref a,.ref b]) (h1:H a=some (.tup [.int n1,.int d1])) (h2:H b=some (.tup [.int n2,.int d2])) (h3:Sz 4000 n1) (h4:Sz 4000 d1) (h5:Sz 4000 n2) (h6:Sz 4000 d2) (h7:Q (.int (uN (n1*d2) (n2*d1))) H)
def JY:Sp:=fun vs H Q _=>HH  vs H Q
theorem hW {i j:Int} (h1:Sz 4000 i) (h2:Sz 4000 j):EW i j:=⟨4000,4000,h1,h2,by decide⟩
theorem ve {i j:Int} (h1:Sz 4000 i) (h2:Sz 4000 j):Sz 9000 (i*j):=(h1.mul h2).mono (by decide)
theorem Kn {n d:Int} (hd:d≠0) (h:Sz 9000 d):Sz 9000 ((Int.gcd n d:Nat):Int):=h.le (by
 rw [Int.natAbs_natCast]
 exact Nat.le_of_dvd (by trivial) (Int.ofNat_dvd_left.mp (Int.gcd_dvd_right ..)))
structure Fb (b:Nat) (n d:Int):Prop where
 sn:Sz b n
 sd:Sz b d
 pos:1≤d
 co:Int.gcd n d=1
theorem Fb.mono {b c:Nat}{n d:Int} (h:Fb b n d) (k:b≤c):Fb c n d:=⟨h.sn.mono k,h.sd.mono k,h.pos,h.co⟩
theorem Fb.low {b:Nat}{n d:Int} (h1:Sz b n) (h2:Sz b d) (hd:d≠0):Fb b (KM.low n d).1 (KM.low n d).2:=by
 obtain ⟨a,_,c,e,f⟩:=KM.low_spec n d hd
 exact ⟨h1.le e,h2.le f,a,c⟩
structure Nw (H:Hp) (p:Addr) (o:HO) (H':Hp):Prop where
 fr:H p=none
 sm:aa H H'
 at':H' p=some o
theorem Nw.mk' {H:Hp}{p:Addr}{o:HO} (h:H p=none):Nw H p o (aQ H p o):=⟨h,aa.new h,aE⟩
section
variable {X:Cx}{es:List Expr}{t:TA}{pos:Pos}{K:PySem.W.Frag}
def Jn (t:TA):TE:=fun σ H Q=>t σ H fun xs H1=>xs.length≤10000∧∀p H',Nw H1 p (.tup xs) H'→Q (.ref p) H'
def JT (t:TA):TE:=fun σ H Q=>t σ H fun xs H1=>xs.length≤10000∧∀p H',Nw H1 p (.lst xs) H'→Q (.ref p) H'
theorem fA {n:Nat} (h:n≤10000):n≤sizeLine:=by rw [sizeLine_eq];trivial
theorem aD {x1} (h:PA X es t):PE X (.Tuple es x1 pos) (Jn t):=by
 intro pins s σ H Q I hq
 refine wpAny_Tuple_spliced (aS (h pos pins s σ H _ I hq) fun us s1 ⟨xs,H1,I1,r,z',q⟩=>⟨by rw [←r.length];exact fA z',?_⟩)
 have z:=fA z'
 have hf:H1 s1.heap.objs.size=none:=I1.hok.fresh (Nat.le_refl _)
 refine ⟨.ref s1.heap.objs.size,aQ H1 s1.heap.objs.size (.tup xs),I1.laid (t':=s1.toks) (fun b u e=>Heap.get?_push_of_some _ e) (Nat.le_refl _) ?_,rfl,q _ _ (.mk' hf)⟩
 exact ⟨z,us,r,⟨_,Heap.get?_push_size _ rfl,rfl,()⟩,_,Heap.get?_push_size _ rfl,rfl⟩
theorem bG (h:PA X es t):PE X (.List es pos) (JT t):=by
 intro pins s σ H Q I hq
 refine wpAny_List_spliced (aS (h pos pins s σ H _ I hq) fun us s1 ⟨xs,H1,I1,r,z',q⟩=>⟨by rw [←r.length];exact fA z',?_⟩)
 have z:=fA z'
 have hf:H1 s1.heap.objs.size=none:=I1.hok.fresh (Nat.le_refl _)
 refine ⟨.ref s1.heap.objs.size,aQ H1 s1.heap.objs.size (.lst xs),I1.laid (t':=s1.toks) (fun b u e=>Heap.get?_push_of_some _ e) (Nat.le_refl _) ?_,rfl,q _ _ (.mk' hf)⟩
 exact ⟨z,us,0,r,Heap.get?_push_size _ rfl⟩
inductive Hv (x:V) (y:V) (H:Hp) (Q:VK):Prop
 | mk (l:_) (b:_) (xs:_) (zs:_) (h0:x=.ref l) (h1:y=.ref b) (h2:H l=some (.lst xs)) (h3:H b=some (.lst zs)) (h4:xs.length+zs.length≤10000) (h5:∀p H',Nw H p (.lst (xs++zs)) H'→Q (.ref p) H')
def IX:R2:=fun x y H Q=>Hv  x y H Q
theorem E7:cU X (binaryOp .Add) IX:=fun pins s σ H x y v u Q I rx ry ⟨l,b,xs,zs,e1,e2,h1,h2,hz,q⟩=>
 Iw pins s σ H x y v u Q I rx ry ⟨l,b,xs,zs,e1,e2,h1,h2,fA hz,fun p hp=>q p _ (.mk' hp)⟩
inductive Jp (K:PySem.W.Frag) (x:V) (lo:Option Int) (hi:Option Int) (H:Hp) (Q:VK):Prop
 | mk (a:_) (xs:_) (h0:x=.ref a) (h1:ah K H a xs) (h2:∀p H',Nw H p (.lst (eX xs lo hi)) H'→Q (.ref p) H')
def KL (K:PySem.W.Frag):V→Option Int→Option Int→Hp→VK→Prop:=fun x lo hi H Q=>Jp K x lo hi H Q
theorem qH (e:X.K=K:=by rfl):zh X (KL K):=by
 subst e
 exact fun pins s σ H x v vl vu lo hi sl Q I rx hs pl pu ⟨a,xs,e,h,q⟩=>Gp pins s σ H x v vl vu lo hi sl Q I rx hs pl pu ⟨a,xs,e,h,fun p hp=>q p _ (.mk' hp)⟩
inductive Ie (x:V) (y:V) (H:Hp) (Q:VK):Prop
 | mk (l:_) (k:_) (xs:_) (h0:x=.ref l) (h1:y=.int k) (h2:H l=some (.lst xs)) (h3:-(2 ^ 63)≤k) (h4:k<2 ^ 63) (h5:xs.length*k.toNat≤10000) (h6:∀p H',Nw H p (.lst (List.replicate k.toNat xs).flatten) H'→Q (.ref p) H')
def Jz:R2:=fun x y H Q=>Ie  x y H Q
theorem FI:cU X (binaryOp .Mult) Jz:=fun pins s σ H x y v u Q I rx ry ⟨l,k,xs,e1,e2,h1,h2,h3,hz,q⟩=>
 GG pins s σ H x y v u Q I rx ry ⟨l,k,xs,e1,e2,h1,h2,h3,fA hz,fun p hp=>q p _ (.mk' hp)⟩
inductive FP (K:PySem.W.Frag) (xs:List V) (H:Hp) (Q:VK):Prop
 | mk (p:_) (ys:_) (h0:xs=[.ref p]) (h1:(ah K H p ys∨ad K H p ys)) (h2:∀l H',Nw H l (.lst ys) H'→Q (.ref l) H')
def GT (K:PySem.W.Frag):List V→Hp→VK→Prop:=fun xs H Q=>FP K xs H Q
theorem eY (e:X.K=K:=by rfl):d8 X (.type "list") (GT K):=by
 subst e
 exact fun pins s σ H xs us Q I r ⟨p,ys,e,h,q⟩=>y9 pins s σ H xs us Q I r ⟨p,ys,e,h,fun l hl=>q l _ (.mk' hl)⟩
inductive Ek (K:PySem.W.Frag) (xs:List V) (H:Hp) (Q:VK):Prop
 | mk (p:_) (ys:_) (h0:xs=[.ref p]) (h1:ah K H p ys) (h2:∀l H',Nw H l (.tup ys) H'→Q (.ref l) H')
def FD (K:PySem.W.Frag):List V→Hp→VK→Prop:=fun xs H Q=>Ek K xs H Q
theorem dO (e:X.K=K:=by rfl):d8 X (.type "tuple") (FD K):=by
 subst e
 exact fun pins s σ H xs us Q I r ⟨p,ys,e,h,q⟩=>xS pins s σ H xs us Q I r ⟨p,ys,e,.inl ⟨h,fun l hl=>q l _ (.mk' hl)⟩⟩
end
structure Ch (H:Hp) (p:Addr) (xs:List V) (H':Hp):Prop where
 at':H' p=some (.lst xs)
 ol:∀a o,a≠p→H a=some o→H' a=some o
 fre:∀a,a≠p→H a=none→H' a=none
theorem Ch.mk' {H:Hp}{p:Addr}{xs:List V}:Ch H p xs (aQ H p (.lst xs)):=⟨aE,fun a o n h=>by rw [aG n];exact h,fun a n h=>by rw [aG n];exact h⟩
theorem Ch.tup {H H':Hp}{p a:Addr}{xs ys zs:List V} (c:Ch H p xs H') (h:H a=some (.tup ys)) (hp:H p=some (.lst zs)):H' a=some (.tup ys):=c.ol a _ (gn h hp (by intro z;cases z)) h
section
variable {X:Cx}
inductive HF (o:V) (i:V) (v:V) (H:Hp) (Q:(Hp→Prop)):Prop
 | mk (p:_) (xs:_) (k:_) (j:_) (h0:o=.ref p) (h1:i=.int k) (h2:H p=some (.lst xs)) (h3:sf xs.length k=some j) (h4:∀H',Ch H p (xs.set j v) H'→Q H')
def Jt:V→V→V→Hp→(Hp→Prop)→Prop:=fun o i v H Q=>HF  o i v H Q
theorem xm:A9 X Jt:=fun pins s σ H o i v ov iv u Q I ro ri rv ⟨p,xs,k,j,e1,e2,h,hj,q⟩=>uz pins s σ H o i v ov iv u Q I ro ri rv ⟨p,xs,k,j,e1,e2,h,hj,q _ .mk'⟩
inductive Ih (x:V) (vs:List V) (H:Hp) (Q:VK):Prop
 | mk (l:_) (xs:_) (y:_) (h0:x=.ref l) (h1:vs=[y]) (h2:H l=some (.lst xs)) (h3:xs.length≤10000) (h4:∀H',Ch H l (xs++[y]) H'→Q .non H')
def IY:V→List V→Hp→VK→Prop:=fun x vs H Q=>Ih  x vs H Q
theorem eh:yv X "list.append" IY:=fun pins s σ H x vs v us Q I rx rv ⟨l,xs,y,e1,e2,h,hz,q⟩=>sN pins s σ H x vs v us Q I rx rv ⟨l,xs,y,e1,e2,h,(by rw [sizeLine_eq];trivial),q _ .mk'⟩
end
inductive Fx (vs:List V) (H:Hp) (Q:VK):Prop
 | mk (n d:Int) (h0:vs=[.int n,.int d]) (h1:d≠0) (h2:Sz 9000 d) (h3:∀p H',Nw H p (fr (KM.low n d)) H'→Q (.ref p) H')
def Is:Sp:=fun vs H Q _=>Fx  vs H Q
inductive Fh (num den:Int→Int→Int→Int→Int) (vs:List V) (H:Hp) (Q:VK):Prop
 | mk (a b:Addr) (n1 d1 n2 d2:Int) (h0:vs=[.ref a,.ref b]) (h1:H a=some (.tup [.int n1,.int d1])) (h2:H b=some (.tup [.int n2,.int d2])) (h3:(Sz 4000 n1∧Sz 4000 d1∧Sz 4000 n2∧Sz 4000 d2∧den n1 d1 n2 d2≠0)) (h4:∀p H',Nw H p (fr (KM.low (num n1 d1 n2 d2) (den n1 d1 n2 d2))) H'→Q (.ref p) H')
def zd (num den:Int→Int→Int→Int→Int):Sp:=fun vs H Q _=>Fh num den vs H Q
theorem Fb.small {b:Nat}{n d:Int} (h1:n.natAbs<2 ^ b) (h2:d.natAbs<2 ^ b) (h3:1≤d) (h4:Int.gcd n d=1):Fb b n d:=⟨h1,h2,h3,h4⟩
theorem Bx.ch {H H':Hp}{b p:Addr}{t:Int}{xs:List V} (h:Bx H b t) (k:Ch H p xs H') (ne:b≠p):Bx H' b t:=by
 obtain ⟨c,x,e,q,q2,q3⟩:=h
 exact ⟨c,x,k.ol b _ ne e,q,q2,q3⟩
theorem Bx.ne {H:Hp}{b p:Addr}{t:Int} (h:Bx H b t) (hp:H p=none):b≠p:=fun z=>by
 obtain ⟨c,x,e,_⟩:=h
 rw [z,hp] at e;cases e
section
variable {X:Cx}{e:Expr}{te:TE}{st:Expr}{ts:TO}{p2 pos:Pos}{K:PySem.W.Frag}
theorem aL.rev {xs:List V}{us:List Value} (h:aL xs us):aL xs.reverse us.reverse:=by
 induction h with
 | nil=>exact .nil
 | cons h _ ih=>rw [List.reverse_cons,List.reverse_cons];exact ih.append (.cons h .nil)
end
inductive FL (c:Nat) (H:Hp):List V→List KM.Fra→Prop
 | nil:FL c H [] []
 | cons {o:Addr}{p:KM.Fra}{xs:List V}{ps:List KM.Fra} (h:H o=some (fr p)) (f:Fb c p.1 p.2) (r:FL c H xs ps):FL c H (.ref o :: xs) (p :: ps)
theorem FL.tup {c:Nat}{H H':Hp}{xs:List V}{ps:List KM.Fra} (r:FL c H xs ps) (k:∀a xs,H a=some (.tup xs)→H' a=some (.tup xs)):FL c H' xs ps:=by
 induction r with
 | nil=>exact .nil
 | cons h f _ ih=>exact .cons (k _ _ h) f ih
theorem FL.sm {c:Nat}{H H':Hp}{xs:List V}{ps:List KM.Fra} (r:FL c H xs ps) (k:aa H H'):FL c H' xs ps:=r.tup fun _ _ e=>k _ _ e
theorem FL.length {c:Nat}{H:Hp}{xs:List V}{ps:List KM.Fra} (r:FL c H xs ps):xs.length=ps.length:=by
 induction r with
 | nil=>rfl
 | cons _ _ _ ih=>simp [ih]
theorem FL.get {c:Nat}{H:Hp}{xs:List V}{ps:List KM.Fra} (r:FL c H xs ps):∀{i:Nat}{v:V},xs[i]?=some v→bP fun o p=>v=.ref o∧ps[i]?=some p∧H o=some (fr p)∧Fb c p.1 p.2:=by
 induction r with
 | nil=>intro i v h;simp at h
 | @cons o p xs ps h f r ih=>
  intro i v hv
  cases i with
  | zero=>simp at hv;exact ⟨o,p,hv.symm,rfl,h,f⟩
  | succ i=>simp at hv;simpa using ih hv
theorem FL.append {c:Nat}{H:Hp}{xs ys:List V}{ps qs:List KM.Fra} (r:FL c H xs ps) (q:FL c H ys qs):FL c H (xs++ys) (ps++qs):=by
 induction r with
 | nil=>exact q
 | cons h f _ ih=>exact .cons h f ih
theorem Fb.add' {b c e:Nat}{n1 d1 n2 d2:Int} (h1:Fb b n1 d1) (h2:Fb c n2 d2) (hc:b+c+1≤e):Fb e (KM.low (n1*d2+n2*d1) (d1*d2)).1 (KM.low (n1*d2+n2*d1) (d1*d2)).2:=
 .low (((h1.sn.mul h2.sd).add ((h2.sn.mul h1.sd).mono (by trivial))).mono (by trivial)) ((h1.sd.mul h2.sd).mono (by trivial)) (Int.mul_ne_zero (by have:=h1.pos;trivial) (by have:=h2.pos;trivial))
theorem xk {b c:Nat}{n1 d1 n2 d2:Int} (h1:Fb b n1 d1) (h2:Fb c n2 d2) (hb:b≤4000) (hc:c≤4000):Sz 4000 n1∧Sz 4000 d1∧Sz 4000 n2∧Sz 4000 d2∧d1*d2≠0:=
 ⟨h1.sn.mono hb,h1.sd.mono hb,h2.sn.mono hc,h2.sd.mono hc,Int.mul_ne_zero (by have:=h1.pos;trivial) (by have:=h2.pos;trivial)⟩
theorem E2 {α:Type}{ps:List α}{i:Nat}{p:α} (h:ps[i]?=some p):ps.take (i+1)=ps.take i++[p]:=by rw [List.take_add_one,h];rfl
theorem qr (p:KM.Fra) (ps:List KM.Fra):KM.sumF (ps++[p])=KM.ladd (KM.sumF ps) p:=by
 unfold KM.sumF
 rw [List.foldl_append]
 rfl
theorem Dg:Fb 1 0 1:=Fb.small (by decide) (by decide) (by decide) (by decide)
def S (l:List Nat):Str:=⟨l.toArray⟩
theorem EQ {a b:List Nat} (h:S a=S b):a=b:=by
 have:a.toArray=b.toArray:=by injection h
 simpa using this
theorem vc (a b:List Nat):S a++S b=S (a++b):=by
 show (⟨a.toArray++b.toArray⟩:Str)=⟨(a++b).toArray⟩
 simp
theorem qF (a:List Nat):(S a).length=a.length:=by
 show a.toArray.size=_
 simp
theorem vB (a:List Nat):(S a).cps.toList=a:=rfl
theorem Cp (k:Nat) (l:List Nat):∀acc:List Nat,(List.replicate k l.toArray).foldl (·++·) acc.toArray=(acc++(List.replicate k l).flatten).toArray:=by
 induction k with
 | zero=>intro acc;simp
 | succ k ih=>
  intro acc
  rw [List.replicate_succ,List.foldl_cons,List.replicate_succ,List.flatten_cons]
  have:acc.toArray++l.toArray=(acc++l).toArray:=by simp
  rw [this,ih,List.append_assoc]
theorem xN:∀ls:List (List Nat),Str.join (S []) (ls.map S)=S ls.flatten
 | []=>rfl
 | [a]=>by
  show S a=S (a++[])
  rw [List.append_nil]
 | a :: b :: r=>by
  have e:Str.join (S []) ((a :: b :: r).map S)=S a++S []++Str.join (S []) ((b :: r).map S):=rfl
  rw [e,xN (b :: r),vc,vc,List.append_nil]
  rfl
section
variable {X:Cx}{K:PySem.W.Frag}
inductive Hu (x:V) (y:V) (H:Hp) (Q:VK):Prop
 | mk (l:_) (n:_) (h0:x=.str (S l)) (h1:y=.int n) (h2:1≤n) (h3:n≤1000) (h4:l.length≤100) (h5:Q (.str (S (List.replicate n.toNat l).flatten)) H)
def JJ:R2:=fun x y H Q=>Hu  x y H Q
theorem Fk:cU X (binaryOp .Mult) JJ:=by
 intro pins s σ H x y v u Q I rx ry h
 obtain ⟨l,n,rfl,rfl,h1,h2,h3,q⟩:=h
 obtain ⟨t,rfl⟩:=rx
 obtain ⟨t',rfl⟩:=ry
 have hlen:(S l).length=l.length:=qF l
 have hmul:l.length*n.toNat≤100*1000:=Nat.mul_le_mul h3 (by trivial)
 refine PySem.P.mul_str ?_ ?_ ?_ ?_
 ·rw [decide_eq_false (by trivial),decide_eq_false (by trivial)];rfl
 ·intro _ _
  rw [hlen]
  have:(100:Int)<(2 ^ 63 - 1) / n:=by
   have:(100+1)*n≤2 ^ 63 - 1:=by trivial
   have:=(Int.le_ediv_iff_mul_le (by trivial:0<n)).mpr this
   trivial
  trivial
 ·intro _ _
  rw [hlen]
  unfold Builtin.Str.tooLong
  rw [decide_eq_false]
  rw [sizeLine_eq]
  trivial
 ·rw [if_neg (by trivial)]
  by_cases hn:(n==1 || (S l).length==0)=true
  ·rw [if_pos hn]
   refine ⟨.str (S l),H,I,⟨t,rfl⟩,?_⟩
   have e:(List.replicate n.toNat l).flatten=l:=by
    rw [hlen] at hn
    have hn':n=1∨l.length=0:=by simpa using hn
    rcases hn' with rfl | hn'
    ·simp
    ·have:l=[]:=List.eq_nil_of_length_eq_zero hn'
     subst this
     simp
   rw [e] at q
   exact q
  ·rw [if_neg hn]
   have e:(⟨(List.replicate n.toNat (S l).cps).foldl (·++·) #[]⟩:Str)=S (List.replicate n.toNat l).flatten:=by
    have e:=Cp n.toNat l []
    rw [List.nil_append] at e
    exact congrArg Str.mk e
   rw [e]
   refine ⟨?_,.str (S (List.replicate n.toNat l).flatten),H,I.tok _,⟨()⟩,q⟩
   rw [qF,AD,sizeLine_eq,Nat.mul_comm]
   trivial
inductive GX (K:PySem.W.Frag) (x:V) (vs:List V) (H:Hp) (Q:VK):Prop
 | mk (a:_) (ls:_) (h0:x=.str (S [])) (h1:vs=[.ref a]) (h2:ah K H a ((ls:List (List Nat)).map fun l=>V.str (S l))) (h3:(ls.map (·.length)).sum≤10000) (h4:Q (.str (S ls.flatten)) H)
def IL (K:PySem.W.Frag):V→List V→Hp→VK→Prop:=fun x vs H Q=>GX K x vs H Q
theorem CK {ls:List (List Nat)}:∀{us:List Value},aL (ls.map fun l=>V.str (S l)) us→StrsAre us (ls.map S):=by
 induction ls with
 | nil=>intro us h;cases h;exact .nil
 | cons l r ih=>
  intro us h
  cases h with
  | cons h t=>
   obtain ⟨tk,rfl⟩:=h
   exact .cons _ _ (ih t)
theorem Fa (ek:X.K=K:=by rfl):yL X "str.join" (IL K):=by
 subst ek
 intro pins s σ H x vs v us Q I rx rv h
 obtain ⟨a,ls,rfl,rfl,hS,hz,q⟩:=h
 obtain ⟨t,rfl⟩:=rx
 obtain ⟨u,rfl,ru⟩:=rv.one
 obtain rfl:u=Value.ref a:=ru
 obtain ⟨its,r,ht,_⟩:=I.list hS
 have e1:((ls.map S).map (·.length)).sum=(ls.map (·.length)).sum:=by
  rw [List.map_map]
  congr 1
 refine join_list (ys:=ls.map S) ht.isList (by simpa using CK r) ?_ fun t' k=>?_
 ·rw [e1,show (S []).length=0 from rfl]
  trivial
 ·have:=join_plain_closes (S []) (ls.map S)
  rw [eq_of_beq this,xN]
  exact ⟨.str (S ls.flatten),H,I.tok k,⟨()⟩,q⟩
inductive HK (x:V) (y:V) (H:Hp) (Q:VK):Prop
 | mk (a:_) (b:_) (h0:x=.str (S a)) (h1:y=.str (S b)) (h2:a.length+b.length≤10000) (h3:Q (.str (S (a++b))) H)
def IZ:R2:=fun x y H Q=>HK  x y H Q
theorem Ai:cU X (binaryOp .Add) IZ:=fun pins s σ H x y v u Q I rx ry ⟨a,b,e1,e2,hz,q⟩=>
 Bf pins s σ H x y v u Q I rx ry ⟨S a,S b,e1,e2,by rw [qF,qF];exact fA hz,by rw [vc];exact q⟩
end
theorem AS:Str.ofString "abcdefghijklmnopqrstuvwxyz" = S ((List.range 26).map (97+·)):=by nofun
theorem DR:Str.ofString "" = S []:=by nofun
theorem sY {i:Int} (h0:-26≤i) (h1:i<26):ko ((Str.ofString "abcdefghijklmnopqrstuvwxyz").cps.toList) i=some (97+(i % 26).toNat):=by
 rw [AS,vB]
 have:∀k:Fin 52,ko ((List.range 26).map (97+·)) ((k.val:Int) - 26)=some (97+(((k.val:Int) - 26) % 26).toNat):=by nofun
 have e:=this ⟨(i+26).toNat,by trivial⟩
 simp only at e
 rw [show (((i+26).toNat:Nat):Int) - 26=i by trivial] at e
 exact e
theorem HQ {f:Int}{j k:Nat} (hj:j<26) (hk:k<26) (h:(f+11*(j:Int)) % 26=(f+11*(k:Int)) % 26):j=k:=by trivial
structure yl (l:List Nat):Prop where
 lo:1≤l.length
 hi:l.length≤8
 az:∀c∈l,97≤c∧c≤122
abbrev aT (l:List Nat):V:=.str (S l)
theorem KU (n c:Nat):(List.replicate n [c]).flatten=List.replicate n c:=by
 induction n with
 | zero=>rfl
 | succ n ih=>rw [List.replicate_succ,List.flatten_cons,ih,List.replicate_succ];rfl
theorem oZ {xs:List V}{m:Int} (h:0≤m):eX xs none (some m)=xs.take m.toNat:=by
 unfold eX
 have e:m=((m.toNat:Nat):Int):=by trivial
 rw [HT.sIx_none,e,HT.sIx_nat]
 simp only [Int.toNat_natCast,List.drop_zero,Nat.sub_zero]
 by_cases hm:m.toNat≤xs.length
 ·rw [Nat.min_eq_left hm]
 ·rw [Nat.min_eq_right (by trivial),List.take_of_length_le (Nat.le_refl _),List.take_of_length_le (by trivial)]
theorem af.ch {b D:Addr}{H H1 H2:Hp}{xs:List V} (s:af (Eb b) H H1) (c:Ch H1 D xs H2) (hD:H D=none):af (Eb b) H H2:=
 ⟨fun a u ne h=>c.ol a u (aY h hD) (s.old a u ne h),fun a us h=>c.ol a _ (aY h hD) (s.tup a us h)⟩
theorem af.up {b D:Addr}{H H1:Hp}{o:HO} (s:af (Eb b) H H1) (hD:H D=none):af (Eb b) H (aQ H1 D o):=
 ⟨fun a u ne h=>by rw [aG (aY h hD)];exact s.old a u ne h,fun a us h=>by rw [aG (aY h hD)];exact s.tup a us h⟩
def IC (x:Str):Prop:=x.length≤300∧∀c∈x.cps.toList,c<128
mutual
inductive Wt:PyData→Nat→Nat→Prop
 | non {k:Nat}:Wt .none 1 k
 | bl (b:Bool) {k:Nat}:Wt (.bool b) 1 k
 | int {i:Int} (h:Sz 1900 i) {k:Nat}:Wt (.int i) 1 k
 | str {x:Str} (h:IC x) {k:Nat}:Wt (.str x) 1 k
 | list {xs:List PyData}{n k:Nat} (h:dC xs n k):Wt (.list xs) (n+1) (k+1)
 | tuple {xs:List PyData}{n k:Nat} (h:dC xs n k):Wt (.tuple xs) (n+1) (k+1)
inductive dC:List PyData→Nat→Nat→Prop
 | nil {k:Nat}:dC [] 0 k
 | cons {x:PyData}{xs:List PyData}{m n k:Nat} (h:Wt x m k) (r:dC xs n k):dC (x :: xs) (m+n) k
end
mutual
theorem Wt.deep:∀{d:PyData}{n k:Nat},Wt d n k→∀{l:Nat},k≤l→Wt d n l
 | _,_,_,.non,_,_=>.non
 | _,_,_,.bl b,_,_=>.bl b
 | _,_,_,.int h,_,_=>.int h
 | _,_,_,.str h,_,_=>.str h
 | _,_,_,.list h,l,hl=>by
  obtain ⟨m,rfl⟩:∃m,l=m+1:=⟨l - 1,by trivial⟩
  exact .list (dC.deep h (by trivial))
 | _,_,_,.tuple h,l,hl=>by
  obtain ⟨m,rfl⟩:∃m,l=m+1:=⟨l - 1,by trivial⟩
  exact .tuple (dC.deep h (by trivial))
theorem dC.deep:∀{ds:List PyData}{n k:Nat},dC ds n k→∀{l:Nat},k≤l→dC ds n l
 | _,_,_,.nil,_,_=>.nil
 | _,_,_,.cons h r,_,hl=>.cons (Wt.deep h hl) (dC.deep r hl)
end
theorem Wt.pos {d:PyData}{n k:Nat} (h:Wt d n k):1≤n:=by cases h <;> trivial
mutual
theorem Wt.dep:∀{d:PyData}{n k:Nat},Wt d n k→d.depth≤k
 | _,_,_,.non=>by simp [PyData.depth]
 | _,_,_,.bl b=>by simp [PyData.depth]
 | _,_,_,.int h=>by simp [PyData.depth]
 | _,_,_,.str h=>by simp [PyData.depth]
 | _,_,_,.list h=>by simp only [PyData.depth];exact Nat.succ_le_succ (dC.dep h)
 | _,_,_,.tuple h=>by simp only [PyData.depth];exact Nat.succ_le_succ (dC.dep h)
theorem dC.dep:∀{ds:List PyData}{n k:Nat},dC ds n k→PyData.depthAll ds≤k
 | _,_,_,.nil=>by simp [PyData.depthAll]
 | _,_,_,.cons h r=>by simp only [PyData.depthAll];exact Nat.max_le.mpr ⟨Wt.dep h,dC.dep r⟩
end
mutual
theorem Wt.sho:∀{d:PyData}{n k:Nat},Wt d n k→d.showable=true
 | _,_,_,.non=>by simp [PyData.showable]
 | _,_,_,.bl b=>by simp [PyData.showable]
 | _,_,_,.int (i:=i) h=>by
  simp only [PyData.showable,decide_eq_true_iff]
  by_cases h0:i=0
  ·subst h0;decide
  ·exact Nat.lt_trans (h.log h0) (by decide)
 | _,_,_,.str h=>by simp [PyData.showable]
 | _,_,_,.list h=>by simp only [PyData.showable];exact dC.sho h
 | _,_,_,.tuple h=>by simp only [PyData.showable];exact dC.sho h
theorem dC.sho:∀{ds:List PyData}{n k:Nat},dC ds n k→PyData.showableAll ds=true
 | _,_,_,.nil=>by simp [PyData.showableAll]
 | _,_,_,.cons h r=>by simp only [PyData.showableAll,Bool.and_eq_true];exact ⟨Wt.sho h,dC.sho r⟩
end
mutual
theorem Wt.nod:∀{d:PyData}{n k:Nat},Wt d n k→d.hasDict=false
 | _,_,_,.non=>by simp [PyData.hasDict]
 | _,_,_,.bl b=>by simp [PyData.hasDict]
 | _,_,_,.int h=>by simp [PyData.hasDict]
 | _,_,_,.str h=>by simp [PyData.hasDict]
 | _,_,_,.list h=>by simp only [PyData.hasDict];exact dC.nod h
 | _,_,_,.tuple h=>by simp only [PyData.hasDict];exact dC.nod h
theorem dC.nod:∀{ds:List PyData}{n k:Nat},dC ds n k→PyData.hasDictAll ds=false
 | _,_,_,.nil=>by simp [PyData.hasDictAll]
 | _,_,_,.cons h r=>by simp only [PyData.hasDictAll,Bool.or_eq_false_iff];exact ⟨Wt.nod h,dC.nod r⟩
end
mutual
theorem Wt.len:∀{d:PyData}{n k:Nat},Wt d n k→d.shown.length+2≤3010*n
 | _,_,_,.non=>by
  rw [PyData.shown]
  decide +kernel
 | _,_,_,.bl b=>by
  rw [PyData.shown]
  cases b <;> decide +kernel
 | _,_,_,.int (i:=i) h=>by
  rw [PyData.shown]
  have hl:i.natAbs.log2<1920:=by
   by_cases h0:i=0
   ·subst h0;decide
   ·exact Nat.lt_trans (h.log h0) (by decide)
  have:=int_text_len_1921 hl
  trivial
 | _,_,_,.str (x:=x) h=>by
  rw [PyData.shown]
  have:=PySem.StrLaws.reprText_len x (fun c hc=>Nat.lt_trans (h.2 c hc) (by decide))
  have:=h.1
  trivial
 | _,_,_,.list (xs:=xs) (n:=n) h=>by
  rw [PyData.shown]
  have h1:=listText_len_le (PyData.shownAll xs)
  have h2:=dC.len h
  trivial
 | _,_,_,.tuple (xs:=xs) (n:=n) h=>by
  rw [PyData.shown]
  have h1:=tupleText_len_le (PyData.shownAll xs)
  have h2:=dC.len h
  trivial
theorem dC.len:∀{ds:List PyData}{n k:Nat},dC ds n k→((PyData.shownAll ds).map (·.length)).sum+2*(PyData.shownAll ds).length≤3010*n
 | _,_,_,.nil=>by simp [PyData.shownAll]
 | _,_,_,.cons (x:=x) (xs:=xs) (m:=m) (n:=n) h r=>by
  rw [PyData.shownAll,List.map_cons,List.sum_cons,List.length_cons]
  have h1:=Wt.len h
  have h2:=dC.len r
  have h3:=h.pos
  trivial
end
end L2
namespace L2
open PySem PySem.Spec PyProof.Rows
mutual
theorem Wt.can:∀{d:PyData}{n k:Nat},Wt d n k→d.canLay0=true
 | _,_,_,.non=>by simp [PyData.canLay0]
 | _,_,_,.bl b=>by simp [PyData.canLay0]
 | _,_,_,.int h=>by simp [PyData.canLay0]
 | _,_,_,.str (x:=x) h=>by
  simp only [PyData.canLay0]
  unfold PySem.PyData.strOk
  rw [Array.all_eq_true]
  intro i hi
  have:=h.2 x.cps[i] (by simp)
  simp
  trivial
 | _,_,_,.list h=>by simp only [PyData.canLay0];exact dC.can h
 | _,_,_,.tuple h=>by simp only [PyData.canLay0];exact dC.can h
theorem dC.can:∀{ds:List PyData}{n k:Nat},dC ds n k→PyData.canLayAll0 ds=true
 | _,_,_,.nil=>by simp [PyData.canLayAll0]
 | _,_,_,.cons h r=>by simp only [PyData.canLayAll0,Bool.and_eq_true];exact ⟨Wt.can h,dC.can r⟩
end
section
variable {X:Cx}
inductive JB (ne:Bool) (x:V) (y:V) (H:Hp) (Q:VK):Prop
 | mk (d e:PyData) (E F:Addr→Prop) (m n k l:Nat) (h0:aK E H x d) (h1:aK F H y e) (h2:Wt d m k) (h3:Wt e n l) (h4:k≤60) (h5:Q (.bl (if ne then !PyData.eqv d e else PyData.eqv d e)) H)
def KC (ne:Bool):R2:=fun x y H Q=>JB ne x y H Q
theorem C0 (hu:X.A.units+64<cLine):cU X (compareOp .Eq) (KC false):=by
 intro pins s σ H x y v u Q I rx ry h
 obtain ⟨d,e,E,F,m,n,k,l,hd,he,wd,we,hk,q⟩:=h
 obtain ⟨as,ra⟩:=hd.reads I.hok rx
 obtain ⟨bs,rb⟩:=he.reads I.hok ry
 exact PySem.SeqAt.compareEq_reads ra rb wd.can we.can (by have:=wd.dep;trivial) ⟨.bl _,H,I,rfl,q⟩
inductive Hj (xs:List V) (H:Hp) (Q:VK):Prop
 | mk (a:Addr) (d:PyData) (E:Addr→Prop) (n k:Nat) (h0:xs=[.ref a]) (h1:aK E H (.ref a) d) (h2:Wt d n k) (h3:n≤5500) (h4:k≤50) (h5:Q (.str d.shown) H)
def JE:List V→Hp→VK→Prop:=fun xs H Q=>Hj  xs H Q
end
abbrev ED:Addr→Prop:=fun _=>True
abbrev bJ (p:KM.Fra):PyData:=.tuple [.int p.1,.int p.2]
theorem km {H:Hp}{o:Addr}{p:KM.Fra} (h:H o=some (.tup [.int p.1,.int p.2])):aK ED H (.ref o) (bJ p):=.tup h (.cons (.int _) (.cons (.int _) .nil))
theorem iU {E:Addr→Prop}{H:Hp}{v:V}{p:KM.Fra} (h:aK E H v (bJ p)):∃o,v=.ref o∧H o=some (.tup [.int p.1,.int p.2]):=by
 cases h with
 | @tup a xs _ h r=>
  cases r with
  | cons h1 r=>
  cases r with
  | cons h2 r=>
  cases r
  cases h1
  cases h2
  exact ⟨a,rfl,h⟩
theorem JF {p:KM.Fra}{b:Nat} (h:Fb b p.1 p.2) (hb:b≤1900):Wt (bJ p) 3 1:=.tuple (.cons (.int (h.sn.mono hb)) (.cons (.int (h.sd.mono hb)) .nil))
end L2
namespace L2
open PySem PySem.Spec PyProof.Rows
end L2
namespace L2
theorem wU {α:Type}{ls:List α} (h:ls.Nodup) {i j:Nat} (hi:i<ls.length) (hj:j<ls.length) (e:ls[i]=ls[j]):i=j:=by
 have p:=List.pairwise_iff_getElem.mp h
 rcases Nat.lt_trichotomy i j with q | q | q
 ·exact absurd e (p i j hi hj q)
 ·exact q
 ·exact absurd e.symm (p j i hj hi q)
end L2
namespace L2
open PySem PySem.Spec PyProof.Rows
theorem Li {c:Bool}{ta tb:TE}{σ:St}{H:Hp}{Q:VK} (I:V→Hp→Prop) (rest:∀v H',I v H'→Q v H') (h1:c=true→(∀v H',I v H'→Q v H')→ta σ H Q) (h2:c=false→(∀v H',I v H'→Q v H')→tb σ H Q) :
 if c=true then ta σ H Q else tb σ H Q:=by
 cases c with
 | true=>exact av (h1 rfl rest)
 | false=>exact aO (h2 rfl rest)
end L2
namespace L2
end L2
namespace L2
open PySem PySem.Spec PyProof.Rows
theorem au.take {E:Addr→Prop}{H:Hp}:∀{xs:List V}{ds:List PyData} (n:Nat),au E H xs ds→au E H (xs.take n) (ds.take n)
 | _,_,0,_=>by simp;exact .nil
 | _,_,_+1,.nil=>by simp;exact .nil
 | _,_,n+1,.cons h r=>by simp;exact .cons h (au.take n r)
end L2
namespace L2
open PySem PySem.Spec PyProof.Rows
open AutoSeq1 (wpAny_loadPart')
set_option maxHeartbeats 4000000 in
theorem Dm (l:Addr) (its:Array Value) (n:Nat) (dct:Option Addr) (sl:Array (Option Value)) :
 Meets (Builtin.«enumerate.__new__» ⟨[.type "enumerate",.ref l],[]⟩) (fun _ R s=>s.heap.get? l=some { cls:=.type "tuple",dict:=dct,data:=.seq its n,slots:=sl }∧
  R (.ok (.ret (.ref (s.heap.push { cls:=.type "tuple_iterator",data:=.fields #[.ref l,.int 0 0] }).objs.size))) { s with heap:=(s.heap.push { cls:=.type "tuple_iterator",data:=.fields #[.ref l,.int 0 0] }).push { cls:=.type "enumerate",data:=.fields #[.none,.bool false,.ref s.heap.objs.size,rawInt 0,.none,.none] } }):=
 .of_wp fun prog w A R s h=>by
  obtain ⟨hp,g,d,tk,os⟩:=s;obtain ⟨hl,h⟩:=h;have hsub:=sub_enumerate
  have hT:Heap.IsTuple (Shared.heap ⟨hp,g,d,tk,os⟩) l its:=⟨_,hl,rfl,n,rfl⟩
  wp_walk using wpAny_loadPart' hl
  refine wpAny_stack_any fun st=>wpAny_pure ?_;split
  ·rename_i c _ _ _ _ _;cases (c==Value.type "enumerate")
   ·wp_walk using wpAny_loadPart' hl,wpAny_pyIter_tuple hT
    exact ⟨(),h⟩
   ·wp_walk using wpAny_loadPart' hl,wpAny_pyIter_tuple hT
    exact ⟨(),h⟩
  ·wp_walk using wpAny_loadPart' hl,wpAny_pyIter_tuple hT
   exact ⟨(),h⟩
section
variable {prog:Program}{w:World}{A:Around}{E:Value→Shared→Prop}{s:Shared}
theorem A2 {l:Addr}{its:Array Value}{Q:Value→Shared→Prop}:∀{c:Bool},iq s.heap l its c→
 (∀h',IsEnum h' (s.heap.objs.size+1) s.heap.objs.size 0 .none→fN h' s.heap.objs.size l 0 c→(∀b o,s.heap.get? b=some o→h'.get? b=some o)→Q (.ref (s.heap.objs.size+1)) { s with heap:=h' })→
 wpAny (model prog w) A (call (.type "enumerate") [.ref l]) Q E s
 | true,q,h=>call_enumerate_list q fun h' a b _ k=>h h' a b k
 | false,q,h=>by
  obtain ⟨⟨c,dct,dt,sl⟩,hl,hc,n,hd⟩:=q
  dsimp only at hc hd
  subst hc hd
  refine callType_new F.called_enumerate (by decide) (F.typeCall_enumerate_1 _) (F.newCall_enumerate_1 _) (fun obj=>F.args_object_init_2 obj _) F.entry_enumerate_new (Dm l its n dct sl) ⟨hl,?_⟩
  have hz:(s.heap.push { cls:=.type "tuple_iterator",data:=.fields #[.ref l,.int 0 0] }).objs.size=s.heap.objs.size+1:=Heap.size_push ..
  show _∧_
  rw [hz]
  have he:IsEnum ((s.heap.push { cls:=.type "tuple_iterator",data:=.fields #[.ref l,.int 0 0] }).push { cls:=.type "enumerate",data:=.fields #[.none,.bool false,.ref s.heap.objs.size,rawInt 0,.none,.none] }) (s.heap.objs.size+1) s.heap.objs.size 0 .none:=by
   rw [←hz];exact Heap.get?_push_size _ rfl
  exact ⟨⟨_,he,rfl⟩,h _ he ⟨_,Heap.get?_push_of_some _ (Heap.get?_push_size _ rfl),rfl,rfl⟩ fun b o e=>Heap.get?_push_of_some _ (Heap.get?_push_of_some _ e)⟩
end
def yZ (K:PySem.W.Frag) (a:Addr) (c:Bool):It:=
 ⟨fun i H=>bP fun xs x=>iV K H a xs c∧xs[i]?=some x,fun i H v H'=>bP fun T x=>H T=none∧v=.ref T∧H'=aQ H T (.tup [.int (i:Int),x])∧∀xs,iV K H a xs c→xs[i]?=some x,fun i H=>∃xs,iV K H a xs c∧xs.length=i⟩
theorem Bk {P:Program}{w:World}{K:PySem.W.Frag}{es:List Expr}{kk:Nat}{pos:Pos} (a e it:Addr) (c:Bool) (hne:e≠it) (hae:a≠e) (hai:a≠it) :
 sM P w K (.Tuple es kk pos) (yZ K a c) [e,it] e (fun i h=>(∃old,IsEnum h e it i old)∧fN h it a i c) where
 mem:=by simp
 obj:=fun i h st b hb=>by
  obtain ⟨⟨old,he⟩,hi⟩:=st
  have hb':b=e∨b=it:=by simpa using hb
  rcases hb' with rfl | rfl
  ·exact ⟨_,he,fun v z=>by have z':Data.fields _=Data.cell v:=z;cases z'⟩
  ·exact hi.some
 keep:=fun i h h' st k=>by
  obtain ⟨⟨old,he⟩,hi⟩:=st
  exact ⟨⟨old,k e (by simp) _ he⟩,hi.at fun o q=>k it (by simp) o q⟩
 item:=by
  intro X hP hw hK hc i pins s σ H E I hf st hg
  subst hP hw hK
  obtain ⟨⟨old,he⟩,hit⟩:=st
  obtain ⟨xs,x,hq,hx⟩:=hg
  obtain ⟨its,rv,p⟩:=I.seqC hq
  obtain ⟨u,hu,ru⟩:=rv.get hx
  have hnT:H s.heap.objs.size=none:=I.fresh
  have hiu:i<its.length:=(List.getElem?_eq_some_iff.mp hu).1
  have D:=pI (prog:=X.prog) (w:=X.w) (A:=X.A.in1) (I.ok.hd hc) it a hai its.toArray c
  refine wpAny_pyNext_enum_itemD D he ⟨hit,p⟩ (by simpa using hiu) hne (by simp;exact ⟨hne,Ne.symm hae⟩) fun u' h' tk hP ho st' hT hsz hk=>?_
  have eu:u=u':=by
   have:its.toArray[i]?=some u':=hP
   rw [List.getElem?_toArray,hu] at this
   exact Option.some.inj this
  subst eu
  refine ⟨(),wpAny_letOwnedTupleGo_enum (s:={ s with heap:=h',toks:=tk+1 }) ho fun h'' he'' hs''=>?_⟩
  have helt:e<s.heap.objs.size:=Heap.lt_size he
  have hilt:it<s.heap.objs.size:=let ⟨_,y,_⟩:=hit.some;Heap.lt_size y
  have hT'':h''.get? s.heap.objs.size=some { cls:=.type "tuple",data:=.seq #[.int i tk,u] }:=(hs''.2 _ (Nat.ne_of_gt helt)).trans hT
  refine ⟨.ref s.heap.objs.size,aQ H s.heap.objs.size (.tup [.int (i:Int),x]),I.turnedNew (ch:=[e,it]) (t':=tk+1) hf (fun b o hb q=>?_) (Nat.le_refl _) ?_,rfl,⟨_,x,hnT,rfl,rfl,fun ys hy=>by rw [I.seqC_inj hy hq];exact hx⟩,⟨⟨u,?_⟩,st'.1.at fun o q=>(hs''.2 _ (Ne.symm hne)).trans q⟩,fun b hb=>?_⟩
  ·have h1:b≠e:=fun z=>hb (by simp [z])
   have h2:b≠it:=fun z=>hb (by simp [z])
   exact (hs''.2 b h1).trans (hk b o h1 h2 q)
  ·exact ⟨by show 2≤sizeLine;decide,[.int i tk,u],.cons ⟨()⟩ (.cons ru .nil),⟨_,hT'',rfl,()⟩,_,hT'',rfl⟩
  ·simpa using he''
  ·have hb':b=e∨b=it:=by simpa using hb
   have hlt:b<s.heap.objs.size:=by rcases hb' with rfl | rfl <;> assumption
   rw [aG (Nat.ne_of_lt hlt)]
   exact (hf b hb).1
 done:=by
  intro X hP hw hK hc i pins s σ H E I hf st hg
  subst hP hw hK
  obtain ⟨⟨old,he⟩,hit⟩:=st
  obtain ⟨xs,hq,hx⟩:=hg
  obtain ⟨its,rv,p⟩:=I.seqC hq
  have hl:=rv.length
  have D:=pI (prog:=X.prog) (w:=X.w) (A:=X.A.in1) (I.ok.hd hc) it a hai its.toArray c
  have ei:i=its.toArray.size:=by simp;trivial
  refine wpAny_pyNext_enum_endD D he (by rw [ei] at hit;exact ⟨hit,p⟩) fun h' eb=>⟨rfl,I.turnedL (ch:=[e,it]) (t':=s.toks) hf fun b o hb q=>eb b o (fun z=>hb (by simp [z])) q⟩
 self:=fun _ _ _ _ _ st h=>by
  obtain ⟨⟨old,he⟩,_⟩:=st
  exact wpAny_pyIter_enum he h
def HM (K:PySem.W.Frag) (ta:TA):TI:=fun σ H R=>ta σ H fun vs H1=>bP fun a c=>vs=[.ref a]∧(∃xs,iV K H1 a xs c)∧R (yZ K a c) H1
theorem yt {X:Cx}{K:PySem.W.Frag}{es:List Expr}{kk:Nat}{tp:Pos}{a:Expr}{ta:TA}{p pos:Pos} (hg:Gl X "enumerate") (hm:X.mg "enumerate" = none) (ha:PA X [a] ta) (hs:starEach [a] X.env=[(false,eval a X.env)]:=by rfl) (ek:X.K=K:=by rfl) :
 PI X (.Tuple es kk tp) (.Call (.Name "enumerate" p) [a] [] pos) (HM K ta):=by
 subst ek
 intro pins s σ H R I h
 refine Call_ (nh I hg hm boot_enumerate (PyProof.Rows.callWith_type1 (aS (ha pos pins s σ H _ I h) fun us s1 ⟨vs,H1,I1,r1,q1⟩=>?_) hs rfl))
 obtain ⟨a,c,rfl,⟨xs,hq⟩,q⟩:=q1
 obtain ⟨u,rfl,ru⟩:=r1.one
 obtain rfl:u=.ref a:=ru
 obtain ⟨its,rv,p⟩:=I1.seqC hq
 have d1:=p.lt
 refine A2 p fun h' hE hI hk=>wpAny_pyIter_enum hE ?_
 have I2:ag X pins σ H1 { s1 with heap:=h',toks:=s1.toks }:=I1.kept hk
 refine ⟨s1.heap.objs.size+1,[s1.heap.objs.size+1,s1.heap.objs.size],_,_,H1,rfl,I2,Bk a (s1.heap.objs.size+1) s1.heap.objs.size c (Nat.succ_ne_self _) (Nat.ne_of_lt (Nat.lt_succ_of_lt d1)) (Nat.ne_of_lt d1),⟨⟨_,hE⟩,hI⟩,fun b hb=>?_,q⟩
 have hb':b=s1.heap.objs.size+1∨b=s1.heap.objs.size:=by simpa using hb
 have hle:s1.heap.objs.size≤b:=by rcases hb' with rfl | rfl <;> trivial
 exact I1.fpOk hle (I1.hok.fresh hle)
def xL:V→Option Int
 | .int i=>some i
 | .bl b=>some (if b=true then 1 else 0)
 | _=>none
section
variable {X:Cx}
inductive Lm (g:Int→Int→Int) (x:V) (y:V) (H:Hp) (Q:VK):Prop
 | mk (i:_) (j:_) (h0:xL x=some i) (h1:y=.int j) (h2:Q (.int (g i j)) H)
def rX (g:Int→Int→Int):R2:=fun x y H Q=>Lm g x y H Q
theorem Ar:cU X (binaryOp .Add) (rX (·+·)):=by
 intro pins s σ H x y v u Q I rx ry h
 obtain ⟨i,j,hx,rfl,q⟩:=h
 obtain ⟨t',rfl⟩:=ry
 cases x <;> simp [xL] at hx
 ·rename_i b
  subst hx
  cases (show v=Value.bool b from rx)
  exact PySem.IntBool.add_bool_int ⟨.int _,H,I.tok _,⟨()⟩,q⟩
 ·subst hx
  obtain ⟨t,rfl⟩:=rx
  exact add_int ⟨.int _,H,I.tok _,⟨()⟩,q⟩
theorem FQ:cU X (binaryOp .Sub) (rX (· - ·)):=by
 intro pins s σ H x y v u Q I rx ry h
 obtain ⟨i,j,hx,rfl,q⟩:=h
 obtain ⟨t',rfl⟩:=ry
 cases x <;> simp [xL] at hx
 ·rename_i b
  subst hx
  cases (show v=Value.bool b from rx)
  exact PySem.IntBool.sub_bool_int ⟨.int _,H,I.tok _,⟨()⟩,q⟩
 ·subst hx
  obtain ⟨t,rfl⟩:=rx
  exact sub_int ⟨.int _,H,I.tok _,⟨()⟩,q⟩
inductive K0 (x:V) (y:V) (H:Hp) (Q:VK):Prop
 | mk (i:_) (j:_) (h0:x=.int i) (h1:xL y=some j) (h2:-(2 ^ 64)<i) (h3:i<2 ^ 64) (h4:Q (.int (i*j)) H)
def LC:R2:=fun x y H Q=>K0  x y H Q
theorem Fp:cU X (binaryOp .Mult) LC:=by
 intro pins s σ H x y v u Q I rx ry h
 obtain ⟨i,j,rfl,hy,h0,h1,q⟩:=h
 obtain ⟨t',rfl⟩:=rx
 cases y <;> simp [xL] at hy
 ·rename_i b
  subst hy
  cases (show u=Value.bool b from ry)
  exact PySem.IntBool.mul_int_bool ⟨.int _,H,I.tok _,⟨()⟩,q⟩
 ·subst hy
  obtain ⟨t,rfl⟩:=ry
  exact mul_int ⟨.int _,H,I.tok _,⟨()⟩,q⟩ (AJ.ok (.inl ⟨h0,h1⟩))
theorem wj (a:Bool):Gives (Builtin.«int.__neg__» ⟨[.bool a],[]⟩) (.int (-(if a=true then (1:Int) else 0))):=
 .of_wp fun M A E s Q h=>by obtain ⟨hp,g,d,tk,os⟩:=s;wp_walk;exact ⟨_,rfl,h⟩
inductive KP (x:V) (H:Hp) (Q:VK):Prop
 | mk (i:_) (h0:xL x=some i) (h1:Q (.int (-i)) H)
def Ly:V→Hp→VK→Prop:=fun x H Q=>KP  x H Q
theorem Fq:E5 X (unaryOp .USub) Ly:=by
 intro pins s σ H x v Q I rx h
 obtain ⟨i,hx,q⟩:=h
 cases x <;> simp [xL] at hx
 ·rename_i b
  subst hx
  cases (show v=Value.bool b from rx)
  exact PySem.unaryOp_gives (op:=.USub) (T := "bool") rfl rfl F.slot_bool_neg F.entry_int_neg (F.args_int_neg_1 _) (wj b) ⟨.int _,H,I.tok _,⟨()⟩,q⟩
 ·subst hx
  obtain ⟨t,rfl⟩:=rx
  exact neg_int ⟨.int _,H,I.tok _,⟨()⟩,q⟩
end
end L2
namespace L2
open PySem PySem.Spec PyProof.Rows
inductive JU (x:V) (lo:Option Int) (hi:Option Int) (H:Hp) (Q:VK):Prop
 | mk (z:_) (h0:x=.str z) (h1:z.length≤10000) (h2:∀y,y.length≤z.length→(∀c∈y.cps.toList,c∈z.cps.toList)→Q (.str y) H)
def KG:V→Option Int→Option Int→Hp→VK→Prop:=fun x lo hi H Q=>JU  x lo hi H Q
theorem AF {v:Value}{o:Option Int} (h:IsPart v o):∃p:Option (Int×Tok),v=partValue p:=by
 cases h with
 | none=>exact ⟨none,rfl⟩
 | int i t=>exact ⟨some (i,t),rfl⟩
theorem Ix {X:Cx}:zh X KG:=by
 intro pins s σ H x v vl vu lo hi sl Q I rx hs pl pu h
 obtain ⟨z,rfl,hz,q⟩:=h
 obtain ⟨t,rfl⟩:=rx
 obtain ⟨l,rfl⟩:=AF pl
 obtain ⟨u,rfl⟩:=AF pu
 refine ⟨"str",_,F.slot_str_getitem.lookup,typeIs_str _ _ _,?_⟩
 refine wpAny_getItem_str_slice (l:=l) (u:=u) (st:=none) hs rfl ?_
 unfold sliceMade
 by_cases hc:((Option.map (fun x:Int×Tok=>x.fst) none).getD 1==1 && (slicePicked z l u none).length==z.length)=true
 ·rw [if_pos hc]
  exact ⟨.str z,H,I,⟨()⟩,q z (Nat.le_refl _) fun c hc=>hc⟩
 ·rw [if_neg hc]
  have hl:((slicePicked z l u none).filterMap (fun x=>z.cps[x]?)).length≤z.length:=Nat.le_trans (List.length_filterMap_le _ _) (sliceIndices_le _ _ _)
  have hl':(⟨((slicePicked z l u none).filterMap (fun x=>z.cps[x]?)).toArray⟩:Str).length≤z.length:=by
   show ((slicePicked z l u none).filterMap (fun x=>z.cps[x]?)).toArray.size≤_
   rw [List.size_toArray];exact hl
  refine ⟨?_,.str ⟨_⟩,H,I.tok _,⟨()⟩,q _ hl' fun c hc=>?_⟩
  ·exact Nat.le_trans hl' (fA hz)
  ·have hc':c∈(slicePicked z l u none).filterMap (fun x=>z.cps[x]?):=by simpa using hc
   obtain ⟨i,_,e⟩:=List.mem_filterMap.mp hc'
   obtain ⟨hi,e2⟩:=Array.getElem?_eq_some_iff.mp e
   rw [←e2]
   simp
end L2
namespace L2
open PySem PySem.Spec PyProof.Rows
theorem AA {z y:Nat} (h:z≤y):4 ^ z≤4 ^ y:=Nat.pow_le_pow_right (by decide) h
theorem au.drop {E:Addr→Prop}{H:Hp}:∀{xs:List V}{ds:List PyData} (n:Nat),au E H xs ds→au E H (xs.drop n) (ds.drop n)
 | _,_,0,h=>by simpa using h
 | _,_,_+1,.nil=>by simp;exact .nil
 | _,_,n+1,.cons h r=>by simp;exact au.drop n r
theorem au.reverse {E:Addr→Prop}{H:Hp}:∀{xs:List V}{ds:List PyData},au E H xs ds→au E H xs.reverse ds.reverse
 | _,_,.nil=>by simp;exact .nil
 | _,_,.cons h r=>by rw [List.reverse_cons,List.reverse_cons];exact r.reverse.append (.cons h .nil)
theorem au.set {E:Addr→Prop}{H:Hp}{y:V}{d:PyData} (hy:aK E H y d):∀{xs:List V}{ds:List PyData} (i:Nat),au E H xs ds→au E H (xs.set i y) (ds.set i d)
 | _,_,_,.nil=>by simp;exact .nil
 | _,_,0,.cons h r=>by simp;exact .cons hy r
 | _,_,i+1,.cons h r=>by simp;exact .cons h (au.set hy i r)
section
variable {z:Nat}{E:Addr→Prop}{H H':Hp}{n m k:Nat}{v:V}{xs ys:List V}
end
mutual
theorem aK.plus {E:Addr→Prop}{H:Hp}{D:Addr} (hD:H D=none):∀{v:V}{d:PyData},aK E H v d→aK (fun a=>E a∨a=D) H v d
 | _,_,.non=>.non
 | _,_,.bl b=>.bl b
 | _,_,.int i=>.int i
 | _,_,.str x=>.str x
 | _,_,.lst h ne r=>.lst h (fun z=>z.elim ne fun e=>by rw [e,hD] at h;cases h) (au.plus hD r)
 | _,_,.tup h r=>.tup h (au.plus hD r)
theorem au.plus {E:Addr→Prop}{H:Hp}{D:Addr} (hD:H D=none):∀{vs:List V}{ds:List PyData},au E H vs ds→au (fun a=>E a∨a=D) H vs ds
 | _,_,.nil=>.nil
 | _,_,.cons h r=>.cons (aK.plus hD h) (au.plus hD r)
end
def Al (E:Addr→Prop) (H:Hp):Prop:=∀a,E a→H a≠none
theorem Al.sm {E:Addr→Prop}{H H':Hp} (h:Al E H) (s:aa H H'):Al E H':=fun a e z=>by
 cases q:H a with
 | none=>exact h a e q
 | some o=>rw [s a o q] at z;cases z
theorem Al.sE {E:Addr→Prop}{H H':Hp}{b:Addr}{t:Int} (h:Al E H) (s:af (Eb b) H H') (B:Bx H' b t):Al E H':=fun a e z=>by
 by_cases q:a=b
 ·subst q;exact B.ne z rfl
 ·cases p:H a with
  | none=>exact h a e p
  | some o=>rw [s.old a o q p] at z;cases z
theorem Al.ne {E:Addr→Prop}{H:Hp} (h:Al E H) {p:Addr} (hp:H p=none):¬E p:=fun e=>h p e hp
theorem zw (x:Str):S x.cps.toList=x:=by cases x;simp [S]
section
variable {X:Cx}
def oI (m:Nat) (x:Str):Prop:=x.length≤m∧∀c∈x.cps.toList,c<128
inductive HS (x:V) (y:V) (H:Hp) (Q:VK):Prop
 | mk (a:_) (b:_) (m:_) (n:_) (h0:x=.str a) (h1:y=.str b) (h2:oI m a) (h3:oI n b) (h4:m+n≤10000) (h5:∀c,oI (m+n) c→Q (.str c) H)
def JX:R2:=fun x y H Q=>HS  x y H Q
theorem zZ:cU X (binaryOp .Add) JX:=fun pins s σ H x y v u Q I rx ry ⟨a,b,m,n,e1,e2,ta,tb,hz,q⟩=>
 Ai pins s σ H x y v u Q I rx ry ⟨a.cps.toList,b.cps.toList,by rw [zw];exact e1,by rw [zw];exact e2,by
  have h1:a.cps.toList.length≤m:=ta.1
  have h2:b.cps.toList.length≤n:=tb.1
  trivial,q _ ⟨by
   rw [qF,List.length_append]
   have h1:a.cps.toList.length≤m:=ta.1
   have h2:b.cps.toList.length≤n:=tb.1
   trivial,fun c hc=>by
   rw [vB] at hc
   rcases List.mem_append.mp hc with h | h
   ·exact ta.2 c h
   ·exact tb.2 c h⟩⟩
end
end L2
namespace HT
open PySem PySem.Spec PyProof.Rows
section
variable {prog:Program}{w:World}{A:Around}{E:Value→Shared→Prop}{s:Shared}
theorem getItem_tuple_whole {t sl:Addr}{items:Array Value}{vl vu:Value}{lo hi:Option Int}{Q:Value→Shared→Prop} (ht:IsTup s.heap t items) (hs:s.heap.IsSliceOf sl vl vu .none) (pl:IsPart vl lo) (pu:IsPart vu hi)
 (h1:sIx items.size 0 lo=0) (h2:sIx items.size items.size hi=items.size) (h:Q (.ref t) s):wpAny (model prog w) A (getItem (.ref t) (.ref sl)) Q E s:=by
 obtain ⟨os,hos,hcs,hds⟩:=id hs
 have hTs:s.TypeIs (.ref sl) "slice" := ⟨os,hos,hcs⟩
 unfold getItem
 try with_reducible refine wpAny_holding ?_
 first | refine wpAny_bind (wpAny_pure ?_) | skip
 refine wpAny_bind (wpAny_sequenceKey ht.typeIs (by decide) ?_)
 refine wpAny_bind (wpAny_callSpecial?_slot (name:=Str.ofString "__getitem__") ht.typeIs PyProof.Rows.slot_tuple_getitem
  (wpAny_call_entry PyProof.Rows.slot_tuple_getitem ht.typeIs entry_tuple_getitem ?_ (args_tuple_getitem _ _)))
 show wpAny _ _ (Builtin.Tuple.tupleItemsOf (.ref t) >>= _) _ _ s
 refine wpAny_bind (tupleItemsOf_ ht ?_)
 refine wpAny_bind (wpAny_typeOf hTs ?_)
 rw [if_pos (by decide)]
 refine wpAny_bind (mW hs pl pu ?_)
 have hyes:((((sIx items.size 0 lo:Nat):Int)==0 && (1:Int)==1 && (sIx items.size items.size hi - sIx items.size 0 lo)==items.size)=true):=by
  rw [h1,h2];simp
 show wpAny _ _ (if (((sIx items.size 0 lo:Nat):Int)==0 && (1:Int)==1 && (sIx items.size items.size hi - sIx items.size 0 lo)==items.size)=true then _ else _) _ _ s
 rw [if_pos hyes]
 refine wpAny_bind (m:=Builtin.Tuple.tupleIsExact _) (wpAny_bind (wpAny_typeOf ht.typeIs (wpAny_pure ?_)))
 rw [if_pos (by decide)]
 exact wpAny_bind (wpAny_rule (wpAny_pure ⟨(),wpAny_pure h⟩))
end
end HT
namespace L2
open PySem PySem.Spec PyProof.Rows
section
variable {X:Cx}{K:PySem.W.Frag}
inductive GR (x:V) (y:V) (H:Hp) (Q:VK):Prop
 | mk (b c:Bool) (h0:x=.bl b) (h1:y=.bl c) (h2:Q (.bl (!(b==c))) H)
def J0:R2:=fun x y H Q=>GR  x y H Q
theorem Fd:cU X (compareOp .IsNot) J0:=by
 intro pins s σ H x y v u Q I rx ry h
 obtain ⟨b,c,rfl,rfl,q⟩:=h
 cases (show v=Value.bool b from rx)
 cases (show u=Value.bool c from ry)
 refine wpAny_isNot_plain rfl (bL I q ?_)
 cases b <;> cases c <;> rfl
inductive IE (K:PySem.W.Frag) (x:V) (lo:Option Int) (hi:Option Int) (H:Hp) (Q:VK):Prop
 | mk (a:_) (xs:_) (h0:x=.ref a) (h1:ad K H a xs) (h2:H a=some (.tup xs)) (h3:∀p H',aa H H'→H' p=some (.tup (eX xs lo hi))→Q (.ref p) H')
def II (K:PySem.W.Frag):V→Option Int→Option Int→Hp→VK→Prop:=fun x lo hi H Q=>IE K x lo hi H Q
theorem mL (e:X.K=K:=by rfl):zh X (II K):=by
 subst e
 intro pins s σ H x v vl vu lo hi sl Q I rx hs pl pu h
 obtain ⟨a,xs,rfl,hx,ha,q⟩:=h
 by_cases hw:HT.sIx xs.length 0 lo=0∧HT.sIx xs.length xs.length hi=xs.length
 ·cases rx
  obtain ⟨its,r,ht,hz⟩:=I.tuple hx
  have hlen:its.toArray.size=xs.length:=by rw [List.size_toArray];exact r.length.symm
  refine ⟨"tuple",_,PyProof.Rows.slot_tuple_getitem.lookup,ht.typeIs,?_⟩
  refine HT.getItem_tuple_whole ht hs pl pu (by rw [hlen];exact hw.1) (by rw [hlen];exact hw.2) ⟨.ref a,H,I,rfl,q a H (aa.refl _) ?_⟩
  have:eX xs lo hi=xs:=by
   unfold eX
   rw [hw.1,hw.2,List.drop_zero,Nat.sub_zero,List.take_length]
  rw [this];exact ha
 ·exact Hz pins s σ H _ v vl vu lo hi sl Q I rx hs pl pu ⟨a,xs,rfl,hx,hw,fun p hp=>q p _ (aa.new hp) aE⟩
end
theorem Fg {α:Type}{p:List α→Prop} (h0:p []) (h1:∀l a,p l→p (l++[a])) (l:List α):p l:=by
 have:∀r:List α,p r.reverse:=fun r=>by
  induction r with
  | nil=>exact h0
  | cons a r ih=>rw [List.reverse_cons];exact h1 _ _ ih
 have h:=this l.reverse
 rwa [List.reverse_reverse] at h
def HP:bc→V
 | .inl i=>.int i
 | .inr x=>.str x
theorem FH {k:bc}{u:Value} (h:bj (HP k) u):qB k u=true∧u.scannable=true:=by
 cases k with
 | inl i=>obtain ⟨t,rfl⟩:=h;exact ⟨B0 i t,rfl⟩
 | inr x=>obtain ⟨t,rfl⟩:=h;exact ⟨Co x t,rfl⟩
section
variable {prog:Program}{w:World}{A:Around}{R:Result→Shared→Prop}{it:Addr}{fp wr:List Addr}{G:Array GenState→Array GenState→Prop}{P:Nat→Value→Prop}{St:Nat→Shared→Prop}
end
section
variable {prog:Program}{w:World}{A:Around}{E:Value→Shared→Prop}{s:Shared}
end
section
variable {X:Cx}{K:PySem.W.Frag}{e:Expr}{te:TE}{p1 p2 p3 p4:Pos}
end
section
variable {X:Cx}{K:PySem.W.Frag}{o e:Expr}{es:List Expr}{to:TE}{t:TA}{name:Str}{apos cpos:Pos}{T id:String}{r:V→List V→Hp→VK→Prop}
theorem eM (pa:PlainAttrs T) (slot:Slot T name id) (hty:typeOf (.builtin id)=pure (.type "method_descriptor")) (hm:yL X id r) (ho:PE X o to) (ha:PA X (e :: es) t) (ek:X.K=K:=by rfl)
 (h1:attributeBase o name X.env (eval o X.env)=eval o X.env:=by rfl)
 (h2:((backTo cpos (starEach (e :: es) X.env)).all (fun x=>!x.1) && (backToKw cpos (keywordEach [] X.env)).all (fun x=>x.1.isSome) && decide ((e :: es).length+([]:List Keyword).length+(if ([]:List Keyword).isEmpty then 0 else 1)<30))=true:=by rfl)
 (h3:(apos.endLine==cpos.line)=true:=by rfl) (h4:starEach (e :: es) X.env=(false,eval e X.env) :: starEach es X.env:=by rfl) (h5:(backTo cpos (starEach es X.env)).any (·.1)=false:=by rfl) :
 PE X (.Call (.Attribute o name apos) (e :: es) [] cpos) (Kg K T r to t):=by
 subst ek
 exact Jx pa slot hty hm ho ha h1 h2 h3 h4 h5
end
theorem dN {X:Cx}{K:PySem.W.Frag}{es:List Expr}{kk:Nat}{tp:Pos}{a b:Expr}{ta:TA}{p pos:Pos} (hg:Gl X "zip") (hm:X.mg "zip" = none) (ha:PA X [a,b] ta) (ek:X.K=K:=by rfl) (h1:starEach [a,b] X.env=[(false,eval a X.env),(false,eval b X.env)]:=by rfl) (h2:starEach [b] X.env=[(false,eval b X.env)]:=by rfl) :
 PI X (.Tuple es kk tp) (.Call (.Name "zip" p) [a,b] [] pos) (Io K ta):=by
 subst ek
 exact Hh hg hm ha h1 h2
end L2
namespace L2
theorem bF {t u:TS}{D:fW}{σ:St}{H:Hp} (h:∀D':fW,(∀σ' H',u D σ' H'→D'.nx σ' H')→t D' σ H):kH t u D σ H:=h { D with nx:=u D } fun _ _ z=>z
theorem gQ {t u:TS}{D:fW}{σ:St}{H:Hp} (h:∀D':fW,(∀σ' H',u D σ' H'→D'.nx σ' H')→(∀v H',D.rt v H'→D'.rt v H')→t D' σ H):kH t u D σ H:=h { D with nx:=u D } (fun _ _ z=>z) fun _ _ z=>z
theorem lf {t:TS}{D:fW}{σ:St}{H:Hp} (h:∀D':fW,(∀σ' H',D.nx σ' H'→D'.nx σ' H')→t D' σ H):t D σ H:=h D fun _ _ z=>z
end L2
namespace L2
open PySem PySem.Spec PyProof.Rows
section
variable {X:Cx}
end
section
variable {K:PySem.W.Frag}{a a1 a2 D:Addr}{H1:Hp}{σc:St}{g:TG}{te:TE}{tt:TT}{Q:VK}{xs ys:List V}
theorem vF {α:Type} (f:Nat→α) (i:Nat):(List.range i).map f++[f i]=(List.range (i+1)).map f:=by
 rw [List.range_succ,List.map_append];rfl
theorem dE {α β:Type} (f:Nat→β) (h:α→β) (l:List α) (e:∀(i:Nat) (x:α),l[i]?=some x→f i=h x):(List.range l.length).map f=l.map h:=by
 apply List.ext_getElem?
 intro i
 rw [List.getElem?_map,List.getElem?_map]
 by_cases hi:i<l.length
 ·rw [List.getElem?_range hi,List.getElem?_eq_getElem hi]
  show some (f i)=some (h l[i])
  rw [e i l[i] (List.getElem?_eq_getElem hi)]
 ·rw [List.getElem?_eq_none (by simp;trivial),List.getElem?_eq_none (by trivial)];rfl
theorem lI {J:It}{n:Nat} (f:Nat→V) (hz:n≤10000) (hD:H1 D=none) (hgo:∀i H',i<n→aa H1 H'→J.go i H') (hst:∀H',aa H1 H'→J.stop n H')
 (hs:∀i x H' H'' (R:VK),i<n→aa H1 H'→J.yld i H' x H''→(∀H4,aa H' H4→R (f i) H4)→g x σc H'' fun σ2 H2=>fD σc σ2∧te σ2 H2 R)
 (hd:∀H',aa H1 H'→H' D=some (.lst ((List.range n).map f))→Q (.ref D) H'):gl J σc g tT te D H1 Q:=by
 refine gH (n:=n) (fun i H' zs=>zs=(List.range i).map f∧H' D=some (.lst zs)∧aa H1 H') (fA hz) ⟨rfl,aE,di hD (aa.refl _)⟩ ?_ ?_ ?_ ?_ ?_
 ·rintro i H' zs ⟨rfl,q,_⟩
  exact ⟨q,by simp⟩
 ·rintro i H' zs hi ⟨_,_,sm⟩
  exact hgo i H' hi sm
 ·rintro H' zs ⟨_,_,sm⟩
  exact hst H' sm
 ·rintro i H' zs x H'' hi ⟨rfl,q,sm⟩ y
  exact hs i x H' H'' _ hi sm y fun H4 s4=>⟨s4 _ _ q,vF f i,aE,di hD (sm.trans s4)⟩
 ·rintro H' zs ⟨rfl,q,sm⟩
  exact hd H' sm q
theorem xM (f:Nat→V) (hz:xs.length≤10000) (hD:H1 D=none) (ha:H1 a=some (.lst xs))
 (hs:∀i x H' (R:VK),xs[i]?=some x→aa H1 H'→(∀H4,aa H' H4→R (f i) H4)→g x σc H' fun σ2 H2=>fD σc σ2∧te σ2 H2 R)
 (hd:∀H',aa H1 H'→H' D=some (.lst ((List.range xs.length).map f))→Q (.ref D) H'):gl (yr K a) σc g tT te D H1 Q:=by
 refine lI (n:=xs.length) f hz hD (fun i H' hi sm=>⟨xs,xs[i],ah.of (sm _ _ ha),by simp [hi]⟩) (fun H' sm=>⟨xs,ah.of (sm _ _ ha),Nat.le_refl _⟩) ?_ hd
 rintro i x H' H'' R hi sm ⟨rfl,ex⟩ k
 exact hs i x H'' R (ex _ (ah.of (sm _ _ ha))) sm k
theorem CO (f:Nat→V) (hz:xs.length≤10000) (hD:H1 D=none) (ha:H1 a=some (.tup xs))
 (hs:∀i x H' (R:VK),xs[i]?=some x→aa H1 H'→(∀H4,aa H' H4→R (f i) H4)→g x σc H' fun σ2 H2=>fD σc σ2∧te σ2 H2 R)
 (hd:∀H',aa H1 H'→H' D=some (.lst ((List.range xs.length).map f))→Q (.ref D) H'):gl (yP K a) σc g tT te D H1 Q:=by
 refine lI (n:=xs.length) f hz hD (fun i H' hi sm=>⟨xs,xs[i],ad.of (sm _ _ ha),by simp [hi]⟩) (fun H' sm=>⟨xs,ad.of (sm _ _ ha),Nat.le_refl _⟩) ?_ hd
 rintro i x H' H'' R hi sm ⟨rfl,ex⟩ k
 exact hs i x H'' R (ex _ (ad.of (sm _ _ ha))) sm k
theorem xC {c1 c2:Bool}{j1 j2:Nat} (f:Nat→V) (hz:min xs.length ys.length≤10000) (hD:H1 D=none) (h1:∀H',aa H1 H'→iV K H' a1 xs c1) (h2:∀H',aa H1 H'→iV K H' a2 ys c2)
 (hs:∀i x y H' (R:VK),xs[i]?=some x→ys[i]?=some y→aa H1 H'→(∀H4,aa H' H4→R (f i) H4)→(fun σ2 H2=>fD σc σ2∧te σ2 H2 R) ((σc.set j1 (some x)).set j2 (some y)) H')
 (hd:∀H',aa H1 H'→H' D=some (.lst ((List.range (min xs.length ys.length)).map f))→Q (.ref D) H'):gl (yK K a1 a2 c1 c2) σc (Be K 2 (vA (ow j1) (vA (ow j2) DV))) tT te D H1 Q:=by
 refine lI (n:=min xs.length ys.length) f hz hD (fun i H' hi sm=>⟨xs,ys,xs[i]'(by trivial),ys[i]'(by trivial),h1 H' sm,h2 H' sm,by rw [List.getElem?_eq_getElem (by trivial)],by rw [List.getElem?_eq_getElem (by trivial)]⟩) (fun H' sm=>⟨xs,ys,h1 H' sm,h2 H' sm,by trivial⟩) ?_ hd
 rintro i v H' H'' R hi sm ⟨T,x,y,hT,rfl,rfl,e1,e2⟩ k
 have st:=aa.new (o:=.tup [x,y]) hT
 exact ⟨T,(),ad.of aE,rfl,_,(),_,(),rfl,hs i x y _ R (e1 _ (h1 H' sm)) (e2 _ (h2 H' sm)) (sm.trans st) fun H4 s4=>k H4 (st.trans s4)⟩
end
end L2
namespace L2
theorem lW {tc:TT}{t u:TS}{D:fW}{σ:St}{H:Hp} (o1 o0:Hp→Prop) (hc:∀Q:Bool→Hp→Prop,(∀H',o1 H'→Q true H')→(∀H',o0 H'→Q false H')→tc σ H Q) (h1:∀H',o1 H'→t D σ H') (h0:∀H',o0 H'→u D σ H'):Di tc t u D σ H:=
 hc _ (fun H' o=>by rw [if_pos rfl];exact h1 H' o) fun H' o=>by rw [if_neg (by decide)];exact h0 H' o
theorem Bn {t u:TS}{D:fW}{σ:St}{H:Hp} (I:St→Hp→Prop) (rest:∀σ' H',I σ' H'→u D σ' H') (h:(∀σ' H',I σ' H'→u D σ' H')→t { D with nx:=u D } σ H):kH t u D σ H:=h rest
end L2
namespace L2
open PySem PySem.Spec PyProof.Rows
section
variable {X:Cx}{tg:Expr}
inductive FO (K:PySem.W.Frag) (x:V) (y:V) (H:Hp) (Q:VK):Prop
 | mk (a:_) (b:_) (xs:_) (ys:_) (h0:x=.ref a) (h1:y=.ref b) (h2:ad K H a xs) (h3:H a=some (.tup xs)) (h4:ad K H b ys) (h5:xs≠[]) (h6:xs.length+ys.length≤10000) (h7:∀p H',aa H H'→H' p=some (.tup (xs++ys))→Q (.ref p) H')
def ID (K:PySem.W.Frag):R2:=fun x y H Q=>FO K x y H Q
theorem yU {K:PySem.W.Frag} (e:X.K=K:=by rfl):cU X (binaryOp .Add) (ID K):=by
 subst e
 intro pins s σ H x y v u Q I rx ry h
 obtain ⟨a,b,xs,ys,e1,e2,ha,ha',hb,hx,hz,q⟩:=h
 refine Fe pins s σ H x y v u Q I rx ry ⟨a,b,xs,ys,e1,e2,ha,hb,hx,fA hz,fun z=>?_,fun z p hp=>q p _ (aa.new hp) aE⟩
 refine q a H (aa.refl _) ?_
 rw [z,List.append_nil];exact ha'
end
section
variable {X:Cx}{K:PySem.W.Frag}{o e:Expr}{es:List Expr}{to:TE}{t:TA}{name:Str}{apos cpos:Pos}{id:String}{r:V→List V→Hp→VK→Prop}
end
end L2
namespace L2
open PySem PyProof.Rows
def bS (X:Cx) (scope:Scope) (cl:List (Str×Addr)) (C:Addr) (N':List Str) (s:Shared) (H:Hp) (ex:List Addr) (pn:List (Addr×Obj)):Cx:=
 { s0 X scope cl C N' s H ex pn with fn:=fun x=>scope.names.lookup x==some .cell }
def mV (esc:Scope) (N:List Str) (scope:Scope) (N':List Str) (L:Nat) (src:List Nat):Bool:=
 (scope.kind==.function) && scope.names.all (fun y=>(y.2 != .cell || scope.names.lookup y.1==some .cell) && (y.2 != .local || scope.names.lookup y.1==some .local) && (y.2 != .free || esc.names.lookup y.1==some .cell || esc.names.lookup y.1==some .free)) &&
  (N'.length==L+src.length) && (List.range src.length).all fun i=>match src[i]?,N'[L+i]? with
   | some j,some x=>(N[j]?==some x) && (scope.names.lookup x==some .free)
   | _,_=>false
structure wC (esc:Scope) (N:List Str) (scope:Scope) (N':List Str) (L:Nat) (src:List Nat):Prop where
 kind:scope.kind=.function
 cells:∀y∈scope.names,y.2=.cell→scope.names.lookup y.1=some .cell
 loc:∀y∈scope.names,y.2=.local→scope.names.lookup y.1=some .local
 free:∀y∈scope.names,y.2=.free→esc.names.lookup y.1=some .cell∨esc.names.lookup y.1=some .free
 len:N'.length=L+src.length
 frees:∀(i j:Nat),src[i]?=some j→∃x,N'[L+i]?=some x∧N[j]?=some x∧scope.names.lookup x=some .free
theorem qN {esc:Scope}{N:List Str}{scope:Scope}{N':List Str}{L:Nat}{src:List Nat} (h:mV esc N scope N' L src=true):wC esc N scope N' L src:=by
 unfold mV at h
 simp only [Bool.and_eq_true,List.all_eq_true] at h
 obtain ⟨⟨⟨h1,h2⟩,h3⟩,h4⟩:=h
 refine ⟨by simpa using h1,fun y hy e=>?_,fun y hy e=>?_,fun y hy e=>?_,by simpa using h3,fun i j e=>?_⟩
 ·have:=(h2 y hy).1.1
  rw [e] at this
  simpa using this
 ·have:=(h2 y hy).1.2
  rw [e] at this
  simpa using this
 ·have:=(h2 y hy).2
  rw [e] at this
  simpa using this
 ·have hi:i<src.length:=(List.getElem?_eq_some_iff.mp e).1
  have:=h4 i (List.mem_range.mpr hi)
  rw [e] at this
  cases q:N'[L+i]? with
  | none=>rw [q] at this;simp at this
  | some x=>
   rw [q] at this
   simp only [Bool.and_eq_true,beq_iff_eq] at this
   exact ⟨x,rfl,this.1,this.2⟩
theorem kM:∀(names:List (Str×NameKind)) (n:Nat) (acc acc':List (Str×Addr)),cellsFrom n names (acc++acc')=cellsFrom n names acc++acc'
 | [],_,_,_=>rfl
 | (name,kind) :: r,n,acc,acc'=>by
  unfold cellsFrom
  split
  ·exact kM r (n+1) ((name,n) :: acc) acc'
  ·exact kM r n acc acc'
theorem qS (names:List (Str×NameKind)) (n:Nat) (acc:List (Str×Addr)):cellsFrom n names acc=cellsFrom n names []++acc:=kM names n [] acc
theorem ir {x:Str}{c:Addr}:∀(names:List (Str×NameKind)) (n:Nat) (acc:List (Str×Addr)),(x,c)∈cellsFrom n names acc→(x,NameKind.cell)∈names∨(x,c)∈acc
 | [],_,_,h=>.inr h
 | (name,kind) :: r,n,acc,h=>by
  unfold cellsFrom at h
  split at h
  ·rename_i hk
   rcases ir r (n+1) _ h with h | h
   ·exact .inl (List.mem_cons_of_mem _ h)
   ·rcases List.mem_cons.mp h with h | h
    ·injection h with h1 h2
     have hk':kind=.cell:=by simpa using hk
     rw [h1,hk'];exact .inl List.mem_cons_self
    ·exact .inr h
  ·rcases ir r n _ h with h | h
   ·exact .inl (List.mem_cons_of_mem _ h)
   ·exact .inr h
theorem kR {x:Str}:∀(names:List (Str×NameKind)) (n:Nat) (acc:List (Str×Addr)),(∃c,acc.lookup x=some c)→∃c,(cellsFrom n names acc).lookup x=some c
 | [],_,_,h=>h
 | (name,kind) :: r,n,acc,⟨c,h⟩=>by
  unfold cellsFrom
  split
  ·refine kR r (n+1) _ ?_
   rw [List.lookup_cons]
   cases hb:x==name with
   | true=>exact ⟨_,rfl⟩
   | false=>exact ⟨c,h⟩
  ·exact kR r n acc ⟨c,h⟩
theorem ji {x:Str}:∀(names:List (Str×NameKind)) (n:Nat) (acc:List (Str×Addr)),(x,NameKind.cell)∈names→∃c,(cellsFrom n names acc).lookup x=some c
 | (name,kind) :: r,n,acc,h=>by
  unfold cellsFrom
  rcases List.mem_cons.mp h with h | h
  ·injection h with h1 h2
   subst h1;subst h2
   rw [if_pos (show (NameKind.cell==NameKind.cell)=true from rfl)]
   exact kR r (n+1) _ ⟨n,by simp [List.lookup_cons]⟩
  ·split
   ·exact ji r (n+1) _ h
   ·exact ji r n acc h
theorem Ip {M:Model}{A:Around}{E:Value→Shared→Prop}{s:Shared}{scope:Scope}{globals:Addr}{cl:List (Str×Addr)}{qual:Str}{env:Env}{Q:Env→Shared→Prop}
 (h:Q { scope:=scope,locals:=s.heap.objs.size,globals:=globals,cells:=cellsFrom (s.heap.objs.size+1) scope.names cl,qual:=qual,func:=none,code:=env.code,frame:=env.frame,builtins:=env.builtins }
  { s with heap:=pushCells (s.heap.push { cls:=.type "dict",data:=.dict #[] }) scope.names }) :
 wpAny M A (newFunctionEnv scope globals cl [] qual none .none (some env)) Q E s:=by
 simp only [newFunctionEnv,Option.isSome_some,if_true]
 refine wpAny_bind (wpAny_alloc ?_)
 refine wpAny_bind (wpAny_layCells _ (fun name kind cells=>by cases hkc:kind==NameKind.cell <;> simp [hkc]) _ _ _ _ ?_)
 rw [show ({ s with heap:=s.heap.push { cls:=.type "dict",data:=.dict #[] } }:Shared).heap.objs.size=s.heap.objs.size+1 from Heap.size_push ..]
 exact wpAny_bind (by rw [List.forIn_nil];exact wpAny_pure (wpAny_pure h))
section
variable {X:Cx}{elt tg iter:Expr}{ifs:List Expr}{scope:Scope}{pos:Pos}{N':List Str}{L:Nat}{src:List Nat}{wi:TI}{g:TG}{tt:TT}{te:TE}
theorem wY (hc:X.calm=true) (ck:wC X.env.scope X.N scope N' L src) {cl:List (Str×Addr)}{pins:List (Addr×Obj)}{s:Shared}{σ:St}{H:Hp}{Q:VK} (I:ag X pins σ H s)
 (hsub:∀x c,cl.lookup x=some c→X.env.cells.lookup x=some c) (hhas:∀y∈scope.names,y.2=.free→∃c,cl.lookup y.1=some c)
 (hi:PI X tg iter wi) (hg:∀cl C s H ex pn,PG (bS X scope cl C N' s H ex pn) tg g) (hif:∀cl C s H ex pn,mX (bS X scope cl C N' s H ex pn) ifs tt)
 (he:∀cl C s H ex pn,PE (bS X scope cl C N' s H ex pn) elt te) (h:Bl wi L src g tt te σ H Q) {RR:Value→Addr→Result→Shared→Prop}
 (hRR:∀D C H' f s' m,ag X pins σ H' s'→s'.heap.Ns C m→jD X pins H' C→Q (.ref D) H'→RR (.ref D) C (.ok f) s') :
 wpAny (model X.prog X.w) X.A (eval iter X.env) (fun x s₁=>wpAny (model X.prog X.w) X.A (pyIter x) (fun it s₂=>wpAny (model X.prog X.w) X.A (newList []) (fun acc s₃=>
  wpAny (model X.prog X.w) X.A (newFunctionEnv scope X.env.globals cl [] X.env.qual none .none (some X.env)) (fun cenv s₄=>
   codeAny (model X.prog X.w) X.A (.compStart (.ListComp elt [⟨tg,iter,ifs,0⟩] scope pos) 0 it acc { cenv with scope:=relabel scope X.env }) (RR acc cenv.locals) s₄) X.xe s₃) X.xe s₂) X.xe s₁) X.xe s:=by
 refine aS (hi pins s σ H _ I h) fun v s1 h1=>aS h1 fun itv s2 h2=>?_
 obtain ⟨it,fp,tn,J,H2,e,I2,T,st2,f2,q⟩:=h2
 subst e
 refine wpAny_newObj_type (Ip ?_)
 dsimp only
 generalize hH2:s2.heap.push { cls:=.type "list",dict:=none,data:=.seq ([]:List Value).toArray }=hp2
 have hns₁:(pushCells (hp2.push { cls:=.type "dict",data:=.dict #[] }) scope.names).Ns hp2.objs.size fun _=>none:=(Heap.Ns.new hp2 (.type "dict")).keeps (pushCells_keeps _ _)
 have kp:∀b o,hp2.get? b=some o→(pushCells (hp2.push { cls:=.type "dict",data:=.dict #[] }) scope.names).get? b=some o:=fun b o e=>pushCells_keeps _ _ b o (Heap.get?_push_of_some _ e)
 have okc:=cellsFrom_ok scope.names (hp2.push { cls:=.type "dict",data:=.dict #[] }) (hp2.objs.size+1) [] ⟨fun _ _ hm=>(nomatch hm),List.Pairwise.nil⟩ (by rw [Heap.size_push];exact Nat.le_refl _)
 rw [Heap.size_push] at okc
 rw [qS]
 have ncell:∀x c,(cellsFrom (hp2.objs.size+1) scope.names []).lookup x=some c→(x,NameKind.cell)∈scope.names:=fun x c e=>(ir _ _ _ (PySem.mem_of_lookup e)).elim id (fun z=>by cases z)
 have nhas:∀x,(x,NameKind.cell)∈scope.names→∃c,(cellsFrom (hp2.objs.size+1) scope.names []).lookup x=some c:=fun x h=>ji _ _ _ h
 generalize pushCells (hp2.push { cls:=.type "dict",data:=.dict #[] }) scope.names=h₁ at hns₁ kp okc ⊢
 generalize cellsFrom (hp2.objs.size+1) scope.names []=nw at okc ncell nhas ⊢
 have hC:hp2.objs.size=s2.heap.objs.size+1:=by rw [←hH2,Heap.size_push]
 have hDC:s2.heap.objs.size≠hp2.objs.size:=by rw [hC];exact Nat.ne_of_lt (Nat.lt_succ_self _)
 have hCle:s2.heap.objs.size≤hp2.objs.size:=by rw [hC];exact Nat.le_succ _
 have below:∀b,b<s2.heap.objs.size→b≠hp2.objs.size∧b≠s2.heap.objs.size:=fun b hb=>⟨by rw [hC];exact Nat.ne_of_lt (Nat.lt_succ_of_lt hb),Nat.ne_of_lt hb⟩
 have old:∀b o,s2.heap.get? b=some o→h₁.get? b=some o:=fun b o e=>kp b o (hH2▸Heap.get?_push_of_some _ e)
 have hacc:h₁.get? s2.heap.objs.size=some { cls:=.type "list",dict:=none,data:=.seq ([]:List Value).toArray }:=kp _ _ (hH2▸Heap.get?_push_size _ rfl)
 have hDn:H2 s2.heap.objs.size=none:=I2.fresh
 obtain ⟨W,⟨m0,w0⟩,turn⟩:=q _ hDn
 have fpo:∀b∈fp,∃o,s2.heap.get? b=some o∧∀v,o.data≠.cell v:=T.obj _ _ st2
 have fplt:∀b∈fp,b<s2.heap.objs.size:=fun b hb=>by obtain ⟨o,e,_⟩:=fpo b hb;exact Heap.lt_size e
 have hfrs:∀b∈fp,b∉iJ X.stack:=fun b hb z=>by
  rcases List.mem_cons.mp (I2.stkSub b z) with z' | z'
  ·exact (f2 b hb).2.1 z'
  ·exact (f2 b hb).2.2.1 z'
 have spl:∀x c,(nw++cl).lookup x=some c→nw.lookup x=some c∨(nw.lookup x=none∧cl.lookup x=some c):=fun x c e=>by
  rw [List.lookup_append] at e
  cases q:nw.lookup x with
  | none=>rw [q] at e;exact .inr ⟨rfl,e⟩
  | some c'=>rw [q] at e;exact .inl e
 have nab:∀x c,nw.lookup x=some c→hp2.objs.size+1≤c:=fun x c e=>(okc.empty x c (PySem.mem_of_lookup e)).2
 have olt:∀x c,cl.lookup x=some c→c<s2.heap.objs.size:=fun x c e=>by
  obtain ⟨v,o,ho,_⟩:=I2.cell x c (hsub _ _ e)
  exact Heap.lt_size ho
 have n2o:∀x c y,nw.lookup x=some c→cl.lookup y=some c→False:=fun x c y e1 e2=>Nat.lt_irrefl c (Nat.lt_of_lt_of_le (olt y c e2) (Nat.le_trans hCle (Nat.le_of_succ_le (nab x c e1))))
 generalize hX:bS X scope (nw++cl) hp2.objs.size N' s2 H2 fp (X.pn++pins)=X'
 have ok':X'.Ok:=by
  subst hX
  refine ⟨I2.ok.mod,ck.kind,I2.ok.glob,I2.ok.blt,hCle,fun x y c e1 e2=>(spl x c e1).elim (fun g1=>(spl y c e2).elim (fun g2=>name_of_addr okc.apart (PySem.mem_of_lookup g1) (PySem.mem_of_lookup g2)) (fun g2=>(n2o x c y g1 g2.2).elim)) (fun g1=>(spl y c e2).elim (fun g2=>(n2o y c x g2 g1.2).elim) (fun g2=>I2.ok.inj x y c (hsub _ _ g1.2) (hsub _ _ g2.2))),fun x hx=>?_,fun x c z e=>?cab,I2.ok.hd,I2.ok.frames,.inl rfl,fun b hb=>⟨(below b (fplt b hb)).1,fun x c e=>(spl x c e).elim (fun g z=>Nat.lt_irrefl b (Nat.lt_of_lt_of_le (fplt b hb) (Nat.le_trans hCle (Nat.le_of_succ_le (z▸nab x c g))))) (fun g=>(f2 b hb).2.2.2.2.1 x c (hsub _ _ g.2))⟩,
   I2.bs,Nat.le_trans I2.ok.bsz I2.sz,fun b o e hb=>?_,hfrs,I2.stack,I2.stkFree⟩
  ·-- a name that is a cell or free
   have hx':(relabel scope X.env).names.lookup x=some .cell∨(relabel scope X.env).names.lookup x=some .free:=hx
   have cy:∀(names:List (Str×NameKind)),
    ((names.map fun (n,k)=>if (k==NameKind.free && X.env.scope.kind==.function && X.env.kindOf n==some .cell) then (n,NameKind.cell) else (n,k)).lookup x=some .cell∨
     (names.map fun (n,k)=>if (k==NameKind.free && X.env.scope.kind==.function && X.env.kindOf n==some .cell) then (n,NameKind.cell) else (n,k)).lookup x=some .free)→∃y∈names,y.1=x∧(y.2=.free∨y.2=.cell):=by
    intro names
    induction names with
    | nil=>intro h;rcases h with h | h <;> simp at h
    | cons y r ih=>
     intro h
     obtain ⟨n,k⟩:=y
     by_cases hb:x=n
     ·subst hb
      refine ⟨(x,k),List.mem_cons_self,rfl,?_⟩
      by_cases hk:k=.free
      ·exact .inl hk
      ·have hkb:(k==NameKind.free)=false:=by simpa using hk
       right
       simp only [List.map_cons,hkb,Bool.false_and,Bool.false_eq_true,if_false,List.lookup_cons,beq_self_eq_true,if_true] at h
       rcases h with h | h
       ·exact Option.some.inj h
       ·exact absurd (Option.some.inj h) hk
     ·have hb':(x==n)=false:=by simpa using hb
      have h':((r.map fun (n,k)=>if (k==NameKind.free && X.env.scope.kind==.function && X.env.kindOf n==some .cell) then (n,NameKind.cell) else (n,k)).lookup x=some .cell∨
       (r.map fun (n,k)=>if (k==NameKind.free && X.env.scope.kind==.function && X.env.kindOf n==some .cell) then (n,NameKind.cell) else (n,k)).lookup x=some .free):=by
       rw [List.map_cons] at h
       dsimp only at h
       by_cases hcnd:(k==NameKind.free && X.env.scope.kind==.function && X.env.kindOf n==some .cell)=true
       ·rw [if_pos hcnd] at h
        simpa only [List.lookup_cons,hb'] using h
       ·rw [if_neg hcnd] at h
        simpa only [List.lookup_cons,hb'] using h
      obtain ⟨y,hy,e1,e2⟩:=ih h'
      exact ⟨y,List.mem_cons_of_mem _ hy,e1,e2⟩
   obtain ⟨y,hy,e1,e2⟩:=cy scope.names hx'
   show ∃c,(nw++cl).lookup x=some c
   rw [List.lookup_append]
   cases q:nw.lookup x with
   | some c=>exact ⟨c,rfl⟩
   | none=>
    rcases e2 with e2 | e2
    ·obtain ⟨c,hc'⟩:=hhas y hy e2
     exact ⟨c,by rw [←e1,hc'];rfl⟩
    ·obtain ⟨c,hc'⟩:=nhas x (by obtain ⟨y1,y2⟩:=y;dsimp only at e1 e2;rw [←e1,←e2];exact hy)
     rw [q] at hc';cases hc'
  case cab=>
   have z':(scope.names.lookup x==some NameKind.cell)=true:=z
   obtain ⟨c',hc'⟩:=nhas x (PySem.mem_of_lookup (by simpa using z'))
   rcases spl x c e with g | g
   ·have:=nab x c g
    show s2.heap.objs.size≤c
    trivial
   ·rw [hc'] at g;cases g.1
  ·rcases (f2 b hb).2.2.2.1 with z | z
   ·exact I2.ok.noex b o e z
   ·exact absurd (Nat.lt_of_lt_of_le (Heap.lt_size e) (Nat.le_trans I2.ok.bsz z)) (Nat.lt_irrefl _)
 have stat:∀{H':Hp},(∀b∈fp,H' b=none)→∀b∈fp,jD X' [] H' b:=by
  subst hX
  intro H' hn b hb
  refine ⟨hn b hb,(below b (fplt b hb)).1,hfrs b hb,.inl hb,fun x c e=>(spl x c e).elim (fun g z=>Nat.lt_irrefl b (Nat.lt_of_lt_of_le (fplt b hb) (Nat.le_trans hCle (Nat.le_of_succ_le (z▸nab x c g))))) (fun g=>(f2 b hb).2.2.2.2.1 x c (hsub _ _ g.2)),fun p hp=>?_⟩
  have hp':p∈X.pn++pins:=by simpa [bS,s0] using hp
  exact (f2 b hb).2.2.2.2.2 p hp'
 have I1:ag X' [] (io L src σ) (aQ H2 s2.heap.objs.size (.lst [])) { s2 with heap:=h₁,toks:=s2.toks }:=by
  subst hX
  have up:∀b o,H2 b=some o→aQ H2 s2.heap.objs.size (.lst []) b=some o:=fun b o e=>by rw [aG (aY e hDn)];exact e
  have upn:∀b,b<s2.heap.objs.size→H2 b=none→aQ H2 s2.heap.objs.size (.lst []) b=none:=fun b hb e=>by rw [aG (Nat.ne_of_lt hb)];exact e
  refine ⟨ok',rfl,I2.bare,Un.laid old (Nat.le_refl _) hDn,⟨_,hns₁,fun i x v e1 e2 e3=>?_⟩,fun x c e=>?_,?_,fun x c e=>?_,fun p hp=>?_,I2.hok.laid old (Nat.le_refl _) ⟨Nat.zero_le _,[],0,.nil,hacc⟩,?_⟩
  ·-- the names of the def around
   have hiL:L≤i:=by
    by_cases hlt:i<L
    ·exfalso
     unfold io at e2
     rw [List.getElem?_append_left (by simpa using hlt),List.getElem?_replicate,if_pos hlt] at e2
     cases e2
    ·trivial
   have e2':(src.map fun j=>(σ[j]?).join)[i - L]?=some (some v):=by
    unfold io at e2
    rw [List.getElem?_append_right (by simpa using hiL),List.length_replicate] at e2
    exact e2
   rw [List.getElem?_map] at e2'
   cases hj:src[i - L]? with
   | none=>rw [hj] at e2';cases e2'
   | some j=>
    rw [hj] at e2'
    have e3':(σ[j]?).join=some v:=Option.some.inj e2'
    have hσ:σ[j]?=some (some v):=by
     cases q:σ[j]? with
     | none=>rw [q] at e3';cases e3'
     | some o=>rw [q] at e3';exact congrArg some e3'
    obtain ⟨x',g1,g2,g3⟩:=ck.frees (i - L) j hj
    have:L+(i - L)=i:=by trivial
    rw [this] at g1
    have ex:x'=x:=Option.some.inj (g1.symm.trans e1)
    subst ex
    have hfree:=ck.free _ (PySem.mem_of_lookup g3) rfl
    obtain ⟨m,hn,hl⟩:=I2.loc
    obtain ⟨u,r,l⟩:=hl j x' v g2 hσ (hfree.elim (fun z=>.inr (.inl z)) fun z=>.inr (.inr z))
    refine ⟨u,r,.inr ⟨?_,?_⟩⟩
    ·-- its kind in the block
     have cy:∀(names:List (Str×NameKind)),names.lookup x'=some .free→
      ((names.map fun (n,k)=>if (k==NameKind.free && X.env.scope.kind==.function && X.env.kindOf n==some .cell) then (n,NameKind.cell) else (n,k)).lookup x'=some .cell∨
       (names.map fun (n,k)=>if (k==NameKind.free && X.env.scope.kind==.function && X.env.kindOf n==some .cell) then (n,NameKind.cell) else (n,k)).lookup x'=some .free):=by
      intro names
      induction names with
      | nil=>intro h;simp at h
      | cons y r ih=>
       intro h
       obtain ⟨n,k⟩:=y
       by_cases hb:x'=n
       ·subst hb
        simp only [List.lookup_cons,beq_self_eq_true,if_true] at h
        have hk:k=.free:=Option.some.inj h
        subst hk
        rw [List.map_cons]
        dsimp only
        by_cases hcnd:(NameKind.free==NameKind.free && X.env.scope.kind==.function && X.env.kindOf x'==some .cell)=true
        ·rw [if_pos hcnd];left;simp [List.lookup_cons]
        ·rw [if_neg hcnd];right;simp [List.lookup_cons]
       ·have hb':(x'==n)=false:=by simpa using hb
        have h':=ih (by simpa only [List.lookup_cons,hb'] using h)
        rw [List.map_cons]
        dsimp only
        by_cases hcnd:(k==NameKind.free && X.env.scope.kind==.function && X.env.kindOf n==some .cell)=true
        ·rw [if_pos hcnd];simpa only [List.lookup_cons,hb'] using h'
        ·rw [if_neg hcnd];simpa only [List.lookup_cons,hb'] using h'
     exact cy scope.names g3
    ·obtain ⟨c,hcl⟩:=hhas _ (PySem.mem_of_lookup g3) rfl
     have hcx:=hsub _ _ hcl
     rcases l with ⟨k1,_⟩ | ⟨_,c',e4,z⟩
     ·exfalso
      have k1':X.env.scope.names.lookup x'=some .local:=k1
      rcases hfree with z | z
      ·rw [z] at k1';cases k1'
      ·rw [z] at k1';cases k1'
     ·rw [hcx] at e4
      cases e4
      obtain ⟨o,ho,hd⟩:=z
      refine ⟨c,?_,o,old _ _ ho,hd⟩
      show (nw++cl).lookup x'=some c
      rw [List.lookup_append]
      cases q:nw.lookup x' with
      | none=>exact hcl
      | some c'=>
       exfalso
       have:=ck.cells _ (ncell _ _ q) rfl
       dsimp only at this
       rw [g3] at this;cases this
  ·rcases spl x c e with g | g
   ·exact ⟨none,(okc.empty x c (PySem.mem_of_lookup g)).1⟩
   ·obtain ⟨v,o,ho,hd⟩:=I2.cell x c (hsub _ _ g.2)
    exact ⟨v,o,old _ _ ho,hd⟩
  ·show aQ H2 s2.heap.objs.size (.lst []) hp2.objs.size=none
   rw [aG (Ne.symm hDC)]
   exact I2.hok.fresh hCle
  ·rcases spl x c e with g | g
   ·have:=nab x c g
    rw [aG (by intro z;rw [z] at this;trivial)]
    exact I2.hok.fresh (by trivial)
   ·obtain ⟨v,o,ho,hd⟩:=I2.cell x c (hsub _ _ g.2)
    exact upn c (Heap.lt_size ho) (I2.freeC x c (hsub _ _ g.2))
  ·have hp':p∈X.pn++pins:=by simpa [bS,s0] using hp
   obtain ⟨e,n,ne,nf,d⟩:=I2.pin p hp'
   have hlt:=Heap.lt_size e
   refine ⟨old _ _ e,upn _ hlt n,(below _ hlt).1,fun z=>?_,d⟩
   rcases List.mem_cons.mp (I2.stkSub _ z) with z' | z'
   ·exact ne z'
   ·exact nf z'
  ·show (io L src σ).length=N'.length
   unfold io
   rw [List.length_append,List.length_replicate,List.length_map,ck.len]
 have eA:X'.A=X.A:=by subst hX;rfl
 have eP:X'.prog=X.prog:=by subst hX;rfl
 have eW:X'.w=X.w:=by subst hX;rfl
 have eK:X'.K=X.K:=by subst hX;rfl
 have ec:X'.calm=true:=by subst hX;exact hc
 have exe:X'.xe=fun _ _=>False:=by subst hX;rfl
 have eE:X'.env=compEnvC scope (nw++cl) hp2.objs.size X.env:=by subst hX;rfl
 have hg':PG X' tg g:=by subst hX;exact hg _ _ _ _ _ _
 have hif':mX X' ifs tt:=by subst hX;exact hif _ _ _ _ _ _
 have he':PE X' elt te:=by subst hX;exact he _ _ _ _ _ _
 have aft:∀{H':Hp}{s':Shared},ag X' [] (io L src σ) H' s'→ag X pins σ H' s'∧(∃m,s'.heap.Ns hp2.objs.size m)∧jD X pins H' hp2.objs.size:=by
  subst hX
  intro H' s' J
  refine ⟨I2.call' (ch:=fp) J.os J.base J.hok J.bare fun b hb=>⟨(f2 b hb).2.2.2.1,(f2 b hb).2.1,(f2 b hb).2.2.2.2.1,(f2 b hb).2.2.2.2.2⟩,?_,I2.fpOk hCle J.free⟩
  obtain ⟨m,hn,_⟩:=J.loc
  exact ⟨m,hn⟩
 have st1:tn 0 h₁:=T.keep _ _ _ st2 fun b hb o e=>old b o e
 have loop:∀s₃:Shared,s₃={ s2 with heap:=h₁,toks:=s2.toks }→
  codeAny (model X.prog X.w) X.A (.compLoop (.ListComp elt [⟨tg,iter,ifs,0⟩] scope pos) 0 (.ref it) (.ref s2.heap.objs.size) (compEnvC scope (nw++cl) hp2.objs.size X.env))
   (RR (.ref s2.heap.objs.size) hp2.objs.size) s₃:=by
  rintro s₃ rfl
  refine yy (fun n s'=>fP fun i H' ys=>ag X' [] (io L src σ) H' s'∧tn i s'.heap∧(∀b∈fp,H' b=none)∧W i n H' ys) ?_ m0
   ⟨0,_,[],I1,st1,fun b hb=>(by rw [aG (below b (fplt b hb)).2];exact (f2 b hb).1),w0⟩
  rintro n s3 ⟨i,H3,ys,I3,st3,fr3,w3⟩
  obtain ⟨hD,alt⟩:=turn i n H3 ys w3
  rcases alt with ⟨stop,qn⟩ | ⟨go,hlen,N,hN,step⟩
  ·have d:=T.done X' eP eW eK ec i [] s3 (io L src σ) H3 (fun _ _=>False) I3 (stat fr3) st3 stop
   rw [eA] at d
   refine aS d fun r s4 ⟨hr,I4⟩=>?_
   subst hr
   obtain ⟨J,⟨m,hn⟩,fpC⟩:=aft I4
   exact hRR _ _ H3 .next s4 m J hn fpC qn
  ·have d:=T.item X' eP eW eK ec i [] s3 (io L src σ) H3 (fun _ _=>False) I3 (stat fr3) st3 go
   rw [eA] at d
   refine aS d fun r s4 ⟨u,hr,h4⟩=>?_
   subst hr
   refine aS h4 fun _ s5 ⟨x,H5,I5,r5,y5,st5,fr5⟩=>?_
   have I5':=I5.pinned (stat fr5) (T.obj _ _ st5)
   have a1:=hg' _ s5 (io L src σ) H5 x u _ I5' r5 (step x H5 y5)
   rw [eP,eW,eA,eE,exe] at a1
   refine aS a1 fun _ s6 ⟨σ6,H6,I6,bk,q6⟩=>?_
   have a2:=hif' _ s6 σ6 H6 _ I6 q6
   rw [eP,eW,eA,eE,exe] at a2
   refine aS a2 fun b s7 ⟨H7,I7,q7⟩=>?_
   have again:∀{H8:Hp}{s8:Shared}{ys':List V},ag X' ([]++nI fp s5.heap) σ6 H8 s8→N H8 ys'→∃m,m<n∧fP fun i H' ys=>ag X' [] (io L src σ) H' s8∧tn i s8.heap∧(∀b∈fp,H' b=none)∧W i m H' ys:=fun {H8 s8 ys'} I8 n8=>by
    obtain ⟨m',hm,w8⟩:=hN H8 ys' n8
    refine ⟨m',hm,i+1,H8,ys',(I8.unpinned).weak bk.1.symm bk.2,T.keep _ _ _ st5 fun b hb o e=>(I8.pin (b,o) (List.mem_append_right _ (List.mem_append_right _ (fO hb e)))).1,fun b hb=>?_,w8⟩
    obtain ⟨o,e,d⟩:=T.obj _ _ st5 b hb
    exact (I8.pin (b,o) (List.mem_append_right _ (List.mem_append_right _ (fO hb e)))).2.1
   cases b with
   | false=>
    rw [if_neg Bool.false_ne_true] at q7 ⊢
    exact again I7 q7
   | true=>
    rw [if_pos rfl] at q7 ⊢
    have a3:=he' _ s7 σ6 H7 _ I7 q7
    rw [eP,eW,eA,eE,exe] at a3
    refine aS a3 fun xv s8 ⟨y,H8,I8,r8,hD8,q8⟩=>?_
    have a4:=sN (X:=X') _ s8 σ6 H8 (.ref s2.heap.objs.size) [y] (.ref s2.heap.objs.size) [xv] (fun _ H'=>H'=aQ H8 s2.heap.objs.size (.lst (ys++[y]))) I8 rfl (.cons r8 .nil) ⟨_,ys,y,rfl,rfl,hD8,hlen,rfl⟩
    rw [eP,eW,eA,exe] at a4
    refine aS a4 fun _ s9 ⟨_,H9,I9,_,e9⟩=>?_
    subst e9
    exact again I9 q8
 exact codeAny_compStart_list (loop _ rfl) (T.self _ 0 _ _ _ st1 (loop _ rfl))
theorem bq (hc:X.calm=true) (ck:mV X.env.scope X.N scope N' L src=true) (hi:PI X tg iter wi) (hg:∀cl C s H ex pn,PG (bS X scope cl C N' s H ex pn) tg g) (hif:∀cl C s H ex pn,mX (bS X scope cl C N' s H ex pn) ifs tt)
 (he:∀cl C s H ex pn,PE (bS X scope cl C N' s H ex pn) elt te) (hs:∀x,foldedSetIterable iter X.env x=pure x:=by intro _;rfl) :
 PE X (.ListComp elt [⟨tg,iter,ifs,0⟩] scope pos) (Bl wi L src g tt te):=by
 intro pins s σ H Q I h
 have ck:=qN ck
 obtain ⟨cl,hclos,hsub,hhas⟩:=wo (scope:=scope) (env:=X.env) fun y hy e=>I.ok.has y.1 (ck.free y hy e)
 rw [eval_ListComp]
 refine wpAny_comprehension_free (use:=none) rfl hs hclos ck.kind ck.loc (wY hc ck I hsub hhas hi hg hif he h (RR:=fun acc C=>compPost (model X.prog X.w) X.A X.xe none (EP X pins σ Q) acc C) ?_)
 intro D C H' f s' m J hn fpC q
 refine ⟨m,hn,fun h' hsb=>⟨.ref D,H',?_,rfl,q⟩⟩
 obtain ⟨f0,f1,f2,f3,f4,f5⟩:=fpC
 exact J.turned (t':=s'.toks) (fun b o hb e=>(hsb.2 b hb).trans e) f0 f1 f3 f4 f5
theorem jb {j:Nat}{y:Str}{py spos:Pos} (hN:X.N.Nodup) (hj:X.N[j]?=some y) (hy:X.env.scope.names.lookup y=some .local) (hsw:swapsWith (.ListComp elt [⟨tg,iter,ifs,0⟩] scope pos) (some (.Name y py)) spos.line X.env=pure true)
 (hc:X.calm=true) (ck:mV X.env.scope X.N scope N' L src=true) (hi:PI X tg iter wi) (hg:∀cl C s H ex pn,PG (bS X scope cl C N' s H ex pn) tg g) (hif:∀cl C s H ex pn,mX (bS X scope cl C N' s H ex pn) ifs tt)
 (he:∀cl C s H ex pn,PE (bS X scope cl C N' s H ex pn) elt te) (hs:∀x,foldedSetIterable iter X.env x=pure x:=by intro _;rfl) :
 PS X (.Assign [.Name y py] (.ListComp elt [⟨tg,iter,ifs,0⟩] scope pos) spos) (A5 (Bl wi L src g tt te) (ow j)):=by
 intro pins s σ H D I h
 have ck:=qN ck
 obtain ⟨cl,hclos,hsub,hhas⟩:=wo (scope:=scope) (env:=X.env) fun y hy e=>I.ok.has y.1 (ck.free y hy e)
 rw [exec_Assign_Name_used _ _ _ _ hsw]
 refine wpAny_bind (wpAny_standAt (wpAny_bind ?_))
 show wpAny _ X.A (do let _ ←comprehension (.ListComp elt [⟨tg,iter,ifs,0⟩] scope pos) scope X.env _ (newList []) false (eval iter X.env) (some (assign (.Name y py) X.env))) _ _ s
 refine wpAny_bind (wpAny_mono (wpAny_comprehension_free (use:=some (assign (.Name y py) X.env)) (Q:=fun _ s'=>SP X pins D .next s') rfl hs hclos ck.kind ck.loc
  (wY hc ck I hsub hhas hi hg hif he h (RR:=fun acc C=>compPost (model X.prog X.w) X.A X.xe (some (assign (.Name y py) X.env)) (fun _ s'=>SP X pins D .next s') acc C) ?_)) (fun _ s' hq=>wpAny_pure (wpAny_pure hq)) fun _ _ e=>e)
 intro L' C H' f s' m J hn fpC q
 show wpAny _ X.A (assign (.Name y py) X.env (.ref L')) _ _ _
 refine wpAny_assign_Name (xq J hN hj (.inl hy) (v:=.ref L') rfl (fun s2 J2 hsb=>?_) (.inr hy))
 obtain ⟨f0,f1,f2,f3,f4,f5⟩:=fpC
 obtain ⟨a,hsb,ha⟩:=hsb
 have hCa:C≠a:=by
  rcases ha with rfl | ha
  ·exact f1
  ·exact fun z=>f4 _ _ ha z.symm
 refine ⟨m,hn.sameBut hsb hCa,fun h' hsb'=>⟨_,H',?_,q⟩⟩
 exact J2.turned (t':=s2.toks) (fun b o hb e=>(hsb'.2 b hb).trans e) f0 f1 f3 f4 f5
end
end L2
namespace HT
open PySem PySem.Spec PyProof.Rows
section
variable {prog:Program}{w:World}{A:Around}{E:Value→Shared→Prop}{s:Shared}
theorem cat_tup0 {t b:Addr}{vs ws:List Value}{Q:Value→Shared→Prop} (ht:IsTup s.heap t vs.toArray) (hb:IsTup s.heap b ws.toArray) (hv:vs=[]) (h1:Q (.ref b) s):wpAny (model prog w) A (binaryOp .Add (.ref t) (.ref b)) Q E s:=by
 obtain ⟨⟨cls,dd,data,sl⟩,ho,hc,n,hd⟩:=id ht
 obtain ⟨⟨cls2,dd2,data2,sl2⟩,ho2,hc2,n2,hd2⟩:=id hb
 simp only at hc hd hc2 hd2
 subst hc hd hc2 hd2
 exact concat_meets ⟨_,ho,rfl⟩ ⟨_,ho2,rfl⟩ noFill_tuple_add seq_tuple_add PySem.F.slot_tuple_add PySem.F.entry_tuple_add (PySem.F.args_tuple_add_2 _ _)
  (tuple_addW0 t b vs.toArray ws.toArray n n2 dd dd2 sl sl2 (by simp [hv])) ⟨ho,ho2,h1⟩
theorem Da (xs:Array Value):((List.range xs.size).filterMap fun (k:Nat)=>xs[(((xs.size:Int) - 1)+(k:Int)*(-1)).toNat]?).toArray=xs.toList.reverse.toArray:=by
 have e:((List.range xs.size).filterMap fun (k:Nat)=>xs[(((xs.size:Int) - 1)+(k:Int)*(-1)).toNat]?)=((List.range xs.size).map fun k=>xs.size - 1 - k).filterMap fun (k:Nat)=>xs[k]?:=by
  rw [List.filterMap_map]
  have f:(fun (k:Nat)=>xs[(((xs.size:Int) - 1)+(k:Int)*(-1)).toNat]?)=((fun k=>xs[k]?) ∘ fun k=>xs.size - 1 - k):=by
   funext k
   show _=xs[xs.size - 1 - k]?
   congr 1
   trivial
  rw [f]
 rw [e,PySem.W.krv_range,List.filterMap_reverse,PySem.W.krv_all]
theorem A6 (n:Nat):Builtin.Slice.slicePlaces ((n:Int) - 1) (-1) (-1)=n:=by
 unfold Builtin.Slice.slicePlaces
 have h1:¬((-1:Int) > 0):=by decide
 simp only [h1,if_false]
 by_cases h:(n:Int) - 1 > -1
 ·simp only [h,if_true]
  rw [show (-(-1):Int)=1 by decide,Int.ediv_one]
  trivial
 ·simp only [h,if_false]
  trivial
theorem uK {sl:Addr}{vk:Value}{n:Nat}{R:Int×Int×Nat→Shared→Prop} (hs:s.heap.IsSliceOf sl .none .none vk) (pk:IsPart vk (some (-1))) (r:R (((n:Int) - 1),-1,n) s):wpAny (model prog w) A (Builtin.Slice.sliceApplied (.ref sl) (pure (n:Int))) R E s:=by
 obtain ⟨os,hos,hcs,hds⟩:=id hs
 unfold Builtin.Slice.sliceApplied Builtin.Slice.sliceFields
 refine wpAny_bind (wpAny_bind (wpAny_field hos hds (x:=.none) rfl (wpAny_bind (wpAny_field hos hds (x:=.none) rfl (wpAny_bind (wpAny_field hos hds (x:=vk) rfl (wpAny_pure ?_)))))))
 refine wpAny_bind (qD pk ?_)
 show wpAny _ _ (if ((-1:Int)==0)=true then _ else _) _ _ s
 rw [if_neg (by decide)]
 refine wpAny_bind (slicePart_none (wpAny_bind (slicePart_none (wpAny_bind (wpAny_pure ?_)))))
 show wpAny _ _ (pure (((n:Int) - 1),(-1:Int),Builtin.Slice.slicePlaces ((n:Int) - 1) (-1) (-1))) _ _ s
 rw [A6]
 exact wpAny_pure r
theorem getItem_tuple_rev {t sl:Addr}{items:Array Value}{vk:Value}{Q:Value→Shared→Prop} (ht:IsTup s.heap t items) (hs:s.heap.IsSliceOf sl .none .none vk) (pk:IsPart vk (some (-1)))
 (h:Q (.ref s.heap.objs.size) { s with heap:=s.heap.push { cls:=.type "tuple",data:=.seq items.toList.reverse.toArray } })
 (hsz:items.size≤sizeLine):wpAny (model prog w) A (getItem (.ref t) (.ref sl)) Q E s:=by
 have htake:sizeOk (.seq items.toList.reverse.toArray):=by
  show items.toList.reverse.toArray.size≤sizeLine
  rw [List.size_toArray,List.length_reverse,Array.length_toList]
  exact hsz
 obtain ⟨os,hos,hcs,hds⟩:=id hs
 have hTs:s.TypeIs (.ref sl) "slice" := ⟨os,hos,hcs⟩
 unfold getItem
 try with_reducible refine wpAny_holding ?_
 first | refine wpAny_bind (wpAny_pure ?_) | skip
 refine wpAny_bind (wpAny_sequenceKey ht.typeIs (by decide) ?_)
 refine wpAny_bind (wpAny_callSpecial?_slot (name:=Str.ofString "__getitem__") ht.typeIs PyProof.Rows.slot_tuple_getitem
  (wpAny_call_entry PyProof.Rows.slot_tuple_getitem ht.typeIs entry_tuple_getitem ?_ (args_tuple_getitem _ _)))
 show wpAny _ _ (Builtin.Tuple.tupleItemsOf (.ref t) >>= _) _ _ s
 refine wpAny_bind (tupleItemsOf_ ht ?_)
 refine wpAny_bind (wpAny_typeOf hTs ?_)
 rw [if_pos (by decide)]
 refine wpAny_bind (uK hs pk ?_)
 have hno:¬((((items.size:Int) - 1)==0 && (-1:Int)==1 && items.size==items.size)=true):=by
  intro q
  rw [Bool.and_eq_true,Bool.and_eq_true] at q
  exact absurd q.1.2 (by decide)
 show wpAny _ _ (if (((items.size:Int) - 1)==0 && (-1:Int)==1 && items.size==items.size)=true then _ else _) _ _ s
 rw [if_neg hno,Da]
 first
  | exact wpAny_bind (m:=Builtin.Tuple.tupleExact _) (wpAny_newObj_type (wpAny_pure ⟨_,rfl,wpAny_pure h⟩) htake)
  | exact wpAny_bind (m:=Builtin.Tuple.tupleExact _) (wpAny_newObj_type (wpAny_bind (wpAny_pure (wpAny_pure ⟨_,rfl,wpAny_pure h⟩))) htake)
end
end HT
namespace L2
open PySem PySem.Spec PyProof.Rows
section
variable {X:Cx}{K:PySem.W.Frag}
theorem CN (x:Str) (h:∀c∈x.cps.toList,c<128):(Txt.upper x).length=x.length∧∀c∈(Txt.upper x).cps.toList,c<128:=by
 obtain ⟨l,rfl⟩:∃l,x=S l:=⟨_,(zw x).symm⟩
 rw [vB] at h
 have cy:∀l:List Nat,(∀c∈l,c<128)→∃m:List Nat,Txt.upper (S l)=S m∧m.length=l.length∧∀c∈m,c<128:=by
  intro l
  induction l with
  | nil=>exact fun _=>⟨[],by nofun,rfl,fun c hc=>by cases hc⟩
  | cons c r ih=>
   intro h
   obtain ⟨m,e,lm,hm⟩:=ih fun d hd=>h d (List.mem_cons_of_mem _ hd)
   have hc:=h c (by simp)
   refine ⟨(if 97≤c∧c≤122 then c - 32 else c) :: m,?_,by simp [lm],fun d hd=>?_⟩
   ·have e1:S (c :: r)=(⟨#[c]⟩:Str)++S r:=vc [c] r |>.symm
    rw [e1,PySem.W.KOpn.upper_app,PySem.W.KOpn.upper_one hc,e]
    exact vc [if 97≤c∧c≤122 then c - 32 else c] m
   ·rcases List.mem_cons.mp hd with rfl | hd
    ·split <;> trivial
    ·exact hm d hd
 obtain ⟨m,e,lm,hm⟩:=cy l h
 rw [e,qF,qF,vB]
 exact ⟨lm,hm⟩
inductive IK (x:V) (vs:List V) (H:Hp) (Q:VK):Prop
 | mk (a:_) (m:_) (h0:x=.str a) (h1:vs=[]) (h2:oI m a) (h3:m≤10000) (h4:∀c,oI m c→Q (.str c) H)
def Ky:V→List V→Hp→VK→Prop:=fun x vs H Q=>IK  x vs H Q
theorem Et:yL X "str.upper" Ky:=by
 intro pins s σ H x vs v us Q I rx rv h
 obtain ⟨a,m,rfl,rfl,ta,hm,q⟩:=h
 obtain ⟨t,rfl⟩:=rx
 cases rv
 have u:=CN a ta.2
 refine PyProof.Rows.SCL.upper (by have:=ta.1;trivial) fun _=>⟨.str _,H,I.tok _,⟨()⟩,q _ ⟨by rw [u.1];exact ta.1,u.2⟩⟩
def Ob (c:Bool) (H:Hp) (a:Addr) (xs:List V):Prop:=H a=some (if c=true then .lst xs else .tup xs)
theorem Ob.sm {c:Bool}{H H':Hp}{a:Addr}{xs:List V} (h:Ob c H a xs) (s:aa H H'):Ob c H' a xs:=s _ _ h
inductive JC (x:V) (lo:Option Int) (hi:Option Int) (H:Hp) (Q:VK):Prop
 | mk (c:_) (a:_) (xs:_) (h0:x=.ref a) (h1:Ob c H a xs) (h2:∀p H',aa H H'→Ob c H' p (eX xs lo hi)→(c=true→H p=none)→Q (.ref p) H')
def Kw:V→Option Int→Option Int→Hp→VK→Prop:=fun x lo hi H Q=>JC  x lo hi H Q
theorem qq:zh X Kw:=by
 intro pins s σ H x v vl vu lo hi sl Q I rx hs pl pu h
 obtain ⟨c,a,xs,e,hx,q⟩:=h
 cases c with
 | true=>exact qH rfl pins s σ H x v vl vu lo hi sl Q I rx hs pl pu ⟨a,xs,e,ah.of hx,fun p H' n=>q p H' n.sm n.at' fun _=>n.fr⟩
 | false=>exact mL rfl pins s σ H x v vl vu lo hi sl Q I rx hs pl pu ⟨a,xs,e,ad.of hx,hx,fun p H' s' h'=>q p H' s' h' fun z=>(by cases z)⟩
inductive GU (x:V) (y:V) (H:Hp) (Q:VK):Prop
 | mk (c:_) (a:_) (b:_) (xs:_) (ys:_) (h0:x=.ref a) (h1:y=.ref b) (h2:Ob c H a xs) (h3:Ob c H b ys) (h4:xs.length+ys.length≤10000) (h5:∀p H',aa H H'→Ob c H' p (xs++ys)→(c=true→H p=none)→Q (.ref p) H')
def Ji:R2:=fun x y H Q=>GU  x y H Q
theorem mM:cU X (binaryOp .Add) Ji:=by
 intro pins s σ H x y v u Q I rx ry h
 obtain ⟨c,a,b,xs,ys,e1,e2,ha,hb,hz,q⟩:=h
 cases c with
 | true=>exact E7 pins s σ H x y v u Q I rx ry ⟨a,b,xs,ys,e1,e2,ha,hb,hz,fun p H' n=>q p H' n.sm n.at' fun _=>n.fr⟩
 | false=>
  by_cases hx:xs=[]
  ·subst e1 e2
   cases rx
   cases ry
   obtain ⟨its,r1,p1,_⟩:=I.tuple (ad.of ha)
   obtain ⟨its2,r2,p2,_⟩:=I.tuple (ad.of hb)
   refine HT.cat_tup0 p1 p2 (r1.nil_iff.mpr hx) ⟨.ref b,H,I,rfl,q b H (aa.refl _) ?_ fun z=>(by cases z)⟩
   rw [hx];exact hb
  ·exact yU rfl pins s σ H x y v u Q I rx ry ⟨a,b,xs,ys,e1,e2,ad.of ha,ha,ad.of hb,hx,hz,fun p H' s' h'=>q p H' s' h' fun z=>(by cases z)⟩
end
section
variable {X:Cx}{e:Expr}{te:TE}{st:Expr}{ts:TO}{p2 pos:Pos}
def IP:V→Hp→VK→Prop:=fun x H Q=>(bP fun a m=>x=.str a∧oI m a∧m≤10000∧∀c,oI m c→Q (.str c) H)∨
 fP fun c a xs=>x=.ref a∧Ob c H a xs∧∀p H',aa H H'→Ob c H' p xs.reverse→H p=none→Q (.ref p) H'
def JZ (te:TE) (ts:TO):TE:=fun σ H Q=>te σ H fun x H1=>ts σ H1 fun k H2=>k=some (-1)∧IP x H2 Q
theorem FU (he:PE X e te) (hst:PO X (some st) ts):PE X (.Subscript e (.Slice none none (some st) p2) pos) (JZ te ts):=by
 intro pins s σ H Q I h
 refine Subscript_ (aS (he pins s σ H _ I h) fun v s1 ⟨x,H1,I1,r1,q1⟩=>?_)
 refine wpAny_Slice ?_
 rw [evalPart_none]
 refine wpAny_pure (wpAny_pure (aS (hst pins s1 σ H1 _ I1 q1) fun vs s3 ⟨k,H3,I3,pk,q3⟩=>?_))
 obtain ⟨rfl,q3⟩:=q3
 have I4:ag X pins σ H3 { s3 with heap:=s3.heap.push { cls:=.type "slice",data:=.fields #[.none,.none,vs] } }:=I3.kept (t':=s3.toks) fun b ob q=>Heap.get?_push_of_some _ q
 rcases q3 with ⟨a,m,rfl,ta,hm,q⟩ | ⟨c,a,xs,rfl,hx,q⟩
 ·obtain ⟨t,rfl⟩:=r1
  obtain ⟨tk,ei⟩:∃(tk:Tok),vs=.int (-1) tk:=by
   cases pk with
   | int i t=>exact ⟨t,rfl⟩
  subst ei
  show wpAny (model X.prog X.w) X.A (subscriptTail e (.Slice none none (some st) p2) (.str a t) (.ref s3.heap.objs.size)) (EP X pins σ Q) X.xe { s3 with heap:=s3.heap.push { cls:=.type "slice",data:=.fields #[.none,.none,.int (-1) tk] } }
  refine tail_any (ops:=[.str a t,.ref s3.heap.objs.size]) (typeIs_str _ a t) F.slot_str_getitem.lookup ?_ (by with_unfolding_all rfl)
  refine wpAny_getItem_str_slice (l:=none) (u:=none) (st:=some (-1,tk)) ⟨_,Heap.get?_push_size _ rfl,rfl,rfl⟩ rfl ?_
  unfold sliceMade
  rw [if_neg (by intro z;rw [Bool.and_eq_true] at z;exact absurd z.1 (by show ¬(((-1:Int)==1)=true);decide))]
  have ep:slicePicked a none none (some (-1,tk))=(List.range a.length).reverse:=by
   show Builtin.Str.strSliceIndices none none (-1) a.length=_
   unfold Builtin.Str.strSliceIndices
   show sliceRange ((a.length:Int) - 1) (-1) (-1)=_
   rw [PySem.W.krv_sliceRange,PySem.W.krv_range]
  rw [ep]
  have er:((List.range a.length).reverse.filterMap fun x=>a.cps[x]?)=a.cps.toList.reverse:=by
   rw [List.filterMap_reverse]
   exact congrArg List.reverse (PySem.W.krv_all a.cps)
  rw [er]
  have hl:(⟨a.cps.toList.reverse.toArray⟩:Str).length=a.length:=by
   show a.cps.toList.reverse.toArray.size=_
   simp;rfl
  refine ⟨?_,.str ⟨_⟩,H3,I4.tok _,⟨()⟩,q _ ⟨by rw [hl];exact ta.1,fun c hc=>ta.2 c (by simpa using hc)⟩⟩
  show (⟨a.cps.toList.reverse.toArray⟩:Str).length≤_
  rw [hl]
  exact Nat.le_trans ta.1 (fA hm)
 ·cases r1
  cases c with
  | true=>
   obtain ⟨its,r,ht,hz⟩:=I4.list (ah.of hx)
   have hlen:=r.length
   show wpAny (model X.prog X.w) X.A (subscriptTail e (.Slice none none (some st) p2) (.ref a) (.ref s3.heap.objs.size)) (EP X pins σ Q) X.xe { s3 with heap:=s3.heap.push { cls:=.type "slice",data:=.fields #[.none,.none,vs] } }
   refine tail_any (ops:=[.ref a,.ref s3.heap.objs.size]) ht.isList.typeIs slot_list_getitem.lookup ?_ (by with_unfolding_all rfl)
   refine wpAny_getItem_list_slice ht.isList (Heap.IsSliceOf.new ..) .none .none pk (by decide) ?_ (by rw [List.size_toArray] <;> trivial)
   rw [PySem.W.krv_pick]
   have hf:=I4.hok.fresh (Nat.le_refl _)
   refine ⟨.ref (s3.heap.push { cls:=.type "slice",data:=.fields #[.none,.none,vs] }).objs.size,_,I4.laid (t':=s3.toks) (o:=.lst xs.reverse) (fun b ob q=>Heap.get?_push_of_some _ q) (Nat.le_refl _) ?_,rfl,q _ _ (aa.new hf) aE hf⟩
   exact ⟨by rw [List.length_reverse];exact hz,_,0,r.rev,Heap.get?_push_size _ rfl⟩
  | false=>
   obtain ⟨its,r,ht,hz⟩:=I4.tuple (ad.of hx)
   have hlen:=r.length
   show wpAny (model X.prog X.w) X.A (subscriptTail e (.Slice none none (some st) p2) (.ref a) (.ref s3.heap.objs.size)) (EP X pins σ Q) X.xe { s3 with heap:=s3.heap.push { cls:=.type "slice",data:=.fields #[.none,.none,vs] } }
   refine tail_any (ops:=[.ref a,.ref s3.heap.objs.size]) ht.typeIs PyProof.Rows.slot_tuple_getitem.lookup ?_ (by with_unfolding_all rfl)
   have hf:=I4.hok.fresh (Nat.le_refl _)
   refine HT.getItem_tuple_rev ht (Heap.IsSliceOf.new ..) pk ?_ (by rw [List.size_toArray] <;> trivial)
   refine ⟨.ref (s3.heap.push { cls:=.type "slice",data:=.fields #[.none,.none,vs] }).objs.size,_,I4.laid (t':=s3.toks) (o:=.tup xs.reverse) (fun b ob q=>Heap.get?_push_of_some _ q) (Nat.le_refl _) ?_,rfl,q _ _ (aa.new hf) aE hf⟩
   exact ⟨by rw [List.length_reverse];exact hz,_,r.rev,IsTup.new _ _,_,Heap.get?_push_size _ rfl,rfl⟩
end
def Ln (H H':Hp):Prop:=∀a us,H a=some (.tup us)→H' a=some (.tup us)
section
variable {H H' H'':Hp}{z n k m:Nat}{v:V}{E:Addr→Prop}{b th th' p:Addr}{xs ys zs:List V}
end
section
variable {E:Addr→Prop}{z:Nat}{H0:Hp}{σ:St}{n k m:Nat}{te tb:TE}{ta:TA}{v:V}{i:Nat}{p:Addr}{xs:List V}{K:PySem.W.Frag}
end
section
variable {b th:Addr}{H0:Hp}{σ:St}{zs:List V}{ta:TA}{te:TE}{n i:Nat}{Q:VK}{K:PySem.W.Frag}
end
theorem kK {te:TE}{i:Nat}{u:TS}{D:fW}{σ:St}{H:Hp} (h:∀Q:VK,(∀v H',u D (σ.set i (some v)) H'→Q v H')→te σ H Q):kH (A5 te (ow i)) u D σ H:=h _ fun _ _ z=>z
theorem DD {ta:TA}{i j:Nat}{u:TS}{D:fW}{σ:St}{H:Hp} (h:∀Q:List V→Hp→Prop,(∀v w H',u D ((σ.set i (some v)).set j (some w)) H'→Q [v,w] H')→ta σ H Q):kH (Ia i j ta) u D σ H:=h _ fun _ _ _ z=>⟨_,(),z⟩
theorem Ht {te:TE}{D:fW}{σ:St}{H:Hp} (h:∀Q:VK,(∀v H',D.rt v H'→Q v H')→te σ H Q):GF te D σ H:=h _ fun _ _ z=>z
theorem mP {α:Type}{P:List α→Prop} (h:∀a,P [a]):∀us:List α,us.length=1→P us:=fun us hl=>by
 cases us with
 | nil=>cases hl
 | cons a r=>cases r with
  | nil=>exact h a
  | cons b r=>simp at hl
theorem dR {α:Type}{P:List α→Prop} (h:∀a b,P [a,b]):∀us:List α,us.length=2→P us:=fun us hl=>by
 cases us with
 | nil=>cases hl
 | cons a r=>exact mP (P:=fun r=>P (a :: r)) (fun b=>h a b) r (by simpa using hl)
theorem j5 {α:Type}{P:List α→Prop} (h:∀a b c,P [a,b,c]):∀us:List α,us.length=3→P us:=fun us hl=>by
 cases us with
 | nil=>cases hl
 | cons a r=>exact dR (P:=fun r=>P (a :: r)) (fun b c=>h a b c) r (by simpa using hl)
theorem Eg {α:Type}{P:List α→Prop} (h:∀a b c d,P [a,b,c,d]):∀us:List α,us.length=4→P us:=fun us hl=>by
 cases us with
 | nil=>cases hl
 | cons a r=>exact j5 (P:=fun r=>P (a :: r)) (fun b c d=>h a b c d) r (by simpa using hl)
section
variable {X:Cx}{a:Expr}{ta:TA}{p p2 pos pos2:Pos}
inductive GY (x:V) (vs:List V) (H:Hp) (Q:VK):Prop
 | mk (l:_) (xs:_) (i:_) (y:_) (h0:x=.ref l) (h1:vs=[.int (i:Nat)]) (h2:H l=some (.lst xs)) (h3:xs.length≤10000) (h4:xs[i]?=some y) (h5:∀H',Ch H l (xs.eraseIdx i) H'→Q y H')
def Jh:V→List V→Hp→VK→Prop:=fun x vs H Q=>GY  x vs H Q
theorem Gi:yv X "list.pop" Jh:=by
 intro pins s σ H x vs v us Q I rx rv h
 obtain ⟨l,xs,i,y,e1,e2,hH,hz,hy,q⟩:=h
 have hi:i<xs.length:=(List.getElem?_eq_some_iff.mp hy).1
 refine DU pins s σ H x vs v us Q I rx rv ⟨l,xs,_,i,y,e1,e2,hH,by trivial,by trivial,?_,hy,q _ .mk'⟩
 have h0:¬((i:Int)<0):=by trivial
 simp [seqIndex?,h0,hi]
end
section
variable {prog:Program}{w:World}{A:Around}{E:Value→Shared→Prop}{s:Shared}
variable {z TI TO i1 i2 l1 l2 T:Addr}{k:Nat}{xs ys:Array Value}{bb:Bool}{c1 c2:Bool}{oT:Obj}
end
theorem i5:entryFor table "dict.update.loop" = some Builtin.«dict.update.loop»:=entryFor_of_tree (by kernel_rfl)
theorem d6:plainId "dict.update.loop" = true:=by nofun
section
variable {prog:Program}{w:World}{A:Around}{E:Value→Shared→Prop}{R:Result→Shared→Prop}
variable {z TI TO i1 i2 l1 l2 d:Addr}{xs ys:Array Value}{c1 c2:Bool}{ks:List bc}
end
section
variable {X:Cx}{K:PySem.W.Frag}{a b:Expr}{ta:TA}{p1 p2 p3 p4:Pos}
theorem Cq {P:Program}{w:World}{k:bc}{u:Value} (r:bj (HP k) u):(dU P w).is k u=true:=(FH r).1
end
section
variable {X:Cx}
end
section
variable {prog:Program}{w:World}{A:Around}{E:Value→Shared→Prop}{s:Shared}
variable {n l1 l2 l3 T:Nat}{k:Nat}{xs ys zs:Array Value}{bb:Bool}{oT:Obj}
end
section
variable {prog:Program}{w:World}{A:Around}{E:Value→Shared→Prop}{s:Shared}
variable {n l1 l2 l3:Nat}{k:Nat}{xs ys zs:Array Value}
end
section
variable {prog:Program}{w:World}{A:Around}{E:Value→Shared→Prop}{R:Result→Shared→Prop}
variable {n l1 l2 l3:Nat}{xs ys zs:Array Value}
end
section
variable {prog:Program}{w:World}{A:Around}{E:Value→Shared→Prop}{s:Shared}
end
section
variable {X:Cx}{pins:List (Addr×Obj)}{σ:St}{H:Hp}{s:Shared}{h':Heap}
end
section
variable {X:Cx}{K:PySem.W.Frag}{a b c:Expr}{ta:TA}{p1 p2 p3 p4:Pos}
end
theorem wQ:typeLookup (.type "list") "keys" = pure none:=am_miss_of_fast (by kernel_rfl)
section
variable {prog:Program}{w:World}{A:Around}{E:Value→Shared→Prop}{s:Shared}
theorem tN {a:Addr}{xs:Array Value}{k:Nat}{name:Str}{Q:Option Value→Shared→Prop} (hmiss:typeLookup (.type "list") name=pure none) (hname:(["__module__", "__name__", "__qualname__", "__doc__", "__annotations__"]:List Str).contains name=false) (hsz:name.length+100≤sizeLine)
 (hx:s.heap.get? a=some { cls:=.type "list",dict:=none,data:=.seq xs k,slots:=#[] }) (hA:A.handled=none)
 (h:∀h' tk,(∀b o,s.heap.get? b=some o→h'.get? b=some o)→Q none { s with heap:=h',toks:=tk }) :
 wpAny (model prog w) A (getAttr? (.ref a) name) Q E s:=by
 obtain ⟨hp,g,d,tk,os⟩:=s
 have hT:∀tk',(⟨hp,g,d,tk',os⟩:Shared).TypeIs (.ref a) "list" := fun _=>⟨_,hx,rfl⟩
 have f1:=sub_AttributeError
 have f3:=F.slot_list_getattribute.lookup
 have f4:=F.slot_list_getattribute.bind (.ref a)
 have f5:=am_list_getattr_none
 unfold getAttr? getAttrBy? getAttrBy
 repeat (any_goals (first | assumption | exact hT _ | ((with_reducible show wpAny _ _ (call (Value.builtin "list.__getattribute__") _ _) _ _ _);refine call_meets F.slot_list_getattribute (hT _) am_entry_list_getattribute (F.args_list_getattribute_2 _ _) (meets_getattribute_miss_list a xs k #[] name _ hmiss hname hsz) ⟨hx,hA,fun h' tk' e hx'=>?_⟩) | wp_step))
 obtain ⟨t',u',he⟩:=hx'.there
 show wpAny _ _ (getattributeRaised _ _ _ _ _ _ _) _ _ _
 unfold getattributeRaised
 repeat (any_goals (first | assumption | wp_step))
 exact h _ _ hx'.keeps
end
section
variable {prog:Program}{w:World}{A:Around}{E:Value→Shared→Prop}{R:Result→Shared→Prop}
variable {l it d:Nat}{vs:Array Value}{ks:List bc}{us:List Value}
end
section
variable {X:Cx}
theorem qh {α:Type}{p:Nat→α→Prop}:∀n,(∀i,i<n→∃a,p i a)→∃as:List α,as.length=n∧∀(i:Nat) a,as[i]?=some a→p i a
 | 0,_=>⟨[],rfl,fun i a h=>by simp at h⟩
 | n+1,h=>by
  obtain ⟨as,l,q⟩:=qh n fun i hi=>h i (by trivial)
  obtain ⟨a,ha⟩:=h n (by trivial)
  refine ⟨as++[a],by rw [List.length_append,l];rfl,fun i b hb=>?_⟩
  by_cases c:i<n
  ·rw [List.getElem?_append_left (by trivial)] at hb
   exact q i b hb
  ·have hlt:=(List.getElem?_eq_some_iff.mp hb).1
   rw [List.length_append] at hlt
   simp at hlt
   obtain rfl:i=n:=by trivial
   rw [List.getElem?_append_right (by trivial),l,Nat.sub_self] at hb
   obtain rfl:a=b:=Option.some.inj hb
   exact ha
end
section
variable {X:Cx}
inductive FA (x:V) (y:V) (H:Hp) (Q:VK):Prop
 | mk (a c:Addr) (xs:List V) (h0:x=.ref a) (h1:y=.ref c) (h2:H a=some (.lst xs)) (h3:H c=some (.lst [])) (h4:Q (.bl (!xs.isEmpty)) H)
def Gy:R2:=fun x y H Q=>FA  x y H Q
theorem yR (hu:X.A.units+64<cLine):cU X (compareOp .NotEq) Gy:=by
 intro pins s σ H x y v u Q I rx ry h
 obtain ⟨a,c,xs,rfl,rfl,ha,hc,q⟩:=h
 cases rx
 cases ry
 obtain ⟨z,its,n,r,hl,e⟩:=I.lstM ha
 obtain ⟨z2,its2,n2,r2,hl2,e2⟩:=I.lstM hc
 have h0:its2=[]:=List.eq_nil_of_length_eq_zero hl2.symm
 subst h0
 have l1:s.heap.IsList a its.toArray:=⟨_,e,rfl,()⟩
 have l2:s.heap.IsList c (#[]:Array Value):=⟨_,e2,rfl,()⟩
 have hu':X.A.units<cLine:=by trivial
 cases xs with
 | nil=>
  have:its=[]:=List.eq_nil_of_length_eq_zero hl.symm
  subst this
  refine (PySem.SeqAt.RcNeAt.lists (e:=fun _=>true) l1 l2 rfl hu' (fun j j1 j2=>absurd j1 (by simp))) X.prog X.w X.xe _ ?_
  exact ⟨.bl _,H,I,rfl,q⟩
 | cons y ys=>
  refine (PySem.SeqAt.RcNeAt.lists_lengths l1 l2 (by simp at hl ⊢;exact fun z=>by rw [z] at hl;simp at hl) hu') X.prog X.w X.xe _ ?_
  exact ⟨.bl _,H,I,rfl,q⟩
inductive Hr (x:V) (vs:List V) (H:Hp) (Q:VK):Prop
 | mk (l:_) (b:_) (xs:_) (zs:_) (h0:x=.ref l) (h1:vs=[.ref b]) (h2:H l=some (.lst xs)) (h3:H b=some (.lst zs)) (h4:xs.length+zs.length≤10000) (h5:∀H',Ch H l (xs++zs) H'→Q .non H')
def Ja:V→List V→Hp→VK→Prop:=fun x vs H Q=>Hr  x vs H Q
theorem Bz:yv X "list.extend" Ja:=fun pins s σ H x vs v us Q I rx rv ⟨l,b,xs,zs,e1,e2,h,h',hz,q⟩=>Ck pins s σ H x vs v us Q I rx rv ⟨l,b,xs,zs,e1,e2,h,h',(by rw [sizeLine_eq];trivial),q _ .mk'⟩
end
theorem Le {α:Type}{P:List α→Prop} (h:∀a b c d e,P [a,b,c,d,e]):∀us:List α,us.length=5→P us:=fun us hl=>by
 cases us with
 | nil=>cases hl
 | cons a r=>exact Eg (P:=fun r=>P (a :: r)) (fun b c d e=>h a b c d e) r (by simpa using hl)
structure Gb (a b:Nat) (p:KM.Fra):Prop where
 n:Sz a p.1
 d:Sz b p.2
 pos:1≤p.2
theorem Gb.mono {a b a' b':Nat}{p:KM.Fra} (h:Gb a b p) (ha:a≤a') (hb:b≤b'):Gb a' b' p:=⟨h.n.mono ha,h.d.mono hb,h.pos⟩
theorem BF {a b:Nat}{n d:Int} (hn:Sz a n) (hd:Sz b d) (h0:0<d):Gb a b (KM.low n d):=by
 have:=KM.low_spec n d (by trivial)
 exact ⟨hn.le this.2.2.2.1,hd.le this.2.2.2.2,this.1⟩
theorem Gb.tim {a b c d e f:Nat}{p q:KM.Fra} (h:Gb a b p) (k:Gb c d q) (h1:a+c≤e) (h3:b+d≤f):Gb e f (KM.lTim p q):=
 BF ((h.n.mul k.n).mono h1) ((h.d.mul k.d).mono h3) (Int.mul_pos (by have:=h.pos;trivial) (by have:=k.pos;trivial))
end L2
namespace L2
open PySem PySem.Spec PyProof.Rows
section
variable {X:Cx}
structure xg (H:Hp) (p:Addr) (o:HO) (H':Hp):Prop where
 at':H' p=some o
 ol:∀a u,a≠p→H a=some u→H' a=some u
 fre:∀a,a≠p→H a=none→H' a=none
theorem xg.mk' {H:Hp}{p:Addr}{o:HO}:xg H p o (aQ H p o):=⟨aE,fun a u n h=>by rw [aG n];exact h,fun a n h=>by rw [aG n];exact h⟩
end
section
variable {prog:Program}{w:World}{A:Around}{R:Result→Shared→Prop}{s:Shared}
end
section
variable {X:Cx}{kx vx tg iter:Expr}{ifs:List Expr}{scope:Scope}{pos:Pos}{N':List Str}{L:Nat}{src:List Nat}{wi:TI}{g:TG}{tt:TT}{tk tv:TE}
end
end L2
namespace KM
variable {ls:List (List Nat)}{es done:List Edge}{W u:List Nat→Rat}{S:List (List Nat)}{q:List Nat}{m:Rat}
end KM
namespace L2
open PySem PySem.Spec PyProof.Rows
mutual
inductive Wv (z:Nat):PyData→Nat→Nat→Prop
 | non {n k:Nat} (hn:1≤n):Wv z .none n k
 | bl (b:Bool) {n k:Nat} (hn:1≤n):Wv z (.bool b) n k
 | int {i:Int} (h:Sz z i) {n k:Nat} (hn:1≤n):Wv z (.int i) n k
 | str {x:Str} (h:IC x) {n k:Nat} (hn:1≤n):Wv z (.str x) n k
 | list {xs:List PyData}{m l n k:Nat} (h:oV z xs m l) (hn:m+1≤n) (hk:l+1≤k):Wv z (.list xs) n k
 | tuple {xs:List PyData}{m l n k:Nat} (h:oV z xs m l) (hn:m+1≤n) (hk:l+1≤k):Wv z (.tuple xs) n k
inductive oV (z:Nat):List PyData→Nat→Nat→Prop
 | nil {n k:Nat}:oV z [] n k
 | cons {x:PyData}{xs:List PyData}{m l n k:Nat} (h:Wv z x m k) (r:oV z xs l k) (hn:m+l≤n):oV z (x :: xs) n k
end
theorem Wv.up {z:Nat}{d:PyData}{n k n' k':Nat} (h:Wv z d n k) (hn:n≤n') (hk:k≤k'):Wv z d n' k':=by
 cases h with
 | non h=>exact .non (by trivial)
 | bl b h=>exact .bl b (by trivial)
 | int h hn'=>exact .int h (by trivial)
 | str h hn'=>exact .str h (by trivial)
 | list h h1 h2=>exact .list h (by trivial) (by trivial)
 | tuple h h1 h2=>exact .tuple h (by trivial) (by trivial)
mutual
theorem Wv.wt {z:Nat} (hz:z≤1900):∀{d:PyData}{n k:Nat},Wv z d n k→∃m,m≤n∧Wt d m k
 | _,_,_,.non h=>⟨1,h,.non⟩
 | _,_,_,.bl b h=>⟨1,h,.bl b⟩
 | _,_,_,.int h hn=>⟨1,hn,.int (h.mono (by trivial))⟩
 | _,_,_,.str h hn=>⟨1,hn,.str h⟩
 | _,_,_,.list h hn hk=>by
  obtain ⟨m,h1,h2⟩:=oV.wt hz h
  exact ⟨m+1,by trivial,Wt.deep (.list h2) hk⟩
 | _,_,_,.tuple h hn hk=>by
  obtain ⟨m,h1,h2⟩:=oV.wt hz h
  exact ⟨m+1,by trivial,Wt.deep (.tuple h2) hk⟩
theorem oV.wt {z:Nat} (hz:z≤1900):∀{ds:List PyData}{n k:Nat},oV z ds n k→∃m,m≤n∧dC ds m k
 | _,_,_,.nil=>⟨0,Nat.zero_le _,.nil⟩
 | _,_,_,.cons h r hn=>by
  obtain ⟨m,h1,h2⟩:=Wv.wt hz h
  obtain ⟨l,h3,h4⟩:=oV.wt hz r
  exact ⟨m+l,by trivial,.cons h2 h4⟩
end
section
variable {z:Nat}{E:Addr→Prop}{H H':Hp}{n m k:Nat}{v:V}{xs ys:List V}
end
section
variable {X:Cx}{K:PySem.W.Frag}
end
end L2
namespace L2
open PySem PySem.Spec PyProof.Rows
section
variable {X:Cx}
end
end L2
namespace L2
open PySem
end L2
namespace L2
open PySem PySem.Spec PyProof.Rows
section
variable {prog:Program}{w:World}{A:Around}{E:Value→Shared→Prop}{hp:Heap}{gs:Array GenState}{dr:Drawn}{tk:Nat}{os:OsState}
variable {nm qn:Str}{C N:Addr}{bs bm bB:List Value}{hd:Bool}{sn:List Str}{sb:List Value}{ab:Bool}{cl:Option Bool}{dd:Option Addr}{k0 k1 k2 k3 k5:Option Value}{B nw ni:String}
end
end L2
namespace L2
open PySem PySem.Spec PyProof.Rows PySem.W
section
variable {prog:Program}{w:World}{A:Around}{E:Value→Shared→Prop}{s:Shared}{K:Frag}{x C:Addr}{ox:Obj}{od:Option Obj}{name:Str}{fill expr:Bool}
end
end L2
namespace L2
open PySem PySem.Spec PyProof.Rows PySem.W PySem.Builtin.ObjectAttr
section
variable {prog:Program}{w:World}{A:Around}{E:Value→Shared→Prop}{s:Shared}{K:Frag}{x C:Addr}{ox:Obj}{name:Str}{v:Value}
end
section
variable {prog:Program}{w:World}{A:Around}{E:Value→Shared→Prop}{s:Shared}{K:Frag}{x C:Addr}{ox:Obj}{od:Option Obj}{a0:Value}
end
end L2
namespace L2
open PySem PySem.Spec PyProof.Rows
section
variable {X:Cx}{pins:List (Addr×Obj)}{σ:St}{H:Hp}{s:Shared}{h':Heap}
end
section
variable {X:Cx}{C f:Addr}{x:Str}{p pos:Pos}{e:Expr}{es:List Expr}{t:TA}{k:Nat}{fd:FuncData}{ps:List Str}{sp:Sp}{E:XK}
end
theorem uh:bootBuiltins "repr" = some (.builtin "repr"):=by nofun
section
variable {X:Cx}
theorem vC {k:Nat} (hr:fY k X.A):d8 X (.builtin "repr") JE:=by
 intro pins s σ H xs us Q I r h
 obtain ⟨a,d,E,n,k,rfl,hd,w,hn,hk,q⟩:=h
 obtain ⟨u,rfl,ru⟩:=r.one
 obtain rfl:u=.ref a:=ru
 obtain ⟨as,rr⟩:=hd.reads I.hok (u:=.ref a) rfl
 refine repr_of_reads' rr w.sho (PyData.noDict_hsm w.nod) hr.gd (by have:=hr.units;have:=w.dep;trivial) (fun _ _ e=>e) (fun h' u tk hk=>?_) (by have:=w.len;rw [sizeLine_eq];trivial)
 exact ⟨.str _,H,I.kept hk,⟨()⟩,q⟩
end
section
variable {M:Model}{A:Around}{E:Value→Shared→Prop}{s:Shared}{base:Heap}{env:Env}{outer:List Env}{L a T:Addr}{C head:Value}{dx:Option Addr}{vs:Array Value}{sl:Array (Option Value)}{hn:Bool}{Q:Unit→Shared→Prop}
end
section
variable {X:Cx}{pins:List (Addr×Obj)}{σ:St}{H:Hp}{s:Shared}{h':Heap}{a T C:Addr}{dx:Option Addr}{φ:Heap→Prop}{ch:List Addr}{fl:Value}
end
section
variable {P:Program}{w:World}{K:PySem.W.Frag}{mg:Str→Option Value}{base:Heap}{N:List Str}{qual:Str}{scope:Scope}{f:Addr}{cd:Value}{A:Around}{outer:List Env}{s:Shared}{H:Hp}{E:XK}
end
section
variable {M:Model}{A:Around}{E:Value→Shared→Prop}{s:Shared}{env:Env}
end
section
variable {X:Cx}{e:Expr}{te:TE}{pos:Pos}{E:XK}
end
section
variable {X:Cx}{pins:List (Addr×Obj)}{σ σ':St}{H:Hp}{s:Shared}{h':Heap}
end
section
variable {X:Cx}{CX:mi}{k:Nat}{f:Addr}{fd:FuncData}{ps:List Str}{sp:Sp}{EE:St→XK}{x:Str}{p pos:Pos}{e:Expr}{es:List Expr}{t:TA}
end
section
variable {X:Cx}{pins pins' pn:List (Addr×Obj)}{σ:St}{H:Hp}{s:Shared}{xe:Value→Shared→Prop}
end
section
variable {X:Cx}{body suite:List Stmt}{b0:Stmt}{x n:Str}{hpos pos np:Pos}{tb:(St→XK)→TS}{th:TS}{Cc:Addr}{i:Nat}
end
section
variable {X:Cx}{C:Addr}{e:Expr}{pos:Pos}
end
section
variable {X:Cx}
end
section
variable {X:Cx}
end
def qm:Nat→List Obj→PySem.W.Frag
 | _,[]=>[]
 | n,o :: r=>match o.data with
  | .freed=>qm (n+1) r
  | _=>(n,o) :: qm (n+1) r
def fragOf (h:Heap):PySem.W.Frag:=qm 0 h.objs.toList
theorem xG:∀(l:List Obj) (n a:Nat) (o:Obj),List.lookup a (qm n l)=some o→∃k,a=n+k∧l[k]?=some o∧o.data≠.freed
 | [],n,a,o,e=>nomatch e
 | p :: r,n,a,o,e=>by
  have step:List.lookup a (qm (n+1) r)=some o→∃k,a=n+k∧(p :: r)[k]?=some o∧o.data≠.freed:=fun e=>by
   obtain ⟨k,e1,e2,e3⟩:=xG r (n+1) a o e
   exact ⟨k+1,by trivial,by simpa using e2,e3⟩
  unfold qm at e
  split at e
  ·exact step e
  ·rename_i hf
   by_cases q:a=n
   ·subst q
    simp only [List.lookup_cons,beq_self_eq_true] at e
    cases e
    exact ⟨0,rfl,rfl,hf⟩
   ·have q':(a==n)=false:=by simpa using q
    simp only [List.lookup_cons,q'] at e
    exact step e
theorem CA (h:Heap):PySem.W.Frag.In (fragOf h) h:=fun a o e=>by
 obtain ⟨k,e1,e2,e3⟩:=xG _ 0 a o e
 have e1':a=k:=e1.trans (Nat.zero_add k)
 subst e1'
 unfold Heap.get?
 have:h.objs[a]?=some o:=by simpa using e2
 rw [this]
 cases o with
 | mk c d x s=>
  cases x <;> first | rfl | exact absurd rfl e3
def sk:Option (Option Value)→Addr
 | some (some (.ref a))=>a
 | _=>0
def EG:Option (Option Value)→Bool
 | some (some (.ref _))=>true
 | _=>false
def Ex:Option (Option Value)→Bool
 | some none=>true
 | _=>false
theorem Iz {v:Option (Option Value)} (e:EG v=true):v=some (some (.ref (sk v))):=by
 unfold EG at e;split at e
 ·rfl
 ·cases e
theorem dn {v:Option (Option Value)} (e:Ex v=true):v=some none:=by
 unfold Ex at e;split at e
 ·rfl
 ·cases e
def Ac (K:PySem.W.Frag) (v:Option (Option Value)):Obj:=(List.lookup (sk v) K).getD ⟨.none,none,.plain,#[]⟩
def LA:FuncData:=PySem.W.fnOf (PySem.Str.mk #[]) (PySem.Str.mk #[]) ⟨[],[],none,[],[],none,[]⟩ [] ⟨.function,[],false,false,[]⟩ .none .none .none .none none .none .none
def iY (K:PySem.W.Frag) (v:Option (Option Value)):FuncData:=match (Ac K v).data with
 | .func fd=>fd
 | _=>LA
def bare (fd:FuncData):FuncData:={ fd with kwdefaults:=.none,doc:=.none,pyModule:=.none,annotations:=none,code:=.none,closureTuple:=.none }
def sC (K:PySem.W.Frag) (v:Option (Option Value)) (q:Str):Option FuncData:=
 match EG v && PySem.W.codeIn K (iY K v).code q && PySem.W.keepIn K (.ref (sk v)) with
 | false=>none
 | true=>match List.lookup (sk v) K with
  | some ⟨_,_,.func fd,_⟩=>some (bare fd)
  | _=>none
theorem wW {K:PySem.W.Frag}{v:Option (Option Value)}{q:Str}{x:FuncData} (e:sC K v q=some x) :
 v=some (some (.ref (sk v)))∧PySem.W.codeIn K (iY K v).code q=true∧PySem.W.keepIn K (.ref (sk v))=true∧
  List.lookup (sk v) K=some ⟨(Ac K v).cls,(Ac K v).dict,.func (iY K v),(Ac K v).slots⟩∧bare (iY K v)=x:=by
 unfold sC at e
 cases h:(EG v && PySem.W.codeIn K (iY K v).code q && PySem.W.keepIn K (.ref (sk v))) with
 | false=>rw [h] at e;cases e
 | true=>
  rw [h] at e
  simp only [Bool.and_eq_true] at h
  refine ⟨Iz h.1.1,h.1.2,h.2,?_⟩
  cases hl:List.lookup (sk v) K with
  | none=>rw [hl] at e;cases e
  | some o=>
   rw [hl] at e
   obtain ⟨c,d,x',s⟩:=o
   have eo:Ac K v=⟨c,d,x',s⟩:=by unfold Ac;rw [hl];rfl
   cases x' <;> first | cases e | skip
   rename_i fd
   have ef:iY K v=fd:=by unfold iY;rw [eo]
   rw [eo,ef]
   exact ⟨rfl,rfl⟩
def oG (K:PySem.W.Frag) (n:Str):Bool:=Ex (PySem.W.nsIn K mainGlobals n)
def fG (K:PySem.W.Frag) (n:Str):Option FuncData:=sC K (PySem.W.nsIn K mainGlobals n) n
def dG (n q:Str) (st:Stmt):Option FuncData:=some (PySem.W.fnOf n q (wJ st) (tJ st) (aB st) .none .none .none .none none .none .none)
theorem ay {K:PySem.W.Frag}{v:Option (Option Value)}{q n:Str}{st:Stmt} (e:sC K v q=dG n q st):yp K n q st (sk v) (iY K v):=by
 have h:=wW e
 refine ⟨?_,h.2.2.1⟩
 obtain ⟨h1,h2,h3,h4,z⟩:=h
 refine ⟨_,_,(iY K v).kwdefaults,(iY K v).doc,(iY K v).pyModule,(iY K v).annotations,(iY K v).code,(iY K v).closureTuple,_,?_,h4,h2⟩
 clear h4 h2 h3 h1 e
 generalize iY K v=fd at z ⊢
 cases fd
 unfold bare PySem.W.fnOf at z
 cases z
 rfl
theorem bd {K:PySem.W.Frag}{v:Option (Option Value)}{q n:Str}{st:Stmt} (e:sC K v q=dG n q st):v=some (some (.ref (sk v))):=(wW e).1
theorem walk_ofY {l:PySem.W.OpenLaw}{n k:Nat}{q:Program}{loose:List Str}{XP:(Str→Option Value)→Heap→Prop}{d:DefRec}{CX:mi}{sp:PySem.W.Frag→Sp}{x:Str}{α:Type}{obs:PySem.W.Frag→α}{due:α}
 (hn:l.most=some n) (hn2:n≤sizeLine) (hdf:d.params.defaults=[]) (hr:fY k callerA)
 (F:∀(K:PySem.W.Frag) (w:World) (mg:Str→Option Value) (fa:Addr) (h:Heap),obs K=due→K.In h→h.Ns mainGlobals mg→mg d.name=some (.ref fa)→
  ∃fd:FuncData,(∀(s:Shared) (u:Value),BindsTo s fd ⟨[u],[]⟩ [(x,u)])∧
   ∀base:Heap,K.In base→base.Ns mainGlobals mg→aV l.prog w K mg base CX k fa fd [x] (sp K))
 (hsp:∀(K:PySem.W.Frag) (H:Hp) (a:Addr) (ns:List Int),ns.length≤n→wR H→ah K H a (ns.map V.int)→sp K [.ref a] H (fun v _=>v=.bl true) fun _ _ _=>False)
 (hCX:∀(H:Hp) (s:Shared) (e:Value) (s':Shared),CX [] H s (fun _ _ _=>False) e s'→False) :
 PySem.W.WalkX q loose XP (fun s=>obs (fragOf s.heap)) (fun _=>due) l.row.toRowW d [] (fun f vs=>PySem.call f vs):=by
 intro w s₀ s₁ mg mb G y a o pm cd doc dV kV ho hd hcd hD hmg hg args vals as' L hpre hlay hrd hwl hlo
 have kx:(fragOf s₀.heap).In s₁.heap:=fun b ob hb=>L.keeps b ob (CA s₀.heap b ob hb)
 exact Db (K:=fun _=>fragOf s₀.heap) (YP:=fun w h=>(fragOf s₀.heap).In h) hn hn2 hdf hr (fun _ _ z=>z) (fun w mg fa h=>F (fragOf s₀.heap) w mg fa h y) hsp hCX w s₀ s₁ mg mb G kx a o pm cd doc dV kV ho hd hcd hD hmg hg args vals as' hpre hlay hrd hwl hlo
section
variable {X:Cx}
inductive FV (x:V) (y:V) (H:Hp) (Q:VK):Prop
 | mk (a:_) (b:_) (xs:_) (ys:_) (h0:x=.ref a) (h1:y=.ref b) (h2:H a=some (.tup xs)) (h3:H b=some (.tup ys)) (h4:xs.length+ys.length≤10000) (h5:∀p H',aa H H'→H' p=some (.tup (xs++ys))→Q (.ref p) H')
def HU:R2:=fun x y H Q=>FV  x y H Q
theorem Er:cU X (binaryOp .Add) HU:=by
 intro pins s σ H x y v u Q I rx ry h
 obtain ⟨a,b,xs,ys,rfl,rfl,ha,hb,hz,q⟩:=h
 by_cases hx:xs=[]
 ·subst hx
  cases rx
  cases ry
  obtain ⟨its,r1,p1,_⟩:=I.tuple (ad.of (K:=X.K) ha)
  obtain ⟨its2,r2,p2,_⟩:=I.tuple (ad.of (K:=X.K) hb)
  cases r1
  obtain ⟨⟨cls,dd,data,sl⟩,ho,hc,n,hd⟩:=id p1
  obtain ⟨⟨cls2,dd2,data2,sl2⟩,ho2,hc2,n2,hd2⟩:=id p2
  simp only at hc hd hc2 hd2
  subst hc hd hc2 hd2
  exact concat_meets ⟨_,ho,rfl⟩ ⟨_,ho2,rfl⟩ noFill_tuple_add seq_tuple_add PySem.F.slot_tuple_add PySem.F.entry_tuple_add (PySem.F.args_tuple_add_2 _ _)
   (tuple_addW0 a b _ _ n n2 dd dd2 sl sl2 (by simp)) ⟨ho,ho2,⟨.ref b,H,I,rfl,q b H (aa.refl _) hb⟩⟩
 ·exact yU (K:=X.K) rfl pins s σ H _ _ v u Q I rx ry ⟨a,b,xs,ys,rfl,rfl,ad.of ha,ha,ad.of hb,hx,hz,q⟩
end
end L2
namespace L2
open PySem PySem.Spec PySem.Calls PySem.W PyProof.Rows
section
variable {prog:Program}{w:World}{A:Around}{E:Value→Shared→Prop}{s:Shared}
end
section
variable {X:Cx}
end
section
open PySem.Builtin.Str (occurrences partsBetween)
variable {prog:Program}{w:World}{A:Around}{E:Value→Shared→Prop}{s:Shared}
end
section
variable {X:Cx}
end
end L2
namespace L2
open PySem PySem.Spec PyProof.Rows
section
variable {X:Cx}
theorem xB {α β:Type} (f:α→β):∀(l:List α) (j:Nat),(l.eraseIdx j).map f=(l.map f).eraseIdx j
 | [],_=>rfl
 | _ :: _,0=>rfl
 | a :: l,j+1=>by simp [xB f l j]
end
theorem yM {E:Addr→Prop}{H:Hp}:∀{ls:List (List Nat)}{xs:List V},au E H xs (ls.map fun l=>.str (S l))→xs=ls.map aT
 | [],_,h=>by cases h;rfl
 | l :: ls,_,h=>by
  cases h with
  | cons h r=>cases h;rw [yM r];rfl
theorem y7 {E:Addr→Prop}{H:Hp}:∀(ls:List (List Nat)),au E H (ls.map aT) (ls.map fun l=>.str (S l))
 | []=>.nil
 | l :: ls=>.cons (.str _) (y7 ls)
theorem Bq {D:Addr}{H1:Hp}{σc:St}{g:TG}{te:TE}{Q:VK}{J:It}{n:Nat} (F:Nat→PyData) (hz:n≤10000) (hD:H1 D=none) (hgo:∀i H',i<n→aa H1 H'→J.go i H') (hst:∀H',aa H1 H'→J.stop n H')
 (hs:∀i x H' H'' (R:VK),i<n→aa H1 H'→J.yld i H' x H''→(∀v H4,aa H' H4→aK ED H4 v (F i)→R v H4)→g x σc H'' fun σ2 H2=>fD σc σ2∧te σ2 H2 R)
 (hd:∀zs H',aa H1 H'→H' D=some (.lst zs)→au ED H' zs ((List.range n).map F)→Q (.ref D) H'):gl J σc g tT te D H1 Q:=by
 refine gH (n:=n) (fun i H' zs=>H' D=some (.lst zs)∧aa H1 H'∧au ED H' zs ((List.range i).map F)) (fA hz) ⟨aE,di hD (aa.refl _),.nil⟩ ?_ ?_ ?_ ?_ ?_
 ·rintro i H' zs ⟨q,_,ia⟩
  exact ⟨q,by rw [ia.length];simp⟩
 ·rintro i H' zs hi ⟨_,sm,_⟩
  exact hgo i H' hi sm
 ·rintro H' zs ⟨_,sm,_⟩
  exact hst H' sm
 ·rintro i H' zs x H'' hi ⟨q,sm,ia⟩ y
  refine hs i x H' H'' _ hi sm y fun v H4 s4 dv=>?_
  have q4:=s4 _ _ q
  have tp:∀a us,H4 a=some (.tup us)→aQ H4 D (.lst (zs++[v])) a=some (.tup us):=fun a us e=>by
   rw [aG (gn e q4 (by intro z;cases z))];exact e
  refine ⟨q4,aE,di hD (sm.trans s4),?_⟩
  rw [List.range_succ,List.map_append]
  exact ((ia.mono s4.toE).mono ⟨fun _ _ n _=>absurd trivial n,tp⟩).append (.cons (dv.mono ⟨fun _ _ n _=>absurd trivial n,tp⟩) .nil)
 ·rintro H' zs ⟨q,sm,ia⟩
  exact hd zs H' sm q ia
theorem hU {H H':Hp} (k:Ln H H'):af ED H H':=⟨fun _ _ n _=>absurd trivial n,k⟩
section
variable {H H':Hp}{d p t q z:Addr}{v:V}{es:List Ent}{past:List RSt}{cur:RSt}{F:List Addr}
end
section
variable {p t q z p' t' q':Addr}{v v':V}
end
theorem Bx.th {H:Hp}{b:Addr}{t:Int} (h:Bx H b t):H b≠none:=by
 obtain ⟨_,_,e,_⟩:=h
 rw [e];exact fun z=>nomatch z
theorem Bx.frm {H H':Hp}{b:Addr}{t:Int}{E:Addr→Prop} (B:Bx H b t) (s:af E H H') (n:¬E b):Bx H' b t:=by
 obtain ⟨c1,c2,e,q1,q2,q3⟩:=B
 exact ⟨c1,c2,s.old _ _ n e,q1,q2,q3⟩
theorem af.none {E:Addr→Prop}{H H':Hp} (s:af E H H') {a:Addr} (n:¬E a) (h:H' a=none):H a=none:=by
 cases e:H a with
 | none=>rfl
 | some o=>rw [s.old a o n e] at h;cases h
section
variable {C:Addr}{H H' H0 H1 H2:Hp}{r L d b:Addr}{F F' F0 F1 F2:List Addr}{past:List RSt}{cur:RSt}{N M:Nat}{E:Addr→Prop}
end
section
variable {X:Cx}{body suite:List Stmt}{b0:Stmt}{x:Str}{hpos pos np:Pos}{tb:(St→XK)→TS}{th:TS}{Cc:Addr}
end
section
variable {X:Cx}{CX:mi}{k:Nat}{f C:Addr}{fd:FuncData}{ps:List Str}{sp:Sp}{EE:St→XK}{m:Str}{pos apos:Pos}{e o:Expr}{es:List Expr}{ta:TE}{t:TA}
end
section
variable {C:Addr}{H H' H0:Hp}{P E:Addr→Prop}{xs:List PairAt}{N M:Nat}{x y:PairAt}{i:Nat}
end
section
variable {C:Addr}{H2 H H':Hp}{b s o nl:Addr}{ls:List (List Nat)}{xs:List PairAt}{N M:Nat}{t t':Int}{x y:PairAt}{i:Nat}
end
end L2
namespace L2
open PySem PySem.Spec PyProof.Rows PySem.NumText
end L2
namespace L2
open PySem PySem.Spec PyProof.Rows
section
variable {X:Cx}
end
end L2
namespace L2
open PySem PySem.Spec PyProof.Rows PySem.NumText
theorem wX {K:PySem.W.Frag}{a:Addr}{c:Bool}{xs:List V}{g:TG}{tb:TS}{D:fW}{σ:St}{H:Hp} (Pv:Nat→St→Hp→Prop) (h0:Pv 0 σ H) (hl:∀i σ H,i≤xs.length→Pv i σ H→iV K H a xs c)
 (hs:∀i x T σ H,xs[i]?=some x→H T=none→Pv i σ H→g (.ref T) σ (aQ H T (.tup [.int (i:Int),x])) fun σ2 H2=>tb { D with nx:=Pv (i+1),ct:=Pv (i+1),bk:=D.nx } σ2 H2) (hd:∀σ H,Pv xs.length σ H→D.nx σ H) :
 ∃W:Nat→Nat→St→Hp→Prop,(∃m,W 0 m σ H)∧∀i m σ H,W i m σ H→
  ((yZ K a c).stop i H∧D.nx σ H)∨((yZ K a c).go i H∧∃N:St→Hp→Prop,(∀σ' H',N σ' H'→∃m',m'<m∧W (i+1) m' σ' H')∧∀x H',(yZ K a c).yld i H x H'→g x σ H' fun σ2 H2=>tb { D with nx:=N,ct:=N,bk:=D.nx } σ2 H2):=by
 refine ⟨fun i m σ H=>m=xs.length - i∧i≤xs.length∧Pv i σ H,⟨xs.length,by simp,Nat.zero_le _,h0⟩,?_⟩
 rintro i m σ H ⟨rfl,hi,p⟩
 have q1:=hl i σ H hi p
 by_cases hlt:i<xs.length
 ·refine .inr ⟨⟨xs,xs[i],q1,by simp [hlt]⟩,Pv (i+1),fun σ' H' p'=>⟨xs.length - (i+1),by trivial,rfl,hlt,p'⟩,fun x H' y=>?_⟩
  obtain ⟨T,u,hT,rfl,rfl,e1⟩:=y
  exact hs i u T σ H (e1 xs q1) hT p
 ·have e:i=xs.length:=by trivial
  subst e
  exact .inl ⟨⟨xs,q1,rfl⟩,hd _ _ p⟩
section
variable {X:Cx}
end
section
variable {X:Cx}
end
end L2
namespace L2
open PySem PySem.Spec PyProof.Rows PySem.NumText
section
variable {X:Cx}
end
end L2
namespace KM
variable {ls:List (List Nat)}{es done:List Edge}{W u u':List Nat→Rat}{S:List (List Nat)}{q:List Nat}{m:Rat}
end KM
namespace L2
open PySem PySem.Spec PyProof.Rows
section
variable {X:Cx}
end
section
variable {X:Cx}
end
section
variable {X:Cx}
end
end L2
namespace L2
open PySem PyProof.Rows
def pS (e:Expr) (d:Nat) (tg iter:Expr) (ifs:List Expr) (em:Sem Unit) (it acc:Value) (env:Env):Sem Fin:=do
 standAt iter.pos
 match ←pyNext it with
 | none=>pure (.done .next)
 | some v=>
  letOwnedTupleGo tg it v
  assign tg env v
  let mut ok:=true
  for c in ifs do
   if ok then ok ←isTrue c env (eval c env)
  if ok then em
  again (.compLoop e d it acc env)
section
variable {prog:Program}{w:World}{A:Around}{R:Result→Shared→Prop}{s:Shared}
theorem sS {elt tg iter:Expr}{gens:List Comprehension}{scope:Scope}{pos:Pos}{d:Nat}{ifs:List Expr}{em:Sem Unit}{it acc:Value}{env:Env} (ht:compTurn (.ListComp elt gens scope pos) d it acc env=pS (.ListComp elt gens scope pos) d tg iter ifs em it acc env) (I:Nat→Shared→Prop)
 (turn:∀n s,I n s→wpAny (model prog w) A (pyNext it) (fun r s₁=>match r with
  | none=>R (.ok .next) s₁
  | some v=>wpAny (model prog w) A (letOwnedTupleGo tg it v) (fun _ s₁'=>wpAny (model prog w) A (assign tg env v) (fun _ s₂=>
   wpAny (model prog w) A (forIn ifs true fun c r=>if r=true then do let ok ←isTrue c env (eval c env);pure (ForInStep.yield ok) else pure (ForInStep.yield r)) (fun ok s₃=>
    if ok=true then wpAny (model prog w) A em (fun _ s₅=>∃m,m<n∧I m s₅) (fun _ _=>False) s₃
    else ∃m,m<n∧I m s₃) (fun _ _=>False) s₂) (fun _ _=>False) s₁') (fun _ _=>False) s₁) (fun _ _=>False) s)
 (n:Nat) (h:I n s) :
 codeAny (model prog w) A (.compLoop (.ListComp elt gens scope pos) d it acc env) R s:=by
 refine codeAny_loop rfl I (fun n s hI=>?_) n h
 show wpAny _ A ((compTurn (.ListComp elt gens scope pos) d it acc env).onRaise (fun x=>do noteFrame x env;theTreesLotGoes x)) _ _ s
 refine wpAny_noted ?_
 rw [ht]
 unfold pS
 refine wpAny_bind (wpAny_standAt (wpAny_bind (wpAny_mono (turn n s hI) (fun r s₁ h₁=>?_) fun _ _ h'=>h'.elim)))
 cases r with
 | none=>exact wpAny_pure h₁
 | some v=>
  refine wpAny_bind (wpAny_mono h₁ (fun _ s₁' h₁'=>?_) fun _ _ h'=>h'.elim)
  refine wpAny_bind (wpAny_mono h₁' (fun _ s₂ h₂=>wpAny_bind (wpAny_mono h₂ (fun ok s₃ h₃=>?_) fun _ _ h'=>h'.elim)) fun _ _ h'=>h'.elim)
  cases ok with
  | false=>exact wpAny_pure ⟨rfl,h₃⟩
  | true=>exact wpAny_bind (wpAny_mono h₃ (fun _ s₅ h₅=>wpAny_pure ⟨rfl,h₅⟩) fun _ _ h'=>h'.elim)
theorem Bj {elt:Expr}{g1:Comprehension}{target iter:Expr}{ifs:List Expr}{scope:Scope}{pos:Pos}{it acc:Value}{env:Env}
 (h0:codeAny (model prog w) A (.compLoop (.ListComp elt [g1,⟨target,iter,ifs,0⟩] scope pos) 1 it acc env) R s)
 (h:wpAny (model prog w) A (pyIter it) (fun it' s'=>codeAny (model prog w) A (.compLoop (.ListComp elt [g1,⟨target,iter,ifs,0⟩] scope pos) 1 it' acc env) R s')
  (notedBy (model prog w) A env fun x s'=>R (.error x) s') s) :
 codeAny (model prog w) A (.compStart (.ListComp elt [g1,⟨target,iter,ifs,0⟩] scope pos) 1 it acc env) R s:=by
 refine codeAny_of_tree ?_
 show wpAny _ _ ((compStart (.ListComp elt [g1,⟨target,iter,ifs,0⟩] scope pos) 1 it acc env).onRaise (fun x=>do noteFrame x env;standAt theWindowsPlace)) _ _ s
 refine wpAny_notedAt ?_
 unfold compStart
 show wpAny _ _ (ask >>= _) _ _ s
 refine wpAny_bind (wpAny_askSetting (wpAny_ite ?_))
 split
 ·first
   | exact wpAny_bind (wpAny_pure (wpAny_pure (And.intro rfl h0)))
   | exact wpAny_pure (And.intro rfl h0)
 ·first
   | exact wpAny_bind (wpAny_rule (wpAny_bind (wpAny_standAt (wpAny_bind (wpAny_mono h (fun it' s' h'=>wpAny_pure (And.intro rfl h')) fun _ _ x=>x)))))
   | (refine wpAny_bind (wpAny_rule ?_);show wpAny _ _ (standAt iter.pos >>= _) _ _ s;exact wpAny_bind (wpAny_standAt (wpAny_bind (wpAny_mono h (fun it' s' h'=>wpAny_pure (And.intro rfl h')) fun _ _ x=>x))))
end
abbrev TM:=Addr→St→Hp→(Hp→List V→Prop)→Prop
def PM (X:Cx) (em:Value→Env→Sem Unit) (tm:TM):Prop:=
 ∀(pins:List (Addr×Obj)) (s:Shared) (σ:St) (H:Hp) (D:Addr) (N:Hp→List V→Prop),ag X pins σ H s→tm D σ H N→
   wpAny (model X.prog X.w) X.A (em (.ref D) X.env) (fun _ s'=>bP fun H' ys'=>ag X pins σ H' s'∧N H' ys') X.xe s
def HY (J:It) (σc:St) (g:TG) (tt:TT) (tm:TM) (D:Addr) (H1:Hp) (Q:VK):Prop:=
 ∃W:Nat→Nat→Hp→List V→Prop,(∃m,W 0 m (aQ H1 D (.lst [])) [])∧∀i m H ys,W i m H ys→H D=some (.lst ys)∧
  ((J.stop i H∧Q (.ref D) H)∨(J.go i H∧∃N:Hp→List V→Prop,(∀H' ys',N H' ys'→∃m',m'<m∧W (i+1) m' H' ys')∧
    ∀x H',J.yld i H x H'→g x σc H' fun σ2 H2=>fD σc σ2∧tt σ2 H2 fun b H3=>if b=true then tm D σ2 H3 N else N H3 ys))
def Ct (wi:TI) (L:Nat) (src:List Nat) (g:TG) (tt:TT) (tm:TM):TE:=fun σ H Q=>wi σ H fun J H1=>∀D,H1 D=none→HY J (io L src σ) g tt tm D H1 Q
def GP (J:It) (σc:St) (g:TG) (tt:TT) (te:TE) (D:Addr) (H1:Hp) (N0:Hp→List V→Prop):Prop:=
 ∃W:Nat→Nat→Hp→List V→Prop,(bP fun m ys=>W 0 m H1 ys)∧∀i m H ys,W i m H ys→H D=some (.lst ys)∧
  ((J.stop i H∧N0 H ys)∨(J.go i H∧ys.length<sizeLine∧∃N:Hp→List V→Prop,(∀H' ys',N H' ys'→∃m',m'<m∧W (i+1) m' H' ys')∧
    ∀x H',J.yld i H x H'→g x σc H' fun σ2 H2=>fD σc σ2∧tt σ2 H2 fun b H3=>if b=true then te σ2 H3 fun y H4=>H4 D=some (.lst ys)∧N (aQ H4 D (.lst (ys++[y]))) (ys++[y]) else N H3 ys))
def G0 (wi:TI) (g:TG) (tt:TT) (te:TE):TM:=fun D σ H N=>wi σ H fun J H1=>GP J σ g tt te D H1 N
def Bt (e iter2:Expr):Value→Env→Sem Unit:=fun acc env=>do
 let x ←eval iter2 env
 standAt iter2.pos
 let x ←foldedSetIterable iter2 env x
 let _ ←runOwn (.compStart e 1 (←holding [x] (pyIter x)) acc env) env
def Cm (elt:Expr):Value→Env→Sem Unit:=fun acc env=>do let _ ←call (.builtin "list.append") [acc,←eval elt env]
section
variable {X:Cx}{elt tg iter tg2 iter2:Expr}{ifs ifs2:List Expr}{scope:Scope}{pos:Pos}{N':List Str}{L:Nat}{src:List Nat}{wi wi2:TI}{g g2:TG}{tt tt2:TT}{te:TE}
theorem Dq (it acc:Value) (env:Env):compTurn (.ListComp elt (⟨tg,iter,ifs,0⟩ :: [⟨tg2,iter2,ifs2,0⟩]) scope pos) 0 it acc env=pS (.ListComp elt (⟨tg,iter,ifs,0⟩ :: [⟨tg2,iter2,ifs2,0⟩]) scope pos) 0 tg iter ifs (Bt (.ListComp elt (⟨tg,iter,ifs,0⟩ :: [⟨tg2,iter2,ifs2,0⟩]) scope pos) iter2 acc env) it acc env:=by
 unfold pS Bt
 simp only [bind_assoc]
 rfl
theorem Gx (g1:Comprehension) (it acc:Value) (env:Env):compTurn (.ListComp elt [g1,⟨tg2,iter2,ifs2,0⟩] scope pos) 1 it acc env=pS (.ListComp elt [g1,⟨tg2,iter2,ifs2,0⟩] scope pos) 1 tg2 iter2 ifs2 (Cm elt acc env) it acc env:=by rfl
theorem IN {g1:Comprehension} (hc:X.calm=true) (hxe:X.xe=fun _ _=>False) (hi:PI X tg2 iter2 wi2) (hg:PG X tg2 g2) (hif:mX X ifs2 tt2) (he:PE X elt te) (hs:∀x,foldedSetIterable iter2 X.env x=pure x) :
 PM X (Bt (.ListComp elt [g1,⟨tg2,iter2,ifs2,0⟩] scope pos) iter2) (G0 wi2 g2 tt2 te):=by
 intro pins s σ H D N0 I h
 unfold Bt
 refine wpAny_bind (aS (hi pins s σ H _ I h) fun v s1 h1=>?_)
 refine wpAny_bind (wpAny_standAt (wpAny_bind (wpAny_of_eq (hs v) (wpAny_bind (wpAny_holding (aS h1 fun itv s2 h2=>?_))))))
 obtain ⟨it,fp,tn,J,H2,e,I2,T,st2,f2,W,⟨m0,ys0,w0⟩,turn⟩:=h2
 subst e
 have stat:∀{H':Hp},(∀b∈fp,H' b=none)→∀b∈fp,jD X pins H' b:=fun hn b hb=>⟨hn b hb,(f2 b hb).2⟩
 refine wpAny_bind (wpAny_runOwn (Q:=fun _ s'=>wpAny (model X.prog X.w) X.A (pure ()) (fun _ s'=>bP fun H' ys'=>ag X pins σ H' s'∧N0 H' ys') X.xe s') ?_)
 have loop:codeAny (model X.prog X.w) X.A (.compLoop (.ListComp elt [g1,⟨tg2,iter2,ifs2,0⟩] scope pos) 1 (.ref it) (.ref D) X.env) (fun r s'=>match r with | .ok f=>wpAny (model X.prog X.w) X.A (pure ()) (fun _ s'=>bP fun H' ys'=>ag X pins σ H' s'∧N0 H' ys') X.xe s' | .error e=>cameBackBy (model X.prog X.w) X.A X.env X.xe e s') s2:=by
  refine sS (Gx g1 _ _ _) (fun n s'=>fP fun i H' ys=>ag X pins σ H' s'∧tn i s'.heap∧(∀b∈fp,H' b=none)∧W i n H' ys) ?_ m0 ⟨0,H2,ys0,I2,st2,fun b hb=>(f2 b hb).1,w0⟩
  rintro n s3 ⟨i,H3,ys,I3,st3,fr3,w3⟩
  obtain ⟨hD,alt⟩:=turn i n H3 ys w3
  rcases alt with ⟨stop,qn⟩ | ⟨go,hlen,N,hN,step⟩
  ·refine aS (T.done X rfl rfl rfl hc i pins s3 σ H3 (fun _ _=>False) I3 (stat fr3) st3 stop) fun r s4 ⟨hr,I4⟩=>?_
   subst hr
   exact wpAny_pure ⟨H3,ys,I4,qn⟩
  ·refine aS (T.item X rfl rfl rfl hc i pins s3 σ H3 (fun _ _=>False) I3 (stat fr3) st3 go) fun r s4 ⟨u,hr,h4⟩=>?_
   subst hr
   refine aS h4 fun _ s5 ⟨x,H5,I5,r5,y5,st5,fr5⟩=>?_
   have I5':=I5.pinned (stat fr5) (T.obj _ _ st5)
   have a1:=hg _ s5 σ H5 x u _ I5' r5 (step x H5 y5)
   rw [hxe] at a1
   refine aS a1 fun _ s6 ⟨σ6,H6,I6,bk,q6⟩=>?_
   have a2:=hif _ s6 σ6 H6 _ I6 q6
   rw [hxe] at a2
   refine aS a2 fun b s7 ⟨H7,I7,q7⟩=>?_
   have again:∀{H8:Hp}{s8:Shared}{ys':List V},ag X (pins++nI fp s5.heap) σ6 H8 s8→N H8 ys'→∃m,m<n∧fP fun i H' ys=>ag X pins σ H' s8∧tn i s8.heap∧(∀b∈fp,H' b=none)∧W i m H' ys:=fun {H8 s8 ys'} I8 n8=>by
    obtain ⟨m',hm,w8⟩:=hN H8 ys' n8
    refine ⟨m',hm,i+1,H8,ys',(I8.unpinned).weak bk.1.symm bk.2,T.keep _ _ _ st5 fun b hb o e=>(I8.pin (b,o) (List.mem_append_right _ (List.mem_append_right _ (fO hb e)))).1,fun b hb=>?_,w8⟩
    obtain ⟨o,e,d⟩:=T.obj _ _ st5 b hb
    exact (I8.pin (b,o) (List.mem_append_right _ (List.mem_append_right _ (fO hb e)))).2.1
   cases b with
   | false=>
    rw [if_neg Bool.false_ne_true] at q7 ⊢
    exact again I7 q7
   | true=>
    rw [if_pos rfl] at q7 ⊢
    have a3:=he _ s7 σ6 H7 _ I7 q7
    rw [hxe] at a3
    unfold Cm
    refine wpAny_bind (aS a3 fun xv s8 ⟨y,H8,I8,r8,hD8,q8⟩=>wpAny_bind ?_)
    have a4:=sN (X:=X) _ s8 σ6 H8 (.ref D) [y] (.ref D) [xv] (fun _ H'=>H'=aQ H8 D (.lst (ys++[y]))) I8 rfl (.cons r8 .nil) ⟨_,ys,y,rfl,rfl,hD8,hlen,rfl⟩
    rw [hxe] at a4
    refine aS a4 fun _ s9 ⟨_,H9,I9,_,e9⟩=>?_
    subst e9
    exact wpAny_pure (again I9 q8)
 exact Bj loop (T.self _ 0 _ _ _ st2 loop)
theorem BO {rest:List Comprehension}{em:Value→Env→Sem Unit}{tm:TM} (ht:∀it acc env,compTurn (.ListComp elt (⟨tg,iter,ifs,0⟩ :: rest) scope pos) 0 it acc env=pS (.ListComp elt (⟨tg,iter,ifs,0⟩ :: rest) scope pos) 0 tg iter ifs (em acc env) it acc env) (hc:X.calm=true) (ck:wC X.env.scope X.N scope N' L src) {cl:List (Str×Addr)}{pins:List (Addr×Obj)}{s:Shared}{σ:St}{H:Hp}{Q:VK} (I:ag X pins σ H s)
 (hsub:∀x c,cl.lookup x=some c→X.env.cells.lookup x=some c) (hhas:∀y∈scope.names,y.2=.free→∃c,cl.lookup y.1=some c)
 (hi:PI X tg iter wi) (hg:∀cl C s H ex pn,PG (bS X scope cl C N' s H ex pn) tg g) (hif:∀cl C s H ex pn,mX (bS X scope cl C N' s H ex pn) ifs tt)
 (he:∀cl C s H ex pn,PM (bS X scope cl C N' s H ex pn) em tm) (h:Ct wi L src g tt tm σ H Q) {RR:Value→Addr→Result→Shared→Prop}
 (hRR:∀D C H' f s' m,ag X pins σ H' s'→s'.heap.Ns C m→jD X pins H' C→Q (.ref D) H'→RR (.ref D) C (.ok f) s') :
 wpAny (model X.prog X.w) X.A (eval iter X.env) (fun x s₁=>wpAny (model X.prog X.w) X.A (pyIter x) (fun it s₂=>wpAny (model X.prog X.w) X.A (newList []) (fun acc s₃=>
  wpAny (model X.prog X.w) X.A (newFunctionEnv scope X.env.globals cl [] X.env.qual none .none (some X.env)) (fun cenv s₄=>
   codeAny (model X.prog X.w) X.A (.compStart (.ListComp elt (⟨tg,iter,ifs,0⟩ :: rest) scope pos) 0 it acc { cenv with scope:=relabel scope X.env }) (RR acc cenv.locals) s₄) X.xe s₃) X.xe s₂) X.xe s₁) X.xe s:=by
 refine aS (hi pins s σ H _ I h) fun v s1 h1=>aS h1 fun itv s2 h2=>?_
 obtain ⟨it,fp,tn,J,H2,e,I2,T,st2,f2,q⟩:=h2
 subst e
 refine wpAny_newObj_type (Ip ?_)
 dsimp only
 generalize hH2:s2.heap.push { cls:=.type "list",dict:=none,data:=.seq ([]:List Value).toArray }=hp2
 have hns₁:(pushCells (hp2.push { cls:=.type "dict",data:=.dict #[] }) scope.names).Ns hp2.objs.size fun _=>none:=(Heap.Ns.new hp2 (.type "dict")).keeps (pushCells_keeps _ _)
 have kp:∀b o,hp2.get? b=some o→(pushCells (hp2.push { cls:=.type "dict",data:=.dict #[] }) scope.names).get? b=some o:=fun b o e=>pushCells_keeps _ _ b o (Heap.get?_push_of_some _ e)
 have okc:=cellsFrom_ok scope.names (hp2.push { cls:=.type "dict",data:=.dict #[] }) (hp2.objs.size+1) [] ⟨fun _ _ hm=>(nomatch hm),List.Pairwise.nil⟩ (by rw [Heap.size_push];exact Nat.le_refl _)
 rw [Heap.size_push] at okc
 rw [qS]
 have ncell:∀x c,(cellsFrom (hp2.objs.size+1) scope.names []).lookup x=some c→(x,NameKind.cell)∈scope.names:=fun x c e=>(ir _ _ _ (PySem.mem_of_lookup e)).elim id (fun z=>by cases z)
 have nhas:∀x,(x,NameKind.cell)∈scope.names→∃c,(cellsFrom (hp2.objs.size+1) scope.names []).lookup x=some c:=fun x h=>ji _ _ _ h
 generalize pushCells (hp2.push { cls:=.type "dict",data:=.dict #[] }) scope.names=h₁ at hns₁ kp okc ⊢
 generalize cellsFrom (hp2.objs.size+1) scope.names []=nw at okc ncell nhas ⊢
 have hC:hp2.objs.size=s2.heap.objs.size+1:=by rw [←hH2,Heap.size_push]
 have hDC:s2.heap.objs.size≠hp2.objs.size:=by rw [hC];exact Nat.ne_of_lt (Nat.lt_succ_self _)
 have hCle:s2.heap.objs.size≤hp2.objs.size:=by rw [hC];exact Nat.le_succ _
 have below:∀b,b<s2.heap.objs.size→b≠hp2.objs.size∧b≠s2.heap.objs.size:=fun b hb=>⟨by rw [hC];exact Nat.ne_of_lt (Nat.lt_succ_of_lt hb),Nat.ne_of_lt hb⟩
 have old:∀b o,s2.heap.get? b=some o→h₁.get? b=some o:=fun b o e=>kp b o (hH2▸Heap.get?_push_of_some _ e)
 have hacc:h₁.get? s2.heap.objs.size=some { cls:=.type "list",dict:=none,data:=.seq ([]:List Value).toArray }:=kp _ _ (hH2▸Heap.get?_push_size _ rfl)
 have hDn:H2 s2.heap.objs.size=none:=I2.fresh
 obtain ⟨W,⟨m0,w0⟩,turn⟩:=q _ hDn
 have fpo:∀b∈fp,∃o,s2.heap.get? b=some o∧∀v,o.data≠.cell v:=T.obj _ _ st2
 have fplt:∀b∈fp,b<s2.heap.objs.size:=fun b hb=>by obtain ⟨o,e,_⟩:=fpo b hb;exact Heap.lt_size e
 have hfrs:∀b∈fp,b∉iJ X.stack:=fun b hb z=>by
  rcases List.mem_cons.mp (I2.stkSub b z) with z' | z'
  ·exact (f2 b hb).2.1 z'
  ·exact (f2 b hb).2.2.1 z'
 have spl:∀x c,(nw++cl).lookup x=some c→nw.lookup x=some c∨(nw.lookup x=none∧cl.lookup x=some c):=fun x c e=>by
  rw [List.lookup_append] at e
  cases q:nw.lookup x with
  | none=>rw [q] at e;exact .inr ⟨rfl,e⟩
  | some c'=>rw [q] at e;exact .inl e
 have nab:∀x c,nw.lookup x=some c→hp2.objs.size+1≤c:=fun x c e=>(okc.empty x c (PySem.mem_of_lookup e)).2
 have olt:∀x c,cl.lookup x=some c→c<s2.heap.objs.size:=fun x c e=>by
  obtain ⟨v,o,ho,_⟩:=I2.cell x c (hsub _ _ e)
  exact Heap.lt_size ho
 have n2o:∀x c y,nw.lookup x=some c→cl.lookup y=some c→False:=fun x c y e1 e2=>Nat.lt_irrefl c (Nat.lt_of_lt_of_le (olt y c e2) (Nat.le_trans hCle (Nat.le_of_succ_le (nab x c e1))))
 generalize hX:bS X scope (nw++cl) hp2.objs.size N' s2 H2 fp (X.pn++pins)=X'
 have ok':X'.Ok:=by
  subst hX
  refine ⟨I2.ok.mod,ck.kind,I2.ok.glob,I2.ok.blt,hCle,fun x y c e1 e2=>(spl x c e1).elim (fun g1=>(spl y c e2).elim (fun g2=>name_of_addr okc.apart (PySem.mem_of_lookup g1) (PySem.mem_of_lookup g2)) (fun g2=>(n2o x c y g1 g2.2).elim)) (fun g1=>(spl y c e2).elim (fun g2=>(n2o y c x g2 g1.2).elim) (fun g2=>I2.ok.inj x y c (hsub _ _ g1.2) (hsub _ _ g2.2))),fun x hx=>?_,fun x c z e=>?cab,I2.ok.hd,I2.ok.frames,.inl rfl,fun b hb=>⟨(below b (fplt b hb)).1,fun x c e=>(spl x c e).elim (fun g z=>Nat.lt_irrefl b (Nat.lt_of_lt_of_le (fplt b hb) (Nat.le_trans hCle (Nat.le_of_succ_le (z▸nab x c g))))) (fun g=>(f2 b hb).2.2.2.2.1 x c (hsub _ _ g.2))⟩,
   I2.bs,Nat.le_trans I2.ok.bsz I2.sz,fun b o e hb=>?_,hfrs,I2.stack,I2.stkFree⟩
  ·-- a name that is a cell or free
   have hx':(relabel scope X.env).names.lookup x=some .cell∨(relabel scope X.env).names.lookup x=some .free:=hx
   have cy:∀(names:List (Str×NameKind)),
    ((names.map fun (n,k)=>if (k==NameKind.free && X.env.scope.kind==.function && X.env.kindOf n==some .cell) then (n,NameKind.cell) else (n,k)).lookup x=some .cell∨
     (names.map fun (n,k)=>if (k==NameKind.free && X.env.scope.kind==.function && X.env.kindOf n==some .cell) then (n,NameKind.cell) else (n,k)).lookup x=some .free)→∃y∈names,y.1=x∧(y.2=.free∨y.2=.cell):=by
    intro names
    induction names with
    | nil=>intro h;rcases h with h | h <;> simp at h
    | cons y r ih=>
     intro h
     obtain ⟨n,k⟩:=y
     by_cases hb:x=n
     ·subst hb
      refine ⟨(x,k),List.mem_cons_self,rfl,?_⟩
      by_cases hk:k=.free
      ·exact .inl hk
      ·have hkb:(k==NameKind.free)=false:=by simpa using hk
       right
       simp only [List.map_cons,hkb,Bool.false_and,Bool.false_eq_true,if_false,List.lookup_cons,beq_self_eq_true,if_true] at h
       rcases h with h | h
       ·exact Option.some.inj h
       ·exact absurd (Option.some.inj h) hk
     ·have hb':(x==n)=false:=by simpa using hb
      have h':((r.map fun (n,k)=>if (k==NameKind.free && X.env.scope.kind==.function && X.env.kindOf n==some .cell) then (n,NameKind.cell) else (n,k)).lookup x=some .cell∨
       (r.map fun (n,k)=>if (k==NameKind.free && X.env.scope.kind==.function && X.env.kindOf n==some .cell) then (n,NameKind.cell) else (n,k)).lookup x=some .free):=by
       rw [List.map_cons] at h
       dsimp only at h
       by_cases hcnd:(k==NameKind.free && X.env.scope.kind==.function && X.env.kindOf n==some .cell)=true
       ·rw [if_pos hcnd] at h
        simpa only [List.lookup_cons,hb'] using h
       ·rw [if_neg hcnd] at h
        simpa only [List.lookup_cons,hb'] using h
      obtain ⟨y,hy,e1,e2⟩:=ih h'
      exact ⟨y,List.mem_cons_of_mem _ hy,e1,e2⟩
   obtain ⟨y,hy,e1,e2⟩:=cy scope.names hx'
   show ∃c,(nw++cl).lookup x=some c
   rw [List.lookup_append]
   cases q:nw.lookup x with
   | some c=>exact ⟨c,rfl⟩
   | none=>
    rcases e2 with e2 | e2
    ·obtain ⟨c,hc'⟩:=hhas y hy e2
     exact ⟨c,by rw [←e1,hc'];rfl⟩
    ·obtain ⟨c,hc'⟩:=nhas x (by obtain ⟨y1,y2⟩:=y;dsimp only at e1 e2;rw [←e1,←e2];exact hy)
     rw [q] at hc';cases hc'
  case cab=>
   have z':(scope.names.lookup x==some NameKind.cell)=true:=z
   obtain ⟨c',hc'⟩:=nhas x (PySem.mem_of_lookup (by simpa using z'))
   rcases spl x c e with g | g
   ·have:=nab x c g
    show s2.heap.objs.size≤c
    trivial
   ·rw [hc'] at g;cases g.1
  ·rcases (f2 b hb).2.2.2.1 with z | z
   ·exact I2.ok.noex b o e z
   ·exact absurd (Nat.lt_of_lt_of_le (Heap.lt_size e) (Nat.le_trans I2.ok.bsz z)) (Nat.lt_irrefl _)
 have stat:∀{H':Hp},(∀b∈fp,H' b=none)→∀b∈fp,jD X' [] H' b:=by
  subst hX
  intro H' hn b hb
  refine ⟨hn b hb,(below b (fplt b hb)).1,hfrs b hb,.inl hb,fun x c e=>(spl x c e).elim (fun g z=>Nat.lt_irrefl b (Nat.lt_of_lt_of_le (fplt b hb) (Nat.le_trans hCle (Nat.le_of_succ_le (z▸nab x c g))))) (fun g=>(f2 b hb).2.2.2.2.1 x c (hsub _ _ g.2)),fun p hp=>?_⟩
  have hp':p∈X.pn++pins:=by simpa [bS,s0] using hp
  exact (f2 b hb).2.2.2.2.2 p hp'
 have I1:ag X' [] (io L src σ) (aQ H2 s2.heap.objs.size (.lst [])) { s2 with heap:=h₁,toks:=s2.toks }:=by
  subst hX
  have up:∀b o,H2 b=some o→aQ H2 s2.heap.objs.size (.lst []) b=some o:=fun b o e=>by rw [aG (aY e hDn)];exact e
  have upn:∀b,b<s2.heap.objs.size→H2 b=none→aQ H2 s2.heap.objs.size (.lst []) b=none:=fun b hb e=>by rw [aG (Nat.ne_of_lt hb)];exact e
  refine ⟨ok',rfl,I2.bare,Un.laid old (Nat.le_refl _) hDn,⟨_,hns₁,fun i x v e1 e2 e3=>?_⟩,fun x c e=>?_,?_,fun x c e=>?_,fun p hp=>?_,I2.hok.laid old (Nat.le_refl _) ⟨Nat.zero_le _,[],0,.nil,hacc⟩,?_⟩
  ·-- the names of the def around
   have hiL:L≤i:=by
    by_cases hlt:i<L
    ·exfalso
     unfold io at e2
     rw [List.getElem?_append_left (by simpa using hlt),List.getElem?_replicate,if_pos hlt] at e2
     cases e2
    ·trivial
   have e2':(src.map fun j=>(σ[j]?).join)[i - L]?=some (some v):=by
    unfold io at e2
    rw [List.getElem?_append_right (by simpa using hiL),List.length_replicate] at e2
    exact e2
   rw [List.getElem?_map] at e2'
   cases hj:src[i - L]? with
   | none=>rw [hj] at e2';cases e2'
   | some j=>
    rw [hj] at e2'
    have e3':(σ[j]?).join=some v:=Option.some.inj e2'
    have hσ:σ[j]?=some (some v):=by
     cases q:σ[j]? with
     | none=>rw [q] at e3';cases e3'
     | some o=>rw [q] at e3';exact congrArg some e3'
    obtain ⟨x',g1,g2,g3⟩:=ck.frees (i - L) j hj
    have:L+(i - L)=i:=by trivial
    rw [this] at g1
    have ex:x'=x:=Option.some.inj (g1.symm.trans e1)
    subst ex
    have hfree:=ck.free _ (PySem.mem_of_lookup g3) rfl
    obtain ⟨m,hn,hl⟩:=I2.loc
    obtain ⟨u,r,l⟩:=hl j x' v g2 hσ (hfree.elim (fun z=>.inr (.inl z)) fun z=>.inr (.inr z))
    refine ⟨u,r,.inr ⟨?_,?_⟩⟩
    ·-- its kind in the block
     have cy:∀(names:List (Str×NameKind)),names.lookup x'=some .free→
      ((names.map fun (n,k)=>if (k==NameKind.free && X.env.scope.kind==.function && X.env.kindOf n==some .cell) then (n,NameKind.cell) else (n,k)).lookup x'=some .cell∨
       (names.map fun (n,k)=>if (k==NameKind.free && X.env.scope.kind==.function && X.env.kindOf n==some .cell) then (n,NameKind.cell) else (n,k)).lookup x'=some .free):=by
      intro names
      induction names with
      | nil=>intro h;simp at h
      | cons y r ih=>
       intro h
       obtain ⟨n,k⟩:=y
       by_cases hb:x'=n
       ·subst hb
        simp only [List.lookup_cons,beq_self_eq_true,if_true] at h
        have hk:k=.free:=Option.some.inj h
        subst hk
        rw [List.map_cons]
        dsimp only
        by_cases hcnd:(NameKind.free==NameKind.free && X.env.scope.kind==.function && X.env.kindOf x'==some .cell)=true
        ·rw [if_pos hcnd];left;simp [List.lookup_cons]
        ·rw [if_neg hcnd];right;simp [List.lookup_cons]
       ·have hb':(x'==n)=false:=by simpa using hb
        have h':=ih (by simpa only [List.lookup_cons,hb'] using h)
        rw [List.map_cons]
        dsimp only
        by_cases hcnd:(k==NameKind.free && X.env.scope.kind==.function && X.env.kindOf n==some .cell)=true
        ·rw [if_pos hcnd];simpa only [List.lookup_cons,hb'] using h'
        ·rw [if_neg hcnd];simpa only [List.lookup_cons,hb'] using h'
     exact cy scope.names g3
    ·obtain ⟨c,hcl⟩:=hhas _ (PySem.mem_of_lookup g3) rfl
     have hcx:=hsub _ _ hcl
     rcases l with ⟨k1,_⟩ | ⟨_,c',e4,z⟩
     ·exfalso
      have k1':X.env.scope.names.lookup x'=some .local:=k1
      rcases hfree with z | z
      ·rw [z] at k1';cases k1'
      ·rw [z] at k1';cases k1'
     ·rw [hcx] at e4
      cases e4
      obtain ⟨o,ho,hd⟩:=z
      refine ⟨c,?_,o,old _ _ ho,hd⟩
      show (nw++cl).lookup x'=some c
      rw [List.lookup_append]
      cases q:nw.lookup x' with
      | none=>exact hcl
      | some c'=>
       exfalso
       have:=ck.cells _ (ncell _ _ q) rfl
       dsimp only at this
       rw [g3] at this;cases this
  ·rcases spl x c e with g | g
   ·exact ⟨none,(okc.empty x c (PySem.mem_of_lookup g)).1⟩
   ·obtain ⟨v,o,ho,hd⟩:=I2.cell x c (hsub _ _ g.2)
    exact ⟨v,o,old _ _ ho,hd⟩
  ·show aQ H2 s2.heap.objs.size (.lst []) hp2.objs.size=none
   rw [aG (Ne.symm hDC)]
   exact I2.hok.fresh hCle
  ·rcases spl x c e with g | g
   ·have:=nab x c g
    rw [aG (by intro z;rw [z] at this;trivial)]
    exact I2.hok.fresh (by trivial)
   ·obtain ⟨v,o,ho,hd⟩:=I2.cell x c (hsub _ _ g.2)
    exact upn c (Heap.lt_size ho) (I2.freeC x c (hsub _ _ g.2))
  ·have hp':p∈X.pn++pins:=by simpa [bS,s0] using hp
   obtain ⟨e,n,ne,nf,d⟩:=I2.pin p hp'
   have hlt:=Heap.lt_size e
   refine ⟨old _ _ e,upn _ hlt n,(below _ hlt).1,fun z=>?_,d⟩
   rcases List.mem_cons.mp (I2.stkSub _ z) with z' | z'
   ·exact ne z'
   ·exact nf z'
  ·show (io L src σ).length=N'.length
   unfold io
   rw [List.length_append,List.length_replicate,List.length_map,ck.len]
 have eA:X'.A=X.A:=by subst hX;rfl
 have eP:X'.prog=X.prog:=by subst hX;rfl
 have eW:X'.w=X.w:=by subst hX;rfl
 have eK:X'.K=X.K:=by subst hX;rfl
 have ec:X'.calm=true:=by subst hX;exact hc
 have exe:X'.xe=fun _ _=>False:=by subst hX;rfl
 have eE:X'.env=compEnvC scope (nw++cl) hp2.objs.size X.env:=by subst hX;rfl
 have hg':PG X' tg g:=by subst hX;exact hg _ _ _ _ _ _
 have hif':mX X' ifs tt:=by subst hX;exact hif _ _ _ _ _ _
 have he':PM X' em tm:=by subst hX;exact he _ _ _ _ _ _
 have aft:∀{H':Hp}{s':Shared},ag X' [] (io L src σ) H' s'→ag X pins σ H' s'∧(∃m,s'.heap.Ns hp2.objs.size m)∧jD X pins H' hp2.objs.size:=by
  subst hX
  intro H' s' J
  refine ⟨I2.call' (ch:=fp) J.os J.base J.hok J.bare fun b hb=>⟨(f2 b hb).2.2.2.1,(f2 b hb).2.1,(f2 b hb).2.2.2.2.1,(f2 b hb).2.2.2.2.2⟩,?_,I2.fpOk hCle J.free⟩
  obtain ⟨m,hn,_⟩:=J.loc
  exact ⟨m,hn⟩
 have st1:tn 0 h₁:=T.keep _ _ _ st2 fun b hb o e=>old b o e
 have loop:∀s₃:Shared,s₃={ s2 with heap:=h₁,toks:=s2.toks }→
  codeAny (model X.prog X.w) X.A (.compLoop (.ListComp elt (⟨tg,iter,ifs,0⟩ :: rest) scope pos) 0 (.ref it) (.ref s2.heap.objs.size) (compEnvC scope (nw++cl) hp2.objs.size X.env))
   (RR (.ref s2.heap.objs.size) hp2.objs.size) s₃:=by
  rintro s₃ rfl
  refine sS (ht _ _ _) (fun n s'=>fP fun i H' ys=>ag X' [] (io L src σ) H' s'∧tn i s'.heap∧(∀b∈fp,H' b=none)∧W i n H' ys) ?_ m0
   ⟨0,_,[],I1,st1,fun b hb=>(by rw [aG (below b (fplt b hb)).2];exact (f2 b hb).1),w0⟩
  rintro n s3 ⟨i,H3,ys,I3,st3,fr3,w3⟩
  obtain ⟨hD,alt⟩:=turn i n H3 ys w3
  rcases alt with ⟨stop,qn⟩ | ⟨go,N,hN,step⟩
  ·have d:=T.done X' eP eW eK ec i [] s3 (io L src σ) H3 (fun _ _=>False) I3 (stat fr3) st3 stop
   rw [eA] at d
   refine aS d fun r s4 ⟨hr,I4⟩=>?_
   subst hr
   obtain ⟨J,⟨m,hn⟩,fpC⟩:=aft I4
   exact hRR _ _ H3 .next s4 m J hn fpC qn
  ·have d:=T.item X' eP eW eK ec i [] s3 (io L src σ) H3 (fun _ _=>False) I3 (stat fr3) st3 go
   rw [eA] at d
   refine aS d fun r s4 ⟨u,hr,h4⟩=>?_
   subst hr
   refine aS h4 fun _ s5 ⟨x,H5,I5,r5,y5,st5,fr5⟩=>?_
   have I5':=I5.pinned (stat fr5) (T.obj _ _ st5)
   have a1:=hg' _ s5 (io L src σ) H5 x u _ I5' r5 (step x H5 y5)
   rw [eP,eW,eA,eE,exe] at a1
   refine aS a1 fun _ s6 ⟨σ6,H6,I6,bk,q6⟩=>?_
   have a2:=hif' _ s6 σ6 H6 _ I6 q6
   rw [eP,eW,eA,eE,exe] at a2
   refine aS a2 fun b s7 ⟨H7,I7,q7⟩=>?_
   have again:∀{H8:Hp}{s8:Shared}{ys':List V},ag X' ([]++nI fp s5.heap) σ6 H8 s8→N H8 ys'→∃m,m<n∧fP fun i H' ys=>ag X' [] (io L src σ) H' s8∧tn i s8.heap∧(∀b∈fp,H' b=none)∧W i m H' ys:=fun {H8 s8 ys'} I8 n8=>by
    obtain ⟨m',hm,w8⟩:=hN H8 ys' n8
    refine ⟨m',hm,i+1,H8,ys',(I8.unpinned).weak bk.1.symm bk.2,T.keep _ _ _ st5 fun b hb o e=>(I8.pin (b,o) (List.mem_append_right _ (List.mem_append_right _ (fO hb e)))).1,fun b hb=>?_,w8⟩
    obtain ⟨o,e,d⟩:=T.obj _ _ st5 b hb
    exact (I8.pin (b,o) (List.mem_append_right _ (List.mem_append_right _ (fO hb e)))).2.1
   cases b with
   | false=>
    rw [if_neg Bool.false_ne_true] at q7 ⊢
    exact again I7 q7
   | true=>
    rw [if_pos rfl] at q7 ⊢
    have a3:=he' _ s7 σ6 H7 _ _ I7 q7
    rw [eP,eW,eA,eE,exe] at a3
    refine aS a3 fun _ s8 ⟨H8,ys',I8,q8⟩=>?_
    exact again I8 q8
 exact codeAny_compStart_list (loop _ rfl) (T.self _ 0 _ _ _ st1 (loop _ rfl))
theorem Ed (hc:X.calm=true) (ck:mV X.env.scope X.N scope N' L src=true) (hi:PI X tg iter wi) (hg:∀cl C s H ex pn,PG (bS X scope cl C N' s H ex pn) tg g) (hif:∀cl C s H ex pn,mX (bS X scope cl C N' s H ex pn) ifs tt)
 (hi2:∀cl C s H ex pn,PI (bS X scope cl C N' s H ex pn) tg2 iter2 wi2) (hg2:∀cl C s H ex pn,PG (bS X scope cl C N' s H ex pn) tg2 g2) (hif2:∀cl C s H ex pn,mX (bS X scope cl C N' s H ex pn) ifs2 tt2)
 (he:∀cl C s H ex pn,PE (bS X scope cl C N' s H ex pn) elt te) (hs:∀x,foldedSetIterable iter X.env x=pure x:=by intro _;rfl) (hs2:∀env x,foldedSetIterable iter2 env x=pure x:=by intro _ _;rfl) :
 PE X (.ListComp elt [⟨tg,iter,ifs,0⟩,⟨tg2,iter2,ifs2,0⟩] scope pos) (Ct wi L src g tt (G0 wi2 g2 tt2 te)):=by
 intro pins s σ H Q I h
 have ck:=qN ck
 obtain ⟨cl,hclos,hsub,hhas⟩:=wo (scope:=scope) (env:=X.env) fun y hy e=>I.ok.has y.1 (ck.free y hy e)
 rw [eval_ListComp]
 refine wpAny_comprehension_free (use:=none) rfl hs hclos ck.kind ck.loc (BO (rest:=[⟨tg2,iter2,ifs2,0⟩]) (Dq (scope:=scope) (pos:=pos)) hc ck I hsub hhas hi hg hif (fun cl C s H ex pn=>IN hc rfl (hi2 cl C s H ex pn) (hg2 cl C s H ex pn) (hif2 cl C s H ex pn) (he cl C s H ex pn) (hs2 _)) h (RR:=fun acc C=>compPost (model X.prog X.w) X.A X.xe none (EP X pins σ Q) acc C) ?_)
 intro D C H' f s' m J hn fpC q
 refine ⟨m,hn,fun h' hsb=>⟨.ref D,H',?_,rfl,q⟩⟩
 obtain ⟨f0,f1,f2,f3,f4,f5⟩:=fpC
 exact J.turned (t':=s'.toks) (fun b o hb e=>(hsb.2 b hb).trans e) f0 f1 f3 f4 f5
end
end L2
namespace L2
open PySem PySem.Spec PyProof.Rows
abbrev qV (H:Hp):List (List bc×V)→List (List bc×Addr×Value)→Prop:=Paired fun (p:List bc×V) (q:List bc×Addr×Value)=>p.1=q.1∧H q.2.1=some (.tup (p.1.map kV))∧bj p.2 q.2.2
def cB (ks:List (List bc)) (f:List bc→V):List (List bc×V):=ks.map fun k=>(k,f k)
theorem Au {P:Program}{w:World}:∀{ks:List bc}{us:List Value},aL (ks.map kV) us→ItemsAre (dU P w) ks us
 | [],_,r=>by cases r;exact .nil
 | k :: ks,_,r=>by
  cases r with
  | cons h t=>exact .cons (Cq (k:=k) (by cases k <;> exact h)) (Au t)
theorem By {P:Program}{w:World}{H:Hp}{h:Heap}{b:Addr}{ks:List bc} (ok:gf P w H h) (e:H b=some (.tup (ks.map kV))):(tupleKind (dU P w)).is h ks b:=by
 obtain ⟨_,its,r,⟨o,h1,h2,n,h3⟩,_⟩:=(show bU P w H h b (.tup (ks.map kV)) from ok b _ e)
 exact ⟨o,its.toArray,n,h1,h2,h3,by simpa using Au r⟩
theorem lO {P:Program}{w:World}{h h':Heap}{b:Addr}{ks:List bc} (x:(tupleKind (dU P w)).is h ks b) (k:∀o,h.get? b=some o→h'.get? b=some o):(tupleKind (dU P w)).is h' ks b:=by
 obtain ⟨o,its,n,h1,q⟩:=x
 exact ⟨o,its,n,k _ h1,q⟩
theorem qV.keys {H:Hp}{kvs:List (List bc×V)}{xs:List (List bc×Addr×Value)} (r:qV H kvs xs):kvs.map (·.1)=xs.map (·.1):=by
 induction r with
 | nil=>rfl
 | cons h t ih=>rw [List.map_cons,List.map_cons,ih,h.1]
theorem qV.mem {H:Hp}{kvs:List (List bc×V)}{xs:List (List bc×Addr×Value)} (r:qV H kvs xs) {x:List bc×Addr×Value} (hx:x∈xs):∃ks:List bc,H x.2.1=some (.tup (ks.map kV)):=by
 induction r with
 | nil=>cases hx
 | cons h t ih=>
  rcases List.mem_cons.mp hx with z | z
  ·rw [z];exact ⟨_,h.2.1⟩
  ·exact ih z
theorem qV.at {H:Hp}{kvs:List (List bc×V)}{xs:List (List bc×Addr×Value)} (r:qV H kvs xs) {k:List bc}{v:V} (nd:(kvs.map (·.1)).Nodup) (hm:(k,v)∈kvs):∃p,atKey xs k=some p∧bj v p.2:=by
 induction r with
 | nil=>cases hm
 | @cons p q ps qs h t ih=>
  rw [List.map_cons,List.nodup_cons] at nd
  by_cases e:q.1=k
  ·refine ⟨q.2,by simp [atKey,List.find?_cons,e],?_⟩
   rcases List.mem_cons.mp hm with z | z
   ·rw [←z] at h;exact h.2.2
   ·exact absurd (List.mem_map.mpr ⟨_,z,(h.1.trans e).symm⟩) nd.1
  ·rcases List.mem_cons.mp hm with z | z
   ·rw [←z] at h;exact absurd h.1.symm e
   ·obtain ⟨p',h1,h2⟩:=ih nd.2 z
    exact ⟨p',by simpa [atKey,List.find?_cons,e] using h1,h2⟩
theorem ym {P:Program}{w:World}{H:Hp}{h:Heap}{a:Addr}{kvs:List (List bc×V)} (ok:gf P w H h) (e:H a=some (.dT kvs)) :
 kvs.length≤sizeLine∧(a==sysModules)=false∧∃xs,qV H kvs xs∧h.DictOfH (tupleKind (dU P w)) a xs:=by
 obtain ⟨z,y,xs,r,o,es,ep,h1,h2,h3,h4,h5⟩:=(show bU P w H h a (.dT kvs) from ok a _ e)
 refine ⟨z,y,xs,r,o,es,ep,h1,h2,h3,h4,fun x hx=>?_,h5⟩
 clear h4 h5 e
 induction r with
 | nil=>cases hx
 | @cons p q ps qs hq t ih=>
  rcases List.mem_cons.mp hx with z' | z'
  ·rw [z'];exact By ok (by rw [←hq.1];exact hq.2.1)
  ·exact ih (by simp at z;trivial) z'
theorem DN (ks:List (List bc)) (f:List bc→V):(cB ks f).map (·.1)=ks:=by
 unfold cB
 rw [List.map_map]
 exact List.map_id _
theorem As {ks:List (List bc)}{f:List bc→V}{k:List bc} (h:k∈ks):(k,f k)∈cB ks f:=List.mem_map.mpr ⟨k,h,rfl⟩
theorem qV.set {H H':Hp}{kvs:List (List bc×V)}{xs:List (List bc×Addr×Value)} (r:qV H kvs xs) (ht:∀b ys,H b=some (.tup ys)→H' b=some (.tup ys)) {k:List bc}{v:V}{u:Value} (rv:bj v u) :
 qV H' (kvs.map fun p=>(p.1,if p.1=k then v else p.2)) (xs.map (putAt k u)):=by
 induction r with
 | nil=>exact .nil
 | @cons p q ps qs h t ih=>
  rw [List.map_cons,List.map_cons]
  refine .cons ?_ ih
  obtain ⟨h1,h2,h3⟩:=h
  unfold putAt
  by_cases e:p.1=k
  ·rw [if_pos e,if_pos (h1.symm.trans e)];exact ⟨h1,ht _ _ h2,rv⟩
  ·rw [if_neg e,if_neg (fun z=>e (h1.trans z))];exact ⟨h1,ht _ _ h2,h3⟩
theorem F3 (ks:List (List bc)) (f:List bc→V) (k:List bc) (v:V):((cB ks f).map fun p=>(p.1,if p.1=k then v else p.2))=cB ks fun z=>if z=k then v else f z:=by
 unfold cB
 rw [List.map_map]
 rfl
section
variable {X:Cx}
inductive GM (x:V) (y:V) (H:Hp) (Q:VK):Prop
 | mk (d b:Addr) (ks:List (List bc)) (f:List bc→V) (k:List bc) (h0:x=.ref d) (h1:y=.ref b) (h2:H d=some (.dT (cB ks f))) (h3:H b=some (.tup (k.map kV))) (h4:k∈ks) (h5:Q (f k) H)
def IO:R2:=fun x y H Q=>GM  x y H Q
theorem tE (hu:X.A.units+64<cLine):qi X IO:=by
 intro value slice pins s σ H x y v u Q I rx ry h hs
 obtain ⟨d,b,ks,f,k,rfl,rfl,hd,hb,hk,q⟩:=h
 cases rx
 cases ry
 obtain ⟨_,_,xs,rel,dd⟩:=ym I.hok hd
 obtain ⟨p,hp,rp⟩:=rel.at (k:=k) (by rw [rel.keys];obtain ⟨_,_,_,_,_,_,_,_,h5⟩:=dd;exact h5) (As hk)
 exact subscriptTail_builtinR (x:=p.2) dd.typeIs PySem.F.slot_dict_getitem.lookup (wpAny_getItem_heap (tupleKind_room_in1 (by trivial)) (By I.hok hb) dd hp ⟨rfl,f k,H,I.tok _,rp,q⟩) hs
inductive FC (o:V) (i:V) (v:V) (H:Hp) (Q:(Hp→Prop)):Prop
 | mk (d b:Addr) (ks:List (List bc)) (f:List bc→V) (k:List bc) (h0:o=.ref d) (h1:i=.ref b) (h2:H d=some (.dT (cB ks f))) (h3:H b=some (.tup (k.map kV))) (h4:k∈ks) (h5:∀H',xg H d (.dT (cB ks fun z=>if z=k then v else f z)) H'→Q H')
def Iy:V→V→V→Hp→(Hp→Prop)→Prop:=fun o i v H Q=>FC  o i v H Q
theorem pN (hu:X.A.units+64<cLine):A9 X Iy:=by
 intro pins s σ H o i v ov iv u Q I ro ri rv h
 obtain ⟨d,b,ks,f,k,rfl,rfl,hd,hb,hk,q⟩:=h
 cases ro
 cases ri
 obtain ⟨hz,hm,xs,rel,dd⟩:=ym I.hok hd
 obtain ⟨p,hp,_⟩:=rel.at (k:=k) (by rw [rel.keys];obtain ⟨_,_,_,_,_,_,_,_,h5⟩:=dd;exact h5) (As hk)
 refine wpAny_setItem_heap (hsz:=by rw [←Paired.length rel];exact hz) (tupleKind_room_in1 (by trivial)) (By I.hok hb) dd fun h' dd' sb=>?_
 have es:storedH xs k b u=xs.map (putAt k u):=by
  unfold storedH
  rw [hp]
  rfl
 rw [es] at dd'
 obtain ⟨ob,ens,ep,hq,h2,h3,h4,_,h5⟩:=dd'
 have tp:∀c ys,H c=some (.tup ys)→aQ H d (.dT (cB ks fun z=>if z=k then v else f z)) c=some (.tup ys):=fun c ys e=>by
  rw [aG (gn e hd (by intro z;cases z))];exact e
 refine ⟨_,I.write (x:=d) (e:=d) (o:=.dT (cB ks fun z=>if z=k then v else f z)) (by rw [hd];exact trivial) (.inl rfl) (fun c q' hc hu'=>(sb.2 c hc).trans hu') ⟨_,hq⟩ (show _∧_ from ⟨?_,hm,xs.map (putAt k u),?_,ob,ens,ep,hq,h2,h3,h4,h5⟩),q _ .mk'⟩
 ·unfold cB at hz ⊢
  rw [List.length_map] at hz ⊢
  exact hz
 ·have z:=rel.set tp rv (k:=k)
  rw [F3] at z
  exact z
theorem Cs {pos:Pos}:PE X (.Dict [] [] pos) (fun _ H Q=>∀p H',Nw H p (.dT []) H'→Q (.ref p) H'):=by
 intro pins s σ H Q I h
 refine wpAny_Dict_empty ?_
 have big:(s.heap.objs.size==sysModules)=false:=by
  have e:mainGlobals<s.heap.objs.size:=(I.mod.glob.keeps I.bk).lt
  exact beq_eq_false_iff_ne.mpr (Ne.symm (Nat.ne_of_lt (Nat.lt_trans (by decide) e)))
 exact ⟨.ref _,_,I.laid (fun _ _ e=>Heap.get?_push_of_some _ e) (Nat.le_refl _) (show bU X.prog X.w _ _ _ (.dT []) from ⟨Nat.zero_le _,big,[],.nil,_,#[],0,Heap.get?_push_size _ rfl,⟨rfl,rfl,rfl⟩,rfl,rfl,List.nodup_nil⟩),rfl,h _ _ (.mk' I.fresh)⟩
end
theorem zT {xs:List (List bc×Addr×Value)}{k:List bc}{b:Addr}{v:Value} (h:k∉xs.map (·.1)):storedH xs k b v=xs++[(k,b,v)]:=by
 unfold storedH
 rw [atKey_none_of_get fun j p e=>h (List.mem_map.mpr ⟨_,List.mem_of_getElem? e,rfl⟩)]
 rfl
theorem vt {α β:Type}{F:α→β→Prop}:∀{as:List α}{bs:List β},as.length=bs.length→(∀(i:Nat) a b,as[i]?=some a→bs[i]?=some b→F a b)→Paired F as bs
 | [],[],_,_=>.nil
 | a :: as,b :: bs,l,h=>.cons (h 0 a b rfl rfl) (vt (by simpa using l) fun i x y e1 e2=>h (i+1) x y e1 e2)
theorem A7 {α β:Type}{F:α→β→Prop}{as as':List α}{bs bs':List β} (h:Paired F as bs) (h':Paired F as' bs'):Paired F (as++as') (bs++bs'):=by
 induction h with
 | nil=>exact h'
 | cons r t ih=>exact .cons r ih
section
variable {prog:Program}{w:World}{A:Around}{E:Value→Shared→Prop}{R:Result→Shared→Prop}
variable {l it d:Nat}{vs:Array Value}{xs0 ps:List (List bc×Addr×Value)}
def Kk (prog:Program) (w:World) (h:Heap) (vs:Array Value) (ps:List (List bc×Addr×Value)) (it d:Nat):Prop:=∀(i:Nat) p,ps[i]?=some p→xF fun (T:Nat) (c:Nat) (sl:Array (Option Value)) (dd:Option Addr)=>vs[i]?=some (.ref T)∧h.get? T=some ⟨.type "tuple",dd,.seq #[.ref p.2.1,p.2.2] c,sl⟩∧(tupleKind (dU prog w)).is h p.1 p.2.1∧T≠it∧T≠d∧p.2.1≠it∧p.2.1≠d
theorem AZ (n1:l≠it∧l≠d∧it≠d) (hh:A.handled=none) (hu:(tupleKind (dU prog w)).room A.in1) (lv:vs.size=ps.length) (nd:((xs0++ps).map (·.1)).Nodup) (hz:(xs0++ps).length≤4000) (h0:∀x∈xs0,x.2.1≠it) :
 ∀(r i:Nat) (tk0:Tok) (s:Shared),ps.length - i=r→i≤ps.length→s.heap.IsListIter it l i→s.heap.IsList l vs→Kk prog w s.heap vs ps it d→s.heap.DictOfH (tupleKind (dU prog w)) d (xs0++ps.take i)→
   (∀h' tk,h'.DictOfH (tupleKind (dU prog w)) d (xs0++ps)→(∀(c:Nat) o,c≠it→c≠d→s.heap.get? c=some o→h'.get? c=some o)→R (.ok (.ret .none)) { s with heap:=h',toks:=tk })→
   codeAny (model prog w) A (.builtin "dict.update.loop" ⟨[.ref d,.ref it,.int (i:Nat) tk0,.none],[]⟩) R s:=by
 have W:=(Walks.list (prog:=prog) (w:=w) (A:=A.in1) hh it l n1.1 vs)
 have mv:∀{h h':Heap}{i:Nat},h.DictOfH (tupleKind (dU prog w)) d (xs0++ps.take i)→Kk prog w h vs ps it d→(∀(c:Nat) o,c≠it→h.get? c=some o→h'.get? c=some o)→h'.DictOfH (tupleKind (dU prog w)) d (xs0++ps.take i):=fun {h h' i} hD pr kp=>by
  obtain ⟨o,es,ep,ho,q1,q2,q3,q4,q5⟩:=hD
  refine ⟨o,es,ep,kp d o (Ne.symm n1.2.2) ho,q1,q2,q3,fun x hx=>lO (q4 x hx) fun o e=>kp _ o ?_ e,q5⟩
  rcases List.mem_append.mp hx with z | z
  ·exact h0 x z
  ·obtain ⟨j,hj⟩:=List.mem_iff_getElem?.mp (List.mem_of_mem_take z)
   obtain ⟨_,_,_,_,_,_,_,_,_,e,_⟩:=pr j x hj
   exact e
 intro r
 induction r with
 | zero=>
  intro i tk0 s hr hi st hl pr hD hR
  have e:i=ps.length:=by trivial
  refine codeAny_builtin i5 ?_
  rw [A.under_plainId d6]
  show wpAny _ _ (pyNext (Value.ref it) >>= _) _ _ _
  refine wpAny_bind (W.done s _ _ (by rw [lv,←e];exact ⟨st,hl⟩) fun h' tk keep=>?_)
  have kp:∀(c:Nat) o,c≠it→s.heap.get? c=some o→h'.get? c=some o:=fun c o hc e=>keep c o (by simpa using hc) e
  have hD':=mv hD pr kp
  rw [e,List.take_length] at hD'
  show wpAny _ _ (Builtin.Dict.addKeywords d [] >>= _) _ _ _
  exact wpAny_bind (wpAny_pure (wpAny_pure (hR h' tk hD' fun c o d1 _ e=>kp c o d1 e)))
 | succ r ih=>
  intro i tk0 s hr hi st hl pr hD hR
  have lt:i<ps.length:=by trivial
  have ei:=List.getElem?_eq_getElem lt
  obtain ⟨T,c,sl,dd,e1,e2,e4,e5,e6,e7,e8⟩:=pr i ps[i] ei
  refine codeAny_builtin i5 ?_
  rw [A.under_plainId d6]
  show wpAny _ _ (pyNext (Value.ref it) >>= _) _ _ _
  refine wpAny_bind (W.item i s _ _ (by trivial) ⟨st,hl⟩ fun v h' tk pv st' keep=>?_)
  obtain rfl:v=.ref T:=Option.some.inj ((show vs[i]?=some v from pv).symm.trans e1)
  have kp:∀(c:Nat) o,c≠it→s.heap.get? c=some o→h'.get? c=some o:=fun c o hc e=>keep c o (by simpa using hc) e
  have hD':=mv hD pr kp
  have T':=kp T _ e5 e2
  refine wpAny_bind (wpAny_holding (wpAny_bind (wpAny_tryCatch ?_)))
  unfold Builtin.Dict.pairItems
  refine wpAny_bind (wpAny_typeOf (show Shared.TypeIs { s with heap:=h',toks:=tk } (.ref T) "tuple" from ⟨_,T',rfl⟩) ?_)
  rw [if_pos (by decide)]
  refine wpAny_bind (wpAny_seqItems T' rfl (wpAny_pure ?_))
  show wpAny _ _ (holding [.ref ps[i].2.1,ps[i].2.2] (dictSet d (.ref ps[i].2.1) ps[i].2.2)) _ _ _
  have nk:ps[i].1∉(xs0++ps.take i).map (·.1):=by
   intro q
   have nd':=nd
   rw [←List.take_append_drop i ps,←List.append_assoc,List.map_append,List.nodup_append] at nd'
   refine nd'.2.2 _ q _ (List.mem_map.mpr ⟨ps[i],?_,rfl⟩) rfl
   rw [List.drop_eq_getElem_cons lt]
   exact List.mem_cons_self ..
  have lz:(xs0++ps.take i).length≤sizeLine:=by
   rw [List.length_append] at hz ⊢
   rw [List.length_take,sizeLine_eq]
   trivial
  refine wpAny_holding (wpAny_dictSet_heap (k:=ps[i].1) (hsz:=lz) hu (lO e4 fun o e=>kp _ o e7 e) hD' fun h2 hD2 sb=>?_)
  rw [zT nk] at hD2
  have nx:h2.DictOfH (tupleKind (dU prog w)) d (xs0++ps.take (i+1)):=by
   rw [List.take_succ_eq_append_getElem lt,←List.append_assoc]
   exact hD2
  have k2:∀(c:Nat) o,c≠d→h'.get? c=some o→h2.get? c=some o:=fun c o hc e=>(sb.2 c hc).trans e
  refine wpAny_pure ⟨plainId_quiet d6 _,?_⟩
  have e9:((i:Nat):Int)+1=((i+1:Nat):Int):=by trivial
  show codeAny _ _ (.builtin "dict.update.loop" ⟨[.ref d,.ref it,.int ((i:Nat)+1) 0,.none],[]⟩) _ _
  rw [e9]
  refine ih (i+1) 0 _ (by trivial) lt ?_ ?_ (fun j q hj=>?_) nx fun h3 tk3 hD3 k3=>hR h3 tk3 hD3 fun c o a1 a2 e=>k3 c o a1 a2 (k2 c o a2 (kp c o a1 e))
  ·obtain ⟨o,ho,q⟩:=st'.1
   exact ⟨o,k2 _ _ n1.2.2 ho,q⟩
  ·obtain ⟨o,ho,q⟩:=st'.2
   exact ⟨o,k2 _ _ n1.2.1 ho,q⟩
  ·obtain ⟨T,c,sl,dd,e1,e2,e4,e5,e6,e7,e8⟩:=pr j q hj
   exact ⟨T,c,sl,dd,e1,k2 _ _ e6 (kp _ _ e5 e2),lO e4 fun o e=>k2 _ o e8 (kp _ o e7 e),e5,e6,e7,e8⟩
theorem zM {s:Shared}{T:String}{name:Str}{id:String}{b:Builtin}{self:Value}{rest:List Value}{Q:Value→Shared→Prop} (h:Slot T name id) (hT:s.TypeIs self T) (hb:entryFor table id=some b)
 (hc:wpAny (model prog w) A.in1 (b ⟨self :: rest,[]⟩) (fun fin s'=>match fin with | .done f=>wants Q E (.ok f) s' | .again c'=>c'.quiet=true∧codeAny (model prog w) A c' (wants Q E) s') (fun e s'=>wants Q E (.error e) s') s)
 (ha:argsOk id ⟨self :: rest,[]⟩):wpAny (model prog w) A (call (.builtin id) (self :: rest)) Q E s:=
 wpAny_call (codeAny_call_builtin h.plain hb (h.check _ _ _ _ _ _ _ _ hT ha hc))
end
section
variable {X:Cx}
inductive GJ (x:V) (vs:List V) (H:Hp) (Q:VK):Prop
 | mk (d l:Addr) (kvs ps:List (List bc×V)) (ts:List Addr) (h0:x=.ref d) (h1:vs=[.ref l]) (h2:H d=some (.dT kvs)) (h3:H l=some (.lst (ts.map V.ref))) (h4:ts.length=ps.length) (h5:(∀(i:Nat) t p,ts[i]?=some t→ps[i]?=some p→∃b,H t=some (.tup [.ref b,p.2])∧H b=some (.tup (p.1.map kV)))) (h6:((kvs++ps).map (·.1)).Nodup) (h7:(kvs++ps).length≤4000) (h8:∀H',xg H d (.dT (kvs++ps)) H'→Q .non H')
def Js:V→List V→Hp→VK→Prop:=fun x vs H Q=>GJ  x vs H Q
theorem FW (hc:X.calm=true) (hu:X.A.units+64<cLine):yv X "dict.update" Js:=by
 intro pins s σ H x vs v us Q I rx rv h
 obtain ⟨d,l,kvs,ps,ts,rfl,rfl,hd,hl,lt,hp,nd,h4,q⟩:=h
 cases rx
 obtain ⟨u,rfl,ru⟩:=rv.one
 cases ru
 obtain ⟨z,m,xs0,r0,dd⟩:=ym I.hok hd
 obtain ⟨z1,its,n,rv1,hlen,e⟩:=I.lstM hl
 rw [List.length_map] at hlen
 have isT:∀(i:Nat) t,ts[i]?=some t→its[i]?=some (.ref t):=fun i t hi=>by
  obtain ⟨w,hw,rw'⟩:=rv1.get (show (ts.map V.ref)[i]?=some (V.ref t) by rw [List.getElem?_map,hi];rfl)
  obtain rfl:w=.ref t:=rw'
  exact hw
 obtain ⟨ps',lp,hps⟩:=qh (p:=fun (i:Nat) (p':List bc×Addr×Value)=>Aq fun (p:List bc×V) (T c:Nat) (sl:Array (Option Value)) (dd:Option Addr)=>ps[i]?=some p∧p.1=p'.1∧H p'.2.1=some (.tup (p.1.map kV))∧bj p.2 p'.2.2∧its[i]?=some (.ref T)∧s.heap.get? T=some ⟨.type "tuple",dd,.seq #[.ref p'.2.1,p'.2.2] c,sl⟩∧T≠d∧p'.2.1≠d) ps.length fun i hi=>by
  have ht:=List.getElem?_eq_getElem (show i<ts.length by trivial)
  have hp':=List.getElem?_eq_getElem hi
  obtain ⟨b,hT,hb⟩:=hp i _ _ ht hp'
  obtain ⟨_,us,rus,⟨ob,g1,g2,c,g3⟩,_⟩:=(show bU X.prog X.w H s.heap ts[i] (.tup [.ref b,ps[i].2]) from I.hok _ _ hT)
  obtain ⟨x,y,rfl,rx,ry⟩:=rus.two
  obtain rfl:x=.ref b:=rx
  obtain ⟨oc,od,oo,osl⟩:=ob
  simp only at g2 g3
  subst g2 g3
  exact ⟨(ps[i].1,b,y),ps[i],ts[i],c,osl,od,hp',rfl,hb,ry,isT i _ ht,g1,gn hT hd (by intro z;cases z),gn hb hd (by intro z;cases z)⟩
 have rp:qV H ps ps':=vt lp.symm fun i a b e1 e2=>by
  obtain ⟨p,T,c,sl,dd,g1,g2,g3,g4,_⟩:=hps i b e2
  rw [e1] at g1
  cases g1
  exact ⟨g2,g3,g4⟩
 have ra:qV H (kvs++ps) (xs0++ps'):=A7 r0 rp
 have nd':((xs0++ps').map (·.1)).Nodup:=by rw [←ra.keys];exact nd
 have h4':(xs0++ps').length≤4000:=by rw [←Paired.length ra];exact h4
 refine zM (b:=Builtin.«dict.update») PySem.F.slot_dict_update dd.typeIs PySem.F.entry_dict_update ?_ (PySem.F.args_dict_update_2 _ _)
 unfold Builtin.«dict.update»
 refine wpAny_bind ?_
 unfold Builtin.Dict.selfAndRest
 refine wpAny_bind (wpAny_notOrdered_dict dd.typeIs ?_)
 show wpAny _ _ (pure (d,[Value.ref l])) _ _ _
 refine wpAny_pure ?_
 show wpAny _ _ (Builtin.Dict.updateFrom "dict.update" d (.ref l) [] .none) _ _ _
 unfold Builtin.Dict.updateFrom
 refine wpAny_bind (wpAny_typeOf (T := "list") ⟨_,e,rfl⟩ ?_)
 rw [if_pos (by decide)]
 refine wpAny_bind (tN wQ (by nofun) (by rw [sizeLine_eq];decide) e (by simpa using I.ok.hd hc) fun g1 tk1 k1=>?_)
 simp only [Option.isNone_none,if_true]
 refine wpAny_bind (wpAny_rule ?_)
 have l1:g1.IsList l its.toArray:=⟨_,k1 _ _ e,rfl,()⟩
 refine wpAny_bind (wpAny_pyIter_list l1 ?_)
 have pu:∀(ob:Obj) c o,g1.get? c=some o→(g1.push ob).get? c=some o:=fun ob c o e=>Heap.get?_push_of_some _ e
 have below:∀c o,s.heap.get? c=some o→c≠g1.objs.size:=fun c o e=>Nat.ne_of_lt (Heap.lt_size (k1 _ _ e))
 have keyo:∀{c:Addr}{ys:List V},H c=some (.tup ys)→∃o,s.heap.get? c=some o:=fun hc=>by
  obtain ⟨_,_,_,⟨ob,g1,_⟩,_⟩:=(show bU X.prog X.w H s.heap _ (.tup _) from I.hok _ _ hc)
  exact ⟨ob,g1⟩
 obtain ⟨od,es,ep,hod,q1,q2,q3,q4,q5⟩:=dd
 refine wpAny_pure ⟨plainId_quiet d6 _,?_⟩
 have k0:∀x∈xs0,x.2.1≠g1.objs.size:=fun x hx=>by
  obtain ⟨ks,hk⟩:=r0.mem hx
  obtain ⟨o,ho⟩:=keyo hk
  exact below _ _ ho
 refine AZ (xs0:=xs0) (ps:=ps') (vs:=its.toArray) (l:=l) (it:=g1.objs.size) (d:=d) ⟨below _ _ e,gn hl hd (by intro z;cases z),Ne.symm (below _ _ hod)⟩ (by simpa using I.ok.hd hc) (tupleKind_room_in1 (by trivial)) (by simp;trivial) nd' h4' k0 ps'.length 0 0 _ (by trivial) (Nat.zero_le _) ⟨_,Heap.get?_push_size _ rfl,rfl,rfl⟩ (l1.push _) (fun i p hi=>?_) ?_ fun h' tk hD keep=>?_
 ·obtain ⟨p0,T,c,sl,dd,g1',g2,g3,g4,g5,g6,g7,g8⟩:=hps i p hi
  obtain ⟨o,ho⟩:=keyo g3
  exact ⟨T,c,sl,dd,by simpa using g5,pu _ _ _ (k1 _ _ g6),lO (By I.hok (by rw [←g2];exact g3)) fun o e=>pu _ _ _ (k1 _ _ e),below _ _ g6,g7,below _ _ ho,g8⟩
 ·rw [List.take_zero,List.append_nil]
  exact ⟨od,es,ep,pu _ _ _ (k1 _ _ hod),q1,q2,q3,fun x hx=>lO (q4 x hx) fun o e=>pu _ _ _ (k1 _ _ e),q5⟩
 ·obtain ⟨ob,ens,ep',hq,w2,w3,w4,_,w6⟩:=hD
  have tp:∀c ys,H c=some (.tup ys)→aQ H d (.dT (kvs++ps)) c=some (.tup ys):=fun c ys e=>by
   rw [aG (gn e hd (by intro z;cases z))];exact e
  refine ⟨.non,_,I.write (x:=d) (e:=d) (o:=.dT (kvs++ps)) (by rw [hd];exact trivial) (.inl rfl) (fun c q' hc hu'=>keep c q' (below _ _ hu') hc (pu _ _ _ (k1 _ _ hu'))) ⟨_,hq⟩ (show _∧_ from ⟨by rw [sizeLine_eq];trivial,m,xs0++ps',Paired.mapP ra fun _ _ z=>⟨z.1,tp _ _ z.2.1,z.2.2⟩,ob,ens,ep',hq,w2,w3,w4,w6⟩),rfl,q _ .mk'⟩
end
section
variable {prog:Program}{w:World}{A:Around}{E:Value→Shared→Prop}{s:Shared}
theorem Ep {v d:Addr}{o:Obj}{es:Array DictEntry}{ep:Nat}{Q:Value→Shared→Prop} (hv:s.heap.IsValuesView v d) (ho:s.heap.get? d=some o) (hd:o.data=.dict es ep)
 (hQ:Q (.ref s.heap.objs.size) { s with heap:=s.heap.push { cls:=.type "dict_valueiterator",data:=.fields #[.ref d,.int 0 0,.int es.size 0,.int ep 0] } }):wpAny (model prog w) A (pyIter (.ref v)) Q E s:=by
 obtain ⟨ov,hov,hcv,hdv⟩:=id hv
 refine wpAny_pyIter_slot hv.typeIs F.slot_dict_values_iter (wpAny_call_entry F.slot_dict_values_iter hv.typeIs F.entry_dict_values_iter (wpAny_bind (wpAny_pure (wpAny_bind ?_))) (F.args_dict_values_iter_1 _))
 unfold Builtin.Dict_items.dictOf
 refine wpAny_bind (wpAny_field hov hdv (x:=.ref d) rfl (wpAny_pure (wpAny_bind ?_)))
 unfold Builtin.Dict_items.newIterator
 refine wpAny_bind (wpAny_dictEntries ho hd (wpAny_bind (wpAny_dictEpoch ho hd ?_)))
 simp only [show Builtin.Dict_items.ownsTuple "dict_valueiterator" = false by decide,Bool.false_eq_true,if_false]
 exact wpAny_newObj_type (wpAny_pure ⟨(), "dict_valueiterator",_,⟨_,Heap.get?_push_size _ rfl,rfl⟩,F.slot_dict_valueiterator_next.lookup,by simpa [rawInt] using hQ⟩)
theorem Eh {it d:Addr}{i ep:Nat}{o:Obj}{es:Array DictEntry}{Q:Option Value→Shared→Prop} (hit:s.heap.IsValIter it d i es.size ep) (hod:s.heap.get? d=some o) (hdd:o.data=.dict es ep) (hx:i<es.size)
 (hQ:∀h',h'.IsValIter it d (i+1) es.size ep→Heap.SameBut it s.heap h'→Q (some es[i].val) { s with heap:=h' }):wpAny (model prog w) A (pyNext (.ref it)) Q E s:=by
 obtain ⟨oi,ho,hc,hd⟩:=id hit
 unfold pyNext
 refine wpAny_bind (wpAny_attempt (wpAny_callSpecial?_slot (name:=Str.ofString "__next__") hit.typeIs F.slot_dict_valueiterator_next (wpAny_call_entry F.slot_dict_valueiterator_next hit.typeIs F.entry_dict_valueiterator_next (wpAny_bind (wpAny_pure (wpAny_bind (wpAny_bind ?_)))) (F.args_dict_valueiterator_next_1 _))))
 first | refine wpAny_bind (wpAny_typeNameOfWhole_valiter hit.typeIs (wpAny_pure (wpAny_bind (wpAny_fieldsOf ho hd ?_)))) | refine wpAny_bind (wpAny_typeNameOf_valiter hit.typeIs (wpAny_pure (wpAny_bind (wpAny_fieldsOf ho hd ?_))))
 simp only [show Builtin.Dict_items.ownsTuple "dict_valueiterator" = false by decide,Bool.false_eq_true,if_false]
 show wpAny _ _ (if (Value.ref d==Value.none)=true then _ else _) _ _ s
 rw [if_neg (show ¬((Value.ref d==Value.none)=true) from Bool.false_ne_true)]
 refine wpAny_bind (wpAny_pure (wpAny_bind (wpAny_dictEntries hod hdd ?_)))
 rw [if_neg (by simp)]
 refine wpAny_bind (wpAny_pure (wpAny_bind (wpAny_dictEpoch hod hdd ?_)))
 rw [if_neg (by simp)]
 refine wpAny_pure ?_
 simp only [show ¬((i:Int)<0) from by trivial,if_false,Int.toNat_natCast,Array.getElem?_eq_getElem hx]
 refine wpAny_bind ?_
 first | refine wpAny_bind (wpAny_typeNameOfWhole_valiter hit.typeIs (wpAny_pure (wpAny_bind (wpAny_isOneOf_valiter hit.typeIs ?_)))) | refine wpAny_bind (wpAny_typeNameOf_valiter hit.typeIs (wpAny_pure (wpAny_bind (wpAny_isOneOf_valiter hit.typeIs ?_))))
 show wpAny _ _ (setField (.ref it) 1 (rawInt ((i:Int)+1)) >>= _) _ _ s
 refine wpAny_bind (wpAny_setField ho hd (by simp) ?_)
 have hit':(s.heap.update it (Obj.mapFields (·.setIfInBounds 1 (rawInt ((i:Int)+1))))).IsValIter it d (i+1) es.size ep:=
  ⟨_,Heap.get?_update_self _ ho (Obj.isFreed_of_fields (Obj.data_mapFields hd _)),(Obj.cls_mapFields ..).trans hc,by rw [Obj.data_mapFields hd];simp [rawInt]⟩
 have hT:Shared.TypeIs { s with heap:=s.heap.update it (Obj.mapFields (·.setIfInBounds 1 (rawInt ((i:Int)+1)))) } (.ref it) "dict_valueiterator" := hit'.typeIs
 refine wpAny_bind (wpAny_holding (wpAny_bind (wpAny_isOneOf_valiter hT (wpAny_bind (wpAny_isOneOf_valiter hT ?_)))))
 exact wpAny_pure (wpAny_pure ⟨(),wpAny_pure (hQ _ hit' (Heap.SameBut.update ..))⟩)
theorem Fz {it d:Addr}{ep:Nat}{o:Obj}{es:Array DictEntry}{Q:Option Value→Shared→Prop} (hh:A.handled=none) (hit:s.heap.IsValIter it d es.size es.size ep) (hod:s.heap.get? d=some o) (hdd:o.data=.dict es ep)
 (hQ:∀h',Heap.ExtBut it s.heap h'→Q none { s with heap:=h' }):wpAny (model prog w) A (pyNext (.ref it)) Q E s:=by
 obtain ⟨oi,ho,hc,hd⟩:=id hit
 unfold pyNext
 refine wpAny_bind (wpAny_attempt (wpAny_callSpecial?_slot (name:=Str.ofString "__next__") hit.typeIs F.slot_dict_valueiterator_next (wpAny_call_entry F.slot_dict_valueiterator_next hit.typeIs F.entry_dict_valueiterator_next (wpAny_bind (wpAny_pure (wpAny_bind (wpAny_bind ?_)))) (F.args_dict_valueiterator_next_1 _))))
 first | refine wpAny_bind (wpAny_typeNameOfWhole_valiter hit.typeIs (wpAny_pure (wpAny_bind (wpAny_fieldsOf ho hd ?_)))) | refine wpAny_bind (wpAny_typeNameOf_valiter hit.typeIs (wpAny_pure (wpAny_bind (wpAny_fieldsOf ho hd ?_))))
 simp only [show Builtin.Dict_items.ownsTuple "dict_valueiterator" = false by decide,Bool.false_eq_true,if_false]
 show wpAny _ _ (if (Value.ref d==Value.none)=true then _ else _) _ _ s
 rw [if_neg (show ¬((Value.ref d==Value.none)=true) from Bool.false_ne_true)]
 refine wpAny_bind (wpAny_pure (wpAny_bind (wpAny_dictEntries hod hdd ?_)))
 rw [if_neg (by simp)]
 refine wpAny_bind (wpAny_pure (wpAny_bind (wpAny_dictEpoch hod hdd ?_)))
 rw [if_neg (by simp)]
 refine wpAny_pure ?_
 simp only [show ¬((es.size:Int)<0) from by trivial,if_false,Int.toNat_natCast,Array.getElem?_eq_none (Nat.le_refl es.size)]
 refine wpAny_bind ?_
 first | refine wpAny_bind (wpAny_typeNameOfWhole_valiter hit.typeIs (wpAny_pure ?_)) | refine wpAny_bind (wpAny_typeNameOf_valiter hit.typeIs (wpAny_pure ?_))
 show wpAny _ _ (setField (.ref it) 0 .none >>= _) _ _ s
 refine wpAny_bind (wpAny_setField ho hd (by simp) ?_)
 show wpAny _ _ (newExc (.type "StopIteration") [] >>= _) _ _ _
 refine wpAny_bind ?_
 simp only [newExc,newTuple]
 refine wpAny_bind (wpAny_newObj_type (wpAny_bind (m:=firstArgMember _ _) (wpAny_of_eq (a:=Value.none) (by first | rfl | (simp only [firstArgMember];rfl)) (wpAny_newObj_type ?_ (by size_fits)))) (by size_fits))
 simp only [raiseNew]
 refine wpAny_bind (wpAny_handled ?_)
 rw [show A.in1.handled=none from hh]
 refine wpAny_bind (wpAny_pure (wpAny_throw ?_))
 exact wpAny_bind (wpAny_isInstance (b:=true) (T := "StopIteration") ⟨_,Heap.get?_push_size _ rfl,rfl⟩ isSubtype_stop (wpAny_pure (hQ _ (((Heap.SameBut.update ..).extBut.push _).push _))))
theorem sy:entryFor table "dict_valueiterator.__iter__" = some Builtin.«dict_keyiterator.__iter__»:=entryFor_alias (id' := "dict_keyiterator.__iter__") (by kernel_rfl) rfl (by nofun) (by kernel_rfl)
theorem DH {it d:Addr}{i n ep:Nat}{Q:Value→Shared→Prop} (hit:s.heap.IsValIter it d i n ep) (h:Q (.ref it) s):wpAny (model prog w) A (pyIter (.ref it)) Q E s:=by
 refine wpAny_pyIter_slot hit.typeIs F.slot_dict_valueiterator_iter (wpAny_call_entry F.slot_dict_valueiterator_iter hit.typeIs sy ?_ (F.args_dict_valueiterator_iter_1 _))
 show wpAny _ _ (ret (.ref it)) _ _ s
 exact wpAny_pure ⟨(), "dict_valueiterator",_,hit.typeIs,F.slot_dict_valueiterator_next.lookup,h⟩
end
def AM (v d:Addr):HO:=.ext fun h=>h.IsValuesView v d
section
variable {X:Cx}
inductive Hy (x:V) (vs:List V) (H:Hp) (Q:VK):Prop
 | mk (d:Addr) (kvs:List (List bc×V)) (h0:x=.ref d) (h1:vs=[]) (h2:H d=some (.dT kvs)) (h3:∀p H',Nw H p (AM p d) H'→Q (.ref p) H')
def Kc:V→List V→Hp→VK→Prop:=fun x vs H Q=>Hy  x vs H Q
theorem DY:yL X "dict.values" Kc:=by
 intro pins s σ H x vs v us Q I rx rv h
 obtain ⟨d,kvs,rfl,rfl,hd,q⟩:=h
 cases rx
 cases rv
 obtain ⟨z,m,xs,rel,dd⟩:=ym I.hok hd
 refine wpAny_call_entry F.slot_dict_values dd.typeIs F.entry_dict_values (wpAny_bind ?_) (F.args_dict_values_1 _)
 unfold Builtin.Dict.noArgs
 refine wpAny_bind (wpAny_notOrdered_dict dd.typeIs ?_)
 show wpAny _ _ (pure d) _ _ s
 refine wpAny_pure ?_
 show wpAny _ _ (Builtin.Dict.showsAll d >>= _) _ _ s
 unfold Builtin.Dict.showsAll
 rw [if_neg (by rw [m];exact Bool.false_ne_true)]
 refine wpAny_bind (wpAny_pure (wpAny_bind (wpAny_newObj_type (wpAny_pure ⟨(),.ref s.heap.objs.size,_,I.laid (a:=s.heap.objs.size) (o:=AM s.heap.objs.size d) (t':=s.toks) (fun _ _ e=>Heap.get?_push_of_some _ e) (Nat.le_refl _) ?_,rfl,q _ _ (.mk' I.fresh)⟩))))
 exact ⟨⟨_,Heap.get?_push_size _ rfl,rfl,rfl⟩,⟨_,Heap.get?_push_size _ rfl⟩,fun h1 h2 ⟨o,e,c⟩ k=>⟨o,k o e,c⟩⟩
def Ki (d:Addr) (o:Obj) (kvs:List (List bc×V)):It:=⟨fun i H=>H d=some (.frz o (.dT kvs))∧i<kvs.length,fun i H x H'=>H'=H∧∃k,kvs[i]?=some (k,x),fun i H=>H d=some (.frz o (.dT kvs))∧i=kvs.length⟩
theorem Paired.at' {α β:Type}{F:α→β→Prop}{as:List α}{bs:List β} (h:Paired F as bs):∀{i:Nat}{a:α},as[i]?=some a→∃b,bs[i]?=some b∧F a b:=by
 induction h with
 | nil=>intro i a e;simp at e
 | @cons x y xs ys r t ih=>
  intro i a e
  cases i with
  | zero=>simp at e;subst e;exact ⟨y,rfl,r⟩
  | succ i=>exact ih e
theorem Do {P:Program}{w:World}{K:PySem.W.Frag}{tg:Expr}{d it:Addr}{o:Obj}{es:Array DictEntry}{ep:Nat}{kvs:List (List bc×V)} (hd:o.data=.dict es ep) (hl:es.size=kvs.length):sM P w K tg (Ki d o kvs) [it] it (fun i h=>h.IsValIter it d i es.size ep) where
 mem:=by simp
 obj:=fun i h st b hb=>by
  have e:b=it:=by simpa using hb
  subst e
  obtain ⟨o,e,c,d⟩:=st
  exact ⟨o,e,fun v z=>by rw [d] at z;cases z⟩
 keep:=fun i h h' ⟨o,e,c⟩ k=>⟨o,k it (by simp) o e,c⟩
 item:=by
  intro X hP hw hK hc i pins s σ H E I hf st hg
  subst hP hw hK
  obtain ⟨hH,hi⟩:=hg
  obtain ⟨g,hx⟩:=(show bU X.prog X.w H s.heap d (.frz o (.dT kvs)) from I.hok d _ hH)
  obtain ⟨_,_,xs,rel,o',es',ep',g',_,h3,h4,_⟩:=hx
  rw [g] at g'
  cases g'
  rw [hd] at h3
  cases h3
  obtain ⟨f0,f1,f2,f3,f4,f5⟩:=hf it (by simp)
  have ei:=List.getElem?_eq_getElem hi
  obtain ⟨y,ey,_,_,ry⟩:=Paired.at' rel ei
  have hi':i<es.size:=by trivial
  have ev:es[i].val=y.2.2:=by
   have e:es.toList[i]?=some es[i]:=by simp [hi']
   rw [h4,List.getElem?_map,ey] at e
   have:=Option.some.inj e
   rw [←this]
   rfl
  refine Eh st g hd hi' fun h' st' sb=>?_
  have I1:ag X pins σ H { s with heap:=h' }:=I.turned (t':=s.toks) (fun b o hb e=>(sb.2 b hb).trans e) f0 f1 f3 f4 f5
  obtain ⟨oo,e,c,dd⟩:=id st'
  exact ⟨(),yk (s:={ s with heap:=h' }) e c dd (by decide) ⟨kvs[i].2,H,I1,by rw [ev];exact ry,⟨rfl,kvs[i].1,ei⟩,st',fun b hb=>(hf b hb).1⟩⟩
 done:=by
  intro X hP hw hK hc i pins s σ H E I hf st hg
  subst hP hw hK
  obtain ⟨hH,hi⟩:=hg
  obtain ⟨g,hx⟩:=(show bU X.prog X.w H s.heap d (.frz o (.dT kvs)) from I.hok d _ hH)
  obtain ⟨f0,f1,f2,f3,f4,f5⟩:=hf it (by simp)
  rw [hi,←hl] at st
  exact Fz (I.ok.hd hc) st g hd fun h' eb=>⟨rfl,I.turned (t':=s.toks) (fun b o hb e=>eb b o hb e) f0 f1 f3 f4 f5⟩
 self:=fun _ _ _ _ _ st h=>DH st h
def KZ (tl:TE):TI:=fun σ H R=>tl σ H fun x H1=>fP fun (v d:Addr) (kvs:List (List bc×V))=>x=.ref v∧H1 v=some (AM v d)∧H1 d=some (.dT kvs)∧∀o H2,xg H1 d (.frz o (.dT kvs)) H2→R (Ki d o kvs) H2
theorem Go {tg l:Expr}{tl:TE} (hl:PE X l tl):PI X tg l (KZ tl):=by
 intro pins s σ H R I h
 refine aS (hl pins s σ H _ I h) fun u s1 ⟨x,H1,I1,r1,q1⟩=>?_
 obtain ⟨v,d,kvs,rfl,hv,hd,q⟩:=q1
 cases r1
 obtain ⟨vw,_⟩:=(show bU X.prog X.w H1 s1.heap v (AM v d) from I1.hok v _ hv)
 obtain ⟨z,m,xs,rel,o,es,ep,h1,h2,h3,h4,h5⟩:=(show bU X.prog X.w H1 s1.heap d (.dT kvs) from I1.hok d _ hd)
 have lz:es.size=kvs.length:=by
  rw [←Array.length_toList,h4,List.length_map,Paired.length rel]
 refine Ep vw h1 h3 ?_
 have tp:∀c ys,H1 c=some (.tup ys)→aQ H1 d (.frz o (.dT kvs)) c=some (.tup ys):=fun c ys e=>by
  rw [aG (gn e hd (by intro z;cases z))];exact e
 have I2:ag X pins σ (aQ H1 d (.frz o (.dT kvs))) { s1 with heap:=s1.heap,toks:=s1.toks }:=I1.write (x:=d) (e:=d) (o:=.frz o (.dT kvs)) (t':=s1.toks) (by rw [hd];exact trivial) (.inl rfl) (fun _ _ _ e=>e) ⟨_,h1⟩ (show _∧_ from ⟨h1,z,m,xs,Paired.mapP rel fun _ _ z=>⟨z.1,tp _ _ z.2.1,z.2.2⟩,o,es,ep,h1,h2,h3,h4,h5⟩)
 refine ⟨s1.heap.objs.size,[s1.heap.objs.size],_,_,aQ H1 d (.frz o (.dT kvs)),rfl,I2.kept (t':=s1.toks) fun b o e=>Heap.get?_push_of_some _ e,Do h3 lz,⟨_,Heap.get?_push_size _ rfl,rfl,rfl⟩,fun b hb=>?_,q _ _ .mk'⟩
 have e:b=s1.heap.objs.size:=by simpa using hb
 subst e
 exact I2.fpOk (Nat.le_refl _) (I2.hok.fresh (Nat.le_refl _))
end
end L2
namespace L2
open PySem PyProof.Rows
section
variable {X:Cx}
inductive Ft (xs:List V) (H:Hp) (Q:VK):Prop
 | mk (x:V) (d:PyData) (E:Addr→Prop) (n k:Nat) (h0:xs=[x]) (h1:aK E H x d) (h2:Wt d n k) (h3:n≤5500) (h4:k≤50) (h5:Q (.str d.shown) H)
def HZ:List V→Hp→VK→Prop:=fun xs H Q=>Ft  xs H Q
theorem vm {k:Nat} (hr:fY k X.A):d8 X (.builtin "repr") HZ:=by
 intro pins s σ H xs us Q I r h
 obtain ⟨x,d,E,n,kk,rfl,hd,wd,hn,hk,q⟩:=h
 cases hd with
 | non=>
  obtain ⟨u,rfl,ru⟩:=r.one
  cases ru
  exact PySem.P.repr_of_none ⟨.str _,H,I.tok _,⟨_,by rw [PyData.shown]⟩,q⟩
 | bl b=>
  obtain ⟨u,rfl,ru⟩:=r.one
  cases ru
  refine PySem.P.repr_of_bool ⟨.str (PyData.shown (.bool b)),H,I.tok _,?_,q⟩
  rw [PyData.shown]
  cases b
  ·exact ⟨()⟩
  ·exact ⟨()⟩
 | int i=>
  obtain ⟨u,rfl,t,rfl⟩:=oD r
  refine PySem.P.repr_of_int ?_ ⟨.str _,H,I.tok _,⟨_,by rw [PyData.shown]⟩,q⟩
  cases wd with
  | int h=>
   by_cases h0:i=0
   ·subst h0;decide
   ·exact Nat.lt_of_lt_of_le (h.log h0) (by decide)
 | str y=>
  obtain ⟨u,rfl,t,rfl⟩:=oD r
  have l:=wd.len
  rw [PyData.shown] at l
  refine PySem.P.repr_of_str ⟨.str _,H,I.tok _,⟨_,by rw [PyData.shown]⟩,q⟩ (by rw [sizeLine_eq];trivial)
 | @lst a xs ds h ne rr=>exact vC hr pins s σ H _ us Q I r ⟨a,.list ds,E,n,kk,rfl,.lst h ne rr,wd,hn,hk,q⟩
 | @tup a xs ds h rr=>exact vC hr pins s σ H _ us Q I r ⟨a,.tuple ds,E,n,kk,rfl,.tup h rr,wd,hn,hk,q⟩
end
end L2
namespace L2
open PySem PySem.Spec PyProof.Rows
mutual
inductive Wh (z:Nat):PyData→Nat→Nat→Prop
 | non {n k:Nat} (hn:1≤n):Wh z .none n k
 | bl (b:Bool) {n k:Nat} (hn:1≤n):Wh z (.bool b) n k
 | int {i:Int} (h:Sz (24+z) i) {n k:Nat} (hn:1≤n):Wh z (.int i) n k
 | str {x:Str} (h:x.length+1≤4 ^ z) (hc:∀c∈x.cps.toList,c<128) {n k:Nat} (hn:1≤n):Wh z (.str x) n k
 | list {xs:List PyData}{m l n k:Nat} (h:cD z xs m l) (hn:m+1≤n) (hk:l+1≤k):Wh z (.list xs) n k
 | tuple {xs:List PyData}{m l n k:Nat} (h:cD z xs m l) (hn:m+1≤n) (hk:l+1≤k):Wh z (.tuple xs) n k
inductive cD (z:Nat):List PyData→Nat→Nat→Prop
 | nil {n k:Nat}:cD z [] n k
 | cons {x:PyData}{xs:List PyData}{m l n k:Nat} (h:Wh z x m k) (r:cD z xs l k) (hn:m+l≤n):cD z (x :: xs) n k
end
theorem Wh.up {z:Nat}{d:PyData}{n k n' k':Nat} (h:Wh z d n k) (hn:n≤n') (hk:k≤k'):Wh z d n' k':=by
 cases h with
 | non h=>exact .non (by trivial)
 | bl b h=>exact .bl b (by trivial)
 | int h hn'=>exact .int h (by trivial)
 | str h hc hn'=>exact .str h hc (by trivial)
 | list h h1 h2=>exact .list h (by trivial) (by trivial)
 | tuple h h1 h2=>exact .tuple h (by trivial) (by trivial)
theorem cD.up {z:Nat}:∀{xs:List PyData}{n k n' k':Nat},cD z xs n k→n≤n'→k≤k'→cD z xs n' k'
 | _,_,_,_,_,.nil,_,_=>.nil
 | _,_,_,_,_,.cons h r hn,h1,h2=>.cons (h.up (Nat.le_refl _) h2) (r.up (Nat.le_refl _) h2) (by trivial)
theorem cD.append {z:Nat}:∀{xs ys:List PyData}{n m k:Nat},cD z xs n k→cD z ys m k→cD z (xs++ys) (n+m) k
 | _,_,_,_,_,.nil,s=>s.up (by trivial) (Nat.le_refl _)
 | _,_,_,_,_,.cons h r hn,s=>.cons h (r.append s) (by trivial)
theorem cD.one {z:Nat}{d:PyData}{n k:Nat} (h:Wh z d n k):cD z [d] n k:=.cons (l:=0) h .nil (by trivial)
theorem cD.take {z:Nat}:∀{xs:List PyData}{n k:Nat} (i:Nat),cD z xs n k→cD z (xs.take i) n k
 | _,_,_,0,_=>by simp;exact .nil
 | _,_,_,_+1,.nil=>by simp;exact .nil
 | _,_,_,i+1,.cons h r hn=>by simp;exact .cons h (r.take i) hn
theorem cD.drop {z:Nat}:∀{xs:List PyData}{n k:Nat} (i:Nat),cD z xs n k→cD z (xs.drop i) n k
 | _,_,_,0,h=>by simpa using h
 | _,_,_,_+1,.nil=>by simp;exact .nil
 | _,_,_,i+1,.cons h r hn=>by simp;exact (r.drop i).up (by trivial) (Nat.le_refl _)
theorem cD.reverse {z:Nat}:∀{xs:List PyData}{n k:Nat},cD z xs n k→cD z xs.reverse n k
 | _,_,_,.nil=>by simp;exact .nil
 | _,_,_,.cons h r hn=>by rw [List.reverse_cons];exact (r.reverse.append (.one h)).up (by trivial) (Nat.le_refl _)
mutual
theorem Wh.more {z y:Nat} (hz:z≤y):∀{d:PyData}{n k:Nat},Wh z d n k→Wh y d n k
 | _,_,_,.non h=>.non h
 | _,_,_,.bl b h=>.bl b h
 | _,_,_,.int h hn=>.int (h.mono (by trivial)) hn
 | _,_,_,.str h hc hn=>.str (Nat.le_trans h (AA hz)) hc hn
 | _,_,_,.list h hn hk=>.list (cD.more hz h) hn hk
 | _,_,_,.tuple h hn hk=>.tuple (cD.more hz h) hn hk
theorem cD.more {z y:Nat} (hz:z≤y):∀{ds:List PyData}{n k:Nat},cD z ds n k→cD y ds n k
 | _,_,_,.nil=>.nil
 | _,_,_,.cons h r hn=>.cons (Wh.more hz h) (cD.more hz r) hn
end
def Dh (z:Nat) (E:Addr→Prop) (H:Hp) (v:V) (n k:Nat):Prop:=∃d,aK E H v d∧Wh z d n k
def bZ (z:Nat) (E:Addr→Prop) (H:Hp) (vs:List V) (n k:Nat):Prop:=∃ds,au E H vs ds∧cD z ds n k
section
variable {z:Nat}{E:Addr→Prop}{H H':Hp}{n m k:Nat}{v:V}{xs ys:List V}
theorem bZ.sE (h:bZ z E H xs n k) (s:af E H H'):bZ z E H' xs n k:=by obtain ⟨d,a,b⟩:=h;exact ⟨d,a.mono s,b⟩
theorem Dh.sE (h:Dh z E H v n k) (s:af E H H'):Dh z E H' v n k:=by obtain ⟨d,a,b⟩:=h;exact ⟨d,a.mono s,b⟩
theorem bZ.sm (h:bZ z E H xs n k) (s:aa H H'):bZ z E H' xs n k:=h.sE s.toE
theorem Dh.sm (h:Dh z E H v n k) (s:aa H H'):Dh z E H' v n k:=h.sE s.toE
theorem bZ.nil:bZ z E H [] n k:=⟨[],.nil,.nil⟩
theorem bZ.one (h:Dh z E H v n k):bZ z E H [v] n k:=by obtain ⟨d,a,b⟩:=h;exact ⟨[d],.cons a .nil,.one b⟩
theorem bZ.append (h:bZ z E H xs n k) (g:bZ z E H ys m k):bZ z E H (xs++ys) (n+m) k:=by
 obtain ⟨d,a,b⟩:=h;obtain ⟨e,a',b'⟩:=g;exact ⟨d++e,a.append a',b.append b'⟩
theorem bZ.cons (h:Dh z E H v m k) (g:bZ z E H xs n k):bZ z E H (v :: xs) (m+n) k:=(bZ.one h).append g
theorem bZ.take (h:bZ z E H xs n k) (i:Nat):bZ z E H (xs.take i) n k:=by obtain ⟨d,a,b⟩:=h;exact ⟨_,a.take i,b.take i⟩
theorem bZ.drop (h:bZ z E H xs n k) (i:Nat):bZ z E H (xs.drop i) n k:=by obtain ⟨d,a,b⟩:=h;exact ⟨_,a.drop i,b.drop i⟩
theorem bZ.reverse (h:bZ z E H xs n k):bZ z E H xs.reverse n k:=by obtain ⟨d,a,b⟩:=h;exact ⟨_,a.reverse,b.reverse⟩
theorem bZ.up {n' k':Nat} (h:bZ z E H xs n k) (hn:n≤n') (hk:k≤k'):bZ z E H xs n' k':=by obtain ⟨d,a,b⟩:=h;exact ⟨d,a,b.up hn hk⟩
theorem Dh.up {n' k':Nat} (h:Dh z E H v n k) (hn:n≤n') (hk:k≤k'):Dh z E H v n' k':=by obtain ⟨d,a,b⟩:=h;exact ⟨d,a,b.up hn hk⟩
theorem bZ.more {y:Nat} (h:bZ z E H xs n k) (hz:z≤y):bZ y E H xs n k:=by obtain ⟨d,a,b⟩:=h;exact ⟨d,a,b.more hz⟩
theorem Dh.more {y:Nat} (h:Dh z E H v n k) (hz:z≤y):Dh y E H v n k:=by obtain ⟨d,a,b⟩:=h;exact ⟨d,a,b.more hz⟩
theorem Dh.lst {a:Addr} (h:H a=some (.lst xs)) (ne:¬E a) (g:bZ z E H xs n k):Dh z E H (.ref a) (n+1) (k+1):=by
 obtain ⟨d,p,q⟩:=g;exact ⟨.list d,.lst h ne p,.list q (Nat.le_refl _) (Nat.le_refl _)⟩
theorem Dh.tup {a:Addr} (h:H a=some (.tup xs)) (g:bZ z E H xs n k):Dh z E H (.ref a) (n+1) (k+1):=by
 obtain ⟨d,p,q⟩:=g;exact ⟨.tuple d,.tup h p,.tuple q (Nat.le_refl _) (Nat.le_refl _)⟩
theorem Dh.non:Dh z E H .non (n+1) k:=⟨.none,.non,.non (by trivial)⟩
theorem Dh.bl (b:Bool):Dh z E H (.bl b) (n+1) k:=⟨.bool b,.bl b,.bl b (by trivial)⟩
theorem Dh.int {i:Int} (h:Sz (24+z) i):Dh z E H (.int i) (n+1) k:=⟨.int i,.int i,.int h (by trivial)⟩
theorem Dh.str {x:Str} (h:x.length+1≤4 ^ z) (hc:∀c∈x.cps.toList,c<128):Dh z E H (.str x) (n+1) k:=⟨.str x,.str x,.str h hc (by trivial)⟩
theorem Wh.pos {d:PyData} (h:Wh z d n k):1≤n:=by cases h <;> trivial
theorem cD.len:∀{ds:List PyData}{n k:Nat},cD z ds n k→ds.length≤n
 | _,_,_,.nil=>Nat.zero_le _
 | _,_,_,.cons h r hn=>by have:=h.pos;have:=cD.len r;simp;trivial
theorem bZ.len (h:bZ z E H xs n k):xs.length≤n:=by obtain ⟨d,a,b⟩:=h;rw [a.length];exact b.len
end
section
variable {z:Nat}{E:Addr→Prop}{H H':Hp}{n m k:Nat}{v:V}{xs ys:List V}
end
mutual
theorem Wh.wv {z:Nat} (hz:z≤4):∀{d:PyData}{n k:Nat},Wh z d n k→Wv 60 d n k
 | _,_,_,.non h=>.non h
 | _,_,_,.bl b h=>.bl b h
 | _,_,_,.int h hn=>.int (h.mono (by trivial)) hn
 | _,_,_,.str h hc hn=>.str ⟨by have:=AA hz;simp at this;trivial,hc⟩ hn
 | _,_,_,.list h hn hk=>.list (cD.wv hz h) hn hk
 | _,_,_,.tuple h hn hk=>.tuple (cD.wv hz h) hn hk
theorem cD.wv {z:Nat} (hz:z≤4):∀{ds:List PyData}{n k:Nat},cD z ds n k→oV 60 ds n k
 | _,_,_,.nil=>.nil
 | _,_,_,.cons h r hn=>.cons (Wh.wv hz h) (cD.wv hz r) hn
end
end L2
namespace KM
end KM
namespace KM
end KM
namespace L2
open PySem PySem.Spec PyProof.Rows
section
variable {prog:Program}{w:World}{A:Around}{E:Value→Shared→Prop}{s:Shared}
end
section
variable {prog:Program}{w:World}{A:Around}{R:Result→Shared→Prop}{it:Addr}{fp wr:List Addr}{G:Array GenState→Array GenState→Prop}{P:Nat→Value→Prop}{St:Nat→Shared→Prop}
end
section
variable {prog:Program}{w:World}{A:Around}{E:Value→Shared→Prop}{s:Shared}
end
section
variable {M:Model}{A:Around}{E:Value→Shared→Prop}{s:Shared}
end
section
variable {prog:Program}{w:World}{A:Around}{E:Value→Shared→Prop}{s:Shared}{a:Addr}{ob:Obj}{xs:Array (Int×Value)}{ep:Nat}{tb:SetTable}
end
section
variable {prog:Program}{w:World}{A:Around}{E:Value→Shared→Prop}{s:Shared}{a I:Addr}{ob:Obj}{xs:Array (Int×Value)}{ep:Nat}{tb:SetTable}
end
section
variable {prog:Program}{w:World}{A:Around}{E:Value→Shared→Prop}{s:Shared}{a I:Addr}{ob:Obj}{xs:Array (Int×Value)}{ep:Nat}{tb:SetTable}
end
section
variable {prog:Program}{w:World}{A:Around}{E:Value→Shared→Prop}{s:Shared}{a:Addr}
end
section
variable {prog:Program}{w:World}{A:Around}{E:Value→Shared→Prop}{s:Shared}{a:Addr}
end
section
variable {X:Cx}{K:PySem.W.Frag}{e:Expr}{te:TE}{p1 p2 p3 p4:Pos}
end
section
variable {prog:Program}{w:World}{A:Around}{E:Value→Shared→Prop}{s:Shared}
end
section
variable {X:Cx}{a:Expr}{ta:TA}{p p2 pos pos2:Pos}
end
section
variable {X:Cx}
end
end L2
namespace L2
open PySem PySem.Spec PyProof.Rows
section
variable {z:Nat}{E:Addr→Prop}{H H':Hp}{n m k:Nat}{v:V}{xs ys:List V}
end
section
variable {z:Nat}{E:Addr→Prop}{H H':Hp}{n m k:Nat}{v:V}{xs ys:List V}
end
end L2
set_option maxHeartbeats 4000000
open L2
local macro_rules | `(#[$n:num,$i:ident])=>`(@pw _ $n _ _ (Or.inl $i) (by rfl) (by decide) (by decide)) | `(#[$n:num,($i:ident)])=>`(@pw _ $n _ _ (Or.inr (Or.inl $i)) (by rfl) (by decide) (by decide))
local macro_rules | `(#[$n:num,()])=>`(@pw _ $n _ _ (Or.inl (by kernel_rfl)) (by rfl) (by decide) (by decide)) | `(#[$n:num,0])=>`(@pw _ $n _ _ (Or.inr (Or.inl (by kernel_rfl))) (by rfl) (by decide) (by decide)) | `(#[$n:num,1])=>`(@pw _ $n _ _ (Or.inr (Or.inr (by kernel_rfl))) (by rfl) (by decide) (by decide))
local macro_rules | `(#[()])=>`(@bO _ _ _ _) | `(#[(),()])=>`(@lJ _ _ (by decide) (by decide))
local macro_rules | `(#[[$a]])=>`(@HV _ _ _ _ _ $a (@bE _) rfl) | `(#[[$a,$b,*]])=>`(@HV _ _ _ _ _ $a #[[$b,*]] rfl)
local macro_rules | `(#[$a[$b]])=>`(@d7 _ _ _ _ _ _ _ (@JO _ ($(Lean.mkIdent `K)) (by rfl)) $a $b (fun _ _=>rfl)) | `(#[$a[$b]!])=>`(@d7 _ _ _ _ _ _ _ (@Jd _ ($(Lean.mkIdent `K)) (by rfl)) $a $b (fun _ _=>rfl))
local macro_rules | `(#[$g:ident,$k:ident,$t:term,$a:term])=>`(@iM _ _ _ _ _ _ _ _ _ _ _ _ _ _ _ _ $g ($(Lean.mkIdent `hr).mono (by decide)) $k ($t).m ($t).F.kp ($t).B .nil (@mt _) $a (by decide) (by rfl) (by rfl))
local macro_rules | `(#[$g:ident,(),$t:term,$a:term])=>`(@iM _ _ _ _ _ _ _ _ _ _ _ _ _ _ _ _ $g ($(Lean.mkIdent `hr).mono (by decide)) (by show _=_;kernel_rfl) ($t).m ($t).F.kp ($t).B .nil (@mt _) $a (by decide) (by rfl) (by rfl))
local macro_rules | `(#[$n:num,$s:term,$i:ident,$v:term])=>`(@lG _ _ ($n) _ _ _ _ $s rfl (Or.inl $i) $v (by rfl) (by first | exact .inl rfl | exact .inr rfl | assumption))
local macro_rules | `(#[$n:num,$s:term,$i:ident])=>`(@gv _ _ ($n) _ $s rfl (Or.inl $i) (by first | exact .inl rfl | exact .inr rfl | assumption)) | `(#[$n:num,(),()])=>`(@gv _ _ ($n) _ (@zk _ (by kernel_rfl)) rfl (Or.inl (by kernel_rfl)) (by first | exact .inl rfl | exact .inr rfl | assumption))
local macro_rules | `(#[(),(),$a,$b,$c,$d,$e])=>`(@fU _ _ _ _ _ _ _ _ _ $a $b $c $d $e (by decide) (by decide) (by rfl) (by rfl))
local macro_rules | `(#[$a :: $b])=>`(@fe _ _ _ _ _ $a $b)
local macro_rules | `(#[$f:ident $n:num $a*])=>do
 let us ←(Array.range n.getNat).mapM fun _=>`(_)
 `(@$f $us* $a*)
local macro_rules | `(#[($f:ident)])=>`($f ($(Lean.mkIdent `P):ident:=$(Lean.mkIdent `P)) ($(Lean.mkIdent `w):ident:=$(Lean.mkIdent `w)) ($(Lean.mkIdent `base):ident:=$(Lean.mkIdent `base)) $(Lean.mkIdent `T))
namespace K54
open PySem L2
def cu (i:Nat):Stmt:=PySem.Challenge.pw_gainroads_k54_books_or_not.main.body.getD i (.Pass ⟨0,0,0,0⟩)
abbrev pB:Stmt:=cu 1
abbrev jw:Stmt:=cu 2
abbrev l6:Stmt:=cu 3
abbrev fj:Stmt:=cu 4
abbrev gO:Stmt:=cu 5
abbrev mG:Stmt:=cu 6
abbrev mH:Stmt:=cu 7
abbrev mJ:Stmt:=cu 8
abbrev gN:Stmt:=cu 9
abbrev jx:Stmt:=cu 10
abbrev eV:Stmt:=cu 12
abbrev dD:Stmt:=cu 14
abbrev cL:Stmt:=cu 15
abbrev iO:Stmt:=cu 17
abbrev ja:Stmt:=cu 18
abbrev gX:Stmt:=cu 19
abbrev cK:Stmt:=cu 20
abbrev eG:Stmt:=cu 21
abbrev aZ:Stmt:=cu 22
abbrev eJ:Stmt:=cu 23
abbrev i4:Stmt:=cu 24
abbrev cp:Stmt:=cu 25
abbrev fI:Stmt:=cu 26
abbrev wq:Stmt:=cu 28
abbrev uR:Stmt:=cu 29
abbrev da:Stmt:=cu 30
abbrev jM:Stmt:=cu 31
abbrev jv:Stmt:=cu 32
abbrev pZ:Stmt:=cu 33
abbrev nE:Stmt:=cu 34
abbrev db:Stmt:=cu 35
abbrev iE:Stmt:=cu 36
abbrev jA:Stmt:=cu 37
abbrev iH:Stmt:=cu 38
abbrev bp:Stmt:=cu 39
abbrev be:Stmt:=cu 40
abbrev mI:Stmt:=cu 41
abbrev bt:Stmt:=cu 42
abbrev fJ:Stmt:=cu 43
abbrev fV:Stmt:=cu 44
abbrev b7:Stmt:=cu 45
abbrev dX:Stmt:=cu 46
abbrev cP:Stmt:=cu 47
abbrev gE:Stmt:=cu 48
abbrev cH:Stmt:=cu 49
abbrev aR:Stmt:=cu 50
abbrev cx:Stmt:=cu 51
abbrev df:Stmt:=cu 52
theorem zG:aI ["thing"] ["thing"] (aB pB):=⟨rfl,rfl,rfl,by nofun,rfl,by nofun,by nofun⟩
theorem mm:aI ["n", "d"] ["n", "d"] (aB jw):=⟨rfl,rfl,rfl,by nofun,rfl,by nofun,by nofun⟩
theorem kC:aI ["thing", "n", "d"] ["thing"] (aB l6):=⟨rfl,rfl,rfl,by nofun,rfl,by nofun,by nofun⟩
theorem ua:aI ["thing"] ["thing"] (aB fj):=⟨rfl,rfl,rfl,by nofun,rfl,by nofun,by nofun⟩
theorem pD:aI ["n", "d", "divisor"] ["n", "d"] (aB gO):=⟨rfl,rfl,rfl,by nofun,rfl,by nofun,by nofun⟩
theorem DG:aI ["one", "other"] ["one", "other"] (aB mG):=⟨rfl,rfl,rfl,by nofun,rfl,by nofun,by nofun⟩
theorem Dk:aI ["one", "other"] ["one", "other"] (aB mH):=⟨rfl,rfl,rfl,by nofun,rfl,by nofun,by nofun⟩
theorem Dj:aI ["one", "other"] ["one", "other"] (aB mJ):=⟨rfl,rfl,rfl,by nofun,rfl,by nofun,by nofun⟩
theorem pi:aI ["one", "other", "left", "right"] ["one", "other"] (aB gN):=⟨rfl,rfl,rfl,by nofun,rfl,by nofun,by nofun⟩
theorem oC:aI ["parts", "total", "part"] ["parts"] (aB jx):=⟨rfl,rfl,rfl,by nofun,rfl,by nofun,by nofun⟩
theorem wH:aI ["thing", "most"] ["thing", "most"] (aB eV):=⟨rfl,rfl,rfl,by nofun,rfl,by nofun,by nofun⟩
theorem vY:aI ["thing", "size"] ["thing", "size"] (aB dD):=⟨rfl,rfl,rfl,by nofun,rfl,by nofun,by nofun⟩
theorem ye:aI ["thing", "mosts"] ["thing", "mosts"] (aB cL):=⟨rfl,rfl,rfl,by nofun,rfl,by nofun,by nofun⟩
theorem zQ:aI ["day", "tie", "hour"] ["day", "tie", "hour"] (aB iO):=⟨rfl,rfl,rfl,by nofun,rfl,by nofun,by nofun⟩
theorem yH:aI ["day", "tie"] ["day", "tie"] (aB ja):=⟨rfl,rfl,rfl,by nofun,rfl,by nofun,by nofun⟩
theorem vH:aI ["day", "store"] ["day", "store"] (aB gX):=⟨rfl,rfl,rfl,by nofun,rfl,by nofun,by nofun⟩
theorem yb:aI ["thing", "mosts"] ["thing", "mosts"] (aB cK):=⟨rfl,rfl,rfl,by nofun,rfl,by nofun,by nofun⟩
theorem mE:aI ["day", "thing", "sent", "kept", "drawn"] ["day", "thing"] (aB eG):=⟨rfl,rfl,rfl,by nofun,rfl,by nofun,by nofun⟩
theorem bD:aI ["day", "book", "place", "hour", "sent", "kept", "drawn", "parts", "row", "begin", "end", "most", "gain", "price", "late", "opens", "spot", "keep"] ["day", "book", "place", "hour"] (aB aZ):=⟨rfl,rfl,rfl,by nofun,rfl,by nofun,by nofun⟩
theorem jL:aI ["day", "book", "place", "hour", "sent", "kept", "drawn", "parts"] ["day", "book", "place", "hour"] (aB eJ):=⟨rfl,rfl,rfl,by nofun,rfl,by nofun,by nofun⟩
theorem za:aI ["day", "place", "hour"] ["day", "place", "hour"] (aB i4):=⟨rfl,rfl,rfl,by nofun,rfl,by nofun,by nofun⟩
theorem ui:aI ["day", "book", "place", "hour", "share", "left"] ["day", "book", "place", "hour", "share"] (aB cp):=⟨rfl,rfl,rfl,by nofun,rfl,by nofun,by nofun⟩
theorem Br:aI ["day", "book", "share"] ["day", "book", "share"] (aB fI):=⟨rfl,rfl,rfl,by nofun,rfl,by nofun,by nofun⟩
theorem uA:aI ["_law_script", "_law_k", "_law_cell"] ["_law_script", "_law_k"] (aB wq):=⟨rfl,rfl,rfl,by nofun,rfl,by nofun,by nofun⟩
theorem rK:aI ["_law_box_here", "_law_many", "_law_found", "_law_once"] ["_law_box_here", "_law_many"] (aB uR):=⟨rfl,rfl,rfl,by nofun,rfl,by nofun,by nofun⟩
theorem my:aI ["_law_script", "_law_cap", "_law_found", "_law_k", "_law_cell"] ["_law_script", "_law_cap"] (aB da):=⟨rfl,rfl,rfl,by nofun,rfl,by nofun,by nofun⟩
theorem tw:aI ["_law_top", "_law_bottom", "_law_one", "_law_other", "_law_by_here"] ["_law_top", "_law_bottom"] (aB jM):=⟨rfl,rfl,rfl,by nofun,rfl,by nofun,by nofun⟩
theorem BY:aI ["_law_one", "_law_other", "_law_by_here"] ["_law_one", "_law_other", "_law_by_here"] (aB jv):=⟨rfl,rfl,rfl,by nofun,rfl,by nofun,by nofun⟩
theorem Fu:aI ["_law_one", "_law_other"] ["_law_one", "_law_other"] (aB pZ):=⟨rfl,rfl,rfl,by nofun,rfl,by nofun,by nofun⟩
theorem BK:aI ["_law_one", "_law_other"] ["_law_one", "_law_other"] (aB nE):=⟨rfl,rfl,rfl,by nofun,rfl,by nofun,by nofun⟩
theorem gU:aI ["_law_box_here", "_law_many", "_law_letters", "_law_found", "_law_first", "_law_alike", "_law_k", "_law_rest"] ["_law_box_here", "_law_many"] (aB db):=⟨rfl,rfl,rfl,by nofun,rfl,by nofun,by nofun⟩
theorem sO:aI ["_law_box_here", "_law_way", "_law_most_of"] ["_law_box_here"] (aB iE):=⟨rfl,rfl,rfl,by nofun,rfl,by nofun,by nofun⟩
theorem xc:aI ["_law_box_here", "_law_way"] ["_law_box_here"] (aB jA):=⟨rfl,rfl,rfl,by nofun,rfl,by nofun,by nofun⟩
theorem xu:aI ["_law_box_here", "_law_way"] ["_law_box_here"] (aB iH):=⟨rfl,rfl,rfl,by nofun,rfl,by nofun,by nofun⟩
theorem bR:aI ["_law_box_here", "_law_kind", "_law_many", "_law_hours", "_law_most_ties", "_law_names_here", "_law_ties", "_law_stores", "_law_wells", "_law_wishes", "_law_k", "_law_left", "_law_keep", "_law_place", "_law_hour", "_law_amount"] ["_law_box_here"] (aB bp):=⟨rfl,rfl,rfl,by nofun,rfl,by nofun,by nofun⟩
theorem fc:aI ["_law_box_here", "_law_names_here", "_law_hours", "_law_one", "_law_many", "_law_other", "_law_late", "_law_shut", "_law_opens", "_law_hour", "_law_row"] ["_law_box_here", "_law_names_here", "_law_hours"] (aB be):=⟨rfl,rfl,rfl,by nofun,rfl,by nofun,by nofun⟩
theorem Dy:aI ["_law_day_here", "_law_row", "_law_hour"] ["_law_day_here", "_law_row", "_law_hour"] (aB mI):=⟨rfl,rfl,rfl,by nofun,rfl,by nofun,by nofun⟩
theorem bQ:aI ["_law_day_here", "_law_book", "_law_share", "_law_sent", "_law_kept", "_law_drawn", "_law_found", "_law_place", "_law_hour", "_law_row", "_law_goes", "_law_one", "_law_spot", "_law_store", "_law_rests", "_law_well", "_law_wish"] ["_law_day_here", "_law_book", "_law_share"] (aB bt):=⟨rfl,rfl,rfl,by nofun,rfl,by nofun,by nofun⟩
theorem AQ:aI ["_law_thing"] ["_law_thing"] (aB fJ):=⟨rfl,rfl,rfl,by nofun,rfl,by nofun,by nofun⟩
theorem CG:aI ["_law_thing", "_law_mosts"] ["_law_thing", "_law_mosts"] (aB fV):=⟨rfl,rfl,rfl,by nofun,rfl,by nofun,by nofun⟩
theorem nq:aI ["_law_day_here", "_law_thing", "_law_row", "_law_goes"] ["_law_day_here", "_law_thing"] (aB b7):=⟨rfl,rfl,rfl,by nofun,rfl,by nofun,by nofun⟩
theorem zy:aI ["_law_day_here", "_law_book", "_law_share"] ["_law_day_here", "_law_book", "_law_share"] (aB dX):=⟨rfl,rfl,rfl,by nofun,rfl,by nofun,by nofun⟩
theorem fE:aI ["_law_box_here", "_law_day_here", "_law_parts", "_law_sent", "_law_row", "_law_tops", "_law_kept"] ["_law_box_here", "_law_day_here"] (aB cP):=⟨rfl,rfl,rfl,by nofun,rfl,by nofun,by nofun⟩
theorem ut:aI ["_law_box_here", "_law_thing", "_law_way", "_law_some"] ["_law_box_here", "_law_thing"] (aB gE):=⟨rfl,rfl,rfl,by nofun,rfl,by nofun,by nofun⟩
theorem oW:aI ["_law_box_here", "_law_thing", "_law_deep", "_law_way", "_law_at", "_law_made"] ["_law_box_here", "_law_thing", "_law_deep"] (aB cH):=⟨rfl,rfl,rfl,by nofun,rfl,by nofun,by nofun⟩
theorem dP:aI ["_law_box_here", "_law_day_here", "_law_book", "_law_row", "_law_part", "_law_sent", "_law_kept", "_law_drawn", "_law_rows", "_law_at"] ["_law_box_here", "_law_day_here", "_law_book"] (aB aR):=⟨rfl,rfl,rfl,by nofun,rfl,by nofun,by nofun⟩
theorem qI:aI ["_law_day_here", "_law_thing", "_law_share", "_law_kept", "_law_found"] ["_law_day_here", "_law_thing", "_law_share"] (aB cx):=⟨rfl,rfl,rfl,by nofun,rfl,by nofun,by nofun⟩
theorem jN:aI ["_law_script", "_law_box_here", "_law_day_here", "_law_book", "_law_share", "_law_things", "_law_turn", "_law_way", "_law_thing"] ["_law_script"] (aB df):=⟨rfl,rfl,rfl,by nofun,rfl,by nofun,by nofun⟩
end K54
namespace K54
open PySem L2
set_option genInjectivity false in
set_option genSizeOf false in
structure Df (K:PySem.W.Frag) (mg:Str→Option Value) (x:Str) (st:Stmt) (ps:List Str) where
 f:Addr
 d:FuncData
 m:mg x=some (.ref f)
 F:yp K x x st f d
 B:tF K d ps []
set_option genInjectivity false in
set_option genSizeOf false in
structure Txt (K:PySem.W.Frag) (mg:Str→Option Value) where
 b_abs:mg "abs" = none
 b_all:mg "all" = none
 b_bool:mg "bool" = none
 b_divmod:mg "divmod" = none
 b_enumerate:mg "enumerate" = none
 b_int:mg "int" = none
 b_isinstance:mg "isinstance" = none
 b_len:mg "len" = none
 b_list:mg "list" = none
 b_max:mg "max" = none
 b_min:mg "min" = none
 b_range:mg "range" = none
 b_repr:mg "repr" = none
 b_str:mg "str" = none
 b_tuple:mg "tuple" = none
 b_zip:mg "zip" = none
 is_number_:Df K mg "is_number" pB ["thing"]
 common_divisor_:Df K mg "common_divisor" jw ["n", "d"]
 is_fraction_:Df K mg "is_fraction" l6 ["thing"]
 is_from_nought_:Df K mg "is_from_nought" fj ["thing"]
 fraction_:Df K mg "fraction" gO ["n", "d"]
 added_:Df K mg "added" mG ["one", "other"]
 taken_:Df K mg "taken" mH ["one", "other"]
 times_:Df K mg "times" mJ ["one", "other"]
 compared_:Df K mg "compared" gN ["one", "other"]
 sum_of_:Df K mg "sum_of" jx ["parts"]
 goes_within_:Df K mg "goes_within" eV ["thing", "most"]
 is_tuple_of_:Df K mg "is_tuple_of" dD ["thing", "size"]
 are_within_:Df K mg "are_within" cL ["thing", "mosts"]
 may_send_:Df K mg "may_send" iO ["day", "tie", "hour"]
 tie_mosts_:Df K mg "tie_mosts" ja ["day", "tie"]
 store_mosts_:Df K mg "store_mosts" gX ["day", "store"]
 are_hourly_:Df K mg "are_hourly" cK ["thing", "mosts"]
 is_book_:Df K mg "is_book" eG ["day", "thing"]
 comes_at_:Df K mg "comes_at" aZ ["day", "book", "place", "hour"]
 goes_at_:Df K mg "goes_at" eJ ["day", "book", "place", "hour"]
 wished_in_:Df K mg "wished_in" i4 ["day", "place", "hour"]
 hour_sum_:Df K mg "hour_sum" cp ["day", "book", "place", "hour", "share"]
 adds_up_:Df K mg "adds_up" fI ["day", "book", "share"]
 l_box_:Df K mg "_law_box" wq ["_law_script", "_law_k"]
 l_take_:Df K mg "_law_take" uR ["_law_box_here", "_law_many"]
 l_boxes_:Df K mg "_law_boxes" da ["_law_script", "_law_cap"]
 l_fr_:Df K mg "_law_fr" jM ["_law_top", "_law_bottom"]
 l_plus_:Df K mg "_law_plus" jv ["_law_one", "_law_other", "_law_by_here"]
 l_by_:Df K mg "_law_by" pZ ["_law_one", "_law_other"]
 l_sign_:Df K mg "_law_sign" nE ["_law_one", "_law_other"]
 l_names_:Df K mg "_law_names" db ["_law_box_here", "_law_many"]
 l_gain_:Df K mg "_law_gain" iE ["_law_box_here"]
 l_much_:Df K mg "_law_much" jA ["_law_box_here"]
 l_cost_:Df K mg "_law_cost" iH ["_law_box_here"]
 l_day_:Df K mg "_law_day" bp ["_law_box_here"]
 l_day_tie_:Df K mg "_law_day_tie" be ["_law_box_here", "_law_names_here", "_law_hours"]
 l_may_:Df K mg "_law_may" mI ["_law_day_here", "_law_row", "_law_hour"]
 l_sums_:Df K mg "_law_sums" bt ["_law_day_here", "_law_book", "_law_share"]
 l_is_fr_:Df K mg "_law_is_fr" fJ ["_law_thing"]
 l_fits_:Df K mg "_law_fits" fV ["_law_thing", "_law_mosts"]
 l_is_book_:Df K mg "_law_is_book" b7 ["_law_day_here", "_law_thing"]
 l_adds_up_:Df K mg "_law_adds_up" dX ["_law_day_here", "_law_book", "_law_share"]
 l_any_book_:Df K mg "_law_any_book" cP ["_law_box_here", "_law_day_here"]
 l_odd_:Df K mg "_law_odd" gE ["_law_box_here", "_law_thing"]
 l_bent_:Df K mg "_law_bent" cH ["_law_box_here", "_law_thing", "_law_deep"]
 l_little_more_:Df K mg "_law_little_more" aR ["_law_box_here", "_law_day_here", "_law_book"]
 l_right_:Df K mg "_law_right" cx ["_law_day_here", "_law_thing", "_law_share"]
 law_:Df K mg "law" df ["_law_script"]
end K54
namespace K54
open PySem L2
abbrev ae (s:Stmt) (x:Str):Prop:=(aB s).names.lookup x=some NameKind.local
abbrev ao (s:Stmt) (x:Str):Prop:=(aB s).names.lookup x=some NameKind.globalImplicit
abbrev gC (s:Stmt) (x:Str):Prop:=(aB s).names.lookup x=some NameKind.cell
theorem i8:ae fj "thing" := by nofun
theorem kA:ao fj "is_fraction" := by nofun
theorem sj:ae gO "n" := by nofun
theorem nQ:ae gO "d" := by nofun
theorem eH:ae gO "divisor" := by nofun
theorem mB:ao gO "common_divisor" := by nofun
theorem pj:ae mG "one" := by nofun
theorem l5:ae mG "other" := by nofun
theorem uH:ao mG "fraction" := by nofun
theorem pe:ae mH "one" := by nofun
theorem l9:ae mH "other" := by nofun
theorem uI:ao mH "fraction" := by nofun
theorem ug:ae mJ "one" := by nofun
theorem re:ae mJ "other" := by nofun
theorem uB:ao mJ "fraction" := by nofun
theorem pX:ae gN "one" := by nofun
theorem mO:ae gN "other" := by nofun
theorem jR:ae gN "left" := by nofun
theorem jB:ae gN "right" := by nofun
theorem wG:ae jx "parts" := by nofun
theorem iN:ae jx "total" := by nofun
theorem qQ:ae jx "part" := by nofun
theorem vM:ao jx "added" := by nofun
theorem kn:ae eV "thing" := by nofun
theorem sQ:ae eV "most" := by nofun
theorem kT:ao eV "is_from_nought" := by nofun
theorem pf:ao eV "compared" := by nofun
theorem kg:ae dD "thing" := by nofun
theorem rR:ae dD "size" := by nofun
theorem nu:ao dD "isinstance" := by nofun
theorem rE:ao dD "tuple" := by nofun
theorem tL:ao dD "len" := by nofun
theorem iB:ae cL "thing" := by nofun
theorem lM:ae cL "mosts" := by nofun
theorem nV:ao cL "isinstance" := by nofun
theorem tP:ao cL "list" := by nofun
theorem nG:ao cL "len" := by nofun
theorem uq:ao cL "all" := by nofun
theorem uM:ao cL "zip" := by nofun
theorem vE:ae iO "day" := by nofun
theorem qd:ae iO "tie" := by nofun
theorem oM:ae iO "hour" := by nofun
theorem vh:gC ja "day" := by nofun
theorem tZ:ao ja "range" := by nofun
theorem tY:ae gX "day" := by nofun
theorem rF:ao gX "range" := by nofun
theorem iA:ae cK "thing" := by nofun
theorem lB:ae cK "mosts" := by nofun
theorem nU:ao cK "isinstance" := by nofun
theorem tV:ao cK "list" := by nofun
theorem ng:ao cK "len" := by nofun
theorem uC:ao cK "all" := by nofun
theorem uP:ao cK "zip" := by nofun
theorem l0:gC eG "day" := by nofun
theorem nY:ae eG "thing" := by nofun
theorem pM:ae eG "sent" := by nofun
theorem pL:ae eG "kept" := by nofun
theorem oY:ae eG "drawn" := by nofun
theorem ql:ao eG "is_tuple_of" := by nofun
theorem j8:ao eG "are_hourly" := by nofun
theorem qJ:ao eG "are_within" := by nofun
theorem kN:ae aZ "day" := by nofun
theorem vv:ae aZ "book" := by nofun
theorem mY:gC aZ "place" := by nofun
theorem il:gC aZ "hour" := by nofun
theorem oR:ae aZ "sent" := by nofun
theorem ot:ae aZ "kept" := by nofun
theorem nR:ae aZ "drawn" := by nofun
theorem gR:ae aZ "parts" := by nofun
theorem iR:ae aZ "row" := by nofun
theorem uJ:ae aZ "begin" := by nofun
theorem pO:ae aZ "end" := by nofun
theorem nX:ae aZ "most" := by nofun
theorem oz:ae aZ "gain" := by nofun
theorem uL:ae aZ "price" := by nofun
theorem jP:ae aZ "late" := by nofun
theorem uG:ae aZ "opens" := by nofun
theorem oX:ae aZ "spot" := by nofun
theorem pc:ae aZ "keep" := by nofun
theorem kS:ao aZ "zip" := by nofun
theorem mU:ao aZ "times" := by nofun
theorem tX:ao aZ "sum_of" := by nofun
theorem qW:ae eJ "day" := by nofun
theorem vX:ae eJ "book" := by nofun
theorem qf:ae eJ "sent" := by nofun
theorem qg:ae eJ "kept" := by nofun
theorem u6:ae eJ "drawn" := by nofun
theorem jT:ae eJ "parts" := by nofun
theorem qX:ao eJ "zip" := by nofun
theorem uQ:ao eJ "sum_of" := by nofun
theorem u7:ae i4 "day" := by nofun
theorem rV:ao i4 "sum_of" := by nofun
theorem kP:ae cp "day" := by nofun
theorem oP:ae cp "book" := by nofun
theorem js:ae cp "place" := by nofun
theorem jI:ae cp "hour" := by nofun
theorem uw:ae cp "share" := by nofun
theorem ou:ae cp "left" := by nofun
theorem nJ:ao cp "taken" := by nofun
theorem rl:ao cp "comes_at" := by nofun
theorem rP:ao cp "goes_at" := by nofun
theorem uo:ao cp "times" := by nofun
theorem qw:ao cp "wished_in" := by nofun
theorem qP:gC fI "day" := by nofun
theorem v0:gC fI "book" := by nofun
theorem vb:gC fI "share" := by nofun
theorem qe:ao fI "is_fraction" := by nofun
theorem tR:ao fI "is_book" := by nofun
theorem xQ:ao fI "all" := by nofun
theorem lL:ae da "_law_script" := by nofun
theorem ip:ae da "_law_cap" := by nofun
theorem gj:gC da "_law_found" := by nofun
theorem jk:ae da "_law_k" := by nofun
theorem nH:ae da "_law_cell" := by nofun
theorem vV:ao da "list" := by nofun
theorem rf:ao da "enumerate" := by nofun
theorem vg:ao da "range" := by nofun
theorem yg:ao da "max" := by nofun
theorem xU:ao da "len" := by nofun
theorem rM:ae jM "_law_top" := by nofun
theorem j9:ae jM "_law_bottom" := by nofun
theorem iC:ae jM "_law_one" := by nofun
theorem gu:ae jM "_law_other" := by nofun
theorem jm:ae jM "_law_by_here" := by nofun
theorem vy:ao jM "abs" := by nofun
theorem kG:ae jv "_law_one" := by nofun
theorem jl:ae jv "_law_other" := by nofun
theorem rN:ae jv "_law_by_here" := by nofun
theorem yf:ao jv "_law_fr" := by nofun
theorem r9:ae pZ "_law_one" := by nofun
theorem qj:ae pZ "_law_other" := by nofun
theorem zV:ao pZ "_law_fr" := by nofun
theorem pG:ae nE "_law_one" := by nofun
theorem mQ:ae nE "_law_other" := by nofun
theorem gM:gC db "_law_box_here" := by nofun
theorem jq:gC db "_law_many" := by nofun
theorem kv:gC db "_law_letters" := by nofun
theorem iW:ae db "_law_found" := by nofun
theorem mh:gC db "_law_first" := by nofun
theorem mf:ae db "_law_alike" := by nofun
theorem qY:ae db "_law_k" := by nofun
theorem nv:ae db "_law_rest" := by nofun
theorem jz:ao db "_law_take" := by nofun
theorem j6:ao db "range" := by nofun
theorem hV:ae iE "_law_box_here" := by nofun
theorem kz:ae iE "_law_way" := by nofun
theorem iu:ae iE "_law_most_of" := by nofun
theorem jY:ao iE "_law_take" := by nofun
theorem yc:ao iE "_law_fr" := by nofun
theorem ii:ae jA "_law_box_here" := by nofun
theorem iL:ae jA "_law_way" := by nofun
theorem jZ:ao jA "_law_take" := by nofun
theorem x8:ao jA "_law_fr" := by nofun
theorem ic:ae iH "_law_box_here" := by nofun
theorem kO:ae iH "_law_way" := by nofun
theorem jU:ao iH "_law_take" := by nofun
theorem xX:ao iH "_law_fr" := by nofun
theorem yX:ao iH "int" := by nofun
theorem aF:ae bp "_law_box_here" := by nofun
theorem dc:ae bp "_law_kind" := by nofun
theorem cY:ae bp "_law_many" := by nofun
theorem cI:ae bp "_law_hours" := by nofun
theorem ie:ae bp "_law_most_ties" := by nofun
theorem cA:ae bp "_law_names_here" := by nofun
theorem kB:ae bp "_law_ties" := by nofun
theorem jn:ae bp "_law_stores" := by nofun
theorem j7:ae bp "_law_wells" := by nofun
theorem jt:ae bp "_law_wishes" := by nofun
theorem kZ:ae bp "_law_k" := by nofun
theorem kW:ae bp "_law_left" := by nofun
theorem pJ:ae bp "_law_keep" := by nofun
theorem oK:ae bp "_law_place" := by nofun
theorem pV:ae bp "_law_hour" := by nofun
theorem nj:ae bp "_law_amount" := by nofun
theorem aW:ao bp "_law_take" := by nofun
theorem uY:ao bp "_law_names" := by nofun
theorem jf:ao bp "range" := by nofun
theorem kY:ao bp "int" := by nofun
theorem tS:ao bp "_law_day_tie" := by nofun
theorem yO:ao bp "list" := by nofun
theorem zR:ao bp "min" := by nofun
theorem sW:ao bp "_law_fr" := by nofun
theorem zW:ao bp "len" := by nofun
theorem qo:ao bp "_law_much" := by nofun
theorem wp:ao bp "_law_cost" := by nofun
theorem gY:ao bp "tuple" := by nofun
theorem bC:ae be "_law_box_here" := by nofun
theorem dk:ae be "_law_names_here" := by nofun
theorem kj:ae be "_law_hours" := by nofun
theorem i0:ae be "_law_one" := by nofun
theorem iI:ae be "_law_many" := by nofun
theorem ku:ae be "_law_other" := by nofun
theorem lu:ae be "_law_late" := by nofun
theorem lD:ae be "_law_shut" := by nofun
theorem ib:ae be "_law_opens" := by nofun
theorem ln:ae be "_law_hour" := by nofun
theorem mj:ae be "_law_row" := by nofun
theorem eC:ao be "_law_take" := by nofun
theorem oJ:ao be "len" := by nofun
theorem tU:ao be "range" := by nofun
theorem sF:ao be "_law_much" := by nofun
theorem rO:ao be "_law_gain" := by nofun
theorem sv:ao be "_law_cost" := by nofun
theorem tO:ao be "tuple" := by nofun
theorem rT:ae mI "_law_day_here" := by nofun
theorem qO:ae mI "_law_row" := by nofun
theorem qc:ae mI "_law_hour" := by nofun
theorem bX:ae bt "_law_day_here" := by nofun
theorem uT:ae bt "_law_book" := by nofun
theorem ux:ae bt "_law_share" := by nofun
theorem oH:ae bt "_law_sent" := by nofun
theorem nW:ae bt "_law_kept" := by nofun
theorem nO:ae bt "_law_drawn" := by nofun
theorem aU:ae bt "_law_found" := by nofun
theorem uD:gC bt "_law_place" := by nofun
theorem b6:ae bt "_law_hour" := by nofun
theorem dQ:ae bt "_law_row" := by nofun
theorem oU:ae bt "_law_goes" := by nofun
theorem cC:ae bt "_law_one" := by nofun
theorem eU:ae bt "_law_spot" := by nofun
theorem fu:ae bt "_law_store" := by nofun
theorem nL:ae bt "_law_rests" := by nofun
theorem kf:ae bt "_law_well" := by nofun
theorem ij:ae bt "_law_wish" := by nofun
theorem vI:ao bt "range" := by nofun
theorem nN:ao bt "zip" := by nofun
theorem lY:ao bt "enumerate" := by nofun
theorem eQ:ao bt "_law_plus" := by nofun
theorem l4:ao bt "_law_by" := by nofun
theorem cF:ae fJ "_law_thing" := by nofun
theorem qK:ao fJ "isinstance" := by nofun
theorem uX:ao fJ "tuple" := by nofun
theorem yd:ao fJ "len" := by nofun
theorem ya:ao fJ "all" := by nofun
theorem vO:ao fJ "_law_fr" := by nofun
theorem gI:ae fV "_law_thing" := by nofun
theorem nT:ae fV "_law_mosts" := by nofun
theorem rm:ao fV "isinstance" := by nofun
theorem xZ:ao fV "list" := by nofun
theorem rL:ao fV "len" := by nofun
theorem sK:ao fV "all" := by nofun
theorem yD:ao fV "zip" := by nofun
theorem ci:gC b7 "_law_day_here" := by nofun
theorem bW:ae b7 "_law_thing" := by nofun
theorem ud:gC b7 "_law_row" := by nofun
theorem lS:ae b7 "_law_goes" := by nofun
theorem ph:ao b7 "isinstance" := by nofun
theorem ub:ao b7 "tuple" := by nofun
theorem fM:ao b7 "len" := by nofun
theorem oE:ao b7 "all" := by nofun
theorem oS:ao b7 "zip" := by nofun
theorem lX:ao b7 "_law_fits" := by nofun
theorem tW:ao b7 "range" := by nofun
theorem jd:ae dX "_law_day_here" := by nofun
theorem lP:ae dX "_law_book" := by nofun
theorem rD:ae dX "_law_share" := by nofun
theorem pR:ao dX "_law_is_book" := by nofun
theorem vj:ao dX "all" := by nofun
theorem sP:ao dX "_law_sums" := by nofun
theorem dF:gC cP "_law_day_here" := by nofun
theorem qG:gC cP "_law_parts" := by nofun
theorem ig:ae cP "_law_sent" := by nofun
theorem sq:gC cP "_law_row" := by nofun
theorem kw:ae cP "_law_tops" := by nofun
theorem kq:ae cP "_law_kept" := by nofun
theorem sX:ao cP "range" := by nofun
theorem fK:ae gE "_law_box_here" := by nofun
theorem bo:ae gE "_law_thing" := by nofun
theorem lZ:ae gE "_law_way" := by nofun
theorem pP:ae gE "_law_some" := by nofun
theorem iP:ao gE "_law_take" := by nofun
theorem lH:ao gE "isinstance" := by nofun
theorem zO:ao gE "int" := by nofun
theorem zS:ao gE "str" := by nofun
theorem fB:ae cH "_law_box_here" := by nofun
theorem aN:ae cH "_law_thing" := by nofun
theorem oA:ae cH "_law_deep" := by nofun
theorem gA:ae cH "_law_way" := by nofun
theorem bY:ae cH "_law_at" := by nofun
theorem jK:ae cH "_law_made" := by nofun
theorem hZ:ao cH "isinstance" := by nofun
theorem l7:ao cH "list" := by nofun
theorem kU:ao cH "tuple" := by nofun
theorem sR:ao cH "len" := by nofun
theorem vW:ao cH "_law_odd" := by nofun
theorem oQ:ao cH "_law_take" := by nofun
theorem uV:ao cH "_law_bent" := by nofun
theorem cf:ae aR "_law_box_here" := by nofun
theorem fR:ae aR "_law_book" := by nofun
theorem eO:ae aR "_law_row" := by nofun
theorem i9:ae aR "_law_part" := by nofun
theorem fX:ae aR "_law_sent" := by nofun
theorem fQ:ae aR "_law_kept" := by nofun
theorem fC:ae aR "_law_drawn" := by nofun
theorem cM:ae aR "_law_rows" := by nofun
theorem gK:ae aR "_law_at" := by nofun
theorem cO:ao aR "_law_take" := by nofun
theorem qL:ao aR "list" := by nofun
theorem kh:ao aR "len" := by nofun
theorem pE:ao aR "_law_plus" := by nofun
theorem rh:ao aR "int" := by nofun
theorem fb:ae cx "_law_day_here" := by nofun
theorem dB:ae cx "_law_thing" := by nofun
theorem me:ae cx "_law_share" := by nofun
theorem mT:ae cx "_law_kept" := by nofun
theorem dA:ae cx "_law_found" := by nofun
theorem pW:ao cx "repr" := by nofun
theorem tQ:ao cx "is_book" := by nofun
theorem jQ:ao cx "isinstance" := by nofun
theorem qp:ao cx "bool" := by nofun
theorem rq:ao cx "_law_is_book" := by nofun
theorem tM:ao cx "adds_up" := by nofun
theorem rj:ao cx "_law_adds_up" := by nofun
theorem ww:ae df "_law_script" := by nofun
theorem ce:ae df "_law_box_here" := by nofun
theorem ff:gC df "_law_day_here" := by nofun
theorem fg:ae df "_law_book" := by nofun
theorem qZ:gC df "_law_share" := by nofun
theorem kJ:ae df "_law_things" := by nofun
theorem yS:ae df "_law_turn" := by nofun
theorem pC:ae df "_law_way" := by nofun
theorem jg:ae df "_law_thing" := by nofun
theorem yi:ao df "_law_boxes" := by nofun
theorem zU:ao df "_law_day" := by nofun
theorem uy:ao df "_law_any_book" := by nofun
theorem mR:ao df "_law_take" := by nofun
theorem x9:ao df "is_book" := by nofun
theorem xR:ao df "_law_right" := by nofun
theorem Bh:ao df "list" := by nofun
theorem zN:ao df "range" := by nofun
theorem tq:ao df "_law_bent" := by nofun
theorem rB:ao df "_law_little_more" := by nofun
theorem BX:ao df "all" := by nofun
end K54
namespace L2
open PySem PySem.Spec PySem.Calls PyProof.Rows
def topRunT (tb:String→Option Builtin) (p:Program) (w:World) (n₀:Nat) (ann:Option Value):Nat→PySem.W.SharedT→Thread→Option PySem.W.SharedT
 | 0,_,_=>none
 | n+1,s,t=>match PySem.W.through t with
  | true=>some s
  | false=>match PySem.W.stepOk n₀ ann t with
   | false=>none
   | true=>match PySem.W.stepT (denote tb) p w s t with
    | some (s',t')=>topRunT tb p w n₀ ann n s' t'
    | none=>none
theorem wT {tb:String→Option Builtin}{p:Program}{w:World}{n₀:Nat}{ann:Option Value}:∀{n:Nat}{s s':PySem.W.SharedT}{t:Thread},topRunT tb p w n₀ ann n s t=some s'→PySem.W.topRun tb p w n₀ ann n s.abs t=some s'.abs
 | 0,_,_,_,h=>by cases h
 | n+1,s,s',t,h=>by
  unfold topRunT at h
  unfold PySem.W.topRun
  cases he:PySem.W.through t with
  | true=>rw [he] at h;cases h;rfl
  | false=>
   rw [he] at h
   cases hk:PySem.W.stepOk n₀ ann t with
   | false=>rw [hk] at h;cases h
   | true=>
    rw [hk] at h
    cases hs:PySem.W.stepT (denote tb) p w s t with
    | none=>rw [hs] at h;cases h
    | some r=>obtain ⟨s₂,t₂⟩:=r;rw [hs] at h;rw [PySem.W.stepT_spec hs];exact wT h
open PySem.W in
noncomputable def IT (P:Params):BT:=.node (boot_o_0 P) (.node (boot_o_1 P) (.node (boot_o_3 P) (.node (boot_o_7 P) .nil .nil) .nil) (.node (boot_o_5 P) (.node (boot_o_9 P) .nil .nil) .nil)) (.node (boot_o_2 P) (.node (boot_o_4 P) (.node (boot_o_8 P) .nil .nil) .nil) (.node (boot_o_6 P) (.node (boot_o_10 P) .nil .nil) .nil))
noncomputable def bootS (w:World) (os:OsState):PySem.W.SharedT:=⟨IT w.params,11,{},#[],PySem.W.boot_drawn,PySem.W.boot_toks,os⟩
theorem BW (w:World):((PySem.W.boot_heap w.params).isNs mainGlobals,(PySem.W.boot_heap w.params).objs.size,(PySem.W.boot_heap w.params).nsMap mainGlobals "__annotations__")=(true,11,some (.ref 6)):=by kernel_rfl
noncomputable def looks {α:Type} (p q:Program) (Xt:Shared→Bool) (Yf:Shared→α) (w:World) (s:Shared):=
 (PySem.W.staticsOk (importedModules p.main.body) (PySem.W.boot_heap w.params) s.heap && PySem.W.namesBound p s.heap && PySem.W.gensDone s && PySem.W.laidKept (PySem.W.boot_heap w.params) s.heap,PySem.W.openSeen q [] (importedModules p.main.body) Xt true s,Yf s)
theorem left_tree {p q:Program}{Xt:Shared→Bool}{α:Type}{Yf:Shared→α}{Ya:α}{N:Nat}
 (e:PySem.W.opening p=PySem.W.plainProg p.main.scope.names) (hN:Nat.ble 600 N=true) (f:∀s,PySem.fenceModules? p s=some s)
 (run:∀(w:World) (os:OsState),(topRunT treeTable p w 11 (some (.ref 6)) N (bootS w os) (PySem.W.topStub p)).map (fun s=>looks p q Xt Yf w s.abs)=some (true,PySem.W.openGood q [],Ya)) :
 PySem.W.LeftO p q [] Xt Yf (fun _=>Ya) N:=fun w=>by
 obtain ⟨⟨h,gs,d,k,os⟩,ef,ev⟩:=Option.map_eq_some_iff.mp (PySem.W.boot_open e hN f w)
 obtain ⟨rfl,rfl,rfl,rfl⟩:h=PySem.W.boot_heap w.params∧gs=#[]∧d=PySem.W.boot_drawn∧k=PySem.W.boot_toks:=by simpa using ev
 obtain ⟨st,er,el⟩:=Option.map_eq_some_iff.mp (run w os)
 have r:=wT er
 have e0:(bootS w os).abs=⟨PySem.W.boot_heap w.params,#[],PySem.W.boot_drawn,PySem.W.boot_toks,os⟩:=rfl
 rw [e0] at r
 obtain ⟨z1,z2,z3⟩:_∧_∧_:=by simpa only [Prod.mk.injEq] using BW w
 obtain ⟨l1,l2,l3⟩:_∧_∧_:=by simpa only [looks,Prod.mk.injEq] using el
 have t:PySem.W.topFrom treeTable p w N ⟨PySem.W.boot_heap w.params,#[],PySem.W.boot_drawn,PySem.W.boot_toks,os⟩=some st.abs:=by
  unfold PySem.W.topFrom
  dsimp only
  rw [z1,z2,z3,r]
  show (match PySem.W.staticsOk (importedModules p.main.body) (PySem.W.boot_heap w.params) st.abs.heap && PySem.W.namesBound p st.abs.heap && PySem.W.gensDone st.abs && PySem.W.laidKept (PySem.W.boot_heap w.params) st.abs.heap with | true=>_ | false=>_)=_
  rw [l1]
 unfold PySem.W.openEnds
 rw [ef]
 show (PySem.W.topFrom treeTable p w N _).map _=_
 rw [t]
 exact congrArg some (Prod.ext l2 l3)
theorem left_of2 {α β:Type}{f f':World→β→α}{g g':α} (ef:f=f') (eg:g=g') (h:∀w os,f' w os=g') (w:World) (os:β):f w os=g:=by
 rw [ef,eg];exact h w os
end L2
namespace K54
open PySem L2
def qv:Program:=PySem.W.view PySem.Challenge.pw_gainroads_k54_books_or_not [1,2,3,4,5,6,7,8,9,10,12,14,15,17,18,19,20,21,22,23,24,25,26,28,29,30,31,32,33,34,35,36,37,38,39,40,41,42,43,44,45,46,47,48,49,50,51,52]
def obs (K:PySem.W.Frag):List (Option FuncData)×List Bool:=([fG K "is_number",
 fG K "common_divisor",
 fG K "is_fraction",
 fG K "is_from_nought",
 fG K "fraction",
 fG K "added",
 fG K "taken",
 fG K "times",
 fG K "compared",
 fG K "sum_of",
 fG K "goes_within",
 fG K "is_tuple_of",
 fG K "are_within",
 fG K "may_send",
 fG K "tie_mosts",
 fG K "store_mosts",
 fG K "are_hourly",
 fG K "is_book",
 fG K "comes_at",
 fG K "goes_at",
 fG K "wished_in",
 fG K "hour_sum",
 fG K "adds_up",
 fG K "_law_box",
 fG K "_law_take",
 fG K "_law_boxes",
 fG K "_law_fr",
 fG K "_law_plus",
 fG K "_law_by",
 fG K "_law_sign",
 fG K "_law_names",
 fG K "_law_gain",
 fG K "_law_much",
 fG K "_law_cost",
 fG K "_law_day",
 fG K "_law_day_tie",
 fG K "_law_may",
 fG K "_law_sums",
 fG K "_law_is_fr",
 fG K "_law_fits",
 fG K "_law_is_book",
 fG K "_law_adds_up",
 fG K "_law_any_book",
 fG K "_law_odd",
 fG K "_law_bent",
 fG K "_law_little_more",
 fG K "_law_right",
 fG K "law"],
 [oG K "abs",
 oG K "all",
 oG K "bool",
 oG K "divmod",
 oG K "enumerate",
 oG K "int",
 oG K "isinstance",
 oG K "len",
 oG K "list",
 oG K "max",
 oG K "min",
 oG K "range",
 oG K "repr",
 oG K "str",
 oG K "tuple",
 oG K "zip"])
def due:List (Option FuncData)×List Bool:=([dG "is_number" "is_number" pB,
 dG "common_divisor" "common_divisor" jw,
 dG "is_fraction" "is_fraction" l6,
 dG "is_from_nought" "is_from_nought" fj,
 dG "fraction" "fraction" gO,
 dG "added" "added" mG,
 dG "taken" "taken" mH,
 dG "times" "times" mJ,
 dG "compared" "compared" gN,
 dG "sum_of" "sum_of" jx,
 dG "goes_within" "goes_within" eV,
 dG "is_tuple_of" "is_tuple_of" dD,
 dG "are_within" "are_within" cL,
 dG "may_send" "may_send" iO,
 dG "tie_mosts" "tie_mosts" ja,
 dG "store_mosts" "store_mosts" gX,
 dG "are_hourly" "are_hourly" cK,
 dG "is_book" "is_book" eG,
 dG "comes_at" "comes_at" aZ,
 dG "goes_at" "goes_at" eJ,
 dG "wished_in" "wished_in" i4,
 dG "hour_sum" "hour_sum" cp,
 dG "adds_up" "adds_up" fI,
 dG "_law_box" "_law_box" wq,
 dG "_law_take" "_law_take" uR,
 dG "_law_boxes" "_law_boxes" da,
 dG "_law_fr" "_law_fr" jM,
 dG "_law_plus" "_law_plus" jv,
 dG "_law_by" "_law_by" pZ,
 dG "_law_sign" "_law_sign" nE,
 dG "_law_names" "_law_names" db,
 dG "_law_gain" "_law_gain" iE,
 dG "_law_much" "_law_much" jA,
 dG "_law_cost" "_law_cost" iH,
 dG "_law_day" "_law_day" bp,
 dG "_law_day_tie" "_law_day_tie" be,
 dG "_law_may" "_law_may" mI,
 dG "_law_sums" "_law_sums" bt,
 dG "_law_is_fr" "_law_is_fr" fJ,
 dG "_law_fits" "_law_fits" fV,
 dG "_law_is_book" "_law_is_book" b7,
 dG "_law_adds_up" "_law_adds_up" dX,
 dG "_law_any_book" "_law_any_book" cP,
 dG "_law_odd" "_law_odd" gE,
 dG "_law_bent" "_law_bent" cH,
 dG "_law_little_more" "_law_little_more" aR,
 dG "_law_right" "_law_right" cx,
 dG "law" "law" df],List.replicate 16 true)
end K54
def L2.Xt (s:PySem.Shared):Bool:=PySem.W.xlAt K54.qv [] s && PySem.W.recOk [] s
def L2.Yf (s:PySem.Shared):=K54.obs (L2.fragOf s.heap)
noncomputable def L2.lhs (w:PySem.World) (os:PySem.OsState):=(L2.topRunT PySem.treeTable PySem.Challenge.pw_gainroads_k54_books_or_not w 11 (some (.ref 6)) 3042 (L2.bootS w os) (PySem.W.topStub PySem.Challenge.pw_gainroads_k54_books_or_not)).map fun s=>L2.looks PySem.Challenge.pw_gainroads_k54_books_or_not K54.qv L2.Xt L2.Yf w s.abs
noncomputable def L2.rhs:=some (true,PySem.W.openGood K54.qv [],K54.due)
theorem L2.lhs0:L2.lhs=L2.lhs:=rfl
theorem L2.rhs0:L2.rhs=L2.rhs:=rfl
name_quick lhsQ for L2.lhs by L2.lhs0
name_quick rhsQ for L2.rhs by L2.rhs0
theorem L2.left:∀w os,L2.lhs w os=L2.rhs:=L2.left_of2 PySem.W.Fast.lhsQ_eq PySem.W.Fast.rhsQ_eq (fun w os=>by kernel_rfl)
namespace K54
open PySem L2
section
variable {P:Program}{w:World}{K:PySem.W.Frag}{mg:Str→Option Value}{base:Heap}
inductive IB (vs:List V) (H:Hp) (Q:VK):Prop
 | mk (x:V) (d:PyData) (E:Addr→Prop) (h0:vs=[x]) (h1:aK E H x d) (h2:Q (.bl (lj d)) H)
def Kd:Sp:=fun vs H Q _=>IB  vs H Q
theorem yY (T:Txt K mg):aV P w K mg base CX0 1 T.is_number_.f T.is_number_.d ["thing"] Kd:=by
 refine T.is_number_.F.ok zG (fun vs H Q E h=>?_) (fun cdv A outer s H vs Q E hr h=>?_)
 ·obtain ⟨x,d,F,rfl,_⟩:=h
  rfl
 ·obtain ⟨x,d,F,rfl,hx,k⟩:=h
  refine ⟨_,(ac (ax (gB (fU lg (by rfl) T.b_isinstance aJ (bT (pv 0) (bT (eR rfl T.b_int dg) bE))) (gW (C8 (fU lg (by rfl) T.b_isinstance aJ (bT (pv 0) (bT (eR rfl T.b_bool jJ) bE)))))))),?_⟩
  refine ⟨(),_,_,_,(),hx.ty,vJ d,(),?_⟩
  have rest:∀b,lj d=!b→Ah d=b→EX (HC (fun xs H Q=>xF fun x T t b=>xs=[x,.ty T]∧iX K H x t∧PySem.W.kitOne K t (.type T)=some b∧Q (.bl b) H) (yn (Bo 0) (yn (tC (.ty "bool")) Hl))) (mD ["thing"] [x]) H Q:=fun b e1 e2=>by
   refine ⟨(),_,_,_,(),hx.ty,nM d,(),?_⟩
   rw [e2,←e1]
   exact k
  cases d with
  | int i=>exact av (rest false rfl rfl)
  | bool b=>exact av (rest true rfl rfl)
  | none=>exact aO k
  | str _=>exact aO k
  | list _=>exact aO k
  | tuple _=>exact aO k
  | dict _=>exact aO k
inductive HE (vs:List V) (H:Hp) (Q:VK):Prop
 | mk (n d:Int) (h0:vs=[.int n,.int d]) (h1:Q (.int (Int.gcd n d:Nat)) H)
def Je:Sp:=fun vs H Q _=>HE  vs H Q
theorem md (T:Txt K mg):aV P w K mg base CX0 1 T.common_divisor_.f T.common_divisor_.d ["n", "d"] Je:=by
 refine T.common_divisor_.F.ok mm (fun vs H Q E h=>?_) (fun cdv A outer s H vs Q E hr h=>?_)
 ·obtain ⟨n,d,rfl,_⟩:=h
  rfl
 ·obtain ⟨n,d,rfl,k⟩:=h
  refine ⟨_,(fe (zv PassesOwn.never (aH jH (pv 1) bO (lJ _)) (ac (gZ (i:=0) (j:=1) rfl mm.nd rfl rfl (by decide) rfl rfl (bT (pv 1) (bT (aj FR (pv 0) (pv 1)) bE)) rfl)))
   (ac (ax (fU ny (by rfl) T.b_abs jG (bT (pv 0) bE))))),?_⟩
  refine ⟨fun m σ H'=>∃a b:Int,σ=[some (.int a),some (.int b)]∧H'=H∧Int.gcd a b=Int.gcd n d∧m=b.natAbs,⟨_,n,d,rfl,rfl,rfl,rfl⟩,?_⟩
  rintro m σ H' ⟨a,b,rfl,rfl,hg,rfl⟩
  refine ⟨(),rfl,(),?_⟩
  by_cases hb:b=0
  ·subst hb
   refine aO ?_
   refine ⟨(),(),?_⟩
   rw [←KM.gcd_zero_abs,hg]
   exact k
  ·have e:(!decide (V.int b=V.int 0))=true:=by
    rw [decide_eq_false (fun z=>hb (by injection z))];rfl
   rw [e]
   refine av ⟨fun σ' H''=>∃a' b':Int,σ'=[some (.int a'),some (.int b')]∧H''=H'∧Int.gcd a' b'=Int.gcd n d∧b'.natAbs<b.natAbs,?_,?_⟩
   ·rintro σ' H'' ⟨a',b',rfl,rfl,h1,h2⟩
    exact ⟨_,h2,a',b',rfl,rfl,h1,rfl⟩
   ·refine ⟨(),(),(),_,(),rfl,hb,_,(),?_⟩
    exact ⟨b,a.fmod b,rfl,rfl,(KM.gcd_fmod a b).trans hg,KM.fmod_natAbs_lt a b hb⟩
def eF:PyData→Bool
 | .tuple [.int n,.int d]=>decide (1≤d) && decide (Int.gcd n d=1)
 | _=>false
inductive IA (vs:List V) (H:Hp) (Q:VK):Prop
 | mk (x:V) (d:PyData) (E:Addr→Prop) (h0:vs=[x]) (h1:aK E H x d) (h2:Q (.bl (eF d)) H)
def IS:Sp:=fun vs H Q _=>IA  vs H Q
theorem pH (T:Txt K mg):aV P w K mg base CX0 2 T.is_fraction_.f T.is_fraction_.d ["thing"] IS:=by
 have G_is_number:=#[(yY)]
 have G_common_divisor:=#[(md)]
 refine T.is_fraction_.F.ok kC (fun vs H Q E h=>?_) (fun cdv A outer s H vs Q E hr h=>?_)
 ·obtain ⟨x,d,F,rfl,_⟩:=h
  rfl
 ·obtain ⟨x,d,F,rfl,hx,k⟩:=h
  refine ⟨_,(fe (bn (PW.pt (gh (cw (bK (fU lg (by rfl) T.b_isinstance aJ (bT (pv 0) (bT (eR rfl T.b_tuple bN) bE))))) (gr (aH jH (fU nF (by rfl) T.b_len bh (bT (pv 0) bE)) bO (lJ _))))) (ac (ax dj)) aM)
   (fe (dH (pv 0) (zp rfl (ak (gv (i:=1) kC.nd rfl (Or.inl rfl)) (ak (gv (i:=2) kC.nd rfl (Or.inl rfl)) bI))))
   (fe (bn (PW.pt (gh (cw (bK (iM G_is_number (hr.mono (by decide)) rfl T.is_number_.m T.is_number_.F.kp T.is_number_.B .nil mt (bT (pv 1) bE)))) (gr (cw (bK (iM G_is_number (hr.mono (by decide)) rfl T.is_number_.m T.is_number_.F.kp T.is_number_.B .nil mt (bT (pv 2) bE))))))) (ac (ax dj)) aM)
   (ac (ax (gB (bH tu (pv 2) bO (lJ _)) (gW (bH b8 (iM G_common_divisor (hr.mono (by decide)) rfl T.common_divisor_.m T.common_divisor_.F.kp T.common_divisor_.B .nil mt (bT (pv 1) (bT (pv 2) bE))) bO (lJ _))))))))),?_⟩
  refine ⟨(),_,_,_,(),hx.ty,jE d,(),?_⟩
  cases hx with
  | non=>exact av (av k)
  | bl b=>exact av (av k)
  | int i=>exact av (av k)
  | str y=>exact av (av k)
  | lst h ne r=>exact av (av k)
  | @tup a xs ds h r=>
   refine aO ?_
   refine ⟨(),_,xs,rfl,.inr (ad.of h),rfl,(),?_⟩
   have hl:=r.length
   by_cases h2:xs.length=2
   ·have e:(!decide (V.int (xs.length:Int)=V.int 2))=false:=by
     rw [h2];rfl
    rw [e]
    refine aO ?_
    obtain ⟨v1,v2,rfl⟩:bP fun v1 v2=>xs=[v1,v2]:=dR (P:=fun l=>bP fun v1 v2=>l=[v1,v2]) (fun a b=>⟨a,b,rfl⟩) _ h2
    cases r with
    | @cons _ _ d1 _ r1 r=>
    cases r with
    | @cons _ _ d2 _ r2 r=>
    cases r
    refine ⟨(),a,[v1,v2],rfl,ad.of h,rfl,v1,[v2],rfl,v2,[],rfl,rfl,?_⟩
    refine ⟨(),v1,d1,F,rfl,r1,(),?_⟩
    cases r1 with
    | non=>exact av (av k)
    | bl b=>exact av (av k)
    | str y=>exact av (av k)
    | lst _ _ _=>exact av (av k)
    | tup _ _=>exact av (av k)
    | int n=>
     refine aO ?_
     refine ⟨(),v2,d2,F,rfl,r2,(),?_⟩
     cases r2 with
     | non=>exact av k
     | bl b=>exact av k
     | str y=>exact av k
     | lst _ _ _=>exact av k
     | tup _ _=>exact av k
     | int de=>
      refine aO ?_
      refine ⟨(),_,(),rfl,(),?_⟩
      by_cases he:1≤de
      ·rw [decide_eq_true he]
       refine av ?_
       refine ⟨(),(),n,de,rfl,rfl,?_⟩
       have q:eF (.tuple [.int n,.int de])=decide (V.int ((Int.gcd n de:Nat):Int)=V.int 1):=by
        show (decide (1≤de) && decide (Int.gcd n de=1))=_
        rw [decide_eq_true he,Bool.true_and]
        by_cases g:Int.gcd n de=1
        ·rw [g];rfl
        ·rw [decide_eq_false g,decide_eq_false]
         intro z
         injection z with z
         exact g (by trivial)
       rw [←q]
       exact k
      ·rw [decide_eq_false he]
       refine aO ?_
       have q:eF (.tuple [.int n,.int de])=false:=by
        show (decide (1≤de) && decide (Int.gcd n de=1))=_
        rw [decide_eq_false he,Bool.false_and]
       rw [←q]
       exact k
   ·have e:(!decide (V.int (xs.length:Int)=V.int 2))=true:=by
     rw [decide_eq_false]
     ·rfl
     ·intro z
      injection z with z
      exact h2 (by trivial)
    rw [e]
    refine av ?_
    have q:eF (.tuple ds)=false:=by
     unfold eF
     split
     ·rename_i z
      injection z with z
      subst z
      simp at hl
      exact absurd hl h2
     ·rfl
    rw [←q]
    exact k
end
end K54
namespace K54
open PySem L2
section
variable {P:Program}{w:World}{K:PySem.W.Frag}{mg:Str→Option Value}{base:Heap}
theorem pA (T:Txt K mg):aV P w K mg base CX0 2 T.fraction_.f T.fraction_.d ["n", "d"] Is:=by
 have G_common_divisor:=#[(md)]
 refine T.fraction_.F.ok pD (fun vs H Q E h=>?_) (fun cdv A outer s H vs Q E hr h=>?_)
 ·obtain ⟨n,d,rfl,_⟩:=h
  rfl
 ·obtain ⟨n,d,rfl,hd,hs,k⟩:=h
  refine ⟨_,#[#[2,pD.nd,eH,#[G_common_divisor,mB,T.common_divisor_,#[[#[0,sj],#[1,nQ]]]]] :: #[#[bn 8 #[aH 8 (@gJ _) #[1,nQ] #[()] #[(),()]] #[ac 3 #[2,pD.nd,eH,#[jV 6 (@i6 _) #[2,eH]]]] (@aM _)] :: #[ac 3 #[ax 4 #[aD 5 #[[#[aj 8 (@zu _) #[0,sj] #[2,eH]],#[aj 8 (@zu _) #[1,nQ] #[2,eH]]]]]]]]],?_⟩
  refine ⟨(),(),n,d,rfl,(),_,(),rfl,(),?_⟩
  have g0:=KM.gcd_pos (n:=n) hd
  have gs:=Kn (n:=n) hd hs
  have kl:=KM.fdiv_low (n:=n) hd
  by_cases h0:d<0
  ·rw [decide_eq_true h0]
   rw [if_pos h0] at kl
   have c1:∀x,Bs x (-((Int.gcd n d:Nat):Int)):=fun x=>⟨by trivial,gs.neg⟩
   refine av ⟨(),(),(),(),_,(),rfl,c1 n,(),(),_,(),rfl,c1 d,(by show 2≤10000;decide),fun p H1 nw=>?_⟩
   have q:=k p H1
   rw [←kl] at q
   exact q nw
  ·rw [decide_eq_false h0]
   rw [if_neg h0] at kl
   have c1:∀x,Bs x ((Int.gcd n d:Nat):Int):=fun x=>⟨by trivial,gs⟩
   refine aO ⟨(),(),_,(),rfl,c1 n,(),(),_,(),rfl,c1 d,(by show 2≤10000;decide),fun p H1 nw=>?_⟩
   have q:=k p H1
   rw [←kl] at q
   exact q nw
theorem El (T:Txt K mg):aV P w K mg base CX0 3 T.added_.f T.added_.d ["one", "other"] (zd Lf Dv):=by
 have G_fraction:=#[(pA)]
 refine T.added_.F.ok DG (fun vs H Q E h=>?_) (fun cdv A outer s H vs Q E hr h=>?_)
 ·obtain ⟨a,b,n1,d1,n2,d2,rfl,_⟩:=h
  rfl
 ·obtain ⟨a,b,n1,d1,n2,d2,rfl,ha,hb,⟨z1,z2,z3,z4,hd⟩,k⟩:=h
  refine ⟨_,#[ac 3 #[ax 4 #[G_fraction,uH,T.fraction_,#[[#[aj 8 (@bi _) #[aj 8 (@cJ _) #[#[0,pj][#[()]]] #[#[1,l5][#[()]]]] #[aj 8 (@cJ _) #[#[1,l5][#[()]]] #[#[0,pj][#[()]]]]],#[aj 8 (@cJ _) #[#[0,pj][#[()]]] #[#[1,l5][#[()]]]]]]]]],?_⟩
  exact ⟨(),a,_,_,(),rfl,ad.of ha,rfl,(),b,_,_,(),rfl,ad.of hb,rfl,_,(),rfl,hW z1 z4,(),b,_,_,(),rfl,ad.of hb,rfl,(),a,_,_,(),rfl,ad.of ha,rfl,_,(),rfl,hW z3 z2,_,(),rfl,
   _,rfl,a,_,_,_,rfl,rfl,ad.of ha,rfl,_,rfl,b,_,_,_,rfl,rfl,ad.of hb,rfl,_,_,rfl,rfl,hW z2 z4,_,_,rfl,hd,ve z2 z4,k⟩
theorem EA (T:Txt K mg):aV P w K mg base CX0 3 T.taken_.f T.taken_.d ["one", "other"] (zd Kv Dv):=by
 have G_fraction:=#[(pA)]
 refine T.taken_.F.ok Dk (fun vs H Q E h=>?_) (fun cdv A outer s H vs Q E hr h=>?_)
 ·obtain ⟨a,b,n1,d1,n2,d2,rfl,_⟩:=h
  rfl
 ·obtain ⟨a,b,n1,d1,n2,d2,rfl,ha,hb,⟨z1,z2,z3,z4,hd⟩,k⟩:=h
  refine ⟨_,#[ac 3 #[ax 4 #[G_fraction,uI,T.fraction_,#[[#[aj 8 (@lV _) #[aj 8 (@cJ _) #[#[0,pe][#[()]]] #[#[1,l9][#[()]]]] #[aj 8 (@cJ _) #[#[1,l9][#[()]]] #[#[0,pe][#[()]]]]],#[aj 8 (@cJ _) #[#[0,pe][#[()]]] #[#[1,l9][#[()]]]]]]]]],?_⟩
  exact ⟨(),a,_,_,(),rfl,ad.of ha,rfl,(),b,_,_,(),rfl,ad.of hb,rfl,_,(),rfl,hW z1 z4,(),b,_,_,(),rfl,ad.of hb,rfl,(),a,_,_,(),rfl,ad.of ha,rfl,_,(),rfl,hW z3 z2,_,(),rfl,
   _,rfl,a,_,_,_,rfl,rfl,ad.of ha,rfl,_,rfl,b,_,_,_,rfl,rfl,ad.of hb,rfl,_,_,rfl,rfl,hW z2 z4,_,_,rfl,hd,ve z2 z4,k⟩
theorem y8 (T:Txt K mg):aV P w K mg base CX0 3 T.times_.f T.times_.d ["one", "other"] (zd Ks Dv):=by
 have G_fraction:=#[(pA)]
 refine T.times_.F.ok Dj (fun vs H Q E h=>?_) (fun cdv A outer s H vs Q E hr h=>?_)
 ·obtain ⟨a,b,n1,d1,n2,d2,rfl,_⟩:=h
  rfl
 ·obtain ⟨a,b,n1,d1,n2,d2,rfl,ha,hb,⟨z1,z2,z3,z4,hd⟩,k⟩:=h
  refine ⟨_,#[ac 3 #[ax 4 #[G_fraction,uB,T.fraction_,#[[#[aj 8 (@cJ _) #[#[0,ug][#[()]]] #[#[1,re][#[()]]]],#[aj 8 (@cJ _) #[#[0,ug][#[()]]] #[#[1,re][#[()]]]]]]]]],?_⟩
  exact ⟨(),a,_,_,(),rfl,ad.of ha,rfl,(),b,_,_,(),rfl,ad.of hb,rfl,_,(),rfl,hW z1 z3,
   _,rfl,a,_,_,_,rfl,rfl,ad.of ha,rfl,_,rfl,b,_,_,_,rfl,rfl,ad.of hb,rfl,_,_,rfl,rfl,hW z2 z4,_,_,rfl,hd,ve z2 z4,k⟩
theorem ul (T:Txt K mg):aV P w K mg base CX0 1 T.compared_.f T.compared_.d ["one", "other"] JY:=by
 refine T.compared_.F.ok pi (fun vs H Q E h=>?_) (fun cdv A outer s H vs Q E hr h=>?_)
 ·obtain ⟨a,b,n1,d1,n2,d2,rfl,_⟩:=h
  rfl
 ·obtain ⟨a,b,n1,d1,n2,d2,rfl,ha,hb,z1,z2,z3,z4,k⟩:=h
  refine ⟨_,#[#[2,pi.nd,jR,#[aj 8 (@cJ _) #[#[0,pX][#[()]]] #[#[1,mO][#[()]]]]] :: #[#[3,pi.nd,jB,#[aj 8 (@cJ _) #[#[1,mO][#[()]]] #[#[0,pX][#[()]]]]] :: #[#[bn 8 #[aH 8 (@gJ _) #[2,jR] #[3,jB] #[(),()]] #[ac 3 #[ax 4 #[jV 6 (@i6 _) #[()]]]] (@aM _)] :: #[#[bn 8 #[aH 8 (@oO _) #[2,jR] #[3,jB] #[(),()]] #[ac 3 #[ax 4 #[()]]] (@aM _)] :: #[ac 3 #[ax 4 #[()]]]]]]],?_⟩
  refine ⟨(),a,_,_,(),rfl,ad.of ha,rfl,(),b,_,_,(),rfl,ad.of hb,rfl,_,(),rfl,hW z1 z4,(),b,_,_,(),rfl,ad.of hb,rfl,(),a,_,_,(),rfl,ad.of ha,rfl,_,(),rfl,hW z3 z2,
   _,rfl,_,rfl,_,_,rfl,rfl,_,rfl,?_⟩
  unfold uN at k
  by_cases h1:n1*d2<n2*d1
  ·rw [decide_eq_true h1]
   rw [if_pos h1] at k
   exact av ⟨(),k⟩
  ·rw [decide_eq_false h1]
   rw [if_neg h1] at k
   refine aO ⟨(),(),_,(),rfl,(),?_⟩
   by_cases h2:n2*d1<n1*d2
   ·rw [decide_eq_true h2]
    rw [if_pos h2] at k
    exact av k
   ·rw [decide_eq_false h2]
    rw [if_neg h2] at k
    exact aO k
end
end K54
namespace K54
open PySem L2
set_option maxHeartbeats 8000000
theorem Fb.tim' {b c e:Nat}{n1 d1 n2 d2:Int} (h1:Fb b n1 d1) (h2:Fb c n2 d2) (hc:b+c≤e):Fb e (KM.low (n1*n2) (d1*d2)).1 (KM.low (n1*n2) (d1*d2)).2:=
 .low ((h1.sn.mul h2.sn).mono hc) ((h1.sd.mul h2.sd).mono hc) (Int.mul_ne_zero (by have:=h1.pos;trivial) (by have:=h2.pos;trivial))
theorem Fb.tak' {b c e:Nat}{n1 d1 n2 d2:Int} (h1:Fb b n1 d1) (h2:Fb c n2 d2) (hc:b+c+1≤e):Fb e (KM.low (n1*d2 - n2*d1) (d1*d2)).1 (KM.low (n1*d2 - n2*d1) (d1*d2)).2:=
 .low (((h1.sn.mul h2.sd).sub ((h2.sn.mul h1.sd).mono (by trivial))).mono (by trivial)) ((h1.sd.mul h2.sd).mono (by trivial)) (Int.mul_ne_zero (by have:=h1.pos;trivial) (by have:=h2.pos;trivial))
theorem FL.snoc {c:Nat}{H:Hp}{o:Addr}{p:KM.Fra} (h:H o=some (fr p)) (f:Fb c p.1 p.2):∀{xs:List V}{ps:List KM.Fra},FL c H xs ps→FL c H (xs++[.ref o]) (ps++[p])
 | _,_,.nil=>.cons h f .nil
 | _,_,.cons h' f' r=>.cons h' f' (FL.snoc h f r)
theorem FL.at {c:Nat}{H:Hp}:∀{xs:List V}{ps:List KM.Fra}{i:Nat},FL c H xs ps→i<xs.length→bP fun o p=>xs[i]?=some (.ref o)∧ps[i]?=some p∧H o=some (fr p)∧Fb c p.1 p.2
 | _,_,_,.nil,h=>by simp at h
 | _,_,0,.cons h f r,_=>⟨_,_,rfl,rfl,h,f⟩
 | _,_,i+1,.cons h f r,hi=>by
  obtain ⟨o,p,a,b,c,d⟩:=FL.at (i:=i) r (by simpa using hi)
  exact ⟨o,p,by simpa using a,by simpa using b,c,d⟩
theorem LD {c:Nat}{p:KM.Fra} (h:Fb c p.1 p.2):KM.Rd p:=⟨h.pos,h.co⟩
section
variable {P:Program}{w:World}{K:PySem.W.Frag}{mg:Str→Option Value}{base:Heap}
inductive FX (K:PySem.W.Frag) (vs:List V) (H:Hp) (Q:VK):Prop
 | mk (a:Addr) (xs:List V) (ps:List KM.Fra) (c m:Nat) (h0:vs=[.ref a]) (h1:ah K H a xs) (h2:FL c H xs ps) (h3:(c+1)*xs.length+1≤m) (h4:c≤4000) (h5:m≤4000) (h6:∀o H',aa H H'→H' o=some (fr (KM.sumF ps))→Fb m (KM.sumF ps).1 (KM.sumF ps).2→Q (.ref o) H')
def Hq (K:PySem.W.Frag):Sp:=fun vs H Q _=>FX K vs H Q
theorem vT (T:Txt K mg):aV P w K mg base CX0 4 T.sum_of_.f T.sum_of_.d ["parts"] (Hq K):=by
 have G_added:=#[(El)]
 refine T.sum_of_.F.ok oC (fun vs H Q E h=>?_) (fun cdv A outer s H vs Q E hr h=>?_)
 ·obtain ⟨a,xs,ps,c,m,rfl,_⟩:=h
  rfl
 ·obtain ⟨a,xs,ps,c,m,rfl,hS,hF,hm,hc,hm4,k⟩:=h
  refine ⟨_,#[#[1,oC.nd,iN,#[aD 5 #[[#[()],#[()]]]]] :: #[#[cN 8 PassesOwn.never rfl (@oh _ (K) _ _ _ #[0,wG] (by rfl)) #[2,oC.nd,qQ] #[ac 3 #[1,oC.nd,iN,#[G_added,vM,T.added_,#[[#[1,iN],#[2,qQ]]]]]] (by intro _;rfl)] :: #[ac 3 #[ax 4 #[1,iN]]]]],?_⟩
  refine ⟨(by show 2≤10000;decide),fun o0 H1 n1=>?_⟩
  refine ⟨(),a,rfl,⟨_,n1.sm.seq hS⟩,yE (xs:=xs) (fun i σ H'=>bP fun (o:Addr) (v2:Option V)=>σ=[some (.ref a),some (.ref o),v2]∧aa H H'∧H' o=some (fr (KM.sumF (ps.take i)))∧Fb ((c+1)*i+1) (KM.sumF (ps.take i)).1 (KM.sumF (ps.take i)).2) ⟨o0,(),n1.sm,n1.at',by rw [Nat.mul_zero];exact Dg⟩ ?_ ?_ ?_⟩
  ·rintro i σ H' _ ⟨_,_,_,s,_⟩
   exact s.seq hS
  ·rintro i x σ H' hx ⟨o,v2,rfl,s,ho,hb⟩
   obtain ⟨ox,p,rfl,hp,hpx,fp⟩:=hF.get hx
   have hi:i<xs.length:=(List.getElem?_eq_some_iff.mp hx).1
   have e1:(c+1)*(i+1)=(c+1)*i+(c+1):=Nat.mul_succ _ _
   have e2:=Nat.mul_le_mul_left (c+1) (show i+1≤xs.length by trivial)
   refine ⟨(),(),o,ox,_,_,_,(),ho,s _ _ hpx,xk hb fp (by trivial) hc,fun o2 H2 n2=>⟨o2,(),s.trans n2.sm,?_,?_⟩⟩
   ·rw [E2 hp,qr]
    exact n2.at'
   ·rw [E2 hp,qr]
    exact Fb.add' hb fp (by trivial)
  ·rintro σ H' ⟨o,v2,rfl,s,ho,hb⟩
   rw [hF.length,List.take_length] at ho hb
   rw [hF.length] at hm
   exact ⟨(),k o H' s ho (hb.mono hm)⟩
end
end K54
namespace K54
open PySem L2
section
variable {P:Program}{w:World}{K:PySem.W.Frag}{mg:Str→Option Value}{base:Heap}
theorem Iv (T:Txt K mg):aV P w K mg base CX0 1 T.l_box_.f T.l_box_.d ["_law_script", "_law_k"] (JV K):=by
 refine T.l_box_.F.ok uA (fun vs H Q E h=>?_) (fun cdv A outer s H vs Q E hr h=>?_)
 ·obtain ⟨a,ms,k,rfl,_⟩:=h
  rfl
 ·obtain ⟨a,ms,k,rfl,hS,hk0,hk1,kk⟩:=h
  refine ⟨_,(fe (lG (i:=2) uA.nd rfl (Or.inl rfl) bO)
   (fe (bn (aH gJ (pv 1) (fU nF (by rfl) T.b_len bh (bT (pv 0) bE)) (lJ _)) (ac (lG (i:=2) uA.nd rfl (Or.inl rfl) (d7 jX (pv 0) (pv 1) (fun _ _=>rfl)))) aM)
   (ac (ax (HN (bT (aj fh (fU ny (by rfl) T.b_abs jG (bT (pv 2) bE)) (bA iD (by rfl) T.b_int dg (bT (bH tu (fU ny (by rfl) T.b_abs jG (bT (pv 2) bE)) (aj yT bO bO) (lJ _)) bE))) (bT (aj jS (aj bi (pv 2) (aj fh (aj fh bO (pv 1)) (pv 1))) bO) (bT bO bE)))))))),?_⟩
  refine ⟨(),(),a,(),.inl hS,_,(),rfl,(),?_⟩
  refine cG (fun h=>?_) (fun h=>?_)
  case' refine_1=>
   have hlt:k.toNat<ms.length:=by
    have h':=of_decide_eq_true h
    rw [List.length_map] at h'
    trivial
   refine ⟨(),(),.inl ⟨a,_,_,V.int ms[k.toNat],rfl,rfl,hS,?_,?_⟩⟩
   ·exact Ab hk0 hlt
  all_goals
   refine ⟨(),(),(),(),_,(),rfl,⟨by decide,by decide,by decide⟩,_,(),rfl,.inr ⟨(),_,(),rfl,.inr ?_,(),(),_,(),rfl,.inr ⟨by trivial,by trivial⟩,(),_,(),rfl,.inr ⟨by trivial,by trivial⟩,_,(),rfl,_,(),rfl,?_,?_,fun p hp=>kk p _ hp (aa.new hp) ⟨_,_,aE,?_,?_,?_⟩⟩⟩
   ·exact Lj _
   ·show (0:Int)<2147483647;decide
   ·show 3≤sizeLine;decide
   ·exact Jf _ (yJ _)
   ·exact Int.emod_nonneg _ (by decide)
   ·exact Int.emod_lt_of_pos _ (by decide)
end
end K54
namespace K54
open PySem L2
section
variable {P:Program}{w:World}{K:PySem.W.Frag}{mg:Str→Option Value}{base:Heap}
theorem gD (T:Txt K mg):aV P w K mg base CX0 1 T.l_take_.f T.l_take_.d ["_law_box_here", "_law_many"] GE:=by
 refine T.l_take_.F.ok rK (fun vs H Q E h=>?_) (fun cdv A outer s H vs Q E hr h=>?_)
 ·obtain ⟨b,many,t,rfl,_⟩:=h
  rfl
 ·obtain ⟨b,many,t,rfl,⟨c,x,hb,hc,hx0,hx1⟩,hm0,hm1,ht0,ht1,kk⟩:=h
  refine ⟨_,(fe (bn (aH oO (d7 jX (pv 0) bO (fun _ _=>rfl)) bO (lJ _)) (fe (dH (fU zJ (by rfl) T.b_divmod xT (bT (d7 jX (pv 0) bO (fun _ _=>rfl)) (bT (pv 1) bE))) (zp rfl (ak (je (pv 0) bO uz) (ak (gv (i:=2) rK.nd rfl (Or.inl rfl)) bI))))
   (ac (ax (pv 2)))) aM)
   (fe (dH (aj bi (d7 jX (pv 0) bO (fun _ _=>rfl)) bO) (je (pv 0) bO uz))
   (fe (lG (i:=3) rK.nd rfl (Or.inl rfl) (aj jS (aj yT (aj bi (d7 jX (pv 0) bO (fun _ _=>rfl)) (aj fh bO (d7 jX (pv 0) bO (fun _ _=>rfl)))) bO) bO))
   (ac (ax (aj jS (aj FJ (aj jS (aj bi (aj fh (pv 3) bO) (aj fh (aj fh (d7 jX (pv 0) bO (fun _ _=>rfl)) (d7 jX (pv 0) bO (fun _ _=>rfl))) bO)) bO) bO) (pv 1))))))),?_⟩
  refine ⟨(),.inl ⟨b,_,_,(),rfl,ah.of hb,rfl,_,(),rfl,(),?_⟩⟩
  refine cG (fun h=>?_) (fun h=>?_)
  ·refine ⟨(),.inl ⟨b,_,_,(),rfl,ah.of hb,rfl,(),_,(),⟨hm0,hm1⟩,fun p hp=>⟨p,(),ad.of aE,rfl,_,(),(),b,[.int c,.int x,.int t],_,0,rfl,rfl,?_,rfl,_,(),rfl,(),?_⟩⟩⟩
   ·rw [aG (aY hb hp)];exact hb
   ·have hb':aQ H p (.tup [.int (c / many),.int (c % many)]) b=some (.lst [.int c,.int x,.int t]):=by rw [aG (aY hb hp)];exact hb
    exact kk _ t _ (Int.emod_nonneg _ (Int.ne_of_gt hm0)) (Int.emod_lt_of_pos _ hm0) (Int.le_refl _) (by trivial) (xz (aa.new hp) hb') ⟨_,_,aE,Int.ediv_nonneg hc (Int.le_of_lt hm0),hx0,hx1⟩
  ·refine ⟨(),.inl ⟨b,_,_,(),rfl,ah.of hb,rfl,_,(),rfl,(),b,_,_,2,rfl,rfl,hb,rfl,?_⟩⟩
   refine ⟨(),.inl ⟨b,_,_,(),rfl,ah.of aE,rfl,(),.inl ⟨b,_,_,(),rfl,ah.of aE,rfl,_,(),rfl,.inl ⟨by decide,by decide⟩,_,(),rfl,_,(),rfl,⟨by decide,by decide,?_⟩,_,(),rfl,?_,?_⟩⟩⟩
   ·have:(x+39373*(t+1)).natAbs<2 ^ 64:=by trivial
    exact this
   ·show (0:Int)<2147483647;decide
   have ho0:0≤(x+39373*(t+1)) ^ (5:Int).toNat % 2147483647:=Int.emod_nonneg _ (by decide)
   have ho1:(x+39373*(t+1)) ^ (5:Int).toNat % 2147483647<2147483647:=Int.emod_lt_of_pos _ (by decide)
   generalize (x+39373*(t+1)) ^ (5:Int).toNat % 2147483647=on at ho0 ho1 ⊢
   refine ⟨(),_,(),rfl,.inr ⟨by decide,by decide⟩,(),.inl ⟨b,_,_,(),rfl,ah.of aE,rfl,(),.inl ⟨b,_,_,(),rfl,ah.of aE,rfl,_,(),rfl,.inl ⟨?_,?_⟩,_,(),rfl,.inr ⟨by decide,by decide⟩,_,(),rfl,_,(),rfl,?_,_,(),rfl,⟨by decide,by decide⟩,(),_,(),rfl,hm0,?_⟩⟩⟩
   ·show -(2 ^ 64)<t+1;trivial
   ·show t+1<2 ^ 64;trivial
   ·show (0:Int)<2147483629;decide
   ·exact kk _ (t+1) _ (Int.emod_nonneg _ (Int.ne_of_gt hm0)) (Int.emod_lt_of_pos _ hm0) (by trivial) (Int.le_refl _) (xz (aa.refl H) hb) ⟨c,x,aE,hc,hx0,hx1⟩
end
end K54
namespace K54
open PySem L2
section
variable {P:Program}{w:World}{K:PySem.W.Frag}{mg:Str→Option Value}{base:Heap}
theorem Ge {n d:Int} (hd:d≠0) (h:d.natAbs.log2<9000):AO n ((Int.gcd n d:Nat):Int):=by
 have g0:=KM.gcd_pos (n:=n) hd
 refine ⟨by trivial,?_⟩
 have h1:Int.gcd n d≤d.natAbs:=Nat.le_of_dvd (by trivial) (by
  have:((Int.gcd n d:Nat):Int) ∣ d:=Int.gcd_dvd_right ..
  exact Int.ofNat_dvd_left.mp this)
 have h2:d.natAbs<2 ^ 9000:=(Nat.log2_lt (by trivial)).mp h
 rw [Int.natAbs_natCast]
 exact (Nat.log2_lt (by trivial)).mpr (Nat.lt_of_le_of_lt h1 h2)
end
end K54
namespace K54
open PySem L2
set_option maxHeartbeats 4000000
section
variable {P:Program}{w:World}{K:PySem.W.Frag}{mg:Str→Option Value}{base:Heap}
theorem yV (ns:List Int) (lo hi:Option Int):∃cs:List Int,eX (ns.map V.int) lo hi=cs.map V.int∧cs=(ns.drop (HT.sIx ns.length 0 lo)).take (HT.sIx ns.length ns.length hi - HT.sIx ns.length 0 lo):=by
 refine ⟨_,?_,rfl⟩
 unfold eX
 rw [List.length_map,List.map_take,List.map_drop]
inductive DX (K:PySem.W.Frag) (vs:List V) (H:Hp) (Q:VK):Prop
 | mk (a:Addr) (ns:List Int) (h0:vs=[.ref a,.int 4]) (h1:ah K H a (ns.map V.int)) (h2:ns.length≤63) (h3:∀(l:Addr) (bs:List Addr) (H':Hp),aa H H'→H' l=some (.lst (bs.map V.ref))→bs.length≤4→bs.Nodup→(∀b∈bs,Bx H' b 0)→Q (.ref l) H')
def F9 (K:PySem.W.Frag):Sp:=fun vs H Q _=>DX K vs H Q
theorem DL (T:Txt K mg):aV P w K mg base CX0 2 T.l_boxes_.f T.l_boxes_.d ["_law_script", "_law_cap"] (F9 K):=by
 have G_l_box:=#[(Iv)]
 refine T.l_boxes_.F.ok my (fun vs H Q E h=>?_) (fun cdv A outer s H vs Q E hr h=>?_)
 ·obtain ⟨a,ns,rfl,_⟩:=h
  rfl
 ·obtain ⟨a,ns,rfl,hS,hn,kk⟩:=h
  refine ⟨_,#[#[lG 2 (2) _ _ _ _ my.nd rfl (Or.inr gj) #[bA 9 (@eY _ (K) (by rfl)) vV T.b_list (@b4) #[[#[cn 10 (@qH _ (K) (by rfl)) #[0,lL] (@dq _) #[cj 3 #[1,ip]]]]] (by decide) (by decide) (by rfl) (by rfl)] (by rfl) (by first | exact .inl rfl | exact .inr rfl | assumption)] :: #[#[cN 8 PassesOwn.never rfl #[Gq 8 rf T.b_enumerate #[[#[cn 10 (@qH _ (K) (by rfl)) #[0,lL] #[cj 3 #[1,ip]] #[cj 3 #[()]]]]] (by rfl)] (@br _ (K) _ _ _ _ (2) rfl #[ak 5 #[3,my.nd,jk] #[ak 5 #[4,my.nd,nH] (@bI _) (by rfl)] (by rfl)] (by rfl) (by rfl) (by rfl)) #[ac 3 #[dH 6 #[aj 8 (@bi _) #[d7 7 (@Im _ (K) (by rfl)) #[2,(gj)] #[aj 8 (@jS _) #[3,jk] #[1,ip]] (fun _ _=>rfl)] #[aj 8 (@fh _) #[4,nH] #[aj 8 (@bi _) #[3,jk] #[()]]]] #[je 7 #[2,(gj)] #[aj 8 (@jS _) #[3,jk] #[1,ip]] (@xm _) (by intro _;rfl)] (by rfl) (by rfl) (by rfl)]] (by intro _;rfl)] :: #[ac 3 #[ax 4 #[bq 7 (["_law_k", "_law_found"]) (1) ([2]) _ _ _ _ rfl (by kernel_rfl) #[b9 6 vg T.b_range #[[#[(),(),(@CC _ rfl),yg,T.b_max,(@A3),#[[#[()],#[(),(),(@d9 _ (K) (by rfl)),xU,T.b_len,(@bh),#[[#[2,(gj)]]]]]]]]] (by rfl)] (fun _ _ _ _ _ _=>#[0,(),()]) (fun _ _ _ _ _ _=>@bf _) (fun _ _ _ _ _ _=>#[G_l_box,(),T.l_box_,#[[#[1,0],#[0,()]]]]) (by intro _;rfl)]]]]],?_⟩
  obtain ⟨c1,e1,q1⟩:=yV ns none (some 4)
  obtain ⟨c2,e2,q2⟩:=yV ns (some 4) (some 63)
  have l1m:c1.length=min 4 ns.length:=by
   rw [q1,show (4:Int)=((4:Nat):Int) from rfl,HT.sIx_nat,HT.sIx_none,List.length_take,List.length_drop]
   trivial
  have l2m:c2.length≤ns.length - 4:=by
   rw [q2,show (4:Int)=((4:Nat):Int) from rfl,HT.sIx_nat,List.length_take,List.length_drop]
   trivial
  refine kK fun Q0 n0=>⟨(),(),(),a,(),hS,fun p1 H1 m1=>⟨p1,(),.inl (ah.of m1.at'),fun p2 H2 m2=>n0 _ _ ?_⟩⟩
  rw [e1] at m1 m2
  have s2:=m1.sm.trans m2.sm
  have fp2:H p2=none:=m1.sm.free m2.fr
  refine bF fun D0 nD=>⟨(),(),(),(),a,(),s2.seq hS,fun p3 H3 m3=>⟨p3,rfl,⟨_,ah.of m3.at'⟩,?_⟩⟩
  rw [e2] at m3
  have n23:p2≠p3:=fun z=>by have:=m2.at';rw [z,m3.fr] at this;cases this
  refine ⟨fun i m σ H'=>m=c2.length - i∧i≤c2.length∧fP fun (ms:List Int) (v3 v4:Option V)=>σ=[some (.ref a),some (.int 4),some (.ref p2),v3,v4]∧ms.length=c1.length∧H' p2=some (.lst (ms.map V.int))∧H' p3=some (.lst (c2.map V.int))∧(∀b o,b≠p2→H b=some o→H' b=some o),⟨(),Nat.zero_le _,c1,none,none,rfl,rfl,m3.sm _ _ m2.at',m3.at',fun b o _ h=>m3.sm _ _ (s2 b o h)⟩,?_⟩
  rintro i m σ H' ⟨rfl,hi,ms,v3,v4,rfl,hms,h2,h3,hk⟩
  by_cases hlt:i<c2.length
  ·refine .inr ⟨⟨c2.map V.int,V.int c2[i],ah.of h3,by rw [List.getElem?_map];simp [hlt]⟩,_,fun σ' H'' z=>z,?_⟩
   rintro x H'' ⟨t,y,ht,rfl,rfl,hy⟩
   have hy':=hy _ (ah.of h3)
   rw [List.getElem?_map,List.getElem?_eq_getElem hlt] at hy'
   obtain rfl:V.int c2[i]=y:=Option.some.inj hy'
   have nt2:p2≠t:=aY h2 ht
   have nt3:p3≠t:=aY h3 ht
   have hmod0:0≤(i:Int) % 4:=Int.emod_nonneg _ (by trivial)
   have hmod1:(i:Int) % 4<4:=Int.emod_lt_of_pos _ (by trivial)
   have hixlt:((i:Int) % 4).toNat<ms.length:=by trivial
   refine ⟨t,(),ad.of aE,rfl,_,(),_,(),rfl,(),(),(),_,(),rfl,(by show (0:Int)<4;decide),.inl ⟨p2,ms.map V.int,_,V.int ms[((i:Int) % 4).toNat],rfl,rfl,ah.of (by rw [aG nt2];exact h2),Ab hmod0 hixlt,(),(),_,(),rfl,_,(),rfl,.inr ⟨by trivial,by trivial⟩,_,(),rfl,(),(),(),_,(),rfl,(by show (0:Int)<4;decide),p2,ms.map V.int,_,((i:Int) % 4).toNat,rfl,rfl,(by rw [aG nt2];exact h2),?_,fun H5 c5=>?_⟩⟩
   ·unfold sf
    rw [if_pos hmod0,List.length_map,if_pos (by trivial)]
   ·refine ⟨c2.length - (i+1),by trivial,rfl,hlt,ms.set ((i:Int) % 4).toNat (ms[((i:Int) % 4).toNat]+c2[i]*((i:Int)+2)),_,(),by rw [List.length_set];exact hms,by rw [c5.at',List.map_set],c5.ol _ _ (Ne.symm n23) (by rw [aG nt3];exact h3),fun b o hb h=>?_⟩
    have:=hk b o hb h
    exact c5.ol _ _ hb (by rw [aG (aY this ht)];exact this)
  ·refine .inl ⟨⟨_,ah.of h3,by rw [List.length_map];trivial⟩,nD _ _ ?_⟩
   have sH:aa H H':=fun b o h=>hk b o (aY h fp2) h
   have hmx:0≤(if ((ms.map V.int).length:Int) > 2 then ((ms.map V.int).length:Int) else 2)∧(if ((ms.map V.int).length:Int) > 2 then ((ms.map V.int).length:Int) else 2)≤4:=by
    rw [List.length_map]
    split <;> trivial
   refine ⟨(),p2,(),.inl (ah.of h2),_,(),(),by trivial,by trivial,?_⟩
   generalize (if ((ms.map V.int).length:Int) > 2 then ((ms.map V.int).length:Int) else 2)=mx at hmx
   intro D hD
   refine gH (n:=mx.toNat) (fun i H6 ys=>∃bs:List Addr,ys=bs.map V.ref∧H6 D=some (.lst ys)∧bs.length=i∧bs.Nodup∧(∀b∈bs,Bx H6 b 0)∧aa H' H6) (fA (by trivial)) ⟨[],rfl,aE,rfl,List.nodup_nil,(fun b hb=>by cases hb),aa.new hD⟩ ?_ ?_ ?_ ?_ ?_
   ·rintro i H6 ys ⟨bs,rfl,e,rfl,_⟩
    exact ⟨e,by simp⟩
   ·intro i H6 ys hi _
    exact hi
   ·intro H6 ys _
    exact Nat.le_refl _
   ·rintro i H6 ys x H7 hi ⟨bs,rfl,e,lb,nb,bb,sm⟩ ⟨rfl,rfl⟩
    refine ⟨cR,(),(),p2,ms,(),ah.of (sm _ _ h2),by trivial,by trivial,fun p H8 fp s8 Bp=>?_⟩
    have e8:=s8 _ _ e
    have nf:p∉bs:=fun h=>by
     obtain ⟨_,_,q,_⟩:=bb p h
     rw [fp] at q;cases q
    have nd:D≠p:=fun z=>by rw [z,fp] at e;cases e
    have bne:∀b∈bs,b≠D:=fun b h z=>by
     obtain ⟨_,_,q,_⟩:=bb b h
     rw [z,e] at q
     injection q with q
     injection q with q
     cases bs <;> cases q
    refine ⟨e8,bs++[p],by rw [List.map_append];rfl,aE,by rw [List.length_append,lb];rfl,?_,fun b hb=>?_,fun b o h=>?_⟩
    ·rw [List.nodup_append]
     exact ⟨nb,by simp,fun u hu v hv z=>nf (by rw [List.mem_singleton.mp hv] at z;exact z▸hu)⟩
    ·have hbD:b≠D:=by
      rcases List.mem_append.mp hb with h | h
      ·exact bne b h
      ·rw [List.mem_singleton.mp h];exact Ne.symm nd
     have B8:Bx H8 b 0:=by
      rcases List.mem_append.mp hb with h | h
      ·exact (bb b h).same s8
      ·rw [List.mem_singleton.mp h];exact Bp
     exact B8.ch .mk' hbD
    ·rw [aG (fun z=>by rw [z,hD] at h;cases h)]
     exact s8 _ _ (sm _ _ h)
   ·rintro H6 ys ⟨bs,rfl,e,lb,nb,bb,sm⟩
    exact kk D bs H6 (sH.trans sm) e (by trivial) nb bb
end
end K54
namespace K54
open PySem L2
section
variable {P:Program}{w:World}{K:PySem.W.Frag}{mg:Str→Option Value}{base:Heap}
inductive IQ (g:KM.Fra→KM.Fra→KM.Fra) (z:Bool) (vs:List V) (H:Hp) (Q:VK):Prop
 | mk (a b:Addr) (p q:KM.Fra) (c1 d1 c2 d2:Nat) (h0:vs=[.ref a,.ref b]) (h1:H a=some (fr p)) (h2:H b=some (fr q)) (h3:Gb c1 d1 p) (h4:Gb c2 d2 q) (h5:c1≤4000) (h6:d1≤4000) (h7:c2≤4000) (h8:d2≤4000) (h9:(z=true→1≤q.1)) (h10:∀o H',Nw H o (fr (g p q)) H'→Q (.ref o) H')
def KH (g:KM.Fra→KM.Fra→KM.Fra) (z:Bool):Sp:=fun vs H Q _=>IQ g z vs H Q
inductive Dn (vs:List V) (H:Hp) (Q:VK):Prop
 | mk (a b:Addr) (p q:KM.Fra) (h0:vs=[.ref a,.ref b]) (h1:H a=some (fr p)) (h2:H b=some (fr q)) (h3:Sz 4000 p.1) (h4:Sz 4000 p.2) (h5:Sz 4000 q.1) (h6:Sz 4000 q.2) (h7:Q (.int (p.1*q.2 - q.1*p.2)) H)
def Fo:Sp:=fun vs H Q _=>Dn  vs H Q
end
end K54
namespace K54
open PySem L2
set_option maxHeartbeats 4000000
section
variable {P:Program}{w:World}{K:PySem.W.Frag}{mg:Str→Option Value}{base:Heap}
def xf (f:Int) (ls:List (List Nat)):Prop:=∀(j:Nat) l,ls[j]?=some l→∃cs:List Nat,l=(97+(((f+11*(0+(j:Int))) % 26) % 26).toNat) :: cs∧cs.length≤7∧∀c∈cs,97≤c∧c≤122
theorem xf.nc {f:Int}{ls:List (List Nat)} (h:xf f ls):∀l∈ls,yl l:=fun l hl=>by
 obtain ⟨j,hj⟩:=List.getElem?_of_mem hl
 obtain ⟨cs,rfl,h1,h2⟩:=h j l hj
 refine ⟨by simp,by rw [List.length_cons];trivial,fun c hc=>?_⟩
 rcases List.mem_cons.mp hc with rfl | hc
 ·trivial
 ·exact h2 c hc
theorem xf.nd {f:Int}{ls:List (List Nat)} (h:xf f ls) (hl:ls.length≤26):ls.Nodup:=by
 rw [List.nodup_iff_pairwise_ne,List.pairwise_iff_getElem]
 intro i j hi hj hij e
 obtain ⟨cs,e1,_⟩:=h i _ (List.getElem?_eq_getElem hi)
 obtain ⟨ds,e2,_⟩:=h j _ (List.getElem?_eq_getElem hj)
 rw [e1,e2] at e
 injection e with e _
 have:=HQ (f:=f) (j:=i) (k:=j) (by trivial) (by trivial) (by trivial)
 trivial
theorem xf.snoc {f:Int}{ls:List (List Nat)}{cs:List Nat} (h:xf f ls) (h1:cs.length≤7) (h2:∀c∈cs,97≤c∧c≤122):xf f (ls++[(97+(((f+11*(0+(ls.length:Int))) % 26) % 26).toNat) :: cs]):=fun j l hj=>by
 by_cases hji:j<ls.length
 ·rw [List.getElem?_append_left hji] at hj
  exact h j l hj
 ·have hj':j=ls.length:=by
   have:=(List.getElem?_eq_some_iff.mp hj).1
   rw [List.length_append] at this
   simp at this
   trivial
  subst hj'
  rw [List.getElem?_append_right (by trivial),Nat.sub_self] at hj
  cases hj
  exact ⟨cs,rfl,h1,h2⟩
theorem Fy {m:Nat}{c:Nat} (hm:m≤8) (h1:97≤c) (h2:c≤122):(∀l∈(List.range m).map (fun i:Nat=>List.replicate (m - i) c),yl l)∧((List.range m).map fun i:Nat=>List.replicate (m - i) c).Nodup:=by
 constructor
 ·intro l hl
  obtain ⟨i,hi,rfl⟩:=List.mem_map.mp hl
  have:=List.mem_range.mp hi
  exact ⟨by rw [List.length_replicate];trivial,by rw [List.length_replicate];trivial,fun d hd=>by rw [List.eq_of_mem_replicate hd];trivial⟩
 ·rw [List.nodup_iff_pairwise_ne,List.pairwise_map]
  refine List.Pairwise.imp_of_mem (fun {i j} hi hj hij z=>?_) List.pairwise_lt_range
  have a:=List.mem_range.mp hi
  have b:=List.mem_range.mp hj
  have:=congrArg List.length z
  rw [List.length_replicate,List.length_replicate] at this
  trivial
inductive IJ (vs:List V) (H:Hp) (Q:VK):Prop
 | mk (b:Addr) (many t:Int) (h0:vs=[.ref b,.int many]) (h1:Bx H b t) (h2:0≤t) (h3:t≤900000) (h4:1≤many) (h5:many≤10) (h6:∀D (ls:List (List Nat)) t' H',H D=none→af (Eb b) H H'→H' D=some (.lst (ls.map aT))→ls.length=many.toNat→(∀l∈ls,yl l)→ls.Nodup→Bx H' b t'→t≤t'→t'≤t+130→Q (.ref D) H')
def Kq:Sp:=fun vs H Q _=>IJ  vs H Q
theorem C9 (T:Txt K mg):aV P w K mg base CX0 2 T.l_names_.f T.l_names_.d ["_law_box_here", "_law_many"] Kq:=by
 have G_l_take:=#[(gD)]
 refine T.l_names_.F.ok gU (fun vs H Q E h=>?_) (fun cdv A outer s H vs Q E hr h=>?_)
 ·obtain ⟨b,many,t,rfl,_⟩:=h
  rfl
 ·obtain ⟨b,many,t,rfl,B,ht0,ht1,hm1,hm2,k⟩:=h
  refine ⟨_,#[#[dH 6 #[aD 5 #[[#[lK 4],#[bG 4 (@bE _)],#[G_l_take,jz,T.l_take_,#[[#[0,(gM)],#[()]]]]]]] (@br _ (K) _ _ _ _ (3) rfl #[ak 5 #[gv 2 (2) _ gU.nd rfl (Or.inr kv) (by first | exact .inl rfl | exact .inr rfl | assumption)] #[ak 5 #[3,gU.nd,iW] #[ak 5 #[gv 2 (4) _ gU.nd rfl (Or.inr mh) (by first | exact .inl rfl | exact .inr rfl | assumption)] (@bI _) (by rfl)] (by rfl)] (by rfl)] (by rfl) (by rfl) (by rfl)) (by rfl) (by rfl) (by rfl)] :: #[#[5,gU.nd,mf,#[gB 7 #[bH 8 (@b8 _) #[G_l_take,jz,T.l_take_,#[[#[0,(gM)],#[()]]]] #[()] #[(),()]] #[gW 5 #[bH 8 (@gJ _) #[1,(jq)] #[()] #[(),()]]]]] :: #[#[cN 8 PassesOwn.never rfl #[b9 6 j6 T.b_range #[[#[1,(jq)]]] (by rfl)] #[6,gU.nd,qY] #[#[jb 7 (["_law_turn", "_law_box_here", "_law_letters"]) (1) ([0,2]) _ _ _ _ (7) _ _ _ gU.nd rfl nv (by kernel_rfl) rfl (by kernel_rfl) #[b9 6 j6 T.b_range #[[#[G_l_take,jz,T.l_take_,#[[#[0,(gM)],#[()]]]]]] (by rfl)] (fun _ _ _ _ _ _=>#[0,(),()]) (fun _ _ _ _ _ _=>@bf _) (fun _ _ _ _ _ _=>#[d7 7 (@vf _) #[2,0] #[G_l_take,(),T.l_take_,#[[#[1,0],#[()]]]] (fun _ _=>rfl)]) (by intro _;rfl)] :: #[ac 3 #[fF 4 (@eM _ (K) _ _ _ _ _ _ _ _ _ _ _ PySem.F.plainAttrs_list PySem.F.slot_list_append PySem.F.type_list_append (@eh _) #[3,iW] #[[#[aj 8 (@Ai _) #[d7 7 (@vf _) #[2,(kv)] #[aj 8 (@jS _) #[aj 8 (@bi _) #[4,(mh)] #[aj 8 (@fh _) #[()] #[6,qY]]] #[()]] (fun _ _=>rfl)] (@eM _ (K) _ _ _ _ _ _ _ _ _ _ _ PySem.F.plainAttrs_str PySem.F.slot_str_join PySem.F.type_str_join (@Fa _ (K) (by rfl)) #[lK 4] #[[#[7,nv]]] (by rfl) (by rfl) (by rfl) (by rfl) (by rfl) (by rfl))]]] (by rfl) (by rfl) (by rfl) (by rfl) (by rfl) (by rfl)) (by rfl)]]] (by intro _;rfl)] :: #[ac 3 #[ax 4 #[fZ 8 #[bK 3 #[5,mf] (by intro _;rfl)] #[bq 7 (["_law_k", "_law_first", "_law_letters", "_law_many"]) (1) ([4,2,1]) _ _ _ _ rfl (by kernel_rfl) #[b9 6 j6 T.b_range #[[#[1,(jq)]]] (by rfl)] (fun _ _ _ _ _ _=>#[0,(),()]) (fun _ _ _ _ _ _=>@bf _) (fun _ _ _ _ _ _=>#[aj 8 (@Fk _) #[d7 7 (@vf _) #[2,0] #[1,0] (fun _ _=>rfl)] #[aj 8 (@lV _) #[3,0] #[0,()]]]) (by intro _;rfl)] #[3,iW]]]]]]],?_⟩
  have hz:(Str.ofString "abcdefghijklmnopqrstuvwxyz").length≤sizeLine:=by nofun
  refine bF fun D0 n0=>⟨(by show 0≤10000;decide),fun D H1 m1=>⟨(),b,26,t,rfl,B.same m1.sm,by decide,by decide,ht0,by trivial,fun f t2 H2 f0 f1 h2a h2b s2 B2=>⟨(by show 3≤10000;decide),fun q H3 m3=>⟨q,(),ad.of m3.at',rfl,_,(),_,(),_,(),rfl,n0 _ _ ?_⟩⟩⟩⟩
  have nDb:¬D=b:=fun z=>B.ne m1.fr z.symm
  have B3:=B2.same m3.sm
  have s03:af (Eb b) H H3:=(m1.sm.toE.trans s2).trans m3.sm.toE
  have hD3:H3 D=some (.lst []):=m3.sm _ _ (s2.old _ _ nDb m1.at')
  refine kK fun Q4 n4=>⟨(),b,4,t2,rfl,B3,by decide,by decide,by trivial,by trivial,fun r t4 H4 r0 r1 h4a h4b s4 B4=>⟨rfl,(),?_⟩⟩
  have fin:∀al:Bool,(al=true→many<9)→Q4 (.bl al) H4:=fun al hal=>by
   refine n4 _ _ ?_
   have s04:=s03.trans s4
   refine bF fun D5 n5=>⟨(),(),by trivial,by trivial,iF (fun i σ H'=>xF fun v6 v7 ls t'=>σ=[some (.ref b),some (.int many),some (.str "abcdefghijklmnopqrstuvwxyz"),some (.ref D),some (.int f),some (.bl al),v6,v7]∧H' D=some (.lst ((ls:List (List Nat)).map aT))∧ls.length=i∧xf f ls∧Bx H' b t'∧t4≤t'∧t'≤t4+10*i∧af (Eb b) H H')
    ⟨_,_,[],t4,rfl,s4.old _ _ nDb hD3,rfl,(fun j l h=>by simp at h),B4,by trivial,by trivial,s04⟩ ?_ ?_⟩
   case refine_2=>
    rintro σ H' ⟨v6,v7,ls,t',rfl,e1,e2,nmi,B',h0,h1,s'⟩
    refine n5 _ _ ⟨(),(),?_⟩
    cases al with
    | false=>exact aO ⟨_,rfl,k D ls t' H' m1.fr s' e1 e2 nmi.nc (nmi.nd (by trivial)) B' (by trivial) (by trivial)⟩
    | true=>
     refine av ⟨(),(),by trivial,by trivial,fun D2 hD2=>?_⟩
     refine lI (n:=many.toNat) (fun i=>aT (List.replicate (many - (0+(i:Int))).toNat (97+(f % 26).toNat))) (by trivial) hD2 (fun i H' hi _=>hi) (fun H' _=>Nat.le_refl _) ?_ ?_
     ·rintro i x Ha Hb R hi sm ⟨rfl,rfl⟩ kk
      refine ⟨cR,(),(),_,_,(),rfl,hz,sY (by trivial) (by trivial),(),(),_,(),rfl,[97+(f % 26).toNat],(),rfl,by trivial,by trivial,(by show 1≤100;decide),?_⟩
      rw [KU]
      exact kk _ (aa.refl _)
     ·intro H5 s5 h5
      have h9:=hal rfl
      have er:((List.range many.toNat).map fun i:Nat=>List.replicate (many - (0+((i:Nat):Int))).toNat (97+(f % 26).toNat))=(List.range many.toNat).map fun i:Nat=>List.replicate (many.toNat - i) (97+(f % 26).toNat):=by
       refine List.map_congr_left fun i _=>?_
       congr 1
       trivial
      have rn:=Fy (m:=many.toNat) (c:=97+(f % 26).toNat) (by trivial) (by trivial) (by trivial)
      rw [←er] at rn
      refine k D2 ((List.range many.toNat).map fun i=>List.replicate (many - (0+((i:Nat):Int))).toNat (97+(f % 26).toNat)) t' H5 (af.free s' B' hD2) (s'.trans s5.toE) ?_ (by simp) rn.1 rn.2 (B'.same s5) (by trivial) (by trivial)
      rw [h5,List.map_map]
      rfl
   rintro i σ H' hi ⟨v6,v7,ls,t',rfl,e1,e2,nmi,B',h0,h1,s'⟩
   refine lf (t:=kH _ _) fun DB nB=>?_
   refine ⟨(),b,8,t',rfl,B',by decide,by decide,by trivial,by trivial,fun r6 t6 J3 r60 r61 _ _ j3 C3=>⟨(),by trivial,by trivial,fun D2 hD2=>gH (n:=r6.toNat) (fun i H' ys=>bP fun (cs:List Nat) (t':Int)=>ys=cs.map (fun c=>aT [c])∧H' D2=some (.lst ys)∧cs.length=i∧(∀c∈cs,97≤c∧c≤122)∧Bx H' b t'∧t6≤t'∧t'≤t6+i∧af (Eb b) J3 H') ?_ ?_ ?_ ?_ ?_ ?_ ?_⟩⟩
   ·rw [sizeLine_eq];trivial
   ·exact ⟨[],t6,rfl,aE,rfl,(fun c h=>by cases h),C3.same (aa.new hD2),by trivial,by trivial,(aa.new hD2).toE⟩
   ·rintro i' H'' ys ⟨cs,t7,rfl,e,rfl,_⟩
    exact ⟨e,by simp⟩
   ·intro i' H'' ys hi' _
    exact hi'
   ·intro H'' ys _
    exact Nat.le_refl _
   ·have nD2:¬D2=b:=fun z=>C3.ne hD2 z.symm
    rintro i' Ha ys x Hb hi' ⟨cs,t7,rfl,g1,g2,g3,g4,g5,g6,g7⟩ ⟨rfl,rfl⟩
    refine ⟨cR,(),(),b,26,t7,rfl,g4,by decide,by decide,by trivial,by trivial,fun r8 t8 Hc r80 r81 _ _ jc Cc=>⟨_,_,(),rfl,hz,sY (by trivial) (by trivial),?_⟩⟩
    have eD:=jc.old D2 _ nD2 g1
    refine ⟨eD,cs++[97+(r8 % 26).toNat],t8,by rw [List.map_append];rfl,aE,by rw [List.length_append,g2];rfl,fun c hc=>?_,?_,by trivial,by trivial,(g7.trans jc).up hD2⟩
    ·rcases List.mem_append.mp hc with h | h
     ·exact g3 c h
     ·rw [List.mem_singleton.mp h];trivial
    have c':Ch Hc D2 (cs.map (fun c=>aT [c])++[aT [97+(r8 % 26).toNat]]) _:=Ch.mk'
    exact Cc.ch c' (Ne.symm nD2)
   rintro J4 ys ⟨cs,t7,rfl,g1,g2,g3,C4,g5,g6,j4⟩
   have e14:J4 D=some (.lst (ls.map aT)):=j4.old D _ nDb (j3.old D _ nDb e1)
   refine ⟨(),.inl ⟨rfl,_,ah.of e14⟩,(),(),(),_,(),rfl,.inl ⟨by decide,by decide⟩,_,(),rfl,_,(),rfl,(by show (0:Int)<26;decide),_,_,(),rfl,hz,sY (by trivial) (by trivial),rfl,(),D2,cs.map (fun c=>[c]),?_,rfl,ah.of (by rw [g1,List.map_map];rfl),?_,?_⟩
   ·rw [show (Str.ofString "")=S [] from DR]
   ·rw [List.map_map]
    have:(cs.map ((fun l:List Nat=>l.length) ∘ fun c=>[c])).sum=cs.length:=by
     clear g1 g2 g3 j4
     induction cs with
     | nil=>rfl
     | cons c r ih=>simp at ih ⊢;trivial
    rw [this];trivial
   have fl:(cs.map (fun c=>[c])).flatten=cs:=by
    clear g1 g2 g3 j4
    induction cs with
    | nil=>rfl
    | cons c r ih=>rw [List.map_cons,List.flatten_cons,ih];rfl
   rw [fl]
   refine ⟨[97+(((f+11*(0+(i:Int))) % 26) % 26).toNat],cs,rfl,rfl,?_,D,_,(),rfl,e14,?_,fun J5 c5=>nB _ _ ?_⟩
   ·simp;trivial
   ·rw [List.length_map];trivial
   have hs5:af (Eb b) H J5:=((s'.trans j3).trans j4).ch c5 m1.fr
   refine ⟨_,_,ls++[[97+(((f+11*(0+(i:Int))) % 26) % 26).toNat]++cs],t7,rfl,?_,?_,?_,C4.ch c5 (Ne.symm nDb),by trivial,by trivial,hs5⟩
   ·rw [c5.at',List.map_append];rfl
   ·rw [List.length_append,e2];rfl
   ·have:=nmi.snoc (cs:=cs) (by trivial) g3
    rw [e2] at this
    exact this
  by_cases c:r=0
  ·rw [decide_eq_true (show V.int r=V.int 0 by rw [c])]
   refine av ⟨(),_,(),rfl,fin _ of_decide_eq_true⟩
  ·rw [decide_eq_false (show ¬V.int r=V.int 0 from fun z=>c (by injection z))]
   exact aO (fin _ fun z=>by cases z)
end
end K54
namespace K54
open PySem L2
set_option maxHeartbeats 4000000
section
variable {P:Program}{w:World}{K:PySem.W.Frag}{mg:Str→Option Value}{base:Heap}
theorem BP {d:Int} (h0:0<d) (h1:d≤1000000):Sz 9000 d:=Sz.mono (m:=40) (by show d.natAbs<1099511627776;trivial) (by decide)
inductive Jj (vs:List V) (H:Hp) (Q:VK):Prop
 | mk (n d:Int) (h0:vs=[.int n,.int d]) (h1:0<d) (h2:Sz 9000 d) (h3:∀p H',Nw H p (fr (KM.low n d)) H'→Q (.ref p) H')
def Kr:Sp:=fun vs H Q _=>Jj  vs H Q
theorem qt (T:Txt K mg):aV P w K mg base CX0 1 T.l_fr_.f T.l_fr_.d ["_law_top", "_law_bottom"] Kr:=by
 refine T.l_fr_.F.ok tw (fun vs H Q E h=>?_) (fun cdv A outer s H vs Q E hr h=>?_)
 ·obtain ⟨n,d,rfl,_⟩:=h
  rfl
 ·obtain ⟨n,d,rfl,hd,hs,k⟩:=h
  have hl:=hs.log (Int.ne_of_gt hd)
  refine ⟨_,#[#[gZ 2 (2) (3) _ _ _ _ _ _ _ _ _ _ _ rfl tw.nd rfl rfl (by decide) iC gu #[[#[(),(),(@ny _),vy,T.b_abs,(@jG),#[[#[0,rM]]]],#[(),(),(@ny _),vy,T.b_abs,(@jG),#[[#[1,j9]]]]]] (by kernel_rfl) (by rfl)] :: #[#[zv 6 PassesOwn.never #[aH 8 (@oO _) #[3,gu] #[()] #[(),()]] #[ac 3 #[gZ 2 (2) (3) _ _ _ _ _ _ _ _ _ _ _ rfl tw.nd rfl rfl (by decide) iC gu #[[#[3,gu],#[aj 8 (@jS _) #[2,iC] #[3,gu]]]] (by kernel_rfl) (by rfl)]]] :: #[#[4,tw.nd,jm,#[fZ 8 #[aH 8 (@oO _) #[1,j9] #[()] #[(),()]] #[2,iC] #[jV 6 (@i6 _) #[2,iC]]]] :: #[ac 3 #[ax 4 #[aD 5 #[[#[aj 8 (@yz _) #[0,rM] #[4,jm]],#[aj 8 (@yz _) #[1,j9] #[4,jm]]]]]]]]]],?_⟩
  refine ⟨(),(),(),(),_,(),?_⟩
  refine ⟨fun m σ H'=>∃a b:Int,σ=[some (.int n),some (.int d),some (.int a),some (.int b),none]∧H'=H∧0≤a∧0≤b∧Int.gcd a b=Int.gcd n d∧m=b.natAbs,⟨_,_,(),rfl,yJ n,yJ d,KM.gcd_abs n d,rfl⟩,?_⟩
  rintro m σ H' ⟨a,b,rfl,rfl,ha,hb,hg,rfl⟩
  refine ⟨(),_,(),rfl,(),?_⟩
  by_cases hb0:0<b
  ·rw [decide_eq_true hb0]
   refine av ⟨fun σ' H''=>∃a' b':Int,σ'=[some (.int n),some (.int d),some (.int a'),some (.int b'),none]∧H''=H'∧0≤a'∧0≤b'∧Int.gcd a' b'=Int.gcd n d∧b'.natAbs<b.natAbs,?_,?_⟩
   ·rintro σ' H'' ⟨a',b',rfl,rfl,h0,h1,h2,h3⟩
    exact ⟨_,h3,a',b',rfl,rfl,h0,h1,h2,rfl⟩
   ·refine ⟨(),(),(),_,(),rfl,hb0,_,(),?_⟩
    have q0:=Int.emod_nonneg a (Int.ne_of_gt hb0)
    have q1:=Int.emod_lt_of_pos a hb0
    exact ⟨b,a % b,rfl,rfl,hb,q0,(KM.gcd_emod a b).trans hg,by trivial⟩
  ·have hb1:b=0:=by trivial
   subst hb1
   rw [decide_eq_false hb0]
   refine aO ?_
   have eg:a=((Int.gcd n d:Nat):Int):=by
    rw [←hg,KM.gcd_zero_abs,if_neg (by trivial)]
   have c1:=Ge (n:=n) (Int.ne_of_gt hd) hl
   rw [←eg] at c1
   refine ⟨(),_,(),rfl,(),?_⟩
   rw [decide_eq_true hd]
   refine av ⟨(),?_⟩
   refine ⟨(),(),_,(),rfl,c1,(),(),_,(),rfl,⟨c1.1,c1.2⟩,(by show 2≤10000;decide),fun p H2 n2=>k p H2 ?_⟩
   unfold KM.low
   rw [if_pos hd,←eg]
   exact n2
theorem ET {a b:Nat}{n d:Int} (h1:n.natAbs<2 ^ a) (h2:d.natAbs<2 ^ b) (h3:1≤d):Gb a b (n,d):=⟨h1,h2,h3⟩
theorem yN {n d:Int}{a c:Nat} (h0:0≤n) (h1:n.natAbs<2 ^ a) (h2:1≤d) (h3:d.natAbs<2 ^ c):Gb a c (KM.low n d)∧0≤(KM.low n d).1∧(1≤n→1≤(KM.low n d).1)∧Int.gcd (KM.low n d).1 (KM.low n d).2=1:=
 ⟨BF h1 h3 (by trivial),Int.not_lt.mp fun z=>by have:=(KM.low_sgn (n:=n) (d:=d) (by trivial)).2.mp z;trivial,fun hn=>(KM.low_sgn (by trivial)).1.mpr (by trivial),(KM.low_spec n d (by trivial)).2.2.1⟩
inductive JW (a c:Nat) (lo:Int) (vs:List V) (H:Hp) (Q:VK):Prop
 | mk (b:Addr) (t:Int) (h0:vs=[.ref b]) (h1:Bx H b t) (h2:0≤t) (h3:t≤900000) (h4:∀(o:Addr) (z:KM.Fra) (t':Int) (H':Hp),af (Eb b) H H'→H' o=some (fr z)→Gb a c z→lo≤z.1→Int.gcd z.1 z.2=1→Bx H' b t'→t≤t'→t'≤t+3→Q (.ref o) H')
def Ey (a c:Nat) (lo:Int):Sp:=fun vs H Q _=>JW a c lo vs H Q
theorem FB (T:Txt K mg):aV P w K mg base CX0 2 T.l_gain_.f T.l_gain_.d ["_law_box_here"] (Ey 6 6 1):=by
 have G_l_take:=#[(gD)]
 have G_l_fr:=#[(qt)]
 refine T.l_gain_.F.ok sO (fun vs H Q E h=>?_) (fun cdv A outer s H vs Q E hr h=>?_)
 ·obtain ⟨b,t,rfl,_⟩:=h
  rfl
 ·obtain ⟨b,t,rfl,B,ht0,ht1,k⟩:=h
  refine ⟨_,#[#[1,sO.nd,kz,#[G_l_take,jY,T.l_take_,#[[#[0,hV],#[()]]]]] :: #[#[bn 8 #[aH 8 (@gJ _) #[1,kz] #[()] #[(),()]] #[ac 3 #[ax 4 #[aD 5 #[[#[()],#[()]]]]]] (@aM _)] :: #[#[2,sO.nd,iu,#[fZ 8 #[aH 8 (@gJ _) #[1,kz] #[()] #[(),()]] #[()] #[()]]] :: #[ac 3 #[ax 4 #[G_l_fr,yc,T.l_fr_,#[[#[aj 8 (@bi _) #[()] #[G_l_take,jY,T.l_take_,#[[#[0,hV],#[2,iu]]]]],#[aj 8 (@bi _) #[()] #[G_l_take,jY,T.l_take_,#[[#[0,hV],#[2,iu]]]]]]]]]]]]],?_⟩
  refine ⟨(),b,8,t,rfl,B,by decide,by decide,ht0,by trivial,fun wy t1 H1 w0 w1 h1a h1b s1 B1=>?_⟩
  refine ⟨(),_,(),rfl,(),cG (fun c=>?_) (fun c=>?_)⟩
  ·exact ⟨(by show 2≤10000;decide),fun o H2 n2=>k o (1,1) t1 H2 (s1.trans n2.sm.toE) n2.at' (ET (by decide) (by decide) (by decide)) (by decide) (by decide) (B1.same n2.sm) (by trivial) (by trivial)⟩
  refine ⟨(),_,(),rfl,(),?_⟩
  refine cG (fun c2=>?_) (fun c2=>?_)
  ·refine ⟨(),(),b,12,t1,rfl,B1,by decide,by decide,by trivial,by trivial,fun r2 t2 H2 a20 a21 _ _ s2 B2=>⟨_,(),rfl,(),(),b,12,t2,rfl,B2,by decide,by decide,by trivial,by trivial,fun r3 t3 H3 a30 a31 _ _ s3 B3=>⟨_,(),rfl,_,(),by trivial,BP (by trivial) (by trivial),fun o H4 n4=>?_⟩⟩⟩
   have L:=yN (n:=1+r2) (d:=1+r3) (a:=6) (c:=6) (by trivial) (by show _<64;trivial) (by trivial) (by show _<64;trivial)
   exact k o _ t3 H4 (((s1.trans s2).trans s3).trans n4.sm.toE) n4.at' L.1 (L.2.2.1 (by trivial)) L.2.2.2 (B3.same n4.sm) (by trivial) (by trivial)
  ·refine ⟨(),(),b,60,t1,rfl,B1,by decide,by decide,by trivial,by trivial,fun r2 t2 H2 a20 a21 _ _ s2 B2=>⟨_,(),rfl,(),(),b,60,t2,rfl,B2,by decide,by decide,by trivial,by trivial,fun r3 t3 H3 a30 a31 _ _ s3 B3=>⟨_,(),rfl,_,(),by trivial,BP (by trivial) (by trivial),fun o H4 n4=>?_⟩⟩⟩
   have L:=yN (n:=1+r2) (d:=1+r3) (a:=6) (c:=6) (by trivial) (by show _<64;trivial) (by trivial) (by show _<64;trivial)
   exact k o _ t3 H4 (((s1.trans s2).trans s3).trans n4.sm.toE) n4.at' L.1 (L.2.2.1 (by trivial)) L.2.2.2 (B3.same n4.sm) (by trivial) (by trivial)
theorem Aa (T:Txt K mg):aV P w K mg base CX0 2 T.l_much_.f T.l_much_.d ["_law_box_here"] (Ey 20 4 0):=by
 have G_l_take:=#[(gD)]
 have G_l_fr:=#[(qt)]
 refine T.l_much_.F.ok xc (fun vs H Q E h=>?_) (fun cdv A outer s H vs Q E hr h=>?_)
 ·obtain ⟨b,t,rfl,_⟩:=h
  rfl
 ·obtain ⟨b,t,rfl,B,ht0,ht1,k⟩:=h
  refine ⟨_,#[#[1,xc.nd,iL,#[G_l_take,jZ,T.l_take_,#[[#[0,ii],#[()]]]]] :: #[#[bn 8 #[aH 8 (@b8 _) #[1,iL] #[()] #[(),()]] #[ac 3 #[ax 4 #[aD 5 #[[#[()],#[()]]]]]] (@aM _)] :: #[#[bn 8 #[aH 8 (@b8 _) #[1,iL] #[()] #[(),()]] #[ac 3 #[ax 4 #[aD 5 #[[#[aj 8 (@yT _) #[()] #[()]],#[()]]]]]] (@aM _)] :: #[ac 3 #[ax 4 #[G_l_fr,x8,T.l_fr_,#[[#[aj 8 (@bi _) #[()] #[G_l_take,jZ,T.l_take_,#[[#[0,ii],#[()]]]]],#[fZ 8 #[aH 8 (@gJ _) #[1,iL] #[()] #[(),()]] #[()] #[aj 8 (@bi _) #[()] #[G_l_take,jZ,T.l_take_,#[[#[0,ii],#[()]]]]]]]]]]]]]],?_⟩
  refine ⟨(),b,8,t,rfl,B,by decide,by decide,ht0,by trivial,fun wy t1 H1 w0 w1 h1a h1b s1 B1=>?_⟩
  refine ⟨(),rfl,(),cG (fun c=>?_) (fun c=>?_)⟩
  ·exact ⟨(by show 2≤10000;decide),fun o H2 n2=>k o (0,1) t1 H2 (s1.trans n2.sm.toE) n2.at' (ET (by decide) (by decide) (by decide)) (by decide) (by decide) (B1.same n2.sm) (by trivial) (by trivial)⟩
  refine ⟨(),rfl,(),cG (fun c'=>?_) (fun c'=>?_)⟩
  ·exact ⟨_,(),rfl,⟨by decide,by decide,by decide⟩,(by show 2≤10000;decide),fun o H2 n2=>k o ((10:Int) ^ (6:Int).toNat,1) t1 H2 (s1.trans n2.sm.toE) n2.at' (ET (by nofun) (by decide) (by decide)) (by nofun) (by nofun) (B1.same n2.sm) (by trivial) (by trivial)⟩
  refine ⟨(),b,30,t1,rfl,B1,by decide,by decide,by trivial,by trivial,fun r2 t2 H2 a20 a21 _ _ s2 B2=>⟨_,(),rfl,(),_,(),rfl,(),cG (fun c2=>?_) (fun c2=>?_)⟩⟩
  ·exact ⟨_,(),by decide,(by exact BP (by decide) (by decide)),fun o H4 n4=>have L:=yN (n:=1+r2) (d:=1) (a:=20) (c:=4) (by trivial) (by show _<1048576;trivial) (by trivial) (by show _<16;decide);k o _ t2 H4 ((s1.trans s2).trans n4.sm.toE) n4.at' L.1 L.2.1 L.2.2.2 (B2.same n4.sm) (by trivial) (by trivial)⟩
  ·exact ⟨(),b,12,t2,rfl,B2,by decide,by decide,by trivial,by trivial,fun r3 t3 H3 a30 a31 _ _ s3 B3=>⟨_,(),rfl,_,(),by trivial,BP (by trivial) (by trivial),fun o H4 n4=>have L:=yN (n:=1+r2) (d:=1+r3) (a:=20) (c:=4) (by trivial) (by show _<1048576;trivial) (by trivial) (by show _<16;trivial);k o _ t3 H4 (((s1.trans s2).trans s3).trans n4.sm.toE) n4.at' L.1 L.2.1 L.2.2.2 (B3.same n4.sm) (by trivial) (by trivial)⟩⟩
theorem Af (T:Txt K mg):aV P w K mg base CX0 2 T.l_cost_.f T.l_cost_.d ["_law_box_here"] (Ey 5 7 0):=by
 have G_l_take:=#[(gD)]
 have G_l_fr:=#[(qt)]
 refine T.l_cost_.F.ok xu (fun vs H Q E h=>?_) (fun cdv A outer s H vs Q E hr h=>?_)
 ·obtain ⟨b,t,rfl,_⟩:=h
  rfl
 ·obtain ⟨b,t,rfl,B,ht0,ht1,k⟩:=h
  refine ⟨_,#[#[1,xu.nd,kO,#[G_l_take,jU,T.l_take_,#[[#[0,ic],#[()]]]]] :: #[#[bn 8 #[aH 8 (@b8 _) #[1,kO] #[()] #[(),()]] #[ac 3 #[ax 4 #[aD 5 #[[#[()],#[()]]]]]] (@aM _)] :: #[ac 3 #[ax 4 #[G_l_fr,xX,T.l_fr_,#[[#[G_l_take,jU,T.l_take_,#[[#[0,ic],#[()]]]],#[aj 8 (@bi _) #[()] #[aj 8 (@fh _) #[G_l_take,jU,T.l_take_,#[[#[0,ic],#[()]]]] #[bA 9 (@iD _) yX T.b_int (@dg) #[[#[bH 8 (@b8 _) #[1,kO] #[()] #[(),()]]]] (by decide) (by decide) (by rfl) (by rfl)]]]]]]]]]],?_⟩
  refine ⟨(),b,4,t,rfl,B,by decide,by decide,ht0,by trivial,fun wy t1 H1 w0 w1 h1a h1b s1 B1=>?_⟩
  refine ⟨(),rfl,(),cG (fun c=>?_) (fun c=>?_)⟩
  ·exact ⟨(by show 2≤10000;decide),fun o H2 n2=>k o (0,1) t1 H2 (s1.trans n2.sm.toE) n2.at' (ET (by decide) (by decide) (by decide)) (by decide) (by decide) (B1.same n2.sm) (by trivial) (by trivial)⟩
  refine ⟨(),b,25,t1,rfl,B1,by decide,by decide,by trivial,by trivial,fun r2 t2 H2 a20 a21 _ _ s2 B2=>⟨(),b,6,t2,rfl,B2,by decide,by decide,by trivial,by trivial,fun r3 t3 H3 a30 a31 _ _ s3 B3=>⟨(),rfl,.inr ⟨(),_,(),rfl,.inl ⟨by trivial,by trivial⟩,_,(),rfl,?_⟩⟩⟩⟩
  obtain ⟨z,ez,hz0,hz1⟩:∃z:Int,1+r3*(if decide (V.int wy=V.int 3)=true then 1 else 0)=z∧1≤z∧z≤100:=by
   by_cases c3:decide (V.int wy=V.int 3)=true
   ·rw [if_pos c3];exact ⟨(),by trivial,by trivial⟩
   ·rw [if_neg c3];exact ⟨(),by trivial,by trivial⟩
  refine ⟨r2,z,?_,by trivial,(by exact BP (by trivial) (by trivial)),fun o H4 n4=>have L:=yN (n:=r2) (d:=z) (a:=5) (c:=7) (by trivial) (by show _<32;trivial) (by trivial) (by show _<128;trivial);k o _ t3 H4 (((s1.trans s2).trans s3).trans n4.sm.toE) n4.at' L.1 L.2.1 L.2.2.2 (B3.same n4.sm) (by trivial) (by trivial)⟩
  rw [←ez]
  rfl
theorem EU (T:Txt K mg):aV P w K mg base CX0 2 T.l_by_.f T.l_by_.d ["_law_one", "_law_other"] (KH KM.lTim false):=by
 have G_l_fr:=#[(qt)]
 refine T.l_by_.F.ok Fu (fun vs H Q E h=>?_) (fun cdv A outer s H vs Q E hr h=>?_)
 ·obtain ⟨a,b,p,q,c1,d1,c2,d2,rfl,_⟩:=h
  rfl
 ·obtain ⟨a,b,p,q,c1,d1,c2,d2,rfl,ha,hb,fp,fq,h1,h2,h3,h4,_,k⟩:=h
  obtain ⟨z1,z2,z3,z4⟩:Sz 4000 p.1∧Sz 4000 p.2∧Sz 4000 q.1∧Sz 4000 q.2:=⟨fp.n.mono h1,fp.d.mono h2,fq.n.mono h3,fq.d.mono h4⟩
  refine ⟨_,#[ac 3 #[ax 4 #[G_l_fr,zV,T.l_fr_,#[[#[aj 8 (@cJ _) #[#[0,r9][#[()]]] #[#[1,qj][#[()]]]],#[aj 8 (@cJ _) #[#[0,r9][#[()]]] #[#[1,qj][#[()]]]]]]]]],?_⟩
  exact ⟨(),a,_,_,(),rfl,ad.of ha,rfl,(),b,_,_,(),rfl,ad.of hb,rfl,_,(),rfl,hW z1 z3,
   _,rfl,a,_,_,_,rfl,rfl,ad.of ha,rfl,_,rfl,b,_,_,_,rfl,rfl,ad.of hb,rfl,_,_,rfl,rfl,hW z2 z4,_,_,rfl,Int.mul_pos (by have:=fp.pos;trivial) (by have:=fq.pos;trivial),ve z2 z4,fun o H' n=>k o H' n⟩
theorem FG (T:Txt K mg):aV P w K mg base CX0 1 T.l_sign_.f T.l_sign_.d ["_law_one", "_law_other"] Fo:=by
 refine T.l_sign_.F.ok BK (fun vs H Q E h=>?_) (fun cdv A outer s H vs Q E hr h=>?_)
 ·obtain ⟨a,b,p,q,rfl,_⟩:=h
  rfl
 ·obtain ⟨a,b,p,q,rfl,ha,hb,z1,z2,z3,z4,k⟩:=h
  refine ⟨_,#[ac 3 #[ax 4 #[aj 8 (@lV _) #[aj 8 (@cJ _) #[#[0,pG][#[()]]] #[#[1,mQ][#[()]]]] #[aj 8 (@cJ _) #[#[1,mQ][#[()]]] #[#[0,pG][#[()]]]]]]],?_⟩
  exact ⟨(),a,_,_,(),rfl,ad.of ha,rfl,(),b,_,_,(),rfl,ad.of hb,rfl,_,(),rfl,hW z1 z4,(),b,_,_,(),rfl,ad.of hb,rfl,(),a,_,_,(),rfl,ad.of ha,rfl,_,(),rfl,hW z3 z2,_,(),rfl,k⟩
end
end K54
namespace K54
open PySem L2
set_option maxHeartbeats 8000000
theorem Ke (i:Int) (es:List Int):EI (.int i) (es.map V.int)=decide (i∈es):=by
 unfold EI
 rw [List.any_map,Bool.eq_iff_iff,List.any_eq_true,decide_eq_true_iff]
 constructor
 ·rintro ⟨x,h1,h2⟩
  have h2':(x==i)=true:=h2
  rw [←eq_of_beq h2']
  exact h1
 ·exact fun h=>⟨i,h,by show (i==i)=true;simp⟩
theorem EF (es:List Int):(es.map V.int).all mC=true:=by
 rw [List.all_map]
 exact List.all_eq_true.mpr fun _ _=>rfl
theorem qT {a b:List Nat}:(aT a=aT b)↔a=b:=⟨fun h=>EQ (by injection h),fun h=>by rw [h]⟩
structure iw where
 bg:List Nat
 en:List Nat
 mo:KM.Fra
 ga:KM.Fra
 pr:KM.Fra
 la:Nat
 op:List Int
structure kE where
 pl:List Nat
 mo:KM.Fra
 ke:KM.Fra
structure kQ where
 pl:List Nat
 ho:Nat
 mo:KM.Fra
 pr:KM.Fra
structure qE where
 pl:List Nat
 ho:Nat
 am:KM.Fra
structure aP where
 pl:List (List Nat)
 hr:Nat
 ts:List iw
 ss:List kE
 ws:List kQ
 wi:List qE
def u5 (x:iw):PyData:=.tuple [.str (S x.bg),.str (S x.en),bJ x.mo,bJ x.ga,bJ x.pr,.int (x.la:Int),.tuple (x.op.map .int)]
def AB (x:kE):PyData:=.tuple [.str (S x.pl),bJ x.mo,bJ x.ke]
def CD (x:kQ):PyData:=.tuple [.str (S x.pl),.int (x.ho:Int),bJ x.mo,bJ x.pr]
def CF (x:qE):PyData:=.tuple [.str (S x.pl),.int (x.ho:Int),bJ x.am]
def pb (d:aP):PyData:=.tuple [.tuple (d.pl.map fun l=>.str (S l)),.int (d.hr:Int),.tuple (d.ts.map u5),.tuple (d.ss.map AB),.tuple (d.ws.map CD),.tuple (d.wi.map CF)]
structure dJ where
 se:List (List KM.Fra)
 ke:List (List KM.Fra)
 dr:List KM.Fra
def aX (ps:List KM.Fra):PyData:=.list (ps.map bJ)
def ki (b:dJ):PyData:=.tuple [.list (b.se.map aX),.list (b.ke.map aX),.list (b.dr.map bJ)]
def Fr (c:Nat) (p:KM.Fra):Prop:=Fb c p.1 p.2
structure qA (d:aP) (x:iw):Prop where
 b:x.bg∈d.pl
 e:x.en∈d.pl
 m:Fr 24 x.mo
 m0:0≤x.mo.1
 g:Fr 24 x.ga
 p:Fr 7 x.pr
 l:x.la≤100
 mg:Gb 20 4 x.mo
 ol:x.op.length≤8
 ob:∀z∈x.op,0≤z∧z<8
structure wN (d:aP) (x:kE):Prop where
 b:x.pl∈d.pl
 m:Fr 24 x.mo
 m0:0≤x.mo.1
 k:Fr 24 x.ke
 mg:Gb 20 4 x.mo
structure yG (d:aP) (x:kQ):Prop where
 b:x.pl∈d.pl
 h:x.ho<d.hr
 m:Fr 24 x.mo
 m0:0≤x.mo.1
 p:Fr 7 x.pr
 mg:Gb 20 4 x.mo
structure yQ (d:aP) (x:qE):Prop where
 b:x.pl∈d.pl
 h:x.ho<d.hr
 a:Fr 24 x.am
structure jy (d:aP):Prop where
 l1:1≤d.hr
 l8:d.hr≤8
 p5:d.pl.length≤5
 nd:d.pl.Nodup
 nm:∀l∈d.pl,yl l
 t8:d.ts.length≤8
 s5:d.ss.length≤5
 w5:d.ws.length≤5
 i7:d.wi.length≤7
 ts:∀x∈d.ts,qA d x
 ss:∀x∈d.ss,wN d x
 ws:∀x∈d.ws,yG d x
 wi:∀x∈d.wi,yQ d x
theorem mq {E:Addr→Prop}{H:Hp}{v:V}{p:KM.Fra} (h:aK E H v (bJ p)):∃a,v=.ref a∧H a=some (fr p):=iU h
theorem EN {E:Addr→Prop}{H:Hp}:∀{ls:List Int}{xs:List V},au E H xs (ls.map .int)→xs=ls.map V.int
 | [],_,h=>by cases h;rfl
 | l :: ls,_,h=>by
  cases h with
  | cons h r=>cases h;rw [EN r];rfl
theorem CY {E:Addr→Prop}{H:Hp}:∀(ls:List Int),au E H (ls.map V.int) (ls.map .int)
 | []=>.nil
 | l :: ls=>.cons (.int _) (CY ls)
theorem lF {H:Hp}{v:V}{x:iw} (h:aK ED H v (u5 x)):Aq fun a m g p o=>v=.ref a∧H a=some (.tup [aT x.bg,aT x.en,.ref m,.ref g,.ref p,.int (x.la:Int),.ref o])∧H m=some (fr x.mo)∧H g=some (fr x.ga)∧H p=some (fr x.pr)∧H o=some (.tup (x.op.map V.int)):=by
 cases h with
 | @tup a xs _ ha r=>
 cases r with
 | cons h1 r=>
 cases r with
 | cons h2 r=>
 cases r with
 | cons h3 r=>
 cases r with
 | cons h4 r=>
 cases r with
 | cons h5 r=>
 cases r with
 | cons h6 r=>
 cases r with
 | cons h7 r=>
 cases r
 cases h1
 cases h2
 cases h6
 obtain ⟨m,rfl,hm⟩:=mq h3
 obtain ⟨g,rfl,hg⟩:=mq h4
 obtain ⟨p,rfl,hp⟩:=mq h5
 cases h7 with
 | @tup o _ _ ho ro=>
 rw [EN ro] at ho
 exact ⟨a,m,g,p,o,rfl,ha,hm,hg,hp,ho⟩
theorem pU {H:Hp}{v:V}{x:kE} (h:aK ED H v (AB x)):fP fun a m k=>v=.ref a∧H a=some (.tup [aT x.pl,.ref m,.ref k])∧H m=some (fr x.mo)∧H k=some (fr x.ke):=by
 cases h with
 | @tup a xs _ ha r=>
 cases r with
 | cons h1 r=>
 cases r with
 | cons h2 r=>
 cases r with
 | cons h3 r=>
 cases r
 cases h1
 obtain ⟨m,rfl,hm⟩:=mq h2
 obtain ⟨k,rfl,hk⟩:=mq h3
 exact ⟨a,m,k,rfl,ha,hm,hk⟩
theorem sT {H:Hp}{v:V}{x:kQ} (h:aK ED H v (CD x)):fP fun a m p=>v=.ref a∧H a=some (.tup [aT x.pl,.int (x.ho:Int),.ref m,.ref p])∧H m=some (fr x.mo)∧H p=some (fr x.pr):=by
 cases h with
 | @tup a xs _ ha r=>
 cases r with
 | cons h1 r=>
 cases r with
 | cons h2 r=>
 cases r with
 | cons h3 r=>
 cases r with
 | cons h4 r=>
 cases r
 cases h1
 cases h2
 obtain ⟨m,rfl,hm⟩:=mq h3
 obtain ⟨p,rfl,hp⟩:=mq h4
 exact ⟨a,m,p,rfl,ha,hm,hp⟩
theorem C1 {H:Hp}{v:V}{x:qE} (h:aK ED H v (CF x)):bP fun a m=>v=.ref a∧H a=some (.tup [aT x.pl,.int (x.ho:Int),.ref m])∧H m=some (fr x.am):=by
 cases h with
 | @tup a xs _ ha r=>
 cases r with
 | cons h1 r=>
 cases r with
 | cons h2 r=>
 cases r with
 | cons h3 r=>
 cases r
 cases h1
 cases h2
 obtain ⟨m,rfl,hm⟩:=mq h3
 exact ⟨a,m,rfl,ha,hm⟩
structure EV (H:Hp) (v:V) (d:aP) (a p t st wl wi:Addr) (ts ss ws is:List V):Prop where
 ev:v=.ref a
 ha:H a=some (.tup [.ref p,.int (d.hr:Int),.ref t,.ref st,.ref wl,.ref wi])
 hp:H p=some (.tup (d.pl.map aT))
 ht:H t=some (.tup ts)
 hs:H st=some (.tup ss)
 hw:H wl=some (.tup ws)
 hi:H wi=some (.tup is)
 at_:au ED H ts (d.ts.map u5)
 as_:au ED H ss (d.ss.map AB)
 aw:au ED H ws (d.ws.map CD)
 ai:au ED H is (d.wi.map CF)
theorem g9 {H:Hp}{v:V}{d:aP} (h:aK ED H v (pb d)):Lg fun a p t st wl wi ts ss ws is=>EV H v d a p t st wl wi ts ss ws is:=by
 cases h with
 | @tup a xs _ ha r=>
 cases r with
 | cons h1 r=>
 cases r with
 | cons h2 r=>
 cases r with
 | cons h3 r=>
 cases r with
 | cons h4 r=>
 cases r with
 | cons h5 r=>
 cases r with
 | cons h6 r=>
 cases r
 cases h2
 cases h1 with
 | @tup p _ _ hp rp=>
 cases h3 with
 | @tup t ts _ ht rt=>
 cases h4 with
 | @tup st ss _ hs rs=>
 cases h5 with
 | @tup wl ws _ hw rw_=>
 cases h6 with
 | @tup wi is _ hi ri=>
 rw [yM rp] at hp
 exact ⟨a,p,t,st,wl,wi,ts,ss,ws,is,rfl,ha,hp,ht,hs,hw,hi,rt,rs,rw_,ri⟩
theorem dl {α:Type}{f:α→PyData}{H:Hp}{zs:List V}{ts:List α}{i:Nat}{y:V} (h:au ED H zs (ts.map f)) (e:zs[i]?=some y):∃x,ts[i]?=some x∧x∈ts∧aK ED H y (f x):=by
 obtain ⟨d,ed,hd⟩:=h.get e
 rw [List.getElem?_map] at ed
 obtain ⟨x,ex,rfl⟩:=Option.map_eq_some_iff.mp ed
 exact ⟨x,ex,List.mem_of_getElem? ex,hd⟩
section
variable {P:Program}{w:World}{K:PySem.W.Frag}{mg:Str→Option Value}{base:Heap}
inductive FM (vs:List V) (H:Hp) (Q:VK):Prop
 | mk (dv tv:V) (d:aP) (x:iw) (h:Nat) (h0:vs=[dv,tv,.int (h:Int)]) (h1:aK ED H dv (pb d)) (h2:aK ED H tv (u5 x)) (h3:Q (.bl (decide ((h:Int)∈x.op) && decide (h+x.la<d.hr))) H)
def C5:Sp:=fun vs H Q _=>FM  vs H Q
theorem Fl (T:Txt K mg):aV P w K mg base CX0 1 T.may_send_.f T.may_send_.d ["day", "tie", "hour"] C5:=by
 refine T.may_send_.F.ok zQ (fun vs H Q E h=>?_) (fun cdv A outer s H vs Q E hr h=>?_)
 ·obtain ⟨dv,tv,d,x,h,rfl,_⟩:=h
  rfl
 ·obtain ⟨dv,tv,d,x,h,rfl,hd,ht,k⟩:=h
  refine ⟨_,#[ac 3 #[ax 4 #[gB 7 #[bH 8 (@Iu _ (K) (by rfl)) #[2,oM] #[#[1,qd][#[()]]] rfl] #[gW 5 #[bH 8 (@gJ _) #[aj 8 (@bi _) #[2,oM] #[#[1,qd][#[()]]]] #[#[0,vE][#[()]]] #[(),()]]]]]],?_⟩
  obtain ⟨a,p,t,st,wl,wi,ts,ss,ws,is,D⟩:=g9 hd
  obtain ⟨ta,m,g,pr,o,rfl,hta,_,_,_,ho⟩:=lF ht
  cases D.ev
  refine ⟨(),(),ta,_,_,(),rfl,ad.of hta,rfl,o,(),.inr (ad.of ho),rfl,EF _,(),?_⟩
  simp only [if_true,Ke]
  by_cases hm:(h:Int)∈x.op
  ·rw [decide_eq_true hm] at k ⊢
   refine av ⟨(),(),ta,_,_,(),rfl,ad.of hta,rfl,_,(),rfl,(),a,_,_,(),rfl,ad.of D.ha,rfl,_,(),rfl,?_⟩
   have e:decide ((h:Int)+(x.la:Int)<(d.hr:Int))=(true && decide (h+x.la<d.hr)):=by
    rw [Bool.true_and]
    by_cases q:h+x.la<d.hr
    ·rw [decide_eq_true q];exact decide_eq_true (by trivial)
    ·rw [decide_eq_false q];exact decide_eq_false (by trivial)
   exact Eq.mp (congrArg (fun b=>Q (.bl b) H) e.symm) k
  ·rw [decide_eq_false hm] at k ⊢
   exact aO k
theorem AE (T:Txt K mg):aV P w K mg base CX0 1 T.l_may_.f T.l_may_.d ["_law_day_here", "_law_row", "_law_hour"] C5:=by
 refine T.l_may_.F.ok Dy (fun vs H Q E h=>?_) (fun cdv A outer s H vs Q E hr h=>?_)
 ·obtain ⟨dv,tv,d,x,h,rfl,_⟩:=h
  rfl
 ·obtain ⟨dv,tv,d,x,h,rfl,hd,ht,k⟩:=h
  refine ⟨_,#[ac 3 #[ax 4 #[gB 7 #[bH 8 (@Iu _ (K) (by rfl)) #[2,qc] #[#[1,qO][#[()]]] rfl] #[gW 5 #[bH 8 (@gJ _) #[aj 8 (@bi _) #[2,qc] #[#[1,qO][#[()]]]] #[#[0,rT][#[()]]] #[(),()]]]]]],?_⟩
  obtain ⟨a,p,t,st,wl,wi,ts,ss,ws,is,D⟩:=g9 hd
  obtain ⟨ta,m,g,pr,o,rfl,hta,_,_,_,ho⟩:=lF ht
  cases D.ev
  refine ⟨(),(),ta,_,_,(),rfl,ad.of hta,rfl,o,(),.inr (ad.of ho),rfl,EF _,(),?_⟩
  simp only [if_true,Ke]
  by_cases hm:(h:Int)∈x.op
  ·rw [decide_eq_true hm] at k ⊢
   refine av ⟨(),(),ta,_,_,(),rfl,ad.of hta,rfl,_,(),rfl,(),a,_,_,(),rfl,ad.of D.ha,rfl,_,(),rfl,?_⟩
   have e:decide ((h:Int)+(x.la:Int)<(d.hr:Int))=(true && decide (h+x.la<d.hr)):=by
    rw [Bool.true_and]
    by_cases q:h+x.la<d.hr
    ·rw [decide_eq_true q];exact decide_eq_true (by trivial)
    ·rw [decide_eq_false q];exact decide_eq_false (by trivial)
   exact Eq.mp (congrArg (fun b=>Q (.bl b) H) e.symm) k
  ·rw [decide_eq_false hm] at k ⊢
   exact aO k
end
end K54
namespace K54
open PySem L2
set_option maxHeartbeats 8000000
def jC (p:KM.Fra):KM.Fra:=(-p.1,p.2)
theorem Fr.neg {c:Nat}{p:KM.Fra} (h:Fr c p):Fr c (jC p):=by
 obtain ⟨a,b,q,g⟩:=(show Fb c p.1 p.2 from h)
 exact ⟨by show (-p.1).natAbs<_;rw [Int.natAbs_neg];exact a,b,q,by show Int.gcd (-p.1) p.2=1;rw [Int.neg_gcd];exact g⟩
theorem Fr.add {a b c:Nat}{p q:KM.Fra} (h:Fr a p) (k:Fr b q) (l:a+b+1≤c):Fr c (KM.ladd p q):=Fb.add' h k l
theorem Fr.tim {a b c:Nat}{p q:KM.Fra} (h:Fr a p) (k:Fr b q) (l:a+b≤c):Fr c (KM.lTim p q):=Fb.tim' h k l
theorem Fr.mono {a b:Nat}{p:KM.Fra} (h:Fr a p) (l:a≤b):Fr b p:=Fb.mono h l
theorem Fr.rd {c:Nat}{p:KM.Fra} (h:Fr c p):KM.Rd p:=LD h
theorem Fr.gb {c:Nat}{p:KM.Fra} (h:Fr c p):Gb c c p:=⟨h.sn,h.sd,h.pos⟩
section
variable {P:Program}{w:World}{K:PySem.W.Frag}{mg:Str→Option Value}{base:Heap}
inductive Fn (vs:List V) (H:Hp) (Q:VK):Prop
 | mk (o1 o2:Addr) (p q:KM.Fra) (c e:Nat) (g:Bool) (h0:vs=[.ref o1,.ref o2,.int (if g then 1 else -1)]) (h1:H o1=some (fr p)) (h2:H o2=some (fr q)) (h3:Fr c p) (h4:Fr e q) (h5:c+e≤4000) (h6:∀o H',Nw H o (fr (KM.ladd p (if g then q else jC q))) H'→Q (.ref o) H')
def IG:Sp:=fun vs H Q _=>Fn  vs H Q
theorem Ak (T:Txt K mg):aV P w K mg base CX0 2 T.l_plus_.f T.l_plus_.d ["_law_one", "_law_other", "_law_by_here"] IG:=by
 have G_l_fr:=#[(qt)]
 refine T.l_plus_.F.ok BY (fun vs H Q E h=>?_) (fun cdv A outer s H vs Q E hr h=>?_)
 ·obtain ⟨o1,o2,p,q,c,e,g,rfl,_⟩:=h
  rfl
 ·obtain ⟨o1,o2,p,q,c,e,g,rfl,h1,h2,fp,fq,hce,k⟩:=h
  refine ⟨_,#[ac 3 #[ax 4 #[G_l_fr,yf,T.l_fr_,#[[#[aj 8 (@bi _) #[aj 8 (@cJ _) #[#[0,kG][#[()]]] #[#[1,jl][#[()]]]] #[aj 8 (@cJ _) #[aj 8 (@cJ _) #[2,rN] #[#[1,jl][#[()]]]] #[#[0,kG][#[()]]]]],#[aj 8 (@cJ _) #[#[0,kG][#[()]]] #[#[1,jl][#[()]]]]]]]]],?_⟩
  have z1:Sz 4000 p.1:=fp.sn.mono (by trivial)
  have z2:Sz 4000 p.2:=fp.sd.mono (by trivial)
  have z3:Sz 4000 q.1:=fq.sn.mono (by trivial)
  have z4:Sz 4000 q.2:=fq.sd.mono (by trivial)
  have hp:0<p.2*q.2:=Int.mul_pos (by have:=fp.pos;trivial) (by have:=fq.pos;trivial)
  have zb:∀b:Bool,Sz 4000 (if b then (1:Int) else -1):=fun b=>by
   have:(if b then (1:Int) else -1).natAbs=1:=by cases b <;> rfl
   show (if b then (1:Int) else -1).natAbs<2 ^ 4000
   rw [this]
   exact Nat.one_lt_two_pow (by decide)
  have zq:Sz 4000 ((if g then (1:Int) else -1)*q.1):=by
   have:((if g then (1:Int) else -1)*q.1).natAbs=q.1.natAbs:=by cases g <;> simp
   show ((if g then (1:Int) else -1)*q.1).natAbs<2 ^ 4000
   rw [this]
   exact z3
  refine ⟨(),o1,_,_,(),rfl,ad.of h1,rfl,(),o2,_,_,(),rfl,ad.of h2,rfl,_,(),rfl,hW z1 z4,(),(),o2,_,_,(),rfl,ad.of h2,rfl,_,(),rfl,hW (zb g) z3,(),o1,_,_,(),rfl,ad.of h1,rfl,_,(),rfl,hW zq z2,_,(),rfl,(),o1,_,_,(),rfl,ad.of h1,rfl,(),o2,_,_,(),rfl,ad.of h2,rfl,_,(),rfl,hW z2 z4,_,(),hp,ve z2 z4,fun o H' n=>k o H' ?_⟩
  have e:KM.low (p.1*q.2+(if g then (1:Int) else -1)*q.1*p.2) (p.2*q.2)=KM.ladd p (if g then q else jC q):=by
   cases g
   ·show KM.low (p.1*q.2+-1*q.1*p.2) (p.2*q.2)=KM.low (p.1*q.2+-q.1*p.2) (p.2*q.2)
    rw [Int.neg_one_mul]
   ·show KM.low (p.1*q.2+1*q.1*p.2) (p.2*q.2)=KM.low (p.1*q.2+q.1*p.2) (p.2*q.2)
    rw [Int.one_mul]
  rw [←e]
  exact n
end
end K54
namespace K54
open PySem L2
set_option maxHeartbeats 8000000
theorem lN {n:Nat} (h:n≤1000):((n:Int)).natAbs.log2<9000:=Nat.lt_of_le_of_lt (Nat.log2_le_self _) (by trivial)
theorem tx {a c:Nat}{z:KM.Fra} (h:Gb a c z) (g:Int.gcd z.1 z.2=1) {e:Nat} (h1:a≤e) (h2:c≤e):Fr e z:=⟨h.n.mono h1,h.d.mono h2,h.pos,g⟩
def pd (ls:List (List Nat)):aP:=⟨ls,0,[],[],[],[]⟩
section
variable {P:Program}{w:World}{K:PySem.W.Frag}{mg:Str→Option Value}{base:Heap}
inductive E8 (vs:List V) (H:Hp) (Q:VK):Prop
 | mk (b nl:Addr) (t:Int) (ls:List (List Nat)) (hr:Nat) (h0:vs=[.ref b,.ref nl,.int (hr:Int)]) (h1:Bx H b t) (h2:0≤t) (h3:t≤800000) (h4:H nl=some (.lst (ls.map aT))) (h5:nl≠b) (h6:2≤ls.length) (h7:ls.length≤10) (h8:hr≤8) (h9:∀v x t' H',af (Eb b) H H'→aK ED H' v (u5 x)→qA (pd ls) x→Bx H' b t'→t≤t'→t'≤t+40→Q v H')
def Hk:Sp:=fun vs H Q _=>E8  vs H Q
theorem Bm (T:Txt K mg):aV P w K mg base CX0 3 T.l_day_tie_.f T.l_day_tie_.d ["_law_box_here", "_law_names_here", "_law_hours"] Hk:=by
 have G_l_take:=#[(gD)]
 have G_l_much:=#[(Aa)]
 have G_l_gain:=#[(FB)]
 have G_l_cost:=#[(Af)]
 refine T.l_day_tie_.F.ok fc (fun vs H Q E h=>?_) (fun cdv A outer s H vs Q E hr h=>?_)
 ·obtain ⟨b,nl,t,ls,hr',rfl,_⟩:=h
  rfl
 ·obtain ⟨b,nl,t,ls,hr',rfl,B,ht0,ht1,hn,nnb,l2,l10,lh,k⟩:=h
  refine ⟨_,#[#[gZ 2 (3) (4) _ _ _ _ _ _ _ _ _ _ _ rfl fc.nd rfl rfl (by decide) i0 iI #[[#[G_l_take,eC,T.l_take_,#[[#[0,bC],#[(),(),(@d9 _ (K) (by rfl)),oJ,T.b_len,(@bh),#[[#[1,dk]]]]]]],#[(),(),(@d9 _ (K) (by rfl)),oJ,T.b_len,(@bh),#[[#[1,dk]]]]]] (by kernel_rfl) (by rfl)] :: #[#[5,fc.nd,ku,#[aj 8 (@jS _) #[aj 8 (@bi _) #[aj 8 (@bi _) #[3,i0] #[()]] #[G_l_take,eC,T.l_take_,#[[#[0,bC],#[aj 8 (@lV _) #[4,iI] #[()]]]]]] #[4,iI]]] :: #[#[gZ 2 (6) (7) _ _ _ _ _ _ _ _ _ _ _ rfl fc.nd rfl rfl (by decide) lu lD #[[#[#[bG 4 #[[#[()],#[()],#[()],#[()],#[()],#[2,kj]]]][#[G_l_take,eC,T.l_take_,#[[#[0,bC],#[()]]]]]!],#[G_l_take,eC,T.l_take_,#[[#[0,bC],#[()]]]]]] (by kernel_rfl) (by rfl)] :: #[#[8,fc.nd,ib,#[bG 4 (@bE _)]] :: #[#[cN 8 PassesOwn.never rfl #[b9 6 tU T.b_range #[[#[2,kj]]] (by rfl)] #[9,fc.nd,ln] #[ac 3 #[bn 8 #[PW.pt 3 #[gh 7 #[aH 8 (@oO _) #[7,lD] #[()] #[(),()]] #[gr 4 #[aH 8 (@b8 _) #[G_l_take,eC,T.l_take_,#[[#[0,bC],#[()]]]] #[()] #[(),()]]]]] #[ac 3 #[fF 4 (@eM _ (K) _ _ _ _ _ _ _ _ _ _ _ PySem.F.plainAttrs_list PySem.F.slot_list_append PySem.F.type_list_append (@eh _) #[8,ib] #[[#[9,ln]]] (by rfl) (by rfl) (by rfl) (by rfl) (by rfl) (by rfl)) (by rfl)]] (@aM _)]] (by intro _;rfl)] :: #[#[10,fc.nd,mj,#[aD 5 #[[#[#[1,dk][#[3,i0]]!],#[#[1,dk][#[5,ku]]!],#[G_l_much,sF,T.l_much_,#[[#[0,bC]]]],#[G_l_gain,rO,T.l_gain_,#[[#[0,bC]]]],#[G_l_cost,sv,T.l_cost_,#[[#[0,bC]]]]]]]] :: #[ac 3 #[ax 4 #[aj 8 (@Er _) #[10,mj] #[aD 5 #[[#[6,lu],#[bA 9 (@dO _ (K) (by rfl)) tO T.b_tuple (@bN) #[[#[8,ib]]] (by decide) (by decide) (by rfl) (by rfl)]]]]]]]]]]]]],?_⟩
  have ll:(ls.map aT).length=ls.length:=List.length_map ..
  refine DD fun Q0 n0=>⟨(),(),nl,(),.inl (ah.of hn),b,_,t,rfl,B,by trivial,lN (by trivial),by trivial,by trivial,fun j t1 H1 j0 j1 h1a h1b s1 B1=>⟨(),nl,(),.inl (ah.of (s1.old _ _ nnb hn)),n0 _ _ _ ?_⟩⟩
  obtain ⟨j,rfl⟩:=Int.eq_ofNat_of_zero_le j0
  have hn1:=s1.old _ _ nnb hn
  have hj:j<ls.length:=by trivial
  refine kK fun Q1 n1=>⟨(),_,(),rfl,(),(),_,(),rfl,b,_,t1,rfl,B1,by trivial,?_,by trivial,by trivial,fun g t2 H2 g0 g1 h2a h2b s2 B2=>⟨_,(),rfl,(),_,(),rfl,by trivial,n1 _ _ ?_⟩⟩
  ·rw [ll,show ((ls.length:Nat):Int) - 1=((ls.length - 1:Nat):Int) by trivial]
   exact lN (by trivial)
  obtain ⟨jo,ejo,hjo⟩:∃n:Nat,((j:Int)+1+g) % (((ls.map aT).length:Nat):Int)=(n:Int)∧n<ls.length:=⟨(((j:Int)+1+g) % (((ls.map aT).length:Nat):Int)).toNat,by
   rw [Int.toNat_of_nonneg (Int.emod_nonneg _ (by trivial))],by
   have h1:=Int.emod_nonneg ((j:Int)+1+g) (show (((ls.map aT).length:Nat):Int)≠0 by trivial)
   have h2:=Int.emod_lt_of_pos ((j:Int)+1+g) (show 0<(((ls.map aT).length:Nat):Int) by trivial)
   trivial⟩
  have hn2:=s2.old _ _ nnb hn1
  refine DD fun Q2 n2=>⟨(),(by show 6≤10000;decide),fun p3 H3 m3=>⟨(),b,6,t2,rfl,B2.same m3.sm,by decide,by decide,by trivial,by trivial,fun x t4 H4 x0 x1 h4a h4b s4 B4=>?_⟩⟩
  have n3b:p3≠b:=fun e=>B2.th (e▸m3.fr)
  obtain ⟨la,ela,hla⟩:∃la:Nat,ko [V.int 0,.int 0,.int 1,.int 1,.int 2,.int (hr':Int)] x=some (.int (la:Int))∧la≤8:=by
   rcases (show x=0∨x=1∨x=2∨x=3∨x=4∨x=5 by trivial) with rfl | rfl | rfl | rfl | rfl | rfl
   ·exact ⟨0,rfl,by trivial⟩
   ·exact ⟨0,rfl,by trivial⟩
   ·exact ⟨1,rfl,by trivial⟩
   ·exact ⟨1,rfl,by trivial⟩
   ·exact ⟨2,rfl,by trivial⟩
   ·exact ⟨hr',rfl,lh⟩
  refine ⟨p3,_,_,(),rfl,ah.of (s4.old _ _ n3b m3.at'),ela,(),b,3,t4,rfl,B4,by decide,by decide,by trivial,by trivial,fun y t5 H5 y0 y1 h5a h5b s5 B5=>n2 _ _ _ ?_⟩
  have s25:af (Eb b) H2 H5:=(m3.sm.toE.trans s4).trans s5
  have s05:af (Eb b) H H5:=(s1.trans s2).trans s25
  have hn5:=s25.old _ _ nnb hn2
  refine bF fun D6 n6=>⟨(by show 0≤10000;decide),fun L H6 m6=>n6 _ _ ?_⟩
  have nLb:L≠b:=fun e=>B5.th (e▸m6.fr)
  have fL:H L=none:=s05.none nLb m6.fr
  have nnL:nl≠L:=fun e=>by
   have z:=m6.fr
   rw [←e,hn5] at z
   cases z
  refine bF fun D7 n7=>⟨(),(),by trivial,by trivial,iF (fun i σ H'=>xF fun (v9 v10:Option V) (op:List Int) (t':Int)=>σ=[some (.ref b),some (.ref nl),some (.int (hr':Int)),some (.int (j:Int)),some (.int (((ls.map aT).length:Nat):Int)),some (.int (((j:Int)+1+g) % (((ls.map aT).length:Nat):Int))),some (.int (la:Int)),some (.int y),some (.ref L),v9,v10]∧H' L=some (.lst (op.map V.int))∧(op.length≤i∧∀z∈op,0≤z∧z<8)∧Bx H' b t'∧t5≤t'∧t'≤t5+i∧af (Eb b) H H'∧H' nl=some (.lst (ls.map aT))) ⟨_,_,[],t5,rfl,m6.at',⟨Nat.le_refl _,fun z hz=>by cases hz⟩,B5.same m6.sm,by trivial,by trivial,s05.trans m6.sm.toE,m6.sm _ _ hn5⟩ ?_ ?_⟩
  ·rintro i σ J hi ⟨v9,v10,op,t6,rfl,hL,⟨lo,lq⟩,BJ,h6a,h6b,sJ,hnJ⟩
   have hi8:i<8:=by trivial
   refine lf (t:=Di _ _ _) fun DB nB=>?_
   have app:∀J1 t7,Bx J1 b t7→t6≤t7→t7≤t6+1→af (Eb b) H J1→J1 L=some (.lst (op.map V.int))→J1 nl=some (.lst (ls.map aT))→∀J2,Ch J1 L (op.map V.int++[.int (0+(i:Int))]) J2→DB.nx [some (.ref b),some (.ref nl),some (.int (hr':Int)),some (.int (j:Int)),some (.int (((ls.map aT).length:Nat):Int)),some (.int (((j:Int)+1+g) % (((ls.map aT).length:Nat):Int))),some (.int (la:Int)),some (.int y),some (.ref L),some (.int (0+(i:Int))),v10] J2:=fun J1 t7 B1 ha hb s1 hL1 hn1 J2 c2=>by
    refine nB _ _ ⟨_,_,op++[0+(i:Int)],t7,rfl,by rw [c2.at',List.map_append];rfl,⟨by simp;trivial,fun z hz=>(List.mem_append.mp hz).elim (lq z) fun h=>by rw [List.mem_singleton.mp h];trivial⟩,B1.ch c2 (Ne.symm nLb),by trivial,by trivial,s1.ch c2 fL,c2.ol _ _ nnL hn1⟩
   have go:∀J1 t7,Bx J1 b t7→t6≤t7→t7≤t6+1→af (Eb b) H J1→J1 L=some (.lst (op.map V.int))→J1 nl=some (.lst (ls.map aT))→DB.nx [some (.ref b),some (.ref nl),some (.int (hr':Int)),some (.int (j:Int)),some (.int (((ls.map aT).length:Nat):Int)),some (.int (((j:Int)+1+g) % (((ls.map aT).length:Nat):Int))),some (.int (la:Int)),some (.int y),some (.ref L),some (.int (0+(i:Int))),v10] J1:=fun J1 t7 B1 ha hb s1 hL1 hn1=>
    nB _ _ ⟨_,_,op,t7,rfl,hL1,⟨by trivial,lq⟩,B1,by trivial,by trivial,s1,hn1⟩
   refine ⟨(),_,(),rfl,(),cG (fun c=>⟨(),.inl ⟨rfl,_,ah.of hL⟩,(),L,_,(),rfl,hL,by rw [List.length_map];trivial,fun J2 c2=>app J t6 BJ (by trivial) (by trivial) sJ hL hnJ J2 c2⟩) fun c=>⟨(),b,2,t6,rfl,BJ,by decide,by decide,by trivial,by trivial,fun z t7 J1 z0 z1 h7a h7b s7 B7=>⟨rfl,(),cG (fun c=>⟨(),.inl ⟨rfl,_,ah.of (s7.old _ _ nLb hL)⟩,(),L,_,(),rfl,s7.old _ _ nLb hL,by rw [List.length_map];trivial,fun J2 c2=>app J1 t7 B7 (by trivial) (by trivial) (sJ.trans s7) (s7.old _ _ nLb hL) (s7.old _ _ nnb hnJ) J2 c2⟩) fun c=>go J1 t7 B7 (by trivial) (by trivial) (sJ.trans s7) (s7.old _ _ nLb hL) (s7.old _ _ nnb hnJ)⟩⟩⟩
  rintro σ J ⟨v9,v10,op,t6,rfl,hL,⟨lo,lq⟩,BJ,h6a,h6b,sJ,hnJ⟩
  refine n7 _ _ ?_
  have lo8:op.length≤8:=by trivial
  have e1:(ls.map aT)[j]?=some (aT ls[j]):=by rw [List.getElem?_map,List.getElem?_eq_getElem hj];rfl
  have e2:(ls.map aT)[jo]?=some (aT ls[jo]):=by rw [List.getElem?_map,List.getElem?_eq_getElem hjo];rfl
  have lt6:t6≤t5+8:=by trivial
  refine kK fun Q8 n8=>⟨(),(),nl,_,_,(),rfl,ah.of hnJ,eN e1,(),(),nl,_,_,(),rfl,ah.of hnJ,by rw [ejo];exact eN e2,(),b,t6,rfl,BJ,by trivial,by trivial,fun o1 z1 t7 J1 s7 ho1 g1' l1 c1 B7 h7a h7b=>⟨(),b,t7,rfl,B7,by trivial,by trivial,fun o2 z2 t8 J2 s8 ho2 g2' l2' c2 B8 h8a h8b=>⟨(),b,t8,rfl,B8,by trivial,by trivial,fun o3 z3 t9 J3 s9 ho3 g3' l3 c3 B9 h9a h9b=>⟨(by show 5≤10000;decide),fun q4 J4 m4=>n8 _ _ ?_⟩⟩⟩⟩
  have s14:af (Eb b) J1 J4:=(s8.trans s9).trans m4.sm.toE
  have s24:af (Eb b) J2 J4:=s9.trans m4.sm.toE
  have s04:af (Eb b) J J4:=s7.trans s14
  refine ⟨(),(),(),L,(),ah.of (s04.old _ _ nLb hL),fun q5 J5 m5=>⟨(by show 2≤10000;decide),fun q6 J6 m6'=>⟨q4,q6,_,(),rfl,(m5.sm.trans m6'.sm) _ _ m4.at',m6'.at',(by show 5+2≤10000;decide),fun q7 J7 s7' h7'=>?_⟩⟩⟩
  have s47:aa J4 J7:=(m5.sm.trans m6'.sm).trans s7'
  have h7':J7 q7=some (.tup [aT ls[j],aT ls[jo],.ref o1,.ref o2,.ref o3,.int (la:Int),.ref q5]):=h7'
  let xx:iw:=⟨ls[j],ls[jo],z1,z2,z3,la,op⟩
  refine k _ xx t9 J7 (sJ.trans (s04.trans s47.toE)) ?_ ⟨List.getElem_mem hj,List.getElem_mem hjo,tx g1' c1 (by decide) (by decide),l1,tx g2' c2 (by decide) (by decide),tx g3' c3 (by decide) (by decide),by show la≤100;trivial,g1',lo8,lq⟩ ((B9.same m4.sm).same s47) (by trivial) (by trivial)
  exact .tup h7' (.cons (.str _) (.cons (.str _) (.cons (km (s47 _ _ (s14.tup _ _ ho1))) (.cons (km (s47 _ _ (s24.tup _ _ ho2))) (.cons (km (s47 _ _ (m4.sm _ _ ho3))) (.cons (.int _) (.cons (.tup ((m6'.sm.trans s7') _ _ m5.at') (CY _)) .nil)))))))
end
end K54
namespace K54
open PySem L2
set_option maxHeartbeats 16000000
def kL (H:Hp) (a:Addr) (ds:List PyData):Prop:=∃xs,H a=some (.lst xs)∧au ED H xs ds
theorem kL.keep {E:Addr→Prop}{H H':Hp}{a:Addr}{ds:List PyData} (h:kL H a ds) (s:af E H H') (n:¬E a):kL H' a ds:=by
 obtain ⟨xs,h1,h2⟩:=h
 exact ⟨xs,s.old _ _ n h1,h2.mono (hU s.tup)⟩
theorem kL.app {H H':Hp}{a:Addr}{ds:List PyData}{xs:List V}{v:V}{d:PyData} (hx:H a=some (.lst xs)) (ha:au ED H xs ds) (hv:aK ED H v d) (c:Ch H a (xs++[v]) H'):kL H' a (ds++[d]):=
 ⟨_,c.at',(ha.append (.cons hv .nil)).mono (hU fun b us e=>c.tup e hx)⟩
theorem vN {H H':Hp}{a:Addr}{xs ys:List V} (hx:H a=some (.lst ys)) (c:Ch H a xs H'):af (fun b=>b=a) H H':=⟨fun b o n h=>c.ol b o n h,fun b us h=>c.tup h hx⟩
theorem xP {α β:Type} (f:α→β) (l:List α) (j:Nat):(l.map f).eraseIdx j=(l.eraseIdx j).map f:=(xB f l j).symm
theorem ue {E:Addr→Prop}{H:Hp}:∀(n:Nat) {xs:List V}{ds:List PyData},au E H xs ds→au E H (xs.take n) (ds.take n)
 | 0,_,_,_=>.nil
 | n+1,_,_,.nil=>.nil
 | n+1,_,_,.cons h r=>.cons h (ue n r)
theorem qA.of {d e:aP}{x:iw} (h:qA d x) (q:d.pl=e.pl):qA e x:=⟨q▸h.b,q▸h.e,h.m,h.m0,h.g,h.p,h.l,h.mg,h.ol,h.ob⟩
theorem wN.of {d e:aP}{x:kE} (h:wN d x) (q:d.pl=e.pl):wN e x:=⟨q▸h.b,h.m,h.m0,h.k,h.mg⟩
theorem yG.of {d e:aP}{x:kQ} (h:yG d x) (q:d.pl=e.pl) (r:d.hr=e.hr):yG e x:=⟨q▸h.b,r▸h.h,h.m,h.m0,h.p,h.mg⟩
theorem yQ.of {d e:aP}{x:qE} (h:yQ d x) (q:d.pl=e.pl) (r:d.hr=e.hr):yQ e x:=⟨q▸h.b,r▸h.h,h.a⟩
structure Dw (H0:Hp) (b nl L6 L7 L8 L9:Addr) (ls:List (List Nat)) (ts:List iw) (ss:List kE) (ws:List kQ) (wi:List qE) (t:Int) (H:Hp):Prop where
 se:af (Eb b) H0 H
 bx:Bx H b t
 nl:H nl=some (.lst (ls.map aT))
 a6:kL H L6 (ts.map u5)
 a7:kL H L7 (ss.map AB)
 a8:kL H L8 (ws.map CD)
 a9:kL H L9 (wi.map CF)
structure Ds (H0:Hp) (b nl L6 L7 L8 L9:Addr):Prop where
 nb:nl≠b∧L6≠b∧L7≠b∧L8≠b∧L9≠b
 n6:nl≠L6∧L7≠L6∧L8≠L6∧L9≠L6
 n7:nl≠L7∧L8≠L7∧L9≠L7
 n8:nl≠L8∧L9≠L8
 n9:nl≠L9
 f:H0 L6=none∧H0 L7=none∧H0 L8=none∧H0 L9=none
section
variable {H0:Hp}{b nl L6 L7 L8 L9:Addr}{ls:List (List Nat)}{ts:List iw}{ss:List kE}{ws:List kQ}{wi:List qE}{t t':Int}{H H':Hp}
theorem Dw.box (d:Dw H0 b nl L6 L7 L8 L9 ls ts ss ws wi t H) (n:Ds H0 b nl L6 L7 L8 L9) (s:af (Eb b) H H') (B:Bx H' b t'):Dw H0 b nl L6 L7 L8 L9 ls ts ss ws wi t' H':=
 ⟨d.se.trans s,B,s.old _ _ n.nb.1 d.nl,d.a6.keep s n.nb.2.1,d.a7.keep s n.nb.2.2.1,d.a8.keep s n.nb.2.2.2.1,d.a9.keep s n.nb.2.2.2.2⟩
theorem Dw.sm (d:Dw H0 b nl L6 L7 L8 L9 ls ts ss ws wi t H) (n:Ds H0 b nl L6 L7 L8 L9) (s:aa H H'):Dw H0 b nl L6 L7 L8 L9 ls ts ss ws wi t H':=d.box n s.toE (d.bx.same s)
theorem pY {a:Addr} (s:af (Eb b) H0 H) (f:H0 a=none) (c:af (fun x=>x=a) H H'):af (Eb b) H0 H':=
 ⟨fun x o n h=>c.old x o (fun e=>by rw [e,f] at h;cases h) (s.old x o n h),fun x us h=>c.tup _ _ (s.tup _ _ h)⟩
end
section
variable {P:Program}{w:World}{K:PySem.W.Frag}{mg:Str→Option Value}{base:Heap}
inductive Gk (vs:List V) (H:Hp) (Q:VK):Prop
 | mk (b:Addr) (t:Int) (h0:vs=[.ref b]) (h1:Bx H b t) (h2:0≤t) (h3:t≤700000) (h4:∀v d t' H',af (Eb b) H H'→aK ED H' v (pb d)→jy d→d.ws.length≤4→d.wi.length≤6→1≤d.ws.length→Bx H' b t'→t≤t'→t'≤t+1500→Q v H')
def GO:Sp:=fun vs H Q _=>Gk  vs H Q
theorem FS (T:Txt K mg):aV P w K mg base CX0 4 T.l_day_.f T.l_day_.d ["_law_box_here"] GO:=by
 have G_l_take:=#[(gD)]
 have G_l_much:=#[(Aa)]
 have G_l_cost:=#[(Af)]
 have G_l_fr:=#[(qt)]
 have G_l_names:=#[(C9)]
 have G_l_day_tie:=#[(Bm)]
 refine T.l_day_.F.ok bR (fun vs H Q E h=>?_) (fun cdv A outer s H vs Q E hr h=>?_)
 ·obtain ⟨b,t,rfl,_⟩:=h
  rfl
 ·obtain ⟨b,t,rfl,B,ht0,ht1,k⟩:=h
  refine ⟨_,#[#[Gf 2 (1) (2) (3) _ _ _ _ _ _ _ _ _ _ _ _ _ _ rfl bR.nd rfl rfl rfl (by decide) (by decide) (by decide) dc cY cI #[[#[G_l_take,aW,T.l_take_,#[[#[0,aF],#[()]]]],#[aj 8 (@bi _) #[()] #[G_l_take,aW,T.l_take_,#[[#[0,aF],#[()]]]]],#[aj 8 (@bi _) #[()] #[G_l_take,aW,T.l_take_,#[[#[0,aF],#[()]]]]]]] (by kernel_rfl) (by rfl)] :: #[#[4,bR.nd,ie,#[()]] :: #[#[bn 8 #[aH 8 (@b8 _) #[1,dc] #[()] #[(),()]] #[ac 3 #[dH 6 #[aD 5 #[[#[()],#[()]]]] (@br _ (K) _ _ _ _ (2) rfl #[ak 5 #[2,bR.nd,cY] #[ak 5 #[3,bR.nd,cI] (@bI _) (by rfl)] (by rfl)] (by rfl) (by rfl) (by rfl)) (by rfl) (by rfl) (by rfl)]] #[ac 3 #[bn 8 #[aH 8 (@gJ _) #[1,dc] #[()] #[(),()]] #[ac 3 #[2,bR.nd,cY,#[()]]] #[ac 3 #[bn 8 #[aH 8 (@gJ _) #[1,dc] #[()] #[(),()]] #[ac 3 #[gZ 2 (3) (4) _ _ _ _ _ _ _ _ _ _ _ rfl bR.nd rfl rfl (by decide) cI ie #[[#[aj 8 (@bi _) #[()] #[G_l_take,aW,T.l_take_,#[[#[0,aF],#[()]]]]],#[()]]] (by kernel_rfl) (by rfl)]] #[ac 3 #[bn 8 #[aH 8 (@b8 _) #[1,dc] #[()] #[(),()]] #[ac 3 #[3,bR.nd,cI,#[()]]] (@aM _)]]]]]]] :: #[#[dH 6 #[aD 5 #[[#[G_l_names,uY,T.l_names_,#[[#[0,aF],#[2,cY]]]],#[bG 4 (@bE _)],#[bG 4 (@bE _)],#[bG 4 (@bE _)],#[bG 4 (@bE _)]]]] (@br _ (K) _ _ _ _ (5) rfl #[ak 5 #[5,bR.nd,cA] #[ak 5 #[6,bR.nd,kB] #[ak 5 #[7,bR.nd,jn] #[ak 5 #[8,bR.nd,j7] #[ak 5 #[9,bR.nd,jt] (@bI _) (by rfl)] (by rfl)] (by rfl)] (by rfl)] (by rfl)] (by rfl) (by rfl) (by rfl)) (by rfl) (by rfl) (by rfl)] :: #[#[cN 8 PassesOwn.never rfl #[b9 6 jf T.b_range #[[#[aj 8 (@fh _) #[aj 8 (@bi _) #[aj 8 (@bi _) #[()] #[G_l_take,aW,T.l_take_,#[[#[0,aF],#[4,ie]]]]] #[aj 8 (@fh _) #[()] #[bA 9 (@iD _) kY T.b_int (@dg) #[[#[bH 8 (@b8 _) #[1,dc] #[()] #[(),()]]]] (by decide) (by decide) (by rfl) (by rfl)]]] #[bA 9 (@iD _) kY T.b_int (@dg) #[[#[bH 8 (@oO _) #[2,cY] #[()] #[(),()]]]] (by decide) (by decide) (by rfl) (by rfl)]]]] (by rfl)] #[10,bR.nd,kZ] #[ac 3 #[fF 4 (@eM _ (K) _ _ _ _ _ _ _ _ _ _ _ PySem.F.plainAttrs_list PySem.F.slot_list_append PySem.F.type_list_append (@eh _) #[6,kB] #[[#[G_l_day_tie,tS,T.l_day_tie_,#[[#[0,aF],#[5,cA],#[3,cI]]]]]] (by rfl) (by rfl) (by rfl) (by rfl) (by rfl) (by rfl)) (by rfl)]] (by intro _;rfl)] :: #[#[11,bR.nd,kW,#[bA 9 (@eY _ (K) (by rfl)) yO T.b_list (@b4) #[[#[5,cA]]] (by decide) (by decide) (by rfl) (by rfl)]] :: #[#[cN 8 PassesOwn.never rfl #[b9 6 jf T.b_range #[[#[(),(),(@BM _ rfl),zR,T.b_min,(@AN),#[[#[2,cY],#[aj 8 (@bi _) #[G_l_take,aW,T.l_take_,#[[#[0,aF],#[()]]]] #[aj 8 (@fh _) #[()] #[bA 9 (@iD _) kY T.b_int (@dg) #[[#[bH 8 (@b8 _) #[1,dc] #[()] #[(),()]]]] (by decide) (by decide) (by rfl) (by rfl)]]]]]]]] (by rfl)] #[10,bR.nd,kZ] #[#[12,bR.nd,pJ,#[#[bG 4 #[[#[aD 5 #[[#[()],#[()]]]],#[aD 5 #[[#[()],#[()]]]],#[aD 5 #[[#[()],#[()]]]],#[aD 5 #[[#[()],#[()]]]],#[G_l_fr,sW,T.l_fr_,#[[#[G_l_take,aW,T.l_take_,#[[#[0,aF],#[()]]]],#[()]]]]]]][#[G_l_take,aW,T.l_take_,#[[#[0,aF],#[()]]]]]!]] :: #[ac 3 #[fF 4 (@eM _ (K) _ _ _ _ _ _ _ _ _ _ _ PySem.F.plainAttrs_list PySem.F.slot_list_append PySem.F.type_list_append (@eh _) #[7,jn] #[[#[aD 5 #[[(@eM _ (K) _ _ _ _ _ _ _ _ _ _ _ PySem.F.plainAttrs_list PySem.F.slot_list_pop PySem.F.type_list_pop (@Gi _) #[11,kW] #[[#[G_l_take,aW,T.l_take_,#[[#[0,aF],#[(),(),(@d9 _ (K) (by rfl)),zW,T.b_len,(@bh),#[[#[11,kW]]]]]]]]] (by rfl) (by rfl) (by rfl) (by rfl) (by rfl) (by rfl)),#[G_l_much,qo,T.l_much_,#[[#[0,aF]]]],#[12,pJ]]]]]] (by rfl) (by rfl) (by rfl) (by rfl) (by rfl) (by rfl)) (by rfl)]]] (by intro _;rfl)] :: #[#[cN 8 PassesOwn.never rfl #[b9 6 jf T.b_range #[[#[aj 8 (@bi _) #[()] #[G_l_take,aW,T.l_take_,#[[#[0,aF],#[()]]]]]]] (by rfl)] #[10,bR.nd,kZ] #[#[gZ 2 (13) (14) _ _ _ _ _ _ _ _ _ _ _ rfl bR.nd rfl rfl (by decide) oK pV #[[#[#[5,cA][#[G_l_take,aW,T.l_take_,#[[#[0,aF],#[2,cY]]]]]!],#[G_l_take,aW,T.l_take_,#[[#[0,aF],#[3,cI]]]]]] (by kernel_rfl) (by rfl)] :: #[ac 3 #[fF 4 (@eM _ (K) _ _ _ _ _ _ _ _ _ _ _ PySem.F.plainAttrs_list PySem.F.slot_list_append PySem.F.type_list_append (@eh _) #[8,j7] #[[#[aD 5 #[[#[13,oK],#[14,pV],#[G_l_much,qo,T.l_much_,#[[#[0,aF]]]],#[G_l_cost,wp,T.l_cost_,#[[#[0,aF]]]]]]]]] (by rfl) (by rfl) (by rfl) (by rfl) (by rfl) (by rfl)) (by rfl)]]] (by intro _;rfl)] :: #[#[cN 8 PassesOwn.never rfl #[b9 6 jf T.b_range #[[#[aj 8 (@bi _) #[G_l_take,aW,T.l_take_,#[[#[0,aF],#[()]]]] #[aj 8 (@fh _) #[()] #[bA 9 (@iD _) kY T.b_int (@dg) #[[#[bH 8 (@b8 _) #[1,dc] #[()] #[(),()]]]] (by decide) (by decide) (by rfl) (by rfl)]]]]] (by rfl)] #[10,bR.nd,kZ] #[#[15,bR.nd,nj,#[G_l_fr,sW,T.l_fr_,#[[#[aj 8 (@bi _) #[()] #[G_l_take,aW,T.l_take_,#[[#[0,aF],#[()]]]]],#[aj 8 (@bi _) #[()] #[G_l_take,aW,T.l_take_,#[[#[0,aF],#[()]]]]]]]]] :: #[ac 3 #[fF 4 (@eM _ (K) _ _ _ _ _ _ _ _ _ _ _ PySem.F.plainAttrs_list PySem.F.slot_list_append PySem.F.type_list_append (@eh _) #[9,jt] #[[#[aD 5 #[[#[#[5,cA][#[G_l_take,aW,T.l_take_,#[[#[0,aF],#[2,cY]]]]]!],#[G_l_take,aW,T.l_take_,#[[#[0,aF],#[3,cI]]]],#[15,nj]]]]]] (by rfl) (by rfl) (by rfl) (by rfl) (by rfl) (by rfl)) (by rfl)]]] (by intro _;rfl)] :: #[ac 3 #[ax 4 #[aD 5 #[[#[bA 9 (@dO _ (K) (by rfl)) gY T.b_tuple (@bN) #[[#[5,cA]]] (by decide) (by decide) (by rfl) (by rfl)],#[3,cI],#[bA 9 (@dO _ (K) (by rfl)) gY T.b_tuple (@bN) #[[#[cn 10 (@qH _ (K) (by rfl)) #[6,kB] (@dq _) #[cj 3 #[()]]]]] (by decide) (by decide) (by rfl) (by rfl)],#[bA 9 (@dO _ (K) (by rfl)) gY T.b_tuple (@bN) #[[#[7,jn]]] (by decide) (by decide) (by rfl) (by rfl)],#[bA 9 (@dO _ (K) (by rfl)) gY T.b_tuple (@bN) #[[#[8,j7]]] (by decide) (by decide) (by rfl) (by rfl)],#[bA 9 (@dO _ (K) (by rfl)) gY T.b_tuple (@bN) #[[#[9,jt]]] (by decide) (by decide) (by rfl) (by rfl)]]]]]]]]]]]]]]],?_⟩
  refine bF fun D0 n0=>⟨(),b,16,t,rfl,B,by decide,by decide,by trivial,by trivial,fun kd t1 H1 kd0 kd1 h1a h1b s1 B1=>⟨(),b,2,t1,rfl,B1,by decide,by decide,by trivial,by trivial,fun x1 t2 H2 x10 x11 h2a h2b s2 B2=>⟨_,(),rfl,(),b,3,t2,rfl,B2,by decide,by decide,by trivial,by trivial,fun x2 t3 H3 x20 x21 h3a h3b s3 B3=>⟨_,(),rfl,_,_,(),n0 _ _ ?_⟩⟩⟩⟩
  have s03:af (Eb b) H H3:=(s1.trans s2).trans s3
  obtain ⟨mn,emn,mn1,mn3⟩:∃n:Nat,2+x1=(n:Int)∧2≤n∧n≤3:=⟨(2+x1).toNat,by trivial,by trivial,by trivial⟩
  obtain ⟨hn,ehn,hn1,hn4⟩:∃n:Nat,2+x2=(n:Int)∧2≤n∧n≤4:=⟨(2+x2).toNat,by trivial,by trivial,by trivial⟩
  refine bF fun D1 n1=>n1 _ _ ?_
  refine Bn (fun σ' H'=>∃(many hours mo:Nat) (t':Int) (v10 v11 v12 v13 v14 v15 v5 v6 v7 v8 v9:Option V),σ'=[some (.ref b),some (.int kd),some (.int (many:Int)),some (.int (hours:Int)),some (.int (mo:Int)),v5,v6,v7,v8,v9,v10,v11,v12,v13,v14,v15]∧1≤many∧many≤5∧1≤hours∧hours≤8∧1≤mo∧mo≤4∧af (Eb b) H H'∧Bx H' b t'∧t3≤t'∧t'≤t3+1) ?_ fun rest=>?_
  case refine_2=>
   refine ⟨(),rfl,(),cG (fun c=>⟨(by show 2≤10000;decide),fun p H4 m4=>⟨p,(),ad.of m4.at',rfl,_,(),_,(),rfl,rest _ _ ⟨5,2,4,t3,_,_,_,_,_,_,_,_,_,_,(),by trivial,by trivial,by trivial,by trivial,by trivial,by trivial,s03.trans m4.sm.toE,B3.same m4.sm,by trivial,by trivial⟩⟩⟩) fun c=>?_⟩
   refine ⟨(),_,(),rfl,(),cG (fun c=>rest _ _ ⟨1,hn,4,t3,_,_,_,_,_,_,_,_,_,_,_,(by rw [←ehn];rfl),by trivial,by trivial,by trivial,by trivial,by trivial,by trivial,s03,B3,by trivial,by trivial⟩) fun c=>?_⟩
   refine ⟨(),_,(),rfl,(),cG (fun c=>⟨(),b,4,t3,rfl,B3,by decide,by decide,by trivial,by trivial,fun x3 t4 H4 x30 x31 h4a h4b s4 B4=>⟨_,(),rfl,_,(),?_⟩⟩) fun c=>?_⟩
   ·obtain ⟨hh,ehh,hh1,hh8⟩:∃n:Nat,5+x3=(n:Int)∧1≤n∧n≤8:=⟨(5+x3).toNat,by trivial,by trivial,by trivial⟩
    exact rest _ _ ⟨mn,hh,2,t4,_,_,_,_,_,_,_,_,_,_,_,(by rw [←emn,←ehh];rfl),by trivial,by trivial,by trivial,by trivial,by trivial,by trivial,s03.trans s4,B4,by trivial,by trivial⟩
   refine ⟨(),rfl,(),cG (fun c=>rest _ _ ⟨mn,1,4,t3,_,_,_,_,_,_,_,_,_,_,_,(by rw [←emn];rfl),by trivial,by trivial,by trivial,by trivial,by trivial,by trivial,s03,B3,by trivial,by trivial⟩) fun c=>rest _ _ ⟨mn,hn,4,t3,_,_,_,_,_,_,_,_,_,_,_,(by rw [←emn,←ehn];rfl),by trivial,by trivial,by trivial,by trivial,by trivial,by trivial,s03,B3,by trivial,by trivial⟩⟩
  rintro σ' H4 ⟨many,hours,mo,t4,v10,v11,v12,v13,v14,v15,v5,v6,v7,v8,v9,rfl,mn1',mn5,hr1,hr8,mo1,mo4,s04,B4,h4a,h4b⟩
  refine bF fun D2 n2=>⟨(),(),b,(many:Int),t4,rfl,B4,by trivial,by trivial,by trivial,by trivial,fun nl ls t5 H5 fnl s5 hnl lls nm nd B5 h5a h5b=>⟨(by show 0≤10000;decide),fun L6 H6 m6=>⟨(by show 0≤10000;decide),fun L7 H7 m7=>⟨(by show 0≤10000;decide),fun L8 H8 m8=>⟨(by show 0≤10000;decide),fun L9 H9 m9=>⟨(by show 5≤10000;decide),fun q Ha ma=>⟨q,(),ad.of ma.at',rfl,_,(),_,(),_,(),_,(),_,(),rfl,n2 _ _ ?_⟩⟩⟩⟩⟩⟩⟩
  have nn:nl≠b:=fun e=>B4.th (e▸fnl)
  have s45:af (Eb b) H4 H5:=s5
  have B9:Bx H9 b t5:=(((B5.same m6.sm).same m7.sm).same m8.sm).same m9.sm
  have s5a:aa H5 Ha:=(((m6.sm.trans m7.sm).trans m8.sm).trans m9.sm).trans ma.sm
  have fr5:∀{L:Addr},H5 L=none→H L=none:=fun {L} f=>(s04.trans s5).none (fun e=>B5.th (e▸f)) f
  have f6:=m6.fr
  have f7:H5 L7=none:=m6.sm.free m7.fr
  have f8:H5 L8=none:=(m6.sm.trans m7.sm).free m8.fr
  have f9:H5 L9=none:=((m6.sm.trans m7.sm).trans m8.sm).free m9.fr
  have neN:∀{G:Hp}{x y:Addr}{o:HO},G x=some o→G y=none→x≠y:=fun h f e=>by rw [e,f] at h;cases h
  have ds:Ds H b nl L6 L7 L8 L9:=⟨⟨nn,fun e=>B5.th (e▸f6),fun e=>B5.th (e▸f7),fun e=>B5.th (e▸f8),fun e=>B5.th (e▸f9)⟩,⟨neN hnl f6,Ne.symm (neN m6.at' m7.fr),Ne.symm (neN (m7.sm _ _ m6.at') m8.fr),Ne.symm (neN ((m7.sm.trans m8.sm) _ _ m6.at') m9.fr)⟩,⟨neN hnl f7,Ne.symm (neN m7.at' m8.fr),Ne.symm (neN (m8.sm _ _ m7.at') m9.fr)⟩,⟨neN hnl f8,Ne.symm (neN m8.at' m9.fr)⟩,neN hnl f9,fr5 f6,fr5 f7,fr5 f8,fr5 f9⟩
  have ll:(ls.map aT).length=many:=by rw [List.length_map,lls];trivial
  have lls':ls.length=many:=by rw [lls];trivial
  have dw0:Dw H b nl L6 L7 L8 L9 ls [] [] [] [] t5 Ha:=⟨(s04.trans s5).trans s5a.toE,B9.same ma.sm,s5a _ _ hnl,⟨[],(((m7.sm.trans m8.sm).trans m9.sm).trans ma.sm) _ _ m6.at',.nil⟩,⟨[],((m8.sm.trans m9.sm).trans ma.sm) _ _ m7.at',.nil⟩,⟨[],(m9.sm.trans ma.sm) _ _ m8.at',.nil⟩,⟨[],ma.sm _ _ m9.at',.nil⟩⟩
  have if01:∀c:Bool,0≤(if c=true then (1:Int) else 0)∧(if c=true then (1:Int) else 0)≤1:=fun c=>by cases c <;> decide
  refine bF fun D3 n3=>⟨(),(),b,(mo:Int),t5,rfl,dw0.bx,by trivial,lN (by trivial),by trivial,by trivial,fun x3 t6 Hb x30 x31 h6a h6b s6 B6=>?_⟩
  obtain ⟨N3,eN3,hN3,hN2⟩:∃N:Nat,(1+x3+7*(if decide (V.int kd=V.int 0)=true then (1:Int) else 0))*(if decide ((many:Int) > 1)=true then (1:Int) else 0)=(N:Int)∧N≤11∧(2≤many∨N=0):=by
   have e1:=if01 (decide (V.int kd=V.int 0))
   by_cases hm:(many:Int) > 1
   ·refine ⟨(1+x3+7*(if decide (V.int kd=V.int 0)=true then (1:Int) else 0)).toNat,?_,by trivial,.inl (by trivial)⟩
    rw [decide_eq_true hm,if_pos rfl,Int.mul_one]
    trivial
   ·refine ⟨0,?_,by trivial,.inr rfl⟩
    rw [decide_eq_false hm,if_neg Bool.false_ne_true,Int.mul_zero]
    rfl
  have e1k:=if01 (decide (V.int kd=V.int 0))
  refine ⟨_,(),rfl,(),rfl,.inr ⟨(),_,(),rfl,.inl ⟨by decide,by decide⟩,_,(),rfl,(),_,(),rfl,.inr ⟨(),_,(),rfl,.inl ⟨by trivial,by trivial⟩,(N3:Int),congrArg (fun z=>[V.int z]) eN3,by trivial,by trivial,?_⟩⟩⟩
  have dw1:=dw0.box ds s6 B6
  refine iF (fun i σ H'=>CP fun (v10 v11 v12 v13 v14 v15:Option V) (ts:List iw) (t':Int)=>σ=[some (.ref b),some (.int kd),some (.int (many:Int)),some (.int (hours:Int)),some (.int (mo:Int)),some (.ref nl),some (.ref L6),some (.ref L7),some (.ref L8),some (.ref L9),v10,v11,v12,v13,v14,v15]∧Dw H b nl L6 L7 L8 L9 ls ts [] [] [] t' H'∧ts.length=i∧(∀x∈ts,qA (pd ls) x)∧t6≤t'∧t'≤t6+40*i) ⟨_,_,_,_,_,_,[],t6,rfl,dw1,rfl,(fun _ h=>nomatch h),by trivial,by trivial⟩ ?_ ?_
  ·rintro i σ J hi ⟨v10,v11,v12,v13,v14,v15,ts,t7,rfl,dw,lt,gt,h7a,h7b⟩
   have hi11:i<11:=by trivial
   obtain ⟨xs,h6,a6⟩:=id dw.a6
   have lx:=a6.length
   rw [List.length_map] at lx
   refine ⟨(),.inl ⟨rfl,_,ah.of h6⟩,(),(),(),b,nl,t7,ls,hours,rfl,dw.bx,by trivial,by trivial,dw.nl,ds.nb.1,by trivial,by trivial,hr8,fun v x t8 J1 s8 dx gx B8 h8a h8b=>?_⟩
   have dw8:=dw.box ds s8 B8
   have h6':=s8.old _ _ ds.nb.2.1 h6
   refine ⟨L6,xs,v,rfl,rfl,h6',by trivial,fun J2 c2=>⟨_,_,_,_,_,_,ts++[x],t8,rfl,?_,by simp [lt],fun y hy=>?_,by trivial,by trivial⟩⟩
   ·have cE:=vN h6' c2
    refine ⟨pY dw8.se ds.f.1 cE,dw8.bx.ch c2 (Ne.symm ds.nb.2.1),cE.old _ _ ds.n6.1 dw8.nl,?_,dw8.a7.keep cE ds.n6.2.1,dw8.a8.keep cE ds.n6.2.2.1,dw8.a9.keep cE ds.n6.2.2.2⟩
    rw [List.map_append]
    exact kL.app h6' (a6.mono (hU s8.tup)) dx c2
   ·rcases List.mem_append.mp hy with h | h
    ·exact gt y h
    ·rw [List.mem_singleton.mp h];exact gx
  rintro σ J ⟨v10,v11,v12,v13,v14,v15,ts,t7,rfl,dw2,lt,gt,h7a,h7b⟩
  refine n3 _ _ ?_
  have t7b:t7≤t6+440:=by trivial
  refine kK fun Q4 n4=>⟨(),nl,(),.inl (ah.of dw2.nl),fun Lb Jb mb=>n4 _ _ ?_⟩
  have nLb:Lb≠b:=fun e=>dw2.bx.th (e▸mb.fr)
  have nL7:Lb≠L7:=by
   obtain ⟨_,h,_⟩:=dw2.a7
   exact Ne.symm (neN h mb.fr)
  have nL6:Lb≠L6:=by
   obtain ⟨_,h,_⟩:=dw2.a6
   exact Ne.symm (neN h mb.fr)
  have nL8:Lb≠L8:=by
   obtain ⟨_,h,_⟩:=dw2.a8
   exact Ne.symm (neN h mb.fr)
  have nL9:Lb≠L9:=by
   obtain ⟨_,h,_⟩:=dw2.a9
   exact Ne.symm (neN h mb.fr)
  have nLn:Lb≠nl:=Ne.symm (neN dw2.nl mb.fr)
  have fLb:H Lb=none:=dw2.se.none nLb mb.fr
  have dw3:=dw2.sm ds mb.sm
  refine bF fun D5 n5=>⟨(),(),b,3,t7,rfl,dw3.bx,by decide,by decide,by trivial,by trivial,fun x4 t8 Hc x40 x41 h8a h8b s8 B8=>?_⟩
  obtain ⟨N4,eN4,hN4⟩:∃N:Nat,(if x4+2*(if decide (V.int kd=V.int 0)=true then (1:Int) else 0)<(many:Int) then x4+2*(if decide (V.int kd=V.int 0)=true then (1:Int) else 0) else (many:Int))=(N:Int)∧N≤many:=by
   by_cases hc:x4+2*(if decide (V.int kd=V.int 0)=true then (1:Int) else 0)<(many:Int)
   ·exact ⟨(x4+2*(if decide (V.int kd=V.int 0)=true then (1:Int) else 0)).toNat,by rw [if_pos hc];trivial,by trivial⟩
   ·exact ⟨many,by rw [if_neg hc],Nat.le_refl _⟩
  refine ⟨(),rfl,.inr ⟨(),_,(),rfl,.inl ⟨by decide,by decide⟩,_,(),rfl,_,(),(N4:Int),congrArg (fun z=>[V.int z]) eN4,by trivial,by trivial,?_⟩⟩
  have dw4:=dw3.box ds s8 B8
  refine iF (fun i σ H'=>CP fun (v10 v12 v13 v14 v15:Option V) (ss:List kE) (rem:List (List Nat)) (t':Int)=>σ=[some (.ref b),some (.int kd),some (.int (many:Int)),some (.int (hours:Int)),some (.int (mo:Int)),some (.ref nl),some (.ref L6),some (.ref L7),some (.ref L8),some (.ref L9),v10,some (.ref Lb),v12,v13,v14,v15]∧Dw H b nl L6 L7 L8 L9 ls ts ss [] [] t' H'∧H' Lb=some (.lst (rem.map aT))∧rem.length=many - i∧(∀l∈rem,l∈ls)∧ss.length=i∧(∀x∈ss,wN (pd ls) x)∧t8≤t'∧t'≤t8+20*i) ⟨_,_,_,_,_,[],ls,t8,rfl,dw4,s8.old _ _ nLb mb.at',by trivial,(fun l h=>h),rfl,(fun _ h=>nomatch h),by trivial,by trivial⟩ ?_ ?_
  ·rintro i σ J1 hi ⟨v10,v12,v13,v14,v15,ss,rem,t9,rfl,dw,hR,lr,sr,lss,gs,h9a,h9b⟩
   have hi5:i<5:=by trivial
   have him:i<many:=by trivial
   have lr':(rem.map aT).length=many - i:=by rw [List.length_map,lr]
   refine lf (t:=kH _ _) fun DB nB=>?_
   refine kK fun Qk nk=>⟨(by show 2≤10000;decide),fun o1 G1 k1=>⟨(by show 2≤10000;decide),fun o2 G2 k2=>⟨(by show 2≤10000;decide),fun o3 G3 k3=>⟨(by show 2≤10000;decide),fun o4 G4 k4=>?_⟩⟩⟩⟩
   have s14:aa J1 G4:=((k1.sm.trans k2.sm).trans k3.sm).trans k4.sm
   have B4':=dw.bx.same s14
   refine ⟨(),b,13,t9,rfl,B4',by decide,by decide,by trivial,by trivial,fun y1 ta G5 y10 y11 haa hab sa Ba=>⟨_,(),by decide,(show (12:Int).natAbs<2 ^ 9000 from Nat.lt_trans (by decide) (Nat.pow_lt_pow_right (by decide) (show 4<9000 by decide))),fun o5 G6 k6=>⟨(by show 5≤10000;decide),fun ol G7 k7=>⟨(),b,5,ta,rfl,(Ba.same k6.sm).same k7.sm,by decide,by decide,by trivial,by trivial,fun y2 tb G8 y20 y21 hba hbb sb Bb=>?_⟩⟩⟩⟩
   have nol:ol≠b:=fun e=>(Ba.same k6.sm).th (e▸k7.fr)
   have s58:af (Eb b) G4 G8:=((sa.trans k6.sm.toE).trans k7.sm.toE).trans sb
   have f12:Fr 24 (KM.low y1 12):=Fb.low (by show y1.natAbs<2 ^ 24;trivial) (by show (12:Int).natAbs<2 ^ 24;decide) (by decide)
   obtain ⟨ok,pk,eok,hok,fk⟩:bP fun (ok:Addr) (pk:KM.Fra)=>ko [V.ref o1,.ref o2,.ref o3,.ref o4,.ref o5] y2=some (.ref ok)∧G8 ok=some (fr pk)∧Fr 24 pk:=by
    have q1:G8 o1=some (fr (1,1)):=s58.tup _ _ (((k2.sm.trans k3.sm).trans k4.sm) _ _ k1.at')
    have q2:G8 o2=some (fr (1,2)):=s58.tup _ _ ((k3.sm.trans k4.sm) _ _ k2.at')
    have q3:G8 o3=some (fr (0,1)):=s58.tup _ _ (k4.sm _ _ k3.at')
    have q4:G8 o4=some (fr (9,10)):=s58.tup _ _ k4.at'
    have q5:G8 o5=some (fr (KM.low y1 12)):=sb.tup _ _ (k7.sm _ _ k6.at')
    rcases (show y2=0∨y2=1∨y2=2∨y2=3∨y2=4 by trivial) with rfl | rfl | rfl | rfl | rfl
    ·exact ⟨o1,(),q1,Fb.small (by decide) (by decide) (by decide) (by decide)⟩
    ·exact ⟨o2,(),q2,Fb.small (by decide) (by decide) (by decide) (by decide)⟩
    ·exact ⟨o3,(),q3,Fb.small (by decide) (by decide) (by decide) (by decide)⟩
    ·exact ⟨o4,(),q4,Fb.small (by decide) (by decide) (by decide) (by decide)⟩
    ·exact ⟨o5,(),q5,f12⟩
   refine ⟨ol,_,_,(),rfl,ah.of (sb.old _ _ nol k7.at'),eok,nk _ _ ?_⟩
   have s18:af (Eb b) J1 G8:=s14.toE.trans s58
   have dw8:=dw.box ds s18 Bb
   have hR8:=s18.old _ _ nLb hR
   obtain ⟨zs,h7,a7⟩:=id dw8.a7
   have lz:=a7.length
   rw [List.length_map] at lz
   refine ⟨(),.inl ⟨rfl,_,ah.of h7⟩,(),.inl ⟨rfl,_,ah.of hR8⟩,(),(),Lb,(),.inl (ah.of hR8),b,_,tb,rfl,dw8.bx,by trivial,lN (by trivial),by trivial,by trivial,fun y3 tc G9 y30 y31 hca hcb sc Bc=>?_⟩
   obtain ⟨jr,rfl⟩:=Int.eq_ofNat_of_zero_le y30
   have hjr:jr<rem.length:=by trivial
   have ejr:(rem.map aT)[jr]?=some (aT rem[jr]):=by rw [List.getElem?_map,List.getElem?_eq_getElem hjr];rfl
   refine ⟨Lb,_,jr,(),rfl,sc.old _ _ nLb hR8,by trivial,ejr,fun Ga ca=>?_⟩
   have dw9:=dw8.box ds sc Bc
   have hR9:=sc.old _ _ nLb hR8
   have cE:=vN hR9 ca
   have dwa:Dw H b nl L6 L7 L8 L9 ls ts ss [] [] tc Ga:=⟨pY dw9.se fLb cE,dw9.bx.ch ca (Ne.symm nLb),cE.old _ _ (Ne.symm nLn) dw9.nl,dw9.a6.keep cE (Ne.symm nL6),dw9.a7.keep cE (Ne.symm nL7),dw9.a8.keep cE (Ne.symm nL8),dw9.a9.keep cE (Ne.symm nL9)⟩
   refine ⟨(),b,tc,rfl,dwa.bx,by trivial,by trivial,fun om zm td Gb_ sd hom gm m0 cm Bd hda hdb=>⟨(),(by show 3≤10000;decide),fun q5 Gc kc=>?_⟩⟩
   have dwb:=dwa.box ds sd Bd
   have dwc:=dwb.sm ds kc.sm
   have s8c:af (fun x=>x=b∨x=Lb) G8 Gc:=⟨fun a o n h=>kc.sm _ _ (sd.old _ _ (fun e=>n (.inl e)) (cE.old _ _ (fun e=>n (.inr e)) (sc.old _ _ (fun e=>n (.inl e)) h))),fun a us h=>kc.sm _ _ (sd.tup _ _ (cE.tup _ _ (sc.tup _ _ h)))⟩
   have h7c:=s8c.old _ _ (by rintro (e | e);exact ds.nb.2.2.1 e;exact nL7 e.symm) h7
   refine ⟨L7,zs,(),rfl,h7c,by trivial,fun Gd cd=>nB _ _ ?_⟩
   have cE2:=vN h7c cd
   let xx:kE:=⟨rem[jr],zm,pk⟩
   have dx:aK ED Gc (.ref q5) (AB xx):=.tup kc.at' (.cons (.str _) (.cons (km (kc.sm _ _ hom)) (.cons (km (s8c.tup _ _ hok)) .nil)))
   refine ⟨_,_,_,_,_,ss++[xx],rem.eraseIdx jr,td,rfl,⟨pY dwc.se ds.f.2.1 cE2,dwc.bx.ch cd (Ne.symm ds.nb.2.2.1),cE2.old _ _ ds.n7.1 dwc.nl,dwc.a6.keep cE2 (Ne.symm ds.n6.2.1),?_,dwc.a8.keep cE2 ds.n7.2.1,dwc.a9.keep cE2 ds.n7.2.2⟩,?_,?_,?_,by simp [lss],?_,by trivial,by trivial⟩
   ·rw [List.map_append]
    exact kL.app h7c (a7.mono (hU s8c.tup)) dx cd
   ·refine cE2.old _ _ nL7 (kc.sm _ _ (sd.old _ _ nLb ?_))
    rw [ca.at',xP]
   ·rw [List.length_eraseIdx_of_lt hjr,lr]
    trivial
   ·exact fun l h=>sr l (List.mem_of_mem_eraseIdx h)
   ·intro y hy
    rcases List.mem_append.mp hy with h | h
    ·exact gs y h
    ·rw [List.mem_singleton.mp h]
     exact ⟨sr _ (List.getElem_mem hjr),tx gm cm (by decide) (by decide),m0,fk,gm⟩
  rintro σ J1 ⟨v10,v12,v13,v14,v15,ss,rem,t9,rfl,dw5,_,_,_,lss,gs,h9a,h9b⟩
  refine n5 _ _ ?_
  have t9b:t9≤t8+100:=by trivial
  refine bF fun D6 n6=>⟨(),b,4,t9,rfl,dw5.bx,by decide,by decide,by trivial,by trivial,fun x5 ta Hd x50 x51 haa hab sa Ba=>⟨_,(),rfl,(),by trivial,by trivial,?_⟩⟩
  have dw6:=dw5.box ds sa Ba
  refine iF (fun i σ H'=>CP fun (v10 v11 v12 v13 v14 v15:Option V) (ws:List kQ) (t':Int)=>σ=[some (.ref b),some (.int kd),some (.int (many:Int)),some (.int (hours:Int)),some (.int (mo:Int)),some (.ref nl),some (.ref L6),some (.ref L7),some (.ref L8),some (.ref L9),v10,v11,v12,v13,v14,v15]∧Dw H b nl L6 L7 L8 L9 ls ts ss ws [] t' H'∧ws.length=i∧(∀x∈ws,yG ⟨ls,hours,[],[],[],[]⟩ x)∧ta≤t'∧t'≤ta+20*i) ⟨_,_,_,_,_,_,[],ta,rfl,dw6,rfl,(fun _ h=>nomatch h),by trivial,by trivial⟩ ?_ ?_
  ·rintro i σ J2 hi ⟨v10,v11,v12,v13,v14,v15,ws,tb,rfl,dw,lw,gw,hba,hbb⟩
   have hi4:i<4:=by trivial
   refine lf (t:=kH _ _) fun DB nB=>?_
   refine DD fun Qp np=>⟨(),(),(),b,(many:Int),tb,rfl,dw.bx,by trivial,lN (by trivial),by trivial,by trivial,fun y1 tc G1 y10 y11 hca hcb s1' B1'=>?_⟩
   obtain ⟨jp,rfl⟩:=Int.eq_ofNat_of_zero_le y10
   have hjp:jp<ls.length:=by trivial
   have ejp:(ls.map aT)[jp]?=some (aT ls[jp]):=by rw [List.getElem?_map,List.getElem?_eq_getElem hjp];rfl
   have dw1':=dw.box ds s1' B1'
   refine ⟨nl,_,_,(),rfl,ah.of dw1'.nl,eN ejp,(),(),b,(hours:Int),tc,rfl,B1',by trivial,lN (by trivial),by trivial,by trivial,fun y2 td G2 y20 y21 hda hdb s2' B2'=>np _ _ _ ?_⟩
   obtain ⟨jh,rfl⟩:=Int.eq_ofNat_of_zero_le y20
   have dw2':=dw1'.box ds s2' B2'
   obtain ⟨zs,h8,a8⟩:=id dw2'.a8
   have lz:=a8.length
   rw [List.length_map] at lz
   refine ⟨(),.inl ⟨rfl,_,ah.of h8⟩,(),(),(),b,td,rfl,B2',by trivial,by trivial,fun om zm te G3 s3' hom gm m0 cm B3' hea heb=>⟨(),b,te,rfl,B3',by trivial,by trivial,fun oc zc tf G4 xk hoc gc c0 cc B4' hfa hfb=>⟨(by show 4≤10000;decide),fun q5 G5 k5=>?_⟩⟩⟩
   have s24:af (Eb b) G2 G4:=s3'.trans xk
   have dw4':=dw2'.box ds s24 B4'
   have dw5':=dw4'.sm ds k5.sm
   have h8':=k5.sm _ _ (s24.old _ _ ds.nb.2.2.2.1 h8)
   refine ⟨L8,zs,(),rfl,h8',by trivial,fun G6 c6=>nB _ _ ?_⟩
   have cE:=vN h8' c6
   let xx:kQ:=⟨ls[jp],jh,zm,zc⟩
   have dx:aK ED G5 (.ref q5) (CD xx):=.tup k5.at' (.cons (.str _) (.cons (.int _) (.cons (km (k5.sm _ _ (xk.tup _ _ hom))) (.cons (km (k5.sm _ _ hoc)) .nil))))
   refine ⟨_,_,_,_,_,_,ws++[xx],tf,rfl,⟨pY dw5'.se ds.f.2.2.1 cE,dw5'.bx.ch c6 (Ne.symm ds.nb.2.2.2.1),cE.old _ _ ds.n8.1 dw5'.nl,dw5'.a6.keep cE (Ne.symm ds.n6.2.2.1),dw5'.a7.keep cE (Ne.symm ds.n7.2.1),?_,dw5'.a9.keep cE ds.n8.2⟩,by simp [lw],?_,by trivial,by trivial⟩
   ·rw [List.map_append]
    exact kL.app h8' (a8.mono (hU (s24.trans k5.sm.toE).tup)) dx c6
   ·intro y hy
    rcases List.mem_append.mp hy with h | h
    ·exact gw y h
    ·rw [List.mem_singleton.mp h]
     exact ⟨List.getElem_mem hjp,by show jh<hours;trivial,tx gm cm (by decide) (by decide),m0,tx gc cc (by decide) (by decide),gm⟩
  rintro σ J2 ⟨v10,v11,v12,v13,v14,v15,ws,tb,rfl,dw7,lw,gw,hba,hbb⟩
  refine n6 _ _ ?_
  have tbb:tb≤ta+80:=by trivial
  refine bF fun D7 n7=>⟨(),b,4,tb,rfl,dw7.bx,by decide,by decide,by trivial,by trivial,fun x6 tc He x60 x61 hca hcb sc Bc=>?_⟩
  obtain ⟨N6,eN6,hN6⟩:∃N:Nat,x6+3*(if decide (V.int kd=V.int 0)=true then (1:Int) else 0)=(N:Int)∧N≤6:=⟨(x6+3*(if decide (V.int kd=V.int 0)=true then (1:Int) else 0)).toNat,by trivial,by trivial⟩
  refine ⟨(),rfl,.inr ⟨(),_,(),rfl,.inl ⟨by decide,by decide⟩,_,(),rfl,(N6:Int),congrArg (fun z=>[V.int z]) eN6,by trivial,by trivial,?_⟩⟩
  have dw8:=dw7.box ds sc Bc
  refine iF (fun i σ H'=>CP fun (v10 v11 v12 v13 v14 v15:Option V) (wi:List qE) (t':Int)=>σ=[some (.ref b),some (.int kd),some (.int (many:Int)),some (.int (hours:Int)),some (.int (mo:Int)),some (.ref nl),some (.ref L6),some (.ref L7),some (.ref L8),some (.ref L9),v10,v11,v12,v13,v14,v15]∧Dw H b nl L6 L7 L8 L9 ls ts ss ws wi t' H'∧wi.length=i∧(∀x∈wi,yQ ⟨ls,hours,[],[],[],[]⟩ x)∧tc≤t'∧t'≤tc+20*i) ⟨_,_,_,_,_,_,[],tc,rfl,dw8,rfl,(fun _ h=>nomatch h),by trivial,by trivial⟩ ?_ ?_
  ·rintro i σ J2 hi ⟨v10,v11,v12,v13,v14,v15,wi,td,rfl,dw,lwi,gwi,hda,hdb⟩
   have hi6:i<6:=by trivial
   refine lf (t:=kH _ _) fun DB nB=>?_
   refine kK fun Qa na=>⟨(),b,20,td,rfl,dw.bx,by decide,by decide,by trivial,by trivial,fun y1 te G1 y10 y11 hea heb s1' B1'=>⟨_,(),rfl,(),b,4,te,rfl,B1',by decide,by decide,by trivial,by trivial,fun y2 tf G2 y20 y21 hfa hfb s2' B2'=>⟨_,(),rfl,_,(),by trivial,(show (1+y2).natAbs<2 ^ 9000 from Nat.lt_of_lt_of_le (show (1+y2).natAbs<2 ^ 4 by trivial) (Nat.pow_le_pow_right (by decide) (by decide))),fun oa G3 k3=>na _ _ ?_⟩⟩⟩
   have fa:Fr 24 (KM.low (1+y1) (1+y2)):=Fb.low (by show (1+y1).natAbs<2 ^ 24;trivial) (by show (1+y2).natAbs<2 ^ 24;trivial) (by trivial)
   have dw3':=(dw.box ds (s1'.trans s2') B2').sm ds k3.sm
   obtain ⟨zs,h9,a9⟩:=id dw3'.a9
   have lz:=a9.length
   rw [List.length_map] at lz
   refine ⟨(),.inl ⟨rfl,_,ah.of h9⟩,(),(),(),b,(many:Int),tf,rfl,dw3'.bx,by trivial,lN (by trivial),by trivial,by trivial,fun y3 tg G4 y30 y31 hga hgb xk B4'=>?_⟩
   obtain ⟨jp,rfl⟩:=Int.eq_ofNat_of_zero_le y30
   have hjp:jp<ls.length:=by trivial
   have ejp:(ls.map aT)[jp]?=some (aT ls[jp]):=by rw [List.getElem?_map,List.getElem?_eq_getElem hjp];rfl
   have dw4':=dw3'.box ds xk B4'
   refine ⟨nl,_,_,(),rfl,ah.of dw4'.nl,eN ejp,(),(),b,(hours:Int),tg,rfl,B4',by trivial,lN (by trivial),by trivial,by trivial,fun y4 th G5 y40 y41 hha hhb s5' B5'=>?_⟩
   obtain ⟨jh,rfl⟩:=Int.eq_ofNat_of_zero_le y40
   refine ⟨(),(by show 3≤10000;decide),fun q6 G6 k6=>?_⟩
   have s35:af (Eb b) G3 G5:=xk.trans s5'
   have dw6':=(dw3'.box ds s35 B5').sm ds k6.sm
   have h9':=k6.sm _ _ (s35.old _ _ ds.nb.2.2.2.2 h9)
   refine ⟨L9,zs,(),rfl,h9',by trivial,fun G7 c7=>nB _ _ ?_⟩
   have cE:=vN h9' c7
   let xx:qE:=⟨ls[jp],jh,KM.low (1+y1) (1+y2)⟩
   have dx:aK ED G6 (.ref q6) (CF xx):=.tup k6.at' (.cons (.str _) (.cons (.int _) (.cons (km (k6.sm _ _ (s35.tup _ _ k3.at'))) .nil)))
   refine ⟨_,_,_,_,_,_,wi++[xx],th,rfl,⟨pY dw6'.se ds.f.2.2.2 cE,dw6'.bx.ch c7 (Ne.symm ds.nb.2.2.2.2),cE.old _ _ ds.n9 dw6'.nl,dw6'.a6.keep cE (Ne.symm ds.n6.2.2.2),dw6'.a7.keep cE (Ne.symm ds.n7.2.2),dw6'.a8.keep cE (Ne.symm ds.n8.2),?_⟩,by simp [lwi],?_,by trivial,by trivial⟩
   ·rw [List.map_append]
    exact kL.app h9' (a9.mono (hU (s35.trans k6.sm.toE).tup)) dx c7
   ·intro y hy
    rcases List.mem_append.mp hy with h | h
    ·exact gwi y h
    ·rw [List.mem_singleton.mp h]
     exact ⟨List.getElem_mem hjp,by show jh<hours;trivial,fa⟩
  rintro σ J3 ⟨v10,v11,v12,v13,v14,v15,wi,td,rfl,dw9,lwi,gwi,hda,hdb⟩
  refine n7 _ _ ?_
  have tdb:td≤tc+120:=by trivial
  obtain ⟨z6,h6,a6⟩:=id dw9.a6
  obtain ⟨z7,h7,a7⟩:=id dw9.a7
  obtain ⟨z8,h8,a8⟩:=id dw9.a8
  obtain ⟨z9,h9,a9⟩:=id dw9.a9
  refine ⟨(),nl,(),ah.of dw9.nl,fun q1 G1 k1=>⟨(),(),(),L6,(),ah.of (k1.sm _ _ h6),fun q2 G2 k2=>⟨q2,(),ah.of k2.at',fun q3 G3 k3=>?_⟩⟩⟩
  have s13:aa J3 G3:=(k1.sm.trans k2.sm).trans k3.sm
  refine ⟨(),L7,(),ah.of (s13 _ _ h7),fun q4 G4 k4=>⟨(),L8,(),ah.of (k4.sm _ _ (s13 _ _ h8)),fun q5 G5 k5=>⟨(),L9,(),ah.of (k5.sm _ _ (k4.sm _ _ (s13 _ _ h9))),fun q6 G6 k6=>⟨(by show 6≤10000;decide),fun q7 G7 k7=>?_⟩⟩⟩⟩
  have s47:aa G4 G7:=(k5.sm.trans k6.sm).trans k7.sm
  have s37:aa G3 G7:=k4.sm.trans s47
  have s07:aa J3 G7:=s13.trans s37
  have ec:eX z6 none (some 8)=z6.take 8:=oZ (by decide)
  have h3:=k3.at'
  rw [ec] at h3
  have pin:∀l∈ls,l∈ls:=fun _ h=>h
  refine k _ ⟨ls,hours,ts.take 8,ss,ws,wi⟩ td G7 (dw9.se.trans s07.toE) ?_ ?_ (by show ws.length≤4;trivial) (by show wi.length≤6;trivial) (by show 1≤ws.length;trivial) (dw9.bx.same s07) (by trivial) (by trivial)
  ·refine .tup k7.at' (.cons (.tup (s37 _ _ (k3.sm _ _ (k2.sm _ _ k1.at'))) (y7 _)) (.cons (.int _) (.cons (.tup (s37 _ _ h3) ?_) (.cons (.tup (s47 _ _ k4.at') (a7.mono s07.toE)) (.cons (.tup ((k6.sm.trans k7.sm) _ _ k5.at') (a8.mono s07.toE)) (.cons (.tup (k7.sm _ _ k6.at') (a9.mono s07.toE)) .nil))))))
   show au ED G7 (z6.take 8) ((ts.take 8).map u5)
   rw [List.map_take]
   exact ue 8 (a6.mono s07.toE)
  ·exact ⟨hr1,hr8,by show ls.length≤5;trivial,nd,nm,by show (ts.take 8).length≤8;rw [List.length_take];trivial,by show ss.length≤5;trivial,by show ws.length≤5;trivial,by show wi.length≤7;trivial,fun x hx=>(gt x (List.mem_of_mem_take hx)).of rfl,fun x hx=>(gs x hx).of rfl,fun x hx=>(gw x hx).of rfl rfl,fun x hx=>(gwi x hx).of rfl rfl⟩
end
end K54
namespace K54
open PySem L2
set_option maxHeartbeats 16000000
abbrev um (H:Hp):Addr→Prop:=fun a=>H a≠none
theorem yw {a b:Nat}{p:KM.Fra} (h1:p.1.natAbs<2 ^ a) (h2:p.2.natAbs<2 ^ b) (h3:1≤p.2):Gb a b p:=⟨h1,h2,h3⟩
def Am (a e:Nat) (q p:KM.Fra):Prop:=Fr a p∧0≤p.1∧p.1*q.2≤q.1*p.2∧Gb a e p
def dh (d:aP) (x:iw) (h:Nat):KM.Fra:=if (decide ((h:Int)∈x.op) && decide (h+x.la<d.hr))=true then x.mo else (0,1)
structure GB (a e:Nat) (d:aP) (b:dJ):Prop where
 s:b.se.length=d.ts.length
 k:b.ke.length=d.ss.length
 z:b.dr.length=d.ws.length
 sr:∀(i:Nat) x r,d.ts[i]?=some x→b.se[i]?=some r→r.length=d.hr∧∀(h:Nat) p,r[h]?=some p→Am a e (dh d x h) p
 kr:∀(i:Nat) x r,d.ss[i]?=some x→b.ke[i]?=some r→r.length=d.hr∧∀(h:Nat) p,r[h]?=some p→Am a e x.mo p
 zr:∀(i:Nat) x p,d.ws[i]?=some x→b.dr[i]?=some p→Am a e x.mo p
theorem Am.mono {a e a' e':Nat}{q p:KM.Fra} (h:Am a e q p) (l:a≤a') (m:e≤e'):Am a' e' q p:=⟨h.1.mono l,h.2.1,h.2.2.1,h.2.2.2.mono l m⟩
theorem GB.mono {a e a' e':Nat}{d:aP}{b:dJ} (h:GB a e d b) (l:a≤a') (m:e≤e'):GB a' e' d b:=⟨h.s,h.k,h.z,fun i x r a b=>⟨(h.sr i x r a b).1,fun j p q=>((h.sr i x r a b).2 j p q).mono l m⟩,fun i x r a b=>⟨(h.kr i x r a b).1,fun j p q=>((h.kr i x r a b).2 j p q).mono l m⟩,fun i x p a b=>(h.zr i x p a b).mono l m⟩
theorem oB {b D:Addr}{H1:Hp}{σc:St}{g:TG}{te:TE}{Q:VK}{J:It}{n c:Nat}{t0:Int} (F:Nat→PyData→Prop) (hz:n≤10000) (hD:H1 D=none) (B1:Bx H1 b t0) (hgo:∀i H',i<n→af (Eb b) H1 H'→J.go i H') (hst:∀H',af (Eb b) H1 H'→J.stop n H')
 (hs:∀(i:Nat) x H' H'' (R:VK) (t':Int),i<n→af (Eb b) H1 H'→Bx H' b t'→t0≤t'→t'≤t0+c*i→J.yld i H' x H''→(∀v d t'' H4,af (Eb b) H' H4→aK (um H') H4 v d→F i d→Bx H4 b t''→t'≤t''→t''≤t'+c→R v H4)→g x σc H'' fun σ2 H2=>fD σc σ2∧te σ2 H2 R)
 (hd:∀zs ds t' H',af (Eb b) H1 H'→Bx H' b t'→t0≤t'→t'≤t0+c*n→H' D=some (.lst zs)→au (fun a=>a=D∨H1 a≠none) H' zs ds→ds.length=n→(∀(i:Nat) d,ds[i]?=some d→F i d)→Q (.ref D) H'):gl J σc g tT te D H1 Q:=by
 have nDb:D≠b:=fun e=>B1.th (e▸hD)
 have keep:∀{H':Hp}{zs:List V},af (Eb b) H1 H'→af (Eb b) H1 (aQ H' D (.lst zs)):=fun {H' zs} s=>⟨fun a o n h=>by
  rw [aG fun e=>by rw [e,hD] at h;cases h];exact s.old _ _ n h,fun a us h=>by
  rw [aG fun e=>by rw [e,hD] at h;cases h];exact s.tup _ _ h⟩
 refine gH (n:=n) (fun i H' zs=>bP fun (ds:List PyData) (t':Int)=>H' D=some (.lst zs)∧af (Eb b) H1 H'∧Bx H' b t'∧t0≤t'∧t'≤t0+c*i∧au (fun a=>a=D∨H1 a≠none) H' zs ds∧ds.length=i∧∀(j:Nat) d,ds[j]?=some d→F j d) (fA hz) ⟨[],t0,aE,keep (af.refl _),B1.same (aa.new hD),by trivial,by trivial,.nil,rfl,fun j d e=>by simp at e⟩ ?_ ?_ ?_ ?_ ?_
 ·rintro i H' zs ⟨ds,t',q,_,_,_,_,ia,ld,_⟩
  exact ⟨q,by rw [ia.length,ld];exact Nat.le_refl _⟩
 ·rintro i H' zs hi ⟨ds,t',_,sm,_⟩
  exact hgo i H' hi sm
 ·rintro H' zs ⟨ds,t',_,sm,_⟩
  exact hst H' sm
 ·rintro i H' zs x H'' hi ⟨ds,t',q,sm,B,ha,hb,ia,ld,fd⟩ y
  refine hs i x H' H'' _ t' hi sm B ha hb y fun v d t'' H4 s4 dv fv B4 h4a h4b=>?_
  have q4:H4 D=some (.lst zs):=s4.old _ _ nDb q
  have tp:∀a us,H4 a=some (.tup us)→aQ H4 D (.lst (zs++[v])) a=some (.tup us):=fun a us e=>by
   rw [aG (gn e q4 (by intro z;cases z))];exact e
  have se:af (fun a=>a=D∨H1 a≠none) H4 (aQ H4 D (.lst (zs++[v]))):=⟨fun a o n e=>by rw [aG fun z=>n (.inl z)];exact e,tp⟩
  have sE:af (fun a=>a=D∨H1 a≠none) H' H4:=⟨fun a o n e=>s4.old _ _ (fun z=>n (.inr (by rw [show a=b from z];exact B1.th))) e,s4.tup⟩
  refine ⟨q4,ds++[d],t'',aE,keep (sm.trans s4),?_,by trivial,?_,?_,by simp [ld],fun j e he=>?_⟩
  ·obtain ⟨c1,c2,h,r1,r2,r3⟩:=B4
   exact ⟨c1,c2,by rw [aG (Ne.symm nDb)];exact h,r1,r2,r3⟩
  ·have:(c:Int)*((i+1:Nat):Int)=c*i+c:=by
    rw [show ((i+1:Nat):Int)=(i:Int)+1 by trivial,Int.mul_add,Int.mul_one]
   trivial
  ·refine ((ia.mono sE).mono se).append (.cons ((dv.narrow fun a e=>?_).mono se) .nil)
   rcases e with e | e
   ·show H' a≠none
    rw [e,q]
    exact fun z=>nomatch z
   ·show H' a≠none
    cases h:H1 a with
    | none=>exact absurd h e
    | some o=>
     by_cases hab:a=b
     ·rw [hab];exact B.th
     ·rw [sm.old _ _ hab h];exact fun z=>nomatch z
  ·by_cases hj:j<ds.length
   ·rw [List.getElem?_append_left hj] at he
    exact fd j e he
   ·have:=(List.getElem?_eq_some_iff.mp he).1
    simp at this
    obtain rfl:j=ds.length:=by trivial
    rw [List.getElem?_append_right (Nat.le_refl _),Nat.sub_self] at he
    obtain rfl:d=e:=Option.some.inj he
    rw [ld];exact fv
 ·rintro H' zs ⟨ds,t',q,sm,B,ha,hb,ia,ld,fd⟩
  exact hd zs ds t' H' sm B ha hb q ia ld fd
theorem wB {ds:List PyData}{n:Nat}{F:Nat→KM.Fra→Prop} (l:ds.length=n) (h:∀(i:Nat) d,ds[i]?=some d→∃p,d=bJ p∧F i p):∃ps:List KM.Fra,ds=ps.map bJ∧ps.length=n∧∀(i:Nat) p,ps[i]?=some p→F i p:=by
 obtain ⟨ps,lp,hp⟩:=qh (p:=fun (i:Nat) (p:KM.Fra)=>ds[i]?=some (bJ p)∧F i p) n fun i hi=>by
  obtain ⟨p,e,f⟩:=h i ds[i] (List.getElem?_eq_getElem (by trivial))
  exact ⟨p,by rw [←e];exact List.getElem?_eq_getElem (by trivial),f⟩
 refine ⟨ps,List.ext_getElem? fun i=>?_,lp,fun i p e=>(hp i p e).2⟩
 rw [List.getElem?_map]
 by_cases hi:i<n
 ·have e:=List.getElem?_eq_getElem (show i<ps.length by trivial)
  rw [e,(hp i _ e).1]
  rfl
 ·rw [List.getElem?_eq_none (by trivial),List.getElem?_eq_none (by trivial)]
  rfl
theorem EB {ds:List PyData}{n:Nat}{F:Nat→List KM.Fra→Prop} (l:ds.length=n) (h:∀(i:Nat) d,ds[i]?=some d→∃p,d=aX p∧F i p):∃ps:List (List KM.Fra),ds=ps.map aX∧ps.length=n∧∀(i:Nat) p,ps[i]?=some p→F i p:=by
 obtain ⟨ps,lp,hp⟩:=qh (p:=fun (i:Nat) (p:List KM.Fra)=>ds[i]?=some (aX p)∧F i p) n fun i hi=>by
  obtain ⟨p,e,f⟩:=h i ds[i] (List.getElem?_eq_getElem (by trivial))
  exact ⟨p,by rw [←e];exact List.getElem?_eq_getElem (by trivial),f⟩
 refine ⟨ps,List.ext_getElem? fun i=>?_,lp,fun i p e=>(hp i p e).2⟩
 rw [List.getElem?_map]
 by_cases hi:i<n
 ·have e:=List.getElem?_eq_getElem (show i<ps.length by trivial)
  rw [e,(hp i _ e).1]
  rfl
 ·rw [List.getElem?_eq_none (by trivial),List.getElem?_eq_none (by trivial)]
  rfl
def Pt (q:KM.Fra):Prop:=Fr 2 q∧0≤q.1∧q.1≤q.2∧Gb 1 2 q
theorem yj {q a:KM.Fra} (hq:Fr 24 q) (hg:Gb 20 4 q) (q0:0≤q.1) (ha:Pt a):Am 21 6 q (KM.lTim q a):=by
 obtain ⟨fa,a0,al,ga⟩:=ha
 have a1:=fa.pos
 have q1:=hq.pos
 have dp:0<q.2*a.2:=Int.mul_pos (by trivial) (by trivial)
 obtain ⟨p1,cr,_,_,_⟩:=KM.low_spec (q.1*a.1) (q.2*a.2) (by trivial)
 obtain ⟨_,sg⟩:=KM.low_sgn (n:=q.1*a.1) dp
 have n0:0≤q.1*a.1:=Int.mul_nonneg q0 a0
 have gg:Gb 21 6 (KM.lTim q a):=hg.tim ga (by decide) (by decide)
 refine ⟨⟨gg.n,gg.d.mono (by decide),gg.pos,(Fr.tim hq fa (Nat.le_refl _)).co⟩,?_,?_,gg⟩
 ·show 0≤(KM.low (q.1*a.1) (q.2*a.2)).1
  have:¬(KM.low (q.1*a.1) (q.2*a.2)).1<0:=fun z=>by have:=sg.mp z;trivial
  trivial
 ·show (KM.low (q.1*a.1) (q.2*a.2)).1*q.2≤q.1*(KM.low (q.1*a.1) (q.2*a.2)).2
  generalize KM.low (q.1*a.1) (q.2*a.2)=P at p1 cr
  refine Int.le_of_mul_le_mul_right (a:=a.2) ?_ (by trivial)
  have e1:P.1*q.2*a.2=q.1*P.2*a.1:=by
   rw [Int.mul_assoc,cr,Int.mul_assoc,Int.mul_comm a.1 P.2,←Int.mul_assoc]
  rw [e1]
  exact Int.mul_le_mul_of_nonneg_left al (Int.mul_nonneg q0 (by trivial))
theorem F6 {a:KM.Fra} (ha:Pt a):Am 21 6 (0,1) (KM.lTim (0,1) a):=yj (Fb.small (by decide) (by decide) (by decide) (by decide)) (yw (by decide) (by decide) (by decide)) (Int.le_refl _) ha
theorem GA {d:aP}{x:iw}{a:KM.Fra} (h:Nat) (gx:qA d x) (ha:Pt a):Am 21 6 (dh d x h) (KM.lTim (dh d x h) a):=by
 unfold dh
 by_cases c:(decide ((h:Int)∈x.op) && decide (h+x.la<d.hr))=true
 ·rw [if_pos c];exact yj gx.m gx.mg gx.m0 ha
 ·rw [if_neg c];exact F6 ha
theorem rG {E:Addr→Prop}{H:Hp}{o:Addr}{p:KM.Fra} (h:H o=some (fr p)):aK E H (.ref o) (bJ p):=.tup h (.cons (.int _) (.cons (.int _) .nil))
def Cu (H:Hp) (p:Addr):Prop:=∃xs:List V,H p=some (.lst xs)∧∀x:Int,0≤x→x<6→bP fun o q=>ko xs x=some (.ref o)∧H o=some (fr q)∧Pt q
theorem Cu.keep {E:Addr→Prop}{H H':Hp}{p:Addr} (h:Cu H p) (s:af E H H') (n:¬E p):Cu H' p:=by
 obtain ⟨xs,a,b⟩:=h
 refine ⟨xs,s.old _ _ n a,fun x h0 h6=>?_⟩
 obtain ⟨o,q,e1,e2,e3⟩:=b x h0 h6
 exact ⟨o,q,e1,s.tup _ _ e2,e3⟩
section
variable {P:Program}{w:World}{K:PySem.W.Frag}{mg:Str→Option Value}{base:Heap}
inductive Ez (vs:List V) (H:Hp) (Q:VK):Prop
 | mk (b:Addr) (dv:V) (d:aP) (t:Int) (h0:vs=[.ref b,dv]) (h1:Bx H b t) (h2:0≤t) (h3:t≤800000) (h4:aK ED H dv (pb d)) (h5:jy d) (h6:∀v bk t' H',af (Eb b) H H'→aK (um H) H' v (ki bk)→GB 21 6 d bk→Bx H' b t'→t≤t'→t'≤t+200→Q v H')
def Fs:Sp:=fun vs H Q _=>Ez  vs H Q
theorem zP (T:Txt K mg):aV P w K mg base CX0 4 T.l_any_book_.f T.l_any_book_.d ["_law_box_here", "_law_day_here"] Fs:=by
 have G_l_take:=#[(gD)]
 have G_l_by:=#[(EU)]
 have G_l_may:=#[(AE)]
 refine T.l_any_book_.F.ok fE (fun vs H Q E h=>?_) (fun cdv A outer s H vs Q E hr h=>?_)
 ·obtain ⟨b,dv,d,t,rfl,_⟩:=h
  rfl
 ·obtain ⟨b,dv,d,t,rfl,B,ht0,ht1,hd,gd,k⟩:=h
  refine ⟨_,#[#[lG 2 (2) _ _ _ _ fE.nd rfl (Or.inr qG) #[bG 4 #[[#[aD 5 #[[#[()],#[()]]]],#[aD 5 #[[#[()],#[()]]]],#[aD 5 #[[#[()],#[()]]]],#[aD 5 #[[#[()],#[()]]]],#[aD 5 #[[#[()],#[()]]]],#[aD 5 #[[#[()],#[()]]]]]]] (by rfl) (by first | exact .inl rfl | exact .inr rfl | assumption)] :: #[#[3,fE.nd,ig,#[bG 4 (@bE _)]] :: #[#[cN 8 PassesOwn.never rfl (@dW _ (K) _ _ _ #[#[1,(dF)][#[()]]] (by rfl)) #[gv 2 (4) _ fE.nd rfl (Or.inr sq) (by first | exact .inl rfl | exact .inr rfl | assumption)] #[#[jb 7 (["_law_hour", "_law_day_here", "_law_row"]) (1) ([1,4]) _ _ _ _ (5) _ _ _ fE.nd rfl kw (by kernel_rfl) rfl (by kernel_rfl) #[b9 6 sX T.b_range #[[#[#[1,(dF)][#[()]]]]] (by rfl)] (fun _ _ _ _ _ _=>#[0,(),()]) (fun _ _ _ _ _ _=>@bf _) (fun _ _ _ _ _ _=>#[fZ 8 #[bK 3 #[G_l_may,(),T.l_may_,#[[#[1,0],#[2,0],#[0,()]]]] (by intro _;rfl)] #[#[2,0][#[()]]] #[aD 5 #[[#[()],#[()]]]]]) (by intro _;rfl)] :: #[ac 3 #[fF 4 (@eM _ (K) _ _ _ _ _ _ _ _ _ _ _ PySem.F.plainAttrs_list PySem.F.slot_list_append PySem.F.type_list_append (@eh _) #[3,ig] #[[#[bq 7 (["_law_top", "_law_box_here", "_law_parts"]) (1) ([0,2]) _ _ _ _ rfl (by kernel_rfl) (@oh _ (K) _ _ _ #[5,kw] (by rfl)) (fun _ _ _ _ _ _=>#[0,(),()]) (fun _ _ _ _ _ _=>@bf _) (fun _ _ _ _ _ _=>#[G_l_by,(),T.l_by_,#[[#[0,()],#[#[2,0][#[G_l_take,(),T.l_take_,#[[#[1,0],#[()]]]]]!]]]]) (by intro _;rfl)]]] (by rfl) (by rfl) (by rfl) (by rfl) (by rfl) (by rfl)) (by rfl)]]] (by intro _;rfl)] :: #[#[jb 7 (["_law_store", "_law_box_here", "_law_day_here", "_law_parts"]) (1) ([0,1,2]) _ _ _ _ (6) _ _ _ fE.nd rfl kq (by kernel_rfl) rfl (by kernel_rfl) (@dW _ (K) _ _ _ #[#[1,(dF)][#[()]]] (by rfl)) (fun _ _ _ _ _ _=>#[gv 2 (0) _ (@zk _ (by kernel_rfl)) rfl (Or.inr (by kernel_rfl)) (Or.inl (by kernel_rfl))]) (fun _ _ _ _ _ _=>@bf _) (fun _ _ _ _ _ _=>#[bq 7 (["_law_hour", "_law_box_here", "_law_parts", "_law_store"]) (1) ([1,3,0]) _ _ _ _ rfl (by kernel_rfl) #[b9 6 (by show _=_;kernel_rfl) T.b_range #[[#[#[2,0][#[()]]]]] (by rfl)] (fun _ _ _ _ _ _=>#[0,(),()]) (fun _ _ _ _ _ _=>@bf _) (fun _ _ _ _ _ _=>#[G_l_by,(),T.l_by_,#[[#[#[3,0][#[()]]],#[#[2,0][#[G_l_take,(),T.l_take_,#[[#[1,0],#[()]]]]]!]]]]) (by intro _;rfl)]) (by intro _;rfl)] :: #[ac 3 #[ax 4 #[aD 5 #[[#[3,ig],#[6,kq],#[bq 7 (["_law_well", "_law_box_here", "_law_parts"]) (1) ([0,2]) _ _ _ _ rfl (by kernel_rfl) (@dW _ (K) _ _ _ #[#[1,(dF)][#[()]]] (by rfl)) (fun _ _ _ _ _ _=>#[0,(),()]) (fun _ _ _ _ _ _=>@bf _) (fun _ _ _ _ _ _=>#[G_l_by,(),T.l_by_,#[[#[#[0,()][#[()]]],#[#[2,0][#[G_l_take,(),T.l_take_,#[[#[1,0],#[()]]]]]!]]]]) (by intro _;rfl)]]]]]]]]]],?_⟩
  obtain ⟨a,p,tt,st,wl,wi,ts,ss,ws,is,Dd⟩:=g9 hd
  cases Dd.ev
  have lts:=Dd.at_.length
  have lss:=Dd.as_.length
  have lws:=Dd.aw.length
  rw [List.length_map] at lts lss lws
  refine kK fun Q0 n0=>⟨(by show 2≤10000;decide),fun o1 H1 k1=>⟨(by show 2≤10000;decide),fun o2 H2 k2=>⟨(by show 2≤10000;decide),fun o3 H3 k3=>⟨(by show 2≤10000;decide),fun o4 H4 k4=>⟨(by show 2≤10000;decide),fun o5 H5 k5=>⟨(by show 2≤10000;decide),fun o6 H6 k6=>⟨(by show 6≤10000;decide),fun pl H7 k7=>n0 _ _ ?_⟩⟩⟩⟩⟩⟩⟩
  have s67:aa H6 H7:=k7.sm
  have s57:aa H5 H7:=k6.sm.trans s67
  have s47:aa H4 H7:=k5.sm.trans s57
  have s37:aa H3 H7:=k4.sm.trans s47
  have s27:aa H2 H7:=k3.sm.trans s37
  have s17:aa H1 H7:=k2.sm.trans s27
  have s07:aa H H7:=k1.sm.trans s17
  have pl7:Cu H7 pl:=⟨_,k7.at',fun x h0 h6=>by
   rcases (show x=0∨x=1∨x=2∨x=3∨x=4∨x=5 by trivial) with rfl | rfl | rfl | rfl | rfl | rfl
   ·exact ⟨o1,(0,1),rfl,s17 _ _ k1.at',Fb.small (by decide) (by decide) (by decide) (by decide),by decide,by decide,(yw (by decide) (by decide) (by decide))⟩
   ·exact ⟨o2,(0,1),rfl,s27 _ _ k2.at',Fb.small (by decide) (by decide) (by decide) (by decide),by decide,by decide,(yw (by decide) (by decide) (by decide))⟩
   ·exact ⟨o3,(1,1),rfl,s37 _ _ k3.at',Fb.small (by decide) (by decide) (by decide) (by decide),by decide,by decide,(yw (by decide) (by decide) (by decide))⟩
   ·exact ⟨o4,(1,2),rfl,s47 _ _ k4.at',Fb.small (by decide) (by decide) (by decide) (by decide),by decide,by decide,(yw (by decide) (by decide) (by decide))⟩
   ·exact ⟨o5,(1,3),rfl,s57 _ _ k5.at',Fb.small (by decide) (by decide) (by decide) (by decide),by decide,by decide,(yw (by decide) (by decide) (by decide))⟩
   ·exact ⟨o6,(0,1),rfl,s67 _ _ k6.at',Fb.small (by decide) (by decide) (by decide) (by decide),by decide,by decide,(yw (by decide) (by decide) (by decide))⟩⟩
  have npb:pl≠b:=fun e=>B.th ((k1.sm.trans (k2.sm.trans (k3.sm.trans (k4.sm.trans (k5.sm.trans k6.sm))))).free (e▸k7.fr))
  refine bF fun D1 n1=>⟨(by show 0≤10000;decide),fun L H8 k8=>n1 _ _ ?_⟩
  have s08:=s07.trans k8.sm
  have nLb:L≠b:=fun e=>B.th (s07.free (e▸k8.fr))
  have nLp:pl≠L:=fun e=>by have z:=k8.fr;rw [←e,k7.at'] at z;cases z
  have fL:H L=none:=s07.free k8.fr
  have tpH:∀{H':Hp},af (Eb b) H H'→∀{x us},H x=some (.tup us)→H' x=some (.tup us):=fun {H'} s {x us} h=>s.tup _ _ h
  refine bF fun D2 n2=>⟨(),a,_,_,(),rfl,ad.of (s08 _ _ Dd.ha),rfl,tt,rfl,⟨_,ad.of (s08 _ _ Dd.ht)⟩,wc (xs:=ts) (fun i σ H'=>Kf fun (v4 v5 v6:Option V) (se:List (List KM.Fra)) (us:List V) (t':Int)=>σ=[some (.ref b),some (.ref a),some (.ref pl),some (.ref L),v4,v5,v6]∧af (Eb b) H H'∧Bx H' b t'∧t≤t'∧t'≤t+8*i∧Cu H' pl∧H' L=some (.lst us)∧au (fun x=>x=L∨H x≠none) H' us (se.map aX)∧se.length=i∧∀(j:Nat) x r,d.ts[j]?=some x→se[j]?=some r→r.length=d.hr∧∀(h:Nat) p,r[h]?=some p→Am 21 6 (dh d x h) p) ⟨_,_,_,[],[],t,rfl,s08.toE,B.same s08,by trivial,by trivial,pl7.keep (E:=fun _=>False) k8.sm.toE (fun z=>z),k8.at',.nil,rfl,fun j x r _ e=>by simp at e⟩ ?_ ?_ ?_⟩
  ·rintro i σ H' _ ⟨_,_,_,_,_,_,_,se,_⟩
   exact ad.of (tpH se Dd.ht)
  ·rintro i x σ J ex ⟨v4,v5,v6,se,us,t1,rfl,sJ,BJ,h1a,h1b,plJ,hL,ia,lse,gse⟩
   have hi:i<ts.length:=(List.getElem?_eq_some_iff.mp ex).1
   have t8:=gd.t8
   have hi8:i<8:=by trivial
   obtain ⟨xt,ext,mxt,dxt⟩:=dl Dd.at_ ex
   have gx:=gd.ts xt mxt
   have dxJ:aK ED J x (u5 xt):=dxt.mono (hU sJ.tup)
   have hdJ:aK ED J (.ref a) (pb d):=hd.mono (hU sJ.tup)
   obtain ⟨ta,om,og,op_,oo,rfl,hta,hom,_,_,_⟩:=lF dxJ
   have h8:=gd.l8
   refine lf (t:=kH _ _) fun DB nB=>?_
   refine kK fun Qt nt=>⟨(),a,_,_,(),rfl,ad.of (tpH sJ Dd.ha),rfl,(),by trivial,by trivial,fun Dt hDt=>Bq (n:=d.hr) (fun h=>bJ (dh d xt h)) (by trivial) hDt (fun i H' hi _=>by show i<_;trivial) (fun H' _=>by show _≤_;trivial) ?_ ?_⟩
   ·rintro h y H3 H4 Rk hh s3 ⟨rfl,rfl⟩ kk
    refine ⟨cR,?_⟩
    have e0:(0:Int)+(h:Int)=h:=by trivial
    rw [e0]
    refine ⟨(),(),(),_,_,d,xt,h,rfl,hdJ.mono s3.toE,dxJ.mono s3.toE,(),?_⟩
    by_cases c:(decide ((h:Int)∈xt.op) && decide (h+xt.la<d.hr))=true
    ·rw [c]
     have e:dh d xt h=xt.mo:=if_pos c
     refine av ⟨(),ta,_,_,(),rfl,ad.of (s3 _ _ hta),rfl,kk _ _ (aa.refl _) ?_⟩
     rw [e]
     exact km (s3 _ _ hom)
    ·have c':(decide ((h:Int)∈xt.op) && decide (h+xt.la<d.hr))=false:=by simpa using c
     rw [c']
     have e:dh d xt h=(0,1):=if_neg c
     refine aO ⟨(by show 2≤10000;decide),fun q5 H5 k5=>kk _ _ k5.sm ?_⟩
     rw [e]
     exact km k5.at'
   intro zs J1 sJ1 hDt1 iz
   refine nt _ _ ?_
   have lz:=iz.length
   rw [List.length_map,List.length_range] at lz
   have hL1:=sJ1 _ _ hL
   have nDtb:Dt≠b:=fun e=>BJ.th (e▸hDt)
   have pl1:=plJ.keep (E:=fun _=>False) sJ1.toE (fun z=>z)
   refine ⟨(),.inl ⟨rfl,_,ah.of hL1⟩,(),Dt,rfl,⟨_,ah.of hDt1⟩,fun D3 hD3=>oB (b:=b) (n:=d.hr) (c:=1) (t0:=t1) (fun h dd=>∃p,dd=bJ p∧Am 21 6 (dh d xt h) p) (by trivial) hD3 (BJ.same sJ1) (fun h H' hh sm=>⟨zs,zs[h]'(by trivial),ah.of (sm.old _ _ nDtb hDt1),by rw [List.getElem?_eq_getElem (by trivial)]⟩) (fun H' sm=>⟨zs,ah.of (sm.old _ _ nDtb hDt1),by trivial⟩) ?_ ?_⟩
   ·rintro h y H3 H4 Rk t2 hh s3 B3 h2a h2b ⟨rfl,ey⟩ kk
    have ey:=ey _ (ah.of (K:=K) (s3.old _ _ nDtb hDt1))
    have dy:aK ED J1 y (bJ (dh d xt h)):=iz.nth h ey (by rw [List.getElem?_map,List.getElem?_range hh];rfl)
    obtain ⟨oy,rfl,hoy⟩:=mq dy
    refine ⟨cR,(),(),(),b,6,t2,rfl,B3,by decide,by decide,by trivial,by trivial,fun y1 t3 H5 y10 y11 h3a h3b s5 B5=>?_⟩
    obtain ⟨xs,hxs,gx6⟩:=(pl1.keep s3 npb).keep s5 npb
    obtain ⟨oq,q,eq,hoq,pq⟩:=gx6 y1 y10 y11
    have fT:Fr 24 (dh d xt h):=by
     unfold dh
     split
     ·exact gx.m
     ·exact Fb.small (by decide) (by decide) (by decide) (by decide)
    refine ⟨pl,_,_,(),rfl,ah.of hxs,eq,oy,oq,dh d xt h,q,24,24,2,2,rfl,s5.tup _ _ (s3.tup _ _ hoy),hoq,fT.gb,pq.1.gb,by decide,by decide,by decide,by decide,(fun z=>nomatch z),fun o6 H6 k6=>kk _ _ t3 H6 (s5.trans k6.sm.toE) (rG k6.at') ⟨(),GA h gx pq⟩ (B5.same k6.sm) (by trivial) (by trivial)⟩
   intro ws3 ds3 t3 J2 sJ2 BJ2 h3a h3b hD3' ia3 ld3 fd3
   obtain ⟨ps,rfl,lps,hps⟩:=wB ld3 fd3
   have sH2:af (Eb b) H J2:=(sJ.trans sJ1.toE).trans sJ2
   have hL2:=sJ2.old _ _ nLb hL1
   have lus:us.length≤8:=by rw [ia.length,List.length_map];trivial
   refine ⟨L,us,(),rfl,hL2,by trivial,fun J3 c3=>nB _ _ ?_⟩
   have cE:=vN hL2 c3
   have fD3:H D3=none:=(sJ.trans sJ1.toE).none (fun e=>(BJ.same sJ1).th (e▸hD3)) hD3
   have nD3L:D3≠L:=fun e=>by rw [e,hL1] at hD3;cases hD3
   have e0:∀{x y:Hp},af (Eb b) x y→af (fun z=>z=L∨H z≠none) x y:=fun s=>⟨fun z o n h=>s.old _ _ (fun e=>n (.inr (by rw [show z=b from e];exact B.th))) h,s.tup⟩
   have eL:af (fun z=>z=L∨H z≠none) J2 J3:=⟨fun z o n h=>cE.old _ _ (fun e=>n (.inl e)) h,cE.tup⟩
   refine ⟨_,_,_,se++[ps],us++[.ref D3],t3,rfl,pY sH2 fL cE,BJ2.ch c3 (Ne.symm nLb),by trivial,by trivial,(((plJ.keep (E:=fun _=>False) sJ1.toE (fun z=>z)).keep sJ2 npb)).keep cE nLp,c3.at',?_,by simp [lse],fun j xj r ej er=>?_⟩
   ·rw [List.map_append]
    refine (((ia.mono (sJ1.toE)).mono (e0 sJ2)).append (.cons (.lst hD3' ?_ ?_) .nil)).mono eL
    ·rintro (e | e)
     ·exact nD3L e
     ·exact e fD3
    ·refine ia3.narrow fun z e=>?_
     rcases e with e | e
     ·exact .inr (by rw [e,hL1];exact fun q=>nomatch q)
     ·right
      cases hz:H z with
      | none=>exact absurd hz e
      | some o=>
       by_cases hzb:z=b
       ·rw [hzb];exact (BJ.same sJ1).th
       ·rw [(sJ.trans sJ1.toE).old _ _ hzb hz];exact fun q=>nomatch q
   ·by_cases hj:j<se.length
    ·rw [List.getElem?_append_left hj] at er
     exact gse j xj r ej er
    ·have:=(List.getElem?_eq_some_iff.mp er).1
     simp at this
     obtain rfl:j=se.length:=by trivial
     rw [List.getElem?_append_right (Nat.le_refl _),Nat.sub_self] at er
     obtain rfl:ps=r:=Option.some.inj er
     rw [lse,ext] at ej
     cases ej
     exact ⟨lps,hps⟩
  rintro σ J ⟨v4,v5,v6,se,us,t1,rfl,sJ,BJ,h1a,h1b,plJ,hL,ia,lse,gse⟩
  refine n2 _ _ ?_
  have t8:=gd.t8
  have t1b:t1≤t+64:=by trivial
  have s5:=gd.s5
  have w5:=gd.w5
  have h8:=gd.l8
  have nul:∀{G:Hp}{z:Addr}{t':Int},af (Eb b) H G→Bx G b t'→H z≠none→G z≠none:=fun {G z t'} s BG e=>by
   cases hz:H z with
   | none=>exact absurd hz e
   | some o=>
    by_cases hzb:z=b
    ·rw [hzb];exact BG.th
    ·rw [s.old _ _ hzb hz];exact fun q=>nomatch q
  refine kK fun Qk nk=>⟨(),a,_,_,(),rfl,ad.of (tpH sJ Dd.ha),rfl,st,rfl,⟨_,ad.of (tpH sJ Dd.hs)⟩,fun D4 hD4=>oB (b:=b) (n:=ss.length) (c:=8) (t0:=t1) (fun i dd=>∃r,dd=aX r∧∀x,d.ss[i]?=some x→r.length=d.hr∧∀(h:Nat) p,r[h]?=some p→Am 21 6 x.mo p) (by trivial) hD4 BJ (fun i H' hi sm=>⟨ss,ss[i]'(by trivial),ad.of (sm.tup _ _ (tpH sJ Dd.hs)),by rw [List.getElem?_eq_getElem (by trivial)]⟩) (fun H' sm=>⟨ss,ad.of (sm.tup _ _ (tpH sJ Dd.hs)),Nat.le_refl _⟩) ?_ ?_⟩
  ·rintro i y G1 G2 R t2 hi s1 B1 h2a h2b ⟨rfl,ey⟩ kk
   have ey:=ey _ (ad.of (K:=K) (s1.tup _ _ (tpH sJ Dd.hs)))
   obtain ⟨xs,exs,mxs,dxs⟩:=dl Dd.as_ ey
   have gx:=gd.ss xs mxs
   have sG:=sJ.trans s1
   obtain ⟨sa,om,ok,rfl,hsa,hom,_⟩:=pU (dxs.mono (hU sG.tup))
   refine ⟨cR,(),a,_,_,(),rfl,ad.of (tpH sG Dd.ha),rfl,(),by trivial,by trivial,fun D5 hD5=>oB (b:=b) (n:=d.hr) (c:=1) (t0:=t2) (fun h dd=>∃p,dd=bJ p∧Am 21 6 xs.mo p) (by trivial) hD5 B1 (fun h H' hh _=>by show h<_;trivial) (fun H' _=>by show _≤_;trivial) ?_ ?_⟩
   ·rintro h y H3 H4 Rk t3 hh s3 B3 h3a h3b ⟨rfl,rfl⟩ kk2
    refine ⟨cR,(),sa,_,_,(),rfl,ad.of (s3.tup _ _ hsa),rfl,(),(),b,6,t3,rfl,B3,by decide,by decide,by trivial,by trivial,fun y1 t4 H5 y10 y11 h4a h4b s5' B5=>?_⟩
    obtain ⟨zs,hzs,gz⟩:=((plJ.keep s1 npb).keep s3 npb).keep s5' npb
    obtain ⟨oq,q,eq,hoq,pq⟩:=gz y1 y10 y11
    exact ⟨pl,_,_,(),rfl,ah.of hzs,eq,om,oq,xs.mo,q,24,24,2,2,rfl,s5'.tup _ _ (s3.tup _ _ hom),hoq,gx.m.gb,pq.1.gb,by decide,by decide,by decide,by decide,(fun z=>nomatch z),fun o6 H6 k6=>kk2 _ _ t4 H6 (s5'.trans k6.sm.toE) (rG k6.at') ⟨(),yj gx.m gx.mg gx.m0 pq⟩ (B5.same k6.sm) (by trivial) (by trivial)⟩
   intro zs ds t3 G3 s3 B3 h3a h3b hD5' ia5 ld5 fd5
   obtain ⟨ps,rfl,lps,hps⟩:=wB ld5 fd5
   refine kk _ (aX ps) t3 G3 s3 (.lst hD5' (fun e=>e hD5) (ia5.narrow fun z e=>.inr e)) ⟨ps,rfl,fun x ex=>?_⟩ B3 (by trivial) (by trivial)
   rw [exs] at ex
   cases ex
   exact ⟨lps,hps⟩
  intro ks ds4 t4 J4 sJ4 B4 h4a h4b hD4' ia4 ld4 fd4
  obtain ⟨ke,rfl,lke,hke⟩:=EB ld4 fd4
  refine nk _ _ ?_
  have sH4:=sJ.trans sJ4
  have t4b:t4≤t1+40:=by trivial
  refine ⟨(),(),(),a,_,_,(),rfl,ad.of (tpH sH4 Dd.ha),rfl,wl,rfl,⟨_,ad.of (tpH sH4 Dd.hw)⟩,fun D6 hD6=>oB (b:=b) (n:=ws.length) (c:=1) (t0:=t4) (fun i dd=>∃p,dd=bJ p∧∀x,d.ws[i]?=some x→Am 21 6 x.mo p) (by trivial) hD6 B4 (fun i H' hi sm=>⟨ws,ws[i]'(by trivial),ad.of (sm.tup _ _ (tpH sH4 Dd.hw)),by rw [List.getElem?_eq_getElem (by trivial)]⟩) (fun H' sm=>⟨ws,ad.of (sm.tup _ _ (tpH sH4 Dd.hw)),Nat.le_refl _⟩) ?_ ?_⟩
  ·rintro i y G1 G2 R t2 hi s1 B1 h2a h2b ⟨rfl,ey⟩ kk
   have ey:=ey _ (ad.of (K:=K) (s1.tup _ _ (tpH sH4 Dd.hw)))
   obtain ⟨xw,exw,mxw,dxw⟩:=dl Dd.aw ey
   have gx:=gd.ws xw mxw
   have sG:=sH4.trans s1
   obtain ⟨sa,om,op_,rfl,hsa,hom,_⟩:=sT (dxw.mono (hU sG.tup))
   refine ⟨cR,(),sa,_,_,(),rfl,ad.of hsa,rfl,(),(),b,6,t2,rfl,B1,by decide,by decide,by trivial,by trivial,fun y1 t3 H5 y10 y11 h3a h3b s5' B5=>?_⟩
   obtain ⟨zs,hzs,gz⟩:=((plJ.keep sJ4 npb).keep s1 npb).keep s5' npb
   obtain ⟨oq,q,eq,hoq,pq⟩:=gz y1 y10 y11
   refine ⟨pl,_,_,(),rfl,ah.of hzs,eq,om,oq,xw.mo,q,24,24,2,2,rfl,s5'.tup _ _ hom,hoq,gx.m.gb,pq.1.gb,by decide,by decide,by decide,by decide,(fun z=>nomatch z),fun o6 H6 k6=>kk _ _ t3 H6 (s5'.trans k6.sm.toE) (rG k6.at') ⟨(),fun x ex=>?_⟩ (B5.same k6.sm) (by trivial) (by trivial)⟩
   rw [exw] at ex
   cases ex
   exact yj gx.m gx.mg gx.m0 pq
  intro zs ds6 t6 J6 sJ6 B6 h6a h6b hD6' ia6 ld6 fd6
  obtain ⟨dr,rfl,ldr,hdr⟩:=wB ld6 fd6
  have t6b:t6≤t4+5:=by trivial
  refine ⟨(by show 3≤10000;decide),fun q J7 k7'=>?_⟩
  have sJ7:af (Eb b) J J7:=(sJ4.trans sJ6).trans k7'.sm.toE
  have sH7:=sJ.trans sJ7
  have e7:∀{x y:Hp},af (Eb b) x y→af (um H) x y:=fun s=>⟨fun z o n h=>s.old _ _ (fun e=>n (by rw [show z=b from e];exact B.th)) h,s.tup⟩
  have fD4:H D4=none:=sJ.none (fun e=>BJ.th (e▸hD4)) hD4
  have fD6:H D6=none:=sH4.none (fun e=>B4.th (e▸hD6)) hD6
  have n4b:D4≠b:=fun e=>BJ.th (e▸hD4)
  have s47:af (Eb b) J4 J7:=sJ6.trans k7'.sm.toE
  refine k _ ⟨se,ke,dr⟩ t6 J7 sH7 ?_ ⟨by show se.length=_;trivial,by show ke.length=_;trivial,by show dr.length=_;trivial,gse,fun i x r ex er=>(hke i r er) x ex,fun i x p ex ep=>(hdr i p ep) x ex⟩ (B6.same k7'.sm) (by trivial) (by trivial)
  refine .tup k7'.at' (.cons (.lst (sJ7.old _ _ nLb hL) (fun e=>e fL) ?_) (.cons (.lst (s47.old _ _ n4b hD4') (fun e=>e fD4) ?_) (.cons (.lst (k7'.sm _ _ hD6') (fun e=>e fD6) ?_) .nil)))
  ·exact (ia.narrow fun z e=>.inr e).mono (e7 sJ7)
  ·exact (ia4.narrow fun z e=>.inr (nul sJ BJ e)).mono (e7 s47)
  ·exact (ia6.narrow fun z e=>.inr (nul sH4 B4 e)).mono (e7 k7'.sm.toE)
end
end K54
namespace K54
open PySem L2
set_option maxHeartbeats 16000000
theorem kD {ds:List PyData}{n k:Nat}{d:PyData} (h:dC ds n k) (hd:d∈ds):∃m,m≤n∧Wt d m k:=by
 induction ds generalizing n with
 | nil=>cases hd
 | cons x r ih=>
  cases h with
  | @cons _ _ m n' _ h1 h2=>
  rcases List.mem_cons.mp hd with e | e
  ·subst e;exact ⟨m,by trivial,h1⟩
  ·obtain ⟨m',q,w⟩:=ih h2 e
   exact ⟨m',by trivial,w⟩
theorem nP {a b:Nat} (h:a≠b):(!decide (V.int (a:Int)=V.int (b:Int)))=true:=by
 rw [decide_eq_false]
 ·rfl
 ·intro z
  injection z with z
  exact h (by trivial)
theorem sA (a:Nat):(!decide (V.int (a:Int)=V.int (a:Int)))=false:=by
 rw [decide_eq_true rfl];rfl
def qz (d:PyData):Bool:=match d with
 | .tuple [.int n,.int e]=>eF (.tuple [.int n,.int e]) && decide (0≤n)
 | _=>false
def dL (d:PyData) (p:KM.Fra):Bool:=match d with
 | .tuple [.int n,.int e]=>(eF (.tuple [.int n,.int e]) && decide (0≤n)) && decide (n*p.2≤p.1*e)
 | _=>false
theorem uE {d:PyData} (h:eF d=true):bP fun n e=>d=.tuple [.int n,.int e]∧1≤e∧Int.gcd n e=1:=by
 unfold eF at h
 split at h
 ·rename_i n e
  have h':(decide (1≤e) && decide (Int.gcd n e=1))=true:=h
  rw [Bool.and_eq_true,decide_eq_true_iff,decide_eq_true_iff] at h'
  exact ⟨n,e,rfl,h'.1,h'.2⟩
 ·cases h
theorem rH {d:PyData} (h:eF d=false):qz d=false∧∀p,dL d p=false:=by
 constructor
 ·unfold qz
  split
  ·rw [h];rfl
  ·rfl
 ·intro p
  unfold dL
  split
  ·rw [h];rfl
  ·rfl
theorem yu {d:PyData} (h:qz d=false):∀p,dL d p=false:=by
 intro p
 unfold qz at h
 unfold dL
 split
 ·rename_i n e
  simp only at h
  rw [h];rfl
 ·rfl
theorem ur {E:Addr→Prop}{H:Hp}{x:V}{n e:Int} (h:aK E H x (.tuple [.int n,.int e])):∃o,x=.ref o∧H o=some (.tup [.int n,.int e]):=iU (p:=(n,e)) h
theorem vP {n e:Int}{wn wk:Nat} (h:Wt (.tuple [.int n,.int e]) wn wk):Sz 1900 n∧Sz 1900 e:=by
 cases h with
 | tuple r=>
  cases r with
  | cons h1 r=>
   cases r with
   | cons h2 r=>
    cases h1 with
    | int a=>
     cases h2 with
     | int b=>exact ⟨a,b⟩
def jO (n:Nat):PyData→Bool
 | .tuple ds=>decide (ds.length=n)
 | _=>false
theorem yo {n:Nat}{d:PyData} (h:jO n d=true):∃ds:List PyData,d=.tuple ds∧ds.length=n:=by
 cases d with
 | tuple ds=>exact ⟨ds,rfl,of_decide_eq_true h⟩
 | _=>cases h
theorem zg (ds:List PyData) (f:PyData→Bool):(ds.map f).all id=ds.all f:=by rw [List.all_map];rfl
theorem Ad {K:PySem.W.Frag}{E:Addr→Prop}{q:Addr}{zs:List V}{ds:List PyData}{H1:Hp}{σc:St}{g:TG}{te:TE}{Q:VK} (f:PyData→Bool) (hq:H1 q=some (.tup zs)) (r:au E H1 zs ds) (hl:zs.length≤10000)
 (step:∀x dx H' (R:VK),dx∈ds→aK E H' x dx→aa H1 H'→(∀H4,aa H' H4→R (.bl (f dx)) H4)→g x σc H' fun σ2 H2=>fD σc σ2∧te σ2 H2 R)
 (fin:∀D H',aa H1 H'→H' D=some (.lst ((ds.map f).map V.bl))→Q (.ref D) H'):∀D,H1 D=none→gl (yP K q) σc g tT te D H1 Q:=fun D hD=>by
 refine CO (xs:=zs) (fun i=>.bl (f ((ds[i]?).getD .none))) hl hD hq ?_ ?_
 ·intro i x H' R hxi sm kk
  obtain ⟨dx,e1,g1⟩:=r.get hxi
  rw [e1] at kk
  exact step x dx H' R (List.mem_of_getElem? e1) (g1.mono sm.toE) sm kk
 ·intro H2 s2 hD2
  have e3:(List.range zs.length).map (fun i=>V.bl (f ((ds[i]?).getD .none)))=(ds.map f).map V.bl:=by
   rw [r.length,dE (fun i=>V.bl (f ((ds[i]?).getD .none))) (fun d=>V.bl (f d)) ds (fun i x e=>by rw [e];rfl),List.map_map]
   rfl
  rw [e3] at hD2
  exact fin D H2 s2 hD2
theorem F7 {n e:Int} (h:1≤e):PyData.eqv (bJ (KM.low n e)) (.tuple [.int n,.int e])=decide (Int.gcd n e=1):=by
 have e1:PyData.eqv (bJ (KM.low n e)) (.tuple [.int n,.int e])=((KM.low n e).1==n && ((KM.low n e).2==e && true)):=by
  simp [PyData.eqv,PyData.eqvAll]
 rw [e1]
 obtain ⟨_,_,c,_⟩:=KM.low_spec n e (by trivial)
 by_cases g:Int.gcd n e=1
 ·rw [KM.low_self h g,g];simp
 ·rw [decide_eq_false g]
  by_cases q1:(KM.low n e).1=n
  ·by_cases q2:(KM.low n e).2=e
   ·rw [q1,q2] at c;exact absurd c g
   ·simp [q2]
  ·simp [q1]
theorem F8 {d:PyData} (h:jO 2 d=false):eF d=false:=by
 cases d with
 | tuple ds=>rcases ds with _ | ⟨a,_ | ⟨b,_ | ⟨z,r⟩⟩⟩ <;> first | rfl | (cases a <;> rfl) | (cases a <;> first | rfl | (cases b <;> rfl)) | cases h
 | _=>rfl
theorem KW {d:PyData} (h:jO 2 d=true):bP fun a b=>d=.tuple [a,b]:=by
 obtain ⟨ds,rfl,hl⟩:=yo h
 exact dR (P:=fun l=>bP fun a b=>PyData.tuple l=.tuple [a,b]) (fun a b=>⟨a,b,rfl⟩) _ hl
theorem Dp {a b:PyData} (h:(lj a && lj b)=false):eF (.tuple [a,b])=false:=by
 cases a with
 | int n=>
  cases b with
  | int m=>cases h
  | _=>rfl
 | _=>rfl
def gL {β:Type} (f:PyData→β→Bool) (ds:List PyData) (ms:List β):Bool:=(List.zipWith f ds ms).all id
def bu (ms:List KM.Fra):PyData→Bool
 | .list ds=>decide (ds.length=ms.length) && gL dL ds ms
 | _=>false
theorem AK {β:Type}{f:PyData→β→Bool}{ds:List PyData}{ms:List β}{d:PyData} (hl:ds.length=ms.length) (hd:d∈ds) (h:∀m,f d m=false):gL f ds ms=false:=by
 obtain ⟨i,e⟩:=List.getElem?_of_mem hd
 have hi:=(List.getElem?_eq_some_iff.mp e).1
 have e2:ms[i]?=some (ms[i]'(by trivial)):=List.getElem?_eq_getElem (by trivial)
 unfold gL
 rw [List.all_eq_false]
 refine ⟨f d (ms[i]'(by trivial)),?_,by rw [h];decide⟩
 exact List.mem_of_getElem? (i:=i) (by rw [List.getElem?_zipWith,e,e2])
theorem BD {d:PyData} (h:eF d=false) (m:KM.Fra):dL d m=false:=(rH h).2 m
theorem wA {β:Type}{K:PySem.W.Frag}{E F:Addr→Prop}{a1 a2:Addr}{c1 c2:Bool}{xs ys:List V}{ds:List PyData}{ms:List β}{g:β→PyData}{H1:Hp}{σc:St}{te:TE}{Q:VK}{j1 j2:Nat} (f:PyData→β→Bool) (h1:∀H',aa H1 H'→iV K H' a1 xs c1) (h2:∀H',aa H1 H'→iV K H' a2 ys c2) (r:au E H1 xs ds) (q:au F H1 ys (ms.map g)) (hl:ds.length=ms.length) (hz:ds.length≤10000)
 (step:∀x y dx m H' (R:VK),dx∈ds→m∈ms→aK E H' x dx→aK F H' y (g m)→aa H1 H'→(∀H4,aa H' H4→R (.bl (f dx m)) H4)→(fun σ2 H2=>fD σc σ2∧te σ2 H2 R) ((σc.set j1 (some x)).set j2 (some y)) H')
 (fin:∀D H',aa H1 H'→H' D=some (.lst ((List.zipWith f ds ms).map V.bl))→Q (.ref D) H'):∀D,H1 D=none→gl (yK K a1 a2 c1 c2) σc (Be K 2 (vA (ow j1) (vA (ow j2) DV))) tT te D H1 Q:=fun D hD=>by
 have l1:=r.length
 have l2:=q.length
 rw [List.length_map] at l2
 have hmin:min xs.length ys.length=ds.length:=by trivial
 refine xC (xs:=xs) (ys:=ys) (fun i=>.bl (((List.zipWith f ds ms)[i]?).getD false)) (by trivial) hD h1 h2 ?_ ?_
 ·intro i x y H' R hx hy sm kk
  obtain ⟨dx,e1,g1⟩:=r.get hx
  obtain ⟨dy,e2,g2⟩:=q.get hy
  rw [List.getElem?_map] at e2
  obtain ⟨m,e3,rfl⟩:=Option.map_eq_some_iff.mp e2
  have ez:(List.zipWith f ds ms)[i]?=some (f dx m):=by rw [List.getElem?_zipWith,e1,e3]
  rw [ez] at kk
  exact step x y dx m H' R (List.mem_of_getElem? e1) (List.mem_of_getElem? e3) (g1.mono sm.toE) (g2.mono sm.toE) sm kk
 ·intro H2 s2 hD2
  have lz:(List.zipWith f ds ms).length=ds.length:=by rw [List.length_zipWith];trivial
  have e3:(List.range (min xs.length ys.length)).map (fun i=>V.bl (((List.zipWith f ds ms)[i]?).getD false))=(List.zipWith f ds ms).map V.bl:=by
   rw [hmin,←lz,dE (fun i=>V.bl (((List.zipWith f ds ms)[i]?).getD false)) V.bl (List.zipWith f ds ms) (fun i x e=>by rw [e];rfl)]
  rw [e3] at hD2
  exact fin D H2 s2 hD2
theorem Gr {K:PySem.W.Frag}{E:Addr→Prop}{q:Addr}{zs:List V}{ds:List PyData}{H1:Hp}{σc:St}{g:TG}{te:TE}{Q:VK} (f:PyData→Bool) (hq:H1 q=some (.lst zs)) (r:au E H1 zs ds) (hl:zs.length≤10000)
 (step:∀x dx H' (R:VK),dx∈ds→aK E H' x dx→aa H1 H'→(∀H4,aa H' H4→R (.bl (f dx)) H4)→g x σc H' fun σ2 H2=>fD σc σ2∧te σ2 H2 R)
 (fin:∀D H',aa H1 H'→H' D=some (.lst ((ds.map f).map V.bl))→Q (.ref D) H'):∀D,H1 D=none→gl (yr K q) σc g tT te D H1 Q:=fun D hD=>by
 refine xM (xs:=zs) (fun i=>.bl (f ((ds[i]?).getD .none))) hl hD hq ?_ ?_
 ·intro i x H' R hxi sm kk
  obtain ⟨dx,e1,g1⟩:=r.get hxi
  rw [e1] at kk
  exact step x dx H' R (List.mem_of_getElem? e1) (g1.mono sm.toE) sm kk
 ·intro H2 s2 hD2
  have e3:(List.range zs.length).map (fun i=>V.bl (f ((ds[i]?).getD .none)))=(ds.map f).map V.bl:=by
   rw [r.length,dE (fun i=>V.bl (f ((ds[i]?).getD .none))) (fun d=>V.bl (f d)) ds (fun i x e=>by rw [e];rfl),List.map_map]
   rfl
  rw [e3] at hD2
  exact fin D H2 s2 hD2
section
variable {P:Program}{w:World}{K:PySem.W.Frag}{mg:Str→Option Value}{base:Heap}
inductive Ir (vs:List V) (H:Hp) (Q:VK):Prop
 | mk (x:V) (d:PyData) (E:Addr→Prop) (h0:vs=[x]) (h1:aK E H x d) (h2:Q (.bl (qz d)) H)
def Jk:Sp:=fun vs H Q _=>Ir  vs H Q
theorem uc (T:Txt K mg):aV P w K mg base CX0 3 T.is_from_nought_.f T.is_from_nought_.d ["thing"] Jk:=by
 have G_is_fraction:=#[(pH)]
 refine T.is_from_nought_.F.ok ua (fun vs H Q E h=>?_) (fun cdv A outer s H vs Q E hr h=>?_)
 ·obtain ⟨x,d,E',rfl,_⟩:=h
  rfl
 ·obtain ⟨x,d,E',rfl,hx,k⟩:=h
  refine ⟨_,#[ac 3 #[ax 4 #[gB 7 #[G_is_fraction,kA,T.is_fraction_,#[[#[0,i8]]]] #[gW 5 #[bH 8 (@tu _) #[#[0,i8][#[()]]] #[()] #[(),()]]]]]],?_⟩
  refine ⟨(),x,d,E',rfl,hx,(),?_⟩
  cases hb:eF d with
  | false=>
   rw [(rH hb).1] at k
   exact aO k
  | true=>
   obtain ⟨n,e,rfl,h1,h2⟩:=uE hb
   obtain ⟨o,rfl,ho⟩:=ur hx
   refine av ⟨(),o,_,_,(),rfl,ad.of ho,rfl,_,(),rfl,?_⟩
   have e0:qz (.tuple [.int n,.int e])=decide (0≤n):=by
    show (eF (.tuple [.int n,.int e]) && decide (0≤n))=_
    rw [hb];rfl
   rw [e0] at k
   exact k
inductive Ce (vs:List V) (H:Hp) (Q:VK):Prop
 | mk (x m:V) (d:PyData) (E F:Addr→Prop) (p:KM.Fra) (wn wk:Nat) (h0:vs=[x,m]) (h1:aK E H x d) (h2:Wt d wn wk) (h3:aK F H m (bJ p)) (h4:Fb 40 p.1 p.2) (h5:Q (.bl (dL d p)) H)
def Ef:Sp:=fun vs H Q _=>Ce  vs H Q
theorem vD (T:Txt K mg):aV P w K mg base CX0 4 T.goes_within_.f T.goes_within_.d ["thing", "most"] Ef:=by
 have G_is_from_nought:=#[(uc)]
 have G_compared:=#[(ul)]
 refine T.goes_within_.F.ok wH (fun vs H Q E h=>?_) (fun cdv A outer s H vs Q E hr h=>?_)
 ·obtain ⟨x,m,d,E',F,p,wn,wk,rfl,_⟩:=h
  rfl
 ·obtain ⟨x,m,d,E',F,p,wn,wk,rfl,hx,wd,hm,fm,k⟩:=h
  refine ⟨_,#[ac 3 #[ax 4 #[gB 7 #[G_is_from_nought,kT,T.is_from_nought_,#[[#[0,kn]]]] #[gW 5 #[bH 8 (@AU _) #[G_compared,pf,T.compared_,#[[#[0,kn],#[1,sQ]]]] #[()] #[(),()]]]]]],?_⟩
  refine ⟨(),x,d,E',rfl,hx,(),?_⟩
  cases hb:qz d with
  | false=>
   rw [yu hb] at k
   exact aO k
  | true=>
   have hb':eF d=true:=by
    cases hc:eF d with
    | true=>rfl
    | false=>rw [(rH hc).1] at hb;cases hb
   obtain ⟨n,e,rfl,h1,h2⟩:=uE hb'
   obtain ⟨o,rfl,ho⟩:=ur hx
   obtain ⟨om,rfl,hom⟩:=iU hm
   obtain ⟨z1,z2⟩:=vP wd
   refine av ⟨(),(),o,om,_,_,_,(),ho,hom,z1.mono (by decide),z2.mono (by decide),fm.sn.mono (by decide),fm.sd.mono (by decide),_,(),rfl,?_⟩
   have ec:decide (uN (n*p.2) (p.1*e)≤0)=decide (n*p.2≤p.1*e):=by
    unfold uN
    by_cases q1:n*p.2<p.1*e
    ·rw [if_pos q1,decide_eq_true (by trivial:n*p.2≤p.1*e)];rfl
    ·rw [if_neg q1]
     by_cases q2:p.1*e<n*p.2
     ·rw [if_pos q2,decide_eq_false (by trivial:¬n*p.2≤p.1*e)];rfl
     ·rw [if_neg q2,decide_eq_true (by trivial:n*p.2≤p.1*e)];rfl
   have e0:dL (.tuple [.int n,.int e]) p=decide (n*p.2≤p.1*e):=by
    have hb2:(eF (.tuple [.int n,.int e]) && decide (0≤n))=true:=hb
    show ((eF (.tuple [.int n,.int e]) && decide (0≤n)) && decide (n*p.2≤p.1*e))=_
    rw [hb2];rfl
   rw [e0,←ec] at k
   exact k
inductive Eu (vs:List V) (H:Hp) (Q:VK):Prop
 | mk (x:V) (n:Nat) (d:PyData) (E:Addr→Prop) (h0:vs=[x,.int (n:Int)]) (h1:aK E H x d) (h2:Q (.bl (jO n d)) H)
def F4:Sp:=fun vs H Q _=>Eu  vs H Q
theorem vU (T:Txt K mg):aV P w K mg base CX0 1 T.is_tuple_of_.f T.is_tuple_of_.d ["thing", "size"] F4:=by
 refine T.is_tuple_of_.F.ok vY (fun vs H Q E h=>?_) (fun cdv A outer s H vs Q E hr h=>?_)
 ·obtain ⟨x,n,d,E',rfl,_⟩:=h
  rfl
 ·obtain ⟨x,n,d,E',rfl,hx,k⟩:=h
  refine ⟨_,#[ac 3 #[ax 4 #[gB 7 #[(),(),(@cV _ (K) (by rfl)),nu,T.b_isinstance,(@aJ),#[[#[0,kg],#[eR 4 rE T.b_tuple (@bN) (by decide) (by decide)]]]] #[gW 5 #[bH 8 (@b8 _) #[(),(),(@d9 _ (K) (by rfl)),tL,T.b_len,(@bh),#[[#[0,kg]]]] #[1,rR] #[(),()]]]]]],?_⟩
  refine ⟨(),_,_,_,(),hx.ty,jE d,(),?_⟩
  cases hx with
  | non=>exact aO k
  | bl b=>exact aO k
  | int i=>exact aO k
  | str y=>exact aO k
  | lst h ne r=>exact aO k
  | @tup a xs ds h r=>
   refine av ⟨(),a,xs,rfl,.inr (ad.of h),(),rfl,?_⟩
   have e:decide (V.int (xs.length:Int)=V.int (n:Int))=jO n (.tuple ds):=by
    show _=decide (ds.length=n)
    rw [r.length]
    by_cases c:ds.length=n
    ·rw [decide_eq_true c,c,decide_eq_true rfl]
    ·rw [decide_eq_false c,decide_eq_false]
     intro z
     injection z with z
     exact c (by trivial)
   rw [e]
   exact k
inductive DJ (vs:List V) (H:Hp) (Q:VK):Prop
 | mk (x:V) (ml:Addr) (d:PyData) (E:Addr→Prop) (ys:List V) (ms:List KM.Fra) (wn wk:Nat) (h0:vs=[x,.ref ml]) (h1:aK E H x d) (h2:Wt d wn wk) (h3:wn≤3000) (h4:wk≤40) (h5:H ml=some (.lst ys)) (h6:(∃F:Addr→Prop,au F H ys (ms.map bJ))) (h7:(∀m∈ms,Fb 24 m.1 m.2)) (h8:ms.length≤100) (h9:∀H',aa H H'→Q (.bl (bu ms d)) H')
def AH:Sp:=fun vs H Q _=>DJ  vs H Q
theorem qR (T:Txt K mg):aV P w K mg base CX0 5 T.are_within_.f T.are_within_.d ["thing", "mosts"] AH:=by
 have G_goes_within:=#[(vD)]
 refine T.are_within_.F.ok ye (fun vs H Q E h=>?_) (fun cdv A outer s H vs Q E hr h=>?_)
 ·obtain ⟨x,ml,d,E',ys,ms,wn,wk,rfl,_⟩:=h
  rfl
 ·obtain ⟨x,ml,d,E',ys,ms,wn,wk,rfl,hx,wd,hwn,hwk,hml,⟨FF,iy⟩,fm,hm100,k⟩:=h
  refine ⟨_,#[#[bn 8 #[PW.pt 3 #[gh 7 #[cw 4 #[bK 3 #[(),(),(@cV _ (K) (by rfl)),nV,T.b_isinstance,(@aJ),#[[#[0,iB],#[eR 4 tP T.b_list (@b4) (by decide) (by decide)]]]] (by intro _;rfl)]] #[gr 4 #[aH 8 (@jH _) #[(),(),(@d9 _ (K) (by rfl)),nG,T.b_len,(@bh),#[[#[0,iB]]]] #[(),(),(@d9 _ (K) (by rfl)),nG,T.b_len,(@bh),#[[#[1,lM]]]] #[(),()]]]]] #[ac 3 #[ax 4 #[dj 4]]] (@aM _)] :: #[ac 3 #[ax 4 #[(),(),(@k9 _ (K) rfl (by rfl)),uq,T.b_all,(@dY),#[[#[bq 7 (["much", "most"]) (2) ([]) _ _ _ _ rfl (by kernel_rfl) (@dN _ (K) _ _ _ _ _ _ _ _ uM T.b_zip #[[#[0,iB],#[1,lM]]] (by rfl) (by rfl) (by rfl)) (fun _ _ _ _ _ _=>(@br _ (K) _ _ _ _ (2) rfl #[ak 5 #[0,(),()] #[ak 5 #[1,(),()] (@bI _) (by rfl)] (by rfl)] (by rfl) (by rfl) (by rfl))) (fun _ _ _ _ _ _=>@bf _) (fun _ _ _ _ _ _=>#[G_goes_within,(),T.goes_within_,#[[#[0,()],#[1,()]]]]) (by intro _;rfl)]]]]]]],?_⟩
  refine ⟨(),_,_,_,(),hx.ty,kX d,(),?_⟩
  have k0:=k H (aa.refl _)
  cases hx with
  | non=>exact av (av k0)
  | bl b=>exact av (av k0)
  | int i=>exact av (av k0)
  | str y=>exact av (av k0)
  | tup h r=>exact av (av k0)
  | @lst a xs ds h ne r=>
   have lx:=r.length
   have ly:=iy.length
   rw [List.length_map] at ly
   have eP:bu ms (.list ds)=(decide (ds.length=ms.length) && gL dL ds ms):=rfl
   refine aO ⟨(),a,xs,rfl,.inl (ah.of h),(),ml,ys,rfl,.inl (ah.of hml),rfl,(),?_⟩
   by_cases hl:ds.length=ms.length
   ·have ee:(!decide (V.int (xs.length:Int)=V.int (ys.length:Int)))=false:=by
     rw [show xs.length=ys.length by trivial];exact sA _
    rw [ee]
    rw [eP,decide_eq_true hl,Bool.true_and] at k
    refine aO ⟨(),(),a,ml,true,true,rfl,⟨_,ah.of h⟩,⟨_,ah.of hml⟩,wA (E:=E') (F:=FF) (g:=bJ) dL (fun H' s'=>ah.of (s' _ _ h)) (fun H' s'=>ah.of (s' _ _ hml)) r iy hl (by trivial) ?_ ?_⟩
    ·intro x y dx m H' R hdx hm gx gy sm kk
     obtain ⟨mw,_,wx⟩:∃mw,mw≤wn∧Wt dx mw wk:=by
      cases wd with
      | list wl=>
       obtain ⟨mw,q1,q2⟩:=kD wl hdx
       exact ⟨mw,by trivial,q2.deep (by trivial)⟩
     exact ⟨qC,(),(),x,y,dx,E',FF,m,mw,wk,rfl,gx,wx,gy,(fm m hm).mono (by decide),kk H' (aa.refl _)⟩
    ·intro D H1 s1 hD1
     exact ⟨D,(),ah.of hD1,k H1 s1⟩
   ·rw [eP,decide_eq_false hl,Bool.false_and] at k0
    have:(!decide (V.int (xs.length:Int)=V.int (ys.length:Int)))=true:=nP (by trivial)
    rw [this]
    exact av k0
end
end K54
namespace K54
open PySem L2
set_option maxHeartbeats 16000000
section
variable {P:Program}{w:World}{K:PySem.W.Frag}{mg:Str→Option Value}{base:Heap}
inductive HJ (vs:List V) (H:Hp) (Q:VK):Prop
 | mk (x:V) (d:PyData) (E:Addr→Prop) (wn wk:Nat) (h0:vs=[x]) (h1:aK E H x d) (h2:Wt d wn wk) (h3:∀H',aa H H'→Q (.bl (eF d)) H')
def JQ:Sp:=fun vs H Q _=>HJ  vs H Q
theorem AT (T:Txt K mg):aV P w K mg base CX0 2 T.l_is_fr_.f T.l_is_fr_.d ["_law_thing"] JQ:=by
 have G_l_fr:=#[(qt)]
 refine T.l_is_fr_.F.ok AQ (fun vs H Q E h=>?_) (fun cdv A outer s H vs Q E hr h=>?_)
 ·obtain ⟨x,d,F,wn,wk,rfl,_⟩:=h
  rfl
 ·obtain ⟨x,d,F,wn,wk,rfl,hx,wd,k⟩:=h
  refine ⟨_,#[#[bn 8 #[PW.pt 3 #[gh 7 #[cw 4 #[bK 3 #[(),(),(@cV _ (K) (by rfl)),qK,T.b_isinstance,(@aJ),#[[#[0,cF],#[eR 4 uX T.b_tuple (@bN) (by decide) (by decide)]]]] (by intro _;rfl)]] #[gr 4 #[aH 8 (@jH _) #[(),(),(@d9 _ (K) (by rfl)),yd,T.b_len,(@bh),#[[#[0,cF]]]] #[()] #[(),()]]]]] #[ac 3 #[ax 4 #[dj 4]]] (@aM _)] :: #[#[bn 8 #[cw 4 #[bK 3 #[(),(),(@k9 _ (K) rfl (by rfl)),ya,T.b_all,(@dY),#[[#[bq 7 (["_law_one"]) (1) ([]) _ _ _ _ rfl (by kernel_rfl) (@dW _ (K) _ _ _ #[0,cF] (by rfl)) (fun _ _ _ _ _ _=>#[0,(),()]) (fun _ _ _ _ _ _=>@bf _) (fun _ _ _ _ _ _=>#[gB 7 #[(),(),(@cV _ (K) (by rfl)),(by show _=_;kernel_rfl),T.b_isinstance,(@aJ),#[[#[0,()],#[eR 4 (by show _=_;kernel_rfl) T.b_int (@dg) (by decide) (by decide)]]]] #[gW 5 #[C8 4 #[(),(),(@cV _ (K) (by rfl)),(by show _=_;kernel_rfl),T.b_isinstance,(@aJ),#[[#[0,()],#[eR 4 (by show _=_;kernel_rfl) T.b_bool (@jJ) (by decide) (by decide)]]]]]]]) (by intro _;rfl)]]]] (by intro _;rfl)]] #[ac 3 #[ax 4 #[dj 4]]] (@aM _)] :: #[ac 3 #[ax 4 #[gB 7 #[bH 8 (@oO _) #[#[0,cF][#[()]]] #[()] #[(),()]] #[gW 5 #[bH 8 (@C0 _ hr.units) #[G_l_fr,vO,T.l_fr_,#[[#[#[0,cF][#[()]]],#[#[0,cF][#[()]]]]]] #[0,cF] #[(),()]]]]]]]],?_⟩
  refine ⟨(),_,_,_,(),hx.ty,jE d,(),?_⟩
  have k0:=k H (aa.refl _)
  cases hx with
  | non=>exact av (av k0)
  | bl b=>exact av (av k0)
  | int i=>exact av (av k0)
  | str y=>exact av (av k0)
  | lst h ne r=>exact av (av k0)
  | @tup a xs ds h r=>
   have hl:=r.length
   refine aO ⟨(),a,xs,rfl,.inr (ad.of h),rfl,(),?_⟩
   by_cases h2:ds.length=2
   ·obtain ⟨d1,d2,rfl⟩:=KW (d:=.tuple ds) (decide_eq_true h2) |> fun ⟨a,b,e⟩=>(⟨a,b,by injection e⟩:bP fun a b=>ds=[a,b])
    have r0:=r
    cases r with
    | @cons v1 _ _ _ r1 r=>
    cases r with
    | @cons v2 _ _ _ r2 r=>
    cases r
    have l2:(!decide (V.int (([v1,v2]:List V).length:Int)=V.int 2))=false:=rfl
    rw [l2]
    refine aO ⟨(),a,rfl,⟨_,ad.of h⟩,Ad (E:=F) lj h r0 (by show 2≤10000;decide) ?_ ?_⟩
    ·intro x dx H' R hm g1 sm kk
     refine ⟨cR,(),_,_,_,(),g1.ty,vJ dx,(),?_⟩
     have kk0:=kk H' (aa.refl _)
     cases dx with
     | int i=>exact av ⟨_,rfl,_,_,_,_,rfl,g1.ty,nM (.int i),_,rfl,kk0⟩
     | bool b=>exact av ⟨_,rfl,_,_,_,_,rfl,g1.ty,nM (.bool b),_,rfl,kk0⟩
     | none=>exact aO kk0
     | str _=>exact aO kk0
     | list _=>exact aO kk0
     | tuple _=>exact aO kk0
     | dict _=>exact aO kk0
    ·intro D H1 s1 hD1
     refine ⟨D,(),ah.of hD1,(),?_⟩
     rw [zg]
     have ka:=k H1 s1
     have e2:[d1,d2].all lj=(lj d1 && lj d2):=by simp
     rw [e2]
     cases hn:(lj d1 && lj d2) with
     | false=>
      rw [Dp hn] at ka
      exact av ka
     | true=>
      rw [Bool.and_eq_true] at hn
      cases r1 with
      | non=>cases hn.1
      | bl b=>cases hn.1
      | str y=>cases hn.1
      | lst _ _ _=>cases hn.1
      | tup _ _=>cases hn.1
      | int n=>
      cases r2 with
      | non=>cases hn.2
      | bl b=>cases hn.2
      | str y=>cases hn.2
      | lst _ _ _=>cases hn.2
      | tup _ _=>cases hn.2
      | int e=>
       have ha:=s1 _ _ h
       obtain ⟨z1,z2⟩:=vP wd
       refine aO ⟨(),a,_,_,(),rfl,ad.of ha,rfl,_,(),rfl,(),cG (fun c1=>?_) (fun c1=>?_)⟩
       ·have h1:0<e:=of_decide_eq_true c1
        refine ⟨(),a,_,_,(),rfl,ad.of ha,rfl,(),a,_,_,(),rfl,ad.of ha,rfl,n,e,rfl,h1,z2.mono (by decide),fun p H2 n2=>?_⟩
        have f:=Fb.low z1 z2 (show e≠0 by trivial)
        refine ⟨(),bJ (KM.low n e),.tuple [.int n,.int e],ED,ED,3,3,1,1,km n2.at',km (p:=(n,e)) (n2.sm _ _ ha),JF f (by decide),.tuple (.cons (.int z1) (.cons (.int z2) .nil)),by decide,?_⟩
        have kb:=k H2 (s1.trans n2.sm)
        have e0:eF (.tuple [.int n,.int e])=decide (Int.gcd n e=1):=by
         show (decide (1≤e) && decide (Int.gcd n e=1))=_
         rw [decide_eq_true (show 1≤e by trivial),Bool.true_and]
        rw [e0,←F7 (show 1≤e by trivial)] at kb
        exact kb
       ·have h1:¬1≤e:=fun z=>c1 (decide_eq_true (by trivial))
        have e0:eF (.tuple [.int n,.int e])=false:=by
         show (decide (1≤e) && decide (Int.gcd n e=1))=_
         rw [decide_eq_false h1,Bool.false_and]
        rw [e0] at ka
        exact ka
   ·have hq:jO 2 (.tuple ds)=false:=decide_eq_false h2
    rw [F8 hq] at k0
    have:(!decide (V.int (xs.length:Int)=V.int 2))=true:=nP (b:=2) (by trivial)
    rw [this]
    exact av k0
theorem CB (T:Txt K mg):aV P w K mg base CX0 3 T.l_fits_.f T.l_fits_.d ["_law_thing", "_law_mosts"] AH:=by
 have G_l_is_fr:=#[(AT)]
 have G_l_sign:=#[(FG)]
 refine T.l_fits_.F.ok CG (fun vs H Q E h=>?_) (fun cdv A outer s H vs Q E hr h=>?_)
 ·obtain ⟨x,ml,d,E',ys,ms,wn,wk,rfl,_⟩:=h
  rfl
 ·obtain ⟨x,ml,d,E',ys,ms,wn,wk,rfl,hx,wd,hwn,hwk,hml,⟨FF,iy⟩,fm,hm100,k⟩:=h
  refine ⟨_,#[#[bn 8 #[PW.pt 3 #[gh 7 #[cw 4 #[bK 3 #[(),(),(@cV _ (K) (by rfl)),rm,T.b_isinstance,(@aJ),#[[#[0,gI],#[eR 4 xZ T.b_list (@b4) (by decide) (by decide)]]]] (by intro _;rfl)]] #[gh 7 #[aH 8 (@jH _) #[(),(),(@d9 _ (K) (by rfl)),rL,T.b_len,(@bh),#[[#[0,gI]]]] #[(),(),(@d9 _ (K) (by rfl)),rL,T.b_len,(@bh),#[[#[1,nT]]]] #[(),()]] #[gr 4 #[cw 4 #[bK 3 #[(),(),(@k9 _ (K) rfl (by rfl)),sK,T.b_all,(@dY),#[[#[bq 7 (["_law_one"]) (1) ([]) _ _ _ _ rfl (by kernel_rfl) (@oh _ (K) _ _ _ #[0,gI] (by rfl)) (fun _ _ _ _ _ _=>#[0,(),()]) (fun _ _ _ _ _ _=>@bf _) (fun _ _ _ _ _ _=>#[G_l_is_fr,(),T.l_is_fr_,#[[#[0,()]]]]) (by intro _;rfl)]]]] (by intro _;rfl)]]]]]] #[ac 3 #[ax 4 #[dj 4]]] (@aM _)] :: #[ac 3 #[ax 4 #[(),(),(@k9 _ (K) rfl (by rfl)),sK,T.b_all,(@dY),#[[#[bq 7 (["_law_one", "_law_top"]) (2) ([]) _ _ _ _ rfl (by kernel_rfl) (@dN _ (K) _ _ _ _ _ _ _ _ yD T.b_zip #[[#[0,gI],#[1,nT]]] (by rfl) (by rfl) (by rfl)) (fun _ _ _ _ _ _=>(@br _ (K) _ _ _ _ (2) rfl #[ak 5 #[0,(),()] #[ak 5 #[1,(),()] (@bI _) (by rfl)] (by rfl)] (by rfl) (by rfl) (by rfl))) (fun _ _ _ _ _ _=>@bf _) (fun _ _ _ _ _ _=>#[gB 7 #[bH 8 (@tu _) #[#[0,()][#[()]]] #[()] #[(),()]] #[gW 5 #[bH 8 (@AU _) #[G_l_sign,(),T.l_sign_,#[[#[0,()],#[1,()]]]] #[()] #[(),()]]]]) (by intro _;rfl)]]]]]]],?_⟩
  refine ⟨(),_,_,_,(),hx.ty,kX d,(),?_⟩
  have k0:=k H (aa.refl _)
  cases hx with
  | non=>exact av (av k0)
  | bl b=>exact av (av k0)
  | int i=>exact av (av k0)
  | str y=>exact av (av k0)
  | tup h r=>exact av (av k0)
  | @lst a xs ds h ne r=>
   have lx:=r.length
   have ly:=iy.length
   rw [List.length_map] at ly
   have eP:bu ms (.list ds)=(decide (ds.length=ms.length) && gL dL ds ms):=rfl
   have wx':∀dx∈ds,∃mw,mw≤wn∧Wt dx mw wk:=fun dx hdx=>by
    cases wd with
    | list wl=>
     obtain ⟨mw,q1,q2⟩:=kD wl hdx
     exact ⟨mw,by trivial,q2.deep (by trivial)⟩
   refine aO ⟨(),a,xs,rfl,.inl (ah.of h),(),ml,ys,rfl,.inl (ah.of hml),rfl,(),?_⟩
   by_cases hl:ds.length=ms.length
   ·have ee:(!decide (V.int (xs.length:Int)=V.int (ys.length:Int)))=false:=by
     rw [show xs.length=ys.length by trivial];exact sA _
    rw [ee]
    rw [eP,decide_eq_true hl,Bool.true_and] at k
    refine aO ⟨(),a,rfl,⟨_,ah.of h⟩,Gr (E:=E') eF h r (by trivial) ?_ ?_⟩
    ·intro x dx H' R hdx gx sm kk
     obtain ⟨mw,_,wx⟩:=wx' dx hdx
     exact ⟨cR,(),x,dx,E',mw,wk,rfl,gx,wx,fun H4 s4=>kk H4 s4⟩
    intro D H1 s1 hD1
    refine ⟨D,(),ah.of hD1,(),?_⟩
    rw [zg]
    cases hb:ds.all eF with
    | false=>
     rw [List.all_eq_false] at hb
     obtain ⟨d,hd,h0⟩:=hb
     rw [AK hl hd (BD (Bool.eq_false_iff.mpr h0))] at k
     exact av (k H1 s1)
    | true=>
     rw [List.all_eq_true] at hb
     refine aO ⟨(),(),a,ml,true,true,rfl,⟨_,ah.of (s1 _ _ h)⟩,⟨_,ah.of (s1 _ _ hml)⟩,wA (E:=E') (F:=FF) (g:=bJ) dL (fun H' s'=>ah.of (s' _ _ (s1 _ _ h))) (fun H' s'=>ah.of (s' _ _ (s1 _ _ hml))) (r.mono s1.toE) (iy.mono s1.toE) hl (by trivial) ?_ ?_⟩
     ·intro x y dx m H' R hdx hm gx gy sm kk
      obtain ⟨n,e,rfl,h1,h2⟩:=uE (hb dx hdx)
      obtain ⟨o,rfl,ho⟩:=ur gx
      obtain ⟨om,rfl,hom⟩:=iU gy
      obtain ⟨mw,_,wx⟩:=wx' _ hdx
      obtain ⟨z1,z2⟩:=vP wx
      have fm':=fm m hm
      have eW:dL (.tuple [.int n,.int e]) m=(decide (0≤n) && decide (n*m.2≤m.1*e)):=by
       have hf:=hb _ hdx
       show ((eF (.tuple [.int n,.int e]) && decide (0≤n)) && decide (n*m.2≤m.1*e))=_
       rw [hf];rfl
      rw [eW] at kk
      refine ⟨qC,(),o,_,_,(),rfl,ad.of ho,rfl,_,(),rfl,(),?_⟩
      by_cases h0:0≤n
      ·rw [decide_eq_true h0,Bool.true_and] at kk
       rw [decide_eq_true h0]
       refine av ⟨(),(),o,om,(n,e),m,rfl,ho,hom,z1.mono (by decide),z2.mono (by decide),fm'.sn.mono (by decide),fm'.sd.mono (by decide),_,(),rfl,?_⟩
       have e9:decide (n*m.2 - m.1*e≤0)=decide (n*m.2≤m.1*e):=decide_eq_decide.mpr (by trivial)
       show R (.bl (decide (n*m.2 - m.1*e≤0))) H'
       rw [e9]
       exact kk H' (aa.refl _)
      ·rw [decide_eq_false h0,Bool.false_and] at kk
       rw [decide_eq_false h0]
       exact aO (kk H' (aa.refl _))
     ·intro D2 H2 s2 hD2
      exact ⟨D2,(),ah.of hD2,k H2 (s1.trans s2)⟩
   ·rw [eP,decide_eq_false hl,Bool.false_and] at k0
    have:(!decide (V.int (xs.length:Int)=V.int (ys.length:Int)))=true:=nP (by trivial)
    rw [this]
    exact av k0
end
end K54
namespace K54
open PySem L2
set_option maxHeartbeats 16000000
theorem fS {D:Addr}{H1:Hp}{σc:St}{g:TG}{te:TE}{Q:VK}{J:It}{n:Nat} (F:Nat→PyData) (hz:n≤10000) (hD:H1 D=none) (hgo:∀i H',i<n→aa H1 H'→J.go i H') (hst:∀H',aa H1 H'→J.stop n H')
 (hs:∀i x H' H'' (R:VK),i<n→aa H1 H'→J.yld i H' x H''→(∀v H4,aa H' H4→aK (um H') H4 v (F i)→R v H4)→g x σc H'' fun σ2 H2=>fD σc σ2∧te σ2 H2 R)
 (hd:∀zs H',aa H1 H'→H' D=some (.lst zs)→au (fun a=>a=D∨H1 a≠none) H' zs ((List.range n).map F)→Q (.ref D) H'):gl J σc g tT te D H1 Q:=by
 refine gH (n:=n) (fun i H' zs=>H' D=some (.lst zs)∧aa H1 H'∧au (fun a=>a=D∨H1 a≠none) H' zs ((List.range i).map F)) (fA hz) ⟨aE,di hD (aa.refl _),.nil⟩ ?_ ?_ ?_ ?_ ?_
 ·rintro i H' zs ⟨q,_,ia⟩
  exact ⟨q,by rw [ia.length];simp⟩
 ·rintro i H' zs hi ⟨_,sm,_⟩
  exact hgo i H' hi sm
 ·rintro H' zs ⟨_,sm,_⟩
  exact hst H' sm
 ·rintro i H' zs x H'' hi ⟨q,sm,ia⟩ y
  refine hs i x H' H'' _ hi sm y fun v H4 s4 dv=>?_
  have q4:=s4 _ _ q
  have se:af (fun a=>a=D∨H1 a≠none) H4 (aQ H4 D (.lst (zs++[v]))):=⟨fun a o n e=>by rw [aG fun z=>n (.inl z)];exact e,fun a us e=>by
   rw [aG (gn e q4 (by intro z;cases z))];exact e⟩
  refine ⟨q4,aE,di hD (sm.trans s4),?_⟩
  rw [List.range_succ,List.map_append]
  refine ((ia.mono s4.toE).mono se).append (.cons ((dv.narrow fun a e=>?_).mono se) .nil)
  rcases e with e | e
  ·show H' a≠none
   rw [e,q]
   exact fun z=>nomatch z
  ·show H' a≠none
   cases h:H1 a with
   | none=>exact absurd h e
   | some o=>rw [sm _ _ h];exact fun z=>nomatch z
 ·rintro H' zs ⟨q,sm,ia⟩
  exact hd zs H' sm q ia
theorem EL {E:Addr→Prop}{H:Hp}{c:Nat}:∀{xs:List V}{ps:List KM.Fra},au E H xs (ps.map bJ)→(∀p∈ps,Fr c p)→FL c H xs ps
 | _,[],h,_=>by cases h;exact .nil
 | _,p :: ps,h,f=>by
  cases h with
  | cons h1 r=>
   obtain ⟨o,rfl,ho⟩:=iU h1
   exact .cons ho (f p (List.mem_cons_self ..)) (EL r fun q hq=>f q (List.mem_cons_of_mem _ hq))
def Lr (H:Hp) (a:Addr) (ps:List KM.Fra):Prop:=∃xs,H a=some (.lst xs)∧FL 300 H xs ps
theorem qa {E:Addr→Prop}{H:Hp}{v:V}{ps:List KM.Fra} (h:aK E H v (aX ps)) (f:∀p∈ps,Fr 300 p):∃o,v=.ref o∧Lr H o ps:=by
 cases h with
 | @lst o xs _ ho _ r=>exact ⟨o,rfl,xs,ho,EL r f⟩
theorem vo {E:Addr→Prop}{H:Hp}{v:V}{b:dJ} (h:aK E H v (ki b)):Lw fun a s k z us ks zs=>v=.ref a∧H a=some (.tup [.ref s,.ref k,.ref z])∧H s=some (.lst us)∧au E H us (b.se.map aX)∧H k=some (.lst ks)∧au E H ks (b.ke.map aX)∧H z=some (.lst zs)∧au E H zs (b.dr.map bJ):=by
 cases h with
 | @tup a xs _ ha r=>
 cases r with
 | cons h1 r=>
 cases r with
 | cons h2 r=>
 cases r with
 | cons h3 r=>
 cases r
 cases h1 with
 | @lst s us _ hs _ rs=>
 cases h2 with
 | @lst k ks _ hk _ rk=>
 cases h3 with
 | @lst z zs _ hz _ rz=>
 exact ⟨a,s,k,z,us,ks,zs,rfl,ha,hs,rs,hk,rk,hz,rz⟩
theorem CV {d:aP}{x:iw} (g:qA d x) (h:Nat):Fr 24 (dh d x h):=by
 unfold dh
 split
 ·exact g.m
 ·exact Fb.small (by decide) (by decide) (by decide) (by decide)
section
variable {P:Program}{w:World}{K:PySem.W.Frag}{mg:Str→Option Value}{base:Heap}
inductive Jv (vs:List V) (H:Hp) (Q:VK):Prop
 | mk (dv tv:V) (d:aP) (x:iw) (h0:vs=[dv,tv]) (h1:aK ED H dv (pb d)) (h2:aK ED H tv (u5 x)) (h3:d.hr≤8) (h4:∀v H',aa H H'→aK (um H) H' v (aX ((List.range d.hr).map (dh d x)))→Q v H')
def KF:Sp:=fun vs H Q _=>Jv  vs H Q
theorem yC (T:Txt K mg):aV P w K mg base CX0 2 T.tie_mosts_.f T.tie_mosts_.d ["day", "tie"] KF:=by
 have G_may_send:=#[(Fl)]
 refine T.tie_mosts_.F.ok yH (fun vs H Q E h=>?_) (fun cdv A outer s H vs Q E hr h=>?_)
 ·obtain ⟨dv,tv,d,x,rfl,_⟩:=h
  rfl
 ·obtain ⟨dv,tv,d,x,rfl,hd,ht,h8,k⟩:=h
  refine ⟨_,#[ac 3 #[ax 4 #[bq 7 (["hour", "day", "tie"]) (1) ([0,1]) _ _ _ _ rfl (by kernel_rfl) #[b9 6 tZ T.b_range #[[#[#[0,(vh)][#[()]]]]] (by rfl)] (fun _ _ _ _ _ _=>#[0,(),()]) (fun _ _ _ _ _ _=>@bf _) (fun _ _ _ _ _ _=>#[fZ 8 #[bK 3 #[G_may_send,(),T.may_send_,#[[#[1,0],#[2,0],#[0,()]]]] (by intro _;rfl)] #[#[2,0][#[()]]] #[aD 5 #[[#[()],#[()]]]]]) (by intro _;rfl)]]],?_⟩
  obtain ⟨a,p,tt,st,wl,wi,ts,ss,ws,is,Dd⟩:=g9 hd
  cases Dd.ev
  obtain ⟨ta,om,og,op_,oo,rfl,hta,hom,_,_,_⟩:=lF ht
  refine Ht fun Qr nr=>⟨(),a,_,_,(),rfl,ad.of Dd.ha,rfl,(),by trivial,by trivial,fun D hD=>fS (n:=d.hr) (fun h=>bJ (dh d x h)) (by trivial) hD (fun i H' hi _=>by show i<_;trivial) (fun H' _=>by show _≤_;trivial) ?_ ?_⟩
  ·rintro h y H3 H4 Rk hh s3 ⟨rfl,rfl⟩ kk
   refine ⟨cR,?_⟩
   have e0:(0:Int)+(h:Int)=h:=by trivial
   rw [e0]
   refine ⟨(),(),(),_,_,d,x,h,rfl,hd.mono s3.toE,ht.mono s3.toE,(),?_⟩
   by_cases c:(decide ((h:Int)∈x.op) && decide (h+x.la<d.hr))=true
   ·rw [c]
    have e:dh d x h=x.mo:=if_pos c
    refine av ⟨(),ta,_,_,(),rfl,ad.of (s3 _ _ hta),rfl,kk _ _ (aa.refl _) ?_⟩
    rw [e]
    exact rG (s3 _ _ hom)
   ·have c':(decide ((h:Int)∈x.op) && decide (h+x.la<d.hr))=false:=by simpa using c
    rw [c']
    have e:dh d x h=(0,1):=if_neg c
    refine aO ⟨(by show 2≤10000;decide),fun q5 H5 k5=>kk _ _ k5.sm ?_⟩
    rw [e]
    exact rG k5.at'
  intro zs H2 s2 hD2 ia
  refine nr _ _ (k _ _ s2 ?_)
  unfold aX
  rw [List.map_map]
  exact .lst hD2 (fun z=>z hD) (ia.narrow fun z e=>.inr e)
inductive JA (vs:List V) (H:Hp) (Q:VK):Prop
 | mk (dv tv:V) (d:aP) (x:kE) (h0:vs=[dv,tv]) (h1:aK ED H dv (pb d)) (h2:aK ED H tv (AB x)) (h3:d.hr≤8) (h4:∀v H',aa H H'→aK (um H) H' v (aX ((List.range d.hr).map fun _=>x.mo))→Q v H')
def La:Sp:=fun vs H Q _=>JA  vs H Q
theorem vR (T:Txt K mg):aV P w K mg base CX0 1 T.store_mosts_.f T.store_mosts_.d ["day", "store"] La:=by
 refine T.store_mosts_.F.ok vH (fun vs H Q E h=>?_) (fun cdv A outer s H vs Q E hr h=>?_)
 ·obtain ⟨dv,tv,d,x,rfl,_⟩:=h
  rfl
 ·obtain ⟨dv,tv,d,x,rfl,hd,ht,h8,k⟩:=h
  refine ⟨_,#[ac 3 #[ax 4 #[bq 7 (["hour", "store"]) (1) ([1]) _ _ _ _ rfl (by kernel_rfl) #[b9 6 rF T.b_range #[[#[#[0,tY][#[()]]]]] (by rfl)] (fun _ _ _ _ _ _=>#[0,(),()]) (fun _ _ _ _ _ _=>@bf _) (fun _ _ _ _ _ _=>#[#[1,0][#[()]]]) (by intro _;rfl)]]],?_⟩
  obtain ⟨a,p,tt,st,wl,wi,ts,ss,ws,is,Dd⟩:=g9 hd
  cases Dd.ev
  obtain ⟨ta,om,ok,rfl,hta,hom,_⟩:=pU ht
  refine Ht fun Qr nr=>⟨(),a,_,_,(),rfl,ad.of Dd.ha,rfl,(),by trivial,by trivial,fun D hD=>fS (n:=d.hr) (fun _=>bJ x.mo) (by trivial) hD (fun i H' hi _=>by show i<_;trivial) (fun H' _=>by show _≤_;trivial) ?_ ?_⟩
  ·rintro h y H3 H4 Rk hh s3 ⟨rfl,rfl⟩ kk
   exact ⟨cR,(),ta,_,_,(),rfl,ad.of (s3 _ _ hta),rfl,kk _ _ (aa.refl _) (rG (s3 _ _ hom))⟩
  intro zs H2 s2 hD2 ia
  refine nr _ _ (k _ _ s2 ?_)
  unfold aX
  rw [List.map_map]
  exact .lst hD2 (fun z=>z hD) (ia.narrow fun z e=>.inr e)
def cX (cs:List (List KM.Fra)):PyData→Bool
 | .list ds=>decide (ds.length=cs.length) && gL (fun d c=>bu c d) ds cs
 | _=>false
def cQ (d:aP):List (List KM.Fra):=d.ts.map fun x=>(List.range d.hr).map (dh d x)
def bV (d:aP):List (List KM.Fra):=d.ss.map fun x=>(List.range d.hr).map fun _=>x.mo
def dM (d:aP):PyData→Bool
 | .tuple [s,k,z]=>(cX (cQ d) s && cX (bV d) k) && bu (d.ws.map (·.mo)) z
 | _=>false
theorem vn {d:aP}{x:PyData} (h:jO 3 x=false):dM d x=false:=by
 unfold dM
 split
 ·cases h
 ·rfl
inductive HB (vs:List V) (H:Hp) (Q:VK):Prop
 | mk (x:V) (m:Addr) (d:PyData) (E F:Addr→Prop) (ms:List V) (cs:List (List KM.Fra)) (wn wk:Nat) (h0:vs=[x,.ref m]) (h1:aK E H x d) (h2:Wt d wn wk) (h3:wn≤3000) (h4:wk≤40) (h5:H m=some (.lst ms)) (h6:au F H ms (cs.map aX)) (h7:cs.length≤100) (h8:(∀c∈cs,c.length≤100∧∀p∈c,Fr 24 p)) (h9:∀H',aa H H'→Q (.bl (cX cs d)) H')
def Jl:Sp:=fun vs H Q _=>HB  vs H Q
theorem xY (T:Txt K mg):aV P w K mg base CX0 6 T.are_hourly_.f T.are_hourly_.d ["thing", "mosts"] Jl:=by
 have G_are_within:=#[(qR)]
 refine T.are_hourly_.F.ok yb (fun vs H Q E h=>?_) (fun cdv A outer s H vs Q E hr h=>?_)
 ·obtain ⟨x,m,d,E',F,ms,cs,wn,wk,rfl,_⟩:=h
  rfl
 ·obtain ⟨x,m,d,E',F,ms,cs,wn,wk,rfl,hx,wd,hwn,hwk,hm,im,l1,hc,k⟩:=h
  refine ⟨_,#[#[bn 8 #[PW.pt 3 #[gh 7 #[cw 4 #[bK 3 #[(),(),(@cV _ (K) (by rfl)),nU,T.b_isinstance,(@aJ),#[[#[0,iA],#[eR 4 tV T.b_list (@b4) (by decide) (by decide)]]]] (by intro _;rfl)]] #[gr 4 #[aH 8 (@jH _) #[(),(),(@d9 _ (K) (by rfl)),ng,T.b_len,(@bh),#[[#[0,iA]]]] #[(),(),(@d9 _ (K) (by rfl)),ng,T.b_len,(@bh),#[[#[1,lB]]]] #[(),()]]]]] #[ac 3 #[ax 4 #[dj 4]]] (@aM _)] :: #[ac 3 #[ax 4 #[(),(),(@k9 _ (K) rfl (by rfl)),uC,T.b_all,(@dY),#[[#[bq 7 (["row", "caps"]) (2) ([]) _ _ _ _ rfl (by kernel_rfl) (@dN _ (K) _ _ _ _ _ _ _ _ uP T.b_zip #[[#[0,iA],#[1,lB]]] (by rfl) (by rfl) (by rfl)) (fun _ _ _ _ _ _=>(@br _ (K) _ _ _ _ (2) rfl #[ak 5 #[0,(),()] #[ak 5 #[1,(),()] (@bI _) (by rfl)] (by rfl)] (by rfl) (by rfl) (by rfl))) (fun _ _ _ _ _ _=>@bf _) (fun _ _ _ _ _ _=>#[G_are_within,(),T.are_within_,#[[#[0,()],#[1,()]]]]) (by intro _;rfl)]]]]]]],?_⟩
  refine ⟨(),_,_,_,(),hx.ty,kX d,(),?_⟩
  have k0:=k H (aa.refl _)
  cases hx with
  | non=>exact av (av k0)
  | bl b=>exact av (av k0)
  | int i=>exact av (av k0)
  | str y=>exact av (av k0)
  | tup h r=>exact av (av k0)
  | @lst a xs ds h ne r=>
   have lx:=r.length
   have ly:=im.length
   rw [List.length_map] at ly
   have eP:cX cs (.list ds)=(decide (ds.length=cs.length) && gL (fun d c=>bu c d) ds cs):=rfl
   refine aO ⟨(),a,xs,rfl,.inl (ah.of h),(),m,ms,rfl,.inl (ah.of hm),rfl,(),?_⟩
   by_cases hl:ds.length=cs.length
   ·have ee:(!decide (V.int (xs.length:Int)=V.int (ms.length:Int)))=false:=by
     rw [show xs.length=ms.length by trivial];exact sA _
    rw [ee]
    rw [eP,decide_eq_true hl,Bool.true_and] at k
    refine aO ⟨(),(),a,m,true,true,rfl,⟨_,ah.of h⟩,⟨_,ah.of hm⟩,wA (E:=E') (F:=F) (g:=aX) (fun d c=>bu c d) (fun H' s'=>ah.of (s' _ _ h)) (fun H' s'=>ah.of (s' _ _ hm)) r im hl (by trivial) ?_ ?_⟩
    ·intro x y dx c H' R hdx hcm gx gy sm kk
     obtain ⟨mw,hmw,wx⟩:∃mw,mw≤wn∧Wt dx mw wk:=by
      cases wd with
      | list wl=>
       obtain ⟨mw,q1,q2⟩:=kD wl hdx
       exact ⟨mw,by trivial,q2.deep (by trivial)⟩
     obtain ⟨c1,c2⟩:=hc c hcm
     cases gy with
     | @lst o ys _ ho _ iy=>
     exact ⟨qC,(),(),x,o,dx,E',ys,c,mw,wk,rfl,gx,wx,by trivial,hwk,ho,⟨F,iy⟩,c2,c1,fun H4 s4=>kk H4 s4⟩
    ·intro D H1 s1 hD1
     exact ⟨D,(),ah.of hD1,k H1 s1⟩
   ·rw [eP,decide_eq_false hl,Bool.false_and] at k0
    have:(!decide (V.int (xs.length:Int)=V.int (ms.length:Int)))=true:=nP (by trivial)
    rw [this]
    exact av k0
inductive HR (vs:List V) (H:Hp) (Q:VK):Prop
 | mk (dv bv:V) (d:aP) (x:PyData) (E:Addr→Prop) (wn wk:Nat) (h0:vs=[dv,bv]) (h1:aK ED H dv (pb d)) (h2:aK E H bv x) (h3:Wt x wn wk) (h4:wn≤3000) (h5:wk≤40) (h6:jy d) (h7:∀H',aa H H'→Q (.bl (dM d x)) H')
def EO:Sp:=fun vs H Q _=>HR  vs H Q
theorem qM (T:Txt K mg):aV P w K mg base CX0 7 T.is_book_.f T.is_book_.d ["day", "thing"] EO:=by
 have G_is_tuple_of:=#[(vU)]
 have G_are_hourly:=#[(xY)]
 have G_are_within:=#[(qR)]
 have G_tie_mosts:=#[(yC)]
 have G_store_mosts:=#[(vR)]
 refine T.is_book_.F.ok mE (fun vs H Q E h=>?_) (fun cdv A outer s H vs Q E hr h=>?_)
 ·obtain ⟨dv,bv,d,x,E,wn,wk,rfl,_⟩:=h
  rfl
 ·obtain ⟨dv,bv,d,x,E1,wn,wk,rfl,hd,hb,wx,hwn,hwk,gd,k⟩:=h
  refine ⟨_,#[#[bn 8 #[cw 4 #[bK 3 #[G_is_tuple_of,ql,T.is_tuple_of_,#[[#[1,nY],#[()]]]] (by intro _;rfl)]] #[ac 3 #[ax 4 #[dj 4]]] (@aM _)] :: #[#[dH 6 #[1,nY] (@br _ (K) _ _ _ _ (3) rfl #[ak 5 #[2,mE.nd,pM] #[ak 5 #[3,mE.nd,pL] #[ak 5 #[4,mE.nd,oY] (@bI _) (by rfl)] (by rfl)] (by rfl)] (by rfl) (by rfl) (by rfl)) (by rfl) (by rfl) (by rfl)] :: #[#[bn 8 #[cw 4 #[bK 3 #[G_are_hourly,j8,T.are_hourly_,#[[#[2,pM],#[bq 7 (["tie", "day"]) (1) ([0]) _ _ _ _ rfl (by kernel_rfl) (@dW _ (K) _ _ _ #[#[0,(l0)][#[()]]] (by rfl)) (fun _ _ _ _ _ _=>#[0,(),()]) (fun _ _ _ _ _ _=>@bf _) (fun _ _ _ _ _ _=>#[G_tie_mosts,(),T.tie_mosts_,#[[#[1,0],#[0,()]]]]) (by intro _;rfl)]]]] (by intro _;rfl)]] #[ac 3 #[ax 4 #[dj 4]]] (@aM _)] :: #[#[bn 8 #[cw 4 #[bK 3 #[G_are_hourly,j8,T.are_hourly_,#[[#[3,pL],#[bq 7 (["store", "day"]) (1) ([0]) _ _ _ _ rfl (by kernel_rfl) (@dW _ (K) _ _ _ #[#[0,(l0)][#[()]]] (by rfl)) (fun _ _ _ _ _ _=>#[0,(),()]) (fun _ _ _ _ _ _=>@bf _) (fun _ _ _ _ _ _=>#[G_store_mosts,(),T.store_mosts_,#[[#[1,0],#[0,()]]]]) (by intro _;rfl)]]]] (by intro _;rfl)]] #[ac 3 #[ax 4 #[dj 4]]] (@aM _)] :: #[ac 3 #[ax 4 #[G_are_within,qJ,T.are_within_,#[[#[4,oY],#[bq 7 (["well"]) (1) ([]) _ _ _ _ rfl (by kernel_rfl) (@dW _ (K) _ _ _ #[#[0,(l0)][#[()]]] (by rfl)) (fun _ _ _ _ _ _=>#[0,(),()]) (fun _ _ _ _ _ _=>@bf _) (fun _ _ _ _ _ _=>#[#[0,()][#[()]]]) (by intro _;rfl)]]]]]]]]]],?_⟩
  obtain ⟨a,p,tt,st,wl,wi,ts,ss,ws,is,Dd⟩:=g9 hd
  cases Dd.ev
  have lts:=Dd.at_.length
  have lss:=Dd.as_.length
  have lws:=Dd.aw.length
  rw [List.length_map] at lts lss lws
  have t8:=gd.t8
  have s5:=gd.s5
  have w5:=gd.w5
  have h8:=gd.l8
  refine gQ fun D0 n0 r0=>⟨(),bv,3,x,E1,rfl,hb,(),?_⟩
  cases ht:jO 3 x with
  | false=>
   have k0:=k H (aa.refl _)
   rw [vn ht] at k0
   exact av (r0 _ _ k0)
  | true=>
  obtain ⟨d1,d2,d3,rfl⟩:fP fun d1 d2 d3=>x=.tuple [d1,d2,d3]:=by
   obtain ⟨ds,rfl,l3⟩:=yo ht
   exact j5 (P:=fun l=>fP fun d1 d2 d3=>PyData.tuple l=.tuple [d1,d2,d3]) (fun a b c=>⟨a,b,c,rfl⟩) ds l3
  have wf:∀z∈[d1,d2,d3],∃m,m≤wn∧Wt z m wk:=fun z hz=>by
   cases wx with
   | tuple wl=>
    obtain ⟨m,q1,q2⟩:=kD wl hz
    exact ⟨m,by trivial,q2.deep (by trivial)⟩
  have w1:=wf d1 (by simp)
  have w2:=wf d2 (by simp)
  have w3:=wf d3 (by simp)
  obtain ⟨n1',hn1,w1⟩:=w1
  obtain ⟨n2',hn2,w2⟩:=w2
  obtain ⟨n3',hn3,w3⟩:=w3
  cases hb with
  | @tup ba bxs _ hba r=>
  cases r with
  | @cons v1 _ _ _ i1 r=>
  cases r with
  | @cons v2 _ _ _ i2 r=>
  cases r with
  | @cons v3 _ _ _ i3 r=>
  cases r
  have eB:dM d (.tuple [d1,d2,d3])=((cX (cQ d) d1 && cX (bV d) d2) && bu (d.ws.map (·.mo)) d3):=rfl
  rw [eB] at k
  refine aO (n0 _ _ ?_)
  refine gQ fun D1 n1 r1=>⟨(),ba,(),ad.of hba,rfl,_,(),_,(),_,(),rfl,n1 _ _ ?_⟩
  refine gQ fun D2 n2 r2=>⟨(),(),a,_,_,(),rfl,ad.of Dd.ha,rfl,tt,rfl,⟨_,ad.of Dd.ht⟩,fun D hD=>fS (n:=ts.length) (fun i=>aX ((d.ts[i]?.map fun x=>(List.range d.hr).map (dh d x)).getD [])) (by trivial) hD (fun i H' hi sm=>⟨ts,ts[i]'(by trivial),ad.of (sm _ _ Dd.ht),by rw [List.getElem?_eq_getElem (by trivial)]⟩) (fun H' sm=>⟨ts,ad.of (sm _ _ Dd.ht),Nat.le_refl _⟩) ?_ ?_⟩
  ·rintro i y H3 H4 R hi s3 ⟨rfl,ey⟩ kk
   have ey:=ey _ (ad.of (K:=K) (s3 _ _ Dd.ht))
   obtain ⟨x,ex,mx,dx⟩:=dl Dd.at_ ey
   rw [ex] at kk
   exact ⟨cR,(),(),_,_,d,x,rfl,hd.mono s3.toE,dx.mono s3.toE,h8,fun v H5 s5 dv=>kk _ _ s5 dv⟩
  intro ms H1 s1 hD1 im
  have im:au (fun x=>x=D∨H x≠none) H1 ms ((cQ d).map aX):=by
   have e:(List.range ts.length).map (fun i=>aX ((d.ts[i]?.map fun x=>(List.range d.hr).map (dh d x)).getD []))=(cQ d).map aX:=by
    unfold cQ
    rw [List.map_map,lts]
    exact dE _ _ _ fun i x e=>by rw [e];rfl
   rw [←e]
   exact im
  have cT:∀c∈cQ d,c.length≤100∧∀p∈c,Fr 24 p:=fun c hc=>by
   obtain ⟨x,hx,rfl⟩:=List.mem_map.mp hc
   refine ⟨by rw [List.length_map,List.length_range];trivial,fun p hp=>?_⟩
   obtain ⟨j,_,rfl⟩:=List.mem_map.mp hp
   exact CV (gd.ts x hx) j
  have cS:∀c∈bV d,c.length≤100∧∀p∈c,Fr 24 p:=fun c hc=>by
   obtain ⟨x,hx,rfl⟩:=List.mem_map.mp hc
   refine ⟨by rw [List.length_map,List.length_range];trivial,fun p hp=>?_⟩
   obtain ⟨j,_,rfl⟩:=List.mem_map.mp hp
   exact (gd.ss x hx).m
  refine ⟨v1,D,d1,E1,_,ms,cQ d,n1',wk,rfl,i1.mono s1.toE,w1,by trivial,hwk,hD1,im,by unfold cQ;rw [List.length_map];trivial,cT,fun H2 s2=>⟨(),?_⟩⟩
  have s02:=s1.trans s2
  cases b1:cX (cQ d) d1 with
  | false=>
   have k0:=k H2 s02
   rw [b1,Bool.false_and,Bool.false_and] at k0
   exact av (r2 _ _ k0)
  | true=>
  rw [b1,Bool.true_and] at k
  refine aO (n2 _ _ ?_)
  refine gQ fun D3 n3 r3=>⟨(),(),a,_,_,(),rfl,ad.of (s02 _ _ Dd.ha),rfl,st,rfl,⟨_,ad.of (s02 _ _ Dd.hs)⟩,fun D' hD'=>fS (n:=ss.length) (fun i=>aX ((d.ss[i]?.map fun x=>(List.range d.hr).map fun _=>x.mo).getD [])) (by trivial) hD' (fun i H' hi sm=>⟨ss,ss[i]'(by trivial),ad.of (sm _ _ (s02 _ _ Dd.hs)),by rw [List.getElem?_eq_getElem (by trivial)]⟩) (fun H' sm=>⟨ss,ad.of (sm _ _ (s02 _ _ Dd.hs)),Nat.le_refl _⟩) ?_ ?_⟩
  ·rintro i y H3 H4 R hi s3 ⟨rfl,ey⟩ kk
   have ey:=ey _ (ad.of (K:=K) (s3 _ _ (s02 _ _ Dd.hs)))
   obtain ⟨x,ex,mx,dx⟩:=dl Dd.as_ ey
   rw [ex] at kk
   exact ⟨cR,(),(),_,_,d,x,rfl,hd.mono (s02.trans s3).toE,dx.mono (s02.trans s3).toE,h8,fun v H5 s5 dv=>kk _ _ s5 dv⟩
  intro ms' H3 s3 hD3 im'
  have im':au (fun x=>x=D'∨H2 x≠none) H3 ms' ((bV d).map aX):=by
   have e:(List.range ss.length).map (fun i=>aX ((d.ss[i]?.map fun x=>(List.range d.hr).map fun _=>x.mo).getD []))=(bV d).map aX:=by
    unfold bV
    rw [List.map_map,lss]
    exact dE _ _ _ fun i x e=>by rw [e];rfl
   rw [←e]
   exact im'
  have s03:=s02.trans s3
  refine ⟨v2,D',d2,E1,_,ms',bV d,n2',wk,rfl,i2.mono s03.toE,w2,by trivial,hwk,hD3,im',by unfold bV;rw [List.length_map];trivial,cS,fun H4 s4=>⟨(),?_⟩⟩
  have s04:=s03.trans s4
  cases b2:cX (bV d) d2 with
  | false=>
   have k0:=k H4 s04
   rw [b2,Bool.false_and] at k0
   exact av (r3 _ _ k0)
  | true=>
  rw [b2,Bool.true_and] at k
  refine aO (n3 _ _ ?_)
  refine ⟨(),(),a,_,_,(),rfl,ad.of (s04 _ _ Dd.ha),rfl,wl,rfl,⟨_,ad.of (s04 _ _ Dd.hw)⟩,fun D5 hD5=>fS (n:=ws.length) (fun i=>bJ ((d.ws[i]?.map kQ.mo).getD (0,1))) (by trivial) hD5 (fun i H' hi sm=>⟨ws,ws[i]'(by trivial),ad.of (sm _ _ (s04 _ _ Dd.hw)),by rw [List.getElem?_eq_getElem (by trivial)]⟩) (fun H' sm=>⟨ws,ad.of (sm _ _ (s04 _ _ Dd.hw)),Nat.le_refl _⟩) ?_ ?_⟩
  ·rintro i y H5 H6 R hi s5 ⟨rfl,ey⟩ kk
   have ey:=ey _ (ad.of (K:=K) (s5 _ _ (s04 _ _ Dd.hw)))
   obtain ⟨x,ex,mx,dx⟩:=dl Dd.aw ey
   obtain ⟨wa,om,op_,rfl,hwa,hom,_⟩:=sT (dx.mono (s04.trans s5).toE)
   rw [ex] at kk
   exact ⟨cR,(),wa,_,_,(),rfl,ad.of hwa,rfl,kk _ _ (aa.refl _) ((km hom).narrow fun _ _=>trivial)⟩
  intro zs H5 s5 hD5' iz
  have iz:au (fun x=>x=D5∨H4 x≠none) H5 zs ((d.ws.map (·.mo)).map bJ):=by
   have e:(List.range ws.length).map (fun i=>bJ ((d.ws[i]?.map kQ.mo).getD (0,1)))=(d.ws.map (·.mo)).map bJ:=by
    rw [List.map_map,lws]
    exact dE _ _ _ fun i x e=>by rw [e];rfl
   rw [←e]
   exact iz
  exact ⟨v3,D5,d3,E1,zs,d.ws.map (·.mo),n3',wk,rfl,i3.mono (s04.trans s5).toE,w3,by trivial,hwk,hD5',⟨_,iz⟩,fun m hm=>by obtain ⟨x,hx,rfl⟩:=List.mem_map.mp hm;exact (gd.ws x hx).m,by rw [List.length_map];trivial,fun H6 s6=>k H6 ((s04.trans s5).trans s6)⟩
end
end K54
namespace K54
open PySem L2
set_option maxHeartbeats 16000000
theorem Ao {β:Type}{f:PyData→β→Bool}{ds:List PyData}{ms:List β}{i:Nat}{d:PyData}{m:β} (e1:ds[i]?=some d) (e2:ms[i]?=some m) (h:f d m=false):gL f ds ms=false:=by
 unfold gL
 rw [List.all_eq_false]
 exact ⟨f d m,List.mem_of_getElem? (i:=i) (by rw [List.getElem?_zipWith,e1,e2]),by rw [h];decide⟩
theorem uv {β:Type}{f:PyData→β→Bool}{ds:List PyData}{ms:List β} (h:∀(i:Nat) d m,ds[i]?=some d→ms[i]?=some m→f d m=true):gL f ds ms=true:=by
 unfold gL
 rw [List.all_eq_true]
 intro b hb
 obtain ⟨i,e⟩:=List.getElem?_of_mem hb
 rw [List.getElem?_zipWith] at e
 cases e1:ds[i]? with
 | none=>rw [e1] at e;cases e
 | some d=>
  cases e2:ms[i]? with
  | none=>rw [e1,e2] at e;cases e
  | some m=>
   rw [e1,e2] at e
   cases e
   exact h i d m e1 e2
theorem Du {α:Type} (n:Nat) (x:α):(List.replicate n [x]).flatten=List.replicate n x:=by
 induction n with
 | zero=>rfl
 | succ n ih=>rw [List.replicate_succ,List.flatten_cons,ih,List.replicate_succ];rfl
theorem w9 {E:Addr→Prop}{H:Hp}{v:V}{d:PyData} (h:aK E H v d):∀n,au E H (List.replicate n v) (List.replicate n d)
 | 0=>.nil
 | n+1=>.cons h (w9 h n)
theorem uW {cs:List (List KM.Fra)}{d:PyData} (h:cZ d=false):cX cs d=false:=by
 cases d with
 | list _=>cases h
 | _=>rfl
theorem Cy {cs:List KM.Fra}{d:PyData} (h:cZ d=false):bu cs d=false:=by
 cases d with
 | list _=>cases h
 | _=>rfl
theorem wV {d:PyData} (h:cZ d=true):∃ds,d=.list ds:=by
 cases d with
 | list ds=>exact ⟨ds,rfl⟩
 | _=>cases h
theorem CS {d:aP}{a b c:PyData} (h:(cZ a && (cZ b && cZ c))=false):dM d (.tuple [a,b,c])=false:=by
 show ((cX (cQ d) a && cX (bV d) b) && bu (d.ws.map (·.mo)) c)=false
 cases ha:cZ a with
 | false=>rw [uW ha];rfl
 | true=>
  cases hb:cZ b with
  | false=>rw [uW hb,Bool.and_false];rfl
  | true=>
   cases hc:cZ c with
   | false=>rw [Cy hc,Bool.and_false]
   | true=>rw [ha,hb,hc] at h;cases h
section
variable {P:Program}{w:World}{K:PySem.W.Frag}{mg:Str→Option Value}{base:Heap}
theorem sI (T:Txt K mg):aV P w K mg base CX0 4 T.l_is_book_.f T.l_is_book_.d ["_law_day_here", "_law_thing"] EO:=by
 have G_l_fits:=#[(CB)]
 have G_l_may:=#[(AE)]
 refine T.l_is_book_.F.ok nq (fun vs H Q E h=>?_) (fun cdv A outer s H vs Q E hr h=>?_)
 ·obtain ⟨dv,bv,d,x,E,wn,wk,rfl,_⟩:=h
  rfl
 ·obtain ⟨dv,bv,d,x,E1,wn,wk,rfl,hd,hb,wx,hwn,hwk,gd,k⟩:=h
  refine ⟨_,#[#[bn 8 #[PW.pt 3 #[gh 7 #[cw 4 #[bK 3 #[(),(),(@cV _ (K) (by rfl)),ph,T.b_isinstance,(@aJ),#[[#[1,bW],#[eR 4 ub T.b_tuple (@bN) (by decide) (by decide)]]]] (by intro _;rfl)]] #[gh 7 #[aH 8 (@jH _) #[(),(),(@d9 _ (K) (by rfl)),fM,T.b_len,(@bh),#[[#[1,bW]]]] #[()] #[(),()]] #[gr 4 #[cw 4 #[bK 3 #[(),(),(@k9 _ (K) rfl (by rfl)),oE,T.b_all,(@dY),#[[#[bq 7 (["_law_part"]) (1) ([]) _ _ _ _ rfl (by kernel_rfl) (@dW _ (K) _ _ _ #[1,bW] (by rfl)) (fun _ _ _ _ _ _=>#[0,(),()]) (fun _ _ _ _ _ _=>@bf _) (fun _ _ _ _ _ _=>#[(),(),(@cV _ (K) (by rfl)),(by show _=_;kernel_rfl),T.b_isinstance,(@aJ),#[[#[0,()],#[eR 4 (by show _=_;kernel_rfl) T.b_list (@b4) (by decide) (by decide)]]]]) (by intro _;rfl)]]]] (by intro _;rfl)]]]]]] #[ac 3 #[ax 4 #[dj 4]]] (@aM _)] :: #[#[bn 8 #[PW.pt 3 #[gh 7 #[aH 8 (@jH _) #[(),(),(@d9 _ (K) (by rfl)),fM,T.b_len,(@bh),#[[#[#[1,bW][#[()]]]]]] #[(),(),(@d9 _ (K) (by rfl)),fM,T.b_len,(@bh),#[[#[#[0,(ci)][#[()]]]]]] #[(),()]] #[gr 4 #[aH 8 (@jH _) #[(),(),(@d9 _ (K) (by rfl)),fM,T.b_len,(@bh),#[[#[#[1,bW][#[()]]]]]] #[(),(),(@d9 _ (K) (by rfl)),fM,T.b_len,(@bh),#[[#[#[0,(ci)][#[()]]]]]] #[(),()]]]]] #[ac 3 #[ax 4 #[dj 4]]] (@aM _)] :: #[#[cN 8 PassesOwn.never rfl (@dN _ (K) _ _ _ _ _ _ _ _ oS T.b_zip #[[#[#[0,(ci)][#[()]]],#[#[1,bW][#[()]]]]] (by rfl) (by rfl) (by rfl)) (@br _ (K) _ _ _ _ (2) rfl #[ak 5 #[gv 2 (2) _ nq.nd rfl (Or.inr ud) (by first | exact .inl rfl | exact .inr rfl | assumption)] #[ak 5 #[3,nq.nd,lS] (@bI _) (by rfl)] (by rfl)] (by rfl) (by rfl) (by rfl)) #[ac 3 #[bn 8 #[cw 4 #[bK 3 #[G_l_fits,lX,T.l_fits_,#[[#[3,lS],#[bq 7 (["_law_hour", "_law_day_here", "_law_row"]) (1) ([0,2]) _ _ _ _ rfl (by kernel_rfl) #[b9 6 tW T.b_range #[[#[#[0,(ci)][#[()]]]]] (by rfl)] (fun _ _ _ _ _ _=>#[0,(),()]) (fun _ _ _ _ _ _=>@bf _) (fun _ _ _ _ _ _=>#[fZ 8 #[bK 3 #[G_l_may,(),T.l_may_,#[[#[1,0],#[2,0],#[0,()]]]] (by intro _;rfl)] #[#[2,0][#[()]]] #[aD 5 #[[#[()],#[()]]]]]) (by intro _;rfl)]]]] (by intro _;rfl)]] #[ac 3 #[ax 4 #[dj 4]]] (@aM _)]] (by intro _;rfl)] :: #[#[bn 8 #[cw 4 #[bK 3 #[(),(),(@k9 _ (K) rfl (by rfl)),oE,T.b_all,(@dY),#[[#[bq 7 (["_law_store", "_law_rests", "_law_day_here"]) (2) ([0]) _ _ _ _ rfl (by kernel_rfl) (@dN _ (K) _ _ _ _ _ _ _ _ oS T.b_zip #[[#[#[0,(ci)][#[()]]],#[#[1,bW][#[()]]]]] (by rfl) (by rfl) (by rfl)) (fun _ _ _ _ _ _=>(@br _ (K) _ _ _ _ (2) rfl #[ak 5 #[0,(),()] #[ak 5 #[1,(),()] (@bI _) (by rfl)] (by rfl)] (by rfl) (by rfl) (by rfl))) (fun _ _ _ _ _ _=>@bf _) (fun _ _ _ _ _ _=>#[G_l_fits,(),T.l_fits_,#[[#[1,()],#[aj 8 (@FI _) #[bG 4 #[[#[#[0,()][#[()]]]]]] #[#[2,0][#[()]]]]]]]) (by intro _;rfl)]]]] (by intro _;rfl)]] #[ac 3 #[ax 4 #[dj 4]]] (@aM _)] :: #[ac 3 #[ax 4 #[G_l_fits,lX,T.l_fits_,#[[#[#[1,bW][#[()]]],#[bq 7 (["_law_well"]) (1) ([]) _ _ _ _ rfl (by kernel_rfl) (@dW _ (K) _ _ _ #[#[0,(ci)][#[()]]] (by rfl)) (fun _ _ _ _ _ _=>#[0,(),()]) (fun _ _ _ _ _ _=>@bf _) (fun _ _ _ _ _ _=>#[#[0,()][#[()]]]) (by intro _;rfl)]]]]]]]]]],?_⟩
  obtain ⟨a,p,tt,st,wl,wi,ts,ss,ws,is,Dd⟩:=g9 hd
  cases Dd.ev
  have lts:=Dd.at_.length
  have lss:=Dd.as_.length
  have lws:=Dd.aw.length
  rw [List.length_map] at lts lss lws
  have t8:=gd.t8
  have s5:=gd.s5
  have w5:=gd.w5
  have h8:=gd.l8
  have k0:=k H (aa.refl _)
  refine gQ fun D0 n0 r0=>⟨(),_,_,_,(),hb.ty,jE x,(),?_⟩
  cases hb with
  | non=>exact av (av (r0 _ _ k0))
  | bl b=>exact av (av (r0 _ _ k0))
  | int i=>exact av (av (r0 _ _ k0))
  | str y=>exact av (av (r0 _ _ k0))
  | lst h ne r=>exact av (av (r0 _ _ k0))
  | @tup ba bxs ds hba r=>
  have hl:=r.length
  refine aO ⟨(),ba,bxs,rfl,.inr (ad.of hba),rfl,(),?_⟩
  cases ht:jO 3 (.tuple ds) with
  | false=>
   rw [vn ht] at k0
   have:(!decide (V.int (bxs.length:Int)=V.int 3))=true:=nP (b:=3) (by rw [hl];exact of_decide_eq_false ht)
   rw [this]
   exact av (av (r0 _ _ k0))
  | true=>
  have l3:ds.length=3:=of_decide_eq_true ht
  obtain ⟨d1,d2,d3,rfl⟩:fP fun d1 d2 d3=>ds=[d1,d2,d3]:=j5 (P:=fun l=>fP fun d1 d2 d3=>l=[d1,d2,d3]) (fun a b c=>⟨a,b,c,rfl⟩) ds l3
  rw [show (!decide (V.int (bxs.length:Int)=V.int 3))=false by rw [hl];rfl]
  have wf:∀z∈[d1,d2,d3],∃m,m≤wn∧Wt z m wk:=fun z hz=>by
   cases wx with
   | tuple wl=>
    obtain ⟨m,q1,q2⟩:=kD wl hz
    exact ⟨m,by trivial,q2.deep (by trivial)⟩
  obtain ⟨n1',hn1,w1⟩:=wf d1 (by simp)
  obtain ⟨n2',hn2,w2⟩:=wf d2 (by simp)
  obtain ⟨n3',hn3,w3⟩:=wf d3 (by simp)
  refine aO ⟨(),ba,rfl,⟨_,ad.of hba⟩,Ad (E:=E1) cZ hba r (by trivial) ?_ ?_⟩
  ·intro x dx H' R hm g1 sm kk
   exact ⟨cR,(),_,_,_,(),g1.ty,kX dx,kk H' (aa.refl _)⟩
  intro D H1 s1 hD1
  refine ⟨D,(),ah.of hD1,(),?_⟩
  rw [zg]
  have eL:[d1,d2,d3].all cZ=(cZ d1 && (cZ d2 && cZ d3)):=by simp
  rw [eL]
  cases hL:(cZ d1 && (cZ d2 && cZ d3)) with
  | false=>
   have k1:=k H1 s1
   rw [CS hL] at k1
   exact av (r0 _ _ k1)
  | true=>
  rw [Bool.and_eq_true,Bool.and_eq_true] at hL
  obtain ⟨e1,rfl⟩:=wV hL.1
  obtain ⟨e2,rfl⟩:=wV hL.2.1
  refine aO (n0 _ _ ?_)
  cases r with
  | @cons v1 _ _ _ i1 r=>
  cases r with
  | @cons v2 _ _ _ i2 r=>
  cases r with
  | @cons v3 _ _ _ i3 r=>
  cases r
  cases id i1 with
  | @lst sa sxs _ hsa _ ia=>
  cases id i2 with
  | @lst ka kxs _ hka _ ik=>
  have lsx:=ia.length
  have lkx:=ik.length
  have eB:dM d (.tuple [.list e1,.list e2,d3])=(((decide (e1.length=(cQ d).length) && gL (fun d c=>bu c d) e1 (cQ d)) && (decide (e2.length=(bV d).length) && gL (fun d c=>bu c d) e2 (bV d))) && bu (d.ws.map (·.mo)) d3):=rfl
  have lT:(cQ d).length=d.ts.length:=by unfold cQ;rw [List.length_map]
  have lC:(bV d).length=d.ss.length:=by unfold bV;rw [List.length_map]
  refine gQ fun D1 n1 r1=>⟨(),ba,_,_,(),rfl,ad.of (s1 _ _ hba),rfl,sa,sxs,rfl,.inl (ah.of (s1 _ _ hsa)),(),a,_,_,(),rfl,ad.of (s1 _ _ Dd.ha),rfl,tt,ts,rfl,.inr (ad.of (s1 _ _ Dd.ht)),rfl,(),?_⟩
  by_cases l1:e1.length=d.ts.length
  case neg=>
   have k1:=k H1 s1
   rw [eB,decide_eq_false (show ¬e1.length=(cQ d).length by trivial)] at k1
   rw [nP (by trivial)]
   exact av (r1 _ _ k1)
  rw [show (!decide (V.int (sxs.length:Int)=V.int (ts.length:Int)))=false by rw [show sxs.length=ts.length by trivial];exact sA _]
  refine aO ⟨(),ba,_,_,(),rfl,ad.of (s1 _ _ hba),rfl,ka,kxs,rfl,.inl (ah.of (s1 _ _ hka)),(),a,_,_,(),rfl,ad.of (s1 _ _ Dd.ha),rfl,st,ss,rfl,.inr (ad.of (s1 _ _ Dd.hs)),rfl,(),?_⟩
  by_cases l2:e2.length=d.ss.length
  case neg=>
   have k1:=k H1 s1
   rw [eB,decide_eq_false (show ¬e2.length=(bV d).length by trivial),Bool.false_and,Bool.and_false] at k1
   rw [nP (by trivial)]
   exact av (r1 _ _ k1)
  rw [show (!decide (V.int (kxs.length:Int)=V.int (ss.length:Int)))=false by rw [show kxs.length=ss.length by trivial];exact sA _]
  refine aO (n1 _ _ ?_)
  rw [eB,decide_eq_true (show e1.length=(cQ d).length by trivial),decide_eq_true (show e2.length=(bV d).length by trivial),Bool.true_and,Bool.true_and] at k
  have dz:∀(H':Hp),aa H1 H'→EV H' (.ref a) d a p tt st wl wi ts ss ws is:=fun H' s'=>⟨rfl,(s1.trans s') _ _ Dd.ha,(s1.trans s') _ _ Dd.hp,(s1.trans s') _ _ Dd.ht,(s1.trans s') _ _ Dd.hs,(s1.trans s') _ _ Dd.hw,(s1.trans s') _ _ Dd.hi,Dd.at_.mono (s1.trans s').toE,Dd.as_.mono (s1.trans s').toE,Dd.aw.mono (s1.trans s').toE,Dd.ai.mono (s1.trans s').toE⟩
  refine gQ fun D2 n2 r2=>⟨(),a,_,_,(),rfl,ad.of (s1 _ _ Dd.ha),rfl,(),ba,_,_,(),rfl,ad.of (s1 _ _ hba),rfl,tt,sa,false,true,rfl,⟨_,ad.of (s1 _ _ Dd.ht)⟩,⟨_,ah.of (s1 _ _ hsa)⟩,mF (xs:=ts) (ys:=sxs) (n:=d.ts.length) (fun i σ H'=>bP fun (v2 v3:Option V)=>σ=[some (.ref a),some (.ref ba),v2,v3]∧aa H1 H'∧∀(j:Nat),j<i→∀z m,e1[j]?=some z→(cQ d)[j]?=some m→bu m z=true) (by trivial) ⟨_,(),aa.refl _,fun j hj=>absurd hj (Nat.not_lt_zero _)⟩ ?_ ?_ ?_⟩
  ·rintro i σ H' _ ⟨_,_,_,sm,_⟩
   exact ⟨ad.of (sm _ _ (s1 _ _ Dd.ht)),ah.of (sm _ _ (s1 _ _ hsa))⟩
  ·rintro i y u Tp σ H' ey eu hT ⟨v2,v3,rfl,sm,hj⟩
   have st':=aa.new (o:=.tup [y,u]) hT
   have sx:=sm.trans st'
   obtain ⟨x,ex,mx,dx⟩:=dl (dz _ sx).at_ ey
   obtain ⟨z,ez,hz⟩:=ia.get eu
   have mz:z∈e1:=List.mem_of_getElem? ez
   obtain ⟨nz,hnz,wz⟩:∃m,m≤wn∧Wt z m wk:=by
    cases w1 with
    | list wl=>
     obtain ⟨m,q1,q2⟩:=kD wl mz
     exact ⟨m,by trivial,q2.deep (by trivial)⟩
   obtain ⟨ta,om,og,op_,oo,rfl,hta,hom,_,_,_⟩:=lF dx
   have gx:=gd.ts x mx
   have em:(cQ d)[i]?=some ((List.range d.hr).map (dh d x)):=by unfold cQ;rw [List.getElem?_map,ex];rfl
   refine ⟨Tp,(),ad.of aE,rfl,_,(),_,(),rfl,?_⟩
   refine ⟨(),(),a,_,_,(),rfl,ad.of (dz _ sx).ha,rfl,(),by trivial,by trivial,fun D hD=>fS (n:=d.hr) (fun h=>bJ (dh d x h)) (by trivial) hD (fun i H' hi _=>by show i<_;trivial) (fun H' _=>by show _≤_;trivial) ?_ ?_⟩
   ·rintro h y H3 H4 Rk hh s3 ⟨rfl,rfl⟩ kk
    refine ⟨cR,?_⟩
    have e0:(0:Int)+(h:Int)=h:=by trivial
    rw [e0]
    refine ⟨(),(),(),_,_,d,x,h,rfl,hd.mono ((s1.trans sx).trans s3).toE,dx.mono s3.toE,(),?_⟩
    by_cases c:(decide ((h:Int)∈x.op) && decide (h+x.la<d.hr))=true
    ·rw [c]
     have e:dh d x h=x.mo:=if_pos c
     refine av ⟨(),ta,_,_,(),rfl,ad.of (s3 _ _ hta),rfl,kk _ _ (aa.refl _) ?_⟩
     rw [e]
     exact rG (s3 _ _ hom)
    ·have c':(decide ((h:Int)∈x.op) && decide (h+x.la<d.hr))=false:=by simpa using c
     rw [c']
     have e:dh d x h=(0,1):=if_neg c
     refine aO ⟨(by show 2≤10000;decide),fun q5 H5 k5=>kk _ _ k5.sm ?_⟩
     rw [e]
     exact rG k5.at'
   intro ys H5 s5 hD5 iy
   refine ⟨u,D,z,E1,ys,(List.range d.hr).map (dh d x),nz,wk,rfl,hz.mono ((s1.trans sx).trans s5).toE,wz,by trivial,hwk,hD5,⟨_,by rw [List.map_map];exact iy⟩,fun m hm=>by obtain ⟨j,_,rfl⟩:=List.mem_map.mp hm;exact CV gx j,by rw [List.length_map,List.length_range];trivial,fun H6 s6=>⟨_,rfl,?_⟩⟩
   have s16:aa H1 H6:=(sx.trans s5).trans s6
   cases hp:bu ((List.range d.hr).map (dh d x)) z with
   | true=>
    refine aO ⟨_,(),s16,fun j hj' z' m' e1' e2'=>?_⟩
    by_cases c:j<i
    ·exact hj j c z' m' e1' e2'
    ·obtain rfl:j=i:=by trivial
     rw [ez] at e1'
     rw [em] at e2'
     cases e1'
     cases e2'
     exact hp
   | false=>
    have k1:=k H6 (s1.trans s16)
    rw [Ao ez em hp,Bool.false_and,Bool.false_and] at k1
    exact av (r2 _ _ k1)
  rintro σ H2 ⟨v2',v3',rfl,s2,hj⟩
  refine n2 _ _ ?_
  rw [uv fun i z m ez em=>hj i (by have:=(List.getElem?_eq_some_iff.mp ez).1;trivial) z m ez em,Bool.true_and] at k
  have s02:=s1.trans s2
  have lz:(List.zipWith (fun d c=>bu c d) e2 (bV d)).length=e2.length:=by rw [List.length_zipWith];trivial
  refine gQ fun D3 n3 r3=>⟨(),a,_,_,(),rfl,ad.of (s02 _ _ Dd.ha),rfl,(),ba,_,_,(),rfl,ad.of (s02 _ _ hba),rfl,st,ka,false,true,rfl,⟨_,ad.of (s02 _ _ Dd.hs)⟩,⟨_,ah.of (s02 _ _ hka)⟩,fun D hD=>xC (xs:=ss) (ys:=kxs) (fun i=>.bl (((List.zipWith (fun d c=>bu c d) e2 (bV d))[i]?).getD false)) (by trivial) hD (fun H' sm=>ad.of (sm _ _ (s02 _ _ Dd.hs))) (fun H' sm=>ah.of (sm _ _ (s02 _ _ hka))) ?_ ?_⟩
  ·intro i y u H' R ey eu sm kk
   obtain ⟨x,ex,mx,dx⟩:=dl (dz _ (s2.trans sm)).as_ ey
   obtain ⟨z,ez,hz⟩:=ik.get eu
   have mz:z∈e2:=List.mem_of_getElem? ez
   obtain ⟨nz,hnz,wz⟩:∃m,m≤wn∧Wt z m wk:=by
    cases w2 with
    | list wl=>
     obtain ⟨m,q1,q2⟩:=kD wl mz
     exact ⟨m,by trivial,q2.deep (by trivial)⟩
   obtain ⟨ta,om,ok,rfl,hta,hom,_⟩:=pU dx
   have gx:=gd.ss x mx
   have em:(bV d)[i]?=some ((List.range d.hr).map fun _=>x.mo):=by unfold bV;rw [List.getElem?_map,ex];rfl
   have er:(List.range d.hr).map (fun _=>x.mo)=List.replicate d.hr x.mo:=by
    refine List.ext_getElem (by simp) fun i h1 h2=>by simp
   rw [er] at em
   have eb:(List.zipWith (fun d c=>bu c d) e2 (bV d))[i]?=some (bu (List.replicate d.hr x.mo) z):=by rw [List.getElem?_zipWith,ez,em]
   rw [eb] at kk
   refine ⟨qC,(),(),ta,_,_,(),rfl,ad.of hta,rfl,(by show 1≤10000;decide),fun L1 H5 m5=>⟨(),a,_,_,(),rfl,ad.of (m5.sm _ _ (dz _ (s2.trans sm)).ha),rfl,L1,_,(),rfl,m5.at',by trivial,by trivial,by show 1*_≤_;trivial,fun L2 H6 m6=>?_⟩⟩
   have e9:(List.replicate ((d.hr:Int)).toNat [V.ref om]).flatten=List.replicate d.hr (V.ref om):=by rw [Du];rfl
   rw [e9] at m6
   have s36:=m5.sm.trans m6.sm
   refine ⟨u,L2,z,E1,_,List.replicate d.hr x.mo,nz,wk,rfl,hz.mono (((s02.trans sm).trans s36)).toE,wz,by trivial,hwk,m6.at',⟨ED,by rw [List.map_replicate];exact w9 (km (s36 _ _ hom)) _⟩,fun m hm=>by rw [List.eq_of_mem_replicate hm];exact gx.m,by rw [List.length_replicate];trivial,fun H7 s7=>kk H7 (s36.trans s7)⟩
  intro H3 s3 hD3
  have e3:(List.range (min ss.length kxs.length)).map (fun i=>V.bl (((List.zipWith (fun d c=>bu c d) e2 (bV d))[i]?).getD false))=(List.zipWith (fun d c=>bu c d) e2 (bV d)).map V.bl:=by
   rw [show min ss.length kxs.length=(List.zipWith (fun d c=>bu c d) e2 (bV d)).length by trivial]
   exact dE (fun i=>V.bl (((List.zipWith (fun d c=>bu c d) e2 (bV d))[i]?).getD false)) V.bl _ (fun i x e=>by rw [e];rfl)
  rw [e3] at hD3
  have s03:=s02.trans s3
  refine ⟨D,(),ah.of hD3,(),?_⟩
  cases hb2:gL (fun d c=>bu c d) e2 (bV d) with
  | false=>
   have k1:=k H3 s03
   rw [hb2,Bool.false_and] at k1
   have:(List.zipWith (fun d c=>bu c d) e2 (bV d)).all id=false:=hb2
   rw [this]
   exact av (r3 _ _ k1)
  | true=>
  rw [hb2,Bool.true_and] at k
  rw [show (List.zipWith (fun d c=>bu c d) e2 (bV d)).all id=true from hb2]
  refine aO (n3 _ _ ?_)
  refine ⟨(),ba,_,_,(),rfl,ad.of (s03 _ _ hba),rfl,(),a,_,_,(),rfl,ad.of (s03 _ _ Dd.ha),rfl,wl,rfl,⟨_,ad.of (s03 _ _ Dd.hw)⟩,fun D5 hD5=>fS (n:=ws.length) (fun i=>bJ ((d.ws[i]?.map kQ.mo).getD (0,1))) (by trivial) hD5 (fun i H' hi sm=>⟨ws,ws[i]'(by trivial),ad.of (sm _ _ (s03 _ _ Dd.hw)),by rw [List.getElem?_eq_getElem (by trivial)]⟩) (fun H' sm=>⟨ws,ad.of (sm _ _ (s03 _ _ Dd.hw)),Nat.le_refl _⟩) ?_ ?_⟩
  ·rintro i y H5 H6 R hi s5 ⟨rfl,ey⟩ kk
   have ey:=ey _ (ad.of (K:=K) (s5 _ _ (s03 _ _ Dd.hw)))
   obtain ⟨x,ex,mx,dx⟩:=dl Dd.aw ey
   obtain ⟨wa,om,op_,rfl,hwa,hom,_⟩:=sT (dx.mono (s03.trans s5).toE)
   rw [ex] at kk
   exact ⟨cR,(),wa,_,_,(),rfl,ad.of hwa,rfl,kk _ _ (aa.refl _) ((km hom).narrow fun _ _=>trivial)⟩
  intro zs H5 s5 hD5' iz
  have iz:au (fun x=>x=D5∨H3 x≠none) H5 zs ((d.ws.map (·.mo)).map bJ):=by
   have e:(List.range ws.length).map (fun i=>bJ ((d.ws[i]?.map kQ.mo).getD (0,1)))=(d.ws.map (·.mo)).map bJ:=by
    rw [List.map_map,lws]
    exact dE _ _ _ fun i x e=>by rw [e];rfl
   rw [←e]
   exact iz
  exact ⟨v3,D5,d3,E1,zs,d.ws.map (·.mo),n3',wk,rfl,i3.mono (s03.trans s5).toE,w3,by trivial,hwk,hD5',⟨_,iz⟩,fun m hm=>by obtain ⟨x,hx,rfl⟩:=List.mem_map.mp hm;exact (gd.ws x hx).m,by rw [List.length_map];trivial,fun H6 s6=>k H6 ((s03.trans s5).trans s6)⟩
end
end K54
namespace K54
open PySem L2
set_option maxHeartbeats 16000000
theorem vQ {z:Nat}:∀{ds:List PyData}{n k:Nat}{d:PyData},oV z ds n k→d∈ds→∃m,m≤n∧Wv z d m k
 | _,_,_,_,.nil,h=>nomatch h
 | _,_,_,_,.cons h r l,hm=>by
  rcases List.mem_cons.mp hm with rfl | hm
  ·exact ⟨_,by trivial,h⟩
  ·obtain ⟨m,q1,q2⟩:=vQ r hm
   exact ⟨m,by trivial,q2⟩
theorem Ff {z:Nat}{n e:Int}{wn wk:Nat} (h:Wv z (.tuple [.int n,.int e]) wn wk):Sz z n∧Sz z e:=by
 cases h with
 | tuple r _ _=>
  cases r with
  | cons h1 r _=>
   cases r with
   | cons h2 r _=>
    cases h1 with
    | int a _=>
     cases h2 with
     | int b _=>exact ⟨a,b⟩
theorem C6 {d:PyData}{c:KM.Fra}{n k:Nat} (h:dL d c=true) (w:Wv 60 d n k):∃p,d=bJ p∧Am 60 60 c p:=by
 unfold dL at h
 split at h
 ·rename_i a e
  rw [Bool.and_eq_true,Bool.and_eq_true] at h
  obtain ⟨⟨h1,h2⟩,h3⟩:=h
  have h1':(decide (1≤e) && decide (Int.gcd a e=1))=true:=h1
  rw [Bool.and_eq_true,decide_eq_true_iff,decide_eq_true_iff] at h1'
  obtain ⟨z1,z2⟩:=Ff w
  exact ⟨(a,e),rfl,⟨z1,z2,h1'.1,h1'.2⟩,of_decide_eq_true h2,of_decide_eq_true h3,z1,z2,h1'.1⟩
 ·cases h
theorem yW {β:Type}{f:PyData→β→Bool}{ds:List PyData}{ms:List β} (h:gL f ds ms=true) {i:Nat}{d:PyData}{m:β} (e1:ds[i]?=some d) (e2:ms[i]?=some m):f d m=true:=by
 cases q:f d m with
 | true=>rfl
 | false=>rw [Ao e1 e2 q] at h;cases h
theorem Ca {α β:Type}{R:Nat→α→β→Prop}{xs:List α} (h:∀(i:Nat) x,xs[i]?=some x→∃y,R i x y):∃ys:List β,ys.length=xs.length∧∀(i:Nat) x y,xs[i]?=some x→ys[i]?=some y→R i x y:=by
 obtain ⟨ys,l,q⟩:=qh (p:=fun (i:Nat) (y:β)=>∀x,xs[i]?=some x→R i x y) xs.length fun i hi=>by
  obtain ⟨y,hy⟩:=h i _ (List.getElem?_eq_getElem hi)
  exact ⟨y,fun x e=>by rw [List.getElem?_eq_getElem hi] at e;cases e;exact hy⟩
 exact ⟨ys,l,fun i x y e1 e2=>q i y e2 x e1⟩
theorem BE {α:Type}{f:α→PyData}{ds:List PyData}{ys:List α} (l:ys.length=ds.length) (h:∀(i:Nat) d y,ds[i]?=some d→ys[i]?=some y→d=f y):ds=ys.map f:=by
 refine List.ext_getElem? fun i=>?_
 rw [List.getElem?_map]
 by_cases hi:i<ds.length
 ·rw [List.getElem?_eq_getElem hi,List.getElem?_eq_getElem (show i<ys.length by trivial)]
  exact congrArg some (h i _ _ (List.getElem?_eq_getElem hi) (List.getElem?_eq_getElem (show i<ys.length by trivial)))
 ·rw [List.getElem?_eq_none (by trivial),List.getElem?_eq_none (by trivial)]
  rfl
theorem yB {cs:List KM.Fra}{d:PyData}{n k:Nat} (h:bu cs d=true) (w:Wv 60 d n k):∃ps:List KM.Fra,d=aX ps∧ps.length=cs.length∧∀(i:Nat) p c,ps[i]?=some p→cs[i]?=some c→Am 60 60 c p:=by
 obtain ⟨ds,rfl⟩:∃ds,d=.list ds:=by
  cases d with
  | list ds=>exact ⟨ds,rfl⟩
  | _=>cases h
 have h:(decide (ds.length=cs.length) && gL dL ds cs)=true:=h
 rw [Bool.and_eq_true,decide_eq_true_iff] at h
 obtain ⟨hl,hz⟩:=h
 cases w with
 | list wl _ _=>
  obtain ⟨ps,lp,hp⟩:=Ca (R:=fun i d p=>d=bJ p∧∀c,cs[i]?=some c→Am 60 60 c p) (xs:=ds) fun i x e=>by
   have hi:=(List.getElem?_eq_some_iff.mp e).1
   have ec:cs[i]?=some (cs[i]'(by trivial)):=List.getElem?_eq_getElem (by trivial)
   obtain ⟨m,_,wx⟩:=vQ wl (List.mem_of_getElem? e)
   obtain ⟨p,e1,e2⟩:=C6 (yW hz e ec) wx
   exact ⟨p,e1,fun c e'=>by rw [ec] at e';cases e';exact e2⟩
  refine ⟨ps,?_,by trivial,fun i p c e1 e2=>?_⟩
  ·unfold aX
   rw [BE lp fun i d y e1 e2=>(hp i d y e1 e2).1]
  ·have hi:=(List.getElem?_eq_some_iff.mp e1).1
   exact (hp i _ p (List.getElem?_eq_getElem (by trivial)) e1).2 c e2
theorem xD {cs:List (List KM.Fra)}{d:PyData}{n k:Nat} (h:cX cs d=true) (w:Wv 60 d n k):∃rs:List (List KM.Fra),d=.list (rs.map aX)∧rs.length=cs.length∧∀(i:Nat) r c,rs[i]?=some r→cs[i]?=some c→r.length=c.length∧∀(j:Nat) p q,r[j]?=some p→c[j]?=some q→Am 60 60 q p:=by
 obtain ⟨ds,rfl⟩:∃ds,d=.list ds:=by
  cases d with
  | list ds=>exact ⟨ds,rfl⟩
  | _=>cases h
 have h:(decide (ds.length=cs.length) && gL (fun d c=>bu c d) ds cs)=true:=h
 rw [Bool.and_eq_true,decide_eq_true_iff] at h
 obtain ⟨hl,hz⟩:=h
 cases w with
 | list wl _ _=>
  obtain ⟨ps,lp,hp⟩:=Ca (R:=fun i d p=>d=aX p∧∀c,cs[i]?=some c→p.length=c.length∧∀(j:Nat) u v,p[j]?=some u→c[j]?=some v→Am 60 60 v u) (xs:=ds) fun i x e=>by
   have hi:=(List.getElem?_eq_some_iff.mp e).1
   have ec:cs[i]?=some (cs[i]'(by trivial)):=List.getElem?_eq_getElem (by trivial)
   obtain ⟨m,_,wx⟩:=vQ wl (List.mem_of_getElem? e)
   obtain ⟨p,e1,e2,e3⟩:=yB (yW (f:=fun d c=>bu c d) hz e ec) wx
   exact ⟨p,e1,fun c e'=>by rw [ec] at e';cases e';exact ⟨e2,e3⟩⟩
  refine ⟨ps,?_,by trivial,fun i p c e1 e2=>?_⟩
  ·rw [BE lp fun i d y e1 e2=>(hp i d y e1 e2).1]
  ·have hi:=(List.getElem?_eq_some_iff.mp e1).1
   exact (hp i _ p (List.getElem?_eq_getElem (by trivial)) e1).2 c e2
theorem At {d:aP}{x:PyData}{n k:Nat} (h:dM d x=true) (w:Wv 60 x n k):∃b:dJ,x=ki b∧GB 60 60 d b:=by
 unfold dM at h
 split at h
 ·rename_i s kk z
  rw [Bool.and_eq_true,Bool.and_eq_true] at h
  obtain ⟨⟨h1,h2⟩,h3⟩:=h
  cases w with
  | tuple w _ _=>
  cases w with
  | cons w1 w _=>
  cases w with
  | cons w2 w _=>
  cases w with
  | cons w3 _ _=>
  obtain ⟨rs,rfl,l1,f1⟩:=xD h1 w1
  obtain ⟨ks,rfl,l2,f2⟩:=xD h2 w2
  obtain ⟨ps,rfl,l3,f3⟩:=yB h3 w3
  refine ⟨⟨rs,ks,ps⟩,rfl,⟨?_,?_,?_,fun i x r ex er=>?_,fun i x r ex er=>?_,fun i x p ex ep=>?_⟩⟩
  ·rw [l1];unfold cQ;rw [List.length_map]
  ·rw [l2];unfold bV;rw [List.length_map]
  ·rw [l3,List.length_map]
  ·obtain ⟨q1,q2⟩:=f1 i r ((List.range d.hr).map (dh d x)) er (by unfold cQ;rw [List.getElem?_map,ex];rfl)
   rw [List.length_map,List.length_range] at q1
   refine ⟨q1,fun h p e=>q2 h p _ e ?_⟩
   have hh:=(List.getElem?_eq_some_iff.mp e).1
   rw [List.getElem?_map,List.getElem?_range (by trivial)]
   rfl
  ·obtain ⟨q1,q2⟩:=f2 i r ((List.range d.hr).map fun _=>x.mo) er (by unfold bV;rw [List.getElem?_map,ex];rfl)
   rw [List.length_map,List.length_range] at q1
   refine ⟨q1,fun h p e=>q2 h p _ e ?_⟩
   have hh:=(List.getElem?_eq_some_iff.mp e).1
   rw [List.getElem?_map,List.getElem?_range (by trivial)]
   rfl
  ·exact f3 i p x.mo ep (by rw [List.getElem?_map,ex];rfl)
 ·cases h
end K54
namespace K54
open PySem L2
set_option maxHeartbeats 16000000
def cz (r:List KM.Fra) (h:Nat):KM.Fra:=(r[h]?).getD (0,1)
def gT (d:aP) (b:dJ) (p:List Nat) (h i:Nat):List KM.Fra:=match d.ts[i]?,b.se[i]? with
 | some x,some r=>if x.bg=p then [cz r h] else []
 | _,_=>[]
def gS (d:aP) (b:dJ) (p:List Nat) (h i:Nat):List KM.Fra:=match d.ss[i]?,b.ke[i]? with
 | some x,some r=>if x.pl=p then [cz r h] else []
 | _,_=>[]
def cW (d:aP) (b:dJ) (p:List Nat) (h i:Nat):List KM.Fra:=match d.ws[i]?,b.dr[i]? with
 | some x,some q=>if x.pl=p∧x.ho=h then [q] else []
 | _,_=>[]
def cT (d:aP) (b:dJ) (p:List Nat) (h i:Nat):List KM.Fra:=match d.ts[i]?,b.se[i]? with
 | some x,some r=>if x.en=p∧x.la≤h then [KM.lTim (cz r (h - x.la)) x.ga] else []
 | _,_=>[]
def cS (d:aP) (b:dJ) (p:List Nat) (h i:Nat):List KM.Fra:=match d.ss[i]?,b.ke[i]? with
 | some x,some r=>if x.pl=p∧0<h then [KM.lTim (cz r (h - 1)) x.ke] else []
 | _,_=>[]
def wI (d:aP) (p:List Nat) (h i:Nat):List KM.Fra:=match d.wi[i]? with
 | some x=>if x.pl=p∧x.ho=h then [x.am] else []
 | none=>[]
def fm (n:Nat) (g:Nat→List KM.Fra):List KM.Fra:=(List.range n).flatMap g
theorem bw (n:Nat) (g:Nat→List KM.Fra):fm (n+1) g=fm n g++g n:=by
 unfold fm
 rw [List.range_succ,List.flatMap_append]
 simp
def uu (d:aP) (b:dJ) (p:List Nat) (h:Nat):List KM.Fra:=fm d.ws.length (cW d b p h)++fm d.ts.length (cT d b p h)++fm d.ss.length (cS d b p h)
def zx (d:aP) (b:dJ) (p:List Nat) (h:Nat):List KM.Fra:=fm d.ts.length (gT d b p h)++fm d.ss.length (gS d b p h)
def xr (d:aP) (p:List Nat) (h:Nat):List KM.Fra:=fm d.wi.length (wI d p h)
theorem oN {D:Addr}{H1:Hp}{σc:St}{g:TG}{te:TE}{tt:TT}{Q:VK}{J:It}{n c:Nat} (G:Nat→List KM.Fra) (hz:n≤10000) (hD:H1 D=none) (hgo:∀i H',i<n→aa H1 H'→J.go i H') (hst:∀H',aa H1 H'→J.stop n H')
 (hs:∀i x H' H'' (R:VK) (R0:Hp→Prop),i<n→aa H1 H'→J.yld i H' x H''→(∀o p H4,aa H' H4→G i=[p]→H4 o=some (fr p)→Fr c p→R (.ref o) H4)→(∀H4,aa H' H4→G i=[]→R0 H4)→g x σc H'' fun σ2 H2=>fD σc σ2∧tt σ2 H2 fun b H3=>if b=true then te σ2 H3 R else R0 H3)
 (hd:∀H' zs,aa H1 H'→H' D=some (.lst zs)→FL c H' zs (fm n G)→zs.length≤n→Q (.ref D) H'):gl J σc g tt te D H1 Q:=by
 refine xa (n:=n) (fun i H' zs=>H' D=some (.lst zs)∧aa H1 H'∧FL c H' zs (fm i G)∧zs.length≤i) (fA hz) ⟨aE,di hD (aa.refl _),.nil,Nat.le_refl _⟩ ?_ ?_ ?_ ?_ ?_
 ·rintro i H' zs ⟨q,_,_,l⟩
  exact ⟨q,l⟩
 ·rintro i H' zs hi ⟨_,sm,_⟩
  exact hgo i H' hi sm
 ·rintro H' zs ⟨_,sm,_⟩
  exact hst H' sm
 ·rintro i H' zs x H'' hi ⟨q,sm,gz,l⟩ y
  refine hs i x H' H'' _ _ hi sm y (fun o p H4 s4 e ho fp=>⟨s4 _ _ q,aE,di hD (sm.trans s4),?_,by rw [List.length_append];exact Nat.succ_le_succ l⟩) fun H4 s4 e=>⟨s4 _ _ q,sm.trans s4,?_,by trivial⟩
  ·rw [bw,e]
   have q4:=s4 _ _ q
   exact FL.tup (FL.snoc ho fp (gz.sm s4)) fun a us e=>by rw [aG (gn e q4 (by intro z;cases z))];exact e
  ·rw [bw,e,List.append_nil]
   exact gz.sm s4
 ·rintro H' zs ⟨q,sm,gz,l⟩
  exact hd H' zs sm q gz l
theorem Bg {c:Nat}{H:Hp}{xs:List V}{r:List KM.Fra}{h:Nat} (f:FL c H xs r) (hh:h<r.length):∃o,xs[h]?=some (.ref o)∧H o=some (fr (cz r h))∧Fr c (cz r h):=by
 obtain ⟨o,p,e1,e2,e3,e4⟩:=FL.at (i:=h) f (by rw [f.length];exact hh)
 have e:cz r h=p:=by unfold cz;rw [e2];rfl
 rw [e]
 exact ⟨o,e1,e3,e4⟩
theorem GB.row {d:aP}{b:dJ} (g:GB 60 60 d b) {i:Nat}{x:iw} (ex:d.ts[i]?=some x):∃r,b.se[i]?=some r∧r.length=d.hr∧∀p∈r,Fr 60 p:=by
 have hi:i<b.se.length:=by rw [g.s];exact (List.getElem?_eq_some_iff.mp ex).1
 have er:=List.getElem?_eq_getElem hi
 obtain ⟨l,a⟩:=g.sr i x _ ex er
 refine ⟨_,er,l,fun p hp=>?_⟩
 obtain ⟨j,hj⟩:=List.mem_iff_getElem?.mp hp
 exact (a j p hj).1
theorem GB.rowK {d:aP}{b:dJ} (g:GB 60 60 d b) {i:Nat}{x:kE} (ex:d.ss[i]?=some x):∃r,b.ke[i]?=some r∧r.length=d.hr∧∀p∈r,Fr 60 p:=by
 have hi:i<b.ke.length:=by rw [g.k];exact (List.getElem?_eq_some_iff.mp ex).1
 have er:=List.getElem?_eq_getElem hi
 obtain ⟨l,a⟩:=g.kr i x _ ex er
 refine ⟨_,er,l,fun p hp=>?_⟩
 obtain ⟨j,hj⟩:=List.mem_iff_getElem?.mp hp
 exact (a j p hj).1
theorem lQ {E:Addr→Prop}{H:Hp}{us:List V}{rs:List (List KM.Fra)}{i:Nat}{u:V}{r:List KM.Fra} (h:au E H us (rs.map aX)) (e:us[i]?=some u) (er:rs[i]?=some r):aK E H u (aX r):=h.nth i e (by rw [List.getElem?_map,er];rfl)
section
variable {P:Program}{w:World}{K:PySem.W.Frag}{mg:Str→Option Value}{base:Heap}
inductive Fw (vs:List V) (H:Hp) (Q:VK):Prop
 | mk (dv:V) (d:aP) (p:List Nat) (h:Nat) (h0:vs=[dv,aT p,.int (h:Int)]) (h1:aK ED H dv (pb d)) (h2:jy d) (h3:∀o H',aa H H'→H' o=some (fr (KM.sumF (xr d p h)))→Fr 200 (KM.sumF (xr d p h))→Q (.ref o) H')
def Ho:Sp:=fun vs H Q _=>Fw  vs H Q
theorem BB (T:Txt K mg):aV P w K mg base CX0 5 T.wished_in_.f T.wished_in_.d ["day", "place", "hour"] Ho:=by
 have G_sum_of:=#[(vT)]
 refine T.wished_in_.F.ok za (fun vs H Q E h=>?_) (fun cdv A outer s H vs Q E hr h=>?_)
 ·obtain ⟨dv,d,p,h,rfl,_⟩:=h
  rfl
 ·obtain ⟨dv,d,p,h,rfl,hd,gd,k⟩:=h
  refine ⟨_,#[ac 3 #[ax 4 #[G_sum_of,rV,T.sum_of_,#[[#[bq 7 (["wish", "hour", "place"]) (1) ([2,1]) _ _ _ _ rfl (by kernel_rfl) (@dW _ (K) _ _ _ #[#[0,u7][#[()]]] (by rfl)) (fun _ _ _ _ _ _=>#[0,(),()]) (fun _ _ _ _ _ _=>#[qx 3 #[PW.pt 3 #[lE 7 #[aH 8 (@b8 _) #[#[0,()][#[()]]] #[2,0] #[(),()]] #[jF 4 #[aH 8 (@b8 _) #[#[0,()][#[()]]] #[1,0] #[(),()]]]]]]) (fun _ _ _ _ _ _=>#[#[0,()][#[()]]]) (by intro _;rfl)]]]]]],?_⟩
  obtain ⟨a,pp,tt,st,wl,wi,ts,ss,ws,is,Dd⟩:=g9 hd
  cases Dd.ev
  have lis:=Dd.ai.length
  rw [List.length_map] at lis
  have i7:=gd.i7
  refine ⟨(),a,_,_,(),rfl,ad.of Dd.ha,rfl,wi,rfl,⟨_,ad.of Dd.hi⟩,fun D hD=>oN (n:=d.wi.length) (c:=24) (wI d p h) (by trivial) hD (fun i H' hi sm=>⟨is,is[i]'(by trivial),ad.of (sm _ _ Dd.hi),by rw [List.getElem?_eq_getElem (by trivial)]⟩) (fun H' sm=>⟨is,ad.of (sm _ _ Dd.hi),by trivial⟩) ?_ ?_⟩
  ·rintro i y H3 H4 R R0 hi s3 ⟨rfl,ey⟩ k1 k0
   have ey:=ey _ (ad.of (K:=K) (s3 _ _ Dd.hi))
   obtain ⟨x,ex,mx,dx⟩:=dl Dd.ai ey
   have gx:=gd.wi x mx
   obtain ⟨wa,om,rfl,hwa,hom⟩:=C1 (dx.mono s3.toE)
   have e:wI d p h i=if x.pl=p∧x.ho=h then [x.am] else []:=by unfold wI;rw [ex]
   refine ⟨cR,(),wa,_,_,(),rfl,ad.of hwa,rfl,(),rfl,(),cG (fun c=>?_) fun c=>aO (k0 _ (aa.refl _) ?_)⟩
   ·have c1:=qT.mp (of_decide_eq_true c)
    refine ⟨(),wa,_,_,(),rfl,ad.of hwa,rfl,(),rfl,(),cG (fun c=>⟨(),wa,_,_,(),rfl,ad.of hwa,rfl,k1 om _ _ (aa.refl _) ?_ hom gx.a⟩) fun c=>k0 _ (aa.refl _) ?_⟩
    ·have c2:=of_decide_eq_true c
     injection c2 with c2
     rw [e,if_pos ⟨c1,by trivial⟩]
    ·rw [e,if_neg]
     rintro ⟨_,z⟩
     exact c (decide_eq_true (by rw [z]))
   ·rw [e,if_neg]
    rintro ⟨z,_⟩
    exact c (decide_eq_true (qT.mpr z))
  intro H1 zs s1 hD1 fz lz
  refine ⟨D,zs,_,24,200,rfl,ah.of hD1,fz,by trivial,by decide,by decide,fun o H' s' ho hf=>k o H' (s1.trans s') ho hf⟩
end
end K54
namespace K54
open PySem L2
set_option maxHeartbeats 16000000
section
variable {P:Program}{w:World}{K:PySem.W.Frag}{mg:Str→Option Value}{base:Heap}
inductive IF (L:aP→dJ→List Nat→Nat→List KM.Fra) (m:Nat) (vs:List V) (H:Hp) (Q:VK):Prop
 | mk (dv bv:V) (d:aP) (b:dJ) (E:Addr→Prop) (p:List Nat) (h:Nat) (h0:vs=[dv,bv,aT p,.int (h:Int)]) (h1:aK ED H dv (pb d)) (h2:aK E H bv (ki b)) (h3:jy d) (h4:GB 60 60 d b) (h5:h<d.hr) (h6:∀o H',aa H H'→H' o=some (fr (KM.sumF (L d b p h)))→Fr m (KM.sumF (L d b p h))→Q (.ref o) H')
def EJ (L:aP→dJ→List Nat→Nat→List KM.Fra) (m:Nat):Sp:=fun vs H Q _=>IF L m vs H Q
theorem Ei (T:Txt K mg):aV P w K mg base CX0 5 T.goes_at_.f T.goes_at_.d ["day", "book", "place", "hour"] (EJ zx 800):=by
 have G_sum_of:=#[(vT)]
 refine T.goes_at_.F.ok jL (fun vs H Q E h=>?_) (fun cdv A outer s H vs Q E hr h=>?_)
 ·obtain ⟨dv,bv,d,b,E,p,h,rfl,_⟩:=h
  rfl
 ·obtain ⟨dv,bv,d,b,E1,p,h,rfl,hd,hb,gd,gb,hh,k⟩:=h
  refine ⟨_,#[#[dH 6 #[1,vX] (@br _ (K) _ _ _ _ (3) rfl #[ak 5 #[4,jL.nd,qf] #[ak 5 #[5,jL.nd,qg] #[ak 5 #[6,jL.nd,u6] (@bI _) (by rfl)] (by rfl)] (by rfl)] (by rfl) (by rfl) (by rfl)) (by rfl) (by rfl) (by rfl)] :: #[#[jb 7 (["row", "tie", "hour", "place"]) (2) ([3,2]) _ _ _ _ (7) _ _ _ jL.nd rfl jT (by kernel_rfl) rfl (by kernel_rfl) (@dN _ (K) _ _ _ _ _ _ _ _ qX T.b_zip #[[#[4,qf],#[#[0,qW][#[()]]]]] (by rfl) (by rfl) (by rfl)) (fun _ _ _ _ _ _=>(@br _ (K) _ _ _ _ (2) rfl #[ak 5 #[0,(),()] #[ak 5 #[1,(),()] (@bI _) (by rfl)] (by rfl)] (by rfl) (by rfl) (by rfl))) (fun _ _ _ _ _ _=>#[qx 3 #[aH 8 (@b8 _) #[#[1,()][#[()]]] #[3,0] #[(),()]]]) (fun _ _ _ _ _ _=>#[#[0,()][#[2,0]]!]) (by intro _;rfl)] :: #[#[fF 4 (@eM _ (K) _ _ _ _ _ _ _ _ _ _ _ PySem.F.plainAttrs_list PySem.F.slot_list_extend PySem.F.type_list_extend (@Bz _) #[7,jT] #[[#[bq 7 (["row", "store", "hour", "place"]) (2) ([3,2]) _ _ _ _ rfl (by kernel_rfl) (@dN _ (K) _ _ _ _ _ _ _ _ qX T.b_zip #[[#[5,qg],#[#[0,qW][#[()]]]]] (by rfl) (by rfl) (by rfl)) (fun _ _ _ _ _ _=>(@br _ (K) _ _ _ _ (2) rfl #[ak 5 #[0,(),()] #[ak 5 #[1,(),()] (@bI _) (by rfl)] (by rfl)] (by rfl) (by rfl) (by rfl))) (fun _ _ _ _ _ _=>#[qx 3 #[aH 8 (@b8 _) #[#[1,()][#[()]]] #[3,0] #[(),()]]]) (fun _ _ _ _ _ _=>#[#[0,()][#[2,0]]!]) (by intro _;rfl)]]] (by rfl) (by rfl) (by rfl) (by rfl) (by rfl) (by rfl)) (by rfl)] :: #[ac 3 #[ax 4 #[G_sum_of,uQ,T.sum_of_,#[[#[7,jT]]]]]]]]],?_⟩
  obtain ⟨a,pp,tt,st,wl,wi,ts,ss,ws,is,Dd⟩:=g9 hd
  cases Dd.ev
  obtain ⟨ba,bs,bk,bz,us,ks,zs,rfl,hba,hbs,ius,hbk,iks,hbz,izs⟩:=vo hb
  have lts:=Dd.at_.length
  have lss:=Dd.as_.length
  have lus:=ius.length
  have lks:=iks.length
  rw [List.length_map] at lts lss lus lks
  rw [gb.s] at lus
  rw [gb.k] at lks
  have t8:=gd.t8
  have s5:=gd.s5
  refine bF fun D0 n0=>⟨(),ba,(),ad.of hba,rfl,_,(),_,(),_,(),rfl,n0 _ _ ?_⟩
  refine kK fun Q1 n1=>⟨(),(),a,_,_,(),rfl,ad.of Dd.ha,rfl,bs,tt,true,false,rfl,⟨_,ah.of hbs⟩,⟨_,ad.of Dd.ht⟩,fun D hD=>oN (n:=d.ts.length) (c:=60) (gT d b p h) (by trivial) hD (fun i H' hi sm=>⟨us,ts,us[i]'(by trivial),ts[i]'(by trivial),ah.of (sm _ _ hbs),ad.of (sm _ _ Dd.ht),by rw [List.getElem?_eq_getElem (by trivial)],by rw [List.getElem?_eq_getElem (by trivial)]⟩) (fun H' sm=>⟨us,ts,ah.of (sm _ _ hbs),ad.of (sm _ _ Dd.ht),by trivial⟩) ?_ ?_⟩
  ·rintro i v H' H'' R R0 hi sm ⟨Tp,u,y,hT,rfl,rfl,e1,e2⟩ k1 k0
   have e1:=e1 _ (ah.of (K:=K) (sm _ _ hbs))
   have e2:=e2 _ (ad.of (K:=K) (sm _ _ Dd.ht))
   have st':=aa.new (o:=.tup [u,y]) hT
   have sx:=sm.trans st'
   obtain ⟨x,ex,mx,dx⟩:=dl Dd.at_ e2
   obtain ⟨r,er,lr,fr_⟩:=gb.row ex
   obtain ⟨ta,om,og,op_,oo,rfl,hta,_,_,_,_⟩:=lF (dx.mono sx.toE)
   obtain ⟨ru,rfl,xs,hxs,fxs⟩:=qa (lQ (ius.mono sx.toE) e1 er) fun q hq=>(fr_ q hq).mono (by decide)
   obtain ⟨o,eo,ho,_⟩:=Bg (h:=h) fxs (by trivial)
   have fo:Fr 60 (cz r h):=by
    unfold cz
    rw [List.getElem?_eq_getElem (show h<r.length by trivial)]
    exact fr_ _ (List.getElem_mem _)
   have e:gT d b p h i=if x.bg=p then [cz r h] else []:=by unfold gT;rw [ex,er]
   refine ⟨Tp,(),ad.of aE,rfl,_,(),_,(),rfl,qC,(),ta,_,_,(),rfl,ad.of hta,rfl,(),rfl,(),cG (fun c=>⟨(),(),ru,_,_,(),rfl,ah.of hxs,eN eo,k1 o _ _ st' ?_ ho fo⟩) fun c=>k0 _ st' ?_⟩
   ·rw [e,if_pos (qT.mp (of_decide_eq_true c))]
   ·rw [e,if_neg fun z=>c (decide_eq_true (qT.mpr z))]
  intro H1 xs s1 hD1 fx lx
  refine n1 _ _ ?_
  refine bF fun D2 n2=>⟨(),.inl ⟨rfl,_,ah.of hD1⟩,(),(),a,_,_,(),rfl,ad.of (s1 _ _ Dd.ha),rfl,bk,st,true,false,rfl,⟨_,ah.of (s1 _ _ hbk)⟩,⟨_,ad.of (s1 _ _ Dd.hs)⟩,fun D2 hD2=>oN (n:=d.ss.length) (c:=60) (gS d b p h) (by trivial) hD2 (fun i H' hi sm=>⟨ks,ss,ks[i]'(by trivial),ss[i]'(by trivial),ah.of (sm _ _ (s1 _ _ hbk)),ad.of (sm _ _ (s1 _ _ Dd.hs)),by rw [List.getElem?_eq_getElem (by trivial)],by rw [List.getElem?_eq_getElem (by trivial)]⟩) (fun H' sm=>⟨ks,ss,ah.of (sm _ _ (s1 _ _ hbk)),ad.of (sm _ _ (s1 _ _ Dd.hs)),by trivial⟩) ?_ ?_⟩
  ·rintro i v H' H'' R R0 hi sm ⟨Tp,u,y,hT,rfl,rfl,e1,e2⟩ k1 k0
   have e1:=e1 _ (ah.of (K:=K) (sm _ _ (s1 _ _ hbk)))
   have e2:=e2 _ (ad.of (K:=K) (sm _ _ (s1 _ _ Dd.hs)))
   have st':=aa.new (o:=.tup [u,y]) hT
   have sx:=(s1.trans sm).trans st'
   obtain ⟨x,ex,mx,dx⟩:=dl Dd.as_ e2
   obtain ⟨r,er,lr,fr_⟩:=gb.rowK ex
   obtain ⟨ta,om,ok,rfl,hta,_,_⟩:=pU (dx.mono sx.toE)
   obtain ⟨ru,rfl,xs',hxs,fxs⟩:=qa (lQ (iks.mono sx.toE) e1 er) fun q hq=>(fr_ q hq).mono (by decide)
   obtain ⟨o,eo,ho,_⟩:=Bg (h:=h) fxs (by trivial)
   have fo:Fr 60 (cz r h):=by
    unfold cz
    rw [List.getElem?_eq_getElem (show h<r.length by trivial)]
    exact fr_ _ (List.getElem_mem _)
   have e:gS d b p h i=if x.pl=p then [cz r h] else []:=by unfold gS;rw [ex,er]
   refine ⟨Tp,(),ad.of aE,rfl,_,(),_,(),rfl,qC,(),ta,_,_,(),rfl,ad.of hta,rfl,(),rfl,(),cG (fun c=>⟨(),(),ru,_,_,(),rfl,ah.of hxs,eN eo,k1 o _ _ st' ?_ ho fo⟩) fun c=>k0 _ st' ?_⟩
   ·rw [e,if_pos (qT.mp (of_decide_eq_true c))]
   ·rw [e,if_neg fun z=>c (decide_eq_true (qT.mpr z))]
  intro H2 ys s2 hD2' fy ly
  have hDH:H D=none:=hD
  refine ⟨D,D2,xs,ys,rfl,rfl,s2 _ _ hD1,hD2',by trivial,fun H3 c3=>n2 _ _ ?_⟩
  have hD12:=s2 _ _ hD1
  have s03:aa H H3:=fun x o h=>c3.ol x o (fun e=>by rw [e,hDH] at h;cases h) ((s1.trans s2) _ _ h)
  have t23:∀x us,H2 x=some (.tup us)→H3 x=some (.tup us):=fun x us e=>c3.tup e hD12
  exact ⟨(),D,_,_,60,800,rfl,ah.of c3.at',((fx.sm s2).append fy).tup t23,by rw [List.length_append];trivial,by decide,by decide,fun o H' s' ho hf=>k o H' (s03.trans s') ho hf⟩
end
end K54
namespace K54
open PySem L2
set_option maxHeartbeats 16000000
theorem FL.mn {c e:Nat}{H:Hp} (l:c≤e):∀{xs:List V}{ps:List KM.Fra},FL c H xs ps→FL e H xs ps
 | _,_,.nil=>.nil
 | _,_,.cons h f r=>.cons h (f.mono l) (FL.mn l r)
theorem va {a b:Nat}{p q:KM.Fra} (hp:Fr a p) (hq:Fr b q) (l:a≤4000) (m:b≤4000):Sz 4000 p.1∧Sz 4000 p.2∧Sz 4000 q.1∧Sz 4000 q.2∧p.2*q.2≠0:=xk hp hq l m
section
variable {P:Program}{w:World}{K:PySem.W.Frag}{mg:Str→Option Value}{base:Heap}
theorem Cd (T:Txt K mg):aV P w K mg base CX0 5 T.comes_at_.f T.comes_at_.d ["day", "book", "place", "hour"] (EJ uu 1600):=by
 have G_sum_of:=#[(vT)]
 have G_times:=#[(y8)]
 refine T.comes_at_.F.ok bD (fun vs H Q E h=>?_) (fun cdv A outer s H vs Q E hr h=>?_)
 ·obtain ⟨dv,bv,d,b,E,p,h,rfl,_⟩:=h
  rfl
 ·obtain ⟨dv,bv,d,b,E1,p,h,rfl,hd,hb,gd,gb,hh,k⟩:=h
  refine ⟨_,#[#[dH 6 #[1,vv] (@br _ (K) _ _ _ _ (3) rfl #[ak 5 #[4,bD.nd,oR] #[ak 5 #[5,bD.nd,ot] #[ak 5 #[6,bD.nd,nR] (@bI _) (by rfl)] (by rfl)] (by rfl)] (by rfl) (by rfl) (by rfl)) (by rfl) (by rfl) (by rfl)] :: #[#[jb 7 (["much", "well", "hour", "place"]) (2) ([3,2]) _ _ _ _ (7) _ _ _ bD.nd rfl gR (by kernel_rfl) rfl (by kernel_rfl) (@dN _ (K) _ _ _ _ _ _ _ _ kS T.b_zip #[[#[6,nR],#[#[0,kN][#[()]]]]] (by rfl) (by rfl) (by rfl)) (fun _ _ _ _ _ _=>(@br _ (K) _ _ _ _ (2) rfl #[ak 5 #[0,(),()] #[ak 5 #[1,(),()] (@bI _) (by rfl)] (by rfl)] (by rfl) (by rfl) (by rfl))) (fun _ _ _ _ _ _=>#[qx 3 #[PW.pt 3 #[lE 7 #[aH 8 (@b8 _) #[#[1,()][#[()]]] #[3,0] #[(),()]] #[jF 4 #[aH 8 (@b8 _) #[#[1,()][#[()]]] #[2,0] #[(),()]]]]]]) (fun _ _ _ _ _ _=>#[0,()]) (by intro _;rfl)] :: #[#[cN 8 PassesOwn.never rfl (@dN _ (K) _ _ _ _ _ _ _ _ kS T.b_zip #[[#[4,oR],#[#[0,kN][#[()]]]]] (by rfl) (by rfl) (by rfl)) (@br _ (K) _ _ _ _ (2) rfl #[ak 5 #[8,bD.nd,iR] #[ak 5 (@br _ (K) _ _ _ _ (7) rfl #[ak 5 #[9,bD.nd,uJ] #[ak 5 #[10,bD.nd,pO] #[ak 5 #[11,bD.nd,nX] #[ak 5 #[12,bD.nd,oz] #[ak 5 #[13,bD.nd,uL] #[ak 5 #[14,bD.nd,jP] #[ak 5 #[15,bD.nd,uG] (@bI _) (by rfl)] (by rfl)] (by rfl)] (by rfl)] (by rfl)] (by rfl)] (by rfl)] (by rfl) (by rfl) (by rfl)) (@bI _) (by rfl)] (by rfl)] (by rfl) (by rfl) (by rfl)) #[ac 3 #[bn 8 #[PW.pt 3 #[lE 7 #[aH 8 (@b8 _) #[10,pO] #[2,(mY)] #[(),()]] #[jF 4 #[aH 8 (@AU _) #[14,jP] #[3,(il)] #[(),()]]]]] #[ac 3 #[fF 4 (@eM _ (K) _ _ _ _ _ _ _ _ _ _ _ PySem.F.plainAttrs_list PySem.F.slot_list_append PySem.F.type_list_append (@eh _) #[7,gR] #[[#[G_times,mU,T.times_,#[[#[#[8,iR][#[aj 8 (@lV _) #[3,(il)] #[14,jP]]]!],#[12,oz]]]]]] (by rfl) (by rfl) (by rfl) (by rfl) (by rfl) (by rfl)) (by rfl)]] (@aM _)]] (by intro _;rfl)] :: #[#[cN 8 PassesOwn.never rfl (@dN _ (K) _ _ _ _ _ _ _ _ kS T.b_zip #[[#[5,ot],#[#[0,kN][#[()]]]]] (by rfl) (by rfl) (by rfl)) (@br _ (K) _ _ _ _ (2) rfl #[ak 5 #[8,bD.nd,iR] #[ak 5 (@br _ (K) _ _ _ _ (3) rfl #[ak 5 #[16,bD.nd,oX] #[ak 5 #[11,bD.nd,nX] #[ak 5 #[17,bD.nd,pc] (@bI _) (by rfl)] (by rfl)] (by rfl)] (by rfl) (by rfl) (by rfl)) (@bI _) (by rfl)] (by rfl)] (by rfl) (by rfl) (by rfl)) #[ac 3 #[bn 8 #[PW.pt 3 #[lE 7 #[aH 8 (@b8 _) #[16,oX] #[2,(mY)] #[(),()]] #[jF 4 #[aH 8 (@oO _) #[3,(il)] #[()] #[(),()]]]]] #[ac 3 #[fF 4 (@eM _ (K) _ _ _ _ _ _ _ _ _ _ _ PySem.F.plainAttrs_list PySem.F.slot_list_append PySem.F.type_list_append (@eh _) #[7,gR] #[[#[G_times,mU,T.times_,#[[#[#[8,iR][#[aj 8 (@lV _) #[3,(il)] #[()]]]!],#[17,pc]]]]]] (by rfl) (by rfl) (by rfl) (by rfl) (by rfl) (by rfl)) (by rfl)]] (@aM _)]] (by intro _;rfl)] :: #[ac 3 #[ax 4 #[G_sum_of,tX,T.sum_of_,#[[#[7,gR]]]]]]]]]],?_⟩
  obtain ⟨a,pp,tt,st,wl,wi,ts,ss,ws,is,Dd⟩:=g9 hd
  cases Dd.ev
  obtain ⟨ba,bs,bk,bz,us,ks,zs,rfl,hba,hbs,ius,hbk,iks,hbz,izs⟩:=vo hb
  have lts:=Dd.at_.length
  have lss:=Dd.as_.length
  have lws:=Dd.aw.length
  have lus:=ius.length
  have lks:=iks.length
  have lzs:=izs.length
  rw [List.length_map] at lts lss lws lus lks lzs
  rw [gb.s] at lus
  rw [gb.k] at lks
  rw [gb.z] at lzs
  have t8:=gd.t8
  have s5:=gd.s5
  have w5:=gd.w5
  refine bF fun D0 n0=>⟨(),ba,(),ad.of hba,rfl,_,(),_,(),_,(),rfl,n0 _ _ ?_⟩
  refine kK fun Q1 n1=>⟨(),(),a,_,_,(),rfl,ad.of Dd.ha,rfl,bz,wl,true,false,rfl,⟨_,ah.of hbz⟩,⟨_,ad.of Dd.hw⟩,fun D hD=>oN (n:=d.ws.length) (c:=60) (cW d b p h) (by trivial) hD (fun i H' hi sm=>⟨zs,ws,zs[i]'(by trivial),ws[i]'(by trivial),ah.of (sm _ _ hbz),ad.of (sm _ _ Dd.hw),by rw [List.getElem?_eq_getElem (by trivial)],by rw [List.getElem?_eq_getElem (by trivial)]⟩) (fun H' sm=>⟨zs,ws,ah.of (sm _ _ hbz),ad.of (sm _ _ Dd.hw),by trivial⟩) ?_ ?_⟩
  ·rintro i v H' H'' R R0 hi sm ⟨Tp,u,y,hT,rfl,rfl,e1,e2⟩ k1 k0
   have e1:=e1 _ (ah.of (K:=K) (sm _ _ hbz))
   have e2:=e2 _ (ad.of (K:=K) (sm _ _ Dd.hw))
   have st':=aa.new (o:=.tup [u,y]) hT
   have sx:=sm.trans st'
   obtain ⟨x,ex,mx,dx⟩:=dl Dd.aw e2
   obtain ⟨wa,om,op_,rfl,hwa,_,_⟩:=sT (dx.mono sx.toE)
   have hz:i<b.dr.length:=by rw [gb.z];exact (List.getElem?_eq_some_iff.mp ex).1
   have eq:=List.getElem?_eq_getElem hz
   have aq:=(gb.zr i x _ ex eq).1
   obtain ⟨o,rfl,ho⟩:=iU (p:=b.dr[i]) ((izs.mono sx.toE).nth i e1 (by rw [List.getElem?_map,eq];rfl))
   have e:cW d b p h i=if x.pl=p∧x.ho=h then [b.dr[i]] else []:=by unfold cW;rw [ex,eq]
   refine ⟨Tp,(),ad.of aE,rfl,_,(),_,(),rfl,qC,(),wa,_,_,(),rfl,ad.of hwa,rfl,(),rfl,(),cG (fun c=>?_) fun c=>aO (k0 _ st' ?_)⟩
   ·have c1:=qT.mp (of_decide_eq_true c)
    refine ⟨(),wa,_,_,(),rfl,ad.of hwa,rfl,(),rfl,(),cG (fun c=>⟨(),k1 o _ _ st' ?_ ho aq⟩) fun c=>k0 _ st' ?_⟩
    ·have c2:=of_decide_eq_true c
     injection c2 with c2
     rw [e,if_pos ⟨c1,by trivial⟩]
    ·rw [e,if_neg]
     rintro ⟨_,z⟩
     exact c (decide_eq_true (by rw [z]))
   ·rw [e,if_neg]
    rintro ⟨z,_⟩
    exact c (decide_eq_true (qT.mpr z))
  intro H1 xs0 s1 hD1 fx0 lx0
  refine n1 _ _ ?_
  have nD:∀a o,H a=some o→a≠D:=fun a o h e=>by rw [e,hD] at h;cases h
  have fx0:=FL.mn (show 60≤84 by decide) fx0
  refine bF fun D2 n2=>⟨(),(),a,_,_,(),rfl,ad.of (s1 _ _ Dd.ha),rfl,bs,tt,true,false,rfl,⟨_,ah.of (s1 _ _ hbs)⟩,⟨_,ad.of (s1 _ _ Dd.ht)⟩,mF (xs:=us) (ys:=ts) (n:=d.ts.length) (fun i σ H'=>BA fun (v8 v9 v10 v11 v12 v13 v14 v15 v16 v17:Option V) (xs:List V)=>σ=[some (.ref a),some (.ref ba),some (aT p),some (.int (h:Int)),some (.ref bs),some (.ref bk),some (.ref bz),some (.ref D),v8,v9,v10,v11,v12,v13,v14,v15,v16,v17]∧aa H H'∧H' D=some (.lst xs)∧xs.length≤5+i∧FL 84 H' xs (fm d.ws.length (cW d b p h)++fm i (cT d b p h))) (by trivial) ⟨_,_,_,_,_,_,_,_,_,_,xs0,rfl,s1,hD1,by trivial,by rw [show fm 0 (cT d b p h)=[] from rfl,List.append_nil];exact fx0⟩ ?_ ?_ ?_⟩
  ·rintro i σ H' _ ⟨_,_,_,_,_,_,_,_,_,_,xs,_,sm,_⟩
   exact ⟨ah.of (sm _ _ hbs),ad.of (sm _ _ Dd.ht)⟩
  ·rintro i u y Tp σ H' e1 e2 hT ⟨v8,v9,v10,v11,v12,v13,v14,v15,v16,v17,xs,rfl,sm,hDx,lxs,fx⟩
   have st':=aa.new (o:=.tup [u,y]) hT
   have sx:=sm.trans st'
   have hDT:=st' _ _ hDx
   obtain ⟨x,ex,mx,dx⟩:=dl Dd.at_ e2
   have gx:=gd.ts x mx
   obtain ⟨r,er,lr,fr_⟩:=gb.row ex
   obtain ⟨ta,om,og,op_,oo,rfl,hta,_,hog,_,_⟩:=lF (dx.mono sx.toE)
   obtain ⟨ru,rfl,rs,hrs,iJ⟩:=qa (lQ (ius.mono sx.toE) e1 er) fun q hq=>(fr_ q hq).mono (by decide)
   have hi:i<ts.length:=(List.getElem?_eq_some_iff.mp e2).1
   have e:cT d b p h i=if x.en=p∧x.la≤h then [KM.lTim (cz r (h - x.la)) x.ga] else []:=by unfold cT;rw [ex,er]
   refine ⟨Tp,(),ad.of aE,rfl,_,(),_,(),⟨ta,(),ad.of hta,rfl,_,(),_,(),_,(),_,(),_,(),_,(),_,(),rfl,rfl,?_⟩⟩
   have stay:cT d b p h i=[]→BA fun (u8 u9 u10 u11 u12 u13 u14 u15 u16 u17:Option V) (xs:List V)=>[some (.ref a),some (.ref ba),some (aT p),some (.int (h:Int)),some (.ref bs),some (.ref bk),some (.ref bz),some (.ref D),some (.ref ru),some (aT x.bg),some (aT x.en),some (.ref om),some (.ref og),some (.ref op_),some (.int (x.la:Int)),some (.ref oo),v16,v17]=[some (.ref a),some (.ref ba),some (aT p),some (.int (h:Int)),some (.ref bs),some (.ref bk),some (.ref bz),some (.ref D),u8,u9,u10,u11,u12,u13,u14,u15,u16,u17]∧aa H (aQ H' Tp (.tup [.ref ru,.ref ta]))∧aQ H' Tp (.tup [.ref ru,.ref ta]) D=some (.lst xs)∧xs.length≤5+(i+1)∧FL 84 (aQ H' Tp (.tup [.ref ru,.ref ta])) xs (fm d.ws.length (cW d b p h)++fm (i+1) (cT d b p h)):=
    fun e0=>⟨_,_,_,_,_,_,_,_,_,_,xs,rfl,sx,hDT,by trivial,by rw [bw,e0,List.append_nil];exact fx.sm st'⟩
   refine ⟨_,rfl,_,rfl,rfl,_,rfl,cG (fun c=>?_) fun c=>aO (stay (by rw [e,if_neg];rintro ⟨z,_⟩;exact c (decide_eq_true (qT.mpr z))))⟩
   have c1:=qT.mp (of_decide_eq_true c)
   refine ⟨_,rfl,_,rfl,_,_,rfl,rfl,_,rfl,cG (fun c=>?_) fun c=>stay (by rw [e,if_neg];rintro ⟨_,z⟩;exact c (decide_eq_true (by trivial)))⟩
   have c2:x.la≤h:=by have:=of_decide_eq_true c;trivial
   obtain ⟨o,eo,ho,_⟩:=Bg (h:=h - x.la) iJ (by trivial)
   have fo:Fr 60 (cz r (h - x.la)):=by
    unfold cz
    rw [List.getElem?_eq_getElem (show h - x.la<r.length by trivial)]
    exact fr_ _ (List.getElem_mem _)
   refine ⟨(),.inl ⟨rfl,_,ah.of hDT⟩,(),(),(),_,(),rfl,ru,_,_,(),rfl,ah.of hrs,by rw [show (h:Int) - (x.la:Int)=((h - x.la:Nat):Int) by trivial];exact eN eo,(),o,og,_,_,_,(),ho,hog,va fo gx.g (by decide) (by decide),fun o4 H4 m4=>⟨D,xs,(),rfl,m4.sm _ _ hDT,by trivial,fun H5 c5=>?_⟩⟩
   have hD4:=m4.sm _ _ hDT
   have s05:aa H H5:=fun a o h=>c5.ol a o (nD a o h) ((sx.trans m4.sm) _ _ h)
   have t45:∀a us,H4 a=some (.tup us)→H5 a=some (.tup us):=fun a us h=>c5.tup h hD4
   refine ⟨_,_,_,_,_,_,_,_,_,_,xs++[.ref o4],rfl,s05,c5.at',by simp;trivial,?_⟩
   rw [bw,e,if_pos ⟨c1,c2⟩,←List.append_assoc]
   exact FL.tup (FL.snoc m4.at' (Fr.tim fo gx.g (by decide)) ((fx.sm st').sm m4.sm)) t45
  rintro σ H2 ⟨v8,v9,v10,v11,v12,v13,v14,v15,v16,v17,xs,rfl,sm,hDx,lxs,fx⟩
  refine n2 _ _ ?_
  refine bF fun D3 n3=>⟨(),(),a,_,_,(),rfl,ad.of (sm _ _ Dd.ha),rfl,bk,st,true,false,rfl,⟨_,ah.of (sm _ _ hbk)⟩,⟨_,ad.of (sm _ _ Dd.hs)⟩,mF (xs:=ks) (ys:=ss) (n:=d.ss.length) (fun i σ H'=>BA fun (v8 v9 v10 v11 v12 v13 v14 v15 v16 v17:Option V) (xs:List V)=>σ=[some (.ref a),some (.ref ba),some (aT p),some (.int (h:Int)),some (.ref bs),some (.ref bk),some (.ref bz),some (.ref D),v8,v9,v10,v11,v12,v13,v14,v15,v16,v17]∧aa H H'∧H' D=some (.lst xs)∧xs.length≤13+i∧FL 84 H' xs (fm d.ws.length (cW d b p h)++fm d.ts.length (cT d b p h)++fm i (cS d b p h))) (by trivial) ⟨_,_,_,_,_,_,_,_,_,_,xs,rfl,sm,hDx,by trivial,by rw [show fm 0 (cS d b p h)=[] from rfl,List.append_nil];exact fx⟩ ?_ ?_ ?_⟩
  ·rintro i σ H' _ ⟨_,_,_,_,_,_,_,_,_,_,xs,_,sm,_⟩
   exact ⟨ah.of (sm _ _ hbk),ad.of (sm _ _ Dd.hs)⟩
  ·rintro i u y Tp σ H' e1 e2 hT ⟨v8,v9,v10,v11,v12,v13,v14,v15,v16,v17,xs,rfl,sm,hDx,lxs,fx⟩
   have st':=aa.new (o:=.tup [u,y]) hT
   have sx:=sm.trans st'
   have hDT:=st' _ _ hDx
   obtain ⟨x,ex,mx,dx⟩:=dl Dd.as_ e2
   have gx:=gd.ss x mx
   obtain ⟨r,er,lr,fr_⟩:=gb.rowK ex
   obtain ⟨ta,om,ok,rfl,hta,_,hok⟩:=pU (dx.mono sx.toE)
   obtain ⟨ru,rfl,rs,hrs,iJ⟩:=qa (lQ (iks.mono sx.toE) e1 er) fun q hq=>(fr_ q hq).mono (by decide)
   have hi:i<ss.length:=(List.getElem?_eq_some_iff.mp e2).1
   have e:cS d b p h i=if x.pl=p∧0<h then [KM.lTim (cz r (h - 1)) x.ke] else []:=by unfold cS;rw [ex,er]
   refine ⟨Tp,(),ad.of aE,rfl,_,(),_,(),⟨ta,(),ad.of hta,rfl,_,(),_,(),_,(),rfl,rfl,?_⟩⟩
   have stay:cS d b p h i=[]→BA fun (u8 u9 u10 u11 u12 u13 u14 u15 u16 u17:Option V) (xs:List V)=>[some (.ref a),some (.ref ba),some (aT p),some (.int (h:Int)),some (.ref bs),some (.ref bk),some (.ref bz),some (.ref D),some (.ref ru),v9,v10,some (.ref om),v12,v13,v14,v15,some (aT x.pl),some (.ref ok)]=[some (.ref a),some (.ref ba),some (aT p),some (.int (h:Int)),some (.ref bs),some (.ref bk),some (.ref bz),some (.ref D),u8,u9,u10,u11,u12,u13,u14,u15,u16,u17]∧aa H (aQ H' Tp (.tup [.ref ru,.ref ta]))∧aQ H' Tp (.tup [.ref ru,.ref ta]) D=some (.lst xs)∧xs.length≤13+(i+1)∧FL 84 (aQ H' Tp (.tup [.ref ru,.ref ta])) xs (fm d.ws.length (cW d b p h)++fm d.ts.length (cT d b p h)++fm (i+1) (cS d b p h)):=
    fun e0=>⟨_,_,_,_,_,_,_,_,_,_,xs,rfl,sx,hDT,by trivial,by rw [bw,e0,List.append_nil];exact fx.sm st'⟩
   refine ⟨_,rfl,_,rfl,rfl,_,rfl,cG (fun c=>?_) fun c=>aO (stay (by rw [e,if_neg];rintro ⟨z,_⟩;exact c (decide_eq_true (qT.mpr z))))⟩
   have c1:=qT.mp (of_decide_eq_true c)
   refine ⟨_,rfl,_,_,rfl,rfl,_,rfl,cG (fun c=>?_) fun c=>stay (by rw [e,if_neg];rintro ⟨_,z⟩;exact c (decide_eq_true (by trivial)))⟩
   have c2:0<h:=by have:=of_decide_eq_true c;trivial
   obtain ⟨o,eo,ho,_⟩:=Bg (h:=h - 1) iJ (by trivial)
   have fo:Fr 60 (cz r (h - 1)):=by
    unfold cz
    rw [List.getElem?_eq_getElem (show h - 1<r.length by trivial)]
    exact fr_ _ (List.getElem_mem _)
   refine ⟨(),.inl ⟨rfl,_,ah.of hDT⟩,(),(),_,(),rfl,ru,_,_,(),rfl,ah.of hrs,by rw [show (h:Int) - 1=((h - 1:Nat):Int) by trivial];exact eN eo,(),o,ok,_,_,_,(),ho,hok,va fo gx.k (by decide) (by decide),fun o4 H4 m4=>⟨D,xs,(),rfl,m4.sm _ _ hDT,by trivial,fun H5 c5=>?_⟩⟩
   have hD4:=m4.sm _ _ hDT
   have s05:aa H H5:=fun a o h=>c5.ol a o (nD a o h) ((sx.trans m4.sm) _ _ h)
   have t45:∀a us,H4 a=some (.tup us)→H5 a=some (.tup us):=fun a us h=>c5.tup h hD4
   refine ⟨_,_,_,_,_,_,_,_,_,_,xs++[.ref o4],rfl,s05,c5.at',by simp;trivial,?_⟩
   rw [bw,e,if_pos ⟨c1,c2⟩,←List.append_assoc]
   exact FL.tup (FL.snoc m4.at' (Fr.tim fo gx.k (by decide)) ((fx.sm st').sm m4.sm)) t45
  rintro σ H3 ⟨v8,v9,v10,v11,v12,v13,v14,v15,v16,v17,xs',rfl,sm',hDx',lxs',fx'⟩
  exact n3 _ _ ⟨(),D,xs',_,84,1600,rfl,ah.of hDx',fx',by trivial,by decide,by decide,fun o H' s' ho hf=>k o H' (sm'.trans s') ho hf⟩
def uZ (d:aP) (b:dJ) (sh:KM.Fra) (p:List Nat) (h:Nat):KM.Fra:=KM.lTak (KM.lTak (KM.sumF (uu d b p h)) (KM.sumF (zx d b p h))) (KM.lTim sh (KM.sumF (xr d p h)))
inductive Ib (vs:List V) (H:Hp) (Q:VK):Prop
 | mk (dv bv:V) (so:Addr) (d:aP) (b:dJ) (E:Addr→Prop) (p:List Nat) (h:Nat) (sh:KM.Fra) (h0:vs=[dv,bv,aT p,.int (h:Int),.ref so]) (h1:aK ED H dv (pb d)) (h2:aK E H bv (ki b)) (h3:jy d) (h4:GB 60 60 d b) (h5:h<d.hr) (h6:H so=some (fr sh)) (h7:Fr 10 sh) (h8:∀o H',aa H H'→H' o=some (fr (uZ d b sh p h))→Fr 2700 (uZ d b sh p h)→Q (.ref o) H')
def JD:Sp:=fun vs H Q _=>Ib  vs H Q
theorem yq (T:Txt K mg):aV P w K mg base CX0 6 T.hour_sum_.f T.hour_sum_.d ["day", "book", "place", "hour", "share"] JD:=by
 have G_wished_in:=#[(BB)]
 have G_comes_at:=#[(Cd)]
 have G_goes_at:=#[(Ei)]
 have G_times:=#[(y8)]
 have G_taken:=#[(EA)]
 refine T.hour_sum_.F.ok ui (fun vs H Q E h=>?_) (fun cdv A outer s H vs Q E hr h=>?_)
 ·obtain ⟨dv,bv,so,d,b,E,p,h,sh,rfl,_⟩:=h
  rfl
 ·obtain ⟨dv,bv,so,d,b,E1,p,h,sh,rfl,hd,hb,gd,gb,hh,hso,fs,k⟩:=h
  refine ⟨_,#[#[5,ui.nd,ou,#[G_taken,nJ,T.taken_,#[[#[G_comes_at,rl,T.comes_at_,#[[#[0,kP],#[1,oP],#[2,js],#[3,jI]]]],#[G_goes_at,rP,T.goes_at_,#[[#[0,kP],#[1,oP],#[2,js],#[3,jI]]]]]]]] :: #[ac 3 #[ax 4 #[G_taken,nJ,T.taken_,#[[#[5,ou],#[G_times,uo,T.times_,#[[#[4,uw],#[G_wished_in,qw,T.wished_in_,#[[#[0,kP],#[2,js],#[3,jI]]]]]]]]]]]]],?_⟩
  refine kK fun Q1 n1=>⟨(),(),(),(),_,_,d,b,E1,p,h,rfl,hd,hb,gd,gb,hh,fun o1 H1 s1 h1 f1=>⟨(),(),(),(),_,_,d,b,E1,p,h,rfl,hd.mono s1.toE,hb.mono s1.toE,gd,gb,hh,fun o2 H2 s2 h2 f2=>⟨o1,o2,_,_,_,(),s2 _ _ h1,h2,va f1 f2 (by decide) (by decide),fun o3 H3 m3=>n1 _ _ ?_⟩⟩⟩
  have s03:=(s1.trans s2).trans m3.sm
  have f3:Fr 2401 (KM.lTak (KM.sumF (uu d b p h)) (KM.sumF (zx d b p h))):=Fb.tak' f1 f2 (by decide)
  refine ⟨(),(),(),(),(),_,d,p,h,rfl,hd.mono s03.toE,gd,fun o4 H4 s4 h4 f4=>⟨so,o4,_,_,_,(),(s03.trans s4) _ _ hso,h4,va fs f4 (by decide) (by decide),fun o5 H5 m5=>?_⟩⟩
  have f5:Fr 210 (KM.lTim sh (KM.sumF (xr d p h))):=Fr.tim fs f4 (by decide)
  refine ⟨o3,o5,_,_,_,(),(s4.trans m5.sm) _ _ m3.at',m5.at',va f3 f5 (by decide) (by decide),fun o6 H6 m6=>k _ _ (((s03.trans s4).trans m5.sm).trans m6.sm) m6.at' (Fb.tak' f3 f5 (by decide))⟩
end
end K54
namespace K54
open PySem L2
set_option maxHeartbeats 16000000
theorem CJ {n:Nat}{g:Nat→List KM.Fra}{p:KM.Fra} (h:p∈fm n g):∃i,i<n∧p∈g i:=by
 obtain ⟨i,hi,hp⟩:=List.mem_flatMap.mp h
 exact ⟨i,List.mem_range.mp hi,hp⟩
end K54
namespace K54
open PySem L2
set_option maxHeartbeats 16000000
def cy (p:List Nat) (h:Nat):List bc:=[.inr (S p),.inl (h:Int)]
theorem mN {p q:List Nat}{h j:Nat} (e:cy p h=cy q j):p=q∧h=j:=by
 unfold cy at e
 injection e with e1 e2
 injection e1 with e1
 injection e2 with e2 _
 injection e2 with e2
 exact ⟨EQ e1,by trivial⟩
def d5 (hr:Nat) (p:List Nat):List (List bc):=(List.range hr).map (cy p)
def bM (ls:List (List Nat)) (hr:Nat):List (List bc):=ls.flatMap (d5 hr)
theorem kI {ls:List (List Nat)}{hr:Nat}{p:List Nat}{h:Nat} (hp:p∈ls) (hh:h<hr):cy p h∈bM ls hr:=List.mem_flatMap.mpr ⟨p,hp,List.mem_map.mpr ⟨h,List.mem_range.mpr hh,rfl⟩⟩
theorem wO {ls:List (List Nat)}{hr:Nat}{k:List bc} (h:k∈bM ls hr):bP fun p h=>p∈ls∧h<hr∧k=cy p h:=by
 obtain ⟨p,hp,h⟩:=List.mem_flatMap.mp h
 obtain ⟨j,hj,rfl⟩:=List.mem_map.mp h
 exact ⟨p,j,hp,List.mem_range.mp hj,rfl⟩
theorem DW (hr:Nat) (p:List Nat):(d5 hr p).Nodup:=by
 unfold d5
 rw [List.nodup_iff_pairwise_ne] at *
 rw [List.pairwise_map]
 exact List.Pairwise.imp (fun {a b} h e=>h (mN e).2) (List.nodup_range (n:=hr))
def cv (H:Hp) (D:Addr) (ls:List (List Nat)) (hr:Nat) (G:List Nat→Nat→List KM.Fra):Prop:=∃f:List bc→V,H D=some (.dT (cB (bM ls hr) f))∧∀p∈ls,∀h,h<hr→∃o,f (cy p h)=.ref o∧H o=some (fr (KM.sumF (G p h)))
theorem cv.sm {H H':Hp}{D:Addr}{ls:List (List Nat)}{hr:Nat}{G:List Nat→Nat→List KM.Fra} (x:cv H D ls hr G) (s:aa H H'):cv H' D ls hr G:=by
 obtain ⟨f,a,b⟩:=x
 refine ⟨f,s _ _ a,fun p hp h hh=>?_⟩
 obtain ⟨o,e1,e2⟩:=b p hp h hh
 exact ⟨o,e1,s _ _ e2⟩
theorem cv.congr {H:Hp}{D:Addr}{ls:List (List Nat)}{hr:Nat}{G G':List Nat→Nat→List KM.Fra} (x:cv H D ls hr G) (e:∀p h,G p h=G' p h):cv H D ls hr G':=by
 obtain rfl:G=G':=funext fun p=>funext fun h=>e p h
 exact x
def gP (G:List Nat→Nat→List KM.Fra) (p0:List Nat) (h0:Nat) (q:KM.Fra):List Nat→Nat→List KM.Fra:=fun p h=>G p h++if p0=p∧h0=h then [q] else []
theorem cv.set {H H':Hp}{D o:Addr}{ls:List (List Nat)}{hr:Nat}{G:List Nat→Nat→List KM.Fra}{f:List bc→V}{p0:List Nat}{h0:Nat}{q:KM.Fra} (hD:H D=some (.dT (cB (bM ls hr) f))) (hf:∀p∈ls,∀h,h<hr→∃o,f (cy p h)=.ref o∧H o=some (fr (KM.sumF (G p h)))) (ho:H o=some (fr (KM.ladd (KM.sumF (G p0 h0)) q))) (c:xg H D (.dT (cB (bM ls hr) fun z=>if z=cy p0 h0 then .ref o else f z)) H'):cv H' D ls hr (gP G p0 h0 q):=by
 have tp:∀a us,H a=some (.tup us)→H' a=some (.tup us):=fun a us e=>c.ol a _ (gn e hD (by intro z;cases z)) e
 refine ⟨_,c.at',fun p hp h hh=>?_⟩
 by_cases e:p0=p∧h0=h
 ·obtain ⟨rfl,rfl⟩:=e
  refine ⟨o,if_pos rfl,?_⟩
  unfold gP
  rw [if_pos ⟨rfl,rfl⟩,qr]
  exact tp _ _ ho
 ·obtain ⟨o',e1,e2⟩:=hf p hp h hh
  refine ⟨o',by rw [if_neg fun z=>e ⟨(mN z).1.symm,(mN z).2.symm⟩];exact e1,?_⟩
  unfold gP
  rw [if_neg e,List.append_nil]
  exact tp _ _ e2
theorem GK {c:Nat}:∀{ps:List KM.Fra},(∀p∈ps,Fr c p)→Fr ((c+1)*ps.length+1) (KM.sumF ps):=by
 intro ps
 induction ps using Fg with
 | h0=>intro _;exact Dg
 | h1 ps p ih=>
  intro h
  rw [qr]
  have e:(c+1)*(ps++[p]).length=(c+1)*ps.length+(c+1):=by rw [List.length_append];exact Nat.mul_succ _ _
  exact (ih fun q hq=>h q (List.mem_append_left _ hq)).add (h p (by simp)) (by trivial)
def gG (n:Nat) (ps:List KM.Fra):Prop:=(∀p∈ps,Fr 84 p)∧ps.length≤n
theorem gG.app {m n k:Nat}{ps qs:List KM.Fra} (h:gG m ps) (g:gG n qs) (l:m+n≤k):gG k (ps++qs):=⟨fun p hp=>(List.mem_append.mp hp).elim (h.1 p) (g.1 p),by rw [List.length_append];have:=h.2;have:=g.2;trivial⟩
theorem gG.nil {n:Nat}:gG n []:=⟨fun _ h=>(nomatch h),Nat.zero_le _⟩
theorem Cj {k:Nat}{g:Nat→List KM.Fra}:∀(n:Nat),(∀i,i<n→gG k (g i))→gG (k*n) (fm n g)
 | 0,_=>.nil
 | n+1,h=>by
  rw [bw]
  exact (Cj n fun i hi=>h i (by trivial)).app (h n (by trivial)) (Nat.le_of_eq (Nat.mul_succ k n).symm)
end K54
namespace K54
open PySem L2
set_option maxHeartbeats 16000000
theorem zt (hr:Nat):∀{ls:List (List Nat)},ls.Nodup→(bM ls hr).Nodup
 | [],_=>List.nodup_nil
 | l :: ls,h=>by
  rw [List.nodup_cons] at h
  show (d5 hr l++bM ls hr).Nodup
  refine List.nodup_append.mpr ⟨DW hr l,zt hr h.2,fun a ha b hb e=>?_⟩
  obtain ⟨j,_,rfl⟩:=List.mem_map.mp ha
  obtain ⟨p,k,hp,_,rfl⟩:=wO hb
  exact h.1 ((mN e).1▸hp)
theorem su (hr:Nat) (h8:hr≤8):∀(ls:List (List Nat)),(bM ls hr).length≤8*ls.length
 | []=>Nat.zero_le _
 | l :: ls=>by
  show (d5 hr l++bM ls hr).length≤_
  have:=su hr h8 ls
  rw [List.length_append,List.length_cons,show (d5 hr l).length=hr by unfold d5;simp]
  trivial
def HL (H:Hp) (k:Nat→List bc) (ts:List Addr):Prop:=∀(i:Nat) t,ts[i]?=some t→bP fun b o=>H t=some (.tup [.ref b,.ref o])∧H b=some (.tup ((k i).map kV))∧H o=some (fr (0,1))
theorem AL {D:Addr}{H1:Hp}{σc:St}{g:TG}{te:TE}{Q:VK}{J:It}{n:Nat} (k:Nat→List bc) (hz:n≤10000) (hD:H1 D=none) (hgo:∀i H',i<n→aa H1 H'→J.go i H') (hst:∀H',aa H1 H'→J.stop n H')
 (hs:∀i x H' H'' (R:VK),i<n→aa H1 H'→J.yld i H' x H''→(∀t b o H4,aa H' H4→H4 t=some (.tup [.ref b,.ref o])→H4 b=some (.tup ((k i).map kV))→H4 o=some (fr (0,1))→R (.ref t) H4)→g x σc H'' fun σ2 H2=>fD σc σ2∧te σ2 H2 R)
 (hd:∀ts H',aa H1 H'→H' D=some (.lst (ts.map V.ref))→ts.length=n→HL H' k ts→Q (.ref D) H'):gl J σc g tT te D H1 Q:=by
 refine gH (n:=n) (fun i H' zs=>∃ts:List Addr,zs=ts.map V.ref∧H' D=some (.lst zs)∧aa H1 H'∧ts.length=i∧HL H' k ts) (fA hz) ⟨[],rfl,aE,di hD (aa.refl _),rfl,fun i t e=>by simp at e⟩ ?_ ?_ ?_ ?_ ?_
 ·rintro i H' zs ⟨ts,rfl,q,_,l,_⟩
  exact ⟨q,by rw [List.length_map,l];exact Nat.le_refl _⟩
 ·rintro i H' zs hi ⟨_,_,_,sm,_⟩
  exact hgo i H' hi sm
 ·rintro H' zs ⟨_,_,_,sm,_⟩
  exact hst H' sm
 ·rintro i H' zs x H'' hi ⟨ts,rfl,q,sm,l,pr⟩ y
  refine hs i x H' H'' _ hi sm y fun t b o H4 s4 h1 h2 h3=>?_
  have q4:=s4 _ _ q
  have tp:∀a us,H4 a=some (.tup us)→aQ H4 D (.lst (ts.map V.ref++[.ref t])) a=some (.tup us):=fun a us e=>by rw [aG (gn e q4 (by intro z;cases z))];exact e
  refine ⟨q4,ts++[t],by simp,aE,di hD (sm.trans s4),by simp [l],fun j u e=>?_⟩
  by_cases hj:j<ts.length
  ·rw [List.getElem?_append_left hj] at e
   obtain ⟨b',o',g1,g2,g3⟩:=pr j u e
   exact ⟨b',o',tp _ _ (s4 _ _ g1),tp _ _ (s4 _ _ g2),tp _ _ (s4 _ _ g3)⟩
  ·have hj':j=ts.length:=by
    have:=(List.getElem?_eq_some_iff.mp e).1
    simp at this
    trivial
   subst hj'
   simp at e
   subst e
   rw [l]
   exact ⟨b,o,tp _ _ h1,tp _ _ h2,tp _ _ h3⟩
 ·rintro H' zs ⟨ts,rfl,q,sm,l,pr⟩
  exact hd ts H' sm q l pr
theorem cv.more {H:Hp}{D:Addr}{ls:List (List Nat)}{hr:Nat}{p:List Nat}{ts:List Addr} (x:cv H D ls hr fun _ _=>[]) (nd:(ls++[p]).Nodup) (pr:HL H (cy p) ts) (lt:ts.length=hr) :
 ∃kvs ps:List (List bc×V),H D=some (.dT kvs)∧ts.length=ps.length∧(∀(i:Nat) t q,ts[i]?=some t→ps[i]?=some q→∃b,H t=some (.tup [.ref b,q.2])∧H b=some (.tup (q.1.map kV)))∧(kvs++ps).map (·.1)=bM (ls++[p]) hr∧(kvs++ps).length=(bM (ls++[p]) hr).length∧∀H',xg H D (.dT (kvs++ps)) H'→cv H' D (ls++[p]) hr fun _ _=>[]:=by
 classical
 obtain ⟨f,hD,hf⟩:=x
 have ch:∃og:Nat→Addr,∀h t,ts[h]?=some t→∃b,H t=some (.tup [.ref b,.ref (og h)])∧H b=some (.tup ((cy p h).map kV))∧H (og h)=some (fr (0,1)):=by
  refine Classical.axiomOfChoice (r:=fun h o=>∀t,ts[h]?=some t→∃b,H t=some (.tup [.ref b,.ref o])∧H b=some (.tup ((cy p h).map kV))∧H o=some (fr (0,1))) fun h=>?_
  cases e:ts[h]? with
  | none=>exact ⟨D,fun t z=>by cases z⟩
  | some t=>
   obtain ⟨b,o,h1,h2,h3⟩:=pr h t e
   exact ⟨o,fun t' z=>by cases z;exact ⟨b,h1,h2,h3⟩⟩
 obtain ⟨og,hog⟩:=ch
 have ek:bM (ls++[p]) hr=bM ls hr++d5 hr p:=by unfold bM;rw [List.flatMap_append];simp
 let f':List bc→V:=fun z=>if z∈d5 hr p then (match z with | [_,.inl n]=>.ref (og n.toNat) | _=>.non) else f z
 have f1:∀h,h<hr→f' (cy p h)=.ref (og h):=fun h hh=>by
  show (if cy p h∈d5 hr p then _ else _)=_
  have hm:cy p h∈d5 hr p:=List.mem_map.mpr ⟨h,List.mem_range.mpr hh,rfl⟩
  rw [if_pos hm]
  rfl
 have f0:∀k∈bM ls hr,f' k=f k:=fun k hk=>by
  show (if k∈d5 hr p then _ else _)=_
  rw [if_neg]
  intro z
  obtain ⟨q,j,hq,_,rfl⟩:=wO hk
  obtain ⟨i,_,e⟩:=List.mem_map.mp z
  have:=(List.nodup_append.mp nd).2.2 q hq p (by simp)
  exact this (mN e).1.symm
 have e1:cB (bM ls hr) f=cB (bM ls hr) f':=List.map_congr_left fun k hk=>by rw [f0 k hk]
 have e2:cB (bM ls hr) f++cB (d5 hr p) f'=cB (bM (ls++[p]) hr) f':=by
  rw [e1,ek]
  unfold cB
  rw [List.map_append]
 refine ⟨cB (bM ls hr) f,cB (d5 hr p) f',hD,by rw [lt];unfold cB d5;simp,fun i t q e g=>?_,by rw [e2,DN],by rw [e2];unfold cB;rw [List.length_map],fun H' c=>?_⟩
 ·have hi:i<hr:=by rw [←lt];exact (List.getElem?_eq_some_iff.mp e).1
  have eq:(cB (d5 hr p) f')[i]?=some (cy p i,f' (cy p i)):=by
   unfold cB d5
   rw [List.getElem?_map,List.getElem?_map,List.getElem?_range hi]
   rfl
  rw [eq] at g
  cases g
  obtain ⟨b,h1,h2,_⟩:=hog i t e
  refine ⟨b,?_,h2⟩
  show H t=some (.tup [.ref b,f' (cy p i)])
  rw [f1 i hi]
  exact h1
 ·rw [e2] at c
  have tp:∀a us,H a=some (.tup us)→H' a=some (.tup us):=fun a us e=>c.ol a _ (gn e hD (by intro z;cases z)) e
  refine ⟨f',c.at',fun q hq h hh=>?_⟩
  rcases List.mem_append.mp hq with hq | hq
  ·obtain ⟨o,g1,g2⟩:=hf q hq h hh
   exact ⟨o,(f0 _ (kI hq hh)).trans g1,tp _ _ g2⟩
  ·obtain rfl:=List.mem_singleton.mp hq
   obtain ⟨b,_,_,h3⟩:=hog h _ (List.getElem?_eq_getElem (show h<ts.length by trivial))
   exact ⟨og h,f1 h hh,tp _ _ h3⟩
end K54
namespace K54
open PySem L2
set_option maxHeartbeats 16000000
def sV (x:iw) (r:List KM.Fra) (hr:Nat) (p:List Nat) (h t:Nat):List KM.Fra:=(if x.bg=p∧t=h then [jC (cz r t)] else [])++(if (¬(cz r t).1=0∧t+x.la<hr)∧x.en=p∧t+x.la=h then [KM.lTim (cz r t) x.ga] else [])
def xi (x:kE) (r:List KM.Fra) (hr:Nat) (p:List Nat) (h t:Nat):List KM.Fra:=(if x.pl=p∧t=h then [jC (cz r t)] else [])++(if t+1<hr∧x.pl=p∧t+1=h then [KM.lTim (cz r t) x.ke] else [])
def tG (d:aP) (b:dJ) (p:List Nat) (h i:Nat):List KM.Fra:=match d.ts[i]?,b.se[i]? with
 | some x,some r=>fm r.length (sV x r d.hr p h)
 | _,_=>[]
def sG (d:aP) (b:dJ) (p:List Nat) (h i:Nat):List KM.Fra:=match d.ss[i]?,b.ke[i]? with
 | some x,some r=>fm r.length (xi x r d.hr p h)
 | _,_=>[]
def iG (d:aP) (sh:KM.Fra) (p:List Nat) (h i:Nat):List KM.Fra:=match d.wi[i]? with
 | some x=>if x.pl=p∧x.ho=h then [jC (KM.lTim sh x.am)] else []
 | none=>[]
def qy (d:aP) (b:dJ) (sh:KM.Fra) (p:List Nat) (h:Nat):List KM.Fra:=fm d.ts.length (tG d b p h)++fm d.ss.length (sG d b p h)++fm d.ws.length (cW d b p h)++fm d.wi.length (iG d sh p h)
theorem Cf {n i:Nat}{g:Nat→List KM.Fra}{p:KM.Fra} (hi:i<n) (h:p∈g i):p∈fm n g:=List.mem_flatMap.mpr ⟨i,List.mem_range.mpr hi,h⟩
theorem zY {a b:Nat}{A B:Nat→List KM.Fra}{n:Nat} (h:gG a (fm n A)) (g:gG b (fm n B)):gG (a+b) (fm n fun t=>A t++B t):=by
 refine ⟨fun p hp=>?_,?_⟩
 ·obtain ⟨i,hi,hp⟩:=CJ hp
  rcases List.mem_append.mp hp with z | z
  ·exact h.1 p (Cf hi z)
  ·exact g.1 p (Cf hi z)
 ·have e:∀n,(fm n fun t=>A t++B t).length=(fm n A).length+(fm n B).length:=fun n=>by
   induction n with
   | zero=>rfl
   | succ n ih=>
    rw [bw,bw,bw,List.length_append,List.length_append,List.length_append,List.length_append,ih]
    trivial
  have:=h.2
  have:=g.2
  rw [e]
  trivial
theorem rY {h:Nat}{g:Nat→List KM.Fra} (s:Nat→Nat) (si:∀t u,s t=s u→t=u) (hg:∀t,g t=[]∨(s t=h∧∃q,g t=[q]∧Fr 84 q)):∀(n:Nat),gG 1 (fm n g)∧((∃t,t<n∧s t=h)∨fm n g=[])
 | 0=>⟨.nil,.inr rfl⟩
 | n+1=>by
  obtain ⟨h1,h2⟩:=rY s si hg n
  rw [bw]
  rcases hg n with e | ⟨e,q,eq,fq⟩
  ·rw [e,List.append_nil]
   exact ⟨h1,h2.elim (fun ⟨t,a,b⟩=>.inl ⟨t,by trivial,b⟩) .inr⟩
  ·have z:fm n g=[]:=by
    rcases h2 with ⟨t,ht,et⟩ | z
    ·exact absurd (si t n (et.trans e.symm)) (by trivial)
    ·exact z
   rw [eq,z,List.nil_append]
   exact ⟨⟨fun p hp=>by rw [List.mem_singleton.mp hp];exact fq,Nat.le_refl _⟩,.inl ⟨n,by trivial,e⟩⟩
theorem vz {c:Nat}{r:List KM.Fra} (h:∀p∈r,Fr c p) (hc:1≤c) (t:Nat):Fr c (cz r t):=by
 unfold cz
 cases e:r[t]? with
 | none=>exact Fr.mono (show Fr 1 (0,1) from Dg) hc
 | some p=>exact h p (List.mem_of_getElem? e)
theorem u0 {c:Prop} [Decidable c] {s h:Nat}{q:KM.Fra} (e:c→s=h) (f:Fr 84 q):(if c then [q] else [])=[]∨(s=h∧∃p,(if c then [q] else [])=[p]∧Fr 84 p):=by
 by_cases z:c
 ·exact .inr ⟨e z,q,if_pos z,f⟩
 ·exact .inl (if_neg z)
theorem vG {d:aP}{x:iw}{r:List KM.Fra} (gx:qA d x) (fr_:∀p∈r,Fr 60 p) (hr:Nat) (p:List Nat) (h n:Nat):gG 2 (fm n (sV x r hr p h)):=
 zY (a:=1) (b:=1) (rY (h:=h) (fun t=>t) (fun _ _ e=>e) (fun t=>u0 (fun c=>c.2) ((vz fr_ (by decide) t).neg.mono (by decide))) n).1 (rY (h:=h) (fun t=>t+x.la) (fun _ _ e=>by trivial) (fun t=>u0 (fun c=>c.2.2) (Fr.tim (vz fr_ (by decide) t) gx.g (by decide))) n).1
theorem Ap {d:aP}{x:kE}{r:List KM.Fra} (gx:wN d x) (fr_:∀p∈r,Fr 60 p) (hr:Nat) (p:List Nat) (h n:Nat):gG 2 (fm n (xi x r hr p h)):=
 zY (a:=1) (b:=1) (rY (h:=h) (fun t=>t) (fun _ _ e=>e) (fun t=>u0 (fun c=>c.2) ((vz fr_ (by decide) t).neg.mono (by decide))) n).1 (rY (h:=h) (fun t=>t+1) (fun _ _ e=>by trivial) (fun t=>u0 (fun c=>c.2.2) (Fr.tim (vz fr_ (by decide) t) gx.k (by decide))) n).1
theorem tj {d:aP}{b:dJ} (gd:jy d) (gb:GB 60 60 d b) (p:List Nat) (h i:Nat):gG 2 (tG d b p h i):=by
 unfold tG
 cases ex:d.ts[i]? with
 | none=>exact .nil
 | some x=>
  obtain ⟨r,er,_,f⟩:=gb.row ex
  rw [er]
  exact vG (gd.ts x (List.mem_of_getElem? ex)) f ..
theorem yF {d:aP}{b:dJ} (gd:jy d) (gb:GB 60 60 d b) (p:List Nat) (h i:Nat):gG 2 (sG d b p h i):=by
 unfold sG
 cases ex:d.ss[i]? with
 | none=>exact .nil
 | some x=>
  obtain ⟨r,er,_,f⟩:=gb.rowK ex
  rw [er]
  exact Ap (gd.ss x (List.mem_of_getElem? ex)) f ..
theorem vq {c:Prop} [Decidable c] {q:KM.Fra} (f:Fr 84 q):gG 1 (if c then [q] else []):=by
 by_cases z:c
 ·rw [if_pos z];exact ⟨fun p hp=>by rw [List.mem_singleton.mp hp];exact f,Nat.le_refl _⟩
 ·rw [if_neg z];exact .nil
theorem vd {d:aP}{b:dJ} (gb:GB 60 60 d b) (p:List Nat) (h i:Nat):gG 1 (cW d b p h i):=by
 unfold cW
 cases ex:d.ws[i]? with
 | none=>exact .nil
 | some x=>
  cases eq:b.dr[i]? with
  | none=>exact .nil
  | some q=>exact vq ((gb.zr i x q ex eq).1.mono (by decide))
theorem CH {d:aP}{sh:KM.Fra} (gd:jy d) (fs:Fr 10 sh) (p:List Nat) (h i:Nat):gG 1 (iG d sh p h i):=by
 unfold iG
 cases ex:d.wi[i]? with
 | none=>exact .nil
 | some x=>exact vq ((Fr.tim fs (gd.wi x (List.mem_of_getElem? ex)).a (show 10+24≤84 by decide)).neg)
theorem gG.f35 {n:Nat}{ps:List KM.Fra} (h:gG n ps) (l:n≤40):Fr 3500 (KM.sumF ps):=by
 have e:=Nat.mul_le_mul_left 85 h.2
 exact (GK h.1).mono (by trivial)
theorem jW {k n m:Nat}{g:Nat→List KM.Fra} (h:∀i,gG k (g i)) (l:k*n≤m):gG m (fm n g):=by
 obtain ⟨a,b⟩:=Cj n fun i _=>h i
 exact ⟨a,Nat.le_trans b l⟩
theorem cv.step {H H3 H4:Hp}{D o:Addr}{ls:List (List Nat)}{hr:Nat}{G:List Nat→Nat→List KM.Fra}{f:List bc→V}{p0:List Nat}{h0:Nat}{q:KM.Fra} (hD:H D=some (.dT (cB (bM ls hr) f))) (hf:∀p∈ls,∀h,h<hr→∃o,f (cy p h)=.ref o∧H o=some (fr (KM.sumF (G p h)))) (s:aa H H3) (ho:H3 o=some (fr (KM.ladd (KM.sumF (G p0 h0)) q))) (c:xg H3 D (.dT (cB (bM ls hr) fun z=>if z=cy p0 h0 then .ref o else f z)) H4):cv H4 D ls hr (gP G p0 h0 q):=
 cv.set (s _ _ hD) (fun p hp h hh=>by obtain ⟨o,e1,e2⟩:=hf p hp h hh;exact ⟨o,e1,s _ _ e2⟩) ho c
end K54
namespace K54
open PySem L2
set_option maxHeartbeats 16000000
section
variable {P:Program}{w:World}{K:PySem.W.Frag}{mg:Str→Option Value}{base:Heap}
inductive Fm (G:aP→dJ→KM.Fra→List Nat→Nat→List KM.Fra) (vs:List V) (H:Hp) (Q:VK):Prop
 | mk (dv bv:V) (so:Addr) (d:aP) (b:dJ) (E:Addr→Prop) (sh:KM.Fra) (h0:vs=[dv,bv,.ref so]) (h1:aK ED H dv (pb d)) (h2:aK E H bv (ki b)) (h3:jy d) (h4:GB 60 60 d b) (h5:H so=some (fr sh)) (h6:Fr 10 sh) (h7:∀D H',aa H H'→H D=none→cv H' D d.pl d.hr (G d b sh)→Q (.ref D) H')
def GW (G:aP→dJ→KM.Fra→List Nat→Nat→List KM.Fra):Sp:=fun vs H Q _=>Fm G vs H Q
theorem FE (T:Txt K mg):aV P w K mg base CX0 3 T.l_sums_.f T.l_sums_.d ["_law_day_here", "_law_book", "_law_share"] (GW qy):=by
 have G_l_by:=#[(EU)]
 have G_l_plus:=#[(Ak)]
 refine T.l_sums_.F.ok bQ (fun vs H Q E h=>?_) (fun cdv A outer s H vs Q E hr h=>?_)
 ·obtain ⟨dv,bv,so,d,b,E,sh,rfl,_⟩:=h
  rfl
 ·obtain ⟨dv,bv,so,d,b,E1,sh,rfl,hd,hb,gd,gb,hso,fs,k⟩:=h
  refine ⟨_,#[#[dH 6 #[1,uT] (@br _ (K) _ _ _ _ (3) rfl #[ak 5 #[3,bQ.nd,oH] #[ak 5 #[4,bQ.nd,nW] #[ak 5 #[5,bQ.nd,nO] (@bI _) (by rfl)] (by rfl)] (by rfl)] (by rfl) (by rfl) (by rfl)) (by rfl) (by rfl) (by rfl)] :: #[#[6,bQ.nd,aU,#[Cs 2]] :: #[#[cN 8 PassesOwn.never rfl (@dW _ (K) _ _ _ #[#[0,bX][#[()]]] (by rfl)) #[gv 2 (7) _ bQ.nd rfl (Or.inr uD) (by first | exact .inl rfl | exact .inr rfl | assumption)] #[ac 3 #[fF 4 (@eM _ (K) _ _ _ _ _ _ _ _ _ _ _ PySem.F.plainAttrs_dict PySem.F.slot_dict_update PySem.F.type_dict_update (@FW _ rfl hr.units) #[6,aU] #[[#[bq 7 (["_law_hour", "_law_place"]) (1) ([7]) _ _ _ _ rfl (by kernel_rfl) #[b9 6 vI T.b_range #[[#[#[0,bX][#[()]]]]] (by rfl)] (fun _ _ _ _ _ _=>#[0,(),()]) (fun _ _ _ _ _ _=>@bf _) (fun _ _ _ _ _ _=>#[aD 5 #[[#[aD 5 #[[#[1,0],#[0,()]]]],#[aD 5 #[[#[()],#[()]]]]]]]) (by intro _;rfl)]]] (by rfl) (by rfl) (by rfl) (by rfl) (by rfl) (by rfl)) (by rfl)]] (by intro _;rfl)] :: #[#[cN 8 PassesOwn.never rfl (@dN _ (K) _ _ _ _ _ _ _ _ nN T.b_zip #[[#[#[0,bX][#[()]]],#[3,oH]]] (by rfl) (by rfl) (by rfl)) (@br _ (K) _ _ _ _ (2) rfl #[ak 5 #[9,bQ.nd,dQ] #[ak 5 #[10,bQ.nd,oU] (@bI _) (by rfl)] (by rfl)] (by rfl) (by rfl) (by rfl)) #[ac 3 #[cN 8 PassesOwn.never rfl (@yt _ (K) _ _ _ _ _ _ _ lY T.b_enumerate #[[#[10,oU]]] (by rfl) (by rfl)) (@br _ (K) _ _ _ _ (2) rfl #[ak 5 #[8,bQ.nd,b6] #[ak 5 #[11,bQ.nd,cC] (@bI _) (by rfl)] (by rfl)] (by rfl) (by rfl) (by rfl)) #[#[dH 6 #[G_l_plus,eQ,T.l_plus_,#[[#[d7 7 (@tE _ hr.units) #[6,aU] #[aD 5 #[[#[#[9,dQ][#[()]]],#[8,b6]]]] (fun _ _=>rfl)],#[11,cC],#[jV 6 (@i6 _) #[()]]]]] #[je 7 #[6,aU] #[aD 5 #[[#[#[9,dQ][#[()]]],#[8,b6]]]] (@pN _ hr.units) (by intro _;rfl)] (by rfl) (by rfl) (by rfl)] :: #[ac 3 #[bn 8 #[PW.pt 3 #[lE 7 #[aH 8 (@jH _) #[#[11,cC][#[()]]] #[()] #[(),()]] #[jF 4 #[aH 8 (@gJ _) #[aj 8 (@bi _) #[8,b6] #[#[9,dQ][#[()]]]] #[#[0,bX][#[()]]] #[(),()]]]]] #[#[12,bQ.nd,eU,#[aD 5 #[[#[#[9,dQ][#[()]]],#[aj 8 (@bi _) #[8,b6] #[#[9,dQ][#[()]]]]]]]] :: #[ac 3 #[dH 6 #[G_l_plus,eQ,T.l_plus_,#[[#[d7 7 (@tE _ hr.units) #[6,aU] #[12,eU] (fun _ _=>rfl)],#[G_l_by,l4,T.l_by_,#[[#[11,cC],#[#[9,dQ][#[()]]]]]],#[()]]]] #[je 7 #[6,aU] #[12,eU] (@pN _ hr.units) (by intro _;rfl)] (by rfl) (by rfl) (by rfl)]]] (@aM _)]]] (by intro _;rfl)]] (by intro _;rfl)] :: #[#[cN 8 PassesOwn.never rfl (@dN _ (K) _ _ _ _ _ _ _ _ nN T.b_zip #[[#[#[0,bX][#[()]]],#[4,nW]]] (by rfl) (by rfl) (by rfl)) (@br _ (K) _ _ _ _ (2) rfl #[ak 5 #[13,bQ.nd,fu] #[ak 5 #[14,bQ.nd,nL] (@bI _) (by rfl)] (by rfl)] (by rfl) (by rfl) (by rfl)) #[ac 3 #[cN 8 PassesOwn.never rfl (@yt _ (K) _ _ _ _ _ _ _ lY T.b_enumerate #[[#[14,nL]]] (by rfl) (by rfl)) (@br _ (K) _ _ _ _ (2) rfl #[ak 5 #[8,bQ.nd,b6] #[ak 5 #[11,bQ.nd,cC] (@bI _) (by rfl)] (by rfl)] (by rfl) (by rfl) (by rfl)) #[#[dH 6 #[G_l_plus,eQ,T.l_plus_,#[[#[d7 7 (@tE _ hr.units) #[6,aU] #[aD 5 #[[#[#[13,fu][#[()]]],#[8,b6]]]] (fun _ _=>rfl)],#[11,cC],#[jV 6 (@i6 _) #[()]]]]] #[je 7 #[6,aU] #[aD 5 #[[#[#[13,fu][#[()]]],#[8,b6]]]] (@pN _ hr.units) (by intro _;rfl)] (by rfl) (by rfl) (by rfl)] :: #[ac 3 #[bn 8 #[aH 8 (@gJ _) #[aj 8 (@bi _) #[8,b6] #[()]] #[#[0,bX][#[()]]] #[(),()]] #[#[12,bQ.nd,eU,#[aD 5 #[[#[#[13,fu][#[()]]],#[aj 8 (@bi _) #[8,b6] #[()]]]]]] :: #[ac 3 #[dH 6 #[G_l_plus,eQ,T.l_plus_,#[[#[d7 7 (@tE _ hr.units) #[6,aU] #[12,eU] (fun _ _=>rfl)],#[G_l_by,l4,T.l_by_,#[[#[11,cC],#[#[13,fu][#[()]]]]]],#[()]]]] #[je 7 #[6,aU] #[12,eU] (@pN _ hr.units) (by intro _;rfl)] (by rfl) (by rfl) (by rfl)]]] (@aM _)]]] (by intro _;rfl)]] (by intro _;rfl)] :: #[#[cN 8 PassesOwn.never rfl (@dN _ (K) _ _ _ _ _ _ _ _ nN T.b_zip #[[#[#[0,bX][#[()]]],#[5,nO]]] (by rfl) (by rfl) (by rfl)) (@br _ (K) _ _ _ _ (2) rfl #[ak 5 #[15,bQ.nd,kf] #[ak 5 #[11,bQ.nd,cC] (@bI _) (by rfl)] (by rfl)] (by rfl) (by rfl) (by rfl)) #[ac 3 #[dH 6 #[G_l_plus,eQ,T.l_plus_,#[[#[d7 7 (@tE _ hr.units) #[6,aU] #[cn 10 (@mL _ (K) (by rfl)) #[15,kf] (@dq _) #[cj 3 #[()]]] (fun _ _=>rfl)],#[11,cC],#[()]]]] #[je 7 #[6,aU] #[cn 10 (@mL _ (K) (by rfl)) #[15,kf] (@dq _) #[cj 3 #[()]]] (@pN _ hr.units) (by intro _;rfl)] (by rfl) (by rfl) (by rfl)]] (by intro _;rfl)] :: #[#[cN 8 PassesOwn.never rfl (@dW _ (K) _ _ _ #[#[0,bX][#[()]]] (by rfl)) #[16,bQ.nd,ij] #[ac 3 #[dH 6 #[G_l_plus,eQ,T.l_plus_,#[[#[d7 7 (@tE _ hr.units) #[6,aU] #[cn 10 (@mL _ (K) (by rfl)) #[16,ij] (@dq _) #[cj 3 #[()]]] (fun _ _=>rfl)],#[G_l_by,l4,T.l_by_,#[[#[2,ux],#[#[16,ij][#[()]]]]]],#[jV 6 (@i6 _) #[()]]]]] #[je 7 #[6,aU] #[cn 10 (@mL _ (K) (by rfl)) #[16,ij] (@dq _) #[cj 3 #[()]]] (@pN _ hr.units) (by intro _;rfl)] (by rfl) (by rfl) (by rfl)]] (by intro _;rfl)] :: #[ac 3 #[ax 4 #[6,aU]]]]]]]]]],?_⟩
  obtain ⟨a,pp,tt,st,wl,wi,ts,ss,ws,is,Dd⟩:=g9 hd
  cases Dd.ev
  obtain ⟨ba,bs,bk,bz,us,ks,zs,rfl,hba,hbs,ius,hbk,iks,hbz,izs⟩:=vo hb
  have lts:=Dd.at_.length
  have lss:=Dd.as_.length
  have lws:=Dd.aw.length
  have lus:=ius.length
  have lks:=iks.length
  have lzs:=izs.length
  rw [List.length_map] at lts lss lws lus lks lzs
  rw [gb.s] at lus
  rw [gb.k] at lks
  rw [gb.z] at lzs
  have t8:=gd.t8
  have s5:=gd.s5
  have w5:=gd.w5
  have h8:=gd.l8
  refine bF fun D0 n0=>⟨(),ba,(),ad.of hba,rfl,_,(),_,(),_,(),rfl,n0 _ _ ?_⟩
  refine bF fun D1 n1=>fun D H0 m0=>n1 _ _ ?_
  have hDn:H D=none:=m0.fr
  have nD:∀a o,H a=some o→a≠D:=fun a o h e=>by rw [e,hDn] at h;cases h
  refine bF fun D2 n2=>⟨(),a,_,_,(),rfl,ad.of (m0.sm _ _ Dd.ha),rfl,pp,rfl,⟨_,ad.of (m0.sm _ _ Dd.hp)⟩,wc (xs:=d.pl.map aT) (fun i σ H'=>∃(v7:Option V),σ=[some (.ref a),some (.ref ba),some (.ref so),some (.ref bs),some (.ref bk),some (.ref bz),some (.ref D),v7,none,none,none,none,none,none,none,none,none]∧aa H H'∧cv H' D (d.pl.take i) d.hr fun _ _=>[]) ⟨(),m0.sm,fun _=>.non,m0.at',fun p hp=>by simp at hp⟩ ?_ ?_ ?_⟩
  ·rintro i σ H' _ ⟨_,_,sm,_⟩
   exact ad.of (sm _ _ Dd.hp)
  ·rintro i y σ H' ey ⟨v7,rfl,sm,dI⟩
   rw [List.getElem?_map] at ey
   cases ep:d.pl[i]? with
   | none=>rw [ep] at ey;cases ey
   | some p=>
   rw [ep] at ey
   cases ey
   refine ⟨_,rfl,.inr (.inr (.inl ⟨rfl,.inr (by obtain ⟨f,hf,_⟩:=dI;exact ⟨_,hf⟩)⟩)),_,rfl,a,_,_,_,rfl,rfl,ad.of (sm _ _ Dd.ha),rfl,_,rfl,by trivial,by trivial,fun Dl hDl=>AL (n:=d.hr) (cy p) (by trivial) hDl (fun i H' hi _=>by show i<_;trivial) (fun H' _=>by show _≤_;trivial) ?_ ?_⟩
   ·rintro h y H3 H4 Rk hh s3 ⟨rfl,rfl⟩ kk
    refine ⟨cR,?_⟩
    have e0:(0:Int)+(h:Int)=h:=by trivial
    rw [e0]
    exact ⟨(),(),(by show 2≤10000;decide),fun b5 H5 k5=>⟨(by show 2≤10000;decide),fun o6 H6 k6=>⟨(by show 2≤10000;decide),fun t7 H7 k7=>kk t7 b5 o6 H7 ((k5.sm.trans k6.sm).trans k7.sm) k7.at' (k7.sm _ _ (k6.sm _ _ k5.at')) (k7.sm _ _ k6.at')⟩⟩⟩
   intro tl J sJ hDlJ ltl prJ
   have hi:i<d.pl.length:=(List.getElem?_eq_some_iff.mp ep).1
   have et:d.pl.take (i+1)=d.pl.take i++[p]:=by rw [List.take_succ,ep];rfl
   have ndt:(d.pl.take i++[p]).Nodup:=by rw [←et];exact gd.nd.sublist (List.take_sublist ..)
   obtain ⟨kvs,ps,hDk,lp,hp,ek,el,nx⟩:=(dI.sm sJ).more ndt prJ ltl
   have kl:=su d.hr h8 (d.pl.take i++[p])
   have pl5:=gd.p5
   rw [List.length_append,List.length_take,List.length_singleton] at kl
   refine ⟨D,Dl,kvs,ps,tl,rfl,rfl,hDk,hDlJ,lp,hp,by rw [ek];exact zt _ ndt,by rw [el];trivial,fun H9 c9=>⟨(),fun x o h=>c9.ol x o (nD x o h) ((sm.trans sJ) _ _ h),?_⟩⟩
   rw [et]
   exact nx _ c9
  rintro σ J1 ⟨v7,rfl,sm,dI⟩
  rw [show (d.pl.map aT).length=d.pl.length from List.length_map ..,List.take_length] at dI
  refine n2 _ _ ?_
  refine bF fun D3 n3=>⟨(),a,_,_,(),rfl,ad.of (sm _ _ Dd.ha),rfl,(),tt,bs,false,true,rfl,⟨_,ad.of (sm _ _ Dd.ht)⟩,⟨_,ah.of (sm _ _ hbs)⟩,mF (xs:=ts) (ys:=us) (n:=d.ts.length) (fun i σ H'=>Kf fun (v7 v8 v9 v10 v11 v12:Option V)=>σ=[some (.ref a),some (.ref ba),some (.ref so),some (.ref bs),some (.ref bk),some (.ref bz),some (.ref D),v7,v8,v9,v10,v11,v12,none,none,none,none]∧aa H H'∧cv H' D d.pl d.hr fun p h=>fm i (tG d b p h)) (by trivial) ⟨_,_,_,_,_,(),sm,dI⟩ ?_ ?_ ?_⟩
  ·rintro i σ H' _ ⟨_,_,_,_,_,_,_,sm,_⟩
   exact ⟨ad.of (sm _ _ Dd.ht),ah.of (sm _ _ hbs)⟩
  ·rintro i y u Tp σ H' e1 e2 hT ⟨v7,v8,v9,v10,v11,v12,rfl,sm,dI⟩
   have st':=aa.new (o:=.tup [y,u]) hT
   obtain ⟨x,ex,mx,dx⟩:=dl Dd.at_ e1
   have gx:=gd.ts x mx
   obtain ⟨r,er,lr,fr_⟩:=gb.row ex
   obtain ⟨ta,om,og,op_,oo,rfl,hta,_,hog,_,_⟩:=lF dx
   obtain ⟨ru,rfl,rs,hrs,iJ⟩:=qa (lQ ius e2 er) fun q hq=>(fr_ q hq).mono (by decide)
   have lrs:=iJ.length
   have hi:i<ts.length:=(List.getElem?_eq_some_iff.mp e1).1
   have e:∀p h,tG d b p h i=fm r.length (sV x r d.hr p h):=fun p h=>by unfold tG;rw [ex,er]
   refine ⟨Tp,(),ad.of aE,rfl,_,(),_,(),rfl,?_⟩
   refine lf (t:=DO _ _ _) fun DB nB=>?_
   refine ⟨(),ru,true,rfl,⟨_,ah.of ((sm.trans st') _ _ hrs)⟩,wX (xs:=rs) (fun j σ G=>fP fun (v8 v11 v12:Option V)=>σ=[some (.ref a),some (.ref ba),some (.ref so),some (.ref bs),some (.ref bk),some (.ref bz),some (.ref D),v7,v8,some (.ref ta),some (.ref ru),v11,v12,none,none,none,none]∧aa H G∧cv G D d.pl d.hr fun p h=>fm i (tG d b p h)++fm j (sV x r d.hr p h)) ⟨_,_,(),sm.trans st',(dI.sm st').congr fun p h=>(List.append_nil _).symm⟩ ?_ ?_ ?_⟩
   ·rintro j σ G _ ⟨_,_,_,_,sg,_⟩
    exact ah.of (sg _ _ hrs)
   ·rintro j v Tq σ G ev hTq ⟨v8,v11,v12,rfl,sg,dI⟩
    have s1:=aa.new (o:=.tup [.int (j:Int),v]) hTq
    obtain ⟨oj,q,rfl,eq,hoj,fq⟩:=iJ.get ev
    have hj:j<d.hr:=by have:=(List.getElem?_eq_some_iff.mp ev).1;trivial
    have fq:Fr 60 q:=fr_ q (List.mem_of_getElem? eq)
    have eq':cz r j=q:=by unfold cz;rw [eq];rfl
    obtain ⟨f,hD,hf⟩:=dI.sm s1
    obtain ⟨o,eo,ho⟩:=hf _ gx.b j hj
    have hk:=kI gx.b hj
    have sg1:=sg.trans s1
    have fw:=((jW (n:=i) (m:=16) (fun i=>tj gd gb x.bg j i) (by trivial)).app (vG gx fr_ d.hr x.bg j j) (Nat.le_refl 18)).f35 (by decide)
    refine ⟨Tq,(),ad.of aE,rfl,_,(),_,(),rfl,?_⟩
    refine bF fun D5 n5=>⟨(),(),ta,_,_,(),rfl,ad.of (sg1 _ _ hta),rfl,(),(by show 2≤10000;decide),fun b1 H1 m1=>⟨D,b1,_,f,cy x.bg j,rfl,rfl,m1.sm _ _ hD,m1.at',hk,(),(),o,oj,_,_,3500,60,false,by rw [eo];rfl,m1.sm _ _ ho,m1.sm _ _ (sg1 _ _ hoj),fw,fq,by decide,fun o2 H2 m2=>⟨(),(),ta,_,_,(),rfl,ad.of ((m1.sm.trans m2.sm) _ _ (sg1 _ _ hta)),rfl,(),(by show 2≤10000;decide),fun b3 H3 m3=>⟨D,b3,_,f,cy x.bg j,rfl,rfl,((m1.sm.trans m2.sm).trans m3.sm) _ _ hD,m3.at',hk,fun H4 c4=>n5 _ _ ?_⟩⟩⟩⟩
    have s13:=(m1.sm.trans m2.sm).trans m3.sm
    have dI4:=cv.step hD hf s13 (m3.sm _ _ m2.at') c4
    have sg4:aa H H4:=fun x o h=>c4.ol x o (nD x o h) ((sg1.trans s13) _ _ h)
    have hoj4:=sg4 _ _ hoj
    have hta4:=sg4 _ _ hta
    have ha4:=sg4 _ _ Dd.ha
    have en:¬(¬q.1=0∧j+x.la<d.hr)→∀p h,gP (fun p h=>fm i (tG d b p h)++fm j (sV x r d.hr p h)) x.bg j (jC q) p h=fm i (tG d b p h)++fm (j+1) (sV x r d.hr p h):=fun c p h=>by
     unfold gP
     rw [bw,List.append_assoc]
     unfold sV
     rw [eq',if_neg (show ¬((¬q.1=0∧j+x.la<d.hr)∧x.en=p∧j+x.la=h) from fun z=>c z.1),List.append_nil]
    have ey:¬q.1=0∧j+x.la<d.hr→∀p h,gP (gP (fun p h=>fm i (tG d b p h)++fm j (sV x r d.hr p h)) x.bg j (jC q)) x.en (j+x.la) (KM.lTim q x.ga) p h=fm i (tG d b p h)++fm (j+1) (sV x r d.hr p h):=fun c p h=>by
     unfold gP
     rw [bw,List.append_assoc,List.append_assoc]
     unfold sV
     rw [eq']
     congr 3
     by_cases z:x.en=p∧j+x.la=h
     ·rw [if_pos z,if_pos ⟨c,z⟩]
     ·rw [if_neg z,if_neg fun y=>z y.2]
    refine ⟨(),oj,_,_,(),rfl,ad.of hoj4,rfl,rfl,(),cG (fun c=>?_) fun c=>aO ⟨_,_,(),sg4,dI4.congr (en fun z=>?_)⟩⟩
    ·refine ⟨(),(),ta,_,_,(),rfl,ad.of hta4,rfl,_,(),rfl,(),a,_,_,(),rfl,ad.of ha4,rfl,_,(),rfl,(),cG (fun c'=>?_) fun c'=>⟨_,_,(),sg4,dI4.congr (en fun z=>?_)⟩⟩
     ·have c1:¬q.1=0:=fun z=>by rw [z] at c;exact absurd c (by decide)
      have c2:j+x.la<d.hr:=by have:=of_decide_eq_true c';trivial
      have hk2:=kI gx.e c2
      obtain ⟨f4,hD4,hf4⟩:=dI4
      obtain ⟨o4,eo4,ho4⟩:=hf4 _ gx.e _ c2
      have fw4:Fr 3500 (KM.sumF (gP (fun p h=>fm i (tG d b p h)++fm j (sV x r d.hr p h)) x.bg j (jC q) x.en (j+x.la))):=(((jW (n:=i) (m:=16) (fun i=>tj gd gb x.en (j+x.la) i) (by trivial)).app (vG gx fr_ d.hr x.en (j+x.la) j) (Nat.le_refl 18)).app (vq (fq.neg.mono (by decide))) (Nat.le_refl 19)).f35 (by decide)
      refine bF fun D6 n6=>⟨(),ta,_,_,(),rfl,ad.of hta4,rfl,(),(),ta,_,_,(),rfl,ad.of hta4,rfl,_,(),rfl,(by show 2≤10000;decide),fun b5 H5 m5=>n6 _ _ ?_⟩
      have hb5:H5 b5=some (.tup ((cy x.en (j+x.la)).map kV)):=m5.at'
      refine ⟨(),(),D,b5,_,f4,cy x.en (j+x.la),rfl,rfl,m5.sm _ _ hD4,hb5,hk2,(),(),ta,_,_,(),rfl,ad.of (m5.sm _ _ hta4),rfl,oj,og,q,x.ga,60,60,24,24,rfl,m5.sm _ _ hoj4,m5.sm _ _ (sg4 _ _ hog),fq.gb,gx.g.gb,by decide,by decide,by decide,by decide,(fun z=>nomatch z),fun o6 H6 m6=>⟨o4,o6,_,_,3500,84,true,by rw [eo4];rfl,(m5.sm.trans m6.sm) _ _ ho4,m6.at',fw4,Fr.tim fq gx.g (by decide),by decide,fun o7 H7 m7=>⟨(),(),D,b5,_,f4,cy x.en (j+x.la),rfl,rfl,((m5.sm.trans m6.sm).trans m7.sm) _ _ hD4,(m6.sm.trans m7.sm) _ _ hb5,hk2,fun H8 c8=>⟨_,_,(),?_,(cv.step hD4 hf4 ((m5.sm.trans m6.sm).trans m7.sm) m7.at' c8).congr (ey ⟨c1,c2⟩)⟩⟩⟩⟩
      exact fun x o h=>c8.ol x o (nD x o h) (((m5.sm.trans m6.sm).trans m7.sm) _ _ (sg4 _ _ h))
     ·exact c' (decide_eq_true (by have:=z.2;trivial))
    ·refine z.1 ?_
     have c0:(!decide (V.int q.1=V.int 0))=false:=by simpa using c
     have c0:=of_decide_eq_true (by simpa using c0:decide (V.int q.1=V.int 0)=true)
     injection c0
   ·rintro σ G ⟨v8,v11,v12,rfl,sg,dI⟩
    refine nB _ _ ⟨_,_,_,_,_,(),sg,dI.congr fun p h=>?_⟩
    rw [bw,e,show rs.length=r.length from lrs]
  rintro σ J2 ⟨v7,v8,v9,v10,v11,v12,rfl,sm,dI⟩
  refine n3 _ _ ?_
  refine bF fun D4 n4=>⟨(),a,_,_,(),rfl,ad.of (sm _ _ Dd.ha),rfl,(),st,bk,false,true,rfl,⟨_,ad.of (sm _ _ Dd.hs)⟩,⟨_,ah.of (sm _ _ hbk)⟩,mF (xs:=ss) (ys:=ks) (n:=d.ss.length) (fun i σ H'=>Aq fun (v8 v11 v12 v13 v14:Option V)=>σ=[some (.ref a),some (.ref ba),some (.ref so),some (.ref bs),some (.ref bk),some (.ref bz),some (.ref D),v7,v8,v9,v10,v11,v12,v13,v14,none,none]∧aa H H'∧cv H' D d.pl d.hr fun p h=>fm d.ts.length (tG d b p h)++fm i (sG d b p h)) (by trivial) ⟨_,_,_,_,(),sm,dI.congr fun p h=>(List.append_nil _).symm⟩ ?_ ?_ ?_⟩
  ·rintro i σ H' _ ⟨_,_,_,_,_,_,sm,_⟩
   exact ⟨ad.of (sm _ _ Dd.hs),ah.of (sm _ _ hbk)⟩
  ·rintro i y u Tp σ H' e1 e2 hT ⟨v8,v11,v12,v13,v14,rfl,sm,dI⟩
   have st':=aa.new (o:=.tup [y,u]) hT
   obtain ⟨x,ex,mx,dx⟩:=dl Dd.as_ e1
   have gx:=gd.ss x mx
   obtain ⟨r,er,lr,fr_⟩:=gb.rowK ex
   obtain ⟨ta,om,ok,rfl,hta,_,hok⟩:=pU dx
   obtain ⟨ru,rfl,rs,hrs,iJ⟩:=qa (lQ iks e2 er) fun q hq=>(fr_ q hq).mono (by decide)
   have lrs:=iJ.length
   have hi:i<ss.length:=(List.getElem?_eq_some_iff.mp e1).1
   have e:∀p h,sG d b p h i=fm r.length (xi x r d.hr p h):=fun p h=>by unfold sG;rw [ex,er]
   refine ⟨Tp,(),ad.of aE,rfl,_,(),_,(),rfl,?_⟩
   refine lf (t:=DO _ _ _) fun DB nB=>?_
   refine ⟨(),ru,true,rfl,⟨_,ah.of ((sm.trans st') _ _ hrs)⟩,wX (xs:=rs) (fun j σ G=>fP fun (v8 v11 v12:Option V)=>σ=[some (.ref a),some (.ref ba),some (.ref so),some (.ref bs),some (.ref bk),some (.ref bz),some (.ref D),v7,v8,v9,v10,v11,v12,some (.ref ta),some (.ref ru),none,none]∧aa H G∧cv G D d.pl d.hr fun p h=>fm d.ts.length (tG d b p h)++fm i (sG d b p h)++fm j (xi x r d.hr p h)) ⟨_,_,(),sm.trans st',(dI.sm st').congr fun p h=>(List.append_nil _).symm⟩ ?_ ?_ ?_⟩
   ·rintro j σ G _ ⟨_,_,_,_,sg,_⟩
    exact ah.of (sg _ _ hrs)
   ·rintro j v Tq σ G ev hTq ⟨v8,v11,v12,rfl,sg,dI⟩
    have s1:=aa.new (o:=.tup [.int (j:Int),v]) hTq
    obtain ⟨oj,q,rfl,eq,hoj,fq⟩:=iJ.get ev
    have hj:j<d.hr:=by have:=(List.getElem?_eq_some_iff.mp ev).1;trivial
    have fq:Fr 60 q:=fr_ q (List.mem_of_getElem? eq)
    have eq':cz r j=q:=by unfold cz;rw [eq];rfl
    obtain ⟨f,hD,hf⟩:=dI.sm s1
    obtain ⟨o,eo,ho⟩:=hf _ gx.b j hj
    have hk:=kI gx.b hj
    have sg1:=sg.trans s1
    have fw0:∀h,gG 28 (fm d.ts.length (tG d b x.pl h)++fm i (sG d b x.pl h)++fm j (xi x r d.hr x.pl h)):=fun h=>((jW (n:=d.ts.length) (m:=16) (fun i=>tj gd gb x.pl h i) (by trivial)).app (jW (n:=i) (m:=10) (fun i=>yF gd gb x.pl h i) (by trivial)) (Nat.le_refl 26)).app (Ap gx fr_ d.hr x.pl h j) (Nat.le_refl 28)
    have fw:=(fw0 j).f35 (by decide)
    refine ⟨Tq,(),ad.of aE,rfl,_,(),_,(),rfl,?_⟩
    refine bF fun D5 n5=>⟨(),(),ta,_,_,(),rfl,ad.of (sg1 _ _ hta),rfl,(),(by show 2≤10000;decide),fun b1 H1 m1=>⟨D,b1,_,f,cy x.pl j,rfl,rfl,m1.sm _ _ hD,m1.at',hk,(),(),o,oj,_,_,3500,60,false,by rw [eo];rfl,m1.sm _ _ ho,m1.sm _ _ (sg1 _ _ hoj),fw,fq,by decide,fun o2 H2 m2=>⟨(),(),ta,_,_,(),rfl,ad.of ((m1.sm.trans m2.sm) _ _ (sg1 _ _ hta)),rfl,(),(by show 2≤10000;decide),fun b3 H3 m3=>⟨D,b3,_,f,cy x.pl j,rfl,rfl,((m1.sm.trans m2.sm).trans m3.sm) _ _ hD,m3.at',hk,fun H4 c4=>n5 _ _ ?_⟩⟩⟩⟩
    have s13:=(m1.sm.trans m2.sm).trans m3.sm
    have dI4:=cv.step hD hf s13 (m3.sm _ _ m2.at') c4
    have sg4:aa H H4:=fun x o h=>c4.ol x o (nD x o h) ((sg1.trans s13) _ _ h)
    have hoj4:=sg4 _ _ hoj
    have hta4:=sg4 _ _ hta
    have ha4:=sg4 _ _ Dd.ha
    refine ⟨(),_,(),rfl,(),a,_,_,(),rfl,ad.of ha4,rfl,_,(),rfl,(),cG (fun c=>?_) fun c=>⟨_,_,(),sg4,dI4.congr fun p h=>?_⟩⟩
    ·have c2:j+1<d.hr:=by have:=of_decide_eq_true c;trivial
     have hk2:=kI gx.b c2
     obtain ⟨f4,hD4,hf4⟩:=dI4
     obtain ⟨o4,eo4,ho4⟩:=hf4 _ gx.b _ c2
     have fw4:Fr 3500 (KM.sumF (gP (fun p h=>fm d.ts.length (tG d b p h)++fm i (sG d b p h)++fm j (xi x r d.hr p h)) x.pl j (jC q) x.pl (j+1))):=((fw0 (j+1)).app (vq (fq.neg.mono (by decide))) (Nat.le_refl 29)).f35 (by decide)
     refine bF fun D6 n6=>⟨(),ta,_,_,(),rfl,ad.of hta4,rfl,(),_,(),rfl,(by show 2≤10000;decide),fun b5 H5 m5=>n6 _ _ ?_⟩
     have hb5:H5 b5=some (.tup ((cy x.pl (j+1)).map kV)):=m5.at'
     refine ⟨(),(),D,b5,_,f4,cy x.pl (j+1),rfl,rfl,m5.sm _ _ hD4,hb5,hk2,(),(),ta,_,_,(),rfl,ad.of (m5.sm _ _ hta4),rfl,oj,ok,q,x.ke,60,60,24,24,rfl,m5.sm _ _ hoj4,m5.sm _ _ (sg4 _ _ hok),fq.gb,gx.k.gb,by decide,by decide,by decide,by decide,(fun z=>nomatch z),fun o6 H6 m6=>⟨o4,o6,_,_,3500,84,true,by rw [eo4];rfl,(m5.sm.trans m6.sm) _ _ ho4,m6.at',fw4,Fr.tim fq gx.k (by decide),by decide,fun o7 H7 m7=>⟨(),(),D,b5,_,f4,cy x.pl (j+1),rfl,rfl,((m5.sm.trans m6.sm).trans m7.sm) _ _ hD4,(m6.sm.trans m7.sm) _ _ hb5,hk2,fun H8 c8=>⟨_,_,(),?_,(cv.step hD4 hf4 ((m5.sm.trans m6.sm).trans m7.sm) m7.at' c8).congr fun p h=>?_⟩⟩⟩⟩
     ·exact fun x o h=>c8.ol x o (nD x o h) (((m5.sm.trans m6.sm).trans m7.sm) _ _ (sg4 _ _ h))
     ·unfold gP
      rw [bw,List.append_assoc,List.append_assoc]
      unfold xi
      rw [eq']
      congr 3
      by_cases z:x.pl=p∧j+1=h
      ·rw [if_pos z,if_pos (show j+1<d.hr∧x.pl=p∧j+1=h from ⟨c2,z⟩)]
       rfl
      ·rw [if_neg z,if_neg fun y=>z y.2]
    ·unfold gP
     rw [bw,List.append_assoc]
     unfold xi
     rw [eq',if_neg (show ¬(j+1<d.hr∧x.pl=p∧j+1=h) from fun z=>c (decide_eq_true (by have:=z.1;trivial))),List.append_nil]
     rfl
   ·rintro σ G ⟨v8,v11,v12,rfl,sg,dI⟩
    refine nB _ _ ⟨_,_,_,_,(),sg,dI.congr fun p h=>?_⟩
    rw [bw,e,show rs.length=r.length from lrs,List.append_assoc]
  rintro σ J3 ⟨v8,v11,v12,v13,v14,rfl,sm,dI⟩
  refine n4 _ _ ?_
  have ft:∀p h,gG 26 (fm d.ts.length (tG d b p h)++fm d.ss.length (sG d b p h)):=fun p h=>(jW (n:=d.ts.length) (m:=16) (fun i=>tj gd gb p h i) (by trivial)).app (jW (n:=d.ss.length) (m:=10) (fun i=>yF gd gb p h i) (by trivial)) (Nat.le_refl 26)
  refine bF fun D7 n7=>⟨(),a,_,_,(),rfl,ad.of (sm _ _ Dd.ha),rfl,(),wl,bz,false,true,rfl,⟨_,ad.of (sm _ _ Dd.hw)⟩,⟨_,ah.of (sm _ _ hbz)⟩,mF (xs:=ws) (ys:=zs) (n:=d.ws.length) (fun i σ H'=>bP fun (v11 v15:Option V)=>σ=[some (.ref a),some (.ref ba),some (.ref so),some (.ref bs),some (.ref bk),some (.ref bz),some (.ref D),v7,v8,v9,v10,v11,v12,v13,v14,v15,none]∧aa H H'∧cv H' D d.pl d.hr fun p h=>fm d.ts.length (tG d b p h)++fm d.ss.length (sG d b p h)++fm i (cW d b p h)) (by trivial) ⟨_,(),sm,dI.congr fun p h=>(List.append_nil _).symm⟩ ?_ ?_ ?_⟩
  ·rintro i σ H' _ ⟨_,_,_,sm,_⟩
   exact ⟨ad.of (sm _ _ Dd.hw),ah.of (sm _ _ hbz)⟩
  ·rintro i y u Tp σ H' e1 e2 hT ⟨v11,v15,rfl,sm,dI⟩
   have st':=aa.new (o:=.tup [y,u]) hT
   have sx:=sm.trans st'
   obtain ⟨x,ex,mx,dx⟩:=dl Dd.aw e1
   have gx:=gd.ws x mx
   obtain ⟨wa,om,op_,rfl,hwa,_,_⟩:=sT dx
   have hz:i<b.dr.length:=by rw [gb.z];exact (List.getElem?_eq_some_iff.mp ex).1
   have hi:i<d.ws.length:=(List.getElem?_eq_some_iff.mp ex).1
   have eq:=List.getElem?_eq_getElem hz
   have aq:Fr 60 b.dr[i]:=(gb.zr i x _ ex eq).1
   obtain ⟨oj,rfl,hoj⟩:=iU (p:=b.dr[i]) (izs.nth i e2 (by rw [List.getElem?_map,eq];rfl))
   have e:∀p h,cW d b p h i=if x.pl=p∧x.ho=h then [b.dr[i]] else []:=fun p h=>by unfold cW;rw [ex,eq]
   obtain ⟨f,hD,hf⟩:=dI.sm st'
   obtain ⟨o,eo,ho⟩:=hf _ gx.b _ gx.h
   have hk:=kI gx.b gx.h
   have fw:=((ft x.pl x.ho).app (jW (n:=i) (m:=5) (fun i=>vd gb x.pl x.ho i) (by trivial)) (Nat.le_refl 31)).f35 (by decide)
   refine ⟨Tp,(),ad.of aE,rfl,_,(),_,(),rfl,?_⟩
   refine ⟨(),(),(),wa,(),ad.of (sx _ _ hwa),sx _ _ hwa,fun b1 H1 m1 hb1=>⟨D,b1,_,f,cy x.pl x.ho,rfl,rfl,m1 _ _ hD,hb1,hk,(),o,oj,_,_,3500,60,true,by rw [eo];rfl,m1 _ _ ho,m1 _ _ (sx _ _ hoj),fw,aq,by decide,fun o2 H2 m2=>⟨(),(),(),wa,(),ad.of ((m1.trans m2.sm) _ _ (sx _ _ hwa)),(m1.trans m2.sm) _ _ (sx _ _ hwa),fun b3 H3 m3 hb3=>⟨D,b3,_,f,cy x.pl x.ho,rfl,rfl,((m1.trans m2.sm).trans m3) _ _ hD,hb3,hk,fun H4 c4=>⟨_,(),?_,(cv.step hD hf ((m1.trans m2.sm).trans m3) (m3 _ _ m2.at') c4).congr fun p h=>?_⟩⟩⟩⟩⟩
   ·exact fun x o h=>c4.ol x o (nD x o h) (((m1.trans m2.sm).trans m3) _ _ (sx _ _ h))
   ·unfold gP
    rw [bw,e,List.append_assoc]
    rfl
  rintro σ J4 ⟨v11,v15,rfl,sm,dI⟩
  refine n7 _ _ ?_
  have lis:=Dd.ai.length
  rw [List.length_map] at lis
  have i7:=gd.i7
  refine bF fun D8 n8=>⟨(),a,_,_,(),rfl,ad.of (sm _ _ Dd.ha),rfl,wi,rfl,⟨_,ad.of (sm _ _ Dd.hi)⟩,wc (xs:=is) (fun i σ H'=>∃(v16:Option V),σ=[some (.ref a),some (.ref ba),some (.ref so),some (.ref bs),some (.ref bk),some (.ref bz),some (.ref D),v7,v8,v9,v10,v11,v12,v13,v14,v15,v16]∧aa H H'∧cv H' D d.pl d.hr fun p h=>fm d.ts.length (tG d b p h)++fm d.ss.length (sG d b p h)++fm d.ws.length (cW d b p h)++fm i (iG d sh p h)) ⟨(),sm,dI.congr fun p h=>(List.append_nil _).symm⟩ ?_ ?_ ?_⟩
  ·rintro i σ H' _ ⟨_,_,sm,_⟩
   exact ad.of (sm _ _ Dd.hi)
  ·rintro i y σ H' e1 ⟨v16,rfl,sm,dI⟩
   obtain ⟨x,ex,mx,dx⟩:=dl Dd.ai e1
   have gx:=gd.wi x mx
   obtain ⟨wa,om,rfl,hwa,hom⟩:=C1 dx
   have hi:i<d.wi.length:=(List.getElem?_eq_some_iff.mp ex).1
   have e:∀p h,iG d sh p h i=if x.pl=p∧x.ho=h then [jC (KM.lTim sh x.am)] else []:=fun p h=>by unfold iG;rw [ex]
   obtain ⟨f,hD,hf⟩:=dI
   obtain ⟨o,eo,ho⟩:=hf _ gx.b _ gx.h
   have hk:=kI gx.b gx.h
   have fw:=(((ft x.pl x.ho).app (jW (n:=d.ws.length) (m:=5) (fun i=>vd gb x.pl x.ho i) (by trivial)) (Nat.le_refl 31)).app (jW (n:=i) (m:=7) (fun i=>CH gd fs x.pl x.ho i) (by trivial)) (Nat.le_refl 38)).f35 (by decide)
   have f34:Fr 34 (KM.lTim sh x.am):=Fr.tim fs gx.a (by decide)
   refine ⟨(),(),(),wa,(),ad.of (sm _ _ hwa),sm _ _ hwa,fun b1 H1 m1 hb1=>⟨D,b1,_,f,cy x.pl x.ho,rfl,rfl,m1 _ _ hD,hb1,hk,(),(),wa,_,_,(),rfl,ad.of (m1 _ _ (sm _ _ hwa)),rfl,so,om,sh,x.am,10,10,24,24,rfl,m1 _ _ (sm _ _ hso),m1 _ _ (sm _ _ hom),fs.gb,gx.a.gb,by decide,by decide,by decide,by decide,(fun z=>nomatch z),fun o6 H6 m6=>⟨(),o,o6,_,_,3500,34,false,by rw [eo];rfl,(m1.trans m6.sm) _ _ ho,m6.at',fw,f34,by decide,fun o2 H2 m2=>⟨(),(),(),wa,(),ad.of (((m1.trans m6.sm).trans m2.sm) _ _ (sm _ _ hwa)),((m1.trans m6.sm).trans m2.sm) _ _ (sm _ _ hwa),fun b3 H3 m3 hb3=>⟨D,b3,_,f,cy x.pl x.ho,rfl,rfl,(((m1.trans m6.sm).trans m2.sm).trans m3) _ _ hD,hb3,hk,fun H4 c4=>⟨(),?_,(cv.step hD hf (((m1.trans m6.sm).trans m2.sm).trans m3) (m3 _ _ m2.at') c4).congr fun p h=>?_⟩⟩⟩⟩⟩⟩
   ·exact fun x o h=>c4.ol x o (nD x o h) ((((m1.trans m6.sm).trans m2.sm).trans m3) _ _ (sm _ _ h))
   ·unfold gP
    rw [bw,e,List.append_assoc]
    rfl
  rintro σ J5 ⟨v16,rfl,sm,dI⟩
  refine n8 _ _ ⟨(),k D J5 sm hDn ?_⟩
  rw [show is.length=d.wi.length from lis] at dI
  exact dI
end
end K54
namespace K54
open PySem L2
set_option maxHeartbeats 16000000
def wS (ps:List KM.Fra):Rat:=KM.rsum (ps.map KM.vl)
theorem eZ (ps qs:List KM.Fra):wS (ps++qs)=wS ps+wS qs:=by
 unfold wS
 rw [List.map_append,KM.rsum_app]
theorem Gz (p:KM.Fra):wS [p]=KM.vl p:=by
 show KM.vl p+0=_
 grind
theorem tK {c:Prop} [Decidable c] (p:KM.Fra):wS (if c then [p] else [])=if c then KM.vl p else 0:=by
 by_cases h:c
 ·rw [if_pos h,if_pos h,Gz]
 ·rw [if_neg h,if_neg h];rfl
theorem CT {p:KM.Fra} (h:KM.Rd p):KM.vl (jC p)=- KM.vl p:=by
 show Rat.divInt (-p.1) p.2=- Rat.divInt p.1 p.2
 rw [Rat.neg_divInt]
theorem Fj {p:KM.Fra} (h:p.1=0):KM.vl p=0:=by
 show Rat.divInt p.1 p.2=0
 rw [h,Rat.zero_divInt]
theorem Ae (f g:Nat→List KM.Fra):∀n,wS (fm n fun t=>f t++g t)=wS (fm n f)+wS (fm n g)
 | 0=>by show (0:Rat)=0+0;grind
 | n+1=>by
  rw [bw,bw,bw,eZ,eZ,eZ,eZ,Ae f g n]
  grind
theorem wF {k h:Nat}{g:Nat→List KM.Fra} (hg:∀t,t+k≠h→g t=[]):∀n,wS (fm n g)=if k≤h∧h - k<n then wS (g (h - k)) else 0
 | 0=>by rw [if_neg (by trivial)];rfl
 | n+1=>by
  rw [bw,eZ,wF hg n]
  by_cases e:n+k=h
  ·rw [if_neg (by trivial),if_pos (by trivial),show h - k=n by trivial]
   grind
  ·rw [hg n e]
   show _+(0:Rat)=_
   by_cases c:k≤h∧h - k<n
   ·rw [if_pos c,if_pos (by trivial)];grind
   ·rw [if_neg c,if_neg (by trivial)];grind
theorem wg:∀(n:Nat) {f g k:Nat→List KM.Fra},(∀i,i<n→wS (f i)=wS (g i) - wS (k i))→wS (fm n f)=wS (fm n g) - wS (fm n k)
 | 0,_,_,_,_=>by show (0:Rat)=0 - 0;grind
 | n+1,f,g,k,h=>by
  rw [bw,bw,bw,eZ,eZ,eZ,wg n fun i hi=>h i (by trivial),h n (by trivial)]
  grind
theorem AC (c:Rat):∀(n:Nat) {f g:Nat→List KM.Fra},(∀i,i<n→wS (f i)=c*wS (g i))→wS (fm n f)=c*wS (fm n g)
 | 0,_,_,_=>by show (0:Rat)=c*0;grind
 | n+1,f,g,h=>by
  rw [bw,bw,eZ,eZ,AC c n fun i hi=>h i (by trivial),h n (by trivial)]
  grind
theorem EZ {r:List KM.Fra} (rr:∀t,KM.Rd (cz r t)) {g:KM.Fra} (rg:KM.Rd g) {A B:Prop} [Decidable A] [Decidable B] {hr h la:Nat} (hh:h<hr) (lr:r.length=hr) (z:Nat→Prop) [∀t,Decidable (z t)] (hz:∀t,¬z t→(cz r t).1=0) :
 wS (fm r.length fun t=>(if A∧t=h then [jC (cz r t)] else [])++(if (z t∧t+la<hr)∧B∧t+la=h then [KM.lTim (cz r t) g] else []))=wS (if B∧la≤h then [KM.lTim (cz r (h - la)) g] else []) - wS (if A then [cz r h] else []):=by
 rw [Ae,wF (k:=0) (h:=h) (g:=fun t=>if A∧t=h then [jC (cz r t)] else []) (fun t e=>if_neg fun z=>e (by trivial)),wF (k:=la) (h:=h) (g:=fun t=>if (z t∧t+la<hr)∧B∧t+la=h then [KM.lTim (cz r t) g] else []) (fun t e=>if_neg fun z=>e z.2.2),lr]
 rw [if_pos (show 0≤h∧h - 0<hr by trivial)]
 have e1:wS (if A∧h - 0=h then [jC (cz r (h - 0))] else [])=- wS (if A then [cz r h] else []):=by
  rw [tK,tK]
  by_cases a:A
  ·rw [if_pos ⟨a,rfl⟩,if_pos a];exact CT (rr h)
  ·rw [if_neg fun z=>a z.1,if_neg a];grind
 have e2:(if la≤h∧h - la<hr then wS (if (z (h - la)∧h - la+la<hr)∧B∧h - la+la=h then [KM.lTim (cz r (h - la)) g] else []) else 0)=wS (if B∧la≤h then [KM.lTim (cz r (h - la)) g] else []):=by
  by_cases l:la≤h
  ·rw [if_pos ⟨l,by trivial⟩,tK,tK]
   by_cases b:B
   ·rw [if_pos (show B∧la≤h from ⟨b,l⟩)]
    by_cases y:z (h - la)
    ·rw [if_pos ⟨⟨y,by trivial⟩,b,by trivial⟩]
    ·rw [if_neg fun q=>y q.1.1,KM.vl_tim (rr _).nz rg.nz,Fj (hz _ y)];grind
   ·rw [if_neg fun q=>b q.2.1,if_neg fun q=>b q.1]
  ·rw [if_neg fun q=>l q.1,if_neg fun q=>l q.2]
   rfl
 rw [e1,e2]
 grind
theorem rQ {n:Nat}{ps:List KM.Fra} (h:gG n ps):∀p∈ps,KM.Rd p:=fun p hp=>(h.1 p hp).rd
theorem vp {c:Prop} [Decidable c] {q:KM.Fra} (h:KM.Rd q):∀p∈(if c then [q] else []),KM.Rd p:=fun p hp=>by
 by_cases e:c
 ·rw [if_pos e] at hp;rw [List.mem_singleton.mp hp];exact h
 ·rw [if_neg e] at hp;cases hp
theorem pK {r:List KM.Fra} (h:∀p∈r,KM.Rd p) (t:Nat):KM.Rd (cz r t):=by
 unfold cz
 cases e:r[t]? with
 | none=>exact KM.Rd.zero
 | some p=>exact h p (List.mem_of_getElem? e)
theorem lc {n:Nat}{g:Nat→List KM.Fra} (h:∀i,∀p∈g i,KM.Rd p):∀p∈fm n g,KM.Rd p:=fun p hp=>by
 obtain ⟨i,_,hp⟩:=CJ hp
 exact h i p hp
theorem qb {xs ys:List KM.Fra} (h:∀p∈xs,KM.Rd p) (g:∀p∈ys,KM.Rd p):∀p∈xs++ys,KM.Rd p:=fun p hp=>(List.mem_append.mp hp).elim (h p) (g p)
theorem FZ {d:aP}{b:dJ}{sh:KM.Fra} (gd:jy d) (gb:GB 60 60 d b) (fs:Fr 10 sh) (p:List Nat) {h:Nat} (hh:h<d.hr):uZ d b sh p h=KM.sumF (qy d b sh p h):=by
 have rs:KM.Rd sh:=fs.rd
 have rcT:∀i,∀q∈cT d b p h i,KM.Rd q:=fun i q hq=>by
  unfold cT at hq
  cases ex:d.ts[i]? with
  | none=>rw [ex] at hq;cases hq
  | some x=>
   obtain ⟨r,er,_,f⟩:=gb.row ex
   rw [ex,er] at hq
   exact vp (KM.Rd.tim (pK (fun q hq=>(f q hq).rd) _) (gd.ts x (List.mem_of_getElem? ex)).g.rd) q hq
 have rcS:∀i,∀q∈cS d b p h i,KM.Rd q:=fun i q hq=>by
  unfold cS at hq
  cases ex:d.ss[i]? with
  | none=>rw [ex] at hq;cases hq
  | some x=>
   obtain ⟨r,er,_,f⟩:=gb.rowK ex
   rw [ex,er] at hq
   exact vp (KM.Rd.tim (pK (fun q hq=>(f q hq).rd) _) (gd.ss x (List.mem_of_getElem? ex)).k.rd) q hq
 have rgT:∀i,∀q∈gT d b p h i,KM.Rd q:=fun i q hq=>by
  unfold gT at hq
  cases ex:d.ts[i]? with
  | none=>rw [ex] at hq;cases hq
  | some x=>
   obtain ⟨r,er,_,f⟩:=gb.row ex
   rw [ex,er] at hq
   exact vp (pK (fun q hq=>(f q hq).rd) _) q hq
 have rgS:∀i,∀q∈gS d b p h i,KM.Rd q:=fun i q hq=>by
  unfold gS at hq
  cases ex:d.ss[i]? with
  | none=>rw [ex] at hq;cases hq
  | some x=>
   obtain ⟨r,er,_,f⟩:=gb.rowK ex
   rw [ex,er] at hq
   exact vp (pK (fun q hq=>(f q hq).rd) _) q hq
 have rwI:∀i,∀q∈wI d p h i,KM.Rd q:=fun i q hq=>by
  unfold wI at hq
  cases ex:d.wi[i]? with
  | none=>rw [ex] at hq;cases hq
  | some x=>
   rw [ex] at hq
   exact vp (gd.wi x (List.mem_of_getElem? ex)).a.rd q hq
 obtain ⟨c1,c2⟩:=KM.sumF_vl (ps:=uu d b p h) (qb (qb (lc fun i=>rQ (vd gb p h i)) (lc rcT)) (lc rcS))
 obtain ⟨g1,g2⟩:=KM.sumF_vl (ps:=zx d b p h) (qb (lc rgT) (lc rgS))
 obtain ⟨w1,w2⟩:=KM.sumF_vl (ps:=xr d p h) (lc rwI)
 obtain ⟨a1,a2⟩:=KM.sumF_vl (ps:=qy d b sh p h) (qb (qb (qb (lc fun i=>rQ (tj gd gb p h i)) (lc fun i=>rQ (yF gd gb p h i))) (lc fun i=>rQ (vd gb p h i))) (lc fun i=>rQ (CH gd fs p h i)))
 have cg:=c1.tak g1
 have sw:=rs.tim w1
 refine (cg.tak sw).eq a1 ?_
 show KM.vl (KM.lTak (KM.lTak (KM.sumF (uu d b p h)) (KM.sumF (zx d b p h))) (KM.lTim sh (KM.sumF (xr d p h))))=_
 rw [KM.vl_tak cg.nz sw.nz,KM.vl_tak c1.nz g1.nz,KM.vl_tim rs.nz w1.nz,c2,g2,w2,a2]
 show wS (uu d b p h) - wS (zx d b p h) - KM.vl sh*wS (xr d p h)=wS (qy d b sh p h)
 unfold uu zx xr qy
 rw [eZ,eZ,eZ,eZ,eZ,eZ]
 have eT:wS (fm d.ts.length (tG d b p h))=wS (fm d.ts.length (cT d b p h)) - wS (fm d.ts.length (gT d b p h)):=wg _ fun i hi=>by
  have ex:=List.getElem?_eq_getElem hi
  obtain ⟨r,er,lr,f⟩:=gb.row ex
  unfold tG cT gT
  rw [ex,er]
  exact EZ (pK fun q hq=>(f q hq).rd) (gd.ts _ (List.getElem_mem hi)).g.rd hh lr (fun t=>¬(cz r t).1=0) fun t=>Classical.not_not.mp
 have eS:wS (fm d.ss.length (sG d b p h))=wS (fm d.ss.length (cS d b p h)) - wS (fm d.ss.length (gS d b p h)):=wg _ fun i hi=>by
  have ex:=List.getElem?_eq_getElem hi
  obtain ⟨r,er,lr,f⟩:=gb.rowK ex
  unfold sG cS gS
  rw [ex,er]
  have q:=EZ (A:=d.ss[i].pl=p) (B:=d.ss[i].pl=p) (la:=1) (pK fun q hq=>(f q hq).rd) (gd.ss _ (List.getElem_mem hi)).k.rd hh lr (fun t=>True) fun t c=>absurd trivial c
  simp only [true_and] at q
  exact q
 have eI:wS (fm d.wi.length (iG d sh p h))=(- KM.vl sh)*wS (fm d.wi.length (wI d p h)):=AC _ _ fun i hi=>by
  have ex:=List.getElem?_eq_getElem hi
  have ra:=(gd.wi _ (List.getElem_mem hi)).a.rd
  unfold iG wI
  rw [ex]
  show wS (if _ then _ else _)=_*wS (if _ then _ else _)
  rw [tK,tK]
  by_cases c:d.wi[i].pl=p∧d.wi[i].ho=h
  ·rw [if_pos c,if_pos c,CT (rs.tim ra),KM.vl_tim rs.nz ra.nz];grind
  ·rw [if_neg c,if_neg c];grind
 rw [eT,eS,eI]
 grind
end K54
namespace K54
open PySem L2
set_option maxHeartbeats 16000000
theorem KO (n d:Int):decide (uN (n*1) (0*d)≥0)=decide (0≤n):=by
 unfold uN
 rw [Int.mul_one,Int.zero_mul]
 by_cases h:n<0
 ·rw [if_pos h,decide_eq_false (show ¬0≤n by trivial)];rfl
 ·rw [if_neg h]
  by_cases h':0<n
  ·rw [if_pos h',decide_eq_true (show 0≤n by trivial)];rfl
  ·rw [if_neg h',decide_eq_true (show 0≤n by trivial)];rfl
def qU (d:aP) (b:dJ) (sh:KM.Fra) (p:List Nat):List Bool:=(List.range d.hr).map fun h=>decide (0≤(uZ d b sh p h).1)
def iT (d:aP) (b:dJ) (sh:KM.Fra) (ls:List (List Nat)):List Bool:=ls.flatMap (qU d b sh)
theorem xh (d:aP) (b:dJ) (sh:KM.Fra):∀(ls:List (List Nat)),(iT d b sh ls).length=d.hr*ls.length
 | []=>rfl
 | l :: ls=>by
  show (qU d b sh l++iT d b sh ls).length=_
  rw [List.length_append,xh d b sh ls,List.length_cons,Nat.mul_succ]
  unfold qU
  rw [List.length_map,List.length_range]
  trivial
def EH (F:List Nat→Nat→KM.Fra) (ls:List (List Nat)) (hr:Nat):List Bool:=ls.flatMap fun p=>(List.range hr).map fun h=>decide (0≤(F p h).1)
theorem Gs {hr:Nat}{F:List Nat→Nat→KM.Fra}:∀(ls:List (List Nat)),∃B:Nat→Bool,(List.range (bM ls hr).length).map B=EH F ls hr∧∀(i:Nat) p h,(bM ls hr)[i]?=some (cy p h)→B i=decide (0≤(F p h).1):=fun ls=>by
 have hk:∀ls:List (List Nat),∃bs:List Bool,bs.length=(bM ls hr).length∧bs=EH F ls hr∧∀(i:Nat) p h,(bM ls hr)[i]?=some (cy p h)→bs[i]?=some (decide (0≤(F p h).1)):=fun ls=>by
  induction ls with
  | nil=>exact ⟨[],rfl,rfl,fun i p h e=>by simp [bM] at e⟩
  | cons l ls ih=>
   obtain ⟨bs,h1,h2,h3⟩:=ih
   have ek:bM (l :: ls) hr=d5 hr l++bM ls hr:=rfl
   have lk:(d5 hr l).length=hr:=by unfold d5;simp
   refine ⟨((List.range hr).map fun h=>decide (0≤(F l h).1))++bs,by rw [ek];simp [h1,lk],by rw [h2];rfl,fun i p h e=>?_⟩
   rw [ek] at e
   by_cases hi:i<hr
   ·rw [List.getElem?_append_left (by trivial)] at e
    rw [List.getElem?_append_left (by simpa using hi)]
    unfold d5 at e
    rw [List.getElem?_map,List.getElem?_range hi] at e
    rw [List.getElem?_map,List.getElem?_range hi]
    obtain ⟨rfl,rfl⟩:=mN (Option.some.inj e)
    rfl
   ·rw [List.getElem?_append_right (by trivial),lk] at e
    rw [List.getElem?_append_right (by simpa using hi)]
    simp only [List.length_map,List.length_range]
    exact h3 _ p h e
 obtain ⟨bs,h1,h2,h3⟩:=hk ls
 refine ⟨fun i=>(bs[i]?).getD false,?_,fun i p h e=>by show (bs[i]?).getD false=_;rw [h3 i p h e];rfl⟩
 rw [←h1,←h2]
 refine List.ext_getElem? fun i=>?_
 by_cases hi:i<bs.length
 ·rw [List.getElem?_map,List.getElem?_range hi,List.getElem?_eq_getElem hi]
  show some ((bs[i]?).getD false)=_
  rw [List.getElem?_eq_getElem hi]
  rfl
 ·rw [List.getElem?_eq_none (by simpa using hi),List.getElem?_eq_none (by trivial)]
theorem Ea {a b:dJ} (h:ki a=ki b):a=b:=by
 have fi:∀{p q:KM.Fra},bJ p=bJ q→p=q:=fun {p q} e=>by
  injection e with e
  injection e with e1 e
  injection e with e2 _
  injection e1 with e1
  injection e2 with e2
  exact Prod.ext e1 e2
 have li:∀{ps qs:List KM.Fra},ps.map bJ=qs.map bJ→ps=qs:=fun {ps}=>by
  induction ps with
  | nil=>intro qs e;cases qs with
   | nil=>rfl
   | cons _ _=>cases e
  | cons p ps ih=>intro qs e;cases qs with
   | nil=>cases e
   | cons q qs=>
    rw [List.map_cons,List.map_cons] at e
    injection e with e1 e2
    rw [fi e1,ih e2]
 have ri:∀{ps qs:List (List KM.Fra)},ps.map aX=qs.map aX→ps=qs:=fun {ps}=>by
  induction ps with
  | nil=>intro qs e;cases qs with
   | nil=>rfl
   | cons _ _=>cases e
  | cons p ps ih=>intro qs e;cases qs with
   | nil=>cases e
   | cons q qs=>
    rw [List.map_cons,List.map_cons] at e
    injection e with e1 e2
    injection e1 with e1
    rw [li e1,ih e2]
 obtain ⟨a1,a2,a3⟩:=a
 obtain ⟨b1,b2,b3⟩:=b
 injection h with h
 injection h with h1 h
 injection h with h2 h
 injection h with h3 _
 injection h1 with h1
 injection h2 with h2
 injection h3 with h3
 have e1:a1=b1:=ri h1
 have e2:a2=b2:=ri h2
 have e3:a3=b3:=li h3
 rw [e1,e2,e3]
inductive tI (d:aP) (sh:KM.Fra):PyData→Bool→Prop
 | no {x:PyData} (h:dM d x=false):tI d sh x false
 | yes {b:dJ} (h:dM d (ki b)=true) (g:GB 60 60 d b):tI d sh (ki b) ((iT d b sh d.pl).all id)
theorem tI.fn {d:aP}{sh:KM.Fra}{x:PyData}{r:Bool} (h:tI d sh x r):∀{y:PyData}{s:Bool},tI d sh y s→x=y→r=s:=by
 intro y s k e
 cases h with
 | no h=>
  cases k with
  | no _=>rfl
  | yes k _=>rw [e,k] at h;cases h
 | yes h _=>
  cases k with
  | no k=>rw [e,k] at h;cases h
  | yes _ _=>rw [Ea e]
section
variable {P:Program}{w:World}{K:PySem.W.Frag}{mg:Str→Option Value}{base:Heap}
inductive Em (vs:List V) (H:Hp) (Q:VK):Prop
 | mk (dv bv:V) (so:Addr) (d:aP) (x:PyData) (E:Addr→Prop) (sh:KM.Fra) (wn wk:Nat) (h0:vs=[dv,bv,.ref so]) (h1:aK ED H dv (pb d)) (h2:aK E H bv x) (h3:Wv 60 x wn wk) (h4:wn≤3000) (h5:wk≤40) (h6:jy d) (h7:H so=some (fr sh)) (h8:Fr 10 sh) (h9:∀r H',aa H H'→tI d sh x r→Q (.bl r) H')
def Av:Sp:=fun vs H Q _=>Em  vs H Q
theorem A4 (T:Txt K mg):aV P w K mg base CX0 8 T.adds_up_.f T.adds_up_.d ["day", "book", "share"] Av:=by
 have G_is_fraction:=#[(pH)]
 have G_is_book:=#[(qM)]
 have G_compared:=#[(ul)]
 have G_hour_sum:=#[(yq)]
 refine T.adds_up_.F.ok Br (fun vs H Q E h=>?_) (fun cdv A outer s H vs Q E hr h=>?_)
 ·obtain ⟨dv,bv,so,d,x,E,sh,wn,wk,rfl,_⟩:=h
  rfl
 ·obtain ⟨dv,bv,so,d,x,E1,sh,wn,wk,rfl,hd,hb,wx,hwn,hwk,gd,hso,fs,k⟩:=h
  refine ⟨_,#[#[bn 8 #[PW.pt 3 #[gh 7 #[cw 4 #[bK 3 #[G_is_fraction,qe,T.is_fraction_,#[[#[2,(vb)]]]] (by intro _;rfl)]] #[gr 4 #[cw 4 #[bK 3 #[G_is_book,tR,T.is_book_,#[[#[0,(qP)],#[1,(v0)]]]] (by intro _;rfl)]]]]] #[ac 3 #[ax 4 #[dj 4]]] (@aM _)] :: #[ac 3 #[ax 4 #[(),(),(@k9 _ (K) rfl (by rfl)),xQ,T.b_all,(@dY),#[[#[Ed 10 (["place", "hour", "book", "day", "share"]) (2) ([1,0,2]) _ _ _ _ _ _ _ rfl (by kernel_rfl) (@dW _ (K) _ _ _ #[#[0,(qP)][#[()]]] (by rfl)) (fun _ _ _ _ _ _=>#[0,(),()]) (fun _ _ _ _ _ _=>@bf _) (fun _ _ _ _ _ _=>#[b9 6 (by show _=_;kernel_rfl) T.b_range #[[#[#[3,0][#[()]]]]] (by rfl)]) (fun _ _ _ _ _ _=>#[1,(),()]) (fun _ _ _ _ _ _=>@bf _) (fun _ _ _ _ _ _=>#[bH 8 (@tu _) #[G_compared,(),T.compared_,#[[#[G_hour_sum,(),T.hour_sum_,#[[#[3,0],#[2,0],#[0,()],#[1,()],#[4,0]]]],#[aD 5 #[[#[()],#[()]]]]]]] #[()] #[(),()]]) (by intro _;rfl) (by intro _ _;rfl)]]]]]]],?_⟩
  obtain ⟨a,pp,tt,st,wl,wi,ts,ss,ws,is,Dd⟩:=g9 hd
  cases Dd.ev
  have h8:=gd.l8
  have p5:=gd.p5
  obtain ⟨wm,hwm,wt⟩:=wx.wt (by decide)
  have ifr:eF (bJ sh)=true:=by
   show (decide (1≤sh.2) && decide (Int.gcd sh.1 sh.2=1))=true
   rw [decide_eq_true fs.pos,decide_eq_true fs.co]
   rfl
  refine gQ fun D0 n0 r0=>⟨(),.ref so,bJ sh,ED,rfl,km hso,(),?_⟩
  rw [ifr]
  refine aO ⟨(),(),_,_,d,x,E1,wm,wk,rfl,hd,hb,wt,by trivial,hwk,gd,fun H1 s1=>⟨(),?_⟩⟩
  cases hB:dM d x with
  | false=>exact av (r0 _ _ (k _ _ s1 (.no hB)))
  | true=>
  obtain ⟨b,rfl,gb⟩:=At hB wx
  have k:∀H',aa H H'→Q (.bl ((iT d b sh d.pl).all id)) H':=fun H' s'=>k _ _ s' (.yes hB gb)
  refine aO (n0 _ _ ?_)
  refine ⟨(),a,_,_,(),rfl,ad.of (s1 _ _ Dd.ha),rfl,pp,rfl,⟨_,ad.of (s1 _ _ Dd.hp)⟩,fun D hD=>?_⟩
  refine ⟨fun i m G ys=>aa H1 G∧G D=some (.lst ys)∧ys=(iT d b sh (d.pl.take i)).map V.bl∧m+i=d.pl.length,⟨d.pl.length,di hD (aa.refl _),aE,rfl,rfl⟩,?_⟩
  rintro i m G ys ⟨sG,hG,rfl,hm⟩
  refine ⟨hG,?_⟩
  by_cases hi:i<d.pl.length
  ·refine .inr ⟨⟨d.pl.map aT,aT d.pl[i],ad.of (sG _ _ (s1 _ _ Dd.hp)),by rw [List.getElem?_map,List.getElem?_eq_getElem hi];rfl⟩,fun G' ys'=>aa H1 G'∧G' D=some (.lst ys')∧ys'=(iT d b sh (d.pl.take (i+1))).map V.bl,fun G' ys' ⟨q1,q2,q3⟩=>⟨m - 1,by trivial,q1,q2,q3,by trivial⟩,?_⟩
   rintro x G1 ⟨rfl,ex⟩
   have ex:=ex _ (ad.of (K:=K) (sG _ _ (s1 _ _ Dd.hp)))
   rw [List.getElem?_map,List.getElem?_eq_getElem hi] at ex
   cases ex
   refine ⟨cR,?_⟩
   unfold tT
   dsimp only
   rw [if_pos rfl]
   refine ⟨(),a,_,_,(),rfl,ad.of ((s1.trans sG) _ _ Dd.ha),rfl,(),by trivial,by trivial,?_⟩
   refine ⟨fun j m G ys=>aa H1 G∧G D=some (.lst ys)∧ys=(iT d b sh (d.pl.take i)++(qU d b sh d.pl[i]).take j).map V.bl∧m+j=d.hr,⟨d.hr,_,sG,hG,by rw [List.take_zero,List.append_nil],rfl⟩,?_⟩
   rintro j m G2 ys ⟨sG2,hG2,rfl,hm2⟩
   refine ⟨hG2,?_⟩
   have hi5:i<5:=by trivial
   have lU:(qU d b sh d.pl[i]).length=d.hr:=by unfold qU;rw [List.length_map,List.length_range]
   by_cases hj:j<d.hr
   ·refine .inr ⟨by show j<((d.hr:Nat):Int).toNat;trivial,?_,fun G' ys'=>aa H1 G'∧G' D=some (.lst ys')∧ys'=(iT d b sh (d.pl.take i)++(qU d b sh d.pl[i]).take (j+1)).map V.bl,fun G' ys' ⟨q1,q2,q3⟩=>⟨m - 1,by trivial,q1,q2,q3,by trivial⟩,?_⟩
    ·rw [List.length_map,List.length_append,xh,List.length_take,List.length_take,sizeLine_eq]
     have:=Nat.mul_le_mul_left d.hr (show min i d.pl.length≤5 by trivial)
     trivial
    rintro x G3 ⟨rfl,rfl⟩
    refine ⟨⟨rfl,fun i v e=>by
     cases i with
     | zero=>exact e
     | succ i=>
      cases i with
      | zero=>exact absurd e (by intro z;cases z)
      | succ i=>exact e⟩,?_⟩
    dsimp only
    rw [if_pos rfl]
    have sx:=s1.trans sG2
    refine ⟨(),(),(),(),(),_,_,so,d,b,E1,d.pl[i],j,sh,by rw [show (0:Int)+(j:Int)=(j:Int) by trivial];rfl,hd.mono sx.toE,hb.mono sx.toE,gd,gb,hj,sx _ _ hso,fs,fun o5 H5 s5 h5 f5=>⟨(by show 2≤10000;decide),fun o6 H6 m6=>?_⟩⟩
    have z4:Sz 4000 (uZ d b sh d.pl[i] j).1:=f5.sn.mono (by decide)
    have z5:Sz 4000 (uZ d b sh d.pl[i] j).2:=f5.sd.mono (by decide)
    have z0:Sz 4000 (0:Int):=show (0:Int).natAbs<2 ^ 4000 from Nat.pow_pos (by decide)
    have z1:Sz 4000 (1:Int):=show (1:Int).natAbs<2 ^ 4000 from Nat.one_lt_two_pow (by decide)
    refine ⟨o5,o6,_,_,_,(),m6.sm _ _ h5,m6.at',z4,z5,z0,z1,_,(),rfl,?_⟩
    have et:(qU d b sh d.pl[i]).take (j+1)=(qU d b sh d.pl[i]).take j++[decide (0≤(uZ d b sh d.pl[i] j).1)]:=by
     rw [List.take_succ]
     unfold qU
     rw [List.getElem?_map,List.getElem?_range hj]
     rfl
    refine ⟨(s5.trans m6.sm) _ _ hG2,di hD (sG2.trans (s5.trans m6.sm)),aE,?_⟩
    rw [et,←List.append_assoc]
    show _++[V.bl (decide (uN ((uZ d b sh d.pl[i] j).1*1) (0*(uZ d b sh d.pl[i] j).2)≥0))]=_
    rw [KO]
    simp only [List.map_append,List.append_assoc]
    rfl
   ·refine .inl ⟨by show ((d.hr:Nat):Int).toNat≤j;trivial,sG2,hG2,?_⟩
    rw [List.take_of_length_le (show (qU d b sh d.pl[i]).length≤j by trivial)]
    have e:d.pl.take (i+1)=d.pl.take i++[d.pl[i]]:=by rw [List.take_succ,List.getElem?_eq_getElem hi];rfl
    rw [e]
    unfold iT
    rw [List.flatMap_append]
    simp
  ·have e:d.pl.take i=d.pl:=List.take_of_length_le (by trivial)
   rw [e] at hG ⊢
   exact .inl ⟨⟨d.pl.map aT,ad.of (sG _ _ (s1 _ _ Dd.hp)),by rw [List.length_map];trivial⟩,D,iT d b sh d.pl,rfl,ah.of hG,k _ (s1.trans sG)⟩
theorem zH (T:Txt K mg):aV P w K mg base CX0 5 T.l_adds_up_.f T.l_adds_up_.d ["_law_day_here", "_law_book", "_law_share"] Av:=by
 have G_l_is_book:=#[(sI)]
 have G_l_sums:=#[(FE)]
 refine T.l_adds_up_.F.ok zy (fun vs H Q E h=>?_) (fun cdv A outer s H vs Q E hr h=>?_)
 ·obtain ⟨dv,bv,so,d,x,E,sh,wn,wk,rfl,_⟩:=h
  rfl
 ·obtain ⟨dv,bv,so,d,x,E1,sh,wn,wk,rfl,hd,hb,wx,hwn,hwk,gd,hso,fs,k⟩:=h
  refine ⟨_,#[#[bn 8 #[cw 4 #[bK 3 #[G_l_is_book,pR,T.l_is_book_,#[[#[0,jd],#[1,lP]]]] (by intro _;rfl)]] #[ac 3 #[ax 4 #[dj 4]]] (@aM _)] :: #[ac 3 #[ax 4 #[(),(),(@k9 _ (K) rfl (by rfl)),vj,T.b_all,(@dY),#[[#[bq 7 (["_law_one"]) (1) ([]) _ _ _ _ rfl (by kernel_rfl) #[Go 4 #[Cr 9 PySem.F.plainAttrs_dict PySem.F.slot_dict_values PySem.F.type_dict_values (@DY _) #[G_l_sums,sP,T.l_sums_,#[[#[0,jd],#[1,lP],#[2,rD]]]] (by rfl) (by rfl)]] (fun _ _ _ _ _ _=>#[0,(),()]) (fun _ _ _ _ _ _=>@bf _) (fun _ _ _ _ _ _=>#[bH 8 (@tu _) #[#[0,()][#[()]]] #[()] #[(),()]]) (by intro _;rfl)]]]]]]],?_⟩
  have h8:=gd.l8
  have p5:=gd.p5
  obtain ⟨wm,hwm,wt⟩:=wx.wt (by decide)
  refine gQ fun D0 n0 r0=>⟨(),(),_,_,d,x,E1,wm,wk,rfl,hd,hb,wt,by trivial,hwk,gd,fun H1 s1=>⟨(),?_⟩⟩
  cases hB:dM d x with
  | false=>exact av (r0 _ _ (k _ _ s1 (.no hB)))
  | true=>
  obtain ⟨b,rfl,gb⟩:=At hB wx
  refine aO (n0 _ _ ?_)
  refine ⟨(),(),(),_,_,so,d,b,E1,sh,rfl,hd.mono s1.toE,hb.mono s1.toE,gd,gb,s1 _ _ hso,fs,fun D H6 s6 hDn dI=>?_⟩
  obtain ⟨f,hD,hf⟩:=dI
  obtain ⟨B,eB,hB'⟩:=Gs (hr:=d.hr) (F:=fun p h=>KM.sumF (qy d b sh p h)) d.pl
  have lk:=su d.hr h8 d.pl
  refine ⟨.inr (.inr (.inl ⟨rfl,.inr ⟨_,hD⟩⟩)),D,(),rfl,hD,fun v7 H7 m7=>⟨v7,D,(),m7.at',m7.sm _ _ hD,fun oF H8 c8=>?_⟩⟩
  have kF:∀{H':Hp},aa H8 H'→H' D=some (.frz oF (.dT (cB (bM d.pl d.hr) f))):=fun s=>s _ _ c8.at'
  have lt:(cB (bM d.pl d.hr) f).length=(bM d.pl d.hr).length:=by unfold cB;rw [List.length_map]
  intro D9 hD9
  refine lI (n:=(bM d.pl d.hr).length) (fun i=>V.bl (B i)) (by trivial) hD9 (fun i H' hi sm=>⟨kF sm,by rw [lt];exact hi⟩) (fun H' sm=>⟨kF sm,lt.symm⟩) ?_ ?_
  ·rintro i x H' H'' R hi sm ⟨rfl,z,ez⟩ kk
   have e1:(cB (bM d.pl d.hr) f)[i]?=some ((bM d.pl d.hr)[i],f (bM d.pl d.hr)[i]):=by unfold cB;rw [List.getElem?_map,List.getElem?_eq_getElem hi];rfl
   rw [e1] at ez
   cases ez
   obtain ⟨p,h,hp,hh,ek⟩:=wO (List.getElem_mem hi)
   obtain ⟨o,eo,ho⟩:=hf p hp h hh
   have eB:B i=decide (0≤(KM.sumF (qy d b sh p h)).1):=hB' i p h (by rw [List.getElem?_eq_getElem hi,ek])
   rw [ek,eo]
   have nDo:o≠D:=fun e=>by rw [e,hD] at ho;cases ho
   exact ⟨cR,(),o,_,_,(),rfl,ad.of (sm _ _ (c8.ol _ _ nDo (m7.sm _ _ ho))),rfl,_,(),rfl,by have:=kk _ (aa.refl _);rw [eB] at this;exact this⟩
  ·intro H9 s9 hD9'
   have eu:iT d b sh d.pl=EH (fun p h=>KM.sumF (qy d b sh p h)) d.pl d.hr:=by
    have e:qU d b sh=fun p=>(List.range d.hr).map fun h=>decide (0≤(KM.sumF (qy d b sh p h)).1):=funext fun p=>List.map_congr_left fun h hh=>by rw [FZ gd gb fs p (List.mem_range.mp hh)]
    unfold iT EH
    rw [e]
   refine ⟨D9,iT d b sh d.pl,rfl,ah.of (by rw [hD9',eu,←eB,List.map_map];rfl),?_⟩
   exact k _ _ (fun x o h=>s9 _ _ (c8.ol x o (fun e=>by rw [e] at h;exact absurd (s1 _ _ h) (by rw [hDn];exact fun z=>nomatch z)) (m7.sm _ _ (s6 _ _ (s1 _ _ h))))) (.yes hB gb)
end
end K54
namespace K54
open PySem L2
set_option maxHeartbeats 16000000
theorem E9 (x:V):¬(!decide (x=x))=true:=by rw [decide_eq_true rfl];exact Bool.false_ne_true
section
variable {P:Program}{w:World}{K:PySem.W.Frag}{mg:Str→Option Value}{base:Heap}
inductive CL (vs:List V) (H:Hp) (Q:VK):Prop
 | mk (dv tv:V) (so:Addr) (d:aP) (x:PyData) (E:Addr→Prop) (sh:KM.Fra) (wn wk:Nat) (h0:vs=[dv,tv,.ref so]) (h1:aK ED H dv (pb d)) (h2:aK E H tv x) (h3:Wv 60 x wn wk) (h4:wn≤3000) (h5:wk≤40) (h6:jy d) (h7:H so=some (fr sh)) (h8:Fr 10 sh) (h9:∀H',aa H H'→Q (.bl true) H')
def Ew:Sp:=fun vs H Q _=>CL  vs H Q
theorem BC (T:Txt K mg):aV P w K mg base CX0 10 T.l_right_.f T.l_right_.d ["_law_day_here", "_law_thing", "_law_share"] Ew:=by
 have G_is_book:=#[(qM)]
 have G_l_is_book:=#[(sI)]
 have G_adds_up:=#[(A4)]
 have G_l_adds_up:=#[(zH)]
 refine T.l_right_.F.ok qI (fun vs H Q E h=>?_) (fun cdv A outer s H vs Q E hr h=>?_)
 ·obtain ⟨dv,tv,so,d,x,E,sh,wn,wk,rfl,_⟩:=h
  rfl
 ·obtain ⟨dv,tv,so,d,x,E1,sh,wn,wk,rfl,hd,hb,wx,hwn,hwk,gd,hso,fs,k⟩:=h
  refine ⟨_,#[#[gZ 2 (3) (4) _ _ _ _ _ _ _ _ _ _ _ rfl qI.nd rfl rfl (by decide) mT dA #[[#[(),(),#[vm 2 hr],pW,T.b_repr,(@uh),#[[#[1,dB]]]],#[G_is_book,tQ,T.is_book_,#[[#[0,fb],#[1,dB]]]]]] (by kernel_rfl) (by rfl)] :: #[#[bn 8 #[PW.pt 3 #[gh 7 #[cw 4 #[bK 3 #[(),(),(@cV _ (K) (by rfl)),jQ,T.b_isinstance,(@aJ),#[[#[4,dA],#[eR 4 qp T.b_bool (@jJ) (by decide) (by decide)]]]] (by intro _;rfl)]] #[gr 4 #[aH 8 (@jH _) #[4,dA] #[G_l_is_book,rq,T.l_is_book_,#[[#[0,fb],#[1,dB]]]] #[(),()]]]]] #[ac 3 #[ax 4 #[dj 4]]] (@aM _)] :: #[#[4,qI.nd,dA,#[G_adds_up,tM,T.adds_up_,#[[#[0,fb],#[1,dB],#[2,me]]]]] :: #[ac 3 #[ax 4 #[gB 7 #[(),(),(@cV _ (K) (by rfl)),jQ,T.b_isinstance,(@aJ),#[[#[4,dA],#[eR 4 qp T.b_bool (@jJ) (by decide) (by decide)]]]] #[gB 7 #[bH 8 (@b8 _) #[4,dA] #[G_l_adds_up,rj,T.l_adds_up_,#[[#[0,fb],#[1,dB],#[2,me]]]] #[(),()]] #[gW 5 #[bH 8 (@b8 _) #[(),(),#[vm 2 hr],pW,T.b_repr,(@uh),#[[#[1,dB]]]] #[3,mT] #[(),()]]]]]]]]]],?_⟩
  obtain ⟨wm,hwm,wt⟩:=wx.wt (by decide)
  refine bF fun D0 n0=>⟨(),tv,x,E1,wm,wk,rfl,hb,wt,by trivial,by trivial,(),(),_,_,d,x,E1,wm,wk,rfl,hd,hb,wt,by trivial,hwk,gd,fun H1 s1=>⟨_,(),n0 _ _ ?_⟩⟩
  refine bF fun D1 n1=>⟨(),_,_,_,(),(aK.bl (E:=ED) (dM d x)).ty,nM (.bool (dM d x)),(),aO ⟨(),(),(),_,_,d,x,E1,wm,wk,rfl,hd.mono s1.toE,hb.mono s1.toE,wt,by trivial,hwk,gd,fun H2 s2=>⟨rfl,(),cG (fun c=>absurd c (E9 _)) fun c=>n1 _ _ ?_⟩⟩⟩
  have s02:=s1.trans s2
  refine bF fun D2 n2=>⟨(),(),(),_,_,so,d,x,E1,sh,wn,wk,rfl,hd.mono s02.toE,hb.mono s02.toE,wx,hwn,hwk,gd,s02 _ _ hso,fs,fun r H3 s3 ar=>n2 _ _ ?_⟩
  have s03:=s02.trans s3
  refine ⟨(),_,_,_,(),(aK.bl (E:=ED) r).ty,nM (.bool r),(),av ⟨(),(),(),(),_,_,so,d,x,E1,sh,wn,wk,rfl,hd.mono s03.toE,hb.mono s03.toE,wx,hwn,hwk,gd,s03 _ _ hso,fs,fun r' H4 s4 ar'=>⟨rfl,?_⟩⟩⟩
  obtain rfl:=ar.fn ar' rfl
  rw [decide_eq_true rfl]
  have s04:=s03.trans s4
  refine ⟨(),av ⟨(),tv,x,E1,wm,wk,rfl,hb.mono s04.toE,wt,by trivial,by trivial,(),?_⟩⟩
  generalize PyData.shown x=zz
  refine ⟨rfl,?_⟩
  rw [decide_eq_true rfl]
  exact k _ s04
end
end K54
namespace K54
open PySem L2
set_option maxHeartbeats 16000000
theorem rS {z:Nat}{i j:Int} (h:Sz (24+z) i) (e:j.natAbs≤2*i.natAbs∨j.natAbs≤i.natAbs+60):Sz (24+(z+1)) j:=by
 have h1:i.natAbs<2 ^ (24+z):=h
 have h2:2 ^ (24+(z+1))=2*2 ^ (24+z):=by rw [show 24+(z+1)=(24+z)+1 from by trivial,Nat.pow_succ,Nat.mul_comm]
 have h3:2 ^ 24≤2 ^ (24+z):=Nat.pow_le_pow_right (by decide) (by trivial)
 have h4:100≤2 ^ 24:=by decide
 show j.natAbs<2 ^ (24+(z+1))
 rw [h2]
 generalize 2 ^ (24+z)=A at h1 h3 ⊢
 generalize 2 ^ 24=B at h3 h4
 trivial
theorem AI {z:Nat} (i:Int) (h:i.natAbs<2 ^ 10):Sz (24+z) i:=Nat.lt_of_lt_of_le h (Nat.pow_le_pow_right (by decide) (by trivial))
theorem zn {z n k m:Nat}{E:Addr→Prop}{H:Hp}{x:Str} (h:oI m x) (hm:m+1≤4 ^ z):Dh z E H (.str x) (n+1) k:=Dh.str (by have:=h.1;trivial) h.2
theorem Km:oI 1 (Str.ofString "a"):=⟨by nofun,by nofun⟩
theorem Lv:oI 1 (Str.ofString " "):=⟨by nofun,by nofun⟩
theorem Lz:oI 1 (Str.ofString ""):=⟨by nofun,by nofun⟩
theorem Lu:oI 9 (Str.ofString "abcdefghi"):=⟨by nofun,by nofun⟩
section
variable {P:Program}{w:World}{K:PySem.W.Frag}{mg:Str→Option Value}{base:Heap}
inductive Gu (up:Nat) (vs:List V) (H:Hp) (Q:VK):Prop
 | mk (b:Addr) (x:V) (t:Int) (E:Addr→Prop) (z N k:Nat) (h0:vs=[.ref b,x]) (h1:Bx H b t) (h2:0≤t) (h3:t≤900000) (h4:E b) (h5:Al E H) (h6:Dh z E H x N k) (h7:2≤z) (h8:z≤3) (h9:N≤1500) (h10:k≤20) (h11:∀y t' H',af (Eb b) H H'→Dh (z+1) E H' y (N+10) (k+2)→Bx H' b t'→t≤t'→t'≤t+up→Q y H')
def HW (up:Nat):Sp:=fun vs H Q _=>Gu up vs H Q
theorem Hs (T:Txt K mg):aV P w K mg base CX0 2 T.l_odd_.f T.l_odd_.d ["_law_box_here", "_law_thing"] (HW 2):=by
 have G_l_take:=#[(gD)]
 refine T.l_odd_.F.ok ut (fun vs H Q E h=>?_) (fun cdv A outer s H vs Q E hr h=>?_)
 ·obtain ⟨b,x,t,E',z,N,k,rfl,_⟩:=h
  rfl
 ·obtain ⟨b,x,t,E',z,N,k,rfl,B,ht0,ht1,hEb,hal,hx0,hz2,hz,hN,hk,K'⟩:=h
  refine ⟨_,#[#[2,ut.nd,lZ,#[G_l_take,iP,T.l_take_,#[[#[0,fK],#[()]]]]] :: #[#[bn 8 #[PW.pt 3 #[lE 7 #[bK 3 #[(),(),(@cV _ (K) (by rfl)),lH,T.b_isinstance,(@aJ),#[[#[1,bo],#[eR 4 zO T.b_int (@dg) (by decide) (by decide)]]]] (by intro _;rfl)] #[jF 4 #[aH 8 (@gJ _) #[2,lZ] #[()] #[(),()]]]]] #[ac 3 #[ax 4 #[#[bG 4 #[[#[aj 8 (@Ar _) #[1,bo] #[()]],#[aj 8 (@FQ _) #[1,bo] #[()]],#[jV 6 (@Fq _) #[1,bo]],#[()],#[aj 8 (@Fp _) #[()] #[1,bo]],#[bH 8 (@C0 _ hr.units) #[1,bo] #[()] #[(),()]],#[aj 8 (@Ar _) #[1,bo] #[()]]]]][#[G_l_take,iP,T.l_take_,#[[#[0,fK],#[()]]]]]!]]] (@aM _)] :: #[#[bn 8 #[PW.pt 3 #[lE 7 #[bK 3 #[(),(),(@cV _ (K) (by rfl)),lH,T.b_isinstance,(@aJ),#[[#[1,bo],#[eR 4 zS T.b_str (@zL) (by decide) (by decide)]]]] (by intro _;rfl)] #[jF 4 #[aH 8 (@gJ _) #[2,lZ] #[()] #[(),()]]]]] #[ac 3 #[ax 4 #[#[bG 4 #[[#[aj 8 (@zZ _) #[1,bo] #[lK 4]],#[cn 10 (@Ix _) #[1,bo] (@dq _) #[cj 3 #[jV 6 (@i6 _) #[()]]]],#[Cr 9 PySem.F.plainAttrs_str PySem.F.slot_str_upper PySem.F.type_str_upper (@Et _) #[1,bo] (by rfl) (by rfl)],#[lK 4],#[aj 8 (@zZ _) #[1,bo] #[lK 4]],#[lK 4]]]][#[G_l_take,iP,T.l_take_,#[[#[0,fK],#[()]]]]]!]]] (@aM _)] :: #[#[3,ut.nd,pP,#[bG 4 #[[#[Cg 3],#[dj 4],#[()],#[lK 4],#[aD 5 (@bE _)],#[bG 4 (@bE _)],#[aD 5 #[[#[()],#[()]]]],#[aD 5 #[[#[()],#[()]]]],#[aD 5 #[[#[jV 6 (@i6 _) #[()]],#[()]]]],#[aD 5 #[[#[()],#[()]]]],#[aD 5 #[[#[()],#[()]]]],#[aD 5 #[[#[()],#[()]]]],#[aD 5 #[[#[1,bo]]]],#[bG 4 #[[#[1,bo]]]]]]]] :: #[ac 3 #[ax 4 #[#[3,pP][#[G_l_take,iP,T.l_take_,#[[#[0,fK],#[()]]]]]!]]]]]]],?_⟩
  refine bF fun DZ nZ=>⟨(),b,5,t,rfl,B,by decide,by decide,ht0,by trivial,fun wy t1 H1 w0 w1 h1a h1b s1 B1=>nZ _ _ ?_⟩
  have s1E:=s1.weak hEb
  obtain ⟨d,hx,wh⟩:=hx0.sE s1E
  have al1:=hal.sE s1 B1
  have dx:∀{J:Hp},aa H1 J→Dh (z+1) E' J x N k:=fun sJ=>Dh.more ⟨d,hx.mono sJ.toE,wh⟩ (Nat.le_succ z)
  have KK:∀y J t2,af (Eb b) H1 J→Bx J b t2→t1≤t2→t2≤t1+1→Dh (z+1) E' J y (N+10) (k+2)→Q y J:=fun y J t2 sJ BJ ha hb hy=>K' y t2 J (s1.trans sJ) hy BJ (by trivial) (by trivial)
  have q64:64≤4 ^ (z+1):=Nat.le_trans (show 64≤4 ^ 3 by decide) (Nat.pow_le_pow_right (by decide) (by trivial))
  have q4:4 ^ (z+1)=4*4 ^ z:=by rw [Nat.pow_succ,Nat.mul_comm]
  have q16:16≤4 ^ z:=Nat.le_trans (show 16≤4 ^ 2 by decide) (Nat.pow_le_pow_right (by decide) hz2)
  have lit:∀{J:Hp}{n k:Nat} (i:Int),i.natAbs<2 ^ 10→Dh (z+1) E' J (.int i) (n+1) k:=fun {J n k} i hi=>Dh.int (AI i hi)
  refine gQ fun DA nA rA=>?_
  refine lW (fun J=>aa H1 J∧∃i,xL x=some i∧Sz (24+z) i∧(d=.int i∨∃q,d=.bool q)) (fun J=>aa H1 J) (fun Q' y1 y0=>?_) (fun J hJ=>?_) (fun J sJ=>nA _ _ ?_)
  ·refine ⟨(),_,_,_,(),hx.ty,vJ d,(),?_⟩
   cases hb:BH d with
   | false=>exact aO (y0 _ (aa.refl _))
   | true=>
    refine av ⟨(),_,(),rfl,(),?_⟩
    by_cases c:wy<3
    ·rw [decide_eq_true c]
     refine y1 _ ⟨aa.refl _,?_⟩
     cases hx with
     | int i=>cases wh with | int h _=>exact ⟨i,rfl,h,.inl rfl⟩
     | bl q=>exact ⟨_,rfl,AI _ (by cases q <;> decide),.inr ⟨q,rfl⟩⟩
     | non=>cases hb
     | str _=>cases hb
     | lst _ _ _=>cases hb
     | tup _ _=>cases hb
    ·rw [decide_eq_false c]
     exact y0 _ (aa.refl _)
  ·obtain ⟨sJ,i,hi,si,hdd⟩:=hJ
   obtain ⟨wm,hwm,wt⟩:=(wh.wv (show z≤4 by trivial)).wt (by decide)
   have w1':Wt (.int 1) 1 0:=.int (show (1:Int).natAbs<2 ^ 1900 from Nat.one_lt_two_pow (by decide))
   refine ⟨(),i,1,hi,rfl,(),i,1,hi,rfl,(),i,hi,(),2,i,rfl,hi,by decide,by decide,(),d,.int 1,E',ED,wm,1,k,0,hx.mono sJ.toE,.int 1,wt,w1',by trivial,(),i,60,hi,rfl,(by show 7≤10000;decide),fun L J1 m1=>?_⟩
   refine ⟨(),b,7,t1,rfl,B1.same (sJ.trans m1.sm),by decide,by decide,by trivial,by trivial,fun r t2 J2 r0 r1 h2a h2b s2 B2=>?_⟩
   have nLb:L≠b:=fun e=>(B1.same sJ).th (e▸m1.fr)
   obtain ⟨v,ev,hv⟩:∃v,ko ([V.int (i+1),.int (i - 1),.int (-i),.int 0,.int (2*i),.bl (PyData.eqv d (.int 1)),.int (i+60)]:List V) r=some v∧Dh (z+1) E' J2 v (N+10) (k+2):=by
    obtain rfl | rfl | rfl | rfl | rfl | rfl | rfl:r=0∨r=1∨r=2∨r=3∨r=4∨r=5∨r=6:=by trivial
    ·exact ⟨(),Dh.int (rS si (by trivial))⟩
    ·exact ⟨(),Dh.int (rS si (by trivial))⟩
    ·exact ⟨(),Dh.int (rS si (by trivial))⟩
    ·exact ⟨(),lit 0 (by decide)⟩
    ·exact ⟨(),Dh.int (rS si (by trivial))⟩
    ·exact ⟨(),Dh.bl _⟩
    ·exact ⟨(),Dh.int (rS si (by trivial))⟩
   exact ⟨L,_,_,(),rfl,ah.of (s2.old _ _ nLb m1.at'),ev,rA _ _ (KK v J2 t2 ((sJ.trans m1.sm).toE.trans s2) B2 h2a h2b hv)⟩
  clear nA rA
  refine gQ fun DA nA rA=>?_
  refine lW (fun J=>aa H1 J∧∃y,x=.str y∧y.length+1≤4 ^ z∧∀c∈y.cps.toList,c<128) (fun J=>aa H1 J) (fun Q' y1 y0=>?_) (fun J hJ=>?_) (fun J sJ=>nA _ _ ?_)
  ·refine ⟨(),_,_,_,(),(hx.mono sJ.toE).ty,Gv d,(),?_⟩
   cases hb:CZ d with
   | false=>exact aO (y0 _ sJ)
   | true=>
    refine av ⟨(),_,(),rfl,(),?_⟩
    by_cases c:wy<3
    ·rw [decide_eq_true c]
     refine y1 _ ⟨sJ,?_⟩
     cases hx with
     | str y=>cases wh with | str h hc _=>exact ⟨y,rfl,h,hc⟩
     | int i=>cases hb
     | bl q=>cases hb
     | non=>cases hb
     | lst _ _ _=>cases hb
     | tup _ _=>cases hb
    ·rw [decide_eq_false c]
     exact y0 _ sJ
  ·obtain ⟨sJ,y,rfl,hy,hc⟩:=hJ
   have q63:4 ^ z≤64:=Nat.le_trans (Nat.pow_le_pow_right (by decide) hz) (show 4 ^ 3≤64 by decide)
   have ty:oI y.length y:=⟨Nat.le_refl _,hc⟩
   refine ⟨(),y,_,y.length,1,rfl,rfl,ty,Km,by trivial,fun c1 tc1=>?_⟩
   refine ⟨(),(),(),y,rfl,by trivial,fun y2 l2 m2=>?_⟩
   refine ⟨(),rfl,y,y.length,rfl,rfl,ty,by trivial,fun c3 tc3=>⟨(),y,_,y.length,1,rfl,rfl,ty,Lv,by trivial,fun c5 tc5=>⟨(by show 6≤10000;decide),fun L J1 m1=>⟨(),b,6,t1,rfl,B1.same (sJ.trans m1.sm),by decide,by decide,by trivial,by trivial,fun r t2 J2 r0 r1 h2a h2b s2 B2=>?_⟩⟩⟩⟩
   have nLb:L≠b:=fun e=>(B1.same sJ).th (e▸m1.fr)
   have ty2:oI y.length y2:=⟨l2,fun c hc'=>hc c (m2 c hc')⟩
   obtain ⟨v,ev,hv⟩:∃v,ko ([V.str c1,.str y2,.str c3,.str (Str.ofString ""),.str c5,.str (Str.ofString "abcdefghi")]:List V) r=some v∧Dh (z+1) E' J2 v (N+10) (k+2):=by
    obtain rfl | rfl | rfl | rfl | rfl | rfl:r=0∨r=1∨r=2∨r=3∨r=4∨r=5:=by trivial
    ·exact ⟨(),zn tc1 (by trivial)⟩
    ·exact ⟨(),zn ty2 (by trivial)⟩
    ·exact ⟨(),zn tc3 (by trivial)⟩
    ·exact ⟨(),zn Lz (by trivial)⟩
    ·exact ⟨(),zn tc5 (by trivial)⟩
    ·exact ⟨(),zn Lu (by trivial)⟩
   exact ⟨L,_,_,(),rfl,ah.of (s2.old _ _ nLb m1.at'),ev,rA _ _ (KK v J2 t2 ((sJ.trans m1.sm).toE.trans s2) B2 h2a h2b hv)⟩
  clear nA rA
  refine bF fun DS nS=>⟨(by show 0≤10000;decide),fun o1 K1 n1=>⟨(by show 0≤10000;decide),fun o2 K2 n2=>⟨(by show 2≤10000;decide),fun o3 K3 n3=>⟨(by show 2≤10000;decide),fun o4 K4 n4=>⟨(),(by show 2≤10000;decide),fun o5 K5 n5=>⟨(by show 2≤10000;decide),fun o6 K6 n6=>⟨(by show 2≤10000;decide),fun o7 K7 n7=>⟨(by show 2≤10000;decide),fun o8 K8 n8=>⟨(),(by show 1≤10000;decide),fun o9 K9 n9=>⟨(),(by show 1≤10000;decide),fun oa Ka na=>⟨(by show 14≤10000;decide),fun L J1 m1=>nS _ _ ?_⟩⟩⟩⟩⟩⟩⟩⟩⟩⟩⟩
  refine ⟨(),(),b,14,t1,rfl,B1.same ((((((((((((sJ.trans n1.sm).trans n2.sm).trans n3.sm).trans n4.sm).trans n5.sm).trans n6.sm).trans n7.sm).trans n8.sm).trans n9.sm).trans na.sm).trans m1.sm)),by decide,by decide,by trivial,by trivial,fun r t2 J2 r0 r1 h2a h2b s2 B2=>?_⟩
  have Ra:=m1.sm
  have R9:=na.sm.trans Ra
  have R8:=n9.sm.trans R9
  have R7:=n8.sm.trans R8
  have R6:=n7.sm.trans R7
  have R5:=n6.sm.trans R6
  have R4:=n5.sm.trans R5
  have R3:=n4.sm.trans R4
  have R2:=n3.sm.trans R3
  have R1:=n2.sm.trans R2
  have sL:=sJ.trans (n1.sm.trans R1)
  have nLb:L≠b:=fun e=>(B1.same (((((((((((sJ.trans n1.sm).trans n2.sm).trans n3.sm).trans n4.sm).trans n5.sm).trans n6.sm).trans n7.sm).trans n8.sm).trans n9.sm).trans na.sm))).th (e▸m1.fr)
  have two:∀{o:Addr}{i j:Int},J1 o=some (.tup [.int i,.int j])→i.natAbs<2 ^ 10→j.natAbs<2 ^ 10→Dh (z+1) E' J1 (.ref o) (N+10) (k+2):=fun h hi hj=>(Dh.tup h (bZ.cons (m:=1) (n:=1) (k:=0) (lit (n:=0) _ hi) (bZ.one (lit (n:=0) _ hj)))).up (by trivial) (by trivial)
  have al9:=al1.sm ((((((((sJ.trans n1.sm).trans n2.sm).trans n3.sm).trans n4.sm).trans n5.sm).trans n6.sm).trans n7.sm).trans n8.sm)
  obtain ⟨v,ev,hv⟩:∃v,ko ([V.non,.bl true,.int 0,.str (Str.ofString "a"),.ref o1,.ref o2,.ref o3,.ref o4,.ref o5,.ref o6,.ref o7,.ref o8,.ref o9,.ref oa]:List V) r=some v∧Dh (z+1) E' J1 v (N+10) (k+2):=by
   obtain rfl | rfl | rfl | rfl | rfl | rfl | rfl | rfl | rfl | rfl | rfl | rfl | rfl | rfl:r=0∨r=1∨r=2∨r=3∨r=4∨r=5∨r=6∨r=7∨r=8∨r=9∨r=10∨r=11∨r=12∨r=13:=by trivial
   ·exact ⟨(),Dh.non⟩
   ·exact ⟨(),Dh.bl _⟩
   ·exact ⟨(),lit 0 (by decide)⟩
   ·exact ⟨(),zn Km (by trivial)⟩
   ·exact ⟨(),(Dh.tup (n:=0) (k:=0) (R1 _ _ n1.at') bZ.nil).up (by trivial) (by trivial)⟩
   ·exact ⟨(),(Dh.lst (n:=0) (k:=0) (R2 _ _ n2.at') ((al1.sm (sJ.trans n1.sm)).ne n2.fr) bZ.nil).up (by trivial) (by trivial)⟩
   ·exact ⟨(),two (R3 _ _ n3.at') (by decide) (by decide)⟩
   ·exact ⟨(),two (R4 _ _ n4.at') (by decide) (by decide)⟩
   ·exact ⟨(),two (R5 _ _ n5.at') (by decide) (by decide)⟩
   ·exact ⟨(),two (R6 _ _ n6.at') (by decide) (by decide)⟩
   ·exact ⟨(),two (R7 _ _ n7.at') (by decide) (by decide)⟩
   ·exact ⟨(),two (R8 _ _ n8.at') (by decide) (by decide)⟩
   ·exact ⟨(),(Dh.tup (R9 _ _ n9.at') (bZ.one (dx sL))).up (by trivial) (by trivial)⟩
   ·exact ⟨(),(Dh.lst (Ra _ _ na.at') ((al9.sm n9.sm).ne na.fr) (bZ.one (dx sL))).up (by trivial) (by trivial)⟩
  exact ⟨L,_,_,(),rfl,ah.of (s2.old _ _ nLb m1.at'),ev,KK v J2 t2 (sL.toE.trans s2) B2 h2a h2b (hv.sE (s2.weak hEb))⟩
end
end K54
namespace K54
open PySem L2
set_option maxHeartbeats 16000000
theorem cD.split {z:Nat}:∀{xs:List PyData}{n k i:Nat}{d:PyData},cD z xs n k→xs[i]?=some d→fP fun n1 m n2=>cD z (xs.take i) n1 k∧Wh z d m k∧cD z (xs.drop (i+1)) n2 k∧n1+m+n2≤n
 | _,_,_,_,_,.nil,e=>by simp at e
 | _,_,_,0,_,.cons (m:=m) (l:=l) h r hn,e=>by
  simp at e
  subst e
  exact ⟨0,m,l,.nil,h,by simpa using r,by trivial⟩
 | _,_,_,i+1,_,.cons (m:=m) (l:=l) h r hn,e=>by
  obtain ⟨n1,m',n2,a,b,c,l'⟩:=cD.split (i:=i) r (by simpa using e)
  exact ⟨m+n1,m',n2,.cons h a (Nat.le_refl _),b,by simpa using c,by trivial⟩
theorem bZ.split {z:Nat}{E:Addr→Prop}{H:Hp}{xs:List V}{n k i:Nat}{v:V} (h:bZ z E H xs n k) (e:xs[i]?=some v):fP fun n1 m n2=>bZ z E H (xs.take i) n1 k∧Dh z E H v m k∧bZ z E H (xs.drop (i+1)) n2 k∧n1+m+n2≤n:=by
 obtain ⟨ds,a,w⟩:=h
 obtain ⟨d,ed,hd⟩:=a.get e
 obtain ⟨n1,m,n2,w1,w2,w3,l⟩:=cD.split w ed
 exact ⟨n1,m,n2,⟨_,a.take i,w1⟩,⟨d,hd,w2⟩,⟨_,a.drop (i+1),w3⟩,l⟩
inductive JI (z N k:Nat) (E:Addr→Prop) (H:Hp) (x:V) (d:PyData):Prop
 | leaf (hs:rW d=false)
 | seq (o:Addr) (c:Bool) (ys:List V) (m l:Nat) (e:x=.ref o) (hs:rW d=true) (ht:yI d=(!c)) (hl:cZ d=c) (ob:∀H',af E H H'→Ob c H' o ys) (ds:bZ z E H ys m l) (hm:m+1≤N) (hk:l+1≤k)
theorem IM {z N k:Nat}{E:Addr→Prop}{H:Hp}{x:V}{d:PyData} (h:aK E H x d) (w:Wh z d N k):JI z N k E H x d:=by
 cases h with
 | non=>exact .leaf rfl
 | bl b=>exact .leaf rfl
 | int i=>exact .leaf rfl
 | str y=>exact .leaf rfl
 | @lst o ys ds h ne r=>cases w with | list h1 h2 h3=>exact .seq o true ys _ _ rfl rfl rfl rfl (fun H' s=>s.old _ _ ne h) ⟨ds,r,h1⟩ h2 h3
 | @tup o ys ds h r=>cases w with | tuple h1 h2 h3=>exact .seq o false ys _ _ rfl rfl rfl rfl (fun H' s=>s.tup _ _ h) ⟨ds,r,h1⟩ h2 h3
theorem AR {c:Bool}{z n k:Nat}{E:Addr→Prop}{J:Hp}{u:Addr}{zs:List V} (h:Ob c J u zs) (ne:c=true→¬E u) (g:bZ z E J zs n k):Dh z E J (.ref u) (n+1) (k+1):=by
 cases c with
 | true=>exact Dh.lst h (ne rfl) g
 | false=>exact Dh.tup h g
theorem Id {K:PySem.W.Frag}{c:Bool}{J:Hp}{o:Addr}{ys:List V} (h:Ob c J o ys):ah K J o ys∨ad K J o ys:=by
 cases c with
 | true=>exact .inl (ah.of h)
 | false=>exact .inr (ad.of h)
theorem gF {ys:List V} (j:Nat):eX ys (some (j:Int)) none=ys.drop j:=by
 unfold eX
 rw [HT.sIx_none,HT.sIx_nat]
 by_cases h:j≤ys.length
 ·rw [Nat.min_eq_left h]
  exact List.take_of_length_le (by rw [List.length_drop];trivial)
 ·rw [Nat.min_eq_right (by trivial),List.drop_eq_nil_of_le (Nat.le_refl _),List.drop_eq_nil_of_le (by trivial),List.take_nil]
theorem uO {ys:List V} (j:Nat) (h:j≤ys.length):eX ys (some (j:Int)) (some ((j+2:Nat):Int))=(ys.drop j).take 2:=by
 unfold eX
 rw [HT.sIx_nat,HT.sIx_nat,Nat.min_eq_left h]
 by_cases h2:j+2≤ys.length
 ·rw [Nat.min_eq_left h2,show j+2 - j=2 by trivial]
 ·rw [Nat.min_eq_right (by trivial),List.take_of_length_le (by rw [List.length_drop];trivial),List.take_of_length_le (by rw [List.length_drop];trivial)]
theorem xH (i j:Int):decide (V.int i=V.int j)=decide (i=j):=decide_eq_decide.mpr ⟨fun h=>by injection h,fun h=>by rw [h]⟩
section
variable {P:Program}{w:World}{K:PySem.W.Frag}{mg:Str→Option Value}{base:Heap}
inductive Ej (n:Nat) (vs:List V) (H:Hp) (Q:VK):Prop
 | mk (b:Addr) (x:V) (t:Int) (E:Addr→Prop) (z N k:Nat) (h0:vs=[.ref b,x,.int (n:Int)]) (h1:Bx H b t) (h2:0≤t) (h3:t+2*n≤800000) (h4:E b) (h5:Al E H) (h6:Dh z E H x N k) (h7:2≤z) (h8:z≤3) (h9:N≤1500) (h10:k≤20) (h11:∀y t' H',af (Eb b) H H'→Dh (z+1) E H' y (2*N+12) (k+2)→Bx H' b t'→t≤t'→t'≤t+2*n+2→Q y H')
def pF (n:Nat):Sp:=fun vs H Q _=>Ej n vs H Q
theorem Ax (T:Txt K mg):∀n,aV P w K mg base CX0 (n+3) T.l_bent_.f T.l_bent_.d ["_law_box_here", "_law_thing", "_law_deep"] (pF n):=by
 have G_l_take:=#[(gD)]
 have G_l_odd:=#[(Hs)]
 suffices ∀n m,m=n+3→(∀n',n'<n→aV P w K mg base CX0 (n'+3) T.l_bent_.f T.l_bent_.d ["_law_box_here", "_law_thing", "_law_deep"] (pF n'))→aV P w K mg base CX0 (n+3) T.l_bent_.f T.l_bent_.d ["_law_box_here", "_law_thing", "_law_deep"] (pF n) by
  intro n
  induction n using Nat.strongRecOn with
  | ind n ih=>exact this n _ rfl ih
 intro n _ _ ih
 obtain ⟨jj,hjj,sp,G_l_bent,hsp⟩:∃j,j<n+3∧∃sp,aV P w K mg base CX0 j T.l_bent_.f T.l_bent_.d ["_law_box_here", "_law_thing", "_law_deep"] sp∧(1≤n→sp=pF (n - 1)):=by
  by_cases h:1≤n
  ·exact ⟨n - 1+3,by trivial,_,ih (n - 1) (by trivial),fun _=>rfl⟩
  ·exact ⟨2,by trivial,fun _ _ _ _=>False,T.l_bent_.F.ok oW (fun _ _ _ _ h=>h.elim) (fun _ _ _ _ _ _ _ _ _ h=>h.elim),fun z=>absurd z h⟩
 refine T.l_bent_.F.ok oW (fun vs H Q E h=>?_) (fun cdv A outer s H vs Q E hr h=>?_)
 ·obtain ⟨b,x,t,E',z,N,k,rfl,_⟩:=h
  rfl
 ·obtain ⟨b,x,t,E',z,N,k,rfl,B,ht0,ht1,hEb,hal,hx0,hz2,hz,hN,hk,K'⟩:=h
  refine ⟨_,#[#[bn 8 #[PW.pt 3 #[gh 7 #[cw 4 #[bK 3 #[(),(),(@BS _ (K) (by rfl)),hZ,T.b_isinstance,(@aJ),#[[#[1,aN],#[aD 5 #[[#[eR 4 l7 T.b_list (@b4) (by decide) (by decide)],#[eR 4 kU T.b_tuple (@bN) (by decide) (by decide)]]]]]]] (by intro _;rfl)]] #[gh 7 #[aH 8 (@b8 _) #[(),(),(@d9 _ (K) (by rfl)),sR,T.b_len,(@bh),#[[#[1,aN]]]] #[()] #[(),()]] #[gr 4 #[aH 8 (@b8 _) #[2,oA] #[()] #[(),()]]]]]] #[ac 3 #[ax 4 #[iM 16 G_l_odd (hr.mono (by trivial)) vW T.l_odd_.m T.l_odd_.F.kp T.l_odd_.B .nil (@mt _) #[[#[0,fB],#[1,aN]]] (by decide) (by rfl) (by rfl)]]] (@aM _)] :: #[#[gZ 2 (3) (4) _ _ _ _ _ _ _ _ _ _ _ rfl oW.nd rfl rfl (by decide) gA bY #[[#[iM 16 G_l_take (hr.mono (by trivial)) oQ T.l_take_.m T.l_take_.F.kp T.l_take_.B .nil (@mt _) #[[#[0,fB],#[()]]] (by decide) (by rfl) (by rfl)],#[iM 16 G_l_take (hr.mono (by trivial)) oQ T.l_take_.m T.l_take_.F.kp T.l_take_.B .nil (@mt _) #[[#[0,fB],#[(),(),(@d9 _ (K) (by rfl)),sR,T.b_len,(@bh),#[[#[1,aN]]]]]] (by decide) (by rfl) (by rfl)]]] (by kernel_rfl) (by rfl)] :: #[#[bn 8 #[aH 8 (@b8 _) #[3,gA] #[()] #[(),()]] #[ac 3 #[ax 4 #[aj 8 (@mM _) #[cn 10 (@qq _) #[1,aN] (@dq _) #[cj 3 #[4,bY]]] #[cn 10 (@qq _) #[1,aN] #[cj 3 #[aj 8 (@bi _) #[4,bY] #[()]]] (@dq _)]]]] (@aM _)] :: #[#[bn 8 #[aH 8 (@b8 _) #[3,gA] #[()] #[(),()]] #[ac 3 #[ax 4 #[aj 8 (@mM _) #[cn 10 (@qq _) #[1,aN] (@dq _) #[cj 3 #[aj 8 (@bi _) #[4,bY] #[()]]]] #[cn 10 (@qq _) #[1,aN] #[cj 3 #[4,bY]] (@dq _)]]]] (@aM _)] :: #[#[bn 8 #[aH 8 (@b8 _) #[3,gA] #[()] #[(),()]] #[ac 3 #[ax 4 #[aj 8 (@mM _) #[aj 8 (@mM _) #[cn 10 (@qq _) #[1,aN] (@dq _) #[cj 3 #[4,bY]]] #[FU 7 #[cn 10 (@qq _) #[1,aN] #[cj 3 #[4,bY]] #[cj 3 #[aj 8 (@bi _) #[4,bY] #[()]]]] #[cj 3 #[jV 6 (@i6 _) #[()]]]]] #[cn 10 (@qq _) #[1,aN] #[cj 3 #[aj 8 (@bi _) #[4,bY] #[()]]] (@dq _)]]]] (@aM _)] :: #[#[bn 8 #[aH 8 (@b8 _) #[3,gA] #[()] #[(),()]] #[ac 3 #[ax 4 #[fZ 8 #[bK 3 #[(),(),(@cV _ (K) (by rfl)),hZ,T.b_isinstance,(@aJ),#[[#[1,aN],#[eR 4 kU T.b_tuple (@bN) (by decide) (by decide)]]]] (by intro _;rfl)] #[bA 9 (@eY _ (K) (by rfl)) l7 T.b_list (@b4) #[[#[1,aN]]] (by decide) (by decide) (by rfl) (by rfl)] #[bA 9 (@dO _ (K) (by rfl)) kU T.b_tuple (@bN) #[[#[1,aN]]] (by decide) (by decide) (by rfl) (by rfl)]]]] (@aM _)] :: #[#[5,oW.nd,jK,#[iM 16 G_l_bent (hr.mono (by trivial)) uV T.l_bent_.m T.l_bent_.F.kp T.l_bent_.B .nil (@mt _) #[[#[0,fB],#[d7 7 (@Im _ (K) (by rfl)) #[1,aN] #[4,bY] (fun _ _=>rfl)],#[aj 8 (@lV _) #[2,oA] #[()]]]] (by decide) (by rfl) (by rfl)]] :: #[ac 3 #[ax 4 #[aj 8 (@mM _) #[aj 8 (@mM _) #[cn 10 (@qq _) #[1,aN] (@dq _) #[cj 3 #[4,bY]]] #[fZ 8 #[bK 3 #[(),(),(@cV _ (K) (by rfl)),hZ,T.b_isinstance,(@aJ),#[[#[1,aN],#[eR 4 l7 T.b_list (@b4) (by decide) (by decide)]]]] (by intro _;rfl)] #[bG 4 #[[#[5,jK]]]] #[aD 5 #[[#[5,jK]]]]]] #[cn 10 (@qq _) #[1,aN] #[cj 3 #[aj 8 (@bi _) #[4,bY] #[()]]] (@dq _)]]]]]]]]]]],?_⟩
  refine gQ fun DZ nZ rZ=>?_
  obtain ⟨d,hx,wh⟩:=id hx0
  refine lW (fun J=>aa H J) (fun J=>aa H J∧Aq fun o c ys m l=>x=.ref o∧yI d=(!c)∧cZ d=c∧(∀H',af E' H H'→Ob c H' o ys)∧bZ z E' H ys m l∧m+1≤N∧l+1≤k∧ys≠[]∧1≤n) (fun Q' y1 y0=>?_) (fun J sJ=>?_) (fun J hJ=>nZ _ _ ?_)
  ·refine ⟨(),(by show 2≤10000;decide),fun o3 H3 n3=>⟨x,o3,d,E',rfl,hx.mono n3.sm.toE,ad.of n3.at',(),?_⟩⟩
   rcases IM hx wh with ⟨hs⟩ | ⟨o,c,ys,m,l,rfl,hs,ht,hl,ob,ds,hm,hk'⟩
   ·rw [hs]
    exact av (y1 _ n3.sm)
   ·rw [hs]
    refine aO ⟨(),o,ys,rfl,Id (ob _ n3.sm.toE),rfl,(),cG (fun c1=>y1 _ n3.sm) fun c1=>⟨(),rfl,(),?_⟩⟩
    by_cases hn:n=0
    ·subst hn
     exact y1 _ n3.sm
    ·rw [decide_eq_false (show ¬V.int (n:Int)=V.int 0 from fun z=>by injection z with z;trivial)]
     refine y0 _ ⟨n3.sm,o,c,ys,m,l,rfl,ht,hl,ob,ds,hm,hk',?_,by trivial⟩
     rintro rfl
     exact c1 (decide_eq_true rfl)
  ·exact ⟨(),(),b,x,t,E',z,N,k,rfl,B.same sJ,ht0,by trivial,hEb,hal.sm sJ,hx0.sm sJ,hz2,hz,hN,hk,fun y t' H' s' dy B' h1 h2=>rZ _ _ (K' y t' H' (sJ.toE.trans s') (dy.up (by trivial) (Nat.le_refl _)) B' h1 (by trivial))⟩
  obtain ⟨sJ,o,c,ys,m,l,rfl,htp,hls,ob,ds,hm,hl,hne,hn1⟩:=hJ
  clear nZ rZ
  have lm:ys.length≤m:=ds.len
  have lp:0<ys.length:=List.length_pos_iff.mpr hne
  have obJ:∀J',af E' H J'→Ob c J' o ys:=ob
  refine bF fun D1 n1=>⟨(),b,9,t,rfl,B.same sJ,by decide,by decide,ht0,by trivial,fun wy t1 H1 w0 w1 h1a h1b s1 B1=>⟨(),(),o,ys,rfl,Id (obJ _ ((sJ.toE.trans (s1.weak hEb)))),b,(ys.length:Int),t1,rfl,B1,by trivial,Nat.lt_of_le_of_lt (Nat.log2_le_self _) (by trivial),by trivial,by trivial,fun at_ t2 H2 a0 a1 h2a h2b s2 B2=>⟨_,(),n1 _ _ ?_⟩⟩⟩
  obtain ⟨i,rfl⟩:∃i:Nat,at_=(i:Int):=⟨at_.toNat,by trivial⟩
  have hi:i<ys.length:=by trivial
  have s02:af E' H H2:=(sJ.toE.trans (s1.weak hEb)).trans (s2.weak hEb)
  have sb02:af (Eb b) H H2:=(sJ.toE.trans s1).trans s2
  have al2:Al E' H2:=(hal.sm sJ |>.sE s1 B1).sE s2 B2
  have ds2:=(ds.sE s02).more (Nat.le_succ z)
  have hx2:=hx.mono s02
  have g2:Ob c H2 o ys:=ob _ s02
  have ne:∀{J:Hp}{p:Addr},aa H2 J→(c=true→J p=none)→c=true→¬E' p:=fun sJ f e=>(al2.sm sJ).ne (f e)
  have KK:∀y J t3,af (Eb b) H2 J→Dh (z+1) E' J y (2*N+12) (k+2)→Bx J b t3→t2≤t3→t3≤t2+2*(n - 1)+2→Q y J:=fun y J t3 sJ hy BJ ha hb=>K' y t3 J (sb02.trans sJ) hy BJ (by trivial) (by trivial)
  clear K'
  have ei:ys[i]?=some ys[i]:=List.getElem?_eq_getElem hi
  obtain ⟨n1',m',n2',dtz,dez,drz,hnm⟩:=bZ.split (ds.sE s02) ei
  have dt:=dtz.more (Nat.le_succ z)
  have de:=dez.more (Nat.le_succ z)
  have dr:=drz.more (Nat.le_succ z)
  have c1:eX ys none (some (i:Int))=ys.take i:=oZ (by trivial)
  have c2:eX ys none (some ((i+1:Nat):Int))=ys.take (i+1):=oZ (by trivial)
  have ea1:(i:Int)+1=((i+1:Nat):Int):=by trivial
  have ea2:(i:Int)+2=((i+2:Nat):Int):=by trivial
  have ldr:∀j,(ys.drop j).length≤ys.length:=fun j=>by rw [List.length_drop];trivial
  have ltk:∀j,(ys.take j).length≤ys.length:=fun j=>by rw [List.length_take];trivial
  refine gQ fun D2 n2 r2=>lW (fun J=>aa H2 J∧wy=0) (fun J=>aa H2 J) (fun Q' y1 y0=>⟨(),rfl,(),by
   by_cases q:wy=0
   ·rw [xH,decide_eq_true q];exact y1 _ ⟨aa.refl _,q⟩
   ·rw [xH,decide_eq_false q];exact y0 _ (aa.refl _)⟩) (fun J hJ=>?_) (fun J sJ2=>n2 _ _ ?_)
  ·obtain ⟨sJ2,rfl⟩:=hJ
   refine ⟨(),(),(),c,o,ys,rfl,g2.sm sJ2,fun p1 J1 s3 h1 f1=>⟨(),(),_,(),rfl,(),c,o,ys,rfl,g2.sm (sJ2.trans s3),fun p2 J2 s4 h2 f2=>⟨c,p1,p2,_,(),rfl,h1.sm s4,h2,by rw [c1,ea1,gF];have:=ltk i;have:=ldr (i+1);trivial,fun p3 J3 s5 h3 f3=>r2 _ _ (KK _ _ t2 ((((sJ2.trans s3).trans s4).trans s5)).toE ?_ (B2.same (((sJ2.trans s3).trans s4).trans s5)) (by trivial) (by trivial))⟩⟩⟩
   rw [c1,ea1,gF] at h3
   have S5:=((sJ2.trans s3).trans s4).trans s5
   exact (AR h3 (ne ((sJ2.trans s3).trans s4) f3) ((dt.sm S5).append (dr.sm S5))).up (by trivial) (by trivial)
  clear n2 r2
  refine gQ fun D2 n2 r2=>lW (fun J=>aa H2 J∧wy=1) (fun J=>aa H2 J) (fun Q' y1 y0=>⟨(),rfl,(),by
   by_cases q:wy=1
   ·rw [xH,decide_eq_true q];exact y1 _ ⟨sJ2,q⟩
   ·rw [xH,decide_eq_false q];exact y0 _ sJ2⟩) (fun J hJ=>?_) (fun J sJ2=>n2 _ _ ?_)
  ·obtain ⟨sJ2,rfl⟩:=hJ
   refine ⟨(),(),_,(),rfl,(),c,o,ys,rfl,g2.sm sJ2,fun p1 J1 s3 h1 f1=>⟨(),(),(),c,o,ys,rfl,g2.sm (sJ2.trans s3),fun p2 J2 s4 h2 f2=>⟨c,p1,p2,_,(),rfl,h1.sm s4,h2,by rw [ea1,c2,gF];have:=ltk (i+1);have:=ldr i;trivial,fun p3 J3 s5 h3 f3=>r2 _ _ (KK _ _ t2 ((((sJ2.trans s3).trans s4).trans s5)).toE ?_ (B2.same (((sJ2.trans s3).trans s4).trans s5)) (by trivial) (by trivial))⟩⟩⟩
   rw [ea1,c2,gF] at h3
   have S5:=((sJ2.trans s3).trans s4).trans s5
   exact (AR h3 (ne ((sJ2.trans s3).trans s4) f3) (((ds2.take (i+1)).sm S5).append ((ds2.drop i).sm S5))).up (by trivial) (by trivial)
  clear n2 r2
  refine gQ fun D2 n2 r2=>lW (fun J=>aa H2 J∧wy=2) (fun J=>aa H2 J) (fun Q' y1 y0=>⟨(),rfl,(),by
   by_cases q:wy=2
   ·rw [xH,decide_eq_true q];exact y1 _ ⟨sJ2,q⟩
   ·rw [xH,decide_eq_false q];exact y0 _ sJ2⟩) (fun J hJ=>?_) (fun J sJ2=>n2 _ _ ?_)
  ·obtain ⟨sJ2,rfl⟩:=hJ
   refine ⟨(),(),(),c,o,ys,rfl,g2.sm sJ2,fun p1 J1 s3 h1 f1=>⟨(),(),(),(),_,(),rfl,(),c,o,ys,rfl,g2.sm (sJ2.trans s3),fun p2 J2 s4 h2 f2=>⟨(),(),?_⟩⟩⟩
   refine ⟨rfl,.inr ⟨c,p2,(),h2,fun p3 J3 s5 h3 f3=>⟨c,p1,p3,_,(),rfl,h1.sm (s4.trans s5),h3,?_,fun p4 J4 s6 h4 f4=>?_⟩⟩⟩
   ·rw [c1,ea2,uO i (by trivial),List.length_reverse,List.length_take,List.length_take,List.length_drop]
    trivial
   have l34:(eX ys none (some (i:Int))).length≤ys.length:=by rw [c1];exact ltk i
   have l35:(eX ys (some (i:Int)) (some ((i:Int)+2))).reverse.length≤2:=by rw [ea2,uO i (by trivial),List.length_reverse,List.length_take];trivial
   refine ⟨(),(),_,(),rfl,(),c,o,ys,rfl,g2.sm ((((sJ2.trans s3).trans s4).trans s5).trans s6),fun p5 J5 s7 h5 f5=>⟨c,p4,p5,_,(),rfl,h4.sm s7,h5,by rw [List.length_append,ea2,gF];have:=ldr (i+2);rw [ea2] at l35;trivial,fun p6 J6 s8 h6 f6=>?_⟩⟩
   have S7:=((((sJ2.trans s3).trans s4).trans s5).trans s6).trans s7
   have S8:=S7.trans s8
   refine r2 _ _ (KK _ _ t2 S8.toE ?_ (B2.same S8) (by trivial) (by trivial))
   rw [c1,ea2,uO i (by trivial),gF] at h6
   have dd:bZ (z+1) E' H2 (ys.drop i) (m'+n2') l:=by rw [List.drop_eq_getElem_cons hi];exact bZ.cons de dr
   have d2:bZ (z+1) E' H2 (ys.drop (i+2)) (m'+n2') l:=by
    have:=dd.drop 2
    rw [List.drop_drop] at this
    exact this
   exact (AR h6 (ne S7 f6) (((dt.sm S8).append ((dd.take 2).reverse.sm S8)).append (d2.sm S8))).up (by trivial) (by trivial)
  clear n2 r2
  refine gQ fun D2 n2 r2=>lW (fun J=>aa H2 J∧wy=3) (fun J=>aa H2 J) (fun Q' y1 y0=>⟨(),rfl,(),by
   by_cases q:wy=3
   ·rw [xH,decide_eq_true q];exact y1 _ ⟨sJ2,q⟩
   ·rw [xH,decide_eq_false q];exact y0 _ sJ2⟩) (fun J hJ=>?_) (fun J sJ2=>n2 _ _ ?_)
  ·obtain ⟨sJ2,rfl⟩:=hJ
   refine ⟨(),_,_,_,(),(hx2.mono sJ2.toE).ty,jE d,(),?_⟩
   rw [htp]
   have fin:∀p J3,aa J J3→Dh (z+1) E' J3 (.ref p) (m+1) (l+1)→D2.rt (.ref p) J3:=fun p J3 s3 hd=>r2 _ _ (KK _ _ t2 (sJ2.trans s3).toE (hd.up (by trivial) (by trivial)) (B2.same (sJ2.trans s3)) (by trivial) (by trivial))
   cases c with
   | false=>exact av ⟨_,rfl,o,ys,rfl,.inr (ad.of (g2.sm sJ2)),fun q J3 n3=>fin q J3 n3.sm (Dh.lst n3.at' ((al2.sm sJ2).ne n3.fr) (ds2.sm (sJ2.trans n3.sm)))⟩
   | true=>exact aO ⟨_,rfl,o,ys,rfl,ah.of (g2.sm sJ2),fun q J3 n3=>fin q J3 n3.sm (Dh.tup n3.at' (ds2.sm (sJ2.trans n3.sm)))⟩
  clear n2 r2
  have esp:=hsp hn1
  subst esp
  have ix:∀(J':Hp) (Qk:VK),aa H2 J'→Qk ys[i] J'→Ij K (.ref o) (.int (i:Int)) J' Qk:=fun J' Qk s q=>by
   have g:=g2.sm s
   cases c with
   | true=>exact .inl ⟨o,_,_,_,rfl,rfl,ah.of g,eN ei,q⟩
   | false=>exact .inr (.inl ⟨o,_,_,_,rfl,rfl,ad.of g,eN ei,q⟩)
  refine bF fun D3 n3=>⟨(),(),(),ix J _ sJ2 ⟨(),_,(),rfl,b,ys[i],t2,E',z,m',l,by show [V.ref b,ys[i],V.int ((n:Int) - 1)]=_;rw [show (n:Int) - 1=((n - 1:Nat):Int) by trivial],B2.same sJ2,by trivial,by trivial,hEb,al2.sm sJ2,dez.sm sJ2,hz2,hz,by trivial,by trivial,fun mv t3 J3 s3 dm B3 h3a h3b=>n3 _ _ ?_⟩⟩
  have al3:=(al2.sm sJ2).sE s3 B3
  have s3w:=s3.weak hEb
  have s23:af E' H2 J3:=(sJ2.toE (E:=E')).trans s3w
  have g3:Ob c J3 o ys:=ob _ (s02.trans s23)
  have ne3:∀{J:Hp}{p:Addr},aa J3 J→(c=true→J p=none)→c=true→¬E' p:=fun sJ f e=>(al3.sm sJ).ne (f e)
  have fin:∀p J4,aa J3 J4→Dh (z+1) E' J4 (.ref p) (2*N+12) (k+2)→Q (.ref p) J4:=fun p J4 s4 hd=>KK _ _ t3 ((sJ2.toE.trans s3).trans s4.toE) hd (B3.same s4) h3a (by trivial)
  refine ⟨(),(),(),c,o,ys,rfl,g3,fun p1 J4 s4 h1 f1=>⟨(),_,_,_,(),(hx2.mono (s23.trans s4.toE)).ty,kX d,(),?_⟩⟩
  rw [hls]
  refine Li (fun y H'=>∃p,y=.ref p∧aa J4 H'∧Ob c H' p [mv]) ?rest ?h1 ?h2
  case h1=>
   intro ec rest
   subst ec
   exact ⟨(),(by show 1≤10000;decide),fun p J5 n5=>rest _ _ ⟨p,rfl,n5.sm,n5.at'⟩⟩
  case h2=>
   intro ec rest
   subst ec
   exact ⟨(),(by show 1≤10000;decide),fun p J5 n5=>rest _ _ ⟨p,rfl,n5.sm,n5.at'⟩⟩
  case rest=>
  rintro _ J5 ⟨p2,rfl,s5,h2⟩
  rw [c1] at h1
  refine ⟨c,p1,p2,ys.take i,(),rfl,h1.sm s5,h2,by have:=ltk i;show _+1≤10000;trivial,fun p3 J6 s6 h3 f3=>⟨(),(),_,(),rfl,(),c,o,ys,rfl,g3.sm ((s4.trans s5).trans s6),fun p4 J7 s7 h4 f4=>⟨c,p3,p4,_,(),rfl,h3.sm s7,h4,?_,fun p5 J8 s8 h5 f5=>fin p5 J8 ((((s4.trans s5).trans s6).trans s7).trans s8) ?_⟩⟩⟩
  ·rw [ea1,gF,List.length_append]
   have:=ltk i
   have:=ldr (i+1)
   show _+1+_≤10000
   trivial
  ·rw [ea1,gF] at h5
   have S7:=((s4.trans s5).trans s6).trans s7
   have S8:=S7.trans s8
   have dm8:=dm.sm S8
   exact (AR h5 (ne3 S7 f5) ((((dt.sE (s23.trans S8.toE)).up (Nat.le_refl _) (show l≤l+2 by trivial)).append (bZ.one dm8)).append ((dr.sE (s23.trans S8.toE)).up (Nat.le_refl _) (show l≤l+2 by trivial)))).up (by trivial) (by trivial)
end
end K54
namespace K54
open PySem L2
set_option maxHeartbeats 16000000
theorem Fi {n j:Nat} (h:j<n):sf n (j:Int)=some j:=by
 unfold sf
 simp [h]
def cq (H:Hp) (as:List Addr) (rs:List (List KM.Fra)):Prop:=as.length=rs.length∧∀(i:Nat) a r,as[i]?=some a→rs[i]?=some r→∃xs,H a=some (.lst xs)∧au ED H xs (r.map bJ)
theorem cq.sE {E:Addr→Prop}{H H':Hp}{as:List Addr}{rs:List (List KM.Fra)} (h:cq H as rs) (s:af E H H') (n:∀a∈as,¬E a):cq H' as rs:=⟨h.1,fun i a r e1 e2=>by
 obtain ⟨xs,q1,q2⟩:=h.2 i a r e1 e2
 exact ⟨xs,s.old _ _ (n a (List.mem_of_getElem? e1)) q1,q2.mono ⟨fun _ _ n _=>absurd trivial n,s.tup⟩⟩⟩
theorem cq.sm {H H':Hp}{as:List Addr}{rs:List (List KM.Fra)} (h:cq H as rs) (s:aa H H'):cq H' as rs:=h.sE (E:=fun _=>False) s.toE fun _ _ z=>z
theorem cq.app {H:Hp}{as bs:List Addr}{rs ks:List (List KM.Fra)} (h:cq H as rs) (g:cq H bs ks):cq H (as++bs) (rs++ks):=⟨by rw [List.length_append,List.length_append,h.1,g.1],fun i a r e1 e2=>by
 by_cases c:i<as.length
 ·rw [List.getElem?_append_left c] at e1
  rw [List.getElem?_append_left (by have:=h.1;trivial)] at e2
  exact h.2 i a r e1 e2
 ·rw [List.getElem?_append_right (by trivial)] at e1
  rw [List.getElem?_append_right (by have:=h.1;trivial),←h.1] at e2
  exact g.2 _ a r e1 e2⟩
theorem cq.set {H H':Hp}{as:List Addr}{rs:List (List KM.Fra)} (h:cq H as rs) (nd:as.Nodup) {g j:Nat}{a o:Addr}{r:List KM.Fra}{xs:List V}{q:KM.Fra} (ea:as[g]?=some a) (er:rs[g]?=some r) (hx:H a=some (.lst xs)) (ix:au ED H xs (r.map bJ)) (ho:H o=some (fr q)) (c:Ch H a (xs.set j (.ref o)) H'):cq H' as (rs.set g (r.set j q)):=by
 have tp:∀y us,H y=some (.tup us)→H' y=some (.tup us):=fun y us e=>c.tup e hx
 have sE:af (fun y=>y=a) H H':=⟨fun y o n e=>c.ol y o n e,tp⟩
 have sD:af ED H H':=⟨fun _ _ n _=>absurd trivial n,tp⟩
 refine ⟨by rw [List.length_set];exact h.1,fun i b r' e1 e2=>?_⟩
 by_cases e:i=g
 ·subst e
  rw [ea] at e1
  cases e1
  have hl:i<rs.length:=(List.getElem?_eq_some_iff.mp er).1
  rw [List.getElem?_set_self hl] at e2
  cases e2
  refine ⟨_,c.at',?_⟩
  rw [List.map_set]
  exact au.set (km (tp _ _ ho)) j (ix.mono sD)
 ·rw [List.getElem?_set_ne (Ne.symm e)] at e2
  obtain ⟨ys,q1,q2⟩:=h.2 i b r' e1 e2
  have ne:b≠a:=fun z=>by
   obtain ⟨h1,f1⟩:=List.getElem?_eq_some_iff.mp e1
   obtain ⟨h2,f2⟩:=List.getElem?_eq_some_iff.mp ea
   exact e (wU nd h1 h2 (by rw [f1,f2,z]))
  exact ⟨ys,c.ol _ _ ne q1,q2.mono sD⟩
theorem cq.data {E:Addr→Prop}{H:Hp}{as:List Addr}{rs:List (List KM.Fra)} (h:cq H as rs) (n:∀a∈as,¬E a):au E H (as.map V.ref) (rs.map aX):=by
 obtain ⟨l,f⟩:=h
 induction as generalizing rs with
 | nil=>cases rs with
  | nil=>exact .nil
  | cons _ _=>cases l
 | cons a as ih=>cases rs with
  | nil=>cases l
  | cons r rs=>
   obtain ⟨xs,q1,q2⟩:=f 0 a r rfl rfl
   exact .cons (.lst q1 (n a (List.mem_cons_self ..)) (q2.narrow fun _ _=>trivial)) (ih (fun b hb=>n b (List.mem_cons_of_mem _ hb)) (by simpa using l) fun i b r' e1 e2=>f (i+1) b r' (by simpa using e1) (by simpa using e2))
theorem xn {D:Addr}{H1:Hp}{σc:St}{g:TG}{te:TE}{Q:VK}{J:It}{rs:List (List KM.Fra)} (hz:rs.length≤10000) (hD:H1 D=none) (hgo:∀i H',i<rs.length→aa H1 H'→J.go i H') (hst:∀H',aa H1 H'→J.stop rs.length H')
 (hs:∀i x H' H'' (R:VK) r,rs[i]?=some r→aa H1 H'→J.yld i H' x H''→(∀a xs H4,aa H' H4→H' a=none→H4 a=some (.lst xs)→au ED H4 xs (r.map bJ)→R (.ref a) H4)→g x σc H'' fun σ2 H2=>fD σc σ2∧te σ2 H2 R)
 (hd:∀as H',aa H1 H'→H' D=some (.lst (as.map V.ref))→as.Nodup→(∀a∈as,H1 a=none∧a≠D)→cq H' as rs→Q (.ref D) H'):gl J σc g tT te D H1 Q:=by
 refine gH (n:=rs.length) (fun i H' zs=>∃as:List Addr,zs=as.map V.ref∧H' D=some (.lst zs)∧aa H1 H'∧as.Nodup∧(∀a∈as,H1 a=none∧a≠D)∧cq H' as (rs.take i)) (fA hz) ⟨[],rfl,aE,di hD (aa.refl _),List.nodup_nil,(fun _ h=>nomatch h),by rw [List.take_zero];exact ⟨rfl,fun i a r e=>by simp at e⟩⟩ ?_ ?_ ?_ ?_ ?_
 ·rintro i H' zs ⟨as,rfl,q,_,_,_,ra⟩
  exact ⟨q,by rw [List.length_map,ra.1,List.length_take];trivial⟩
 ·rintro i H' zs hi ⟨as,_,_,sm,_⟩
  exact hgo i H' hi sm
 ·rintro H' zs ⟨as,_,_,sm,_⟩
  exact hst H' sm
 ·rintro i H' zs x H'' hi ⟨as,rfl,q,sm,nd,fr_,ra⟩ y
  refine hs i x H' H'' _ _ (List.getElem?_eq_getElem hi) sm y fun a xs H4 s4 fa ha ix=>?_
  have q4:=s4 _ _ q
  have naD:a≠D:=fun e=>by rw [e,q] at fa;cases fa
  have nas:a∉as:=fun z=>by
   obtain ⟨j,e⟩:=List.getElem?_of_mem z
   obtain ⟨ys,h,_⟩:=ra.2 j a _ e (List.getElem?_eq_getElem (show j<(rs.take i).length by rw [←ra.1];exact (List.getElem?_eq_some_iff.mp e).1))
   rw [fa] at h
   cases h
  have f1:H1 a=none:=by
   cases e:H1 a with
   | none=>rfl
   | some o=>rw [sm _ _ e] at fa;cases fa
  have tp:∀y us,H4 y=some (.tup us)→aQ H4 D (.lst ((as++[a]).map V.ref)) y=some (.tup us):=fun y us e=>by
   rw [aG (gn e q4 (by intro z;cases z))];exact e
  have sE:af (fun z=>z=D) H4 (aQ H4 D (.lst ((as++[a]).map V.ref))):=⟨fun y o n e=>by rw [aG n];exact e,tp⟩
  have et:rs.take (i+1)=rs.take i++[rs[i]]:=by rw [List.take_succ,List.getElem?_eq_getElem hi];rfl
  have em:as.map V.ref++[V.ref a]=(as++[a]).map V.ref:=by rw [List.map_append];rfl
  refine ⟨q4,as++[a],em,by rw [em];exact aE,by rw [em];exact di hD (sm.trans s4),?_,?_,?_⟩
  ·exact List.nodup_append.mpr ⟨nd,List.nodup_cons.mpr ⟨(fun h=>nomatch h),List.nodup_nil⟩,fun u hu v hv e=>by rw [List.mem_singleton.mp hv] at e;exact nas (e▸hu)⟩
  ·intro u hu
   rcases List.mem_append.mp hu with h | h
   ·exact fr_ u h
   ·rw [List.mem_singleton.mp h];exact ⟨f1,naD⟩
  ·rw [et,em]
   refine cq.app ((ra.sm s4).sE sE fun u hu=>(fr_ u hu).2) ⟨rfl,fun j u r e1 e2=>?_⟩
   cases j with
   | zero=>
    cases e1
    cases e2
    exact ⟨xs,sE.old _ _ naD ha,ix.mono ⟨fun _ _ n _=>absurd trivial n,tp⟩⟩
   | succ j=>simp at e1
 ·rintro H' zs ⟨as,rfl,q,sm,nd,fr_,ra⟩
  rw [List.take_length] at ra
  exact hd as H' sm q nd fr_ ra
theorem Hm {rs:List (List KM.Fra)}{n:Nat} (l:rs.length≤n) (h:∀r∈rs,r.length≤8∧∀p∈r,Fr 40 p):Wv 60 (.list (rs.map aX)) (25*n+1) 3:=by
 have row:∀r∈rs,Wv 60 (aX r) 25 2:=fun r hr=>by
  obtain ⟨l8,f⟩:=h r hr
  have fr1:∀{p:KM.Fra},Fr 40 p→Wv 60 (bJ p) 3 1:=fun f=>.tuple (m:=2) (l:=0) (.cons (m:=1) (l:=1) (.int (f.sn.mono (by decide)) (Nat.le_refl 1)) (.cons (m:=1) (l:=0) (.int (f.sd.mono (by decide)) (Nat.le_refl 1)) .nil (by decide)) (by decide)) (by decide) (by decide)
  have wl:∀{ps:List KM.Fra},(∀p∈ps,Fr 40 p)→oV 60 (ps.map bJ) (3*ps.length) 1:=fun {ps}=>by
   induction ps with
   | nil=>intro _;exact .nil
   | cons p ps ih=>intro g;exact .cons (fr1 (g p (List.mem_cons_self ..))) (ih fun q hq=>g q (List.mem_cons_of_mem _ hq)) (by rw [List.length_cons];trivial)
  exact .list (m:=3*r.length) (l:=1) (wl f) (by trivial) (by decide)
 have wl:∀{ps:List (List KM.Fra)},(∀p∈ps,Wv 60 (aX p) 25 2)→oV 60 (ps.map aX) (25*ps.length) 2:=fun {ps}=>by
  induction ps with
  | nil=>intro _;exact .nil
  | cons p ps ih=>intro g;exact .cons (g p (List.mem_cons_self ..)) (ih fun q hq=>g q (List.mem_cons_of_mem _ hq)) (by rw [List.length_cons];trivial)
 exact .list (m:=25*rs.length) (l:=2) (wl row) (by trivial) (by decide)
theorem Cb {E:Addr→Prop}{H H':Hp} (s:af E H H'):af ED H H':=⟨fun _ _ n _=>absurd trivial n,s.tup⟩
theorem uU {E:Addr→Prop}{H:Hp}:∀{xs:List V}{ps:List KM.Fra},au E H xs (ps.map bJ)→au ED H xs (ps.map bJ)
 | _,[],h=>by cases h;exact .nil
 | _,p :: ps,h=>by
  cases h with
  | cons h1 r=>
   obtain ⟨o,rfl,ho⟩:=iU h1
   exact .cons (km ho) (uU r)
section
variable {P:Program}{w:World}{K:PySem.W.Frag}{mg:Str→Option Value}{base:Heap}
inductive JK (vs:List V) (H:Hp) (Q:VK):Prop
 | mk (b:Addr) (dv bv:V) (t:Int) (d:aP) (bk:dJ) (E:Addr→Prop) (h0:vs=[.ref b,dv,bv]) (h1:Bx H b t) (h2:0≤t) (h3:t≤800000) (h4:aK E H bv (ki bk)) (h5:E b) (h6:jy d) (h7:GB 21 6 d bk) (h8:∀v x t' H',af (Eb b) H H'→aK (um H) H' v x→Wv 60 x 400 4→Bx H' b t'→t≤t'→t'≤t+10→Q v H')
def KT:Sp:=fun vs H Q _=>JK  vs H Q
theorem Cv (T:Txt K mg):aV P w K mg base CX0 3 T.l_little_more_.f T.l_little_more_.d ["_law_box_here", "_law_day_here", "_law_book"] KT:=by
 have G_l_take:=#[(gD)]
 have G_l_plus:=#[(Ak)]
 refine T.l_little_more_.F.ok dP (fun vs H Q E h=>?_) (fun cdv A outer s H vs Q E hr h=>?_)
 ·obtain ⟨b,dv,bv,t,d,bk,E,rfl,_⟩:=h
  rfl
 ·obtain ⟨b,dv,bv,t,d,bk,E1,rfl,B,t0,t8,hb,hEb,gd,gb,k⟩:=h
  refine ⟨_,#[#[gZ 2 (4) (5) _ _ _ _ _ _ _ _ _ _ _ rfl dP.nd rfl rfl (by decide) i9 fX #[[#[G_l_take,cO,T.l_take_,#[[#[0,cf],#[()]]]],#[bq 7 (["_law_row"]) (1) ([]) _ _ _ _ rfl (by kernel_rfl) #[tH 4 #[#[2,fR][#[()]]]] (fun _ _ _ _ _ _=>#[0,(),()]) (fun _ _ _ _ _ _=>@bf _) (fun _ _ _ _ _ _=>#[bA 9 (@eY _ (K) (by rfl)) (by show _=_;kernel_rfl) T.b_list (@b4) #[[#[0,()]]] (by decide) (by decide) (by rfl) (by rfl)]) (by intro _;rfl)]]] (by kernel_rfl) (by rfl)] :: #[#[gZ 2 (6) (7) _ _ _ _ _ _ _ _ _ _ _ rfl dP.nd rfl rfl (by decide) fQ fC #[[#[bq 7 (["_law_row"]) (1) ([]) _ _ _ _ rfl (by kernel_rfl) #[tH 4 #[#[2,fR][#[()]]]] (fun _ _ _ _ _ _=>#[0,(),()]) (fun _ _ _ _ _ _=>@bf _) (fun _ _ _ _ _ _=>#[bA 9 (@eY _ (K) (by rfl)) (by show _=_;kernel_rfl) T.b_list (@b4) #[[#[0,()]]] (by decide) (by decide) (by rfl) (by rfl)]) (by intro _;rfl)],#[bA 9 (@eY _ (K) (by rfl)) qL T.b_list (@b4) #[[#[#[2,fR][#[()]]]]] (by decide) (by decide) (by rfl) (by rfl)]]] (by kernel_rfl) (by rfl)] :: #[#[8,dP.nd,cM,#[#[bG 4 #[[#[5,fX],#[6,fQ],#[bG 4 #[[#[7,fC]]]]]]][#[4,i9]]!]] :: #[#[bn 8 #[PW.pt 3 #[lE 7 #[aH 8 (@yR _ hr.units) #[8,cM] #[bG 4 (@bE _)] #[(),()]] #[jF 4 #[aH 8 (@yR _ hr.units) #[#[8,cM][#[()]]!] #[bG 4 (@bE _)] #[(),()]]]]] #[#[3,dP.nd,eO,#[#[8,cM][#[G_l_take,cO,T.l_take_,#[[#[0,cf],#[(),(),(@d9 _ (K) (by rfl)),kh,T.b_len,(@bh),#[[#[8,cM]]]]]]]]!]] :: #[#[9,dP.nd,gK,#[G_l_take,cO,T.l_take_,#[[#[0,cf],#[(),(),(@d9 _ (K) (by rfl)),kh,T.b_len,(@bh),#[[#[3,eO]]]]]]]] :: #[ac 3 #[dH 6 #[G_l_plus,pE,T.l_plus_,#[[#[#[3,eO][#[9,gK]]!],#[aD 5 #[[#[()],#[aj 8 (@bi _) #[()] #[G_l_take,cO,T.l_take_,#[[#[0,cf],#[()]]]]]]]],#[aj 8 (@lV _) #[()] #[aj 8 (@fh _) #[()] #[bA 9 (@iD _) rh T.b_int (@dg) #[[#[bH 8 (@b8 _) #[G_l_take,cO,T.l_take_,#[[#[0,cf],#[()]]]] #[()] #[(),()]]]] (by decide) (by decide) (by rfl) (by rfl)]]]]]] #[je 7 #[3,eO] #[9,gK] (@xm _) (by intro _;rfl)] (by rfl) (by rfl) (by rfl)]]]] (@aM _)] :: #[ac 3 #[ax 4 #[aD 5 #[[#[5,fX],#[6,fQ],#[7,fC]]]]]]]]]],?_⟩
  refine bF fun D0 n0=>⟨(),b,3,t,rfl,B,by decide,by decide,t0,by trivial,fun w0 t1 H1 w00 w01 h1a h1b s1 B1=>?_⟩
  have hb1:=hb.mono (s1.weak hEb)
  obtain ⟨ba,bs,bk',bz,us,ks,zs,rfl,hba,hbs,ius,hbk,iks,hbz,izs⟩:=vo hb1
  have lus:=ius.length
  have lks:=iks.length
  have lzs:=izs.length
  rw [List.length_map] at lus lks lzs
  have t8':=gd.t8
  have s5':=gd.s5
  have w5':=gd.w5
  have h8:=gd.l8
  have gs:=gb.s
  have gk:=gb.k
  have gz:=gb.z
  refine ⟨(),ba,_,_,(),rfl,ad.of hba,rfl,bs,rfl,⟨_,ah.of hbs⟩,fun DS hDS=>xn (rs:=bk.se) (by trivial) hDS (fun i H' hi sm=>⟨us,us[i]'(by trivial),ah.of (sm _ _ hbs),by rw [List.getElem?_eq_getElem (by trivial)]⟩) (fun H' sm=>⟨us,ah.of (sm _ _ hbs),by trivial⟩) ?_ ?_⟩
  ·rintro i u H3 H4 R r er sm ⟨rfl,eu⟩ kk
   have eu:=eu _ (ah.of (K:=K) (sm _ _ hbs))
   have du:aK E1 H4 u (aX r):=lQ (ius.mono sm.toE) eu er
   cases du with
   | @lst o xs _ ho _ ix=>
   exact ⟨cR,(),o,xs,rfl,.inl (ah.of ho),fun l H5 n5=>kk l xs H5 n5.sm n5.fr n5.at' (uU (ix.mono n5.sm.toE))⟩
  intro as H2 s2 hS ndA frA rA
  refine ⟨_,(),n0 _ _ ?_⟩
  refine bF fun D1 n1=>⟨(),ba,_,_,(),rfl,ad.of (s2 _ _ hba),rfl,bk',rfl,⟨_,ah.of (s2 _ _ hbk)⟩,fun DK hDK=>xn (rs:=bk.ke) (by trivial) hDK (fun i H' hi sm=>⟨ks,ks[i]'(by trivial),ah.of (sm _ _ (s2 _ _ hbk)),by rw [List.getElem?_eq_getElem (by trivial)]⟩) (fun H' sm=>⟨ks,ah.of (sm _ _ (s2 _ _ hbk)),by trivial⟩) ?_ ?_⟩
  ·rintro i u H3 H4 R r er sm ⟨rfl,eu⟩ kk
   have eu:=eu _ (ah.of (K:=K) (sm _ _ (s2 _ _ hbk)))
   have du:aK E1 H4 u (aX r):=lQ (iks.mono (s2.trans sm).toE) eu er
   cases du with
   | @lst o xs _ ho _ ix=>
   exact ⟨cR,(),o,xs,rfl,.inl (ah.of ho),fun l H5 n5=>kk l xs H5 n5.sm n5.fr n5.at' (uU (ix.mono n5.sm.toE))⟩
  intro cs H3 s3 hK ndC frC rC
  have s23:=s2.trans s3
  refine ⟨(),ba,_,_,(),rfl,ad.of (s23 _ _ hba),rfl,bz,zs,rfl,.inl (ah.of (s23 _ _ hbz)),fun Z H4 n4=>⟨_,(),n1 _ _ ?_⟩⟩
  refine bF fun D2 n2=>⟨(),(),(),(by show 1≤10000;decide),fun W H5 n5=>⟨(by show 3≤10000;decide),fun V3 H6 n6=>?_⟩⟩
  have s36:aa H3 H6:=(n4.sm.trans n5.sm).trans n6.sm
  have s16:aa H1 H6:=s23.trans s36
  have B6:=B1.same s16
  have hS6:H6 DS=some (.lst (as.map V.ref)):=(s3.trans s36) _ _ hS
  have hK6:H6 DK=some (.lst (cs.map V.ref)):=s36 _ _ hK
  have hZ6:H6 Z=some (.lst zs):=(n5.sm.trans n6.sm) _ _ n4.at'
  have hW6:H6 W=some (.lst [.ref Z]):=n6.sm _ _ n5.at'
  have aA:∀a∈as,∃o,H2 a=some o:=fun a ha=>by
   obtain ⟨i,e⟩:=List.getElem?_of_mem ha
   obtain ⟨xs,q,_⟩:=rA.2 i a _ e (List.getElem?_eq_getElem (show i<bk.se.length by rw [←rA.1];exact (List.getElem?_eq_some_iff.mp e).1))
   exact ⟨_,q⟩
  have aC:∀a∈cs,∃o,H3 a=some o:=fun a ha=>by
   obtain ⟨i,e⟩:=List.getElem?_of_mem ha
   obtain ⟨xs,q,_⟩:=rC.2 i a _ e (List.getElem?_eq_getElem (show i<bk.ke.length by rw [←rC.1];exact (List.getElem?_eq_some_iff.mp e).1))
   exact ⟨_,q⟩
  have dAC:∀a∈as,a∉cs:=fun a ha hc=>by
   obtain ⟨o,e⟩:=aA a ha
   rw [(frC a hc).1] at e
   cases e
  have ndAll:(as++cs++[Z]).Nodup:=by
   refine List.nodup_append.mpr ⟨List.nodup_append.mpr ⟨ndA,ndC,fun a ha c hc e=>dAC a ha (e▸hc)⟩,List.nodup_cons.mpr ⟨(fun h=>nomatch h),List.nodup_nil⟩,fun a ha z hz e=>?_⟩
   rw [List.mem_singleton.mp hz] at e
   subst e
   rcases List.mem_append.mp ha with h | h
   ·obtain ⟨o,e⟩:=aA a h
    have:=s3 _ _ e
    rw [n4.fr] at this
    cases this
   ·obtain ⟨o,e⟩:=aC a h
    rw [n4.fr] at e
    cases e
  have sZ:cq H6 (as++cs++[Z]) (bk.se++bk.ke++[bk.dr]):=by
   refine cq.app (cq.app (rA.sm (s3.trans s36)) (rC.sm s36)) ⟨rfl,fun i a r e1 e2=>?_⟩
   cases i with
   | zero=>cases e1;cases e2;exact ⟨zs,hZ6,uU ((izs.mono s16.toE))⟩
   | succ i=>simp at e1
  have newA:∀a∈as++cs++[Z],H1 a=none∧a≠DS∧a≠DK:=fun a ha=>by
   have up:∀{J:Hp},aa H1 J→J a=none→H1 a=none:=fun s e=>by
    cases q:H1 a with
    | none=>rfl
    | some o=>rw [s _ _ q] at e;cases e
   rcases List.mem_append.mp ha with h | h
   ·rcases List.mem_append.mp h with h | h
    ·refine ⟨(frA a h).1,(frA a h).2,fun e=>?_⟩
     obtain ⟨o,q⟩:=aA a h
     rw [e,hDK] at q
     cases q
    ·refine ⟨up s2 (frC a h).1,fun e=>?_,(frC a h).2⟩
     have:=(frC a h).1
     rw [e,hS] at this
     cases this
   ·have e:=List.mem_singleton.mp h
    subst e
    refine ⟨up s23 n4.fr,fun e=>?_,fun e=>?_⟩
    ·have:=s3 _ _ hS
     rw [←e,n4.fr] at this
     cases this
    ·rw [←e,n4.fr] at hK
     cases hK
  obtain ⟨L,sub,off,eL,hL,hsub,hpos⟩:fP fun (L:Addr) (sub:List Addr) (off:Nat)=>ko ([V.ref DS,V.ref DK,V.ref W]:List V) w0=some (.ref L)∧H6 L=some (.lst (sub.map V.ref))∧(∀(i:Nat) a,sub[i]?=some a→(as++cs++[Z])[off+i]?=some a)∧∀(i:Nat) r,i<sub.length→(bk.se++bk.ke++[bk.dr])[off+i]?=some r→(∀r0,(bk.se++bk.ke++[bk.dr])[off]?=some r0→r0≠[])→r≠[]:=by
   have lA:=rA.1
   have lC:=rC.1
   rcases (show w0=0∨w0=1∨w0=2 by trivial) with rfl | rfl | rfl
   ·exact ⟨DS,as,0,rfl,hS6,fun i a e=>by
     have hi:=(List.getElem?_eq_some_iff.mp e).1
     rw [Nat.zero_add,List.append_assoc,List.getElem?_append_left hi];exact e,fun i r hi e _=>by
     rw [Nat.zero_add,List.append_assoc,List.getElem?_append_left (by trivial)] at e
     have hl:i<d.ts.length:=by trivial
     have:=(gb.sr i _ r (List.getElem?_eq_getElem hl) e).1
     have:=gd.l1
     rintro rfl
     simp at *
     trivial⟩
   ·exact ⟨DK,cs,as.length,rfl,hK6,fun i a e=>by
     have hi:=(List.getElem?_eq_some_iff.mp e).1
     rw [List.append_assoc,List.getElem?_append_right (by trivial),List.getElem?_append_left (by trivial),Nat.add_sub_cancel_left];exact e,fun i r hi e _=>by
     rw [lA,List.append_assoc,List.getElem?_append_right (by trivial),List.getElem?_append_left (by trivial),Nat.add_sub_cancel_left] at e
     have hl:i<d.ss.length:=by trivial
     have:=(gb.kr i _ r (List.getElem?_eq_getElem hl) e).1
     have:=gd.l1
     rintro rfl
     simp at *
     trivial⟩
   ·exact ⟨W,[Z],(as++cs).length,rfl,hW6,fun i a e=>by
     rw [List.getElem?_append_right (by trivial),Nat.add_sub_cancel_left];exact e,fun i r hi e h0=>by
     obtain rfl:i=0:=by
      have:i<1:=hi
      trivial
     exact h0 r e⟩
  refine ⟨(),V3,_,_,(),rfl,ah.of n6.at',eL,n2 _ _ ?_⟩
  have sE6:af (Eb b) H H6:=s1.trans s16.toE
  have nLb:L≠b:=fun e=>by
   obtain ⟨c1,c2,q,_⟩:=B6
   rw [←e,hL] at q
   injection q with q
   injection q with q
   cases sub with
   | nil=>cases q
   | cons z zs=>cases q
  have len8:∀r∈bk.se++bk.ke++[bk.dr],r.length≤8∧∀p∈r,Fr 21 p:=fun r hr=>by
   rcases List.mem_append.mp hr with h | h
   ·rcases List.mem_append.mp h with h | h
    ·obtain ⟨i,hi⟩:=List.mem_iff_getElem?.mp h
     have hl:i<d.ts.length:=by rw [←gb.s];exact (List.getElem?_eq_some_iff.mp hi).1
     obtain ⟨l,f⟩:=gb.sr i _ r (List.getElem?_eq_getElem hl) hi
     exact ⟨by trivial,fun p hp=>by obtain ⟨j,hj⟩:=List.mem_iff_getElem?.mp hp;exact (f j p hj).1⟩
    ·obtain ⟨i,hi⟩:=List.mem_iff_getElem?.mp h
     have hl:i<d.ss.length:=by rw [←gb.k];exact (List.getElem?_eq_some_iff.mp hi).1
     obtain ⟨l,f⟩:=gb.kr i _ r (List.getElem?_eq_getElem hl) hi
     exact ⟨by trivial,fun p hp=>by obtain ⟨j,hj⟩:=List.mem_iff_getElem?.mp hp;exact (f j p hj).1⟩
   ·rw [List.mem_singleton.mp h]
    exact ⟨by trivial,fun p hp=>by
     obtain ⟨i,hi⟩:=List.mem_iff_getElem?.mp hp
     have hl:i<d.ws.length:=by rw [←gb.z];exact (List.getElem?_eq_some_iff.mp hi).1
     exact (gb.zr i _ p (List.getElem?_eq_getElem hl) hi).1⟩
  refine Bn (fun σ J=>xF fun (rw':List (List KM.Fra)) (t':Int) (v3 v9:Option V)=>σ=[some (.ref b),some dv,some (.ref ba),v3,some (.int w0),some (.ref DS),some (.ref DK),some (.ref Z),some (.ref L),v9]∧cq J (as++cs++[Z]) rw'∧rw'.length=(bk.se++bk.ke++[bk.dr]).length∧(∀r∈rw',r.length≤8∧∀p∈r,Fr 40 p)∧J DS=some (.lst (as.map V.ref))∧J DK=some (.lst (cs.map V.ref))∧af (Eb b) H J∧Bx J b t'∧t1≤t'∧t'≤t1+4) ?_ fun nx=>?_
  case refine_2=>
   refine lW (fun J=>aa H6 J∧sub≠[]∧∀r0,(bk.se++bk.ke++[bk.dr])[off]?=some r0→r0≠[]) (fun J=>aa H6 J) (fun Q' y1 y0=>?_) (fun J hJ=>?_) (fun J sJ=>?_)
   ·refine ⟨(),(by show 0≤10000;decide),fun e1 J1 n1=>⟨L,e1,(),rfl,n1.sm _ _ hL,n1.at',(),?_⟩⟩
    cases hs:sub with
    | nil=>exact y0 _ n1.sm
    | cons a0 sub'=>
    have ea0:=hsub 0 a0 (by rw [hs];rfl)
    rw [Nat.add_zero] at ea0
    have lall:=sZ.1
    obtain ⟨r0,er0⟩:∃r0,(bk.se++bk.ke++[bk.dr])[off]?=some r0:=⟨_,List.getElem?_eq_getElem (by rw [←lall];exact (List.getElem?_eq_some_iff.mp ea0).1)⟩
    obtain ⟨xs0,hx0,ix0⟩:=sZ.2 off a0 r0 ea0 er0
    have lx0:=ix0.length
    rw [List.length_map] at lx0
    refine ⟨(),L,_,_,(),rfl,ah.of (n1.sm _ _ hL),by rw [hs];exact eN (xs:=(a0 :: sub').map V.ref) (j:=0) rfl,(by show 0≤10000;decide),fun e2 J2 n2'=>⟨a0,e2,(),rfl,(n1.sm.trans n2'.sm) _ _ hx0,n2'.at',(),?_⟩⟩
    cases hx:xs0 with
    | nil=>exact y0 _ (n1.sm.trans n2'.sm)
    | cons x0 xs'=>
     refine y1 _ ⟨n1.sm.trans n2'.sm,(by rw [hs];exact fun h=>nomatch h),fun r e=>?_⟩
     rw [er0] at e
     cases e
     rintro rfl
     rw [hx] at lx0
     simp at lx0
   ·obtain ⟨sJ,hne,h0⟩:=hJ
    have lsub:0<sub.length:=List.length_pos_iff.mpr hne
    have lall:=sZ.1
    have l14:(bk.se++bk.ke++[bk.dr]).length≤14:=by rw [List.length_append,List.length_append];show _+1≤14;trivial
    have lsub2:sub.length≤14:=by
     have e:=hsub (sub.length - 1) _ (List.getElem?_eq_getElem (by trivial))
     have:=(List.getElem?_eq_some_iff.mp e).1
     trivial
    refine bF fun D3 n3=>⟨(),(),(),L,(),.inl (ah.of (sJ _ _ hL)),b,((sub.map V.ref).length:Int),t1,rfl,B6.same sJ,by rw [List.length_map];trivial,Nat.lt_of_le_of_lt (Nat.log2_le_self _) (by rw [List.length_map];trivial),by trivial,by trivial,fun g_ t2 J1 g0 g1 h2a h2b s7 B7=>?_⟩
    rw [List.length_map] at g1
    obtain ⟨g,rfl⟩:∃g:Nat,g_=(g:Int):=⟨g_.toNat,by trivial⟩
    have hg:g<sub.length:=by trivial
    have eg:sub[g]?=some sub[g]:=List.getElem?_eq_getElem hg
    have egA:=hsub g _ eg
    obtain ⟨r,er⟩:∃r,(bk.se++bk.ke++[bk.dr])[off+g]?=some r:=⟨_,List.getElem?_eq_getElem (by rw [←lall];exact (List.getElem?_eq_some_iff.mp egA).1)⟩
    have hr0:r≠[]:=hpos g r hg er h0
    have mr:=List.mem_of_getElem? er
    obtain ⟨lr8,fr21⟩:=len8 r mr
    have lr0:0<r.length:=List.length_pos_iff.mpr hr0
    have s67:af (Eb b) H6 J1:=sJ.toE.trans s7
    have nab:∀a∈as++cs++[Z],a≠b:=fun a ha e=>B1.th (e▸(newA a ha).1)
    have rJ:=sZ.sE s67 fun a ha=>nab a ha
    obtain ⟨xs,hxs,ixs⟩:=rJ.2 _ _ _ egA er
    have lxs:=ixs.length
    rw [List.length_map] at lxs
    refine ⟨L,_,_,(),rfl,ah.of (s7.old _ _ nLb (sJ _ _ hL)),eN (by rw [List.getElem?_map,eg];rfl),n3 _ _ ?_⟩
    refine bF fun D4 n4=>⟨(),(),sub[g],(),.inl (ah.of hxs),b,(xs.length:Int),t2,rfl,B7,by trivial,Nat.lt_of_le_of_lt (Nat.log2_le_self _) (by trivial),by trivial,by trivial,fun j_ t3 J2 j0 j1 h3a h3b s8 B8=>n4 _ _ ?_⟩
    obtain ⟨j,rfl⟩:∃j:Nat,j_=(j:Int):=⟨j_.toNat,by trivial⟩
    have hj:j<xs.length:=by trivial
    have na:=nab _ (List.mem_of_getElem? egA)
    have hxs2:=s8.old _ _ na hxs
    have ixs2:=ixs.mono (Cb s8)
    have ex:xs[j]?=some xs[j]:=List.getElem?_eq_getElem hj
    obtain ⟨dd,edd,hdd⟩:=ixs2.get ex
    rw [List.getElem?_map] at edd
    obtain ⟨p,ep,rfl⟩:=Option.map_eq_some_iff.mp edd
    obtain ⟨op,eop,hop⟩:=iU hdd
    have fp:=fr21 p (List.mem_of_getElem? ep)
    refine ⟨(),(),sub[g],_,_,(),rfl,ah.of hxs2,eN ex,(),b,999,t3,rfl,B8,by decide,by decide,by trivial,by trivial,fun w3 t4 J3 w30 w31 h4a h4b s9 B9=>⟨_,(),rfl,(by show 2≤10000;decide),fun oq J4 m4=>⟨(),b,4,t4,rfl,B9.same m4.sm,by decide,by decide,by trivial,by trivial,fun w4 t5 J5 w40 w41 h5a h5b s10 B10=>⟨rfl,.inr ⟨(),?_⟩⟩⟩⟩⟩
    have fq:Fr 10 ((1,1+w3):KM.Fra):=⟨by show (1:Int).natAbs<2 ^ 10;decide,by show (1+w3).natAbs<2 ^ 10;trivial,by show (1:Int)≤1+w3;trivial,by show Int.gcd 1 (1+w3)=1;exact Int.one_gcd⟩
    have s25:af (Eb b) J2 J5:=(s9.trans m4.sm.toE).trans s10
    have hxs5:=s25.old _ _ na hxs2
    refine ⟨_,(),rfl,.inl ⟨by decide,by decide⟩,_,(),rfl,op,oq,p,(1,1+w3),21,10,(!decide (V.int w4=V.int 0)),?_,s25.tup _ _ hop,s10.tup _ _ m4.at',fp,fq,by decide,fun ov J6 m6=>⟨(),(),sub[g],xs,(j:Int),j,rfl,rfl,m6.sm _ _ hxs5,Fi hj,fun J7 c7=>nx _ _ ?_⟩⟩
    ·rw [eop]
     cases decide (V.int w4=V.int 0) <;> rfl
    have sH5:af (Eb b) H6 J6:=((s67.trans s8).trans s25).trans m6.sm.toE
    have rJ6:=sZ.sE sH5 fun a ha=>nab a ha
    have nS:sub[g]≠DS:=(newA _ (List.mem_of_getElem? egA)).2.1
    have nK:sub[g]≠DK:=(newA _ (List.mem_of_getElem? egA)).2.2
    have f1:=(newA _ (List.mem_of_getElem? egA)).1
    have nSb:DS≠b:=fun e=>B1.th (e▸hDS)
    have nKb:DK≠b:=fun e=>(B1.same s2).th (e▸hDK)
    have fH:H sub[g]=none:=s1.none na f1
    have ix6:=(ixs2.mono (Cb s25)).mono m6.sm.toE
    have mr':r∈bk.se++bk.ke++[bk.dr]:=mr
    refine ⟨_,t5,_,(),rJ6.set ndAll egA er (m6.sm _ _ hxs5) ix6 m6.at' c7,by rw [List.length_set],fun u hu=>?_,c7.ol _ _ (Ne.symm nS) (sH5.old _ _ nSb hS6),c7.ol _ _ (Ne.symm nK) (sH5.old _ _ nKb hK6),(sE6.trans sH5).ch c7 fH,(B10.same m6.sm).ch c7 (Ne.symm na),by trivial,by trivial⟩
    rcases List.mem_or_eq_of_mem_set hu with h | h
    ·exact ⟨(len8 u h).1,fun p hp=>((len8 u h).2 p hp).mono (by decide)⟩
    ·rw [h]
     refine ⟨by rw [List.length_set];exact lr8,fun y hy=>?_⟩
     rcases List.mem_or_eq_of_mem_set hy with h' | h'
     ·exact (fr21 y h').mono (by decide)
     ·rw [h']
      refine fp.add ?_ (show 21+10+1≤40 by decide)
      cases decide (V.int w4=V.int 0)
      ·exact fq
      ·exact fq.neg
   ·exact nx _ _ ⟨_,t1,_,(),sZ.sm sJ,rfl,fun r hr=>⟨(len8 r hr).1,fun p hp=>((len8 r hr).2 p hp).mono (by decide)⟩,sJ _ _ hS6,sJ _ _ hK6,sE6.trans sJ.toE,B6.same sJ,by trivial,by trivial⟩
  rintro σ J ⟨rw',t9,v3,v9,rfl,rJ,lr',fr',hSJ,hKJ,sEJ,BJ,t9a,t9b⟩
  have lA:=rA.1
  have lC:=rC.1
  have lR:rw'.length=bk.se.length+bk.ke.length+1:=by rw [lr',List.length_append,List.length_append];rfl
  obtain ⟨r1,r2,r3,rfl,q1,q2⟩:fP fun (r1 r2:List (List KM.Fra)) (r3:List KM.Fra)=>rw'=r1++r2++[r3]∧r1.length=as.length∧r2.length=cs.length:=by
   have e1:rw'=rw'.take as.length++rw'.drop as.length:=(List.take_append_drop ..).symm
   have e2:rw'.drop as.length=(rw'.drop as.length).take cs.length++(rw'.drop as.length).drop cs.length:=(List.take_append_drop ..).symm
   have l3:((rw'.drop as.length).drop cs.length).length=1:=by rw [List.length_drop,List.length_drop];trivial
   obtain ⟨r3,e3⟩:=List.length_eq_one_iff.mp l3
   refine ⟨rw'.take as.length,(rw'.drop as.length).take cs.length,r3,?_,by rw [List.length_take];trivial,by rw [List.length_take,List.length_drop];trivial⟩
   rw [←e3,List.append_assoc,←e2,←e1]
  have RA:cq J as r1:=⟨q1.symm,fun i a r e1 e2=>rJ.2 i a r (by rw [List.append_assoc,List.getElem?_append_left (List.getElem?_eq_some_iff.mp e1).1];exact e1) (by rw [List.append_assoc,List.getElem?_append_left (List.getElem?_eq_some_iff.mp e2).1];exact e2)⟩
  have RC:cq J cs r2:=⟨q2.symm,fun i a r e1 e2=>rJ.2 (as.length+i) a r (by rw [List.append_assoc,List.getElem?_append_right (by trivial),Nat.add_sub_cancel_left,List.getElem?_append_left (List.getElem?_eq_some_iff.mp e1).1];exact e1) (by rw [List.append_assoc,←q1,List.getElem?_append_right (by trivial),Nat.add_sub_cancel_left,List.getElem?_append_left (List.getElem?_eq_some_iff.mp e2).1];exact e2)⟩
  obtain ⟨zs',hZJ,iZJ⟩:=rJ.2 ((as++cs).length) Z r3 (by rw [List.getElem?_append_right (Nat.le_refl _),Nat.sub_self];rfl) (by rw [show (as++cs).length=(r1++r2).length by rw [List.length_append,List.length_append,q1,q2],List.getElem?_append_right (Nat.le_refl _),Nat.sub_self];rfl)
  have fresh:∀a∈as++cs++[Z],¬um H a:=fun a ha e=>e (s1.none (fun z=>B1.th (show H1 b=none from (show a=b from z)▸(newA a ha).1)) (newA a ha).1)
  have fDS:¬um H DS:=fun e=>e (s1.none (fun z=>B1.th ((show DS=b from z)▸hDS)) hDS)
  have fDK:¬um H DK:=fun e=>e (s1.none (fun z=>(B1.same s2).th ((show DK=b from z)▸hDK)) (by
   cases q:H1 DK with
   | none=>rfl
   | some o=>rw [s2 _ _ q] at hDK;cases hDK))
  refine ⟨(),(),(),(by show 3≤10000;decide),fun q9 J9 m9=>k _ (.tuple [.list (r1.map aX),.list (r2.map aX),aX r3]) t9 J9 (sEJ.trans m9.sm.toE) (.tup m9.at' (.cons (.lst (m9.sm _ _ hSJ) fDS ((RA.sm m9.sm).data fun a ha=>fresh a (List.mem_append_left _ (List.mem_append_left _ ha)))) (.cons (.lst (m9.sm _ _ hKJ) fDK ((RC.sm m9.sm).data fun a ha=>fresh a (List.mem_append_left _ (List.mem_append_right _ ha)))) (.cons (.lst (m9.sm _ _ hZJ) (fresh Z (by simp)) ((iZJ.mono m9.sm.toE).narrow fun _ _=>trivial)) .nil)))) ?_ (BJ.same m9.sm) (by trivial) (by trivial)⟩
  have w1:Wv 60 (.list (r1.map aX)) 201 3:=Hm (n:=8) (by trivial) fun r hr=>fr' r (List.mem_append_left _ (List.mem_append_left _ hr))
  have w2:Wv 60 (.list (r2.map aX)) 126 3:=Hm (n:=5) (by trivial) fun r hr=>fr' r (List.mem_append_left _ (List.mem_append_right _ hr))
  have w3:Wv 60 (.list ([r3].map aX)) 26 3:=Hm (n:=1) (Nat.le_refl _) fun r hr=>fr' r (List.mem_append_right _ hr)
  have w3:Wv 60 (aX r3) 26 3:=by
   cases w3 with
   | list wl h1 h2=>
    cases wl with
    | cons w _ _=>exact w.up (by trivial) (by trivial)
  exact .tuple (m:=353) (l:=3) (.cons (m:=201) (l:=152) w1 (.cons (m:=126) (l:=26) w2 (.cons (m:=26) (l:=0) w3 .nil (by decide)) (by decide)) (by decide)) (by decide) (by decide)
end
end K54
namespace K54
open PySem L2
set_option maxHeartbeats 16000000
theorem qk {α:Type}{f:α→PyData}{z m k:Nat}:∀{xs:List α},(∀x∈xs,Wh z (f x) m k)→cD z (xs.map f) (m*xs.length) k
 | [],_=>.nil
 | x :: xs,h=>.cons (h x (List.mem_cons_self ..)) (qk fun y hy=>h y (List.mem_cons_of_mem _ hy)) (by rw [List.length_cons,Nat.mul_succ];trivial)
theorem EK {p:KM.Fra} (h:Fr 21 p):Wh 2 (bJ p) 3 1:=.tuple (m:=2) (l:=0) (.cons (m:=1) (l:=1) (.int (h.sn.mono (by decide)) (Nat.le_refl 1)) (.cons (m:=1) (l:=0) (.int (h.sd.mono (by decide)) (Nat.le_refl 1)) .nil (by decide)) (by decide)) (by decide) (by decide)
theorem tD {d:aP}{b:dJ} (gd:jy d) (g:GB 21 6 d b):Wh 2 (ki b) 344 4:=by
 have l8:=gd.l8
 have t8:=gd.t8
 have s5:=gd.s5
 have w5:=gd.w5
 have gs:=g.s
 have gk:=g.k
 have gz:=g.z
 have row:∀{r:List KM.Fra},r.length≤8→(∀p∈r,Fr 21 p)→Wh 2 (aX r) 25 2:=fun l h=>.list (m:=24) (l:=1) ((qk fun p hp=>EK (h p hp)).up (by trivial) (by decide)) (by decide) (by decide)
 have r1:∀r∈b.se,Wh 2 (aX r) 25 2:=fun r hr=>by
  obtain ⟨i,hi⟩:=List.mem_iff_getElem?.mp hr
  have hl:i<d.ts.length:=by rw [←g.s];exact (List.getElem?_eq_some_iff.mp hi).1
  obtain ⟨l,f⟩:=g.sr i _ r (List.getElem?_eq_getElem hl) hi
  exact row (by trivial) fun p hp=>by obtain ⟨j,hj⟩:=List.mem_iff_getElem?.mp hp;exact (f j p hj).1
 have r2:∀r∈b.ke,Wh 2 (aX r) 25 2:=fun r hr=>by
  obtain ⟨i,hi⟩:=List.mem_iff_getElem?.mp hr
  have hl:i<d.ss.length:=by rw [←g.k];exact (List.getElem?_eq_some_iff.mp hi).1
  obtain ⟨l,f⟩:=g.kr i _ r (List.getElem?_eq_getElem hl) hi
  exact row (by trivial) fun p hp=>by obtain ⟨j,hj⟩:=List.mem_iff_getElem?.mp hp;exact (f j p hj).1
 have r3:∀p∈b.dr,Fr 21 p:=fun p hp=>by
  obtain ⟨i,hi⟩:=List.mem_iff_getElem?.mp hp
  have hl:i<d.ws.length:=by rw [←g.z];exact (List.getElem?_eq_some_iff.mp hi).1
  exact (g.zr i _ p (List.getElem?_eq_getElem hl) hi).1
 have a1:Wh 2 (.list (b.se.map aX)) 201 3:=.list (m:=200) (l:=2) ((qk r1).up (by trivial) (by decide)) (by decide) (by decide)
 have a2:Wh 2 (.list (b.ke.map aX)) 126 3:=.list (m:=125) (l:=2) ((qk r2).up (by trivial) (by decide)) (by decide) (by decide)
 have a3:Wh 2 (.list (b.dr.map bJ)) 16 2:=.list (m:=15) (l:=1) ((qk fun p hp=>EK (r3 p hp)).up (by trivial) (by decide)) (by decide) (by decide)
 exact .tuple (m:=343) (l:=3) (.cons (m:=201) (l:=142) a1 (.cons (m:=126) (l:=16) a2 (.cons (m:=16) (l:=0) (a3.up (by decide) (by decide)) .nil (by decide)) (by decide)) (by decide)) (by decide) (by decide)
theorem A1 {a e:Nat}{c p:KM.Fra} (h:Am a e c p):dL (bJ p) c=true:=by
 obtain ⟨f,h0,hl,_⟩:=h
 show (((decide (1≤p.2) && decide (Int.gcd p.1 p.2=1)) && decide (0≤p.1)) && decide (p.1*c.2≤c.1*p.2))=true
 rw [decide_eq_true f.pos,decide_eq_true f.co,decide_eq_true h0,decide_eq_true hl]
 rfl
theorem xy {a e:Nat}{cs ps:List KM.Fra} (l:ps.length=cs.length) (h:∀(i:Nat) p c,ps[i]?=some p→cs[i]?=some c→Am a e c p):bu cs (aX ps)=true:=by
 show (decide ((ps.map bJ).length=cs.length) && gL dL (ps.map bJ) cs)=true
 rw [List.length_map,decide_eq_true l,Bool.true_and]
 refine uv fun i d m e1 e2=>?_
 rw [List.getElem?_map] at e1
 obtain ⟨p,ep,rfl⟩:=Option.map_eq_some_iff.mp e1
 exact A1 (h i p m ep e2)
theorem uS {a e:Nat}{cs rs:List (List KM.Fra)} (l:rs.length=cs.length) (h:∀(i:Nat) r c,rs[i]?=some r→cs[i]?=some c→r.length=c.length∧∀(j:Nat) p q,r[j]?=some p→c[j]?=some q→Am a e q p):cX cs (.list (rs.map aX))=true:=by
 show (decide ((rs.map aX).length=cs.length) && gL (fun d c=>bu c d) (rs.map aX) cs)=true
 rw [List.length_map,decide_eq_true l,Bool.true_and]
 refine uv fun i d m e1 e2=>?_
 rw [List.getElem?_map] at e1
 obtain ⟨p,ep,rfl⟩:=Option.map_eq_some_iff.mp e1
 obtain ⟨q1,q2⟩:=h i p m ep e2
 exact xy q1 q2
theorem DF {a e:Nat}{d:aP}{b:dJ} (g:GB a e d b):dM d (ki b)=true:=by
 show ((cX (cQ d) (.list (b.se.map aX)) && cX (bV d) (.list (b.ke.map aX))) && bu (d.ws.map (·.mo)) (aX b.dr))=true
 have h1:cX (cQ d) (.list (b.se.map aX))=true:=uS (a:=a) (e:=e) (by unfold cQ;rw [List.length_map];exact g.s) fun i r c er ec=>by
  unfold cQ at ec
  rw [List.getElem?_map] at ec
  obtain ⟨x,ex,rfl⟩:=Option.map_eq_some_iff.mp ec
  obtain ⟨l,f⟩:=g.sr i x r ex er
  refine ⟨by rw [List.length_map,List.length_range,l],fun j p q ep eq=>?_⟩
  rw [List.getElem?_map,List.getElem?_range (by have:=(List.getElem?_eq_some_iff.mp ep).1;trivial)] at eq
  cases eq
  exact f j p ep
 have h2:cX (bV d) (.list (b.ke.map aX))=true:=uS (a:=a) (e:=e) (by unfold bV;rw [List.length_map];exact g.k) fun i r c er ec=>by
  unfold bV at ec
  rw [List.getElem?_map] at ec
  obtain ⟨x,ex,rfl⟩:=Option.map_eq_some_iff.mp ec
  obtain ⟨l,f⟩:=g.kr i x r ex er
  refine ⟨by rw [List.length_map,List.length_range,l],fun j p q ep eq=>?_⟩
  rw [List.getElem?_map,List.getElem?_range (by have:=(List.getElem?_eq_some_iff.mp ep).1;trivial)] at eq
  cases eq
  exact f j p ep
 have h3:bu (d.ws.map (·.mo)) (aX b.dr)=true:=xy (a:=a) (e:=e) (by rw [List.length_map];exact g.z) fun i p c ep ec=>by
  rw [List.getElem?_map] at ec
  obtain ⟨x,ex,rfl⟩:=Option.map_eq_some_iff.mp ec
  exact g.zr i x p ex ep
 rw [h1,h2,h3]
 rfl
def uj (E:Addr→Prop) (H:Hp) (v:V):Prop:=∃x,aK E H v x∧Wv 60 x 3000 30
theorem uj.sE {E:Addr→Prop}{H H':Hp}{v:V} (h:uj E H v) (s:af E H H'):uj E H' v:=by
 obtain ⟨x,a,b⟩:=h
 exact ⟨x,a.mono s,b⟩
theorem EY {z n k:Nat}{E:Addr→Prop}{H:Hp}{v:V} (h:Dh z E H v n k) (hz:z≤4) (hn:n≤3000) (hk:k≤30):uj E H v:=by
 obtain ⟨d,a,w⟩:=h
 exact ⟨d,a,(w.wv hz).up hn hk⟩
section
variable {P:Program}{w:World}{K:PySem.W.Frag}{mg:Str→Option Value}{base:Heap}
theorem DE (T:Txt K mg):aV P w K mg base CX0 8 T.l_bent_.f T.l_bent_.d ["_law_box_here", "_law_thing", "_law_deep"] (fun vs H Q E=>∃n,n≤5∧pF n vs H Q E):=
 ⟨fun vs H Q E ⟨n,_,q⟩=>(#[(Ax)] n).len vs H Q E q,fun A outer s H args us vs Q E hr he hb hv ⟨n,hn,q⟩=>((#[(Ax)] n).mono (by trivial)).run A outer s H args us vs Q E hr he hb hv q⟩
inductive GC (K:PySem.W.Frag) (vs:List V) (H:Hp) (Q:VK):Prop
 | mk (a:Addr) (ns:List Int) (h0:vs=[.ref a]) (h1:ah K H a (ns.map V.int)) (h2:ns.length≤63) (h3:∀H',Q (.bl true) H')
def spLaw (K:PySem.W.Frag):Sp:=fun vs H Q _=>GC K vs H Q
theorem law_start {H:Hp}{a:Addr}{ns:List Int} (hl:ns.length≤63) (_:wR H) (hS:ah K H a (ns.map V.int)):spLaw K [.ref a] H (fun v _=>v=.bl true) fun _ _ _=>False:=
 ⟨a,ns,rfl,hS,hl,fun _=>rfl⟩
theorem law_ok (T:Txt K mg):aV P w K mg base CX0 40 T.law_.f T.law_.d ["_law_script"] (spLaw K):=by
 have G_l_boxes:=#[(DL)]
 have G_l_take:=#[(gD)]
 have G_l_day:=#[(FS)]
 have G_l_any_book:=#[(zP)]
 have G_l_bent:=#[(DE)]
 have G_l_little_more:=#[(Cv)]
 have G_is_book:=#[(qM)]
 have G_l_right:=#[(BC)]
 refine T.law_.F.ok jN (fun vs H Q E h=>?_) (fun cdv A outer s H vs Q E hr h=>?_)
 ·obtain ⟨a,ns,rfl,_⟩:=h
  rfl
 ·obtain ⟨a,ns,rfl,hS,hn,k⟩:=h
  refine ⟨_,#[#[cN 8 PassesOwn.never rfl (@oh _ (K) _ _ _ #[G_l_boxes,yi,T.l_boxes_,#[[#[0,ww],#[()]]]] (by rfl)) #[1,jN.nd,ce] #[#[lG 2 (2) _ _ _ _ jN.nd rfl (Or.inr ff) #[G_l_day,zU,T.l_day_,#[[#[1,ce]]]] (by rfl) (by first | exact .inl rfl | exact .inr rfl | assumption)] :: #[#[3,jN.nd,fg,#[G_l_any_book,uy,T.l_any_book_,#[[#[1,ce],#[2,(ff)]]]]] :: #[#[lG 2 (4) _ _ _ _ jN.nd rfl (Or.inr qZ) #[#[bG 4 #[[#[aD 5 #[[#[()],#[()]]]],#[aD 5 #[[#[()],#[()]]]],#[aD 5 #[[#[()],#[()]]]],#[aD 5 #[[#[()],#[()]]]],#[aD 5 #[[#[()],#[()]]]],#[aD 5 #[[#[jV 6 (@i6 _) #[()]],#[()]]]]]]][#[G_l_take,mR,T.l_take_,#[[#[1,ce],#[()]]]]]!] (by rfl) (by first | exact .inl rfl | exact .inr rfl | assumption)] :: #[#[bn 8 #[PW.pt 3 #[gh 7 #[aH 8 (@Fd _) #[G_is_book,x9,T.is_book_,#[[#[2,(ff)],#[3,fg]]]] #[dj 4] #[(),()]] #[gr 4 #[cw 4 #[bK 3 #[G_l_right,xR,T.l_right_,#[[#[2,(ff)],#[3,fg],#[4,(qZ)]]]] (by intro _;rfl)]]]]] #[ac 3 #[ax 4 #[dj 4]]] (@aM _)] :: #[#[5,jN.nd,kJ,#[bG 4 #[[#[Cg 3],#[aD 5 (@bE _)],#[bG 4 (@bE _)],#[dj 4],#[lK 4],#[cn 10 (@mL _ (K) (by rfl)) #[3,fg] (@dq _) #[cj 3 #[()]]],#[bA 9 (@eY _ (K) (by rfl)) Bh T.b_list (@b4) #[[#[3,fg]]] (by decide) (by decide) (by rfl) (by rfl)],#[aD 5 #[[#[bG 4 (@bE _)],#[bG 4 (@bE _)],#[bG 4 (@bE _)]]]]]]]] :: #[#[cN 8 PassesOwn.never rfl #[b9 6 zN T.b_range #[[#[()]]] (by rfl)] #[6,jN.nd,yS] #[#[gZ 2 (7) (8) _ _ _ _ _ _ _ _ _ _ _ rfl jN.nd rfl rfl (by decide) pC jg #[[#[G_l_take,mR,T.l_take_,#[[#[1,ce],#[()]]]],#[G_l_bent,tq,T.l_bent_,#[[#[1,ce],#[3,fg],#[aj 8 (@bi _) #[()] #[G_l_take,mR,T.l_take_,#[[#[1,ce],#[()]]]]]]]]]] (by kernel_rfl) (by rfl)] :: #[#[bn 8 #[aH 8 (@b8 _) #[7,pC] #[()] #[(),()]] #[ac 3 #[8,jN.nd,jg,#[G_l_bent,tq,T.l_bent_,#[[#[1,ce],#[8,jg],#[()]]]]]] (@aM _)] :: #[ac 3 #[fF 4 (@eM _ (K) _ _ _ _ _ _ _ _ _ _ _ PySem.F.plainAttrs_list PySem.F.slot_list_append PySem.F.type_list_append (@eh _) #[5,kJ] #[[#[fZ 8 #[aH 8 (@b8 _) #[7,pC] #[()] #[(),()]] #[G_l_little_more,rB,T.l_little_more_,#[[#[1,ce],#[2,(ff)],#[3,fg]]]] #[8,jg]]]] (by rfl) (by rfl) (by rfl) (by rfl) (by rfl) (by rfl)) (by rfl)]]]] (by intro _;rfl)] :: #[ac 3 #[bn 8 #[cw 4 #[bK 3 #[(),(),(@k9 _ (K) rfl (by rfl)),BX,T.b_all,(@dY),#[[#[bq 7 (["_law_thing", "_law_day_here", "_law_share"]) (1) ([2,4]) _ _ _ _ rfl (by kernel_rfl) #[tH 4 #[5,kJ]] (fun _ _ _ _ _ _=>#[0,(),()]) (fun _ _ _ _ _ _=>@bf _) (fun _ _ _ _ _ _=>#[G_l_right,(),T.l_right_,#[[#[1,0],#[0,()],#[2,0]]]]) (by intro _;rfl)]]]] (by intro _;rfl)]] #[ac 3 #[ax 4 #[dj 4]]] (@aM _)]]]]]]]] (by intro _;rfl)] :: #[ac 3 #[ax 4 #[dj 4]]]],?_⟩
  refine gQ fun D1 n1 r1D=>⟨(),a,ns,rfl,hS,hn,fun lb bs H3 s3 hlb lbs nbs hbs=>⟨lb,rfl,⟨_,ah.of hlb⟩,?_⟩⟩
  refine yE (xs:=bs.map V.ref) (fun i σ H'=>CP fun (v1 v2 v3 v4 v5 v6 v7 v8:Option V)=>σ=[some (.ref a),v1,v2,v3,v4,v5,v6,v7,v8]∧H' lb=some (.lst (bs.map V.ref))∧∀(j:Nat) (b:Addr),i≤j→bs[j]?=some b→Bx H' b 0) ⟨_,_,_,_,_,_,_,(),hlb,fun j b _ e=>hbs b (List.mem_of_getElem? e)⟩ (fun i σ H' _ ⟨_,_,_,_,_,_,_,_,_,h,_⟩=>ah.of h) ?_ ?_
  case refine_2=>
   rintro σ H' ⟨v1,v2,v3,v4,v5,v6,v7,v8,rfl,_⟩
   exact n1 _ _ (k _)
  rintro i x σ H4 hx ⟨v1,v2,v3,v4,v5,v6,v7,v8,rfl,hlb2,hB⟩
  rw [List.getElem?_map] at hx
  obtain ⟨b,eb,rfl⟩:=Option.map_eq_some_iff.mp hx
  have Bb:=hB i b (Nat.le_refl _) eb
  have nlbb:lb≠b:=fun e=>by
   obtain ⟨c1,c2,q,_⟩:=Bb
   rw [←e,hlb2] at q
   injection q with q
   injection q with q
   cases bs with
   | nil=>cases q
   | cons z zs=>cases q
  refine lf (t:=kH _ _) fun DB nB=>?_
  have done:∀(v2 v3 v4 v5 v6 v7 v8:Option V) (H':Hp),af (Eb b) H4 H'→DB.nx [some (.ref a),some (.ref b),v2,v3,v4,v5,v6,v7,v8] H':=fun v2 v3 v4 v5 v6 v7 v8 H' sE=>by
   refine nB _ _ ⟨_,_,_,_,_,_,_,(),sE.old _ _ nlbb hlb2,fun j b' hj e=>?_⟩
   have B':=hB j b' (by trivial) e
   refine B'.frm sE fun z=>?_
   have z':b'=b:=z
   rw [z'] at e
   obtain ⟨h1,e1⟩:=List.getElem?_eq_some_iff.mp e
   obtain ⟨h2,e2⟩:=List.getElem?_eq_some_iff.mp eb
   have:=wU nbs h1 h2 (e1.trans e2.symm)
   trivial
  clear hB n1 r1D
  refine bF fun D2 n2=>⟨(),b,0,rfl,Bb,by decide,by decide,fun dv d t5 H5 s5 hd gd hw0 hi0 hw1 B5 h5a h5b=>n2 _ _ ?_⟩
  refine bF fun D3 n3=>⟨(),(),b,dv,d,t5,rfl,B5,by trivial,by trivial,hd,gd,fun bv bk t6 H6 s6 hbv gk B6 h6a h6b=>n3 _ _ ?_⟩
  have hd6:=hd.mono (Cb s6)
  refine bF fun D4 n4=>⟨(by show 2≤10000;decide),fun o1 J1 m1=>⟨(by show 2≤10000;decide),fun o2 J2 m2=>⟨(by show 2≤10000;decide),fun o3 J3 m3=>⟨(by show 2≤10000;decide),fun o4 J4 m4=>⟨(by show 2≤10000;decide),fun o5 J5 m5=>⟨(),(by show 2≤10000;decide),fun o6 J6 m6=>⟨(by show 6≤10000;decide),fun L7 J7 m7=>?_⟩⟩⟩⟩⟩⟩⟩
  have sJ7:aa H6 J7:=(((((m1.sm.trans m2.sm).trans m3.sm).trans m4.sm).trans m5.sm).trans m6.sm).trans m7.sm
  refine ⟨(),b,6,t6,rfl,B6.same sJ7,by decide,by decide,by trivial,by trivial,fun w1 t7 H7 w10 w11 h7a h7b s7 B7=>?_⟩
  have nL7:L7≠b:=fun e=>(B6.same ((((((m1.sm.trans m2.sm).trans m3.sm).trans m4.sm).trans m5.sm).trans m6.sm))).th (e▸m7.fr)
  have small:∀(n:Int) (e:Int),n.natAbs<2 ^ 9→e.natAbs<2 ^ 9→1≤e→Int.gcd n e=1→Fr 10 (n,e):=fun n e h1 h2 h3 h4=>⟨Nat.lt_of_lt_of_le h1 (by decide),Nat.lt_of_lt_of_le h2 (by decide),h3,h4⟩
  have pick:bP fun os sh=>ko ([V.ref o1,V.ref o2,V.ref o3,V.ref o4,V.ref o5,V.ref o6]:List V) w1=some (.ref os)∧J7 os=some (fr sh)∧Fr 10 sh:=by
   rcases (show w1=0∨w1=1∨w1=2∨w1=3∨w1=4∨w1=5 by trivial) with rfl | rfl | rfl | rfl | rfl | rfl
   ·exact ⟨o1,(0,1),rfl,(((((m2.sm.trans m3.sm).trans m4.sm).trans m5.sm).trans m6.sm).trans m7.sm) _ _ m1.at',small 0 1 (by decide) (by decide) (by decide) (by decide)⟩
   ·exact ⟨o2,(1,1),rfl,((((m3.sm.trans m4.sm).trans m5.sm).trans m6.sm).trans m7.sm) _ _ m2.at',small 1 1 (by decide) (by decide) (by decide) (by decide)⟩
   ·exact ⟨o3,(1,2),rfl,(((m4.sm.trans m5.sm).trans m6.sm).trans m7.sm) _ _ m3.at',small 1 2 (by decide) (by decide) (by decide) (by decide)⟩
   ·exact ⟨o4,(1,7),rfl,((m5.sm.trans m6.sm).trans m7.sm) _ _ m4.at',small 1 7 (by decide) (by decide) (by decide) (by decide)⟩
   ·exact ⟨o5,(5,4),rfl,(m6.sm.trans m7.sm) _ _ m5.at',small 5 4 (by decide) (by decide) (by decide) (by decide)⟩
   ·exact ⟨o6,(-1,3),rfl,m7.sm _ _ m6.at',small (-1) 3 (by decide) (by decide) (by decide) (by decide)⟩
  obtain ⟨os,sh,eat,hos',fsh⟩:=pick
  have hos:=s7.tup _ _ hos'
  refine ⟨L7,_,_,(),rfl,ah.of (s7.old _ _ nL7 m7.at'),eat,n4 _ _ ?_⟩
  clear eat
  have s67:af (Eb b) H6 H7:=sJ7.toE.trans s7
  have hbv6:aK (Eb b) H6 bv (ki bk):=hbv.narrow fun z e=>by rw [show z=b from e];exact B5.th
  have hbv7:=hbv6.mono s67
  have hd7:=hd6.mono (Cb s67)
  have s47:af (Eb b) H4 H7:=(s5.trans s6).trans s67
  obtain ⟨wm,hwm,wt⟩:=((tD gd gk).wv (by decide)).wt (by decide)
  have gk60:=gk.mono (show 21≤60 by decide) (show 6≤60 by decide)
  have isb:=DF gk
  refine gQ fun D5 n5 r5=>⟨(),(),dv,bv,d,ki bk,Eb b,wm,4,rfl,hd7,hbv7,wt,by trivial,by decide,gd,fun H8 s8=>⟨_,(),rfl,(),?_⟩⟩
  rw [isb]
  refine cG (fun c=>absurd c (by decide)) fun c=>⟨(),(),(),dv,bv,os,d,ki bk,Eb b,sh,344,4,rfl,hd7.mono s8.toE,hbv7.mono s8.toE,(tD gd gk).wv (by decide),by decide,by decide,gd,s8 _ _ hos,fsh,fun H9 s9=>⟨(),aO (n5 _ _ ?_)⟩⟩
  have s79:=s8.trans s9
  have hos9:=s79 _ _ hos
  have hd9:=hd7.mono s79.toE
  have B9:=B7.same s79
  have s49:af (Eb b) H4 H9:=s47.trans s79.toE
  have hbv9:=hbv7.mono s79.toE
  clear isb
  have wb:=(tD gd gk).wv (show 2≤4 by decide)
  obtain ⟨dS,dK,dZ,edb⟩:fP fun dS dK dZ=>ki bk=.tuple [dS,dK,dZ]:=⟨_,_,_,rfl⟩
  have hbv9':=hbv9
  rw [edb] at hbv9' wb
  obtain ⟨wS,wK,wZ⟩:Wv 60 dS 344 3∧Wv 60 dK 344 3∧Wv 60 dZ 344 3:=by
   cases wb with
   | tuple w h1 h2=>
   cases w with
   | cons w1 w q1=>
   cases w with
   | cons w2 w q2=>
   cases w with
   | cons w3 w q3=>exact ⟨w1.up (by trivial) (by trivial),w2.up (by trivial) (by trivial),w3.up (by trivial) (by trivial)⟩
  cases hbv9' with
  | @tup ba bxs _ hba r=>
  cases r with
  | @cons vS _ _ _ iS r=>
  cases r with
  | @cons vK _ _ _ iK r=>
  cases r with
  | @cons vZ _ _ _ iZ r=>
  cases r
  have cb:eX [vS,vK,vZ] none (some 2)=[vS,vK]:=oZ (by decide)
  have al9:∀{J:Hp}{p:Addr},aa H9 J→J p=none→¬Eb b p:=fun {J p} s e z=>(B9.same s).th ((show p=b from z)▸e)
  refine bF fun D6 n6=>⟨(by show 0≤10000;decide),fun q1 K1 p1=>⟨(by show 0≤10000;decide),fun q2 K2 p2=>⟨(),(),ba,(),ad.of ((p1.sm.trans p2.sm) _ _ hba),(p1.sm.trans p2.sm) _ _ hba,fun q3 K3 p3 h3=>?_⟩⟩⟩
  have sK3:=(p1.sm.trans p2.sm).trans p3
  refine ⟨(),ba,(),.inr (ad.of (sK3 _ _ hba)),fun q4 K4 p4=>⟨(by show 0≤10000;decide),fun q5 K5 p5=>⟨(by show 0≤10000;decide),fun q6 K6 p6=>⟨(by show 0≤10000;decide),fun q7 K7 p7=>⟨(by show 3≤10000;decide),fun q8 K8 p8=>⟨(by show 8≤10000;decide),fun D K9 p9=>n6 _ _ ?_⟩⟩⟩⟩⟩⟩
  rw [cb] at h3
  have t4:=(((p5.sm.trans p6.sm).trans p7.sm).trans p8.sm)
  have sK8:aa H9 K8:=(sK3.trans p4.sm).trans t4
  have th0:∀v∈([V.non,.ref q1,.ref q2,.bl true,.str (Str.ofString ""),.ref q3,.ref q4,.ref q8]:List V),uj (Eb b) K8 v:=fun v hv=>by
   have l1:K8 q5=some (.lst []):=((p6.sm.trans p7.sm).trans p8.sm) _ _ p5.at'
   have l2:K8 q6=some (.lst []):=(p7.sm.trans p8.sm) _ _ p6.at'
   have l3:K8 q7=some (.lst []):=p8.sm _ _ p7.at'
   have f5:=al9 (sK3.trans p4.sm) p5.fr
   have f6:=al9 ((sK3.trans p4.sm).trans p5.sm) p6.fr
   have f7:=al9 (((sK3.trans p4.sm).trans p5.sm).trans p6.sm) p7.fr
   have e0:∀{q:Addr},K8 q=some (.lst [])→¬Eb b q→aK (Eb b) K8 (.ref q) (.list []):=fun h n=>.lst h n .nil
   have w0:Wv 60 (.list []) 1 1:=.list (m:=0) (l:=0) .nil (by decide) (by decide)
   have sm3:=p4.sm.trans t4
   have mS:=iS.mono sK8.toE
   have mK:=iK.mono sK8.toE
   have mZ:=iZ.mono sK8.toE
   simp only [List.mem_cons,List.mem_nil_iff,or_false] at hv
   rcases hv with rfl | rfl | rfl | rfl | rfl | rfl | rfl | rfl
   ·exact ⟨_,.non,.non (by decide)⟩
   ·exact ⟨.tuple [],.tup (((p2.sm.trans p3).trans sm3) _ _ p1.at') .nil,.tuple (m:=0) (l:=0) .nil (by decide) (by decide)⟩
   ·exact ⟨.list [],.lst ((p3.trans sm3) _ _ p2.at') (al9 p1.sm p2.fr) .nil,w0.up (by decide) (by decide)⟩
   ·exact ⟨_,.bl true,.bl _ (by decide)⟩
   ·exact ⟨_,.str _,.str ⟨by nofun,by nofun⟩ (by decide)⟩
   ·exact ⟨.tuple [dS,dK],.tup (sm3 _ _ h3) (.cons mS (.cons mK .nil)),.tuple (m:=688) (l:=3) (.cons (m:=344) (l:=344) wS (.cons (m:=344) (l:=0) wK .nil (by decide)) (by decide)) (by decide) (by decide)⟩
   ·exact ⟨.list [dS,dK,dZ],.lst (t4 _ _ p4.at') (al9 sK3 p4.fr) (.cons mS (.cons mK (.cons mZ .nil))),.list (m:=1032) (l:=3) (.cons (m:=344) (l:=688) wS (.cons (m:=344) (l:=344) wK (.cons (m:=344) (l:=0) wZ .nil (by decide)) (by decide)) (by decide)) (by decide) (by decide)⟩
   ·exact ⟨.tuple [.list [],.list [],.list []],.tup p8.at' (.cons (e0 l1 f5) (.cons (e0 l2 f6) (.cons (e0 l3 f7) .nil))),.tuple (m:=3) (l:=1) (.cons (m:=1) (l:=2) w0 (.cons (m:=1) (l:=1) w0 (.cons (m:=1) (l:=0) w0 .nil (by decide)) (by decide)) (by decide)) (by decide) (by decide)⟩
  let EE:Addr→Prop:=fun a=>Eb b a∨a=D
  have th1:∀v∈([V.non,.ref q1,.ref q2,.bl true,.str (Str.ofString ""),.ref q3,.ref q4,.ref q8]:List V),uj EE K9 v:=fun v hv=>by
   obtain ⟨x,a,w⟩:=th0 v hv
   exact ⟨x,(a.plus p9.fr).mono p9.sm.toE,w⟩
  have nDb:D≠b:=fun e=>(B9.same sK8).th (e▸p9.fr)
  have sK9:=sK8.trans p9.sm
  have hbE:aK EE K9 (.ref ba) (ki bk):=((hbv9.mono sK8.toE).plus p9.fr).mono p9.sm.toE
  have B10:=B9.same sK9
  have s4K:af (Eb b) H4 K9:=s49.trans sK9.toE
  have hdK:=hd9.mono sK9.toE
  have hosK:=sK9 _ _ hos9
  clear th0
  refine bF fun D7 n7=>⟨(),by decide,by decide,iF (fun i σ H'=>Aq fun (v6 v7 v8:Option V) (zs:List V) (t':Int)=>σ=[some (.ref a),some (.ref b),some dv,some (.ref ba),some (.ref os),some (.ref D),v6,v7,v8]∧H' D=some (.lst zs)∧(∀v∈zs,uj EE H' v)∧zs.length=8+i∧Bx H' b t'∧0≤t'∧t'≤1800+40*i∧af EE K9 H') ⟨_,_,_,_,t7,rfl,p9.at',th1,rfl,B10,by trivial,by trivial,af.refl _⟩ ?_ ?_⟩
  ·rintro i σ G hi ⟨v6,v7,v8,zs,t8,rfl,hG,thG,lz,BG,t80,t81,sG⟩
   have alE:Al EE G:=fun x e=>e.elim (fun e=>by rw [show x=b from e];exact BG.th) fun e=>by rw [e,hG];exact fun q=>nomatch q
   have hbG:=hbE.mono sG
   refine lf (t:=kH _ _) fun DC nC=>?_
   refine bF fun D8 n8=>⟨(),b,3,t8,rfl,BG,by decide,by decide,by trivial,by trivial,fun w1 t9 G1 w10 w11 h9a h9b sG1 BG1=>⟨(),(),(),b,5,t9,rfl,BG1,by decide,by decide,by trivial,by trivial,fun w2 ta G2 w20 w21 haa hab sG2 BG2=>?_⟩⟩
   have sG2':af (Eb b) G G2:=sG1.trans sG2
   have wE:∀{J J':Hp},af (Eb b) J J'→af EE J J':=fun s=>⟨fun x o n e=>s.old x o (fun z=>n (.inl z)) e,s.tup⟩
   have alG2:=(alE.sE sG1 BG1).sE sG2 BG2
   refine ⟨_,(),rfl,(1+w2).toNat,by trivial,b,.ref ba,ta,EE,2,344,4,by show [V.ref b,.ref ba,.int (1+w2)]=_;rw [show ((1+w2).toNat:Int)=1+w2 by trivial],BG2,by trivial,by trivial,.inl rfl,alG2,⟨_,(hbG.mono (wE sG2')),tD gd gk⟩,by decide,by decide,by decide,by decide,fun y tb G3 s3 dy B3 hba' hbb'=>⟨_,(),n8 _ _ ?_⟩⟩
   have sG3:af (Eb b) G G3:=sG2'.trans s3
   have alG3:=alG2.sE s3 B3
   refine Bn (fun σ H'=>bP fun (v:V) (t':Int)=>σ=[some (.ref a),some (.ref b),some dv,some (.ref ba),some (.ref os),some (.ref D),some (.int (0+(i:Int))),some (.int w1),some v]∧uj EE H' v∧Bx H' b t'∧0≤t'∧t'≤t8+26∧af (Eb b) G H') ?_ fun nx=>?_
   case refine_2=>
    refine ⟨(),rfl,(),cG (fun c=>?_) fun c=>?_⟩
    ·exact ⟨(),(),4,by decide,b,y,tb,EE,3,700,6,rfl,B3,by trivial,by trivial,.inl rfl,alG3,dy.up (by decide) (by decide),by decide,by decide,by decide,by decide,fun y2 tc G4 s4 dy2 B4 hca hcb=>nx _ _ ⟨y2,tc,rfl,EY dy2 (by decide) (by decide) (by decide),B4,by trivial,by trivial,sG3.trans s4⟩⟩
    ·exact nx _ _ ⟨y,tb,rfl,EY dy (by decide) (by decide) (by decide),B3,by trivial,by trivial,sG3⟩
   rintro σ' G5 ⟨v,t',rfl,thv,B5',t'0,t'1,sG5⟩
   have hD5:G5 D=some (.lst zs):=sG5.old _ _ nDb hG
   have thG5:∀u∈zs,uj EE G5 u:=fun u hu=>(thG u hu).sE (wE sG5)
   have app:∀(u:V) (G6:Hp) (t6':Int),af (Eb b) G5 G6→uj EE G6 u→Bx G6 b t6'→t'≤t6'→t6'≤t'+10→G6 D=some (.lst zs)∧∀H',Ch G6 D (zs++[u]) H'→DC.nx [some (.ref a),some (.ref b),some dv,some (.ref ba),some (.ref os),some (.ref D),some (.int (0+(i:Int))),some (.int w1),some v] H':=fun u G6 t6' s6 hu B6 ha hb=>by
    have hD6:=s6.old _ _ nDb hD5
    refine ⟨hD6,fun G7 c7=>nC _ _ ⟨_,_,_,zs++[u],t6',rfl,c7.at',fun q hq=>?_,by rw [List.length_append,lz];rfl,B6.ch c7 (Ne.symm nDb),by trivial,by trivial,?_⟩⟩
    ·have s67:af EE G6 G7:=⟨fun x o n e=>c7.ol x o (fun z=>n (.inr z)) e,fun x us e=>c7.tup e hD6⟩
     rcases List.mem_append.mp hq with h | h
     ·exact ((thG5 q h).sE (wE s6)).sE s67
     ·rw [List.mem_singleton.mp h];exact hu.sE s67
    ·exact (sG.trans (wE (sG5.trans s6))).trans ⟨fun x o n e=>c7.ol x o (fun z=>n (.inr z)) e,fun x us e=>c7.tup e hD6⟩
   refine ⟨(),.inl ⟨rfl,_,ah.of hD5⟩,(),rfl,(),cG (fun c=>?_) fun c=>⟨(),D,zs,v,rfl,rfl,hD5,by trivial,(app _ _ t' (af.refl _) thv B5' (by trivial) (by trivial)).2⟩⟩
   refine ⟨(),(),(),b,dv,.ref ba,t',d,bk,EE,rfl,B5',by trivial,by trivial,(hbG.mono (wE sG5)),.inl rfl,gd,gk,fun u x2 tz G6 s6 hu wu B6 h1 h2=>?_⟩
   have ap:=app u G6 tz s6 ⟨x2,hu.narrow fun z e=>?_,wu.up (by decide) (by decide)⟩ B6 (by trivial) (by trivial)
   ·exact ⟨D,zs,u,rfl,rfl,ap.1,by trivial,ap.2⟩
   exact e.elim (fun e=>by rw [show z=b from e];exact B5'.th) fun e=>by rw [e];show G5 D≠none;rw [hD5];exact fun q=>nomatch q
  rintro σ G ⟨v6,v7,v8,zs,t8,rfl,hG,thG,lz,BG,t80,t81,sG⟩
  refine n7 _ _ ?_
  have lz28:zs.length=28:=lz
  have wED:∀{J J':Hp},af EE J J'→af ED J J':=fun s=>Cb s
  have hdG:=hdK.mono (wED sG)
  have hosG:=sG.tup _ _ hosK
  have hD4:H4 D=none:=by
   cases q:H4 D with
   | none=>rfl
   | some o=>
    have:=sK8 _ _ (s49.old _ _ nDb q)
    rw [p9.fr] at this
    cases this
  have s4G:af (Eb b) H4 G:=⟨fun x o n e=>sG.old x o (fun z=>z.elim n fun z=>by rw [z,hD4] at e;cases e) (s4K.old x o n e),fun x us e=>sG.tup _ _ (s4K.tup _ _ e)⟩
  refine ⟨(),D,rfl,⟨_,ah.of hG⟩,fun Dx hDx=>xM (xs:=zs) (fun _=>.bl true) (by trivial) hDx hG ?_ ?_⟩
  ·intro i v H' R ev sm kk
   obtain ⟨x,hx,wx⟩:=thG v (List.mem_of_getElem? ev)
   exact ⟨cR,(),(),(),dv,v,os,d,x,EE,sh,3000,30,rfl,hdG.mono sm.toE,hx.mono sm.toE,wx,by decide,by decide,gd,sm _ _ hosG,fsh,fun H5 s5=>kk H5 s5⟩
  ·intro H' sm hDx'
   have e:(List.range zs.length).map (fun _=>V.bl true)=(List.replicate zs.length true).map V.bl:=by rw [List.map_replicate,List.eq_replicate_iff];simp
   rw [e] at hDx'
   refine ⟨Dx,(),ah.of hDx',(),?_⟩
   rw [show (List.replicate zs.length true).all id=true by simp]
   exact aO (done _ _ _ _ _ _ _ _ (s4G.trans sm.toE))
end
end K54
namespace K54
open PySem L2
set_option maxHeartbeats 0 in
theorem txt_of {K:PySem.W.Frag}{h:Heap}{mg:Str→Option Value} (y:obs K=due) (X:K.In h) (G:h.Ns mainGlobals mg):∃T:Txt K mg,∀(s:Shared) (u:Value),BindsTo s T.law_.d ⟨[u],[]⟩ [("_law_script",u)]:=by
 have e:∀i,(obs K).1.getD i none=due.1.getD i none:=fun i=>by rw [y]
 have b:∀i,(obs K).2.getD i true=due.2.getD i true:=fun i=>by rw [y]
 refine ⟨{
  b_abs:=PySem.W.mg_none_of X G (dn (b 0)),
  b_all:=PySem.W.mg_none_of X G (dn (b 1)),
  b_bool:=PySem.W.mg_none_of X G (dn (b 2)),
  b_divmod:=PySem.W.mg_none_of X G (dn (b 3)),
  b_enumerate:=PySem.W.mg_none_of X G (dn (b 4)),
  b_int:=PySem.W.mg_none_of X G (dn (b 5)),
  b_isinstance:=PySem.W.mg_none_of X G (dn (b 6)),
  b_len:=PySem.W.mg_none_of X G (dn (b 7)),
  b_list:=PySem.W.mg_none_of X G (dn (b 8)),
  b_max:=PySem.W.mg_none_of X G (dn (b 9)),
  b_min:=PySem.W.mg_none_of X G (dn (b 10)),
  b_range:=PySem.W.mg_none_of X G (dn (b 11)),
  b_repr:=PySem.W.mg_none_of X G (dn (b 12)),
  b_str:=PySem.W.mg_none_of X G (dn (b 13)),
  b_tuple:=PySem.W.mg_none_of X G (dn (b 14)),
  b_zip:=PySem.W.mg_none_of X G (dn (b 15)),
  is_number_:=⟨_,_,PySem.W.mg_of X G (bd (e 0)),ay (e 0),(ay (e 0)).binds (ps:=["thing"]) fun _ _ _ _ _ _=>mP (fun _=>rfl)⟩,
  common_divisor_:=⟨_,_,PySem.W.mg_of X G (bd (e 1)),ay (e 1),(ay (e 1)).binds (ps:=["n", "d"]) fun _ _ _ _ _ _=>dR (fun _ _=>rfl)⟩,
  is_fraction_:=⟨_,_,PySem.W.mg_of X G (bd (e 2)),ay (e 2),(ay (e 2)).binds (ps:=["thing"]) fun _ _ _ _ _ _=>mP (fun _=>rfl)⟩,
  is_from_nought_:=⟨_,_,PySem.W.mg_of X G (bd (e 3)),ay (e 3),(ay (e 3)).binds (ps:=["thing"]) fun _ _ _ _ _ _=>mP (fun _=>rfl)⟩,
  fraction_:=⟨_,_,PySem.W.mg_of X G (bd (e 4)),ay (e 4),(ay (e 4)).binds (ps:=["n", "d"]) fun _ _ _ _ _ _=>dR (fun _ _=>rfl)⟩,
  added_:=⟨_,_,PySem.W.mg_of X G (bd (e 5)),ay (e 5),(ay (e 5)).binds (ps:=["one", "other"]) fun _ _ _ _ _ _=>dR (fun _ _=>rfl)⟩,
  taken_:=⟨_,_,PySem.W.mg_of X G (bd (e 6)),ay (e 6),(ay (e 6)).binds (ps:=["one", "other"]) fun _ _ _ _ _ _=>dR (fun _ _=>rfl)⟩,
  times_:=⟨_,_,PySem.W.mg_of X G (bd (e 7)),ay (e 7),(ay (e 7)).binds (ps:=["one", "other"]) fun _ _ _ _ _ _=>dR (fun _ _=>rfl)⟩,
  compared_:=⟨_,_,PySem.W.mg_of X G (bd (e 8)),ay (e 8),(ay (e 8)).binds (ps:=["one", "other"]) fun _ _ _ _ _ _=>dR (fun _ _=>rfl)⟩,
  sum_of_:=⟨_,_,PySem.W.mg_of X G (bd (e 9)),ay (e 9),(ay (e 9)).binds (ps:=["parts"]) fun _ _ _ _ _ _=>mP (fun _=>rfl)⟩,
  goes_within_:=⟨_,_,PySem.W.mg_of X G (bd (e 10)),ay (e 10),(ay (e 10)).binds (ps:=["thing", "most"]) fun _ _ _ _ _ _=>dR (fun _ _=>rfl)⟩,
  is_tuple_of_:=⟨_,_,PySem.W.mg_of X G (bd (e 11)),ay (e 11),(ay (e 11)).binds (ps:=["thing", "size"]) fun _ _ _ _ _ _=>dR (fun _ _=>rfl)⟩,
  are_within_:=⟨_,_,PySem.W.mg_of X G (bd (e 12)),ay (e 12),(ay (e 12)).binds (ps:=["thing", "mosts"]) fun _ _ _ _ _ _=>dR (fun _ _=>rfl)⟩,
  may_send_:=⟨_,_,PySem.W.mg_of X G (bd (e 13)),ay (e 13),(ay (e 13)).binds (ps:=["day", "tie", "hour"]) fun _ _ _ _ _ _=>j5 (fun _ _ _=>rfl)⟩,
  tie_mosts_:=⟨_,_,PySem.W.mg_of X G (bd (e 14)),ay (e 14),(ay (e 14)).binds (ps:=["day", "tie"]) fun _ _ _ _ _ _=>dR (fun _ _=>rfl)⟩,
  store_mosts_:=⟨_,_,PySem.W.mg_of X G (bd (e 15)),ay (e 15),(ay (e 15)).binds (ps:=["day", "store"]) fun _ _ _ _ _ _=>dR (fun _ _=>rfl)⟩,
  are_hourly_:=⟨_,_,PySem.W.mg_of X G (bd (e 16)),ay (e 16),(ay (e 16)).binds (ps:=["thing", "mosts"]) fun _ _ _ _ _ _=>dR (fun _ _=>rfl)⟩,
  is_book_:=⟨_,_,PySem.W.mg_of X G (bd (e 17)),ay (e 17),(ay (e 17)).binds (ps:=["day", "thing"]) fun _ _ _ _ _ _=>dR (fun _ _=>rfl)⟩,
  comes_at_:=⟨_,_,PySem.W.mg_of X G (bd (e 18)),ay (e 18),(ay (e 18)).binds (ps:=["day", "book", "place", "hour"]) fun _ _ _ _ _ _=>Eg (fun _ _ _ _=>rfl)⟩,
  goes_at_:=⟨_,_,PySem.W.mg_of X G (bd (e 19)),ay (e 19),(ay (e 19)).binds (ps:=["day", "book", "place", "hour"]) fun _ _ _ _ _ _=>Eg (fun _ _ _ _=>rfl)⟩,
  wished_in_:=⟨_,_,PySem.W.mg_of X G (bd (e 20)),ay (e 20),(ay (e 20)).binds (ps:=["day", "place", "hour"]) fun _ _ _ _ _ _=>j5 (fun _ _ _=>rfl)⟩,
  hour_sum_:=⟨_,_,PySem.W.mg_of X G (bd (e 21)),ay (e 21),(ay (e 21)).binds (ps:=["day", "book", "place", "hour", "share"]) fun _ _ _ _ _ _=>Le (fun _ _ _ _ _=>rfl)⟩,
  adds_up_:=⟨_,_,PySem.W.mg_of X G (bd (e 22)),ay (e 22),(ay (e 22)).binds (ps:=["day", "book", "share"]) fun _ _ _ _ _ _=>j5 (fun _ _ _=>rfl)⟩,
  l_box_:=⟨_,_,PySem.W.mg_of X G (bd (e 23)),ay (e 23),(ay (e 23)).binds (ps:=["_law_script", "_law_k"]) fun _ _ _ _ _ _=>dR (fun _ _=>rfl)⟩,
  l_take_:=⟨_,_,PySem.W.mg_of X G (bd (e 24)),ay (e 24),(ay (e 24)).binds (ps:=["_law_box_here", "_law_many"]) fun _ _ _ _ _ _=>dR (fun _ _=>rfl)⟩,
  l_boxes_:=⟨_,_,PySem.W.mg_of X G (bd (e 25)),ay (e 25),(ay (e 25)).binds (ps:=["_law_script", "_law_cap"]) fun _ _ _ _ _ _=>dR (fun _ _=>rfl)⟩,
  l_fr_:=⟨_,_,PySem.W.mg_of X G (bd (e 26)),ay (e 26),(ay (e 26)).binds (ps:=["_law_top", "_law_bottom"]) fun _ _ _ _ _ _=>dR (fun _ _=>rfl)⟩,
  l_plus_:=⟨_,_,PySem.W.mg_of X G (bd (e 27)),ay (e 27),(ay (e 27)).binds (ps:=["_law_one", "_law_other", "_law_by_here"]) fun _ _ _ _ _ _=>j5 (fun _ _ _=>rfl)⟩,
  l_by_:=⟨_,_,PySem.W.mg_of X G (bd (e 28)),ay (e 28),(ay (e 28)).binds (ps:=["_law_one", "_law_other"]) fun _ _ _ _ _ _=>dR (fun _ _=>rfl)⟩,
  l_sign_:=⟨_,_,PySem.W.mg_of X G (bd (e 29)),ay (e 29),(ay (e 29)).binds (ps:=["_law_one", "_law_other"]) fun _ _ _ _ _ _=>dR (fun _ _=>rfl)⟩,
  l_names_:=⟨_,_,PySem.W.mg_of X G (bd (e 30)),ay (e 30),(ay (e 30)).binds (ps:=["_law_box_here", "_law_many"]) fun _ _ _ _ _ _=>dR (fun _ _=>rfl)⟩,
  l_gain_:=⟨_,_,PySem.W.mg_of X G (bd (e 31)),ay (e 31),(ay (e 31)).binds (ps:=["_law_box_here"]) fun _ _ _ _ _ _=>mP (fun _=>rfl)⟩,
  l_much_:=⟨_,_,PySem.W.mg_of X G (bd (e 32)),ay (e 32),(ay (e 32)).binds (ps:=["_law_box_here"]) fun _ _ _ _ _ _=>mP (fun _=>rfl)⟩,
  l_cost_:=⟨_,_,PySem.W.mg_of X G (bd (e 33)),ay (e 33),(ay (e 33)).binds (ps:=["_law_box_here"]) fun _ _ _ _ _ _=>mP (fun _=>rfl)⟩,
  l_day_:=⟨_,_,PySem.W.mg_of X G (bd (e 34)),ay (e 34),(ay (e 34)).binds (ps:=["_law_box_here"]) fun _ _ _ _ _ _=>mP (fun _=>rfl)⟩,
  l_day_tie_:=⟨_,_,PySem.W.mg_of X G (bd (e 35)),ay (e 35),(ay (e 35)).binds (ps:=["_law_box_here", "_law_names_here", "_law_hours"]) fun _ _ _ _ _ _=>j5 (fun _ _ _=>rfl)⟩,
  l_may_:=⟨_,_,PySem.W.mg_of X G (bd (e 36)),ay (e 36),(ay (e 36)).binds (ps:=["_law_day_here", "_law_row", "_law_hour"]) fun _ _ _ _ _ _=>j5 (fun _ _ _=>rfl)⟩,
  l_sums_:=⟨_,_,PySem.W.mg_of X G (bd (e 37)),ay (e 37),(ay (e 37)).binds (ps:=["_law_day_here", "_law_book", "_law_share"]) fun _ _ _ _ _ _=>j5 (fun _ _ _=>rfl)⟩,
  l_is_fr_:=⟨_,_,PySem.W.mg_of X G (bd (e 38)),ay (e 38),(ay (e 38)).binds (ps:=["_law_thing"]) fun _ _ _ _ _ _=>mP (fun _=>rfl)⟩,
  l_fits_:=⟨_,_,PySem.W.mg_of X G (bd (e 39)),ay (e 39),(ay (e 39)).binds (ps:=["_law_thing", "_law_mosts"]) fun _ _ _ _ _ _=>dR (fun _ _=>rfl)⟩,
  l_is_book_:=⟨_,_,PySem.W.mg_of X G (bd (e 40)),ay (e 40),(ay (e 40)).binds (ps:=["_law_day_here", "_law_thing"]) fun _ _ _ _ _ _=>dR (fun _ _=>rfl)⟩,
  l_adds_up_:=⟨_,_,PySem.W.mg_of X G (bd (e 41)),ay (e 41),(ay (e 41)).binds (ps:=["_law_day_here", "_law_book", "_law_share"]) fun _ _ _ _ _ _=>j5 (fun _ _ _=>rfl)⟩,
  l_any_book_:=⟨_,_,PySem.W.mg_of X G (bd (e 42)),ay (e 42),(ay (e 42)).binds (ps:=["_law_box_here", "_law_day_here"]) fun _ _ _ _ _ _=>dR (fun _ _=>rfl)⟩,
  l_odd_:=⟨_,_,PySem.W.mg_of X G (bd (e 43)),ay (e 43),(ay (e 43)).binds (ps:=["_law_box_here", "_law_thing"]) fun _ _ _ _ _ _=>dR (fun _ _=>rfl)⟩,
  l_bent_:=⟨_,_,PySem.W.mg_of X G (bd (e 44)),ay (e 44),(ay (e 44)).binds (ps:=["_law_box_here", "_law_thing", "_law_deep"]) fun _ _ _ _ _ _=>j5 (fun _ _ _=>rfl)⟩,
  l_little_more_:=⟨_,_,PySem.W.mg_of X G (bd (e 45)),ay (e 45),(ay (e 45)).binds (ps:=["_law_box_here", "_law_day_here", "_law_book"]) fun _ _ _ _ _ _=>j5 (fun _ _ _=>rfl)⟩,
  l_right_:=⟨_,_,PySem.W.mg_of X G (bd (e 46)),ay (e 46),(ay (e 46)).binds (ps:=["_law_day_here", "_law_thing", "_law_share"]) fun _ _ _ _ _ _=>j5 (fun _ _ _=>rfl)⟩,
  law_:=⟨_,_,PySem.W.mg_of X G (bd (e 47)),ay (e 47),(ay (e 47)).binds (ps:=["_law_script"]) fun _ _ _ _ _ _=>mP (fun _=>rfl)⟩ },fun s u=>?_⟩
 obtain ⟨_,_,_,_,_,_,_,_,_,z,_⟩:=(ay (e 47):yp K "law" "law" df _ _).ex
 show BindsTo s (iY K (PySem.W.nsIn K mainGlobals "law")) _ _
 rw [z]
 exact .of_eq rfl
end K54
open PySem PySem.W PyProof.Rows
set_option maxRecDepth 100000 in
set_option maxHeartbeats 0 in
theorem PySem.Challenge.cw_gainroads_k54_books_or_not_holds : PySem.Challenge.rw_gainroads_k54_books_or_not.Holds := by
 w_on;o_law
 refine holds_openX (q:=K54.qv) (loose:=[]) (Xt:=L2.Xt) (XP:=XL K54.qv []) (Yf:=L2.Yf) (Ya:=fun _=>K54.due) (N:=3042) (L2.left_tree rfl rfl (fun _=>rfl) L2.left) (fun s e=>xl_of s (Bool.and_eq_true_iff.mp e).1) XL.keeps (by rfl) (by rfl) (by rfl) (fun s e=>recFacts_of (Bool.and_eq_true_iff.mp e).2) (by rfl) (by first | assumption | decide +kernel) (by nofun) ⟨rfl,rfl,rfl,rfl,rfl,by nofun⟩ ?hw ?hc
 case hw=>w_witness2
 refine L2.walk_ofY (obs:=K54.obs) (due:=K54.due) (l:=PySem.Challenge.rw_gainroads_k54_books_or_not) (n:=63) (k:=40) (x := "_law_script") (CX:=L2.CX0) (sp:=K54.spLaw) rfl (by decide) rfl ⟨rfl,by decide,by decide,rfl⟩ ?F ?S ?C
 case F=>
  intro K w mg fa h y KX G hmg
  obtain ⟨T,hb⟩:=K54.txt_of y KX G
  have e0:=hmg.symm.trans T.law_.m
  cases e0
  exact ⟨T.law_.d,hb,fun base kb nb=>K54.law_ok T⟩
 case S=>exact fun K H a ns hl hO hS=>K54.law_start hl hO hS
 case C=>exact fun _ _ _ _ z=>z
