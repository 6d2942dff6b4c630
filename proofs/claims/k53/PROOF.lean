import PyProof.Rows.All
import Wide.All
import OpenK.AllK
import Wide.FinOn
import Lean
import PyProof.EqAt
import PyProof.EqKinds
import PyProof.TupleCall
import PyProof.CompFree
import PyProof.CompMap
import KE.LcSums
import PyProof.ZipIter
import PyProof.Draws
import KE.KRevSl
import KE.KListMore
import PyProof.Rows.StrJoin2
import PyProof.Rows.StrFin3
import PyProof.StrOps2
import PyProof.NeData
import PyProof.P3Eq
import PyProof.StrLawsRepr
import PyProof.ReprLen
import PyProof.Rows.IntBool
import PyProof.SliceStr2
import PyProof.P3In
import PyProof.Rows.StrLen
import KE.KStrOpen
import PyProof.FitsInt
import PyProof.Rows.ReprOcc
import PyProof.ListRange
import PyProof.AttrMissHeap
import PyProof.FactsAll.zip
import PyProof.FactsAll.tuple_3
import KE.KDictOf
import PyProof.SeqRoads2
import PyProof.DictCompW
import PyProof.Rows.StrInSeq3
import OpenK.KOwn
import KE.KIsAll
import KE.KTryMore
import PyProof.StationsW
import PyProof.RulesAs
import PyProof.NsDelKeeps
import KE.KDictSum
import KE.KIntText
import PyProof.StrCalls2
import PyProof.Rows.StrItems
import PyProof.DictUpdate
import PyProof.Rows.StrSplitCount
import PyProof.Rows.StrFirst
import PyProof.Rows.StrLawsPart
import PyProof.Rows.StrDigitsNeg
import KE.IntTextLaws
import PyProof.Rows.FStr
import PyProof.SeqRoads
import PyProof.Rows.SeqMore
import KE.KEqDict
import PyProof.FactsAll.tuple_2
import PyProof.DictValues
import PyProof.FactsAll.dict_4
import PyProof.Rows.SortStr
import PyProof.CollectIter
import PyProof.FactsAll.set_1
import PyProof.FactsAll.set_2
import PySem.Challenge.RW_gainroads_k53_days_or_not
set_option Elab.async false
set_option linter.all false
set_option maxRecDepth 100000
local macro_rules | `(tactic| nofun)=>`(tactic| decide +kernel)
local macro_rules | `(⟨$xs,*⟩)=>do
 let es:=xs.getElems
 unless es.any (fun e=>match e with | `(())=>true | _=>false) do Lean.Macro.throwUnsupported
 let mut o:=#[]
 for e in es do
  match e with
  | `(())=>o:=(o.push (←`(_))).push (←`(rfl))
  | _=>o:=o.push e
 `(⟨$o,*⟩)
set_option genSizeOf false
set_option genInjectivity false
namespace L2
inductive cj {α0 α1:Type} (p:α0→α1→Prop):Prop
 | mk (a0:α0) (a1:α1) (h:p a0 a1)
inductive eV {α0 α1 α2:Type} (p:α0→α1→α2→Prop):Prop
 | mk (a0:α0) (a1:α1) (a2:α2) (h:p a0 a1 a2)
inductive lO {α0 α1 α2 α3:Type} (p:α0→α1→α2→α3→Prop):Prop
 | mk (a0:α0) (a1:α1) (a2:α2) (a3:α3) (h:p a0 a1 a2 a3)
inductive Dj {α0 α1 α2 α3 α4:Type} (p:α0→α1→α2→α3→α4→Prop):Prop
 | mk (a0:α0) (a1:α1) (a2:α2) (a3:α3) (a4:α4) (h:p a0 a1 a2 a3 a4)
inductive Ii {α0 α1 α2 α3 α4 α5:Type} (p:α0→α1→α2→α3→α4→α5→Prop):Prop
 | mk (a0:α0) (a1:α1) (a2:α2) (a3:α3) (a4:α4) (a5:α5) (h:p a0 a1 a2 a3 a4 a5)
inductive E8 {α0 α1 α2 α3 α4 α5 α6:Type} (p:α0→α1→α2→α3→α4→α5→α6→Prop):Prop
 | mk (a0:α0) (a1:α1) (a2:α2) (a3:α3) (a4:α4) (a5:α5) (a6:α6) (h:p a0 a1 a2 a3 a4 a5 a6)
inductive yS {α0 α1 α2 α3 α4 α5 α6 α7:Type} (p:α0→α1→α2→α3→α4→α5→α6→α7→Prop):Prop
 | mk (a0:α0) (a1:α1) (a2:α2) (a3:α3) (a4:α4) (a5:α5) (a6:α6) (a7:α7) (h:p a0 a1 a2 a3 a4 a5 a6 a7)
inductive Gy {α0 α1 α2 α3 α4 α5 α6 α7 α8:Type} (p:α0→α1→α2→α3→α4→α5→α6→α7→α8→Prop):Prop
 | mk (a0:α0) (a1:α1) (a2:α2) (a3:α3) (a4:α4) (a5:α5) (a6:α6) (a7:α7) (a8:α8) (h:p a0 a1 a2 a3 a4 a5 a6 a7 a8)
end L2
set_option genSizeOf true
set_option genInjectivity true
local macro_rules | `(tactic| trivial)=>`(tactic| first | lia | omega)
namespace L2
open PySem PySem.Spec PyProof.Rows
abbrev bp:=Sum Int Str
def b9:bp→Value→Bool
 | .inl k,v=>Value.isInt k v
 | .inr x,v=>Value.isStrOf x v
def Iy (w:World):bp→Int
 | .inl k=>hashInt k
 | .inr x=>hashStr w x
theorem cF:∀{k:bp}{v:Value},b9 k v=true→(cj fun i t=>k=Sum.inl i∧v=Value.int i t)∨(cj fun x t=>k=Sum.inr x∧v=Value.str x t)
 | .inl i,v,h=>by
  obtain ⟨t,e⟩:=Value.isInt_shape (k:=i) (v:=v) h
  exact .inl ⟨i,t,rfl,e⟩
 | .inr x,v,h=>by
  obtain ⟨t,e⟩:=Value.isStrOf_shape (x:=x) (v:=v) h
  exact .inr ⟨x,t,rfl,e⟩
theorem A1 (i:Int) (t:Tok):b9 (.inl i) (.int i t)=true:=by simp [b9,Value.isInt]
theorem A4 (x:Str) (t:Tok):b9 (.inr x) (.str x t)=true:=by simp [b9,Value.isStrOf]
theorem FG (a b:Int):decide ((Sum.inl a:bp)=Sum.inl b)=(a==b):=by
 by_cases e:a=b
 ·subst e;simp
 ·have h:¬(Sum.inl a:bp)=Sum.inl b:=fun q=>e (Sum.inl.inj q)
  rw [decide_eq_false h]
  exact (beq_eq_false_iff_ne.mpr e).symm
theorem Fc (a b:Str):decide ((Sum.inr a:bp)=Sum.inr b)=decide (a=b):=by
 by_cases e:a=b
 ·subst e;simp
 ·have h:¬(Sum.inr a:bp)=Sum.inr b:=fun q=>e (Sum.inr.inj q)
  rw [decide_eq_false h,decide_eq_false e]
theorem Fl (a:Int) (b:Str):decide ((Sum.inl a:bp)=Sum.inr b)=false:=decide_eq_false (fun q=>nomatch q)
theorem FD (a:Str) (b:Int):decide ((Sum.inr a:bp)=Sum.inl b)=false:=decide_eq_false (fun q=>nomatch q)
def bT (prog:Program) (w:World):PySem.KeyKind prog w bp where
 is:=b9
 hash:=Iy w
 inj:=fun v a b ha hb=>by
  rcases cF ha with ⟨i,t,rfl,rfl⟩ | ⟨x,t,rfl,rfl⟩
  ·rcases cF hb with ⟨j,u,rfl,e⟩ | ⟨y,u,rfl,e⟩
   ·injection e with e1 _;rw [e1]
   ·exact nomatch e
  ·rcases cF hb with ⟨j,u,rfl,e⟩ | ⟨y,u,rfl,e⟩
   ·exact nomatch e
   ·injection e with e1 _;rw [e1]
 byValue:=fun k v h=>by
  rcases cF h with ⟨i,t,rfl,rfl⟩ | ⟨x,t,rfl,rfl⟩ <;> rfl
 pyHash:=fun hv h=>by
  rcases cF hv with ⟨i,t,rfl,rfl⟩ | ⟨x,t,rfl,rfl⟩
  ·exact wpAny_pyHash_int h
  ·exact wpAny_pyHash_str h
 eqBool:=fun hu hv h=>by
  rcases cF hu with ⟨i,t,rfl,rfl⟩ | ⟨x,t,rfl,rfl⟩
  ·rcases cF hv with ⟨j,u,rfl,rfl⟩ | ⟨y,u,rfl,rfl⟩
   ·rw [FG] at h;exact wpAny_eqBool_int h
   ·rw [Fl] at h;exact SeqAt.EqAt.int_str i t y u _ _ _ _ h
  ·rcases cF hv with ⟨j,u,rfl,rfl⟩ | ⟨y,u,rfl,rfl⟩
   ·rw [FD] at h;exact SeqAt.EqAt.str_int x t j u _ _ _ _ h
   ·rw [Fc] at h;exact wpAny_eqBool_str h
 «strs»:=fun k x t v h=>by
  rcases cF h with ⟨i,u,rfl,e⟩ | ⟨y,u,rfl,e⟩
  ·exact nomatch e
  ·injection e with e1 _
   subst e1
   cases v <;> rfl
inductive V where
 | non | bl (b:Bool) | int (i:Int) | str (x:Str) | byt (b:Array UInt8) | flt (b:UInt64) | ref (a:Addr) | ty (n:String)
 deriving DecidableEq
def bz:V→Value→Prop
 | .non,u=>u=Value.none
 | .bl b,u=>u=Value.bool b
 | .int i,u=>∃t,u=Value.int i t
 | .str x,u=>∃t,u=Value.str x t
 | .byt b,u=>∃t,u=Value.bytes b t
 | .flt b,u=>∃t,u=Value.float b t
 | .ref a,u=>u=Value.ref a
 | .ty n,u=>u=Value.type n
abbrev aH:List V→List Value→Prop:=Paired bz
theorem aH.length {xs:List V}{us:List Value} (r:aH xs us):xs.length=us.length:=Paired.length r
theorem aH.get:∀{xs:List V}{us:List Value}{i:Nat}{x:V},aH xs us→xs[i]?=some x→∃u,us[i]?=some u∧bz x u
 | _,_,_,_,.nil,e=>by simp at e
 | _,_,0,_,.cons r _,e=>by simp at e;subst e;exact ⟨_,rfl,r⟩
 | _,_,i+1,x,.cons _ t,e=>by
  obtain ⟨u,h1,h2⟩:=aH.get (i:=i) (x:=x) t (by simpa using e)
  exact ⟨u,by simpa using h1,h2⟩
theorem aH.set {x:V}{u:Value} (r:bz x u):∀{xs:List V}{us:List Value} (i:Nat),aH xs us→aH (xs.set i x) (us.set i u)
 | _,_,_,.nil=>.nil
 | _,_,0,.cons _ t=>.cons r t
 | _,_,i+1,.cons q t=>.cons q (aH.set r i t)
theorem aH.append:∀{xs ys:List V}{us ws:List Value},aH xs us→aH ys ws→aH (xs++ys) (us++ws)
 | _,_,_,_,.nil,s=>s
 | _,_,_,_,.cons r t,s=>.cons r (aH.append t s)
theorem aH.take:∀{xs:List V}{us:List Value} (n:Nat),aH xs us→aH (xs.take n) (us.take n)
 | _,_,0,_=>.nil
 | _,_,_+1,.nil=>.nil
 | _,_,n+1,.cons r t=>.cons r (aH.take n t)
theorem aH.drop:∀{xs:List V}{us:List Value} (n:Nat),aH xs us→aH (xs.drop n) (us.drop n)
 | _,_,0,r=>r
 | _,_,_+1,.nil=>.nil
 | _,_,n+1,.cons _ t=>aH.drop n t
def CM:Option V→Option Value→Prop
 | some v,some u=>bz v u
 | none,none=>True
 | _,_=>False
def KV {κ:Type}:List (κ×V)→List (κ×Value)→Prop:=Paired fun (p:κ×V) (q:κ×Value)=>p.1=q.1∧bz p.2 q.2
def kV:bp→V
 | .inl i=>.int i
 | .inr x=>.str x
inductive HO where
 | lst (xs:List V)
 | tup (xs:List V)
 | dK (kvs:List (bp×V)) | dT (kvs:List (List bp×V))
 | set (S:Int→Bool) (n:Nat)
 | ins (C dx:Addr) (fs:List (Str×V))
 | own (x:Addr)
 | xd (fs:List (Str×V))
 | met (f x:Addr)
 | rng (lo hi:Int)
 | frz (o:Obj) (u:HO)
 | tbl (ps:Array Value)
 | ext (φ:Heap→Prop)
abbrev Hp:=Addr→Option HO
def bN (H:Hp) (a:Addr) (o:HO):Hp:=fun b=>if b=a then some o else H b
theorem bf {H:Hp}{a:Addr}{o:HO}:bN H a o a=some o:=by unfold bN;rw [if_pos rfl]
theorem aT {H:Hp}{a b:Addr}{o:HO} (h:b≠a):bN H a o b=H b:=by unfold bN;rw [if_neg h]
theorem zY {H:Hp}{a b:Addr}{o u:HO} (h:H a=some o) (h':H b=some u) (d:o≠u):a≠b:=by
 intro e;subst e;rw [h] at h';exact d (Option.some.inj h')
theorem bc {H:Hp}{a b:Addr}{o:HO} (h:H a=some o) (h':H b=none):a≠b:=by
 intro e;subst e;rw [h] at h';cases h'
section
variable (P:Program) (w:World)
def cv (H:Hp) (h:Heap) (a:Addr):HO→Prop
 | .lst xs=>xs.length≤sizeLine∧cj fun (its:List Value) (n:Nat)=>aH xs its∧h.get? a=some { cls:=.type "list",data:=.seq its.toArray n }
 | .tup xs=>xs.length≤sizeLine∧∃its:List Value,aH xs its∧IsTup h a its.toArray∧∃o,h.get? a=some o∧o.dict=none
 | .dK kvs=>kvs.length≤sizeLine∧(a==sysModules)=false∧∃vs,KV kvs vs∧h.DictOf (bT P w) a vs
 | .dT kvs=>kvs.length≤sizeLine∧(a==sysModules)=false∧∃xs:List (List bp×Addr×Value),
  Paired (fun (p:List bp×V) (q:List bp×Addr×Value)=>p.1=q.1∧H q.2.1=some (.tup (p.1.map kV))∧bz p.2 q.2.2) kvs xs∧
  eV fun o es ep=>h.get? a=some o∧o.ExactDict∧o.data=.dict es ep∧es.toList=xs.map (entryOfKey (tupleKind (bT P w)))∧(xs.map (·.1)).Nodup
 | .set S n=>h.SetOf (intKind P w) a S n
 | .ins C dx fs=>H dx=some (.own a)∧fs.length≤1000∧dx≠a∧h.get? a=some (PySem.W.instObj C dx)∧
  ∃mA,h.Ns1 dx mA∧(∀f,CM (fs.lookup f) (mA f))∧PySem.Within mA (fs.map (·.1))
 | .own _=>∃o,h.get? a=some o
 | .xd fs=>∃mA,h.Ns1 a mA∧∀f,CM (fs.lookup f) (mA f)
 | .rng lo hi=>eV fun t u v=>h.get? a=some { cls:=.type "range",data:=.fields #[.int lo t,.int hi u,.int 1 v] }
 | .frz o u=>h.get? a=some o∧cv H h a u
 | .tbl ps=>h.get? a=some { cls:=.none,data:=.fields ps }
 | .met f x=>h.get? a=some (PySem.W.methodObj (.ref f) (.ref x))
 | .ext φ=>φ h∧(∃o,h.get? a=some o)∧∀h1 h2:Heap,φ h1→(∀o,h1.get? a=some o→h2.get? a=some o)→φ h2
def fK (H:Hp) (h:Heap):Prop:=∀a o,H a=some o→cv P w H h a o
end
section
variable {P:Program}{w:World}{H H':Hp}{h h':Heap}{a:Addr}{o:HO}
theorem cv.lt (x:cv P w H h a o):a<h.objs.size:=by
 cases o with
 | lst xs=>obtain ⟨_,_,_,_,e⟩:=x;exact Heap.lt_size e
 | tup xs=>obtain ⟨_,_,_,p,_⟩:=x;exact p.lt
 | dK kvs=>obtain ⟨_,_,_,_,o,_,_,e,_⟩:=x;exact Heap.lt_size e
 | dT kvs=>obtain ⟨_,_,_,_,o,_,_,e,_⟩:=x;exact Heap.lt_size e
 | set S n=>obtain ⟨o,_,_,_,e,_⟩:=x;exact Heap.lt_size e
 | ins C dx fs=>obtain ⟨_,_,_,e,_⟩:=x;exact Heap.lt_size e
 | own y=>obtain ⟨_,e⟩:=x;exact Heap.lt_size e
 | xd fs=>obtain ⟨_,⟨_,_,_,e,_⟩,_⟩:=x;exact Heap.lt_size e
 | rng lo hi=>obtain ⟨_,_,_,e⟩:=x;exact Heap.lt_size e
 | frz ob u=>obtain ⟨e,_⟩:=x;exact Heap.lt_size e
 | tbl ps=>exact Heap.lt_size (show h.get? a=some _ from x)
 | met f y=>exact Heap.lt_size (show h.get? a=some _ from x)
 | ext φ=>obtain ⟨_,⟨_,e⟩,_⟩:=x;exact Heap.lt_size e
theorem Paired.mapP {α β:Type}{F G:α→β→Prop}:∀{l₁:List α}{l₂:List β},Paired F l₁ l₂→(∀a b,F a b→G a b)→Paired G l₁ l₂
 | _,_,.nil,_=>.nil
 | _,_,.cons r t,f=>.cons (f _ _ r) (Paired.mapP t f)
theorem cv.stay (x:cv P w H h a o) (k:∀b u,(b=a∨H b=some (.own a))→h.get? b=some u→h'.get? b=some u)
 (ho:∀b,H b=some (.own a)→H' b=some (.own a)) (ht:∀b xs,H b=some (.tup xs)→H' b=some (.tup xs)):cv P w H' h' a o:=by
 induction o with
 | lst xs=>obtain ⟨z,its,n,r,e⟩:=x;exact ⟨z,its,n,r,k _ _ (.inl rfl) e⟩
 | tup xs=>obtain ⟨z,its,r,⟨ob,e,c⟩,od,e',c'⟩:=x;exact ⟨z,its,r,⟨ob,k _ _ (.inl rfl) e,c⟩,od,k _ _ (.inl rfl) e',c'⟩
 | dK kvs=>obtain ⟨z,y,vs,r,ob,es,ep,e,c⟩:=x;exact ⟨z,y,vs,r,ob,es,ep,k _ _ (.inl rfl) e,c⟩
 | dT kvs=>
  obtain ⟨z,y,xs,r,ob,es,ep,e,c⟩:=x
  exact ⟨z,y,xs,Paired.mapP r fun p q z=>⟨z.1,ht _ _ z.2.1,z.2.2⟩,ob,es,ep,k _ _ (.inl rfl) e,c⟩
 | set S n=>obtain ⟨ob,es,ep,t,e,c⟩:=x;exact ⟨ob,es,ep,t,k _ _ (.inl rfl) e,c⟩
 | ins C dx fs=>
  obtain ⟨d,z,ne,e,mA,⟨od,es,ep,e2,c⟩,r⟩:=x
  exact ⟨ho _ d,z,ne,k _ _ (.inl rfl) e,mA,⟨od,es,ep,k _ _ (.inr d) e2,c⟩,r⟩
 | own y=>obtain ⟨ob,e⟩:=x;exact ⟨ob,k _ _ (.inl rfl) e⟩
 | xd fs=>obtain ⟨mA,⟨od,es,ep,e,c⟩,r⟩:=x;exact ⟨mA,⟨od,es,ep,k _ _ (.inl rfl) e,c⟩,r⟩
 | rng lo hi=>obtain ⟨t,u,v,e⟩:=x;exact ⟨t,u,v,k _ _ (.inl rfl) e⟩
 | frz ob u ih=>obtain ⟨e,q⟩:=x;exact ⟨k _ _ (.inl rfl) e,ih q⟩
 | tbl ps=>
  have e:h.get? a=some { cls:=.none,data:=.fields ps }:=x
  show h'.get? a=some { cls:=.none,data:=.fields ps }
  exact k a _ (.inl rfl) e
 | met f y=>
  have e:h.get? a=some (PySem.W.methodObj (.ref f) (.ref y)):=x
  show h'.get? a=some (PySem.W.methodObj (.ref f) (.ref y))
  exact k a _ (.inl rfl) e
 | ext φ=>obtain ⟨p,⟨o,e⟩,st⟩:=x;exact ⟨st _ _ p fun o q=>k _ _ (.inl rfl) q,⟨o,k _ _ (.inl rfl) e⟩,st⟩
theorem fK.lt (x:fK P w H h) (e:H a=some o):a<h.objs.size:=(x a o e).lt
theorem fK.fresh (x:fK P w H h) (e:h.objs.size≤a):H a=none:=by
 cases q:H a with
 | none=>rfl
 | some u=>exact absurd (Nat.lt_of_lt_of_le (x.lt q) e) (Nat.lt_irrefl _)
theorem fK.kept (x:fK P w H h) (k:∀b u,h.get? b=some u→h'.get? b=some u):fK P w H h':=fun a o e=>
 (x a o e).stay (fun b u _ q=>k b u q) (fun _ q=>q) fun _ _ q=>q
theorem fK.laid (x:fK P w H h) (k:∀b u,h.get? b=some u→h'.get? b=some u) (hp:h.objs.size≤a) (new:cv P w (bN H a o) h' a o):fK P w (bN H a o) h':=fun b u e=>by
 have hn:=x.fresh hp
 by_cases hb:b=a
 ·subst hb;rw [bf] at e;cases e;exact new
 ·rw [aT hb] at e
  exact (x b u e).stay (fun c v _ q=>k c v q) (fun c q=>by rw [aT (bc q hn)];exact q) fun c xs q=>by rw [aT (bc q hn)];exact q
end
def Rd (H:Hp) (a:Addr) (u:HO):Prop:=H a=some u∨∃o,H a=some (.frz o u)
theorem Rd.ok {P:Program}{w:World}{H:Hp}{h:Heap}{a:Addr}{u:HO} (r:Rd H a u) (x:fK P w H h):cv P w H h a u:=by
 rcases r with r | ⟨o,r⟩
 ·exact x a u r
 ·obtain ⟨_,q⟩:=x a _ r
  exact q
def CS:Option HO→Prop
 | some (.lst _)=>True
 | some (.dK _)=>True
 | some (.dT _)=>True
 | some (.set _ _)=>True
 | some (.ins _ _ _)=>True
 | some (.ext _)=>True
 | _=>False
section
variable {P:Program}{w:World}{H:Hp}{h h':Heap}{x e:Addr}{o':HO}
theorem fK.write (ok:fK P w H h) (mu:CS (H x)) (he:e=x∨H e=some (.own x)) (k:∀b u,b≠e→h.get? b=some u→h'.get? b=some u) (heo:∃u,h'.get? e=some u)
 (new:cv P w (bN H x o') h' x o'):fK P w (bN H x o') h':=fun b u q=>by
 have nown:∀c y,H c=some (.own y)→c≠x:=fun c y r z=>by subst z;rw [r] at mu;exact mu
 have ntup:∀c xs,H c=some (.tup xs)→c≠x:=fun c xs r z=>by subst z;rw [r] at mu;exact mu
 by_cases hb:b=x
 ·subst hb;rw [bf] at q;cases q;exact new
 ·rw [aT hb] at q
  by_cases hbe:b=e
  ·have q':H b=some (.own x):=by
    rcases he with z | z
    ·exact absurd (hbe.trans z) hb
    ·rw [hbe];exact z
   rw [q] at q';cases q'
   obtain ⟨v,hv⟩:=heo
   exact ⟨v,by rw [hbe];exact hv⟩
  ·refine (ok b u q).stay (fun c v hc r=>k c v ?_ r) (fun c r=>by rw [aT (nown c b r)];exact r) fun c xs r=>by rw [aT (ntup c xs r)];exact r
   rcases hc with rfl | hc
   ·exact hbe
   ·rintro rfl
    rcases he with z | z
    ·exact nown c b hc z
    ·rw [hc] at z;cases z;exact hb rfl
end
structure Un (fs ex:List Addr) (H H':Hp) (h h':Heap):Prop where
 keep:∀b o,h.get? b=some o→H b=none→b∉fs→b∉ex→h'.get? b=some o
 slot:∀b o,h.get? b=some o→H b=none→b∈fs→b∉ex→∃sl,h'.get? b=some { o with slots:=sl }
 free:∀b o,h.get? b=some o→H b=none→b∉ex→H' b=none
 there:∀b o,h.get? b=some o→b∉ex→∃o',h'.get? b=some o'
 tups:∀b xs,H b=some (.tup xs)→H' b=some (.tup xs)
 frzs:∀b o u,H b=some (.frz o u)→H' b=some (.frz o u)
 tbls:∀b ps,H b=some (.tbl ps)→∃more,H' b=some (.tbl (ps++more))
section
variable {fs fs' ex ex':List Addr}{H H1 H2:Hp}{h h1 h2 h':Heap}{a x e:Addr}{o:HO}
theorem Un.any (u:Un fs ex H H1 h h1) {b:Addr}{ob:Obj} (q:h.get? b=some ob) (n:H b=none) (hx:b∉ex):∃sl,h1.get? b=some { ob with slots:=sl }:=by
 by_cases hb:b∈fs
 ·exact u.slot b ob q n hb hx
 ·exact ⟨ob.slots,u.keep b ob q n hb hx⟩
theorem Un.kept (k:∀b u,h.get? b=some u→h'.get? b=some u):Un fs ex H H h h':=
 ⟨fun b ob q _ _ _=>k b ob q,fun b ob q _ _ _=>⟨ob.slots,k b ob q⟩,fun _ _ _ n _=>n,fun b ob q _=>⟨ob,k b ob q⟩,fun _ _ q=>q,fun _ _ _ q=>q,fun _ ps q=>⟨#[],by rw [q];simp⟩⟩
theorem Un.refl:Un fs ex H H h h:=Un.kept fun _ _ q=>q
theorem Un.laid (k:∀b u,h.get? b=some u→h'.get? b=some u) (hp:h.objs.size≤a) (hn:H a=none):Un fs ex H (bN H a o) h h' where
 keep:=fun b u q _ _ _=>k b u q
 slot:=fun b u q _ _ _=>⟨u.slots,k b u q⟩
 free:=fun b u q n _=>by rw [aT (Nat.ne_of_lt (Nat.lt_of_lt_of_le (Heap.lt_size q) hp))];exact n
 there:=fun b u q _=>⟨u,k b u q⟩
 tups:=fun b xs q=>by rw [aT (bc q hn)];exact q
 frzs:=fun b u xs q=>by rw [aT (bc q hn)];exact q
 tbls:=fun b ps q=>⟨#[],by rw [aT (bc q hn),q];simp⟩
theorem Un.write (mu:CS (H x)) (he:e=x∨H e=some (.own x)) (k:∀b u,b≠e→h.get? b=some u→h'.get? b=some u) (heo:∃u,h'.get? e=some u):Un fs ex H (bN H x o) h h':=by
 have hx:∀b,H b=none→b≠x:=fun b n z=>by subst z;rw [n] at mu;exact mu
 have hb:∀b,H b=none→b≠e:=fun b n z=>by
  subst z
  rcases he with r | r
  ·exact hx b n r
  ·rw [n] at r;cases r
 have hm:∀b u,H b=some u→¬CS (some u)→b≠x:=fun b u q nm z=>by subst z;rw [q] at mu;exact nm mu
 refine ⟨fun b u q n _ _=>k b u (hb b n) q,fun b u q n _ _=>⟨u.slots,k b u (hb b n) q⟩,fun b u q n _=>by rw [aT (hx b n)];exact n,fun b u q _=>?_,
  fun b xs q=>by rw [aT (hm b _ q fun z=>z)];exact q,fun b u xs q=>by rw [aT (hm b _ q fun z=>z)];exact q,fun b ps q=>⟨#[],by rw [aT (hm b _ q fun z=>z),q];simp⟩⟩
 by_cases hbe:b=e
 ·subst hbe;exact heo
 ·exact ⟨u,k b u hbe q⟩
end
def C6 (h:Heap) (H:Hp):List Addr:=(List.range h.objs.size).filter fun a=>(H a).isSome
def oB (h:Heap) (H:Hp):Heap:=PySem.W.hideAll h (C6 h H)
theorem AT (h:Heap) (H:Hp):(oB h H).objs.size=h.objs.size:=PySem.W.hideAll_size _ _
theorem BH {h:Heap}{H:Hp}{b:Addr}{o:Obj} (e:h.get? b=some o) (n:H b=none):(oB h H).get? b=some o:=
 PySem.W.hideAll_get _ e fun hm=>by
  have q:(H b).isSome=true:=(List.mem_filter.mp hm).2
  rw [n] at q;simp at q
theorem DK {h:Heap}{H:Hp}{b:Addr}{o:Obj} (e:(oB h H).get? b=some o):h.get? b=some o∧H b=none:=by
 have e':h.get? b=some o:=PySem.W.of_hideAll (C6 h H) e
 refine ⟨e',?_⟩
 cases q:H b with
 | none=>rfl
 | some x=>
  have hm:b∈C6 h H:=List.mem_filter.mpr ⟨List.mem_range.mpr (Heap.lt_size e'),by simp [q]⟩
  have z:(oB h H).get? b=none:=PySem.W.hideAll_none (C6 h H) hm
  rw [z] at e;cases e
structure Mod (K:PySem.W.Frag) (mg:Str→Option Value) (base:Heap):Prop where
 kin:K.In base
 glob:base.Ns mainGlobals mg
 blt:∃mb,base.Ns builtinsNs mb∧∀x:Str,x≠"__name__"→mb x=bootBuiltins x
 nolimit:base.NoLimit
structure Cx where
 prog:Program
 w:World
 K:PySem.W.Frag
 mg:Str→Option Value
 base:Heap
 A:Around
 N:List Str
 s₀:Shared
 H₀:Hp
 env:Env
 outer:List Env
 stack:List Env
 ex:List Addr
 fn:Str→Bool
 calm:Bool
 pn:List (Addr×Obj)
 xe:Value→Shared→Prop
def pJ (l:List Env):List Addr:=l.filterMap (·.frame)
abbrev Cx.fs (X:Cx):List Addr:=pJ X.outer
def Di (sc:Scope) (x:Str):Prop:=sc.names.lookup x=some .local∨sc.names.lookup x=some .cell∨sc.names.lookup x=some .free
def C1 (sc:Scope) (x:Str):Prop:=sc.names.lookup x=some .local∨sc.names.lookup x=some .cell
def IG (env:Env) (h:Heap) (m:Str→Option Value) (x:Str) (u:Value):Prop:=
 (env.kindOf x=some .local∧m x=some u)∨((env.kindOf x=some .cell∨env.kindOf x=some .free)∧∃c,env.cells.lookup x=some c∧h.IsCell c (some u))
structure Cx.Ok (X:Cx):Prop where
 mod:Mod X.K X.mg X.base
 kind:X.env.scope.kind=.function
 glob:X.env.globals=mainGlobals
 blt:X.env.builtins=builtinsNs
 above:X.s₀.heap.objs.size≤X.env.locals
 inj:∀x y c,X.env.cells.lookup x=some c→X.env.cells.lookup y=some c→x=y
 has:∀x,(X.env.kindOf x=some .cell∨X.env.kindOf x=some .free)→∃c,X.env.cells.lookup x=some c
 cab:∀x c,X.fn x=true→X.env.cells.lookup x=some c→X.s₀.heap.objs.size≤c
 hd:X.calm=true→X.A.handled=none
 frames:X.A.frames=some X.stack
 stk:X.stack=X.outer∨(X.stack=X.env :: X.outer∧X.env.frame=some X.env.locals)
 exf:∀b∈X.ex,b≠X.env.locals∧∀x c,X.env.cells.lookup x=some c→c≠b
 bs:∀b o,X.base.get? b=some o→X.s₀.heap.get? b=some o∧X.H₀ b=none
 bsz:X.base.objs.size≤X.s₀.heap.objs.size
 noex:∀b o,X.base.get? b=some o→b∉X.ex
 exfs:∀b∈X.ex,b∉X.fs
 funs:X.s₀.heap.FunFrames X.base X.outer
 frf:∀b∈X.fs,X.H₀ b=none
structure af (X:Cx) (pins:List (Addr×Obj)) (σ:List (Option V)) (H:Hp) (s:Shared):Prop where
 ok:X.Ok
 os:s.os=X.s₀.os
 bare:AllBare s.gens
 base:Un X.fs X.ex X.H₀ H X.s₀.heap s.heap
 loc:∃m,s.heap.Ns X.env.locals m∧∀(i:Nat) (x:Str) (v:V),X.N[i]?=some x→σ[i]?=some (some v)→Di X.env.scope x→∃u,bz v u∧IG X.env s.heap m x u
 cell:∀x c,X.env.cells.lookup x=some c→∃v,s.heap.IsCell c v
 free:H X.env.locals=none
 freeC:∀x c,X.env.cells.lookup x=some c→H c=none
 pin:∀p∈X.pn++pins,s.heap.get? p.1=some p.2∧H p.1=none∧p.1≠X.env.locals∧p.1∉X.fs∧∀v,p.2.data≠.cell v
 hok:fK X.prog X.w H s.heap
 len:σ.length=X.N.length
section
variable {X:Cx}{pins:List (Addr×Obj)}{σ:List (Option V)}{H H':Hp}{s:Shared}{h':Heap}
theorem Cx.Ok.nofr (ok:X.Ok) {b:Addr}{o:Obj} (e:X.base.get? b=some o):b∉X.fs:=fun hb=>by
 have:=(ok.funs.mem hb).1
 rw [e] at this;cases this
theorem af.bs (I:af X pins σ H s):∀b o,X.base.get? b=some o→s.heap.get? b=some o∧H b=none:=fun b o e=>
 ⟨I.base.keep b o (I.ok.bs b o e).1 (I.ok.bs b o e).2 (I.ok.nofr e) (I.ok.noex b o e),I.base.free b o (I.ok.bs b o e).1 (I.ok.bs b o e).2 (I.ok.noex b o e)⟩
theorem af.bk (I:af X pins σ H s):∀b o,X.base.get? b=some o→s.heap.get? b=some o:=fun b o e=>(I.bs b o e).1
theorem af.mod (I:af X pins σ H s):Mod X.K X.mg X.base:=I.ok.mod
theorem af.kIn (I:af X pins σ H s):X.K.In s.heap:=I.ok.mod.kin.keeps I.bk
theorem af.lt (I:af X pins σ H s):X.env.locals<s.heap.objs.size:=let ⟨_,hn,_⟩:=I.loc;hn.lt
theorem af.sz (I:af X pins σ H s):X.s₀.heap.objs.size≤s.heap.objs.size:=Nat.le_trans I.ok.above (Nat.le_of_lt I.lt)
theorem af.nofs (I:af X pins σ H s) {a:Addr} (h:s.heap.objs.size≤a):a∉X.fs:=fun hb=>by
 obtain ⟨_,o,ho,_⟩:=I.ok.funs.mem hb
 exact absurd (Nat.lt_of_lt_of_le (Heap.lt_size ho) (Nat.le_trans I.sz h)) (Nat.lt_irrefl _)
theorem af.cne (I:af X pins σ H s):∀x c,X.env.cells.lookup x=some c→c≠X.env.locals:=fun x c e z=>by
 obtain ⟨v,o,ho,hd⟩:=I.cell x c e
 obtain ⟨m,⟨o',es,ep,ho',hd',_⟩,_⟩:=I.loc
 rw [z,ho'] at ho;cases ho;rw [hd'] at hd;cases hd
theorem af.funs (I:af X pins σ H s):s.heap.FunFrames X.base X.outer:=by
 have all:∀(l:List Env),(∀b∈pJ l,b∈X.fs)→X.s₀.heap.FunFrames X.base l→s.heap.FunFrames X.base l:=by
  intro l
  induction l with
  | nil=>intro _ _;trivial
  | cons env r ih=>
   intro hs hl
   obtain ⟨hk,⟨L,o,hf,hn,ho,hd⟩,hr⟩:=hl
   have hL:L∈X.fs:=hs L (by unfold pJ;rw [List.filterMap_cons,hf];exact List.mem_cons_self)
   obtain ⟨sl,e⟩:=I.base.slot L o ho (I.ok.frf L hL) hL fun z=>I.ok.exfs L z hL
   exact ⟨hk,⟨L,_,hf,hn,e,hd⟩,ih (fun b hb=>hs b (by unfold pJ;rw [List.filterMap_cons,hf];exact List.mem_cons_of_mem _ hb)) hr⟩
 exact all X.outer (fun _ hb=>hb) I.ok.funs
theorem af.stack (I:af X pins σ H s):s.heap.FunFrames X.base X.stack:=by
 rcases I.ok.stk with e | ⟨e,hf⟩
 ·rw [e];exact I.funs
 ·rw [e]
  obtain ⟨m,hn,_⟩:=I.loc
  refine .cons (by rw [I.ok.kind];decide) hf hn ?_ I.funs
  exact Heap.get?_none_of_le (Nat.le_trans I.ok.bsz I.ok.above)
theorem af.stkSub (I:af X pins σ H s):∀b∈pJ X.stack,b∈X.env.locals :: X.fs:=fun b hb=>by
 rcases I.ok.stk with e | ⟨e,hf⟩
 ·rw [e] at hb;exact List.mem_cons_of_mem _ hb
 ·rw [e] at hb
  unfold pJ at hb
  rw [List.filterMap_cons,hf] at hb
  exact hb
theorem af.stkFree (I:af X pins σ H s):∀b∈pJ X.stack,H b=none:=fun b hb=>by
 rcases List.mem_cons.mp (I.stkSub b hb) with e | hb
 ·rw [e];exact I.free
 ·obtain ⟨_,o,ho,_⟩:=I.ok.funs.mem hb
  exact I.base.free b o ho (I.ok.frf b hb) fun z=>I.ok.exfs b z hb
theorem af.step {g':Array GenState}{t':Nat}{d':Drawn}{ch:List Addr} (I:af X pins σ H s)
 (hch:∀b∈ch,(b∈X.ex∨X.s₀.heap.objs.size≤b)∧b≠X.env.locals∧(∀x c,X.env.cells.lookup x=some c→c≠b)∧∀p∈X.pn++pins,p.1≠b)
 (keep:∀b o,b≠X.env.locals→b∉X.fs→b∉ch→s.heap.get? b=some o→H b=none→h'.get? b=some o)
 (slot:∀b o,b≠X.env.locals→b∈X.fs→b∉ch→s.heap.get? b=some o→H b=none→∃sl,h'.get? b=some { o with slots:=sl }) (free:∀b o,b∉ch→s.heap.get? b=some o→H b=none→H' b=none)
 (there:∀b o,b∉ch→s.heap.get? b=some o→∃o',h'.get? b=some o')
 (tups:∀b xs,H b=some (.tup xs)→H' b=some (.tup xs)) (frzs:∀b o u,H b=some (.frz o u)→H' b=some (.frz o u)) (tbls:∀b ps,H b=some (.tbl ps)→∃more,H' b=some (.tbl (ps++more)))
 (ns:∀m,s.heap.Ns X.env.locals m→h'.Ns X.env.locals m) (hok:fK X.prog X.w H' h') (hg:AllBare g') :
 af X pins σ H' { s with heap:=h',gens:=g',drawn:=d',toks:=t' }:=by
 have neL:∀b o,X.s₀.heap.get? b=some o→b≠X.env.locals:=fun b o e=>Nat.ne_of_lt (Nat.lt_of_lt_of_le (Heap.lt_size e) I.ok.above)
 have neC:∀b o,X.s₀.heap.get? b=some o→b∉X.ex→b∉ch:=fun b o e hx hb=>by
  rcases (hch b hb).1 with z | z
  ·exact hx z
  ·exact absurd (Nat.lt_of_lt_of_le (Heap.lt_size e) z) (Nat.lt_irrefl _)
 have cellK:∀x c,X.env.cells.lookup x=some c→∀v,s.heap.IsCell c v→h'.IsCell c v:=fun x c e v ⟨o,ho,hd⟩=>by
  have nch:c∉ch:=fun z=>(hch c z).2.2.1 x c e rfl
  by_cases hc:c∈X.fs
  ·obtain ⟨sl,q⟩:=slot c o (I.cne x c e) hc nch ho (I.freeC x c e)
   exact ⟨_,q,hd⟩
  ·exact ⟨o,keep c o (I.cne x c e) hc nch ho (I.freeC x c e),hd⟩
 refine ⟨I.ok,I.os,hg,⟨fun b o e n hb hx=>?_,fun b o e n hb hx=>?_,fun b o e n hx=>?_,fun b o e hx=>?_,fun b xs e=>tups b xs (I.base.tups b xs e),fun b o xs e=>frzs b o xs (I.base.frzs b o xs e),fun b ps e=>?_⟩,?_,fun x c e=>?_,?_,fun x c e=>?_,fun p hp=>?_,hok,I.len⟩
 ·exact keep b o (neL b o e) hb (neC b o e hx) (I.base.keep b o e n hb hx) (I.base.free b o e n hx)
 ·obtain ⟨sl,e1⟩:=I.base.slot b o e n hb hx
  obtain ⟨sl',e2⟩:=slot b _ (neL b o e) hb (neC b o e hx) e1 (I.base.free b o e n hx)
  exact ⟨sl',e2⟩
 ·obtain ⟨o',e1⟩:=I.base.there b o e hx
  exact free b o' (neC b o e hx) e1 (I.base.free b o e n hx)
 ·obtain ⟨o',e1⟩:=I.base.there b o e hx
  exact there b o' (neC b o e hx) e1
 ·obtain ⟨m1,e1⟩:=I.base.tbls b ps e
  obtain ⟨m2,e2⟩:=tbls b _ e1
  exact ⟨m1++m2,by rw [e2,Array.append_assoc]⟩
 ·obtain ⟨m,hn,hl⟩:=I.loc
  refine ⟨m,ns m hn,fun i x v e1 e2 e3=>?_⟩
  obtain ⟨u,r,l⟩:=hl i x v e1 e2 e3
  refine ⟨u,r,?_⟩
  rcases l with l | ⟨k,c,e,z⟩
  ·exact .inl l
  ·exact .inr ⟨k,c,e,cellK x c e _ z⟩
 ·obtain ⟨v,z⟩:=I.cell x c e
  exact ⟨v,cellK x c e v z⟩
 ·obtain ⟨m,⟨o,_,_,ho,_⟩,_⟩:=I.loc
  exact free _ o (fun z=>(hch _ z).2.1 rfl) ho I.free
 ·obtain ⟨v,o,ho,hd⟩:=I.cell x c e
  exact free c o (fun z=>(hch c z).2.2.1 x c e rfl) ho (I.freeC x c e)
 ·obtain ⟨e,n,ne,nf,d⟩:=I.pin p hp
  have nch:p.1∉ch:=fun z=>(hch p.1 z).2.2.2 p hp rfl
  exact ⟨keep p.1 p.2 ne nf nch e n,free p.1 p.2 nch e n,ne,nf,d⟩
theorem af.un {t':Nat} (I:af X pins σ H s) (u:Un X.fs [] H H' s.heap h') (hok:fK X.prog X.w H' h'):af X pins σ H' { s with heap:=h',toks:=t' }:=by
 obtain ⟨m,⟨o,es,ep,ho,r⟩,_⟩:=id I.loc
 obtain ⟨sl,hL⟩:=u.any ho I.free (by simp)
 exact I.step (g':=s.gens) (d':=s.drawn) (ch:=[]) (fun _ z=>nomatch z) (fun b o _ hb _ e n=>u.keep b o e n hb (by simp)) (fun b o _ hb _ e n=>u.slot b o e n hb (by simp)) (fun b o _ e n=>u.free b o e n (by simp)) (fun b o _ e=>u.there b o e (by simp)) u.tups u.frzs u.tbls (fun m' hm=>by
  obtain ⟨o',es',ep',ho',r'⟩:=hm
  rw [ho] at ho';cases ho'
  exact ⟨_,es',ep',hL,r'⟩) hok I.bare
theorem af.call {g':Array GenState}{t':Nat}{d':Drawn}{ch:List Addr} (I:af X pins σ H s) (u:Un (pJ X.stack) ch H H' s.heap h') (hok:fK X.prog X.w H' h') (hg:AllBare g')
 (hch:∀b∈ch,(b∈X.ex∨X.s₀.heap.objs.size≤b)∧b≠X.env.locals∧(∀x c,X.env.cells.lookup x=some c→c≠b)∧∀p∈X.pn++pins,p.1≠b) :
 af X pins σ H' { s with heap:=h',gens:=g',drawn:=d',toks:=t' }:=by
 obtain ⟨m,⟨o,es,ep,ho,r⟩,_⟩:=id I.loc
 obtain ⟨sl,hL⟩:=u.any ho I.free fun z=>(hch _ z).2.1 rfl
 exact I.step (ch:=ch) hch (fun b o hL hb hc e n=>u.keep b o e n (fun z=>(List.mem_cons.mp (I.stkSub b z)).elim hL hb) hc) (fun b o _ _ hc e n=>u.any e n hc) (fun b o hc e n=>u.free b o e n hc) (fun b o hc e=>u.there b o e hc) u.tups u.frzs u.tbls (fun m' hm=>by
  obtain ⟨o',es',ep',ho',r'⟩:=hm
  rw [ho] at ho';cases ho'
  exact ⟨_,es',ep',hL,r'⟩) hok hg
theorem af.turned {t':Nat}{it:Addr} (I:af X pins σ H s) (k:∀b o,b≠it→s.heap.get? b=some o→h'.get? b=some o) (hn:H it=none) (hL:it≠X.env.locals)
 (h1:it∈X.ex∨X.s₀.heap.objs.size≤it) (h2:∀x c,X.env.cells.lookup x=some c→c≠it) (h3:∀p∈X.pn++pins,p.1≠it):af X pins σ H { s with heap:=h',toks:=t' }:=by
 have nit:∀b u,H b=some u→b≠it:=fun b u e z=>by rw [z,hn] at e;cases e
 refine I.step (g':=s.gens) (d':=s.drawn) (ch:=[it]) (fun b hb=>?_) (fun b o _ _ hc e _=>k b o (fun z=>hc (by simp [z])) e) (fun b o _ _ hc e _=>⟨o.slots,k b o (fun z=>hc (by simp [z])) e⟩) (fun _ _ _ _ n=>n)
  (fun b o hc e=>⟨o,k b o (fun z=>hc (by simp [z])) e⟩) (fun _ _ e=>e) (fun _ _ _ e=>e) (fun b ps e=>⟨#[],by rw [e];simp⟩) (fun m hm=>?_) (fun b u e=>?_) I.bare
 ·have e:b=it:=by simpa using hb
  subst e
  exact ⟨h1,hL,h2,h3⟩
 ·obtain ⟨o,es,ep,ho,r⟩:=hm
  exact ⟨o,es,ep,k _ o (Ne.symm hL) ho,r⟩
 ·refine (I.hok b u e).stay (fun c v hc q=>k c v ?_ q) (fun _ q=>q) fun _ _ q=>q
  rcases hc with z | z
  ·rw [z];exact nit b u e
  ·exact nit c _ z
theorem af.tok (I:af X pins σ H s) (t:Nat):af X pins σ H { s with toks:=t }:=I.un (h':=s.heap) (t':=t) Un.refl I.hok
theorem af.kept {t':Nat} (I:af X pins σ H s) (k:∀b u,s.heap.get? b=some u→h'.get? b=some u):af X pins σ H { s with heap:=h',toks:=t' }:=I.un (Un.kept k) (I.hok.kept k)
theorem af.laid {a:Addr}{o:HO}{t':Nat} (I:af X pins σ H s) (k:∀b u,s.heap.get? b=some u→h'.get? b=some u) (hp:s.heap.objs.size≤a) (new:cv X.prog X.w (bN H a o) h' a o) :
 af X pins σ (bN H a o) { s with heap:=h',toks:=t' }:=I.un (Un.laid k hp (I.hok.fresh hp)) (I.hok.laid k hp new)
theorem af.write {x e:Addr}{o:HO}{t':Nat} (I:af X pins σ H s) (mu:CS (H x)) (he:e=x∨H e=some (.own x)) (k:∀b u,b≠e→s.heap.get? b=some u→h'.get? b=some u) (heo:∃u,h'.get? e=some u)
 (new:cv X.prog X.w (bN H x o) h' x o):af X pins σ (bN H x o) { s with heap:=h',toks:=t' }:=I.un (Un.write mu he k heo) (I.hok.write mu he k heo new)
theorem af.weak {σ':List (Option V)} (I:af X pins σ H s) (hl:σ'.length=σ.length) (w:∀(i:Nat) v,σ'[i]?=some (some v)→σ[i]?=some (some v)):af X pins σ' H s:=
 ⟨I.ok,I.os,I.bare,I.base,let ⟨m,hn,hl'⟩:=I.loc;⟨m,hn,fun i x v e1 e2 e3=>hl' i x v e1 (w i v e2) e3⟩,I.cell,I.free,I.freeC,I.pin,I.hok,hl.trans I.len⟩
theorem af.pins_of {pins':List (Addr×Obj)} (I:af X pins σ H s) (h:∀p∈pins',s.heap.get? p.1=some p.2∧H p.1=none∧p.1≠X.env.locals∧p.1∉X.fs∧∀v,p.2.data≠.cell v):af X pins' σ H s:=
 ⟨I.ok,I.os,I.bare,I.base,I.loc,I.cell,I.free,I.freeC,fun p hp=>(List.mem_append.mp hp).elim (fun z=>I.pin p (List.mem_append_left _ z)) (h p),I.hok,I.len⟩
theorem xS {N:List Str} (hN:N.Nodup) {i j:Nat}{x:Str} (a:N[i]?=some x) (b:N[j]?=some x):i=j:=by
 obtain ⟨h1,e1⟩:=List.getElem?_eq_some_iff.mp a
 obtain ⟨h2,e2⟩:=List.getElem?_eq_some_iff.mp b
 exact (List.getElem_inj hN).mp (e1.trans e2.symm)
theorem vE {M:Model}{A:Around}{E:Value→Shared→Prop}{i:Nat}{x:Str}{v:V}{u:Value}{Q:Unit→Shared→Prop} (I:af X pins σ H s) (hN:X.N.Nodup) (hi:X.N[i]?=some x) (hx:C1 X.env.scope x) (r:bz v u)
 (h:∀s',af X pins (σ.set i (some v)) H s'→(∃a,Heap.SameBut a s.heap s'.heap∧(a=X.env.locals∨X.env.cells.lookup x=some a))→Q () s') (hf:X.fn x=true∨X.env.scope.names.lookup x=some .local:=by first | exact .inl rfl | exact .inr rfl | assumption):wpAny M A (storeName X.env x u) Q E s:=by
 obtain ⟨m,hn,hl⟩:=id I.loc
 have hcls:(X.env.scope.kind==.class || (X.env.scope.kind==.module && X.env.locals != X.env.globals))=false:=by rw [I.ok.kind];rfl
 have hiσ:i<σ.length:=by rw [I.len];exact (List.getElem?_eq_some_iff.mp hi).1
 have cne:=I.cne
 have tracked:∀{a:Addr}{h':Heap},(∃o,s.heap.get? a=some o∧H a=none)→Heap.SameBut a s.heap h'→fK X.prog X.w H h':=fun {a h'} ha hs b ob e=>by
  obtain ⟨_,_,hfree⟩:=ha
  refine (I.hok b ob e).stay (fun c w' hc q=>(hs.2 c ?_).trans q) (fun _ q=>q) fun _ _ q=>q
  rintro rfl
  rcases hc with rfl | hc
  ·rw [hfree] at e;cases e
  ·rw [hfree] at hc;cases hc
 rcases hx with hk | hk
 ·refine wpAny_storeName_local hk hn (fun h' hn' hs=>?_) hcls
  obtain ⟨oL,_,_,hoL,_⟩:=id hn
  refine h _ ⟨I.ok,I.os,I.bare,⟨fun b o e n hb hx=>?_,fun b o e n hb hx=>?_,I.base.free,fun b o e hx=>?_,I.base.tups,I.base.frzs,I.base.tbls⟩,⟨_,hn',fun j y v' e1 e2 e3=>?_⟩,fun y c e=>?_,I.free,I.freeC,fun p hp=>?_,tracked ⟨oL,hoL,I.free⟩ hs,by simpa using I.len⟩ ⟨_,hs,.inl rfl⟩
  ·exact (hs.2 b (Nat.ne_of_lt (Nat.lt_of_lt_of_le (Heap.lt_size e) I.ok.above))).trans (I.base.keep b o e n hb hx)
  ·obtain ⟨sl,e1⟩:=I.base.slot b o e n hb hx
   exact ⟨sl,(hs.2 b (Nat.ne_of_lt (Nat.lt_of_lt_of_le (Heap.lt_size e) I.ok.above))).trans e1⟩
  ·obtain ⟨o',e1⟩:=I.base.there b o e hx
   exact ⟨o',(hs.2 b (Nat.ne_of_lt (Nat.lt_of_lt_of_le (Heap.lt_size e) I.ok.above))).trans e1⟩
  ·by_cases hj:j=i
   ·subst hj
    rw [hi] at e1;cases e1
    rw [List.getElem?_set_self hiσ] at e2
    cases e2
    exact ⟨u,r,.inl ⟨hk,by simp⟩⟩
   ·rw [List.getElem?_set_ne (Ne.symm hj)] at e2
    obtain ⟨u',r',q⟩:=hl j y v' e1 e2 e3
    refine ⟨u',r',?_⟩
    rcases q with ⟨k,e⟩ | ⟨k,c,e,z⟩
    ·refine .inl ⟨k,?_⟩
     have:y≠x:=fun e=>hj (xS hN e1 (e▸hi))
     simp [this,e]
    ·exact .inr ⟨k,c,e,z.sameBut hs (cne y c e)⟩
  ·obtain ⟨w',z⟩:=I.cell y c e
   exact ⟨w',z.sameBut hs (cne y c e)⟩
  ·obtain ⟨e,n,ne,nf,d⟩:=I.pin p hp
   exact ⟨(hs.2 p.1 ne).trans e,n,ne,nf,d⟩
 ·have hfn:X.fn x=true:=by
   rcases hf with z | z
   ·exact z
   ·rw [z] at hk;cases hk
  obtain ⟨c,hc⟩:=I.ok.has x (.inl hk)
  obtain ⟨w',z⟩:=I.cell x c hc
  refine wpAny_storeName_cell I.ok.kind hk hc z (fun h' hc' hs=>?_)
  obtain ⟨oc,hoc,hocd⟩:=id z
  refine h { s with heap:=h' } ⟨I.ok,I.os,I.bare,⟨fun b o e n hb hx=>?_,fun b o e n hb hx=>?_,I.base.free,fun b o e hx=>?_,I.base.tups,I.base.frzs,I.base.tbls⟩,⟨m,hn.sameBut hs (Ne.symm (cne x c hc)),fun j y v' e1 e2 e3=>?_⟩,fun y c' e=>?_,I.free,I.freeC,fun p hp=>?_,tracked ⟨oc,hoc,I.freeC x c hc⟩ hs,by simpa using I.len⟩ ⟨c,hs,.inr hc⟩
  ·exact (hs.2 b (Nat.ne_of_lt (Nat.lt_of_lt_of_le (Heap.lt_size e) (I.ok.cab x c hfn hc)))).trans (I.base.keep b o e n hb hx)
  ·obtain ⟨sl,e1⟩:=I.base.slot b o e n hb hx
   exact ⟨sl,(hs.2 b (Nat.ne_of_lt (Nat.lt_of_lt_of_le (Heap.lt_size e) (I.ok.cab x c hfn hc)))).trans e1⟩
  ·obtain ⟨o',e1⟩:=I.base.there b o e hx
   exact ⟨o',(hs.2 b (Nat.ne_of_lt (Nat.lt_of_lt_of_le (Heap.lt_size e) (I.ok.cab x c hfn hc)))).trans e1⟩
  ·by_cases hj:j=i
   ·subst hj
    rw [hi] at e1;cases e1
    rw [List.getElem?_set_self hiσ] at e2
    cases e2
    exact ⟨u,r,.inr ⟨.inl hk,c,hc,hc'⟩⟩
   ·rw [List.getElem?_set_ne (Ne.symm hj)] at e2
    obtain ⟨u',r',q⟩:=hl j y v' e1 e2 e3
    refine ⟨u',r',?_⟩
    rcases q with q | ⟨k,c',e,z'⟩
    ·exact .inl q
    ·refine .inr ⟨k,c',e,z'.sameBut hs ?_⟩
     rintro rfl
     exact hj (xS hN e1 (I.ok.inj _ _ _ e hc▸hi))
  ·by_cases hcc:c'=c
   ·subst hcc;exact ⟨_,hc'⟩
   ·obtain ⟨w2,z2⟩:=I.cell y c' e
    exact ⟨w2,z2.sameBut hs hcc⟩
  ·obtain ⟨e,n,ne,nf,d⟩:=I.pin p hp
   refine ⟨(hs.2 p.1 ?_).trans e,n,ne,nf,d⟩
   intro q
   rw [q,hoc] at e
   have q':oc=p.2:=Option.some.inj e
   exact d w' (by rw [←q'];exact hocd)
theorem iN {M:Model}{A:Around}{E:Value→Shared→Prop}{i:Nat}{x:Str}{v:V}{u:Value}{Q:Unit→Shared→Prop} (I:af X pins σ H s) (hN:X.N.Nodup) (hi:X.N[i]?=some x) (hx:C1 X.env.scope x) (r:bz v u)
 (h:∀s',af X pins (σ.set i (some v)) H s'→Q () s') (hf:X.fn x=true∨X.env.scope.names.lookup x=some .local:=by first | exact .inl rfl | exact .inr rfl | assumption):wpAny M A (storeName X.env x u) Q E s:=
 vE I hN hi hx r (fun s' I' _=>h s' I') hf
theorem af.call' {s':Shared}{ch:List Addr} (I:af X pins σ H s) (ho:s'.os=s.os) (u:Un (pJ X.stack) ch H H' s.heap s'.heap) (hok:fK X.prog X.w H' s'.heap) (hg:AllBare s'.gens)
 (hch:∀b∈ch,(b∈X.ex∨X.s₀.heap.objs.size≤b)∧b≠X.env.locals∧(∀x c,X.env.cells.lookup x=some c→c≠b)∧∀p∈X.pn++pins,p.1≠b):af X pins σ H' s':=by
 obtain ⟨h',g',d',t',o'⟩:=s'
 have e:o'=s.os:=ho
 subst e
 exact I.call (g':=g') (t':=t') (d':=d') u hok hg hch
end
abbrev XK:=Value→Option Addr→Hp→Prop
abbrev St:=List (Option V)
abbrev VK:=V→Hp→Prop
abbrev TE:=St→Hp→VK→Prop
abbrev TT:=St→Hp→(Bool→Hp→Prop)→Prop
abbrev TA:=St→Hp→(List V→Hp→Prop)→Prop
structure fA where
 nx:St→Hp→Prop
 rt:VK
 bk:St→Hp→Prop:=fun _ _=>False
 ct:St→Hp→Prop:=fun _ _=>False
abbrev TS:=fA→St→Hp→Prop
inductive EP (X:Cx) (pins:List (Addr×Obj)) (σ:St) (Q:VK) (u:Value) (s':Shared):Prop
 | mk (v:_) (H':_) (h0:af X pins σ H' s') (h1:bz v u) (h2:Q v H')
def TP (X:Cx) (pins:List (Addr×Obj)) (σ:St) (Q:Bool→Hp→Prop) (b:Bool) (s':Shared):Prop:=∃H',af X pins σ H' s'∧Q b H'
inductive AP (X:Cx) (pins:List (Addr×Obj)) (σ:St) (Q:List V→Hp→Prop) (us:List Value) (s':Shared):Prop
 | mk (vs:_) (H':_) (h0:af X pins σ H' s') (h1:aH vs us) (h2:Q vs H')
def SP (X:Cx) (pins:List (Addr×Obj)) (D:fA) (f:Flow) (s':Shared):Prop:=
 match f with
 | .next=>∃σ' H',af X pins σ' H' s'∧D.nx σ' H'
 | .brk=>∃σ' H',af X pins σ' H' s'∧D.bk σ' H'
 | .cont=>∃σ' H',af X pins σ' H' s'∧D.ct σ' H'
 | .ret u=>∃v σ' H',af X pins σ' H' s'∧bz v u∧D.rt v H'
def PE (X:Cx) (e:Expr) (t:TE):Prop:=
 ∀(pins:List (Addr×Obj)) (s:Shared) (σ:St) (H:Hp) (Q:VK),af X pins σ H s→t σ H Q→wpAny (model X.prog X.w) X.A (eval e X.env) (EP X pins σ Q) X.xe s
def PT (X:Cx) (e:Expr) (t:TT):Prop:=
 ∀(pins:List (Addr×Obj)) (s:Shared) (σ:St) (H:Hp) (Q:Bool→Hp→Prop),af X pins σ H s→t σ H Q→wpAny (model X.prog X.w) X.A (isTrue e X.env (eval e X.env)) (TP X pins σ Q) X.xe s
def PW (X:Cx) (e:Expr) (t:TT):Prop:=
 ∀(whole:Sem Value) (pins:List (Addr×Obj)) (s:Shared) (σ:St) (H:Hp) (Q:Bool→Hp→Prop),af X pins σ H s→t σ H Q→wpAny (model X.prog X.w) X.A (isTrue e X.env whole) (TP X pins σ Q) X.xe s
theorem PW.pt {X:Cx}{e:Expr}{t:TT} (h:PW X e t):PT X e t:=h _
def PA (X:Cx) (es:List Expr) (t:TA):Prop:=
 ∀(pos:Pos) (pins:List (Addr×Obj)) (s:Shared) (σ:St) (H:Hp) (Q:List V→Hp→Prop),af X pins σ H s→t σ H Q→wpAny (model X.prog X.w) X.A (spliced (backTo pos (starEach es X.env))) (AP X pins σ Q) X.xe s
def PS (X:Cx) (st:Stmt) (t:TS):Prop:=
 ∀(pins:List (Addr×Obj)) (s:Shared) (σ:St) (H:Hp) (D:fA),af X pins σ H s→t D σ H→wpAny (model X.prog X.w) X.A (exec st X.env) (SP X pins D) X.xe s
def nG (X:Cx) (st:List Stmt) (t:TS):Prop:=
 ∀(pins:List (Addr×Obj)) (s:Shared) (σ:St) (H:Hp) (D:fA),af X pins σ H s→t D σ H→wpAny (model X.prog X.w) X.A (execs st X.env) (SP X pins D) X.xe s
theorem aW {α:Type}{t:Sem α}{Q Q':α→Shared→Prop}{M:Model}{A:Around}{E:Value→Shared→Prop}{s:Shared} (h:wpAny M A t Q E s) (hQ:∀a s,Q a s→Q' a s):wpAny M A t Q' E s:=wpAny_mono h hQ fun _ _ x=>x
section
variable {X:Cx}
inductive Ib (i:Nat) (σ:St) (H:Hp) (Q:VK):Prop
 | mk (v:_) (h0:σ[i]?=some (some v)) (h1:Q v H)
def ii (i:Nat):TE:=fun σ H Q=>Ib i σ H Q
def tC (v:V):TE:=fun _ H Q=>Q v H
theorem AR {i:Nat}{x:Str}{pos:Pos} (hN:X.N[i]?=some x) (hv:Di X.env.scope x) (hd:(x==("__debug__" : Str))=false:=by decide) (hcd:(x==("__classdict__" : Str))=false:=by decide):PE X (.Name x pos) (ii i):=by
 intro pins s σ H Q I h
 obtain ⟨v,e,h⟩:=h
 obtain ⟨m,hn,hl⟩:=I.loc
 obtain ⟨u,r,l⟩:=hl i x v hN e hv
 have fin:EP X pins σ Q u s:=⟨v,H,I,r,h⟩
 rcases l with ⟨hk,hm⟩ | ⟨hk,c,hc,hcell⟩
 ·exact wpAny_Name (wpAny_loadName_local I.ok.kind hk hn hm fin) hd
 ·rcases hk with hk | hk
  ·exact wpAny_Name (wpAny_loadName_cell I.ok.kind hk hc hcell fin) hd
  ·exact wpAny_Name (wpAny_loadName_free I.ok.kind hk hc hcell fin hcd) hd
theorem bP {i j pos}:PE X (.Constant (.int i) j pos) (tC (.int i)):=fun _ _ _ H _ I h=>wpAny_Constant_int ⟨.int i,H,I.tok _,⟨()⟩,h⟩
theorem bj {b j pos}:PE X (.Constant (.bool b) j pos) (tC (.bl b)):=fun _ _ _ H _ I h=>Constant_bool ⟨.bl b,H,I,rfl,h⟩
theorem eQ {j pos}:PE X (.Constant .none j pos) (tC .non):=fun _ _ _ H _ I h=>Constant_none ⟨.non,H,I,rfl,h⟩
theorem dC {x j pos}:PE X (.Constant (.str x) j pos) (tC (.str x)):=fun _ _ _ H _ I h=>Calls.Constant_str ⟨.str x,H,I.tok _,⟨()⟩,h⟩
def Gl (X:Cx) (x:Str):Prop:=X.env.kindOf x=some .globalImplicit
theorem DP {E:Value→Shared→Prop}{pins:List (Addr×Obj)}{s:Shared}{σ:St}{H:Hp}{x:Str}{u:Value}{pos:Pos}{Q:Value→Shared→Prop} (I:af X pins σ H s) (hg:Gl X x) (hm:X.mg x=some u) (h:Q u s)
 (hd:(x==("__debug__" : Str))=false:=by decide):wpAny (model X.prog X.w) X.A (eval (.Name x pos) X.env) Q E s:=
 Calls.Name_function_global I.ok.kind hg (Calls.loadGlobal_global (by rw [I.ok.glob];exact I.mod.glob.keeps I.bk) hm h) hd
theorem fY {E:Value→Shared→Prop}{pins:List (Addr×Obj)}{s:Shared}{σ:St}{H:Hp}{x:Str}{u:Value}{pos:Pos}{Q:Value→Shared→Prop} (I:af X pins σ H s) (hg:Gl X x) (hm:X.mg x=none) (hv:bootBuiltins x=some u) (h:Q u s)
 (hn:x≠"__name__" := by decide) (hd:(x==("__debug__" : Str))=false:=by decide):wpAny (model X.prog X.w) X.A (eval (.Name x pos) X.env) Q E s:=by
 obtain ⟨mb,h1,h2⟩:=I.mod.blt
 exact Calls.Name_function_global I.ok.kind hg (Calls.loadGlobal_builtin (by rw [I.ok.glob];exact I.mod.glob.keeps I.bk) hm (by rw [I.ok.blt];exact h1.keeps I.bk) ((h2 x hn).trans hv) h) hd
theorem Ea {x:Str}{v:V}{u:Value}{pos:Pos} (hg:Gl X x) (hm:X.mg x=none) (hv:bootBuiltins x=some u) (r:bz v u) (hn:x≠"__name__" := by decide) (hd:(x==("__debug__" : Str))=false:=by decide):PE X (.Name x pos) (tC v):=
 fun _ _ _ H _ I h=>fY I hg hm hv ⟨v,H,I,r,h⟩ hn hd
variable {a b:Expr}{ta tb:TE}{pos:Pos}
inductive uJ (x:V) (P:Bool→Prop):Prop
 | mk (c:Bool) (e:x=.bl c) (h:P c)
inductive FT (x:V) (P:Int→Prop):Prop
 | mk (c:Int) (e:x=.int c) (h:P c)
def tB (t:TE):TT:=fun σ H Q=>t σ H fun x H1=>uJ x fun c=>Q c H1
theorem aF {e:Expr}{t:TE} (h:PE X e t) (he:∀whole,isTrue e X.env whole=(do let v ←whole;standAt e.pos;holding [v] (truthy v)):=by intro _;rfl):PT X e (tB t):=by
 intro pins s σ H Q I hw
 refine isTrue_plain (aW (h pins s σ H _ I hw) fun v s1 ⟨x,H1,I1,r1,q1⟩=>?_) (he _)
 obtain ⟨d,rfl,q⟩:=q1
 cases r1
 exact wpAny_truthy_bool ⟨H1,I1,q⟩
variable {tA tB':TT}{rest:List Expr}
def Iv (t u:TT):TT:=fun σ H Q=>t σ H fun c H1=>if c=true then u σ H1 Q else Q false H1
def Je (t u:TT):TT:=fun σ H Q=>t σ H fun c H1=>if c=true then Q true H1 else u σ H1 Q
def Ir (t:TT):TT:=fun σ H Q=>t σ H fun c H1=>Q (!c) H1
theorem ud (ha:PT X a tA):PW X (.BoolOp .And [a] pos) tA:=by
 intro wh pins s σ H Q I h
 refine isTrue_and (aW (ha pins s σ H Q I h) fun c s1 e=>?_)
 cases c with
 | true=>exact isTrue_and_nil e
 | false=>exact e
theorem bK (ha:PT X a tA):PW X (.BoolOp .Or [a] pos) tA:=by
 intro wh pins s σ H Q I h
 refine isTrue_or (aW (ha pins s σ H Q I h) fun c s1 e=>?_)
 cases c with
 | false=>exact isTrue_or_nil e
 | true=>exact e
theorem wF (ha:PT X a tA) (hb:PW X (.BoolOp .And (b :: rest) pos) tB'):PW X (.BoolOp .And (a :: b :: rest) pos) (Iv tA tB'):=by
 intro wh pins s σ H Q I h
 refine isTrue_and (aW (ha pins s σ H _ I h) fun c s1 ⟨H1,I1,q1⟩=>?_)
 cases c with
 | true=>exact hb wh pins s1 σ H1 Q I1 q1
 | false=>exact ⟨H1,I1,q1⟩
theorem bd (ha:PT X a tA) (hb:PW X (.BoolOp .Or (b :: rest) pos) tB'):PW X (.BoolOp .Or (a :: b :: rest) pos) (Je tA tB'):=by
 intro wh pins s σ H Q I h
 refine isTrue_or (aW (ha pins s σ H _ I h) fun c s1 ⟨H1,I1,q1⟩=>?_)
 cases c with
 | true=>exact ⟨H1,I1,q1⟩
 | false=>exact hb wh pins s1 σ H1 Q I1 q1
theorem aK (ha:PT X a tA):PT X (.UnaryOp .Not a pos) (Ir tA):=by
 intro pins s σ H Q I h
 exact isTrue_not (ha pins s σ H (fun c H1=>Q (!c) H1) I h)
def HH (ta tb:TE):TE:=fun σ H Q=>ta σ H fun x H1=>uJ x fun c=>if c=true then tb σ H1 Q else Q (.bl false) H1
def Iz (ta tb:TE):TE:=fun σ H Q=>ta σ H fun x H1=>uJ x fun c=>if c=true then Q (.bl true) H1 else tb σ H1 Q
def Dp (ta:TE):TE:=fun σ H Q=>ta σ H fun x H1=>uJ x fun c=>Q (.bl (!c)) H1
theorem cX {op}{t:TE} (h:PE X a t):PE X (.BoolOp op [a] pos) t:=fun pins s σ H Q I hw=>BoolOp_one (h pins s σ H Q I hw)
theorem cG (ha:PE X a ta) (hb:PE X (.BoolOp .And (b :: rest) pos) tb):PE X (.BoolOp .And (a :: b :: rest) pos) (HH ta tb):=by
 intro pins s σ H Q I h
 refine BoolOp_and (aW (ha pins s σ H _ I h) fun v s1 ⟨x,H1,I1,r1,q1⟩=>?_)
 obtain ⟨c,rfl,q1⟩:=q1
 cases r1
 refine wpAny_truthy_bool ?_
 cases c with
 | true=>exact hb pins s1 σ H1 Q I1 q1
 | false=>exact ⟨.bl false,H1,I1,rfl,q1⟩
theorem HW (ha:PE X a ta) (hb:PE X (.BoolOp .Or (b :: rest) pos) tb):PE X (.BoolOp .Or (a :: b :: rest) pos) (Iz ta tb):=by
 intro pins s σ H Q I h
 refine BoolOp_or (aW (ha pins s σ H _ I h) fun v s1 ⟨x,H1,I1,r1,q1⟩=>?_)
 obtain ⟨c,rfl,q1⟩:=q1
 cases r1
 refine wpAny_truthy_bool ?_
 cases c with
 | false=>exact hb pins s1 σ H1 Q I1 q1
 | true=>exact ⟨.bl true,H1,I1,rfl,q1⟩
theorem Bj (ha:PE X a ta):PE X (.UnaryOp .Not a pos) (Dp ta):=by
 intro pins s σ H Q I h
 refine UnaryOp_ (aW (ha pins s σ H _ I h) fun v s1 ⟨x,H1,I1,r1,q1⟩=>?_)
 obtain ⟨c,rfl,q1⟩:=q1
 cases r1
 exact not_of (wpAny_truthy_bool ⟨.bl (!c),H1,I1,rfl,q1⟩)
def I0 (t:TT) (ta tb:TE):TE:=fun σ H Q=>t σ H fun c H1=>if c=true then ta σ H1 Q else tb σ H1 Q
theorem iH {c:Expr} (hc:PT X c tA) (ha:PE X a ta) (hb:PE X b tb):PE X (.IfExp c a b pos) (I0 tA ta tb):=by
 intro pins s σ H Q I h
 refine wpAny_IfExp (aW (hc pins s σ H _ I h) fun d s1 ⟨H1,I1,q1⟩=>?_)
 cases d with
 | true=>exact ha pins s1 σ H1 Q I1 q1
 | false=>exact hb pins s1 σ H1 Q I1 q1
end
def aE (K:PySem.W.Frag) (H:Hp) (a:Addr) (xs:List V):Prop:=
 Rd H a (.lst xs)∨
  eV fun (o:Obj) (its:Array Value) (n:Nat)=>K.lookup a=some o∧o.cls=.type "list"∧o.dict=none∧o.data=.seq its n∧its.size≤sizeLine∧aH xs its.toList
def ak (K:PySem.W.Frag) (H:Hp) (a:Addr) (xs:List V):Prop:=
 Rd H a (.tup xs)∨
  eV fun (o:Obj) (its:Array Value) (n:Nat)=>K.lookup a=some o∧o.cls=.type "tuple"∧o.data=.seq its n∧its.size≤sizeLine∧aH xs its.toList
def IW:Value→Option V
 | .none=>some .non
 | .bool b=>some (.bl b)
 | .int i _=>some (.int i)
 | .str x _=>some (.str x)
 | .bytes b _=>some (.byt b)
 | .float b _=>some (.flt b)
 | .ref a=>some (.ref a)
 | .type n=>some (.ty n)
 | _=>none
theorem bz.abs {x:V}{u:Value} (r:bz x u):IW u=some x:=by
 cases x with
 | non=>cases r;rfl
 | bl _=>cases r;rfl
 | int _=>obtain ⟨t,rfl⟩:=r;rfl
 | str _=>obtain ⟨t,rfl⟩:=r;rfl
 | byt _=>obtain ⟨t,rfl⟩:=r;rfl
 | flt _=>obtain ⟨t,rfl⟩:=r;rfl
 | ref _=>cases r;rfl
 | ty _=>cases r;rfl
theorem bz.inj {x y:V}{u:Value} (r:bz x u) (q:bz y u):x=y:=Option.some.inj (r.abs.symm.trans q.abs)
theorem aH.inj:∀{xs ys:List V}{us:List Value},aH xs us→aH ys us→xs=ys
 | _,_,_,.nil,.nil=>rfl
 | _,_,_,.cons r t,.cons r' t'=>by rw [r.inj r',aH.inj t t']
section
variable {X:Cx}{pins:List (Addr×Obj)}{σ:St}{H:Hp}{s:Shared}{a:Addr}{xs ys:List V}
theorem aE.of {K:PySem.W.Frag} (h:H a=some (.lst xs)):aE K H a xs:=.inl (.inl h)
theorem ak.of {K:PySem.W.Frag} (h:H a=some (.tup xs)):ak K H a xs:=.inl (.inl h)
theorem af.list (I:af X pins σ H s) (h:aE X.K H a xs):∃its:List Value,aH xs its∧PlainL s.heap a its.toArray∧xs.length≤sizeLine:=by
 rcases h with h | ⟨o,its,n,hk,hc,hd,hs,hz,r⟩
 ·obtain ⟨z,its,n,r,e⟩:=h.ok I.hok
  exact ⟨its,r,⟨_,n,e,rfl,rfl,rfl⟩,z⟩
 ·refine ⟨its.toList,r,⟨o,n,I.kIn a o hk,hc,hd,by simpa using hs⟩,?_⟩
  have e:=r.length
  simp only [Array.length_toList] at e
  trivial
theorem af.tuple (I:af X pins σ H s) (h:ak X.K H a xs):∃its:List Value,aH xs its∧IsTup s.heap a its.toArray∧xs.length≤sizeLine:=by
 rcases h with h | ⟨o,its,n,hk,hc,hs,hz,r⟩
 ·obtain ⟨z,its,r,p,_⟩:=h.ok I.hok
  exact ⟨its,r,p,z⟩
 ·refine ⟨its.toList,r,⟨o,I.kIn a o hk,hc,n,by simpa using hs⟩,?_⟩
  have e:=r.length
  simp only [Array.length_toList] at e
  trivial
theorem af.list_inj (I:af X pins σ H s) (h:aE X.K H a xs) (h':aE X.K H a ys):xs=ys:=by
 obtain ⟨its,r,⟨o,n,e,_,_,d⟩,_⟩:=I.list h
 obtain ⟨its',r',⟨o',n',e',_,_,d'⟩,_⟩:=I.list h'
 rw [e] at e';cases e'
 rw [d] at d'
 injection d' with d1 _
 have:its=its':=by simpa using congrArg Array.toList d1
 subst this
 exact r.inj r'
theorem af.tuple_inj (I:af X pins σ H s) (h:ak X.K H a xs) (h':ak X.K H a ys):xs=ys:=by
 obtain ⟨its,r,⟨o,e,_,n,d⟩,_⟩:=I.tuple h
 obtain ⟨its',r',⟨o',e',_,n',d'⟩,_⟩:=I.tuple h'
 rw [e] at e';cases e'
 rw [d] at d'
 injection d' with d1 _
 have:its=its':=by simpa using congrArg Array.toList d1
 subst this
 exact r.inj r'
end
abbrev Cx.wish (X:Cx) (E:Value→Shared→Prop):Cx:={ X with xe:=E }
abbrev Cx.nox (X:Cx):Cx:=X.wish fun _ _=>False
theorem Cx.Ok.wish {X:Cx} (ok:X.Ok) (E:Value→Shared→Prop):(X.wish E).Ok:=
 ⟨ok.mod,ok.kind,ok.glob,ok.blt,ok.above,ok.inj,ok.has,ok.cab,ok.hd,ok.frames,ok.stk,ok.exf,ok.bs,ok.bsz,ok.noex,ok.exfs,ok.funs,ok.frf⟩
theorem Cx.Ok.unwish {X:Cx}{E:Value→Shared→Prop} (ok:(X.wish E).Ok):X.Ok:=
 ⟨ok.mod,ok.kind,ok.glob,ok.blt,ok.above,ok.inj,ok.has,ok.cab,ok.hd,ok.frames,ok.stk,ok.exf,ok.bs,ok.bsz,ok.noex,ok.exfs,ok.funs,ok.frf⟩
section
variable {X:Cx}{pins:List (Addr×Obj)}{σ:St}{H:Hp}{s:Shared}{E:Value→Shared→Prop}
theorem af.wish (I:af X pins σ H s) (E:Value→Shared→Prop):af (X.wish E) pins σ H s:=⟨I.ok.wish E,I.os,I.bare,I.base,I.loc,I.cell,I.free,I.freeC,I.pin,I.hok,I.len⟩
theorem af.unwish (I:af (X.wish E) pins σ H s):af X pins σ H s:=⟨I.ok.unwish,I.os,I.bare,I.base,I.loc,I.cell,I.free,I.freeC,I.pin,I.hok,I.len⟩
theorem SP.unwish {D:fA}{f:Flow}{s':Shared} (h:SP (X.wish E) pins D f s'):SP X pins D f s':=by
 cases f with
 | next=>obtain ⟨σ',H',I,q⟩:=h;exact ⟨σ',H',I.unwish,q⟩
 | brk=>obtain ⟨σ',H',I,q⟩:=h;exact ⟨σ',H',I.unwish,q⟩
 | cont=>obtain ⟨σ',H',I,q⟩:=h;exact ⟨σ',H',I.unwish,q⟩
 | ret u=>obtain ⟨v,σ',H',I,r,q⟩:=h;exact ⟨v,σ',H',I.unwish,r,q⟩
theorem nG.nox {st:List Stmt}{t:TS} (h:nG X.nox st t):nG X st t:=fun pins s σ H D I hw=>
 wpAny_mono (h pins s σ H D (I.wish _) hw) (fun _ _ q=>q.unwish) fun _ _ z=>False.elim z
end
section
variable {X:Cx}{st:Stmt}{rest:List Stmt}{t u:TS}{e:Expr}{te:TE}{pos:Pos}
def C5:TS:=fun D σ H=>D.nx σ H
def jV (t u:TS):TS:=fun D σ H=>t { D with nx:=u D } σ H
theorem ay:nG X [] C5:=fun _ _ σ H _ I h=>wpAny_execs_nil ⟨σ,H,I,h⟩
theorem ee (h1:PS X st t) (h2:nG X rest u):nG X (st :: rest) (jV t u):=by
 intro pins s σ H D I h
 refine wpAny_execs_cons (aW (h1 pins s σ H { D with nx:=u D } I h) fun f s1 q=>?_)
 cases f with
 | next=>
  obtain ⟨σ',H',I',q⟩:=q
  exact h2 pins s1 σ' H' D I' q
 | ret v=>exact q
 | brk=>exact q
 | cont=>exact q
theorem ac (h1:PS X st t):nG X [st] t:=by
 intro pins s σ H D I h
 refine wpAny_execs_cons (aW (h1 pins s σ H D I h) fun f s1 q=>?_)
 cases f with
 | next=>exact wpAny_execs_nil q
 | ret v=>exact q
 | brk=>exact q
 | cont=>exact q
theorem af.quiet {pins:List (Addr×Obj)}{σ:St}{H:Hp}{s:Shared} (I:af X pins σ H s):interactive X.env=false:=by simp [interactive,I.ok.kind]
def CZ (te:TE):TS:=fun D σ H=>te σ H fun _ H1=>D.nx σ H1
theorem fC (he:PE X e te) (hs:swapsWith e none pos.line X.env=pure false:=by rfl):PS X (.Expr e pos) (CZ te):=by
 intro pins s σ H D I h
 exact wpAny_Expr_any (aW (he pins s σ H _ I h) fun v s1 ⟨x,H1,I1,r1,q1⟩=>⟨σ,H1,I1,q1⟩) I.quiet hs
def Iq (te:TE):TS:=fun D σ H=>te σ H D.rt
theorem ai (he:PE X e te):PS X (.Return (some e) pos) (Iq te):=by
 intro pins s σ H D I h
 exact wpAny_Return_some (aW (he pins s σ H _ I h) fun v s1 ⟨x,H1,I1,r1,q1⟩=>⟨x,σ,H1,I1,r1,q1⟩)
def Cq (c:TT) (t u:TS):TS:=fun D σ H=>c σ H fun b H1=>if b=true then t D σ H1 else u D σ H1
theorem aN {c:Expr}{a b:List Stmt}{tc:TT} (hc:PT X c tc) (ha:nG X a t) (hb:nG X b u):PS X (.If c a b pos) (Cq tc t u):=by
 intro pins s σ H D I h
 refine wpAny_If (aW (hc pins s σ H _ I h) fun d s1 ⟨H1,I1,q1⟩=>?_)
 cases d with
 | true=>exact ha pins s1 σ H1 D I1 q1
 | false=>exact hb pins s1 σ H1 D I1 q1
end
abbrev TG:=V→St→Hp→(St→Hp→Prop)→Prop
abbrev rD:=List V→St→Hp→(St→Hp→Prop)→Prop
def PG (X:Cx) (target:Expr) (t:TG):Prop:=
 ∀(pins:List (Addr×Obj)) (s:Shared) (σ:St) (H:Hp) (v:V) (u:Value) (Q:St→Hp→Prop),af X pins σ H s→bz v u→t v σ H Q→
   wpAny (model X.prog X.w) X.A (assign target X.env u) (fun _ s'=>∃σ' H',af X pins σ' H' s'∧Q σ' H') X.xe s
def Br (X:Cx) (ts:List Expr) (t:rD):Prop:=
 ∀(pins:List (Addr×Obj)) (s:Shared) (σ:St) (H:Hp) (vs:List V) (us:List Value) (Q:St→Hp→Prop),af X pins σ H s→aH vs us→t vs σ H Q→
   wpAny (model X.prog X.w) X.A (assignInOrder ((assignEach ts X.env).map (·.2)) us) (fun _ s'=>∃σ' H',af X pins σ' H' s'∧Q σ' H') X.xe s
abbrev BY:=V→V→V→Hp→(Hp→Prop)→Prop
def CK (X:Cx) (t:BY):Prop:=
 ∀(pins:List (Addr×Obj)) (s:Shared) (σ:St) (H:Hp) (o i v:V) (ov iv u:Value) (Q:Hp→Prop),af X pins σ H s→bz o ov→bz i iv→bz v u→t o i v H Q→
   wpAny (model X.prog X.w) X.A (setItem ov iv u) (fun _ s'=>∃H',af X pins σ H' s'∧Q H') X.xe s
section
variable {X:Cx}{pos:Pos}
def iA (i:Nat):TG:=fun v σ H Q=>Q (σ.set i (some v)) H
theorem cZ {i:Nat}{x:Str} (hN:X.N.Nodup) (hi:X.N[i]?=some x) (hx:C1 X.env.scope x) (hf:X.fn x=true∨X.env.scope.names.lookup x=some .local:=by first | exact .inl rfl | exact .inr rfl | assumption):PG X (.Name x pos) (iA i):=by
 intro pins s σ H v u Q I r h
 exact wpAny_assign_Name (iN I hN hi hx r (fun s' I'=>⟨_,H,I',h⟩) hf)
def GB:rD:=fun vs σ H Q=>vs=[]∧Q σ H
inductive FB (t:TG) (u:rD) (vs:List V) (σ:St) (H:Hp) (Q:St→Hp→Prop):Prop
 | mk (v:_) (r:_) (h0:vs=v :: r) (h1:t v σ H fun σ' H'=>u r σ' H' Q)
def Am (t:TG) (u:rD):rD:=fun vs σ H Q=>FB t u vs σ H Q
theorem fD:Br X [] GB:=by
 intro pins s σ H vs us Q I r h
 obtain ⟨e,h⟩:=h
 subst e
 cases r
 exact assignInOrder_nil ⟨σ,H,I,h⟩
theorem aP {e:Expr}{es:List Expr}{t:TG}{u:rD} (h1:PG X e t) (h2:Br X es u)
 (hs:(assignEach (e :: es) X.env).map (·.2)=assign e X.env :: (assignEach es X.env).map (·.2):=by rfl):Br X (e :: es) (Am t u):=by
 intro pins s σ H vs us Q I r h
 obtain ⟨v,vr,e1,h⟩:=h
 subst e1
 cases r with
 | cons r rr=>
  rw [hs]
  refine assignInOrder_cons (aW (h1 pins s σ H _ _ _ I r h) fun _ s1 ⟨σ1,H1,I1,q1⟩=>?_)
  exact h2 pins s1 σ1 H1 _ _ Q I1 rr q1
inductive HN (K:PySem.W.Frag) (n:Nat) (t:rD) (v:V) (σ:St) (H:Hp) (Q:St→Hp→Prop):Prop
 | mk (a:_) (xs:_) (h0:v=.ref a) (h1:ak K H a xs) (h2:xs.length=n) (h3:t xs σ H Q)
def Cz (K:PySem.W.Frag) (n:Nat) (t:rD):TG:=fun v σ H Q=>HN K n t v σ H Q
theorem wW {es:List Expr}{k:Nat}{t:rD}{n:Nat} (hc:X.calm=true) (h:Br X es t)
 (hn:(assignEach es X.env).length=n:=by rfl) (hst:(assignEach es X.env).findIdx? (·.1)=none:=by rfl):PG X (.Tuple es k pos) (Cz X.K n t):=by
 intro pins s σ H v u Q I r hw
 obtain ⟨a,xs,e1,hq,hl,hw⟩:=hw
 subst e1
 cases r
 obtain ⟨its,rv,ht,hz⟩:=I.tuple hq
 refine assign_Tuple_tuple (I.ok.hd hc) ht (by simp [hn,←hl,rv.length]) hst fun h' hx=>?_
 have I1:af X pins σ H { s with heap:=h' }:=I.kept (t':=s.toks) fun b o e=>hx b o (Nat.ne_of_lt (Heap.lt_size e)) e
 exact h pins _ σ H xs _ Q I1 (by simpa using rv) hw
def IQ (to ti:TE) (t:BY):TG:=fun v σ H Q=>to σ H fun o H1=>ti σ H1 fun i H2=>t o i v H2 fun H3=>Q σ H3
theorem xq {o i:Expr}{to ti:TE}{t:BY} (ho:PE X o to) (hi:PE X i ti) (hs:CK X t)
 (ha:∀v,assign (.Subscript o i pos) X.env v=(do
  let ov ←holding [v] (eval o X.env)
  let iv ←holding [v,ov] (eval i X.env)
  standAt pos
  holding [v,ov,iv] (setItem ov iv v)
  release [v,ov,iv] []):=by intro _;rfl):PG X (.Subscript o i pos) (IQ to ti t):=by
 intro pins s σ H v u Q I r h
 rw [ha]
 refine wpAny_bind (wpAny_holding (aW (ho pins s σ H _ I h) fun ov s1 ⟨x,H1,I1,r1,q1⟩=>?_))
 refine wpAny_bind (wpAny_holding (aW (hi pins s1 σ H1 _ I1 q1) fun iv s2 ⟨y,H2,I2,r2,q2⟩=>?_))
 refine wpAny_bind (wpAny_standAt (wpAny_bind (wpAny_holding (aW (hs pins s2 σ H2 x y v ov iv u _ I2 r1 r2 r q2) fun _ s3 ⟨H3,I3,q3⟩=>?_))))
 exact wpAny_release ⟨σ,H3,I3,q3⟩
def qI (te:TE) (g:TG):TS:=fun D σ H=>te σ H fun x H1=>g x σ H1 D.nx
theorem gK {tg e:Expr}{te:TE}{g:TG} (he:PE X e te) (hg:PG X tg g) (hs:swapsWithSole [tg] e pos.line X.env=pure false:=by rfl) (hw:swappedStores [tg] e X.env=pure none:=by rfl)
 (h1:(assignEach [tg] X.env).map (·.2)=[assign tg X.env]:=by rfl):PS X (.Assign [tg] e pos) (qI te g):=by
 intro pins s σ H D I h
 refine wpAny_Assign_stores (aW (he pins s σ H _ I h) fun v s1 ⟨x,H1,I1,r1,q1⟩=>?_) hs hw
 rw [h1]
 exact aW (hg pins s1 σ H1 x v _ I1 r1 q1) fun _ s2 q=>q
theorem ou {i:Nat}{x:Str}{e:Expr}{te:TE}{pos':Pos} (hN:X.N.Nodup) (hi:X.N[i]?=some x) (hx:C1 X.env.scope x) (he:PE X e te) (hs:swapsWith e (some (.Name x pos')) pos.line X.env=pure false:=by rfl) (hf:X.fn x=true∨X.env.scope.names.lookup x=some .local:=by first | exact .inl rfl | exact .inr rfl | assumption) :
 PS X (.Assign [.Name x pos'] e pos) (qI te (iA i)):=by
 intro pins s σ H D I h
 refine wpAny_Assign_Name (aW (he pins s σ H _ I h) fun v s1 ⟨y,H1,I1,r1,q1⟩=>?_) hs
 exact iN I1 hN hi hx r1 (fun s2 I2=>⟨_,H1,I2,q1⟩) hf
def Fn (i j:Nat) (ta:TA):TS:=fun D σ H=>ta σ H fun vs H1=>cj fun v w=>vs=[v,w]∧D.nx ((σ.set i (some v)).set j (some w)) H1
theorem iq {i j:Nat}{x y:Str}{a b:Expr}{ta:TA}{px py pt:Pos}{kt k2 pt2} (hc:X.calm=true) (hN:X.N.Nodup) (hi:X.N[i]?=some x) (hj:X.N[j]?=some y) (hij:i≠j)
 (hx:X.env.scope.names.lookup x=some .local) (hy:X.env.scope.names.lookup y=some .local) (ha:PA X [a,b] ta)
 (hw:swappedStores [.Tuple [.Name x px,.Name y py] kt pt] (.Tuple [a,b] k2 pt2) X.env=pure (some [x,y]))
 (hs:swapsWithSole [.Tuple [.Name x px,.Name y py] kt pt] (.Tuple [a,b] k2 pt2) pos.line X.env=pure false:=by rfl) :
 PS X (.Assign [.Tuple [.Name x px,.Name y py] kt pt] (.Tuple [a,b] k2 pt2) pos) (Fn i j ta):=by
 intro pins s σ H D I h
 rw [exec_Assign_arm]
 refine wpAny_bind (wpAny_standAt ?_)
 rw [hs]
 refine wpAny_bind (wpAny_pure ?_)
 rw [if_neg (by decide)]
 refine wpAny_bind (Tuple_ (aW (ha _ pins s σ H _ I h) fun us s1 ⟨vs,H1,I1,r1,q1⟩=>?_))
 obtain ⟨v,w,e1,q1⟩:=q1
 subst e1
 obtain ⟨u1,u2,rfl,rv,rw'⟩:cj fun u1 u2=>us=[u1,u2]∧bz v u1∧bz w u2:=by
  cases r1 with
  | cons p q=>
   cases q with
   | cons p' q'=>
    cases q'
    exact ⟨_,(),p,p'⟩
 refine wpAny_newObj_type ?_ (by show 2≤sizeLine;decide)
 have I2:af X pins σ H1 { s1 with heap:=s1.heap.push { cls:=.type "tuple",data:=.seq [u1,u2].toArray } }:=I1.kept (t':=s1.toks) fun b o e=>Heap.get?_push_of_some _ e
 rw [hw]
 refine wpAny_bind (wpAny_pure ?_)
 show wpAny (model X.prog X.w) X.A (do rule "assign.swapped-stores";let items ←unpackItems (.ref s1.heap.objs.size) 2 none;assignInOrder [fun v=>bindName X.env y v,fun v=>bindName X.env x v] items.reverse;pure Flow.next) _ _ _
 refine wpAny_bind (wpAny_rule (wpAny_bind (unpackItems_tuple (items:=#[u1,u2]) (I.ok.hd hc) (IsTup.new s1.heap _) fun h' hx'=>?_)))
 have I3:=I2.kept (h':=h') (t':=s1.toks) fun b o e=>hx' b o (Nat.ne_of_lt (Heap.lt_size e)) e
 show wpAny _ _ (assignInOrder [fun v=>bindName X.env y v,fun v=>bindName X.env x v] [u2,u1] >>= fun _=>pure Flow.next) _ _ _
 refine wpAny_bind (assignInOrder_cons (wpAny_bindName (iN I3 hN hj (.inl hy) rw' (fun s2 I4=>?_) (.inr hy))))
 refine assignInOrder_cons (wpAny_bindName (iN I4 hN hi (.inl hx) rv (fun s3 I5=>assignInOrder_nil (wpAny_pure ?_)) (.inr hx)))
 rw [List.set_comm _ _ (Ne.symm hij)] at I5
 exact ⟨_,H1,I5,q1⟩
end
section
variable {X:Cx}{pos:Pos}
def Fo (c:TT) (tb:TS):TS:=fun D σ H=>∃W:Nat→St→Hp→Prop,(∃m,W m σ H)∧∀m σ H,W m σ H→
 c σ H fun b H1=>if b=true then ∃N:St→Hp→Prop,(∀σ' H',N σ' H'→∃m',m'<m∧W m' σ' H')∧tb { D with nx:=N,ct:=N,bk:=D.nx } σ H1 else D.nx σ H1
theorem xj {c:Expr}{body:List Stmt}{tc:TT}{tb:TS} (hp:PassesOwn (model X.prog X.w) X.A X.env X.xe) (hc:PT X c tc) (hb:nG X body tb):PS X (.While c body [] pos) (Fo tc tb):=by
 intro pins s σ H D I h
 obtain ⟨W,⟨m0,w0⟩,turn⟩:=h
 refine wpAny_While (codeAny_whileLoop (fun n s'=>∃σ' H',af X pins σ' H' s'∧W n σ' H') ?_ m0 ⟨σ,H,I,w0⟩)
 rintro n s1 ⟨σ1,H1,I1,w1⟩
 refine wpAny_passesOwn hp (aW (hc pins s1 σ1 H1 _ I1 (turn n σ1 H1 w1)) fun b s2 ⟨H2,I2,q2⟩=>?_)
 cases b with
 | true=>
  obtain ⟨N,hN,q2⟩:=q2
  rw [if_pos rfl]
  refine wpAny_passesOwn hp (aW (hb pins s2 σ1 H2 _ I2 q2) fun f s3 q3=>?_)
  cases f with
  | next=>
   obtain ⟨σ3,H3,I3,n3⟩:=q3
   obtain ⟨m',hm,w3⟩:=hN σ3 H3 n3
   exact ⟨m',hm,σ3,H3,I3,w3⟩
  | cont=>
   obtain ⟨σ3,H3,I3,n3⟩:=q3
   obtain ⟨m',hm,w3⟩:=hN σ3 H3 n3
   exact ⟨m',hm,σ3,H3,I3,w3⟩
  | brk=>exact q3
  | ret v=>exact q3
 | false=>
  rw [if_neg Bool.false_ne_true]
  exact wpAny_execs_nil ⟨σ1,H2,I2,q2⟩
end
structure It where
 go:Nat→Hp→Prop
 yld:Nat→Hp→V→Hp→Prop
 stop:Nat→Hp→Prop
def kS (X:Cx) (pins:List (Addr×Obj)) (H:Hp) (b:Addr):Prop:=
 H b=none∧b≠X.env.locals∧b∉X.fs∧(b∈X.ex∨X.s₀.heap.objs.size≤b)∧(∀x c,X.env.cells.lookup x=some c→c≠b)∧∀p∈X.pn++pins,p.1≠b
theorem af.fpOk {X:Cx}{pins:List (Addr×Obj)}{σ:St}{H H':Hp}{s:Shared}{b:Addr} (I:af X pins σ H s) (hb:s.heap.objs.size≤b) (hn:H' b=none):kS X pins H' b:=by
 refine ⟨hn,Nat.ne_of_gt (Nat.lt_of_lt_of_le I.lt hb),I.nofs hb,.inr (Nat.le_trans I.sz hb),fun x c e z=>?_,fun p hp z=>?_⟩
 ·obtain ⟨v,q⟩:=I.cell x c e
  exact absurd (Nat.lt_of_lt_of_le q.lt (by rw [z];exact hb)) (Nat.lt_irrefl _)
 ·exact absurd (Nat.lt_of_lt_of_le (Heap.lt_size (I.pin p hp).1) (by rw [z];exact hb)) (Nat.lt_irrefl _)
structure sC (P:Program) (w:World) (K:PySem.W.Frag) (tg:Expr) (J:It) (fp:List Addr) (it:Addr) (tn:Nat→Heap→Prop):Prop where
 mem:it∈fp
 obj:∀i h,tn i h→∀b∈fp,∃o,h.get? b=some o∧∀v,o.data≠.cell v
 keep:∀i h h',tn i h→(∀b∈fp,∀o,h.get? b=some o→h'.get? b=some o)→tn i h'
 item:∀(X:Cx),X.prog=P→X.w=w→X.K=K→X.calm=true→∀(i:Nat) (pins:List (Addr×Obj)) (s:Shared) (σ:St) (H:Hp) (E:Value→Shared→Prop),af X pins σ H s→(∀b∈fp,kS X pins H b)→tn i s.heap→J.go i H→
  wpAny (model P w) X.A (pyNext (.ref it)) (fun r s1=>∃u,r=some u∧
   wpAny (model P w) X.A (letOwnedTupleGo tg (.ref it) u) (fun _ s2=>cj fun x H'=>af X pins σ H' s2∧bz x u∧J.yld i H x H'∧tn (i+1) s2.heap∧∀b∈fp,H' b=none) E s1) E s
 done:∀(X:Cx),X.prog=P→X.w=w→X.K=K→X.calm=true→∀(i:Nat) (pins:List (Addr×Obj)) (s:Shared) (σ:St) (H:Hp) (E:Value→Shared→Prop),af X pins σ H s→(∀b∈fp,kS X pins H b)→tn i s.heap→J.stop i H→
  wpAny (model P w) X.A (pyNext (.ref it)) (fun r s1=>r=none∧af X pins σ H s1) E s
 self:∀(A:Around) (i:Nat) (s:Shared) (Q:Value→Shared→Prop) (E:Value→Shared→Prop),tn i s.heap→Q (.ref it) s→wpAny (model P w) A (pyIter (.ref it)) Q E s
abbrev TI:=St→Hp→(It→Hp→Prop)→Prop
def Ie (X:Cx) (pins:List (Addr×Obj)) (σ:St) (tg:Expr) (R:It→Hp→Prop) (itv:Value) (s2:Shared):Prop:=
 Dj fun (it:Addr) (fp:List Addr) (tn:Nat→Heap→Prop) (J:It) (H':Hp)=>itv=.ref it∧af X pins σ H' s2∧sC X.prog X.w X.K tg J fp it tn∧tn 0 s2.heap∧(∀b∈fp,kS X pins H' b)∧R J H'
def PI (X:Cx) (tg iter:Expr) (wi:TI):Prop:=
 ∀(pins:List (Addr×Obj)) (s:Shared) (σ:St) (H:Hp) (R:It→Hp→Prop),af X pins σ H s→wi σ H R→
   wpAny (model X.prog X.w) X.A (eval iter X.env) (fun v s1=>wpAny (model X.prog X.w) X.A (pyIter v) (Ie X pins σ tg R) X.xe s1) X.xe s
theorem wz {M:Model}{A:Around}{E:Value→Shared→Prop}{s:Shared}{tg:Expr}{it:Addr}{u:Value}{o:Obj}{n:String}{vs:Array Value}{Q:Unit→Shared→Prop} (ho:s.heap.get? it=some o) (hc:o.cls=.type n) (hd:o.data=.fields vs)
 (hn:["enumerate", "zip", "dict_itemiterator", "dict_reverseitemiterator", "odict_iterator", "itertools.zip_longest", "itertools.pairwise"].contains n=false) (hQ:Q () s):wpAny M A (letOwnedTupleGo tg (.ref it) u) Q E s:=by
 unfold letOwnedTupleGo
 cases tg <;> first
  | exact wpAny_pure hQ
  | (cases u <;> first
   | exact wpAny_pure hQ
   | (refine wpAny_bind (wpAny_load ho ?_)
      rw [hc,hd]
      show wpAny M A (if (["enumerate", "zip", "dict_itemiterator", "dict_reverseitemiterator", "odict_iterator", "itertools.zip_longest", "itertools.pairwise"].contains n && vs[0]?==some (rawInt _))=true then _ else _) Q E s
      rw [if_neg (by intro h;rw [hn,Bool.false_and] at h;cases h)]
      exact wpAny_pure hQ))
def yJ (K:PySem.W.Frag) (a:Addr):It:=
 ⟨fun i H=>cj fun xs x=>aE K H a xs∧xs[i]?=some x,fun i H x H'=>H'=H∧∀xs,aE K H a xs→xs[i]?=some x,fun i H=>∃xs,aE K H a xs∧xs.length≤i⟩
def tJ (K:PySem.W.Frag) (a:Addr):It:=
 ⟨fun i H=>cj fun xs x=>ak K H a xs∧xs[i]?=some x,fun i H x H'=>H'=H∧∀xs,ak K H a xs→xs[i]?=some x,fun i H=>∃xs,ak K H a xs∧xs.length≤i⟩
def zq (lo:Int) (n:Nat):It:=⟨fun i _=>i<n,fun i H x H'=>H'=H∧x=.int (lo+i),fun i _=>n≤i⟩
theorem AN {P:Program}{w:World}{K:PySem.W.Frag}{tg:Expr} (a it:Addr):sC P w K tg (yJ K a) [it] it (fun i h=>h.IsListIter it a i) where
 mem:=by simp
 obj:=fun i h st b hb=>by
  have e:b=it:=by simpa using hb
  subst e
  obtain ⟨o,e,c,d⟩:=st
  exact ⟨o,e,fun v z=>by rw [d] at z;cases z⟩
 keep:=fun i h h' st k=>st.at fun o e=>k it (by simp) o e
 item:=by
  intro X hP hw hK hc i pins s σ H E I hf st hg
  subst hP hw hK
  obtain ⟨xs,x,hq,hx⟩:=hg
  obtain ⟨its,rv,p,hz⟩:=I.list hq
  obtain ⟨u,hu,ru⟩:=rv.get hx
  obtain ⟨f0,f1,f2,f3,f4,f5⟩:=hf it (by simp)
  refine wpAny_pyNext_list_item st p.isList (x:=u) (by simpa using hu) fun h' st' sb=>?_
  have I1:af X pins σ H { s with heap:=h' }:=I.turned (t':=s.toks) (fun b o hb e=>(sb.2 b hb).trans e) f0 f1 f3 f4 f5
  obtain ⟨o,e,c,d⟩:=id st'
  exact ⟨u,rfl,wz (s:={ s with heap:=h' }) e c d (by decide) ⟨x,H,I1,ru,⟨rfl,fun ys hy=>by rw [I.list_inj hy hq];exact hx⟩,st',fun b hb=>(hf b hb).1⟩⟩
 done:=by
  intro X hP hw hK hc i pins s σ H E I hf st hg
  subst hP hw hK
  obtain ⟨xs,hq,hx⟩:=hg
  obtain ⟨its,rv,p,hz⟩:=I.list hq
  obtain ⟨f0,f1,f2,f3,f4,f5⟩:=hf it (by simp)
  have hl:=rv.length
  exact wpAny_pyNext_list_end (I.ok.hd hc) st p.isList (by simp;trivial) fun h' eb=>⟨rfl,I.turned (t':=s.toks) (fun b o hb e=>eb b o hb e) f0 f1 f3 f4 f5⟩
 self:=fun _ _ _ _ _ st h=>wpAny_pyIter_listiter st h
theorem zX {P:Program}{w:World}{K:PySem.W.Frag}{tg:Expr} (a it:Addr):sC P w K tg (tJ K a) [it] it (fun i h=>h.IsTupleIter it a i) where
 mem:=by simp
 obj:=fun i h st b hb=>by
  have e:b=it:=by simpa using hb
  subst e
  obtain ⟨o,e,c,d⟩:=st
  exact ⟨o,e,fun v z=>by rw [d] at z;cases z⟩
 keep:=fun i h h' st k=>st.at fun o e=>k it (by simp) o e
 item:=by
  intro X hP hw hK hc i pins s σ H E I hf st hg
  subst hP hw hK
  obtain ⟨xs,x,hq,hx⟩:=hg
  obtain ⟨its,rv,p,hz⟩:=I.tuple hq
  obtain ⟨u,hu,ru⟩:=rv.get hx
  obtain ⟨f0,f1,f2,f3,f4,f5⟩:=hf it (by simp)
  refine wpAny_pyNext_tuple_item st (show s.heap.IsTuple a its.toArray from p) (x:=u) (by simpa using hu) fun h' st' sb=>?_
  have I1:af X pins σ H { s with heap:=h' }:=I.turned (t':=s.toks) (fun b o hb e=>(sb.2 b hb).trans e) f0 f1 f3 f4 f5
  obtain ⟨o,e,c,d⟩:=id st'
  exact ⟨u,rfl,wz (s:={ s with heap:=h' }) e c d (by decide) ⟨x,H,I1,ru,⟨rfl,fun ys hy=>by rw [I.tuple_inj hy hq];exact hx⟩,st',fun b hb=>(hf b hb).1⟩⟩
 done:=by
  intro X hP hw hK hc i pins s σ H E I hf st hg
  subst hP hw hK
  obtain ⟨xs,hq,hx⟩:=hg
  obtain ⟨its,rv,p,hz⟩:=I.tuple hq
  obtain ⟨f0,f1,f2,f3,f4,f5⟩:=hf it (by simp)
  have hl:=rv.length
  exact wpAny_pyNext_tuple_end (I.ok.hd hc) st (show s.heap.IsTuple a its.toArray from p) (by simp;trivial) fun h' eb=>⟨rfl,I.turned (t':=s.toks) (fun b o hb e=>eb b o hb e) f0 f1 f3 f4 f5⟩
 self:=fun _ _ _ _ _ st h=>wpAny_pyIter_tupleiter st h
theorem zy {P:Program}{w:World}{K:PySem.W.Frag}{tg:Expr} (it:Addr) (lo:Int) (n:Nat):sC P w K tg (zq lo n) [it] it (fun i h=>IsRangeIter h it (lo+(i:Nat)*1) ((n:Int) - (i:Nat)) 1) where
 mem:=by simp
 obj:=fun i h st b hb=>by
  have e:b=it:=by simpa using hb
  subst e
  exact ⟨_,st,fun v z=>by
   have z':Data.fields _=Data.cell v:=z
   cases z'⟩
 keep:=fun i h h' st k=>k it (by simp) _ st
 item:=by
  intro X hP hw hK hc i pins s σ H E I hf st hg
  subst hP hw hK
  obtain ⟨f0,f1,f2,f3,f4,f5⟩:=hf it (by simp)
  have W:=Walks.range (prog:=X.prog) (w:=X.w) (I.ok.hd hc) it lo 1 n
  refine W.item i s _ _ hg st fun v h' tk hv st' kk=>?_
  obtain ⟨t,rfl⟩:=hv
  have I1:af X pins σ H { s with heap:=h',toks:=tk }:=I.turned (fun b o hb e=>kk b o (by simpa using hb) e) f0 f1 f3 f4 f5
  refine ⟨(),wz (s:={ s with heap:=h',toks:=tk }) (n := "range_iterator") st' rfl rfl (by decide) ⟨.int (lo+i),H,I1,⟨t,?_⟩,⟨rfl,rfl⟩,st',fun b hb=>(hf b hb).1⟩⟩
  rw [Int.mul_one]
 done:=by
  intro X hP hw hK hc i pins s σ H E I hf st hg
  subst hP hw hK
  obtain ⟨f0,f1,f2,f3,f4,f5⟩:=hf it (by simp)
  exact wpAny_pyNext_range_end (I.ok.hd hc) st (by have:n≤i:=hg;trivial) fun h' eb=>⟨rfl,I.turned (t':=s.toks) (fun b o hb e=>eb b o hb e) f0 f1 f3 f4 f5⟩
 self:=fun _ _ _ _ _ st h=>wpAny_pyIter_rangeiter st h
section
variable {X:Cx}{tg:Expr}
def zR (K:PySem.W.Frag) (tl:TE):TI:=fun σ H R=>tl σ H fun x H1=>∃a,x=.ref a∧(∃xs,aE K H1 a xs)∧R (yJ K a) H1
def zG (K:PySem.W.Frag) (tl:TE):TI:=fun σ H R=>tl σ H fun x H1=>∃a,x=.ref a∧(∃xs,ak K H1 a xs)∧R (tJ K a) H1
theorem uI {l:Expr}{tl:TE} (hl:PE X l tl):PI X tg l (zR X.K tl):=by
 intro pins s σ H R I h
 refine aW (hl pins s σ H _ I h) fun v s1 ⟨x,H1,I1,r1,q1⟩=>?_
 obtain ⟨a,e,⟨xs,hq⟩,q⟩:=q1
 subst e
 cases r1
 obtain ⟨its,rv,p,hz⟩:=I1.list hq
 refine wpAny_pyIter_list p.isList ?_
 refine ⟨s1.heap.objs.size,[s1.heap.objs.size],_,_,H1,rfl,I1.kept (t':=s1.toks) fun b o e=>Heap.get?_push_of_some _ e,AN a _,⟨_,Heap.get?_push_size _ rfl,rfl,rfl⟩,fun b hb=>?_,q⟩
 have e:b=s1.heap.objs.size:=by simpa using hb
 subst e
 exact I1.fpOk (Nat.le_refl _) (I1.hok.fresh (Nat.le_refl _))
theorem GC {l:Expr}{tl:TE} (hl:PE X l tl):PI X tg l (zG X.K tl):=by
 intro pins s σ H R I h
 refine aW (hl pins s σ H _ I h) fun v s1 ⟨x,H1,I1,r1,q1⟩=>?_
 obtain ⟨a,e,⟨xs,hq⟩,q⟩:=q1
 subst e
 cases r1
 obtain ⟨its,rv,p,hz⟩:=I1.tuple hq
 refine wpAny_pyIter_tuple (show s1.heap.IsTuple a its.toArray from p) ?_
 refine ⟨s1.heap.objs.size,[s1.heap.objs.size],_,_,H1,rfl,I1.kept (t':=s1.toks) fun b o e=>Heap.get?_push_of_some _ e,zX a _,⟨_,Heap.get?_push_size _ rfl,rfl,rfl⟩,fun b hb=>?_,q⟩
 have e:b=s1.heap.objs.size:=by simpa using hb
 subst e
 exact I1.fpOk (Nat.le_refl _) (I1.hok.fresh (Nat.le_refl _))
theorem Ck {pins:List (Addr×Obj)}{σ:St}{H:Hp}{s:Shared}{R:It→Hp→Prop}{E:Value→Shared→Prop}{lo hi:Int}{t u v:Tok}{tk:Nat} (I:af X pins σ H s) (h1:-(2 ^ 62)≤lo) (h2:lo<2 ^ 62) (h3:-(2 ^ 62)≤hi) (h4:hi<2 ^ 62)
 (q:R (zq lo (hi - lo).toNat) H):wpAny (model X.prog X.w) X.A (pyIter (.ref s.heap.objs.size)) (Ie X pins σ tg R) E { s with heap:=s.heap.push { cls:=.type "range",data:=.fields #[.int lo t,.int hi u,.int 1 v] },toks:=tk }:=by
 refine wpAny_pyIter_range (IsRange.new ..) (small_one h1 h2 h3 h4) ?_
 have I1:af X pins σ H { s with heap:=s.heap.push { cls:=.type "range",data:=.fields #[.int lo t,.int hi u,.int 1 v] },toks:=tk }:=I.kept fun b o e=>Heap.get?_push_of_some _ e
 refine ⟨(s.heap.push { cls:=.type "range",data:=.fields #[.int lo t,.int hi u,.int 1 v] }).objs.size,[(s.heap.push { cls:=.type "range",data:=.fields #[.int lo t,.int hi u,.int 1 v] }).objs.size],_,_,H,rfl,
  I1.kept (t':=tk) fun b o e=>Heap.get?_push_of_some _ e,zy _ lo (hi - lo).toNat,?_,fun b hb=>?_,q⟩
 ·have e1:lo+((0:Nat):Int)*1=lo:=by simp
  have e2:(((hi - lo).toNat:Nat):Int) - ((0:Nat):Int)=Builtin.Range.rangeSize lo hi 1:=by rw [rangeSize_one];split <;> trivial
  show IsRangeIter _ _ (lo+((0:Nat):Int)*1) ((((hi - lo).toNat:Nat):Int) - ((0:Nat):Int)) 1
  rw [e1,e2]
  exact Heap.get?_push_size _ rfl
 ·have e:b=(s.heap.push { cls:=.type "range",data:=.fields #[.int lo t,.int hi u,.int 1 v] }).objs.size:=by simpa using hb
  subst e
  exact I1.fpOk (Nat.le_refl _) (I1.hok.fresh (Nat.le_refl _))
def GG (ta:TA):TI:=fun σ H R=>ta σ H fun vs H1=>∃j:Int,vs=[.int j]∧-(2 ^ 62)≤j∧j<2 ^ 62∧R (zq 0 j.toNat) H1
theorem dU {a:Expr}{ta:TA}{p pos:Pos} (hg:Gl X "range") (hm:X.mg "range" = none) (ha:PA X [a] ta) (hs:starEach [a] X.env=[(false,eval a X.env)]:=by rfl):PI X tg (.Call (.Name "range" p) [a] [] pos) (GG ta):=by
 intro pins s σ H R I h
 refine Call_ (fY I hg hm boot_range (PyProof.Rows.callWith_type1 (aW (ha pos pins s σ H _ I h) fun us s1 ⟨vs,H1,I1,r1,q1⟩=>?_) hs rfl))
 obtain ⟨j,e,q1,q2,q⟩:=q1
 subst e
 cases r1 with
 | cons r rr=>
  cases rr
  obtain ⟨t,rfl⟩:=r
  exact call_range_1 (Ck I1 (by trivial) (by trivial) q1 q2 (by simpa using q))
def IE (wi:TI) (g:TG) (tb:TS):TS:=fun D σ H=>wi σ H fun J H1=>∃W:Nat→Nat→St→Hp→Prop,(∃m,W 0 m σ H1)∧∀i m σ H,W i m σ H→
 (J.stop i H∧D.nx σ H)∨(J.go i H∧∃N:St→Hp→Prop,(∀σ' H',N σ' H'→∃m',m'<m∧W (i+1) m' σ' H')∧∀x H',J.yld i H x H'→g x σ H' fun σ2 H2=>tb { D with nx:=N,ct:=N,bk:=D.nx } σ2 H2)
def qp (fp:List Addr) (h:Heap):List (Addr×Obj):=fp.filterMap fun b=>(h.get? b).map fun o=>(b,o)
theorem lG {fp:List Addr}{h:Heap}{b:Addr}{o:Obj} (hb:b∈fp) (e:h.get? b=some o):(b,o)∈qp fp h:=List.mem_filterMap.mpr ⟨b,hb,by rw [e];rfl⟩
theorem AA {fp:List Addr}{h:Heap}{p:Addr×Obj} (hp:p∈qp fp h):p.1∈fp∧h.get? p.1=some p.2:=by
 obtain ⟨b,hb,e⟩:=List.mem_filterMap.mp hp
 cases q:h.get? b with
 | none=>rw [q] at e;cases e
 | some o=>
  rw [q] at e
  have e':(b,o)=p:=Option.some.inj e
  subst e'
  exact ⟨hb,q⟩
theorem af.pinned {pins:List (Addr×Obj)}{σ:St}{H:Hp}{s:Shared}{fp:List Addr} (I:af X pins σ H s) (hf:∀b∈fp,kS X pins H b) (ho:∀b∈fp,∃o,s.heap.get? b=some o∧∀v,o.data≠.cell v):af X (pins++qp fp s.heap) σ H s:=
 I.pins_of fun p hp=>(List.mem_append.mp hp).elim (fun z=>I.pin p (List.mem_append_right _ z)) fun z=>by
  obtain ⟨hb,e⟩:=AA z
  obtain ⟨f0,f1,f2,_⟩:=hf p.1 hb
  obtain ⟨o,e',d⟩:=ho p.1 hb
  rw [e] at e';cases e'
  exact ⟨e,f0,f1,f2,d⟩
theorem af.unpinned {pins pl:List (Addr×Obj)}{σ:St}{H:Hp}{s:Shared} (I:af X (pins++pl) σ H s):af X pins σ H s:=I.pins_of fun p hp=>I.pin p (List.mem_append_right _ (List.mem_append_left _ hp))
theorem d8 {iter:Expr}{body:List Stmt}{wi:TI}{g:TG}{tb:TS}{pos:Pos} (hp:PassesOwn (model X.prog X.w) X.A X.env X.xe) (hc:X.calm=true) (hi:PI X tg iter wi) (hg:PG X tg g) (hb:nG X body tb)
 (hs:∀x,foldedSetIterable iter X.env x=pure x:=by intro _;rfl):PS X (.For tg iter body [] pos) (IE wi g tb):=by
 intro pins s σ H D I h
 refine wpAny_For (aW (hi pins s σ H _ I h) fun v s1 h1=>aW h1 fun itv s2 h2=>?_) hs
 obtain ⟨it,fp,tn,J,H2,e,I2,T,st2,f2,W,⟨m0,w0⟩,turn⟩:=h2
 subst e
 have stat:∀{H':Hp},(∀b∈fp,H' b=none)→∀b∈fp,kS X pins H' b:=fun hn b hb=>⟨hn b hb,(f2 b hb).2⟩
 refine codeAny_forLoop_any (fun n s'=>∃i σ' H',af X pins σ' H' s'∧tn i s'.heap∧(∀b∈fp,H' b=none)∧W i n σ' H') ?_ m0 ⟨0,σ,H2,I2,st2,fun b hb=>(f2 b hb).1,w0⟩
 rintro n s3 ⟨i,σ3,H3,I3,st3,fr3,w3⟩
 rcases turn i n σ3 H3 w3 with ⟨stop,qn⟩ | ⟨go,N,hN,step⟩
 ·refine wpAny_passesOwn hp (aW (T.done X rfl rfl rfl hc i pins s3 σ3 H3 X.xe I3 (stat fr3) st3 stop) fun r s4 ⟨hr,I4⟩=>?_)
  subst hr
  exact wpAny_execs_nil ⟨σ3,H3,I4,qn⟩
 ·refine wpAny_passesOwn hp (aW (T.item X rfl rfl rfl hc i pins s3 σ3 H3 X.xe I3 (stat fr3) st3 go) fun r s4 ⟨u,hr,h4⟩=>?_)
  subst hr
  refine wpAny_passesOwn hp (aW h4 fun _ s5 ⟨x,H5,I5,r5,y5,st5,fr5⟩=>?_)
  have I5':=I5.pinned (stat fr5) (T.obj _ _ st5)
  refine wpAny_passesOwn hp (aW (hg _ s5 σ3 H5 x u _ I5' r5 (step x H5 y5)) fun _ s6 ⟨σ6,H6,I6,q6⟩=>?_)
  refine wpAny_passesOwn hp (aW (hb _ s6 σ6 H6 _ I6 q6) fun f s7 q7=>?_)
  have again:∀{σ7:St}{H7:Hp},af X (pins++qp fp s5.heap) σ7 H7 s7→N σ7 H7→∃m,m<n∧∃i σ' H',af X pins σ' H' s7∧tn i s7.heap∧(∀b∈fp,H' b=none)∧W i m σ' H':=fun {σ7 H7} I7 n7=>by
   obtain ⟨m',hm,w7⟩:=hN σ7 H7 n7
   refine ⟨m',hm,i+1,σ7,H7,I7.unpinned,T.keep _ _ _ st5 fun b hb o e=>(I7.pin (b,o) (List.mem_append_right _ (List.mem_append_right _ (lG hb e)))).1,fun b hb=>?_,w7⟩
   obtain ⟨o,e,d⟩:=T.obj _ _ st5 b hb
   exact (I7.pin (b,o) (List.mem_append_right _ (List.mem_append_right _ (lG hb e)))).2.1
  cases f with
  | next=>obtain ⟨σ7,H7,I7,n7⟩:=q7;exact again I7 n7
  | cont=>obtain ⟨σ7,H7,I7,n7⟩:=q7;exact again I7 n7
  | brk=>obtain ⟨σ7,H7,I7,q7⟩:=q7;exact ⟨σ7,H7,I7.unpinned,q7⟩
  | ret v=>obtain ⟨x7,σ7,H7,I7,r7,q7⟩:=q7;exact ⟨x7,σ7,H7,I7.unpinned,r7,q7⟩
end
theorem xQ {K:PySem.W.Frag}{a:Addr}{xs:List V}{g:TG}{tb:TS}{D:fA}{σ:St}{H:Hp} (Pv:Nat→St→Hp→Prop) (h0:Pv 0 σ H) (hl:∀i σ H,i≤xs.length→Pv i σ H→aE K H a xs)
 (hs:∀i x σ H,xs[i]?=some x→Pv i σ H→g x σ H fun σ2 H2=>tb { D with nx:=Pv (i+1),ct:=Pv (i+1),bk:=D.nx } σ2 H2) (hd:∀σ H,Pv xs.length σ H→D.nx σ H) :
 ∃W:Nat→Nat→St→Hp→Prop,(∃m,W 0 m σ H)∧∀i m σ H,W i m σ H→
  ((yJ K a).stop i H∧D.nx σ H)∨((yJ K a).go i H∧∃N:St→Hp→Prop,(∀σ' H',N σ' H'→∃m',m'<m∧W (i+1) m' σ' H')∧∀x H',(yJ K a).yld i H x H'→g x σ H' fun σ2 H2=>tb { D with nx:=N,ct:=N,bk:=D.nx } σ2 H2):=by
 refine ⟨fun i m σ H=>m=xs.length - i∧i≤xs.length∧Pv i σ H,⟨xs.length,by simp,Nat.zero_le _,h0⟩,?_⟩
 rintro i m σ H ⟨rfl,hi,p⟩
 have q:=hl i σ H hi p
 by_cases hlt:i<xs.length
 ·refine .inr ⟨⟨xs,xs[i],q,by simp [hlt]⟩,Pv (i+1),fun σ' H' p'=>⟨xs.length - (i+1),by trivial,rfl,hlt,p'⟩,fun x H' y=>?_⟩
  obtain ⟨e,y⟩:=y
  subst e
  exact hs i x σ _ (y xs q) p
 ·have e:i=xs.length:=by trivial
  subst e
  exact .inl ⟨⟨xs,q,Nat.le_refl _⟩,hd σ H p⟩
theorem nz {K:PySem.W.Frag}{a:Addr}{xs:List V}{g:TG}{tb:TS}{D:fA}{σ:St}{H:Hp} (Pv:Nat→St→Hp→Prop) (h0:Pv 0 σ H) (hl:∀i σ H,i≤xs.length→Pv i σ H→ak K H a xs)
 (hs:∀i x σ H,xs[i]?=some x→Pv i σ H→g x σ H fun σ2 H2=>tb { D with nx:=Pv (i+1),ct:=Pv (i+1),bk:=D.nx } σ2 H2) (hd:∀σ H,Pv xs.length σ H→D.nx σ H) :
 ∃W:Nat→Nat→St→Hp→Prop,(∃m,W 0 m σ H)∧∀i m σ H,W i m σ H→
  ((tJ K a).stop i H∧D.nx σ H)∨((tJ K a).go i H∧∃N:St→Hp→Prop,(∀σ' H',N σ' H'→∃m',m'<m∧W (i+1) m' σ' H')∧∀x H',(tJ K a).yld i H x H'→g x σ H' fun σ2 H2=>tb { D with nx:=N,ct:=N,bk:=D.nx } σ2 H2):=by
 refine ⟨fun i m σ H=>m=xs.length - i∧i≤xs.length∧Pv i σ H,⟨xs.length,by simp,Nat.zero_le _,h0⟩,?_⟩
 rintro i m σ H ⟨rfl,hi,p⟩
 have q:=hl i σ H hi p
 by_cases hlt:i<xs.length
 ·refine .inr ⟨⟨xs,xs[i],q,by simp [hlt]⟩,Pv (i+1),fun σ' H' p'=>⟨xs.length - (i+1),by trivial,rfl,hlt,p'⟩,fun x H' y=>?_⟩
  obtain ⟨e,y⟩:=y
  subst e
  exact hs i x σ _ (y xs q) p
 ·have e:i=xs.length:=by trivial
  subst e
  exact .inl ⟨⟨xs,q,Nat.le_refl _⟩,hd σ H p⟩
theorem gH {lo:Int}{n:Nat}{g:TG}{tb:TS}{D:fA}{σ:St}{H:Hp} (Pv:Nat→St→Hp→Prop) (h0:Pv 0 σ H)
 (hs:∀i σ H,i<n→Pv i σ H→g (.int (lo+i)) σ H fun σ2 H2=>tb { D with nx:=Pv (i+1),ct:=Pv (i+1),bk:=D.nx } σ2 H2) (hd:∀σ H,Pv n σ H→D.nx σ H) :
 ∃W:Nat→Nat→St→Hp→Prop,(∃m,W 0 m σ H)∧∀i m σ H,W i m σ H→
  ((zq lo n).stop i H∧D.nx σ H)∨((zq lo n).go i H∧∃N:St→Hp→Prop,(∀σ' H',N σ' H'→∃m',m'<m∧W (i+1) m' σ' H')∧∀x H',(zq lo n).yld i H x H'→g x σ H' fun σ2 H2=>tb { D with nx:=N,ct:=N,bk:=D.nx } σ2 H2):=by
 refine ⟨fun i m σ H=>m=n - i∧i≤n∧Pv i σ H,⟨n,by simp,Nat.zero_le _,h0⟩,?_⟩
 rintro i m σ H ⟨rfl,hi,p⟩
 by_cases hlt:i<n
 ·refine .inr ⟨hlt,Pv (i+1),fun σ' H' p'=>⟨n - (i+1),by trivial,rfl,hlt,p'⟩,fun x H' y=>?_⟩
  obtain ⟨e,y⟩:=y
  subst e y
  exact hs i σ _ hlt p
 ·have e:i=n:=by trivial
  subst e
  exact .inl ⟨Nat.le_refl _,hd σ H p⟩
abbrev R2:=V→V→Hp→VK→Prop
def cn (X:Cx) (f:Value→Value→Sem Value) (r:R2):Prop:=
 ∀(pins:List (Addr×Obj)) (s:Shared) (σ:St) (H:Hp) (x y:V) (v u:Value) (Q:VK),af X pins σ H s→bz x v→bz y u→r x y H Q→
   wpAny (model X.prog X.w) X.A (f v u) (EP X pins σ Q) X.xe s
def C9 (X:Cx) (f:Value→Sem Value) (r:V→Hp→VK→Prop):Prop:=
 ∀(pins:List (Addr×Obj)) (s:Shared) (σ:St) (H:Hp) (x:V) (v:Value) (Q:VK),af X pins σ H s→bz x v→r x H Q→
   wpAny (model X.prog X.w) X.A (f v) (EP X pins σ Q) X.xe s
def db (X:Cx) (f:Value) (r:List V→Hp→VK→Prop):Prop:=
 ∀(pins:List (Addr×Obj)) (s:Shared) (σ:St) (H:Hp) (xs:List V) (us:List Value) (Q:VK),af X pins σ H s→aH xs us→r xs H Q→
   wpAny (model X.prog X.w) X.A (call f us) (EP X pins σ Q) X.xe s
def mR (r:R2) (ta tb:TE):TE:=fun σ H Q=>ta σ H fun x H1=>tb σ H1 fun y H2=>r x y H2 Q
def Ic (r:V→Hp→VK→Prop) (ta:TE):TE:=fun σ H Q=>ta σ H fun x H1=>r x H1 Q
inductive Jd (C:Int→Int→Prop) (g:Int→Int→V) (x:V) (y:V) (H:Hp) (Q:VK):Prop
 | mk (i:_) (j:_) (h0:x=.int i) (h1:y=.int j) (h2:C i j) (h3:Q (g i j) H)
def rI (C:Int→Int→Prop) (g:Int→Int→V):R2:=fun x y H Q=>Jd C g x y H Q
inductive IN (g:Int→Int→V) (x:V) (y:V) (H:Hp) (Q:VK):Prop
 | mk (i:_) (j:_) (h0:x=.int i) (h1:y=.int j) (h2:Q (g i j) H)
def rE (g:Int→Int→V):R2:=fun x y H Q=>IN g x y H Q
def rU (g:Int→V):V→Hp→VK→Prop:=fun x H Q=>FT x fun i=>Q (g i) H
section
variable {X:Cx}{a b c:Expr}{ta tb tc:TE}{pos:Pos}
theorem BO (ha:PE X a ta) (hb:PE X b tb) {pins:List (Addr×Obj)}{s:Shared}{σ:St}{H:Hp}{R:V→V→Hp→Prop} (I:af X pins σ H s)
 (h:ta σ H fun x H1=>tb σ H1 fun y H2=>R x y H2) {Q:Value→Shared→Prop}{f:Value→Value→Sem Value}
 (hf:∀v u s2 x y H2,af X pins σ H2 s2→bz x v→bz y u→R x y H2→wpAny (model X.prog X.w) X.A (f v u) Q X.xe s2) :
 wpAny (model X.prog X.w) X.A (eval a X.env) (fun v s₁=>wpAny (model X.prog X.w) X.A (eval b X.env) (fun u s₂=>wpAny (model X.prog X.w) X.A (f v u) Q X.xe s₂) X.xe s₁) X.xe s:=by
 refine aW (ha pins s σ H _ I h) fun v s1 ⟨x,H1,I1,r1,q1⟩=>?_
 refine aW (hb pins s1 σ H1 _ I1 q1) fun u s2 ⟨y,H2,I2,r2,q2⟩=>?_
 exact hf v u s2 x y H2 I2 r1 r2 q2
theorem aj {op:Operator}{r:R2} (ho:cn X (binaryOp op) r) (ha:PE X a ta) (hb:PE X b tb):PE X (.BinOp a op b pos) (mR r ta tb):=by
 intro pins s σ H Q I h
 exact wpAny_BinOp (BO ha hb I h fun v u s2 x y H2 I2 rx ry q=>ho pins s2 σ H2 x y v u Q I2 rx ry q)
theorem mI {op:UnaryOp}{r:V→Hp→VK→Prop} (ho:C9 X (unaryOp op) r) (ha:PE X a ta):PE X (.UnaryOp op a pos) (Ic r ta):=by
 intro pins s σ H Q I h
 exact UnaryOp_ (aW (ha pins s σ H _ I h) fun v s1 ⟨x,H1,I1,r1,q1⟩=>ho pins s1 σ H1 x v Q I1 r1 q1)
theorem wJ {f:Value→Value→Sem Value}{C:Int→Int→Prop}{g:Int→Int→Int}
 (rule:∀(i j:Int) (t u:Tok) (s:Shared) (Q:Value→Shared→Prop) (E:Value→Shared→Prop),C i j→Q (.int (g i j) s.toks) { s with toks:=s.toks+1 }→wpAny (model X.prog X.w) X.A (f (.int i t) (.int j u)) Q E s) :
 cn X f (rI C fun i j=>.int (g i j)):=by
 intro pins s σ H x y v u Q I rx ry h
 obtain ⟨i,j,rfl,rfl,hc,q⟩:=h
 obtain ⟨t,rfl⟩:=rx
 obtain ⟨t',rfl⟩:=ry
 exact rule i j t t' s _ _ hc ⟨.int (g i j),H,I.tok _,⟨()⟩,q⟩
theorem FV {f:Value→Value→Sem Value}{g:Int→Int→Int}
 (rule:∀(i j:Int) (t u:Tok) (s:Shared) (Q:Value→Shared→Prop) (E:Value→Shared→Prop),Q (.int (g i j) s.toks) { s with toks:=s.toks+1 }→wpAny (model X.prog X.w) X.A (f (.int i t) (.int j u)) Q E s) :
 cn X f (rE fun i j=>.int (g i j)):=by
 intro pins s σ H x y v u Q I rx ry h
 obtain ⟨i,j,rfl,rfl,q⟩:=h
 obtain ⟨t,rfl⟩:=rx
 obtain ⟨t',rfl⟩:=ry
 exact rule i j t t' s _ _ ⟨.int (g i j),H,I.tok _,⟨()⟩,q⟩
theorem zO {f:Value→Value→Sem Value}{g:Int→Int→Bool}
 (rule:∀(i j:Int) (t u:Tok) (s:Shared) (Q:Value→Shared→Prop) (E:Value→Shared→Prop),Q (.bool (g i j)) s→wpAny (model X.prog X.w) X.A (f (.int i t) (.int j u)) Q E s) :
 cn X f (rE fun i j=>.bl (g i j)):=by
 intro pins s σ H x y v u Q I rx ry h
 obtain ⟨i,j,rfl,rfl,q⟩:=h
 obtain ⟨t,rfl⟩:=rx
 obtain ⟨t',rfl⟩:=ry
 exact rule i j t t' s _ _ ⟨.bl (g i j),H,I,rfl,q⟩
def IB (i j:Int):Prop:=0<j∧j<1073741824
def Cj (i j:Int):Prop:=0≤j∧j≤1000000∧i.natAbs<2 ^ 64
def zI (i j:Int):Prop:=(-(2 ^ 64)<i∧i<2 ^ 64)∨(-(2 ^ 64)<j∧j<2 ^ 64)
theorem zI.ok {i j:Int} (h:zI i j):IntMulOk i j:=by
 rcases h with ⟨h1,h2⟩ | ⟨h1,h2⟩
 ·exact .of_left (intBits_le_64 h1 h2)
 ·exact .of_right (intBits_le_64 h1 h2)
theorem bJ:cn X (binaryOp .Add) (rE fun i j=>.int (i+j)):=FV fun _ _ _ _ _ _ _ q=>add_int q
theorem sY:cn X (binaryOp .Sub) (rE fun i j=>.int (i - j)):=FV fun _ _ _ _ _ _ _ q=>sub_int q
theorem ej:cn X (binaryOp .Mult) (rI zI fun i j=>.int (i*j)):=wJ fun _ _ _ _ _ _ _ hc q=>mul_int q hc.ok
theorem Du:cn X (binaryOp .FloorDiv) (rI IB fun i j=>.int (i / j)):=wJ fun i j _ _ _ _ _ hc q=>by
 have h1:(0:Int)<j:=hc.1
 have h2:j<1073741824:=hc.2
 exact floordiv_int (by trivial) (by rw [Int.fdiv_eq_ediv_of_nonneg i (by trivial)];exact q) (.inl (PyProof.noPylong_small (by trivial)))
theorem je:cn X (binaryOp .Mod) (rI (fun _ j=>0<j) fun i j=>.int (i % j)):=wJ fun i j _ _ _ _ _ hc q=>by
 have h1:(0:Int)<j:=hc
 exact mod_int' (by trivial) (by rw [Int.fmod_eq_emod_of_nonneg i (by trivial)];exact q)
theorem En:cn X (binaryOp .Mod) (rI (fun _ j=>j≠0) fun i j=>.int (i.fmod j)):=wJ fun _ _ _ _ _ _ _ hc q=>mod_int' hc q
theorem lK:cn X (binaryOp .Pow) (rI Cj fun i j=>.int (i ^ j.toNat)):=wJ fun _ _ _ _ _ _ _ hc q=>pow_int_small hc.1 hc.2.1 hc.2.2 q
theorem Jn {f:Value→Sem Value}{g:Int→Int}
 (rule:∀(i:Int) (t:Tok) (s:Shared) (Q:Value→Shared→Prop) (E:Value→Shared→Prop),Q (.int (g i) s.toks) { s with toks:=s.toks+1 }→wpAny (model X.prog X.w) X.A (f (.int i t)) Q E s) :
 C9 X f (rU fun i=>.int (g i)):=by
 intro pins s σ H x v Q I rx h
 obtain ⟨i,rfl,q⟩:=h
 obtain ⟨t,rfl⟩:=rx
 exact rule i t s _ _ ⟨.int (g i),H,I.tok _,⟨()⟩,q⟩
theorem lP:C9 X (unaryOp .USub) (rU fun i=>.int (-i)):=Jn fun _ _ _ _ _ q=>neg_int q
end
def Gi:V→V→Bool
 | .non,.non=>true | .non,.int _=>true | .int _,.non=>true | .non,.bl _=>true | .bl _,.non=>true | .non,.str _=>true | .str _,.non=>true
 | .int _,.int _=>true | .bl _,.bl _=>true | .str _,.str _=>true | .byt _,.byt _=>true
 | .int _,.str _=>true | .str _,.int _=>true | .bl _,.str _=>true | .str _,.bl _=>true
 | _,_=>false
def Jj:R2:=fun x y H Q=>Gi x y=true∧Q (.bl (decide (x=y))) H
def Jc:R2:=fun x y H Q=>Gi x y=true∧Q (.bl (!decide (x=y))) H
theorem yU {i j:Int}:decide (V.int i=V.int j)=(i==j):=by
 rw [Bool.eq_iff_iff]
 simp
theorem AQ {i j:Bool}:decide (V.bl i=V.bl j)=(i==j):=by
 rw [Bool.eq_iff_iff]
 simp
theorem yG {i j:Str}:decide (V.str i=V.str j)=(i==j):=by
 rw [Bool.eq_iff_iff]
 simp
theorem y7 {i j:Array UInt8}:decide (V.byt i=V.byt j)=(i.toList==j.toList):=by
 rw [Bool.eq_iff_iff]
 cases i
 cases j
 simp
section
variable {X:Cx}{a b c:Expr}{ta tb tc:TE}{pos:Pos}
theorem bE {pins:List (Addr×Obj)}{σ:St}{H:Hp}{s:Shared}{Q:VK}{k k':Bool} (I:af X pins σ H s) (q:Q (.bl k) H) (e:k=k'):EP X pins σ Q (.bool k') s:=by
 subst e
 exact ⟨.bl k,H,I,rfl,q⟩
theorem cY:cn X (compareOp .Eq) Jj:=by
 intro pins s σ H x y v u Q I rx ry h
 obtain ⟨hs,q⟩:=h
 cases x with
 | non=>
  cases rx
  cases y with
  | non=>cases ry;exact PySem.EqNone.eq_none_none (bE I q (by simp))
  | bl j=>cases ry;exact PySem.EqNone.eq_none_bool (bE I q (by simp))
  | int j=>obtain ⟨t',rfl⟩:=ry;exact PySem.EqNone.eq_none_int (bE I q (by simp))
  | str j=>obtain ⟨t',rfl⟩:=ry;exact PySem.EqNone.eq_none_str (bE I q (by simp))
  | _=>exact absurd (show false=true from hs) Bool.false_ne_true
 | bl i=>
  cases rx
  cases y with
  | non=>cases ry;exact PySem.EqNone.eq_bool_none (bE I q (by simp))
  | bl j=>cases ry;exact eq_bool (bE I q AQ)
  | str j=>obtain ⟨t',rfl⟩:=ry;exact PySem.EqMixed.eq_bool_str (bE I q (by simp))
  | _=>exact absurd (show false=true from hs) Bool.false_ne_true
 | int i=>
  obtain ⟨t,rfl⟩:=rx
  cases y with
  | non=>cases ry;exact PySem.EqNone.eq_int_none (bE I q (by simp))
  | int j=>obtain ⟨t',rfl⟩:=ry;exact eq_int (bE I q yU)
  | str j=>obtain ⟨t',rfl⟩:=ry;exact PySem.EqMixed.eq_int_str (bE I q (by simp))
  | _=>exact absurd (show false=true from hs) Bool.false_ne_true
 | str i=>
  obtain ⟨t,rfl⟩:=rx
  cases y with
  | non=>cases ry;exact PySem.EqNone.eq_str_none (bE I q (by simp))
  | bl j=>cases ry;exact PySem.EqMixed.eq_str_bool (bE I q (by simp))
  | int j=>obtain ⟨t',rfl⟩:=ry;exact PySem.EqMixed.eq_str_int (bE I q (by simp))
  | str j=>obtain ⟨t',rfl⟩:=ry;exact eq_str (bE I q yG)
  | _=>exact absurd (show false=true from hs) Bool.false_ne_true
 | byt i=>
  obtain ⟨t,rfl⟩:=rx
  cases y with
  | byt j=>obtain ⟨t',rfl⟩:=ry;exact PySem.W.eq_bytes (bE I q y7)
  | _=>exact absurd (show false=true from hs) Bool.false_ne_true
 | _=>cases y <;> exact absurd (show false=true from hs) Bool.false_ne_true
theorem iz:cn X (compareOp .NotEq) Jc:=by
 intro pins s σ H x y v u Q I rx ry h
 obtain ⟨hs,q⟩:=h
 cases x with
 | non=>
  cases rx
  cases y with
  | non=>cases ry;exact PySem.EqNone.ne_none_none (bE I q (by simp))
  | bl j=>cases ry;exact PySem.EqNone.ne_none_bool (bE I q (by simp))
  | int j=>obtain ⟨t',rfl⟩:=ry;exact PySem.EqNone.ne_none_int (bE I q (by simp))
  | str j=>obtain ⟨t',rfl⟩:=ry;exact PySem.EqNone.ne_none_str (bE I q (by simp))
  | _=>exact absurd (show false=true from hs) Bool.false_ne_true
 | bl i=>
  cases rx
  cases y with
  | non=>cases ry;exact PySem.EqNone.ne_bool_none (bE I q (by simp))
  | bl j=>cases ry;exact ne_bool (bE I q (congrArg not AQ))
  | str j=>obtain ⟨t',rfl⟩:=ry;exact PySem.EqMixed.ne_bool_str (bE I q (by simp))
  | _=>exact absurd (show false=true from hs) Bool.false_ne_true
 | int i=>
  obtain ⟨t,rfl⟩:=rx
  cases y with
  | non=>cases ry;exact PySem.EqNone.ne_int_none (bE I q (by simp))
  | int j=>obtain ⟨t',rfl⟩:=ry;exact ne_int (bE I q (congrArg not yU))
  | str j=>obtain ⟨t',rfl⟩:=ry;exact PySem.EqMixed.ne_int_str (bE I q (by simp))
  | _=>exact absurd (show false=true from hs) Bool.false_ne_true
 | str i=>
  obtain ⟨t,rfl⟩:=rx
  cases y with
  | non=>cases ry;exact PySem.EqNone.ne_str_none (bE I q (by simp))
  | bl j=>cases ry;exact PySem.EqMixed.ne_str_bool (bE I q (by simp))
  | int j=>obtain ⟨t',rfl⟩:=ry;exact PySem.EqMixed.ne_str_int (bE I q (by simp))
  | str j=>obtain ⟨t',rfl⟩:=ry;exact ne_str (bE I q (congrArg not yG))
  | _=>exact absurd (show false=true from hs) Bool.false_ne_true
 | byt i=>
  obtain ⟨t,rfl⟩:=rx
  cases y with
  | byt j=>obtain ⟨t',rfl⟩:=ry;exact PySem.W.ne_bytes (bE I q (congrArg not y7))
  | _=>exact absurd (show false=true from hs) Bool.false_ne_true
 | _=>cases y <;> exact absurd (show false=true from hs) Bool.false_ne_true
theorem dQ:cn X (compareOp .Lt) (rE fun i j=>.bl (decide (i<j))):=zO fun _ _ _ _ _ _ _ q=>lt_int q
theorem lg:cn X (compareOp .LtE) (rE fun i j=>.bl (decide (i≤j))):=zO fun _ _ _ _ _ _ _ q=>le_int q
theorem oz:cn X (compareOp .Gt) (rE fun i j=>.bl (decide (j<i))):=zO fun _ _ _ _ _ _ _ q=>gt_int q
theorem wC:cn X (compareOp .GtE) (rE fun i j=>.bl (decide (j≤i))):=zO fun _ _ _ _ _ _ _ q=>ge_int q
theorem A9:cn X (compareOp .Is) (fun x y H Q=>y=.non∧Q (.bl (decide (x=.non))) H):=by
 intro pins s σ H x y v u Q I rx ry h
 obtain ⟨rfl,q⟩:=h
 cases ry
 refine is_none_gen (bE I q ?_)
 cases x <;> first
  | (cases rx;rfl)
  | (obtain ⟨t,rfl⟩:=rx;rfl)
theorem kJ (b:Expr) {op:CmpOp} (h:op≠.In:=by decide) (h2:op≠.NotIn:=by decide):behindInMarks op b=false:=by
 have e1:(op==CmpOp.In)=false:=by cases op <;> first | rfl | exact absurd rfl h
 have e2:(op==CmpOp.NotIn)=false:=by cases op <;> first | rfl | exact absurd rfl h2
 cases b <;> simp [behindInMarks,e1,e2]
theorem bY {op:CmpOp}{r:R2} (ho:cn X (compareOp op) r) (ha:PE X a ta) (hb:PE X b tb) (hm:behindInMarks op b=false):PE X (.Compare a [op] [b] pos) (mR r ta tb):=by
 intro pins s σ H Q I h
 exact wpAny_Compare1 (BO ha hb I h fun v u s2 x y H2 I2 rx ry q=>ho pins s2 σ H2 x y v u Q I2 rx ry q) hm
def Do (t:TE):TT:=fun σ H Q=>t σ H fun x H'=>uJ x fun k=>Q k H'
theorem au {op:CmpOp}{r:R2} (ho:cn X (compareOp op) r) (ha:PE X a ta) (hb:PE X b tb) (hm:behindInMarks op b=false):PT X (.Compare a [op] [b] pos) (Do (mR r ta tb)):=by
 intro pins s σ H Q I h
 refine wpAny_isTrue_Compare1 (aW (ha pins s σ H _ I h) fun v s1 ⟨x,H1,I1,r1,q1⟩=>aW (hb pins s1 σ H1 _ I1 q1) fun u s2 ⟨y,H2,I2,r2,q2⟩=>
  aW (ho pins s2 σ H2 x y v u _ I2 r1 r2 q2) fun c s3 ⟨z,H3,I3,r3,k,e,q3⟩=>?_) hm
 subst e
 cases r3
 exact wpAny_truthy_bool ⟨H3,I3,q3⟩
def Bg (r r':R2) (ta tb tc:TE):TE:=fun σ H Q=>ta σ H fun x H1=>tb σ H1 fun y H2=>r x y H2 fun z H3=>uJ z fun k=>
 (if k=true then tc σ H3 fun w' H4=>r' y w' H4 Q else Q (.bl false) H3)
theorem lR {op op':CmpOp}{r r':R2} (ho:cn X (compareOp op) r) (ho':cn X (compareOp op') r') (ha:PE X a ta) (hb:PE X b tb) (hc:PE X c tc)
 (hm:lastMarks [op,op'] [b,c]=false:=by with_unfolding_all rfl):PE X (.Compare a [op,op'] [b,c] pos) (Bg r r' ta tb tc):=by
 intro pins s σ H Q I h
 refine Compare_chain (aW (ha pins s σ H _ I h) fun v s1 ⟨x,H1,I1,r1,q1⟩=>chain_link (aW (hb pins s1 σ H1 _ I1 q1) fun u s2 ⟨y,H2,I2,r2,q2⟩=>
  aW (ho pins s2 σ H2 x y v u _ I2 r1 r2 q2) fun d s3 ⟨z,H3,I3,r3,k,e,q3⟩=>?_)) hm
 subst e
 cases r3
 refine wpAny_truthy_bool ?_
 cases k with
 | false=>exact ite_ff ⟨.bl false,H3,I3,rfl,q3⟩
 | true=>exact ite_tt (chain_last (aW (hc pins s3 σ H3 _ I3 q3) fun w' s4 ⟨z',H4,I4,r4,q4⟩=>ho' pins s4 σ H4 y z' u w' Q I4 r2 r4 q4))
theorem BQ {op op':CmpOp}{r r':R2} (ho:cn X (compareOp op) r) (ho':cn X (compareOp op') r') (ha:PE X a ta) (hb:PE X b tb) (hc:PE X c tc)
 (hm:lastMarks [op,op'] [b,c]=false:=by with_unfolding_all rfl):PT X (.Compare a [op,op'] [b,c] pos) (Do (Bg r r' ta tb tc)):=by
 intro pins s σ H Q I h
 refine isTrue_chain (aW (ha pins s σ H _ I h) fun v s1 ⟨x,H1,I1,r1,q1⟩=>test_link (aW (hb pins s1 σ H1 _ I1 q1) fun u s2 ⟨y,H2,I2,r2,q2⟩=>
  aW (ho pins s2 σ H2 x y v u _ I2 r1 r2 q2) fun d s3 ⟨z,H3,I3,r3,k,e,q3⟩=>?_)) hm
 subst e
 cases r3
 refine wpAny_truthy_bool ?_
 cases k with
 | false=>
  obtain ⟨k',e',q'⟩:=q3
  cases e'
  exact ite_ff ⟨H3,I3,q'⟩
 | true=>
  refine ite_tt (test_last (aW (hc pins s3 σ H3 _ I3 q3) fun w' s4 ⟨z',H4,I4,r4,q4⟩=>aW (ho' pins s4 σ H4 y z' u w' _ I4 r2 r4 q4) fun d' s5 ⟨z2,H5,I5,r5,k2,e2,q5⟩=>?_))
  subst e2
  cases r5
  exact wpAny_truthy_bool ⟨H5,I5,q5⟩
theorem qB:(sizeLine:Nat)<2 ^ 63:=by rw [sizeLine_eq];decide
theorem zM:cn X (binaryOp .Add) (fun x y H Q=>cj fun i j=>x=.str i∧y=.str j∧i.length+j.length≤sizeLine∧Q (.str (i++j)) H):=by
 intro pins s σ H x y v u Q I rx ry h
 obtain ⟨i,j,rfl,rfl,hz,q⟩:=h
 obtain ⟨t,rfl⟩:=rx
 obtain ⟨t',rfl⟩:=ry
 exact add_str (fun t' tk=>⟨.str (i++j),H,I.tok _,⟨()⟩,q⟩) hz
theorem i0 {x:V}{us:List Value} (r:aH [x] us):∃u,us=[u]∧bz x u:=by
 cases r with
 | cons r1 r2=>cases r2;exact ⟨_,rfl,r1⟩
theorem Ad {x y:V}{us:List Value} (r:aH [x,y] us):cj fun u w'=>us=[u,w']∧bz x u∧bz y w':=by
 cases r with
 | cons r1 r2=>
  cases r2 with
  | cons r3 r4=>cases r4;exact ⟨_,_,rfl,r1,r3⟩
theorem lY:db X (.builtin "abs") (fun xs H Q=>∃i,xs=[.int i]∧Q (.int (if i<0 then -i else i)) H):=by
 intro pins s σ H xs us Q I r h
 obtain ⟨i,rfl,q⟩:=h
 obtain ⟨u,rfl,t,rfl⟩:=i0 r
 exact call_abs_int fun u tk=>⟨.int (if i<0 then -i else i),H,I.tok _,⟨()⟩,q⟩
theorem AY (hc:X.calm=true):db X (.builtin "max") (fun xs H Q=>cj fun i j=>xs=[.int i,.int j]∧Q (.int (if j > i then j else i)) H):=by
 intro pins s σ H xs us Q I r h
 obtain ⟨i,j,rfl,q⟩:=h
 obtain ⟨u,w',rfl,⟨t,rfl⟩,⟨t',rfl⟩⟩:=Ad r
 refine max_two_ints (I.ok.hd hc) fun h' tk k=>⟨_,H,I.kept k,?_,q⟩
 by_cases hj:j > i
 ·rw [if_pos hj,if_pos hj];exact ⟨()⟩
 ·rw [if_neg hj,if_neg hj];exact ⟨()⟩
theorem Bt (hc:X.calm=true):db X (.builtin "min") (fun xs H Q=>cj fun i j=>xs=[.int i,.int j]∧Q (.int (if j<i then j else i)) H):=by
 intro pins s σ H xs us Q I r h
 obtain ⟨i,j,rfl,q⟩:=h
 obtain ⟨u,w',rfl,⟨t,rfl⟩,⟨t',rfl⟩⟩:=Ad r
 refine min_two_ints (I.ok.hd hc) fun h' tk k=>⟨_,H,I.kept k,?_,q⟩
 by_cases hj:j<i
 ·rw [if_pos hj,if_pos hj];exact ⟨()⟩
 ·rw [if_neg hj,if_neg hj];exact ⟨()⟩
theorem iW:db X (.type "int") (fun xs H Q=>(∃i,xs=[.int i]∧Q (.int i) H)∨∃k,xs=[.bl k]∧Q (.int (if k then 1 else 0)) H):=by
 intro pins s σ H xs us Q I r h
 rcases h with ⟨i,rfl,q⟩ | ⟨k,rfl,q⟩
 ·obtain ⟨u,rfl,t,rfl⟩:=i0 r
  exact call_int_int ⟨.int i,H,I,⟨()⟩,q⟩
 ·obtain ⟨u,rfl,r1⟩:=i0 r
  cases r1
  exact call_int_bool ⟨.int (if k then 1 else 0),H,I.tok _,⟨()⟩,q⟩
end
structure CN (h:Heap) (x dx C:Addr) (mA:Str→Option Value):Prop where
 obj:h.get? x=some (PySem.W.instObj C dx)
 ns:h.Ns1 dx mA
 ne:dx≠x
theorem AS {h:Heap}{dx:Addr}{mA:Str→Option Value} (n:h.Ns1 dx mA):∃od,h.get? dx=some od∧∀name,PySem.W.lookIn name od=some (mA name):=by
 obtain ⟨o,es,ep,ho,hd,hk,_,hm⟩:=n
 refine ⟨o,ho,fun name=>?_⟩
 have e:=hm name
 unfold nsFind findBy at e
 rw [←Array.find?_toList] at e
 unfold PySem.W.lookIn
 rw [hd]
 dsimp only
 split
 ·rename_i y q
  rw [q] at e
  exact congrArg some e
 ·rename_i q
  rw [q] at e
  have a:es.toList.any (·.refKey)=false:=by
   rw [List.any_eq_false]
   intro y hy
   obtain ⟨z,t,hkey⟩:=hk y (Array.mem_toList_iff.mp hy)
   simp [DictEntry.refKey,hkey]
  have a':¬es.toList.any (·.refKey)=true:=by rw [a];exact Bool.false_ne_true
  rw [if_neg a']
  exact congrArg some e
theorem CN.look {h:Heap}{x dx C:Addr}{mA:Str→Option Value} (I:CN h x dx C mA):∃od,PySem.W.InstAt h x (PySem.W.instObj C dx) C (some od)∧∀name,PySem.W.lookIn name od=some (mA name):=
 let ⟨od,ho,hl⟩:=AS I.ns
 ⟨od,⟨I.obj,rfl,rfl,ho⟩,hl⟩
section
variable {prog:Program}{w:World}{A:Around}{E:Value→Shared→Prop}{s:Shared}{K:PySem.W.Frag}{x dx C f:Addr}{mA:Str→Option Value}{name:Str}{v:Value}
end
section
variable {P:Program}{w:World}{H H':Hp}{h h':Heap}{a C dx:Addr}{fs fs':List (Str×V)}
theorem EX (hok:fK P w H h) (e:H a=some (.ins C dx fs)):∃mA,CN h a dx C mA∧(∀f,CM (fs.lookup f) (mA f))∧PySem.Within mA (fs.map (·.1))∧fs.length≤1000∧H dx=some (.own a):=by
 obtain ⟨d,z,ne,ob,mA,n,r,q⟩:=(show cv P w H h a (.ins C dx fs) from hok a _ e)
 exact ⟨mA,⟨ob,n,ne⟩,r,q,z,d⟩
end
structure Gx (K:PySem.W.Frag) (C:Addr):Prop where
 pg:PySem.W.plainGet K C Str.empty=true
 hd:PySem.W.hasDictIn K C=true
 po:PySem.W.plainOver K C=true
 sa:PySem.W.findIn K (.ref C) "__setattr__" = some (some (.builtin "object.__setattr__"))
theorem Gx.get {K:PySem.W.Frag}{C:Addr} (c:Gx K C) (f:Str):PySem.W.plainGet K C f=true:=c.pg
section
variable {X:Cx}{pins:List (Addr×Obj)}{σ:St}{H:Hp}{s:Shared}{a C dx:Addr}{fs:List (Str×V)}{f:Str}{v:V}{A:Around}{E:Value→Shared→Prop}
end
section
variable {X:Cx}{o e value:Expr}{f:Str}{pos pos' tpos:Pos}{ta tv:TE}
end
section
variable {X:Cx}{pins:List (Addr×Obj)}{σ:St}{H:Hp}{s:Shared}{A:Around}{E:Value→Shared→Prop}{Q:Value→Shared→Prop}{c:Value}{b:Bool}
inductive ij (K:PySem.W.Frag) (H:Hp):V→Value→Prop where
 | non:ij K H .non (.type "NoneType")
 | bl (x:Bool):ij K H (.bl x) (.type "bool")
 | int (i:Int):ij K H (.int i) (.type "int")
 | str (x:Str):ij K H (.str x) (.type "str")
 | flt (x:UInt64):ij K H (.flt x) (.type "float")
 | lst {a:Addr}{xs:List V} (e:H a=some (.lst xs)):ij K H (.ref a) (.type "list")
 | frz {a:Addr}{o:Obj}{xs:List V} (e:H a=some (.frz o (.lst xs))):ij K H (.ref a) (.type "list")
 | tup {a:Addr}{xs:List V} (e:H a=some (.tup xs)):ij K H (.ref a) (.type "tuple")
 | dK {a:Addr}{kvs:List (bp×V)} (e:H a=some (.dK kvs)):ij K H (.ref a) (.type "dict")
 | dT {a:Addr}{kvs:List (List bp×V)} (e:H a=some (.dT kvs)):ij K H (.ref a) (.type "dict")
 | ins {a C dx:Addr}{fs:List (Str×V)} (e:H a=some (.ins C dx fs)) (cl:Gx K C) (ha:PySem.W.findIn K (.ref C) "__class__" = some (some (.builtin "object.__class__")))
  (hn:PySem.W.specialIn K (.builtin "object.__class__") "__get__" = some (some (.builtin "getset_descriptor.__get__"))) (htk:PySem.W.takesIn K (.builtin "object.__class__")=some true)
  (hm:PySem.W.mroIn K C (.type "object")=some true):ij K H (.ref a) (.ref C)
theorem Bh {x:V}{u t:Value} (I:af X pins σ H s) (rx:bz x u) (ty:ij X.K H x t) (e:PySem.W.kitOne X.K t c=some b) (h:∀tk,Q (.bool b) { s with toks:=tk }) :
 wpAny (model X.prog X.w) A (call (.builtin "isinstance") [u,c]) Q E s:=by
 cases ty with
 | non=>cases (show u=Value.none from rx);exact PySem.W.kia_one PySem.W.kitx_none I.kIn True.intro e (fun z=>nomatch z) h
 | bl y=>cases (show u=Value.bool y from rx);exact PySem.W.kia_one PySem.W.kitx_bool I.kIn True.intro e (fun z=>nomatch z) h
 | int i=>obtain ⟨t,q⟩:=(show ∃t,u=Value.int i t from rx);cases q;exact PySem.W.kia_one PySem.W.kitx_int I.kIn True.intro e (fun z=>nomatch z) h
 | str y=>obtain ⟨t,q⟩:=(show ∃t,u=Value.str y t from rx);cases q;exact PySem.W.kia_one PySem.W.kitx_str I.kIn True.intro e (fun z=>nomatch z) h
 | flt y=>obtain ⟨t,q⟩:=(show ∃t,u=Value.float y t from rx);cases q;exact PySem.W.kia_one PySem.W.kitx_float I.kIn True.intro e (fun z=>nomatch z) h
 | @lst a xs ea=>
  cases (show u=Value.ref a from rx)
  obtain ⟨_,_,n,_,h1⟩:=(show cv X.prog X.w H s.heap a (.lst xs) from I.hok a _ ea)
  exact PySem.W.kia_one PySem.W.kitx_list I.kIn ⟨_,h1,rfl⟩ e (fun z=>nomatch z) h
 | @frz a ob xs ea=>
  cases (show u=Value.ref a from rx)
  obtain ⟨_,_,_,n,_,h1⟩:=(show cv X.prog X.w H s.heap a (.frz ob (.lst xs)) from I.hok a _ ea)
  exact PySem.W.kia_one PySem.W.kitx_list I.kIn ⟨_,h1,rfl⟩ e (fun z=>nomatch z) h
 | @tup a xs ea=>
  cases (show u=Value.ref a from rx)
  obtain ⟨_,_,_,p,_⟩:=(show cv X.prog X.w H s.heap a (.tup xs) from I.hok a _ ea)
  obtain ⟨o,h1,h2,_⟩:=p
  exact PySem.W.kia_one PySem.W.kitx_tuple I.kIn ⟨o,h1,h2⟩ e (fun z=>nomatch z) h
 | @dK a kvs ea=>
  cases (show u=Value.ref a from rx)
  obtain ⟨_,_,vs,_,p⟩:=(show cv X.prog X.w H s.heap a (.dK kvs) from I.hok a _ ea)
  obtain ⟨o,es,ep,h1,h2,_⟩:=p
  exact PySem.W.kia_one PySem.W.kitx_dict I.kIn ⟨o,h1,h2.1⟩ e (fun z=>nomatch z) h
 | @dT a kvs ea=>
  cases (show u=Value.ref a from rx)
  obtain ⟨_,_,xs,_,o,es,ep,h1,h2,_⟩:=(show cv X.prog X.w H s.heap a (.dT kvs) from I.hok a _ ea)
  exact PySem.W.kia_one PySem.W.kitx_dict I.kIn ⟨o,h1,h2.1⟩ e (fun z=>nomatch z) h
 | @ins a C dx fs ea cl ha hn htk hm=>
  cases (show u=Value.ref a from rx)
  obtain ⟨mA,O,_⟩:=EX I.hok ea
  obtain ⟨od,J,_⟩:=O.look
  exact PySem.W.kia_one (PySem.W.kitx_own (cl.get _) cl.hd ha hn htk hm) I.kIn J e (fun z=>nomatch z) h
end
structure eZ (k:Nat) (A:Around):Prop where
 hd:A.handled=none
 dp:A.depth+3*k+5<recursionLimit
 un:A.units+16*k+200<cLine
 gd:A.guards=some []
theorem eZ.mono {j k:Nat}{A:Around} (r:eZ k A) (h:j≤k):eZ j A:=⟨r.hd,by have:=r.dp;trivial,by have:=r.un;trivial,r.gd⟩
theorem eZ.deeper {k:Nat}{A:Around} (r:eZ (k+1) A) (env:Env):eZ k (A.deeper env):=
 ⟨r.hd,by have:=r.dp;show A.depth+1+3*k+5<_;trivial,by have:=r.un;show A.units+3+16*k+200<_;trivial,r.gd⟩
theorem eZ.depth {k:Nat}{A:Around} (r:eZ k A):A.depth<recursionLimit:=by have:=r.dp;trivial
theorem eZ.units {k:Nat}{A:Around} (r:eZ k A):A.units+64<cLine:=by have:=r.un;trivial
def fU:TA:=fun _ H Q=>Q [] H
def dF (ta:TE) (tr:TA):TA:=fun σ H Q=>ta σ H fun x H1=>tr σ H1 fun xs H2=>Q (x :: xs) H2
section
variable {X:Cx}{e:Expr}{es:List Expr}{te:TE}{t:TA}{pos:Pos}
theorem aC:PA X [] fU:=fun _ _ _ _ H Q I h=>Calls.spliced_nil ⟨[],H,I,.nil,h⟩
theorem bS (ha:PE X e te) (hr:PA X es t) (hs:starEach (e :: es) X.env=(false,eval e X.env) :: starEach es X.env:=by rfl):PA X (e :: es) (dF te t):=by
 intro pos pins s σ H Q I h
 rw [hs]
 show wpAny _ _ (spliced ((false,eval e X.env) :: backTo pos (starEach es X.env))) _ _ s
 refine Calls.spliced_cons (aW (ha pins s σ H _ I h) fun u s1 ⟨x,H1,I1,r1,q1⟩=>?_)
 exact aW (hr pos pins s1 σ H1 _ I1 q1) fun us s2 ⟨xs,H2,I2,r2,q2⟩=>⟨x :: xs,H2,I2,.cons r1 r2,q2⟩
def IA (t:TA):TE:=fun σ H Q=>t σ H fun xs H1=>xs.length≤sizeLine∧∀p,H1 p=none→Q (.ref p) (bN H1 p (.lst xs))
theorem Gg (h:PA X es t):PE X (.List es pos) (IA t):=by
 intro pins s σ H Q I hq
 refine wpAny_List_spliced (aW (h pos pins s σ H _ I hq) fun us s1 ⟨xs,H1,I1,r,z,q⟩=>⟨by rw [←r.length];exact z,?_⟩)
 have hf:H1 s1.heap.objs.size=none:=I1.hok.fresh (Nat.le_refl _)
 refine ⟨.ref s1.heap.objs.size,bN H1 s1.heap.objs.size (.lst xs),I1.laid (t':=s1.toks) (fun b u e=>Heap.get?_push_of_some _ e) (Nat.le_refl _) ?_,rfl,q _ hf⟩
 exact ⟨z,us,0,r,Heap.get?_push_size _ rfl⟩
end
abbrev Sp:=List V→Hp→VK→XK→Prop
abbrev kY:=List Env→Hp→Shared→XK→Value→Shared→Prop
structure Ap (P:Program) (w:World) (K:PySem.W.Frag) (mg:Str→Option Value) (base:Heap) (A:Around) (outer:List Env) (s:Shared) (H:Hp):Prop where
 frames:A.frames=some outer
 mod:Mod K mg base
 bs:∀b o,base.get? b=some o→s.heap.get? b=some o∧H b=none
 bsz:base.objs.size≤s.heap.objs.size
 funs:s.heap.FunFrames base outer
 frf:∀b∈pJ outer,H b=none
 hok:fK P w H s.heap
 bare:AllBare s.gens
def CE (outer:List Env) (P:Program) (w:World) (H:Hp) (s:Shared) (Q:VK) (u:Value) (s':Shared):Prop:=
 cj fun v H'=>s'.os=s.os∧AllBare s'.gens∧Un (pJ outer) [] H H' s.heap s'.heap∧fK P w H' s'.heap∧bz v u∧Q v H'
def CR (CX:kY) (outer:List Env) (P:Program) (w:World) (H:Hp) (s:Shared) (Q:VK) (E:XK) (r:Result) (s':Shared):Prop:=
 match r with
 | .ok (.ret u)=>CE outer P w H s Q u s'
 | .ok _=>False
 | .error e=>CX outer H s E e s'
structure bt (P:Program) (w:World) (K:PySem.W.Frag) (mg:Str→Option Value) (base:Heap) (CX:kY) (k:Nat) (f:Addr) (fd:FuncData) (ps:List Str) (sp:Sp):Prop where
 len:∀vs H Q E,sp vs H Q E→vs.length=ps.length
 run:∀(A:Around) (outer:List Env) (s:Shared) (H:Hp) (args:Args) (us:List Value) (vs:List V) (Q:VK) (E:XK),eZ k A→Ap P w K mg base A outer s H→BindsTo s fd args (ps.zip us)→aH vs us→sp vs H Q E→
  codeAny (model P w) A (.call (.ref f) args) (CR CX outer P w H s Q E) s
theorem bt.mono {P:Program}{w:World}{K:PySem.W.Frag}{mg:Str→Option Value}{base:Heap}{CX:kY}{j k:Nat}{f:Addr}{fd:FuncData}{ps:List Str}{sp:Sp} (F:bt P w K mg base CX j f fd ps sp) (h:j≤k) :
 bt P w K mg base CX k f fd ps sp:=⟨F.len,fun A outer s H args us vs Q E hr=>F.run A outer s H args us vs Q E (hr.mono h)⟩
section
variable {X:Cx}{pins:List (Addr×Obj)}{σ:St}{H:Hp}{s s':Shared}
theorem af.env0 (I:af X pins σ H s):Ap X.prog X.w X.K X.mg X.base X.A X.stack s H:=
 ⟨I.ok.frames,I.ok.mod,I.bs,Nat.le_trans I.ok.bsz I.sz,I.stack,I.stkFree,I.hok,I.bare⟩
theorem af.after {Q:VK}{u:Value} (I:af X pins σ H s) (h:CE X.stack X.prog X.w H s Q u s'):EP X pins σ Q u s':=by
 obtain ⟨v,H',os,bare,un,hok,r,q⟩:=h
 obtain ⟨hh,g,d,t,os'⟩:=s'
 obtain rfl:os'=s.os:=os
 exact ⟨v,H',I.call (h':=hh) (g':=g) (d':=d) (t':=t) (ch:=[]) un hok bare (fun b z=>absurd z (by simp)),r,q⟩
end
def HJ (sp:Sp) (dvs:List V) (E:XK) (t:TA):TE:=fun σ H Q=>t σ H fun vs H1=>sp (vs++dvs) H1 Q E
def qX (K:PySem.W.Frag) (fd:FuncData) (ps:List Str) (ds:List Value):Prop:=
 ∀(s:Shared) (us:List Value),K.In s.heap→(us++ds).length=ps.length→BindsTo s fd ⟨us,[]⟩ (ps.zip (us++ds))
theorem qX.all {K:PySem.W.Frag}{fd:FuncData}{ps:List Str} (h:∀us:List Value,us.length=ps.length→bindArgs fd ⟨us,[]⟩=pure (ps.zip us)):qX K fd ps []:=fun s us _ hl=>by
 rw [List.append_nil] at hl ⊢
 exact .of_eq (h us hl)
def wM (CX:kY) (X:Cx) (E:XK):Prop:=∀(pins:List (Addr×Obj)) (σ:St) (H:Hp) (s:Shared) (e:Value) (s':Shared),af X pins σ H s→CX X.stack H s E e s'→X.xe e s'
section
variable {X:Cx}{CX:kY}{k:Nat}{f C:Addr}{fd:FuncData}{ps:List Str}{sp:Sp}{dvs:List V}{ds:List Value}{E:XK}{x m:Str}{p pos apos:Pos}{e o:Expr}{es:List Expr}{ta:TE}{t:TA}
theorem FZ {pins:List (Addr×Obj)}{σ:St}{H:Hp}{s:Shared}{Q:VK}{us:List Value}{vs:List V} (F:bt X.prog X.w X.K X.mg X.base CX k f fd ps sp) (hr:eZ k X.A) (hb:qX X.K fd ps ds) (hd:aH dvs ds) (hx:wM CX X E)
 (I:af X pins σ H s) (r:aH vs us) (h:sp (vs++dvs) H Q E):wpAny (model X.prog X.w) X.A (call (.ref f) us) (EP X pins σ Q) X.xe s:=by
 have r2:aH (vs++dvs) (us++ds):=r.append hd
 have hl:(us++ds).length=ps.length:=by rw [←r2.length];exact F.len _ _ _ _ h
 refine wpAny_call (codeAny_mono (F.run X.A X.stack s H ⟨us,[]⟩ (us++ds) (vs++dvs) Q E hr I.env0 (hb s us I.kIn hl) r2 h) fun r s' hq=>?_)
 cases r with
 | error e=>exact hx pins σ H s e s' I hq
 | ok fl=>
  cases fl with
  | ret u=>exact I.after hq
  | next=>exact False.elim hq
  | brk=>exact False.elim hq
  | cont=>exact False.elim hq
theorem hU (F:bt X.prog X.w X.K X.mg X.base CX k f fd ps sp) (hr:eZ k X.A) (hg:Gl X x) (hm:X.mg x=some (.ref f)) (hk:PySem.W.keepIn X.K (.ref f)=true) (hb:qX X.K fd ps ds) (hd:aH dvs ds) (hx:wM CX X E)
 (ha:PA X (e :: es) t) (hdb:(x==("__debug__" : Str))=false:=by decide) (he:starEach (e :: es) X.env=(false,eval e X.env) :: starEach es X.env:=by rfl) (hpl:(backTo pos (starEach es X.env)).any (·.1)=false:=by rfl) :
 PE X (.Call (.Name x p) (e :: es) [] pos) (HJ sp dvs E t):=by
 intro pins s σ H Q I h
 refine wpAny_Call_Name_kw (DP I hg hm ?_ hdb)
 refine PySem.W.callWith_K (h₀:=X.base) I.ok.mod.kin hk (aW (ha pos pins s σ H _ I h) fun us s1 ⟨vs,H1,I1,r,q⟩=>⟨I1.kIn,?_⟩) he hpl
 exact FZ F hr hb hd hx I1 r q
end
section
variable {X:Cx}{CX:kY}{k:Nat}{f C:Addr}{fd:FuncData}{ps ks:List Str}{sp:Sp}{E:XK}{x m:Str}{p pos apos kpos:Pos}{e o:Expr}{es:List Expr}{kws:List Keyword}{te ta:TE}{t tk:TA}{nm:Option Str}
variable {g:List Value→List Value→List Value}{gV:List V→List V→List V}
end
structure aQ (N P:List Str) (sc:Scope):Prop where
 kind:sc.kind=.function
 co:sc.isCoroutine=false
 gen:sc.isGenerator=false
 nd:N.Nodup
 pre:N.take P.length=P
 par:∀x∈P,sc.names.lookup x=some .local∨sc.names.lookup x=some .cell
 nofree:∀y∈sc.names,y.2≠.free
theorem u5 {kindOf:Str→Option NameKind}{x:Str}:∀{binds:List (Str×Value)}{m:Str→Option Value},(∀v,(x,v)∉binds)→bindL kindOf binds m x=m x
 | [],_,_=>rfl
 | (n,v) :: r,m,h=>by
  unfold bindL
  rw [u5 fun w hw=>h w (List.mem_cons_of_mem _ hw)]
  split
  ·have:x≠n:=by rintro rfl;exact h v List.mem_cons_self
   simp [this]
  ·rfl
theorem u4 {kindOf:Str→Option NameKind}{x:Str}:∀{binds:List (Str×Value)}{m:Str→Option Value},(∀v,(x,v)∉binds)→bindC kindOf binds m x=m x
 | [],_,_=>rfl
 | (n,v) :: r,m,h=>by
  unfold bindC
  rw [u4 fun w hw=>h w (List.mem_cons_of_mem _ hw)]
  split
  ·rfl
  ·have:x≠n:=by rintro rfl;exact h v List.mem_cons_self
   simp [this]
theorem vI {kindOf:Str→Option NameKind}{x:Str}{v:Value}:∀{P:List Str}{vs:List Value}{i:Nat}{m:Str→Option Value},P.Nodup→P[i]?=some x→vs[i]?=some v→kindOf x=some .local→
 bindL kindOf (P.zip vs) m x=some v
 | [],_,_,_,_,h,_,_=>by simp at h
 | _ :: _,[],_,_,_,_,h,_=>by simp at h
 | p :: P,w :: vs,0,m,nd,h1,h2,hk=>by
  simp at h1 h2;subst h1;subst h2
  show bindL kindOf ((p,w) :: P.zip vs) m p=_
  unfold bindL
  rw [u5 fun v hv=>(List.nodup_cons.mp nd).1 (List.of_mem_zip hv).1,if_pos hk]
  simp
 | p :: P,w :: vs,i+1,m,nd,h1,h2,hk=>by
  show bindL kindOf ((p,w) :: P.zip vs) m x=_
  unfold bindL
  exact vI (i:=i) (List.nodup_cons.mp nd).2 (by simpa using h1) (by simpa using h2) hk
theorem vc {kindOf:Str→Option NameKind}{x:Str}{v:Value}:∀{P:List Str}{vs:List Value}{i:Nat}{m:Str→Option Value},P.Nodup→P[i]?=some x→vs[i]?=some v→kindOf x≠some .local→
 bindC kindOf (P.zip vs) m x=some v
 | [],_,_,_,_,h,_,_=>by simp at h
 | _ :: _,[],_,_,_,_,h,_=>by simp at h
 | p :: P,w :: vs,0,m,nd,h1,h2,hk=>by
  simp at h1 h2;subst h1;subst h2
  show bindC kindOf ((p,w) :: P.zip vs) m p=_
  unfold bindC
  rw [u4 fun v hv=>(List.nodup_cons.mp nd).1 (List.of_mem_zip hv).1,if_neg hk]
  simp
 | p :: P,w :: vs,i+1,m,nd,h1,h2,hk=>by
  show bindC kindOf ((p,w) :: P.zip vs) m x=_
  unfold bindC
  exact vc (i:=i) (List.nodup_cons.mp nd).2 (by simpa using h1) (by simpa using h2) hk
def lf (N:List Str) (vs:List V):St:=vs.map some++List.replicate (N.length - vs.length) none
def uT (CX:kY) (P:Program) (w:World) (K:PySem.W.Frag) (mg:Str→Option Value) (base:Heap) (N:List Str) (qual:Str) (scope:Scope) (f:Addr) (cd:Value) (A:Around) (outer:List Env) (s:Shared) (H:Hp) (E:XK):Cx where
 prog:=P
 w:=w
 K:=K
 mg:=mg
 base:=base
 A:=A.deeper (envOfC qual scope s.heap.objs.size f cd)
 N:=N
 s₀:=s
 H₀:=H
 env:=envOfC qual scope s.heap.objs.size f cd
 outer:=outer
 stack:=envOfC qual scope s.heap.objs.size f cd :: outer
 ex:=[]
 calm:=true
 fn:=fun _=>true
 pn:=[]
 xe:=fun e s'=>wpAny (model P w) (A.deeper (envOfC qual scope s.heap.objs.size f cd)) (leaving (envOfC qual scope s.heap.objs.size f cd) e) (fun _ s''=>CX outer H s E e s'') (fun e' s''=>CX outer H s E e' s'') s'
theorem xO {sc:Scope}{n:Nat}{x:Str} (h:sc.names.lookup x=some .cell):∃c,(cellsFrom n sc.names []).lookup x=some c:=by
 have q:=PySem.W.cellsFrom_some sc.names n [] (.inl h)
 exact Option.isSome_iff_exists.mp q
theorem BF {CX:kY}{P:Program}{w:World}{K:PySem.W.Frag}{mg:Str→Option Value}{base:Heap}{N ps:List Str}{qual:Str}{scope:Scope}{f:Addr}{cd:Value}{A:Around}{outer:List Env}{s s1:Shared}{H:Hp}{E:XK}{us:List Value}{vs:List V}
 (S:aQ N ps scope) (hd:A.handled=none) (e0:Ap P w K mg base A outer s H) (hl:vs.length=ps.length) (r:aH vs us)
 (x:InCallC s s.heap.objs.size (bindL (envOfC qual scope s.heap.objs.size f cd).kindOf (ps.zip us) fun _=>none) (cellsFrom (s.heap.objs.size+1) scope.names []) (bindC (envOfC qual scope s.heap.objs.size f cd).kindOf (ps.zip us) fun _=>none) s1) :
 af (uT CX P w K mg base N qual scope f cd A outer s H E) [] (lf N vs) H s1:=by
 have hpl:ps.length≤N.length:=by have:=congrArg List.length S.pre;rw [List.length_take] at this;trivial
 obtain ⟨h1,tk,rfl,hk⟩:=x.done
 have noA:∀b:Addr,b∉(uT CX P w K mg base N qual scope f cd A outer s H E).ex:=fun b z=>absurd (show b∈([]:List Addr) from z) (by simp)
 refine ⟨⟨e0.mod,S.kind,rfl,rfl,Nat.le_refl _,fun y z c h1 h2=>?_,fun y hy=>?_,fun y c _ h=>?_,fun _=>hd,Around.frames_deeper e0.frames,.inr ⟨rfl,rfl⟩,fun b z=>absurd z (noA b),e0.bs,e0.bsz,fun b _ _=>noA b,fun b z=>absurd z (noA b),e0.funs,e0.frf⟩,
  rfl,e0.bare,Un.kept hk,⟨_,x.toInCall.ns,fun i y v h1 h2 h3=>?_⟩,fun y c h=>⟨_,x.cell y c h⟩,e0.hok.fresh (Nat.le_refl _),fun y c h=>?_,fun p hp=>absurd (show p∈([]:List (Addr×Obj)) from hp) (by simp),e0.hok.kept hk,?_⟩
 ·exact name_of_addr x.apart (PySem.mem_of_lookup h1) (PySem.mem_of_lookup h2)
 ·have hy:scope.names.lookup y=some .cell∨scope.names.lookup y=some .free:=hy
  rcases hy with hy | hy
  ·exact xO hy
  ·exact absurd rfl (S.nofree _ (PySem.mem_of_lookup hy))
 ·exact Nat.le_of_lt (x.above y c (PySem.mem_of_lookup h))
 ·have hi:i<vs.length:=by
   unfold lf at h2
   by_cases hi:i<vs.length
   ·exact hi
   ·rw [List.getElem?_append_right (by simpa using hi)] at h2
    rw [List.getElem?_replicate] at h2
    split at h2 <;> cases h2
  have ha:vs[i]?=some v:=by
   unfold lf at h2
   rw [List.getElem?_append_left (by simpa using hi),List.getElem?_map] at h2
   cases e:vs[i]? with
   | none=>rw [e] at h2;cases h2
   | some a=>rw [e] at h2;cases h2;rfl
  obtain ⟨u,hu,rv⟩:=r.get ha
  have hp:ps[i]?=some y:=by
   rw [←S.pre,List.getElem?_take_of_lt (by trivial)];exact h1
  have ndP:ps.Nodup:=by rw [←S.pre];exact S.nd.sublist (List.take_sublist _ _)
  refine ⟨u,rv,?_⟩
  rcases S.par y (List.mem_of_getElem? hp) with k | k
  ·exact .inl ⟨k,vI ndP hp hu k⟩
  ·obtain ⟨c,e⟩:=xO (n:=s.heap.objs.size+1) k
   refine .inr ⟨.inl k,c,e,?_⟩
   have q:=x.cell y c e
   rw [vc ndP hp hu (by show scope.names.lookup y≠_;rw [k];decide)] at q
   exact q
 ·exact e0.hok.fresh (Nat.le_of_lt (x.above y c (PySem.mem_of_lookup h)))
 ·unfold lf
  show _=N.length
  rw [List.length_append,List.length_map,List.length_replicate]
  trivial
theorem Hn {CX:kY}{P:Program}{w:World}{K:PySem.W.Frag}{mg:Str→Option Value}{base:Heap}{k:Nat}{f:Addr}{name qual:Str}{params:Arguments}{body:List Stmt}{scope:Scope}{dV kV doc pm cdv ct oc:Value}{an od:Option Addr}
 {osl:Array (Option Value)}{N ps:List Str}{sp:Sp} (lk:K.lookup f=some ⟨oc,od,.func (PySem.W.fnOf name qual params body scope dV kV doc pm an cdv ct),osl⟩) (hcd:PySem.W.codeIn K cdv qual=true) (S:aQ N ps scope)
 (len:∀vs H Q E,sp vs H Q E→vs.length=ps.length)
 (hbody:∀(A:Around) (outer:List Env) (s:Shared) (H:Hp) (vs:List V) (Q:VK) (E:XK),eZ k (A.deeper (envOfC qual scope s.heap.objs.size f cdv))→sp vs H Q E→
  ∃t,nG (uT CX P w K mg base N qual scope f cdv A outer s H E) body t∧t { nx:=fun _ H'=>Q .non H',rt:=Q } (lf N vs) H) :
 bt P w K mg base CX (k+1) f (PySem.W.fnOf name qual params body scope dV kV doc pm an cdv ct) ps sp:=by
 refine ⟨len,fun A outer s H args us vs Q E hr e0 hb r hsp=>?_⟩
 have hl:=len _ _ _ _ hsp
 have KX:K.In s.heap:=e0.mod.kin.keeps fun b o e=>(e0.bs b o e).1
 have lim:s.heap.NoLimit:=e0.mod.nolimit.keeps fun b o e=>(e0.bs b o e).1
 have hkind:∀y∈ps.zip us,scope.names.lookup y.1=some .local∨(scope.names.lookup y.1=some .cell∧((cellsFrom (s.heap.objs.size+1) scope.names []).lookup y.1).isSome=true):=fun ⟨n,v⟩ hy=>by
  rcases S.par n (List.of_mem_zip hy).1 with q | q
  ·exact .inl q
  ·exact .inr ⟨q,PySem.W.cellsFrom_some _ _ _ (.inl q)⟩
 refine codeAny_call_function hr.depth (KX _ _ lk) rfl S.co S.gen rfl (PySem.W.codeRec_of KX hcd) (hb _ _ _ _ ?_)
 refine wpAny_newFunctionEnv_cells S.kind hkind fun env he s1 x=>?_
 subst he
 refine ⟨lim.keeps x.toInCall.keep,codeAny_func ?_⟩
 obtain ⟨t,ht,hq⟩:=hbody A outer s H vs Q E (hr.deeper _) hsp
 have I:af (uT CX P w K mg base N qual scope f cdv A outer s H E) [] (lf N vs) H s1:=BF S hr.hd e0 hl r x
 refine wpAny_mono (ht [] s1 (lf N vs) H _ I hq) (fun fl s' hs=>?_) fun e s' hs=>hs
 have fin:∀{σ':St}{H':Hp}{v:V}{u:Value},af (uT CX P w K mg base N qual scope f cdv A outer s H E) [] σ' H' s'→bz v u→Q v H'→CE outer P w H s Q u s':=
  fun {σ' H' v u} J rv q=>⟨v,H',J.os,J.bare,J.base,J.hok,rv,q⟩
 cases fl with
 | ret u=>
  obtain ⟨v,σ',H',J,rv,q⟩:=hs
  exact fin J rv q
 | next=>
  obtain ⟨σ',H',J,q⟩:=hs
  exact fin (v:=V.non) (u:=Value.none) J rfl q
 | brk=>
  obtain ⟨_,_,_,q⟩:=hs
  exact False.elim q
 | cont=>
  obtain ⟨_,_,_,q⟩:=hs
  exact False.elim q
end L2
namespace L2
open PySem PySem.Spec PyProof.Rows
section
variable {X:Cx}{x:Str}{p pos:Pos}{e:Expr}{es:List Expr}{t:TA}{id T:String}{r:List V→Hp→VK→Prop}
def CO (r:List V→Hp→VK→Prop) (t:TA):TE:=fun σ H Q=>t σ H fun vs H1=>r vs H1 Q
theorem fc (hc:db X (.builtin id) r) (hg:Gl X x) (hm:X.mg x=none) (hv:bootBuiltins x=some (.builtin id)) (ha:PA X (e :: es) t) (hn:x≠"__name__" := by decide) (hdb:(x==("__debug__" : Str))=false:=by decide)
 (he:starEach (e :: es) X.env=(false,eval e X.env) :: starEach es X.env:=by rfl) (hpl:(backTo pos (starEach es X.env)).any (·.1)=false:=by rfl):PE X (.Call (.Name x p) (e :: es) [] pos) (CO r t):=by
 intro pins s σ H Q I h
 refine wpAny_Call_Name_kw (fY I hg hm hv ?_ hn hdb)
 exact PyProof.Rows.callWith_builtin1 (aW (ha pos pins s σ H _ I h) fun us s1 ⟨vs,H1,I1,r1,q1⟩=>hc pins s1 σ H1 vs us Q I1 r1 q1) he hpl
theorem bV (hc:db X (.type T) r) (hg:Gl X x) (hm:X.mg x=none) (hv:bootBuiltins x=some (.type T)) (ha:PA X (e :: es) t) (hn:x≠"__name__" := by decide) (hdb:(x==("__debug__" : Str))=false:=by decide)
 (he:starEach (e :: es) X.env=(false,eval e X.env) :: starEach es X.env:=by rfl) (hpl:(backTo pos (starEach es X.env)).any (·.1)=false:=by rfl):PE X (.Call (.Name x p) (e :: es) [] pos) (CO r t):=by
 intro pins s σ H Q I h
 refine wpAny_Call_Name_kw (fY I hg hm hv ?_ hn hdb)
 exact PyProof.Rows.callWith_type1 (aW (ha pos pins s σ H _ I h) fun us s1 ⟨vs,H1,I1,r1,q1⟩=>hc pins s1 σ H1 vs us Q I1 r1 q1) he hpl
end
end L2
namespace HT
open PySem PyProof.Rows
section
open PySem.SeqAt
open PySem.AutoSeq1 (wpAny_loadPart')
open PySem.MeetsSeq PySem.MeetsSeq2 PySem.MeetsSeq3
end
section
variable {prog:Program}{w:World}{A:Around}{E:Value→Shared→Prop}{s:Shared}
theorem cat_tup {t b:Addr}{vs ws:List Value}{Q:Value→Shared→Prop} (ht:IsTup s.heap t vs.toArray) (hb:IsTup s.heap b ws.toArray) (hv:vs≠[])
 (h1:ws=[]→Q (.ref t) s) (h2:ws≠[]→Q (.ref s.heap.objs.size) { s with heap:=s.heap.push { cls:=.type "tuple",data:=.seq (vs++ws).toArray } })
 (hsz:vs.length+ws.length≤sizeLine):wpAny (model prog w) A (binaryOp .Add (.ref t) (.ref b)) Q E s:=by
 obtain ⟨⟨cls,dd,data,sl⟩,ho,hc,n,hd⟩:=id ht
 obtain ⟨⟨cls2,dd2,data2,sl2⟩,ho2,hc2,n2,hd2⟩:=id hb
 simp only at hc hd hc2 hd2
 subst hc hd hc2 hd2
 have e:vs.toArray++ws.toArray=(vs++ws).toArray:=by simp
 by_cases hw:ws=[]
 ·exact concat_meets ⟨_,ho,rfl⟩ ⟨_,ho2,rfl⟩ noFill_tuple_add seq_tuple_add PySem.F.slot_tuple_add PySem.F.entry_tuple_add (PySem.F.args_tuple_add_2 _ _)
   (tuple_addW1 t b vs.toArray ws.toArray n n2 dd dd2 sl sl2 (by simpa using hv) (by simp [hw])) ⟨ho,ho2,h1 hw⟩
 ·refine concat_meets ⟨_,ho,rfl⟩ ⟨_,ho2,rfl⟩ noFill_tuple_add seq_tuple_add PySem.F.slot_tuple_add PySem.F.entry_tuple_add (PySem.F.args_tuple_add_2 _ _)
   (tuple_addW2 t b vs.toArray ws.toArray n n2 dd dd2 sl sl2 (by simpa using hv) (by simpa using hw) (by rw [List.size_toArray,List.size_toArray];exact hsz)) ⟨ho,ho2,?_⟩
  rw [e]
  exact h2 hw
def sIx (n d:Nat):Option Int→Nat
 | none=>d
 | some v=>if v<0 then (v+(n:Int)).toNat else min v.toNat n
theorem sIx_none (n d:Nat):sIx n d none=d:=rfl
theorem sIx_nat (n d k:Nat):sIx n d (some (k:Int))=min k n:=by
 show (if (k:Int)<0 then ((k:Int)+(n:Int)).toNat else min (k:Int).toNat n)=min k n
 rw [if_neg (by trivial),Int.toNat_natCast]
theorem Fm (n d:Nat) (hd:d≤n) (o:Option Int):sIx n d o≤n:=by
 cases o with
 | none=>exact hd
 | some v=>
  show (if v<0 then (v+(n:Int)).toNat else min v.toNat n)≤n
  by_cases hv:v<0
  ·rw [if_pos hv];trivial
  ·rw [if_neg hv];exact Nat.min_le_right _ _
theorem yR (v:Int) (n d:Nat):(if v<0 then max (v+(n:Int)) 0 else min v (n:Int))=((sIx n d (some v):Nat):Int):=by
 show (if v<0 then max (v+(n:Int)) 0 else min v (n:Int))=(((if v<0 then (v+(n:Int)).toNat else min v.toNat n):Nat):Int)
 by_cases hv:v<0
 ·simp only [if_pos hv];trivial
 ·simp only [if_neg hv];trivial
theorem zW (lo hi:Option Int) (n:Nat):Builtin.Slice.sliceAdjust lo hi 1 (n:Int)=(((sIx n 0 lo:Nat):Int),((sIx n n hi:Nat):Int)):=by
 have h1:¬((1:Int)<0):=by trivial
 unfold Builtin.Slice.sliceAdjust
 simp only [h1,if_false]
 refine Prod.ext ?_ ?_
 ·cases lo with
  | none=>rfl
  | some v=>exact yR v n 0
 ·cases hi with
  | none=>rfl
  | some v=>exact yR v n n
theorem Aj (i j:Nat):Builtin.Slice.slicePlaces (i:Int) (j:Int) 1=j - i:=by
 unfold Builtin.Slice.slicePlaces
 have h1:(1:Int) > 0:=by trivial
 simp only [h1,if_true,Int.ediv_one]
 split <;> trivial
theorem oO {v:Value}{o:Option Int}{Q:Option Int→Shared→Prop} (p:IsPart v o) (h:Q o s):wpAny (model prog w) A (Builtin.Slice.slicePartIndex v) Q E s:=by
 cases p with
 | none=>exact slicePart_none h
 | int i t=>exact slicePart_int h
theorem mf {sl:Addr}{vl vu:Value}{lo hi:Option Int}{n:Nat}{Q:Int×Int×Nat→Shared→Prop} (hs:s.heap.IsSliceOf sl vl vu .none) (pl:IsPart vl lo) (pu:IsPart vu hi)
 (h:Q (((sIx n 0 lo:Nat):Int),1,sIx n n hi - sIx n 0 lo) s):wpAny (model prog w) A (Builtin.Slice.sliceApplied (.ref sl) (pure (n:Int))) Q E s:=by
 obtain ⟨os,hos,hcs,hds⟩:=id hs
 unfold Builtin.Slice.sliceApplied Builtin.Slice.sliceFields
 refine wpAny_bind (wpAny_bind (wpAny_field hos hds (x:=vl) rfl (wpAny_bind (wpAny_field hos hds (x:=vu) rfl (wpAny_bind (wpAny_field hos hds (x:=.none) rfl (wpAny_pure ?_)))))))
 refine wpAny_bind (slicePart_none ?_)
 show wpAny _ _ (if ((1:Int)==0)=true then _ else _) _ _ s
 rw [if_neg (by decide)]
 refine wpAny_bind (oO pl (wpAny_bind (oO pu (wpAny_bind (wpAny_pure ?_)))))
 show wpAny _ _ (match Builtin.Slice.sliceAdjust lo hi 1 (n:Int) with | (lo,hi)=>pure (lo,(1:Int),Builtin.Slice.slicePlaces lo hi 1)) _ _ s
 rw [zW lo hi n]
 show wpAny _ _ (pure (((sIx n 0 lo:Nat):Int),(1:Int),Builtin.Slice.slicePlaces ((sIx n 0 lo:Nat):Int) ((sIx n n hi:Nat):Int) 1)) _ _ s
 rw [Aj]
 exact wpAny_pure h
theorem CI (xs:Array Value) (i k:Nat):((List.range k).filterMap fun (m:Nat)=>xs[((i:Int)+(m:Int)*1).toNat]?).toArray=((xs.toList.drop i).take k).toArray:=by
 have e:(fun (m:Nat)=>xs[((i:Int)+(m:Int)*1).toNat]?)=fun m=>xs[i+m]?:=by
  funext m
  have:((i:Int)+(m:Int)*1).toNat=i+m:=by trivial
  rw [this]
 rw [e]
 have:=pick_run xs i k
 rw [List.filterMap_map] at this
 have e2:((fun x=>xs[x]?) ∘ fun x=>i+x)=fun m=>xs[i+m]?:=rfl
 rw [e2] at this
 rw [this]
theorem getItem_tuple_cut {t sl:Addr}{items:Array Value}{vl vu:Value}{lo hi:Option Int}{Q:Value→Shared→Prop} (ht:IsTup s.heap t items) (hs:s.heap.IsSliceOf sl vl vu .none) (pl:IsPart vl lo) (pu:IsPart vu hi)
 (hw:¬(sIx items.size 0 lo=0∧sIx items.size items.size hi=items.size))
 (h:Q (.ref s.heap.objs.size) { s with heap:=s.heap.push { cls:=.type "tuple",data:=.seq ((items.toList.drop (sIx items.size 0 lo)).take (sIx items.size items.size hi - sIx items.size 0 lo)).toArray } })
 (hsz:items.size≤sizeLine):wpAny (model prog w) A (getItem (.ref t) (.ref sl)) Q E s:=by
 have htake:sizeOk (.seq ((items.toList.drop (sIx items.size 0 lo)).take (sIx items.size items.size hi - sIx items.size 0 lo)).toArray):=by
  show ((items.toList.drop (sIx items.size 0 lo)).take (sIx items.size items.size hi - sIx items.size 0 lo)).toArray.size≤sizeLine
  rw [List.size_toArray,List.length_take,List.length_drop,Array.length_toList]
  exact Nat.le_trans (Nat.min_le_right ..) (Nat.le_trans (Nat.sub_le ..) hsz)
 have hj:sIx items.size items.size hi≤items.size:=Fm _ _ (Nat.le_refl _) hi
 obtain ⟨os,hos,hcs,hds⟩:=id hs
 have hTs:s.TypeIs (.ref sl) "slice" := ⟨os,hos,hcs⟩
 unfold getItem
 try with_reducible refine wpAny_holding ?_
 first | refine wpAny_bind (wpAny_pure ?_) | skip
 refine wpAny_bind (wpAny_sequenceKey ht.typeIs (by decide) ?_)
 refine wpAny_bind (wpAny_callSpecial?_slot (name:=Str.ofString "__getitem__") ht.typeIs PyProof.Rows.slot_tuple_getitem
  (wpAny_call_entry PyProof.Rows.slot_tuple_getitem ht.typeIs entry_tuple_getitem ?_ (args_tuple_getitem _ _)))
 show wpAny _ _ (Builtin.Tuple.tupleItemsOf (.ref t) >>= _) _ _ s
 refine wpAny_bind (tupleItemsOf_ ht ?_)
 refine wpAny_bind (wpAny_typeOf hTs ?_)
 rw [if_pos (by decide)]
 refine wpAny_bind (mf hs pl pu ?_)
 have hno:¬((((sIx items.size 0 lo:Nat):Int)==0 && (1:Int)==1 && (sIx items.size items.size hi - sIx items.size 0 lo)==items.size)=true):=by
  intro q
  rw [Bool.and_eq_true,Bool.and_eq_true] at q
  have q1:((sIx items.size 0 lo:Nat):Int)=0:=eq_of_beq q.1.1
  have q2:sIx items.size items.size hi - sIx items.size 0 lo=items.size:=eq_of_beq q.2
  exact hw ⟨by trivial,by trivial⟩
 show wpAny _ _ (if (((sIx items.size 0 lo:Nat):Int)==0 && (1:Int)==1 && (sIx items.size items.size hi - sIx items.size 0 lo)==items.size)=true then _ else _) _ _ s
 rw [if_neg hno,CI]
 first
  | exact wpAny_bind (m:=Builtin.Tuple.tupleExact _) (wpAny_newObj_type (wpAny_pure ⟨_,rfl,wpAny_pure h⟩) htake)
  | exact wpAny_bind (m:=Builtin.Tuple.tupleExact _) (wpAny_newObj_type (wpAny_bind (wpAny_pure (wpAny_pure ⟨_,rfl,wpAny_pure h⟩))) htake)
  | exact wpAny_bind (wpAny_bind (m:=Builtin.Tuple.tupleExact _) (wpAny_newObj_type (wpAny_pure (wpAny_pure ⟨_,rfl,wpAny_pure h⟩)) htake))
  | exact wpAny_bind (wpAny_bind (m:=Builtin.Tuple.tupleExact _) (wpAny_newObj_type (wpAny_pure ⟨_,rfl,wpAny_pure h⟩) htake))
end
end HT
namespace L2
open PySem PySem.Spec PyProof.Rows
abbrev TO:=St→Hp→(Option Int→Hp→Prop)→Prop
def PO (X:Cx) (e:Option Expr) (t:TO):Prop:=
 ∀(pins:List (Addr×Obj)) (s:Shared) (σ:St) (H:Hp) (Q:Option Int→Hp→Prop),af X pins σ H s→t σ H Q→
   wpAny (model X.prog X.w) X.A (evalPart e X.env) (fun u s'=>cj fun o H'=>af X pins σ H' s'∧IsPart u o∧Q o H') X.xe s
def yM:TO:=fun _ H Q=>Q none H
def wu (t:TE):TO:=fun σ H Q=>t σ H fun x H1=>FT x fun i=>Q (some i) H1
section
variable {X:Cx}{e:Expr}{te:TE}{lo hi:Option Expr}{tl th:TO}{pos p2:Pos}
theorem be:PO X none yM:=by
 intro pins s σ H Q I h
 rw [evalPart_none]
 exact wpAny_pure ⟨none,H,I,.none,h⟩
theorem aU (h:PE X e te):PO X (some e) (wu te):=by
 intro pins s σ H Q I hw
 rw [evalPart_some]
 refine aW (h pins s σ H _ I hw) fun u s1 ⟨x,H1,I1,r1,q1⟩=>?_
 obtain ⟨i,rfl,q⟩:=q1
 obtain ⟨t,rfl⟩:=r1
 exact ⟨some i,H1,I1,.int i t,q⟩
def xm (X:Cx) (r:V→Option Int→Option Int→Hp→VK→Prop):Prop:=
 ∀(pins:List (Addr×Obj)) (s:Shared) (σ:St) (H:Hp) (x:V) (v vl vu:Value) (lo hi:Option Int) (sl:Addr) (Q:VK),af X pins σ H s→bz x v→s.heap.IsSliceOf sl vl vu .none→IsPart vl lo→IsPart vu hi→r x lo hi H Q→
   cj fun T id=>typeLookup (.type T) "__getitem__" = pure (some (.builtin id))∧s.TypeIs v T∧wpAny (model X.prog X.w) X.A (getItem v (.ref sl)) (EP X pins σ Q) X.xe s
def Ih (r:V→Option Int→Option Int→Hp→VK→Prop) (te:TE) (tl th:TO):TE:=fun σ H Q=>te σ H fun x H1=>tl σ H1 fun l H2=>th σ H2 fun u H3=>r x l u H3 Q
theorem aR {r:V→Option Int→Option Int→Hp→VK→Prop} (hr:xm X r) (he:PE X e te) (hl:PO X lo tl) (hu:PO X hi th):PE X (.Subscript e (.Slice lo hi none p2) pos) (Ih r te tl th):=by
 intro pins s σ H Q I h
 refine Subscript_ (aW (he pins s σ H _ I h) fun v s1 ⟨x,H1,I1,r1,q1⟩=>?_)
 refine wpAny_Slice (aW (hl pins s1 σ H1 _ I1 q1) fun vl s2 ⟨l,H2,I2,pl,q2⟩=>aW (hu pins s2 σ H2 _ I2 q2) fun vu s3 ⟨u,H3,I3,pu,q3⟩=>?_)
 rw [evalPart_none]
 refine wpAny_pure ?_
 have I4:af X pins σ H3 { s3 with heap:=s3.heap.push { cls:=.type "slice",data:=.fields #[vl,vu,.none] } }:=I3.kept (t':=s3.toks) fun b ob q=>Heap.get?_push_of_some _ q
 obtain ⟨T,id,hT,ht,hg⟩:=hr pins { s3 with heap:=s3.heap.push { cls:=.type "slice",data:=.fields #[vl,vu,.none] } } σ H3 x v vl vu l u s3.heap.objs.size Q I4 r1 (Heap.IsSliceOf.new ..) pl pu q3
 show wpAny (model X.prog X.w) X.A (subscriptTail e (.Slice lo hi none p2) v (.ref s3.heap.objs.size)) (EP X pins σ Q) X.xe { s3 with heap:=s3.heap.push { cls:=.type "slice",data:=.fields #[vl,vu,.none] } }
 exact tail_any (ops:=[.ref s3.heap.objs.size,v]) ht hT hg (by with_unfolding_all rfl)
def cS (xs:List V) (lo hi:Option Int):List V:=(xs.drop (HT.sIx xs.length 0 lo)).take (HT.sIx xs.length xs.length hi - HT.sIx xs.length 0 lo)
theorem rF (xs:List V) (lo hi:Option Int):(cS xs lo hi).length≤xs.length:=by
 unfold cS
 rw [List.length_take,List.length_drop]
 exact Nat.le_trans (Nat.min_le_right ..) (Nat.sub_le ..)
inductive HU (K:PySem.W.Frag) (x:V) (lo:Option Int) (hi:Option Int) (H:Hp) (Q:VK):Prop
 | mk (a:_) (xs:_) (h0:x=.ref a) (h1:ak K H a xs) (h2:¬(HT.sIx xs.length 0 lo=0∧HT.sIx xs.length xs.length hi=xs.length)) (h3:∀p,H p=none→Q (.ref p) (bN H p (.tup (cS xs lo hi))))
def IV (K:PySem.W.Frag):V→Option Int→Option Int→Hp→VK→Prop:=fun x lo hi H Q=>HU K x lo hi H Q
theorem Fd:xm X (IV X.K):=by
 intro pins s σ H x v vl vu lo hi sl Q I rx hs pl pu h
 obtain ⟨a,xs,rfl,hx,hw,q⟩:=h
 cases rx
 obtain ⟨its,r,ht,hz⟩:=I.tuple hx
 have hlen:its.toArray.size=xs.length:=by rw [List.size_toArray];exact r.length.symm
 refine ⟨"tuple",_,PyProof.Rows.slot_tuple_getitem.lookup,ht.typeIs,?_⟩
 refine HT.getItem_tuple_cut ht hs pl pu (by rw [hlen];exact hw) ?_ (by rw [hlen];exact hz)
 rw [hlen]
 refine ⟨.ref s.heap.objs.size,_,I.laid (t':=s.toks) (o:=.tup (cS xs lo hi)) (fun b ob q=>Heap.get?_push_of_some _ q) (Nat.le_refl _) ?_,rfl,q _ (I.hok.fresh (Nat.le_refl _))⟩
 exact ⟨Nat.le_trans (rF xs lo hi) hz,_,(r.drop (HT.sIx xs.length 0 lo)).take (HT.sIx xs.length xs.length hi - HT.sIx xs.length 0 lo),IsTup.new _ _,_,Heap.get?_push_size _ rfl,rfl⟩
inductive Gn (K:PySem.W.Frag) (x:V) (y:V) (H:Hp) (Q:VK):Prop
 | mk (a:_) (b:_) (xs:_) (ys:_) (h0:x=.ref a) (h1:y=.ref b) (h2:ak K H a xs) (h3:ak K H b ys) (h4:xs≠[]) (h5:xs.length+ys.length≤sizeLine) (h6:(ys=[]→Q (.ref a) H)) (h7:(ys≠[]→∀p,H p=none→Q (.ref p) (bN H p (.tup (xs++ys)))))
def Hr (K:PySem.W.Frag):R2:=fun x y H Q=>Gn K x y H Q
theorem aH.nil_iff {xs:List V}{us:List Value} (r:aH xs us):us=[]↔xs=[]:=by
 cases r with
 | nil=>simp
 | cons _ _=>simp
theorem DL:cn X (binaryOp .Add) (Hr X.K):=by
 intro pins s σ H x y v u Q I rx ry h
 obtain ⟨a,b,xs,ys,rfl,rfl,ha,hb,hx,hz,q1,q2⟩:=h
 cases rx
 cases ry
 obtain ⟨its,r1,p1,_⟩:=I.tuple ha
 obtain ⟨its2,r2,p2,_⟩:=I.tuple hb
 refine HT.cat_tup p1 p2 (fun z=>hx (r1.nil_iff.mp z)) (fun z=>⟨.ref a,H,I,rfl,q1 (r2.nil_iff.mp z)⟩) (fun z=>?_) (by rw [←r1.length,←r2.length];exact hz)
 refine ⟨.ref s.heap.objs.size,_,I.laid (t':=s.toks) (o:=.tup (xs++ys)) (fun b ob q=>Heap.get?_push_of_some _ q) (Nat.le_refl _) ?_,rfl,q2 (fun w=>z (r2.nil_iff.mpr w)) _ (I.hok.fresh (Nat.le_refl _))⟩
 exact ⟨by rw [List.length_append];exact hz,_,r1.append r2,IsTup.new _ _,_,Heap.get?_push_size _ rfl,rfl⟩
end
def nK (n:Nat) (i:Int):Option Nat:=if 0≤i then (if i<n then some i.toNat else none) else if -(n:Int)≤i then some (i+n).toNat else none
def gj {α:Type} (xs:List α) (i:Int):Option α:=(nK xs.length i).bind fun j=>xs[j]?
theorem zb {n:Nat}{i:Int}{j:Nat} (h:nK n i=some j):seqIndex? i n=some j∧j<n∧-(n:Int)≤i∧i<n:=by
 unfold nK at h
 by_cases h0:0≤i
 ·rw [if_pos h0] at h
  by_cases h1:i<n
  ·rw [if_pos h1] at h
   have e:i.toNat=j:=Option.some.inj h
   exact ⟨by rw [seqIndex_of h0 h1,e],by trivial,by trivial,h1⟩
  ·rw [if_neg h1] at h;cases h
 ·rw [if_neg h0] at h
  by_cases h1:-(n:Int)≤i
  ·rw [if_pos h1] at h
   have e:(i+n).toNat=j:=Option.some.inj h
   exact ⟨by rw [seqIndex_neg (by trivial) h1,e],by trivial,h1,by trivial⟩
  ·rw [if_neg h1] at h;cases h
theorem uG {α:Type}{xs:List α}{i:Int}{v:α} (h:gj xs i=some v):∃j,seqIndex? i xs.length=some j∧xs[j]?=some v∧j<xs.length∧-(xs.length:Int)≤i∧i<xs.length:=by
 unfold gj at h
 cases e:nK xs.length i with
 | none=>rw [e] at h;cases h
 | some j=>
  rw [e] at h
  obtain ⟨h1,h2,h3,h4⟩:=zb e
  exact ⟨j,h1,h,h2,h3,h4⟩
theorem kl {α:Type}{xs:List α}{j:Nat}{v:α} (h:xs[j]?=some v):gj xs (j:Int)=some v:=by
 have hj:j<xs.length:=(List.getElem?_eq_some_iff.mp h).1
 have e:nK xs.length (j:Int)=some j:=by
  unfold nK
  rw [if_pos (by trivial),if_pos (by trivial)];simp
 unfold gj;rw [e];exact h
def ER (b:Expr):Prop:=∀o i,subscripted b false o i=operate [o,i] (getItem o i)
def pB (X:Cx) (r:R2):Prop:=
 ∀(value slice:Expr) (pins:List (Addr×Obj)) (s:Shared) (σ:St) (H:Hp) (x y:V) (v u:Value) (Q:VK),af X pins σ H s→bz x v→bz y u→r x y H Q→
   subscripted slice false v u=operate [v,u] (getItem v u)→wpAny (model X.prog X.w) X.A (subscriptTail value slice v u) (EP X pins σ Q) X.xe s
def yB (X:Cx) (id:String) (r:V→List V→Hp→VK→Prop):Prop:=
 ∀(pins:List (Addr×Obj)) (s:Shared) (σ:St) (H:Hp) (x:V) (xs:List V) (v:Value) (us:List Value) (Q:VK),af X pins σ H s→bz x v→aH xs us→r x xs H Q→
   wpAny (model X.prog X.w) X.A (call (.builtin id) (v :: us)) (EP X pins σ Q) X.xe s
section
variable {X:Cx}{a b:Expr}{ta tb:TE}{pos:Pos}
theorem pB.or {r r':R2} (h:pB X r) (h':pB X r'):pB X (fun x y H Q=>r x y H Q∨r' x y H Q):=by
 intro value slice pins s σ H x y v u Q I rx ry q hs
 rcases q with q | q
 ·exact h value slice pins s σ H x y v u Q I rx ry q hs
 ·exact h' value slice pins s σ H x y v u Q I rx ry q hs
theorem fS {r:R2} (hr:pB X r) (ha:PE X a ta) (hb:PE X b tb) (hs:ER b):PE X (.Subscript a b pos) (mR r ta tb):=by
 intro pins s σ H Q I h
 exact Subscript_ (BO ha hb I h fun v u s2 x y H2 I2 rx ry q=>hr a b pins s2 σ H2 x y v u Q I2 rx ry q (hs _ _))
inductive Hx (K:PySem.W.Frag) (x:V) (y:V) (H:Hp) (Q:VK):Prop
 | mk (p:_) (xs:_) (i:_) (v:_) (h0:x=.ref p) (h1:y=.int i) (h2:aE K H p xs) (h3:gj xs i=some v) (h4:Q v H)
def Cn (K:PySem.W.Frag):R2:=fun x y H Q=>Hx K x y H Q
inductive HY (K:PySem.W.Frag) (x:V) (y:V) (H:Hp) (Q:VK):Prop
 | mk (p:_) (xs:_) (i:_) (v:_) (h0:x=.ref p) (h1:y=.int i) (h2:ak K H p xs) (h3:gj xs i=some v) (h4:Q v H)
def Ac (K:PySem.W.Frag):R2:=fun x y H Q=>HY K x y H Q
inductive Hi (x:V) (y:V) (H:Hp) (Q:VK):Prop
 | mk (z:_) (i:_) (c:_) (h0:x=.str z) (h1:y=.int i) (h2:z.length≤sizeLine) (h3:gj z.cps.toList i=some c) (h4:Q (.str ⟨#[c]⟩) H)
def Ff:R2:=fun x y H Q=>Hi  x y H Q
theorem zj:pB X (Cn X.K):=by
 intro value slice pins s σ H x y v u Q I rx ry h hs
 obtain ⟨p,xs,i,z,rfl,rfl,hq,he,q⟩:=h
 cases rx
 obtain ⟨t,rfl⟩:=ry
 obtain ⟨its,r,pl,hz⟩:=I.list hq
 obtain ⟨j,h1,h2,h3,h4,h5⟩:=uG he
 obtain ⟨w,ew,rw'⟩:=r.get h2
 have hl:=r.length
 have hn:=qB
 have fin:EP X pins σ Q w s:=⟨z,H,I,rw',q⟩
 by_cases h0:0≤i
 ·have hj:i.toNat=j:=by
   rw [seqIndex_of h0 h5] at h1
   exact Option.some.inj h1
  exact item_listR pl.isList h0 (by trivial) (by rw [hj];simpa using ew) fin hs
 ·have hj:(i+(its.toArray.size:Int)).toNat=j:=by
   rw [seqIndex_neg (by trivial) h4] at h1
   rw [List.size_toArray,←hl]
   exact Option.some.inj h1
  exact subscriptTail_builtinR (x:=w) pl.isList.typeIs slot_list_getitem.lookup
   (wpAny_getItem_list_neg (Q:=fun r s'=>r=w∧EP X pins σ Q r s') pl.isList (by trivial) (by rw [List.size_toArray] <;> trivial) (by trivial) (by rw [hj];simpa using ew) ⟨rfl,fin⟩) hs
theorem Bw:pB X (Ac X.K):=by
 intro value slice pins s σ H x y v u Q I rx ry h hs
 obtain ⟨p,xs,i,z,rfl,rfl,hq,he,q⟩:=h
 cases rx
 obtain ⟨t,rfl⟩:=ry
 obtain ⟨its,r,pl,hz⟩:=I.tuple hq
 obtain ⟨j,h1,h2,h3,h4,h5⟩:=uG he
 obtain ⟨w,ew,rw'⟩:=r.get h2
 have hl:=r.length
 have hn:=qB
 have fin:EP X pins σ Q w s:=⟨z,H,I,rw',q⟩
 exact subscriptTail_builtinR (x:=w) pl.typeIs slot_tuple_getitem.lookup
  (getItem_tuple (j:=j) (Q:=fun r s'=>r=w∧EP X pins σ Q r s') pl (by trivial) (by trivial) (by rw [List.size_toArray,←hl];exact h1) (by simpa using ew) ⟨rfl,fin⟩) hs
theorem sK:pB X Ff:=by
 intro value slice pins s σ H x y v u Q I rx ry h hs
 obtain ⟨z,i,c,rfl,rfl,hz,he,q⟩:=h
 obtain ⟨t,rfl⟩:=rx
 obtain ⟨t',rfl⟩:=ry
 obtain ⟨j,h1,h2,h3,h4,h5⟩:=uG he
 have hl:z.cps.toList.length=z.length:=by simp [Str.length]
 rw [hl] at h1 h4 h5
 have hn:=qB
 exact tail_any (typeIs_str s z t) slot_str_getitem.lookup (getItem_str (c:=c) (by
  have e1:decide (i < -(2 ^ 63:Int))=false:=decide_eq_false (by trivial)
  have e2:decide (i≥2 ^ 63)=false:=decide_eq_false (by trivial)
  rw [e1,e2,Bool.or_false]) (by rw [h1];simpa using h2) ⟨.str ⟨#[c]⟩,H,I.tok _,⟨()⟩,q⟩) hs
def Gz (K:PySem.W.Frag):R2:=fun x y H Q=>Cn K x y H Q∨Ac K x y H Q∨Ff x y H Q
theorem jq:pB X (Gz X.K):=zj.or (Bw.or sK)
theorem Ai (its:List Value) (n j:Nat) (u:Value):Obj.mapSeq (·.setIfInBounds j u) { cls:=.type "list",data:=.seq its.toArray n }={ cls:=.type "list",data:=.seq (its.set j u).toArray n }:=by
 simp [Obj.mapSeq]
theorem af.lst {pins:List (Addr×Obj)}{σ:St}{H:Hp}{s:Shared}{p:Addr}{xs:List V} (I:af X pins σ H s) (h:H p=some (.lst xs)) :
 cj fun (its:List Value) (n:Nat)=>aH xs its∧s.heap.get? p=some { cls:=.type "list",data:=.seq its.toArray n }∧xs.length≤sizeLine:=by
 obtain ⟨z,its,n,r,e⟩:=I.hok p _ h
 exact ⟨its,n,r,e,z⟩
theorem af.lstUpd {pins:List (Addr×Obj)}{σ:St}{H:Hp}{s:Shared}{p:Addr}{xs ys:List V}{its its':List Value}{n n':Nat}{f:Obj→Obj} (I:af X pins σ H s) (h:H p=some (.lst xs))
 (ho:s.heap.get? p=some { cls:=.type "list",data:=.seq its.toArray n }) (hf:f { cls:=.type "list",data:=.seq its.toArray n }={ cls:=.type "list",data:=.seq its'.toArray n' }) (r:aH ys its') (hz:ys.length≤sizeLine) (t:Nat) :
 af X pins σ (bN H p (.lst ys)) { s with heap:=s.heap.update p f,toks:=t }:=by
 have e:(s.heap.update p f).get? p=some { cls:=.type "list",data:=.seq its'.toArray n' }:=by
  rw [Heap.get?_update_self f ho (by rw [hf] <;> rfl),hf]
 refine I.write (x:=p) (e:=p) (by rw [h];trivial) (.inl rfl) (fun b u hb q=>(Heap.get?_update_other _ _ (Ne.symm hb)).trans q) ⟨_,e⟩ ?_
 exact ⟨hz,its',n',r,e⟩
inductive Gr (o:V) (i:V) (v:V) (H:Hp) (Q:(Hp→Prop)):Prop
 | mk (p:_) (xs:_) (k:_) (j:_) (h0:o=.ref p) (h1:i=.int k) (h2:H p=some (.lst xs)) (h3:nK xs.length k=some j) (h4:Q (bN H p (.lst (xs.set j v))))
def GR:V→V→V→Hp→(Hp→Prop)→Prop:=fun o i v H Q=>Gr  o i v H Q
theorem sk:CK X GR:=by
 intro pins s σ H o i v ov iv u Q I ro ri rv h
 obtain ⟨p,xs,k,j,rfl,rfl,hp,hj,q⟩:=h
 cases ro
 obtain ⟨t,rfl⟩:=ri
 obtain ⟨its,n,r,ho,hz⟩:=I.lst hp
 obtain ⟨h1,h2,h3,h4⟩:=zb hj
 have hl:=r.length
 have hn:=qB
 have I':af X pins σ (bN H p (.lst (xs.set j v))) { s with heap:=s.heap.update p (Obj.mapSeq (·.setIfInBounds j u)) }:=
  I.lstUpd hp ho (Ai its n j u) (r.set rv j) (by rw [List.length_set];exact hz) s.toks
 by_cases h0:0≤k
 ·have hk:k.toNat=j:=by
   rw [seqIndex_of h0 h4] at h1
   exact Option.some.inj h1
  exact PySem.W.ki_setAt ho h0 (by trivial) (by rw [List.size_toArray,←hl];exact h4) (by rw [hk];exact ⟨_,I',q⟩)
 ·have hk:(k+(its.toArray.size:Int)).toNat=j:=by
   rw [seqIndex_neg (by trivial) h3] at h1
   rw [List.size_toArray,←hl]
   exact Option.some.inj h1
  exact PySem.W.ki_setBack ho (by trivial) (by rw [List.size_toArray,←hl];exact h3) (by trivial) (by rw [hk];exact ⟨_,I',q⟩)
theorem xP (lo hi:Option Int) (n:Nat):(sliceBounds lo hi none n).1=((HT.sIx n 0 lo:Nat):Int)∧(sliceBounds lo hi none n).2.1=((HT.sIx n n hi:Nat):Int)∧(sliceBounds lo hi none n).2.2=1:=by
 refine ⟨?_,?_,rfl⟩
 ·cases lo with
  | none=>simp [sliceBounds,HT.sIx]
  | some i=>
   simp only [sliceBounds,HT.sIx,Option.getD_none,show (1:Int) > 0 by decide,if_true]
   by_cases h:i<0
   ·simp only [h,if_true] <;> trivial
   ·simp only [h,if_false] <;> trivial
 ·cases hi with
  | none=>simp [sliceBounds,HT.sIx]
  | some i=>
   simp only [sliceBounds,HT.sIx,Option.getD_none,show (1:Int) > 0 by decide,if_true]
   by_cases h:i<0
   ·simp only [h,if_true] <;> trivial
   ·simp only [h,if_false] <;> trivial
theorem vZ (its:List Value) (lo hi:Option Int):slicePick its.toArray lo hi none=((its.drop (HT.sIx its.length 0 lo)).take (HT.sIx its.length its.length hi - HT.sIx its.length 0 lo)).toArray:=by
 obtain ⟨h1,h2,h3⟩:=xP lo hi its.toArray.size
 unfold slicePick
 rw [h1,h2,h3]
 simp only [sliceRange_one,pick_run,List.size_toArray] <;> rfl
inductive GJ (K:PySem.W.Frag) (x:V) (lo:Option Int) (hi:Option Int) (H:Hp) (Q:VK):Prop
 | mk (a:_) (xs:_) (h0:x=.ref a) (h1:aE K H a xs) (h2:∀p,H p=none→Q (.ref p) (bN H p (.lst (cS xs lo hi))))
def Ip (K:PySem.W.Frag):V→Option Int→Option Int→Hp→VK→Prop:=fun x lo hi H Q=>GJ K x lo hi H Q
theorem Dt:xm X (Ip X.K):=by
 intro pins s σ H x v vl vu lo hi sl Q I rx hs pl pu h
 obtain ⟨a,xs,rfl,hx,q⟩:=h
 cases rx
 obtain ⟨its,r,ht,hz⟩:=I.list hx
 have hlen:=r.length
 refine ⟨"list",_,slot_list_getitem.lookup,ht.isList.typeIs,?_⟩
 refine wpAny_getItem_list_slice ht.isList hs pl pu .none (by simp) ?_ (by rw [List.size_toArray] <;> trivial)
 rw [vZ,←hlen]
 refine ⟨.ref s.heap.objs.size,_,I.laid (t':=s.toks) (o:=.lst (cS xs lo hi)) (fun b ob q=>Heap.get?_push_of_some _ q) (Nat.le_refl _) ?_,rfl,q _ (I.hok.fresh (Nat.le_refl _))⟩
 exact ⟨Nat.le_trans (rF xs lo hi) hz,_,0,(r.drop (HT.sIx xs.length 0 lo)).take (HT.sIx xs.length xs.length hi - HT.sIx xs.length 0 lo),Heap.get?_push_size _ rfl⟩
theorem l0:db X (.builtin "len") (fun xs H Q=>cj fun p ys=>xs=[.ref p]∧(aE X.K H p ys∨ak X.K H p ys)∧Q (.int ys.length) H):=by
 intro pins s σ H xs us Q I r h
 obtain ⟨p,ys,rfl,hq,q⟩:=h
 obtain ⟨u,rfl,rx⟩:=i0 r
 cases rx
 have hn:=qB
 rcases hq with hq | hq
 ·obtain ⟨its,r',pl,hz⟩:=I.list hq
  have hlen:=r'.length
  exact Calls.call_len_list pl.isList (by simp only [List.size_toArray] <;> trivial) ⟨.int ys.length,H,I.tok _,⟨s.toks+1,by rw [List.size_toArray,hlen]⟩,q⟩
 ·obtain ⟨its,r',pl,hz⟩:=I.tuple hq
  have hlen:=r'.length
  exact len_tuple pl (by simp only [List.size_toArray] <;> trivial) ⟨.int ys.length,H,I.tok _,⟨s.toks+1,by rw [List.size_toArray,hlen]⟩,q⟩
theorem wX:db X (.type "list") (fun xs H Q=>cj fun p ys=>xs=[.ref p]∧(aE X.K H p ys∨ak X.K H p ys)∧∀l,H l=none→Q (.ref l) (bN H l (.lst ys))):=by
 intro pins s σ H xs us Q I r h
 obtain ⟨p,ys,rfl,hq,q⟩:=h
 obtain ⟨u,rfl,rx⟩:=i0 r
 cases rx
 have fin:∀(its:List Value),aH ys its→ys.length≤sizeLine→∀(h':Heap) (c':Nat),(∀b o',s.heap.get? b=some o'→h'.get? b=some o')→
  h'.get? s.heap.objs.size=some { cls:=.type "list",dict:=none,data:=.seq its.toArray c',slots:=#[] }→EP X pins σ Q (.ref s.heap.objs.size) { s with heap:=h' }:=fun its r' hz h' c' kp e=>
  ⟨.ref s.heap.objs.size,_,I.laid (t':=s.toks) kp (Nat.le_refl _) (show cv X.prog X.w _ h' _ (.lst ys) from ⟨hz,its,c',r',e⟩),rfl,q _ (I.hok.fresh (Nat.le_refl _))⟩
 rcases hq with hq | hq
 ·obtain ⟨its,r',pl,hz⟩:=I.list hq
  have hlen:=r'.length
  obtain ⟨o,ho,hc,n,hd⟩:=pl.isList
  exact call_list_seq p (.inl rfl) ho hc hd (fun h' c' kp e=>fin its r' hz h' c' kp e) (by simp only [List.size_toArray] <;> trivial)
 ·obtain ⟨its,r',pl,hz⟩:=I.tuple hq
  have hlen:=r'.length
  obtain ⟨o,ho,hc,n,hd⟩:=pl
  exact call_list_seq p (.inr rfl) ho hc hd (fun h' c' kp e=>fin its r' hz h' c' kp e) (by simp only [List.size_toArray] <;> trivial)
theorem vT:db X (.type "tuple") (fun xs H Q=>cj fun p ys=>xs=[.ref p]∧((aE X.K H p ys∧∀l,H l=none→Q (.ref l) (bN H l (.tup ys)))∨(ak X.K H p ys∧Q (.ref p) H))):=by
 intro pins s σ H xs us Q I r h
 obtain ⟨p,ys,rfl,h⟩:=h
 obtain ⟨u,rfl,rx⟩:=i0 r
 cases rx
 rcases h with ⟨hq,q⟩ | ⟨hq,q⟩
 ·obtain ⟨its,r',pl,hz⟩:=I.list hq
  have hlen:=r'.length
  refine call_tuple_list pl.isList (fun h' kp=>?_) (by simp only [List.size_toArray] <;> trivial)
  have I1:af X pins σ H { s with heap:=h' }:=I.kept (t':=s.toks) kp
  have I2:af X pins σ (bN H h'.objs.size (.tup ys)) { s with heap:=h'.push { cls:=.type "tuple",data:=.seq its.toArray } }:=
   I1.laid (t':=s.toks) (fun b o e=>Heap.get?_push_of_some _ e) (Nat.le_refl _) (show cv X.prog X.w _ _ _ (.tup ys) from ⟨hz,its,r',IsTup.new _ _,_,Heap.get?_push_size _ rfl,rfl⟩)
  exact ⟨.ref h'.objs.size,_,I2,rfl,q _ (I1.hok.fresh (Nat.le_refl _))⟩
 ·obtain ⟨its,r',pl,hz⟩:=I.tuple hq
  exact call_tuple_same pl ⟨.ref p,H,I,rfl,q⟩
def F8 (K:PySem.W.Frag) (T:String) (x:V) (H:Hp):Prop:=match x with
 | .str _=>T = "str"
 | .int _=>T = "int"
 | .ref p=>(T = "list"∧∃xs,aE K H p xs)∨(T = "tuple"∧∃o,K.lookup p=some o∧o.cls=.type "tuple"∧o.dict=none)∨
  (T = "dict"∧((∃kvs,H p=some (.dK kvs))∨∃kvs,H p=some (.dT kvs)))∨(T = "set"∧cj fun S n=>H p=some (.set S n))
 | _=>False
theorem A6 {pins:List (Addr×Obj)}{σ:St}{H:Hp}{s:Shared}{T:String}{x:V}{v:Value} (I:af X pins σ H s) (r:bz x v) (ty:F8 X.K T x H) :
 s.TypeIs v T∧∀a,v=.ref a→∃ob,s.heap.get? a=some ob∧ob.dict=none:=by
 cases x with
 | str z=>
  obtain ⟨t,rfl⟩:=r
  cases (show T = "str" from ty)
  exact ⟨typeIs_str s z t,fun _ e=>nomatch e⟩
 | int i=>
  obtain ⟨t,rfl⟩:=r
  cases (show T = "int" from ty)
  exact ⟨typeIs_int s i t,fun _ e=>nomatch e⟩
 | ref p=>
  cases r
  rcases ty with ⟨rfl,xs,hq⟩ | ⟨rfl,o,hk,hc,hd⟩ | ⟨rfl,hk⟩ | ⟨rfl,S,n,hk⟩
  ·obtain ⟨its,_,pl,_⟩:=I.list hq
   refine ⟨pl.isList.typeIs,fun a e=>?_⟩
   cases e
   obtain ⟨o,n,e,c,hd,_⟩:=pl
   exact ⟨o,e,hd⟩
  ·refine ⟨⟨o,I.kIn p o hk,hc⟩,fun a e=>?_⟩
   cases e
   exact ⟨o,I.kIn _ o hk,hd⟩
  ·have z:∃o,s.heap.get? p=some o∧o.ExactDict:=by
    rcases hk with ⟨kvs,hk⟩ | ⟨kvs,hk⟩
    ·obtain ⟨_,_,_,_,o,_,_,e,ex,_⟩:=I.hok p _ hk
     exact ⟨o,e,ex⟩
    ·obtain ⟨_,_,_,_,o,_,_,e,ex,_⟩:=I.hok p _ hk
     exact ⟨o,e,ex⟩
   obtain ⟨o,e,ex⟩:=z
   refine ⟨⟨o,e,ex.1⟩,fun a e2=>?_⟩
   cases e2
   exact ⟨o,e,ex.2.1⟩
  ·obtain ⟨o,_,_,_,e,ex,_⟩:=I.hok p _ hk
   refine ⟨⟨o,e,ex.1⟩,fun a e2=>?_⟩
   cases e2
   exact ⟨o,e,ex.2.1⟩
 | _=>exact False.elim ty
def IX (K:PySem.W.Frag) (T:String) (r:V→List V→Hp→VK→Prop) (to:TE):TE:=fun σ H Q=>to σ H fun x H1=>F8 K T x H1∧r x [] H1 Q
def Go (K:PySem.W.Frag) (T:String) (r:V→List V→Hp→VK→Prop) (to:TE) (t:TA):TE:=fun σ H Q=>to σ H fun x H1=>F8 K T x H1∧t σ H1 fun xs H2=>r x xs H2 Q
variable {o e:Expr}{es:List Expr}{to:TE}{t:TA}{name:Str}{apos cpos:Pos}{T id:String}{r:V→List V→Hp→VK→Prop}
theorem Fu (pa:PlainAttrs T) (slot:Slot T name id) (hty:typeOf (.builtin id)=pure (.type "method_descriptor")) (hm:yB X id r) (ho:PE X o to)
 (hbase:attributeBase o name X.env (eval o X.env)=eval o X.env:=by rfl) (hline:(apos.endLine==cpos.line)=true:=by rfl):PE X (.Call (.Attribute o name apos) [] [] cpos) (IX X.K T r to):=by
 intro pins s σ H Q I h
 refine wpAny_Call_method0_late hbase hline (aW (ho pins s σ H _ I h) fun v s1 ⟨x,H1,I1,r1,ty,q1⟩=>?_)
 obtain ⟨h1,h2⟩:=A6 I1 r1 ty
 exact ⟨T,id,pa,slot,hty,h1,h2,Calls.callWith_builtin rfl (PySem.evalArgs_none (hm pins s1 σ H1 x [] v [] Q I1 r1 .nil q1))⟩
theorem Hl (pa:PlainAttrs T) (slot:Slot T name id) (hty:typeOf (.builtin id)=pure (.type "method_descriptor")) (hm:yB X id r) (ho:PE X o to) (ha:PA X (e :: es) t)
 (hbase:attributeBase o name X.env (eval o X.env)=eval o X.env:=by rfl)
 (hfew:((backTo cpos (starEach (e :: es) X.env)).all (fun x=>!x.1) && (backToKw cpos (keywordEach [] X.env)).all (fun x=>x.1.isSome)
  && decide ((e :: es).length+([]:List Keyword).length+(if ([]:List Keyword).isEmpty then 0 else 1)<30))=true:=by rfl)
 (hline:(apos.endLine==cpos.line)=true:=by rfl) (hs:starEach (e :: es) X.env=(false,eval e X.env) :: starEach es X.env:=by rfl) (hplain:(backTo cpos (starEach es X.env)).any (·.1)=false:=by rfl) :
 PE X (.Call (.Attribute o name apos) (e :: es) [] cpos) (Go X.K T r to t):=by
 intro pins s σ H Q I h
 refine wpAny_Call_method_late hbase hfew hline rfl (aW (ho pins s σ H _ I h) fun v s1 ⟨x,H1,I1,r1,ty,q1⟩=>?_)
 obtain ⟨h1,h2⟩:=A6 I1 r1 ty
 refine ⟨T,id,pa,slot,hty,h1,h2,?_⟩
 have hA:=ha cpos pins s1 σ H1 _ I1 q1
 rw [hs] at hA ⊢
 refine Calls.callWith_builtin (by show (false || (backTo cpos (starEach es X.env)).any (·.1))=false;rw [hplain] <;> rfl) (Calls.evalArgs_plain ?_)
 exact aW hA fun us s2 ⟨vs,H2,I2,r2,q2⟩=>hm pins s2 σ H2 x vs v us Q I2 r1 r2 q2
/- xs.append(e), list.index on a module's tuple .. are yB facts of 06m -/
end
end L2
namespace L2
open PySem PySem.Spec PyProof.Rows
def Dg (X:Cx) (id:String) (r:V→List V→Hp→VK→Prop):Prop:=
 ∀(pins:List (Addr×Obj)) (s:Shared) (σ:St) (H:Hp) (x:V) (xs:List V) (v:Value) (us:List Value) (Q:VK),af X pins σ H s→bz x v→aH xs us→r x xs H Q→
   wpAny (model X.prog X.w) X.A (call (.builtin id) (v :: us)) (EP X pins σ Q) X.xe s
theorem Paired.un {α β:Type}{R:α→β→Prop}{x:α}{xs:List α}{us:List β} (h:Paired R (x :: xs) us):cj fun u vs=>us=u :: vs∧R x u∧Paired R xs vs:=by
 cases h with
 | cons r q=>exact ⟨_,_,rfl,r,q⟩
theorem Paired.un0 {α β:Type}{R:α→β→Prop}{us:List β} (h:Paired R [] us):us=[]:=by
 cases h with
 | nil=>rfl
theorem aH.one {x:V}{us:List Value} (h:aH [x] us):∃u,us=[u]∧bz x u:=by
 obtain ⟨u,vs,rfl,r,q⟩:=Paired.un h
 rw [Paired.un0 q]
 exact ⟨u,rfl,r⟩
theorem aH.two {x y:V}{us:List Value} (h:aH [x,y] us):cj fun u v=>us=[u,v]∧bz x u∧bz y v:=by
 obtain ⟨u,vs,rfl,r,q⟩:=Paired.un h
 obtain ⟨v,rfl,q2⟩:=aH.one q
 exact ⟨u,v,rfl,r,q2⟩
theorem aH.eraseIdx:∀{xs:List V}{us:List Value} (i:Nat),aH xs us→aH (xs.eraseIdx i) (us.eraseIdx i)
 | _,_,_,.nil=>.nil
 | _,_,0,.cons _ t=>t
 | _,_,i+1,.cons r t=>.cons r (aH.eraseIdx i t)
theorem vh {α:Type}:∀(l:List α) (i:Nat),(l.eraseIdx i).length≤l.length
 | [],_=>Nat.le_refl _
 | _ :: _,0=>Nat.le_succ _
 | _ :: r,i+1=>Nat.succ_le_succ (vh r i)
section
variable {X:Cx}{pins:List (Addr×Obj)}{σ:St}{H:Hp}{s:Shared}{l b:Addr}{xs ys zs:List V}
theorem af.lset {its its':List Value}{n:Nat}{f:Array Value→Array Value}{t':Nat} (I:af X pins σ H s) (hH:H l=some (.lst xs))
 (e:s.heap.get? l=some { cls:=.type "list",data:=.seq its.toArray n }) (hf:f its.toArray=its'.toArray) (hv:aH ys its') (hz:ys.length≤sizeLine) :
 af X pins σ (bN H l (.lst ys)) { s with heap:=s.heap.update l (Obj.mapSeq f),toks:=t' }:=by
 have q:=PySem.IsL.update e f
 rw [hf] at q
 refine I.write (x:=l) (e:=l) (by rw [hH];exact trivial) (.inl rfl) (fun b' u hb hu=>(Heap.get?_update_other s.heap (Obj.mapSeq f) (Ne.symm hb)).trans hu) ⟨_,q⟩ ?_
 exact ⟨hz,its',_,hv,q⟩
theorem af.lnew {its:List Value}{t':Nat} (I:af X pins σ H s) (hv:aH ys its) (hz:ys.length≤sizeLine) :
 af X pins σ (bN H s.heap.objs.size (.lst ys)) { s with heap:=s.heap.push { cls:=.type "list",data:=.seq its.toArray },toks:=t' }:=
 I.laid (fun _ _ q=>Heap.get?_push_of_some _ q) (Nat.le_refl _) ⟨hz,its,0,hv,Heap.get?_push_size _ rfl⟩
theorem af.fresh (I:af X pins σ H s):H s.heap.objs.size=none:=I.hok.fresh (Nat.le_refl _)
theorem af.lstM (I:af X pins σ H s) (hH:H l=some (.lst xs)):xs.length≤sizeLine∧cj fun (its:List Value) (n:Nat)=>aH xs its∧xs.length=its.length∧s.heap.get? l=some { cls:=.type "list",data:=.seq its.toArray n }:=by
 obtain ⟨z,its,n,r,e⟩:=I.hok l _ hH
 exact ⟨z,its,n,r,r.length,e⟩
end
section
variable {X:Cx}
inductive Ci (x:V) (vs:List V) (H:Hp) (Q:VK):Prop
 | mk (l:_) (xs:_) (y:_) (h0:x=.ref l) (h1:vs=[y]) (h2:H l=some (.lst xs)) (h3:xs.length<sizeLine) (h4:Q .non (bN H l (.lst (xs++[y]))))
def EA:V→List V→Hp→VK→Prop:=fun x vs H Q=>Ci  x vs H Q
theorem vg:Dg X "list.append" EA:=by
 intro pins s σ H x vs v us Q I rx rv h
 obtain ⟨l,xs,y,rfl,rfl,hH,hz,q⟩:=h
 cases rx
 obtain ⟨u,rfl,ru⟩:=rv.one
 obtain ⟨z,its,n,r,hl,e⟩:=I.lstM hH
 refine call_meets F.slot_list_append ⟨_,e,rfl⟩ F.entry_list_append (F.args_list_append_2 _ _) (PySem.list_append l its.toArray n u (by rw [List.size_toArray];trivial)) ⟨e,?_⟩
 refine ⟨.non,_,I.lset (its':=its++[u]) hH e (by simp) (r.append (.cons ru .nil)) ?_,rfl,q⟩
 rw [List.length_append,List.length_singleton]
 trivial
inductive EB (x:V) (vs:List V) (H:Hp) (Q:VK):Prop
 | mk (l:_) (xs:_) (i:_) (k:_) (y:_) (h0:x=.ref l) (h1:vs=[.int i]) (h2:H l=some (.lst xs)) (h3:-(2 ^ 63)≤i) (h4:i<2 ^ 63) (h5:seqIndex? i xs.length=some k) (h6:xs[k]?=some y) (h7:Q y (bN H l (.lst (xs.eraseIdx k))))
def Fz:V→List V→Hp→VK→Prop:=fun x vs H Q=>EB  x vs H Q
theorem Ce:Dg X "list.pop" Fz:=by
 intro pins s σ H x vs v us Q I rx rv h
 obtain ⟨l,xs,i,k,y,rfl,rfl,hH,h1,h2,hk,hy,q⟩:=h
 cases rx
 obtain ⟨u,rfl,ru⟩:=rv.one
 obtain ⟨t,rfl⟩:=ru
 obtain ⟨z,its,n,r,hl,e⟩:=I.lstM hH
 obtain ⟨w,hw,rw'⟩:=r.get hy
 refine call_meets F.slot_list_pop ⟨_,e,rfl⟩ F.entry_list_pop (F.args_list_pop_2 _ _)
  (MeetsSeq.list_pop_at l its.toArray n i t k w (fitsIndex_both h1 h2) (by rw [List.size_toArray,←hl];exact hk) (by rw [←Array.getElem?_toList];exact hw) (by rw [List.size_toArray];trivial)) ⟨e,?_⟩
 refine ⟨y,_,I.lset (its':=its.eraseIdx k) hH e ?_ (r.eraseIdx k) ?_,rw',q⟩
 ·show its.toArray.eraseIdxIfInBounds k=(its.eraseIdx k).toArray
  rw [List.eraseIdxIfInBounds_toArray]
 ·have:=vh xs k
  trivial
inductive Ht (x:V) (y:V) (H:Hp) (Q:VK):Prop
 | mk (l:_) (b:_) (xs:_) (zs:_) (h0:x=.ref l) (h1:y=.ref b) (h2:H l=some (.lst xs)) (h3:H b=some (.lst zs)) (h4:xs.length+zs.length≤sizeLine) (h5:∀p,H p=none→Q (.ref p) (bN H p (.lst (xs++zs))))
def IF:R2:=fun x y H Q=>Ht  x y H Q
theorem Fe:cn X (binaryOp .Add) IF:=by
 intro pins s σ H x y v u Q I rx ry h
 obtain ⟨l,b,xs,zs,rfl,rfl,hH,hB,hz,q⟩:=h
 cases rx
 cases ry
 obtain ⟨z,its,n,r,hl,e⟩:=I.lstM hH
 obtain ⟨z2,its2,n2,r2,hl2,e2⟩:=I.lstM hB
 refine PySem.P.add_list e e2 ?_ (by rw [List.size_toArray,List.size_toArray];trivial)
 have ea:its.toArray++its2.toArray=(its++its2).toArray:=by simp
 rw [ea]
 exact ⟨.ref _,_,I.lnew (t':=s.toks) (r.append r2) (by rw [List.length_append];trivial),rfl,q _ I.fresh⟩
theorem Ey {α:Type} (xs:List α) (k:Nat):(List.replicate k xs).flatten.length=k*xs.length:=by
 induction k with
 | zero=>simp
 | succ k ih=>rw [List.replicate_succ,List.flatten_cons,List.length_append,ih,Nat.succ_mul,Nat.add_comm]
end
section
variable {prog:Program}{w:World}{A:Around}{E:Value→Shared→Prop}{s:Shared}
set_option maxRecDepth 100000 in
end
section
variable {X:Cx}
end
end L2
namespace Att
open PySem PySem.W PySem.Calls PyProof.Rows
theorem tX {P:Params}{h:Heap}:∀(ns:List Int) (vs:List Value),WellAll P h vs (ns.map WData.int)→IntsAre vs ns:=by
 intro ns
 induction ns with
 | nil=>
  intro vs w
  rw [List.map_nil] at w
  cases w
  exact .nil
 | cons n ns ih=>
  intro vs w
  rw [List.map_cons] at w
  cases w with
  | cons a b=>
   cases a
   exact .cons _ _ (ih _ b)
theorem AF {l:OpenLaw}{n:Nat} (hn:l.most=some n) {P:Params}{h:Heap}{args:List WData}{vals:List Value}
 (hpre:l.row.toRowW.claim.pre args=true) (hwl:WellAll P h vals args) :
 ∃a vs ns,vals=[Value.ref a]∧args=[WData.list (ns.map WData.int)]∧h.get? a=some { cls:=.type "list",data:=.seq vs.toArray }∧IntsAre vs ns∧ns.length≤n:=by
 have hsh:WShape.hasAll [] args [.list .int]=true:=(pre_splitW hpre).1
 have hc:l.pre.holds [] { args:=args }=true:=(pre_splitW hpre).2
 obtain ⟨d,r,rfl,h1,h2⟩:=hasAllW_cons hsh
 obtain rfl:=hasAllW_nil h2
 obtain ⟨xs,rfl,h3⟩:=hasW_list h1
 obtain ⟨ns,rfl⟩:=items_int h3
 have hlen:ns.length≤n:=by
  unfold OpenLaw.pre at hc
  have h4:(WTm.not (.lt (.lit (.int (n:Int))) (.len (.arg 0)))).holds [] { args:=[.list (ns.map .int)] }=true:=by
   have h4:=(holds_andW hc).1
   rw [hn] at h4
   exact h4
  have h5:=condW_of h4 (w_not (w_lt w_lit (w_len_list (w_arg rfl))))
  rw [List.length_map] at h5
  refine Nat.le_of_not_lt fun q=>?_
  have q':(n:Int)<((ns.length:Nat):Int):=by trivial
  first
   | (rw [decide_eq_true q'] at h5;exact absurd h5 (by decide))
   | (simp at h5;trivial)
 cases hwl with
 | cons w1 w2=>
  cases w2
  cases w1 with
  | list ho hall=>exact ⟨_,_,ns,rfl,rfl,ho,tX ns _ hall,hlen⟩
theorem AE (l:OpenLaw) (args:List WData):l.row.toRowW.claim.post args (.bool true) args=true:=
 postW_of (r:=l.row.toRowW) (X:=(true==true))
  (show WShape.has [] (.bool true) .bool=true by first | rfl | decide | simp [WShape.has,WShape.arms,WShape.armsAll])
  (show (WTm.eq .res (.lit (.bool true))).value [] { args:=args,res:=some (.bool true),after:=args }=some (.bool (true==true)) from w_eq_bool (w_res rfl) w_lit) rfl
theorem attach_call {l:OpenLaw}{n:Nat}{q:Program}{loose:List Str}{XP:(Str→Option Value)→Heap→Prop}{YP:World→Heap→Prop}{d:DefRec}
 (hn:l.most=some n) (hdf:d.params.defaults=[])
 (call:∀(w:World) (s₀ s₁:Shared) (mg mb:Str→Option Value) (fa:Addr) (o:Obj) (pm cd doc:Value) (a:Addr) (vs:List Value) (ns:List Int),
  Ground q loose [] XP w s₀ mg mb s₁.heap→YP w s₁.heap→
  s₁.heap.get? fa=some o→o.data=.func (docDef d.name d.params d.body d.scope pm cd doc)→s₁.heap.CodeRec cd d.name→mg d.name=some (.ref fa)→
  s₁.heap.get? a=some { cls:=.type "list",data:=.seq vs.toArray }→IntsAre vs ns→ns.length≤n→s₁.gens=#[]→
  codeAny (model l.prog w) callerA (.call (.ref fa) ⟨[.ref a],[]⟩) (fun r s'=>r=.ok (.ret (.bool true))∧OldK s₁.heap s'.heap∧s'.os=s₁.os∧AllBare s'.gens) s₁) :
 WalkO q loose XP YP l.row.toRowW d [] (fun f vs=>PySem.call f vs):=by
 intro w s₀ s₁ mg mb G Y fa o pm cd doc dV kV ho hd hcd hD hmg hg args vals as hpre hlay hrd hwl hlo
 obtain rfl:dV=.none:=Dflts.none hD hdf
 obtain rfl:kV=.none:=Dflts.noKw hD
 obtain ⟨a,vs,ns,rfl,rfl,hobj,hints,hlen⟩:=AF hn hpre hwl
 refine enter_call (codeAny_mono (call w s₀ s₁ mg mb fa o pm cd doc a vs ns G Y ho (fd_plain hd) hcd hmg hobj hints hlen hg) fun r s' hq=>?_)
 obtain ⟨rfl,h2,h3,h4⟩:=hq
 exact ⟨.inl ⟨.bool true,.bool true,[],rfl,fun _=>rfl,.bool true,AE l _,fun _=>⟨List.Pairwise.nil,fun _ hm=>(nomatch hm)⟩⟩,h2,h3,h4⟩
section
variable {prog:Program}{w:World}{A:Around}{E:Value→Shared→Prop}{s:Shared}{K:Frag}
end
end Att
namespace L2
open PySem PySem.Spec PyProof.Rows
theorem vB:∀{vs:List Value}{ns:List Int},IntsAre vs ns→aH (ns.map V.int) vs
 | _,_,.nil=>.nil
 | _,_,.cons n t h=>.cons ⟨t,rfl⟩ (vB h)
def uE (H:Hp):Prop:=∀b,H b=none∨cj fun o xs=>H b=some (.frz o (.lst xs))
theorem CJ {P:Program}{w:World}{K:PySem.W.Frag}{mg mb:Str→Option Value}{CX:kY}{k:Nat}{fa a:Addr}{fd:FuncData}{x:Str}{sp:Sp}{s₁:Shared}{vs:List Value}{ns:List Int}
 (KX:K.In s₁.heap) (hns:s₁.heap.Ns mainGlobals mg) (hb:s₁.heap.Ns builtinsNs mb) (hbb:∀x:Str,x≠"__name__"→mb x=bootBuiltins x) (hlim:s₁.heap.NoLimit) (hg:s₁.gens=#[])
 (ha:s₁.heap.get? a=some { cls:=.type "list",data:=.seq vs.toArray }) (hi:IntsAre vs ns) (hl:ns.length≤sizeLine) (hr:eZ k callerA)
 (F:∀base:Heap,K.In base→base.Ns mainGlobals mg→bt P w K mg base CX k fa fd [x] sp) (hbind:∀(s:Shared) (u:Value),BindsTo s fd ⟨[u],[]⟩ [(x,u)])
 (hsp:∀H:Hp,uE H→aE K H a (ns.map V.int)→sp [.ref a] H (fun v _=>v=.bl true) fun _ _ _=>False)
 (hCX:∀H e s',CX [] H s₁ (fun _ _ _=>False) e s'→False) :
 codeAny (model P w) callerA (.call (.ref fa) ⟨[.ref a],[]⟩) (fun r s'=>r=.ok (.ret (.bool true))∧OldK s₁.heap s'.heap∧s'.os=s₁.os∧AllBare s'.gens) s₁:=by
 have rv:=vB hi
 have lenV:=hi.length
 have core:∀H:Hp,uE H→aE K H a (ns.map V.int)→fK P w H s₁.heap→(∀b,H b≠none→b=a)→(H a≠none→K.lookup a=none)→
  codeAny (model P w) callerA (.call (.ref fa) ⟨[.ref a],[]⟩) (fun r s'=>r=.ok (.ret (.bool true))∧OldK s₁.heap s'.heap∧s'.os=s₁.os∧AllBare s'.gens) s₁:=by
  intro H hO hS hok hA hK
  have base_of:∀{b:Addr}{o:Obj},s₁.heap.get? b=some o→H b=none→(oB s₁.heap H).get? b=some o:=fun e n=>BH e n
  have noA:∀{b:Addr}{o:Obj}{es:Array DictEntry}{ep:Nat},s₁.heap.get? b=some o→o.data=.dict es ep→H b=none:=fun {b o es ep} e d=>by
   cases q:H b with
   | none=>rfl
   | some u=>
    have e':b=a:=hA b (by rw [q];simp)
    subst e'
    rw [ha] at e;cases e
    have d':Data.seq vs.toArray _=Data.dict es ep:=d
    cases d'
  have nsK:∀{b:Addr}{m:Str→Option Value},s₁.heap.Ns b m→(oB s₁.heap H).Ns b m:=fun {b m} ⟨o,es,ep,e,d,r⟩=>⟨o,es,ep,base_of e (noA e d),d,r⟩
  have hKb:K.In (oB s₁.heap H):=fun b o e=>base_of (KX b o e) (by
   cases q:H b with
   | none=>rfl
   | some u=>
    have e':b=a:=hA b (by rw [q];simp)
    subst e'
    rw [hK (by rw [q];simp)] at e;cases e)
  have hM:Mod K mg (oB s₁.heap H):=⟨hKb,nsK hns,⟨mb,nsK hb,hbb⟩,let ⟨mc,h1,h2⟩:=hlim;⟨mc,nsK h1,h2⟩⟩
  have e0:Ap P w K mg (oB s₁.heap H) callerA [] s₁ H:=⟨rfl,hM,fun b o e=>DK e,Nat.le_of_eq (AT _ _),trivial,fun b hb=>absurd (show b∈([]:List Addr) from hb) (by simp),hok,.of_eq hg⟩
  refine codeAny_mono ((F _ hKb (nsK hns)).run callerA [] s₁ H ⟨[.ref a],[]⟩ [.ref a] [.ref a] _ _ hr e0 (hbind s₁ (.ref a)) (.cons rfl .nil) (hsp H hO hS)) fun r s' h=>?_
  cases r with
  | error e=>exact (hCX H e s' h).elim
  | ok fl=>
   cases fl with
   | next=>exact False.elim h
   | brk=>exact False.elim h
   | cont=>exact False.elim h
   | ret u=>
    obtain ⟨v,H',os,bare,un,hok',r',q⟩:=h
    have q':v=.bl true:=q
    subst q'
    obtain rfl:u=Value.bool true:=r'
    refine ⟨rfl,OldK.of_keep fun b o e=>?_,os,bare⟩
    cases q:H b with
    | none=>exact un.keep b o e q (by intro z;exact absurd (show b∈([]:List Addr) from z) (by simp)) (by simp)
    | some u=>
     rcases hO b with z | ⟨ob,xs,z⟩
     ·rw [q] at z;cases z
     ·have z2:=un.frzs b ob _ z
      obtain ⟨e1,_⟩:=hok b _ z
      obtain ⟨e2,_⟩:=hok' b _ z2
      rw [e] at e1;cases e1
      exact e2
 cases hk:K.lookup a with
 | some o=>
  have e:=KX a o hk
  rw [ha] at e
  cases e
  refine core (fun _=>none) (fun _=>.inl rfl) (.inr ⟨_,vs.toArray,_,hk,rfl,rfl,rfl,by rw [List.size_toArray,lenV];exact hl,by simpa using rv⟩) (fun b u z=>by have z':(none:Option HO)=some u:=z;cases z') (fun b z=>absurd rfl z) fun z=>absurd rfl z
 | none=>
  refine core (fun b=>if b=a then some (.frz { cls:=.type "list",data:=.seq vs.toArray } (.lst (ns.map V.int))) else none) (fun b=>?_) (.inl (.inr ⟨{ cls:=.type "list",data:=.seq vs.toArray },if_pos rfl⟩)) (fun b u z=>?_) (fun b z=>?_) fun _=>hk
  ·by_cases hb:b=a
   ·exact .inr ⟨_,_,if_pos hb⟩
   ·exact .inl (if_neg hb)
  ·by_cases hb:b=a
   ·have z':=(if_pos hb).symm.trans z
    cases z'
    subst hb
    exact ⟨ha,by rw [List.length_map];exact hl,vs,_,rv,ha⟩
   ·have z':=(if_neg hb).symm.trans z
    cases z'
  ·by_cases hb:b=a
   ·exact hb
   ·exact absurd (if_neg hb) z
theorem walk_of {l:PySem.W.OpenLaw}{n k:Nat}{q:Program}{loose:List Str}{XP:(Str→Option Value)→Heap→Prop}{YP:World→Heap→Prop}{d:DefRec}{K:Params→PySem.W.Frag}{CX:World→kY}{sp:World→Sp}{x:Str}
 (hn:l.most=some n) (hn2:n≤sizeLine) (hdf:d.params.defaults=[]) (hr:eZ k callerA)
 (hY:∀(w:World) (h:Heap),YP w h→(K w.params).In h)
 (F:∀(w:World) (mg:Str→Option Value) (fa:Addr) (h:Heap),(K w.params).In h→h.Ns mainGlobals mg→mg d.name=some (.ref fa)→
  ∃fd:FuncData,(∀(s:Shared) (u:Value),BindsTo s fd ⟨[u],[]⟩ [(x,u)])∧
   ∀base:Heap,(K w.params).In base→base.Ns mainGlobals mg→bt l.prog w (K w.params) mg base (CX w) k fa fd [x] (sp w))
 (hsp:∀(w:World) (H:Hp) (a:Addr) (ns:List Int),ns.length≤n→uE H→aE (K w.params) H a (ns.map V.int)→sp w [.ref a] H (fun v _=>v=.bl true) fun _ _ _=>False)
 (hCX:∀(w:World) (H:Hp) (s:Shared) (e:Value) (s':Shared),CX w [] H s (fun _ _ _=>False) e s'→False) :
 PySem.W.WalkO q loose XP YP l.row.toRowW d [] (fun f vs=>PySem.call f vs):=by
 refine Att.attach_call hn hdf fun w s₀ s₁ mg mb fa o pm cd doc a vs ns G Y ho hd hcd hmg hobj hints hlen hg=>?_
 have KX:=hY w _ Y
 obtain ⟨fd,hb,hF⟩:=F w mg fa _ KX G.T.g hmg
 exact CJ KX G.T.g G.T.b G.T.builtins G.T.nolimit hg hobj hints (Nat.le_trans hlen hn2) hr hF hb (fun H hO hS=>hsp w H a ns hlen hO hS) fun H e s'=>hCX w H s₁ e s'
theorem Cr {l:PySem.W.OpenLaw}{n k:Nat}{q:Program}{loose:List Str}{XP:(Str→Option Value)→Heap→Prop}{YP:World→Heap→Prop}{d:DefRec}{K:Params→PySem.W.Frag}{CX:kY}{sp:PySem.W.Frag→Sp}{x:Str}
 (hn:l.most=some n) (hn2:n≤sizeLine) (hdf:d.params.defaults=[]) (hr:eZ k callerA)
 (hY:∀(w:World) (h:Heap),YP w h→(K w.params).In h)
 (F:∀(w:World) (mg:Str→Option Value) (fa:Addr) (h:Heap),(K w.params).In h→h.Ns mainGlobals mg→mg d.name=some (.ref fa)→
  ∃fd:FuncData,(∀(s:Shared) (u:Value),BindsTo s fd ⟨[u],[]⟩ [(x,u)])∧
   ∀base:Heap,(K w.params).In base→base.Ns mainGlobals mg→bt l.prog w (K w.params) mg base CX k fa fd [x] (sp (K w.params)))
 (hsp:∀(K:PySem.W.Frag) (H:Hp) (a:Addr) (ns:List Int),ns.length≤n→uE H→aE K H a (ns.map V.int)→sp K [.ref a] H (fun v _=>v=.bl true) fun _ _ _=>False)
 (hCX:∀(H:Hp) (s:Shared) (e:Value) (s':Shared),CX [] H s (fun _ _ _=>False) e s'→False) :
 PySem.W.WalkO q loose XP YP l.row.toRowW d [] (fun f vs=>PySem.call f vs):=
 walk_of (K:=K) (CX:=fun _=>CX) (sp:=fun w=>sp (K w.params)) hn hn2 hdf hr hY F (fun w H a ns h1 h2 h3=>hsp (K w.params) H a ns h1 h2 h3) fun _ H s e s'=>hCX H s e s'
end L2
/- THE LAST THEOREM (shape; LID, My.* are yours):
 My.Adr: a structure of the addresses that your layer names (classes, functions); My.Txt K t: a structure (Prop) of the equations over K;
 My.txt_mk : {K} {implicit addresses ..} (e1 : nsIn K mainGlobals "law" = some (some (.ref f))) (e2 : K.lookup f = some ⟨oc, od, .func (fnOf "law" "law" params body scope dV kV doc pm an cdv ct), sl⟩) (e3 : codeIn K cdv "law" = true) .. : ∃ t, My.Txt K t
set_option maxRecDepth 100000 in
set_option maxHeartbeats 0 in
theorem PySem.Challenge.cw_LID_holds : PySem.Challenge.rw_LID.Holds := by
 w_on; o_law; k_head; (case hw => w_witness2)
 k_fill
 refine L2.walk_of (l := PySem.Challenge.rw_LID) (n := 63) (k := 40) (x := "script") (CX := fun w => ..) (sp := fun _ => My.sp_law) rfl (by decide) rfl ⟨rfl, by decide, by decide⟩ (fun w h Y => PySem.W.kIn_of Y) ?F ?S ?C
 case F =>
  intro w mg fa h KX G hmg
  have T : ∃ t, My.Txt (L2.KOf KX) t := by
   dsimp only [L2.KOf]                          -- K must stand as «<heap const> w.params» for k_is
   refine' My.txt_mk ?e1 ?e2 ?e3 ..
   (case e1 => PySem.W.k_is)                    -- in the order: a name -> its address -> its object -> its parts
   (case e2 => PySem.W.k_is)
   ..
  obtain ⟨t, T⟩ := T
  have e0 := hmg.symm.trans (PySem.W.mg_of KX G T.law)
  cases e0                                       -- fa is the law's own address
  exact ⟨_, fun s u => .of_eq rfl, fun base kb nb => My.law_fn T kb nb⟩     -- if «.of_eq rfl» comes too early: refine' ⟨_, ?b, fun base kb nb => My.law_fn T kb nb⟩; exact fun s u => .of_eq rfl
 case S => exact fun w H a ns hl hO hS => ..
 case C => exact ..
(the tactic k_is has no namespace: write k_is) -/
namespace L2
open PySem PySem.Spec PyProof.Rows
def uO (s:Stmt):Arguments:=match s with
 | .FunctionDef _ a _ _ _ _ _ _ _ _=>a
 | _=>{ posonlyargs:=[],args:=[],vararg:=none,kwonlyargs:=[],kw_defaults:=[],kwarg:=none,defaults:=[] }
def qY (s:Stmt):List Stmt:=match s with
 | .FunctionDef _ _ b _ _ _ _ _ _ _=>b
 | _=>[]
def aB (s:Stmt):Scope:=match s with
 | .FunctionDef _ _ _ _ _ _ sc _ _ _=>sc
 | _=>{ kind:=.function,names:=[],isGenerator:=false,isCoroutine:=false }
abbrev CX0:kY:=fun _ _ _ _ _ _=>False
abbrev E0:XK:=fun _ _ _=>False
theorem lF {X:Cx}:wM CX0 X E0:=fun _ _ _ _ _ _ _ h=>h.elim
structure xD (K:PySem.W.Frag) (x qual:Str) (st:Stmt) (f:Addr) (fd:FuncData):Prop where
 ex:Gy fun (oc:Value) (od:Option Addr) (kV doc pm:Value) (an:Option Addr) (cdv ct:Value) (osl:Array (Option Value))=>
  fd=PySem.W.fnOf x qual (uO st) (qY st) (aB st) .none kV doc pm an cdv ct∧K.lookup f=some ⟨oc,od,.func fd,osl⟩∧PySem.W.codeIn K cdv qual=true
 kp:PySem.W.keepIn K (.ref f)=true
section
variable {P:Program}{w:World}{K:PySem.W.Frag}{mg:Str→Option Value}{base:Heap}
theorem xD.ok {x qual:Str}{st:Stmt}{f:Addr}{fd:FuncData}{N ps:List Str}{k:Nat}{sp:Sp} (F:xD K x qual st f fd) (S:aQ N ps (aB st)) (len:∀vs H Q E,sp vs H Q E→vs.length=ps.length)
 (hbody:∀(cdv:Value) (A:Around) (outer:List Env) (s:Shared) (H:Hp) (vs:List V) (Q:VK) (E:XK),eZ k (A.deeper (envOfC qual (aB st) s.heap.objs.size f cdv))→sp vs H Q E→
  ∃t,nG (uT CX0 P w K mg base N qual (aB st) f cdv A outer s H E).nox (qY st) t∧t { nx:=fun _ H'=>Q .non H',rt:=Q } (lf N vs) H):bt P w K mg base CX0 (k+1) f fd ps sp:=by
 obtain ⟨oc,od,kV,doc,pm,an,cdv,ct,osl,rfl,lk,hcd⟩:=F.ex
 refine Hn lk hcd S len fun A outer s H vs Q E hr hsp=>?_
 obtain ⟨t,h,q⟩:=hbody cdv A outer s H vs Q E hr hsp
 exact ⟨t,h.nox,q⟩
theorem xD.binds {x qual:Str}{st:Stmt}{f:Addr}{fd:FuncData}{ps:List Str} (F:xD K x qual st f fd)
 (h:∀(kV doc pm:Value) (an:Option Addr) (cdv ct:Value) (us:List Value),us.length=ps.length→bindArgs (PySem.W.fnOf x qual (uO st) (qY st) (aB st) .none kV doc pm an cdv ct) ⟨us,[]⟩=pure (ps.zip us)):qX K fd ps []:=by
 obtain ⟨oc,od,kV,doc,pm,an,cdv,ct,osl,rfl,lk,hcd⟩:=F.ex
 exact .all (h kV doc pm an cdv ct)
end
section
variable {X:Cx}
theorem pv (i:Nat) {x:Str}{pos:Pos} (hN:X.N[i]?=some x:=by rfl) (hv:Di X.env.scope x:=by first | exact Or.inl rfl | exact Or.inr (Or.inl rfl) | exact Or.inr (Or.inr rfl)) (hd:(x==("__debug__" : Str))=false:=by decide)
 (hcd:(x==("__classdict__" : Str))=false:=by decide):PE X (.Name x pos) (ii i):=AR hN hv hd hcd
end
theorem ah {A B:Prop} (h:B):if false=true then A else B:=by
 rw [if_neg Bool.false_ne_true]
 exact h
theorem aa {A B:Prop} (h:A):if true=true then A else B:=by
 rw [if_pos rfl]
 exact h
theorem gr {c A B:Prop} [Decidable c] (h1:c→A) (h2:¬c→B):if c then A else B:=by
 by_cases h:c
 ·rw [if_pos h]
  exact h1 h
 ·rw [if_neg h]
  exact h2 h
def ad (H H':Hp):Prop:=∀b o,H b=some o→H' b=some o
theorem ad.refl (H:Hp):ad H H:=fun _ _ h=>h
theorem ad.trans {H H1 H2:Hp} (a:ad H H1) (b:ad H1 H2):ad H H2:=fun c o h=>b c o (a c o h)
theorem ad.free {H H':Hp} (e:ad H H') {l:Addr} (h:H' l=Option.none):H l=Option.none:=by
 cases q:H l with
 | none=>rfl
 | some o=>
  rw [e l o q] at h
  cases h
theorem ad.seq {K:PySem.W.Frag}{H H':Hp}{a:Addr}{xs:List V} (e:ad H H') (h:aE K H a xs):aE K H' a xs:=by
 rcases h with (h | ⟨o,h⟩) | h
 ·exact .inl (.inl (e _ _ h))
 ·exact .inl (.inr ⟨o,e _ _ h⟩)
 ·exact .inr h
end L2
namespace L2
open PySem
theorem yL {scope:Scope}{env:Env} (h:∀y∈scope.names,y.2=.free→∃c,env.cells.lookup y.1=some c) :
 ∃cl,closureFor scope env=pure cl∧(∀x c,cl.lookup x=some c→env.cells.lookup x=some c)∧(∀y∈scope.names,y.2=.free→∃c,cl.lookup y.1=some c):=by
 have go:∀(names:List (Str×NameKind)) (acc:List (Str×Addr)),(∀y∈names,y.2=.free→∃c,env.cells.lookup y.1=some c)→(∀x c,acc.lookup x=some c→env.cells.lookup x=some c)→
  ∃cl,(forIn names acc (fun (x:Str×NameKind) (cs:List (Str×Addr))=>match x with
   | (name,kind)=>if (kind==.free)=true then (do let a ←cellOf env name;pure (ForInStep.yield ((name,a) :: cs))) else pure (ForInStep.yield cs)):Sem (List (Str×Addr)))=pure cl∧
   (∀x c,cl.lookup x=some c→env.cells.lookup x=some c)∧(∀y∈names,y.2=.free→∃c,cl.lookup y.1=some c)∧(∀x c,acc.lookup x=some c→∃c',cl.lookup x=some c'):=by
  intro names
  induction names with
  | nil=>intro acc _ ha;exact ⟨acc,rfl,ha,fun y hy=>(by cases hy),fun x c e=>⟨c,e⟩⟩
  | cons x r ih=>
   intro acc hn ha
   obtain ⟨name,kind⟩:=x
   rw [List.forIn_cons]
   by_cases hk:kind=.free
   ·subst hk
    obtain ⟨c,hc⟩:=hn (name,.free) List.mem_cons_self rfl
    have e:cellOf env name=pure c:=by unfold cellOf;rw [hc]
    obtain ⟨cl,e1,e2,e3,e4⟩:=ih ((name,c) :: acc) (fun y hy=>hn y (List.mem_cons_of_mem _ hy)) (fun x c' hx=>by
     rw [List.lookup_cons] at hx
     split at hx
     ·rename_i hb
      have:x=name:=by simpa using hb
      subst this
      cases hx;exact hc
     ·exact ha x c' hx)
    refine ⟨cl,?_,e2,fun y hy hf=>?_,fun x c' hx=>?_⟩
    ·simp only [beq_self_eq_true,if_true]
     rw [e,pure_bind,pure_bind]
     exact e1
    ·rcases List.mem_cons.mp hy with rfl | hy
     ·exact e4 name c (by simp)
     ·exact e3 y hy hf
    ·by_cases hb:(x==name)=true
     ·have:x=name:=by simpa using hb
      subst this
      exact e4 x c (by simp)
     ·exact e4 x c' (by rw [List.lookup_cons];simp only [Bool.not_eq_true] at hb;rw [hb];exact hx)
   ·have hb:(kind==NameKind.free)=false:=by simpa using hk
    obtain ⟨cl,e1,e2,e3,e4⟩:=ih acc (fun y hy=>hn y (List.mem_cons_of_mem _ hy)) ha
    refine ⟨cl,?_,e2,fun y hy hf=>?_,e4⟩
    ·simp only [hb,Bool.false_eq_true,if_false]
     rw [pure_bind]
     exact e1
    ·rcases List.mem_cons.mp hy with rfl | hy
     ·exact absurd hf hk
     ·exact e3 y hy hf
 obtain ⟨cl,e1,e2,e3,_⟩:=go scope.names [] h (fun x c e=>by simp at e)
 refine ⟨cl,?_,e2,e3⟩
 unfold closureFor
 show (forIn scope.names _ _ >>= fun cs=>pure cs)=_
 rw [bind_pure]
 exact e1
section
variable {prog:Program}{w:World}{A:Around}{R:Result→Shared→Prop}{s:Shared}
theorem xN {elt target iter:Expr}{ifs:List Expr}{scope:Scope}{pos:Pos}{it acc:Value}{env:Env} (I:Nat→Shared→Prop)
 (turn:∀n s,I n s→wpAny (model prog w) A (pyNext it) (fun r s₁=>match r with
  | none=>R (.ok .next) s₁
  | some v=>wpAny (model prog w) A (letOwnedTupleGo target it v) (fun _ s₁'=>wpAny (model prog w) A (assign target env v) (fun _ s₂=>
   wpAny (model prog w) A (forIn ifs true fun c r=>if r=true then do let ok ←isTrue c env (eval c env);pure (ForInStep.yield ok) else pure (ForInStep.yield r)) (fun ok s₃=>
    if ok=true then wpAny (model prog w) A (eval elt env) (fun x s₄=>
     wpAny (model prog w) A (call (.builtin "list.append") [acc,x]) (fun _ s₅=>∃m,m<n∧I m s₅) (fun _ _=>False) s₄) (fun _ _=>False) s₃
    else ∃m,m<n∧I m s₃) (fun _ _=>False) s₂) (fun _ _=>False) s₁') (fun _ _=>False) s₁) (fun _ _=>False) s)
 (n:Nat) (h:I n s) :
 codeAny (model prog w) A (.compLoop (.ListComp elt [⟨target,iter,ifs,0⟩] scope pos) 0 it acc env) R s:=by
 refine codeAny_loop rfl I (fun n s hI=>?_) n h
 show wpAny _ A ((compTurn (.ListComp elt [⟨target,iter,ifs,0⟩] scope pos) 0 it acc env).onRaise (fun x=>do noteFrame x env;theTreesLotGoes x)) _ _ s
 refine wpAny_noted ?_
 rw [compTurn_list]
 refine wpAny_bind (wpAny_standAt (wpAny_bind (wpAny_mono (turn n s hI) (fun r s₁ h₁=>?_) fun _ _ h'=>h'.elim)))
 cases r with
 | none=>exact wpAny_pure h₁
 | some v=>
  refine wpAny_bind (wpAny_mono h₁ (fun _ s₁' h₁'=>?_) fun _ _ h'=>h'.elim)
  refine wpAny_bind (wpAny_mono h₁' (fun _ s₂ h₂=>wpAny_bind (wpAny_mono h₂ (fun ok s₃ h₃=>?_) fun _ _ h'=>h'.elim)) fun _ _ h'=>h'.elim)
  cases ok with
  | false=>exact wpAny_pure ⟨rfl,h₃⟩
  | true=>
   exact wpAny_bind (wpAny_bind (wpAny_mono h₃ (fun x s₄ h₄=>wpAny_bind (wpAny_mono h₄ (fun _ s₅ h₅=>wpAny_pure (wpAny_pure ⟨rfl,h₅⟩)) fun _ _ h'=>h'.elim)) fun _ _ h'=>h'.elim))
end
end L2
namespace L2
open PySem PySem.Spec PyProof.Rows
section
variable {X:Cx}
theorem kw:db X (.builtin "isinstance") (fun xs H Q=>lO fun x T t b=>xs=[x,.ty T]∧ij X.K H x t∧PySem.W.kitOne X.K t (.type T)=some b∧Q (.bl b) H):=by
 intro pins s σ H xs us Q I r h
 obtain ⟨x,T,t,b,rfl,ty,e,q⟩:=h
 obtain ⟨u,c,rfl,ru,rc⟩:=r.two
 obtain rfl:c=Value.type T:=rc
 exact Bh I ru ty e fun tk=>⟨.bl b,H,I.tok tk,rfl,q⟩
end
def xB (X:Cx) (scope:Scope) (cl:List (Str×Addr)) (C:Addr) (N':List Str) (s:Shared) (H:Hp) (ex:List Addr) (pn:List (Addr×Obj)):Cx:=
 { X with N:=N',s₀:=s,H₀:=H,env:=compEnvC scope cl C X.env,outer:=X.stack,ex:=ex,fn:=fun _=>false,pn:=pn,xe:=fun _ _=>False }
def nY (L:Nat) (src:List Nat) (σ:St):St:=List.replicate L none++src.map fun j=>(σ[j]?).join
def jT (σ σ':St):Prop:=σ'.length=σ.length∧∀(i:Nat) v,σ[i]?=some (some v)→σ'[i]?=some (some v)
theorem dq {x:V}{r:St}:jT (none :: r) (some x :: r):=⟨rfl,fun i v e=>by
 cases i with
 | zero=>simp at e
 | succ i=>simpa using e⟩
theorem HF {x y:V}{r:St}:jT (none :: none :: r) (some x :: some y :: r):=⟨rfl,fun i v e=>by
 cases i with
 | zero=>simp at e
 | succ i=>
  cases i with
  | zero=>simp at e
  | succ i=>simpa using e⟩
def xC (X:Cx) (ifs:List Expr) (t:TT):Prop:=
 ∀(pins:List (Addr×Obj)) (s:Shared) (σ:St) (H:Hp) (Q:Bool→Hp→Prop),af X pins σ H s→t σ H Q→
   wpAny (model X.prog X.w) X.A (forIn ifs true fun c r=>if r=true then do let ok ←isTrue c X.env (eval c X.env);pure (ForInStep.yield ok) else pure (ForInStep.yield r)) (TP X pins σ Q) X.xe s
def tT:TT:=fun _ H Q=>Q true H
theorem bu {X:Cx}:xC X [] tT:=fun _ _ _ H _ I h=>wpAny_pure ⟨H,I,h⟩
def lB (J:It) (σc:St) (g:TG) (tt:TT) (te:TE) (D:Addr) (H1:Hp) (Q:VK):Prop:=
 ∃W:Nat→Nat→Hp→List V→Prop,(∃m,W 0 m (bN H1 D (.lst [])) [])∧∀i m H ys,W i m H ys→H D=some (.lst ys)∧
  ((J.stop i H∧Q (.ref D) H)∨(J.go i H∧ys.length<sizeLine∧∃N:Hp→List V→Prop,(∀H' ys',N H' ys'→∃m',m'<m∧W (i+1) m' H' ys')∧
    ∀x H',J.yld i H x H'→g x σc H' fun σ2 H2=>jT σc σ2∧tt σ2 H2 fun b H3=>if b=true then te σ2 H3 fun y H4=>H4 D=some (.lst ys)∧N (bN H4 D (.lst (ys++[y]))) (ys++[y]) else N H3 ys))
def wo (wi:TI) (L:Nat) (src:List Nat) (g:TG) (tt:TT) (te:TE):TE:=fun σ H Q=>wi σ H fun J H1=>∀D,H1 D=none→lB J (nY L src σ) g tt te D H1 Q
section
variable {X:Cx}{elt tg iter:Expr}{ifs:List Expr}{scope:Scope}{pos:Pos}{N':List Str}{L:Nat}{src:List Nat}{wi:TI}{g:TG}{tt:TT}{te:TE}
end
theorem AV {J:It}{n:Nat}{H1:Hp}{D:Addr}{σc:St}{g:TG}{tt:TT}{te:TE}{Q:VK} (Pv:Nat→Hp→List V→Prop) (hz:n≤sizeLine) (h0:Pv 0 (bN H1 D (.lst [])) [])
 (hD:∀i H ys,Pv i H ys→H D=some (.lst ys)∧ys.length≤i)
 (hgo:∀i H ys,i<n→Pv i H ys→J.go i H) (hst:∀H ys,Pv n H ys→J.stop n H)
 (hs:∀i H ys x H',i<n→Pv i H ys→J.yld i H x H'→g x σc H' fun σ2 H2=>jT σc σ2∧tt σ2 H2 fun b H3=>if b=true then te σ2 H3 fun y H4=>H4 D=some (.lst ys)∧Pv (i+1) (bN H4 D (.lst (ys++[y]))) (ys++[y]) else Pv (i+1) H3 ys)
 (hd:∀H ys,Pv n H ys→Q (.ref D) H):lB J σc g tt te D H1 Q:=by
 refine ⟨fun i m H ys=>m=n - i∧i≤n∧Pv i H ys,⟨n,by simp,Nat.zero_le _,h0⟩,?_⟩
 rintro i m H ys ⟨rfl,hi,p⟩
 obtain ⟨q1,q2⟩:=hD i H ys p
 refine ⟨q1,?_⟩
 by_cases hlt:i<n
 ·exact .inr ⟨hgo i H ys hlt p,by trivial,Pv (i+1),fun H' ys' p'=>⟨n - (i+1),by trivial,rfl,hlt,p'⟩,fun x H' y=>hs i H ys x H' hlt p y⟩
 ·have e:i=n:=by trivial
  subst e
  exact .inl ⟨hst H ys p,hd H ys p⟩
theorem mF {J:It}{n:Nat}{H1:Hp}{D:Addr}{σc:St}{g:TG}{te:TE}{Q:VK} (Pv:Nat→Hp→List V→Prop) (hz:n≤sizeLine) (h0:Pv 0 (bN H1 D (.lst [])) [])
 (hD:∀i H ys,Pv i H ys→H D=some (.lst ys)∧ys.length≤i)
 (hgo:∀i H ys,i<n→Pv i H ys→J.go i H) (hst:∀H ys,Pv n H ys→J.stop n H)
 (hs:∀i H ys x H',i<n→Pv i H ys→J.yld i H x H'→g x σc H' fun σ2 H2=>jT σc σ2∧te σ2 H2 fun y H4=>H4 D=some (.lst ys)∧Pv (i+1) (bN H4 D (.lst (ys++[y]))) (ys++[y]))
 (hd:∀H ys,Pv n H ys→Q (.ref D) H):lB J σc g tT te D H1 Q:=by
 refine AV Pv hz h0 hD hgo hst (fun i H ys x H' hi p y=>?_) hd
 have e:=hs i H ys x H' hi p y
 have q:(fun (σ2:St) (H2:Hp)=>jT σc σ2∧tT σ2 H2 fun b H3=>if b=true then te σ2 H3 fun y H4=>H4 D=some (.lst ys)∧Pv (i+1) (bN H4 D (.lst (ys++[y]))) (ys++[y]) else Pv (i+1) H3 ys) =
  (fun σ2 H2=>jT σc σ2∧te σ2 H2 fun y H4=>H4 D=some (.lst ys)∧Pv (i+1) (bN H4 D (.lst (ys++[y]))) (ys++[y])):=by
  funext σ2 H2
  unfold tT
  dsimp only
  rw [if_pos rfl]
 rw [q]
 exact e
section
variable {X:Cx}{pins:List (Addr×Obj)}{σ:St}{H:Hp}{s:Shared}{h':Heap}
theorem af.turnedNew {t':Nat}{ch:List Addr}{T:Addr}{o:HO} (I:af X pins σ H s) (hf:∀b∈ch,kS X pins H b) (k:∀b u,b∉ch→s.heap.get? b=some u→h'.get? b=some u)
 (hT:s.heap.objs.size≤T) (new:cv X.prog X.w (bN H T o) h' T o):af X pins σ (bN H T o) { s with heap:=h',toks:=t' }:=by
 have hn:H T=none:=I.hok.fresh hT
 refine I.step (g':=s.gens) (d':=s.drawn) (ch:=ch) (fun b hb=>?_) (fun b o _ _ hc e _=>k b o hc e) (fun b o _ _ hc e _=>⟨o.slots,k b o hc e⟩) (fun b o hc e n=>?_)
  (fun b o hc e=>⟨o,k b o hc e⟩) (fun b xs e=>?_) (fun b o u e=>?_) (fun b ps e=>?_) (fun m hm=>?_) (fun b u e=>?_) I.bare
 ·obtain ⟨f0,f1,f2,f3,f4,f5⟩:=hf b hb
  exact ⟨f3,f1,f4,f5⟩
 ·rw [aT (Nat.ne_of_lt (Nat.lt_of_lt_of_le (Heap.lt_size e) hT))];exact n
 ·rw [aT (bc e hn)];exact e
 ·rw [aT (bc e hn)];exact e
 ·exact ⟨#[],by rw [aT (bc e hn),e];simp⟩
 ·obtain ⟨o,es,ep,ho,r⟩:=hm
  exact ⟨o,es,ep,k _ o (fun z=>(hf _ z).2.1 rfl) ho,r⟩
 ·by_cases hb:b=T
  ·subst hb;rw [bf] at e;cases e;exact new
  ·rw [aT hb] at e
   refine (I.hok b u e).stay (fun c v hc q=>k c v (fun z=>?_) q) (fun c q=>by rw [aT (bc q hn)];exact q) fun c xs q=>by rw [aT (bc q hn)];exact q
   have hcn:=(hf c z).1
   rcases hc with rfl | hc
   ·rw [e] at hcn;cases hcn
   ·rw [hc] at hcn;cases hcn
end
section
variable {X:Cx}
theorem AX {bs:List Bool}{us:List Value} (r:aH (bs.map V.bl) us) {i:Nat}{v:Value} (e:us[i]?=some v):∃b,bs[i]?=some b∧v=.bool b:=by
 have hl:=r.length
 rw [List.length_map] at hl
 have hi:i<us.length:=(List.getElem?_eq_some_iff.mp e).1
 have hb:bs[i]?=some bs[i]:=by simp [hl,hi]
 obtain ⟨u,h1,h2⟩:=r.get (i:=i) (x:=.bl bs[i]) (by rw [List.getElem?_map,hb];rfl)
 rw [e] at h1
 cases h1
 exact ⟨_,hb,h2⟩
theorem Dz {s:Shared}{h':Heap}{o:Obj} (hk:∀b x,b∉[s.heap.objs.size]→(s.heap.push o).get? b=some x→h'.get? b=some x):∀b x,s.heap.get? b=some x→h'.get? b=some x:=
 fun b x e=>hk b x (fun hm=>by rw [List.mem_singleton.mp hm] at e;exact Nat.lt_irrefl _ (Heap.lt_size e)) (Heap.get?_push_of_some _ e)
theorem CL (hc:X.calm=true):db X (.builtin "all") (fun xs H Q=>cj fun (l:Addr) (bs:List Bool)=>xs=[.ref l]∧aE X.K H l (bs.map V.bl)∧Q (.bl (bs.all id)) H):=by
 intro pins s σ H xs us Q I r h
 obtain ⟨l,bs,rfl,hq,q⟩:=h
 obtain ⟨u,rfl,ru⟩:=r.one
 obtain rfl:u=.ref l:=ru
 obtain ⟨its,rv,p,hz⟩:=I.list hq
 have hl:=p.isList
 have hlt:l<s.heap.objs.size:=by obtain ⟨_,e,_⟩:=hl;exact Heap.lt_size e
 refine call_all_walk (wpAny_pyIter_list hl ?_)
 refine ⟨s.heap.objs.size,[s.heap.objs.size,l],[s.heap.objs.size],its.toArray.size,_,_,fun i=>(bs[i]?).getD true,rfl,Walks.list (A:=X.A.in1) (I.ok.hd hc) _ l (Nat.ne_of_lt hlt) its.toArray,
  ⟨⟨_,Heap.get?_push_size _ rfl,rfl,rfl⟩,hl.push _⟩,fun i v s' Q' E' hP hQ=>?_,fun h' tk hk=>?_⟩
 ·obtain ⟨b,e,rfl⟩:=AX rv (i:=i) (v:=v) (by simpa using hP)
  simp only [e,Option.getD_some] at hQ
  exact wpAny_truthy_bool hQ
 ·have e:((List.range its.toArray.size).all fun i=>(bs[i]?).getD true)=bs.all id:=by
   rw [List.size_toArray,←rv.length,List.length_map];exact LSm.range_all bs
  rw [e]
  exact ⟨.bl _,H,I.kept (Dz hk),rfl,q⟩
end
def Id (K:PySem.W.Frag) (a:Addr):It:=
 ⟨fun i H=>cj fun xs x=>aE K H a xs∧xs[i]?=some x,fun i H v H'=>cj fun T x=>H T=none∧v=.ref T∧H'=bN H T (.tup [.int (i:Int),x])∧∀xs,aE K H a xs→xs[i]?=some x,fun i H=>∃xs,aE K H a xs∧xs.length≤i⟩
theorem AK {P:Program}{w:World}{K:PySem.W.Frag}{es:List Expr}{kk:Nat}{pos:Pos} (a e it:Addr) (hne:e≠it) :
 sC P w K (.Tuple es kk pos) (Id K a) [e,it] e (fun i h=>(∃old,IsEnum h e it i old)∧h.IsListIter it a i) where
 mem:=by simp
 obj:=fun i h st b hb=>by
  obtain ⟨⟨old,he⟩,o,e1,c,d⟩:=st
  have hb':b=e∨b=it:=by simpa using hb
  rcases hb' with rfl | rfl
  ·exact ⟨_,he,fun v z=>by
    have z':Data.fields _=Data.cell v:=z
    cases z'⟩
  ·exact ⟨o,e1,fun v z=>by rw [d] at z;cases z⟩
 keep:=fun i h h' st k=>by
  obtain ⟨⟨old,he⟩,hi⟩:=st
  exact ⟨⟨old,k e (by simp) _ he⟩,hi.at fun o q=>k it (by simp) o q⟩
 item:=by
  intro X hP hw hK hc i pins s σ H E I hf st hg
  subst hP hw hK
  obtain ⟨⟨old,he⟩,hit⟩:=st
  obtain ⟨xs,x,hq,hx⟩:=hg
  obtain ⟨its,rv,p,hz⟩:=I.list hq
  obtain ⟨u,hu,ru⟩:=rv.get hx
  have hnT:H s.heap.objs.size=none:=I.fresh
  refine wpAny_pyNext_enum_item he hit p.isList (x:=u) (by simpa using hu) hne fun h' ho hit' hT hsz hk=>?_
  refine ⟨(),wpAny_letOwnedTupleGo_enum (s:={ s with heap:=h',toks:=s.toks+1 }) ho fun h'' he'' hs''=>?_⟩
  have helt:e<s.heap.objs.size:=Heap.lt_size he
  have hilt:it<s.heap.objs.size:=by obtain ⟨_,y,_⟩:=hit;exact Heap.lt_size y
  have hT'':h''.get? s.heap.objs.size=some { cls:=.type "tuple",data:=.seq #[.int i s.toks,u] }:=(hs''.2 _ (Nat.ne_of_gt helt)).trans hT
  refine ⟨.ref s.heap.objs.size,bN H s.heap.objs.size (.tup [.int (i:Int),x]),I.turnedNew (ch:=[e,it]) (t':=s.toks+1) hf (fun b o hb q=>?_) (Nat.le_refl _) ?_,rfl,⟨_,x,hnT,rfl,rfl,fun ys hy=>by rw [I.list_inj hy hq];exact hx⟩,⟨⟨u,?_⟩,hit'.extBut hs''.extBut (Ne.symm hne)⟩,fun b hb=>?_⟩
  ·have h1:b≠e:=fun z=>hb (by simp [z])
   have h2:b≠it:=fun z=>hb (by simp [z])
   exact (hs''.2 b h1).trans (hk b o h1 h2 q)
  ·exact ⟨by show 2≤sizeLine;decide,[.int i s.toks,u],.cons ⟨()⟩ (.cons ru .nil),⟨_,hT'',rfl,()⟩,_,hT'',rfl⟩
  ·simpa using he''
  ·have hb':b=e∨b=it:=by simpa using hb
   have hlt:b<s.heap.objs.size:=by rcases hb' with rfl | rfl <;> assumption
   rw [aT (Nat.ne_of_lt hlt)]
   exact (hf b hb).1
 done:=by
  intro X hP hw hK hc i pins s σ H E I hf st hg
  subst hP hw hK
  obtain ⟨⟨old,he⟩,hit⟩:=st
  obtain ⟨xs,hq,hx⟩:=hg
  obtain ⟨its,rv,p,hz⟩:=I.list hq
  obtain ⟨f0,f1,f2,f3,f4,f5⟩:=hf it (by simp)
  have hl:=rv.length
  exact wpAny_pyNext_enum_end (I.ok.hd hc) he hit p.isList (by simp;trivial) fun h' eb=>⟨rfl,I.turned (t':=s.toks) (fun b o hb e=>eb b o hb e) f0 f1 f3 f4 f5⟩
 self:=fun _ _ _ _ _ st h=>by
  obtain ⟨⟨old,he⟩,_⟩:=st
  exact wpAny_pyIter_enum he h
def GU (K:PySem.W.Frag) (ta:TA):TI:=fun σ H R=>ta σ H fun vs H1=>∃a,vs=[.ref a]∧(∃xs,aE K H1 a xs)∧R (Id K a) H1
theorem EO {X:Cx}{es:List Expr}{kk:Nat}{tp:Pos}{a:Expr}{ta:TA}{p pos:Pos} (hg:Gl X "enumerate") (hm:X.mg "enumerate" = none) (ha:PA X [a] ta) (hs:starEach [a] X.env=[(false,eval a X.env)]:=by rfl) :
 PI X (.Tuple es kk tp) (.Call (.Name "enumerate" p) [a] [] pos) (GU X.K ta):=by
 intro pins s σ H R I h
 refine Call_ (fY I hg hm boot_enumerate (PyProof.Rows.callWith_type1 (aW (ha pos pins s σ H _ I h) fun us s1 ⟨vs,H1,I1,r1,q1⟩=>?_) hs rfl))
 obtain ⟨a,rfl,⟨xs,hq⟩,q⟩:=q1
 obtain ⟨u,rfl,ru⟩:=r1.one
 obtain rfl:u=.ref a:=ru
 obtain ⟨its,rv,p,hz⟩:=I1.list hq
 refine call_enumerate_list p.isList fun h' hE hI hsz hk=>wpAny_pyIter_enum hE ?_
 have I2:af X pins σ H1 { s1 with heap:=h',toks:=s1.toks }:=I1.kept hk
 refine ⟨s1.heap.objs.size+1,[s1.heap.objs.size+1,s1.heap.objs.size],_,_,H1,rfl,I2,AK a (s1.heap.objs.size+1) s1.heap.objs.size (Nat.succ_ne_self _),⟨⟨_,hE⟩,hI⟩,fun b hb=>?_,q⟩
 have hb':b=s1.heap.objs.size+1∨b=s1.heap.objs.size:=by simpa using hb
 have hle:s1.heap.objs.size≤b:=by rcases hb' with rfl | rfl <;> trivial
 exact I1.fpOk hle (I1.hok.fresh hle)
end L2
namespace L2
open PySem PySem.Spec PyProof.Rows
theorem bi:bootBuiltins "len" = some (.builtin "len"):=by nofun
theorem iY:bootBuiltins "abs" = some (.builtin "abs"):=by nofun
theorem zQ:bootBuiltins "min" = some (.builtin "min"):=by nofun
theorem Af:bootBuiltins "max" = some (.builtin "max"):=by nofun
theorem bQ:bootBuiltins "all" = some (.builtin "all"):=by nofun
theorem vR:bootBuiltins "divmod" = some (.builtin "divmod"):=by nofun
theorem aq:bootBuiltins "isinstance" = some (.builtin "isinstance"):=by nofun
theorem du:bootBuiltins "int" = some (.type "int"):=by nofun
theorem lU:bootBuiltins "bool" = some (.type "bool"):=by nofun
theorem gl:bootBuiltins "str" = some (.type "str"):=by nofun
theorem d9:bootBuiltins "list" = some (.type "list"):=by nofun
theorem aI:bootBuiltins "tuple" = some (.type "tuple"):=by nofun
theorem cb {X:Cx}{x:Str}{T:String}{pos:Pos} (hg:Gl X x) (hm:X.mg x=none) (hv:bootBuiltins x=some (.type T)) (hn:x≠"__name__" := by decide) (hd:(x==("__debug__" : Str))=false:=by decide):PE X (.Name x pos) (tC (.ty T)):=
 Ea (v:=.ty T) hg hm hv rfl hn hd
mutual
inductive bh (E:Addr→Prop) (H:Hp):V→PyData→Prop
 | non:bh E H .non .none
 | bl (b:Bool):bh E H (.bl b) (.bool b)
 | int (i:Int):bh E H (.int i) (.int i)
 | str (x:Str):bh E H (.str x) (.str x)
 | lst {a:Addr}{xs:List V}{ds:List PyData} (h:H a=some (.lst xs)) (ne:¬E a) (r:aG E H xs ds):bh E H (.ref a) (.list ds)
 | tup {a:Addr}{xs:List V}{ds:List PyData} (h:H a=some (.tup xs)) (r:aG E H xs ds):bh E H (.ref a) (.tuple ds)
inductive aG (E:Addr→Prop) (H:Hp):List V→List PyData→Prop
 | nil:aG E H [] []
 | cons {x:V}{xs:List V}{d:PyData}{ds:List PyData} (h:bh E H x d) (r:aG E H xs ds):aG E H (x :: xs) (d :: ds)
end
structure ar (E:Addr→Prop) (H H':Hp):Prop where
 old:∀a o,¬E a→H a=some o→H' a=some o
 tup:∀a xs,H a=some (.tup xs)→H' a=some (.tup xs)
mutual
theorem bh.mono {E:Addr→Prop}{H H':Hp} (k:ar E H H'):∀{v:V}{d:PyData},bh E H v d→bh E H' v d
 | _,_,.non=>.non
 | _,_,.bl b=>.bl b
 | _,_,.int i=>.int i
 | _,_,.str x=>.str x
 | _,_,.lst h ne r=>.lst (k.old _ _ ne h) ne (aG.mono k r)
 | _,_,.tup h r=>.tup (k.tup _ _ h) (aG.mono k r)
theorem aG.mono {E:Addr→Prop}{H H':Hp} (k:ar E H H'):∀{vs:List V}{ds:List PyData},aG E H vs ds→aG E H' vs ds
 | _,_,.nil=>.nil
 | _,_,.cons h r=>.cons (bh.mono k h) (aG.mono k r)
end
theorem ar.refl {E:Addr→Prop} (H:Hp):ar E H H:=⟨fun _ _ _ h=>h,fun _ _ h=>h⟩
theorem ar.trans {E:Addr→Prop}{H H1 H2:Hp} (a:ar E H H1) (b:ar E H1 H2):ar E H H2:=⟨fun c o n h=>b.old c o n (a.old c o n h),fun c xs h=>b.tup c xs (a.tup c xs h)⟩
theorem ad.toE {E:Addr→Prop}{H H':Hp} (a:ad H H'):ar E H H':=⟨fun c o _ h=>a c o h,fun c xs h=>a c _ h⟩
theorem ad.new {H:Hp}{p:Addr}{o:HO} (h:H p=none):ad H (bN H p o):=fun b u e=>by rw [aT (bc e h)];exact e
theorem aG.length {E:Addr→Prop}{H:Hp}:∀{vs:List V}{ds:List PyData},aG E H vs ds→vs.length=ds.length
 | _,_,.nil=>rfl
 | _,_,.cons _ r=>by simp [aG.length r]
theorem aG.get {E:Addr→Prop}{H:Hp}:∀{vs:List V}{ds:List PyData}{i:Nat}{v:V},aG E H vs ds→vs[i]?=some v→∃d,ds[i]?=some d∧bh E H v d
 | _,_,_,_,.nil,e=>by simp at e
 | _,_,0,_,.cons h _,e=>by simp at e;subst e;exact ⟨_,rfl,h⟩
 | _,_,i+1,v,.cons _ r,e=>by
  obtain ⟨d,h1,h2⟩:=aG.get (i:=i) (v:=v) r (by simpa using e)
  exact ⟨d,by simpa using h1,h2⟩
theorem aG.append {E:Addr→Prop}{H:Hp}:∀{vs ws:List V}{ds es:List PyData},aG E H vs ds→aG E H ws es→aG E H (vs++ws) (ds++es)
 | _,_,_,_,.nil,s=>s
 | _,_,_,_,.cons h r,s=>.cons h (aG.append r s)
mutual
theorem bh.reads {E:Addr→Prop}{P:Program}{w:World}{H:Hp}{h:Heap} (ok:fK P w H h):∀{v:V}{d:PyData},bh E H v d→∀{u:Value},bz v u→∃as,Reads h u d as
 | _,_,.non,u,r=>by obtain rfl:u=.none:=r;exact ⟨_,.none⟩
 | _,_,.bl b,u,r=>by obtain rfl:u=.bool b:=r;exact ⟨_,.bool b⟩
 | _,_,.int i,u,r=>by obtain ⟨t,rfl⟩:=r;exact ⟨_,.int i t⟩
 | _,_,.str x,u,r=>by obtain ⟨t,rfl⟩:=r;exact ⟨_,.str x t⟩
 | _,_,.lst (a:=a) (xs:=xs) e _ q,u,r=>by
  obtain rfl:u=.ref a:=r
  obtain ⟨_,its,n,rv,e1⟩:=(show cv P w H h a (.lst xs) from ok a _ e)
  obtain ⟨as,ra⟩:=aG.reads ok q rv
  exact ⟨_,.list e1 rfl rfl (by simpa using ra)⟩
 | _,_,.tup (a:=a) (xs:=xs) e q,u,r=>by
  obtain rfl:u=.ref a:=r
  obtain ⟨_,its,rv,⟨o,e1,c,n,dd⟩,_⟩:=(show cv P w H h a (.tup xs) from ok a _ e)
  obtain ⟨as,ra⟩:=aG.reads ok q rv
  exact ⟨_,.tuple e1 c dd (by simpa using ra)⟩
theorem aG.reads {E:Addr→Prop}{P:Program}{w:World}{H:Hp}{h:Heap} (ok:fK P w H h):∀{vs:List V}{ds:List PyData},aG E H vs ds→∀{us:List Value},aH vs us→∃as,ReadsAll h us ds as
 | _,_,.nil,us,r=>by cases r;exact ⟨_,.nil⟩
 | _,_,.cons q qs,us,r=>by
  cases r with
  | cons r1 rr=>
   obtain ⟨as,h1⟩:=bh.reads ok q r1
   obtain ⟨bs,h2⟩:=aG.reads ok qs rr
   exact ⟨_,.cons h1 h2⟩
end
section
variable {X:Cx}
def zJ (_ j:Int):Prop:=0<j∧j.natAbs.log2<9000
theorem xT:cn X (binaryOp .FloorDiv) (rI zJ fun i j=>.int (i / j)):=wJ fun i j _ _ _ _ _ hc q=>by
 rw [←Int.fdiv_eq_ediv_of_nonneg _ (Int.le_of_lt hc.1)] at q
 exact floordiv_int (Int.ne_of_gt hc.1) q (.inl (PyProof.noPylong_of_log2 hc.2))
def Hy (i j k:Nat) (ta:TA):TS:=fun D σ H=>ta σ H fun vs H1=>eV fun v w u=>vs=[v,w,u]∧D.nx (((σ.set i (some v)).set j (some w)).set k (some u)) H1
theorem Ex {pos:Pos}{i j k:Nat}{x y z:Str}{a b c:Expr}{ta:TA}{px py pz pt:Pos}{kt k2 pt2} (hc:X.calm=true) (hN:X.N.Nodup) (hi:X.N[i]?=some x) (hj:X.N[j]?=some y) (hk:X.N[k]?=some z) (hij:i≠j) (hik:i≠k) (hjk:j≠k)
 (hx:X.env.scope.names.lookup x=some .local) (hy:X.env.scope.names.lookup y=some .local) (hz:X.env.scope.names.lookup z=some .local) (ha:PA X [a,b,c] ta)
 (hw:swappedStores [.Tuple [.Name x px,.Name y py,.Name z pz] kt pt] (.Tuple [a,b,c] k2 pt2) X.env=pure (some [x,y,z]))
 (hs:swapsWithSole [.Tuple [.Name x px,.Name y py,.Name z pz] kt pt] (.Tuple [a,b,c] k2 pt2) pos.line X.env=pure false:=by rfl) :
 PS X (.Assign [.Tuple [.Name x px,.Name y py,.Name z pz] kt pt] (.Tuple [a,b,c] k2 pt2) pos) (Hy i j k ta):=by
 intro pins s σ H D I h
 rw [exec_Assign_arm]
 refine wpAny_bind (wpAny_standAt ?_)
 rw [hs]
 refine wpAny_bind (wpAny_pure ?_)
 rw [if_neg (by decide)]
 refine wpAny_bind (Tuple_ (aW (ha _ pins s σ H _ I h) fun us s1 ⟨vs,H1,I1,r1,q1⟩=>?_))
 obtain ⟨v,w,u,e1,q1⟩:=q1
 subst e1
 obtain ⟨u1,u2,u3,rfl,rv,rw',ru⟩:eV fun u1 u2 u3=>us=[u1,u2,u3]∧bz v u1∧bz w u2∧bz u u3:=by
  cases r1 with
  | cons p q=>
   cases q with
   | cons p' q'=>
    cases q' with
    | cons p'' q''=>
     cases q''
     exact ⟨_,_,(),p,p',p''⟩
 refine wpAny_newObj_type ?_ (by show 3≤sizeLine;decide)
 have I2:af X pins σ H1 { s1 with heap:=s1.heap.push { cls:=.type "tuple",data:=.seq [u1,u2,u3].toArray } }:=I1.kept (t':=s1.toks) fun b o e=>Heap.get?_push_of_some _ e
 rw [hw]
 refine wpAny_bind (wpAny_pure ?_)
 show wpAny (model X.prog X.w) X.A (do rule "assign.swapped-stores";let items ←unpackItems (.ref s1.heap.objs.size) 3 none;assignInOrder [fun v=>bindName X.env z v,fun v=>bindName X.env y v,fun v=>bindName X.env x v] items.reverse;pure Flow.next) _ _ _
 refine wpAny_bind (wpAny_rule (wpAny_bind (unpackItems_tuple (items:=#[u1,u2,u3]) (I.ok.hd hc) (IsTup.new s1.heap _) fun h' hx'=>?_)))
 have I3:=I2.kept (h':=h') (t':=s1.toks) fun b o e=>hx' b o (Nat.ne_of_lt (Heap.lt_size e)) e
 show wpAny _ _ (assignInOrder [fun v=>bindName X.env z v,fun v=>bindName X.env y v,fun v=>bindName X.env x v] [u3,u2,u1] >>= fun _=>pure Flow.next) _ _ _
 refine wpAny_bind (assignInOrder_cons (wpAny_bindName (iN I3 hN hk (.inl hz) ru (fun s2 I4=>?_) (.inr hz))))
 refine assignInOrder_cons (wpAny_bindName (iN I4 hN hj (.inl hy) rw' (fun s3 I5=>?_) (.inr hy)))
 refine assignInOrder_cons (wpAny_bindName (iN I5 hN hi (.inl hx) rv (fun s4 I6=>assignInOrder_nil (wpAny_pure ?_)) (.inr hx)))
 have e:(((σ.set i (some v)).set j (some w)).set k (some u))=(((σ.set k (some u)).set j (some w)).set i (some v)):=by
  rw [List.set_comm _ _ (Ne.symm hjk),List.set_comm (some v) (some w) hij,List.set_comm (some v) (some u) hik]
 rw [←e] at I6
 exact ⟨_,H1,I6,q1⟩
end
end L2
namespace L2
open PySem PySem.Spec PyProof.Rows
def ya:PyData→String
 | .none => "NoneType"
 | .bool _ => "bool"
 | .int _ => "int"
 | .str _ => "str"
 | .list _ => "list"
 | .tuple _ => "tuple"
 | .dict _ => "dict"
theorem bh.ty {K:PySem.W.Frag}{E:Addr→Prop}{H:Hp}{v:V}{d:PyData} (h:bh E H v d):ij K H v (.type (ya d)):=by
 cases h with
 | non=>exact .non
 | bl b=>exact .bl b
 | int i=>exact .int i
 | str x=>exact .str x
 | lst h ne r=>exact .lst h
 | tup h r=>exact .tup h
def AM:PyData→Bool
 | .int _=>true
 | .bool _=>true
 | _=>false
def eB:PyData→Bool
 | .int _=>true
 | _=>false
def yF:PyData→Bool
 | .bool _=>true
 | _=>false
def wV:PyData→Bool
 | .tuple _=>true
 | _=>false
def wT:PyData→Bool
 | .list _=>true
 | _=>false
def lN:PyData→Bool
 | .str _=>true
 | _=>false
theorem uK {K:PySem.W.Frag} (d:PyData):PySem.W.kitOne K (.type (ya d)) (.type "int")=some (AM d):=by cases d <;> rfl
theorem pj {K:PySem.W.Frag} (d:PyData):PySem.W.kitOne K (.type (ya d)) (.type "bool")=some (yF d):=by cases d <;> rfl
theorem cf {K:PySem.W.Frag} (d:PyData):PySem.W.kitOne K (.type (ya d)) (.type "tuple")=some (wV d):=by cases d <;> rfl
theorem xZ {K:PySem.W.Frag} (d:PyData):PySem.W.kitOne K (.type (ya d)) (.type "list")=some (wT d):=by cases d <;> rfl
theorem lI {K:PySem.W.Frag} (d:PyData):PySem.W.kitOne K (.type (ya d)) (.type "str")=some (lN d):=by cases d <;> rfl
inductive HS (K:PySem.W.Frag) (xs:List V) (H:Hp) (Q:VK):Prop
 | mk (x:_) (T:_) (t:_) (b:_) (h0:xs=[x,.ty T]) (h1:ij K H x t) (h2:PySem.W.kitOne K t (.type T)=some b) (h3:Q (.bl b) H)
def Ik (K:PySem.W.Frag):List V→Hp→VK→Prop:=fun xs H Q=>HS K xs H Q
section
variable {X:Cx}
theorem wK:db X (.builtin "divmod") (fun xs H Q=>cj fun i j=>xs=[.int i,.int j]∧zJ i j∧∀p,H p=none→Q (.ref p) (bN H p (.tup [.int (i / j),.int (i % j)]))):=by
 intro pins s σ H xs us Q I r h
 obtain ⟨i,j,rfl,⟨h1,h2⟩,q⟩:=h
 obtain ⟨u,w',rfl,⟨t,rfl⟩,⟨t',rfl⟩⟩:=Ad r
 refine divmod_int (by trivial) ?_ (.inl (PyProof.noPylong_of_log2 h2))
 rw [Int.fdiv_eq_ediv_of_nonneg i (by trivial),Int.fmod_eq_emod_of_nonneg i (by trivial)]
 have hn:H s.heap.objs.size=none:=I.hok.fresh (Nat.le_refl _)
 refine ⟨.ref s.heap.objs.size,_,?_,rfl,q _ hn⟩
 refine I.laid (fun b o e=>Heap.get?_push_of_some _ e) (Nat.le_refl _) ⟨by simp only [List.length_cons,List.length_nil];rw [sizeLine_eq];decide,[.int (i / j) s.toks,.int (i % j) (s.toks+1)],.cons ⟨()⟩ (.cons ⟨()⟩ .nil),?_⟩
 exact ⟨⟨_,Heap.get?_push_size s.heap rfl,rfl,0,rfl⟩,_,Heap.get?_push_size s.heap rfl,rfl⟩
end
theorem Jo (c:Bool):-(2 ^ 64)<(if c=true then (1:Int) else 0)∧(if c=true then (1:Int) else 0)<2 ^ 64:=by cases c <;> decide
theorem xb (x:Int):0≤(if x<0 then -x else x):=by split <;> trivial
theorem HL {x:Int} (c:Bool) (h:0≤x):0≤x*(if c=true then (1:Int) else 0):=by cases c <;> simp [h]
theorem zk {ms:List Int}{k:Int} (h0:0≤k) (h:k.toNat<ms.length):gj (ms.map V.int) k=some (V.int ms[k.toNat]):=by
 have q:=kl (xs:=ms.map V.int) (j:=k.toNat) (v:=V.int ms[k.toNat]) (by rw [List.getElem?_map];simp [h])
 rwa [Int.toNat_of_nonneg h0] at q
inductive Bx (H:Hp) (b:Addr) (t:Int):Prop
 | mk (c x:Int) (h0:H b=some (.lst [.int c,.int x,.int t])) (h1:0≤c) (h2:0≤x) (h3:x<2147483647)
abbrev Eb (b:Addr):Addr→Prop:=fun a=>a=b
theorem Bx.same {H H':Hp}{b:Addr}{t:Int} (h:Bx H b t) (k:ad H H'):Bx H' b t:=by
 obtain ⟨c,x,e,r,r2,r3⟩:=h
 exact ⟨c,x,k _ _ e,r,r2,r3⟩
theorem vw {H H1:Hp}{b:Addr}{xs:List V}{o:HO} (k:ad H H1) (hb:H1 b=some (.lst xs)):ar (Eb b) H (bN H1 b o):=
 ⟨fun a u n h=>by rw [aT n];exact k a u h,fun a ys h=>by
  have e:=k a _ h
  rw [aT (zY e hb (by intro z;cases z))];exact e⟩
inductive FL (K:PySem.W.Frag) (vs:List V) (H:Hp) (Q:VK):Prop
 | mk (a:Addr) (ms:List Int) (k:Int) (h0:vs=[.ref a,.int k]) (h1:aE K H a (ms.map V.int)) (h2:0≤k) (h3:k≤63) (h4:∀p H',H p=none→ad H H'→Bx H' p 0→Q (.ref p) H')
def HP (K:PySem.W.Frag):Sp:=fun vs H Q _=>FL K vs H Q
inductive DJ (vs:List V) (H:Hp) (Q:VK):Prop
 | mk (b:Addr) (many t:Int) (h0:vs=[.ref b,.int many]) (h1:Bx H b t) (h2:0<many) (h3:many.natAbs.log2<9000) (h4:0≤t) (h5:t≤1000000) (h6:∀r t' H',0≤r→r<many→t≤t'→t'≤t+1→ar (Eb b) H H'→Bx H' b t'→Q (.int r) H')
def FS:Sp:=fun vs H Q _=>DJ  vs H Q
theorem IC {i j:Int}:decide (V.int i=V.int j)=decide (i=j):=by
 by_cases h:i=j
 ·rw [decide_eq_true h,decide_eq_true (by rw [h])]
 ·rw [decide_eq_false h,decide_eq_false (fun z=>h (by injection z))]
def xU:List Str→Bool
 | []=>true
 | x :: r=>!r.contains x && xU r
theorem AJ:∀l:List Str,xU l=true→l.Nodup
 | [],_=>List.nodup_nil
 | x :: r,h=>by
  unfold xU at h
  simp only [Bool.and_eq_true,Bool.not_eq_true',List.contains_eq_mem,decide_eq_false_iff_not] at h
  exact List.nodup_cons.mpr ⟨h.1,AJ r h.2⟩
inductive GN (K:PySem.W.Frag) (xs:List V) (H:Hp) (Q:VK):Prop
 | mk (p:_) (ys:_) (h0:xs=[.ref p]) (h1:(aE K H p ys∨ak K H p ys)) (h2:Q (.int ys.length) H)
def IK (K:PySem.W.Frag):List V→Hp→VK→Prop:=fun xs H Q=>GN K xs H Q
section
variable {X:Cx}{K:PySem.W.Frag}
theorem bv (e:X.K=K:=by rfl):db X (.builtin "isinstance") (Ik K):=by subst e;exact fun pins s σ H xs us Q I r ⟨x,T,t,b,h1,h2,h3,q⟩=>kw pins s σ H xs us Q I r ⟨x,T,t,b,h1,h2,h3,q⟩
theorem eI (e:X.K=K:=by rfl):db X (.builtin "len") (IK K):=by subst e;exact fun pins s σ H xs us Q I r ⟨p,ys,h1,h2,q⟩=>l0 pins s σ H xs us Q I r ⟨p,ys,h1,h2,q⟩
theorem Fk (e:X.K=K:=by rfl):pB X (Gz K):=by subst e;exact jq
theorem GX (e:X.K=K:=by rfl):pB X (Cn K):=by subst e;exact zj
theorem HR (e:X.K=K:=by rfl):pB X (Ac K):=by subst e;exact Bw
inductive HD (K:PySem.W.Frag) (xs:List V) (H:Hp) (Q:VK):Prop
 | mk (l:Addr) (bs:List Bool) (h0:xs=[.ref l]) (h1:aE K H l (bs.map V.bl)) (h2:Q (.bl (bs.all id)) H)
def Ij (K:PySem.W.Frag):List V→Hp→VK→Prop:=fun xs H Q=>HD K xs H Q
theorem eY (hc:X.calm=true) (e:X.K=K:=by rfl):db X (.builtin "all") (Ij K):=by subst e;exact fun pins s σ H xs us Q I r ⟨l,bs,h1,h2,q⟩=>CL hc pins s σ H xs us Q I r ⟨l,bs,h1,h2,q⟩
theorem fP {pos:Pos}{es:List Expr}{k:Nat}{t:rD}{n:Nat} (hc:X.calm=true) (h:Br X es t) (e:X.K=K:=by rfl)
 (hn:(assignEach es X.env).length=n:=by rfl) (hst:(assignEach es X.env).findIdx? (·.1)=none:=by rfl):PG X (.Tuple es k pos) (Cz K n t):=by
 subst e;exact wW hc h hn hst
theorem BD {tg l:Expr}{tl:TE} (hl:PE X l tl) (e:X.K=K:=by rfl):PI X tg l (zR K tl):=by subst e;exact uI hl
theorem bI {tg l:Expr}{tl:TE} (hl:PE X l tl) (e:X.K=K:=by rfl):PI X tg l (zG K tl):=by subst e;exact GC hl
end
end L2
namespace L2
open PySem PySem.Spec PyProof.Rows
def nX:Expr→Bool
 | .Starred ..=>false
 | _=>true
theorem kC {e:Expr}{es:List Expr}{env:Env} (h:nX e=true):starEach (e :: es) env=(false,eval e env) :: starEach es env:=by
 cases e <;> first | rfl | (simp [nX] at h)
section
variable {X:Cx}{e:Expr}{es:List Expr}{te:TE}{t:TA}
theorem Aa (ha:PE X e te) (hr:PA X es t) (hs:nX e=true:=by rfl):PA X (e :: es) (dF te t):=bS ha hr (kC hs)
theorem pw (i:Nat) {x:Str}{pos:Pos} (hv:Di X.env.scope x) (hN:X.N[i]?=some x:=by rfl) (hd:(x==("__debug__" : Str))=false:=by decide) (hcd:(x==("__classdict__" : Str))=false:=by decide):PE X (.Name x pos) (ii i):=AR hN hv hd hcd
end
end L2
namespace KM
theorem gcd_fmod (n d:Int):Int.gcd d (n.fmod d)=Int.gcd n d:=by
 apply Nat.dvd_antisymm
 ·apply Int.dvd_gcd
  ·have h1:((Int.gcd d (n.fmod d):Nat):Int) ∣ d:=Int.gcd_dvd_left ..
   have h2:((Int.gcd d (n.fmod d):Nat):Int) ∣ n.fmod d:=Int.gcd_dvd_right ..
   have h3:=Int.dvd_add h2 (Int.dvd_mul_of_dvd_left (c:=n.fdiv d) h1)
   rw [Int.fmod_add_mul_fdiv] at h3
   exact h3
  ·exact Int.gcd_dvd_left ..
 ·apply Int.dvd_gcd
  ·exact Int.gcd_dvd_right ..
  ·rw [Int.fmod_def]
   exact Int.dvd_sub (Int.gcd_dvd_left ..) (Int.dvd_mul_of_dvd_left (Int.gcd_dvd_right ..))
theorem fmod_natAbs_lt (n d:Int) (h:d≠0):(n.fmod d).natAbs<d.natAbs:=by
 rcases Int.lt_trichotomy d 0 with hd | hd | hd
 ·have e:n.fmod d=-((-n).fmod (-d)):=by
   rw [Int.fmod_def,Int.fmod_def]
   have:(-n).fdiv (-d)=n.fdiv d:=Int.neg_fdiv_neg n d
   rw [this,Int.neg_mul];trivial
  have h1:=Int.fmod_nonneg_of_pos (-n) (b:=-d) (by trivial)
  have h2:=Int.fmod_lt_of_pos (-n) (b:=-d) (by trivial)
  trivial
 ·exact absurd hd h
 ·have h1:=Int.fmod_nonneg_of_pos n hd
  have h2:=Int.fmod_lt_of_pos n hd
  trivial
theorem gcd_zero_abs (n:Int):((Int.gcd n 0:Nat):Int)=if n<0 then -n else n:=by
 rw [Int.gcd_zero_right]
 split <;> trivial
theorem gcd_emod (n d:Int):Int.gcd d (n % d)=Int.gcd n d:=by
 by_cases h:d=0
 ·subst h;rw [Int.emod_zero,Int.gcd_comm]
 ·apply Nat.dvd_antisymm
  ·apply Int.dvd_gcd
   ·have h1:((Int.gcd d (n % d):Nat):Int) ∣ d:=Int.gcd_dvd_left ..
    have h2:((Int.gcd d (n % d):Nat):Int) ∣ n % d:=Int.gcd_dvd_right ..
    have h3:=Int.dvd_add h2 (Int.dvd_mul_of_dvd_left (c:=n / d) h1)
    rw [Int.emod_add_mul_ediv] at h3
    exact h3
   ·exact Int.gcd_dvd_left ..
  ·apply Int.dvd_gcd
   ·exact Int.gcd_dvd_right ..
   ·rw [Int.emod_def]
    exact Int.dvd_sub (Int.gcd_dvd_left ..) (Int.dvd_mul_of_dvd_left (Int.gcd_dvd_right ..))
end KM
namespace KM
def low (n d:Int):Int×Int:=if 0<d then (n / (Int.gcd n d:Nat),d / (Int.gcd n d:Nat)) else (-n / (Int.gcd n d:Nat),-d / (Int.gcd n d:Nat))
theorem gcd_pos {n d:Int} (h:d≠0):0<Int.gcd n d:=by
 apply Nat.pos_of_ne_zero
 intro e
 exact h (Int.gcd_eq_zero_iff.mp e).2
theorem gcd_abs (n d:Int):Int.gcd (if n<0 then -n else n) (if d<0 then -d else d)=Int.gcd n d:=by
 split <;> split <;> simp [Int.gcd_neg,Int.neg_gcd]
theorem low_spec (n d:Int) (h:d≠0):1≤(low n d).2∧(low n d).1*d=n*(low n d).2∧Int.gcd (low n d).1 (low n d).2=1∧(low n d).1.natAbs≤n.natAbs∧(low n d).2.natAbs≤d.natAbs:=by
 have g0:=gcd_pos (n:=n) h
 have gi:((Int.gcd n d:Nat):Int)≠0:=by trivial
 have d1:((Int.gcd n d:Nat):Int) ∣ n:=Int.gcd_dvd_left ..
 have d2:((Int.gcd n d:Nat):Int) ∣ d:=Int.gcd_dvd_right ..
 obtain ⟨a,ha⟩:=d1
 obtain ⟨b,hb⟩:=d2
 have ea:n / ((Int.gcd n d:Nat):Int)=a:=by
  conv=>lhs;lhs;rw [ha]
  exact Int.mul_ediv_cancel_left _ gi
 have eb:d / ((Int.gcd n d:Nat):Int)=b:=by
  conv=>lhs;lhs;rw [hb]
  exact Int.mul_ediv_cancel_left _ gi
 have ena:-n / ((Int.gcd n d:Nat):Int)=-a:=by
  have:-n=((Int.gcd n d:Nat):Int)*(-a):=by rw [Int.mul_neg];trivial
  rw [this]
  exact Int.mul_ediv_cancel_left _ gi
 have enb:-d / ((Int.gcd n d:Nat):Int)=-b:=by
  have:-d=((Int.gcd n d:Nat):Int)*(-b):=by rw [Int.mul_neg];trivial
  rw [this]
  exact Int.mul_ediv_cancel_left _ gi
 have hco:Int.gcd a b=1:=by
  have:=Int.gcd_ediv_gcd_ediv_gcd (i:=n) (j:=d) g0
  rw [ea,eb] at this
  exact this
 have hgp:(0:Int)<((Int.gcd n d:Nat):Int):=by trivial
 have habs:n.natAbs=Int.gcd n d*a.natAbs:=by
  conv=>lhs;rw [ha]
  rw [Int.natAbs_mul];rfl
 have hbbs:d.natAbs=Int.gcd n d*b.natAbs:=by
  conv=>lhs;rw [hb]
  rw [Int.natAbs_mul];rfl
 have la:a.natAbs≤n.natAbs:=by rw [habs];exact Nat.le_mul_of_pos_left _ g0
 have lb:b.natAbs≤d.natAbs:=by rw [hbbs];exact Nat.le_mul_of_pos_left _ g0
 have hab:a*d=n*b:=by
  generalize ((Int.gcd n d:Nat):Int)=g at ha hb
  subst ha hb
  rw [Int.mul_comm g a,Int.mul_assoc]
 unfold low
 split
 ·rename_i hd
  refine ⟨?_,?_,?_,?_,?_⟩
  ·show 1≤d / _
   rw [eb]
   have:0<b:=by
    apply Int.pos_of_mul_pos_right (a:=((Int.gcd n d:Nat):Int)) _ hgp
    rw [←hb];exact hd
   trivial
  ·show n / _*d=n*(d / _)
   rw [ea,eb];exact hab
  ·show Int.gcd (n / _) (d / _)=1
   rw [ea,eb];exact hco
  ·show (n / _).natAbs≤_
   rw [ea];exact la
  ·show (d / _).natAbs≤_
   rw [eb];exact lb
 ·rename_i hd
  refine ⟨?_,?_,?_,?_,?_⟩
  ·show 1≤-d / _
   rw [enb]
   have:0 < -b:=by
    apply Int.pos_of_mul_pos_right (a:=((Int.gcd n d:Nat):Int)) _ hgp
    rw [Int.mul_neg,←hb];trivial
   trivial
  ·show -n / _*d=n*(-d / _)
   rw [ena,enb,Int.neg_mul,Int.mul_neg,hab]
  ·show Int.gcd (-n / _) (-d / _)=1
   rw [ena,enb,Int.gcd_neg,Int.neg_gcd];exact hco
  ·show (-n / _).natAbs≤_
   rw [ena,Int.natAbs_neg];exact la
  ·show (-d / _).natAbs≤_
   rw [enb,Int.natAbs_neg];exact lb
end KM
namespace KM
theorem Cf {n d a b:Int} (hd:d≠0) (hb:1≤b) (hg:Int.gcd a b=1) (he:a*d=n*b):low n d=(a,b):=by
 obtain ⟨h1,h2,h3,_,_⟩:=low_spec n d hd
 generalize low n d=z at *
 obtain ⟨x,y⟩:=z
 dsimp only at h1 h2 h3
 have e1:x*b=a*y:=by
  apply Int.eq_of_mul_eq_mul_right hd
  calc x*b*d=(x*d)*b:=by rw [Int.mul_assoc,Int.mul_comm b d,←Int.mul_assoc]
   _=n*y*b:=by rw [h2]
   _=(n*b)*y:=by rw [Int.mul_assoc,Int.mul_comm y b,←Int.mul_assoc]
   _=a*d*y:=by rw [he]
   _=a*y*d:=by rw [Int.mul_assoc,Int.mul_comm d y,←Int.mul_assoc]
 have d1:y ∣ b:=by
  apply Int.natAbs_dvd_natAbs.mp
  apply Nat.Coprime.dvd_of_dvd_mul_left (k:=y.natAbs) (m:=x.natAbs)
  ·show Nat.gcd y.natAbs x.natAbs=1
   rw [Nat.gcd_comm];exact h3
  ·rw [←Int.natAbs_mul]
   exact Int.natAbs_dvd_natAbs.mpr ⟨a,by rw [e1,Int.mul_comm]⟩
 have d2:b ∣ y:=by
  apply Int.natAbs_dvd_natAbs.mp
  apply Nat.Coprime.dvd_of_dvd_mul_left (k:=b.natAbs) (m:=a.natAbs)
  ·show Nat.gcd b.natAbs a.natAbs=1
   rw [Nat.gcd_comm];exact hg
  ·rw [←Int.natAbs_mul]
   exact Int.natAbs_dvd_natAbs.mpr ⟨x,by rw [←e1,Int.mul_comm]⟩
 have e2:y=b:=Int.dvd_antisymm (by trivial) (by trivial) d1 d2
 subst e2
 have e3:x=a:=Int.eq_of_mul_eq_mul_right (by trivial) e1
 rw [e3]
theorem low_self {a b:Int} (hb:1≤b) (hg:Int.gcd a b=1):low a b=(a,b):=Cf (by trivial) hb hg rfl
section
variable {p0 p1 q0 q1:Int}
end
end KM
namespace KM
abbrev Fra:=Int×Int
theorem low_sgn {n d:Int} (hd:0<d):(0<(low n d).1↔0<n)∧((low n d).1<0↔n<0):=by
 obtain ⟨h1,h2,_,_,_⟩:=low_spec n d (by trivial)
 generalize low n d=z at *
 obtain ⟨x,y⟩:=z
 dsimp only at *
 have hy:0<y:=by trivial
 constructor
 ·constructor
  ·intro h
   have:0<x*d:=Int.mul_pos h hd
   rw [h2] at this
   exact Int.pos_of_mul_pos_left this hy
  ·intro h
   have:0<n*y:=Int.mul_pos h hy
   rw [←h2] at this
   exact Int.pos_of_mul_pos_left this hd
 ·constructor
  ·intro h
   have:x*d<0:=Int.mul_neg_of_neg_of_pos h hd
   rw [h2] at this
   apply Decidable.byContradiction
   intro hn
   have:=Int.mul_nonneg (show 0≤n by trivial) (show 0≤y by trivial)
   trivial
  ·intro h
   have:n*y<0:=Int.mul_neg_of_neg_of_pos h hy
   rw [←h2] at this
   apply Decidable.byContradiction
   intro hn
   have:=Int.mul_nonneg (show 0≤x by trivial) (show 0≤d by trivial)
   trivial
end KM
namespace KM
end KM
namespace L2
open PySem PySem.Spec PyProof.Rows
section
variable {prog:Program}{w:World}{A:Around}{E:Value→Shared→Prop}{s:Shared}
theorem zL {it t:Addr}{i:Nat}{its:Array Value}{x:Value}{Q:Value→Shared→Prop} (hit:s.heap.IsTupleIter it t i) (ht:s.heap.IsTuple t its) (hx:its[i]?=some x)
 (q:∀h',h'.IsTupleIter it t (i+1)→Heap.SameBut it s.heap h'→Q x { s with heap:=h' }):wpAny (model prog w) A (Builtin.SmallTypes.nextOf (.ref it)) Q E s:=by
 obtain ⟨o,e1,e2,e3⟩:=id hit;obtain ⟨u,e4,_,k,e5⟩:=ht;unfold Builtin.SmallTypes.nextOf
 refine wpAny_bind (wpAny_callSpecial?_slot (name:=Str.ofString "__next__") hit.typeIs F.slot_tuple_iterator_next (wpAny_call_entry F.slot_tuple_iterator_next hit.typeIs F.entry_tuple_iterator_next ?_ (F.args_tuple_iterator_next_1 _)))
 show wpAny _ _ (field (.ref it) 0 >>= _) _ _ s;refine wpAny_bind (wpAny_field e1 e3 (x:=.ref t) rfl ?_)
 show wpAny _ _ (if (Value.ref t==Value.none)=true then _ else _) _ _ s;rw [if_neg (show ¬((Value.ref t==Value.none)=true) from Bool.false_ne_true)]
 show wpAny _ _ (field (.ref it) 1 >>= _) _ _ s;refine wpAny_bind (wpAny_field e1 e3 (x:=.int i 0) rfl ?_)
 show wpAny _ _ (seqItems? (.ref t) >>= _) _ _ s;refine wpAny_bind (wpAny_seqItems e4 e5 ?_)
 simp only [Int.toNat_natCast,hx];refine wpAny_bind (wpAny_setField e1 e3 (by simp) (wpAny_pure ⟨x,rfl,wpAny_pure (q _ ?_ (Heap.SameBut.update ..))⟩))
 exact ⟨_,Heap.get?_update_self _ e1 (Obj.isFreed_of_fields (Obj.data_mapFields e3 _)),(Obj.cls_mapFields ..).trans e2,by rw [Obj.data_mapFields e3];simp [rawInt]⟩
theorem vM {it t:Addr}{i:Nat}{its:Array Value}{Q:Value→Shared→Prop} (hh:A.handled=none) (hit:s.heap.IsTupleIter it t i) (ht:s.heap.IsTuple t its) (hx:its[i]?=none)
 (q:∀h' e,Heap.ExtBut it s.heap h'→(∃o,h'.get? e=some o∧o.cls=.type "StopIteration")→E (.ref e) { s with heap:=h' }):wpAny (model prog w) A (Builtin.SmallTypes.nextOf (.ref it)) Q E s:=by
 obtain ⟨o,e1,e2,e3⟩:=id hit;obtain ⟨u,e4,_,k,e5⟩:=ht;unfold Builtin.SmallTypes.nextOf
 refine wpAny_bind (wpAny_callSpecial?_slot (name:=Str.ofString "__next__") hit.typeIs F.slot_tuple_iterator_next (wpAny_call_entry F.slot_tuple_iterator_next hit.typeIs F.entry_tuple_iterator_next ?_ (F.args_tuple_iterator_next_1 _)))
 show wpAny _ _ (field (.ref it) 0 >>= _) _ _ s;refine wpAny_bind (wpAny_field e1 e3 (x:=.ref t) rfl ?_)
 show wpAny _ _ (if (Value.ref t==Value.none)=true then _ else _) _ _ s;rw [if_neg (show ¬((Value.ref t==Value.none)=true) from Bool.false_ne_true)]
 show wpAny _ _ (field (.ref it) 1 >>= _) _ _ s;refine wpAny_bind (wpAny_field e1 e3 (x:=.int i 0) rfl ?_)
 show wpAny _ _ (seqItems? (.ref t) >>= _) _ _ s;refine wpAny_bind (wpAny_seqItems e4 e5 ?_)
 simp only [Int.toNat_natCast,hx];refine wpAny_bind (wpAny_rule (wpAny_bind (wpAny_setField e1 e3 (by simp) ?_)))
 show wpAny _ _ (newExc (.type "StopIteration") [] >>= _) _ _ _;refine wpAny_bind ?_;simp only [newExc,newTuple]
 refine wpAny_bind (wpAny_newObj_type ?_ (by size_fits));refine wpAny_bind (m:=firstArgMember _ _) (wpAny_of_eq (a:=Value.none) (by first | rfl | (simp only [firstArgMember];rfl)) ?_);refine wpAny_newObj_type ?_ (by size_fits)
 simp only [raiseNew];refine wpAny_bind (wpAny_handled ?_);first | rw [show A.in1.handled=none from hh] | rw [hh]
 refine wpAny_bind (wpAny_pure (wpAny_throw ?_));exact q _ _ (((Heap.SameBut.update ..).extBut.push _).push _) ⟨_,Heap.get?_push_size _ rfl,rfl⟩
end
def gP (h:Heap) (l:Addr) (its:Array Value):Bool→Prop
 | true=>h.IsList l its
 | false=>h.IsTuple l its
def fE (h:Heap) (it l:Addr) (i:Nat):Bool→Prop
 | true=>h.IsListIter it l i
 | false=>h.IsTupleIter it l i
theorem gP.at {h h':Heap}{l:Addr}{its:Array Value}:∀{b:Bool},gP h l its b→(∀o,h.get? l=some o→h'.get? l=some o)→gP h' l its b
 | true,q,k=>Heap.IsList.at q k
 | false,q,k=>Heap.IsTuple.at q k
theorem fE.at {h h':Heap}{it l:Addr}{i:Nat}:∀{b:Bool},fE h it l i b→(∀o,h.get? it=some o→h'.get? it=some o)→fE h' it l i b
 | true,q,k=>Heap.IsListIter.at q k
 | false,q,k=>Heap.IsTupleIter.at q k
theorem gP.lt {h:Heap}{l:Addr}{its:Array Value}:∀{b:Bool},gP h l its b→l<h.objs.size
 | true,⟨_,e,_⟩=>Heap.lt_size e
 | false,⟨_,e,_⟩=>Heap.lt_size e
theorem fE.some {h:Heap}{it l:Addr}{i:Nat}:∀{b:Bool},fE h it l i b→∃o,h.get? it=some o∧∀v,o.data≠.cell v
 | true,⟨o,e,_,d⟩=>⟨o,e,fun v z=>by rw [d] at z;cases z⟩
 | false,⟨o,e,_,d⟩=>⟨o,e,fun v z=>by rw [d] at z;cases z⟩
theorem sZ {prog:Program}{w:World}{A:Around} (hh:A.handled=none) (it l:Addr) (hne:l≠it) (its:Array Value):∀b:Bool,
 Draws prog w A it [it,l] its.size (fun i v=>its[i]?=some v) (fun i h=>fE h it l i b∧gP h l its b)
 | true=>Draws.list hh it l hne its
 | false=>{
  live:=fun _ _ st=>let ⟨o,ho,_⟩:=st.1;⟨o,ho⟩
  frame:=fun _ _ _ st hk=>⟨Heap.IsTupleIter.at st.1 fun o e=>hk it (by simp) o e,Heap.IsTuple.at st.2 fun o e=>hk l (by simp) o e⟩
  item:=fun i s Q E hi st q=>zL st.1 st.2 (x:=its[i]) (by simp [hi]) fun h' it' same=>q _ h' s.toks (by simp [hi]) ⟨it',Heap.IsTuple.extBut st.2 same.extBut hne⟩ same
  done:=fun s Q E st q=>vM hh st.1 st.2 (by simp) q }
structure qb (z TI TO i1 i2:Addr):Prop where
 a1:TI≠z
 a2:TO≠z
 a3:i1≠z
 a4:i2≠z
 a5:TI≠TO
 a6:TI≠i1
 a7:TI≠i2
 a8:TO≠i1
 a9:TO≠i2
 a0:i1≠i2
section
variable {prog:Program}{w:World}{A:Around}{E:Value→Shared→Prop}{s:Shared}
variable {z TI TO i1 i2 l1 l2:Addr}{k:Nat}{xs ys:Array Value}{a b:Value}{c1 c2:Bool}
theorem Er {x y:Value}{Q:Value→Shared→Prop} (D:qb z TI TO i1 i2) (n1:∀c,c=l1∨c=l2→c≠z∧c≠TO∧c≠i1∧c≠i2)
 (hz:IsZip s.heap z TI TO .none) (hTI:IsPair s.heap TI (.ref i1) (.ref i2)) (hTO:IsPair s.heap TO a b) (hh:A.handled=none)
 (h1:fE s.heap i1 l1 k c1) (h2:fE s.heap i2 l2 k c2) (q1:gP s.heap l1 xs c1) (q2:gP s.heap l2 ys c2) (hx:xs[k]?=some x) (hy:ys[k]?=some y)
 (hQ:∀h' tk,IsZip h' z TI TO (rawInt s.heap.objs.size)→IsPair h' TO x y→fE h' i1 l1 (k+1) c1→fE h' i2 l2 (k+1) c2→IsPair h' s.heap.objs.size x y→h'.objs.size=s.heap.objs.size+1→
  (∀c o,c≠z→c≠TO→c≠i1→c≠i2→s.heap.get? c=some o→h'.get? c=some o)→Q (.ref s.heap.objs.size) { s with heap:=h',toks:=tk }) :
 wpAny (model prog w) A (Builtin.«zip.__next__» ⟨[.ref z],[]⟩) (fun fin s'=>∃v,fin=.done (.ret v)∧Q v s') E s:=by
 obtain ⟨m1,m2,m3,m4⟩:=n1 l1 (.inl rfl)
 obtain ⟨m5,m6,m7,m8⟩:=n1 l2 (.inr rfl)
 have kx:k<xs.size:=(Array.getElem?_eq_some_iff.mp hx).1
 have ky:k<ys.size:=(Array.getElem?_eq_some_iff.mp hy).1
 have D1:=sZ (prog:=prog) (w:=w) hh i1 l1 m3 xs c1
 have D2:=sZ (prog:=prog) (w:=w) hh i2 l2 m8 ys c2
 show wpAny _ _ (field (.ref z) 2 >>= _) _ _ _;refine wpAny_bind (wpAny_field hz rfl (x:=.bool false) rfl ?_)
 show wpAny _ _ (field (.ref z) 3 >>= _) _ _ _;refine wpAny_bind (wpAny_field hz rfl (x:=.ref TI) rfl (wpAny_bind (wpAny_seqItems hTI rfl ?_)))
 show wpAny _ _ (Builtin.SmallTypes.ownedTupleIsFree (.ref z) >>= _) _ _ _;refine wpAny_bind ?_;unfold Builtin.SmallTypes.ownedTupleIsFree
 refine wpAny_bind (wpAny_field hz rfl (x:=.none) rfl (wpAny_pure ?_));simp only [if_true]
 refine wpAny_bind (wpAny_rule (wpAny_bind (wpAny_field hz rfl (x:=.ref TO) rfl (wpAny_bind (wpAny_setField_rec hz (by simp) fun g1 z1 t1=>?_)))))
 replace z1:IsZip g1 z TI TO .ellipsis:=z1
 refine wpAny_bind ?_;simp only [List.zipIdx_cons,List.zipIdx_nil,List.forIn_cons,List.forIn_nil];refine wpAny_bind (wpAny_bind (wpAny_onRaise ?_))
 show wpAny _ _ (Builtin.SmallTypes.nextOf (.ref i1) >>= _) _ _ _
 refine wpAny_bind (D1.item k _ _ _ kx ⟨h1.at fun o e=>t1.extBut _ _ D.a3 e,q1.at fun o e=>t1.extBut _ _ m1 e⟩ fun x' g2 tk2 p1 st1 t2=>wpAny_pure ?_)
 have ex:x=x':=Option.some.inj (hx.symm.trans p1)
 subst ex
 have TO2:IsPair g2 TO a b:=t2.extBut _ _ D.a8 (t1.extBut _ _ D.a2 hTO)
 refine wpAny_bind (wpAny_seqItems TO2 rfl (wpAny_bind (wpAny_updateSeq_pair TO2 fun g3 TO3 t3=>?_)))
 replace TO3:IsPair g3 TO x b:=TO3
 refine wpAny_bind (wpAny_letGo (wpAny_pure ?_));refine wpAny_bind (wpAny_bind (wpAny_onRaise ?_));show wpAny _ _ (Builtin.SmallTypes.nextOf (.ref i2) >>= _) _ _ _
 refine wpAny_bind (D2.item k _ _ _ ky ⟨h2.at fun o e=>t3.extBut _ _ D.a9.symm (t2.extBut _ _ D.a0.symm (t1.extBut _ _ D.a4 e)),q2.at fun o e=>t3.extBut _ _ m6 (t2.extBut _ _ m7 (t1.extBut _ _ m5 e))⟩ fun y' g4 tk4 p2 st2 t4=>wpAny_pure ?_)
 have ey:y=y':=Option.some.inj (hy.symm.trans p2)
 subst ey
 have TO4:IsPair g4 TO x b:=t4.extBut _ _ D.a9 TO3
 refine wpAny_bind (wpAny_seqItems TO4 rfl (wpAny_bind (wpAny_updateSeq_pair TO4 fun g5 TO5 t5=>?_)))
 replace TO5:IsPair g5 TO x y:=TO5
 refine wpAny_bind (wpAny_letGo (wpAny_pure (wpAny_pure ?_)));refine wpAny_bind (wpAny_seqItems TO5 rfl (wpAny_bind (wpAny_newTuple ?_)))
 have sz:g5.objs.size=s.heap.objs.size:=by rw [t5.1,t4.1,t3.1,t2.1,t1.1]
 have z5:IsZip g5 z TI TO .ellipsis:=t5.extBut _ _ D.a2.symm (t4.extBut _ _ D.a4.symm (t3.extBut _ _ D.a2.symm (t2.extBut _ _ D.a3.symm z1)))
 have keep:∀c o,c≠z→c≠TO→c≠i1→c≠i2→s.heap.get? c=some o→g5.get? c=some o:=fun c o d1 d2 d3 d4 e=>t5.extBut _ _ d2 (t4.extBut _ _ d4 (t3.extBut _ _ d2 (t2.extBut _ _ d3 (t1.extBut _ _ d1 e))))
 have it1:fE g5 i1 l1 (k+1) c1:=st1.1.at fun o e=>t5.extBut _ _ D.a8.symm (t4.extBut _ _ D.a0 (t3.extBut _ _ D.a8.symm e))
 have it2:fE g5 i2 l2 (k+1) c2:=st2.1.at fun o e=>t5.extBut _ _ D.a9.symm e
 have zlt:z<g5.objs.size:=Heap.lt_size z5
 show wpAny _ _ (Builtin.SmallTypes.ownedTupleHandOut (.ref z) (.ref g5.objs.size) >>= _) _ _ _;refine wpAny_bind ?_;unfold Builtin.SmallTypes.ownedTupleHandOut
 have z6:IsZip (g5.push { cls:=.type "tuple",data:=.seq #[x,y] }) z TI TO .ellipsis:=Heap.get?_push_of_some _ z5
 refine wpAny_bind (wpAny_setField_rec z6 (by simp) fun g7 z7 t7=>?_)
 replace z7:IsZip g7 z TI TO (rawInt g5.objs.size):=z7
 refine wpAny_setField_rec z7 (by simp) fun g8 z8 t8=>?_
 replace z8:IsZip g8 z TI TO (rawInt g5.objs.size):=z8
 have up:∀c o,c≠z→g5.get? c=some o→g8.get? c=some o:=fun c o d e=>t8.extBut _ _ d (t7.extBut _ _ d (Heap.get?_push_of_some _ e))
 have T8:IsPair g8 g5.objs.size x y:=t8.extBut _ _ (Nat.ne_of_gt zlt) (t7.extBut _ _ (Nat.ne_of_gt zlt) (Heap.get?_push_size _ rfl))
 have s8:g8.objs.size=g5.objs.size+1:=by rw [t8.1,t7.1,Heap.size_push]
 rw [sz] at z8 T8 s8
 refine wpAny_pure ⟨(),?_⟩;show Q (.ref g5.objs.size) _;rw [sz]
 exact hQ g8 _ z8 (up _ _ D.a2 TO5) (it1.at fun o e=>up _ o D.a3 e) (it2.at fun o e=>up _ o D.a4 e) T8 s8 fun c o d1 d2 d3 d4 e=>up c o d1 (keep c o d1 d2 d3 d4 e)
theorem Gu {Q:Fin→Shared→Prop} (hh:A.handled=none) (D:qb z TI TO i1 i2) (n1:∀c,c=l1∨c=l2→c≠z∧c≠TO∧c≠i1∧c≠i2)
 (hz:IsZip s.heap z TI TO .none) (hTI:IsPair s.heap TI (.ref i1) (.ref i2)) (hTO:IsPair s.heap TO a b)
 (h1:fE s.heap i1 l1 k c1) (h2:fE s.heap i2 l2 k c2) (q1:gP s.heap l1 xs c1) (q2:gP s.heap l2 ys c2) (hend:xs.size=k∨(k<xs.size∧ys.size=k))
 (hE:∀h' e tk,(∀c o,c≠z→c≠TO→c≠i1→c≠i2→s.heap.get? c=some o→h'.get? c=some o)→(∃o,h'.get? e=some o∧o.cls=.type "StopIteration")→E (.ref e) { s with heap:=h',toks:=tk }) :
 wpAny (model prog w) A (Builtin.«zip.__next__» ⟨[.ref z],[]⟩) Q E s:=by
 obtain ⟨m1,m2,m3,m4⟩:=n1 l1 (.inl rfl)
 obtain ⟨m5,m6,m7,m8⟩:=n1 l2 (.inr rfl)
 have D1:=sZ (prog:=prog) (w:=w) hh i1 l1 m3 xs c1
 have D2:=sZ (prog:=prog) (w:=w) hh i2 l2 m8 ys c2
 show wpAny _ _ (field (.ref z) 2 >>= _) _ _ _;refine wpAny_bind (wpAny_field hz rfl (x:=.bool false) rfl ?_)
 show wpAny _ _ (field (.ref z) 3 >>= _) _ _ _;refine wpAny_bind (wpAny_field hz rfl (x:=.ref TI) rfl (wpAny_bind (wpAny_seqItems hTI rfl ?_)))
 show wpAny _ _ (Builtin.SmallTypes.ownedTupleIsFree (.ref z) >>= _) _ _ _;refine wpAny_bind ?_;unfold Builtin.SmallTypes.ownedTupleIsFree
 refine wpAny_bind (wpAny_field hz rfl (x:=.none) rfl (wpAny_pure ?_));simp only [if_true]
 refine wpAny_bind (wpAny_rule (wpAny_bind (wpAny_field hz rfl (x:=.ref TO) rfl (wpAny_bind (wpAny_setField_rec hz (by simp) fun g1 z1 t1=>?_)))))
 replace z1:IsZip g1 z TI TO .ellipsis:=z1
 refine wpAny_bind ?_;simp only [List.zipIdx_cons,List.zipIdx_nil,List.forIn_cons,List.forIn_nil];refine wpAny_bind (wpAny_bind (wpAny_onRaise ?_))
 show wpAny _ _ (Builtin.SmallTypes.nextOf (.ref i1) >>= _) _ _ _
 have st0:fE g1 i1 l1 k c1∧gP g1 l1 xs c1:=⟨h1.at fun o e=>t1.extBut _ _ D.a3 e,q1.at fun o e=>t1.extBut _ _ m1 e⟩
 rcases hend with hk | ⟨kx,hk⟩
 ·refine wpAny_bind (D1.done _ _ _ (by rw [hk];exact st0) fun g2 e t2 he=>?_)
  obtain ⟨oe,e1,e2⟩:=he
  have z2:IsZip g2 z TI TO .ellipsis:=t2 _ _ D.a3.symm z1
  have ez:e≠z:=fun q=>by subst q;rw [z2] at e1;cases e1;simp at e2
  exact wpAny_setField_rec z2 (by simp) fun g3 _ t3=>hE g3 e _ (fun c o d1 _ d3 _ q=>t3.extBut _ _ d1 (t2 _ _ d3 (t1.extBut _ _ d1 q))) ⟨oe,t3.extBut _ _ ez e1,e2⟩
 ·refine wpAny_bind (D1.item k _ _ _ kx st0 fun x g2 tk2 p1 st1 t2=>wpAny_pure ?_)
  have TO2:IsPair g2 TO a b:=t2.extBut _ _ D.a8 (t1.extBut _ _ D.a2 hTO)
  refine wpAny_bind (wpAny_seqItems TO2 rfl (wpAny_bind (wpAny_updateSeq_pair TO2 fun g3 TO3 t3=>?_)))
  refine wpAny_bind (wpAny_letGo (wpAny_pure ?_));refine wpAny_bind (wpAny_bind (wpAny_onRaise ?_));show wpAny _ _ (Builtin.SmallTypes.nextOf (.ref i2) >>= _) _ _ _
  have st2:fE g3 i2 l2 k c2∧gP g3 l2 ys c2:=⟨h2.at fun o e=>t3.extBut _ _ D.a9.symm (t2.extBut _ _ D.a0.symm (t1.extBut _ _ D.a4 e)),q2.at fun o e=>t3.extBut _ _ m6 (t2.extBut _ _ m7 (t1.extBut _ _ m5 e))⟩
  refine wpAny_bind (D2.done _ _ _ (by rw [hk];exact st2) fun g4 e t4 he=>?_)
  obtain ⟨oe,e1,e2⟩:=he
  have z4:IsZip g4 z TI TO .ellipsis:=t4 _ _ D.a4.symm (t3.extBut _ _ D.a2.symm (t2.extBut _ _ D.a3.symm z1))
  have ez:e≠z:=fun q=>by subst q;rw [z4] at e1;cases e1;simp at e2
  exact wpAny_setField_rec z4 (by simp) fun g5 _ t5=>hE g5 e _ (fun c o d1 d2 d3 d4 q=>t5.extBut _ _ d1 (t4 _ _ d4 (t3.extBut _ _ d2 (t2.extBut _ _ d3 (t1.extBut _ _ d1 q))))) ⟨oe,t5.extBut _ _ ez e1,e2⟩
end
def FF:Bool→String
 | true => "list_iterator"
 | false => "tuple_iterator"
abbrev zA (h:Heap) (l1:Addr) (c1:Bool):Heap:=h.push { cls:=.type (FF c1),data:=.fields #[.ref l1,.int 0 0] }
abbrev zB (h:Heap) (l1 l2:Addr) (c1 c2:Bool):Heap:=(zA h l1 c1).push { cls:=.type (FF c2),data:=.fields #[.ref l2,.int 0 0] }
abbrev zC (h:Heap) (l1 l2:Addr) (c1 c2:Bool):Heap:=(zB h l1 l2 c1 c2).push { cls:=.type "tuple",data:=.seq #[.ref h.objs.size,.ref (zA h l1 c1).objs.size] }
abbrev zD (h:Heap) (l1 l2:Addr) (c1 c2:Bool):Heap:=(zC h l1 l2 c1 c2).push { cls:=.type "tuple",data:=.seq #[.none,.none] }
abbrev zE (h:Heap) (l1 l2:Addr) (c1 c2:Bool):Heap:=(zD h l1 l2 c1 c2).push { cls:=.type "zip",data:=.fields #[.none,.bool false,.bool false,.ref (zB h l1 l2 c1 c2).objs.size,.ref (zC h l1 l2 c1 c2).objs.size] }
set_option maxHeartbeats 8000000 in
theorem E2 (l1 l2:Addr) (xs ys:Array Value) (c1 c2:Bool) :
 Meets (Builtin.«zip.__new__» ⟨[.type "zip",.ref l1,.ref l2],[]⟩) (fun _ R s=>gP s.heap l1 xs c1∧gP s.heap l2 ys c2∧R (.ok (.ret (.ref (zD s.heap l1 l2 c1 c2).objs.size))) { s with heap:=zE s.heap l1 l2 c1 c2 }):=
 .of_wp fun prog w A R s h=>by
  obtain ⟨hp,g,d,tk,os⟩:=s;obtain ⟨q1,q2,h⟩:=h
  have hsub:=sub_zip
  have L2':gP (Shared.heap ⟨zA hp l1 c1,g,d,tk,os⟩) l2 ys c2:=gP.at q2 fun o e=>Heap.get?_push_of_some _ e
  cases c1 <;> cases c2
  ·have g1:Heap.IsTuple (Shared.heap ⟨hp,g,d,tk,os⟩) l1 xs:=q1
   have g2:Heap.IsTuple (Shared.heap ⟨hp.push { cls:=.type "tuple_iterator",data:=.fields #[.ref l1,.int 0 0] },g,d,tk,os⟩) l2 ys:=L2'
   wp_walk using wpAny_pyIter_tuple g1,wpAny_pyIter_tuple g2
   exact ⟨(),h⟩
  ·have g1:Heap.IsTuple (Shared.heap ⟨hp,g,d,tk,os⟩) l1 xs:=q1
   have g2:Heap.IsList (Shared.heap ⟨hp.push { cls:=.type "tuple_iterator",data:=.fields #[.ref l1,.int 0 0] },g,d,tk,os⟩) l2 ys:=L2'
   wp_walk using wpAny_pyIter_tuple g1,wpAny_pyIter_list g2
   exact ⟨(),h⟩
  ·have g1:Heap.IsList (Shared.heap ⟨hp,g,d,tk,os⟩) l1 xs:=q1
   have g2:Heap.IsTuple (Shared.heap ⟨hp.push { cls:=.type "list_iterator",data:=.fields #[.ref l1,.int 0 0] },g,d,tk,os⟩) l2 ys:=L2'
   wp_walk using wpAny_pyIter_list g1,wpAny_pyIter_tuple g2
   exact ⟨(),h⟩
  ·have g1:Heap.IsList (Shared.heap ⟨hp,g,d,tk,os⟩) l1 xs:=q1
   have g2:Heap.IsList (Shared.heap ⟨hp.push { cls:=.type "list_iterator",data:=.fields #[.ref l1,.int 0 0] },g,d,tk,os⟩) l2 ys:=L2'
   wp_walk using wpAny_pyIter_list g1,wpAny_pyIter_list g2
   exact ⟨(),h⟩
theorem yQ {h:Heap}{it l:Addr}:∀{c:Bool},h.get? it=some { cls:=.type (FF c),data:=.fields #[.ref l,.int 0 0] }→fE h it l 0 c
 | true,e=>⟨_,e,rfl,rfl⟩
 | false,e=>⟨_,e,rfl,rfl⟩
section
variable {prog:Program}{w:World}{A:Around}{E:Value→Shared→Prop}{s:Shared}
theorem AH {l1 l2:Addr}{xs ys:Array Value}{c1 c2:Bool}{Q:Value→Shared→Prop} (q1:gP s.heap l1 xs c1) (q2:gP s.heap l2 ys c2)
 (h:∀h',IsZip h' (s.heap.objs.size+4) (s.heap.objs.size+2) (s.heap.objs.size+3) .none→IsPair h' (s.heap.objs.size+2) (.ref s.heap.objs.size) (.ref (s.heap.objs.size+1))→
  IsPair h' (s.heap.objs.size+3) .none .none→fE h' s.heap.objs.size l1 0 c1→fE h' (s.heap.objs.size+1) l2 0 c2→
  (∀c o,s.heap.get? c=some o→h'.get? c=some o)→Q (.ref (s.heap.objs.size+4)) { s with heap:=h' }) :
 wpAny (model prog w) A (call (.type "zip") [.ref l1,.ref l2]) Q E s:=by
 refine callType_new F.called_zip (by decide) (F.typeCall_zip_2 _ _) (F.newCall_zip_2 _ _) (fun obj=>F.args_object_init_3 obj _ _) F.entry_zip_new (E2 l1 l2 xs ys c1 c2) ⟨q1,q2,?_⟩
 have s1:(zA s.heap l1 c1).objs.size=s.heap.objs.size+1:=Heap.size_push ..
 have s2:(zB s.heap l1 l2 c1 c2).objs.size=s.heap.objs.size+2:=by rw [Heap.size_push,s1]
 have s3:(zC s.heap l1 l2 c1 c2).objs.size=s.heap.objs.size+3:=by rw [Heap.size_push,s2]
 have s4:(zD s.heap l1 l2 c1 c2).objs.size=s.heap.objs.size+4:=by rw [Heap.size_push,s3]
 have g5:(zE s.heap l1 l2 c1 c2).get? (zD s.heap l1 l2 c1 c2).objs.size=some _:=Heap.get?_push_size _ rfl
 have g4:(zE s.heap l1 l2 c1 c2).get? (zC s.heap l1 l2 c1 c2).objs.size=some _:=Heap.get?_push_of_some _ (Heap.get?_push_size _ rfl)
 have g3:(zE s.heap l1 l2 c1 c2).get? (zB s.heap l1 l2 c1 c2).objs.size=some _:=Heap.get?_push_of_some _ (Heap.get?_push_of_some _ (Heap.get?_push_size _ rfl))
 have g2:(zE s.heap l1 l2 c1 c2).get? (zA s.heap l1 c1).objs.size=some _:=Heap.get?_push_of_some _ (Heap.get?_push_of_some _ (Heap.get?_push_of_some _ (Heap.get?_push_size _ rfl)))
 have g1:(zE s.heap l1 l2 c1 c2).get? s.heap.objs.size=some _:=Heap.get?_push_of_some _ (Heap.get?_push_of_some _ (Heap.get?_push_of_some _ (Heap.get?_push_of_some _ (Heap.get?_push_size _ rfl))))
 show _∧_
 rw [s2,s3,s4] at g5
 rw [s1,s2] at g3
 rw [s3] at g4
 rw [s1] at g2
 rw [s4]
 exact ⟨⟨_,g5,rfl⟩,h _ g5 g3 g4 (yQ g1) (yQ g2) fun c o x=>Heap.get?_push_of_some _ (Heap.get?_push_of_some _ (Heap.get?_push_of_some _ (Heap.get?_push_of_some _ (Heap.get?_push_of_some _ x))))⟩
theorem uF {z TI TO i1 i2 l1 l2:Addr}{k:Nat}{xs ys:Array Value}{a b x y:Value}{c1 c2:Bool}{Q:Option Value→Shared→Prop} (D:qb z TI TO i1 i2) (n1:∀c,c=l1∨c=l2→c≠z∧c≠TO∧c≠i1∧c≠i2)
 (hz:IsZip s.heap z TI TO .none) (hTI:IsPair s.heap TI (.ref i1) (.ref i2)) (hTO:IsPair s.heap TO a b) (hh:A.handled=none)
 (h1:fE s.heap i1 l1 k c1) (h2:fE s.heap i2 l2 k c2) (q1:gP s.heap l1 xs c1) (q2:gP s.heap l2 ys c2) (hx:xs[k]?=some x) (hy:ys[k]?=some y)
 (hQ:∀h' tk,IsZip h' z TI TO (rawInt s.heap.objs.size)→IsPair h' TO x y→fE h' i1 l1 (k+1) c1→fE h' i2 l2 (k+1) c2→IsPair h' s.heap.objs.size x y→h'.objs.size=s.heap.objs.size+1→
  (∀c o,c≠z→c≠TO→c≠i1→c≠i2→s.heap.get? c=some o→h'.get? c=some o)→Q (some (.ref s.heap.objs.size)) { s with heap:=h',toks:=tk }) :
 wpAny (model prog w) A (pyNext (.ref z)) Q E s:=by
 have hT:s.TypeIs (.ref z) "zip" := ⟨_,hz,rfl⟩
 unfold pyNext
 exact wpAny_bind (wpAny_attempt (wpAny_callSpecial?_slot (name:=Str.ofString "__next__") hT F.slot_zip_next (wpAny_call_entry F.slot_zip_next hT F.entry_zip_next
  (Er D n1 hz hTI hTO hh h1 h2 q1 q2 hx hy fun h' tk a1 a2 a3 a4 a5 a6 a7=>wpAny_pure (hQ h' tk a1 a2 a3 a4 a5 a6 a7)) (F.args_zip_next_1 _))))
theorem vU {z TI TO i1 i2 l1 l2:Addr}{k:Nat}{xs ys:Array Value}{a b:Value}{c1 c2:Bool}{Q:Option Value→Shared→Prop} (hh:A.handled=none) (D:qb z TI TO i1 i2) (n1:∀c,c=l1∨c=l2→c≠z∧c≠TO∧c≠i1∧c≠i2)
 (hz:IsZip s.heap z TI TO .none) (hTI:IsPair s.heap TI (.ref i1) (.ref i2)) (hTO:IsPair s.heap TO a b)
 (h1:fE s.heap i1 l1 k c1) (h2:fE s.heap i2 l2 k c2) (q1:gP s.heap l1 xs c1) (q2:gP s.heap l2 ys c2) (hend:xs.size=k∨(k<xs.size∧ys.size=k))
 (hQ:∀h' tk,(∀c o,c≠z→c≠TO→c≠i1→c≠i2→s.heap.get? c=some o→h'.get? c=some o)→Q none { s with heap:=h',toks:=tk }):wpAny (model prog w) A (pyNext (.ref z)) Q E s:=by
 have hT:s.TypeIs (.ref z) "zip" := ⟨_,hz,rfl⟩
 unfold pyNext
 refine wpAny_bind (wpAny_attempt (wpAny_callSpecial?_slot (name:=Str.ofString "__next__") hT F.slot_zip_next (wpAny_call_entry F.slot_zip_next hT F.entry_zip_next
  (Gu hh D n1 hz hTI hTO h1 h2 q1 q2 hend fun h' e tk hk he=>?_) (F.args_zip_next_1 _))))
 obtain ⟨o,ho,hc⟩:=he
 refine wpAny_bind (wpAny_isInstance (T := "StopIteration") (b:=true) ⟨o,ho,hc⟩ isSubtype_stop (wpAny_pure (hQ _ tk hk)))
end
theorem af.turnedL {X:Cx}{pins:List (Addr×Obj)}{σ:St}{H:Hp}{s:Shared}{h':Heap}{t':Nat}{ch:List Addr} (I:af X pins σ H s) (hf:∀b∈ch,kS X pins H b) (k:∀b u,b∉ch→s.heap.get? b=some u→h'.get? b=some u) :
 af X pins σ H { s with heap:=h',toks:=t' }:=by
 refine I.step (g':=s.gens) (d':=s.drawn) (ch:=ch) (fun b hb=>?_) (fun b o _ _ hc e _=>k b o hc e) (fun b o _ _ hc e _=>⟨o.slots,k b o hc e⟩) (fun _ _ _ _ n=>n)
  (fun b o hc e=>⟨o,k b o hc e⟩) (fun _ _ e=>e) (fun _ _ _ e=>e) (fun b ps e=>⟨#[],by rw [e];simp⟩) (fun m hm=>?_) (fun b u e=>?_) I.bare
 ·obtain ⟨f0,f1,f2,f3,f4,f5⟩:=hf b hb
  exact ⟨f3,f1,f4,f5⟩
 ·obtain ⟨o,es,ep,ho,r⟩:=hm
  exact ⟨o,es,ep,k _ o (fun z=>(hf _ z).2.1 rfl) ho,r⟩
 ·refine (I.hok b u e).stay (fun c v hc q=>k c v (fun z=>?_) q) (fun _ q=>q) fun _ _ q=>q
  have hcn:=(hf c z).1
  rcases hc with rfl | hc
  ·rw [e] at hcn;cases hcn
  ·rw [hc] at hcn;cases hcn
def nH (K:PySem.W.Frag) (H:Hp) (a:Addr) (xs:List V):Bool→Prop
 | true=>aE K H a xs
 | false=>ak K H a xs
theorem af.seqC {X:Cx}{pins:List (Addr×Obj)}{σ:St}{H:Hp}{s:Shared}{a:Addr}{xs:List V} (I:af X pins σ H s):∀{c:Bool},nH X.K H a xs c→∃its:List Value,aH xs its∧gP s.heap a its.toArray c
 | true,q=>let ⟨its,rv,p,_⟩:=I.list q;⟨its,rv,p.isList⟩
 | false,q=>let ⟨its,rv,p,_⟩:=I.tuple q;⟨its,rv,p⟩
theorem af.seqC_inj {X:Cx}{pins:List (Addr×Obj)}{σ:St}{H:Hp}{s:Shared}{a:Addr}{xs ys:List V} (I:af X pins σ H s):∀{c:Bool},nH X.K H a xs c→nH X.K H a ys c→xs=ys
 | true,p,q=>I.list_inj p q
 | false,p,q=>I.tuple_inj p q
def FU (K:PySem.W.Frag) (a1 a2:Addr) (c1 c2:Bool):It:=
 ⟨fun i H=>lO fun xs ys x y=>nH K H a1 xs c1∧nH K H a2 ys c2∧xs[i]?=some x∧ys[i]?=some y,
  fun i H v H'=>eV fun T x y=>H T=none∧v=.ref T∧H'=bN H T (.tup [x,y])∧(∀xs,nH K H a1 xs c1→xs[i]?=some x)∧(∀ys,nH K H a2 ys c2→ys[i]?=some y),
  fun i H=>cj fun xs ys=>nH K H a1 xs c1∧nH K H a2 ys c2∧(xs.length=i∨(i<xs.length∧ys.length=i))⟩
theorem BX {P:Program}{w:World}{K:PySem.W.Frag}{es:List Expr}{kk:Nat}{pos:Pos} (a1 a2 z TI TO i1 i2:Addr) (c1 c2:Bool) (D:qb z TI TO i1 i2) (n1:∀c,c=a1∨c=a2→c≠z∧c≠TO∧c≠i1∧c≠i2) :
 sC P w K (.Tuple es kk pos) (FU K a1 a2 c1 c2) [z,TO,i1,i2,TI] z (fun i h=>IsZip h z TI TO .none∧IsPair h TI (.ref i1) (.ref i2)∧(cj fun a b=>IsPair h TO a b)∧fE h i1 a1 i c1∧fE h i2 a2 i c2) where
 mem:=by simp
 obj:=fun i h st b hb=>by
  obtain ⟨hz,hTI,⟨a,b',hTO⟩,h1,h2⟩:=st
  have hb':b=z∨b=TO∨b=i1∨b=i2∨b=TI:=by simpa using hb
  rcases hb' with rfl | rfl | rfl | rfl | rfl
  ·exact ⟨_,hz,fun v q=>by have q':Data.fields _=Data.cell v:=q;cases q'⟩
  ·exact ⟨_,hTO,fun v q=>by have q':Data.seq _ _=Data.cell v:=q;cases q'⟩
  ·exact h1.some
  ·exact h2.some
  ·exact ⟨_,hTI,fun v q=>by have q':Data.seq _ _=Data.cell v:=q;cases q'⟩
 keep:=fun i h h' st k=>by
  obtain ⟨hz,hTI,⟨a,b',hTO⟩,h1,h2⟩:=st
  exact ⟨k z (by simp) _ hz,k TI (by simp) _ hTI,⟨a,b',k TO (by simp) _ hTO⟩,h1.at fun o q=>k i1 (by simp) o q,h2.at fun o q=>k i2 (by simp) o q⟩
 item:=by
  intro X hP hw hK hc i pins s σ H E I hf st hg
  subst hP hw hK
  obtain ⟨hz,hTI,⟨a,b',hTO⟩,h1,h2⟩:=st
  obtain ⟨xs,ys,x,y,p1,p2,hx,hy⟩:=hg
  obtain ⟨its1,rv1,k1⟩:=I.seqC p1
  obtain ⟨its2,rv2,k2⟩:=I.seqC p2
  obtain ⟨u,hu,ru⟩:=rv1.get hx
  obtain ⟨v,hv,rw'⟩:=rv2.get hy
  have hnT:H s.heap.objs.size=none:=I.fresh
  refine uF D n1 hz hTI hTO (I.ok.hd hc) h1 h2 k1 k2 (x:=u) (y:=v) (by simpa using hu) (by simpa using hv) fun h' tk zo TO' t1 t2 T' sz keep=>?_
  refine ⟨(),wpAny_letOwnedTupleGo_zip (s:={ s with heap:=h',toks:=tk }) zo fun h2' z2 s2=>?_⟩
  have zlt:z<s.heap.objs.size:=Heap.lt_size hz
  have TOlt:TO<s.heap.objs.size:=Heap.lt_size hTO
  have TIlt:TI<s.heap.objs.size:=Heap.lt_size hTI
  have i1lt:i1<s.heap.objs.size:=let ⟨_,e,_⟩:=h1.some;Heap.lt_size e
  have i2lt:i2<s.heap.objs.size:=let ⟨_,e,_⟩:=h2.some;Heap.lt_size e
  have hT2:h2'.get? s.heap.objs.size=some { cls:=.type "tuple",data:=.seq #[u,v] }:=(s2.2 _ (Nat.ne_of_gt zlt)).trans T'
  refine ⟨.ref s.heap.objs.size,bN H s.heap.objs.size (.tup [x,y]),I.turnedNew (ch:=[z,TO,i1,i2,TI]) (t':=tk) hf (fun b o hb q=>?_) (Nat.le_refl _) ?_,rfl,
   ⟨_,x,y,hnT,rfl,rfl,fun zs hs=>by rw [I.seqC_inj hs p1];exact hx,fun zs hs=>by rw [I.seqC_inj hs p2];exact hy⟩,⟨z2,(s2.2 _ D.a1).trans (keep _ _ D.a1 D.a5 D.a6 D.a7 hTI),⟨_,_,(s2.2 _ D.a2).trans TO'⟩,t1.at fun o e=>(s2.2 _ D.a3).trans e,t2.at fun o e=>(s2.2 _ D.a4).trans e⟩,fun b hb=>?_⟩
  ·have e1:b≠z:=fun q=>hb (by simp [q])
   have e2:b≠TO:=fun q=>hb (by simp [q])
   have e3:b≠i1:=fun q=>hb (by simp [q])
   have e4:b≠i2:=fun q=>hb (by simp [q])
   exact (s2.2 b e1).trans (keep b o e1 e2 e3 e4 q)
  ·exact ⟨by show 2≤sizeLine;decide,[u,v],.cons ru (.cons rw' .nil),⟨_,hT2,rfl,()⟩,_,hT2,rfl⟩
  ·have hb':b=z∨b=TO∨b=i1∨b=i2∨b=TI:=by simpa using hb
   have hlt:b<s.heap.objs.size:=by rcases hb' with rfl | rfl | rfl | rfl | rfl <;> assumption
   rw [aT (Nat.ne_of_lt hlt)]
   exact (hf b hb).1
 done:=by
  intro X hP hw hK hc i pins s σ H E I hf st hg
  subst hP hw hK
  obtain ⟨hz,hTI,⟨a,b',hTO⟩,h1,h2⟩:=st
  obtain ⟨xs,ys,p1,p2,hl⟩:=hg
  obtain ⟨its1,rv1,k1⟩:=I.seqC p1
  obtain ⟨its2,rv2,k2⟩:=I.seqC p2
  have l1:=rv1.length
  have l2:=rv2.length
  refine vU (I.ok.hd hc) D n1 hz hTI hTO h1 h2 k1 k2 (by simp;trivial) fun h' tk keep=>⟨rfl,I.turnedL (ch:=[z,TO,i1,i2,TI]) (t':=tk) hf fun b o hb q=>?_⟩
  exact keep b o (fun q=>hb (by simp [q])) (fun q=>hb (by simp [q])) (fun q=>hb (by simp [q])) (fun q=>hb (by simp [q])) q
 self:=fun _ _ _ _ _ st h=>wpAny_pyIter_zip st.1 h
def FO (K:PySem.W.Frag) (ta:TA):TI:=fun σ H R=>ta σ H fun vs H1=>lO fun a1 a2 c1 c2=>vs=[.ref a1,.ref a2]∧(∃xs,nH K H1 a1 xs c1)∧(∃ys,nH K H1 a2 ys c2)∧R (FU K a1 a2 c1 c2) H1
theorem Cg:bootBuiltins "zip" = some (.type "zip"):=by nofun
theorem FI {X:Cx}{es:List Expr}{kk:Nat}{tp:Pos}{a b:Expr}{ta:TA}{p pos:Pos} (hg:Gl X "zip") (hm:X.mg "zip" = none) (ha:PA X [a,b] ta) (hs:starEach [a,b] X.env=[(false,eval a X.env),(false,eval b X.env)]:=by rfl) (hs2:starEach [b] X.env=[(false,eval b X.env)]:=by rfl) :
 PI X (.Tuple es kk tp) (.Call (.Name "zip" p) [a,b] [] pos) (FO X.K ta):=by
 intro pins s σ H R I h
 refine Call_ (fY I hg hm Cg (PyProof.Rows.callWith_type1 (aW (ha pos pins s σ H _ I h) fun us s1 ⟨vs,H1,I1,r1,q1⟩=>?_) (by rw [hs,hs2]) (by rw [hs2];rfl)))
 obtain ⟨a1,a2,c1,c2,rfl,⟨xs,p1⟩,⟨ys,p2⟩,q⟩:=q1
 obtain ⟨u1,u2,rfl,ru1,ru2⟩:=r1.two
 obtain rfl:u1=.ref a1:=ru1
 obtain rfl:u2=.ref a2:=ru2
 obtain ⟨its1,rv1,k1⟩:=I1.seqC p1
 obtain ⟨its2,rv2,k2⟩:=I1.seqC p2
 have d1:=k1.lt
 have d2:=k2.lt
 refine AH k1 k2 fun h' hz hTI hTO t1 t2 hk=>wpAny_pyIter_zip hz ?_
 have I2:af X pins σ H1 { s1 with heap:=h',toks:=s1.toks }:=I1.kept hk
 refine ⟨s1.heap.objs.size+4,[s1.heap.objs.size+4,s1.heap.objs.size+3,s1.heap.objs.size,s1.heap.objs.size+1,s1.heap.objs.size+2],_,_,H1,rfl,I2,BX a1 a2 (s1.heap.objs.size+4) (s1.heap.objs.size+2) (s1.heap.objs.size+3) s1.heap.objs.size (s1.heap.objs.size+1) c1 c2
  ⟨by simp,by simp,Nat.ne_of_lt (by simp),by simp,by simp,Nat.ne_of_gt (by simp),by simp,Nat.ne_of_gt (by simp),by simp,Nat.ne_of_lt (by simp)⟩ (fun c hc=>?_),⟨hz,hTI,⟨_,_,hTO⟩,t1,t2⟩,fun b hb=>?_,q⟩
 ·have:c<s1.heap.objs.size:=by rcases hc with rfl | rfl <;> assumption
  exact ⟨Nat.ne_of_lt (Nat.lt_of_lt_of_le this (Nat.le_add_right _ _)),Nat.ne_of_lt (Nat.lt_of_lt_of_le this (Nat.le_add_right _ _)),Nat.ne_of_lt this,Nat.ne_of_lt (Nat.lt_of_lt_of_le this (Nat.le_add_right _ _))⟩
 ·have hb':b=s1.heap.objs.size+4∨b=s1.heap.objs.size+3∨b=s1.heap.objs.size∨b=s1.heap.objs.size+1∨b=s1.heap.objs.size+2:=by simpa using hb
  have hle:s1.heap.objs.size≤b:=by rcases hb' with rfl | rfl | rfl | rfl | rfl <;> trivial
  exact I1.fpOk hle (I1.hok.fresh hle)
def qD:PyData→Bool
 | .list _=>true
 | .tuple _=>true
 | _=>false
theorem gY {K:PySem.W.Frag} (d:PyData):PySem.W.kitAny K (.type (ya d)) [.type "list",.type "tuple"]=some (qD d):=by
 unfold PySem.W.kitAny PySem.W.kitAny PySem.W.kitAny
 rw [xZ,cf]
 cases d <;> rfl
inductive Fy (K:PySem.W.Frag) (xs:List V) (H:Hp) (Q:VK):Prop
 | mk (x:V) (p:Addr) (d:PyData) (E:Addr→Prop) (h0:xs=[x,.ref p]) (h1:bh E H x d) (h2:ak K H p [.ty "list",.ty "tuple"]) (h3:Q (.bl (qD d)) H)
def CQ (K:PySem.W.Frag):List V→Hp→VK→Prop:=fun xs H Q=>Fy K xs H Q
section
variable {X:Cx}{K:PySem.W.Frag}
theorem xw:db X (.builtin "isinstance") (CQ X.K):=by
 intro pins s σ H xs us Q I r h
 obtain ⟨x,p,d,E,rfl,hx,hp,q⟩:=h
 obtain ⟨u,c,rfl,ru,rc⟩:=r.two
 obtain rfl:c=Value.ref p:=rc
 obtain ⟨its,rv,⟨o,e1,e2,n,e3⟩,_⟩:=I.tuple hp
 obtain ⟨u1,u2,rfl,r1,r2⟩:=rv.two
 obtain rfl:u1=Value.type "list" := r1
 obtain rfl:u2=Value.type "tuple" := r2
 have q':∀tk,EP X pins σ Q (.bool (qD d)) { s with toks:=tk }:=fun tk=>⟨.bl _,H,I.tok tk,rfl,q⟩
 obtain ⟨oc,od,odt,osl⟩:=o
 dsimp only at e2 e3
 subst e2 e3
 cases hx with
 | non=>cases (show u=Value.none from ru);exact PySem.W.kia_tup PySem.W.kitx_none I.kIn True.intro e1 (gY .none) (fun z=>nomatch z) q'
 | bl y=>cases (show u=Value.bool y from ru);exact PySem.W.kia_tup PySem.W.kitx_bool I.kIn True.intro e1 (gY (.bool y)) (fun z=>nomatch z) q'
 | int i=>obtain ⟨t,w⟩:=(show ∃t,u=Value.int i t from ru);cases w;exact PySem.W.kia_tup PySem.W.kitx_int I.kIn True.intro e1 (gY (.int i)) (fun z=>nomatch z) q'
 | str y=>obtain ⟨t,w⟩:=(show ∃t,u=Value.str y t from ru);cases w;exact PySem.W.kia_tup PySem.W.kitx_str I.kIn True.intro e1 (gY (.str y)) (fun z=>nomatch z) q'
 | @lst a xs ds ea _ _=>
  cases (show u=Value.ref a from ru)
  obtain ⟨_,_,m,_,h1⟩:=(show cv X.prog X.w H s.heap a (.lst xs) from I.hok a _ ea)
  exact PySem.W.kia_tup PySem.W.kitx_list I.kIn ⟨_,h1,rfl⟩ e1 (gY (.list ds)) (fun z=>nomatch z) q'
 | @tup a xs ds ea _=>
  cases (show u=Value.ref a from ru)
  obtain ⟨_,_,_,p,_⟩:=(show cv X.prog X.w H s.heap a (.tup xs) from I.hok a _ ea)
  obtain ⟨o,h1,h2,_⟩:=p
  exact PySem.W.kia_tup PySem.W.kitx_tuple I.kIn ⟨o,h1,h2⟩ e1 (gY (.tuple ds)) (fun z=>nomatch z) q'
theorem AU (e:X.K=K:=by rfl):db X (.builtin "isinstance") (CQ K):=by subst e;exact xw
end
def Sz (m:Nat) (i:Int):Prop:=i.natAbs<2 ^ m
theorem Sz.mono {m n:Nat}{i:Int} (h:Sz m i) (k:m≤n):Sz n i:=Nat.lt_of_lt_of_le h (Nat.pow_le_pow_right (by decide) k)
theorem Sz.le {m:Nat}{i j:Int} (h:Sz m j) (k:i.natAbs≤j.natAbs):Sz m i:=Nat.lt_of_le_of_lt k h
theorem Sz.log {m:Nat}{i:Int} (h:Sz m i) (h0:i≠0):i.natAbs.log2<m:=(Nat.log2_lt (by trivial)).mpr h
theorem Sz.bits {m:Nat}{i:Int} (h:Sz m i):Builtin.Int.intBits i≤m:=by
 unfold Builtin.Int.intBits
 by_cases h0:i=0
 ·subst h0;exact Nat.zero_le _
 ·have:=h.log h0
  rw [if_neg (by simpa using h0)]
  trivial
def Dh (i j:Int):Prop:=cj fun m n=>Sz m i∧Sz n j∧m+n≤134217728
section
variable {X:Cx}
theorem ze:cn X (binaryOp .Mult) (rI Dh fun i j=>.int (i*j)):=wJ fun _ _ _ _ _ _ _ hc q=>by
 obtain ⟨m,n,h1,h2,h3⟩:=hc
 exact mul_int q (PyProof.Rows.mulOk_of_bits h1.bits h2.bits h3)
end
theorem oK {H H':Hp}{D:Addr}{o:HO} (hD:H D=none) (k:ad H H'):ad H (bN H' D o):=fun b u e=>by
 rw [aT (bc e hD)];exact k b u e
theorem ar.weak {E:Addr→Prop}{b:Addr}{H H':Hp} (hE:E b) (s:ar (Eb b) H H'):ar E H H':=⟨fun a o n h=>s.old a o (fun z=>n (by rw [z];exact hE)) h,s.tup⟩
theorem ar.free {b p:Addr}{H H9:Hp}{t9:Int} (s:ar (Eb b) H H9) (B:Bx H9 b t9) (h:H9 p=none):H p=none:=by
 cases e:H p with
 | none=>rfl
 | some o=>
  by_cases hb:p=b
  ·obtain ⟨c,x,eb,_⟩:=B
   rw [←hb,h] at eb;cases eb
  ·rw [s.old p o hb e] at h;cases h
mutual
theorem bh.narrow {E F:Addr→Prop}{H:Hp} (k:∀a,F a→E a):∀{v:V}{d:PyData},bh E H v d→bh F H v d
 | _,_,.non=>.non
 | _,_,.bl b=>.bl b
 | _,_,.int i=>.int i
 | _,_,.str x=>.str x
 | _,_,.lst h ne r=>.lst h (fun z=>ne (k _ z)) (aG.narrow k r)
 | _,_,.tup h r=>.tup h (aG.narrow k r)
theorem aG.narrow {E F:Addr→Prop}{H:Hp} (k:∀a,F a→E a):∀{vs:List V}{ds:List PyData},aG E H vs ds→aG F H vs ds
 | _,_,.nil=>.nil
 | _,_,.cons h r=>.cons (bh.narrow k h) (aG.narrow k r)
end
abbrev fr (z:Int×Int):HO:=.tup [.int z.1,.int z.2]
def zx (i j:Int):Int:=if i<j then -1 else if j<i then 1 else 0
inductive E5 (vs:List V) (H:Hp) (Q:VK):Prop
 | mk (a b:Addr) (n1 d1 n2 d2:Int) (h0:vs=[.ref a,.ref b]) (h1:H a=some (.tup [.int n1,.int d1])) (h2:H b=some (.tup [.int n2,.int d2])) (h3:Sz 4000 n1) (h4:Sz 4000 d1) (h5:Sz 4000 n2) (h6:Sz 4000 d2) (h7:Q (.int (zx (n1*d2) (n2*d1))) H)
def GW:Sp:=fun vs H Q _=>E5  vs H Q
theorem Gs {i j:Int} (h1:Sz 4000 i) (h2:Sz 4000 j):Dh i j:=⟨4000,4000,h1,h2,by decide⟩
structure Fb (b:Nat) (n d:Int):Prop where
 sn:Sz b n
 sd:Sz b d
 pos:1≤d
 co:Int.gcd n d=1
theorem Fb.low {b:Nat}{n d:Int} (h1:Sz b n) (h2:Sz b d) (hd:d≠0):Fb b (KM.low n d).1 (KM.low n d).2:=by
 obtain ⟨a,_,c,e,f⟩:=KM.low_spec n d hd
 exact ⟨h1.le e,h2.le f,a,c⟩
structure Nw (H:Hp) (p:Addr) (o:HO) (H':Hp):Prop where
 fr:H p=none
 sm:ad H H'
 at':H' p=some o
theorem Nw.mk' {H:Hp}{p:Addr}{o:HO} (h:H p=none):Nw H p o (bN H p o):=⟨h,ad.new h,bf⟩
section
variable {X:Cx}{es:List Expr}{t:TA}{pos:Pos}{K:PySem.W.Frag}
def ir (t:TA):TE:=fun σ H Q=>t σ H fun xs H1=>xs.length≤10000∧∀p H',Nw H1 p (.tup xs) H'→Q (.ref p) H'
def ww (t:TA):TE:=fun σ H Q=>t σ H fun xs H1=>xs.length≤10000∧∀p H',Nw H1 p (.lst xs) H'→Q (.ref p) H'
theorem iB {n:Nat} (h:n≤10000):n≤sizeLine:=by rw [sizeLine_eq];trivial
theorem ae {x1} (h:PA X es t):PE X (.Tuple es x1 pos) (ir t):=by
 intro pins s σ H Q I hq
 refine wpAny_Tuple_spliced (aW (h pos pins s σ H _ I hq) fun us s1 ⟨xs,H1,I1,r,z',q⟩=>⟨by rw [←r.length];exact iB z',?_⟩)
 have z:=iB z'
 have hf:H1 s1.heap.objs.size=none:=I1.hok.fresh (Nat.le_refl _)
 refine ⟨.ref s1.heap.objs.size,bN H1 s1.heap.objs.size (.tup xs),I1.laid (t':=s1.toks) (fun b u e=>Heap.get?_push_of_some _ e) (Nat.le_refl _) ?_,rfl,q _ _ (.mk' hf)⟩
 exact ⟨z,us,r,⟨_,Heap.get?_push_size _ rfl,rfl,()⟩,_,Heap.get?_push_size _ rfl,rfl⟩
theorem bU (h:PA X es t):PE X (.List es pos) (ww t):=by
 intro pins s σ H Q I hq
 refine wpAny_List_spliced (aW (h pos pins s σ H _ I hq) fun us s1 ⟨xs,H1,I1,r,z',q⟩=>⟨by rw [←r.length];exact iB z',?_⟩)
 have z:=iB z'
 have hf:H1 s1.heap.objs.size=none:=I1.hok.fresh (Nat.le_refl _)
 refine ⟨.ref s1.heap.objs.size,bN H1 s1.heap.objs.size (.lst xs),I1.laid (t':=s1.toks) (fun b u e=>Heap.get?_push_of_some _ e) (Nat.le_refl _) ?_,rfl,q _ _ (.mk' hf)⟩
 exact ⟨z,us,0,r,Heap.get?_push_size _ rfl⟩
inductive FE (x:V) (y:V) (H:Hp) (Q:VK):Prop
 | mk (l:_) (b:_) (xs:_) (zs:_) (h0:x=.ref l) (h1:y=.ref b) (h2:H l=some (.lst xs)) (h3:H b=some (.lst zs)) (h4:xs.length+zs.length≤10000) (h5:∀p H',Nw H p (.lst (xs++zs)) H'→Q (.ref p) H')
def As:R2:=fun x y H Q=>FE  x y H Q
theorem jN:cn X (binaryOp .Add) As:=fun pins s σ H x y v u Q I rx ry ⟨l,b,xs,zs,e1,e2,h1,h2,hz,q⟩=>
 Fe pins s σ H x y v u Q I rx ry ⟨l,b,xs,zs,e1,e2,h1,h2,iB hz,fun p hp=>q p _ (.mk' hp)⟩
inductive GL (K:PySem.W.Frag) (x:V) (lo:Option Int) (hi:Option Int) (H:Hp) (Q:VK):Prop
 | mk (a:_) (xs:_) (h0:x=.ref a) (h1:aE K H a xs) (h2:∀p H',Nw H p (.lst (cS xs lo hi)) H'→Q (.ref p) H')
def Io (K:PySem.W.Frag):V→Option Int→Option Int→Hp→VK→Prop:=fun x lo hi H Q=>GL K x lo hi H Q
theorem oE (e:X.K=K:=by rfl):xm X (Io K):=by
 subst e
 exact fun pins s σ H x v vl vu lo hi sl Q I rx hs pl pu ⟨a,xs,e,h,q⟩=>Dt pins s σ H x v vl vu lo hi sl Q I rx hs pl pu ⟨a,xs,e,h,fun p hp=>q p _ (.mk' hp)⟩
inductive ET (K:PySem.W.Frag) (xs:List V) (H:Hp) (Q:VK):Prop
 | mk (p:_) (ys:_) (h0:xs=[.ref p]) (h1:(aE K H p ys∨ak K H p ys)) (h2:∀l H',Nw H l (.lst ys) H'→Q (.ref l) H')
def Av (K:PySem.W.Frag):List V→Hp→VK→Prop:=fun xs H Q=>ET K xs H Q
theorem fX (e:X.K=K:=by rfl):db X (.type "list") (Av K):=by
 subst e
 exact fun pins s σ H xs us Q I r ⟨p,ys,e,h,q⟩=>wX pins s σ H xs us Q I r ⟨p,ys,e,h,fun l hl=>q l _ (.mk' hl)⟩
inductive CG (K:PySem.W.Frag) (xs:List V) (H:Hp) (Q:VK):Prop
 | mk (p:_) (ys:_) (h0:xs=[.ref p]) (h1:aE K H p ys) (h2:∀l H',Nw H l (.tup ys) H'→Q (.ref l) H')
def DR (K:PySem.W.Frag):List V→Hp→VK→Prop:=fun xs H Q=>CG K xs H Q
theorem dh (e:X.K=K:=by rfl):db X (.type "tuple") (DR K):=by
 subst e
 exact fun pins s σ H xs us Q I r ⟨p,ys,e,h,q⟩=>vT pins s σ H xs us Q I r ⟨p,ys,e,.inl ⟨h,fun l hl=>q l _ (.mk' hl)⟩⟩
end
structure Ch (H:Hp) (p:Addr) (xs:List V) (H':Hp):Prop where
 at':H' p=some (.lst xs)
 ol:∀a o,a≠p→H a=some o→H' a=some o
 fre:∀a,a≠p→H a=none→H' a=none
theorem Ch.mk' {H:Hp}{p:Addr}{xs:List V}:Ch H p xs (bN H p (.lst xs)):=⟨bf,fun a o n h=>by rw [aT n];exact h,fun a n h=>by rw [aT n];exact h⟩
theorem Ch.tup {H H':Hp}{p a:Addr}{xs ys zs:List V} (c:Ch H p xs H') (h:H a=some (.tup ys)) (hp:H p=some (.lst zs)):H' a=some (.tup ys):=c.ol a _ (zY h hp (by intro z;cases z)) h
section
variable {X:Cx}
inductive Gp (o:V) (i:V) (v:V) (H:Hp) (Q:(Hp→Prop)):Prop
 | mk (p:_) (xs:_) (k:_) (j:_) (h0:o=.ref p) (h1:i=.int k) (h2:H p=some (.lst xs)) (h3:nK xs.length k=some j) (h4:∀H',Ch H p (xs.set j v) H'→Q H')
def HK:V→V→V→Hp→(Hp→Prop)→Prop:=fun o i v H Q=>Gp  o i v H Q
theorem AG:CK X HK:=fun pins s σ H o i v ov iv u Q I ro ri rv ⟨p,xs,k,j,e1,e2,h,hj,q⟩=>sk pins s σ H o i v ov iv u Q I ro ri rv ⟨p,xs,k,j,e1,e2,h,hj,q _ .mk'⟩
inductive Fj (x:V) (vs:List V) (H:Hp) (Q:VK):Prop
 | mk (l:_) (xs:_) (y:_) (h0:x=.ref l) (h1:vs=[y]) (h2:H l=some (.lst xs)) (h3:xs.length≤10000) (h4:∀H',Ch H l (xs++[y]) H'→Q .non H')
def Dn:V→List V→Hp→VK→Prop:=fun x vs H Q=>Fj  x vs H Q
theorem cU:Dg X "list.append" Dn:=fun pins s σ H x vs v us Q I rx rv ⟨l,xs,y,e1,e2,h,hz,q⟩=>vg pins s σ H x vs v us Q I rx rv ⟨l,xs,y,e1,e2,h,(by rw [sizeLine_eq];trivial),q _ .mk'⟩
end
theorem Fb.small {b:Nat}{n d:Int} (h1:n.natAbs<2 ^ b) (h2:d.natAbs<2 ^ b) (h3:1≤d) (h4:Int.gcd n d=1):Fb b n d:=⟨h1,h2,h3,h4⟩
theorem Bx.ch {H H':Hp}{b p:Addr}{t:Int}{xs:List V} (h:Bx H b t) (k:Ch H p xs H') (ne:b≠p):Bx H' b t:=by
 obtain ⟨c,x,e,q,q2,q3⟩:=h
 exact ⟨c,x,k.ol b _ ne e,q,q2,q3⟩
theorem Bx.ne {H:Hp}{b p:Addr}{t:Int} (h:Bx H b t) (hp:H p=none):b≠p:=fun z=>by
 obtain ⟨c,x,e,_⟩:=h
 rw [z,hp] at e;cases e
section
variable {X:Cx}{e:Expr}{te:TE}{st:Expr}{ts:TO}{p2 pos:Pos}{K:PySem.W.Frag}
theorem aH.rev {xs:List V}{us:List Value} (h:aH xs us):aH xs.reverse us.reverse:=by
 induction h with
 | nil=>exact .nil
 | cons h _ ih=>rw [List.reverse_cons,List.reverse_cons];exact ih.append (.cons h .nil)
end
def S (l:List Nat):Str:=⟨l.toArray⟩
theorem zw {a b:List Nat} (h:S a=S b):a=b:=by
 have:a.toArray=b.toArray:=by injection h
 simpa using this
theorem sM (a b:List Nat):S a++S b=S (a++b):=by
 show (⟨a.toArray++b.toArray⟩:Str)=⟨(a++b).toArray⟩
 simp
theorem fq (a:List Nat):(S a).length=a.length:=by
 show a.toArray.size=_
 simp
theorem tM (a:List Nat):(S a).cps.toList=a:=rfl
theorem AL (k:Nat) (l:List Nat):∀acc:List Nat,(List.replicate k l.toArray).foldl (·++·) acc.toArray=(acc++(List.replicate k l).flatten).toArray:=by
 induction k with
 | zero=>intro acc;simp
 | succ k ih=>
  intro acc
  rw [List.replicate_succ,List.foldl_cons,List.replicate_succ,List.flatten_cons]
  have:acc.toArray++l.toArray=(acc++l).toArray:=by simp
  rw [this,ih,List.append_assoc]
theorem vo:∀ls:List (List Nat),Str.join (S []) (ls.map S)=S ls.flatten
 | []=>rfl
 | [a]=>by
  show S a=S (a++[])
  rw [List.append_nil]
 | a :: b :: r=>by
  have e:Str.join (S []) ((a :: b :: r).map S)=S a++S []++Str.join (S []) ((b :: r).map S):=rfl
  rw [e,vo (b :: r),sM,sM,List.append_nil]
  rfl
section
variable {X:Cx}{K:PySem.W.Frag}
inductive F6 (x:V) (y:V) (H:Hp) (Q:VK):Prop
 | mk (l:_) (n:_) (h0:x=.str (S l)) (h1:y=.int n) (h2:1≤n) (h3:n≤1000) (h4:l.length≤100) (h5:Q (.str (S (List.replicate n.toNat l).flatten)) H)
def Hv:R2:=fun x y H Q=>F6  x y H Q
theorem Eh:cn X (binaryOp .Mult) Hv:=by
 intro pins s σ H x y v u Q I rx ry h
 obtain ⟨l,n,rfl,rfl,h1,h2,h3,q⟩:=h
 obtain ⟨t,rfl⟩:=rx
 obtain ⟨t',rfl⟩:=ry
 have hlen:(S l).length=l.length:=fq l
 have hmul:l.length*n.toNat≤100*1000:=Nat.mul_le_mul h3 (by trivial)
 refine PySem.P.mul_str ?_ ?_ ?_ ?_
 ·rw [decide_eq_false (by trivial),decide_eq_false (by trivial)];rfl
 ·intro _ _
  rw [hlen]
  have:(100:Int)<(2 ^ 63 - 1) / n:=by
   have:(100+1)*n≤2 ^ 63 - 1:=by trivial
   have:=(Int.le_ediv_iff_mul_le (by trivial:0<n)).mpr this
   trivial
  trivial
 ·intro _ _
  rw [hlen]
  unfold Builtin.Str.tooLong
  rw [decide_eq_false]
  rw [sizeLine_eq]
  trivial
 ·rw [if_neg (by trivial)]
  by_cases hn:(n==1 || (S l).length==0)=true
  ·rw [if_pos hn]
   refine ⟨.str (S l),H,I,⟨t,rfl⟩,?_⟩
   have e:(List.replicate n.toNat l).flatten=l:=by
    rw [hlen] at hn
    have hn':n=1∨l.length=0:=by simpa using hn
    rcases hn' with rfl | hn'
    ·simp
    ·have:l=[]:=List.eq_nil_of_length_eq_zero hn'
     subst this
     simp
   rw [e] at q
   exact q
  ·rw [if_neg hn]
   have e:(⟨(List.replicate n.toNat (S l).cps).foldl (·++·) #[]⟩:Str)=S (List.replicate n.toNat l).flatten:=by
    have e:=AL n.toNat l []
    rw [List.nil_append] at e
    exact congrArg Str.mk e
   rw [e]
   refine ⟨?_,.str (S (List.replicate n.toNat l).flatten),H,I.tok _,⟨()⟩,q⟩
   rw [fq,Ey,sizeLine_eq,Nat.mul_comm]
   trivial
inductive Fx (K:PySem.W.Frag) (x:V) (vs:List V) (H:Hp) (Q:VK):Prop
 | mk (a:_) (ls:_) (h0:x=.str (S [])) (h1:vs=[.ref a]) (h2:aE K H a ((ls:List (List Nat)).map fun l=>V.str (S l))) (h3:(ls.map (·.length)).sum≤10000) (h4:Q (.str (S ls.flatten)) H)
def GO (K:PySem.W.Frag):V→List V→Hp→VK→Prop:=fun x vs H Q=>Fx K x vs H Q
theorem A0 {ls:List (List Nat)}:∀{us:List Value},aH (ls.map fun l=>V.str (S l)) us→StrsAre us (ls.map S):=by
 induction ls with
 | nil=>intro us h;cases h;exact .nil
 | cons l r ih=>
  intro us h
  cases h with
  | cons h t=>
   obtain ⟨tk,rfl⟩:=h
   exact .cons _ _ (ih t)
theorem DG (ek:X.K=K:=by rfl):yB X "str.join" (GO K):=by
 subst ek
 intro pins s σ H x vs v us Q I rx rv h
 obtain ⟨a,ls,rfl,rfl,hS,hz,q⟩:=h
 obtain ⟨t,rfl⟩:=rx
 obtain ⟨u,rfl,ru⟩:=rv.one
 obtain rfl:u=Value.ref a:=ru
 obtain ⟨its,r,ht,_⟩:=I.list hS
 have e1:((ls.map S).map (·.length)).sum=(ls.map (·.length)).sum:=by
  rw [List.map_map]
  congr 1
 refine join_list (ys:=ls.map S) ht.isList (by simpa using A0 r) ?_ fun t' k=>?_
 ·rw [e1,show (S []).length=0 from rfl]
  trivial
 ·have:=join_plain_closes (S []) (ls.map S)
  rw [eq_of_beq this,vo]
  exact ⟨.str (S ls.flatten),H,I.tok k,⟨()⟩,q⟩
inductive FQ (x:V) (y:V) (H:Hp) (Q:VK):Prop
 | mk (a:_) (b:_) (h0:x=.str (S a)) (h1:y=.str (S b)) (h2:a.length+b.length≤10000) (h3:Q (.str (S (a++b))) H)
def Hu:R2:=fun x y H Q=>FQ  x y H Q
theorem zd:cn X (binaryOp .Add) Hu:=fun pins s σ H x y v u Q I rx ry ⟨a,b,e1,e2,hz,q⟩=>
 zM pins s σ H x y v u Q I rx ry ⟨S a,S b,e1,e2,by rw [fq,fq];exact iB hz,by rw [sM];exact q⟩
end
theorem zS:Str.ofString "abcdefghijklmnopqrstuvwxyz" = S ((List.range 26).map (97+·)):=by nofun
theorem BZ:Str.ofString "" = S []:=by nofun
theorem p9 {i:Int} (h0:-26≤i) (h1:i<26):gj ((Str.ofString "abcdefghijklmnopqrstuvwxyz").cps.toList) i=some (97+(i % 26).toNat):=by
 rw [zS,tM]
 have:∀k:Fin 52,gj ((List.range 26).map (97+·)) ((k.val:Int) - 26)=some (97+(((k.val:Int) - 26) % 26).toNat):=by nofun
 have e:=this ⟨(i+26).toNat,by trivial⟩
 simp only at e
 rw [show (((i+26).toNat:Nat):Int) - 26=i by trivial] at e
 exact e
theorem FN {f:Int}{j k:Nat} (hj:j<26) (hk:k<26) (h:(f+11*(j:Int)) % 26=(f+11*(k:Int)) % 26):j=k:=by trivial
structure pf (l:List Nat):Prop where
 lo:1≤l.length
 hi:l.length≤8
 az:∀c∈l,97≤c∧c≤122
abbrev b8 (l:List Nat):V:=.str (S l)
theorem Im (n c:Nat):(List.replicate n [c]).flatten=List.replicate n c:=by
 induction n with
 | zero=>rfl
 | succ n ih=>rw [List.replicate_succ,List.flatten_cons,ih,List.replicate_succ];rfl
theorem iR {xs:List V}{m:Int} (h:0≤m):cS xs none (some m)=xs.take m.toNat:=by
 unfold cS
 have e:m=((m.toNat:Nat):Int):=by trivial
 rw [HT.sIx_none,e,HT.sIx_nat]
 simp only [Int.toNat_natCast,List.drop_zero,Nat.sub_zero]
 by_cases hm:m.toNat≤xs.length
 ·rw [Nat.min_eq_left hm]
 ·rw [Nat.min_eq_right (by trivial),List.take_of_length_le (Nat.le_refl _),List.take_of_length_le (by trivial)]
theorem ar.ch {b D:Addr}{H H1 H2:Hp}{xs:List V} (s:ar (Eb b) H H1) (c:Ch H1 D xs H2) (hD:H D=none):ar (Eb b) H H2:=
 ⟨fun a u ne h=>c.ol a u (bc h hD) (s.old a u ne h),fun a us h=>c.ol a _ (bc h hD) (s.tup a us h)⟩
theorem ar.up {b D:Addr}{H H1:Hp}{o:HO} (s:ar (Eb b) H H1) (hD:H D=none):ar (Eb b) H (bN H1 D o):=
 ⟨fun a u ne h=>by rw [aT (bc h hD)];exact s.old a u ne h,fun a us h=>by rw [aT (bc h hD)];exact s.tup a us h⟩
def jQ (x:Str):Prop:=x.length≤300∧∀c∈x.cps.toList,c<128
mutual
inductive Wt:PyData→Nat→Nat→Prop
 | non {k:Nat}:Wt .none 1 k
 | bl (b:Bool) {k:Nat}:Wt (.bool b) 1 k
 | int {i:Int} (h:Sz 1900 i) {k:Nat}:Wt (.int i) 1 k
 | str {x:Str} (h:jQ x) {k:Nat}:Wt (.str x) 1 k
 | list {xs:List PyData}{n k:Nat} (h:cu xs n k):Wt (.list xs) (n+1) (k+1)
 | tuple {xs:List PyData}{n k:Nat} (h:cu xs n k):Wt (.tuple xs) (n+1) (k+1)
inductive cu:List PyData→Nat→Nat→Prop
 | nil {k:Nat}:cu [] 0 k
 | cons {x:PyData}{xs:List PyData}{m n k:Nat} (h:Wt x m k) (r:cu xs n k):cu (x :: xs) (m+n) k
end
mutual
theorem Wt.deep:∀{d:PyData}{n k:Nat},Wt d n k→∀{l:Nat},k≤l→Wt d n l
 | _,_,_,.non,_,_=>.non
 | _,_,_,.bl b,_,_=>.bl b
 | _,_,_,.int h,_,_=>.int h
 | _,_,_,.str h,_,_=>.str h
 | _,_,_,.list h,l,hl=>by
  obtain ⟨m,rfl⟩:∃m,l=m+1:=⟨l - 1,by trivial⟩
  exact .list (cu.deep h (by trivial))
 | _,_,_,.tuple h,l,hl=>by
  obtain ⟨m,rfl⟩:∃m,l=m+1:=⟨l - 1,by trivial⟩
  exact .tuple (cu.deep h (by trivial))
theorem cu.deep:∀{ds:List PyData}{n k:Nat},cu ds n k→∀{l:Nat},k≤l→cu ds n l
 | _,_,_,.nil,_,_=>.nil
 | _,_,_,.cons h r,_,hl=>.cons (Wt.deep h hl) (cu.deep r hl)
end
theorem Wt.pos {d:PyData}{n k:Nat} (h:Wt d n k):1≤n:=by cases h <;> trivial
mutual
theorem Wt.dep:∀{d:PyData}{n k:Nat},Wt d n k→d.depth≤k
 | _,_,_,.non=>by simp [PyData.depth]
 | _,_,_,.bl b=>by simp [PyData.depth]
 | _,_,_,.int h=>by simp [PyData.depth]
 | _,_,_,.str h=>by simp [PyData.depth]
 | _,_,_,.list h=>by simp only [PyData.depth];exact Nat.succ_le_succ (cu.dep h)
 | _,_,_,.tuple h=>by simp only [PyData.depth];exact Nat.succ_le_succ (cu.dep h)
theorem cu.dep:∀{ds:List PyData}{n k:Nat},cu ds n k→PyData.depthAll ds≤k
 | _,_,_,.nil=>by simp [PyData.depthAll]
 | _,_,_,.cons h r=>by simp only [PyData.depthAll];exact Nat.max_le.mpr ⟨Wt.dep h,cu.dep r⟩
end
mutual
theorem Wt.sho:∀{d:PyData}{n k:Nat},Wt d n k→d.showable=true
 | _,_,_,.non=>by simp [PyData.showable]
 | _,_,_,.bl b=>by simp [PyData.showable]
 | _,_,_,.int (i:=i) h=>by
  simp only [PyData.showable,decide_eq_true_iff]
  by_cases h0:i=0
  ·subst h0;decide
  ·exact Nat.lt_trans (h.log h0) (by decide)
 | _,_,_,.str h=>by simp [PyData.showable]
 | _,_,_,.list h=>by simp only [PyData.showable];exact cu.sho h
 | _,_,_,.tuple h=>by simp only [PyData.showable];exact cu.sho h
theorem cu.sho:∀{ds:List PyData}{n k:Nat},cu ds n k→PyData.showableAll ds=true
 | _,_,_,.nil=>by simp [PyData.showableAll]
 | _,_,_,.cons h r=>by simp only [PyData.showableAll,Bool.and_eq_true];exact ⟨Wt.sho h,cu.sho r⟩
end
mutual
theorem Wt.nod:∀{d:PyData}{n k:Nat},Wt d n k→d.hasDict=false
 | _,_,_,.non=>by simp [PyData.hasDict]
 | _,_,_,.bl b=>by simp [PyData.hasDict]
 | _,_,_,.int h=>by simp [PyData.hasDict]
 | _,_,_,.str h=>by simp [PyData.hasDict]
 | _,_,_,.list h=>by simp only [PyData.hasDict];exact cu.nod h
 | _,_,_,.tuple h=>by simp only [PyData.hasDict];exact cu.nod h
theorem cu.nod:∀{ds:List PyData}{n k:Nat},cu ds n k→PyData.hasDictAll ds=false
 | _,_,_,.nil=>by simp [PyData.hasDictAll]
 | _,_,_,.cons h r=>by simp only [PyData.hasDictAll,Bool.or_eq_false_iff];exact ⟨Wt.nod h,cu.nod r⟩
end
mutual
theorem Wt.len:∀{d:PyData}{n k:Nat},Wt d n k→d.shown.length+2≤3010*n
 | _,_,_,.non=>by
  rw [PyData.shown]
  decide +kernel
 | _,_,_,.bl b=>by
  rw [PyData.shown]
  cases b <;> decide +kernel
 | _,_,_,.int (i:=i) h=>by
  rw [PyData.shown]
  have hl:i.natAbs.log2<1920:=by
   by_cases h0:i=0
   ·subst h0;decide
   ·exact Nat.lt_trans (h.log h0) (by decide)
  have:=int_text_len_1921 hl
  trivial
 | _,_,_,.str (x:=x) h=>by
  rw [PyData.shown]
  have:=PySem.StrLaws.reprText_len x (fun c hc=>Nat.lt_trans (h.2 c hc) (by decide))
  have:=h.1
  trivial
 | _,_,_,.list (xs:=xs) (n:=n) h=>by
  rw [PyData.shown]
  have h1:=listText_len_le (PyData.shownAll xs)
  have h2:=cu.len h
  trivial
 | _,_,_,.tuple (xs:=xs) (n:=n) h=>by
  rw [PyData.shown]
  have h1:=tupleText_len_le (PyData.shownAll xs)
  have h2:=cu.len h
  trivial
theorem cu.len:∀{ds:List PyData}{n k:Nat},cu ds n k→((PyData.shownAll ds).map (·.length)).sum+2*(PyData.shownAll ds).length≤3010*n
 | _,_,_,.nil=>by simp [PyData.shownAll]
 | _,_,_,.cons (x:=x) (xs:=xs) (m:=m) (n:=n) h r=>by
  rw [PyData.shownAll,List.map_cons,List.sum_cons,List.length_cons]
  have h1:=Wt.len h
  have h2:=cu.len r
  have h3:=h.pos
  trivial
end
end L2
namespace L2
open PySem PySem.Spec PyProof.Rows
mutual
theorem Wt.can:∀{d:PyData}{n k:Nat},Wt d n k→d.canLay0=true
 | _,_,_,.non=>by simp [PyData.canLay0]
 | _,_,_,.bl b=>by simp [PyData.canLay0]
 | _,_,_,.int h=>by simp [PyData.canLay0]
 | _,_,_,.str (x:=x) h=>by
  simp only [PyData.canLay0]
  unfold PySem.PyData.strOk
  rw [Array.all_eq_true]
  intro i hi
  have:=h.2 x.cps[i] (by simp)
  simp
  trivial
 | _,_,_,.list h=>by simp only [PyData.canLay0];exact cu.can h
 | _,_,_,.tuple h=>by simp only [PyData.canLay0];exact cu.can h
theorem cu.can:∀{ds:List PyData}{n k:Nat},cu ds n k→PyData.canLayAll0 ds=true
 | _,_,_,.nil=>by simp [PyData.canLayAll0]
 | _,_,_,.cons h r=>by simp only [PyData.canLayAll0,Bool.and_eq_true];exact ⟨Wt.can h,cu.can r⟩
end
section
variable {X:Cx}
inductive HM (ne:Bool) (x:V) (y:V) (H:Hp) (Q:VK):Prop
 | mk (d e:PyData) (E F:Addr→Prop) (m n k l:Nat) (h0:bh E H x d) (h1:bh F H y e) (h2:Wt d m k) (h3:Wt e n l) (h4:k≤60) (h5:Q (.bl (if ne then !PyData.eqv d e else PyData.eqv d e)) H)
def Fa (ne:Bool):R2:=fun x y H Q=>HM ne x y H Q
theorem qg (hu:X.A.units+64<cLine):cn X (compareOp .Eq) (Fa false):=by
 intro pins s σ H x y v u Q I rx ry h
 obtain ⟨d,e,E,F,m,n,k,l,hd,he,wd,we,hk,q⟩:=h
 obtain ⟨as,ra⟩:=hd.reads I.hok rx
 obtain ⟨bs,rb⟩:=he.reads I.hok ry
 exact PySem.SeqAt.compareEq_reads ra rb wd.can we.can (by have:=wd.dep;trivial) ⟨.bl _,H,I,rfl,q⟩
theorem Gw (hu:X.A.units+64<cLine):cn X (compareOp .NotEq) (Fa true):=by
 intro pins s σ H x y v u Q I rx ry h
 obtain ⟨d,e,E,F,m,n,k,l,hd,he,wd,we,hk,q⟩:=h
 obtain ⟨as,ra⟩:=hd.reads I.hok rx
 obtain ⟨bs,rb⟩:=he.reads I.hok ry
 exact PySem.SeqAt.compareNe_reads ra rb wd.can we.can (by have:=wd.dep;trivial) ⟨.bl _,H,I,rfl,q⟩
inductive F4 (xs:List V) (H:Hp) (Q:VK):Prop
 | mk (a:Addr) (d:PyData) (E:Addr→Prop) (n k:Nat) (h0:xs=[.ref a]) (h1:bh E H (.ref a) d) (h2:Wt d n k) (h3:n≤5500) (h4:k≤50) (h5:Q (.str d.shown) H)
def HX:List V→Hp→VK→Prop:=fun xs H Q=>F4  xs H Q
end
abbrev ED:Addr→Prop:=fun _=>True
abbrev fh (p:KM.Fra):PyData:=.tuple [.int p.1,.int p.2]
theorem rG {H:Hp}{o:Addr}{p:KM.Fra} (h:H o=some (.tup [.int p.1,.int p.2])):bh ED H (.ref o) (fh p):=.tup h (.cons (.int _) (.cons (.int _) .nil))
theorem yZ {E:Addr→Prop}{H:Hp}{v:V}{p:KM.Fra} (h:bh E H v (fh p)):∃o,v=.ref o∧H o=some (.tup [.int p.1,.int p.2]):=by
 cases h with
 | @tup a xs _ h r=>
  cases r with
  | cons h1 r=>
  cases r with
  | cons h2 r=>
  cases r
  cases h1
  cases h2
  exact ⟨a,rfl,h⟩
theorem qx {l:List Nat} (h:pf l):jQ (S l):=⟨by rw [fq];have:=h.hi;trivial,fun c hc=>by have:=h.az c hc;trivial⟩
theorem GQ {p:KM.Fra}{b:Nat} (h:Fb b p.1 p.2) (hb:b≤1900):Wt (fh p) 3 1:=.tuple (.cons (.int (h.sn.mono hb)) (.cons (.int (h.sd.mono hb)) .nil))
end L2
namespace L2
open PySem PySem.Spec PyProof.Rows
end L2
namespace L2
theorem AD {α:Type}{ls:List α} (h:ls.Nodup) {i j:Nat} (hi:i<ls.length) (hj:j<ls.length) (e:ls[i]=ls[j]):i=j:=by
 have p:=List.pairwise_iff_getElem.mp h
 rcases Nat.lt_trichotomy i j with q | q | q
 ·exact absurd e (p i j hi hj q)
 ·exact q
 ·exact absurd e.symm (p j i hj hi q)
end L2
namespace L2
open PySem PySem.Spec PyProof.Rows
theorem IZ {c:Bool}{ta tb:TE}{σ:St}{H:Hp}{Q:VK} (I:V→Hp→Prop) (rest:∀v H',I v H'→Q v H') (h1:c=true→(∀v H',I v H'→Q v H')→ta σ H Q) (h2:c=false→(∀v H',I v H'→Q v H')→tb σ H Q) :
 if c=true then ta σ H Q else tb σ H Q:=by
 cases c with
 | true=>exact aa (h1 rfl rest)
 | false=>exact ah (h2 rfl rest)
end L2
namespace L2
end L2
namespace L2
open PySem PySem.Spec PyProof.Rows
theorem aG.take {E:Addr→Prop}{H:Hp}:∀{xs:List V}{ds:List PyData} (n:Nat),aG E H xs ds→aG E H (xs.take n) (ds.take n)
 | _,_,0,_=>by simp;exact .nil
 | _,_,_+1,.nil=>by simp;exact .nil
 | _,_,n+1,.cons h r=>by simp;exact .cons h (aG.take n r)
end L2
namespace L2
open PySem PySem.Spec PyProof.Rows
open AutoSeq1 (wpAny_loadPart')
section
variable {prog:Program}{w:World}{A:Around}{E:Value→Shared→Prop}{s:Shared}
end
def vm:V→Option Int
 | .int i=>some i
 | .bl b=>some (if b=true then 1 else 0)
 | _=>none
section
variable {X:Cx}
inductive Jm (g:Int→Int→Int) (x:V) (y:V) (H:Hp) (Q:VK):Prop
 | mk (i:_) (j:_) (h0:vm x=some i) (h1:y=.int j) (h2:Q (.int (g i j)) H)
def rX (g:Int→Int→Int):R2:=fun x y H Q=>Jm g x y H Q
theorem yY:cn X (binaryOp .Add) (rX (·+·)):=by
 intro pins s σ H x y v u Q I rx ry h
 obtain ⟨i,j,hx,rfl,q⟩:=h
 obtain ⟨t',rfl⟩:=ry
 cases x <;> simp [vm] at hx
 ·rename_i b
  subst hx
  cases (show v=Value.bool b from rx)
  exact PySem.IntBool.add_bool_int ⟨.int _,H,I.tok _,⟨()⟩,q⟩
 ·subst hx
  obtain ⟨t,rfl⟩:=rx
  exact add_int ⟨.int _,H,I.tok _,⟨()⟩,q⟩
theorem DV:cn X (binaryOp .Sub) (rX (· - ·)):=by
 intro pins s σ H x y v u Q I rx ry h
 obtain ⟨i,j,hx,rfl,q⟩:=h
 obtain ⟨t',rfl⟩:=ry
 cases x <;> simp [vm] at hx
 ·rename_i b
  subst hx
  cases (show v=Value.bool b from rx)
  exact PySem.IntBool.sub_bool_int ⟨.int _,H,I.tok _,⟨()⟩,q⟩
 ·subst hx
  obtain ⟨t,rfl⟩:=rx
  exact sub_int ⟨.int _,H,I.tok _,⟨()⟩,q⟩
inductive Il (x:V) (y:V) (H:Hp) (Q:VK):Prop
 | mk (i:_) (j:_) (h0:x=.int i) (h1:vm y=some j) (h2:-(2 ^ 64)<i) (h3:i<2 ^ 64) (h4:Q (.int (i*j)) H)
def Ji:R2:=fun x y H Q=>Il  x y H Q
theorem Em:cn X (binaryOp .Mult) Ji:=by
 intro pins s σ H x y v u Q I rx ry h
 obtain ⟨i,j,rfl,hy,h0,h1,q⟩:=h
 obtain ⟨t',rfl⟩:=rx
 cases y <;> simp [vm] at hy
 ·rename_i b
  subst hy
  cases (show u=Value.bool b from ry)
  exact PySem.IntBool.mul_int_bool ⟨.int _,H,I.tok _,⟨()⟩,q⟩
 ·subst hy
  obtain ⟨t,rfl⟩:=ry
  exact mul_int ⟨.int _,H,I.tok _,⟨()⟩,q⟩ (zI.ok (.inl ⟨h0,h1⟩))
theorem ux (a:Bool):Gives (Builtin.«int.__neg__» ⟨[.bool a],[]⟩) (.int (-(if a=true then (1:Int) else 0))):=
 .of_wp fun M A E s Q h=>by obtain ⟨hp,g,d,tk,os⟩:=s;wp_walk;exact ⟨_,rfl,h⟩
inductive IO (x:V) (H:Hp) (Q:VK):Prop
 | mk (i:_) (h0:vm x=some i) (h1:Q (.int (-i)) H)
def Jk:V→Hp→VK→Prop:=fun x H Q=>IO  x H Q
theorem Eo:C9 X (unaryOp .USub) Jk:=by
 intro pins s σ H x v Q I rx h
 obtain ⟨i,hx,q⟩:=h
 cases x <;> simp [vm] at hx
 ·rename_i b
  subst hx
  cases (show v=Value.bool b from rx)
  exact PySem.unaryOp_gives (op:=.USub) (T := "bool") rfl rfl F.slot_bool_neg F.entry_int_neg (F.args_int_neg_1 _) (ux b) ⟨.int _,H,I.tok _,⟨()⟩,q⟩
 ·subst hx
  obtain ⟨t,rfl⟩:=rx
  exact neg_int ⟨.int _,H,I.tok _,⟨()⟩,q⟩
end
end L2
namespace L2
open PySem PySem.Spec PyProof.Rows
inductive HI (x:V) (lo:Option Int) (hi:Option Int) (H:Hp) (Q:VK):Prop
 | mk (z:_) (h0:x=.str z) (h1:z.length≤10000) (h2:∀y,y.length≤z.length→(∀c∈y.cps.toList,c∈z.cps.toList)→Q (.str y) H)
def Iu:V→Option Int→Option Int→Hp→VK→Prop:=fun x lo hi H Q=>HI  x lo hi H Q
theorem yE {v:Value}{o:Option Int} (h:IsPart v o):∃p:Option (Int×Tok),v=partValue p:=by
 cases h with
 | none=>exact ⟨none,rfl⟩
 | int i t=>exact ⟨some (i,t),rfl⟩
theorem FX {X:Cx}:xm X Iu:=by
 intro pins s σ H x v vl vu lo hi sl Q I rx hs pl pu h
 obtain ⟨z,rfl,hz,q⟩:=h
 obtain ⟨t,rfl⟩:=rx
 obtain ⟨l,rfl⟩:=yE pl
 obtain ⟨u,rfl⟩:=yE pu
 refine ⟨"str",_,F.slot_str_getitem.lookup,typeIs_str _ _ _,?_⟩
 refine wpAny_getItem_str_slice (l:=l) (u:=u) (st:=none) hs rfl ?_
 unfold sliceMade
 by_cases hc:((Option.map (fun x:Int×Tok=>x.fst) none).getD 1==1 && (slicePicked z l u none).length==z.length)=true
 ·rw [if_pos hc]
  exact ⟨.str z,H,I,⟨()⟩,q z (Nat.le_refl _) fun c hc=>hc⟩
 ·rw [if_neg hc]
  have hl:((slicePicked z l u none).filterMap (fun x=>z.cps[x]?)).length≤z.length:=Nat.le_trans (List.length_filterMap_le _ _) (sliceIndices_le _ _ _)
  have hl':(⟨((slicePicked z l u none).filterMap (fun x=>z.cps[x]?)).toArray⟩:Str).length≤z.length:=by
   show ((slicePicked z l u none).filterMap (fun x=>z.cps[x]?)).toArray.size≤_
   rw [List.size_toArray];exact hl
  refine ⟨?_,.str ⟨_⟩,H,I.tok _,⟨()⟩,q _ hl' fun c hc=>?_⟩
  ·exact Nat.le_trans hl' (iB hz)
  ·have hc':c∈(slicePicked z l u none).filterMap (fun x=>z.cps[x]?):=by simpa using hc
   obtain ⟨i,_,e⟩:=List.mem_filterMap.mp hc'
   obtain ⟨hi,e2⟩:=Array.getElem?_eq_some_iff.mp e
   rw [←e2]
   simp
end L2
namespace L2
open PySem PySem.Spec PyProof.Rows
theorem ui {z y:Nat} (h:z≤y):4 ^ z≤4 ^ y:=Nat.pow_le_pow_right (by decide) h
theorem aG.drop {E:Addr→Prop}{H:Hp}:∀{xs:List V}{ds:List PyData} (n:Nat),aG E H xs ds→aG E H (xs.drop n) (ds.drop n)
 | _,_,0,h=>by simpa using h
 | _,_,_+1,.nil=>by simp;exact .nil
 | _,_,n+1,.cons h r=>by simp;exact aG.drop n r
theorem aG.reverse {E:Addr→Prop}{H:Hp}:∀{xs:List V}{ds:List PyData},aG E H xs ds→aG E H xs.reverse ds.reverse
 | _,_,.nil=>by simp;exact .nil
 | _,_,.cons h r=>by rw [List.reverse_cons,List.reverse_cons];exact r.reverse.append (.cons h .nil)
section
variable {z:Nat}{E:Addr→Prop}{H H':Hp}{n m k:Nat}{v:V}{xs ys:List V}
end
mutual
theorem bh.plus {E:Addr→Prop}{H:Hp}{D:Addr} (hD:H D=none):∀{v:V}{d:PyData},bh E H v d→bh (fun a=>E a∨a=D) H v d
 | _,_,.non=>.non
 | _,_,.bl b=>.bl b
 | _,_,.int i=>.int i
 | _,_,.str x=>.str x
 | _,_,.lst h ne r=>.lst h (fun z=>z.elim ne fun e=>by rw [e,hD] at h;cases h) (aG.plus hD r)
 | _,_,.tup h r=>.tup h (aG.plus hD r)
theorem aG.plus {E:Addr→Prop}{H:Hp}{D:Addr} (hD:H D=none):∀{vs:List V}{ds:List PyData},aG E H vs ds→aG (fun a=>E a∨a=D) H vs ds
 | _,_,.nil=>.nil
 | _,_,.cons h r=>.cons (bh.plus hD h) (aG.plus hD r)
end
def Al (E:Addr→Prop) (H:Hp):Prop:=∀a,E a→H a≠none
theorem Al.sm {E:Addr→Prop}{H H':Hp} (h:Al E H) (s:ad H H'):Al E H':=fun a e z=>by
 cases q:H a with
 | none=>exact h a e q
 | some o=>rw [s a o q] at z;cases z
theorem Al.sE {E:Addr→Prop}{H H':Hp}{b:Addr}{t:Int} (h:Al E H) (s:ar (Eb b) H H') (B:Bx H' b t):Al E H':=fun a e z=>by
 by_cases q:a=b
 ·subst q;exact B.ne z rfl
 ·cases p:H a with
  | none=>exact h a e p
  | some o=>rw [s.old a o q p] at z;cases z
theorem Al.ne {E:Addr→Prop}{H:Hp} (h:Al E H) {p:Addr} (hp:H p=none):¬E p:=fun e=>h p e hp
theorem pX (x:Str):S x.cps.toList=x:=by cases x;simp [S]
section
variable {X:Cx}
def kX (m:Nat) (x:Str):Prop:=x.length≤m∧∀c∈x.cps.toList,c<128
inductive FW (x:V) (y:V) (H:Hp) (Q:VK):Prop
 | mk (a:_) (b:_) (m:_) (n:_) (h0:x=.str a) (h1:y=.str b) (h2:kX m a) (h3:kX n b) (h4:m+n≤10000) (h5:∀c,kX (m+n) c→Q (.str c) H)
def Hk:R2:=fun x y H Q=>FW  x y H Q
theorem y9:cn X (binaryOp .Add) Hk:=fun pins s σ H x y v u Q I rx ry ⟨a,b,m,n,e1,e2,ta,tb,hz,q⟩=>
 zd pins s σ H x y v u Q I rx ry ⟨a.cps.toList,b.cps.toList,by rw [pX];exact e1,by rw [pX];exact e2,by
  have h1:a.cps.toList.length≤m:=ta.1
  have h2:b.cps.toList.length≤n:=tb.1
  trivial,q _ ⟨by
   rw [fq,List.length_append]
   have h1:a.cps.toList.length≤m:=ta.1
   have h2:b.cps.toList.length≤n:=tb.1
   trivial,fun c hc=>by
   rw [tM] at hc
   rcases List.mem_append.mp hc with h | h
   ·exact ta.2 c h
   ·exact tb.2 c h⟩⟩
end
end L2
namespace HT
open PySem PySem.Spec PyProof.Rows
section
variable {prog:Program}{w:World}{A:Around}{E:Value→Shared→Prop}{s:Shared}
theorem getItem_tuple_whole {t sl:Addr}{items:Array Value}{vl vu:Value}{lo hi:Option Int}{Q:Value→Shared→Prop} (ht:IsTup s.heap t items) (hs:s.heap.IsSliceOf sl vl vu .none) (pl:IsPart vl lo) (pu:IsPart vu hi)
 (h1:sIx items.size 0 lo=0) (h2:sIx items.size items.size hi=items.size) (h:Q (.ref t) s):wpAny (model prog w) A (getItem (.ref t) (.ref sl)) Q E s:=by
 obtain ⟨os,hos,hcs,hds⟩:=id hs
 have hTs:s.TypeIs (.ref sl) "slice" := ⟨os,hos,hcs⟩
 unfold getItem
 try with_reducible refine wpAny_holding ?_
 first | refine wpAny_bind (wpAny_pure ?_) | skip
 refine wpAny_bind (wpAny_sequenceKey ht.typeIs (by decide) ?_)
 refine wpAny_bind (wpAny_callSpecial?_slot (name:=Str.ofString "__getitem__") ht.typeIs PyProof.Rows.slot_tuple_getitem
  (wpAny_call_entry PyProof.Rows.slot_tuple_getitem ht.typeIs entry_tuple_getitem ?_ (args_tuple_getitem _ _)))
 show wpAny _ _ (Builtin.Tuple.tupleItemsOf (.ref t) >>= _) _ _ s
 refine wpAny_bind (tupleItemsOf_ ht ?_)
 refine wpAny_bind (wpAny_typeOf hTs ?_)
 rw [if_pos (by decide)]
 refine wpAny_bind (mf hs pl pu ?_)
 have hyes:((((sIx items.size 0 lo:Nat):Int)==0 && (1:Int)==1 && (sIx items.size items.size hi - sIx items.size 0 lo)==items.size)=true):=by
  rw [h1,h2];simp
 show wpAny _ _ (if (((sIx items.size 0 lo:Nat):Int)==0 && (1:Int)==1 && (sIx items.size items.size hi - sIx items.size 0 lo)==items.size)=true then _ else _) _ _ s
 rw [if_pos hyes]
 refine wpAny_bind (m:=Builtin.Tuple.tupleIsExact _) (wpAny_bind (wpAny_typeOf ht.typeIs (wpAny_pure ?_)))
 rw [if_pos (by decide)]
 exact wpAny_bind (wpAny_rule (wpAny_pure ⟨(),wpAny_pure h⟩))
end
end HT
namespace L2
open PySem PySem.Spec PyProof.Rows
section
variable {X:Cx}{K:PySem.W.Frag}
inductive Gk (x:V) (y:V) (H:Hp) (Q:VK):Prop
 | mk (b c:Bool) (h0:x=.bl b) (h1:y=.bl c) (h2:Q (.bl (!(b==c))) H)
def GT:R2:=fun x y H Q=>Gk  x y H Q
theorem Ew:cn X (compareOp .IsNot) GT:=by
 intro pins s σ H x y v u Q I rx ry h
 obtain ⟨b,c,rfl,rfl,q⟩:=h
 cases (show v=Value.bool b from rx)
 cases (show u=Value.bool c from ry)
 refine wpAny_isNot_plain rfl (bE I q ?_)
 cases b <;> cases c <;> rfl
inductive FK (K:PySem.W.Frag) (x:V) (lo:Option Int) (hi:Option Int) (H:Hp) (Q:VK):Prop
 | mk (a:_) (xs:_) (h0:x=.ref a) (h1:ak K H a xs) (h2:H a=some (.tup xs)) (h3:∀p H',ad H H'→H' p=some (.tup (cS xs lo hi))→Q (.ref p) H')
def Dl (K:PySem.W.Frag):V→Option Int→Option Int→Hp→VK→Prop:=fun x lo hi H Q=>FK K x lo hi H Q
theorem b6 (e:X.K=K:=by rfl):xm X (Dl K):=by
 subst e
 intro pins s σ H x v vl vu lo hi sl Q I rx hs pl pu h
 obtain ⟨a,xs,rfl,hx,ha,q⟩:=h
 by_cases hw:HT.sIx xs.length 0 lo=0∧HT.sIx xs.length xs.length hi=xs.length
 ·cases rx
  obtain ⟨its,r,ht,hz⟩:=I.tuple hx
  have hlen:its.toArray.size=xs.length:=by rw [List.size_toArray];exact r.length.symm
  refine ⟨"tuple",_,PyProof.Rows.slot_tuple_getitem.lookup,ht.typeIs,?_⟩
  refine HT.getItem_tuple_whole ht hs pl pu (by rw [hlen];exact hw.1) (by rw [hlen];exact hw.2) ⟨.ref a,H,I,rfl,q a H (ad.refl _) ?_⟩
  have:cS xs lo hi=xs:=by
   unfold cS
   rw [hw.1,hw.2,List.drop_zero,Nat.sub_zero,List.take_length]
  rw [this];exact ha
 ·exact Fd pins s σ H _ v vl vu lo hi sl Q I rx hs pl pu ⟨a,xs,rfl,hx,hw,fun p hp=>q p _ (ad.new hp) bf⟩
end
theorem qW {α:Type}{p:List α→Prop} (h0:p []) (h1:∀l a,p l→p (l++[a])) (l:List α):p l:=by
 have:∀r:List α,p r.reverse:=fun r=>by
  induction r with
  | nil=>exact h0
  | cons a r ih=>rw [List.reverse_cons];exact h1 _ _ ih
 have h:=this l.reverse
 rwa [List.reverse_reverse] at h
def cK (ks:List bp):List bp:=ks.foldl (fun σ k=>if σ.any (fun x=>decide (x=k)) then σ else σ++[k]) []
theorem fJ (ks:List bp) (k:bp):cK (ks++[k])=if (cK ks).any (fun x=>decide (x=k)) then cK ks else cK ks++[k]:=by
 unfold cK
 rw [List.foldl_append]
 rfl
theorem jO:∀(ks:List bp),(cK ks).length≤ks.length:=by
 intro ks
 induction ks using qW with
 | h0=>exact Nat.le_refl _
 | h1 ks k ih=>
  rw [fJ,List.length_append]
  split
  ·simp;trivial
  ·rw [List.length_append];simp;trivial
theorem pi (ks:List bp):∀j,j∈cK ks↔j∈ks:=by
 induction ks using qW with
 | h0=>exact fun j=>Iff.rfl
 | h1 ks k ih=>
  intro j
  rw [fJ,List.mem_append,List.mem_singleton]
  split
  ·rename_i h
   rw [ih]
   constructor
   ·exact .inl
   ·rintro (z | z)
    ·exact z
    ·obtain ⟨x,hx,e⟩:=List.any_eq_true.mp h
     rw [z,←ih,←of_decide_eq_true e];exact hx
  ·rw [List.mem_append,List.mem_singleton,ih]
theorem tx (ks:List bp):(cK ks).length=ks.length↔ks.Nodup:=by
 induction ks using qW with
 | h0=>exact ⟨fun _=>List.nodup_nil,fun _=>rfl⟩
 | h1 ks k ih=>
  rw [fJ,List.length_append,List.nodup_append]
  have ol:=jO ks
  by_cases h:(cK ks).any (fun x=>decide (x=k))=true
  ·rw [if_pos h]
   obtain ⟨x,hx,e⟩:=List.any_eq_true.mp h
   have hk:k∈ks:=by rw [←of_decide_eq_true e];exact (pi ks x).mp hx
   constructor
   ·intro z;simp at z;trivial
   ·intro z;exact absurd rfl (z.2.2 k hk k (by simp))
  ·rw [if_neg h,List.length_append]
   have hk:k∉ks:=fun z=>h (List.any_eq_true.mpr ⟨k,(pi ks k).mpr z,by simp⟩)
   constructor
   ·intro z
    refine ⟨ih.mp (by simpa using z),by simp,fun a ha b hb e=>?_⟩
    rw [List.mem_singleton] at hb
    rw [←hb,←e] at hk
    exact hk ha
   ·intro z
    rw [ih.mpr z.1]
def qF:bp→V
 | .inl i=>.int i
 | .inr x=>.str x
theorem Eu {k:bp}{u:Value} (h:bz (qF k) u):b9 k u=true∧u.scannable=true:=by
 cases k with
 | inl i=>obtain ⟨t,rfl⟩:=h;exact ⟨A1 i t,rfl⟩
 | inr x=>obtain ⟨t,rfl⟩:=h;exact ⟨A4 x t,rfl⟩
section
variable {prog:Program}{w:World}{A:Around}{R:Result→Shared→Prop}{it:Addr}{fp wr:List Addr}{G:Array GenState→Array GenState→Prop}{P:Nat→Value→Prop}{St:Nat→Shared→Prop}
abbrev gh (prog:Program) (w:World) (h:Heap) (a:Addr) (ks:List bp):Prop:=h.SetOf (bT prog w) a (fun j=>(cK ks).any (fun x=>decide (x=j))) (cK ks).length
theorem sV {h h':Heap}{a:Addr}{ks:List bp} (H:gh prog w h a ks) (k:∀o,h.get? a=some o→h'.get? a=some o):gh prog w h' a ks:=
 let ⟨o,es,ep,t,ho,r⟩:=H
 ⟨o,es,ep,t,k o ho,r⟩
theorem Dv {h:Heap}{a:Addr}{f g:bp→Bool}{n m:Nat} (H:h.SetOf (bT prog w) a f n) (e:∀k,f k=g k) (en:n=m):h.SetOf (bT prog w) a g m:=by
 cases en
 cases (funext e:f=g)
 exact H
theorem wD {ks:List bp} (W:WalksS prog w A.in1 it fp wr G ks.length P St) {a:Addr} (ha:a∉fp) (hv:∀i v,P i v→∀k,ks[i]?=some k→b9 k v=true∧v.scannable=true) (hb:ks.length+1<scanBound) :
 ∀(r i:Nat) (s:Shared),ks.length - i=r→i≤ks.length→St i s→gh prog w s.heap a (ks.take i)→
   (∀s',Moved (a :: wr) G s s'→gh prog w s'.heap a ks→R (.ok (.ret .none)) s')→codeAny (model prog w) A (.builtin "set.update.loop" ⟨[.ref a,.ref it],[]⟩) R s:=by
 have nw:a∉wr:=fun z=>ha (W.sub _ z)
 have up:∀b∈wr,b∈a :: wr:=fun b z=>List.mem_cons_of_mem _ z
 intro r
 induction r with
 | zero=>
  intro i s hr hi st hS hR
  have e:i=ks.length:=by trivial
  rw [e] at st hS
  rw [List.take_length] at hS
  refine codeAny_builtin F.entry_set_update_loop ?_
  rw [A.under_plainId F.plain_set_update_loop]
  show wpAny _ _ (pyNext (Value.ref it) >>= _) _ _ _
  refine wpAny_bind (W.done s _ _ st fun s' m=>?_)
  show wpAny _ _ (ret .none) _ _ _
  exact wpAny_pure (hR s' (m.mono up) (sV hS fun o ho=>m.heap a o nw ho))
 | succ r ih=>
  intro i s hr hi st hS hR
  have lt:i<ks.length:=by trivial
  refine codeAny_builtin F.entry_set_update_loop ?_
  rw [A.under_plainId F.plain_set_update_loop]
  show wpAny _ _ (pyNext (Value.ref it) >>= _) _ _ _
  refine wpAny_bind (W.item i s _ _ lt st fun v s' pv st' m=>?_)
  obtain ⟨kv,sv⟩:=hv i v pv ks[i] (List.getElem?_eq_getElem lt)
  have hS':gh prog w s'.heap a (ks.take i):=sV hS fun o ho=>m.heap a o nw ho
  have l1:(cK (ks.take i)).length+1<scanBound:=by
   have:=jO (ks.take i)
   rw [List.length_take] at this
   trivial
  show wpAny _ _ (holding [v] (setAdd a v) >>= _) _ _ _
  refine wpAny_bind (wpAny_holding ?_)
  unfold setAdd
  refine wpAny_holding (wpAny_bind ((bT prog w).pyHash (k:=ks[i]) kv (wpAny_setAddHashed_of (knd:=bT prog w) (s:={ s' with toks:=s'.toks+1 }) kv sv hS' l1 fun h2 sb hS2=>?_)))
  have nx:gh prog w h2 a (ks.take (i+1)):=by
   rw [List.take_succ_eq_append_getElem lt]
   refine Dv hS2 (fun j=>?_) ?_
   ·rw [fJ]
    split
    ·rename_i z
     by_cases q:j=ks[i]
     ·subst q;rw [z];rfl
     ·rw [decide_eq_false q,Bool.or_false]
    ·rw [List.any_append]
     congr 1
     rw [List.any_cons,List.any_nil,Bool.or_false]
     by_cases q:j=ks[i]
     ·rw [decide_eq_true q,decide_eq_true q.symm]
     ·rw [decide_eq_false q,decide_eq_false (Ne.symm q)]
   ·rw [fJ]
    split
    ·rfl
    ·rw [List.length_append];rfl
  refine wpAny_pure ⟨plainId_quiet F.plain_set_update_loop _,ih (i+1) _ (by trivial) lt (W.frame _ s' _ _ st' (Nat.le_succ _) fun b z o e=>?_) nx fun s2 m2 hS3=>?_⟩
  ·rw [sb.2 b (fun q=>ha (q▸z))];exact e
  ·refine hR s2 (.trans W.gtrans ((m.mono up).then_heap (Nat.le_succ _) fun b o z e=>?_) m2) hS3
   rw [sb.2 b (fun q=>z (q▸List.mem_cons_self))];exact e
end
theorem rP:isSubtype (.type "tuple") (.type "set")=pure false:=by
 rw [isSubtype_type]
 kernel_rfl
theorem qm:isSubtype (.type "tuple") (.type "frozenset")=pure false:=by
 rw [isSubtype_type]
 kernel_rfl
section
variable {prog:Program}{w:World}{A:Around}{E:Value→Shared→Prop}{s:Shared}
abbrev bZ (led:Bool):Obj:={ cls:=.type "set",dict:=none,data:=.set #[] 0 (.fresh 0 0 led) }
theorem xL {h:Heap}{a:Addr}{led:Bool} (e:h.get? a=some (bZ led)):gh prog w h a []:=
 ⟨_,#[],0,_,e,⟨rfl,rfl,rfl⟩,rfl,fun x hx=>(by simp at hx),fun k=>(by simp [cK]),by decide,by rfl,rfl⟩
set_option maxHeartbeats 4000000 in
theorem A2 {l:Addr}{vs:List Value}{ks:List bp}{led:Bool}{c:Bool} (hh:A.handled=none) (hl:if c=true then s.heap.IsList l vs.toArray else s.heap.IsTuple l vs.toArray) (hn:vs.length=ks.length)
 (hk:∀(i:Nat) v,vs[i]?=some v→∀k,ks[i]?=some k→b9 k v=true∧v.scannable=true) (hb:ks.length+1<scanBound) {R:Fin→Shared→Prop}
 (h:∀h' tk,gh prog w h' s.heap.objs.size ks→(∀b o,b<s.heap.objs.size→s.heap.get? b=some o→h'.get? b=some o)→R (.done (.ret .none)) { s with heap:=h',toks:=tk }) :
 wpAny (model prog w) A (Builtin.«set.__init__» ⟨[.ref s.heap.objs.size,.ref l],[]⟩) R E { s with heap:=s.heap.push (bZ led) }:=by
 have hS:(s.heap.push (bZ led)).get? s.heap.objs.size=some (bZ led):=Heap.get?_push_size _ rfl
 have hT:Shared.TypeIs { s with heap:=s.heap.push (bZ led) } (.ref s.heap.objs.size) "set" := ⟨_,hS,rfl⟩
 have vget:∀(i:Nat) v,vs.toArray[i]?=some v→∀k,ks[i]?=some k→b9 k v=true∧v.scannable=true:=fun i v e=>hk i v (by simpa using e)
 have sz:vs.toArray.size=ks.length:=by rw [List.size_toArray];exact hn
 have hS2:∀o:Obj,((s.heap.push (bZ led)).push o).get? s.heap.objs.size=some (bZ led):=fun o=>Heap.get?_push_of_some _ hS
 have lS:∀{x:Obj},s.heap.get? l=some x→l<s.heap.objs.size:=fun e=>Heap.lt_size e
 have neI:s.heap.objs.size≠(s.heap.push (bZ led)).objs.size:=by rw [Heap.size_push];trivial
 have fin:∀(s':Shared) (o:Obj),Moved (s.heap.objs.size :: [(s.heap.push (bZ led)).objs.size]) (fun a b=>b=a) { s with heap:=(s.heap.push (bZ led)).push o } s'→gh prog w s'.heap s.heap.objs.size ks→R (.done (.ret .none)) s':=fun s' o m q=>by
  obtain ⟨h',g',d',tk',os'⟩:=s'
  cases (show g'=s.gens from m.gens)
  cases (show d'=s.drawn from m.drawn)
  cases (show os'=s.os from m.os)
  refine h h' tk' q fun b o hb e=>m.heap b o (fun z=>?_) (Heap.get?_push_of_some _ (Heap.get?_push_of_some _ e))
  rw [Heap.size_push] at z
  have z':b=s.heap.objs.size∨b=s.heap.objs.size+1:=by simpa using z
  have hb':(b:Nat)<s.heap.objs.size:=hb
  rcases z' with z' | z'
  ·exact absurd z' (Nat.ne_of_lt hb')
  ·exact absurd z' (Nat.ne_of_lt (Nat.lt_succ_of_lt hb'))
 cases c with
 | true=>
  have hl':s.heap.IsList l vs.toArray:=hl
  obtain ⟨⟨oc,od,oo,os⟩,e1,rfl,n,rfl⟩:=hl'
  have e2:(s.heap.push (bZ led)).get? l=some ⟨.type "list",od,.seq vs.toArray n,os⟩:=Heap.get?_push_of_some _ e1
  have q1:=PySem.F.sub_list_set
  have q2:=PySem.F.sub_list_frozenset
  have q3:(Value.type "list" == Value.type "dict")=false:=by decide
  have l1:(s.heap.push (bZ led)).IsList l vs.toArray:=⟨_,e2,rfl,n,rfl⟩
  unfold Builtin.«set.__init__» noKeywords Builtin.Frozenset.updateFrom
  generalize hPI:pyIter=PI
  wp_walk
  subst hPI
  have ll:=lS e1
  refine wpAny_pyIter_list l1 (wpAny_bind (wpAny_runValue ?_))
  have ne1:l≠(s.heap.push (bZ led)).objs.size:=by rw [Heap.size_push];exact Nat.ne_of_lt (Nat.lt_succ_of_lt ll)
  refine wD (a:=s.heap.objs.size) (ks:=ks) (sz▸(Walks.list (by simpa using hh) _ l ne1 vs.toArray).toS) ?_ vget hb (ks.length - 0) 0 _ rfl (Nat.zero_le _) ⟨⟨_,Heap.get?_push_size _ rfl,rfl,rfl⟩,l1.push _⟩ (xL (hS2 _)) fun s' m q=>?_
  ·intro z
   have z':s.heap.objs.size=(s.heap.push (bZ led)).objs.size∨s.heap.objs.size=l:=by simpa using z
   rcases z' with z' | z'
   ·exact neI z'
   ·exact absurd z' (Nat.ne_of_gt ll)
  ·exact wpAny_pure (wpAny_pure (fin s' _ m q))
 | false=>
  have hl':s.heap.IsTuple l vs.toArray:=hl
  obtain ⟨⟨oc,od,oo,os⟩,e1,rfl,n,rfl⟩:=hl'
  have e2:(s.heap.push (bZ led)).get? l=some ⟨.type "tuple",od,.seq vs.toArray n,os⟩:=Heap.get?_push_of_some _ e1
  have q1:=rP
  have q2:=qm
  have q3:(Value.type "tuple" == Value.type "dict")=false:=by decide
  have l1:(s.heap.push (bZ led)).IsTuple l vs.toArray:=⟨_,e2,rfl,n,rfl⟩
  unfold Builtin.«set.__init__» noKeywords Builtin.Frozenset.updateFrom
  generalize hPI:pyIter=PI
  wp_walk
  subst hPI
  have ll:=lS e1
  refine wpAny_pyIter_tuple l1 (wpAny_bind (wpAny_runValue ?_))
  have ne1:l≠(s.heap.push (bZ led)).objs.size:=by rw [Heap.size_push];exact Nat.ne_of_lt (Nat.lt_succ_of_lt ll)
  refine wD (a:=s.heap.objs.size) (ks:=ks) (sz▸(Walks.tuple (by simpa using hh) _ l ne1 vs.toArray).toS) ?_ vget hb (ks.length - 0) 0 _ rfl (Nat.zero_le _) ⟨⟨_,Heap.get?_push_size _ rfl,rfl,rfl⟩,l1.at fun o e=>Heap.get?_push_of_some _ e⟩ (xL (hS2 _)) fun s' m q=>?_
  ·intro z
   have z':s.heap.objs.size=(s.heap.push (bZ led)).objs.size∨s.heap.objs.size=l:=by simpa using z
   rcases z' with z' | z'
   ·exact neI z'
   ·exact absurd z' (Nat.ne_of_gt ll)
  ·exact wpAny_pure (wpAny_pure (fin s' _ m q))
set_option maxHeartbeats 4000000 in
theorem Bi {l:Addr}{vs:List Value}{ks:List bp}{c:Bool}{Q:Value→Shared→Prop} (hh:A.handled=none) (hl:if c=true then s.heap.IsList l vs.toArray else s.heap.IsTuple l vs.toArray) (hn:vs.length=ks.length)
 (hk:∀(i:Nat) v,vs[i]?=some v→∀k,ks[i]?=some k→b9 k v=true∧v.scannable=true) (hb:ks.length+1<scanBound)
 (h:∀h' tk,gh prog w h' s.heap.objs.size ks→(∀b o,b<s.heap.objs.size→s.heap.get? b=some o→h'.get? b=some o)→Q (.ref s.heap.objs.size) { s with heap:=h',toks:=tk }) :
 wpAny (model prog w) A (call (.type "set") [.ref l]) Q E s:=by
 have T:=PySem.F.called_set
 obtain ⟨_,_,t0⟩:=T.mro
 have t1:=T.notType
 have t2:=T.canCreate
 have t3:=T.made
 have t4:=T.sub
 have t5:=PySem.F.typeCall_set_1 (.ref l)
 refine wpAny_call (codeAny_of_tree ?_)
 show wpAny _ _ (callAny (Value.type "set") _) _ _ s
 refine wpAny_pure ⟨Code.quiet_builtin _ (by nofun),codeAny_builtin PySem.F.entry_type_call ?_⟩
 rw [A.under_plain (weight_type_call_type "set" [Value.ref l] []) rfl]
 repeat (any_goals first | assumption | wp_step)
 refine codeAny_mono (code_set_new_1 (.ref l) (E:=E) (Q₁:=fun v s1=>∃led,v=.ref s.heap.objs.size∧s1={ s with heap:=s.heap.push (bZ led) }) fun led=>⟨led,rfl,rfl⟩) fun r s1 hr=>?_
 cases r with
 | error e=>exact hr
 | ok f=>
  cases f with
  | ret v=>
   obtain ⟨led,rfl,rfl⟩:=hr
   have hT:Shared.TypeIs { s with heap:=s.heap.push (bZ led) } (.ref s.heap.objs.size) "set" := ⟨_,Heap.get?_push_size _ rfl,rfl⟩
   have t6:=T.init.lookup
   have t7:=T.init.bind (.ref s.heap.objs.size)
   repeat (any_goals first | assumption | wp_step)
   refine codeAny_mono (codeAny_call_builtin (R:=wants (fun v s2=>v=.none∧cj fun h' tk=>s2={ s with heap:=h',toks:=tk }∧gh prog w h' s.heap.objs.size ks∧∀b o,b<s.heap.objs.size→s.heap.get? b=some o→h'.get? b=some o) E) T.init.plain PySem.F.entry_set_init (check_set_init_1 hT ?_)) fun r2 s2 hr2=>?_
   ·exact A2 (by simpa using hh) hl hn hk hb fun h' tk q kp=>⟨rfl,h',tk,rfl,q,kp⟩
   ·cases r2 with
    | error e=>exact hr2
    | ok f=>
     cases f with
     | ret v=>
      obtain ⟨rfl,h',tk,rfl,q,kp⟩:=hr2
      repeat (any_goals first | assumption | wp_step)
      exact h _ _ q kp
     | _=>exact hr2.elim
  | _=>exact hr.elim
end
theorem rJ:bootBuiltins "set" = some (.type "set"):=by nofun
def yI (K:PySem.W.Frag) (x:V) (H:Hp) (Q:VK):Prop:=cj fun a ks=>x=.ref a∧(aE K H a (ks.map qF)∨ak K H a (ks.map qF))∧ks.length≤4000∧Q (.int ((cK ks).length:Nat)) H
def EC (K:PySem.W.Frag) (te:TE):TE:=fun σ H Q=>te σ H fun x H1=>yI K x H1 Q
section
variable {X:Cx}{K:PySem.W.Frag}{e:Expr}{te:TE}{p1 p2 p3 p4:Pos}
theorem qj:∀{ks:List bp}{us:List Value},aH (ks.map qF) us→us.length=ks.length∧∀(i:Nat) v,us[i]?=some v→∀k,ks[i]?=some k→b9 k v=true∧v.scannable=true
 | [],_,.nil=>⟨rfl,fun i v e=>by simp at e⟩
 | k :: r,_,.cons h t=>by
  obtain ⟨a,b⟩:=qj (ks:=r) t
  refine ⟨by simp [a],fun i v e j f=>?_⟩
  cases i with
  | zero=>
   simp at e f
   subst e f
   exact Eu h
  | succ i=>exact b i v (by simpa using e) j (by simpa using f)
theorem Cs {A:Around}{E:Value→Shared→Prop}{s:Shared}{prog:Program}{w:World}{a:Addr}{ks:List bp}{Q:Value→Shared→Prop} (H:gh prog w s.heap a ks) (hb:ks.length≤4000) (h:Q (.int ((cK ks).length:Nat) (s.toks+1)) { s with toks:=s.toks+1+1 }) :
 wpAny (model prog w) A (call (.builtin "len") [.ref a]) Q E s:=by
 obtain ⟨o,es,ep,t,ho,hx,hd,_,_,hlt,hf,hn⟩:=H
 have:=jO ks
 refine PySem.call_len_set ho hx hd hf (by trivial) ?_
 rw [hn];exact h
theorem qL (he:PE X e te) (hc:X.calm=true) (hg1:Gl X "len") (hm1:X.mg "len" = none) (hg2:Gl X "set") (hm2:X.mg "set" = none) (ek:X.K=K:=by rfl) (hs:nX e=true:=by rfl) :
 PE X (.Call (.Name "len" p1) [.Call (.Name "set" p2) [e] [] p3] [] p4) (EC K te):=by
 subst ek
 intro pins s σ H Q I h
 refine wpAny_Call_Name_kw (fY I hg1 hm1 bi ?_ (by decide) (by decide))
 refine PyProof.Rows.callWith_builtin1 ?_ (kC rfl) rfl
 refine Calls.spliced_cons ?_
 refine wpAny_Call_Name_kw (fY I hg2 hm2 rJ ?_ (by decide) (by decide))
 refine PyProof.Rows.callWith_type1 ?_ (kC hs) rfl
 refine aW (Aa he aC hs p3 pins s σ H (fun xs H1=>match xs with | [x]=>yI X.K x H1 Q | _=>False) I h) fun us s1 ⟨vs,H1,I1,r1,q1⟩=>?_
 match vs,r1,q1 with
 | [x],r1,q1=>
 obtain ⟨u,rfl,ru⟩:=i0 r1
 obtain ⟨a,ks,rfl,hq,hz,q⟩:=q1
 cases ru
 have go:∀(its:List Value) (c:Bool),aH (ks.map qF) its→(if c=true then s1.heap.IsList a its.toArray else s1.heap.IsTuple a its.toArray)→wpAny (model X.prog X.w) X.A (call (.type "set") [.ref a]) (fun v s2=>wpAny (model X.prog X.w) X.A (call (.builtin "len") [v]) (EP X pins σ Q) X.xe s2) X.xe s1:=fun its c rv hl=>by
  obtain ⟨z1,z2⟩:=qj rv
  refine Bi (I1.ok.hd hc) hl z1 z2 (by show ks.length+1<4096;trivial) fun h' tk S kp=>?_
  have I2:af X pins σ H1 { s1 with heap:=h',toks:=tk }:=I1.kept fun b o e=>kp b o (Heap.lt_size e) e
  exact Cs (s:={ s1 with heap:=h',toks:=tk }) S hz ⟨.int _,H1,I2.tok _,⟨()⟩,q⟩
 have fin:=fun (v:Value) (s2:Shared) (z:wpAny (model X.prog X.w) X.A (call (.builtin "len") [v]) (EP X pins σ Q) X.xe s2)=>(Calls.spliced_nil z:wpAny (model X.prog X.w) X.A (spliced []) (fun vs s3=>wpAny (model X.prog X.w) X.A (call (.builtin "len") (v :: vs)) (EP X pins σ Q) X.xe s3) X.xe s2)
 rcases hq with hq | hq
 ·obtain ⟨its,rv,p,_⟩:=I1.list hq
  exact aW (go its true rv p.isList) fun v s2 z=>fin v s2 z
 ·obtain ⟨its,rv,p,_⟩:=I1.tuple hq
  exact aW (go its false rv p) fun v s2 z=>fin v s2 z
end
section
variable {X:Cx}{K:PySem.W.Frag}{o e:Expr}{es:List Expr}{to:TE}{t:TA}{name:Str}{apos cpos:Pos}{T id:String}{r:V→List V→Hp→VK→Prop}
theorem dX (pa:PlainAttrs T) (slot:Slot T name id) (hty:typeOf (.builtin id)=pure (.type "method_descriptor")) (hm:yB X id r) (ho:PE X o to) (ha:PA X (e :: es) t) (ek:X.K=K:=by rfl)
 (h1:attributeBase o name X.env (eval o X.env)=eval o X.env:=by rfl)
 (h2:((backTo cpos (starEach (e :: es) X.env)).all (fun x=>!x.1) && (backToKw cpos (keywordEach [] X.env)).all (fun x=>x.1.isSome) && decide ((e :: es).length+([]:List Keyword).length+(if ([]:List Keyword).isEmpty then 0 else 1)<30))=true:=by rfl)
 (h3:(apos.endLine==cpos.line)=true:=by rfl) (h4:starEach (e :: es) X.env=(false,eval e X.env) :: starEach es X.env:=by rfl) (h5:(backTo cpos (starEach es X.env)).any (·.1)=false:=by rfl) :
 PE X (.Call (.Attribute o name apos) (e :: es) [] cpos) (Go K T r to t):=by
 subst ek
 exact Hl pa slot hty hm ho ha h1 h2 h3 h4 h5
end
theorem BU {X:Cx}{K:PySem.W.Frag}{es:List Expr}{kk:Nat}{tp:Pos}{a b:Expr}{ta:TA}{p pos:Pos} (hg:Gl X "zip") (hm:X.mg "zip" = none) (ha:PA X [a,b] ta) (ek:X.K=K:=by rfl) (h1:starEach [a,b] X.env=[(false,eval a X.env),(false,eval b X.env)]:=by rfl) (h2:starEach [b] X.env=[(false,eval b X.env)]:=by rfl) :
 PI X (.Tuple es kk tp) (.Call (.Name "zip" p) [a,b] [] pos) (FO K ta):=by
 subst ek
 exact FI hg hm ha h1 h2
end L2
namespace L2
theorem cq {t u:TS}{D:fA}{σ:St}{H:Hp} (h:∀D':fA,(∀σ' H',u D σ' H'→D'.nx σ' H')→t D' σ H):jV t u D σ H:=h { D with nx:=u D } fun _ _ z=>z
theorem ml {t u:TS}{D:fA}{σ:St}{H:Hp} (h:∀D':fA,(∀σ' H',u D σ' H'→D'.nx σ' H')→(∀v H',D.rt v H'→D'.rt v H')→t D' σ H):jV t u D σ H:=h { D with nx:=u D } (fun _ _ z=>z) fun _ _ z=>z
theorem mw {t:TS}{D:fA}{σ:St}{H:Hp} (h:∀D':fA,(∀σ' H',D.nx σ' H'→D'.nx σ' H')→t D' σ H):t D σ H:=h D fun _ _ z=>z
end L2
namespace L2
open PySem PySem.Spec PyProof.Rows
def tN:PyData→Option (List PyData)
 | .list xs=>some xs
 | .tuple xs=>some xs
 | _=>none
theorem Bm {e:PyData}{xs:List PyData}{n l:Nat} (h:Wt e n l) (s:tN e=some xs):cj fun m k=>cu xs m k∧k+1=l:=by
 cases h <;> simp [tN] at s
 all_goals
  rename_i w
  subst s
  exact ⟨_,_,w,rfl⟩
section
variable {X:Cx}
inductive HZ (ng:Bool) (x:V) (y:V) (H:Hp) (Q:VK):Prop
 | mk (d e:PyData) (E F:Addr→Prop) (m n k l:Nat) (xs:List PyData) (h0:bh E H x d) (h1:bh F H y e) (h2:Wt d m k) (h3:Wt e n l) (h4:l≤60) (h5:tN e=some xs) (h6:Q (.bl (if ng then !xs.any (fun z=>PyData.eqv z d) else xs.any (fun z=>PyData.eqv z d))) H)
def GD (ng:Bool):R2:=fun x y H Q=>HZ ng x y H Q
theorem F7 (hu:X.A.units+64<cLine):cn X (compareOp .In) (GD false):=by
 intro pins s σ H x y v u Q I rx ry h
 obtain ⟨d,e,E,F,m,n,k,l,xs,hd,he,wd,we,hl,hs,q⟩:=h
 obtain ⟨as,ra⟩:=hd.reads I.hok rx
 obtain ⟨bs,rb⟩:=he.reads I.hok ry
 obtain ⟨m',k',wl,ek⟩:=Bm we hs
 have dl:=wl.dep
 cases e <;> simp [tN] at hs
 ·subst hs
  exact PySem.SeqAt.in_list_reads rb ra wl.can wd.can (by trivial) ⟨.bl _,H,I,rfl,q⟩
 ·subst hs
  exact PySem.SeqAt.in_tuple_reads rb ra wl.can wd.can (by trivial) ⟨.bl _,H,I,rfl,q⟩
theorem eJ (hu:X.A.units+64<cLine):cn X (compareOp .NotIn) (GD true):=by
 intro pins s σ H x y v u Q I rx ry h
 obtain ⟨d,e,E,F,m,n,k,l,xs,hd,he,wd,we,hl,hs,q⟩:=h
 obtain ⟨as,ra⟩:=hd.reads I.hok rx
 obtain ⟨bs,rb⟩:=he.reads I.hok ry
 obtain ⟨m',k',wl,ek⟩:=Bm we hs
 have dl:=wl.dep
 cases e <;> simp [tN] at hs
 ·subst hs
  exact PySem.SeqAt.notIn_list_reads rb ra wl.can wd.can (by trivial) ⟨.bl _,H,I,rfl,q⟩
 ·subst hs
  exact PySem.SeqAt.notIn_tuple_reads rb ra wl.can wd.can (by trivial) ⟨.bl _,H,I,rfl,q⟩
end
section
variable {K:PySem.W.Frag}{a a1 a2 D:Addr}{H1:Hp}{σc:St}{g:TG}{te:TE}{tt:TT}{Q:VK}{xs ys:List V}
theorem uk {α:Type} (f:Nat→α) (i:Nat):(List.range i).map f++[f i]=(List.range (i+1)).map f:=by
 rw [List.range_succ,List.map_append];rfl
theorem eH {α β:Type} (f:Nat→β) (h:α→β) (l:List α) (e:∀(i:Nat) (x:α),l[i]?=some x→f i=h x):(List.range l.length).map f=l.map h:=by
 apply List.ext_getElem?
 intro i
 rw [List.getElem?_map,List.getElem?_map]
 by_cases hi:i<l.length
 ·rw [List.getElem?_range hi,List.getElem?_eq_getElem hi]
  show some (f i)=some (h l[i])
  rw [e i l[i] (List.getElem?_eq_getElem hi)]
 ·rw [List.getElem?_eq_none (by simp;trivial),List.getElem?_eq_none (by trivial)];rfl
theorem mC {J:It}{n:Nat} (f:Nat→V) (hz:n≤10000) (hD:H1 D=none) (hgo:∀i H',i<n→ad H1 H'→J.go i H') (hst:∀H',ad H1 H'→J.stop n H')
 (hs:∀i x H' H'' (R:VK),i<n→ad H1 H'→J.yld i H' x H''→(∀H4,ad H' H4→R (f i) H4)→g x σc H'' fun σ2 H2=>jT σc σ2∧te σ2 H2 R)
 (hd:∀H',ad H1 H'→H' D=some (.lst ((List.range n).map f))→Q (.ref D) H'):lB J σc g tT te D H1 Q:=by
 refine mF (n:=n) (fun i H' zs=>zs=(List.range i).map f∧H' D=some (.lst zs)∧ad H1 H') (iB hz) ⟨rfl,bf,oK hD (ad.refl _)⟩ ?_ ?_ ?_ ?_ ?_
 ·rintro i H' zs ⟨rfl,q,_⟩
  exact ⟨q,by simp⟩
 ·rintro i H' zs hi ⟨_,_,sm⟩
  exact hgo i H' hi sm
 ·rintro H' zs ⟨_,_,sm⟩
  exact hst H' sm
 ·rintro i H' zs x H'' hi ⟨rfl,q,sm⟩ y
  exact hs i x H' H'' _ hi sm y fun H4 s4=>⟨s4 _ _ q,uk f i,bf,oK hD (sm.trans s4)⟩
 ·rintro H' zs ⟨rfl,q,sm⟩
  exact hd H' sm q
theorem qO (f:Nat→V) (hz:xs.length≤10000) (hD:H1 D=none) (ha:H1 a=some (.tup xs))
 (hs:∀i x H' (R:VK),xs[i]?=some x→ad H1 H'→(∀H4,ad H' H4→R (f i) H4)→g x σc H' fun σ2 H2=>jT σc σ2∧te σ2 H2 R)
 (hd:∀H',ad H1 H'→H' D=some (.lst ((List.range xs.length).map f))→Q (.ref D) H'):lB (tJ K a) σc g tT te D H1 Q:=by
 refine mC (n:=xs.length) f hz hD (fun i H' hi sm=>⟨xs,xs[i],ak.of (sm _ _ ha),by simp [hi]⟩) (fun H' sm=>⟨xs,ak.of (sm _ _ ha),Nat.le_refl _⟩) ?_ hd
 rintro i x H' H'' R hi sm ⟨rfl,ex⟩ k
 exact hs i x H'' R (ex _ (ak.of (sm _ _ ha))) sm k
theorem BC {c1 c2:Bool}{j1 j2:Nat} (f:Nat→V) (hz:min xs.length ys.length≤10000) (hD:H1 D=none) (h1:∀H',ad H1 H'→nH K H' a1 xs c1) (h2:∀H',ad H1 H'→nH K H' a2 ys c2)
 (hs:∀i x y H' (R:VK),xs[i]?=some x→ys[i]?=some y→ad H1 H'→(∀H4,ad H' H4→R (f i) H4)→(fun σ2 H2=>jT σc σ2∧te σ2 H2 R) ((σc.set j1 (some x)).set j2 (some y)) H')
 (hd:∀H',ad H1 H'→H' D=some (.lst ((List.range (min xs.length ys.length)).map f))→Q (.ref D) H'):lB (FU K a1 a2 c1 c2) σc (Cz K 2 (Am (iA j1) (Am (iA j2) GB))) tT te D H1 Q:=by
 refine mC (n:=min xs.length ys.length) f hz hD (fun i H' hi sm=>⟨xs,ys,xs[i]'(by trivial),ys[i]'(by trivial),h1 H' sm,h2 H' sm,by rw [List.getElem?_eq_getElem (by trivial)],by rw [List.getElem?_eq_getElem (by trivial)]⟩) (fun H' sm=>⟨xs,ys,h1 H' sm,h2 H' sm,by trivial⟩) ?_ hd
 rintro i v H' H'' R hi sm ⟨T,x,y,hT,rfl,rfl,e1,e2⟩ k
 have st:=ad.new (o:=.tup [x,y]) hT
 exact ⟨T,(),ak.of bf,rfl,_,(),_,(),rfl,hs i x y _ R (e1 _ (h1 H' sm)) (e2 _ (h2 H' sm)) (sm.trans st) fun H4 s4=>k H4 (st.trans s4)⟩
end
end L2
namespace L2
theorem lV {tc:TT}{t u:TS}{D:fA}{σ:St}{H:Hp} (o1 o0:Hp→Prop) (hc:∀Q:Bool→Hp→Prop,(∀H',o1 H'→Q true H')→(∀H',o0 H'→Q false H')→tc σ H Q) (h1:∀H',o1 H'→t D σ H') (h0:∀H',o0 H'→u D σ H'):Cq tc t u D σ H:=
 hc _ (fun H' o=>by rw [if_pos rfl];exact h1 H' o) fun H' o=>by rw [if_neg (by decide)];exact h0 H' o
theorem HE {t u:TS}{D:fA}{σ:St}{H:Hp} (I:St→Hp→Prop) (rest:∀σ' H',I σ' H'→u D σ' H') (h:(∀σ' H',I σ' H'→u D σ' H')→t { D with nx:=u D } σ H):jV t u D σ H:=h rest
end L2
namespace L2
open PySem PySem.Spec PyProof.Rows
def BP (x:Str):It:=⟨fun i _=>i<x.cps.size,fun i H v H'=>H'=H∧∃c,x.cps[i]?=some c∧v=.str ⟨#[c]⟩,fun i _=>i=x.cps.size⟩
theorem vn {P:Program}{w:World}{K:PySem.W.Frag}{tg:Expr}{x:Str}{t:Tok}{T:String} (it:Addr) (hT:["enumerate", "zip", "dict_itemiterator", "dict_reverseitemiterator", "odict_iterator", "itertools.zip_longest", "itertools.pairwise"].contains T=false)
 (W:∀A:Around,A.handled=none→Walks P w A it [it] [it] x.cps.size (SignAt x) (fun i h=>h.IsStrIter it T x t i)) (S:∀(A:Around) (i:Nat) (s:Shared) (Q:Value→Shared→Prop) (E:Value→Shared→Prop),s.heap.IsStrIter it T x t i→Q (.ref it) s→wpAny (model P w) A (pyIter (.ref it)) Q E s):sC P w K tg (BP x) [it] it (fun i h=>h.IsStrIter it T x t i) where
 mem:=by simp
 obj:=fun i h st b hb=>by
  obtain rfl:b=it:=by simpa using hb
  obtain ⟨o,e,c,d⟩:=st
  exact ⟨o,e,fun v z=>by rw [d] at z;cases z⟩
 keep:=fun i h h' st k=>by
  obtain ⟨o,e,r⟩:=st
  exact ⟨o,k it (by simp) o e,r⟩
 item:=by
  intro X hP hw hK hc i pins s σ H E I hf st hg
  subst hP hw hK
  obtain ⟨f0,f1,f2,f3,f4,f5⟩:=hf it (by simp)
  refine (W X.A (I.ok.hd hc)).item i s _ E hg st fun v h' tk pv st' kp=>?_
  obtain ⟨c,u,hcx,rfl⟩:=pv
  have I1:af X pins σ H { s with heap:=h',toks:=tk }:=I.turned (t':=tk) (fun b o hb e=>kp b o (by simpa using hb) e) f0 f1 f3 f4 f5
  obtain ⟨o,e,cl,d⟩:=id st'
  exact ⟨(),wz (s:={ s with heap:=h',toks:=tk }) e cl d hT ⟨.str ⟨#[c]⟩,H,I1,⟨()⟩,⟨rfl,c,hcx,rfl⟩,st',fun b hb=>(hf b hb).1⟩⟩
 done:=by
  intro X hP hw hK hc i pins s σ H E I hf st hg
  subst hP hw hK
  obtain ⟨f0,f1,f2,f3,f4,f5⟩:=hf it (by simp)
  have hg':i=x.cps.size:=hg
  subst hg'
  exact (W X.A (I.ok.hd hc)).done s _ E st fun h' tk kp=>⟨rfl,I.turned (t':=tk) (fun b o hb e=>kp b o (by simpa using hb) e) f0 f1 f3 f4 f5⟩
 self:=fun A i s Q E st h=>S A i s Q E st h
section
variable {X:Cx}{tg:Expr}
def Iw (tl:TE):TI:=fun σ H R=>tl σ H fun v H1=>∃x,v=.str x∧R (BP x) H1
theorem BB {l:Expr}{tl:TE} (hl:PE X l tl):PI X tg l (Iw tl):=by
 intro pins s σ H R I h
 refine aW (hl pins s σ H _ I h) fun v s1 ⟨y,H1,I1,r1,q1⟩=>?_
 obtain ⟨x,rfl,q⟩:=q1
 obtain ⟨t,rfl⟩:=r1
 have fp:∀b∈[s1.heap.objs.size],kS X pins H1 b:=fun b hb=>by
  obtain rfl:b=s1.heap.objs.size:=by simpa using hb
  exact I1.fpOk (Nat.le_refl _) (I1.hok.fresh (Nat.le_refl _))
 cases ha:x.cps.all (· < 128)
 ·refine wpAny_pyIter_wide ha ⟨s1.heap.objs.size,[s1.heap.objs.size],_,_,H1,rfl,I1.kept (t':=s1.toks) fun b o e=>Heap.get?_push_of_some _ e,vn (T := "str_iterator") (x:=x) (t:=t) _ (by decide) (fun A' hA=>Walks.strWide hA _ x t) (fun A i s Q E st h=>wpAny_pyIter_striter_wide st h),⟨_,Heap.get?_push_size _ rfl,rfl,rfl⟩,fp,q⟩
 ·refine wpAny_pyIter_ascii ha ⟨s1.heap.objs.size,[s1.heap.objs.size],_,_,H1,rfl,I1.kept (t':=s1.toks) fun b o e=>Heap.get?_push_of_some _ e,vn (T := "str_ascii_iterator") (x:=x) (t:=t) _ (by decide) (fun A' hA=>Walks.strAscii hA _ x t) (fun A i s Q E st h=>wpAny_pyIter_striter_ascii st h),⟨_,Heap.get?_push_size _ rfl,rfl,rfl⟩,fp,q⟩
theorem uX {D:Addr}{H1:Hp}{σc:St}{g:TG}{te:TE}{Q:VK}{l:List Nat} (f:Nat→V) (hz:l.length≤10000) (hD:H1 D=none)
 (hs:∀(i c:Nat) (H':Hp) (R:VK),l[i]?=some c→ad H1 H'→(∀H4,ad H' H4→R (f i) H4)→g (b8 [c]) σc H' fun σ2 H2=>jT σc σ2∧te σ2 H2 R)
 (hd:∀H',ad H1 H'→H' D=some (.lst ((List.range l.length).map f))→Q (.ref D) H'):lB (BP (S l)) σc g tT te D H1 Q:=by
 refine mC (n:=l.length) f hz hD (fun i H' hi sm=>(by show i<(S l).cps.size;exact hi)) (fun H' sm=>(by show l.length=(S l).cps.size;rfl)) ?_ hd
 rintro i x H' H'' R hi sm ⟨rfl,c,ec,rfl⟩ k
 exact hs i c H'' R (by simpa [S] using ec) sm k
inductive GS (x:V) (y:V) (H:Hp) (Q:VK):Prop
 | mk (a b:Str) (h0:x=.str a) (h1:y=.str b) (h2:Q (.bl (!decide (b.cps.toList<a.cps.toList))) H)
def IM:R2:=fun x y H Q=>GS  x y H Q
theorem Bf:cn X (compareOp .LtE) IM:=by
 intro pins s σ H x y v u Q I rx ry h
 obtain ⟨a,b,rfl,rfl,q⟩:=h
 obtain ⟨t,rfl⟩:=rx
 obtain ⟨t',rfl⟩:=ry
 exact PySem.P.le_str ⟨.bl _,H,I,rfl,q⟩
inductive GY (x:V) (y:V) (H:Hp) (Q:VK):Prop
 | mk (a b:Str) (h0:x=.str b) (h1:y=.str a) (h2:Q (.bl (!(Builtin.Str.occurrences a b 0 a.length 1).isEmpty)) H)
def ID:R2:=fun x y H Q=>GY  x y H Q
theorem F5:cn X (compareOp .In) ID:=by
 intro pins s σ H x y v u Q I rx ry h
 obtain ⟨a,b,rfl,rfl,q⟩:=h
 obtain ⟨t,rfl⟩:=rx
 obtain ⟨t',rfl⟩:=ry
 exact PySem.P.in_str ⟨.bl _,H,I,rfl,q⟩
inductive FP (xs:List V) (H:Hp) (Q:VK):Prop
 | mk (x:Str) (h0:xs=[.str x]) (h1:x.length≤10000) (h2:Q (.int x.length) H)
def HA:List V→Hp→VK→Prop:=fun xs H Q=>FP  xs H Q
theorem vD:db X (.builtin "len") HA:=by
 intro pins s σ H xs us Q I r h
 obtain ⟨x,rfl,hz,q⟩:=h
 obtain ⟨u,rfl,t,rfl⟩:=i0 r
 exact PySem.P.len_str (by trivial) ⟨.int _,H,I.tok _,⟨()⟩,q⟩
inductive EV (K:PySem.W.Frag) (x:V) (y:V) (H:Hp) (Q:VK):Prop
 | mk (a:_) (b:_) (xs:_) (ys:_) (h0:x=.ref a) (h1:y=.ref b) (h2:ak K H a xs) (h3:H a=some (.tup xs)) (h4:ak K H b ys) (h5:xs≠[]) (h6:xs.length+ys.length≤10000) (h7:∀p H',ad H H'→H' p=some (.tup (xs++ys))→Q (.ref p) H')
def Fq (K:PySem.W.Frag):R2:=fun x y H Q=>EV K x y H Q
theorem wR {K:PySem.W.Frag} (e:X.K=K:=by rfl):cn X (binaryOp .Add) (Fq K):=by
 subst e
 intro pins s σ H x y v u Q I rx ry h
 obtain ⟨a,b,xs,ys,e1,e2,ha,ha',hb,hx,hz,q⟩:=h
 refine DL pins s σ H x y v u Q I rx ry ⟨a,b,xs,ys,e1,e2,ha,hb,hx,iB hz,fun z=>?_,fun z p hp=>q p _ (ad.new hp) bf⟩
 refine q a H (ad.refl _) ?_
 rw [z,List.append_nil];exact ha'
end
section
variable {X:Cx}{K:PySem.W.Frag}{o e:Expr}{es:List Expr}{to:TE}{t:TA}{name:Str}{apos cpos:Pos}{id:String}{r:V→List V→Hp→VK→Prop}
end
end L2
namespace L2
open PySem PyProof.Rows
def eG (X:Cx) (scope:Scope) (cl:List (Str×Addr)) (C:Addr) (N':List Str) (s:Shared) (H:Hp) (ex:List Addr) (pn:List (Addr×Obj)):Cx:=
 { xB X scope cl C N' s H ex pn with fn:=fun x=>scope.names.lookup x==some .cell }
def pA (esc:Scope) (N:List Str) (scope:Scope) (N':List Str) (L:Nat) (src:List Nat):Bool:=
 (scope.kind==.function) && scope.names.all (fun y=>(y.2 != .cell || scope.names.lookup y.1==some .cell) && (y.2 != .local || scope.names.lookup y.1==some .local) && (y.2 != .free || esc.names.lookup y.1==some .cell || esc.names.lookup y.1==some .free)) &&
  (N'.length==L+src.length) && (List.range src.length).all fun i=>match src[i]?,N'[L+i]? with
   | some j,some x=>(N[j]?==some x) && (scope.names.lookup x==some .free)
   | _,_=>false
structure yX (esc:Scope) (N:List Str) (scope:Scope) (N':List Str) (L:Nat) (src:List Nat):Prop where
 kind:scope.kind=.function
 cells:∀y∈scope.names,y.2=.cell→scope.names.lookup y.1=some .cell
 loc:∀y∈scope.names,y.2=.local→scope.names.lookup y.1=some .local
 free:∀y∈scope.names,y.2=.free→esc.names.lookup y.1=some .cell∨esc.names.lookup y.1=some .free
 len:N'.length=L+src.length
 frees:∀(i j:Nat),src[i]?=some j→∃x,N'[L+i]?=some x∧N[j]?=some x∧scope.names.lookup x=some .free
theorem sO {esc:Scope}{N:List Str}{scope:Scope}{N':List Str}{L:Nat}{src:List Nat} (h:pA esc N scope N' L src=true):yX esc N scope N' L src:=by
 unfold pA at h
 simp only [Bool.and_eq_true,List.all_eq_true] at h
 obtain ⟨⟨⟨h1,h2⟩,h3⟩,h4⟩:=h
 refine ⟨by simpa using h1,fun y hy e=>?_,fun y hy e=>?_,fun y hy e=>?_,by simpa using h3,fun i j e=>?_⟩
 ·have:=(h2 y hy).1.1
  rw [e] at this
  simpa using this
 ·have:=(h2 y hy).1.2
  rw [e] at this
  simpa using this
 ·have:=(h2 y hy).2
  rw [e] at this
  simpa using this
 ·have hi:i<src.length:=(List.getElem?_eq_some_iff.mp e).1
  have:=h4 i (List.mem_range.mpr hi)
  rw [e] at this
  cases q:N'[L+i]? with
  | none=>rw [q] at this;simp at this
  | some x=>
   rw [q] at this
   simp only [Bool.and_eq_true,beq_iff_eq] at this
   exact ⟨x,rfl,this.1,this.2⟩
theorem jZ:∀(names:List (Str×NameKind)) (n:Nat) (acc acc':List (Str×Addr)),cellsFrom n names (acc++acc')=cellsFrom n names acc++acc'
 | [],_,_,_=>rfl
 | (name,kind) :: r,n,acc,acc'=>by
  unfold cellsFrom
  split
  ·exact jZ r (n+1) ((name,n) :: acc) acc'
  ·exact jZ r n acc acc'
theorem vV (names:List (Str×NameKind)) (n:Nat) (acc:List (Str×Addr)):cellsFrom n names acc=cellsFrom n names []++acc:=jZ names n [] acc
theorem jg {x:Str}{c:Addr}:∀(names:List (Str×NameKind)) (n:Nat) (acc:List (Str×Addr)),(x,c)∈cellsFrom n names acc→(x,NameKind.cell)∈names∨(x,c)∈acc
 | [],_,_,h=>.inr h
 | (name,kind) :: r,n,acc,h=>by
  unfold cellsFrom at h
  split at h
  ·rename_i hk
   rcases jg r (n+1) _ h with h | h
   ·exact .inl (List.mem_cons_of_mem _ h)
   ·rcases List.mem_cons.mp h with h | h
    ·injection h with h1 h2
     have hk':kind=.cell:=by simpa using hk
     rw [h1,hk'];exact .inl List.mem_cons_self
    ·exact .inr h
  ·rcases jg r n _ h with h | h
   ·exact .inl (List.mem_cons_of_mem _ h)
   ·exact .inr h
theorem jY {x:Str}:∀(names:List (Str×NameKind)) (n:Nat) (acc:List (Str×Addr)),(∃c,acc.lookup x=some c)→∃c,(cellsFrom n names acc).lookup x=some c
 | [],_,_,h=>h
 | (name,kind) :: r,n,acc,⟨c,h⟩=>by
  unfold cellsFrom
  split
  ·refine jY r (n+1) _ ?_
   rw [List.lookup_cons]
   cases hb:x==name with
   | true=>exact ⟨_,rfl⟩
   | false=>exact ⟨c,h⟩
  ·exact jY r n acc ⟨c,h⟩
theorem kT {x:Str}:∀(names:List (Str×NameKind)) (n:Nat) (acc:List (Str×Addr)),(x,NameKind.cell)∈names→∃c,(cellsFrom n names acc).lookup x=some c
 | (name,kind) :: r,n,acc,h=>by
  unfold cellsFrom
  rcases List.mem_cons.mp h with h | h
  ·injection h with h1 h2
   subst h1;subst h2
   rw [if_pos (show (NameKind.cell==NameKind.cell)=true from rfl)]
   exact jY r (n+1) _ ⟨n,by simp [List.lookup_cons]⟩
  ·split
   ·exact kT r (n+1) _ h
   ·exact kT r n acc h
theorem IH {M:Model}{A:Around}{E:Value→Shared→Prop}{s:Shared}{scope:Scope}{globals:Addr}{cl:List (Str×Addr)}{qual:Str}{env:Env}{Q:Env→Shared→Prop}
 (h:Q { scope:=scope,locals:=s.heap.objs.size,globals:=globals,cells:=cellsFrom (s.heap.objs.size+1) scope.names cl,qual:=qual,func:=none,code:=env.code,frame:=env.frame,builtins:=env.builtins }
  { s with heap:=pushCells (s.heap.push { cls:=.type "dict",data:=.dict #[] }) scope.names }) :
 wpAny M A (newFunctionEnv scope globals cl [] qual none .none (some env)) Q E s:=by
 simp only [newFunctionEnv,Option.isSome_some,if_true]
 refine wpAny_bind (wpAny_alloc ?_)
 refine wpAny_bind (wpAny_layCells _ (fun name kind cells=>by cases hkc:kind==NameKind.cell <;> simp [hkc]) _ _ _ _ ?_)
 rw [show ({ s with heap:=s.heap.push { cls:=.type "dict",data:=.dict #[] } }:Shared).heap.objs.size=s.heap.objs.size+1 from Heap.size_push ..]
 exact wpAny_bind (by rw [List.forIn_nil];exact wpAny_pure (wpAny_pure h))
section
variable {X:Cx}{elt tg iter:Expr}{ifs:List Expr}{scope:Scope}{pos:Pos}{N':List Str}{L:Nat}{src:List Nat}{wi:TI}{g:TG}{tt:TT}{te:TE}
theorem uZ (hc:X.calm=true) (ck:yX X.env.scope X.N scope N' L src) {cl:List (Str×Addr)}{pins:List (Addr×Obj)}{s:Shared}{σ:St}{H:Hp}{Q:VK} (I:af X pins σ H s)
 (hsub:∀x c,cl.lookup x=some c→X.env.cells.lookup x=some c) (hhas:∀y∈scope.names,y.2=.free→∃c,cl.lookup y.1=some c)
 (hi:PI X tg iter wi) (hg:∀cl C s H ex pn,PG (eG X scope cl C N' s H ex pn) tg g) (hif:∀cl C s H ex pn,xC (eG X scope cl C N' s H ex pn) ifs tt)
 (he:∀cl C s H ex pn,PE (eG X scope cl C N' s H ex pn) elt te) (h:wo wi L src g tt te σ H Q) {RR:Value→Addr→Result→Shared→Prop}
 (hRR:∀D C H' f s' m,af X pins σ H' s'→s'.heap.Ns C m→kS X pins H' C→Q (.ref D) H'→RR (.ref D) C (.ok f) s') :
 wpAny (model X.prog X.w) X.A (eval iter X.env) (fun x s₁=>wpAny (model X.prog X.w) X.A (pyIter x) (fun it s₂=>wpAny (model X.prog X.w) X.A (newList []) (fun acc s₃=>
  wpAny (model X.prog X.w) X.A (newFunctionEnv scope X.env.globals cl [] X.env.qual none .none (some X.env)) (fun cenv s₄=>
   codeAny (model X.prog X.w) X.A (.compStart (.ListComp elt [⟨tg,iter,ifs,0⟩] scope pos) 0 it acc { cenv with scope:=relabel scope X.env }) (RR acc cenv.locals) s₄) X.xe s₃) X.xe s₂) X.xe s₁) X.xe s:=by
 refine aW (hi pins s σ H _ I h) fun v s1 h1=>aW h1 fun itv s2 h2=>?_
 obtain ⟨it,fp,tn,J,H2,e,I2,T,st2,f2,q⟩:=h2
 subst e
 refine wpAny_newObj_type (IH ?_)
 dsimp only
 generalize hH2:s2.heap.push { cls:=.type "list",dict:=none,data:=.seq ([]:List Value).toArray }=hp2
 have hns₁:(pushCells (hp2.push { cls:=.type "dict",data:=.dict #[] }) scope.names).Ns hp2.objs.size fun _=>none:=(Heap.Ns.new hp2 (.type "dict")).keeps (pushCells_keeps _ _)
 have kp:∀b o,hp2.get? b=some o→(pushCells (hp2.push { cls:=.type "dict",data:=.dict #[] }) scope.names).get? b=some o:=fun b o e=>pushCells_keeps _ _ b o (Heap.get?_push_of_some _ e)
 have okc:=cellsFrom_ok scope.names (hp2.push { cls:=.type "dict",data:=.dict #[] }) (hp2.objs.size+1) [] ⟨fun _ _ hm=>(nomatch hm),List.Pairwise.nil⟩ (by rw [Heap.size_push];exact Nat.le_refl _)
 rw [Heap.size_push] at okc
 rw [vV]
 have ncell:∀x c,(cellsFrom (hp2.objs.size+1) scope.names []).lookup x=some c→(x,NameKind.cell)∈scope.names:=fun x c e=>(jg _ _ _ (PySem.mem_of_lookup e)).elim id (fun z=>by cases z)
 have nhas:∀x,(x,NameKind.cell)∈scope.names→∃c,(cellsFrom (hp2.objs.size+1) scope.names []).lookup x=some c:=fun x h=>kT _ _ _ h
 generalize pushCells (hp2.push { cls:=.type "dict",data:=.dict #[] }) scope.names=h₁ at hns₁ kp okc ⊢
 generalize cellsFrom (hp2.objs.size+1) scope.names []=nw at okc ncell nhas ⊢
 have hC:hp2.objs.size=s2.heap.objs.size+1:=by rw [←hH2,Heap.size_push]
 have hDC:s2.heap.objs.size≠hp2.objs.size:=by rw [hC];exact Nat.ne_of_lt (Nat.lt_succ_self _)
 have hCle:s2.heap.objs.size≤hp2.objs.size:=by rw [hC];exact Nat.le_succ _
 have below:∀b,b<s2.heap.objs.size→b≠hp2.objs.size∧b≠s2.heap.objs.size:=fun b hb=>⟨by rw [hC];exact Nat.ne_of_lt (Nat.lt_succ_of_lt hb),Nat.ne_of_lt hb⟩
 have old:∀b o,s2.heap.get? b=some o→h₁.get? b=some o:=fun b o e=>kp b o (hH2▸Heap.get?_push_of_some _ e)
 have hacc:h₁.get? s2.heap.objs.size=some { cls:=.type "list",dict:=none,data:=.seq ([]:List Value).toArray }:=kp _ _ (hH2▸Heap.get?_push_size _ rfl)
 have hDn:H2 s2.heap.objs.size=none:=I2.fresh
 obtain ⟨W,⟨m0,w0⟩,turn⟩:=q _ hDn
 have fpo:∀b∈fp,∃o,s2.heap.get? b=some o∧∀v,o.data≠.cell v:=T.obj _ _ st2
 have fplt:∀b∈fp,b<s2.heap.objs.size:=fun b hb=>by obtain ⟨o,e,_⟩:=fpo b hb;exact Heap.lt_size e
 have hfrs:∀b∈fp,b∉pJ X.stack:=fun b hb z=>by
  rcases List.mem_cons.mp (I2.stkSub b z) with z' | z'
  ·exact (f2 b hb).2.1 z'
  ·exact (f2 b hb).2.2.1 z'
 have spl:∀x c,(nw++cl).lookup x=some c→nw.lookup x=some c∨(nw.lookup x=none∧cl.lookup x=some c):=fun x c e=>by
  rw [List.lookup_append] at e
  cases q:nw.lookup x with
  | none=>rw [q] at e;exact .inr ⟨rfl,e⟩
  | some c'=>rw [q] at e;exact .inl e
 have nab:∀x c,nw.lookup x=some c→hp2.objs.size+1≤c:=fun x c e=>(okc.empty x c (PySem.mem_of_lookup e)).2
 have olt:∀x c,cl.lookup x=some c→c<s2.heap.objs.size:=fun x c e=>by
  obtain ⟨v,o,ho,_⟩:=I2.cell x c (hsub _ _ e)
  exact Heap.lt_size ho
 have n2o:∀x c y,nw.lookup x=some c→cl.lookup y=some c→False:=fun x c y e1 e2=>Nat.lt_irrefl c (Nat.lt_of_lt_of_le (olt y c e2) (Nat.le_trans hCle (Nat.le_of_succ_le (nab x c e1))))
 generalize hX:eG X scope (nw++cl) hp2.objs.size N' s2 H2 fp (X.pn++pins)=X'
 have ok':X'.Ok:=by
  subst hX
  refine ⟨I2.ok.mod,ck.kind,I2.ok.glob,I2.ok.blt,hCle,fun x y c e1 e2=>(spl x c e1).elim (fun g1=>(spl y c e2).elim (fun g2=>name_of_addr okc.apart (PySem.mem_of_lookup g1) (PySem.mem_of_lookup g2)) (fun g2=>(n2o x c y g1 g2.2).elim)) (fun g1=>(spl y c e2).elim (fun g2=>(n2o y c x g2 g1.2).elim) (fun g2=>I2.ok.inj x y c (hsub _ _ g1.2) (hsub _ _ g2.2))),fun x hx=>?_,fun x c z e=>?cab,I2.ok.hd,I2.ok.frames,.inl rfl,fun b hb=>⟨(below b (fplt b hb)).1,fun x c e=>(spl x c e).elim (fun g z=>Nat.lt_irrefl b (Nat.lt_of_lt_of_le (fplt b hb) (Nat.le_trans hCle (Nat.le_of_succ_le (z▸nab x c g))))) (fun g=>(f2 b hb).2.2.2.2.1 x c (hsub _ _ g.2))⟩,
   I2.bs,Nat.le_trans I2.ok.bsz I2.sz,fun b o e hb=>?_,hfrs,I2.stack,I2.stkFree⟩
  ·-- a name that is a cell or free
   have hx':(relabel scope X.env).names.lookup x=some .cell∨(relabel scope X.env).names.lookup x=some .free:=hx
   have key:∀(names:List (Str×NameKind)),
    ((names.map fun (n,k)=>if (k==NameKind.free && X.env.scope.kind==.function && X.env.kindOf n==some .cell) then (n,NameKind.cell) else (n,k)).lookup x=some .cell∨
     (names.map fun (n,k)=>if (k==NameKind.free && X.env.scope.kind==.function && X.env.kindOf n==some .cell) then (n,NameKind.cell) else (n,k)).lookup x=some .free)→∃y∈names,y.1=x∧(y.2=.free∨y.2=.cell):=by
    intro names
    induction names with
    | nil=>intro h;rcases h with h | h <;> simp at h
    | cons y r ih=>
     intro h
     obtain ⟨n,k⟩:=y
     by_cases hb:x=n
     ·subst hb
      refine ⟨(x,k),List.mem_cons_self,rfl,?_⟩
      by_cases hk:k=.free
      ·exact .inl hk
      ·have hkb:(k==NameKind.free)=false:=by simpa using hk
       right
       simp only [List.map_cons,hkb,Bool.false_and,Bool.false_eq_true,if_false,List.lookup_cons,beq_self_eq_true,if_true] at h
       rcases h with h | h
       ·exact Option.some.inj h
       ·exact absurd (Option.some.inj h) hk
     ·have hb':(x==n)=false:=by simpa using hb
      have h':((r.map fun (n,k)=>if (k==NameKind.free && X.env.scope.kind==.function && X.env.kindOf n==some .cell) then (n,NameKind.cell) else (n,k)).lookup x=some .cell∨
       (r.map fun (n,k)=>if (k==NameKind.free && X.env.scope.kind==.function && X.env.kindOf n==some .cell) then (n,NameKind.cell) else (n,k)).lookup x=some .free):=by
       rw [List.map_cons] at h
       dsimp only at h
       by_cases hcnd:(k==NameKind.free && X.env.scope.kind==.function && X.env.kindOf n==some .cell)=true
       ·rw [if_pos hcnd] at h
        simpa only [List.lookup_cons,hb'] using h
       ·rw [if_neg hcnd] at h
        simpa only [List.lookup_cons,hb'] using h
      obtain ⟨y,hy,e1,e2⟩:=ih h'
      exact ⟨y,List.mem_cons_of_mem _ hy,e1,e2⟩
   obtain ⟨y,hy,e1,e2⟩:=key scope.names hx'
   show ∃c,(nw++cl).lookup x=some c
   rw [List.lookup_append]
   cases q:nw.lookup x with
   | some c=>exact ⟨c,rfl⟩
   | none=>
    rcases e2 with e2 | e2
    ·obtain ⟨c,hc'⟩:=hhas y hy e2
     exact ⟨c,by rw [←e1,hc'];rfl⟩
    ·obtain ⟨c,hc'⟩:=nhas x (by obtain ⟨y1,y2⟩:=y;dsimp only at e1 e2;rw [←e1,←e2];exact hy)
     rw [q] at hc';cases hc'
  case cab=>
   have z':(scope.names.lookup x==some NameKind.cell)=true:=z
   obtain ⟨c',hc'⟩:=nhas x (PySem.mem_of_lookup (by simpa using z'))
   rcases spl x c e with g | g
   ·have:=nab x c g
    show s2.heap.objs.size≤c
    trivial
   ·rw [hc'] at g;cases g.1
  ·rcases (f2 b hb).2.2.2.1 with z | z
   ·exact I2.ok.noex b o e z
   ·exact absurd (Nat.lt_of_lt_of_le (Heap.lt_size e) (Nat.le_trans I2.ok.bsz z)) (Nat.lt_irrefl _)
 have stat:∀{H':Hp},(∀b∈fp,H' b=none)→∀b∈fp,kS X' [] H' b:=by
  subst hX
  intro H' hn b hb
  refine ⟨hn b hb,(below b (fplt b hb)).1,hfrs b hb,.inl hb,fun x c e=>(spl x c e).elim (fun g z=>Nat.lt_irrefl b (Nat.lt_of_lt_of_le (fplt b hb) (Nat.le_trans hCle (Nat.le_of_succ_le (z▸nab x c g))))) (fun g=>(f2 b hb).2.2.2.2.1 x c (hsub _ _ g.2)),fun p hp=>?_⟩
  have hp':p∈X.pn++pins:=by simpa [eG,xB] using hp
  exact (f2 b hb).2.2.2.2.2 p hp'
 have I1:af X' [] (nY L src σ) (bN H2 s2.heap.objs.size (.lst [])) { s2 with heap:=h₁,toks:=s2.toks }:=by
  subst hX
  have up:∀b o,H2 b=some o→bN H2 s2.heap.objs.size (.lst []) b=some o:=fun b o e=>by rw [aT (bc e hDn)];exact e
  have upn:∀b,b<s2.heap.objs.size→H2 b=none→bN H2 s2.heap.objs.size (.lst []) b=none:=fun b hb e=>by rw [aT (Nat.ne_of_lt hb)];exact e
  refine ⟨ok',rfl,I2.bare,Un.laid old (Nat.le_refl _) hDn,⟨_,hns₁,fun i x v e1 e2 e3=>?_⟩,fun x c e=>?_,?_,fun x c e=>?_,fun p hp=>?_,I2.hok.laid old (Nat.le_refl _) ⟨Nat.zero_le _,[],0,.nil,hacc⟩,?_⟩
  ·-- the names of the def around
   have hiL:L≤i:=by
    by_cases hlt:i<L
    ·exfalso
     unfold nY at e2
     rw [List.getElem?_append_left (by simpa using hlt),List.getElem?_replicate,if_pos hlt] at e2
     cases e2
    ·trivial
   have e2':(src.map fun j=>(σ[j]?).join)[i - L]?=some (some v):=by
    unfold nY at e2
    rw [List.getElem?_append_right (by simpa using hiL),List.length_replicate] at e2
    exact e2
   rw [List.getElem?_map] at e2'
   cases hj:src[i - L]? with
   | none=>rw [hj] at e2';cases e2'
   | some j=>
    rw [hj] at e2'
    have e3':(σ[j]?).join=some v:=Option.some.inj e2'
    have hσ:σ[j]?=some (some v):=by
     cases q:σ[j]? with
     | none=>rw [q] at e3';cases e3'
     | some o=>rw [q] at e3';exact congrArg some e3'
    obtain ⟨x',g1,g2,g3⟩:=ck.frees (i - L) j hj
    have:L+(i - L)=i:=by trivial
    rw [this] at g1
    have ex:x'=x:=Option.some.inj (g1.symm.trans e1)
    subst ex
    have hfree:=ck.free _ (PySem.mem_of_lookup g3) rfl
    obtain ⟨m,hn,hl⟩:=I2.loc
    obtain ⟨u,r,l⟩:=hl j x' v g2 hσ (hfree.elim (fun z=>.inr (.inl z)) fun z=>.inr (.inr z))
    refine ⟨u,r,.inr ⟨?_,?_⟩⟩
    ·-- its kind in the block
     have key:∀(names:List (Str×NameKind)),names.lookup x'=some .free→
      ((names.map fun (n,k)=>if (k==NameKind.free && X.env.scope.kind==.function && X.env.kindOf n==some .cell) then (n,NameKind.cell) else (n,k)).lookup x'=some .cell∨
       (names.map fun (n,k)=>if (k==NameKind.free && X.env.scope.kind==.function && X.env.kindOf n==some .cell) then (n,NameKind.cell) else (n,k)).lookup x'=some .free):=by
      intro names
      induction names with
      | nil=>intro h;simp at h
      | cons y r ih=>
       intro h
       obtain ⟨n,k⟩:=y
       by_cases hb:x'=n
       ·subst hb
        simp only [List.lookup_cons,beq_self_eq_true,if_true] at h
        have hk:k=.free:=Option.some.inj h
        subst hk
        rw [List.map_cons]
        dsimp only
        by_cases hcnd:(NameKind.free==NameKind.free && X.env.scope.kind==.function && X.env.kindOf x'==some .cell)=true
        ·rw [if_pos hcnd];left;simp [List.lookup_cons]
        ·rw [if_neg hcnd];right;simp [List.lookup_cons]
       ·have hb':(x'==n)=false:=by simpa using hb
        have h':=ih (by simpa only [List.lookup_cons,hb'] using h)
        rw [List.map_cons]
        dsimp only
        by_cases hcnd:(k==NameKind.free && X.env.scope.kind==.function && X.env.kindOf n==some .cell)=true
        ·rw [if_pos hcnd];simpa only [List.lookup_cons,hb'] using h'
        ·rw [if_neg hcnd];simpa only [List.lookup_cons,hb'] using h'
     exact key scope.names g3
    ·obtain ⟨c,hcl⟩:=hhas _ (PySem.mem_of_lookup g3) rfl
     have hcx:=hsub _ _ hcl
     rcases l with ⟨k1,_⟩ | ⟨_,c',e4,z⟩
     ·exfalso
      have k1':X.env.scope.names.lookup x'=some .local:=k1
      rcases hfree with z | z
      ·rw [z] at k1';cases k1'
      ·rw [z] at k1';cases k1'
     ·rw [hcx] at e4
      cases e4
      obtain ⟨o,ho,hd⟩:=z
      refine ⟨c,?_,o,old _ _ ho,hd⟩
      show (nw++cl).lookup x'=some c
      rw [List.lookup_append]
      cases q:nw.lookup x' with
      | none=>exact hcl
      | some c'=>
       exfalso
       have:=ck.cells _ (ncell _ _ q) rfl
       dsimp only at this
       rw [g3] at this;cases this
  ·rcases spl x c e with g | g
   ·exact ⟨none,(okc.empty x c (PySem.mem_of_lookup g)).1⟩
   ·obtain ⟨v,o,ho,hd⟩:=I2.cell x c (hsub _ _ g.2)
    exact ⟨v,o,old _ _ ho,hd⟩
  ·show bN H2 s2.heap.objs.size (.lst []) hp2.objs.size=none
   rw [aT (Ne.symm hDC)]
   exact I2.hok.fresh hCle
  ·rcases spl x c e with g | g
   ·have:=nab x c g
    rw [aT (by intro z;rw [z] at this;trivial)]
    exact I2.hok.fresh (by trivial)
   ·obtain ⟨v,o,ho,hd⟩:=I2.cell x c (hsub _ _ g.2)
    exact upn c (Heap.lt_size ho) (I2.freeC x c (hsub _ _ g.2))
  ·have hp':p∈X.pn++pins:=by simpa [eG,xB] using hp
   obtain ⟨e,n,ne,nf,d⟩:=I2.pin p hp'
   have hlt:=Heap.lt_size e
   refine ⟨old _ _ e,upn _ hlt n,(below _ hlt).1,fun z=>?_,d⟩
   rcases List.mem_cons.mp (I2.stkSub _ z) with z' | z'
   ·exact ne z'
   ·exact nf z'
  ·show (nY L src σ).length=N'.length
   unfold nY
   rw [List.length_append,List.length_replicate,List.length_map,ck.len]
 have eA:X'.A=X.A:=by subst hX;rfl
 have eP:X'.prog=X.prog:=by subst hX;rfl
 have eW:X'.w=X.w:=by subst hX;rfl
 have eK:X'.K=X.K:=by subst hX;rfl
 have ec:X'.calm=true:=by subst hX;exact hc
 have exe:X'.xe=fun _ _=>False:=by subst hX;rfl
 have eE:X'.env=compEnvC scope (nw++cl) hp2.objs.size X.env:=by subst hX;rfl
 have hg':PG X' tg g:=by subst hX;exact hg _ _ _ _ _ _
 have hif':xC X' ifs tt:=by subst hX;exact hif _ _ _ _ _ _
 have he':PE X' elt te:=by subst hX;exact he _ _ _ _ _ _
 have aft:∀{H':Hp}{s':Shared},af X' [] (nY L src σ) H' s'→af X pins σ H' s'∧(∃m,s'.heap.Ns hp2.objs.size m)∧kS X pins H' hp2.objs.size:=by
  subst hX
  intro H' s' J
  refine ⟨I2.call' (ch:=fp) J.os J.base J.hok J.bare fun b hb=>⟨(f2 b hb).2.2.2.1,(f2 b hb).2.1,(f2 b hb).2.2.2.2.1,(f2 b hb).2.2.2.2.2⟩,?_,I2.fpOk hCle J.free⟩
  obtain ⟨m,hn,_⟩:=J.loc
  exact ⟨m,hn⟩
 have st1:tn 0 h₁:=T.keep _ _ _ st2 fun b hb o e=>old b o e
 have loop:∀s₃:Shared,s₃={ s2 with heap:=h₁,toks:=s2.toks }→
  codeAny (model X.prog X.w) X.A (.compLoop (.ListComp elt [⟨tg,iter,ifs,0⟩] scope pos) 0 (.ref it) (.ref s2.heap.objs.size) (compEnvC scope (nw++cl) hp2.objs.size X.env))
   (RR (.ref s2.heap.objs.size) hp2.objs.size) s₃:=by
  rintro s₃ rfl
  refine xN (fun n s'=>eV fun i H' ys=>af X' [] (nY L src σ) H' s'∧tn i s'.heap∧(∀b∈fp,H' b=none)∧W i n H' ys) ?_ m0
   ⟨0,_,[],I1,st1,fun b hb=>(by rw [aT (below b (fplt b hb)).2];exact (f2 b hb).1),w0⟩
  rintro n s3 ⟨i,H3,ys,I3,st3,fr3,w3⟩
  obtain ⟨hD,alt⟩:=turn i n H3 ys w3
  rcases alt with ⟨stop,qn⟩ | ⟨go,hlen,N,hN,step⟩
  ·have d:=T.done X' eP eW eK ec i [] s3 (nY L src σ) H3 (fun _ _=>False) I3 (stat fr3) st3 stop
   rw [eA] at d
   refine aW d fun r s4 ⟨hr,I4⟩=>?_
   subst hr
   obtain ⟨J,⟨m,hn⟩,fpC⟩:=aft I4
   exact hRR _ _ H3 .next s4 m J hn fpC qn
  ·have d:=T.item X' eP eW eK ec i [] s3 (nY L src σ) H3 (fun _ _=>False) I3 (stat fr3) st3 go
   rw [eA] at d
   refine aW d fun r s4 ⟨u,hr,h4⟩=>?_
   subst hr
   refine aW h4 fun _ s5 ⟨x,H5,I5,r5,y5,st5,fr5⟩=>?_
   have I5':=I5.pinned (stat fr5) (T.obj _ _ st5)
   have a1:=hg' _ s5 (nY L src σ) H5 x u _ I5' r5 (step x H5 y5)
   rw [eP,eW,eA,eE,exe] at a1
   refine aW a1 fun _ s6 ⟨σ6,H6,I6,bk,q6⟩=>?_
   have a2:=hif' _ s6 σ6 H6 _ I6 q6
   rw [eP,eW,eA,eE,exe] at a2
   refine aW a2 fun b s7 ⟨H7,I7,q7⟩=>?_
   have again:∀{H8:Hp}{s8:Shared}{ys':List V},af X' ([]++qp fp s5.heap) σ6 H8 s8→N H8 ys'→∃m,m<n∧eV fun i H' ys=>af X' [] (nY L src σ) H' s8∧tn i s8.heap∧(∀b∈fp,H' b=none)∧W i m H' ys:=fun {H8 s8 ys'} I8 n8=>by
    obtain ⟨m',hm,w8⟩:=hN H8 ys' n8
    refine ⟨m',hm,i+1,H8,ys',(I8.unpinned).weak bk.1.symm bk.2,T.keep _ _ _ st5 fun b hb o e=>(I8.pin (b,o) (List.mem_append_right _ (List.mem_append_right _ (lG hb e)))).1,fun b hb=>?_,w8⟩
    obtain ⟨o,e,d⟩:=T.obj _ _ st5 b hb
    exact (I8.pin (b,o) (List.mem_append_right _ (List.mem_append_right _ (lG hb e)))).2.1
   cases b with
   | false=>
    rw [if_neg Bool.false_ne_true] at q7 ⊢
    exact again I7 q7
   | true=>
    rw [if_pos rfl] at q7 ⊢
    have a3:=he' _ s7 σ6 H7 _ I7 q7
    rw [eP,eW,eA,eE,exe] at a3
    refine aW a3 fun xv s8 ⟨y,H8,I8,r8,hD8,q8⟩=>?_
    have a4:=vg (X:=X') _ s8 σ6 H8 (.ref s2.heap.objs.size) [y] (.ref s2.heap.objs.size) [xv] (fun _ H'=>H'=bN H8 s2.heap.objs.size (.lst (ys++[y]))) I8 rfl (.cons r8 .nil) ⟨_,ys,y,rfl,rfl,hD8,hlen,rfl⟩
    rw [eP,eW,eA,exe] at a4
    refine aW a4 fun _ s9 ⟨_,H9,I9,_,e9⟩=>?_
    subst e9
    exact again I9 q8
 exact codeAny_compStart_list (loop _ rfl) (T.self _ 0 _ _ _ st1 (loop _ rfl))
theorem bA (hc:X.calm=true) (ck:pA X.env.scope X.N scope N' L src=true) (hi:PI X tg iter wi) (hg:∀cl C s H ex pn,PG (eG X scope cl C N' s H ex pn) tg g) (hif:∀cl C s H ex pn,xC (eG X scope cl C N' s H ex pn) ifs tt)
 (he:∀cl C s H ex pn,PE (eG X scope cl C N' s H ex pn) elt te) (hs:∀x,foldedSetIterable iter X.env x=pure x:=by intro _;rfl) :
 PE X (.ListComp elt [⟨tg,iter,ifs,0⟩] scope pos) (wo wi L src g tt te):=by
 intro pins s σ H Q I h
 have ck:=sO ck
 obtain ⟨cl,hclos,hsub,hhas⟩:=yL (scope:=scope) (env:=X.env) fun y hy e=>I.ok.has y.1 (ck.free y hy e)
 rw [eval_ListComp]
 refine wpAny_comprehension_free (use:=none) rfl hs hclos ck.kind ck.loc (uZ hc ck I hsub hhas hi hg hif he h (RR:=fun acc C=>compPost (model X.prog X.w) X.A X.xe none (EP X pins σ Q) acc C) ?_)
 intro D C H' f s' m J hn fpC q
 refine ⟨m,hn,fun h' hsb=>⟨.ref D,H',?_,rfl,q⟩⟩
 obtain ⟨f0,f1,f2,f3,f4,f5⟩:=fpC
 exact J.turned (t':=s'.toks) (fun b o hb e=>(hsb.2 b hb).trans e) f0 f1 f3 f4 f5
theorem yh {j:Nat}{y:Str}{py spos:Pos} (hN:X.N.Nodup) (hj:X.N[j]?=some y) (hy:X.env.scope.names.lookup y=some .local) (hsw:swapsWith (.ListComp elt [⟨tg,iter,ifs,0⟩] scope pos) (some (.Name y py)) spos.line X.env=pure true)
 (hc:X.calm=true) (ck:pA X.env.scope X.N scope N' L src=true) (hi:PI X tg iter wi) (hg:∀cl C s H ex pn,PG (eG X scope cl C N' s H ex pn) tg g) (hif:∀cl C s H ex pn,xC (eG X scope cl C N' s H ex pn) ifs tt)
 (he:∀cl C s H ex pn,PE (eG X scope cl C N' s H ex pn) elt te) (hs:∀x,foldedSetIterable iter X.env x=pure x:=by intro _;rfl) :
 PS X (.Assign [.Name y py] (.ListComp elt [⟨tg,iter,ifs,0⟩] scope pos) spos) (qI (wo wi L src g tt te) (iA j)):=by
 intro pins s σ H D I h
 have ck:=sO ck
 obtain ⟨cl,hclos,hsub,hhas⟩:=yL (scope:=scope) (env:=X.env) fun y hy e=>I.ok.has y.1 (ck.free y hy e)
 rw [exec_Assign_Name_used _ _ _ _ hsw]
 refine wpAny_bind (wpAny_standAt (wpAny_bind ?_))
 show wpAny _ X.A (do let _ ←comprehension (.ListComp elt [⟨tg,iter,ifs,0⟩] scope pos) scope X.env _ (newList []) false (eval iter X.env) (some (assign (.Name y py) X.env))) _ _ s
 refine wpAny_bind (wpAny_mono (wpAny_comprehension_free (use:=some (assign (.Name y py) X.env)) (Q:=fun _ s'=>SP X pins D .next s') rfl hs hclos ck.kind ck.loc
  (uZ hc ck I hsub hhas hi hg hif he h (RR:=fun acc C=>compPost (model X.prog X.w) X.A X.xe (some (assign (.Name y py) X.env)) (fun _ s'=>SP X pins D .next s') acc C) ?_)) (fun _ s' hq=>wpAny_pure (wpAny_pure hq)) fun _ _ e=>e)
 intro L' C H' f s' m J hn fpC q
 show wpAny _ X.A (assign (.Name y py) X.env (.ref L')) _ _ _
 refine wpAny_assign_Name (vE J hN hj (.inl hy) (v:=.ref L') rfl (fun s2 J2 hsb=>?_) (.inr hy))
 obtain ⟨f0,f1,f2,f3,f4,f5⟩:=fpC
 obtain ⟨a,hsb,ha⟩:=hsb
 have hCa:C≠a:=by
  rcases ha with rfl | ha
  ·exact f1
  ·exact fun z=>f4 _ _ ha z.symm
 refine ⟨m,hn.sameBut hsb hCa,fun h' hsb'=>⟨_,H',?_,q⟩⟩
 exact J2.turned (t':=s2.toks) (fun b o hb e=>(hsb'.2 b hb).trans e) f0 f1 f3 f4 f5
end
end L2
namespace HT
open PySem PySem.Spec PyProof.Rows
section
variable {prog:Program}{w:World}{A:Around}{E:Value→Shared→Prop}{s:Shared}
theorem cat_tup0 {t b:Addr}{vs ws:List Value}{Q:Value→Shared→Prop} (ht:IsTup s.heap t vs.toArray) (hb:IsTup s.heap b ws.toArray) (hv:vs=[]) (h1:Q (.ref b) s):wpAny (model prog w) A (binaryOp .Add (.ref t) (.ref b)) Q E s:=by
 obtain ⟨⟨cls,dd,data,sl⟩,ho,hc,n,hd⟩:=id ht
 obtain ⟨⟨cls2,dd2,data2,sl2⟩,ho2,hc2,n2,hd2⟩:=id hb
 simp only at hc hd hc2 hd2
 subst hc hd hc2 hd2
 exact concat_meets ⟨_,ho,rfl⟩ ⟨_,ho2,rfl⟩ noFill_tuple_add seq_tuple_add PySem.F.slot_tuple_add PySem.F.entry_tuple_add (PySem.F.args_tuple_add_2 _ _)
  (tuple_addW0 t b vs.toArray ws.toArray n n2 dd dd2 sl sl2 (by simp [hv])) ⟨ho,ho2,h1⟩
theorem BL (xs:Array Value):((List.range xs.size).filterMap fun (k:Nat)=>xs[(((xs.size:Int) - 1)+(k:Int)*(-1)).toNat]?).toArray=xs.toList.reverse.toArray:=by
 have e:((List.range xs.size).filterMap fun (k:Nat)=>xs[(((xs.size:Int) - 1)+(k:Int)*(-1)).toNat]?)=((List.range xs.size).map fun k=>xs.size - 1 - k).filterMap fun (k:Nat)=>xs[k]?:=by
  rw [List.filterMap_map]
  have f:(fun (k:Nat)=>xs[(((xs.size:Int) - 1)+(k:Int)*(-1)).toNat]?)=((fun k=>xs[k]?) ∘ fun k=>xs.size - 1 - k):=by
   funext k
   show _=xs[xs.size - 1 - k]?
   congr 1
   trivial
  rw [f]
 rw [e,PySem.W.krv_range,List.filterMap_reverse,PySem.W.krv_all]
theorem zv (n:Nat):Builtin.Slice.slicePlaces ((n:Int) - 1) (-1) (-1)=n:=by
 unfold Builtin.Slice.slicePlaces
 have h1:¬((-1:Int) > 0):=by decide
 simp only [h1,if_false]
 by_cases h:(n:Int) - 1 > -1
 ·simp only [h,if_true]
  rw [show (-(-1):Int)=1 by decide,Int.ediv_one]
  trivial
 ·simp only [h,if_false]
  trivial
theorem sy {sl:Addr}{vk:Value}{n:Nat}{R:Int×Int×Nat→Shared→Prop} (hs:s.heap.IsSliceOf sl .none .none vk) (pk:IsPart vk (some (-1))) (r:R (((n:Int) - 1),-1,n) s):wpAny (model prog w) A (Builtin.Slice.sliceApplied (.ref sl) (pure (n:Int))) R E s:=by
 obtain ⟨os,hos,hcs,hds⟩:=id hs
 unfold Builtin.Slice.sliceApplied Builtin.Slice.sliceFields
 refine wpAny_bind (wpAny_bind (wpAny_field hos hds (x:=.none) rfl (wpAny_bind (wpAny_field hos hds (x:=.none) rfl (wpAny_bind (wpAny_field hos hds (x:=vk) rfl (wpAny_pure ?_)))))))
 refine wpAny_bind (oO pk ?_)
 show wpAny _ _ (if ((-1:Int)==0)=true then _ else _) _ _ s
 rw [if_neg (by decide)]
 refine wpAny_bind (slicePart_none (wpAny_bind (slicePart_none (wpAny_bind (wpAny_pure ?_)))))
 show wpAny _ _ (pure (((n:Int) - 1),(-1:Int),Builtin.Slice.slicePlaces ((n:Int) - 1) (-1) (-1))) _ _ s
 rw [zv]
 exact wpAny_pure r
theorem getItem_tuple_rev {t sl:Addr}{items:Array Value}{vk:Value}{Q:Value→Shared→Prop} (ht:IsTup s.heap t items) (hs:s.heap.IsSliceOf sl .none .none vk) (pk:IsPart vk (some (-1)))
 (h:Q (.ref s.heap.objs.size) { s with heap:=s.heap.push { cls:=.type "tuple",data:=.seq items.toList.reverse.toArray } })
 (hsz:items.size≤sizeLine):wpAny (model prog w) A (getItem (.ref t) (.ref sl)) Q E s:=by
 have htake:sizeOk (.seq items.toList.reverse.toArray):=by
  show items.toList.reverse.toArray.size≤sizeLine
  rw [List.size_toArray,List.length_reverse,Array.length_toList]
  exact hsz
 obtain ⟨os,hos,hcs,hds⟩:=id hs
 have hTs:s.TypeIs (.ref sl) "slice" := ⟨os,hos,hcs⟩
 unfold getItem
 try with_reducible refine wpAny_holding ?_
 first | refine wpAny_bind (wpAny_pure ?_) | skip
 refine wpAny_bind (wpAny_sequenceKey ht.typeIs (by decide) ?_)
 refine wpAny_bind (wpAny_callSpecial?_slot (name:=Str.ofString "__getitem__") ht.typeIs PyProof.Rows.slot_tuple_getitem
  (wpAny_call_entry PyProof.Rows.slot_tuple_getitem ht.typeIs entry_tuple_getitem ?_ (args_tuple_getitem _ _)))
 show wpAny _ _ (Builtin.Tuple.tupleItemsOf (.ref t) >>= _) _ _ s
 refine wpAny_bind (tupleItemsOf_ ht ?_)
 refine wpAny_bind (wpAny_typeOf hTs ?_)
 rw [if_pos (by decide)]
 refine wpAny_bind (sy hs pk ?_)
 have hno:¬((((items.size:Int) - 1)==0 && (-1:Int)==1 && items.size==items.size)=true):=by
  intro q
  rw [Bool.and_eq_true,Bool.and_eq_true] at q
  exact absurd q.1.2 (by decide)
 show wpAny _ _ (if (((items.size:Int) - 1)==0 && (-1:Int)==1 && items.size==items.size)=true then _ else _) _ _ s
 rw [if_neg hno,BL]
 first
  | exact wpAny_bind (m:=Builtin.Tuple.tupleExact _) (wpAny_newObj_type (wpAny_pure ⟨_,rfl,wpAny_pure h⟩) htake)
  | exact wpAny_bind (m:=Builtin.Tuple.tupleExact _) (wpAny_newObj_type (wpAny_bind (wpAny_pure (wpAny_pure ⟨_,rfl,wpAny_pure h⟩))) htake)
end
end HT
namespace L2
open PySem PySem.Spec PyProof.Rows
section
variable {X:Cx}{K:PySem.W.Frag}
theorem AO (x:Str) (h:∀c∈x.cps.toList,c<128):(Txt.upper x).length=x.length∧∀c∈(Txt.upper x).cps.toList,c<128:=by
 obtain ⟨l,rfl⟩:∃l,x=S l:=⟨_,(pX x).symm⟩
 rw [tM] at h
 have key:∀l:List Nat,(∀c∈l,c<128)→∃m:List Nat,Txt.upper (S l)=S m∧m.length=l.length∧∀c∈m,c<128:=by
  intro l
  induction l with
  | nil=>exact fun _=>⟨[],by nofun,rfl,fun c hc=>by cases hc⟩
  | cons c r ih=>
   intro h
   obtain ⟨m,e,lm,hm⟩:=ih fun d hd=>h d (List.mem_cons_of_mem _ hd)
   have hc:=h c (by simp)
   refine ⟨(if 97≤c∧c≤122 then c - 32 else c) :: m,?_,by simp [lm],fun d hd=>?_⟩
   ·have e1:S (c :: r)=(⟨#[c]⟩:Str)++S r:=sM [c] r |>.symm
    rw [e1,PySem.W.KOpn.upper_app,PySem.W.KOpn.upper_one hc,e]
    exact sM [if 97≤c∧c≤122 then c - 32 else c] m
   ·rcases List.mem_cons.mp hd with rfl | hd
    ·split <;> trivial
    ·exact hm d hd
 obtain ⟨m,e,lm,hm⟩:=key l h
 rw [e,fq,fq,tM]
 exact ⟨lm,hm⟩
inductive GH (x:V) (vs:List V) (H:Hp) (Q:VK):Prop
 | mk (a:_) (m:_) (h0:x=.str a) (h1:vs=[]) (h2:kX m a) (h3:m≤10000) (h4:∀c,kX m c→Q (.str c) H)
def IU:V→List V→Hp→VK→Prop:=fun x vs H Q=>GH  x vs H Q
theorem CH:yB X "str.upper" IU:=by
 intro pins s σ H x vs v us Q I rx rv h
 obtain ⟨a,m,rfl,rfl,ta,hm,q⟩:=h
 obtain ⟨t,rfl⟩:=rx
 cases rv
 have u:=AO a ta.2
 refine PyProof.Rows.SCL.upper (by have:=ta.1;trivial) fun _=>⟨.str _,H,I.tok _,⟨()⟩,q _ ⟨by rw [u.1];exact ta.1,u.2⟩⟩
def Ob (c:Bool) (H:Hp) (a:Addr) (xs:List V):Prop:=H a=some (if c=true then .lst xs else .tup xs)
theorem Ob.sm {c:Bool}{H H':Hp}{a:Addr}{xs:List V} (h:Ob c H a xs) (s:ad H H'):Ob c H' a xs:=s _ _ h
inductive GM (x:V) (lo:Option Int) (hi:Option Int) (H:Hp) (Q:VK):Prop
 | mk (c:_) (a:_) (xs:_) (h0:x=.ref a) (h1:Ob c H a xs) (h2:∀p H',ad H H'→Ob c H' p (cS xs lo hi)→(c=true→H p=none)→Q (.ref p) H')
def IR:V→Option Int→Option Int→Hp→VK→Prop:=fun x lo hi H Q=>GM  x lo hi H Q
theorem oW:xm X IR:=by
 intro pins s σ H x v vl vu lo hi sl Q I rx hs pl pu h
 obtain ⟨c,a,xs,e,hx,q⟩:=h
 cases c with
 | true=>exact oE rfl pins s σ H x v vl vu lo hi sl Q I rx hs pl pu ⟨a,xs,e,aE.of hx,fun p H' n=>q p H' n.sm n.at' fun _=>n.fr⟩
 | false=>exact b6 rfl pins s σ H x v vl vu lo hi sl Q I rx hs pl pu ⟨a,xs,e,ak.of hx,hx,fun p H' s' h'=>q p H' s' h' fun z=>(by cases z)⟩
inductive FY (x:V) (y:V) (H:Hp) (Q:VK):Prop
 | mk (c:_) (a:_) (b:_) (xs:_) (ys:_) (h0:x=.ref a) (h1:y=.ref b) (h2:Ob c H a xs) (h3:Ob c H b ys) (h4:xs.length+ys.length≤10000) (h5:∀p H',ad H H'→Ob c H' p (xs++ys)→(c=true→H p=none)→Q (.ref p) H')
def G0:R2:=fun x y H Q=>FY  x y H Q
theorem lH:cn X (binaryOp .Add) G0:=by
 intro pins s σ H x y v u Q I rx ry h
 obtain ⟨c,a,b,xs,ys,e1,e2,ha,hb,hz,q⟩:=h
 cases c with
 | true=>exact jN pins s σ H x y v u Q I rx ry ⟨a,b,xs,ys,e1,e2,ha,hb,hz,fun p H' n=>q p H' n.sm n.at' fun _=>n.fr⟩
 | false=>
  by_cases hx:xs=[]
  ·subst e1 e2
   cases rx
   cases ry
   obtain ⟨its,r1,p1,_⟩:=I.tuple (ak.of ha)
   obtain ⟨its2,r2,p2,_⟩:=I.tuple (ak.of hb)
   refine HT.cat_tup0 p1 p2 (r1.nil_iff.mpr hx) ⟨.ref b,H,I,rfl,q b H (ad.refl _) ?_ fun z=>(by cases z)⟩
   rw [hx];exact hb
  ·exact wR rfl pins s σ H x y v u Q I rx ry ⟨a,b,xs,ys,e1,e2,ak.of ha,ha,ak.of hb,hx,hz,fun p H' s' h'=>q p H' s' h' fun z=>(by cases z)⟩
end
section
variable {X:Cx}{e:Expr}{te:TE}{st:Expr}{ts:TO}{p2 pos:Pos}
def Hh:V→Hp→VK→Prop:=fun x H Q=>(cj fun a m=>x=.str a∧kX m a∧m≤10000∧∀c,kX m c→Q (.str c) H)∨
 eV fun c a xs=>x=.ref a∧Ob c H a xs∧∀p H',ad H H'→Ob c H' p xs.reverse→H p=none→Q (.ref p) H'
def GK (te:TE) (ts:TO):TE:=fun σ H Q=>te σ H fun x H1=>ts σ H1 fun k H2=>k=some (-1)∧Hh x H2 Q
theorem DI (he:PE X e te) (hst:PO X (some st) ts):PE X (.Subscript e (.Slice none none (some st) p2) pos) (GK te ts):=by
 intro pins s σ H Q I h
 refine Subscript_ (aW (he pins s σ H _ I h) fun v s1 ⟨x,H1,I1,r1,q1⟩=>?_)
 refine wpAny_Slice ?_
 rw [evalPart_none]
 refine wpAny_pure (wpAny_pure (aW (hst pins s1 σ H1 _ I1 q1) fun vs s3 ⟨k,H3,I3,pk,q3⟩=>?_))
 obtain ⟨rfl,q3⟩:=q3
 have I4:af X pins σ H3 { s3 with heap:=s3.heap.push { cls:=.type "slice",data:=.fields #[.none,.none,vs] } }:=I3.kept (t':=s3.toks) fun b ob q=>Heap.get?_push_of_some _ q
 rcases q3 with ⟨a,m,rfl,ta,hm,q⟩ | ⟨c,a,xs,rfl,hx,q⟩
 ·obtain ⟨t,rfl⟩:=r1
  obtain ⟨tk,ei⟩:∃(tk:Tok),vs=.int (-1) tk:=by
   cases pk with
   | int i t=>exact ⟨t,rfl⟩
  subst ei
  show wpAny (model X.prog X.w) X.A (subscriptTail e (.Slice none none (some st) p2) (.str a t) (.ref s3.heap.objs.size)) (EP X pins σ Q) X.xe { s3 with heap:=s3.heap.push { cls:=.type "slice",data:=.fields #[.none,.none,.int (-1) tk] } }
  refine tail_any (ops:=[.str a t,.ref s3.heap.objs.size]) (typeIs_str _ a t) F.slot_str_getitem.lookup ?_ (by with_unfolding_all rfl)
  refine wpAny_getItem_str_slice (l:=none) (u:=none) (st:=some (-1,tk)) ⟨_,Heap.get?_push_size _ rfl,rfl,rfl⟩ rfl ?_
  unfold sliceMade
  rw [if_neg (by intro z;rw [Bool.and_eq_true] at z;exact absurd z.1 (by show ¬(((-1:Int)==1)=true);decide))]
  have ep:slicePicked a none none (some (-1,tk))=(List.range a.length).reverse:=by
   show Builtin.Str.strSliceIndices none none (-1) a.length=_
   unfold Builtin.Str.strSliceIndices
   show sliceRange ((a.length:Int) - 1) (-1) (-1)=_
   rw [PySem.W.krv_sliceRange,PySem.W.krv_range]
  rw [ep]
  have er:((List.range a.length).reverse.filterMap fun x=>a.cps[x]?)=a.cps.toList.reverse:=by
   rw [List.filterMap_reverse]
   exact congrArg List.reverse (PySem.W.krv_all a.cps)
  rw [er]
  have hl:(⟨a.cps.toList.reverse.toArray⟩:Str).length=a.length:=by
   show a.cps.toList.reverse.toArray.size=_
   simp;rfl
  refine ⟨?_,.str ⟨_⟩,H3,I4.tok _,⟨()⟩,q _ ⟨by rw [hl];exact ta.1,fun c hc=>ta.2 c (by simpa using hc)⟩⟩
  show (⟨a.cps.toList.reverse.toArray⟩:Str).length≤_
  rw [hl]
  exact Nat.le_trans ta.1 (iB hm)
 ·cases r1
  cases c with
  | true=>
   obtain ⟨its,r,ht,hz⟩:=I4.list (aE.of hx)
   have hlen:=r.length
   show wpAny (model X.prog X.w) X.A (subscriptTail e (.Slice none none (some st) p2) (.ref a) (.ref s3.heap.objs.size)) (EP X pins σ Q) X.xe { s3 with heap:=s3.heap.push { cls:=.type "slice",data:=.fields #[.none,.none,vs] } }
   refine tail_any (ops:=[.ref a,.ref s3.heap.objs.size]) ht.isList.typeIs slot_list_getitem.lookup ?_ (by with_unfolding_all rfl)
   refine wpAny_getItem_list_slice ht.isList (Heap.IsSliceOf.new ..) .none .none pk (by decide) ?_ (by rw [List.size_toArray] <;> trivial)
   rw [PySem.W.krv_pick]
   have hf:=I4.hok.fresh (Nat.le_refl _)
   refine ⟨.ref (s3.heap.push { cls:=.type "slice",data:=.fields #[.none,.none,vs] }).objs.size,_,I4.laid (t':=s3.toks) (o:=.lst xs.reverse) (fun b ob q=>Heap.get?_push_of_some _ q) (Nat.le_refl _) ?_,rfl,q _ _ (ad.new hf) bf hf⟩
   exact ⟨by rw [List.length_reverse];exact hz,_,0,r.rev,Heap.get?_push_size _ rfl⟩
  | false=>
   obtain ⟨its,r,ht,hz⟩:=I4.tuple (ak.of hx)
   have hlen:=r.length
   show wpAny (model X.prog X.w) X.A (subscriptTail e (.Slice none none (some st) p2) (.ref a) (.ref s3.heap.objs.size)) (EP X pins σ Q) X.xe { s3 with heap:=s3.heap.push { cls:=.type "slice",data:=.fields #[.none,.none,vs] } }
   refine tail_any (ops:=[.ref a,.ref s3.heap.objs.size]) ht.typeIs PyProof.Rows.slot_tuple_getitem.lookup ?_ (by with_unfolding_all rfl)
   have hf:=I4.hok.fresh (Nat.le_refl _)
   refine HT.getItem_tuple_rev ht (Heap.IsSliceOf.new ..) pk ?_ (by rw [List.size_toArray] <;> trivial)
   refine ⟨.ref (s3.heap.push { cls:=.type "slice",data:=.fields #[.none,.none,vs] }).objs.size,_,I4.laid (t':=s3.toks) (o:=.tup xs.reverse) (fun b ob q=>Heap.get?_push_of_some _ q) (Nat.le_refl _) ?_,rfl,q _ _ (ad.new hf) bf hf⟩
   exact ⟨by rw [List.length_reverse];exact hz,_,r.rev,IsTup.new _ _,_,Heap.get?_push_size _ rfl,rfl⟩
end
def dM (H H':Hp):Prop:=∀a us,H a=some (.tup us)→H' a=some (.tup us)
section
variable {H H' H'':Hp}{z n k m:Nat}{v:V}{E:Addr→Prop}{b th th' p:Addr}{xs ys zs:List V}
end
section
variable {E:Addr→Prop}{z:Nat}{H0:Hp}{σ:St}{n k m:Nat}{te tb:TE}{ta:TA}{v:V}{i:Nat}{p:Addr}{xs:List V}{K:PySem.W.Frag}
end
section
variable {b th:Addr}{H0:Hp}{σ:St}{zs:List V}{ta:TA}{te:TE}{n i:Nat}{Q:VK}{K:PySem.W.Frag}
end
theorem sw {te:TE}{i:Nat}{u:TS}{D:fA}{σ:St}{H:Hp} (h:∀Q:VK,(∀v H',u D (σ.set i (some v)) H'→Q v H')→te σ H Q):jV (qI te (iA i)) u D σ H:=h _ fun _ _ z=>z
theorem CF {ta:TA}{i j:Nat}{u:TS}{D:fA}{σ:St}{H:Hp} (h:∀Q:List V→Hp→Prop,(∀v w H',u D ((σ.set i (some v)).set j (some w)) H'→Q [v,w] H')→ta σ H Q):jV (Fn i j ta) u D σ H:=h _ fun _ _ _ z=>⟨_,(),z⟩
theorem gG {α:Type}{P:List α→Prop} (h:∀a,P [a]):∀us:List α,us.length=1→P us:=fun us hl=>by
 cases us with
 | nil=>cases hl
 | cons a r=>cases r with
  | nil=>exact h a
  | cons b r=>simp at hl
theorem gC {α:Type}{P:List α→Prop} (h:∀a b,P [a,b]):∀us:List α,us.length=2→P us:=fun us hl=>by
 cases us with
 | nil=>cases hl
 | cons a r=>exact gG (P:=fun r=>P (a :: r)) (fun b=>h a b) r (by simpa using hl)
theorem j9 {α:Type}{P:List α→Prop} (h:∀a b c,P [a,b,c]):∀us:List α,us.length=3→P us:=fun us hl=>by
 cases us with
 | nil=>cases hl
 | cons a r=>exact gC (P:=fun r=>P (a :: r)) (fun b c=>h a b c) r (by simpa using hl)
theorem zH {α:Type}{P:List α→Prop} (h:∀a b c d,P [a,b,c,d]):∀us:List α,us.length=4→P us:=fun us hl=>by
 cases us with
 | nil=>cases hl
 | cons a r=>exact j9 (P:=fun r=>P (a :: r)) (fun b c d=>h a b c d) r (by simpa using hl)
theorem xH:∀{xs:List V}{us:List Value},xs.length=us.length→(∀(i:Nat) x u,xs[i]?=some x→us[i]?=some u→bz x u)→aH xs us
 | [],[],_,_=>.nil
 | x :: xs,u :: us,hl,h=>.cons (h 0 x u rfl rfl) (xH (by simpa using hl) fun i y w e1 e2=>h (i+1) y w e1 e2)
section
variable {X:Cx}{a:Expr}{ta:TA}{p p2 pos pos2:Pos}
def iZ (n:Nat):List V:=(List.range n).map fun (k:Nat)=>V.int (k:Int)
inductive Ge (x:V) (vs:List V) (H:Hp) (Q:VK):Prop
 | mk (l:_) (xs:_) (i:_) (y:_) (h0:x=.ref l) (h1:vs=[.int (i:Nat)]) (h2:H l=some (.lst xs)) (h3:xs.length≤10000) (h4:xs[i]?=some y) (h5:∀H',Ch H l (xs.eraseIdx i) H'→Q y H')
def HG:V→List V→Hp→VK→Prop:=fun x vs H Q=>Ge  x vs H Q
theorem DM:Dg X "list.pop" HG:=by
 intro pins s σ H x vs v us Q I rx rv h
 obtain ⟨l,xs,i,y,e1,e2,hH,hz,hy,q⟩:=h
 have hi:i<xs.length:=(List.getElem?_eq_some_iff.mp hy).1
 refine Ce pins s σ H x vs v us Q I rx rv ⟨l,xs,_,i,y,e1,e2,hH,by trivial,by trivial,?_,hy,q _ .mk'⟩
 have h0:¬((i:Int)<0):=by trivial
 simp [seqIndex?,h0,hi]
end
section
variable {prog:Program}{w:World}{A:Around}{E:Value→Shared→Prop}{s:Shared}
variable {z TI TO i1 i2 l1 l2 T:Addr}{k:Nat}{xs ys:Array Value}{bb:Bool}{c1 c2:Bool}{oT:Obj}
end
section
variable {prog:Program}{w:World}{A:Around}{E:Value→Shared→Prop}{R:Result→Shared→Prop}
variable {z TI TO i1 i2 l1 l2 d:Addr}{xs ys:Array Value}{c1 c2:Bool}{ks:List bp}
end
section
variable {X:Cx}{K:PySem.W.Frag}{a b:Expr}{ta:TA}{p1 p2 p3 p4:Pos}
end
section
variable {X:Cx}
end
section
variable {prog:Program}{w:World}{A:Around}{E:Value→Shared→Prop}{s:Shared}
variable {n l1 l2 l3 T:Nat}{k:Nat}{xs ys zs:Array Value}{bb:Bool}{oT:Obj}
end
section
variable {prog:Program}{w:World}{A:Around}{E:Value→Shared→Prop}{s:Shared}
variable {n l1 l2 l3:Nat}{k:Nat}{xs ys zs:Array Value}
end
section
variable {prog:Program}{w:World}{A:Around}{E:Value→Shared→Prop}{R:Result→Shared→Prop}
variable {n l1 l2 l3:Nat}{xs ys zs:Array Value}
end
section
variable {prog:Program}{w:World}{A:Around}{E:Value→Shared→Prop}{s:Shared}
end
section
variable {X:Cx}{pins:List (Addr×Obj)}{σ:St}{H:Hp}{s:Shared}{h':Heap}
end
section
variable {X:Cx}{K:PySem.W.Frag}{a b c:Expr}{ta:TA}{p1 p2 p3 p4:Pos}
end
section
variable {prog:Program}{w:World}{A:Around}{E:Value→Shared→Prop}{s:Shared}
end
section
variable {prog:Program}{w:World}{A:Around}{E:Value→Shared→Prop}{R:Result→Shared→Prop}
variable {l it d:Nat}{vs:Array Value}{ks:List bp}{us:List Value}
end
section
variable {X:Cx}
theorem zh {α:Type}{p:Nat→α→Prop}:∀n,(∀i,i<n→∃a,p i a)→∃as:List α,as.length=n∧∀(i:Nat) a,as[i]?=some a→p i a
 | 0,_=>⟨[],rfl,fun i a h=>by simp at h⟩
 | n+1,h=>by
  obtain ⟨as,l,q⟩:=zh n fun i hi=>h i (by trivial)
  obtain ⟨a,ha⟩:=h n (by trivial)
  refine ⟨as++[a],by rw [List.length_append,l];rfl,fun i b hb=>?_⟩
  by_cases c:i<n
  ·rw [List.getElem?_append_left (by trivial)] at hb
   exact q i b hb
  ·have hlt:=(List.getElem?_eq_some_iff.mp hb).1
   rw [List.length_append] at hlt
   simp at hlt
   obtain rfl:i=n:=by trivial
   rw [List.getElem?_append_right (by trivial),l,Nat.sub_self] at hb
   obtain rfl:a=b:=Option.some.inj hb
   exact ha
end
section
variable {X:Cx}
end
structure Gb (a b:Nat) (p:KM.Fra):Prop where
 n:Sz a p.1
 d:Sz b p.2
 pos:1≤p.2
theorem Fw {a b:Nat}{n d:Int} (hn:Sz a n) (hd:Sz b d) (h0:0<d):Gb a b (KM.low n d):=by
 have:=KM.low_spec n d (by trivial)
 exact ⟨hn.le this.2.2.2.1,hd.le this.2.2.2.2,this.1⟩
end L2
namespace L2
open PySem PySem.Spec PyProof.Rows
section
variable {X:Cx}
end
section
variable {prog:Program}{w:World}{A:Around}{R:Result→Shared→Prop}{s:Shared}
end
section
variable {X:Cx}{kx vx tg iter:Expr}{ifs:List Expr}{scope:Scope}{pos:Pos}{N':List Str}{L:Nat}{src:List Nat}{wi:TI}{g:TG}{tt:TT}{tk tv:TE}
end
end L2
namespace KM
variable {ls:List (List Nat)}{es done:List Edge}{W u:List Nat→Rat}{S:List (List Nat)}{q:List Nat}{m:Rat}
end KM
namespace L2
open PySem PySem.Spec PyProof.Rows
mutual
inductive Wv (z:Nat):PyData→Nat→Nat→Prop
 | non {n k:Nat} (hn:1≤n):Wv z .none n k
 | bl (b:Bool) {n k:Nat} (hn:1≤n):Wv z (.bool b) n k
 | int {i:Int} (h:Sz z i) {n k:Nat} (hn:1≤n):Wv z (.int i) n k
 | str {x:Str} (h:jQ x) {n k:Nat} (hn:1≤n):Wv z (.str x) n k
 | list {xs:List PyData}{m l n k:Nat} (h:i6 z xs m l) (hn:m+1≤n) (hk:l+1≤k):Wv z (.list xs) n k
 | tuple {xs:List PyData}{m l n k:Nat} (h:i6 z xs m l) (hn:m+1≤n) (hk:l+1≤k):Wv z (.tuple xs) n k
inductive i6 (z:Nat):List PyData→Nat→Nat→Prop
 | nil {n k:Nat}:i6 z [] n k
 | cons {x:PyData}{xs:List PyData}{m l n k:Nat} (h:Wv z x m k) (r:i6 z xs l k) (hn:m+l≤n):i6 z (x :: xs) n k
end
theorem Wv.up {z:Nat}{d:PyData}{n k n' k':Nat} (h:Wv z d n k) (hn:n≤n') (hk:k≤k'):Wv z d n' k':=by
 cases h with
 | non h=>exact .non (by trivial)
 | bl b h=>exact .bl b (by trivial)
 | int h hn'=>exact .int h (by trivial)
 | str h hn'=>exact .str h (by trivial)
 | list h h1 h2=>exact .list h (by trivial) (by trivial)
 | tuple h h1 h2=>exact .tuple h (by trivial) (by trivial)
mutual
theorem Wv.wt {z:Nat} (hz:z≤1900):∀{d:PyData}{n k:Nat},Wv z d n k→∃m,m≤n∧Wt d m k
 | _,_,_,.non h=>⟨1,h,.non⟩
 | _,_,_,.bl b h=>⟨1,h,.bl b⟩
 | _,_,_,.int h hn=>⟨1,hn,.int (h.mono (by trivial))⟩
 | _,_,_,.str h hn=>⟨1,hn,.str h⟩
 | _,_,_,.list h hn hk=>by
  obtain ⟨m,h1,h2⟩:=i6.wt hz h
  exact ⟨m+1,by trivial,Wt.deep (.list h2) hk⟩
 | _,_,_,.tuple h hn hk=>by
  obtain ⟨m,h1,h2⟩:=i6.wt hz h
  exact ⟨m+1,by trivial,Wt.deep (.tuple h2) hk⟩
theorem i6.wt {z:Nat} (hz:z≤1900):∀{ds:List PyData}{n k:Nat},i6 z ds n k→∃m,m≤n∧cu ds m k
 | _,_,_,.nil=>⟨0,Nat.zero_le _,.nil⟩
 | _,_,_,.cons h r hn=>by
  obtain ⟨m,h1,h2⟩:=Wv.wt hz h
  obtain ⟨l,h3,h4⟩:=i6.wt hz r
  exact ⟨m+l,by trivial,.cons h2 h4⟩
end
section
variable {z:Nat}{E:Addr→Prop}{H H':Hp}{n m k:Nat}{v:V}{xs ys:List V}
end
section
variable {X:Cx}{K:PySem.W.Frag}
end
end L2
namespace L2
open PySem PySem.Spec PyProof.Rows
section
variable {X:Cx}
end
end L2
namespace L2
open PySem
end L2
namespace L2
open PySem PySem.Spec PyProof.Rows
section
variable {prog:Program}{w:World}{A:Around}{E:Value→Shared→Prop}{hp:Heap}{gs:Array GenState}{dr:Drawn}{tk:Nat}{os:OsState}
variable {nm qn:Str}{C N:Addr}{bs bm bB:List Value}{hd:Bool}{sn:List Str}{sb:List Value}{ab:Bool}{cl:Option Bool}{dd:Option Addr}{k0 k1 k2 k3 k5:Option Value}{B nw ni:String}
end
end L2
namespace L2
open PySem PySem.Spec PyProof.Rows PySem.W
section
variable {prog:Program}{w:World}{A:Around}{E:Value→Shared→Prop}{s:Shared}{K:Frag}{x C:Addr}{ox:Obj}{od:Option Obj}{name:Str}{fill expr:Bool}
end
end L2
namespace L2
open PySem PySem.Spec PyProof.Rows PySem.W PySem.Builtin.ObjectAttr
section
variable {prog:Program}{w:World}{A:Around}{E:Value→Shared→Prop}{s:Shared}{K:Frag}{x C:Addr}{ox:Obj}{name:Str}{v:Value}
end
section
variable {prog:Program}{w:World}{A:Around}{E:Value→Shared→Prop}{s:Shared}{K:Frag}{x C:Addr}{ox:Obj}{od:Option Obj}{a0:Value}
end
end L2
namespace L2
open PySem PySem.Spec PyProof.Rows
section
variable {X:Cx}{pins:List (Addr×Obj)}{σ:St}{H:Hp}{s:Shared}{h':Heap}
end
section
variable {X:Cx}{C f:Addr}{x:Str}{p pos:Pos}{e:Expr}{es:List Expr}{t:TA}{k:Nat}{fd:FuncData}{ps:List Str}{sp:Sp}{E:XK}
end
theorem rO:bootBuiltins "repr" = some (.builtin "repr"):=by nofun
section
variable {X:Cx}
theorem tG {k:Nat} (hr:eZ k X.A):db X (.builtin "repr") HX:=by
 intro pins s σ H xs us Q I r h
 obtain ⟨a,d,E,n,k,rfl,hd,w,hn,hk,q⟩:=h
 obtain ⟨u,rfl,ru⟩:=r.one
 obtain rfl:u=.ref a:=ru
 obtain ⟨as,rr⟩:=hd.reads I.hok (u:=.ref a) rfl
 refine repr_of_reads' rr w.sho (PyData.noDict_hsm w.nod) hr.gd (by have:=hr.units;have:=w.dep;trivial) (fun _ _ e=>e) (fun h' u tk hk=>?_) (by have:=w.len;rw [sizeLine_eq];trivial)
 exact ⟨.str _,H,I.kept hk,⟨()⟩,q⟩
end
section
variable {M:Model}{A:Around}{E:Value→Shared→Prop}{s:Shared}{base:Heap}{env:Env}{outer:List Env}{L a T:Addr}{C head:Value}{dx:Option Addr}{vs:Array Value}{sl:Array (Option Value)}{hn:Bool}{Q:Unit→Shared→Prop}
end
section
variable {X:Cx}{pins:List (Addr×Obj)}{σ:St}{H:Hp}{s:Shared}{h':Heap}{a T C:Addr}{dx:Option Addr}{φ:Heap→Prop}{ch:List Addr}{fl:Value}
end
section
variable {P:Program}{w:World}{K:PySem.W.Frag}{mg:Str→Option Value}{base:Heap}{N:List Str}{qual:Str}{scope:Scope}{f:Addr}{cd:Value}{A:Around}{outer:List Env}{s:Shared}{H:Hp}{E:XK}
end
section
variable {M:Model}{A:Around}{E:Value→Shared→Prop}{s:Shared}{env:Env}
end
section
variable {X:Cx}{e:Expr}{te:TE}{pos:Pos}{E:XK}
end
section
variable {X:Cx}{pins:List (Addr×Obj)}{σ σ':St}{H:Hp}{s:Shared}{h':Heap}
end
section
variable {X:Cx}{CX:kY}{k:Nat}{f:Addr}{fd:FuncData}{ps:List Str}{sp:Sp}{EE:St→XK}{x:Str}{p pos:Pos}{e:Expr}{es:List Expr}{t:TA}
end
section
variable {X:Cx}{pins pins' pn:List (Addr×Obj)}{σ:St}{H:Hp}{s:Shared}{xe:Value→Shared→Prop}
end
section
variable {X:Cx}{body suite:List Stmt}{b0:Stmt}{x n:Str}{hpos pos np:Pos}{tb:(St→XK)→TS}{th:TS}{Cc:Addr}{i:Nat}
end
section
variable {X:Cx}{C:Addr}{e:Expr}{pos:Pos}
end
section
variable {X:Cx}
end
section
variable {X:Cx}
end
def nP:Nat→List Obj→PySem.W.Frag
 | _,[]=>[]
 | n,o :: r=>match o.data with
  | .freed=>nP (n+1) r
  | _=>(n,o) :: nP (n+1) r
def fragOf (h:Heap):PySem.W.Frag:=nP 0 h.objs.toList
theorem vj:∀(l:List Obj) (n a:Nat) (o:Obj),List.lookup a (nP n l)=some o→∃k,a=n+k∧l[k]?=some o∧o.data≠.freed
 | [],n,a,o,e=>nomatch e
 | p :: r,n,a,o,e=>by
  have step:List.lookup a (nP (n+1) r)=some o→∃k,a=n+k∧(p :: r)[k]?=some o∧o.data≠.freed:=fun e=>by
   obtain ⟨k,e1,e2,e3⟩:=vj r (n+1) a o e
   exact ⟨k+1,by trivial,by simpa using e2,e3⟩
  unfold nP at e
  split at e
  ·exact step e
  ·rename_i hf
   by_cases q:a=n
   ·subst q
    simp only [List.lookup_cons,beq_self_eq_true] at e
    cases e
    exact ⟨0,rfl,rfl,hf⟩
   ·have q':(a==n)=false:=by simpa using q
    simp only [List.lookup_cons,q'] at e
    exact step e
theorem AI (h:Heap):PySem.W.Frag.In (fragOf h) h:=fun a o e=>by
 obtain ⟨k,e1,e2,e3⟩:=vj _ 0 a o e
 have e1':a=k:=e1.trans (Nat.zero_add k)
 subst e1'
 unfold Heap.get?
 have:h.objs[a]?=some o:=by simpa using e2
 rw [this]
 cases o with
 | mk c d x s=>
  cases x <;> first | rfl | exact absurd rfl e3
def qz:Option (Option Value)→Addr
 | some (some (.ref a))=>a
 | _=>0
def CU:Option (Option Value)→Bool
 | some (some (.ref _))=>true
 | _=>false
def BM:Option (Option Value)→Bool
 | some none=>true
 | _=>false
theorem E1 {v:Option (Option Value)} (e:CU v=true):v=some (some (.ref (qz v))):=by
 unfold CU at e;split at e
 ·rfl
 ·cases e
theorem cB {v:Option (Option Value)} (e:BM v=true):v=some none:=by
 unfold BM at e;split at e
 ·rfl
 ·cases e
def zg (K:PySem.W.Frag) (v:Option (Option Value)):Obj:=(List.lookup (qz v) K).getD ⟨.none,none,.plain,#[]⟩
def Jf:FuncData:=PySem.W.fnOf (PySem.Str.mk #[]) (PySem.Str.mk #[]) ⟨[],[],none,[],[],none,[]⟩ [] ⟨.function,[],false,false,[]⟩ .none .none .none .none none .none .none
def ic (K:PySem.W.Frag) (v:Option (Option Value)):FuncData:=match (zg K v).data with
 | .func fd=>fd
 | _=>Jf
def bare (fd:FuncData):FuncData:={ fd with kwdefaults:=.none,doc:=.none,pyModule:=.none,annotations:=none,code:=.none,closureTuple:=.none }
def qo (K:PySem.W.Frag) (v:Option (Option Value)) (q:Str):Option FuncData:=
 match CU v && PySem.W.codeIn K (ic K v).code q && PySem.W.keepIn K (.ref (qz v)) with
 | false=>none
 | true=>match List.lookup (qz v) K with
  | some ⟨_,_,.func fd,_⟩=>some (bare fd)
  | _=>none
theorem u6 {K:PySem.W.Frag}{v:Option (Option Value)}{q:Str}{x:FuncData} (e:qo K v q=some x) :
 v=some (some (.ref (qz v)))∧PySem.W.codeIn K (ic K v).code q=true∧PySem.W.keepIn K (.ref (qz v))=true∧
  List.lookup (qz v) K=some ⟨(zg K v).cls,(zg K v).dict,.func (ic K v),(zg K v).slots⟩∧bare (ic K v)=x:=by
 unfold qo at e
 cases h:(CU v && PySem.W.codeIn K (ic K v).code q && PySem.W.keepIn K (.ref (qz v))) with
 | false=>rw [h] at e;cases e
 | true=>
  rw [h] at e
  simp only [Bool.and_eq_true] at h
  refine ⟨E1 h.1.1,h.1.2,h.2,?_⟩
  cases hl:List.lookup (qz v) K with
  | none=>rw [hl] at e;cases e
  | some o=>
   rw [hl] at e
   obtain ⟨c,d,x',s⟩:=o
   have eo:zg K v=⟨c,d,x',s⟩:=by unfold zg;rw [hl];rfl
   cases x' <;> first | cases e | skip
   rename_i fd
   have ef:ic K v=fd:=by unfold ic;rw [eo]
   rw [eo,ef]
   exact ⟨rfl,rfl⟩
def oG (K:PySem.W.Frag) (n:Str):Bool:=BM (PySem.W.nsIn K mainGlobals n)
def fG (K:PySem.W.Frag) (n:Str):Option FuncData:=qo K (PySem.W.nsIn K mainGlobals n) n
def dG (n q:Str) (st:Stmt):Option FuncData:=some (PySem.W.fnOf n q (uO st) (qY st) (aB st) .none .none .none .none none .none .none)
theorem aA {K:PySem.W.Frag}{v:Option (Option Value)}{q n:Str}{st:Stmt} (e:qo K v q=dG n q st):xD K n q st (qz v) (ic K v):=by
 have h:=u6 e
 refine ⟨?_,h.2.2.1⟩
 obtain ⟨h1,h2,h3,h4,z⟩:=h
 refine ⟨_,_,(ic K v).kwdefaults,(ic K v).doc,(ic K v).pyModule,(ic K v).annotations,(ic K v).code,(ic K v).closureTuple,_,?_,h4,h2⟩
 clear h4 h2 h3 h1 e
 generalize ic K v=fd at z ⊢
 cases fd
 unfold bare PySem.W.fnOf at z
 cases z
 rfl
theorem bD {K:PySem.W.Frag}{v:Option (Option Value)}{q n:Str}{st:Stmt} (e:qo K v q=dG n q st):v=some (some (.ref (qz v))):=(u6 e).1
theorem walk_ofY {l:PySem.W.OpenLaw}{n k:Nat}{q:Program}{loose:List Str}{XP:(Str→Option Value)→Heap→Prop}{d:DefRec}{CX:kY}{sp:PySem.W.Frag→Sp}{x:Str}{α:Type}{obs:PySem.W.Frag→α}{due:α}
 (hn:l.most=some n) (hn2:n≤sizeLine) (hdf:d.params.defaults=[]) (hr:eZ k callerA)
 (F:∀(K:PySem.W.Frag) (w:World) (mg:Str→Option Value) (fa:Addr) (h:Heap),obs K=due→K.In h→h.Ns mainGlobals mg→mg d.name=some (.ref fa)→
  ∃fd:FuncData,(∀(s:Shared) (u:Value),BindsTo s fd ⟨[u],[]⟩ [(x,u)])∧
   ∀base:Heap,K.In base→base.Ns mainGlobals mg→bt l.prog w K mg base CX k fa fd [x] (sp K))
 (hsp:∀(K:PySem.W.Frag) (H:Hp) (a:Addr) (ns:List Int),ns.length≤n→uE H→aE K H a (ns.map V.int)→sp K [.ref a] H (fun v _=>v=.bl true) fun _ _ _=>False)
 (hCX:∀(H:Hp) (s:Shared) (e:Value) (s':Shared),CX [] H s (fun _ _ _=>False) e s'→False) :
 PySem.W.WalkX q loose XP (fun s=>obs (fragOf s.heap)) (fun _=>due) l.row.toRowW d [] (fun f vs=>PySem.call f vs):=by
 intro w s₀ s₁ mg mb G y a o pm cd doc dV kV ho hd hcd hD hmg hg args vals as' L hpre hlay hrd hwl hlo
 have kx:(fragOf s₀.heap).In s₁.heap:=fun b ob hb=>L.keeps b ob (AI s₀.heap b ob hb)
 exact Cr (K:=fun _=>fragOf s₀.heap) (YP:=fun w h=>(fragOf s₀.heap).In h) hn hn2 hdf hr (fun _ _ z=>z) (fun w mg fa h=>F (fragOf s₀.heap) w mg fa h y) hsp hCX w s₀ s₁ mg mb G kx a o pm cd doc dV kV ho hd hcd hD hmg hg args vals as' hpre hlay hrd hwl hlo
section
variable {X:Cx}
inductive DT (x:V) (y:V) (H:Hp) (Q:VK):Prop
 | mk (a:_) (b:_) (xs:_) (ys:_) (h0:x=.ref a) (h1:y=.ref b) (h2:H a=some (.tup xs)) (h3:H b=some (.tup ys)) (h4:xs.length+ys.length≤10000) (h5:∀p H',ad H H'→H' p=some (.tup (xs++ys))→Q (.ref p) H')
def wH:R2:=fun x y H Q=>DT  x y H Q
theorem cg:cn X (binaryOp .Add) wH:=by
 intro pins s σ H x y v u Q I rx ry h
 obtain ⟨a,b,xs,ys,rfl,rfl,ha,hb,hz,q⟩:=h
 by_cases hx:xs=[]
 ·subst hx
  cases rx
  cases ry
  obtain ⟨its,r1,p1,_⟩:=I.tuple (ak.of (K:=X.K) ha)
  obtain ⟨its2,r2,p2,_⟩:=I.tuple (ak.of (K:=X.K) hb)
  cases r1
  obtain ⟨⟨cls,dd,data,sl⟩,ho,hc,n,hd⟩:=id p1
  obtain ⟨⟨cls2,dd2,data2,sl2⟩,ho2,hc2,n2,hd2⟩:=id p2
  simp only at hc hd hc2 hd2
  subst hc hd hc2 hd2
  exact concat_meets ⟨_,ho,rfl⟩ ⟨_,ho2,rfl⟩ noFill_tuple_add seq_tuple_add PySem.F.slot_tuple_add PySem.F.entry_tuple_add (PySem.F.args_tuple_add_2 _ _)
   (tuple_addW0 a b _ _ n n2 dd dd2 sl sl2 (by simp)) ⟨ho,ho2,⟨.ref b,H,I,rfl,q b H (ad.refl _) hb⟩⟩
 ·exact wR (K:=X.K) rfl pins s σ H _ _ v u Q I rx ry ⟨a,b,xs,ys,rfl,rfl,ak.of ha,ha,ak.of hb,hx,hz,q⟩
end
end L2
namespace L2
open PySem PySem.Spec PySem.Calls PySem.W PyProof.Rows
section
variable {prog:Program}{w:World}{A:Around}{E:Value→Shared→Prop}{s:Shared}
theorem yf {T newId:String}{Bn:Builtin}{args:List Value}{Q:Value→Shared→Prop} (ft:TypeCalled T newId "object.__init__")
 (hne:(some newId != some "object.__new__")=true) (hct:checkTypeCall T ⟨args,[]⟩=pure ()) (hcn:checkBuiltinCall newId ⟨.type T :: args,[]⟩=pure ())
 (hok:∀obj,argsOk "object.__init__" ⟨obj :: args,[]⟩) (entryN:entryFor table newId=some Bn)
 (g:wpAny (model prog w) A.in1.in1 (Bn ⟨.type T :: args,[]⟩) (fun fin s'=>match fin with | .done f=>wants (fun obj s₁=>s₁.TypeIs obj T∧Q obj s₁) E (.ok f) s' | .again c'=>c'.quiet=true∧codeAny (model prog w) A.in1 c' (wants (fun obj s₁=>s₁.TypeIs obj T∧Q obj s₁) E) s') (fun e s'=>wants (fun obj s₁=>s₁.TypeIs obj T∧Q obj s₁) E (.error e) s') s) :
 wpAny (model prog w) A (call (.type T) args) Q E s:=by
 obtain ⟨c,tl,hmro⟩:=ft.mro
 have hmade:=ft.made
 have hsub:=ft.sub
 refine wpAny_call (codeAny_of_tree ?_)
 show wpAny _ _ (callAny (.type T) _) _ _ _
 refine wpAny_pure ⟨Code.quiet_builtin _ (by nofun),codeAny_builtin PySem.F.entry_type_call ?_⟩
 rw [Around.under_plain (weight_type_call_type T args []) (units_type_call_type T args [])]
 have h1:=ft.notType
 have h2:=ft.canCreate
 repeat (any_goals (first | assumption | wp_step))
 refine codeAny_mono (codeAny_call_builtin ft.plain entryN (wpAny_of_eq hcn g)) fun r s₁ hr=>?_
 cases r with
 | error e=>exact hr
 | ok fl=>
  cases fl with
  | ret obj=>
   obtain ⟨hT,hq⟩:=hr
   have hli:=ft.init.lookup
   have hbi:=ft.init.bind obj
   repeat (any_goals (first | assumption | wp_step))
   refine codeAny_mono (codeAny_call_builtin ft.init.plain PySem.F.entry_object_init (ft.init.check _ _ _ _ _ _ _ _ hT (hok obj) (object_init_meets ft.init.lookup ft.made hne prog w A.in1 (wants (fun r s₂=>r=.none∧Q obj s₂) E) s₁ ⟨hT,rfl,hq⟩))) fun r₂ s₂ hr₂=>?_
   cases r₂ with
   | error e=>exact hr₂
   | ok fl₂=>
    cases fl₂ with
    | ret r=>
     obtain ⟨rfl,hq⟩:=hr₂
     repeat (any_goals (first | assumption | wp_step))
    | _=>exact hr₂.elim
  | _=>exact hr.elim
end
section
variable {X:Cx}
end
section
open PySem.Builtin.Str (occurrences partsBetween)
variable {prog:Program}{w:World}{A:Around}{E:Value→Shared→Prop}{s:Shared}
end
section
variable {X:Cx}
end
end L2
namespace L2
open PySem PySem.Spec PyProof.Rows
section
variable {X:Cx}
theorem u7 {α β:Type} (f:α→β):∀(l:List α) (j:Nat),(l.eraseIdx j).map f=(l.map f).eraseIdx j
 | [],_=>rfl
 | _ :: _,0=>rfl
 | a :: l,j+1=>by simp [u7 f l j]
end
theorem xK {E:Addr→Prop}{H:Hp}:∀(ls:List (List Nat)),aG E H (ls.map b8) (ls.map fun l=>.str (S l))
 | []=>.nil
 | l :: ls=>.cons (.str _) (xK ls)
theorem Ch.sameE {H H1 H2:Hp}{L:Addr}{xs ys:List V} (s1:ad H H1) (hL:H1 L=some (.lst xs)) (c:Ch H1 L ys H2):ar (Eb L) H H2:=⟨fun a o n h=>c.ol a o n (s1 _ _ h),fun a zs h=>c.tup (s1 _ _ h) hL⟩
theorem iP {H H':Hp} (k:dM H H'):ar ED H H':=⟨fun _ _ n _=>absurd trivial n,k⟩
section
variable {H H':Hp}{d p t q z:Addr}{v:V}{es:List Ent}{past:List RSt}{cur:RSt}{F:List Addr}
end
section
variable {p t q z p' t' q':Addr}{v v':V}
end
theorem Bx.th {H:Hp}{b:Addr}{t:Int} (h:Bx H b t):H b≠none:=by
 obtain ⟨_,_,e,_⟩:=h
 rw [e];exact fun z=>nomatch z
theorem Bx.frm {H H':Hp}{b:Addr}{t:Int}{E:Addr→Prop} (B:Bx H b t) (s:ar E H H') (n:¬E b):Bx H' b t:=by
 obtain ⟨c1,c2,e,q1,q2,q3⟩:=B
 exact ⟨c1,c2,s.old _ _ n e,q1,q2,q3⟩
theorem ar.none {E:Addr→Prop}{H H':Hp} (s:ar E H H') {a:Addr} (n:¬E a) (h:H' a=none):H a=none:=by
 cases e:H a with
 | none=>rfl
 | some o=>rw [s.old a o n e] at h;cases h
theorem ar.imp {E E':Addr→Prop}{H H':Hp} (s:ar E H H') (k:∀a,E a→E' a):ar E' H H':=⟨fun a o n h=>s.old a o (fun z=>n (k a z)) h,s.tup⟩
section
variable {C:Addr}{H H' H0 H1 H2:Hp}{r L d b:Addr}{F F' F0 F1 F2:List Addr}{past:List RSt}{cur:RSt}{N M:Nat}{E:Addr→Prop}
end
section
variable {X:Cx}{body suite:List Stmt}{b0:Stmt}{x:Str}{hpos pos np:Pos}{tb:(St→XK)→TS}{th:TS}{Cc:Addr}
end
section
variable {X:Cx}{CX:kY}{k:Nat}{f C:Addr}{fd:FuncData}{ps:List Str}{sp:Sp}{EE:St→XK}{m:Str}{pos apos:Pos}{e o:Expr}{es:List Expr}{ta:TE}{t:TA}
end
section
variable {C:Addr}{H H' H0:Hp}{P E:Addr→Prop}{xs:List PairAt}{N M:Nat}{x y:PairAt}{i:Nat}
end
section
variable {C:Addr}{H2 H H':Hp}{b s o nl:Addr}{ls:List (List Nat)}{xs:List PairAt}{N M:Nat}{t t':Int}{x y:PairAt}{i:Nat}
end
end L2
namespace L2
open PySem PySem.Spec PyProof.Rows PySem.NumText
end L2
namespace L2
open PySem PySem.Spec PyProof.Rows
section
variable {X:Cx}
end
end L2
namespace L2
open PySem PySem.Spec PyProof.Rows PySem.NumText
section
variable {X:Cx}
end
section
variable {X:Cx}
end
end L2
namespace L2
open PySem PySem.Spec PyProof.Rows PySem.NumText
section
variable {X:Cx}
end
end L2
namespace KM
variable {ls:List (List Nat)}{es done:List Edge}{W u u':List Nat→Rat}{S:List (List Nat)}{q:List Nat}{m:Rat}
end KM
namespace L2
open PySem PySem.Spec PyProof.Rows
section
variable {X:Cx}
end
theorem rQ:fillsNumberSlot (.type "tuple") "mul" = pure false:=
 PySem.fillsNumberSlot_seq (id := "tuple.__mul__") (r:=some (.builtin "tuple.__rmul__")) F.slot_tuple_mul.lookup (by nofun) F.slot_tuple_rmul.lookup (by nofun)
theorem wP:seqRepeat? (.type "tuple")=pure (some (.builtin "tuple.__mul__")):=by
 unfold seqRepeat?
 rw [PySem.seqSlot_of (T := "tuple") (name := "__mul__") (id := "tuple.__mul__") F.slot_tuple_mul.lookup (by nofun),PySem.seqSlot_of (T := "tuple") (name := "__rmul__") (id := "tuple.__rmul__") F.slot_tuple_rmul.lookup (by nofun)]
 rfl
theorem uP (a:Int) (t:Tok) (l:Addr) (items:Array Value) (n:Nat) (dd:Option Addr) (sl) :
 Meets (Builtin.«int.__rmul__» ⟨[.int a t,.ref l],[]⟩) (fun _ R s=>s.heap.get? l=some { cls:=.type "tuple",dict:=dd,data:=.seq items n,slots:=sl }∧R (.ok (.ret Value.notImplemented)) s):=
 .of_wp fun prog w A R s h=>by obtain ⟨hp,g,d,tk,os⟩:=s;obtain ⟨hl,h⟩:=h;wp_walk;exact ⟨_,rfl,h⟩
section
variable {X:Cx}
end
section
variable {X:Cx}
end
end L2
namespace L2
open PySem PyProof.Rows
section
variable {prog:Program}{w:World}{A:Around}{R:Result→Shared→Prop}{s:Shared}
end
section
variable {X:Cx}{elt tg iter tg2 iter2:Expr}{ifs ifs2:List Expr}{scope:Scope}{pos:Pos}{N':List Str}{L:Nat}{src:List Nat}{wi wi2:TI}{g g2:TG}{tt tt2:TT}{te:TE}
end
end L2
namespace L2
open PySem PySem.Spec PyProof.Rows
section
variable {X:Cx}
end
section
variable {prog:Program}{w:World}{A:Around}{E:Value→Shared→Prop}{R:Result→Shared→Prop}
variable {l it d:Nat}{vs:Array Value}{xs0 ps:List (List bp×Addr×Value)}
end
section
variable {X:Cx}
end
section
variable {prog:Program}{w:World}{A:Around}{E:Value→Shared→Prop}{s:Shared}
end
section
variable {X:Cx}
end
end L2
namespace L2
open PySem PyProof.Rows
section
variable {X:Cx}
inductive Et (xs:List V) (H:Hp) (Q:VK):Prop
 | mk (x:V) (d:PyData) (E:Addr→Prop) (n k:Nat) (h0:xs=[x]) (h1:bh E H x d) (h2:Wt d n k) (h3:n≤5500) (h4:k≤50) (h5:Q (.str d.shown) H)
def Ft:List V→Hp→VK→Prop:=fun xs H Q=>Et  xs H Q
theorem tw {k:Nat} (hr:eZ k X.A):db X (.builtin "repr") Ft:=by
 intro pins s σ H xs us Q I r h
 obtain ⟨x,d,E,n,kk,rfl,hd,wd,hn,hk,q⟩:=h
 cases hd with
 | non=>
  obtain ⟨u,rfl,ru⟩:=r.one
  cases ru
  exact PySem.P.repr_of_none ⟨.str _,H,I.tok _,⟨_,by rw [PyData.shown]⟩,q⟩
 | bl b=>
  obtain ⟨u,rfl,ru⟩:=r.one
  cases ru
  refine PySem.P.repr_of_bool ⟨.str (PyData.shown (.bool b)),H,I.tok _,?_,q⟩
  rw [PyData.shown]
  cases b
  ·exact ⟨()⟩
  ·exact ⟨()⟩
 | int i=>
  obtain ⟨u,rfl,t,rfl⟩:=i0 r
  refine PySem.P.repr_of_int ?_ ⟨.str _,H,I.tok _,⟨_,by rw [PyData.shown]⟩,q⟩
  cases wd with
  | int h=>
   by_cases h0:i=0
   ·subst h0;decide
   ·exact Nat.lt_of_lt_of_le (h.log h0) (by decide)
 | str y=>
  obtain ⟨u,rfl,t,rfl⟩:=i0 r
  have l:=wd.len
  rw [PyData.shown] at l
  refine PySem.P.repr_of_str ⟨.str _,H,I.tok _,⟨_,by rw [PyData.shown]⟩,q⟩ (by rw [sizeLine_eq];trivial)
 | @lst a xs ds h ne rr=>exact tG hr pins s σ H _ us Q I r ⟨a,.list ds,E,n,kk,rfl,.lst h ne rr,wd,hn,hk,q⟩
 | @tup a xs ds h rr=>exact tG hr pins s σ H _ us Q I r ⟨a,.tuple ds,E,n,kk,rfl,.tup h rr,wd,hn,hk,q⟩
end
end L2
namespace L2
open PySem PySem.Spec PyProof.Rows
section
variable {z:Nat}{E:Addr→Prop}{H H':Hp}{n m k:Nat}{v:V}{xs ys:List V}
end
section
variable {z:Nat}{E:Addr→Prop}{H H':Hp}{n m k:Nat}{v:V}{xs ys:List V}
end
end L2
namespace KM
end KM
namespace KM
end KM
namespace L2
open PySem PySem.Spec PyProof.Rows
def Up (xs:Array Nat):Prop:=xs.toList.Pairwise (· < ·)
theorem qT {xs:Array Nat} (h:Up xs) {i k:Nat} (hi:i<k) (hk:k<xs.size):xs.getD i 0<xs.getD k 0:=by
 have:=List.pairwise_iff_getElem.mp h i k (by simpa using Nat.lt_trans hi hk) (by simpa using hk) hi
 simpa [Array.getD,hk,Nat.lt_trans hi hk] using this
def C0 (xs:Array Nat) (j r:Nat):Prop:=r≤xs.size∧(∀i,i<r→xs.getD i 0<j)∧∀i,r≤i→i<xs.size→j≤xs.getD i 0
theorem CB {xs:Array Nat}{i a b:Nat} (h:i<xs.size):xs.getD i a=xs.getD i b:=by simp [Array.getD,h]
theorem Cp {xs:Array Nat} (u:Up xs) (j:Nat):∀(f lo hi:Nat),hi≤xs.size→lo≤hi→hi - lo≤f→(∀i,i<lo→xs.getD i 0<j)→(∀i,hi≤i→i<xs.size→j≤xs.getD i 0)→C0 xs j (SetTable.below.go xs j f lo hi):=by
 intro f
 induction f with
 | zero=>
  intro lo hi h1 h2 h3 h4 h5
  have:lo=hi:=by trivial
  subst this
  exact ⟨h1,h4,h5⟩
 | succ f ih=>
  intro lo hi h1 h2 h3 h4 h5
  unfold SetTable.below.go
  by_cases c:lo<hi
  ·rw [if_pos c]
   dsimp only
   have m1:(lo+hi) / 2<hi:=by trivial
   have m2:lo≤(lo+hi) / 2:=by trivial
   have ms:(lo+hi) / 2<xs.size:=by trivial
   rw [CB (b:=0) ms]
   by_cases q:xs.getD ((lo+hi) / 2) 0<j
   ·rw [if_pos q]
    refine ih _ _ h1 (by trivial) (by trivial) (fun i hi'=>?_) h5
    by_cases e:i=(lo+hi) / 2
    ·rw [e];exact q
    ·exact Nat.lt_trans (qT u (show i<(lo+hi) / 2 by trivial) ms) q
   ·rw [if_neg q]
    refine ih _ _ (by trivial) m2 (by trivial) h4 fun i hi' hs=>?_
    by_cases e:i=(lo+hi) / 2
    ·rw [e];trivial
    ·have:=qT u (show (lo+hi) / 2<i by trivial) hs
     trivial
  ·rw [if_neg c]
   have:lo=hi:=by trivial
   subst this
   exact ⟨h1,h4,h5⟩
theorem mM {xs:Array Nat} (u:Up xs) (j:Nat):C0 xs j (SetTable.below xs j):=
 Cp u j _ _ _ (Nat.le_refl _) (Nat.zero_le _) (by trivial) (fun i h=>absurd h (Nat.not_lt_zero _)) fun i h1 h2=>absurd h2 (by trivial)
theorem tY {xs:Array Nat}{j r q:Nat} (a:C0 xs j r) (b:C0 xs j q):r=q:=by
 rcases Nat.lt_trichotomy r q with h | h | h
 ·have h1:=b.2.1 r h
  have h2:=a.2.2 r (Nat.le_refl _) (by have:=b.1;trivial)
  trivial
 ·exact h
 ·have h1:=a.2.1 q h
  have h2:=b.2.2 q (Nat.le_refl _) (by have:=a.1;trivial)
  trivial
theorem tO {xs:Array Nat} (u:Up xs):SetTable.below xs 0=0:=tY (mM u 0) ⟨Nat.zero_le _,fun i h=>absurd h (Nat.not_lt_zero _),fun i _ _=>Nat.zero_le _⟩
theorem sR {xs:Array Nat} (u:Up xs) {i:Nat} (hi:i<xs.size):SetTable.below xs (xs.getD i 0+1)=i+1:=by
 refine tY (mM u _) ⟨hi,fun k hk=>?_,fun k hk hs=>?_⟩
 ·by_cases e:k=i
  ·rw [e];trivial
  ·have:=qT u (show k<i by trivial) hi
   trivial
 ·have:=qT u (show i<k by trivial) hs
  trivial
theorem Bq {xs:Array Nat} (u:Up xs) {j:Nat} (no:∀i,i<xs.size→xs.getD i 0≠j):Up (SetTable.insertAt xs (SetTable.below xs j) j):=by
 obtain ⟨h1,h2,h3⟩:=mM u j
 generalize SetTable.below xs j=r at h1 h2 h3
 unfold Up
 rw [SetTable.toList_insertAt]
 have gd:∀(i:Nat) x,xs.toList[i]?=some x→i<xs.size∧xs.getD i 0=x:=fun i x e=>by
  obtain ⟨q1,q2⟩:=List.getElem?_eq_some_iff.mp e
  have q1':i<xs.size:=by simpa using q1
  exact ⟨q1',by simpa [Array.getD,q1'] using q2⟩
 have up:xs.toList.Pairwise (· < ·):=u
 have e0:xs.toList=xs.toList.take r++xs.toList.drop r:=(List.take_append_drop r _).symm
 rw [e0,List.pairwise_append] at up
 refine List.pairwise_append.mpr ⟨up.1,List.pairwise_cons.mpr ⟨fun y hy=>?_,up.2.1⟩,fun x hx y hy=>?_⟩
 ·obtain ⟨i,hi⟩:=List.getElem?_of_mem hy
  rw [List.getElem?_drop] at hi
  obtain ⟨q1,q2⟩:=gd _ _ hi
  have:=h3 (r+i) (by trivial) q1
  have:=no (r+i) q1
  trivial
 ·have hxj:x<j:=by
   obtain ⟨i,hi⟩:=List.getElem?_of_mem hx
   rw [List.getElem?_take] at hi
   split at hi
   ·obtain ⟨q1,q2⟩:=gd _ _ hi
    have:=h2 i (by assumption)
    trivial
   ·cases hi
  rcases List.mem_cons.mp hy with e | hy
  ·rw [e];exact hxj
  ·exact up.2.2 x hx y hy
theorem Cu (n:Nat):Up (Array.range n):=by
 unfold Up
 rw [Array.toList_range]
 exact List.pairwise_lt_range
theorem vy {t:SetTable} (u:Up t.place) {j:Nat} (h:∀i,t.slot j≠.live i):∀i,i<t.place.size→t.place.getD i 0≠j:=by
 intro i hi e
 refine h (SetTable.below t.place j) ?_
 have b:SetTable.below t.place j=i:=by
  refine tY (mM u j) ⟨Nat.le_of_lt hi,fun k hk=>?_,fun k hk hs=>?_⟩
  ·rw [←e];exact qT u hk hi
  ·by_cases q:k=i
   ·rw [q];trivial
   ·have:=qT u (show i<k by trivial) hs
    trivial
 have e':t.place[i]=j:=by simpa [Array.getD,hi] using e
 unfold SetTable.slot
 dsimp only
 rw [b,Array.getElem?_eq_getElem hi,e']
 simp
theorem Ae {t:SetTable}{g:Nat→Int}{h:Int}:∀(f:Nat) (p:SetTable.Probe) (j:Nat) (d:Option Nat),(∀e,p.dummy=some e→∀i,t.slot e≠.live i)→SetTable.probe.go t g h f p=some (.empty j d)→(∀i,t.slot j≠.live i)∧∀e,d=some e→∀i,t.slot e≠.live i:=by
 intro f
 induction f with
 | zero=>intro p j d _ e;cases e
 | succ f ih=>
  intro p j d hp e
  unfold SetTable.probe.go at e
  have adv:∀q:SetTable.Probe,(t.advance q).dummy=q.dummy:=fun q=>by
   unfold SetTable.advance
   split
   ·rfl
   ·rfl
  cases hs:t.slot p.j with
  | empty=>
   rw [hs] at e
   injection e with e
   injection e with e1 e2
   subst e1 e2
   exact ⟨fun i z=>(nomatch (hs.symm.trans z)),hp⟩
  | dummy=>
   rw [hs] at e
   refine ih _ j d (fun e1 he i=>?_) e
   rw [adv] at he
   injection he with he
   rw [←he,hs]
   exact fun z=>nomatch z
  | live k=>
   rw [hs] at e
   dsimp only at e
   split at e
   ·injection e with e
    cases e
   ·refine ih _ j d (fun e1 he=>?_) e
    rw [adv] at he
    exact hp e1 he
theorem El {t:SetTable} (u:Up t.place) {h:Int}{j:Nat}{b:Bool} (e:t.freeSlot h=some (j,b)):∀i,i<t.place.size→t.place.getD i 0≠j:=by
 unfold SetTable.freeSlot at e
 split at e
 ·rename_i j0 d he
  obtain ⟨h1,h2⟩:=Ae _ _ _ _ (fun e1 he1=>by cases he1) he
  injection e with e
  injection e with e1 e2
  cases d with
  | none=>
   have e1:j0=j:=e1
   subst e1
   exact vy u h1
  | some d=>
   have e1:d=j:=e1
   subst e1
   exact vy u (h2 d rfl)
 ·cases e
def Tb (led:Bool) (t:SetTable):Prop:=Up t.place∧t.led=led
theorem lu {led:Bool}{t:SetTable} (h:t.led=led) (n:Nat):Tb led (t.standIn n):=⟨Cu n,h⟩
theorem Fg {led:Bool}{t:SetTable} (h:Tb led t) (es:Array (Int×Value)) (k:Int) (x:Value):Tb led (layNew t es k x).2.1:=by
 unfold layNew
 cases hf:t.freeSlot k with
 | none=>exact lu h.2 _
 | some jb=>
  obtain ⟨j,b⟩:=jb
  dsimp only
  have u2:Up (t.put j).1.place:=Bq h.1 (El h.1 hf)
  unfold SetTable.orStandIn
  split
  ·exact ⟨u2,h.2⟩
  ·exact lu (t:=(t.put j).1) h.2 _
theorem DN {m fi mo:Nat}{le pl:Bool}{hs:Array Int}{t:SetTable}{od:Array Nat} (e:SetTable.laid m fi mo le pl hs=some (t,od)):Tb le t:=by
 unfold SetTable.laid at e
 cases hc:SetTable.layClean m hs with
 | none=>rw [hc] at e;cases e
 | some ow=>
  rw [hc] at e
  injection e with e
  injection e with e1 e2
  subst e1
  refine ⟨?_,rfl⟩
  unfold Up
  dsimp only
  rw [List.pairwise_map,List.pairwise_filterMap]
  refine List.Pairwise.imp (fun {a b} hab=>?_) List.pairwise_lt_range
  intro x hx y hy
  cases h1:ow.getD a none with
  | none=>rw [h1] at hx;cases hx
  | some c1=>
   cases h2:ow.getD b none with
   | none=>rw [h2] at hy;cases hy
   | some c2=>
    rw [h1] at hx
    rw [h2] at hy
    cases hx
    cases hy
    exact hab
theorem BR {led:Bool}{t:SetTable} (h:Tb led t) (es:Array (Int×Value)) (n:Nat):Tb led (relayAll t es n).2.1:=by
 unfold relayAll
 split
 ·rename_i t' od he
  dsimp only
  have h':Tb led t':=by
   have:=DN he
   rw [h.2] at this
   exact this
  split
  ·exact h'
  ·exact lu h.2 _
 ·exact lu h.2 _
def dJ (w:World):Bool:=!(w.params.followText "set-order")
def fQ (prog:Program) (w:World) (h:Heap) (a:Addr) (S:bp→Bool) (n:Nat):Prop:=
 lO fun ob xs ep tb=>h.get? a=some ob∧ob.ExactSet∧ob.data=.set xs ep tb∧ElemsOf (bT prog w) xs.toList∧(∀k,S k=true↔∃e∈xs.toList,b9 k e.2=true)∧xs.size<scanBound∧tb.fits xs.size=true∧xs.size=n∧Tb (dJ w) tb
section
variable {prog:Program}{w:World}{A:Around}{E:Value→Shared→Prop}{s:Shared}
theorem fQ.but {h h':Heap}{a:Addr}{S:bp→Bool}{n:Nat} (x:fQ prog w h a S n) (k:∀o,h.get? a=some o→h'.get? a=some o):fQ prog w h' a S n:=
 let ⟨ob,xs,ep,tb,h1,r⟩:=x;⟨ob,xs,ep,tb,k ob h1,r⟩
theorem fQ.eq {h:Heap}{a:Addr}{S S':bp→Bool}{n m:Nat} (x:fQ prog w h a S n) (e:∀k,S k=S' k) (en:n=m):fQ prog w h a S' m:=by
 cases en
 cases (funext e:S=S')
 exact x
theorem fQ.store {h:Heap}{a:Addr}{ob:Obj}{xs ys:Array (Int×Value)}{ep:Nat}{tb tc:SetTable}{S:bp→Bool} (h1:h.get? a=some ob) (h2:ob.ExactSet) (h3:ob.data=.set xs ep tb)
 (g1:ElemsOf (bT prog w) ys.toList) (g2:∀k,S k=true↔∃e∈ys.toList,b9 k e.2=true) (g3:ys.size<scanBound) (g4:tc.fits ys.size=true) (g5:Tb (dJ w) tc) :
 (h.update a (Obj.putSet ys tc)).get? a=some { ob with data:=.set ys (ep+1) tc }∧fQ prog w (h.update a (Obj.putSet ys tc)) a S ys.size:=by
 have e:=(SetOf_store (knd:=bT prog w) h1 h2 h3 g1 g2 g3 g4).1
 exact ⟨e,_,ys,ep+1,tc,e,h2,rfl,g1,g2,g3,g4,rfl,g5⟩
theorem Fp {led:Bool}{t:SetTable} (h:Tb led t):Tb led { t with plain:=false }:=h
theorem vJ {g:Bool→Sem Unit} (hg:∀(b:Bool) (s1:Shared) (R:Unit→Shared→Prop),R () s1→wpAny (model prog w) A (g b) R E s1) {a:Addr}{ob:Obj}{xs ys:Array (Int×Value)}{ep:Nat}{tb tc:SetTable}{S:bp→Bool} (h1:s.heap.get? a=some ob) (h2:ob.ExactSet) (h3:ob.data=.set xs ep tb)
 (g1:ElemsOf (bT prog w) ys.toList) (g2:∀k,S k=true↔∃e∈ys.toList,b9 k e.2=true) (g3:ys.size<scanBound) (g4:tc.fits ys.size=true) (g5:Tb (dJ w) tc) {dum:Bool}{R:Option Bool→Shared→Prop}
 (k:∀h',Heap.SameBut a s.heap h'→fQ prog w h' a S ys.size→R (some true) { s with heap:=h' }) :
 wpAny (model prog w) A (do
  storeSet a ys tc
  if (!dum && tc.tooFull)=true then do
      g (relayAll tc ys (SetTable.grown ys.size)).2.2
      storeSet a (relayAll tc ys (SetTable.grown ys.size)).1 (relayAll tc ys (SetTable.grown ys.size)).2.1
      pure (some true)
   else pure (some true)) R E s:=by
 obtain ⟨e1,q1⟩:=fQ.store (S:=S) h1 h2 h3 g1 g2 g3 g4 g5
 have b1:=Heap.SameBut.update s.heap a (Obj.putSet ys tc)
 refine wpAny_bind (wpAny_storeSet_of h1 h3 ?_ (fits_of_scanBound g3))
 split
 case isFalse=>exact wpAny_pure (k _ b1 q1)
 have pm:=relayAll_perm tc ys (SetTable.grown ys.size)
 have ft:=relayAll_fits tc ys (SetTable.grown ys.size)
 have tt:=BR g5 ys (SetTable.grown ys.size)
 generalize relayAll tc ys (SetTable.grown ys.size)=Z at pm ft tt ⊢
 obtain ⟨zs,td,gv⟩:=Z
 dsimp only at pm ft tt ⊢
 have zl:zs.size=ys.size:=by have:=pm.length_eq;simpa using this
 have g3':zs.size<scanBound:=by trivial
 obtain ⟨_,q2⟩:=fQ.store (ys:=zs) (tc:=td) (S:=S) e1 h2 rfl (g1.perm pm) (fun k'=>(g2 k').trans ⟨fun ⟨e,m,q⟩=>⟨e,pm.mem_iff.mpr m,q⟩,fun ⟨e,m,q⟩=>⟨e,pm.mem_iff.mp m,q⟩⟩) g3' ft tt
 rw [zl] at q2
 exact wpAny_bind (hg _ _ _ (wpAny_bind (wpAny_storeSet_of e1 rfl (wpAny_pure (k _ (b1.trans (Heap.SameBut.update _ a _)) q2)) (fits_of_scanBound g3'))))
theorem CC {a:Addr}{S:bp→Bool}{n:Nat}{k:bp}{x:Value}{R:Bool→Shared→Prop} (kv:b9 k x=true) (sv:x.scannable=true) (H:fQ prog w s.heap a S n) (room:n+1<scanBound)
 (q:∀h',Heap.SameBut a s.heap h'→fQ prog w h' a (fun j=>S j || decide (j=k)) (if S k then n else n+1)→R (!S k) { s with heap:=h' }) :
 wpAny (model prog w) A (setAddHashed a x ((bT prog w).hash k)) R E s:=by
 obtain ⟨ob,xs,ep,tb,h1,h2,h3,h4,h5,h6,h7,h8,h9⟩:=id H
 have gw:∀(b:Bool) (s1:Shared) (R':Unit→Shared→Prop),R' () s1→wpAny (model prog w) A (match b with | true=>rule "set.scan.the-table-gave-way" | false=>pure ()) R' E s1:=fun b s1 R' r=>by
  cases b
  ·exact wpAny_pure r
  ·exact wpAny_rule r
 unfold setAddHashed setAddHashedIn
 refine wpAny_holding ?_
 refine wpAny_bind (wpAny_setState_of h1 h3 h7 ?_)
 dsimp only
 rw [if_pos (byScan_of (knd:=bT prog w) sv h6 h4)]
 unfold setAddByScan
 refine wpAny_bind (wpAny_bind (wpAny_rule (wpAny_bind (wpAny_setScan_of (knd:=bT prog w) kv h1 h3 h7 h4 ?_))))
 cases hf:List.findIdx? (fun e=>(bT prog w).is k e.2) xs.toList with
 | some j=>
  obtain ⟨hj,hp,_⟩:=List.findIdx?_eq_some_iff_getElem.mp hf
  have hk:S k=true:=(h5 k).mpr ⟨_,List.getElem_mem hj,hp⟩
  dsimp only
  refine wpAny_pure (wpAny_pure ?_)
  have q':=q s.heap (Heap.SameBut.refl a s.heap) (H.eq (fun j=>?_) (by rw [if_pos hk]))
  ·rw [hk] at q'
   exact q'
  ·by_cases e:j=k
   ·rw [e,hk];rfl
   ·rw [decide_eq_false e,Bool.or_false]
 | none=>
  have hk:S k=false:=by
   cases hc:S k with
   | false=>rfl
   | true=>
    obtain ⟨e,m,hp⟩:=(h5 k).mp hc
    have:=List.findIdx?_eq_none_iff.mp hf e m
    rw [show (bT prog w).is k e.2=true from hp] at this
    cases this
  dsimp only
  have pm:=layNew_perm tb xs ((bT prog w).hash k) x
  have ft:=layNew_fits tb xs ((bT prog w).hash k) x
  have tt:=Fg h9 xs ((bT prog w).hash k) x
  generalize layNew tb xs ((bT prog w).hash k) x=Z at pm ft tt ⊢
  obtain ⟨ys,tc,dum,gv⟩:=Z
  dsimp only at pm ft tt ⊢
  rw [Array.toList_push] at pm
  have yl:ys.size=n+1:=by have:=pm.length_eq;simp at this;trivial
  have g1:ElemsOf (bT prog w) ys.toList:=(h4.push kv sv).perm pm
  have g2:=mem_push_iff (knd:=bT prog w) kv h5 pm
  have fin:∀h',Heap.SameBut a s.heap h'→fQ prog w h' a (fun j=>S j || decide (j=k)) ys.size→R true { s with heap:=h' }:=fun h' b z=>by
   have q':=q h' b
   rw [hk,if_neg (by decide),←yl] at q'
   exact q' z
  refine wpAny_bind (gw _ _ _ ?_)
  split
  ·refine wpAny_bind ?_
   rw [hashByValue_scannable 8 sv]
   refine wpAny_pure ?_
   refine vJ gw h1 h2 h3 g1 g2 (by trivial) ?_ ?_ fun h' b z=>wpAny_pure (fin h' b z)
   ·split
    ·exact ft
    ·exact SetTable.fits_plain_off ft
   ·split
    ·exact tt
    ·exact Fp tt
  ·refine wpAny_bind (wpAny_pure ?_)
   simp only [↓reduceIte]
   exact vJ gw h1 h2 h3 g1 g2 (by trivial) ft tt fun h' b z=>wpAny_pure (fin h' b z)
end
abbrev fH (prog:Program) (w:World) (h:Heap) (a:Addr) (ks:List bp):Prop:=fQ prog w h a (fun j=>(cK ks).any (fun x=>decide (x=j))) (cK ks).length
theorem xF {prog:Program}{w:World}{h:Heap}{a:Addr} (e:h.get? a=some (bZ (dJ w))):fH prog w h a []:=
 ⟨_,#[],0,_,e,⟨rfl,rfl,rfl⟩,rfl,fun x hx=>(by simp at hx),fun k=>(by simp [cK]),by decide,by rfl,rfl,List.Pairwise.nil,rfl⟩
section
variable {prog:Program}{w:World}{A:Around}{R:Result→Shared→Prop}{it:Addr}{fp wr:List Addr}{G:Array GenState→Array GenState→Prop}{P:Nat→Value→Prop}{St:Nat→Shared→Prop}
theorem u9 {ks:List bp} (W:WalksS prog w A.in1 it fp wr G ks.length P St) {a:Addr} (ha:a∉fp) (hv:∀i v,P i v→∀k,ks[i]?=some k→b9 k v=true∧v.scannable=true) (hb:ks.length+1<scanBound) :
 ∀(r i:Nat) (s:Shared),ks.length - i=r→i≤ks.length→St i s→fH prog w s.heap a (ks.take i)→
   (∀s',Moved (a :: wr) G s s'→fH prog w s'.heap a ks→R (.ok (.ret .none)) s')→codeAny (model prog w) A (.builtin "set.update.loop" ⟨[.ref a,.ref it],[]⟩) R s:=by
 have nw:a∉wr:=fun z=>ha (W.sub _ z)
 have up:∀b∈wr,b∈a :: wr:=fun b z=>List.mem_cons_of_mem _ z
 intro r
 induction r with
 | zero=>
  intro i s hr hi st hS hR
  have e:i=ks.length:=by trivial
  rw [e] at st hS
  rw [List.take_length] at hS
  refine codeAny_builtin F.entry_set_update_loop ?_
  rw [A.under_plainId F.plain_set_update_loop]
  show wpAny _ _ (pyNext (Value.ref it) >>= _) _ _ _
  refine wpAny_bind (W.done s _ _ st fun s' m=>?_)
  show wpAny _ _ (ret .none) _ _ _
  exact wpAny_pure (hR s' (m.mono up) (fQ.but hS fun o ho=>m.heap a o nw ho))
 | succ r ih=>
  intro i s hr hi st hS hR
  have lt:i<ks.length:=by trivial
  refine codeAny_builtin F.entry_set_update_loop ?_
  rw [A.under_plainId F.plain_set_update_loop]
  show wpAny _ _ (pyNext (Value.ref it) >>= _) _ _ _
  refine wpAny_bind (W.item i s _ _ lt st fun v s' pv st' m=>?_)
  obtain ⟨kv,sv⟩:=hv i v pv ks[i] (List.getElem?_eq_getElem lt)
  have hS':fH prog w s'.heap a (ks.take i):=fQ.but hS fun o ho=>m.heap a o nw ho
  have l1:(cK (ks.take i)).length+1<scanBound:=by
   have:=jO (ks.take i)
   rw [List.length_take] at this
   trivial
  show wpAny _ _ (holding [v] (setAdd a v) >>= _) _ _ _
  refine wpAny_bind (wpAny_holding ?_)
  unfold setAdd
  refine wpAny_holding (wpAny_bind ((bT prog w).pyHash (k:=ks[i]) kv (CC (s:={ s' with toks:=s'.toks+1 }) kv sv hS' l1 fun h2 sb hS2=>?_)))
  have nx:fH prog w h2 a (ks.take (i+1)):=by
   rw [List.take_succ_eq_append_getElem lt]
   refine fQ.eq hS2 (fun j=>?_) ?_
   ·rw [fJ]
    split
    ·rename_i z
     by_cases q:j=ks[i]
     ·subst q;rw [z];rfl
     ·rw [decide_eq_false q,Bool.or_false]
    ·rw [List.any_append]
     congr 1
     rw [List.any_cons,List.any_nil,Bool.or_false]
     by_cases q:j=ks[i]
     ·rw [decide_eq_true q,decide_eq_true q.symm]
     ·rw [decide_eq_false q,decide_eq_false (Ne.symm q)]
   ·rw [fJ]
    split
    ·rfl
    ·rw [List.length_append];rfl
  refine wpAny_pure ⟨plainId_quiet F.plain_set_update_loop _,ih (i+1) _ (by trivial) lt (W.frame _ s' _ _ st' (Nat.le_succ _) fun b z o e=>?_) nx fun s2 m2 hS3=>?_⟩
  ·rw [sb.2 b (fun q=>ha (q▸z))];exact e
  ·refine hR s2 (.trans W.gtrans ((m.mono up).then_heap (Nat.le_succ _) fun b o z e=>?_) m2) hS3
   rw [sb.2 b (fun q=>z (q▸List.mem_cons_self))];exact e
end
section
variable {prog:Program}{w:World}{A:Around}{E:Value→Shared→Prop}{s:Shared}
theorem Ca (x:Value) {R:Value→Shared→Prop} (h:R (.ref s.heap.objs.size) { s with heap:=s.heap.push (bZ (dJ w)) }) :
 codeAny (model prog w) A (.call (.builtin "set.__new__") ⟨[.type "set",x],[]⟩) (wants R E) s:=by
 refine codeAny_of_tree ?_
 show wpAny _ A.in1 (checkBuiltinCall "set.__new__" ⟨[.type "set",x],[]⟩ >>= fun _=>again (.builtin "set.__new__" ⟨[.type "set",x],[]⟩)) _ _ s
 refine wpAny_bind (wpAny_of_eq (PySem.F.newCall_set_1 x) (wpAny_pure ⟨plainId_quiet PySem.F.plain_set_new _,codeAny_builtin PySem.F.entry_set_new ?_⟩))
 rw [Around.under_plainId PySem.F.plain_set_new _]
 unfold Builtin.«set.__new__» Builtin.Frozenset.newClass
 have su:=sub_set_self
 obtain ⟨hp,g,d,tk,os⟩:=s
 dsimp only
 wp_walk
 refine wpAny_askSetting (wpAny_pure ?_)
 dsimp only
 simp only [newObj]
 exact wpAny_bind (wpAny_alloc (wpAny_pure (wpAny_pure h)))
set_option maxHeartbeats 4000000 in
theorem Bk {l:Addr}{vs:List Value}{ks:List bp}{c:Bool} (hh:A.handled=none) (hl:if c=true then s.heap.IsList l vs.toArray else s.heap.IsTuple l vs.toArray) (hn:vs.length=ks.length)
 (hk:∀(i:Nat) v,vs[i]?=some v→∀k,ks[i]?=some k→b9 k v=true∧v.scannable=true) (hb:ks.length+1<scanBound) {R:Fin→Shared→Prop}
 (h:∀h' tk,fH prog w h' s.heap.objs.size ks→(∀b o,b<s.heap.objs.size→s.heap.get? b=some o→h'.get? b=some o)→R (.done (.ret .none)) { s with heap:=h',toks:=tk }) :
 wpAny (model prog w) A (Builtin.«set.__init__» ⟨[.ref s.heap.objs.size,.ref l],[]⟩) R E { s with heap:=s.heap.push (bZ (dJ w)) }:=by
 have hS:(s.heap.push (bZ (dJ w))).get? s.heap.objs.size=some (bZ (dJ w)):=Heap.get?_push_size _ rfl
 have hT:Shared.TypeIs { s with heap:=s.heap.push (bZ (dJ w)) } (.ref s.heap.objs.size) "set" := ⟨_,hS,rfl⟩
 have vget:∀(i:Nat) v,vs.toArray[i]?=some v→∀k,ks[i]?=some k→b9 k v=true∧v.scannable=true:=fun i v e=>hk i v (by simpa using e)
 have sz:vs.toArray.size=ks.length:=by rw [List.size_toArray];exact hn
 have hS2:∀o:Obj,((s.heap.push (bZ (dJ w))).push o).get? s.heap.objs.size=some (bZ (dJ w)):=fun o=>Heap.get?_push_of_some _ hS
 have lS:∀{x:Obj},s.heap.get? l=some x→l<s.heap.objs.size:=fun e=>Heap.lt_size e
 have neI:s.heap.objs.size≠(s.heap.push (bZ (dJ w))).objs.size:=by rw [Heap.size_push];trivial
 have fin:∀(s':Shared) (o:Obj),Moved (s.heap.objs.size :: [(s.heap.push (bZ (dJ w))).objs.size]) (fun a b=>b=a) { s with heap:=(s.heap.push (bZ (dJ w))).push o } s'→fH prog w s'.heap s.heap.objs.size ks→R (.done (.ret .none)) s':=fun s' o m q=>by
  obtain ⟨h',g',d',tk',os'⟩:=s'
  cases (show g'=s.gens from m.gens)
  cases (show d'=s.drawn from m.drawn)
  cases (show os'=s.os from m.os)
  refine h h' tk' q fun b o hb e=>m.heap b o (fun z=>?_) (Heap.get?_push_of_some _ (Heap.get?_push_of_some _ e))
  rw [Heap.size_push] at z
  have z':b=s.heap.objs.size∨b=s.heap.objs.size+1:=by simpa using z
  have hb':(b:Nat)<s.heap.objs.size:=hb
  rcases z' with z' | z'
  ·exact absurd z' (Nat.ne_of_lt hb')
  ·exact absurd z' (Nat.ne_of_lt (Nat.lt_succ_of_lt hb'))
 cases c with
 | true=>
  have hl':s.heap.IsList l vs.toArray:=hl
  obtain ⟨⟨oc,od,oo,os⟩,e1,rfl,n,rfl⟩:=hl'
  have e2:(s.heap.push (bZ (dJ w))).get? l=some ⟨.type "list",od,.seq vs.toArray n,os⟩:=Heap.get?_push_of_some _ e1
  have q1:=PySem.F.sub_list_set
  have q2:=PySem.F.sub_list_frozenset
  have q3:(Value.type "list" == Value.type "dict")=false:=by decide
  have l1:(s.heap.push (bZ (dJ w))).IsList l vs.toArray:=⟨_,e2,rfl,n,rfl⟩
  unfold Builtin.«set.__init__» noKeywords Builtin.Frozenset.updateFrom
  generalize hPI:pyIter=PI
  wp_walk
  subst hPI
  have ll:=lS e1
  refine wpAny_pyIter_list l1 (wpAny_bind (wpAny_runValue ?_))
  have ne1:l≠(s.heap.push (bZ (dJ w))).objs.size:=by rw [Heap.size_push];exact Nat.ne_of_lt (Nat.lt_succ_of_lt ll)
  refine u9 (a:=s.heap.objs.size) (ks:=ks) (sz▸(Walks.list (by simpa using hh) _ l ne1 vs.toArray).toS) ?_ vget hb (ks.length - 0) 0 _ rfl (Nat.zero_le _) ⟨⟨_,Heap.get?_push_size _ rfl,rfl,rfl⟩,l1.push _⟩ (xF (hS2 _)) fun s' m q=>?_
  ·intro z
   have z':s.heap.objs.size=(s.heap.push (bZ (dJ w))).objs.size∨s.heap.objs.size=l:=by simpa using z
   rcases z' with z' | z'
   ·exact neI z'
   ·exact absurd z' (Nat.ne_of_gt ll)
  ·exact wpAny_pure (wpAny_pure (fin s' _ m q))
 | false=>
  have hl':s.heap.IsTuple l vs.toArray:=hl
  obtain ⟨⟨oc,od,oo,os⟩,e1,rfl,n,rfl⟩:=hl'
  have e2:(s.heap.push (bZ (dJ w))).get? l=some ⟨.type "tuple",od,.seq vs.toArray n,os⟩:=Heap.get?_push_of_some _ e1
  have q1:=rP
  have q2:=qm
  have q3:(Value.type "tuple" == Value.type "dict")=false:=by decide
  have l1:(s.heap.push (bZ (dJ w))).IsTuple l vs.toArray:=⟨_,e2,rfl,n,rfl⟩
  unfold Builtin.«set.__init__» noKeywords Builtin.Frozenset.updateFrom
  generalize hPI:pyIter=PI
  wp_walk
  subst hPI
  have ll:=lS e1
  refine wpAny_pyIter_tuple l1 (wpAny_bind (wpAny_runValue ?_))
  have ne1:l≠(s.heap.push (bZ (dJ w))).objs.size:=by rw [Heap.size_push];exact Nat.ne_of_lt (Nat.lt_succ_of_lt ll)
  refine u9 (a:=s.heap.objs.size) (ks:=ks) (sz▸(Walks.tuple (by simpa using hh) _ l ne1 vs.toArray).toS) ?_ vget hb (ks.length - 0) 0 _ rfl (Nat.zero_le _) ⟨⟨_,Heap.get?_push_size _ rfl,rfl,rfl⟩,l1.at fun o e=>Heap.get?_push_of_some _ e⟩ (xF (hS2 _)) fun s' m q=>?_
  ·intro z
   have z':s.heap.objs.size=(s.heap.push (bZ (dJ w))).objs.size∨s.heap.objs.size=l:=by simpa using z
   rcases z' with z' | z'
   ·exact neI z'
   ·exact absurd z' (Nat.ne_of_gt ll)
  ·exact wpAny_pure (wpAny_pure (fin s' _ m q))
set_option maxHeartbeats 4000000 in
theorem AZ {l:Addr}{vs:List Value}{ks:List bp}{c:Bool}{Q:Value→Shared→Prop} (hh:A.handled=none) (hl:if c=true then s.heap.IsList l vs.toArray else s.heap.IsTuple l vs.toArray) (hn:vs.length=ks.length)
 (hk:∀(i:Nat) v,vs[i]?=some v→∀k,ks[i]?=some k→b9 k v=true∧v.scannable=true) (hb:ks.length+1<scanBound)
 (h:∀h' tk,fH prog w h' s.heap.objs.size ks→(∀b o,b<s.heap.objs.size→s.heap.get? b=some o→h'.get? b=some o)→Q (.ref s.heap.objs.size) { s with heap:=h',toks:=tk }) :
 wpAny (model prog w) A (call (.type "set") [.ref l]) Q E s:=by
 have T:=PySem.F.called_set
 obtain ⟨_,_,t0⟩:=T.mro
 have t1:=T.notType
 have t2:=T.canCreate
 have t3:=T.made
 have t4:=T.sub
 have t5:=PySem.F.typeCall_set_1 (.ref l)
 refine wpAny_call (codeAny_of_tree ?_)
 show wpAny _ _ (callAny (Value.type "set") _) _ _ s
 refine wpAny_pure ⟨Code.quiet_builtin _ (by nofun),codeAny_builtin PySem.F.entry_type_call ?_⟩
 rw [A.under_plain (weight_type_call_type "set" [Value.ref l] []) rfl]
 repeat (any_goals first | assumption | wp_step)
 refine codeAny_mono (Ca (.ref l) (E:=E) (R:=fun v s1=>v=.ref s.heap.objs.size∧s1={ s with heap:=s.heap.push (bZ (dJ w)) }) ⟨rfl,rfl⟩) fun r s1 hr=>?_
 cases r with
 | error e=>exact hr
 | ok f=>
  cases f with
  | ret v=>
   obtain ⟨rfl,rfl⟩:=hr
   have hT:Shared.TypeIs { s with heap:=s.heap.push (bZ (dJ w)) } (.ref s.heap.objs.size) "set" := ⟨_,Heap.get?_push_size _ rfl,rfl⟩
   have t6:=T.init.lookup
   have t7:=T.init.bind (.ref s.heap.objs.size)
   repeat (any_goals first | assumption | wp_step)
   refine codeAny_mono (codeAny_call_builtin (R:=wants (fun v s2=>v=.none∧cj fun h' tk=>s2={ s with heap:=h',toks:=tk }∧fH prog w h' s.heap.objs.size ks∧∀b o,b<s.heap.objs.size→s.heap.get? b=some o→h'.get? b=some o) E) T.init.plain PySem.F.entry_set_init (check_set_init_1 hT ?_)) fun r2 s2 hr2=>?_
   ·exact Bk (by simpa using hh) hl hn hk hb fun h' tk q kp=>⟨rfl,h',tk,rfl,q,kp⟩
   ·cases r2 with
    | error e=>exact hr2
    | ok f=>
     cases f with
     | ret v=>
      obtain ⟨rfl,h',tk,rfl,q,kp⟩:=hr2
      repeat (any_goals first | assumption | wp_step)
      exact h _ _ q kp
     | _=>exact hr2.elim
  | _=>exact hr.elim
end
theorem ly {α:Type}:∀{l:List α}{j:Nat} (h:j<l.length),(l[j] :: l.eraseIdx j).Perm l
 | y :: r,0,_=>.refl _
 | y :: r,j+1,h=>by
  have h':j<r.length:=by simpa using h
  show (r[j] :: y :: r.eraseIdx j).Perm (y :: r)
  exact (List.Perm.swap _ _ _).trans ((ly h').cons y)
theorem Ei {α:Type} (nx:Nat→Nat):∀(f k:Nat) (l:List α) (out:Array α),l.length≤f→(pickOrder.go nx f k l out).toList.Perm (out.toList++l):=by
 intro f
 induction f with
 | zero=>
  intro k l out h
  have:l=[]:=List.eq_nil_of_length_eq_zero (by trivial)
  subst this
  unfold pickOrder.go
  simp
 | succ f ih=>
  intro k l out h
  unfold pickOrder.go
  cases l with
  | nil=>simp
  | cons y r=>
   have hm:nx k % (y :: r).length<(y :: r).length:=Nat.mod_lt _ (by simp)
   generalize nx k % (y :: r).length=j at hm
   rw [List.getElem?_eq_getElem hm]
   dsimp only
   refine (ih _ _ _ (by rw [List.length_eraseIdx];split <;> simp at h ⊢ <;> trivial)).trans ?_
   rw [Array.toList_push,List.append_assoc]
   refine List.Perm.append_left _ ?_
   exact ly hm
theorem Bo {α:Type} (nx:Nat→Nat) (xs:Array α):(pickOrder nx xs).toList.Perm xs.toList:=by
 have:=Ei nx xs.size 0 xs.toList #[] (by simp)
 simpa [pickOrder] using this
section
variable {M:Model}{A:Around}{E:Value→Shared→Prop}{s:Shared}
theorem xJ {src:Source}{n:Nat}{Q:Nat→Shared→Prop} (hn:n≠0) (h:∀x d',x<n→Q x { s with drawn:=d' }):wpAny M A (choose src n) Q E s:=fun Γ p _=>by
 unfold choose
 rw [Sem.wp_choose]
 exact ⟨hn,h _ _ (Nat.mod_lt _ (Nat.pos_of_ne_zero hn))⟩
theorem sW {α:Type}:∀(n:Nat) (xs:List α) {s:Shared}{Q:List α→Shared→Prop},n=xs.length→(∀ys d',ys.Perm xs→Q ys { s with drawn:=d' })→wpAny M A (drawOrder n xs) Q E s:=by
 intro n
 induction n with
 | zero=>
  intro xs s Q e h
  have:xs=[]:=List.eq_nil_of_length_eq_zero e.symm
  subst this
  exact wpAny_pure (h [] s.drawn (.refl _))
 | succ n ih=>
  intro xs s Q e h
  cases xs with
  | nil=>cases e
  | cons y r=>
   unfold drawOrder
   refine wpAny_bind (xJ (by simp) fun x d' hx=>?_)
   rw [List.getElem?_eq_getElem hx]
   dsimp only
   refine wpAny_bind (ih _ (by rw [List.length_eraseIdx_of_lt hx];simp at e ⊢;trivial) fun ys d2 hp=>wpAny_pure (h _ d2 ?_))
   exact (hp.cons _).trans (ly hx)
end
section
variable {prog:Program}{w:World}{A:Around}{E:Value→Shared→Prop}{s:Shared}{a:Addr}{ob:Obj}{xs:Array (Int×Value)}{ep:Nat}{tb:SetTable}
theorem mB {Q:Bool→Shared→Prop} (h:Q (w.params.followText "set-order") s):wpAny (model prog w) A setsByText Q E s:=by
 unfold setsByText
 exact wpAny_bind (wpAny_askSetting (wpAny_pure h))
theorem yt {Q:Bool→Shared→Prop} (h1:s.heap.get? a=some ob) (h3:ob.data=.set xs ep tb) (h7:tb.fits xs.size=true) (h:Q (!(w.params.followText "set-order") && (!tb.plain && decide (xs.size > 1))) s) :
 wpAny (model prog w) A (setDrawn a) Q E s:=by
 unfold setDrawn
 refine wpAny_bind (wpAny_setState_of h1 h3 h7 ?_)
 exact wpAny_bind (mB (wpAny_pure h))
theorem pG {Q:Array (Int×Value)→Shared→Prop} (h1:s.heap.get? a=some ob) (h3:ob.data=.set xs ep tb) (h7:tb.fits xs.size=true) (h:Q xs s):wpAny (model prog w) A (setEntries a) Q E s:=by
 unfold setEntries
 exact wpAny_bind (wpAny_setState_of h1 h3 h7 (wpAny_pure h))
theorem qf {slot i:Nat}{Q:Option (Value×Nat)→Shared→Prop} (h1:s.heap.get? a=some ob) (h3:ob.data=.set xs ep tb) (h7:tb.fits xs.size=true) (ht:w.params.followText "set-order" = true)
 (h:Q ((pickOrder (w.params.setOrder a ep) xs)[i]?.map fun e=>(e.2,slot)) s):wpAny (model prog w) A (setNext a slot i ep) Q E s:=by
 unfold setNext
 refine wpAny_bind (wpAny_setState_of h1 h3 h7 ?_)
 dsimp only
 refine wpAny_bind (mB ?_)
 rw [ht]
 simp only [↓reduceIte,bne_self_eq_false,Bool.false_eq_true]
 refine wpAny_bind ?_
 unfold setWalk
 refine wpAny_bind (wpAny_setState_of h1 h3 h7 ?_)
 dsimp only
 refine wpAny_bind (mB ?_)
 rw [ht]
 simp only [↓reduceIte]
 refine wpAny_bind (wpAny_askSetting (wpAny_pure ?_))
 exact wpAny_pure h
theorem pI {slot i:Nat}{Q:Option (Value×Nat)→Shared→Prop} (h1:s.heap.get? a=some ob) (h3:ob.data=.set xs ep tb) (h7:tb.fits xs.size=true) (ht:w.params.followText "set-order" = false) (hd:(!tb.plain && decide (xs.size > 1))=false) (hl:tb.led=true)
 (h:Q (match xs[SetTable.below tb.place slot]?,tb.place[SetTable.below tb.place slot]? with | some (_,x),some j=>some (x,j+1) | _,_=>none) s):wpAny (model prog w) A (setNext a slot i ep) Q E s:=by
 unfold setNext
 refine wpAny_bind (wpAny_setState_of h1 h3 h7 ?_)
 dsimp only
 refine wpAny_bind (mB ?_)
 rw [ht]
 simp only [↓reduceIte,Bool.false_eq_true]
 show wpAny _ _ (if (!tb.plain && decide (xs.size > 1))=true then _ else _) _ _ _
 rw [hd]
 simp only [↓reduceIte,Bool.false_eq_true]
 refine wpAny_bind (show wpAny _ _ (if (!tb.led && !xs.isEmpty)=true then _ else _) _ _ _ from ?_)
 rw [hl]
 simp only [Bool.not_true,Bool.false_and,↓reduceIte,Bool.false_eq_true]
 refine wpAny_pure ?_
 exact wpAny_pure h
end
theorem dI:Slot "set_iterator" "__next__" "set_iterator.__next__" := Slot.of (n := "__next__") (owner := "set_iterator") (by rw [typeLookup_type,builtinLookup_eq_fast];kernel_rfl) (by nofun) (by nofun) (by nofun) (by first | exact Or.inl (by nofun) | exact Or.inr (by nofun)) (by rw [isSubtype_type];kernel_rfl)
theorem pL:Slot "set_iterator" "__iter__" "set_iterator.__iter__" := Slot.of (n := "__iter__") (owner := "set_iterator") (by rw [typeLookup_type,builtinLookup_eq_fast];kernel_rfl) (by nofun) (by nofun) (by nofun) (by first | exact Or.inl (by nofun) | exact Or.inr (by nofun)) (by rw [isSubtype_type];kernel_rfl)
theorem oq:entryFor table "set_iterator.__next__" = some Builtin.«set_iterator.__next__»:=entryFor_of_tree (by kernel_rfl)
theorem uh:entryFor table "set_iterator.__iter__" = some Builtin.«dict_keyiterator.__iter__»:=entryFor_alias (by kernel_rfl) rfl (by nofun) (by kernel_rfl) (id' := "dict_keyiterator.__iter__")
theorem uw:entryFor table "set.__iter__" = some Builtin.«frozenset.__iter__»:=entryFor_alias (by kernel_rfl) rfl (by nofun) (by kernel_rfl) (id' := "frozenset.__iter__")
theorem pD (v:Value):argsOk "set_iterator.__next__" ⟨[v],[]⟩:=by unfold argsOk;kernel_rfl
theorem vK (v:Value):argsOk "set_iterator.__iter__" ⟨[v],[]⟩:=by unfold argsOk;kernel_rfl
def pb (h:Heap) (I:Addr) (first:Value) (i n ep:Nat) (a:Addr):Prop:=∃o,h.get? I=some o∧o.cls=.type "set_iterator"∧o.data=.fields #[first,.int i 0,.ref a,.int n 0,.int ep 0]
theorem pb.ty {s:Shared}{I:Addr}{first:Value}{i n ep:Nat}{a:Addr} (x:pb s.heap I first i n ep a):s.TypeIs (.ref I) "set_iterator" := let ⟨o,h1,h2,_⟩:=x;⟨o,h1,h2⟩
section
variable {prog:Program}{w:World}{A:Around}{E:Value→Shared→Prop}{s:Shared}{a I:Addr}{ob:Obj}{xs:Array (Int×Value)}{ep:Nat}{tb:SetTable}
theorem wY {first:Value}{i n:Nat}{Q:Value→Shared→Prop} (x:pb s.heap I first i n ep a) (h:Q (.ref I) s):wpAny (model prog w) A (pyIter (.ref I)) Q E s:=by
 refine wpAny_pyIter_slot x.ty pL (wpAny_call_entry pL x.ty uh ?_ (vK _))
 show wpAny _ _ (ret (.ref I)) _ _ s
 exact wpAny_pure ⟨(),_,_,x.ty,dI.lookup,h⟩
theorem xW {Q:Option Value→Shared→Prop} (hh:A.handled=none) (hT:s.TypeIs (.ref I) "set_iterator")
 (body:∀R:Fin→Shared→Prop,∀R2:Value→Shared→Prop,(∀s1:Shared,(∃h',s1={ s with heap:=h' }∧∀b o,b≠I→s.heap.get? b=some o→h'.get? b=some o)→wpAny (model prog w) A.in1 (newExc (.type "StopIteration") [] >>= fun e=>raiseNew e) R R2 s1)→wpAny (model prog w) A.in1 (Builtin.«set_iterator.__next__» ⟨[.ref I],[]⟩) R R2 s)
 (hQ:∀h',(∀b o,b≠I→s.heap.get? b=some o→h'.get? b=some o)→Q none { s with heap:=h' }):wpAny (model prog w) A (pyNext (.ref I)) Q E s:=by
 unfold pyNext
 refine wpAny_bind (wpAny_attempt (wpAny_callSpecial?_slot (name:=Str.ofString "__next__") hT dI (wpAny_call_entry dI hT oq ?_ (pD _))))
 refine body _ _ ?_
 rintro s1 ⟨h',rfl,kp⟩
 refine wpAny_bind ?_
 simp only [newExc,newTuple]
 refine wpAny_bind (wpAny_newObj_type ?_ (by size_fits))
 refine wpAny_bind (m:=firstArgMember _ _) (wpAny_of_eq (a:=Value.none) (by first | rfl | (simp only [firstArgMember];rfl)) ?_)
 refine wpAny_newObj_type ?_ (by size_fits)
 simp only [raiseNew]
 refine wpAny_bind (wpAny_handled ?_)
 rw [show A.in1.handled=none from hh]
 refine wpAny_bind (wpAny_pure (wpAny_throw ?_))
 refine wpAny_bind (wpAny_isInstance (T := "StopIteration") (b:=true) ⟨_,Heap.get?_push_size _ rfl,rfl⟩ isSubtype_stop ?_)
 exact wpAny_pure (hQ _ fun b o hb e=>Heap.get?_push_of_some _ (Heap.get?_push_of_some _ (kp b o hb e)))
theorem x9 {Q:Option Value→Shared→Prop} (hT:s.TypeIs (.ref I) "set_iterator") (v:Value)
 (body:∀R:Fin→Shared→Prop,∀R2:Value→Shared→Prop,(∀s1,Q (some v) s1→R (.done (.ret v)) s1)→wpAny (model prog w) A.in1 (Builtin.«set_iterator.__next__» ⟨[.ref I],[]⟩) R R2 s):wpAny (model prog w) A (pyNext (.ref I)) Q E s:=by
 unfold pyNext
 refine wpAny_bind (wpAny_attempt (wpAny_callSpecial?_slot (name:=Str.ofString "__next__") hT dI (wpAny_call_entry dI hT oq ?_ (pD _))))
 exact body _ _ fun s1 q=>⟨(),wpAny_pure q⟩
theorem qV {u:Value}{k:Nat}{vs:Array Value}{o:Obj} (ho:s.heap.get? I=some o) (hd:o.data=.fields vs):(s.heap.update I (Obj.mapFields (·.setIfInBounds k u))).get? I=some (Obj.mapFields (·.setIfInBounds k u) o):=
 Heap.get?_update_self _ ho (Obj.isFreed_of_fields (Obj.data_mapFields hd _))
theorem oP {first:Value}{i n:Nat}{R:Fin→Shared→Prop}{R2:Value→Shared→Prop} (x:pb s.heap I first i n ep a) (h1:s.heap.get? a=some ob) (h3:ob.data=.set xs ep tb) (h7:tb.fits xs.size=true) (hn:xs.size=n)
 (h:wpAny (model prog w) A (match first with
  | .int slot _=>(setNext a slot.toNat (i:Int).toNat (ep:Int).toNat >>= fun g=>match g with
   | some (v,next)=>(setField (.ref I) 0 (rawInt next) >>= fun _=>setField (.ref I) 1 (rawInt ((i:Int)+1)) >>= fun _=>ret v)
   | none=>(setField (.ref I) 2 .none >>= fun _=>newExc (.type "StopIteration") [] >>= fun e=>raiseNew e))
  | _=>(seqItems? first >>= fun ps=>match ps with
   | some places=>(match places[(i:Int).toNat]? with
    | some (.int place _)=>(setNextDrawn a place.toNat (ep:Int).toNat >>= fun v=>setField (.ref I) 1 (rawInt ((i:Int)+1)) >>= fun _=>ret v)
    | some _=>unsupported "internal:set_iterator"
    | none=>(setField (.ref I) 0 (rawInt 0) >>= fun _=>setField (.ref I) 2 .none >>= fun _=>newExc (.type "StopIteration") [] >>= fun e=>raiseNew e))
   | _=>unsupported "internal:set_iterator")) R R2 s):wpAny (model prog w) A (Builtin.«set_iterator.__next__» ⟨[.ref I],[]⟩) R R2 s:=by
 obtain ⟨o,i1,i2,i3⟩:=x
 unfold Builtin.«set_iterator.__next__»
 refine wpAny_bind (wpAny_pure ?_)
 refine wpAny_bind (wpAny_fieldsOf i1 i3 ?_)
 dsimp only
 refine wpAny_bind (pG h1 h3 h7 ?_)
 rw [if_neg (by simp [hn])]
 cases first <;> exact h
end
section
variable {prog:Program}{w:World}{A:Around}{E:Value→Shared→Prop}{s:Shared}{a I:Addr}{ob:Obj}{xs:Array (Int×Value)}{ep:Nat}{tb:SetTable}
theorem pb.keep {h h':Heap}{first:Value}{i n:Nat} (x:pb h I first i n ep a) (k:∀o,h.get? I=some o→h'.get? I=some o):pb h' I first i n ep a:=let ⟨o,h1,r⟩:=x;⟨o,k o h1,r⟩
theorem cz {h:Heap}{I b:Addr}{f:Obj→Obj} (hb:b≠I) (o:Obj) (e:h.get? b=some o):(h.update I f).get? b=some o:=(Heap.get?_update_other _ _ (Ne.symm hb)).trans e
def tP (prog:Program) (w:World) (a:Addr) (ob:Obj) (ep:Nat) (slot i:Nat) (g:Option (Value×Nat)):Prop:=
 ∀(A:Around) (E:Value→Shared→Prop) (s:Shared) (Q:Option (Value×Nat)→Shared→Prop),s.heap.get? a=some ob→Q g s→wpAny (model prog w) A (setNext a slot i ep) Q E s
theorem HV {n:Nat}{us:List Value}{sl:Nat→Nat} (hh:A.handled=none) (ne:a≠I) (h3:ob.data=.set xs ep tb) (h7:tb.fits xs.size=true) (hn:xs.size=n) (hu:us.length=n)
 (gv:∀i v,us[i]?=some v→tP prog w a ob ep (sl i) i (some (v,sl (i+1)))) (gn:tP prog w a ob ep (sl n) n none) :
 Walks prog w A I [I,a] [I] n (fun i v=>us[i]?=some v) (fun i h=>pb h I (.int (sl i) 0) i n ep a∧h.get? a=some ob) where
 sub:=fun b hb=>by simp at hb;simp [hb]
 frame:=fun i h h' st k=>⟨st.1.keep fun o e=>k I (by simp) o e,k a (by simp) _ st.2⟩
 item:=fun i s Q E hi st hQ=>by
  obtain ⟨v,hv⟩:∃v,us[i]?=some v:=⟨_,List.getElem?_eq_getElem (by trivial)⟩
  refine x9 st.1.ty v fun R R2 kq=>oP st.1 st.2 h3 h7 hn ?_
  dsimp only
  simp only [Int.toNat_natCast]
  refine wpAny_bind (gv i v hv _ _ _ _ st.2 ?_)
  dsimp only
  obtain ⟨o,i1,i2,i3⟩:=st.1
  have e1:=qV (k:=0) (u:=rawInt (sl (i+1))) i1 i3
  have d1:(Obj.mapFields (·.setIfInBounds 0 (rawInt (sl (i+1)))) o).data=.fields #[.int (sl (i+1)) 0,.int i 0,.ref a,.int n 0,.int ep 0]:=by rw [Obj.data_mapFields i3];simp [rawInt]
  have e2:=qV (s:={ s with heap:=s.heap.update I (Obj.mapFields (·.setIfInBounds 0 (rawInt (sl (i+1))))) }) (k:=1) (u:=rawInt ((i:Int)+1)) e1 d1
  refine wpAny_bind (wpAny_setField i1 i3 (by simp) (wpAny_bind (wpAny_setField e1 d1 (by simp) ?_)))
  refine wpAny_pure (kq _ ?_)
  have:=hQ v ((s.heap.update I (Obj.mapFields (·.setIfInBounds 0 (rawInt (sl (i+1)))))).update I (Obj.mapFields (·.setIfInBounds 1 (rawInt ((i:Int)+1))))) s.toks hv ?_ ?_
  ·exact this
  ·refine ⟨⟨_,e2,(Obj.cls_mapFields ..).trans ((Obj.cls_mapFields ..).trans i2),by rw [Obj.data_mapFields d1];simp [rawInt]⟩,cz ne _ (cz ne _ st.2)⟩
  ·exact fun b o hb e=>cz (by simpa using hb) _ (cz (by simpa using hb) _ e)
 done:=fun s Q E st hQ=>by
  refine xW hh st.1.ty (fun R R2 k=>oP st.1 st.2 h3 h7 hn ?_) fun h' kp=>hQ h' s.toks fun b o hb e=>kp b o (by simpa using hb) e
  dsimp only
  simp only [Int.toNat_natCast]
  refine wpAny_bind (gn _ _ _ _ st.2 ?_)
  dsimp only
  obtain ⟨o,i1,i2,i3⟩:=st.1
  exact wpAny_bind (wpAny_setField i1 i3 (by simp) (k _ ⟨(),fun b o hb e=>cz hb _ e⟩))
 self:=fun i s Q E st hQ=>wY st.1 hQ
theorem GP {n:Nat}{us:List Value}{T:Addr}{oT:Obj}{ps:List Nat}{c0:Nat} (hh:A.handled=none) (ne:a≠I) (nT:T≠I) (h3:ob.data=.set xs ep tb) (h7:tb.fits xs.size=true) (hn:xs.size=n) (hu:us.length=n)
 (hT:oT.data=.seq (ps.map fun (i:Nat)=>Value.int (i:Int) 0).toArray c0) (hp:ps.length=n) (gv:∀(i:Nat) v,us[i]?=some v→cj fun (p:Nat) (z:Int×Value)=>ps[i]?=some p∧xs[p]?=some z∧z.2=v) :
 Walks prog w A I [I,a,T] [I] n (fun i v=>us[i]?=some v) (fun i h=>pb h I (.ref T) i n ep a∧h.get? a=some ob∧h.get? T=some oT) where
 sub:=fun b hb=>by simp at hb;simp [hb]
 frame:=fun i h h' st k=>⟨st.1.keep fun o e=>k I (by simp) o e,k a (by simp) _ st.2.1,k T (by simp) _ st.2.2⟩
 item:=fun i s Q E hi st hQ=>by
  obtain ⟨v,hv⟩:∃v,us[i]?=some v:=⟨_,List.getElem?_eq_getElem (by trivial)⟩
  obtain ⟨p,z,e1,e2,rfl⟩:=gv i v hv
  refine x9 st.1.ty z.2 fun R R2 kq=>oP st.1 st.2.1 h3 h7 hn ?_
  dsimp only
  simp only [Int.toNat_natCast]
  refine wpAny_bind ?_
  unfold seqItems?
  refine wpAny_bind (wpAny_load st.2.2 ?_)
  rw [hT]
  refine wpAny_pure ?_
  dsimp only
  have e3:(ps.map fun (i:Nat)=>Value.int (i:Int) 0).toArray[i]?=some (.int (p:Int) 0):=by simp [e1]
  rw [e3]
  dsimp only
  refine wpAny_bind ?_
  unfold setNextDrawn
  refine wpAny_bind (wpAny_setState_of st.2.1 h3 h7 ?_)
  dsimp only
  simp only [Int.toNat_natCast,bne_self_eq_false,Bool.false_eq_true,↓reduceIte]
  refine wpAny_bind (wpAny_pure ?_)
  rw [e2]
  obtain ⟨z1,z2⟩:=z
  refine wpAny_pure ?_
  obtain ⟨o,i1,i2,i3⟩:=st.1
  have e4:=qV (k:=1) (u:=rawInt ((i:Int)+1)) i1 i3
  refine wpAny_bind (wpAny_setField i1 i3 (by simp) ?_)
  refine wpAny_pure (kq _ ?_)
  have:=hQ z2 (s.heap.update I (Obj.mapFields (·.setIfInBounds 1 (rawInt ((i:Int)+1))))) s.toks hv ?_ ?_
  ·exact this
  ·refine ⟨⟨_,e4,(Obj.cls_mapFields ..).trans i2,by rw [Obj.data_mapFields i3];simp [rawInt]⟩,cz ne _ st.2.1,cz nT _ st.2.2⟩
  ·exact fun b o hb e=>cz (by simpa using hb) _ e
 done:=fun s Q E st hQ=>by
  refine xW hh st.1.ty (fun R R2 k=>oP st.1 st.2.1 h3 h7 hn ?_) fun h' kp=>hQ h' s.toks fun b o hb e=>kp b o (by simpa using hb) e
  dsimp only
  simp only [Int.toNat_natCast]
  refine wpAny_bind ?_
  unfold seqItems?
  refine wpAny_bind (wpAny_load st.2.2 ?_)
  rw [hT]
  refine wpAny_pure ?_
  dsimp only
  have e3:(ps.map fun (i:Nat)=>Value.int (i:Int) 0).toArray[n]?=none:=by simp [hp]
  rw [e3]
  dsimp only
  obtain ⟨o,i1,i2,i3⟩:=st.1
  have e4:=qV (k:=0) (u:=rawInt 0) i1 i3
  have d4:(Obj.mapFields (·.setIfInBounds 0 (rawInt 0)) o).data=.fields #[.int 0 0,.int n 0,.ref a,.int n 0,.int ep 0]:=by rw [Obj.data_mapFields i3];simp [rawInt]
  exact wpAny_bind (wpAny_setField i1 i3 (by simp) (wpAny_bind (wpAny_setField e4 d4 (by simp) (k _ ⟨(),fun b o hb e=>cz hb _ (cz hb _ e)⟩))))
 self:=fun i s Q E st hQ=>wY st.1 hQ
end
theorem rK {α:Type} [DecidableEq α]:∀{l m:List α},l.Nodup→(∀x,x∈l→x∈m)→m.length≤l.length→l.Perm m
 | [],m,_,_,h=>by
  have:m=[]:=List.eq_nil_of_length_eq_zero (by simpa using h)
  subst this
  exact .refl _
 | x :: r,m,nd,sub,h=>by
  have hx:x∈m:=sub x (by simp)
  have nd':=List.nodup_cons.mp nd
  have p:=List.perm_cons_erase hx
  have q:r.Perm (m.erase x):=rK nd'.2 (fun y hy=>(List.mem_erase_of_ne (fun e=>nd'.1 (by rw [←e];exact hy))).mpr (sub y (by simp [hy]))) (by rw [List.length_erase_of_mem hx];simp at h;trivial)
  exact (q.cons x).trans p.symm
theorem y8 (ks:List bp):(cK ks).Nodup:=by
 induction ks using qW with
 | h0=>exact List.nodup_nil
 | h1 ks k ih=>
  rw [fJ]
  split
  ·exact ih
  ·rename_i h
   refine List.nodup_append.mpr ⟨ih,by simp,fun x hx y hy e=>h ?_⟩
   rw [List.mem_singleton] at hy
   exact List.any_eq_true.mpr ⟨x,hx,by simp [e,hy]⟩
def kf:Value→bp
 | .int i _=>.inl i
 | .str x _=>.inr x
 | _=>.inl 0
theorem C2 {k:bp}{v:Value} (h:b9 k v=true):kf v=k:=by
 rcases cF h with ⟨i,t,rfl,rfl⟩ | ⟨x,t,rfl,rfl⟩ <;> rfl
section
variable {prog:Program}{w:World}{A:Around}{E:Value→Shared→Prop}{s:Shared}{a:Addr}
theorem xu {ks:List bp}{xs:Array (Int×Value)}{us:List Value} (h4:ElemsOf (bT prog w) xs.toList) (h5:∀k,(cK ks).any (fun x=>decide (x=k))=true↔∃e∈xs.toList,b9 k e.2=true) (h8:xs.size=(cK ks).length) (p:us.Perm (xs.toList.map (·.2))) :
 (us.map kf).Perm (cK ks)∧∀v,v∈us→b9 (kf v) v=true:=by
 have kk:∀v,v∈us→b9 (kf v) v=true:=fun v hv=>by
  obtain ⟨e,he,rfl⟩:=List.mem_map.mp (p.mem_iff.mp hv)
  obtain ⟨⟨k,hk,_⟩,_⟩:=h4 e he
  have hk':b9 k e.2=true:=hk
  rw [C2 hk'];exact hk'
 refine ⟨.symm (rK (y8 ks) (fun k hk=>?_) ?_),kk⟩
 ·obtain ⟨e,he,h⟩:=(h5 k).mp (List.any_eq_true.mpr ⟨k,hk,by simp⟩)
  exact List.mem_map.mpr ⟨e.2,p.mem_iff.mpr (List.mem_map.mpr ⟨e,he,rfl⟩),C2 h⟩
 ·have:=p.length_eq
  simp at this ⊢
  trivial
theorem DW {ks:List bp}{n:Nat}{Q:Value→Shared→Prop} (H:fH prog w s.heap a ks) (hn:(cK ks).length=n)
 (h:∀(h':Heap) d' (I:Addr) (us:List Value) (fp:List Addr) (St:Nat→Heap→Prop),(us.map kf).Perm (cK ks)→(∀v,v∈us→b9 (kf v) v=true)→us.length=n→(∀A':Around,A'.handled=none→Walks prog w A' I fp [I] n (fun i v=>us[i]?=some v) St)→St 0 h'→
  (∀b o,s.heap.get? b=some o→h'.get? b=some o)→(∀b,b∈fp→b=a∨s.heap.objs.size≤b)→s.heap.objs.size≤I→Q (.ref I) { s with heap:=h',drawn:=d' }) :
 wpAny (model prog w) A (pyIter (.ref a)) Q E s:=by
 obtain ⟨ob,xs,ep,tb,h1,h2,h3,h4,h5,h6,h7,h8,h9⟩:=id H
 have hT:s.TypeIs (.ref a) "set" := ⟨ob,h1,h2.1⟩
 have la:=Heap.lt_size h1
 have sz:xs.size=n:=by trivial
 refine wpAny_pyIter_slot hT PySem.F.slot_set_iter (wpAny_call_entry PySem.F.slot_set_iter hT uw ?_ (PySem.F.args_set_iter_1 _))
 unfold Builtin.«frozenset.__iter__»
 refine wpAny_bind (wpAny_pure ?_)
 refine wpAny_bind ?_
 unfold Builtin.Frozenset.sizeOf
 refine wpAny_bind (pG h1 h3 h7 (wpAny_pure ?_))
 refine wpAny_bind (yt h1 h3 h7 ?_)
 by_cases hd:(!(w.params.followText "set-order") && (!tb.plain && decide (xs.size > 1)))=true
 ·rw [hd]
  simp only [↓reduceIte]
  refine wpAny_bind (sW _ _ (by simp) fun ps d' hp=>?_)
  refine wpAny_bind (wpAny_newTuple ?_ ?_)
  ·simp only [rawInt]
   have h1':(s.heap.push { cls:=.type "tuple",data:=.seq (ps.map fun (i:Nat)=>Value.int (i:Int) 0).toArray }).get? a=some ob:=Heap.get?_push_of_some _ h1
   refine wpAny_bind ?_
   unfold setEpoch
   refine wpAny_bind (wpAny_setState_of (s:={ s with heap:=s.heap.push { cls:=.type "tuple",data:=.seq (ps.map fun (i:Nat)=>Value.int (i:Int) 0).toArray },drawn:=d' }) h1' h3 h7 (wpAny_pure ?_))
   simp only [newFields]
   refine wpAny_bind (wpAny_newObj_type (wpAny_pure ⟨(), "set_iterator",_,⟨_,Heap.get?_push_size _ rfl,rfl⟩,dI.lookup,?_⟩))
   have pl:ps.length=n:=by have:=hp.length_eq;simp at this;trivial
   obtain ⟨us,hul,hus⟩:=zh (p:=fun i v=>cj fun (p:Nat) (z:Int×Value)=>ps[i]?=some p∧xs[p]?=some z∧z.2=v) n fun i hi=>by
    have e1:ps[i]?=some ps[i]:=List.getElem?_eq_getElem (by trivial)
    have m:ps[i]∈List.range xs.size:=hp.mem_iff.mp (List.getElem_mem _)
    have m':ps[i]<xs.size:=by simpa using m
    exact ⟨_,ps[i],xs[ps[i]],e1,Array.getElem?_eq_getElem m',rfl⟩
   have eu:us=(ps.map fun p=>(xs[p]?.map (·.2)).getD .none):=by
    refine List.ext_getElem? fun i=>?_
    by_cases hi:i<n
    ·obtain ⟨v,hv⟩:∃v,us[i]?=some v:=⟨_,List.getElem?_eq_getElem (by trivial)⟩
     obtain ⟨p,z,e1,e2,e3⟩:=hus i v hv
     rw [hv,List.getElem?_map,e1]
     simp [e2,e3]
    ·rw [List.getElem?_eq_none (by trivial),List.getElem?_eq_none (by simp;trivial)]
   have ex:(List.range xs.size).map (fun p=>(xs[p]?.map (·.2)).getD .none)=xs.toList.map (·.2):=by
    refine List.ext_getElem (by simp) fun i q1 q2=>?_
    simp at q1
    simp [q1]
   have pu:us.Perm (xs.toList.map (·.2)):=by
    rw [eu,←ex]
    exact hp.map _
   obtain ⟨k1,k2⟩:=xu h4 h5 h8 pu
   have zT:(s.heap.push { cls:=.type "tuple",data:=.seq (ps.map fun (i:Nat)=>Value.int (i:Int) 0).toArray }).objs.size=s.heap.objs.size+1:=by rw [Heap.size_push]
   refine h _ d' _ us [_,a,s.heap.objs.size] _ k1 k2 hul (fun A' hA=>GP (T:=s.heap.objs.size) (ob:=ob) (ps:=ps) (c0:=0) (oT:={ cls:=.type "tuple",data:=.seq (ps.map fun (i:Nat)=>Value.int (i:Int) 0).toArray }) hA ?_ ?_ h3 h7 sz hul rfl pl hus) ?_ ?_ ?_ ?_
   ·rw [zT];exact Nat.ne_of_lt (Nat.lt_succ_of_lt la)
   ·rw [zT];exact Nat.ne_of_lt (Nat.lt_succ_self _)
   ·refine ⟨⟨_,Heap.get?_push_size _ rfl,rfl,by simp [rawInt,sz]⟩,Heap.get?_push_of_some _ h1',Heap.get?_push_of_some _ (Heap.get?_push_size _ rfl)⟩
   ·exact fun b o e=>Heap.get?_push_of_some _ (Heap.get?_push_of_some _ e)
   ·intro b hb
    simp only [List.mem_cons,List.not_mem_nil,or_false] at hb
    rcases hb with e | e | e
    ·right;rw [e,zT];exact Nat.le_succ _
    ·exact .inl e
    ·right;rw [e];exact Nat.le_refl _
   ·rw [zT];exact Nat.le_succ _
  ·have:=hp.length_eq
   have b1:scanBound=4096:=rfl
   simp at this ⊢
   rw [sizeLine_eq]
   trivial
 ·have hd':(!(w.params.followText "set-order") && (!tb.plain && decide (xs.size > 1)))=false:=by simpa using hd
  rw [hd']
  simp only [↓reduceIte,Bool.false_eq_true]
  refine wpAny_bind (wpAny_pure ?_)
  refine wpAny_bind ?_
  unfold setEpoch
  refine wpAny_bind (wpAny_setState_of h1 h3 h7 (wpAny_pure ?_))
  simp only [newFields]
  refine wpAny_bind (wpAny_newObj_type (wpAny_pure ⟨(), "set_iterator",_,⟨_,Heap.get?_push_size _ rfl,rfl⟩,dI.lookup,?_⟩))
  have fin:∀(us:List Value) (sl:Nat→Nat),us.Perm (xs.toList.map (·.2))→sl 0=0→(∀i v,us[i]?=some v→tP prog w a ob ep (sl i) i (some (v,sl (i+1))))→tP prog w a ob ep (sl n) n none→Q (.ref s.heap.objs.size) { s with heap:=s.heap.push { cls:=.type "set_iterator",data:=.fields [rawInt 0,rawInt 0,.ref a,rawInt xs.size,rawInt ep].toArray } }:=fun us sl pu s0 gv gn=>by
   obtain ⟨k1,k2⟩:=xu h4 h5 h8 pu
   have hul:us.length=n:=by have:=pu.length_eq;simp at this;trivial
   refine h _ s.drawn _ us [_,a] _ k1 k2 hul (fun A' hA=>HV (ob:=ob) (sl:=sl) hA (Nat.ne_of_lt la) h3 h7 sz hul gv gn) ?_ (fun b o e=>Heap.get?_push_of_some _ e) ?_ (Nat.le_refl _)
   ·exact ⟨⟨_,Heap.get?_push_size _ rfl,rfl,by simp [rawInt,sz,s0]⟩,Heap.get?_push_of_some _ h1⟩
   ·intro b hb
    simp only [List.mem_cons,List.not_mem_nil,or_false] at hb
    rcases hb with e | e
    ·right;rw [e];exact Nat.le_refl _
    ·exact .inl e
  cases ht:w.params.followText "set-order" with
  | true=>
   have pp:=Bo (w.params.setOrder a ep) xs
   refine fin ((pickOrder (w.params.setOrder a ep) xs).toList.map (·.2)) (fun _=>0) (pp.map _) rfl (fun i v hv A' E' s' Q' g1 g2=>qf g1 h3 h7 ht ?_) fun A' E' s' Q' g1 g2=>qf g1 h3 h7 ht ?_
   ·rw [List.getElem?_map] at hv
    obtain ⟨z,e1,rfl⟩:=Option.map_eq_some_iff.mp hv
    have e2:(pickOrder (w.params.setOrder a ep) xs)[i]?=some z:=by rw [←Array.getElem?_toList];exact e1
    rw [e2]
    exact g2
   ·have e2:(pickOrder (w.params.setOrder a ep) xs)[n]?=none:=by
     have:=pp.length_eq
     rw [Array.getElem?_eq_none_iff]
     simp at this
     trivial
    rw [e2]
    exact g2
  | false=>
   rw [ht] at hd'
   have hd2:(!tb.plain && decide (xs.size > 1))=false:=by simpa using hd'
   have led:tb.led=true:=by rw [h9.2];unfold dJ;rw [ht];rfl
   have ps:tb.place.size=xs.size:=by
    have:=h7
    simp [SetTable.fits] at this
    exact this.1
   refine fin (xs.toList.map (·.2)) (fun i=>if i=0 then 0 else tb.place.getD (i - 1) 0+1) (.refl _) rfl (fun i v hv A' E' s' Q' g1 g2=>pI g1 h3 h7 ht hd2 led ?_) fun A' E' s' Q' g1 g2=>pI g1 h3 h7 ht hd2 led ?_
   ·have hi:i<xs.size:=by have:=(List.getElem?_eq_some_iff.mp hv).1;simpa using this
    have eb:SetTable.below tb.place (if i=0 then 0 else tb.place.getD (i - 1) 0+1)=i:=by
     split
     ·rename_i q;rw [q];exact tO h9.1
     ·rw [sR h9.1 (by trivial)];trivial
    rw [eb]
    rw [List.getElem?_map] at hv
    obtain ⟨z,e1,rfl⟩:=Option.map_eq_some_iff.mp hv
    have e2:xs[i]?=some z:=by rw [←Array.getElem?_toList];exact e1
    have e3:tb.place[i]?=some (tb.place.getD i 0):=by
     have:i<tb.place.size:=by trivial
     rw [Array.getElem?_eq_getElem this]
     simp [Array.getD,this]
    rw [e2,e3]
    obtain ⟨z1,z2⟩:=z
    simpa using g2
   ·have eb:SetTable.below tb.place (if n=0 then 0 else tb.place.getD (n - 1) 0+1)=n:=by
     split
     ·rename_i q;rw [q];exact tO h9.1
     ·rw [sR h9.1 (by trivial)];trivial
    rw [eb,Array.getElem?_eq_none (by trivial)]
    exact g2
end
section
variable {prog:Program}{w:World}{A:Around}{E:Value→Shared→Prop}{s:Shared}{a:Addr}
theorem BV {Q:Bool→Shared→Prop} (hT:s.TypeIs (.ref a) "set") (h:Q false s):wpAny (model prog w) A (Builtin.List.listLengthHint (.ref a)) Q E s:=by
 unfold Builtin.List.listLengthHint
 refine wpAny_bind (wpAny_specialOf hT PySem.F.slot_set_len.lookup ?_)
 generalize hid:("set.__len__" : String)=id1
 wp_delta
 rw [show splitId id1=some ("set", "__len__") from by rw [←hid];decide +kernel]
 subst hid
 refine wpAny_bind (wpAny_isInstance (T := "set") (b:=true) hT (by rw [isSubtype_type];kernel_rfl) ?_)
 refine wpAny_ite_split (fun z=>absurd z (by decide)) (fun _=>wpAny_ite_split (fun _=>wpAny_bind (wpAny_typeOf hT (wpAny_pure h))) (fun z=>absurd (by nofun) z))
theorem zU {ks:List bp}{R:Result→Shared→Prop} (H:fH prog w s.heap a ks) (hh:A.handled=none) (hz:ks.length≤4000) (L:Addr) (ne:L≠a) (res:Value) (c0:Nat) (hL:s.heap.get? L=some { cls:=.type "list",data:=.seq #[] c0 })
 (hR:∀(h':Heap) d' tk (us:List Value) c',(us.map kf).Perm (cK ks)→(∀v,v∈us→b9 (kf v) v=true)→(∀b o,b≠L→s.heap.get? b=some o→h'.get? b=some o)→h'.get? L=some { cls:=.type "list",dict:=none,data:=.seq us.toArray c',slots:=#[] }→R (.ok (.ret res)) { s with heap:=h',drawn:=d',toks:=tk }) :
 wpAny (model prog w) A.in1 (Builtin.List.listExtendWith (.ref L) (.ref a) res)
  (fun f s'=>match f with | .done q=>R (.ok q) s' | .again c=>c.quiet=true∧codeAny (model prog w) A c R s') (fun e s'=>R (.error e) s') s:=by
 have hT:s.TypeIs (.ref a) "set" := let ⟨o,_,_,_,h1,h2,_⟩:=H;⟨o,h1,h2.1⟩
 have la:L<s.heap.objs.size:=Heap.lt_size hL
 have ol:=jO ks
 unfold Builtin.List.listExtendWith
 refine wpAny_bind (wpAny_typeOf (T := "set") hT ?_)
 have z1:Builtin.List.listSameRef (.ref L) (.ref a)=false:=by simp [Builtin.List.listSameRef,ne]
 have z2:(Value.type "set" == Value.type "list")=false:=by decide
 have z3:(Value.type "set" == Value.type "tuple")=false:=by decide
 simp only [z1,z2,z3,Bool.or_false,Bool.false_eq_true,if_false]
 refine wpAny_bind (DW H rfl fun h1 d1 I us fp St k1 k2 ul W st kp fb li=>?_)
 have nI:L≠I:=Nat.ne_of_lt (Nat.lt_of_lt_of_le la li)
 have nf:L∉fp:=fun hb=>by
  rcases fb L hb with e | e
  ·exact ne e
  ·exact absurd la (Nat.not_lt.mpr e)
 have key:∀(h:Heap) (c1 tk:Nat),St 0 h→(∀b o,b≠L→s.heap.get? b=some o→h.get? b=some o)→h.get? L=some { cls:=.type "list",data:=.seq #[] c1 }→
  codeAny (model prog w) A (.builtin "list.extend.loop" ⟨[.ref L,.ref I,res],[]⟩) R { s with heap:=h,drawn:=d1,toks:=tk }:=fun h c1 tk hst hk hl=>by
  refine codeAny_extend_loopS (W A.in1 hh).toS (by rw [sizeLine_eq];trivial) L nf res _ 0 _ #[] c1 rfl (Nat.zero_le _) hst hl (ItemsOf.nil _) fun s' acc c' m hl' it=>?_
  have ea:acc=us.toArray:=by
   refine Array.ext (by simpa [ul] using it.1) fun i q1 q2=>?_
   have:us[i]?=some acc[i]:=it.2 i acc[i] (Array.getElem?_eq_getElem q1)
   have q2':i<us.length:=by simpa using q2
   rw [List.getElem?_eq_getElem q2'] at this
   simpa using (Option.some.inj this).symm
  rw [ea] at hl'
  obtain ⟨hp',g',d2,tk',os'⟩:=s'
  cases (show g'=s.gens from m.gens)
  cases (show d2=d1 from m.drawn)
  cases (show os'=s.os from m.os)
  refine hR hp' _ tk' us c' k1 k2 (fun b o hb e=>m.heap b o (fun hm=>?_) (hk b o hb e)) hl'
  rcases List.mem_cons.mp hm with e' | hm
  ·exact hb e'
  ·exact absurd (Heap.lt_size e) (Nat.not_lt.mpr (List.mem_singleton.mp hm▸li))
 have hL1:=kp L _ hL
 obtain ⟨oS,_,_,_,a1,a2,_⟩:=id H
 refine wpAny_bind (wpAny_holding (BV ⟨oS,kp _ _ a1,a2.1⟩ ?_))
 refine wpAny_ite_split (fun _=>?_) (fun _=>wpAny_pure ⟨plainId_quiet PySem.F.plain_extend_loop _,key _ c0 s.toks st (fun b o _ e=>kp b o e) hL1⟩)
 refine wpAny_bind (wpAny_rule ?_)
 refine wpAny_bind ?_
 show wpAny _ _ (updateSeq L (·.push .none) >>= fun _=>updateSeq L (·.pop)) _ _ _
 have hL2:=Heap.get?_update_self (Obj.mapSeq (·.push Value.none)) hL1 rfl
 have hL3:=Heap.get?_update_self (Obj.mapSeq (·.pop)) hL2 rfl
 refine wpAny_bind (wpAny_updateSeq hL1 rfl (wpAny_updateSeq (hz:=by seq_fits) hL2 rfl (wpAny_pure ⟨plainId_quiet PySem.F.plain_extend_loop _,key _ _ s.toks ((W A.in1 hh).frame 0 _ _ st fun b hb o e=>?_) (fun b o hb e=>?_) hL3⟩)))
 ·have hb':b≠L:=fun q=>nf (q▸hb)
  exact cz hb' _ (cz hb' _ e)
 ·exact cz hb _ (cz hb _ (kp b o e))
theorem yc {ks:List bp}{Q:List Value→Shared→Prop} (H:fH prog w s.heap a ks) (hh:A.handled=none) (hz:ks.length≤4000)
 (h:∀(h':Heap) d' tk (us:List Value),(us.map kf).Perm (cK ks)→(∀v,v∈us→b9 (kf v) v=true)→(∀b o,s.heap.get? b=some o→h'.get? b=some o)→s.heap.objs.size≤h'.objs.size→Q us { s with heap:=h',drawn:=d',toks:=tk }) :
 wpAny (model prog w) A (collect (.ref a)) Q E s:=by
 have la:a<s.heap.objs.size:=let ⟨o,_,_,_,h1,_⟩:=H;Heap.lt_size h1
 unfold collect
 refine wpAny_bind (wpAny_runValue (codeAny_builtin entry_proto_collect' ?_))
 rw [Around.under_plainId PySem.F.plain_proto_collect _]
 show wpAny _ A.in1 (newList [] >>= fun l=>again (.builtin "list.__iadd__" ⟨[l,.ref a],[]⟩)) _ _ s
 refine wpAny_bind (wpAny_newObj_type (wpAny_pure ⟨plainId_quiet PySem.F.plain_list_iadd _,codeAny_builtin entry_list_iadd' ?_⟩))
 rw [Around.under_plainId PySem.F.plain_list_iadd _]
 show wpAny _ A.in1 (Builtin.List.listExtendWith (.ref s.heap.objs.size) (.ref a) (.ref s.heap.objs.size)) _ _ _
 have kp0:∀b o,s.heap.get? b=some o→(s.heap.push { cls:=.type "list",data:=.seq ([]:List Value).toArray }).get? b=some o:=fun b o e=>Heap.get?_push_of_some _ e
 have key:=zU (A:=A) (s:={ s with heap:=s.heap.push { cls:=.type "list",data:=.seq ([]:List Value).toArray } })
  (R:=fun (q:Result) (s':Shared)=>Dj fun (h':Heap) (d':_) (tk:_) (us:List Value) (c':Nat)=>q=.ok (.ret (.ref s.heap.objs.size))∧s'={ s with heap:=h',drawn:=d',toks:=tk }∧(us.map kf).Perm (cK ks)∧(∀v,v∈us→b9 (kf v) v=true)∧(∀b o,s.heap.get? b=some o→h'.get? b=some o)∧h'.get? s.heap.objs.size=some { cls:=.type "list",dict:=none,data:=.seq us.toArray c',slots:=#[] })
  (fQ.but H fun o e=>kp0 _ _ e) hh hz s.heap.objs.size (Nat.ne_of_gt la) (.ref s.heap.objs.size) 0 (Heap.get?_push_size _ rfl) (fun h' d' tk us c' k1 k2 kp hl=>⟨h',d',tk,us,c',rfl,rfl,k1,k2,fun b o e=>kp b o (Nat.ne_of_lt (Heap.lt_size e)) (kp0 b o e),hl⟩)
 refine wpAny_mono key (fun f s' x=>?_) fun e s' x=>?_
 ·cases f with
  | done q=>
   obtain ⟨h',d',tk,us,c',e,rfl,k1,k2,kp,hl⟩:=x
   cases e
   show wpAny _ A (load s.heap.objs.size >>= _) _ _ _
   refine wpAny_bind (wpAny_load hl (wpAny_pure ?_))
   simpa using h h' d' tk us k1 k2 kp (Nat.le_of_lt (Heap.lt_size hl))
  | again c1=>
   refine ⟨x.1,codeAny_mono x.2 fun q s2 y=>?_⟩
   obtain ⟨h',d',tk,us,c',rfl,rfl,k1,k2,kp,hl⟩:=y
   show wpAny _ A (load s.heap.objs.size >>= _) _ _ _
   refine wpAny_bind (wpAny_load hl (wpAny_pure ?_))
   simpa using h h' d' tk us k1 k2 kp (Nat.le_of_lt (Heap.lt_size hl))
 ·obtain ⟨_,_,_,_,_,e',_⟩:=x
  cases e'
theorem vp:∀{us:List Value}{ns:List Int},us.map kf=ns.map Sum.inl→(∀v,v∈us→b9 (kf v) v=true)→IntsAre us ns
 | [],[],_,_=>.nil
 | v :: us,n :: ns,e,k=>by
  injection e with e1 e2
  have kv:=k v (by simp)
  rw [e1] at kv
  obtain ⟨i,t,q,rfl⟩ | ⟨x,t,q,_⟩:=cF kv
  ·cases q
   exact .cons _ _ (vp e2 fun u hu=>k u (by simp [hu]))
  ·cases q
theorem DH {ks:List bp}{ns:List Int} (h:∀k,k∈ks→k∈ns.map Sum.inl):∃ms:List Int,ks=ms.map Sum.inl:=by
 induction ks with
 | nil=>exact ⟨[],rfl⟩
 | cons k r ih=>
  obtain ⟨ms,e⟩:=ih fun j hj=>h j (by simp [hj])
  obtain ⟨i,_,e2⟩:=List.mem_map.mp (h k (by simp))
  exact ⟨i :: ms,by rw [e,←e2];rfl⟩
theorem yq {ns:List Int} (h:ns.Pairwise (·≤·)) (n:ns.Nodup):ns.Pairwise (· < ·):=by
 refine List.Pairwise.imp₂ (fun x y a b=>?_) h n
 have:x≠y:=b
 trivial
theorem Ax {α β:Type}{f:α→β}{l:List α} (h:(l.map f).Nodup):l.Nodup:=by
 induction l with
 | nil=>exact List.nodup_nil
 | cons x r ih=>
  rw [List.map_cons,List.nodup_cons] at h
  exact List.nodup_cons.mpr ⟨fun hx=>h.1 (List.mem_map.mpr ⟨x,hx,rfl⟩),ih h.2⟩
theorem yy {ns:List Int}{Q:Value→Shared→Prop} (H:fH prog w s.heap a (ns.map Sum.inl)) (hh:A.handled=none) (hz:ns.length≤60)
 (h:∀(h':Heap) d' tk (D:Addr) (out:List Value) (ms:List Int) e,IntsAre out ms→ms.Pairwise (· < ·)→(∀x,x∈ms↔x∈ns)→(∀b o,s.heap.get? b=some o→h'.get? b=some o)→s.heap.objs.size≤D→h'.get? D=some (seqObj "list" out.toArray e)→Q (.ref D) { s with heap:=h',drawn:=d',toks:=tk }) :
 wpAny (model prog w) A (call (.builtin "sorted") [.ref a]) Q E s:=by
 refine Calls.call_function_entry kind_sorted plain_sorted entry_sorted (args_sorted1 _) ?_
 unfold Builtin.«sorted»
 refine wpAny_bind (m:=checkCount "sorted" 1 1 _) (wpAny_pure ?_)
 refine wpAny_bind (yc (A:=A.in1) H hh (by simp;trivial) fun h' d' tk us k1 k2 kp kz=>?_)
 have ul:us.length≤60:=by
  have:=k1.length_eq
  have:=jO (ns.map (Sum.inl:Int→bp))
  simp at *
  trivial
 refine wpAny_bind (wpAny_newList ?_ (by rw [sizeLine_eq];trivial))
 have km:∀k,k∈us.map kf→k∈ns.map (Sum.inl:Int→bp):=fun k hk=>(pi _ k).mp (k1.mem_iff.mp hk)
 obtain ⟨ms0,e0⟩:=DH km
 have iu:=vp e0 k2
 have hD:(h'.push (seqObj "list" us.toArray 0)).get? h'.objs.size=some (seqObj "list" us.toArray 0):=Heap.get?_push_size _ rfl
 refine wpAny_bind (wpAny_holding (wpAny_call_entry slot_list_sort ⟨_,hD,rfl⟩ entry_list_sort (list_sort_tree hD iu (by trivial) fun out ns' a1 a2 a3=>⟨(),?_⟩) (args_list_sort _)))
 obtain ⟨e,he⟩:=sortedHeap_at (out:=out) hD
 have nd:ns'.Nodup:=by
  refine (a2.nodup_iff).mpr ?_
  have:(us.map kf).Nodup:=(k1.nodup_iff).mpr (y8 _)
  rw [e0] at this
  exact Ax this
 refine wpAny_pure ⟨(),?_⟩
 refine h _ d' tk _ out.toList ns' e a1 (yq a3 nd) (fun x=>?_) (fun b o eb=>?_) kz (by rw [Array.toArray_toList];exact he)
 ·rw [a2.mem_iff]
  have:x∈ms0↔(Sum.inl x:bp)∈us.map kf:=by rw [e0];simp
  rw [this,k1.mem_iff,pi]
  simp
 ·have lb:b<s.heap.objs.size:=Heap.lt_size eb
  have lb':b<h'.objs.size:=Nat.lt_of_lt_of_le lb kz
  rw [sortedHeap_old (Nat.ne_of_lt lb') (by rw [Heap.size_push];exact Nat.lt_succ_of_lt lb')]
  exact Heap.get?_push_of_some _ (kp b o eb)
end
theorem af.drw {X:Cx}{pins:List (Addr×Obj)}{σ:List (Option V)}{H:Hp}{s:Shared} (I:af X pins σ H s) (d:Drawn):af X pins σ H { s with drawn:=d }:=⟨I.ok,I.os,I.bare,I.base,I.loc,I.cell,I.free,I.freeC,I.pin,I.hok,I.len⟩
theorem vN:bootBuiltins "sorted" = some (.builtin "sorted"):=by nofun
theorem xY:∀{us:List Value}{ns:List Int},IntsAre us ns→aH (ns.map V.int) us
 | [],_,h=>by cases h;exact .nil
 | u :: us,_,h=>by
  cases h with
  | cons i t h=>exact .cons ⟨t,rfl⟩ (xY h)
def Au (K:PySem.W.Frag) (x:V) (H:Hp) (Q:VK):Prop:=cj fun (a:Addr) (ns:List Int)=>x=.ref a∧(aE K H a (ns.map V.int)∨ak K H a (ns.map V.int))∧ns.length≤60∧∀(l:Addr) (ms:List Int) H',ms.Pairwise (· < ·)→(∀i,i∈ms↔i∈ns)→Nw H l (.lst (ms.map V.int)) H'→Q (.ref l) H'
def FM (K:PySem.W.Frag) (te:TE):TE:=fun σ H Q=>te σ H fun x H1=>Au K x H1 Q
section
variable {X:Cx}{K:PySem.W.Frag}{e:Expr}{te:TE}{p1 p2 p3 p4:Pos}
theorem CA (he:PE X e te) (hc:X.calm=true) (hg1:Gl X "sorted") (hm1:X.mg "sorted" = none) (hg2:Gl X "set") (hm2:X.mg "set" = none) (ek:X.K=K:=by rfl) (hs:nX e=true:=by rfl) :
 PE X (.Call (.Name "sorted" p1) [.Call (.Name "set" p2) [e] [] p3] [] p4) (FM K te):=by
 subst ek
 intro pins s σ H Q I h
 refine wpAny_Call_Name_kw (fY I hg1 hm1 vN ?_ (by decide) (by decide))
 refine PyProof.Rows.callWith_builtin1 ?_ (kC rfl) rfl
 refine Calls.spliced_cons ?_
 refine wpAny_Call_Name_kw (fY I hg2 hm2 rJ ?_ (by decide) (by decide))
 refine PyProof.Rows.callWith_type1 ?_ (kC hs) rfl
 refine aW (Aa he aC hs p3 pins s σ H (fun xs H1=>match xs with | [x]=>Au X.K x H1 Q | _=>False) I h) fun us s1 ⟨vs,H1,I1,r1,q1⟩=>?_
 match vs,r1,q1 with
 | [x],r1,q1=>
 obtain ⟨u,rfl,ru⟩:=i0 r1
 obtain ⟨a,ns,rfl,hq,hz,q⟩:=q1
 cases ru
 have go:∀(its:List Value) (c:Bool),aH (ns.map V.int) its→(if c=true then s1.heap.IsList a its.toArray else s1.heap.IsTuple a its.toArray)→wpAny (model X.prog X.w) X.A (call (.type "set") [.ref a]) (fun v s2=>wpAny (model X.prog X.w) X.A (call (.builtin "sorted") [v]) (EP X pins σ Q) X.xe s2) X.xe s1:=fun its c rv hl=>by
  have rv':aH ((ns.map (Sum.inl:Int→bp)).map qF) its:=by rw [List.map_map];exact rv
  obtain ⟨z1,z2⟩:=qj rv'
  refine AZ (I1.ok.hd hc) hl z1 z2 (by simp;show ns.length+1<4096;trivial) fun h' tk S kp=>?_
  have kp':∀b o,s1.heap.get? b=some o→h'.get? b=some o:=fun b o e=>kp b o (Heap.lt_size e) e
  have I2:af X pins σ H1 { s1 with heap:=h',toks:=tk }:=I1.kept kp'
  refine yy (s:={ s1 with heap:=h',toks:=tk }) S (I1.ok.hd hc) hz fun h2 d2 tk2 D out ms e io pw mi k2 lD hD=>?_
  have kD:s1.heap.objs.size≤h'.objs.size:=by
   obtain ⟨o,_,_,_,a1,_⟩:=S
   exact Nat.le_of_lt (Heap.lt_size a1)
  have zms:ms.length≤60:=by
   have:ms.Nodup:=List.Pairwise.imp (fun {x y} (h:x<y)=>(by trivial:x≠y)) pw
   have sub:∀l m:List Int,l.Nodup→(∀x,x∈l→x∈m)→l.length≤m.length:=fun l m nd sb=>by
    induction l generalizing m with
    | nil=>exact Nat.zero_le _
    | cons y r ih=>
     have nd':=List.nodup_cons.mp nd
     have hy:=sb y (by simp)
     have:=ih (m.erase y) nd'.2 fun x hx=>(List.mem_erase_of_ne (fun e=>nd'.1 (by rw [←e];exact hx))).mpr (sb x (by simp [hx]))
     rw [List.length_erase_of_mem hy] at this
     have:=List.length_pos_of_mem hy
     simp
     trivial
   exact Nat.le_trans (sub _ _ this fun x hx=>(mi x).mp hx) hz
  have I3:=(I2.drw d2).laid (a:=D) (o:=.lst (ms.map V.int)) (t':=tk2) (h':=h2) (fun b u q=>k2 b u q) lD ⟨by rw [List.length_map,sizeLine_eq];trivial,out,e,xY io,hD⟩
  exact ⟨.ref D,_,I3,rfl,q _ _ _ pw mi (.mk' ((I2.drw d2).hok.fresh lD))⟩
 have fin:=fun (v:Value) (s2:Shared) (z:wpAny (model X.prog X.w) X.A (call (.builtin "sorted") [v]) (EP X pins σ Q) X.xe s2)=>(Calls.spliced_nil z:wpAny (model X.prog X.w) X.A (spliced []) (fun vs s3=>wpAny (model X.prog X.w) X.A (call (.builtin "sorted") (v :: vs)) (EP X pins σ Q) X.xe s3) X.xe s2)
 rcases hq with hq | hq
 ·obtain ⟨its,rv,p,_⟩:=I1.list hq
  exact aW (go its true rv p.isList) fun v s2 z=>fin v s2 z
 ·obtain ⟨its,rv,p,_⟩:=I1.tuple hq
  exact aW (go its false rv p) fun v s2 z=>fin v s2 z
end
section
variable {prog:Program}{w:World}{A:Around}{E:Value→Shared→Prop}{s:Shared}
theorem yb {r:Addr}{j:Int}{t u v:Tok}{Q:List Value→Shared→Prop} (hh:A.handled=none) (hr:IsRange s.heap r 0 j 1 t u v) (h0:0≤j) (hj:j≤10000)
 (h:∀(h':Heap) tk (us:List Value),aH (iZ j.toNat) us→(∀b o,s.heap.get? b=some o→h'.get? b=some o)→s.heap.objs.size≤h'.objs.size→Q us { s with heap:=h',toks:=tk }) :
 wpAny (model prog w) A (collect (.ref r)) Q E s:=by
 unfold collect
 refine wpAny_bind (wpAny_runValue (codeAny_builtin entry_proto_collect' ?_))
 rw [Around.under_plainId PySem.F.plain_proto_collect _]
 show wpAny _ A.in1 (newList [] >>= fun l=>again (.builtin "list.__iadd__" ⟨[l,.ref r],[]⟩)) _ _ s
 refine wpAny_bind (wpAny_newObj_type (wpAny_pure ⟨plainId_quiet PySem.F.plain_list_iadd _,codeAny_builtin entry_list_iadd' ?_⟩))
 rw [Around.under_plainId PySem.F.plain_list_iadd _]
 show wpAny _ A.in1 (Builtin.List.listExtendWith (.ref s.heap.objs.size) (.ref r) (.ref s.heap.objs.size)) _ _ _
 have kp0:∀b o,s.heap.get? b=some o→(s.heap.push { cls:=.type "list",data:=.seq ([]:List Value).toArray }).get? b=some o:=fun b o e=>Heap.get?_push_of_some _ e
 have vv:∀acc:Array Value,ItemsOf (fun i v=>∃t,v=Value.int (0+i*1) t) acc j.toNat→aH (iZ j.toNat) acc.toList:=fun acc it=>by
  refine xH (by rw [iZ,List.length_map,List.length_range,Array.length_toList,it.1]) fun i x u e1 e2=>?_
  obtain ⟨tk',rfl⟩:=it.2 i u (by simpa using e2)
  rw [iZ,List.getElem?_map] at e1
  obtain ⟨m,e3,rfl⟩:=Option.map_eq_some_iff.mp e1
  obtain ⟨_,rfl⟩:i<j.toNat∧i=m:=by
   obtain ⟨h1,h2⟩:=List.getElem?_eq_some_iff.mp e3
   simp at h1 h2
   exact ⟨by trivial,h2⟩
  exact ⟨tk',by simp⟩
 have key:=wpAny_extend_range (prog:=prog) (w:=w) (A:=A) (s:={ s with heap:=s.heap.push { cls:=.type "list",data:=.seq ([]:List Value).toArray } }) (n:=j.toNat)
  (R:=fun (q:Result) (s':Shared)=>lO fun (h':Heap) (tk:_) (acc:Array Value) (c':Nat)=>q=.ok (.ret (.ref s.heap.objs.size))∧s'={ s with heap:=h',toks:=tk }∧aH (iZ j.toNat) acc.toList∧(∀b o,s.heap.get? b=some o→h'.get? b=some o)∧h'.get? s.heap.objs.size=some { cls:=.type "list",dict:=none,data:=.seq acc c',slots:=#[] })
  hh (kp0 _ _ hr) (small_one (by trivial) (by trivial) (by trivial) (by trivial)) (by rw [rangeSize_one];split <;> trivial) (by trivial) s.heap.objs.size (.ref s.heap.objs.size) 0 (Heap.get?_push_size _ rfl) (fun h' tk acc c' kp hl it=>⟨h',tk,acc,c',rfl,rfl,vv acc it,fun b o e=>kp b o (Nat.ne_of_lt (Heap.lt_size e)) (kp0 b o e),hl⟩)
 refine wpAny_mono key (fun f s' x=>?_) fun e s' x=>?_
 ·cases f with
  | done q=>
   obtain ⟨h',tk,acc,c',e,rfl,k1,kp,hl⟩:=x
   cases e
   show wpAny _ A (load s.heap.objs.size >>= _) _ _ _
   exact wpAny_bind (wpAny_load hl (wpAny_pure (h h' tk _ k1 kp (Nat.le_of_lt (Heap.lt_size hl)))))
  | again c1=>
   refine ⟨x.1,codeAny_mono x.2 fun q s2 y=>?_⟩
   obtain ⟨h',tk,acc,c',rfl,rfl,k1,kp,hl⟩:=y
   show wpAny _ A (load s.heap.objs.size >>= _) _ _ _
   exact wpAny_bind (wpAny_load hl (wpAny_pure (h h' tk _ k1 kp (Nat.le_of_lt (Heap.lt_size hl)))))
 ·obtain ⟨_,_,_,_,e',_⟩:=x
  cases e'
theorem yv {r:Addr}{j:Int}{t u v:Tok}{Q:Value→Shared→Prop} (hh:A.handled=none) (hr:IsRange s.heap r 0 j 1 t u v) (h0:0≤j) (hj:j≤10000)
 (h:∀(h':Heap) tk (us:List Value),aH (iZ j.toNat) us→(∀b o,s.heap.get? b=some o→h'.get? b=some o)→s.heap.objs.size≤h'.objs.size→Q (.ref h'.objs.size) { s with heap:=h'.push { cls:=.type "tuple",data:=.seq us.toArray },toks:=tk }) :
 wpAny (model prog w) A (call (.type "tuple") [.ref r]) Q E s:=by
 refine yf PySem.F.called_tuple (by decide) (PySem.F.typeCall_tuple_1 _) (PySem.F.newCall_tuple_1 _) (fun obj=>PySem.F.args_object_init_2 obj _) PySem.F.entry_tuple_new ?_
 refine wpAny_mono (Q:=fun fin s'=>∃v,fin=Fin.done (.ret v)∧wants (fun obj s1=>s1.TypeIs obj "tuple"∧Q obj s1) E (.ok (.ret v)) s') ?_ (fun fin s' h'=>by obtain ⟨v,rfl,hv⟩:=h';exact hv) fun _ _ x=>x
 obtain ⟨hp,gg,dd,tk,os⟩:=s
 have hsub:=sub_tuple_self
 have hinit:=init_tuple_lookup
 have hmh:=madeHere_tuple
 have hT:Shared.TypeIs ⟨hp,gg,dd,tk,os⟩ (.ref r) "range" := ⟨_,hr,rfl⟩
 have hh2:A.in1.in1.handled=none:=by simpa using hh
 wp_walk using wpAny_typeOf hT,yb hh2 hr h0 hj
 intro h' t' us rv hk hz
 show wpAny _ _ (Builtin.Tuple.tupleExact us.toArray >>= fun v=>ret v) _ _ _
 unfold Builtin.Tuple.tupleExact
 have hl:us.length≤10000:=by have:=rv.length;rw [iZ,List.length_map,List.length_range] at this;trivial
 refine wpAny_bind (wpAny_newObj_type ?_ (by show us.toArray.size≤sizeLine;rw [List.size_toArray,sizeLine_eq];trivial))
 refine wpAny_pure ⟨(),⟨_,Heap.get?_push_size _ rfl,rfl⟩,?_⟩
 exact h h' t' us rv hk hz
end
section
variable {X:Cx}{a:Expr}{ta:TA}{p p2 pos pos2:Pos}
def CV (ta:TA):TE:=fun σ H Q=>ta σ H fun vs H1=>∃j:Int,vs=[.int j]∧0≤j∧j≤10000∧∀l H',Nw H1 l (.tup (iZ j.toNat)) H'→Q (.ref l) H'
theorem EG (hc:X.calm=true) (hgL:Gl X "tuple") (hmL:X.mg "tuple" = none) (hvL:bootBuiltins "tuple" = some (.type "tuple")) (hgR:Gl X "range") (hmR:X.mg "range" = none) (ha:PA X [a] ta) (hs:starEach [a] X.env=[(false,eval a X.env)]:=by rfl)
 (hs2:starEach [Expr.Call (.Name "range" p2) [a] [] pos2] X.env=[(false,eval (Expr.Call (.Name "range" p2) [a] [] pos2) X.env)]:=by rfl):PE X (.Call (.Name "tuple" p) [.Call (.Name "range" p2) [a] [] pos2] [] pos) (CV ta):=by
 intro pins s σ H Q I h
 refine wpAny_Call_Name_kw (fY I hgL hmL hvL ?_ (by decide) (by decide))
 refine PyProof.Rows.callWith_type1 ?_ hs2 rfl
 rw [hs2]
 show wpAny _ _ (spliced ((false,eval (Expr.Call (.Name "range" p2) [a] [] pos2) X.env) :: [])) _ _ s
 refine Calls.spliced_cons ?_
 refine Call_ (fY I hgR hmR boot_range (PyProof.Rows.callWith_type1 (aW (ha pos2 pins s σ H _ I h) fun us s1 ⟨vs,H1,I1,r1,q1⟩=>?_) hs rfl))
 obtain ⟨j,e,q1,q2,q⟩:=q1
 subst e
 cases r1 with
 | cons r rr=>
  cases rr
  obtain ⟨t,rfl⟩:=r
  refine call_range_1 (Calls.spliced_nil ?_)
  have I2:af X pins σ H1 { s1 with heap:=s1.heap.push { cls:=.type "range",data:=.fields #[.int 0 s1.toks,.int j t,.int 1 (s1.toks+1)] },toks:=s1.toks+1+1 }:=I1.kept fun b o e=>Heap.get?_push_of_some _ e
  refine yv (I2.ok.hd hc) (IsRange.new ..) q1 q2 fun h' tk us rv hk hz=>?_
  have I3:af X pins σ H1 { s1 with heap:=h',toks:=tk }:=I2.kept (t':=tk) hk
  have hl:us.length≤10000:=by have:=rv.length;rw [iZ,List.length_map,List.length_range] at this;trivial
  refine ⟨.ref h'.objs.size,_,I3.laid (t':=tk) (fun b o e=>Heap.get?_push_of_some _ e) (Nat.le_refl _) (show cv X.prog X.w _ _ _ (.tup (iZ j.toNat)) from ⟨by rw [iZ,List.length_map,List.length_range,sizeLine_eq];trivial,us,rv,IsTup.new _ _,_,Heap.get?_push_size _ rfl,rfl⟩),rfl,q _ _ (.mk' (I3.hok.fresh (Nat.le_refl _)))⟩
end
theorem ym (l:Addr) (n:Nat) (dd:Option Addr) (sl) (t:Tok) :
 Meets (Builtin.«tuple.__mul__» ⟨[.ref l,.int 2 t],[]⟩) (fun _ R s=>s.heap.get? l=some { cls:=.type "tuple",dict:=dd,data:=.seq #[] n,slots:=sl }∧R (.ok (.ret (.ref l))) s):=
 .of_wp fun prog w A R s h=>by obtain ⟨hp,g,d,tk,os⟩:=s;obtain ⟨hl,h⟩:=h;wp_walk;exact ⟨_,rfl,h⟩
theorem zV (l:Addr) (x:Value) (items:List Value) (hz:items.length≤100) (n:Nat) (dd:Option Addr) (sl) (t:Tok) :
 Meets (Builtin.«tuple.__mul__» ⟨[.ref l,.int 2 t],[]⟩) (fun _ R s=>s.heap.get? l=some { cls:=.type "tuple",dict:=dd,data:=.seq (x :: items).toArray n,slots:=sl }∧R (.ok (.ret (.ref s.heap.objs.size))) { s with heap:=s.heap.push { cls:=.type "tuple",data:=.seq ((x :: items)++(x :: items)).toArray } }):=
 .of_wp fun prog w A R s h=>by
  obtain ⟨hp,g,d,tk,os⟩:=s;obtain ⟨hl,h⟩:=h
  wp_walk
  have z0:((x :: items).toArray.size:Int)=items.length+1:=by simp
  rw [z0,if_neg (by trivial)]
  dsimp only
  have z1:Builtin.Tuple.tupleTooMany ((items.length+1:Int)*2)=false:=by
   unfold Builtin.Tuple.tupleTooMany
   have:=sizeLine_eq
   simp
   trivial
  rw [z1]
  simp only [Bool.false_eq_true,if_false]
  unfold Builtin.Tuple.tupleExact
  have e2:List.foldl (fun x1 x2=>x1++x2) #[] (List.replicate (Int.toNat 2) (x :: items).toArray)=((x :: items)++(x :: items)).toArray:=by
   show (#[]++(x :: items).toArray)++(x :: items).toArray=_
   simp
  rw [e2]
  refine wpAny_bind (wpAny_newObj_type ?_ (by show ((x :: items)++(x :: items)).toArray.size≤sizeLine;rw [List.size_toArray,sizeLine_eq];simp;trivial))
  exact wpAny_pure ⟨(),h⟩
section
variable {X:Cx}
inductive FH (x:V) (y:V) (H:Hp) (Q:VK):Prop
 | mk (l:_) (zs:_) (h0:x=.ref l) (h1:y=.int 2) (h2:H l=some (.tup zs)) (h3:zs.length≤100) (h4:∀p H',ad H H'→H' p=some (.tup (zs++zs))→Q (.ref p) H')
def CW:R2:=fun x y H Q=>FH  x y H Q
theorem Eg:cn X (binaryOp .Mult) CW:=by
 intro pins s σ H x y v u Q I rx ry h
 obtain ⟨l,zs,rfl,rfl,hH,hk,q⟩:=h
 cases rx
 obtain ⟨t,rfl⟩:=ry
 obtain ⟨its,r1,p1,_⟩:=I.tuple (ak.of (K:=X.K) hH)
 obtain ⟨⟨cls,dd,data,sl⟩,ho,hc,n,hd⟩:=id p1
 simp only at hc hd
 subst hc hd
 refine wpAny_binaryOp_repeat_ref (T := "tuple") (U := "int") (by decide) ⟨_,ho,rfl⟩ (fun s'=>typeIs_int s' 2 t) rQ F.fills_int_mul F.slot_int_rmul wP F.slot_int_index.lookup
  (call_meets F.slot_int_rmul (typeIs_int s 2 t) F.entry_int_rmul (F.args_int_rmul_2 _ _) (uP 2 t l its.toArray n dd sl) ⟨ho,rfl,⟨_,ho,rfl⟩,?_⟩)
 cases r1 with
 | nil=>exact call_meets F.slot_tuple_mul ⟨_,ho,rfl⟩ F.entry_tuple_mul (F.args_tuple_mul_2 _ _) (ym l n dd sl t) ⟨ho,.ref l,H,I,rfl,q l H (ad.refl _) hH⟩
 | @cons z u0 zr us r0 rr=>
  have lr:=rr.length
  refine call_meets F.slot_tuple_mul ⟨_,ho,rfl⟩ F.entry_tuple_mul (F.args_tuple_mul_2 _ _) (zV l u0 us (by simp at hk;trivial) n dd sl t) ⟨ho,?_⟩
  have rv:aH ((z :: zr)++(z :: zr)) ((u0 :: us)++(u0 :: us)):=by
   have rc:aH (z :: zr) (u0 :: us):=.cons r0 rr
   exact rc.append rc
  have I2:=I.laid (a:=s.heap.objs.size) (o:=.tup ((z :: zr)++(z :: zr))) (h':=s.heap.push { cls:=.type "tuple",data:=.seq ((u0 :: us)++(u0 :: us)).toArray }) (t':=s.toks) (fun b o e=>Heap.get?_push_of_some _ e) (Nat.le_refl _) (show cv X.prog X.w _ _ _ (.tup _) from ⟨by simp at hk ⊢;rw [sizeLine_eq];trivial,_,rv,IsTup.new _ _,_,Heap.get?_push_size _ rfl,rfl⟩)
  exact ⟨.ref _,_,I2,rfl,q _ _ (ad.new I.fresh) bf⟩
end
end L2
namespace L2
open PySem PySem.Spec PyProof.Rows
mutual
inductive Wx (z:Nat):PyData→Nat→Nat→Prop
 | non {n k:Nat} (hn:1≤n):Wx z .none n k
 | bl (b:Bool) {n k:Nat} (hn:1≤n):Wx z (.bool b) n k
 | int {i:Int} (h:Sz (24+z) i) {n k:Nat} (hn:1≤n):Wx z (.int i) n k
 | str {x:Str} (h:x.length+1≤4 ^ z) (hc:∀c∈x.cps.toList,c<128) {n k:Nat} (hn:1≤n):Wx z (.str x) n k
 | list {xs:List PyData}{m l n k:Nat} (h:bL z xs m l) (hn:m+1≤n) (hk:l+1≤k) (hw:xs.length≤20+8*z):Wx z (.list xs) n k
 | tuple {xs:List PyData}{m l n k:Nat} (h:bL z xs m l) (hn:m+1≤n) (hk:l+1≤k) (hw:xs.length≤20+8*z):Wx z (.tuple xs) n k
inductive bL (z:Nat):List PyData→Nat→Nat→Prop
 | nil {n k:Nat}:bL z [] n k
 | cons {x:PyData}{xs:List PyData}{m l n k:Nat} (h:Wx z x m k) (r:bL z xs l k) (hn:m+l≤n):bL z (x :: xs) n k
end
theorem Wx.up {z:Nat}{d:PyData}{n k n' k':Nat} (h:Wx z d n k) (hn:n≤n') (hk:k≤k'):Wx z d n' k':=by
 cases h with
 | non h=>exact .non (by trivial)
 | bl b h=>exact .bl b (by trivial)
 | int h hn'=>exact .int h (by trivial)
 | str h hc hn'=>exact .str h hc (by trivial)
 | list h h1 h2 hw=>exact .list h (by trivial) (by trivial) hw
 | tuple h h1 h2 hw=>exact .tuple h (by trivial) (by trivial) hw
theorem bL.up {z:Nat}:∀{xs:List PyData}{n k n' k':Nat},bL z xs n k→n≤n'→k≤k'→bL z xs n' k'
 | _,_,_,_,_,.nil,_,_=>.nil
 | _,_,_,_,_,.cons h r hn,h1,h2=>.cons (h.up (Nat.le_refl _) h2) (r.up (Nat.le_refl _) h2) (by trivial)
theorem bL.append {z:Nat}:∀{xs ys:List PyData}{n m k:Nat},bL z xs n k→bL z ys m k→bL z (xs++ys) (n+m) k
 | _,_,_,_,_,.nil,s=>s.up (by trivial) (Nat.le_refl _)
 | _,_,_,_,_,.cons h r hn,s=>.cons h (r.append s) (by trivial)
theorem bL.one {z:Nat}{d:PyData}{n k:Nat} (h:Wx z d n k):bL z [d] n k:=.cons (l:=0) h .nil (by trivial)
theorem bL.take {z:Nat}:∀{xs:List PyData}{n k:Nat} (i:Nat),bL z xs n k→bL z (xs.take i) n k
 | _,_,_,0,_=>by simp;exact .nil
 | _,_,_,_+1,.nil=>by simp;exact .nil
 | _,_,_,i+1,.cons h r hn=>by simp;exact .cons h (r.take i) hn
theorem bL.drop {z:Nat}:∀{xs:List PyData}{n k:Nat} (i:Nat),bL z xs n k→bL z (xs.drop i) n k
 | _,_,_,0,h=>by simpa using h
 | _,_,_,_+1,.nil=>by simp;exact .nil
 | _,_,_,i+1,.cons h r hn=>by simp;exact (r.drop i).up (by trivial) (Nat.le_refl _)
theorem bL.reverse {z:Nat}:∀{xs:List PyData}{n k:Nat},bL z xs n k→bL z xs.reverse n k
 | _,_,_,.nil=>by simp;exact .nil
 | _,_,_,.cons h r hn=>by rw [List.reverse_cons];exact (r.reverse.append (.one h)).up (by trivial) (Nat.le_refl _)
mutual
theorem Wx.more {z y:Nat} (hz:z≤y):∀{d:PyData}{n k:Nat},Wx z d n k→Wx y d n k
 | _,_,_,.non h=>.non h
 | _,_,_,.bl b h=>.bl b h
 | _,_,_,.int h hn=>.int (h.mono (by trivial)) hn
 | _,_,_,.str h hc hn=>.str (Nat.le_trans h (ui hz)) hc hn
 | _,_,_,.list h hn hk hw=>.list (bL.more hz h) hn hk (by trivial)
 | _,_,_,.tuple h hn hk hw=>.tuple (bL.more hz h) hn hk (by trivial)
theorem bL.more {z y:Nat} (hz:z≤y):∀{ds:List PyData}{n k:Nat},bL z ds n k→bL y ds n k
 | _,_,_,.nil=>.nil
 | _,_,_,.cons h r hn=>.cons (Wx.more hz h) (bL.more hz r) hn
end
mutual
theorem Wx.wt {z:Nat} (hz:z≤4):∀{d:PyData}{n k:Nat},Wx z d n k→∃m,m≤n∧Wt d m k
 | _,_,_,.non h=>⟨1,h,.non⟩
 | _,_,_,.bl b h=>⟨1,h,.bl b⟩
 | _,_,_,.int h hn=>⟨1,hn,.int (h.mono (by trivial))⟩
 | _,_,_,.str h hc hn=>⟨1,hn,.str ⟨by have:=ui hz;simp at this;trivial,hc⟩⟩
 | _,_,_,.list h hn hk _=>by
  obtain ⟨m,h1,h2⟩:=bL.wt hz h
  exact ⟨m+1,by trivial,Wt.deep (.list h2) hk⟩
 | _,_,_,.tuple h hn hk _=>by
  obtain ⟨m,h1,h2⟩:=bL.wt hz h
  exact ⟨m+1,by trivial,Wt.deep (.tuple h2) hk⟩
theorem bL.wt {z:Nat} (hz:z≤4):∀{ds:List PyData}{n k:Nat},bL z ds n k→∃m,m≤n∧cu ds m k
 | _,_,_,.nil=>⟨0,Nat.zero_le _,.nil⟩
 | _,_,_,.cons h r hn=>by
  obtain ⟨m,h1,h2⟩:=Wx.wt hz h
  obtain ⟨l,h3,h4⟩:=bL.wt hz r
  exact ⟨m+l,by trivial,.cons h2 h4⟩
end
def Dx (z:Nat) (E:Addr→Prop) (H:Hp) (v:V) (n k:Nat):Prop:=∃d,bh E H v d∧Wx z d n k
def b5 (z:Nat) (E:Addr→Prop) (H:Hp) (vs:List V) (n k:Nat):Prop:=∃ds,aG E H vs ds∧bL z ds n k
section
variable {z:Nat}{E:Addr→Prop}{H H':Hp}{n m k:Nat}{v:V}{xs ys:List V}
theorem b5.sE (h:b5 z E H xs n k) (s:ar E H H'):b5 z E H' xs n k:=by obtain ⟨d,a,b⟩:=h;exact ⟨d,a.mono s,b⟩
theorem Dx.sE (h:Dx z E H v n k) (s:ar E H H'):Dx z E H' v n k:=by obtain ⟨d,a,b⟩:=h;exact ⟨d,a.mono s,b⟩
theorem b5.sm (h:b5 z E H xs n k) (s:ad H H'):b5 z E H' xs n k:=h.sE s.toE
theorem Dx.sm (h:Dx z E H v n k) (s:ad H H'):Dx z E H' v n k:=h.sE s.toE
theorem b5.nil:b5 z E H [] n k:=⟨[],.nil,.nil⟩
theorem b5.one (h:Dx z E H v n k):b5 z E H [v] n k:=by obtain ⟨d,a,b⟩:=h;exact ⟨[d],.cons a .nil,.one b⟩
theorem b5.append (h:b5 z E H xs n k) (g:b5 z E H ys m k):b5 z E H (xs++ys) (n+m) k:=by
 obtain ⟨d,a,b⟩:=h;obtain ⟨e,a',b'⟩:=g;exact ⟨d++e,a.append a',b.append b'⟩
theorem b5.cons (h:Dx z E H v m k) (g:b5 z E H xs n k):b5 z E H (v :: xs) (m+n) k:=(b5.one h).append g
theorem b5.take (h:b5 z E H xs n k) (i:Nat):b5 z E H (xs.take i) n k:=by obtain ⟨d,a,b⟩:=h;exact ⟨_,a.take i,b.take i⟩
theorem b5.drop (h:b5 z E H xs n k) (i:Nat):b5 z E H (xs.drop i) n k:=by obtain ⟨d,a,b⟩:=h;exact ⟨_,a.drop i,b.drop i⟩
theorem b5.reverse (h:b5 z E H xs n k):b5 z E H xs.reverse n k:=by obtain ⟨d,a,b⟩:=h;exact ⟨_,a.reverse,b.reverse⟩
theorem b5.up {n' k':Nat} (h:b5 z E H xs n k) (hn:n≤n') (hk:k≤k'):b5 z E H xs n' k':=by obtain ⟨d,a,b⟩:=h;exact ⟨d,a,b.up hn hk⟩
theorem Dx.up {n' k':Nat} (h:Dx z E H v n k) (hn:n≤n') (hk:k≤k'):Dx z E H v n' k':=by obtain ⟨d,a,b⟩:=h;exact ⟨d,a,b.up hn hk⟩
theorem b5.more {y:Nat} (h:b5 z E H xs n k) (hz:z≤y):b5 y E H xs n k:=by obtain ⟨d,a,b⟩:=h;exact ⟨d,a,b.more hz⟩
theorem Dx.more {y:Nat} (h:Dx z E H v n k) (hz:z≤y):Dx y E H v n k:=by obtain ⟨d,a,b⟩:=h;exact ⟨d,a,b.more hz⟩
theorem Dx.lst {a:Addr} (h:H a=some (.lst xs)) (ne:¬E a) (g:b5 z E H xs n k) (hw:xs.length≤20+8*z):Dx z E H (.ref a) (n+1) (k+1):=by
 obtain ⟨d,p,q⟩:=g;exact ⟨.list d,.lst h ne p,.list q (Nat.le_refl _) (Nat.le_refl _) (by rw [←p.length];exact hw)⟩
theorem Dx.tup {a:Addr} (h:H a=some (.tup xs)) (g:b5 z E H xs n k) (hw:xs.length≤20+8*z):Dx z E H (.ref a) (n+1) (k+1):=by
 obtain ⟨d,p,q⟩:=g;exact ⟨.tuple d,.tup h p,.tuple q (Nat.le_refl _) (Nat.le_refl _) (by rw [←p.length];exact hw)⟩
theorem Dx.non:Dx z E H .non (n+1) k:=⟨.none,.non,.non (by trivial)⟩
theorem Dx.bl (b:Bool):Dx z E H (.bl b) (n+1) k:=⟨.bool b,.bl b,.bl b (by trivial)⟩
theorem Dx.int {i:Int} (h:Sz (24+z) i):Dx z E H (.int i) (n+1) k:=⟨.int i,.int i,.int h (by trivial)⟩
theorem Dx.str {x:Str} (h:x.length+1≤4 ^ z) (hc:∀c∈x.cps.toList,c<128):Dx z E H (.str x) (n+1) k:=⟨.str x,.str x,.str h hc (by trivial)⟩
theorem Wx.pos {d:PyData} (h:Wx z d n k):1≤n:=by cases h <;> trivial
theorem bL.len:∀{ds:List PyData}{n k:Nat},bL z ds n k→ds.length≤n
 | _,_,_,.nil=>Nat.zero_le _
 | _,_,_,.cons h r hn=>by have:=h.pos;have:=bL.len r;simp;trivial
theorem b5.len (h:b5 z E H xs n k):xs.length≤n:=by obtain ⟨d,a,b⟩:=h;rw [a.length];exact b.len
end
section
variable {z:Nat}{E:Addr→Prop}{H H':Hp}{n m k:Nat}{v:V}{xs ys:List V}
end
mutual
theorem Wx.wv {z:Nat} (hz:z≤4):∀{d:PyData}{n k:Nat},Wx z d n k→Wv 60 d n k
 | _,_,_,.non h=>.non h
 | _,_,_,.bl b h=>.bl b h
 | _,_,_,.int h hn=>.int (h.mono (by trivial)) hn
 | _,_,_,.str h hc hn=>.str ⟨by have:=ui hz;simp at this;trivial,hc⟩ hn
 | _,_,_,.list h hn hk _=>.list (bL.wv hz h) hn hk
 | _,_,_,.tuple h hn hk _=>.tuple (bL.wv hz h) hn hk
theorem bL.wv {z:Nat} (hz:z≤4):∀{ds:List PyData}{n k:Nat},bL z ds n k→i6 60 ds n k
 | _,_,_,.nil=>.nil
 | _,_,_,.cons h r hn=>.cons (Wx.wv hz h) (bL.wv hz r) hn
end
mutual
def fe (w:Nat):PyData→Bool
 | .list ds=>decide (ds.length≤w) && ff w ds
 | .tuple ds=>decide (ds.length≤w) && ff w ds
 | _=>true
def ff (w:Nat):List PyData→Bool
 | []=>true
 | d :: r=>fe w d && ff w r
end
mutual
theorem Wx.nar {z w:Nat} (hz:20+8*z≤w):∀{d:PyData}{n k:Nat},Wx z d n k→fe w d=true
 | _,_,_,.non h=>by unfold fe;rfl
 | _,_,_,.bl b h=>by unfold fe;rfl
 | _,_,_,.int h hn=>by unfold fe;rfl
 | _,_,_,.str h hc hn=>by unfold fe;rfl
 | _,_,_,.list h hn hk hw=>by unfold fe;rw [bL.nar hz h,decide_eq_true (by trivial)];rfl
 | _,_,_,.tuple h hn hk hw=>by unfold fe;rw [bL.nar hz h,decide_eq_true (by trivial)];rfl
theorem bL.nar {z w:Nat} (hz:20+8*z≤w):∀{ds:List PyData}{n k:Nat},bL z ds n k→ff w ds=true
 | _,_,_,.nil=>by unfold ff;rfl
 | _,_,_,.cons h r hn=>by unfold ff;rw [Wx.nar hz h,bL.nar hz r];rfl
end
theorem sg {w:Nat}:∀{ds:List PyData},ff w ds=true→∀d∈ds,fe w d=true
 | [],_,d,h=>by cases h
 | e :: r,h,d,hd=>by
  unfold ff at h
  rw [Bool.and_eq_true] at h
  rcases List.mem_cons.mp hd with q | q
  ·rw [q];exact h.1
  ·exact sg h.2 d q
theorem oi {w:Nat}{ds:List PyData} (h:fe w (.tuple ds)=true):ds.length≤w∧∀d∈ds,fe w d=true:=by
 unfold fe at h
 rw [Bool.and_eq_true,decide_eq_true_iff] at h
 exact ⟨h.1,sg h.2⟩
end L2
set_option maxHeartbeats 4000000
open L2
local macro_rules | `(#[$n:num,$i:ident])=>`(@pw _ $n _ _ (Or.inl $i) (by rfl) (by decide) (by decide)) | `(#[$n:num,($i:ident)])=>`(@pw _ $n _ _ (Or.inr (Or.inl $i)) (by rfl) (by decide) (by decide))
local macro_rules | `(#[$n:num,()])=>`(@pw _ $n _ _ (Or.inl (by kernel_rfl)) (by rfl) (by decide) (by decide)) | `(#[$n:num,0])=>`(@pw _ $n _ _ (Or.inr (Or.inl (by kernel_rfl))) (by rfl) (by decide) (by decide)) | `(#[$n:num,1])=>`(@pw _ $n _ _ (Or.inr (Or.inr (by kernel_rfl))) (by rfl) (by decide) (by decide))
local macro_rules | `(#[()])=>`(@bP _ _ _ _) | `(#[(),()])=>`(@kJ _ _ (by decide) (by decide))
local macro_rules | `(#[[$a]])=>`(@Aa _ _ _ _ _ $a (@aC _) rfl) | `(#[[$a,$b,*]])=>`(@Aa _ _ _ _ _ $a #[[$b,*]] rfl)
local macro_rules | `(#[$a[$b]])=>`(@fS _ _ _ _ _ _ _ (@HR _ ($(Lean.mkIdent `K)) (by rfl)) $a $b (fun _ _=>rfl)) | `(#[$a[$b]!])=>`(@fS _ _ _ _ _ _ _ (@GX _ ($(Lean.mkIdent `K)) (by rfl)) $a $b (fun _ _=>rfl))
local macro_rules | `(#[$g:ident,$k:ident,$t:term,$a:term])=>`(@hU _ _ _ _ _ _ _ _ _ _ _ _ _ _ _ _ $g ($(Lean.mkIdent `hr).mono (by decide)) $k ($t).m ($t).F.kp ($t).B .nil (@lF _) $a (by decide) (by rfl) (by rfl))
local macro_rules | `(#[$g:ident,(),$t:term,$a:term])=>`(@hU _ _ _ _ _ _ _ _ _ _ _ _ _ _ _ _ $g ($(Lean.mkIdent `hr).mono (by decide)) (by show _=_;kernel_rfl) ($t).m ($t).F.kp ($t).B .nil (@lF _) $a (by decide) (by rfl) (by rfl))
local macro_rules | `(#[$n:num,$s:term,$i:ident,$v:term])=>`(@ou _ _ ($n) _ _ _ _ $s rfl (Or.inl $i) $v (by rfl) (by first | exact .inl rfl | exact .inr rfl | assumption))
local macro_rules | `(#[$n:num,$s:term,$i:ident])=>`(@cZ _ _ ($n) _ $s rfl (Or.inl $i) (by first | exact .inl rfl | exact .inr rfl | assumption)) | `(#[$n:num,(),()])=>`(@cZ _ _ ($n) _ (@AJ _ (by kernel_rfl)) rfl (Or.inl (by kernel_rfl)) (by first | exact .inl rfl | exact .inr rfl | assumption))
local macro_rules | `(#[(),(),$a,$b,$c,$d,$e])=>`(@fc _ _ _ _ _ _ _ _ _ $a $b $c $d $e (by decide) (by decide) (by rfl) (by rfl))
local macro_rules | `(#[$a :: $b])=>`(@ee _ _ _ _ _ $a $b)
local macro_rules | `(#[$f:ident $n:num $a*])=>do
 let us ←(Array.range n.getNat).mapM fun _=>`(_)
 `(@$f $us* $a*)
local macro_rules | `(#[($f:ident)])=>`($f ($(Lean.mkIdent `P):ident:=$(Lean.mkIdent `P)) ($(Lean.mkIdent `w):ident:=$(Lean.mkIdent `w)) ($(Lean.mkIdent `base):ident:=$(Lean.mkIdent `base)) $(Lean.mkIdent `T))
namespace K53
open PySem L2
def cW (i:Nat):Stmt:=PySem.Challenge.pw_gainroads_k53_days_or_not.main.body.getD i (.Pass ⟨0,0,0,0⟩)
abbrev nr:Stmt:=cW 1
abbrev iF:Stmt:=cW 2
abbrev kW:Stmt:=cW 3
abbrev em:Stmt:=cW 4
abbrev dN:Stmt:=cW 5
abbrev fV:Stmt:=cW 6
abbrev fI:Stmt:=cW 8
abbrev dj:Stmt:=cW 9
abbrev cL:Stmt:=cW 10
abbrev dH:Stmt:=cW 11
abbrev c8:Stmt:=cW 13
abbrev iQ:Stmt:=cW 15
abbrev dW:Stmt:=cW 16
abbrev cH:Stmt:=cW 17
abbrev eM:Stmt:=cW 18
abbrev cI:Stmt:=cW 19
abbrev cJ:Stmt:=cW 20
abbrev cy:Stmt:=cW 21
abbrev uD:Stmt:=cW 23
abbrev rR:Stmt:=cW 24
abbrev cQ:Stmt:=cW 25
abbrev jy:Stmt:=cW 26
abbrev cM:Stmt:=cW 27
abbrev gQ:Stmt:=cW 28
abbrev iG:Stmt:=cW 29
abbrev gI:Stmt:=cW 30
abbrev bo:Stmt:=cW 31
abbrev ba:Stmt:=cW 32
abbrev fz:Stmt:=cW 33
abbrev cx:Stmt:=cW 34
abbrev fR:Stmt:=cW 35
abbrev dA:Stmt:=cW 36
abbrev dk:Stmt:=cW 37
abbrev ci:Stmt:=cW 38
abbrev cr:Stmt:=cW 39
abbrev bO:Stmt:=cW 40
abbrev bW:Stmt:=cW 41
abbrev bq:Stmt:=cW 42
abbrev cR:Stmt:=cW 43
theorem xR:aQ ["thing"] ["thing"] (aB nr):=⟨rfl,rfl,rfl,by nofun,rfl,by nofun,by nofun⟩
theorem ld:aQ ["n", "d"] ["n", "d"] (aB iF):=⟨rfl,rfl,rfl,by nofun,rfl,by nofun,by nofun⟩
theorem jU:aQ ["thing", "n", "d"] ["thing"] (aB kW):=⟨rfl,rfl,rfl,by nofun,rfl,by nofun,by nofun⟩
theorem rg:aQ ["thing"] ["thing"] (aB em):=⟨rfl,rfl,rfl,by nofun,rfl,by nofun,by nofun⟩
theorem qP:aQ ["thing"] ["thing"] (aB dN):=⟨rfl,rfl,rfl,by nofun,rfl,by nofun,by nofun⟩
theorem mU:aQ ["one", "other", "left", "right"] ["one", "other"] (aB fV):=⟨rfl,rfl,rfl,by nofun,rfl,by nofun,by nofun⟩
theorem zP:aQ ["thing"] ["thing"] (aB fI):=⟨rfl,rfl,rfl,by nofun,rfl,by nofun,by nofun⟩
theorem xc:aQ ["thing"] ["thing"] (aB dj):=⟨rfl,rfl,rfl,by nofun,rfl,by nofun,by nofun⟩
theorem iO:aQ ["places", "thing", "begin", "end", "most", "gain", "price"] ["places", "thing"] (aB cL):=⟨rfl,rfl,rfl,by nofun,rfl,by nofun,by nofun⟩
theorem ug:aQ ["thing", "most"] ["thing", "most"] (aB dH):=⟨rfl,rfl,rfl,by nofun,rfl,by nofun,by nofun⟩
theorem uL:aQ ["thing", "size"] ["thing", "size"] (aB c8):=⟨rfl,rfl,rfl,by nofun,rfl,by nofun,by nofun⟩
theorem zZ:aQ ["hours", "thing"] ["hours", "thing"] (aB iQ):=⟨rfl,rfl,rfl,by nofun,rfl,by nofun,by nofun⟩
theorem xa:aQ ["hours", "thing"] ["hours", "thing"] (aB dW):=⟨rfl,rfl,rfl,by nofun,rfl,by nofun,by nofun⟩
theorem wf:aQ ["places", "hours", "thing"] ["places", "hours", "thing"] (aB cH):=⟨rfl,rfl,rfl,by nofun,rfl,by nofun,by nofun⟩
theorem yn:aQ ["places", "thing"] ["places", "thing"] (aB eM):=⟨rfl,rfl,rfl,by nofun,rfl,by nofun,by nofun⟩
theorem uV:aQ ["places", "hours", "thing"] ["places", "hours", "thing"] (aB cI):=⟨rfl,rfl,rfl,by nofun,rfl,by nofun,by nofun⟩
theorem uz:aQ ["places", "hours", "thing"] ["places", "hours", "thing"] (aB cJ):=⟨rfl,rfl,rfl,by nofun,rfl,by nofun,by nofun⟩
theorem gO:aQ ["thing", "places", "hours", "ties", "stores", "wells", "wishes"] ["thing"] (aB cy):=⟨rfl,rfl,rfl,by nofun,rfl,by nofun,by nofun⟩
theorem sA:aQ ["_law_script", "_law_k", "_law_cell"] ["_law_script", "_law_k"] (aB uD):=⟨rfl,rfl,rfl,by nofun,rfl,by nofun,by nofun⟩
theorem qG:aQ ["_law_box_here", "_law_many", "_law_found", "_law_once"] ["_law_box_here", "_law_many"] (aB rR):=⟨rfl,rfl,rfl,by nofun,rfl,by nofun,by nofun⟩
theorem lj:aQ ["_law_script", "_law_cap", "_law_found", "_law_k", "_law_cell"] ["_law_script", "_law_cap"] (aB cQ):=⟨rfl,rfl,rfl,by nofun,rfl,by nofun,by nofun⟩
theorem qZ:aQ ["_law_top", "_law_bottom", "_law_one", "_law_other", "_law_by"] ["_law_top", "_law_bottom"] (aB jy):=⟨rfl,rfl,rfl,by nofun,rfl,by nofun,by nofun⟩
theorem fN:aQ ["_law_box_here", "_law_many", "_law_letters", "_law_found", "_law_first", "_law_alike", "_law_k", "_law_rest"] ["_law_box_here", "_law_many"] (aB cM):=⟨rfl,rfl,rfl,by nofun,rfl,by nofun,by nofun⟩
theorem qr:aQ ["_law_box_here", "_law_way", "_law_most_of"] ["_law_box_here"] (aB gQ):=⟨rfl,rfl,rfl,by nofun,rfl,by nofun,by nofun⟩
theorem vA:aQ ["_law_box_here", "_law_way"] ["_law_box_here"] (aB iG):=⟨rfl,rfl,rfl,by nofun,rfl,by nofun,by nofun⟩
theorem vC:aQ ["_law_box_here", "_law_way"] ["_law_box_here"] (aB gI):=⟨rfl,rfl,rfl,by nofun,rfl,by nofun,by nofun⟩
theorem bR:aQ ["_law_box_here", "_law_kind", "_law_many", "_law_hours", "_law_most_ties", "_law_names_here", "_law_ties", "_law_stores", "_law_wells", "_law_wishes", "_law_k", "_law_left", "_law_keep", "_law_place", "_law_hour", "_law_amount"] ["_law_box_here"] (aB bo):=⟨rfl,rfl,rfl,by nofun,rfl,by nofun,by nofun⟩
theorem eh:aQ ["_law_box_here", "_law_names_here", "_law_hours", "_law_one", "_law_many", "_law_other", "_law_late", "_law_shut", "_law_opens", "_law_hour", "_law_row"] ["_law_box_here", "_law_names_here", "_law_hours"] (aB ba):=⟨rfl,rfl,rfl,by nofun,rfl,by nofun,by nofun⟩
theorem sx:aQ ["_law_box_here", "_law_thing", "_law_way", "_law_some"] ["_law_box_here", "_law_thing"] (aB fz):=⟨rfl,rfl,rfl,by nofun,rfl,by nofun,by nofun⟩
theorem mQ:aQ ["_law_box_here", "_law_thing", "_law_deep", "_law_way", "_law_at", "_law_made"] ["_law_box_here", "_law_thing", "_law_deep"] (aB cx):=⟨rfl,rfl,rfl,by nofun,rfl,by nofun,by nofun⟩
theorem yi:aQ ["_law_thing"] ["_law_thing"] (aB fR):=⟨rfl,rfl,rfl,by nofun,rfl,by nofun,by nofun⟩
theorem Ab:aQ ["_law_thing", "_law_low", "_law_top"] ["_law_thing", "_law_low", "_law_top"] (aB dA):=⟨rfl,rfl,rfl,by nofun,rfl,by nofun,by nofun⟩
theorem qw:aQ ["_law_thing", "_law_letters"] ["_law_thing"] (aB dk):=⟨rfl,rfl,rfl,by nofun,rfl,by nofun,by nofun⟩
theorem yx:aQ ["_law_places", "_law_hours", "_law_thing"] ["_law_places", "_law_hours", "_law_thing"] (aB ci):=⟨rfl,rfl,rfl,by nofun,rfl,by nofun,by nofun⟩
theorem xl:aQ ["_law_places", "_law_hours", "_law_thing", "_law_many"] ["_law_places", "_law_hours", "_law_thing", "_law_many"] (aB cr):=⟨rfl,rfl,rfl,by nofun,rfl,by nofun,by nofun⟩
theorem jw:aQ ["_law_places", "_law_things", "_law_spots", "_law_thing"] ["_law_places", "_law_things"] (aB bO):=⟨rfl,rfl,rfl,by nofun,rfl,by nofun,by nofun⟩
theorem kr:aQ ["_law_thing", "_law_places", "_law_hours", "_law_one"] ["_law_thing"] (aB bW):=⟨rfl,rfl,rfl,by nofun,rfl,by nofun,by nofun⟩
theorem aZ:aQ ["_law_day_here", "_law_names_here", "_law_hours", "_law_ties", "_law_stores", "_law_wells", "_law_wishes", "_law_some", "_law_odd_here", "_law_at", "_law_row", "_law_far", "_law_opens"] ["_law_day_here"] (aB bq):=⟨rfl,rfl,rfl,by nofun,rfl,by nofun,by nofun⟩
theorem kI:aQ ["_law_script", "_law_box_here", "_law_day_here", "_law_things", "_law_turn", "_law_again", "_law_thing", "_law_kept", "_law_found"] ["_law_script"] (aB cR):=⟨rfl,rfl,rfl,by nofun,rfl,by nofun,by nofun⟩
end K53
namespace K53
open PySem L2
set_option genInjectivity false in
set_option genSizeOf false in
structure Df (K:PySem.W.Frag) (mg:Str→Option Value) (x:Str) (st:Stmt) (ps:List Str) where
 f:Addr
 d:FuncData
 m:mg x=some (.ref f)
 F:xD K x x st f d
 B:qX K d ps []
set_option genInjectivity false in
set_option genSizeOf false in
structure Txt (K:PySem.W.Frag) (mg:Str→Option Value) where
 b_abs:mg "abs" = none
 b_all:mg "all" = none
 b_bool:mg "bool" = none
 b_divmod:mg "divmod" = none
 b_enumerate:mg "enumerate" = none
 b_int:mg "int" = none
 b_isinstance:mg "isinstance" = none
 b_len:mg "len" = none
 b_list:mg "list" = none
 b_max:mg "max" = none
 b_min:mg "min" = none
 b_range:mg "range" = none
 b_repr:mg "repr" = none
 b_set:mg "set" = none
 b_sorted:mg "sorted" = none
 b_str:mg "str" = none
 b_tuple:mg "tuple" = none
 b_zip:mg "zip" = none
 is_number_:Df K mg "is_number" nr ["thing"]
 common_divisor_:Df K mg "common_divisor" iF ["n", "d"]
 is_fraction_:Df K mg "is_fraction" kW ["thing"]
 is_from_nought_:Df K mg "is_from_nought" em ["thing"]
 is_above_nought_:Df K mg "is_above_nought" dN ["thing"]
 compared_:Df K mg "compared" fV ["one", "other"]
 is_name_:Df K mg "is_name" fI ["thing"]
 are_names_:Df K mg "are_names" dj ["thing"]
 is_tie_:Df K mg "is_tie" cL ["places", "thing"]
 goes_within_:Df K mg "goes_within" dH ["thing", "most"]
 is_tuple_of_:Df K mg "is_tuple_of" c8 ["thing", "size"]
 is_hour_:Df K mg "is_hour" iQ ["hours", "thing"]
 are_opens_:Df K mg "are_opens" dW ["hours", "thing"]
 is_day_tie_:Df K mg "is_day_tie" cH ["places", "hours", "thing"]
 is_store_:Df K mg "is_store" eM ["places", "thing"]
 is_day_well_:Df K mg "is_day_well" cI ["places", "hours", "thing"]
 is_day_wish_:Df K mg "is_day_wish" cJ ["places", "hours", "thing"]
 is_day_:Df K mg "is_day" cy ["thing"]
 l_box_:Df K mg "_law_box" uD ["_law_script", "_law_k"]
 l_take_:Df K mg "_law_take" rR ["_law_box_here", "_law_many"]
 l_boxes_:Df K mg "_law_boxes" cQ ["_law_script", "_law_cap"]
 l_fr_:Df K mg "_law_fr" jy ["_law_top", "_law_bottom"]
 l_names_:Df K mg "_law_names" cM ["_law_box_here", "_law_many"]
 l_gain_:Df K mg "_law_gain" gQ ["_law_box_here"]
 l_much_:Df K mg "_law_much" iG ["_law_box_here"]
 l_cost_:Df K mg "_law_cost" gI ["_law_box_here"]
 l_day_:Df K mg "_law_day" bo ["_law_box_here"]
 l_day_tie_:Df K mg "_law_day_tie" ba ["_law_box_here", "_law_names_here", "_law_hours"]
 l_odd_:Df K mg "_law_odd" fz ["_law_box_here", "_law_thing"]
 l_bent_:Df K mg "_law_bent" cx ["_law_box_here", "_law_thing", "_law_deep"]
 l_number_:Df K mg "_law_number" fR ["_law_thing"]
 l_is_fr_:Df K mg "_law_is_fr" dA ["_law_thing", "_law_low", "_law_top"]
 l_is_name_:Df K mg "_law_is_name" dk ["_law_thing"]
 l_is_tie_:Df K mg "_law_is_tie" ci ["_law_places", "_law_hours", "_law_thing"]
 l_is_spot_:Df K mg "_law_is_spot" cr ["_law_places", "_law_hours", "_law_thing", "_law_many"]
 l_are_stores_:Df K mg "_law_are_stores" bO ["_law_places", "_law_things"]
 l_is_day_:Df K mg "_law_is_day" bW ["_law_thing"]
 l_by_hand_:Df K mg "_law_by_hand" bq ["_law_day_here"]
 law_:Df K mg "law" cR ["_law_script"]
end K53
namespace K53
open PySem L2
abbrev ao (s:Stmt) (x:Str):Prop:=(aB s).names.lookup x=some NameKind.local
abbrev ag (s:Stmt) (x:Str):Prop:=(aB s).names.lookup x=some NameKind.globalImplicit
abbrev iC (s:Stmt) (x:Str):Prop:=(aB s).names.lookup x=some NameKind.cell
theorem ip:ao em "thing" := by nofun
theorem jL:ag em "is_fraction" := by nofun
theorem ia:ao dN "thing" := by nofun
theorem jz:ag dN "is_fraction" := by nofun
theorem ny:ao fV "one" := by nofun
theorem lJ:ao fV "other" := by nofun
theorem jv:ao fV "left" := by nofun
theorem iE:ao fV "right" := by nofun
theorem iX:ao fI "thing" := by nofun
theorem pe:ag fI "isinstance" := by nofun
theorem vO:ag fI "str" := by nofun
theorem wg:ag fI "len" := by nofun
theorem wa:ag fI "all" := by nofun
theorem dP:ao dj "thing" := by nofun
theorem nu:ag dj "isinstance" := by nofun
theorem rd:ag dj "tuple" := by nofun
theorem jn:ag dj "len" := by nofun
theorem sU:ag dj "all" := by nofun
theorem sX:ag dj "set" := by nofun
theorem mK:ao cL "places" := by nofun
theorem jW:ao cL "thing" := by nofun
theorem jS:ao cL "begin" := by nofun
theorem me:ao cL "end" := by nofun
theorem pE:ao cL "most" := by nofun
theorem pH:ao cL "gain" := by nofun
theorem nM:ao cL "price" := by nofun
theorem pU:ag cL "isinstance" := by nofun
theorem uR:ag cL "tuple" := by nofun
theorem xI:ag cL "len" := by nofun
theorem ib:ag cL "is_from_nought" := by nofun
theorem lX:ag cL "is_above_nought" := by nofun
theorem jI:ao dH "thing" := by nofun
theorem qu:ao dH "most" := by nofun
theorem ki:ag dH "is_from_nought" := by nofun
theorem nt:ag dH "compared" := by nofun
theorem jF:ao c8 "thing" := by nofun
theorem qa:ao c8 "size" := by nofun
theorem lQ:ag c8 "isinstance" := by nofun
theorem pP:ag c8 "tuple" := by nofun
theorem rl:ag c8 "len" := by nofun
theorem sD:ao iQ "hours" := by nofun
theorem mN:ao iQ "thing" := by nofun
theorem pR:ag iQ "is_number" := by nofun
theorem fu:ao dW "thing" := by nofun
theorem nq:ag dW "isinstance" := by nofun
theorem rs:ag dW "tuple" := by nofun
theorem mT:ag dW "all" := by nofun
theorem tR:ag dW "zip" := by nofun
theorem pN:ao cH "places" := by nofun
theorem pY:ao cH "hours" := by nofun
theorem dB:ao cH "thing" := by nofun
theorem lW:ag cH "is_tuple_of" := by nofun
theorem pM:ag cH "is_tie" := by nofun
theorem nh:ag cH "is_number" := by nofun
theorem mZ:ag cH "are_opens" := by nofun
theorem rf:ao eM "places" := by nofun
theorem fO:ao eM "thing" := by nofun
theorem mW:ag eM "is_tuple_of" := by nofun
theorem lA:ag eM "is_from_nought" := by nofun
theorem nj:ag eM "goes_within" := by nofun
theorem oR:ao cI "places" := by nofun
theorem pS:ao cI "hours" := by nofun
theorem df:ao cI "thing" := by nofun
theorem lC:ag cI "is_tuple_of" := by nofun
theorem nR:ag cI "is_hour" := by nofun
theorem fF:ag cI "is_from_nought" := by nofun
theorem oM:ao cJ "places" := by nofun
theorem pV:ao cJ "hours" := by nofun
theorem eF:ao cJ "thing" := by nofun
theorem lE:ag cJ "is_tuple_of" := by nofun
theorem nv:ag cJ "is_hour" := by nofun
theorem jA:ag cJ "is_above_nought" := by nofun
theorem og:ao cy "thing" := by nofun
theorem mP:iC cy "places" := by nofun
theorem j5:iC cy "hours" := by nofun
theorem kP:ao cy "ties" := by nofun
theorem eT:ao cy "stores" := by nofun
theorem jR:ao cy "wells" := by nofun
theorem i9:ao cy "wishes" := by nofun
theorem oQ:ag cy "is_tuple_of" := by nofun
theorem qe:ag cy "are_names" := by nofun
theorem qk:ag cy "is_number" := by nofun
theorem gR:ag cy "all" := by nofun
theorem qc:ag cy "len" := by nofun
theorem xf:ag cy "set" := by nofun
theorem kN:ao cQ "_law_script" := by nofun
theorem gD:ao cQ "_law_cap" := by nofun
theorem fj:iC cQ "_law_found" := by nofun
theorem iy:ao cQ "_law_k" := by nofun
theorem lT:ao cQ "_law_cell" := by nofun
theorem uU:ag cQ "list" := by nofun
theorem pQ:ag cQ "enumerate" := by nofun
theorem sS:ag cQ "range" := by nofun
theorem vY:ag cQ "max" := by nofun
theorem vX:ag cQ "len" := by nofun
theorem qS:ao jy "_law_top" := by nofun
theorem jf:ao jy "_law_bottom" := by nofun
theorem gM:ao jy "_law_one" := by nofun
theorem fy:ao jy "_law_other" := by nofun
theorem mX:ao jy "_law_by" := by nofun
theorem sQ:ag jy "abs" := by nofun
theorem fM:iC cM "_law_box_here" := by nofun
theorem iK:iC cM "_law_many" := by nofun
theorem jH:iC cM "_law_letters" := by nofun
theorem ie:ao cM "_law_found" := by nofun
theorem lc:iC cM "_law_first" := by nofun
theorem k9:ao cM "_law_alike" := by nofun
theorem pK:ao cM "_law_k" := by nofun
theorem lZ:ao cM "_law_rest" := by nofun
theorem iM:ag cM "_law_take" := by nofun
theorem ja:ag cM "range" := by nofun
theorem gy:ao gQ "_law_box_here" := by nofun
theorem jX:ao gQ "_law_way" := by nofun
theorem gS:ao gQ "_law_most_of" := by nofun
theorem jk:ag gQ "_law_take" := by nofun
theorem vP:ag gQ "_law_fr" := by nofun
theorem gA:ao iG "_law_box_here" := by nofun
theorem hZ:ao iG "_law_way" := by nofun
theorem js:ag iG "_law_take" := by nofun
theorem v0:ag iG "_law_fr" := by nofun
theorem gp:ao gI "_law_box_here" := by nofun
theorem kg:ao gI "_law_way" := by nofun
theorem jm:ag gI "_law_take" := by nofun
theorem vS:ag gI "_law_fr" := by nofun
theorem wG:ag gI "int" := by nofun
theorem aw:ao bo "_law_box_here" := by nofun
theorem cN:ao bo "_law_kind" := by nofun
theorem cO:ao bo "_law_many" := by nofun
theorem cA:ao bo "_law_hours" := by nofun
theorem gu:ao bo "_law_most_ties" := by nofun
theorem cw:ao bo "_law_names_here" := by nofun
theorem j7:ao bo "_law_ties" := by nofun
theorem iI:ao bo "_law_stores" := by nofun
theorem ji:ao bo "_law_wells" := by nofun
theorem iJ:ao bo "_law_wishes" := by nofun
theorem ko:ao bo "_law_k" := by nofun
theorem jM:ao bo "_law_left" := by nofun
theorem nN:ao bo "_law_keep" := by nofun
theorem mS:ao bo "_law_place" := by nofun
theorem nE:ao bo "_law_hour" := by nofun
theorem l9:ao bo "_law_amount" := by nofun
theorem aY:ag bo "_law_take" := by nofun
theorem sN:ag bo "_law_names" := by nofun
theorem iw:ag bo "range" := by nofun
theorem kn:ag bo "int" := by nofun
theorem rz:ag bo "_law_day_tie" := by nofun
theorem xi:ag bo "list" := by nofun
theorem yj:ag bo "min" := by nofun
theorem qC:ag bo "_law_fr" := by nofun
theorem yg:ag bo "len" := by nofun
theorem ot:ag bo "_law_much" := by nofun
theorem ub:ag bo "_law_cost" := by nofun
theorem fZ:ag bo "tuple" := by nofun
theorem bG:ao ba "_law_box_here" := by nofun
theorem cV:ao ba "_law_names_here" := by nofun
theorem jD:ao ba "_law_hours" := by nofun
theorem ig:ao ba "_law_one" := by nofun
theorem gT:ao ba "_law_many" := by nofun
theorem jG:ao ba "_law_other" := by nofun
theorem kM:ao ba "_law_late" := by nofun
theorem kO:ao ba "_law_shut" := by nofun
theorem gB:ao ba "_law_opens" := by nofun
theorem kG:ao ba "_law_hour" := by nofun
theorem k8:ao ba "_law_row" := by nofun
theorem dD:ag ba "_law_take" := by nofun
theorem mL:ag ba "len" := by nofun
theorem rh:ag ba "range" := by nofun
theorem qH:ag ba "_law_much" := by nofun
theorem p8:ag ba "_law_gain" := by nofun
theorem qq:ag ba "_law_cost" := by nofun
theorem rm:ag ba "tuple" := by nofun
theorem eU:ao fz "_law_box_here" := by nofun
theorem bn:ao fz "_law_thing" := by nofun
theorem kU:ao fz "_law_way" := by nofun
theorem oj:ao fz "_law_some" := by nofun
theorem hV:ag fz "_law_take" := by nofun
theorem kL:ag fz "isinstance" := by nofun
theorem yd:ag fz "int" := by nofun
theorem yz:ag fz "str" := by nofun
theorem eC:ao cx "_law_box_here" := by nofun
theorem aO:ao cx "_law_thing" := by nofun
theorem mG:ao cx "_law_deep" := by nofun
theorem fB:ao cx "_law_way" := by nofun
theorem bX:ao cx "_law_at" := by nofun
theorem i8:ao cx "_law_made" := by nofun
theorem gz:ag cx "isinstance" := by nofun
theorem kR:ag cx "list" := by nofun
theorem kh:ag cx "tuple" := by nofun
theorem qh:ag cx "len" := by nofun
theorem uy:ag cx "_law_odd" := by nofun
theorem mD:ag cx "_law_take" := by nofun
theorem tS:ag cx "_law_bent" := by nofun
theorem kE:ao fR "_law_thing" := by nofun
theorem iU:ag fR "isinstance" := by nofun
theorem uo:ag fR "int" := by nofun
theorem tL:ag fR "bool" := by nofun
theorem bw:ao dA "_law_thing" := by nofun
theorem sP:ao dA "_law_low" := by nofun
theorem my:ao dA "_law_top" := by nofun
theorem oJ:ag dA "isinstance" := by nofun
theorem tE:ag dA "tuple" := by nofun
theorem vW:ag dA "len" := by nofun
theorem wc:ag dA "all" := by nofun
theorem uj:ag dA "_law_fr" := by nofun
theorem gq:ao dk "_law_thing" := by nofun
theorem nO:iC dk "_law_letters" := by nofun
theorem mV:ag dk "isinstance" := by nofun
theorem tK:ag dk "str" := by nofun
theorem tF:ag dk "len" := by nofun
theorem tj:ag dk "all" := by nofun
theorem jC:ao ci "_law_places" := by nofun
theorem aM:ao ci "_law_thing" := by nofun
theorem iV:ag ci "isinstance" := by nofun
theorem lL:ag ci "tuple" := by nofun
theorem uB:ag ci "len" := by nofun
theorem oh:ag ci "all" := by nofun
theorem gF:ag ci "_law_is_fr" := by nofun
theorem pW:ag ci "_law_number" := by nofun
theorem tD:ag ci "list" := by nofun
theorem re:ag ci "sorted" := by nofun
theorem uQ:ag ci "set" := by nofun
theorem oF:ao cr "_law_places" := by nofun
theorem pO:ao cr "_law_hours" := by nofun
theorem cD:ao cr "_law_thing" := by nofun
theorem p7:ao cr "_law_many" := by nofun
theorem il:ag cr "isinstance" := by nofun
theorem rk:ag cr "tuple" := by nofun
theorem tH:ag cr "len" := by nofun
theorem tI:ag cr "str" := by nofun
theorem oH:ag cr "_law_number" := by nofun
theorem mr:ao bO "_law_places" := by nofun
theorem mq:ao bO "_law_things" := by nofun
theorem fg:ao bO "_law_spots" := by nofun
theorem br:ao bO "_law_thing" := by nofun
theorem gE:ag bO "isinstance" := by nofun
theorem oX:ag bO "tuple" := by nofun
theorem ql:ag bO "len" := by nofun
theorem qE:ag bO "str" := by nofun
theorem ik:ag bO "_law_is_fr" := by nofun
theorem bH:ao bW "_law_thing" := by nofun
theorem cC:iC bW "_law_places" := by nofun
theorem eR:iC bW "_law_hours" := by nofun
theorem fT:ao bW "_law_one" := by nofun
theorem iS:ag bW "isinstance" := by nofun
theorem mh:ag bW "tuple" := by nofun
theorem kj:ag bW "len" := by nofun
theorem gX:ag bW "all" := by nofun
theorem uv:ag bW "set" := by nofun
theorem pT:ag bW "_law_number" := by nofun
theorem mt:ag bW "_law_are_stores" := by nofun
theorem oA:ag bW "_law_is_spot" := by nofun
theorem kH:ag bW "_law_is_fr" := by nofun
theorem bF:iC bq "_law_day_here" := by nofun
theorem aS:iC bq "_law_names_here" := by nofun
theorem dc:iC bq "_law_hours" := by nofun
theorem gN:ao bq "_law_ties" := by nofun
theorem jd:ao bq "_law_stores" := by nofun
theorem jE:ao bq "_law_wells" := by nofun
theorem jt:ao bq "_law_wishes" := by nofun
theorem aJ:ao bq "_law_some" := by nofun
theorem im:ao bq "_law_odd_here" := by nofun
theorem mj:iC bq "_law_at" := by nofun
theorem ce:iC bq "_law_row" := by nofun
theorem kZ:ao bq "_law_far" := by nofun
theorem jB:ao bq "_law_opens" := by nofun
theorem sj:ag bq "list" := by nofun
theorem rj:ag bq "tuple" := by nofun
theorem rq:ag bq "range" := by nofun
theorem ue:ao cR "_law_script" := by nofun
theorem dg:ao cR "_law_box_here" := by nofun
theorem dZ:ao cR "_law_day_here" := by nofun
theorem j6:ao cR "_law_things" := by nofun
theorem wI:ao cR "_law_turn" := by nofun
theorem pF:ao cR "_law_again" := by nofun
theorem c4:ao cR "_law_thing" := by nofun
theorem qR:ao cR "_law_kept" := by nofun
theorem kQ:ao cR "_law_found" := by nofun
theorem vQ:ag cR "_law_boxes" := by nofun
theorem ye:ag cR "_law_day" := by nofun
theorem pZ:ag cR "is_day" := by nofun
theorem nW:ag cR "_law_is_day" := by nofun
theorem tm:ag cR "_law_by_hand" := by nofun
theorem yk:ag cR "range" := by nofun
theorem qM:ag cR "_law_take" := by nofun
theorem qN:ag cR "_law_bent" := by nofun
theorem tV:ag cR "repr" := by nofun
theorem sh:ag cR "isinstance" := by nofun
theorem Ag:ag cR "bool" := by nofun
end K53
namespace L2
open PySem PySem.Spec PySem.Calls PyProof.Rows
def topRunT (tb:String→Option Builtin) (p:Program) (w:World) (n₀:Nat) (ann:Option Value):Nat→PySem.W.SharedT→Thread→Option PySem.W.SharedT
 | 0,_,_=>none
 | n+1,s,t=>match PySem.W.through t with
  | true=>some s
  | false=>match PySem.W.stepOk n₀ ann t with
   | false=>none
   | true=>match PySem.W.stepT (denote tb) p w s t with
    | some (s',t')=>topRunT tb p w n₀ ann n s' t'
    | none=>none
theorem vt {tb:String→Option Builtin}{p:Program}{w:World}{n₀:Nat}{ann:Option Value}:∀{n:Nat}{s s':PySem.W.SharedT}{t:Thread},topRunT tb p w n₀ ann n s t=some s'→PySem.W.topRun tb p w n₀ ann n s.abs t=some s'.abs
 | 0,_,_,_,h=>by cases h
 | n+1,s,s',t,h=>by
  unfold topRunT at h
  unfold PySem.W.topRun
  cases he:PySem.W.through t with
  | true=>rw [he] at h;cases h;rfl
  | false=>
   rw [he] at h
   cases hk:PySem.W.stepOk n₀ ann t with
   | false=>rw [hk] at h;cases h
   | true=>
    rw [hk] at h
    cases hs:PySem.W.stepT (denote tb) p w s t with
    | none=>rw [hs] at h;cases h
    | some r=>obtain ⟨s₂,t₂⟩:=r;rw [hs] at h;rw [PySem.W.stepT_spec hs];exact vt h
open PySem.W in
noncomputable def HC (P:Params):BT:=.node (boot_o_0 P) (.node (boot_o_1 P) (.node (boot_o_3 P) (.node (boot_o_7 P) .nil .nil) .nil) (.node (boot_o_5 P) (.node (boot_o_9 P) .nil .nil) .nil)) (.node (boot_o_2 P) (.node (boot_o_4 P) (.node (boot_o_8 P) .nil .nil) .nil) (.node (boot_o_6 P) (.node (boot_o_10 P) .nil .nil) .nil))
noncomputable def bootS (w:World) (os:OsState):PySem.W.SharedT:=⟨HC w.params,11,{},#[],PySem.W.boot_drawn,PySem.W.boot_toks,os⟩
theorem Be (w:World):((PySem.W.boot_heap w.params).isNs mainGlobals,(PySem.W.boot_heap w.params).objs.size,(PySem.W.boot_heap w.params).nsMap mainGlobals "__annotations__")=(true,11,some (.ref 6)):=by kernel_rfl
noncomputable def looks {α:Type} (p q:Program) (Xt:Shared→Bool) (Yf:Shared→α) (w:World) (s:Shared):=
 (PySem.W.staticsOk (importedModules p.main.body) (PySem.W.boot_heap w.params) s.heap && PySem.W.namesBound p s.heap && PySem.W.gensDone s && PySem.W.laidKept (PySem.W.boot_heap w.params) s.heap,PySem.W.openSeen q [] (importedModules p.main.body) Xt true s,Yf s)
theorem left_tree {p q:Program}{Xt:Shared→Bool}{α:Type}{Yf:Shared→α}{Ya:α}{N:Nat}
 (e:PySem.W.opening p=PySem.W.plainProg p.main.scope.names) (hN:Nat.ble 600 N=true) (f:∀s,PySem.fenceModules? p s=some s)
 (run:∀(w:World) (os:OsState),(topRunT treeTable p w 11 (some (.ref 6)) N (bootS w os) (PySem.W.topStub p)).map (fun s=>looks p q Xt Yf w s.abs)=some (true,PySem.W.openGood q [],Ya)) :
 PySem.W.LeftO p q [] Xt Yf (fun _=>Ya) N:=fun w=>by
 obtain ⟨⟨h,gs,d,k,os⟩,ef,ev⟩:=Option.map_eq_some_iff.mp (PySem.W.boot_open e hN f w)
 obtain ⟨rfl,rfl,rfl,rfl⟩:h=PySem.W.boot_heap w.params∧gs=#[]∧d=PySem.W.boot_drawn∧k=PySem.W.boot_toks:=by simpa using ev
 obtain ⟨st,er,el⟩:=Option.map_eq_some_iff.mp (run w os)
 have r:=vt er
 have e0:(bootS w os).abs=⟨PySem.W.boot_heap w.params,#[],PySem.W.boot_drawn,PySem.W.boot_toks,os⟩:=rfl
 rw [e0] at r
 obtain ⟨z1,z2,z3⟩:_∧_∧_:=by simpa only [Prod.mk.injEq] using Be w
 obtain ⟨l1,l2,l3⟩:_∧_∧_:=by simpa only [looks,Prod.mk.injEq] using el
 have t:PySem.W.topFrom treeTable p w N ⟨PySem.W.boot_heap w.params,#[],PySem.W.boot_drawn,PySem.W.boot_toks,os⟩=some st.abs:=by
  unfold PySem.W.topFrom
  dsimp only
  rw [z1,z2,z3,r]
  show (match PySem.W.staticsOk (importedModules p.main.body) (PySem.W.boot_heap w.params) st.abs.heap && PySem.W.namesBound p st.abs.heap && PySem.W.gensDone st.abs && PySem.W.laidKept (PySem.W.boot_heap w.params) st.abs.heap with | true=>_ | false=>_)=_
  rw [l1]
 unfold PySem.W.openEnds
 rw [ef]
 show (PySem.W.topFrom treeTable p w N _).map _=_
 rw [t]
 exact congrArg some (Prod.ext l2 l3)
theorem left_of2 {α β:Type}{f f':World→β→α}{g g':α} (ef:f=f') (eg:g=g') (h:∀w os,f' w os=g') (w:World) (os:β):f w os=g:=by
 rw [ef,eg];exact h w os
end L2
namespace K53
open PySem L2
def qv:Program:=PySem.W.view PySem.Challenge.pw_gainroads_k53_days_or_not [1,2,3,4,5,6,8,9,10,11,13,15,16,17,18,19,20,21,23,24,25,26,27,28,29,30,31,32,33,34,35,36,37,38,39,40,41,42,43]
def obs (K:PySem.W.Frag):List (Option FuncData)×List Bool:=([fG K "is_number",
 fG K "common_divisor",
 fG K "is_fraction",
 fG K "is_from_nought",
 fG K "is_above_nought",
 fG K "compared",
 fG K "is_name",
 fG K "are_names",
 fG K "is_tie",
 fG K "goes_within",
 fG K "is_tuple_of",
 fG K "is_hour",
 fG K "are_opens",
 fG K "is_day_tie",
 fG K "is_store",
 fG K "is_day_well",
 fG K "is_day_wish",
 fG K "is_day",
 fG K "_law_box",
 fG K "_law_take",
 fG K "_law_boxes",
 fG K "_law_fr",
 fG K "_law_names",
 fG K "_law_gain",
 fG K "_law_much",
 fG K "_law_cost",
 fG K "_law_day",
 fG K "_law_day_tie",
 fG K "_law_odd",
 fG K "_law_bent",
 fG K "_law_number",
 fG K "_law_is_fr",
 fG K "_law_is_name",
 fG K "_law_is_tie",
 fG K "_law_is_spot",
 fG K "_law_are_stores",
 fG K "_law_is_day",
 fG K "_law_by_hand",
 fG K "law"],
 [oG K "abs",
 oG K "all",
 oG K "bool",
 oG K "divmod",
 oG K "enumerate",
 oG K "int",
 oG K "isinstance",
 oG K "len",
 oG K "list",
 oG K "max",
 oG K "min",
 oG K "range",
 oG K "repr",
 oG K "set",
 oG K "sorted",
 oG K "str",
 oG K "tuple",
 oG K "zip"])
def due:List (Option FuncData)×List Bool:=([dG "is_number" "is_number" nr,
 dG "common_divisor" "common_divisor" iF,
 dG "is_fraction" "is_fraction" kW,
 dG "is_from_nought" "is_from_nought" em,
 dG "is_above_nought" "is_above_nought" dN,
 dG "compared" "compared" fV,
 dG "is_name" "is_name" fI,
 dG "are_names" "are_names" dj,
 dG "is_tie" "is_tie" cL,
 dG "goes_within" "goes_within" dH,
 dG "is_tuple_of" "is_tuple_of" c8,
 dG "is_hour" "is_hour" iQ,
 dG "are_opens" "are_opens" dW,
 dG "is_day_tie" "is_day_tie" cH,
 dG "is_store" "is_store" eM,
 dG "is_day_well" "is_day_well" cI,
 dG "is_day_wish" "is_day_wish" cJ,
 dG "is_day" "is_day" cy,
 dG "_law_box" "_law_box" uD,
 dG "_law_take" "_law_take" rR,
 dG "_law_boxes" "_law_boxes" cQ,
 dG "_law_fr" "_law_fr" jy,
 dG "_law_names" "_law_names" cM,
 dG "_law_gain" "_law_gain" gQ,
 dG "_law_much" "_law_much" iG,
 dG "_law_cost" "_law_cost" gI,
 dG "_law_day" "_law_day" bo,
 dG "_law_day_tie" "_law_day_tie" ba,
 dG "_law_odd" "_law_odd" fz,
 dG "_law_bent" "_law_bent" cx,
 dG "_law_number" "_law_number" fR,
 dG "_law_is_fr" "_law_is_fr" dA,
 dG "_law_is_name" "_law_is_name" dk,
 dG "_law_is_tie" "_law_is_tie" ci,
 dG "_law_is_spot" "_law_is_spot" cr,
 dG "_law_are_stores" "_law_are_stores" bO,
 dG "_law_is_day" "_law_is_day" bW,
 dG "_law_by_hand" "_law_by_hand" bq,
 dG "law" "law" cR],List.replicate 18 true)
end K53
def L2.Xt (s:PySem.Shared):Bool:=PySem.W.xlAt K53.qv [] s && PySem.W.recOk [] s
def L2.Yf (s:PySem.Shared):=K53.obs (L2.fragOf s.heap)
noncomputable def L2.lhs (w:PySem.World) (os:PySem.OsState):=(L2.topRunT PySem.treeTable PySem.Challenge.pw_gainroads_k53_days_or_not w 11 (some (.ref 6)) 2576 (L2.bootS w os) (PySem.W.topStub PySem.Challenge.pw_gainroads_k53_days_or_not)).map fun s=>L2.looks PySem.Challenge.pw_gainroads_k53_days_or_not K53.qv L2.Xt L2.Yf w s.abs
noncomputable def L2.rhs:=some (true,PySem.W.openGood K53.qv [],K53.due)
theorem L2.lhs0:L2.lhs=L2.lhs:=rfl
theorem L2.rhs0:L2.rhs=L2.rhs:=rfl
name_quick lhsQ for L2.lhs by L2.lhs0
name_quick rhsQ for L2.rhs by L2.rhs0
theorem L2.left:∀w os,L2.lhs w os=L2.rhs:=L2.left_of2 PySem.W.Fast.lhsQ_eq PySem.W.Fast.rhsQ_eq (fun w os=>by kernel_rfl)
namespace K53
open PySem L2
section
variable {P:Program}{w:World}{K:PySem.W.Frag}{mg:Str→Option Value}{base:Heap}
inductive FR (vs:List V) (H:Hp) (Q:VK):Prop
 | mk (x:V) (d:PyData) (E:Addr→Prop) (h0:vs=[x]) (h1:bh E H x d) (h2:Q (.bl (eB d)) H)
def C7:Sp:=fun vs H Q _=>FR  vs H Q
theorem jx (T:Txt K mg):bt P w K mg base CX0 1 T.is_number_.f T.is_number_.d ["thing"] C7:=by
 refine T.is_number_.F.ok xR (fun vs H Q E h=>?_) (fun cdv A outer s H vs Q E hr h=>?_)
 ·obtain ⟨x,d,F,rfl,_⟩:=h
  rfl
 ·obtain ⟨x,d,F,rfl,hx,k⟩:=h
  refine ⟨_,(ac (ai (cG (fc kw (by rfl) T.b_isinstance aq (bS (pv 0) (bS (cb rfl T.b_int du) aC))) (cX (Bj (fc kw (by rfl) T.b_isinstance aq (bS (pv 0) (bS (cb rfl T.b_bool lU) aC)))))))),?_⟩
  refine ⟨(),_,_,_,(),hx.ty,uK d,(),?_⟩
  have rest:∀b,eB d=!b→yF d=b→Dp (CO (fun xs H Q=>lO fun x T t b=>xs=[x,.ty T]∧ij K H x t∧PySem.W.kitOne K t (.type T)=some b∧Q (.bl b) H) (dF (ii 0) (dF (tC (.ty "bool")) fU))) (lf ["thing"] [x]) H Q:=fun b e1 e2=>by
   refine ⟨(),_,_,_,(),hx.ty,pj d,(),?_⟩
   rw [e2,←e1]
   exact k
  cases d with
  | int i=>exact aa (rest false rfl rfl)
  | bool b=>exact aa (rest true rfl rfl)
  | none=>exact ah k
  | str _=>exact ah k
  | list _=>exact ah k
  | tuple _=>exact ah k
  | dict _=>exact ah k
inductive Fv (vs:List V) (H:Hp) (Q:VK):Prop
 | mk (n d:Int) (h0:vs=[.int n,.int d]) (h1:Q (.int (Int.gcd n d:Nat)) H)
def GE:Sp:=fun vs H Q _=>Fv  vs H Q
theorem rp (T:Txt K mg):bt P w K mg base CX0 1 T.common_divisor_.f T.common_divisor_.d ["n", "d"] GE:=by
 refine T.common_divisor_.F.ok ld (fun vs H Q E h=>?_) (fun cdv A outer s H vs Q E hr h=>?_)
 ·obtain ⟨n,d,rfl,_⟩:=h
  rfl
 ·obtain ⟨n,d,rfl,k⟩:=h
  refine ⟨_,(ee (xj PassesOwn.never (au iz (pv 1) bP (kJ _)) (ac (iq (i:=0) (j:=1) rfl ld.nd rfl rfl (by decide) rfl rfl (bS (pv 1) (bS (aj En (pv 0) (pv 1)) aC)) rfl)))
   (ac (ai (fc lY (by rfl) T.b_abs iY (bS (pv 0) aC))))),?_⟩
  refine ⟨fun m σ H'=>∃a b:Int,σ=[some (.int a),some (.int b)]∧H'=H∧Int.gcd a b=Int.gcd n d∧m=b.natAbs,⟨_,n,d,rfl,rfl,rfl,rfl⟩,?_⟩
  rintro m σ H' ⟨a,b,rfl,rfl,hg,rfl⟩
  refine ⟨(),rfl,(),?_⟩
  by_cases hb:b=0
  ·subst hb
   refine ah ?_
   refine ⟨(),(),?_⟩
   rw [←KM.gcd_zero_abs,hg]
   exact k
  ·have e:(!decide (V.int b=V.int 0))=true:=by
    rw [decide_eq_false (fun z=>hb (by injection z))];rfl
   rw [e]
   refine aa ⟨fun σ' H''=>∃a' b':Int,σ'=[some (.int a'),some (.int b')]∧H''=H'∧Int.gcd a' b'=Int.gcd n d∧b'.natAbs<b.natAbs,?_,?_⟩
   ·rintro σ' H'' ⟨a',b',rfl,rfl,h1,h2⟩
    exact ⟨_,h2,a',b',rfl,rfl,h1,rfl⟩
   ·refine ⟨(),(),(),_,(),rfl,hb,_,(),?_⟩
    exact ⟨b,a.fmod b,rfl,rfl,(KM.gcd_fmod a b).trans hg,KM.fmod_natAbs_lt a b hb⟩
def c9:PyData→Bool
 | .tuple [.int n,.int d]=>decide (1≤d) && decide (Int.gcd n d=1)
 | _=>false
inductive EY (vs:List V) (H:Hp) (Q:VK):Prop
 | mk (x:V) (d:PyData) (E:Addr→Prop) (h0:vs=[x]) (h1:bh E H x d) (h2:Q (.bl (c9 d)) H)
def GI:Sp:=fun vs H Q _=>EY  vs H Q
theorem nQ (T:Txt K mg):bt P w K mg base CX0 2 T.is_fraction_.f T.is_fraction_.d ["thing"] GI:=by
 have G_is_number:=#[(jx)]
 have G_common_divisor:=#[(rp)]
 refine T.is_fraction_.F.ok jU (fun vs H Q E h=>?_) (fun cdv A outer s H vs Q E hr h=>?_)
 ·obtain ⟨x,d,F,rfl,_⟩:=h
  rfl
 ·obtain ⟨x,d,F,rfl,hx,k⟩:=h
  refine ⟨_,(ee (aN (PW.pt (bd (aK (aF (fc kw (by rfl) T.b_isinstance aq (bS (pv 0) (bS (cb rfl T.b_tuple aI) aC))))) (bK (au iz (fc l0 (by rfl) T.b_len bi (bS (pv 0) aC)) bP (kJ _))))) (ac (ai bj)) ay)
   (ee (gK (pv 0) (wW rfl (aP (cZ (i:=1) jU.nd rfl (Or.inl rfl)) (aP (cZ (i:=2) jU.nd rfl (Or.inl rfl)) fD))))
   (ee (aN (PW.pt (bd (aK (aF (hU G_is_number (hr.mono (by decide)) rfl T.is_number_.m T.is_number_.F.kp T.is_number_.B .nil lF (bS (pv 1) aC)))) (bK (aK (aF (hU G_is_number (hr.mono (by decide)) rfl T.is_number_.m T.is_number_.F.kp T.is_number_.B .nil lF (bS (pv 2) aC))))))) (ac (ai bj)) ay)
   (ac (ai (cG (bY wC (pv 2) bP (kJ _)) (cX (bY cY (hU G_common_divisor (hr.mono (by decide)) rfl T.common_divisor_.m T.common_divisor_.F.kp T.common_divisor_.B .nil lF (bS (pv 1) (bS (pv 2) aC))) bP (kJ _))))))))),?_⟩
  refine ⟨(),_,_,_,(),hx.ty,cf d,(),?_⟩
  cases hx with
  | non=>exact aa (aa k)
  | bl b=>exact aa (aa k)
  | int i=>exact aa (aa k)
  | str y=>exact aa (aa k)
  | lst h ne r=>exact aa (aa k)
  | @tup a xs ds h r=>
   refine ah ?_
   refine ⟨(),_,xs,rfl,.inr (ak.of h),rfl,(),?_⟩
   have hl:=r.length
   by_cases h2:xs.length=2
   ·have e:(!decide (V.int (xs.length:Int)=V.int 2))=false:=by
     rw [h2];rfl
    rw [e]
    refine ah ?_
    obtain ⟨v1,v2,rfl⟩:cj fun v1 v2=>xs=[v1,v2]:=gC (P:=fun l=>cj fun v1 v2=>l=[v1,v2]) (fun a b=>⟨a,b,rfl⟩) _ h2
    cases r with
    | @cons _ _ d1 _ r1 r=>
    cases r with
    | @cons _ _ d2 _ r2 r=>
    cases r
    refine ⟨(),a,[v1,v2],rfl,ak.of h,rfl,v1,[v2],rfl,v2,[],rfl,rfl,?_⟩
    refine ⟨(),v1,d1,F,rfl,r1,(),?_⟩
    cases r1 with
    | non=>exact aa (aa k)
    | bl b=>exact aa (aa k)
    | str y=>exact aa (aa k)
    | lst _ _ _=>exact aa (aa k)
    | tup _ _=>exact aa (aa k)
    | int n=>
     refine ah ?_
     refine ⟨(),v2,d2,F,rfl,r2,(),?_⟩
     cases r2 with
     | non=>exact aa k
     | bl b=>exact aa k
     | str y=>exact aa k
     | lst _ _ _=>exact aa k
     | tup _ _=>exact aa k
     | int de=>
      refine ah ?_
      refine ⟨(),_,(),rfl,(),?_⟩
      by_cases he:1≤de
      ·rw [decide_eq_true he]
       refine aa ?_
       refine ⟨(),(),n,de,rfl,rfl,?_⟩
       have q:c9 (.tuple [.int n,.int de])=decide (V.int ((Int.gcd n de:Nat):Int)=V.int 1):=by
        show (decide (1≤de) && decide (Int.gcd n de=1))=_
        rw [decide_eq_true he,Bool.true_and]
        by_cases g:Int.gcd n de=1
        ·rw [g];rfl
        ·rw [decide_eq_false g,decide_eq_false]
         intro z
         injection z with z
         exact g (by trivial)
       rw [←q]
       exact k
      ·rw [decide_eq_false he]
       refine ah ?_
       have q:c9 (.tuple [.int n,.int de])=false:=by
        show (decide (1≤de) && decide (Int.gcd n de=1))=_
        rw [decide_eq_false he,Bool.false_and]
       rw [←q]
       exact k
   ·have e:(!decide (V.int (xs.length:Int)=V.int 2))=true:=by
     rw [decide_eq_false]
     ·rfl
     ·intro z
      injection z with z
      exact h2 (by trivial)
    rw [e]
    refine aa ?_
    have q:c9 (.tuple ds)=false:=by
     unfold c9
     split
     ·rename_i z
      injection z with z
      subst z
      simp at hl
      exact absurd hl h2
     ·rfl
    rw [←q]
    exact k
end
end K53
namespace K53
open PySem L2
section
variable {P:Program}{w:World}{K:PySem.W.Frag}{mg:Str→Option Value}{base:Heap}
theorem yw (T:Txt K mg):bt P w K mg base CX0 1 T.compared_.f T.compared_.d ["one", "other"] GW:=by
 refine T.compared_.F.ok mU (fun vs H Q E h=>?_) (fun cdv A outer s H vs Q E hr h=>?_)
 ·obtain ⟨a,b,n1,d1,n2,d2,rfl,_⟩:=h
  rfl
 ·obtain ⟨a,b,n1,d1,n2,d2,rfl,ha,hb,z1,z2,z3,z4,k⟩:=h
  refine ⟨_,#[#[2,mU.nd,jv,#[aj 8 (@ze _) #[#[0,ny][#[()]]] #[#[1,lJ][#[()]]]]] :: #[#[3,mU.nd,iE,#[aj 8 (@ze _) #[#[1,lJ][#[()]]] #[#[0,ny][#[()]]]]] :: #[#[aN 8 #[au 8 (@dQ _) #[2,jv] #[3,iE] #[(),()]] #[ac 3 #[ai 4 #[mI 6 (@lP _) #[()]]]] (@ay _)] :: #[#[aN 8 #[au 8 (@oz _) #[2,jv] #[3,iE] #[(),()]] #[ac 3 #[ai 4 #[()]]] (@ay _)] :: #[ac 3 #[ai 4 #[()]]]]]]],?_⟩
  refine ⟨(),a,_,_,(),rfl,ak.of ha,rfl,(),b,_,_,(),rfl,ak.of hb,rfl,_,(),rfl,Gs z1 z4,(),b,_,_,(),rfl,ak.of hb,rfl,(),a,_,_,(),rfl,ak.of ha,rfl,_,(),rfl,Gs z3 z2,
   _,rfl,_,rfl,_,_,rfl,rfl,_,rfl,?_⟩
  unfold zx at k
  by_cases h1:n1*d2<n2*d1
  ·rw [decide_eq_true h1]
   rw [if_pos h1] at k
   exact aa ⟨(),k⟩
  ·rw [decide_eq_false h1]
   rw [if_neg h1] at k
   refine ah ⟨(),(),_,(),rfl,(),?_⟩
   by_cases h2:n2*d1<n1*d2
   ·rw [decide_eq_true h2]
    rw [if_pos h2] at k
    exact aa k
   ·rw [decide_eq_false h2]
    rw [if_neg h2] at k
    exact ah k
end
end K53
namespace K53
open PySem L2
section
variable {P:Program}{w:World}{K:PySem.W.Frag}{mg:Str→Option Value}{base:Heap}
theorem E7 (T:Txt K mg):bt P w K mg base CX0 1 T.l_box_.f T.l_box_.d ["_law_script", "_law_k"] (HP K):=by
 refine T.l_box_.F.ok sA (fun vs H Q E h=>?_) (fun cdv A outer s H vs Q E hr h=>?_)
 ·obtain ⟨a,ms,k,rfl,_⟩:=h
  rfl
 ·obtain ⟨a,ms,k,rfl,hS,hk0,hk1,kk⟩:=h
  refine ⟨_,(ee (ou (i:=2) sA.nd rfl (Or.inl rfl) bP)
   (ee (aN (au dQ (pv 1) (fc l0 (by rfl) T.b_len bi (bS (pv 0) aC)) (kJ _)) (ac (ou (i:=2) sA.nd rfl (Or.inl rfl) (fS jq (pv 0) (pv 1) (fun _ _=>rfl)))) ay)
   (ac (ai (Gg (bS (aj ej (fc lY (by rfl) T.b_abs iY (bS (pv 2) aC)) (bV iW (by rfl) T.b_int du (bS (bY wC (fc lY (by rfl) T.b_abs iY (bS (pv 2) aC)) (aj lK bP bP) (kJ _)) aC))) (bS (aj je (aj bJ (pv 2) (aj ej (aj ej bP (pv 1)) (pv 1))) bP) (bS bP aC)))))))),?_⟩
  refine ⟨(),(),a,(),.inl hS,_,(),rfl,(),?_⟩
  refine gr (fun h=>?_) (fun h=>?_)
  case' refine_1=>
   have hlt:k.toNat<ms.length:=by
    have h':=of_decide_eq_true h
    rw [List.length_map] at h'
    trivial
   refine ⟨(),(),.inl ⟨a,_,_,V.int ms[k.toNat],rfl,rfl,hS,?_,?_⟩⟩
   ·exact zk hk0 hlt
  all_goals
   refine ⟨(),(),(),(),_,(),rfl,⟨by decide,by decide,by decide⟩,_,(),rfl,.inr ⟨(),_,(),rfl,.inr ?_,(),(),_,(),rfl,.inr ⟨by trivial,by trivial⟩,(),_,(),rfl,.inr ⟨by trivial,by trivial⟩,_,(),rfl,_,(),rfl,?_,?_,fun p hp=>kk p _ hp (ad.new hp) ⟨_,_,bf,?_,?_,?_⟩⟩⟩
   ·exact Jo _
   ·show (0:Int)<2147483647;decide
   ·show 3≤sizeLine;decide
   ·exact HL _ (xb _)
   ·exact Int.emod_nonneg _ (by decide)
   ·exact Int.emod_lt_of_pos _ (by decide)
end
end K53
namespace K53
open PySem L2
section
variable {P:Program}{w:World}{K:PySem.W.Frag}{mg:Str→Option Value}{base:Heap}
theorem gU (T:Txt K mg):bt P w K mg base CX0 1 T.l_take_.f T.l_take_.d ["_law_box_here", "_law_many"] FS:=by
 refine T.l_take_.F.ok qG (fun vs H Q E h=>?_) (fun cdv A outer s H vs Q E hr h=>?_)
 ·obtain ⟨b,many,t,rfl,_⟩:=h
  rfl
 ·obtain ⟨b,many,t,rfl,⟨c,x,hb,hc,hx0,hx1⟩,hm0,hm1,ht0,ht1,kk⟩:=h
  refine ⟨_,(ee (aN (au oz (fS jq (pv 0) bP (fun _ _=>rfl)) bP (kJ _)) (ee (gK (fc wK (by rfl) T.b_divmod vR (bS (fS jq (pv 0) bP (fun _ _=>rfl)) (bS (pv 1) aC))) (wW rfl (aP (xq (pv 0) bP sk) (aP (cZ (i:=2) qG.nd rfl (Or.inl rfl)) fD))))
   (ac (ai (pv 2)))) ay)
   (ee (gK (aj bJ (fS jq (pv 0) bP (fun _ _=>rfl)) bP) (xq (pv 0) bP sk))
   (ee (ou (i:=3) qG.nd rfl (Or.inl rfl) (aj je (aj lK (aj bJ (fS jq (pv 0) bP (fun _ _=>rfl)) (aj ej bP (fS jq (pv 0) bP (fun _ _=>rfl)))) bP) bP))
   (ac (ai (aj je (aj Du (aj je (aj bJ (aj ej (pv 3) bP) (aj ej (aj ej (fS jq (pv 0) bP (fun _ _=>rfl)) (fS jq (pv 0) bP (fun _ _=>rfl))) bP)) bP) bP) (pv 1))))))),?_⟩
  refine ⟨(),.inl ⟨b,_,_,(),rfl,aE.of hb,rfl,_,(),rfl,(),?_⟩⟩
  refine gr (fun h=>?_) (fun h=>?_)
  ·refine ⟨(),.inl ⟨b,_,_,(),rfl,aE.of hb,rfl,(),_,(),⟨hm0,hm1⟩,fun p hp=>⟨p,(),ak.of bf,rfl,_,(),(),b,[.int c,.int x,.int t],_,0,rfl,rfl,?_,rfl,_,(),rfl,(),?_⟩⟩⟩
   ·rw [aT (bc hb hp)];exact hb
   ·have hb':bN H p (.tup [.int (c / many),.int (c % many)]) b=some (.lst [.int c,.int x,.int t]):=by rw [aT (bc hb hp)];exact hb
    exact kk _ t _ (Int.emod_nonneg _ (Int.ne_of_gt hm0)) (Int.emod_lt_of_pos _ hm0) (Int.le_refl _) (by trivial) (vw (ad.new hp) hb') ⟨_,_,bf,Int.ediv_nonneg hc (Int.le_of_lt hm0),hx0,hx1⟩
  ·refine ⟨(),.inl ⟨b,_,_,(),rfl,aE.of hb,rfl,_,(),rfl,(),b,_,_,2,rfl,rfl,hb,rfl,?_⟩⟩
   refine ⟨(),.inl ⟨b,_,_,(),rfl,aE.of bf,rfl,(),.inl ⟨b,_,_,(),rfl,aE.of bf,rfl,_,(),rfl,.inl ⟨by decide,by decide⟩,_,(),rfl,_,(),rfl,⟨by decide,by decide,?_⟩,_,(),rfl,?_,?_⟩⟩⟩
   ·have:(x+39373*(t+1)).natAbs<2 ^ 64:=by trivial
    exact this
   ·show (0:Int)<2147483647;decide
   have ho0:0≤(x+39373*(t+1)) ^ (5:Int).toNat % 2147483647:=Int.emod_nonneg _ (by decide)
   have ho1:(x+39373*(t+1)) ^ (5:Int).toNat % 2147483647<2147483647:=Int.emod_lt_of_pos _ (by decide)
   generalize (x+39373*(t+1)) ^ (5:Int).toNat % 2147483647=on at ho0 ho1 ⊢
   refine ⟨(),_,(),rfl,.inr ⟨by decide,by decide⟩,(),.inl ⟨b,_,_,(),rfl,aE.of bf,rfl,(),.inl ⟨b,_,_,(),rfl,aE.of bf,rfl,_,(),rfl,.inl ⟨?_,?_⟩,_,(),rfl,.inr ⟨by decide,by decide⟩,_,(),rfl,_,(),rfl,?_,_,(),rfl,⟨by decide,by decide⟩,(),_,(),rfl,hm0,?_⟩⟩⟩
   ·show -(2 ^ 64)<t+1;trivial
   ·show t+1<2 ^ 64;trivial
   ·show (0:Int)<2147483629;decide
   ·exact kk _ (t+1) _ (Int.emod_nonneg _ (Int.ne_of_gt hm0)) (Int.emod_lt_of_pos _ hm0) (by trivial) (Int.le_refl _) (vw (ad.refl H) hb) ⟨c,x,bf,hc,hx0,hx1⟩
end
end K53
namespace K53
open PySem L2
section
variable {P:Program}{w:World}{K:PySem.W.Frag}{mg:Str→Option Value}{base:Heap}
theorem DO {n d:Int} (hd:d≠0) (h:d.natAbs.log2<9000):zJ n ((Int.gcd n d:Nat):Int):=by
 have g0:=KM.gcd_pos (n:=n) hd
 refine ⟨by trivial,?_⟩
 have h1:Int.gcd n d≤d.natAbs:=Nat.le_of_dvd (by trivial) (by
  have:((Int.gcd n d:Nat):Int) ∣ d:=Int.gcd_dvd_right ..
  exact Int.ofNat_dvd_left.mp this)
 have h2:d.natAbs<2 ^ 9000:=(Nat.log2_lt (by trivial)).mp h
 rw [Int.natAbs_natCast]
 exact (Nat.log2_lt (by trivial)).mpr (Nat.lt_of_le_of_lt h1 h2)
end
end K53
namespace K53
open PySem L2
set_option maxHeartbeats 4000000
section
variable {P:Program}{w:World}{K:PySem.W.Frag}{mg:Str→Option Value}{base:Heap}
theorem wS (ns:List Int) (lo hi:Option Int):∃cs:List Int,cS (ns.map V.int) lo hi=cs.map V.int∧cs=(ns.drop (HT.sIx ns.length 0 lo)).take (HT.sIx ns.length ns.length hi - HT.sIx ns.length 0 lo):=by
 refine ⟨_,?_,rfl⟩
 unfold cS
 rw [List.length_map,List.map_take,List.map_drop]
inductive BN (K:PySem.W.Frag) (vs:List V) (H:Hp) (Q:VK):Prop
 | mk (a:Addr) (ns:List Int) (h0:vs=[.ref a,.int 4]) (h1:aE K H a (ns.map V.int)) (h2:ns.length≤63) (h3:∀(l:Addr) (bs:List Addr) (H':Hp),ad H H'→H' l=some (.lst (bs.map V.ref))→bs.length≤4→bs.Nodup→(∀b∈bs,Bx H' b 0)→Q (.ref l) H')
def Ej (K:PySem.W.Frag):Sp:=fun vs H Q _=>BN K vs H Q
theorem Cw (T:Txt K mg):bt P w K mg base CX0 2 T.l_boxes_.f T.l_boxes_.d ["_law_script", "_law_cap"] (Ej K):=by
 have G_l_box:=#[(E7)]
 refine T.l_boxes_.F.ok lj (fun vs H Q E h=>?_) (fun cdv A outer s H vs Q E hr h=>?_)
 ·obtain ⟨a,ns,rfl,_⟩:=h
  rfl
 ·obtain ⟨a,ns,rfl,hS,hn,kk⟩:=h
  refine ⟨_,#[#[ou 2 (2) _ _ _ _ lj.nd rfl (Or.inr fj) #[bV 9 (@fX _ (K) (by rfl)) uU T.b_list (@d9) #[[#[aR 10 (@oE _ (K) (by rfl)) #[0,kN] (@be _) #[aU 3 #[1,gD]]]]] (by decide) (by decide) (by rfl) (by rfl)] (by rfl) (by first | exact .inl rfl | exact .inr rfl | assumption)] :: #[#[d8 8 PassesOwn.never rfl #[EO 8 pQ T.b_enumerate #[[#[aR 10 (@oE _ (K) (by rfl)) #[0,kN] #[aU 3 #[1,gD]] #[aU 3 #[()]]]]] (by rfl)] (@fP _ (K) _ _ _ _ (2) rfl #[aP 5 #[3,lj.nd,iy] #[aP 5 #[4,lj.nd,lT] (@fD _) (by rfl)] (by rfl)] (by rfl) (by rfl) (by rfl)) #[ac 3 #[gK 6 #[aj 8 (@bJ _) #[fS 7 (@Fk _ (K) (by rfl)) #[2,(fj)] #[aj 8 (@je _) #[3,iy] #[1,gD]] (fun _ _=>rfl)] #[aj 8 (@ej _) #[4,lT] #[aj 8 (@bJ _) #[3,iy] #[()]]]] #[xq 7 #[2,(fj)] #[aj 8 (@je _) #[3,iy] #[1,gD]] (@AG _) (by intro _;rfl)] (by rfl) (by rfl) (by rfl)]] (by intro _;rfl)] :: #[ac 3 #[ai 4 #[bA 7 (["_law_k", "_law_found"]) (1) ([2]) _ _ _ _ rfl (by kernel_rfl) #[dU 6 sS T.b_range #[[#[(),(),(@AY _ rfl),vY,T.b_max,(@Af),#[[#[()],#[(),(),(@eI _ (K) (by rfl)),vX,T.b_len,(@bi),#[[#[2,(fj)]]]]]]]]] (by rfl)] (fun _ _ _ _ _ _=>#[0,(),()]) (fun _ _ _ _ _ _=>@bu _) (fun _ _ _ _ _ _=>#[G_l_box,(),T.l_box_,#[[#[1,0],#[0,()]]]]) (by intro _;rfl)]]]]],?_⟩
  obtain ⟨c1,e1,q1⟩:=wS ns none (some 4)
  obtain ⟨c2,e2,q2⟩:=wS ns (some 4) (some 63)
  have l1m:c1.length=min 4 ns.length:=by
   rw [q1,show (4:Int)=((4:Nat):Int) from rfl,HT.sIx_nat,HT.sIx_none,List.length_take,List.length_drop]
   trivial
  have l2m:c2.length≤ns.length - 4:=by
   rw [q2,show (4:Int)=((4:Nat):Int) from rfl,HT.sIx_nat,List.length_take,List.length_drop]
   trivial
  refine sw fun Q0 n0=>⟨(),(),(),a,(),hS,fun p1 H1 m1=>⟨p1,(),.inl (aE.of m1.at'),fun p2 H2 m2=>n0 _ _ ?_⟩⟩
  rw [e1] at m1 m2
  have s2:=m1.sm.trans m2.sm
  have fp2:H p2=none:=m1.sm.free m2.fr
  refine cq fun D0 nD=>⟨(),(),(),(),a,(),s2.seq hS,fun p3 H3 m3=>⟨p3,rfl,⟨_,aE.of m3.at'⟩,?_⟩⟩
  rw [e2] at m3
  have n23:p2≠p3:=fun z=>by have:=m2.at';rw [z,m3.fr] at this;cases this
  refine ⟨fun i m σ H'=>m=c2.length - i∧i≤c2.length∧eV fun (ms:List Int) (v3 v4:Option V)=>σ=[some (.ref a),some (.int 4),some (.ref p2),v3,v4]∧ms.length=c1.length∧H' p2=some (.lst (ms.map V.int))∧H' p3=some (.lst (c2.map V.int))∧(∀b o,b≠p2→H b=some o→H' b=some o),⟨(),Nat.zero_le _,c1,none,none,rfl,rfl,m3.sm _ _ m2.at',m3.at',fun b o _ h=>m3.sm _ _ (s2 b o h)⟩,?_⟩
  rintro i m σ H' ⟨rfl,hi,ms,v3,v4,rfl,hms,h2,h3,hk⟩
  by_cases hlt:i<c2.length
  ·refine .inr ⟨⟨c2.map V.int,V.int c2[i],aE.of h3,by rw [List.getElem?_map];simp [hlt]⟩,_,fun σ' H'' z=>z,?_⟩
   rintro x H'' ⟨t,y,ht,rfl,rfl,hy⟩
   have hy':=hy _ (aE.of h3)
   rw [List.getElem?_map,List.getElem?_eq_getElem hlt] at hy'
   obtain rfl:V.int c2[i]=y:=Option.some.inj hy'
   have nt2:p2≠t:=bc h2 ht
   have nt3:p3≠t:=bc h3 ht
   have hmod0:0≤(i:Int) % 4:=Int.emod_nonneg _ (by trivial)
   have hmod1:(i:Int) % 4<4:=Int.emod_lt_of_pos _ (by trivial)
   have hixlt:((i:Int) % 4).toNat<ms.length:=by trivial
   refine ⟨t,(),ak.of bf,rfl,_,(),_,(),rfl,(),(),(),_,(),rfl,(by show (0:Int)<4;decide),.inl ⟨p2,ms.map V.int,_,V.int ms[((i:Int) % 4).toNat],rfl,rfl,aE.of (by rw [aT nt2];exact h2),zk hmod0 hixlt,(),(),_,(),rfl,_,(),rfl,.inr ⟨by trivial,by trivial⟩,_,(),rfl,(),(),(),_,(),rfl,(by show (0:Int)<4;decide),p2,ms.map V.int,_,((i:Int) % 4).toNat,rfl,rfl,(by rw [aT nt2];exact h2),?_,fun H5 c5=>?_⟩⟩
   ·unfold nK
    rw [if_pos hmod0,List.length_map,if_pos (by trivial)]
   ·refine ⟨c2.length - (i+1),by trivial,rfl,hlt,ms.set ((i:Int) % 4).toNat (ms[((i:Int) % 4).toNat]+c2[i]*((i:Int)+2)),_,(),by rw [List.length_set];exact hms,by rw [c5.at',List.map_set],c5.ol _ _ (Ne.symm n23) (by rw [aT nt3];exact h3),fun b o hb h=>?_⟩
    have:=hk b o hb h
    exact c5.ol _ _ hb (by rw [aT (bc this ht)];exact this)
  ·refine .inl ⟨⟨_,aE.of h3,by rw [List.length_map];trivial⟩,nD _ _ ?_⟩
   have sH:ad H H':=fun b o h=>hk b o (bc h fp2) h
   have hmx:0≤(if ((ms.map V.int).length:Int) > 2 then ((ms.map V.int).length:Int) else 2)∧(if ((ms.map V.int).length:Int) > 2 then ((ms.map V.int).length:Int) else 2)≤4:=by
    rw [List.length_map]
    split <;> trivial
   refine ⟨(),p2,(),.inl (aE.of h2),_,(),(),by trivial,by trivial,?_⟩
   generalize (if ((ms.map V.int).length:Int) > 2 then ((ms.map V.int).length:Int) else 2)=mx at hmx
   intro D hD
   refine mF (n:=mx.toNat) (fun i H6 ys=>∃bs:List Addr,ys=bs.map V.ref∧H6 D=some (.lst ys)∧bs.length=i∧bs.Nodup∧(∀b∈bs,Bx H6 b 0)∧ad H' H6) (iB (by trivial)) ⟨[],rfl,bf,rfl,List.nodup_nil,(fun b hb=>by cases hb),ad.new hD⟩ ?_ ?_ ?_ ?_ ?_
   ·rintro i H6 ys ⟨bs,rfl,e,rfl,_⟩
    exact ⟨e,by simp⟩
   ·intro i H6 ys hi _
    exact hi
   ·intro H6 ys _
    exact Nat.le_refl _
   ·rintro i H6 ys x H7 hi ⟨bs,rfl,e,lb,nb,bb,sm⟩ ⟨rfl,rfl⟩
    refine ⟨dq,(),(),p2,ms,(),aE.of (sm _ _ h2),by trivial,by trivial,fun p H8 fp s8 Bp=>?_⟩
    have e8:=s8 _ _ e
    have nf:p∉bs:=fun h=>by
     obtain ⟨_,_,q,_⟩:=bb p h
     rw [fp] at q;cases q
    have nd:D≠p:=fun z=>by rw [z,fp] at e;cases e
    have bne:∀b∈bs,b≠D:=fun b h z=>by
     obtain ⟨_,_,q,_⟩:=bb b h
     rw [z,e] at q
     injection q with q
     injection q with q
     cases bs <;> cases q
    refine ⟨e8,bs++[p],by rw [List.map_append];rfl,bf,by rw [List.length_append,lb];rfl,?_,fun b hb=>?_,fun b o h=>?_⟩
    ·rw [List.nodup_append]
     exact ⟨nb,by simp,fun u hu v hv z=>nf (by rw [List.mem_singleton.mp hv] at z;exact z▸hu)⟩
    ·have hbD:b≠D:=by
      rcases List.mem_append.mp hb with h | h
      ·exact bne b h
      ·rw [List.mem_singleton.mp h];exact Ne.symm nd
     have B8:Bx H8 b 0:=by
      rcases List.mem_append.mp hb with h | h
      ·exact (bb b h).same s8
      ·rw [List.mem_singleton.mp h];exact Bp
     exact B8.ch .mk' hbD
    ·rw [aT (fun z=>by rw [z,hD] at h;cases h)]
     exact s8 _ _ (sm _ _ h)
   ·rintro H6 ys ⟨bs,rfl,e,lb,nb,bb,sm⟩
    exact kk D bs H6 (sH.trans sm) e (by trivial) nb bb
end
end K53
namespace K53
open PySem L2
section
variable {P:Program}{w:World}{K:PySem.W.Frag}{mg:Str→Option Value}{base:Heap}
end
end K53
namespace K53
open PySem L2
set_option maxHeartbeats 4000000
section
variable {P:Program}{w:World}{K:PySem.W.Frag}{mg:Str→Option Value}{base:Heap}
def uW (f:Int) (ls:List (List Nat)):Prop:=∀(j:Nat) l,ls[j]?=some l→∃cs:List Nat,l=(97+(((f+11*(0+(j:Int))) % 26) % 26).toNat) :: cs∧cs.length≤7∧∀c∈cs,97≤c∧c≤122
theorem uW.nc {f:Int}{ls:List (List Nat)} (h:uW f ls):∀l∈ls,pf l:=fun l hl=>by
 obtain ⟨j,hj⟩:=List.getElem?_of_mem hl
 obtain ⟨cs,rfl,h1,h2⟩:=h j l hj
 refine ⟨by simp,by rw [List.length_cons];trivial,fun c hc=>?_⟩
 rcases List.mem_cons.mp hc with rfl | hc
 ·trivial
 ·exact h2 c hc
theorem uW.nd {f:Int}{ls:List (List Nat)} (h:uW f ls) (hl:ls.length≤26):ls.Nodup:=by
 rw [List.nodup_iff_pairwise_ne,List.pairwise_iff_getElem]
 intro i j hi hj hij e
 obtain ⟨cs,e1,_⟩:=h i _ (List.getElem?_eq_getElem hi)
 obtain ⟨ds,e2,_⟩:=h j _ (List.getElem?_eq_getElem hj)
 rw [e1,e2] at e
 injection e with e _
 have:=FN (f:=f) (j:=i) (k:=j) (by trivial) (by trivial) (by trivial)
 trivial
theorem uW.snoc {f:Int}{ls:List (List Nat)}{cs:List Nat} (h:uW f ls) (h1:cs.length≤7) (h2:∀c∈cs,97≤c∧c≤122):uW f (ls++[(97+(((f+11*(0+(ls.length:Int))) % 26) % 26).toNat) :: cs]):=fun j l hj=>by
 by_cases hji:j<ls.length
 ·rw [List.getElem?_append_left hji] at hj
  exact h j l hj
 ·have hj':j=ls.length:=by
   have:=(List.getElem?_eq_some_iff.mp hj).1
   rw [List.length_append] at this
   simp at this
   trivial
  subst hj'
  rw [List.getElem?_append_right (by trivial),Nat.sub_self] at hj
  cases hj
  exact ⟨cs,rfl,h1,h2⟩
theorem DU {m:Nat}{c:Nat} (hm:m≤8) (h1:97≤c) (h2:c≤122):(∀l∈(List.range m).map (fun i:Nat=>List.replicate (m - i) c),pf l)∧((List.range m).map fun i:Nat=>List.replicate (m - i) c).Nodup:=by
 constructor
 ·intro l hl
  obtain ⟨i,hi,rfl⟩:=List.mem_map.mp hl
  have:=List.mem_range.mp hi
  exact ⟨by rw [List.length_replicate];trivial,by rw [List.length_replicate];trivial,fun d hd=>by rw [List.eq_of_mem_replicate hd];trivial⟩
 ·rw [List.nodup_iff_pairwise_ne,List.pairwise_map]
  refine List.Pairwise.imp_of_mem (fun {i j} hi hj hij z=>?_) List.pairwise_lt_range
  have a:=List.mem_range.mp hi
  have b:=List.mem_range.mp hj
  have:=congrArg List.length z
  rw [List.length_replicate,List.length_replicate] at this
  trivial
inductive GF (vs:List V) (H:Hp) (Q:VK):Prop
 | mk (b:Addr) (many t:Int) (h0:vs=[.ref b,.int many]) (h1:Bx H b t) (h2:0≤t) (h3:t≤900000) (h4:1≤many) (h5:many≤10) (h6:∀D (ls:List (List Nat)) t' H',H D=none→ar (Eb b) H H'→H' D=some (.lst (ls.map b8))→ls.length=many.toNat→(∀l∈ls,pf l)→ls.Nodup→Bx H' b t'→t≤t'→t'≤t+130→Q (.ref D) H')
def Ix:Sp:=fun vs H Q _=>GF  vs H Q
theorem Cb (T:Txt K mg):bt P w K mg base CX0 2 T.l_names_.f T.l_names_.d ["_law_box_here", "_law_many"] Ix:=by
 have G_l_take:=#[(gU)]
 refine T.l_names_.F.ok fN (fun vs H Q E h=>?_) (fun cdv A outer s H vs Q E hr h=>?_)
 ·obtain ⟨b,many,t,rfl,_⟩:=h
  rfl
 ·obtain ⟨b,many,t,rfl,B,ht0,ht1,hm1,hm2,k⟩:=h
  refine ⟨_,#[#[gK 6 #[ae 5 #[[#[dC 4],#[bU 4 (@aC _)],#[G_l_take,iM,T.l_take_,#[[#[0,(fM)],#[()]]]]]]] (@fP _ (K) _ _ _ _ (3) rfl #[aP 5 #[cZ 2 (2) _ fN.nd rfl (Or.inr jH) (by first | exact .inl rfl | exact .inr rfl | assumption)] #[aP 5 #[3,fN.nd,ie] #[aP 5 #[cZ 2 (4) _ fN.nd rfl (Or.inr lc) (by first | exact .inl rfl | exact .inr rfl | assumption)] (@fD _) (by rfl)] (by rfl)] (by rfl)] (by rfl) (by rfl) (by rfl)) (by rfl) (by rfl) (by rfl)] :: #[#[5,fN.nd,k9,#[cG 7 #[bY 8 (@cY _) #[G_l_take,iM,T.l_take_,#[[#[0,(fM)],#[()]]]] #[()] #[(),()]] #[cX 5 #[bY 8 (@dQ _) #[1,(iK)] #[()] #[(),()]]]]] :: #[#[d8 8 PassesOwn.never rfl #[dU 6 ja T.b_range #[[#[1,(iK)]]] (by rfl)] #[6,fN.nd,pK] #[#[yh 7 (["_law_turn", "_law_box_here", "_law_letters"]) (1) ([0,2]) _ _ _ _ (7) _ _ _ fN.nd rfl lZ (by kernel_rfl) rfl (by kernel_rfl) #[dU 6 ja T.b_range #[[#[G_l_take,iM,T.l_take_,#[[#[0,(fM)],#[()]]]]]] (by rfl)] (fun _ _ _ _ _ _=>#[0,(),()]) (fun _ _ _ _ _ _=>@bu _) (fun _ _ _ _ _ _=>#[fS 7 (@sK _) #[2,0] #[G_l_take,(),T.l_take_,#[[#[1,0],#[()]]]] (fun _ _=>rfl)]) (by intro _;rfl)] :: #[ac 3 #[fC 4 (@dX _ (K) _ _ _ _ _ _ _ _ _ _ _ PySem.F.plainAttrs_list PySem.F.slot_list_append PySem.F.type_list_append (@cU _) #[3,ie] #[[#[aj 8 (@zd _) #[fS 7 (@sK _) #[2,(jH)] #[aj 8 (@je _) #[aj 8 (@bJ _) #[4,(lc)] #[aj 8 (@ej _) #[()] #[6,pK]]] #[()]] (fun _ _=>rfl)] (@dX _ (K) _ _ _ _ _ _ _ _ _ _ _ PySem.F.plainAttrs_str PySem.F.slot_str_join PySem.F.type_str_join (@DG _ (K) (by rfl)) #[dC 4] #[[#[7,lZ]]] (by rfl) (by rfl) (by rfl) (by rfl) (by rfl) (by rfl))]]] (by rfl) (by rfl) (by rfl) (by rfl) (by rfl) (by rfl)) (by rfl)]]] (by intro _;rfl)] :: #[ac 3 #[ai 4 #[iH 8 #[aF 3 #[5,k9] (by intro _;rfl)] #[bA 7 (["_law_k", "_law_first", "_law_letters", "_law_many"]) (1) ([4,2,1]) _ _ _ _ rfl (by kernel_rfl) #[dU 6 ja T.b_range #[[#[1,(iK)]]] (by rfl)] (fun _ _ _ _ _ _=>#[0,(),()]) (fun _ _ _ _ _ _=>@bu _) (fun _ _ _ _ _ _=>#[aj 8 (@Eh _) #[fS 7 (@sK _) #[2,0] #[1,0] (fun _ _=>rfl)] #[aj 8 (@sY _) #[3,0] #[0,()]]]) (by intro _;rfl)] #[3,ie]]]]]]],?_⟩
  have hz:(Str.ofString "abcdefghijklmnopqrstuvwxyz").length≤sizeLine:=by nofun
  refine cq fun D0 n0=>⟨(by show 0≤10000;decide),fun D H1 m1=>⟨(),b,26,t,rfl,B.same m1.sm,by decide,by decide,ht0,by trivial,fun f t2 H2 f0 f1 h2a h2b s2 B2=>⟨(by show 3≤10000;decide),fun q H3 m3=>⟨q,(),ak.of m3.at',rfl,_,(),_,(),_,(),rfl,n0 _ _ ?_⟩⟩⟩⟩
  have nDb:¬D=b:=fun z=>B.ne m1.fr z.symm
  have B3:=B2.same m3.sm
  have s03:ar (Eb b) H H3:=(m1.sm.toE.trans s2).trans m3.sm.toE
  have hD3:H3 D=some (.lst []):=m3.sm _ _ (s2.old _ _ nDb m1.at')
  refine sw fun Q4 n4=>⟨(),b,4,t2,rfl,B3,by decide,by decide,by trivial,by trivial,fun r t4 H4 r0 r1 h4a h4b s4 B4=>⟨rfl,(),?_⟩⟩
  have fin:∀al:Bool,(al=true→many<9)→Q4 (.bl al) H4:=fun al hal=>by
   refine n4 _ _ ?_
   have s04:=s03.trans s4
   refine cq fun D5 n5=>⟨(),(),by trivial,by trivial,gH (fun i σ H'=>lO fun v6 v7 ls t'=>σ=[some (.ref b),some (.int many),some (.str "abcdefghijklmnopqrstuvwxyz"),some (.ref D),some (.int f),some (.bl al),v6,v7]∧H' D=some (.lst ((ls:List (List Nat)).map b8))∧ls.length=i∧uW f ls∧Bx H' b t'∧t4≤t'∧t'≤t4+10*i∧ar (Eb b) H H')
    ⟨_,_,[],t4,rfl,s4.old _ _ nDb hD3,rfl,(fun j l h=>by simp at h),B4,by trivial,by trivial,s04⟩ ?_ ?_⟩
   case refine_2=>
    rintro σ H' ⟨v6,v7,ls,t',rfl,e1,e2,nmi,B',h0,h1,s'⟩
    refine n5 _ _ ⟨(),(),?_⟩
    cases al with
    | false=>exact ah ⟨_,rfl,k D ls t' H' m1.fr s' e1 e2 nmi.nc (nmi.nd (by trivial)) B' (by trivial) (by trivial)⟩
    | true=>
     refine aa ⟨(),(),by trivial,by trivial,fun D2 hD2=>?_⟩
     refine mC (n:=many.toNat) (fun i=>b8 (List.replicate (many - (0+(i:Int))).toNat (97+(f % 26).toNat))) (by trivial) hD2 (fun i H' hi _=>hi) (fun H' _=>Nat.le_refl _) ?_ ?_
     ·rintro i x Ha Hb R hi sm ⟨rfl,rfl⟩ kk
      refine ⟨dq,(),(),_,_,(),rfl,hz,p9 (by trivial) (by trivial),(),(),_,(),rfl,[97+(f % 26).toNat],(),rfl,by trivial,by trivial,(by show 1≤100;decide),?_⟩
      rw [Im]
      exact kk _ (ad.refl _)
     ·intro H5 s5 h5
      have h9:=hal rfl
      have er:((List.range many.toNat).map fun i:Nat=>List.replicate (many - (0+((i:Nat):Int))).toNat (97+(f % 26).toNat))=(List.range many.toNat).map fun i:Nat=>List.replicate (many.toNat - i) (97+(f % 26).toNat):=by
       refine List.map_congr_left fun i _=>?_
       congr 1
       trivial
      have rn:=DU (m:=many.toNat) (c:=97+(f % 26).toNat) (by trivial) (by trivial) (by trivial)
      rw [←er] at rn
      refine k D2 ((List.range many.toNat).map fun i=>List.replicate (many - (0+((i:Nat):Int))).toNat (97+(f % 26).toNat)) t' H5 (ar.free s' B' hD2) (s'.trans s5.toE) ?_ (by simp) rn.1 rn.2 (B'.same s5) (by trivial) (by trivial)
      rw [h5,List.map_map]
      rfl
   rintro i σ H' hi ⟨v6,v7,ls,t',rfl,e1,e2,nmi,B',h0,h1,s'⟩
   refine mw (t:=jV _ _) fun DB nB=>?_
   refine ⟨(),b,8,t',rfl,B',by decide,by decide,by trivial,by trivial,fun r6 t6 J3 r60 r61 _ _ j3 C3=>⟨(),by trivial,by trivial,fun D2 hD2=>mF (n:=r6.toNat) (fun i H' ys=>cj fun (cs:List Nat) (t':Int)=>ys=cs.map (fun c=>b8 [c])∧H' D2=some (.lst ys)∧cs.length=i∧(∀c∈cs,97≤c∧c≤122)∧Bx H' b t'∧t6≤t'∧t'≤t6+i∧ar (Eb b) J3 H') ?_ ?_ ?_ ?_ ?_ ?_ ?_⟩⟩
   ·rw [sizeLine_eq];trivial
   ·exact ⟨[],t6,rfl,bf,rfl,(fun c h=>by cases h),C3.same (ad.new hD2),by trivial,by trivial,(ad.new hD2).toE⟩
   ·rintro i' H'' ys ⟨cs,t7,rfl,e,rfl,_⟩
    exact ⟨e,by simp⟩
   ·intro i' H'' ys hi' _
    exact hi'
   ·intro H'' ys _
    exact Nat.le_refl _
   ·have nD2:¬D2=b:=fun z=>C3.ne hD2 z.symm
    rintro i' Ha ys x Hb hi' ⟨cs,t7,rfl,g1,g2,g3,g4,g5,g6,g7⟩ ⟨rfl,rfl⟩
    refine ⟨dq,(),(),b,26,t7,rfl,g4,by decide,by decide,by trivial,by trivial,fun r8 t8 Hc r80 r81 _ _ jc Cc=>⟨_,_,(),rfl,hz,p9 (by trivial) (by trivial),?_⟩⟩
    have eD:=jc.old D2 _ nD2 g1
    refine ⟨eD,cs++[97+(r8 % 26).toNat],t8,by rw [List.map_append];rfl,bf,by rw [List.length_append,g2];rfl,fun c hc=>?_,?_,by trivial,by trivial,(g7.trans jc).up hD2⟩
    ·rcases List.mem_append.mp hc with h | h
     ·exact g3 c h
     ·rw [List.mem_singleton.mp h];trivial
    have c':Ch Hc D2 (cs.map (fun c=>b8 [c])++[b8 [97+(r8 % 26).toNat]]) _:=Ch.mk'
    exact Cc.ch c' (Ne.symm nD2)
   rintro J4 ys ⟨cs,t7,rfl,g1,g2,g3,C4,g5,g6,j4⟩
   have e14:J4 D=some (.lst (ls.map b8)):=j4.old D _ nDb (j3.old D _ nDb e1)
   refine ⟨(),.inl ⟨rfl,_,aE.of e14⟩,(),(),(),_,(),rfl,.inl ⟨by decide,by decide⟩,_,(),rfl,_,(),rfl,(by show (0:Int)<26;decide),_,_,(),rfl,hz,p9 (by trivial) (by trivial),rfl,(),D2,cs.map (fun c=>[c]),?_,rfl,aE.of (by rw [g1,List.map_map];rfl),?_,?_⟩
   ·rw [show (Str.ofString "")=S [] from BZ]
   ·rw [List.map_map]
    have:(cs.map ((fun l:List Nat=>l.length) ∘ fun c=>[c])).sum=cs.length:=by
     clear g1 g2 g3 j4
     induction cs with
     | nil=>rfl
     | cons c r ih=>simp at ih ⊢;trivial
    rw [this];trivial
   have fl:(cs.map (fun c=>[c])).flatten=cs:=by
    clear g1 g2 g3 j4
    induction cs with
    | nil=>rfl
    | cons c r ih=>rw [List.map_cons,List.flatten_cons,ih];rfl
   rw [fl]
   refine ⟨[97+(((f+11*(0+(i:Int))) % 26) % 26).toNat],cs,rfl,rfl,?_,D,_,(),rfl,e14,?_,fun J5 c5=>nB _ _ ?_⟩
   ·simp;trivial
   ·rw [List.length_map];trivial
   have hs5:ar (Eb b) H J5:=((s'.trans j3).trans j4).ch c5 m1.fr
   refine ⟨_,_,ls++[[97+(((f+11*(0+(i:Int))) % 26) % 26).toNat]++cs],t7,rfl,?_,?_,?_,C4.ch c5 (Ne.symm nDb),by trivial,by trivial,hs5⟩
   ·rw [c5.at',List.map_append];rfl
   ·rw [List.length_append,e2];rfl
   ·have:=nmi.snoc (cs:=cs) (by trivial) g3
    rw [e2] at this
    exact this
  by_cases c:r=0
  ·rw [decide_eq_true (show V.int r=V.int 0 by rw [c])]
   refine aa ⟨(),_,(),rfl,fin _ of_decide_eq_true⟩
  ·rw [decide_eq_false (show ¬V.int r=V.int 0 from fun z=>c (by injection z))]
   exact ah (fin _ fun z=>by cases z)
end
end K53
namespace K53
open PySem L2
set_option maxHeartbeats 4000000
section
variable {P:Program}{w:World}{K:PySem.W.Frag}{mg:Str→Option Value}{base:Heap}
theorem Bz {d:Int} (h0:0<d) (h1:d≤1000000):Sz 9000 d:=Sz.mono (m:=40) (by show d.natAbs<1099511627776;trivial) (by decide)
inductive Hj (vs:List V) (H:Hp) (Q:VK):Prop
 | mk (n d:Int) (h0:vs=[.int n,.int d]) (h1:0<d) (h2:Sz 9000 d) (h3:∀p H',Nw H p (fr (KM.low n d)) H'→Q (.ref p) H')
def IP:Sp:=fun vs H Q _=>Hj  vs H Q
theorem tq (T:Txt K mg):bt P w K mg base CX0 1 T.l_fr_.f T.l_fr_.d ["_law_top", "_law_bottom"] IP:=by
 refine T.l_fr_.F.ok qZ (fun vs H Q E h=>?_) (fun cdv A outer s H vs Q E hr h=>?_)
 ·obtain ⟨n,d,rfl,_⟩:=h
  rfl
 ·obtain ⟨n,d,rfl,hd,hs,k⟩:=h
  have hl:=hs.log (Int.ne_of_gt hd)
  refine ⟨_,#[#[iq 2 (2) (3) _ _ _ _ _ _ _ _ _ _ _ rfl qZ.nd rfl rfl (by decide) gM fy #[[#[(),(),(@lY _),sQ,T.b_abs,(@iY),#[[#[0,qS]]]],#[(),(),(@lY _),sQ,T.b_abs,(@iY),#[[#[1,jf]]]]]] (by kernel_rfl) (by rfl)] :: #[#[xj 6 PassesOwn.never #[au 8 (@oz _) #[3,fy] #[()] #[(),()]] #[ac 3 #[iq 2 (2) (3) _ _ _ _ _ _ _ _ _ _ _ rfl qZ.nd rfl rfl (by decide) gM fy #[[#[3,fy],#[aj 8 (@je _) #[2,gM] #[3,fy]]]] (by kernel_rfl) (by rfl)]]] :: #[#[4,qZ.nd,mX,#[iH 8 #[au 8 (@oz _) #[1,jf] #[()] #[(),()]] #[2,gM] #[mI 6 (@lP _) #[2,gM]]]] :: #[ac 3 #[ai 4 #[ae 5 #[[#[aj 8 (@xT _) #[0,qS] #[4,mX]],#[aj 8 (@xT _) #[1,jf] #[4,mX]]]]]]]]]],?_⟩
  refine ⟨(),(),(),(),_,(),?_⟩
  refine ⟨fun m σ H'=>∃a b:Int,σ=[some (.int n),some (.int d),some (.int a),some (.int b),none]∧H'=H∧0≤a∧0≤b∧Int.gcd a b=Int.gcd n d∧m=b.natAbs,⟨_,_,(),rfl,xb n,xb d,KM.gcd_abs n d,rfl⟩,?_⟩
  rintro m σ H' ⟨a,b,rfl,rfl,ha,hb,hg,rfl⟩
  refine ⟨(),_,(),rfl,(),?_⟩
  by_cases hb0:0<b
  ·rw [decide_eq_true hb0]
   refine aa ⟨fun σ' H''=>∃a' b':Int,σ'=[some (.int n),some (.int d),some (.int a'),some (.int b'),none]∧H''=H'∧0≤a'∧0≤b'∧Int.gcd a' b'=Int.gcd n d∧b'.natAbs<b.natAbs,?_,?_⟩
   ·rintro σ' H'' ⟨a',b',rfl,rfl,h0,h1,h2,h3⟩
    exact ⟨_,h3,a',b',rfl,rfl,h0,h1,h2,rfl⟩
   ·refine ⟨(),(),(),_,(),rfl,hb0,_,(),?_⟩
    have q0:=Int.emod_nonneg a (Int.ne_of_gt hb0)
    have q1:=Int.emod_lt_of_pos a hb0
    exact ⟨b,a % b,rfl,rfl,hb,q0,(KM.gcd_emod a b).trans hg,by trivial⟩
  ·have hb1:b=0:=by trivial
   subst hb1
   rw [decide_eq_false hb0]
   refine ah ?_
   have eg:a=((Int.gcd n d:Nat):Int):=by
    rw [←hg,KM.gcd_zero_abs,if_neg (by trivial)]
   have c1:=DO (n:=n) (Int.ne_of_gt hd) hl
   rw [←eg] at c1
   refine ⟨(),_,(),rfl,(),?_⟩
   rw [decide_eq_true hd]
   refine aa ⟨(),?_⟩
   refine ⟨(),(),_,(),rfl,c1,(),(),_,(),rfl,⟨c1.1,c1.2⟩,(by show 2≤10000;decide),fun p H2 n2=>k p H2 ?_⟩
   unfold KM.low
   rw [if_pos hd,←eg]
   exact n2
theorem Dm {a b:Nat}{n d:Int} (h1:n.natAbs<2 ^ a) (h2:d.natAbs<2 ^ b) (h3:1≤d):Gb a b (n,d):=⟨h1,h2,h3⟩
theorem w9 {n d:Int}{a c:Nat} (h0:0≤n) (h1:n.natAbs<2 ^ a) (h2:1≤d) (h3:d.natAbs<2 ^ c):Gb a c (KM.low n d)∧0≤(KM.low n d).1∧(1≤n→1≤(KM.low n d).1)∧Int.gcd (KM.low n d).1 (KM.low n d).2=1:=
 ⟨Fw h1 h3 (by trivial),Int.not_lt.mp fun z=>by have:=(KM.low_sgn (n:=n) (d:=d) (by trivial)).2.mp z;trivial,fun hn=>(KM.low_sgn (by trivial)).1.mpr (by trivial),(KM.low_spec n d (by trivial)).2.2.1⟩
inductive Ho (a c:Nat) (lo:Int) (vs:List V) (H:Hp) (Q:VK):Prop
 | mk (b:Addr) (t:Int) (h0:vs=[.ref b]) (h1:Bx H b t) (h2:0≤t) (h3:t≤900000) (h4:∀(o:Addr) (z:KM.Fra) (t':Int) (H':Hp),ar (Eb b) H H'→H' o=some (fr z)→Gb a c z→lo≤z.1→Int.gcd z.1 z.2=1→Bx H' b t'→t≤t'→t'≤t+3→Q (.ref o) H')
def Cd (a c:Nat) (lo:Int):Sp:=fun vs H Q _=>Ho a c lo vs H Q
theorem EW (T:Txt K mg):bt P w K mg base CX0 2 T.l_gain_.f T.l_gain_.d ["_law_box_here"] (Cd 6 6 1):=by
 have G_l_take:=#[(gU)]
 have G_l_fr:=#[(tq)]
 refine T.l_gain_.F.ok qr (fun vs H Q E h=>?_) (fun cdv A outer s H vs Q E hr h=>?_)
 ·obtain ⟨b,t,rfl,_⟩:=h
  rfl
 ·obtain ⟨b,t,rfl,B,ht0,ht1,k⟩:=h
  refine ⟨_,#[#[1,qr.nd,jX,#[G_l_take,jk,T.l_take_,#[[#[0,gy],#[()]]]]] :: #[#[aN 8 #[au 8 (@dQ _) #[1,jX] #[()] #[(),()]] #[ac 3 #[ai 4 #[ae 5 #[[#[()],#[()]]]]]] (@ay _)] :: #[#[2,qr.nd,gS,#[iH 8 #[au 8 (@dQ _) #[1,jX] #[()] #[(),()]] #[()] #[()]]] :: #[ac 3 #[ai 4 #[G_l_fr,vP,T.l_fr_,#[[#[aj 8 (@bJ _) #[()] #[G_l_take,jk,T.l_take_,#[[#[0,gy],#[2,gS]]]]],#[aj 8 (@bJ _) #[()] #[G_l_take,jk,T.l_take_,#[[#[0,gy],#[2,gS]]]]]]]]]]]]],?_⟩
  refine ⟨(),b,8,t,rfl,B,by decide,by decide,ht0,by trivial,fun wy t1 H1 w0 w1 h1a h1b s1 B1=>?_⟩
  refine ⟨(),_,(),rfl,(),gr (fun c=>?_) (fun c=>?_)⟩
  ·exact ⟨(by show 2≤10000;decide),fun o H2 n2=>k o (1,1) t1 H2 (s1.trans n2.sm.toE) n2.at' (Dm (by decide) (by decide) (by decide)) (by decide) (by decide) (B1.same n2.sm) (by trivial) (by trivial)⟩
  refine ⟨(),_,(),rfl,(),?_⟩
  refine gr (fun c2=>?_) (fun c2=>?_)
  ·refine ⟨(),(),b,12,t1,rfl,B1,by decide,by decide,by trivial,by trivial,fun r2 t2 H2 a20 a21 _ _ s2 B2=>⟨_,(),rfl,(),(),b,12,t2,rfl,B2,by decide,by decide,by trivial,by trivial,fun r3 t3 H3 a30 a31 _ _ s3 B3=>⟨_,(),rfl,_,(),by trivial,Bz (by trivial) (by trivial),fun o H4 n4=>?_⟩⟩⟩
   have L:=w9 (n:=1+r2) (d:=1+r3) (a:=6) (c:=6) (by trivial) (by show _<64;trivial) (by trivial) (by show _<64;trivial)
   exact k o _ t3 H4 (((s1.trans s2).trans s3).trans n4.sm.toE) n4.at' L.1 (L.2.2.1 (by trivial)) L.2.2.2 (B3.same n4.sm) (by trivial) (by trivial)
  ·refine ⟨(),(),b,60,t1,rfl,B1,by decide,by decide,by trivial,by trivial,fun r2 t2 H2 a20 a21 _ _ s2 B2=>⟨_,(),rfl,(),(),b,60,t2,rfl,B2,by decide,by decide,by trivial,by trivial,fun r3 t3 H3 a30 a31 _ _ s3 B3=>⟨_,(),rfl,_,(),by trivial,Bz (by trivial) (by trivial),fun o H4 n4=>?_⟩⟩⟩
   have L:=w9 (n:=1+r2) (d:=1+r3) (a:=6) (c:=6) (by trivial) (by show _<64;trivial) (by trivial) (by show _<64;trivial)
   exact k o _ t3 H4 (((s1.trans s2).trans s3).trans n4.sm.toE) n4.at' L.1 (L.2.2.1 (by trivial)) L.2.2.2 (B3.same n4.sm) (by trivial) (by trivial)
theorem zf (T:Txt K mg):bt P w K mg base CX0 2 T.l_much_.f T.l_much_.d ["_law_box_here"] (Cd 20 4 0):=by
 have G_l_take:=#[(gU)]
 have G_l_fr:=#[(tq)]
 refine T.l_much_.F.ok vA (fun vs H Q E h=>?_) (fun cdv A outer s H vs Q E hr h=>?_)
 ·obtain ⟨b,t,rfl,_⟩:=h
  rfl
 ·obtain ⟨b,t,rfl,B,ht0,ht1,k⟩:=h
  refine ⟨_,#[#[1,vA.nd,hZ,#[G_l_take,js,T.l_take_,#[[#[0,gA],#[()]]]]] :: #[#[aN 8 #[au 8 (@cY _) #[1,hZ] #[()] #[(),()]] #[ac 3 #[ai 4 #[ae 5 #[[#[()],#[()]]]]]] (@ay _)] :: #[#[aN 8 #[au 8 (@cY _) #[1,hZ] #[()] #[(),()]] #[ac 3 #[ai 4 #[ae 5 #[[#[aj 8 (@lK _) #[()] #[()]],#[()]]]]]] (@ay _)] :: #[ac 3 #[ai 4 #[G_l_fr,v0,T.l_fr_,#[[#[aj 8 (@bJ _) #[()] #[G_l_take,js,T.l_take_,#[[#[0,gA],#[()]]]]],#[iH 8 #[au 8 (@dQ _) #[1,hZ] #[()] #[(),()]] #[()] #[aj 8 (@bJ _) #[()] #[G_l_take,js,T.l_take_,#[[#[0,gA],#[()]]]]]]]]]]]]]],?_⟩
  refine ⟨(),b,8,t,rfl,B,by decide,by decide,ht0,by trivial,fun wy t1 H1 w0 w1 h1a h1b s1 B1=>?_⟩
  refine ⟨(),rfl,(),gr (fun c=>?_) (fun c=>?_)⟩
  ·exact ⟨(by show 2≤10000;decide),fun o H2 n2=>k o (0,1) t1 H2 (s1.trans n2.sm.toE) n2.at' (Dm (by decide) (by decide) (by decide)) (by decide) (by decide) (B1.same n2.sm) (by trivial) (by trivial)⟩
  refine ⟨(),rfl,(),gr (fun c'=>?_) (fun c'=>?_)⟩
  ·exact ⟨_,(),rfl,⟨by decide,by decide,by decide⟩,(by show 2≤10000;decide),fun o H2 n2=>k o ((10:Int) ^ (6:Int).toNat,1) t1 H2 (s1.trans n2.sm.toE) n2.at' (Dm (by nofun) (by decide) (by decide)) (by nofun) (by nofun) (B1.same n2.sm) (by trivial) (by trivial)⟩
  refine ⟨(),b,30,t1,rfl,B1,by decide,by decide,by trivial,by trivial,fun r2 t2 H2 a20 a21 _ _ s2 B2=>⟨_,(),rfl,(),_,(),rfl,(),gr (fun c2=>?_) (fun c2=>?_)⟩⟩
  ·exact ⟨_,(),by decide,(by exact Bz (by decide) (by decide)),fun o H4 n4=>have L:=w9 (n:=1+r2) (d:=1) (a:=20) (c:=4) (by trivial) (by show _<1048576;trivial) (by trivial) (by show _<16;decide);k o _ t2 H4 ((s1.trans s2).trans n4.sm.toE) n4.at' L.1 L.2.1 L.2.2.2 (B2.same n4.sm) (by trivial) (by trivial)⟩
  ·exact ⟨(),b,12,t2,rfl,B2,by decide,by decide,by trivial,by trivial,fun r3 t3 H3 a30 a31 _ _ s3 B3=>⟨_,(),rfl,_,(),by trivial,Bz (by trivial) (by trivial),fun o H4 n4=>have L:=w9 (n:=1+r2) (d:=1+r3) (a:=20) (c:=4) (by trivial) (by show _<1048576;trivial) (by trivial) (by show _<16;trivial);k o _ t3 H4 (((s1.trans s2).trans s3).trans n4.sm.toE) n4.at' L.1 L.2.1 L.2.2.2 (B3.same n4.sm) (by trivial) (by trivial)⟩⟩
theorem zt (T:Txt K mg):bt P w K mg base CX0 2 T.l_cost_.f T.l_cost_.d ["_law_box_here"] (Cd 5 7 0):=by
 have G_l_take:=#[(gU)]
 have G_l_fr:=#[(tq)]
 refine T.l_cost_.F.ok vC (fun vs H Q E h=>?_) (fun cdv A outer s H vs Q E hr h=>?_)
 ·obtain ⟨b,t,rfl,_⟩:=h
  rfl
 ·obtain ⟨b,t,rfl,B,ht0,ht1,k⟩:=h
  refine ⟨_,#[#[1,vC.nd,kg,#[G_l_take,jm,T.l_take_,#[[#[0,gp],#[()]]]]] :: #[#[aN 8 #[au 8 (@cY _) #[1,kg] #[()] #[(),()]] #[ac 3 #[ai 4 #[ae 5 #[[#[()],#[()]]]]]] (@ay _)] :: #[ac 3 #[ai 4 #[G_l_fr,vS,T.l_fr_,#[[#[G_l_take,jm,T.l_take_,#[[#[0,gp],#[()]]]],#[aj 8 (@bJ _) #[()] #[aj 8 (@ej _) #[G_l_take,jm,T.l_take_,#[[#[0,gp],#[()]]]] #[bV 9 (@iW _) wG T.b_int (@du) #[[#[bY 8 (@cY _) #[1,kg] #[()] #[(),()]]]] (by decide) (by decide) (by rfl) (by rfl)]]]]]]]]]],?_⟩
  refine ⟨(),b,4,t,rfl,B,by decide,by decide,ht0,by trivial,fun wy t1 H1 w0 w1 h1a h1b s1 B1=>?_⟩
  refine ⟨(),rfl,(),gr (fun c=>?_) (fun c=>?_)⟩
  ·exact ⟨(by show 2≤10000;decide),fun o H2 n2=>k o (0,1) t1 H2 (s1.trans n2.sm.toE) n2.at' (Dm (by decide) (by decide) (by decide)) (by decide) (by decide) (B1.same n2.sm) (by trivial) (by trivial)⟩
  refine ⟨(),b,25,t1,rfl,B1,by decide,by decide,by trivial,by trivial,fun r2 t2 H2 a20 a21 _ _ s2 B2=>⟨(),b,6,t2,rfl,B2,by decide,by decide,by trivial,by trivial,fun r3 t3 H3 a30 a31 _ _ s3 B3=>⟨(),rfl,.inr ⟨(),_,(),rfl,.inl ⟨by trivial,by trivial⟩,_,(),rfl,?_⟩⟩⟩⟩
  obtain ⟨z,ez,hz0,hz1⟩:∃z:Int,1+r3*(if decide (V.int wy=V.int 3)=true then 1 else 0)=z∧1≤z∧z≤100:=by
   by_cases c3:decide (V.int wy=V.int 3)=true
   ·rw [if_pos c3];exact ⟨(),by trivial,by trivial⟩
   ·rw [if_neg c3];exact ⟨(),by trivial,by trivial⟩
  refine ⟨r2,z,?_,by trivial,(by exact Bz (by trivial) (by trivial)),fun o H4 n4=>have L:=w9 (n:=r2) (d:=z) (a:=5) (c:=7) (by trivial) (by show _<32;trivial) (by trivial) (by show _<128;trivial);k o _ t3 H4 (((s1.trans s2).trans s3).trans n4.sm.toE) n4.at' L.1 L.2.1 L.2.2.2 (B3.same n4.sm) (by trivial) (by trivial)⟩
  rw [←ez]
  rfl
end
end K53
namespace K53
open PySem L2
set_option maxHeartbeats 8000000
structure mY where
 bg:List Nat
 en:List Nat
 mo:KM.Fra
 ga:KM.Fra
 pr:KM.Fra
 la:Nat
 op:List Int
structure oU where
 pl:List Nat
 mo:KM.Fra
 ke:KM.Fra
structure oZ where
 pl:List Nat
 ho:Nat
 mo:KM.Fra
 pr:KM.Fra
structure oV where
 pl:List Nat
 ho:Nat
 am:KM.Fra
structure di where
 pl:List (List Nat)
 hr:Nat
 ts:List mY
 ss:List oU
 ws:List oZ
 wi:List oV
def va (x:mY):PyData:=.tuple [.str (S x.bg),.str (S x.en),fh x.mo,fh x.ga,fh x.pr,.int (x.la:Int),.tuple (x.op.map .int)]
def rB (x:oU):PyData:=.tuple [.str (S x.pl),fh x.mo,fh x.ke]
def wN (x:oZ):PyData:=.tuple [.str (S x.pl),.int (x.ho:Int),fh x.mo,fh x.pr]
def x8 (x:oV):PyData:=.tuple [.str (S x.pl),.int (x.ho:Int),fh x.am]
def yN (d:di):PyData:=.tuple [.tuple (d.pl.map fun l=>.str (S l)),.int (d.hr:Int),.tuple (d.ts.map va),.tuple (d.ss.map rB),.tuple (d.ws.map wN),.tuple (d.wi.map x8)]
def Fr (c:Nat) (p:KM.Fra):Prop:=Fb c p.1 p.2
structure qJ (d:di) (x:mY):Prop where
 b:x.bg∈d.pl
 e:x.en∈d.pl
 m:Fr 24 x.mo
 m0:0≤x.mo.1
 g:Fr 24 x.ga
 p:Fr 7 x.pr
 l:x.la≤100
 mg:Gb 20 4 x.mo
 ol:x.op.length≤8
 ob:∀z∈x.op,0≤z∧z<8
 xe:x.bg≠x.en
 xg:1≤x.ga.1
 xp:0≤x.pr.1
 xr:x.op.Pairwise (· < ·)
 xh:∀z∈x.op,z<(d.hr:Int)
structure uc (d:di) (x:oU):Prop where
 b:x.pl∈d.pl
 m:Fr 24 x.mo
 m0:0≤x.mo.1
 k:Fr 24 x.ke
 mg:Gb 20 4 x.mo
 k0:0≤x.ke.1
 k1:x.ke.1≤x.ke.2
structure uq (d:di) (x:oZ):Prop where
 b:x.pl∈d.pl
 h:x.ho<d.hr
 m:Fr 24 x.mo
 m0:0≤x.mo.1
 p:Fr 7 x.pr
 mg:Gb 20 4 x.mo
 p0:0≤x.pr.1
structure uC (d:di) (x:oV):Prop where
 b:x.pl∈d.pl
 h:x.ho<d.hr
 a:Fr 24 x.am
 a0:1≤x.am.1
structure i4 (d:di):Prop where
 l1:1≤d.hr
 l8:d.hr≤8
 p5:d.pl.length≤5
 nd:d.pl.Nodup
 nm:∀l∈d.pl,pf l
 t8:d.ts.length≤8
 s5:d.ss.length≤5
 w5:d.ws.length≤5
 i7:d.wi.length≤7
 ts:∀x∈d.ts,qJ d x
 ss:∀x∈d.ss,uc d x
 ws:∀x∈d.ws,uq d x
 wi:∀x∈d.wi,uC d x
 sn:(d.ss.map (·.pl)).Nodup
theorem Bu {E:Addr→Prop}{H:Hp}:∀(ls:List Int),aG E H (ls.map V.int) (ls.map .int)
 | []=>.nil
 | l :: ls=>.cons (.int _) (Bu ls)
section
variable {P:Program}{w:World}{K:PySem.W.Frag}{mg:Str→Option Value}{base:Heap}
end
end K53
namespace K53
open PySem L2
set_option maxHeartbeats 8000000
theorem kF {n:Nat} (h:n≤1000):((n:Int)).natAbs.log2<9000:=Nat.lt_of_le_of_lt (Nat.log2_le_self _) (by trivial)
theorem qU {a c:Nat}{z:KM.Fra} (h:Gb a c z) (g:Int.gcd z.1 z.2=1) {e:Nat} (h1:a≤e) (h2:c≤e):Fr e z:=⟨h.n.mono h1,h.d.mono h2,h.pos,g⟩
def pd (ls:List (List Nat)):di:=⟨ls,0,[],[],[],[]⟩
def ph (ls:List (List Nat)) (hr:Nat):di:=⟨ls,hr,[],[],[],[]⟩
theorem Hq {α:Type}{l:List α} (h:l.Nodup) {i j:Nat} (hi:i<l.length) (hj:j<l.length) (ne:i≠j):l[i]≠l[j]:=by
 have p:=List.pairwise_iff_getElem.mp h
 rcases Nat.lt_or_ge i j with q | q
 ·exact p i j hi hj q
 ·exact fun e=>p j i hj hi (by trivial) e.symm
theorem Ek {j n:Nat}{g:Int}{jo:Nat} (h0:0≤g) (h1:g<(n:Int) - 1) (e:((j:Int)+1+g) % (n:Int)=(jo:Int)):j≠jo:=by
 rintro rfl
 rw [Int.emod_def] at e
 generalize ((j:Int)+1+g) / (n:Int)=q at e
 rcases (show 0<q∨q≤0 by trivial) with h | h
 ·have:=Int.mul_le_mul_of_nonneg_left (show 1≤q by trivial) (show (0:Int)≤n by trivial)
  trivial
 ·have:=Int.mul_le_mul_of_nonneg_left h (show (0:Int)≤n by trivial)
  trivial
section
variable {P:Program}{w:World}{K:PySem.W.Frag}{mg:Str→Option Value}{base:Heap}
inductive Ep (vs:List V) (H:Hp) (Q:VK):Prop
 | mk (b nl:Addr) (t:Int) (ls:List (List Nat)) (hr:Nat) (h0:vs=[.ref b,.ref nl,.int (hr:Int)]) (h1:Bx H b t) (h2:0≤t) (h3:t≤800000) (h4:H nl=some (.lst (ls.map b8))) (h5:nl≠b) (h6:2≤ls.length) (h7:ls.length≤10) (h8:hr≤8) (h9:ls.Nodup) (h10:∀v x t' H',ar (Eb b) H H'→bh ED H' v (va x)→qJ (ph ls hr) x→Bx H' b t'→t≤t'→t'≤t+40→Q v H')
def Gq:Sp:=fun vs H Q _=>Ep  vs H Q
theorem An (T:Txt K mg):bt P w K mg base CX0 3 T.l_day_tie_.f T.l_day_tie_.d ["_law_box_here", "_law_names_here", "_law_hours"] Gq:=by
 have G_l_take:=#[(gU)]
 have G_l_much:=#[(zf)]
 have G_l_gain:=#[(EW)]
 have G_l_cost:=#[(zt)]
 refine T.l_day_tie_.F.ok eh (fun vs H Q E h=>?_) (fun cdv A outer s H vs Q E hr h=>?_)
 ·obtain ⟨b,nl,t,ls,hr',rfl,_⟩:=h
  rfl
 ·obtain ⟨b,nl,t,ls,hr',rfl,B,ht0,ht1,hn,nnb,l2,l10,lh,nd,k⟩:=h
  refine ⟨_,#[#[iq 2 (3) (4) _ _ _ _ _ _ _ _ _ _ _ rfl eh.nd rfl rfl (by decide) ig gT #[[#[G_l_take,dD,T.l_take_,#[[#[0,bG],#[(),(),(@eI _ (K) (by rfl)),mL,T.b_len,(@bi),#[[#[1,cV]]]]]]],#[(),(),(@eI _ (K) (by rfl)),mL,T.b_len,(@bi),#[[#[1,cV]]]]]] (by kernel_rfl) (by rfl)] :: #[#[5,eh.nd,jG,#[aj 8 (@je _) #[aj 8 (@bJ _) #[aj 8 (@bJ _) #[3,ig] #[()]] #[G_l_take,dD,T.l_take_,#[[#[0,bG],#[aj 8 (@sY _) #[4,gT] #[()]]]]]] #[4,gT]]] :: #[#[iq 2 (6) (7) _ _ _ _ _ _ _ _ _ _ _ rfl eh.nd rfl rfl (by decide) kM kO #[[#[#[bU 4 #[[#[()],#[()],#[()],#[()],#[()],#[2,jD]]]][#[G_l_take,dD,T.l_take_,#[[#[0,bG],#[()]]]]]!],#[G_l_take,dD,T.l_take_,#[[#[0,bG],#[()]]]]]] (by kernel_rfl) (by rfl)] :: #[#[8,eh.nd,gB,#[bU 4 (@aC _)]] :: #[#[d8 8 PassesOwn.never rfl #[dU 6 rh T.b_range #[[#[2,jD]]] (by rfl)] #[9,eh.nd,kG] #[ac 3 #[aN 8 #[PW.pt 3 #[bd 7 #[au 8 (@oz _) #[7,kO] #[()] #[(),()]] #[bK 4 #[au 8 (@cY _) #[G_l_take,dD,T.l_take_,#[[#[0,bG],#[()]]]] #[()] #[(),()]]]]] #[ac 3 #[fC 4 (@dX _ (K) _ _ _ _ _ _ _ _ _ _ _ PySem.F.plainAttrs_list PySem.F.slot_list_append PySem.F.type_list_append (@cU _) #[8,gB] #[[#[9,kG]]] (by rfl) (by rfl) (by rfl) (by rfl) (by rfl) (by rfl)) (by rfl)]] (@ay _)]] (by intro _;rfl)] :: #[#[10,eh.nd,k8,#[ae 5 #[[#[#[1,cV][#[3,ig]]!],#[#[1,cV][#[5,jG]]!],#[G_l_much,qH,T.l_much_,#[[#[0,bG]]]],#[G_l_gain,p8,T.l_gain_,#[[#[0,bG]]]],#[G_l_cost,qq,T.l_cost_,#[[#[0,bG]]]]]]]] :: #[ac 3 #[ai 4 #[aj 8 (@cg _) #[10,k8] #[ae 5 #[[#[6,kM],#[bV 9 (@dh _ (K) (by rfl)) rm T.b_tuple (@aI) #[[#[8,gB]]] (by decide) (by decide) (by rfl) (by rfl)]]]]]]]]]]]]],?_⟩
  have ll:(ls.map b8).length=ls.length:=List.length_map ..
  refine CF fun Q0 n0=>⟨(),(),nl,(),.inl (aE.of hn),b,_,t,rfl,B,by trivial,kF (by trivial),by trivial,by trivial,fun j t1 H1 j0 j1 h1a h1b s1 B1=>⟨(),nl,(),.inl (aE.of (s1.old _ _ nnb hn)),n0 _ _ _ ?_⟩⟩
  obtain ⟨j,rfl⟩:=Int.eq_ofNat_of_zero_le j0
  have hn1:=s1.old _ _ nnb hn
  have hj:j<ls.length:=by trivial
  refine sw fun Q1 n1=>⟨(),_,(),rfl,(),(),_,(),rfl,b,_,t1,rfl,B1,by trivial,?_,by trivial,by trivial,fun g t2 H2 g0 g1 h2a h2b s2 B2=>⟨_,(),rfl,(),_,(),rfl,by trivial,n1 _ _ ?_⟩⟩
  ·rw [ll,show ((ls.length:Nat):Int) - 1=((ls.length - 1:Nat):Int) by trivial]
   exact kF (by trivial)
  obtain ⟨jo,ejo,hjo⟩:∃n:Nat,((j:Int)+1+g) % (((ls.map b8).length:Nat):Int)=(n:Int)∧n<ls.length:=⟨(((j:Int)+1+g) % (((ls.map b8).length:Nat):Int)).toNat,by
   rw [Int.toNat_of_nonneg (Int.emod_nonneg _ (by trivial))],by
   have h1:=Int.emod_nonneg ((j:Int)+1+g) (show (((ls.map b8).length:Nat):Int)≠0 by trivial)
   have h2:=Int.emod_lt_of_pos ((j:Int)+1+g) (show 0<(((ls.map b8).length:Nat):Int) by trivial)
   trivial⟩
  have hn2:=s2.old _ _ nnb hn1
  refine CF fun Q2 n2=>⟨(),(by show 6≤10000;decide),fun p3 H3 m3=>⟨(),b,6,t2,rfl,B2.same m3.sm,by decide,by decide,by trivial,by trivial,fun x t4 H4 x0 x1 h4a h4b s4 B4=>?_⟩⟩
  have n3b:p3≠b:=fun e=>B2.th (e▸m3.fr)
  obtain ⟨la,ela,hla⟩:∃la:Nat,gj [V.int 0,.int 0,.int 1,.int 1,.int 2,.int (hr':Int)] x=some (.int (la:Int))∧la≤8:=by
   rcases (show x=0∨x=1∨x=2∨x=3∨x=4∨x=5 by trivial) with rfl | rfl | rfl | rfl | rfl | rfl
   ·exact ⟨0,rfl,by trivial⟩
   ·exact ⟨0,rfl,by trivial⟩
   ·exact ⟨1,rfl,by trivial⟩
   ·exact ⟨1,rfl,by trivial⟩
   ·exact ⟨2,rfl,by trivial⟩
   ·exact ⟨hr',rfl,lh⟩
  refine ⟨p3,_,_,(),rfl,aE.of (s4.old _ _ n3b m3.at'),ela,(),b,3,t4,rfl,B4,by decide,by decide,by trivial,by trivial,fun y t5 H5 y0 y1 h5a h5b s5 B5=>n2 _ _ _ ?_⟩
  have s25:ar (Eb b) H2 H5:=(m3.sm.toE.trans s4).trans s5
  have s05:ar (Eb b) H H5:=(s1.trans s2).trans s25
  have hn5:=s25.old _ _ nnb hn2
  refine cq fun D6 n6=>⟨(by show 0≤10000;decide),fun L H6 m6=>n6 _ _ ?_⟩
  have nLb:L≠b:=fun e=>B5.th (e▸m6.fr)
  have fL:H L=none:=s05.none nLb m6.fr
  have nnL:nl≠L:=fun e=>by
   have z:=m6.fr
   rw [←e,hn5] at z
   cases z
  refine cq fun D7 n7=>⟨(),(),by trivial,by trivial,gH (fun i σ H'=>lO fun (v9 v10:Option V) (op:List Int) (t':Int)=>σ=[some (.ref b),some (.ref nl),some (.int (hr':Int)),some (.int (j:Int)),some (.int (((ls.map b8).length:Nat):Int)),some (.int (((j:Int)+1+g) % (((ls.map b8).length:Nat):Int))),some (.int (la:Int)),some (.int y),some (.ref L),v9,v10]∧H' L=some (.lst (op.map V.int))∧(op.length≤i∧∀z∈op,0≤z∧z<8)∧(op.Pairwise (· < ·)∧∀z∈op,z<(i:Int))∧Bx H' b t'∧t5≤t'∧t'≤t5+i∧ar (Eb b) H H'∧H' nl=some (.lst (ls.map b8))) ⟨_,_,[],t5,rfl,m6.at',⟨Nat.le_refl _,fun z hz=>by cases hz⟩,⟨.nil,fun _ h=>nomatch h⟩,B5.same m6.sm,by trivial,by trivial,s05.trans m6.sm.toE,m6.sm _ _ hn5⟩ ?_ ?_⟩
  ·rintro i σ J hi ⟨v9,v10,op,t6,rfl,hL,⟨lo,lq⟩,⟨lr,lm⟩,BJ,h6a,h6b,sJ,hnJ⟩
   have hi8:i<8:=by trivial
   refine mw (t:=Cq _ _ _) fun DB nB=>?_
   have app:∀J1 t7,Bx J1 b t7→t6≤t7→t7≤t6+1→ar (Eb b) H J1→J1 L=some (.lst (op.map V.int))→J1 nl=some (.lst (ls.map b8))→∀J2,Ch J1 L (op.map V.int++[.int (0+(i:Int))]) J2→DB.nx [some (.ref b),some (.ref nl),some (.int (hr':Int)),some (.int (j:Int)),some (.int (((ls.map b8).length:Nat):Int)),some (.int (((j:Int)+1+g) % (((ls.map b8).length:Nat):Int))),some (.int (la:Int)),some (.int y),some (.ref L),some (.int (0+(i:Int))),v10] J2:=fun J1 t7 B1 ha hb s1 hL1 hn1 J2 c2=>by
    refine nB _ _ ⟨_,_,op++[0+(i:Int)],t7,rfl,by rw [c2.at',List.map_append];rfl,⟨by simp;trivial,fun z hz=>(List.mem_append.mp hz).elim (lq z) fun h=>by rw [List.mem_singleton.mp h];trivial⟩,⟨List.pairwise_append.mpr ⟨lr,List.pairwise_singleton _ _,fun u hu z hz=>by rw [List.mem_singleton.mp hz];have:=lm u hu;trivial⟩,fun z hz=>(List.mem_append.mp hz).elim (fun h=>by have:=lm z h;trivial) fun h=>by rw [List.mem_singleton.mp h];trivial⟩,B1.ch c2 (Ne.symm nLb),by trivial,by trivial,s1.ch c2 fL,c2.ol _ _ nnL hn1⟩
   have go:∀J1 t7,Bx J1 b t7→t6≤t7→t7≤t6+1→ar (Eb b) H J1→J1 L=some (.lst (op.map V.int))→J1 nl=some (.lst (ls.map b8))→DB.nx [some (.ref b),some (.ref nl),some (.int (hr':Int)),some (.int (j:Int)),some (.int (((ls.map b8).length:Nat):Int)),some (.int (((j:Int)+1+g) % (((ls.map b8).length:Nat):Int))),some (.int (la:Int)),some (.int y),some (.ref L),some (.int (0+(i:Int))),v10] J1:=fun J1 t7 B1 ha hb s1 hL1 hn1=>
    nB _ _ ⟨_,_,op,t7,rfl,hL1,⟨by trivial,lq⟩,⟨lr,fun z hz=>by have:=lm z hz;trivial⟩,B1,by trivial,by trivial,s1,hn1⟩
   refine ⟨(),_,(),rfl,(),gr (fun c=>⟨(),.inl ⟨rfl,_,aE.of hL⟩,(),L,_,(),rfl,hL,by rw [List.length_map];trivial,fun J2 c2=>app J t6 BJ (by trivial) (by trivial) sJ hL hnJ J2 c2⟩) fun c=>⟨(),b,2,t6,rfl,BJ,by decide,by decide,by trivial,by trivial,fun z t7 J1 z0 z1 h7a h7b s7 B7=>⟨rfl,(),gr (fun c=>⟨(),.inl ⟨rfl,_,aE.of (s7.old _ _ nLb hL)⟩,(),L,_,(),rfl,s7.old _ _ nLb hL,by rw [List.length_map];trivial,fun J2 c2=>app J1 t7 B7 (by trivial) (by trivial) (sJ.trans s7) (s7.old _ _ nLb hL) (s7.old _ _ nnb hnJ) J2 c2⟩) fun c=>go J1 t7 B7 (by trivial) (by trivial) (sJ.trans s7) (s7.old _ _ nLb hL) (s7.old _ _ nnb hnJ)⟩⟩⟩
  rintro σ J ⟨v9,v10,op,t6,rfl,hL,⟨lo,lq⟩,⟨lr,lm⟩,BJ,h6a,h6b,sJ,hnJ⟩
  refine n7 _ _ ?_
  have lo8:op.length≤8:=by trivial
  have e1:(ls.map b8)[j]?=some (b8 ls[j]):=by rw [List.getElem?_map,List.getElem?_eq_getElem hj];rfl
  have e2:(ls.map b8)[jo]?=some (b8 ls[jo]):=by rw [List.getElem?_map,List.getElem?_eq_getElem hjo];rfl
  have lt6:t6≤t5+8:=by trivial
  refine sw fun Q8 n8=>⟨(),(),nl,_,_,(),rfl,aE.of hnJ,kl e1,(),(),nl,_,_,(),rfl,aE.of hnJ,by rw [ejo];exact kl e2,(),b,t6,rfl,BJ,by trivial,by trivial,fun o1 z1 t7 J1 s7 ho1 g1' l1 c1 B7 h7a h7b=>⟨(),b,t7,rfl,B7,by trivial,by trivial,fun o2 z2 t8 J2 s8 ho2 g2' l2' c2 B8 h8a h8b=>⟨(),b,t8,rfl,B8,by trivial,by trivial,fun o3 z3 t9 J3 s9 ho3 g3' l3 c3 B9 h9a h9b=>⟨(by show 5≤10000;decide),fun q4 J4 m4=>n8 _ _ ?_⟩⟩⟩⟩
  have s14:ar (Eb b) J1 J4:=(s8.trans s9).trans m4.sm.toE
  have s24:ar (Eb b) J2 J4:=s9.trans m4.sm.toE
  have s04:ar (Eb b) J J4:=s7.trans s14
  refine ⟨(),(),(),L,(),aE.of (s04.old _ _ nLb hL),fun q5 J5 m5=>⟨(by show 2≤10000;decide),fun q6 J6 m6'=>⟨q4,q6,_,(),rfl,(m5.sm.trans m6'.sm) _ _ m4.at',m6'.at',(by show 5+2≤10000;decide),fun q7 J7 s7' h7'=>?_⟩⟩⟩
  have s47:ad J4 J7:=(m5.sm.trans m6'.sm).trans s7'
  have h7':J7 q7=some (.tup [b8 ls[j],b8 ls[jo],.ref o1,.ref o2,.ref o3,.int (la:Int),.ref q5]):=h7'
  let xx:mY:=⟨ls[j],ls[jo],z1,z2,z3,la,op⟩
  refine k _ xx t9 J7 (sJ.trans (s04.trans s47.toE)) ?_ ⟨List.getElem_mem hj,List.getElem_mem hjo,qU g1' c1 (by decide) (by decide),l1,qU g2' c2 (by decide) (by decide),qU g3' c3 (by decide) (by decide),by show la≤100;trivial,g1',lo8,lq,?_,l2',l3,lr,fun z hz=>by have:=lm z hz;show z<(hr':Int);trivial⟩ ((B9.same m4.sm).same s47) (by trivial) (by trivial)
  ·exact .tup h7' (.cons (.str _) (.cons (.str _) (.cons (rG (s47 _ _ (s14.tup _ _ ho1))) (.cons (rG (s47 _ _ (s24.tup _ _ ho2))) (.cons (rG (s47 _ _ (m4.sm _ _ ho3))) (.cons (.int _) (.cons (.tup ((m6'.sm.trans s7') _ _ m5.at') (Bu _)) .nil)))))))
  ·exact Hq nd hj hjo (Ek (n:=ls.length) g0 (by rw [ll] at g1;trivial) (by rw [←ejo,ll]))
end
end K53
namespace K53
open PySem L2
set_option maxHeartbeats 16000000
def jP (H:Hp) (a:Addr) (ds:List PyData):Prop:=∃xs,H a=some (.lst xs)∧aG ED H xs ds
theorem jP.keep {E:Addr→Prop}{H H':Hp}{a:Addr}{ds:List PyData} (h:jP H a ds) (s:ar E H H') (n:¬E a):jP H' a ds:=by
 obtain ⟨xs,h1,h2⟩:=h
 exact ⟨xs,s.old _ _ n h1,h2.mono (iP s.tup)⟩
theorem jP.app {H H':Hp}{a:Addr}{ds:List PyData}{xs:List V}{v:V}{d:PyData} (hx:H a=some (.lst xs)) (ha:aG ED H xs ds) (hv:bh ED H v d) (c:Ch H a (xs++[v]) H'):jP H' a (ds++[d]):=
 ⟨_,c.at',(ha.append (.cons hv .nil)).mono (iP fun b us e=>c.tup e hx)⟩
theorem xX {H H':Hp}{a:Addr}{xs ys:List V} (hx:H a=some (.lst ys)) (c:Ch H a xs H'):ar (fun b=>b=a) H H':=⟨fun b o n h=>c.ol b o n h,fun b us h=>c.tup h hx⟩
theorem vL {α β:Type} (f:α→β) (l:List α) (j:Nat):(l.map f).eraseIdx j=(l.eraseIdx j).map f:=(u7 f l j).symm
theorem rC {E:Addr→Prop}{H:Hp}:∀(n:Nat) {xs:List V}{ds:List PyData},aG E H xs ds→aG E H (xs.take n) (ds.take n)
 | 0,_,_,_=>.nil
 | n+1,_,_,.nil=>.nil
 | n+1,_,_,.cons h r=>.cons h (rC n r)
theorem qJ.of {d e:di}{x:mY} (h:qJ d x) (q:d.pl=e.pl) (r:d.hr=e.hr):qJ e x:=⟨q▸h.b,q▸h.e,h.m,h.m0,h.g,h.p,h.l,h.mg,h.ol,h.ob,h.xe,h.xg,h.xp,h.xr,r▸h.xh⟩
theorem BI {n:Int} (h0:0≤n) (h1:n≤12):0≤(KM.low n 12).1∧(KM.low n 12).1≤(KM.low n 12).2:=by
 rcases (show n=0∨n=1∨n=2∨n=3∨n=4∨n=5∨n=6∨n=7∨n=8∨n=9∨n=10∨n=11∨n=12 by trivial) with rfl | rfl | rfl | rfl | rfl | rfl | rfl | rfl | rfl | rfl | rfl | rfl | rfl <;> decide
theorem Ec {n e:Int} (h0:1≤n) (h1:1≤e):1≤(KM.low n e).1:=by
 obtain ⟨a,b,_⟩:=KM.low_spec n e (by trivial)
 rcases (show 1≤(KM.low n e).1∨(KM.low n e).1≤0 by trivial) with h | h
 ·exact h
 ·have h2:=Int.mul_le_mul_of_nonneg_right h (show 0≤e by trivial)
  have h3:=Int.mul_pos (show 0<n by trivial) (show 0<(KM.low n e).2 by trivial)
  rw [b,Int.zero_mul] at h2
  trivial
theorem uc.of {d e:di}{x:oU} (h:uc d x) (q:d.pl=e.pl):uc e x:=⟨q▸h.b,h.m,h.m0,h.k,h.mg,h.k0,h.k1⟩
theorem uq.of {d e:di}{x:oZ} (h:uq d x) (q:d.pl=e.pl) (r:d.hr=e.hr):uq e x:=⟨q▸h.b,r▸h.h,h.m,h.m0,h.p,h.mg,h.p0⟩
theorem uC.of {d e:di}{x:oV} (h:uC d x) (q:d.pl=e.pl) (r:d.hr=e.hr):uC e x:=⟨q▸h.b,r▸h.h,h.a,h.a0⟩
structure Dw (H0:Hp) (b nl L6 L7 L8 L9:Addr) (ls:List (List Nat)) (ts:List mY) (ss:List oU) (ws:List oZ) (wi:List oV) (t:Int) (H:Hp):Prop where
 se:ar (Eb b) H0 H
 bx:Bx H b t
 nl:H nl=some (.lst (ls.map b8))
 a6:jP H L6 (ts.map va)
 a7:jP H L7 (ss.map rB)
 a8:jP H L8 (ws.map wN)
 a9:jP H L9 (wi.map x8)
structure Ds (H0:Hp) (b nl L6 L7 L8 L9:Addr):Prop where
 nb:nl≠b∧L6≠b∧L7≠b∧L8≠b∧L9≠b
 n6:nl≠L6∧L7≠L6∧L8≠L6∧L9≠L6
 n7:nl≠L7∧L8≠L7∧L9≠L7
 n8:nl≠L8∧L9≠L8
 n9:nl≠L9
 f:H0 L6=none∧H0 L7=none∧H0 L8=none∧H0 L9=none
section
variable {H0:Hp}{b nl L6 L7 L8 L9:Addr}{ls:List (List Nat)}{ts:List mY}{ss:List oU}{ws:List oZ}{wi:List oV}{t t':Int}{H H':Hp}
theorem Dw.box (d:Dw H0 b nl L6 L7 L8 L9 ls ts ss ws wi t H) (n:Ds H0 b nl L6 L7 L8 L9) (s:ar (Eb b) H H') (B:Bx H' b t'):Dw H0 b nl L6 L7 L8 L9 ls ts ss ws wi t' H':=
 ⟨d.se.trans s,B,s.old _ _ n.nb.1 d.nl,d.a6.keep s n.nb.2.1,d.a7.keep s n.nb.2.2.1,d.a8.keep s n.nb.2.2.2.1,d.a9.keep s n.nb.2.2.2.2⟩
theorem Dw.sm (d:Dw H0 b nl L6 L7 L8 L9 ls ts ss ws wi t H) (n:Ds H0 b nl L6 L7 L8 L9) (s:ad H H'):Dw H0 b nl L6 L7 L8 L9 ls ts ss ws wi t H':=d.box n s.toE (d.bx.same s)
theorem qd {a:Addr} (s:ar (Eb b) H0 H) (f:H0 a=none) (c:ar (fun x=>x=a) H H'):ar (Eb b) H0 H':=
 ⟨fun x o n h=>c.old x o (fun e=>by rw [e,f] at h;cases h) (s.old x o n h),fun x us h=>c.tup _ _ (s.tup _ _ h)⟩
end
section
variable {P:Program}{w:World}{K:PySem.W.Frag}{mg:Str→Option Value}{base:Heap}
inductive Ee (vs:List V) (H:Hp) (Q:VK):Prop
 | mk (b:Addr) (t:Int) (h0:vs=[.ref b]) (h1:Bx H b t) (h2:0≤t) (h3:t≤700000) (h4:∀v d t' H',ar (Eb b) H H'→bh ED H' v (yN d)→i4 d→d.ws.length≤4→d.wi.length≤6→1≤d.ws.length→Bx H' b t'→t≤t'→t'≤t+1500→Q v H')
def Gj:Sp:=fun vs H Q _=>Ee  vs H Q
theorem DF (T:Txt K mg):bt P w K mg base CX0 4 T.l_day_.f T.l_day_.d ["_law_box_here"] Gj:=by
 have G_l_take:=#[(gU)]
 have G_l_much:=#[(zf)]
 have G_l_cost:=#[(zt)]
 have G_l_fr:=#[(tq)]
 have G_l_names:=#[(Cb)]
 have G_l_day_tie:=#[(An)]
 refine T.l_day_.F.ok bR (fun vs H Q E h=>?_) (fun cdv A outer s H vs Q E hr h=>?_)
 ·obtain ⟨b,t,rfl,_⟩:=h
  rfl
 ·obtain ⟨b,t,rfl,B,ht0,ht1,k⟩:=h
  refine ⟨_,#[#[Ex 2 (1) (2) (3) _ _ _ _ _ _ _ _ _ _ _ _ _ _ rfl bR.nd rfl rfl rfl (by decide) (by decide) (by decide) cN cO cA #[[#[G_l_take,aY,T.l_take_,#[[#[0,aw],#[()]]]],#[aj 8 (@bJ _) #[()] #[G_l_take,aY,T.l_take_,#[[#[0,aw],#[()]]]]],#[aj 8 (@bJ _) #[()] #[G_l_take,aY,T.l_take_,#[[#[0,aw],#[()]]]]]]] (by kernel_rfl) (by rfl)] :: #[#[4,bR.nd,gu,#[()]] :: #[#[aN 8 #[au 8 (@cY _) #[1,cN] #[()] #[(),()]] #[ac 3 #[gK 6 #[ae 5 #[[#[()],#[()]]]] (@fP _ (K) _ _ _ _ (2) rfl #[aP 5 #[2,bR.nd,cO] #[aP 5 #[3,bR.nd,cA] (@fD _) (by rfl)] (by rfl)] (by rfl) (by rfl) (by rfl)) (by rfl) (by rfl) (by rfl)]] #[ac 3 #[aN 8 #[au 8 (@dQ _) #[1,cN] #[()] #[(),()]] #[ac 3 #[2,bR.nd,cO,#[()]]] #[ac 3 #[aN 8 #[au 8 (@dQ _) #[1,cN] #[()] #[(),()]] #[ac 3 #[iq 2 (3) (4) _ _ _ _ _ _ _ _ _ _ _ rfl bR.nd rfl rfl (by decide) cA gu #[[#[aj 8 (@bJ _) #[()] #[G_l_take,aY,T.l_take_,#[[#[0,aw],#[()]]]]],#[()]]] (by kernel_rfl) (by rfl)]] #[ac 3 #[aN 8 #[au 8 (@cY _) #[1,cN] #[()] #[(),()]] #[ac 3 #[3,bR.nd,cA,#[()]]] (@ay _)]]]]]]] :: #[#[gK 6 #[ae 5 #[[#[G_l_names,sN,T.l_names_,#[[#[0,aw],#[2,cO]]]],#[bU 4 (@aC _)],#[bU 4 (@aC _)],#[bU 4 (@aC _)],#[bU 4 (@aC _)]]]] (@fP _ (K) _ _ _ _ (5) rfl #[aP 5 #[5,bR.nd,cw] #[aP 5 #[6,bR.nd,j7] #[aP 5 #[7,bR.nd,iI] #[aP 5 #[8,bR.nd,ji] #[aP 5 #[9,bR.nd,iJ] (@fD _) (by rfl)] (by rfl)] (by rfl)] (by rfl)] (by rfl)] (by rfl) (by rfl) (by rfl)) (by rfl) (by rfl) (by rfl)] :: #[#[d8 8 PassesOwn.never rfl #[dU 6 iw T.b_range #[[#[aj 8 (@ej _) #[aj 8 (@bJ _) #[aj 8 (@bJ _) #[()] #[G_l_take,aY,T.l_take_,#[[#[0,aw],#[4,gu]]]]] #[aj 8 (@ej _) #[()] #[bV 9 (@iW _) kn T.b_int (@du) #[[#[bY 8 (@cY _) #[1,cN] #[()] #[(),()]]]] (by decide) (by decide) (by rfl) (by rfl)]]] #[bV 9 (@iW _) kn T.b_int (@du) #[[#[bY 8 (@oz _) #[2,cO] #[()] #[(),()]]]] (by decide) (by decide) (by rfl) (by rfl)]]]] (by rfl)] #[10,bR.nd,ko] #[ac 3 #[fC 4 (@dX _ (K) _ _ _ _ _ _ _ _ _ _ _ PySem.F.plainAttrs_list PySem.F.slot_list_append PySem.F.type_list_append (@cU _) #[6,j7] #[[#[G_l_day_tie,rz,T.l_day_tie_,#[[#[0,aw],#[5,cw],#[3,cA]]]]]] (by rfl) (by rfl) (by rfl) (by rfl) (by rfl) (by rfl)) (by rfl)]] (by intro _;rfl)] :: #[#[11,bR.nd,jM,#[bV 9 (@fX _ (K) (by rfl)) xi T.b_list (@d9) #[[#[5,cw]]] (by decide) (by decide) (by rfl) (by rfl)]] :: #[#[d8 8 PassesOwn.never rfl #[dU 6 iw T.b_range #[[#[(),(),(@Bt _ rfl),yj,T.b_min,(@zQ),#[[#[2,cO],#[aj 8 (@bJ _) #[G_l_take,aY,T.l_take_,#[[#[0,aw],#[()]]]] #[aj 8 (@ej _) #[()] #[bV 9 (@iW _) kn T.b_int (@du) #[[#[bY 8 (@cY _) #[1,cN] #[()] #[(),()]]]] (by decide) (by decide) (by rfl) (by rfl)]]]]]]]] (by rfl)] #[10,bR.nd,ko] #[#[12,bR.nd,nN,#[#[bU 4 #[[#[ae 5 #[[#[()],#[()]]]],#[ae 5 #[[#[()],#[()]]]],#[ae 5 #[[#[()],#[()]]]],#[ae 5 #[[#[()],#[()]]]],#[G_l_fr,qC,T.l_fr_,#[[#[G_l_take,aY,T.l_take_,#[[#[0,aw],#[()]]]],#[()]]]]]]][#[G_l_take,aY,T.l_take_,#[[#[0,aw],#[()]]]]]!]] :: #[ac 3 #[fC 4 (@dX _ (K) _ _ _ _ _ _ _ _ _ _ _ PySem.F.plainAttrs_list PySem.F.slot_list_append PySem.F.type_list_append (@cU _) #[7,iI] #[[#[ae 5 #[[(@dX _ (K) _ _ _ _ _ _ _ _ _ _ _ PySem.F.plainAttrs_list PySem.F.slot_list_pop PySem.F.type_list_pop (@DM _) #[11,jM] #[[#[G_l_take,aY,T.l_take_,#[[#[0,aw],#[(),(),(@eI _ (K) (by rfl)),yg,T.b_len,(@bi),#[[#[11,jM]]]]]]]]] (by rfl) (by rfl) (by rfl) (by rfl) (by rfl) (by rfl)),#[G_l_much,ot,T.l_much_,#[[#[0,aw]]]],#[12,nN]]]]]] (by rfl) (by rfl) (by rfl) (by rfl) (by rfl) (by rfl)) (by rfl)]]] (by intro _;rfl)] :: #[#[d8 8 PassesOwn.never rfl #[dU 6 iw T.b_range #[[#[aj 8 (@bJ _) #[()] #[G_l_take,aY,T.l_take_,#[[#[0,aw],#[()]]]]]]] (by rfl)] #[10,bR.nd,ko] #[#[iq 2 (13) (14) _ _ _ _ _ _ _ _ _ _ _ rfl bR.nd rfl rfl (by decide) mS nE #[[#[#[5,cw][#[G_l_take,aY,T.l_take_,#[[#[0,aw],#[2,cO]]]]]!],#[G_l_take,aY,T.l_take_,#[[#[0,aw],#[3,cA]]]]]] (by kernel_rfl) (by rfl)] :: #[ac 3 #[fC 4 (@dX _ (K) _ _ _ _ _ _ _ _ _ _ _ PySem.F.plainAttrs_list PySem.F.slot_list_append PySem.F.type_list_append (@cU _) #[8,ji] #[[#[ae 5 #[[#[13,mS],#[14,nE],#[G_l_much,ot,T.l_much_,#[[#[0,aw]]]],#[G_l_cost,ub,T.l_cost_,#[[#[0,aw]]]]]]]]] (by rfl) (by rfl) (by rfl) (by rfl) (by rfl) (by rfl)) (by rfl)]]] (by intro _;rfl)] :: #[#[d8 8 PassesOwn.never rfl #[dU 6 iw T.b_range #[[#[aj 8 (@bJ _) #[G_l_take,aY,T.l_take_,#[[#[0,aw],#[()]]]] #[aj 8 (@ej _) #[()] #[bV 9 (@iW _) kn T.b_int (@du) #[[#[bY 8 (@cY _) #[1,cN] #[()] #[(),()]]]] (by decide) (by decide) (by rfl) (by rfl)]]]]] (by rfl)] #[10,bR.nd,ko] #[#[15,bR.nd,l9,#[G_l_fr,qC,T.l_fr_,#[[#[aj 8 (@bJ _) #[()] #[G_l_take,aY,T.l_take_,#[[#[0,aw],#[()]]]]],#[aj 8 (@bJ _) #[()] #[G_l_take,aY,T.l_take_,#[[#[0,aw],#[()]]]]]]]]] :: #[ac 3 #[fC 4 (@dX _ (K) _ _ _ _ _ _ _ _ _ _ _ PySem.F.plainAttrs_list PySem.F.slot_list_append PySem.F.type_list_append (@cU _) #[9,iJ] #[[#[ae 5 #[[#[#[5,cw][#[G_l_take,aY,T.l_take_,#[[#[0,aw],#[2,cO]]]]]!],#[G_l_take,aY,T.l_take_,#[[#[0,aw],#[3,cA]]]],#[15,l9]]]]]] (by rfl) (by rfl) (by rfl) (by rfl) (by rfl) (by rfl)) (by rfl)]]] (by intro _;rfl)] :: #[ac 3 #[ai 4 #[ae 5 #[[#[bV 9 (@dh _ (K) (by rfl)) fZ T.b_tuple (@aI) #[[#[5,cw]]] (by decide) (by decide) (by rfl) (by rfl)],#[3,cA],#[bV 9 (@dh _ (K) (by rfl)) fZ T.b_tuple (@aI) #[[#[aR 10 (@oE _ (K) (by rfl)) #[6,j7] (@be _) #[aU 3 #[()]]]]] (by decide) (by decide) (by rfl) (by rfl)],#[bV 9 (@dh _ (K) (by rfl)) fZ T.b_tuple (@aI) #[[#[7,iI]]] (by decide) (by decide) (by rfl) (by rfl)],#[bV 9 (@dh _ (K) (by rfl)) fZ T.b_tuple (@aI) #[[#[8,ji]]] (by decide) (by decide) (by rfl) (by rfl)],#[bV 9 (@dh _ (K) (by rfl)) fZ T.b_tuple (@aI) #[[#[9,iJ]]] (by decide) (by decide) (by rfl) (by rfl)]]]]]]]]]]]]]]],?_⟩
  refine cq fun D0 n0=>⟨(),b,16,t,rfl,B,by decide,by decide,by trivial,by trivial,fun kd t1 H1 kd0 kd1 h1a h1b s1 B1=>⟨(),b,2,t1,rfl,B1,by decide,by decide,by trivial,by trivial,fun x1 t2 H2 x10 x11 h2a h2b s2 B2=>⟨_,(),rfl,(),b,3,t2,rfl,B2,by decide,by decide,by trivial,by trivial,fun x2 t3 H3 x20 x21 h3a h3b s3 B3=>⟨_,(),rfl,_,_,(),n0 _ _ ?_⟩⟩⟩⟩
  have s03:ar (Eb b) H H3:=(s1.trans s2).trans s3
  obtain ⟨mn,emn,mn1,mn3⟩:∃n:Nat,2+x1=(n:Int)∧2≤n∧n≤3:=⟨(2+x1).toNat,by trivial,by trivial,by trivial⟩
  obtain ⟨hn,ehn,hn1,hn4⟩:∃n:Nat,2+x2=(n:Int)∧2≤n∧n≤4:=⟨(2+x2).toNat,by trivial,by trivial,by trivial⟩
  refine cq fun D1 n1=>n1 _ _ ?_
  refine HE (fun σ' H'=>∃(many hours mo:Nat) (t':Int) (v10 v11 v12 v13 v14 v15 v5 v6 v7 v8 v9:Option V),σ'=[some (.ref b),some (.int kd),some (.int (many:Int)),some (.int (hours:Int)),some (.int (mo:Int)),v5,v6,v7,v8,v9,v10,v11,v12,v13,v14,v15]∧1≤many∧many≤5∧1≤hours∧hours≤8∧1≤mo∧mo≤4∧ar (Eb b) H H'∧Bx H' b t'∧t3≤t'∧t'≤t3+1) ?_ fun rest=>?_
  case refine_2=>
   refine ⟨(),rfl,(),gr (fun c=>⟨(by show 2≤10000;decide),fun p H4 m4=>⟨p,(),ak.of m4.at',rfl,_,(),_,(),rfl,rest _ _ ⟨5,2,4,t3,_,_,_,_,_,_,_,_,_,_,(),by trivial,by trivial,by trivial,by trivial,by trivial,by trivial,s03.trans m4.sm.toE,B3.same m4.sm,by trivial,by trivial⟩⟩⟩) fun c=>?_⟩
   refine ⟨(),_,(),rfl,(),gr (fun c=>rest _ _ ⟨1,hn,4,t3,_,_,_,_,_,_,_,_,_,_,_,(by rw [←ehn];rfl),by trivial,by trivial,by trivial,by trivial,by trivial,by trivial,s03,B3,by trivial,by trivial⟩) fun c=>?_⟩
   refine ⟨(),_,(),rfl,(),gr (fun c=>⟨(),b,4,t3,rfl,B3,by decide,by decide,by trivial,by trivial,fun x3 t4 H4 x30 x31 h4a h4b s4 B4=>⟨_,(),rfl,_,(),?_⟩⟩) fun c=>?_⟩
   ·obtain ⟨hh,ehh,hh1,hh8⟩:∃n:Nat,5+x3=(n:Int)∧1≤n∧n≤8:=⟨(5+x3).toNat,by trivial,by trivial,by trivial⟩
    exact rest _ _ ⟨mn,hh,2,t4,_,_,_,_,_,_,_,_,_,_,_,(by rw [←emn,←ehh];rfl),by trivial,by trivial,by trivial,by trivial,by trivial,by trivial,s03.trans s4,B4,by trivial,by trivial⟩
   refine ⟨(),rfl,(),gr (fun c=>rest _ _ ⟨mn,1,4,t3,_,_,_,_,_,_,_,_,_,_,_,(by rw [←emn];rfl),by trivial,by trivial,by trivial,by trivial,by trivial,by trivial,s03,B3,by trivial,by trivial⟩) fun c=>rest _ _ ⟨mn,hn,4,t3,_,_,_,_,_,_,_,_,_,_,_,(by rw [←emn,←ehn];rfl),by trivial,by trivial,by trivial,by trivial,by trivial,by trivial,s03,B3,by trivial,by trivial⟩⟩
  rintro σ' H4 ⟨many,hours,mo,t4,v10,v11,v12,v13,v14,v15,v5,v6,v7,v8,v9,rfl,mn1',mn5,hr1,hr8,mo1,mo4,s04,B4,h4a,h4b⟩
  refine cq fun D2 n2=>⟨(),(),b,(many:Int),t4,rfl,B4,by trivial,by trivial,by trivial,by trivial,fun nl ls t5 H5 fnl s5 hnl lls nm nd B5 h5a h5b=>⟨(by show 0≤10000;decide),fun L6 H6 m6=>⟨(by show 0≤10000;decide),fun L7 H7 m7=>⟨(by show 0≤10000;decide),fun L8 H8 m8=>⟨(by show 0≤10000;decide),fun L9 H9 m9=>⟨(by show 5≤10000;decide),fun q Ha ma=>⟨q,(),ak.of ma.at',rfl,_,(),_,(),_,(),_,(),_,(),rfl,n2 _ _ ?_⟩⟩⟩⟩⟩⟩⟩
  have nn:nl≠b:=fun e=>B4.th (e▸fnl)
  have s45:ar (Eb b) H4 H5:=s5
  have B9:Bx H9 b t5:=(((B5.same m6.sm).same m7.sm).same m8.sm).same m9.sm
  have s5a:ad H5 Ha:=(((m6.sm.trans m7.sm).trans m8.sm).trans m9.sm).trans ma.sm
  have fr5:∀{L:Addr},H5 L=none→H L=none:=fun {L} f=>(s04.trans s5).none (fun e=>B5.th (e▸f)) f
  have f6:=m6.fr
  have f7:H5 L7=none:=m6.sm.free m7.fr
  have f8:H5 L8=none:=(m6.sm.trans m7.sm).free m8.fr
  have f9:H5 L9=none:=((m6.sm.trans m7.sm).trans m8.sm).free m9.fr
  have neN:∀{G:Hp}{x y:Addr}{o:HO},G x=some o→G y=none→x≠y:=fun h f e=>by rw [e,f] at h;cases h
  have ds:Ds H b nl L6 L7 L8 L9:=⟨⟨nn,fun e=>B5.th (e▸f6),fun e=>B5.th (e▸f7),fun e=>B5.th (e▸f8),fun e=>B5.th (e▸f9)⟩,⟨neN hnl f6,Ne.symm (neN m6.at' m7.fr),Ne.symm (neN (m7.sm _ _ m6.at') m8.fr),Ne.symm (neN ((m7.sm.trans m8.sm) _ _ m6.at') m9.fr)⟩,⟨neN hnl f7,Ne.symm (neN m7.at' m8.fr),Ne.symm (neN (m8.sm _ _ m7.at') m9.fr)⟩,⟨neN hnl f8,Ne.symm (neN m8.at' m9.fr)⟩,neN hnl f9,fr5 f6,fr5 f7,fr5 f8,fr5 f9⟩
  have ll:(ls.map b8).length=many:=by rw [List.length_map,lls];trivial
  have lls':ls.length=many:=by rw [lls];trivial
  have dw0:Dw H b nl L6 L7 L8 L9 ls [] [] [] [] t5 Ha:=⟨(s04.trans s5).trans s5a.toE,B9.same ma.sm,s5a _ _ hnl,⟨[],(((m7.sm.trans m8.sm).trans m9.sm).trans ma.sm) _ _ m6.at',.nil⟩,⟨[],((m8.sm.trans m9.sm).trans ma.sm) _ _ m7.at',.nil⟩,⟨[],(m9.sm.trans ma.sm) _ _ m8.at',.nil⟩,⟨[],ma.sm _ _ m9.at',.nil⟩⟩
  have if01:∀c:Bool,0≤(if c=true then (1:Int) else 0)∧(if c=true then (1:Int) else 0)≤1:=fun c=>by cases c <;> decide
  refine cq fun D3 n3=>⟨(),(),b,(mo:Int),t5,rfl,dw0.bx,by trivial,kF (by trivial),by trivial,by trivial,fun x3 t6 Hb x30 x31 h6a h6b s6 B6=>?_⟩
  obtain ⟨N3,eN3,hN3,hN2⟩:∃N:Nat,(1+x3+7*(if decide (V.int kd=V.int 0)=true then (1:Int) else 0))*(if decide ((many:Int) > 1)=true then (1:Int) else 0)=(N:Int)∧N≤11∧(2≤many∨N=0):=by
   have e1:=if01 (decide (V.int kd=V.int 0))
   by_cases hm:(many:Int) > 1
   ·refine ⟨(1+x3+7*(if decide (V.int kd=V.int 0)=true then (1:Int) else 0)).toNat,?_,by trivial,.inl (by trivial)⟩
    rw [decide_eq_true hm,if_pos rfl,Int.mul_one]
    trivial
   ·refine ⟨0,?_,by trivial,.inr rfl⟩
    rw [decide_eq_false hm,if_neg Bool.false_ne_true,Int.mul_zero]
    rfl
  have e1k:=if01 (decide (V.int kd=V.int 0))
  refine ⟨_,(),rfl,(),rfl,.inr ⟨(),_,(),rfl,.inl ⟨by decide,by decide⟩,_,(),rfl,(),_,(),rfl,.inr ⟨(),_,(),rfl,.inl ⟨by trivial,by trivial⟩,(N3:Int),congrArg (fun z=>[V.int z]) eN3,by trivial,by trivial,?_⟩⟩⟩
  have dw1:=dw0.box ds s6 B6
  refine gH (fun i σ H'=>yS fun (v10 v11 v12 v13 v14 v15:Option V) (ts:List mY) (t':Int)=>σ=[some (.ref b),some (.int kd),some (.int (many:Int)),some (.int (hours:Int)),some (.int (mo:Int)),some (.ref nl),some (.ref L6),some (.ref L7),some (.ref L8),some (.ref L9),v10,v11,v12,v13,v14,v15]∧Dw H b nl L6 L7 L8 L9 ls ts [] [] [] t' H'∧ts.length=i∧(∀x∈ts,qJ (ph ls hours) x)∧t6≤t'∧t'≤t6+40*i) ⟨_,_,_,_,_,_,[],t6,rfl,dw1,rfl,(fun _ h=>nomatch h),by trivial,by trivial⟩ ?_ ?_
  ·rintro i σ J hi ⟨v10,v11,v12,v13,v14,v15,ts,t7,rfl,dw,lt,gt,h7a,h7b⟩
   have hi11:i<11:=by trivial
   obtain ⟨xs,h6,a6⟩:=id dw.a6
   have lx:=a6.length
   rw [List.length_map] at lx
   refine ⟨(),.inl ⟨rfl,_,aE.of h6⟩,(),(),(),b,nl,t7,ls,hours,rfl,dw.bx,by trivial,by trivial,dw.nl,ds.nb.1,by trivial,by trivial,hr8,nd,fun v x t8 J1 s8 dx gx B8 h8a h8b=>?_⟩
   have dw8:=dw.box ds s8 B8
   have h6':=s8.old _ _ ds.nb.2.1 h6
   refine ⟨L6,xs,v,rfl,rfl,h6',by trivial,fun J2 c2=>⟨_,_,_,_,_,_,ts++[x],t8,rfl,?_,by simp [lt],fun y hy=>?_,by trivial,by trivial⟩⟩
   ·have cE:=xX h6' c2
    refine ⟨qd dw8.se ds.f.1 cE,dw8.bx.ch c2 (Ne.symm ds.nb.2.1),cE.old _ _ ds.n6.1 dw8.nl,?_,dw8.a7.keep cE ds.n6.2.1,dw8.a8.keep cE ds.n6.2.2.1,dw8.a9.keep cE ds.n6.2.2.2⟩
    rw [List.map_append]
    exact jP.app h6' (a6.mono (iP s8.tup)) dx c2
   ·rcases List.mem_append.mp hy with h | h
    ·exact gt y h
    ·rw [List.mem_singleton.mp h];exact gx
  rintro σ J ⟨v10,v11,v12,v13,v14,v15,ts,t7,rfl,dw2,lt,gt,h7a,h7b⟩
  refine n3 _ _ ?_
  have t7b:t7≤t6+440:=by trivial
  refine sw fun Q4 n4=>⟨(),nl,(),.inl (aE.of dw2.nl),fun Lb Jb mb=>n4 _ _ ?_⟩
  have nLb:Lb≠b:=fun e=>dw2.bx.th (e▸mb.fr)
  have nL7:Lb≠L7:=by
   obtain ⟨_,h,_⟩:=dw2.a7
   exact Ne.symm (neN h mb.fr)
  have nL6:Lb≠L6:=by
   obtain ⟨_,h,_⟩:=dw2.a6
   exact Ne.symm (neN h mb.fr)
  have nL8:Lb≠L8:=by
   obtain ⟨_,h,_⟩:=dw2.a8
   exact Ne.symm (neN h mb.fr)
  have nL9:Lb≠L9:=by
   obtain ⟨_,h,_⟩:=dw2.a9
   exact Ne.symm (neN h mb.fr)
  have nLn:Lb≠nl:=Ne.symm (neN dw2.nl mb.fr)
  have fLb:H Lb=none:=dw2.se.none nLb mb.fr
  have dw3:=dw2.sm ds mb.sm
  refine cq fun D5 n5=>⟨(),(),b,3,t7,rfl,dw3.bx,by decide,by decide,by trivial,by trivial,fun x4 t8 Hc x40 x41 h8a h8b s8 B8=>?_⟩
  obtain ⟨N4,eN4,hN4⟩:∃N:Nat,(if x4+2*(if decide (V.int kd=V.int 0)=true then (1:Int) else 0)<(many:Int) then x4+2*(if decide (V.int kd=V.int 0)=true then (1:Int) else 0) else (many:Int))=(N:Int)∧N≤many:=by
   by_cases hc:x4+2*(if decide (V.int kd=V.int 0)=true then (1:Int) else 0)<(many:Int)
   ·exact ⟨(x4+2*(if decide (V.int kd=V.int 0)=true then (1:Int) else 0)).toNat,by rw [if_pos hc];trivial,by trivial⟩
   ·exact ⟨many,by rw [if_neg hc],Nat.le_refl _⟩
  refine ⟨(),rfl,.inr ⟨(),_,(),rfl,.inl ⟨by decide,by decide⟩,_,(),rfl,_,(),(N4:Int),congrArg (fun z=>[V.int z]) eN4,by trivial,by trivial,?_⟩⟩
  have dw4:=dw3.box ds s8 B8
  refine gH (fun i σ H'=>yS fun (v10 v12 v13 v14 v15:Option V) (ss:List oU) (rem:List (List Nat)) (t':Int)=>σ=[some (.ref b),some (.int kd),some (.int (many:Int)),some (.int (hours:Int)),some (.int (mo:Int)),some (.ref nl),some (.ref L6),some (.ref L7),some (.ref L8),some (.ref L9),v10,some (.ref Lb),v12,v13,v14,v15]∧Dw H b nl L6 L7 L8 L9 ls ts ss [] [] t' H'∧H' Lb=some (.lst (rem.map b8))∧rem.length=many - i∧(∀l∈rem,l∈ls)∧ss.length=i∧(∀x∈ss,uc (pd ls) x)∧(ss.map (·.pl)++rem).Nodup∧t8≤t'∧t'≤t8+20*i) ⟨_,_,_,_,_,[],ls,t8,rfl,dw4,s8.old _ _ nLb mb.at',by trivial,(fun l h=>h),rfl,(fun _ h=>nomatch h),nd,by trivial,by trivial⟩ ?_ ?_
  ·rintro i σ J1 hi ⟨v10,v12,v13,v14,v15,ss,rem,t9,rfl,dw,hR,lr,sr,lss,gs,ns,h9a,h9b⟩
   have hi5:i<5:=by trivial
   have him:i<many:=by trivial
   have lr':(rem.map b8).length=many - i:=by rw [List.length_map,lr]
   refine mw (t:=jV _ _) fun DB nB=>?_
   refine sw fun Qk nk=>⟨(by show 2≤10000;decide),fun o1 G1 k1=>⟨(by show 2≤10000;decide),fun o2 G2 k2=>⟨(by show 2≤10000;decide),fun o3 G3 k3=>⟨(by show 2≤10000;decide),fun o4 G4 k4=>?_⟩⟩⟩⟩
   have s14:ad J1 G4:=((k1.sm.trans k2.sm).trans k3.sm).trans k4.sm
   have B4':=dw.bx.same s14
   refine ⟨(),b,13,t9,rfl,B4',by decide,by decide,by trivial,by trivial,fun y1 ta G5 y10 y11 haa hab sa Ba=>⟨_,(),by decide,(show (12:Int).natAbs<2 ^ 9000 from Nat.lt_trans (by decide) (Nat.pow_lt_pow_right (by decide) (show 4<9000 by decide))),fun o5 G6 k6=>⟨(by show 5≤10000;decide),fun ol G7 k7=>⟨(),b,5,ta,rfl,(Ba.same k6.sm).same k7.sm,by decide,by decide,by trivial,by trivial,fun y2 tb G8 y20 y21 hba hbb sb Bb=>?_⟩⟩⟩⟩
   have nol:ol≠b:=fun e=>(Ba.same k6.sm).th (e▸k7.fr)
   have s58:ar (Eb b) G4 G8:=((sa.trans k6.sm.toE).trans k7.sm.toE).trans sb
   have f12:Fr 24 (KM.low y1 12):=Fb.low (by show y1.natAbs<2 ^ 24;trivial) (by show (12:Int).natAbs<2 ^ 24;decide) (by decide)
   obtain ⟨ok,pk,eok,hok,fk,fk0,fk1⟩:cj fun (ok:Addr) (pk:KM.Fra)=>gj [V.ref o1,.ref o2,.ref o3,.ref o4,.ref o5] y2=some (.ref ok)∧G8 ok=some (fr pk)∧Fr 24 pk∧0≤pk.1∧pk.1≤pk.2:=by
    have q1:G8 o1=some (fr (1,1)):=s58.tup _ _ (((k2.sm.trans k3.sm).trans k4.sm) _ _ k1.at')
    have q2:G8 o2=some (fr (1,2)):=s58.tup _ _ ((k3.sm.trans k4.sm) _ _ k2.at')
    have q3:G8 o3=some (fr (0,1)):=s58.tup _ _ (k4.sm _ _ k3.at')
    have q4:G8 o4=some (fr (9,10)):=s58.tup _ _ k4.at'
    have q5:G8 o5=some (fr (KM.low y1 12)):=sb.tup _ _ (k7.sm _ _ k6.at')
    rcases (show y2=0∨y2=1∨y2=2∨y2=3∨y2=4 by trivial) with rfl | rfl | rfl | rfl | rfl
    ·exact ⟨o1,(),q1,Fb.small (by decide) (by decide) (by decide) (by decide),by decide,by decide⟩
    ·exact ⟨o2,(),q2,Fb.small (by decide) (by decide) (by decide) (by decide),by decide,by decide⟩
    ·exact ⟨o3,(),q3,Fb.small (by decide) (by decide) (by decide) (by decide),by decide,by decide⟩
    ·exact ⟨o4,(),q4,Fb.small (by decide) (by decide) (by decide) (by decide),by decide,by decide⟩
    ·exact ⟨o5,(),q5,f12,BI y10 (by trivial)⟩
   refine ⟨ol,_,_,(),rfl,aE.of (sb.old _ _ nol k7.at'),eok,nk _ _ ?_⟩
   have s18:ar (Eb b) J1 G8:=s14.toE.trans s58
   have dw8:=dw.box ds s18 Bb
   have hR8:=s18.old _ _ nLb hR
   obtain ⟨zs,h7,a7⟩:=id dw8.a7
   have lz:=a7.length
   rw [List.length_map] at lz
   refine ⟨(),.inl ⟨rfl,_,aE.of h7⟩,(),.inl ⟨rfl,_,aE.of hR8⟩,(),(),Lb,(),.inl (aE.of hR8),b,_,tb,rfl,dw8.bx,by trivial,kF (by trivial),by trivial,by trivial,fun y3 tc G9 y30 y31 hca hcb sc Bc=>?_⟩
   obtain ⟨jr,rfl⟩:=Int.eq_ofNat_of_zero_le y30
   have hjr:jr<rem.length:=by trivial
   have ejr:(rem.map b8)[jr]?=some (b8 rem[jr]):=by rw [List.getElem?_map,List.getElem?_eq_getElem hjr];rfl
   refine ⟨Lb,_,jr,(),rfl,sc.old _ _ nLb hR8,by trivial,ejr,fun Ga ca=>?_⟩
   have dw9:=dw8.box ds sc Bc
   have hR9:=sc.old _ _ nLb hR8
   have cE:=xX hR9 ca
   have dwa:Dw H b nl L6 L7 L8 L9 ls ts ss [] [] tc Ga:=⟨qd dw9.se fLb cE,dw9.bx.ch ca (Ne.symm nLb),cE.old _ _ (Ne.symm nLn) dw9.nl,dw9.a6.keep cE (Ne.symm nL6),dw9.a7.keep cE (Ne.symm nL7),dw9.a8.keep cE (Ne.symm nL8),dw9.a9.keep cE (Ne.symm nL9)⟩
   refine ⟨(),b,tc,rfl,dwa.bx,by trivial,by trivial,fun om zm td Gb_ sd hom gm m0 cm Bd hda hdb=>⟨(),(by show 3≤10000;decide),fun q5 Gc kc=>?_⟩⟩
   have dwb:=dwa.box ds sd Bd
   have dwc:=dwb.sm ds kc.sm
   have s8c:ar (fun x=>x=b∨x=Lb) G8 Gc:=⟨fun a o n h=>kc.sm _ _ (sd.old _ _ (fun e=>n (.inl e)) (cE.old _ _ (fun e=>n (.inr e)) (sc.old _ _ (fun e=>n (.inl e)) h))),fun a us h=>kc.sm _ _ (sd.tup _ _ (cE.tup _ _ (sc.tup _ _ h)))⟩
   have h7c:=s8c.old _ _ (by rintro (e | e);exact ds.nb.2.2.1 e;exact nL7 e.symm) h7
   refine ⟨L7,zs,(),rfl,h7c,by trivial,fun Gd cd=>nB _ _ ?_⟩
   have cE2:=xX h7c cd
   let xx:oU:=⟨rem[jr],zm,pk⟩
   have dx:bh ED Gc (.ref q5) (rB xx):=.tup kc.at' (.cons (.str _) (.cons (rG (kc.sm _ _ hom)) (.cons (rG (s8c.tup _ _ hok)) .nil)))
   refine ⟨_,_,_,_,_,ss++[xx],rem.eraseIdx jr,td,rfl,⟨qd dwc.se ds.f.2.1 cE2,dwc.bx.ch cd (Ne.symm ds.nb.2.2.1),cE2.old _ _ ds.n7.1 dwc.nl,dwc.a6.keep cE2 (Ne.symm ds.n6.2.1),?_,dwc.a8.keep cE2 ds.n7.2.1,dwc.a9.keep cE2 ds.n7.2.2⟩,?_,?_,?_,by simp [lss],?_,?_,by trivial,by trivial⟩
   ·rw [List.map_append]
    exact jP.app h7c (a7.mono (iP s8c.tup)) dx cd
   ·refine cE2.old _ _ nL7 (kc.sm _ _ (sd.old _ _ nLb ?_))
    rw [ca.at',vL]
   ·rw [List.length_eraseIdx_of_lt hjr,lr]
    trivial
   ·exact fun l h=>sr l (List.mem_of_mem_eraseIdx h)
   ·intro y hy
    rcases List.mem_append.mp hy with h | h
    ·exact gs y h
    ·rw [List.mem_singleton.mp h]
     exact ⟨sr _ (List.getElem_mem hjr),qU gm cm (by decide) (by decide),m0,fk,gm,fk0,fk1⟩
   ·rw [List.map_append,List.append_assoc]
    refine (List.Perm.nodup_iff (List.Perm.append_left _ ?_)).mpr ns
    exact ly hjr
  rintro σ J1 ⟨v10,v12,v13,v14,v15,ss,rem,t9,rfl,dw5,_,_,_,lss,gs,ns,h9a,h9b⟩
  refine n5 _ _ ?_
  have t9b:t9≤t8+100:=by trivial
  refine cq fun D6 n6=>⟨(),b,4,t9,rfl,dw5.bx,by decide,by decide,by trivial,by trivial,fun x5 ta Hd x50 x51 haa hab sa Ba=>⟨_,(),rfl,(),by trivial,by trivial,?_⟩⟩
  have dw6:=dw5.box ds sa Ba
  refine gH (fun i σ H'=>yS fun (v10 v11 v12 v13 v14 v15:Option V) (ws:List oZ) (t':Int)=>σ=[some (.ref b),some (.int kd),some (.int (many:Int)),some (.int (hours:Int)),some (.int (mo:Int)),some (.ref nl),some (.ref L6),some (.ref L7),some (.ref L8),some (.ref L9),v10,v11,v12,v13,v14,v15]∧Dw H b nl L6 L7 L8 L9 ls ts ss ws [] t' H'∧ws.length=i∧(∀x∈ws,uq ⟨ls,hours,[],[],[],[]⟩ x)∧ta≤t'∧t'≤ta+20*i) ⟨_,_,_,_,_,_,[],ta,rfl,dw6,rfl,(fun _ h=>nomatch h),by trivial,by trivial⟩ ?_ ?_
  ·rintro i σ J2 hi ⟨v10,v11,v12,v13,v14,v15,ws,tb,rfl,dw,lw,gw,hba,hbb⟩
   have hi4:i<4:=by trivial
   refine mw (t:=jV _ _) fun DB nB=>?_
   refine CF fun Qp np=>⟨(),(),(),b,(many:Int),tb,rfl,dw.bx,by trivial,kF (by trivial),by trivial,by trivial,fun y1 tc G1 y10 y11 hca hcb s1' B1'=>?_⟩
   obtain ⟨jp,rfl⟩:=Int.eq_ofNat_of_zero_le y10
   have hjp:jp<ls.length:=by trivial
   have ejp:(ls.map b8)[jp]?=some (b8 ls[jp]):=by rw [List.getElem?_map,List.getElem?_eq_getElem hjp];rfl
   have dw1':=dw.box ds s1' B1'
   refine ⟨nl,_,_,(),rfl,aE.of dw1'.nl,kl ejp,(),(),b,(hours:Int),tc,rfl,B1',by trivial,kF (by trivial),by trivial,by trivial,fun y2 td G2 y20 y21 hda hdb s2' B2'=>np _ _ _ ?_⟩
   obtain ⟨jh,rfl⟩:=Int.eq_ofNat_of_zero_le y20
   have dw2':=dw1'.box ds s2' B2'
   obtain ⟨zs,h8,a8⟩:=id dw2'.a8
   have lz:=a8.length
   rw [List.length_map] at lz
   refine ⟨(),.inl ⟨rfl,_,aE.of h8⟩,(),(),(),b,td,rfl,B2',by trivial,by trivial,fun om zm te G3 s3' hom gm m0 cm B3' hea heb=>⟨(),b,te,rfl,B3',by trivial,by trivial,fun oc zc tf G4 s4' hoc gc c0 cc B4' hfa hfb=>⟨(by show 4≤10000;decide),fun q5 G5 k5=>?_⟩⟩⟩
   have s24:ar (Eb b) G2 G4:=s3'.trans s4'
   have dw4':=dw2'.box ds s24 B4'
   have dw5':=dw4'.sm ds k5.sm
   have h8':=k5.sm _ _ (s24.old _ _ ds.nb.2.2.2.1 h8)
   refine ⟨L8,zs,(),rfl,h8',by trivial,fun G6 c6=>nB _ _ ?_⟩
   have cE:=xX h8' c6
   let xx:oZ:=⟨ls[jp],jh,zm,zc⟩
   have dx:bh ED G5 (.ref q5) (wN xx):=.tup k5.at' (.cons (.str _) (.cons (.int _) (.cons (rG (k5.sm _ _ (s4'.tup _ _ hom))) (.cons (rG (k5.sm _ _ hoc)) .nil))))
   refine ⟨_,_,_,_,_,_,ws++[xx],tf,rfl,⟨qd dw5'.se ds.f.2.2.1 cE,dw5'.bx.ch c6 (Ne.symm ds.nb.2.2.2.1),cE.old _ _ ds.n8.1 dw5'.nl,dw5'.a6.keep cE (Ne.symm ds.n6.2.2.1),dw5'.a7.keep cE (Ne.symm ds.n7.2.1),?_,dw5'.a9.keep cE ds.n8.2⟩,by simp [lw],?_,by trivial,by trivial⟩
   ·rw [List.map_append]
    exact jP.app h8' (a8.mono (iP (s24.trans k5.sm.toE).tup)) dx c6
   ·intro y hy
    rcases List.mem_append.mp hy with h | h
    ·exact gw y h
    ·rw [List.mem_singleton.mp h]
     exact ⟨List.getElem_mem hjp,by show jh<hours;trivial,qU gm cm (by decide) (by decide),m0,qU gc cc (by decide) (by decide),gm,c0⟩
  rintro σ J2 ⟨v10,v11,v12,v13,v14,v15,ws,tb,rfl,dw7,lw,gw,hba,hbb⟩
  refine n6 _ _ ?_
  have tbb:tb≤ta+80:=by trivial
  refine cq fun D7 n7=>⟨(),b,4,tb,rfl,dw7.bx,by decide,by decide,by trivial,by trivial,fun x6 tc He x60 x61 hca hcb sc Bc=>?_⟩
  obtain ⟨N6,eN6,hN6⟩:∃N:Nat,x6+3*(if decide (V.int kd=V.int 0)=true then (1:Int) else 0)=(N:Int)∧N≤6:=⟨(x6+3*(if decide (V.int kd=V.int 0)=true then (1:Int) else 0)).toNat,by trivial,by trivial⟩
  refine ⟨(),rfl,.inr ⟨(),_,(),rfl,.inl ⟨by decide,by decide⟩,_,(),rfl,(N6:Int),congrArg (fun z=>[V.int z]) eN6,by trivial,by trivial,?_⟩⟩
  have dw8:=dw7.box ds sc Bc
  refine gH (fun i σ H'=>yS fun (v10 v11 v12 v13 v14 v15:Option V) (wi:List oV) (t':Int)=>σ=[some (.ref b),some (.int kd),some (.int (many:Int)),some (.int (hours:Int)),some (.int (mo:Int)),some (.ref nl),some (.ref L6),some (.ref L7),some (.ref L8),some (.ref L9),v10,v11,v12,v13,v14,v15]∧Dw H b nl L6 L7 L8 L9 ls ts ss ws wi t' H'∧wi.length=i∧(∀x∈wi,uC ⟨ls,hours,[],[],[],[]⟩ x)∧tc≤t'∧t'≤tc+20*i) ⟨_,_,_,_,_,_,[],tc,rfl,dw8,rfl,(fun _ h=>nomatch h),by trivial,by trivial⟩ ?_ ?_
  ·rintro i σ J2 hi ⟨v10,v11,v12,v13,v14,v15,wi,td,rfl,dw,lwi,gwi,hda,hdb⟩
   have hi6:i<6:=by trivial
   refine mw (t:=jV _ _) fun DB nB=>?_
   refine sw fun Qa na=>⟨(),b,20,td,rfl,dw.bx,by decide,by decide,by trivial,by trivial,fun y1 te G1 y10 y11 hea heb s1' B1'=>⟨_,(),rfl,(),b,4,te,rfl,B1',by decide,by decide,by trivial,by trivial,fun y2 tf G2 y20 y21 hfa hfb s2' B2'=>⟨_,(),rfl,_,(),by trivial,(show (1+y2).natAbs<2 ^ 9000 from Nat.lt_of_lt_of_le (show (1+y2).natAbs<2 ^ 4 by trivial) (Nat.pow_le_pow_right (by decide) (by decide))),fun oa G3 k3=>na _ _ ?_⟩⟩⟩
   have fa:Fr 24 (KM.low (1+y1) (1+y2)):=Fb.low (by show (1+y1).natAbs<2 ^ 24;trivial) (by show (1+y2).natAbs<2 ^ 24;trivial) (by trivial)
   have dw3':=(dw.box ds (s1'.trans s2') B2').sm ds k3.sm
   obtain ⟨zs,h9,a9⟩:=id dw3'.a9
   have lz:=a9.length
   rw [List.length_map] at lz
   refine ⟨(),.inl ⟨rfl,_,aE.of h9⟩,(),(),(),b,(many:Int),tf,rfl,dw3'.bx,by trivial,kF (by trivial),by trivial,by trivial,fun y3 tg G4 y30 y31 hga hgb s4' B4'=>?_⟩
   obtain ⟨jp,rfl⟩:=Int.eq_ofNat_of_zero_le y30
   have hjp:jp<ls.length:=by trivial
   have ejp:(ls.map b8)[jp]?=some (b8 ls[jp]):=by rw [List.getElem?_map,List.getElem?_eq_getElem hjp];rfl
   have dw4':=dw3'.box ds s4' B4'
   refine ⟨nl,_,_,(),rfl,aE.of dw4'.nl,kl ejp,(),(),b,(hours:Int),tg,rfl,B4',by trivial,kF (by trivial),by trivial,by trivial,fun y4 th G5 y40 y41 hha hhb s5' B5'=>?_⟩
   obtain ⟨jh,rfl⟩:=Int.eq_ofNat_of_zero_le y40
   refine ⟨(),(by show 3≤10000;decide),fun q6 G6 k6=>?_⟩
   have s35:ar (Eb b) G3 G5:=s4'.trans s5'
   have dw6':=(dw3'.box ds s35 B5').sm ds k6.sm
   have h9':=k6.sm _ _ (s35.old _ _ ds.nb.2.2.2.2 h9)
   refine ⟨L9,zs,(),rfl,h9',by trivial,fun G7 c7=>nB _ _ ?_⟩
   have cE:=xX h9' c7
   let xx:oV:=⟨ls[jp],jh,KM.low (1+y1) (1+y2)⟩
   have dx:bh ED G6 (.ref q6) (x8 xx):=.tup k6.at' (.cons (.str _) (.cons (.int _) (.cons (rG (k6.sm _ _ (s35.tup _ _ k3.at'))) .nil)))
   refine ⟨_,_,_,_,_,_,wi++[xx],th,rfl,⟨qd dw6'.se ds.f.2.2.2 cE,dw6'.bx.ch c7 (Ne.symm ds.nb.2.2.2.2),cE.old _ _ ds.n9 dw6'.nl,dw6'.a6.keep cE (Ne.symm ds.n6.2.2.2),dw6'.a7.keep cE (Ne.symm ds.n7.2.2),dw6'.a8.keep cE (Ne.symm ds.n8.2),?_⟩,by simp [lwi],?_,by trivial,by trivial⟩
   ·rw [List.map_append]
    exact jP.app h9' (a9.mono (iP (s35.trans k6.sm.toE).tup)) dx c7
   ·intro y hy
    rcases List.mem_append.mp hy with h | h
    ·exact gwi y h
    ·rw [List.mem_singleton.mp h]
     exact ⟨List.getElem_mem hjp,by show jh<hours;trivial,fa,Ec (by trivial) (by trivial)⟩
  rintro σ J3 ⟨v10,v11,v12,v13,v14,v15,wi,td,rfl,dw9,lwi,gwi,hda,hdb⟩
  refine n7 _ _ ?_
  have tdb:td≤tc+120:=by trivial
  obtain ⟨z6,h6,a6⟩:=id dw9.a6
  obtain ⟨z7,h7,a7⟩:=id dw9.a7
  obtain ⟨z8,h8,a8⟩:=id dw9.a8
  obtain ⟨z9,h9,a9⟩:=id dw9.a9
  refine ⟨(),nl,(),aE.of dw9.nl,fun q1 G1 k1=>⟨(),(),(),L6,(),aE.of (k1.sm _ _ h6),fun q2 G2 k2=>⟨q2,(),aE.of k2.at',fun q3 G3 k3=>?_⟩⟩⟩
  have s13:ad J3 G3:=(k1.sm.trans k2.sm).trans k3.sm
  refine ⟨(),L7,(),aE.of (s13 _ _ h7),fun q4 G4 k4=>⟨(),L8,(),aE.of (k4.sm _ _ (s13 _ _ h8)),fun q5 G5 k5=>⟨(),L9,(),aE.of (k5.sm _ _ (k4.sm _ _ (s13 _ _ h9))),fun q6 G6 k6=>⟨(by show 6≤10000;decide),fun q7 G7 k7=>?_⟩⟩⟩⟩
  have s47:ad G4 G7:=(k5.sm.trans k6.sm).trans k7.sm
  have s37:ad G3 G7:=k4.sm.trans s47
  have s07:ad J3 G7:=s13.trans s37
  have ec:cS z6 none (some 8)=z6.take 8:=iR (by decide)
  have h3:=k3.at'
  rw [ec] at h3
  have pin:∀l∈ls,l∈ls:=fun _ h=>h
  refine k _ ⟨ls,hours,ts.take 8,ss,ws,wi⟩ td G7 (dw9.se.trans s07.toE) ?_ ?_ (by show ws.length≤4;trivial) (by show wi.length≤6;trivial) (by show 1≤ws.length;trivial) (dw9.bx.same s07) (by trivial) (by trivial)
  ·refine .tup k7.at' (.cons (.tup (s37 _ _ (k3.sm _ _ (k2.sm _ _ k1.at'))) (xK _)) (.cons (.int _) (.cons (.tup (s37 _ _ h3) ?_) (.cons (.tup (s47 _ _ k4.at') (a7.mono s07.toE)) (.cons (.tup ((k6.sm.trans k7.sm) _ _ k5.at') (a8.mono s07.toE)) (.cons (.tup (k7.sm _ _ k6.at') (a9.mono s07.toE)) .nil))))))
   show aG ED G7 (z6.take 8) ((ts.take 8).map va)
   rw [List.map_take]
   exact rC 8 (a6.mono s07.toE)
  ·exact ⟨hr1,hr8,by show ls.length≤5;trivial,nd,nm,by show (ts.take 8).length≤8;rw [List.length_take];trivial,by show ss.length≤5;trivial,by show ws.length≤5;trivial,by show wi.length≤7;trivial,fun x hx=>(gt x (List.mem_of_mem_take hx)).of rfl rfl,fun x hx=>(gs x hx).of rfl,fun x hx=>(gw x hx).of rfl rfl,fun x hx=>(gwi x hx).of rfl rfl,(List.nodup_append.mp ns).1⟩
end
end K53
namespace K53
open PySem L2
def iT (c:Nat):Bool:=decide (97≤c) && decide (c≤122)
def da:PyData→Bool
 | .str x=>(decide (1≤x.length) && decide (x.length≤8)) && x.cps.toList.all iT
 | _=>false
theorem Bs (a b:Nat):decide ([a] < [b])=decide (a<b):=by
 by_cases h:a<b
 ·rw [decide_eq_true h];exact decide_eq_true (List.Lex.rel h)
 ·rw [decide_eq_false h]
  apply decide_eq_false
  intro z
  cases z with
  | rel q=>exact h q
  | cons q=>cases q
theorem IL (c:Nat):(!decide ((S [c]).cps.toList<(Str.ofString "a").cps.toList))=decide (97≤c):=by
 have e:(Str.ofString "a").cps.toList=[97]:=by nofun
 rw [e]
 show (!decide ([c] < [97]))=_
 rw [Bs]
 by_cases h:c<97
 ·rw [decide_eq_true h,decide_eq_false (by trivial)];rfl
 ·rw [decide_eq_false h,decide_eq_true (by trivial)];rfl
theorem IY (c:Nat):(!decide ((Str.ofString "z").cps.toList<(S [c]).cps.toList))=decide (c≤122):=by
 have e:(Str.ofString "z").cps.toList=[122]:=by nofun
 rw [e]
 show (!decide ([122] < [c]))=_
 rw [Bs]
 by_cases h:122<c
 ·rw [decide_eq_true h,decide_eq_false (by trivial)];rfl
 ·rw [decide_eq_false h,decide_eq_true (by trivial)];rfl
theorem Hz {c:Nat} (h:c<128):(!(Builtin.Str.occurrences (Str.ofString "abcdefghijklmnopqrstuvwxyz") (S [c]) 0 (Str.ofString "abcdefghijklmnopqrstuvwxyz").length 1).isEmpty)=iT c:=by
 have:=(List.all_eq_true.mp (show (List.range 128).all (fun c=>(!(Builtin.Str.occurrences (Str.ofString "abcdefghijklmnopqrstuvwxyz") (S [c]) 0 (Str.ofString "abcdefghijklmnopqrstuvwxyz").length 1).isEmpty)==iT c)=true by nofun)) c (List.mem_range.mpr h)
 exact eq_of_beq this
theorem mE {x:Str} (h:¬(1≤x.length∧x.length≤8)):da (.str x)=false:=by
 show ((decide (1≤x.length) && decide (x.length≤8)) && _)=false
 by_cases h1:1≤x.length
 ·rw [decide_eq_false (fun z=>h ⟨h1,z⟩),Bool.and_false,Bool.false_and]
 ·rw [decide_eq_false h1,Bool.false_and,Bool.false_and]
theorem u8 {x:Str} (h1:1≤x.length) (h2:x.length≤8):da (.str x)=x.cps.toList.all iT:=by
 show ((decide (1≤x.length) && decide (x.length≤8)) && _)=_
 rw [decide_eq_true h1,decide_eq_true h2];rfl
section
variable {P:Program}{w:World}{K:PySem.W.Frag}{mg:Str→Option Value}{base:Heap}
inductive F3 (f:PyData→Bool) (vs:List V) (H:Hp) (Q:VK):Prop
 | mk (x:V) (d:PyData) (E:Addr→Prop) (wn wk:Nat) (h0:vs=[x]) (h1:bh E H x d) (h2:Wt d wn wk) (h3:wn≤3000) (h4:wk≤40) (h5:∀H',ad H H'→Q (.bl (f d)) H')
def wA (f:PyData→Bool):Sp:=fun vs H Q _=>F3 f vs H Q
theorem Ao (T:Txt K mg):bt P w K mg base CX0 1 T.is_name_.f T.is_name_.d ["thing"] (wA da):=by
 refine T.is_name_.F.ok zP (fun vs H Q E h=>?_) (fun cdv A outer s H vs Q E hr h=>?_)
 ·obtain ⟨x,d,E',wn,wk,rfl,_⟩:=h
  rfl
 ·obtain ⟨x,d,E',wn,wk,rfl,hx,wd,_,_,k⟩:=h
  refine ⟨_,#[#[aN 8 #[PW.pt 3 #[bd 7 #[aK 4 #[aF 3 #[(),(),(@bv _ (K) (by rfl)),pe,T.b_isinstance,(@aq),#[[#[0,iX],#[cb 4 vO T.b_str (@gl) (by decide) (by decide)]]]] (by intro _;rfl)]] #[bK 4 #[aK 4 #[BQ 12 (@lg _) (@lg _) #[()] #[(),(),(@vD _),wg,T.b_len,(@bi),#[[#[0,iX]]]] #[()] (by with_unfolding_all rfl)]]]]] #[ac 3 #[ai 4 #[bj 4]]] (@ay _)] :: #[ac 3 #[ai 4 #[(),(),(@eY _ (K) rfl (by rfl)),wa,T.b_all,(@bQ),#[[#[bA 7 (["sign"]) (1) ([]) _ _ _ _ rfl (by kernel_rfl) #[BB 4 #[0,iX]] (fun _ _ _ _ _ _=>#[0,(),()]) (fun _ _ _ _ _ _=>@bu _) (fun _ _ _ _ _ _=>#[lR 12 (@Bf _) (@Bf _) #[dC 4] #[0,()] #[dC 4] (by with_unfolding_all rfl)]) (by intro _;rfl)]]]]]]],?_⟩
  refine ⟨(),_,_,_,(),hx.ty,lI d,(),?_⟩
  have k0:=k H (ad.refl _)
  cases hx with
  | non=>exact aa (aa k0)
  | bl b=>exact aa (aa k0)
  | int i=>exact aa (aa k0)
  | lst h ne r=>exact aa (aa k0)
  | tup h r=>exact aa (aa k0)
  | str y=>
   cases wd with
   | str hy=>
   refine ah ⟨(),y,rfl,by have:=hy.1;trivial,_,(),rfl,(),?_⟩
   by_cases h1:1≤y.length
   ·rw [decide_eq_true (by trivial)]
    refine aa ⟨_,(),rfl,(),?_⟩
    by_cases h2:y.length≤8
    ·rw [decide_eq_true (by trivial)]
     refine ah ?_
     obtain ⟨l,rfl⟩:∃l,y=S l:=⟨_,(pX y).symm⟩
     rw [fq] at h1 h2
     refine ⟨(),S l,rfl,fun D hD=>uX (l:=l) (fun i=>.bl (iT ((l[i]?).getD 0))) (by trivial) hD ?_ ?_⟩
     ·intro i c H' R hc sm kk
      rw [hc] at kk
      refine ⟨dq,(),_,(),rfl,(),?_⟩
      rw [IL]
      have k1:=kk H' (ad.refl _)
      simp only [Option.getD_some] at k1
      unfold iT at k1
      by_cases q1:97≤c
      ·rw [decide_eq_true q1,Bool.true_and] at k1
       rw [decide_eq_true q1]
       refine aa ⟨_,(),rfl,?_⟩
       rw [IY];exact k1
      ·rw [decide_eq_false q1,Bool.false_and] at k1
       rw [decide_eq_false q1]
       exact ah k1
     ·intro H1 s1 hD1
      rw [eH (fun i=>V.bl (iT ((l[i]?).getD 0))) (fun c=>V.bl (iT c)) l (fun i x e=>by rw [e];rfl)] at hD1
      have e3:l.map (fun c=>V.bl (iT c))=(l.map iT).map V.bl:=by rw [List.map_map];rfl
      rw [e3] at hD1
      refine ⟨D,(),aE.of hD1,?_⟩
      have k1:=k H1 s1
      rw [u8 (by rw [fq];exact h1) (by rw [fq];exact h2)] at k1
      have e4:(l.map iT).all id=(S l).cps.toList.all iT:=by rw [List.all_map];rfl
      rw [e4];exact k1
    ·rw [decide_eq_false (by trivial)]
     rw [mE (fun z=>h2 z.2)] at k0
     exact aa k0
   ·rw [decide_eq_false (by trivial)]
    rw [mE (fun z=>h1 z.1)] at k0
    exact ah ⟨(),aa k0⟩
theorem xA (T:Txt K mg):bt P w K mg base CX0 1 T.l_is_name_.f T.l_is_name_.d ["_law_thing"] (wA da):=by
 refine T.l_is_name_.F.ok qw (fun vs H Q E h=>?_) (fun cdv A outer s H vs Q E hr h=>?_)
 ·obtain ⟨x,d,E',wn,wk,rfl,_⟩:=h
  rfl
 ·obtain ⟨x,d,E',wn,wk,rfl,hx,wd,_,_,k⟩:=h
  refine ⟨_,#[#[ou 2 (1) _ _ _ _ qw.nd rfl (Or.inr nO) #[dC 4] (by rfl) (by first | exact .inl rfl | exact .inr rfl | assumption)] :: #[ac 3 #[ai 4 #[cG 7 #[(),(),(@bv _ (K) (by rfl)),mV,T.b_isinstance,(@aq),#[[#[0,gq],#[cb 4 tK T.b_str (@gl) (by decide) (by decide)]]]] #[cG 7 #[lR 12 (@lg _) (@lg _) #[()] #[(),(),(@vD _),tF,T.b_len,(@bi),#[[#[0,gq]]]] #[()] (by with_unfolding_all rfl)] #[cX 5 #[(),(),(@eY _ (K) rfl (by rfl)),tj,T.b_all,(@bQ),#[[#[bA 7 (["_law_sign", "_law_letters"]) (1) ([1]) _ _ _ _ rfl (by kernel_rfl) #[BB 4 #[0,gq]] (fun _ _ _ _ _ _=>#[0,(),()]) (fun _ _ _ _ _ _=>@bu _) (fun _ _ _ _ _ _=>#[bY 8 (@F5 _) #[0,()] #[1,0] rfl]) (by intro _;rfl)]]]]]]]]]],?_⟩
  have k0:=k H (ad.refl _)
  refine ⟨(),_,_,_,(),hx.ty,lI d,(),?_⟩
  cases hx with
  | non=>exact ah k0
  | bl b=>exact ah k0
  | int i=>exact ah k0
  | lst h ne r=>exact ah k0
  | tup h r=>exact ah k0
  | str y=>
   cases wd with
   | str hy=>
   refine aa ⟨(),y,rfl,by have:=hy.1;trivial,_,(),rfl,(),?_⟩
   by_cases h1:1≤y.length
   ·rw [decide_eq_true (by trivial)]
    refine aa ⟨_,(),rfl,(),?_⟩
    by_cases h2:y.length≤8
    ·rw [decide_eq_true (by trivial)]
     refine aa ?_
     obtain ⟨l,rfl⟩:∃l,y=S l:=⟨_,(pX y).symm⟩
     rw [fq] at h1 h2
     refine ⟨(),S l,rfl,fun D hD=>uX (l:=l) (fun i=>.bl (iT ((l[i]?).getD 0))) (by trivial) hD ?_ ?_⟩
     ·intro i c H' R hc sm kk
      rw [hc] at kk
      refine ⟨dq,(),(),_,(),rfl,?_⟩
      rw [Hz (hy.2 c (List.mem_of_getElem? hc))]
      exact kk H' (ad.refl _)
     ·intro H1 s1 hD1
      rw [eH (fun i=>V.bl (iT ((l[i]?).getD 0))) (fun c=>V.bl (iT c)) l (fun i x e=>by rw [e];rfl)] at hD1
      have e3:l.map (fun c=>V.bl (iT c))=(l.map iT).map V.bl:=by rw [List.map_map];rfl
      rw [e3] at hD1
      refine ⟨D,(),aE.of hD1,?_⟩
      have k1:=k H1 s1
      rw [u8 (by rw [fq];exact h1) (by rw [fq];exact h2)] at k1
      have e4:(l.map iT).all id=(S l).cps.toList.all iT:=by rw [List.all_map];rfl
      rw [e4];exact k1
    ·rw [decide_eq_false (by trivial)]
     rw [mE (fun z=>h2 z.2)] at k0
     exact ah k0
   ·rw [decide_eq_false (by trivial)]
    rw [mE (fun z=>h1 z.1)] at k0
    exact ah ⟨(),ah k0⟩
end
end K53
namespace K53
open PySem L2
set_option maxHeartbeats 16000000
theorem DX {ds:List PyData}{n k:Nat}{d:PyData} (h:cu ds n k) (hd:d∈ds):∃m,m≤n∧Wt d m k:=by
 induction ds generalizing n with
 | nil=>cases hd
 | cons x r ih=>
  cases h with
  | @cons _ _ m n' _ h1 h2=>
  rcases List.mem_cons.mp hd with e | e
  ·subst e;exact ⟨m,by trivial,h1⟩
  ·obtain ⟨m',q,w⟩:=ih h2 e
   exact ⟨m',by trivial,w⟩
theorem nU {a b:Nat} (h:a≠b):(!decide (V.int (a:Int)=V.int (b:Int)))=true:=by
 rw [decide_eq_false]
 ·rfl
 ·intro z
  injection z with z
  exact h (by trivial)
theorem Gv (a:Nat):(!decide (V.int (a:Int)=V.int (a:Int)))=false:=by
 rw [decide_eq_true rfl];rfl
def aX (d:PyData):Bool:=match d with
 | .tuple [.int n,.int e]=>c9 (.tuple [.int n,.int e]) && decide (0≤n)
 | _=>false
def dL (d:PyData) (p:KM.Fra):Bool:=match d with
 | .tuple [.int n,.int e]=>(c9 (.tuple [.int n,.int e]) && decide (0≤n)) && decide (n*p.2≤p.1*e)
 | _=>false
theorem rV {d:PyData} (h:c9 d=true):cj fun n e=>d=.tuple [.int n,.int e]∧1≤e∧Int.gcd n e=1:=by
 unfold c9 at h
 split at h
 ·rename_i n e
  have h':(decide (1≤e) && decide (Int.gcd n e=1))=true:=h
  rw [Bool.and_eq_true,decide_eq_true_iff,decide_eq_true_iff] at h'
  exact ⟨n,e,rfl,h'.1,h'.2⟩
 ·cases h
theorem mJ {d:PyData} (h:c9 d=false):aX d=false∧∀p,dL d p=false:=by
 constructor
 ·unfold aX
  split
  ·rw [h];rfl
  ·rfl
 ·intro p
  unfold dL
  split
  ·rw [h];rfl
  ·rfl
theorem wQ {d:PyData} (h:aX d=false):∀p,dL d p=false:=by
 intro p
 unfold aX at h
 unfold dL
 split
 ·rename_i n e
  simp only at h
  rw [h];rfl
 ·rfl
theorem sq {E:Addr→Prop}{H:Hp}{x:V}{n e:Int} (h:bh E H x (.tuple [.int n,.int e])):∃o,x=.ref o∧H o=some (.tup [.int n,.int e]):=yZ (p:=(n,e)) h
theorem yH {n e:Int}{wn wk:Nat} (h:Wt (.tuple [.int n,.int e]) wn wk):Sz 1900 n∧Sz 1900 e:=by
 cases h with
 | tuple r=>
  cases r with
  | cons h1 r=>
   cases r with
   | cons h2 r=>
    cases h1 with
    | int a=>
     cases h2 with
     | int b=>exact ⟨a,b⟩
def dO (n:Nat):PyData→Bool
 | .tuple ds=>decide (ds.length=n)
 | _=>false
theorem jJ {n:Nat}{d:PyData} (h:dO n d=true):∃ds:List PyData,d=.tuple ds∧ds.length=n:=by
 cases d with
 | tuple ds=>exact ⟨ds,rfl,of_decide_eq_true h⟩
 | _=>cases h
theorem fx (ds:List PyData) (f:PyData→Bool):(ds.map f).all id=ds.all f:=by rw [List.all_map];rfl
theorem dY {K:PySem.W.Frag}{E:Addr→Prop}{q:Addr}{zs:List V}{ds:List PyData}{H1:Hp}{σc:St}{g:TG}{te:TE}{Q:VK} (f:PyData→Bool) (hq:H1 q=some (.tup zs)) (r:aG E H1 zs ds) (hl:zs.length≤10000)
 (step:∀x dx H' (R:VK),dx∈ds→bh E H' x dx→ad H1 H'→(∀H4,ad H' H4→R (.bl (f dx)) H4)→g x σc H' fun σ2 H2=>jT σc σ2∧te σ2 H2 R)
 (fin:∀D H',ad H1 H'→H' D=some (.lst ((ds.map f).map V.bl))→Q (.ref D) H'):∀D,H1 D=none→lB (tJ K q) σc g tT te D H1 Q:=fun D hD=>by
 refine qO (xs:=zs) (fun i=>.bl (f ((ds[i]?).getD .none))) hl hD hq ?_ ?_
 ·intro i x H' R hxi sm kk
  obtain ⟨dx,e1,g1⟩:=r.get hxi
  rw [e1] at kk
  exact step x dx H' R (List.mem_of_getElem? e1) (g1.mono sm.toE) sm kk
 ·intro H2 s2 hD2
  have e3:(List.range zs.length).map (fun i=>V.bl (f ((ds[i]?).getD .none)))=(ds.map f).map V.bl:=by
   rw [r.length,eH (fun i=>V.bl (f ((ds[i]?).getD .none))) (fun d=>V.bl (f d)) ds (fun i x e=>by rw [e];rfl),List.map_map]
   rfl
  rw [e3] at hD2
  exact fin D H2 s2 hD2
theorem EU {n e:Int} (h:1≤e):PyData.eqv (fh (KM.low n e)) (.tuple [.int n,.int e])=decide (Int.gcd n e=1):=by
 have e1:PyData.eqv (fh (KM.low n e)) (.tuple [.int n,.int e])=((KM.low n e).1==n && ((KM.low n e).2==e && true)):=by
  simp [PyData.eqv,PyData.eqvAll]
 rw [e1]
 obtain ⟨_,_,c,_⟩:=KM.low_spec n e (by trivial)
 by_cases g:Int.gcd n e=1
 ·rw [KM.low_self h g,g];simp
 ·rw [decide_eq_false g]
  by_cases q1:(KM.low n e).1=n
  ·by_cases q2:(KM.low n e).2=e
   ·rw [q1,q2] at c;exact absurd c g
   ·simp [q2]
  ·simp [q1]
theorem EM {d:PyData} (h:dO 2 d=false):c9 d=false:=by
 cases d with
 | tuple ds=>rcases ds with _ | ⟨a,_ | ⟨b,_ | ⟨z,r⟩⟩⟩ <;> first | rfl | (cases a <;> rfl) | (cases a <;> first | rfl | (cases b <;> rfl)) | cases h
 | _=>rfl
theorem IT {d:PyData} (h:dO 2 d=true):cj fun a b=>d=.tuple [a,b]:=by
 obtain ⟨ds,rfl,hl⟩:=jJ h
 exact gC (P:=fun l=>cj fun a b=>PyData.tuple l=.tuple [a,b]) (fun a b=>⟨a,b,rfl⟩) _ hl
theorem BK {a b:PyData} (h:(eB a && eB b)=false):c9 (.tuple [a,b])=false:=by
 cases a with
 | int n=>
  cases b with
  | int m=>cases h
  | _=>rfl
 | _=>rfl
section
variable {P:Program}{w:World}{K:PySem.W.Frag}{mg:Str→Option Value}{base:Heap}
inductive FJ (vs:List V) (H:Hp) (Q:VK):Prop
 | mk (x:V) (d:PyData) (E:Addr→Prop) (h0:vs=[x]) (h1:bh E H x d) (h2:Q (.bl (aX d)) H)
def GZ:Sp:=fun vs H Q _=>FJ  vs H Q
theorem fo (T:Txt K mg):bt P w K mg base CX0 3 T.is_from_nought_.f T.is_from_nought_.d ["thing"] GZ:=by
 have G_is_fraction:=#[(nQ)]
 refine T.is_from_nought_.F.ok rg (fun vs H Q E h=>?_) (fun cdv A outer s H vs Q E hr h=>?_)
 ·obtain ⟨x,d,E',rfl,_⟩:=h
  rfl
 ·obtain ⟨x,d,E',rfl,hx,k⟩:=h
  refine ⟨_,#[ac 3 #[ai 4 #[cG 7 #[G_is_fraction,jL,T.is_fraction_,#[[#[0,ip]]]] #[cX 5 #[bY 8 (@wC _) #[#[0,ip][#[()]]] #[()] #[(),()]]]]]],?_⟩
  refine ⟨(),x,d,E',rfl,hx,(),?_⟩
  cases hb:c9 d with
  | false=>
   rw [(mJ hb).1] at k
   exact ah k
  | true=>
   obtain ⟨n,e,rfl,h1,h2⟩:=rV hb
   obtain ⟨o,rfl,ho⟩:=sq hx
   refine aa ⟨(),o,_,_,(),rfl,ak.of ho,rfl,_,(),rfl,?_⟩
   have e0:aX (.tuple [.int n,.int e])=decide (0≤n):=by
    show (c9 (.tuple [.int n,.int e]) && decide (0≤n))=_
    rw [hb];rfl
   rw [e0] at k
   exact k
inductive AC (vs:List V) (H:Hp) (Q:VK):Prop
 | mk (x m:V) (d:PyData) (E F:Addr→Prop) (p:KM.Fra) (wn wk:Nat) (h0:vs=[x,m]) (h1:bh E H x d) (h2:Wt d wn wk) (h3:bh F H m (fh p)) (h4:Fb 40 p.1 p.2) (h5:Q (.bl (dL d p)) H)
def BW:Sp:=fun vs H Q _=>AC  vs H Q
theorem tZ (T:Txt K mg):bt P w K mg base CX0 4 T.goes_within_.f T.goes_within_.d ["thing", "most"] BW:=by
 have G_is_from_nought:=#[(fo)]
 have G_compared:=#[(yw)]
 refine T.goes_within_.F.ok ug (fun vs H Q E h=>?_) (fun cdv A outer s H vs Q E hr h=>?_)
 ·obtain ⟨x,m,d,E',F,p,wn,wk,rfl,_⟩:=h
  rfl
 ·obtain ⟨x,m,d,E',F,p,wn,wk,rfl,hx,wd,hm,fm,k⟩:=h
  refine ⟨_,#[ac 3 #[ai 4 #[cG 7 #[G_is_from_nought,ki,T.is_from_nought_,#[[#[0,jI]]]] #[cX 5 #[bY 8 (@lg _) #[G_compared,nt,T.compared_,#[[#[0,jI],#[1,qu]]]] #[()] #[(),()]]]]]],?_⟩
  refine ⟨(),x,d,E',rfl,hx,(),?_⟩
  cases hb:aX d with
  | false=>
   rw [wQ hb] at k
   exact ah k
  | true=>
   have hb':c9 d=true:=by
    cases hc:c9 d with
    | true=>rfl
    | false=>rw [(mJ hc).1] at hb;cases hb
   obtain ⟨n,e,rfl,h1,h2⟩:=rV hb'
   obtain ⟨o,rfl,ho⟩:=sq hx
   obtain ⟨om,rfl,hom⟩:=yZ hm
   obtain ⟨z1,z2⟩:=yH wd
   refine aa ⟨(),(),o,om,_,_,_,(),ho,hom,z1.mono (by decide),z2.mono (by decide),fm.sn.mono (by decide),fm.sd.mono (by decide),_,(),rfl,?_⟩
   have ec:decide (zx (n*p.2) (p.1*e)≤0)=decide (n*p.2≤p.1*e):=by
    unfold zx
    by_cases q1:n*p.2<p.1*e
    ·rw [if_pos q1,decide_eq_true (by trivial:n*p.2≤p.1*e)];rfl
    ·rw [if_neg q1]
     by_cases q2:p.1*e<n*p.2
     ·rw [if_pos q2,decide_eq_false (by trivial:¬n*p.2≤p.1*e)];rfl
     ·rw [if_neg q2,decide_eq_true (by trivial:n*p.2≤p.1*e)];rfl
   have e0:dL (.tuple [.int n,.int e]) p=decide (n*p.2≤p.1*e):=by
    have hb2:(c9 (.tuple [.int n,.int e]) && decide (0≤n))=true:=hb
    show ((c9 (.tuple [.int n,.int e]) && decide (0≤n)) && decide (n*p.2≤p.1*e))=_
    rw [hb2];rfl
   rw [e0,←ec] at k
   exact k
inductive Cy (vs:List V) (H:Hp) (Q:VK):Prop
 | mk (x:V) (n:Nat) (d:PyData) (E:Addr→Prop) (h0:vs=[x,.int (n:Int)]) (h1:bh E H x d) (h2:Q (.bl (dO n d)) H)
def EQ:Sp:=fun vs H Q _=>Cy  vs H Q
theorem fw (T:Txt K mg):bt P w K mg base CX0 1 T.is_tuple_of_.f T.is_tuple_of_.d ["thing", "size"] EQ:=by
 refine T.is_tuple_of_.F.ok uL (fun vs H Q E h=>?_) (fun cdv A outer s H vs Q E hr h=>?_)
 ·obtain ⟨x,n,d,E',rfl,_⟩:=h
  rfl
 ·obtain ⟨x,n,d,E',rfl,hx,k⟩:=h
  refine ⟨_,#[ac 3 #[ai 4 #[cG 7 #[(),(),(@bv _ (K) (by rfl)),lQ,T.b_isinstance,(@aq),#[[#[0,jF],#[cb 4 pP T.b_tuple (@aI) (by decide) (by decide)]]]] #[cX 5 #[bY 8 (@cY _) #[(),(),(@eI _ (K) (by rfl)),rl,T.b_len,(@bi),#[[#[0,jF]]]] #[1,qa] #[(),()]]]]]],?_⟩
  refine ⟨(),_,_,_,(),hx.ty,cf d,(),?_⟩
  cases hx with
  | non=>exact ah k
  | bl b=>exact ah k
  | int i=>exact ah k
  | str y=>exact ah k
  | lst h ne r=>exact ah k
  | @tup a xs ds h r=>
   refine aa ⟨(),a,xs,rfl,.inr (ak.of h),(),rfl,?_⟩
   have e:decide (V.int (xs.length:Int)=V.int (n:Int))=dO n (.tuple ds):=by
    show _=decide (ds.length=n)
    rw [r.length]
    by_cases c:ds.length=n
    ·rw [decide_eq_true c,c,decide_eq_true rfl]
    ·rw [decide_eq_false c,decide_eq_false]
     intro z
     injection z with z
     exact c (by trivial)
   rw [e]
   exact k
end
end K53
namespace K53
open PySem L2
set_option maxHeartbeats 16000000
theorem qA {z:Nat}{i j:Int} (h:Sz (24+z) i) (e:j.natAbs≤2*i.natAbs∨j.natAbs≤i.natAbs+60):Sz (24+(z+1)) j:=by
 have h1:i.natAbs<2 ^ (24+z):=h
 have h2:2 ^ (24+(z+1))=2*2 ^ (24+z):=by rw [show 24+(z+1)=(24+z)+1 from by trivial,Nat.pow_succ,Nat.mul_comm]
 have h3:2 ^ 24≤2 ^ (24+z):=Nat.pow_le_pow_right (by decide) (by trivial)
 have h4:100≤2 ^ 24:=by decide
 show j.natAbs<2 ^ (24+(z+1))
 rw [h2]
 generalize 2 ^ (24+z)=A at h1 h3 ⊢
 generalize 2 ^ 24=B at h3 h4
 trivial
theorem yC {z:Nat} (i:Int) (h:i.natAbs<2 ^ 10):Sz (24+z) i:=Nat.lt_of_lt_of_le h (Nat.pow_le_pow_right (by decide) (by trivial))
theorem xz {z n k m:Nat}{E:Addr→Prop}{H:Hp}{x:Str} (h:kX m x) (hm:m+1≤4 ^ z):Dx z E H (.str x) (n+1) k:=Dx.str (by have:=h.1;trivial) h.2
theorem Dr:kX 1 (Str.ofString "a"):=⟨by nofun,by nofun⟩
theorem Ja:kX 1 (Str.ofString " "):=⟨by nofun,by nofun⟩
theorem Ig:kX 1 (Str.ofString ""):=⟨by nofun,by nofun⟩
theorem Jg:kX 9 (Str.ofString "abcdefghi"):=⟨by nofun,by nofun⟩
section
variable {P:Program}{w:World}{K:PySem.W.Frag}{mg:Str→Option Value}{base:Heap}
inductive DQ (up:Nat) (vs:List V) (H:Hp) (Q:VK):Prop
 | mk (b:Addr) (x:V) (t:Int) (E:Addr→Prop) (z N k:Nat) (h0:vs=[.ref b,x]) (h1:Bx H b t) (h2:0≤t) (h3:t≤900000) (h4:E b) (h5:Al E H) (h6:Dx z E H x N k) (h7:2≤z) (h8:z≤3) (h9:N≤1500) (h10:k≤20) (h11:∀y t' H',ar (Eb b) H H'→Dx (z+1) E H' y (N+10) (k+2)→Bx H' b t'→t≤t'→t'≤t+up→Q y H')
def Fh (up:Nat):Sp:=fun vs H Q _=>DQ up vs H Q
theorem FC (T:Txt K mg):bt P w K mg base CX0 2 T.l_odd_.f T.l_odd_.d ["_law_box_here", "_law_thing"] (Fh 2):=by
 have G_l_take:=#[(gU)]
 refine T.l_odd_.F.ok sx (fun vs H Q E h=>?_) (fun cdv A outer s H vs Q E hr h=>?_)
 ·obtain ⟨b,x,t,E',z,N,k,rfl,_⟩:=h
  rfl
 ·obtain ⟨b,x,t,E',z,N,k,rfl,B,ht0,ht1,hEb,hal,hx0,hz2,hz,hN,hk,K'⟩:=h
  refine ⟨_,#[#[2,sx.nd,kU,#[G_l_take,hV,T.l_take_,#[[#[0,eU],#[()]]]]] :: #[#[aN 8 #[PW.pt 3 #[wF 7 #[aF 3 #[(),(),(@bv _ (K) (by rfl)),kL,T.b_isinstance,(@aq),#[[#[1,bn],#[cb 4 yd T.b_int (@du) (by decide) (by decide)]]]] (by intro _;rfl)] #[ud 4 #[au 8 (@dQ _) #[2,kU] #[()] #[(),()]]]]] #[ac 3 #[ai 4 #[#[bU 4 #[[#[aj 8 (@yY _) #[1,bn] #[()]],#[aj 8 (@DV _) #[1,bn] #[()]],#[mI 6 (@Eo _) #[1,bn]],#[()],#[aj 8 (@Em _) #[()] #[1,bn]],#[bY 8 (@qg _ hr.units) #[1,bn] #[()] #[(),()]],#[aj 8 (@yY _) #[1,bn] #[()]]]]][#[G_l_take,hV,T.l_take_,#[[#[0,eU],#[()]]]]]!]]] (@ay _)] :: #[#[aN 8 #[PW.pt 3 #[wF 7 #[aF 3 #[(),(),(@bv _ (K) (by rfl)),kL,T.b_isinstance,(@aq),#[[#[1,bn],#[cb 4 yz T.b_str (@gl) (by decide) (by decide)]]]] (by intro _;rfl)] #[ud 4 #[au 8 (@dQ _) #[2,kU] #[()] #[(),()]]]]] #[ac 3 #[ai 4 #[#[bU 4 #[[#[aj 8 (@y9 _) #[1,bn] #[dC 4]],#[aR 10 (@FX _) #[1,bn] (@be _) #[aU 3 #[mI 6 (@lP _) #[()]]]],#[Fu 9 PySem.F.plainAttrs_str PySem.F.slot_str_upper PySem.F.type_str_upper (@CH _) #[1,bn] (by rfl) (by rfl)],#[dC 4],#[aj 8 (@y9 _) #[1,bn] #[dC 4]],#[dC 4]]]][#[G_l_take,hV,T.l_take_,#[[#[0,eU],#[()]]]]]!]]] (@ay _)] :: #[#[3,sx.nd,oj,#[bU 4 #[[#[eQ 3],#[bj 4],#[()],#[dC 4],#[ae 5 (@aC _)],#[bU 4 (@aC _)],#[ae 5 #[[#[()],#[()]]]],#[ae 5 #[[#[()],#[()]]]],#[ae 5 #[[#[mI 6 (@lP _) #[()]],#[()]]]],#[ae 5 #[[#[()],#[()]]]],#[ae 5 #[[#[()],#[()]]]],#[ae 5 #[[#[()],#[()]]]],#[ae 5 #[[#[1,bn]]]],#[bU 4 #[[#[1,bn]]]]]]]] :: #[ac 3 #[ai 4 #[#[3,oj][#[G_l_take,hV,T.l_take_,#[[#[0,eU],#[()]]]]]!]]]]]]],?_⟩
  refine cq fun DZ nZ=>⟨(),b,5,t,rfl,B,by decide,by decide,ht0,by trivial,fun wy t1 H1 w0 w1 h1a h1b s1 B1=>nZ _ _ ?_⟩
  have s1E:=s1.weak hEb
  obtain ⟨d,hx,wh⟩:=hx0.sE s1E
  have al1:=hal.sE s1 B1
  have dx:∀{J:Hp},ad H1 J→Dx (z+1) E' J x N k:=fun sJ=>Dx.more ⟨d,hx.mono sJ.toE,wh⟩ (Nat.le_succ z)
  have KK:∀y J t2,ar (Eb b) H1 J→Bx J b t2→t1≤t2→t2≤t1+1→Dx (z+1) E' J y (N+10) (k+2)→Q y J:=fun y J t2 sJ BJ ha hb hy=>K' y t2 J (s1.trans sJ) hy BJ (by trivial) (by trivial)
  have q64:64≤4 ^ (z+1):=Nat.le_trans (show 64≤4 ^ 3 by decide) (Nat.pow_le_pow_right (by decide) (by trivial))
  have q4:4 ^ (z+1)=4*4 ^ z:=by rw [Nat.pow_succ,Nat.mul_comm]
  have q16:16≤4 ^ z:=Nat.le_trans (show 16≤4 ^ 2 by decide) (Nat.pow_le_pow_right (by decide) hz2)
  have lit:∀{J:Hp}{n k:Nat} (i:Int),i.natAbs<2 ^ 10→Dx (z+1) E' J (.int i) (n+1) k:=fun {J n k} i hi=>Dx.int (yC i hi)
  refine ml fun DA nA rA=>?_
  refine lV (fun J=>ad H1 J∧∃i,vm x=some i∧Sz (24+z) i∧(d=.int i∨∃q,d=.bool q)) (fun J=>ad H1 J) (fun Q' y1 y0=>?_) (fun J hJ=>?_) (fun J sJ=>nA _ _ ?_)
  ·refine ⟨(),_,_,_,(),hx.ty,uK d,(),?_⟩
   cases hb:AM d with
   | false=>exact ah (y0 _ (ad.refl _))
   | true=>
    refine aa ⟨(),_,(),rfl,(),?_⟩
    by_cases c:wy<3
    ·rw [decide_eq_true c]
     refine y1 _ ⟨ad.refl _,?_⟩
     cases hx with
     | int i=>cases wh with | int h _=>exact ⟨i,rfl,h,.inl rfl⟩
     | bl q=>exact ⟨_,rfl,yC _ (by cases q <;> decide),.inr ⟨q,rfl⟩⟩
     | non=>cases hb
     | str _=>cases hb
     | lst _ _ _=>cases hb
     | tup _ _=>cases hb
    ·rw [decide_eq_false c]
     exact y0 _ (ad.refl _)
  ·obtain ⟨sJ,i,hi,si,hdd⟩:=hJ
   obtain ⟨wm,hwm,wt⟩:=(wh.wv (show z≤4 by trivial)).wt (by decide)
   have w1':Wt (.int 1) 1 0:=.int (show (1:Int).natAbs<2 ^ 1900 from Nat.one_lt_two_pow (by decide))
   refine ⟨(),i,1,hi,rfl,(),i,1,hi,rfl,(),i,hi,(),2,i,rfl,hi,by decide,by decide,(),d,.int 1,E',ED,wm,1,k,0,hx.mono sJ.toE,.int 1,wt,w1',by trivial,(),i,60,hi,rfl,(by show 7≤10000;decide),fun L J1 m1=>?_⟩
   refine ⟨(),b,7,t1,rfl,B1.same (sJ.trans m1.sm),by decide,by decide,by trivial,by trivial,fun r t2 J2 r0 r1 h2a h2b s2 B2=>?_⟩
   have nLb:L≠b:=fun e=>(B1.same sJ).th (e▸m1.fr)
   obtain ⟨v,ev,hv⟩:∃v,gj ([V.int (i+1),.int (i - 1),.int (-i),.int 0,.int (2*i),.bl (PyData.eqv d (.int 1)),.int (i+60)]:List V) r=some v∧Dx (z+1) E' J2 v (N+10) (k+2):=by
    obtain rfl | rfl | rfl | rfl | rfl | rfl | rfl:r=0∨r=1∨r=2∨r=3∨r=4∨r=5∨r=6:=by trivial
    ·exact ⟨(),Dx.int (qA si (by trivial))⟩
    ·exact ⟨(),Dx.int (qA si (by trivial))⟩
    ·exact ⟨(),Dx.int (qA si (by trivial))⟩
    ·exact ⟨(),lit 0 (by decide)⟩
    ·exact ⟨(),Dx.int (qA si (by trivial))⟩
    ·exact ⟨(),Dx.bl _⟩
    ·exact ⟨(),Dx.int (qA si (by trivial))⟩
   exact ⟨L,_,_,(),rfl,aE.of (s2.old _ _ nLb m1.at'),ev,rA _ _ (KK v J2 t2 ((sJ.trans m1.sm).toE.trans s2) B2 h2a h2b hv)⟩
  clear nA rA
  refine ml fun DA nA rA=>?_
  refine lV (fun J=>ad H1 J∧∃y,x=.str y∧y.length+1≤4 ^ z∧∀c∈y.cps.toList,c<128) (fun J=>ad H1 J) (fun Q' y1 y0=>?_) (fun J hJ=>?_) (fun J sJ=>nA _ _ ?_)
  ·refine ⟨(),_,_,_,(),(hx.mono sJ.toE).ty,lI d,(),?_⟩
   cases hb:lN d with
   | false=>exact ah (y0 _ sJ)
   | true=>
    refine aa ⟨(),_,(),rfl,(),?_⟩
    by_cases c:wy<3
    ·rw [decide_eq_true c]
     refine y1 _ ⟨sJ,?_⟩
     cases hx with
     | str y=>cases wh with | str h hc _=>exact ⟨y,rfl,h,hc⟩
     | int i=>cases hb
     | bl q=>cases hb
     | non=>cases hb
     | lst _ _ _=>cases hb
     | tup _ _=>cases hb
    ·rw [decide_eq_false c]
     exact y0 _ sJ
  ·obtain ⟨sJ,y,rfl,hy,hc⟩:=hJ
   have q63:4 ^ z≤64:=Nat.le_trans (Nat.pow_le_pow_right (by decide) hz) (show 4 ^ 3≤64 by decide)
   have ty:kX y.length y:=⟨Nat.le_refl _,hc⟩
   refine ⟨(),y,_,y.length,1,rfl,rfl,ty,Dr,by trivial,fun c1 tc1=>?_⟩
   refine ⟨(),(),(),y,rfl,by trivial,fun y2 l2 m2=>?_⟩
   refine ⟨(),rfl,y,y.length,rfl,rfl,ty,by trivial,fun c3 tc3=>⟨(),y,_,y.length,1,rfl,rfl,ty,Ja,by trivial,fun c5 tc5=>⟨(by show 6≤10000;decide),fun L J1 m1=>⟨(),b,6,t1,rfl,B1.same (sJ.trans m1.sm),by decide,by decide,by trivial,by trivial,fun r t2 J2 r0 r1 h2a h2b s2 B2=>?_⟩⟩⟩⟩
   have nLb:L≠b:=fun e=>(B1.same sJ).th (e▸m1.fr)
   have ty2:kX y.length y2:=⟨l2,fun c hc'=>hc c (m2 c hc')⟩
   obtain ⟨v,ev,hv⟩:∃v,gj ([V.str c1,.str y2,.str c3,.str (Str.ofString ""),.str c5,.str (Str.ofString "abcdefghi")]:List V) r=some v∧Dx (z+1) E' J2 v (N+10) (k+2):=by
    obtain rfl | rfl | rfl | rfl | rfl | rfl:r=0∨r=1∨r=2∨r=3∨r=4∨r=5:=by trivial
    ·exact ⟨(),xz tc1 (by trivial)⟩
    ·exact ⟨(),xz ty2 (by trivial)⟩
    ·exact ⟨(),xz tc3 (by trivial)⟩
    ·exact ⟨(),xz Ig (by trivial)⟩
    ·exact ⟨(),xz tc5 (by trivial)⟩
    ·exact ⟨(),xz Jg (by trivial)⟩
   exact ⟨L,_,_,(),rfl,aE.of (s2.old _ _ nLb m1.at'),ev,rA _ _ (KK v J2 t2 ((sJ.trans m1.sm).toE.trans s2) B2 h2a h2b hv)⟩
  clear nA rA
  refine cq fun DS nS=>⟨(by show 0≤10000;decide),fun o1 K1 n1=>⟨(by show 0≤10000;decide),fun o2 K2 n2=>⟨(by show 2≤10000;decide),fun o3 K3 n3=>⟨(by show 2≤10000;decide),fun o4 K4 n4=>⟨(),(by show 2≤10000;decide),fun o5 K5 n5=>⟨(by show 2≤10000;decide),fun o6 K6 n6=>⟨(by show 2≤10000;decide),fun o7 K7 n7=>⟨(by show 2≤10000;decide),fun o8 K8 n8=>⟨(),(by show 1≤10000;decide),fun o9 K9 n9=>⟨(),(by show 1≤10000;decide),fun oa Ka na=>⟨(by show 14≤10000;decide),fun L J1 m1=>nS _ _ ?_⟩⟩⟩⟩⟩⟩⟩⟩⟩⟩⟩
  refine ⟨(),(),b,14,t1,rfl,B1.same ((((((((((((sJ.trans n1.sm).trans n2.sm).trans n3.sm).trans n4.sm).trans n5.sm).trans n6.sm).trans n7.sm).trans n8.sm).trans n9.sm).trans na.sm).trans m1.sm)),by decide,by decide,by trivial,by trivial,fun r t2 J2 r0 r1 h2a h2b s2 B2=>?_⟩
  have Ra:=m1.sm
  have R9:=na.sm.trans Ra
  have R8:=n9.sm.trans R9
  have R7:=n8.sm.trans R8
  have R6:=n7.sm.trans R7
  have R5:=n6.sm.trans R6
  have R4:=n5.sm.trans R5
  have R3:=n4.sm.trans R4
  have R2:=n3.sm.trans R3
  have R1:=n2.sm.trans R2
  have sL:=sJ.trans (n1.sm.trans R1)
  have nLb:L≠b:=fun e=>(B1.same (((((((((((sJ.trans n1.sm).trans n2.sm).trans n3.sm).trans n4.sm).trans n5.sm).trans n6.sm).trans n7.sm).trans n8.sm).trans n9.sm).trans na.sm))).th (e▸m1.fr)
  have two:∀{o:Addr}{i j:Int},J1 o=some (.tup [.int i,.int j])→i.natAbs<2 ^ 10→j.natAbs<2 ^ 10→Dx (z+1) E' J1 (.ref o) (N+10) (k+2):=fun h hi hj=>(Dx.tup h (b5.cons (m:=1) (n:=1) (k:=0) (lit (n:=0) _ hi) (b5.one (lit (n:=0) _ hj))) (by simp;trivial)).up (by trivial) (by trivial)
  have al9:=al1.sm ((((((((sJ.trans n1.sm).trans n2.sm).trans n3.sm).trans n4.sm).trans n5.sm).trans n6.sm).trans n7.sm).trans n8.sm)
  obtain ⟨v,ev,hv⟩:∃v,gj ([V.non,.bl true,.int 0,.str (Str.ofString "a"),.ref o1,.ref o2,.ref o3,.ref o4,.ref o5,.ref o6,.ref o7,.ref o8,.ref o9,.ref oa]:List V) r=some v∧Dx (z+1) E' J1 v (N+10) (k+2):=by
   obtain rfl | rfl | rfl | rfl | rfl | rfl | rfl | rfl | rfl | rfl | rfl | rfl | rfl | rfl:r=0∨r=1∨r=2∨r=3∨r=4∨r=5∨r=6∨r=7∨r=8∨r=9∨r=10∨r=11∨r=12∨r=13:=by trivial
   ·exact ⟨(),Dx.non⟩
   ·exact ⟨(),Dx.bl _⟩
   ·exact ⟨(),lit 0 (by decide)⟩
   ·exact ⟨(),xz Dr (by trivial)⟩
   ·exact ⟨(),(Dx.tup (n:=0) (k:=0) (R1 _ _ n1.at') b5.nil (by simp)).up (by trivial) (by trivial)⟩
   ·exact ⟨(),(Dx.lst (n:=0) (k:=0) (R2 _ _ n2.at') ((al1.sm (sJ.trans n1.sm)).ne n2.fr) b5.nil (by simp)).up (by trivial) (by trivial)⟩
   ·exact ⟨(),two (R3 _ _ n3.at') (by decide) (by decide)⟩
   ·exact ⟨(),two (R4 _ _ n4.at') (by decide) (by decide)⟩
   ·exact ⟨(),two (R5 _ _ n5.at') (by decide) (by decide)⟩
   ·exact ⟨(),two (R6 _ _ n6.at') (by decide) (by decide)⟩
   ·exact ⟨(),two (R7 _ _ n7.at') (by decide) (by decide)⟩
   ·exact ⟨(),two (R8 _ _ n8.at') (by decide) (by decide)⟩
   ·exact ⟨(),(Dx.tup (R9 _ _ n9.at') (b5.one (dx sL)) (by simp;trivial)).up (by trivial) (by trivial)⟩
   ·exact ⟨(),(Dx.lst (Ra _ _ na.at') ((al9.sm n9.sm).ne na.fr) (b5.one (dx sL)) (by simp;trivial)).up (by trivial) (by trivial)⟩
  exact ⟨L,_,_,(),rfl,aE.of (s2.old _ _ nLb m1.at'),ev,KK v J2 t2 (sL.toE.trans s2) B2 h2a h2b (hv.sE (s2.weak hEb))⟩
end
end K53
namespace K53
open PySem L2
set_option maxHeartbeats 16000000
theorem bL.split {z:Nat}:∀{xs:List PyData}{n k i:Nat}{d:PyData},bL z xs n k→xs[i]?=some d→eV fun n1 m n2=>bL z (xs.take i) n1 k∧Wx z d m k∧bL z (xs.drop (i+1)) n2 k∧n1+m+n2≤n
 | _,_,_,_,_,.nil,e=>by simp at e
 | _,_,_,0,_,.cons (m:=m) (l:=l) h r hn,e=>by
  simp at e
  subst e
  exact ⟨0,m,l,.nil,h,by simpa using r,by trivial⟩
 | _,_,_,i+1,_,.cons (m:=m) (l:=l) h r hn,e=>by
  obtain ⟨n1,m',n2,a,b,c,l'⟩:=bL.split (i:=i) r (by simpa using e)
  exact ⟨m+n1,m',n2,.cons h a (Nat.le_refl _),b,by simpa using c,by trivial⟩
theorem b5.split {z:Nat}{E:Addr→Prop}{H:Hp}{xs:List V}{n k i:Nat}{v:V} (h:b5 z E H xs n k) (e:xs[i]?=some v):eV fun n1 m n2=>b5 z E H (xs.take i) n1 k∧Dx z E H v m k∧b5 z E H (xs.drop (i+1)) n2 k∧n1+m+n2≤n:=by
 obtain ⟨ds,a,w⟩:=h
 obtain ⟨d,ed,hd⟩:=a.get e
 obtain ⟨n1,m,n2,w1,w2,w3,l⟩:=bL.split w ed
 exact ⟨n1,m,n2,⟨_,a.take i,w1⟩,⟨d,hd,w2⟩,⟨_,a.drop (i+1),w3⟩,l⟩
inductive Hw (z N k:Nat) (E:Addr→Prop) (H:Hp) (x:V) (d:PyData):Prop
 | leaf (hs:qD d=false)
 | seq (o:Addr) (c:Bool) (ys:List V) (m l:Nat) (e:x=.ref o) (hs:qD d=true) (ht:wV d=(!c)) (hl:wT d=c) (ob:∀H',ar E H H'→Ob c H' o ys) (ds:b5 z E H ys m l) (hm:m+1≤N) (hk:l+1≤k) (hw:ys.length≤20+8*z)
theorem HB {z N k:Nat}{E:Addr→Prop}{H:Hp}{x:V}{d:PyData} (h:bh E H x d) (w:Wx z d N k):Hw z N k E H x d:=by
 cases h with
 | non=>exact .leaf rfl
 | bl b=>exact .leaf rfl
 | int i=>exact .leaf rfl
 | str y=>exact .leaf rfl
 | @lst o ys ds h ne r=>cases w with | list h1 h2 h3 h4=>exact .seq o true ys _ _ rfl rfl rfl rfl (fun H' s=>s.old _ _ ne h) ⟨ds,r,h1⟩ h2 h3 (by rw [r.length];exact h4)
 | @tup o ys ds h r=>cases w with | tuple h1 h2 h3 h4=>exact .seq o false ys _ _ rfl rfl rfl rfl (fun H' s=>s.tup _ _ h) ⟨ds,r,h1⟩ h2 h3 (by rw [r.length];exact h4)
theorem zF {c:Bool}{z n k:Nat}{E:Addr→Prop}{J:Hp}{u:Addr}{zs:List V} (h:Ob c J u zs) (ne:c=true→¬E u) (g:b5 z E J zs n k) (hw:zs.length≤20+8*z):Dx z E J (.ref u) (n+1) (k+1):=by
 cases c with
 | true=>exact Dx.lst h (ne rfl) g hw
 | false=>exact Dx.tup h g hw
theorem F9 {K:PySem.W.Frag}{c:Bool}{J:Hp}{o:Addr}{ys:List V} (h:Ob c J o ys):aE K J o ys∨ak K J o ys:=by
 cases c with
 | true=>exact .inl (aE.of h)
 | false=>exact .inr (ak.of h)
theorem eX {ys:List V} (j:Nat):cS ys (some (j:Int)) none=ys.drop j:=by
 unfold cS
 rw [HT.sIx_none,HT.sIx_nat]
 by_cases h:j≤ys.length
 ·rw [Nat.min_eq_left h]
  exact List.take_of_length_le (by rw [List.length_drop];trivial)
 ·rw [Nat.min_eq_right (by trivial),List.drop_eq_nil_of_le (Nat.le_refl _),List.drop_eq_nil_of_le (by trivial),List.take_nil]
theorem so {ys:List V} (j:Nat) (h:j≤ys.length):cS ys (some (j:Int)) (some ((j+2:Nat):Int))=(ys.drop j).take 2:=by
 unfold cS
 rw [HT.sIx_nat,HT.sIx_nat,Nat.min_eq_left h]
 by_cases h2:j+2≤ys.length
 ·rw [Nat.min_eq_left h2,show j+2 - j=2 by trivial]
 ·rw [Nat.min_eq_right (by trivial),List.take_of_length_le (by rw [List.length_drop];trivial),List.take_of_length_le (by rw [List.length_drop];trivial)]
theorem vF (i j:Int):decide (V.int i=V.int j)=decide (i=j):=decide_eq_decide.mpr ⟨fun h=>by injection h,fun h=>by rw [h]⟩
section
variable {P:Program}{w:World}{K:PySem.W.Frag}{mg:Str→Option Value}{base:Heap}
inductive B0 (n:Nat) (vs:List V) (H:Hp) (Q:VK):Prop
 | mk (b:Addr) (x:V) (t:Int) (E:Addr→Prop) (z N k:Nat) (h0:vs=[.ref b,x,.int (n:Int)]) (h1:Bx H b t) (h2:0≤t) (h3:t+2*n≤800000) (h4:E b) (h5:Al E H) (h6:Dx z E H x N k) (h7:2≤z) (h8:z≤3) (h9:N≤1500) (h10:k≤20) (h11:∀y t' H',ar (Eb b) H H'→Dx (z+1) E H' y (2*N+12) (k+2)→Bx H' b t'→t≤t'→t'≤t+2*n+2→Q y H')
def nJ (n:Nat):Sp:=fun vs H Q _=>B0 n vs H Q
theorem yW (T:Txt K mg):∀n,bt P w K mg base CX0 (n+3) T.l_bent_.f T.l_bent_.d ["_law_box_here", "_law_thing", "_law_deep"] (nJ n):=by
 have G_l_take:=#[(gU)]
 have G_l_odd:=#[(FC)]
 suffices ∀n m,m=n+3→(∀n',n'<n→bt P w K mg base CX0 (n'+3) T.l_bent_.f T.l_bent_.d ["_law_box_here", "_law_thing", "_law_deep"] (nJ n'))→bt P w K mg base CX0 (n+3) T.l_bent_.f T.l_bent_.d ["_law_box_here", "_law_thing", "_law_deep"] (nJ n) by
  intro n
  induction n using Nat.strongRecOn with
  | ind n ih=>exact this n _ rfl ih
 intro n _ _ ih
 obtain ⟨jj,hjj,sp,G_l_bent,hsp⟩:∃j,j<n+3∧∃sp,bt P w K mg base CX0 j T.l_bent_.f T.l_bent_.d ["_law_box_here", "_law_thing", "_law_deep"] sp∧(1≤n→sp=nJ (n - 1)):=by
  by_cases h:1≤n
  ·exact ⟨n - 1+3,by trivial,_,ih (n - 1) (by trivial),fun _=>rfl⟩
  ·exact ⟨2,by trivial,fun _ _ _ _=>False,T.l_bent_.F.ok mQ (fun _ _ _ _ h=>h.elim) (fun _ _ _ _ _ _ _ _ _ h=>h.elim),fun z=>absurd z h⟩
 refine T.l_bent_.F.ok mQ (fun vs H Q E h=>?_) (fun cdv A outer s H vs Q E hr h=>?_)
 ·obtain ⟨b,x,t,E',z,N,k,rfl,_⟩:=h
  rfl
 ·obtain ⟨b,x,t,E',z,N,k,rfl,B,ht0,ht1,hEb,hal,hx0,hz2,hz,hN,hk,K'⟩:=h
  refine ⟨_,#[#[aN 8 #[PW.pt 3 #[bd 7 #[aK 4 #[aF 3 #[(),(),(@AU _ (K) (by rfl)),gz,T.b_isinstance,(@aq),#[[#[1,aO],#[ae 5 #[[#[cb 4 kR T.b_list (@d9) (by decide) (by decide)],#[cb 4 kh T.b_tuple (@aI) (by decide) (by decide)]]]]]]] (by intro _;rfl)]] #[bd 7 #[au 8 (@cY _) #[(),(),(@eI _ (K) (by rfl)),qh,T.b_len,(@bi),#[[#[1,aO]]]] #[()] #[(),()]] #[bK 4 #[au 8 (@cY _) #[2,mG] #[()] #[(),()]]]]]] #[ac 3 #[ai 4 #[hU 16 G_l_odd (hr.mono (by trivial)) uy T.l_odd_.m T.l_odd_.F.kp T.l_odd_.B .nil (@lF _) #[[#[0,eC],#[1,aO]]] (by decide) (by rfl) (by rfl)]]] (@ay _)] :: #[#[iq 2 (3) (4) _ _ _ _ _ _ _ _ _ _ _ rfl mQ.nd rfl rfl (by decide) fB bX #[[#[hU 16 G_l_take (hr.mono (by trivial)) mD T.l_take_.m T.l_take_.F.kp T.l_take_.B .nil (@lF _) #[[#[0,eC],#[()]]] (by decide) (by rfl) (by rfl)],#[hU 16 G_l_take (hr.mono (by trivial)) mD T.l_take_.m T.l_take_.F.kp T.l_take_.B .nil (@lF _) #[[#[0,eC],#[(),(),(@eI _ (K) (by rfl)),qh,T.b_len,(@bi),#[[#[1,aO]]]]]] (by decide) (by rfl) (by rfl)]]] (by kernel_rfl) (by rfl)] :: #[#[aN 8 #[au 8 (@cY _) #[3,fB] #[()] #[(),()]] #[ac 3 #[ai 4 #[aj 8 (@lH _) #[aR 10 (@oW _) #[1,aO] (@be _) #[aU 3 #[4,bX]]] #[aR 10 (@oW _) #[1,aO] #[aU 3 #[aj 8 (@bJ _) #[4,bX] #[()]]] (@be _)]]]] (@ay _)] :: #[#[aN 8 #[au 8 (@cY _) #[3,fB] #[()] #[(),()]] #[ac 3 #[ai 4 #[aj 8 (@lH _) #[aR 10 (@oW _) #[1,aO] (@be _) #[aU 3 #[aj 8 (@bJ _) #[4,bX] #[()]]]] #[aR 10 (@oW _) #[1,aO] #[aU 3 #[4,bX]] (@be _)]]]] (@ay _)] :: #[#[aN 8 #[au 8 (@cY _) #[3,fB] #[()] #[(),()]] #[ac 3 #[ai 4 #[aj 8 (@lH _) #[aj 8 (@lH _) #[aR 10 (@oW _) #[1,aO] (@be _) #[aU 3 #[4,bX]]] #[DI 7 #[aR 10 (@oW _) #[1,aO] #[aU 3 #[4,bX]] #[aU 3 #[aj 8 (@bJ _) #[4,bX] #[()]]]] #[aU 3 #[mI 6 (@lP _) #[()]]]]] #[aR 10 (@oW _) #[1,aO] #[aU 3 #[aj 8 (@bJ _) #[4,bX] #[()]]] (@be _)]]]] (@ay _)] :: #[#[aN 8 #[au 8 (@cY _) #[3,fB] #[()] #[(),()]] #[ac 3 #[ai 4 #[iH 8 #[aF 3 #[(),(),(@bv _ (K) (by rfl)),gz,T.b_isinstance,(@aq),#[[#[1,aO],#[cb 4 kh T.b_tuple (@aI) (by decide) (by decide)]]]] (by intro _;rfl)] #[bV 9 (@fX _ (K) (by rfl)) kR T.b_list (@d9) #[[#[1,aO]]] (by decide) (by decide) (by rfl) (by rfl)] #[bV 9 (@dh _ (K) (by rfl)) kh T.b_tuple (@aI) #[[#[1,aO]]] (by decide) (by decide) (by rfl) (by rfl)]]]] (@ay _)] :: #[#[5,mQ.nd,i8,#[hU 16 G_l_bent (hr.mono (by trivial)) tS T.l_bent_.m T.l_bent_.F.kp T.l_bent_.B .nil (@lF _) #[[#[0,eC],#[fS 7 (@Fk _ (K) (by rfl)) #[1,aO] #[4,bX] (fun _ _=>rfl)],#[aj 8 (@sY _) #[2,mG] #[()]]]] (by decide) (by rfl) (by rfl)]] :: #[ac 3 #[ai 4 #[aj 8 (@lH _) #[aj 8 (@lH _) #[aR 10 (@oW _) #[1,aO] (@be _) #[aU 3 #[4,bX]]] #[iH 8 #[aF 3 #[(),(),(@bv _ (K) (by rfl)),gz,T.b_isinstance,(@aq),#[[#[1,aO],#[cb 4 kR T.b_list (@d9) (by decide) (by decide)]]]] (by intro _;rfl)] #[bU 4 #[[#[5,i8]]]] #[ae 5 #[[#[5,i8]]]]]] #[aR 10 (@oW _) #[1,aO] #[aU 3 #[aj 8 (@bJ _) #[4,bX] #[()]]] (@be _)]]]]]]]]]]],?_⟩
  refine ml fun DZ nZ rZ=>?_
  obtain ⟨d,hx,wh⟩:=id hx0
  refine lV (fun J=>ad H J) (fun J=>ad H J∧Dj fun o c ys m l=>x=.ref o∧wV d=(!c)∧wT d=c∧(∀H',ar E' H H'→Ob c H' o ys)∧b5 z E' H ys m l∧m+1≤N∧l+1≤k∧ys.length≤20+8*z∧ys≠[]∧1≤n) (fun Q' y1 y0=>?_) (fun J sJ=>?_) (fun J hJ=>nZ _ _ ?_)
  ·refine ⟨(),(by show 2≤10000;decide),fun o3 H3 n3=>⟨x,o3,d,E',rfl,hx.mono n3.sm.toE,ak.of n3.at',(),?_⟩⟩
   rcases HB hx wh with ⟨hs⟩ | ⟨o,c,ys,m,l,rfl,hs,ht,hl,ob,ds,hm,hk',hwid⟩
   ·rw [hs]
    exact aa (y1 _ n3.sm)
   ·rw [hs]
    refine ah ⟨(),o,ys,rfl,F9 (ob _ n3.sm.toE),rfl,(),gr (fun c1=>y1 _ n3.sm) fun c1=>⟨(),rfl,(),?_⟩⟩
    by_cases hn:n=0
    ·subst hn
     exact y1 _ n3.sm
    ·rw [decide_eq_false (show ¬V.int (n:Int)=V.int 0 from fun z=>by injection z with z;trivial)]
     refine y0 _ ⟨n3.sm,o,c,ys,m,l,rfl,ht,hl,ob,ds,hm,hk',hwid,?_,by trivial⟩
     rintro rfl
     exact c1 (decide_eq_true rfl)
  ·exact ⟨(),(),b,x,t,E',z,N,k,rfl,B.same sJ,ht0,by trivial,hEb,hal.sm sJ,hx0.sm sJ,hz2,hz,hN,hk,fun y t' H' s' dy B' h1 h2=>rZ _ _ (K' y t' H' (sJ.toE.trans s') (dy.up (by trivial) (Nat.le_refl _)) B' h1 (by trivial))⟩
  obtain ⟨sJ,o,c,ys,m,l,rfl,htp,hls,ob,ds,hm,hl,hwid,hne,hn1⟩:=hJ
  clear nZ rZ
  have lm:ys.length≤m:=ds.len
  have lp:0<ys.length:=List.length_pos_iff.mpr hne
  have obJ:∀J',ar E' H J'→Ob c J' o ys:=ob
  refine cq fun D1 n1=>⟨(),b,9,t,rfl,B.same sJ,by decide,by decide,ht0,by trivial,fun wy t1 H1 w0 w1 h1a h1b s1 B1=>⟨(),(),o,ys,rfl,F9 (obJ _ ((sJ.toE.trans (s1.weak hEb)))),b,(ys.length:Int),t1,rfl,B1,by trivial,Nat.lt_of_le_of_lt (Nat.log2_le_self _) (by trivial),by trivial,by trivial,fun at_ t2 H2 a0 a1 h2a h2b s2 B2=>⟨_,(),n1 _ _ ?_⟩⟩⟩
  obtain ⟨i,rfl⟩:∃i:Nat,at_=(i:Int):=⟨at_.toNat,by trivial⟩
  have hi:i<ys.length:=by trivial
  have s02:ar E' H H2:=(sJ.toE.trans (s1.weak hEb)).trans (s2.weak hEb)
  have sb02:ar (Eb b) H H2:=(sJ.toE.trans s1).trans s2
  have al2:Al E' H2:=(hal.sm sJ |>.sE s1 B1).sE s2 B2
  have ds2:=(ds.sE s02).more (Nat.le_succ z)
  have hx2:=hx.mono s02
  have g2:Ob c H2 o ys:=ob _ s02
  have ne:∀{J:Hp}{p:Addr},ad H2 J→(c=true→J p=none)→c=true→¬E' p:=fun sJ f e=>(al2.sm sJ).ne (f e)
  have KK:∀y J t3,ar (Eb b) H2 J→Dx (z+1) E' J y (2*N+12) (k+2)→Bx J b t3→t2≤t3→t3≤t2+2*(n - 1)+2→Q y J:=fun y J t3 sJ hy BJ ha hb=>K' y t3 J (sb02.trans sJ) hy BJ (by trivial) (by trivial)
  clear K'
  have ei:ys[i]?=some ys[i]:=List.getElem?_eq_getElem hi
  obtain ⟨n1',m',n2',dtz,dez,drz,hnm⟩:=b5.split (ds.sE s02) ei
  have dt:=dtz.more (Nat.le_succ z)
  have de:=dez.more (Nat.le_succ z)
  have dr:=drz.more (Nat.le_succ z)
  have c1:cS ys none (some (i:Int))=ys.take i:=iR (by trivial)
  have c2:cS ys none (some ((i+1:Nat):Int))=ys.take (i+1):=iR (by trivial)
  have ea1:(i:Int)+1=((i+1:Nat):Int):=by trivial
  have ea2:(i:Int)+2=((i+2:Nat):Int):=by trivial
  have ldr:∀j,(ys.drop j).length≤ys.length:=fun j=>by rw [List.length_drop];trivial
  have ltk:∀j,(ys.take j).length≤ys.length:=fun j=>by rw [List.length_take];trivial
  refine ml fun D2 n2 r2=>lV (fun J=>ad H2 J∧wy=0) (fun J=>ad H2 J) (fun Q' y1 y0=>⟨(),rfl,(),by
   by_cases q:wy=0
   ·rw [vF,decide_eq_true q];exact y1 _ ⟨ad.refl _,q⟩
   ·rw [vF,decide_eq_false q];exact y0 _ (ad.refl _)⟩) (fun J hJ=>?_) (fun J sJ2=>n2 _ _ ?_)
  ·obtain ⟨sJ2,rfl⟩:=hJ
   refine ⟨(),(),(),c,o,ys,rfl,g2.sm sJ2,fun p1 J1 s3 h1 f1=>⟨(),(),_,(),rfl,(),c,o,ys,rfl,g2.sm (sJ2.trans s3),fun p2 J2 s4 h2 f2=>⟨c,p1,p2,_,(),rfl,h1.sm s4,h2,by rw [c1,ea1,eX];have:=ltk i;have:=ldr (i+1);trivial,fun p3 J3 s5 h3 f3=>r2 _ _ (KK _ _ t2 ((((sJ2.trans s3).trans s4).trans s5)).toE ?_ (B2.same (((sJ2.trans s3).trans s4).trans s5)) (by trivial) (by trivial))⟩⟩⟩
   rw [c1,ea1,eX] at h3
   have S5:=((sJ2.trans s3).trans s4).trans s5
   exact (zF h3 (ne ((sJ2.trans s3).trans s4) f3) ((dt.sm S5).append (dr.sm S5)) (by simp only [List.length_append,List.length_take,List.length_drop,List.length_reverse,List.length_cons,List.length_nil];trivial)).up (by trivial) (by trivial)
  clear n2 r2
  refine ml fun D2 n2 r2=>lV (fun J=>ad H2 J∧wy=1) (fun J=>ad H2 J) (fun Q' y1 y0=>⟨(),rfl,(),by
   by_cases q:wy=1
   ·rw [vF,decide_eq_true q];exact y1 _ ⟨sJ2,q⟩
   ·rw [vF,decide_eq_false q];exact y0 _ sJ2⟩) (fun J hJ=>?_) (fun J sJ2=>n2 _ _ ?_)
  ·obtain ⟨sJ2,rfl⟩:=hJ
   refine ⟨(),(),_,(),rfl,(),c,o,ys,rfl,g2.sm sJ2,fun p1 J1 s3 h1 f1=>⟨(),(),(),c,o,ys,rfl,g2.sm (sJ2.trans s3),fun p2 J2 s4 h2 f2=>⟨c,p1,p2,_,(),rfl,h1.sm s4,h2,by rw [ea1,c2,eX];have:=ltk (i+1);have:=ldr i;trivial,fun p3 J3 s5 h3 f3=>r2 _ _ (KK _ _ t2 ((((sJ2.trans s3).trans s4).trans s5)).toE ?_ (B2.same (((sJ2.trans s3).trans s4).trans s5)) (by trivial) (by trivial))⟩⟩⟩
   rw [ea1,c2,eX] at h3
   have S5:=((sJ2.trans s3).trans s4).trans s5
   exact (zF h3 (ne ((sJ2.trans s3).trans s4) f3) (((ds2.take (i+1)).sm S5).append ((ds2.drop i).sm S5)) (by simp only [List.length_append,List.length_take,List.length_drop,List.length_reverse,List.length_cons,List.length_nil];trivial)).up (by trivial) (by trivial)
  clear n2 r2
  refine ml fun D2 n2 r2=>lV (fun J=>ad H2 J∧wy=2) (fun J=>ad H2 J) (fun Q' y1 y0=>⟨(),rfl,(),by
   by_cases q:wy=2
   ·rw [vF,decide_eq_true q];exact y1 _ ⟨sJ2,q⟩
   ·rw [vF,decide_eq_false q];exact y0 _ sJ2⟩) (fun J hJ=>?_) (fun J sJ2=>n2 _ _ ?_)
  ·obtain ⟨sJ2,rfl⟩:=hJ
   refine ⟨(),(),(),c,o,ys,rfl,g2.sm sJ2,fun p1 J1 s3 h1 f1=>⟨(),(),(),(),_,(),rfl,(),c,o,ys,rfl,g2.sm (sJ2.trans s3),fun p2 J2 s4 h2 f2=>⟨(),(),?_⟩⟩⟩
   refine ⟨rfl,.inr ⟨c,p2,(),h2,fun p3 J3 s5 h3 f3=>⟨c,p1,p3,_,(),rfl,h1.sm (s4.trans s5),h3,?_,fun p4 J4 s6 h4 f4=>?_⟩⟩⟩
   ·rw [c1,ea2,so i (by trivial),List.length_reverse,List.length_take,List.length_take,List.length_drop]
    trivial
   have l34:(cS ys none (some (i:Int))).length≤ys.length:=by rw [c1];exact ltk i
   have l35:(cS ys (some (i:Int)) (some ((i:Int)+2))).reverse.length≤2:=by rw [ea2,so i (by trivial),List.length_reverse,List.length_take];trivial
   refine ⟨(),(),_,(),rfl,(),c,o,ys,rfl,g2.sm ((((sJ2.trans s3).trans s4).trans s5).trans s6),fun p5 J5 s7 h5 f5=>⟨c,p4,p5,_,(),rfl,h4.sm s7,h5,by rw [List.length_append,ea2,eX];have:=ldr (i+2);rw [ea2] at l35;trivial,fun p6 J6 s8 h6 f6=>?_⟩⟩
   have S7:=((((sJ2.trans s3).trans s4).trans s5).trans s6).trans s7
   have S8:=S7.trans s8
   refine r2 _ _ (KK _ _ t2 S8.toE ?_ (B2.same S8) (by trivial) (by trivial))
   rw [c1,ea2,so i (by trivial),eX] at h6
   have dd:b5 (z+1) E' H2 (ys.drop i) (m'+n2') l:=by rw [List.drop_eq_getElem_cons hi];exact b5.cons de dr
   have d2:b5 (z+1) E' H2 (ys.drop (i+2)) (m'+n2') l:=by
    have:=dd.drop 2
    rw [List.drop_drop] at this
    exact this
   exact (zF h6 (ne S7 f6) (((dt.sm S8).append ((dd.take 2).reverse.sm S8)).append (d2.sm S8)) (by simp only [List.length_append,List.length_take,List.length_drop,List.length_reverse,List.length_cons,List.length_nil];trivial)).up (by trivial) (by trivial)
  clear n2 r2
  refine ml fun D2 n2 r2=>lV (fun J=>ad H2 J∧wy=3) (fun J=>ad H2 J) (fun Q' y1 y0=>⟨(),rfl,(),by
   by_cases q:wy=3
   ·rw [vF,decide_eq_true q];exact y1 _ ⟨sJ2,q⟩
   ·rw [vF,decide_eq_false q];exact y0 _ sJ2⟩) (fun J hJ=>?_) (fun J sJ2=>n2 _ _ ?_)
  ·obtain ⟨sJ2,rfl⟩:=hJ
   refine ⟨(),_,_,_,(),(hx2.mono sJ2.toE).ty,cf d,(),?_⟩
   rw [htp]
   have fin:∀p J3,ad J J3→Dx (z+1) E' J3 (.ref p) (m+1) (l+1)→D2.rt (.ref p) J3:=fun p J3 s3 hd=>r2 _ _ (KK _ _ t2 (sJ2.trans s3).toE (hd.up (by trivial) (by trivial)) (B2.same (sJ2.trans s3)) (by trivial) (by trivial))
   cases c with
   | false=>exact aa ⟨_,rfl,o,ys,rfl,.inr (ak.of (g2.sm sJ2)),fun q J3 n3=>fin q J3 n3.sm (Dx.lst n3.at' ((al2.sm sJ2).ne n3.fr) (ds2.sm (sJ2.trans n3.sm)) (by trivial))⟩
   | true=>exact ah ⟨_,rfl,o,ys,rfl,aE.of (g2.sm sJ2),fun q J3 n3=>fin q J3 n3.sm (Dx.tup n3.at' (ds2.sm (sJ2.trans n3.sm)) (by trivial))⟩
  clear n2 r2
  have esp:=hsp hn1
  subst esp
  have ix:∀(J':Hp) (Qk:VK),ad H2 J'→Qk ys[i] J'→Gz K (.ref o) (.int (i:Int)) J' Qk:=fun J' Qk s q=>by
   have g:=g2.sm s
   cases c with
   | true=>exact .inl ⟨o,_,_,_,rfl,rfl,aE.of g,kl ei,q⟩
   | false=>exact .inr (.inl ⟨o,_,_,_,rfl,rfl,ak.of g,kl ei,q⟩)
  refine cq fun D3 n3=>⟨(),(),(),ix J _ sJ2 ⟨(),_,(),rfl,b,ys[i],t2,E',z,m',l,by show [V.ref b,ys[i],V.int ((n:Int) - 1)]=_;rw [show (n:Int) - 1=((n - 1:Nat):Int) by trivial],B2.same sJ2,by trivial,by trivial,hEb,al2.sm sJ2,dez.sm sJ2,hz2,hz,by trivial,by trivial,fun mv t3 J3 s3 dm B3 h3a h3b=>n3 _ _ ?_⟩⟩
  have al3:=(al2.sm sJ2).sE s3 B3
  have s3w:=s3.weak hEb
  have s23:ar E' H2 J3:=(sJ2.toE (E:=E')).trans s3w
  have g3:Ob c J3 o ys:=ob _ (s02.trans s23)
  have ne3:∀{J:Hp}{p:Addr},ad J3 J→(c=true→J p=none)→c=true→¬E' p:=fun sJ f e=>(al3.sm sJ).ne (f e)
  have fin:∀p J4,ad J3 J4→Dx (z+1) E' J4 (.ref p) (2*N+12) (k+2)→Q (.ref p) J4:=fun p J4 s4 hd=>KK _ _ t3 ((sJ2.toE.trans s3).trans s4.toE) hd (B3.same s4) h3a (by trivial)
  refine ⟨(),(),(),c,o,ys,rfl,g3,fun p1 J4 s4 h1 f1=>⟨(),_,_,_,(),(hx2.mono (s23.trans s4.toE)).ty,xZ d,(),?_⟩⟩
  rw [hls]
  refine IZ (fun y H'=>∃p,y=.ref p∧ad J4 H'∧Ob c H' p [mv]) ?rest ?h1 ?h2
  case h1=>
   intro ec rest
   subst ec
   exact ⟨(),(by show 1≤10000;decide),fun p J5 n5=>rest _ _ ⟨p,rfl,n5.sm,n5.at'⟩⟩
  case h2=>
   intro ec rest
   subst ec
   exact ⟨(),(by show 1≤10000;decide),fun p J5 n5=>rest _ _ ⟨p,rfl,n5.sm,n5.at'⟩⟩
  case rest=>
  rintro _ J5 ⟨p2,rfl,s5,h2⟩
  rw [c1] at h1
  refine ⟨c,p1,p2,ys.take i,(),rfl,h1.sm s5,h2,by have:=ltk i;show _+1≤10000;trivial,fun p3 J6 s6 h3 f3=>⟨(),(),_,(),rfl,(),c,o,ys,rfl,g3.sm ((s4.trans s5).trans s6),fun p4 J7 s7 h4 f4=>⟨c,p3,p4,_,(),rfl,h3.sm s7,h4,?_,fun p5 J8 s8 h5 f5=>fin p5 J8 ((((s4.trans s5).trans s6).trans s7).trans s8) ?_⟩⟩⟩
  ·rw [ea1,eX,List.length_append]
   have:=ltk i
   have:=ldr (i+1)
   show _+1+_≤10000
   trivial
  ·rw [ea1,eX] at h5
   have S7:=((s4.trans s5).trans s6).trans s7
   have S8:=S7.trans s8
   have dm8:=dm.sm S8
   exact (zF h5 (ne3 S7 f5) ((((dt.sE (s23.trans S8.toE)).up (Nat.le_refl _) (show l≤l+2 by trivial)).append (b5.one dm8)).append ((dr.sE (s23.trans S8.toE)).up (Nat.le_refl _) (show l≤l+2 by trivial))) (by simp only [List.length_append,List.length_take,List.length_drop,List.length_reverse,List.length_cons,List.length_nil];trivial)).up (by trivial) (by trivial)
end
end K53
namespace K53
open PySem L2
set_option maxHeartbeats 16000000
theorem AB {p q:Prop} [Decidable p] [Decidable q] (h:p↔q):decide p=decide q:=by
 by_cases hp:p
 ·rw [decide_eq_true hp,decide_eq_true (h.mp hp)]
 ·rw [decide_eq_false hp,decide_eq_false fun z=>hp (h.mpr z)]
theorem pC {α β:Type}{f:α→β} (hf:∀a b,f a=f b→a=b):∀{l:List α},(l.map f).Nodup↔l.Nodup
 | []=>by simp
 | a :: r=>by
  rw [List.map_cons,List.nodup_cons,List.nodup_cons,pC hf]
  constructor
  ·rintro ⟨h1,h2⟩;exact ⟨fun z=>h1 (List.mem_map.mpr ⟨a,z,rfl⟩),h2⟩
  ·rintro ⟨h1,h2⟩
   refine ⟨fun z=>?_,h2⟩
   obtain ⟨b,hb,e⟩:=List.mem_map.mp z
   exact h1 (hf b a e▸hb)
theorem rY (ks:List bp):decide (V.int ((cK ks).length:Nat)=V.int (ks.length:Nat))=decide ks.Nodup:=by
 by_cases h:ks.Nodup
 ·rw [(tx ks).mpr h,decide_eq_true rfl,decide_eq_true h]
 ·rw [decide_eq_false h,decide_eq_false]
  intro z
  injection z with z
  exact h ((tx ks).mp (by trivial))
def dE (d:PyData):Bool:=match d with
 | .tuple [.int n,.int e]=>c9 (.tuple [.int n,.int e]) && decide (0<n)
 | _=>false
def aV:PyData→Str
 | .str x=>x
 | _=>Str.ofString ""
def gk:PyData→Bool
 | .tuple ds=>(!ds.isEmpty && ds.all da) && decide (ds.map aV).Nodup
 | _=>false
def b7 (ps:List PyData) (d:PyData):Bool:=ps.any fun z=>PyData.eqv z d
def r9 (ps:List PyData) (d:PyData):Bool:=match d with
 | .tuple [b,e,m,g,p]=>((b7 ps b && b7 ps e) && !PyData.eqv b e) && (aX m && (dE g && aX p))
 | _=>false
theorem Cl {d:PyData} (h:da d=true):d=.str (aV d):=by
 cases d <;> first | rfl | cases h
theorem oI {ds:List PyData} (h:ds.all da=true):ds=(ds.map aV).map PyData.str:=by
 induction ds with
 | nil=>rfl
 | cons d r ih=>
  rw [List.all_cons,Bool.and_eq_true] at h
  rw [List.map_cons,List.map_cons,←ih h.2,←Cl h.1]
theorem oC {E:Addr→Prop}{H:Hp}:∀{ss:List Str}{xs:List V},aG E H xs (ss.map PyData.str)→xs=ss.map V.str
 | [],_,.nil=>rfl
 | n :: r,_,.cons h t=>by
  cases h
  rw [oC t];rfl
theorem vH (ss:List Str):ss.map V.str=(ss.map fun s=>(Sum.inr s:bp)).map qF:=by
 rw [List.map_map];rfl
theorem ut (ss:List Str):(ss.map fun s=>(Sum.inr s:bp)).Nodup↔ss.Nodup:=pC fun a b h=>by
 injection h with h
theorem uY {d:PyData} (h:c9 d=false):dE d=false:=by
 unfold dE
 split
 ·rw [h];rfl
 ·rfl
theorem CD {ps ds:List PyData} (h:ds.length≠5):r9 ps (.tuple ds)=false:=by
 unfold r9
 split
 ·rename_i z
  injection z with z
  subst z
  simp at h
 ·rfl
theorem cP {ds:List PyData}{n k:Nat} (h:Wt (.tuple ds) n k):∀d∈ds,∃m,m≤n∧Wt d m k:=fun d hd=>by
 cases h with
 | @tuple _ n' k' wl=>
  obtain ⟨m,hm,w⟩:=DX wl hd
  exact ⟨m,by trivial,w.deep (by trivial)⟩
theorem gL {ds:List PyData}{n k:Nat} (h:cu ds n k):ds.length≤n:=by
 induction ds generalizing n with
 | nil=>exact Nat.zero_le _
 | cons d r ih=>
  cases h with
  | cons h1 h2=>
   have:=ih h2
   have:=h1.pos
   simp;trivial
section
variable {P:Program}{w:World}{K:PySem.W.Frag}{mg:Str→Option Value}{base:Heap}
theorem kA (T:Txt K mg):bt P w K mg base CX0 3 T.is_above_nought_.f T.is_above_nought_.d ["thing"] (fun vs H Q _=>eV fun (x:V) (d:PyData) (E:Addr→Prop)=>vs=[x]∧bh E H x d∧Q (.bl (dE d)) H):=by
 have G_is_fraction:=#[(nQ)]
 refine T.is_above_nought_.F.ok qP (fun vs H Q E h=>?_) (fun cdv A outer s H vs Q E hr h=>?_)
 ·obtain ⟨x,d,E',rfl,_⟩:=h
  rfl
 ·obtain ⟨x,d,E',rfl,hx,k⟩:=h
  refine ⟨_,#[ac 3 #[ai 4 #[cG 7 #[G_is_fraction,jz,T.is_fraction_,#[[#[0,ia]]]] #[cX 5 #[bY 8 (@oz _) #[#[0,ia][#[()]]] #[()] #[(),()]]]]]],?_⟩
  refine ⟨(),x,d,E',rfl,hx,(),?_⟩
  cases hb:c9 d with
  | false=>
   rw [uY hb] at k
   exact ah k
  | true=>
   obtain ⟨n,e,rfl,h1,h2⟩:=rV hb
   obtain ⟨o,rfl,ho⟩:=sq hx
   refine aa ⟨(),o,_,_,(),rfl,ak.of ho,rfl,_,(),rfl,?_⟩
   have e0:dE (.tuple [.int n,.int e])=decide (0<n):=by
    show (c9 (.tuple [.int n,.int e]) && decide (0<n))=_
    rw [hb];rfl
   rw [e0] at k
   exact k
theorem xV (T:Txt K mg):bt P w K mg base CX0 2 T.are_names_.f T.are_names_.d ["thing"] (wA gk):=by
 have G_is_name:=#[(Ao)]
 refine T.are_names_.F.ok xc (fun vs H Q E h=>?_) (fun cdv A outer s H vs Q E hr h=>?_)
 ·obtain ⟨x,d,E',wn,wk,rfl,_⟩:=h
  rfl
 ·obtain ⟨x,d,E',wn,wk,rfl,hx,wd,hwn,hwk,k⟩:=h
  refine ⟨_,#[#[aN 8 #[PW.pt 3 #[bd 7 #[aK 4 #[aF 3 #[(),(),(@bv _ (K) (by rfl)),nu,T.b_isinstance,(@aq),#[[#[0,dP],#[cb 4 rd T.b_tuple (@aI) (by decide) (by decide)]]]] (by intro _;rfl)]] #[bK 4 #[au 8 (@cY _) #[(),(),(@eI _ (K) (by rfl)),jn,T.b_len,(@bi),#[[#[0,dP]]]] #[()] #[(),()]]]]] #[ac 3 #[ai 4 #[bj 4]]] (@ay _)] :: #[#[aN 8 #[aK 4 #[aF 3 #[(),(),(@eY _ (K) rfl (by rfl)),sU,T.b_all,(@bQ),#[[#[bA 7 (["name"]) (1) ([]) _ _ _ _ rfl (by kernel_rfl) (@bI _ (K) _ _ _ #[0,dP] (by rfl)) (fun _ _ _ _ _ _=>#[0,(),()]) (fun _ _ _ _ _ _=>@bu _) (fun _ _ _ _ _ _=>#[G_is_name,(),T.is_name_,#[[#[0,()]]]]) (by intro _;rfl)]]]] (by intro _;rfl)]] #[ac 3 #[ai 4 #[bj 4]]] (@ay _)] :: #[ac 3 #[ai 4 #[bY 8 (@cY _) (@qL _ (K) _ _ _ _ _ _ #[0,dP] rfl jn T.b_len sX T.b_set (by rfl) (by rfl)) #[(),(),(@eI _ (K) (by rfl)),jn,T.b_len,(@bi),#[[#[0,dP]]]] #[(),()]]]]]],?_⟩
  refine ⟨(),_,_,_,(),hx.ty,cf d,(),?_⟩
  have k0:=k H (ad.refl _)
  cases hx with
  | non=>exact aa (aa k0)
  | bl b=>exact aa (aa k0)
  | int i=>exact aa (aa k0)
  | str y=>exact aa (aa k0)
  | lst h ne r=>exact aa (aa k0)
  | @tup a xs ds h r=>
   have lx:=r.length
   have lds:ds.length≤wn:=by
    cases wd with
    | tuple wl=>have:=gL wl;trivial
   refine ah ⟨(),a,xs,rfl,.inr (ak.of h),rfl,(),?_⟩
   have ed:gk (.tuple ds)=((!ds.isEmpty && ds.all da) && decide (ds.map aV).Nodup):=rfl
   by_cases h0:ds=[]
   ·subst h0
    have:xs.length=0:=lx
    rw [this]
    exact aa k0
   ·have hp:0<ds.length:=List.length_pos_iff.mpr h0
    rw [IC,decide_eq_false (by trivial)]
    have he:ds.isEmpty=false:=by cases ds with | nil=>exact absurd rfl h0 | cons _ _=>rfl
    refine ah ?_
    refine ⟨(),a,rfl,⟨_,ak.of h⟩,fun D hD=>qO (xs:=xs) (fun i=>.bl (da ((ds[i]?).getD .none))) (by trivial) hD h ?_ ?_⟩
    ·intro i x H' R hxi sm kk
     obtain ⟨dx,e1,g1⟩:=r.get hxi
     rw [e1] at kk
     obtain ⟨m,hm,wx⟩:=cP wd dx (List.mem_of_getElem? e1)
     exact ⟨dq,(),x,dx,E',m,wk,rfl,g1.mono sm.toE,wx,by trivial,hwk,fun H4 s4=>kk H4 s4⟩
    ·intro H1 s1 hD1
     have e3:(List.range xs.length).map (fun i=>V.bl (da ((ds[i]?).getD .none)))=(ds.map da).map V.bl:=by
      rw [lx,eH (fun i=>V.bl (da ((ds[i]?).getD .none))) (fun d=>V.bl (da d)) ds (fun i x e=>by rw [e];rfl),List.map_map]
      rfl
     rw [e3] at hD1
     refine ⟨D,(),aE.of hD1,(),?_⟩
     have e4:(ds.map da).all id=ds.all da:=by rw [List.all_map];rfl
     rw [e4]
     have k1:=k H1 s1
     rw [ed,he] at k1
     cases hb:ds.all da with
     | false=>
      rw [hb] at k1
      exact aa k1
     | true=>
      rw [hb] at k1
      refine ah ?_
      have es:=oI hb
      rw [es] at r
      have ex:=oC r
      have h1:=s1 _ _ h
      refine ⟨(),a,(ds.map aV).map fun s=>(Sum.inr s:bp),rfl,.inr (ak.of (by rw [←vH,←ex];exact h1)),by simp;trivial,(),a,xs,rfl,.inr (ak.of h1),rfl,?_⟩
      have e6:=rY ((ds.map aV).map fun s=>(Sum.inr s:bp))
      rw [AB (ut (ds.map aV))] at e6
      have e7:(xs.length:Int)=(((ds.map aV).map fun s=>(Sum.inr s:bp)).length:Nat):=by simp;trivial
      rw [e7,e6]
      exact k1
inductive Cm (f:List PyData→PyData→Bool) (ok:List PyData→Prop) (vs:List V) (H:Hp) (Q:VK):Prop
 | mk (p x:V) (ps:List PyData) (d:PyData) (E F:Addr→Prop) (pn pk wn wk:Nat) (h0:vs=[p,x]) (h1:bh F H p (.tuple ps)) (h2:Wt (.tuple ps) pn pk) (h3:pk≤40) (h4:ok ps) (h5:bh E H x d) (h6:Wt d wn wk) (h7:wn≤3000) (h8:wk≤40) (h9:∀H',ad H H'→Q (.bl (f ps d)) H')
def yK (f:List PyData→PyData→Bool) (ok:List PyData→Prop):Sp:=fun vs H Q _=>Cm f ok vs H Q
theorem A8 (T:Txt K mg):bt P w K mg base CX0 4 T.is_tie_.f T.is_tie_.d ["places", "thing"] (yK r9 fun _=>True):=by
 have G_is_from_nought:=#[(fo)]
 have G_is_above_nought:=#[(kA)]
 refine T.is_tie_.F.ok iO (fun vs H Q E h=>?_) (fun cdv A outer s H vs Q E hr h=>?_)
 ·obtain ⟨p,x,ps,d,E',F,pn,pk,wn,wk,rfl,_⟩:=h
  rfl
 ·obtain ⟨p,x,ps,d,E',F,pn,pk,wn,wk,rfl,hp,wp,hpk,_,hx,wd,hwn,hwk,k⟩:=h
  refine ⟨_,#[#[aN 8 #[PW.pt 3 #[bd 7 #[aK 4 #[aF 3 #[(),(),(@bv _ (K) (by rfl)),pU,T.b_isinstance,(@aq),#[[#[1,jW],#[cb 4 uR T.b_tuple (@aI) (by decide) (by decide)]]]] (by intro _;rfl)]] #[bK 4 #[au 8 (@iz _) #[(),(),(@eI _ (K) (by rfl)),xI,T.b_len,(@bi),#[[#[1,jW]]]] #[()] #[(),()]]]]] #[ac 3 #[ai 4 #[bj 4]]] (@ay _)] :: #[#[gK 6 #[1,jW] (@fP _ (K) _ _ _ _ (5) rfl #[aP 5 #[2,iO.nd,jS] #[aP 5 #[3,iO.nd,me] #[aP 5 #[4,iO.nd,pE] #[aP 5 #[5,iO.nd,pH] #[aP 5 #[6,iO.nd,nM] (@fD _) (by rfl)] (by rfl)] (by rfl)] (by rfl)] (by rfl)] (by rfl) (by rfl) (by rfl)) (by rfl) (by rfl) (by rfl)] :: #[#[aN 8 #[PW.pt 3 #[bd 7 #[au 8 (@eJ _ hr.units) #[2,jS] #[0,mK] rfl] #[bd 7 #[au 8 (@eJ _ hr.units) #[3,me] #[0,mK] rfl] #[bK 4 #[au 8 (@qg _ hr.units) #[2,jS] #[3,me] #[(),()]]]]]] #[ac 3 #[ai 4 #[bj 4]]] (@ay _)] :: #[ac 3 #[ai 4 #[cG 7 #[G_is_from_nought,ib,T.is_from_nought_,#[[#[4,pE]]]] #[cG 7 #[G_is_above_nought,lX,T.is_above_nought_,#[[#[5,pH]]]] #[cX 5 #[G_is_from_nought,ib,T.is_from_nought_,#[[#[6,nM]]]]]]]]]]]],?_⟩
  refine ⟨(),_,_,_,(),hx.ty,cf d,(),?_⟩
  have k0:=k H (ad.refl _)
  cases hx with
  | non=>exact aa (aa k0)
  | bl b=>exact aa (aa k0)
  | int i=>exact aa (aa k0)
  | str y=>exact aa (aa k0)
  | lst h ne r=>exact aa (aa k0)
  | @tup a xs ds h r=>
   have lx:=r.length
   refine ah ⟨(),a,xs,rfl,.inr (ak.of h),rfl,(),?_⟩
   by_cases h5:ds.length=5
   ·obtain ⟨d1,d2,d3,d4,d5,rfl⟩:Dj fun d1 d2 d3 d4 d5=>ds=[d1,d2,d3,d4,d5]:=by
     match ds,h5 with
     | [d1,d2,d3,d4,d5],_=>exact ⟨d1,d2,d3,d4,d5,rfl⟩
    have wall:=cP wd
    obtain ⟨m1,_,w1⟩:=wall d1 (by simp)
    obtain ⟨m2,_,w2⟩:=wall d2 (by simp)
    cases r with
    | @cons x1 _ _ _ r1 r=>
    cases r with
    | @cons x2 _ _ _ r2 r=>
    cases r with
    | @cons x3 _ _ _ r3 r=>
    cases r with
    | @cons x4 _ _ _ r4 r=>
    cases r with
    | @cons x5 _ _ _ r5 r=>
    cases r
    refine ah ?_
    refine ⟨(),a,[x1,x2,x3,x4,x5],rfl,ak.of h,rfl,_,(),_,(),_,(),_,(),_,(),rfl,?_⟩
    have et:r9 ps (.tuple [d1,d2,d3,d4,d5])=(((b7 ps d1 && b7 ps d2) && !PyData.eqv d1 d2) && (aX d3 && (dE d4 && aX d5))):=rfl
    rw [et] at k0
    refine ⟨(),(),d1,.tuple ps,E',F,_,_,_,_,ps,r1,hp,w1,wp,by trivial,rfl,(),?_⟩
    cases hb1:b7 ps d1 with
    | false=>
     rw [hb1] at k0
     have:(if true=true then !(ps.any fun z=>PyData.eqv z d1) else ps.any fun z=>PyData.eqv z d1)=true:=by
      show (!b7 ps d1)=true
      rw [hb1];rfl
     rw [this]
     exact aa (aa k0)
    | true=>
     rw [hb1] at k0
     have:(if true=true then !(ps.any fun z=>PyData.eqv z d1) else ps.any fun z=>PyData.eqv z d1)=false:=by
      show (!b7 ps d1)=false
      rw [hb1];rfl
     rw [this]
     refine ah ⟨(),(),d2,.tuple ps,E',F,_,_,_,_,ps,r2,hp,w2,wp,by trivial,rfl,(),?_⟩
     cases hb2:b7 ps d2 with
     | false=>
      rw [hb2] at k0
      have:(if true=true then !(ps.any fun z=>PyData.eqv z d2) else ps.any fun z=>PyData.eqv z d2)=true:=by
       show (!b7 ps d2)=true
       rw [hb2];rfl
      rw [this]
      exact aa (aa k0)
     | true=>
      rw [hb2] at k0
      have:(if true=true then !(ps.any fun z=>PyData.eqv z d2) else ps.any fun z=>PyData.eqv z d2)=false:=by
       show (!b7 ps d2)=false
       rw [hb2];rfl
      rw [this]
      refine ah ⟨(),(),d1,d2,E',E',_,_,_,_,r1,r2,w1,w2,by trivial,(),?_⟩
      cases hb3:PyData.eqv d1 d2 with
      | true=>
       rw [hb3] at k0
       exact aa k0
      | false=>
       rw [hb3] at k0
       refine ah ?_
       refine ⟨(),x3,d3,E',rfl,r3,(),?_⟩
       cases hb4:aX d3 with
       | false=>
        rw [hb4] at k0
        exact ah k0
       | true=>
        rw [hb4] at k0
        refine aa ⟨(),x4,d4,E',rfl,r4,(),?_⟩
        cases hb5:dE d4 with
        | false=>
         rw [hb5] at k0
         exact ah k0
        | true=>
         rw [hb5] at k0
         exact aa ⟨(),x5,d5,E',rfl,r5,k0⟩
   ·rw [CD h5] at k0
    have:(!decide (V.int (xs.length:Int)=V.int 5))=true:=nU (b:=5) (by trivial)
    rw [this]
    exact aa k0
end
end K53
namespace K53
open PySem L2
set_option maxHeartbeats 16000000
def bC (hr:Int):PyData→Bool
 | .int n=>decide (0≤n) && decide (n<hr)
 | _=>false
def oD:PyData→Bool
 | .int n=>decide (0≤n)
 | _=>false
def kK:PyData→Int
 | .int n=>n
 | _=>0
def dz (ns:List Int):List Bool:=List.zipWith (fun a b=>decide (a<b)) ns (ns.drop 1)
def nF (hr:Int):PyData→Bool
 | .tuple ds=>ds.all (bC hr) && (dz (ds.map kK)).all id
 | _=>false
def dS (ps:List PyData) (hr:Int):PyData→Bool
 | .tuple [b,e,m,g,p,l,o]=>r9 ps (.tuple [b,e,m,g,p]) && (oD l && nF hr o)
 | _=>false
def dn (ps:List PyData):PyData→Bool
 | .tuple [b,m,k]=>b7 ps b && (aX m && dL k (1,1))
 | _=>false
def dR (ps:List PyData) (hr:Int):PyData→Bool
 | .tuple [b,h,m,p]=>(b7 ps b && bC hr h) && (aX m && aX p)
 | _=>false
def fv (ps:List PyData) (hr:Int):PyData→Bool
 | .tuple [b,h,a]=>b7 ps b && (bC hr h && dE a)
 | _=>false
def cT:PyData→PyData
 | .tuple (b :: _)=>b
 | _=>.none
def kB:PyData→Bool
 | .tuple _=>true
 | _=>false
def fW:PyData→List PyData
 | .tuple ds=>ds
 | _=>[]
def iD:PyData→Bool
 | .tuple [p,h,t,s,w,i]=>match h with
  | .int hr=>(gk p && decide (1≤hr)) && ([t,s,w,i].all kB && ((fW t).all (dS (fW p) hr) && ((fW s).all (dn (fW p)) && (decide ((fW s).map fun d=>aV (cT d)).Nodup && ((fW w).all (dR (fW p) hr) && (fW i).all (fv (fW p) hr))))))
  | _=>false
 | _=>false
theorem nI {ps:List PyData}{d:PyData}:(if true=true then !(ps.any fun z=>PyData.eqv z d) else ps.any fun z=>PyData.eqv z d)=!b7 ps d:=rfl
theorem Ct {ds:List PyData}{n k:Nat} (h:cu ds n k):∀i,∃m,m≤n∧cu (ds.take i) m k:=by
 induction ds generalizing n with
 | nil=>intro i;exact ⟨0,Nat.zero_le _,by simp;exact .nil⟩
 | cons d r ih=>
  intro i
  cases h with
  | cons h1 h2=>
   cases i with
   | zero=>exact ⟨0,Nat.zero_le _,.nil⟩
   | succ i=>
    obtain ⟨m,hm,w⟩:=ih h2 i
    exact ⟨_,by trivial,.cons h1 w⟩
theorem vz {ps:List PyData}{hr:Int}{d:PyData} (h:dS ps hr d=true):∃ds,d=.tuple ds∧ds.length=7:=by
 unfold dS at h
 split at h
 ·exact ⟨(),rfl⟩
 ·cases h
theorem mO {ps:List PyData}{d:PyData} (h:dn ps d=true):eV fun b m k=>d=.tuple [b,m,k]∧b7 ps b=true:=by
 unfold dn at h
 split at h
 ·rw [Bool.and_eq_true] at h
  exact ⟨_,_,(),h.1⟩
 ·cases h
theorem vi {ps:List PyData}{hr:Int}{d:PyData} (h:dR ps hr d=true):∃ds,d=.tuple ds∧ds.length=4:=by
 unfold dR at h
 split at h
 ·exact ⟨(),rfl⟩
 ·cases h
theorem vG {ps:List PyData}{hr:Int}{d:PyData} (h:fv ps hr d=true):∃ds,d=.tuple ds∧ds.length=3:=by
 unfold fv at h
 split at h
 ·exact ⟨(),rfl⟩
 ·cases h
theorem xM {d:PyData} (h:iD d=true):∃ds,d=.tuple ds∧ds.length=6:=by
 unfold iD at h
 split at h
 ·exact ⟨(),rfl⟩
 ·cases h
theorem mH {f:PyData→Bool}{n:Nat}{d:PyData} (h:dO n d=false) (hf:f d=true→∃ds,d=.tuple ds∧ds.length=n):f d=false:=by
 cases hc:f d with
 | false=>rfl
 | true=>
  obtain ⟨ds,rfl,hl⟩:=hf hc
  rw [show dO n (.tuple ds)=decide (ds.length=n) from rfl,decide_eq_true hl] at h
  cases h
theorem qi {hr:Int}:∀{ds:List PyData},ds.all (bC hr)=true→ds=(ds.map kK).map PyData.int
 | [],_=>rfl
 | d :: r,h=>by
  rw [List.all_cons,Bool.and_eq_true] at h
  have e:=qi h.2
  rw [List.map_cons,List.map_cons,←e]
  cases d with
  | int n=>rfl
  | _=>cases h.1
theorem pq {E:Addr→Prop}{H:Hp}:∀{ns:List Int}{xs:List V},aG E H xs (ns.map PyData.int)→xs=ns.map V.int
 | [],_,.nil=>rfl
 | n :: r,_,.cons h t=>by
  cases h
  rw [pq t];rfl
theorem yT {ns:List Str}{d:PyData} (h:b7 (ns.map PyData.str) d=true):d=.str (aV d):=by
 unfold b7 at h
 obtain ⟨z,hz,e⟩:=List.any_eq_true.mp h
 obtain ⟨s,_,rfl⟩:=List.mem_map.mp hz
 cases d with
 | str x=>rfl
 | _=>simp [PyData.eqv] at e
section
variable {P:Program}{w:World}{K:PySem.W.Frag}{mg:Str→Option Value}{base:Heap}
inductive Es (vs:List V) (H:Hp) (Q:VK):Prop
 | mk (x:V) (hr:Int) (d:PyData) (E:Addr→Prop) (h0:vs=[.int hr,x]) (h1:bh E H x d) (h2:Q (.bl (bC hr d)) H)
def Gh:Sp:=fun vs H Q _=>Es  vs H Q
theorem gZ {d:PyData} (h:eB d=true):∃n,d=.int n:=by
 cases d with
 | int n=>exact ⟨n,rfl⟩
 | _=>cases h
theorem oY (T:Txt K mg):bt P w K mg base CX0 2 T.is_hour_.f T.is_hour_.d ["hours", "thing"] Gh:=by
 have G_is_number:=#[(jx)]
 refine T.is_hour_.F.ok zZ (fun vs H Q E h=>?_) (fun cdv A outer s H vs Q E hr h=>?_)
 ·obtain ⟨x,hr,d,E',rfl,_⟩:=h
  rfl
 ·obtain ⟨x,hh,d,E',rfl,hx,k⟩:=h
  refine ⟨_,#[ac 3 #[ai 4 #[cG 7 #[G_is_number,pR,T.is_number_,#[[#[1,mN]]]] #[cX 5 #[lR 12 (@lg _) (@dQ _) #[()] #[1,mN] #[0,sD] (by with_unfolding_all rfl)]]]]],?_⟩
  refine ⟨(),x,d,E',rfl,hx,(),?_⟩
  cases hb:eB d with
  | false=>
   rw [show bC hh d=false by cases d <;> first | rfl | cases hb] at k
   exact ah k
  | true=>
   obtain ⟨n,rfl⟩:=gZ hb
   cases hx
   refine aa ⟨(),_,(),rfl,(),?_⟩
   have e0:bC hh (.int n)=(decide (0≤n) && decide (n<hh)):=rfl
   rw [e0] at k
   by_cases h0:0≤n
   ·rw [decide_eq_true h0,Bool.true_and] at k
    rw [decide_eq_true h0]
    exact aa ⟨(),_,(),rfl,k⟩
   ·rw [decide_eq_false h0,Bool.false_and] at k
    rw [decide_eq_false h0]
    exact ah k
end
end K53
namespace K53
open PySem L2
set_option maxHeartbeats 16000000
theorem II {E:Addr→Prop}{H:Hp}{o:Addr}{p:KM.Fra} (h:H o=some (fr p)):bh E H (.ref o) (fh p):=.tup h (.cons (.int _) (.cons (.int _) .nil))
theorem HQ:Fb 40 1 1:=⟨by show (1:Int).natAbs<2 ^ 40;decide,by show (1:Int).natAbs<2 ^ 40;decide,by decide,by decide⟩
section
variable {P:Program}{w:World}{K:PySem.W.Frag}{mg:Str→Option Value}{base:Heap}
inductive EZ (vs:List V) (H:Hp) (Q:VK):Prop
 | mk (x:V) (hr:Int) (d:PyData) (E:Addr→Prop) (wn wk:Nat) (h0:vs=[.int hr,x]) (h1:bh E H x d) (h2:Wt d wn wk) (h3:wn≤3000) (h4:∀H',ad H H'→Q (.bl (nF hr d)) H')
def GV:Sp:=fun vs H Q _=>EZ  vs H Q
theorem xG (T:Txt K mg):bt P w K mg base CX0 3 T.are_opens_.f T.are_opens_.d ["hours", "thing"] GV:=by
 have G_is_hour:=#[(oY)]
 refine T.are_opens_.F.ok xa (fun vs H Q E h=>?_) (fun cdv A outer s H vs Q E hr h=>?_)
 ·obtain ⟨x,hh,d,E',wn,wk,rfl,_⟩:=h
  rfl
 ·obtain ⟨x,hh,d,E',wn,wk,rfl,hx,wd,hwn,k⟩:=h
  refine ⟨_,#[#[aN 8 #[PW.pt 3 #[bd 7 #[aK 4 #[aF 3 #[(),(),(@bv _ (K) (by rfl)),nq,T.b_isinstance,(@aq),#[[#[1,fu],#[cb 4 rs T.b_tuple (@aI) (by decide) (by decide)]]]] (by intro _;rfl)]] #[bK 4 #[aK 4 #[aF 3 #[(),(),(@eY _ (K) rfl (by rfl)),mT,T.b_all,(@bQ),#[[#[bA 7 (["hour", "hours"]) (1) ([0]) _ _ _ _ rfl (by kernel_rfl) (@bI _ (K) _ _ _ #[1,fu] (by rfl)) (fun _ _ _ _ _ _=>#[0,(),()]) (fun _ _ _ _ _ _=>@bu _) (fun _ _ _ _ _ _=>#[G_is_hour,(),T.is_hour_,#[[#[1,0],#[0,()]]]]) (by intro _;rfl)]]]] (by intro _;rfl)]]]]] #[ac 3 #[ai 4 #[bj 4]]] (@ay _)] :: #[ac 3 #[ai 4 #[(),(),(@eY _ (K) rfl (by rfl)),mT,T.b_all,(@bQ),#[[#[bA 7 (["ahead", "behind"]) (2) ([]) _ _ _ _ rfl (by kernel_rfl) (@BU _ (K) _ _ _ _ _ _ _ _ tR T.b_zip #[[#[1,fu],#[aR 10 (@b6 _ (K) (by rfl)) #[1,fu] #[aU 3 #[()]] (@be _)]]] (by rfl) (by rfl) (by rfl)) (fun _ _ _ _ _ _=>(@fP _ (K) _ _ _ _ (2) rfl #[aP 5 #[0,(),()] #[aP 5 #[1,(),()] (@fD _) (by rfl)] (by rfl)] (by rfl) (by rfl) (by rfl))) (fun _ _ _ _ _ _=>@bu _) (fun _ _ _ _ _ _=>#[bY 8 (@dQ _) #[0,()] #[1,()] #[(),()]]) (by intro _;rfl)]]]]]]],?_⟩
  refine ⟨(),_,_,_,(),hx.ty,cf d,(),?_⟩
  have k0:=k H (ad.refl _)
  cases hx with
  | non=>exact aa (aa k0)
  | bl b=>exact aa (aa k0)
  | int i=>exact aa (aa k0)
  | str y=>exact aa (aa k0)
  | lst h ne r=>exact aa (aa k0)
  | @tup a xs ds h r=>
   have lx:=r.length
   have lds:ds.length≤wn:=by
    cases wd with
    | tuple wl=>have:=gL wl;trivial
   have ed:nF hh (.tuple ds)=(ds.all (bC hh) && (dz (ds.map kK)).all id):=rfl
   refine ah ⟨(),a,rfl,⟨_,ak.of h⟩,dY (E:=E') (bC hh) h r (by trivial) ?_ ?_⟩
   ·intro x dx H' R hm g1 sm kk
    exact ⟨dq,(),(),x,hh,dx,E',rfl,g1,kk H' (ad.refl _)⟩
   intro D H1 s1 hD1
   refine ⟨D,(),aE.of hD1,(),?_⟩
   have k1:=k H1 s1
   rw [fx]
   rw [ed] at k1
   cases hb:ds.all (bC hh) with
   | false=>
    rw [hb] at k1
    exact aa k1
   | true=>
    refine ah ?_
    have es:=qi hb
    generalize hns:ds.map kK=ns at es
    have ex:xs=ns.map V.int:=by
     rw [es] at r
     exact pq r
    have lns:ns.length=ds.length:=by rw [←hns,List.length_map]
    subst ex
    refine ⟨(),(),(),a,(),ak.of (s1 _ _ h),s1 _ _ h,fun p H2 s2 hp=>?_⟩
    have ecut:cS (ns.map V.int) (some 1) none=(ns.map V.int).drop 1:=eX 1
    rw [ecut] at hp
    refine ⟨a,p,false,false,rfl,⟨_,ak.of (s2 _ _ (s1 _ _ h))⟩,⟨_,ak.of hp⟩,fun D2 hD2=>BC (xs:=ns.map V.int) (ys:=(ns.map V.int).drop 1) (fun i=>.bl (((dz ns)[i]?).getD false)) (by rw [List.length_map];trivial) hD2 (fun H' sm=>ak.of (sm _ _ (s2 _ _ (s1 _ _ h)))) (fun H' sm=>ak.of (sm _ _ hp)) ?_ ?_⟩
    ·intro i u v H' R hu hv sm kk
     rw [List.getElem?_map] at hu
     obtain ⟨n1,e1,rfl⟩:=Option.map_eq_some_iff.mp hu
     rw [List.getElem?_drop,List.getElem?_map] at hv
     obtain ⟨n2,e2,rfl⟩:=Option.map_eq_some_iff.mp hv
     have eb:(dz ns)[i]?=some (decide (n1<n2)):=by unfold dz;rw [List.getElem?_zipWith,e1,List.getElem?_drop,e2]
     rw [eb] at kk
     exact ⟨HF,(),(),_,(),rfl,kk H' (ad.refl _)⟩
    ·intro H3 s3 hD3
     have lz:(dz ns).length=min (ns.map V.int).length ((ns.map V.int).drop 1).length:=by unfold dz;rw [List.length_zipWith];simp
     have e3:(List.range (min (ns.map V.int).length ((ns.map V.int).drop 1).length)).map (fun i=>V.bl (((dz ns)[i]?).getD false))=(dz ns).map V.bl:=by
      rw [←lz,eH (fun i=>V.bl (((dz ns)[i]?).getD false)) V.bl (dz ns) (fun i x e=>by rw [e];rfl)]
     rw [e3] at hD3
     refine ⟨D2,(),aE.of hD3,?_⟩
     have k2:=k H3 ((s1.trans s2).trans s3)
     rw [ed,hb,Bool.true_and,hns] at k2
     exact k2
inductive Hm (f:List PyData→Int→PyData→Bool) (vs:List V) (H:Hp) (Q:VK):Prop
 | mk (p x:V) (hr:Int) (ps:List PyData) (d:PyData) (E F:Addr→Prop) (pn pk wn wk:Nat) (h0:vs=[p,.int hr,x]) (h1:bh F H p (.tuple ps)) (h2:Wt (.tuple ps) pn pk) (h3:pk≤40) (h4:bh E H x d) (h5:Wt d wn wk) (h6:wn≤3000) (h7:wk≤40) (h8:∀H',ad H H'→Q (.bl (f ps hr d)) H')
def Co (f:List PyData→Int→PyData→Bool):Sp:=fun vs H Q _=>Hm f vs H Q
theorem yu (T:Txt K mg):bt P w K mg base CX0 5 T.is_store_.f T.is_store_.d ["places", "thing"] (yK dn fun _=>True):=by
 have G_is_tuple_of:=#[(fw)]
 have G_is_from_nought:=#[(fo)]
 have G_goes_within:=#[(tZ)]
 refine T.is_store_.F.ok yn (fun vs H Q E h=>?_) (fun cdv A outer s H vs Q E hr h=>?_)
 ·obtain ⟨p,x,ps,d,E',F,pn,pk,wn,wk,rfl,_⟩:=h
  rfl
 ·obtain ⟨p,x,ps,d,E',F,pn,pk,wn,wk,rfl,hp,wp,hpk,_,hx,wd,hwn,hwk,k⟩:=h
  refine ⟨_,#[#[aN 8 #[PW.pt 3 #[bd 7 #[aK 4 #[aF 3 #[G_is_tuple_of,mW,T.is_tuple_of_,#[[#[1,fO],#[()]]]] (by intro _;rfl)]] #[bK 4 #[au 8 (@eJ _ hr.units) #[#[1,fO][#[()]]] #[0,rf] rfl]]]] #[ac 3 #[ai 4 #[bj 4]]] (@ay _)] :: #[ac 3 #[ai 4 #[cG 7 #[G_is_from_nought,lA,T.is_from_nought_,#[[#[#[1,fO][#[()]]]]]] #[cX 5 #[G_goes_within,nj,T.goes_within_,#[[#[#[1,fO][#[()]]],#[ae 5 #[[#[()],#[()]]]]]]]]]]]],?_⟩
  have k0:=k H (ad.refl _)
  refine ⟨(),x,3,d,E',rfl,hx,(),?_⟩
  cases ht:dO 3 d with
  | false=>
   rw [mH (f:=dn ps) ht fun z=>by obtain ⟨b,m,k,rfl,_⟩:=mO z;exact ⟨_,rfl,rfl⟩] at k0
   exact aa (aa k0)
  | true=>
  obtain ⟨ds,rfl,hl⟩:=jJ ht
  obtain ⟨d1,d2,d3,rfl⟩:eV fun d1 d2 d3=>ds=[d1,d2,d3]:=j9 (P:=fun l=>eV fun d1 d2 d3=>l=[d1,d2,d3]) (fun a b c=>⟨a,b,c,rfl⟩) ds hl
  have wall:=cP wd
  obtain ⟨m1,_,w1⟩:=wall d1 (by simp)
  obtain ⟨m3,_,w3⟩:=wall d3 (by simp)
  cases id hx with
  | @tup a xs _ h r=>
  cases r with
  | @cons x1 _ _ _ r1 r=>
  cases r with
  | @cons x2 _ _ _ r2 r=>
  cases r with
  | @cons x3 _ _ _ r3 r=>
  cases r
  have et:dn ps (.tuple [d1,d2,d3])=(b7 ps d1 && (aX d2 && dL d3 (1,1))):=rfl
  refine ah ⟨(),a,_,_,(),rfl,ak.of h,rfl,(),d1,.tuple ps,E',F,_,_,_,_,ps,r1,hp,w1,wp,by trivial,rfl,(),?_⟩
  rw [nI]
  cases hb1:b7 ps d1 with
  | false=>
   rw [et,hb1] at k0
   exact aa k0
  | true=>
  rw [et,hb1,Bool.true_and] at k0
  refine ah ?_
  refine ⟨(),a,_,_,(),rfl,ak.of h,rfl,x2,d2,E',rfl,r2,(),?_⟩
  cases hb2:aX d2 with
  | false=>
   rw [hb2] at k0
   exact ah k0
  | true=>
  refine aa ⟨(),a,_,_,(),rfl,ak.of h,rfl,by decide,fun q H1 m1'=>?_⟩
  have k1:=k H1 m1'.sm
  rw [et,hb1,hb2,Bool.true_and,Bool.true_and] at k1
  exact ⟨x3,.ref q,d3,E',_,(1,1),m3,wk,rfl,r3.mono m1'.sm.toE,w3,II (E:=fun _=>False) m1'.at',HQ,k1⟩
theorem uf (T:Txt K mg):bt P w K mg base CX0 4 T.is_day_well_.f T.is_day_well_.d ["places", "hours", "thing"] (Co dR):=by
 have G_is_tuple_of:=#[(fw)]
 have G_is_from_nought:=#[(fo)]
 have G_is_hour:=#[(oY)]
 refine T.is_day_well_.F.ok uV (fun vs H Q E h=>?_) (fun cdv A outer s H vs Q E hr h=>?_)
 ·obtain ⟨p,x,hh,ps,d,E',F,pn,pk,wn,wk,rfl,_⟩:=h
  rfl
 ·obtain ⟨p,x,hh,ps,d,E',F,pn,pk,wn,wk,rfl,hp,wp,hpk,hx,wd,hwn,hwk,k⟩:=h
  refine ⟨_,#[#[aN 8 #[PW.pt 3 #[bd 7 #[aK 4 #[aF 3 #[G_is_tuple_of,lC,T.is_tuple_of_,#[[#[2,df],#[()]]]] (by intro _;rfl)]] #[bd 7 #[au 8 (@eJ _ hr.units) #[#[2,df][#[()]]] #[0,oR] rfl] #[bK 4 #[aK 4 #[aF 3 #[G_is_hour,nR,T.is_hour_,#[[#[1,pS],#[#[2,df][#[()]]]]]] (by intro _;rfl)]]]]]] #[ac 3 #[ai 4 #[bj 4]]] (@ay _)] :: #[ac 3 #[ai 4 #[cG 7 #[G_is_from_nought,fF,T.is_from_nought_,#[[#[#[2,df][#[()]]]]]] #[cX 5 #[G_is_from_nought,fF,T.is_from_nought_,#[[#[#[2,df][#[()]]]]]]]]]]],?_⟩
  have k0:=k H (ad.refl _)
  refine ⟨(),x,4,d,E',rfl,hx,(),?_⟩
  cases ht:dO 4 d with
  | false=>
   rw [mH (f:=dR ps hh) ht vi] at k0
   exact aa (aa k0)
  | true=>
  obtain ⟨ds,rfl,hl⟩:=jJ ht
  obtain ⟨d1,d2,d3,d4,rfl⟩:lO fun d1 d2 d3 d4=>ds=[d1,d2,d3,d4]:=zH (P:=fun l=>lO fun d1 d2 d3 d4=>l=[d1,d2,d3,d4]) (fun a b c d=>⟨a,b,c,d,rfl⟩) ds hl
  have wall:=cP wd
  obtain ⟨m1,_,w1⟩:=wall d1 (by simp)
  cases id hx with
  | @tup a xs _ h r=>
  cases r with
  | @cons x1 _ _ _ r1 r=>
  cases r with
  | @cons x2 _ _ _ r2 r=>
  cases r with
  | @cons x3 _ _ _ r3 r=>
  cases r with
  | @cons x4 _ _ _ r4 r=>
  cases r
  have et:dR ps hh (.tuple [d1,d2,d3,d4])=((b7 ps d1 && bC hh d2) && (aX d3 && aX d4)):=rfl
  rw [et] at k0
  refine ah ⟨(),a,_,_,(),rfl,ak.of h,rfl,(),d1,.tuple ps,E',F,_,_,_,_,ps,r1,hp,w1,wp,by trivial,rfl,(),?_⟩
  rw [nI]
  cases hb1:b7 ps d1 with
  | false=>
   rw [hb1] at k0
   exact aa (aa k0)
  | true=>
  rw [hb1,Bool.true_and] at k0
  refine ah ⟨(),(),a,_,_,(),rfl,ak.of h,rfl,x2,hh,d2,E',rfl,r2,(),?_⟩
  cases hb2:bC hh d2 with
  | false=>
   rw [hb2] at k0
   exact aa k0
  | true=>
  rw [hb2,Bool.true_and] at k0
  refine ah ?_
  refine ⟨(),a,_,_,(),rfl,ak.of h,rfl,x3,d3,E',rfl,r3,(),?_⟩
  cases hb3:aX d3 with
  | false=>
   rw [hb3] at k0
   exact ah k0
  | true=>
  rw [hb3,Bool.true_and] at k0
  exact aa ⟨(),a,_,_,(),rfl,ak.of h,rfl,x4,d4,E',rfl,r4,k0⟩
theorem ua (T:Txt K mg):bt P w K mg base CX0 4 T.is_day_wish_.f T.is_day_wish_.d ["places", "hours", "thing"] (Co fv):=by
 have G_is_tuple_of:=#[(fw)]
 have G_is_above_nought:=#[(kA)]
 have G_is_hour:=#[(oY)]
 refine T.is_day_wish_.F.ok uz (fun vs H Q E h=>?_) (fun cdv A outer s H vs Q E hr h=>?_)
 ·obtain ⟨p,x,hh,ps,d,E',F,pn,pk,wn,wk,rfl,_⟩:=h
  rfl
 ·obtain ⟨p,x,hh,ps,d,E',F,pn,pk,wn,wk,rfl,hp,wp,hpk,hx,wd,hwn,hwk,k⟩:=h
  refine ⟨_,#[#[aN 8 #[PW.pt 3 #[bd 7 #[aK 4 #[aF 3 #[G_is_tuple_of,lE,T.is_tuple_of_,#[[#[2,eF],#[()]]]] (by intro _;rfl)]] #[bK 4 #[au 8 (@eJ _ hr.units) #[#[2,eF][#[()]]] #[0,oM] rfl]]]] #[ac 3 #[ai 4 #[bj 4]]] (@ay _)] :: #[ac 3 #[ai 4 #[cG 7 #[G_is_hour,nv,T.is_hour_,#[[#[1,pV],#[#[2,eF][#[()]]]]]] #[cX 5 #[G_is_above_nought,jA,T.is_above_nought_,#[[#[#[2,eF][#[()]]]]]]]]]]],?_⟩
  have k0:=k H (ad.refl _)
  refine ⟨(),x,3,d,E',rfl,hx,(),?_⟩
  cases ht:dO 3 d with
  | false=>
   rw [mH (f:=fv ps hh) ht vG] at k0
   exact aa (aa k0)
  | true=>
  obtain ⟨ds,rfl,hl⟩:=jJ ht
  obtain ⟨d1,d2,d3,rfl⟩:eV fun d1 d2 d3=>ds=[d1,d2,d3]:=j9 (P:=fun l=>eV fun d1 d2 d3=>l=[d1,d2,d3]) (fun a b c=>⟨a,b,c,rfl⟩) ds hl
  have wall:=cP wd
  obtain ⟨m1,_,w1⟩:=wall d1 (by simp)
  cases id hx with
  | @tup a xs _ h r=>
  cases r with
  | @cons x1 _ _ _ r1 r=>
  cases r with
  | @cons x2 _ _ _ r2 r=>
  cases r with
  | @cons x3 _ _ _ r3 r=>
  cases r
  have et:fv ps hh (.tuple [d1,d2,d3])=(b7 ps d1 && (bC hh d2 && dE d3)):=rfl
  rw [et] at k0
  refine ah ⟨(),a,_,_,(),rfl,ak.of h,rfl,(),d1,.tuple ps,E',F,_,_,_,_,ps,r1,hp,w1,wp,by trivial,rfl,(),?_⟩
  rw [nI]
  cases hb1:b7 ps d1 with
  | false=>
   rw [hb1] at k0
   exact aa k0
  | true=>
  rw [hb1,Bool.true_and] at k0
  refine ah ?_
  refine ⟨(),(),a,_,_,(),rfl,ak.of h,rfl,x2,hh,d2,E',rfl,r2,(),?_⟩
  cases hb2:bC hh d2 with
  | false=>
   rw [hb2] at k0
   exact ah k0
  | true=>
  rw [hb2,Bool.true_and] at k0
  exact aa ⟨(),a,_,_,(),rfl,ak.of h,rfl,x3,d3,E',rfl,r3,k0⟩
theorem wj (T:Txt K mg):bt P w K mg base CX0 5 T.is_day_tie_.f T.is_day_tie_.d ["places", "hours", "thing"] (Co dS):=by
 have G_is_tuple_of:=#[(fw)]
 have G_is_tie:=#[(A8)]
 have G_is_number:=#[(jx)]
 have G_are_opens:=#[(xG)]
 refine T.is_day_tie_.F.ok wf (fun vs H Q E h=>?_) (fun cdv A outer s H vs Q E hr h=>?_)
 ·obtain ⟨p,x,hh,ps,d,E',F,pn,pk,wn,wk,rfl,_⟩:=h
  rfl
 ·obtain ⟨p,x,hh,ps,d,E',F,pn,pk,wn,wk,rfl,hp,wp,hpk,hx,wd,hwn,hwk,k⟩:=h
  refine ⟨_,#[#[aN 8 #[PW.pt 3 #[bd 7 #[aK 4 #[aF 3 #[G_is_tuple_of,lW,T.is_tuple_of_,#[[#[2,dB],#[()]]]] (by intro _;rfl)]] #[bK 4 #[aK 4 #[aF 3 #[G_is_tie,pM,T.is_tie_,#[[#[0,pN],#[aR 10 (@b6 _ (K) (by rfl)) #[2,dB] (@be _) #[aU 3 #[()]]]]]] (by intro _;rfl)]]]]] #[ac 3 #[ai 4 #[bj 4]]] (@ay _)] :: #[ac 3 #[ai 4 #[cG 7 #[G_is_number,nh,T.is_number_,#[[#[#[2,dB][#[()]]]]]] #[cG 7 #[bY 8 (@wC _) #[#[2,dB][#[()]]] #[()] #[(),()]] #[cX 5 #[G_are_opens,mZ,T.are_opens_,#[[#[1,pY],#[#[2,dB][#[()]]]]]]]]]]]],?_⟩
  have k0:=k H (ad.refl _)
  refine ⟨(),x,7,d,E',rfl,hx,(),?_⟩
  cases ht:dO 7 d with
  | false=>
   rw [mH (f:=dS ps hh) ht vz] at k0
   exact aa (aa k0)
  | true=>
  obtain ⟨ds,rfl,hl⟩:=jJ ht
  obtain ⟨d1,d2,d3,d4,d5,d6,d7,rfl⟩:E8 fun d1 d2 d3 d4 d5 d6 d7=>ds=[d1,d2,d3,d4,d5,d6,d7]:=by
   match ds,hl with
   | [d1,d2,d3,d4,d5,d6,d7],_=>exact ⟨d1,d2,d3,d4,d5,d6,d7,rfl⟩
  have wall:=cP wd
  obtain ⟨m7,_,w7⟩:=wall d7 (by simp)
  obtain ⟨m5,hm5,w5⟩:∃m,m≤wn∧Wt (.tuple [d1,d2,d3,d4,d5]) m wk:=by
   cases wd with
   | tuple wl=>
    obtain ⟨m,hm,q⟩:=Ct wl 5
    exact ⟨m+1,by trivial,.tuple q⟩
  cases id hx with
  | @tup a xs _ h r=>
  cases r with
  | @cons x1 _ _ _ r1 r=>
  cases r with
  | @cons x2 _ _ _ r2 r=>
  cases r with
  | @cons x3 _ _ _ r3 r=>
  cases r with
  | @cons x4 _ _ _ r4 r=>
  cases r with
  | @cons x5 _ _ _ r5 r=>
  cases r with
  | @cons x6 _ _ _ r6 r=>
  cases r with
  | @cons x7 _ _ _ r7 r=>
  cases r
  have et:dS ps hh (.tuple [d1,d2,d3,d4,d5,d6,d7])=(r9 ps (.tuple [d1,d2,d3,d4,d5]) && (oD d6 && nF hh d7)):=rfl
  rw [et] at k
  refine ah ⟨(),(),(),a,(),ak.of h,h,fun q H1 s1 hq=>?_⟩
  have i5:bh E' H1 (.ref q) (.tuple [d1,d2,d3,d4,d5]):=.tup hq (.cons (r1.mono s1.toE) (.cons (r2.mono s1.toE) (.cons (r3.mono s1.toE) (.cons (r4.mono s1.toE) (.cons (r5.mono s1.toE) .nil)))))
  refine ⟨p,.ref q,ps,_,E',F,pn,pk,m5,wk,rfl,hp.mono s1.toE,wp,hpk,trivial,i5,w5,by trivial,hwk,fun H2 s2=>⟨(),?_⟩⟩
  have s12:=s1.trans s2
  cases hb1:r9 ps (.tuple [d1,d2,d3,d4,d5]) with
  | false=>
   have k1:=k H2 s12
   rw [hb1] at k1
   exact aa k1
  | true=>
  rw [hb1,Bool.true_and] at k
  have h2:=s12 _ _ h
  have k1:=k H2 s12
  refine ah ?_
  refine ⟨(),a,_,_,(),rfl,ak.of h2,rfl,x6,d6,E',rfl,r6.mono s12.toE,(),?_⟩
  cases hb2:eB d6 with
  | false=>
   rw [show oD d6=false by cases d6 <;> first | rfl | cases hb2] at k1
   exact ah k1
  | true=>
  obtain ⟨n,rfl⟩:=gZ hb2
  cases id r6
  refine aa ⟨(),a,_,_,(),rfl,ak.of h2,rfl,_,(),rfl,(),?_⟩
  rw [show oD (.int n)=decide (0≤n) from rfl] at k k1
  by_cases h0:0≤n
  ·rw [decide_eq_true h0,Bool.true_and] at k
   rw [decide_eq_true h0]
   exact aa ⟨(),(),a,_,_,(),rfl,ak.of h2,rfl,x7,hh,d7,E',m7,wk,rfl,r7.mono s12.toE,w7,by trivial,fun H3 s3=>k H3 (s12.trans s3)⟩
  ·rw [decide_eq_false h0,Bool.false_and] at k1
   rw [decide_eq_false h0]
   exact ah k1
end
end K53
namespace K53
open PySem L2
set_option maxHeartbeats 16000000
theorem eO {d:PyData} (h:kB d=true):∃ds,d=.tuple ds:=by
 cases d with
 | tuple ds=>exact ⟨ds,rfl⟩
 | _=>cases h
section
variable {P:Program}{w:World}{K:PySem.W.Frag}{mg:Str→Option Value}{base:Heap}
theorem A7 (T:Txt K mg):bt P w K mg base CX0 6 T.is_day_.f T.is_day_.d ["thing"] (wA iD):=by
 have G_is_tuple_of:=#[(fw)]
 have G_are_names:=#[(xV)]
 have G_is_number:=#[(jx)]
 have G_is_day_tie:=#[(wj)]
 have G_is_store:=#[(yu)]
 have G_is_day_well:=#[(uf)]
 have G_is_day_wish:=#[(ua)]
 refine T.is_day_.F.ok gO (fun vs H Q E h=>?_) (fun cdv A outer s H vs Q E hr h=>?_)
 ·obtain ⟨x,d,E',wn,wk,rfl,_⟩:=h
  rfl
 ·obtain ⟨x,d,E',wn,wk,rfl,hx,wd,hwn,hwk,k⟩:=h
  refine ⟨_,#[#[aN 8 #[aK 4 #[aF 3 #[G_is_tuple_of,oQ,T.is_tuple_of_,#[[#[0,og],#[()]]]] (by intro _;rfl)]] #[ac 3 #[ai 4 #[bj 4]]] (@ay _)] :: #[#[gK 6 #[0,og] (@fP _ (K) _ _ _ _ (6) rfl #[aP 5 #[cZ 2 (1) _ gO.nd rfl (Or.inr mP) (by first | exact .inl rfl | exact .inr rfl | assumption)] #[aP 5 #[cZ 2 (2) _ gO.nd rfl (Or.inr j5) (by first | exact .inl rfl | exact .inr rfl | assumption)] #[aP 5 #[3,gO.nd,kP] #[aP 5 #[4,gO.nd,eT] #[aP 5 #[5,gO.nd,jR] #[aP 5 #[6,gO.nd,i9] (@fD _) (by rfl)] (by rfl)] (by rfl)] (by rfl)] (by rfl)] (by rfl)] (by rfl) (by rfl) (by rfl)) (by rfl) (by rfl) (by rfl)] :: #[#[aN 8 #[PW.pt 3 #[bd 7 #[aK 4 #[aF 3 #[G_are_names,qe,T.are_names_,#[[#[1,(mP)]]]] (by intro _;rfl)]] #[bd 7 #[aK 4 #[aF 3 #[G_is_number,qk,T.is_number_,#[[#[2,(j5)]]]] (by intro _;rfl)]] #[bK 4 #[au 8 (@dQ _) #[2,(j5)] #[()] #[(),()]]]]]] #[ac 3 #[ai 4 #[bj 4]]] (@ay _)] :: #[#[aN 8 #[aK 4 #[aF 3 #[(),(),(@eY _ (K) rfl (by rfl)),gR,T.b_all,(@bQ),#[[#[bA 7 (["parts"]) (1) ([]) _ _ _ _ rfl (by kernel_rfl) (@bI _ (K) _ _ _ #[ae 5 #[[#[3,kP],#[4,eT],#[5,jR],#[6,i9]]]] (by rfl)) (fun _ _ _ _ _ _=>#[0,(),()]) (fun _ _ _ _ _ _=>@bu _) (fun _ _ _ _ _ _=>#[(),(),(@bv _ (K) (by rfl)),(by show _=_;kernel_rfl),T.b_isinstance,(@aq),#[[#[0,()],#[cb 4 (by show _=_;kernel_rfl) T.b_tuple (@aI) (by decide) (by decide)]]]]) (by intro _;rfl)]]]] (by intro _;rfl)]] #[ac 3 #[ai 4 #[bj 4]]] (@ay _)] :: #[#[aN 8 #[aK 4 #[aF 3 #[(),(),(@eY _ (K) rfl (by rfl)),gR,T.b_all,(@bQ),#[[#[bA 7 (["tie", "hours", "places"]) (1) ([2,1]) _ _ _ _ rfl (by kernel_rfl) (@bI _ (K) _ _ _ #[3,kP] (by rfl)) (fun _ _ _ _ _ _=>#[0,(),()]) (fun _ _ _ _ _ _=>@bu _) (fun _ _ _ _ _ _=>#[G_is_day_tie,(),T.is_day_tie_,#[[#[2,0],#[1,0],#[0,()]]]]) (by intro _;rfl)]]]] (by intro _;rfl)]] #[ac 3 #[ai 4 #[bj 4]]] (@ay _)] :: #[#[aN 8 #[aK 4 #[aF 3 #[(),(),(@eY _ (K) rfl (by rfl)),gR,T.b_all,(@bQ),#[[#[bA 7 (["store", "places"]) (1) ([1]) _ _ _ _ rfl (by kernel_rfl) (@bI _ (K) _ _ _ #[4,eT] (by rfl)) (fun _ _ _ _ _ _=>#[0,(),()]) (fun _ _ _ _ _ _=>@bu _) (fun _ _ _ _ _ _=>#[G_is_store,(),T.is_store_,#[[#[1,0],#[0,()]]]]) (by intro _;rfl)]]]] (by intro _;rfl)]] #[ac 3 #[ai 4 #[bj 4]]] (@ay _)] :: #[#[aN 8 #[au 8 (@iz _) (@qL _ (K) _ _ _ _ _ _ #[bA 7 (["store"]) (1) ([]) _ _ _ _ rfl (by kernel_rfl) (@bI _ (K) _ _ _ #[4,eT] (by rfl)) (fun _ _ _ _ _ _=>#[0,(),()]) (fun _ _ _ _ _ _=>@bu _) (fun _ _ _ _ _ _=>#[#[0,()][#[()]]]) (by intro _;rfl)] rfl qc T.b_len xf T.b_set (by rfl) (by rfl)) #[(),(),(@eI _ (K) (by rfl)),qc,T.b_len,(@bi),#[[#[4,eT]]]] #[(),()]] #[ac 3 #[ai 4 #[bj 4]]] (@ay _)] :: #[#[aN 8 #[aK 4 #[aF 3 #[(),(),(@eY _ (K) rfl (by rfl)),gR,T.b_all,(@bQ),#[[#[bA 7 (["well", "hours", "places"]) (1) ([2,1]) _ _ _ _ rfl (by kernel_rfl) (@bI _ (K) _ _ _ #[5,jR] (by rfl)) (fun _ _ _ _ _ _=>#[0,(),()]) (fun _ _ _ _ _ _=>@bu _) (fun _ _ _ _ _ _=>#[G_is_day_well,(),T.is_day_well_,#[[#[2,0],#[1,0],#[0,()]]]]) (by intro _;rfl)]]]] (by intro _;rfl)]] #[ac 3 #[ai 4 #[bj 4]]] (@ay _)] :: #[ac 3 #[ai 4 #[(),(),(@eY _ (K) rfl (by rfl)),gR,T.b_all,(@bQ),#[[#[bA 7 (["wish", "hours", "places"]) (1) ([2,1]) _ _ _ _ rfl (by kernel_rfl) (@bI _ (K) _ _ _ #[6,i9] (by rfl)) (fun _ _ _ _ _ _=>#[0,(),()]) (fun _ _ _ _ _ _=>@bu _) (fun _ _ _ _ _ _=>#[G_is_day_wish,(),T.is_day_wish_,#[[#[2,0],#[1,0],#[0,()]]]]) (by intro _;rfl)]]]]]]]]]]]]]],?_⟩
  have k0:=k H (ad.refl _)
  refine ⟨(),x,6,d,E',rfl,hx,(),?_⟩
  cases ht:dO 6 d with
  | false=>
   rw [mH (f:=iD) ht xM] at k0
   exact aa k0
  | true=>
  obtain ⟨ds,rfl,hl⟩:=jJ ht
  obtain ⟨d1,d2,d3,d4,d5,d6,rfl⟩:Ii fun d1 d2 d3 d4 d5 d6=>ds=[d1,d2,d3,d4,d5,d6]:=by
   match ds,hl with
   | [d1,d2,d3,d4,d5,d6],_=>exact ⟨d1,d2,d3,d4,d5,d6,rfl⟩
  have wall:=cP wd
  obtain ⟨m1,hm1,w1⟩:=wall d1 (by simp)
  obtain ⟨m3,hm3,w3⟩:=wall d3 (by simp)
  obtain ⟨m4,hm4,w4⟩:=wall d4 (by simp)
  obtain ⟨m5,hm5,w5⟩:=wall d5 (by simp)
  obtain ⟨m6,hm6,w6⟩:=wall d6 (by simp)
  cases hx with
  | @tup a xs _ h r=>
  cases r with
  | @cons x1 _ _ _ r1 r=>
  cases r with
  | @cons x2 _ _ _ r2 r=>
  cases r with
  | @cons x3 _ _ _ r3 r=>
  cases r with
  | @cons x4 _ _ _ r4 r=>
  cases r with
  | @cons x5 _ _ _ r5 r=>
  cases r with
  | @cons x6 _ _ _ r6 r=>
  cases r
  refine ah ?_
  refine ⟨(),a,(),ak.of h,rfl,_,(),_,(),_,(),_,(),_,(),_,(),rfl,?_⟩
  refine ⟨(),x1,d1,E',m1,wk,rfl,r1,w1,by trivial,hwk,fun H1 s1=>⟨(),?_⟩⟩
  cases hb1:gk d1 with
  | false=>
   have k1:=k H1 s1
   rw [show iD (.tuple [d1,d2,d3,d4,d5,d6])=false by
    cases d2 <;> first | rfl | (show ((gk d1 && _) && _)=false;rw [hb1];rfl)] at k1
   exact aa (aa k1)
  | true=>
  obtain ⟨nms,rfl⟩:∃nms:List Str,d1=.tuple (nms.map PyData.str):=by
   cases d1 with
   | tuple ps=>
    have:((!ps.isEmpty && ps.all da) && decide (ps.map aV).Nodup)=true:=hb1
    rw [Bool.and_eq_true,Bool.and_eq_true] at this
    exact ⟨_,by rw [←oI this.1.2]⟩
   | _=>cases hb1
  refine ah ⟨(),x2,d2,E',rfl,r2.mono s1.toE,(),?_⟩
  cases hb2:eB d2 with
  | false=>
   have k1:=k H1 s1
   rw [show iD (.tuple [.tuple (nms.map PyData.str),d2,d3,d4,d5,d6])=false by
    cases d2 <;> first | rfl | cases hb2] at k1
   exact aa (aa k1)
  | true=>
  obtain ⟨hr0,rfl⟩:=gZ hb2
  cases id r2
  have et:iD (.tuple [.tuple (nms.map PyData.str),.int hr0,d3,d4,d5,d6])=((gk (.tuple (nms.map PyData.str)) && decide (1≤hr0)) && ([d3,d4,d5,d6].all kB && ((fW d3).all (dS (nms.map PyData.str) hr0) && ((fW d4).all (dn (nms.map PyData.str)) && (decide ((fW d4).map fun d=>aV (cT d)).Nodup && ((fW d5).all (dR (nms.map PyData.str) hr0) && (fW d6).all (fv (nms.map PyData.str) hr0))))))):=rfl
  rw [et,hb1,Bool.true_and] at k
  have k1:=k H1 s1
  refine ah ⟨(),_,(),rfl,(),?_⟩
  by_cases h1:1≤hr0
  case neg=>
   rw [decide_eq_false h1,Bool.false_and] at k1
   rw [decide_eq_true (show hr0<1 by trivial)]
   exact aa k1
  rw [decide_eq_true h1,Bool.true_and] at k
  rw [decide_eq_false (show ¬hr0<1 by trivial)]
  refine ah ?_
  refine ⟨(),(),(),(),by show 4≤10000;decide,fun q H2 m2=>⟨q,rfl,⟨_,ak.of m2.at'⟩,?_⟩⟩
  have s12:=s1.trans m2.sm
  have r4':aG E' H2 [x3,x4,x5,x6] [d3,d4,d5,d6]:=.cons (r3.mono s12.toE) (.cons (r4.mono s12.toE) (.cons (r5.mono s12.toE) (.cons (r6.mono s12.toE) .nil)))
  refine dY (E:=E') kB m2.at' r4' (by simp) ?_ ?_
  ·intro x dx H' R hm g1 sm kk
   refine ⟨dq,(),_,_,_,(),g1.ty,cf dx,?_⟩
   have kk':=kk H' (ad.refl _)
   cases dx <;> exact kk'
  intro D H3 s3 hD3
  refine ⟨D,(),aE.of hD3,(),?_⟩
  rw [fx]
  have s13:=s12.trans s3
  cases hT:[d3,d4,d5,d6].all kB with
  | false=>
   have k3:=k H3 s13
   rw [hT] at k3
   exact aa k3
  | true=>
  rw [hT,Bool.true_and] at k
  refine ah ?_
  rw [List.all_cons,List.all_cons,List.all_cons,List.all_cons,Bool.and_eq_true,Bool.and_eq_true,Bool.and_eq_true,Bool.and_eq_true] at hT
  obtain ⟨t3,t4,t5,t6,_⟩:=hT
  obtain ⟨e3,rfl⟩:=eO t3
  obtain ⟨e4,rfl⟩:=eO t4
  obtain ⟨e5,rfl⟩:=eO t5
  obtain ⟨e6,rfl⟩:=eO t6
  have k:∀H',ad H H'→Q (.bl (e3.all (dS (nms.map PyData.str) hr0) && (e4.all (dn (nms.map PyData.str)) && (decide (e4.map fun d=>aV (cT d)).Nodup && (e5.all (dR (nms.map PyData.str) hr0) && e6.all (fv (nms.map PyData.str) hr0)))))) H':=k
  cases r3 with
  | @tup a3 xs3 _ h3 q3=>
  cases r4 with
  | @tup a4 xs4 _ h4 q4=>
  cases r5 with
  | @tup a5 xs5 _ h5 q5=>
  cases r6 with
  | @tup a6 xs6 _ h6 q6=>
  have l3:e3.length≤wn:=by
   cases w3 with
   | tuple wl=>have:=gL wl;trivial
  have l4:e4.length≤wn:=by
   cases w4 with
   | tuple wl=>have:=gL wl;trivial
  have l5:e5.length≤wn:=by
   cases w5 with
   | tuple wl=>have:=gL wl;trivial
  have l6:e6.length≤wn:=by
   cases w6 with
   | tuple wl=>have:=gL wl;trivial
  have z3:=q3.length
  have z4:=q4.length
  have z5:=q5.length
  have z6:=q6.length
  have wx:∀{ds:List PyData}{m:Nat},Wt (.tuple ds) m wk→m≤wn→∀dx∈ds,∃n,n≤3000∧Wt dx n wk:=fun wt hm dx hd=>by
   obtain ⟨n,hn,wq⟩:=cP wt dx hd
   exact ⟨n,by trivial,wq⟩
  refine ⟨(),a3,rfl,⟨_,ak.of (s13 _ _ h3)⟩,dY (E:=E') (dS (nms.map PyData.str) hr0) (s13 _ _ h3) (q3.mono s13.toE) (by trivial) ?_ ?_⟩
  ·intro x dx H' R hm g1 sm kk
   obtain ⟨n,hn,wq⟩:=wx w3 (by trivial) dx hm
   exact ⟨dq,(),(),(),x1,x,hr0,nms.map PyData.str,dx,E',E',m1,wk,n,wk,rfl,r1.mono (s13.trans sm).toE,w1,hwk,g1,wq,hn,hwk,fun H4 s4=>kk H4 s4⟩
  intro D4 H4 s4 hD4
  refine ⟨D4,(),aE.of hD4,(),?_⟩
  rw [fx]
  have s14:=s13.trans s4
  cases hT:e3.all (dS (nms.map PyData.str) hr0) with
  | false=>
   have k4:=k H4 s14
   rw [hT] at k4
   exact aa k4
  | true=>
  rw [hT,Bool.true_and] at k
  refine ah ?_
  refine ⟨(),a4,rfl,⟨_,ak.of (s14 _ _ h4)⟩,dY (E:=E') (dn (nms.map PyData.str)) (s14 _ _ h4) (q4.mono s14.toE) (by trivial) ?_ ?_⟩
  ·intro x dx H' R hm g1 sm kk
   obtain ⟨n,hn,wq⟩:=wx w4 (by trivial) dx hm
   exact ⟨dq,(),(),x1,x,nms.map PyData.str,dx,E',E',m1,wk,n,wk,rfl,r1.mono (s14.trans sm).toE,w1,hwk,trivial,g1,wq,hn,hwk,fun H4 s4=>kk H4 s4⟩
  intro D5 H5 s5 hD5
  refine ⟨D5,(),aE.of hD5,(),?_⟩
  rw [fx]
  have s15:=s14.trans s5
  cases hS:e4.all (dn (nms.map PyData.str)) with
  | false=>
   have k5:=k H5 s15
   rw [hS] at k5
   exact aa k5
  | true=>
  rw [hS,Bool.true_and] at k
  refine ah ?_
  have est:∀dx,dx∈e4→eV fun b m k=>dx=.tuple [.str b,m,k]:=fun dx hd=>by
   obtain ⟨b,m,k,rfl,hb⟩:=mO (List.all_eq_true.mp hS dx hd)
   exact ⟨_,m,k,by rw [←yT hb]⟩
  refine ⟨(),a4,rfl,⟨_,ak.of (s15 _ _ h4)⟩,fun D6 hD6=>qO (xs:=xs4) (fun i=>.str (aV (cT ((e4[i]?).getD .none)))) (by trivial) hD6 (s15 _ _ h4) ?_ ?_⟩
  ·intro i x H' R hxi sm kk
   obtain ⟨dx,e1,g1⟩:=q4.get hxi
   rw [e1] at kk
   obtain ⟨b,m,kk2,rfl⟩:=est dx (List.mem_of_getElem? e1)
   cases g1.mono (s15.trans sm).toE with
   | @tup ax xsx _ hx' rx=>
   cases rx with
   | @cons v1 _ _ _ c1 rx=>
   cases rx with
   | @cons v2 _ _ _ c2 rx=>
   cases rx with
   | @cons v3 _ _ _ c3 rx=>
   cases rx
   cases c1
   have kk':∀H4,ad H' H4→R (.str b) H4:=kk
   exact ⟨dq,(),ax,_,_,(),rfl,ak.of hx',rfl,kk' H' (ad.refl _)⟩
  intro H6 s6 hD6'
  have s16:=s15.trans s6
  have e6':(List.range xs4.length).map (fun i=>V.str (aV (cT ((e4[i]?).getD .none))))=((e4.map fun d=>aV (cT d)).map fun s=>(Sum.inr s:bp)).map qF:=by
   rw [z4,eH (fun i=>V.str (aV (cT ((e4[i]?).getD .none)))) (fun d=>V.str (aV (cT d))) e4 (fun i x e=>by rw [e];rfl),List.map_map,List.map_map]
   rfl
  rw [e6'] at hD6'
  refine ⟨D6,(),.inl (aE.of hD6'),by simp;trivial,(),a4,xs4,rfl,.inr (ak.of (s16 _ _ h4)),rfl,(),?_⟩
  have en:(!decide (V.int ((cK ((e4.map fun d=>aV (cT d)).map fun s=>(Sum.inr s:bp))).length:Int)=V.int (xs4.length:Int)))=!decide (e4.map fun d=>aV (cT d)).Nodup:=by
   have ez:xs4.length=((e4.map fun d=>aV (cT d)).map fun s=>(Sum.inr s:bp)).length:=by rw [List.length_map,List.length_map];trivial
   rw [ez,rY,decide_eq_decide.mpr (ut _)]
  rw [en]
  cases hN:decide (e4.map fun d=>aV (cT d)).Nodup with
  | false=>
   have k6:=k H6 s16
   rw [hN] at k6
   exact aa k6
  | true=>
  rw [hN,Bool.true_and] at k
  refine ah ?_
  refine ⟨(),a5,rfl,⟨_,ak.of (s16 _ _ h5)⟩,dY (E:=E') (dR (nms.map PyData.str) hr0) (s16 _ _ h5) (q5.mono s16.toE) (by trivial) ?_ ?_⟩
  ·intro x dx H' R hm g1 sm kk
   obtain ⟨n,hn,wq⟩:=wx w5 (by trivial) dx hm
   exact ⟨dq,(),(),(),x1,x,hr0,nms.map PyData.str,dx,E',E',m1,wk,n,wk,rfl,r1.mono (s16.trans sm).toE,w1,hwk,g1,wq,hn,hwk,fun H4 s4=>kk H4 s4⟩
  intro D7 H7 s7 hD7
  refine ⟨D7,(),aE.of hD7,(),?_⟩
  rw [fx]
  have s17:=s16.trans s7
  cases hW:e5.all (dR (nms.map PyData.str) hr0) with
  | false=>
   have k7:=k H7 s17
   rw [hW] at k7
   exact aa k7
  | true=>
  rw [hW,Bool.true_and] at k
  refine ah ?_
  refine ⟨(),a6,rfl,⟨_,ak.of (s17 _ _ h6)⟩,dY (E:=E') (fv (nms.map PyData.str) hr0) (s17 _ _ h6) (q6.mono s17.toE) (by trivial) ?_ ?_⟩
  ·intro x dx H' R hm g1 sm kk
   obtain ⟨n,hn,wq⟩:=wx w6 (by trivial) dx hm
   exact ⟨dq,(),(),(),x1,x,hr0,nms.map PyData.str,dx,E',E',m1,wk,n,wk,rfl,r1.mono (s17.trans sm).toE,w1,hwk,g1,wq,hn,hwk,fun H4 s4=>kk H4 s4⟩
  intro D8 H8 s8 hD8
  refine ⟨D8,(),aE.of hD8,?_⟩
  rw [fx]
  exact k H8 (s17.trans s8)
end
end K53
namespace K53
open PySem L2
set_option maxHeartbeats 16000000
def rM:Nat→PyData→Bool
 | 0,d=>aX d
 | 1,d=>dE d
 | _,d=>dL d (1,1)
def C8:Nat→V
 | 1=>.non
 | _=>.int 0
def CY:Nat→V
 | 2=>.int 1
 | _=>.non
theorem ju {d:PyData} (h:c9 d=false):∀c,rM c d=false
 | 0=>(mJ h).1
 | 1=>uY h
 | _+2=>(mJ h).2 _
theorem DE {n e:Int} (h:n<0):∀c,rM c (.tuple [.int n,.int e])=false
 | 0=>by show (_ && decide (0≤n))=false;rw [decide_eq_false (by trivial),Bool.and_false]
 | 1=>by show (_ && decide (0<n))=false;rw [decide_eq_false (by trivial),Bool.and_false]
 | _+2=>by show ((_ && decide (0≤n)) && _)=false;rw [decide_eq_false (by trivial),Bool.and_false,Bool.false_and]
section
variable {P:Program}{w:World}{K:PySem.W.Frag}{mg:Str→Option Value}{base:Heap}
theorem ku (T:Txt K mg):bt P w K mg base CX0 1 T.l_number_.f T.l_number_.d ["_law_thing"] C7:=by
 refine T.l_number_.F.ok yi (fun vs H Q E h=>?_) (fun cdv A outer s H vs Q E hr h=>?_)
 ·obtain ⟨x,d,E',rfl,_⟩:=h
  rfl
 ·obtain ⟨x,d,E',rfl,hx,k⟩:=h
  refine ⟨_,#[ac 3 #[ai 4 #[cG 7 #[(),(),(@bv _ (K) (by rfl)),iU,T.b_isinstance,(@aq),#[[#[0,kE],#[cb 4 uo T.b_int (@du) (by decide) (by decide)]]]] #[cX 5 #[Bj 4 #[(),(),(@bv _ (K) (by rfl)),iU,T.b_isinstance,(@aq),#[[#[0,kE],#[cb 4 tL T.b_bool (@lU) (by decide) (by decide)]]]]]]]]],?_⟩
  refine ⟨(),_,_,_,(),hx.ty,uK d,(),?_⟩
  cases d with
  | int i=>exact aa ⟨_,rfl,_,_,_,_,rfl,hx.ty,pj (.int i),_,rfl,k⟩
  | bool b=>exact aa ⟨_,rfl,_,_,_,_,rfl,hx.ty,pj (.bool b),_,rfl,k⟩
  | none=>exact ah k
  | str _=>exact ah k
  | list _=>exact ah k
  | tuple _=>exact ah k
  | dict _=>exact ah k
inductive Ia (vs:List V) (H:Hp) (Q:VK):Prop
 | mk (x:V) (c:Nat) (d:PyData) (E:Addr→Prop) (wn wk:Nat) (h0:vs=[x,C8 c,CY c]) (h1:c≤2) (h2:bh E H x d) (h3:Wt d wn wk) (h4:∀H',ad H H'→Q (.bl (rM c d)) H')
def IJ:Sp:=fun vs H Q _=>Ia  vs H Q
theorem oy (T:Txt K mg):bt P w K mg base CX0 2 T.l_is_fr_.f T.l_is_fr_.d ["_law_thing", "_law_low", "_law_top"] IJ:=by
 have G_l_fr:=#[(tq)]
 have G_l_number:=#[(ku)]
 refine T.l_is_fr_.F.ok Ab (fun vs H Q E h=>?_) (fun cdv A outer s H vs Q E hr h=>?_)
 ·obtain ⟨x,c,d,F,wn,wk,rfl,_⟩:=h
  rfl
 ·obtain ⟨x,c,d,F,wn,wk,rfl,hc,hx,wd,k⟩:=h
  refine ⟨_,#[#[aN 8 #[PW.pt 3 #[bd 7 #[aK 4 #[aF 3 #[(),(),(@bv _ (K) (by rfl)),oJ,T.b_isinstance,(@aq),#[[#[0,bw],#[cb 4 tE T.b_tuple (@aI) (by decide) (by decide)]]]] (by intro _;rfl)]] #[bd 7 #[au 8 (@iz _) #[(),(),(@eI _ (K) (by rfl)),vW,T.b_len,(@bi),#[[#[0,bw]]]] #[()] #[(),()]] #[bK 4 #[aK 4 #[aF 3 #[(),(),(@eY _ (K) rfl (by rfl)),wc,T.b_all,(@bQ),#[[#[bA 7 (["_law_one"]) (1) ([]) _ _ _ _ rfl (by kernel_rfl) (@bI _ (K) _ _ _ #[0,bw] (by rfl)) (fun _ _ _ _ _ _=>#[0,(),()]) (fun _ _ _ _ _ _=>@bu _) (fun _ _ _ _ _ _=>#[G_l_number,(),T.l_number_,#[[#[0,()]]]]) (by intro _;rfl)]]]] (by intro _;rfl)]]]]]] #[ac 3 #[ai 4 #[bj 4]]] (@ay _)] :: #[#[aN 8 #[PW.pt 3 #[bd 7 #[au 8 (@dQ _) #[#[0,bw][#[()]]] #[()] #[(),()]] #[bd 7 #[au 8 (@Gw _ hr.units) #[G_l_fr,uj,T.l_fr_,#[[#[#[0,bw][#[()]]],#[#[0,bw][#[()]]]]]] #[0,bw] #[(),()]] #[bd 7 #[au 8 (@dQ _) #[#[0,bw][#[()]]] #[()] #[(),()]] #[bK 4 #[PW.pt 3 #[wF 7 #[au 8 (@A9 _) #[1,sP] #[eQ 3] #[(),()]] #[ud 4 #[au 8 (@cY _) #[#[0,bw][#[()]]] #[()] #[(),()]]]]]]]]]] #[ac 3 #[ai 4 #[bj 4]]] (@ay _)] :: #[ac 3 #[ai 4 #[HW 7 #[bY 8 (@A9 _) #[2,my] #[eQ 3] #[(),()]] #[cX 5 #[bY 8 (@lg _) #[#[0,bw][#[()]]] #[aj 8 (@ej _) #[2,my] #[#[0,bw][#[()]]]] #[(),()]]]]]]]],?_⟩
  refine ⟨(),_,_,_,(),hx.ty,cf d,(),?_⟩
  have k0:=k H (ad.refl _)
  cases hx with
  | non=>rw [ju rfl] at k0;exact aa (aa k0)
  | bl b=>rw [ju rfl] at k0;exact aa (aa k0)
  | int i=>rw [ju rfl] at k0;exact aa (aa k0)
  | str y=>rw [ju rfl] at k0;exact aa (aa k0)
  | lst h ne r=>rw [ju rfl] at k0;exact aa (aa k0)
  | @tup a xs ds h r=>
   have hl:=r.length
   refine ah ⟨(),a,xs,rfl,.inr (ak.of h),rfl,(),?_⟩
   by_cases h2:ds.length=2
   ·obtain ⟨d1,d2,rfl⟩:=IT (d:=.tuple ds) (decide_eq_true h2) |> fun ⟨a,b,e⟩=>(⟨a,b,by injection e⟩:cj fun a b=>ds=[a,b])
    have r0:=r
    cases r with
    | @cons v1 _ _ _ r1 r=>
    cases r with
    | @cons v2 _ _ _ r2 r=>
    cases r
    have l2:(!decide (V.int (([v1,v2]:List V).length:Int)=V.int 2))=false:=rfl
    rw [l2]
    refine ah ⟨(),a,rfl,⟨_,ak.of h⟩,dY (E:=F) eB h r0 (by show 2≤10000;decide) ?_ ?_⟩
    ·intro x dx H' R hm g1 sm kk
     exact ⟨dq,(),x,dx,F,rfl,g1,kk H' (ad.refl _)⟩
    ·intro D H1 s1 hD1
     refine ⟨D,(),aE.of hD1,(),?_⟩
     rw [fx]
     have ka:=k H1 s1
     have e2:[d1,d2].all eB=(eB d1 && eB d2):=by simp
     rw [e2]
     cases hn:(eB d1 && eB d2) with
     | false=>
      rw [ju (BK hn)] at ka
      exact aa ka
     | true=>
      rw [Bool.and_eq_true] at hn
      obtain ⟨n,rfl⟩:=gZ hn.1
      obtain ⟨e,rfl⟩:=gZ hn.2
      cases r1
      cases r2
      have ha:=s1 _ _ h
      obtain ⟨z1,z2⟩:=yH wd
      refine ah ?_
      refine ⟨(),a,_,_,(),rfl,ak.of ha,rfl,_,(),rfl,(),?_⟩
      by_cases h1:1≤e
      case neg=>
       have e0:c9 (.tuple [.int n,.int e])=false:=by
        show (decide (1≤e) && decide (Int.gcd n e=1))=_
        rw [decide_eq_false h1,Bool.false_and]
       rw [ju e0] at ka
       rw [decide_eq_true (show e<1 by trivial)]
       exact aa (aa ka)
      rw [decide_eq_false (show ¬e<1 by trivial)]
      refine ah ?_
      refine ⟨(),a,_,_,(),rfl,ak.of ha,rfl,(),a,_,_,(),rfl,ak.of ha,rfl,n,e,rfl,by trivial,z2.mono (by decide),fun p H2 n2=>?_⟩
      have f:=Fb.low z1 z2 (show e≠0 by trivial)
      refine ⟨(),fh (KM.low n e),.tuple [.int n,.int e],ED,ED,3,3,1,1,rG n2.at',rG (p:=(n,e)) (n2.sm _ _ ha),GQ f (by decide),.tuple (.cons (.int z1) (.cons (.int z2) .nil)),by decide,(),?_⟩
      have s2:=s1.trans n2.sm
      have e0:c9 (.tuple [.int n,.int e])=decide (Int.gcd n e=1):=by
       show (decide (1≤e) && decide (Int.gcd n e=1))=_
       rw [decide_eq_true (show 1≤e by trivial),Bool.true_and]
      have kb:=k H2 s2
      have h2':=s2 _ _ h
      rw [EU h1]
      by_cases hg:Int.gcd n e=1
      case neg=>
       rw [decide_eq_false hg] at e0 ⊢
       rw [ju e0] at kb
       exact aa (aa kb)
      rw [decide_eq_true hg] at e0 ⊢
      refine ah ?_
      refine ⟨(),a,_,_,(),rfl,ak.of h2',rfl,_,(),rfl,(),?_⟩
      by_cases h0:n<0
      ·rw [DE h0] at kb
       rw [decide_eq_true h0]
       exact aa (aa kb)
      rw [decide_eq_false h0]
      have f0:aX (.tuple [.int n,.int e])=true:=by
       show (c9 (.tuple [.int n,.int e]) && decide (0≤n))=true
       rw [e0,decide_eq_true (by trivial)];rfl
      match c,hc with
      | 0,_=>
       refine ah ⟨(),rfl,(),?_⟩
       rw [show decide (C8 0=V.non)=false from decide_eq_false (fun z=>by cases z)]
       refine ah ?_
       have kb:Q (.bl (aX (.tuple [.int n,.int e]))) H2:=kb
       rw [f0] at kb
       refine ⟨(),rfl,(),?_⟩
       rw [show decide (CY 0=V.non)=true from decide_eq_true rfl]
       exact aa kb
      | 1,_=>
       refine ah ⟨(),rfl,(),?_⟩
       rw [show decide (C8 1=V.non)=true from decide_eq_true rfl]
       refine aa ⟨(),a,_,_,(),rfl,ak.of h2',rfl,rfl,(),?_⟩
       have kb:Q (.bl (dE (.tuple [.int n,.int e]))) H2:=kb
       have f1:dE (.tuple [.int n,.int e])=decide (0<n):=by
        show (c9 (.tuple [.int n,.int e]) && decide (0<n))=_
        rw [e0];rfl
       rw [f1] at kb
       by_cases hz:n=0
       ·subst hz
        rw [show decide (V.int 0=V.int 0)=true from decide_eq_true rfl]
        exact aa kb
       ·rw [show decide (V.int n=V.int 0)=false from decide_eq_false (fun z=>by injection z with z;exact hz z)]
        rw [decide_eq_true (show 0<n by trivial)] at kb
        refine ah ?_
        refine ⟨(),rfl,(),?_⟩
        rw [show decide (CY 1=V.non)=true from decide_eq_true rfl]
        exact aa kb
      | 2,_=>
       refine ah ⟨(),rfl,(),?_⟩
       rw [show decide (C8 2=V.non)=false from decide_eq_false (fun z=>by cases z)]
       refine ah ?_
       have kb:Q (.bl (dL (.tuple [.int n,.int e]) (1,1))) H2:=kb
       have f1:dL (.tuple [.int n,.int e]) (1,1)=decide (n≤1*e):=by
        show ((c9 (.tuple [.int n,.int e]) && decide (0≤n)) && decide (n*1≤1*e))=_
        rw [e0,decide_eq_true (show 0≤n by trivial),Int.mul_one];rfl
       rw [f1] at kb
       refine ⟨(),rfl,(),?_⟩
       rw [show decide (CY 2=V.non)=false from decide_eq_false (fun z=>by cases z)]
       exact ah ⟨(),a,_,_,(),rfl,ak.of h2',rfl,(),(),a,_,_,(),rfl,ak.of h2',rfl,1,e,rfl,rfl,.inl (by decide),_,(),rfl,kb⟩
   ·have hq:dO 2 (.tuple ds)=false:=decide_eq_false h2
    rw [ju (EM hq)] at k0
    have:(!decide (V.int (xs.length:Int)=V.int 2))=true:=nU (b:=2) (by trivial)
    rw [this]
    exact aa (aa k0)
end
end K53
namespace K53
open PySem L2
set_option maxHeartbeats 16000000
theorem oN:∀ns:List Int,(dz ns).all id=true↔ns.Pairwise (· < ·)
 | []=>by simp [dz]
 | [x]=>by simp [dz]
 | x :: y :: r=>by
  have e:dz (x :: y :: r)=decide (x<y) :: dz (y :: r):=by simp [dz]
  rw [e,List.all_cons,Bool.and_eq_true]
  have ih:=oN (y :: r)
  constructor
  ·rintro ⟨h1,h2⟩
   have h1:x<y:=of_decide_eq_true h1
   have p:=ih.mp h2
   refine List.pairwise_cons.mpr ⟨fun z hz=>?_,p⟩
   rcases List.mem_cons.mp hz with q | q
   ·rw [q];exact h1
   ·exact Int.lt_trans h1 ((List.pairwise_cons.mp p).1 z q)
  ·intro h
   have h':=List.pairwise_cons.mp h
   exact ⟨decide_eq_true (h'.1 y (by simp)),ih.mpr h'.2⟩
theorem sI:∀{ns ms:List Int},ns.Pairwise (· < ·)→ms.Pairwise (· < ·)→(∀x,x∈ns↔x∈ms)→ns=ms
 | [],[],_,_,_=>rfl
 | [],y :: r,_,_,h=>by have:=(h y).mpr (by simp);cases this
 | x :: r,[],_,_,h=>by have:=(h x).mp (by simp);cases this
 | x :: r,y :: q,p1,p2,h=>by
  have a1:=List.pairwise_cons.mp p1
  have a2:=List.pairwise_cons.mp p2
  have e:x=y:=by
   rcases List.mem_cons.mp ((h x).mp (by simp)) with z | z
   ·exact z
   ·rcases List.mem_cons.mp ((h y).mpr (by simp)) with z' | z'
    ·exact z'.symm
    ·have:=a1.1 y z'
     have:=a2.1 x z
     trivial
  subst e
  rw [sI a1.2 a2.2 fun z=>?_]
  constructor
  ·intro hz
   rcases List.mem_cons.mp ((h z).mp (by simp [hz])) with c | c
   ·have:=a1.1 z hz;trivial
   ·exact c
  ·intro hz
   rcases List.mem_cons.mp ((h z).mpr (by simp [hz])) with c | c
   ·have:=a2.1 z hz;trivial
   ·exact c
theorem ES {ns ms:List Int} (p:ms.Pairwise (· < ·)) (h:∀x,x∈ms↔x∈ns):decide (ns=ms)=(dz ns).all id:=by
 by_cases e:ns=ms
 ·rw [decide_eq_true e]
  subst e
  exact ((oN _).mpr p).symm
 ·rw [decide_eq_false e]
  cases hb:(dz ns).all id with
  | false=>rfl
  | true=>exact absurd (sI ((oN _).mp hb) p fun x=>(h x).symm) e
theorem wO:∀ns ms:List Int,PyData.eqvAll (ns.map PyData.int) (ms.map PyData.int)=decide (ns=ms)
 | [],[]=>by simp [PyData.eqvAll]
 | [],_ :: _=>by simp [PyData.eqvAll]
 | _ :: _,[]=>by simp [PyData.eqvAll]
 | x :: r,y :: q=>by
  have ih:=wO r q
  simp only [List.map_cons,PyData.eqvAll,ih]
  by_cases e:x=y
  ·subst e
   simp [PyData.eqv]
  ·simp [PyData.eqv,e]
theorem By (ns ms:List Int):PyData.eqv (.list (ns.map PyData.int)) (.list (ms.map PyData.int))=decide (ns=ms):=by
 rw [←wO]
 simp [PyData.eqv]
theorem uu {ns:List Str}{d:PyData} (h:b7 (ns.map PyData.str) d=true):∃s,d=.str s:=⟨_,yT h⟩
theorem tQ {ns:List Str}{d:PyData} (h:lN d=false):b7 (ns.map PyData.str) d=false:=by
 cases hc:b7 (ns.map PyData.str) d with
 | false=>rfl
 | true=>
  obtain ⟨s,rfl⟩:=uu hc
  cases h
section
variable {P:Program}{w:World}{K:PySem.W.Frag}{mg:Str→Option Value}{base:Heap}
inductive Hg (f:List PyData→Int→PyData→Bool) (vs:List V) (H:Hp) (Q:VK):Prop
 | mk (p x:V) (hr:Int) (nms:List Str) (d:PyData) (E F:Addr→Prop) (pn pk wn wk:Nat) (h0:vs=[p,.int hr,x]) (h1:bh F H p (.tuple (nms.map PyData.str))) (h2:Wt (.tuple (nms.map PyData.str)) pn pk) (h3:pk≤40) (h4:bh E H x d) (h5:Wt d wn wk) (h6:wn≤3000) (h7:wk≤40) (h8:fe 60 d=true) (h9:∀H',ad H H'→Q (.bl (f (nms.map PyData.str) hr d)) H')
def IS (f:List PyData→Int→PyData→Bool):Sp:=fun vs H Q _=>Hg f vs H Q
theorem yo (T:Txt K mg):bt P w K mg base CX0 3 T.l_is_tie_.f T.l_is_tie_.d ["_law_places", "_law_hours", "_law_thing"] (IS dS):=by
 have G_l_is_fr:=#[(oy)]
 have G_l_number:=#[(ku)]
 refine T.l_is_tie_.F.ok yx (fun vs H Q E h=>?_) (fun cdv A outer s H vs Q E hr h=>?_)
 ·obtain ⟨p,x,hh,nms,d,E',F,pn,pk,wn,wk,rfl,_⟩:=h
  rfl
 ·obtain ⟨p,x,hh,nms,d,E',F,pn,pk,wn,wk,rfl,hp,wp,hpk,hx,wd,hwn,hwk,hna,k⟩:=h
  refine ⟨_,#[#[aN 8 #[PW.pt 3 #[bd 7 #[aK 4 #[aF 3 #[(),(),(@bv _ (K) (by rfl)),iV,T.b_isinstance,(@aq),#[[#[2,aM],#[cb 4 lL T.b_tuple (@aI) (by decide) (by decide)]]]] (by intro _;rfl)]] #[bd 7 #[au 8 (@iz _) #[(),(),(@eI _ (K) (by rfl)),uB,T.b_len,(@bi),#[[#[2,aM]]]] #[()] #[(),()]] #[bK 4 #[aK 4 #[aF 3 #[(),(),(@eY _ (K) rfl (by rfl)),oh,T.b_all,(@bQ),#[[#[bA 7 (["_law_one"]) (1) ([]) _ _ _ _ rfl (by kernel_rfl) (@bI _ (K) _ _ _ #[aR 10 (@b6 _ (K) (by rfl)) #[2,aM] (@be _) #[aU 3 #[()]]] (by rfl)) (fun _ _ _ _ _ _=>#[0,(),()]) (fun _ _ _ _ _ _=>@bu _) (fun _ _ _ _ _ _=>#[(),(),(@bv _ (K) (by rfl)),(by show _=_;kernel_rfl),T.b_isinstance,(@aq),#[[#[0,()],#[cb 4 (by show _=_;kernel_rfl) T.b_str (@gl) (by decide) (by decide)]]]]) (by intro _;rfl)]]]] (by intro _;rfl)]]]]]] #[ac 3 #[ai 4 #[bj 4]]] (@ay _)] :: #[#[aN 8 #[PW.pt 3 #[bd 7 #[au 8 (@eJ _ hr.units) #[#[2,aM][#[()]]] #[0,jC] rfl] #[bd 7 #[au 8 (@eJ _ hr.units) #[#[2,aM][#[()]]] #[0,jC] rfl] #[bK 4 #[au 8 (@qg _ hr.units) #[#[2,aM][#[()]]] #[#[2,aM][#[()]]] #[(),()]]]]]] #[ac 3 #[ai 4 #[bj 4]]] (@ay _)] :: #[#[aN 8 #[PW.pt 3 #[bd 7 #[aK 4 #[aF 3 #[G_l_is_fr,gF,T.l_is_fr_,#[[#[#[2,aM][#[()]]],#[()],#[eQ 3]]]] (by intro _;rfl)]] #[bK 4 #[aK 4 #[aF 3 #[G_l_is_fr,gF,T.l_is_fr_,#[[#[#[2,aM][#[()]]],#[eQ 3],#[eQ 3]]]] (by intro _;rfl)]]]]] #[ac 3 #[ai 4 #[bj 4]]] (@ay _)] :: #[#[aN 8 #[aK 4 #[aF 3 #[G_l_is_fr,gF,T.l_is_fr_,#[[#[#[2,aM][#[()]]],#[()],#[eQ 3]]]] (by intro _;rfl)]] #[ac 3 #[ai 4 #[bj 4]]] (@ay _)] :: #[#[aN 8 #[PW.pt 3 #[bd 7 #[aK 4 #[aF 3 #[G_l_number,pW,T.l_number_,#[[#[#[2,aM][#[()]]]]]] (by intro _;rfl)]] #[bd 7 #[au 8 (@dQ _) #[#[2,aM][#[()]]] #[()] #[(),()]] #[bK 4 #[aK 4 #[aF 3 #[(),(),(@bv _ (K) (by rfl)),iV,T.b_isinstance,(@aq),#[[#[#[2,aM][#[()]]],#[cb 4 lL T.b_tuple (@aI) (by decide) (by decide)]]]] (by intro _;rfl)]]]]]] #[ac 3 #[ai 4 #[bj 4]]] (@ay _)] :: #[#[aN 8 #[aK 4 #[aF 3 #[(),(),(@eY _ (K) rfl (by rfl)),oh,T.b_all,(@bQ),#[[#[bA 7 (["_law_hour", "_law_hours"]) (1) ([1]) _ _ _ _ rfl (by kernel_rfl) (@bI _ (K) _ _ _ #[#[2,aM][#[()]]] (by rfl)) (fun _ _ _ _ _ _=>#[0,(),()]) (fun _ _ _ _ _ _=>@bu _) (fun _ _ _ _ _ _=>#[cG 7 #[G_l_number,(),T.l_number_,#[[#[0,()]]]] #[cX 5 #[lR 12 (@lg _) (@dQ _) #[()] #[0,()] #[1,0] (by with_unfolding_all rfl)]]]) (by intro _;rfl)]]]] (by intro _;rfl)]] #[ac 3 #[ai 4 #[bj 4]]] (@ay _)] :: #[ac 3 #[ai 4 #[bY 8 (@qg _ hr.units) #[bV 9 (@fX _ (K) (by rfl)) tD T.b_list (@d9) #[[#[#[2,aM][#[()]]]]] (by decide) (by decide) (by rfl) (by rfl)] (@CA _ (K) _ _ _ _ _ _ #[#[2,aM][#[()]]] rfl re T.b_sorted uQ T.b_set (by rfl) (by rfl)) #[(),()]]]]]]]]]],?_⟩
  have k0:=k H (ad.refl _)
  refine ⟨(),_,_,_,(),hx.ty,cf d,(),?_⟩
  cases hx with
  | non=>exact aa (aa k0)
  | bl b=>exact aa (aa k0)
  | int i=>exact aa (aa k0)
  | str y=>exact aa (aa k0)
  | lst h ne r=>exact aa (aa k0)
  | @tup a xs ds h r=>
  have lx:=r.length
  refine ah ⟨(),a,xs,rfl,.inr (ak.of h),rfl,(),?_⟩
  cases ht:dO 7 (.tuple ds) with
  | false=>
   rw [mH (f:=dS (nms.map PyData.str) hh) ht vz] at k0
   have:(!decide (V.int (xs.length:Int)=V.int 7))=true:=nU (b:=7) (by rw [lx];exact of_decide_eq_false ht)
   rw [this]
   exact aa (aa k0)
  | true=>
  have hl:ds.length=7:=of_decide_eq_true ht
  obtain ⟨d1,d2,d3,d4,d5,d6,d7,rfl⟩:E8 fun d1 d2 d3 d4 d5 d6 d7=>ds=[d1,d2,d3,d4,d5,d6,d7]:=by
   match ds,hl with
   | [d1,d2,d3,d4,d5,d6,d7],_=>exact ⟨d1,d2,d3,d4,d5,d6,d7,rfl⟩
  have wall:=cP wd
  have nall:=(oi hna).2
  obtain ⟨m1,hm1,w1⟩:=wall d1 (by simp)
  obtain ⟨m2,hm2,w2⟩:=wall d2 (by simp)
  obtain ⟨m3,hm3,w3⟩:=wall d3 (by simp)
  obtain ⟨m4,hm4,w4⟩:=wall d4 (by simp)
  obtain ⟨m5,hm5,w5⟩:=wall d5 (by simp)
  obtain ⟨m7,hm7,w7⟩:=wall d7 (by simp)
  have n7:=nall d7 (by simp)
  cases r with
  | @cons x1 _ _ _ r1 r=>
  cases r with
  | @cons x2 _ _ _ r2 r=>
  cases r with
  | @cons x3 _ _ _ r3 r=>
  cases r with
  | @cons x4 _ _ _ r4 r=>
  cases r with
  | @cons x5 _ _ _ r5 r=>
  cases r with
  | @cons x6 _ _ _ r6 r=>
  cases r with
  | @cons x7 _ _ _ r7 r=>
  cases r
  have et:dS (nms.map PyData.str) hh (.tuple [d1,d2,d3,d4,d5,d6,d7])=((((b7 (nms.map PyData.str) d1 && b7 (nms.map PyData.str) d2) && !PyData.eqv d1 d2) && (aX d3 && (dE d4 && aX d5))) && (oD d6 && nF hh d7)):=rfl
  rw [et] at k
  rw [show (!decide (V.int (([x1,x2,x3,x4,x5,x6,x7]:List V).length:Int)=V.int 7))=false from rfl]
  refine ah ⟨(),(),a,(),ak.of h,h,fun q H1 s1 hq=>⟨q,rfl,⟨_,ak.of hq⟩,dY (E:=E') lN hq (.cons (r1.mono s1.toE) (.cons (r2.mono s1.toE) .nil)) (by show (2:Nat)≤10000;decide) ?_ ?_⟩⟩
  ·intro x dx H' R hm g1 sm kk
   exact ⟨dq,(),_,_,_,(),g1.ty,lI dx,kk H' (ad.refl _)⟩
  intro D H2 s2 hD2
  refine ⟨D,(),aE.of hD2,(),?_⟩
  have s12:=s1.trans s2
  have k2:=k H2 s12
  rw [fx]
  cases hS:[d1,d2].all lN with
  | false=>
   have:b7 (nms.map PyData.str) d1=false∨b7 (nms.map PyData.str) d2=false:=by
    rw [List.all_cons,List.all_cons,List.all_nil,Bool.and_true] at hS
    rcases Bool.and_eq_false_iff.mp hS with q | q
    ·exact .inl (tQ q)
    ·exact .inr (tQ q)
   rcases this with q | q
   ·rw [q] at k2;simp only [Bool.false_and] at k2;exact aa k2
   ·rw [q] at k2;simp only [Bool.and_false,Bool.false_and] at k2;exact aa k2
  | true=>
  refine ah ?_
  have h2:=s12 _ _ h
  have hp2:=hp.mono s12.toE
  have R1:=r1.mono s12.toE
  have R2:=r2.mono s12.toE
  have R3:=r3.mono s12.toE
  have R4:=r4.mono s12.toE
  have R5:=r5.mono s12.toE
  have R6:=r6.mono s12.toE
  have R7:=r7.mono s12.toE
  refine ⟨(),a,_,_,(),rfl,ak.of h2,rfl,(),d1,.tuple (nms.map PyData.str),E',F,_,_,_,_,nms.map PyData.str,R1,hp2,w1,wp,by trivial,rfl,(),?_⟩
  rw [nI]
  cases hb1:b7 (nms.map PyData.str) d1 with
  | false=>rw [hb1] at k2;simp only [Bool.false_and] at k2;exact aa (aa k2)
  | true=>
  refine ah ⟨(),a,_,_,(),rfl,ak.of h2,rfl,(),d2,.tuple (nms.map PyData.str),E',F,_,_,_,_,nms.map PyData.str,R2,hp2,w2,wp,by trivial,rfl,(),?_⟩
  rw [nI]
  cases hb2:b7 (nms.map PyData.str) d2 with
  | false=>rw [hb2] at k2;simp only [Bool.and_false,Bool.false_and] at k2;exact aa (aa k2)
  | true=>
  refine ah ⟨(),a,_,_,(),rfl,ak.of h2,rfl,(),a,_,_,(),rfl,ak.of h2,rfl,d1,d2,E',E',_,_,_,_,R1,R2,w1,w2,by trivial,(),?_⟩
  rw [hb1,hb2] at k k2
  simp only [Bool.true_and] at k k2
  cases hb3:PyData.eqv d1 d2 with
  | true=>rw [hb3] at k2;simp only [Bool.not_true,Bool.false_and] at k2;exact aa k2
  | false=>
  refine ah ?_
  rw [hb3] at k k2
  simp only [Bool.not_false,Bool.true_and] at k k2
  refine ⟨(),a,_,_,(),rfl,ak.of h2,rfl,x3,0,d3,E',_,(),by decide,R3,w3,fun H3 s3=>⟨(),?_⟩⟩
  have k3:=k H3 (s12.trans s3)
  have e3:rM 0 d3=aX d3:=rfl
  rw [e3]
  cases hc3:aX d3 with
  | false=>rw [hc3] at k3;simp only [Bool.false_and] at k3;exact aa (aa k3)
  | true=>
  rw [hc3] at k
  simp only [Bool.true_and] at k
  have h3:=s3 _ _ h2
  refine ah ⟨(),a,_,_,(),rfl,ak.of h3,rfl,x4,1,d4,E',_,(),by decide,R4.mono s3.toE,w4,fun H4 s4=>⟨(),?_⟩⟩
  have s14:=(s12.trans s3).trans s4
  have k4:=k H4 s14
  have e4:rM 1 d4=dE d4:=rfl
  rw [e4]
  cases hc4:dE d4 with
  | false=>rw [hc4] at k4;simp only [Bool.false_and] at k4;exact aa k4
  | true=>
  rw [hc4] at k
  simp only [Bool.true_and] at k
  refine ah ?_
  have h4:=s4 _ _ h3
  refine ⟨(),a,_,_,(),rfl,ak.of h4,rfl,x5,0,d5,E',_,(),by decide,(R5.mono s3.toE).mono s4.toE,w5,fun H5 s5=>⟨(),?_⟩⟩
  have s15:=s14.trans s5
  have k5:=k H5 s15
  have e5:rM 0 d5=aX d5:=rfl
  rw [e5]
  cases hc5:aX d5 with
  | false=>rw [hc5] at k5;simp only [Bool.false_and] at k5;exact aa k5
  | true=>
  rw [hc5] at k k5
  simp only [Bool.true_and] at k k5
  refine ah ?_
  have h5:=s5 _ _ h4
  refine ⟨(),a,_,_,(),rfl,ak.of h5,rfl,x6,d6,E',rfl,r6.mono s15.toE,(),?_⟩
  cases hc6:eB d6 with
  | false=>
   rw [show oD d6=false by cases d6 <;> first | rfl | cases hc6] at k5
   simp only [Bool.false_and] at k5
   exact aa (aa k5)
  | true=>
  obtain ⟨n,rfl⟩:=gZ hc6
  cases id r6
  refine ah ⟨(),a,_,_,(),rfl,ak.of h5,rfl,_,(),rfl,(),?_⟩
  rw [show oD (.int n)=decide (0≤n) from rfl] at k k5
  by_cases h0:0≤n
  case neg=>
   rw [decide_eq_false h0] at k5
   simp only [Bool.false_and] at k5
   rw [decide_eq_true (show n<0 by trivial)]
   exact aa (aa k5)
  rw [decide_eq_true h0] at k k5
  simp only [Bool.true_and] at k k5
  rw [decide_eq_false (show ¬n<0 by trivial)]
  have R7':=r7.mono s15.toE
  refine ah ⟨(),a,_,_,(),rfl,ak.of h5,rfl,_,_,_,(),R7'.ty,cf d7,(),?_⟩
  cases r7 with
  | non=>exact aa k5
  | bl b=>exact aa k5
  | int i=>exact aa k5
  | str y=>exact aa k5
  | lst h ne r=>exact aa k5
  | @tup a7 xs7 e7 h7 q7=>
  have l7:=q7.length
  have le7:=(oi n7).1
  refine ah ?_
  refine ⟨(),a,_,_,(),rfl,ak.of h5,rfl,a7,rfl,⟨_,ak.of (s15 _ _ h7)⟩,dY (E:=E') (bC hh) (s15 _ _ h7) (q7.mono s15.toE) (by trivial) ?_ ?_⟩
  ·intro x dx H' R hm g1 sm kk
   refine ⟨dq,(),x,dx,E',rfl,g1,(),?_⟩
   have kk0:=kk H' (ad.refl _)
   cases hd:eB dx with
   | false=>
    rw [show bC hh dx=false by cases dx <;> first | rfl | cases hd] at kk0
    exact ah kk0
   | true=>
   obtain ⟨i,rfl⟩:=gZ hd
   cases g1
   rw [show bC hh (.int i)=(decide (0≤i) && decide (i<hh)) from rfl] at kk0
   refine aa ⟨(),_,(),rfl,(),?_⟩
   by_cases hi:0≤i
   ·rw [decide_eq_true hi,Bool.true_and] at kk0
    rw [decide_eq_true hi]
    exact aa ⟨(),_,(),rfl,kk0⟩
   ·rw [decide_eq_false hi,Bool.false_and] at kk0
    rw [decide_eq_false hi]
    exact ah kk0
  intro D6 H6 s6 hD6
  refine ⟨D6,(),aE.of hD6,(),?_⟩
  rw [fx]
  have s16:=s15.trans s6
  have k6:=k H6 s16
  have eo:nF hh (.tuple e7)=(e7.all (bC hh) && (dz (e7.map kK)).all id):=rfl
  rw [eo] at k k6
  cases hH:e7.all (bC hh) with
  | false=>rw [hH] at k6;simp only [Bool.false_and] at k6;exact aa k6
  | true=>
  refine ah ?_
  rw [hH] at k
  simp only [Bool.true_and] at k
  have es:=qi hH
  generalize hns:e7.map kK=ns at es k
  have ex:xs7=ns.map V.int:=by
   rw [es] at q7
   exact pq q7
  subst ex
  have lns:ns.length=e7.length:=by rw [←hns,List.length_map]
  have h6:=s6 _ _ h5
  have i7:=s16 _ _ h7
  have wns:Wt (.list (ns.map PyData.int)) m7 wk:=by
   rw [←es]
   cases w7 with
   | tuple wl=>exact .list wl
  refine ⟨(),a,_,_,(),rfl,ak.of h6,rfl,a7,(),.inr (ak.of i7),fun L H7 n7=>?_⟩
  refine ⟨(),a,_,_,(),rfl,ak.of (n7.sm _ _ h6),rfl,a7,ns,rfl,.inr (ak.of (n7.sm _ _ i7)),by trivial,fun L2 ms H8 pw mi n8=>?_⟩
  have inn:∀{J:Hp}{l:Addr}{zs:List Int},J l=some (.lst (zs.map V.int))→bh (fun _=>False) J (.ref l) (.list (zs.map PyData.int)):=fun {J l zs} hj=>.lst hj (fun z=>z) (by
   clear hj
   induction zs with
   | nil=>exact .nil
   | cons z r ih=>exact .cons (.int _) ih)
  have nsz:∀i∈ns,Sz 1900 i:=by
   have gen:∀{zs:List Int}{n k:Nat},cu (zs.map PyData.int) n k→∀i∈zs,Sz 1900 i:=fun {zs n k}=>by
    induction zs generalizing n with
    | nil=>intro _ i hi;cases hi
    | cons z r ih=>
     intro hw i hi
     cases hw with
     | cons h1 h2=>
      rcases List.mem_cons.mp hi with q | q
      ·rw [q]
       cases h1 with
       | int hz=>exact hz
      ·exact ih h2 i q
   cases wns with
   | list wl=>exact gen wl
  have wms:Wt (.list (ms.map PyData.int)) (ms.length+1) 1:=by
   have gen:∀{zs:List Int},(∀i∈zs,Sz 1900 i)→cu (zs.map PyData.int) zs.length 0:=fun {zs}=>by
    induction zs with
    | nil=>intro _;exact .nil
    | cons z r ih=>
     intro hz
     rw [List.length_cons,Nat.add_comm]
     exact .cons (.int (hz z (by simp))) (ih fun i hi=>hz i (by simp [hi]))
   exact .list (gen fun i hi=>nsz i ((mi i).mp hi))
  refine ⟨.list (ns.map PyData.int),.list (ms.map PyData.int),_,_,_,_,_,_,inn (n8.sm _ _ n7.at'),inn n8.at',wns,wms,by trivial,?_⟩
  rw [By,ES pw mi]
  exact k H8 ((s16.trans n7.sm).trans n8.sm)
end
end K53
namespace K53
open PySem L2
set_option maxHeartbeats 16000000
def q9 (ps:List PyData) (hr:Int) (n:Nat):PyData→Bool
 | .tuple ds=>decide (ds.length=n) && (b7 ps (ds.getD 0 .none) && bC hr (ds.getD 1 .none))
 | _=>false
def gW (ps:List PyData) (ds:List PyData):Bool:=ds.all (dn ps) && decide (ds.map fun d=>aV (cT d)).Nodup
theorem Ak {ps:List PyData}{ds:List PyData}{i:Nat}{d:PyData} (h:ds[i]?=some d) (hb:dn ps d=false):gW ps ds=false:=by
 unfold gW
 rw [show ds.all (dn ps)=false from List.all_eq_false.mpr ⟨d,List.mem_of_getElem? h,by rw [hb];decide⟩,Bool.false_and]
theorem wZ {ps:List PyData}{ds:List PyData}{i:Nat}{d:PyData} (h:ds[i]?=some d) (hb:aV (cT d)∈(ds.take i).map fun d=>aV (cT d)):gW ps ds=false:=by
 unfold gW
 rw [Bool.and_eq_false_iff]
 right
 refine decide_eq_false fun nd=>?_
 obtain ⟨l,e⟩:=List.getElem?_eq_some_iff.mp h
 have e0:ds=ds.take i++d :: ds.drop (i+1):=by rw [←e,List.getElem_cons_drop,List.take_append_drop]
 rw [e0,List.map_append,List.map_cons,List.nodup_append] at nd
 exact nd.2.2 _ hb _ (List.mem_cons_self ..) rfl
theorem zN {α:Type}{l:List α}{x:α} (h:l.Nodup) (hx:x∉l):(l++[x]).Nodup:=
 List.nodup_append.mpr ⟨h,by simp,fun a ha b hb e=>hx (by rw [List.mem_singleton] at hb;rw [←hb,←e];exact ha)⟩
theorem EI {ss:List Str} (h:∀s∈ss,jQ s):∃n,Wt (.list (ss.map PyData.str)) n 1:=by
 have gen:∀zs:List Str,(∀s∈zs,jQ s)→∃n,cu (zs.map PyData.str) n 0:=fun zs=>by
  induction zs with
  | nil=>exact fun _=>⟨0,.nil⟩
  | cons z r ih=>
   intro hz
   obtain ⟨n,w⟩:=ih fun s hs=>hz s (by simp [hs])
   exact ⟨1+n,.cons (.str (hz z (by simp))) w⟩
 obtain ⟨n,w⟩:=gen ss h
 exact ⟨n+1,.list w⟩
theorem Jl {i:Nat}{x:V}{σ:St}{H:Hp}{Q:St→Hp→Prop} (h:Q (σ.set i (some x)) H):iA i x σ H Q:=h
theorem EN {ns:List Str}{s:Str}:(ns.map PyData.str).any (fun z=>PyData.eqv z (.str s))=decide (s∈ns):=by
 induction ns with
 | nil=>rfl
 | cons n r ih=>
  rw [List.map_cons,List.any_cons,ih]
  by_cases e:n=s
  ·subst e;simp [PyData.eqv]
  ·have e':¬s=n:=fun z=>e z.symm
   simp [PyData.eqv,e,e']
theorem rN {E:Addr→Prop}{H:Hp}:∀ss:List Str,aG E H (ss.map V.str) (ss.map PyData.str)
 | []=>.nil
 | s :: r=>.cons (.str s) (rN r)
section
variable {P:Program}{w:World}{K:PySem.W.Frag}{mg:Str→Option Value}{base:Heap}
inductive DY (vs:List V) (H:Hp) (Q:VK):Prop
 | mk (p x:V) (hr:Int) (n:Nat) (nms:List Str) (d:PyData) (E F:Addr→Prop) (pn pk wn wk:Nat) (h0:vs=[p,.int hr,x,.int (n:Int)]) (h1:2≤n) (h2:bh F H p (.tuple (nms.map PyData.str))) (h3:Wt (.tuple (nms.map PyData.str)) pn pk) (h4:pk≤40) (h5:bh E H x d) (h6:Wt d wn wk) (h7:Q (.bl (q9 (nms.map PyData.str) hr n d)) H)
def Fs:Sp:=fun vs H Q _=>DY  vs H Q
theorem wU (T:Txt K mg):bt P w K mg base CX0 2 T.l_is_spot_.f T.l_is_spot_.d ["_law_places", "_law_hours", "_law_thing", "_law_many"] Fs:=by
 have G_l_number:=#[(ku)]
 refine T.l_is_spot_.F.ok xl (fun vs H Q E h=>?_) (fun cdv A outer s H vs Q E hr h=>?_)
 ·obtain ⟨p,x,hh,n,nms,d,E',F,pn,pk,wn,wk,rfl,_⟩:=h
  rfl
 ·obtain ⟨p,x,hh,n,nms,d,E',F,pn,pk,wn,wk,rfl,hn,hp,wp,hpk,hx,wd,k⟩:=h
  refine ⟨_,#[#[aN 8 #[PW.pt 3 #[bd 7 #[aK 4 #[aF 3 #[(),(),(@bv _ (K) (by rfl)),il,T.b_isinstance,(@aq),#[[#[2,cD],#[cb 4 rk T.b_tuple (@aI) (by decide) (by decide)]]]] (by intro _;rfl)]] #[bd 7 #[au 8 (@iz _) #[(),(),(@eI _ (K) (by rfl)),tH,T.b_len,(@bi),#[[#[2,cD]]]] #[3,p7] #[(),()]] #[bK 4 #[aK 4 #[aF 3 #[(),(),(@bv _ (K) (by rfl)),il,T.b_isinstance,(@aq),#[[#[#[2,cD][#[()]]],#[cb 4 tI T.b_str (@gl) (by decide) (by decide)]]]] (by intro _;rfl)]]]]]] #[ac 3 #[ai 4 #[bj 4]]] (@ay _)] :: #[#[aN 8 #[au 8 (@eJ _ hr.units) #[#[2,cD][#[()]]] #[0,oF] rfl] #[ac 3 #[ai 4 #[bj 4]]] (@ay _)] :: #[ac 3 #[ai 4 #[cG 7 #[G_l_number,oH,T.l_number_,#[[#[#[2,cD][#[()]]]]]] #[cX 5 #[lR 12 (@lg _) (@dQ _) #[()] #[#[2,cD][#[()]]] #[1,pO] (by with_unfolding_all rfl)]]]]]]],?_⟩
  refine ⟨(),_,_,_,(),hx.ty,cf d,(),?_⟩
  cases hx with
  | non=>exact aa (aa k)
  | bl b=>exact aa (aa k)
  | int i=>exact aa (aa k)
  | str y=>exact aa (aa k)
  | lst h ne r=>exact aa (aa k)
  | @tup a xs ds h r=>
  have lx:=r.length
  have et:q9 (nms.map PyData.str) hh n (.tuple ds)=(decide (ds.length=n) && (b7 (nms.map PyData.str) (ds.getD 0 .none) && bC hh (ds.getD 1 .none))):=rfl
  rw [et] at k
  refine ah ⟨(),a,xs,rfl,.inr (ak.of h),(),rfl,(),?_⟩
  by_cases hl:ds.length=n
  case neg=>
   rw [decide_eq_false hl,Bool.false_and] at k
   have:(!decide (V.int (xs.length:Int)=V.int (n:Int)))=true:=nU (by rw [lx];exact hl)
   rw [this]
   exact aa (aa k)
  have:(!decide (V.int (xs.length:Int)=V.int (n:Int)))=false:=by rw [lx,hl];exact Gv n
  rw [this]
  rw [decide_eq_true hl,Bool.true_and] at k
  have wall:=cP wd
  cases r with
  | nil=>simp at hl;trivial
  | @cons x1 _ d1 _ r1 r=>
  cases r with
  | nil=>simp at hl;trivial
  | @cons x2 xr d2 dr r2 r=>
  obtain ⟨m1,_,w1⟩:=wall d1 (by simp)
  have k:Q (.bl (b7 (nms.map PyData.str) d1 && bC hh d2)) H:=k
  have at0:gj (x1 :: x2 :: xr) 0=some x1:=by
   simp [gj,nK]
   rw [if_pos (by trivial)];rfl
  have at1:gj (x1 :: x2 :: xr) 1=some x2:=by
   simp [gj,nK]
   rw [if_pos (by trivial)];rfl
  refine ah ⟨(),a,_,_,(),rfl,ak.of h,at0,_,_,_,(),r1.ty,lI d1,(),?_⟩
  cases hS:lN d1 with
  | false=>rw [tQ hS,Bool.false_and] at k;exact aa k
  | true=>
  refine ah ?_
  refine ⟨(),a,_,_,(),rfl,ak.of h,at0,(),d1,.tuple (nms.map PyData.str),E',F,_,_,_,_,nms.map PyData.str,r1,hp,w1,wp,by trivial,rfl,(),?_⟩
  rw [nI]
  cases hb1:b7 (nms.map PyData.str) d1 with
  | false=>rw [hb1,Bool.false_and] at k;exact aa k
  | true=>
  rw [hb1,Bool.true_and] at k
  refine ah ?_
  refine ⟨(),a,_,_,(),rfl,ak.of h,at1,x2,d2,E',rfl,r2,(),?_⟩
  cases hd:eB d2 with
  | false=>
   rw [show bC hh d2=false by cases d2 <;> first | rfl | cases hd] at k
   exact ah k
  | true=>
  obtain ⟨i,rfl⟩:=gZ hd
  cases r2
  rw [show bC hh (.int i)=(decide (0≤i) && decide (i<hh)) from rfl] at k
  refine aa ⟨(),a,_,_,(),rfl,ak.of h,at1,_,(),rfl,(),?_⟩
  by_cases hi:0≤i
  ·rw [decide_eq_true hi,Bool.true_and] at k
   rw [decide_eq_true hi]
   exact aa ⟨(),_,(),rfl,k⟩
  ·rw [decide_eq_false hi,Bool.false_and] at k
   rw [decide_eq_false hi]
   exact ah k
inductive Bl (vs:List V) (H:Hp) (Q:VK):Prop
 | mk (p x:V) (nms:List Str) (ds:List PyData) (E F:Addr→Prop) (pn pk wn wk:Nat) (h0:vs=[p,x]) (h1:bh F H p (.tuple (nms.map PyData.str))) (h2:Wt (.tuple (nms.map PyData.str)) pn pk) (h3:pk≤40) (h4:bh E H x (.tuple ds)) (h5:Wt (.tuple ds) wn wk) (h6:wn≤3000) (h7:wk≤40) (h8:∀H',ad H H'→Q (.bl (gW (nms.map PyData.str) ds)) H')
def BS:Sp:=fun vs H Q _=>Bl  vs H Q
theorem tW (T:Txt K mg):bt P w K mg base CX0 3 T.l_are_stores_.f T.l_are_stores_.d ["_law_places", "_law_things"] BS:=by
 have G_l_is_fr:=#[(oy)]
 refine T.l_are_stores_.F.ok jw (fun vs H Q E h=>?_) (fun cdv A outer s H vs Q E hr h=>?_)
 ·obtain ⟨p,x,nms,ds,E',F,pn,pk,wn,wk,rfl,_⟩:=h
  rfl
 ·obtain ⟨p,x,nms,ds,E',F,pn,pk,wn,wk,rfl,hp,wp,hpk,hx,wd,hwn,hwk,k⟩:=h
  refine ⟨_,#[#[2,jw.nd,fg,#[bU 4 (@aC _)]] :: #[#[d8 8 PassesOwn.never rfl (@bI _ (K) _ _ _ #[1,mq] (by rfl)) #[3,jw.nd,br] #[#[aN 8 #[PW.pt 3 #[bd 7 #[aK 4 #[aF 3 #[(),(),(@bv _ (K) (by rfl)),gE,T.b_isinstance,(@aq),#[[#[3,br],#[cb 4 oX T.b_tuple (@aI) (by decide) (by decide)]]]] (by intro _;rfl)]] #[bd 7 #[au 8 (@iz _) #[(),(),(@eI _ (K) (by rfl)),ql,T.b_len,(@bi),#[[#[3,br]]]] #[()] #[(),()]] #[bK 4 #[aK 4 #[aF 3 #[(),(),(@bv _ (K) (by rfl)),gE,T.b_isinstance,(@aq),#[[#[#[3,br][#[()]]],#[cb 4 qE T.b_str (@gl) (by decide) (by decide)]]]] (by intro _;rfl)]]]]]] #[ac 3 #[ai 4 #[bj 4]]] (@ay _)] :: #[#[aN 8 #[PW.pt 3 #[bd 7 #[au 8 (@eJ _ hr.units) #[#[3,br][#[()]]] #[0,mr] rfl] #[bK 4 #[au 8 (@F7 _ hr.units) #[#[3,br][#[()]]] #[2,fg] rfl]]]] #[ac 3 #[ai 4 #[bj 4]]] (@ay _)] :: #[#[aN 8 #[PW.pt 3 #[bd 7 #[aK 4 #[aF 3 #[G_l_is_fr,ik,T.l_is_fr_,#[[#[#[3,br][#[()]]],#[()],#[eQ 3]]]] (by intro _;rfl)]] #[bK 4 #[aK 4 #[aF 3 #[G_l_is_fr,ik,T.l_is_fr_,#[[#[#[3,br][#[()]]],#[()],#[()]]]] (by intro _;rfl)]]]]] #[ac 3 #[ai 4 #[bj 4]]] (@ay _)] :: #[ac 3 #[fC 4 (@dX _ (K) _ _ _ _ _ _ _ _ _ _ _ PySem.F.plainAttrs_list PySem.F.slot_list_append PySem.F.type_list_append (@cU _) #[2,fg] #[[#[#[3,br][#[()]]]]] (by rfl) (by rfl) (by rfl) (by rfl) (by rfl) (by rfl)) (by rfl)]]]]] (by intro _;rfl)] :: #[ac 3 #[ai 4 #[bj 4]]]]],?_⟩
  cases hx with
  | @tup a xs _ h r=>
  have lx:=r.length
  have wall:=cP wd
  have lds:ds.length≤wn:=by
   cases wd with
   | tuple wl=>have:=gL wl;trivial
  refine ⟨(by show 0≤10000;decide),fun L H1 n1=>?_⟩
  have hpL:=(hp.plus n1.fr).mono (n1.sm.toE (E:=fun a=>F a∨a=L))
  have rL:=(r.plus n1.fr).mono (n1.sm.toE (E:=fun a=>E' a∨a=L))
  have up:∀{J:Hp},ar (Eb L) H1 J→ad H J:=fun sJ b o e=>sJ.old b o (fun z=>by cases z;rw [n1.fr] at e;cases e) (n1.sm b o e)
  have h1:=n1.sm _ _ h
  refine Jl ?_
  dsimp only
  refine ml fun D2 n2 r2=>⟨(),a,rfl,⟨_,ak.of h1⟩,nz (xs:=xs) (fun i σ H'=>∃(v3:Option V),σ=[some p,some (.ref a),some (.ref L),v3]∧ar (Eb L) H1 H'∧H' L=some (.lst (((ds.take i).map fun d=>aV (cT d)).map V.str))∧(∀d∈ds.take i,dn (nms.map PyData.str) d=true)∧((ds.take i).map fun d=>aV (cT d)).Nodup) ⟨(),ar.refl _,n1.at',fun d hd=>(by simp at hd),List.nodup_nil⟩ ?_ ?_ ?_⟩
  ·rintro i σ H' _ ⟨_,_,sE,_⟩
   exact ak.of (sE.tup _ _ h1)
  ·rintro i x σ H2 hxi ⟨v3,rfl,sE,hL,hst,hnd⟩
   obtain ⟨d,ed,g0⟩:=rL.get hxi
   have sL:=sE.imp (E':=fun a=>E' a∨a=L) fun a ha=>.inr ha
   have sF:=sE.imp (E':=fun a=>F a∨a=L) fun a ha=>.inr ha
   have g:=g0.mono sL
   have hp2:=hpL.mono sF
   have md:d∈ds:=List.mem_of_getElem? ed
   obtain ⟨m,hm,wx⟩:=wall d md
   have kb:∀{J:Hp},ar (Eb L) H1 J→dn (nms.map PyData.str) d=false→Q (.bl false) J:=fun sJ hb=>by
    have:=k _ (up sJ)
    rw [Ak ed hb] at this
    exact this
   refine ⟨(),_,_,_,(),g.ty,cf d,(),?_⟩
   cases id g with
   | non=>exact aa (aa (r2 _ _ (kb sE rfl)))
   | bl b=>exact aa (aa (r2 _ _ (kb sE rfl)))
   | int i=>exact aa (aa (r2 _ _ (kb sE rfl)))
   | str y=>exact aa (aa (r2 _ _ (kb sE rfl)))
   | lst h ne r=>exact aa (aa (r2 _ _ (kb sE rfl)))
   | @tup b ys es hb rb=>
   have lb:=rb.length
   refine ah ⟨(),b,ys,rfl,.inr (ak.of hb),rfl,(),?_⟩
   cases ht:dO 3 (.tuple es) with
   | false=>
    have:(!decide (V.int (ys.length:Int)=V.int 3))=true:=nU (b:=3) (by rw [lb];exact of_decide_eq_false ht)
    rw [this]
    exact aa (aa (r2 _ _ (kb sE (mH (f:=dn (nms.map PyData.str)) ht fun z=>by obtain ⟨b,m,k,e,_⟩:=mO z;exact ⟨_,e,rfl⟩))))
   | true=>
   obtain ⟨d1,d2,d3,rfl⟩:eV fun d1 d2 d3=>es=[d1,d2,d3]:=j9 (P:=fun l=>eV fun d1 d2 d3=>l=[d1,d2,d3]) (fun a b c=>⟨a,b,c,rfl⟩) es (of_decide_eq_true ht)
   have wb:=cP wx
   obtain ⟨m1,_,w1⟩:=wb d1 (by simp)
   obtain ⟨m2,_,w2⟩:=wb d2 (by simp)
   obtain ⟨m3,_,w3⟩:=wb d3 (by simp)
   cases rb with
   | @cons x1 _ _ _ r1 rb=>
   cases rb with
   | @cons x2 _ _ _ q2 rb=>
   cases rb with
   | @cons x3 _ _ _ q3 rb=>
   cases rb
   have et:dn (nms.map PyData.str) (.tuple [d1,d2,d3])=(b7 (nms.map PyData.str) d1 && (aX d2 && dL d3 (1,1))):=rfl
   rw [show (!decide (V.int (([x1,x2,x3]:List V).length:Int)=V.int 3))=false from rfl]
   refine ah ⟨(),b,_,_,(),rfl,ak.of hb,rfl,_,_,_,(),r1.ty,lI d1,(),?_⟩
   cases hS:lN d1 with
   | false=>exact aa (r2 _ _ (kb sE (by rw [et,tQ hS,Bool.false_and])))
   | true=>
   refine ah ?_
   refine ⟨(),b,_,_,(),rfl,ak.of hb,rfl,(),d1,.tuple (nms.map PyData.str),_,_,_,_,_,_,nms.map PyData.str,r1,hp2,w1,wp,by trivial,rfl,(),?_⟩
   rw [nI]
   cases hb1:b7 (nms.map PyData.str) d1 with
   | false=>exact aa (aa (r2 _ _ (kb sE (by rw [et,hb1,Bool.false_and]))))
   | true=>
   obtain ⟨s,rfl⟩:=uu hb1
   cases id r1
   have iL:bh (fun _=>False) H2 (.ref L) (.list (((ds.take i).map fun d=>aV (cT d)).map PyData.str)):=.lst hL (fun z=>z) (rN _)
   have wL:∃n,Wt (.list (((ds.take i).map fun d=>aV (cT d)).map PyData.str)) n 1:=EI fun z hz=>by
    obtain ⟨d0,hd0,rfl⟩:=List.mem_map.mp hz
    have hs0:=hst d0 hd0
    obtain ⟨m0,_,w0⟩:=wall _ (List.mem_of_mem_take hd0)
    obtain ⟨b0,m',k',rfl,hb0⟩:=mO hs0
    obtain ⟨mm,_,wb0⟩:=cP w0 b0 (by simp)
    obtain ⟨s0,rfl⟩:=uu hb0
    cases wb0 with
    | str h=>exact h
   obtain ⟨nL,wL⟩:=wL
   refine ah ⟨(),b,_,_,(),rfl,ak.of hb,rfl,(),.str s,_,_,_,_,_,_,_,_,r1,iL,w1,wL,by trivial,rfl,(),?_⟩
   rw [show (if false=true then !(((ds.take i).map fun d=>aV (cT d)).map PyData.str).any (fun z=>PyData.eqv z (.str s)) else (((ds.take i).map fun d=>aV (cT d)).map PyData.str).any (fun z=>PyData.eqv z (.str s)))=decide (s∈(ds.take i).map fun d=>aV (cT d)) from EN]
   by_cases hin:s∈(ds.take i).map fun d=>aV (cT d)
   ·rw [decide_eq_true hin]
    refine aa (r2 _ _ ?_)
    have:=k _ (up sE)
    rw [wZ ed hin] at this
    exact this
   rw [decide_eq_false hin]
   refine ah ?_
   refine ⟨(),b,_,_,(),rfl,ak.of hb,rfl,x2,0,d2,_,_,(),by decide,q2,w2,fun H3 s3=>⟨(),?_⟩⟩
   have sE3:=sE.trans s3.toE
   have e2:rM 0 d2=aX d2:=rfl
   rw [e2]
   cases hc2:aX d2 with
   | false=>exact aa (aa (r2 _ _ (kb sE3 (by rw [et,hc2,Bool.false_and,Bool.and_false]))))
   | true=>
   have hb3:=s3 _ _ hb
   refine ah ⟨(),b,_,_,(),rfl,ak.of hb3,rfl,x3,2,d3,_,_,(),by decide,q3.mono s3.toE,w3,fun H4 s4=>⟨(),?_⟩⟩
   have sE4:=sE3.trans s4.toE
   have e3:rM 2 d3=dL d3 (1,1):=rfl
   rw [e3]
   cases hc3:dL d3 (1,1) with
   | false=>exact aa (r2 _ _ (kb sE4 (by rw [et,hc3,Bool.and_false,Bool.and_false])))
   | true=>
   refine ah ?_
   have hL4:=(s3.trans s4) _ _ hL
   have lt:((ds.take i).map fun d=>aV (cT d)).length≤3000:=by simp;trivial
   refine ⟨(),.inl ⟨rfl,_,aE.of hL4⟩,(),b,_,_,(),rfl,ak.of (s4 _ _ hb3),rfl,L,_,(),rfl,hL4,by rw [List.length_map];trivial,fun H5 c5=>?_⟩
   have et2:ds.take (i+1)=ds.take i++[.tuple [.str s,d2,d3]]:=by rw [List.take_add_one,ed];rfl
   refine ⟨(),sE4.trans (Ch.sameE (ad.refl _) hL4 c5),?_,?_,?_⟩
   ·rw [c5.at',et2,List.map_append,List.map_append];rfl
   ·intro d hd
    rw [et2,List.mem_append,List.mem_singleton] at hd
    rcases hd with hd | hd
    ·exact hst d hd
    ·rw [hd,et,hb1,hc2,hc3];rfl
   ·rw [et2,List.map_append]
    exact zN hnd hin
  ·rintro σ H2 ⟨v3,rfl,sE,hL,hst,hnd⟩
   refine n2 _ _ ?_
   rw [lx,List.take_length] at hst hnd
   have:=k _ (up sE)
   unfold gW at this
   rw [List.all_eq_true.mpr hst,decide_eq_true hnd] at this
   exact this
end
end K53
namespace K53
open PySem L2
set_option maxHeartbeats 16000000
inductive EJ (f:PyData→Bool) (vs:List V) (H:Hp) (Q:VK):Prop
 | mk (x:V) (d:PyData) (E:Addr→Prop) (wn wk:Nat) (h0:vs=[x]) (h1:bh E H x d) (h2:Wt d wn wk) (h3:wn≤3000) (h4:wk≤40) (h5:fe 60 d=true) (h6:∀H',ad H H'→Q (.bl (f d)) H')
def Fi (f:PyData→Bool):Sp:=fun vs H Q _=>EJ f vs H Q
theorem xk {ps:List PyData}{hr:Int}{n:Nat}{ds:List PyData} (h:ds.length≠n):q9 ps hr n (.tuple ds)=false:=by
 show (decide (ds.length=n) && _)=false
 rw [decide_eq_false h,Bool.false_and]
theorem At {ps:List PyData}{hr:Int}{d:PyData}:dR ps hr d=true↔q9 ps hr 4 d=true∧lO fun b h m p=>d=.tuple [b,h,m,p]∧aX m=true∧aX p=true:=by
 constructor
 ·intro h
  obtain ⟨ds,rfl,hl⟩:=vi h
  obtain ⟨d1,d2,d3,d4,rfl⟩:lO fun d1 d2 d3 d4=>ds=[d1,d2,d3,d4]:=zH (P:=fun l=>lO fun d1 d2 d3 d4=>l=[d1,d2,d3,d4]) (fun a b c d=>⟨a,b,c,d,rfl⟩) ds hl
  have h':((b7 ps d1 && bC hr d2) && (aX d3 && aX d4))=true:=h
  rw [Bool.and_eq_true,Bool.and_eq_true] at h'
  refine ⟨?_,d1,d2,d3,d4,rfl,(Bool.and_eq_true _ _▸h'.2).1,(Bool.and_eq_true _ _▸h'.2).2⟩
  show (decide (4=4) && (b7 ps d1 && bC hr d2))=true
  rw [h'.1.1,h'.1.2];rfl
 ·rintro ⟨h1,b,h,m,p,rfl,h2,h3⟩
  have h1':(decide (4=4) && (b7 ps b && bC hr h))=true:=h1
  rw [show decide (4=4)=true from rfl,Bool.true_and,Bool.and_eq_true] at h1'
  show ((b7 ps b && bC hr h) && (aX m && aX p))=true
  rw [h1'.1,h1'.2,h2,h3];rfl
theorem Jh {D:fA}{σ:St}{H:Hp} (h:D.nx σ H):C5 D σ H:=h
section
variable {P:Program}{w:World}{K:PySem.W.Frag}{mg:Str→Option Value}{base:Heap}
theorem yA (T:Txt K mg):bt P w K mg base CX0 6 T.l_is_day_.f T.l_is_day_.d ["_law_thing"] (Fi iD):=by
 have G_l_is_name:=#[(xA)]
 have G_l_number:=#[(ku)]
 have G_l_is_tie:=#[(yo)]
 have G_l_are_stores:=#[(tW)]
 have G_l_is_spot:=#[(wU)]
 have G_l_is_fr:=#[(oy)]
 refine T.l_is_day_.F.ok kr (fun vs H Q E h=>?_) (fun cdv A outer s H vs Q E hr h=>?_)
 ·obtain ⟨x,d,E',wn,wk,rfl,_⟩:=h
  rfl
 ·obtain ⟨x,d,E',wn,wk,rfl,hx,wd,hwn,hwk,hna,k⟩:=h
  refine ⟨_,#[#[aN 8 #[PW.pt 3 #[bd 7 #[aK 4 #[aF 3 #[(),(),(@bv _ (K) (by rfl)),iS,T.b_isinstance,(@aq),#[[#[0,bH],#[cb 4 mh T.b_tuple (@aI) (by decide) (by decide)]]]] (by intro _;rfl)]] #[bd 7 #[au 8 (@iz _) #[(),(),(@eI _ (K) (by rfl)),kj,T.b_len,(@bi),#[[#[0,bH]]]] #[()] #[(),()]] #[bd 7 #[aK 4 #[aF 3 #[(),(),(@bv _ (K) (by rfl)),iS,T.b_isinstance,(@aq),#[[#[#[0,bH][#[()]]],#[cb 4 mh T.b_tuple (@aI) (by decide) (by decide)]]]] (by intro _;rfl)]] #[bK 4 #[au 8 (@qg _ hr.units) #[#[0,bH][#[()]]] #[ae 5 (@aC _)] #[(),()]]]]]]] #[ac 3 #[ai 4 #[bj 4]]] (@ay _)] :: #[#[gK 6 #[aR 10 (@b6 _ (K) (by rfl)) #[0,bH] (@be _) #[aU 3 #[()]]] (@fP _ (K) _ _ _ _ (2) rfl #[aP 5 #[cZ 2 (1) _ kr.nd rfl (Or.inr cC) (by first | exact .inl rfl | exact .inr rfl | assumption)] #[aP 5 #[cZ 2 (2) _ kr.nd rfl (Or.inr eR) (by first | exact .inl rfl | exact .inr rfl | assumption)] (@fD _) (by rfl)] (by rfl)] (by rfl) (by rfl) (by rfl)) (by rfl) (by rfl) (by rfl)] :: #[#[aN 8 #[PW.pt 3 #[bd 7 #[aK 4 #[aF 3 #[(),(),(@eY _ (K) rfl (by rfl)),gX,T.b_all,(@bQ),#[[#[bA 7 (["_law_one"]) (1) ([]) _ _ _ _ rfl (by kernel_rfl) (@bI _ (K) _ _ _ #[1,(cC)] (by rfl)) (fun _ _ _ _ _ _=>#[0,(),()]) (fun _ _ _ _ _ _=>@bu _) (fun _ _ _ _ _ _=>#[G_l_is_name,(),T.l_is_name_,#[[#[0,()]]]]) (by intro _;rfl)]]]] (by intro _;rfl)]] #[bK 4 #[au 8 (@iz _) (@qL _ (K) _ _ _ _ _ _ #[1,(cC)] rfl kj T.b_len uv T.b_set (by rfl) (by rfl)) #[(),(),(@eI _ (K) (by rfl)),kj,T.b_len,(@bi),#[[#[1,(cC)]]]] #[(),()]]]]] #[ac 3 #[ai 4 #[bj 4]]] (@ay _)] :: #[#[aN 8 #[PW.pt 3 #[bd 7 #[aK 4 #[aF 3 #[G_l_number,pT,T.l_number_,#[[#[2,(eR)]]]] (by intro _;rfl)]] #[bd 7 #[au 8 (@dQ _) #[2,(eR)] #[()] #[(),()]] #[bK 4 #[aK 4 #[aF 3 #[(),(),(@eY _ (K) rfl (by rfl)),gX,T.b_all,(@bQ),#[[#[bA 7 (["_law_part"]) (1) ([]) _ _ _ _ rfl (by kernel_rfl) (@bI _ (K) _ _ _ #[aR 10 (@b6 _ (K) (by rfl)) #[0,bH] #[aU 3 #[()]] (@be _)] (by rfl)) (fun _ _ _ _ _ _=>#[0,(),()]) (fun _ _ _ _ _ _=>@bu _) (fun _ _ _ _ _ _=>#[(),(),(@bv _ (K) (by rfl)),(by show _=_;kernel_rfl),T.b_isinstance,(@aq),#[[#[0,()],#[cb 4 (by show _=_;kernel_rfl) T.b_tuple (@aI) (by decide) (by decide)]]]]) (by intro _;rfl)]]]] (by intro _;rfl)]]]]]] #[ac 3 #[ai 4 #[bj 4]]] (@ay _)] :: #[#[aN 8 #[PW.pt 3 #[bd 7 #[aK 4 #[aF 3 #[(),(),(@eY _ (K) rfl (by rfl)),gX,T.b_all,(@bQ),#[[#[bA 7 (["_law_one", "_law_hours", "_law_places"]) (1) ([2,1]) _ _ _ _ rfl (by kernel_rfl) (@bI _ (K) _ _ _ #[#[0,bH][#[()]]] (by rfl)) (fun _ _ _ _ _ _=>#[0,(),()]) (fun _ _ _ _ _ _=>@bu _) (fun _ _ _ _ _ _=>#[G_l_is_tie,(),T.l_is_tie_,#[[#[2,0],#[1,0],#[0,()]]]]) (by intro _;rfl)]]]] (by intro _;rfl)]] #[bK 4 #[aK 4 #[aF 3 #[G_l_are_stores,mt,T.l_are_stores_,#[[#[1,(cC)],#[#[0,bH][#[()]]]]]] (by intro _;rfl)]]]]] #[ac 3 #[ai 4 #[bj 4]]] (@ay _)] :: #[#[d8 8 PassesOwn.never rfl (@bI _ (K) _ _ _ #[#[0,bH][#[()]]] (by rfl)) #[3,kr.nd,fT] #[#[aN 8 #[PW.pt 3 #[bd 7 #[aK 4 #[aF 3 #[G_l_is_spot,oA,T.l_is_spot_,#[[#[1,(cC)],#[2,(eR)],#[3,fT],#[()]]]] (by intro _;rfl)]] #[bK 4 #[aK 4 #[aF 3 #[G_l_is_fr,kH,T.l_is_fr_,#[[#[#[3,fT][#[()]]],#[()],#[eQ 3]]]] (by intro _;rfl)]]]]] #[ac 3 #[ai 4 #[bj 4]]] (@ay _)] :: #[ac 3 #[aN 8 #[aK 4 #[aF 3 #[G_l_is_fr,kH,T.l_is_fr_,#[[#[#[3,fT][#[()]]],#[()],#[eQ 3]]]] (by intro _;rfl)]] #[ac 3 #[ai 4 #[bj 4]]] (@ay _)]]] (by intro _;rfl)] :: #[ac 3 #[ai 4 #[(),(),(@eY _ (K) rfl (by rfl)),gX,T.b_all,(@bQ),#[[#[bA 7 (["_law_one", "_law_hours", "_law_places"]) (1) ([2,1]) _ _ _ _ rfl (by kernel_rfl) (@bI _ (K) _ _ _ #[#[0,bH][#[()]]] (by rfl)) (fun _ _ _ _ _ _=>#[0,(),()]) (fun _ _ _ _ _ _=>@bu _) (fun _ _ _ _ _ _=>#[cG 7 #[G_l_is_spot,(),T.l_is_spot_,#[[#[2,0],#[1,0],#[0,()],#[()]]]] #[cX 5 #[G_l_is_fr,(),T.l_is_fr_,#[[#[#[0,()][#[()]]],#[eQ 3],#[eQ 3]]]]]]) (by intro _;rfl)]]]]]]]]]]]],?_⟩
  have k0:=k H (ad.refl _)
  refine ⟨(),_,_,_,(),hx.ty,cf d,(),?_⟩
  cases id hx with
  | non=>exact aa (aa k0)
  | bl b=>exact aa (aa k0)
  | int i=>exact aa (aa k0)
  | str y=>exact aa (aa k0)
  | lst h ne r=>exact aa (aa k0)
  | @tup a xs ds h r=>
  have lx:=r.length
  refine ah ⟨(),a,xs,rfl,.inr (ak.of h),rfl,(),?_⟩
  cases ht:dO 6 (.tuple ds) with
  | false=>
   rw [mH (f:=iD) ht xM] at k0
   have:(!decide (V.int (xs.length:Int)=V.int 6))=true:=nU (b:=6) (by rw [lx];exact of_decide_eq_false ht)
   rw [this]
   exact aa (aa k0)
  | true=>
  obtain ⟨d1,d2,d3,d4,d5,d6,rfl⟩:Ii fun d1 d2 d3 d4 d5 d6=>ds=[d1,d2,d3,d4,d5,d6]:=by
   match ds,(of_decide_eq_true ht:ds.length=6) with
   | [d1,d2,d3,d4,d5,d6],_=>exact ⟨d1,d2,d3,d4,d5,d6,rfl⟩
  have wall:=cP wd
  have nall:=(oi hna).2
  obtain ⟨m1,hm1,w1⟩:=wall d1 (by simp)
  obtain ⟨m3,hm3,w3⟩:=wall d3 (by simp)
  obtain ⟨m4,hm4,w4⟩:=wall d4 (by simp)
  obtain ⟨m5,hm5,w5⟩:=wall d5 (by simp)
  obtain ⟨m6,hm6,w6⟩:=wall d6 (by simp)
  have n3:=nall d3 (by simp)
  have n1:=nall d1 (by simp)
  cases r with
  | @cons x1 _ _ _ r1 r=>
  cases r with
  | @cons x2 _ _ _ r2 r=>
  cases r with
  | @cons x3 _ _ _ r3 r=>
  cases r with
  | @cons x4 _ _ _ r4 r=>
  cases r with
  | @cons x5 _ _ _ r5 r=>
  cases r with
  | @cons x6 _ _ _ r6 r=>
  cases r
  rw [show (!decide (V.int (([x1,x2,x3,x4,x5,x6]:List V).length:Int)=V.int 6))=false from rfl]
  have bad:∀{J:Hp},ad H J→gk d1=false→Q (.bl false) J:=fun sJ hb=>by
   have k1:=k _ sJ
   rw [show iD (.tuple [d1,d2,d3,d4,d5,d6])=false by
    cases d2 <;> first | rfl | (show ((gk d1 && _) && _)=false;rw [hb];rfl)] at k1
   exact k1
  refine ah ⟨(),a,_,_,(),rfl,ak.of h,rfl,_,_,_,(),r1.ty,cf d1,(),?_⟩
  cases id r1 with
  | non=>exact aa (aa (bad (ad.refl _) rfl))
  | bl b=>exact aa (aa (bad (ad.refl _) rfl))
  | int i=>exact aa (aa (bad (ad.refl _) rfl))
  | str y=>exact aa (aa (bad (ad.refl _) rfl))
  | lst h ne r=>exact aa (aa (bad (ad.refl _) rfl))
  | @tup a1 xs1 e1 h1 q1=>
  have l1:=q1.length
  have le1:=(oi n1).1
  have z1:e1.length≤wn:=by
   cases w1 with
   | tuple wl=>have:=gL wl;trivial
  have q1e:PyData.eqv (.tuple e1) (.tuple [])=e1.isEmpty:=by cases e1 <;> simp [PyData.eqv,PyData.eqvAll]
  have q1n:∃n,n≤3000∧Wt (.tuple e1) n wk:=⟨m1,by trivial,w1⟩
  refine ah ⟨(),a,_,_,(),rfl,ak.of h,rfl,(by show 0≤10000;decide),fun q0 H1 s1'=>?_⟩
  have s1:=s1'.sm
  refine ⟨.tuple e1,.tuple [],E',fun _=>False,m1,1,wk,1,r1.mono s1.toE,.tup s1'.at' .nil,w1,.tuple .nil,(by first | decide | trivial),(),?_⟩
  rw [q1e]
  cases he:e1.isEmpty with
  | true=>
   exact aa (bad s1 (by show ((!e1.isEmpty && _) && _)=false;rw [he];rfl))
  | false=>
  refine ah ?_
  have hA:=s1 _ _ h
  refine ⟨(),(),a,(),ak.of hA,hA,fun q H2 s2 hq=>⟨q,(),ak.of hq,rfl,_,(),_,(),rfl,?_⟩⟩
  have s12:=s1.trans s2
  have wx:∀{ds:List PyData}{m:Nat},Wt (.tuple ds) m wk→m≤wn→∀dx∈ds,∃n,n≤3000∧Wt dx n wk:=fun wt hm dx hd=>by
   obtain ⟨n,hn,wq⟩:=cP wt dx hd
   exact ⟨n,by trivial,wq⟩
  refine ⟨(),a1,rfl,⟨_,ak.of (s12 _ _ h1)⟩,dY (E:=E') da (s12 _ _ h1) (q1.mono s12.toE) (by trivial) ?_ ?_⟩
  ·intro x dx H' R hm g1 sm kk
   obtain ⟨n,hn,wq⟩:=wx w1 (by trivial) dx hm
   exact ⟨dq,(),x,dx,E',n,wk,rfl,g1,wq,hn,hwk,fun H4 s4=>kk H4 s4⟩
  intro D3 H3 s3 hD3
  refine ⟨D3,(),aE.of hD3,(),?_⟩
  rw [fx]
  have s13:=s12.trans s3
  cases hN:e1.all da with
  | false=>exact aa (aa (bad s13 (by show ((!e1.isEmpty && e1.all da) && _)=false;rw [hN,Bool.and_false];rfl)))
  | true=>
  have es:=oI hN
  generalize hnms:e1.map aV=nms at es
  subst es
  have ex:xs1=nms.map V.str:=oC q1
  subst ex
  have lnm:nms.length≤wn:=by rw [List.length_map] at z1;exact z1
  have eN:gk (.tuple (nms.map PyData.str))=decide nms.Nodup:=by
   show ((!(nms.map PyData.str).isEmpty && (nms.map PyData.str).all da) && decide ((nms.map PyData.str).map aV).Nodup)=_
   rw [he,hN,hnms];rfl
  refine ah ⟨(),a1,nms.map fun s=>(Sum.inr s:bp),rfl,.inr (ak.of (vH nms▸s13 _ _ h1)),by rw [List.length_map];trivial,(),a1,(),.inr (ak.of (s13 _ _ h1)),rfl,(),?_⟩
  have en:(!decide (V.int ((cK (nms.map fun s=>(Sum.inr s:bp))).length:Int)=V.int ((nms.map V.str).length:Int)))=!decide nms.Nodup:=by
   have ez:(nms.map V.str).length=(nms.map fun s=>(Sum.inr s:bp)).length:=by rw [List.length_map,List.length_map]
   rw [ez,rY,decide_eq_decide.mpr (ut _)]
  rw [en]
  cases hD:decide nms.Nodup with
  | false=>exact aa (bad s13 (by rw [eN,hD]))
  | true=>
  refine ah ?_
  rw [hD] at eN
  refine ⟨(),x2,d2,E',rfl,r2.mono s13.toE,(),?_⟩
  cases hb2:eB d2 with
  | false=>
   have k1:=k _ s13
   rw [show iD (.tuple [.tuple (nms.map PyData.str),d2,d3,d4,d5,d6])=false by
    cases d2 <;> first | rfl | cases hb2] at k1
   exact aa (aa k1)
  | true=>
  obtain ⟨hr0,rfl⟩:=gZ hb2
  cases id r2
  have et:iD (.tuple [.tuple (nms.map PyData.str),.int hr0,d3,d4,d5,d6])=((gk (.tuple (nms.map PyData.str)) && decide (1≤hr0)) && ([d3,d4,d5,d6].all kB && ((fW d3).all (dS (nms.map PyData.str) hr0) && ((fW d4).all (dn (nms.map PyData.str)) && (decide ((fW d4).map fun d=>aV (cT d)).Nodup && ((fW d5).all (dR (nms.map PyData.str) hr0) && (fW d6).all (fv (nms.map PyData.str) hr0))))))):=rfl
  rw [et,eN,Bool.true_and] at k
  refine ah ⟨(),_,(),rfl,(),?_⟩
  by_cases hh1:1≤hr0
  case neg=>
   have k1:=k _ s13
   rw [decide_eq_false hh1,Bool.false_and] at k1
   rw [decide_eq_true (show hr0<1 by trivial)]
   exact aa (aa k1)
  rw [decide_eq_true hh1,Bool.true_and] at k
  rw [decide_eq_false (show ¬hr0<1 by trivial)]
  have hC:=s13 _ _ h
  refine ah ⟨(),(),a,(),ak.of hC,hC,fun q2 H4 s4 hq2=>⟨q2,rfl,⟨_,ak.of hq2⟩,dY (E:=E') kB hq2 (.cons ((r3.mono s13.toE).mono s4.toE) (.cons ((r4.mono s13.toE).mono s4.toE) (.cons ((r5.mono s13.toE).mono s4.toE) (.cons ((r6.mono s13.toE).mono s4.toE) .nil)))) (by show (4:Nat)≤10000;decide) ?_ ?_⟩⟩
  ·intro x dx H' R hm g1 sm kk
   refine ⟨dq,(),_,_,_,(),g1.ty,cf dx,?_⟩
   have kk':=kk H' (ad.refl _)
   cases dx <;> exact kk'
  intro D5 H5 s5 hD5
  refine ⟨D5,(),aE.of hD5,(),?_⟩
  rw [fx]
  have s15:=(s13.trans s4).trans s5
  cases hT:[d3,d4,d5,d6].all kB with
  | false=>
   have k3:=k _ s15
   rw [hT] at k3
   exact aa k3
  | true=>
  rw [hT,Bool.true_and] at k
  refine ah ?_
  rw [List.all_cons,List.all_cons,List.all_cons,List.all_cons,Bool.and_eq_true,Bool.and_eq_true,Bool.and_eq_true,Bool.and_eq_true] at hT
  obtain ⟨t3,t4,t5,t6,_⟩:=hT
  obtain ⟨e3,rfl⟩:=eO t3
  obtain ⟨e4,rfl⟩:=eO t4
  obtain ⟨e5,rfl⟩:=eO t5
  obtain ⟨e6,rfl⟩:=eO t6
  have k:∀H',ad H H'→Q (.bl (e3.all (dS (nms.map PyData.str) hr0) && (e4.all (dn (nms.map PyData.str)) && (decide (e4.map fun d=>aV (cT d)).Nodup && (e5.all (dR (nms.map PyData.str) hr0) && e6.all (fv (nms.map PyData.str) hr0)))))) H':=k
  cases id r3 with
  | @tup a3 xs3 _ h3 q3=>
  cases id r4 with
  | @tup a4 xs4 _ h4 q4=>
  cases id r5 with
  | @tup a5 xs5 _ h5 q5=>
  cases id r6 with
  | @tup a6 xs6 _ h6 q6=>
  have l3:e3.length≤wn:=by
   cases w3 with
   | tuple wl=>have:=gL wl;trivial
  have l5:e5.length≤wn:=by
   cases w5 with
   | tuple wl=>have:=gL wl;trivial
  have l6:e6.length≤wn:=by
   cases w6 with
   | tuple wl=>have:=gL wl;trivial
  have y3:=q3.length
  have y5:=q5.length
  have y6:=q6.length
  have n3':=(oi n3).2
  have hE:=s15 _ _ h
  refine ⟨(),a,_,_,(),rfl,ak.of hE,rfl,a3,rfl,⟨_,ak.of (s15 _ _ h3)⟩,dY (E:=E') (dS (nms.map PyData.str) hr0) (s15 _ _ h3) (q3.mono s15.toE) (by trivial) ?_ ?_⟩
  ·intro x dx H' R hm g1 sm kk
   obtain ⟨n,hn,wq⟩:=wx w3 (by trivial) dx hm
   exact ⟨dq,(),(),(),.ref a1,x,hr0,nms,dx,E',E',m1,wk,n,wk,rfl,r1.mono (s15.trans sm).toE,w1,hwk,g1,wq,hn,hwk,n3' dx hm,fun H4 s4=>kk H4 s4⟩
  intro D6 H6 s6 hD6
  refine ⟨D6,(),aE.of hD6,(),?_⟩
  rw [fx]
  have s16:=s15.trans s6
  cases hTi:e3.all (dS (nms.map PyData.str) hr0) with
  | false=>
   have k4:=k _ s16
   rw [hTi] at k4
   exact aa (aa k4)
  | true=>
  rw [hTi,Bool.true_and] at k
  have hF:=s16 _ _ h
  refine ah ⟨(),(),a,_,_,(),rfl,ak.of hF,rfl,.ref a1,.ref a4,nms,e4,E',E',m1,wk,m4,wk,rfl,r1.mono s16.toE,w1,hwk,r4.mono s16.toE,w4,by trivial,hwk,fun H7 s7=>⟨(),?_⟩⟩
  have s17:=s16.trans s7
  have eS:∀b:Bool,(e4.all (dn (nms.map PyData.str)) && (decide (e4.map fun d=>aV (cT d)).Nodup && b))=(gW (nms.map PyData.str) e4 && b):=fun b=>by unfold gW;rw [Bool.and_assoc]
  rw [eS] at k
  cases hSt:gW (nms.map PyData.str) e4 with
  | false=>
   have k7:=k _ s17
   rw [hSt] at k7
   exact aa k7
  | true=>
  rw [hSt,Bool.true_and] at k
  refine ah ?_
  have hG:=s17 _ _ h
  refine Jh ?_
  dsimp only
  refine ml fun D8 n8 r8=>⟨(),a,_,_,(),rfl,ak.of hG,rfl,a5,rfl,⟨_,ak.of (s17 _ _ h5)⟩,nz (xs:=xs5) (fun i σ H'=>∃(v3:Option V),σ=[some (.ref a),some (.ref a1),some (.int hr0),v3]∧ad H7 H'∧∀d∈e5.take i,dR (nms.map PyData.str) hr0 d=true) ⟨(),ad.refl _,fun d hd=>by simp at hd⟩ ?_ ?_ ?_⟩
  ·rintro i σ H' _ ⟨_,_,sm,_⟩
   exact ak.of (sm _ _ (s17 _ _ h5))
  ·rintro i x σ H8 hxi ⟨v3,rfl,sm,hst⟩
   obtain ⟨d,ed,g0⟩:=(q5.mono s17.toE).get hxi
   have g:=g0.mono sm.toE
   have md:d∈e5:=List.mem_of_getElem? ed
   obtain ⟨m,hm,wd'⟩:=wx w5 (by trivial) d md
   have kb:∀{J:Hp},ad H7 J→dR (nms.map PyData.str) hr0 d=false→Q (.bl false) J:=fun sJ hb=>by
    have:=k _ (s17.trans sJ)
    rw [show e5.all (dR (nms.map PyData.str) hr0)=false from List.all_eq_false.mpr ⟨d,md,by rw [hb];decide⟩,Bool.false_and] at this
    exact this
   refine ⟨(),(),(),.ref a1,x,hr0,4,nms,d,E',E',m1,wk,m,wk,rfl,by decide,r1.mono (s17.trans sm).toE,w1,hwk,g,wd',(),?_⟩
   cases hsp:q9 (nms.map PyData.str) hr0 4 d with
   | false=>
    exact aa (aa (r8 _ _ (kb sm (by
     cases hc:dR (nms.map PyData.str) hr0 d with
     | false=>rfl
     | true=>rw [(At.mp hc).1] at hsp;cases hsp))))
   | true=>
   obtain ⟨es5,rfl,hl5⟩:∃ds,d=.tuple ds∧ds.length=4:=by
    cases d with
    | tuple ds=>
     by_cases hl:ds.length=4
     ·exact ⟨ds,rfl,hl⟩
     ·rw [xk hl] at hsp;cases hsp
    | _=>cases hsp
   obtain ⟨b1,b2,b3,b4,rfl⟩:lO fun d1 d2 d3 d4=>es5=[d1,d2,d3,d4]:=zH (P:=fun l=>lO fun d1 d2 d3 d4=>l=[d1,d2,d3,d4]) (fun a b c d=>⟨a,b,c,d,rfl⟩) es5 hl5
   have wb:=cP wd'
   obtain ⟨m3',_,v3'⟩:=wb b3 (by simp)
   obtain ⟨m4',_,v4'⟩:=wb b4 (by simp)
   cases id g with
   | @tup b ys _ hb rb=>
   cases rb with
   | @cons y1 _ _ _ p1 rb=>
   cases rb with
   | @cons y2 _ _ _ p2 rb=>
   cases rb with
   | @cons y3 _ _ _ p3 rb=>
   cases rb with
   | @cons y4 _ _ _ p4 rb=>
   cases rb
   have hsp':(decide (4=4) && (b7 (nms.map PyData.str) b1 && bC hr0 b2))=true:=hsp
   have ew:dR (nms.map PyData.str) hr0 (.tuple [b1,b2,b3,b4])=((b7 (nms.map PyData.str) b1 && bC hr0 b2) && (aX b3 && aX b4)):=rfl
   rw [show decide (4=4)=true from rfl,Bool.true_and] at hsp'
   rw [hsp',Bool.true_and] at ew
   refine ah ⟨(),b,_,_,(),rfl,ak.of hb,rfl,y3,0,b3,E',_,(),by decide,p3,v3',fun H9 s9=>⟨(),?_⟩⟩
   have sm9:=sm.trans s9
   rw [show rM 0 b3=aX b3 from rfl]
   cases hc3:aX b3 with
   | false=>exact aa (r8 _ _ (kb sm9 (by rw [ew,hc3];rfl)))
   | true=>
   refine ah ?_
   have hb9:=s9 _ _ hb
   refine ⟨(),b,_,_,(),rfl,ak.of hb9,rfl,y4,0,b4,E',_,(),by decide,p4.mono s9.toE,v4',fun H10 s10=>⟨(),?_⟩⟩
   have sm10:=sm9.trans s10
   rw [show rM 0 b4=aX b4 from rfl]
   cases hc4:aX b4 with
   | false=>exact aa (r8 _ _ (kb sm10 (by rw [ew,hc3,hc4];rfl)))
   | true=>
   refine ah ⟨(),sm10,fun d hd=>?_⟩
   rw [List.take_add_one,ed,List.mem_append] at hd
   rcases hd with hd | hd
   ·exact hst d hd
   ·have hd:d=.tuple [b1,b2,b3,b4]:=by simpa using hd
    rw [hd,ew,hc3,hc4];rfl
  ·rintro σ H8 ⟨v3,rfl,sm,hst⟩
   refine n8 _ _ ?_
   rw [y5,List.take_length] at hst
   have s18:=s17.trans sm
   rw [List.all_eq_true.mpr hst,Bool.true_and] at k
   have hK:=s18 _ _ h
   refine ⟨(),a,_,_,(),rfl,ak.of hK,rfl,a6,rfl,⟨_,ak.of (s18 _ _ h6)⟩,dY (E:=E') (fv (nms.map PyData.str) hr0) (s18 _ _ h6) (q6.mono s18.toE) (by trivial) ?_ ?_⟩
   ·intro x dx H' R hm g1 sm' kk
    obtain ⟨n,hn,wq⟩:=wx w6 (by trivial) dx hm
    refine ⟨dq,(),(),(),.ref a1,x,hr0,3,nms,dx,E',E',m1,wk,n,wk,rfl,by decide,r1.mono (s18.trans sm').toE,w1,hwk,g1,wq,(),?_⟩
    have kk0:=kk H' (ad.refl _)
    cases hsp:q9 (nms.map PyData.str) hr0 3 dx with
    | false=>
     have:fv (nms.map PyData.str) hr0 dx=false:=by
      cases hc:fv (nms.map PyData.str) hr0 dx with
      | false=>rfl
      | true=>
       obtain ⟨ds,rfl,hl⟩:=vG hc
       obtain ⟨c1,c2,c3,rfl⟩:eV fun d1 d2 d3=>ds=[d1,d2,d3]:=j9 (P:=fun l=>eV fun d1 d2 d3=>l=[d1,d2,d3]) (fun a b c=>⟨a,b,c,rfl⟩) ds hl
       have hc':(b7 (nms.map PyData.str) c1 && (bC hr0 c2 && dE c3))=true:=hc
       rw [Bool.and_eq_true,Bool.and_eq_true] at hc'
       have hsp':(decide (3=3) && (b7 (nms.map PyData.str) c1 && bC hr0 c2))=false:=hsp
       rw [hc'.1,hc'.2.1] at hsp'
       cases hsp'
     rw [this] at kk0
     exact ah kk0
    | true=>
    obtain ⟨es6,rfl,hl6⟩:∃ds,dx=.tuple ds∧ds.length=3:=by
     cases dx with
     | tuple ds=>
      by_cases hl:ds.length=3
      ·exact ⟨ds,rfl,hl⟩
      ·rw [xk hl] at hsp;cases hsp
     | _=>cases hsp
    obtain ⟨c1,c2,c3,rfl⟩:eV fun d1 d2 d3=>es6=[d1,d2,d3]:=j9 (P:=fun l=>eV fun d1 d2 d3=>l=[d1,d2,d3]) (fun a b c=>⟨a,b,c,rfl⟩) es6 hl6
    obtain ⟨m3',_,v3'⟩:=cP wq c3 (by simp)
    cases id g1 with
    | @tup b ys _ hb rb=>
    cases rb with
    | @cons y1 _ _ _ p1 rb=>
    cases rb with
    | @cons y2 _ _ _ p2 rb=>
    cases rb with
    | @cons y3 _ _ _ p3 rb=>
    cases rb
    have hsp':(decide (3=3) && (b7 (nms.map PyData.str) c1 && bC hr0 c2))=true:=hsp
    rw [show decide (3=3)=true from rfl,Bool.true_and,Bool.and_eq_true] at hsp'
    have ew:fv (nms.map PyData.str) hr0 (.tuple [c1,c2,c3])=(b7 (nms.map PyData.str) c1 && (bC hr0 c2 && dE c3)):=rfl
    rw [hsp'.1,hsp'.2,Bool.true_and,Bool.true_and] at ew
    rw [ew] at kk
    exact aa ⟨(),b,_,_,(),rfl,ak.of hb,rfl,y3,1,c3,E',_,(),by decide,p3,v3',fun H9 s9=>kk H9 s9⟩
   intro D9 H9 s9 hD9
   refine ⟨D9,(),aE.of hD9,?_⟩
   rw [fx]
   exact k H9 (s18.trans s9)
end
end K53
namespace K53
open PySem L2
set_option maxHeartbeats 16000000
theorem jK {α:Type}{f:α→PyData}{z m k:Nat}:∀{xs:List α},(∀x∈xs,Wx z (f x) m k)→bL z (xs.map f) (m*xs.length) k
 | [],_=>.nil
 | x :: xs,h=>.cons (h x (List.mem_cons_self ..)) (jK fun y hy=>h y (List.mem_cons_of_mem _ hy)) (by rw [List.length_cons,Nat.mul_succ];trivial)
theorem mz {p:KM.Fra}{b:Nat} (h:Fr b p) (hb:b≤26):Wx 2 (fh p) 3 1:=.tuple (m:=2) (l:=0) (.cons (m:=1) (l:=1) (.int (h.sn.mono hb) (Nat.le_refl 1)) (.cons (m:=1) (l:=0) (.int (h.sd.mono hb) (Nat.le_refl 1)) .nil (by decide)) (by decide)) (by decide) (by decide) (by simp)
theorem nV {l:List Nat} (h:pf l):Wx 2 (.str (S l)) 1 0:=by
 refine .str ?_ (qx h).2 (Nat.le_refl 1)
 rw [fq]
 have:=h.hi
 show l.length+1≤16
 trivial
theorem qK {i:Int}{k:Nat} (h:i.natAbs<2 ^ 10):Wx 2 (.int i) 1 k:=.int (Nat.lt_of_lt_of_le h (Nat.pow_le_pow_right (by decide) (by decide))) (Nat.le_refl 1)
theorem BE {d:di}{x:mY} (gd:i4 d) (h:qJ d x):Wx 2 (va x) 22 2:=by
 have ol:=h.ol
 have hop:Wx 2 (.tuple (x.op.map .int)) 9 1:=.tuple (m:=8) (l:=0) (bL.up (jK (m:=1) (k:=0) (f:=PyData.int) fun i hi=>qK (by have:=h.ob i hi;trivial)) (by trivial) (Nat.le_refl _)) (by decide) (by decide) (by rw [List.length_map];trivial)
 exact .tuple (m:=21) (l:=1) (.cons (m:=1) (l:=20) ((nV (gd.nm _ h.b)).up (by decide) (by decide)) (.cons (m:=1) (l:=19) ((nV (gd.nm _ h.e)).up (by decide) (by decide)) (.cons (m:=3) (l:=16) (mz h.m (by decide)) (.cons (m:=3) (l:=13) (mz h.g (by decide)) (.cons (m:=3) (l:=10) (mz h.p (by decide)) (.cons (m:=1) (l:=9) (qK (by have:=h.l;trivial)) (.cons (m:=9) (l:=0) hop .nil (by decide)) (by decide)) (by decide)) (by decide)) (by decide)) (by decide)) (by decide)) (by decide) (by decide) (by simp)
theorem Ay {d:di}{x:oU} (gd:i4 d) (h:uc d x):Wx 2 (rB x) 8 2:=
 .tuple (m:=7) (l:=1) (.cons (m:=1) (l:=6) ((nV (gd.nm _ h.b)).up (by decide) (by decide)) (.cons (m:=3) (l:=3) (mz h.m (by decide)) (.cons (m:=3) (l:=0) (mz h.k (by decide)) .nil (by decide)) (by decide)) (by decide)) (by decide) (by decide) (by simp)
theorem BA {d:di}{x:oZ} (gd:i4 d) (h:uq d x):Wx 2 (wN x) 9 2:=
 .tuple (m:=8) (l:=1) (.cons (m:=1) (l:=7) ((nV (gd.nm _ h.b)).up (by decide) (by decide)) (.cons (m:=1) (l:=6) (qK (by have:=h.h;have:=gd.l8;trivial)) (.cons (m:=3) (l:=3) (mz h.m (by decide)) (.cons (m:=3) (l:=0) (mz h.p (by decide)) .nil (by decide)) (by decide)) (by decide)) (by decide)) (by decide) (by decide) (by simp)
theorem AW {d:di}{x:oV} (gd:i4 d) (h:uC d x):Wx 2 (x8 x) 6 2:=
 .tuple (m:=5) (l:=1) (.cons (m:=1) (l:=4) ((nV (gd.nm _ h.b)).up (by decide) (by decide)) (.cons (m:=1) (l:=3) (qK (by have:=h.h;have:=gd.l8;trivial)) (.cons (m:=3) (l:=0) (mz h.a (by decide)) .nil (by decide)) (by decide)) (by decide)) (by decide) (by decide) (by simp)
theorem sB {d:di} (gd:i4 d):Wx 2 (.tuple (d.pl.map fun l=>.str (S l))) 6 3:=by
 have:=gd.p5
 exact .tuple (m:=5) (l:=2) (bL.up (jK (m:=1) (k:=0) fun l hl=>nV (gd.nm l hl)) (by trivial) (by decide)) (by decide) (by decide) (by rw [List.length_map];trivial)
theorem zp {d:di} (gd:i4 d):Wx 2 (.tuple (d.ts.map va)) 177 3:=by
 have:=gd.t8
 exact .tuple (m:=176) (l:=2) (bL.up (jK fun x hx=>BE gd (gd.ts x hx)) (by trivial) (by decide)) (by decide) (by decide) (by rw [List.length_map];trivial)
theorem yO {d:di} (gd:i4 d):Wx 2 (.tuple (d.ss.map rB)) 41 3:=by
 have:=gd.s5
 exact .tuple (m:=40) (l:=2) (bL.up (jK fun x hx=>Ay gd (gd.ss x hx)) (by trivial) (by decide)) (by decide) (by decide) (by rw [List.length_map];trivial)
theorem yV {d:di} (gd:i4 d):Wx 2 (.tuple (d.ws.map wN)) 46 3:=by
 have:=gd.w5
 exact .tuple (m:=45) (l:=2) (bL.up (jK fun x hx=>BA gd (gd.ws x hx)) (by trivial) (by decide)) (by decide) (by decide) (by rw [List.length_map];trivial)
theorem yD {d:di} (gd:i4 d):Wx 2 (.tuple (d.wi.map x8)) 43 3:=by
 have:=gd.i7
 exact .tuple (m:=42) (l:=2) (bL.up (jK fun x hx=>AW gd (gd.wi x hx)) (by trivial) (by decide)) (by decide) (by decide) (by rw [List.length_map];trivial)
theorem Az {d:di} (gd:i4 d):Wx 2 (yN d) 320 4:=
 .tuple (m:=319) (l:=3) (.cons (m:=6) (l:=313) (sB gd) (.cons (m:=1) (l:=312) (qK (by have:=gd.l8;trivial)) (.cons (m:=177) (l:=135) (zp gd) (.cons (m:=41) (l:=94) (yO gd) (.cons (m:=46) (l:=48) (yV gd) (.cons (m:=43) (l:=0) (yD gd) .nil (by decide)) (by decide)) (by decide)) (by decide)) (by decide)) (by decide)) (by decide) (by decide) (by simp)
theorem qy {b:Nat}{p:KM.Fra} (h:Fr b p) (h0:0≤p.1):aX (fh p)=true:=by
 show ((decide (1≤p.2) && decide (Int.gcd p.1 p.2=1)) && decide (0≤p.1))=true
 rw [decide_eq_true h.pos,decide_eq_true h.co,decide_eq_true h0];rfl
theorem A5 {b:Nat}{p:KM.Fra} (h:Fr b p) (h0:1≤p.1):dE (fh p)=true:=by
 show ((decide (1≤p.2) && decide (Int.gcd p.1 p.2=1)) && decide (0<p.1))=true
 rw [decide_eq_true h.pos,decide_eq_true h.co,decide_eq_true (show 0<p.1 by trivial)];rfl
theorem Bv {b:Nat}{p:KM.Fra} (h:Fr b p) (h0:0≤p.1) (h1:p.1≤p.2):dL (fh p) (1,1)=true:=by
 show (((decide (1≤p.2) && decide (Int.gcd p.1 p.2=1)) && decide (0≤p.1)) && decide (p.1*1≤1*p.2))=true
 rw [decide_eq_true h.pos,decide_eq_true h.co,decide_eq_true h0,decide_eq_true (show p.1*1≤1*p.2 by trivial)];rfl
theorem CT (x y:Str):PyData.eqv (.str x) (.str y)=decide (x=y):=by
 rw [Bool.eq_iff_iff]
 simp [PyData.eqv]
theorem qQ {pl:List (List Nat)}{l:List Nat} (h:l∈pl):b7 (pl.map fun l=>.str (S l)) (.str (S l))=true:=
 List.any_eq_true.mpr ⟨.str (S l),List.mem_map.mpr ⟨l,h,rfl⟩,by rw [CT];simp⟩
theorem Aw {d:di} (gd:i4 d) (h0:d.pl≠[]):gk (.tuple (d.pl.map fun l=>.str (S l)))=true:=by
 show ((!(d.pl.map fun l=>PyData.str (S l)).isEmpty && (d.pl.map fun l=>PyData.str (S l)).all da) && decide ((d.pl.map fun l=>PyData.str (S l)).map aV).Nodup)=true
 rw [Bool.and_eq_true,Bool.and_eq_true]
 refine ⟨⟨?_,?_⟩,?_⟩
 ·cases hp:d.pl with
  | nil=>exact absurd hp h0
  | cons _ _=>rfl
 ·rw [List.all_map]
  refine List.all_eq_true.mpr fun l hl=>?_
  have n:=gd.nm l hl
  show ((decide (1≤(S l).length) && decide ((S l).length≤8)) && (S l).cps.toList.all iT)=true
  rw [fq,decide_eq_true n.lo,decide_eq_true n.hi]
  exact List.all_eq_true.mpr fun c hc=>by
   have:=n.az c hc
   show (decide (97≤c) && decide (c≤122))=true
   rw [decide_eq_true this.1,decide_eq_true this.2];rfl
 ·rw [List.map_map]
  refine decide_eq_true ?_
  have:∀ls:List (List Nat),ls.Nodup→(ls.map (aV ∘ fun l=>PyData.str (S l))).Nodup:=fun ls=>by
   induction ls with
   | nil=>exact fun _=>List.nodup_nil
   | cons x r ih=>
    intro h
    have h':=List.nodup_cons.mp h
    refine List.nodup_cons.mpr ⟨fun hm=>?_,ih h'.2⟩
    obtain ⟨y,hy,e⟩:=List.mem_map.mp hm
    have e:S y=S x:=e
    rw [zw e] at hy
    exact h'.1 hy
  exact this _ gd.nd
theorem DD {d:di}{x:mY} (h:qJ d x):dS (d.pl.map fun l=>.str (S l)) (d.hr:Int) (va x)=true:=by
 show ((((b7 (d.pl.map fun l=>.str (S l)) (.str (S x.bg)) && b7 (d.pl.map fun l=>.str (S l)) (.str (S x.en))) && !PyData.eqv (.str (S x.bg)) (.str (S x.en))) && (aX (fh x.mo) && (dE (fh x.ga) && aX (fh x.pr)))) && (decide (0≤(x.la:Int)) && (((x.op.map PyData.int).all (bC (d.hr:Int))) && (dz ((x.op.map PyData.int).map kK)).all id)))=true
 rw [qQ h.b,qQ h.e,CT,decide_eq_false (fun e=>h.xe (zw e)),qy h.m h.m0,A5 h.g h.xg,qy h.p h.xp,decide_eq_true (show 0≤(x.la:Int) by trivial)]
 have e1:(x.op.map PyData.int).map kK=x.op:=by
  rw [List.map_map]
  exact List.map_id x.op
 have e2:(x.op.map PyData.int).all (bC (d.hr:Int))=true:=by
  rw [List.all_map]
  refine List.all_eq_true.mpr fun z hz=>?_
  show (decide (0≤z) && decide (z<(d.hr:Int)))=true
  rw [decide_eq_true (h.ob z hz).1,decide_eq_true (h.xh z hz)];rfl
 rw [e1,e2,(oN _).mpr h.xr]
 rfl
theorem xE {d:di}{h:Nat} (q:h<d.hr):bC (d.hr:Int) (.int (h:Int))=true:=by
 show (decide (0≤(h:Int)) && decide ((h:Int)<(d.hr:Int)))=true
 rw [decide_eq_true (by trivial),decide_eq_true (by trivial)];rfl
theorem tU {α:Type}{f:α→PyData}{p:PyData→Bool}{l:List α} (h:∀x∈l,p (f x)=true):(l.map f).all p=true:=by
 rw [List.all_map]
 exact List.all_eq_true.mpr h
theorem yP {d:di} (gd:i4 d) (h0:d.pl≠[]):iD (yN d)=true:=by
 show ((gk (.tuple (d.pl.map fun l=>.str (S l))) && decide (1≤(d.hr:Int))) && (true && ((d.ts.map va).all (dS (d.pl.map fun l=>.str (S l)) (d.hr:Int)) && ((d.ss.map rB).all (dn (d.pl.map fun l=>.str (S l))) && (decide ((d.ss.map rB).map fun d=>aV (cT d)).Nodup && ((d.ws.map wN).all (dR (d.pl.map fun l=>.str (S l)) (d.hr:Int)) && (d.wi.map x8).all (fv (d.pl.map fun l=>.str (S l)) (d.hr:Int))))))))=true
 have hn:((d.ss.map rB).map fun d=>aV (cT d)).Nodup:=by
  have e:((d.ss.map rB).map fun d=>aV (cT d))=(d.ss.map (·.pl)).map S:=by
   rw [List.map_map,List.map_map];rfl
  rw [e]
  have gen:∀ls:List (List Nat),ls.Nodup→(ls.map S).Nodup:=fun ls=>by
   induction ls with
   | nil=>exact fun _=>List.nodup_nil
   | cons x r ih=>
    intro h
    have h':=List.nodup_cons.mp h
    refine List.nodup_cons.mpr ⟨fun hm=>?_,ih h'.2⟩
    obtain ⟨y,hy,e⟩:=List.mem_map.mp hm
    rw [zw e] at hy
    exact h'.1 hy
  exact gen _ gd.sn
 rw [Aw gd h0,decide_eq_true (show 1≤(d.hr:Int) by have:=gd.l1;trivial),tU fun x hx=>DD (gd.ts x hx),decide_eq_true hn,
  tU (f:=rB) fun x hx=>(by
   have g:=gd.ss x hx
   show (b7 (d.pl.map fun l=>.str (S l)) (.str (S x.pl)) && (aX (fh x.mo) && dL (fh x.ke) (1,1)))=true
   rw [qQ g.b,qy g.m g.m0,Bv g.k g.k0 g.k1];rfl),
  tU (f:=wN) fun x hx=>(by
   have g:=gd.ws x hx
   show ((b7 (d.pl.map fun l=>.str (S l)) (.str (S x.pl)) && bC (d.hr:Int) (.int (x.ho:Int))) && (aX (fh x.mo) && aX (fh x.pr)))=true
   rw [qQ g.b,xE g.h,qy g.m g.m0,qy g.p g.p0];rfl),
  tU (f:=x8) fun x hx=>(by
   have g:=gd.wi x hx
   show (b7 (d.pl.map fun l=>.str (S l)) (.str (S x.pl)) && (bC (d.hr:Int) (.int (x.ho:Int)) && dE (fh x.am)))=true
   rw [qQ g.b,xE g.h,A5 g.a g.a0];rfl)]
 rfl
def Tn (E:Addr→Prop) (H:Hp) (v:V) (n k:Nat):Prop:=∃x,bh E H v x∧Wv 60 x n k∧fe 60 x=true
def bM (E:Addr→Prop) (H:Hp) (vs:List V) (n k:Nat):Prop:=∃xs,aG E H vs xs∧i6 60 xs n k∧ff 60 xs=true
theorem i6.up' {z:Nat}:∀{ds:List PyData}{n k n' k':Nat},i6 z ds n k→n≤n'→k≤k'→i6 z ds n' k'
 | _,_,_,_,_,.nil,_,_=>.nil
 | _,_,_,_,_,.cons h r l,hn,hk=>.cons (h.up (Nat.le_refl _) hk) (i6.up' r (Nat.le_refl _) hk) (by trivial)
section
variable {E:Addr→Prop}{H H':Hp}{n m k:Nat}{v:V}{xs ys:List V}
theorem Tn.sE (h:Tn E H v n k) (s:ar E H H'):Tn E H' v n k:=by obtain ⟨x,a,b,c⟩:=h;exact ⟨x,a.mono s,b,c⟩
theorem bM.sE (h:bM E H xs n k) (s:ar E H H'):bM E H' xs n k:=by obtain ⟨x,a,b,c⟩:=h;exact ⟨x,a.mono s,b,c⟩
theorem Tn.up {n' k':Nat} (h:Tn E H v n k) (hn:n≤n') (hk:k≤k'):Tn E H v n' k':=by obtain ⟨x,a,b,c⟩:=h;exact ⟨x,a,b.up hn hk,c⟩
theorem bM.up {n' k':Nat} (h:bM E H xs n k) (hn:n≤n') (hk:k≤k'):bM E H xs n' k':=by obtain ⟨x,a,b,c⟩:=h;exact ⟨x,a,i6.up' b hn hk,c⟩
theorem bM.nil:bM E H [] n k:=⟨[],.nil,.nil,by unfold ff;rfl⟩
theorem bM.cons (h:Tn E H v m k) (g:bM E H xs n k):bM E H (v :: xs) (m+n) k:=by
 obtain ⟨x,a,b,c⟩:=h
 obtain ⟨y,a',b',c'⟩:=g
 exact ⟨x :: y,.cons a a',.cons b b' (Nat.le_refl _),by unfold ff;rw [c,c'];rfl⟩
theorem Tn.tup {a:Addr} (h:H a=some (.tup xs)) (g:bM E H xs n k) (hw:xs.length≤60):Tn E H (.ref a) (n+1) (k+1):=by
 obtain ⟨y,p,q,c⟩:=g
 exact ⟨.tuple y,.tup h p,.tuple q (Nat.le_refl _) (Nat.le_refl _),by unfold fe;rw [c,decide_eq_true (by rw [←p.length];exact hw)];rfl⟩
theorem Tn.lst {a:Addr} (h:H a=some (.lst xs)) (ne:¬E a) (g:bM E H xs n k) (hw:xs.length≤60):Tn E H (.ref a) (n+1) (k+1):=by
 obtain ⟨y,p,q,c⟩:=g
 exact ⟨.list y,.lst h ne p,.list q (Nat.le_refl _) (Nat.le_refl _),by unfold fe;rw [c,decide_eq_true (by rw [←p.length];exact hw)];rfl⟩
theorem Tn.int {i:Int} (h:i.natAbs<2 ^ 60):Tn E H (.int i) 1 k:=⟨.int i,.int i,.int h (Nat.le_refl 1),by unfold fe;rfl⟩
theorem Tn.bl (b:Bool):Tn E H (.bl b) 1 k:=⟨.bool b,.bl b,.bl b (Nat.le_refl 1),by unfold fe;rfl⟩
theorem Tn.non:Tn E H .non 1 k:=⟨.none,.non,.non (Nat.le_refl 1),by unfold fe;rfl⟩
theorem Tn.str {x:Str} (h:jQ x):Tn E H (.str x) 1 k:=⟨.str x,.str x,.str h (Nat.le_refl 1),by unfold fe;rfl⟩
theorem Dk {z:Nat}{x:PyData} (h:bh E H v x) (w:Wx z x n k) (hz:z≤4):Tn E H v n k:=⟨x,h,w.wv hz,w.nar (w:=60) (by trivial)⟩
theorem FA {z:Nat}{ds:List PyData} (h:aG E H xs ds) (w:bL z ds n k) (hz:z≤4):bM E H xs n k:=⟨ds,h,w.wv hz,w.nar (w:=60) (by trivial)⟩
end
end K53
namespace K53
open PySem L2
set_option maxHeartbeats 16000000
abbrev rH:=(Addr→Prop)→Hp→Prop
def jl (C:rH):Prop:=∀E H H',ad H H'→C E H→C E H'
def Ev (C:rH) (σ:St) (te:TE) (n k:Nat):Prop:=∀(H:Hp) (E:Addr→Prop) (Q:VK),C E H→Al E H→(∀v H',ad H H'→Tn E H' v n k→Q v H')→te σ H Q
def av (C:rH) (σ:St) (ta:TA) (l n k:Nat):Prop:=∀(H:Hp) (E:Addr→Prop) (Q:List V→Hp→Prop),C E H→Al E H→(∀vs H',ad H H'→vs.length=l→bM E H' vs n k→Q vs H')→ta σ H Q
def aD (C:rH) (σ:St) (te:TE) (l n k:Nat):Prop:=∀(H:Hp) (E:Addr→Prop) (Q:VK),C E H→Al E H→(∀a xs H',ad H H'→H' a=some (.tup xs)→xs.length≤l→bM E H' xs n k→Q (.ref a) H')→te σ H Q
def Po (σ:St) (t:TO) (o:Option Int):Prop:=∀H Q,Q o H→t σ H Q
section
variable {E:Addr→Prop}{H H':Hp}{n m k l l2:Nat}{v:V}{xs ys:List V}
theorem bM.append (h:bM E H xs n k) (g:bM E H ys m k):bM E H (xs++ys) (n+m) k:=by
 obtain ⟨x,a,b,c⟩:=h
 obtain ⟨y,a',b',c'⟩:=g
 refine ⟨x++y,a.append a',?_,?_⟩
 ·clear a a' c c'
  induction x generalizing n with
  | nil=>exact i6.up' b' (by trivial) (Nat.le_refl _)
  | cons d r ih=>
   cases b with
   | cons h1 h2 h3=>exact .cons h1 (ih h2) (by trivial)
 ·clear a a' b b'
  induction x with
  | nil=>exact c'
  | cons d r ih=>
   unfold ff at c
   rw [Bool.and_eq_true] at c
   show ff 60 (d :: (r++y))=true
   unfold ff
   rw [c.1,ih c.2];rfl
theorem bM.drop (h:bM E H xs n k):∀i,bM E H (xs.drop i) n k:=by
 obtain ⟨x,a,b,c⟩:=h
 intro i
 refine ⟨x.drop i,a.drop i,?_,?_⟩
 ·clear a c
  induction x generalizing i n with
  | nil=>simp;exact .nil
  | cons d r ih=>
   cases b with
   | cons h1 h2 h3=>
    cases i with
    | zero=>exact .cons h1 h2 h3
    | succ i=>exact i6.up' (ih h2 i) (by trivial) (Nat.le_refl _)
 ·clear a b
  induction x generalizing i with
  | nil=>simp;unfold ff;rfl
  | cons d r ih=>
   cases i with
   | zero=>exact c
   | succ i=>
    unfold ff at c
    rw [Bool.and_eq_true] at c
    exact ih c.2 i
theorem bM.take (h:bM E H xs n k):∀i,bM E H (xs.take i) n k:=by
 obtain ⟨x,a,b,c⟩:=h
 intro i
 refine ⟨x.take i,a.take i,?_,?_⟩
 ·clear a c
  induction x generalizing i n with
  | nil=>simp;exact .nil
  | cons d r ih=>
   cases b with
   | cons h1 h2 h3=>
    cases i with
    | zero=>simp;exact .nil
    | succ i=>exact .cons h1 (ih h2 i) h3
 ·clear a b
  induction x generalizing i with
  | nil=>simp;unfold ff;rfl
  | cons d r ih=>
   cases i with
   | zero=>simp;unfold ff;rfl
   | succ i=>
    unfold ff at c
    rw [Bool.and_eq_true] at c
    show ff 60 (d :: r.take i)=true
    unfold ff
    rw [c.1,ih c.2 i];rfl
theorem bM.cut (h:bM E H xs n k) (lo hi:Option Int):bM E H (cS xs lo hi) n k:=(h.drop _).take _
theorem bM.mem (h:bM E H xs n k) (hv:v∈xs):Tn E H v n k:=by
 obtain ⟨x,a,b,c⟩:=h
 obtain ⟨i,e⟩:=List.getElem?_of_mem hv
 obtain ⟨d,ed,hd⟩:=a.get e
 refine ⟨d,hd,?_,sg c d (List.mem_of_getElem? ed)⟩
 clear a c hd e
 induction x generalizing i n with
 | nil=>simp at ed
 | cons y r ih=>
  cases b with
  | cons h1 h2 h3=>
   cases i with
   | zero=>simp at ed;subst ed;exact h1.up (by trivial) (Nat.le_refl _)
   | succ i=>exact (ih (i:=i) h2 (by simpa using ed)).up (by trivial) (Nat.le_refl _)
theorem bM.ofAll:∀{xs:List V},(∀v∈xs,Tn E H v n k)→bM E H xs (n*xs.length) k
 | [],_=>bM.nil
 | x :: r,h=>(bM.cons (h x (by simp)) (bM.ofAll fun v hv=>h v (by simp [hv]))).up (by rw [List.length_cons,Nat.mul_succ];trivial) (Nat.le_refl _)
theorem EK (xs:List V) (lo hi:Option Int):(cS xs lo hi).length≤xs.length:=by
 unfold cS
 rw [List.length_take,List.length_drop]
 exact Nat.le_trans (Nat.min_le_right ..) (Nat.sub_le ..)
end
section
variable {C:rH}{σ:St}{K:PySem.W.Frag}{te te2:TE}{ta:TA}{l l2 n m k:Nat}{i:Nat}{v:V}
theorem av.nil:av C σ fU 0 0 k:=fun H E Q c al q=>q [] H (ad.refl _) rfl bM.nil
theorem av.cons (st:jl C) (h:Ev C σ te n k) (g:av C σ ta l m k):av C σ (dF te ta) (l+1) (n+m) k:=fun H E Q c al q=>
 h H E _ c al fun v H1 s1 t1=>g H1 E _ (st _ _ _ s1 c) (al.sm s1) fun vs H2 s2 l2 t2=>q (v :: vs) H2 (s1.trans s2) (by rw [List.length_cons,l2]) (bM.cons (t1.sE s2.toE) t2)
theorem av.up {n' k':Nat} (h:av C σ ta l n k) (hn:n≤n') (hk:k≤k'):av C σ ta l n' k':=fun H E Q c al q=>h H E Q c al fun vs H' s l t=>q vs H' s l (t.up hn hk)
theorem Ev.up {n' k':Nat} (h:Ev C σ te n k) (hn:n≤n') (hk:k≤k'):Ev C σ te n' k':=fun H E Q c al q=>h H E Q c al fun v H' s t=>q v H' s (t.up hn hk)
theorem aD.up {n' k':Nat} (h:aD C σ te l n k) (hn:n≤n') (hk:k≤k'):aD C σ te l n' k':=fun H E Q c al q=>h H E Q c al fun a xs H' s e lx t=>q a xs H' s e lx (t.up hn hk)
theorem aD.tup (h:av C σ ta l n k) (hl:l≤10000):aD C σ (ir ta) l n k:=fun H E Q c al q=>
 h H E _ c al fun vs H1 s1 lv t=>⟨by trivial,fun p H2 m2=>q p vs H2 (s1.trans m2.sm) m2.at' (by trivial) (t.sE m2.sm.toE)⟩
theorem aD.ev (h:aD C σ te l n k) (hl:l≤60):Ev C σ te (n+1) (k+1):=fun H E Q c al q=>
 h H E Q c al fun a xs H' s e lx t=>q (.ref a) H' s (Tn.tup e t (by trivial))
theorem Ev.tup (h:av C σ ta l n k) (hl:l≤60):Ev C σ (ir ta) (n+1) (k+1):=(aD.tup h (by trivial)).ev hl
theorem Ev.lst (h:av C σ ta l n k) (hl:l≤60):Ev C σ (ww ta) (n+1) (k+1):=fun H E Q c al q=>
 h H E _ c al fun vs H1 s1 lv t=>⟨by trivial,fun p H2 m2=>q (.ref p) H2 (s1.trans m2.sm) (Tn.lst m2.at' ((al.sm s1).ne m2.fr) (t.sE m2.sm.toE) (by trivial))⟩
theorem aD.cat (st:jl C) (h:aD C σ te l n k) (g:aD C σ te2 l2 m k) (hl:l+l2≤10000):aD C σ (mR wH te te2) (l+l2) (n+m) k:=fun H E Q c al q=>
 h H E _ c al fun a xs H1 s1 e1 l1 t1=>g H1 E _ (st _ _ _ s1 c) (al.sm s1) fun b ys H2 s2 e2 l2 t2=>
  ⟨a,b,xs,ys,rfl,rfl,s2 _ _ e1,e2,by trivial,fun p H3 s3 e3=>q p (xs++ys) H3 ((s1.trans s2).trans s3) e3 (by rw [List.length_append];trivial) ((t1.sE (s2.trans s3).toE).append (t2.sE s3.toE))⟩
theorem aD.sl {tl th:TO}{lo hi:Option Int} (h:aD C σ te l n k) (pl:Po σ tl lo) (pu:Po σ th hi):aD C σ (Ih (Dl K) te tl th) l n k:=fun H E Q c al q=>
 h H E _ c al fun a xs H1 s1 e1 l1 t1=>pl _ _ (pu _ _ ⟨a,xs,rfl,ak.of e1,e1,fun p H2 s2 e2=>q p _ H2 (s1.trans s2) e2 (Nat.le_trans (EK ..) l1) ((t1.cut lo hi).sE s2.toE)⟩)
theorem aD.rep (h:aD C σ te l n k) (hl:l≤100):aD C σ (mR CW te (tC (.int 2))) (l+l) (n+n) k:=fun H E Q c al q=>
 h H E _ c al fun a xs H1 s1 e1 l1 t1=>⟨a,xs,rfl,rfl,e1,by trivial,fun p H2 s2 e2=>q p _ H2 (s1.trans s2) e2 (by rw [List.length_append];trivial) ((t1.append t1).sE s2.toE)⟩
theorem Ev.listOf (h:aD C σ te l n k) (hl:l≤60):Ev C σ (CO (Av K) (dF te fU)) (n+1) (k+1):=fun H E Q c al q=>
 h H E _ c al fun a xs H1 s1 e1 l1 t1=>⟨a,xs,rfl,.inr (ak.of e1),fun p H2 m2=>q (.ref p) H2 (s1.trans m2.sm) (Tn.lst m2.at' ((al.sm s1).ne m2.fr) (t1.sE m2.sm.toE) (by trivial))⟩
theorem Po.no:Po σ yM none:=fun H Q q=>q
theorem Po.at {j:Int}:Po σ (wu (tC (.int j))) (some j):=fun H Q q=>⟨j,rfl,q⟩
theorem Po.var {j:Int} (e:σ[i]?=some (some (.int j))):Po σ (wu (ii i)) (some j):=fun H Q q=>⟨_,e,j,rfl,q⟩
theorem Po.var1 {j:Int} (e:σ[i]?=some (some (.int j))):Po σ (wu (mR (rE fun a b=>.int (a+b)) (ii i) (tC (.int 1)))) (some (j+1)):=fun H Q q=>⟨_,e,j,1,rfl,rfl,(),q⟩
theorem Ev.int {j:Int} (h:j.natAbs<2 ^ 60):Ev C σ (tC (.int j)) 1 k:=fun H E Q c al q=>q _ H (ad.refl _) (Tn.int h)
theorem Ev.bl (b:Bool):Ev C σ (tC (.bl b)) 1 k:=fun H E Q c al q=>q _ H (ad.refl _) (Tn.bl b)
theorem Ev.non:Ev C σ (tC .non) 1 k:=fun H E Q c al q=>q _ H (ad.refl _) Tn.non
theorem Ev.str {x:Str} (h:jQ x):Ev C σ (tC (.str x)) 1 k:=fun H E Q c al q=>q _ H (ad.refl _) (Tn.str h)
theorem Ev.neg1:Ev C σ (Ic (rU fun i=>.int (-i)) (tC (.int 1))) 1 k:=fun H E Q c al q=>⟨1,rfl,q _ H (ad.refl _) (Tn.int (by decide))⟩
theorem Ev.p12:Ev C σ (mR (rI Cj fun i j=>.int (i ^ j.toNat)) (tC (.int 10)) (tC (.int 12))) 1 k:=fun H E Q c al q=>⟨10,12,rfl,rfl,⟨by decide,by decide,by decide⟩,q _ H (ad.refl _) (Tn.int (by nofun))⟩
theorem Ev.p12m:Ev C σ (mR (rE fun i j=>.int (i - j)) (mR (rI Cj fun i j=>.int (i ^ j.toNat)) (tC (.int 10)) (tC (.int 12))) (tC (.int 1))) 1 k:=fun H E Q c al q=>⟨10,12,rfl,rfl,⟨by decide,by decide,by decide⟩,_,(),rfl,q _ H (ad.refl _) (Tn.int (by nofun))⟩
theorem Ev.var (e:σ[i]?=some (some v)) (h:∀E H,C E H→Tn E H v n k):Ev C σ (ii i) n k:=fun H E Q c al q=>⟨_,e,q v H (ad.refl _) (h E H c)⟩
theorem aD.var {a:Addr}{xs:List V} (e:σ[i]?=some (some (.ref a))) (ht:∀E H,C E H→H a=some (.tup xs)∧xs.length≤l∧bM E H xs n k):aD C σ (ii i) l n k:=fun H E Q c al q=>
 ⟨_,e,let ⟨h1,h2,h3⟩:=ht E H c;q a xs H (ad.refl _) h1 h2 h3⟩
theorem Ev.ixv {a:Addr}{xs:List V}{j:Int} (e:σ[i]?=some (some (.ref a))) (hj:gj xs j=some v) (ht:∀E H,C E H→H a=some (.tup xs)) (hv:∀E H,C E H→Tn E H v n k):Ev C σ (mR (Ac K) (ii i) (tC (.int j))) n k:=fun H E Q c al q=>
 ⟨_,e,a,xs,j,v,rfl,rfl,ak.of (ht E H c),hj,q v H (ad.refl _) (hv E H c)⟩
def emps:Nat→TA
 | 0=>fU
 | n+1=>dF (ir fU) (emps n)
theorem av.emps (st:jl C):∀n,av C σ (emps n) n n 1
 | 0=>av.nil
 | n+1=>(av.cons st (Ev.tup (l:=0) av.nil (by decide)) (av.emps st n)).up (by trivial) (Nat.le_refl _)
end
structure gJ (E0:Addr→Prop) (H0:Hp) (E:Addr→Prop) (H:Hp) (L:Addr) (vs:List V) (m:Nat):Prop where
 sm:ad H0 H
 fr:H0 L=none
 e0:∀a,E0 a→E a
 el:E L
 al:Al E H
 at':H L=some (.lst vs)
 ln:vs.length≤m
 th:∀v∈vs,Tn E H v 2900 20
section
variable {E0 E:Addr→Prop}{H0 H H':Hp}{L p D:Addr}{vs zs:List V}{v:V}{m l n k:Nat}
theorem Tn.plus (h:Tn E H v n k) (hD:H D=none):Tn (fun a=>E a∨a=D) H v n k:=by obtain ⟨x,a,b,c⟩:=h;exact ⟨x,a.plus hD,b,c⟩
theorem Al.plus' (h:Al E H) (s:ad H H') (hD:H' D≠none):Al (fun a=>E a∨a=D) H':=fun a e=>by
 rcases e with e | e
 ·exact h.sm s a e
 ·rw [e];exact hD
theorem gJ.same (t:gJ E0 H0 E H L vs m) (s:ad H H'):gJ E0 H0 E H' L vs m:=⟨t.sm.trans s,t.fr,t.e0,t.el,t.al.sm s,s _ _ t.at',t.ln,fun v hv=>(t.th v hv).sE s.toE⟩
theorem gJ.new (t:gJ E0 H0 E H L vs m) (hz:∀v∈zs,Tn E H v 2900 20) (lz:zs.length≤l) (n:Nw H p (.lst (vs++zs)) H'):gJ E0 H0 (fun a=>E a∨a=p) H' p (vs++zs) (m+l):=by
 have tl:=t.ln
 refine ⟨t.sm.trans n.sm,?_,fun a h=>.inl (t.e0 a h),.inr rfl,Al.plus' t.al n.sm (by rw [n.at'];exact fun z=>by cases z),n.at',by rw [List.length_append];trivial,fun v hv=>?_⟩
 ·cases e:H0 p with
  | none=>rfl
  | some o=>have:=t.sm _ _ e;rw [n.fr] at this;cases this
 ·rcases List.mem_append.mp hv with h | h
  ·exact ((t.th v h).plus n.fr).sE n.sm.toE
  ·exact ((hz v h).plus n.fr).sE n.sm.toE
theorem gJ.app (t:gJ E0 H0 E H L vs m) (hv:Tn E H v 2900 20) (c:Ch H L (vs++[v]) H'):gJ E0 H0 E H' L (vs++[v]) (m+1):=by
 have tl:=t.ln
 have sE:ar E H H':=(Ch.sameE (ad.refl _) t.at' c).imp fun a e=>by rw [e];exact t.el
 refine ⟨fun a o e=>c.ol _ _ (fun z=>by rw [z,t.fr] at e;cases e) (t.sm _ _ e),t.fr,t.e0,t.el,fun a e z=>?_,c.at',by simp;trivial,fun u hu=>?_⟩
 ·by_cases q:a=L
  ·rw [q,c.at'] at z;cases z
  ·cases q2:H a with
   | none=>exact t.al a e q2
   | some o=>rw [c.ol _ _ q q2] at z;cases z
 ·rcases List.mem_append.mp hu with h | h
  ·exact (t.th u h).sE sE
  ·rw [List.mem_singleton.mp h];exact hv.sE sE
theorem gJ.first (al:Al E0 H) (h0:ad H0 H) (hz:∀v∈zs,Tn E0 H v 2900 20) (lz:zs.length≤l) (n:Nw H p (.lst zs) H'):gJ E0 H0 (fun a=>E0 a∨a=p) H' p zs l:=by
 refine ⟨h0.trans n.sm,?_,fun a h=>.inl h,.inr rfl,Al.plus' al n.sm (by rw [n.at'];exact fun z=>by cases z),n.at',lz,fun v hv=>((hz v hv).plus n.fr).sE n.sm.toE⟩
 cases e:H0 p with
 | none=>rfl
 | some o=>have:=h0 _ _ e;rw [n.fr] at this;cases this
end
theorem yp {D:Addr}{H1:Hp}{σc:St}{g:TG}{te:TE}{Q:VK}{J:It}{n N k:Nat}{E:Addr→Prop} (hz:n≤10000) (hD:H1 D=none) (hE:E D) (hgo:∀i H',i<n→ad H1 H'→J.go i H') (hst:∀H',ad H1 H'→J.stop n H')
 (hs:∀i x H' H'' (R:VK),i<n→ad H1 H'→H' D≠none→J.yld i H' x H''→(∀v H4,ad H' H4→Tn E H4 v N k→R v H4)→g x σc H'' fun σ2 H2=>jT σc σ2∧te σ2 H2 R)
 (hd:∀vs H',ad H1 H'→H' D=some (.lst vs)→vs.length=n→(∀v∈vs,Tn E H' v N k)→Q (.ref D) H'):lB J σc g tT te D H1 Q:=by
 refine mF (n:=n) (fun i H' zs=>H' D=some (.lst zs)∧ad H1 H'∧zs.length=i∧∀v∈zs,Tn E H' v N k) (iB hz) ⟨bf,oK hD (ad.refl _),rfl,fun v h=>nomatch h⟩ ?_ ?_ ?_ ?_ ?_
 ·rintro i H' zs ⟨q,_,l,_⟩
  exact ⟨q,by trivial⟩
 ·rintro i H' zs hi ⟨_,sm,_⟩
  exact hgo i H' hi sm
 ·rintro H' zs ⟨_,sm,_⟩
  exact hst H' sm
 ·rintro i H' zs x H'' hi ⟨q,sm,lz,tz⟩ y
  refine hs i x H' H'' _ hi sm (by rw [q];exact fun z=>by cases z) y fun v H4 s4 tv=>?_
  have q4:=s4 _ _ q
  have sE:ar E H4 (bN H4 D (.lst (zs++[v]))):=⟨fun y o n e=>by rw [aT (fun z=>n (by rw [z];exact hE))];exact e,fun y us e=>by rw [aT (zY e q4 (by intro z;cases z))];exact e⟩
  refine ⟨q4,bf,oK hD (sm.trans s4),by simp [lz],fun u hu=>?_⟩
  rcases List.mem_append.mp hu with h | h
  ·exact ((tz u h).sE s4.toE).sE sE
  ·rw [List.mem_singleton.mp h];exact tv.sE sE
 ·rintro H' zs ⟨q,sm,lz,tz⟩
  exact hd zs H' sm q lz tz
end K53
namespace K53
open PySem L2
set_option maxHeartbeats 16000000
abbrev vq:=(Addr→Prop)→Hp→V→Prop
def zi (P:vq):Prop:=∀E H H' v,ad H H'→P E H v→P E H' v
def GA (P:vq):Prop:=∀E H D v,H D=none→P E H v→P (fun a=>E a∨a=D) H v
def Dq (C:rH):Prop:=∀E H D,H D=none→C E H→C (fun a=>E a∨a=D) H
def Pn (n k:Nat):vq:=fun E H v=>Tn E H v n k
def Pt (l n k:Nat):vq:=fun E H v=>cj fun a xs=>v=.ref a∧H a=some (.tup xs)∧xs.length≤l∧bM E H xs n k
theorem bM.plus {E:Addr→Prop}{H:Hp}{D:Addr}{xs:List V}{n k:Nat} (h:bM E H xs n k) (hD:H D=none):bM (fun a=>E a∨a=D) H xs n k:=by obtain ⟨x,a,b,c⟩:=h;exact ⟨x,a.plus hD,b,c⟩
theorem Pn.sm {n k:Nat}:zi (Pn n k):=fun E H H' v s h=>Tn.sE h s.toE
theorem Pn.pl {n k:Nat}:GA (Pn n k):=fun E H D v hD h=>Tn.plus h hD
theorem Pt.sm {l n k:Nat}:zi (Pt l n k):=fun E H H' v s ⟨a,xs,e,h1,h2,h3⟩=>⟨a,xs,e,s _ _ h1,h2,h3.sE s.toE⟩
theorem Pt.pl {l n k:Nat}:GA (Pt l n k):=fun E H D v hD ⟨a,xs,e,h1,h2,h3⟩=>⟨a,xs,e,h1,h2,h3.plus hD⟩
def lM (C:rH) (σ:St) (ta:TA) (l:Nat) (P:vq):Prop:=∀(H:Hp) (E:Addr→Prop) (Q:List V→Hp→Prop),C E H→Al E H→(∀vs H',ad H H'→vs.length=l→(∀v∈vs,P E H' v)→Q vs H')→ta σ H Q
def Aq (C:rH) (E:Addr→Prop) (σ:St) (ti:TI) (l:Nat) (P:vq):Prop:=∀(H:Hp) (Q:It→Hp→Prop),C E H→Al E H→(∀(J:It) (xs:List V) (H1:Hp),ad H H1→xs.length≤l→(∀i H',i<xs.length→ad H1 H'→J.go i H')→(∀H',ad H1 H'→J.stop xs.length H')→(∀i x H' H'',ad H1 H'→J.yld i H' x H''→H''=H'∧xs[i]?=some x)→(∀v∈xs,P E H1 v)→Q J H1)→ti σ H Q
section
variable {C:rH}{σ:St}{K:PySem.W.Frag}{te tb:TE}{ta:TA}{l l2 n m k:Nat}{i:Nat}{v:V}{P:vq}
theorem lM.nil:lM C σ fU 0 P:=fun H E Q c al q=>q [] H (ad.refl _) rfl fun v h=>nomatch h
theorem lM.cons (st:jl C) (ps:zi P) (h:∀(H:Hp) (E:Addr→Prop) (Q:VK),C E H→Al E H→(∀v H',ad H H'→P E H' v→Q v H')→te σ H Q) (g:lM C σ ta l P):lM C σ (dF te ta) (l+1) P:=fun H E Q c al q=>
 h H E _ c al fun v H1 s1 t1=>g H1 E _ (st _ _ _ s1 c) (al.sm s1) fun vs H2 s2 l2 t2=>q (v :: vs) H2 (s1.trans s2) (by rw [List.length_cons,l2]) fun u hu=>by
  rcases List.mem_cons.mp hu with e | e
  ·rw [e];exact ps _ _ _ _ s2 t1
  ·exact t2 u e
theorem lM.conT (st:jl C) (h:aD C σ te l2 n k) (g:lM C σ ta l (Pt l2 n k)):lM C σ (dF te ta) (l+1) (Pt l2 n k):=
 lM.cons st Pt.sm (fun H E Q c al q=>h H E Q c al fun a xs H' s e lx t=>q _ H' s ⟨a,xs,rfl,e,lx,t⟩) g
theorem av.toP (h:av C σ ta l n k):lM C σ ta l (Pn n k):=fun H E Q c al q=>h H E Q c al fun vs H' s lv t=>q vs H' s lv fun v hv=>t.mem hv
variable {E0 E:Addr→Prop}{H0 H:Hp}{L:Addr}{vs:List V}{D:fA}
theorem za (h:av C σ ta l n k) (c:C E H) (al:Al E H) (hl:l≤10000) (q:∀L zs H1 H',ad H H1→zs.length=l→bM E H1 zs n k→Nw H1 L (.lst zs) H'→D.nx (σ.set i (some (.ref L))) H'):qI (ww ta) (iA i) D σ H:=
 h H E _ c al fun zs H1 s1 lz t=>⟨by trivial,fun L H2 m2=>q L zs H1 H2 s1 lz t m2⟩
theorem zn (h:aD C σ te l n k) (c:C E H) (al:Al E H) (q:∀o xs H',ad H H'→H' o=some (.tup xs)→xs.length≤l→bM E H' xs n k→D.nx (σ.set i (some (.ref o))) H'):qI te (iA i) D σ H:=
 h H E _ c al fun a xs H1 s1 e lx t=>q a xs H1 s1 e lx t
theorem zu (hσ:σ[7]?=some (some (.ref L))) (st:jl C) (h:av C σ ta l n k) (c:C E H) (t:gJ E0 H0 E H L vs m) (hn:n≤2900) (hk:k≤20) (hm:m+l≤400)
 (q:∀p vs' H' E',gJ E0 H0 E' H' p vs' (m+l)→ad H H'→D.nx (σ.set 7 (some (.ref p))) H'):qI (mR As (ii 7) (ww ta)) (iA 7) D σ H:=
 ⟨_,hσ,h H E _ c t.al fun zs H1 s1 lz tz=>⟨by trivial,fun M H2 m2=>by
  have t2:=(t.same s1).same m2.sm
  have tl:=t.ln
  refine ⟨L,M,vs,zs,rfl,rfl,t2.at',m2.at',by trivial,fun p H3 m3=>?_⟩
  exact q p _ H3 _ (t2.new (fun v hv=>((tz.mem hv).sE m2.sm.toE).up hn hk) (by trivial) m3) ((s1.trans m2.sm).trans m3.sm)⟩⟩
theorem uM (hσ:σ[7]?=some (some (.ref L))) (h:Ev C σ te n k) (c:C E H) (t:gJ E0 H0 E H L vs m) (hn:n≤2900) (hk:k≤20) (hm:m≤400)
 (q:∀vs' H',gJ E0 H0 E H' L vs' (m+1)→ar E H H'→D.nx σ H'):CZ (Go K "list" Dn (ii 7) (dF te fU)) D σ H:=
 ⟨_,hσ,.inl ⟨rfl,_,aE.of t.at'⟩,h H E _ c t.al fun v H1 s1 tv=>by
  have t1:=t.same s1
  have tl:=t.ln
  exact ⟨L,vs,v,rfl,rfl,t1.at',by trivial,fun H2 c2=>q _ H2 (t1.app (tv.up hn hk) c2) (s1.toE.trans ((Ch.sameE (ad.refl _) t1.at' c2).imp fun a e=>by rw [e];exact t.el))⟩⟩
theorem pc {src:List Nat}{ti:TI} (hσ:σ[7]?=some (some (.ref L))) (st:jl C) (cp:Dq C) (ps:zi P) (pp:GA P)
 (hit:Aq C E σ ti l P)
 (hb:∀x,Ev (fun E H=>C E H∧P E H x) ((nY 1 src σ).set 0 (some x)) tb n k) (c:C E H) (t:gJ E0 H0 E H L vs m) (hn:n≤2900) (hk:k≤20) (hm:m+l≤400)
 (q:∀p vs' H' E',gJ E0 H0 E' H' p vs' (m+l)→ad H H'→D.nx (σ.set 7 (some (.ref p))) H'):qI (mR As (ii 7) (wo ti 1 src (iA 0) tT tb)) (iA 7) D σ H:=by
 have tl:=t.ln
 refine ⟨_,hσ,hit H _ c t.al fun J xs H1 s1 lx hgo hst hy hp=>fun M hM=>?_⟩
 have c1:=cp _ _ _ hM (st _ _ _ s1 c)
 have p1:∀v∈xs,P (fun a=>E a∨a=M) H1 v:=fun v hv=>pp _ _ _ _ hM (hp v hv)
 refine yp (n:=xs.length) (N:=2900) (k:=20) (E:=fun a=>E a∨a=M) (by trivial) hM (.inr rfl) hgo hst ?_ ?_
 ·intro i x H' H'' R hi sm hMn hyl kk
  obtain ⟨rfl,ex⟩:=hy i x H' H'' sm hyl
  refine ⟨dq,hb x H'' _ _ ⟨st _ _ _ sm c1,ps _ _ _ _ sm (p1 x (List.mem_of_getElem? ex))⟩ (Al.plus' t.al (s1.trans sm) hMn) fun v H4 s4 tv=>kk v H4 s4 (tv.up hn hk)⟩
 ·intro zs H2 s2 hM2 lz tz
  have t2:gJ E0 H0 (fun a=>E a∨a=M) H2 L vs m:=by
   have tA:=t.same s1
   exact ⟨tA.sm.trans s2,t.fr,fun a h=>.inl (t.e0 a h),.inl t.el,Al.plus' tA.al s2 (by rw [hM2];exact fun z=>by cases z),s2 _ _ tA.at',t.ln,fun v hv=>((tA.th v hv).plus hM).sE s2.toE⟩
  refine ⟨L,M,vs,zs,rfl,rfl,t2.at',hM2,by trivial,fun p H3 m3=>?_⟩
  have t3:=t2.new tz (show zs.length≤l by trivial) m3
  exact q p _ H3 _ t3 ((s1.trans s2).trans m3.sm)
theorem A3 (h:lM C σ ta l P) (hl:l≤10000) (ps:zi P):Aq C E σ (zG K (ir ta)) l P:=fun H Q c al q=>
 h H E _ c al fun xs H1 s1 lx hp=>⟨by trivial,fun a H2 m2=>⟨a,rfl,⟨_,ak.of m2.at'⟩,q (tJ K a) xs H2 (s1.trans m2.sm) (by trivial) (fun i H' hi sm=>⟨xs,xs[i],ak.of (sm _ _ m2.at'),by simp [hi]⟩) (fun H' sm=>⟨xs,ak.of (sm _ _ m2.at'),Nat.le_refl _⟩) (fun i x H' H'' sm ⟨e,ex⟩=>⟨e,ex _ (ak.of (sm _ _ m2.at'))⟩) fun v hv=>ps _ _ _ _ m2.sm (hp v hv)⟩⟩
theorem Dy {a:Addr}{xs:List V} (e:σ[i]?=some (some (.ref a))) (ht:∀H,C E H→H a=some (.tup xs)∧xs.length≤l∧∀v∈xs,P E H v):Aq C E σ (zG K (ii i)) l P:=fun H Q c al q=>
 have ⟨h1,h2,h3⟩:=ht H c
 ⟨_,e,a,rfl,⟨_,ak.of h1⟩,q (tJ K a) xs H (ad.refl _) h2 (fun i H' hi sm=>⟨xs,xs[i],ak.of (sm _ _ h1),by simp [hi]⟩) (fun H' sm=>⟨xs,ak.of (sm _ _ h1),Nat.le_refl _⟩) (fun i x H' H'' sm ⟨e,ex⟩=>⟨e,ex _ (ak.of (sm _ _ h1))⟩) h3⟩
theorem EH {a:Addr}{xs:List V} (e:σ[i]?=some (some (.ref a))) (ht:∀H,C E H→H a=some (.lst xs)∧xs.length≤l∧∀v∈xs,P E H v):Aq C E σ (zR K (ii i)) l P:=fun H Q c al q=>
 have ⟨h1,h2,h3⟩:=ht H c
 ⟨_,e,a,rfl,⟨_,aE.of h1⟩,q (yJ K a) xs H (ad.refl _) h2 (fun i H' hi sm=>⟨xs,xs[i],aE.of (sm _ _ h1),by simp [hi]⟩) (fun H' sm=>⟨xs,aE.of (sm _ _ h1),Nat.le_refl _⟩) (fun i x H' H'' sm ⟨e,ex⟩=>⟨e,ex _ (aE.of (sm _ _ h1))⟩) h3⟩
end
end K53
namespace K53
open PySem L2
set_option maxHeartbeats 16000000
theorem xy {H:Hp}{a:Addr}{xs:List V}{ds:List PyData}{n k:Nat} (ha:H a=some (.tup xs)) (q:aG ED H xs ds) (w:Wx 2 (.tuple ds) (n+1) (k+1)):∀E J,dM H J→J a=some (.tup xs)∧xs.length≤36∧bM E J xs n k:=fun E J u=>by
 cases w with
 | tuple h hn hk hw=>exact ⟨u _ _ ha,by rw [q.length];exact hw,FA ((q.mono (iP u)).narrow fun _ _=>trivial) (h.up (by trivial) (by trivial)) (by decide)⟩
theorem zK {H:Hp}{v:V}{x:PyData}{n k:Nat} (h:bh ED H v x) (w:Wx 2 x n k):∀E J,dM H J→Tn E J v n k:=fun E J u=>Dk ((h.mono (iP u)).narrow fun _ _=>trivial) w (by decide)
theorem j8 {n:Nat}{x:Str} (h:kX n x) (hn:n≤30:=by decide):jQ x:=⟨by have:=h.1;trivial,h.2⟩
theorem CP (s:String) (h:(Str.ofString s).length≤2∧(∀c∈(Str.ofString s).cps.toList,c<128)):kX 2 (Str.ofString s):=⟨h.1,h.2⟩
def um (H:Hp) (v:V):Prop:=eV fun ra xs s=>v=.ref ra∧gj xs 0=some (.str s)∧jQ s∧∀E J,dM H J→J ra=some (.tup xs)∧xs.length≤8∧bM E J xs 21 1
theorem Ar {H:Hp}{v:V}{l:List Nat}{ds:List PyData} (h:bh ED H v (.tuple (.str (S l) :: ds))) (hl:pf l) (w:Wx 2 (.tuple (.str (S l) :: ds)) 22 2) (l8:ds.length≤7):um H v:=by
 cases h with
 | @tup ra xs _ ha q=>
 cases id q with
 | @cons x1 xr _ _ r1 r=>
 cases r1
 exact ⟨ra,_,S l,rfl,by simp [gj,nK],qx hl,fun E J u=>⟨(xy ha q w E J u).1,by rw [q.length,List.length_cons];trivial,(xy ha q w E J u).2.2⟩⟩
section
variable {C:rH}{σ:St}{K:PySem.W.Frag}{te te2:TE}{ta:TA}{l l2 n m k k1 k2:Nat}
theorem av.con (st:jl C) (h:Ev C σ te n k1) (g:av C σ ta l m k2):av C σ (dF te ta) (l+1) (n+m) (max k1 k2):=
 av.cons st (h.up (Nat.le_refl _) (Nat.le_max_left ..)) (g.up (Nat.le_refl _) (Nat.le_max_right ..))
theorem aD.catm (st:jl C) (h:aD C σ te l n k1) (g:aD C σ te2 l2 m k2) (hl:l+l2≤10000):aD C σ (mR wH te te2) (l+l2) (n+m) (max k1 k2):=
 aD.cat st (h.up (Nat.le_refl _) (Nat.le_max_left ..)) (g.up (Nat.le_refl _) (Nat.le_max_right ..)) hl
theorem aD.wide {l' n' k':Nat} (h:aD C σ te l n k) (hl:l≤l') (hn:n≤n') (hk:k≤k'):aD C σ te l' n' k':=fun H E Q c al q=>h H E Q c al fun a xs H' s e lx t=>q a xs H' s e (by trivial) (t.up hn hk)
theorem aD.ofP {i:Nat}{x:V} (e:σ[i]?=some (some x)) (h:∀E H,C E H→Pt l n k E H x):aD C σ (ii i) l n k:=fun H E Q c al q=>⟨x,e,by
 obtain ⟨a,xs,rfl,h1,h2,h3⟩:=h E H c
 exact q a xs H (ad.refl _) h1 h2 h3⟩
theorem av.emp4 (st:jl C):av C σ (dF (ir fU) (dF (ir fU) (dF (ir fU) (dF (ir fU) fU)))) 4 4 1:=av.emps st 4
theorem av.emp3 (st:jl C):av C σ (dF (ir fU) (dF (ir fU) (dF (ir fU) fU))) 3 3 1:=av.emps st 3
theorem av.one (st:jl C) (h:Ev C σ te n k):av C σ (dF te fU) 1 n k:=(av.cons st h av.nil).up (Nat.le_refl _) (Nat.le_refl _)
theorem Ev.rng {i j:Nat} (e:σ[i]?=some (some (.int (j:Int)))) (hj:j≤8):Ev C σ (CV (dF (ii i) fU)) 9 1:=fun H E Q c al q=>
 ⟨_,e,(j:Int),rfl,by trivial,by trivial,fun p H2 m2=>q (.ref p) H2 m2.sm ((Tn.tup m2.at' (n:=1*(iZ j).length) (k:=0) (bM.ofAll fun v hv=>by
  obtain ⟨z,hz,rfl⟩:=List.mem_map.mp hv
  have:z<j:=List.mem_range.mp hz
  exact Tn.int (show ((z:Int)).natAbs<2 ^ 60 from Nat.lt_of_lt_of_le (show ((z:Int)).natAbs<2 ^ 4 by trivial) (Nat.pow_le_pow_right (by decide) (by decide)))) (by rw [show ((j:Int)).toNat=j from rfl,iZ,List.length_map,List.length_range];trivial)).up (by rw [iZ,List.length_map,List.length_range];trivial) (Nat.le_refl _))⟩
end
section
variable {P:Program}{w:World}{K:PySem.W.Frag}{mg:Str→Option Value}{base:Heap}
inductive EF (vs:List V) (H:Hp) (Q:VK):Prop
 | mk (dv:V) (d:di) (E0:Addr→Prop) (h0:vs=[dv]) (h1:bh ED H dv (yN d)) (h2:i4 d) (h3:d.pl≠[]) (h4:Al E0 H) (h5:∀L vs E H',ad H H'→H L=none→H' L=some (.lst vs)→(∀a,E0 a→E a)→E L→Al E H'→vs.length≤400→(∀v∈vs,Tn E H' v 2900 20)→Q (.ref L) H')
def Gf:Sp:=fun vs H Q _=>EF  vs H Q
theorem Ah (T:Txt K mg):bt P w K mg base CX0 3 T.l_by_hand_.f T.l_by_hand_.d ["_law_day_here"] Gf:=by
 refine T.l_by_hand_.F.ok aZ (fun vs H Q E h=>?_) (fun cdv A outer s H vs Q E hr h=>?_)
 ·obtain ⟨dv,d,E0,rfl,_⟩:=h
  rfl
 ·obtain ⟨dv,d,E0,rfl,hd,gd,h0,al,k⟩:=h
  refine ⟨_,#[#[gK 6 #[0,(bF)] (@fP _ (K) _ _ _ _ (6) rfl #[aP 5 #[cZ 2 (1) _ aZ.nd rfl (Or.inr aS) (by first | exact .inl rfl | exact .inr rfl | assumption)] #[aP 5 #[cZ 2 (2) _ aZ.nd rfl (Or.inr dc) (by first | exact .inl rfl | exact .inr rfl | assumption)] #[aP 5 #[3,aZ.nd,gN] #[aP 5 #[4,aZ.nd,jd] #[aP 5 #[5,aZ.nd,jE] #[aP 5 #[6,aZ.nd,jt] (@fD _) (by rfl)] (by rfl)] (by rfl)] (by rfl)] (by rfl)] (by rfl)] (by rfl) (by rfl) (by rfl)) (by rfl) (by rfl) (by rfl)] :: #[#[7,aZ.nd,aJ,#[bU 4 #[[#[ae 5 #[[#[1,(aS)],#[()],#[ae 5 (@aC _)],#[ae 5 (@aC _)],#[ae 5 (@aC _)],#[ae 5 (@aC _)]]]],#[aj 8 (@cg _) #[ae 5 #[[#[aj 8 (@cg _) #[1,(aS)] #[aR 10 (@b6 _ (K) (by rfl)) #[1,(aS)] (@be _) #[aU 3 #[()]]]]]]] #[aR 10 (@b6 _ (K) (by rfl)) #[0,(bF)] #[aU 3 #[()]] (@be _)]],#[ae 5 #[[#[aR 10 (@b6 _ (K) (by rfl)) #[1,(aS)] (@be _) #[aU 3 #[()]]],#[()],#[ae 5 (@aC _)],#[ae 5 (@aC _)],#[ae 5 (@aC _)],#[ae 5 (@aC _)]]]]]]]] :: #[#[7,aZ.nd,aJ,#[aj 8 (@jN _) #[7,aJ] #[bU 4 #[[#[ae 5 #[[#[1,(aS)],#[2,(dc)],#[3,gN],#[aj 8 (@Eg _) #[4,jd] #[()]],#[5,jE],#[6,jt]]]],#[ae 5 #[[#[ae 5 (@aC _)],#[()],#[ae 5 (@aC _)],#[ae 5 (@aC _)],#[ae 5 (@aC _)],#[ae 5 (@aC _)]]]],#[aR 10 (@b6 _ (K) (by rfl)) #[0,(bF)] (@be _) #[aU 3 #[()]]]]]]]] :: #[#[7,aZ.nd,aJ,#[aj 8 (@jN _) #[7,aJ] #[bU 4 #[[#[aj 8 (@cg _) #[0,(bF)] #[ae 5 #[[#[ae 5 (@aC _)]]]]],#[bV 9 (@fX _ (K) (by rfl)) sj T.b_list (@d9) #[[#[0,(bF)]]] (by decide) (by decide) (by rfl) (by rfl)],#[eQ 3],#[dC 4],#[aj 8 (@cg _) #[ae 5 #[[#[ae 5 #[[#[bU 4 #[[#[dC 4]]]]]]]]]] #[aR 10 (@b6 _ (K) (by rfl)) #[0,(bF)] #[aU 3 #[()]] (@be _)]],#[aj 8 (@cg _) #[ae 5 #[[#[aj 8 (@cg _) #[1,(aS)] #[ae 5 #[[#[bU 4 (@aC _)]]]]]]]] #[aR 10 (@b6 _ (K) (by rfl)) #[0,(bF)] #[aU 3 #[()]] (@be _)]]]]]]] :: #[#[fC 4 (@dX _ (K) _ _ _ _ _ _ _ _ _ _ _ PySem.F.plainAttrs_list PySem.F.slot_list_append PySem.F.type_list_append (@cU _) #[7,aJ] #[[#[ae 5 #[[#[1,(aS)],#[aj 8 (@lK _) #[()] #[()]],#[ae 5 (@aC _)],#[ae 5 (@aC _)],#[ae 5 (@aC _)],#[ae 5 (@aC _)]]]]]] (by rfl) (by rfl) (by rfl) (by rfl) (by rfl) (by rfl)) (by rfl)] :: #[#[7,aZ.nd,aJ,#[aj 8 (@jN _) #[7,aJ] #[bA 7 (["_law_odd_here", "_law_day_here", "_law_names_here"]) (1) ([0,1]) _ _ _ _ rfl (by kernel_rfl) (@bI _ (K) _ _ _ #[ae 5 #[[#[dC 4],#[dC 4],#[dC 4],#[dC 4]]]] (by rfl)) (fun _ _ _ _ _ _=>#[0,(),()]) (fun _ _ _ _ _ _=>@bu _) (fun _ _ _ _ _ _=>#[aj 8 (@cg _) #[ae 5 #[[#[aj 8 (@cg _) #[2,0] #[ae 5 #[[#[0,()]]]]]]]] #[aR 10 (@b6 _ (K) (by rfl)) #[1,0] #[aU 3 #[()]] (@be _)]]) (by intro _;rfl)]]] :: #[#[d8 8 PassesOwn.never rfl (@bI _ (K) _ _ _ #[ae 5 #[[#[()],#[()],#[()]]]] (by rfl)) #[cZ 2 (9) _ aZ.nd rfl (Or.inr mj) (by first | exact .inl rfl | exact .inr rfl | assumption)] #[ac 3 #[d8 8 PassesOwn.never rfl (@bI _ (K) _ _ _ #[aR 10 (@b6 _ (K) (by rfl)) #[#[0,(bF)][#[9,(mj)]]] (@be _) #[aU 3 #[()]]] (by rfl)) #[cZ 2 (10) _ aZ.nd rfl (Or.inr ce) (by first | exact .inl rfl | exact .inr rfl | assumption)] #[#[8,aZ.nd,im,#[ae 5 #[[#[aj 8 (@cg _) #[ae 5 #[[#[bU 4 #[[#[#[1,(aS)][#[()]]]]]]]]] #[aR 10 (@b6 _ (K) (by rfl)) #[10,(ce)] #[aU 3 #[()]] (@be _)]],#[aj 8 (@cg _) #[ae 5 #[[#[eQ 3]]]] #[aR 10 (@b6 _ (K) (by rfl)) #[10,(ce)] #[aU 3 #[()]] (@be _)]]]]]] :: #[ac 3 #[7,aZ.nd,aJ,#[aj 8 (@jN _) #[7,aJ] #[bA 7 (["_law_one", "_law_at", "_law_day_here", "_law_hours", "_law_names_here"]) (1) ([9,0,2,1]) _ _ _ _ rfl (by kernel_rfl) (@bI _ (K) _ _ _ #[8,im] (by rfl)) (fun _ _ _ _ _ _=>#[0,(),()]) (fun _ _ _ _ _ _=>@bu _) (fun _ _ _ _ _ _=>#[aj 8 (@cg _) #[aj 8 (@cg _) #[aR 10 (@b6 _ (K) (by rfl)) #[ae 5 #[[#[4,0],#[3,0],#[ae 5 (@aC _)],#[ae 5 (@aC _)],#[ae 5 (@aC _)],#[ae 5 (@aC _)]]]] (@be _) #[aU 3 #[1,0]]] #[ae 5 #[[#[ae 5 #[[#[0,()],#[0,()]]]]]]]] #[aR 10 (@b6 _ (K) (by rfl)) #[2,0] #[aU 3 #[aj 8 (@bJ _) #[1,0] #[()]]] (@be _)]]) (by intro _;rfl)]]]]] (by intro _;rfl)]] (by intro _;rfl)] :: #[#[d8 8 PassesOwn.never rfl (@bI _ (K) _ _ _ #[3,gN] (by rfl)) #[cZ 2 (10) _ aZ.nd rfl (Or.inr ce) (by first | exact .inl rfl | exact .inr rfl | assumption)] #[#[11,aZ.nd,kZ,#[aj 8 (@cg _) #[aR 10 (@b6 _ (K) (by rfl)) #[10,(ce)] (@be _) #[aU 3 #[()]]] #[ae 5 #[[#[aj 8 (@lK _) #[()] #[()]],#[ae 5 #[[#[()],#[aj 8 (@sY _) #[aj 8 (@lK _) #[()] #[()]] #[()]]]]]]]]]] :: #[#[fC 4 (@dX _ (K) _ _ _ _ _ _ _ _ _ _ _ PySem.F.plainAttrs_list PySem.F.slot_list_append PySem.F.type_list_append (@cU _) #[7,aJ] #[[#[ae 5 #[[#[1,(aS)],#[aj 8 (@lK _) #[()] #[()]],#[ae 5 #[[#[11,kZ]]]],#[ae 5 (@aC _)],#[ae 5 (@aC _)],#[ae 5 (@aC _)]]]]]] (by rfl) (by rfl) (by rfl) (by rfl) (by rfl) (by rfl)) (by rfl)] :: #[#[12,aZ.nd,jB,#[bU 4 #[[#[ae 5 #[[#[()],#[()]]]],#[ae 5 #[[#[()],#[()]]]],#[ae 5 #[[#[2,(dc)]]]],#[ae 5 #[[#[mI 6 (@lP _) #[()]]]]],#[ae 5 #[[#[bj 4]]]],#[bU 4 #[[#[()]]]],#[EG 7 rfl rj T.b_tuple (@aI) rq T.b_range #[[#[2,(dc)]]] (by rfl) (by rfl)],#[ae 5 (@aC _)]]]]] :: #[#[7,aZ.nd,aJ,#[aj 8 (@jN _) #[7,aJ] #[bA 7 (["_law_one", "_law_hours", "_law_names_here", "_law_row"]) (1) ([2,1,10]) _ _ _ _ rfl (by kernel_rfl) #[uI 4 #[12,jB]] (fun _ _ _ _ _ _=>#[0,(),()]) (fun _ _ _ _ _ _=>@bu _) (fun _ _ _ _ _ _=>#[ae 5 #[[#[2,0],#[1,0],#[ae 5 #[[#[aj 8 (@cg _) #[aR 10 (@b6 _ (K) (by rfl)) #[3,0] (@be _) #[aU 3 #[()]]] #[ae 5 #[[#[0,()]]]]]]]],#[ae 5 (@aC _)],#[ae 5 (@aC _)],#[ae 5 (@aC _)]]]]) (by intro _;rfl)]]] :: #[#[fC 4 (@dX _ (K) _ _ _ _ _ _ _ _ _ _ _ PySem.F.plainAttrs_list PySem.F.slot_list_append PySem.F.type_list_append (@cU _) #[7,aJ] #[[#[ae 5 #[[#[1,(aS)],#[2,(dc)],#[ae 5 #[[#[aj 8 (@cg _) #[aj 8 (@cg _) #[aR 10 (@b6 _ (K) (by rfl)) #[10,(ce)] (@be _) #[aU 3 #[()]]] #[ae 5 #[[#[mI 6 (@lP _) #[()]]]]]] #[aR 10 (@b6 _ (K) (by rfl)) #[10,(ce)] #[aU 3 #[()]] (@be _)]]]]],#[ae 5 (@aC _)],#[ae 5 (@aC _)],#[ae 5 (@aC _)]]]]]] (by rfl) (by rfl) (by rfl) (by rfl) (by rfl) (by rfl)) (by rfl)] :: #[ac 3 #[7,aZ.nd,aJ,#[aj 8 (@jN _) #[7,aJ] #[bA 7 (["_law_one", "_law_hours", "_law_names_here", "_law_row"]) (1) ([2,1,10]) _ _ _ _ rfl (by kernel_rfl) (@bI _ (K) _ _ _ #[ae 5 #[[#[ae 5 #[[#[bU 4 #[[#[#[10,(ce)][#[()]]]]]]]]],#[ae 5 #[[#[ae 5 #[[#[dC 4],#[()]]]]]]],#[ae 5 #[[#[()]]]]]]] (by rfl)) (fun _ _ _ _ _ _=>#[0,(),()]) (fun _ _ _ _ _ _=>@bu _) (fun _ _ _ _ _ _=>#[ae 5 #[[#[2,0],#[1,0],#[ae 5 #[[#[aj 8 (@cg _) #[0,()] #[aR 10 (@b6 _ (K) (by rfl)) #[3,0] #[aU 3 #[()]] (@be _)]]]]],#[ae 5 (@aC _)],#[ae 5 (@aC _)],#[ae 5 (@aC _)]]]]) (by intro _;rfl)]]]]]]]]] (by intro _;rfl)] :: #[ac 3 #[ai 4 #[7,aJ]]]]]]]]]]],?_⟩
  cases hd with
  | @tup a xs _ ha rA=>
  cases id rA with
  | @cons x1 _ _ _ r1 r=>
  cases r with
  | @cons x2 _ _ _ r2 r=>
  cases r with
  | @cons x3 _ _ _ r3 r=>
  cases r with
  | @cons x4 _ _ _ r4 r=>
  cases r with
  | @cons x5 _ _ _ r5 r=>
  cases r with
  | @cons x6 _ _ _ r6 r=>
  cases r
  cases id r1 with
  | @tup p xn _ hp qn=>
  cases r2
  cases id r3 with
  | @tup t xt _ ht qt=>
  cases id r4 with
  | @tup st xst _ hst qst=>
  cases id r5 with
  | @tup wl xwl _ hwl qwl=>
  cases id r6 with
  | @tup wi xwi _ hwi qwi=>
  have hh8:=gd.l8
  have st0:jl (fun _ J=>dM H J):=fun E H1 H2 s c a us h=>s _ _ (c a us h)
  have cp0:Dq (fun _ J=>dM H J):=fun _ _ _ _ c=>c
  have uA:=xy ha rA (n:=319) (k:=3) (Az gd)
  have uN:=xy hp qn (n:=5) (k:=2) (sB gd)
  have uNr:=zK r1 (sB gd)
  have uTr:=zK r3 (zp gd)
  have uS:=xy hst qst (n:=40) (k:=2) (yO gd)
  have uWr:=zK r5 (yV gd)
  have uIr:=zK r6 (yD gd)
  have uS':∀E J,dM H J→J st=some (.tup xst)∧xst.length≤5∧bM E J xst 40 2:=fun E J u=>⟨(uS E J u).1,by have:=gd.s5;rw [qst.length,List.length_map];exact this,(uS E J u).2.2⟩
  have uA':∀E J,dM H J→J a=some (.tup [.ref p,.int (d.hr:Int),.ref t,.ref st,.ref wl,.ref wi])∧[V.ref p,.int (d.hr:Int),.ref t,.ref st,.ref wl,.ref wi].length≤6∧bM E J [.ref p,.int (d.hr:Int),.ref t,.ref st,.ref wl,.ref wi] 319 3:=fun E J u=>⟨(uA E J u).1,Nat.le_refl 6,(uA E J u).2.2⟩
  have uN':∀E J,dM H J→J p=some (.tup xn)∧xn.length≤5∧bM E J xn 5 2:=fun E J u=>⟨(uN E J u).1,by have:=gd.p5;rw [qn.length,List.length_map];exact this,(uN E J u).2.2⟩
  have hhr:((d.hr:Int)).natAbs<2 ^ 60:=Nat.lt_of_lt_of_le (show ((d.hr:Int)).natAbs<2 ^ 4 by trivial) (Nat.pow_le_pow_right (by decide) (by decide))
  obtain ⟨s0,es0,hs0⟩:∃s0,gj xn 0=some (.str s0)∧jQ s0:=by
   cases hpl:d.pl with
   | nil=>exact absurd hpl h0
   | cons l r=>
    rw [hpl] at qn
    cases qn with
    | @cons y yr _ _ c1 _=>
    cases c1
    exact ⟨S l,by simp [gj,nK],qx (gd.nm l (by rw [hpl];simp))⟩
  have rS:∀v∈xst,um H v:=fun v hv=>by
   obtain ⟨i,e⟩:=List.getElem?_of_mem hv
   obtain ⟨y,ey,hy⟩:=qst.get e
   rw [List.getElem?_map] at ey
   obtain ⟨x,ex,rfl⟩:=Option.map_eq_some_iff.mp ey
   have mx:=List.mem_of_getElem? ex
   exact Ar hy (gd.nm _ (gd.ss x mx).b) ((Ay gd (gd.ss x mx)).up (by decide) (by decide)) (by simp)
  have rW:∀v∈xwl,um H v:=fun v hv=>by
   obtain ⟨i,e⟩:=List.getElem?_of_mem hv
   obtain ⟨y,ey,hy⟩:=qwl.get e
   rw [List.getElem?_map] at ey
   obtain ⟨x,ex,rfl⟩:=Option.map_eq_some_iff.mp ey
   have mx:=List.mem_of_getElem? ex
   exact Ar hy (gd.nm _ (gd.ws x mx).b) ((BA gd (gd.ws x mx)).up (by decide) (by decide)) (by simp)
  have rI:∀v∈xwi,um H v:=fun v hv=>by
   obtain ⟨i,e⟩:=List.getElem?_of_mem hv
   obtain ⟨y,ey,hy⟩:=qwi.get e
   rw [List.getElem?_map] at ey
   obtain ⟨x,ex,rfl⟩:=Option.map_eq_some_iff.mp ey
   have mx:=List.mem_of_getElem? ex
   exact Ar hy (gd.nm _ (gd.wi x mx).b) ((AW gd (gd.wi x mx)).up (by decide) (by decide)) (by simp)
  have rT:∀v∈xt,um H v:=fun v hv=>by
   obtain ⟨i,e⟩:=List.getElem?_of_mem hv
   obtain ⟨y,ey,hy⟩:=qt.get e
   rw [List.getElem?_map] at ey
   obtain ⟨x,ex,rfl⟩:=Option.map_eq_some_iff.mp ey
   have mx:=List.mem_of_getElem? ex
   exact Ar hy (gd.nm _ (gd.ts x mx).b) (BE gd (gd.ts x mx)) (by simp)
  have lxt:xt.length≤8:=by have:=gd.t8;rw [qt.length,List.length_map];exact this
  have t1:∀{c:Nat},97≤97:=fun {c}=>Nat.le_refl _
  have sT:∀s:Str,s.length≤2→(∀c∈s.cps.toList,c<128)→jQ s:=fun s h1 h2=>⟨by trivial,h2⟩
  refine cq fun D1 n1=>⟨(),a,(),ak.of ha,rfl,_,(),_,(),_,(),_,(),_,(),_,(),rfl,n1 _ _ ?_⟩
  refine cq fun D2 n2=>za (C:=fun _ J=>dM H J) (E:=E0)
   (av.con st0 (Ev.tup (av.con st0 (Ev.var rfl uNr) (av.con st0 (Ev.int (k:=0) (by decide)) (av.emp4 st0))) (by decide))
    (av.con st0 (aD.ev (aD.catm st0 (aD.tup (av.one st0 (aD.ev (aD.catm st0 (aD.var rfl uN') (aD.sl (aD.var rfl uN') Po.no Po.at) (by decide)) (by decide))) (by decide)) (aD.sl (aD.var rfl uA') Po.at Po.no) (by decide)) (by decide))
     (av.one st0 (Ev.tup (av.con st0 (aD.ev (aD.sl (aD.var rfl uN') Po.no Po.at) (by decide)) (av.con st0 (Ev.int (k:=0) (by decide)) (av.emp4 st0))) (by decide)))))
   (fun _ _ h=>h) al (by decide) fun L zs H1 H2 s1 lz tz m2=>n2 _ _ ?_
  have g2:gJ E0 H (fun a=>E0 a∨a=L) H2 L zs 3:=gJ.first (al.sm s1) s1 (fun v hv=>(tz.mem hv).up (by decide) (by decide)) (by trivial) m2
  have tu:∀{J:Hp},ad H J→dM H J:=fun s a us h=>s _ _ h
  have uH:∀E J,dM H J→Tn E J (.int (d.hr:Int)) 1 0:=fun _ _ _=>Tn.int hhr
  have s2:∀s:String,jQ (Str.ofString s)→jQ (Str.ofString s):=fun _ h=>h
  refine cq fun D3 n3=>zu (C:=fun _ J=>dM H J) rfl st0
   (av.con st0 (Ev.tup (av.con st0 (Ev.var rfl uNr) (av.con st0 (Ev.var rfl uH) (av.con st0 (Ev.var rfl uTr) (av.con st0 (aD.ev (aD.rep (aD.var rfl uS') (by decide)) (by decide)) (av.con st0 (Ev.var rfl uWr) (av.one st0 (Ev.var rfl uIr))))))) (by decide))
    (av.con st0 (Ev.tup (av.con st0 (Ev.tup (l:=0) (av.nil (k:=0)) (by decide)) (av.con st0 (Ev.int (k:=0) (by decide)) (av.emp4 st0))) (by decide))
     (av.one st0 (aD.ev (aD.sl (aD.var rfl uA') Po.no Po.at) (by decide)))))
   (tu g2.sm) g2 (by decide) (by decide) (by decide) fun L3 v3 H3 E3 g3 _=>n3 _ _ ?_
  refine cq fun D4 n4=>zu (C:=fun _ J=>dM H J) rfl st0
   (av.con st0 (aD.ev (aD.catm st0 (aD.var rfl uA') (aD.tup (av.one st0 (Ev.tup (l:=0) (av.nil (k:=0)) (by decide))) (by decide)) (by decide)) (by decide))
    (av.con st0 (Ev.listOf (aD.var rfl uA') (by decide))
     (av.con st0 (Ev.non (k:=0)) (av.con st0 (Ev.str (k:=0) (j8 Ig))
      (av.con st0 (aD.ev (aD.catm st0 (aD.tup (av.one st0 (Ev.tup (av.one st0 (Ev.lst (av.one st0 (Ev.str (k:=0) (j8 Dr))) (by decide))) (by decide))) (by decide)) (aD.sl (aD.var rfl uA') Po.at Po.no) (by decide)) (by decide))
       (av.one st0 (aD.ev (aD.catm st0 (aD.tup (av.one st0 (aD.ev (aD.catm st0 (aD.var rfl uN') (aD.tup (av.one st0 (Ev.lst (l:=0) (av.nil (k:=0)) (by decide))) (by decide)) (by decide)) (by decide))) (by decide)) (aD.sl (aD.var rfl uA') Po.at Po.no) (by decide)) (by decide))))))))
   (tu g3.sm) g3 (by decide) (by decide) (by decide) fun L4 v4 H4 E4 g4 _=>n4 _ _ ?_
  refine cq fun D5 n5=>uM (C:=fun _ J=>dM H J) rfl (Ev.tup (av.con st0 (Ev.var rfl uNr) (av.con st0 (Ev.p12 (k:=0)) (av.emp4 st0))) (by decide)) (tu g4.sm) g4 (by decide) (by decide) (by decide) fun v5 H5 g5 _=>n5 _ _ ?_
  have stP:∀{P:vq} (_:zi P) (x:V),jl (fun E J=>dM H J∧P E J x):=fun ps x E H1 H2 s c=>⟨st0 E H1 H2 s c.1,ps _ _ _ _ s c.2⟩
  refine cq fun D6 n6=>pc (C:=fun _ J=>dM H J) rfl st0 cp0 Pn.sm Pn.pl
   (A3 (av.toP (av.con st0 (Ev.str (k:=0) (j8 (CP "a1" (by nofun)))) (av.con st0 (Ev.str (k:=0) (j8 (CP "a_" (by nofun)))) (av.con st0 (Ev.str (k:=0) (j8 (CP "a-" (by nofun)))) (av.one st0 (Ev.str (k:=0) (j8 (CP "1" (by nofun))))))))) (by decide) Pn.sm)
   (fun x=>aD.ev (aD.catm (stP Pn.sm x) (aD.tup (av.one (stP Pn.sm x) (aD.ev (aD.catm (stP Pn.sm x) (aD.var rfl fun E J c=>uN' E J c.1) (aD.tup (av.one (stP Pn.sm x) (Ev.var rfl fun E J c=>c.2)) (by decide)) (by decide)) (by decide))) (by decide)) (aD.sl (aD.var rfl fun E J c=>uA' E J c.1) Po.at Po.no) (by decide)) (by decide))
   (tu g5.sm) g5 (by decide) (by decide) (by decide) fun L6 v6 H6 E6 g6 _=>n6 _ _ ?_
  refine cq fun D7 n7=>⟨(by show 3≤10000;decide),fun q H7 m7=>⟨q,rfl,⟨_,ak.of m7.at'⟩,nz (xs:=[.int 3,.int 4,.int 5]) (fun i σ H'=>Gy fun (v8 v9 v10 v11 v12:Option V) (L:Addr) (vs:List V) (E:Addr→Prop) (m:Nat)=>σ=[some (.ref a),some (.ref p),some (.int (d.hr:Int)),some (.ref t),some (.ref st),some (.ref wl),some (.ref wi),some (.ref L),v8,v9,v10,v11,v12]∧gJ E0 H E H' L vs m∧m≤17+2*i∧ad H7 H') ⟨_,_,_,_,_,_,_,_,(),g6.same m7.sm,by decide,ad.refl _⟩ ?_ ?_ ?_⟩⟩
  ·rintro i σ J _ ⟨_,_,_,_,_,_,_,_,_,_,_,_,sJ⟩
   exact ak.of (sJ _ _ m7.at')
  ·rintro i x σ J hx ⟨v8,v9,v10,v11,v12,L,vs,E,m,rfl,g,hm,sJ⟩
   have hi:i<3:=(List.getElem?_eq_some_iff.mp hx).1
   obtain ⟨at_,ap,xp,rfl,eat,hap,hrow⟩:eV fun at_ ap xp=>x=.int at_∧gj [V.ref p,.int (d.hr:Int),.ref t,.ref st,.ref wl,.ref wi] at_=some (.ref ap)∧H ap=some (.tup xp)∧∀v∈xp,um H v:=by
    rcases (show i=0∨i=1∨i=2 by trivial) with rfl | rfl | rfl
    ·cases hx;exact ⟨3,st,xst,rfl,rfl,hst,rS⟩
    ·cases hx;exact ⟨4,wl,xwl,rfl,rfl,hwl,rW⟩
    ·cases hx;exact ⟨5,wi,xwi,rfl,rfl,hwi,rI⟩
   refine ⟨(),(),a,_,at_,(),rfl,ak.of (g.sm _ _ ha),eat,1,rfl,ap,xp,rfl,ak.of (g.sm _ _ hap),g.sm _ _ hap,fun qs Hs ss hqs=>⟨qs,rfl,⟨_,ak.of hqs⟩,nz (xs:=cS xp none (some 1)) (fun j σ H'=>yS fun (v8 v10 v11 v12:Option V) (L:Addr) (vs:List V) (E:Addr→Prop) (m:Nat)=>σ=[some (.ref a),some (.ref p),some (.int (d.hr:Int)),some (.ref t),some (.ref st),some (.ref wl),some (.ref wi),some (.ref L),v8,some (.int at_),v10,v11,v12]∧gJ E0 H E H' L vs m∧m≤17+2*i+2*j∧ad Hs H') ⟨_,_,_,_,_,_,_,(),g.same ss,hm,ad.refl _⟩ ?_ ?_ ?_⟩⟩
   ·rintro j σ J2 _ ⟨_,_,_,_,_,_,_,_,_,_,_,s2'⟩
    exact ak.of (s2' _ _ hqs)
   ·rintro j y σ J2 hy ⟨v8,v10,v11,v12,L,vs,E,m,rfl,g,hm2,s2'⟩
    have hy2:y∈xp:=by
     have:=List.mem_of_getElem? hy
     rw [iR (by decide)] at this
     exact List.mem_of_mem_take this
    have hj:j<1:=by
     have:=(List.getElem?_eq_some_iff.mp hy).1
     rw [iR (by decide),List.length_take] at this
     exact Nat.lt_of_lt_of_le this (Nat.min_le_left ..)
    obtain ⟨ra,xr,s,rfl,_,_,ur⟩:=hrow y hy2
    have gt:=g.at'
    refine cq fun D8 n8=>zn (C:=fun _ J=>dM H J) (aD.tup (av.con st0 (aD.ev (aD.catm st0 (aD.tup (av.one st0 (Ev.lst (av.one st0 (Ev.ixv rfl es0 (fun E J c=>(uN' E J c).1) fun E J c=>Tn.str (k:=0) hs0)) (by decide))) (by decide)) (aD.sl (aD.var rfl ur) Po.at Po.no) (by decide)) (by decide))
     (av.one st0 (aD.ev (aD.catm st0 (aD.tup (av.one st0 (Ev.non (k:=0))) (by decide)) (aD.sl (aD.var rfl ur) Po.at Po.no) (by decide)) (by decide)))) (by decide)) (tu g.sm) g.al fun o xo H8 s8 ho lo to=>n8 _ _ ?_
    have g8:=g.same s8
    have to:=to.up (n':=100) (k':=8) (by decide) (by decide)
    have stC:jl (fun E J=>dM H J∧(J o=some (.tup xo)∧xo.length≤2∧bM E J xo 100 8)):=fun E H1 H2 s c=>⟨st0 E H1 H2 s c.1,s _ _ c.2.1,c.2.2.1,c.2.2.2.sE s.toE⟩
    have cpC:Dq (fun E J=>dM H J∧(J o=some (.tup xo)∧xo.length≤2∧bM E J xo 100 8)):=fun E H1 D hD c=>⟨c.1,c.2.1,c.2.2.1,c.2.2.2.plus hD⟩
    have stC2:∀x,jl (fun E J=>(dM H J∧(J o=some (.tup xo)∧xo.length≤2∧bM E J xo 100 8))∧Pn 100 8 E J x):=fun x E H1 H2 s c=>⟨stC E H1 H2 s c.1,Pn.sm _ _ _ _ s c.2⟩
    refine pc (C:=fun E J=>dM H J∧(J o=some (.tup xo)∧xo.length≤2∧bM E J xo 100 8)) rfl stC cpC (P:=Pn 100 8) Pn.sm Pn.pl (Dy rfl fun J c=>⟨c.2.1,c.2.2.1,fun v hv=>c.2.2.2.mem hv⟩)
     (fun x=>aD.ev (aD.catm (stC2 x) (aD.catm (stC2 x) (aD.sl (aD.tup (av.con (stC2 x) (Ev.var rfl fun E J c=>uNr E J c.1.1) (av.con (stC2 x) (Ev.var rfl fun E J c=>uH E J c.1.1) (av.emp4 (stC2 x)))) (by decide)) Po.no (Po.var rfl)) (aD.tup (av.one (stC2 x) (Ev.tup (av.con (stC2 x) (Ev.var rfl fun E J c=>c.2) (av.one (stC2 x) (Ev.var rfl fun E J c=>c.2))) (by decide))) (by decide)) (by decide)) (aD.sl (aD.var rfl fun E J c=>uA' E J c.1.1) (Po.var1 rfl) Po.no) (by decide)) (by decide))
     ⟨tu g8.sm,ho,lo,to⟩ g8 (by decide) (by decide) (by trivial) fun L9 v9 H9 E9 g9 s9=>?_
    exact ⟨_,_,_,_,L9,v9,E9,m+2,rfl,g9,by trivial,(s2'.trans s8).trans s9⟩
   ·rintro σ J2 ⟨v8,v10,v11,v12,L,vs,E,m,rfl,g,hm2,s2'⟩
    have hl:(cS xp none (some 1)).length≤1:=by
     rw [iR (by decide),List.length_take]
     exact Nat.min_le_left ..
    exact ⟨_,_,_,_,_,_,_,_,(),g,by trivial,(sJ.trans ss).trans s2'⟩
  rintro σ J ⟨v8,v9,v10,v11,v12,L,vs,E,m,rfl,g,hm,_⟩
  refine n7 _ _ ?_
  refine cq fun D8 n8=>⟨(),t,rfl,⟨_,ak.of (g.sm _ _ ht)⟩,nz (xs:=xt) (fun i σ H'=>Gy fun (v8 v9 v10 v11 v12:Option V) (L:Addr) (vs:List V) (E:Addr→Prop) (m:Nat)=>σ=[some (.ref a),some (.ref p),some (.int (d.hr:Int)),some (.ref t),some (.ref st),some (.ref wl),some (.ref wi),some (.ref L),v8,v9,v10,v11,v12]∧gJ E0 H E H' L vs m∧m≤23+13*i) ⟨_,_,_,_,_,_,_,_,(),g,by simp at hm;trivial⟩ ?_ ?_ ?_⟩
  ·rintro i σ J _ ⟨_,_,_,_,_,_,_,_,_,_,g,_⟩
   exact ak.of (g.sm _ _ ht)
  ·rintro i x σ J hx ⟨v8,v9,v10,v11,v12,L,vs,E,m,rfl,g,hm⟩
   have hi:i<8:=by have:=(List.getElem?_eq_some_iff.mp hx).1;trivial
   obtain ⟨ra,xr,s,rfl,exr,hsr,ur⟩:=rT x (List.mem_of_getElem? hx)
   have urr:∀E J,dM H J→J ra=some (.tup xr):=fun E J c=>(ur E J c).1
   refine cq fun Da na=>zn (C:=fun _ J=>dM H J) (aD.catm st0 (aD.sl (aD.var rfl ur) Po.no Po.at) (aD.tup (av.con st0 (Ev.p12 (k:=0)) (av.one st0 (Ev.tup (av.con st0 (Ev.int (k:=0) (by decide)) (av.one st0 (Ev.p12m (k:=0)))) (by decide)))) (by decide)) (by decide)) (tu g.sm) g.al fun o xo Ha sa ho lo to=>na _ _ ?_
   have ga:=g.same sa
   have to:=to.up (n':=100) (k':=8) (by decide) (by decide)
   have lo:xo.length≤38:=by trivial
   have stC:jl (fun E J=>dM H J∧(J o=some (.tup xo)∧xo.length≤38∧bM E J xo 100 8)):=fun E H1 H2 s c=>⟨st0 E H1 H2 s c.1,s _ _ c.2.1,c.2.2.1,c.2.2.2.sE s.toE⟩
   refine cq fun Db nb=>uM (C:=fun E J=>dM H J∧(J o=some (.tup xo)∧xo.length≤38∧bM E J xo 100 8)) rfl (Ev.tup (av.con stC (Ev.var rfl fun E J c=>uNr E J c.1) (av.con stC (Ev.p12 (k:=0)) (av.con stC (Ev.tup (av.one stC (aD.ev (aD.var rfl fun E J c=>c.2) (by decide))) (by decide)) (av.emp3 stC)))) (by decide)) ⟨tu ga.sm,ho,lo,to⟩ ga (by decide) (by decide) (by trivial) fun vb Hb gb sb=>nb _ _ ?_
   refine cq fun Dc nc=>za (C:=fun _ J=>dM H J)
    (av.con st0 (Ev.tup (av.con st0 (Ev.int (k:=0) (by decide)) (av.one st0 (Ev.int (k:=0) (by decide)))) (by decide))
     (av.con st0 (Ev.tup (av.con st0 (Ev.int (k:=0) (by decide)) (av.one st0 (Ev.int (k:=0) (by decide)))) (by decide))
      (av.con st0 (Ev.tup (av.one st0 (Ev.var rfl uH)) (by decide))
       (av.con st0 (Ev.tup (av.one st0 (Ev.neg1 (k:=0))) (by decide))
        (av.con st0 (Ev.tup (av.one st0 (Ev.bl (k:=0) true)) (by decide))
         (av.con st0 (Ev.lst (av.one st0 (Ev.int (k:=0) (by decide))) (by decide))
          (av.con st0 (Ev.rng rfl hh8) (av.one st0 (Ev.tup (l:=0) (av.nil (k:=0)) (by decide))))))))))
    (tu gb.sm) gb.al (by decide) fun Lo zo Hc0 Hc sc lzo tzo mo=>nc _ _ ?_
   have gc:=(gb.same sc).same mo.sm
   have tzo':=(tzo.sE mo.sm.toE).up (n':=100) (k':=8) (by decide) (by decide)
   have stO:jl (fun E J=>dM H J∧(J Lo=some (.lst zo)∧bM E J zo 100 8)):=fun E H1 H2 s c=>⟨st0 E H1 H2 s c.1,s _ _ c.2.1,c.2.2.sE s.toE⟩
   have cpO:Dq (fun E J=>dM H J∧(J Lo=some (.lst zo)∧bM E J zo 100 8)):=fun E H1 D hD c=>⟨c.1,c.2.1,c.2.2.plus hD⟩
   have stO2:∀x,jl (fun E J=>(dM H J∧(J Lo=some (.lst zo)∧bM E J zo 100 8))∧Pn 100 8 E J x):=fun x E H1 H2 s c=>⟨stO E H1 H2 s c.1,Pn.sm _ _ _ _ s c.2⟩
   refine cq fun Dd nd=>pc (C:=fun E J=>dM H J∧(J Lo=some (.lst zo)∧bM E J zo 100 8)) (l:=8) rfl stO cpO (P:=Pn 100 8) Pn.sm Pn.pl (EH rfl fun J c=>⟨c.2.1,by trivial,fun v hv=>c.2.2.mem hv⟩)
    (fun x=>Ev.tup (av.con (stO2 x) (Ev.var rfl fun E J c=>uNr E J c.1.1) (av.con (stO2 x) (Ev.var rfl fun E J c=>uH E J c.1.1) (av.con (stO2 x) (Ev.tup (av.one (stO2 x) (aD.ev (aD.catm (stO2 x) (aD.sl (aD.var rfl fun E J c=>ur E J c.1.1) Po.no Po.at) (aD.tup (av.one (stO2 x) (Ev.var rfl fun E J c=>c.2)) (by decide)) (by decide)) (by decide))) (by decide)) (av.emp3 (stO2 x))))) (by decide))
    ⟨tu gc.sm,mo.at',tzo'⟩ gc (by decide) (by decide) (by trivial) fun Ld vd Hd Ed gd' sd=>nd _ _ ?_
   refine cq fun De ne=>uM (C:=fun _ J=>dM H J) rfl (Ev.tup (av.con st0 (Ev.var rfl uNr) (av.con st0 (Ev.var rfl uH) (av.con st0 (Ev.tup (av.one st0 (aD.ev (aD.catm st0 (aD.catm st0 (aD.sl (aD.var rfl ur) Po.no Po.at) (aD.tup (av.one st0 (Ev.neg1 (k:=0))) (by decide)) (by decide)) (aD.sl (aD.var rfl ur) Po.at Po.no) (by decide)) (by decide))) (by decide)) (av.emp3 st0)))) (by decide)) (tu gd'.sm) gd' (by decide) (by decide) (by trivial) fun ve He ge se=>ne _ _ ?_
   refine pc (C:=fun _ J=>dM H J) rfl st0 cp0 Pt.sm Pt.pl
    (A3 (lM.conT st0 (l2:=2) (n:=3) (k:=1) ((aD.tup (av.one st0 (Ev.lst (av.one st0 (Ev.ixv rfl exr urr fun E J c=>Tn.str (k:=0) hsr)) (by decide))) (by decide)).wide (by decide) (by decide) (by decide))
     (lM.conT st0 ((aD.tup (av.one st0 (Ev.tup (av.con st0 (Ev.str (k:=0) (j8 Dr)) (av.one st0 (Ev.int (k:=0) (by decide)))) (by decide))) (by decide)).wide (by decide) (by decide) (by decide))
      (lM.conT st0 ((aD.tup (av.one st0 (Ev.int (k:=0) (by decide))) (by decide)).wide (by decide) (by decide) (by decide)) lM.nil))) (by decide) Pt.sm)
    (fun x=>Ev.tup (av.con (stP Pt.sm x) (Ev.var rfl fun E J c=>uNr E J c.1) (av.con (stP Pt.sm x) (Ev.var rfl fun E J c=>uH E J c.1) (av.con (stP Pt.sm x) (Ev.tup (av.one (stP Pt.sm x) (aD.ev (aD.catm (stP Pt.sm x) (aD.ofP rfl fun E J c=>c.2) (aD.sl (aD.var rfl fun E J c=>ur E J c.1) Po.at Po.no) (by decide)) (by decide))) (by decide)) (av.emp3 (stP Pt.sm x))))) (by decide)) (tu ge.sm) ge (by decide) (by decide) (by trivial) fun Lf vf Hf Ef gf sf=>?_
   exact ⟨_,_,_,_,_,Lf,vf,Ef,(),gf,by trivial⟩
  rintro σ J ⟨v8,v9,v10,v11,v12,L,vs,E,m,rfl,g,hm⟩
  refine n8 _ _ ?_
  exact ⟨(),k L vs E J g.sm g.fr g.at' g.e0 g.el g.al (by have:=g.ln;trivial) g.th⟩
end
end K53
namespace K53
open PySem L2
set_option maxHeartbeats 16000000
section
variable {P:Program}{w:World}{K:PySem.W.Frag}{mg:Str→Option Value}{base:Heap}
theorem Ez (x:V):¬(!decide (x=x))=true:=by rw [decide_eq_true rfl];exact Bool.false_ne_true
theorem Cv (T:Txt K mg):bt P w K mg base CX0 8 T.l_bent_.f T.l_bent_.d ["_law_box_here", "_law_thing", "_law_deep"] (fun vs H Q E=>∃n,n≤5∧nJ n vs H Q E):=
 ⟨fun vs H Q E ⟨n,_,q⟩=>(#[(yW)] n).len vs H Q E q,fun A outer s H args us vs Q E hr he hb hv ⟨n,hn,q⟩=>((#[(yW)] n).mono (by trivial)).run A outer s H args us vs Q E hr he hb hv q⟩
inductive Gm (K:PySem.W.Frag) (vs:List V) (H:Hp) (Q:VK):Prop
 | mk (a:Addr) (ns:List Int) (h0:vs=[.ref a]) (h1:aE K H a (ns.map V.int)) (h2:ns.length≤63) (h3:∀H',Q (.bl true) H')
def spLaw (K:PySem.W.Frag):Sp:=fun vs H Q _=>Gm K vs H Q
theorem law_start {H:Hp}{a:Addr}{ns:List Int} (hl:ns.length≤63) (_:uE H) (hS:aE K H a (ns.map V.int)):spLaw K [.ref a] H (fun v _=>v=.bl true) fun _ _ _=>False:=
 ⟨a,ns,rfl,hS,hl,fun _=>rfl⟩
theorem law_ok (T:Txt K mg):bt P w K mg base CX0 40 T.law_.f T.law_.d ["_law_script"] (spLaw K):=by
 have G_l_boxes:=#[(Cw)]
 have G_l_take:=#[(gU)]
 have G_l_day:=#[(DF)]
 have G_l_bent:=#[(Cv)]
 have G_l_by_hand:=#[(Ah)]
 have G_is_day:=#[(A7)]
 have G_l_is_day:=#[(yA)]
 refine T.law_.F.ok kI (fun vs H Q E h=>?_) (fun cdv A outer s H vs Q E hr h=>?_)
 ·obtain ⟨a,ns,rfl,_⟩:=h
  rfl
 ·obtain ⟨a,ns,rfl,hS,hn,k⟩:=h
  refine ⟨_,#[#[d8 8 PassesOwn.never rfl (@BD _ (K) _ _ _ #[G_l_boxes,vQ,T.l_boxes_,#[[#[0,ue],#[()]]]] (by rfl)) #[1,kI.nd,dg] #[#[2,kI.nd,dZ,#[G_l_day,ye,T.l_day_,#[[#[1,dg]]]]] :: #[#[aN 8 #[PW.pt 3 #[bd 7 #[au 8 (@Ew _) #[G_is_day,pZ,T.is_day_,#[[#[2,dZ]]]] #[bj 4] #[(),()]] #[bK 4 #[aK 4 #[aF 3 #[G_l_is_day,nW,T.l_is_day_,#[[#[2,dZ]]]] (by intro _;rfl)]]]]] #[ac 3 #[ai 4 #[bj 4]]] (@ay _)] :: #[#[3,kI.nd,j6,#[G_l_by_hand,tm,T.l_by_hand_,#[[#[2,dZ]]]]] :: #[#[d8 8 PassesOwn.never rfl #[dU 6 yk T.b_range #[[#[()]]] (by rfl)] #[4,kI.nd,wI] #[#[iq 2 (5) (6) _ _ _ _ _ _ _ _ _ _ _ rfl kI.nd rfl rfl (by decide) pF c4 #[[#[bY 8 (@cY _) #[G_l_take,qM,T.l_take_,#[[#[1,dg],#[()]]]] #[()] #[(),()]],#[G_l_bent,qN,T.l_bent_,#[[#[1,dg],#[2,dZ],#[aj 8 (@bJ _) #[()] #[G_l_take,qM,T.l_take_,#[[#[1,dg],#[()]]]]]]]]]] (by kernel_rfl) (by rfl)] :: #[ac 3 #[fC 4 (@dX _ (K) _ _ _ _ _ _ _ _ _ _ _ PySem.F.plainAttrs_list PySem.F.slot_list_append PySem.F.type_list_append (@cU _) #[3,j6] #[[#[iH 8 #[aF 3 #[5,pF] (by intro _;rfl)] #[G_l_bent,qN,T.l_bent_,#[[#[1,dg],#[6,c4],#[()]]]] #[6,c4]]]] (by rfl) (by rfl) (by rfl) (by rfl) (by rfl) (by rfl)) (by rfl)]]] (by intro _;rfl)] :: #[ac 3 #[d8 8 PassesOwn.never rfl #[uI 4 #[3,j6]] #[6,kI.nd,c4] #[#[iq 2 (7) (8) _ _ _ _ _ _ _ _ _ _ _ rfl kI.nd rfl rfl (by decide) qR kQ #[[#[(),(),#[tw 2 hr],tV,T.b_repr,(@rO),#[[#[6,c4]]]],#[G_is_day,pZ,T.is_day_,#[[#[6,c4]]]]]] (by kernel_rfl) (by rfl)] :: #[ac 3 #[aN 8 #[PW.pt 3 #[bd 7 #[aK 4 #[aF 3 #[(),(),(@bv _ (K) (by rfl)),sh,T.b_isinstance,(@aq),#[[#[8,kQ],#[cb 4 Ag T.b_bool (@lU) (by decide) (by decide)]]]] (by intro _;rfl)]] #[bd 7 #[au 8 (@iz _) #[8,kQ] #[G_l_is_day,nW,T.l_is_day_,#[[#[6,c4]]]] #[(),()]] #[bK 4 #[au 8 (@iz _) #[(),(),#[tw 2 hr],tV,T.b_repr,(@rO),#[[#[6,c4]]]] #[7,qR] #[(),()]]]]]] #[ac 3 #[ai 4 #[bj 4]]] (@ay _)]]] (by intro _;rfl)]]]]]] (by intro _;rfl)] :: #[ac 3 #[ai 4 #[bj 4]]]],?_⟩
  refine ml fun D1 n1 r1D=>⟨(),a,ns,rfl,hS,hn,fun lb bs H3 s3 hlb lbs nbs hbs=>⟨lb,rfl,⟨_,aE.of hlb⟩,?_⟩⟩
  refine xQ (xs:=bs.map V.ref) (fun i σ H'=>yS fun (v1 v2 v3 v4 v5 v6 v7 v8:Option V)=>σ=[some (.ref a),v1,v2,v3,v4,v5,v6,v7,v8]∧H' lb=some (.lst (bs.map V.ref))∧∀(j:Nat) (b:Addr),i≤j→bs[j]?=some b→Bx H' b 0) ⟨_,_,_,_,_,_,_,(),hlb,fun j b _ e=>hbs b (List.mem_of_getElem? e)⟩ (fun i σ H' _ ⟨_,_,_,_,_,_,_,_,_,h,_⟩=>aE.of h) ?_ ?_
  case refine_2=>
   rintro σ H' ⟨v1,v2,v3,v4,v5,v6,v7,v8,rfl,_⟩
   exact n1 _ _ (k _)
  rintro i x σ H4 hx ⟨v1,v2,v3,v4,v5,v6,v7,v8,rfl,hlb2,hB⟩
  rw [List.getElem?_map] at hx
  obtain ⟨b,eb,rfl⟩:=Option.map_eq_some_iff.mp hx
  have Bb:=hB i b (Nat.le_refl _) eb
  have nlbb:lb≠b:=fun e=>by
   obtain ⟨c1,c2,q,_⟩:=Bb
   rw [←e,hlb2] at q
   injection q with q
   injection q with q
   cases bs with
   | nil=>cases q
   | cons z zs=>cases q
  refine mw (t:=jV _ _) fun DB nB=>?_
  have done:∀(v2 v3 v4 v5 v6 v7 v8:Option V) (H':Hp),ar (Eb b) H4 H'→DB.nx [some (.ref a),some (.ref b),v2,v3,v4,v5,v6,v7,v8] H':=fun v2 v3 v4 v5 v6 v7 v8 H' sE=>by
   refine nB _ _ ⟨_,_,_,_,_,_,_,(),sE.old _ _ nlbb hlb2,fun j b' hj e=>?_⟩
   have B':=hB j b' (by trivial) e
   refine B'.frm sE fun z=>?_
   have z':b'=b:=z
   rw [z'] at e
   obtain ⟨h1,e1⟩:=List.getElem?_eq_some_iff.mp e
   obtain ⟨h2,e2⟩:=List.getElem?_eq_some_iff.mp eb
   have:=AD nbs h1 h2 (e1.trans e2.symm)
   trivial
  clear hB n1 r1D
  refine cq fun D2 n2=>⟨(),b,0,rfl,Bb,by decide,by decide,fun dv d t5 H5 s5 hd gd hw0 hi0 hw1 B5 h5a h5b=>n2 _ _ ?_⟩
  have h0:d.pl≠[]:=fun e=>by
   cases hw:d.ws with
   | nil=>rw [hw] at hw1;exact absurd hw1 (by decide)
   | cons x r=>
    have:=(gd.ws x (by rw [hw];exact List.mem_cons_self ..)).b
    rw [e] at this
    cases this
  have wd:=Az gd
  obtain ⟨wm,hwm,wt⟩:=wd.wt (by decide)
  refine ml fun D3 n3 r3=>⟨(),dv,yN d,ED,wm,(),hd,wt,by trivial,by decide,fun H6 s6=>⟨_,(),rfl,(),?_⟩⟩
  rw [yP gd h0]
  refine gr (fun c=>absurd c (by decide)) fun c=>⟨(),dv,yN d,ED,wm,(),hd.mono s6.toE,wt,by trivial,by decide,wd.nar (by decide),fun H7 s7=>⟨(),?_⟩⟩
  rw [yP gd h0]
  refine ah (n3 _ _ ?_)
  have s57:=s6.trans s7
  have B7:=B5.same s57
  have hd7:=hd.mono s57.toE
  refine cq fun D4 n4=>⟨(),dv,d,Eb b,rfl,hd7,gd,h0,fun x e=>by rw [show x=b from e];exact B7.th,fun L vs E H8 s8 fL aL e0 eL al8 lv tv=>n4 _ _ ?_⟩
  have nLb:L≠b:=fun e=>B7.th (e▸fL)
  have B8:=B7.same s8
  have hd8:=hd7.mono s8.toE
  have s48:ar (Eb b) H4 H8:=s5.trans (s57.trans s8).toE
  have hL4:H4 L=none:=by
   cases q:H4 L with
   | none=>rfl
   | some o=>
    have:=s57 _ _ (s5.old _ _ nLb q)
    rw [fL] at this
    cases this
  let EL:Addr→Prop:=fun a=>Eb b a∨a=L
  have eE:∀a,EL a→E a:=fun a h=>h.elim (e0 a) fun e=>by rw [e];exact eL
  have wL:∀{J J':Hp},ar (Eb b) J J'→ar EL J J':=fun s=>⟨fun x o n e=>s.old x o (fun z=>n (.inl z)) e,s.tup⟩
  have wE:∀{J J':Hp},ar EL J J'→ar E J J':=fun s=>⟨fun x o n e=>s.old x o (fun z=>n (eE x z)) e,s.tup⟩
  have wB:∀{J J':Hp},ar (Eb b) J J'→ar E J J':=fun s=>wE (wL s)
  have dvE:Dx 2 E H8 dv 320 4:=⟨_,hd8.narrow fun _ _=>trivial,wd⟩
  refine cq fun D5 n5=>⟨(),by decide,by decide,gH (fun i σ H'=>E8 fun (v4 v5 v6 v7 v8:Option V) (zs:List V) (t':Int)=>σ=[some (.ref a),some (.ref b),some dv,some (.ref L),v4,v5,v6,v7,v8]∧H' L=some (.lst zs)∧(∀v∈zs,Tn E H' v 2900 20)∧zs.length≤400+i∧Bx H' b t'∧0≤t'∧t'≤1800+40*i∧ar EL H8 H') ⟨_,_,_,_,_,_,t5,rfl,aL,tv,by trivial,B8,by trivial,by trivial,ar.refl _⟩ ?_ ?_⟩
  ·rintro i σ G hi ⟨v4,v5,v6,v7,v8,zs,t8,rfl,hG,thG,lz,BG,t80,t81,sG⟩
   have alE:Al E G:=fun x e=>by
    by_cases c1:x=b
    ·rw [c1];exact BG.th
    ·by_cases c2:x=L
     ·rw [c2,hG];exact fun q=>nomatch q
     ·cases q:H8 x with
      | none=>exact absurd q (al8 x e)
      | some o=>rw [sG.old x o (fun z=>z.elim c1 c2) q];exact fun q=>nomatch q
   have dG:=dvE.sE (wE sG)
   refine mw (t:=jV _ _) fun DC nC=>?_
   refine cq fun D8 n8=>⟨(),b,3,t8,rfl,BG,by decide,by decide,by trivial,by trivial,fun w1 t9 G1 w10 w11 h9a h9b sG1 BG1=>⟨rfl,(),(),(),b,5,t9,rfl,BG1,by decide,by decide,by trivial,by trivial,fun w2 ta G2 w20 w21 haa hab sG2 BG2=>?_⟩⟩
   have sG2':ar (Eb b) G G2:=sG1.trans sG2
   have alG2:=(alE.sE sG1 BG1).sE sG2 BG2
   refine ⟨_,(),rfl,(1+w2).toNat,by trivial,b,dv,ta,E,2,320,4,by show [V.ref b,dv,.int (1+w2)]=_;rw [show ((1+w2).toNat:Int)=1+w2 by trivial],BG2,by trivial,by trivial,e0 b rfl,alG2,dG.sE (wB sG2'),by decide,by decide,by decide,by decide,fun y tb G3 s3 dy B3 hba' hbb'=>⟨_,(),n8 _ _ ?_⟩⟩
   have sG3:ar (Eb b) G G3:=sG2'.trans s3
   have alG3:=alG2.sE s3 B3
   have hL3:G3 L=some (.lst zs):=sG3.old _ _ nLb hG
   have app:∀(u:V) (G6:Hp) (t6':Int),ar (Eb b) G G6→Tn E G6 u 2900 20→Bx G6 b t6'→t8≤t6'→t6'≤t8+40→G6 L=some (.lst zs)∧∀H',Ch G6 L (zs++[u]) H'→DC.nx [some (.ref a),some (.ref b),some dv,some (.ref L),some (.int (0+(i:Int))),some (.bl (decide (V.int w1=V.int 0))),some y,v7,v8] H':=fun u G6 t6' s6 hu B6 ha hb=>by
    have hD6:=s6.old _ _ nLb hG
    refine ⟨hD6,fun G7 c7=>nC _ _ ⟨_,_,_,_,_,zs++[u],t6',rfl,c7.at',fun q hq=>?_,by rw [List.length_append];exact Nat.add_le_add_right lz 1,B6.ch c7 (Ne.symm nLb),by trivial,by trivial,?_⟩⟩
    ·have s67:ar EL G6 G7:=⟨fun x o n e=>c7.ol x o (fun z=>n (.inr z)) e,fun x us e=>c7.tup e hD6⟩
     rcases List.mem_append.mp hq with h | h
     ·exact ((thG q h).sE (wB s6)).sE (wE s67)
     ·rw [List.mem_singleton.mp h];exact hu.sE (wE s67)
    ·exact (sG.trans (wL s6)).trans ⟨fun x o n e=>c7.ol x o (fun z=>n (.inr z)) e,fun x us e=>c7.tup e hD6⟩
   have tnE:∀{z n k:Nat}{J:Hp}{u:V},Dx z E J u n k→z≤4→n≤2900→k≤20→Tn E J u 2900 20:=fun h hz hn hk=>by
    obtain ⟨q,q1,q2⟩:=h
    exact (Dk q1 q2 hz).up hn hk
   refine ⟨(),.inl ⟨rfl,_,aE.of hL3⟩,(),(),gr (fun c=>?_) fun c=>⟨(),L,zs,y,rfl,rfl,hL3,by trivial,(app _ _ tb sG3 (tnE dy (by decide) (by decide) (by decide)) B3 (by trivial) (by trivial)).2⟩⟩
   refine ⟨(),(),4,by decide,b,y,tb,E,3,700,6,rfl,B3,by trivial,by trivial,e0 b rfl,alG3,dy.up (by decide) (by decide),by decide,by decide,by decide,by decide,fun y2 tc G4 s4 dy2 B4 hca hcb=>?_⟩
   have ap:=app y2 G4 tc (sG3.trans s4) (tnE dy2 (by decide) (by decide) (by decide)) B4 (by trivial) (by trivial)
   exact ⟨L,zs,y2,rfl,rfl,ap.1,by trivial,ap.2⟩
  rintro σ G ⟨v4,v5,v6,v7,v8,zs,t8,rfl,hG,thG,lz,BG,t80,t81,sG⟩
  refine n5 _ _ ?_
  have s4G:ar (Eb b) H4 G:=⟨fun x o n e=>sG.old x o (fun z=>z.elim n fun z=>by rw [z,hL4] at e;cases e) (s48.old x o n e),fun x us e=>sG.tup _ _ (s48.tup _ _ e)⟩
  refine ⟨(),L,rfl,⟨_,aE.of hG⟩,xQ (xs:=zs) (fun i σ H'=>eV fun (v6 v7 v8:Option V)=>σ=[some (.ref a),some (.ref b),some dv,some (.ref L),v4,v5,v6,v7,v8]∧ad G H') ⟨_,_,(),ad.refl _⟩ (fun i σ H' _ ⟨_,_,_,_,s⟩=>aE.of (s _ _ hG)) ?_ ?_⟩
  case refine_2=>
   rintro σ H' ⟨v6,v7,v8,rfl,s⟩
   exact done _ _ _ _ _ _ _ _ (s4G.trans s.toE)
  rintro i v σ J hv ⟨v6,v7,v8,rfl,s⟩
  obtain ⟨x,hx0,wx,nx⟩:=thG v (List.mem_of_getElem? hv)
  have hx:=hx0.mono s.toE
  obtain ⟨wm2,hwm2,wt2⟩:=wx.wt (by decide)
  refine mw (t:=jV _ _) fun DC nC=>?_
  refine cq fun D6 n6=>⟨(),v,x,E,wm2,20,rfl,hx,wt2,by trivial,by trivial,(),v,x,E,wm2,20,rfl,hx,wt2,by trivial,by decide,fun H1 s1=>⟨_,(),n6 _ _ ?_⟩⟩
  refine ⟨(),_,_,_,(),(bh.bl (E:=ED) (iD x)).ty,pj (.bool (iD x)),(),ah ⟨(),(),v,x,E,wm2,20,rfl,hx.mono s1.toE,wt2,by trivial,by decide,nx,fun H2 s2=>⟨rfl,(),gr (fun c=>absurd c (Ez _)) fun c=>?_⟩⟩⟩
  have s12:=s1.trans s2
  refine ⟨(),v,x,E,wm2,20,rfl,hx.mono s12.toE,wt2,by trivial,by trivial,(),?_⟩
  generalize PyData.shown x=zz
  refine ⟨rfl,?_⟩
  rw [decide_eq_true rfl]
  exact ⟨(),ah (nC _ _ ⟨_,_,(),s.trans s12⟩)⟩
end
end K53
namespace K53
open PySem L2
set_option maxHeartbeats 0 in
theorem txt_of {K:PySem.W.Frag}{h:Heap}{mg:Str→Option Value} (y:obs K=due) (X:K.In h) (G:h.Ns mainGlobals mg):∃T:Txt K mg,∀(s:Shared) (u:Value),BindsTo s T.law_.d ⟨[u],[]⟩ [("_law_script",u)]:=by
 have e:∀i,(obs K).1.getD i none=due.1.getD i none:=fun i=>by rw [y]
 have b:∀i,(obs K).2.getD i true=due.2.getD i true:=fun i=>by rw [y]
 refine ⟨{
  b_abs:=PySem.W.mg_none_of X G (cB (b 0)),
  b_all:=PySem.W.mg_none_of X G (cB (b 1)),
  b_bool:=PySem.W.mg_none_of X G (cB (b 2)),
  b_divmod:=PySem.W.mg_none_of X G (cB (b 3)),
  b_enumerate:=PySem.W.mg_none_of X G (cB (b 4)),
  b_int:=PySem.W.mg_none_of X G (cB (b 5)),
  b_isinstance:=PySem.W.mg_none_of X G (cB (b 6)),
  b_len:=PySem.W.mg_none_of X G (cB (b 7)),
  b_list:=PySem.W.mg_none_of X G (cB (b 8)),
  b_max:=PySem.W.mg_none_of X G (cB (b 9)),
  b_min:=PySem.W.mg_none_of X G (cB (b 10)),
  b_range:=PySem.W.mg_none_of X G (cB (b 11)),
  b_repr:=PySem.W.mg_none_of X G (cB (b 12)),
  b_set:=PySem.W.mg_none_of X G (cB (b 13)),
  b_sorted:=PySem.W.mg_none_of X G (cB (b 14)),
  b_str:=PySem.W.mg_none_of X G (cB (b 15)),
  b_tuple:=PySem.W.mg_none_of X G (cB (b 16)),
  b_zip:=PySem.W.mg_none_of X G (cB (b 17)),
  is_number_:=⟨_,_,PySem.W.mg_of X G (bD (e 0)),aA (e 0),(aA (e 0)).binds (ps:=["thing"]) fun _ _ _ _ _ _=>gG (fun _=>rfl)⟩,
  common_divisor_:=⟨_,_,PySem.W.mg_of X G (bD (e 1)),aA (e 1),(aA (e 1)).binds (ps:=["n", "d"]) fun _ _ _ _ _ _=>gC (fun _ _=>rfl)⟩,
  is_fraction_:=⟨_,_,PySem.W.mg_of X G (bD (e 2)),aA (e 2),(aA (e 2)).binds (ps:=["thing"]) fun _ _ _ _ _ _=>gG (fun _=>rfl)⟩,
  is_from_nought_:=⟨_,_,PySem.W.mg_of X G (bD (e 3)),aA (e 3),(aA (e 3)).binds (ps:=["thing"]) fun _ _ _ _ _ _=>gG (fun _=>rfl)⟩,
  is_above_nought_:=⟨_,_,PySem.W.mg_of X G (bD (e 4)),aA (e 4),(aA (e 4)).binds (ps:=["thing"]) fun _ _ _ _ _ _=>gG (fun _=>rfl)⟩,
  compared_:=⟨_,_,PySem.W.mg_of X G (bD (e 5)),aA (e 5),(aA (e 5)).binds (ps:=["one", "other"]) fun _ _ _ _ _ _=>gC (fun _ _=>rfl)⟩,
  is_name_:=⟨_,_,PySem.W.mg_of X G (bD (e 6)),aA (e 6),(aA (e 6)).binds (ps:=["thing"]) fun _ _ _ _ _ _=>gG (fun _=>rfl)⟩,
  are_names_:=⟨_,_,PySem.W.mg_of X G (bD (e 7)),aA (e 7),(aA (e 7)).binds (ps:=["thing"]) fun _ _ _ _ _ _=>gG (fun _=>rfl)⟩,
  is_tie_:=⟨_,_,PySem.W.mg_of X G (bD (e 8)),aA (e 8),(aA (e 8)).binds (ps:=["places", "thing"]) fun _ _ _ _ _ _=>gC (fun _ _=>rfl)⟩,
  goes_within_:=⟨_,_,PySem.W.mg_of X G (bD (e 9)),aA (e 9),(aA (e 9)).binds (ps:=["thing", "most"]) fun _ _ _ _ _ _=>gC (fun _ _=>rfl)⟩,
  is_tuple_of_:=⟨_,_,PySem.W.mg_of X G (bD (e 10)),aA (e 10),(aA (e 10)).binds (ps:=["thing", "size"]) fun _ _ _ _ _ _=>gC (fun _ _=>rfl)⟩,
  is_hour_:=⟨_,_,PySem.W.mg_of X G (bD (e 11)),aA (e 11),(aA (e 11)).binds (ps:=["hours", "thing"]) fun _ _ _ _ _ _=>gC (fun _ _=>rfl)⟩,
  are_opens_:=⟨_,_,PySem.W.mg_of X G (bD (e 12)),aA (e 12),(aA (e 12)).binds (ps:=["hours", "thing"]) fun _ _ _ _ _ _=>gC (fun _ _=>rfl)⟩,
  is_day_tie_:=⟨_,_,PySem.W.mg_of X G (bD (e 13)),aA (e 13),(aA (e 13)).binds (ps:=["places", "hours", "thing"]) fun _ _ _ _ _ _=>j9 (fun _ _ _=>rfl)⟩,
  is_store_:=⟨_,_,PySem.W.mg_of X G (bD (e 14)),aA (e 14),(aA (e 14)).binds (ps:=["places", "thing"]) fun _ _ _ _ _ _=>gC (fun _ _=>rfl)⟩,
  is_day_well_:=⟨_,_,PySem.W.mg_of X G (bD (e 15)),aA (e 15),(aA (e 15)).binds (ps:=["places", "hours", "thing"]) fun _ _ _ _ _ _=>j9 (fun _ _ _=>rfl)⟩,
  is_day_wish_:=⟨_,_,PySem.W.mg_of X G (bD (e 16)),aA (e 16),(aA (e 16)).binds (ps:=["places", "hours", "thing"]) fun _ _ _ _ _ _=>j9 (fun _ _ _=>rfl)⟩,
  is_day_:=⟨_,_,PySem.W.mg_of X G (bD (e 17)),aA (e 17),(aA (e 17)).binds (ps:=["thing"]) fun _ _ _ _ _ _=>gG (fun _=>rfl)⟩,
  l_box_:=⟨_,_,PySem.W.mg_of X G (bD (e 18)),aA (e 18),(aA (e 18)).binds (ps:=["_law_script", "_law_k"]) fun _ _ _ _ _ _=>gC (fun _ _=>rfl)⟩,
  l_take_:=⟨_,_,PySem.W.mg_of X G (bD (e 19)),aA (e 19),(aA (e 19)).binds (ps:=["_law_box_here", "_law_many"]) fun _ _ _ _ _ _=>gC (fun _ _=>rfl)⟩,
  l_boxes_:=⟨_,_,PySem.W.mg_of X G (bD (e 20)),aA (e 20),(aA (e 20)).binds (ps:=["_law_script", "_law_cap"]) fun _ _ _ _ _ _=>gC (fun _ _=>rfl)⟩,
  l_fr_:=⟨_,_,PySem.W.mg_of X G (bD (e 21)),aA (e 21),(aA (e 21)).binds (ps:=["_law_top", "_law_bottom"]) fun _ _ _ _ _ _=>gC (fun _ _=>rfl)⟩,
  l_names_:=⟨_,_,PySem.W.mg_of X G (bD (e 22)),aA (e 22),(aA (e 22)).binds (ps:=["_law_box_here", "_law_many"]) fun _ _ _ _ _ _=>gC (fun _ _=>rfl)⟩,
  l_gain_:=⟨_,_,PySem.W.mg_of X G (bD (e 23)),aA (e 23),(aA (e 23)).binds (ps:=["_law_box_here"]) fun _ _ _ _ _ _=>gG (fun _=>rfl)⟩,
  l_much_:=⟨_,_,PySem.W.mg_of X G (bD (e 24)),aA (e 24),(aA (e 24)).binds (ps:=["_law_box_here"]) fun _ _ _ _ _ _=>gG (fun _=>rfl)⟩,
  l_cost_:=⟨_,_,PySem.W.mg_of X G (bD (e 25)),aA (e 25),(aA (e 25)).binds (ps:=["_law_box_here"]) fun _ _ _ _ _ _=>gG (fun _=>rfl)⟩,
  l_day_:=⟨_,_,PySem.W.mg_of X G (bD (e 26)),aA (e 26),(aA (e 26)).binds (ps:=["_law_box_here"]) fun _ _ _ _ _ _=>gG (fun _=>rfl)⟩,
  l_day_tie_:=⟨_,_,PySem.W.mg_of X G (bD (e 27)),aA (e 27),(aA (e 27)).binds (ps:=["_law_box_here", "_law_names_here", "_law_hours"]) fun _ _ _ _ _ _=>j9 (fun _ _ _=>rfl)⟩,
  l_odd_:=⟨_,_,PySem.W.mg_of X G (bD (e 28)),aA (e 28),(aA (e 28)).binds (ps:=["_law_box_here", "_law_thing"]) fun _ _ _ _ _ _=>gC (fun _ _=>rfl)⟩,
  l_bent_:=⟨_,_,PySem.W.mg_of X G (bD (e 29)),aA (e 29),(aA (e 29)).binds (ps:=["_law_box_here", "_law_thing", "_law_deep"]) fun _ _ _ _ _ _=>j9 (fun _ _ _=>rfl)⟩,
  l_number_:=⟨_,_,PySem.W.mg_of X G (bD (e 30)),aA (e 30),(aA (e 30)).binds (ps:=["_law_thing"]) fun _ _ _ _ _ _=>gG (fun _=>rfl)⟩,
  l_is_fr_:=⟨_,_,PySem.W.mg_of X G (bD (e 31)),aA (e 31),(aA (e 31)).binds (ps:=["_law_thing", "_law_low", "_law_top"]) fun _ _ _ _ _ _=>j9 (fun _ _ _=>rfl)⟩,
  l_is_name_:=⟨_,_,PySem.W.mg_of X G (bD (e 32)),aA (e 32),(aA (e 32)).binds (ps:=["_law_thing"]) fun _ _ _ _ _ _=>gG (fun _=>rfl)⟩,
  l_is_tie_:=⟨_,_,PySem.W.mg_of X G (bD (e 33)),aA (e 33),(aA (e 33)).binds (ps:=["_law_places", "_law_hours", "_law_thing"]) fun _ _ _ _ _ _=>j9 (fun _ _ _=>rfl)⟩,
  l_is_spot_:=⟨_,_,PySem.W.mg_of X G (bD (e 34)),aA (e 34),(aA (e 34)).binds (ps:=["_law_places", "_law_hours", "_law_thing", "_law_many"]) fun _ _ _ _ _ _=>zH (fun _ _ _ _=>rfl)⟩,
  l_are_stores_:=⟨_,_,PySem.W.mg_of X G (bD (e 35)),aA (e 35),(aA (e 35)).binds (ps:=["_law_places", "_law_things"]) fun _ _ _ _ _ _=>gC (fun _ _=>rfl)⟩,
  l_is_day_:=⟨_,_,PySem.W.mg_of X G (bD (e 36)),aA (e 36),(aA (e 36)).binds (ps:=["_law_thing"]) fun _ _ _ _ _ _=>gG (fun _=>rfl)⟩,
  l_by_hand_:=⟨_,_,PySem.W.mg_of X G (bD (e 37)),aA (e 37),(aA (e 37)).binds (ps:=["_law_day_here"]) fun _ _ _ _ _ _=>gG (fun _=>rfl)⟩,
  law_:=⟨_,_,PySem.W.mg_of X G (bD (e 38)),aA (e 38),(aA (e 38)).binds (ps:=["_law_script"]) fun _ _ _ _ _ _=>gG (fun _=>rfl)⟩ },fun s u=>?_⟩
 obtain ⟨_,_,_,_,_,_,_,_,_,z,_⟩:=(aA (e 38):xD K "law" "law" cR _ _).ex
 show BindsTo s (ic K (PySem.W.nsIn K mainGlobals "law")) _ _
 rw [z]
 exact .of_eq rfl
end K53
open PySem PySem.W PyProof.Rows
set_option maxRecDepth 100000 in
set_option maxHeartbeats 0 in
theorem PySem.Challenge.cw_gainroads_k53_days_or_not_holds : PySem.Challenge.rw_gainroads_k53_days_or_not.Holds := by
 w_on;o_law
 refine holds_openX (q:=K53.qv) (loose:=[]) (Xt:=L2.Xt) (XP:=XL K53.qv []) (Yf:=L2.Yf) (Ya:=fun _=>K53.due) (N:=2576) (L2.left_tree rfl rfl (fun _=>rfl) L2.left) (fun s e=>xl_of s (Bool.and_eq_true_iff.mp e).1) XL.keeps (by rfl) (by rfl) (by rfl) (fun s e=>recFacts_of (Bool.and_eq_true_iff.mp e).2) (by rfl) (by first | assumption | decide +kernel) (by nofun) ⟨rfl,rfl,rfl,rfl,rfl,by nofun⟩ ?hw ?hc
 case hw=>w_witness2
 refine L2.walk_ofY (obs:=K53.obs) (due:=K53.due) (l:=PySem.Challenge.rw_gainroads_k53_days_or_not) (n:=63) (k:=40) (x := "_law_script") (CX:=L2.CX0) (sp:=K53.spLaw) rfl (by decide) rfl ⟨rfl,by decide,by decide,rfl⟩ ?F ?S ?C
 case F=>
  intro K w mg fa h y KX G hmg
  obtain ⟨T,hb⟩:=K53.txt_of y KX G
  have e0:=hmg.symm.trans T.law_.m
  cases e0
  exact ⟨T.law_.d,hb,fun base kb nb=>K53.law_ok T⟩
 case S=>exact fun K H a ns hl hO hS=>K53.law_start hl hO hS
 case C=>exact fun _ _ _ _ z=>z
