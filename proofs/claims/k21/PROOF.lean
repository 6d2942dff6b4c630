import PyProof.Rows.All
import Wide.All
import OpenK.AllK
import Wide.FinOn
import Lean
import PyProof.EqAt
import PyProof.EqKinds
import PyProof.TupleCall
import PyProof.CompFree
import PyProof.CompMap
import KE.LcSums
import PyProof.ZipIter
import PyProof.Draws
import KE.KRevSl
import KE.KListMore
import PyProof.Rows.StrJoin2
import PyProof.Rows.StrFin3
import PyProof.StrOps2
import PyProof.NeData
import PyProof.P3Eq
import PyProof.StrLawsRepr
import PyProof.ReprLen
import PyProof.Rows.IntBool
import PyProof.SliceStr2
import PyProof.P3In
import PyProof.Rows.StrLen
import KE.KStrOpen
import PyProof.FitsInt
import PyProof.Rows.ReprOcc
import PyProof.ListRange
import PyProof.AttrMissHeap
import PyProof.FactsAll.zip
import PyProof.FactsAll.tuple_3
import KE.KDictOf
import PyProof.SeqRoads2
import PyProof.DictCompW
import PyProof.Rows.StrInSeq3
import OpenK.KOwn
import KE.KIsAll
import KE.KTryMore
import PyProof.StationsW
import PyProof.RulesAs
import PyProof.NsDelKeeps
import KE.KDictSum
import KE.KIntText
import PyProof.StrCalls2
import PyProof.Rows.StrItems
import PyProof.DictUpdate
import PyProof.Rows.StrSplitCount
import PyProof.Rows.StrFirst
import PyProof.Rows.StrLawsPart
import PyProof.Rows.StrDigitsNeg
import KE.IntTextLaws
import PyProof.Rows.FStr
import PyProof.SeqRoads
import PyProof.Rows.SeqMore
import KE.KEqDict
import PyProof.FactsAll.tuple_2
import PyProof.DictValues
import PyProof.FactsAll.dict_4
import PyProof.Rows.SortStr
import PyProof.CollectIter
import PyProof.FactsAll.set_1
import PyProof.FactsAll.set_2
import PyProof.FactsAll.bool_1
import PySem.Challenge.RW_gainroads_k21_known_betterings
set_option Elab.async false
set_option linter.all false
set_option maxRecDepth 100000
local macro_rules | `(tactic| nofun)=>`(tactic| decide +kernel)
local macro_rules | `(⟨$xs,*⟩)=>do
 let es:=xs.getElems
 unless es.any (fun e=>match e with | `(())=>true | _=>false) do Lean.Macro.throwUnsupported
 let mut o:=#[]
 for e in es do
  match e with
  | `(())=>o:=(o.push (←`(_))).push (←`(rfl))
  | _=>o:=o.push e
 `(⟨$o,*⟩)
set_option genSizeOf false
set_option genInjectivity false
namespace L2
inductive bI {α0 α1:Type} (p:α0→α1→Prop):Prop
 | mk (a0:α0) (a1:α1) (h:p a0 a1)
inductive kJ {α0 α1 α2:Type} (p:α0→α1→α2→Prop):Prop
 | mk (a0:α0) (a1:α1) (a2:α2) (h:p a0 a1 a2)
inductive xX {α0 α1 α2 α3:Type} (p:α0→α1→α2→α3→Prop):Prop
 | mk (a0:α0) (a1:α1) (a2:α2) (a3:α3) (h:p a0 a1 a2 a3)
inductive Ih {α0 α1 α2 α3 α4:Type} (p:α0→α1→α2→α3→α4→Prop):Prop
 | mk (a0:α0) (a1:α1) (a2:α2) (a3:α3) (a4:α4) (h:p a0 a1 a2 a3 a4)
inductive MI {α0 α1 α2 α3 α4 α5 α6 α7:Type} (p:α0→α1→α2→α3→α4→α5→α6→α7→Prop):Prop
 | mk (a0:α0) (a1:α1) (a2:α2) (a3:α3) (a4:α4) (a5:α5) (a6:α6) (a7:α7) (h:p a0 a1 a2 a3 a4 a5 a6 a7)
inductive Lv {α0 α1 α2 α3 α4 α5 α6 α7 α8:Type} (p:α0→α1→α2→α3→α4→α5→α6→α7→α8→Prop):Prop
 | mk (a0:α0) (a1:α1) (a2:α2) (a3:α3) (a4:α4) (a5:α5) (a6:α6) (a7:α7) (a8:α8) (h:p a0 a1 a2 a3 a4 a5 a6 a7 a8)
inductive FS {α0 α1 α2 α3 α4 α5 α6 α7 α8 α9:Type} (p:α0→α1→α2→α3→α4→α5→α6→α7→α8→α9→Prop):Prop
 | mk (a0:α0) (a1:α1) (a2:α2) (a3:α3) (a4:α4) (a5:α5) (a6:α6) (a7:α7) (a8:α8) (a9:α9) (h:p a0 a1 a2 a3 a4 a5 a6 a7 a8 a9)
end L2
set_option genSizeOf true
set_option genInjectivity true
local macro_rules | `(tactic| trivial)=>`(tactic| first | lia | omega)
namespace L2
open PySem PySem.Spec PyProof.Rows
abbrev aY:=Sum Int Str
def kj:aY→Value→Bool
 | .inl k,v=>Value.isInt k v
 | .inr x,v=>Value.isStrOf x v
def Mu (w:World):aY→Int
 | .inl k=>hashInt k
 | .inr x=>hashStr w x
theorem dC:∀{k:aY}{v:Value},kj k v=true→(bI fun i t=>k=Sum.inl i∧v=Value.int i t)∨(bI fun x t=>k=Sum.inr x∧v=Value.str x t)
 | .inl i,v,h=>by
  obtain ⟨t,e⟩:=Value.isInt_shape (k:=i) (v:=v) h
  exact .inl ⟨i,t,rfl,e⟩
 | .inr x,v,h=>by
  obtain ⟨t,e⟩:=Value.isStrOf_shape (x:=x) (v:=v) h
  exact .inr ⟨x,t,rfl,e⟩
theorem zG (i:Int) (t:Tok):kj (.inl i) (.int i t)=true:=by simp [kj,Value.isInt]
theorem Fi (x:Str) (t:Tok):kj (.inr x) (.str x t)=true:=by simp [kj,Value.isStrOf]
theorem Jp (a b:Int):decide ((Sum.inl a:aY)=Sum.inl b)=(a==b):=by
 by_cases e:a=b
 ·subst e;simp
 ·have h:¬(Sum.inl a:aY)=Sum.inl b:=fun q=>e (Sum.inl.inj q)
  rw [decide_eq_false h]
  exact (beq_eq_false_iff_ne.mpr e).symm
theorem Iy (a b:Str):decide ((Sum.inr a:aY)=Sum.inr b)=decide (a=b):=by
 by_cases e:a=b
 ·subst e;simp
 ·have h:¬(Sum.inr a:aY)=Sum.inr b:=fun q=>e (Sum.inr.inj q)
  rw [decide_eq_false h,decide_eq_false e]
theorem IK (a:Int) (b:Str):decide ((Sum.inl a:aY)=Sum.inr b)=false:=decide_eq_false (fun q=>nomatch q)
theorem JG (a:Str) (b:Int):decide ((Sum.inr a:aY)=Sum.inl b)=false:=decide_eq_false (fun q=>nomatch q)
def cK (prog:Program) (w:World):PySem.KeyKind prog w aY where
 is:=kj
 hash:=Mu w
 inj:=fun v a b ha hb=>by
  rcases dC ha with ⟨i,t,rfl,rfl⟩ | ⟨x,t,rfl,rfl⟩
  ·rcases dC hb with ⟨j,u,rfl,e⟩ | ⟨y,u,rfl,e⟩
   ·injection e with e1 _;rw [e1]
   ·exact nomatch e
  ·rcases dC hb with ⟨j,u,rfl,e⟩ | ⟨y,u,rfl,e⟩
   ·exact nomatch e
   ·injection e with e1 _;rw [e1]
 byValue:=fun k v h=>by
  rcases dC h with ⟨i,t,rfl,rfl⟩ | ⟨x,t,rfl,rfl⟩ <;> rfl
 pyHash:=fun hv h=>by
  rcases dC hv with ⟨i,t,rfl,rfl⟩ | ⟨x,t,rfl,rfl⟩
  ·exact wpAny_pyHash_int h
  ·exact wpAny_pyHash_str h
 eqBool:=fun hu hv h=>by
  rcases dC hu with ⟨i,t,rfl,rfl⟩ | ⟨x,t,rfl,rfl⟩
  ·rcases dC hv with ⟨j,u,rfl,rfl⟩ | ⟨y,u,rfl,rfl⟩
   ·rw [Jp] at h;exact wpAny_eqBool_int h
   ·rw [IK] at h;exact SeqAt.EqAt.int_str i t y u _ _ _ _ h
  ·rcases dC hv with ⟨j,u,rfl,rfl⟩ | ⟨y,u,rfl,rfl⟩
   ·rw [JG] at h;exact SeqAt.EqAt.str_int x t j u _ _ _ _ h
   ·rw [Iy] at h;exact wpAny_eqBool_str h
 «strs»:=fun k x t v h=>by
  rcases dC h with ⟨i,u,rfl,e⟩ | ⟨y,u,rfl,e⟩
  ·exact nomatch e
  ·injection e with e1 _
   subst e1
   cases v <;> rfl
inductive V where
 | non | bl (b:Bool) | int (i:Int) | str (x:Str) | byt (b:Array UInt8) | flt (b:UInt64) | ref (a:Addr) | ty (n:String)
 deriving DecidableEq
def be:V→Value→Prop
 | .non,u=>u=Value.none
 | .bl b,u=>u=Value.bool b
 | .int i,u=>∃t,u=Value.int i t
 | .str x,u=>∃t,u=Value.str x t
 | .byt b,u=>∃t,u=Value.bytes b t
 | .flt b,u=>∃t,u=Value.float b t
 | .ref a,u=>u=Value.ref a
 | .ty n,u=>u=Value.type n
abbrev aL:List V→List Value→Prop:=Paired be
theorem aL.length {xs:List V}{us:List Value} (r:aL xs us):xs.length=us.length:=Paired.length r
theorem aL.get:∀{xs:List V}{us:List Value}{i:Nat}{x:V},aL xs us→xs[i]?=some x→∃u,us[i]?=some u∧be x u
 | _,_,_,_,.nil,e=>by simp at e
 | _,_,0,_,.cons r _,e=>by simp at e;subst e;exact ⟨_,rfl,r⟩
 | _,_,i+1,x,.cons _ t,e=>by
  obtain ⟨u,h1,h2⟩:=aL.get (i:=i) (x:=x) t (by simpa using e)
  exact ⟨u,by simpa using h1,h2⟩
theorem aL.set {x:V}{u:Value} (r:be x u):∀{xs:List V}{us:List Value} (i:Nat),aL xs us→aL (xs.set i x) (us.set i u)
 | _,_,_,.nil=>.nil
 | _,_,0,.cons _ t=>.cons r t
 | _,_,i+1,.cons q t=>.cons q (aL.set r i t)
theorem aL.append:∀{xs ys:List V}{us ws:List Value},aL xs us→aL ys ws→aL (xs++ys) (us++ws)
 | _,_,_,_,.nil,s=>s
 | _,_,_,_,.cons r t,s=>.cons r (aL.append t s)
theorem aL.take:∀{xs:List V}{us:List Value} (n:Nat),aL xs us→aL (xs.take n) (us.take n)
 | _,_,0,_=>.nil
 | _,_,_+1,.nil=>.nil
 | _,_,n+1,.cons r t=>.cons r (aL.take n t)
theorem aL.drop:∀{xs:List V}{us:List Value} (n:Nat),aL xs us→aL (xs.drop n) (us.drop n)
 | _,_,0,r=>r
 | _,_,_+1,.nil=>.nil
 | _,_,n+1,.cons _ t=>aL.drop n t
def uS:Option V→Option Value→Prop
 | some v,some u=>be v u
 | none,none=>True
 | _,_=>False
def KV {κ:Type}:List (κ×V)→List (κ×Value)→Prop:=Paired fun (p:κ×V) (q:κ×Value)=>p.1=q.1∧be p.2 q.2
def kV:aY→V
 | .inl i=>.int i
 | .inr x=>.str x
inductive HO where
 | lst (xs:List V)
 | tup (xs:List V)
 | dK (kvs:List (aY×V)) | dT (kvs:List (List aY×V))
 | set (S:Int→Bool) (n:Nat)
 | ins (C dx:Addr) (fs:List (Str×V))
 | own (x:Addr)
 | xd (fs:List (Str×V))
 | met (f x:Addr)
 | rng (lo hi:Int)
 | frz (o:Obj) (u:HO)
 | tbl (ps:Array Value)
 | ext (φ:Heap→Prop)
abbrev Hp:=Addr→Option HO
def aP (H:Hp) (a:Addr) (o:HO):Hp:=fun b=>if b=a then some o else H b
theorem aA {H:Hp}{a:Addr}{o:HO}:aP H a o a=some o:=by unfold aP;rw [if_pos rfl]
theorem aE {H:Hp}{a b:Addr}{o:HO} (h:b≠a):aP H a o b=H b:=by unfold aP;rw [if_neg h]
theorem Dm {H:Hp}{a b:Addr}{o u:HO} (h:H a=some o) (h':H b=some u) (d:o≠u):a≠b:=by
 intro e;subst e;rw [h] at h';exact d (Option.some.inj h')
theorem bf {H:Hp}{a b:Addr}{o:HO} (h:H a=some o) (h':H b=none):a≠b:=by
 intro e;subst e;rw [h] at h';cases h'
section
variable (P:Program) (w:World)
def bK (H:Hp) (h:Heap) (a:Addr):HO→Prop
 | .lst xs=>xs.length≤sizeLine∧bI fun (its:List Value) (n:Nat)=>aL xs its∧h.get? a=some { cls:=.type "list",data:=.seq its.toArray n }
 | .tup xs=>xs.length≤sizeLine∧∃its:List Value,aL xs its∧IsTup h a its.toArray∧∃o,h.get? a=some o∧o.dict=none
 | .dK kvs=>kvs.length≤sizeLine∧(a==sysModules)=false∧∃vs,KV kvs vs∧h.DictOf (cK P w) a vs
 | .dT kvs=>kvs.length≤sizeLine∧(a==sysModules)=false∧∃xs:List (List aY×Addr×Value),
  Paired (fun (p:List aY×V) (q:List aY×Addr×Value)=>p.1=q.1∧H q.2.1=some (.tup (p.1.map kV))∧be p.2 q.2.2) kvs xs∧
  kJ fun o es ep=>h.get? a=some o∧o.ExactDict∧o.data=.dict es ep∧es.toList=xs.map (entryOfKey (tupleKind (cK P w)))∧(xs.map (·.1)).Nodup
 | .set S n=>h.SetOf (intKind P w) a S n
 | .ins C dx fs=>H dx=some (.own a)∧fs.length≤1000∧dx≠a∧h.get? a=some (PySem.W.instObj C dx)∧
  ∃mA,h.Ns1 dx mA∧(∀f,uS (fs.lookup f) (mA f))∧PySem.Within mA (fs.map (·.1))
 | .own _=>∃o,h.get? a=some o
 | .xd fs=>∃mA,h.Ns1 a mA∧∀f,uS (fs.lookup f) (mA f)
 | .rng lo hi=>kJ fun t u v=>h.get? a=some { cls:=.type "range",data:=.fields #[.int lo t,.int hi u,.int 1 v] }
 | .frz o u=>h.get? a=some o∧bK H h a u
 | .tbl ps=>h.get? a=some { cls:=.none,data:=.fields ps }
 | .met f x=>h.get? a=some (PySem.W.methodObj (.ref f) (.ref x))
 | .ext φ=>φ h∧(∃o,h.get? a=some o)∧∀h1 h2:Heap,φ h1→(∀o,h1.get? a=some o→h2.get? a=some o)→φ h2
def gh (H:Hp) (h:Heap):Prop:=∀a o,H a=some o→bK P w H h a o
end
section
variable {P:Program}{w:World}{H H':Hp}{h h':Heap}{a:Addr}{o:HO}
theorem bK.lt (x:bK P w H h a o):a<h.objs.size:=by
 cases o with
 | lst xs=>obtain ⟨_,_,_,_,e⟩:=x;exact Heap.lt_size e
 | tup xs=>obtain ⟨_,_,_,p,_⟩:=x;exact p.lt
 | dK kvs=>obtain ⟨_,_,_,_,o,_,_,e,_⟩:=x;exact Heap.lt_size e
 | dT kvs=>obtain ⟨_,_,_,_,o,_,_,e,_⟩:=x;exact Heap.lt_size e
 | set S n=>obtain ⟨o,_,_,_,e,_⟩:=x;exact Heap.lt_size e
 | ins C dx fs=>obtain ⟨_,_,_,e,_⟩:=x;exact Heap.lt_size e
 | own y=>obtain ⟨_,e⟩:=x;exact Heap.lt_size e
 | xd fs=>obtain ⟨_,⟨_,_,_,e,_⟩,_⟩:=x;exact Heap.lt_size e
 | rng lo hi=>obtain ⟨_,_,_,e⟩:=x;exact Heap.lt_size e
 | frz ob u=>obtain ⟨e,_⟩:=x;exact Heap.lt_size e
 | tbl ps=>exact Heap.lt_size (show h.get? a=some _ from x)
 | met f y=>exact Heap.lt_size (show h.get? a=some _ from x)
 | ext φ=>obtain ⟨_,⟨_,e⟩,_⟩:=x;exact Heap.lt_size e
theorem Paired.mapP {α β:Type}{F G:α→β→Prop}:∀{l₁:List α}{l₂:List β},Paired F l₁ l₂→(∀a b,F a b→G a b)→Paired G l₁ l₂
 | _,_,.nil,_=>.nil
 | _,_,.cons r t,f=>.cons (f _ _ r) (Paired.mapP t f)
theorem bK.stay (x:bK P w H h a o) (k:∀b u,(b=a∨H b=some (.own a))→h.get? b=some u→h'.get? b=some u)
 (ho:∀b,H b=some (.own a)→H' b=some (.own a)) (ht:∀b xs,H b=some (.tup xs)→H' b=some (.tup xs)):bK P w H' h' a o:=by
 induction o with
 | lst xs=>obtain ⟨z,its,n,r,e⟩:=x;exact ⟨z,its,n,r,k _ _ (.inl rfl) e⟩
 | tup xs=>obtain ⟨z,its,r,⟨ob,e,c⟩,od,e',c'⟩:=x;exact ⟨z,its,r,⟨ob,k _ _ (.inl rfl) e,c⟩,od,k _ _ (.inl rfl) e',c'⟩
 | dK kvs=>obtain ⟨z,y,vs,r,ob,es,ep,e,c⟩:=x;exact ⟨z,y,vs,r,ob,es,ep,k _ _ (.inl rfl) e,c⟩
 | dT kvs=>
  obtain ⟨z,y,xs,r,ob,es,ep,e,c⟩:=x
  exact ⟨z,y,xs,Paired.mapP r fun p q z=>⟨z.1,ht _ _ z.2.1,z.2.2⟩,ob,es,ep,k _ _ (.inl rfl) e,c⟩
 | set S n=>obtain ⟨ob,es,ep,t,e,c⟩:=x;exact ⟨ob,es,ep,t,k _ _ (.inl rfl) e,c⟩
 | ins C dx fs=>
  obtain ⟨d,z,ne,e,mA,⟨od,es,ep,e2,c⟩,r⟩:=x
  exact ⟨ho _ d,z,ne,k _ _ (.inl rfl) e,mA,⟨od,es,ep,k _ _ (.inr d) e2,c⟩,r⟩
 | own y=>obtain ⟨ob,e⟩:=x;exact ⟨ob,k _ _ (.inl rfl) e⟩
 | xd fs=>obtain ⟨mA,⟨od,es,ep,e,c⟩,r⟩:=x;exact ⟨mA,⟨od,es,ep,k _ _ (.inl rfl) e,c⟩,r⟩
 | rng lo hi=>obtain ⟨t,u,v,e⟩:=x;exact ⟨t,u,v,k _ _ (.inl rfl) e⟩
 | frz ob u ih=>obtain ⟨e,q⟩:=x;exact ⟨k _ _ (.inl rfl) e,ih q⟩
 | tbl ps=>
  have e:h.get? a=some { cls:=.none,data:=.fields ps }:=x
  show h'.get? a=some { cls:=.none,data:=.fields ps }
  exact k a _ (.inl rfl) e
 | met f y=>
  have e:h.get? a=some (PySem.W.methodObj (.ref f) (.ref y)):=x
  show h'.get? a=some (PySem.W.methodObj (.ref f) (.ref y))
  exact k a _ (.inl rfl) e
 | ext φ=>obtain ⟨p,⟨o,e⟩,st⟩:=x;exact ⟨st _ _ p fun o q=>k _ _ (.inl rfl) q,⟨o,k _ _ (.inl rfl) e⟩,st⟩
theorem gh.lt (x:gh P w H h) (e:H a=some o):a<h.objs.size:=(x a o e).lt
theorem gh.fresh (x:gh P w H h) (e:h.objs.size≤a):H a=none:=by
 cases q:H a with
 | none=>rfl
 | some u=>exact absurd (Nat.lt_of_lt_of_le (x.lt q) e) (Nat.lt_irrefl _)
theorem gh.kept (x:gh P w H h) (k:∀b u,h.get? b=some u→h'.get? b=some u):gh P w H h':=fun a o e=>
 (x a o e).stay (fun b u _ q=>k b u q) (fun _ q=>q) fun _ _ q=>q
theorem gh.laid (x:gh P w H h) (k:∀b u,h.get? b=some u→h'.get? b=some u) (hp:h.objs.size≤a) (new:bK P w (aP H a o) h' a o):gh P w (aP H a o) h':=fun b u e=>by
 have hn:=x.fresh hp
 by_cases hb:b=a
 ·subst hb;rw [aA] at e;cases e;exact new
 ·rw [aE hb] at e
  exact (x b u e).stay (fun c v _ q=>k c v q) (fun c q=>by rw [aE (bf q hn)];exact q) fun c xs q=>by rw [aE (bf q hn)];exact q
end
def Rd (H:Hp) (a:Addr) (u:HO):Prop:=H a=some u∨∃o,H a=some (.frz o u)
theorem Rd.ok {P:Program}{w:World}{H:Hp}{h:Heap}{a:Addr}{u:HO} (r:Rd H a u) (x:gh P w H h):bK P w H h a u:=by
 rcases r with r | ⟨o,r⟩
 ·exact x a u r
 ·obtain ⟨_,q⟩:=x a _ r
  exact q
def Gw:Option HO→Prop
 | some (.lst _)=>True
 | some (.dK _)=>True
 | some (.dT _)=>True
 | some (.set _ _)=>True
 | some (.ins _ _ _)=>True
 | some (.ext _)=>True
 | _=>False
section
variable {P:Program}{w:World}{H:Hp}{h h':Heap}{x e:Addr}{o':HO}
theorem gh.write (ok:gh P w H h) (mu:Gw (H x)) (he:e=x∨H e=some (.own x)) (k:∀b u,b≠e→h.get? b=some u→h'.get? b=some u) (heo:∃u,h'.get? e=some u)
 (new:bK P w (aP H x o') h' x o'):gh P w (aP H x o') h':=fun b u q=>by
 have nown:∀c y,H c=some (.own y)→c≠x:=fun c y r z=>by subst z;rw [r] at mu;exact mu
 have ntup:∀c xs,H c=some (.tup xs)→c≠x:=fun c xs r z=>by subst z;rw [r] at mu;exact mu
 by_cases hb:b=x
 ·subst hb;rw [aA] at q;cases q;exact new
 ·rw [aE hb] at q
  by_cases hbe:b=e
  ·have q':H b=some (.own x):=by
    rcases he with z | z
    ·exact absurd (hbe.trans z) hb
    ·rw [hbe];exact z
   rw [q] at q';cases q'
   obtain ⟨v,hv⟩:=heo
   exact ⟨v,by rw [hbe];exact hv⟩
  ·refine (ok b u q).stay (fun c v hc r=>k c v ?_ r) (fun c r=>by rw [aE (nown c b r)];exact r) fun c xs r=>by rw [aE (ntup c xs r)];exact r
   rcases hc with rfl | hc
   ·exact hbe
   ·rintro rfl
    rcases he with z | z
    ·exact nown c b hc z
    ·rw [hc] at z;cases z;exact hb rfl
end
structure Un (fs ex:List Addr) (H H':Hp) (h h':Heap):Prop where
 keep:∀b o,h.get? b=some o→H b=none→b∉fs→b∉ex→h'.get? b=some o
 slot:∀b o,h.get? b=some o→H b=none→b∈fs→b∉ex→∃sl,h'.get? b=some { o with slots:=sl }
 free:∀b o,h.get? b=some o→H b=none→b∉ex→H' b=none
 there:∀b o,h.get? b=some o→b∉ex→∃o',h'.get? b=some o'
 tups:∀b xs,H b=some (.tup xs)→H' b=some (.tup xs)
 frzs:∀b o u,H b=some (.frz o u)→H' b=some (.frz o u)
 tbls:∀b ps,H b=some (.tbl ps)→∃more,H' b=some (.tbl (ps++more))
section
variable {fs fs' ex ex':List Addr}{H H1 H2:Hp}{h h1 h2 h':Heap}{a x e:Addr}{o:HO}
theorem Un.any (u:Un fs ex H H1 h h1) {b:Addr}{ob:Obj} (q:h.get? b=some ob) (n:H b=none) (hx:b∉ex):∃sl,h1.get? b=some { ob with slots:=sl }:=by
 by_cases hb:b∈fs
 ·exact u.slot b ob q n hb hx
 ·exact ⟨ob.slots,u.keep b ob q n hb hx⟩
theorem Un.kept (k:∀b u,h.get? b=some u→h'.get? b=some u):Un fs ex H H h h':=
 ⟨fun b ob q _ _ _=>k b ob q,fun b ob q _ _ _=>⟨ob.slots,k b ob q⟩,fun _ _ _ n _=>n,fun b ob q _=>⟨ob,k b ob q⟩,fun _ _ q=>q,fun _ _ _ q=>q,fun _ ps q=>⟨#[],by rw [q];simp⟩⟩
theorem Un.refl:Un fs ex H H h h:=Un.kept fun _ _ q=>q
theorem Un.laid (k:∀b u,h.get? b=some u→h'.get? b=some u) (hp:h.objs.size≤a) (hn:H a=none):Un fs ex H (aP H a o) h h' where
 keep:=fun b u q _ _ _=>k b u q
 slot:=fun b u q _ _ _=>⟨u.slots,k b u q⟩
 free:=fun b u q n _=>by rw [aE (Nat.ne_of_lt (Nat.lt_of_lt_of_le (Heap.lt_size q) hp))];exact n
 there:=fun b u q _=>⟨u,k b u q⟩
 tups:=fun b xs q=>by rw [aE (bf q hn)];exact q
 frzs:=fun b u xs q=>by rw [aE (bf q hn)];exact q
 tbls:=fun b ps q=>⟨#[],by rw [aE (bf q hn),q];simp⟩
theorem Un.write (mu:Gw (H x)) (he:e=x∨H e=some (.own x)) (k:∀b u,b≠e→h.get? b=some u→h'.get? b=some u) (heo:∃u,h'.get? e=some u):Un fs ex H (aP H x o) h h':=by
 have hx:∀b,H b=none→b≠x:=fun b n z=>by subst z;rw [n] at mu;exact mu
 have hb:∀b,H b=none→b≠e:=fun b n z=>by
  subst z
  rcases he with r | r
  ·exact hx b n r
  ·rw [n] at r;cases r
 have hm:∀b u,H b=some u→¬Gw (some u)→b≠x:=fun b u q nm z=>by subst z;rw [q] at mu;exact nm mu
 refine ⟨fun b u q n _ _=>k b u (hb b n) q,fun b u q n _ _=>⟨u.slots,k b u (hb b n) q⟩,fun b u q n _=>by rw [aE (hx b n)];exact n,fun b u q _=>?_,
  fun b xs q=>by rw [aE (hm b _ q fun z=>z)];exact q,fun b u xs q=>by rw [aE (hm b _ q fun z=>z)];exact q,fun b ps q=>⟨#[],by rw [aE (hm b _ q fun z=>z),q];simp⟩⟩
 by_cases hbe:b=e
 ·subst hbe;exact heo
 ·exact ⟨u,k b u hbe q⟩
end
def GG (h:Heap) (H:Hp):List Addr:=(List.range h.objs.size).filter fun a=>(H a).isSome
def uk (h:Heap) (H:Hp):Heap:=PySem.W.hideAll h (GG h H)
theorem Er (h:Heap) (H:Hp):(uk h H).objs.size=h.objs.size:=PySem.W.hideAll_size _ _
theorem FJ {h:Heap}{H:Hp}{b:Addr}{o:Obj} (e:h.get? b=some o) (n:H b=none):(uk h H).get? b=some o:=
 PySem.W.hideAll_get _ e fun hm=>by
  have q:(H b).isSome=true:=(List.mem_filter.mp hm).2
  rw [n] at q;simp at q
theorem Hf {h:Heap}{H:Hp}{b:Addr}{o:Obj} (e:(uk h H).get? b=some o):h.get? b=some o∧H b=none:=by
 have e':h.get? b=some o:=PySem.W.of_hideAll (GG h H) e
 refine ⟨e',?_⟩
 cases q:H b with
 | none=>rfl
 | some x=>
  have hm:b∈GG h H:=List.mem_filter.mpr ⟨List.mem_range.mpr (Heap.lt_size e'),by simp [q]⟩
  have z:(uk h H).get? b=none:=PySem.W.hideAll_none (GG h H) hm
  rw [z] at e;cases e
structure Mod (K:PySem.W.Frag) (mg:Str→Option Value) (base:Heap):Prop where
 kin:K.In base
 glob:base.Ns mainGlobals mg
 blt:∃mb,base.Ns builtinsNs mb∧∀x:Str,x≠"__name__"→mb x=bootBuiltins x
 nolimit:base.NoLimit
structure Cx where
 prog:Program
 w:World
 K:PySem.W.Frag
 mg:Str→Option Value
 base:Heap
 A:Around
 N:List Str
 s₀:Shared
 H₀:Hp
 env:Env
 outer:List Env
 stack:List Env
 ex:List Addr
 fn:Str→Bool
 calm:Bool
 pn:List (Addr×Obj)
 xe:Value→Shared→Prop
def qK (l:List Env):List Addr:=l.filterMap (·.frame)
abbrev Cx.fs (X:Cx):List Addr:=qK X.outer
def Ei (sc:Scope) (x:Str):Prop:=sc.names.lookup x=some .local∨sc.names.lookup x=some .cell∨sc.names.lookup x=some .free
def ER (sc:Scope) (x:Str):Prop:=sc.names.lookup x=some .local∨sc.names.lookup x=some .cell
def LX (env:Env) (h:Heap) (m:Str→Option Value) (x:Str) (u:Value):Prop:=
 (env.kindOf x=some .local∧m x=some u)∨((env.kindOf x=some .cell∨env.kindOf x=some .free)∧∃c,env.cells.lookup x=some c∧h.IsCell c (some u))
structure Cx.Ok (X:Cx):Prop where
 mod:Mod X.K X.mg X.base
 kind:X.env.scope.kind=.function
 glob:X.env.globals=mainGlobals
 blt:X.env.builtins=builtinsNs
 above:X.s₀.heap.objs.size≤X.env.locals
 inj:∀x y c,X.env.cells.lookup x=some c→X.env.cells.lookup y=some c→x=y
 has:∀x,(X.env.kindOf x=some .cell∨X.env.kindOf x=some .free)→∃c,X.env.cells.lookup x=some c
 cab:∀x c,X.fn x=true→X.env.cells.lookup x=some c→X.s₀.heap.objs.size≤c
 hd:X.calm=true→X.A.handled=none
 frames:X.A.frames=some X.stack
 stk:X.stack=X.outer∨(X.stack=X.env :: X.outer∧X.env.frame=some X.env.locals)
 exf:∀b∈X.ex,b≠X.env.locals∧∀x c,X.env.cells.lookup x=some c→c≠b
 bs:∀b o,X.base.get? b=some o→X.s₀.heap.get? b=some o∧X.H₀ b=none
 bsz:X.base.objs.size≤X.s₀.heap.objs.size
 noex:∀b o,X.base.get? b=some o→b∉X.ex
 exfs:∀b∈X.ex,b∉X.fs
 funs:X.s₀.heap.FunFrames X.base X.outer
 frf:∀b∈X.fs,X.H₀ b=none
structure ai (X:Cx) (pins:List (Addr×Obj)) (σ:List (Option V)) (H:Hp) (s:Shared):Prop where
 ok:X.Ok
 os:s.os=X.s₀.os
 bare:AllBare s.gens
 base:Un X.fs X.ex X.H₀ H X.s₀.heap s.heap
 loc:∃m,s.heap.Ns X.env.locals m∧∀(i:Nat) (x:Str) (v:V),X.N[i]?=some x→σ[i]?=some (some v)→Ei X.env.scope x→∃u,be v u∧LX X.env s.heap m x u
 cell:∀x c,X.env.cells.lookup x=some c→∃v,s.heap.IsCell c v
 free:H X.env.locals=none
 freeC:∀x c,X.env.cells.lookup x=some c→H c=none
 pin:∀p∈X.pn++pins,s.heap.get? p.1=some p.2∧H p.1=none∧p.1≠X.env.locals∧p.1∉X.fs∧∀v,p.2.data≠.cell v
 hok:gh X.prog X.w H s.heap
 len:σ.length=X.N.length
section
variable {X:Cx}{pins:List (Addr×Obj)}{σ:List (Option V)}{H H':Hp}{s:Shared}{h':Heap}
theorem Cx.Ok.nofr (ok:X.Ok) {b:Addr}{o:Obj} (e:X.base.get? b=some o):b∉X.fs:=fun hb=>by
 have:=(ok.funs.mem hb).1
 rw [e] at this;cases this
theorem ai.bs (I:ai X pins σ H s):∀b o,X.base.get? b=some o→s.heap.get? b=some o∧H b=none:=fun b o e=>
 ⟨I.base.keep b o (I.ok.bs b o e).1 (I.ok.bs b o e).2 (I.ok.nofr e) (I.ok.noex b o e),I.base.free b o (I.ok.bs b o e).1 (I.ok.bs b o e).2 (I.ok.noex b o e)⟩
theorem ai.bk (I:ai X pins σ H s):∀b o,X.base.get? b=some o→s.heap.get? b=some o:=fun b o e=>(I.bs b o e).1
theorem ai.mod (I:ai X pins σ H s):Mod X.K X.mg X.base:=I.ok.mod
theorem ai.kIn (I:ai X pins σ H s):X.K.In s.heap:=I.ok.mod.kin.keeps I.bk
theorem ai.lt (I:ai X pins σ H s):X.env.locals<s.heap.objs.size:=let ⟨_,hn,_⟩:=I.loc;hn.lt
theorem ai.sz (I:ai X pins σ H s):X.s₀.heap.objs.size≤s.heap.objs.size:=Nat.le_trans I.ok.above (Nat.le_of_lt I.lt)
theorem ai.nofs (I:ai X pins σ H s) {a:Addr} (h:s.heap.objs.size≤a):a∉X.fs:=fun hb=>by
 obtain ⟨_,o,ho,_⟩:=I.ok.funs.mem hb
 exact absurd (Nat.lt_of_lt_of_le (Heap.lt_size ho) (Nat.le_trans I.sz h)) (Nat.lt_irrefl _)
theorem ai.cne (I:ai X pins σ H s):∀x c,X.env.cells.lookup x=some c→c≠X.env.locals:=fun x c e z=>by
 obtain ⟨v,o,ho,hd⟩:=I.cell x c e
 obtain ⟨m,⟨o',es,ep,ho',hd',_⟩,_⟩:=I.loc
 rw [z,ho'] at ho;cases ho;rw [hd'] at hd;cases hd
theorem ai.funs (I:ai X pins σ H s):s.heap.FunFrames X.base X.outer:=by
 have all:∀(l:List Env),(∀b∈qK l,b∈X.fs)→X.s₀.heap.FunFrames X.base l→s.heap.FunFrames X.base l:=by
  intro l
  induction l with
  | nil=>intro _ _;trivial
  | cons env r ih=>
   intro hs hl
   obtain ⟨hk,⟨L,o,hf,hn,ho,hd⟩,hr⟩:=hl
   have hL:L∈X.fs:=hs L (by unfold qK;rw [List.filterMap_cons,hf];exact List.mem_cons_self)
   obtain ⟨sl,e⟩:=I.base.slot L o ho (I.ok.frf L hL) hL fun z=>I.ok.exfs L z hL
   exact ⟨hk,⟨L,_,hf,hn,e,hd⟩,ih (fun b hb=>hs b (by unfold qK;rw [List.filterMap_cons,hf];exact List.mem_cons_of_mem _ hb)) hr⟩
 exact all X.outer (fun _ hb=>hb) I.ok.funs
theorem ai.stack (I:ai X pins σ H s):s.heap.FunFrames X.base X.stack:=by
 rcases I.ok.stk with e | ⟨e,hf⟩
 ·rw [e];exact I.funs
 ·rw [e]
  obtain ⟨m,hn,_⟩:=I.loc
  refine .cons (by rw [I.ok.kind];decide) hf hn ?_ I.funs
  exact Heap.get?_none_of_le (Nat.le_trans I.ok.bsz I.ok.above)
theorem ai.stkSub (I:ai X pins σ H s):∀b∈qK X.stack,b∈X.env.locals :: X.fs:=fun b hb=>by
 rcases I.ok.stk with e | ⟨e,hf⟩
 ·rw [e] at hb;exact List.mem_cons_of_mem _ hb
 ·rw [e] at hb
  unfold qK at hb
  rw [List.filterMap_cons,hf] at hb
  exact hb
theorem ai.stkFree (I:ai X pins σ H s):∀b∈qK X.stack,H b=none:=fun b hb=>by
 rcases List.mem_cons.mp (I.stkSub b hb) with e | hb
 ·rw [e];exact I.free
 ·obtain ⟨_,o,ho,_⟩:=I.ok.funs.mem hb
  exact I.base.free b o ho (I.ok.frf b hb) fun z=>I.ok.exfs b z hb
theorem ai.step {g':Array GenState}{t':Nat}{d':Drawn}{ch:List Addr} (I:ai X pins σ H s)
 (hch:∀b∈ch,(b∈X.ex∨X.s₀.heap.objs.size≤b)∧b≠X.env.locals∧(∀x c,X.env.cells.lookup x=some c→c≠b)∧∀p∈X.pn++pins,p.1≠b)
 (keep:∀b o,b≠X.env.locals→b∉X.fs→b∉ch→s.heap.get? b=some o→H b=none→h'.get? b=some o)
 (slot:∀b o,b≠X.env.locals→b∈X.fs→b∉ch→s.heap.get? b=some o→H b=none→∃sl,h'.get? b=some { o with slots:=sl }) (free:∀b o,b∉ch→s.heap.get? b=some o→H b=none→H' b=none)
 (there:∀b o,b∉ch→s.heap.get? b=some o→∃o',h'.get? b=some o')
 (tups:∀b xs,H b=some (.tup xs)→H' b=some (.tup xs)) (frzs:∀b o u,H b=some (.frz o u)→H' b=some (.frz o u)) (tbls:∀b ps,H b=some (.tbl ps)→∃more,H' b=some (.tbl (ps++more)))
 (ns:∀m,s.heap.Ns X.env.locals m→h'.Ns X.env.locals m) (hok:gh X.prog X.w H' h') (hg:AllBare g') :
 ai X pins σ H' { s with heap:=h',gens:=g',drawn:=d',toks:=t' }:=by
 have neL:∀b o,X.s₀.heap.get? b=some o→b≠X.env.locals:=fun b o e=>Nat.ne_of_lt (Nat.lt_of_lt_of_le (Heap.lt_size e) I.ok.above)
 have neC:∀b o,X.s₀.heap.get? b=some o→b∉X.ex→b∉ch:=fun b o e hx hb=>by
  rcases (hch b hb).1 with z | z
  ·exact hx z
  ·exact absurd (Nat.lt_of_lt_of_le (Heap.lt_size e) z) (Nat.lt_irrefl _)
 have cellK:∀x c,X.env.cells.lookup x=some c→∀v,s.heap.IsCell c v→h'.IsCell c v:=fun x c e v ⟨o,ho,hd⟩=>by
  have nch:c∉ch:=fun z=>(hch c z).2.2.1 x c e rfl
  by_cases hc:c∈X.fs
  ·obtain ⟨sl,q⟩:=slot c o (I.cne x c e) hc nch ho (I.freeC x c e)
   exact ⟨_,q,hd⟩
  ·exact ⟨o,keep c o (I.cne x c e) hc nch ho (I.freeC x c e),hd⟩
 refine ⟨I.ok,I.os,hg,⟨fun b o e n hb hx=>?_,fun b o e n hb hx=>?_,fun b o e n hx=>?_,fun b o e hx=>?_,fun b xs e=>tups b xs (I.base.tups b xs e),fun b o xs e=>frzs b o xs (I.base.frzs b o xs e),fun b ps e=>?_⟩,?_,fun x c e=>?_,?_,fun x c e=>?_,fun p hp=>?_,hok,I.len⟩
 ·exact keep b o (neL b o e) hb (neC b o e hx) (I.base.keep b o e n hb hx) (I.base.free b o e n hx)
 ·obtain ⟨sl,e1⟩:=I.base.slot b o e n hb hx
  obtain ⟨sl',e2⟩:=slot b _ (neL b o e) hb (neC b o e hx) e1 (I.base.free b o e n hx)
  exact ⟨sl',e2⟩
 ·obtain ⟨o',e1⟩:=I.base.there b o e hx
  exact free b o' (neC b o e hx) e1 (I.base.free b o e n hx)
 ·obtain ⟨o',e1⟩:=I.base.there b o e hx
  exact there b o' (neC b o e hx) e1
 ·obtain ⟨m1,e1⟩:=I.base.tbls b ps e
  obtain ⟨m2,e2⟩:=tbls b _ e1
  exact ⟨m1++m2,by rw [e2,Array.append_assoc]⟩
 ·obtain ⟨m,hn,hl⟩:=I.loc
  refine ⟨m,ns m hn,fun i x v e1 e2 e3=>?_⟩
  obtain ⟨u,r,l⟩:=hl i x v e1 e2 e3
  refine ⟨u,r,?_⟩
  rcases l with l | ⟨k,c,e,z⟩
  ·exact .inl l
  ·exact .inr ⟨k,c,e,cellK x c e _ z⟩
 ·obtain ⟨v,z⟩:=I.cell x c e
  exact ⟨v,cellK x c e v z⟩
 ·obtain ⟨m,⟨o,_,_,ho,_⟩,_⟩:=I.loc
  exact free _ o (fun z=>(hch _ z).2.1 rfl) ho I.free
 ·obtain ⟨v,o,ho,hd⟩:=I.cell x c e
  exact free c o (fun z=>(hch c z).2.2.1 x c e rfl) ho (I.freeC x c e)
 ·obtain ⟨e,n,ne,nf,d⟩:=I.pin p hp
  have nch:p.1∉ch:=fun z=>(hch p.1 z).2.2.2 p hp rfl
  exact ⟨keep p.1 p.2 ne nf nch e n,free p.1 p.2 nch e n,ne,nf,d⟩
theorem ai.un {t':Nat} (I:ai X pins σ H s) (u:Un X.fs [] H H' s.heap h') (hok:gh X.prog X.w H' h'):ai X pins σ H' { s with heap:=h',toks:=t' }:=by
 obtain ⟨m,⟨o,es,ep,ho,r⟩,_⟩:=id I.loc
 obtain ⟨sl,hL⟩:=u.any ho I.free (by simp)
 exact I.step (g':=s.gens) (d':=s.drawn) (ch:=[]) (fun _ z=>nomatch z) (fun b o _ hb _ e n=>u.keep b o e n hb (by simp)) (fun b o _ hb _ e n=>u.slot b o e n hb (by simp)) (fun b o _ e n=>u.free b o e n (by simp)) (fun b o _ e=>u.there b o e (by simp)) u.tups u.frzs u.tbls (fun m' hm=>by
  obtain ⟨o',es',ep',ho',r'⟩:=hm
  rw [ho] at ho';cases ho'
  exact ⟨_,es',ep',hL,r'⟩) hok I.bare
theorem ai.call {g':Array GenState}{t':Nat}{d':Drawn}{ch:List Addr} (I:ai X pins σ H s) (u:Un (qK X.stack) ch H H' s.heap h') (hok:gh X.prog X.w H' h') (hg:AllBare g')
 (hch:∀b∈ch,(b∈X.ex∨X.s₀.heap.objs.size≤b)∧b≠X.env.locals∧(∀x c,X.env.cells.lookup x=some c→c≠b)∧∀p∈X.pn++pins,p.1≠b) :
 ai X pins σ H' { s with heap:=h',gens:=g',drawn:=d',toks:=t' }:=by
 obtain ⟨m,⟨o,es,ep,ho,r⟩,_⟩:=id I.loc
 obtain ⟨sl,hL⟩:=u.any ho I.free fun z=>(hch _ z).2.1 rfl
 exact I.step (ch:=ch) hch (fun b o hL hb hc e n=>u.keep b o e n (fun z=>(List.mem_cons.mp (I.stkSub b z)).elim hL hb) hc) (fun b o _ _ hc e n=>u.any e n hc) (fun b o hc e n=>u.free b o e n hc) (fun b o hc e=>u.there b o e hc) u.tups u.frzs u.tbls (fun m' hm=>by
  obtain ⟨o',es',ep',ho',r'⟩:=hm
  rw [ho] at ho';cases ho'
  exact ⟨_,es',ep',hL,r'⟩) hok hg
theorem ai.turned {t':Nat}{it:Addr} (I:ai X pins σ H s) (k:∀b o,b≠it→s.heap.get? b=some o→h'.get? b=some o) (hn:H it=none) (hL:it≠X.env.locals)
 (h1:it∈X.ex∨X.s₀.heap.objs.size≤it) (h2:∀x c,X.env.cells.lookup x=some c→c≠it) (h3:∀p∈X.pn++pins,p.1≠it):ai X pins σ H { s with heap:=h',toks:=t' }:=by
 have nit:∀b u,H b=some u→b≠it:=fun b u e z=>by rw [z,hn] at e;cases e
 refine I.step (g':=s.gens) (d':=s.drawn) (ch:=[it]) (fun b hb=>?_) (fun b o _ _ hc e _=>k b o (fun z=>hc (by simp [z])) e) (fun b o _ _ hc e _=>⟨o.slots,k b o (fun z=>hc (by simp [z])) e⟩) (fun _ _ _ _ n=>n)
  (fun b o hc e=>⟨o,k b o (fun z=>hc (by simp [z])) e⟩) (fun _ _ e=>e) (fun _ _ _ e=>e) (fun b ps e=>⟨#[],by rw [e];simp⟩) (fun m hm=>?_) (fun b u e=>?_) I.bare
 ·have e:b=it:=by simpa using hb
  subst e
  exact ⟨h1,hL,h2,h3⟩
 ·obtain ⟨o,es,ep,ho,r⟩:=hm
  exact ⟨o,es,ep,k _ o (Ne.symm hL) ho,r⟩
 ·refine (I.hok b u e).stay (fun c v hc q=>k c v ?_ q) (fun _ q=>q) fun _ _ q=>q
  rcases hc with z | z
  ·rw [z];exact nit b u e
  ·exact nit c _ z
theorem ai.tok (I:ai X pins σ H s) (t:Nat):ai X pins σ H { s with toks:=t }:=I.un (h':=s.heap) (t':=t) Un.refl I.hok
theorem ai.kept {t':Nat} (I:ai X pins σ H s) (k:∀b u,s.heap.get? b=some u→h'.get? b=some u):ai X pins σ H { s with heap:=h',toks:=t' }:=I.un (Un.kept k) (I.hok.kept k)
theorem ai.laid {a:Addr}{o:HO}{t':Nat} (I:ai X pins σ H s) (k:∀b u,s.heap.get? b=some u→h'.get? b=some u) (hp:s.heap.objs.size≤a) (new:bK X.prog X.w (aP H a o) h' a o) :
 ai X pins σ (aP H a o) { s with heap:=h',toks:=t' }:=I.un (Un.laid k hp (I.hok.fresh hp)) (I.hok.laid k hp new)
theorem ai.write {x e:Addr}{o:HO}{t':Nat} (I:ai X pins σ H s) (mu:Gw (H x)) (he:e=x∨H e=some (.own x)) (k:∀b u,b≠e→s.heap.get? b=some u→h'.get? b=some u) (heo:∃u,h'.get? e=some u)
 (new:bK X.prog X.w (aP H x o) h' x o):ai X pins σ (aP H x o) { s with heap:=h',toks:=t' }:=I.un (Un.write mu he k heo) (I.hok.write mu he k heo new)
theorem ai.weak {σ':List (Option V)} (I:ai X pins σ H s) (hl:σ'.length=σ.length) (w:∀(i:Nat) v,σ'[i]?=some (some v)→σ[i]?=some (some v)):ai X pins σ' H s:=
 ⟨I.ok,I.os,I.bare,I.base,let ⟨m,hn,hl'⟩:=I.loc;⟨m,hn,fun i x v e1 e2 e3=>hl' i x v e1 (w i v e2) e3⟩,I.cell,I.free,I.freeC,I.pin,I.hok,hl.trans I.len⟩
theorem ai.pins_of {pins':List (Addr×Obj)} (I:ai X pins σ H s) (h:∀p∈pins',s.heap.get? p.1=some p.2∧H p.1=none∧p.1≠X.env.locals∧p.1∉X.fs∧∀v,p.2.data≠.cell v):ai X pins' σ H s:=
 ⟨I.ok,I.os,I.bare,I.base,I.loc,I.cell,I.free,I.freeC,fun p hp=>(List.mem_append.mp hp).elim (fun z=>I.pin p (List.mem_append_left _ z)) (h p),I.hok,I.len⟩
theorem A7 {N:List Str} (hN:N.Nodup) {i j:Nat}{x:Str} (a:N[i]?=some x) (b:N[j]?=some x):i=j:=by
 obtain ⟨h1,e1⟩:=List.getElem?_eq_some_iff.mp a
 obtain ⟨h2,e2⟩:=List.getElem?_eq_some_iff.mp b
 exact (List.getElem_inj hN).mp (e1.trans e2.symm)
theorem uP {M:Model}{A:Around}{E:Value→Shared→Prop}{i:Nat}{x:Str}{v:V}{u:Value}{Q:Unit→Shared→Prop} (I:ai X pins σ H s) (hN:X.N.Nodup) (hi:X.N[i]?=some x) (hx:ER X.env.scope x) (r:be v u)
 (h:∀s',ai X pins (σ.set i (some v)) H s'→(∃a,Heap.SameBut a s.heap s'.heap∧(a=X.env.locals∨X.env.cells.lookup x=some a))→Q () s') (hf:X.fn x=true∨X.env.scope.names.lookup x=some .local:=by first | exact .inl rfl | exact .inr rfl | assumption):wpAny M A (storeName X.env x u) Q E s:=by
 obtain ⟨m,hn,hl⟩:=id I.loc
 have hcls:(X.env.scope.kind==.class || (X.env.scope.kind==.module && X.env.locals != X.env.globals))=false:=by rw [I.ok.kind];rfl
 have hiσ:i<σ.length:=by rw [I.len];exact (List.getElem?_eq_some_iff.mp hi).1
 have cne:=I.cne
 have tracked:∀{a:Addr}{h':Heap},(∃o,s.heap.get? a=some o∧H a=none)→Heap.SameBut a s.heap h'→gh X.prog X.w H h':=fun {a h'} ha hs b ob e=>by
  obtain ⟨_,_,hfree⟩:=ha
  refine (I.hok b ob e).stay (fun c w' hc q=>(hs.2 c ?_).trans q) (fun _ q=>q) fun _ _ q=>q
  rintro rfl
  rcases hc with rfl | hc
  ·rw [hfree] at e;cases e
  ·rw [hfree] at hc;cases hc
 rcases hx with hk | hk
 ·refine wpAny_storeName_local hk hn (fun h' hn' hs=>?_) hcls
  obtain ⟨oL,_,_,hoL,_⟩:=id hn
  refine h _ ⟨I.ok,I.os,I.bare,⟨fun b o e n hb hx=>?_,fun b o e n hb hx=>?_,I.base.free,fun b o e hx=>?_,I.base.tups,I.base.frzs,I.base.tbls⟩,⟨_,hn',fun j y v' e1 e2 e3=>?_⟩,fun y c e=>?_,I.free,I.freeC,fun p hp=>?_,tracked ⟨oL,hoL,I.free⟩ hs,by simpa using I.len⟩ ⟨_,hs,.inl rfl⟩
  ·exact (hs.2 b (Nat.ne_of_lt (Nat.lt_of_lt_of_le (Heap.lt_size e) I.ok.above))).trans (I.base.keep b o e n hb hx)
  ·obtain ⟨sl,e1⟩:=I.base.slot b o e n hb hx
   exact ⟨sl,(hs.2 b (Nat.ne_of_lt (Nat.lt_of_lt_of_le (Heap.lt_size e) I.ok.above))).trans e1⟩
  ·obtain ⟨o',e1⟩:=I.base.there b o e hx
   exact ⟨o',(hs.2 b (Nat.ne_of_lt (Nat.lt_of_lt_of_le (Heap.lt_size e) I.ok.above))).trans e1⟩
  ·by_cases hj:j=i
   ·subst hj
    rw [hi] at e1;cases e1
    rw [List.getElem?_set_self hiσ] at e2
    cases e2
    exact ⟨u,r,.inl ⟨hk,by simp⟩⟩
   ·rw [List.getElem?_set_ne (Ne.symm hj)] at e2
    obtain ⟨u',r',q⟩:=hl j y v' e1 e2 e3
    refine ⟨u',r',?_⟩
    rcases q with ⟨k,e⟩ | ⟨k,c,e,z⟩
    ·refine .inl ⟨k,?_⟩
     have:y≠x:=fun e=>hj (A7 hN e1 (e▸hi))
     simp [this,e]
    ·exact .inr ⟨k,c,e,z.sameBut hs (cne y c e)⟩
  ·obtain ⟨w',z⟩:=I.cell y c e
   exact ⟨w',z.sameBut hs (cne y c e)⟩
  ·obtain ⟨e,n,ne,nf,d⟩:=I.pin p hp
   exact ⟨(hs.2 p.1 ne).trans e,n,ne,nf,d⟩
 ·have hfn:X.fn x=true:=by
   rcases hf with z | z
   ·exact z
   ·rw [z] at hk;cases hk
  obtain ⟨c,hc⟩:=I.ok.has x (.inl hk)
  obtain ⟨w',z⟩:=I.cell x c hc
  refine wpAny_storeName_cell I.ok.kind hk hc z (fun h' hc' hs=>?_)
  obtain ⟨oc,hoc,hocd⟩:=id z
  refine h { s with heap:=h' } ⟨I.ok,I.os,I.bare,⟨fun b o e n hb hx=>?_,fun b o e n hb hx=>?_,I.base.free,fun b o e hx=>?_,I.base.tups,I.base.frzs,I.base.tbls⟩,⟨m,hn.sameBut hs (Ne.symm (cne x c hc)),fun j y v' e1 e2 e3=>?_⟩,fun y c' e=>?_,I.free,I.freeC,fun p hp=>?_,tracked ⟨oc,hoc,I.freeC x c hc⟩ hs,by simpa using I.len⟩ ⟨c,hs,.inr hc⟩
  ·exact (hs.2 b (Nat.ne_of_lt (Nat.lt_of_lt_of_le (Heap.lt_size e) (I.ok.cab x c hfn hc)))).trans (I.base.keep b o e n hb hx)
  ·obtain ⟨sl,e1⟩:=I.base.slot b o e n hb hx
   exact ⟨sl,(hs.2 b (Nat.ne_of_lt (Nat.lt_of_lt_of_le (Heap.lt_size e) (I.ok.cab x c hfn hc)))).trans e1⟩
  ·obtain ⟨o',e1⟩:=I.base.there b o e hx
   exact ⟨o',(hs.2 b (Nat.ne_of_lt (Nat.lt_of_lt_of_le (Heap.lt_size e) (I.ok.cab x c hfn hc)))).trans e1⟩
  ·by_cases hj:j=i
   ·subst hj
    rw [hi] at e1;cases e1
    rw [List.getElem?_set_self hiσ] at e2
    cases e2
    exact ⟨u,r,.inr ⟨.inl hk,c,hc,hc'⟩⟩
   ·rw [List.getElem?_set_ne (Ne.symm hj)] at e2
    obtain ⟨u',r',q⟩:=hl j y v' e1 e2 e3
    refine ⟨u',r',?_⟩
    rcases q with q | ⟨k,c',e,z'⟩
    ·exact .inl q
    ·refine .inr ⟨k,c',e,z'.sameBut hs ?_⟩
     rintro rfl
     exact hj (A7 hN e1 (I.ok.inj _ _ _ e hc▸hi))
  ·by_cases hcc:c'=c
   ·subst hcc;exact ⟨_,hc'⟩
   ·obtain ⟨w2,z2⟩:=I.cell y c' e
    exact ⟨w2,z2.sameBut hs hcc⟩
  ·obtain ⟨e,n,ne,nf,d⟩:=I.pin p hp
   refine ⟨(hs.2 p.1 ?_).trans e,n,ne,nf,d⟩
   intro q
   rw [q,hoc] at e
   have q':oc=p.2:=Option.some.inj e
   exact d w' (by rw [←q'];exact hocd)
theorem p8 {M:Model}{A:Around}{E:Value→Shared→Prop}{i:Nat}{x:Str}{v:V}{u:Value}{Q:Unit→Shared→Prop} (I:ai X pins σ H s) (hN:X.N.Nodup) (hi:X.N[i]?=some x) (hx:ER X.env.scope x) (r:be v u)
 (h:∀s',ai X pins (σ.set i (some v)) H s'→Q () s') (hf:X.fn x=true∨X.env.scope.names.lookup x=some .local:=by first | exact .inl rfl | exact .inr rfl | assumption):wpAny M A (storeName X.env x u) Q E s:=
 uP I hN hi hx r (fun s' I' _=>h s' I') hf
theorem ai.call' {s':Shared}{ch:List Addr} (I:ai X pins σ H s) (ho:s'.os=s.os) (u:Un (qK X.stack) ch H H' s.heap s'.heap) (hok:gh X.prog X.w H' s'.heap) (hg:AllBare s'.gens)
 (hch:∀b∈ch,(b∈X.ex∨X.s₀.heap.objs.size≤b)∧b≠X.env.locals∧(∀x c,X.env.cells.lookup x=some c→c≠b)∧∀p∈X.pn++pins,p.1≠b):ai X pins σ H' s':=by
 obtain ⟨h',g',d',t',o'⟩:=s'
 have e:o'=s.os:=ho
 subst e
 exact I.call (g':=g') (t':=t') (d':=d') u hok hg hch
end
abbrev XK:=Value→Option Addr→Hp→Prop
abbrev St:=List (Option V)
abbrev VK:=V→Hp→Prop
abbrev TE:=St→Hp→VK→Prop
abbrev TT:=St→Hp→(Bool→Hp→Prop)→Prop
abbrev TA:=St→Hp→(List V→Hp→Prop)→Prop
structure gl where
 nx:St→Hp→Prop
 rt:VK
 bk:St→Hp→Prop:=fun _ _=>False
 ct:St→Hp→Prop:=fun _ _=>False
abbrev TS:=gl→St→Hp→Prop
inductive EP (X:Cx) (pins:List (Addr×Obj)) (σ:St) (Q:VK) (u:Value) (s':Shared):Prop
 | mk (v:_) (H':_) (h0:ai X pins σ H' s') (h1:be v u) (h2:Q v H')
def TP (X:Cx) (pins:List (Addr×Obj)) (σ:St) (Q:Bool→Hp→Prop) (b:Bool) (s':Shared):Prop:=∃H',ai X pins σ H' s'∧Q b H'
inductive AP (X:Cx) (pins:List (Addr×Obj)) (σ:St) (Q:List V→Hp→Prop) (us:List Value) (s':Shared):Prop
 | mk (vs:_) (H':_) (h0:ai X pins σ H' s') (h1:aL vs us) (h2:Q vs H')
def SP (X:Cx) (pins:List (Addr×Obj)) (D:gl) (f:Flow) (s':Shared):Prop:=
 match f with
 | .next=>∃σ' H',ai X pins σ' H' s'∧D.nx σ' H'
 | .brk=>∃σ' H',ai X pins σ' H' s'∧D.bk σ' H'
 | .cont=>∃σ' H',ai X pins σ' H' s'∧D.ct σ' H'
 | .ret u=>∃v σ' H',ai X pins σ' H' s'∧be v u∧D.rt v H'
def PE (X:Cx) (e:Expr) (t:TE):Prop:=
 ∀(pins:List (Addr×Obj)) (s:Shared) (σ:St) (H:Hp) (Q:VK),ai X pins σ H s→t σ H Q→wpAny (model X.prog X.w) X.A (eval e X.env) (EP X pins σ Q) X.xe s
def PT (X:Cx) (e:Expr) (t:TT):Prop:=
 ∀(pins:List (Addr×Obj)) (s:Shared) (σ:St) (H:Hp) (Q:Bool→Hp→Prop),ai X pins σ H s→t σ H Q→wpAny (model X.prog X.w) X.A (isTrue e X.env (eval e X.env)) (TP X pins σ Q) X.xe s
def PW (X:Cx) (e:Expr) (t:TT):Prop:=
 ∀(whole:Sem Value) (pins:List (Addr×Obj)) (s:Shared) (σ:St) (H:Hp) (Q:Bool→Hp→Prop),ai X pins σ H s→t σ H Q→wpAny (model X.prog X.w) X.A (isTrue e X.env whole) (TP X pins σ Q) X.xe s
theorem PW.pt {X:Cx}{e:Expr}{t:TT} (h:PW X e t):PT X e t:=h _
def PA (X:Cx) (es:List Expr) (t:TA):Prop:=
 ∀(pos:Pos) (pins:List (Addr×Obj)) (s:Shared) (σ:St) (H:Hp) (Q:List V→Hp→Prop),ai X pins σ H s→t σ H Q→wpAny (model X.prog X.w) X.A (spliced (backTo pos (starEach es X.env))) (AP X pins σ Q) X.xe s
def PS (X:Cx) (st:Stmt) (t:TS):Prop:=
 ∀(pins:List (Addr×Obj)) (s:Shared) (σ:St) (H:Hp) (D:gl),ai X pins σ H s→t D σ H→wpAny (model X.prog X.w) X.A (exec st X.env) (SP X pins D) X.xe s
def sq (X:Cx) (st:List Stmt) (t:TS):Prop:=
 ∀(pins:List (Addr×Obj)) (s:Shared) (σ:St) (H:Hp) (D:gl),ai X pins σ H s→t D σ H→wpAny (model X.prog X.w) X.A (execs st X.env) (SP X pins D) X.xe s
theorem aR {α:Type}{t:Sem α}{Q Q':α→Shared→Prop}{M:Model}{A:Around}{E:Value→Shared→Prop}{s:Shared} (h:wpAny M A t Q E s) (hQ:∀a s,Q a s→Q' a s):wpAny M A t Q' E s:=wpAny_mono h hQ fun _ _ x=>x
section
variable {X:Cx}
inductive KC (i:Nat) (σ:St) (H:Hp) (Q:VK):Prop
 | mk (v:_) (h0:σ[i]?=some (some v)) (h1:Q v H)
def uo (i:Nat):TE:=fun σ H Q=>KC i σ H Q
def tC (v:V):TE:=fun _ H Q=>Q v H
theorem EA {i:Nat}{x:Str}{pos:Pos} (hN:X.N[i]?=some x) (hv:Ei X.env.scope x) (hd:(x==("__debug__" : Str))=false:=by decide) (hcd:(x==("__classdict__" : Str))=false:=by decide):PE X (.Name x pos) (uo i):=by
 intro pins s σ H Q I h
 obtain ⟨v,e,h⟩:=h
 obtain ⟨m,hn,hl⟩:=I.loc
 obtain ⟨u,r,l⟩:=hl i x v hN e hv
 have fin:EP X pins σ Q u s:=⟨v,H,I,r,h⟩
 rcases l with ⟨hk,hm⟩ | ⟨hk,c,hc,hcell⟩
 ·exact wpAny_Name (wpAny_loadName_local I.ok.kind hk hn hm fin) hd
 ·rcases hk with hk | hk
  ·exact wpAny_Name (wpAny_loadName_cell I.ok.kind hk hc hcell fin) hd
  ·exact wpAny_Name (wpAny_loadName_free I.ok.kind hk hc hcell fin hcd) hd
theorem bP {i j pos}:PE X (.Constant (.int i) j pos) (tC (.int i)):=fun _ _ _ H _ I h=>wpAny_Constant_int ⟨.int i,H,I.tok _,⟨()⟩,h⟩
theorem br {b j pos}:PE X (.Constant (.bool b) j pos) (tC (.bl b)):=fun _ _ _ H _ I h=>Constant_bool ⟨.bl b,H,I,rfl,h⟩
theorem j9 {j pos}:PE X (.Constant .none j pos) (tC .non):=fun _ _ _ H _ I h=>Constant_none ⟨.non,H,I,rfl,h⟩
theorem da {x j pos}:PE X (.Constant (.str x) j pos) (tC (.str x)):=fun _ _ _ H _ I h=>Calls.Constant_str ⟨.str x,H,I.tok _,⟨()⟩,h⟩
def Gl (X:Cx) (x:Str):Prop:=X.env.kindOf x=some .globalImplicit
theorem Hl {E:Value→Shared→Prop}{pins:List (Addr×Obj)}{s:Shared}{σ:St}{H:Hp}{x:Str}{u:Value}{pos:Pos}{Q:Value→Shared→Prop} (I:ai X pins σ H s) (hg:Gl X x) (hm:X.mg x=some u) (h:Q u s)
 (hd:(x==("__debug__" : Str))=false:=by decide):wpAny (model X.prog X.w) X.A (eval (.Name x pos) X.env) Q E s:=
 Calls.Name_function_global I.ok.kind hg (Calls.loadGlobal_global (by rw [I.ok.glob];exact I.mod.glob.keeps I.bk) hm h) hd
theorem ml {E:Value→Shared→Prop}{pins:List (Addr×Obj)}{s:Shared}{σ:St}{H:Hp}{x:Str}{u:Value}{pos:Pos}{Q:Value→Shared→Prop} (I:ai X pins σ H s) (hg:Gl X x) (hm:X.mg x=none) (hv:bootBuiltins x=some u) (h:Q u s)
 (hn:x≠"__name__" := by decide) (hd:(x==("__debug__" : Str))=false:=by decide):wpAny (model X.prog X.w) X.A (eval (.Name x pos) X.env) Q E s:=by
 obtain ⟨mb,h1,h2⟩:=I.mod.blt
 exact Calls.Name_function_global I.ok.kind hg (Calls.loadGlobal_builtin (by rw [I.ok.glob];exact I.mod.glob.keeps I.bk) hm (by rw [I.ok.blt];exact h1.keeps I.bk) ((h2 x hn).trans hv) h) hd
theorem Hd {x:Str}{v:V}{u:Value}{pos:Pos} (hg:Gl X x) (hm:X.mg x=none) (hv:bootBuiltins x=some u) (r:be v u) (hn:x≠"__name__" := by decide) (hd:(x==("__debug__" : Str))=false:=by decide):PE X (.Name x pos) (tC v):=
 fun _ _ _ H _ I h=>ml I hg hm hv ⟨v,H,I,r,h⟩ hn hd
variable {a b:Expr}{ta tb:TE}{pos:Pos}
inductive Dj (x:V) (P:Bool→Prop):Prop
 | mk (c:Bool) (e:x=.bl c) (h:P c)
inductive Iz (x:V) (P:Int→Prop):Prop
 | mk (c:Int) (e:x=.int c) (h:P c)
def tB (t:TE):TT:=fun σ H Q=>t σ H fun x H1=>Dj x fun c=>Q c H1
theorem b9 {e:Expr}{t:TE} (h:PE X e t) (he:∀whole,isTrue e X.env whole=(do let v ←whole;standAt e.pos;holding [v] (truthy v)):=by intro _;rfl):PT X e (tB t):=by
 intro pins s σ H Q I hw
 refine isTrue_plain (aR (h pins s σ H _ I hw) fun v s1 ⟨x,H1,I1,r1,q1⟩=>?_) (he _)
 obtain ⟨d,rfl,q⟩:=q1
 cases r1
 exact wpAny_truthy_bool ⟨H1,I1,q⟩
variable {tA tB':TT}{rest:List Expr}
def LF (t u:TT):TT:=fun σ H Q=>t σ H fun c H1=>if c=true then u σ H1 Q else Q false H1
def MR (t u:TT):TT:=fun σ H Q=>t σ H fun c H1=>if c=true then Q true H1 else u σ H1 Q
def Mx (t:TT):TT:=fun σ H Q=>t σ H fun c H1=>Q (!c) H1
theorem y9 (ha:PT X a tA):PW X (.BoolOp .And [a] pos) tA:=by
 intro wh pins s σ H Q I h
 refine isTrue_and (aR (ha pins s σ H Q I h) fun c s1 e=>?_)
 cases c with
 | true=>exact isTrue_and_nil e
 | false=>exact e
theorem gA (ha:PT X a tA):PW X (.BoolOp .Or [a] pos) tA:=by
 intro wh pins s σ H Q I h
 refine isTrue_or (aR (ha pins s σ H Q I h) fun c s1 e=>?_)
 cases c with
 | false=>exact isTrue_or_nil e
 | true=>exact e
theorem Aw (ha:PT X a tA) (hb:PW X (.BoolOp .And (b :: rest) pos) tB'):PW X (.BoolOp .And (a :: b :: rest) pos) (LF tA tB'):=by
 intro wh pins s σ H Q I h
 refine isTrue_and (aR (ha pins s σ H _ I h) fun c s1 ⟨H1,I1,q1⟩=>?_)
 cases c with
 | true=>exact hb wh pins s1 σ H1 Q I1 q1
 | false=>exact ⟨H1,I1,q1⟩
theorem ig (ha:PT X a tA) (hb:PW X (.BoolOp .Or (b :: rest) pos) tB'):PW X (.BoolOp .Or (a :: b :: rest) pos) (MR tA tB'):=by
 intro wh pins s σ H Q I h
 refine isTrue_or (aR (ha pins s σ H _ I h) fun c s1 ⟨H1,I1,q1⟩=>?_)
 cases c with
 | true=>exact ⟨H1,I1,q1⟩
 | false=>exact hb wh pins s1 σ H1 Q I1 q1
theorem dk (ha:PT X a tA):PT X (.UnaryOp .Not a pos) (Mx tA):=by
 intro pins s σ H Q I h
 exact isTrue_not (ha pins s σ H (fun c H1=>Q (!c) H1) I h)
def Ke (ta tb:TE):TE:=fun σ H Q=>ta σ H fun x H1=>Dj x fun c=>if c=true then tb σ H1 Q else Q (.bl false) H1
def Gu (ta:TE):TE:=fun σ H Q=>ta σ H fun x H1=>Dj x fun c=>Q (.bl (!c)) H1
theorem mB {op}{t:TE} (h:PE X a t):PE X (.BoolOp op [a] pos) t:=fun pins s σ H Q I hw=>BoolOp_one (h pins s σ H Q I hw)
theorem jf (ha:PE X a ta) (hb:PE X (.BoolOp .And (b :: rest) pos) tb):PE X (.BoolOp .And (a :: b :: rest) pos) (Ke ta tb):=by
 intro pins s σ H Q I h
 refine BoolOp_and (aR (ha pins s σ H _ I h) fun v s1 ⟨x,H1,I1,r1,q1⟩=>?_)
 obtain ⟨c,rfl,q1⟩:=q1
 cases r1
 refine wpAny_truthy_bool ?_
 cases c with
 | true=>exact hb pins s1 σ H1 Q I1 q1
 | false=>exact ⟨.bl false,H1,I1,rfl,q1⟩
theorem EX (ha:PE X a ta):PE X (.UnaryOp .Not a pos) (Gu ta):=by
 intro pins s σ H Q I h
 refine UnaryOp_ (aR (ha pins s σ H _ I h) fun v s1 ⟨x,H1,I1,r1,q1⟩=>?_)
 obtain ⟨c,rfl,q1⟩:=q1
 cases r1
 exact not_of (wpAny_truthy_bool ⟨.bl (!c),H1,I1,rfl,q1⟩)
def Lz (t:TT) (ta tb:TE):TE:=fun σ H Q=>t σ H fun c H1=>if c=true then ta σ H1 Q else tb σ H1 Q
theorem qu {c:Expr} (hc:PT X c tA) (ha:PE X a ta) (hb:PE X b tb):PE X (.IfExp c a b pos) (Lz tA ta tb):=by
 intro pins s σ H Q I h
 refine wpAny_IfExp (aR (hc pins s σ H _ I h) fun d s1 ⟨H1,I1,q1⟩=>?_)
 cases d with
 | true=>exact ha pins s1 σ H1 Q I1 q1
 | false=>exact hb pins s1 σ H1 Q I1 q1
end
def ak (K:PySem.W.Frag) (H:Hp) (a:Addr) (xs:List V):Prop:=
 Rd H a (.lst xs)∨
  kJ fun (o:Obj) (its:Array Value) (n:Nat)=>K.lookup a=some o∧o.cls=.type "list"∧o.dict=none∧o.data=.seq its n∧its.size≤sizeLine∧aL xs its.toList
def ar (K:PySem.W.Frag) (H:Hp) (a:Addr) (xs:List V):Prop:=
 Rd H a (.tup xs)∨
  kJ fun (o:Obj) (its:Array Value) (n:Nat)=>K.lookup a=some o∧o.cls=.type "tuple"∧o.data=.seq its n∧its.size≤sizeLine∧aL xs its.toList
def Mg:Value→Option V
 | .none=>some .non
 | .bool b=>some (.bl b)
 | .int i _=>some (.int i)
 | .str x _=>some (.str x)
 | .bytes b _=>some (.byt b)
 | .float b _=>some (.flt b)
 | .ref a=>some (.ref a)
 | .type n=>some (.ty n)
 | _=>none
theorem be.abs {x:V}{u:Value} (r:be x u):Mg u=some x:=by
 cases x with
 | non=>cases r;rfl
 | bl _=>cases r;rfl
 | int _=>obtain ⟨t,rfl⟩:=r;rfl
 | str _=>obtain ⟨t,rfl⟩:=r;rfl
 | byt _=>obtain ⟨t,rfl⟩:=r;rfl
 | flt _=>obtain ⟨t,rfl⟩:=r;rfl
 | ref _=>cases r;rfl
 | ty _=>cases r;rfl
theorem be.inj {x y:V}{u:Value} (r:be x u) (q:be y u):x=y:=Option.some.inj (r.abs.symm.trans q.abs)
theorem aL.inj:∀{xs ys:List V}{us:List Value},aL xs us→aL ys us→xs=ys
 | _,_,_,.nil,.nil=>rfl
 | _,_,_,.cons r t,.cons r' t'=>by rw [r.inj r',aL.inj t t']
section
variable {X:Cx}{pins:List (Addr×Obj)}{σ:St}{H:Hp}{s:Shared}{a:Addr}{xs ys:List V}
theorem ak.of {K:PySem.W.Frag} (h:H a=some (.lst xs)):ak K H a xs:=.inl (.inl h)
theorem ar.of {K:PySem.W.Frag} (h:H a=some (.tup xs)):ar K H a xs:=.inl (.inl h)
theorem ai.list (I:ai X pins σ H s) (h:ak X.K H a xs):∃its:List Value,aL xs its∧PlainL s.heap a its.toArray∧xs.length≤sizeLine:=by
 rcases h with h | ⟨o,its,n,hk,hc,hd,hs,hz,r⟩
 ·obtain ⟨z,its,n,r,e⟩:=h.ok I.hok
  exact ⟨its,r,⟨_,n,e,rfl,rfl,rfl⟩,z⟩
 ·refine ⟨its.toList,r,⟨o,n,I.kIn a o hk,hc,hd,by simpa using hs⟩,?_⟩
  have e:=r.length
  simp only [Array.length_toList] at e
  trivial
theorem ai.tuple (I:ai X pins σ H s) (h:ar X.K H a xs):∃its:List Value,aL xs its∧IsTup s.heap a its.toArray∧xs.length≤sizeLine:=by
 rcases h with h | ⟨o,its,n,hk,hc,hs,hz,r⟩
 ·obtain ⟨z,its,r,p,_⟩:=h.ok I.hok
  exact ⟨its,r,p,z⟩
 ·refine ⟨its.toList,r,⟨o,I.kIn a o hk,hc,n,by simpa using hs⟩,?_⟩
  have e:=r.length
  simp only [Array.length_toList] at e
  trivial
theorem ai.list_inj (I:ai X pins σ H s) (h:ak X.K H a xs) (h':ak X.K H a ys):xs=ys:=by
 obtain ⟨its,r,⟨o,n,e,_,_,d⟩,_⟩:=I.list h
 obtain ⟨its',r',⟨o',n',e',_,_,d'⟩,_⟩:=I.list h'
 rw [e] at e';cases e'
 rw [d] at d'
 injection d' with d1 _
 have:its=its':=by simpa using congrArg Array.toList d1
 subst this
 exact r.inj r'
theorem ai.tuple_inj (I:ai X pins σ H s) (h:ar X.K H a xs) (h':ar X.K H a ys):xs=ys:=by
 obtain ⟨its,r,⟨o,e,_,n,d⟩,_⟩:=I.tuple h
 obtain ⟨its',r',⟨o',e',_,n',d'⟩,_⟩:=I.tuple h'
 rw [e] at e';cases e'
 rw [d] at d'
 injection d' with d1 _
 have:its=its':=by simpa using congrArg Array.toList d1
 subst this
 exact r.inj r'
end
abbrev Cx.wish (X:Cx) (E:Value→Shared→Prop):Cx:={ X with xe:=E }
abbrev Cx.nox (X:Cx):Cx:=X.wish fun _ _=>False
theorem Cx.Ok.wish {X:Cx} (ok:X.Ok) (E:Value→Shared→Prop):(X.wish E).Ok:=
 ⟨ok.mod,ok.kind,ok.glob,ok.blt,ok.above,ok.inj,ok.has,ok.cab,ok.hd,ok.frames,ok.stk,ok.exf,ok.bs,ok.bsz,ok.noex,ok.exfs,ok.funs,ok.frf⟩
theorem Cx.Ok.unwish {X:Cx}{E:Value→Shared→Prop} (ok:(X.wish E).Ok):X.Ok:=
 ⟨ok.mod,ok.kind,ok.glob,ok.blt,ok.above,ok.inj,ok.has,ok.cab,ok.hd,ok.frames,ok.stk,ok.exf,ok.bs,ok.bsz,ok.noex,ok.exfs,ok.funs,ok.frf⟩
section
variable {X:Cx}{pins:List (Addr×Obj)}{σ:St}{H:Hp}{s:Shared}{E:Value→Shared→Prop}
theorem ai.wish (I:ai X pins σ H s) (E:Value→Shared→Prop):ai (X.wish E) pins σ H s:=⟨I.ok.wish E,I.os,I.bare,I.base,I.loc,I.cell,I.free,I.freeC,I.pin,I.hok,I.len⟩
theorem ai.unwish (I:ai (X.wish E) pins σ H s):ai X pins σ H s:=⟨I.ok.unwish,I.os,I.bare,I.base,I.loc,I.cell,I.free,I.freeC,I.pin,I.hok,I.len⟩
theorem SP.unwish {D:gl}{f:Flow}{s':Shared} (h:SP (X.wish E) pins D f s'):SP X pins D f s':=by
 cases f with
 | next=>obtain ⟨σ',H',I,q⟩:=h;exact ⟨σ',H',I.unwish,q⟩
 | brk=>obtain ⟨σ',H',I,q⟩:=h;exact ⟨σ',H',I.unwish,q⟩
 | cont=>obtain ⟨σ',H',I,q⟩:=h;exact ⟨σ',H',I.unwish,q⟩
 | ret u=>obtain ⟨v,σ',H',I,r,q⟩:=h;exact ⟨v,σ',H',I.unwish,r,q⟩
theorem sq.nox {st:List Stmt}{t:TS} (h:sq X.nox st t):sq X st t:=fun pins s σ H D I hw=>
 wpAny_mono (h pins s σ H D (I.wish _) hw) (fun _ _ q=>q.unwish) fun _ _ z=>False.elim z
end
section
variable {X:Cx}{st:Stmt}{rest:List Stmt}{t u:TS}{e:Expr}{te:TE}{pos:Pos}
def KZ:TS:=fun D σ H=>D.nx σ H
def nj (t u:TS):TS:=fun D σ H=>t { D with nx:=u D } σ H
theorem aQ:sq X [] KZ:=fun _ _ σ H _ I h=>wpAny_execs_nil ⟨σ,H,I,h⟩
theorem d5 (h1:PS X st t) (h2:sq X rest u):sq X (st :: rest) (nj t u):=by
 intro pins s σ H D I h
 refine wpAny_execs_cons (aR (h1 pins s σ H { D with nx:=u D } I h) fun f s1 q=>?_)
 cases f with
 | next=>
  obtain ⟨σ',H',I',q⟩:=q
  exact h2 pins s1 σ' H' D I' q
 | ret v=>exact q
 | brk=>exact q
 | cont=>exact q
theorem ae (h1:PS X st t):sq X [st] t:=by
 intro pins s σ H D I h
 refine wpAny_execs_cons (aR (h1 pins s σ H D I h) fun f s1 q=>?_)
 cases f with
 | next=>exact wpAny_execs_nil q
 | ret v=>exact q
 | brk=>exact q
 | cont=>exact q
def Kq:TS:=fun D σ H=>D.ct σ H
theorem BG:PS X (.Continue pos) Kq:=fun _ _ σ H _ I h=>wpAny_Continue ⟨σ,H,I,h⟩
theorem ai.quiet {pins:List (Addr×Obj)}{σ:St}{H:Hp}{s:Shared} (I:ai X pins σ H s):interactive X.env=false:=by simp [interactive,I.ok.kind]
def CZ (te:TE):TS:=fun D σ H=>te σ H fun _ H1=>D.nx σ H1
theorem jo (he:PE X e te) (hs:swapsWith e none pos.line X.env=pure false:=by rfl):PS X (.Expr e pos) (CZ te):=by
 intro pins s σ H D I h
 exact wpAny_Expr_any (aR (he pins s σ H _ I h) fun v s1 ⟨x,H1,I1,r1,q1⟩=>⟨σ,H1,I1,q1⟩) I.quiet hs
def Mo (te:TE):TS:=fun D σ H=>te σ H D.rt
theorem av (he:PE X e te):PS X (.Return (some e) pos) (Mo te):=by
 intro pins s σ H D I h
 exact wpAny_Return_some (aR (he pins s σ H _ I h) fun v s1 ⟨x,H1,I1,r1,q1⟩=>⟨x,σ,H1,I1,r1,q1⟩)
def LK (c:TT) (t u:TS):TS:=fun D σ H=>c σ H fun b H1=>if b=true then t D σ H1 else u D σ H1
theorem bA {c:Expr}{a b:List Stmt}{tc:TT} (hc:PT X c tc) (ha:sq X a t) (hb:sq X b u):PS X (.If c a b pos) (LK tc t u):=by
 intro pins s σ H D I h
 refine wpAny_If (aR (hc pins s σ H _ I h) fun d s1 ⟨H1,I1,q1⟩=>?_)
 cases d with
 | true=>exact ha pins s1 σ H1 D I1 q1
 | false=>exact hb pins s1 σ H1 D I1 q1
end
abbrev TG:=V→St→Hp→(St→Hp→Prop)→Prop
abbrev wJ:=List V→St→Hp→(St→Hp→Prop)→Prop
def PG (X:Cx) (target:Expr) (t:TG):Prop:=
 ∀(pins:List (Addr×Obj)) (s:Shared) (σ:St) (H:Hp) (v:V) (u:Value) (Q:St→Hp→Prop),ai X pins σ H s→be v u→t v σ H Q→
   wpAny (model X.prog X.w) X.A (assign target X.env u) (fun _ s'=>∃σ' H',ai X pins σ' H' s'∧Q σ' H') X.xe s
def ET (X:Cx) (ts:List Expr) (t:wJ):Prop:=
 ∀(pins:List (Addr×Obj)) (s:Shared) (σ:St) (H:Hp) (vs:List V) (us:List Value) (Q:St→Hp→Prop),ai X pins σ H s→aL vs us→t vs σ H Q→
   wpAny (model X.prog X.w) X.A (assignInOrder ((assignEach ts X.env).map (·.2)) us) (fun _ s'=>∃σ' H',ai X pins σ' H' s'∧Q σ' H') X.xe s
abbrev FH:=V→V→V→Hp→(Hp→Prop)→Prop
def De (X:Cx) (t:FH):Prop:=
 ∀(pins:List (Addr×Obj)) (s:Shared) (σ:St) (H:Hp) (o i v:V) (ov iv u:Value) (Q:Hp→Prop),ai X pins σ H s→be o ov→be i iv→be v u→t o i v H Q→
   wpAny (model X.prog X.w) X.A (setItem ov iv u) (fun _ s'=>∃H',ai X pins σ H' s'∧Q H') X.xe s
abbrev GH:=V→V→Hp→VK→Prop
def Lx (X:Cx) (op:Operator) (t:GH):Prop:=
 ∀(pins:List (Addr×Obj)) (s:Shared) (σ:St) (H:Hp) (x y:V) (v u:Value) (Q:VK),ai X pins σ H s→be x v→be y u→t x y H Q→
   wpAny (model X.prog X.w) X.A (inplaceOp op v u) (EP X pins σ Q) X.xe s
section
variable {X:Cx}{pos:Pos}
def tI (i:Nat):TG:=fun v σ H Q=>Q (σ.set i (some v)) H
theorem dj {i:Nat}{x:Str} (hN:X.N.Nodup) (hi:X.N[i]?=some x) (hx:ER X.env.scope x) (hf:X.fn x=true∨X.env.scope.names.lookup x=some .local:=by first | exact .inl rfl | exact .inr rfl | assumption):PG X (.Name x pos) (tI i):=by
 intro pins s σ H v u Q I r h
 exact wpAny_assign_Name (p8 I hN hi hx r (fun s' I'=>⟨_,H,I',h⟩) hf)
def Mb:wJ:=fun vs σ H Q=>vs=[]∧Q σ H
inductive IH (t:TG) (u:wJ) (vs:List V) (σ:St) (H:Hp) (Q:St→Hp→Prop):Prop
 | mk (v:_) (r:_) (h0:vs=v :: r) (h1:t v σ H fun σ' H'=>u r σ' H' Q)
def KK (t:TG) (u:wJ):wJ:=fun vs σ H Q=>IH t u vs σ H Q
theorem b3:ET X [] Mb:=by
 intro pins s σ H vs us Q I r h
 obtain ⟨e,h⟩:=h
 subst e
 cases r
 exact assignInOrder_nil ⟨σ,H,I,h⟩
theorem au {e:Expr}{es:List Expr}{t:TG}{u:wJ} (h1:PG X e t) (h2:ET X es u)
 (hs:(assignEach (e :: es) X.env).map (·.2)=assign e X.env :: (assignEach es X.env).map (·.2):=by rfl):ET X (e :: es) (KK t u):=by
 intro pins s σ H vs us Q I r h
 obtain ⟨v,vr,e1,h⟩:=h
 subst e1
 cases r with
 | cons r rr=>
  rw [hs]
  refine assignInOrder_cons (aR (h1 pins s σ H _ _ _ I r h) fun _ s1 ⟨σ1,H1,I1,q1⟩=>?_)
  exact h2 pins s1 σ1 H1 _ _ Q I1 rr q1
inductive Kh (K:PySem.W.Frag) (n:Nat) (t:wJ) (v:V) (σ:St) (H:Hp) (Q:St→Hp→Prop):Prop
 | mk (a:_) (xs:_) (h0:v=.ref a) (h1:ar K H a xs) (h2:xs.length=n) (h3:t xs σ H Q)
def Jc (K:PySem.W.Frag) (n:Nat) (t:wJ):TG:=fun v σ H Q=>Kh K n t v σ H Q
theorem yd {es:List Expr}{k:Nat}{t:wJ}{n:Nat} (hc:X.calm=true) (h:ET X es t)
 (hn:(assignEach es X.env).length=n:=by rfl) (hst:(assignEach es X.env).findIdx? (·.1)=none:=by rfl):PG X (.Tuple es k pos) (Jc X.K n t):=by
 intro pins s σ H v u Q I r hw
 obtain ⟨a,xs,e1,hq,hl,hw⟩:=hw
 subst e1
 cases r
 obtain ⟨its,rv,ht,hz⟩:=I.tuple hq
 refine assign_Tuple_tuple (I.ok.hd hc) ht (by simp [hn,←hl,rv.length]) hst fun h' hx=>?_
 have I1:ai X pins σ H { s with heap:=h' }:=I.kept (t':=s.toks) fun b o e=>hx b o (Nat.ne_of_lt (Heap.lt_size e)) e
 exact h pins _ σ H xs _ Q I1 (by simpa using rv) hw
def LU (to ti:TE) (t:FH):TG:=fun v σ H Q=>to σ H fun o H1=>ti σ H1 fun i H2=>t o i v H2 fun H3=>Q σ H3
theorem nS {o i:Expr}{to ti:TE}{t:FH} (ho:PE X o to) (hi:PE X i ti) (hs:De X t)
 (ha:∀v,assign (.Subscript o i pos) X.env v=(do
  let ov ←holding [v] (eval o X.env)
  let iv ←holding [v,ov] (eval i X.env)
  standAt pos
  holding [v,ov,iv] (setItem ov iv v)
  release [v,ov,iv] []):=by intro _;rfl):PG X (.Subscript o i pos) (LU to ti t):=by
 intro pins s σ H v u Q I r h
 rw [ha]
 refine wpAny_bind (wpAny_holding (aR (ho pins s σ H _ I h) fun ov s1 ⟨x,H1,I1,r1,q1⟩=>?_))
 refine wpAny_bind (wpAny_holding (aR (hi pins s1 σ H1 _ I1 q1) fun iv s2 ⟨y,H2,I2,r2,q2⟩=>?_))
 refine wpAny_bind (wpAny_standAt (wpAny_bind (wpAny_holding (aR (hs pins s2 σ H2 x y v ov iv u _ I2 r1 r2 r q2) fun _ s3 ⟨H3,I3,q3⟩=>?_))))
 exact wpAny_release ⟨σ,H3,I3,q3⟩
def Bz (te:TE) (g:TG):TS:=fun D σ H=>te σ H fun x H1=>g x σ H1 D.nx
theorem dZ {tg e:Expr}{te:TE}{g:TG} (he:PE X e te) (hg:PG X tg g) (hs:swapsWithSole [tg] e pos.line X.env=pure false:=by rfl) (hw:swappedStores [tg] e X.env=pure none:=by rfl)
 (h1:(assignEach [tg] X.env).map (·.2)=[assign tg X.env]:=by rfl):PS X (.Assign [tg] e pos) (Bz te g):=by
 intro pins s σ H D I h
 refine wpAny_Assign_stores (aR (he pins s σ H _ I h) fun v s1 ⟨x,H1,I1,r1,q1⟩=>?_) hs hw
 rw [h1]
 exact aR (hg pins s1 σ H1 x v _ I1 r1 q1) fun _ s2 q=>q
theorem jh {i:Nat}{x:Str}{e:Expr}{te:TE}{pos':Pos} (hN:X.N.Nodup) (hi:X.N[i]?=some x) (hx:ER X.env.scope x) (he:PE X e te) (hs:swapsWith e (some (.Name x pos')) pos.line X.env=pure false:=by rfl) (hf:X.fn x=true∨X.env.scope.names.lookup x=some .local:=by first | exact .inl rfl | exact .inr rfl | assumption) :
 PS X (.Assign [.Name x pos'] e pos) (Bz te (tI i)):=by
 intro pins s σ H D I h
 refine wpAny_Assign_Name (aR (he pins s σ H _ I h) fun v s1 ⟨y,H1,I1,r1,q1⟩=>?_) hs
 exact p8 I1 hN hi hx r1 (fun s2 I2=>⟨_,H1,I2,q1⟩) hf
def Mq (i j:Nat) (ta:TA):TS:=fun D σ H=>ta σ H fun vs H1=>bI fun v w=>vs=[v,w]∧D.nx ((σ.set i (some v)).set j (some w)) H1
theorem vd {i j:Nat}{x y:Str}{a b:Expr}{ta:TA}{px py pt:Pos}{kt k2 pt2} (hc:X.calm=true) (hN:X.N.Nodup) (hi:X.N[i]?=some x) (hj:X.N[j]?=some y) (hij:i≠j)
 (hx:X.env.scope.names.lookup x=some .local) (hy:X.env.scope.names.lookup y=some .local) (ha:PA X [a,b] ta)
 (hw:swappedStores [.Tuple [.Name x px,.Name y py] kt pt] (.Tuple [a,b] k2 pt2) X.env=pure (some [x,y]))
 (hs:swapsWithSole [.Tuple [.Name x px,.Name y py] kt pt] (.Tuple [a,b] k2 pt2) pos.line X.env=pure false:=by rfl) :
 PS X (.Assign [.Tuple [.Name x px,.Name y py] kt pt] (.Tuple [a,b] k2 pt2) pos) (Mq i j ta):=by
 intro pins s σ H D I h
 rw [exec_Assign_arm]
 refine wpAny_bind (wpAny_standAt ?_)
 rw [hs]
 refine wpAny_bind (wpAny_pure ?_)
 rw [if_neg (by decide)]
 refine wpAny_bind (Tuple_ (aR (ha _ pins s σ H _ I h) fun us s1 ⟨vs,H1,I1,r1,q1⟩=>?_))
 obtain ⟨v,w,e1,q1⟩:=q1
 subst e1
 obtain ⟨u1,u2,rfl,rv,rw'⟩:bI fun u1 u2=>us=[u1,u2]∧be v u1∧be w u2:=by
  cases r1 with
  | cons p q=>
   cases q with
   | cons p' q'=>
    cases q'
    exact ⟨_,(),p,p'⟩
 refine wpAny_newObj_type ?_ (by show 2≤sizeLine;decide)
 have I2:ai X pins σ H1 { s1 with heap:=s1.heap.push { cls:=.type "tuple",data:=.seq [u1,u2].toArray } }:=I1.kept (t':=s1.toks) fun b o e=>Heap.get?_push_of_some _ e
 rw [hw]
 refine wpAny_bind (wpAny_pure ?_)
 show wpAny (model X.prog X.w) X.A (do rule "assign.swapped-stores";let items ←unpackItems (.ref s1.heap.objs.size) 2 none;assignInOrder [fun v=>bindName X.env y v,fun v=>bindName X.env x v] items.reverse;pure Flow.next) _ _ _
 refine wpAny_bind (wpAny_rule (wpAny_bind (unpackItems_tuple (items:=#[u1,u2]) (I.ok.hd hc) (IsTup.new s1.heap _) fun h' hx'=>?_)))
 have I3:=I2.kept (h':=h') (t':=s1.toks) fun b o e=>hx' b o (Nat.ne_of_lt (Heap.lt_size e)) e
 show wpAny _ _ (assignInOrder [fun v=>bindName X.env y v,fun v=>bindName X.env x v] [u2,u1] >>= fun _=>pure Flow.next) _ _ _
 refine wpAny_bind (assignInOrder_cons (wpAny_bindName (p8 I3 hN hj (.inl hy) rw' (fun s2 I4=>?_) (.inr hy))))
 refine assignInOrder_cons (wpAny_bindName (p8 I4 hN hi (.inl hx) rv (fun s3 I5=>assignInOrder_nil (wpAny_pure ?_)) (.inr hx)))
 rw [List.set_comm _ _ (Ne.symm hij)] at I5
 exact ⟨_,H1,I5,q1⟩
def LJ (i:Nat) (te:TE) (ti:GH):TS:=fun D σ H=>∃x,σ[i]?=some (some x)∧te σ H fun y H1=>ti x y H1 fun z H2=>D.nx (σ.set i (some z)) H2
theorem Ii {i:Nat}{x:Str}{e:Expr}{te:TE}{op:Operator}{ti:GH}{pos':Pos} (hN:X.N.Nodup) (hi:X.N[i]?=some x) (hx:ER X.env.scope x) (he:PE X e te) (ho:Lx X op ti) (hf:X.fn x=true∨X.env.scope.names.lookup x=some .local:=by first | exact .inl rfl | exact .inr rfl | assumption) :
 PS X (.AugAssign (.Name x pos') op e pos) (LJ i te ti):=by
 intro pins s σ H D I h
 obtain ⟨v,e1,h⟩:=h
 obtain ⟨m,hn,hl⟩:=I.loc
 have vis:Ei X.env.scope x:=by rcases hx with k | k;exact .inl k;exact .inr (.inl k)
 obtain ⟨u,r,l⟩:=hl i x v hi e1 vis
 refine wpAny_AugAssign_Name ?_
 have go:wpAny (model X.prog X.w) X.A (eval e X.env) (fun w s₂=>wpAny (model X.prog X.w) X.A (inplaceOp op u w) (fun r s₃=>wpAny (model X.prog X.w) X.A (storeName X.env x r) (fun _=>SP X pins D .next) X.xe s₃) X.xe s₂) X.xe s:=by
  refine aR (he pins s σ H _ I h) fun w s1 ⟨y,H1,I1,r1,q1⟩=>?_
  refine aR (ho pins s1 σ H1 v y u w _ I1 r r1 q1) fun z s2 ⟨zv,H2,I2,r2,q2⟩=>?_
  exact p8 I2 hN hi hx r2 (fun s3 I3=>⟨_,H2,I3,q2⟩) hf
 rcases l with ⟨hk,hm⟩ | ⟨hk,c,hc,hcell⟩
 ·exact wpAny_loadName_local I.ok.kind hk hn hm go
 ·rcases hk with hk | hk
  ·exact wpAny_loadName_cell I.ok.kind hk hc hcell go
  ·rcases hx with k | k
   ·have:X.env.scope.names.lookup x=some .free:=hk
    rw [k] at this;cases this
   ·have:X.env.scope.names.lookup x=some .free:=hk
    rw [k] at this;cases this
def MP (f:Int→Int→Int):GH:=fun x y H Q=>bI fun i j=>x=.int i∧y=.int j∧Q (.int (f i j)) H
theorem JT:Lx X .Add (MP fun i j=>i+j):=by
 intro pins s σ H x y v u Q I r1 r2 h
 obtain ⟨i,j,e1,e2,q⟩:=h
 subst e1;subst e2
 obtain ⟨t,rfl⟩:=r1
 obtain ⟨t',rfl⟩:=r2
 exact iadd_int ⟨.int _,H,I.tok _,⟨()⟩,q⟩
end
section
variable {X:Cx}{pos:Pos}
def E5 (c:TT) (tb:TS):TS:=fun D σ H=>∃W:Nat→St→Hp→Prop,(∃m,W m σ H)∧∀m σ H,W m σ H→
 c σ H fun b H1=>if b=true then ∃N:St→Hp→Prop,(∀σ' H',N σ' H'→∃m',m'<m∧W m' σ' H')∧tb { D with nx:=N,ct:=N,bk:=D.nx } σ H1 else D.nx σ H1
theorem tz {c:Expr}{body:List Stmt}{tc:TT}{tb:TS} (hp:PassesOwn (model X.prog X.w) X.A X.env X.xe) (hc:PT X c tc) (hb:sq X body tb):PS X (.While c body [] pos) (E5 tc tb):=by
 intro pins s σ H D I h
 obtain ⟨W,⟨m0,w0⟩,turn⟩:=h
 refine wpAny_While (codeAny_whileLoop (fun n s'=>∃σ' H',ai X pins σ' H' s'∧W n σ' H') ?_ m0 ⟨σ,H,I,w0⟩)
 rintro n s1 ⟨σ1,H1,I1,w1⟩
 refine wpAny_passesOwn hp (aR (hc pins s1 σ1 H1 _ I1 (turn n σ1 H1 w1)) fun b s2 ⟨H2,I2,q2⟩=>?_)
 cases b with
 | true=>
  obtain ⟨N,hN,q2⟩:=q2
  rw [if_pos rfl]
  refine wpAny_passesOwn hp (aR (hb pins s2 σ1 H2 _ I2 q2) fun f s3 q3=>?_)
  cases f with
  | next=>
   obtain ⟨σ3,H3,I3,n3⟩:=q3
   obtain ⟨m',hm,w3⟩:=hN σ3 H3 n3
   exact ⟨m',hm,σ3,H3,I3,w3⟩
  | cont=>
   obtain ⟨σ3,H3,I3,n3⟩:=q3
   obtain ⟨m',hm,w3⟩:=hN σ3 H3 n3
   exact ⟨m',hm,σ3,H3,I3,w3⟩
  | brk=>exact q3
  | ret v=>exact q3
 | false=>
  rw [if_neg Bool.false_ne_true]
  exact wpAny_execs_nil ⟨σ1,H2,I2,q2⟩
end
structure It where
 go:Nat→Hp→Prop
 yld:Nat→Hp→V→Hp→Prop
 stop:Nat→Hp→Prop
def jM (X:Cx) (pins:List (Addr×Obj)) (H:Hp) (b:Addr):Prop:=
 H b=none∧b≠X.env.locals∧b∉X.fs∧(b∈X.ex∨X.s₀.heap.objs.size≤b)∧(∀x c,X.env.cells.lookup x=some c→c≠b)∧∀p∈X.pn++pins,p.1≠b
theorem ai.fpOk {X:Cx}{pins:List (Addr×Obj)}{σ:St}{H H':Hp}{s:Shared}{b:Addr} (I:ai X pins σ H s) (hb:s.heap.objs.size≤b) (hn:H' b=none):jM X pins H' b:=by
 refine ⟨hn,Nat.ne_of_gt (Nat.lt_of_lt_of_le I.lt hb),I.nofs hb,.inr (Nat.le_trans I.sz hb),fun x c e z=>?_,fun p hp z=>?_⟩
 ·obtain ⟨v,q⟩:=I.cell x c e
  exact absurd (Nat.lt_of_lt_of_le q.lt (by rw [z];exact hb)) (Nat.lt_irrefl _)
 ·exact absurd (Nat.lt_of_lt_of_le (Heap.lt_size (I.pin p hp).1) (by rw [z];exact hb)) (Nat.lt_irrefl _)
structure wZ (P:Program) (w:World) (K:PySem.W.Frag) (tg:Expr) (J:It) (fp:List Addr) (it:Addr) (tn:Nat→Heap→Prop):Prop where
 mem:it∈fp
 obj:∀i h,tn i h→∀b∈fp,∃o,h.get? b=some o∧∀v,o.data≠.cell v
 keep:∀i h h',tn i h→(∀b∈fp,∀o,h.get? b=some o→h'.get? b=some o)→tn i h'
 item:∀(X:Cx),X.prog=P→X.w=w→X.K=K→X.calm=true→∀(i:Nat) (pins:List (Addr×Obj)) (s:Shared) (σ:St) (H:Hp) (E:Value→Shared→Prop),ai X pins σ H s→(∀b∈fp,jM X pins H b)→tn i s.heap→J.go i H→
  wpAny (model P w) X.A (pyNext (.ref it)) (fun r s1=>∃u,r=some u∧
   wpAny (model P w) X.A (letOwnedTupleGo tg (.ref it) u) (fun _ s2=>bI fun x H'=>ai X pins σ H' s2∧be x u∧J.yld i H x H'∧tn (i+1) s2.heap∧∀b∈fp,H' b=none) E s1) E s
 done:∀(X:Cx),X.prog=P→X.w=w→X.K=K→X.calm=true→∀(i:Nat) (pins:List (Addr×Obj)) (s:Shared) (σ:St) (H:Hp) (E:Value→Shared→Prop),ai X pins σ H s→(∀b∈fp,jM X pins H b)→tn i s.heap→J.stop i H→
  wpAny (model P w) X.A (pyNext (.ref it)) (fun r s1=>r=none∧ai X pins σ H s1) E s
 self:∀(A:Around) (i:Nat) (s:Shared) (Q:Value→Shared→Prop) (E:Value→Shared→Prop),tn i s.heap→Q (.ref it) s→wpAny (model P w) A (pyIter (.ref it)) Q E s
abbrev TI:=St→Hp→(It→Hp→Prop)→Prop
def Lw (X:Cx) (pins:List (Addr×Obj)) (σ:St) (tg:Expr) (R:It→Hp→Prop) (itv:Value) (s2:Shared):Prop:=
 Ih fun (it:Addr) (fp:List Addr) (tn:Nat→Heap→Prop) (J:It) (H':Hp)=>itv=.ref it∧ai X pins σ H' s2∧wZ X.prog X.w X.K tg J fp it tn∧tn 0 s2.heap∧(∀b∈fp,jM X pins H' b)∧R J H'
def PI (X:Cx) (tg iter:Expr) (wi:TI):Prop:=
 ∀(pins:List (Addr×Obj)) (s:Shared) (σ:St) (H:Hp) (R:It→Hp→Prop),ai X pins σ H s→wi σ H R→
   wpAny (model X.prog X.w) X.A (eval iter X.env) (fun v s1=>wpAny (model X.prog X.w) X.A (pyIter v) (Lw X pins σ tg R) X.xe s1) X.xe s
theorem C7 {M:Model}{A:Around}{E:Value→Shared→Prop}{s:Shared}{tg:Expr}{it:Addr}{u:Value}{o:Obj}{n:String}{vs:Array Value}{Q:Unit→Shared→Prop} (ho:s.heap.get? it=some o) (hc:o.cls=.type n) (hd:o.data=.fields vs)
 (hn:["enumerate", "zip", "dict_itemiterator", "dict_reverseitemiterator", "odict_iterator", "itertools.zip_longest", "itertools.pairwise"].contains n=false) (hQ:Q () s):wpAny M A (letOwnedTupleGo tg (.ref it) u) Q E s:=by
 unfold letOwnedTupleGo
 cases tg <;> first
  | exact wpAny_pure hQ
  | (cases u <;> first
   | exact wpAny_pure hQ
   | (refine wpAny_bind (wpAny_load ho ?_)
      rw [hc,hd]
      show wpAny M A (if (["enumerate", "zip", "dict_itemiterator", "dict_reverseitemiterator", "odict_iterator", "itertools.zip_longest", "itertools.pairwise"].contains n && vs[0]?==some (rawInt _))=true then _ else _) Q E s
      rw [if_neg (by intro h;rw [hn,Bool.false_and] at h;cases h)]
      exact wpAny_pure hQ))
def Cw (K:PySem.W.Frag) (a:Addr):It:=
 ⟨fun i H=>bI fun xs x=>ak K H a xs∧xs[i]?=some x,fun i H x H'=>H'=H∧∀xs,ak K H a xs→xs[i]?=some x,fun i H=>∃xs,ak K H a xs∧xs.length≤i⟩
def Lu (K:PySem.W.Frag) (a:Addr):It:=
 ⟨fun i H=>bI fun xs x=>ar K H a xs∧xs[i]?=some x,fun i H x H'=>H'=H∧∀xs,ar K H a xs→xs[i]?=some x,fun i H=>∃xs,ar K H a xs∧xs.length≤i⟩
def A3 (lo:Int) (n:Nat):It:=⟨fun i _=>i<n,fun i H x H'=>H'=H∧x=.int (lo+i),fun i _=>n≤i⟩
theorem Eo {P:Program}{w:World}{K:PySem.W.Frag}{tg:Expr} (a it:Addr):wZ P w K tg (Cw K a) [it] it (fun i h=>h.IsListIter it a i) where
 mem:=by simp
 obj:=fun i h st b hb=>by
  have e:b=it:=by simpa using hb
  subst e
  obtain ⟨o,e,c,d⟩:=st
  exact ⟨o,e,fun v z=>by rw [d] at z;cases z⟩
 keep:=fun i h h' st k=>st.at fun o e=>k it (by simp) o e
 item:=by
  intro X hP hw hK hc i pins s σ H E I hf st hg
  subst hP hw hK
  obtain ⟨xs,x,hq,hx⟩:=hg
  obtain ⟨its,rv,p,hz⟩:=I.list hq
  obtain ⟨u,hu,ru⟩:=rv.get hx
  obtain ⟨f0,f1,f2,f3,f4,f5⟩:=hf it (by simp)
  refine wpAny_pyNext_list_item st p.isList (x:=u) (by simpa using hu) fun h' st' sb=>?_
  have I1:ai X pins σ H { s with heap:=h' }:=I.turned (t':=s.toks) (fun b o hb e=>(sb.2 b hb).trans e) f0 f1 f3 f4 f5
  obtain ⟨o,e,c,d⟩:=id st'
  exact ⟨u,rfl,C7 (s:={ s with heap:=h' }) e c d (by decide) ⟨x,H,I1,ru,⟨rfl,fun ys hy=>by rw [I.list_inj hy hq];exact hx⟩,st',fun b hb=>(hf b hb).1⟩⟩
 done:=by
  intro X hP hw hK hc i pins s σ H E I hf st hg
  subst hP hw hK
  obtain ⟨xs,hq,hx⟩:=hg
  obtain ⟨its,rv,p,hz⟩:=I.list hq
  obtain ⟨f0,f1,f2,f3,f4,f5⟩:=hf it (by simp)
  have hl:=rv.length
  exact wpAny_pyNext_list_end (I.ok.hd hc) st p.isList (by simp;trivial) fun h' eb=>⟨rfl,I.turned (t':=s.toks) (fun b o hb e=>eb b o hb e) f0 f1 f3 f4 f5⟩
 self:=fun _ _ _ _ _ st h=>wpAny_pyIter_listiter st h
theorem Dw {P:Program}{w:World}{K:PySem.W.Frag}{tg:Expr} (a it:Addr):wZ P w K tg (Lu K a) [it] it (fun i h=>h.IsTupleIter it a i) where
 mem:=by simp
 obj:=fun i h st b hb=>by
  have e:b=it:=by simpa using hb
  subst e
  obtain ⟨o,e,c,d⟩:=st
  exact ⟨o,e,fun v z=>by rw [d] at z;cases z⟩
 keep:=fun i h h' st k=>st.at fun o e=>k it (by simp) o e
 item:=by
  intro X hP hw hK hc i pins s σ H E I hf st hg
  subst hP hw hK
  obtain ⟨xs,x,hq,hx⟩:=hg
  obtain ⟨its,rv,p,hz⟩:=I.tuple hq
  obtain ⟨u,hu,ru⟩:=rv.get hx
  obtain ⟨f0,f1,f2,f3,f4,f5⟩:=hf it (by simp)
  refine wpAny_pyNext_tuple_item st (show s.heap.IsTuple a its.toArray from p) (x:=u) (by simpa using hu) fun h' st' sb=>?_
  have I1:ai X pins σ H { s with heap:=h' }:=I.turned (t':=s.toks) (fun b o hb e=>(sb.2 b hb).trans e) f0 f1 f3 f4 f5
  obtain ⟨o,e,c,d⟩:=id st'
  exact ⟨u,rfl,C7 (s:={ s with heap:=h' }) e c d (by decide) ⟨x,H,I1,ru,⟨rfl,fun ys hy=>by rw [I.tuple_inj hy hq];exact hx⟩,st',fun b hb=>(hf b hb).1⟩⟩
 done:=by
  intro X hP hw hK hc i pins s σ H E I hf st hg
  subst hP hw hK
  obtain ⟨xs,hq,hx⟩:=hg
  obtain ⟨its,rv,p,hz⟩:=I.tuple hq
  obtain ⟨f0,f1,f2,f3,f4,f5⟩:=hf it (by simp)
  have hl:=rv.length
  exact wpAny_pyNext_tuple_end (I.ok.hd hc) st (show s.heap.IsTuple a its.toArray from p) (by simp;trivial) fun h' eb=>⟨rfl,I.turned (t':=s.toks) (fun b o hb e=>eb b o hb e) f0 f1 f3 f4 f5⟩
 self:=fun _ _ _ _ _ st h=>wpAny_pyIter_tupleiter st h
theorem DL {P:Program}{w:World}{K:PySem.W.Frag}{tg:Expr} (it:Addr) (lo:Int) (n:Nat):wZ P w K tg (A3 lo n) [it] it (fun i h=>IsRangeIter h it (lo+(i:Nat)*1) ((n:Int) - (i:Nat)) 1) where
 mem:=by simp
 obj:=fun i h st b hb=>by
  have e:b=it:=by simpa using hb
  subst e
  exact ⟨_,st,fun v z=>by
   have z':Data.fields _=Data.cell v:=z
   cases z'⟩
 keep:=fun i h h' st k=>k it (by simp) _ st
 item:=by
  intro X hP hw hK hc i pins s σ H E I hf st hg
  subst hP hw hK
  obtain ⟨f0,f1,f2,f3,f4,f5⟩:=hf it (by simp)
  have W:=Walks.range (prog:=X.prog) (w:=X.w) (I.ok.hd hc) it lo 1 n
  refine W.item i s _ _ hg st fun v h' tk hv st' kk=>?_
  obtain ⟨t,rfl⟩:=hv
  have I1:ai X pins σ H { s with heap:=h',toks:=tk }:=I.turned (fun b o hb e=>kk b o (by simpa using hb) e) f0 f1 f3 f4 f5
  refine ⟨(),C7 (s:={ s with heap:=h',toks:=tk }) (n := "range_iterator") st' rfl rfl (by decide) ⟨.int (lo+i),H,I1,⟨t,?_⟩,⟨rfl,rfl⟩,st',fun b hb=>(hf b hb).1⟩⟩
  rw [Int.mul_one]
 done:=by
  intro X hP hw hK hc i pins s σ H E I hf st hg
  subst hP hw hK
  obtain ⟨f0,f1,f2,f3,f4,f5⟩:=hf it (by simp)
  exact wpAny_pyNext_range_end (I.ok.hd hc) st (by have:n≤i:=hg;trivial) fun h' eb=>⟨rfl,I.turned (t':=s.toks) (fun b o hb e=>eb b o hb e) f0 f1 f3 f4 f5⟩
 self:=fun _ _ _ _ _ st h=>wpAny_pyIter_rangeiter st h
section
variable {X:Cx}{tg:Expr}
def GC (K:PySem.W.Frag) (tl:TE):TI:=fun σ H R=>tl σ H fun x H1=>∃a,x=.ref a∧(∃xs,ak K H1 a xs)∧R (Cw K a) H1
def Jj (K:PySem.W.Frag) (tl:TE):TI:=fun σ H R=>tl σ H fun x H1=>∃a,x=.ref a∧(∃xs,ar K H1 a xs)∧R (Lu K a) H1
theorem G0 {l:Expr}{tl:TE} (hl:PE X l tl):PI X tg l (GC X.K tl):=by
 intro pins s σ H R I h
 refine aR (hl pins s σ H _ I h) fun v s1 ⟨x,H1,I1,r1,q1⟩=>?_
 obtain ⟨a,e,⟨xs,hq⟩,q⟩:=q1
 subst e
 cases r1
 obtain ⟨its,rv,p,hz⟩:=I1.list hq
 refine wpAny_pyIter_list p.isList ?_
 refine ⟨s1.heap.objs.size,[s1.heap.objs.size],_,_,H1,rfl,I1.kept (t':=s1.toks) fun b o e=>Heap.get?_push_of_some _ e,Eo a _,⟨_,Heap.get?_push_size _ rfl,rfl,rfl⟩,fun b hb=>?_,q⟩
 have e:b=s1.heap.objs.size:=by simpa using hb
 subst e
 exact I1.fpOk (Nat.le_refl _) (I1.hok.fresh (Nat.le_refl _))
theorem Jx {l:Expr}{tl:TE} (hl:PE X l tl):PI X tg l (Jj X.K tl):=by
 intro pins s σ H R I h
 refine aR (hl pins s σ H _ I h) fun v s1 ⟨x,H1,I1,r1,q1⟩=>?_
 obtain ⟨a,e,⟨xs,hq⟩,q⟩:=q1
 subst e
 cases r1
 obtain ⟨its,rv,p,hz⟩:=I1.tuple hq
 refine wpAny_pyIter_tuple (show s1.heap.IsTuple a its.toArray from p) ?_
 refine ⟨s1.heap.objs.size,[s1.heap.objs.size],_,_,H1,rfl,I1.kept (t':=s1.toks) fun b o e=>Heap.get?_push_of_some _ e,Dw a _,⟨_,Heap.get?_push_size _ rfl,rfl,rfl⟩,fun b hb=>?_,q⟩
 have e:b=s1.heap.objs.size:=by simpa using hb
 subst e
 exact I1.fpOk (Nat.le_refl _) (I1.hok.fresh (Nat.le_refl _))
theorem Fu {pins:List (Addr×Obj)}{σ:St}{H:Hp}{s:Shared}{R:It→Hp→Prop}{E:Value→Shared→Prop}{lo hi:Int}{t u v:Tok}{tk:Nat} (I:ai X pins σ H s) (h1:-(2 ^ 62)≤lo) (h2:lo<2 ^ 62) (h3:-(2 ^ 62)≤hi) (h4:hi<2 ^ 62)
 (q:R (A3 lo (hi - lo).toNat) H):wpAny (model X.prog X.w) X.A (pyIter (.ref s.heap.objs.size)) (Lw X pins σ tg R) E { s with heap:=s.heap.push { cls:=.type "range",data:=.fields #[.int lo t,.int hi u,.int 1 v] },toks:=tk }:=by
 refine wpAny_pyIter_range (IsRange.new ..) (small_one h1 h2 h3 h4) ?_
 have I1:ai X pins σ H { s with heap:=s.heap.push { cls:=.type "range",data:=.fields #[.int lo t,.int hi u,.int 1 v] },toks:=tk }:=I.kept fun b o e=>Heap.get?_push_of_some _ e
 refine ⟨(s.heap.push { cls:=.type "range",data:=.fields #[.int lo t,.int hi u,.int 1 v] }).objs.size,[(s.heap.push { cls:=.type "range",data:=.fields #[.int lo t,.int hi u,.int 1 v] }).objs.size],_,_,H,rfl,
  I1.kept (t':=tk) fun b o e=>Heap.get?_push_of_some _ e,DL _ lo (hi - lo).toNat,?_,fun b hb=>?_,q⟩
 ·have e1:lo+((0:Nat):Int)*1=lo:=by simp
  have e2:(((hi - lo).toNat:Nat):Int) - ((0:Nat):Int)=Builtin.Range.rangeSize lo hi 1:=by rw [rangeSize_one];split <;> trivial
  show IsRangeIter _ _ (lo+((0:Nat):Int)*1) ((((hi - lo).toNat:Nat):Int) - ((0:Nat):Int)) 1
  rw [e1,e2]
  exact Heap.get?_push_size _ rfl
 ·have e:b=(s.heap.push { cls:=.type "range",data:=.fields #[.int lo t,.int hi u,.int 1 v] }).objs.size:=by simpa using hb
  subst e
  exact I1.fpOk (Nat.le_refl _) (I1.hok.fresh (Nat.le_refl _))
def K0 (ta:TA):TI:=fun σ H R=>ta σ H fun vs H1=>∃j:Int,vs=[.int j]∧-(2 ^ 62)≤j∧j<2 ^ 62∧R (A3 0 j.toNat) H1
theorem gG {a:Expr}{ta:TA}{p pos:Pos} (hg:Gl X "range") (hm:X.mg "range" = none) (ha:PA X [a] ta) (hs:starEach [a] X.env=[(false,eval a X.env)]:=by rfl):PI X tg (.Call (.Name "range" p) [a] [] pos) (K0 ta):=by
 intro pins s σ H R I h
 refine Call_ (ml I hg hm boot_range (PyProof.Rows.callWith_type1 (aR (ha pos pins s σ H _ I h) fun us s1 ⟨vs,H1,I1,r1,q1⟩=>?_) hs rfl))
 obtain ⟨j,e,q1,q2,q⟩:=q1
 subst e
 cases r1 with
 | cons r rr=>
  cases rr
  obtain ⟨t,rfl⟩:=r
  exact call_range_1 (Fu I1 (by trivial) (by trivial) q1 q2 (by simpa using q))
def Ma (wi:TI) (g:TG) (tb:TS):TS:=fun D σ H=>wi σ H fun J H1=>∃W:Nat→Nat→St→Hp→Prop,(∃m,W 0 m σ H1)∧∀i m σ H,W i m σ H→
 (J.stop i H∧D.nx σ H)∨(J.go i H∧∃N:St→Hp→Prop,(∀σ' H',N σ' H'→∃m',m'<m∧W (i+1) m' σ' H')∧∀x H',J.yld i H x H'→g x σ H' fun σ2 H2=>tb { D with nx:=N,ct:=N,bk:=D.nx } σ2 H2)
def qx (fp:List Addr) (h:Heap):List (Addr×Obj):=fp.filterMap fun b=>(h.get? b).map fun o=>(b,o)
theorem gu {fp:List Addr}{h:Heap}{b:Addr}{o:Obj} (hb:b∈fp) (e:h.get? b=some o):(b,o)∈qx fp h:=List.mem_filterMap.mpr ⟨b,hb,by rw [e];rfl⟩
theorem Fg {fp:List Addr}{h:Heap}{p:Addr×Obj} (hp:p∈qx fp h):p.1∈fp∧h.get? p.1=some p.2:=by
 obtain ⟨b,hb,e⟩:=List.mem_filterMap.mp hp
 cases q:h.get? b with
 | none=>rw [q] at e;cases e
 | some o=>
  rw [q] at e
  have e':(b,o)=p:=Option.some.inj e
  subst e'
  exact ⟨hb,q⟩
theorem ai.pinned {pins:List (Addr×Obj)}{σ:St}{H:Hp}{s:Shared}{fp:List Addr} (I:ai X pins σ H s) (hf:∀b∈fp,jM X pins H b) (ho:∀b∈fp,∃o,s.heap.get? b=some o∧∀v,o.data≠.cell v):ai X (pins++qx fp s.heap) σ H s:=
 I.pins_of fun p hp=>(List.mem_append.mp hp).elim (fun z=>I.pin p (List.mem_append_right _ z)) fun z=>by
  obtain ⟨hb,e⟩:=Fg z
  obtain ⟨f0,f1,f2,_⟩:=hf p.1 hb
  obtain ⟨o,e',d⟩:=ho p.1 hb
  rw [e] at e';cases e'
  exact ⟨e,f0,f1,f2,d⟩
theorem ai.unpinned {pins pl:List (Addr×Obj)}{σ:St}{H:Hp}{s:Shared} (I:ai X (pins++pl) σ H s):ai X pins σ H s:=I.pins_of fun p hp=>I.pin p (List.mem_append_right _ (List.mem_append_left _ hp))
theorem jN {iter:Expr}{body:List Stmt}{wi:TI}{g:TG}{tb:TS}{pos:Pos} (hp:PassesOwn (model X.prog X.w) X.A X.env X.xe) (hc:X.calm=true) (hi:PI X tg iter wi) (hg:PG X tg g) (hb:sq X body tb)
 (hs:∀x,foldedSetIterable iter X.env x=pure x:=by intro _;rfl):PS X (.For tg iter body [] pos) (Ma wi g tb):=by
 intro pins s σ H D I h
 refine wpAny_For (aR (hi pins s σ H _ I h) fun v s1 h1=>aR h1 fun itv s2 h2=>?_) hs
 obtain ⟨it,fp,tn,J,H2,e,I2,T,st2,f2,W,⟨m0,w0⟩,turn⟩:=h2
 subst e
 have stat:∀{H':Hp},(∀b∈fp,H' b=none)→∀b∈fp,jM X pins H' b:=fun hn b hb=>⟨hn b hb,(f2 b hb).2⟩
 refine codeAny_forLoop_any (fun n s'=>∃i σ' H',ai X pins σ' H' s'∧tn i s'.heap∧(∀b∈fp,H' b=none)∧W i n σ' H') ?_ m0 ⟨0,σ,H2,I2,st2,fun b hb=>(f2 b hb).1,w0⟩
 rintro n s3 ⟨i,σ3,H3,I3,st3,fr3,w3⟩
 rcases turn i n σ3 H3 w3 with ⟨stop,qn⟩ | ⟨go,N,hN,step⟩
 ·refine wpAny_passesOwn hp (aR (T.done X rfl rfl rfl hc i pins s3 σ3 H3 X.xe I3 (stat fr3) st3 stop) fun r s4 ⟨hr,I4⟩=>?_)
  subst hr
  exact wpAny_execs_nil ⟨σ3,H3,I4,qn⟩
 ·refine wpAny_passesOwn hp (aR (T.item X rfl rfl rfl hc i pins s3 σ3 H3 X.xe I3 (stat fr3) st3 go) fun r s4 ⟨u,hr,h4⟩=>?_)
  subst hr
  refine wpAny_passesOwn hp (aR h4 fun _ s5 ⟨x,H5,I5,r5,y5,st5,fr5⟩=>?_)
  have I5':=I5.pinned (stat fr5) (T.obj _ _ st5)
  refine wpAny_passesOwn hp (aR (hg _ s5 σ3 H5 x u _ I5' r5 (step x H5 y5)) fun _ s6 ⟨σ6,H6,I6,q6⟩=>?_)
  refine wpAny_passesOwn hp (aR (hb _ s6 σ6 H6 _ I6 q6) fun f s7 q7=>?_)
  have again:∀{σ7:St}{H7:Hp},ai X (pins++qx fp s5.heap) σ7 H7 s7→N σ7 H7→∃m,m<n∧∃i σ' H',ai X pins σ' H' s7∧tn i s7.heap∧(∀b∈fp,H' b=none)∧W i m σ' H':=fun {σ7 H7} I7 n7=>by
   obtain ⟨m',hm,w7⟩:=hN σ7 H7 n7
   refine ⟨m',hm,i+1,σ7,H7,I7.unpinned,T.keep _ _ _ st5 fun b hb o e=>(I7.pin (b,o) (List.mem_append_right _ (List.mem_append_right _ (gu hb e)))).1,fun b hb=>?_,w7⟩
   obtain ⟨o,e,d⟩:=T.obj _ _ st5 b hb
   exact (I7.pin (b,o) (List.mem_append_right _ (List.mem_append_right _ (gu hb e)))).2.1
  cases f with
  | next=>obtain ⟨σ7,H7,I7,n7⟩:=q7;exact again I7 n7
  | cont=>obtain ⟨σ7,H7,I7,n7⟩:=q7;exact again I7 n7
  | brk=>obtain ⟨σ7,H7,I7,q7⟩:=q7;exact ⟨σ7,H7,I7.unpinned,q7⟩
  | ret v=>obtain ⟨x7,σ7,H7,I7,r7,q7⟩:=q7;exact ⟨x7,σ7,H7,I7.unpinned,r7,q7⟩
end
theorem nv {K:PySem.W.Frag}{a:Addr}{xs:List V}{g:TG}{tb:TS}{D:gl}{σ:St}{H:Hp} (Pv:Nat→St→Hp→Prop) (h0:Pv 0 σ H) (hl:∀i σ H,i≤xs.length→Pv i σ H→ak K H a xs)
 (hs:∀i x σ H,xs[i]?=some x→Pv i σ H→g x σ H fun σ2 H2=>tb { D with nx:=Pv (i+1),ct:=Pv (i+1),bk:=D.nx } σ2 H2) (hd:∀σ H,Pv xs.length σ H→D.nx σ H) :
 ∃W:Nat→Nat→St→Hp→Prop,(∃m,W 0 m σ H)∧∀i m σ H,W i m σ H→
  ((Cw K a).stop i H∧D.nx σ H)∨((Cw K a).go i H∧∃N:St→Hp→Prop,(∀σ' H',N σ' H'→∃m',m'<m∧W (i+1) m' σ' H')∧∀x H',(Cw K a).yld i H x H'→g x σ H' fun σ2 H2=>tb { D with nx:=N,ct:=N,bk:=D.nx } σ2 H2):=by
 refine ⟨fun i m σ H=>m=xs.length - i∧i≤xs.length∧Pv i σ H,⟨xs.length,by simp,Nat.zero_le _,h0⟩,?_⟩
 rintro i m σ H ⟨rfl,hi,p⟩
 have q:=hl i σ H hi p
 by_cases hlt:i<xs.length
 ·refine .inr ⟨⟨xs,xs[i],q,by simp [hlt]⟩,Pv (i+1),fun σ' H' p'=>⟨xs.length - (i+1),by trivial,rfl,hlt,p'⟩,fun x H' y=>?_⟩
  obtain ⟨e,y⟩:=y
  subst e
  exact hs i x σ _ (y xs q) p
 ·have e:i=xs.length:=by trivial
  subst e
  exact .inl ⟨⟨xs,q,Nat.le_refl _⟩,hd σ H p⟩
theorem zL {lo:Int}{n:Nat}{g:TG}{tb:TS}{D:gl}{σ:St}{H:Hp} (Pv:Nat→St→Hp→Prop) (h0:Pv 0 σ H)
 (hs:∀i σ H,i<n→Pv i σ H→g (.int (lo+i)) σ H fun σ2 H2=>tb { D with nx:=Pv (i+1),ct:=Pv (i+1),bk:=D.nx } σ2 H2) (hd:∀σ H,Pv n σ H→D.nx σ H) :
 ∃W:Nat→Nat→St→Hp→Prop,(∃m,W 0 m σ H)∧∀i m σ H,W i m σ H→
  ((A3 lo n).stop i H∧D.nx σ H)∨((A3 lo n).go i H∧∃N:St→Hp→Prop,(∀σ' H',N σ' H'→∃m',m'<m∧W (i+1) m' σ' H')∧∀x H',(A3 lo n).yld i H x H'→g x σ H' fun σ2 H2=>tb { D with nx:=N,ct:=N,bk:=D.nx } σ2 H2):=by
 refine ⟨fun i m σ H=>m=n - i∧i≤n∧Pv i σ H,⟨n,by simp,Nat.zero_le _,h0⟩,?_⟩
 rintro i m σ H ⟨rfl,hi,p⟩
 by_cases hlt:i<n
 ·refine .inr ⟨hlt,Pv (i+1),fun σ' H' p'=>⟨n - (i+1),by trivial,rfl,hlt,p'⟩,fun x H' y=>?_⟩
  obtain ⟨e,y⟩:=y
  subst e y
  exact hs i σ _ hlt p
 ·have e:i=n:=by trivial
  subst e
  exact .inl ⟨Nat.le_refl _,hd σ H p⟩
abbrev R2:=V→V→Hp→VK→Prop
def dA (X:Cx) (f:Value→Value→Sem Value) (r:R2):Prop:=
 ∀(pins:List (Addr×Obj)) (s:Shared) (σ:St) (H:Hp) (x y:V) (v u:Value) (Q:VK),ai X pins σ H s→be x v→be y u→r x y H Q→
   wpAny (model X.prog X.w) X.A (f v u) (EP X pins σ Q) X.xe s
def IQ (X:Cx) (f:Value→Sem Value) (r:V→Hp→VK→Prop):Prop:=
 ∀(pins:List (Addr×Obj)) (s:Shared) (σ:St) (H:Hp) (x:V) (v:Value) (Q:VK),ai X pins σ H s→be x v→r x H Q→
   wpAny (model X.prog X.w) X.A (f v) (EP X pins σ Q) X.xe s
def fk (X:Cx) (f:Value) (r:List V→Hp→VK→Prop):Prop:=
 ∀(pins:List (Addr×Obj)) (s:Shared) (σ:St) (H:Hp) (xs:List V) (us:List Value) (Q:VK),ai X pins σ H s→aL xs us→r xs H Q→
   wpAny (model X.prog X.w) X.A (call f us) (EP X pins σ Q) X.xe s
def EY (r:R2) (ta tb:TE):TE:=fun σ H Q=>ta σ H fun x H1=>tb σ H1 fun y H2=>r x y H2 Q
def MF (r:V→Hp→VK→Prop) (ta:TE):TE:=fun σ H Q=>ta σ H fun x H1=>r x H1 Q
inductive MO (C:Int→Int→Prop) (g:Int→Int→V) (x:V) (y:V) (H:Hp) (Q:VK):Prop
 | mk (i:_) (j:_) (h0:x=.int i) (h1:y=.int j) (h2:C i j) (h3:Q (g i j) H)
def rI (C:Int→Int→Prop) (g:Int→Int→V):R2:=fun x y H Q=>MO C g x y H Q
inductive LI (g:Int→Int→V) (x:V) (y:V) (H:Hp) (Q:VK):Prop
 | mk (i:_) (j:_) (h0:x=.int i) (h1:y=.int j) (h2:Q (g i j) H)
def zz (g:Int→Int→V):R2:=fun x y H Q=>LI g x y H Q
def rU (g:Int→V):V→Hp→VK→Prop:=fun x H Q=>Iz x fun i=>Q (g i) H
section
variable {X:Cx}{a b c:Expr}{ta tb tc:TE}{pos:Pos}
theorem F9 (ha:PE X a ta) (hb:PE X b tb) {pins:List (Addr×Obj)}{s:Shared}{σ:St}{H:Hp}{R:V→V→Hp→Prop} (I:ai X pins σ H s)
 (h:ta σ H fun x H1=>tb σ H1 fun y H2=>R x y H2) {Q:Value→Shared→Prop}{f:Value→Value→Sem Value}
 (hf:∀v u s2 x y H2,ai X pins σ H2 s2→be x v→be y u→R x y H2→wpAny (model X.prog X.w) X.A (f v u) Q X.xe s2) :
 wpAny (model X.prog X.w) X.A (eval a X.env) (fun v s₁=>wpAny (model X.prog X.w) X.A (eval b X.env) (fun u s₂=>wpAny (model X.prog X.w) X.A (f v u) Q X.xe s₂) X.xe s₁) X.xe s:=by
 refine aR (ha pins s σ H _ I h) fun v s1 ⟨x,H1,I1,r1,q1⟩=>?_
 refine aR (hb pins s1 σ H1 _ I1 q1) fun u s2 ⟨y,H2,I2,r2,q2⟩=>?_
 exact hf v u s2 x y H2 I2 r1 r2 q2
theorem aC {op:Operator}{r:R2} (ho:dA X (binaryOp op) r) (ha:PE X a ta) (hb:PE X b tb):PE X (.BinOp a op b pos) (EY r ta tb):=by
 intro pins s σ H Q I h
 exact wpAny_BinOp (F9 ha hb I h fun v u s2 x y H2 I2 rx ry q=>ho pins s2 σ H2 x y v u Q I2 rx ry q)
theorem xJ {op:UnaryOp}{r:V→Hp→VK→Prop} (ho:IQ X (unaryOp op) r) (ha:PE X a ta):PE X (.UnaryOp op a pos) (MF r ta):=by
 intro pins s σ H Q I h
 exact UnaryOp_ (aR (ha pins s σ H _ I h) fun v s1 ⟨x,H1,I1,r1,q1⟩=>ho pins s1 σ H1 x v Q I1 r1 q1)
theorem z9 {f:Value→Value→Sem Value}{C:Int→Int→Prop}{g:Int→Int→Int}
 (rule:∀(i j:Int) (t u:Tok) (s:Shared) (Q:Value→Shared→Prop) (E:Value→Shared→Prop),C i j→Q (.int (g i j) s.toks) { s with toks:=s.toks+1 }→wpAny (model X.prog X.w) X.A (f (.int i t) (.int j u)) Q E s) :
 dA X f (rI C fun i j=>.int (g i j)):=by
 intro pins s σ H x y v u Q I rx ry h
 obtain ⟨i,j,rfl,rfl,hc,q⟩:=h
 obtain ⟨t,rfl⟩:=rx
 obtain ⟨t',rfl⟩:=ry
 exact rule i j t t' s _ _ hc ⟨.int (g i j),H,I.tok _,⟨()⟩,q⟩
theorem Ja {f:Value→Value→Sem Value}{g:Int→Int→Int}
 (rule:∀(i j:Int) (t u:Tok) (s:Shared) (Q:Value→Shared→Prop) (E:Value→Shared→Prop),Q (.int (g i j) s.toks) { s with toks:=s.toks+1 }→wpAny (model X.prog X.w) X.A (f (.int i t) (.int j u)) Q E s) :
 dA X f (zz fun i j=>.int (g i j)):=by
 intro pins s σ H x y v u Q I rx ry h
 obtain ⟨i,j,rfl,rfl,q⟩:=h
 obtain ⟨t,rfl⟩:=rx
 obtain ⟨t',rfl⟩:=ry
 exact rule i j t t' s _ _ ⟨.int (g i j),H,I.tok _,⟨()⟩,q⟩
theorem Dq {f:Value→Value→Sem Value}{g:Int→Int→Bool}
 (rule:∀(i j:Int) (t u:Tok) (s:Shared) (Q:Value→Shared→Prop) (E:Value→Shared→Prop),Q (.bool (g i j)) s→wpAny (model X.prog X.w) X.A (f (.int i t) (.int j u)) Q E s) :
 dA X f (zz fun i j=>.bl (g i j)):=by
 intro pins s σ H x y v u Q I rx ry h
 obtain ⟨i,j,rfl,rfl,q⟩:=h
 obtain ⟨t,rfl⟩:=rx
 obtain ⟨t',rfl⟩:=ry
 exact rule i j t t' s _ _ ⟨.bl (g i j),H,I,rfl,q⟩
def LZ (i j:Int):Prop:=0<j∧j<1073741824
def LP (i j:Int):Prop:=0≤j∧j≤1000000∧i.natAbs<2 ^ 64
def Gj (i j:Int):Prop:=(-(2 ^ 64)<i∧i<2 ^ 64)∨(-(2 ^ 64)<j∧j<2 ^ 64)
theorem Gj.ok {i j:Int} (h:Gj i j):IntMulOk i j:=by
 rcases h with ⟨h1,h2⟩ | ⟨h1,h2⟩
 ·exact .of_left (intBits_le_64 h1 h2)
 ·exact .of_right (intBits_le_64 h1 h2)
theorem iE:dA X (binaryOp .Add) (zz fun i j=>.int (i+j)):=Ja fun _ _ _ _ _ _ _ q=>add_int q
theorem xY:dA X (binaryOp .Sub) (zz fun i j=>.int (i - j)):=Ja fun _ _ _ _ _ _ _ q=>sub_int q
theorem kL:dA X (binaryOp .Mult) (rI Gj fun i j=>.int (i*j)):=z9 fun _ _ _ _ _ _ _ hc q=>mul_int q hc.ok
theorem HS:dA X (binaryOp .FloorDiv) (rI LZ fun i j=>.int (i / j)):=z9 fun i j _ _ _ _ _ hc q=>by
 have h1:(0:Int)<j:=hc.1
 have h2:j<1073741824:=hc.2
 exact floordiv_int (by trivial) (by rw [Int.fdiv_eq_ediv_of_nonneg i (by trivial)];exact q) (.inl (PyProof.noPylong_small (by trivial)))
theorem oA:dA X (binaryOp .Mod) (rI (fun _ j=>0<j) fun i j=>.int (i % j)):=z9 fun i j _ _ _ _ _ hc q=>by
 have h1:(0:Int)<j:=hc
 exact mod_int' (by trivial) (by rw [Int.fmod_eq_emod_of_nonneg i (by trivial)];exact q)
theorem Hq:dA X (binaryOp .Mod) (rI (fun _ j=>j≠0) fun i j=>.int (i.fmod j)):=z9 fun _ _ _ _ _ _ _ hc q=>mod_int' hc q
theorem E7:dA X (binaryOp .Pow) (rI LP fun i j=>.int (i ^ j.toNat)):=z9 fun _ _ _ _ _ _ _ hc q=>pow_int_small hc.1 hc.2.1 hc.2.2 q
theorem MG {f:Value→Sem Value}{g:Int→Int}
 (rule:∀(i:Int) (t:Tok) (s:Shared) (Q:Value→Shared→Prop) (E:Value→Shared→Prop),Q (.int (g i) s.toks) { s with toks:=s.toks+1 }→wpAny (model X.prog X.w) X.A (f (.int i t)) Q E s) :
 IQ X f (rU fun i=>.int (g i)):=by
 intro pins s σ H x v Q I rx h
 obtain ⟨i,rfl,q⟩:=h
 obtain ⟨t,rfl⟩:=rx
 exact rule i t s _ _ ⟨.int (g i),H,I.tok _,⟨()⟩,q⟩
theorem vU:IQ X (unaryOp .USub) (rU fun i=>.int (-i)):=MG fun _ _ _ _ _ q=>neg_int q
end
def IL:V→V→Bool
 | .non,.non=>true | .non,.int _=>true | .int _,.non=>true | .non,.bl _=>true | .bl _,.non=>true | .non,.str _=>true | .str _,.non=>true
 | .int _,.int _=>true | .bl _,.bl _=>true | .str _,.str _=>true | .byt _,.byt _=>true
 | .int _,.str _=>true | .str _,.int _=>true | .bl _,.str _=>true | .str _,.bl _=>true
 | _,_=>false
def MN:R2:=fun x y H Q=>IL x y=true∧Q (.bl (decide (x=y))) H
def MJ:R2:=fun x y H Q=>IL x y=true∧Q (.bl (!decide (x=y))) H
theorem Cq {i j:Int}:decide (V.int i=V.int j)=(i==j):=by
 rw [Bool.eq_iff_iff]
 simp
theorem Eu {i j:Bool}:decide (V.bl i=V.bl j)=(i==j):=by
 rw [Bool.eq_iff_iff]
 simp
theorem jn {i j:Str}:decide (V.str i=V.str j)=(i==j):=by
 rw [Bool.eq_iff_iff]
 simp
theorem Cd {i j:Array UInt8}:decide (V.byt i=V.byt j)=(i.toList==j.toList):=by
 rw [Bool.eq_iff_iff]
 cases i
 cases j
 simp
section
variable {X:Cx}{a b c:Expr}{ta tb tc:TE}{pos:Pos}
theorem bO {pins:List (Addr×Obj)}{σ:St}{H:Hp}{s:Shared}{Q:VK}{k k':Bool} (I:ai X pins σ H s) (q:Q (.bl k) H) (e:k=k'):EP X pins σ Q (.bool k') s:=by
 subst e
 exact ⟨.bl k,H,I,rfl,q⟩
theorem ij:dA X (compareOp .Eq) MN:=by
 intro pins s σ H x y v u Q I rx ry h
 obtain ⟨hs,q⟩:=h
 cases x with
 | non=>
  cases rx
  cases y with
  | non=>cases ry;exact PySem.EqNone.eq_none_none (bO I q (by simp))
  | bl j=>cases ry;exact PySem.EqNone.eq_none_bool (bO I q (by simp))
  | int j=>obtain ⟨t',rfl⟩:=ry;exact PySem.EqNone.eq_none_int (bO I q (by simp))
  | str j=>obtain ⟨t',rfl⟩:=ry;exact PySem.EqNone.eq_none_str (bO I q (by simp))
  | _=>exact absurd (show false=true from hs) Bool.false_ne_true
 | bl i=>
  cases rx
  cases y with
  | non=>cases ry;exact PySem.EqNone.eq_bool_none (bO I q (by simp))
  | bl j=>cases ry;exact eq_bool (bO I q Eu)
  | str j=>obtain ⟨t',rfl⟩:=ry;exact PySem.EqMixed.eq_bool_str (bO I q (by simp))
  | _=>exact absurd (show false=true from hs) Bool.false_ne_true
 | int i=>
  obtain ⟨t,rfl⟩:=rx
  cases y with
  | non=>cases ry;exact PySem.EqNone.eq_int_none (bO I q (by simp))
  | int j=>obtain ⟨t',rfl⟩:=ry;exact eq_int (bO I q Cq)
  | str j=>obtain ⟨t',rfl⟩:=ry;exact PySem.EqMixed.eq_int_str (bO I q (by simp))
  | _=>exact absurd (show false=true from hs) Bool.false_ne_true
 | str i=>
  obtain ⟨t,rfl⟩:=rx
  cases y with
  | non=>cases ry;exact PySem.EqNone.eq_str_none (bO I q (by simp))
  | bl j=>cases ry;exact PySem.EqMixed.eq_str_bool (bO I q (by simp))
  | int j=>obtain ⟨t',rfl⟩:=ry;exact PySem.EqMixed.eq_str_int (bO I q (by simp))
  | str j=>obtain ⟨t',rfl⟩:=ry;exact eq_str (bO I q jn)
  | _=>exact absurd (show false=true from hs) Bool.false_ne_true
 | byt i=>
  obtain ⟨t,rfl⟩:=rx
  cases y with
  | byt j=>obtain ⟨t',rfl⟩:=ry;exact PySem.W.eq_bytes (bO I q Cd)
  | _=>exact absurd (show false=true from hs) Bool.false_ne_true
 | _=>cases y <;> exact absurd (show false=true from hs) Bool.false_ne_true
theorem wp:dA X (compareOp .NotEq) MJ:=by
 intro pins s σ H x y v u Q I rx ry h
 obtain ⟨hs,q⟩:=h
 cases x with
 | non=>
  cases rx
  cases y with
  | non=>cases ry;exact PySem.EqNone.ne_none_none (bO I q (by simp))
  | bl j=>cases ry;exact PySem.EqNone.ne_none_bool (bO I q (by simp))
  | int j=>obtain ⟨t',rfl⟩:=ry;exact PySem.EqNone.ne_none_int (bO I q (by simp))
  | str j=>obtain ⟨t',rfl⟩:=ry;exact PySem.EqNone.ne_none_str (bO I q (by simp))
  | _=>exact absurd (show false=true from hs) Bool.false_ne_true
 | bl i=>
  cases rx
  cases y with
  | non=>cases ry;exact PySem.EqNone.ne_bool_none (bO I q (by simp))
  | bl j=>cases ry;exact ne_bool (bO I q (congrArg not Eu))
  | str j=>obtain ⟨t',rfl⟩:=ry;exact PySem.EqMixed.ne_bool_str (bO I q (by simp))
  | _=>exact absurd (show false=true from hs) Bool.false_ne_true
 | int i=>
  obtain ⟨t,rfl⟩:=rx
  cases y with
  | non=>cases ry;exact PySem.EqNone.ne_int_none (bO I q (by simp))
  | int j=>obtain ⟨t',rfl⟩:=ry;exact ne_int (bO I q (congrArg not Cq))
  | str j=>obtain ⟨t',rfl⟩:=ry;exact PySem.EqMixed.ne_int_str (bO I q (by simp))
  | _=>exact absurd (show false=true from hs) Bool.false_ne_true
 | str i=>
  obtain ⟨t,rfl⟩:=rx
  cases y with
  | non=>cases ry;exact PySem.EqNone.ne_str_none (bO I q (by simp))
  | bl j=>cases ry;exact PySem.EqMixed.ne_str_bool (bO I q (by simp))
  | int j=>obtain ⟨t',rfl⟩:=ry;exact PySem.EqMixed.ne_str_int (bO I q (by simp))
  | str j=>obtain ⟨t',rfl⟩:=ry;exact ne_str (bO I q (congrArg not jn))
  | _=>exact absurd (show false=true from hs) Bool.false_ne_true
 | byt i=>
  obtain ⟨t,rfl⟩:=rx
  cases y with
  | byt j=>obtain ⟨t',rfl⟩:=ry;exact PySem.W.ne_bytes (bO I q (congrArg not Cd))
  | _=>exact absurd (show false=true from hs) Bool.false_ne_true
 | _=>cases y <;> exact absurd (show false=true from hs) Bool.false_ne_true
theorem re:dA X (compareOp .Lt) (zz fun i j=>.bl (decide (i<j))):=Dq fun _ _ _ _ _ _ _ q=>lt_int q
theorem GA:dA X (compareOp .LtE) (zz fun i j=>.bl (decide (i≤j))):=Dq fun _ _ _ _ _ _ _ q=>le_int q
theorem qW:dA X (compareOp .Gt) (zz fun i j=>.bl (decide (j<i))):=Dq fun _ _ _ _ _ _ _ q=>gt_int q
theorem Dc:dA X (compareOp .GtE) (zz fun i j=>.bl (decide (j≤i))):=Dq fun _ _ _ _ _ _ _ q=>ge_int q
theorem vh:dA X (compareOp .Is) (fun x y H Q=>y=.non∧Q (.bl (decide (x=.non))) H):=by
 intro pins s σ H x y v u Q I rx ry h
 obtain ⟨rfl,q⟩:=h
 cases ry
 refine is_none_gen (bO I q ?_)
 cases x <;> first
  | (cases rx;rfl)
  | (obtain ⟨t,rfl⟩:=rx;rfl)
theorem oF (b:Expr) {op:CmpOp} (h:op≠.In:=by decide) (h2:op≠.NotIn:=by decide):behindInMarks op b=false:=by
 have e1:(op==CmpOp.In)=false:=by cases op <;> first | rfl | exact absurd rfl h
 have e2:(op==CmpOp.NotIn)=false:=by cases op <;> first | rfl | exact absurd rfl h2
 cases b <;> simp [behindInMarks,e1,e2]
theorem cn {op:CmpOp}{r:R2} (ho:dA X (compareOp op) r) (ha:PE X a ta) (hb:PE X b tb) (hm:behindInMarks op b=false):PE X (.Compare a [op] [b] pos) (EY r ta tb):=by
 intro pins s σ H Q I h
 exact wpAny_Compare1 (F9 ha hb I h fun v u s2 x y H2 I2 rx ry q=>ho pins s2 σ H2 x y v u Q I2 rx ry q) hm
def Kb (t:TE):TT:=fun σ H Q=>t σ H fun x H'=>Dj x fun k=>Q k H'
theorem aK {op:CmpOp}{r:R2} (ho:dA X (compareOp op) r) (ha:PE X a ta) (hb:PE X b tb) (hm:behindInMarks op b=false):PT X (.Compare a [op] [b] pos) (Kb (EY r ta tb)):=by
 intro pins s σ H Q I h
 refine wpAny_isTrue_Compare1 (aR (ha pins s σ H _ I h) fun v s1 ⟨x,H1,I1,r1,q1⟩=>aR (hb pins s1 σ H1 _ I1 q1) fun u s2 ⟨y,H2,I2,r2,q2⟩=>
  aR (ho pins s2 σ H2 x y v u _ I2 r1 r2 q2) fun c s3 ⟨z,H3,I3,r3,k,e,q3⟩=>?_) hm
 subst e
 cases r3
 exact wpAny_truthy_bool ⟨H3,I3,q3⟩
theorem uX:(sizeLine:Nat)<2 ^ 63:=by rw [sizeLine_eq];decide
theorem Db:dA X (binaryOp .Add) (fun x y H Q=>bI fun i j=>x=.str i∧y=.str j∧i.length+j.length≤sizeLine∧Q (.str (i++j)) H):=by
 intro pins s σ H x y v u Q I rx ry h
 obtain ⟨i,j,rfl,rfl,hz,q⟩:=h
 obtain ⟨t,rfl⟩:=rx
 obtain ⟨t',rfl⟩:=ry
 exact add_str (fun t' tk=>⟨.str (i++j),H,I.tok _,⟨()⟩,q⟩) hz
theorem qQ {x:V}{us:List Value} (r:aL [x] us):∃u,us=[u]∧be x u:=by
 cases r with
 | cons r1 r2=>cases r2;exact ⟨_,rfl,r1⟩
theorem Gz {x y:V}{us:List Value} (r:aL [x,y] us):bI fun u w'=>us=[u,w']∧be x u∧be y w':=by
 cases r with
 | cons r1 r2=>
  cases r2 with
  | cons r3 r4=>cases r4;exact ⟨_,_,rfl,r1,r3⟩
theorem qo:fk X (.builtin "abs") (fun xs H Q=>∃i,xs=[.int i]∧Q (.int (if i<0 then -i else i)) H):=by
 intro pins s σ H xs us Q I r h
 obtain ⟨i,rfl,q⟩:=h
 obtain ⟨u,rfl,t,rfl⟩:=qQ r
 exact call_abs_int fun u tk=>⟨.int (if i<0 then -i else i),H,I.tok _,⟨()⟩,q⟩
theorem Ef (hc:X.calm=true):fk X (.builtin "max") (fun xs H Q=>bI fun i j=>xs=[.int i,.int j]∧Q (.int (if j > i then j else i)) H):=by
 intro pins s σ H xs us Q I r h
 obtain ⟨i,j,rfl,q⟩:=h
 obtain ⟨u,w',rfl,⟨t,rfl⟩,⟨t',rfl⟩⟩:=Gz r
 refine max_two_ints (I.ok.hd hc) fun h' tk k=>⟨_,H,I.kept k,?_,q⟩
 by_cases hj:j > i
 ·rw [if_pos hj,if_pos hj];exact ⟨()⟩
 ·rw [if_neg hj,if_neg hj];exact ⟨()⟩
theorem zH:fk X (.type "int") (fun xs H Q=>(∃i,xs=[.int i]∧Q (.int i) H)∨∃k,xs=[.bl k]∧Q (.int (if k then 1 else 0)) H):=by
 intro pins s σ H xs us Q I r h
 rcases h with ⟨i,rfl,q⟩ | ⟨k,rfl,q⟩
 ·obtain ⟨u,rfl,t,rfl⟩:=qQ r
  exact call_int_int ⟨.int i,H,I,⟨()⟩,q⟩
 ·obtain ⟨u,rfl,r1⟩:=qQ r
  cases r1
  exact call_int_bool ⟨.int (if k then 1 else 0),H,I.tok _,⟨()⟩,q⟩
end
structure FL (h:Heap) (x dx C:Addr) (mA:Str→Option Value):Prop where
 obj:h.get? x=some (PySem.W.instObj C dx)
 ns:h.Ns1 dx mA
 ne:dx≠x
theorem En {h:Heap}{dx:Addr}{mA:Str→Option Value} (n:h.Ns1 dx mA):∃od,h.get? dx=some od∧∀name,PySem.W.lookIn name od=some (mA name):=by
 obtain ⟨o,es,ep,ho,hd,hk,_,hm⟩:=n
 refine ⟨o,ho,fun name=>?_⟩
 have e:=hm name
 unfold nsFind findBy at e
 rw [←Array.find?_toList] at e
 unfold PySem.W.lookIn
 rw [hd]
 dsimp only
 split
 ·rename_i y q
  rw [q] at e
  exact congrArg some e
 ·rename_i q
  rw [q] at e
  have a:es.toList.any (·.refKey)=false:=by
   rw [List.any_eq_false]
   intro y hy
   obtain ⟨z,t,hkey⟩:=hk y (Array.mem_toList_iff.mp hy)
   simp [DictEntry.refKey,hkey]
  have a':¬es.toList.any (·.refKey)=true:=by rw [a];exact Bool.false_ne_true
  rw [if_neg a']
  exact congrArg some e
theorem FL.look {h:Heap}{x dx C:Addr}{mA:Str→Option Value} (I:FL h x dx C mA):∃od,PySem.W.InstAt h x (PySem.W.instObj C dx) C (some od)∧∀name,PySem.W.lookIn name od=some (mA name):=
 let ⟨od,ho,hl⟩:=En I.ns
 ⟨od,⟨I.obj,rfl,rfl,ho⟩,hl⟩
section
variable {prog:Program}{w:World}{A:Around}{E:Value→Shared→Prop}{s:Shared}{K:PySem.W.Frag}{x dx C f:Addr}{mA:Str→Option Value}{name:Str}{v:Value}
end
theorem uS.some_of {v:V}{o:Option Value} (r:uS (some v) o):∃u,o=some u∧be v u:=by
 cases o with
 | none=>exact (show False from r).elim
 | some u=>exact ⟨u,rfl,r⟩
section
variable {P:Program}{w:World}{H H':Hp}{h h':Heap}{a C dx:Addr}{fs fs':List (Str×V)}
theorem GY (hok:gh P w H h) (e:H a=some (.ins C dx fs)):∃mA,FL h a dx C mA∧(∀f,uS (fs.lookup f) (mA f))∧PySem.Within mA (fs.map (·.1))∧fs.length≤1000∧H dx=some (.own a):=by
 obtain ⟨d,z,ne,ob,mA,n,r,q⟩:=(show bK P w H h a (.ins C dx fs) from hok a _ e)
 exact ⟨mA,⟨ob,n,ne⟩,r,q,z,d⟩
end
structure Ip (K:PySem.W.Frag) (C:Addr):Prop where
 pg:PySem.W.plainGet K C Str.empty=true
 hd:PySem.W.hasDictIn K C=true
 po:PySem.W.plainOver K C=true
 sa:PySem.W.findIn K (.ref C) "__setattr__" = some (some (.builtin "object.__setattr__"))
theorem Ip.get {K:PySem.W.Frag}{C:Addr} (c:Ip K C) (f:Str):PySem.W.plainGet K C f=true:=c.pg
section
variable {X:Cx}{pins:List (Addr×Obj)}{σ:St}{H:Hp}{s:Shared}{a C dx:Addr}{fs:List (Str×V)}{f:Str}{v:V}{A:Around}{E:Value→Shared→Prop}
end
section
variable {X:Cx}{o e value:Expr}{f:Str}{pos pos' tpos:Pos}{ta tv:TE}
end
section
variable {X:Cx}{pins:List (Addr×Obj)}{σ:St}{H:Hp}{s:Shared}{A:Around}{E:Value→Shared→Prop}{Q:Value→Shared→Prop}{c:Value}{b:Bool}
inductive ku (K:PySem.W.Frag) (H:Hp):V→Value→Prop where
 | non:ku K H .non (.type "NoneType")
 | bl (x:Bool):ku K H (.bl x) (.type "bool")
 | int (i:Int):ku K H (.int i) (.type "int")
 | str (x:Str):ku K H (.str x) (.type "str")
 | flt (x:UInt64):ku K H (.flt x) (.type "float")
 | lst {a:Addr}{xs:List V} (e:H a=some (.lst xs)):ku K H (.ref a) (.type "list")
 | frz {a:Addr}{o:Obj}{xs:List V} (e:H a=some (.frz o (.lst xs))):ku K H (.ref a) (.type "list")
 | tup {a:Addr}{xs:List V} (e:H a=some (.tup xs)):ku K H (.ref a) (.type "tuple")
 | dK {a:Addr}{kvs:List (aY×V)} (e:H a=some (.dK kvs)):ku K H (.ref a) (.type "dict")
 | dT {a:Addr}{kvs:List (List aY×V)} (e:H a=some (.dT kvs)):ku K H (.ref a) (.type "dict")
 | ins {a C dx:Addr}{fs:List (Str×V)} (e:H a=some (.ins C dx fs)) (cl:Ip K C) (ha:PySem.W.findIn K (.ref C) "__class__" = some (some (.builtin "object.__class__")))
  (hn:PySem.W.specialIn K (.builtin "object.__class__") "__get__" = some (some (.builtin "getset_descriptor.__get__"))) (htk:PySem.W.takesIn K (.builtin "object.__class__")=some true)
  (hm:PySem.W.mroIn K C (.type "object")=some true):ku K H (.ref a) (.ref C)
theorem Ez {x:V}{u t:Value} (I:ai X pins σ H s) (rx:be x u) (ty:ku X.K H x t) (e:PySem.W.kitOne X.K t c=some b) (h:∀tk,Q (.bool b) { s with toks:=tk }) :
 wpAny (model X.prog X.w) A (call (.builtin "isinstance") [u,c]) Q E s:=by
 cases ty with
 | non=>cases (show u=Value.none from rx);exact PySem.W.kia_one PySem.W.kitx_none I.kIn True.intro e (fun z=>nomatch z) h
 | bl y=>cases (show u=Value.bool y from rx);exact PySem.W.kia_one PySem.W.kitx_bool I.kIn True.intro e (fun z=>nomatch z) h
 | int i=>obtain ⟨t,q⟩:=(show ∃t,u=Value.int i t from rx);cases q;exact PySem.W.kia_one PySem.W.kitx_int I.kIn True.intro e (fun z=>nomatch z) h
 | str y=>obtain ⟨t,q⟩:=(show ∃t,u=Value.str y t from rx);cases q;exact PySem.W.kia_one PySem.W.kitx_str I.kIn True.intro e (fun z=>nomatch z) h
 | flt y=>obtain ⟨t,q⟩:=(show ∃t,u=Value.float y t from rx);cases q;exact PySem.W.kia_one PySem.W.kitx_float I.kIn True.intro e (fun z=>nomatch z) h
 | @lst a xs ea=>
  cases (show u=Value.ref a from rx)
  obtain ⟨_,_,n,_,h1⟩:=(show bK X.prog X.w H s.heap a (.lst xs) from I.hok a _ ea)
  exact PySem.W.kia_one PySem.W.kitx_list I.kIn ⟨_,h1,rfl⟩ e (fun z=>nomatch z) h
 | @frz a ob xs ea=>
  cases (show u=Value.ref a from rx)
  obtain ⟨_,_,_,n,_,h1⟩:=(show bK X.prog X.w H s.heap a (.frz ob (.lst xs)) from I.hok a _ ea)
  exact PySem.W.kia_one PySem.W.kitx_list I.kIn ⟨_,h1,rfl⟩ e (fun z=>nomatch z) h
 | @tup a xs ea=>
  cases (show u=Value.ref a from rx)
  obtain ⟨_,_,_,p,_⟩:=(show bK X.prog X.w H s.heap a (.tup xs) from I.hok a _ ea)
  obtain ⟨o,h1,h2,_⟩:=p
  exact PySem.W.kia_one PySem.W.kitx_tuple I.kIn ⟨o,h1,h2⟩ e (fun z=>nomatch z) h
 | @dK a kvs ea=>
  cases (show u=Value.ref a from rx)
  obtain ⟨_,_,vs,_,p⟩:=(show bK X.prog X.w H s.heap a (.dK kvs) from I.hok a _ ea)
  obtain ⟨o,es,ep,h1,h2,_⟩:=p
  exact PySem.W.kia_one PySem.W.kitx_dict I.kIn ⟨o,h1,h2.1⟩ e (fun z=>nomatch z) h
 | @dT a kvs ea=>
  cases (show u=Value.ref a from rx)
  obtain ⟨_,_,xs,_,o,es,ep,h1,h2,_⟩:=(show bK X.prog X.w H s.heap a (.dT kvs) from I.hok a _ ea)
  exact PySem.W.kia_one PySem.W.kitx_dict I.kIn ⟨o,h1,h2.1⟩ e (fun z=>nomatch z) h
 | @ins a C dx fs ea cl ha hn htk hm=>
  cases (show u=Value.ref a from rx)
  obtain ⟨mA,O,_⟩:=GY I.hok ea
  obtain ⟨od,J,_⟩:=O.look
  exact PySem.W.kia_one (PySem.W.kitx_own (cl.get _) cl.hd ha hn htk hm) I.kIn J e (fun z=>nomatch z) h
end
structure i9 (k:Nat) (A:Around):Prop where
 hd:A.handled=none
 dp:A.depth+3*k+5<recursionLimit
 un:A.units+16*k+200<cLine
 gd:A.guards=some []
theorem i9.mono {j k:Nat}{A:Around} (r:i9 k A) (h:j≤k):i9 j A:=⟨r.hd,by have:=r.dp;trivial,by have:=r.un;trivial,r.gd⟩
theorem i9.deeper {k:Nat}{A:Around} (r:i9 (k+1) A) (env:Env):i9 k (A.deeper env):=
 ⟨r.hd,by have:=r.dp;show A.depth+1+3*k+5<_;trivial,by have:=r.un;show A.units+3+16*k+200<_;trivial,r.gd⟩
theorem i9.depth {k:Nat}{A:Around} (r:i9 k A):A.depth<recursionLimit:=by have:=r.dp;trivial
theorem i9.units {k:Nat}{A:Around} (r:i9 k A):A.units+64<cLine:=by have:=r.un;trivial
def u9:TA:=fun _ H Q=>Q [] H
def kX (ta:TE) (tr:TA):TA:=fun σ H Q=>ta σ H fun x H1=>tr σ H1 fun xs H2=>Q (x :: xs) H2
section
variable {X:Cx}{e:Expr}{es:List Expr}{te:TE}{t:TA}{pos:Pos}
theorem cj:PA X [] u9:=fun _ _ _ _ H Q I h=>Calls.spliced_nil ⟨[],H,I,.nil,h⟩
theorem bT (ha:PE X e te) (hr:PA X es t) (hs:starEach (e :: es) X.env=(false,eval e X.env) :: starEach es X.env:=by rfl):PA X (e :: es) (kX te t):=by
 intro pos pins s σ H Q I h
 rw [hs]
 show wpAny _ _ (spliced ((false,eval e X.env) :: backTo pos (starEach es X.env))) _ _ s
 refine Calls.spliced_cons (aR (ha pins s σ H _ I h) fun u s1 ⟨x,H1,I1,r1,q1⟩=>?_)
 exact aR (hr pos pins s1 σ H1 _ I1 q1) fun us s2 ⟨xs,H2,I2,r2,q2⟩=>⟨x :: xs,H2,I2,.cons r1 r2,q2⟩
def Ml (t:TA):TE:=fun σ H Q=>t σ H fun xs H1=>xs.length≤sizeLine∧∀p,H1 p=none→Q (.ref p) (aP H1 p (.lst xs))
theorem JP (h:PA X es t):PE X (.List es pos) (Ml t):=by
 intro pins s σ H Q I hq
 refine wpAny_List_spliced (aR (h pos pins s σ H _ I hq) fun us s1 ⟨xs,H1,I1,r,z,q⟩=>⟨by rw [←r.length];exact z,?_⟩)
 have hf:H1 s1.heap.objs.size=none:=I1.hok.fresh (Nat.le_refl _)
 refine ⟨.ref s1.heap.objs.size,aP H1 s1.heap.objs.size (.lst xs),I1.laid (t':=s1.toks) (fun b u e=>Heap.get?_push_of_some _ e) (Nat.le_refl _) ?_,rfl,q _ hf⟩
 exact ⟨z,us,0,r,Heap.get?_push_size _ rfl⟩
end
abbrev Sp:=List V→Hp→VK→XK→Prop
abbrev qc:=List Env→Hp→Shared→XK→Value→Shared→Prop
structure Dl (P:Program) (w:World) (K:PySem.W.Frag) (mg:Str→Option Value) (base:Heap) (A:Around) (outer:List Env) (s:Shared) (H:Hp):Prop where
 frames:A.frames=some outer
 mod:Mod K mg base
 bs:∀b o,base.get? b=some o→s.heap.get? b=some o∧H b=none
 bsz:base.objs.size≤s.heap.objs.size
 funs:s.heap.FunFrames base outer
 frf:∀b∈qK outer,H b=none
 hok:gh P w H s.heap
 bare:AllBare s.gens
def CE (outer:List Env) (P:Program) (w:World) (H:Hp) (s:Shared) (Q:VK) (u:Value) (s':Shared):Prop:=
 bI fun v H'=>s'.os=s.os∧AllBare s'.gens∧Un (qK outer) [] H H' s.heap s'.heap∧gh P w H' s'.heap∧be v u∧Q v H'
def CR (CX:qc) (outer:List Env) (P:Program) (w:World) (H:Hp) (s:Shared) (Q:VK) (E:XK) (r:Result) (s':Shared):Prop:=
 match r with
 | .ok (.ret u)=>CE outer P w H s Q u s'
 | .ok _=>False
 | .error e=>CX outer H s E e s'
structure aZ (P:Program) (w:World) (K:PySem.W.Frag) (mg:Str→Option Value) (base:Heap) (CX:qc) (k:Nat) (f:Addr) (fd:FuncData) (ps:List Str) (sp:Sp):Prop where
 len:∀vs H Q E,sp vs H Q E→vs.length=ps.length
 run:∀(A:Around) (outer:List Env) (s:Shared) (H:Hp) (args:Args) (us:List Value) (vs:List V) (Q:VK) (E:XK),i9 k A→Dl P w K mg base A outer s H→BindsTo s fd args (ps.zip us)→aL vs us→sp vs H Q E→
  codeAny (model P w) A (.call (.ref f) args) (CR CX outer P w H s Q E) s
section
variable {X:Cx}{pins:List (Addr×Obj)}{σ:St}{H:Hp}{s s':Shared}
theorem ai.env0 (I:ai X pins σ H s):Dl X.prog X.w X.K X.mg X.base X.A X.stack s H:=
 ⟨I.ok.frames,I.ok.mod,I.bs,Nat.le_trans I.ok.bsz I.sz,I.stack,I.stkFree,I.hok,I.bare⟩
theorem ai.after {Q:VK}{u:Value} (I:ai X pins σ H s) (h:CE X.stack X.prog X.w H s Q u s'):EP X pins σ Q u s':=by
 obtain ⟨v,H',os,bare,un,hok,r,q⟩:=h
 obtain ⟨hh,g,d,t,os'⟩:=s'
 obtain rfl:os'=s.os:=os
 exact ⟨v,H',I.call (h':=hh) (g':=g) (d':=d) (t':=t) (ch:=[]) un hok bare (fun b z=>absurd z (by simp)),r,q⟩
end
def Gs (sp:Sp) (dvs:List V) (E:XK) (t:TA):TE:=fun σ H Q=>t σ H fun vs H1=>sp (vs++dvs) H1 Q E
def wo (K:PySem.W.Frag) (fd:FuncData) (ps:List Str) (ds:List Value):Prop:=
 ∀(s:Shared) (us:List Value),K.In s.heap→(us++ds).length=ps.length→BindsTo s fd ⟨us,[]⟩ (ps.zip (us++ds))
theorem wo.all {K:PySem.W.Frag}{fd:FuncData}{ps:List Str} (h:∀us:List Value,us.length=ps.length→bindArgs fd ⟨us,[]⟩=pure (ps.zip us)):wo K fd ps []:=fun s us _ hl=>by
 rw [List.append_nil] at hl ⊢
 exact .of_eq (h us hl)
def Bg (CX:qc) (X:Cx) (E:XK):Prop:=∀(pins:List (Addr×Obj)) (σ:St) (H:Hp) (s:Shared) (e:Value) (s':Shared),ai X pins σ H s→CX X.stack H s E e s'→X.xe e s'
section
variable {X:Cx}{CX:qc}{k:Nat}{f C:Addr}{fd:FuncData}{ps:List Str}{sp:Sp}{dvs:List V}{ds:List Value}{E:XK}{x m:Str}{p pos apos:Pos}{e o:Expr}{es:List Expr}{ta:TE}{t:TA}
theorem IN {pins:List (Addr×Obj)}{σ:St}{H:Hp}{s:Shared}{Q:VK}{us:List Value}{vs:List V} (F:aZ X.prog X.w X.K X.mg X.base CX k f fd ps sp) (hr:i9 k X.A) (hb:wo X.K fd ps ds) (hd:aL dvs ds) (hx:Bg CX X E)
 (I:ai X pins σ H s) (r:aL vs us) (h:sp (vs++dvs) H Q E):wpAny (model X.prog X.w) X.A (call (.ref f) us) (EP X pins σ Q) X.xe s:=by
 have r2:aL (vs++dvs) (us++ds):=r.append hd
 have hl:(us++ds).length=ps.length:=by rw [←r2.length];exact F.len _ _ _ _ h
 refine wpAny_call (codeAny_mono (F.run X.A X.stack s H ⟨us,[]⟩ (us++ds) (vs++dvs) Q E hr I.env0 (hb s us I.kIn hl) r2 h) fun r s' hq=>?_)
 cases r with
 | error e=>exact hx pins σ H s e s' I hq
 | ok fl=>
  cases fl with
  | ret u=>exact I.after hq
  | next=>exact False.elim hq
  | brk=>exact False.elim hq
  | cont=>exact False.elim hq
theorem sB (F:aZ X.prog X.w X.K X.mg X.base CX k f fd ps sp) (hr:i9 k X.A) (hg:Gl X x) (hm:X.mg x=some (.ref f)) (hk:PySem.W.keepIn X.K (.ref f)=true) (hb:wo X.K fd ps ds) (hd:aL dvs ds) (hx:Bg CX X E)
 (ha:PA X (e :: es) t) (hdb:(x==("__debug__" : Str))=false:=by decide) (he:starEach (e :: es) X.env=(false,eval e X.env) :: starEach es X.env:=by rfl) (hpl:(backTo pos (starEach es X.env)).any (·.1)=false:=by rfl) :
 PE X (.Call (.Name x p) (e :: es) [] pos) (Gs sp dvs E t):=by
 intro pins s σ H Q I h
 refine wpAny_Call_Name_kw (Hl I hg hm ?_ hdb)
 refine PySem.W.callWith_K (h₀:=X.base) I.ok.mod.kin hk (aR (ha pos pins s σ H _ I h) fun us s1 ⟨vs,H1,I1,r,q⟩=>⟨I1.kIn,?_⟩) he hpl
 exact IN F hr hb hd hx I1 r q
end
section
variable {X:Cx}{CX:qc}{k:Nat}{f C:Addr}{fd:FuncData}{ps ks:List Str}{sp:Sp}{E:XK}{x m:Str}{p pos apos kpos:Pos}{e o:Expr}{es:List Expr}{kws:List Keyword}{te ta:TE}{t tk:TA}{nm:Option Str}
variable {g:List Value→List Value→List Value}{gV:List V→List V→List V}
end
structure aB (N P:List Str) (sc:Scope):Prop where
 kind:sc.kind=.function
 co:sc.isCoroutine=false
 gen:sc.isGenerator=false
 nd:N.Nodup
 pre:N.take P.length=P
 par:∀x∈P,sc.names.lookup x=some .local∨sc.names.lookup x=some .cell
 nofree:∀y∈sc.names,y.2≠.free
theorem zc {kindOf:Str→Option NameKind}{x:Str}:∀{binds:List (Str×Value)}{m:Str→Option Value},(∀v,(x,v)∉binds)→bindL kindOf binds m x=m x
 | [],_,_=>rfl
 | (n,v) :: r,m,h=>by
  unfold bindL
  rw [zc fun w hw=>h w (List.mem_cons_of_mem _ hw)]
  split
  ·have:x≠n:=by rintro rfl;exact h v List.mem_cons_self
   simp [this]
  ·rfl
theorem zk {kindOf:Str→Option NameKind}{x:Str}:∀{binds:List (Str×Value)}{m:Str→Option Value},(∀v,(x,v)∉binds)→bindC kindOf binds m x=m x
 | [],_,_=>rfl
 | (n,v) :: r,m,h=>by
  unfold bindC
  rw [zk fun w hw=>h w (List.mem_cons_of_mem _ hw)]
  split
  ·rfl
  ·have:x≠n:=by rintro rfl;exact h v List.mem_cons_self
   simp [this]
theorem zJ {kindOf:Str→Option NameKind}{x:Str}{v:Value}:∀{P:List Str}{vs:List Value}{i:Nat}{m:Str→Option Value},P.Nodup→P[i]?=some x→vs[i]?=some v→kindOf x=some .local→
 bindL kindOf (P.zip vs) m x=some v
 | [],_,_,_,_,h,_,_=>by simp at h
 | _ :: _,[],_,_,_,_,h,_=>by simp at h
 | p :: P,w :: vs,0,m,nd,h1,h2,hk=>by
  simp at h1 h2;subst h1;subst h2
  show bindL kindOf ((p,w) :: P.zip vs) m p=_
  unfold bindL
  rw [zc fun v hv=>(List.nodup_cons.mp nd).1 (List.of_mem_zip hv).1,if_pos hk]
  simp
 | p :: P,w :: vs,i+1,m,nd,h1,h2,hk=>by
  show bindL kindOf ((p,w) :: P.zip vs) m x=_
  unfold bindL
  exact zJ (i:=i) (List.nodup_cons.mp nd).2 (by simpa using h1) (by simpa using h2) hk
theorem zP {kindOf:Str→Option NameKind}{x:Str}{v:Value}:∀{P:List Str}{vs:List Value}{i:Nat}{m:Str→Option Value},P.Nodup→P[i]?=some x→vs[i]?=some v→kindOf x≠some .local→
 bindC kindOf (P.zip vs) m x=some v
 | [],_,_,_,_,h,_,_=>by simp at h
 | _ :: _,[],_,_,_,_,h,_=>by simp at h
 | p :: P,w :: vs,0,m,nd,h1,h2,hk=>by
  simp at h1 h2;subst h1;subst h2
  show bindC kindOf ((p,w) :: P.zip vs) m p=_
  unfold bindC
  rw [zk fun v hv=>(List.nodup_cons.mp nd).1 (List.of_mem_zip hv).1,if_neg hk]
  simp
 | p :: P,w :: vs,i+1,m,nd,h1,h2,hk=>by
  show bindC kindOf ((p,w) :: P.zip vs) m x=_
  unfold bindC
  exact zP (i:=i) (List.nodup_cons.mp nd).2 (by simpa using h1) (by simpa using h2) hk
def pj (N:List Str) (vs:List V):St:=vs.map some++List.replicate (N.length - vs.length) none
def y4 (CX:qc) (P:Program) (w:World) (K:PySem.W.Frag) (mg:Str→Option Value) (base:Heap) (N:List Str) (qual:Str) (scope:Scope) (f:Addr) (cd:Value) (A:Around) (outer:List Env) (s:Shared) (H:Hp) (E:XK):Cx where
 prog:=P
 w:=w
 K:=K
 mg:=mg
 base:=base
 A:=A.deeper (envOfC qual scope s.heap.objs.size f cd)
 N:=N
 s₀:=s
 H₀:=H
 env:=envOfC qual scope s.heap.objs.size f cd
 outer:=outer
 stack:=envOfC qual scope s.heap.objs.size f cd :: outer
 ex:=[]
 calm:=true
 fn:=fun _=>true
 pn:=[]
 xe:=fun e s'=>wpAny (model P w) (A.deeper (envOfC qual scope s.heap.objs.size f cd)) (leaving (envOfC qual scope s.heap.objs.size f cd) e) (fun _ s''=>CX outer H s E e s'') (fun e' s''=>CX outer H s E e' s'') s'
theorem AK {sc:Scope}{n:Nat}{x:Str} (h:sc.names.lookup x=some .cell):∃c,(cellsFrom n sc.names []).lookup x=some c:=by
 have q:=PySem.W.cellsFrom_some sc.names n [] (.inl h)
 exact Option.isSome_iff_exists.mp q
theorem EM {CX:qc}{P:Program}{w:World}{K:PySem.W.Frag}{mg:Str→Option Value}{base:Heap}{N ps:List Str}{qual:Str}{scope:Scope}{f:Addr}{cd:Value}{A:Around}{outer:List Env}{s s1:Shared}{H:Hp}{E:XK}{us:List Value}{vs:List V}
 (S:aB N ps scope) (hd:A.handled=none) (e0:Dl P w K mg base A outer s H) (hl:vs.length=ps.length) (r:aL vs us)
 (x:InCallC s s.heap.objs.size (bindL (envOfC qual scope s.heap.objs.size f cd).kindOf (ps.zip us) fun _=>none) (cellsFrom (s.heap.objs.size+1) scope.names []) (bindC (envOfC qual scope s.heap.objs.size f cd).kindOf (ps.zip us) fun _=>none) s1) :
 ai (y4 CX P w K mg base N qual scope f cd A outer s H E) [] (pj N vs) H s1:=by
 have hpl:ps.length≤N.length:=by have:=congrArg List.length S.pre;rw [List.length_take] at this;trivial
 obtain ⟨h1,tk,rfl,hk⟩:=x.done
 have noA:∀b:Addr,b∉(y4 CX P w K mg base N qual scope f cd A outer s H E).ex:=fun b z=>absurd (show b∈([]:List Addr) from z) (by simp)
 refine ⟨⟨e0.mod,S.kind,rfl,rfl,Nat.le_refl _,fun y z c h1 h2=>?_,fun y hy=>?_,fun y c _ h=>?_,fun _=>hd,Around.frames_deeper e0.frames,.inr ⟨rfl,rfl⟩,fun b z=>absurd z (noA b),e0.bs,e0.bsz,fun b _ _=>noA b,fun b z=>absurd z (noA b),e0.funs,e0.frf⟩,
  rfl,e0.bare,Un.kept hk,⟨_,x.toInCall.ns,fun i y v h1 h2 h3=>?_⟩,fun y c h=>⟨_,x.cell y c h⟩,e0.hok.fresh (Nat.le_refl _),fun y c h=>?_,fun p hp=>absurd (show p∈([]:List (Addr×Obj)) from hp) (by simp),e0.hok.kept hk,?_⟩
 ·exact name_of_addr x.apart (PySem.mem_of_lookup h1) (PySem.mem_of_lookup h2)
 ·have hy:scope.names.lookup y=some .cell∨scope.names.lookup y=some .free:=hy
  rcases hy with hy | hy
  ·exact AK hy
  ·exact absurd rfl (S.nofree _ (PySem.mem_of_lookup hy))
 ·exact Nat.le_of_lt (x.above y c (PySem.mem_of_lookup h))
 ·have hi:i<vs.length:=by
   unfold pj at h2
   by_cases hi:i<vs.length
   ·exact hi
   ·rw [List.getElem?_append_right (by simpa using hi)] at h2
    rw [List.getElem?_replicate] at h2
    split at h2 <;> cases h2
  have ha:vs[i]?=some v:=by
   unfold pj at h2
   rw [List.getElem?_append_left (by simpa using hi),List.getElem?_map] at h2
   cases e:vs[i]? with
   | none=>rw [e] at h2;cases h2
   | some a=>rw [e] at h2;cases h2;rfl
  obtain ⟨u,hu,rv⟩:=r.get ha
  have hp:ps[i]?=some y:=by
   rw [←S.pre,List.getElem?_take_of_lt (by trivial)];exact h1
  have ndP:ps.Nodup:=by rw [←S.pre];exact S.nd.sublist (List.take_sublist _ _)
  refine ⟨u,rv,?_⟩
  rcases S.par y (List.mem_of_getElem? hp) with k | k
  ·exact .inl ⟨k,zJ ndP hp hu k⟩
  ·obtain ⟨c,e⟩:=AK (n:=s.heap.objs.size+1) k
   refine .inr ⟨.inl k,c,e,?_⟩
   have q:=x.cell y c e
   rw [zP ndP hp hu (by show scope.names.lookup y≠_;rw [k];decide)] at q
   exact q
 ·exact e0.hok.fresh (Nat.le_of_lt (x.above y c (PySem.mem_of_lookup h)))
 ·unfold pj
  show _=N.length
  rw [List.length_append,List.length_map,List.length_replicate]
  trivial
theorem Lf {CX:qc}{P:Program}{w:World}{K:PySem.W.Frag}{mg:Str→Option Value}{base:Heap}{k:Nat}{f:Addr}{name qual:Str}{params:Arguments}{body:List Stmt}{scope:Scope}{dV kV doc pm cdv ct oc:Value}{an od:Option Addr}
 {osl:Array (Option Value)}{N ps:List Str}{sp:Sp} (lk:K.lookup f=some ⟨oc,od,.func (PySem.W.fnOf name qual params body scope dV kV doc pm an cdv ct),osl⟩) (hcd:PySem.W.codeIn K cdv qual=true) (S:aB N ps scope)
 (len:∀vs H Q E,sp vs H Q E→vs.length=ps.length)
 (hbody:∀(A:Around) (outer:List Env) (s:Shared) (H:Hp) (vs:List V) (Q:VK) (E:XK),i9 k (A.deeper (envOfC qual scope s.heap.objs.size f cdv))→sp vs H Q E→
  ∃t,sq (y4 CX P w K mg base N qual scope f cdv A outer s H E) body t∧t { nx:=fun _ H'=>Q .non H',rt:=Q } (pj N vs) H) :
 aZ P w K mg base CX (k+1) f (PySem.W.fnOf name qual params body scope dV kV doc pm an cdv ct) ps sp:=by
 refine ⟨len,fun A outer s H args us vs Q E hr e0 hb r hsp=>?_⟩
 have hl:=len _ _ _ _ hsp
 have KX:K.In s.heap:=e0.mod.kin.keeps fun b o e=>(e0.bs b o e).1
 have lim:s.heap.NoLimit:=e0.mod.nolimit.keeps fun b o e=>(e0.bs b o e).1
 have hkind:∀y∈ps.zip us,scope.names.lookup y.1=some .local∨(scope.names.lookup y.1=some .cell∧((cellsFrom (s.heap.objs.size+1) scope.names []).lookup y.1).isSome=true):=fun ⟨n,v⟩ hy=>by
  rcases S.par n (List.of_mem_zip hy).1 with q | q
  ·exact .inl q
  ·exact .inr ⟨q,PySem.W.cellsFrom_some _ _ _ (.inl q)⟩
 refine codeAny_call_function hr.depth (KX _ _ lk) rfl S.co S.gen rfl (PySem.W.codeRec_of KX hcd) (hb _ _ _ _ ?_)
 refine wpAny_newFunctionEnv_cells S.kind hkind fun env he s1 x=>?_
 subst he
 refine ⟨lim.keeps x.toInCall.keep,codeAny_func ?_⟩
 obtain ⟨t,ht,hq⟩:=hbody A outer s H vs Q E (hr.deeper _) hsp
 have I:ai (y4 CX P w K mg base N qual scope f cdv A outer s H E) [] (pj N vs) H s1:=EM S hr.hd e0 hl r x
 refine wpAny_mono (ht [] s1 (pj N vs) H _ I hq) (fun fl s' hs=>?_) fun e s' hs=>hs
 have fin:∀{σ':St}{H':Hp}{v:V}{u:Value},ai (y4 CX P w K mg base N qual scope f cdv A outer s H E) [] σ' H' s'→be v u→Q v H'→CE outer P w H s Q u s':=
  fun {σ' H' v u} J rv q=>⟨v,H',J.os,J.bare,J.base,J.hok,rv,q⟩
 cases fl with
 | ret u=>
  obtain ⟨v,σ',H',J,rv,q⟩:=hs
  exact fin J rv q
 | next=>
  obtain ⟨σ',H',J,q⟩:=hs
  exact fin (v:=V.non) (u:=Value.none) J rfl q
 | brk=>
  obtain ⟨_,_,_,q⟩:=hs
  exact False.elim q
 | cont=>
  obtain ⟨_,_,_,q⟩:=hs
  exact False.elim q
end L2
namespace L2
open PySem PySem.Spec PyProof.Rows
section
variable {X:Cx}{x:Str}{p pos:Pos}{e:Expr}{es:List Expr}{t:TA}{id T:String}{r:List V→Hp→VK→Prop}
def Ia (r:List V→Hp→VK→Prop) (t:TA):TE:=fun σ H Q=>t σ H fun vs H1=>r vs H1 Q
theorem gS (hc:fk X (.builtin id) r) (hg:Gl X x) (hm:X.mg x=none) (hv:bootBuiltins x=some (.builtin id)) (ha:PA X (e :: es) t) (hn:x≠"__name__" := by decide) (hdb:(x==("__debug__" : Str))=false:=by decide)
 (he:starEach (e :: es) X.env=(false,eval e X.env) :: starEach es X.env:=by rfl) (hpl:(backTo pos (starEach es X.env)).any (·.1)=false:=by rfl):PE X (.Call (.Name x p) (e :: es) [] pos) (Ia r t):=by
 intro pins s σ H Q I h
 refine wpAny_Call_Name_kw (ml I hg hm hv ?_ hn hdb)
 exact PyProof.Rows.callWith_builtin1 (aR (ha pos pins s σ H _ I h) fun us s1 ⟨vs,H1,I1,r1,q1⟩=>hc pins s1 σ H1 vs us Q I1 r1 q1) he hpl
theorem fe (hc:fk X (.type T) r) (hg:Gl X x) (hm:X.mg x=none) (hv:bootBuiltins x=some (.type T)) (ha:PA X (e :: es) t) (hn:x≠"__name__" := by decide) (hdb:(x==("__debug__" : Str))=false:=by decide)
 (he:starEach (e :: es) X.env=(false,eval e X.env) :: starEach es X.env:=by rfl) (hpl:(backTo pos (starEach es X.env)).any (·.1)=false:=by rfl):PE X (.Call (.Name x p) (e :: es) [] pos) (Ia r t):=by
 intro pins s σ H Q I h
 refine wpAny_Call_Name_kw (ml I hg hm hv ?_ hn hdb)
 exact PyProof.Rows.callWith_type1 (aR (ha pos pins s σ H _ I h) fun us s1 ⟨vs,H1,I1,r1,q1⟩=>hc pins s1 σ H1 vs us Q I1 r1 q1) he hpl
end
end L2
namespace HT
open PySem PyProof.Rows
section
open PySem.SeqAt
open PySem.AutoSeq1 (wpAny_loadPart')
open PySem.MeetsSeq PySem.MeetsSeq2 PySem.MeetsSeq3
end
section
variable {prog:Program}{w:World}{A:Around}{E:Value→Shared→Prop}{s:Shared}
theorem cat_tup {t b:Addr}{vs ws:List Value}{Q:Value→Shared→Prop} (ht:IsTup s.heap t vs.toArray) (hb:IsTup s.heap b ws.toArray) (hv:vs≠[])
 (h1:ws=[]→Q (.ref t) s) (h2:ws≠[]→Q (.ref s.heap.objs.size) { s with heap:=s.heap.push { cls:=.type "tuple",data:=.seq (vs++ws).toArray } })
 (hsz:vs.length+ws.length≤sizeLine):wpAny (model prog w) A (binaryOp .Add (.ref t) (.ref b)) Q E s:=by
 obtain ⟨⟨cls,dd,data,sl⟩,ho,hc,n,hd⟩:=id ht
 obtain ⟨⟨cls2,dd2,data2,sl2⟩,ho2,hc2,n2,hd2⟩:=id hb
 simp only at hc hd hc2 hd2
 subst hc hd hc2 hd2
 have e:vs.toArray++ws.toArray=(vs++ws).toArray:=by simp
 by_cases hw:ws=[]
 ·exact concat_meets ⟨_,ho,rfl⟩ ⟨_,ho2,rfl⟩ noFill_tuple_add seq_tuple_add PySem.F.slot_tuple_add PySem.F.entry_tuple_add (PySem.F.args_tuple_add_2 _ _)
   (tuple_addW1 t b vs.toArray ws.toArray n n2 dd dd2 sl sl2 (by simpa using hv) (by simp [hw])) ⟨ho,ho2,h1 hw⟩
 ·refine concat_meets ⟨_,ho,rfl⟩ ⟨_,ho2,rfl⟩ noFill_tuple_add seq_tuple_add PySem.F.slot_tuple_add PySem.F.entry_tuple_add (PySem.F.args_tuple_add_2 _ _)
   (tuple_addW2 t b vs.toArray ws.toArray n n2 dd dd2 sl sl2 (by simpa using hv) (by simpa using hw) (by rw [List.size_toArray,List.size_toArray];exact hsz)) ⟨ho,ho2,?_⟩
  rw [e]
  exact h2 hw
def sIx (n d:Nat):Option Int→Nat
 | none=>d
 | some v=>if v<0 then (v+(n:Int)).toNat else min v.toNat n
theorem sIx_none (n d:Nat):sIx n d none=d:=rfl
theorem sIx_nat (n d k:Nat):sIx n d (some (k:Int))=min k n:=by
 show (if (k:Int)<0 then ((k:Int)+(n:Int)).toNat else min (k:Int).toNat n)=min k n
 rw [if_neg (by trivial),Int.toNat_natCast]
end
end HT
namespace L2
open PySem PySem.Spec PyProof.Rows
abbrev TO:=St→Hp→(Option Int→Hp→Prop)→Prop
def PO (X:Cx) (e:Option Expr) (t:TO):Prop:=
 ∀(pins:List (Addr×Obj)) (s:Shared) (σ:St) (H:Hp) (Q:Option Int→Hp→Prop),ai X pins σ H s→t σ H Q→
   wpAny (model X.prog X.w) X.A (evalPart e X.env) (fun u s'=>bI fun o H'=>ai X pins σ H' s'∧IsPart u o∧Q o H') X.xe s
def HG:TO:=fun _ H Q=>Q none H
def Kf (t:TE):TO:=fun σ H Q=>t σ H fun x H1=>Iz x fun i=>Q (some i) H1
section
variable {X:Cx}{e:Expr}{te:TE}{lo hi:Option Expr}{tl th:TO}{pos p2:Pos}
theorem pI:PO X none HG:=by
 intro pins s σ H Q I h
 rw [evalPart_none]
 exact wpAny_pure ⟨none,H,I,.none,h⟩
theorem lK (h:PE X e te):PO X (some e) (Kf te):=by
 intro pins s σ H Q I hw
 rw [evalPart_some]
 refine aR (h pins s σ H _ I hw) fun u s1 ⟨x,H1,I1,r1,q1⟩=>?_
 obtain ⟨i,rfl,q⟩:=q1
 obtain ⟨t,rfl⟩:=r1
 exact ⟨some i,H1,I1,.int i t,q⟩
def I0 (X:Cx) (r:V→Option Int→Option Int→Hp→VK→Prop):Prop:=
 ∀(pins:List (Addr×Obj)) (s:Shared) (σ:St) (H:Hp) (x:V) (v vl vu:Value) (lo hi:Option Int) (sl:Addr) (Q:VK),ai X pins σ H s→be x v→s.heap.IsSliceOf sl vl vu .none→IsPart vl lo→IsPart vu hi→r x lo hi H Q→
   bI fun T id=>typeLookup (.type T) "__getitem__" = pure (some (.builtin id))∧s.TypeIs v T∧wpAny (model X.prog X.w) X.A (getItem v (.ref sl)) (EP X pins σ Q) X.xe s
def MQ (r:V→Option Int→Option Int→Hp→VK→Prop) (te:TE) (tl th:TO):TE:=fun σ H Q=>te σ H fun x H1=>tl σ H1 fun l H2=>th σ H2 fun u H3=>r x l u H3 Q
theorem k6 {r:V→Option Int→Option Int→Hp→VK→Prop} (hr:I0 X r) (he:PE X e te) (hl:PO X lo tl) (hu:PO X hi th):PE X (.Subscript e (.Slice lo hi none p2) pos) (MQ r te tl th):=by
 intro pins s σ H Q I h
 refine Subscript_ (aR (he pins s σ H _ I h) fun v s1 ⟨x,H1,I1,r1,q1⟩=>?_)
 refine wpAny_Slice (aR (hl pins s1 σ H1 _ I1 q1) fun vl s2 ⟨l,H2,I2,pl,q2⟩=>aR (hu pins s2 σ H2 _ I2 q2) fun vu s3 ⟨u,H3,I3,pu,q3⟩=>?_)
 rw [evalPart_none]
 refine wpAny_pure ?_
 have I4:ai X pins σ H3 { s3 with heap:=s3.heap.push { cls:=.type "slice",data:=.fields #[vl,vu,.none] } }:=I3.kept (t':=s3.toks) fun b ob q=>Heap.get?_push_of_some _ q
 obtain ⟨T,id,hT,ht,hg⟩:=hr pins { s3 with heap:=s3.heap.push { cls:=.type "slice",data:=.fields #[vl,vu,.none] } } σ H3 x v vl vu l u s3.heap.objs.size Q I4 r1 (Heap.IsSliceOf.new ..) pl pu q3
 show wpAny (model X.prog X.w) X.A (subscriptTail e (.Slice lo hi none p2) v (.ref s3.heap.objs.size)) (EP X pins σ Q) X.xe { s3 with heap:=s3.heap.push { cls:=.type "slice",data:=.fields #[vl,vu,.none] } }
 exact tail_any (ops:=[.ref s3.heap.objs.size,v]) ht hT hg (by with_unfolding_all rfl)
def k9 (xs:List V) (lo hi:Option Int):List V:=(xs.drop (HT.sIx xs.length 0 lo)).take (HT.sIx xs.length xs.length hi - HT.sIx xs.length 0 lo)
theorem rZ (xs:List V) (lo hi:Option Int):(k9 xs lo hi).length≤xs.length:=by
 unfold k9
 rw [List.length_take,List.length_drop]
 exact Nat.le_trans (Nat.min_le_right ..) (Nat.sub_le ..)
inductive Iq (K:PySem.W.Frag) (x:V) (y:V) (H:Hp) (Q:VK):Prop
 | mk (a:_) (b:_) (xs:_) (ys:_) (h0:x=.ref a) (h1:y=.ref b) (h2:ar K H a xs) (h3:ar K H b ys) (h4:xs≠[]) (h5:xs.length+ys.length≤sizeLine) (h6:(ys=[]→Q (.ref a) H)) (h7:(ys≠[]→∀p,H p=none→Q (.ref p) (aP H p (.tup (xs++ys)))))
def Ld (K:PySem.W.Frag):R2:=fun x y H Q=>Iq K x y H Q
theorem aL.nil_iff {xs:List V}{us:List Value} (r:aL xs us):us=[]↔xs=[]:=by
 cases r with
 | nil=>simp
 | cons _ _=>simp
theorem GW:dA X (binaryOp .Add) (Ld X.K):=by
 intro pins s σ H x y v u Q I rx ry h
 obtain ⟨a,b,xs,ys,rfl,rfl,ha,hb,hx,hz,q1,q2⟩:=h
 cases rx
 cases ry
 obtain ⟨its,r1,p1,_⟩:=I.tuple ha
 obtain ⟨its2,r2,p2,_⟩:=I.tuple hb
 refine HT.cat_tup p1 p2 (fun z=>hx (r1.nil_iff.mp z)) (fun z=>⟨.ref a,H,I,rfl,q1 (r2.nil_iff.mp z)⟩) (fun z=>?_) (by rw [←r1.length,←r2.length];exact hz)
 refine ⟨.ref s.heap.objs.size,_,I.laid (t':=s.toks) (o:=.tup (xs++ys)) (fun b ob q=>Heap.get?_push_of_some _ q) (Nat.le_refl _) ?_,rfl,q2 (fun w=>z (r2.nil_iff.mpr w)) _ (I.hok.fresh (Nat.le_refl _))⟩
 exact ⟨by rw [List.length_append];exact hz,_,r1.append r2,IsTup.new _ _,_,Heap.get?_push_size _ rfl,rfl⟩
end
def qI (n:Nat) (i:Int):Option Nat:=if 0≤i then (if i<n then some i.toNat else none) else if -(n:Int)≤i then some (i+n).toNat else none
def lL {α:Type} (xs:List α) (i:Int):Option α:=(qI xs.length i).bind fun j=>xs[j]?
theorem CH {n:Nat}{i:Int}{j:Nat} (h:qI n i=some j):seqIndex? i n=some j∧j<n∧-(n:Int)≤i∧i<n:=by
 unfold qI at h
 by_cases h0:0≤i
 ·rw [if_pos h0] at h
  by_cases h1:i<n
  ·rw [if_pos h1] at h
   have e:i.toNat=j:=Option.some.inj h
   exact ⟨by rw [seqIndex_of h0 h1,e],by trivial,by trivial,h1⟩
  ·rw [if_neg h1] at h;cases h
 ·rw [if_neg h0] at h
  by_cases h1:-(n:Int)≤i
  ·rw [if_pos h1] at h
   have e:(i+n).toNat=j:=Option.some.inj h
   exact ⟨by rw [seqIndex_neg (by trivial) h1,e],by trivial,h1,by trivial⟩
  ·rw [if_neg h1] at h;cases h
theorem yC {α:Type}{xs:List α}{i:Int}{v:α} (h:lL xs i=some v):∃j,seqIndex? i xs.length=some j∧xs[j]?=some v∧j<xs.length∧-(xs.length:Int)≤i∧i<xs.length:=by
 unfold lL at h
 cases e:qI xs.length i with
 | none=>rw [e] at h;cases h
 | some j=>
  rw [e] at h
  obtain ⟨h1,h2,h3,h4⟩:=CH e
  exact ⟨j,h1,h,h2,h3,h4⟩
theorem aW {α:Type}{xs:List α}{j:Nat}{v:α} (h:xs[j]?=some v):lL xs (j:Int)=some v:=by
 have hj:j<xs.length:=(List.getElem?_eq_some_iff.mp h).1
 have e:qI xs.length (j:Int)=some j:=by
  unfold qI
  rw [if_pos (by trivial),if_pos (by trivial)];simp
 unfold lL;rw [e];exact h
theorem Bo {α:Type} (xs:List α) (v:α):lL (xs++[v]) (-1)=some v:=by
 have hl:(xs++[v]).length=xs.length+1:=by simp
 have e:qI (xs++[v]).length (-1)=some xs.length:=by
  unfold qI
  rw [hl,if_neg (by decide),if_pos (by trivial)]
  congr 1
  trivial
 unfold lL
 rw [e]
 show (xs++[v])[xs.length]?=some v
 simp
def GZ (b:Expr):Prop:=∀o i,subscripted b false o i=operate [o,i] (getItem o i)
def sS (X:Cx) (r:R2):Prop:=
 ∀(value slice:Expr) (pins:List (Addr×Obj)) (s:Shared) (σ:St) (H:Hp) (x y:V) (v u:Value) (Q:VK),ai X pins σ H s→be x v→be y u→r x y H Q→
   subscripted slice false v u=operate [v,u] (getItem v u)→wpAny (model X.prog X.w) X.A (subscriptTail value slice v u) (EP X pins σ Q) X.xe s
def GK (X:Cx) (id:String) (r:V→List V→Hp→VK→Prop):Prop:=
 ∀(pins:List (Addr×Obj)) (s:Shared) (σ:St) (H:Hp) (x:V) (xs:List V) (v:Value) (us:List Value) (Q:VK),ai X pins σ H s→be x v→aL xs us→r x xs H Q→
   wpAny (model X.prog X.w) X.A (call (.builtin id) (v :: us)) (EP X pins σ Q) X.xe s
section
variable {X:Cx}{a b:Expr}{ta tb:TE}{pos:Pos}
theorem sS.or {r r':R2} (h:sS X r) (h':sS X r'):sS X (fun x y H Q=>r x y H Q∨r' x y H Q):=by
 intro value slice pins s σ H x y v u Q I rx ry q hs
 rcases q with q | q
 ·exact h value slice pins s σ H x y v u Q I rx ry q hs
 ·exact h' value slice pins s σ H x y v u Q I rx ry q hs
theorem b8 {r:R2} (hr:sS X r) (ha:PE X a ta) (hb:PE X b tb) (hs:GZ b):PE X (.Subscript a b pos) (EY r ta tb):=by
 intro pins s σ H Q I h
 exact Subscript_ (F9 ha hb I h fun v u s2 x y H2 I2 rx ry q=>hr a b pins s2 σ H2 x y v u Q I2 rx ry q (hs _ _))
inductive Kv (K:PySem.W.Frag) (x:V) (y:V) (H:Hp) (Q:VK):Prop
 | mk (p:_) (xs:_) (i:_) (v:_) (h0:x=.ref p) (h1:y=.int i) (h2:ak K H p xs) (h3:lL xs i=some v) (h4:Q v H)
def Dv (K:PySem.W.Frag):R2:=fun x y H Q=>Kv K x y H Q
inductive KG (K:PySem.W.Frag) (x:V) (y:V) (H:Hp) (Q:VK):Prop
 | mk (p:_) (xs:_) (i:_) (v:_) (h0:x=.ref p) (h1:y=.int i) (h2:ar K H p xs) (h3:lL xs i=some v) (h4:Q v H)
def FZ (K:PySem.W.Frag):R2:=fun x y H Q=>KG K x y H Q
inductive KL (x:V) (y:V) (H:Hp) (Q:VK):Prop
 | mk (z:_) (i:_) (c:_) (h0:x=.str z) (h1:y=.int i) (h2:z.length≤sizeLine) (h3:lL z.cps.toList i=some c) (h4:Q (.str ⟨#[c]⟩) H)
def IO:R2:=fun x y H Q=>KL  x y H Q
theorem Ct:sS X (Dv X.K):=by
 intro value slice pins s σ H x y v u Q I rx ry h hs
 obtain ⟨p,xs,i,z,rfl,rfl,hq,he,q⟩:=h
 cases rx
 obtain ⟨t,rfl⟩:=ry
 obtain ⟨its,r,pl,hz⟩:=I.list hq
 obtain ⟨j,h1,h2,h3,h4,h5⟩:=yC he
 obtain ⟨w,ew,rw'⟩:=r.get h2
 have hl:=r.length
 have hn:=uX
 have fin:EP X pins σ Q w s:=⟨z,H,I,rw',q⟩
 by_cases h0:0≤i
 ·have hj:i.toNat=j:=by
   rw [seqIndex_of h0 h5] at h1
   exact Option.some.inj h1
  exact item_listR pl.isList h0 (by trivial) (by rw [hj];simpa using ew) fin hs
 ·have hj:(i+(its.toArray.size:Int)).toNat=j:=by
   rw [seqIndex_neg (by trivial) h4] at h1
   rw [List.size_toArray,←hl]
   exact Option.some.inj h1
  exact subscriptTail_builtinR (x:=w) pl.isList.typeIs slot_list_getitem.lookup
   (wpAny_getItem_list_neg (Q:=fun r s'=>r=w∧EP X pins σ Q r s') pl.isList (by trivial) (by rw [List.size_toArray] <;> trivial) (by trivial) (by rw [hj];simpa using ew) ⟨rfl,fin⟩) hs
theorem DY:sS X (FZ X.K):=by
 intro value slice pins s σ H x y v u Q I rx ry h hs
 obtain ⟨p,xs,i,z,rfl,rfl,hq,he,q⟩:=h
 cases rx
 obtain ⟨t,rfl⟩:=ry
 obtain ⟨its,r,pl,hz⟩:=I.tuple hq
 obtain ⟨j,h1,h2,h3,h4,h5⟩:=yC he
 obtain ⟨w,ew,rw'⟩:=r.get h2
 have hl:=r.length
 have hn:=uX
 have fin:EP X pins σ Q w s:=⟨z,H,I,rw',q⟩
 exact subscriptTail_builtinR (x:=w) pl.typeIs slot_tuple_getitem.lookup
  (getItem_tuple (j:=j) (Q:=fun r s'=>r=w∧EP X pins σ Q r s') pl (by trivial) (by trivial) (by rw [List.size_toArray,←hl];exact h1) (by simpa using ew) ⟨rfl,fin⟩) hs
theorem A2:sS X IO:=by
 intro value slice pins s σ H x y v u Q I rx ry h hs
 obtain ⟨z,i,c,rfl,rfl,hz,he,q⟩:=h
 obtain ⟨t,rfl⟩:=rx
 obtain ⟨t',rfl⟩:=ry
 obtain ⟨j,h1,h2,h3,h4,h5⟩:=yC he
 have hl:z.cps.toList.length=z.length:=by simp [Str.length]
 rw [hl] at h1 h4 h5
 have hn:=uX
 exact tail_any (typeIs_str s z t) slot_str_getitem.lookup (getItem_str (c:=c) (by
  have e1:decide (i < -(2 ^ 63:Int))=false:=decide_eq_false (by trivial)
  have e2:decide (i≥2 ^ 63)=false:=decide_eq_false (by trivial)
  rw [e1,e2,Bool.or_false]) (by rw [h1];simpa using h2) ⟨.str ⟨#[c]⟩,H,I.tok _,⟨()⟩,q⟩) hs
def ML (K:PySem.W.Frag):R2:=fun x y H Q=>Dv K x y H Q∨FZ K x y H Q∨IO x y H Q
theorem mC:sS X (ML X.K):=Ct.or (DY.or A2)
theorem DD (its:List Value) (n j:Nat) (u:Value):Obj.mapSeq (·.setIfInBounds j u) { cls:=.type "list",data:=.seq its.toArray n }={ cls:=.type "list",data:=.seq (its.set j u).toArray n }:=by
 simp [Obj.mapSeq]
theorem ai.lst {pins:List (Addr×Obj)}{σ:St}{H:Hp}{s:Shared}{p:Addr}{xs:List V} (I:ai X pins σ H s) (h:H p=some (.lst xs)) :
 bI fun (its:List Value) (n:Nat)=>aL xs its∧s.heap.get? p=some { cls:=.type "list",data:=.seq its.toArray n }∧xs.length≤sizeLine:=by
 obtain ⟨z,its,n,r,e⟩:=I.hok p _ h
 exact ⟨its,n,r,e,z⟩
theorem ai.lstUpd {pins:List (Addr×Obj)}{σ:St}{H:Hp}{s:Shared}{p:Addr}{xs ys:List V}{its its':List Value}{n n':Nat}{f:Obj→Obj} (I:ai X pins σ H s) (h:H p=some (.lst xs))
 (ho:s.heap.get? p=some { cls:=.type "list",data:=.seq its.toArray n }) (hf:f { cls:=.type "list",data:=.seq its.toArray n }={ cls:=.type "list",data:=.seq its'.toArray n' }) (r:aL ys its') (hz:ys.length≤sizeLine) (t:Nat) :
 ai X pins σ (aP H p (.lst ys)) { s with heap:=s.heap.update p f,toks:=t }:=by
 have e:(s.heap.update p f).get? p=some { cls:=.type "list",data:=.seq its'.toArray n' }:=by
  rw [Heap.get?_update_self f ho (by rw [hf] <;> rfl),hf]
 refine I.write (x:=p) (e:=p) (by rw [h];trivial) (.inl rfl) (fun b u hb q=>(Heap.get?_update_other _ _ (Ne.symm hb)).trans q) ⟨_,e⟩ ?_
 exact ⟨hz,its',n',r,e⟩
inductive JE (o:V) (i:V) (v:V) (H:Hp) (Q:(Hp→Prop)):Prop
 | mk (p:_) (xs:_) (k:_) (j:_) (h0:o=.ref p) (h1:i=.int k) (h2:H p=some (.lst xs)) (h3:qI xs.length k=some j) (h4:Q (aP H p (.lst (xs.set j v))))
def KW:V→V→V→Hp→(Hp→Prop)→Prop:=fun o i v H Q=>JE  o i v H Q
theorem ul:De X KW:=by
 intro pins s σ H o i v ov iv u Q I ro ri rv h
 obtain ⟨p,xs,k,j,rfl,rfl,hp,hj,q⟩:=h
 cases ro
 obtain ⟨t,rfl⟩:=ri
 obtain ⟨its,n,r,ho,hz⟩:=I.lst hp
 obtain ⟨h1,h2,h3,h4⟩:=CH hj
 have hl:=r.length
 have hn:=uX
 have I':ai X pins σ (aP H p (.lst (xs.set j v))) { s with heap:=s.heap.update p (Obj.mapSeq (·.setIfInBounds j u)) }:=
  I.lstUpd hp ho (DD its n j u) (r.set rv j) (by rw [List.length_set];exact hz) s.toks
 by_cases h0:0≤k
 ·have hk:k.toNat=j:=by
   rw [seqIndex_of h0 h4] at h1
   exact Option.some.inj h1
  exact PySem.W.ki_setAt ho h0 (by trivial) (by rw [List.size_toArray,←hl];exact h4) (by rw [hk];exact ⟨_,I',q⟩)
 ·have hk:(k+(its.toArray.size:Int)).toNat=j:=by
   rw [seqIndex_neg (by trivial) h3] at h1
   rw [List.size_toArray,←hl]
   exact Option.some.inj h1
  exact PySem.W.ki_setBack ho (by trivial) (by rw [List.size_toArray,←hl];exact h3) (by trivial) (by rw [hk];exact ⟨_,I',q⟩)
theorem AS (lo hi:Option Int) (n:Nat):(sliceBounds lo hi none n).1=((HT.sIx n 0 lo:Nat):Int)∧(sliceBounds lo hi none n).2.1=((HT.sIx n n hi:Nat):Int)∧(sliceBounds lo hi none n).2.2=1:=by
 refine ⟨?_,?_,rfl⟩
 ·cases lo with
  | none=>simp [sliceBounds,HT.sIx]
  | some i=>
   simp only [sliceBounds,HT.sIx,Option.getD_none,show (1:Int) > 0 by decide,if_true]
   by_cases h:i<0
   ·simp only [h,if_true] <;> trivial
   ·simp only [h,if_false] <;> trivial
 ·cases hi with
  | none=>simp [sliceBounds,HT.sIx]
  | some i=>
   simp only [sliceBounds,HT.sIx,Option.getD_none,show (1:Int) > 0 by decide,if_true]
   by_cases h:i<0
   ·simp only [h,if_true] <;> trivial
   ·simp only [h,if_false] <;> trivial
theorem Aj (its:List Value) (lo hi:Option Int):slicePick its.toArray lo hi none=((its.drop (HT.sIx its.length 0 lo)).take (HT.sIx its.length its.length hi - HT.sIx its.length 0 lo)).toArray:=by
 obtain ⟨h1,h2,h3⟩:=AS lo hi its.toArray.size
 unfold slicePick
 rw [h1,h2,h3]
 simp only [sliceRange_one,pick_run,List.size_toArray] <;> rfl
inductive KR (K:PySem.W.Frag) (x:V) (lo:Option Int) (hi:Option Int) (H:Hp) (Q:VK):Prop
 | mk (a:_) (xs:_) (h0:x=.ref a) (h1:ak K H a xs) (h2:∀p,H p=none→Q (.ref p) (aP H p (.lst (k9 xs lo hi))))
def Ms (K:PySem.W.Frag):V→Option Int→Option Int→Hp→VK→Prop:=fun x lo hi H Q=>KR K x lo hi H Q
theorem yD:I0 X (Ms X.K):=by
 intro pins s σ H x v vl vu lo hi sl Q I rx hs pl pu h
 obtain ⟨a,xs,rfl,hx,q⟩:=h
 cases rx
 obtain ⟨its,r,ht,hz⟩:=I.list hx
 have hlen:=r.length
 refine ⟨"list",_,slot_list_getitem.lookup,ht.isList.typeIs,?_⟩
 refine wpAny_getItem_list_slice ht.isList hs pl pu .none (by simp) ?_ (by rw [List.size_toArray] <;> trivial)
 rw [Aj,←hlen]
 refine ⟨.ref s.heap.objs.size,_,I.laid (t':=s.toks) (o:=.lst (k9 xs lo hi)) (fun b ob q=>Heap.get?_push_of_some _ q) (Nat.le_refl _) ?_,rfl,q _ (I.hok.fresh (Nat.le_refl _))⟩
 exact ⟨Nat.le_trans (rZ xs lo hi) hz,_,0,(r.drop (HT.sIx xs.length 0 lo)).take (HT.sIx xs.length xs.length hi - HT.sIx xs.length 0 lo),Heap.get?_push_size _ rfl⟩
def nK:V→Bool
 | .non=>true
 | .bl _=>true
 | .int _=>true
 | .str _=>true
 | _=>false
def vB:V→V→Bool
 | .non,.non=>true
 | .bl a,.bl b=>a==b
 | .bl a,.int b=>(if a then 1 else 0)==b
 | .int a,.bl b=>a==(if b then 1 else 0)
 | .int a,.int b=>a==b
 | .str a,.str b=>a==b
 | _,_=>false
theorem Ic {A:Around}{s:Shared}{y x:V}{u v:Value} (ry:be y u) (rx:be x v) (fy:nK y=true) (fx:nK x=true):SeqAt.EqAt A s u v (vB y x):=by
 cases y with
 | non=>
  cases ry
  cases x with
  | non=>cases rx;exact SeqAt.EqAt.same _
  | bl b=>cases rx;exact SeqAt.EqAt.none_bool b
  | int b=>obtain ⟨t,rfl⟩:=rx;exact SeqAt.EqAt.none_int b t
  | str b=>obtain ⟨t,rfl⟩:=rx;exact SeqAt.EqAt.none_str b t
  | _=>exact absurd (show false=true from fx) Bool.false_ne_true
 | bl a=>
  cases ry
  cases x with
  | non=>cases rx;exact SeqAt.EqAt.bool_none a
  | bl b=>cases rx;exact SeqAt.EqAt.bool_bool a b
  | int b=>obtain ⟨t,rfl⟩:=rx;exact SeqAt.EqAt.bool_int a b t
  | str b=>obtain ⟨t,rfl⟩:=rx;exact SeqAt.EqAt.bool_str a b t
  | _=>exact absurd (show false=true from fx) Bool.false_ne_true
 | int a=>
  obtain ⟨t',rfl⟩:=ry
  cases x with
  | non=>cases rx;exact SeqAt.EqAt.int_none a t'
  | bl b=>cases rx;exact SeqAt.EqAt.int_bool a t' b
  | int b=>obtain ⟨t,rfl⟩:=rx;exact SeqAt.EqAt.int_int a t' b t
  | str b=>obtain ⟨t,rfl⟩:=rx;exact SeqAt.EqAt.int_str a t' b t
  | _=>exact absurd (show false=true from fx) Bool.false_ne_true
 | str a=>
  obtain ⟨t',rfl⟩:=ry
  cases x with
  | non=>cases rx;exact SeqAt.EqAt.str_none a t'
  | bl b=>cases rx;exact SeqAt.EqAt.str_bool a t' b
  | int b=>obtain ⟨t,rfl⟩:=rx;exact SeqAt.EqAt.str_int a t' b t
  | str b=>obtain ⟨t,rfl⟩:=rx;exact SeqAt.EqAt.str_str a t' b t
  | _=>exact absurd (show false=true from fx) Bool.false_ne_true
 | _=>exact absurd (show false=true from fy) Bool.false_ne_true
def ye (x:V) (u:Value):Bool:=match u with
 | .none=>vB .non x
 | .bool b=>vB (.bl b) x
 | .int i _=>vB (.int i) x
 | .str z _=>vB (.str z) x
 | _=>false
theorem Ew {x y:V}{u:Value} (r:be y u) (f:nK y=true):ye x u=vB y x:=by
 cases y with
 | non=>cases r;rfl
 | bl b=>cases r;rfl
 | int i=>obtain ⟨t,rfl⟩:=r;rfl
 | str z=>obtain ⟨t,rfl⟩:=r;rfl
 | _=>exact absurd (show false=true from f) Bool.false_ne_true
theorem yM {x:V}:∀{xs:List V}{us:List Value},aL xs us→xs.all nK=true→us.any (ye x)=xs.any fun y=>vB y x
 | _,_,.nil,_=>rfl
 | y :: xs,u :: us,.cons r t,f=>by
  rw [List.all_cons,Bool.and_eq_true] at f
  rw [List.any_cons,List.any_cons,Ew r f.1,yM t f.2]
theorem wT {A:Around}{s:Shared}{x:V}{v:Value} (rx:be x v) (fx:nK x=true):∀{xs:List V}{us:List Value},aL xs us→xs.all nK=true→∀u∈us,SeqAt.EqAt A s u v (ye x u)
 | _,_,.nil,_=>fun u hu=>by cases hu
 | y :: xs,u :: us,.cons r t,f=>fun u' hu=>by
  rw [List.all_cons,Bool.and_eq_true] at f
  rcases List.mem_cons.mp hu with rfl | hu
  ·rw [Ew r f.1];exact Ic r rx f.1 fx
  ·exact wT rx fx t f.2 u' hu
def Bu (x:V) (xs:List V):Bool:=xs.any fun y=>vB y x
inductive Mn (K:PySem.W.Frag) (neg:Bool) (x:V) (y:V) (H:Hp) (Q:VK):Prop
 | mk (p:_) (xs:_) (h0:y=.ref p) (h1:(ak K H p xs∨ar K H p xs)) (h2:nK x=true) (h3:xs.all nK=true) (h4:Q (.bl (if neg then !Bu x xs else Bu x xs)) H)
def Ly (K:PySem.W.Frag) (neg:Bool):R2:=fun x y H Q=>Mn K neg x y H Q
theorem Bt:dA X (compareOp .NotIn) (Ly X.K true):=by
 intro pins s σ H x y v u Q I rx ry h
 obtain ⟨p,xs,rfl,hq,fx,fs,q⟩:=h
 cases ry
 rcases hq with hq | hq
 ·obtain ⟨its,r,pl,hz⟩:=I.list hq
  refine SeqAt.notIn_listAt (ye x) pl.isList (fun w hw=>wT rx fx r fs w (by simpa using hw)) ⟨.bl _,H,I,rfl,?_⟩
  rw [show its.toArray.any (ye x)=its.any (ye x) by simp,yM r fs]
  exact q
 ·obtain ⟨its,r,pl,hz⟩:=I.tuple hq
  refine SeqAt.notIn_tupleAt (ye x) pl (fun w hw=>wT rx fx r fs w (by simpa using hw)) ⟨.bl _,H,I,rfl,?_⟩
  rw [show its.toArray.any (ye x)=its.any (ye x) by simp,yM r fs]
  exact q
theorem qe:fk X (.builtin "len") (fun xs H Q=>bI fun p ys=>xs=[.ref p]∧(ak X.K H p ys∨ar X.K H p ys)∧Q (.int ys.length) H):=by
 intro pins s σ H xs us Q I r h
 obtain ⟨p,ys,rfl,hq,q⟩:=h
 obtain ⟨u,rfl,rx⟩:=qQ r
 cases rx
 have hn:=uX
 rcases hq with hq | hq
 ·obtain ⟨its,r',pl,hz⟩:=I.list hq
  have hlen:=r'.length
  exact Calls.call_len_list pl.isList (by simp only [List.size_toArray] <;> trivial) ⟨.int ys.length,H,I.tok _,⟨s.toks+1,by rw [List.size_toArray,hlen]⟩,q⟩
 ·obtain ⟨its,r',pl,hz⟩:=I.tuple hq
  have hlen:=r'.length
  exact len_tuple pl (by simp only [List.size_toArray] <;> trivial) ⟨.int ys.length,H,I.tok _,⟨s.toks+1,by rw [List.size_toArray,hlen]⟩,q⟩
theorem vG:fk X (.type "list") (fun xs H Q=>bI fun p ys=>xs=[.ref p]∧(ak X.K H p ys∨ar X.K H p ys)∧∀l,H l=none→Q (.ref l) (aP H l (.lst ys))):=by
 intro pins s σ H xs us Q I r h
 obtain ⟨p,ys,rfl,hq,q⟩:=h
 obtain ⟨u,rfl,rx⟩:=qQ r
 cases rx
 have fin:∀(its:List Value),aL ys its→ys.length≤sizeLine→∀(h':Heap) (c':Nat),(∀b o',s.heap.get? b=some o'→h'.get? b=some o')→
  h'.get? s.heap.objs.size=some { cls:=.type "list",dict:=none,data:=.seq its.toArray c',slots:=#[] }→EP X pins σ Q (.ref s.heap.objs.size) { s with heap:=h' }:=fun its r' hz h' c' kp e=>
  ⟨.ref s.heap.objs.size,_,I.laid (t':=s.toks) kp (Nat.le_refl _) (show bK X.prog X.w _ h' _ (.lst ys) from ⟨hz,its,c',r',e⟩),rfl,q _ (I.hok.fresh (Nat.le_refl _))⟩
 rcases hq with hq | hq
 ·obtain ⟨its,r',pl,hz⟩:=I.list hq
  have hlen:=r'.length
  obtain ⟨o,ho,hc,n,hd⟩:=pl.isList
  exact call_list_seq p (.inl rfl) ho hc hd (fun h' c' kp e=>fin its r' hz h' c' kp e) (by simp only [List.size_toArray] <;> trivial)
 ·obtain ⟨its,r',pl,hz⟩:=I.tuple hq
  have hlen:=r'.length
  obtain ⟨o,ho,hc,n,hd⟩:=pl
  exact call_list_seq p (.inr rfl) ho hc hd (fun h' c' kp e=>fin its r' hz h' c' kp e) (by simp only [List.size_toArray] <;> trivial)
theorem Ag:fk X (.type "tuple") (fun xs H Q=>bI fun p ys=>xs=[.ref p]∧((ak X.K H p ys∧∀l,H l=none→Q (.ref l) (aP H l (.tup ys)))∨(ar X.K H p ys∧Q (.ref p) H))):=by
 intro pins s σ H xs us Q I r h
 obtain ⟨p,ys,rfl,h⟩:=h
 obtain ⟨u,rfl,rx⟩:=qQ r
 cases rx
 rcases h with ⟨hq,q⟩ | ⟨hq,q⟩
 ·obtain ⟨its,r',pl,hz⟩:=I.list hq
  have hlen:=r'.length
  refine call_tuple_list pl.isList (fun h' kp=>?_) (by simp only [List.size_toArray] <;> trivial)
  have I1:ai X pins σ H { s with heap:=h' }:=I.kept (t':=s.toks) kp
  have I2:ai X pins σ (aP H h'.objs.size (.tup ys)) { s with heap:=h'.push { cls:=.type "tuple",data:=.seq its.toArray } }:=
   I1.laid (t':=s.toks) (fun b o e=>Heap.get?_push_of_some _ e) (Nat.le_refl _) (show bK X.prog X.w _ _ _ (.tup ys) from ⟨hz,its,r',IsTup.new _ _,_,Heap.get?_push_size _ rfl,rfl⟩)
  exact ⟨.ref h'.objs.size,_,I2,rfl,q _ (I1.hok.fresh (Nat.le_refl _))⟩
 ·obtain ⟨its,r',pl,hz⟩:=I.tuple hq
  exact call_tuple_same pl ⟨.ref p,H,I,rfl,q⟩
def LA (K:PySem.W.Frag) (T:String) (x:V) (H:Hp):Prop:=match x with
 | .str _=>T = "str"
 | .int _=>T = "int"
 | .ref p=>(T = "list"∧∃xs,ak K H p xs)∨(T = "tuple"∧∃o,K.lookup p=some o∧o.cls=.type "tuple"∧o.dict=none)∨
  (T = "dict"∧((∃kvs,H p=some (.dK kvs))∨∃kvs,H p=some (.dT kvs)))∨(T = "set"∧bI fun S n=>H p=some (.set S n))
 | _=>False
theorem Jt {pins:List (Addr×Obj)}{σ:St}{H:Hp}{s:Shared}{T:String}{x:V}{v:Value} (I:ai X pins σ H s) (r:be x v) (ty:LA X.K T x H) :
 s.TypeIs v T∧∀a,v=.ref a→∃ob,s.heap.get? a=some ob∧ob.dict=none:=by
 cases x with
 | str z=>
  obtain ⟨t,rfl⟩:=r
  cases (show T = "str" from ty)
  exact ⟨typeIs_str s z t,fun _ e=>nomatch e⟩
 | int i=>
  obtain ⟨t,rfl⟩:=r
  cases (show T = "int" from ty)
  exact ⟨typeIs_int s i t,fun _ e=>nomatch e⟩
 | ref p=>
  cases r
  rcases ty with ⟨rfl,xs,hq⟩ | ⟨rfl,o,hk,hc,hd⟩ | ⟨rfl,hk⟩ | ⟨rfl,S,n,hk⟩
  ·obtain ⟨its,_,pl,_⟩:=I.list hq
   refine ⟨pl.isList.typeIs,fun a e=>?_⟩
   cases e
   obtain ⟨o,n,e,c,hd,_⟩:=pl
   exact ⟨o,e,hd⟩
  ·refine ⟨⟨o,I.kIn p o hk,hc⟩,fun a e=>?_⟩
   cases e
   exact ⟨o,I.kIn _ o hk,hd⟩
  ·have z:∃o,s.heap.get? p=some o∧o.ExactDict:=by
    rcases hk with ⟨kvs,hk⟩ | ⟨kvs,hk⟩
    ·obtain ⟨_,_,_,_,o,_,_,e,ex,_⟩:=I.hok p _ hk
     exact ⟨o,e,ex⟩
    ·obtain ⟨_,_,_,_,o,_,_,e,ex,_⟩:=I.hok p _ hk
     exact ⟨o,e,ex⟩
   obtain ⟨o,e,ex⟩:=z
   refine ⟨⟨o,e,ex.1⟩,fun a e2=>?_⟩
   cases e2
   exact ⟨o,e,ex.2.1⟩
  ·obtain ⟨o,_,_,_,e,ex,_⟩:=I.hok p _ hk
   refine ⟨⟨o,e,ex.1⟩,fun a e2=>?_⟩
   cases e2
   exact ⟨o,e,ex.2.1⟩
 | _=>exact False.elim ty
def IT (K:PySem.W.Frag) (T:String) (r:V→List V→Hp→VK→Prop) (to:TE) (t:TA):TE:=fun σ H Q=>to σ H fun x H1=>LA K T x H1∧t σ H1 fun xs H2=>r x xs H2 Q
variable {o e:Expr}{es:List Expr}{to:TE}{t:TA}{name:Str}{apos cpos:Pos}{T id:String}{r:V→List V→Hp→VK→Prop}
theorem Lm (pa:PlainAttrs T) (slot:Slot T name id) (hty:typeOf (.builtin id)=pure (.type "method_descriptor")) (hm:GK X id r) (ho:PE X o to) (ha:PA X (e :: es) t)
 (hbase:attributeBase o name X.env (eval o X.env)=eval o X.env:=by rfl)
 (hfew:((backTo cpos (starEach (e :: es) X.env)).all (fun x=>!x.1) && (backToKw cpos (keywordEach [] X.env)).all (fun x=>x.1.isSome)
  && decide ((e :: es).length+([]:List Keyword).length+(if ([]:List Keyword).isEmpty then 0 else 1)<30))=true:=by rfl)
 (hline:(apos.endLine==cpos.line)=true:=by rfl) (hs:starEach (e :: es) X.env=(false,eval e X.env) :: starEach es X.env:=by rfl) (hplain:(backTo cpos (starEach es X.env)).any (·.1)=false:=by rfl) :
 PE X (.Call (.Attribute o name apos) (e :: es) [] cpos) (IT X.K T r to t):=by
 intro pins s σ H Q I h
 refine wpAny_Call_method_late hbase hfew hline rfl (aR (ho pins s σ H _ I h) fun v s1 ⟨x,H1,I1,r1,ty,q1⟩=>?_)
 obtain ⟨h1,h2⟩:=Jt I1 r1 ty
 refine ⟨T,id,pa,slot,hty,h1,h2,?_⟩
 have hA:=ha cpos pins s1 σ H1 _ I1 q1
 rw [hs] at hA ⊢
 refine Calls.callWith_builtin (by show (false || (backTo cpos (starEach es X.env)).any (·.1))=false;rw [hplain] <;> rfl) (Calls.evalArgs_plain ?_)
 exact aR hA fun us s2 ⟨vs,H2,I2,r2,q2⟩=>hm pins s2 σ H2 x vs v us Q I2 r1 r2 q2
/- xs.append(e), list.index on a module's tuple .. are GK facts of 06m -/
end
end L2
namespace L2
open PySem PySem.Spec PyProof.Rows
def B0 (X:Cx) (id:String) (r:V→List V→Hp→VK→Prop):Prop:=
 ∀(pins:List (Addr×Obj)) (s:Shared) (σ:St) (H:Hp) (x:V) (xs:List V) (v:Value) (us:List Value) (Q:VK),ai X pins σ H s→be x v→aL xs us→r x xs H Q→
   wpAny (model X.prog X.w) X.A (call (.builtin id) (v :: us)) (EP X pins σ Q) X.xe s
theorem Paired.un {α β:Type}{R:α→β→Prop}{x:α}{xs:List α}{us:List β} (h:Paired R (x :: xs) us):bI fun u vs=>us=u :: vs∧R x u∧Paired R xs vs:=by
 cases h with
 | cons r q=>exact ⟨_,_,rfl,r,q⟩
theorem Paired.un0 {α β:Type}{R:α→β→Prop}{us:List β} (h:Paired R [] us):us=[]:=by
 cases h with
 | nil=>rfl
theorem aL.one {x:V}{us:List Value} (h:aL [x] us):∃u,us=[u]∧be x u:=by
 obtain ⟨u,vs,rfl,r,q⟩:=Paired.un h
 rw [Paired.un0 q]
 exact ⟨u,rfl,r⟩
theorem aL.two {x y:V}{us:List Value} (h:aL [x,y] us):bI fun u v=>us=[u,v]∧be x u∧be y v:=by
 obtain ⟨u,vs,rfl,r,q⟩:=Paired.un h
 obtain ⟨v,rfl,q2⟩:=aL.one q
 exact ⟨u,v,rfl,r,q2⟩
theorem aL.rep {xs:List V}{us:List Value} (h:aL xs us):∀k:Nat,aL (List.replicate k xs).flatten (List.replicate k us).flatten
 | 0=>.nil
 | k+1=>by
  rw [List.replicate_succ,List.replicate_succ,List.flatten_cons,List.flatten_cons]
  exact aL.append h (aL.rep h k)
theorem zq (its:List Value):∀(k:Nat) (acc:List Value),
 List.foldl (fun x1 x2=>x1++x2) acc.toArray (List.replicate k its.toArray)=(acc++(List.replicate k its).flatten).toArray
 | 0,acc=>by simp
 | k+1,acc=>by
  have e:acc.toArray++its.toArray=(acc++its).toArray:=by simp
  have e2:(acc++its)++(List.replicate k its).flatten=acc++(List.replicate (k+1) its).flatten:=by
   rw [List.replicate_succ,List.flatten_cons,List.append_assoc]
  rw [←e2,←zq its k (acc++its),←e,List.replicate_succ,List.foldl_cons]
section
variable {X:Cx}{pins:List (Addr×Obj)}{σ:St}{H:Hp}{s:Shared}{l b:Addr}{xs ys zs:List V}
theorem ai.lset {its its':List Value}{n:Nat}{f:Array Value→Array Value}{t':Nat} (I:ai X pins σ H s) (hH:H l=some (.lst xs))
 (e:s.heap.get? l=some { cls:=.type "list",data:=.seq its.toArray n }) (hf:f its.toArray=its'.toArray) (hv:aL ys its') (hz:ys.length≤sizeLine) :
 ai X pins σ (aP H l (.lst ys)) { s with heap:=s.heap.update l (Obj.mapSeq f),toks:=t' }:=by
 have q:=PySem.IsL.update e f
 rw [hf] at q
 refine I.write (x:=l) (e:=l) (by rw [hH];exact trivial) (.inl rfl) (fun b' u hb hu=>(Heap.get?_update_other s.heap (Obj.mapSeq f) (Ne.symm hb)).trans hu) ⟨_,q⟩ ?_
 exact ⟨hz,its',_,hv,q⟩
theorem ai.lnew {its:List Value}{t':Nat} (I:ai X pins σ H s) (hv:aL ys its) (hz:ys.length≤sizeLine) :
 ai X pins σ (aP H s.heap.objs.size (.lst ys)) { s with heap:=s.heap.push { cls:=.type "list",data:=.seq its.toArray },toks:=t' }:=
 I.laid (fun _ _ q=>Heap.get?_push_of_some _ q) (Nat.le_refl _) ⟨hz,its,0,hv,Heap.get?_push_size _ rfl⟩
theorem ai.fresh (I:ai X pins σ H s):H s.heap.objs.size=none:=I.hok.fresh (Nat.le_refl _)
theorem ai.lstM (I:ai X pins σ H s) (hH:H l=some (.lst xs)):xs.length≤sizeLine∧bI fun (its:List Value) (n:Nat)=>aL xs its∧xs.length=its.length∧s.heap.get? l=some { cls:=.type "list",data:=.seq its.toArray n }:=by
 obtain ⟨z,its,n,r,e⟩:=I.hok l _ hH
 exact ⟨z,its,n,r,r.length,e⟩
theorem AC {n:Nat} (h:n≤sizeLine):Builtin.List.listTooLong n=false:=by
 unfold Builtin.List.listTooLong
 exact decide_eq_false (by trivial)
end
section
variable {X:Cx}
inductive FV (x:V) (vs:List V) (H:Hp) (Q:VK):Prop
 | mk (l:_) (xs:_) (y:_) (h0:x=.ref l) (h1:vs=[y]) (h2:H l=some (.lst xs)) (h3:xs.length<sizeLine) (h4:Q .non (aP H l (.lst (xs++[y]))))
def GX:V→List V→Hp→VK→Prop:=fun x vs H Q=>FV  x vs H Q
theorem zr:B0 X "list.append" GX:=by
 intro pins s σ H x vs v us Q I rx rv h
 obtain ⟨l,xs,y,rfl,rfl,hH,hz,q⟩:=h
 cases rx
 obtain ⟨u,rfl,ru⟩:=rv.one
 obtain ⟨z,its,n,r,hl,e⟩:=I.lstM hH
 refine call_meets F.slot_list_append ⟨_,e,rfl⟩ F.entry_list_append (F.args_list_append_2 _ _) (PySem.list_append l its.toArray n u (by rw [List.size_toArray];trivial)) ⟨e,?_⟩
 refine ⟨.non,_,I.lset (its':=its++[u]) hH e (by simp) (r.append (.cons ru .nil)) ?_,rfl,q⟩
 rw [List.length_append,List.length_singleton]
 trivial
inductive Go (x:V) (vs:List V) (H:Hp) (Q:VK):Prop
 | mk (l:_) (b:_) (xs:_) (zs:_) (h0:x=.ref l) (h1:vs=[.ref b]) (h2:H l=some (.lst xs)) (h3:H b=some (.lst zs)) (h4:xs.length+zs.length≤sizeLine) (h5:Q .non (aP H l (.lst (xs++zs))))
def HH:V→List V→Hp→VK→Prop:=fun x vs H Q=>Go  x vs H Q
theorem Fn:B0 X "list.extend" HH:=by
 intro pins s σ H x vs v us Q I rx rv h
 obtain ⟨l,b,xs,zs,rfl,rfl,hH,hB,hz,q⟩:=h
 cases rx
 obtain ⟨u,rfl,ru⟩:=rv.one
 cases ru
 obtain ⟨z,its,n,r,hl,e⟩:=I.lstM hH
 obtain ⟨z2,its2,n2,r2,hl2,e2⟩:=I.lstM hB
 have hsz:its.toArray.size+its2.toArray.size≤sizeLine:=by rw [List.size_toArray,List.size_toArray];trivial
 have hlong:¬(!its.toArray.isEmpty && Builtin.List.listTooLong (its.toArray.size+its2.toArray.size))=true:=by
  rw [AC hsz,Bool.and_false]
  exact Bool.false_ne_true
 refine call_meets F.slot_list_extend ⟨_,e,rfl⟩ F.entry_list_extend (F.args_list_extend_2 _ _)
  (AutoSeq1.list_extend_list_list_0 l its.toArray n b its2.toArray n2 hlong (by rw [List.size_toArray];trivial) (by trivial)) ⟨e,e2,?_⟩
 refine ⟨.non,_,I.lset (its':=its++its2) hH e (by simp) (r.append r2) ?_,rfl,q⟩
 rw [List.length_append]
 trivial
inductive KJ (x:V) (y:V) (H:Hp) (Q:VK):Prop
 | mk (l:_) (b:_) (xs:_) (zs:_) (h0:x=.ref l) (h1:y=.ref b) (h2:H l=some (.lst xs)) (h3:H b=some (.lst zs)) (h4:xs.length+zs.length≤sizeLine) (h5:∀p,H p=none→Q (.ref p) (aP H p (.lst (xs++zs))))
def LO:R2:=fun x y H Q=>KJ  x y H Q
theorem Id:dA X (binaryOp .Add) LO:=by
 intro pins s σ H x y v u Q I rx ry h
 obtain ⟨l,b,xs,zs,rfl,rfl,hH,hB,hz,q⟩:=h
 cases rx
 cases ry
 obtain ⟨z,its,n,r,hl,e⟩:=I.lstM hH
 obtain ⟨z2,its2,n2,r2,hl2,e2⟩:=I.lstM hB
 refine PySem.P.add_list e e2 ?_ (by rw [List.size_toArray,List.size_toArray];trivial)
 have ea:its.toArray++its2.toArray=(its++its2).toArray:=by simp
 rw [ea]
 exact ⟨.ref _,_,I.lnew (t':=s.toks) (r.append r2) (by rw [List.length_append];trivial),rfl,q _ I.fresh⟩
inductive KP (x:V) (y:V) (H:Hp) (Q:VK):Prop
 | mk (l:_) (k:_) (xs:_) (h0:x=.ref l) (h1:y=.int k) (h2:H l=some (.lst xs)) (h3:-(2 ^ 63)≤k) (h4:k<2 ^ 63) (h5:xs.length*k.toNat≤sizeLine) (h6:∀p,H p=none→Q (.ref p) (aP H p (.lst (List.replicate k.toNat xs).flatten)))
def Mf:R2:=fun x y H Q=>KP  x y H Q
theorem Cj {α:Type} (xs:List α) (k:Nat):(List.replicate k xs).flatten.length=k*xs.length:=by
 induction k with
 | zero=>simp
 | succ k ih=>rw [List.replicate_succ,List.flatten_cons,List.length_append,ih,Nat.succ_mul,Nat.add_comm]
theorem IY:dA X (binaryOp .Mult) Mf:=by
 intro pins s σ H x y v u Q I rx ry h
 obtain ⟨l,k,xs,rfl,rfl,hH,h1,h2,hz,q⟩:=h
 cases rx
 obtain ⟨t,rfl⟩:=ry
 obtain ⟨z,its,n,r,hl,e⟩:=I.lstM hH
 have hlen:its.toArray.size*k.toNat≤sizeLine:=by rw [List.size_toArray,←hl];exact hz
 have hcap:¬its.toArray.size*k.toNat > (2 ^ 63 - 1) / 8:=by
  have:(sizeLine:Nat)≤(2 ^ 63 - 1) / 8:=by decide
  trivial
 have hfit:¬(!Builtin.List.listFitsIndex k)=true:=by
  rw [fitsIndex_both h1 h2]
  exact Bool.false_ne_true
 have hlong:¬Builtin.List.listTooLong (its.toArray.size*k.toNat)=true:=by
  rw [AC hlen]
  exact Bool.false_ne_true
 have hnew:List.foldl (fun x1 x2=>x1++x2) #[] (List.replicate (if its.toArray.isEmpty=true then 0 else k.toNat) its.toArray)=(List.replicate k.toNat its).flatten.toArray:=by
  have f0:∀m:Nat,List.foldl (fun x1 x2=>x1++x2) #[] (List.replicate m its.toArray)=(List.replicate m its).flatten.toArray:=fun m=>by
   have:=zq its m []
   rw [List.nil_append] at this
   exact this
  rw [f0]
  cases its with
  | nil=>simp
  | cons a r'=>rw [if_neg (by simp)]
 refine wpAny_binaryOp_repeat_ref (T := "list") (U := "int") (by decide) ⟨_,e,rfl⟩ (fun s'=>typeIs_int s' k t) noFill_list_mul F.fills_int_mul F.slot_int_rmul repeat_list F.slot_int_index.lookup
  (call_meets F.slot_int_rmul (typeIs_int s k t) F.entry_int_rmul (F.args_int_rmul_2 _ _) (int___rmul___int_list k t l its.toArray n)
   ⟨e,rfl,⟨_,e,rfl⟩,call_meets F.slot_list_mul ⟨_,e,rfl⟩ F.entry_list_mul (F.args_list_mul_2 _ _) (AutoListH.list___mul___list_int_3 l its.toArray n k t hfit hcap hlong) ⟨e,?_⟩⟩)
 rw [hnew]
 exact ⟨.ref _,_,I.lnew (t':=s.toks) (r.rep k.toNat) (by rw [Cj,Nat.mul_comm];exact hz),rfl,q _ I.fresh⟩
end
section
variable {prog:Program}{w:World}{A:Around}{E:Value→Shared→Prop}{s:Shared}
set_option maxRecDepth 100000 in
end
section
variable {X:Cx}
end
end L2
namespace Att
open PySem PySem.W PySem.Calls PyProof.Rows
theorem yt {P:Params}{h:Heap}:∀(ns:List Int) (vs:List Value),WellAll P h vs (ns.map WData.int)→IntsAre vs ns:=by
 intro ns
 induction ns with
 | nil=>
  intro vs w
  rw [List.map_nil] at w
  cases w
  exact .nil
 | cons n ns ih=>
  intro vs w
  rw [List.map_cons] at w
  cases w with
  | cons a b=>
   cases a
   exact .cons _ _ (ih _ b)
theorem EO {l:OpenLaw}{n:Nat} (hn:l.most=some n) {P:Params}{h:Heap}{args:List WData}{vals:List Value}
 (hpre:l.row.toRowW.claim.pre args=true) (hwl:WellAll P h vals args) :
 ∃a vs ns,vals=[Value.ref a]∧args=[WData.list (ns.map WData.int)]∧h.get? a=some { cls:=.type "list",data:=.seq vs.toArray }∧IntsAre vs ns∧ns.length≤n:=by
 have hsh:WShape.hasAll [] args [.list .int]=true:=(pre_splitW hpre).1
 have hc:l.pre.holds [] { args:=args }=true:=(pre_splitW hpre).2
 obtain ⟨d,r,rfl,h1,h2⟩:=hasAllW_cons hsh
 obtain rfl:=hasAllW_nil h2
 obtain ⟨xs,rfl,h3⟩:=hasW_list h1
 obtain ⟨ns,rfl⟩:=items_int h3
 have hlen:ns.length≤n:=by
  unfold OpenLaw.pre at hc
  have h4:(WTm.not (.lt (.lit (.int (n:Int))) (.len (.arg 0)))).holds [] { args:=[.list (ns.map .int)] }=true:=by
   have h4:=(holds_andW hc).1
   rw [hn] at h4
   exact h4
  have h5:=condW_of h4 (w_not (w_lt w_lit (w_len_list (w_arg rfl))))
  rw [List.length_map] at h5
  refine Nat.le_of_not_lt fun q=>?_
  have q':(n:Int)<((ns.length:Nat):Int):=by trivial
  first
   | (rw [decide_eq_true q'] at h5;exact absurd h5 (by decide))
   | (simp at h5;trivial)
 cases hwl with
 | cons w1 w2=>
  cases w2
  cases w1 with
  | list ho hall=>exact ⟨_,_,ns,rfl,rfl,ho,yt ns _ hall,hlen⟩
theorem Et (l:OpenLaw) (args:List WData):l.row.toRowW.claim.post args (.bool true) args=true:=
 postW_of (r:=l.row.toRowW) (X:=(true==true))
  (show WShape.has [] (.bool true) .bool=true by first | rfl | decide | simp [WShape.has,WShape.arms,WShape.armsAll])
  (show (WTm.eq .res (.lit (.bool true))).value [] { args:=args,res:=some (.bool true),after:=args }=some (.bool (true==true)) from w_eq_bool (w_res rfl) w_lit) rfl
theorem attach_call {l:OpenLaw}{n:Nat}{q:Program}{loose:List Str}{XP:(Str→Option Value)→Heap→Prop}{YP:World→Heap→Prop}{d:DefRec}
 (hn:l.most=some n) (hdf:d.params.defaults=[])
 (call:∀(w:World) (s₀ s₁:Shared) (mg mb:Str→Option Value) (fa:Addr) (o:Obj) (pm cd doc:Value) (a:Addr) (vs:List Value) (ns:List Int),
  Ground q loose [] XP w s₀ mg mb s₁.heap→YP w s₁.heap→
  s₁.heap.get? fa=some o→o.data=.func (docDef d.name d.params d.body d.scope pm cd doc)→s₁.heap.CodeRec cd d.name→mg d.name=some (.ref fa)→
  s₁.heap.get? a=some { cls:=.type "list",data:=.seq vs.toArray }→IntsAre vs ns→ns.length≤n→s₁.gens=#[]→
  codeAny (model l.prog w) callerA (.call (.ref fa) ⟨[.ref a],[]⟩) (fun r s'=>r=.ok (.ret (.bool true))∧OldK s₁.heap s'.heap∧s'.os=s₁.os∧AllBare s'.gens) s₁) :
 WalkO q loose XP YP l.row.toRowW d [] (fun f vs=>PySem.call f vs):=by
 intro w s₀ s₁ mg mb G Y fa o pm cd doc dV kV ho hd hcd hD hmg hg args vals as hpre hlay hrd hwl hlo
 obtain rfl:dV=.none:=Dflts.none hD hdf
 obtain rfl:kV=.none:=Dflts.noKw hD
 obtain ⟨a,vs,ns,rfl,rfl,hobj,hints,hlen⟩:=EO hn hpre hwl
 refine enter_call (codeAny_mono (call w s₀ s₁ mg mb fa o pm cd doc a vs ns G Y ho (fd_plain hd) hcd hmg hobj hints hlen hg) fun r s' hq=>?_)
 obtain ⟨rfl,h2,h3,h4⟩:=hq
 exact ⟨.inl ⟨.bool true,.bool true,[],rfl,fun _=>rfl,.bool true,Et l _,fun _=>⟨List.Pairwise.nil,fun _ hm=>(nomatch hm)⟩⟩,h2,h3,h4⟩
section
variable {prog:Program}{w:World}{A:Around}{E:Value→Shared→Prop}{s:Shared}{K:Frag}
end
end Att
namespace L2
open PySem PySem.Spec PyProof.Rows
theorem zd:∀{vs:List Value}{ns:List Int},IntsAre vs ns→aL (ns.map V.int) vs
 | _,_,.nil=>.nil
 | _,_,.cons n t h=>.cons ⟨t,rfl⟩ (zd h)
def yF (H:Hp):Prop:=∀b,H b=none∨bI fun o xs=>H b=some (.frz o (.lst xs))
theorem Gk {P:Program}{w:World}{K:PySem.W.Frag}{mg mb:Str→Option Value}{CX:qc}{k:Nat}{fa a:Addr}{fd:FuncData}{x:Str}{sp:Sp}{s₁:Shared}{vs:List Value}{ns:List Int}
 (KX:K.In s₁.heap) (hns:s₁.heap.Ns mainGlobals mg) (hb:s₁.heap.Ns builtinsNs mb) (hbb:∀x:Str,x≠"__name__"→mb x=bootBuiltins x) (hlim:s₁.heap.NoLimit) (hg:s₁.gens=#[])
 (ha:s₁.heap.get? a=some { cls:=.type "list",data:=.seq vs.toArray }) (hi:IntsAre vs ns) (hl:ns.length≤sizeLine) (hr:i9 k callerA)
 (F:∀base:Heap,K.In base→base.Ns mainGlobals mg→aZ P w K mg base CX k fa fd [x] sp) (hbind:∀(s:Shared) (u:Value),BindsTo s fd ⟨[u],[]⟩ [(x,u)])
 (hsp:∀H:Hp,yF H→ak K H a (ns.map V.int)→sp [.ref a] H (fun v _=>v=.bl true) fun _ _ _=>False)
 (hCX:∀H e s',CX [] H s₁ (fun _ _ _=>False) e s'→False) :
 codeAny (model P w) callerA (.call (.ref fa) ⟨[.ref a],[]⟩) (fun r s'=>r=.ok (.ret (.bool true))∧OldK s₁.heap s'.heap∧s'.os=s₁.os∧AllBare s'.gens) s₁:=by
 have rv:=zd hi
 have lenV:=hi.length
 have core:∀H:Hp,yF H→ak K H a (ns.map V.int)→gh P w H s₁.heap→(∀b,H b≠none→b=a)→(H a≠none→K.lookup a=none)→
  codeAny (model P w) callerA (.call (.ref fa) ⟨[.ref a],[]⟩) (fun r s'=>r=.ok (.ret (.bool true))∧OldK s₁.heap s'.heap∧s'.os=s₁.os∧AllBare s'.gens) s₁:=by
  intro H hO hS hok hA hK
  have base_of:∀{b:Addr}{o:Obj},s₁.heap.get? b=some o→H b=none→(uk s₁.heap H).get? b=some o:=fun e n=>FJ e n
  have noA:∀{b:Addr}{o:Obj}{es:Array DictEntry}{ep:Nat},s₁.heap.get? b=some o→o.data=.dict es ep→H b=none:=fun {b o es ep} e d=>by
   cases q:H b with
   | none=>rfl
   | some u=>
    have e':b=a:=hA b (by rw [q];simp)
    subst e'
    rw [ha] at e;cases e
    have d':Data.seq vs.toArray _=Data.dict es ep:=d
    cases d'
  have nsK:∀{b:Addr}{m:Str→Option Value},s₁.heap.Ns b m→(uk s₁.heap H).Ns b m:=fun {b m} ⟨o,es,ep,e,d,r⟩=>⟨o,es,ep,base_of e (noA e d),d,r⟩
  have hKb:K.In (uk s₁.heap H):=fun b o e=>base_of (KX b o e) (by
   cases q:H b with
   | none=>rfl
   | some u=>
    have e':b=a:=hA b (by rw [q];simp)
    subst e'
    rw [hK (by rw [q];simp)] at e;cases e)
  have hM:Mod K mg (uk s₁.heap H):=⟨hKb,nsK hns,⟨mb,nsK hb,hbb⟩,let ⟨mc,h1,h2⟩:=hlim;⟨mc,nsK h1,h2⟩⟩
  have e0:Dl P w K mg (uk s₁.heap H) callerA [] s₁ H:=⟨rfl,hM,fun b o e=>Hf e,Nat.le_of_eq (Er _ _),trivial,fun b hb=>absurd (show b∈([]:List Addr) from hb) (by simp),hok,.of_eq hg⟩
  refine codeAny_mono ((F _ hKb (nsK hns)).run callerA [] s₁ H ⟨[.ref a],[]⟩ [.ref a] [.ref a] _ _ hr e0 (hbind s₁ (.ref a)) (.cons rfl .nil) (hsp H hO hS)) fun r s' h=>?_
  cases r with
  | error e=>exact (hCX H e s' h).elim
  | ok fl=>
   cases fl with
   | next=>exact False.elim h
   | brk=>exact False.elim h
   | cont=>exact False.elim h
   | ret u=>
    obtain ⟨v,H',os,bare,un,hok',r',q⟩:=h
    have q':v=.bl true:=q
    subst q'
    obtain rfl:u=Value.bool true:=r'
    refine ⟨rfl,OldK.of_keep fun b o e=>?_,os,bare⟩
    cases q:H b with
    | none=>exact un.keep b o e q (by intro z;exact absurd (show b∈([]:List Addr) from z) (by simp)) (by simp)
    | some u=>
     rcases hO b with z | ⟨ob,xs,z⟩
     ·rw [q] at z;cases z
     ·have z2:=un.frzs b ob _ z
      obtain ⟨e1,_⟩:=hok b _ z
      obtain ⟨e2,_⟩:=hok' b _ z2
      rw [e] at e1;cases e1
      exact e2
 cases hk:K.lookup a with
 | some o=>
  have e:=KX a o hk
  rw [ha] at e
  cases e
  refine core (fun _=>none) (fun _=>.inl rfl) (.inr ⟨_,vs.toArray,_,hk,rfl,rfl,rfl,by rw [List.size_toArray,lenV];exact hl,by simpa using rv⟩) (fun b u z=>by have z':(none:Option HO)=some u:=z;cases z') (fun b z=>absurd rfl z) fun z=>absurd rfl z
 | none=>
  refine core (fun b=>if b=a then some (.frz { cls:=.type "list",data:=.seq vs.toArray } (.lst (ns.map V.int))) else none) (fun b=>?_) (.inl (.inr ⟨{ cls:=.type "list",data:=.seq vs.toArray },if_pos rfl⟩)) (fun b u z=>?_) (fun b z=>?_) fun _=>hk
  ·by_cases hb:b=a
   ·exact .inr ⟨_,_,if_pos hb⟩
   ·exact .inl (if_neg hb)
  ·by_cases hb:b=a
   ·have z':=(if_pos hb).symm.trans z
    cases z'
    subst hb
    exact ⟨ha,by rw [List.length_map];exact hl,vs,_,rv,ha⟩
   ·have z':=(if_neg hb).symm.trans z
    cases z'
  ·by_cases hb:b=a
   ·exact hb
   ·exact absurd (if_neg hb) z
theorem walk_of {l:PySem.W.OpenLaw}{n k:Nat}{q:Program}{loose:List Str}{XP:(Str→Option Value)→Heap→Prop}{YP:World→Heap→Prop}{d:DefRec}{K:Params→PySem.W.Frag}{CX:World→qc}{sp:World→Sp}{x:Str}
 (hn:l.most=some n) (hn2:n≤sizeLine) (hdf:d.params.defaults=[]) (hr:i9 k callerA)
 (hY:∀(w:World) (h:Heap),YP w h→(K w.params).In h)
 (F:∀(w:World) (mg:Str→Option Value) (fa:Addr) (h:Heap),(K w.params).In h→h.Ns mainGlobals mg→mg d.name=some (.ref fa)→
  ∃fd:FuncData,(∀(s:Shared) (u:Value),BindsTo s fd ⟨[u],[]⟩ [(x,u)])∧
   ∀base:Heap,(K w.params).In base→base.Ns mainGlobals mg→aZ l.prog w (K w.params) mg base (CX w) k fa fd [x] (sp w))
 (hsp:∀(w:World) (H:Hp) (a:Addr) (ns:List Int),ns.length≤n→yF H→ak (K w.params) H a (ns.map V.int)→sp w [.ref a] H (fun v _=>v=.bl true) fun _ _ _=>False)
 (hCX:∀(w:World) (H:Hp) (s:Shared) (e:Value) (s':Shared),CX w [] H s (fun _ _ _=>False) e s'→False) :
 PySem.W.WalkO q loose XP YP l.row.toRowW d [] (fun f vs=>PySem.call f vs):=by
 refine Att.attach_call hn hdf fun w s₀ s₁ mg mb fa o pm cd doc a vs ns G Y ho hd hcd hmg hobj hints hlen hg=>?_
 have KX:=hY w _ Y
 obtain ⟨fd,hb,hF⟩:=F w mg fa _ KX G.T.g hmg
 exact Gk KX G.T.g G.T.b G.T.builtins G.T.nolimit hg hobj hints (Nat.le_trans hlen hn2) hr hF hb (fun H hO hS=>hsp w H a ns hlen hO hS) fun H e s'=>hCX w H s₁ e s'
theorem FN {l:PySem.W.OpenLaw}{n k:Nat}{q:Program}{loose:List Str}{XP:(Str→Option Value)→Heap→Prop}{YP:World→Heap→Prop}{d:DefRec}{K:Params→PySem.W.Frag}{CX:qc}{sp:PySem.W.Frag→Sp}{x:Str}
 (hn:l.most=some n) (hn2:n≤sizeLine) (hdf:d.params.defaults=[]) (hr:i9 k callerA)
 (hY:∀(w:World) (h:Heap),YP w h→(K w.params).In h)
 (F:∀(w:World) (mg:Str→Option Value) (fa:Addr) (h:Heap),(K w.params).In h→h.Ns mainGlobals mg→mg d.name=some (.ref fa)→
  ∃fd:FuncData,(∀(s:Shared) (u:Value),BindsTo s fd ⟨[u],[]⟩ [(x,u)])∧
   ∀base:Heap,(K w.params).In base→base.Ns mainGlobals mg→aZ l.prog w (K w.params) mg base CX k fa fd [x] (sp (K w.params)))
 (hsp:∀(K:PySem.W.Frag) (H:Hp) (a:Addr) (ns:List Int),ns.length≤n→yF H→ak K H a (ns.map V.int)→sp K [.ref a] H (fun v _=>v=.bl true) fun _ _ _=>False)
 (hCX:∀(H:Hp) (s:Shared) (e:Value) (s':Shared),CX [] H s (fun _ _ _=>False) e s'→False) :
 PySem.W.WalkO q loose XP YP l.row.toRowW d [] (fun f vs=>PySem.call f vs):=
 walk_of (K:=K) (CX:=fun _=>CX) (sp:=fun w=>sp (K w.params)) hn hn2 hdf hr hY F (fun w H a ns h1 h2 h3=>hsp (K w.params) H a ns h1 h2 h3) fun _ H s e s'=>hCX H s e s'
end L2
/- THE LAST THEOREM (shape; LID, My.* are yours):
 My.Adr: a structure of the addresses that your layer names (classes, functions); My.Txt K t: a structure (Prop) of the equations over K;
 My.txt_mk : {K} {implicit addresses ..} (e1 : nsIn K mainGlobals "law" = some (some (.ref f))) (e2 : K.lookup f = some ⟨oc, od, .func (fnOf "law" "law" params body scope dV kV doc pm an cdv ct), sl⟩) (e3 : codeIn K cdv "law" = true) .. : ∃ t, My.Txt K t
set_option maxRecDepth 100000 in
set_option maxHeartbeats 0 in
theorem PySem.Challenge.cw_LID_holds : PySem.Challenge.rw_LID.Holds := by
 w_on; o_law; k_head; (case hw => w_witness2)
 k_fill
 refine L2.walk_of (l := PySem.Challenge.rw_LID) (n := 63) (k := 40) (x := "script") (CX := fun w => ..) (sp := fun _ => My.sp_law) rfl (by decide) rfl ⟨rfl, by decide, by decide⟩ (fun w h Y => PySem.W.kIn_of Y) ?F ?S ?C
 case F =>
  intro w mg fa h KX G hmg
  have T : ∃ t, My.Txt (L2.KOf KX) t := by
   dsimp only [L2.KOf]                          -- K must stand as «<heap const> w.params» for k_is
   refine' My.txt_mk ?e1 ?e2 ?e3 ..
   (case e1 => PySem.W.k_is)                    -- in the order: a name -> its address -> its object -> its parts
   (case e2 => PySem.W.k_is)
   ..
  obtain ⟨t, T⟩ := T
  have e0 := hmg.symm.trans (PySem.W.mg_of KX G T.law)
  cases e0                                       -- fa is the law's own address
  exact ⟨_, fun s u => .of_eq rfl, fun base kb nb => My.law_fn T kb nb⟩     -- if «.of_eq rfl» comes too early: refine' ⟨_, ?b, fun base kb nb => My.law_fn T kb nb⟩; exact fun s u => .of_eq rfl
 case S => exact fun w H a ns hl hO hS => ..
 case C => exact ..
(the tactic k_is has no namespace: write k_is) -/
namespace L2
open PySem PySem.Spec PyProof.Rows
def y0 (s:Stmt):Arguments:=match s with
 | .FunctionDef _ a _ _ _ _ _ _ _ _=>a
 | _=>{ posonlyargs:=[],args:=[],vararg:=none,kwonlyargs:=[],kw_defaults:=[],kwarg:=none,defaults:=[] }
def wf (s:Stmt):List Stmt:=match s with
 | .FunctionDef _ _ b _ _ _ _ _ _ _=>b
 | _=>[]
def aw (s:Stmt):Scope:=match s with
 | .FunctionDef _ _ _ _ _ _ sc _ _ _=>sc
 | _=>{ kind:=.function,names:=[],isGenerator:=false,isCoroutine:=false }
abbrev CX0:qc:=fun _ _ _ _ _ _=>False
abbrev E0:XK:=fun _ _ _=>False
theorem yB {X:Cx}:Bg CX0 X E0:=fun _ _ _ _ _ _ _ h=>h.elim
structure AW (K:PySem.W.Frag) (x qual:Str) (st:Stmt) (f:Addr) (fd:FuncData):Prop where
 ex:Lv fun (oc:Value) (od:Option Addr) (kV doc pm:Value) (an:Option Addr) (cdv ct:Value) (osl:Array (Option Value))=>
  fd=PySem.W.fnOf x qual (y0 st) (wf st) (aw st) .none kV doc pm an cdv ct∧K.lookup f=some ⟨oc,od,.func fd,osl⟩∧PySem.W.codeIn K cdv qual=true
 kp:PySem.W.keepIn K (.ref f)=true
section
variable {P:Program}{w:World}{K:PySem.W.Frag}{mg:Str→Option Value}{base:Heap}
theorem AW.ok {x qual:Str}{st:Stmt}{f:Addr}{fd:FuncData}{N ps:List Str}{k:Nat}{sp:Sp} (F:AW K x qual st f fd) (S:aB N ps (aw st)) (len:∀vs H Q E,sp vs H Q E→vs.length=ps.length)
 (hbody:∀(cdv:Value) (A:Around) (outer:List Env) (s:Shared) (H:Hp) (vs:List V) (Q:VK) (E:XK),i9 k (A.deeper (envOfC qual (aw st) s.heap.objs.size f cdv))→sp vs H Q E→
  ∃t,sq (y4 CX0 P w K mg base N qual (aw st) f cdv A outer s H E).nox (wf st) t∧t { nx:=fun _ H'=>Q .non H',rt:=Q } (pj N vs) H):aZ P w K mg base CX0 (k+1) f fd ps sp:=by
 obtain ⟨oc,od,kV,doc,pm,an,cdv,ct,osl,rfl,lk,hcd⟩:=F.ex
 refine Lf lk hcd S len fun A outer s H vs Q E hr hsp=>?_
 obtain ⟨t,h,q⟩:=hbody cdv A outer s H vs Q E hr hsp
 exact ⟨t,h.nox,q⟩
theorem AW.binds {x qual:Str}{st:Stmt}{f:Addr}{fd:FuncData}{ps:List Str} (F:AW K x qual st f fd)
 (h:∀(kV doc pm:Value) (an:Option Addr) (cdv ct:Value) (us:List Value),us.length=ps.length→bindArgs (PySem.W.fnOf x qual (y0 st) (wf st) (aw st) .none kV doc pm an cdv ct) ⟨us,[]⟩=pure (ps.zip us)):wo K fd ps []:=by
 obtain ⟨oc,od,kV,doc,pm,an,cdv,ct,osl,rfl,lk,hcd⟩:=F.ex
 exact .all (h kV doc pm an cdv ct)
end
section
variable {X:Cx}
theorem pv (i:Nat) {x:Str}{pos:Pos} (hN:X.N[i]?=some x:=by rfl) (hv:Ei X.env.scope x:=by first | exact Or.inl rfl | exact Or.inr (Or.inl rfl) | exact Or.inr (Or.inr rfl)) (hd:(x==("__debug__" : Str))=false:=by decide)
 (hcd:(x==("__classdict__" : Str))=false:=by decide):PE X (.Name x pos) (uo i):=EA hN hv hd hcd
end
theorem aJ {A B:Prop} (h:B):if false=true then A else B:=by
 rw [if_neg Bool.false_ne_true]
 exact h
theorem ay {A B:Prop} (h:A):if true=true then A else B:=by
 rw [if_pos rfl]
 exact h
theorem mS {c A B:Prop} [Decidable c] (h1:c→A) (h2:¬c→B):if c then A else B:=by
 by_cases h:c
 ·rw [if_pos h]
  exact h1 h
 ·rw [if_neg h]
  exact h2 h
def aa (H H':Hp):Prop:=∀b o,H b=some o→H' b=some o
theorem aa.refl (H:Hp):aa H H:=fun _ _ h=>h
theorem aa.trans {H H1 H2:Hp} (a:aa H H1) (b:aa H1 H2):aa H H2:=fun c o h=>b c o (a c o h)
theorem aa.free {H H':Hp} (e:aa H H') {l:Addr} (h:H' l=Option.none):H l=Option.none:=by
 cases q:H l with
 | none=>rfl
 | some o=>
  rw [e l o q] at h
  cases h
theorem aa.seq {K:PySem.W.Frag}{H H':Hp}{a:Addr}{xs:List V} (e:aa H H') (h:ak K H a xs):ak K H' a xs:=by
 rcases h with (h | ⟨o,h⟩) | h
 ·exact .inl (.inl (e _ _ h))
 ·exact .inl (.inr ⟨o,e _ _ h⟩)
 ·exact .inr h
end L2
namespace L2
open PySem
theorem wg {scope:Scope}{env:Env} (h:∀y∈scope.names,y.2=.free→∃c,env.cells.lookup y.1=some c) :
 ∃cl,closureFor scope env=pure cl∧(∀x c,cl.lookup x=some c→env.cells.lookup x=some c)∧(∀y∈scope.names,y.2=.free→∃c,cl.lookup y.1=some c):=by
 have go:∀(names:List (Str×NameKind)) (acc:List (Str×Addr)),(∀y∈names,y.2=.free→∃c,env.cells.lookup y.1=some c)→(∀x c,acc.lookup x=some c→env.cells.lookup x=some c)→
  ∃cl,(forIn names acc (fun (x:Str×NameKind) (cs:List (Str×Addr))=>match x with
   | (name,kind)=>if (kind==.free)=true then (do let a ←cellOf env name;pure (ForInStep.yield ((name,a) :: cs))) else pure (ForInStep.yield cs)):Sem (List (Str×Addr)))=pure cl∧
   (∀x c,cl.lookup x=some c→env.cells.lookup x=some c)∧(∀y∈names,y.2=.free→∃c,cl.lookup y.1=some c)∧(∀x c,acc.lookup x=some c→∃c',cl.lookup x=some c'):=by
  intro names
  induction names with
  | nil=>intro acc _ ha;exact ⟨acc,rfl,ha,fun y hy=>(by cases hy),fun x c e=>⟨c,e⟩⟩
  | cons x r ih=>
   intro acc hn ha
   obtain ⟨name,kind⟩:=x
   rw [List.forIn_cons]
   by_cases hk:kind=.free
   ·subst hk
    obtain ⟨c,hc⟩:=hn (name,.free) List.mem_cons_self rfl
    have e:cellOf env name=pure c:=by unfold cellOf;rw [hc]
    obtain ⟨cl,e1,e2,e3,e4⟩:=ih ((name,c) :: acc) (fun y hy=>hn y (List.mem_cons_of_mem _ hy)) (fun x c' hx=>by
     rw [List.lookup_cons] at hx
     split at hx
     ·rename_i hb
      have:x=name:=by simpa using hb
      subst this
      cases hx;exact hc
     ·exact ha x c' hx)
    refine ⟨cl,?_,e2,fun y hy hf=>?_,fun x c' hx=>?_⟩
    ·simp only [beq_self_eq_true,if_true]
     rw [e,pure_bind,pure_bind]
     exact e1
    ·rcases List.mem_cons.mp hy with rfl | hy
     ·exact e4 name c (by simp)
     ·exact e3 y hy hf
    ·by_cases hb:(x==name)=true
     ·have:x=name:=by simpa using hb
      subst this
      exact e4 x c (by simp)
     ·exact e4 x c' (by rw [List.lookup_cons];simp only [Bool.not_eq_true] at hb;rw [hb];exact hx)
   ·have hb:(kind==NameKind.free)=false:=by simpa using hk
    obtain ⟨cl,e1,e2,e3,e4⟩:=ih acc (fun y hy=>hn y (List.mem_cons_of_mem _ hy)) ha
    refine ⟨cl,?_,e2,fun y hy hf=>?_,e4⟩
    ·simp only [hb,Bool.false_eq_true,if_false]
     rw [pure_bind]
     exact e1
    ·rcases List.mem_cons.mp hy with rfl | hy
     ·exact absurd hf hk
     ·exact e3 y hy hf
 obtain ⟨cl,e1,e2,e3,_⟩:=go scope.names [] h (fun x c e=>by simp at e)
 refine ⟨cl,?_,e2,e3⟩
 unfold closureFor
 show (forIn scope.names _ _ >>= fun cs=>pure cs)=_
 rw [bind_pure]
 exact e1
section
variable {prog:Program}{w:World}{A:Around}{R:Result→Shared→Prop}{s:Shared}
theorem Bh {elt target iter:Expr}{ifs:List Expr}{scope:Scope}{pos:Pos}{it acc:Value}{env:Env} (I:Nat→Shared→Prop)
 (turn:∀n s,I n s→wpAny (model prog w) A (pyNext it) (fun r s₁=>match r with
  | none=>R (.ok .next) s₁
  | some v=>wpAny (model prog w) A (letOwnedTupleGo target it v) (fun _ s₁'=>wpAny (model prog w) A (assign target env v) (fun _ s₂=>
   wpAny (model prog w) A (forIn ifs true fun c r=>if r=true then do let ok ←isTrue c env (eval c env);pure (ForInStep.yield ok) else pure (ForInStep.yield r)) (fun ok s₃=>
    if ok=true then wpAny (model prog w) A (eval elt env) (fun x s₄=>
     wpAny (model prog w) A (call (.builtin "list.append") [acc,x]) (fun _ s₅=>∃m,m<n∧I m s₅) (fun _ _=>False) s₄) (fun _ _=>False) s₃
    else ∃m,m<n∧I m s₃) (fun _ _=>False) s₂) (fun _ _=>False) s₁') (fun _ _=>False) s₁) (fun _ _=>False) s)
 (n:Nat) (h:I n s) :
 codeAny (model prog w) A (.compLoop (.ListComp elt [⟨target,iter,ifs,0⟩] scope pos) 0 it acc env) R s:=by
 refine codeAny_loop rfl I (fun n s hI=>?_) n h
 show wpAny _ A ((compTurn (.ListComp elt [⟨target,iter,ifs,0⟩] scope pos) 0 it acc env).onRaise (fun x=>do noteFrame x env;theTreesLotGoes x)) _ _ s
 refine wpAny_noted ?_
 rw [compTurn_list]
 refine wpAny_bind (wpAny_standAt (wpAny_bind (wpAny_mono (turn n s hI) (fun r s₁ h₁=>?_) fun _ _ h'=>h'.elim)))
 cases r with
 | none=>exact wpAny_pure h₁
 | some v=>
  refine wpAny_bind (wpAny_mono h₁ (fun _ s₁' h₁'=>?_) fun _ _ h'=>h'.elim)
  refine wpAny_bind (wpAny_mono h₁' (fun _ s₂ h₂=>wpAny_bind (wpAny_mono h₂ (fun ok s₃ h₃=>?_) fun _ _ h'=>h'.elim)) fun _ _ h'=>h'.elim)
  cases ok with
  | false=>exact wpAny_pure ⟨rfl,h₃⟩
  | true=>
   exact wpAny_bind (wpAny_bind (wpAny_mono h₃ (fun x s₄ h₄=>wpAny_bind (wpAny_mono h₄ (fun _ s₅ h₅=>wpAny_pure (wpAny_pure ⟨rfl,h₅⟩)) fun _ _ h'=>h'.elim)) fun _ _ h'=>h'.elim))
end
end L2
namespace L2
open PySem PySem.Spec PyProof.Rows
section
variable {X:Cx}
theorem nH:fk X (.builtin "isinstance") (fun xs H Q=>xX fun x T t b=>xs=[x,.ty T]∧ku X.K H x t∧PySem.W.kitOne X.K t (.type T)=some b∧Q (.bl b) H):=by
 intro pins s σ H xs us Q I r h
 obtain ⟨x,T,t,b,rfl,ty,e,q⟩:=h
 obtain ⟨u,c,rfl,ru,rc⟩:=r.two
 obtain rfl:c=Value.type T:=rc
 exact Ez I ru ty e fun tk=>⟨.bl b,H,I.tok tk,rfl,q⟩
end
def bz (X:Cx) (scope:Scope) (cl:List (Str×Addr)) (C:Addr) (N':List Str) (s:Shared) (H:Hp) (ex:List Addr) (pn:List (Addr×Obj)):Cx:=
 { X with N:=N',s₀:=s,H₀:=H,env:=compEnvC scope cl C X.env,outer:=X.stack,ex:=ex,fn:=fun _=>false,pn:=pn,xe:=fun _ _=>False }
def eC (L:Nat) (src:List Nat) (σ:St):St:=List.replicate L none++src.map fun j=>(σ[j]?).join
def ja (σ σ':St):Prop:=σ'.length=σ.length∧∀(i:Nat) v,σ[i]?=some (some v)→σ'[i]?=some (some v)
theorem eH {x:V}{r:St}:ja (none :: r) (some x :: r):=⟨rfl,fun i v e=>by
 cases i with
 | zero=>simp at e
 | succ i=>simpa using e⟩
theorem yx {x y:V}{r:St}:ja (none :: none :: r) (some x :: some y :: r):=⟨rfl,fun i v e=>by
 cases i with
 | zero=>simp at e
 | succ i=>
  cases i with
  | zero=>simp at e
  | succ i=>simpa using e⟩
def oK (X:Cx) (ifs:List Expr) (t:TT):Prop:=
 ∀(pins:List (Addr×Obj)) (s:Shared) (σ:St) (H:Hp) (Q:Bool→Hp→Prop),ai X pins σ H s→t σ H Q→
   wpAny (model X.prog X.w) X.A (forIn ifs true fun c r=>if r=true then do let ok ←isTrue c X.env (eval c X.env);pure (ForInStep.yield ok) else pure (ForInStep.yield r)) (TP X pins σ Q) X.xe s
def tT:TT:=fun _ H Q=>Q true H
theorem bE {X:Cx}:oK X [] tT:=fun _ _ _ H _ I h=>wpAny_pure ⟨H,I,h⟩
theorem tL {X:Cx}{c:Expr}{t:TT} (hc:PT X c t):oK X [c] t:=by
 intro pins s σ H Q I h
 rw [List.forIn_cons]
 refine wpAny_bind ?_
 rw [if_pos rfl]
 exact wpAny_bind (aR (hc pins s σ H Q I h) fun b s1 q=>wpAny_pure (wpAny_pure q))
def pJ (esc:Scope) (N:List Str) (scope:Scope) (N':List Str) (L:Nat) (src:List Nat):Bool:=
 (scope.kind==.function) && scope.names.all (fun y=>y.2 != .cell && (y.2 != .local || scope.names.lookup y.1==some .local) && (y.2 != .free || esc.names.lookup y.1==some .cell || esc.names.lookup y.1==some .free)) &&
  (N'.length==L+src.length) && (List.range src.length).all fun i=>match src[i]?,N'[L+i]? with
   | some j,some x=>(N[j]?==some x) && (scope.names.lookup x==some .free)
   | _,_=>false
structure x6 (esc:Scope) (N:List Str) (scope:Scope) (N':List Str) (L:Nat) (src:List Nat):Prop where
 kind:scope.kind=.function
 nocell:∀y∈scope.names,y.2≠.cell
 loc:∀y∈scope.names,y.2=.local→scope.names.lookup y.1=some .local
 free:∀y∈scope.names,y.2=.free→esc.names.lookup y.1=some .cell∨esc.names.lookup y.1=some .free
 len:N'.length=L+src.length
 frees:∀(i j:Nat),src[i]?=some j→∃x,N'[L+i]?=some x∧N[j]?=some x∧scope.names.lookup x=some .free
theorem rf {esc:Scope}{N:List Str}{scope:Scope}{N':List Str}{L:Nat}{src:List Nat} (h:pJ esc N scope N' L src=true):x6 esc N scope N' L src:=by
 unfold pJ at h
 simp only [Bool.and_eq_true,List.all_eq_true] at h
 obtain ⟨⟨⟨h1,h2⟩,h3⟩,h4⟩:=h
 refine ⟨by simpa using h1,fun y hy=>?_,fun y hy e=>?_,fun y hy e=>?_,by simpa using h3,fun i j e=>?_⟩
 ·have:=(h2 y hy).1.1
  simpa using this
 ·have:=(h2 y hy).1.2
  rw [e] at this
  simpa using this
 ·have:=(h2 y hy).2
  rw [e] at this
  simpa using this
 ·have hi:i<src.length:=(List.getElem?_eq_some_iff.mp e).1
  have:=h4 i (List.mem_range.mpr hi)
  rw [e] at this
  cases q:N'[L+i]? with
  | none=>rw [q] at this;simp at this
  | some x=>
   rw [q] at this
   simp only [Bool.and_eq_true,beq_iff_eq] at this
   exact ⟨x,rfl,this.1,this.2⟩
def tM (J:It) (σc:St) (g:TG) (tt:TT) (te:TE) (D:Addr) (H1:Hp) (Q:VK):Prop:=
 ∃W:Nat→Nat→Hp→List V→Prop,(∃m,W 0 m (aP H1 D (.lst [])) [])∧∀i m H ys,W i m H ys→H D=some (.lst ys)∧
  ((J.stop i H∧Q (.ref D) H)∨(J.go i H∧ys.length<sizeLine∧∃N:Hp→List V→Prop,(∀H' ys',N H' ys'→∃m',m'<m∧W (i+1) m' H' ys')∧
    ∀x H',J.yld i H x H'→g x σc H' fun σ2 H2=>ja σc σ2∧tt σ2 H2 fun b H3=>if b=true then te σ2 H3 fun y H4=>H4 D=some (.lst ys)∧N (aP H4 D (.lst (ys++[y]))) (ys++[y]) else N H3 ys))
def CV (wi:TI) (L:Nat) (src:List Nat) (g:TG) (tt:TT) (te:TE):TE:=fun σ H Q=>wi σ H fun J H1=>∀D,H1 D=none→tM J (eC L src σ) g tt te D H1 Q
section
variable {X:Cx}{elt tg iter:Expr}{ifs:List Expr}{scope:Scope}{pos:Pos}{N':List Str}{L:Nat}{src:List Nat}{wi:TI}{g:TG}{tt:TT}{te:TE}
theorem Ax (hc:X.calm=true) (ck:x6 X.env.scope X.N scope N' L src) {cl:List (Str×Addr)}{pins:List (Addr×Obj)}{s:Shared}{σ:St}{H:Hp}{Q:VK} (I:ai X pins σ H s)
 (hsub:∀x c,cl.lookup x=some c→X.env.cells.lookup x=some c) (hhas:∀y∈scope.names,y.2=.free→∃c,cl.lookup y.1=some c)
 (hi:PI X tg iter wi) (hg:∀cl C s H ex pn,PG (bz X scope cl C N' s H ex pn) tg g) (hif:∀cl C s H ex pn,oK (bz X scope cl C N' s H ex pn) ifs tt)
 (he:∀cl C s H ex pn,PE (bz X scope cl C N' s H ex pn) elt te) (h:CV wi L src g tt te σ H Q) {RR:Value→Addr→Result→Shared→Prop}
 (hRR:∀D C H' f s' m,ai X pins σ H' s'→s'.heap.Ns C m→jM X pins H' C→Q (.ref D) H'→RR (.ref D) C (.ok f) s') :
 wpAny (model X.prog X.w) X.A (eval iter X.env) (fun x s₁=>wpAny (model X.prog X.w) X.A (pyIter x) (fun it s₂=>wpAny (model X.prog X.w) X.A (newList []) (fun acc s₃=>
  wpAny (model X.prog X.w) X.A (newFunctionEnv scope X.env.globals cl [] X.env.qual none .none (some X.env)) (fun cenv s₄=>
   codeAny (model X.prog X.w) X.A (.compStart (.ListComp elt [⟨tg,iter,ifs,0⟩] scope pos) 0 it acc { cenv with scope:=relabel scope X.env }) (RR acc cenv.locals) s₄) X.xe s₃) X.xe s₂) X.xe s₁) X.xe s:=by
 refine aR (hi pins s σ H _ I h) fun v s1 h1=>aR h1 fun itv s2 h2=>?_
 obtain ⟨it,fp,tn,J,H2,e,I2,T,st2,f2,q⟩:=h2
 subst e
 refine wpAny_newObj_type (wpAny_newFunctionEnv ck.nocell (by intro y hy;simp at hy) (fun h₁ hns₁ hsb₁=>?_) ck.kind)
 dsimp only at hns₁ hsb₁ ⊢
 generalize hH2:s2.heap.push { cls:=.type "list",dict:=none,data:=.seq ([]:List Value).toArray }=hp2 at hns₁ hsb₁ ⊢
 have hC:hp2.objs.size=s2.heap.objs.size+1:=by rw [←hH2,Heap.size_push]
 have hDC:s2.heap.objs.size≠hp2.objs.size:=by rw [hC];exact Nat.ne_of_lt (Nat.lt_succ_self _)
 have hCle:s2.heap.objs.size≤hp2.objs.size:=by rw [hC];exact Nat.le_succ _
 have below:∀b,b<s2.heap.objs.size→b≠hp2.objs.size∧b≠s2.heap.objs.size:=fun b hb=>⟨by rw [hC];exact Nat.ne_of_lt (Nat.lt_succ_of_lt hb),Nat.ne_of_lt hb⟩
 have old:∀b o,s2.heap.get? b=some o→h₁.get? b=some o:=fun b o e=>hsb₁.extBut b o (below b (Heap.lt_size e)).1 (Heap.get?_push_of_some _ (hH2▸Heap.get?_push_of_some _ e))
 have hacc:h₁.get? s2.heap.objs.size=some { cls:=.type "list",dict:=none,data:=.seq ([]:List Value).toArray }:=hsb₁.extBut _ _ hDC (Heap.get?_push_of_some _ (hH2▸Heap.get?_push_size _ rfl))
 have hDn:H2 s2.heap.objs.size=none:=I2.fresh
 obtain ⟨W,⟨m0,w0⟩,turn⟩:=q _ hDn
 have fpo:∀b∈fp,∃o,s2.heap.get? b=some o∧∀v,o.data≠.cell v:=T.obj _ _ st2
 have fplt:∀b∈fp,b<s2.heap.objs.size:=fun b hb=>by obtain ⟨o,e,_⟩:=fpo b hb;exact Heap.lt_size e
 have hfrs:∀b∈fp,b∉qK X.stack:=fun b hb z=>by
  rcases List.mem_cons.mp (I2.stkSub b z) with z' | z'
  ·exact (f2 b hb).2.1 z'
  ·exact (f2 b hb).2.2.1 z'
 generalize hX:bz X scope cl hp2.objs.size N' s2 H2 fp (X.pn++pins)=X'
 have ok':X'.Ok:=by
  subst hX
  refine ⟨I2.ok.mod,ck.kind,I2.ok.glob,I2.ok.blt,hCle,fun x y c e1 e2=>I2.ok.inj x y c (hsub _ _ e1) (hsub _ _ e2),fun x hx=>?_,fun x c z _=>(by cases z),I2.ok.hd,I2.ok.frames,.inl rfl,fun b hb=>⟨(below b (fplt b hb)).1,fun x c e=>(f2 b hb).2.2.2.2.1 x c (hsub _ _ e)⟩,
   I2.bs,Nat.le_trans I2.ok.bsz I2.sz,fun b o e hb=>?_,hfrs,I2.stack,I2.stkFree⟩
  ·-- a name that is a cell or free
   have hx':(relabel scope X.env).names.lookup x=some .cell∨(relabel scope X.env).names.lookup x=some .free:=hx
   have key:∀(names:List (Str×NameKind)),(∀y∈names,y.2≠.cell)→
    ((names.map fun (n,k)=>if (k==NameKind.free && X.env.scope.kind==.function && X.env.kindOf n==some .cell) then (n,NameKind.cell) else (n,k)).lookup x=some .cell∨
     (names.map fun (n,k)=>if (k==NameKind.free && X.env.scope.kind==.function && X.env.kindOf n==some .cell) then (n,NameKind.cell) else (n,k)).lookup x=some .free)→∃y∈names,y.1=x∧y.2=.free:=by
    intro names
    induction names with
    | nil=>intro _ h;rcases h with h | h <;> simp at h
    | cons y r ih=>
     intro hn h
     obtain ⟨n,k⟩:=y
     by_cases hb:x=n
     ·subst hb
      refine ⟨(x,k),List.mem_cons_self,rfl,?_⟩
      by_cases hk:k=.free
      ·exact hk
      ·exfalso
       have hkb:(k==NameKind.free)=false:=by simpa using hk
       have hnc:k≠.cell:=hn (x,k) List.mem_cons_self
       simp only [List.map_cons,hkb,Bool.false_and,Bool.false_eq_true,if_false,List.lookup_cons,beq_self_eq_true,if_true] at h
       rcases h with h | h
       ·exact hnc (Option.some.inj h)
       ·exact hk (Option.some.inj h)
     ·have hb':(x==n)=false:=by simpa using hb
      have h':((r.map fun (n,k)=>if (k==NameKind.free && X.env.scope.kind==.function && X.env.kindOf n==some .cell) then (n,NameKind.cell) else (n,k)).lookup x=some .cell∨
       (r.map fun (n,k)=>if (k==NameKind.free && X.env.scope.kind==.function && X.env.kindOf n==some .cell) then (n,NameKind.cell) else (n,k)).lookup x=some .free):=by
       rw [List.map_cons] at h
       dsimp only at h
       by_cases hcnd:(k==NameKind.free && X.env.scope.kind==.function && X.env.kindOf n==some .cell)=true
       ·rw [if_pos hcnd] at h
        simpa only [List.lookup_cons,hb'] using h
       ·rw [if_neg hcnd] at h
        simpa only [List.lookup_cons,hb'] using h
      obtain ⟨y,hy,e1,e2⟩:=ih (fun y hy=>hn y (List.mem_cons_of_mem _ hy)) h'
      exact ⟨y,List.mem_cons_of_mem _ hy,e1,e2⟩
   obtain ⟨y,hy,e1,e2⟩:=key scope.names ck.nocell hx'
   obtain ⟨c,hc'⟩:=hhas y hy e2
   exact ⟨c,e1▸hc'⟩
  ·rcases (f2 b hb).2.2.2.1 with z | z
   ·exact I2.ok.noex b o e z
   ·exact absurd (Nat.lt_of_lt_of_le (Heap.lt_size e) (Nat.le_trans I2.ok.bsz z)) (Nat.lt_irrefl _)
 have stat:∀{H':Hp},(∀b∈fp,H' b=none)→∀b∈fp,jM X' [] H' b:=by
  subst hX
  intro H' hn b hb
  refine ⟨hn b hb,(below b (fplt b hb)).1,hfrs b hb,.inl hb,fun x c e=>(f2 b hb).2.2.2.2.1 x c (hsub _ _ e),fun p hp=>?_⟩
  have hp':p∈X.pn++pins:=by simpa [bz] using hp
  exact (f2 b hb).2.2.2.2.2 p hp'
 have I1:ai X' [] (eC L src σ) (aP H2 s2.heap.objs.size (.lst [])) { s2 with heap:=h₁,toks:=s2.toks+([]:List (Str×Value)).length }:=by
  subst hX
  have up:∀b o,H2 b=some o→aP H2 s2.heap.objs.size (.lst []) b=some o:=fun b o e=>by rw [aE (bf e hDn)];exact e
  have upn:∀b,b<s2.heap.objs.size→H2 b=none→aP H2 s2.heap.objs.size (.lst []) b=none:=fun b hb e=>by rw [aE (Nat.ne_of_lt hb)];exact e
  refine ⟨ok',rfl,I2.bare,Un.laid old (Nat.le_refl _) hDn,⟨_,hns₁,fun i x v e1 e2 e3=>?_⟩,fun x c e=>?_,?_,fun x c e=>?_,fun p hp=>?_,I2.hok.laid old (Nat.le_refl _) ⟨Nat.zero_le _,[],0,.nil,hacc⟩,?_⟩
  ·-- the names of the def around
   have hiL:L≤i:=by
    by_cases hlt:i<L
    ·exfalso
     unfold eC at e2
     rw [List.getElem?_append_left (by simpa using hlt),List.getElem?_replicate,if_pos hlt] at e2
     cases e2
    ·trivial
   have e2':(src.map fun j=>(σ[j]?).join)[i - L]?=some (some v):=by
    unfold eC at e2
    rw [List.getElem?_append_right (by simpa using hiL),List.length_replicate] at e2
    exact e2
   rw [List.getElem?_map] at e2'
   cases hj:src[i - L]? with
   | none=>rw [hj] at e2';cases e2'
   | some j=>
    rw [hj] at e2'
    have e3':(σ[j]?).join=some v:=Option.some.inj e2'
    have hσ:σ[j]?=some (some v):=by
     cases q:σ[j]? with
     | none=>rw [q] at e3';cases e3'
     | some o=>rw [q] at e3';exact congrArg some e3'
    obtain ⟨x',g1,g2,g3⟩:=ck.frees (i - L) j hj
    have:L+(i - L)=i:=by trivial
    rw [this] at g1
    have ex:x'=x:=Option.some.inj (g1.symm.trans e1)
    subst ex
    have hfree:=ck.free _ (PySem.mem_of_lookup g3) rfl
    obtain ⟨m,hn,hl⟩:=I2.loc
    obtain ⟨u,r,l⟩:=hl j x' v g2 hσ (hfree.elim (fun z=>.inr (.inl z)) fun z=>.inr (.inr z))
    refine ⟨u,r,.inr ⟨?_,?_⟩⟩
    ·-- its kind in the block
     have key:∀(names:List (Str×NameKind)),names.lookup x'=some .free→
      ((names.map fun (n,k)=>if (k==NameKind.free && X.env.scope.kind==.function && X.env.kindOf n==some .cell) then (n,NameKind.cell) else (n,k)).lookup x'=some .cell∨
       (names.map fun (n,k)=>if (k==NameKind.free && X.env.scope.kind==.function && X.env.kindOf n==some .cell) then (n,NameKind.cell) else (n,k)).lookup x'=some .free):=by
      intro names
      induction names with
      | nil=>intro h;simp at h
      | cons y r ih=>
       intro h
       obtain ⟨n,k⟩:=y
       by_cases hb:x'=n
       ·subst hb
        simp only [List.lookup_cons,beq_self_eq_true,if_true] at h
        have hk:k=.free:=Option.some.inj h
        subst hk
        rw [List.map_cons]
        dsimp only
        by_cases hcnd:(NameKind.free==NameKind.free && X.env.scope.kind==.function && X.env.kindOf x'==some .cell)=true
        ·rw [if_pos hcnd];left;simp [List.lookup_cons]
        ·rw [if_neg hcnd];right;simp [List.lookup_cons]
       ·have hb':(x'==n)=false:=by simpa using hb
        have h':=ih (by simpa only [List.lookup_cons,hb'] using h)
        rw [List.map_cons]
        dsimp only
        by_cases hcnd:(k==NameKind.free && X.env.scope.kind==.function && X.env.kindOf n==some .cell)=true
        ·rw [if_pos hcnd];simpa only [List.lookup_cons,hb'] using h'
        ·rw [if_neg hcnd];simpa only [List.lookup_cons,hb'] using h'
     exact key scope.names g3
    ·obtain ⟨c,hcl⟩:=hhas _ (PySem.mem_of_lookup g3) rfl
     have hcx:=hsub _ _ hcl
     rcases l with ⟨k1,_⟩ | ⟨_,c',e4,z⟩
     ·exfalso
      have k1':X.env.scope.names.lookup x'=some .local:=k1
      rcases hfree with z | z
      ·rw [z] at k1';cases k1'
      ·rw [z] at k1';cases k1'
     ·rw [hcx] at e4
      cases e4
      obtain ⟨o,ho,hd⟩:=z
      exact ⟨c,hcl,o,old _ _ ho,hd⟩
  ·obtain ⟨v,o,ho,hd⟩:=I2.cell x c (hsub _ _ e)
   exact ⟨v,o,old _ _ ho,hd⟩
  ·show aP H2 s2.heap.objs.size (.lst []) hp2.objs.size=none
   rw [aE (Ne.symm hDC)]
   exact I2.hok.fresh hCle
  ·obtain ⟨v,o,ho,hd⟩:=I2.cell x c (hsub _ _ e)
   exact upn c (Heap.lt_size ho) (I2.freeC x c (hsub _ _ e))
  ·have hp':p∈X.pn++pins:=by simpa [bz] using hp
   obtain ⟨e,n,ne,nf,d⟩:=I2.pin p hp'
   have hlt:=Heap.lt_size e
   refine ⟨old _ _ e,upn _ hlt n,(below _ hlt).1,fun z=>?_,d⟩
   rcases List.mem_cons.mp (I2.stkSub _ z) with z' | z'
   ·exact ne z'
   ·exact nf z'
  ·show (eC L src σ).length=N'.length
   unfold eC
   rw [List.length_append,List.length_replicate,List.length_map,ck.len]
 have eA:X'.A=X.A:=by subst hX;rfl
 have eP:X'.prog=X.prog:=by subst hX;rfl
 have eW:X'.w=X.w:=by subst hX;rfl
 have eK:X'.K=X.K:=by subst hX;rfl
 have ec:X'.calm=true:=by subst hX;exact hc
 have exe:X'.xe=fun _ _=>False:=by subst hX;rfl
 have eE:X'.env=compEnvC scope cl hp2.objs.size X.env:=by subst hX;rfl
 have hg':PG X' tg g:=by subst hX;exact hg _ _ _ _ _ _
 have hif':oK X' ifs tt:=by subst hX;exact hif _ _ _ _ _ _
 have he':PE X' elt te:=by subst hX;exact he _ _ _ _ _ _
 have aft:∀{H':Hp}{s':Shared},ai X' [] (eC L src σ) H' s'→ai X pins σ H' s'∧(∃m,s'.heap.Ns hp2.objs.size m)∧jM X pins H' hp2.objs.size:=by
  subst hX
  intro H' s' J
  refine ⟨I2.call' (ch:=fp) J.os J.base J.hok J.bare fun b hb=>⟨(f2 b hb).2.2.2.1,(f2 b hb).2.1,(f2 b hb).2.2.2.2.1,(f2 b hb).2.2.2.2.2⟩,?_,I2.fpOk hCle J.free⟩
  obtain ⟨m,hn,_⟩:=J.loc
  exact ⟨m,hn⟩
 have st1:tn 0 h₁:=T.keep _ _ _ st2 fun b hb o e=>old b o e
 have loop:∀s₃:Shared,s₃={ s2 with heap:=h₁,toks:=s2.toks+([]:List (Str×Value)).length }→
  codeAny (model X.prog X.w) X.A (.compLoop (.ListComp elt [⟨tg,iter,ifs,0⟩] scope pos) 0 (.ref it) (.ref s2.heap.objs.size) (compEnvC scope cl hp2.objs.size X.env))
   (RR (.ref s2.heap.objs.size) hp2.objs.size) s₃:=by
  rintro s₃ rfl
  refine Bh (fun n s'=>kJ fun i H' ys=>ai X' [] (eC L src σ) H' s'∧tn i s'.heap∧(∀b∈fp,H' b=none)∧W i n H' ys) ?_ m0
   ⟨0,_,[],I1,st1,fun b hb=>(by rw [aE (below b (fplt b hb)).2];exact (f2 b hb).1),w0⟩
  rintro n s3 ⟨i,H3,ys,I3,st3,fr3,w3⟩
  obtain ⟨hD,alt⟩:=turn i n H3 ys w3
  rcases alt with ⟨stop,qn⟩ | ⟨go,hlen,N,hN,step⟩
  ·have d:=T.done X' eP eW eK ec i [] s3 (eC L src σ) H3 (fun _ _=>False) I3 (stat fr3) st3 stop
   rw [eA] at d
   refine aR d fun r s4 ⟨hr,I4⟩=>?_
   subst hr
   obtain ⟨J,⟨m,hn⟩,fpC⟩:=aft I4
   exact hRR _ _ H3 .next s4 m J hn fpC qn
  ·have d:=T.item X' eP eW eK ec i [] s3 (eC L src σ) H3 (fun _ _=>False) I3 (stat fr3) st3 go
   rw [eA] at d
   refine aR d fun r s4 ⟨u,hr,h4⟩=>?_
   subst hr
   refine aR h4 fun _ s5 ⟨x,H5,I5,r5,y5,st5,fr5⟩=>?_
   have I5':=I5.pinned (stat fr5) (T.obj _ _ st5)
   have a1:=hg' _ s5 (eC L src σ) H5 x u _ I5' r5 (step x H5 y5)
   rw [eP,eW,eA,eE,exe] at a1
   refine aR a1 fun _ s6 ⟨σ6,H6,I6,bk,q6⟩=>?_
   have a2:=hif' _ s6 σ6 H6 _ I6 q6
   rw [eP,eW,eA,eE,exe] at a2
   refine aR a2 fun b s7 ⟨H7,I7,q7⟩=>?_
   have again:∀{H8:Hp}{s8:Shared}{ys':List V},ai X' ([]++qx fp s5.heap) σ6 H8 s8→N H8 ys'→∃m,m<n∧kJ fun i H' ys=>ai X' [] (eC L src σ) H' s8∧tn i s8.heap∧(∀b∈fp,H' b=none)∧W i m H' ys:=fun {H8 s8 ys'} I8 n8=>by
    obtain ⟨m',hm,w8⟩:=hN H8 ys' n8
    refine ⟨m',hm,i+1,H8,ys',(I8.unpinned).weak bk.1.symm bk.2,T.keep _ _ _ st5 fun b hb o e=>(I8.pin (b,o) (List.mem_append_right _ (List.mem_append_right _ (gu hb e)))).1,fun b hb=>?_,w8⟩
    obtain ⟨o,e,d⟩:=T.obj _ _ st5 b hb
    exact (I8.pin (b,o) (List.mem_append_right _ (List.mem_append_right _ (gu hb e)))).2.1
   cases b with
   | false=>
    rw [if_neg Bool.false_ne_true] at q7 ⊢
    exact again I7 q7
   | true=>
    rw [if_pos rfl] at q7 ⊢
    have a3:=he' _ s7 σ6 H7 _ I7 q7
    rw [eP,eW,eA,eE,exe] at a3
    refine aR a3 fun xv s8 ⟨y,H8,I8,r8,hD8,q8⟩=>?_
    have a4:=zr (X:=X') _ s8 σ6 H8 (.ref s2.heap.objs.size) [y] (.ref s2.heap.objs.size) [xv] (fun _ H'=>H'=aP H8 s2.heap.objs.size (.lst (ys++[y]))) I8 rfl (.cons r8 .nil) ⟨_,ys,y,rfl,rfl,hD8,hlen,rfl⟩
    rw [eP,eW,eA,exe] at a4
    refine aR a4 fun _ s9 ⟨_,H9,I9,_,e9⟩=>?_
    subst e9
    exact again I9 q8
 exact codeAny_compStart_list (loop _ rfl) (T.self _ 0 _ _ _ st1 (loop _ rfl))
theorem b5 (hc:X.calm=true) (ck:pJ X.env.scope X.N scope N' L src=true) (hi:PI X tg iter wi) (hg:∀cl C s H ex pn,PG (bz X scope cl C N' s H ex pn) tg g) (hif:∀cl C s H ex pn,oK (bz X scope cl C N' s H ex pn) ifs tt)
 (he:∀cl C s H ex pn,PE (bz X scope cl C N' s H ex pn) elt te) (hs:∀x,foldedSetIterable iter X.env x=pure x:=by intro _;rfl) :
 PE X (.ListComp elt [⟨tg,iter,ifs,0⟩] scope pos) (CV wi L src g tt te):=by
 intro pins s σ H Q I h
 have ck:=rf ck
 obtain ⟨cl,hclos,hsub,hhas⟩:=wg (scope:=scope) (env:=X.env) fun y hy e=>I.ok.has y.1 (ck.free y hy e)
 rw [eval_ListComp]
 refine wpAny_comprehension_free (use:=none) rfl hs hclos ck.kind ck.loc (Ax hc ck I hsub hhas hi hg hif he h (RR:=fun acc C=>compPost (model X.prog X.w) X.A X.xe none (EP X pins σ Q) acc C) ?_)
 intro D C H' f s' m J hn fpC q
 refine ⟨m,hn,fun h' hsb=>⟨.ref D,H',?_,rfl,q⟩⟩
 obtain ⟨f0,f1,f2,f3,f4,f5⟩:=fpC
 exact J.turned (t':=s'.toks) (fun b o hb e=>(hsb.2 b hb).trans e) f0 f1 f3 f4 f5
theorem pi {j:Nat}{y:Str}{py spos:Pos} (hN:X.N.Nodup) (hj:X.N[j]?=some y) (hy:X.env.scope.names.lookup y=some .local) (hsw:swapsWith (.ListComp elt [⟨tg,iter,ifs,0⟩] scope pos) (some (.Name y py)) spos.line X.env=pure true)
 (hc:X.calm=true) (ck:pJ X.env.scope X.N scope N' L src=true) (hi:PI X tg iter wi) (hg:∀cl C s H ex pn,PG (bz X scope cl C N' s H ex pn) tg g) (hif:∀cl C s H ex pn,oK (bz X scope cl C N' s H ex pn) ifs tt)
 (he:∀cl C s H ex pn,PE (bz X scope cl C N' s H ex pn) elt te) (hs:∀x,foldedSetIterable iter X.env x=pure x:=by intro _;rfl) :
 PS X (.Assign [.Name y py] (.ListComp elt [⟨tg,iter,ifs,0⟩] scope pos) spos) (Bz (CV wi L src g tt te) (tI j)):=by
 intro pins s σ H D I h
 have ck:=rf ck
 obtain ⟨cl,hclos,hsub,hhas⟩:=wg (scope:=scope) (env:=X.env) fun y hy e=>I.ok.has y.1 (ck.free y hy e)
 rw [exec_Assign_Name_used _ _ _ _ hsw]
 refine wpAny_bind (wpAny_standAt (wpAny_bind ?_))
 show wpAny _ X.A (do let _ ←comprehension (.ListComp elt [⟨tg,iter,ifs,0⟩] scope pos) scope X.env _ (newList []) false (eval iter X.env) (some (assign (.Name y py) X.env))) _ _ s
 refine wpAny_bind (wpAny_mono (wpAny_comprehension_free (use:=some (assign (.Name y py) X.env)) (Q:=fun _ s'=>SP X pins D .next s') rfl hs hclos ck.kind ck.loc
  (Ax hc ck I hsub hhas hi hg hif he h (RR:=fun acc C=>compPost (model X.prog X.w) X.A X.xe (some (assign (.Name y py) X.env)) (fun _ s'=>SP X pins D .next s') acc C) ?_)) (fun _ s' hq=>wpAny_pure (wpAny_pure hq)) fun _ _ e=>e)
 intro L' C H' f s' m J hn fpC q
 show wpAny _ X.A (assign (.Name y py) X.env (.ref L')) _ _ _
 refine wpAny_assign_Name (uP J hN hj (.inl hy) (v:=.ref L') rfl (fun s2 J2 hsb=>?_) (.inr hy))
 obtain ⟨f0,f1,f2,f3,f4,f5⟩:=fpC
 obtain ⟨a,hsb,ha⟩:=hsb
 have hCa:C≠a:=by
  rcases ha with rfl | ha
  ·exact f1
  ·exact fun z=>f4 _ _ ha z.symm
 refine ⟨m,hn.sameBut hsb hCa,fun h' hsb'=>⟨_,H',?_,q⟩⟩
 exact J2.turned (t':=s2.toks) (fun b o hb e=>(hsb'.2 b hb).trans e) f0 f1 f3 f4 f5
end
theorem nX {J:It}{n:Nat}{H1:Hp}{D:Addr}{σc:St}{g:TG}{tt:TT}{te:TE}{Q:VK} (Pv:Nat→Hp→List V→Prop) (hz:n≤sizeLine) (h0:Pv 0 (aP H1 D (.lst [])) [])
 (hD:∀i H ys,Pv i H ys→H D=some (.lst ys)∧ys.length≤i)
 (hgo:∀i H ys,i<n→Pv i H ys→J.go i H) (hst:∀H ys,Pv n H ys→J.stop n H)
 (hs:∀i H ys x H',i<n→Pv i H ys→J.yld i H x H'→g x σc H' fun σ2 H2=>ja σc σ2∧tt σ2 H2 fun b H3=>if b=true then te σ2 H3 fun y H4=>H4 D=some (.lst ys)∧Pv (i+1) (aP H4 D (.lst (ys++[y]))) (ys++[y]) else Pv (i+1) H3 ys)
 (hd:∀H ys,Pv n H ys→Q (.ref D) H):tM J σc g tt te D H1 Q:=by
 refine ⟨fun i m H ys=>m=n - i∧i≤n∧Pv i H ys,⟨n,by simp,Nat.zero_le _,h0⟩,?_⟩
 rintro i m H ys ⟨rfl,hi,p⟩
 obtain ⟨q1,q2⟩:=hD i H ys p
 refine ⟨q1,?_⟩
 by_cases hlt:i<n
 ·exact .inr ⟨hgo i H ys hlt p,by trivial,Pv (i+1),fun H' ys' p'=>⟨n - (i+1),by trivial,rfl,hlt,p'⟩,fun x H' y=>hs i H ys x H' hlt p y⟩
 ·have e:i=n:=by trivial
  subst e
  exact .inl ⟨hst H ys p,hd H ys p⟩
theorem lF {J:It}{n:Nat}{H1:Hp}{D:Addr}{σc:St}{g:TG}{te:TE}{Q:VK} (Pv:Nat→Hp→List V→Prop) (hz:n≤sizeLine) (h0:Pv 0 (aP H1 D (.lst [])) [])
 (hD:∀i H ys,Pv i H ys→H D=some (.lst ys)∧ys.length≤i)
 (hgo:∀i H ys,i<n→Pv i H ys→J.go i H) (hst:∀H ys,Pv n H ys→J.stop n H)
 (hs:∀i H ys x H',i<n→Pv i H ys→J.yld i H x H'→g x σc H' fun σ2 H2=>ja σc σ2∧te σ2 H2 fun y H4=>H4 D=some (.lst ys)∧Pv (i+1) (aP H4 D (.lst (ys++[y]))) (ys++[y]))
 (hd:∀H ys,Pv n H ys→Q (.ref D) H):tM J σc g tT te D H1 Q:=by
 refine nX Pv hz h0 hD hgo hst (fun i H ys x H' hi p y=>?_) hd
 have e:=hs i H ys x H' hi p y
 have q:(fun (σ2:St) (H2:Hp)=>ja σc σ2∧tT σ2 H2 fun b H3=>if b=true then te σ2 H3 fun y H4=>H4 D=some (.lst ys)∧Pv (i+1) (aP H4 D (.lst (ys++[y]))) (ys++[y]) else Pv (i+1) H3 ys) =
  (fun σ2 H2=>ja σc σ2∧te σ2 H2 fun y H4=>H4 D=some (.lst ys)∧Pv (i+1) (aP H4 D (.lst (ys++[y]))) (ys++[y])):=by
  funext σ2 H2
  unfold tT
  dsimp only
  rw [if_pos rfl]
 rw [q]
 exact e
section
variable {X:Cx}{pins:List (Addr×Obj)}{σ:St}{H:Hp}{s:Shared}{h':Heap}
theorem ai.turnedNew {t':Nat}{ch:List Addr}{T:Addr}{o:HO} (I:ai X pins σ H s) (hf:∀b∈ch,jM X pins H b) (k:∀b u,b∉ch→s.heap.get? b=some u→h'.get? b=some u)
 (hT:s.heap.objs.size≤T) (new:bK X.prog X.w (aP H T o) h' T o):ai X pins σ (aP H T o) { s with heap:=h',toks:=t' }:=by
 have hn:H T=none:=I.hok.fresh hT
 refine I.step (g':=s.gens) (d':=s.drawn) (ch:=ch) (fun b hb=>?_) (fun b o _ _ hc e _=>k b o hc e) (fun b o _ _ hc e _=>⟨o.slots,k b o hc e⟩) (fun b o hc e n=>?_)
  (fun b o hc e=>⟨o,k b o hc e⟩) (fun b xs e=>?_) (fun b o u e=>?_) (fun b ps e=>?_) (fun m hm=>?_) (fun b u e=>?_) I.bare
 ·obtain ⟨f0,f1,f2,f3,f4,f5⟩:=hf b hb
  exact ⟨f3,f1,f4,f5⟩
 ·rw [aE (Nat.ne_of_lt (Nat.lt_of_lt_of_le (Heap.lt_size e) hT))];exact n
 ·rw [aE (bf e hn)];exact e
 ·rw [aE (bf e hn)];exact e
 ·exact ⟨#[],by rw [aE (bf e hn),e];simp⟩
 ·obtain ⟨o,es,ep,ho,r⟩:=hm
  exact ⟨o,es,ep,k _ o (fun z=>(hf _ z).2.1 rfl) ho,r⟩
 ·by_cases hb:b=T
  ·subst hb;rw [aA] at e;cases e;exact new
  ·rw [aE hb] at e
   refine (I.hok b u e).stay (fun c v hc q=>k c v (fun z=>?_) q) (fun c q=>by rw [aE (bf q hn)];exact q) fun c xs q=>by rw [aE (bf q hn)];exact q
   have hcn:=(hf c z).1
   rcases hc with rfl | hc
   ·rw [e] at hcn;cases hcn
   ·rw [hc] at hcn;cases hcn
end
section
variable {X:Cx}
theorem zX {bs:List Bool}{us:List Value} (r:aL (bs.map V.bl) us) {i:Nat}{v:Value} (e:us[i]?=some v):∃b,bs[i]?=some b∧v=.bool b:=by
 have hl:=r.length
 rw [List.length_map] at hl
 have hi:i<us.length:=(List.getElem?_eq_some_iff.mp e).1
 have hb:bs[i]?=some bs[i]:=by simp [hl,hi]
 obtain ⟨u,h1,h2⟩:=r.get (i:=i) (x:=.bl bs[i]) (by rw [List.getElem?_map,hb];rfl)
 rw [e] at h1
 cases h1
 exact ⟨_,hb,h2⟩
theorem CG {s:Shared}{h':Heap}{o:Obj} (hk:∀b x,b∉[s.heap.objs.size]→(s.heap.push o).get? b=some x→h'.get? b=some x):∀b x,s.heap.get? b=some x→h'.get? b=some x:=
 fun b x e=>hk b x (fun hm=>by rw [List.mem_singleton.mp hm] at e;exact Nat.lt_irrefl _ (Heap.lt_size e)) (Heap.get?_push_of_some _ e)
theorem F7 (hc:X.calm=true):fk X (.builtin "all") (fun xs H Q=>bI fun (l:Addr) (bs:List Bool)=>xs=[.ref l]∧ak X.K H l (bs.map V.bl)∧Q (.bl (bs.all id)) H):=by
 intro pins s σ H xs us Q I r h
 obtain ⟨l,bs,rfl,hq,q⟩:=h
 obtain ⟨u,rfl,ru⟩:=r.one
 obtain rfl:u=.ref l:=ru
 obtain ⟨its,rv,p,hz⟩:=I.list hq
 have hl:=p.isList
 have hlt:l<s.heap.objs.size:=by obtain ⟨_,e,_⟩:=hl;exact Heap.lt_size e
 refine call_all_walk (wpAny_pyIter_list hl ?_)
 refine ⟨s.heap.objs.size,[s.heap.objs.size,l],[s.heap.objs.size],its.toArray.size,_,_,fun i=>(bs[i]?).getD true,rfl,Walks.list (A:=X.A.in1) (I.ok.hd hc) _ l (Nat.ne_of_lt hlt) its.toArray,
  ⟨⟨_,Heap.get?_push_size _ rfl,rfl,rfl⟩,hl.push _⟩,fun i v s' Q' E' hP hQ=>?_,fun h' tk hk=>?_⟩
 ·obtain ⟨b,e,rfl⟩:=zX rv (i:=i) (v:=v) (by simpa using hP)
  simp only [e,Option.getD_some] at hQ
  exact wpAny_truthy_bool hQ
 ·have e:((List.range its.toArray.size).all fun i=>(bs[i]?).getD true)=bs.all id:=by
   rw [List.size_toArray,←rv.length,List.length_map];exact LSm.range_all bs
  rw [e]
  exact ⟨.bl _,H,I.kept (CG hk),rfl,q⟩
theorem FD (hc:X.calm=true):fk X (.builtin "any") (fun xs H Q=>bI fun (l:Addr) (bs:List Bool)=>xs=[.ref l]∧ak X.K H l (bs.map V.bl)∧Q (.bl (bs.any id)) H):=by
 intro pins s σ H xs us Q I r h
 obtain ⟨l,bs,rfl,hq,q⟩:=h
 obtain ⟨u,rfl,ru⟩:=r.one
 obtain rfl:u=.ref l:=ru
 obtain ⟨its,rv,p,hz⟩:=I.list hq
 have hl:=p.isList
 have hlt:l<s.heap.objs.size:=by obtain ⟨_,e,_⟩:=hl;exact Heap.lt_size e
 refine call_any_walk (wpAny_pyIter_list hl ?_)
 refine ⟨s.heap.objs.size,[s.heap.objs.size,l],[s.heap.objs.size],its.toArray.size,_,_,fun i=>(bs[i]?).getD false,rfl,Walks.list (A:=X.A.in1) (I.ok.hd hc) _ l (Nat.ne_of_lt hlt) its.toArray,
  ⟨⟨_,Heap.get?_push_size _ rfl,rfl,rfl⟩,hl.push _⟩,fun i v s' Q' E' hP hQ=>?_,fun h' tk hk=>?_⟩
 ·obtain ⟨b,e,rfl⟩:=zX rv (i:=i) (v:=v) (by simpa using hP)
  simp only [e,Option.getD_some] at hQ
  exact wpAny_truthy_bool hQ
 ·have e:((List.range its.toArray.size).any fun i=>(bs[i]?).getD false)=bs.any id:=by
   rw [List.size_toArray,←rv.length,List.length_map];exact LSm.range_any bs
  rw [e]
  exact ⟨.bl _,H,I.kept (CG hk),rfl,q⟩
end
def LB (K:PySem.W.Frag) (a:Addr):It:=
 ⟨fun i H=>bI fun xs x=>ak K H a xs∧xs[i]?=some x,fun i H v H'=>bI fun T x=>H T=none∧v=.ref T∧H'=aP H T (.tup [.int (i:Int),x])∧∀xs,ak K H a xs→xs[i]?=some x,fun i H=>∃xs,ak K H a xs∧xs.length≤i⟩
theorem E2 {P:Program}{w:World}{K:PySem.W.Frag}{es:List Expr}{kk:Nat}{pos:Pos} (a e it:Addr) (hne:e≠it) :
 wZ P w K (.Tuple es kk pos) (LB K a) [e,it] e (fun i h=>(∃old,IsEnum h e it i old)∧h.IsListIter it a i) where
 mem:=by simp
 obj:=fun i h st b hb=>by
  obtain ⟨⟨old,he⟩,o,e1,c,d⟩:=st
  have hb':b=e∨b=it:=by simpa using hb
  rcases hb' with rfl | rfl
  ·exact ⟨_,he,fun v z=>by
    have z':Data.fields _=Data.cell v:=z
    cases z'⟩
  ·exact ⟨o,e1,fun v z=>by rw [d] at z;cases z⟩
 keep:=fun i h h' st k=>by
  obtain ⟨⟨old,he⟩,hi⟩:=st
  exact ⟨⟨old,k e (by simp) _ he⟩,hi.at fun o q=>k it (by simp) o q⟩
 item:=by
  intro X hP hw hK hc i pins s σ H E I hf st hg
  subst hP hw hK
  obtain ⟨⟨old,he⟩,hit⟩:=st
  obtain ⟨xs,x,hq,hx⟩:=hg
  obtain ⟨its,rv,p,hz⟩:=I.list hq
  obtain ⟨u,hu,ru⟩:=rv.get hx
  have hnT:H s.heap.objs.size=none:=I.fresh
  refine wpAny_pyNext_enum_item he hit p.isList (x:=u) (by simpa using hu) hne fun h' ho hit' hT hsz hk=>?_
  refine ⟨(),wpAny_letOwnedTupleGo_enum (s:={ s with heap:=h',toks:=s.toks+1 }) ho fun h'' he'' hs''=>?_⟩
  have helt:e<s.heap.objs.size:=Heap.lt_size he
  have hilt:it<s.heap.objs.size:=by obtain ⟨_,y,_⟩:=hit;exact Heap.lt_size y
  have hT'':h''.get? s.heap.objs.size=some { cls:=.type "tuple",data:=.seq #[.int i s.toks,u] }:=(hs''.2 _ (Nat.ne_of_gt helt)).trans hT
  refine ⟨.ref s.heap.objs.size,aP H s.heap.objs.size (.tup [.int (i:Int),x]),I.turnedNew (ch:=[e,it]) (t':=s.toks+1) hf (fun b o hb q=>?_) (Nat.le_refl _) ?_,rfl,⟨_,x,hnT,rfl,rfl,fun ys hy=>by rw [I.list_inj hy hq];exact hx⟩,⟨⟨u,?_⟩,hit'.extBut hs''.extBut (Ne.symm hne)⟩,fun b hb=>?_⟩
  ·have h1:b≠e:=fun z=>hb (by simp [z])
   have h2:b≠it:=fun z=>hb (by simp [z])
   exact (hs''.2 b h1).trans (hk b o h1 h2 q)
  ·exact ⟨by show 2≤sizeLine;decide,[.int i s.toks,u],.cons ⟨()⟩ (.cons ru .nil),⟨_,hT'',rfl,()⟩,_,hT'',rfl⟩
  ·simpa using he''
  ·have hb':b=e∨b=it:=by simpa using hb
   have hlt:b<s.heap.objs.size:=by rcases hb' with rfl | rfl <;> assumption
   rw [aE (Nat.ne_of_lt hlt)]
   exact (hf b hb).1
 done:=by
  intro X hP hw hK hc i pins s σ H E I hf st hg
  subst hP hw hK
  obtain ⟨⟨old,he⟩,hit⟩:=st
  obtain ⟨xs,hq,hx⟩:=hg
  obtain ⟨its,rv,p,hz⟩:=I.list hq
  obtain ⟨f0,f1,f2,f3,f4,f5⟩:=hf it (by simp)
  have hl:=rv.length
  exact wpAny_pyNext_enum_end (I.ok.hd hc) he hit p.isList (by simp;trivial) fun h' eb=>⟨rfl,I.turned (t':=s.toks) (fun b o hb e=>eb b o hb e) f0 f1 f3 f4 f5⟩
 self:=fun _ _ _ _ _ st h=>by
  obtain ⟨⟨old,he⟩,_⟩:=st
  exact wpAny_pyIter_enum he h
def JV (K:PySem.W.Frag) (ta:TA):TI:=fun σ H R=>ta σ H fun vs H1=>∃a,vs=[.ref a]∧(∃xs,ak K H1 a xs)∧R (LB K a) H1
theorem Hi {X:Cx}{es:List Expr}{kk:Nat}{tp:Pos}{a:Expr}{ta:TA}{p pos:Pos} (hg:Gl X "enumerate") (hm:X.mg "enumerate" = none) (ha:PA X [a] ta) (hs:starEach [a] X.env=[(false,eval a X.env)]:=by rfl) :
 PI X (.Tuple es kk tp) (.Call (.Name "enumerate" p) [a] [] pos) (JV X.K ta):=by
 intro pins s σ H R I h
 refine Call_ (ml I hg hm boot_enumerate (PyProof.Rows.callWith_type1 (aR (ha pos pins s σ H _ I h) fun us s1 ⟨vs,H1,I1,r1,q1⟩=>?_) hs rfl))
 obtain ⟨a,rfl,⟨xs,hq⟩,q⟩:=q1
 obtain ⟨u,rfl,ru⟩:=r1.one
 obtain rfl:u=.ref a:=ru
 obtain ⟨its,rv,p,hz⟩:=I1.list hq
 refine call_enumerate_list p.isList fun h' hE hI hsz hk=>wpAny_pyIter_enum hE ?_
 have I2:ai X pins σ H1 { s1 with heap:=h',toks:=s1.toks }:=I1.kept hk
 refine ⟨s1.heap.objs.size+1,[s1.heap.objs.size+1,s1.heap.objs.size],_,_,H1,rfl,I2,E2 a (s1.heap.objs.size+1) s1.heap.objs.size (Nat.succ_ne_self _),⟨⟨_,hE⟩,hI⟩,fun b hb=>?_,q⟩
 have hb':b=s1.heap.objs.size+1∨b=s1.heap.objs.size:=by simpa using hb
 have hle:s1.heap.objs.size≤b:=by rcases hb' with rfl | rfl <;> trivial
 exact I1.fpOk hle (I1.hok.fresh hle)
end L2
namespace L2
open PySem PySem.Spec PyProof.Rows
theorem bY:bootBuiltins "len" = some (.builtin "len"):=by nofun
theorem ma:bootBuiltins "abs" = some (.builtin "abs"):=by nofun
theorem DG:bootBuiltins "min" = some (.builtin "min"):=by nofun
theorem DJ:bootBuiltins "max" = some (.builtin "max"):=by nofun
theorem my:bootBuiltins "all" = some (.builtin "all"):=by nofun
theorem C0:bootBuiltins "any" = some (.builtin "any"):=by nofun
theorem Ac:bootBuiltins "divmod" = some (.builtin "divmod"):=by nofun
theorem cz:bootBuiltins "isinstance" = some (.builtin "isinstance"):=by nofun
theorem rF:bootBuiltins "int" = some (.type "int"):=by nofun
theorem vE:bootBuiltins "bool" = some (.type "bool"):=by nofun
theorem mG:bootBuiltins "list" = some (.type "list"):=by nofun
theorem cJ:bootBuiltins "tuple" = some (.type "tuple"):=by nofun
theorem qP {X:Cx}{x:Str}{T:String}{pos:Pos} (hg:Gl X x) (hm:X.mg x=none) (hv:bootBuiltins x=some (.type T)) (hn:x≠"__name__" := by decide) (hd:(x==("__debug__" : Str))=false:=by decide):PE X (.Name x pos) (tC (.ty T)):=
 Hd (v:=.ty T) hg hm hv rfl hn hd
mutual
inductive aI (E:Addr→Prop) (H:Hp):V→PyData→Prop
 | non:aI E H .non .none
 | bl (b:Bool):aI E H (.bl b) (.bool b)
 | int (i:Int):aI E H (.int i) (.int i)
 | str (x:Str):aI E H (.str x) (.str x)
 | lst {a:Addr}{xs:List V}{ds:List PyData} (h:H a=some (.lst xs)) (ne:¬E a) (r:ah E H xs ds):aI E H (.ref a) (.list ds)
 | tup {a:Addr}{xs:List V}{ds:List PyData} (h:H a=some (.tup xs)) (r:ah E H xs ds):aI E H (.ref a) (.tuple ds)
inductive ah (E:Addr→Prop) (H:Hp):List V→List PyData→Prop
 | nil:ah E H [] []
 | cons {x:V}{xs:List V}{d:PyData}{ds:List PyData} (h:aI E H x d) (r:ah E H xs ds):ah E H (x :: xs) (d :: ds)
end
structure bV (E:Addr→Prop) (H H':Hp):Prop where
 old:∀a o,¬E a→H a=some o→H' a=some o
 tup:∀a xs,H a=some (.tup xs)→H' a=some (.tup xs)
mutual
theorem aI.mono {E:Addr→Prop}{H H':Hp} (k:bV E H H'):∀{v:V}{d:PyData},aI E H v d→aI E H' v d
 | _,_,.non=>.non
 | _,_,.bl b=>.bl b
 | _,_,.int i=>.int i
 | _,_,.str x=>.str x
 | _,_,.lst h ne r=>.lst (k.old _ _ ne h) ne (ah.mono k r)
 | _,_,.tup h r=>.tup (k.tup _ _ h) (ah.mono k r)
theorem ah.mono {E:Addr→Prop}{H H':Hp} (k:bV E H H'):∀{vs:List V}{ds:List PyData},ah E H vs ds→ah E H' vs ds
 | _,_,.nil=>.nil
 | _,_,.cons h r=>.cons (aI.mono k h) (ah.mono k r)
end
theorem bV.refl {E:Addr→Prop} (H:Hp):bV E H H:=⟨fun _ _ _ h=>h,fun _ _ h=>h⟩
theorem bV.trans {E:Addr→Prop}{H H1 H2:Hp} (a:bV E H H1) (b:bV E H1 H2):bV E H H2:=⟨fun c o n h=>b.old c o n (a.old c o n h),fun c xs h=>b.tup c xs (a.tup c xs h)⟩
theorem aa.toE {E:Addr→Prop}{H H':Hp} (a:aa H H'):bV E H H':=⟨fun c o _ h=>a c o h,fun c xs h=>a c _ h⟩
theorem aa.new {H:Hp}{p:Addr}{o:HO} (h:H p=none):aa H (aP H p o):=fun b u e=>by rw [aE (bf e h)];exact e
theorem ah.length {E:Addr→Prop}{H:Hp}:∀{vs:List V}{ds:List PyData},ah E H vs ds→vs.length=ds.length
 | _,_,.nil=>rfl
 | _,_,.cons _ r=>by simp [ah.length r]
theorem ah.get {E:Addr→Prop}{H:Hp}:∀{vs:List V}{ds:List PyData}{i:Nat}{v:V},ah E H vs ds→vs[i]?=some v→∃d,ds[i]?=some d∧aI E H v d
 | _,_,_,_,.nil,e=>by simp at e
 | _,_,0,_,.cons h _,e=>by simp at e;subst e;exact ⟨_,rfl,h⟩
 | _,_,i+1,v,.cons _ r,e=>by
  obtain ⟨d,h1,h2⟩:=ah.get (i:=i) (v:=v) r (by simpa using e)
  exact ⟨d,by simpa using h1,h2⟩
theorem ah.append {E:Addr→Prop}{H:Hp}:∀{vs ws:List V}{ds es:List PyData},ah E H vs ds→ah E H ws es→ah E H (vs++ws) (ds++es)
 | _,_,_,_,.nil,s=>s
 | _,_,_,_,.cons h r,s=>.cons h (ah.append r s)
mutual
theorem aI.reads {E:Addr→Prop}{P:Program}{w:World}{H:Hp}{h:Heap} (ok:gh P w H h):∀{v:V}{d:PyData},aI E H v d→∀{u:Value},be v u→∃as,Reads h u d as
 | _,_,.non,u,r=>by obtain rfl:u=.none:=r;exact ⟨_,.none⟩
 | _,_,.bl b,u,r=>by obtain rfl:u=.bool b:=r;exact ⟨_,.bool b⟩
 | _,_,.int i,u,r=>by obtain ⟨t,rfl⟩:=r;exact ⟨_,.int i t⟩
 | _,_,.str x,u,r=>by obtain ⟨t,rfl⟩:=r;exact ⟨_,.str x t⟩
 | _,_,.lst (a:=a) (xs:=xs) e _ q,u,r=>by
  obtain rfl:u=.ref a:=r
  obtain ⟨_,its,n,rv,e1⟩:=(show bK P w H h a (.lst xs) from ok a _ e)
  obtain ⟨as,ra⟩:=ah.reads ok q rv
  exact ⟨_,.list e1 rfl rfl (by simpa using ra)⟩
 | _,_,.tup (a:=a) (xs:=xs) e q,u,r=>by
  obtain rfl:u=.ref a:=r
  obtain ⟨_,its,rv,⟨o,e1,c,n,dd⟩,_⟩:=(show bK P w H h a (.tup xs) from ok a _ e)
  obtain ⟨as,ra⟩:=ah.reads ok q rv
  exact ⟨_,.tuple e1 c dd (by simpa using ra)⟩
theorem ah.reads {E:Addr→Prop}{P:Program}{w:World}{H:Hp}{h:Heap} (ok:gh P w H h):∀{vs:List V}{ds:List PyData},ah E H vs ds→∀{us:List Value},aL vs us→∃as,ReadsAll h us ds as
 | _,_,.nil,us,r=>by cases r;exact ⟨_,.nil⟩
 | _,_,.cons q qs,us,r=>by
  cases r with
  | cons r1 rr=>
   obtain ⟨as,h1⟩:=aI.reads ok q r1
   obtain ⟨bs,h2⟩:=ah.reads ok qs rr
   exact ⟨_,.cons h1 h2⟩
end
section
variable {X:Cx}
def Dy (_ j:Int):Prop:=0<j∧j.natAbs.log2<9000
theorem A8:dA X (binaryOp .FloorDiv) (rI Dy fun i j=>.int (i / j)):=z9 fun i j _ _ _ _ _ hc q=>by
 rw [←Int.fdiv_eq_ediv_of_nonneg _ (Int.le_of_lt hc.1)] at q
 exact floordiv_int (Int.ne_of_gt hc.1) q (.inl (PyProof.noPylong_of_log2 hc.2))
end
end L2
namespace L2
open PySem PySem.Spec PyProof.Rows
def EN:PyData→String
 | .none => "NoneType"
 | .bool _ => "bool"
 | .int _ => "int"
 | .str _ => "str"
 | .list _ => "list"
 | .tuple _ => "tuple"
 | .dict _ => "dict"
theorem aI.ty {K:PySem.W.Frag}{E:Addr→Prop}{H:Hp}{v:V}{d:PyData} (h:aI E H v d):ku K H v (.type (EN d)):=by
 cases h with
 | non=>exact .non
 | bl b=>exact .bl b
 | int i=>exact .int i
 | str x=>exact .str x
 | lst h ne r=>exact .lst h
 | tup h r=>exact .tup h
def Je:PyData→Bool
 | .int _=>true
 | .bool _=>true
 | _=>false
def yb:PyData→Bool
 | .int _=>true
 | _=>false
def wq:PyData→Bool
 | .bool _=>true
 | _=>false
def Jo:PyData→Bool
 | .tuple _=>true
 | _=>false
def Jr:PyData→Bool
 | .list _=>true
 | _=>false
theorem Hy {K:PySem.W.Frag} (d:PyData):PySem.W.kitOne K (.type (EN d)) (.type "int")=some (Je d):=by cases d <;> rfl
theorem AZ {K:PySem.W.Frag} (d:PyData):PySem.W.kitOne K (.type (EN d)) (.type "bool")=some (wq d):=by cases d <;> rfl
theorem vQ {K:PySem.W.Frag} (d:PyData):PySem.W.kitOne K (.type (EN d)) (.type "tuple")=some (Jo d):=by cases d <;> rfl
theorem AJ {K:PySem.W.Frag} (d:PyData):PySem.W.kitOne K (.type (EN d)) (.type "list")=some (Jr d):=by cases d <;> rfl
inductive JX (K:PySem.W.Frag) (xs:List V) (H:Hp) (Q:VK):Prop
 | mk (x:_) (T:_) (t:_) (b:_) (h0:xs=[x,.ty T]) (h1:ku K H x t) (h2:PySem.W.kitOne K t (.type T)=some b) (h3:Q (.bl b) H)
def Mz (K:PySem.W.Frag):List V→Hp→VK→Prop:=fun xs H Q=>JX K xs H Q
section
variable {X:Cx}
theorem AL:fk X (.builtin "divmod") (fun xs H Q=>bI fun i j=>xs=[.int i,.int j]∧Dy i j∧∀p,H p=none→Q (.ref p) (aP H p (.tup [.int (i / j),.int (i % j)]))):=by
 intro pins s σ H xs us Q I r h
 obtain ⟨i,j,rfl,⟨h1,h2⟩,q⟩:=h
 obtain ⟨u,w',rfl,⟨t,rfl⟩,⟨t',rfl⟩⟩:=Gz r
 refine divmod_int (by trivial) ?_ (.inl (PyProof.noPylong_of_log2 h2))
 rw [Int.fdiv_eq_ediv_of_nonneg i (by trivial),Int.fmod_eq_emod_of_nonneg i (by trivial)]
 have hn:H s.heap.objs.size=none:=I.hok.fresh (Nat.le_refl _)
 refine ⟨.ref s.heap.objs.size,_,?_,rfl,q _ hn⟩
 refine I.laid (fun b o e=>Heap.get?_push_of_some _ e) (Nat.le_refl _) ⟨by simp only [List.length_cons,List.length_nil];rw [sizeLine_eq];decide,[.int (i / j) s.toks,.int (i % j) (s.toks+1)],.cons ⟨()⟩ (.cons ⟨()⟩ .nil),?_⟩
 exact ⟨⟨_,Heap.get?_push_size s.heap rfl,rfl,0,rfl⟩,_,Heap.get?_push_size s.heap rfl,rfl⟩
end
theorem MD (c:Bool):-(2 ^ 64)<(if c=true then (1:Int) else 0)∧(if c=true then (1:Int) else 0)<2 ^ 64:=by cases c <;> decide
theorem AX (x:Int):0≤(if x<0 then -x else x):=by split <;> trivial
theorem KA {x:Int} (c:Bool) (h:0≤x):0≤x*(if c=true then (1:Int) else 0):=by cases c <;> simp [h]
theorem Cf {ms:List Int}{k:Int} (h0:0≤k) (h:k.toNat<ms.length):lL (ms.map V.int) k=some (V.int ms[k.toNat]):=by
 have q:=aW (xs:=ms.map V.int) (j:=k.toNat) (v:=V.int ms[k.toNat]) (by rw [List.getElem?_map];simp [h])
 rwa [Int.toNat_of_nonneg h0] at q
inductive Bx (H:Hp) (b:Addr) (t:Int):Prop
 | mk (c x:Int) (h0:H b=some (.lst [.int c,.int x,.int t])) (h1:0≤c) (h2:0≤x) (h3:x<2147483647)
abbrev Eb (b:Addr):Addr→Prop:=fun a=>a=b
theorem Bx.same {H H':Hp}{b:Addr}{t:Int} (h:Bx H b t) (k:aa H H'):Bx H' b t:=by
 obtain ⟨c,x,e,r,r2,r3⟩:=h
 exact ⟨c,x,k _ _ e,r,r2,r3⟩
theorem za {H H1:Hp}{b:Addr}{xs:List V}{o:HO} (k:aa H H1) (hb:H1 b=some (.lst xs)):bV (Eb b) H (aP H1 b o):=
 ⟨fun a u n h=>by rw [aE n];exact k a u h,fun a ys h=>by
  have e:=k a _ h
  rw [aE (Dm e hb (by intro z;cases z))];exact e⟩
inductive Jg (K:PySem.W.Frag) (vs:List V) (H:Hp) (Q:VK):Prop
 | mk (a:Addr) (ms:List Int) (k:Int) (h0:vs=[.ref a,.int k]) (h1:ak K H a (ms.map V.int)) (h2:0≤k) (h3:k≤63) (h4:∀p H',H p=none→aa H H'→Bx H' p 0→Q (.ref p) H')
def KN (K:PySem.W.Frag):Sp:=fun vs H Q _=>Jg K vs H Q
inductive He (vs:List V) (H:Hp) (Q:VK):Prop
 | mk (b:Addr) (many t:Int) (h0:vs=[.ref b,.int many]) (h1:Bx H b t) (h2:0<many) (h3:many.natAbs.log2<9000) (h4:0≤t) (h5:t≤1000000) (h6:∀r t' H',0≤r→r<many→t≤t'→t'≤t+1→bV (Eb b) H H'→Bx H' b t'→Q (.int r) H')
def HW:Sp:=fun vs H Q _=>He  vs H Q
def AU:List Str→Bool
 | []=>true
 | x :: r=>!r.contains x && AU r
theorem Ev:∀l:List Str,AU l=true→l.Nodup
 | [],_=>List.nodup_nil
 | x :: r,h=>by
  unfold AU at h
  simp only [Bool.and_eq_true,Bool.not_eq_true',List.contains_eq_mem,decide_eq_false_iff_not] at h
  exact List.nodup_cons.mpr ⟨h.1,Ev r h.2⟩
inductive Lj (K:PySem.W.Frag) (xs:List V) (H:Hp) (Q:VK):Prop
 | mk (p:_) (ys:_) (h0:xs=[.ref p]) (h1:(ak K H p ys∨ar K H p ys)) (h2:Q (.int ys.length) H)
def LH (K:PySem.W.Frag):List V→Hp→VK→Prop:=fun xs H Q=>Lj K xs H Q
section
variable {X:Cx}{K:PySem.W.Frag}
theorem qr (e:X.K=K:=by rfl):fk X (.builtin "isinstance") (Mz K):=by subst e;exact fun pins s σ H xs us Q I r ⟨x,T,t,b,h1,h2,h3,q⟩=>nH pins s σ H xs us Q I r ⟨x,T,t,b,h1,h2,h3,q⟩
theorem kg (e:X.K=K:=by rfl):fk X (.builtin "len") (LH K):=by subst e;exact fun pins s σ H xs us Q I r ⟨p,ys,h1,h2,q⟩=>qe pins s σ H xs us Q I r ⟨p,ys,h1,h2,q⟩
theorem Lp (e:X.K=K:=by rfl):sS X (Dv K):=by subst e;exact Ct
theorem Kw (e:X.K=K:=by rfl):sS X (FZ K):=by subst e;exact DY
theorem yO (e:X.K=K:=by rfl):dA X (compareOp .NotIn) (Ly K true):=by subst e;exact Bt
inductive KH (K:PySem.W.Frag) (xs:List V) (H:Hp) (Q:VK):Prop
 | mk (l:Addr) (bs:List Bool) (h0:xs=[.ref l]) (h1:ak K H l (bs.map V.bl)) (h2:Q (.bl (bs.all id)) H)
def L0 (K:PySem.W.Frag):List V→Hp→VK→Prop:=fun xs H Q=>KH K xs H Q
inductive KT (K:PySem.W.Frag) (xs:List V) (H:Hp) (Q:VK):Prop
 | mk (l:Addr) (bs:List Bool) (h0:xs=[.ref l]) (h1:ak K H l (bs.map V.bl)) (h2:Q (.bl (bs.any id)) H)
def LT (K:PySem.W.Frag):List V→Hp→VK→Prop:=fun xs H Q=>KT K xs H Q
theorem xZ (hc:X.calm=true) (e:X.K=K:=by rfl):fk X (.builtin "all") (L0 K):=by subst e;exact fun pins s σ H xs us Q I r ⟨l,bs,h1,h2,q⟩=>F7 hc pins s σ H xs us Q I r ⟨l,bs,h1,h2,q⟩
theorem Lq (hc:X.calm=true) (e:X.K=K:=by rfl):fk X (.builtin "any") (LT K):=by subst e;exact fun pins s σ H xs us Q I r ⟨l,bs,h1,h2,q⟩=>FD hc pins s σ H xs us Q I r ⟨l,bs,h1,h2,q⟩
theorem b4 {pos:Pos}{es:List Expr}{k:Nat}{t:wJ}{n:Nat} (hc:X.calm=true) (h:ET X es t) (e:X.K=K:=by rfl)
 (hn:(assignEach es X.env).length=n:=by rfl) (hst:(assignEach es X.env).findIdx? (·.1)=none:=by rfl):PG X (.Tuple es k pos) (Jc K n t):=by
 subst e;exact yd hc h hn hst
theorem bF {tg l:Expr}{tl:TE} (hl:PE X l tl) (e:X.K=K:=by rfl):PI X tg l (GC K tl):=by subst e;exact G0 hl
theorem AA {tg l:Expr}{tl:TE} (hl:PE X l tl) (e:X.K=K:=by rfl):PI X tg l (Jj K tl):=by subst e;exact Jx hl
end
end L2
namespace L2
open PySem PySem.Spec PyProof.Rows
def vZ:Expr→Bool
 | .Starred ..=>false
 | _=>true
theorem uY {e:Expr}{es:List Expr}{env:Env} (h:vZ e=true):starEach (e :: es) env=(false,eval e env) :: starEach es env:=by
 cases e <;> first | rfl | (simp [vZ] at h)
section
variable {X:Cx}{e:Expr}{es:List Expr}{te:TE}{t:TA}
theorem FA (ha:PE X e te) (hr:PA X es t) (hs:vZ e=true:=by rfl):PA X (e :: es) (kX te t):=bT ha hr (uY hs)
theorem pw (i:Nat) {x:Str}{pos:Pos} (hv:Ei X.env.scope x) (hN:X.N[i]?=some x:=by rfl) (hd:(x==("__debug__" : Str))=false:=by decide) (hcd:(x==("__classdict__" : Str))=false:=by decide):PE X (.Name x pos) (uo i):=EA hN hv hd hcd
end
end L2
namespace KM
theorem gcd_fmod (n d:Int):Int.gcd d (n.fmod d)=Int.gcd n d:=by
 apply Nat.dvd_antisymm
 ·apply Int.dvd_gcd
  ·have h1:((Int.gcd d (n.fmod d):Nat):Int) ∣ d:=Int.gcd_dvd_left ..
   have h2:((Int.gcd d (n.fmod d):Nat):Int) ∣ n.fmod d:=Int.gcd_dvd_right ..
   have h3:=Int.dvd_add h2 (Int.dvd_mul_of_dvd_left (c:=n.fdiv d) h1)
   rw [Int.fmod_add_mul_fdiv] at h3
   exact h3
  ·exact Int.gcd_dvd_left ..
 ·apply Int.dvd_gcd
  ·exact Int.gcd_dvd_right ..
  ·rw [Int.fmod_def]
   exact Int.dvd_sub (Int.gcd_dvd_left ..) (Int.dvd_mul_of_dvd_left (Int.gcd_dvd_right ..))
theorem fmod_natAbs_lt (n d:Int) (h:d≠0):(n.fmod d).natAbs<d.natAbs:=by
 rcases Int.lt_trichotomy d 0 with hd | hd | hd
 ·have e:n.fmod d=-((-n).fmod (-d)):=by
   rw [Int.fmod_def,Int.fmod_def]
   have:(-n).fdiv (-d)=n.fdiv d:=Int.neg_fdiv_neg n d
   rw [this,Int.neg_mul];trivial
  have h1:=Int.fmod_nonneg_of_pos (-n) (b:=-d) (by trivial)
  have h2:=Int.fmod_lt_of_pos (-n) (b:=-d) (by trivial)
  trivial
 ·exact absurd hd h
 ·have h1:=Int.fmod_nonneg_of_pos n hd
  have h2:=Int.fmod_lt_of_pos n hd
  trivial
theorem gcd_zero_abs (n:Int):((Int.gcd n 0:Nat):Int)=if n<0 then -n else n:=by
 rw [Int.gcd_zero_right]
 split <;> trivial
theorem gcd_emod (n d:Int):Int.gcd d (n % d)=Int.gcd n d:=by
 by_cases h:d=0
 ·subst h;rw [Int.emod_zero,Int.gcd_comm]
 ·apply Nat.dvd_antisymm
  ·apply Int.dvd_gcd
   ·have h1:((Int.gcd d (n % d):Nat):Int) ∣ d:=Int.gcd_dvd_left ..
    have h2:((Int.gcd d (n % d):Nat):Int) ∣ n % d:=Int.gcd_dvd_right ..
    have h3:=Int.dvd_add h2 (Int.dvd_mul_of_dvd_left (c:=n / d) h1)
    rw [Int.emod_add_mul_ediv] at h3
    exact h3
   ·exact Int.gcd_dvd_left ..
  ·apply Int.dvd_gcd
   ·exact Int.gcd_dvd_right ..
   ·rw [Int.emod_def]
    exact Int.dvd_sub (Int.gcd_dvd_left ..) (Int.dvd_mul_of_dvd_left (Int.gcd_dvd_right ..))
end KM
namespace KM
def low (n d:Int):Int×Int:=if 0<d then (n / (Int.gcd n d:Nat),d / (Int.gcd n d:Nat)) else (-n / (Int.gcd n d:Nat),-d / (Int.gcd n d:Nat))
theorem gcd_pos {n d:Int} (h:d≠0):0<Int.gcd n d:=by
 apply Nat.pos_of_ne_zero
 intro e
 exact h (Int.gcd_eq_zero_iff.mp e).2
theorem gcd_abs (n d:Int):Int.gcd (if n<0 then -n else n) (if d<0 then -d else d)=Int.gcd n d:=by
 split <;> split <;> simp [Int.gcd_neg,Int.neg_gcd]
theorem low_spec (n d:Int) (h:d≠0):1≤(low n d).2∧(low n d).1*d=n*(low n d).2∧Int.gcd (low n d).1 (low n d).2=1∧(low n d).1.natAbs≤n.natAbs∧(low n d).2.natAbs≤d.natAbs:=by
 have g0:=gcd_pos (n:=n) h
 have gi:((Int.gcd n d:Nat):Int)≠0:=by trivial
 have d1:((Int.gcd n d:Nat):Int) ∣ n:=Int.gcd_dvd_left ..
 have d2:((Int.gcd n d:Nat):Int) ∣ d:=Int.gcd_dvd_right ..
 obtain ⟨a,ha⟩:=d1
 obtain ⟨b,hb⟩:=d2
 have ea:n / ((Int.gcd n d:Nat):Int)=a:=by
  conv=>lhs;lhs;rw [ha]
  exact Int.mul_ediv_cancel_left _ gi
 have eb:d / ((Int.gcd n d:Nat):Int)=b:=by
  conv=>lhs;lhs;rw [hb]
  exact Int.mul_ediv_cancel_left _ gi
 have ena:-n / ((Int.gcd n d:Nat):Int)=-a:=by
  have:-n=((Int.gcd n d:Nat):Int)*(-a):=by rw [Int.mul_neg];trivial
  rw [this]
  exact Int.mul_ediv_cancel_left _ gi
 have enb:-d / ((Int.gcd n d:Nat):Int)=-b:=by
  have:-d=((Int.gcd n d:Nat):Int)*(-b):=by rw [Int.mul_neg];trivial
  rw [this]
  exact Int.mul_ediv_cancel_left _ gi
 have hco:Int.gcd a b=1:=by
  have:=Int.gcd_ediv_gcd_ediv_gcd (i:=n) (j:=d) g0
  rw [ea,eb] at this
  exact this
 have hgp:(0:Int)<((Int.gcd n d:Nat):Int):=by trivial
 have habs:n.natAbs=Int.gcd n d*a.natAbs:=by
  conv=>lhs;rw [ha]
  rw [Int.natAbs_mul];rfl
 have hbbs:d.natAbs=Int.gcd n d*b.natAbs:=by
  conv=>lhs;rw [hb]
  rw [Int.natAbs_mul];rfl
 have la:a.natAbs≤n.natAbs:=by rw [habs];exact Nat.le_mul_of_pos_left _ g0
 have lb:b.natAbs≤d.natAbs:=by rw [hbbs];exact Nat.le_mul_of_pos_left _ g0
 have hab:a*d=n*b:=by
  generalize ((Int.gcd n d:Nat):Int)=g at ha hb
  subst ha hb
  rw [Int.mul_comm g a,Int.mul_assoc]
 unfold low
 split
 ·rename_i hd
  refine ⟨?_,?_,?_,?_,?_⟩
  ·show 1≤d / _
   rw [eb]
   have:0<b:=by
    apply Int.pos_of_mul_pos_right (a:=((Int.gcd n d:Nat):Int)) _ hgp
    rw [←hb];exact hd
   trivial
  ·show n / _*d=n*(d / _)
   rw [ea,eb];exact hab
  ·show Int.gcd (n / _) (d / _)=1
   rw [ea,eb];exact hco
  ·show (n / _).natAbs≤_
   rw [ea];exact la
  ·show (d / _).natAbs≤_
   rw [eb];exact lb
 ·rename_i hd
  refine ⟨?_,?_,?_,?_,?_⟩
  ·show 1≤-d / _
   rw [enb]
   have:0 < -b:=by
    apply Int.pos_of_mul_pos_right (a:=((Int.gcd n d:Nat):Int)) _ hgp
    rw [Int.mul_neg,←hb];trivial
   trivial
  ·show -n / _*d=n*(-d / _)
   rw [ena,enb,Int.neg_mul,Int.mul_neg,hab]
  ·show Int.gcd (-n / _) (-d / _)=1
   rw [ena,enb,Int.gcd_neg,Int.neg_gcd];exact hco
  ·show (-n / _).natAbs≤_
   rw [ena,Int.natAbs_neg];exact la
  ·show (-d / _).natAbs≤_
   rw [enb,Int.natAbs_neg];exact lb
end KM
namespace KM
theorem A0 {n d a b:Int} (hd:d≠0) (hb:1≤b) (hg:Int.gcd a b=1) (he:a*d=n*b):low n d=(a,b):=by
 obtain ⟨h1,h2,h3,_,_⟩:=low_spec n d hd
 generalize low n d=z at *
 obtain ⟨x,y⟩:=z
 dsimp only at h1 h2 h3
 have e1:x*b=a*y:=by
  apply Int.eq_of_mul_eq_mul_right hd
  calc x*b*d=(x*d)*b:=by rw [Int.mul_assoc,Int.mul_comm b d,←Int.mul_assoc]
   _=n*y*b:=by rw [h2]
   _=(n*b)*y:=by rw [Int.mul_assoc,Int.mul_comm y b,←Int.mul_assoc]
   _=a*d*y:=by rw [he]
   _=a*y*d:=by rw [Int.mul_assoc,Int.mul_comm d y,←Int.mul_assoc]
 have d1:y ∣ b:=by
  apply Int.natAbs_dvd_natAbs.mp
  apply Nat.Coprime.dvd_of_dvd_mul_left (k:=y.natAbs) (m:=x.natAbs)
  ·show Nat.gcd y.natAbs x.natAbs=1
   rw [Nat.gcd_comm];exact h3
  ·rw [←Int.natAbs_mul]
   exact Int.natAbs_dvd_natAbs.mpr ⟨a,by rw [e1,Int.mul_comm]⟩
 have d2:b ∣ y:=by
  apply Int.natAbs_dvd_natAbs.mp
  apply Nat.Coprime.dvd_of_dvd_mul_left (k:=b.natAbs) (m:=a.natAbs)
  ·show Nat.gcd b.natAbs a.natAbs=1
   rw [Nat.gcd_comm];exact hg
  ·rw [←Int.natAbs_mul]
   exact Int.natAbs_dvd_natAbs.mpr ⟨x,by rw [←e1,Int.mul_comm]⟩
 have e2:y=b:=Int.dvd_antisymm (by trivial) (by trivial) d1 d2
 subst e2
 have e3:x=a:=Int.eq_of_mul_eq_mul_right (by trivial) e1
 rw [e3]
theorem Gc {a b:Int} (hb:1≤b) (hg:Int.gcd a b=1):low a b=(a,b):=A0 (by trivial) hb hg rfl
section
variable {p0 p1 q0 q1:Int}
end
theorem fdiv_low {n d:Int} (hd:d≠0):(n.fdiv (if d<0 then -((Int.gcd n d:Nat):Int) else ((Int.gcd n d:Nat):Int)),d.fdiv (if d<0 then -((Int.gcd n d:Nat):Int) else ((Int.gcd n d:Nat):Int)))=low n d:=by
 have g0:(0:Int)≤((Int.gcd n d:Nat):Int):=Int.natCast_nonneg _
 unfold low
 by_cases h:d<0
 ·rw [if_pos h,if_neg (by trivial)]
  have e:∀x:Int,x.fdiv (-((Int.gcd n d:Nat):Int))=-x / ((Int.gcd n d:Nat):Int):=fun x=>by
   rw [←Int.fdiv_eq_ediv_of_nonneg _ g0,←Int.neg_fdiv_neg,Int.neg_neg]
  rw [e,e]
 ·rw [if_neg h,if_pos (by trivial),Int.fdiv_eq_ediv_of_nonneg _ g0,Int.fdiv_eq_ediv_of_nonneg _ g0]
end KM
namespace KM
abbrev Fra:=Int×Int
def ladd (t p:Fra):Fra:=low (t.1*p.2+p.1*t.2) (t.2*p.2)
def sumF (ps:List Fra):Fra:=ps.foldl ladd (0,1)
theorem BF {p q:Fra} (hp:1≤p.2) (hq:1≤q.2) (gp:Int.gcd p.1 p.2=1) (gq:Int.gcd q.1 q.2=1) (h:q.1*p.2=p.1*q.2):p=q:=by
 have e1:=Gc hp gp
 have e2:=A0 (n:=p.1) (d:=p.2) (a:=q.1) (b:=q.2) (by trivial) hq gq h
 rw [e1] at e2
 exact e2
theorem low_sgn {n d:Int} (hd:0<d):(0<(low n d).1↔0<n)∧((low n d).1<0↔n<0):=by
 obtain ⟨h1,h2,_,_,_⟩:=low_spec n d (by trivial)
 generalize low n d=z at *
 obtain ⟨x,y⟩:=z
 dsimp only at *
 have hy:0<y:=by trivial
 constructor
 ·constructor
  ·intro h
   have:0<x*d:=Int.mul_pos h hd
   rw [h2] at this
   exact Int.pos_of_mul_pos_left this hy
  ·intro h
   have:0<n*y:=Int.mul_pos h hy
   rw [←h2] at this
   exact Int.pos_of_mul_pos_left this hd
 ·constructor
  ·intro h
   have:x*d<0:=Int.mul_neg_of_neg_of_pos h hd
   rw [h2] at this
   apply Decidable.byContradiction
   intro hn
   have:=Int.mul_nonneg (show 0≤n by trivial) (show 0≤y by trivial)
   trivial
  ·intro h
   have:n*y<0:=Int.mul_neg_of_neg_of_pos h hy
   rw [←h2] at this
   apply Decidable.byContradiction
   intro hn
   have:=Int.mul_nonneg (show 0≤x by trivial) (show 0≤d by trivial)
   trivial
end KM
namespace KM
def vl (p:Fra):Rat:=Rat.divInt p.1 p.2
def Rd (p:Fra):Prop:=1≤p.2∧Int.gcd p.1 p.2=1
theorem Rd.low {n d:Int} (h:d≠0):Rd (KM.low n d):=⟨(low_spec n d h).1,(low_spec n d h).2.2.1⟩
theorem vl_low {n d:Int} (h:d≠0):vl (low n d)=Rat.divInt n d:=by
 obtain ⟨h1,h2,_⟩:=low_spec n d h
 exact (Rat.divInt_eq_divInt_iff (by trivial) h).mpr (by rw [h2])
theorem Rd.eq {p q:Fra} (hp:Rd p) (hq:Rd q) (h:vl p=vl q):p=q:=by
 have:=(Rat.divInt_eq_divInt_iff (d₁:=p.2) (d₂:=q.2) (by have:=hp.1;trivial) (by have:=hq.1;trivial)).mp h
 exact BF hp.1 hq.1 hp.2 hq.2 this.symm
theorem Rd.nz {p:Fra} (h:Rd p):p.2≠0:=by have:=h.1;trivial
theorem mul_nz {a b:Int} (h:a≠0) (k:b≠0):a*b≠0:=Int.mul_ne_zero h k
theorem vl_add {p q:Fra} (hp:p.2≠0) (hq:q.2≠0):vl (ladd p q)=vl p+vl q:=by
 unfold ladd
 rw [vl_low (mul_nz hp hq)]
 exact (Rat.divInt_add_divInt _ _ hp hq).symm
def lTim (p q:Fra):Fra:=low (p.1*q.1) (p.2*q.2)
def lTak (p q:Fra):Fra:=low (p.1*q.2 - q.1*p.2) (p.2*q.2)
theorem vl_tim {p q:Fra} (hp:p.2≠0) (hq:q.2≠0):vl (lTim p q)=vl p*vl q:=by
 unfold lTim
 rw [vl_low (mul_nz hp hq)]
 exact (Rat.divInt_mul_divInt _ _).symm
theorem vl_tak {p q:Fra} (hp:p.2≠0) (hq:q.2≠0):vl (lTak p q)=vl p - vl q:=by
 unfold lTak
 rw [vl_low (mul_nz hp hq)]
 exact (Rat.divInt_sub_divInt _ _ hp hq).symm
theorem Rd.add {p q:Fra} (hp:Rd p) (hq:Rd q):Rd (ladd p q):=Rd.low (mul_nz hp.nz hq.nz)
theorem Rd.tim {p q:Fra} (hp:Rd p) (hq:Rd q):Rd (lTim p q):=Rd.low (mul_nz hp.nz hq.nz)
theorem Rd.tak {p q:Fra} (hp:Rd p) (hq:Rd q):Rd (lTak p q):=Rd.low (mul_nz hp.nz hq.nz)
theorem Rd.zero:Rd (0,1):=⟨by decide,by decide⟩
theorem vl_zero:vl (0,1)=0:=Rat.zero_divInt 1
def rsum (xs:List Rat):Rat:=xs.foldr (·+·) 0
theorem rsum_app (xs ys:List Rat):rsum (xs++ys)=rsum xs+rsum ys:=by
 induction xs with
 | nil=>show rsum ys=0+rsum ys;grind
 | cons x r ih=>show x+rsum (r++ys)=x+rsum r+rsum ys;rw [ih];grind
theorem Fp:∀(ps:List Fra) (t:Fra),Rd t→(∀p∈ps,Rd p)→Rd (ps.foldl ladd t)∧vl (ps.foldl ladd t)=vl t+rsum (ps.map vl)
 | [],t,ht,_=>⟨ht,by show vl t=vl t+0;grind⟩
 | p :: r,t,ht,h=>by
  have hp:=h p (by simp)
  obtain ⟨a,b⟩:=Fp r (ladd t p) (ht.add hp) fun q hq=>h q (List.mem_cons_of_mem _ hq)
  refine ⟨a,?_⟩
  show vl (r.foldl ladd (ladd t p))=vl t+(vl p+rsum (r.map vl))
  rw [b,vl_add ht.nz hp.nz]
  grind
theorem sumF_vl {ps:List Fra} (h:∀p∈ps,Rd p):Rd (sumF ps)∧vl (sumF ps)=rsum (ps.map vl):=by
 obtain ⟨a,b⟩:=Fp ps (0,1) Rd.zero h
 refine ⟨a,?_⟩
 show vl (ps.foldl ladd (0,1))=_
 rw [b,vl_zero]
 grind
end KM
namespace L2
open PySem PySem.Spec PyProof.Rows
section
variable {prog:Program}{w:World}{A:Around}{E:Value→Shared→Prop}{s:Shared}
theorem Da {it t:Addr}{i:Nat}{its:Array Value}{x:Value}{Q:Value→Shared→Prop} (hit:s.heap.IsTupleIter it t i) (ht:s.heap.IsTuple t its) (hx:its[i]?=some x)
 (q:∀h',h'.IsTupleIter it t (i+1)→Heap.SameBut it s.heap h'→Q x { s with heap:=h' }):wpAny (model prog w) A (Builtin.SmallTypes.nextOf (.ref it)) Q E s:=by
 obtain ⟨o,e1,e2,e3⟩:=id hit;obtain ⟨u,e4,_,k,e5⟩:=ht;unfold Builtin.SmallTypes.nextOf
 refine wpAny_bind (wpAny_callSpecial?_slot (name:=Str.ofString "__next__") hit.typeIs F.slot_tuple_iterator_next (wpAny_call_entry F.slot_tuple_iterator_next hit.typeIs F.entry_tuple_iterator_next ?_ (F.args_tuple_iterator_next_1 _)))
 show wpAny _ _ (field (.ref it) 0 >>= _) _ _ s;refine wpAny_bind (wpAny_field e1 e3 (x:=.ref t) rfl ?_)
 show wpAny _ _ (if (Value.ref t==Value.none)=true then _ else _) _ _ s;rw [if_neg (show ¬((Value.ref t==Value.none)=true) from Bool.false_ne_true)]
 show wpAny _ _ (field (.ref it) 1 >>= _) _ _ s;refine wpAny_bind (wpAny_field e1 e3 (x:=.int i 0) rfl ?_)
 show wpAny _ _ (seqItems? (.ref t) >>= _) _ _ s;refine wpAny_bind (wpAny_seqItems e4 e5 ?_)
 simp only [Int.toNat_natCast,hx];refine wpAny_bind (wpAny_setField e1 e3 (by simp) (wpAny_pure ⟨x,rfl,wpAny_pure (q _ ?_ (Heap.SameBut.update ..))⟩))
 exact ⟨_,Heap.get?_update_self _ e1 (Obj.isFreed_of_fields (Obj.data_mapFields e3 _)),(Obj.cls_mapFields ..).trans e2,by rw [Obj.data_mapFields e3];simp [rawInt]⟩
theorem Ai {it t:Addr}{i:Nat}{its:Array Value}{Q:Value→Shared→Prop} (hh:A.handled=none) (hit:s.heap.IsTupleIter it t i) (ht:s.heap.IsTuple t its) (hx:its[i]?=none)
 (q:∀h' e,Heap.ExtBut it s.heap h'→(∃o,h'.get? e=some o∧o.cls=.type "StopIteration")→E (.ref e) { s with heap:=h' }):wpAny (model prog w) A (Builtin.SmallTypes.nextOf (.ref it)) Q E s:=by
 obtain ⟨o,e1,e2,e3⟩:=id hit;obtain ⟨u,e4,_,k,e5⟩:=ht;unfold Builtin.SmallTypes.nextOf
 refine wpAny_bind (wpAny_callSpecial?_slot (name:=Str.ofString "__next__") hit.typeIs F.slot_tuple_iterator_next (wpAny_call_entry F.slot_tuple_iterator_next hit.typeIs F.entry_tuple_iterator_next ?_ (F.args_tuple_iterator_next_1 _)))
 show wpAny _ _ (field (.ref it) 0 >>= _) _ _ s;refine wpAny_bind (wpAny_field e1 e3 (x:=.ref t) rfl ?_)
 show wpAny _ _ (if (Value.ref t==Value.none)=true then _ else _) _ _ s;rw [if_neg (show ¬((Value.ref t==Value.none)=true) from Bool.false_ne_true)]
 show wpAny _ _ (field (.ref it) 1 >>= _) _ _ s;refine wpAny_bind (wpAny_field e1 e3 (x:=.int i 0) rfl ?_)
 show wpAny _ _ (seqItems? (.ref t) >>= _) _ _ s;refine wpAny_bind (wpAny_seqItems e4 e5 ?_)
 simp only [Int.toNat_natCast,hx];refine wpAny_bind (wpAny_rule (wpAny_bind (wpAny_setField e1 e3 (by simp) ?_)))
 show wpAny _ _ (newExc (.type "StopIteration") [] >>= _) _ _ _;refine wpAny_bind ?_;simp only [newExc,newTuple]
 refine wpAny_bind (wpAny_newObj_type ?_ (by size_fits));refine wpAny_bind (m:=firstArgMember _ _) (wpAny_of_eq (a:=Value.none) (by first | rfl | (simp only [firstArgMember];rfl)) ?_);refine wpAny_newObj_type ?_ (by size_fits)
 simp only [raiseNew];refine wpAny_bind (wpAny_handled ?_);first | rw [show A.in1.handled=none from hh] | rw [hh]
 refine wpAny_bind (wpAny_pure (wpAny_throw ?_));exact q _ _ (((Heap.SameBut.update ..).extBut.push _).push _) ⟨_,Heap.get?_push_size _ rfl,rfl⟩
end
def jG (h:Heap) (l:Addr) (its:Array Value):Bool→Prop
 | true=>h.IsList l its
 | false=>h.IsTuple l its
def gH (h:Heap) (it l:Addr) (i:Nat):Bool→Prop
 | true=>h.IsListIter it l i
 | false=>h.IsTupleIter it l i
theorem jG.at {h h':Heap}{l:Addr}{its:Array Value}:∀{b:Bool},jG h l its b→(∀o,h.get? l=some o→h'.get? l=some o)→jG h' l its b
 | true,q,k=>Heap.IsList.at q k
 | false,q,k=>Heap.IsTuple.at q k
theorem gH.at {h h':Heap}{it l:Addr}{i:Nat}:∀{b:Bool},gH h it l i b→(∀o,h.get? it=some o→h'.get? it=some o)→gH h' it l i b
 | true,q,k=>Heap.IsListIter.at q k
 | false,q,k=>Heap.IsTupleIter.at q k
theorem jG.lt {h:Heap}{l:Addr}{its:Array Value}:∀{b:Bool},jG h l its b→l<h.objs.size
 | true,⟨_,e,_⟩=>Heap.lt_size e
 | false,⟨_,e,_⟩=>Heap.lt_size e
theorem gH.some {h:Heap}{it l:Addr}{i:Nat}:∀{b:Bool},gH h it l i b→∃o,h.get? it=some o∧∀v,o.data≠.cell v
 | true,⟨o,e,_,d⟩=>⟨o,e,fun v z=>by rw [d] at z;cases z⟩
 | false,⟨o,e,_,d⟩=>⟨o,e,fun v z=>by rw [d] at z;cases z⟩
theorem su {prog:Program}{w:World}{A:Around} (hh:A.handled=none) (it l:Addr) (hne:l≠it) (its:Array Value):∀b:Bool,
 Draws prog w A it [it,l] its.size (fun i v=>its[i]?=some v) (fun i h=>gH h it l i b∧jG h l its b)
 | true=>Draws.list hh it l hne its
 | false=>{
  live:=fun _ _ st=>let ⟨o,ho,_⟩:=st.1;⟨o,ho⟩
  frame:=fun _ _ _ st hk=>⟨Heap.IsTupleIter.at st.1 fun o e=>hk it (by simp) o e,Heap.IsTuple.at st.2 fun o e=>hk l (by simp) o e⟩
  item:=fun i s Q E hi st q=>Da st.1 st.2 (x:=its[i]) (by simp [hi]) fun h' it' same=>q _ h' s.toks (by simp [hi]) ⟨it',Heap.IsTuple.extBut st.2 same.extBut hne⟩ same
  done:=fun s Q E st q=>Ai hh st.1 st.2 (by simp) q }
structure vK (z TI TO i1 i2:Addr):Prop where
 a1:TI≠z
 a2:TO≠z
 a3:i1≠z
 a4:i2≠z
 a5:TI≠TO
 a6:TI≠i1
 a7:TI≠i2
 a8:TO≠i1
 a9:TO≠i2
 a0:i1≠i2
section
variable {prog:Program}{w:World}{A:Around}{E:Value→Shared→Prop}{s:Shared}
variable {z TI TO i1 i2 l1 l2:Addr}{k:Nat}{xs ys:Array Value}{a b:Value}{c1 c2:Bool}
theorem Ho {x y:Value}{Q:Value→Shared→Prop} (D:vK z TI TO i1 i2) (n1:∀c,c=l1∨c=l2→c≠z∧c≠TO∧c≠i1∧c≠i2)
 (hz:IsZip s.heap z TI TO .none) (hTI:IsPair s.heap TI (.ref i1) (.ref i2)) (hTO:IsPair s.heap TO a b) (hh:A.handled=none)
 (h1:gH s.heap i1 l1 k c1) (h2:gH s.heap i2 l2 k c2) (q1:jG s.heap l1 xs c1) (q2:jG s.heap l2 ys c2) (hx:xs[k]?=some x) (hy:ys[k]?=some y)
 (hQ:∀h' tk,IsZip h' z TI TO (rawInt s.heap.objs.size)→IsPair h' TO x y→gH h' i1 l1 (k+1) c1→gH h' i2 l2 (k+1) c2→IsPair h' s.heap.objs.size x y→h'.objs.size=s.heap.objs.size+1→
  (∀c o,c≠z→c≠TO→c≠i1→c≠i2→s.heap.get? c=some o→h'.get? c=some o)→Q (.ref s.heap.objs.size) { s with heap:=h',toks:=tk }) :
 wpAny (model prog w) A (Builtin.«zip.__next__» ⟨[.ref z],[]⟩) (fun fin s'=>∃v,fin=.done (.ret v)∧Q v s') E s:=by
 obtain ⟨m1,m2,m3,m4⟩:=n1 l1 (.inl rfl)
 obtain ⟨m5,m6,m7,m8⟩:=n1 l2 (.inr rfl)
 have kx:k<xs.size:=(Array.getElem?_eq_some_iff.mp hx).1
 have ky:k<ys.size:=(Array.getElem?_eq_some_iff.mp hy).1
 have D1:=su (prog:=prog) (w:=w) hh i1 l1 m3 xs c1
 have D2:=su (prog:=prog) (w:=w) hh i2 l2 m8 ys c2
 show wpAny _ _ (field (.ref z) 2 >>= _) _ _ _;refine wpAny_bind (wpAny_field hz rfl (x:=.bool false) rfl ?_)
 show wpAny _ _ (field (.ref z) 3 >>= _) _ _ _;refine wpAny_bind (wpAny_field hz rfl (x:=.ref TI) rfl (wpAny_bind (wpAny_seqItems hTI rfl ?_)))
 show wpAny _ _ (Builtin.SmallTypes.ownedTupleIsFree (.ref z) >>= _) _ _ _;refine wpAny_bind ?_;unfold Builtin.SmallTypes.ownedTupleIsFree
 refine wpAny_bind (wpAny_field hz rfl (x:=.none) rfl (wpAny_pure ?_));simp only [if_true]
 refine wpAny_bind (wpAny_rule (wpAny_bind (wpAny_field hz rfl (x:=.ref TO) rfl (wpAny_bind (wpAny_setField_rec hz (by simp) fun g1 z1 t1=>?_)))))
 replace z1:IsZip g1 z TI TO .ellipsis:=z1
 refine wpAny_bind ?_;simp only [List.zipIdx_cons,List.zipIdx_nil,List.forIn_cons,List.forIn_nil];refine wpAny_bind (wpAny_bind (wpAny_onRaise ?_))
 show wpAny _ _ (Builtin.SmallTypes.nextOf (.ref i1) >>= _) _ _ _
 refine wpAny_bind (D1.item k _ _ _ kx ⟨h1.at fun o e=>t1.extBut _ _ D.a3 e,q1.at fun o e=>t1.extBut _ _ m1 e⟩ fun x' g2 tk2 p1 st1 t2=>wpAny_pure ?_)
 have ex:x=x':=Option.some.inj (hx.symm.trans p1)
 subst ex
 have TO2:IsPair g2 TO a b:=t2.extBut _ _ D.a8 (t1.extBut _ _ D.a2 hTO)
 refine wpAny_bind (wpAny_seqItems TO2 rfl (wpAny_bind (wpAny_updateSeq_pair TO2 fun g3 TO3 t3=>?_)))
 replace TO3:IsPair g3 TO x b:=TO3
 refine wpAny_bind (wpAny_letGo (wpAny_pure ?_));refine wpAny_bind (wpAny_bind (wpAny_onRaise ?_));show wpAny _ _ (Builtin.SmallTypes.nextOf (.ref i2) >>= _) _ _ _
 refine wpAny_bind (D2.item k _ _ _ ky ⟨h2.at fun o e=>t3.extBut _ _ D.a9.symm (t2.extBut _ _ D.a0.symm (t1.extBut _ _ D.a4 e)),q2.at fun o e=>t3.extBut _ _ m6 (t2.extBut _ _ m7 (t1.extBut _ _ m5 e))⟩ fun y' g4 tk4 p2 st2 t4=>wpAny_pure ?_)
 have ey:y=y':=Option.some.inj (hy.symm.trans p2)
 subst ey
 have TO4:IsPair g4 TO x b:=t4.extBut _ _ D.a9 TO3
 refine wpAny_bind (wpAny_seqItems TO4 rfl (wpAny_bind (wpAny_updateSeq_pair TO4 fun g5 TO5 t5=>?_)))
 replace TO5:IsPair g5 TO x y:=TO5
 refine wpAny_bind (wpAny_letGo (wpAny_pure (wpAny_pure ?_)));refine wpAny_bind (wpAny_seqItems TO5 rfl (wpAny_bind (wpAny_newTuple ?_)))
 have sz:g5.objs.size=s.heap.objs.size:=by rw [t5.1,t4.1,t3.1,t2.1,t1.1]
 have z5:IsZip g5 z TI TO .ellipsis:=t5.extBut _ _ D.a2.symm (t4.extBut _ _ D.a4.symm (t3.extBut _ _ D.a2.symm (t2.extBut _ _ D.a3.symm z1)))
 have keep:∀c o,c≠z→c≠TO→c≠i1→c≠i2→s.heap.get? c=some o→g5.get? c=some o:=fun c o d1 d2 d3 d4 e=>t5.extBut _ _ d2 (t4.extBut _ _ d4 (t3.extBut _ _ d2 (t2.extBut _ _ d3 (t1.extBut _ _ d1 e))))
 have it1:gH g5 i1 l1 (k+1) c1:=st1.1.at fun o e=>t5.extBut _ _ D.a8.symm (t4.extBut _ _ D.a0 (t3.extBut _ _ D.a8.symm e))
 have it2:gH g5 i2 l2 (k+1) c2:=st2.1.at fun o e=>t5.extBut _ _ D.a9.symm e
 have zlt:z<g5.objs.size:=Heap.lt_size z5
 show wpAny _ _ (Builtin.SmallTypes.ownedTupleHandOut (.ref z) (.ref g5.objs.size) >>= _) _ _ _;refine wpAny_bind ?_;unfold Builtin.SmallTypes.ownedTupleHandOut
 have z6:IsZip (g5.push { cls:=.type "tuple",data:=.seq #[x,y] }) z TI TO .ellipsis:=Heap.get?_push_of_some _ z5
 refine wpAny_bind (wpAny_setField_rec z6 (by simp) fun g7 z7 t7=>?_)
 replace z7:IsZip g7 z TI TO (rawInt g5.objs.size):=z7
 refine wpAny_setField_rec z7 (by simp) fun g8 z8 t8=>?_
 replace z8:IsZip g8 z TI TO (rawInt g5.objs.size):=z8
 have up:∀c o,c≠z→g5.get? c=some o→g8.get? c=some o:=fun c o d e=>t8.extBut _ _ d (t7.extBut _ _ d (Heap.get?_push_of_some _ e))
 have T8:IsPair g8 g5.objs.size x y:=t8.extBut _ _ (Nat.ne_of_gt zlt) (t7.extBut _ _ (Nat.ne_of_gt zlt) (Heap.get?_push_size _ rfl))
 have s8:g8.objs.size=g5.objs.size+1:=by rw [t8.1,t7.1,Heap.size_push]
 rw [sz] at z8 T8 s8
 refine wpAny_pure ⟨(),?_⟩;show Q (.ref g5.objs.size) _;rw [sz]
 exact hQ g8 _ z8 (up _ _ D.a2 TO5) (it1.at fun o e=>up _ o D.a3 e) (it2.at fun o e=>up _ o D.a4 e) T8 s8 fun c o d1 d2 d3 d4 e=>up c o d1 (keep c o d1 d2 d3 d4 e)
theorem Ig {Q:Fin→Shared→Prop} (hh:A.handled=none) (D:vK z TI TO i1 i2) (n1:∀c,c=l1∨c=l2→c≠z∧c≠TO∧c≠i1∧c≠i2)
 (hz:IsZip s.heap z TI TO .none) (hTI:IsPair s.heap TI (.ref i1) (.ref i2)) (hTO:IsPair s.heap TO a b)
 (h1:gH s.heap i1 l1 k c1) (h2:gH s.heap i2 l2 k c2) (q1:jG s.heap l1 xs c1) (q2:jG s.heap l2 ys c2) (hend:xs.size=k∨(k<xs.size∧ys.size=k))
 (hE:∀h' e tk,(∀c o,c≠z→c≠TO→c≠i1→c≠i2→s.heap.get? c=some o→h'.get? c=some o)→(∃o,h'.get? e=some o∧o.cls=.type "StopIteration")→E (.ref e) { s with heap:=h',toks:=tk }) :
 wpAny (model prog w) A (Builtin.«zip.__next__» ⟨[.ref z],[]⟩) Q E s:=by
 obtain ⟨m1,m2,m3,m4⟩:=n1 l1 (.inl rfl)
 obtain ⟨m5,m6,m7,m8⟩:=n1 l2 (.inr rfl)
 have D1:=su (prog:=prog) (w:=w) hh i1 l1 m3 xs c1
 have D2:=su (prog:=prog) (w:=w) hh i2 l2 m8 ys c2
 show wpAny _ _ (field (.ref z) 2 >>= _) _ _ _;refine wpAny_bind (wpAny_field hz rfl (x:=.bool false) rfl ?_)
 show wpAny _ _ (field (.ref z) 3 >>= _) _ _ _;refine wpAny_bind (wpAny_field hz rfl (x:=.ref TI) rfl (wpAny_bind (wpAny_seqItems hTI rfl ?_)))
 show wpAny _ _ (Builtin.SmallTypes.ownedTupleIsFree (.ref z) >>= _) _ _ _;refine wpAny_bind ?_;unfold Builtin.SmallTypes.ownedTupleIsFree
 refine wpAny_bind (wpAny_field hz rfl (x:=.none) rfl (wpAny_pure ?_));simp only [if_true]
 refine wpAny_bind (wpAny_rule (wpAny_bind (wpAny_field hz rfl (x:=.ref TO) rfl (wpAny_bind (wpAny_setField_rec hz (by simp) fun g1 z1 t1=>?_)))))
 replace z1:IsZip g1 z TI TO .ellipsis:=z1
 refine wpAny_bind ?_;simp only [List.zipIdx_cons,List.zipIdx_nil,List.forIn_cons,List.forIn_nil];refine wpAny_bind (wpAny_bind (wpAny_onRaise ?_))
 show wpAny _ _ (Builtin.SmallTypes.nextOf (.ref i1) >>= _) _ _ _
 have st0:gH g1 i1 l1 k c1∧jG g1 l1 xs c1:=⟨h1.at fun o e=>t1.extBut _ _ D.a3 e,q1.at fun o e=>t1.extBut _ _ m1 e⟩
 rcases hend with hk | ⟨kx,hk⟩
 ·refine wpAny_bind (D1.done _ _ _ (by rw [hk];exact st0) fun g2 e t2 he=>?_)
  obtain ⟨oe,e1,e2⟩:=he
  have z2:IsZip g2 z TI TO .ellipsis:=t2 _ _ D.a3.symm z1
  have ez:e≠z:=fun q=>by subst q;rw [z2] at e1;cases e1;simp at e2
  exact wpAny_setField_rec z2 (by simp) fun g3 _ t3=>hE g3 e _ (fun c o d1 _ d3 _ q=>t3.extBut _ _ d1 (t2 _ _ d3 (t1.extBut _ _ d1 q))) ⟨oe,t3.extBut _ _ ez e1,e2⟩
 ·refine wpAny_bind (D1.item k _ _ _ kx st0 fun x g2 tk2 p1 st1 t2=>wpAny_pure ?_)
  have TO2:IsPair g2 TO a b:=t2.extBut _ _ D.a8 (t1.extBut _ _ D.a2 hTO)
  refine wpAny_bind (wpAny_seqItems TO2 rfl (wpAny_bind (wpAny_updateSeq_pair TO2 fun g3 TO3 t3=>?_)))
  refine wpAny_bind (wpAny_letGo (wpAny_pure ?_));refine wpAny_bind (wpAny_bind (wpAny_onRaise ?_));show wpAny _ _ (Builtin.SmallTypes.nextOf (.ref i2) >>= _) _ _ _
  have st2:gH g3 i2 l2 k c2∧jG g3 l2 ys c2:=⟨h2.at fun o e=>t3.extBut _ _ D.a9.symm (t2.extBut _ _ D.a0.symm (t1.extBut _ _ D.a4 e)),q2.at fun o e=>t3.extBut _ _ m6 (t2.extBut _ _ m7 (t1.extBut _ _ m5 e))⟩
  refine wpAny_bind (D2.done _ _ _ (by rw [hk];exact st2) fun g4 e t4 he=>?_)
  obtain ⟨oe,e1,e2⟩:=he
  have z4:IsZip g4 z TI TO .ellipsis:=t4 _ _ D.a4.symm (t3.extBut _ _ D.a2.symm (t2.extBut _ _ D.a3.symm z1))
  have ez:e≠z:=fun q=>by subst q;rw [z4] at e1;cases e1;simp at e2
  exact wpAny_setField_rec z4 (by simp) fun g5 _ t5=>hE g5 e _ (fun c o d1 d2 d3 d4 q=>t5.extBut _ _ d1 (t4 _ _ d4 (t3.extBut _ _ d2 (t2.extBut _ _ d3 (t1.extBut _ _ d1 q))))) ⟨oe,t5.extBut _ _ ez e1,e2⟩
end
def IX:Bool→String
 | true => "list_iterator"
 | false => "tuple_iterator"
abbrev zA (h:Heap) (l1:Addr) (c1:Bool):Heap:=h.push { cls:=.type (IX c1),data:=.fields #[.ref l1,.int 0 0] }
abbrev zB (h:Heap) (l1 l2:Addr) (c1 c2:Bool):Heap:=(zA h l1 c1).push { cls:=.type (IX c2),data:=.fields #[.ref l2,.int 0 0] }
abbrev zC (h:Heap) (l1 l2:Addr) (c1 c2:Bool):Heap:=(zB h l1 l2 c1 c2).push { cls:=.type "tuple",data:=.seq #[.ref h.objs.size,.ref (zA h l1 c1).objs.size] }
abbrev zD (h:Heap) (l1 l2:Addr) (c1 c2:Bool):Heap:=(zC h l1 l2 c1 c2).push { cls:=.type "tuple",data:=.seq #[.none,.none] }
abbrev zE (h:Heap) (l1 l2:Addr) (c1 c2:Bool):Heap:=(zD h l1 l2 c1 c2).push { cls:=.type "zip",data:=.fields #[.none,.bool false,.bool false,.ref (zB h l1 l2 c1 c2).objs.size,.ref (zC h l1 l2 c1 c2).objs.size] }
set_option maxHeartbeats 8000000 in
theorem IC (l1 l2:Addr) (xs ys:Array Value) (c1 c2:Bool) :
 Meets (Builtin.«zip.__new__» ⟨[.type "zip",.ref l1,.ref l2],[]⟩) (fun _ R s=>jG s.heap l1 xs c1∧jG s.heap l2 ys c2∧R (.ok (.ret (.ref (zD s.heap l1 l2 c1 c2).objs.size))) { s with heap:=zE s.heap l1 l2 c1 c2 }):=
 .of_wp fun prog w A R s h=>by
  obtain ⟨hp,g,d,tk,os⟩:=s;obtain ⟨q1,q2,h⟩:=h
  have hsub:=sub_zip
  have L2':jG (Shared.heap ⟨zA hp l1 c1,g,d,tk,os⟩) l2 ys c2:=jG.at q2 fun o e=>Heap.get?_push_of_some _ e
  cases c1 <;> cases c2
  ·have g1:Heap.IsTuple (Shared.heap ⟨hp,g,d,tk,os⟩) l1 xs:=q1
   have g2:Heap.IsTuple (Shared.heap ⟨hp.push { cls:=.type "tuple_iterator",data:=.fields #[.ref l1,.int 0 0] },g,d,tk,os⟩) l2 ys:=L2'
   wp_walk using wpAny_pyIter_tuple g1,wpAny_pyIter_tuple g2
   exact ⟨(),h⟩
  ·have g1:Heap.IsTuple (Shared.heap ⟨hp,g,d,tk,os⟩) l1 xs:=q1
   have g2:Heap.IsList (Shared.heap ⟨hp.push { cls:=.type "tuple_iterator",data:=.fields #[.ref l1,.int 0 0] },g,d,tk,os⟩) l2 ys:=L2'
   wp_walk using wpAny_pyIter_tuple g1,wpAny_pyIter_list g2
   exact ⟨(),h⟩
  ·have g1:Heap.IsList (Shared.heap ⟨hp,g,d,tk,os⟩) l1 xs:=q1
   have g2:Heap.IsTuple (Shared.heap ⟨hp.push { cls:=.type "list_iterator",data:=.fields #[.ref l1,.int 0 0] },g,d,tk,os⟩) l2 ys:=L2'
   wp_walk using wpAny_pyIter_list g1,wpAny_pyIter_tuple g2
   exact ⟨(),h⟩
  ·have g1:Heap.IsList (Shared.heap ⟨hp,g,d,tk,os⟩) l1 xs:=q1
   have g2:Heap.IsList (Shared.heap ⟨hp.push { cls:=.type "list_iterator",data:=.fields #[.ref l1,.int 0 0] },g,d,tk,os⟩) l2 ys:=L2'
   wp_walk using wpAny_pyIter_list g1,wpAny_pyIter_list g2
   exact ⟨(),h⟩
theorem Cm {h:Heap}{it l:Addr}:∀{c:Bool},h.get? it=some { cls:=.type (IX c),data:=.fields #[.ref l,.int 0 0] }→gH h it l 0 c
 | true,e=>⟨_,e,rfl,rfl⟩
 | false,e=>⟨_,e,rfl,rfl⟩
section
variable {prog:Program}{w:World}{A:Around}{E:Value→Shared→Prop}{s:Shared}
theorem EQ {l1 l2:Addr}{xs ys:Array Value}{c1 c2:Bool}{Q:Value→Shared→Prop} (q1:jG s.heap l1 xs c1) (q2:jG s.heap l2 ys c2)
 (h:∀h',IsZip h' (s.heap.objs.size+4) (s.heap.objs.size+2) (s.heap.objs.size+3) .none→IsPair h' (s.heap.objs.size+2) (.ref s.heap.objs.size) (.ref (s.heap.objs.size+1))→
  IsPair h' (s.heap.objs.size+3) .none .none→gH h' s.heap.objs.size l1 0 c1→gH h' (s.heap.objs.size+1) l2 0 c2→
  (∀c o,s.heap.get? c=some o→h'.get? c=some o)→Q (.ref (s.heap.objs.size+4)) { s with heap:=h' }) :
 wpAny (model prog w) A (call (.type "zip") [.ref l1,.ref l2]) Q E s:=by
 refine callType_new F.called_zip (by decide) (F.typeCall_zip_2 _ _) (F.newCall_zip_2 _ _) (fun obj=>F.args_object_init_3 obj _ _) F.entry_zip_new (IC l1 l2 xs ys c1 c2) ⟨q1,q2,?_⟩
 have s1:(zA s.heap l1 c1).objs.size=s.heap.objs.size+1:=Heap.size_push ..
 have s2:(zB s.heap l1 l2 c1 c2).objs.size=s.heap.objs.size+2:=by rw [Heap.size_push,s1]
 have s3:(zC s.heap l1 l2 c1 c2).objs.size=s.heap.objs.size+3:=by rw [Heap.size_push,s2]
 have s4:(zD s.heap l1 l2 c1 c2).objs.size=s.heap.objs.size+4:=by rw [Heap.size_push,s3]
 have g5:(zE s.heap l1 l2 c1 c2).get? (zD s.heap l1 l2 c1 c2).objs.size=some _:=Heap.get?_push_size _ rfl
 have g4:(zE s.heap l1 l2 c1 c2).get? (zC s.heap l1 l2 c1 c2).objs.size=some _:=Heap.get?_push_of_some _ (Heap.get?_push_size _ rfl)
 have g3:(zE s.heap l1 l2 c1 c2).get? (zB s.heap l1 l2 c1 c2).objs.size=some _:=Heap.get?_push_of_some _ (Heap.get?_push_of_some _ (Heap.get?_push_size _ rfl))
 have g2:(zE s.heap l1 l2 c1 c2).get? (zA s.heap l1 c1).objs.size=some _:=Heap.get?_push_of_some _ (Heap.get?_push_of_some _ (Heap.get?_push_of_some _ (Heap.get?_push_size _ rfl)))
 have g1:(zE s.heap l1 l2 c1 c2).get? s.heap.objs.size=some _:=Heap.get?_push_of_some _ (Heap.get?_push_of_some _ (Heap.get?_push_of_some _ (Heap.get?_push_of_some _ (Heap.get?_push_size _ rfl))))
 show _∧_
 rw [s2,s3,s4] at g5
 rw [s1,s2] at g3
 rw [s3] at g4
 rw [s1] at g2
 rw [s4]
 exact ⟨⟨_,g5,rfl⟩,h _ g5 g3 g4 (Cm g1) (Cm g2) fun c o x=>Heap.get?_push_of_some _ (Heap.get?_push_of_some _ (Heap.get?_push_of_some _ (Heap.get?_push_of_some _ (Heap.get?_push_of_some _ x))))⟩
theorem yS {z TI TO i1 i2 l1 l2:Addr}{k:Nat}{xs ys:Array Value}{a b x y:Value}{c1 c2:Bool}{Q:Option Value→Shared→Prop} (D:vK z TI TO i1 i2) (n1:∀c,c=l1∨c=l2→c≠z∧c≠TO∧c≠i1∧c≠i2)
 (hz:IsZip s.heap z TI TO .none) (hTI:IsPair s.heap TI (.ref i1) (.ref i2)) (hTO:IsPair s.heap TO a b) (hh:A.handled=none)
 (h1:gH s.heap i1 l1 k c1) (h2:gH s.heap i2 l2 k c2) (q1:jG s.heap l1 xs c1) (q2:jG s.heap l2 ys c2) (hx:xs[k]?=some x) (hy:ys[k]?=some y)
 (hQ:∀h' tk,IsZip h' z TI TO (rawInt s.heap.objs.size)→IsPair h' TO x y→gH h' i1 l1 (k+1) c1→gH h' i2 l2 (k+1) c2→IsPair h' s.heap.objs.size x y→h'.objs.size=s.heap.objs.size+1→
  (∀c o,c≠z→c≠TO→c≠i1→c≠i2→s.heap.get? c=some o→h'.get? c=some o)→Q (some (.ref s.heap.objs.size)) { s with heap:=h',toks:=tk }) :
 wpAny (model prog w) A (pyNext (.ref z)) Q E s:=by
 have hT:s.TypeIs (.ref z) "zip" := ⟨_,hz,rfl⟩
 unfold pyNext
 exact wpAny_bind (wpAny_attempt (wpAny_callSpecial?_slot (name:=Str.ofString "__next__") hT F.slot_zip_next (wpAny_call_entry F.slot_zip_next hT F.entry_zip_next
  (Ho D n1 hz hTI hTO hh h1 h2 q1 q2 hx hy fun h' tk a1 a2 a3 a4 a5 a6 a7=>wpAny_pure (hQ h' tk a1 a2 a3 a4 a5 a6 a7)) (F.args_zip_next_1 _))))
theorem Af {z TI TO i1 i2 l1 l2:Addr}{k:Nat}{xs ys:Array Value}{a b:Value}{c1 c2:Bool}{Q:Option Value→Shared→Prop} (hh:A.handled=none) (D:vK z TI TO i1 i2) (n1:∀c,c=l1∨c=l2→c≠z∧c≠TO∧c≠i1∧c≠i2)
 (hz:IsZip s.heap z TI TO .none) (hTI:IsPair s.heap TI (.ref i1) (.ref i2)) (hTO:IsPair s.heap TO a b)
 (h1:gH s.heap i1 l1 k c1) (h2:gH s.heap i2 l2 k c2) (q1:jG s.heap l1 xs c1) (q2:jG s.heap l2 ys c2) (hend:xs.size=k∨(k<xs.size∧ys.size=k))
 (hQ:∀h' tk,(∀c o,c≠z→c≠TO→c≠i1→c≠i2→s.heap.get? c=some o→h'.get? c=some o)→Q none { s with heap:=h',toks:=tk }):wpAny (model prog w) A (pyNext (.ref z)) Q E s:=by
 have hT:s.TypeIs (.ref z) "zip" := ⟨_,hz,rfl⟩
 unfold pyNext
 refine wpAny_bind (wpAny_attempt (wpAny_callSpecial?_slot (name:=Str.ofString "__next__") hT F.slot_zip_next (wpAny_call_entry F.slot_zip_next hT F.entry_zip_next
  (Ig hh D n1 hz hTI hTO h1 h2 q1 q2 hend fun h' e tk hk he=>?_) (F.args_zip_next_1 _))))
 obtain ⟨o,ho,hc⟩:=he
 refine wpAny_bind (wpAny_isInstance (T := "StopIteration") (b:=true) ⟨o,ho,hc⟩ isSubtype_stop (wpAny_pure (hQ _ tk hk)))
end
theorem ai.turnedL {X:Cx}{pins:List (Addr×Obj)}{σ:St}{H:Hp}{s:Shared}{h':Heap}{t':Nat}{ch:List Addr} (I:ai X pins σ H s) (hf:∀b∈ch,jM X pins H b) (k:∀b u,b∉ch→s.heap.get? b=some u→h'.get? b=some u) :
 ai X pins σ H { s with heap:=h',toks:=t' }:=by
 refine I.step (g':=s.gens) (d':=s.drawn) (ch:=ch) (fun b hb=>?_) (fun b o _ _ hc e _=>k b o hc e) (fun b o _ _ hc e _=>⟨o.slots,k b o hc e⟩) (fun _ _ _ _ n=>n)
  (fun b o hc e=>⟨o,k b o hc e⟩) (fun _ _ e=>e) (fun _ _ _ e=>e) (fun b ps e=>⟨#[],by rw [e];simp⟩) (fun m hm=>?_) (fun b u e=>?_) I.bare
 ·obtain ⟨f0,f1,f2,f3,f4,f5⟩:=hf b hb
  exact ⟨f3,f1,f4,f5⟩
 ·obtain ⟨o,es,ep,ho,r⟩:=hm
  exact ⟨o,es,ep,k _ o (fun z=>(hf _ z).2.1 rfl) ho,r⟩
 ·refine (I.hok b u e).stay (fun c v hc q=>k c v (fun z=>?_) q) (fun _ q=>q) fun _ _ q=>q
  have hcn:=(hf c z).1
  rcases hc with rfl | hc
  ·rw [e] at hcn;cases hcn
  ·rw [hc] at hcn;cases hcn
def o9 (K:PySem.W.Frag) (H:Hp) (a:Addr) (xs:List V):Bool→Prop
 | true=>ak K H a xs
 | false=>ar K H a xs
theorem ai.seqC {X:Cx}{pins:List (Addr×Obj)}{σ:St}{H:Hp}{s:Shared}{a:Addr}{xs:List V} (I:ai X pins σ H s):∀{c:Bool},o9 X.K H a xs c→∃its:List Value,aL xs its∧jG s.heap a its.toArray c
 | true,q=>let ⟨its,rv,p,_⟩:=I.list q;⟨its,rv,p.isList⟩
 | false,q=>let ⟨its,rv,p,_⟩:=I.tuple q;⟨its,rv,p⟩
theorem ai.seqC_inj {X:Cx}{pins:List (Addr×Obj)}{σ:St}{H:Hp}{s:Shared}{a:Addr}{xs ys:List V} (I:ai X pins σ H s):∀{c:Bool},o9 X.K H a xs c→o9 X.K H a ys c→xs=ys
 | true,p,q=>I.list_inj p q
 | false,p,q=>I.tuple_inj p q
def LC (K:PySem.W.Frag) (a1 a2:Addr) (c1 c2:Bool):It:=
 ⟨fun i H=>xX fun xs ys x y=>o9 K H a1 xs c1∧o9 K H a2 ys c2∧xs[i]?=some x∧ys[i]?=some y,
  fun i H v H'=>kJ fun T x y=>H T=none∧v=.ref T∧H'=aP H T (.tup [x,y])∧(∀xs,o9 K H a1 xs c1→xs[i]?=some x)∧(∀ys,o9 K H a2 ys c2→ys[i]?=some y),
  fun i H=>bI fun xs ys=>o9 K H a1 xs c1∧o9 K H a2 ys c2∧(xs.length=i∨(i<xs.length∧ys.length=i))⟩
theorem FO {P:Program}{w:World}{K:PySem.W.Frag}{es:List Expr}{kk:Nat}{pos:Pos} (a1 a2 z TI TO i1 i2:Addr) (c1 c2:Bool) (D:vK z TI TO i1 i2) (n1:∀c,c=a1∨c=a2→c≠z∧c≠TO∧c≠i1∧c≠i2) :
 wZ P w K (.Tuple es kk pos) (LC K a1 a2 c1 c2) [z,TO,i1,i2,TI] z (fun i h=>IsZip h z TI TO .none∧IsPair h TI (.ref i1) (.ref i2)∧(bI fun a b=>IsPair h TO a b)∧gH h i1 a1 i c1∧gH h i2 a2 i c2) where
 mem:=by simp
 obj:=fun i h st b hb=>by
  obtain ⟨hz,hTI,⟨a,b',hTO⟩,h1,h2⟩:=st
  have hb':b=z∨b=TO∨b=i1∨b=i2∨b=TI:=by simpa using hb
  rcases hb' with rfl | rfl | rfl | rfl | rfl
  ·exact ⟨_,hz,fun v q=>by have q':Data.fields _=Data.cell v:=q;cases q'⟩
  ·exact ⟨_,hTO,fun v q=>by have q':Data.seq _ _=Data.cell v:=q;cases q'⟩
  ·exact h1.some
  ·exact h2.some
  ·exact ⟨_,hTI,fun v q=>by have q':Data.seq _ _=Data.cell v:=q;cases q'⟩
 keep:=fun i h h' st k=>by
  obtain ⟨hz,hTI,⟨a,b',hTO⟩,h1,h2⟩:=st
  exact ⟨k z (by simp) _ hz,k TI (by simp) _ hTI,⟨a,b',k TO (by simp) _ hTO⟩,h1.at fun o q=>k i1 (by simp) o q,h2.at fun o q=>k i2 (by simp) o q⟩
 item:=by
  intro X hP hw hK hc i pins s σ H E I hf st hg
  subst hP hw hK
  obtain ⟨hz,hTI,⟨a,b',hTO⟩,h1,h2⟩:=st
  obtain ⟨xs,ys,x,y,p1,p2,hx,hy⟩:=hg
  obtain ⟨its1,rv1,k1⟩:=I.seqC p1
  obtain ⟨its2,rv2,k2⟩:=I.seqC p2
  obtain ⟨u,hu,ru⟩:=rv1.get hx
  obtain ⟨v,hv,rw'⟩:=rv2.get hy
  have hnT:H s.heap.objs.size=none:=I.fresh
  refine yS D n1 hz hTI hTO (I.ok.hd hc) h1 h2 k1 k2 (x:=u) (y:=v) (by simpa using hu) (by simpa using hv) fun h' tk zo TO' t1 t2 T' sz keep=>?_
  refine ⟨(),wpAny_letOwnedTupleGo_zip (s:={ s with heap:=h',toks:=tk }) zo fun h2' z2 s2=>?_⟩
  have zlt:z<s.heap.objs.size:=Heap.lt_size hz
  have TOlt:TO<s.heap.objs.size:=Heap.lt_size hTO
  have TIlt:TI<s.heap.objs.size:=Heap.lt_size hTI
  have i1lt:i1<s.heap.objs.size:=let ⟨_,e,_⟩:=h1.some;Heap.lt_size e
  have i2lt:i2<s.heap.objs.size:=let ⟨_,e,_⟩:=h2.some;Heap.lt_size e
  have hT2:h2'.get? s.heap.objs.size=some { cls:=.type "tuple",data:=.seq #[u,v] }:=(s2.2 _ (Nat.ne_of_gt zlt)).trans T'
  refine ⟨.ref s.heap.objs.size,aP H s.heap.objs.size (.tup [x,y]),I.turnedNew (ch:=[z,TO,i1,i2,TI]) (t':=tk) hf (fun b o hb q=>?_) (Nat.le_refl _) ?_,rfl,
   ⟨_,x,y,hnT,rfl,rfl,fun zs hs=>by rw [I.seqC_inj hs p1];exact hx,fun zs hs=>by rw [I.seqC_inj hs p2];exact hy⟩,⟨z2,(s2.2 _ D.a1).trans (keep _ _ D.a1 D.a5 D.a6 D.a7 hTI),⟨_,_,(s2.2 _ D.a2).trans TO'⟩,t1.at fun o e=>(s2.2 _ D.a3).trans e,t2.at fun o e=>(s2.2 _ D.a4).trans e⟩,fun b hb=>?_⟩
  ·have e1:b≠z:=fun q=>hb (by simp [q])
   have e2:b≠TO:=fun q=>hb (by simp [q])
   have e3:b≠i1:=fun q=>hb (by simp [q])
   have e4:b≠i2:=fun q=>hb (by simp [q])
   exact (s2.2 b e1).trans (keep b o e1 e2 e3 e4 q)
  ·exact ⟨by show 2≤sizeLine;decide,[u,v],.cons ru (.cons rw' .nil),⟨_,hT2,rfl,()⟩,_,hT2,rfl⟩
  ·have hb':b=z∨b=TO∨b=i1∨b=i2∨b=TI:=by simpa using hb
   have hlt:b<s.heap.objs.size:=by rcases hb' with rfl | rfl | rfl | rfl | rfl <;> assumption
   rw [aE (Nat.ne_of_lt hlt)]
   exact (hf b hb).1
 done:=by
  intro X hP hw hK hc i pins s σ H E I hf st hg
  subst hP hw hK
  obtain ⟨hz,hTI,⟨a,b',hTO⟩,h1,h2⟩:=st
  obtain ⟨xs,ys,p1,p2,hl⟩:=hg
  obtain ⟨its1,rv1,k1⟩:=I.seqC p1
  obtain ⟨its2,rv2,k2⟩:=I.seqC p2
  have l1:=rv1.length
  have l2:=rv2.length
  refine Af (I.ok.hd hc) D n1 hz hTI hTO h1 h2 k1 k2 (by simp;trivial) fun h' tk keep=>⟨rfl,I.turnedL (ch:=[z,TO,i1,i2,TI]) (t':=tk) hf fun b o hb q=>?_⟩
  exact keep b o (fun q=>hb (by simp [q])) (fun q=>hb (by simp [q])) (fun q=>hb (by simp [q])) (fun q=>hb (by simp [q])) q
 self:=fun _ _ _ _ _ st h=>wpAny_pyIter_zip st.1 h
def JA (K:PySem.W.Frag) (ta:TA):TI:=fun σ H R=>ta σ H fun vs H1=>xX fun a1 a2 c1 c2=>vs=[.ref a1,.ref a2]∧(∃xs,o9 K H1 a1 xs c1)∧(∃ys,o9 K H1 a2 ys c2)∧R (LC K a1 a2 c1 c2) H1
theorem Gh:bootBuiltins "zip" = some (.type "zip"):=by nofun
theorem IJ {X:Cx}{es:List Expr}{kk:Nat}{tp:Pos}{a b:Expr}{ta:TA}{p pos:Pos} (hg:Gl X "zip") (hm:X.mg "zip" = none) (ha:PA X [a,b] ta) (hs:starEach [a,b] X.env=[(false,eval a X.env),(false,eval b X.env)]:=by rfl) (hs2:starEach [b] X.env=[(false,eval b X.env)]:=by rfl) :
 PI X (.Tuple es kk tp) (.Call (.Name "zip" p) [a,b] [] pos) (JA X.K ta):=by
 intro pins s σ H R I h
 refine Call_ (ml I hg hm Gh (PyProof.Rows.callWith_type1 (aR (ha pos pins s σ H _ I h) fun us s1 ⟨vs,H1,I1,r1,q1⟩=>?_) (by rw [hs,hs2]) (by rw [hs2];rfl)))
 obtain ⟨a1,a2,c1,c2,rfl,⟨xs,p1⟩,⟨ys,p2⟩,q⟩:=q1
 obtain ⟨u1,u2,rfl,ru1,ru2⟩:=r1.two
 obtain rfl:u1=.ref a1:=ru1
 obtain rfl:u2=.ref a2:=ru2
 obtain ⟨its1,rv1,k1⟩:=I1.seqC p1
 obtain ⟨its2,rv2,k2⟩:=I1.seqC p2
 have d1:=k1.lt
 have d2:=k2.lt
 refine EQ k1 k2 fun h' hz hTI hTO t1 t2 hk=>wpAny_pyIter_zip hz ?_
 have I2:ai X pins σ H1 { s1 with heap:=h',toks:=s1.toks }:=I1.kept hk
 refine ⟨s1.heap.objs.size+4,[s1.heap.objs.size+4,s1.heap.objs.size+3,s1.heap.objs.size,s1.heap.objs.size+1,s1.heap.objs.size+2],_,_,H1,rfl,I2,FO a1 a2 (s1.heap.objs.size+4) (s1.heap.objs.size+2) (s1.heap.objs.size+3) s1.heap.objs.size (s1.heap.objs.size+1) c1 c2
  ⟨by simp,by simp,Nat.ne_of_lt (by simp),by simp,by simp,Nat.ne_of_gt (by simp),by simp,Nat.ne_of_gt (by simp),by simp,Nat.ne_of_lt (by simp)⟩ (fun c hc=>?_),⟨hz,hTI,⟨_,_,hTO⟩,t1,t2⟩,fun b hb=>?_,q⟩
 ·have:c<s1.heap.objs.size:=by rcases hc with rfl | rfl <;> assumption
  exact ⟨Nat.ne_of_lt (Nat.lt_of_lt_of_le this (Nat.le_add_right _ _)),Nat.ne_of_lt (Nat.lt_of_lt_of_le this (Nat.le_add_right _ _)),Nat.ne_of_lt this,Nat.ne_of_lt (Nat.lt_of_lt_of_le this (Nat.le_add_right _ _))⟩
 ·have hb':b=s1.heap.objs.size+4∨b=s1.heap.objs.size+3∨b=s1.heap.objs.size∨b=s1.heap.objs.size+1∨b=s1.heap.objs.size+2:=by simpa using hb
  have hle:s1.heap.objs.size≤b:=by rcases hb' with rfl | rfl | rfl | rfl | rfl <;> trivial
  exact I1.fpOk hle (I1.hok.fresh hle)
section
variable {X:Cx}{K:PySem.W.Frag}
end
def Sz (m:Nat) (i:Int):Prop:=i.natAbs<2 ^ m
theorem Sz.mono {m n:Nat}{i:Int} (h:Sz m i) (k:m≤n):Sz n i:=Nat.lt_of_lt_of_le h (Nat.pow_le_pow_right (by decide) k)
theorem Sz.mul {m n:Nat}{i j:Int} (h:Sz m i) (k:Sz n j):Sz (m+n) (i*j):=by
 unfold Sz at *
 rw [Int.natAbs_mul,Nat.pow_add]
 exact Nat.mul_lt_mul'' h k
theorem Sz.add {m:Nat}{i j:Int} (h:Sz m i) (k:Sz m j):Sz (m+1) (i+j):=by
 unfold Sz at *
 rw [Nat.pow_succ]
 trivial
theorem Sz.sub {m:Nat}{i j:Int} (h:Sz m i) (k:Sz m j):Sz (m+1) (i - j):=by
 unfold Sz at *
 rw [Nat.pow_succ]
 trivial
theorem Sz.neg {m:Nat}{i:Int} (h:Sz m i):Sz m (-i):=by
 unfold Sz at *
 trivial
theorem Sz.le {m:Nat}{i j:Int} (h:Sz m j) (k:i.natAbs≤j.natAbs):Sz m i:=Nat.lt_of_le_of_lt k h
theorem Sz.log {m:Nat}{i:Int} (h:Sz m i) (h0:i≠0):i.natAbs.log2<m:=(Nat.log2_lt (by trivial)).mpr h
theorem Sz.bits {m:Nat}{i:Int} (h:Sz m i):Builtin.Int.intBits i≤m:=by
 unfold Builtin.Int.intBits
 by_cases h0:i=0
 ·subst h0;exact Nat.zero_le _
 ·have:=h.log h0
  rw [if_neg (by simpa using h0)]
  trivial
def GB (i j:Int):Prop:=bI fun m n=>Sz m i∧Sz n j∧m+n≤134217728
section
variable {X:Cx}
theorem cy:dA X (binaryOp .Mult) (rI GB fun i j=>.int (i*j)):=z9 fun _ _ _ _ _ _ _ hc q=>by
 obtain ⟨m,n,h1,h2,h3⟩:=hc
 exact mul_int q (PyProof.Rows.mulOk_of_bits h1.bits h2.bits h3)
def CT (_ j:Int):Prop:=j≠0∧Sz 9000 j
theorem Bl:dA X (binaryOp .FloorDiv) (rI CT fun i j=>.int (i.fdiv j)):=z9 fun i j _ _ _ _ _ hc q=>
 floordiv_int hc.1 q (.inl (PyProof.noPylong_of_log2 (hc.2.log hc.1)))
end
theorem c7 {H H':Hp}{D:Addr}{o:HO} (hD:H D=none) (k:aa H H'):aa H (aP H' D o):=fun b u e=>by
 rw [aE (bf e hD)];exact k b u e
theorem ah.nth {E:Addr→Prop}{H:Hp}{vs:List V}{ds:List PyData} (r:ah E H vs ds) (i:Nat) {v:V}{d:PyData} (hv:vs[i]?=some v) (hd:ds[i]?=some d):aI E H v d:=by
 obtain ⟨d',e,h⟩:=r.get hv
 rw [hd] at e
 cases e
 exact h
mutual
theorem aI.narrow {E F:Addr→Prop}{H:Hp} (k:∀a,F a→E a):∀{v:V}{d:PyData},aI E H v d→aI F H v d
 | _,_,.non=>.non
 | _,_,.bl b=>.bl b
 | _,_,.int i=>.int i
 | _,_,.str x=>.str x
 | _,_,.lst h ne r=>.lst h (fun z=>ne (k _ z)) (ah.narrow k r)
 | _,_,.tup h r=>.tup h (ah.narrow k r)
theorem ah.narrow {E F:Addr→Prop}{H:Hp} (k:∀a,F a→E a):∀{vs:List V}{ds:List PyData},ah E H vs ds→ah F H vs ds
 | _,_,.nil=>.nil
 | _,_,.cons h r=>.cons (aI.narrow k h) (ah.narrow k r)
end
abbrev fr (z:Int×Int):HO:=.tup [.int z.1,.int z.2]
abbrev Mt (n1 d1 n2 d2:Int):Int:=n1*d2+n2*d1
abbrev Mw (n1 d1 n2 d2:Int):Int:=n1*d2 - n2*d1
abbrev Me (n1 _ n2 _:Int):Int:=n1*n2
abbrev Mp (n1 _ _ d2:Int):Int:=n1*d2
abbrev Ge (_ d1 _ d2:Int):Int:=d1*d2
abbrev Md (_ d1 n2 _:Int):Int:=d1*n2
def oJ (i j:Int):Int:=if i<j then -1 else if j<i then 1 else 0
inductive IM (vs:List V) (H:Hp) (Q:VK):Prop
 | mk (a b:Addr) (n1 d1 n2 d2:Int) (h0:vs=[.ref a,.ref b]) (h1:H a=some (.tup [.int n1,.int d1])) (h2:H b=some (.tup [.int n2,.int d2])) (h3:Sz 4000 n1) (h4:Sz 4000 d1) (h5:Sz 4000 n2) (h6:Sz 4000 d2) (h7:Q (.int (oJ (n1*d2) (n2*d1))) H)
def Kr:Sp:=fun vs H Q _=>IM  vs H Q
theorem gW {i j:Int} (h1:Sz 4000 i) (h2:Sz 4000 j):GB i j:=⟨4000,4000,h1,h2,by decide⟩
theorem tK {i j:Int} (h1:Sz 4000 i) (h2:Sz 4000 j):Sz 9000 (i*j):=(h1.mul h2).mono (by decide)
theorem Mm {n d:Int} (hd:d≠0) (h:Sz 9000 d):Sz 9000 ((Int.gcd n d:Nat):Int):=h.le (by
 rw [Int.natAbs_natCast]
 exact Nat.le_of_dvd (by trivial) (Int.ofNat_dvd_left.mp (Int.gcd_dvd_right ..)))
structure Fb (b:Nat) (n d:Int):Prop where
 sn:Sz b n
 sd:Sz b d
 pos:1≤d
 co:Int.gcd n d=1
structure Nw (H:Hp) (p:Addr) (o:HO) (H':Hp):Prop where
 fr:H p=none
 sm:aa H H'
 at':H' p=some o
theorem Nw.mk' {H:Hp}{p:Addr}{o:HO} (h:H p=none):Nw H p o (aP H p o):=⟨h,aa.new h,aA⟩
section
variable {X:Cx}{es:List Expr}{t:TA}{pos:Pos}{K:PySem.W.Frag}
def An (t:TA):TE:=fun σ H Q=>t σ H fun xs H1=>xs.length≤10000∧∀p H',Nw H1 p (.tup xs) H'→Q (.ref p) H'
def GJ (t:TA):TE:=fun σ H Q=>t σ H fun xs H1=>xs.length≤10000∧∀p H',Nw H1 p (.lst xs) H'→Q (.ref p) H'
theorem qL {n:Nat} (h:n≤10000):n≤sizeLine:=by rw [sizeLine_eq];trivial
theorem ag {x1} (h:PA X es t):PE X (.Tuple es x1 pos) (An t):=by
 intro pins s σ H Q I hq
 refine wpAny_Tuple_spliced (aR (h pos pins s σ H _ I hq) fun us s1 ⟨xs,H1,I1,r,z',q⟩=>⟨by rw [←r.length];exact qL z',?_⟩)
 have z:=qL z'
 have hf:H1 s1.heap.objs.size=none:=I1.hok.fresh (Nat.le_refl _)
 refine ⟨.ref s1.heap.objs.size,aP H1 s1.heap.objs.size (.tup xs),I1.laid (t':=s1.toks) (fun b u e=>Heap.get?_push_of_some _ e) (Nat.le_refl _) ?_,rfl,q _ _ (.mk' hf)⟩
 exact ⟨z,us,r,⟨_,Heap.get?_push_size _ rfl,rfl,()⟩,_,Heap.get?_push_size _ rfl,rfl⟩
theorem aV (h:PA X es t):PE X (.List es pos) (GJ t):=by
 intro pins s σ H Q I hq
 refine wpAny_List_spliced (aR (h pos pins s σ H _ I hq) fun us s1 ⟨xs,H1,I1,r,z',q⟩=>⟨by rw [←r.length];exact qL z',?_⟩)
 have z:=qL z'
 have hf:H1 s1.heap.objs.size=none:=I1.hok.fresh (Nat.le_refl _)
 refine ⟨.ref s1.heap.objs.size,aP H1 s1.heap.objs.size (.lst xs),I1.laid (t':=s1.toks) (fun b u e=>Heap.get?_push_of_some _ e) (Nat.le_refl _) ?_,rfl,q _ _ (.mk' hf)⟩
 exact ⟨z,us,0,r,Heap.get?_push_size _ rfl⟩
inductive Jf (x:V) (y:V) (H:Hp) (Q:VK):Prop
 | mk (l:_) (b:_) (xs:_) (zs:_) (h0:x=.ref l) (h1:y=.ref b) (h2:H l=some (.lst xs)) (h3:H b=some (.lst zs)) (h4:xs.length+zs.length≤10000) (h5:∀p H',Nw H p (.lst (xs++zs)) H'→Q (.ref p) H')
def KY:R2:=fun x y H Q=>Jf  x y H Q
theorem sZ:dA X (binaryOp .Add) KY:=fun pins s σ H x y v u Q I rx ry ⟨l,b,xs,zs,e1,e2,h1,h2,hz,q⟩=>
 Id pins s σ H x y v u Q I rx ry ⟨l,b,xs,zs,e1,e2,h1,h2,qL hz,fun p hp=>q p _ (.mk' hp)⟩
inductive La (K:PySem.W.Frag) (x:V) (lo:Option Int) (hi:Option Int) (H:Hp) (Q:VK):Prop
 | mk (a:_) (xs:_) (h0:x=.ref a) (h1:ak K H a xs) (h2:∀p H',Nw H p (.lst (k9 xs lo hi)) H'→Q (.ref p) H')
def Mc (K:PySem.W.Frag):V→Option Int→Option Int→Hp→VK→Prop:=fun x lo hi H Q=>La K x lo hi H Q
theorem pZ (e:X.K=K:=by rfl):I0 X (Mc K):=by
 subst e
 exact fun pins s σ H x v vl vu lo hi sl Q I rx hs pl pu ⟨a,xs,e,h,q⟩=>yD pins s σ H x v vl vu lo hi sl Q I rx hs pl pu ⟨a,xs,e,h,fun p hp=>q p _ (.mk' hp)⟩
inductive JO (x:V) (y:V) (H:Hp) (Q:VK):Prop
 | mk (l:_) (k:_) (xs:_) (h0:x=.ref l) (h1:y=.int k) (h2:H l=some (.lst xs)) (h3:-(2 ^ 63)≤k) (h4:k<2 ^ 63) (h5:xs.length*k.toNat≤10000) (h6:∀p H',Nw H p (.lst (List.replicate k.toNat xs).flatten) H'→Q (.ref p) H')
def KF:R2:=fun x y H Q=>JO  x y H Q
theorem B7:dA X (binaryOp .Mult) KF:=fun pins s σ H x y v u Q I rx ry ⟨l,k,xs,e1,e2,h1,h2,h3,hz,q⟩=>
 IY pins s σ H x y v u Q I rx ry ⟨l,k,xs,e1,e2,h1,h2,h3,qL hz,fun p hp=>q p _ (.mk' hp)⟩
inductive GR (K:PySem.W.Frag) (xs:List V) (H:Hp) (Q:VK):Prop
 | mk (p:_) (ys:_) (h0:xs=[.ref p]) (h1:(ak K H p ys∨ar K H p ys)) (h2:∀l H',Nw H l (.lst ys) H'→Q (.ref l) H')
def HV (K:PySem.W.Frag):List V→Hp→VK→Prop:=fun xs H Q=>GR K xs H Q
theorem Ah (e:X.K=K:=by rfl):fk X (.type "list") (HV K):=by
 subst e
 exact fun pins s σ H xs us Q I r ⟨p,ys,e,h,q⟩=>vG pins s σ H xs us Q I r ⟨p,ys,e,h,fun l hl=>q l _ (.mk' hl)⟩
inductive Fx (K:PySem.W.Frag) (xs:List V) (H:Hp) (Q:VK):Prop
 | mk (p:_) (ys:_) (h0:xs=[.ref p]) (h1:ak K H p ys) (h2:∀l H',Nw H l (.tup ys) H'→Q (.ref l) H')
def HR (K:PySem.W.Frag):List V→Hp→VK→Prop:=fun xs H Q=>Fx K xs H Q
theorem fM (e:X.K=K:=by rfl):fk X (.type "tuple") (HR K):=by
 subst e
 exact fun pins s σ H xs us Q I r ⟨p,ys,e,h,q⟩=>Ag pins s σ H xs us Q I r ⟨p,ys,e,.inl ⟨h,fun l hl=>q l _ (.mk' hl)⟩⟩
end
structure Ch (H:Hp) (p:Addr) (xs:List V) (H':Hp):Prop where
 at':H' p=some (.lst xs)
 ol:∀a o,a≠p→H a=some o→H' a=some o
 fre:∀a,a≠p→H a=none→H' a=none
theorem Ch.mk' {H:Hp}{p:Addr}{xs:List V}:Ch H p xs (aP H p (.lst xs)):=⟨aA,fun a o n h=>by rw [aE n];exact h,fun a n h=>by rw [aE n];exact h⟩
theorem Ch.tup {H H':Hp}{p a:Addr}{xs ys zs:List V} (c:Ch H p xs H') (h:H a=some (.tup ys)) (hp:H p=some (.lst zs)):H' a=some (.tup ys):=c.ol a _ (Dm h hp (by intro z;cases z)) h
section
variable {X:Cx}
inductive IG (o:V) (i:V) (v:V) (H:Hp) (Q:(Hp→Prop)):Prop
 | mk (p:_) (xs:_) (k:_) (j:_) (h0:o=.ref p) (h1:i=.int k) (h2:H p=some (.lst xs)) (h3:qI xs.length k=some j) (h4:∀H',Ch H p (xs.set j v) H'→Q H')
def Lc:V→V→V→Hp→(Hp→Prop)→Prop:=fun o i v H Q=>IG  o i v H Q
theorem z0:De X Lc:=fun pins s σ H o i v ov iv u Q I ro ri rv ⟨p,xs,k,j,e1,e2,h,hj,q⟩=>ul pins s σ H o i v ov iv u Q I ro ri rv ⟨p,xs,k,j,e1,e2,h,hj,q _ .mk'⟩
inductive IE (x:V) (vs:List V) (H:Hp) (Q:VK):Prop
 | mk (l:_) (xs:_) (y:_) (h0:x=.ref l) (h1:vs=[y]) (h2:H l=some (.lst xs)) (h3:xs.length≤10000) (h4:∀H',Ch H l (xs++[y]) H'→Q .non H')
def GE:V→List V→Hp→VK→Prop:=fun x vs H Q=>IE  x vs H Q
theorem fD:B0 X "list.append" GE:=fun pins s σ H x vs v us Q I rx rv ⟨l,xs,y,e1,e2,h,hz,q⟩=>zr pins s σ H x vs v us Q I rx rv ⟨l,xs,y,e1,e2,h,(by rw [sizeLine_eq];trivial),q _ .mk'⟩
end
inductive HM (vs:List V) (H:Hp) (Q:VK):Prop
 | mk (n d:Int) (h0:vs=[.int n,.int d]) (h1:d≠0) (h2:Sz 9000 d) (h3:∀p H',Nw H p (fr (KM.low n d)) H'→Q (.ref p) H')
def Ib:Sp:=fun vs H Q _=>HM  vs H Q
inductive Hs (num den:Int→Int→Int→Int→Int) (vs:List V) (H:Hp) (Q:VK):Prop
 | mk (a b:Addr) (n1 d1 n2 d2:Int) (h0:vs=[.ref a,.ref b]) (h1:H a=some (.tup [.int n1,.int d1])) (h2:H b=some (.tup [.int n2,.int d2])) (h3:(Sz 4000 n1∧Sz 4000 d1∧Sz 4000 n2∧Sz 4000 d2∧den n1 d1 n2 d2≠0)) (h4:∀p H',Nw H p (fr (KM.low (num n1 d1 n2 d2) (den n1 d1 n2 d2))) H'→Q (.ref p) H')
def yj (num den:Int→Int→Int→Int→Int):Sp:=fun vs H Q _=>Hs num den vs H Q
theorem Fb.small {b:Nat}{n d:Int} (h1:n.natAbs<2 ^ b) (h2:d.natAbs<2 ^ b) (h3:1≤d) (h4:Int.gcd n d=1):Fb b n d:=⟨h1,h2,h3,h4⟩
theorem Bx.ch {H H':Hp}{b p:Addr}{t:Int}{xs:List V} (h:Bx H b t) (k:Ch H p xs H') (ne:b≠p):Bx H' b t:=by
 obtain ⟨c,x,e,q,q2,q3⟩:=h
 exact ⟨c,x,k.ol b _ ne e,q,q2,q3⟩
theorem Bx.ne {H:Hp}{b p:Addr}{t:Int} (h:Bx H b t) (hp:H p=none):b≠p:=fun z=>by
 obtain ⟨c,x,e,_⟩:=h
 rw [z,hp] at e;cases e
section
variable {X:Cx}{e:Expr}{te:TE}{st:Expr}{ts:TO}{p2 pos:Pos}{K:PySem.W.Frag}
end
theorem Ko {α:Type}{ps:List α}{i:Nat}{p:α} (h:ps[i]?=some p):ps.take (i+1)=ps.take i++[p]:=by rw [List.take_add_one,h];rfl
theorem F8 (p:KM.Fra) (ps:List KM.Fra):KM.sumF (ps++[p])=KM.ladd (KM.sumF ps) p:=by
 unfold KM.sumF
 rw [List.foldl_append]
 rfl
theorem LG:Fb 1 0 1:=Fb.small (by decide) (by decide) (by decide) (by decide)
def S (l:List Nat):Str:=⟨l.toArray⟩
theorem qV {a b:List Nat} (h:S a=S b):a=b:=by
 have:a.toArray=b.toArray:=by injection h
 simpa using this
theorem Du (a b:List Nat):S a++S b=S (a++b):=by
 show (⟨a.toArray++b.toArray⟩:Str)=⟨(a++b).toArray⟩
 simp
theorem Ap (a:List Nat):(S a).length=a.length:=by
 show a.toArray.size=_
 simp
theorem Jd (a:List Nat):(S a).cps.toList=a:=rfl
theorem Fa (k:Nat) (l:List Nat):∀acc:List Nat,(List.replicate k l.toArray).foldl (·++·) acc.toArray=(acc++(List.replicate k l).flatten).toArray:=by
 induction k with
 | zero=>intro acc;simp
 | succ k ih=>
  intro acc
  rw [List.replicate_succ,List.foldl_cons,List.replicate_succ,List.flatten_cons]
  have:acc.toArray++l.toArray=(acc++l).toArray:=by simp
  rw [this,ih,List.append_assoc]
theorem zU:∀ls:List (List Nat),Str.join (S []) (ls.map S)=S ls.flatten
 | []=>rfl
 | [a]=>by
  show S a=S (a++[])
  rw [List.append_nil]
 | a :: b :: r=>by
  have e:Str.join (S []) ((a :: b :: r).map S)=S a++S []++Str.join (S []) ((b :: r).map S):=rfl
  rw [e,zU (b :: r),Du,Du,List.append_nil]
  rfl
section
variable {X:Cx}{K:PySem.W.Frag}
inductive Jz (x:V) (y:V) (H:Hp) (Q:VK):Prop
 | mk (l:_) (n:_) (h0:x=.str (S l)) (h1:y=.int n) (h2:1≤n) (h3:n≤1000) (h4:l.length≤100) (h5:Q (.str (S (List.replicate n.toNat l).flatten)) H)
def Kx:R2:=fun x y H Q=>Jz  x y H Q
theorem Ca:dA X (binaryOp .Mult) Kx:=by
 intro pins s σ H x y v u Q I rx ry h
 obtain ⟨l,n,rfl,rfl,h1,h2,h3,q⟩:=h
 obtain ⟨t,rfl⟩:=rx
 obtain ⟨t',rfl⟩:=ry
 have hlen:(S l).length=l.length:=Ap l
 have hmul:l.length*n.toNat≤100*1000:=Nat.mul_le_mul h3 (by trivial)
 refine PySem.P.mul_str ?_ ?_ ?_ ?_
 ·rw [decide_eq_false (by trivial),decide_eq_false (by trivial)];rfl
 ·intro _ _
  rw [hlen]
  have:(100:Int)<(2 ^ 63 - 1) / n:=by
   have:(100+1)*n≤2 ^ 63 - 1:=by trivial
   have:=(Int.le_ediv_iff_mul_le (by trivial:0<n)).mpr this
   trivial
  trivial
 ·intro _ _
  rw [hlen]
  unfold Builtin.Str.tooLong
  rw [decide_eq_false]
  rw [sizeLine_eq]
  trivial
 ·rw [if_neg (by trivial)]
  by_cases hn:(n==1 || (S l).length==0)=true
  ·rw [if_pos hn]
   refine ⟨.str (S l),H,I,⟨t,rfl⟩,?_⟩
   have e:(List.replicate n.toNat l).flatten=l:=by
    rw [hlen] at hn
    have hn':n=1∨l.length=0:=by simpa using hn
    rcases hn' with rfl | hn'
    ·simp
    ·have:l=[]:=List.eq_nil_of_length_eq_zero hn'
     subst this
     simp
   rw [e] at q
   exact q
  ·rw [if_neg hn]
   have e:(⟨(List.replicate n.toNat (S l).cps).foldl (·++·) #[]⟩:Str)=S (List.replicate n.toNat l).flatten:=by
    have e:=Fa n.toNat l []
    rw [List.nil_append] at e
    exact congrArg Str.mk e
   rw [e]
   refine ⟨?_,.str (S (List.replicate n.toNat l).flatten),H,I.tok _,⟨()⟩,q⟩
   rw [Ap,Cj,sizeLine_eq,Nat.mul_comm]
   trivial
inductive JB (K:PySem.W.Frag) (x:V) (vs:List V) (H:Hp) (Q:VK):Prop
 | mk (a:_) (ls:_) (h0:x=.str (S [])) (h1:vs=[.ref a]) (h2:ak K H a ((ls:List (List Nat)).map fun l=>V.str (S l))) (h3:(ls.map (·.length)).sum≤10000) (h4:Q (.str (S ls.flatten)) H)
def Kj (K:PySem.W.Frag):V→List V→Hp→VK→Prop:=fun x vs H Q=>JB K x vs H Q
theorem DX {ls:List (List Nat)}:∀{us:List Value},aL (ls.map fun l=>V.str (S l)) us→StrsAre us (ls.map S):=by
 induction ls with
 | nil=>intro us h;cases h;exact .nil
 | cons l r ih=>
  intro us h
  cases h with
  | cons h t=>
   obtain ⟨tk,rfl⟩:=h
   exact .cons _ _ (ih t)
theorem G9 (ek:X.K=K:=by rfl):GK X "str.join" (Kj K):=by
 subst ek
 intro pins s σ H x vs v us Q I rx rv h
 obtain ⟨a,ls,rfl,rfl,hS,hz,q⟩:=h
 obtain ⟨t,rfl⟩:=rx
 obtain ⟨u,rfl,ru⟩:=rv.one
 obtain rfl:u=Value.ref a:=ru
 obtain ⟨its,r,ht,_⟩:=I.list hS
 have e1:((ls.map S).map (·.length)).sum=(ls.map (·.length)).sum:=by
  rw [List.map_map]
  congr 1
 refine join_list (ys:=ls.map S) ht.isList (by simpa using DX r) ?_ fun t' k=>?_
 ·rw [e1,show (S []).length=0 from rfl]
  trivial
 ·have:=join_plain_closes (S []) (ls.map S)
  rw [eq_of_beq this,zU]
  exact ⟨.str (S ls.flatten),H,I.tok k,⟨()⟩,q⟩
inductive JH (x:V) (y:V) (H:Hp) (Q:VK):Prop
 | mk (a:_) (b:_) (h0:x=.str (S a)) (h1:y=.str (S b)) (h2:a.length+b.length≤10000) (h3:Q (.str (S (a++b))) H)
def KI:R2:=fun x y H Q=>JH  x y H Q
theorem Cp:dA X (binaryOp .Add) KI:=fun pins s σ H x y v u Q I rx ry ⟨a,b,e1,e2,hz,q⟩=>
 Db pins s σ H x y v u Q I rx ry ⟨S a,S b,e1,e2,by rw [Ap,Ap];exact qL hz,by rw [Du];exact q⟩
end
theorem Dg:Str.ofString "abcdefghijklmnopqrstuvwxyz" = S ((List.range 26).map (97+·)):=by nofun
theorem FR:Str.ofString "" = S []:=by nofun
theorem zj {i:Int} (h0:-26≤i) (h1:i<26):lL ((Str.ofString "abcdefghijklmnopqrstuvwxyz").cps.toList) i=some (97+(i % 26).toNat):=by
 rw [Dg,Jd]
 have:∀k:Fin 52,lL ((List.range 26).map (97+·)) ((k.val:Int) - 26)=some (97+(((k.val:Int) - 26) % 26).toNat):=by nofun
 have e:=this ⟨(i+26).toNat,by trivial⟩
 simp only at e
 rw [show (((i+26).toNat:Nat):Int) - 26=i by trivial] at e
 exact e
theorem IR {f:Int}{j k:Nat} (hj:j<26) (hk:k<26) (h:(f+11*(j:Int)) % 26=(f+11*(k:Int)) % 26):j=k:=by trivial
structure CY (l:List Nat):Prop where
 lo:1≤l.length
 hi:l.length≤8
 az:∀c∈l,97≤c∧c≤122
abbrev aG (l:List Nat):V:=.str (S l)
def nm (c k:Nat):List Nat:=List.replicate (1+k) c
theorem FB (n c:Nat):(List.replicate n [c]).flatten=List.replicate n c:=by
 induction n with
 | zero=>rfl
 | succ n ih=>rw [List.replicate_succ,List.flatten_cons,ih,List.replicate_succ];rfl
theorem Kk {c k:Nat} (hk:k<8) (h1:97≤c) (h2:c≤122):CY (nm c k):=⟨by simp [nm],by simp [nm];trivial,fun d hd=>by
 have:=List.eq_of_mem_replicate hd
 trivial⟩
theorem E4 {xs:List V}{m:Int} (h:0≤m):k9 xs none (some m)=xs.take m.toNat:=by
 unfold k9
 have e:m=((m.toNat:Nat):Int):=by trivial
 rw [HT.sIx_none,e,HT.sIx_nat]
 simp only [Int.toNat_natCast,List.drop_zero,Nat.sub_zero]
 by_cases hm:m.toNat≤xs.length
 ·rw [Nat.min_eq_left hm]
 ·rw [Nat.min_eq_right (by trivial),List.take_of_length_le (Nat.le_refl _),List.take_of_length_le (by trivial)]
theorem BH {ls:List (List Nat)}{f:Int} (hl:ls.length≤26) (h:∀(j:Nat) (l:List Nat),ls[j]?=some l→l.head?=some (97+((f+11*(j:Int)) % 26).toNat)):ls.Nodup:=by
 rw [List.nodup_iff_pairwise_ne,List.pairwise_iff_getElem]
 intro i j hi hj hij e
 have h1:=h i ls[i] (List.getElem?_eq_getElem hi)
 have h2:=h j ls[j] (List.getElem?_eq_getElem hj)
 rw [e,h2] at h1
 injection h1 with h1
 have a1:=Int.emod_nonneg (f+11*(i:Int)) (by decide:(26:Int)≠0)
 have a2:=Int.emod_nonneg (f+11*(j:Int)) (by decide:(26:Int)≠0)
 have:=IR (f:=f) (j:=i) (k:=j) (by trivial) (by trivial) (by trivial)
 trivial
theorem bV.up {b D:Addr}{H H1:Hp}{o:HO} (s:bV (Eb b) H H1) (hD:H D=none):bV (Eb b) H (aP H1 D o):=
 ⟨fun a u ne h=>by rw [aE (bf h hD)];exact s.old a u ne h,fun a us h=>by rw [aE (bf h hD)];exact s.tup a us h⟩
def Dx (x:Str):Prop:=x.length≤300∧∀c∈x.cps.toList,c<128
mutual
inductive Wt:PyData→Nat→Nat→Prop
 | non {k:Nat}:Wt .none 1 k
 | bl (b:Bool) {k:Nat}:Wt (.bool b) 1 k
 | int {i:Int} (h:Sz 1900 i) {k:Nat}:Wt (.int i) 1 k
 | str {x:Str} (h:Dx x) {k:Nat}:Wt (.str x) 1 k
 | list {xs:List PyData}{n k:Nat} (h:kS xs n k):Wt (.list xs) (n+1) (k+1)
 | tuple {xs:List PyData}{n k:Nat} (h:kS xs n k):Wt (.tuple xs) (n+1) (k+1)
inductive kS:List PyData→Nat→Nat→Prop
 | nil {k:Nat}:kS [] 0 k
 | cons {x:PyData}{xs:List PyData}{m n k:Nat} (h:Wt x m k) (r:kS xs n k):kS (x :: xs) (m+n) k
end
mutual
theorem Wt.dep:∀{d:PyData}{n k:Nat},Wt d n k→d.depth≤k
 | _,_,_,.non=>by simp [PyData.depth]
 | _,_,_,.bl b=>by simp [PyData.depth]
 | _,_,_,.int h=>by simp [PyData.depth]
 | _,_,_,.str h=>by simp [PyData.depth]
 | _,_,_,.list h=>by simp only [PyData.depth];exact Nat.succ_le_succ (kS.dep h)
 | _,_,_,.tuple h=>by simp only [PyData.depth];exact Nat.succ_le_succ (kS.dep h)
theorem kS.dep:∀{ds:List PyData}{n k:Nat},kS ds n k→PyData.depthAll ds≤k
 | _,_,_,.nil=>by simp [PyData.depthAll]
 | _,_,_,.cons h r=>by simp only [PyData.depthAll];exact Nat.max_le.mpr ⟨Wt.dep h,kS.dep r⟩
end
end L2
namespace L2
open PySem PySem.Spec PyProof.Rows
mutual
theorem Wt.can:∀{d:PyData}{n k:Nat},Wt d n k→d.canLay0=true
 | _,_,_,.non=>by simp [PyData.canLay0]
 | _,_,_,.bl b=>by simp [PyData.canLay0]
 | _,_,_,.int h=>by simp [PyData.canLay0]
 | _,_,_,.str (x:=x) h=>by
  simp only [PyData.canLay0]
  unfold PySem.PyData.strOk
  rw [Array.all_eq_true]
  intro i hi
  have:=h.2 x.cps[i] (by simp)
  simp
  trivial
 | _,_,_,.list h=>by simp only [PyData.canLay0];exact kS.can h
 | _,_,_,.tuple h=>by simp only [PyData.canLay0];exact kS.can h
theorem kS.can:∀{ds:List PyData}{n k:Nat},kS ds n k→PyData.canLayAll0 ds=true
 | _,_,_,.nil=>by simp [PyData.canLayAll0]
 | _,_,_,.cons h r=>by simp only [PyData.canLayAll0,Bool.and_eq_true];exact ⟨Wt.can h,kS.can r⟩
end
section
variable {X:Cx}
inductive KS (ne:Bool) (x:V) (y:V) (H:Hp) (Q:VK):Prop
 | mk (d e:PyData) (E F:Addr→Prop) (m n k l:Nat) (h0:aI E H x d) (h1:aI F H y e) (h2:Wt d m k) (h3:Wt e n l) (h4:k≤60) (h5:Q (.bl (if ne then !PyData.eqv d e else PyData.eqv d e)) H)
def Iw (ne:Bool):R2:=fun x y H Q=>KS ne x y H Q
theorem sT (hu:X.A.units+64<cLine):dA X (compareOp .Eq) (Iw false):=by
 intro pins s σ H x y v u Q I rx ry h
 obtain ⟨d,e,E,F,m,n,k,l,hd,he,wd,we,hk,q⟩:=h
 obtain ⟨as,ra⟩:=hd.reads I.hok rx
 obtain ⟨bs,rb⟩:=he.reads I.hok ry
 exact PySem.SeqAt.compareEq_reads ra rb wd.can we.can (by have:=wd.dep;trivial) ⟨.bl _,H,I,rfl,q⟩
theorem vF (hu:X.A.units+64<cLine):dA X (compareOp .NotEq) (Iw true):=by
 intro pins s σ H x y v u Q I rx ry h
 obtain ⟨d,e,E,F,m,n,k,l,hd,he,wd,we,hk,q⟩:=h
 obtain ⟨as,ra⟩:=hd.reads I.hok rx
 obtain ⟨bs,rb⟩:=he.reads I.hok ry
 exact PySem.SeqAt.compareNe_reads ra rb wd.can we.can (by have:=wd.dep;trivial) ⟨.bl _,H,I,rfl,q⟩
end
abbrev ED:Addr→Prop:=fun _=>True
abbrev aN (p:KM.Fra):PyData:=.tuple [.int p.1,.int p.2]
structure ap where
 bg:List Nat
 en:List Nat
 most:KM.Fra
 gain:KM.Fra
 price:KM.Fra
abbrev jx (t:ap):PyData:=.tuple [.str (S t.bg),.str (S t.en),aN t.most,aN t.gain,aN t.price]
abbrev iV (ls:List (List Nat)) (ts:List ap):PyData:=.tuple [.tuple (ls.map fun l=>.str (S l)),.tuple (ts.map jx)]
theorem cB {H:Hp}{o:Addr}{p:KM.Fra} (h:H o=some (.tup [.int p.1,.int p.2])):aI ED H (.ref o) (aN p):=.tup h (.cons (.int _) (.cons (.int _) .nil))
theorem cm {E:Addr→Prop}{H:Hp}{v:V}{p:KM.Fra} (h:aI E H v (aN p)):∃o,v=.ref o∧H o=some (.tup [.int p.1,.int p.2]):=by
 cases h with
 | @tup a xs _ h r=>
  cases r with
  | cons h1 r=>
  cases r with
  | cons h2 r=>
  cases r
  cases h1
  cases h2
  exact ⟨a,rfl,h⟩
theorem aI.tupC {H H':Hp}{v:V}{d:PyData}{p:Addr}{xs ys:List V} (h:aI ED H v d) (k:Ch H p xs H') (hp:H p=some (.lst ys)):aI ED H' v d:=h.mono ⟨fun _ _ n _=>absurd trivial n,fun _ _ e=>k.tup e hp⟩
theorem aI.sm {E:Addr→Prop}{H H':Hp}{v:V}{d:PyData} (h:aI E H v d) (k:aa H H'):aI E H' v d:=h.mono k.toE
theorem Kc {p:KM.Fra}{b:Nat} (h:Fb b p.1 p.2) (hb:b≤1900):Wt (aN p) 3 1:=.tuple (.cons (.int (h.sn.mono hb)) (.cons (.int (h.sd.mono hb)) .nil))
end L2
namespace L2
open PySem PySem.Spec PyProof.Rows
end L2
namespace L2
theorem zI {α:Type}{ls:List α} (h:ls.Nodup) {i j:Nat} (hi:i<ls.length) (hj:j<ls.length) (e:ls[i]=ls[j]):i=j:=by
 have p:=List.pairwise_iff_getElem.mp h
 rcases Nat.lt_trichotomy i j with q | q | q
 ·exact absurd e (p i j hi hj q)
 ·exact q
 ·exact absurd e.symm (p j i hj hi q)
end L2
namespace L2
open PySem PySem.Spec PyProof.Rows
end L2
namespace L2
end L2
namespace L2
open PySem PySem.Spec PyProof.Rows
theorem ah.take {E:Addr→Prop}{H:Hp}:∀{xs:List V}{ds:List PyData} (n:Nat),ah E H xs ds→ah E H (xs.take n) (ds.take n)
 | _,_,0,_=>by simp;exact .nil
 | _,_,_+1,.nil=>by simp;exact .nil
 | _,_,n+1,.cons h r=>by simp;exact .cons h (ah.take n r)
end L2
namespace L2
open PySem PySem.Spec PyProof.Rows
open AutoSeq1 (wpAny_loadPart')
set_option maxHeartbeats 4000000 in
theorem Ga (l:Addr) (its:Array Value) (n:Nat) (dct:Option Addr) (sl:Array (Option Value)) :
 Meets (Builtin.«enumerate.__new__» ⟨[.type "enumerate",.ref l],[]⟩) (fun _ R s=>s.heap.get? l=some { cls:=.type "tuple",dict:=dct,data:=.seq its n,slots:=sl }∧
  R (.ok (.ret (.ref (s.heap.push { cls:=.type "tuple_iterator",data:=.fields #[.ref l,.int 0 0] }).objs.size))) { s with heap:=(s.heap.push { cls:=.type "tuple_iterator",data:=.fields #[.ref l,.int 0 0] }).push { cls:=.type "enumerate",data:=.fields #[.none,.bool false,.ref s.heap.objs.size,rawInt 0,.none,.none] } }):=
 .of_wp fun prog w A R s h=>by
  obtain ⟨hp,g,d,tk,os⟩:=s;obtain ⟨hl,h⟩:=h;have hsub:=sub_enumerate
  have hT:Heap.IsTuple (Shared.heap ⟨hp,g,d,tk,os⟩) l its:=⟨_,hl,rfl,n,rfl⟩
  wp_walk using wpAny_loadPart' hl
  refine wpAny_stack_any fun st=>wpAny_pure ?_;split
  ·rename_i c _ _ _ _ _;cases (c==Value.type "enumerate")
   ·wp_walk using wpAny_loadPart' hl,wpAny_pyIter_tuple hT
    exact ⟨(),h⟩
   ·wp_walk using wpAny_loadPart' hl,wpAny_pyIter_tuple hT
    exact ⟨(),h⟩
  ·wp_walk using wpAny_loadPart' hl,wpAny_pyIter_tuple hT
   exact ⟨(),h⟩
section
variable {prog:Program}{w:World}{A:Around}{E:Value→Shared→Prop}{s:Shared}
theorem CS {l:Addr}{its:Array Value}{Q:Value→Shared→Prop}:∀{c:Bool},jG s.heap l its c→
 (∀h',IsEnum h' (s.heap.objs.size+1) s.heap.objs.size 0 .none→gH h' s.heap.objs.size l 0 c→(∀b o,s.heap.get? b=some o→h'.get? b=some o)→Q (.ref (s.heap.objs.size+1)) { s with heap:=h' })→
 wpAny (model prog w) A (call (.type "enumerate") [.ref l]) Q E s
 | true,q,h=>call_enumerate_list q fun h' a b _ k=>h h' a b k
 | false,q,h=>by
  obtain ⟨⟨c,dct,dt,sl⟩,hl,hc,n,hd⟩:=q
  dsimp only at hc hd
  subst hc hd
  refine callType_new F.called_enumerate (by decide) (F.typeCall_enumerate_1 _) (F.newCall_enumerate_1 _) (fun obj=>F.args_object_init_2 obj _) F.entry_enumerate_new (Ga l its n dct sl) ⟨hl,?_⟩
  have hz:(s.heap.push { cls:=.type "tuple_iterator",data:=.fields #[.ref l,.int 0 0] }).objs.size=s.heap.objs.size+1:=Heap.size_push ..
  show _∧_
  rw [hz]
  have he:IsEnum ((s.heap.push { cls:=.type "tuple_iterator",data:=.fields #[.ref l,.int 0 0] }).push { cls:=.type "enumerate",data:=.fields #[.none,.bool false,.ref s.heap.objs.size,rawInt 0,.none,.none] }) (s.heap.objs.size+1) s.heap.objs.size 0 .none:=by
   rw [←hz];exact Heap.get?_push_size _ rfl
  exact ⟨⟨_,he,rfl⟩,h _ he ⟨_,Heap.get?_push_of_some _ (Heap.get?_push_size _ rfl),rfl,rfl⟩ fun b o e=>Heap.get?_push_of_some _ (Heap.get?_push_of_some _ e)⟩
end
def AY (K:PySem.W.Frag) (a:Addr) (c:Bool):It:=
 ⟨fun i H=>bI fun xs x=>o9 K H a xs c∧xs[i]?=some x,fun i H v H'=>bI fun T x=>H T=none∧v=.ref T∧H'=aP H T (.tup [.int (i:Int),x])∧∀xs,o9 K H a xs c→xs[i]?=some x,fun i H=>∃xs,o9 K H a xs c∧xs.length=i⟩
theorem CO {P:Program}{w:World}{K:PySem.W.Frag}{es:List Expr}{kk:Nat}{pos:Pos} (a e it:Addr) (c:Bool) (hne:e≠it) (hae:a≠e) (hai:a≠it) :
 wZ P w K (.Tuple es kk pos) (AY K a c) [e,it] e (fun i h=>(∃old,IsEnum h e it i old)∧gH h it a i c) where
 mem:=by simp
 obj:=fun i h st b hb=>by
  obtain ⟨⟨old,he⟩,hi⟩:=st
  have hb':b=e∨b=it:=by simpa using hb
  rcases hb' with rfl | rfl
  ·exact ⟨_,he,fun v z=>by have z':Data.fields _=Data.cell v:=z;cases z'⟩
  ·exact hi.some
 keep:=fun i h h' st k=>by
  obtain ⟨⟨old,he⟩,hi⟩:=st
  exact ⟨⟨old,k e (by simp) _ he⟩,hi.at fun o q=>k it (by simp) o q⟩
 item:=by
  intro X hP hw hK hc i pins s σ H E I hf st hg
  subst hP hw hK
  obtain ⟨⟨old,he⟩,hit⟩:=st
  obtain ⟨xs,x,hq,hx⟩:=hg
  obtain ⟨its,rv,p⟩:=I.seqC hq
  obtain ⟨u,hu,ru⟩:=rv.get hx
  have hnT:H s.heap.objs.size=none:=I.fresh
  have hiu:i<its.length:=(List.getElem?_eq_some_iff.mp hu).1
  have D:=su (prog:=X.prog) (w:=X.w) (A:=X.A.in1) (I.ok.hd hc) it a hai its.toArray c
  refine wpAny_pyNext_enum_itemD D he ⟨hit,p⟩ (by simpa using hiu) hne (by simp;exact ⟨hne,Ne.symm hae⟩) fun u' h' tk hP ho st' hT hsz hk=>?_
  have eu:u=u':=by
   have:its.toArray[i]?=some u':=hP
   rw [List.getElem?_toArray,hu] at this
   exact Option.some.inj this
  subst eu
  refine ⟨(),wpAny_letOwnedTupleGo_enum (s:={ s with heap:=h',toks:=tk+1 }) ho fun h'' he'' hs''=>?_⟩
  have helt:e<s.heap.objs.size:=Heap.lt_size he
  have hilt:it<s.heap.objs.size:=let ⟨_,y,_⟩:=hit.some;Heap.lt_size y
  have hT'':h''.get? s.heap.objs.size=some { cls:=.type "tuple",data:=.seq #[.int i tk,u] }:=(hs''.2 _ (Nat.ne_of_gt helt)).trans hT
  refine ⟨.ref s.heap.objs.size,aP H s.heap.objs.size (.tup [.int (i:Int),x]),I.turnedNew (ch:=[e,it]) (t':=tk+1) hf (fun b o hb q=>?_) (Nat.le_refl _) ?_,rfl,⟨_,x,hnT,rfl,rfl,fun ys hy=>by rw [I.seqC_inj hy hq];exact hx⟩,⟨⟨u,?_⟩,st'.1.at fun o q=>(hs''.2 _ (Ne.symm hne)).trans q⟩,fun b hb=>?_⟩
  ·have h1:b≠e:=fun z=>hb (by simp [z])
   have h2:b≠it:=fun z=>hb (by simp [z])
   exact (hs''.2 b h1).trans (hk b o h1 h2 q)
  ·exact ⟨by show 2≤sizeLine;decide,[.int i tk,u],.cons ⟨()⟩ (.cons ru .nil),⟨_,hT'',rfl,()⟩,_,hT'',rfl⟩
  ·simpa using he''
  ·have hb':b=e∨b=it:=by simpa using hb
   have hlt:b<s.heap.objs.size:=by rcases hb' with rfl | rfl <;> assumption
   rw [aE (Nat.ne_of_lt hlt)]
   exact (hf b hb).1
 done:=by
  intro X hP hw hK hc i pins s σ H E I hf st hg
  subst hP hw hK
  obtain ⟨⟨old,he⟩,hit⟩:=st
  obtain ⟨xs,hq,hx⟩:=hg
  obtain ⟨its,rv,p⟩:=I.seqC hq
  have hl:=rv.length
  have D:=su (prog:=X.prog) (w:=X.w) (A:=X.A.in1) (I.ok.hd hc) it a hai its.toArray c
  have ei:i=its.toArray.size:=by simp;trivial
  refine wpAny_pyNext_enum_endD D he (by rw [ei] at hit;exact ⟨hit,p⟩) fun h' eb=>⟨rfl,I.turnedL (ch:=[e,it]) (t':=s.toks) hf fun b o hb q=>eb b o (fun z=>hb (by simp [z])) q⟩
 self:=fun _ _ _ _ _ st h=>by
  obtain ⟨⟨old,he⟩,_⟩:=st
  exact wpAny_pyIter_enum he h
def Jm (K:PySem.W.Frag) (ta:TA):TI:=fun σ H R=>ta σ H fun vs H1=>bI fun a c=>vs=[.ref a]∧(∃xs,o9 K H1 a xs c)∧R (AY K a c) H1
theorem um {X:Cx}{K:PySem.W.Frag}{es:List Expr}{kk:Nat}{tp:Pos}{a:Expr}{ta:TA}{p pos:Pos} (hg:Gl X "enumerate") (hm:X.mg "enumerate" = none) (ha:PA X [a] ta) (hs:starEach [a] X.env=[(false,eval a X.env)]:=by rfl) (ek:X.K=K:=by rfl) :
 PI X (.Tuple es kk tp) (.Call (.Name "enumerate" p) [a] [] pos) (Jm K ta):=by
 subst ek
 intro pins s σ H R I h
 refine Call_ (ml I hg hm boot_enumerate (PyProof.Rows.callWith_type1 (aR (ha pos pins s σ H _ I h) fun us s1 ⟨vs,H1,I1,r1,q1⟩=>?_) hs rfl))
 obtain ⟨a,c,rfl,⟨xs,hq⟩,q⟩:=q1
 obtain ⟨u,rfl,ru⟩:=r1.one
 obtain rfl:u=.ref a:=ru
 obtain ⟨its,rv,p⟩:=I1.seqC hq
 have d1:=p.lt
 refine CS p fun h' hE hI hk=>wpAny_pyIter_enum hE ?_
 have I2:ai X pins σ H1 { s1 with heap:=h',toks:=s1.toks }:=I1.kept hk
 refine ⟨s1.heap.objs.size+1,[s1.heap.objs.size+1,s1.heap.objs.size],_,_,H1,rfl,I2,CO a (s1.heap.objs.size+1) s1.heap.objs.size c (Nat.succ_ne_self _) (Nat.ne_of_lt (Nat.lt_succ_of_lt d1)) (Nat.ne_of_lt d1),⟨⟨_,hE⟩,hI⟩,fun b hb=>?_,q⟩
 have hb':b=s1.heap.objs.size+1∨b=s1.heap.objs.size:=by simpa using hb
 have hle:s1.heap.objs.size≤b:=by rcases hb' with rfl | rfl <;> trivial
 exact I1.fpOk hle (I1.hok.fresh hle)
section
variable {X:Cx}
end
end L2
namespace L2
open PySem PySem.Spec PyProof.Rows
end L2
namespace L2
open PySem PySem.Spec PyProof.Rows
theorem ah.drop {E:Addr→Prop}{H:Hp}:∀{xs:List V}{ds:List PyData} (n:Nat),ah E H xs ds→ah E H (xs.drop n) (ds.drop n)
 | _,_,0,h=>by simpa using h
 | _,_,_+1,.nil=>by simp;exact .nil
 | _,_,n+1,.cons h r=>by simp;exact ah.drop n r
theorem ah.set {E:Addr→Prop}{H:Hp}{y:V}{d:PyData} (hy:aI E H y d):∀{xs:List V}{ds:List PyData} (i:Nat),ah E H xs ds→ah E H (xs.set i y) (ds.set i d)
 | _,_,_,.nil=>by simp;exact .nil
 | _,_,0,.cons h r=>by simp;exact .cons hy r
 | _,_,i+1,.cons h r=>by simp;exact .cons h (ah.set hy i r)
section
variable {z:Nat}{E:Addr→Prop}{H H':Hp}{n m k:Nat}{v:V}{xs ys:List V}
theorem uh:k9 xs (some 1) none=xs.drop 1:=by
 unfold k9
 rw [HT.sIx_none,show (1:Int)=((1:Nat):Int) from rfl,HT.sIx_nat]
 cases xs with
 | nil=>simp
 | cons x r=>simp
end
mutual
theorem aI.plus {E:Addr→Prop}{H:Hp}{D:Addr} (hD:H D=none):∀{v:V}{d:PyData},aI E H v d→aI (fun a=>E a∨a=D) H v d
 | _,_,.non=>.non
 | _,_,.bl b=>.bl b
 | _,_,.int i=>.int i
 | _,_,.str x=>.str x
 | _,_,.lst h ne r=>.lst h (fun z=>z.elim ne fun e=>by rw [e,hD] at h;cases h) (ah.plus hD r)
 | _,_,.tup h r=>.tup h (ah.plus hD r)
theorem ah.plus {E:Addr→Prop}{H:Hp}{D:Addr} (hD:H D=none):∀{vs:List V}{ds:List PyData},ah E H vs ds→ah (fun a=>E a∨a=D) H vs ds
 | _,_,.nil=>.nil
 | _,_,.cons h r=>.cons (aI.plus hD h) (ah.plus hD r)
end
section
variable {X:Cx}
end
end L2
namespace HT
open PySem PySem.Spec PyProof.Rows
section
variable {prog:Program}{w:World}{A:Around}{E:Value→Shared→Prop}{s:Shared}
end
end HT
namespace L2
open PySem PySem.Spec PyProof.Rows
section
variable {X:Cx}{K:PySem.W.Frag}
end
theorem yZ {α:Type}{p:List α→Prop} (h0:p []) (h1:∀l a,p l→p (l++[a])) (l:List α):p l:=by
 have:∀r:List α,p r.reverse:=fun r=>by
  induction r with
  | nil=>exact h0
  | cons a r ih=>rw [List.reverse_cons];exact h1 _ _ ih
 have h:=this l.reverse
 rwa [List.reverse_reverse] at h
def kB (ks:List aY):List aY:=ks.foldl (fun σ k=>if σ.any (fun x=>decide (x=k)) then σ else σ++[k]) []
theorem oi (ks:List aY) (k:aY):kB (ks++[k])=if (kB ks).any (fun x=>decide (x=k)) then kB ks else kB ks++[k]:=by
 unfold kB
 rw [List.foldl_append]
 rfl
theorem xf:∀(ks:List aY),(kB ks).length≤ks.length:=by
 intro ks
 induction ks using yZ with
 | h0=>exact Nat.le_refl _
 | h1 ks k ih=>
  rw [oi,List.length_append]
  split
  ·simp;trivial
  ·rw [List.length_append];simp;trivial
theorem AV (ks:List aY):∀j,j∈kB ks↔j∈ks:=by
 induction ks using yZ with
 | h0=>exact fun j=>Iff.rfl
 | h1 ks k ih=>
  intro j
  rw [oi,List.mem_append,List.mem_singleton]
  split
  ·rename_i h
   rw [ih]
   constructor
   ·exact .inl
   ·rintro (z | z)
    ·exact z
    ·obtain ⟨x,hx,e⟩:=List.any_eq_true.mp h
     rw [z,←ih,←of_decide_eq_true e];exact hx
  ·rw [List.mem_append,List.mem_singleton,ih]
theorem Ds (ks:List aY):(kB ks).length=ks.length↔ks.Nodup:=by
 induction ks using yZ with
 | h0=>exact ⟨fun _=>List.nodup_nil,fun _=>rfl⟩
 | h1 ks k ih=>
  rw [oi,List.length_append,List.nodup_append]
  have ol:=xf ks
  by_cases h:(kB ks).any (fun x=>decide (x=k))=true
  ·rw [if_pos h]
   obtain ⟨x,hx,e⟩:=List.any_eq_true.mp h
   have hk:k∈ks:=by rw [←of_decide_eq_true e];exact (AV ks x).mp hx
   constructor
   ·intro z;simp at z;trivial
   ·intro z;exact absurd rfl (z.2.2 k hk k (by simp))
  ·rw [if_neg h,List.length_append]
   have hk:k∉ks:=fun z=>h (List.any_eq_true.mpr ⟨k,(AV ks k).mpr z,by simp⟩)
   constructor
   ·intro z
    refine ⟨ih.mp (by simpa using z),by simp,fun a ha b hb e=>?_⟩
    rw [List.mem_singleton] at hb
    rw [←hb,←e] at hk
    exact hk ha
   ·intro z
    rw [ih.mpr z.1]
def gk:aY→V
 | .inl i=>.int i
 | .inr x=>.str x
theorem CD {k:aY}{u:Value} (h:be (gk k) u):kj k u=true∧u.scannable=true:=by
 cases k with
 | inl i=>obtain ⟨t,rfl⟩:=h;exact ⟨zG i t,rfl⟩
 | inr x=>obtain ⟨t,rfl⟩:=h;exact ⟨Fi x t,rfl⟩
section
variable {prog:Program}{w:World}{A:Around}{R:Result→Shared→Prop}{it:Addr}{fp wr:List Addr}{G:Array GenState→Array GenState→Prop}{P:Nat→Value→Prop}{St:Nat→Shared→Prop}
abbrev jg (prog:Program) (w:World) (h:Heap) (a:Addr) (ks:List aY):Prop:=h.SetOf (cK prog w) a (fun j=>(kB ks).any (fun x=>decide (x=j))) (kB ks).length
theorem xS {h h':Heap}{a:Addr}{ks:List aY} (H:jg prog w h a ks) (k:∀o,h.get? a=some o→h'.get? a=some o):jg prog w h' a ks:=
 let ⟨o,es,ep,t,ho,r⟩:=H
 ⟨o,es,ep,t,k o ho,r⟩
theorem GQ {h:Heap}{a:Addr}{f g:aY→Bool}{n m:Nat} (H:h.SetOf (cK prog w) a f n) (e:∀k,f k=g k) (en:n=m):h.SetOf (cK prog w) a g m:=by
 cases en
 cases (funext e:f=g)
 exact H
theorem AO {ks:List aY} (W:WalksS prog w A.in1 it fp wr G ks.length P St) {a:Addr} (ha:a∉fp) (hv:∀i v,P i v→∀k,ks[i]?=some k→kj k v=true∧v.scannable=true) (hb:ks.length+1<scanBound) :
 ∀(r i:Nat) (s:Shared),ks.length - i=r→i≤ks.length→St i s→jg prog w s.heap a (ks.take i)→
   (∀s',Moved (a :: wr) G s s'→jg prog w s'.heap a ks→R (.ok (.ret .none)) s')→codeAny (model prog w) A (.builtin "set.update.loop" ⟨[.ref a,.ref it],[]⟩) R s:=by
 have nw:a∉wr:=fun z=>ha (W.sub _ z)
 have up:∀b∈wr,b∈a :: wr:=fun b z=>List.mem_cons_of_mem _ z
 intro r
 induction r with
 | zero=>
  intro i s hr hi st hS hR
  have e:i=ks.length:=by trivial
  rw [e] at st hS
  rw [List.take_length] at hS
  refine codeAny_builtin F.entry_set_update_loop ?_
  rw [A.under_plainId F.plain_set_update_loop]
  show wpAny _ _ (pyNext (Value.ref it) >>= _) _ _ _
  refine wpAny_bind (W.done s _ _ st fun s' m=>?_)
  show wpAny _ _ (ret .none) _ _ _
  exact wpAny_pure (hR s' (m.mono up) (xS hS fun o ho=>m.heap a o nw ho))
 | succ r ih=>
  intro i s hr hi st hS hR
  have lt:i<ks.length:=by trivial
  refine codeAny_builtin F.entry_set_update_loop ?_
  rw [A.under_plainId F.plain_set_update_loop]
  show wpAny _ _ (pyNext (Value.ref it) >>= _) _ _ _
  refine wpAny_bind (W.item i s _ _ lt st fun v s' pv st' m=>?_)
  obtain ⟨kv,sv⟩:=hv i v pv ks[i] (List.getElem?_eq_getElem lt)
  have hS':jg prog w s'.heap a (ks.take i):=xS hS fun o ho=>m.heap a o nw ho
  have l1:(kB (ks.take i)).length+1<scanBound:=by
   have:=xf (ks.take i)
   rw [List.length_take] at this
   trivial
  show wpAny _ _ (holding [v] (setAdd a v) >>= _) _ _ _
  refine wpAny_bind (wpAny_holding ?_)
  unfold setAdd
  refine wpAny_holding (wpAny_bind ((cK prog w).pyHash (k:=ks[i]) kv (wpAny_setAddHashed_of (knd:=cK prog w) (s:={ s' with toks:=s'.toks+1 }) kv sv hS' l1 fun h2 sb hS2=>?_)))
  have nx:jg prog w h2 a (ks.take (i+1)):=by
   rw [List.take_succ_eq_append_getElem lt]
   refine GQ hS2 (fun j=>?_) ?_
   ·rw [oi]
    split
    ·rename_i z
     by_cases q:j=ks[i]
     ·subst q;rw [z];rfl
     ·rw [decide_eq_false q,Bool.or_false]
    ·rw [List.any_append]
     congr 1
     rw [List.any_cons,List.any_nil,Bool.or_false]
     by_cases q:j=ks[i]
     ·rw [decide_eq_true q,decide_eq_true q.symm]
     ·rw [decide_eq_false q,decide_eq_false (Ne.symm q)]
   ·rw [oi]
    split
    ·rfl
    ·rw [List.length_append];rfl
  refine wpAny_pure ⟨plainId_quiet F.plain_set_update_loop _,ih (i+1) _ (by trivial) lt (W.frame _ s' _ _ st' (Nat.le_succ _) fun b z o e=>?_) nx fun s2 m2 hS3=>?_⟩
  ·rw [sb.2 b (fun q=>ha (q▸z))];exact e
  ·refine hR s2 (.trans W.gtrans ((m.mono up).then_heap (Nat.le_succ _) fun b o z e=>?_) m2) hS3
   rw [sb.2 b (fun q=>z (q▸List.mem_cons_self))];exact e
end
theorem BR:isSubtype (.type "tuple") (.type "set")=pure false:=by
 rw [isSubtype_type]
 kernel_rfl
theorem AN:isSubtype (.type "tuple") (.type "frozenset")=pure false:=by
 rw [isSubtype_type]
 kernel_rfl
section
variable {prog:Program}{w:World}{A:Around}{E:Value→Shared→Prop}{s:Shared}
abbrev iB (led:Bool):Obj:={ cls:=.type "set",dict:=none,data:=.set #[] 0 (.fresh 0 0 led) }
theorem A6 {h:Heap}{a:Addr}{led:Bool} (e:h.get? a=some (iB led)):jg prog w h a []:=
 ⟨_,#[],0,_,e,⟨rfl,rfl,rfl⟩,rfl,fun x hx=>(by simp at hx),fun k=>(by simp [kB]),by decide,by rfl,rfl⟩
set_option maxHeartbeats 4000000 in
theorem EF {l:Addr}{vs:List Value}{ks:List aY}{led:Bool}{c:Bool} (hh:A.handled=none) (hl:if c=true then s.heap.IsList l vs.toArray else s.heap.IsTuple l vs.toArray) (hn:vs.length=ks.length)
 (hk:∀(i:Nat) v,vs[i]?=some v→∀k,ks[i]?=some k→kj k v=true∧v.scannable=true) (hb:ks.length+1<scanBound) {R:Fin→Shared→Prop}
 (h:∀h' tk,jg prog w h' s.heap.objs.size ks→(∀b o,b<s.heap.objs.size→s.heap.get? b=some o→h'.get? b=some o)→R (.done (.ret .none)) { s with heap:=h',toks:=tk }) :
 wpAny (model prog w) A (Builtin.«set.__init__» ⟨[.ref s.heap.objs.size,.ref l],[]⟩) R E { s with heap:=s.heap.push (iB led) }:=by
 have hS:(s.heap.push (iB led)).get? s.heap.objs.size=some (iB led):=Heap.get?_push_size _ rfl
 have hT:Shared.TypeIs { s with heap:=s.heap.push (iB led) } (.ref s.heap.objs.size) "set" := ⟨_,hS,rfl⟩
 have vget:∀(i:Nat) v,vs.toArray[i]?=some v→∀k,ks[i]?=some k→kj k v=true∧v.scannable=true:=fun i v e=>hk i v (by simpa using e)
 have sz:vs.toArray.size=ks.length:=by rw [List.size_toArray];exact hn
 have hS2:∀o:Obj,((s.heap.push (iB led)).push o).get? s.heap.objs.size=some (iB led):=fun o=>Heap.get?_push_of_some _ hS
 have lS:∀{x:Obj},s.heap.get? l=some x→l<s.heap.objs.size:=fun e=>Heap.lt_size e
 have neI:s.heap.objs.size≠(s.heap.push (iB led)).objs.size:=by rw [Heap.size_push];trivial
 have fin:∀(s':Shared) (o:Obj),Moved (s.heap.objs.size :: [(s.heap.push (iB led)).objs.size]) (fun a b=>b=a) { s with heap:=(s.heap.push (iB led)).push o } s'→jg prog w s'.heap s.heap.objs.size ks→R (.done (.ret .none)) s':=fun s' o m q=>by
  obtain ⟨h',g',d',tk',os'⟩:=s'
  cases (show g'=s.gens from m.gens)
  cases (show d'=s.drawn from m.drawn)
  cases (show os'=s.os from m.os)
  refine h h' tk' q fun b o hb e=>m.heap b o (fun z=>?_) (Heap.get?_push_of_some _ (Heap.get?_push_of_some _ e))
  rw [Heap.size_push] at z
  have z':b=s.heap.objs.size∨b=s.heap.objs.size+1:=by simpa using z
  have hb':(b:Nat)<s.heap.objs.size:=hb
  rcases z' with z' | z'
  ·exact absurd z' (Nat.ne_of_lt hb')
  ·exact absurd z' (Nat.ne_of_lt (Nat.lt_succ_of_lt hb'))
 cases c with
 | true=>
  have hl':s.heap.IsList l vs.toArray:=hl
  obtain ⟨⟨oc,od,oo,os⟩,e1,rfl,n,rfl⟩:=hl'
  have e2:(s.heap.push (iB led)).get? l=some ⟨.type "list",od,.seq vs.toArray n,os⟩:=Heap.get?_push_of_some _ e1
  have q1:=PySem.F.sub_list_set
  have q2:=PySem.F.sub_list_frozenset
  have q3:(Value.type "list" == Value.type "dict")=false:=by decide
  have l1:(s.heap.push (iB led)).IsList l vs.toArray:=⟨_,e2,rfl,n,rfl⟩
  unfold Builtin.«set.__init__» noKeywords Builtin.Frozenset.updateFrom
  generalize hPI:pyIter=PI
  wp_walk
  subst hPI
  have ll:=lS e1
  refine wpAny_pyIter_list l1 (wpAny_bind (wpAny_runValue ?_))
  have ne1:l≠(s.heap.push (iB led)).objs.size:=by rw [Heap.size_push];exact Nat.ne_of_lt (Nat.lt_succ_of_lt ll)
  refine AO (a:=s.heap.objs.size) (ks:=ks) (sz▸(Walks.list (by simpa using hh) _ l ne1 vs.toArray).toS) ?_ vget hb (ks.length - 0) 0 _ rfl (Nat.zero_le _) ⟨⟨_,Heap.get?_push_size _ rfl,rfl,rfl⟩,l1.push _⟩ (A6 (hS2 _)) fun s' m q=>?_
  ·intro z
   have z':s.heap.objs.size=(s.heap.push (iB led)).objs.size∨s.heap.objs.size=l:=by simpa using z
   rcases z' with z' | z'
   ·exact neI z'
   ·exact absurd z' (Nat.ne_of_gt ll)
  ·exact wpAny_pure (wpAny_pure (fin s' _ m q))
 | false=>
  have hl':s.heap.IsTuple l vs.toArray:=hl
  obtain ⟨⟨oc,od,oo,os⟩,e1,rfl,n,rfl⟩:=hl'
  have e2:(s.heap.push (iB led)).get? l=some ⟨.type "tuple",od,.seq vs.toArray n,os⟩:=Heap.get?_push_of_some _ e1
  have q1:=BR
  have q2:=AN
  have q3:(Value.type "tuple" == Value.type "dict")=false:=by decide
  have l1:(s.heap.push (iB led)).IsTuple l vs.toArray:=⟨_,e2,rfl,n,rfl⟩
  unfold Builtin.«set.__init__» noKeywords Builtin.Frozenset.updateFrom
  generalize hPI:pyIter=PI
  wp_walk
  subst hPI
  have ll:=lS e1
  refine wpAny_pyIter_tuple l1 (wpAny_bind (wpAny_runValue ?_))
  have ne1:l≠(s.heap.push (iB led)).objs.size:=by rw [Heap.size_push];exact Nat.ne_of_lt (Nat.lt_succ_of_lt ll)
  refine AO (a:=s.heap.objs.size) (ks:=ks) (sz▸(Walks.tuple (by simpa using hh) _ l ne1 vs.toArray).toS) ?_ vget hb (ks.length - 0) 0 _ rfl (Nat.zero_le _) ⟨⟨_,Heap.get?_push_size _ rfl,rfl,rfl⟩,l1.at fun o e=>Heap.get?_push_of_some _ e⟩ (A6 (hS2 _)) fun s' m q=>?_
  ·intro z
   have z':s.heap.objs.size=(s.heap.push (iB led)).objs.size∨s.heap.objs.size=l:=by simpa using z
   rcases z' with z' | z'
   ·exact neI z'
   ·exact absurd z' (Nat.ne_of_gt ll)
  ·exact wpAny_pure (wpAny_pure (fin s' _ m q))
set_option maxHeartbeats 4000000 in
theorem Fm {l:Addr}{vs:List Value}{ks:List aY}{c:Bool}{Q:Value→Shared→Prop} (hh:A.handled=none) (hl:if c=true then s.heap.IsList l vs.toArray else s.heap.IsTuple l vs.toArray) (hn:vs.length=ks.length)
 (hk:∀(i:Nat) v,vs[i]?=some v→∀k,ks[i]?=some k→kj k v=true∧v.scannable=true) (hb:ks.length+1<scanBound)
 (h:∀h' tk,jg prog w h' s.heap.objs.size ks→(∀b o,b<s.heap.objs.size→s.heap.get? b=some o→h'.get? b=some o)→Q (.ref s.heap.objs.size) { s with heap:=h',toks:=tk }) :
 wpAny (model prog w) A (call (.type "set") [.ref l]) Q E s:=by
 have T:=PySem.F.called_set
 obtain ⟨_,_,t0⟩:=T.mro
 have t1:=T.notType
 have t2:=T.canCreate
 have t3:=T.made
 have t4:=T.sub
 have t5:=PySem.F.typeCall_set_1 (.ref l)
 refine wpAny_call (codeAny_of_tree ?_)
 show wpAny _ _ (callAny (Value.type "set") _) _ _ s
 refine wpAny_pure ⟨Code.quiet_builtin _ (by nofun),codeAny_builtin PySem.F.entry_type_call ?_⟩
 rw [A.under_plain (weight_type_call_type "set" [Value.ref l] []) rfl]
 repeat (any_goals first | assumption | wp_step)
 refine codeAny_mono (code_set_new_1 (.ref l) (E:=E) (Q₁:=fun v s1=>∃led,v=.ref s.heap.objs.size∧s1={ s with heap:=s.heap.push (iB led) }) fun led=>⟨led,rfl,rfl⟩) fun r s1 hr=>?_
 cases r with
 | error e=>exact hr
 | ok f=>
  cases f with
  | ret v=>
   obtain ⟨led,rfl,rfl⟩:=hr
   have hT:Shared.TypeIs { s with heap:=s.heap.push (iB led) } (.ref s.heap.objs.size) "set" := ⟨_,Heap.get?_push_size _ rfl,rfl⟩
   have t6:=T.init.lookup
   have t7:=T.init.bind (.ref s.heap.objs.size)
   repeat (any_goals first | assumption | wp_step)
   refine codeAny_mono (codeAny_call_builtin (R:=wants (fun v s2=>v=.none∧bI fun h' tk=>s2={ s with heap:=h',toks:=tk }∧jg prog w h' s.heap.objs.size ks∧∀b o,b<s.heap.objs.size→s.heap.get? b=some o→h'.get? b=some o) E) T.init.plain PySem.F.entry_set_init (check_set_init_1 hT ?_)) fun r2 s2 hr2=>?_
   ·exact EF (by simpa using hh) hl hn hk hb fun h' tk q kp=>⟨rfl,h',tk,rfl,q,kp⟩
   ·cases r2 with
    | error e=>exact hr2
    | ok f=>
     cases f with
     | ret v=>
      obtain ⟨rfl,h',tk,rfl,q,kp⟩:=hr2
      repeat (any_goals first | assumption | wp_step)
      exact h _ _ q kp
     | _=>exact hr2.elim
  | _=>exact hr.elim
end
theorem BM:bootBuiltins "set" = some (.type "set"):=by nofun
def Cy (K:PySem.W.Frag) (x:V) (H:Hp) (Q:VK):Prop:=bI fun a ks=>x=.ref a∧(ak K H a (ks.map gk)∨ar K H a (ks.map gk))∧ks.length≤4000∧Q (.int ((kB ks).length:Nat)) H
def HE (K:PySem.W.Frag) (te:TE):TE:=fun σ H Q=>te σ H fun x H1=>Cy K x H1 Q
section
variable {X:Cx}{K:PySem.W.Frag}{e:Expr}{te:TE}{p1 p2 p3 p4:Pos}
theorem zl:∀{ks:List aY}{us:List Value},aL (ks.map gk) us→us.length=ks.length∧∀(i:Nat) v,us[i]?=some v→∀k,ks[i]?=some k→kj k v=true∧v.scannable=true
 | [],_,.nil=>⟨rfl,fun i v e=>by simp at e⟩
 | k :: r,_,.cons h t=>by
  obtain ⟨a,b⟩:=zl (ks:=r) t
  refine ⟨by simp [a],fun i v e j f=>?_⟩
  cases i with
  | zero=>
   simp at e f
   subst e f
   exact CD h
  | succ i=>exact b i v (by simpa using e) j (by simpa using f)
theorem Gi {A:Around}{E:Value→Shared→Prop}{s:Shared}{prog:Program}{w:World}{a:Addr}{ks:List aY}{Q:Value→Shared→Prop} (H:jg prog w s.heap a ks) (hb:ks.length≤4000) (h:Q (.int ((kB ks).length:Nat) (s.toks+1)) { s with toks:=s.toks+1+1 }) :
 wpAny (model prog w) A (call (.builtin "len") [.ref a]) Q E s:=by
 obtain ⟨o,es,ep,t,ho,hx,hd,_,_,hlt,hf,hn⟩:=H
 have:=xf ks
 refine PySem.call_len_set ho hx hd hf (by trivial) ?_
 rw [hn];exact h
theorem zS (he:PE X e te) (hc:X.calm=true) (hg1:Gl X "len") (hm1:X.mg "len" = none) (hg2:Gl X "set") (hm2:X.mg "set" = none) (ek:X.K=K:=by rfl) (hs:vZ e=true:=by rfl) :
 PE X (.Call (.Name "len" p1) [.Call (.Name "set" p2) [e] [] p3] [] p4) (HE K te):=by
 subst ek
 intro pins s σ H Q I h
 refine wpAny_Call_Name_kw (ml I hg1 hm1 bY ?_ (by decide) (by decide))
 refine PyProof.Rows.callWith_builtin1 ?_ (uY rfl) rfl
 refine Calls.spliced_cons ?_
 refine wpAny_Call_Name_kw (ml I hg2 hm2 BM ?_ (by decide) (by decide))
 refine PyProof.Rows.callWith_type1 ?_ (uY hs) rfl
 refine aR (FA he cj hs p3 pins s σ H (fun xs H1=>match xs with | [x]=>Cy X.K x H1 Q | _=>False) I h) fun us s1 ⟨vs,H1,I1,r1,q1⟩=>?_
 match vs,r1,q1 with
 | [x],r1,q1=>
 obtain ⟨u,rfl,ru⟩:=qQ r1
 obtain ⟨a,ks,rfl,hq,hz,q⟩:=q1
 cases ru
 have go:∀(its:List Value) (c:Bool),aL (ks.map gk) its→(if c=true then s1.heap.IsList a its.toArray else s1.heap.IsTuple a its.toArray)→wpAny (model X.prog X.w) X.A (call (.type "set") [.ref a]) (fun v s2=>wpAny (model X.prog X.w) X.A (call (.builtin "len") [v]) (EP X pins σ Q) X.xe s2) X.xe s1:=fun its c rv hl=>by
  obtain ⟨z1,z2⟩:=zl rv
  refine Fm (I1.ok.hd hc) hl z1 z2 (by show ks.length+1<4096;trivial) fun h' tk S kp=>?_
  have I2:ai X pins σ H1 { s1 with heap:=h',toks:=tk }:=I1.kept fun b o e=>kp b o (Heap.lt_size e) e
  exact Gi (s:={ s1 with heap:=h',toks:=tk }) S hz ⟨.int _,H1,I2.tok _,⟨()⟩,q⟩
 have fin:=fun (v:Value) (s2:Shared) (z:wpAny (model X.prog X.w) X.A (call (.builtin "len") [v]) (EP X pins σ Q) X.xe s2)=>(Calls.spliced_nil z:wpAny (model X.prog X.w) X.A (spliced []) (fun vs s3=>wpAny (model X.prog X.w) X.A (call (.builtin "len") (v :: vs)) (EP X pins σ Q) X.xe s3) X.xe s2)
 rcases hq with hq | hq
 ·obtain ⟨its,rv,p,_⟩:=I1.list hq
  exact aR (go its true rv p.isList) fun v s2 z=>fin v s2 z
 ·obtain ⟨its,rv,p,_⟩:=I1.tuple hq
  exact aR (go its false rv p) fun v s2 z=>fin v s2 z
end
section
variable {X:Cx}{K:PySem.W.Frag}{o e:Expr}{es:List Expr}{to:TE}{t:TA}{name:Str}{apos cpos:Pos}{T id:String}{r:V→List V→Hp→VK→Prop}
theorem fN (pa:PlainAttrs T) (slot:Slot T name id) (hty:typeOf (.builtin id)=pure (.type "method_descriptor")) (hm:GK X id r) (ho:PE X o to) (ha:PA X (e :: es) t) (ek:X.K=K:=by rfl)
 (h1:attributeBase o name X.env (eval o X.env)=eval o X.env:=by rfl)
 (h2:((backTo cpos (starEach (e :: es) X.env)).all (fun x=>!x.1) && (backToKw cpos (keywordEach [] X.env)).all (fun x=>x.1.isSome) && decide ((e :: es).length+([]:List Keyword).length+(if ([]:List Keyword).isEmpty then 0 else 1)<30))=true:=by rfl)
 (h3:(apos.endLine==cpos.line)=true:=by rfl) (h4:starEach (e :: es) X.env=(false,eval e X.env) :: starEach es X.env:=by rfl) (h5:(backTo cpos (starEach es X.env)).any (·.1)=false:=by rfl) :
 PE X (.Call (.Attribute o name apos) (e :: es) [] cpos) (IT K T r to t):=by
 subst ek
 exact Lm pa slot hty hm ho ha h1 h2 h3 h4 h5
end
theorem Az {X:Cx}{K:PySem.W.Frag}{es:List Expr}{kk:Nat}{tp:Pos}{a b:Expr}{ta:TA}{p pos:Pos} (hg:Gl X "zip") (hm:X.mg "zip" = none) (ha:PA X [a,b] ta) (ek:X.K=K:=by rfl) (h1:starEach [a,b] X.env=[(false,eval a X.env),(false,eval b X.env)]:=by rfl) (h2:starEach [b] X.env=[(false,eval b X.env)]:=by rfl) :
 PI X (.Tuple es kk tp) (.Call (.Name "zip" p) [a,b] [] pos) (JA K ta):=by
 subst ek
 exact IJ hg hm ha h1 h2
end L2
namespace L2
theorem bv {t u:TS}{D:gl}{σ:St}{H:Hp} (h:∀D':gl,(∀σ' H',u D σ' H'→D'.nx σ' H')→t D' σ H):nj t u D σ H:=h { D with nx:=u D } fun _ _ z=>z
theorem tX {t u:TS}{D:gl}{σ:St}{H:Hp} (h:∀D':gl,(∀σ' H',u D σ' H'→D'.nx σ' H')→(∀v H',D.rt v H'→D'.rt v H')→t D' σ H):nj t u D σ H:=h { D with nx:=u D } (fun _ _ z=>z) fun _ _ z=>z
theorem GI {t:TS}{D:gl}{σ:St}{H:Hp} (h:∀D':gl,(∀σ' H',D.nx σ' H'→D'.nx σ' H')→t D' σ H):t D σ H:=h D fun _ _ z=>z
theorem Kl {t:TS}{D:gl}{σ:St}{H:Hp} (h:∀D':gl,(∀σ' H',D.nx σ' H'→D'.nx σ' H')→(∀v H',D.rt v H'→D'.rt v H')→t D' σ H):t D σ H:=h D (fun _ _ z=>z) fun _ _ z=>z
end L2
namespace L2
open PySem PySem.Spec PyProof.Rows
def Ao:PyData→Option (List PyData)
 | .list xs=>some xs
 | .tuple xs=>some xs
 | _=>none
theorem JN {e:PyData}{xs:List PyData}{n l:Nat} (h:Wt e n l) (s:Ao e=some xs):bI fun m k=>kS xs m k∧k+1=l:=by
 cases h <;> simp [Ao] at s
 all_goals
  rename_i w
  subst s
  exact ⟨_,_,w,rfl⟩
section
variable {X:Cx}
inductive Lb (ng:Bool) (x:V) (y:V) (H:Hp) (Q:VK):Prop
 | mk (d e:PyData) (E F:Addr→Prop) (m n k l:Nat) (xs:List PyData) (h0:aI E H x d) (h1:aI F H y e) (h2:Wt d m k) (h3:Wt e n l) (h4:l≤60) (h5:Ao e=some xs) (h6:Q (.bl (if ng then !xs.any (fun z=>PyData.eqv z d) else xs.any (fun z=>PyData.eqv z d))) H)
def LV (ng:Bool):R2:=fun x y H Q=>Lb ng x y H Q
theorem Ej (hu:X.A.units+64<cLine):dA X (compareOp .NotIn) (LV true):=by
 intro pins s σ H x y v u Q I rx ry h
 obtain ⟨d,e,E,F,m,n,k,l,xs,hd,he,wd,we,hl,hs,q⟩:=h
 obtain ⟨as,ra⟩:=hd.reads I.hok rx
 obtain ⟨bs,rb⟩:=he.reads I.hok ry
 obtain ⟨m',k',wl,ek⟩:=JN we hs
 have dl:=wl.dep
 cases e <;> simp [Ao] at hs
 ·subst hs
  exact PySem.SeqAt.notIn_list_reads rb ra wl.can wd.can (by trivial) ⟨.bl _,H,I,rfl,q⟩
 ·subst hs
  exact PySem.SeqAt.notIn_tuple_reads rb ra wl.can wd.can (by trivial) ⟨.bl _,H,I,rfl,q⟩
end
section
variable {K:PySem.W.Frag}{a a1 a2 D:Addr}{H1:Hp}{σc:St}{g:TG}{te:TE}{tt:TT}{Q:VK}{xs ys:List V}
end
end L2
namespace L2
theorem C8 {t u:TS}{D:gl}{σ:St}{H:Hp} (I:St→Hp→Prop) (rest:∀σ' H',I σ' H'→u D σ' H') (h:(∀σ' H',I σ' H'→u D σ' H')→t { D with nx:=u D } σ H):nj t u D σ H:=h rest
end L2
namespace L2
open PySem PySem.Spec PyProof.Rows
section
variable {X:Cx}{tg:Expr}
inductive GT (K:PySem.W.Frag) (x:V) (y:V) (H:Hp) (Q:VK):Prop
 | mk (a:_) (b:_) (xs:_) (ys:_) (h0:x=.ref a) (h1:y=.ref b) (h2:ar K H a xs) (h3:H a=some (.tup xs)) (h4:ar K H b ys) (h5:xs≠[]) (h6:xs.length+ys.length≤10000) (h7:∀p H',aa H H'→H' p=some (.tup (xs++ys))→Q (.ref p) H')
def Jq (K:PySem.W.Frag):R2:=fun x y H Q=>GT K x y H Q
theorem Bm {K:PySem.W.Frag} (e:X.K=K:=by rfl):dA X (binaryOp .Add) (Jq K):=by
 subst e
 intro pins s σ H x y v u Q I rx ry h
 obtain ⟨a,b,xs,ys,e1,e2,ha,ha',hb,hx,hz,q⟩:=h
 refine GW pins s σ H x y v u Q I rx ry ⟨a,b,xs,ys,e1,e2,ha,hb,hx,qL hz,fun z=>?_,fun z p hp=>q p _ (aa.new hp) aA⟩
 refine q a H (aa.refl _) ?_
 rw [z,List.append_nil];exact ha'
end
section
variable {X:Cx}{K:PySem.W.Frag}{o e:Expr}{es:List Expr}{to:TE}{t:TA}{name:Str}{apos cpos:Pos}{id:String}{r:V→List V→Hp→VK→Prop}
end
end L2
namespace L2
open PySem PyProof.Rows
section
variable {X:Cx}{elt tg iter:Expr}{ifs:List Expr}{scope:Scope}{pos:Pos}{N':List Str}{L:Nat}{src:List Nat}{wi:TI}{g:TG}{tt:TT}{te:TE}
end
end L2
namespace HT
open PySem PySem.Spec PyProof.Rows
section
variable {prog:Program}{w:World}{A:Around}{E:Value→Shared→Prop}{s:Shared}
end
end HT
namespace L2
open PySem PySem.Spec PyProof.Rows
section
variable {X:Cx}{K:PySem.W.Frag}
end
section
variable {X:Cx}{e:Expr}{te:TE}{st:Expr}{ts:TO}{p2 pos:Pos}
end
def MS (H H':Hp):Prop:=∀a us,H a=some (.tup us)→H' a=some (.tup us)
section
variable {H H' H'':Hp}{z n k m:Nat}{v:V}{E:Addr→Prop}{b th th' p:Addr}{xs ys zs:List V}
end
section
variable {E:Addr→Prop}{z:Nat}{H0:Hp}{σ:St}{n k m:Nat}{te tb:TE}{ta:TA}{v:V}{i:Nat}{p:Addr}{xs:List V}{K:PySem.W.Frag}
end
section
variable {b th:Addr}{H0:Hp}{σ:St}{zs:List V}{ta:TA}{te:TE}{n i:Nat}{Q:VK}{K:PySem.W.Frag}
end
theorem cw {te:TE}{i:Nat}{u:TS}{D:gl}{σ:St}{H:Hp} (h:∀Q:VK,(∀v H',u D (σ.set i (some v)) H'→Q v H')→te σ H Q):nj (Bz te (tI i)) u D σ H:=h _ fun _ _ z=>z
theorem Gx {te:TE}{D:gl}{σ:St}{H:Hp} (h:∀Q:VK,(∀v H',D.nx σ H'→Q v H')→te σ H Q):CZ te D σ H:=h _ fun _ _ z=>z
theorem lq {α:Type}{P:List α→Prop} (h:∀a,P [a]):∀us:List α,us.length=1→P us:=fun us hl=>by
 cases us with
 | nil=>cases hl
 | cons a r=>cases r with
  | nil=>exact h a
  | cons b r=>simp at hl
theorem cW {α:Type}{P:List α→Prop} (h:∀a b,P [a,b]):∀us:List α,us.length=2→P us:=fun us hl=>by
 cases us with
 | nil=>cases hl
 | cons a r=>exact lq (P:=fun r=>P (a :: r)) (fun b=>h a b) r (by simpa using hl)
theorem lP {α:Type}{P:List α→Prop} (h:∀a b c,P [a,b,c]):∀us:List α,us.length=3→P us:=fun us hl=>by
 cases us with
 | nil=>cases hl
 | cons a r=>exact cW (P:=fun r=>P (a :: r)) (fun b c=>h a b c) r (by simpa using hl)
theorem BA {α:Type}{P:List α→Prop} (h:∀a b c d,P [a,b,c,d]):∀us:List α,us.length=4→P us:=fun us hl=>by
 cases us with
 | nil=>cases hl
 | cons a r=>exact lP (P:=fun r=>P (a :: r)) (fun b c d=>h a b c d) r (by simpa using hl)
section
variable {X:Cx}{a:Expr}{ta:TA}{p p2 pos pos2:Pos}
inductive FX (x:V) (vs:List V) (H:Hp) (Q:VK):Prop
 | mk (l:Addr) (ks:List Int) (k:Int) (j:Nat) (h0:x=.ref l) (h1:vs=[.int k]) (h2:H l=some (.lst (ks.map V.int))) (h3:ks.length≤10000) (h4:ks[j]?=some k) (h5:(∀m,m<j→ks[m]?≠some k)) (h6:Q (.int (j:Int)) H)
def G7:V→List V→Hp→VK→Prop:=fun x vs H Q=>FX  x vs H Q
theorem DU:B0 X "list.index" G7:=by
 intro pins s σ H x vs v us Q I rx rv h
 obtain ⟨l,ks,k,j,rfl,rfl,hH,hz,hj,hno,q⟩:=h
 cases rx
 obtain ⟨u,rfl,ru⟩:=rv.one
 obtain ⟨t,rfl⟩:=ru
 obtain ⟨z,its,n,r,hl,e⟩:=I.lstM hH
 have hlen:ks.length=its.length:=by rw [←hl,List.length_map]
 have isI:∀(m:Nat) (w:Value),its[m]?=some w→bI fun i t'=>ks[m]?=some i∧w=.int i t':=fun m w hw=>by
  obtain ⟨i,hi⟩:∃i,ks[m]?=some i:=⟨_,List.getElem?_eq_getElem (by rw [hlen];exact (List.getElem?_eq_some_iff.mp hw).1)⟩
  obtain ⟨w',hw',rw'⟩:=r.get (show (ks.map V.int)[m]?=some (V.int i) by rw [List.getElem?_map,hi];rfl)
  rw [hw] at hw'
  cases hw'
  obtain ⟨t',rfl⟩:=rw'
  exact ⟨i,t',hi,rfl⟩
 have hji:j<its.length:=by rw [←hlen];exact (List.getElem?_eq_some_iff.mp hj).1
 refine call_meets F.slot_list_index ⟨_,e,rfl⟩ F.entry_list_index (F.args_list_index_2 _ _)
  (MeetsSeq.list_index l its.toArray n (.int k t) (fun y=>match y with | .int i _=>i==k | _=>false) (fun y hy=>?_) j (by simpa using hji) (by trivial) ?_ (fun m hm hlt=>?_)) ⟨e,?_⟩
 ·obtain ⟨m,hm⟩:=List.getElem?_of_mem (by simpa using hy:y∈its)
  obtain ⟨i,t',_,rfl⟩:=isI m y hm
  exact MeetsSeq.EqGives.int i k t' t
 ·obtain ⟨i,t',e1,e2⟩:=isI j its[j] (List.getElem?_eq_getElem hji)
  rw [hj] at e1
  cases e1
  simp only [List.getElem_toArray,e2,beq_self_eq_true]
 ·have hm':m<its.length:=by simpa using hm
  obtain ⟨i,t',e1,e2⟩:=isI m its[m] (List.getElem?_eq_getElem hm')
  have:=hno m hlt
  rw [e1] at this
  simp only [List.getElem_toArray,e2]
  simpa using fun z=>this (by rw [z])
 ·exact ⟨.int (j:Int),H,I.tok _,⟨()⟩,q⟩
end
section
variable {prog:Program}{w:World}{A:Around}{E:Value→Shared→Prop}{s:Shared}
variable {z TI TO i1 i2 l1 l2 T:Addr}{k:Nat}{xs ys:Array Value}{bb:Bool}{c1 c2:Bool}{oT:Obj}
end
section
variable {prog:Program}{w:World}{A:Around}{E:Value→Shared→Prop}{R:Result→Shared→Prop}
variable {z TI TO i1 i2 l1 l2 d:Addr}{xs ys:Array Value}{c1 c2:Bool}{ks:List aY}
end
section
variable {X:Cx}{K:PySem.W.Frag}{a b:Expr}{ta:TA}{p1 p2 p3 p4:Pos}
def valD (kvs:List (aY×V)) (k:aY):Option V:=(kvs.find? fun kv=>decide (kv.1=k)).map (·.2)
theorem KV.valD:∀{kvs:List (aY×V)}{vs:List (aY×Value)} (r:KV kvs vs) (k:aY),uS (valD kvs k) (valueAt vs k)
 | _,_,.nil,_=>trivial
 | p :: ps,q :: qs,.cons h t,k=>by
  obtain ⟨h1,h2⟩:=h
  by_cases e:p.1=k
  ·have e':q.1=k:=h1.symm.trans e
   have b1:L2.valD (p :: ps) k=some p.2:=by simp [L2.valD,List.find?_cons,e]
   have b2:valueAt (q :: qs) k=some q.2:=by simp [valueAt,List.find?_cons,e']
   rw [b1,b2];exact h2
  ·have e':¬q.1=k:=fun z=>e (h1.trans z)
   have b1:L2.valD (p :: ps) k=L2.valD ps k:=by simp [L2.valD,List.find?_cons,e]
   have b2:valueAt (q :: qs) k=valueAt qs k:=by simp [valueAt,List.find?_cons,e']
   rw [b1,b2];exact KV.valD t k
inductive Kt (x:V) (y:V) (H:Hp) (Q:VK):Prop
 | mk (d:Addr) (kvs:List (aY×V)) (k:aY) (v:V) (h0:x=.ref d) (h1:y=gk k) (h2:H d=some (.dK kvs)) (h3:valD kvs k=some v) (h4:Q v H)
def Mv:R2:=fun x y H Q=>Kt  x y H Q
theorem lu {P:Program}{w:World}{k:aY}{u:Value} (r:be (gk k) u):(cK P w).is k u=true:=(CD r).1
theorem lE:sS X Mv:=by
 intro value slice pins s σ H x y v u Q I rx ry h hs
 obtain ⟨d,kvs,k,z,rfl,rfl,hd,he,q⟩:=h
 cases rx
 obtain ⟨_,_,vs,rel,dd⟩:=(show bK X.prog X.w H s.heap d (.dK kvs) from I.hok d _ hd)
 have hv:=rel.valD k
 rw [he] at hv
 obtain ⟨w',hw,rw'⟩:=uS.some_of hv
 exact subscriptTail_builtinR (x:=w') dd.typeIs PySem.F.slot_dict_getitem.lookup (wpAny_getItem_of (lu ry) dd.mapOf hw ⟨rfl,z,H,I.tok _,rw',q⟩) hs
end
section
variable {X:Cx}
end
section
variable {prog:Program}{w:World}{A:Around}{E:Value→Shared→Prop}{s:Shared}
variable {n l1 l2 l3 T:Nat}{k:Nat}{xs ys zs:Array Value}{bb:Bool}{oT:Obj}
end
section
variable {prog:Program}{w:World}{A:Around}{E:Value→Shared→Prop}{s:Shared}
variable {n l1 l2 l3:Nat}{k:Nat}{xs ys zs:Array Value}
end
section
variable {prog:Program}{w:World}{A:Around}{E:Value→Shared→Prop}{R:Result→Shared→Prop}
variable {n l1 l2 l3:Nat}{xs ys zs:Array Value}
end
section
variable {prog:Program}{w:World}{A:Around}{E:Value→Shared→Prop}{s:Shared}
end
section
variable {X:Cx}{pins:List (Addr×Obj)}{σ:St}{H:Hp}{s:Shared}{h':Heap}
end
section
variable {X:Cx}{K:PySem.W.Frag}{a b c:Expr}{ta:TA}{p1 p2 p3 p4:Pos}
end
section
variable {prog:Program}{w:World}{A:Around}{E:Value→Shared→Prop}{s:Shared}
end
section
variable {prog:Program}{w:World}{A:Around}{E:Value→Shared→Prop}{R:Result→Shared→Prop}
variable {l it d:Nat}{vs:Array Value}{ks:List aY}{us:List Value}
end
section
variable {X:Cx}
end
section
variable {X:Cx}
inductive Ir (x:V) (vs:List V) (H:Hp) (Q:VK):Prop
 | mk (l:_) (b:_) (xs:_) (zs:_) (h0:x=.ref l) (h1:vs=[.ref b]) (h2:H l=some (.lst xs)) (h3:H b=some (.lst zs)) (h4:xs.length+zs.length≤10000) (h5:∀H',Ch H l (xs++zs) H'→Q .non H')
def KU:V→List V→Hp→VK→Prop:=fun x vs H Q=>Ir  x vs H Q
theorem Dp:B0 X "list.extend" KU:=fun pins s σ H x vs v us Q I rx rv ⟨l,b,xs,zs,e1,e2,h,h',hz,q⟩=>Fn pins s σ H x vs v us Q I rx rv ⟨l,b,xs,zs,e1,e2,h,h',(by rw [sizeLine_eq];trivial),q _ .mk'⟩
end
theorem IW {α:Type}{P:List α→Prop} (h:∀a b c d e,P [a,b,c,d,e]):∀us:List α,us.length=5→P us:=fun us hl=>by
 cases us with
 | nil=>cases hl
 | cons a r=>exact BA (P:=fun r=>P (a :: r)) (fun b c d e=>h a b c d e) r (by simpa using hl)
structure Gb (a b:Nat) (p:KM.Fra):Prop where
 n:Sz a p.1
 d:Sz b p.2
 pos:1≤p.2
theorem Gb.mono {a b a' b':Nat}{p:KM.Fra} (h:Gb a b p) (ha:a≤a') (hb:b≤b'):Gb a' b' p:=⟨h.n.mono ha,h.d.mono hb,h.pos⟩
theorem sR {a b:Nat}{n d:Int} (hn:Sz a n) (hd:Sz b d) (h0:0<d):Gb a b (KM.low n d):=by
 have:=KM.low_spec n d (by trivial)
 exact ⟨hn.le this.2.2.2.1,hd.le this.2.2.2.2,this.1⟩
def aX (p q:KM.Fra):KM.Fra:=KM.low (p.1*q.2 - q.1*p.2) (p.2*q.2)
def aH (p q:KM.Fra):KM.Fra:=KM.low (p.1*q.2) (p.2*q.1)
theorem Gb.add {a b c d e f:Nat}{p q:KM.Fra} (h:Gb a b p) (k:Gb c d q) (h1:a+d<e) (h2:c+b<e) (h3:b+d≤f):Gb e f (KM.ladd p q):=by
 obtain ⟨e',rfl⟩:∃e',e=e'+1:=⟨e - 1,by trivial⟩
 exact sR (((h.n.mul k.d).mono (by trivial)).add ((k.n.mul h.d).mono (by trivial))) ((h.d.mul k.d).mono h3) (Int.mul_pos (by have:=h.pos;trivial) (by have:=k.pos;trivial))
theorem Gb.min {a b c d e f:Nat}{p q:KM.Fra} (h:Gb a b p) (k:Gb c d q) (h1:a+d<e) (h2:c+b<e) (h3:b+d≤f):Gb e f (aX p q):=by
 obtain ⟨e',rfl⟩:∃e',e=e'+1:=⟨e - 1,by trivial⟩
 exact sR (((h.n.mul k.d).mono (by trivial)).sub ((k.n.mul h.d).mono (by trivial))) ((h.d.mul k.d).mono h3) (Int.mul_pos (by have:=h.pos;trivial) (by have:=k.pos;trivial))
theorem Gb.tim {a b c d e f:Nat}{p q:KM.Fra} (h:Gb a b p) (k:Gb c d q) (h1:a+c≤e) (h3:b+d≤f):Gb e f (KM.lTim p q):=
 sR ((h.n.mul k.n).mono h1) ((h.d.mul k.d).mono h3) (Int.mul_pos (by have:=h.pos;trivial) (by have:=k.pos;trivial))
theorem Gb.ovr {a b c d e f:Nat}{p q:KM.Fra} (h:Gb a b p) (k:Gb c d q) (hq:1≤q.1) (h1:a+d≤e) (h3:b+c≤f):Gb e f (aH p q):=
 sR ((h.n.mul k.d).mono h1) ((h.d.mul k.n).mono h3) (Int.mul_pos (by have:=h.pos;trivial) (by trivial))
theorem pH {p q:KM.Fra} (h:1≤p.1) (h':1≤p.2) (k:1≤q.1) (k':1≤q.2):1≤(KM.lTim p q).1:=(KM.low_sgn (Int.mul_pos (by trivial) (by trivial))).1.mpr (Int.mul_pos (by trivial) (by trivial))
theorem sY {p q:KM.Fra} (h:1≤p.1) (h':1≤p.2) (k:1≤q.1) (k':1≤q.2):1≤(aH p q).1:=(KM.low_sgn (Int.mul_pos (by trivial) (by trivial))).1.mpr (Int.mul_pos (by trivial) (by trivial))
end L2
namespace L2
open PySem PySem.Spec PyProof.Rows
def eM (kvs:List (aY×V)) (k:aY) (v:V):List (aY×V):=if kvs.any (fun kv=>decide (kv.1=k)) then kvs.map (fun kv=>if kv.1=k then (kv.1,v) else kv) else kvs++[(k,v)]
theorem KV.any {kvs:List (aY×V)}{vs:List (aY×Value)} (r:KV kvs vs) (k:aY):kvs.any (fun kv=>decide (kv.1=k))=vs.any (fun kv=>decide (kv.1=k)):=by
 induction r with
 | nil=>rfl
 | cons h t ih=>rw [List.any_cons,List.any_cons,ih,h.1]
theorem zh {kvs:List (aY×V)}{vs:List (aY×Value)} (r:KV kvs vs) {k:aY}{v:V}{u:Value} (rv:be v u):KV (eM kvs k v) (stored vs k u):=by
 unfold eM stored
 rw [r.any k]
 have m:KV (kvs.map (fun kv=>if kv.1=k then (kv.1,v) else kv)) (vs.map (fun kv=>if kv.1=k then (kv.1,u) else kv)):=by
  induction r with
  | nil=>exact .nil
  | @cons p q ps qs h t ih=>
   refine .cons ?_ ih
   obtain ⟨pk,pv⟩:=p
   obtain ⟨qk,qv⟩:=q
   obtain ⟨h1,h2⟩:=h
   obtain rfl:pk=qk:=h1
   show (if pk=k then (pk,v) else (pk,pv)).1=(if pk=k then (pk,u) else (pk,qv)).1∧be (if pk=k then (pk,v) else (pk,pv)).2 (if pk=k then (pk,u) else (pk,qv)).2
   by_cases c:pk=k
   ·rw [if_pos c,if_pos c];exact ⟨rfl,rv⟩
   ·rw [if_neg c,if_neg c];exact ⟨rfl,h2⟩
 have a:KV (kvs++[(k,v)]) (vs++[(k,u)]):=by
  clear m
  induction r with
  | nil=>exact .cons ⟨rfl,rv⟩ .nil
  | cons h t ih=>exact .cons h ih
 cases vs.any (fun kv=>decide (kv.1=k)) with
 | true=>exact m
 | false=>exact a
theorem zQ {kvs:List (aY×V)}{k:aY}{v:V} (h:kvs.length<sizeLine):(eM kvs k v).length≤sizeLine:=by
 unfold eM
 split
 ·rw [List.length_map];trivial
 ·rw [List.length_append];exact h
theorem qO (kvs:List (aY×V)) (k:aY) (v:V) (x:aY):valD (eM kvs k v) x=if x=k then some v else valD kvs x:=by
 unfold eM
 cases c:kvs.any (fun kv=>decide (kv.1=k)) with
 | true=>
  rw [if_pos rfl]
  induction kvs with
  | nil=>cases c
  | cons p ps ih=>
   unfold valD at ih ⊢
   rw [List.map_cons,List.find?_cons,List.find?_cons]
   by_cases hp:p.1=k
   ·rw [if_pos hp]
    by_cases hx:x=k
    ·rw [if_pos hx,hp,hx];simp
    ·rw [if_neg hx]
     have n1:¬p.1=x:=fun z=>hx (z.symm.trans hp)
     have n2:decide (p.1=x)=false:=decide_eq_false n1
     rw [n2]
     dsimp only
     by_cases c2:ps.any (fun kv=>decide (kv.1=k))=true
     ·rw [ih c2,if_neg hx]
     ·have e:ps.map (fun kv=>if kv.1=k then (kv.1,v) else kv)=ps:=by
       have:∀kv∈ps,(fun kv:aY×V=>if kv.1=k then (kv.1,v) else kv) kv=kv:=fun kv hkv=>by
        by_cases q:kv.1=k
        ·exact absurd (List.any_eq_true.mpr ⟨kv,hkv,decide_eq_true q⟩) c2
        ·show (if kv.1=k then _ else _)=_
         rw [if_neg q]
       exact (List.map_congr_left this).trans (List.map_id _)
      rw [e]
   ·rw [if_neg hp]
    have c':ps.any (fun kv=>decide (kv.1=k))=true:=by
     rw [List.any_cons,decide_eq_false hp,Bool.false_or] at c
     exact c
    by_cases hpx:p.1=x
    ·have hx:¬x=k:=fun z=>hp (hpx.trans z)
     rw [if_neg hx,decide_eq_true hpx]
    ·rw [decide_eq_false hpx]
     dsimp only
     exact ih c'
 | false=>
  rw [if_neg Bool.false_ne_true]
  have nk:valD kvs k=none:=by
   unfold valD
   rw [Option.map_eq_none_iff,List.find?_eq_none]
   intro kv hkv q
   have:kvs.any (fun kv=>decide (kv.1=k))=true:=List.any_eq_true.mpr ⟨kv,hkv,q⟩
   rw [c] at this;cases this
  unfold valD at nk ⊢
  rw [List.find?_append]
  by_cases hx:x=k
  ·subst hx
   rw [Option.map_eq_none_iff] at nk
   rw [nk,if_pos rfl];simp
  ·rw [if_neg hx]
   cases kvs.find? (fun kv=>decide (kv.1=x)) with
   | some p=>rfl
   | none=>
    have:decide (k=x)=false:=decide_eq_false fun z=>hx z.symm
    simp [this]
section
variable {X:Cx}
theorem ai.dset {pins:List (Addr×Obj)}{σ:St}{H:Hp}{s:Shared}{d:Addr}{kvs kvs':List (aY×V)}{vs':List (aY×Value)}{h':Heap}{t':Nat} (I:ai X pins σ H s) (hH:H d=some (.dK kvs)) (hm:(d==sysModules)=false) (hz:kvs'.length≤sizeLine)
 (hv:KV kvs' vs') (hd:h'.DictOf (cK X.prog X.w) d vs') (sb:Heap.SameBut d s.heap h'):ai X pins σ (aP H d (.dK kvs')) { s with heap:=h',toks:=t' }:=by
 obtain ⟨o,es,ep,ho,q⟩:=hd
 refine I.write (x:=d) (e:=d) (by rw [hH];exact trivial) (.inl rfl) (fun b u hb hu=>(sb.2 b hb).trans hu) ⟨_,ho⟩ ?_
 exact ⟨hz,hm,vs',hv,o,es,ep,ho,q⟩
structure Ce (H:Hp) (p:Addr) (o:HO) (H':Hp):Prop where
 at':H' p=some o
 ol:∀a u,a≠p→H a=some u→H' a=some u
 fre:∀a,a≠p→H a=none→H' a=none
theorem Ce.mk' {H:Hp}{p:Addr}{o:HO}:Ce H p o (aP H p o):=⟨aA,fun a u n h=>by rw [aE n];exact h,fun a n h=>by rw [aE n];exact h⟩
inductive IA (o:V) (i:V) (v:V) (H:Hp) (Q:(Hp→Prop)):Prop
 | mk (d:_) (kvs:_) (k:_) (h0:o=.ref d) (h1:i=gk k) (h2:H d=some (.dK kvs)) (h3:kvs.length≤4000) (h4:∀H',Ce H d (.dK (eM kvs k v)) H'→Q H')
def JU:V→V→V→Hp→(Hp→Prop)→Prop:=fun o i v H Q=>IA  o i v H Q
theorem xy:De X JU:=by
 intro pins s σ H o i v ov iv u Q I ro ri rv h
 obtain ⟨d,kvs,k,rfl,rfl,hd,hl,q⟩:=h
 cases ro
 obtain ⟨hz,hm,vs,rel,dd⟩:=(show bK X.prog X.w H s.heap d (.dK kvs) from I.hok d _ hd)
 exact wpAny_setItem_pairs (hsz:=by rw [←rel.length];exact hz) (lu ri) dd fun h' hd' sb=>⟨_,I.dset hd hm (zQ (by rw [sizeLine_eq];trivial)) (zh rel rv) hd' sb,q _ .mk'⟩
inductive Ij (ng:Bool) (x:V) (y:V) (H:Hp) (Q:VK):Prop
 | mk (d:Addr) (kvs:List (aY×V)) (k:aY) (h0:y=.ref d) (h1:x=gk k) (h2:H d=some (.dK kvs)) (h3:Q (.bl (if ng then !(valD kvs k).isSome else (valD kvs k).isSome)) H)
def Gy (ng:Bool):R2:=fun x y H Q=>Ij ng x y H Q
theorem zZ {o:Option V}{p:Option Value} (h:uS o p):o.isSome=p.isSome:=by
 cases o <;> cases p <;> first | rfl | exact h.elim
theorem Cz:dA X (compareOp .In) (Gy false):=by
 intro pins s σ H x y v u Q I rx ry h
 obtain ⟨d,kvs,k,rfl,rfl,hd,q⟩:=h
 cases ry
 obtain ⟨hz,hm,vs,rel,dd⟩:=(show bK X.prog X.w H s.heap d (.dK kvs) from I.hok d _ hd)
 show wpAny _ X.A (do return Value.bool (←contains (.ref d) v)) _ _ s
 refine wpAny_bind (wpAny_contains_slot dd.typeIs PySem.F.slot_dict_contains (wpAny_mono (call_meetsIn (Q:=fun b s'=>b=.bool (valueAt vs k).isSome∧s'={ s with toks:=s.toks+1 }) PySem.F.slot_dict_contains dd.typeIs PySem.F.entry_dict_contains (PySem.F.args_dict_contains_2 _ _) (meets_dict_contains (cK X.prog X.w) d (lu rx) hm) ⟨_,dd.mapOf,rfl,rfl⟩) (fun b s' hb=>?_) fun _ _ e=>e))
 obtain ⟨rfl,rfl⟩:=hb
 refine wpAny_truthy_bool (wpAny_pure ?_)
 rw [←zZ (rel.valD k)]
 exact ⟨.bl _,H,I.tok _,rfl,q⟩
theorem tV:dA X (compareOp .NotIn) (Gy true):=by
 intro pins s σ H x y v u Q I rx ry h
 obtain ⟨d,kvs,k,rfl,rfl,hd,q⟩:=h
 cases ry
 obtain ⟨hz,hm,vs,rel,dd⟩:=(show bK X.prog X.w H s.heap d (.dK kvs) from I.hok d _ hd)
 show wpAny _ X.A (do return Value.bool (!(←contains (.ref d) v))) _ _ s
 refine wpAny_bind (wpAny_contains_slot dd.typeIs PySem.F.slot_dict_contains (wpAny_mono (call_meetsIn (Q:=fun b s'=>b=.bool (valueAt vs k).isSome∧s'={ s with toks:=s.toks+1 }) PySem.F.slot_dict_contains dd.typeIs PySem.F.entry_dict_contains (PySem.F.args_dict_contains_2 _ _) (meets_dict_contains (cK X.prog X.w) d (lu rx) hm) ⟨_,dd.mapOf,rfl,rfl⟩) (fun b s' hb=>?_) fun _ _ e=>e))
 obtain ⟨rfl,rfl⟩:=hb
 refine wpAny_truthy_bool (wpAny_pure ?_)
 rw [←zZ (rel.valD k)]
 exact ⟨.bl _,H,I.tok _,rfl,q⟩
theorem Fv {pos:Pos}:PE X (.Dict [] [] pos) (fun _ H Q=>∀p H',Nw H p (.dK []) H'→Q (.ref p) H'):=by
 intro pins s σ H Q I h
 refine wpAny_Dict_empty ?_
 have big:(s.heap.objs.size==sysModules)=false:=by
  have e:mainGlobals<s.heap.objs.size:=(I.mod.glob.keeps I.bk).lt
  exact beq_eq_false_iff_ne.mpr (Ne.symm (Nat.ne_of_lt (Nat.lt_trans (by decide) e)))
 exact ⟨.ref _,_,I.laid (fun _ _ e=>Heap.get?_push_of_some _ e) (Nat.le_refl _) (show bK X.prog X.w _ _ _ (.dK []) from ⟨Nat.zero_le _,big,[],.nil,Heap.DictOf.new s.heap⟩),rfl,h _ _ (.mk' I.fresh)⟩
end
section
variable {prog:Program}{w:World}{A:Around}{R:Result→Shared→Prop}{s:Shared}
theorem uz {kx vx target iter:Expr}{ifs:List Expr}{scope:Scope}{pos:Pos}{it:Value}{D:Addr}{env:Env} (I:Nat→Shared→Prop)
 (turn:∀n s,I n s→wpAny (model prog w) A (pyNext it) (fun r s₁=>match r with
  | none=>R (.ok .next) s₁
  | some v=>wpAny (model prog w) A (letOwnedTupleGo target it v) (fun _ s₁'=>wpAny (model prog w) A (assign target env v) (fun _ s₂=>
   wpAny (model prog w) A (forIn ifs true fun c r=>if r=true then do let ok ←isTrue c env (eval c env);pure (ForInStep.yield ok) else pure (ForInStep.yield r)) (fun ok s₃=>
    if ok=true then wpAny (model prog w) A (eval kx env) (fun kv s₄=>wpAny (model prog w) A (eval vx env) (fun vv s₅=>
     wpAny (model prog w) A (dictSet D kv vv) (fun _ s₆=>∃m,m<n∧I m s₆) (fun _ _=>False) s₅) (fun _ _=>False) s₄) (fun _ _=>False) s₃
    else ∃m,m<n∧I m s₃) (fun _ _=>False) s₂) (fun _ _=>False) s₁') (fun _ _=>False) s₁) (fun _ _=>False) s)
 (n:Nat) (h:I n s) :
 codeAny (model prog w) A (.compLoop (.DictComp kx vx [⟨target,iter,ifs,0⟩] scope pos) 0 it (.ref D) env) R s:=by
 refine codeAny_loop rfl I (fun n s hI=>?_) n h
 show wpAny _ A ((compTurn (.DictComp kx vx [⟨target,iter,ifs,0⟩] scope pos) 0 it (.ref D) env).onRaise (fun x=>do noteFrame x env;theTreesLotGoes x)) _ _ s
 refine wpAny_noted ?_
 rw [compTurn_dict]
 refine wpAny_bind (wpAny_standAt (wpAny_bind (wpAny_mono (turn n s hI) (fun r s₁ h₁=>?_) fun _ _ h'=>h'.elim)))
 cases r with
 | none=>exact wpAny_pure h₁
 | some v=>
  refine wpAny_bind (wpAny_mono h₁ (fun _ s₁' h₁'=>?_) fun _ _ h'=>h'.elim)
  refine wpAny_bind (wpAny_mono h₁' (fun _ s₂ h₂=>wpAny_bind (wpAny_mono h₂ (fun ok s₃ h₃=>?_) fun _ _ h'=>h'.elim)) fun _ _ h'=>h'.elim)
  cases ok with
  | false=>exact wpAny_pure ⟨rfl,h₃⟩
  | true=>
   exact wpAny_bind (wpAny_bind (wpAny_mono h₃ (fun kv s₄ h₄=>wpAny_bind (wpAny_holding (wpAny_mono h₄ (fun vv s₅ h₅=>wpAny_bind (wpAny_standAt (wpAny_holding (wpAny_mono h₅ (fun _ s₆ h₆=>wpAny_pure ⟨rfl,h₆⟩) fun _ _ h'=>h'.elim)))) fun _ _ h'=>h'.elim))) fun _ _ h'=>h'.elim))
end
def Ey (J:It) (σc:St) (g:TG) (tt:TT) (tk tv:TE) (D:Addr) (H1:Hp) (Q:VK):Prop:=
 ∃W:Nat→Nat→Hp→List (aY×V)→Prop,(∃m,W 0 m (aP H1 D (.dK [])) [])∧∀i m H ys,W i m H ys→H D=some (.dK ys)∧
  ((J.stop i H∧Q (.ref D) H)∨(J.go i H∧ys.length<sizeLine∧∃N:Hp→List (aY×V)→Prop,(∀H' ys',N H' ys'→∃m',m'<m∧W (i+1) m' H' ys')∧
    ∀x H',J.yld i H x H'→g x σc H' fun σ2 H2=>ja σc σ2∧tt σ2 H2 fun b H3=>if b=true then tk σ2 H3 fun kv H4=>∃k,kv=gk k∧tv σ2 H4 fun y H5=>H5 D=some (.dK ys)∧N (aP H5 D (.dK (eM ys k y))) (eM ys k y) else N H3 ys))
def D9 (wi:TI) (L:Nat) (src:List Nat) (g:TG) (tt:TT) (tk tv:TE):TE:=fun σ H Q=>wi σ H fun J H1=>∀D,H1 D=none→Ey J (eC L src σ) g tt tk tv D H1 Q
section
variable {X:Cx}{kx vx tg iter:Expr}{ifs:List Expr}{scope:Scope}{pos:Pos}{N':List Str}{L:Nat}{src:List Nat}{wi:TI}{g:TG}{tt:TT}{tk tv:TE}
theorem Fl (hc:X.calm=true) (ck:x6 X.env.scope X.N scope N' L src) {cl:List (Str×Addr)}{pins:List (Addr×Obj)}{s:Shared}{σ:St}{H:Hp}{Q:VK} (I:ai X pins σ H s)
 (hsub:∀x c,cl.lookup x=some c→X.env.cells.lookup x=some c) (hhas:∀y∈scope.names,y.2=.free→∃c,cl.lookup y.1=some c)
 (hi:PI X tg iter wi) (hg:∀cl C s H ex pn,PG (bz X scope cl C N' s H ex pn) tg g) (hif:∀cl C s H ex pn,oK (bz X scope cl C N' s H ex pn) ifs tt)
 (hk:∀cl C s H ex pn,PE (bz X scope cl C N' s H ex pn) kx tk) (hv:∀cl C s H ex pn,PE (bz X scope cl C N' s H ex pn) vx tv) (h:D9 wi L src g tt tk tv σ H Q) {RR:Value→Addr→Result→Shared→Prop}
 (hRR:∀D C H' f s' m,ai X pins σ H' s'→s'.heap.Ns C m→jM X pins H' C→Q (.ref D) H'→RR (.ref D) C (.ok f) s') :
 wpAny (model X.prog X.w) X.A (eval iter X.env) (fun x s₁=>wpAny (model X.prog X.w) X.A (pyIter x) (fun it s₂=>wpAny (model X.prog X.w) X.A newDict (fun acc s₃=>
  wpAny (model X.prog X.w) X.A (newFunctionEnv scope X.env.globals cl [] X.env.qual none .none (some X.env)) (fun cenv s₄=>
   codeAny (model X.prog X.w) X.A (.compStart (.DictComp kx vx [⟨tg,iter,ifs,0⟩] scope pos) 0 it acc { cenv with scope:=relabel scope X.env }) (RR acc cenv.locals) s₄) X.xe s₃) X.xe s₂) X.xe s₁) X.xe s:=by
 refine aR (hi pins s σ H _ I h) fun v s1 h1=>aR h1 fun itv s2 h2=>?_
 obtain ⟨it,fp,tn,J,H2,e,I2,T,st2,f2,q⟩:=h2
 subst e
 refine wpAny_newObj_type (wpAny_newFunctionEnv ck.nocell (by intro y hy;simp at hy) (fun h₁ hns₁ hsb₁=>?_) ck.kind)
 dsimp only at hns₁ hsb₁ ⊢
 generalize hH2:s2.heap.push { cls:=.type "dict",dict:=none,data:=.dict #[] }=hp2 at hns₁ hsb₁ ⊢
 have hC:hp2.objs.size=s2.heap.objs.size+1:=by rw [←hH2,Heap.size_push]
 have hDC:s2.heap.objs.size≠hp2.objs.size:=by rw [hC];exact Nat.ne_of_lt (Nat.lt_succ_self _)
 have hCle:s2.heap.objs.size≤hp2.objs.size:=by rw [hC];exact Nat.le_succ _
 have below:∀b,b<s2.heap.objs.size→b≠hp2.objs.size∧b≠s2.heap.objs.size:=fun b hb=>⟨by rw [hC];exact Nat.ne_of_lt (Nat.lt_succ_of_lt hb),Nat.ne_of_lt hb⟩
 have old:∀b o,s2.heap.get? b=some o→h₁.get? b=some o:=fun b o e=>hsb₁.extBut b o (below b (Heap.lt_size e)).1 (Heap.get?_push_of_some _ (hH2▸Heap.get?_push_of_some _ e))
 have hacc0:(s2.heap.push { cls:=.type "dict",dict:=none,data:=.dict #[] }).DictOf (cK X.prog X.w) s2.heap.objs.size []:=Heap.DictOf.new s2.heap
 have hacc:h₁.DictOf (cK X.prog X.w) s2.heap.objs.size []:=hacc0.at fun o e=>hsb₁.extBut _ _ hDC (Heap.get?_push_of_some _ (hH2▸e))
 have hbig:(s2.heap.objs.size==sysModules)=false:=by
  have e:mainGlobals<s2.heap.objs.size:=(I2.mod.glob.keeps I2.bk).lt
  exact beq_eq_false_iff_ne.mpr (Ne.symm (Nat.ne_of_lt (Nat.lt_trans (by decide) e)))
 have hDn:H2 s2.heap.objs.size=none:=I2.fresh
 obtain ⟨W,⟨m0,w0⟩,turn⟩:=q _ hDn
 have fpo:∀b∈fp,∃o,s2.heap.get? b=some o∧∀v,o.data≠.cell v:=T.obj _ _ st2
 have fplt:∀b∈fp,b<s2.heap.objs.size:=fun b hb=>by obtain ⟨o,e,_⟩:=fpo b hb;exact Heap.lt_size e
 have hfrs:∀b∈fp,b∉qK X.stack:=fun b hb z=>by
  rcases List.mem_cons.mp (I2.stkSub b z) with z' | z'
  ·exact (f2 b hb).2.1 z'
  ·exact (f2 b hb).2.2.1 z'
 generalize hX:bz X scope cl hp2.objs.size N' s2 H2 fp (X.pn++pins)=X'
 have ok':X'.Ok:=by
  subst hX
  refine ⟨I2.ok.mod,ck.kind,I2.ok.glob,I2.ok.blt,hCle,fun x y c e1 e2=>I2.ok.inj x y c (hsub _ _ e1) (hsub _ _ e2),fun x hx=>?_,fun x c z _=>(by cases z),I2.ok.hd,I2.ok.frames,.inl rfl,fun b hb=>⟨(below b (fplt b hb)).1,fun x c e=>(f2 b hb).2.2.2.2.1 x c (hsub _ _ e)⟩,
   I2.bs,Nat.le_trans I2.ok.bsz I2.sz,fun b o e hb=>?_,hfrs,I2.stack,I2.stkFree⟩
  ·-- a name that is a cell or free
   have hx':(relabel scope X.env).names.lookup x=some .cell∨(relabel scope X.env).names.lookup x=some .free:=hx
   have key:∀(names:List (Str×NameKind)),(∀y∈names,y.2≠.cell)→
    ((names.map fun (n,k)=>if (k==NameKind.free && X.env.scope.kind==.function && X.env.kindOf n==some .cell) then (n,NameKind.cell) else (n,k)).lookup x=some .cell∨
     (names.map fun (n,k)=>if (k==NameKind.free && X.env.scope.kind==.function && X.env.kindOf n==some .cell) then (n,NameKind.cell) else (n,k)).lookup x=some .free)→∃y∈names,y.1=x∧y.2=.free:=by
    intro names
    induction names with
    | nil=>intro _ h;rcases h with h | h <;> simp at h
    | cons y r ih=>
     intro hn h
     obtain ⟨n,k⟩:=y
     by_cases hb:x=n
     ·subst hb
      refine ⟨(x,k),List.mem_cons_self,rfl,?_⟩
      by_cases hk:k=.free
      ·exact hk
      ·exfalso
       have hkb:(k==NameKind.free)=false:=by simpa using hk
       have hnc:k≠.cell:=hn (x,k) List.mem_cons_self
       simp only [List.map_cons,hkb,Bool.false_and,Bool.false_eq_true,if_false,List.lookup_cons,beq_self_eq_true,if_true] at h
       rcases h with h | h
       ·exact hnc (Option.some.inj h)
       ·exact hk (Option.some.inj h)
     ·have hb':(x==n)=false:=by simpa using hb
      have h':((r.map fun (n,k)=>if (k==NameKind.free && X.env.scope.kind==.function && X.env.kindOf n==some .cell) then (n,NameKind.cell) else (n,k)).lookup x=some .cell∨
       (r.map fun (n,k)=>if (k==NameKind.free && X.env.scope.kind==.function && X.env.kindOf n==some .cell) then (n,NameKind.cell) else (n,k)).lookup x=some .free):=by
       rw [List.map_cons] at h
       dsimp only at h
       by_cases hcnd:(k==NameKind.free && X.env.scope.kind==.function && X.env.kindOf n==some .cell)=true
       ·rw [if_pos hcnd] at h
        simpa only [List.lookup_cons,hb'] using h
       ·rw [if_neg hcnd] at h
        simpa only [List.lookup_cons,hb'] using h
      obtain ⟨y,hy,e1,e2⟩:=ih (fun y hy=>hn y (List.mem_cons_of_mem _ hy)) h'
      exact ⟨y,List.mem_cons_of_mem _ hy,e1,e2⟩
   obtain ⟨y,hy,e1,e2⟩:=key scope.names ck.nocell hx'
   obtain ⟨c,hc'⟩:=hhas y hy e2
   exact ⟨c,e1▸hc'⟩
  ·rcases (f2 b hb).2.2.2.1 with z | z
   ·exact I2.ok.noex b o e z
   ·exact absurd (Nat.lt_of_lt_of_le (Heap.lt_size e) (Nat.le_trans I2.ok.bsz z)) (Nat.lt_irrefl _)
 have stat:∀{H':Hp},(∀b∈fp,H' b=none)→∀b∈fp,jM X' [] H' b:=by
  subst hX
  intro H' hn b hb
  refine ⟨hn b hb,(below b (fplt b hb)).1,hfrs b hb,.inl hb,fun x c e=>(f2 b hb).2.2.2.2.1 x c (hsub _ _ e),fun p hp=>?_⟩
  have hp':p∈X.pn++pins:=by simpa [bz] using hp
  exact (f2 b hb).2.2.2.2.2 p hp'
 have I1:ai X' [] (eC L src σ) (aP H2 s2.heap.objs.size (.dK [])) { s2 with heap:=h₁,toks:=s2.toks+([]:List (Str×Value)).length }:=by
  subst hX
  have up:∀b o,H2 b=some o→aP H2 s2.heap.objs.size (.dK []) b=some o:=fun b o e=>by rw [aE (bf e hDn)];exact e
  have upn:∀b,b<s2.heap.objs.size→H2 b=none→aP H2 s2.heap.objs.size (.dK []) b=none:=fun b hb e=>by rw [aE (Nat.ne_of_lt hb)];exact e
  refine ⟨ok',rfl,I2.bare,Un.laid old (Nat.le_refl _) hDn,⟨_,hns₁,fun i x v e1 e2 e3=>?_⟩,fun x c e=>?_,?_,fun x c e=>?_,fun p hp=>?_,I2.hok.laid old (Nat.le_refl _) ⟨Nat.zero_le _,hbig,[],.nil,hacc⟩,?_⟩
  ·-- the names of the def around
   have hiL:L≤i:=by
    by_cases hlt:i<L
    ·exfalso
     unfold eC at e2
     rw [List.getElem?_append_left (by simpa using hlt),List.getElem?_replicate,if_pos hlt] at e2
     cases e2
    ·trivial
   have e2':(src.map fun j=>(σ[j]?).join)[i - L]?=some (some v):=by
    unfold eC at e2
    rw [List.getElem?_append_right (by simpa using hiL),List.length_replicate] at e2
    exact e2
   rw [List.getElem?_map] at e2'
   cases hj:src[i - L]? with
   | none=>rw [hj] at e2';cases e2'
   | some j=>
    rw [hj] at e2'
    have e3':(σ[j]?).join=some v:=Option.some.inj e2'
    have hσ:σ[j]?=some (some v):=by
     cases q:σ[j]? with
     | none=>rw [q] at e3';cases e3'
     | some o=>rw [q] at e3';exact congrArg some e3'
    obtain ⟨x',g1,g2,g3⟩:=ck.frees (i - L) j hj
    have:L+(i - L)=i:=by trivial
    rw [this] at g1
    have ex:x'=x:=Option.some.inj (g1.symm.trans e1)
    subst ex
    have hfree:=ck.free _ (PySem.mem_of_lookup g3) rfl
    obtain ⟨m,hn,hl⟩:=I2.loc
    obtain ⟨u,r,l⟩:=hl j x' v g2 hσ (hfree.elim (fun z=>.inr (.inl z)) fun z=>.inr (.inr z))
    refine ⟨u,r,.inr ⟨?_,?_⟩⟩
    ·-- its kind in the block
     have key:∀(names:List (Str×NameKind)),names.lookup x'=some .free→
      ((names.map fun (n,k)=>if (k==NameKind.free && X.env.scope.kind==.function && X.env.kindOf n==some .cell) then (n,NameKind.cell) else (n,k)).lookup x'=some .cell∨
       (names.map fun (n,k)=>if (k==NameKind.free && X.env.scope.kind==.function && X.env.kindOf n==some .cell) then (n,NameKind.cell) else (n,k)).lookup x'=some .free):=by
      intro names
      induction names with
      | nil=>intro h;simp at h
      | cons y r ih=>
       intro h
       obtain ⟨n,k⟩:=y
       by_cases hb:x'=n
       ·subst hb
        simp only [List.lookup_cons,beq_self_eq_true,if_true] at h
        have hk:k=.free:=Option.some.inj h
        subst hk
        rw [List.map_cons]
        dsimp only
        by_cases hcnd:(NameKind.free==NameKind.free && X.env.scope.kind==.function && X.env.kindOf x'==some .cell)=true
        ·rw [if_pos hcnd];left;simp [List.lookup_cons]
        ·rw [if_neg hcnd];right;simp [List.lookup_cons]
       ·have hb':(x'==n)=false:=by simpa using hb
        have h':=ih (by simpa only [List.lookup_cons,hb'] using h)
        rw [List.map_cons]
        dsimp only
        by_cases hcnd:(k==NameKind.free && X.env.scope.kind==.function && X.env.kindOf n==some .cell)=true
        ·rw [if_pos hcnd];simpa only [List.lookup_cons,hb'] using h'
        ·rw [if_neg hcnd];simpa only [List.lookup_cons,hb'] using h'
     exact key scope.names g3
    ·obtain ⟨c,hcl⟩:=hhas _ (PySem.mem_of_lookup g3) rfl
     have hcx:=hsub _ _ hcl
     rcases l with ⟨k1,_⟩ | ⟨_,c',e4,z⟩
     ·exfalso
      have k1':X.env.scope.names.lookup x'=some .local:=k1
      rcases hfree with z | z
      ·rw [z] at k1';cases k1'
      ·rw [z] at k1';cases k1'
     ·rw [hcx] at e4
      cases e4
      obtain ⟨o,ho,hd⟩:=z
      exact ⟨c,hcl,o,old _ _ ho,hd⟩
  ·obtain ⟨v,o,ho,hd⟩:=I2.cell x c (hsub _ _ e)
   exact ⟨v,o,old _ _ ho,hd⟩
  ·show aP H2 s2.heap.objs.size (.dK []) hp2.objs.size=none
   rw [aE (Ne.symm hDC)]
   exact I2.hok.fresh hCle
  ·obtain ⟨v,o,ho,hd⟩:=I2.cell x c (hsub _ _ e)
   exact upn c (Heap.lt_size ho) (I2.freeC x c (hsub _ _ e))
  ·have hp':p∈X.pn++pins:=by simpa [bz] using hp
   obtain ⟨e,n,ne,nf,d⟩:=I2.pin p hp'
   have hlt:=Heap.lt_size e
   refine ⟨old _ _ e,upn _ hlt n,(below _ hlt).1,fun z=>?_,d⟩
   rcases List.mem_cons.mp (I2.stkSub _ z) with z' | z'
   ·exact ne z'
   ·exact nf z'
  ·show (eC L src σ).length=N'.length
   unfold eC
   rw [List.length_append,List.length_replicate,List.length_map,ck.len]
 have eA:X'.A=X.A:=by subst hX;rfl
 have eP:X'.prog=X.prog:=by subst hX;rfl
 have eW:X'.w=X.w:=by subst hX;rfl
 have eK:X'.K=X.K:=by subst hX;rfl
 have ec:X'.calm=true:=by subst hX;exact hc
 have exe:X'.xe=fun _ _=>False:=by subst hX;rfl
 have eE:X'.env=compEnvC scope cl hp2.objs.size X.env:=by subst hX;rfl
 have hg':PG X' tg g:=by subst hX;exact hg _ _ _ _ _ _
 have hif':oK X' ifs tt:=by subst hX;exact hif _ _ _ _ _ _
 have hk':PE X' kx tk:=by subst hX;exact hk _ _ _ _ _ _
 have hv':PE X' vx tv:=by subst hX;exact hv _ _ _ _ _ _
 have aft:∀{H':Hp}{s':Shared},ai X' [] (eC L src σ) H' s'→ai X pins σ H' s'∧(∃m,s'.heap.Ns hp2.objs.size m)∧jM X pins H' hp2.objs.size:=by
  subst hX
  intro H' s' J
  refine ⟨I2.call' (ch:=fp) J.os J.base J.hok J.bare fun b hb=>⟨(f2 b hb).2.2.2.1,(f2 b hb).2.1,(f2 b hb).2.2.2.2.1,(f2 b hb).2.2.2.2.2⟩,?_,I2.fpOk hCle J.free⟩
  obtain ⟨m,hn,_⟩:=J.loc
  exact ⟨m,hn⟩
 have st1:tn 0 h₁:=T.keep _ _ _ st2 fun b hb o e=>old b o e
 have loop:∀s₃:Shared,s₃={ s2 with heap:=h₁,toks:=s2.toks+([]:List (Str×Value)).length }→
  codeAny (model X.prog X.w) X.A (.compLoop (.DictComp kx vx [⟨tg,iter,ifs,0⟩] scope pos) 0 (.ref it) (.ref s2.heap.objs.size) (compEnvC scope cl hp2.objs.size X.env))
   (RR (.ref s2.heap.objs.size) hp2.objs.size) s₃:=by
  rintro s₃ rfl
  refine uz (fun n s'=>kJ fun i H' ys=>ai X' [] (eC L src σ) H' s'∧tn i s'.heap∧(∀b∈fp,H' b=none)∧W i n H' ys) ?_ m0
   ⟨0,_,[],I1,st1,fun b hb=>(by rw [aE (below b (fplt b hb)).2];exact (f2 b hb).1),w0⟩
  rintro n s3 ⟨i,H3,ys,I3,st3,fr3,w3⟩
  obtain ⟨hD,alt⟩:=turn i n H3 ys w3
  rcases alt with ⟨stop,qn⟩ | ⟨go,hlen,N,hN,step⟩
  ·have d:=T.done X' eP eW eK ec i [] s3 (eC L src σ) H3 (fun _ _=>False) I3 (stat fr3) st3 stop
   rw [eA] at d
   refine aR d fun r s4 ⟨hr,I4⟩=>?_
   subst hr
   obtain ⟨J,⟨m,hn⟩,fpC⟩:=aft I4
   exact hRR _ _ H3 .next s4 m J hn fpC qn
  ·have d:=T.item X' eP eW eK ec i [] s3 (eC L src σ) H3 (fun _ _=>False) I3 (stat fr3) st3 go
   rw [eA] at d
   refine aR d fun r s4 ⟨u,hr,h4⟩=>?_
   subst hr
   refine aR h4 fun _ s5 ⟨x,H5,I5,r5,y5,st5,fr5⟩=>?_
   have I5':=I5.pinned (stat fr5) (T.obj _ _ st5)
   have a1:=hg' _ s5 (eC L src σ) H5 x u _ I5' r5 (step x H5 y5)
   rw [eP,eW,eA,eE,exe] at a1
   refine aR a1 fun _ s6 ⟨σ6,H6,I6,bk,q6⟩=>?_
   have a2:=hif' _ s6 σ6 H6 _ I6 q6
   rw [eP,eW,eA,eE,exe] at a2
   refine aR a2 fun b s7 ⟨H7,I7,q7⟩=>?_
   have again:∀{H8:Hp}{s8:Shared}{ys':List (aY×V)},ai X' ([]++qx fp s5.heap) σ6 H8 s8→N H8 ys'→∃m,m<n∧kJ fun i H' ys=>ai X' [] (eC L src σ) H' s8∧tn i s8.heap∧(∀b∈fp,H' b=none)∧W i m H' ys:=fun {H8 s8 ys'} I8 n8=>by
    obtain ⟨m',hm,w8⟩:=hN H8 ys' n8
    refine ⟨m',hm,i+1,H8,ys',(I8.unpinned).weak bk.1.symm bk.2,T.keep _ _ _ st5 fun b hb o e=>(I8.pin (b,o) (List.mem_append_right _ (List.mem_append_right _ (gu hb e)))).1,fun b hb=>?_,w8⟩
    obtain ⟨o,e,d⟩:=T.obj _ _ st5 b hb
    exact (I8.pin (b,o) (List.mem_append_right _ (List.mem_append_right _ (gu hb e)))).2.1
   cases b with
   | false=>
    rw [if_neg Bool.false_ne_true] at q7 ⊢
    exact again I7 q7
   | true=>
    rw [if_pos rfl] at q7 ⊢
    have a3:=hk' _ s7 σ6 H7 _ I7 q7
    rw [eP,eW,eA,eE,exe] at a3
    refine aR a3 fun kv s8 ⟨yk,H8,I8,r8,k,ek,q8⟩=>?_
    subst ek
    have a4:=hv' _ s8 σ6 H8 _ I8 q8
    rw [eP,eW,eA,eE,exe] at a4
    refine aR a4 fun vv s9 ⟨y,H9,I9,r9,hD9,q9⟩=>?_
    obtain ⟨hz,hm,vs,rel,dd⟩:=(show bK X'.prog X'.w H9 s9.heap s2.heap.objs.size (.dK ys) from I9.hok _ _ hD9)
    rw [eP,eW] at dd
    refine wpAny_dictSet_pairs (knd:=cK X.prog X.w) (hsz:=by rw [←rel.length];exact hz) (lu r8) dd fun h' hd' sb=>?_
    have hd2:h'.DictOf (cK X'.prog X'.w) s2.heap.objs.size (stored vs k vv):=by rw [eP,eW];exact hd'
    exact again (I9.dset (t':=s9.toks+1) hD9 hm (zQ hlen) (zh rel r9) hd2 sb) q9
 exact codeAny_compStart_dict (loop _ rfl) (T.self _ 0 _ _ _ st1 (loop _ rfl))
theorem BU {j:Nat}{y:Str}{py spos:Pos} (hN:X.N.Nodup) (hj:X.N[j]?=some y) (hy:X.env.scope.names.lookup y=some .local) (hsw:swapsWith (.DictComp kx vx [⟨tg,iter,ifs,0⟩] scope pos) (some (.Name y py)) spos.line X.env=pure true)
 (hc:X.calm=true) (ck:pJ X.env.scope X.N scope N' L src=true) (hi:PI X tg iter wi) (hg:∀cl C s H ex pn,PG (bz X scope cl C N' s H ex pn) tg g) (hif:∀cl C s H ex pn,oK (bz X scope cl C N' s H ex pn) ifs tt)
 (hk:∀cl C s H ex pn,PE (bz X scope cl C N' s H ex pn) kx tk) (hv:∀cl C s H ex pn,PE (bz X scope cl C N' s H ex pn) vx tv) (hs:∀x,foldedSetIterable iter X.env x=pure x:=by intro _;rfl) :
 PS X (.Assign [.Name y py] (.DictComp kx vx [⟨tg,iter,ifs,0⟩] scope pos) spos) (Bz (D9 wi L src g tt tk tv) (tI j)):=by
 intro pins s σ H D I h
 have ck:=rf ck
 obtain ⟨cl,hclos,hsub,hhas⟩:=wg (scope:=scope) (env:=X.env) fun y hy e=>I.ok.has y.1 (ck.free y hy e)
 rw [exec_Assign_Name_used _ _ _ _ hsw]
 refine wpAny_bind (wpAny_standAt (wpAny_bind ?_))
 show wpAny _ X.A (do let _ ←comprehension (.DictComp kx vx [⟨tg,iter,ifs,0⟩] scope pos) scope X.env _ newDict false (eval iter X.env) (some (assign (.Name y py) X.env))) _ _ s
 refine wpAny_bind (wpAny_mono (wpAny_comprehension_free (use:=some (assign (.Name y py) X.env)) (Q:=fun _ s'=>SP X pins D .next s') rfl hs hclos ck.kind ck.loc
  (Fl hc ck I hsub hhas hi hg hif hk hv h (RR:=fun acc C=>compPost (model X.prog X.w) X.A X.xe (some (assign (.Name y py) X.env)) (fun _ s'=>SP X pins D .next s') acc C) ?_)) (fun _ s' hq=>wpAny_pure (wpAny_pure hq)) fun _ _ e=>e)
 intro L' C H' f s' m J hn fpC q
 show wpAny _ X.A (assign (.Name y py) X.env (.ref L')) _ _ _
 refine wpAny_assign_Name (uP J hN hj (.inl hy) (v:=.ref L') rfl (fun s2 J2 hsb=>?_) (.inr hy))
 obtain ⟨f0,f1,f2,f3,f4,f5⟩:=fpC
 obtain ⟨a,hsb,ha⟩:=hsb
 have hCa:C≠a:=by
  rcases ha with rfl | ha
  ·exact f1
  ·exact fun z=>f4 _ _ ha z.symm
 refine ⟨m,hn.sameBut hsb hCa,fun h' hsb'=>⟨_,H',?_,q⟩⟩
 exact J2.turned (t':=s2.toks) (fun b o hb e=>(hsb'.2 b hb).trans e) f0 f1 f3 f4 f5
end
end L2
namespace KM
theorem mul_le_l {a b c:Rat} (h:a≤b) (hc:0≤c):c*a≤c*b:=Rat.mul_le_mul_of_nonneg_left h hc
variable {ls:List (List Nat)}{es done:List Edge}{W u:List Nat→Rat}{S:List (List Nat)}{q:List Nat}{m:Rat}
end KM
namespace L2
open PySem PySem.Spec PyProof.Rows
section
variable {z:Nat}{E:Addr→Prop}{H H':Hp}{n m k:Nat}{v:V}{xs ys:List V}
end
section
variable {X:Cx}{K:PySem.W.Frag}
end
section
variable {X:Cx}
inductive FC (x:V) (vs:List V) (H:Hp) (Q:VK):Prop
 | mk (l:Addr) (ks:List (List Nat)) (k:List Nat) (j:Nat) (h0:x=.ref l) (h1:vs=[aG k]) (h2:H l=some (.lst (ks.map aG))) (h3:ks.length≤10000) (h4:ks[j]?=some k) (h5:ks.Nodup) (h6:Q (.int (j:Int)) H)
def Hx:V→List V→Hp→VK→Prop:=fun x vs H Q=>FC  x vs H Q
theorem Ee:B0 X "list.index" Hx:=by
 intro pins s σ H x vs v us Q I rx rv h
 obtain ⟨l,ks,k,j,rfl,rfl,hH,hz,hj,nd,q⟩:=h
 cases rx
 obtain ⟨u,rfl,ru⟩:=rv.one
 obtain ⟨t,rfl⟩:=ru
 obtain ⟨z,its,n,r,hl,e⟩:=I.lstM hH
 have hlen:ks.length=its.length:=by rw [←hl,List.length_map]
 have isI:∀(m:Nat) (w:Value),its[m]?=some w→bI fun i t'=>ks[m]?=some i∧w=.str (S i) t':=fun m w hw=>by
  obtain ⟨i,hi⟩:∃i,ks[m]?=some i:=⟨_,List.getElem?_eq_getElem (by rw [hlen];exact (List.getElem?_eq_some_iff.mp hw).1)⟩
  obtain ⟨w',hw',rw'⟩:=r.get (show (ks.map aG)[m]?=some (aG i) by rw [List.getElem?_map,hi];rfl)
  rw [hw] at hw'
  cases hw'
  obtain ⟨t',rfl⟩:=rw'
  exact ⟨i,t',hi,rfl⟩
 have hji:j<its.length:=by rw [←hlen];exact (List.getElem?_eq_some_iff.mp hj).1
 refine call_meets F.slot_list_index ⟨_,e,rfl⟩ F.entry_list_index (F.args_list_index_2 _ _)
  (MeetsSeq.list_index l its.toArray n (.str (S k) t) (fun y=>match y with | .str i _=>i==S k | _=>false) (fun y hy=>?_) j (by simpa using hji) (by trivial) ?_ (fun m hm hlt=>?_)) ⟨e,?_⟩
 ·obtain ⟨m,hm⟩:=List.getElem?_of_mem (by simpa using hy:y∈its)
  obtain ⟨i,t',_,rfl⟩:=isI m y hm
  exact eqGives_str (S i) (S k) t' t
 ·obtain ⟨i,t',e1,e2⟩:=isI j its[j] (List.getElem?_eq_getElem hji)
  rw [hj] at e1
  cases e1
  simp only [List.getElem_toArray,e2,beq_self_eq_true]
 ·have hm':m<its.length:=by simpa using hm
  obtain ⟨i,t',e1,e2⟩:=isI m its[m] (List.getElem?_eq_getElem hm')
  simp only [List.getElem_toArray,e2]
  apply beq_eq_false_iff_ne.mpr
  intro q
  have q':i=k:=qV q
  subst q'
  have a1:=List.getElem?_eq_some_iff.mp e1
  have a2:=List.getElem?_eq_some_iff.mp hj
  have:=zI nd a1.1 a2.1 (by rw [a1.2,a2.2])
  trivial
 ·exact ⟨.int (j:Int),H,I.tok _,⟨()⟩,q⟩
theorem Ck:∀{ks:List Int}{its:List Value},aL (ks.map V.int) its→∃ps:List (Int×Tok),its=ps.map (fun p=>Value.int p.1 p.2)∧ks=ps.map (·.1)
 | [],_,.nil=>⟨[],rfl,rfl⟩
 | k :: ks,u :: us,.cons r t=>by
  obtain ⟨tk,rfl⟩:=r
  obtain ⟨ps,e1,e2⟩:=Ck t
  exact ⟨(k,tk) :: ps,by rw [e1];rfl,by rw [e2];rfl⟩
end
end L2
namespace L2
open PySem
theorem EV {a b c:Rat} (h:a<b) (k:b≤c):a<c:=by grind
theorem zt {a b c:Rat} (h:a≤b) (k:b<c):a<c:=by grind
theorem gJ {p q:KM.Fra} (hp:1≤p.2) (hq:1≤q.2):KM.vl p≤KM.vl q↔p.1*q.2≤q.1*p.2:=by
 have e:KM.vl q - KM.vl p=Rat.divInt (q.1*p.2 - p.1*q.2) (q.2*p.2):=by
  unfold KM.vl
  rw [Rat.divInt_sub_divInt _ _ (by trivial) (by trivial)]
 have h:=Rat.divInt_nonneg_iff_of_pos_right (a:=q.1*p.2 - p.1*q.2) (b:=q.2*p.2) (Int.mul_pos (by trivial) (by trivial))
 rw [←e] at h
 constructor
 ·intro z
  have:=h.mp (by grind)
  trivial
 ·intro z
  have:=h.mpr (by trivial)
  grind
theorem gE {p q:KM.Fra} (hp:1≤p.2) (hq:1≤q.2):KM.vl p<KM.vl q↔p.1*q.2<q.1*p.2:=by
 have:=gJ hq hp
 constructor
 ·intro z
  have n:¬KM.vl q≤KM.vl p:=Rat.not_le.mpr z
  rw [this] at n
  trivial
 ·intro z
  apply Rat.not_le.mp
  rw [this]
  trivial
theorem pN {p:KM.Fra} (h:1≤p.1) (k:1≤p.2):0<KM.vl p:=by
 have:=(gE (p:=(0,1)) (q:=p) (by decide) k).mpr (by show 0*p.2<p.1*1;trivial)
 rw [KM.vl_zero] at this
 exact this
abbrev Cv:=List Nat→KM.Fra
def js (ω:Cv) (b:List Nat) (v:KM.Fra):Cv:=fun l=>if l=b then v else ω l
def i7 (ω:Cv) (t:ap):Bool:=decide (t.most≠(0,1)) && decide ((ω t.bg).1*(KM.lTim t.gain (ω t.en)).2<(KM.lTim t.gain (ω t.en)).1*(ω t.bg).2)
structure LS where
 ω:Cv
 on:List Nat→Option Nat
 lf:Option (List Nat)
 la:List Nat→Nat
 tm:List Nat→Nat
 ct:Nat
def tU (p i:Nat) (t:ap) (s:LS):LS:=if i7 s.ω t=true then ⟨js s.ω t.bg (KM.lTim t.gain (s.ω t.en)),fun l=>if l=t.bg then some i else s.on l,some t.bg,fun l=>if l=t.bg then p else s.la l,fun l=>if l=t.bg then s.ct+1 else s.tm l,s.ct+1⟩ else s
def dI (p:Nat) (ts:List ap) (s:LS):Nat→LS
 | 0=>{ s with lf:=none }
 | i+1=>match ts[i]? with
  | some t=>tU p i t (dI p ts s i)
  | none=>dI p ts s i
theorem vV {p i:Nat}{ts:List ap}{s:LS}{t:ap} (h:ts[i]?=some t):dI p ts s (i+1)=tU p i t (dI p ts s i):=by
 rw [dI,h]
def pq (p:Nat) (ts:List ap) (s:LS):LS:=dI p ts s ts.length
def MM:LS:=⟨fun _=>(1,1),fun _=>none,none,fun _=>0,fun _=>0,0⟩
def fU (ts:List ap):Nat→LS
 | 0=>MM
 | k+1=>pq (k+1) ts (fU ts k)
theorem vq {p i:Nat}{t:ap}{s:LS} (h:i7 s.ω t=true):tU p i t s=⟨js s.ω t.bg (KM.lTim t.gain (s.ω t.en)),fun l=>if l=t.bg then some i else s.on l,some t.bg,fun l=>if l=t.bg then p else s.la l,fun l=>if l=t.bg then s.ct+1 else s.tm l,s.ct+1⟩:=by
 unfold tU;rw [if_pos h]
theorem xA {p i:Nat}{t:ap}{s:LS} (h:i7 s.ω t=false):tU p i t s=s:=by
 unfold tU;rw [if_neg (by rw [h];decide)]
theorem vn {p:Nat}{ts:List ap}{s:LS}:∀{i:Nat},(dI p ts s i).lf=none→(dI p ts s i).ω=s.ω∧∀k t,k<i→ts[k]?=some t→i7 s.ω t=false
 | 0,_=>⟨rfl,fun k t h=>by trivial⟩
 | i+1,h=>by
  cases e:ts[i]? with
  | none=>
   have e':dI p ts s (i+1)=dI p ts s i:=by rw [dI,e]
   rw [e'] at h ⊢
   obtain ⟨h1,h2⟩:=vn h
   refine ⟨h1,fun k t hk et=>?_⟩
   by_cases c:k=i
   ·rw [c,e] at et;cases et
   ·exact h2 k t (by trivial) et
  | some t=>
   rw [vV e] at h ⊢
   cases q:i7 (dI p ts s i).ω t with
   | true=>rw [vq q] at h;cases h
   | false=>
    rw [xA q] at h ⊢
    obtain ⟨h1,h2⟩:=vn h
    refine ⟨h1,fun k t' hk et=>?_⟩
    by_cases c:k=i
    ·rw [c,e] at et;cases et;rw [←h1];exact q
    ·exact h2 k t' (by trivial) et
theorem Fh {p:Nat}{ts:List ap}{s:LS} (h:(pq p ts s).lf=none):(pq p ts s).ω=s.ω∧∀t∈ts,i7 s.ω t=false:=by
 obtain ⟨h1,h2⟩:=vn h
 refine ⟨h1,fun t ht=>?_⟩
 obtain ⟨k,hk⟩:=List.getElem?_of_mem ht
 exact h2 k t (List.getElem?_eq_some_iff.mp hk).1 hk
structure wL (ls:List (List Nat)) (t:ap):Prop where
 b:t.bg∈ls
 e:t.en∈ls
 ne:t.bg≠t.en
 g1:1≤t.gain.1
 g2:1≤t.gain.2
abbrev uW (s:LS) (l:List Nat):Rat:=KM.vl (s.ω l)
abbrev gR (t:ap):Rat:=KM.vl t.gain
structure BI (ls:List (List Nat)) (ts:List ap) (p i:Nat) (s:LS):Prop where
 pos:∀l∈ls,1≤(s.ω l).1∧1≤(s.ω l).2
 on:∀l k,s.on l=some k→∃t,ts[k]?=some t∧t.most≠(0,1)∧t.bg=l∧uW s l≤gR t*uW s t.en∧(s.tm l≤s.tm t.en→uW s l<gR t*uW s t.en)∧s.la l≤s.la t.en+1
 la1:∀l,1≤s.la l→s.on l≠none
 up:∀k t,ts[k]?=some t→t.most≠(0,1)→gR t*uW s t.en≤uW s t.bg∨(if k<i then p else p - 1)≤s.la t.en
 lap:∀l,s.la l≤p
 tmc:∀l,s.tm l≤s.ct
 lf:∀b,s.lf=some b→s.la b=p∧b∈ls
theorem A4 {ls:List (List Nat)}{t:ap}{ω:Cv} (c:wL ls t) (pos:∀l∈ls,1≤(ω l).1∧1≤(ω l).2):KM.vl (KM.lTim t.gain (ω t.en))=KM.vl t.gain*KM.vl (ω t.en)∧1≤(KM.lTim t.gain (ω t.en)).2∧1≤(KM.lTim t.gain (ω t.en)).1:=by
 obtain ⟨p1,p2⟩:=pos t.en c.e
 have g2:=c.g2
 exact ⟨KM.vl_tim (by trivial) (by trivial),(KM.low_spec _ _ (Int.mul_ne_zero (by trivial) (by trivial))).1,pH c.g1 c.g2 p1 p2⟩
theorem zu {ls:List (List Nat)}{t:ap}{ω:Cv} (c:wL ls t) (pos:∀l∈ls,1≤(ω l).1∧1≤(ω l).2):i7 ω t=true↔(t.most≠(0,1)∧KM.vl (ω t.bg)<KM.vl t.gain*KM.vl (ω t.en)):=by
 obtain ⟨e1,e2,e3⟩:=A4 c pos
 unfold i7
 rw [Bool.and_eq_true,decide_eq_true_iff,decide_eq_true_iff,←e1,gE (pos t.bg c.b).2 e2]
theorem BI.step {ls:List (List Nat)}{ts:List ap}{p i:Nat}{s:LS}{t:ap} (hp:1≤p) (c:wL ls t) (et:ts[i]?=some t) (tc:∀t∈ts,wL ls t) (h:BI ls ts p i s):BI ls ts p (i+1) (tU p i t s):=by
 have hlt:=zu c h.pos
 cases q:i7 s.ω t with
 | false=>
  rw [xA q]
  refine ⟨h.pos,h.on,h.la1,fun k t' ek ho=>?_,h.lap,h.tmc,h.lf⟩
  by_cases ck:k=i
  ·subst ck
   rw [et] at ek
   cases ek
   left
   rw [q] at hlt
   have:¬(KM.vl (s.ω t.bg)<KM.vl t.gain*KM.vl (s.ω t.en)):=fun z=>by
    have:=hlt.mpr ⟨ho,z⟩
    cases this
   exact Rat.not_lt.mp this
  ·rcases h.up k t' ek ho with z | z
   ·exact .inl z
   ·right
    by_cases ck2:k<i
    ·rw [if_pos (by trivial)];rw [if_pos ck2] at z;exact z
    ·rw [if_neg (by trivial)];rw [if_neg ck2] at z;exact z
 | true=>
  rw [q] at hlt
  obtain ⟨ho,hl⟩:=hlt.mp rfl
  obtain ⟨e1,e2,e3⟩:=A4 c h.pos
  rw [vq q]
  have ub:∀l,l=t.bg→uW ⟨js s.ω t.bg (KM.lTim t.gain (s.ω t.en)),fun l=>if l=t.bg then some i else s.on l,some t.bg,fun l=>if l=t.bg then p else s.la l,fun l=>if l=t.bg then s.ct+1 else s.tm l,s.ct+1⟩ l=gR t*uW s t.en:=fun l e=>by
   show KM.vl (js _ _ _ l)=_
   unfold js
   rw [if_pos e]
   exact e1
  have un:∀l,l≠t.bg→uW ⟨js s.ω t.bg (KM.lTim t.gain (s.ω t.en)),fun l=>if l=t.bg then some i else s.on l,some t.bg,fun l=>if l=t.bg then p else s.la l,fun l=>if l=t.bg then s.ct+1 else s.tm l,s.ct+1⟩ l=uW s l:=fun l e=>by
   show KM.vl (js _ _ _ l)=_
   unfold js
   rw [if_neg e]
  generalize es:(⟨js s.ω t.bg (KM.lTim t.gain (s.ω t.en)),fun l=>if l=t.bg then some i else s.on l,some t.bg,fun l=>if l=t.bg then p else s.la l,fun l=>if l=t.bg then s.ct+1 else s.tm l,s.ct+1⟩:LS)=s' at ub un ⊢
  have a1:s'.ω=js s.ω t.bg (KM.lTim t.gain (s.ω t.en)):=by rw [←es]
  have a2:∀l,s'.on l=if l=t.bg then some i else s.on l:=fun l=>by rw [←es]
  have a3:∀l,s'.la l=if l=t.bg then p else s.la l:=fun l=>by rw [←es]
  have a4:∀l,s'.tm l=if l=t.bg then s.ct+1 else s.tm l:=fun l=>by rw [←es]
  have a5:s'.ct=s.ct+1:=by rw [←es]
  have a6:s'.lf=some t.bg:=by rw [←es]
  have mono:∀l,uW s l≤uW s' l:=fun l=>by
   by_cases cl:l=t.bg
   ·rw [ub l cl,cl];exact Rat.le_of_lt hl
   ·rw [un l cl];exact Rat.le_refl
  have lamono:∀l,s.la l≤s'.la l:=fun l=>by
   rw [a3]
   by_cases cl:l=t.bg
   ·rw [if_pos cl];exact h.lap l
   ·rw [if_neg cl];exact Nat.le_refl _
  have gpos:∀{t:ap},t∈ts→0<gR t:=fun {t} ht=>pN (tc t ht).g1 (tc t ht).g2
  refine ⟨fun l hl'=>?_,fun l k hk=>?_,fun l h1=>?_,fun k t' ek ho'=>?_,fun l=>?_,fun l=>?_,fun b hb=>?_⟩
  ·rw [a1]
   unfold js
   by_cases cl:l=t.bg
   ·rw [if_pos cl];exact ⟨e3,e2⟩
   ·rw [if_neg cl];exact h.pos l hl'
  ·rw [a2] at hk
   by_cases cl:l=t.bg
   ·rw [if_pos cl] at hk
    cases hk
    have ne:t.en≠t.bg:=fun z=>c.ne z.symm
    refine ⟨t,et,ho,cl.symm,?_,fun z=>?_,?_⟩
    ·rw [ub l cl,un t.en ne];exact Rat.le_refl
    ·rw [a4,a4,if_pos cl,if_neg ne] at z
     have:=h.tmc t.en
     trivial
    ·rw [a3,a3,if_pos cl,if_neg ne]
     rcases h.up i t et ho with z | z
     ·exact absurd hl (Rat.not_lt.mpr z)
     ·rw [if_neg (Nat.lt_irrefl _)] at z
      trivial
   ·rw [if_neg cl] at hk
    obtain ⟨t',e',o',b',l',s',r'⟩:=h.on l k hk
    have gp:=gpos (List.mem_of_getElem? e')
    have hm:=KM.mul_le_l (mono t'.en) (Rat.le_of_lt gp)
    refine ⟨t',e',o',b',?_,fun z=>?_,?_⟩
    ·rw [un l cl];exact Rat.le_trans l' hm
    ·rw [un l cl]
     rw [a4,a4,if_neg cl] at z
     by_cases ce:t'.en=t.bg
     ·rw [ub t'.en ce]
      have:uW s t'.en<gR t*uW s t.en:=by rw [ce];exact hl
      have h2:=Rat.mul_lt_mul_of_pos_left this gp
      exact zt l' h2
     ·rw [un t'.en ce]
      rw [if_neg ce] at z
      exact s' z
    ·rw [a3 l,if_neg cl]
     exact Nat.le_trans r' (Nat.add_le_add_right (lamono _) 1)
  ·rw [a2]
   by_cases cl:l=t.bg
   ·rw [if_pos cl];intro z;cases z
   ·rw [if_neg cl]
    rw [a3,if_neg cl] at h1
    exact h.la1 l h1
  ·by_cases ck:k=i
   ·subst ck
    rw [et] at ek
    cases ek
    left
    rw [ub t.bg rfl,un t.en (fun z=>c.ne z.symm)]
    exact Rat.le_refl
   ·by_cases ce:t'.en=t.bg
    ·right
     rw [a3,if_pos ce]
     split <;> trivial
    ·rcases h.up k t' ek ho' with z | z
     ·left
      rw [un t'.en ce]
      exact Rat.le_trans z (mono _)
     ·right
      rw [a3,if_neg ce]
      by_cases ck2:k<i
      ·rw [if_pos (by trivial)];rw [if_pos ck2] at z;exact z
      ·rw [if_neg (by trivial)];rw [if_neg ck2] at z;exact z
  ·rw [a3]
   by_cases cl:l=t.bg
   ·rw [if_pos cl];exact Nat.le_refl _
   ·rw [if_neg cl];exact h.lap l
  ·rw [a4,a5]
   by_cases cl:l=t.bg
   ·rw [if_pos cl];exact Nat.le_refl _
   ·rw [if_neg cl];have:=h.tmc l;trivial
  ·rw [a6] at hb
   cases hb
   exact ⟨by rw [a3,if_pos rfl],c.b⟩
theorem BI.all {ls:List (List Nat)}{ts:List ap} (tc:∀t∈ts,wL ls t) (p:Nat):∀i,i≤ts.length→BI ls ts p ts.length (fU ts p)→BI ls ts (p+1) i (dI (p+1) ts (fU ts p) i)
 | 0,_,h=>⟨h.pos,h.on,h.la1,fun k t e o=>by
  rcases h.up k t e o with z | z
  ·exact .inl z
  ·right
   rw [if_pos (List.getElem?_eq_some_iff.mp e).1] at z
   rw [if_neg (by trivial)]
   exact z,fun l=>by have:=h.lap l;exact Nat.le_succ_of_le this,h.tmc,fun b hb=>by cases hb⟩
 | i+1,hi,h=>by
  have ih:=BI.all tc p i (by trivial) h
  have e:ts[i]?=some ts[i]:=List.getElem?_eq_getElem (by trivial)
  rw [vV e]
  exact ih.step (by trivial) (tc _ (List.getElem_mem _)) e tc
theorem BI.st {ls:List (List Nat)}{ts:List ap} (tc:∀t∈ts,wL ls t):∀p,BI ls ts p ts.length (fU ts p)
 | 0=>⟨fun l _=>⟨by show (1:Int)≤1;decide,by show (1:Int)≤1;decide⟩,(fun l k h=>by cases h),(fun l h=>by exact absurd h (by show ¬1≤0;decide)),(fun k t e o=>.inr (by split <;> exact Nat.zero_le _)),fun l=>Nat.le_refl _,fun l=>Nat.le_refl _,fun b hb=>by cases hb⟩
 | p+1=>BI.all tc p _ (Nat.le_refl _) (BI.st tc p)
def fI (us:List ap):Rat:=(us.map gR).foldr (· * ·) 1
structure Ed (s:LS) (t:ap):Prop where
 g:0<gR t
 le:uW s t.bg≤gR t*uW s t.en
 lt:s.tm t.bg≤s.tm t.en→uW s t.bg<gR t*uW s t.en
theorem Gr {s:LS}{c:List Nat}:∀{us:List ap}{a:List Nat},us.map (·.bg)++[c]=a :: us.map (·.en)→(∀t∈us,Ed s t)→us≠[]→uW s a≤fI us*uW s c∧(uW s a<fI us*uW s c∨s.tm c<s.tm a)
 | [],_,_,_,h=>absurd rfl h
 | t :: r,a,e,h,_=>by
  simp only [List.map_cons,List.cons_append,List.cons.injEq] at e
  obtain ⟨rfl,e⟩:=e
  have ht:=h t (List.mem_cons_self ..)
  have hr:=fun x hx=>h x (List.mem_cons_of_mem _ hx)
  have ep:fI (t :: r)=gR t*fI r:=rfl
  rw [ep]
  have g0:=Rat.le_of_lt ht.g
  cases r with
  | nil=>
   simp only [List.map_nil,List.nil_append,List.cons.injEq,and_true] at e
   subst e
   have e1:fI []=1:=rfl
   rw [e1,Rat.mul_one]
   refine ⟨ht.le,?_⟩
   by_cases z:s.tm t.bg≤s.tm t.en
   ·exact .inl (ht.lt z)
   ·exact .inr (by trivial)
  | cons t2 r2=>
   obtain ⟨h1,h2⟩:=Gr e hr (by simp)
   have m1:=KM.mul_le_l h1 g0
   have ea:gR t*(fI (t2 :: r2)*uW s c)=gR t*fI (t2 :: r2)*uW s c:=(Rat.mul_assoc _ _ _).symm
   rw [ea] at m1
   refine ⟨Rat.le_trans ht.le m1,?_⟩
   by_cases z:s.tm t.bg≤s.tm t.en
   ·exact .inl (EV (ht.lt z) m1)
   ·rcases h2 with h2 | h2
    ·have m2:=Rat.mul_lt_mul_of_pos_left h2 ht.g
     rw [ea] at m2
     exact .inl (zt ht.le m2)
    ·exact .inr (by trivial)
structure Dz (ts:List ap) (R:List Nat) (us:List ap):Prop where
 at':R.map (fun k=>ts[k]?)=us.map some
 op:∀t∈us,t.most≠(0,1)
 two:2≤R.length
 nd:(us.map (·.bg)).Nodup
 rot:us.map (·.en)=(us.map (·.bg)).drop 1++(us.map (·.bg)).take 1
 gain:1<fI us
theorem JQ {ls:List (List Nat)}{ts:List ap}{s:LS}{ks:List Nat}{us:List ap}{l0 c:List Nat}{j:Nat} (tc:∀t∈ts,wL ls t) (pos:∀l∈ls,1≤(s.ω l).1∧1≤(s.ω l).2)
 (h1:ks.map (fun k=>ts[k]?)=us.map some) (ho:∀t∈us,t.most≠(0,1)) (he:∀t∈us,Ed s t) (nd:(us.map (·.bg)).Nodup) (ch:us.map (·.bg)++[c]=l0 :: us.map (·.en)) (hj:(us.map (·.bg))[j]?=some c):Dz ts (ks.drop j) (us.drop j):=by
 have lj:j<us.length:=by have:=(List.getElem?_eq_some_iff.mp hj).1;rwa [List.length_map] at this
 have lk:ks.length=us.length:=by have:=congrArg List.length h1;simpa using this
 have memT:∀t∈us,t∈ts:=fun t ht=>by
  have:some t∈ks.map (fun k=>ts[k]?):=by rw [h1];exact List.mem_map_of_mem ht
  obtain ⟨k,_,hk⟩:=List.mem_map.mp this
  exact List.mem_of_getElem? hk
 have sub:∀t∈us.drop j,t∈us:=fun t ht=>List.mem_of_mem_drop ht
 have ch2:(us.drop j).map (·.bg)++[c]=c :: (us.drop j).map (·.en):=by
  have e:=congrArg (List.drop j) ch
  rw [List.drop_append_of_le_length (by rw [List.length_map];trivial)] at e
  rw [List.map_drop,e]
  cases j with
  | zero=>
   cases us with
   | nil=>simp at lj
   | cons t r=>
    simp at hj ch
    simp [←ch.1,hj]
  | succ m=>
   rw [List.drop_succ_cons,List.map_drop]
   have hm:m<(us.map (·.en)).length:=by rw [List.length_map];trivial
   rw [List.drop_eq_getElem_cons hm]
   have:(us.map (·.en))[m]?=some c:=by
    have e2:=congrArg (fun z=>z[m+1]?) ch
    simp only [List.getElem?_cons_succ] at e2
    rw [←e2,List.getElem?_append_left (by rw [List.length_map];exact lj)]
    exact hj
   rw [(List.getElem?_eq_some_iff.mp this).2]
 obtain ⟨t0,r0,e0⟩:bI fun t r=>us.drop j=t :: r:=by
  cases e:us.drop j with
  | nil=>have:=congrArg List.length e;simp at this;trivial
  | cons t r=>exact ⟨t,r,rfl⟩
 have al:=Gr ch2 (fun t ht=>he t (sub t ht)) (by rw [e0];simp)
 have hc:c∈ls:=by
  obtain ⟨t,ht,rfl⟩:=List.mem_map.mp (List.mem_of_getElem? hj)
  exact (tc t (memT t ht)).b
 have up:0<uW s c:=pN (pos c hc).1 (pos c hc).2
 have gain:1<fI (us.drop j):=by
  rcases al.2 with z | z
  ·apply Rat.not_le.mp
   intro w
   have:=Rat.mul_le_mul_of_nonneg_right w (Rat.le_of_lt up)
   rw [Rat.one_mul] at this
   exact absurd z (Rat.not_lt.mpr this)
  ·trivial
 have rot:(us.drop j).map (·.en)=((us.drop j).map (·.bg)).drop 1++((us.drop j).map (·.bg)).take 1:=by
  rw [e0] at ch2 ⊢
  simp only [List.map_cons,List.cons_append,List.cons.injEq] at ch2
  simp only [List.map_cons,List.drop_succ_cons,List.drop_zero,List.take_succ_cons,List.take_zero]
  rw [←ch2.2,ch2.1]
 refine ⟨by rw [List.map_drop,h1,List.map_drop],fun t ht=>ho t (sub t ht),?_,?_,rot,gain⟩
 ·rw [List.length_drop,lk]
  have:(us.drop j).length=us.length - j:=List.length_drop ..
  rw [←this]
  cases r0 with
  | nil=>
   rw [e0] at rot
   simp at rot
   exact absurd rot.symm (tc t0 (memT t0 (sub t0 (by rw [e0];simp)))).ne
  | cons t1 r1=>rw [e0];simp
 ·rw [List.map_drop]
  exact List.Sublist.nodup (List.drop_sublist _ _) nd
end L2
namespace L2
open PySem PySem.Spec PyProof.Rows
section
variable {prog:Program}{w:World}{A:Around}{E:Value→Shared→Prop}{hp:Heap}{gs:Array GenState}{dr:Drawn}{tk:Nat}{os:OsState}
variable {nm qn:Str}{C N:Addr}{bs bm bB:List Value}{hd:Bool}{sn:List Str}{sb:List Value}{ab:Bool}{cl:Option Bool}{dd:Option Addr}{k0 k1 k2 k3 k5:Option Value}{B nw ni:String}
end
end L2
namespace L2
open PySem PySem.Spec PyProof.Rows PySem.W
section
variable {prog:Program}{w:World}{A:Around}{E:Value→Shared→Prop}{s:Shared}{K:Frag}{x C:Addr}{ox:Obj}{od:Option Obj}{name:Str}{fill expr:Bool}
end
end L2
namespace L2
open PySem PySem.Spec PyProof.Rows PySem.W PySem.Builtin.ObjectAttr
section
variable {prog:Program}{w:World}{A:Around}{E:Value→Shared→Prop}{s:Shared}{K:Frag}{x C:Addr}{ox:Obj}{name:Str}{v:Value}
end
section
variable {prog:Program}{w:World}{A:Around}{E:Value→Shared→Prop}{s:Shared}{K:Frag}{x C:Addr}{ox:Obj}{od:Option Obj}{a0:Value}
end
end L2
namespace L2
open PySem PySem.Spec PyProof.Rows
section
variable {X:Cx}{pins:List (Addr×Obj)}{σ:St}{H:Hp}{s:Shared}{h':Heap}
end
section
variable {X:Cx}{C f:Addr}{x:Str}{p pos:Pos}{e:Expr}{es:List Expr}{t:TA}{k:Nat}{fd:FuncData}{ps:List Str}{sp:Sp}{E:XK}
end
section
variable {X:Cx}
end
section
variable {M:Model}{A:Around}{E:Value→Shared→Prop}{s:Shared}{base:Heap}{env:Env}{outer:List Env}{L a T:Addr}{C head:Value}{dx:Option Addr}{vs:Array Value}{sl:Array (Option Value)}{hn:Bool}{Q:Unit→Shared→Prop}
end
section
variable {X:Cx}{pins:List (Addr×Obj)}{σ:St}{H:Hp}{s:Shared}{h':Heap}{a T C:Addr}{dx:Option Addr}{φ:Heap→Prop}{ch:List Addr}{fl:Value}
end
section
variable {P:Program}{w:World}{K:PySem.W.Frag}{mg:Str→Option Value}{base:Heap}{N:List Str}{qual:Str}{scope:Scope}{f:Addr}{cd:Value}{A:Around}{outer:List Env}{s:Shared}{H:Hp}{E:XK}
end
section
variable {M:Model}{A:Around}{E:Value→Shared→Prop}{s:Shared}{env:Env}
end
section
variable {X:Cx}{e:Expr}{te:TE}{pos:Pos}{E:XK}
end
section
variable {X:Cx}{pins:List (Addr×Obj)}{σ σ':St}{H:Hp}{s:Shared}{h':Heap}
end
section
variable {X:Cx}{CX:qc}{k:Nat}{f:Addr}{fd:FuncData}{ps:List Str}{sp:Sp}{EE:St→XK}{x:Str}{p pos:Pos}{e:Expr}{es:List Expr}{t:TA}
end
section
variable {X:Cx}{pins pins' pn:List (Addr×Obj)}{σ:St}{H:Hp}{s:Shared}{xe:Value→Shared→Prop}
end
section
variable {X:Cx}{body suite:List Stmt}{b0:Stmt}{x n:Str}{hpos pos np:Pos}{tb:(St→XK)→TS}{th:TS}{Cc:Addr}{i:Nat}
end
section
variable {X:Cx}{C:Addr}{e:Expr}{pos:Pos}
end
section
variable {X:Cx}
end
theorem zb (a b:List ap):fI (a++b)=fI a*fI b:=by
 induction a with
 | nil=>show fI b=1*fI b;rw [Rat.one_mul]
 | cons t r ih=>show gR t*fI (r++b)=gR t*fI r*fI b;rw [ih,Rat.mul_assoc]
section
variable {X:Cx}
def Jh (tk tv:TE):TE:=fun σ H Q=>∀p H0,Nw H p (.dK []) H0→tk σ H0 fun x H1=>∃k,x=gk k∧tv σ H1 fun y H2=>H2 p=some (.dK [])∧∀H3,Ce H2 p (.dK [(k,y)]) H3→Q (.ref p) H3
theorem Gp {k v:Expr}{tk tv:TE}{pos:Pos} (hk:PE X k tk) (hv:PE X v tv):PE X (.Dict [some k] [v] pos) (Jh tk tv):=by
 intro pins s σ H Q I h
 have big:(s.heap.objs.size==sysModules)=false:=by
  have e:mainGlobals<s.heap.objs.size:=(I.mod.glob.keeps I.bk).lt
  exact beq_eq_false_iff_ne.mpr (Ne.symm (Nat.ne_of_lt (Nat.lt_trans (by decide) e)))
 have I1:=I.laid (a:=s.heap.objs.size) (o:=.dK []) (h':=s.heap.push { cls:=.type "dict",data:=.dict #[] }) (t':=s.toks) (fun _ _ e=>Heap.get?_push_of_some _ e) (Nat.le_refl _) (show bK X.prog X.w _ _ _ (.dK []) from ⟨Nat.zero_le _,big,[],.nil,Heap.DictOf.new s.heap⟩)
 refine wpAny_Dict_walk (knd:=cK X.prog X.w) rfl rfl (by simp) (by show 1≤15;decide) (pairTrees_cons_walk (aR (hk pins _ σ _ _ I1 (h _ _ (.mk' I.fresh))) fun u s1 ⟨x,H1,I2,rx,kk,ex,q1⟩=>aR (hv pins s1 σ H1 _ I2 q1) fun w2 s2 ⟨y,H2,I3,ry,e,q2⟩=>pairTrees_nil_walk ?_))
 subst ex
 obtain ⟨hz,hm,vs,rel,dd⟩:=(show bK X.prog X.w H2 s2.heap _ (.dK []) from I3.hok _ _ e)
 cases rel
 refine ⟨[(kk,w2)],⟨lu rx,rfl,True.intro⟩,dd,fun h' dd' hs=>⟨.ref s.heap.objs.size,_,?_,rfl,q2 _ .mk'⟩⟩
 exact I3.dset e hm (by show 1≤_;rw [sizeLine_eq];decide) (.cons ⟨rfl,ry⟩ .nil) dd' hs
end
def sM:Nat→List Obj→PySem.W.Frag
 | _,[]=>[]
 | n,o :: r=>match o.data with
  | .freed=>sM (n+1) r
  | _=>(n,o) :: sM (n+1) r
def fragOf (h:Heap):PySem.W.Frag:=sM 0 h.objs.toList
theorem zW:∀(l:List Obj) (n a:Nat) (o:Obj),List.lookup a (sM n l)=some o→∃k,a=n+k∧l[k]?=some o∧o.data≠.freed
 | [],n,a,o,e=>nomatch e
 | p :: r,n,a,o,e=>by
  have step:List.lookup a (sM (n+1) r)=some o→∃k,a=n+k∧(p :: r)[k]?=some o∧o.data≠.freed:=fun e=>by
   obtain ⟨k,e1,e2,e3⟩:=zW r (n+1) a o e
   exact ⟨k+1,by trivial,by simpa using e2,e3⟩
  unfold sM at e
  split at e
  ·exact step e
  ·rename_i hf
   by_cases q:a=n
   ·subst q
    simp only [List.lookup_cons,beq_self_eq_true] at e
    cases e
    exact ⟨0,rfl,rfl,hf⟩
   ·have q':(a==n)=false:=by simpa using q
    simp only [List.lookup_cons,q'] at e
    exact step e
theorem Fo (h:Heap):PySem.W.Frag.In (fragOf h) h:=fun a o e=>by
 obtain ⟨k,e1,e2,e3⟩:=zW _ 0 a o e
 have e1':a=k:=e1.trans (Nat.zero_add k)
 subst e1'
 unfold Heap.get?
 have:h.objs[a]?=some o:=by simpa using e2
 rw [this]
 cases o with
 | mk c d x s=>
  cases x <;> first | rfl | exact absurd rfl e3
def uQ:Option (Option Value)→Addr
 | some (some (.ref a))=>a
 | _=>0
def GD:Option (Option Value)→Bool
 | some (some (.ref _))=>true
 | _=>false
def FW:Option (Option Value)→Bool
 | some none=>true
 | _=>false
theorem HX {v:Option (Option Value)} (e:GD v=true):v=some (some (.ref (uQ v))):=by
 unfold GD at e;split at e
 ·rfl
 ·cases e
theorem dO {v:Option (Option Value)} (e:FW v=true):v=some none:=by
 unfold FW at e;split at e
 ·rfl
 ·cases e
def Cu (K:PySem.W.Frag) (v:Option (Option Value)):Obj:=(List.lookup (uQ v) K).getD ⟨.none,none,.plain,#[]⟩
def MH:FuncData:=PySem.W.fnOf (PySem.Str.mk #[]) (PySem.Str.mk #[]) ⟨[],[],none,[],[],none,[]⟩ [] ⟨.function,[],false,false,[]⟩ .none .none .none .none none .none .none
def kE (K:PySem.W.Frag) (v:Option (Option Value)):FuncData:=match (Cu K v).data with
 | .func fd=>fd
 | _=>MH
def bare (fd:FuncData):FuncData:={ fd with kwdefaults:=.none,doc:=.none,pyModule:=.none,annotations:=none,code:=.none,closureTuple:=.none }
def vC (K:PySem.W.Frag) (v:Option (Option Value)) (q:Str):Option FuncData:=
 match GD v && PySem.W.codeIn K (kE K v).code q && PySem.W.keepIn K (.ref (uQ v)) with
 | false=>none
 | true=>match List.lookup (uQ v) K with
  | some ⟨_,_,.func fd,_⟩=>some (bare fd)
  | _=>none
theorem zF {K:PySem.W.Frag}{v:Option (Option Value)}{q:Str}{x:FuncData} (e:vC K v q=some x) :
 v=some (some (.ref (uQ v)))∧PySem.W.codeIn K (kE K v).code q=true∧PySem.W.keepIn K (.ref (uQ v))=true∧
  List.lookup (uQ v) K=some ⟨(Cu K v).cls,(Cu K v).dict,.func (kE K v),(Cu K v).slots⟩∧bare (kE K v)=x:=by
 unfold vC at e
 cases h:(GD v && PySem.W.codeIn K (kE K v).code q && PySem.W.keepIn K (.ref (uQ v))) with
 | false=>rw [h] at e;cases e
 | true=>
  rw [h] at e
  simp only [Bool.and_eq_true] at h
  refine ⟨HX h.1.1,h.1.2,h.2,?_⟩
  cases hl:List.lookup (uQ v) K with
  | none=>rw [hl] at e;cases e
  | some o=>
   rw [hl] at e
   obtain ⟨c,d,x',s⟩:=o
   have eo:Cu K v=⟨c,d,x',s⟩:=by unfold Cu;rw [hl];rfl
   cases x' <;> first | cases e | skip
   rename_i fd
   have ef:kE K v=fd:=by unfold kE;rw [eo]
   rw [eo,ef]
   exact ⟨rfl,rfl⟩
def oG (K:PySem.W.Frag) (n:Str):Bool:=FW (PySem.W.nsIn K mainGlobals n)
def fG (K:PySem.W.Frag) (n:Str):Option FuncData:=vC K (PySem.W.nsIn K mainGlobals n) n
def dG (n q:Str) (st:Stmt):Option FuncData:=some (PySem.W.fnOf n q (y0 st) (wf st) (aw st) .none .none .none .none none .none .none)
theorem ao {K:PySem.W.Frag}{v:Option (Option Value)}{q n:Str}{st:Stmt} (e:vC K v q=dG n q st):AW K n q st (uQ v) (kE K v):=by
 have h:=zF e
 refine ⟨?_,h.2.2.1⟩
 obtain ⟨h1,h2,h3,h4,z⟩:=h
 refine ⟨_,_,(kE K v).kwdefaults,(kE K v).doc,(kE K v).pyModule,(kE K v).annotations,(kE K v).code,(kE K v).closureTuple,_,?_,h4,h2⟩
 clear h4 h2 h3 h1 e
 generalize kE K v=fd at z ⊢
 cases fd
 unfold bare PySem.W.fnOf at z
 cases z
 rfl
theorem aS {K:PySem.W.Frag}{v:Option (Option Value)}{q n:Str}{st:Stmt} (e:vC K v q=dG n q st):v=some (some (.ref (uQ v))):=(zF e).1
theorem walk_ofY {l:PySem.W.OpenLaw}{n k:Nat}{q:Program}{loose:List Str}{XP:(Str→Option Value)→Heap→Prop}{d:DefRec}{CX:qc}{sp:PySem.W.Frag→Sp}{x:Str}{α:Type}{obs:PySem.W.Frag→α}{due:α}
 (hn:l.most=some n) (hn2:n≤sizeLine) (hdf:d.params.defaults=[]) (hr:i9 k callerA)
 (F:∀(K:PySem.W.Frag) (w:World) (mg:Str→Option Value) (fa:Addr) (h:Heap),obs K=due→K.In h→h.Ns mainGlobals mg→mg d.name=some (.ref fa)→
  ∃fd:FuncData,(∀(s:Shared) (u:Value),BindsTo s fd ⟨[u],[]⟩ [(x,u)])∧
   ∀base:Heap,K.In base→base.Ns mainGlobals mg→aZ l.prog w K mg base CX k fa fd [x] (sp K))
 (hsp:∀(K:PySem.W.Frag) (H:Hp) (a:Addr) (ns:List Int),ns.length≤n→yF H→ak K H a (ns.map V.int)→sp K [.ref a] H (fun v _=>v=.bl true) fun _ _ _=>False)
 (hCX:∀(H:Hp) (s:Shared) (e:Value) (s':Shared),CX [] H s (fun _ _ _=>False) e s'→False) :
 PySem.W.WalkX q loose XP (fun s=>obs (fragOf s.heap)) (fun _=>due) l.row.toRowW d [] (fun f vs=>PySem.call f vs):=by
 intro w s₀ s₁ mg mb G y a o pm cd doc dV kV ho hd hcd hD hmg hg args vals as' L hpre hlay hrd hwl hlo
 have kx:(fragOf s₀.heap).In s₁.heap:=fun b ob hb=>L.keeps b ob (Fo s₀.heap b ob hb)
 exact FN (K:=fun _=>fragOf s₀.heap) (YP:=fun w h=>(fragOf s₀.heap).In h) hn hn2 hdf hr (fun _ _ z=>z) (fun w mg fa h=>F (fragOf s₀.heap) w mg fa h y) hsp hCX w s₀ s₁ mg mb G kx a o pm cd doc dV kV ho hd hcd hD hmg hg args vals as' hpre hlay hrd hwl hlo
section
variable {X:Cx}
end
end L2
namespace L2
open PySem PySem.Spec PySem.Calls PySem.W PyProof.Rows
section
variable {prog:Program}{w:World}{A:Around}{E:Value→Shared→Prop}{s:Shared}
theorem BD {T newId:String}{Bn:Builtin}{args:List Value}{Q:Value→Shared→Prop} (ft:TypeCalled T newId "object.__init__")
 (hne:(some newId != some "object.__new__")=true) (hct:checkTypeCall T ⟨args,[]⟩=pure ()) (hcn:checkBuiltinCall newId ⟨.type T :: args,[]⟩=pure ())
 (hok:∀obj,argsOk "object.__init__" ⟨obj :: args,[]⟩) (entryN:entryFor table newId=some Bn)
 (g:wpAny (model prog w) A.in1.in1 (Bn ⟨.type T :: args,[]⟩) (fun fin s'=>match fin with | .done f=>wants (fun obj s₁=>s₁.TypeIs obj T∧Q obj s₁) E (.ok f) s' | .again c'=>c'.quiet=true∧codeAny (model prog w) A.in1 c' (wants (fun obj s₁=>s₁.TypeIs obj T∧Q obj s₁) E) s') (fun e s'=>wants (fun obj s₁=>s₁.TypeIs obj T∧Q obj s₁) E (.error e) s') s) :
 wpAny (model prog w) A (call (.type T) args) Q E s:=by
 obtain ⟨c,tl,hmro⟩:=ft.mro
 have hmade:=ft.made
 have hsub:=ft.sub
 refine wpAny_call (codeAny_of_tree ?_)
 show wpAny _ _ (callAny (.type T) _) _ _ _
 refine wpAny_pure ⟨Code.quiet_builtin _ (by nofun),codeAny_builtin PySem.F.entry_type_call ?_⟩
 rw [Around.under_plain (weight_type_call_type T args []) (units_type_call_type T args [])]
 have h1:=ft.notType
 have h2:=ft.canCreate
 repeat (any_goals (first | assumption | wp_step))
 refine codeAny_mono (codeAny_call_builtin ft.plain entryN (wpAny_of_eq hcn g)) fun r s₁ hr=>?_
 cases r with
 | error e=>exact hr
 | ok fl=>
  cases fl with
  | ret obj=>
   obtain ⟨hT,hq⟩:=hr
   have hli:=ft.init.lookup
   have hbi:=ft.init.bind obj
   repeat (any_goals (first | assumption | wp_step))
   refine codeAny_mono (codeAny_call_builtin ft.init.plain PySem.F.entry_object_init (ft.init.check _ _ _ _ _ _ _ _ hT (hok obj) (object_init_meets ft.init.lookup ft.made hne prog w A.in1 (wants (fun r s₂=>r=.none∧Q obj s₂) E) s₁ ⟨hT,rfl,hq⟩))) fun r₂ s₂ hr₂=>?_
   cases r₂ with
   | error e=>exact hr₂
   | ok fl₂=>
    cases fl₂ with
    | ret r=>
     obtain ⟨rfl,hq⟩:=hr₂
     repeat (any_goals (first | assumption | wp_step))
    | _=>exact hr₂.elim
  | _=>exact hr.elim
theorem x8 {d:Addr}{kvs:List (aY×Value)}{ep:Nat}{Q:Value→Shared→Prop} (hh:A.handled=none) (hm:s.heap.DictAt (cK prog w) d kvs ep) (lo:(d==sysModules)=false) (hn:kvs.length≤sizeLine)
 (h:∀(h':Heap) (tk:Nat) (vs:List Value),(∀b o,s.heap.get? b=some o→h'.get? b=some o)→vs.length=kvs.length→(∀(i:Nat) (v:Value),vs[i]?=some v→∃k,∃x,kvs[i]?=some (k,x)∧(cK prog w).is k v=true)→
  Q (.ref h'.objs.size) { s with heap:=h'.push { cls:=.type "tuple",data:=.seq vs.toArray },toks:=tk }) :
 wpAny (model prog w) A (call (.type "tuple") [.ref d]) Q E s:=by
 refine BD PySem.F.called_tuple (by decide) (PySem.F.typeCall_tuple_1 _) (PySem.F.newCall_tuple_1 _) (fun obj=>PySem.F.args_object_init_2 obj _) PySem.F.entry_tuple_new ?_
 refine wpAny_mono (Q:=fun fin s'=>∃v,fin=Fin.done (.ret v)∧wants (fun obj s₁=>s₁.TypeIs obj "tuple"∧Q obj s₁) E (.ok (.ret v)) s') ?_ (fun fin s' h'=>by obtain ⟨v,rfl,hv⟩:=h';exact hv) fun _ _ x=>x
 obtain ⟨hp,gg,dd,tk,os⟩:=s
 have hsub:=sub_tuple_self
 have hinit:=init_tuple_lookup
 have hmh:=madeHere_tuple
 have hT:Shared.TypeIs ⟨hp,gg,dd,tk,os⟩ (.ref d) "dict" := hm.dictOf.typeIs
 have hh2:A.in1.in1.handled=none:=by simpa using hh
 wp_walk using wpAny_typeOf hT,kdu_collect (kdl_dict (knd:=cK prog w) lo) hh2 hm hn
 intro h' t' acc hk hacc
 show wpAny _ _ (Builtin.Tuple.tupleExact acc.toList.toArray >>= fun v=>ret v) _ _ _
 unfold Builtin.Tuple.tupleExact
 have hl:acc.toList.length=kvs.length:=by rw [Array.length_toList];exact hacc.1
 refine wpAny_bind (wpAny_newObj_type ?_ (by show acc.toList.toArray.size≤sizeLine;rw [List.size_toArray,hl];exact hn))
 refine wpAny_pure ⟨(),⟨_,Heap.get?_push_size _ rfl,rfl⟩,?_⟩
 exact h h' t' acc.toList hk hl fun i v e=>hacc.2 i v (by rw [←Array.getElem?_toList];exact e)
end
section
variable {X:Cx}
inductive Jv (xs:List V) (H:Hp) (Q:VK):Prop
 | mk (d:Addr) (kvs:List (aY×V)) (h0:xs=[.ref d]) (h1:H d=some (.dK kvs)) (h2:∀l H',Nw H l (.tup (kvs.map fun q=>gk q.1)) H'→Q (.ref l) H')
def Lk:List V→Hp→VK→Prop:=fun xs H Q=>Jv  xs H Q
theorem CN {k:aY}{v:Value} (h:kj k v=true):be (gk k) v:=by
 rcases dC h with ⟨i,t,rfl,rfl⟩ | ⟨x,t,rfl,rfl⟩
 ·exact ⟨t,rfl⟩
 ·exact ⟨t,rfl⟩
theorem Hz {xs:List V}:∀{us:List Value},us.length=xs.length→(∀(i:Nat) (u:Value),us[i]?=some u→∃x,xs[i]?=some x∧be x u)→aL xs us:=by
 induction xs with
 | nil=>intro us h _;cases us with | nil=>exact .nil | cons _ _=>simp at h
 | cons x r ih=>
  intro us h g
  cases us with
  | nil=>simp at h
  | cons u q=>
   obtain ⟨y,e,ry⟩:=g 0 u rfl
   cases (Option.some.inj e:x=y)
   exact .cons ry (ih (by simpa using h) fun i u hu=>by simpa using g (i+1) u (by simpa using hu))
theorem zR {α β:Type}{F:α→β→Prop}:∀{l₁:List α}{l₂:List β},Paired F l₁ l₂→∀(i:Nat) (b:β),l₂[i]?=some b→∃a,l₁[i]?=some a∧F a b
 | _,_,.nil,i,b,e=>by simp at e
 | _,_,.cons h r,0,b,e=>by cases (Option.some.inj e);exact ⟨_,rfl,h⟩
 | _,_,.cons h r,i+1,b,e=>by simpa using zR r i b (by simpa using e)
theorem EW (hc:X.calm=true):fk X (.type "tuple") Lk:=by
 intro pins s σ H xs us Q I r h
 obtain ⟨d,kvs,rfl,hd,q⟩:=h
 obtain ⟨u,rfl,ru⟩:=r.one
 obtain rfl:u=.ref d:=ru
 obtain ⟨hz,hm,vs,rel,dd⟩:=(show bK X.prog X.w H s.heap d (.dK kvs) from I.hok d _ hd)
 obtain ⟨ep,hat⟩:=dd.dictAt
 have hl:kvs.length=vs.length:=rel.length
 refine x8 (I.ok.hd hc) hat hm (by trivial) fun h' tk us hk l2 hu=>?_
 have rv:aL (kvs.map fun q=>gk q.1) us:=Hz (by rw [List.length_map,l2,hl]) fun i u e=>by
  obtain ⟨k,x,e1,e2⟩:=hu i u e
  obtain ⟨p,hp,hp1,hp2⟩:=zR rel i _ e1
  exact ⟨gk p.1,by rw [List.getElem?_map,hp];rfl,by rw [hp1];exact CN e2⟩
 have I1:ai X pins σ H { s with heap:=h',toks:=tk }:=I.kept (t':=tk) hk
 have I2:ai X pins σ (aP H h'.objs.size (.tup (kvs.map fun q=>gk q.1))) { s with heap:=h'.push { cls:=.type "tuple",data:=.seq us.toArray },toks:=tk }:=
  I1.laid (t':=tk) (fun b o e=>Heap.get?_push_of_some _ e) (Nat.le_refl _) (show bK X.prog X.w _ _ _ (.tup _) from ⟨by rw [List.length_map];exact hz,us,rv,IsTup.new _ _,_,Heap.get?_push_size _ rfl,rfl⟩)
 exact ⟨.ref h'.objs.size,_,I2,rfl,q _ _ (.mk' (I1.hok.fresh (Nat.le_refl _)))⟩
end
section
open PySem.Builtin.Str (occurrences partsBetween)
variable {prog:Program}{w:World}{A:Around}{E:Value→Shared→Prop}{s:Shared}
end
section
variable {X:Cx}
end
end L2
namespace L2
open PySem PySem.Spec PyProof.Rows
section
variable {X:Cx}
end
theorem Ch.sameE {H H1 H2:Hp}{L:Addr}{xs ys:List V} (s1:aa H H1) (hL:H1 L=some (.lst xs)) (c:Ch H1 L ys H2):bV (Eb L) H H2:=⟨fun a o n h=>c.ol a o n (s1 _ _ h),fun a zs h=>c.tup (s1 _ _ h) hL⟩
section
variable {H H':Hp}{d p t q z:Addr}{v:V}{es:List Ent}{past:List RSt}{cur:RSt}{F:List Addr}
theorem Ce.tp {o:HO} (c:Ce H d o H') (h:∃kv,H d=some (.dK kv)):MS H H':=fun a us e=>c.ol a _ (fun z=>by obtain ⟨kv,h⟩:=h;rw [z,h] at e;cases e) e
end
theorem F4 {k:aY}{v:V}{r:List (aY×V)}:valD ((k,v) :: r) k=some v:=by simp [valD]
section
variable {p t q z p' t' q':Addr}{v v':V}
end
section
variable {C:Addr}{H H' H0 H1 H2:Hp}{r L d b:Addr}{F F' F0 F1 F2:List Addr}{past:List RSt}{cur:RSt}{N M:Nat}{E:Addr→Prop}
end
section
variable {X:Cx}{body suite:List Stmt}{b0:Stmt}{x:Str}{hpos pos np:Pos}{tb:(St→XK)→TS}{th:TS}{Cc:Addr}
end
section
variable {X:Cx}{CX:qc}{k:Nat}{f C:Addr}{fd:FuncData}{ps:List Str}{sp:Sp}{EE:St→XK}{m:Str}{pos apos:Pos}{e o:Expr}{es:List Expr}{ta:TE}{t:TA}
end
section
variable {C:Addr}{H H' H0:Hp}{P E:Addr→Prop}{xs:List PairAt}{N M:Nat}{x y:PairAt}{i:Nat}
end
section
variable {C:Addr}{H2 H H':Hp}{b s o nl:Addr}{ls:List (List Nat)}{xs:List PairAt}{N M:Nat}{t t':Int}{x y:PairAt}{i:Nat}
end
end L2
namespace L2
open PySem PySem.Spec PyProof.Rows PySem.NumText
end L2
namespace L2
open PySem PySem.Spec PyProof.Rows
section
variable {X:Cx}
end
end L2
namespace L2
open PySem PySem.Spec PyProof.Rows PySem.NumText
section
variable {X:Cx}
end
section
variable {X:Cx}
end
end L2
namespace L2
open PySem PySem.Spec PyProof.Rows PySem.NumText
section
variable {X:Cx}
end
end L2
namespace KM
variable {ls:List (List Nat)}{es done:List Edge}{W u u':List Nat→Rat}{S:List (List Nat)}{q:List Nat}{m:Rat}
end KM
namespace L2
open PySem PySem.Spec PyProof.Rows
section
variable {X:Cx}
end
section
variable {X:Cx}
end
section
variable {X:Cx}
end
end L2
namespace L2
open PySem PyProof.Rows
section
variable {prog:Program}{w:World}{A:Around}{R:Result→Shared→Prop}{s:Shared}
end
section
variable {X:Cx}{elt tg iter tg2 iter2:Expr}{ifs ifs2:List Expr}{scope:Scope}{pos:Pos}{N':List Str}{L:Nat}{src:List Nat}{wi wi2:TI}{g g2:TG}{tt tt2:TT}{te:TE}
end
end L2
namespace L2
open PySem PySem.Spec PyProof.Rows
section
variable {X:Cx}
end
theorem DS {α β:Type}{F:α→β→Prop}{as as':List α}{bs bs':List β} (h:Paired F as bs) (h':Paired F as' bs'):Paired F (as++as') (bs++bs'):=by
 induction h with
 | nil=>exact h'
 | cons r t ih=>exact .cons r ih
section
variable {prog:Program}{w:World}{A:Around}{E:Value→Shared→Prop}{R:Result→Shared→Prop}
variable {l it d:Nat}{vs:Array Value}{xs0 ps:List (List aY×Addr×Value)}
end
section
variable {X:Cx}
end
section
variable {prog:Program}{w:World}{A:Around}{E:Value→Shared→Prop}{s:Shared}
end
section
variable {X:Cx}
end
end L2
namespace L2
open PySem PyProof.Rows
section
variable {X:Cx}
end
end L2
namespace L2
open PySem PySem.Spec PyProof.Rows
section
variable {z:Nat}{E:Addr→Prop}{H H':Hp}{n m k:Nat}{v:V}{xs ys:List V}
end
section
variable {z:Nat}{E:Addr→Prop}{H H':Hp}{n m k:Nat}{v:V}{xs ys:List V}
end
end L2
namespace KM
end KM
namespace KM
end KM
namespace L2
open PySem PySem.Spec PyProof.Rows
section
variable {prog:Program}{w:World}{A:Around}{E:Value→Shared→Prop}{s:Shared}
end
section
variable {prog:Program}{w:World}{A:Around}{R:Result→Shared→Prop}{it:Addr}{fp wr:List Addr}{G:Array GenState→Array GenState→Prop}{P:Nat→Value→Prop}{St:Nat→Shared→Prop}
end
section
variable {prog:Program}{w:World}{A:Around}{E:Value→Shared→Prop}{s:Shared}
end
section
variable {M:Model}{A:Around}{E:Value→Shared→Prop}{s:Shared}
end
section
variable {prog:Program}{w:World}{A:Around}{E:Value→Shared→Prop}{s:Shared}{a:Addr}{ob:Obj}{xs:Array (Int×Value)}{ep:Nat}{tb:SetTable}
end
section
variable {prog:Program}{w:World}{A:Around}{E:Value→Shared→Prop}{s:Shared}{a I:Addr}{ob:Obj}{xs:Array (Int×Value)}{ep:Nat}{tb:SetTable}
end
section
variable {prog:Program}{w:World}{A:Around}{E:Value→Shared→Prop}{s:Shared}{a I:Addr}{ob:Obj}{xs:Array (Int×Value)}{ep:Nat}{tb:SetTable}
end
section
variable {prog:Program}{w:World}{A:Around}{E:Value→Shared→Prop}{s:Shared}{a:Addr}
end
section
variable {prog:Program}{w:World}{A:Around}{E:Value→Shared→Prop}{s:Shared}{a:Addr}
end
section
variable {X:Cx}{K:PySem.W.Frag}{e:Expr}{te:TE}{p1 p2 p3 p4:Pos}
end
section
variable {prog:Program}{w:World}{A:Around}{E:Value→Shared→Prop}{s:Shared}
end
section
variable {X:Cx}{a:Expr}{ta:TA}{p p2 pos pos2:Pos}
end
section
variable {X:Cx}
end
section
variable {z:Nat}{E:Addr→Prop}{H H':Hp}{n m k:Nat}{v:V}{xs ys:List V}
end
section
variable {z:Nat}{E:Addr→Prop}{H H':Hp}{n m k:Nat}{v:V}{xs ys:List V}
end
theorem wN (f:Nat→Int):∀(n i:Nat),i≤n→f (argBest (fun i j=>decide (f i<f j)) n)≤f i
 | 0,i,h=>by rw [show i=0 by trivial];exact Int.le_refl _
 | n+1,i,h=>by
  have ih:=wN f n
  unfold argBest
  by_cases q:f (n+1)<f (argBest (fun i j=>decide (f i<f j)) n)
  ·rw [if_pos (decide_eq_true q)]
   rcases Nat.lt_or_ge i (n+1) with z | z
   ·exact Int.le_trans (Int.le_of_lt q) (ih i (by trivial))
   ·rw [show i=n+1 by trivial];exact Int.le_refl _
  ·rw [if_neg (by simpa using q)]
   rcases Nat.lt_or_ge i (n+1) with z | z
   ·exact ih i (by trivial)
   ·rw [show i=n+1 by trivial];exact Int.not_lt.mp q
inductive JC (xs:List V) (H:Hp) (Q:VK):Prop
 | mk (a:Addr) (ks:List Int) (h0:xs=[.ref a]) (h1:H a=some (.lst (ks.map V.int))) (h2:ks≠[]) (h3:∀k∈ks,(∀j∈ks,k≤j)→Q (.int k) H)
def JZ:List V→Hp→VK→Prop:=fun xs H Q=>JC  xs H Q
section
variable {X:Cx}
theorem Ex (hc:X.calm=true):fk X (.builtin "min") JZ:=by
 intro pins s σ H xs us Q I r h
 obtain ⟨a,ks,rfl,ha,hne,q⟩:=h
 obtain ⟨u,rfl,ru⟩:=qQ r
 cases ru
 obtain ⟨z,its,n,rv,hl,e⟩:=I.lstM ha
 obtain ⟨ps,e1,e2⟩:=Ck rv
 have hi:s.heap.IsList a (intItems ps.toArray):=⟨_,e,rfl,n,by rw [e1];simp [intItems]⟩
 have hp:0<ps.toArray.size:=by
  rw [List.size_toArray]
  cases ps with
  | nil=>exact absurd e2 hne
  | cons p r=>simp
 refine min_intList (I.ok.hd hc) hi hp fun v h' tk hv hk=>?_
 have am:=wN (fun i=>numAt ps.toArray i) (ps.toArray.size - 1)
 generalize argBest (fun i j=>decide (numAt ps.toArray i<numAt ps.toArray j)) (ps.toArray.size - 1)=b at hv am
 simp only [intItems,Array.getElem?_map,Option.map_eq_some_iff] at hv
 obtain ⟨p,hp',rfl⟩:=hv
 have hm:p∈ps:=by
  have:=Array.mem_of_getElem? hp'
  simpa using this
 have at':∀{i:Nat}{p:Int×Tok},ps.toArray[i]?=some p→numAt ps.toArray i=p.1:=fun h=>by
  unfold numAt;rw [h];rfl
 refine ⟨.int p.1,H,I.kept hk,⟨()⟩,q p.1 (by rw [e2];exact List.mem_map_of_mem hm) fun j hj=>?_⟩
 rw [e2] at hj
 obtain ⟨p2,m2,rfl⟩:=List.mem_map.mp hj
 obtain ⟨i,hi2⟩:=List.mem_iff_getElem?.mp m2
 have hi3:ps.toArray[i]?=some p2:=by simpa using hi2
 have:=am i (by have:=(List.getElem?_eq_some_iff.mp hi2).1;rw [List.size_toArray];trivial)
 rw [at' hp',at' hi3] at this
 exact this
end
end L2
namespace L2
open PySem PySem.Spec PyProof.Rows Builtin
section
variable {prog:Program}{w:World}{A:Around}{E:Value→Shared→Prop}{s:Shared}
end
section
variable {X:Cx}{pos:Pos}
end
end L2
namespace L2
open PySem PySem.Spec PyProof.Rows
def x4 (b:Bool):Int:=if b then 1 else 0
theorem Hg {a b:Bool} (h:x4 a=x4 b):a=b:=by cases a <;> cases b <;> first | rfl | exact absurd h (by decide)
def wc:Int→Value→Bool
 | k,.bool b=>k==x4 b
 | k,v=>Value.isInt k v
theorem EB (k:Int) (t:Tok):wc k (.int k t)=true:=zG k t
theorem CM (b:Bool):wc (x4 b) (.bool b)=true:=by simp [wc]
theorem eG {k:Int}{v:Value} (h:wc k v=true):(∃t,v=.int k t)∨∃b,v=.bool b∧k=x4 b:=by
 cases v with
 | bool b=>exact .inr ⟨b,rfl,by simpa [wc] using h⟩
 | _=>exact .inl (Value.isInt_shape h)
theorem BL {prog:Program}{w:World}{A:Around}{E:Value→Shared→Prop}{s:Shared}{b:Bool}{Q:Int→Shared→Prop} (h:Q (hashInt (x4 b)) { s with toks:=s.toks+1 }) :
 wpAny (model prog w) A (pyHash (.bool b)) Q E s:=by
 have hT:s.TypeIs (.bool b) "bool" := rfl
 unfold pyHash
 have hv:[Value.bool b].any Value.onHeap=false:=rfl
 refine wpAny_bind ?_
 rw [cRoomFor,if_neg (by rw [hv];exact Bool.false_ne_true)];refine wpAny_pure ?_
 refine wpAny_bind (wpAny_specialOf hT F.slot_bool_hash.lookup ?_)
 show wpAny _ _ (if (some (Value.builtin "int.__hash__")==some Value.none)=true then _ else _) Q E s
 rw [if_neg (by rw [beq_builtin_none];exact Bool.false_ne_true)]
 refine wpAny_bind (wpAny_specialOf hT F.slot_bool_hash.lookup ?_)
 show wpAny _ _ (callSpecialIfBoundUnlessNone? (.bool b) "__hash__" _ >>= _) Q E s
 refine wpAny_bind (wpAny_callSpecialIfBoundUnlessNone?_slot hT F.slot_bool_hash
  (wpAny_call_entry F.slot_bool_hash hT entry_int_hash ?_ (args_int_hash _)))
 cases b
 ·exact (show wpAny _ _ (do ret (←mkInt 0)) _ _ s from wpAny_bind (wpAny_mkInt (wpAny_pure ⟨(),wpAny_pure h⟩)))
 ·exact (show wpAny _ _ (do ret (←mkInt 1)) _ _ s from wpAny_bind (wpAny_mkInt (wpAny_pure ⟨(),wpAny_pure h⟩)))
theorem Hh {a b:Int}:decide (a=b)=(a==b):=by
 by_cases e:a=b
 ·subst e;simp
 ·rw [decide_eq_false e];exact (beq_eq_false_iff_ne.mpr e).symm
def jj (prog:Program) (w:World):PySem.KeyKind prog w Int where
 is:=wc
 hash:=hashInt
 inj:=fun v a b ha hb=>by
  rcases eG ha with ⟨t,rfl⟩ | ⟨x,rfl,rfl⟩
  ·rcases eG hb with ⟨u,e⟩ | ⟨y,e,_⟩
   ·injection e
   ·exact nomatch e
  ·rcases eG hb with ⟨u,e⟩ | ⟨y,e,rfl⟩
   ·exact nomatch e
   ·injection e with e1;rw [e1]
 byValue:=fun k v h=>by
  rcases eG h with ⟨t,rfl⟩ | ⟨x,rfl,_⟩ <;> rfl
 pyHash:=fun hv h=>by
  rcases eG hv with ⟨t,rfl⟩ | ⟨x,rfl,rfl⟩
  ·exact wpAny_pyHash_int h
  ·exact BL h
 eqBool:=fun hu hv h=>by
  rw [Hh] at h
  rcases eG hu with ⟨t,rfl⟩ | ⟨x,rfl,rfl⟩
  ·rcases eG hv with ⟨u,rfl⟩ | ⟨y,rfl,rfl⟩
   ·exact wpAny_eqBool_int h
   ·exact SeqAt.EqAt.int_bool _ t y _ _ _ _ h
  ·rcases eG hv with ⟨u,rfl⟩ | ⟨y,rfl,rfl⟩
   ·exact SeqAt.EqAt.bool_int x _ u _ _ _ _ h
   ·refine SeqAt.EqAt.bool_bool x y _ _ _ _ ?_
    have e:(x==y)=(x4 x==x4 y):=by cases x <;> cases y <;> rfl
    rw [e];exact h
 «strs»:=fun k x t v h=>by
  rcases eG h with ⟨u,e⟩ | ⟨y,e,_⟩ <;> exact nomatch e
abbrev dB:=Int×Bool
def mP (p:dB):List Int:=[p.1,x4 p.2]
def qY (p:dB):List V:=[.int p.1,.bl p.2]
theorem Cr {p q:dB} (h:mP p=mP q):p=q:=by
 obtain ⟨a,b⟩:=p
 obtain ⟨c,d⟩:=q
 unfold mP at h
 injection h with h1 h2
 injection h2 with h2 _
 cases h1
 cases Hg h2
 rfl
def Mk (x:List Int×Addr×Value):DictEntry:=⟨reduceHash (Builtin.Tuple.tupleHashOf (x.1.map hashInt)),.ref x.2.1,x.2.2⟩
def f9 (d:Addr) (xs:List (List Int×Addr×Value)) (h:Heap):Prop:=(d==sysModules)=false∧kJ fun o es ep=>h.get? d=some o∧o.ExactDict∧o.data=.dict es ep∧es.toList=xs.map Mk∧(xs.map (·.1)).Nodup
abbrev mK (H:Hp):List (dB×V)→List (List Int×Addr×Value)→Prop:=Paired fun (p:dB×V) (q:List Int×Addr×Value)=>q.1=mP p.1∧H q.2.1=some (.tup (qY p.1))∧be p.2 q.2.2
def DP (H:Hp) (d:Addr) (kvs:List (dB×V)):Prop:=∃xs,H d=some (.ext (f9 d xs))∧kvs.length≤sizeLine∧mK H kvs xs
structure Ci (H:Hp) (p:Addr) (H':Hp):Prop where
 ol:∀a u,a≠p→H a=some u→H' a=some u
 fre:∀a,a≠p→H a=none→H' a=none
theorem Ci.mk' {H:Hp}{p:Addr}{o:HO}:Ci H p (aP H p o):=⟨fun a u n h=>by rw [aE n];exact h,fun a n h=>by rw [aE n];exact h⟩
theorem mK.mv {H H':Hp}{kvs:List (dB×V)}{xs:List (List Int×Addr×Value)} (r:mK H kvs xs) (k:∀b ys,H b=some (.tup ys)→H' b=some (.tup ys)):mK H' kvs xs:=Paired.mapP r fun _ _ z=>⟨z.1,k _ _ z.2.1,z.2.2⟩
theorem DP.mv {H H':Hp}{d:Addr}{kvs:List (dB×V)} (h:DP H d kvs) (k:∀b ys,H b=some (.tup ys)→H' b=some (.tup ys)) (kd:∀o,H d=some o→H' d=some o):DP H' d kvs:=by
 obtain ⟨xs,a,b,r⟩:=h
 exact ⟨xs,kd _ a,b,r.mv k⟩
theorem DP.sm {H H':Hp}{d:Addr}{kvs:List (dB×V)} (h:DP H d kvs) (s:aa H H'):DP H' d kvs:=h.mv (fun _ _ e=>s _ _ e) fun _ e=>s _ _ e
theorem Js {P:Program}{w:World}{k:dB}{us:List Value} (r:aL (qY k) us):ItemsAre (jj P w) (mP k) us:=by
 obtain ⟨x,y,rfl,rx,ry⟩:=r.two
 obtain ⟨t,rfl⟩:=(show ∃t,x=Value.int k.1 t from rx)
 obtain rfl:=(show y=Value.bool k.2 from ry)
 exact .cons (EB k.1 t) (.cons (CM k.2) .nil)
theorem Di {P:Program}{w:World}{H:Hp}{h:Heap}{b:Addr}{k:dB} (ok:gh P w H h) (e:H b=some (.tup (qY k))):(tupleKind (jj P w)).is h (mP k) b:=by
 obtain ⟨_,its,r,⟨o,h1,h2,n,h3⟩,_⟩:=(show bK P w H h b (.tup (qY k)) from ok b _ e)
 exact ⟨o,its.toArray,n,h1,h2,h3,by simpa using Js r⟩
theorem mK.all {P:Program}{w:World}{H:Hp}{h:Heap} (ok:gh P w H h) {kvs:List (dB×V)}{xs:List (List Int×Addr×Value)} (r:mK H kvs xs):∀x∈xs,(tupleKind (jj P w)).is h x.1 x.2.1:=by
 induction r with
 | nil=>intro x hx;cases hx
 | cons a t ih=>
  intro x hx
  rcases List.mem_cons.mp hx with z | z
  ·rw [z,a.1];exact Di ok a.2.1
  ·exact ih x z
theorem xz {P:Program}{w:World}{H:Hp}{h:Heap}{d:Addr}{kvs:List (dB×V)}{xs:List (List Int×Addr×Value)} (ok:gh P w H h) (pd:f9 d xs h) (r:mK H kvs xs):h.DictOfH (tupleKind (jj P w)) d xs:=by
 obtain ⟨_,o,es,ep,h1,h2,h3,h4,h5⟩:=pd
 exact ⟨o,es,ep,h1,h2,h3,h4,r.all ok,h5⟩
theorem Fc {P:Program}{w:World}{H:Hp}{h:Heap}{d:Addr}{xs:List (List Int×Addr×Value)} (pd:f9 d xs h):bK P w H h d (.ext (f9 d xs)):=by
 refine ⟨pd,?_,fun h1 h2 p k=>?_⟩
 ·obtain ⟨_,o,_,_,e,_⟩:=pd
  exact ⟨o,e⟩
 ·obtain ⟨a,o,es,ep,e,q⟩:=p
  exact ⟨a,o,es,ep,k _ e,q⟩
theorem Im {H:Hp}{kvs:List (dB×V)}{xs:List (List Int×Addr×Value)} (r:mK H kvs xs) {k:dB} (n:k∉kvs.map (·.1)):mP k∉xs.map (·.1):=by
 intro z
 apply n
 clear n
 induction r with
 | nil=>cases z
 | @cons p q ps qs a t ih=>
  rw [List.map_cons] at z ⊢
  rcases List.mem_cons.mp z with e | e
  ·rw [a.1] at e
   exact List.mem_cons.mpr (.inl (Cr e))
  ·exact List.mem_cons.mpr (.inr (ih e))
theorem mK.at {H:Hp}{kvs:List (dB×V)}{xs:List (List Int×Addr×Value)} (r:mK H kvs xs) (nd:(kvs.map (·.1)).Nodup) {k:dB}{v:V} (hm:(k,v)∈kvs):∃p,atKey xs (mP k)=some p∧be v p.2:=by
 induction r with
 | nil=>cases hm
 | @cons p q ps qs h t ih=>
  rw [List.map_cons,List.nodup_cons] at nd
  by_cases e:p.1=k
  ·refine ⟨q.2,by simp [atKey,List.find?_cons,h.1,e],?_⟩
   rcases List.mem_cons.mp hm with z | z
   ·rw [←z] at h;exact h.2.2
   ·exact absurd (List.mem_map.mpr ⟨_,z,e.symm⟩) nd.1
  ·rcases List.mem_cons.mp hm with z | z
   ·rw [←z] at e;exact absurd rfl e
   ·obtain ⟨p',h1,h2⟩:=ih nd.2 z
    have ne:¬q.1=mP k:=fun z=>e (Cr (h.1.symm.trans z))
    exact ⟨p',by simpa [atKey,List.find?_cons,ne] using h1,h2⟩
theorem mK.none {H:Hp}{kvs:List (dB×V)}{xs:List (List Int×Addr×Value)} (r:mK H kvs xs) {k:dB} (n:k∉kvs.map (·.1)):atKey xs (mP k)=.none:=
 atKey_none_of_get fun j p e=>Im r n (List.mem_map.mpr ⟨_,List.mem_of_getElem? e,rfl⟩)
theorem mK.mem {H:Hp}{kvs:List (dB×V)}{xs:List (List Int×Addr×Value)} (r:mK H kvs xs) {k:dB} (m:k∈kvs.map (·.1)):mP k∈xs.map (·.1):=by
 induction r with
 | nil=>cases m
 | @cons p q ps qs a t ih=>
  rw [List.map_cons] at m ⊢
  rcases List.mem_cons.mp m with e | e
  ·rw [a.1,e];exact List.mem_cons_self ..
  ·exact List.mem_cons_of_mem _ (ih e)
theorem mK.nd {H:Hp}{kvs:List (dB×V)}{xs:List (List Int×Addr×Value)} (r:mK H kvs xs) (nd:(xs.map (·.1)).Nodup):(kvs.map (·.1)).Nodup:=by
 induction r with
 | nil=>exact List.nodup_nil
 | @cons p q ps qs a t ih=>
  rw [List.map_cons,List.nodup_cons] at nd ⊢
  exact ⟨fun z=>nd.1 (by rw [a.1];exact mK.mem t z),ih nd.2⟩
theorem GM {H:Hp}{d:Addr}{kvs:List (dB×V)}{xs:List (List Int×Addr×Value)}{b:Addr}{k:dB}{v:V}{u:Value} (hd:H d=some (.ext (f9 d xs))) (hl:kvs.length<sizeLine) (r:mK H kvs xs) (hb:H b=some (.tup (qY k))) (rv:be v u):DP (aP H d (.ext (f9 d (xs++[(mP k,b,u)])))) d (kvs++[(k,v)]):=by
 have tp:∀c ys,H c=some (.tup ys)→aP H d (.ext (f9 d (xs++[(mP k,b,u)]))) c=some (.tup ys):=fun c ys e=>by
  rw [aE (Dm e hd (by intro z;cases z))];exact e
 refine ⟨_,aA,by rw [List.length_append];exact hl,DS (r.mv tp) (.cons ⟨rfl,tp _ _ hb,rv⟩ .nil)⟩
section
variable {X:Cx}
theorem ai.pset {pins:List (Addr×Obj)}{σ:St}{H:Hp}{s:Shared}{d:Addr}{xs xs':List (List Int×Addr×Value)}{h':Heap}{t':Nat}{P:Program}{w:World} (I:ai X pins σ H s) (hH:H d=some (.ext (f9 d xs))) (hm:(d==sysModules)=false)
 (hd:h'.DictOfH (tupleKind (jj P w)) d xs') (sb:Heap.SameBut d s.heap h'):ai X pins σ (aP H d (.ext (f9 d xs'))) { s with heap:=h',toks:=t' }:=by
 obtain ⟨o,es,ep,ho,q1,q2,q3,_,q5⟩:=hd
 refine I.write (x:=d) (e:=d) (by rw [hH];exact trivial) (.inl rfl) (fun b u hb hu=>(sb.2 b hb).trans hu) ⟨_,ho⟩ ?_
 exact Fc ⟨hm,o,es,ep,ho,q1,q2,q3,q5⟩
inductive Kp (x:V) (y:V) (H:Hp) (Q:VK):Prop
 | mk (d b:Addr) (kvs:List (dB×V)) (k:dB) (v:V) (h0:x=.ref d) (h1:y=.ref b) (h2:DP H d kvs) (h3:H b=some (.tup (qY k))) (h4:(k,v)∈kvs) (h5:Q v H)
def LN:R2:=fun x y H Q=>Kp  x y H Q
theorem qg (hu:X.A.units+64<cLine):sS X LN:=by
 intro value slice pins s σ H x y v u Q I rx ry h hs
 obtain ⟨d,b,kvs,k,z,rfl,rfl,hd,hb,hk,q⟩:=h
 cases rx
 cases ry
 obtain ⟨xs,hx,_,rel⟩:=hd
 obtain ⟨pd,_,_⟩:=(show bK X.prog X.w H s.heap d (.ext (f9 d xs)) from I.hok _ _ hx)
 have dd:s.heap.DictOfH (tupleKind (jj X.prog X.w)) d xs:=xz I.hok pd rel
 have nd:(xs.map (·.1)).Nodup:=by obtain ⟨_,_,_,_,_,_,_,_,n⟩:=pd;exact n
 obtain ⟨p,hp,rp⟩:=rel.at (rel.nd nd) hk
 exact subscriptTail_builtinR (x:=p.2) dd.typeIs PySem.F.slot_dict_getitem.lookup (wpAny_getItem_heap (tupleKind_room_in1 (by trivial)) (Di I.hok hb) dd hp ⟨rfl,z,H,I.tok _,rp,q⟩) hs
inductive JY (x:V) (y:V) (H:Hp) (Q:VK):Prop
 | mk (d b:Addr) (kvs:List (dB×V)) (k:dB) (h0:x=.ref b) (h1:y=.ref d) (h2:DP H d kvs) (h3:H b=some (.tup (qY k))) (h4:Q (.bl (decide (k∈kvs.map (·.1)))) H)
def LW:R2:=fun x y H Q=>JY  x y H Q
theorem Jy (hu:X.A.units+64<cLine):dA X (compareOp .In) LW:=by
 intro pins s σ H x y v u Q I rx ry h
 obtain ⟨d,b,kvs,k,rfl,rfl,hd,hb,q⟩:=h
 cases rx
 cases ry
 obtain ⟨xs,hx,_,rel⟩:=hd
 obtain ⟨pd,_,_⟩:=(show bK X.prog X.w H s.heap d (.ext (f9 d xs)) from I.hok _ _ hx)
 have dd:s.heap.DictOfH (tupleKind (jj X.prog X.w)) d xs:=xz I.hok pd rel
 have nd:(xs.map (·.1)).Nodup:=by obtain ⟨_,_,_,_,_,_,_,_,n⟩:=pd;exact n
 refine wpAny_in_heap (tupleKind_room_in1 (by trivial)) (Di I.hok hb) pd.1 dd ?_
 have e:(atKey xs (mP k)).isSome=decide (k∈kvs.map (·.1)):=by
  by_cases m:k∈kvs.map (·.1)
  ·obtain ⟨x,hx,ex⟩:=List.mem_map.mp m
   obtain ⟨p,hp,_⟩:=rel.at (rel.nd nd) (show (k,x.2)∈kvs by rw [←ex];exact hx)
   rw [hp,decide_eq_true m];rfl
  ·rw [rel.none m,decide_eq_false m];rfl
 rw [e]
 exact ⟨.bl _,H,I.tok _,rfl,q⟩
end
section
variable {X:Cx}{a b:Expr}{rest:List Expr}{pos:Pos}{ta tb:TE}
end
def Fd (J:It) (σc:St) (g:TG) (tt:TT) (tk tv:TE) (D:Addr) (H1:Hp) (Q:VK):Prop:=
 ∃W:Nat→Nat→Hp→List (dB×V)→Prop,(∃m,W 0 m (aP H1 D (.ext (f9 D []))) [])∧∀i m H ys,W i m H ys→DP H D ys∧
  ((J.stop i H∧Q (.ref D) H)∨(J.go i H∧ys.length<sizeLine∧∃N:Hp→List (dB×V)→Prop,(∀H' ys',N H' ys'→∃m',m'<m∧W (i+1) m' H' ys')∧
    ∀x H',J.yld i H x H'→g x σc H' fun σ2 H2=>ja σc σ2∧tt σ2 H2 fun b H3=>if b=true then tk σ2 H3 fun kv H4=>bI fun b k=>kv=.ref b∧tv σ2 H4 fun y H5=>H5 b=some (.tup (qY k))∧DP H5 D ys∧k∉ys.map (·.1)∧∀H6,Ci H5 D H6→DP H6 D (ys++[(k,y)])→N H6 (ys++[(k,y)]) else N H3 ys))
def Ek (wi:TI) (L:Nat) (src:List Nat) (g:TG) (tt:TT) (tk tv:TE):TE:=fun σ H Q=>wi σ H fun J H1=>∀D,H1 D=none→Fd J (eC L src σ) g tt tk tv D H1 Q
section
variable {X:Cx}{kx vx tg iter:Expr}{ifs:List Expr}{scope:Scope}{pos:Pos}{N':List Str}{L:Nat}{src:List Nat}{wi:TI}{g:TG}{tt:TT}{tk tv:TE}
theorem EZ (hu:X.A.units+64<cLine) (hc:X.calm=true) (ck:x6 X.env.scope X.N scope N' L src) {cl:List (Str×Addr)}{pins:List (Addr×Obj)}{s:Shared}{σ:St}{H:Hp}{Q:VK} (I:ai X pins σ H s)
 (hsub:∀x c,cl.lookup x=some c→X.env.cells.lookup x=some c) (hhas:∀y∈scope.names,y.2=.free→∃c,cl.lookup y.1=some c)
 (hi:PI X tg iter wi) (hg:∀cl C s H ex pn,PG (bz X scope cl C N' s H ex pn) tg g) (hif:∀cl C s H ex pn,oK (bz X scope cl C N' s H ex pn) ifs tt)
 (hk:∀cl C s H ex pn,PE (bz X scope cl C N' s H ex pn) kx tk) (hv:∀cl C s H ex pn,PE (bz X scope cl C N' s H ex pn) vx tv) (h:Ek wi L src g tt tk tv σ H Q) {RR:Value→Addr→Result→Shared→Prop}
 (hRR:∀D C H' f s' m,ai X pins σ H' s'→s'.heap.Ns C m→jM X pins H' C→Q (.ref D) H'→RR (.ref D) C (.ok f) s') :
 wpAny (model X.prog X.w) X.A (eval iter X.env) (fun x s₁=>wpAny (model X.prog X.w) X.A (pyIter x) (fun it s₂=>wpAny (model X.prog X.w) X.A newDict (fun acc s₃=>
  wpAny (model X.prog X.w) X.A (newFunctionEnv scope X.env.globals cl [] X.env.qual none .none (some X.env)) (fun cenv s₄=>
   codeAny (model X.prog X.w) X.A (.compStart (.DictComp kx vx [⟨tg,iter,ifs,0⟩] scope pos) 0 it acc { cenv with scope:=relabel scope X.env }) (RR acc cenv.locals) s₄) X.xe s₃) X.xe s₂) X.xe s₁) X.xe s:=by
 refine aR (hi pins s σ H _ I h) fun v s1 h1=>aR h1 fun itv s2 h2=>?_
 obtain ⟨it,fp,tn,J,H2,e,I2,T,st2,f2,q⟩:=h2
 subst e
 refine wpAny_newObj_type (wpAny_newFunctionEnv ck.nocell (by intro y hy;simp at hy) (fun h₁ hns₁ hsb₁=>?_) ck.kind)
 dsimp only at hns₁ hsb₁ ⊢
 generalize hH2:s2.heap.push { cls:=.type "dict",dict:=none,data:=.dict #[] }=hp2 at hns₁ hsb₁ ⊢
 have hC:hp2.objs.size=s2.heap.objs.size+1:=by rw [←hH2,Heap.size_push]
 have hDC:s2.heap.objs.size≠hp2.objs.size:=by rw [hC];exact Nat.ne_of_lt (Nat.lt_succ_self _)
 have hCle:s2.heap.objs.size≤hp2.objs.size:=by rw [hC];exact Nat.le_succ _
 have below:∀b,b<s2.heap.objs.size→b≠hp2.objs.size∧b≠s2.heap.objs.size:=fun b hb=>⟨by rw [hC];exact Nat.ne_of_lt (Nat.lt_succ_of_lt hb),Nat.ne_of_lt hb⟩
 have old:∀b o,s2.heap.get? b=some o→h₁.get? b=some o:=fun b o e=>hsb₁.extBut b o (below b (Heap.lt_size e)).1 (Heap.get?_push_of_some _ (hH2▸Heap.get?_push_of_some _ e))
 have hacc0:(s2.heap.push { cls:=.type "dict",dict:=none,data:=.dict #[] }).get? s2.heap.objs.size=some { cls:=.type "dict",dict:=none,data:=.dict #[] }:=Heap.get?_push_size _ rfl
 have hacc:h₁.get? s2.heap.objs.size=some { cls:=.type "dict",dict:=none,data:=.dict #[] }:=hsb₁.extBut _ _ hDC (Heap.get?_push_of_some _ (hH2▸hacc0))
 have hbig:(s2.heap.objs.size==sysModules)=false:=by
  have e:mainGlobals<s2.heap.objs.size:=(I2.mod.glob.keeps I2.bk).lt
  exact beq_eq_false_iff_ne.mpr (Ne.symm (Nat.ne_of_lt (Nat.lt_trans (by decide) e)))
 have hDn:H2 s2.heap.objs.size=none:=I2.fresh
 obtain ⟨W,⟨m0,w0⟩,turn⟩:=q _ hDn
 have fpo:∀b∈fp,∃o,s2.heap.get? b=some o∧∀v,o.data≠.cell v:=T.obj _ _ st2
 have fplt:∀b∈fp,b<s2.heap.objs.size:=fun b hb=>by obtain ⟨o,e,_⟩:=fpo b hb;exact Heap.lt_size e
 have hfrs:∀b∈fp,b∉qK X.stack:=fun b hb z=>by
  rcases List.mem_cons.mp (I2.stkSub b z) with z' | z'
  ·exact (f2 b hb).2.1 z'
  ·exact (f2 b hb).2.2.1 z'
 generalize hX:bz X scope cl hp2.objs.size N' s2 H2 fp (X.pn++pins)=X'
 have ok':X'.Ok:=by
  subst hX
  refine ⟨I2.ok.mod,ck.kind,I2.ok.glob,I2.ok.blt,hCle,fun x y c e1 e2=>I2.ok.inj x y c (hsub _ _ e1) (hsub _ _ e2),fun x hx=>?_,fun x c z _=>(by cases z),I2.ok.hd,I2.ok.frames,.inl rfl,fun b hb=>⟨(below b (fplt b hb)).1,fun x c e=>(f2 b hb).2.2.2.2.1 x c (hsub _ _ e)⟩,
   I2.bs,Nat.le_trans I2.ok.bsz I2.sz,fun b o e hb=>?_,hfrs,I2.stack,I2.stkFree⟩
  ·-- a name that is a cell or free
   have hx':(relabel scope X.env).names.lookup x=some .cell∨(relabel scope X.env).names.lookup x=some .free:=hx
   have key:∀(names:List (Str×NameKind)),(∀y∈names,y.2≠.cell)→
    ((names.map fun (n,k)=>if (k==NameKind.free && X.env.scope.kind==.function && X.env.kindOf n==some .cell) then (n,NameKind.cell) else (n,k)).lookup x=some .cell∨
     (names.map fun (n,k)=>if (k==NameKind.free && X.env.scope.kind==.function && X.env.kindOf n==some .cell) then (n,NameKind.cell) else (n,k)).lookup x=some .free)→∃y∈names,y.1=x∧y.2=.free:=by
    intro names
    induction names with
    | nil=>intro _ h;rcases h with h | h <;> simp at h
    | cons y r ih=>
     intro hn h
     obtain ⟨n,k⟩:=y
     by_cases hb:x=n
     ·subst hb
      refine ⟨(x,k),List.mem_cons_self,rfl,?_⟩
      by_cases hk:k=.free
      ·exact hk
      ·exfalso
       have hkb:(k==NameKind.free)=false:=by simpa using hk
       have hnc:k≠.cell:=hn (x,k) List.mem_cons_self
       simp only [List.map_cons,hkb,Bool.false_and,Bool.false_eq_true,if_false,List.lookup_cons,beq_self_eq_true,if_true] at h
       rcases h with h | h
       ·exact hnc (Option.some.inj h)
       ·exact hk (Option.some.inj h)
     ·have hb':(x==n)=false:=by simpa using hb
      have h':((r.map fun (n,k)=>if (k==NameKind.free && X.env.scope.kind==.function && X.env.kindOf n==some .cell) then (n,NameKind.cell) else (n,k)).lookup x=some .cell∨
       (r.map fun (n,k)=>if (k==NameKind.free && X.env.scope.kind==.function && X.env.kindOf n==some .cell) then (n,NameKind.cell) else (n,k)).lookup x=some .free):=by
       rw [List.map_cons] at h
       dsimp only at h
       by_cases hcnd:(k==NameKind.free && X.env.scope.kind==.function && X.env.kindOf n==some .cell)=true
       ·rw [if_pos hcnd] at h
        simpa only [List.lookup_cons,hb'] using h
       ·rw [if_neg hcnd] at h
        simpa only [List.lookup_cons,hb'] using h
      obtain ⟨y,hy,e1,e2⟩:=ih (fun y hy=>hn y (List.mem_cons_of_mem _ hy)) h'
      exact ⟨y,List.mem_cons_of_mem _ hy,e1,e2⟩
   obtain ⟨y,hy,e1,e2⟩:=key scope.names ck.nocell hx'
   obtain ⟨c,hc'⟩:=hhas y hy e2
   exact ⟨c,e1▸hc'⟩
  ·rcases (f2 b hb).2.2.2.1 with z | z
   ·exact I2.ok.noex b o e z
   ·exact absurd (Nat.lt_of_lt_of_le (Heap.lt_size e) (Nat.le_trans I2.ok.bsz z)) (Nat.lt_irrefl _)
 have stat:∀{H':Hp},(∀b∈fp,H' b=none)→∀b∈fp,jM X' [] H' b:=by
  subst hX
  intro H' hn b hb
  refine ⟨hn b hb,(below b (fplt b hb)).1,hfrs b hb,.inl hb,fun x c e=>(f2 b hb).2.2.2.2.1 x c (hsub _ _ e),fun p hp=>?_⟩
  have hp':p∈X.pn++pins:=by simpa [bz] using hp
  exact (f2 b hb).2.2.2.2.2 p hp'
 have I1:ai X' [] (eC L src σ) (aP H2 s2.heap.objs.size (.ext (f9 s2.heap.objs.size []))) { s2 with heap:=h₁,toks:=s2.toks+([]:List (Str×Value)).length }:=by
  subst hX
  have up:∀b o,H2 b=some o→aP H2 s2.heap.objs.size (.ext (f9 s2.heap.objs.size [])) b=some o:=fun b o e=>by rw [aE (bf e hDn)];exact e
  have upn:∀b,b<s2.heap.objs.size→H2 b=none→aP H2 s2.heap.objs.size (.ext (f9 s2.heap.objs.size [])) b=none:=fun b hb e=>by rw [aE (Nat.ne_of_lt hb)];exact e
  refine ⟨ok',rfl,I2.bare,Un.laid old (Nat.le_refl _) hDn,⟨_,hns₁,fun i x v e1 e2 e3=>?_⟩,fun x c e=>?_,?_,fun x c e=>?_,fun p hp=>?_,I2.hok.laid old (Nat.le_refl _) (Fc ⟨hbig,_,#[],0,hacc,⟨rfl,rfl,rfl⟩,rfl,rfl,List.nodup_nil⟩),?_⟩
  ·-- the names of the def around
   have hiL:L≤i:=by
    by_cases hlt:i<L
    ·exfalso
     unfold eC at e2
     rw [List.getElem?_append_left (by simpa using hlt),List.getElem?_replicate,if_pos hlt] at e2
     cases e2
    ·trivial
   have e2':(src.map fun j=>(σ[j]?).join)[i - L]?=some (some v):=by
    unfold eC at e2
    rw [List.getElem?_append_right (by simpa using hiL),List.length_replicate] at e2
    exact e2
   rw [List.getElem?_map] at e2'
   cases hj:src[i - L]? with
   | none=>rw [hj] at e2';cases e2'
   | some j=>
    rw [hj] at e2'
    have e3':(σ[j]?).join=some v:=Option.some.inj e2'
    have hσ:σ[j]?=some (some v):=by
     cases q:σ[j]? with
     | none=>rw [q] at e3';cases e3'
     | some o=>rw [q] at e3';exact congrArg some e3'
    obtain ⟨x',g1,g2,g3⟩:=ck.frees (i - L) j hj
    have:L+(i - L)=i:=by trivial
    rw [this] at g1
    have ex:x'=x:=Option.some.inj (g1.symm.trans e1)
    subst ex
    have hfree:=ck.free _ (PySem.mem_of_lookup g3) rfl
    obtain ⟨m,hn,hl⟩:=I2.loc
    obtain ⟨u,r,l⟩:=hl j x' v g2 hσ (hfree.elim (fun z=>.inr (.inl z)) fun z=>.inr (.inr z))
    refine ⟨u,r,.inr ⟨?_,?_⟩⟩
    ·-- its kind in the block
     have key:∀(names:List (Str×NameKind)),names.lookup x'=some .free→
      ((names.map fun (n,k)=>if (k==NameKind.free && X.env.scope.kind==.function && X.env.kindOf n==some .cell) then (n,NameKind.cell) else (n,k)).lookup x'=some .cell∨
       (names.map fun (n,k)=>if (k==NameKind.free && X.env.scope.kind==.function && X.env.kindOf n==some .cell) then (n,NameKind.cell) else (n,k)).lookup x'=some .free):=by
      intro names
      induction names with
      | nil=>intro h;simp at h
      | cons y r ih=>
       intro h
       obtain ⟨n,k⟩:=y
       by_cases hb:x'=n
       ·subst hb
        simp only [List.lookup_cons,beq_self_eq_true,if_true] at h
        have hk:k=.free:=Option.some.inj h
        subst hk
        rw [List.map_cons]
        dsimp only
        by_cases hcnd:(NameKind.free==NameKind.free && X.env.scope.kind==.function && X.env.kindOf x'==some .cell)=true
        ·rw [if_pos hcnd];left;simp [List.lookup_cons]
        ·rw [if_neg hcnd];right;simp [List.lookup_cons]
       ·have hb':(x'==n)=false:=by simpa using hb
        have h':=ih (by simpa only [List.lookup_cons,hb'] using h)
        rw [List.map_cons]
        dsimp only
        by_cases hcnd:(k==NameKind.free && X.env.scope.kind==.function && X.env.kindOf n==some .cell)=true
        ·rw [if_pos hcnd];simpa only [List.lookup_cons,hb'] using h'
        ·rw [if_neg hcnd];simpa only [List.lookup_cons,hb'] using h'
     exact key scope.names g3
    ·obtain ⟨c,hcl⟩:=hhas _ (PySem.mem_of_lookup g3) rfl
     have hcx:=hsub _ _ hcl
     rcases l with ⟨k1,_⟩ | ⟨_,c',e4,z⟩
     ·exfalso
      have k1':X.env.scope.names.lookup x'=some .local:=k1
      rcases hfree with z | z
      ·rw [z] at k1';cases k1'
      ·rw [z] at k1';cases k1'
     ·rw [hcx] at e4
      cases e4
      obtain ⟨o,ho,hd⟩:=z
      exact ⟨c,hcl,o,old _ _ ho,hd⟩
  ·obtain ⟨v,o,ho,hd⟩:=I2.cell x c (hsub _ _ e)
   exact ⟨v,o,old _ _ ho,hd⟩
  ·show aP H2 s2.heap.objs.size (.ext (f9 s2.heap.objs.size [])) hp2.objs.size=none
   rw [aE (Ne.symm hDC)]
   exact I2.hok.fresh hCle
  ·obtain ⟨v,o,ho,hd⟩:=I2.cell x c (hsub _ _ e)
   exact upn c (Heap.lt_size ho) (I2.freeC x c (hsub _ _ e))
  ·have hp':p∈X.pn++pins:=by simpa [bz] using hp
   obtain ⟨e,n,ne,nf,d⟩:=I2.pin p hp'
   have hlt:=Heap.lt_size e
   refine ⟨old _ _ e,upn _ hlt n,(below _ hlt).1,fun z=>?_,d⟩
   rcases List.mem_cons.mp (I2.stkSub _ z) with z' | z'
   ·exact ne z'
   ·exact nf z'
  ·show (eC L src σ).length=N'.length
   unfold eC
   rw [List.length_append,List.length_replicate,List.length_map,ck.len]
 have eA:X'.A=X.A:=by subst hX;rfl
 have eP:X'.prog=X.prog:=by subst hX;rfl
 have eW:X'.w=X.w:=by subst hX;rfl
 have eK:X'.K=X.K:=by subst hX;rfl
 have ec:X'.calm=true:=by subst hX;exact hc
 have exe:X'.xe=fun _ _=>False:=by subst hX;rfl
 have eE:X'.env=compEnvC scope cl hp2.objs.size X.env:=by subst hX;rfl
 have hg':PG X' tg g:=by subst hX;exact hg _ _ _ _ _ _
 have hif':oK X' ifs tt:=by subst hX;exact hif _ _ _ _ _ _
 have hk':PE X' kx tk:=by subst hX;exact hk _ _ _ _ _ _
 have hv':PE X' vx tv:=by subst hX;exact hv _ _ _ _ _ _
 have aft:∀{H':Hp}{s':Shared},ai X' [] (eC L src σ) H' s'→ai X pins σ H' s'∧(∃m,s'.heap.Ns hp2.objs.size m)∧jM X pins H' hp2.objs.size:=by
  subst hX
  intro H' s' J
  refine ⟨I2.call' (ch:=fp) J.os J.base J.hok J.bare fun b hb=>⟨(f2 b hb).2.2.2.1,(f2 b hb).2.1,(f2 b hb).2.2.2.2.1,(f2 b hb).2.2.2.2.2⟩,?_,I2.fpOk hCle J.free⟩
  obtain ⟨m,hn,_⟩:=J.loc
  exact ⟨m,hn⟩
 have st1:tn 0 h₁:=T.keep _ _ _ st2 fun b hb o e=>old b o e
 have loop:∀s₃:Shared,s₃={ s2 with heap:=h₁,toks:=s2.toks+([]:List (Str×Value)).length }→
  codeAny (model X.prog X.w) X.A (.compLoop (.DictComp kx vx [⟨tg,iter,ifs,0⟩] scope pos) 0 (.ref it) (.ref s2.heap.objs.size) (compEnvC scope cl hp2.objs.size X.env))
   (RR (.ref s2.heap.objs.size) hp2.objs.size) s₃:=by
  rintro s₃ rfl
  refine uz (fun n s'=>kJ fun i H' ys=>ai X' [] (eC L src σ) H' s'∧tn i s'.heap∧(∀b∈fp,H' b=none)∧W i n H' ys) ?_ m0
   ⟨0,_,[],I1,st1,fun b hb=>(by rw [aE (below b (fplt b hb)).2];exact (f2 b hb).1),w0⟩
  rintro n s3 ⟨i,H3,ys,I3,st3,fr3,w3⟩
  obtain ⟨hD,alt⟩:=turn i n H3 ys w3
  rcases alt with ⟨stop,qn⟩ | ⟨go,hlen,N,hN,step⟩
  ·have d:=T.done X' eP eW eK ec i [] s3 (eC L src σ) H3 (fun _ _=>False) I3 (stat fr3) st3 stop
   rw [eA] at d
   refine aR d fun r s4 ⟨hr,I4⟩=>?_
   subst hr
   obtain ⟨J,⟨m,hn⟩,fpC⟩:=aft I4
   exact hRR _ _ H3 .next s4 m J hn fpC qn
  ·have d:=T.item X' eP eW eK ec i [] s3 (eC L src σ) H3 (fun _ _=>False) I3 (stat fr3) st3 go
   rw [eA] at d
   refine aR d fun r s4 ⟨u,hr,h4⟩=>?_
   subst hr
   refine aR h4 fun _ s5 ⟨x,H5,I5,r5,y5,st5,fr5⟩=>?_
   have I5':=I5.pinned (stat fr5) (T.obj _ _ st5)
   have a1:=hg' _ s5 (eC L src σ) H5 x u _ I5' r5 (step x H5 y5)
   rw [eP,eW,eA,eE,exe] at a1
   refine aR a1 fun _ s6 ⟨σ6,H6,I6,bk,q6⟩=>?_
   have a2:=hif' _ s6 σ6 H6 _ I6 q6
   rw [eP,eW,eA,eE,exe] at a2
   refine aR a2 fun b s7 ⟨H7,I7,q7⟩=>?_
   have again:∀{H8:Hp}{s8:Shared}{ys':List (dB×V)},ai X' ([]++qx fp s5.heap) σ6 H8 s8→N H8 ys'→∃m,m<n∧kJ fun i H' ys=>ai X' [] (eC L src σ) H' s8∧tn i s8.heap∧(∀b∈fp,H' b=none)∧W i m H' ys:=fun {H8 s8 ys'} I8 n8=>by
    obtain ⟨m',hm,w8⟩:=hN H8 ys' n8
    refine ⟨m',hm,i+1,H8,ys',(I8.unpinned).weak bk.1.symm bk.2,T.keep _ _ _ st5 fun b hb o e=>(I8.pin (b,o) (List.mem_append_right _ (List.mem_append_right _ (gu hb e)))).1,fun b hb=>?_,w8⟩
    obtain ⟨o,e,d⟩:=T.obj _ _ st5 b hb
    exact (I8.pin (b,o) (List.mem_append_right _ (List.mem_append_right _ (gu hb e)))).2.1
   cases b with
   | false=>
    rw [if_neg Bool.false_ne_true] at q7 ⊢
    exact again I7 q7
   | true=>
    rw [if_pos rfl] at q7 ⊢
    have a3:=hk' _ s7 σ6 H7 _ I7 q7
    rw [eP,eW,eA,eE,exe] at a3
    refine aR a3 fun kv s8 ⟨yk,H8,I8,r8,bk,k,ek,q8⟩=>?_
    subst ek
    have a4:=hv' _ s8 σ6 H8 _ I8 q8
    rw [eP,eW,eA,eE,exe] at a4
    refine aR a4 fun vv s9 ⟨y,H9,I9,r9,hb9,hD9,hk9,q9⟩=>?_
    obtain rfl:kv=.ref bk:=r8
    obtain ⟨xs,hx9,hz,rel⟩:=hD9
    obtain ⟨pd,_,_⟩:=(show bK X'.prog X'.w H9 s9.heap s2.heap.objs.size (.ext (f9 s2.heap.objs.size xs)) from I9.hok _ _ hx9)
    have hok:gh X.prog X.w H9 s9.heap:=by rw [←eP,←eW];exact I9.hok
    have dd:s9.heap.DictOfH (tupleKind (jj X.prog X.w)) s2.heap.objs.size xs:=xz hok pd rel
    refine wpAny_dictSet_heap (knd:=tupleKind (jj X.prog X.w)) (k:=mP k) (hsz:=by rw [←Paired.length rel];exact hz) (show X.A.units<cLine by trivial) (Di hok hb9) dd fun h' hd' sb=>?_
    have nk:=Im rel hk9
    have es:storedH xs (mP k) bk vv=xs++[(mP k,bk,vv)]:=PySem.storedH_new (atKey_none_of_get fun j p e=>nk (List.mem_map.mpr ⟨_,List.mem_of_getElem? e,rfl⟩)) _ _
    rw [es] at hd'
    exact again (I9.pset (t':=s9.toks+(tupleKind (jj X.prog X.w)).draws (mP k)) hx9 pd.1 hd' sb) (q9 _ .mk' (GM hx9 hlen rel hb9 r9))
 exact codeAny_compStart_dict (loop _ rfl) (T.self _ 0 _ _ _ st1 (loop _ rfl))
theorem Gf (hu:X.A.units+64<cLine) (hc:X.calm=true) (ck:pJ X.env.scope X.N scope N' L src=true) (hi:PI X tg iter wi) (hg:∀cl C s H ex pn,PG (bz X scope cl C N' s H ex pn) tg g) (hif:∀cl C s H ex pn,oK (bz X scope cl C N' s H ex pn) ifs tt)
 (hk:∀cl C s H ex pn,PE (bz X scope cl C N' s H ex pn) kx tk) (hv:∀cl C s H ex pn,PE (bz X scope cl C N' s H ex pn) vx tv) (hs:∀x,foldedSetIterable iter X.env x=pure x:=by intro _;rfl) :
 PE X (.DictComp kx vx [⟨tg,iter,ifs,0⟩] scope pos) (Ek wi L src g tt tk tv):=by
 intro pins s σ H Q I h
 have ck:=rf ck
 obtain ⟨cl,hclos,hsub,hhas⟩:=wg (scope:=scope) (env:=X.env) fun y hy e=>I.ok.has y.1 (ck.free y hy e)
 rw [arm_eval_DictComp]
 refine wpAny_comprehension_free (use:=none) rfl hs hclos ck.kind ck.loc (EZ hu hc ck I hsub hhas hi hg hif hk hv h (RR:=fun acc C=>compPost (model X.prog X.w) X.A X.xe none (EP X pins σ Q) acc C) ?_)
 intro D C H' f s' m J hn fpC q
 refine ⟨m,hn,fun h' hsb=>⟨.ref D,H',?_,rfl,q⟩⟩
 obtain ⟨f0,f1,f2,f3,f4,f5⟩:=fpC
 exact J.turned (t':=s'.toks) (fun b o hb e=>(hsb.2 b hb).trans e) f0 f1 f3 f4 f5
end
end L2
namespace L2
open PySem
theorem y8 {r:KM.Fra} (h:KM.Rd r) {D N:Int} (hD:D≠0) (e:KM.vl r=Rat.divInt N D):r.2 ∣ D:=by
 have e1:=(Rat.divInt_eq_divInt_iff (d₁:=r.2) (d₂:=D) h.nz hD).mp e
 have h1:r.2.natAbs ∣ r.1.natAbs*D.natAbs:=by
  rw [←Int.natAbs_mul,e1,Int.natAbs_mul]
  exact Nat.dvd_mul_left ..
 have h2:Nat.Coprime r.2.natAbs r.1.natAbs:=by
  have:=h.2
  rw [Int.gcd_comm] at this
  exact this
 exact Int.natAbs_dvd_natAbs.mp (h2.dvd_of_dvd_mul_left h1)
theorem pM {p:KM.Fra} (h:p.2≠0) {D:Int} (hD:D≠0) (d:p.2 ∣ D):∃N,KM.vl p=Rat.divInt N D:=by
 obtain ⟨u,rfl⟩:=d
 have hu:u≠0:=fun z=>hD (by rw [z,Int.mul_zero])
 exact ⟨p.1*u,(Rat.divInt_mul_right hu).symm⟩
structure Cb (D:Int) (M:Nat) (p:KM.Fra):Prop where
 rd:KM.Rd p
 dv:p.2 ∣ D
 lo:-(M:Rat)≤KM.vl p
 hi:KM.vl p≤M
theorem Gv (M:Int):Rat.divInt M 1=(M:Rat):=by
 have:=Rat.num_divInt_den (M:Rat)
 simpa using this
theorem D0 (M:Nat):KM.vl ((M:Int),1)=(M:Rat):=by
 show Rat.divInt (M:Int) 1=_
 rw [Gv];rfl
theorem CL (M:Nat):KM.vl (-(M:Int),1)=-(M:Rat):=by
 show Rat.divInt (-(M:Int)) 1=_
 rw [Gv,Rat.intCast_neg];rfl
theorem Ll {a b:Nat} (h:a≤b):(a:Rat)≤b:=by exact_mod_cast h
theorem Cb.mono {D E:Int}{M N:Nat}{p:KM.Fra} (h:Cb D M p) (k:D ∣ E) (l:M≤N):Cb E N p:=by
 have:=Ll l
 exact ⟨h.rd,Int.dvd_trans h.dv k,by have:=h.lo;grind,by have:=h.hi;grind⟩
theorem Cb.add {D:Int}{M N:Nat}{p q:KM.Fra} (hD:D≠0) (h:Cb D M p) (k:Cb D N q):Cb D (M+N) (KM.ladd p q):=by
 have e:=KM.vl_add h.rd.nz k.rd.nz
 obtain ⟨a,ea⟩:=pM h.rd.nz hD h.dv
 obtain ⟨b,eb⟩:=pM k.rd.nz hD k.dv
 have r:=h.rd.add k.rd
 have c:((M+N:Nat):Rat)=(M:Rat)+N:=by exact_mod_cast rfl
 refine ⟨r,y8 r hD (N:=a+b) ?_,?_,?_⟩
 ·rw [e,ea,eb,Rat.divInt_add_divInt _ _ hD hD,show a*D+b*D=(a+b)*D by rw [Int.add_mul],Rat.divInt_mul_right hD]
 ·rw [e,c];have:=h.lo;have:=k.lo;grind
 ·rw [e,c];have:=h.hi;have:=k.hi;grind
theorem Cb.tak {D:Int}{M N:Nat}{p q:KM.Fra} (hD:D≠0) (h:Cb D M p) (k:Cb D N q):Cb D (M+N) (aX p q):=by
 have e:KM.vl (aX p q)=KM.vl p - KM.vl q:=KM.vl_tak h.rd.nz k.rd.nz
 obtain ⟨a,ea⟩:=pM h.rd.nz hD h.dv
 obtain ⟨b,eb⟩:=pM k.rd.nz hD k.dv
 have r:KM.Rd (aX p q):=h.rd.tak k.rd
 have c:((M+N:Nat):Rat)=(M:Rat)+N:=by exact_mod_cast rfl
 refine ⟨r,y8 r hD (N:=a - b) ?_,?_,?_⟩
 ·rw [e,ea,eb,Rat.divInt_sub_divInt _ _ hD hD,show a*D - b*D=(a - b)*D by rw [Int.sub_mul],Rat.divInt_mul_right hD]
 ·rw [e,c];have:=h.lo;have:=k.hi;grind
 ·rw [e,c];have:=h.hi;have:=k.lo;grind
theorem LM {a b M N:Rat} (h0:0≤a) (h:a≤M) (k0:0≤b) (k:b≤N):a*b≤M*N:=by
 have h1:=Rat.mul_le_mul_of_nonneg_right h k0
 have h2:=Rat.mul_le_mul_of_nonneg_left k (c:=M) (by grind)
 grind
theorem Cb.tim {D E:Int}{M N:Nat}{p q:KM.Fra} (hD:D≠0) (hE:E≠0) (h:Cb D M p) (k:Cb E N q) (h0:0≤KM.vl p) (k0:0≤KM.vl q):Cb (D*E) (M*N) (KM.lTim p q):=by
 have e:=KM.vl_tim h.rd.nz k.rd.nz
 obtain ⟨a,ea⟩:=pM h.rd.nz hD h.dv
 obtain ⟨b,eb⟩:=pM k.rd.nz hE k.dv
 have r:=h.rd.tim k.rd
 have c:((M*N:Nat):Rat)=(M:Rat)*N:=by exact_mod_cast rfl
 have n0:=Rat.mul_nonneg h0 k0
 have m0:=Rat.mul_nonneg (show (0:Rat)≤M by exact_mod_cast Nat.zero_le M) (show (0:Rat)≤N by exact_mod_cast Nat.zero_le N)
 refine ⟨r,y8 r (Int.mul_ne_zero hD hE) (N:=a*b) ?_,?_,?_⟩
 ·rw [e,ea,eb,Rat.divInt_mul_divInt]
 ·rw [e,c];grind
 ·rw [e,c];exact LM h0 h.hi k0 k.hi
theorem Cb.gb {D:Int}{M m e:Nat}{p:KM.Fra} (h:Cb D M p) (hD:0<D) (hm:Sz m D) (hM:M<2 ^ e):Gb (m+e) m p:=by
 have p2:=h.rd.1
 have le:p.2≤D:=Int.le_of_dvd hD h.dv
 have hd:Sz m p.2:=by
  unfold Sz at *
  trivial
 refine ⟨?_,hd,p2⟩
 have h1:=(gJ (p:=p) (q:=((M:Int),1)) p2 (Int.le_refl 1)).mp (by
  rw [D0]
  exact h.hi)
 have h2:=(gJ (p:=(-(M:Int),1)) (q:=p) (Int.le_refl 1) p2).mp (by
  rw [CL]
  exact h.lo)
 have h3:p.1*1≤(M:Int)*p.2:=h1
 have h4:-(M:Int)*p.2≤p.1*1:=h2
 have h5:p.1.natAbs≤M*p.2.natAbs:=by
  have:(M:Int)*p.2=((M*p.2.natAbs:Nat):Int):=by rw [Int.natCast_mul,Int.natAbs_of_nonneg (by trivial)]
  rw [Int.neg_mul] at h4
  trivial
 unfold Sz at *
 rw [Nat.pow_add,Nat.mul_comm]
 by_cases z:M=0
 ·rw [z,Nat.zero_mul] at h5
  have:=Nat.mul_pos (Nat.pow_pos (n:=e) (show 0<2 by decide)) (Nat.pow_pos (n:=m) (show 0<2 by decide))
  trivial
 ·exact Nat.lt_of_le_of_lt h5 (Nat.mul_lt_mul'' hM hd)
theorem Cb.of {a b:Nat}{p:KM.Fra} (h:Gb a b p) (c:Int.gcd p.1 p.2=1):Cb p.2 (2 ^ a) p:=by
 have p2:=h.pos
 have hn:=h.n
 unfold Sz at hn
 have key:p.1.natAbs≤2 ^ a*p.2.natAbs:=by
  have:=Nat.mul_le_mul (Nat.le_of_lt hn) (show 1≤p.2.natAbs by trivial)
  trivial
 have e:(((2 ^ a:Nat):Int)*p.2)=((2 ^ a*p.2.natAbs:Nat):Int):=by rw [Int.natCast_mul,Int.natAbs_of_nonneg (by trivial)]
 refine ⟨⟨p2,c⟩,Int.dvd_refl _,?_,?_⟩
 ·have:=(gJ (p:=(-((2 ^ a:Nat):Int),1)) (q:=p) (Int.le_refl 1) p2).mpr (by show -((2 ^ a:Nat):Int)*p.2≤p.1*1;rw [Int.neg_mul,e];trivial)
  rw [CL] at this
  exact this
 ·have:=(gJ (p:=p) (q:=(((2 ^ a:Nat):Int),1)) p2 (Int.le_refl 1)).mpr (by show p.1*1≤((2 ^ a:Nat):Int)*p.2;rw [e];trivial)
  rw [D0] at this
  exact this
theorem Cb.zero (D:Int) (M:Nat):Cb D M (0,1):=by
 have:(0:Rat)≤M:=by exact_mod_cast Nat.zero_le M
 exact ⟨KM.Rd.zero,Int.one_dvd _,by rw [KM.vl_zero];grind,by rw [KM.vl_zero];exact this⟩
theorem Cb.sum {D:Int}{M:Nat} (hD:D≠0):∀{ps:List KM.Fra},(∀p∈ps,Cb D M p)→Cb D (M*ps.length) (KM.sumF ps):=by
 intro ps h
 have key:∀(ps:List KM.Fra) (t:KM.Fra) (N:Nat),Cb D N t→(∀p∈ps,Cb D M p)→Cb D (N+M*ps.length) (ps.foldl KM.ladd t):=by
  intro ps
  induction ps with
  | nil=>intro t N ht _;exact ht.mono (Int.dvd_refl _) (by simp)
  | cons p r ih=>
   intro t N ht hp
   have:=ih (KM.ladd t p) (N+M) (ht.add hD (hp p (List.mem_cons_self ..))) fun q hq=>hp q (List.mem_cons_of_mem _ hq)
   exact this.mono (Int.dvd_refl _) (by rw [List.length_cons,Nat.mul_succ];trivial)
 have:=key ps (0,1) 0 (Cb.zero D 0) h
 rw [Nat.zero_add] at this
 exact this
theorem tJ {α:Type} (f:α→Int) (b:Nat):∀(ts:List α),(∀t∈ts,1≤f t∧Sz b (f t))→∃G:Int,0<G∧Sz (b*ts.length+1) G∧∀t∈ts,f t ∣ G
 | [],_=>⟨1,by decide,show (1:Int).natAbs<2 ^ (b*0+1) by rw [Nat.mul_zero];decide,fun t h=>by cases h⟩
 | t :: r,h=>by
  obtain ⟨G,g0,gs,gd⟩:=tJ f b r fun t h'=>h t (List.mem_cons_of_mem _ h')
  obtain ⟨h1,h2⟩:=h t (List.mem_cons_self ..)
  refine ⟨f t*G,Int.mul_pos (by trivial) g0,?_,fun u hu=>?_⟩
  ·exact (h2.mul gs).mono (by rw [List.length_cons,Nat.mul_succ];trivial)
  ·rcases List.mem_cons.mp hu with rfl | hu
   ·exact Int.dvd_mul_right ..
   ·exact Int.dvd_trans (gd u hu) (Int.dvd_mul_left ..)
end L2
set_option maxHeartbeats 4000000
open L2
local macro_rules | `(#[$n:num,$i:ident])=>`(@pw _ $n _ _ (Or.inl $i) (by rfl) (by decide) (by decide)) | `(#[$n:num,($i:ident)])=>`(@pw _ $n _ _ (Or.inr (Or.inl $i)) (by rfl) (by decide) (by decide))
local macro_rules | `(#[$n:num,()])=>`(@pw _ $n _ _ (Or.inl (by kernel_rfl)) (by rfl) (by decide) (by decide)) | `(#[$n:num,0])=>`(@pw _ $n _ _ (Or.inr (Or.inl (by kernel_rfl))) (by rfl) (by decide) (by decide)) | `(#[$n:num,1])=>`(@pw _ $n _ _ (Or.inr (Or.inr (by kernel_rfl))) (by rfl) (by decide) (by decide))
local macro_rules | `(#[()])=>`(@bP _ _ _ _) | `(#[(),()])=>`(@oF _ _ (by decide) (by decide))
local macro_rules | `(#[[$a]])=>`(@FA _ _ _ _ _ $a (@cj _) rfl) | `(#[[$a,$b,*]])=>`(@FA _ _ _ _ _ $a #[[$b,*]] rfl)
local macro_rules | `(#[$a[$b]])=>`(@b8 _ _ _ _ _ _ _ (@Kw _ ($(Lean.mkIdent `K)) (by rfl)) $a $b (fun _ _=>rfl)) | `(#[$a[$b]!])=>`(@b8 _ _ _ _ _ _ _ (@Lp _ ($(Lean.mkIdent `K)) (by rfl)) $a $b (fun _ _=>rfl))
local macro_rules | `(#[$g:ident,$k:ident,$t:term,$a:term])=>`(@sB _ _ _ _ _ _ _ _ _ _ _ _ _ _ _ _ $g ($(Lean.mkIdent `hr).mono (by decide)) $k ($t).m ($t).F.kp ($t).B .nil (@yB _) $a (by decide) (by rfl) (by rfl))
local macro_rules | `(#[$g:ident,(),$t:term,$a:term])=>`(@sB _ _ _ _ _ _ _ _ _ _ _ _ _ _ _ _ $g ($(Lean.mkIdent `hr).mono (by decide)) (by show _=_;kernel_rfl) ($t).m ($t).F.kp ($t).B .nil (@yB _) $a (by decide) (by rfl) (by rfl))
local macro_rules | `(#[$n:num,$s:term,$i:ident,$v:term])=>`(@jh _ _ ($n) _ _ _ _ $s rfl (Or.inl $i) $v (by rfl) (by first | exact .inl rfl | exact .inr rfl | assumption))
local macro_rules | `(#[$n:num,$s:term,$i:ident])=>`(@dj _ _ ($n) _ $s rfl (Or.inl $i) (by first | exact .inl rfl | exact .inr rfl | assumption)) | `(#[$n:num,(),()])=>`(@dj _ _ ($n) _ (@Ev _ (by kernel_rfl)) rfl (Or.inl (by kernel_rfl)) (by first | exact .inl rfl | exact .inr rfl | assumption))
local macro_rules | `(#[(),(),$a,$b,$c,$d,$e])=>`(@gS _ _ _ _ _ _ _ _ _ $a $b $c $d $e (by decide) (by decide) (by rfl) (by rfl))
local macro_rules | `(#[$a :: $b])=>`(@d5 _ _ _ _ _ $a $b)
local macro_rules | `(#[$f:ident $n:num $a*])=>do
 let us ←(Array.range n.getNat).mapM fun _=>`(_)
 `(@$f $us* $a*)
local macro_rules | `(#[($f:ident)])=>`($f ($(Lean.mkIdent `P):ident:=$(Lean.mkIdent `P)) ($(Lean.mkIdent `w):ident:=$(Lean.mkIdent `w)) ($(Lean.mkIdent `base):ident:=$(Lean.mkIdent `base)) $(Lean.mkIdent `T))
namespace K21
open PySem L2
def b7 (i:Nat):Stmt:=PySem.Challenge.pw_gainroads_k21_known_betterings.main.body.getD i (.Pass ⟨0,0,0,0⟩)
abbrev rP:Stmt:=b7 1
abbrev lg:Stmt:=b7 2
abbrev oQ:Stmt:=b7 3
abbrev fQ:Stmt:=b7 4
abbrev jb:Stmt:=b7 5
abbrev pL:Stmt:=b7 6
abbrev pE:Stmt:=b7 7
abbrev pG:Stmt:=b7 8
abbrev sy:Stmt:=b7 9
abbrev jd:Stmt:=b7 10
abbrev lh:Stmt:=b7 11
abbrev mX:Stmt:=b7 12
abbrev bZ:Stmt:=b7 14
abbrev cU:Stmt:=b7 15
abbrev kK:Stmt:=b7 17
abbrev nV:Stmt:=b7 18
abbrev fv:Stmt:=b7 19
abbrev dE:Stmt:=b7 20
abbrev eT:Stmt:=b7 21
abbrev sX:Stmt:=b7 22
abbrev qM:Stmt:=b7 24
abbrev bu:Stmt:=b7 25
abbrev dQ:Stmt:=b7 26
abbrev bM:Stmt:=b7 27
abbrev bQ:Stmt:=b7 29
abbrev cx:Stmt:=b7 30
abbrev bJ:Stmt:=b7 31
abbrev ke:Stmt:=b7 32
abbrev gC:Stmt:=b7 33
abbrev fK:Stmt:=b7 34
abbrev cV:Stmt:=b7 35
abbrev bH:Stmt:=b7 36
abbrev fh:Stmt:=b7 37
abbrev bh:Stmt:=b7 38
abbrev aM:Stmt:=b7 39
abbrev cL:Stmt:=b7 40
abbrev eN:Stmt:=b7 41
abbrev bq:Stmt:=b7 42
abbrev yL:Stmt:=b7 44
abbrev xp:Stmt:=b7 45
abbrev tF:Stmt:=b7 46
abbrev jY:Stmt:=b7 47
abbrev jm:Stmt:=b7 48
abbrev lJ:Stmt:=b7 49
abbrev mV:Stmt:=b7 50
abbrev nU:Stmt:=b7 51
abbrev bN:Stmt:=b7 52
abbrev jl:Stmt:=b7 53
abbrev jk:Stmt:=b7 54
abbrev kf:Stmt:=b7 55
abbrev aF:Stmt:=b7 56
abbrev ax:Stmt:=b7 57
abbrev aO:Stmt:=b7 58
abbrev ii:Stmt:=b7 59
theorem At:aB ["thing"] ["thing"] (aw rP):=⟨rfl,rfl,rfl,by nofun,rfl,by nofun,by nofun⟩
theorem oV:aB ["n", "d"] ["n", "d"] (aw lg):=⟨rfl,rfl,rfl,by nofun,rfl,by nofun,by nofun⟩
theorem mZ:aB ["thing", "n", "d"] ["thing"] (aw oQ):=⟨rfl,rfl,rfl,by nofun,rfl,by nofun,by nofun⟩
theorem wt:aB ["thing"] ["thing"] (aw fQ):=⟨rfl,rfl,rfl,by nofun,rfl,by nofun,by nofun⟩
theorem rJ:aB ["n", "d", "divisor"] ["n", "d"] (aw jb):=⟨rfl,rfl,rfl,by nofun,rfl,by nofun,by nofun⟩
theorem Fs:aB ["one", "other"] ["one", "other"] (aw pL):=⟨rfl,rfl,rfl,by nofun,rfl,by nofun,by nofun⟩
theorem Gd:aB ["one", "other"] ["one", "other"] (aw pE):=⟨rfl,rfl,rfl,by nofun,rfl,by nofun,by nofun⟩
theorem Ft:aB ["one", "other"] ["one", "other"] (aw pG):=⟨rfl,rfl,rfl,by nofun,rfl,by nofun,by nofun⟩
theorem Ht:aB ["one", "other"] ["one", "other"] (aw sy):=⟨rfl,rfl,rfl,by nofun,rfl,by nofun,by nofun⟩
theorem rX:aB ["one", "other", "left", "right"] ["one", "other"] (aw jd):=⟨rfl,rfl,rfl,by nofun,rfl,by nofun,by nofun⟩
theorem rj:aB ["parts", "total", "part"] ["parts"] (aw lh):=⟨rfl,rfl,rfl,by nofun,rfl,by nofun,by nofun⟩
theorem tH:aB ["parts", "best", "part"] ["parts"] (aw mX):=⟨rfl,rfl,rfl,by nofun,rfl,by nofun,by nofun⟩
theorem gZ:aB ["number", "tie", "much", "begin", "end", "most", "gain", "price", "steps"] ["number", "tie", "much"] (aw bZ):=⟨rfl,rfl,rfl,by nofun,rfl,by nofun,by nofun⟩
theorem kY:aB ["net", "stream", "steps", "number", "tie"] ["net", "stream"] (aw cU):=⟨rfl,rfl,rfl,by nofun,rfl,by nofun,by nofun⟩
theorem Bj:aB ["net", "place"] ["net", "place"] (aw kK):=⟨rfl,rfl,rfl,by nofun,rfl,by nofun,by nofun⟩
theorem DM:aB ["net", "place"] ["net", "place"] (aw nV):=⟨rfl,rfl,rfl,by nofun,rfl,by nofun,by nofun⟩
theorem yH:aB ["thing", "most"] ["thing", "most"] (aw fv):=⟨rfl,rfl,rfl,by nofun,rfl,by nofun,by nofun⟩
theorem Bd:aB ["net", "thing"] ["net", "thing"] (aw dE):=⟨rfl,rfl,rfl,by nofun,rfl,by nofun,by nofun⟩
theorem ud:aB ["net", "stream", "place", "comes", "goes"] ["net", "stream", "place"] (aw eT):=⟨rfl,rfl,rfl,by nofun,rfl,by nofun,by nofun⟩
theorem Gg:aB ["net", "stream", "begin", "end"] ["net", "stream", "begin", "end"] (aw sX):=⟨rfl,rfl,rfl,by nofun,rfl,by nofun,by nofun⟩
theorem DI:aB ["tie"] ["tie"] (aw qM):=⟨rfl,rfl,rfl,by nofun,rfl,by nofun,by nofun⟩
theorem cE:aB ["net", "worths", "onward", "lifted", "number", "tie", "begin", "end", "most", "gain", "price", "worth"] ["net", "worths", "onward"] (aw bu):=⟨rfl,rfl,rfl,by nofun,rfl,by nofun,by nofun⟩
theorem kc:aB ["net", "onward", "place", "places", "ties"] ["net", "onward", "place"] (aw dQ):=⟨rfl,rfl,rfl,by nofun,rfl,by nofun,by nofun⟩
theorem d7:aB ["net", "worths", "onward", "lifted", "turn"] ["net"] (aw bM):=⟨rfl,rfl,rfl,by nofun,rfl,by nofun,by nofun⟩
theorem cv:aB ["steps", "end", "courses", "places", "at", "number", "back", "begin", "onward", "room", "gain"] ["steps", "end"] (aw bQ):=⟨rfl,rfl,rfl,by nofun,rfl,by nofun,by nofun⟩
theorem jH:aB ["steps", "courses", "near", "ties", "numbers"] ["steps", "courses"] (aw cx):=⟨rfl,rfl,rfl,by nofun,rfl,by nofun,by nofun⟩
theorem fT:aB ["net", "begin", "end", "stream", "steps", "courses", "ring", "lengths", "first", "pairs"] ["net", "begin", "end", "stream"] (aw bJ):=⟨rfl,rfl,rfl,by nofun,rfl,by nofun,by nofun⟩
theorem BK:aB ["net", "stream"] ["net", "stream"] (aw ke):=⟨rfl,rfl,rfl,by nofun,rfl,by nofun,by nofun⟩
theorem Dk:aB ["thing"] ["thing"] (aw gC):=⟨rfl,rfl,rfl,by nofun,rfl,by nofun,by nofun⟩
theorem A1:aB ["left", "thing"] ["left", "thing"] (aw fK):=⟨rfl,rfl,rfl,by nofun,rfl,by nofun,by nofun⟩
theorem uT:aB ["left", "thing", "begin", "end", "places"] ["left", "thing", "begin", "end"] (aw cV):=⟨rfl,rfl,rfl,by nofun,rfl,by nofun,by nofun⟩
theorem oz:aB ["left", "thing", "places"] ["left", "thing"] (aw bH):=⟨rfl,rfl,rfl,by nofun,rfl,by nofun,by nofun⟩
theorem kZ:aB ["left", "pairs", "gain", "pair"] ["left", "pairs"] (aw fh):=⟨rfl,rfl,rfl,by nofun,rfl,by nofun,by nofun⟩
theorem lA:aB ["left", "ring", "course", "end", "places"] ["left", "ring", "course", "end"] (aw bh):=⟨rfl,rfl,rfl,by nofun,rfl,by nofun,by nofun⟩
theorem oq:aB ["net", "begin", "end", "stream", "thing", "left"] ["net", "begin", "end", "stream", "thing"] (aw aM):=⟨rfl,rfl,rfl,by nofun,rfl,by nofun,by nofun⟩
theorem jD:aB ["left", "pairs", "much", "shares", "pair"] ["left", "pairs", "much"] (aw cL):=⟨rfl,rfl,rfl,by nofun,rfl,by nofun,by nofun⟩
theorem uR:aB ["left", "thing", "beyond"] ["left", "thing"] (aw eN):=⟨rfl,rfl,rfl,by nofun,rfl,by nofun,by nofun⟩
theorem eI:aB ["net", "begin", "end", "stream", "thing", "left", "shares", "share", "much", "fresh", "number", "back", "goes"] ["net", "begin", "end", "stream", "thing"] (aw bq):=⟨rfl,rfl,rfl,by nofun,rfl,by nofun,by nofun⟩
theorem xh:aB ["_law_script", "_law_k", "_law_cell"] ["_law_script", "_law_k"] (aw yL):=⟨rfl,rfl,rfl,by nofun,rfl,by nofun,by nofun⟩
theorem vg:aB ["_law_box_here", "_law_many", "_law_found", "_law_once"] ["_law_box_here", "_law_many"] (aw xp):=⟨rfl,rfl,rfl,by nofun,rfl,by nofun,by nofun⟩
theorem nL:aB ["_law_script", "_law_many", "_law_cells", "_law_k", "_law_cell"] ["_law_script", "_law_many"] (aw tF):=⟨rfl,rfl,rfl,by nofun,rfl,by nofun,by nofun⟩
theorem qE:aB ["_law_n", "_law_d", "_law_one", "_law_other"] ["_law_n", "_law_d"] (aw jY):=⟨rfl,rfl,rfl,by nofun,rfl,by nofun,by nofun⟩
theorem AH:aB ["_law_one", "_law_other"] ["_law_one", "_law_other"] (aw jm):=⟨rfl,rfl,rfl,by nofun,rfl,by nofun,by nofun⟩
theorem DF:aB ["_law_one", "_law_other"] ["_law_one", "_law_other"] (aw lJ):=⟨rfl,rfl,rfl,by nofun,rfl,by nofun,by nofun⟩
theorem El:aB ["_law_one", "_law_other"] ["_law_one", "_law_other"] (aw mV):=⟨rfl,rfl,rfl,by nofun,rfl,by nofun,by nofun⟩
theorem DH:aB ["_law_one", "_law_other"] ["_law_one", "_law_other"] (aw nU):=⟨rfl,rfl,rfl,by nofun,rfl,by nofun,by nofun⟩
theorem fz:aB ["_law_box_here", "_law_many", "_law_letters", "_law_first", "_law_rest", "_law_behind", "_law_sign", "_law_other"] ["_law_box_here", "_law_many"] (aw bN):=⟨rfl,rfl,rfl,by nofun,rfl,by nofun,by nofun⟩
theorem Bi:aB ["_law_box_here"] ["_law_box_here"] (aw jl):=⟨rfl,rfl,rfl,by nofun,rfl,by nofun,by nofun⟩
theorem As:aB ["_law_box_here"] ["_law_box_here"] (aw jk):=⟨rfl,rfl,rfl,by nofun,rfl,by nofun,by nofun⟩
theorem BW:aB ["_law_one", "_law_other"] ["_law_one", "_law_other"] (aw kf):=⟨rfl,rfl,rfl,by nofun,rfl,by nofun,by nofun⟩
theorem bC:aB ["_law_box_here", "_law_a", "_law_b", "_law_c", "_law_mosts", "_law_gains", "_law_ends", "_law_net", "_law_none", "_law_short", "_law_long", "_law_begins", "_law_due", "_law_first", "_law_second"] ["_law_box_here"] (aw aF):=⟨rfl,rfl,rfl,by nofun,rfl,by nofun,by nofun⟩
theorem aT:aB ["_law_box_here", "_law_a", "_law_b", "_law_c", "_law_d", "_law_gain", "_law_more", "_law_mosts", "_law_on", "_law_gains", "_law_ties", "_law_net", "_law_none", "_law_right", "_law_others", "_law_begins", "_law_due"] ["_law_box_here"] (aw ax):=⟨rfl,rfl,rfl,by nofun,rfl,by nofun,by nofun⟩
theorem bW:aB ["_law_box_here", "_law_a", "_law_b", "_law_c", "_law_d", "_law_much", "_law_ends", "_law_net", "_law_stream", "_law_right", "_law_made"] ["_law_box_here"] (aw aO):=⟨rfl,rfl,rfl,by nofun,rfl,by nofun,by nofun⟩
theorem xU:aB ["_law_script", "_law_cells", "_law_k", "_law_box_here"] ["_law_script"] (aw ii):=⟨rfl,rfl,rfl,by nofun,rfl,by nofun,by nofun⟩
end K21
namespace K21
open PySem L2
set_option genInjectivity false in
set_option genSizeOf false in
structure Df (K:PySem.W.Frag) (mg:Str→Option Value) (x:Str) (st:Stmt) (ps:List Str) where
 f:Addr
 d:FuncData
 m:mg x=some (.ref f)
 F:AW K x x st f d
 B:wo K d ps []
set_option genInjectivity false in
set_option genSizeOf false in
structure Txt (K:PySem.W.Frag) (mg:Str→Option Value) where
 b_abs:mg "abs" = none
 b_all:mg "all" = none
 b_any:mg "any" = none
 b_bool:mg "bool" = none
 b_divmod:mg "divmod" = none
 b_enumerate:mg "enumerate" = none
 b_int:mg "int" = none
 b_isinstance:mg "isinstance" = none
 b_len:mg "len" = none
 b_list:mg "list" = none
 b_max:mg "max" = none
 b_min:mg "min" = none
 b_range:mg "range" = none
 b_set:mg "set" = none
 b_tuple:mg "tuple" = none
 b_zip:mg "zip" = none
 is_number_:Df K mg "is_number" rP ["thing"]
 common_divisor_:Df K mg "common_divisor" lg ["n", "d"]
 is_fraction_:Df K mg "is_fraction" oQ ["thing"]
 is_from_nought_:Df K mg "is_from_nought" fQ ["thing"]
 fraction_:Df K mg "fraction" jb ["n", "d"]
 added_:Df K mg "added" pL ["one", "other"]
 taken_:Df K mg "taken" pE ["one", "other"]
 times_:Df K mg "times" pG ["one", "other"]
 over_:Df K mg "over" sy ["one", "other"]
 compared_:Df K mg "compared" jd ["one", "other"]
 sum_of_:Df K mg "sum_of" lh ["parts"]
 least_:Df K mg "least" mX ["parts"]
 steps_of_:Df K mg "steps_of" bZ ["number", "tie", "much"]
 left_steps_:Df K mg "left_steps" cU ["net", "stream"]
 ties_from_:Df K mg "ties_from" kK ["net", "place"]
 ties_to_:Df K mg "ties_to" nV ["net", "place"]
 goes_within_:Df K mg "goes_within" fv ["thing", "most"]
 is_stream_:Df K mg "is_stream" dE ["net", "thing"]
 left_at_:Df K mg "left_at" eT ["net", "stream", "place"]
 keeps_:Df K mg "keeps" sX ["net", "stream", "begin", "end"]
 is_shut_:Df K mg "is_shut" qM ["tie"]
 lift_once_:Df K mg "lift_once" bu ["net", "worths", "onward"]
 round_ahead_:Df K mg "round_ahead" dQ ["net", "onward", "place"]
 gaining_round_:Df K mg "gaining_round" bM ["net"]
 courses_to_:Df K mg "courses_to" bQ ["steps", "end"]
 gaining_ring_:Df K mg "gaining_ring" cx ["steps", "courses"]
 bettering_:Df K mg "bettering" bJ ["net", "begin", "end", "stream"]
 by_pairs_:Df K mg "by_pairs" ke ["net", "stream"]
 is_pair_:Df K mg "is_pair" gC ["thing"]
 are_steps_:Df K mg "are_steps" fK ["left", "thing"]
 is_course_:Df K mg "is_course" cV ["left", "thing", "begin", "end"]
 is_gaining_ring_:Df K mg "is_gaining_ring" bH ["left", "thing"]
 gain_along_:Df K mg "gain_along" fh ["left", "pairs"]
 is_ring_and_course_:Df K mg "is_ring_and_course" bh ["left", "ring", "course", "end"]
 shows_bettering_:Df K mg "shows_bettering" aM ["net", "begin", "end", "stream", "thing"]
 shares_along_:Df K mg "shares_along" cL ["left", "pairs", "much"]
 shares_of_:Df K mg "shares_of" eN ["left", "thing"]
 bettered_:Df K mg "bettered" bq ["net", "begin", "end", "stream", "thing"]
 l_box_:Df K mg "_law_box" yL ["_law_script", "_law_k"]
 l_take_:Df K mg "_law_take" xp ["_law_box_here", "_law_many"]
 l_folded_:Df K mg "_law_folded" tF ["_law_script", "_law_many"]
 l_frac_:Df K mg "_law_frac" jY ["_law_n", "_law_d"]
 l_product_:Df K mg "_law_product" jm ["_law_one", "_law_other"]
 l_minus_:Df K mg "_law_minus" lJ ["_law_one", "_law_other"]
 l_over_:Df K mg "_law_over" mV ["_law_one", "_law_other"]
 l_above_:Df K mg "_law_above" nU ["_law_one", "_law_other"]
 l_names_by_:Df K mg "_law_names_by" bN ["_law_box_here", "_law_many"]
 l_much_by_:Df K mg "_law_much_by" jl ["_law_box_here"]
 l_gain_by_:Df K mg "_law_gain_by" jk ["_law_box_here"]
 l_lesser_:Df K mg "_law_lesser" kf ["_law_one", "_law_other"]
 l_two_right_:Df K mg "_law_two_right" aF ["_law_box_here"]
 l_ring_right_:Df K mg "_law_ring_right" ax ["_law_box_here"]
 l_back_right_:Df K mg "_law_back_right" aO ["_law_box_here"]
 law_:Df K mg "law" ii ["_law_script"]
end K21
namespace K21
open PySem L2
abbrev af (s:Stmt) (x:Str):Prop:=(aw s).names.lookup x=some NameKind.local
abbrev aq (s:Stmt) (x:Str):Prop:=(aw s).names.lookup x=some NameKind.globalImplicit
abbrev ff (s:Stmt) (x:Str):Prop:=(aw s).names.lookup x=some NameKind.cell
theorem kQ:af fQ "thing" := by nofun
theorem nq:aq fQ "is_fraction" := by nofun
theorem u8:af jb "n" := by nofun
theorem qa:af jb "d" := by nofun
theorem eX:af jb "divisor" := by nofun
theorem pf:aq jb "common_divisor" := by nofun
theorem rz:af pL "one" := by nofun
theorem oI:af pL "other" := by nofun
theorem xg:aq pL "fraction" := by nofun
theorem rO:af pE "one" := by nofun
theorem oP:af pE "other" := by nofun
theorem xa:aq pE "fraction" := by nofun
theorem wK:af pG "one" := by nofun
theorem uC:af pG "other" := by nofun
theorem xu:aq pG "fraction" := by nofun
theorem x9:af sy "one" := by nofun
theorem vT:af sy "other" := by nofun
theorem xQ:aq sy "fraction" := by nofun
theorem sg:af jd "one" := by nofun
theorem pU:af jd "other" := by nofun
theorem mE:af jd "left" := by nofun
theorem lm:af jd "right" := by nofun
theorem yJ:af lh "parts" := by nofun
theorem km:af lh "total" := by nofun
theorem uD:af lh "part" := by nofun
theorem yE:aq lh "added" := by nofun
theorem uA:af mX "parts" := by nofun
theorem mi:af mX "best" := by nofun
theorem pV:af mX "part" := by nofun
theorem xG:aq mX "compared" := by nofun
theorem oW:af bZ "number" := by nofun
theorem y7:af bZ "tie" := by nofun
theorem jI:af bZ "much" := by nofun
theorem k7:af bZ "begin" := by nofun
theorem mT:af bZ "end" := by nofun
theorem mw:af bZ "most" := by nofun
theorem jE:af bZ "gain" := by nofun
theorem wX:af bZ "price" := by nofun
theorem je:af bZ "steps" := by nofun
theorem mQ:aq bZ "compared" := by nofun
theorem wP:aq bZ "taken" := by nofun
theorem xj:aq bZ "times" := by nofun
theorem xR:aq bZ "over" := by nofun
theorem wQ:af cU "net" := by nofun
theorem uN:af cU "stream" := by nofun
theorem jW:af cU "steps" := by nofun
theorem jt:af cU "number" := by nofun
theorem p6:af cU "tie" := by nofun
theorem rS:aq cU "enumerate" := by nofun
theorem sU:aq cU "steps_of" := by nofun
theorem yw:af kK "net" := by nofun
theorem tq:aq kK "enumerate" := by nofun
theorem Ak:af nV "net" := by nofun
theorem uM:aq nV "enumerate" := by nofun
theorem mO:af fv "thing" := by nofun
theorem vD:af fv "most" := by nofun
theorem nu:aq fv "is_from_nought" := by nofun
theorem rG:aq fv "compared" := by nofun
theorem qG:af dE "net" := by nofun
theorem kz:af dE "thing" := by nofun
theorem rN:aq dE "isinstance" := by nofun
theorem xb:aq dE "list" := by nofun
theorem qJ:aq dE "len" := by nofun
theorem yz:aq dE "all" := by nofun
theorem yl:aq dE "zip" := by nofun
theorem ux:ff eT "net" := by nofun
theorem qN:af eT "place" := by nofun
theorem qH:af eT "comes" := by nofun
theorem sw:af eT "goes" := by nofun
theorem pW:aq eT "sum_of" := by nofun
theorem wz:aq eT "ties_to" := by nofun
theorem uI:aq eT "ties_from" := by nofun
theorem xL:aq eT "taken" := by nofun
theorem BO:ff sX "net" := by nofun
theorem BY:aq sX "all" := by nofun
theorem Ae:af qM "tie" := by nofun
theorem yo:af bu "net" := by nofun
theorem eY:af bu "worths" := by nofun
theorem vt:af bu "onward" := by nofun
theorem jX:af bu "lifted" := by nofun
theorem oE:af bu "number" := by nofun
theorem mr:af bu "tie" := by nofun
theorem dP:af bu "begin" := by nofun
theorem lV:af bu "end" := by nofun
theorem xF:af bu "most" := by nofun
theorem ql:af bu "gain" := by nofun
theorem wF:af bu "price" := by nofun
theorem kC:af bu "worth" := by nofun
theorem tu:aq bu "enumerate" := by nofun
theorem uF:aq bu "is_shut" := by nofun
theorem wA:aq bu "times" := by nofun
theorem tS:aq bu "compared" := by nofun
theorem wx:af dQ "net" := by nofun
theorem lN:af dQ "onward" := by nofun
theorem cQ:af dQ "place" := by nofun
theorem fJ:af dQ "places" := by nofun
theorem jT:af dQ "ties" := by nofun
theorem f7:af bM "net" := by nofun
theorem kN:af bM "worths" := by nofun
theorem gX:af bM "onward" := by nofun
theorem eL:af bM "lifted" := by nofun
theorem tQ:af bM "turn" := by nofun
theorem sx:aq bM "range" := by nofun
theorem uK:aq bM "len" := by nofun
theorem pe:aq bM "lift_once" := by nofun
theorem oH:aq bM "round_ahead" := by nofun
theorem vH:af bQ "steps" := by nofun
theorem p9:af bQ "end" := by nofun
theorem dF:af bQ "courses" := by nofun
theorem f6:af bQ "places" := by nofun
theorem jA:af bQ "at" := by nofun
theorem mL:af bQ "number" := by nofun
theorem oU:af bQ "back" := by nofun
theorem gF:af bQ "begin" := by nofun
theorem jp:af bQ "onward" := by nofun
theorem wE:af bQ "room" := by nofun
theorem wv:af bQ "gain" := by nofun
theorem wY:aq bQ "len" := by nofun
theorem tO:af cx "steps" := by nofun
theorem rK:ff cx "courses" := by nofun
theorem mR:ff cx "near" := by nofun
theorem mN:af cx "ties" := by nofun
theorem gY:af cx "numbers" := by nofun
theorem lZ:aq cx "tuple" := by nofun
theorem nr:aq cx "gaining_round" := by nofun
theorem xN:af bJ "net" := by nofun
theorem pc:af bJ "begin" := by nofun
theorem ya:af bJ "end" := by nofun
theorem vm:af bJ "stream" := by nofun
theorem kF:af bJ "steps" := by nofun
theorem dX:ff bJ "courses" := by nofun
theorem d9:af bJ "ring" := by nofun
theorem jv:af bJ "lengths" := by nofun
theorem ie:af bJ "first" := by nofun
theorem oX:af bJ "pairs" := by nofun
theorem rA:aq bJ "left_steps" := by nofun
theorem rW:aq bJ "courses_to" := by nofun
theorem pS:aq bJ "gaining_ring" := by nofun
theorem yi:aq bJ "min" := by nofun
theorem yY:af ke "net" := by nofun
theorem wC:af ke "stream" := by nofun
theorem sf:aq ke "left_steps" := by nofun
theorem jJ:af gC "thing" := by nofun
theorem mt:aq gC "isinstance" := by nofun
theorem yn:aq gC "tuple" := by nofun
theorem Ad:aq gC "len" := by nofun
theorem uJ:aq gC "is_number" := by nofun
theorem y3:aq gC "bool" := by nofun
theorem ia:af fK "thing" := by nofun
theorem rH:aq fK "isinstance" := by nofun
theorem xH:aq fK "list" := by nofun
theorem qZ:aq fK "all" := by nofun
theorem x5:aq fK "zip" := by nofun
theorem pT:ff cV "left" := by nofun
theorem hV:af cV "thing" := by nofun
theorem kA:af cV "begin" := by nofun
theorem rh:af cV "end" := by nofun
theorem gD:af cV "places" := by nofun
theorem sr:aq cV "are_steps" := by nofun
theorem lU:aq cV "len" := by nofun
theorem xO:aq cV "set" := by nofun
theorem gM:ff bH "left" := by nofun
theorem cN:af bH "thing" := by nofun
theorem dH:af bH "places" := by nofun
theorem nO:aq bH "are_steps" := by nofun
theorem iU:aq bH "len" := by nofun
theorem tj:aq bH "set" := by nofun
theorem oM:aq bH "compared" := by nofun
theorem mY:aq bH "gain_along" := by nofun
theorem ww:af fh "left" := by nofun
theorem vM:af fh "pairs" := by nofun
theorem hU:af fh "gain" := by nofun
theorem oY:af fh "pair" := by nofun
theorem u0:aq fh "times" := by nofun
theorem jF:ff bh "left" := by nofun
theorem jB:af bh "ring" := by nofun
theorem iW:af bh "course" := by nofun
theorem qw:af bh "end" := by nofun
theorem iX:ff bh "places" := by nofun
theorem jQ:aq bh "is_gaining_ring" := by nofun
theorem mf:aq bh "is_course" := by nofun
theorem qh:aq bh "all" := by nofun
theorem iC:af aM "net" := by nofun
theorem kn:af aM "begin" := by nofun
theorem iK:af aM "end" := by nofun
theorem fW:af aM "stream" := by nofun
theorem bG:af aM "thing" := by nofun
theorem gP:af aM "left" := by nofun
theorem nR:aq aM "is_stream" := by nofun
theorem qB:aq aM "keeps" := by nofun
theorem mW:aq aM "isinstance" := by nofun
theorem qA:aq aM "tuple" := by nofun
theorem oN:aq aM "by_pairs" := by nofun
theorem lD:aq aM "len" := by nofun
theorem ot:aq aM "is_course" := by nofun
theorem jO:aq aM "is_ring_and_course" := by nofun
theorem uG:af cL "left" := by nofun
theorem ut:af cL "pairs" := by nofun
theorem jy:af cL "much" := by nofun
theorem iQ:af cL "shares" := by nofun
theorem jr:af cL "pair" := by nofun
theorem tZ:aq cL "times" := by nofun
theorem i0:af eN "left" := by nofun
theorem fB:af eN "thing" := by nofun
theorem nW:af eN "beyond" := by nofun
theorem fX:aq eN "shares_along" := by nofun
theorem wu:aq eN "taken" := by nofun
theorem rQ:aq eN "gain_along" := by nofun
theorem sL:af bq "net" := by nofun
theorem pb:af bq "stream" := by nofun
theorem xq:af bq "thing" := by nofun
theorem qR:ff bq "left" := by nofun
theorem kD:af bq "shares" := by nofun
theorem qi:af bq "share" := by nofun
theorem qS:af bq "much" := by nofun
theorem eB:af bq "fresh" := by nofun
theorem dN:af bq "number" := by nofun
theorem qX:af bq "back" := by nofun
theorem lQ:af bq "goes" := by nofun
theorem uL:aq bq "by_pairs" := by nofun
theorem tN:aq bq "shares_of" := by nofun
theorem xB:aq bq "least" := by nofun
theorem yu:aq bq "list" := by nofun
theorem wU:aq bq "times" := by nofun
theorem xo:aq bq "taken" := by nofun
theorem yp:aq bq "over" := by nofun
theorem wW:aq bq "added" := by nofun
theorem vz:af jY "_law_n" := by nofun
theorem pQ:af jY "_law_d" := by nofun
theorem d8:af jY "_law_one" := by nofun
theorem fY:af jY "_law_other" := by nofun
theorem uV:aq jY "abs" := by nofun
theorem oS:af jm "_law_one" := by nofun
theorem mI:af jm "_law_other" := by nofun
theorem vk:aq jm "_law_frac" := by nofun
theorem mF:af lJ "_law_one" := by nofun
theorem kw:af lJ "_law_other" := by nofun
theorem xi:aq lJ "_law_frac" := by nofun
theorem sP:af mV "_law_one" := by nofun
theorem pX:af mV "_law_other" := by nofun
theorem xV:aq mV "_law_frac" := by nofun
theorem rn:af nU "_law_one" := by nofun
theorem oZ:af nU "_law_other" := by nofun
theorem gj:ff bN "_law_box_here" := by nofun
theorem mM:af bN "_law_many" := by nofun
theorem rL:ff bN "_law_letters" := by nofun
theorem lT:ff bN "_law_first" := by nofun
theorem mJ:af bN "_law_rest" := by nofun
theorem sj:ff bN "_law_behind" := by nofun
theorem uO:ff bN "_law_sign" := by nofun
theorem ui:ff bN "_law_other" := by nofun
theorem jz:aq bN "_law_take" := by nofun
theorem jL:aq bN "range" := by nofun
theorem xn:aq bN "int" := by nofun
theorem oC:aq bN "tuple" := by nofun
theorem kM:af jl "_law_box_here" := by nofun
theorem uZ:aq jl "_law_frac" := by nofun
theorem oD:aq jl "_law_take" := by nofun
theorem kH:af jk "_law_box_here" := by nofun
theorem vN:aq jk "_law_frac" := by nofun
theorem nY:aq jk "_law_take" := by nofun
theorem qj:af kf "_law_one" := by nofun
theorem ow:af kf "_law_other" := by nofun
theorem vJ:aq kf "_law_above" := by nofun
theorem pR:ff aF "_law_box_here" := by nofun
theorem bn:af aF "_law_a" := by nofun
theorem ib:af aF "_law_b" := by nofun
theorem bp:af aF "_law_c" := by nofun
theorem di:ff aF "_law_mosts" := by nofun
theorem ir:ff aF "_law_gains" := by nofun
theorem uq:ff aF "_law_ends" := by nofun
theorem bD:af aF "_law_net" := by nofun
theorem cu:af aF "_law_none" := by nofun
theorem dc:af aF "_law_short" := by nofun
theorem dJ:af aF "_law_long" := by nofun
theorem gU:af aF "_law_begins" := by nofun
theorem ju:af aF "_law_due" := by nofun
theorem iJ:af aF "_law_first" := by nofun
theorem eQ:af aF "_law_second" := by nofun
theorem p7:aq aF "_law_names_by" := by nofun
theorem jw:aq aF "range" := by nofun
theorem uH:aq aF "tuple" := by nofun
theorem cD:aq aF "shows_bettering" := by nofun
theorem kr:aq aF "bettering" := by nofun
theorem rR:aq aF "_law_lesser" := by nofun
theorem uf:aq aF "_law_over" := by nofun
theorem qy:aq aF "_law_product" := by nofun
theorem gT:aq aF "bettered" := by nofun
theorem cA:ff ax "_law_box_here" := by nofun
theorem eZ:af ax "_law_a" := by nofun
theorem gI:af ax "_law_b" := by nofun
theorem df:ff ax "_law_c" := by nofun
theorem eV:ff ax "_law_d" := by nofun
theorem du:af ax "_law_gain" := by nofun
theorem fi:af ax "_law_more" := by nofun
theorem bX:af ax "_law_mosts" := by nofun
theorem dY:af ax "_law_on" := by nofun
theorem eR:af ax "_law_gains" := by nofun
theorem ik:af ax "_law_ties" := by nofun
theorem fE:ff ax "_law_net" := by nofun
theorem fj:ff ax "_law_none" := by nofun
theorem eO:af ax "_law_right" := by nofun
theorem dS:af ax "_law_others" := by nofun
theorem cq:af ax "_law_begins" := by nofun
theorem mj:af ax "_law_due" := by nofun
theorem pz:aq ax "_law_names_by" := by nofun
theorem jZ:aq ax "_law_gain_by" := by nofun
theorem sK:aq ax "_law_frac" := by nofun
theorem lw:aq ax "_law_take" := by nofun
theorem ur:aq ax "range" := by nofun
theorem iA:aq ax "_law_over" := by nofun
theorem tP:aq ax "tuple" := by nofun
theorem va:aq ax "any" := by nofun
theorem mm:aq ax "shows_bettering" := by nofun
theorem qd:aq ax "bettering" := by nofun
theorem kq:aq ax "_law_lesser" := by nofun
theorem kU:aq ax "_law_minus" := by nofun
theorem jV:aq ax "_law_product" := by nofun
theorem qz:aq ax "bettered" := by nofun
theorem jC:af aO "_law_box_here" := by nofun
theorem ci:af aO "_law_a" := by nofun
theorem fc:af aO "_law_b" := by nofun
theorem e8:af aO "_law_c" := by nofun
theorem cf:af aO "_law_d" := by nofun
theorem bU:ff aO "_law_much" := by nofun
theorem lH:af aO "_law_ends" := by nofun
theorem dL:af aO "_law_net" := by nofun
theorem dR:af aO "_law_stream" := by nofun
theorem eJ:af aO "_law_right" := by nofun
theorem iu:af aO "_law_made" := by nofun
theorem pA:aq aO "_law_names_by" := by nofun
theorem p5:aq aO "_law_much_by" := by nofun
theorem tD:aq aO "tuple" := by nofun
theorem mD:aq aO "shows_bettering" := by nofun
theorem j8:aq aO "bettering" := by nofun
theorem qC:aq aO "bettered" := by nofun
theorem yT:af ii "_law_script" := by nofun
theorem oO:af ii "_law_cells" := by nofun
theorem zw:af ii "_law_k" := by nofun
theorem i8:af ii "_law_box_here" := by nofun
theorem yP:aq ii "_law_folded" := by nofun
theorem BX:aq ii "range" := by nofun
theorem EI:aq ii "max" := by nofun
theorem EH:aq ii "len" := by nofun
theorem BV:aq ii "_law_box" := by nofun
theorem wD:aq ii "_law_two_right" := by nofun
theorem uU:aq ii "_law_ring_right" := by nofun
theorem vA:aq ii "_law_back_right" := by nofun
end K21
namespace L2
open PySem PySem.Spec PySem.Calls PyProof.Rows
def topRunT (tb:String→Option Builtin) (p:Program) (w:World) (n₀:Nat) (ann:Option Value):Nat→PySem.W.SharedT→Thread→Option PySem.W.SharedT
 | 0,_,_=>none
 | n+1,s,t=>match PySem.W.through t with
  | true=>some s
  | false=>match PySem.W.stepOk n₀ ann t with
   | false=>none
   | true=>match PySem.W.stepT (denote tb) p w s t with
    | some (s',t')=>topRunT tb p w n₀ ann n s' t'
    | none=>none
theorem zy {tb:String→Option Builtin}{p:Program}{w:World}{n₀:Nat}{ann:Option Value}:∀{n:Nat}{s s':PySem.W.SharedT}{t:Thread},topRunT tb p w n₀ ann n s t=some s'→PySem.W.topRun tb p w n₀ ann n s.abs t=some s'.abs
 | 0,_,_,_,h=>by cases h
 | n+1,s,s',t,h=>by
  unfold topRunT at h
  unfold PySem.W.topRun
  cases he:PySem.W.through t with
  | true=>rw [he] at h;cases h;rfl
  | false=>
   rw [he] at h
   cases hk:PySem.W.stepOk n₀ ann t with
   | false=>rw [hk] at h;cases h
   | true=>
    rw [hk] at h
    cases hs:PySem.W.stepT (denote tb) p w s t with
    | none=>rw [hs] at h;cases h
    | some r=>obtain ⟨s₂,t₂⟩:=r;rw [hs] at h;rw [PySem.W.stepT_spec hs];exact zy h
open PySem.W in
noncomputable def Ls (P:Params):BT:=.node (boot_o_0 P) (.node (boot_o_1 P) (.node (boot_o_3 P) (.node (boot_o_7 P) .nil .nil) .nil) (.node (boot_o_5 P) (.node (boot_o_9 P) .nil .nil) .nil)) (.node (boot_o_2 P) (.node (boot_o_4 P) (.node (boot_o_8 P) .nil .nil) .nil) (.node (boot_o_6 P) (.node (boot_o_10 P) .nil .nil) .nil))
noncomputable def bootS (w:World) (os:OsState):PySem.W.SharedT:=⟨Ls w.params,11,{},#[],PySem.W.boot_drawn,PySem.W.boot_toks,os⟩
theorem EK (w:World):((PySem.W.boot_heap w.params).isNs mainGlobals,(PySem.W.boot_heap w.params).objs.size,(PySem.W.boot_heap w.params).nsMap mainGlobals "__annotations__")=(true,11,some (.ref 6)):=by kernel_rfl
noncomputable def looks {α:Type} (p q:Program) (Xt:Shared→Bool) (Yf:Shared→α) (w:World) (s:Shared):=
 (PySem.W.staticsOk (importedModules p.main.body) (PySem.W.boot_heap w.params) s.heap && PySem.W.namesBound p s.heap && PySem.W.gensDone s && PySem.W.laidKept (PySem.W.boot_heap w.params) s.heap,PySem.W.openSeen q [] (importedModules p.main.body) Xt true s,Yf s)
theorem left_tree {p q:Program}{Xt:Shared→Bool}{α:Type}{Yf:Shared→α}{Ya:α}{N:Nat}
 (e:PySem.W.opening p=PySem.W.plainProg p.main.scope.names) (hN:Nat.ble 600 N=true) (f:∀s,PySem.fenceModules? p s=some s)
 (run:∀(w:World) (os:OsState),(topRunT treeTable p w 11 (some (.ref 6)) N (bootS w os) (PySem.W.topStub p)).map (fun s=>looks p q Xt Yf w s.abs)=some (true,PySem.W.openGood q [],Ya)) :
 PySem.W.LeftO p q [] Xt Yf (fun _=>Ya) N:=fun w=>by
 obtain ⟨⟨h,gs,d,k,os⟩,ef,ev⟩:=Option.map_eq_some_iff.mp (PySem.W.boot_open e hN f w)
 obtain ⟨rfl,rfl,rfl,rfl⟩:h=PySem.W.boot_heap w.params∧gs=#[]∧d=PySem.W.boot_drawn∧k=PySem.W.boot_toks:=by simpa using ev
 obtain ⟨st,er,el⟩:=Option.map_eq_some_iff.mp (run w os)
 have r:=zy er
 have e0:(bootS w os).abs=⟨PySem.W.boot_heap w.params,#[],PySem.W.boot_drawn,PySem.W.boot_toks,os⟩:=rfl
 rw [e0] at r
 obtain ⟨z1,z2,z3⟩:_∧_∧_:=by simpa only [Prod.mk.injEq] using EK w
 obtain ⟨l1,l2,l3⟩:_∧_∧_:=by simpa only [looks,Prod.mk.injEq] using el
 have t:PySem.W.topFrom treeTable p w N ⟨PySem.W.boot_heap w.params,#[],PySem.W.boot_drawn,PySem.W.boot_toks,os⟩=some st.abs:=by
  unfold PySem.W.topFrom
  dsimp only
  rw [z1,z2,z3,r]
  show (match PySem.W.staticsOk (importedModules p.main.body) (PySem.W.boot_heap w.params) st.abs.heap && PySem.W.namesBound p st.abs.heap && PySem.W.gensDone st.abs && PySem.W.laidKept (PySem.W.boot_heap w.params) st.abs.heap with | true=>_ | false=>_)=_
  rw [l1]
 unfold PySem.W.openEnds
 rw [ef]
 show (PySem.W.topFrom treeTable p w N _).map _=_
 rw [t]
 exact congrArg some (Prod.ext l2 l3)
theorem left_of2 {α β:Type}{f f':World→β→α}{g g':α} (ef:f=f') (eg:g=g') (h:∀w os,f' w os=g') (w:World) (os:β):f w os=g:=by
 rw [ef,eg];exact h w os
end L2
namespace K21
open PySem L2
def qv:Program:=PySem.W.view PySem.Challenge.pw_gainroads_k21_known_betterings [1,2,3,4,5,6,7,8,9,10,11,12,14,15,17,18,19,20,21,22,24,25,26,27,29,30,31,32,33,34,35,36,37,38,39,40,41,42,44,45,46,47,48,49,50,51,52,53,54,55,56,57,58,59]
def obs (K:PySem.W.Frag):List (Option FuncData)×List Bool:=([fG K "is_number",
 fG K "common_divisor",
 fG K "is_fraction",
 fG K "is_from_nought",
 fG K "fraction",
 fG K "added",
 fG K "taken",
 fG K "times",
 fG K "over",
 fG K "compared",
 fG K "sum_of",
 fG K "least",
 fG K "steps_of",
 fG K "left_steps",
 fG K "ties_from",
 fG K "ties_to",
 fG K "goes_within",
 fG K "is_stream",
 fG K "left_at",
 fG K "keeps",
 fG K "is_shut",
 fG K "lift_once",
 fG K "round_ahead",
 fG K "gaining_round",
 fG K "courses_to",
 fG K "gaining_ring",
 fG K "bettering",
 fG K "by_pairs",
 fG K "is_pair",
 fG K "are_steps",
 fG K "is_course",
 fG K "is_gaining_ring",
 fG K "gain_along",
 fG K "is_ring_and_course",
 fG K "shows_bettering",
 fG K "shares_along",
 fG K "shares_of",
 fG K "bettered",
 fG K "_law_box",
 fG K "_law_take",
 fG K "_law_folded",
 fG K "_law_frac",
 fG K "_law_product",
 fG K "_law_minus",
 fG K "_law_over",
 fG K "_law_above",
 fG K "_law_names_by",
 fG K "_law_much_by",
 fG K "_law_gain_by",
 fG K "_law_lesser",
 fG K "_law_two_right",
 fG K "_law_ring_right",
 fG K "_law_back_right",
 fG K "law"],
 [oG K "abs",
 oG K "all",
 oG K "any",
 oG K "bool",
 oG K "divmod",
 oG K "enumerate",
 oG K "int",
 oG K "isinstance",
 oG K "len",
 oG K "list",
 oG K "max",
 oG K "min",
 oG K "range",
 oG K "set",
 oG K "tuple",
 oG K "zip"])
def due:List (Option FuncData)×List Bool:=([dG "is_number" "is_number" rP,
 dG "common_divisor" "common_divisor" lg,
 dG "is_fraction" "is_fraction" oQ,
 dG "is_from_nought" "is_from_nought" fQ,
 dG "fraction" "fraction" jb,
 dG "added" "added" pL,
 dG "taken" "taken" pE,
 dG "times" "times" pG,
 dG "over" "over" sy,
 dG "compared" "compared" jd,
 dG "sum_of" "sum_of" lh,
 dG "least" "least" mX,
 dG "steps_of" "steps_of" bZ,
 dG "left_steps" "left_steps" cU,
 dG "ties_from" "ties_from" kK,
 dG "ties_to" "ties_to" nV,
 dG "goes_within" "goes_within" fv,
 dG "is_stream" "is_stream" dE,
 dG "left_at" "left_at" eT,
 dG "keeps" "keeps" sX,
 dG "is_shut" "is_shut" qM,
 dG "lift_once" "lift_once" bu,
 dG "round_ahead" "round_ahead" dQ,
 dG "gaining_round" "gaining_round" bM,
 dG "courses_to" "courses_to" bQ,
 dG "gaining_ring" "gaining_ring" cx,
 dG "bettering" "bettering" bJ,
 dG "by_pairs" "by_pairs" ke,
 dG "is_pair" "is_pair" gC,
 dG "are_steps" "are_steps" fK,
 dG "is_course" "is_course" cV,
 dG "is_gaining_ring" "is_gaining_ring" bH,
 dG "gain_along" "gain_along" fh,
 dG "is_ring_and_course" "is_ring_and_course" bh,
 dG "shows_bettering" "shows_bettering" aM,
 dG "shares_along" "shares_along" cL,
 dG "shares_of" "shares_of" eN,
 dG "bettered" "bettered" bq,
 dG "_law_box" "_law_box" yL,
 dG "_law_take" "_law_take" xp,
 dG "_law_folded" "_law_folded" tF,
 dG "_law_frac" "_law_frac" jY,
 dG "_law_product" "_law_product" jm,
 dG "_law_minus" "_law_minus" lJ,
 dG "_law_over" "_law_over" mV,
 dG "_law_above" "_law_above" nU,
 dG "_law_names_by" "_law_names_by" bN,
 dG "_law_much_by" "_law_much_by" jl,
 dG "_law_gain_by" "_law_gain_by" jk,
 dG "_law_lesser" "_law_lesser" kf,
 dG "_law_two_right" "_law_two_right" aF,
 dG "_law_ring_right" "_law_ring_right" ax,
 dG "_law_back_right" "_law_back_right" aO,
 dG "law" "law" ii],List.replicate 16 true)
end K21
def L2.Xt (s:PySem.Shared):Bool:=PySem.W.xlAt K21.qv [] s && PySem.W.recOk [] s
def L2.Yf (s:PySem.Shared):=K21.obs (L2.fragOf s.heap)
noncomputable def L2.lhs (w:PySem.World) (os:PySem.OsState):=(L2.topRunT PySem.treeTable PySem.Challenge.pw_gainroads_k21_known_betterings w 11 (some (.ref 6)) 3434 (L2.bootS w os) (PySem.W.topStub PySem.Challenge.pw_gainroads_k21_known_betterings)).map fun s=>L2.looks PySem.Challenge.pw_gainroads_k21_known_betterings K21.qv L2.Xt L2.Yf w s.abs
noncomputable def L2.rhs:=some (true,PySem.W.openGood K21.qv [],K21.due)
theorem L2.lhs0:L2.lhs=L2.lhs:=rfl
theorem L2.rhs0:L2.rhs=L2.rhs:=rfl
name_quick lhsQ for L2.lhs by L2.lhs0
name_quick rhsQ for L2.rhs by L2.rhs0
theorem L2.left:∀w os,L2.lhs w os=L2.rhs:=L2.left_of2 PySem.W.Fast.lhsQ_eq PySem.W.Fast.rhsQ_eq (fun w os=>by kernel_rfl)
namespace K21
open PySem L2
section
variable {P:Program}{w:World}{K:PySem.W.Frag}{mg:Str→Option Value}{base:Heap}
inductive Ie (vs:List V) (H:Hp) (Q:VK):Prop
 | mk (x:V) (d:PyData) (E:Addr→Prop) (h0:vs=[x]) (h1:aI E H x d) (h2:Q (.bl (yb d)) H)
def Lo:Sp:=fun vs H Q _=>Ie  vs H Q
theorem u7 (T:Txt K mg):aZ P w K mg base CX0 1 T.is_number_.f T.is_number_.d ["thing"] Lo:=by
 refine T.is_number_.F.ok At (fun vs H Q E h=>?_) (fun cdv A outer s H vs Q E hr h=>?_)
 ·obtain ⟨x,d,F,rfl,_⟩:=h
  rfl
 ·obtain ⟨x,d,F,rfl,hx,k⟩:=h
  refine ⟨_,(ae (av (jf (gS nH (by rfl) T.b_isinstance cz (bT (pv 0) (bT (qP rfl T.b_int rF) cj))) (mB (EX (gS nH (by rfl) T.b_isinstance cz (bT (pv 0) (bT (qP rfl T.b_bool vE) cj)))))))),?_⟩
  refine ⟨(),_,_,_,(),hx.ty,Hy d,(),?_⟩
  have rest:∀b,yb d=!b→wq d=b→Gu (Ia (fun xs H Q=>xX fun x T t b=>xs=[x,.ty T]∧ku K H x t∧PySem.W.kitOne K t (.type T)=some b∧Q (.bl b) H) (kX (uo 0) (kX (tC (.ty "bool")) u9))) (pj ["thing"] [x]) H Q:=fun b e1 e2=>by
   refine ⟨(),_,_,_,(),hx.ty,AZ d,(),?_⟩
   rw [e2,←e1]
   exact k
  cases d with
  | int i=>exact ay (rest false rfl rfl)
  | bool b=>exact ay (rest true rfl rfl)
  | none=>exact aJ k
  | str _=>exact aJ k
  | list _=>exact aJ k
  | tuple _=>exact aJ k
  | dict _=>exact aJ k
inductive IS (vs:List V) (H:Hp) (Q:VK):Prop
 | mk (n d:Int) (h0:vs=[.int n,.int d]) (h1:Q (.int (Int.gcd n d:Nat)) H)
def KB:Sp:=fun vs H Q _=>IS  vs H Q
theorem oR (T:Txt K mg):aZ P w K mg base CX0 1 T.common_divisor_.f T.common_divisor_.d ["n", "d"] KB:=by
 refine T.common_divisor_.F.ok oV (fun vs H Q E h=>?_) (fun cdv A outer s H vs Q E hr h=>?_)
 ·obtain ⟨n,d,rfl,_⟩:=h
  rfl
 ·obtain ⟨n,d,rfl,k⟩:=h
  refine ⟨_,(d5 (tz PassesOwn.never (aK wp (pv 1) bP (oF _)) (ae (vd (i:=0) (j:=1) rfl oV.nd rfl rfl (by decide) rfl rfl (bT (pv 1) (bT (aC Hq (pv 0) (pv 1)) cj)) rfl)))
   (ae (av (gS qo (by rfl) T.b_abs ma (bT (pv 0) cj))))),?_⟩
  refine ⟨fun m σ H'=>∃a b:Int,σ=[some (.int a),some (.int b)]∧H'=H∧Int.gcd a b=Int.gcd n d∧m=b.natAbs,⟨_,n,d,rfl,rfl,rfl,rfl⟩,?_⟩
  rintro m σ H' ⟨a,b,rfl,rfl,hg,rfl⟩
  refine ⟨(),rfl,(),?_⟩
  by_cases hb:b=0
  ·subst hb
   refine aJ ?_
   refine ⟨(),(),?_⟩
   rw [←KM.gcd_zero_abs,hg]
   exact k
  ·have e:(!decide (V.int b=V.int 0))=true:=by
    rw [decide_eq_false (fun z=>hb (by injection z))];rfl
   rw [e]
   refine ay ⟨fun σ' H''=>∃a' b':Int,σ'=[some (.int a'),some (.int b')]∧H''=H'∧Int.gcd a' b'=Int.gcd n d∧b'.natAbs<b.natAbs,?_,?_⟩
   ·rintro σ' H'' ⟨a',b',rfl,rfl,h1,h2⟩
    exact ⟨_,h2,a',b',rfl,rfl,h1,rfl⟩
   ·refine ⟨(),(),(),_,(),rfl,hb,_,(),?_⟩
    exact ⟨b,a.fmod b,rfl,rfl,(KM.gcd_fmod a b).trans hg,KM.fmod_natAbs_lt a b hb⟩
def jq:PyData→Bool
 | .tuple [.int n,.int d]=>decide (1≤d) && decide (Int.gcd n d=1)
 | _=>false
inductive KO (vs:List V) (H:Hp) (Q:VK):Prop
 | mk (x:V) (d:PyData) (E:Addr→Prop) (h0:vs=[x]) (h1:aI E H x d) (h2:Q (.bl (jq d)) H)
def MA:Sp:=fun vs H Q _=>KO  vs H Q
theorem yX (T:Txt K mg):aZ P w K mg base CX0 2 T.is_fraction_.f T.is_fraction_.d ["thing"] MA:=by
 have G_is_number:=#[(u7)]
 have G_common_divisor:=#[(oR)]
 refine T.is_fraction_.F.ok mZ (fun vs H Q E h=>?_) (fun cdv A outer s H vs Q E hr h=>?_)
 ·obtain ⟨x,d,F,rfl,_⟩:=h
  rfl
 ·obtain ⟨x,d,F,rfl,hx,k⟩:=h
  refine ⟨_,(d5 (bA (PW.pt (ig (dk (b9 (gS nH (by rfl) T.b_isinstance cz (bT (pv 0) (bT (qP rfl T.b_tuple cJ) cj))))) (gA (aK wp (gS qe (by rfl) T.b_len bY (bT (pv 0) cj)) bP (oF _))))) (ae (av br)) aQ)
   (d5 (dZ (pv 0) (yd rfl (au (dj (i:=1) mZ.nd rfl (Or.inl rfl)) (au (dj (i:=2) mZ.nd rfl (Or.inl rfl)) b3))))
   (d5 (bA (PW.pt (ig (dk (b9 (sB G_is_number (hr.mono (by decide)) rfl T.is_number_.m T.is_number_.F.kp T.is_number_.B .nil yB (bT (pv 1) cj)))) (gA (dk (b9 (sB G_is_number (hr.mono (by decide)) rfl T.is_number_.m T.is_number_.F.kp T.is_number_.B .nil yB (bT (pv 2) cj))))))) (ae (av br)) aQ)
   (ae (av (jf (cn Dc (pv 2) bP (oF _)) (mB (cn ij (sB G_common_divisor (hr.mono (by decide)) rfl T.common_divisor_.m T.common_divisor_.F.kp T.common_divisor_.B .nil yB (bT (pv 1) (bT (pv 2) cj))) bP (oF _))))))))),?_⟩
  refine ⟨(),_,_,_,(),hx.ty,vQ d,(),?_⟩
  cases hx with
  | non=>exact ay (ay k)
  | bl b=>exact ay (ay k)
  | int i=>exact ay (ay k)
  | str y=>exact ay (ay k)
  | lst h ne r=>exact ay (ay k)
  | @tup a xs ds h r=>
   refine aJ ?_
   refine ⟨(),_,xs,rfl,.inr (ar.of h),rfl,(),?_⟩
   have hl:=r.length
   by_cases h2:xs.length=2
   ·have e:(!decide (V.int (xs.length:Int)=V.int 2))=false:=by
     rw [h2];rfl
    rw [e]
    refine aJ ?_
    obtain ⟨v1,v2,rfl⟩:bI fun v1 v2=>xs=[v1,v2]:=cW (P:=fun l=>bI fun v1 v2=>l=[v1,v2]) (fun a b=>⟨a,b,rfl⟩) _ h2
    cases r with
    | @cons _ _ d1 _ r1 r=>
    cases r with
    | @cons _ _ d2 _ r2 r=>
    cases r
    refine ⟨(),a,[v1,v2],rfl,ar.of h,rfl,v1,[v2],rfl,v2,[],rfl,rfl,?_⟩
    refine ⟨(),v1,d1,F,rfl,r1,(),?_⟩
    cases r1 with
    | non=>exact ay (ay k)
    | bl b=>exact ay (ay k)
    | str y=>exact ay (ay k)
    | lst _ _ _=>exact ay (ay k)
    | tup _ _=>exact ay (ay k)
    | int n=>
     refine aJ ?_
     refine ⟨(),v2,d2,F,rfl,r2,(),?_⟩
     cases r2 with
     | non=>exact ay k
     | bl b=>exact ay k
     | str y=>exact ay k
     | lst _ _ _=>exact ay k
     | tup _ _=>exact ay k
     | int de=>
      refine aJ ?_
      refine ⟨(),_,(),rfl,(),?_⟩
      by_cases he:1≤de
      ·rw [decide_eq_true he]
       refine ay ?_
       refine ⟨(),(),n,de,rfl,rfl,?_⟩
       have q:jq (.tuple [.int n,.int de])=decide (V.int ((Int.gcd n de:Nat):Int)=V.int 1):=by
        show (decide (1≤de) && decide (Int.gcd n de=1))=_
        rw [decide_eq_true he,Bool.true_and]
        by_cases g:Int.gcd n de=1
        ·rw [g];rfl
        ·rw [decide_eq_false g,decide_eq_false]
         intro z
         injection z with z
         exact g (by trivial)
       rw [←q]
       exact k
      ·rw [decide_eq_false he]
       refine aJ ?_
       have q:jq (.tuple [.int n,.int de])=false:=by
        show (decide (1≤de) && decide (Int.gcd n de=1))=_
        rw [decide_eq_false he,Bool.false_and]
       rw [←q]
       exact k
   ·have e:(!decide (V.int (xs.length:Int)=V.int 2))=true:=by
     rw [decide_eq_false]
     ·rfl
     ·intro z
      injection z with z
      exact h2 (by trivial)
    rw [e]
    refine ay ?_
    have q:jq (.tuple ds)=false:=by
     unfold jq
     split
     ·rename_i z
      injection z with z
      subst z
      simp at hl
      exact absurd hl h2
     ·rfl
    rw [←q]
    exact k
end
end K21
namespace K21
open PySem L2
section
variable {P:Program}{w:World}{K:PySem.W.Frag}{mg:Str→Option Value}{base:Heap}
theorem Ik (T:Txt K mg):aZ P w K mg base CX0 1 T.l_box_.f T.l_box_.d ["_law_script", "_law_k"] (KN K):=by
 refine T.l_box_.F.ok xh (fun vs H Q E h=>?_) (fun cdv A outer s H vs Q E hr h=>?_)
 ·obtain ⟨a,ms,k,rfl,_⟩:=h
  rfl
 ·obtain ⟨a,ms,k,rfl,hS,hk0,hk1,kk⟩:=h
  refine ⟨_,(d5 (jh (i:=2) xh.nd rfl (Or.inl rfl) bP)
   (d5 (bA (aK re (pv 1) (gS qe (by rfl) T.b_len bY (bT (pv 0) cj)) (oF _)) (ae (jh (i:=2) xh.nd rfl (Or.inl rfl) (b8 mC (pv 0) (pv 1) (fun _ _=>rfl)))) aQ)
   (ae (av (JP (bT (aC kL (gS qo (by rfl) T.b_abs ma (bT (pv 2) cj)) (fe zH (by rfl) T.b_int rF (bT (cn Dc (gS qo (by rfl) T.b_abs ma (bT (pv 2) cj)) (aC E7 bP bP) (oF _)) cj))) (bT (aC oA (aC iE (pv 2) (aC kL (aC kL bP (pv 1)) (pv 1))) bP) (bT bP cj)))))))),?_⟩
  refine ⟨(),(),a,(),.inl hS,_,(),rfl,(),?_⟩
  refine mS (fun h=>?_) (fun h=>?_)
  case' refine_1=>
   have hlt:k.toNat<ms.length:=by
    have h':=of_decide_eq_true h
    rw [List.length_map] at h'
    trivial
   refine ⟨(),(),.inl ⟨a,_,_,V.int ms[k.toNat],rfl,rfl,hS,?_,?_⟩⟩
   ·exact Cf hk0 hlt
  all_goals
   refine ⟨(),(),(),(),_,(),rfl,⟨by decide,by decide,by decide⟩,_,(),rfl,.inr ⟨(),_,(),rfl,.inr ?_,(),(),_,(),rfl,.inr ⟨by trivial,by trivial⟩,(),_,(),rfl,.inr ⟨by trivial,by trivial⟩,_,(),rfl,_,(),rfl,?_,?_,fun p hp=>kk p _ hp (aa.new hp) ⟨_,_,aA,?_,?_,?_⟩⟩⟩
   ·exact MD _
   ·show (0:Int)<2147483647;decide
   ·show 3≤sizeLine;decide
   ·exact KA _ (AX _)
   ·exact Int.emod_nonneg _ (by decide)
   ·exact Int.emod_lt_of_pos _ (by decide)
end
end K21
namespace K21
open PySem L2
section
variable {P:Program}{w:World}{K:PySem.W.Frag}{mg:Str→Option Value}{base:Heap}
theorem wa (T:Txt K mg):aZ P w K mg base CX0 1 T.l_take_.f T.l_take_.d ["_law_box_here", "_law_many"] HW:=by
 refine T.l_take_.F.ok vg (fun vs H Q E h=>?_) (fun cdv A outer s H vs Q E hr h=>?_)
 ·obtain ⟨b,many,t,rfl,_⟩:=h
  rfl
 ·obtain ⟨b,many,t,rfl,⟨c,x,hb,hc,hx0,hx1⟩,hm0,hm1,ht0,ht1,kk⟩:=h
  refine ⟨_,(d5 (bA (aK qW (b8 mC (pv 0) bP (fun _ _=>rfl)) bP (oF _)) (d5 (dZ (gS AL (by rfl) T.b_divmod Ac (bT (b8 mC (pv 0) bP (fun _ _=>rfl)) (bT (pv 1) cj))) (yd rfl (au (nS (pv 0) bP ul) (au (dj (i:=2) vg.nd rfl (Or.inl rfl)) b3))))
   (ae (av (pv 2)))) aQ)
   (d5 (dZ (aC iE (b8 mC (pv 0) bP (fun _ _=>rfl)) bP) (nS (pv 0) bP ul))
   (d5 (jh (i:=3) vg.nd rfl (Or.inl rfl) (aC oA (aC E7 (aC iE (b8 mC (pv 0) bP (fun _ _=>rfl)) (aC kL bP (b8 mC (pv 0) bP (fun _ _=>rfl)))) bP) bP))
   (ae (av (aC oA (aC HS (aC oA (aC iE (aC kL (pv 3) bP) (aC kL (aC kL (b8 mC (pv 0) bP (fun _ _=>rfl)) (b8 mC (pv 0) bP (fun _ _=>rfl))) bP)) bP) bP) (pv 1))))))),?_⟩
  refine ⟨(),.inl ⟨b,_,_,(),rfl,ak.of hb,rfl,_,(),rfl,(),?_⟩⟩
  refine mS (fun h=>?_) (fun h=>?_)
  ·refine ⟨(),.inl ⟨b,_,_,(),rfl,ak.of hb,rfl,(),_,(),⟨hm0,hm1⟩,fun p hp=>⟨p,(),ar.of aA,rfl,_,(),(),b,[.int c,.int x,.int t],_,0,rfl,rfl,?_,rfl,_,(),rfl,(),?_⟩⟩⟩
   ·rw [aE (bf hb hp)];exact hb
   ·have hb':aP H p (.tup [.int (c / many),.int (c % many)]) b=some (.lst [.int c,.int x,.int t]):=by rw [aE (bf hb hp)];exact hb
    exact kk _ t _ (Int.emod_nonneg _ (Int.ne_of_gt hm0)) (Int.emod_lt_of_pos _ hm0) (Int.le_refl _) (by trivial) (za (aa.new hp) hb') ⟨_,_,aA,Int.ediv_nonneg hc (Int.le_of_lt hm0),hx0,hx1⟩
  ·refine ⟨(),.inl ⟨b,_,_,(),rfl,ak.of hb,rfl,_,(),rfl,(),b,_,_,2,rfl,rfl,hb,rfl,?_⟩⟩
   refine ⟨(),.inl ⟨b,_,_,(),rfl,ak.of aA,rfl,(),.inl ⟨b,_,_,(),rfl,ak.of aA,rfl,_,(),rfl,.inl ⟨by decide,by decide⟩,_,(),rfl,_,(),rfl,⟨by decide,by decide,?_⟩,_,(),rfl,?_,?_⟩⟩⟩
   ·have:(x+39373*(t+1)).natAbs<2 ^ 64:=by trivial
    exact this
   ·show (0:Int)<2147483647;decide
   have ho0:0≤(x+39373*(t+1)) ^ (5:Int).toNat % 2147483647:=Int.emod_nonneg _ (by decide)
   have ho1:(x+39373*(t+1)) ^ (5:Int).toNat % 2147483647<2147483647:=Int.emod_lt_of_pos _ (by decide)
   generalize (x+39373*(t+1)) ^ (5:Int).toNat % 2147483647=on at ho0 ho1 ⊢
   refine ⟨(),_,(),rfl,.inr ⟨by decide,by decide⟩,(),.inl ⟨b,_,_,(),rfl,ak.of aA,rfl,(),.inl ⟨b,_,_,(),rfl,ak.of aA,rfl,_,(),rfl,.inl ⟨?_,?_⟩,_,(),rfl,.inr ⟨by decide,by decide⟩,_,(),rfl,_,(),rfl,?_,_,(),rfl,⟨by decide,by decide⟩,(),_,(),rfl,hm0,?_⟩⟩⟩
   ·show -(2 ^ 64)<t+1;trivial
   ·show t+1<2 ^ 64;trivial
   ·show (0:Int)<2147483629;decide
   ·exact kk _ (t+1) _ (Int.emod_nonneg _ (Int.ne_of_gt hm0)) (Int.emod_lt_of_pos _ hm0) (by trivial) (Int.le_refl _) (za (aa.refl H) hb) ⟨c,x,aA,hc,hx0,hx1⟩
end
end K21
namespace K21
open PySem L2
section
variable {P:Program}{w:World}{K:PySem.W.Frag}{mg:Str→Option Value}{base:Heap}
inductive FM (K:PySem.W.Frag) (vs:List V) (H:Hp) (Q:VK):Prop
 | mk (a:Addr) (ns:List Int) (many:Int) (h0:vs=[.ref a,.int many]) (h1:ak K H a (ns.map V.int)) (h2:ns.length≤63) (h3:2≤many) (h4:many≤63) (h5:∀p ms H',H p=none→aa H H'→H' p=some (.lst ((ms:List Int).map V.int))→(ms.length:Int)≤many→Q (.ref p) H')
def GN (K:PySem.W.Frag):Sp:=fun vs H Q _=>FM K vs H Q
theorem EC (T:Txt K mg):aZ P w K mg base CX0 1 T.l_folded_.f T.l_folded_.d ["_law_script", "_law_many"] (GN K):=by
 refine T.l_folded_.F.ok nL (fun vs H Q E h=>?_) (fun cdv A outer s H vs Q E hr h=>?_)
 ·obtain ⟨a,ns,many,rfl,_⟩:=h
  rfl
 ·obtain ⟨a,ns,many,rfl,hS,hn,hm0,hm1,kk⟩:=h
  refine ⟨_,(d5 (jh (i:=2) nL.nd rfl (Or.inl rfl) (fe vG (by rfl) T.b_list mG (bT (k6 yD (pv 0) pI (lK (pv 1))) cj)))
   (d5 (jN PassesOwn.never rfl (Hi rfl T.b_enumerate (bT (k6 yD (pv 0) (lK (pv 1)) (lK bP)) cj)) (yd rfl (au (dj (i:=3) nL.nd rfl (Or.inl rfl)) (au (dj (i:=4) nL.nd rfl (Or.inl rfl)) b3))) (ae (dZ (aC iE (b8 mC (pv 2) (aC oA (pv 3) (pv 1)) (fun _ _=>rfl)) (aC kL (pv 4) (aC iE (pv 3) bP))) (nS (pv 2) (aC oA (pv 3) (pv 1)) ul))))
   (ae (av (pv 2))))),?_⟩
  have cutE:∀(lo hi:Option Int),∃cs:List Int,k9 (ns.map V.int) lo hi=cs.map V.int∧cs.length≤ns.length∧cs=(ns.drop (HT.sIx ns.length 0 lo)).take (HT.sIx ns.length ns.length hi - HT.sIx ns.length 0 lo):=fun lo hi=>by
   refine ⟨(ns.drop (HT.sIx ns.length 0 lo)).take (HT.sIx ns.length ns.length hi - HT.sIx ns.length 0 lo),?_,?_,rfl⟩
   ·unfold k9
    rw [List.length_map,List.map_take,List.map_drop]
   ·rw [List.length_take,List.length_drop];trivial
  obtain ⟨c1,e1,l1,q1⟩:=cutE none (some many)
  obtain ⟨c2,e2,l2,q2⟩:=cutE (some many) (some 63)
  have em:many=((many.toNat:Nat):Int):=by trivial
  have l1m:c1.length=min many.toNat ns.length:=by
   rw [q1,em,HT.sIx_nat,HT.sIx_none,List.length_take,List.length_drop]
   simp only [Int.toNat_natCast]
   trivial
  have l2m:c2.length≤ns.length - many.toNat:=by
   rw [q2,em,HT.sIx_nat,List.length_take,List.length_drop]
   simp only [Int.toNat_natCast]
   trivial
  refine ⟨(),(),(),a,(),hS,fun p1 hp1=>⟨p1,(),.inl (ak.of aA),fun p2 hp2=>?_⟩⟩
  rw [e1] at hp2 ⊢
  have n12:p2≠p1:=fun z=>by rw [z,aA] at hp2;cases hp2
  have s2:aa H (aP (aP H p1 (.lst (c1.map V.int))) p2 (.lst (c1.map V.int))):=(aa.new hp1).trans (aa.new hp2)
  refine ⟨(),(),(),(),a,(),s2.seq hS,fun p3 hp3=>⟨p3,rfl,⟨_,ak.of aA⟩,?_⟩⟩
  rw [e2]
  have s3:=s2.trans (aa.new (o:=.lst (c2.map V.int)) hp3)
  have n23:p2≠p3:=fun z=>by rw [←z,aA] at hp3;cases hp3
  refine ⟨fun i m σ H'=>m=c2.length - i∧i≤c2.length∧kJ fun (ms:List Int) (v3 v4:Option V)=>σ=[some (.ref a),some (.int many),some (.ref p2),v3,v4]∧ms.length=c1.length∧H' p2=some (.lst (ms.map V.int))∧H' p3=some (.lst (c2.map V.int))∧(∀b o,b≠p2→H b=some o→H' b=some o),⟨(),Nat.zero_le _,c1,none,none,rfl,rfl,?_,aA,fun b o _ h=>s3 b o h⟩,?_⟩
  ·rw [aE n23];exact aA
  rintro i m σ H' ⟨rfl,hi,ms,v3,v4,rfl,hms,h2,h3,hk⟩
  by_cases hlt:i<c2.length
  ·refine .inr ⟨⟨c2.map V.int,V.int c2[i],ak.of h3,by rw [List.getElem?_map];simp [hlt]⟩,_,fun σ' H'' z=>z,?_⟩
   rintro x H'' ⟨t,y,ht,rfl,rfl,hy⟩
   have hy':=hy _ (ak.of h3)
   rw [List.getElem?_map,List.getElem?_eq_getElem hlt] at hy'
   obtain rfl:V.int c2[i]=y:=Option.some.inj hy'
   have nt2:p2≠t:=bf h2 ht
   have nt3:p3≠t:=bf h3 ht
   have hlen:many.toNat<ns.length:=by trivial
   have hmod0:0≤(i:Int) % many:=Int.emod_nonneg _ (by trivial)
   have hmod1:(i:Int) % many<many:=Int.emod_lt_of_pos _ (by trivial)
   have hixlt:((i:Int) % many).toNat<ms.length:=by trivial
   refine ⟨t,(),ar.of aA,rfl,_,(),_,(),rfl,(),(),(),_,(),rfl,(by show (0:Int)<many;trivial),.inl ⟨p2,ms.map V.int,_,V.int ms[((i:Int) % many).toNat],rfl,rfl,ak.of (by rw [aE nt2];exact h2),Cf hmod0 hixlt,(),(),_,(),rfl,_,(),rfl,.inr ⟨?_,?_⟩,_,(),rfl,(),(),(),_,(),rfl,(by show (0:Int)<many;trivial),p2,ms.map V.int,_,((i:Int) % many).toNat,rfl,rfl,(by rw [aE nt2];exact h2),?_,?_⟩⟩
   ·trivial
   ·trivial
   ·unfold qI
    rw [if_pos hmod0,List.length_map,if_pos (by trivial)]
   ·refine ⟨c2.length - (i+1),by trivial,rfl,hlt,ms.set ((i:Int) % many).toNat (ms[((i:Int) % many).toNat]+c2[i]*((i:Int)+2)),_,(),by rw [List.length_set];exact hms,?_,?_,fun b o hb h=>?_⟩
    ·rw [aA,List.map_set]
    ·rw [aE (Ne.symm n23),aE nt3];exact h3
    ·have:=hk b o hb h
     rw [aE hb,aE (bf this ht)]
     exact this
  ·refine .inl ⟨⟨_,ak.of h3,by rw [List.length_map];trivial⟩,?_⟩
   have hp2':H p2=none:=by
    rw [aE n12] at hp2
    exact hp2
   have sH:aa H H':=fun b o h=>hk b o (bf h hp2') h
   exact ⟨(),kk p2 ms H' hp2' sH h2 (by trivial)⟩
end
end K21
namespace K21
open PySem L2
section
variable {P:Program}{w:World}{K:PySem.W.Frag}{mg:Str→Option Value}{base:Heap}
theorem nN (T:Txt K mg):aZ P w K mg base CX0 2 T.fraction_.f T.fraction_.d ["n", "d"] Ib:=by
 have G_common_divisor:=#[(oR)]
 refine T.fraction_.F.ok rJ (fun vs H Q E h=>?_) (fun cdv A outer s H vs Q E hr h=>?_)
 ·obtain ⟨n,d,rfl,_⟩:=h
  rfl
 ·obtain ⟨n,d,rfl,hd,hs,k⟩:=h
  refine ⟨_,#[#[2,rJ.nd,eX,#[G_common_divisor,pf,T.common_divisor_,#[[#[0,u8],#[1,qa]]]]] :: #[#[bA 8 #[aK 8 (@re _) #[1,qa] #[()] #[(),()]] #[ae 3 #[2,rJ.nd,eX,#[xJ 6 (@vU _) #[2,eX]]]] (@aQ _)] :: #[ae 3 #[av 4 #[ag 5 #[[#[aC 8 (@Bl _) #[0,u8] #[2,eX]],#[aC 8 (@Bl _) #[1,qa] #[2,eX]]]]]]]]],?_⟩
  refine ⟨(),(),n,d,rfl,(),_,(),rfl,(),?_⟩
  have g0:=KM.gcd_pos (n:=n) hd
  have gs:=Mm (n:=n) hd hs
  have kl:=KM.fdiv_low (n:=n) hd
  by_cases h0:d<0
  ·rw [decide_eq_true h0]
   rw [if_pos h0] at kl
   have c1:∀x,CT x (-((Int.gcd n d:Nat):Int)):=fun x=>⟨by trivial,gs.neg⟩
   refine ay ⟨(),(),(),(),_,(),rfl,c1 n,(),(),_,(),rfl,c1 d,(by show 2≤10000;decide),fun p H1 nw=>?_⟩
   have q:=k p H1
   rw [←kl] at q
   exact q nw
  ·rw [decide_eq_false h0]
   rw [if_neg h0] at kl
   have c1:∀x,CT x ((Int.gcd n d:Nat):Int):=fun x=>⟨by trivial,gs⟩
   refine aJ ⟨(),(),_,(),rfl,c1 n,(),(),_,(),rfl,c1 d,(by show 2≤10000;decide),fun p H1 nw=>?_⟩
   have q:=k p H1
   rw [←kl] at q
   exact q nw
theorem Bp (T:Txt K mg):aZ P w K mg base CX0 3 T.added_.f T.added_.d ["one", "other"] (yj Mt Ge):=by
 have G_fraction:=#[(nN)]
 refine T.added_.F.ok Fs (fun vs H Q E h=>?_) (fun cdv A outer s H vs Q E hr h=>?_)
 ·obtain ⟨a,b,n1,d1,n2,d2,rfl,_⟩:=h
  rfl
 ·obtain ⟨a,b,n1,d1,n2,d2,rfl,ha,hb,⟨z1,z2,z3,z4,hd⟩,k⟩:=h
  refine ⟨_,#[ae 3 #[av 4 #[G_fraction,xg,T.fraction_,#[[#[aC 8 (@iE _) #[aC 8 (@cy _) #[#[0,rz][#[()]]] #[#[1,oI][#[()]]]] #[aC 8 (@cy _) #[#[1,oI][#[()]]] #[#[0,rz][#[()]]]]],#[aC 8 (@cy _) #[#[0,rz][#[()]]] #[#[1,oI][#[()]]]]]]]]],?_⟩
  exact ⟨(),a,_,_,(),rfl,ar.of ha,rfl,(),b,_,_,(),rfl,ar.of hb,rfl,_,(),rfl,gW z1 z4,(),b,_,_,(),rfl,ar.of hb,rfl,(),a,_,_,(),rfl,ar.of ha,rfl,_,(),rfl,gW z3 z2,_,(),rfl,
   _,rfl,a,_,_,_,rfl,rfl,ar.of ha,rfl,_,rfl,b,_,_,_,rfl,rfl,ar.of hb,rfl,_,_,rfl,rfl,gW z2 z4,_,_,rfl,hd,tK z2 z4,k⟩
theorem tw (T:Txt K mg):aZ P w K mg base CX0 3 T.taken_.f T.taken_.d ["one", "other"] (yj Mw Ge):=by
 have G_fraction:=#[(nN)]
 refine T.taken_.F.ok Gd (fun vs H Q E h=>?_) (fun cdv A outer s H vs Q E hr h=>?_)
 ·obtain ⟨a,b,n1,d1,n2,d2,rfl,_⟩:=h
  rfl
 ·obtain ⟨a,b,n1,d1,n2,d2,rfl,ha,hb,⟨z1,z2,z3,z4,hd⟩,k⟩:=h
  refine ⟨_,#[ae 3 #[av 4 #[G_fraction,xa,T.fraction_,#[[#[aC 8 (@xY _) #[aC 8 (@cy _) #[#[0,rO][#[()]]] #[#[1,oP][#[()]]]] #[aC 8 (@cy _) #[#[1,oP][#[()]]] #[#[0,rO][#[()]]]]],#[aC 8 (@cy _) #[#[0,rO][#[()]]] #[#[1,oP][#[()]]]]]]]]],?_⟩
  exact ⟨(),a,_,_,(),rfl,ar.of ha,rfl,(),b,_,_,(),rfl,ar.of hb,rfl,_,(),rfl,gW z1 z4,(),b,_,_,(),rfl,ar.of hb,rfl,(),a,_,_,(),rfl,ar.of ha,rfl,_,(),rfl,gW z3 z2,_,(),rfl,
   _,rfl,a,_,_,_,rfl,rfl,ar.of ha,rfl,_,rfl,b,_,_,_,rfl,rfl,ar.of hb,rfl,_,_,rfl,rfl,gW z2 z4,_,_,rfl,hd,tK z2 z4,k⟩
theorem mU (T:Txt K mg):aZ P w K mg base CX0 3 T.times_.f T.times_.d ["one", "other"] (yj Me Ge):=by
 have G_fraction:=#[(nN)]
 refine T.times_.F.ok Ft (fun vs H Q E h=>?_) (fun cdv A outer s H vs Q E hr h=>?_)
 ·obtain ⟨a,b,n1,d1,n2,d2,rfl,_⟩:=h
  rfl
 ·obtain ⟨a,b,n1,d1,n2,d2,rfl,ha,hb,⟨z1,z2,z3,z4,hd⟩,k⟩:=h
  refine ⟨_,#[ae 3 #[av 4 #[G_fraction,xu,T.fraction_,#[[#[aC 8 (@cy _) #[#[0,wK][#[()]]] #[#[1,uC][#[()]]]],#[aC 8 (@cy _) #[#[0,wK][#[()]]] #[#[1,uC][#[()]]]]]]]]],?_⟩
  exact ⟨(),a,_,_,(),rfl,ar.of ha,rfl,(),b,_,_,(),rfl,ar.of hb,rfl,_,(),rfl,gW z1 z3,
   _,rfl,a,_,_,_,rfl,rfl,ar.of ha,rfl,_,rfl,b,_,_,_,rfl,rfl,ar.of hb,rfl,_,_,rfl,rfl,gW z2 z4,_,_,rfl,hd,tK z2 z4,k⟩
theorem CK (T:Txt K mg):aZ P w K mg base CX0 3 T.over_.f T.over_.d ["one", "other"] (yj Mp Md):=by
 have G_fraction:=#[(nN)]
 refine T.over_.F.ok Ht (fun vs H Q E h=>?_) (fun cdv A outer s H vs Q E hr h=>?_)
 ·obtain ⟨a,b,n1,d1,n2,d2,rfl,_⟩:=h
  rfl
 ·obtain ⟨a,b,n1,d1,n2,d2,rfl,ha,hb,⟨z1,z2,z3,z4,hd⟩,k⟩:=h
  refine ⟨_,#[ae 3 #[av 4 #[G_fraction,xQ,T.fraction_,#[[#[aC 8 (@cy _) #[#[0,x9][#[()]]] #[#[1,vT][#[()]]]],#[aC 8 (@cy _) #[#[0,x9][#[()]]] #[#[1,vT][#[()]]]]]]]]],?_⟩
  exact ⟨(),a,_,_,(),rfl,ar.of ha,rfl,(),b,_,_,(),rfl,ar.of hb,rfl,_,(),rfl,gW z1 z4,
   _,rfl,a,_,_,_,rfl,rfl,ar.of ha,rfl,_,rfl,b,_,_,_,rfl,rfl,ar.of hb,rfl,_,_,rfl,rfl,gW z2 z3,_,_,rfl,hd,tK z2 z3,k⟩
theorem kO (T:Txt K mg):aZ P w K mg base CX0 1 T.compared_.f T.compared_.d ["one", "other"] Kr:=by
 refine T.compared_.F.ok rX (fun vs H Q E h=>?_) (fun cdv A outer s H vs Q E hr h=>?_)
 ·obtain ⟨a,b,n1,d1,n2,d2,rfl,_⟩:=h
  rfl
 ·obtain ⟨a,b,n1,d1,n2,d2,rfl,ha,hb,z1,z2,z3,z4,k⟩:=h
  refine ⟨_,#[#[2,rX.nd,mE,#[aC 8 (@cy _) #[#[0,sg][#[()]]] #[#[1,pU][#[()]]]]] :: #[#[3,rX.nd,lm,#[aC 8 (@cy _) #[#[1,pU][#[()]]] #[#[0,sg][#[()]]]]] :: #[#[bA 8 #[aK 8 (@re _) #[2,mE] #[3,lm] #[(),()]] #[ae 3 #[av 4 #[xJ 6 (@vU _) #[()]]]] (@aQ _)] :: #[#[bA 8 #[aK 8 (@qW _) #[2,mE] #[3,lm] #[(),()]] #[ae 3 #[av 4 #[()]]] (@aQ _)] :: #[ae 3 #[av 4 #[()]]]]]]],?_⟩
  refine ⟨(),a,_,_,(),rfl,ar.of ha,rfl,(),b,_,_,(),rfl,ar.of hb,rfl,_,(),rfl,gW z1 z4,(),b,_,_,(),rfl,ar.of hb,rfl,(),a,_,_,(),rfl,ar.of ha,rfl,_,(),rfl,gW z3 z2,
   _,rfl,_,rfl,_,_,rfl,rfl,_,rfl,?_⟩
  unfold oJ at k
  by_cases h1:n1*d2<n2*d1
  ·rw [decide_eq_true h1]
   rw [if_pos h1] at k
   exact ay ⟨(),k⟩
  ·rw [decide_eq_false h1]
   rw [if_neg h1] at k
   refine aJ ⟨(),(),_,(),rfl,(),?_⟩
   by_cases h2:n2*d1<n1*d2
   ·rw [decide_eq_true h2]
    rw [if_pos h2] at k
    exact ay k
   ·rw [decide_eq_false h2]
    rw [if_neg h2] at k
    exact aJ k
end
end K21
namespace K21
open PySem L2
section
variable {P:Program}{w:World}{K:PySem.W.Frag}{mg:Str→Option Value}{base:Heap}
theorem Cl {n d:Int} (hd:d≠0) (h:d.natAbs.log2<9000):Dy n ((Int.gcd n d:Nat):Int):=by
 have g0:=KM.gcd_pos (n:=n) hd
 refine ⟨by trivial,?_⟩
 have h1:Int.gcd n d≤d.natAbs:=Nat.le_of_dvd (by trivial) (by
  have:((Int.gcd n d:Nat):Int) ∣ d:=Int.gcd_dvd_right ..
  exact Int.ofNat_dvd_left.mp this)
 have h2:d.natAbs<2 ^ 9000:=(Nat.log2_lt (by trivial)).mp h
 rw [Int.natAbs_natCast]
 exact (Nat.log2_lt (by trivial)).mpr (Nat.lt_of_le_of_lt h1 h2)
inductive Hn (vs:List V) (H:Hp) (Q:VK):Prop
 | mk (n d:Int) (h0:vs=[.int n,.int d]) (h1:0<d) (h2:Sz 9000 d) (h3:∀p H',Nw H p (fr (KM.low n d)) H'→Q (.ref p) H')
def JF:Sp:=fun vs H Q _=>Hn  vs H Q
theorem pF (T:Txt K mg):aZ P w K mg base CX0 1 T.l_frac_.f T.l_frac_.d ["_law_n", "_law_d"] JF:=by
 refine T.l_frac_.F.ok qE (fun vs H Q E h=>?_) (fun cdv A outer s H vs Q E hr h=>?_)
 ·obtain ⟨n,d,rfl,_⟩:=h
  rfl
 ·obtain ⟨n,d,rfl,hd,hs,k⟩:=h
  have hl:=hs.log (Int.ne_of_gt hd)
  refine ⟨_,#[#[vd 2 (2) (3) _ _ _ _ _ _ _ _ _ _ _ rfl qE.nd rfl rfl (by decide) d8 fY #[[#[(),(),(@qo _),uV,T.b_abs,(@ma),#[[#[0,vz]]]],#[(),(),(@qo _),uV,T.b_abs,(@ma),#[[#[1,pQ]]]]]] (by kernel_rfl) (by rfl)] :: #[#[tz 6 PassesOwn.never #[aK 8 (@qW _) #[3,fY] #[()] #[(),()]] #[ae 3 #[vd 2 (2) (3) _ _ _ _ _ _ _ _ _ _ _ rfl qE.nd rfl rfl (by decide) d8 fY #[[#[3,fY],#[aC 8 (@oA _) #[2,d8] #[3,fY]]]] (by kernel_rfl) (by rfl)]]] :: #[#[2,qE.nd,d8,#[aC 8 (@kL _) #[2,d8] #[qu 8 #[aK 8 (@qW _) #[1,pQ] #[()] #[(),()]] #[()] #[xJ 6 (@vU _) #[()]]]]] :: #[ae 3 #[av 4 #[ag 5 #[[#[aC 8 (@A8 _) #[0,vz] #[2,d8]],#[aC 8 (@A8 _) #[1,pQ] #[2,d8]]]]]]]]]],?_⟩
  refine ⟨(),(),(),(),_,(),?_⟩
  refine ⟨fun m σ H'=>∃a b:Int,σ=[some (.int n),some (.int d),some (.int a),some (.int b)]∧H'=H∧0≤a∧0≤b∧Int.gcd a b=Int.gcd n d∧m=b.natAbs,⟨_,_,(),rfl,AX n,AX d,KM.gcd_abs n d,rfl⟩,?_⟩
  rintro m σ H' ⟨a,b,rfl,rfl,ha,hb,hg,rfl⟩
  refine ⟨(),_,(),rfl,(),?_⟩
  by_cases hb0:0<b
  ·rw [decide_eq_true hb0]
   refine ay ⟨fun σ' H''=>∃a' b':Int,σ'=[some (.int n),some (.int d),some (.int a'),some (.int b')]∧H''=H'∧0≤a'∧0≤b'∧Int.gcd a' b'=Int.gcd n d∧b'.natAbs<b.natAbs,?_,?_⟩
   ·rintro σ' H'' ⟨a',b',rfl,rfl,h0,h1,h2,h3⟩
    exact ⟨_,h3,a',b',rfl,rfl,h0,h1,h2,rfl⟩
   ·refine ⟨(),(),(),_,(),rfl,hb0,_,(),?_⟩
    have q0:=Int.emod_nonneg a (Int.ne_of_gt hb0)
    have q1:=Int.emod_lt_of_pos a hb0
    exact ⟨b,a % b,rfl,rfl,hb,q0,(KM.gcd_emod a b).trans hg,by trivial⟩
  ·have hb1:b=0:=by trivial
   subst hb1
   rw [decide_eq_false hb0]
   refine aJ ?_
   have eg:a=((Int.gcd n d:Nat):Int):=by
    rw [←hg,KM.gcd_zero_abs,if_neg (by trivial)]
   have c1:=Cl (n:=n) (Int.ne_of_gt hd) hl
   have c2:=Cl (n:=d) (d:=d) (Int.ne_of_gt hd) hl
   rw [←eg] at c1
   refine ⟨(),(),_,(),rfl,(),?_⟩
   rw [decide_eq_true hd]
   refine ay ⟨_,(),rfl,.inr ⟨by decide,by decide⟩,?_⟩
   show tI 2 (V.int (a*1)) _ _ _
   rw [Int.mul_one]
   refine ⟨(),(),_,(),rfl,c1,(),(),_,(),rfl,⟨c1.1,c1.2⟩,(by show 2≤10000;decide),fun p H2 n2=>k p H2 ?_⟩
   unfold KM.low
   rw [if_pos hd,←eg]
   exact n2
end
end K21
namespace K21
open PySem L2
def uw (d1 d2 k:Nat):List Nat:=if k<8 then nm d1 k else List.replicate (k - 7) d2++[d1]
theorem DT {d1 d2:Nat} (hd:d1≠d2) {n:Nat} (hn:n≤10):((List.range n).map (uw d1 d2)).Nodup:=by
 have all:∀a b:Nat,a<10→b<10→uw d1 d2 a=uw d1 d2 b→a=b:=fun a b ha hb h=>by
  have hl:=congrArg List.length h
  have hh:=congrArg List.head? h
  unfold uw nm at hl hh
  have r:∀m x:Nat,0<m→(List.replicate m x).head?=some x:=fun m x hm=>by
   cases m with
   | zero=>trivial
   | succ m=>rfl
  have r2:∀(m x:Nat) (l:List Nat),0<m→(List.replicate m x++l).head?=some x:=fun m x l hm=>by
   cases m with
   | zero=>trivial
   | succ m=>rfl
  by_cases c1:a<8 <;> by_cases c2:b<8
  ·simp [c1,c2] at hl;exact hl
  ·rw [if_pos c1,if_neg c2,r _ _ (by trivial),r2 _ _ _ (by trivial)] at hh
   exact absurd (Option.some.inj hh) hd
  ·rw [if_neg c1,if_pos c2,r _ _ (by trivial),r2 _ _ _ (by trivial)] at hh
   exact absurd (Option.some.inj hh).symm hd
  ·simp [c1,c2] at hl;trivial
 rw [List.nodup_iff_pairwise_ne,List.pairwise_map]
 refine List.Pairwise.imp_of_mem (fun {a b} ha hb hab z=>?_) (List.nodup_iff_pairwise_ne.mp List.nodup_range)
 exact hab (all a b (by have:=List.mem_range.mp ha;trivial) (by have:=List.mem_range.mp hb;trivial) z)
theorem Il {d1 d2 k:Nat} (hk:k<10) (h1:97≤d1) (h2:d1≤122) (h3:97≤d2) (h4:d2≤122):CY (uw d1 d2 k):=by
 unfold uw
 by_cases c:k<8
 ·rw [if_pos c];exact Kk c h1 h2
 ·rw [if_neg c]
  refine ⟨by simp,by simp;trivial,fun x hx=>?_⟩
  rcases List.mem_append.mp hx with q | q
  ·rw [(List.mem_replicate.mp q).2];exact ⟨h3,h4⟩
  ·rw [List.mem_singleton.mp q];exact ⟨h1,h2⟩
section
variable {P:Program}{w:World}{K:PySem.W.Frag}{mg:Str→Option Value}{base:Heap}
inductive EU (vs:List V) (H:Hp) (Q:VK):Prop
 | mk (b:Addr) (many t:Int) (h0:vs=[.ref b,.int many]) (h1:Bx H b t) (h2:0≤t) (h3:t≤900000) (h4:1≤many) (h5:many≤10) (h6:∀q ls t' H',bV (Eb b) H H'→H' q=some (.tup ((ls:List (List Nat)).map aG))→ls.length=many.toNat→ls.Nodup→(∀l∈ls,CY l)→Bx H' b t'→t≤t'→t'≤t+12→Q (.ref q) H')
def Gm:Sp:=fun vs H Q _=>EU  vs H Q
theorem rV (T:Txt K mg):aZ P w K mg base CX0 2 T.l_names_by_.f T.l_names_by_.d ["_law_box_here", "_law_many"] Gm:=by
 have G_l_take:=#[(wa)]
 refine T.l_names_by_.F.ok fz (fun vs H Q E h=>?_) (fun cdv A outer s H vs Q E hr h=>?_)
 ·obtain ⟨b,many,t,rfl,_⟩:=h
  rfl
 ·obtain ⟨b,many,t,rfl,B,ht0,ht1,hm1,hm2,k⟩:=h
  refine ⟨_,#[#[dZ 6 #[ag 5 #[[#[da 4],#[G_l_take,jz,T.l_take_,#[[#[0,(gj)],#[()]]]],#[G_l_take,jz,T.l_take_,#[[#[0,(gj)],#[()]]]]]]] (@b4 _ (K) _ _ _ _ (3) rfl #[au 5 #[dj 2 (2) _ fz.nd rfl (Or.inr rL) (by first | exact .inl rfl | exact .inr rfl | assumption)] #[au 5 #[dj 2 (3) _ fz.nd rfl (Or.inr lT) (by first | exact .inl rfl | exact .inr rfl | assumption)] #[au 5 #[4,fz.nd,mJ] (@b3 _) (by rfl)] (by rfl)] (by rfl)] (by rfl) (by rfl) (by rfl)) (by rfl) (by rfl) (by rfl)] :: #[#[jh 2 (5) _ _ _ _ fz.nd rfl (Or.inr sj) (@fN _ (K) _ _ _ _ _ _ _ _ _ _ _ PySem.F.plainAttrs_str PySem.F.slot_str_join PySem.F.type_str_join (@G9 _ (K) (by rfl)) #[da 4] #[[#[b5 7 (["_law_k", "_law_box_here", "_law_letters"]) (1) ([0,2]) _ _ _ _ rfl (by kernel_rfl) #[gG 6 jL T.b_range #[[#[4,mJ]]] (by rfl)] (fun _ _ _ _ _ _=>#[0,(),()]) (fun _ _ _ _ _ _=>@bE _) (fun _ _ _ _ _ _=>#[b8 7 (@A2 _) #[2,0] #[G_l_take,(),T.l_take_,#[[#[1,0],#[()]]]] (fun _ _=>rfl)]) (by intro _;rfl)]]] (by rfl) (by rfl) (by rfl) (by rfl) (by rfl) (by rfl)) (by rfl) (by first | exact .inl rfl | exact .inr rfl | assumption)] :: #[#[bA 8 #[aK 8 (@ij _) #[G_l_take,jz,T.l_take_,#[[#[0,(gj)],#[()]]]] #[()] #[(),()]] #[#[dZ 6 #[#[aV 4 #[[#[ag 5 #[[#[da 4],#[da 4]]]],#[ag 5 #[[#[da 4],#[da 4]]]]]]][#[fe 9 (@zH _) xn T.b_int (@rF) #[[#[cn 8 (@ij _) #[3,(lT)] #[()] #[(),()]]]] (by decide) (by decide) (by rfl) (by rfl)]]!] (@b4 _ (K) _ _ _ _ (2) rfl #[au 5 #[dj 2 (6) _ fz.nd rfl (Or.inr uO) (by first | exact .inl rfl | exact .inr rfl | assumption)] #[au 5 #[dj 2 (7) _ fz.nd rfl (Or.inr ui) (by first | exact .inl rfl | exact .inr rfl | assumption)] (@b3 _) (by rfl)] (by rfl)] (by rfl) (by rfl) (by rfl)) (by rfl) (by rfl) (by rfl)] :: #[ae 3 #[av 4 #[fe 9 (@fM _ (K) (by rfl)) oC T.b_tuple (@cJ) #[[#[b5 7 (["_law_k", "_law_other", "_law_sign"]) (1) ([7,6]) _ _ _ _ rfl (by kernel_rfl) #[gG 6 jL T.b_range #[[#[1,mM]]] (by rfl)] (fun _ _ _ _ _ _=>#[0,(),()]) (fun _ _ _ _ _ _=>@bE _) (fun _ _ _ _ _ _=>#[qu 8 #[aK 8 (@re _) #[0,()] #[()] #[(),()]] #[aC 8 (@Ca _) #[2,0] #[aC 8 (@iE _) #[0,()] #[()]]] #[aC 8 (@Cp _) #[aC 8 (@Ca _) #[1,0] #[aC 8 (@xY _) #[0,()] #[()]]] #[2,0]]]) (by intro _;rfl)]]] (by decide) (by decide) (by rfl) (by rfl)]]]] (@aQ _)] :: #[ae 3 #[av 4 #[fe 9 (@fM _ (K) (by rfl)) oC T.b_tuple (@cJ) #[[#[b5 7 (["_law_k", "_law_behind", "_law_first", "_law_letters"]) (1) ([5,3,2]) _ _ _ _ rfl (by kernel_rfl) #[gG 6 jL T.b_range #[[#[1,mM]]] (by rfl)] (fun _ _ _ _ _ _=>#[0,(),()]) (fun _ _ _ _ _ _=>@bE _) (fun _ _ _ _ _ _=>#[aC 8 (@Cp _) #[b8 7 (@A2 _) #[3,0] #[aC 8 (@oA _) #[aC 8 (@iE _) #[2,0] #[aC 8 (@kL _) #[()] #[0,()]]] #[()]] (fun _ _=>rfl)] #[1,0]]) (by intro _;rfl)]]] (by decide) (by decide) (by rfl) (by rfl)]]]]]],?_⟩
  have hz:(Str.ofString "abcdefghijklmnopqrstuvwxyz").length≤sizeLine:=by nofun
  refine ⟨(),b,26,t,rfl,B,by decide,by decide,ht0,by trivial,fun f t1 H1 f0 f1 h1a h1b s1 B1=>⟨(),b,8,t1,rfl,B1,by decide,by decide,by trivial,by trivial,fun r t2 H2 r0 r1 h2a h2b s2 B2=>⟨(by show 3≤10000;decide),fun q H3 n3=>⟨q,(),ar.of n3.at',rfl,_,(),_,(),_,(),rfl,?_⟩⟩⟩⟩
  have B3:=B2.same n3.sm
  have s03:=(s1.trans s2).trans n3.sm.toE
  refine ⟨rfl,(),(),by trivial,by trivial,fun D2 hD2=>lF (n:=r.toNat) (fun i H' ys=>bI fun (cs:List Nat) (t':Int)=>ys=cs.map (fun c=>aG [c])∧H' D2=some (.lst ys)∧cs.length=i∧(∀c∈cs,97≤c∧c≤122)∧Bx H' b t'∧t2≤t'∧t'≤t2+i∧bV (Eb b) H3 H') ?_ ?_ ?_ ?_ ?_ ?_ ?_⟩
  ·rw [sizeLine_eq];trivial
  ·exact ⟨[],t2,rfl,aA,rfl,fun c h=>(by cases h),B3.same (aa.new hD2),by trivial,by trivial,(aa.new hD2).toE⟩
  ·rintro i' H'' ys ⟨cs,t7,rfl,e,rfl,_⟩
   exact ⟨e,by simp⟩
  ·intro i' H'' ys hi' _
   exact hi'
  ·intro H'' ys _
   exact Nat.le_refl _
  ·have nD2:¬D2=b:=fun z=>B3.ne hD2 z.symm
   rintro i' Ha ys x Hb hi' ⟨cs,t7,rfl,g1,g2,g3,g4,g5,g6,g7⟩ ⟨rfl,rfl⟩
   refine ⟨eH,(),(),b,26,t7,rfl,g4,by decide,by decide,by trivial,by trivial,fun r8 t8 Hc r80 r81 _ _ jc Cc=>⟨_,_,(),rfl,hz,zj (by trivial) (by trivial),?_⟩⟩
   have eD:=jc.old D2 _ nD2 g1
   refine ⟨eD,cs++[97+(r8 % 26).toNat],t8,by rw [List.map_append];rfl,aA,by rw [List.length_append,g2];rfl,fun c hc=>?_,?_,by trivial,by trivial,(g7.trans jc).up hD2⟩
   ·rcases List.mem_append.mp hc with h | h
    ·exact g3 c h
    ·rw [List.mem_singleton.mp h];trivial
   ·have c':Ch Hc D2 (cs.map (fun c=>aG [c])++[aG [97+(r8 % 26).toNat]]) _:=Ch.mk'
    exact Cc.ch c' (Ne.symm nD2)
  rintro J4 ys ⟨cs,t7,rfl,g1,g2,g3,C4,g5,g6,j4⟩
  refine ⟨D2,cs.map (fun c=>[c]),?_,rfl,ak.of (by rw [g1,List.map_map];rfl),?_,?_⟩
  ·rw [show (Str.ofString "")=S [] from FR]
  ·rw [List.map_map]
   have:(cs.map ((fun l:List Nat=>l.length) ∘ fun c=>[c])).sum=cs.length:=by
    clear g1 g2 g3 j4
    induction cs with
    | nil=>rfl
    | cons c r ih=>simp at ih ⊢;trivial
   rw [this];trivial
  have fl:(cs.map (fun c=>[c])).flatten=cs:=by
   clear g1 g2 g3 j4
   induction cs with
   | nil=>rfl
   | cons c r ih=>rw [List.map_cons,List.flatten_cons,ih];rfl
  rw [fl]
  have s04:=s03.trans j4
  refine ⟨(),b,4,t7,rfl,C4,by decide,by decide,by trivial,by trivial,fun r9 t9 H9 r90 r91 _ _ s9 B9=>⟨rfl,(),?_⟩⟩
  have s09:=s04.trans s9
  refine mS (fun c1=>?_) (fun c1=>?_)
  ·-- rows of one letter
   refine ⟨(by show 2≤10000;decide),fun u1 J1 e1=>⟨(by show 2≤10000;decide),fun u2 J2 e2=>⟨(by show 2≤10000;decide),fun u3 J3 e3=>⟨(),rfl,.inr ⟨(),?_⟩⟩⟩⟩⟩
   have ea:Str.ofString "a" = S [97]:=by nofun
   have ez:Str.ofString "z" = S [122]:=by nofun
   generalize decide (V.int f=V.int 25)=cc
   obtain ⟨u,d1,d2,eu,hu,hd⟩:kJ fun u d1 d2=>lL [V.ref u1,V.ref u2] (if cc=true then 1 else 0)=some (.ref u)∧J3 u=some (.tup [aG [d1],aG [d2]])∧97≤d1∧d1≤122∧d1≠d2∧97≤d2∧d2≤122:=by
    cases cc with
    | true=>exact ⟨u2,122,97,rfl,by rw [e3.sm _ _ e2.at',ea,ez],by decide,by decide,by decide,by decide,by decide⟩
    | false=>exact ⟨u1,97,122,rfl,by rw [e3.sm _ _ (e2.sm _ _ e1.at'),ea,ez],by decide,by decide,by decide,by decide,by decide⟩
   refine ⟨u3,_,_,(),rfl,ak.of e3.at',eu,u,(),ar.of hu,rfl,_,(),_,(),rfl,?_⟩
   have sJ:=((e1.sm.trans e2.sm).trans e3.sm)
   have BJ:=B9.same sJ
   refine ⟨(),(),by trivial,by trivial,fun D hD=>lF (n:=many.toNat) (fun i H' ys=>ys=(List.range i).map (fun k=>aG (uw d1 d2 k))∧H' D=some (.lst ys)∧aa J3 H') ?_ ⟨rfl,aA,c7 hD (aa.refl _)⟩ ?_ ?_ ?_ ?_ ?_⟩
   ·rw [sizeLine_eq];trivial
   ·rintro i H' ys ⟨rfl,e,_⟩
    exact ⟨e,by simp⟩
   ·intro i H' ys hi _
    exact hi
   ·intro H' ys _
    exact Nat.le_refl _
   ·rintro i H' ys x H'' hi ⟨g1,g2,g3⟩ ⟨rfl,rfl⟩
    refine ⟨eH,(),_,(),rfl,(),mS (fun z=>?_) (fun z=>?_)⟩
    ·have hi8 : i < 8 := by have:(0:Int)+(i:Int)<8:=of_decide_eq_true z
                            trivial
     refine ⟨(),(),_,(),rfl,[d1],(),rfl,by trivial,by trivial,(by show 1≤100;decide),?_⟩
     have en:(List.replicate (0+(i:Int)+1).toNat [d1]).flatten=uw d1 d2 i:=by
      rw [FB]
      unfold uw nm
      rw [if_pos hi8]
      congr 1
      trivial
     rw [en]
     refine ⟨g2,?_,aA,c7 hD g3⟩
     rw [g1,List.range_succ,List.map_append];rfl
    ·have hi8:¬i<8:=fun q=>z (decide_eq_true (show (0:Int)+(i:Int)<8 by trivial))
     refine ⟨(),(),_,(),rfl,[d2],(),rfl,by trivial,by trivial,(by show 1≤100;decide),(),_,(),rfl,?_,?_⟩
     ·rw [FB,List.length_replicate];simp;trivial
     have en:(List.replicate (0+(i:Int) - 7).toNat [d2]).flatten++[d1]=uw d1 d2 i:=by
      rw [FB]
      unfold uw
      rw [if_neg hi8]
      congr 2
      trivial
     rw [en]
     refine ⟨g2,?_,aA,c7 hD g3⟩
     rw [g1,List.range_succ,List.map_append];rfl
   rintro H4 ys1 ⟨ey1,eD1,s4⟩
   subst ey1
   refine ⟨D,(),ak.of eD1,fun q5 H5 n5=>k q5 ((List.range many.toNat).map (uw d1 d2)) t9 H5 (((s09.trans sJ.toE).trans s4.toE).trans n5.sm.toE) ?_ (by simp) (DT hd.2.2.1 (by trivial)) ?_ ((BJ.same s4).same n5.sm) (by trivial) (by trivial)⟩
   ·rw [n5.at',List.map_map];rfl
   ·intro l hl
    obtain ⟨j,hj,rfl⟩:=List.mem_map.mp hl
    exact Il (by have:=List.mem_range.mp hj;trivial) hd.1 hd.2.1 hd.2.2.2.1 hd.2.2.2.2
  ·-- letters of eleven steps
   refine ⟨(),(),by trivial,by trivial,fun D hD=>lF (n:=many.toNat) (fun i H' ys=>ys=(List.range i).map (fun (k:Nat)=>aG ((97+((f+11*(k:Int)) % 26).toNat) :: cs))∧H' D=some (.lst ys)∧aa H9 H') ?_ ⟨rfl,aA,c7 hD (aa.refl _)⟩ ?_ ?_ ?_ ?_ ?_⟩
   ·rw [sizeLine_eq];trivial
   ·rintro i H' ys ⟨rfl,e,_⟩
    exact ⟨e,by simp⟩
   ·intro i H' ys hi _
    exact hi
   ·intro H' ys _
    exact Nat.le_refl _
   ·rintro i H' ys x H'' hi ⟨g1',g2',g3'⟩ ⟨rfl,rfl⟩
    refine ⟨eH,(),(),(),_,(),rfl,.inl ⟨by decide,by decide⟩,_,(),rfl,_,(),rfl,(by show (0:Int)<26;decide),_,_,(),rfl,hz,zj (by trivial) (by trivial),(),[97+(((f+11*(0+(i:Int))) % 26) % 26).toNat],cs,rfl,rfl,?_,?_⟩
    ·simp;trivial
    refine ⟨g2',?_,aA,c7 hD g3'⟩
    rw [g1',List.range_succ,List.map_append]
    congr 1
    show [aG ([97+(((f+11*(0+(i:Int))) % 26) % 26).toNat]++cs)]=[aG ((97+((f+11*(i:Int)) % 26).toNat) :: cs)]
    have:(((f+11*(0+(i:Int))) % 26) % 26).toNat=((f+11*(i:Int)) % 26).toNat:=by trivial
    rw [this];rfl
   rintro H4 ys1 ⟨ey1,eD1,s4⟩
   subst ey1
   refine ⟨D,(),ak.of eD1,fun q5 H5 n5=>k q5 ((List.range many.toNat).map (fun (k:Nat)=>(97+((f+11*(k:Int)) % 26).toNat) :: cs)) t9 H5 ((s09.trans s4.toE).trans n5.sm.toE) ?_ (by simp) (BH (f:=f) (by simp;trivial) ?_) ?_ ((B9.same s4).same n5.sm) (by trivial) (by trivial)⟩
   ·rw [n5.at',List.map_map];rfl
   ·intro j l hl
    rw [List.getElem?_map] at hl
    obtain ⟨j',hj',rfl⟩:=Option.map_eq_some_iff.mp hl
    obtain ⟨hlt,ej⟩:=List.getElem?_eq_some_iff.mp hj'
    rw [List.getElem_range] at ej
    subst ej
    rfl
   ·intro l hl
    obtain ⟨j,hj,rfl⟩:=List.mem_map.mp hl
    refine ⟨by simp,by simp;trivial,fun c hc=>?_⟩
    rcases List.mem_cons.mp hc with h | h
    ·rw [h];trivial
    ·exact g3 c h
end
end K21
namespace K21
open PySem L2
section
variable {P:Program}{w:World}{K:PySem.W.Frag}{mg:Str→Option Value}{base:Heap}
inductive Km (g:KM.Fra→KM.Fra→KM.Fra) (z:Bool) (vs:List V) (H:Hp) (Q:VK):Prop
 | mk (a b:Addr) (p q:KM.Fra) (c1 d1 c2 d2:Nat) (h0:vs=[.ref a,.ref b]) (h1:H a=some (fr p)) (h2:H b=some (fr q)) (h3:Gb c1 d1 p) (h4:Gb c2 d2 q) (h5:c1≤4000) (h6:d1≤4000) (h7:c2≤4000) (h8:d2≤4000) (h9:(z=true→1≤q.1)) (h10:∀o H',Nw H o (fr (g p q)) H'→Q (.ref o) H')
def Fz (g:KM.Fra→KM.Fra→KM.Fra) (z:Bool):Sp:=fun vs H Q _=>Km g z vs H Q
theorem Dt (T:Txt K mg):aZ P w K mg base CX0 2 T.l_minus_.f T.l_minus_.d ["_law_one", "_law_other"] (Fz aX false):=by
 have G_l_frac:=#[(pF)]
 refine T.l_minus_.F.ok DF (fun vs H Q E h=>?_) (fun cdv A outer s H vs Q E hr h=>?_)
 ·obtain ⟨a,b,p,q,c1,d1,c2,d2,rfl,_⟩:=h
  rfl
 ·obtain ⟨a,b,p,q,c1,d1,c2,d2,rfl,ha,hb,fp,fq,h1,h2,h3,h4,_,k⟩:=h
  obtain ⟨z1,z2,z3,z4⟩:Sz 4000 p.1∧Sz 4000 p.2∧Sz 4000 q.1∧Sz 4000 q.2:=⟨fp.n.mono h1,fp.d.mono h2,fq.n.mono h3,fq.d.mono h4⟩
  refine ⟨_,#[ae 3 #[av 4 #[G_l_frac,xi,T.l_frac_,#[[#[aC 8 (@xY _) #[aC 8 (@cy _) #[#[0,mF][#[()]]] #[#[1,kw][#[()]]]] #[aC 8 (@cy _) #[#[1,kw][#[()]]] #[#[0,mF][#[()]]]]],#[aC 8 (@cy _) #[#[0,mF][#[()]]] #[#[1,kw][#[()]]]]]]]]],?_⟩
  exact ⟨(),a,_,_,(),rfl,ar.of ha,rfl,(),b,_,_,(),rfl,ar.of hb,rfl,_,(),rfl,gW z1 z4,(),b,_,_,(),rfl,ar.of hb,rfl,(),a,_,_,(),rfl,ar.of ha,rfl,_,(),rfl,gW z3 z2,_,(),rfl,
   _,rfl,a,_,_,_,rfl,rfl,ar.of ha,rfl,_,rfl,b,_,_,_,rfl,rfl,ar.of hb,rfl,_,_,rfl,rfl,gW z2 z4,_,_,rfl,Int.mul_pos (by have:=fp.pos;trivial) (by have:=fq.pos;trivial),tK z2 z4,fun o H' n=>k o H' n⟩
theorem vw (T:Txt K mg):aZ P w K mg base CX0 2 T.l_product_.f T.l_product_.d ["_law_one", "_law_other"] (Fz KM.lTim false):=by
 have G_l_frac:=#[(pF)]
 refine T.l_product_.F.ok AH (fun vs H Q E h=>?_) (fun cdv A outer s H vs Q E hr h=>?_)
 ·obtain ⟨a,b,p,q,c1,d1,c2,d2,rfl,_⟩:=h
  rfl
 ·obtain ⟨a,b,p,q,c1,d1,c2,d2,rfl,ha,hb,fp,fq,h1,h2,h3,h4,_,k⟩:=h
  obtain ⟨z1,z2,z3,z4⟩:Sz 4000 p.1∧Sz 4000 p.2∧Sz 4000 q.1∧Sz 4000 q.2:=⟨fp.n.mono h1,fp.d.mono h2,fq.n.mono h3,fq.d.mono h4⟩
  refine ⟨_,#[ae 3 #[av 4 #[G_l_frac,vk,T.l_frac_,#[[#[aC 8 (@cy _) #[#[0,oS][#[()]]] #[#[1,mI][#[()]]]],#[aC 8 (@cy _) #[#[0,oS][#[()]]] #[#[1,mI][#[()]]]]]]]]],?_⟩
  exact ⟨(),a,_,_,(),rfl,ar.of ha,rfl,(),b,_,_,(),rfl,ar.of hb,rfl,_,(),rfl,gW z1 z3,
   _,rfl,a,_,_,_,rfl,rfl,ar.of ha,rfl,_,rfl,b,_,_,_,rfl,rfl,ar.of hb,rfl,_,_,rfl,rfl,gW z2 z4,_,_,rfl,Int.mul_pos (by have:=fp.pos;trivial) (by have:=fq.pos;trivial),tK z2 z4,fun o H' n=>k o H' n⟩
theorem zY (T:Txt K mg):aZ P w K mg base CX0 2 T.l_over_.f T.l_over_.d ["_law_one", "_law_other"] (Fz aH true):=by
 have G_l_frac:=#[(pF)]
 refine T.l_over_.F.ok El (fun vs H Q E h=>?_) (fun cdv A outer s H vs Q E hr h=>?_)
 ·obtain ⟨a,b,p,q,c1,d1,c2,d2,rfl,_⟩:=h
  rfl
 ·obtain ⟨a,b,p,q,c1,d1,c2,d2,rfl,ha,hb,fp,fq,h1,h2,h3,h4,hz,k⟩:=h
  have hq:=hz rfl
  obtain ⟨z1,z2,z3,z4⟩:Sz 4000 p.1∧Sz 4000 p.2∧Sz 4000 q.1∧Sz 4000 q.2:=⟨fp.n.mono h1,fp.d.mono h2,fq.n.mono h3,fq.d.mono h4⟩
  refine ⟨_,#[ae 3 #[av 4 #[G_l_frac,xV,T.l_frac_,#[[#[aC 8 (@cy _) #[#[0,sP][#[()]]] #[#[1,pX][#[()]]]],#[aC 8 (@cy _) #[#[0,sP][#[()]]] #[#[1,pX][#[()]]]]]]]]],?_⟩
  exact ⟨(),a,_,_,(),rfl,ar.of ha,rfl,(),b,_,_,(),rfl,ar.of hb,rfl,_,(),rfl,gW z1 z4,
   _,rfl,a,_,_,_,rfl,rfl,ar.of ha,rfl,_,rfl,b,_,_,_,rfl,rfl,ar.of hb,rfl,_,_,rfl,rfl,gW z2 z3,_,_,rfl,Int.mul_pos (by have:=fp.pos;trivial) (by trivial),tK z2 z3,fun o H' n=>k o H' n⟩
inductive FF (vs:List V) (H:Hp) (Q:VK):Prop
 | mk (a b:Addr) (p q:KM.Fra) (h0:vs=[.ref a,.ref b]) (h1:H a=some (fr p)) (h2:H b=some (fr q)) (h3:Sz 4000 p.1) (h4:Sz 4000 p.2) (h5:Sz 4000 q.1) (h6:Sz 4000 q.2) (h7:Q (.int (p.1*q.2 - q.1*p.2)) H)
def G8:Sp:=fun vs H Q _=>FF  vs H Q
theorem CQ (T:Txt K mg):aZ P w K mg base CX0 1 T.l_above_.f T.l_above_.d ["_law_one", "_law_other"] G8:=by
 refine T.l_above_.F.ok DH (fun vs H Q E h=>?_) (fun cdv A outer s H vs Q E hr h=>?_)
 ·obtain ⟨a,b,p,q,rfl,_⟩:=h
  rfl
 ·obtain ⟨a,b,p,q,rfl,ha,hb,z1,z2,z3,z4,k⟩:=h
  refine ⟨_,#[ae 3 #[av 4 #[aC 8 (@xY _) #[aC 8 (@cy _) #[#[0,rn][#[()]]] #[#[1,oZ][#[()]]]] #[aC 8 (@cy _) #[#[1,oZ][#[()]]] #[#[0,rn][#[()]]]]]]],?_⟩
  exact ⟨(),a,_,_,(),rfl,ar.of ha,rfl,(),b,_,_,(),rfl,ar.of hb,rfl,_,(),rfl,gW z1 z4,(),b,_,_,(),rfl,ar.of hb,rfl,(),a,_,_,(),rfl,ar.of ha,rfl,_,(),rfl,gW z3 z2,_,(),rfl,k⟩
end
end K21
namespace K21
open PySem L2
set_option maxHeartbeats 4000000
theorem zK {K:PySem.W.Frag}{a:Addr}{c:Bool}{xs:List V}{g:TG}{tb:TS}{D:gl}{σ:St}{H:Hp} (Pv:Nat→St→Hp→Prop) (h0:Pv 0 σ H) (hl:∀i σ H,i≤xs.length→Pv i σ H→o9 K H a xs c)
 (hs:∀i x T σ H,xs[i]?=some x→H T=none→Pv i σ H→g (.ref T) σ (aP H T (.tup [.int (i:Int),x])) fun σ2 H2=>tb { D with nx:=Pv (i+1),ct:=Pv (i+1),bk:=D.nx } σ2 H2) (hd:∀σ H,Pv xs.length σ H→D.nx σ H) :
 ∃W:Nat→Nat→St→Hp→Prop,(∃m,W 0 m σ H)∧∀i m σ H,W i m σ H→
  ((AY K a c).stop i H∧D.nx σ H)∨((AY K a c).go i H∧∃N:St→Hp→Prop,(∀σ' H',N σ' H'→∃m',m'<m∧W (i+1) m' σ' H')∧∀x H',(AY K a c).yld i H x H'→g x σ H' fun σ2 H2=>tb { D with nx:=N,ct:=N,bk:=D.nx } σ2 H2):=by
 refine ⟨fun i m σ H=>m=xs.length - i∧i≤xs.length∧Pv i σ H,⟨xs.length,by simp,Nat.zero_le _,h0⟩,?_⟩
 rintro i m σ H ⟨rfl,hi,p⟩
 have q1:=hl i σ H hi p
 by_cases hlt:i<xs.length
 ·refine .inr ⟨⟨xs,xs[i],q1,by simp [hlt]⟩,Pv (i+1),fun σ' H' p'=>⟨xs.length - (i+1),by trivial,rfl,hlt,p'⟩,fun x H' y=>?_⟩
  obtain ⟨T,u,hT,rfl,rfl,e1⟩:=y
  exact hs i u T σ H (e1 xs q1) hT p
 ·have e:i=xs.length:=by trivial
  subst e
  exact .inl ⟨⟨xs,q1,rfl⟩,hd _ _ p⟩
theorem gL {E:Addr→Prop}{H:Hp}{v:V}{ls:List (List Nat)}{ts:List ap} (h:aI E H v (iV ls ts)):xX fun a p q ys=>v=.ref a∧H a=some (.tup [.ref p,.ref q])∧H p=some (.tup (ls.map aG))∧H q=some (.tup ys)∧ah E H ys (ts.map jx):=by
 have sall:∀{ls:List (List Nat)}{xs:List V},ah E H xs (ls.map fun l=>PyData.str (S l))→xs=ls.map aG:=by
  intro ls
  induction ls with
  | nil=>intro xs h;cases h;rfl
  | cons l r ih=>
   intro xs h
   cases h with
   | cons h1 h2=>cases h1;rw [ih h2];rfl
 cases h with
 | @tup a xs _ h r=>
  cases r with
  | cons h1 r=>
  cases r with
  | cons h2 r=>
  cases r
  cases h1 with
  | @tup p ps _ hp rp=>
  cases h2 with
  | @tup q ys _ hq rq=>
   have e:=sall rp
   subst e
   exact ⟨a,p,q,ys,rfl,h,hp,hq,rq⟩
theorem gQ {E:Addr→Prop}{H:Hp}{v:V}{t:ap} (h:aI E H v (jx t)):xX fun a om og op=>v=.ref a∧H a=some (.tup [.str (S t.bg),.str (S t.en),.ref om,.ref og,.ref op])∧H om=some (fr t.most)∧H og=some (fr t.gain)∧H op=some (fr t.price):=by
 cases h with
 | @tup a xs _ h r=>
  cases r with
  | @cons u1 _ _ _ h1 r=>
  cases r with
  | @cons u2 _ _ _ h2 r=>
  cases r with
  | @cons u3 _ _ _ h3 r=>
  cases r with
  | @cons u4 _ _ _ h4 r=>
  cases r with
  | @cons u5 _ _ _ h5 r=>
  cases r
  cases h1
  cases h2
  obtain ⟨om,rfl,ho⟩:=cm h3
  obtain ⟨og,rfl,hg⟩:=cm h4
  obtain ⟨op,rfl,hp⟩:=cm h5
  exact ⟨a,om,og,op,rfl,h,ho,hg,hp⟩
theorem jn {a b:List Nat}:decide (V.str (S a)=V.str (S b))=decide (a=b):=by
 by_cases h:a=b
 ·subst h;simp
 ·rw [decide_eq_false h,decide_eq_false]
  intro z
  injection z with z
  exact h (qV z)
theorem m9 {H H':Hp}{D:Addr}{ys zs:List V}{ds:List PyData}{v:V}{d:PyData} (c:Ch H D zs H') (hD:H D=some (.lst ys)) (i:ah ED H ys ds) (iv:aI ED H v d):ah ED H' (ys++[v]) (ds++[d]):=
 (i.mono ⟨fun _ _ n _=>absurd trivial n,fun _ _ e=>c.tup e hD⟩).append (.cons (iv.tupC c hD) .nil)
theorem aa.ch {H H1 H2:Hp}{D:Addr}{xs:List V} (s:aa H H1) (c:Ch H1 D xs H2) (hD:H D=none):aa H H2:=fun b o h=>c.ol b o (fun z=>by rw [z,hD] at h;cases h) (s b o h)
theorem r6:Gb 1 1 (1,1):=⟨show (1:Int).natAbs<2 ^ 1 by decide,show (1:Int).natAbs<2 ^ 1 by decide,by decide⟩
structure SD where
 n:Nat
 bk:Bool
 st:List Nat
 en:List Nat
 room:KM.Fra
 gain:KM.Fra
abbrev sD (s:SD):PyData:=.tuple [.int s.n,.bool s.bk,.str (S s.st),.str (S s.en),aN s.room,aN s.gain]
def bx (i:Nat) (t:ap) (p:KM.Fra):List SD:=(if p.1*t.most.2<t.most.1*p.2 then [⟨i,false,t.bg,t.en,aX t.most p,t.gain⟩] else [])++(if 0<p.1 then [⟨i,true,t.en,t.bg,KM.lTim p t.gain,aH (1,1) t.gain⟩] else [])
def iH (ts:List ap) (ps:List KM.Fra) (j:Nat):List SD:=match ts[j]?,ps[j]? with
 | some t,some p=>bx j t p
 | _,_=>[]
def aj (ts:List ap) (ps:List KM.Fra) (n:Nat):List SD:=(List.range n).flatMap (iH ts ps)
theorem DK {ts:List ap}{ps:List KM.Fra}{n:Nat}{t:ap}{p:KM.Fra} (h1:ts[n]?=some t) (h2:ps[n]?=some p):iH ts ps n=bx n t p:=by
 unfold iH;rw [h1,h2]
theorem BN {ts:List ap}{ps:List KM.Fra}{n:Nat}{t:ap}{p:KM.Fra} (h1:ts[n]?=some t) (h2:ps[n]?=some p):aj ts ps (n+1)=aj ts ps n++bx n t p:=by
 unfold aj
 rw [List.range_succ,List.flatMap_append,List.flatMap_cons,List.flatMap_nil,List.append_nil,DK h1 h2]
theorem yq (i:Nat) (t:ap) (p:KM.Fra):(bx i t p).length≤2:=by
 unfold bx
 rw [List.length_append]
 split <;> split <;> simp
theorem BQ (ts:List ap) (ps:List KM.Fra) (j:Nat):(iH ts ps j).length≤2:=by
 unfold iH
 split
 ·exact yq _ _ _
 ·simp
theorem pC (ts:List ap) (ps:List KM.Fra):∀n,(aj ts ps n).length≤2*n
 | 0=>by simp [aj]
 | n+1=>by
  have h:=pC ts ps n
  have h2:=BQ ts ps n
  unfold aj at h ⊢
  rw [List.range_succ,List.flatMap_append,List.length_append,List.flatMap_cons,List.flatMap_nil,List.append_nil]
  trivial
structure kG (ls:List (List Nat)) (t:ap):Prop where
 b:t.bg∈ls
 e:t.en∈ls
 ne:t.bg≠t.en
 fm:Gb 20 3 t.most
 fg:Gb 6 6 t.gain
 g1:1≤t.gain.1
 fp:Gb 24 24 t.price
 m0:0≤t.most.1
 mc:Int.gcd t.most.1 t.most.2=1
section
variable {P:Program}{w:World}{K:PySem.W.Frag}{mg:Str→Option Value}{base:Heap}
theorem MB:Sz 4000 (0:Int):=Sz.mono (m:=1) (show (0:Int).natAbs<2 ^ 1 by decide) (by decide)
theorem AQ:Sz 4000 (1:Int):=Sz.mono (m:=1) (show (1:Int).natAbs<2 ^ 1 by decide) (by decide)
theorem gz {a b:Nat}{p:KM.Fra} (h:Gb a b p) (ha:a≤4000) (hb:b≤4000):Sz 4000 p.1∧Sz 4000 p.2:=⟨h.n.mono ha,h.d.mono hb⟩
theorem gd {a b c d:Nat}{p q:KM.Fra} (h:Gb a b p) (k:Gb c d q):p.2*q.2≠0:=Int.mul_ne_zero (by have:=h.pos;trivial) (by have:=k.pos;trivial)
inductive JD (vs:List V) (H:Hp) (Q:VK):Prop
 | mk (i:Nat) (v u:V) (t:ap) (p:KM.Fra) (a b:Nat) (ls:List (List Nat)) (h0:vs=[.int (i:Int),v,u]) (h1:aI ED H v (jx t)) (h2:aI ED H u (aN p)) (h3:kG ls t) (h4:Gb a b p) (h5:a≤3000) (h6:b≤3000) (h7:∀L xs H',aa H H'→H L=none→H' L=some (.lst xs)→ah ED H' xs ((bx i t p).map sD)→Q (.ref L) H')
def JW:Sp:=fun vs H Q _=>JD  vs H Q
theorem DV {i j:Int}:decide (oJ i j<0)=decide (i<j):=by
 unfold oJ
 by_cases h:i<j
 ·rw [if_pos h,decide_eq_true h];rfl
 ·rw [if_neg h,decide_eq_false h]
  by_cases h2:j<i
  ·rw [if_pos h2];rfl
  ·rw [if_neg h2];rfl
theorem AB {i j:Int}:decide (0<oJ i j)=decide (j<i):=by
 unfold oJ
 by_cases h:i<j
 ·rw [if_pos h,decide_eq_false (show ¬j<i by trivial)];rfl
 ·rw [if_neg h]
  by_cases h2:j<i
  ·rw [if_pos h2,decide_eq_true h2];rfl
  ·rw [if_neg h2,decide_eq_false h2];rfl
theorem BS (T:Txt K mg):aZ P w K mg base CX0 4 T.steps_of_.f T.steps_of_.d ["number", "tie", "much"] JW:=by
 have G_compared:=#[(kO)]
 have G_taken:=#[(tw)]
 have G_times:=#[(mU)]
 have G_over:=#[(CK)]
 refine T.steps_of_.F.ok gZ (fun vs H Q E h=>?_) (fun cdv A outer s H vs Q E hr h=>?_)
 ·obtain ⟨i,v,u,t,p,a,b,ls,rfl,_⟩:=h
  rfl
 ·obtain ⟨i,v,u,t,p,ba,bb,ls,rfl,hv,hu,tc,gp,hba,hbb,k⟩:=h
  obtain ⟨o,om,og,op,rfl,ho,hom,hog,hop⟩:=gQ hv
  obtain ⟨ou,rfl,hou⟩:=cm hu
  obtain ⟨m1,m2⟩:=gz tc.fm (by decide) (by decide)
  obtain ⟨g1,g2⟩:=gz tc.fg (by decide) (by decide)
  obtain ⟨p1,p2⟩:=gz gp (by trivial) (by trivial)
  refine ⟨_,#[#[dZ 6 #[1,y7] (@b4 _ (K) _ _ _ _ (5) rfl #[au 5 #[3,gZ.nd,k7] #[au 5 #[4,gZ.nd,mT] #[au 5 #[5,gZ.nd,mw] #[au 5 #[6,gZ.nd,jE] #[au 5 #[7,gZ.nd,wX] (@b3 _) (by rfl)] (by rfl)] (by rfl)] (by rfl)] (by rfl)] (by rfl) (by rfl) (by rfl)) (by rfl) (by rfl) (by rfl)] :: #[#[8,gZ.nd,je,#[aV 4 (@cj _)]] :: #[#[bA 8 #[aK 8 (@re _) #[G_compared,mQ,T.compared_,#[[#[2,jI],#[5,mw]]]] #[()] #[(),()]] #[ae 3 #[jo 4 (@fN _ (K) _ _ _ _ _ _ _ _ _ _ _ PySem.F.plainAttrs_list PySem.F.slot_list_append PySem.F.type_list_append (@fD _) #[8,je] #[[#[ag 5 #[[#[0,oW],#[br 4],#[3,k7],#[4,mT],#[G_taken,wP,T.taken_,#[[#[5,mw],#[2,jI]]]],#[6,jE]]]]]] (by rfl) (by rfl) (by rfl) (by rfl) (by rfl) (by rfl)) (by rfl)]] (@aQ _)] :: #[#[bA 8 #[aK 8 (@qW _) #[G_compared,mQ,T.compared_,#[[#[2,jI],#[ag 5 #[[#[()],#[()]]]]]]] #[()] #[(),()]] #[ae 3 #[jo 4 (@fN _ (K) _ _ _ _ _ _ _ _ _ _ _ PySem.F.plainAttrs_list PySem.F.slot_list_append PySem.F.type_list_append (@fD _) #[8,je] #[[#[ag 5 #[[#[0,oW],#[br 4],#[4,mT],#[3,k7],#[G_times,xj,T.times_,#[[#[2,jI],#[6,jE]]]],#[G_over,xR,T.over_,#[[#[ag 5 #[[#[()],#[()]]]],#[6,jE]]]]]]]]] (by rfl) (by rfl) (by rfl) (by rfl) (by rfl) (by rfl)) (by rfl)]] (@aQ _)] :: #[ae 3 #[av 4 #[8,je]]]]]]],?_⟩
  refine ⟨(),o,(),ar.of ho,rfl,_,(),_,(),_,(),_,(),_,(),rfl,?_⟩
  dsimp only
  refine cw fun Q1 nA=>⟨(by show 0≤10000;decide),fun L H1 n1=>nA _ _ ?_⟩
  have hou1:=n1.sm _ _ hou
  have hom1:=n1.sm _ _ hom
  have hog1:=n1.sm _ _ hog
  refine C8 (fun σ' H'=>∃xs,σ'=[some (.int (i:Int)),some (.ref o),some (.ref ou),some (.str (S t.bg)),some (.str (S t.en)),some (.ref om),some (.ref og),some (.ref op),some (.ref L)]∧aa H H'∧H' L=some (.lst xs)∧ah ED H' xs ((if p.1*t.most.2<t.most.1*p.2 then [(⟨i,false,t.bg,t.en,aX t.most p,t.gain⟩:SD)] else []).map sD)) ?_ fun nx=>?_
  ·rintro σ' H2 ⟨xs,rfl,s2,hL,iL⟩
   refine C8 (fun σ' H'=>∃xs,σ'=[some (.int (i:Int)),some (.ref o),some (.ref ou),some (.str (S t.bg)),some (.str (S t.en)),some (.ref om),some (.ref og),some (.ref op),some (.ref L)]∧aa H H'∧H' L=some (.lst xs)∧ah ED H' xs ((bx i t p).map sD)) ?_ fun nx=>?_
   ·rintro σ' H3 ⟨xs,rfl,s3,hL,iL⟩
    exact ⟨(),k L xs H3 s3 n1.fr hL iL⟩
   ·have lx:xs.length≤1:=by
     rw [iL.length,List.length_map];split <;> simp
    have hou2:=s2 _ _ hou
    refine ⟨(),(by show 2≤10000;decide),fun z H3 n3=>⟨ou,z,_,_,_,(),n3.sm _ _ hou2,n3.at',p1,p2,MB,AQ,_,(),rfl,(),?_⟩⟩
    have e0:decide (oJ (p.1*1) (0*p.2) > 0)=decide (0<p.1):=by
     show decide (0<oJ (p.1*1) (0*p.2))=_
     rw [AB,Int.mul_one,Int.zero_mul]
    have hL3:=n3.sm _ _ hL
    have iL3:=iL.mono n3.sm.toE
    have s3:=s2.trans n3.sm
    rw [e0]
    by_cases hp:0<p.1
    ·rw [decide_eq_true hp]
     refine ay (Gx fun Q2 nQ=>?_)
     refine ⟨(),.inl ⟨rfl,_,ak.of hL3⟩,(),(),(),(),(),ou,og,_,_,_,(),s3 _ _ hou,s3 _ _ hog,⟨p1,p2,g1,g2,gd gp tc.fg⟩,fun q1 H4 n4=>⟨(by show 2≤10000;decide),fun q2 H5 n5=>⟨(),q2,og,_,_,_,(),n5.at',n5.sm _ _ (n4.sm _ _ (s3 _ _ hog)),⟨AQ,AQ,g1,g2,(by show (1:Int)*t.gain.1≠0;have:=tc.g1;trivial)⟩,fun q3 H6 n6=>⟨(by show 6≤10000;decide),fun q4 H7 n7=>?_⟩⟩⟩⟩
     have s37:=((n4.sm.trans n5.sm).trans n6.sm).trans n7.sm
     have hL7:=s37 _ _ hL3
     refine ⟨L,_,(),rfl,hL7,by trivial,fun H8 c8=>nQ _ _ (nx _ _ ⟨(),aa.ch (s3.trans s37) c8 n1.fr,c8.at',?_⟩)⟩
     have es:bx i t p=(if p.1*t.most.2<t.most.1*p.2 then [(⟨i,false,t.bg,t.en,aX t.most p,t.gain⟩:SD)] else [])++[⟨i,true,t.en,t.bg,KM.lTim p t.gain,aH (1,1) t.gain⟩]:=by unfold bx;rw [if_pos hp]
     rw [es,List.map_append]
     refine m9 c8 hL7 (iL3.mono s37.toE) ?_
     exact .tup n7.at' (.cons (.int _) (.cons (.bl _) (.cons (.str _) (.cons (.str _) (.cons (cB (p:=KM.lTim p t.gain) (n7.sm _ _ (n6.sm _ _ (n5.sm _ _ n4.at')))) (.cons (cB (p:=aH (1,1) t.gain) (n7.sm _ _ n6.at')) .nil))))))
    ·rw [decide_eq_false hp]
     refine aJ (nx _ _ ⟨xs,rfl,s3,hL3,?_⟩)
     have es:bx i t p=(if p.1*t.most.2<t.most.1*p.2 then [(⟨i,false,t.bg,t.en,aX t.most p,t.gain⟩:SD)] else []):=by unfold bx;rw [if_neg hp,List.append_nil]
     rw [es]
     exact iL3
  ·refine ⟨(),(),ou,om,_,_,_,(),hou1,hom1,p1,p2,m1,m2,_,(),rfl,(),?_⟩
   rw [DV]
   by_cases hp:p.1*t.most.2<t.most.1*p.2
   ·rw [decide_eq_true hp]
    refine ay (Gx fun Q2 nQ=>?_)
    refine ⟨(),.inl ⟨rfl,_,ak.of n1.at'⟩,(),(),(),(),(),om,ou,_,_,_,(),hom1,hou1,⟨m1,m2,p1,p2,gd tc.fm gp⟩,fun q1 H4 n4=>⟨(),(by show 6≤10000;decide),fun q4 H7 n7=>?_⟩⟩
    have s17:=n4.sm.trans n7.sm
    have hL7:=s17 _ _ n1.at'
    refine ⟨L,_,(),rfl,hL7,by simp,fun H8 c8=>nQ _ _ (nx _ _ ⟨(),aa.ch (n1.sm.trans s17) c8 n1.fr,c8.at',?_⟩)⟩
    rw [if_pos hp]
    refine m9 (ds:=[]) c8 hL7 .nil ?_
    exact .tup n7.at' (.cons (.int _) (.cons (.bl _) (.cons (.str _) (.cons (.str _) (.cons (cB (p:=aX t.most p) (n7.sm _ _ n4.at')) (.cons (cB (p:=t.gain) (s17 _ _ hog1)) .nil))))))
   ·rw [decide_eq_false hp]
    refine aJ (nx _ _ ⟨[],rfl,n1.sm,n1.at',?_⟩)
    rw [if_neg hp]
    exact .nil
end
end K21
namespace K21
open PySem L2
set_option maxHeartbeats 4000000
section
variable {P:Program}{w:World}{K:PySem.W.Frag}{mg:Str→Option Value}{base:Heap}
inductive KQ (vs:List V) (H:Hp) (Q:VK):Prop
 | mk (v:V) (sa:Addr) (ls:List (List Nat)) (ts:List ap) (xs:List V) (ps:List KM.Fra) (a b:Nat) (h0:vs=[v,.ref sa]) (h1:aI ED H v (iV ls ts)) (h2:(∀t∈ts,kG ls t)) (h3:ts.length≤40) (h4:H sa=some (.lst xs)) (h5:ah ED H xs (ps.map aN)) (h6:ps.length=ts.length) (h7:(∀p∈ps,Gb a b p)) (h8:a≤3000) (h9:b≤3000) (h10:∀L zs H',aa H H'→H L=none→H' L=some (.lst zs)→ah ED H' zs ((aj ts ps ts.length).map sD)→Q (.ref L) H')
def LL:Sp:=fun vs H Q _=>KQ  vs H Q
theorem uv (T:Txt K mg):aZ P w K mg base CX0 5 T.left_steps_.f T.left_steps_.d ["net", "stream"] LL:=by
 have G_steps_of:=#[(BS)]
 refine T.left_steps_.F.ok kY (fun vs H Q E h=>?_) (fun cdv A outer s H vs Q E hr h=>?_)
 ·obtain ⟨v,sa,ls,ts,xs,ps,a,b,rfl,_⟩:=h
  rfl
 ·obtain ⟨v,sa,ls,ts,xs,ps,ba,bb,rfl,hv,tc,h40,hsa,ips,lps,gp,hba,hbb,k⟩:=h
  obtain ⟨na,pa,ta,ys,rfl,hna,hpa,hta,ity⟩:=gL hv
  have lys:ys.length=ts.length:=by rw [ity.length,List.length_map]
  refine ⟨_,#[#[2,kY.nd,jW,#[aV 4 (@cj _)]] :: #[#[jN 8 PassesOwn.never rfl (@um _ (K) _ _ _ _ _ _ _ rS T.b_enumerate #[[#[#[0,wQ][#[()]]]]] (by rfl) (by rfl)) (@b4 _ (K) _ _ _ _ (2) rfl #[au 5 #[3,kY.nd,jt] #[au 5 #[4,kY.nd,p6] (@b3 _) (by rfl)] (by rfl)] (by rfl) (by rfl) (by rfl)) #[ae 3 #[jo 4 (@fN _ (K) _ _ _ _ _ _ _ _ _ _ _ PySem.F.plainAttrs_list PySem.F.slot_list_extend PySem.F.type_list_extend (@Dp _) #[2,jW] #[[#[G_steps_of,sU,T.steps_of_,#[[#[3,jt],#[4,p6],#[#[1,uN][#[3,jt]]!]]]]]] (by rfl) (by rfl) (by rfl) (by rfl) (by rfl) (by rfl)) (by rfl)]] (by intro _;rfl)] :: #[ae 3 #[av 4 #[2,jW]]]]],?_⟩
  refine cw fun Q1 nA=>⟨(by show 0≤10000;decide),fun L H1 n1=>nA _ _ ?_⟩
  refine bv fun DB nB=>?_
  refine ⟨(),na,_,_,(),rfl,ar.of (n1.sm _ _ hna),rfl,ta,false,rfl,⟨ys,ar.of (n1.sm _ _ hta)⟩,zK (xs:=ys) (fun i σ H'=>kJ fun v3 v4 zs=>σ=[some (.ref na),some (.ref sa),some (.ref L),v3,v4]∧H' L=some (.lst zs)∧ah ED H' zs ((aj ts ps i).map sD)∧aa H H') ⟨_,_,[],rfl,n1.at',.nil,n1.sm⟩ ?_ ?_ ?_⟩
  ·rintro i σ H' _ ⟨v3,v4,zs,rfl,_,_,sm⟩
   exact ar.of (sm _ _ hta)
  ·rintro i x T' σ J0 hx hT ⟨v3,v4,zs,rfl,hL,iL,sm⟩
   have hi:i<ys.length:=(List.getElem?_eq_some_iff.mp hx).1
   have nT:Nw J0 T' (.tup [.int (i:Int),x]) (aP J0 T' (.tup [.int (i:Int),x])):=.mk' hT
   generalize aP J0 T' (.tup [.int (i:Int),x])=J1 at nT ⊢
   obtain ⟨dy,edy,gy⟩:=ity.get hx
   rw [List.getElem?_map] at edy
   obtain ⟨t,et,rfl⟩:=Option.map_eq_some_iff.mp edy
   have ep:ps[i]?=some ps[i]:=List.getElem?_eq_getElem (by trivial)
   have lx:xs.length=ps.length:=by rw [ips.length,List.length_map]
   have exs:xs[i]?=some xs[i]:=List.getElem?_eq_getElem (by trivial)
   obtain ⟨dp,edp,gx⟩:=ips.get exs
   rw [List.getElem?_map,ep] at edp
   obtain rfl:aN ps[i]=dp:=Option.some.inj edp
   have s1:=sm.trans nT.sm
   have llen:zs.length≤80:=by
    rw [iL.length,List.length_map]
    have:=pC ts ps i
    trivial
   refine ⟨T',(),ar.of nT.at',rfl,_,(),_,(),rfl,?_⟩
   refine ⟨(),.inl ⟨rfl,_,ak.of (nT.sm _ _ hL)⟩,(),(),(),(),sa,_,_,(),rfl,ak.of (s1 _ _ hsa),aW exs,i,x,xs[i],t,ps[i],ba,bb,ls,rfl,gy.sm s1,gx.sm s1,tc t (List.mem_of_getElem? et),gp _ (List.mem_of_getElem? ep),hba,hbb,fun L2 z2 J2 s2 f2 e2 i2=>?_⟩
   have hL2:=s2 _ _ (nT.sm _ _ hL)
   have l2:z2.length≤2:=by
    rw [i2.length,List.length_map];exact yq _ _ _
   refine ⟨L,L2,zs,z2,rfl,rfl,hL2,e2,by trivial,fun J3 c3=>⟨_,_,(),c3.at',?_,aa.ch (s1.trans s2) c3 n1.fr⟩⟩
   rw [BN et ep,List.map_append]
   have up:∀{zs:List V}{ds:List PyData},ah ED J2 zs ds→ah ED J3 zs ds:=fun h=>h.mono ⟨fun _ _ n _=>absurd trivial n,fun _ _ e=>c3.tup e hL2⟩
   exact (up ((iL.mono nT.sm.toE).mono s2.toE)).append (up i2)
  ·rintro σ H' ⟨v3,v4,zs,rfl,hL,iL,sm⟩
   rw [lys] at iL
   exact nB _ _ ⟨(),k L zs H' sm n1.fr hL iL⟩
end
end K21
namespace K21
open PySem L2
set_option maxHeartbeats 4000000
theorem ME {a b:List Nat}:vB (V.str (S a)) (V.str (S b))=(a==b):=by
 show (S a==S b)=(a==b)
 by_cases h:a=b
 ·subst h;simp
 ·rw [beq_eq_false_iff_ne.mpr h,beq_eq_false_iff_ne.mpr]
  exact fun z=>h (qV z)
theorem Jb (l:List Nat) (es:List (List Nat)):Bu (aG l) (es.map aG)=es.contains l:=by
 unfold Bu
 induction es with
 | nil=>rfl
 | cons e r ih=>
  rw [List.map_cons,List.any_cons,ih,List.contains_cons]
  have:vB (aG e) (aG l)=(l==e):=by rw [show vB (aG e) (aG l)=(e==l) from ME];exact Bool.beq_comm
  rw [this]
theorem Le (es:List (List Nat)):(es.map aG).all nK=true:=by
 rw [List.all_eq_true]
 intro v hv
 obtain ⟨l,_,rfl⟩:=List.mem_map.mp hv
 rfl
theorem jR {E:Addr→Prop}{H:Hp}{v:V}{s:SD} (h:aI E H v (sD s)):kJ fun o r g=>v=.ref o∧H o=some (.tup [.int s.n,.bl s.bk,.str (S s.st),.str (S s.en),.ref r,.ref g])∧H r=some (fr s.room)∧H g=some (fr s.gain):=by
 cases h with
 | @tup a xs _ h r'=>
  cases r' with
  | @cons u1 _ _ _ h1 r'=>
  cases r' with
  | @cons u2 _ _ _ h2 r'=>
  cases r' with
  | @cons u3 _ _ _ h3 r'=>
  cases r' with
  | @cons u4 _ _ _ h4 r'=>
  cases r' with
  | @cons u5 _ _ _ h5 r'=>
  cases r' with
  | @cons u6 _ _ _ h6 r'=>
  cases r'
  cases h1
  cases h2
  cases h3
  cases h4
  obtain ⟨r,rfl,hr⟩:=cm h5
  obtain ⟨g,rfl,hg⟩:=cm h6
  exact ⟨a,r,g,rfl,h,hr,hg⟩
theorem xt {α:Type} [DecidableEq α]:∀{xs ys:List α},xs.Nodup→(∀x∈xs,x∈ys)→xs.length≤ys.length
 | [],_,_,_=>Nat.zero_le _
 | x :: xs,ys,nd,h=>by
  rw [List.nodup_cons] at nd
  have hx:=h x (List.mem_cons_self ..)
  have:=xt (xs:=xs) (ys:=ys.erase x) nd.2 fun y hy=>(List.mem_erase_of_ne (fun (z:y=x)=>nd.1 (z▸hy))).mpr (h y (List.mem_cons_of_mem _ hy))
  rw [List.length_erase_of_mem hx] at this
  have:0<ys.length:=List.length_pos_of_mem hx
  simp
  trivial
section
variable {P:Program}{w:World}{K:PySem.W.Frag}{mg:Str→Option Value}{base:Heap}
end
end K21
namespace K21
open PySem L2
set_option maxHeartbeats 4000000
section
variable {P:Program}{w:World}{K:PySem.W.Frag}{mg:Str→Option Value}{base:Heap}
end
end K21
namespace K21
open PySem L2
set_option maxHeartbeats 4000000
theorem Hm {n j:Nat} (h:j<n):qI n (j:Int)=some j:=by
 unfold qI
 simp [h]
section
variable {P:Program}{w:World}{K:PySem.W.Frag}{mg:Str→Option Value}{base:Heap}
end
end K21
namespace K21
open PySem L2
set_option maxHeartbeats 4000000
theorem Cn {α:Type}{ls:List α} (nd:ls.Nodup) {i j:Nat}{x:α} (h1:ls[i]?=some x) (h2:ls[j]?=some x):i=j:=by
 obtain ⟨a1,e1⟩:=List.getElem?_eq_some_iff.mp h1
 obtain ⟨a2,e2⟩:=List.getElem?_eq_some_iff.mp h2
 exact zI nd a1 a2 (e1.trans e2.symm)
structure LE (ls:List (List Nat)) (ts:List ap) (a b:Nat) (s:SD):Prop where
 n:s.n<ts.length
 e:s.en∈ls
 w:∃t,ts[s.n]?=some t∧t.bg≠t.en∧((s.st=t.bg∧s.en=t.en)∨(s.st=t.en∧s.en=t.bg))
 r:Gb a b s.room
 g:Gb 6 6 s.gain
 g1:1≤s.gain.1
theorem Li {g:KM.Fra} (h:Gb 6 6 g) (h1:1≤g.1):Gb 6 6 (aH (1,1) g)∧1≤(aH (1,1) g).1:=by
 have e:aH (1,1) g=KM.low (1*g.2) (1*g.1):=rfl
 refine ⟨?_,sY (by decide) (by decide) h1 h.pos⟩
 rw [e,Int.one_mul,Int.one_mul]
 exact sR h.d h.n (by trivial)
theorem y6 {ls:List (List Nat)}{ts:List ap}{ps:List KM.Fra}{a b c d:Nat} (tc:∀t∈ts,kG ls t) (gp:∀p∈ps,Gb a b p) (h1:21+b≤c) (h2:a+6≤c) (h3:b+6≤d):∀s∈aj ts ps ts.length,LE ls ts c d s:=by
 intro s hs
 unfold aj at hs
 obtain ⟨j,hj,hs⟩:=List.mem_flatMap.mp hs
 have hj':=List.mem_range.mp hj
 have et:=List.getElem?_eq_getElem hj'
 unfold iH at hs
 rw [et] at hs
 cases ep:ps[j]? with
 | none=>rw [ep] at hs;cases hs
 | some p=>
  rw [ep] at hs
  have tt:=tc _ (List.mem_of_getElem? et)
  have pp:=gp p (List.mem_of_getElem? ep)
  generalize ts[j]=t at hs tt et
  unfold bx at hs
  rcases List.mem_append.mp hs with q | q
  ·by_cases c1:p.1*t.most.2<t.most.1*p.2
   ·rw [if_pos c1] at q
    rw [List.mem_singleton.mp q]
    exact ⟨hj',tt.e,⟨t,et,tt.ne,.inl ⟨rfl,rfl⟩⟩,tt.fm.min pp (by trivial) (by trivial) (by trivial),tt.fg,tt.g1⟩
   ·rw [if_neg c1] at q;cases q
  ·by_cases c1:0<p.1
   ·rw [if_pos c1] at q
    rw [List.mem_singleton.mp q]
    have o:=Li tt.fg tt.g1
    exact ⟨hj',tt.b,⟨t,et,tt.ne,.inr ⟨rfl,rfl⟩⟩,pp.tim tt.fg (by trivial) (by trivial),o.1,o.2⟩
   ·rw [if_neg c1] at q;cases q
section
variable {P:Program}{w:World}{K:PySem.W.Frag}{mg:Str→Option Value}{base:Heap}
end
end K21
namespace K21
open PySem L2
set_option maxHeartbeats 4000000
structure Ba (ls:List (List Nat)) (t:ap):Prop where
 b:t.bg∈ls
 e:t.en∈ls
 ne:t.bg≠t.en
 fm:Gb 1900 1900 t.most
 fg:Gb 6 6 t.gain
 g1:1≤t.gain.1
theorem Jk (p:KM.Fra):PyData.eqv (aN p) (aN (0,1))=decide (p=(0,1)):=by
 have e1:PyData.eqv (aN p) (aN (0,1))=(p.1==0 && (p.2==1 && true)):=by simp [PyData.eqv,PyData.eqvAll]
 rw [e1]
 obtain ⟨a,b⟩:=p
 by_cases h1:a=0
 ·by_cases h2:b=1
  ·subst h1 h2;rfl
  ·simp [h1,h2]
 ·simp [h1]
theorem Iv {p:KM.Fra}{a b:Nat} (h:Gb a b p) (ha:a≤1900) (hb:b≤1900):Wt (aN p) 3 1:=.tuple (.cons (.int (h.n.mono ha)) (.cons (.int (h.d.mono hb)) .nil))
theorem LQ:Gb 1 1 (0,1):=⟨show (0:Int).natAbs<2 ^ 1 by decide,show (1:Int).natAbs<2 ^ 1 by decide,by decide⟩
section
variable {P:Program}{w:World}{K:PySem.W.Frag}{mg:Str→Option Value}{base:Heap}
inductive HI (vs:List V) (H:Hp) (Q:VK):Prop
 | mk (v:V) (t:ap) (ls:List (List Nat)) (h0:vs=[v]) (h1:aI ED H v (jx t)) (h2:Ba ls t) (h3:∀H',aa H H'→Q (.bl (decide (t.most=(0,1)))) H')
def JR:Sp:=fun vs H Q _=>HI  vs H Q
theorem CU (T:Txt K mg):aZ P w K mg base CX0 1 T.is_shut_.f T.is_shut_.d ["tie"] JR:=by
 refine T.is_shut_.F.ok DI (fun vs H Q E h=>?_) (fun cdv A outer s H vs Q E hr h=>?_)
 ·obtain ⟨v,t,ls,rfl,_⟩:=h
  rfl
 ·obtain ⟨v,t,ls,rfl,hv,tc,k⟩:=h
  obtain ⟨o,om,og,op,rfl,ho,hom,hog,hop⟩:=gQ hv
  refine ⟨_,#[ae 3 #[av 4 #[cn 8 (@sT _ hr.units) #[#[0,Ae][#[()]]] #[ag 5 #[[#[()],#[()]]]] #[(),()]]]],?_⟩
  refine ⟨(),o,_,_,(),rfl,ar.of ho,rfl,(by show 2≤10000;decide),fun q H1 n1=>⟨aN t.most,aN (0,1),ED,ED,_,_,_,_,cB (n1.sm _ _ hom),cB (p:=(0,1)) n1.at',Iv tc.fm (by decide) (by decide),Iv LQ (by decide) (by decide),by decide,?_⟩⟩
  have:=k H1 n1.sm
  rw [←Jk] at this
  exact this
inductive DW (H:Hp) (W:Addr) (ls:List (List Nat)) (ω:List Nat→KM.Fra) (n:Nat):Prop
 | mk (kvs:_) (h0:H W=some (.dK kvs)) (h1:kvs.length≤n) (h2:∀l∈ls,∃o,valD kvs (Sum.inr (S l))=some (.ref o)∧H o=some (fr (ω l)))
inductive DO (H:Hp) (O:Addr) (ls:List (List Nat)) (on:List Nat→Option Nat) (n:Nat):Prop
 | mk (kvs:_) (h0:H O=some (.dK kvs)) (h1:kvs.length≤n) (h2:∀l∈ls,valD kvs (Sum.inr (S l))=(on l).map fun k:Nat=>V.int (k:Int))
def Ay:Option (List Nat)→V
 | none=>.non
 | some l=>aG l
def yh (W O:Addr) (H H':Hp):Prop:=∀a o,a≠W→a≠O→H a=some o→H' a=some o
theorem yh.tup {W O a:Addr}{H H':Hp}{k1 k2:List (aY×V)}{us:List V} (h:yh W O H H') (hW:H W=some (.dK k1)) (hO:H O=some (.dK k2)) (ha:H a=some (.tup us)):H' a=some (.tup us):=
 h a _ (fun z=>by rw [z,hW] at ha;cases ha) (fun z=>by rw [z,hO] at ha;cases ha) ha
theorem xE (kvs:List (aY×V)) (k:aY) (v:V):(eM kvs k v).length≤kvs.length+1:=by
 unfold eM
 split
 ·rw [List.length_map];trivial
 ·rw [List.length_append];exact Nat.le_refl _
theorem yA {a b:List Nat} (h:a≠b):(Sum.inr (S a):aY)≠Sum.inr (S b):=fun z=>by
 injection z with z
 exact h (qV z)
theorem Ba.tok {ls:List (List Nat)}{t:ap} (h:Ba ls t):wL ls t:=⟨h.b,h.e,h.ne,h.g1,h.fg.pos⟩
inductive HL (vs:List V) (H:Hp) (Q:VK):Prop
 | mk (v:V) (W O:Addr) (ls:List (List Nat)) (ts:List ap) (s:LS) (p n c:Nat) (h0:vs=[v,.ref W,.ref O]) (h1:aI ED H v (iV ls ts)) (h2:(∀t∈ts,Ba ls t)) (h3:ts.length≤60) (h4:¬W=O) (h5:DW H W ls s.ω n) (h6:DO H O ls s.on n) (h7:n≤3000) (h8:(∀l∈ls,Gb c c (s.ω l)∧1≤(s.ω l).1)) (h9:c≤3600) (h10:∀H':Hp,yh W O H H'→DW H' W ls (pq p ts s).ω (n+ts.length)→DO H' O ls (pq p ts s).on (n+ts.length)→(∀l∈ls,Gb (c+6*ts.length) (c+6*ts.length) ((pq p ts s).ω l)∧1≤((pq p ts s).ω l).1)→Q (Ay (pq p ts s).lf) H')
def Ju:Sp:=fun vs H Q _=>HL  vs H Q
theorem Bc (T:Txt K mg):aZ P w K mg base CX0 4 T.lift_once_.f T.lift_once_.d ["net", "worths", "onward"] Ju:=by
 have G_is_shut:=#[(CU)]
 have G_times:=#[(mU)]
 have G_compared:=#[(kO)]
 refine T.lift_once_.F.ok cE (fun vs H Q E h=>?_) (fun cdv A outer s H vs Q E hr h=>?_)
 ·obtain ⟨v,W,O,ls,ts,st,p,n,c,rfl,_⟩:=h
  rfl
 ·obtain ⟨v,W,O,ls,ts,st,p,n,c,rfl,hv,tc,h40,nWO,⟨kv0,hW0,lW0,vW0⟩,⟨ko0,hO0,lO0,vO0⟩,hn,gω,hc,k⟩:=h
  obtain ⟨na,pa,ta,ys,rfl,hna,hpa,hta,ity⟩:=gL hv
  have lys:ys.length=ts.length:=by rw [ity.length,List.length_map]
  refine ⟨_,#[#[3,cE.nd,jX,#[j9 3]] :: #[#[jN 8 PassesOwn.never rfl (@um _ (K) _ _ _ _ _ _ _ tu T.b_enumerate #[[#[#[0,yo][#[()]]]]] (by rfl) (by rfl)) (@b4 _ (K) _ _ _ _ (2) rfl #[au 5 #[4,cE.nd,oE] #[au 5 #[5,cE.nd,mr] (@b3 _) (by rfl)] (by rfl)] (by rfl) (by rfl) (by rfl)) #[#[dZ 6 #[5,mr] (@b4 _ (K) _ _ _ _ (5) rfl #[au 5 #[6,cE.nd,dP] #[au 5 #[7,cE.nd,lV] #[au 5 #[8,cE.nd,xF] #[au 5 #[9,cE.nd,ql] #[au 5 #[10,cE.nd,wF] (@b3 _) (by rfl)] (by rfl)] (by rfl)] (by rfl)] (by rfl)] (by rfl) (by rfl) (by rfl)) (by rfl) (by rfl) (by rfl)] :: #[#[bA 8 #[PW.pt 3 #[ig 7 #[b9 3 #[G_is_shut,uF,T.is_shut_,#[[#[5,mr]]]] (by intro _;rfl)] #[gA 4 #[aK 8 (@tV _) #[7,lV] #[1,eY] rfl]]]] #[ae 3 #[BG 2]] (@aQ _)] :: #[#[11,cE.nd,kC,#[G_times,wA,T.times_,#[[#[9,ql],#[b8 7 (@lE _) #[1,eY] #[7,lV] (fun _ _=>rfl)]]]]] :: #[ae 3 #[bA 8 #[PW.pt 3 #[ig 7 #[aK 8 (@tV _) #[6,dP] #[1,eY] rfl] #[gA 4 #[aK 8 (@qW _) #[G_compared,tS,T.compared_,#[[#[11,kC],#[b8 7 (@lE _) #[1,eY] #[6,dP] (fun _ _=>rfl)]]]] #[()] #[(),()]]]]] #[#[dZ 6 #[11,kC] #[nS 7 #[1,eY] #[6,dP] (@xy _) (by intro _;rfl)] (by rfl) (by rfl) (by rfl)] :: #[#[dZ 6 #[4,oE] #[nS 7 #[2,vt] #[6,dP] (@xy _) (by intro _;rfl)] (by rfl) (by rfl) (by rfl)] :: #[ae 3 #[3,cE.nd,jX,#[6,dP]]]]] (@aQ _)]]]]] (by intro _;rfl)] :: #[ae 3 #[av 4 #[3,jX]]]]],?_⟩
  refine cw fun Q1 nA=>nA _ _ ?_
  refine bv fun DB nB=>?_
  refine ⟨(),na,_,_,(),rfl,ar.of hna,rfl,ta,false,rfl,⟨ys,ar.of hta⟩,zK (xs:=ys) (fun i σ H'=>FS fun (v4 v5 v6 v7 v8 v9 v10 v11:Option V) (kv ko:List (aY×V))=>σ=[some (.ref na),some (.ref W),some (.ref O),some (Ay (dI p ts st i).lf),v4,v5,v6,v7,v8,v9,v10,v11]∧H' W=some (.dK kv)∧kv.length≤n+i∧(∀l∈ls,∃o,valD kv (Sum.inr (S l))=some (.ref o)∧H' o=some (fr ((dI p ts st i).ω l)))∧H' O=some (.dK ko)∧ko.length≤n+i∧(∀l∈ls,valD ko (Sum.inr (S l))=((dI p ts st i).on l).map fun k:Nat=>V.int (k:Int))∧(∀l∈ls,Gb (c+6*i) (c+6*i) ((dI p ts st i).ω l)∧1≤((dI p ts st i).ω l).1)∧yh W O H H') ⟨_,_,_,_,_,_,_,_,kv0,ko0,rfl,hW0,by trivial,vW0,hO0,by trivial,vO0,gω,fun _ _ _ _ h=>h⟩ ?_ ?_ ?_⟩
  ·rintro i σ H' _ ⟨v4,v5,v6,v7,v8,v9,v10,v11,kv,ko,rfl,_,_,_,_,_,_,_,f2⟩
   exact ar.of (f2.tup hW0 hO0 hta)
  ·rintro i x T' σ J0 hx hT ⟨v4,v5,v6,v7,v8,v9,v10,v11,kv,ko,rfl,hW,lW,vW,hO,lO,vO,gω,f2⟩
   have hi:i<ys.length:=(List.getElem?_eq_some_iff.mp hx).1
   have nT:Nw J0 T' (.tup [.int (i:Int),x]) (aP J0 T' (.tup [.int (i:Int),x])):=.mk' hT
   generalize aP J0 T' (.tup [.int (i:Int),x])=J1 at nT ⊢
   obtain ⟨dy,edy,gy⟩:=ity.get hx
   rw [List.getElem?_map] at edy
   obtain ⟨t,et,rfl⟩:=Option.map_eq_some_iff.mp edy
   have tt:=tc t (List.mem_of_getElem? et)
   have eU:=vV (p:=p) (s:=st) et
   obtain ⟨o,om,og,op,rfl,ho,hom,hog,hop⟩:=gQ gy
   generalize dI p ts st i=U at eU vW vO gω ⊢
   have up1:∀{a:Addr}{us:List V},H a=some (.tup us)→J1 a=some (.tup us):=fun h=>nT.sm _ _ (f2.tup hW0 hO0 h)
   have gyJ:aI ED J1 (.ref o) (jx t):=.tup (up1 ho) (.cons (.str _) (.cons (.str _) (.cons (cB (p:=t.most) (up1 hom)) (.cons (cB (p:=t.gain) (up1 hog)) (.cons (cB (p:=t.price) (up1 hop)) .nil)))))
   have grow:∀l∈ls,Gb (c+6*(i+1)) (c+6*(i+1)) (U.ω l)∧1≤(U.ω l).1:=fun l hl=>⟨(gω l hl).1.mono (by trivial) (by trivial),(gω l hl).2⟩
   have keep:∀{J:Hp}{w4 w5 w6 w7 w8 w9 w10 w11:Option V},i7 U.ω t=false→aa J0 J→FS fun (v4 v5 v6 v7 v8 v9 v10 v11:Option V) (kv ko:List (aY×V))=>[some (V.ref na),some (.ref W),some (.ref O),some (Ay U.lf),w4,w5,w6,w7,w8,w9,w10,w11]=[some (.ref na),some (.ref W),some (.ref O),some (Ay (dI p ts st (i+1)).lf),v4,v5,v6,v7,v8,v9,v10,v11]∧J W=some (.dK kv)∧kv.length≤n+(i+1)∧(∀l∈ls,∃o,valD kv (Sum.inr (S l))=some (.ref o)∧J o=some (fr ((dI p ts st (i+1)).ω l)))∧J O=some (.dK ko)∧ko.length≤n+(i+1)∧(∀l∈ls,valD ko (Sum.inr (S l))=((dI p ts st (i+1)).on l).map fun k:Nat=>V.int (k:Int))∧(∀l∈ls,Gb (c+6*(i+1)) (c+6*(i+1)) ((dI p ts st (i+1)).ω l)∧1≤((dI p ts st (i+1)).ω l).1)∧yh W O H J:=by
    intro J w4 w5 w6 w7 w8 w9 w10 w11 no sJ
    rw [eU,xA no]
    exact ⟨_,_,_,_,_,_,_,_,kv,ko,rfl,sJ _ _ hW,by trivial,(fun l hl'=>let ⟨o',v',h'⟩:=vW l hl';⟨o',v',sJ _ _ h'⟩),sJ _ _ hO,by trivial,vO,grow,fun a u h1 h2 h=>sJ _ _ (f2 a u h1 h2 h)⟩
   refine ⟨T',(),ar.of nT.at',rfl,_,(),_,(),rfl,?_⟩
   dsimp only
   refine ⟨(),o,(),ar.of (up1 ho),rfl,_,(),_,(),_,(),_,(),_,(),rfl,?_⟩
   dsimp only
   refine C8 (fun σ' H'=>t.most≠(0,1)∧σ'=[some (.ref na),some (.ref W),some (.ref O),some (Ay U.lf),some (.int (i:Int)),some (.ref o),some (.str (S t.bg)),some (.str (S t.en)),some (.ref om),some (.ref og),some (.ref op),v11]∧aa J1 H') ?_ fun nx=>?_
   ·rintro σ' J2 ⟨hopen,rfl,s2⟩
    have s02:=nT.sm.trans s2
    obtain ⟨oe,ve,hoe⟩:=vW t.en tt.e
    obtain ⟨ob,vb,hob⟩:=vW t.bg tt.b
    obtain ⟨ge,pe1⟩:=gω t.en tt.e
    obtain ⟨gb,pb1⟩:=gω t.bg tt.b
    obtain ⟨g1,g2⟩:=gz tt.fg (by decide) (by decide)
    obtain ⟨e1,e2⟩:=gz ge (by trivial) (by trivial)
    obtain ⟨b1,b2⟩:=gz gb (by trivial) (by trivial)
    refine cw fun Q2 nA2=>⟨(),(),(),W,kv,Sum.inr (S t.en),.ref oe,rfl,rfl,s02 _ _ hW,ve,og,oe,_,_,_,(),s2 _ _ (up1 hog),s02 _ _ hoe,⟨g1,g2,e1,e2,gd tt.fg ge⟩,fun q J3 n3=>nA2 _ _ ?_⟩
    have gq:Gb (c+6*(i+1)) (c+6*(i+1)) (KM.lTim t.gain (U.ω t.en)):=tt.fg.tim ge (by trivial) (by trivial)
    obtain ⟨q1,q2⟩:=gz gq (by trivial) (by trivial)
    have s03:=s02.trans n3.sm
    refine ⟨(),(),W,kv,Sum.inr (S t.bg),rfl,rfl,s03 _ _ hW,(),?_⟩
    rw [vb]
    refine aJ ?_
    refine ⟨(),(),(),W,kv,Sum.inr (S t.bg),.ref ob,rfl,rfl,s03 _ _ hW,vb,q,ob,_,_,_,(),n3.at',s03 _ _ hob,q1,q2,b1,b2,_,(),rfl,(),?_⟩
    have ecmp:decide (0<oJ ((KM.lTim t.gain (U.ω t.en)).1*(U.ω t.bg).2) ((U.ω t.bg).1*(KM.lTim t.gain (U.ω t.en)).2))=i7 U.ω t:=by
     unfold i7
     rw [decide_eq_true hopen,Bool.true_and]
     exact AB
    refine mS (fun cnd=>?_) (fun cnd=>?_)
    ·have hl:i7 U.ω t=true:=ecmp.symm.trans cnd
     refine bv fun DC nC=>⟨(),(),(),W,kv,Sum.inr (S t.bg),rfl,rfl,s03 _ _ hW,by trivial,fun J4 c4=>nC _ _ ?_⟩
     have hO4:=c4.ol O _ (fun z=>nWO z.symm) (s03 _ _ hO)
     refine bv fun DE nE=>⟨(),(),(),O,ko,Sum.inr (S t.bg),rfl,rfl,hO4,by trivial,fun J5 c5=>nE _ _ ?_⟩
     have tupJ:∀{a:Addr}{us:List V},J3 a=some (.tup us)→J5 a=some (.tup us):=fun {a us} h=>c5.ol a _ (fun z=>by rw [z,s03 _ _ hO] at h;cases h) (c4.ol a _ (fun z=>by rw [z,s03 _ _ hW] at h;cases h) h)
     have fin:FS fun (v4 v5 v6 v7 v8 v9 v10 v11:Option V) (kv ko:List (aY×V))=>[some (V.ref na),some (.ref W),some (.ref O),some (.str (S t.bg)),some (.int (i:Int)),some (.ref o),some (.str (S t.bg)),some (.str (S t.en)),some (.ref om),some (.ref og),some (.ref op),some (.ref q)]=[some (.ref na),some (.ref W),some (.ref O),some (Ay (dI p ts st (i+1)).lf),v4,v5,v6,v7,v8,v9,v10,v11]∧J5 W=some (.dK kv)∧kv.length≤n+(i+1)∧(∀l∈ls,∃o,valD kv (Sum.inr (S l))=some (.ref o)∧J5 o=some (fr ((dI p ts st (i+1)).ω l)))∧J5 O=some (.dK ko)∧ko.length≤n+(i+1)∧(∀l∈ls,valD ko (Sum.inr (S l))=((dI p ts st (i+1)).on l).map fun k:Nat=>V.int (k:Int))∧(∀l∈ls,Gb (c+6*(i+1)) (c+6*(i+1)) ((dI p ts st (i+1)).ω l)∧1≤((dI p ts st (i+1)).ω l).1)∧yh W O H J5:=by
      rw [eU,vq hl]
      refine ⟨_,_,_,_,_,_,_,_,_,(),c5.ol W _ nWO c4.at',by have:=xE kv (Sum.inr (S t.bg)) (.ref q);trivial,fun l hl'=>?_,c5.at',by have:=xE ko (Sum.inr (S t.bg)) (.int (i:Int));trivial,fun l hl'=>?_,fun l hl'=>?_,fun a u h1 h2 h=>c5.ol a _ h2 (c4.ol a _ h1 (s03 _ _ (f2 a u h1 h2 h)))⟩
      ·rw [qO]
       by_cases cl:l=t.bg
       ·subst cl
        refine ⟨q,if_pos rfl,?_⟩
        show J5 q=some (fr (js _ _ _ _))
        unfold js
        rw [if_pos rfl]
        exact tupJ n3.at'
       ·rw [if_neg (yA cl)]
        obtain ⟨o',v',h'⟩:=vW l hl'
        refine ⟨o',v',?_⟩
        show J5 o'=some (fr (js _ _ _ _))
        unfold js
        rw [if_neg cl]
        exact tupJ (s03 _ _ h')
      ·rw [qO]
       by_cases cl:l=t.bg
       ·subst cl
        rw [if_pos rfl]
        show _=Option.map _ (if _ then _ else _)
        rw [if_pos rfl]
        rfl
       ·rw [if_neg (yA cl),vO l hl']
        show _=Option.map _ (if _ then _ else _)
        rw [if_neg cl]
      ·show Gb _ _ (js _ _ _ _)∧1≤(js _ _ _ _).1
       unfold js
       by_cases cl:l=t.bg
       ·rw [if_pos cl];exact ⟨gq,pH tt.g1 tt.fg.pos pe1 ge.pos⟩
       ·rw [if_neg cl];exact grow l hl'
     exact ⟨(),fin⟩
    ·have hl:i7 U.ω t=false:=by
      rw [←ecmp]
      exact Bool.eq_false_iff.mpr cnd
     exact keep hl s03
   ·refine ⟨(),.ref o,t,ls,rfl,gyJ,tt,fun J2 s2=>⟨(),?_⟩⟩
    have s02:=nT.sm.trans s2
    by_cases hs:t.most=(0,1)
    ·rw [decide_eq_true hs]
     refine ay (ay ?_)
     exact keep (by unfold i7;rw [decide_eq_false (fun z=>z hs)];rfl) s02
    ·rw [decide_eq_false hs]
     obtain ⟨oe,ve,hoe⟩:=vW t.en tt.e
     refine aJ ⟨(),(),W,kv,Sum.inr (S t.en),rfl,rfl,s02 _ _ hW,(),?_⟩
     rw [ve]
     exact aJ (nx _ _ ⟨hs,rfl,s2⟩)
  ·rintro σ J ⟨v4,v5,v6,v7,v8,v9,v10,v11,kv,ko,rfl,hW,lW,vW,hO,lO,vO,gω,f2⟩
   rw [lys] at lW lO gω vW vO ⊢
   exact nB _ _ ⟨(),k J f2 ⟨kv,hW,by trivial,vW⟩ ⟨ko,hO,by trivial,vO⟩ fun l hl=>⟨(gω l hl).1.mono (by trivial) (by trivial),(gω l hl).2⟩⟩
end
end K21
namespace K21
open PySem L2
set_option maxHeartbeats 4000000
abbrev xk (xs:List Nat):List V:=xs.map fun i:Nat=>V.int ((i:Nat):Int)
theorem E6 {c:TT}{tb:TS}{D:gl}{σ:St}{H:Hp} (Pv:Nat→St→Hp→Prop) (m:Nat) (h0:Pv m σ H)
 (hs:∀m σ H,Pv m σ H→∀(Q:Bool→Hp→Prop) (D':gl),(∀m' σ' H',m'<m→Pv m' σ' H'→D'.nx σ' H')→(∀v H',D.rt v H'→D'.rt v H')→(∀H1,tb D' σ H1→Q true H1)→(∀H1,D.nx σ H1→Q false H1)→c σ H Q):E5 c tb D σ H:=by
 refine ⟨Pv,⟨m,h0⟩,fun m σ H h=>?_⟩
 refine hs m σ H h _ { D with nx:=fun σ' H'=>∃m',m'<m∧Pv m' σ' H',ct:=fun σ' H'=>∃m',m'<m∧Pv m' σ' H',bk:=D.nx } (fun m' σ' H' hm hp=>⟨m',hm,hp⟩) (fun _ _ z=>z) (fun H1 t=>?_) fun H1 t=>?_
 ·rw [if_pos rfl]
  exact ⟨_,fun _ _ z=>z,t⟩
 ·rw [if_neg (by decide)]
  exact t
theorem E1 {xs:List V}{j:Nat} (h:j≤xs.length):k9 xs (some (j:Int)) none=xs.drop j:=by
 unfold k9
 rw [HT.sIx_none,HT.sIx_nat,Nat.min_eq_left h]
 exact List.take_of_length_le (by rw [List.length_drop];exact Nat.le_refl _)
section
variable {P:Program}{w:World}{K:PySem.W.Frag}{mg:Str→Option Value}{base:Heap}
inductive Fy (vs:List V) (H:Hp) (Q:VK):Prop
 | mk (v:V) (O:Addr) (ls:List (List Nat)) (ts:List ap) (st:LS) (l0:List Nat) (n:Nat) (h0:vs=[v,.ref O,aG l0]) (h1:aI ED H v (iV ls ts)) (h2:(∀t∈ts,Ba ls t)) (h3:ls.length≤10) (h4:DO H O ls st.on n) (h5:BI ls ts ls.length ts.length st) (h6:st.lf=some l0) (h7:∀(R:List Nat) (us:List ap) (r:Addr) (H':Hp),Dz ts R us→R.length≤10→aa H H'→H r=none→H' r=some (.lst (xk R))→Q (.ref r) H')
def HP:Sp:=fun vs H Q _=>Fy  vs H Q
theorem yQ (T:Txt K mg):aZ P w K mg base CX0 1 T.round_ahead_.f T.round_ahead_.d ["net", "onward", "place"] HP:=by
 refine T.round_ahead_.F.ok kc (fun vs H Q E h=>?_) (fun cdv A outer s H vs Q E hr h=>?_)
 ·obtain ⟨v,O,ls,ts,st,l0,n,rfl,_⟩:=h
  rfl
 ·obtain ⟨v,O,ls,ts,st,l0,n,rfl,hv,tc,l10,⟨ko,hO,lO,vO⟩,bi,elf,k⟩:=h
  obtain ⟨na,pa,ta,ys,rfl,hna,hpa,hta,ity⟩:=gL hv
  have tk:∀t∈ts,wL ls t:=fun t ht=>(tc t ht).tok
  refine ⟨_,#[#[3,kc.nd,fJ,#[aV 4 (@cj _)]] :: #[#[4,kc.nd,jT,#[aV 4 (@cj _)]] :: #[#[tz 6 PassesOwn.never #[aK 8 (@yO _ (K) (by rfl)) #[2,cQ] #[3,fJ] rfl] #[#[jo 4 (@fN _ (K) _ _ _ _ _ _ _ _ _ _ _ PySem.F.plainAttrs_list PySem.F.slot_list_append PySem.F.type_list_append (@fD _) #[3,fJ] #[[#[2,cQ]]] (by rfl) (by rfl) (by rfl) (by rfl) (by rfl) (by rfl)) (by rfl)] :: #[#[jo 4 (@fN _ (K) _ _ _ _ _ _ _ _ _ _ _ PySem.F.plainAttrs_list PySem.F.slot_list_append PySem.F.type_list_append (@fD _) #[4,jT] #[[#[b8 7 (@lE _) #[1,lN] #[2,cQ] (fun _ _=>rfl)]]] (by rfl) (by rfl) (by rfl) (by rfl) (by rfl) (by rfl)) (by rfl)] :: #[ae 3 #[2,kc.nd,cQ,#[#[#[#[0,wx][#[()]]][#[b8 7 (@lE _) #[1,lN] #[2,cQ] (fun _ _=>rfl)]]][#[()]]]]]]]] :: #[ae 3 #[av 4 #[k6 10 (@pZ _ (K) (by rfl)) #[4,jT] #[lK 3 (@fN _ (K) _ _ _ _ _ _ _ _ _ _ _ PySem.F.plainAttrs_list PySem.F.slot_list_index PySem.F.type_list_index (@Ee _) #[3,fJ] #[[#[2,cQ]]] (by rfl) (by rfl) (by rfl) (by rfl) (by rfl) (by rfl))] (@pI _)]]]]]],?_⟩
  refine cw fun Q1 nA1=>⟨Nat.zero_le _,fun pl J1 n1=>nA1 _ _ ?_⟩
  refine cw fun Q2 nA2=>⟨Nat.zero_le _,fun tl J2 n2=>nA2 _ _ ?_⟩
  have fpl:H pl=none:=n1.fr
  have ftl:H tl=none:=n1.sm.free n2.fr
  have nlt:¬pl=tl:=fun z=>by have:=n2.fr;rw [←z,n1.at'] at this;cases this
  refine bv fun DB nB=>?_
  refine E6 (fun m σ H'=>kJ fun (us:List ap) (ks:List Nat) (c:List Nat)=>σ=[some (.ref na),some (.ref O),some (aG c),some (.ref pl),some (.ref tl)]∧m=ls.length - us.length∧H' pl=some (.lst ((us.map (·.bg)).map aG))∧H' tl=some (.lst (xk ks))∧ks.map (fun k=>ts[k]?)=us.map some∧(∀t∈us,t.most≠(0,1))∧(∀t∈us,Ed st t)∧(us.map (·.bg)).Nodup∧us.map (·.bg)++[c]=l0 :: us.map (·.en)∧c∈ls∧ls.length≤st.la c+us.length∧(∀t∈us,t.bg∈ls)∧aa H H') ls.length ⟨[],[],l0,rfl,rfl,n2.sm _ _ n1.at',n2.at',rfl,(fun t h=>by cases h),(fun t h=>by cases h),List.nodup_nil,rfl,(bi.lf l0 elf).2,by rw [(bi.lf l0 elf).1];exact Nat.le_add_right _ _,(fun t h=>by cases h),n1.sm.trans n2.sm⟩ ?_
  rintro m σ H' ⟨us,ks,c,rfl,rfl,hpl,htl,e1,ho,he,nd,ch,hc,hla,sub,sm⟩ Q D' nD rD qT qF
  have lk:ks.length=us.length:=by have:=congrArg List.length e1;simpa using this
  have lus:us.length≤ls.length:=by
   have:=xt (xs:=us.map (·.bg)) (ys:=ls) nd fun x hx=>by
    obtain ⟨t,ht,rfl⟩:=List.mem_map.mp hx
    exact sub t ht
   rwa [List.length_map] at this
  refine ⟨(),(),pl,(),.inl (ak.of hpl),rfl,Le _,(),?_⟩
  show Q (!Bu (aG c) _) _
  rw [Jb]
  cases hcn:(us.map (·.bg)).contains c with
  | false=>
   refine qT _ ?_
   have nc:c∉us.map (·.bg):=fun z=>by
    have:=List.elem_eq_true_of_mem z
    rw [List.contains] at hcn
    rw [this] at hcn
    cases hcn
   have nd2:(us.map (·.bg)++[c]).Nodup:=List.nodup_append.mpr ⟨nd,by simp,fun a ha b hb=>by
    rw [List.mem_singleton.mp hb]
    exact fun z=>nc (z▸ha)⟩
   have ll:us.length+1≤ls.length:=by
    have:=xt (xs:=us.map (·.bg)++[c]) (ys:=ls) nd2 fun x hx=>by
     rcases List.mem_append.mp hx with z | z
     ·obtain ⟨t,ht,rfl⟩:=List.mem_map.mp z
      exact sub t ht
     ·rw [List.mem_singleton.mp z];exact hc
    rwa [List.length_append,List.length_map,List.length_singleton] at this
   obtain ⟨kk,ek⟩:∃kk,st.on c=some kk:=Option.ne_none_iff_exists'.mp (bi.la1 c (by trivial))
   obtain ⟨t,et,op,rfl,le1,lt1,la1⟩:=bi.on c kk ek
   have tt:=tc t (List.mem_of_getElem? et)
   have edt:Ed st t:=⟨pN tt.g1 tt.fg.pos,le1,lt1⟩
   have vo:valD ko (Sum.inr (S t.bg))=some (.int (kk:Int)):=by rw [vO t.bg hc,ek];rfl
   obtain ⟨y,ey⟩:∃y,ys[kk]?=some y:=⟨_,List.getElem?_eq_getElem (by rw [ity.length,List.length_map];exact (List.getElem?_eq_some_iff.mp et).1)⟩
   obtain ⟨dy,edy,gy⟩:=ity.get ey
   rw [List.getElem?_map,et] at edy
   obtain rfl:jx t=dy:=Option.some.inj edy
   obtain ⟨o,om,og,op',rfl,hto,_,_,_⟩:=gQ gy
   refine bv fun DC nC=>⟨(),.inl ⟨rfl,_,ak.of hpl⟩,(),pl,_,(),rfl,hpl,by rw [List.length_map,List.length_map];trivial,fun J3 c3=>nC _ _ ?_⟩
   have sm3:aa H J3:=fun a u h=>c3.ol a u (fun z=>by rw [z,fpl] at h;cases h) (sm a u h)
   have htl3:=c3.ol tl _ (fun z=>nlt z.symm) htl
   refine bv fun DE nE=>⟨(),.inl ⟨rfl,_,ak.of htl3⟩,(),(),O,ko,Sum.inr (S t.bg),(),rfl,sm3 _ _ hO,vo,tl,_,(),rfl,htl3,by rw [List.length_map];trivial,fun J4 c4=>nE _ _ ?_⟩
   have sm4:aa H J4:=fun a u h=>c4.ol a u (fun z=>by rw [z,ftl] at h;cases h) (sm3 a u h)
   refine ⟨(),na,_,_,(),rfl,ar.of (sm4 _ _ hna),rfl,(),(),O,ko,Sum.inr (S t.bg),(),rfl,sm4 _ _ hO,vo,ta,ys,_,(),rfl,ar.of (sm4 _ _ hta),aW ey,o,_,_,(),rfl,ar.of (sm4 _ _ hto),rfl,?_⟩
   refine nD (ls.length - (us.length+1)) _ _ (by trivial) ⟨us++[t],ks++[kk],t.en,rfl,by rw [List.length_append];rfl,?_,?_,?_,?_,?_,?_,?_,tt.e,?_,?_,sm4⟩
   ·rw [c4.ol pl _ nlt c3.at']
    simp
   ·rw [c4.at']
    simp [xk]
   ·rw [List.map_append,List.map_append,e1]
    simp [et]
   ·intro x hx
    rcases List.mem_append.mp hx with z | z
    ·exact ho x z
    ·rw [List.mem_singleton.mp z];exact op
   ·intro x hx
    rcases List.mem_append.mp hx with z | z
    ·exact he x z
    ·rw [List.mem_singleton.mp z];exact edt
   ·rw [List.map_append];exact nd2
   ·rw [List.map_append,List.map_append]
    show (us.map (·.bg)++[t.bg])++[t.en]=_
    rw [ch]
    rfl
   ·rw [List.length_append,List.length_singleton];trivial
   ·intro x hx
    rcases List.mem_append.mp hx with z | z
    ·exact sub x z
    ·rw [List.mem_singleton.mp z];exact tt.b
  | true=>
   refine qF _ (nB _ _ ?_)
   obtain ⟨j,hj⟩:=List.getElem?_of_mem (List.contains_iff_mem.mp hcn)
   have lj:j<us.length:=by have:=(List.getElem?_eq_some_iff.mp hj).1;rwa [List.length_map] at this
   refine ⟨(),(),.inl ⟨rfl,_,ak.of hpl⟩,(),pl,_,c,j,rfl,rfl,hpl,by rw [List.length_map];trivial,hj,nd,(),tl,(),ak.of htl,fun r J3 n3=>?_⟩
   have rk:=JQ tk bi.pos e1 ho he nd ch hj
   refine k (ks.drop j) (us.drop j) r J3 rk (by rw [List.length_drop];trivial) (sm.trans n3.sm) (sm.free n3.fr) ?_
   rw [n3.at',E1 (by rw [List.length_map];trivial)]
   simp only [xk,List.map_drop]
end
end K21
namespace K21
open PySem L2
set_option maxHeartbeats 4000000
section
variable {P:Program}{w:World}{K:PySem.W.Frag}{mg:Str→Option Value}{base:Heap}
theorem DN {J:It}{n:Nat}{H1:Hp}{D:Addr}{σc:St}{g:TG}{tk tv:TE}{Q:VK} (Pv:Nat→Hp→List (aY×V)→Prop) (hz:n≤4000) (h0:Pv 0 (aP H1 D (.dK [])) [])
 (hD:∀i H ys,Pv i H ys→H D=some (.dK ys)∧ys.length≤i) (hgo:∀i H ys,i<n→Pv i H ys→J.go i H) (hst:∀H ys,Pv n H ys→J.stop n H)
 (hs:∀i H ys x H',i<n→Pv i H ys→J.yld i H x H'→g x σc H' fun σ2 H2=>ja σc σ2∧tk σ2 H2 fun kv H4=>∃k,kv=gk k∧tv σ2 H4 fun y H5=>H5 D=some (.dK ys)∧Pv (i+1) (aP H5 D (.dK (eM ys k y))) (eM ys k y))
 (hd:∀H ys,Pv n H ys→Q (.ref D) H):Ey J σc g tT tk tv D H1 Q:=by
 refine ⟨fun i m H ys=>m=n - i∧i≤n∧Pv i H ys,⟨n,by simp,Nat.zero_le _,h0⟩,?_⟩
 rintro i m H ys ⟨rfl,hi,p⟩
 obtain ⟨q1,q2⟩:=hD i H ys p
 refine ⟨q1,?_⟩
 by_cases hlt:i<n
 ·refine .inr ⟨hgo i H ys hlt p,by rw [sizeLine_eq];trivial,Pv (i+1),fun H' ys' p'=>⟨n - (i+1),by trivial,rfl,hlt,p'⟩,fun x H' y=>?_⟩
  have e:=hs i H ys x H' hlt p y
  have q:(fun (σ2:St) (H2:Hp)=>ja σc σ2∧tT σ2 H2 fun b H3=>if b=true then tk σ2 H3 fun kv H4=>∃k,kv=gk k∧tv σ2 H4 fun y H5=>H5 D=some (.dK ys)∧Pv (i+1) (aP H5 D (.dK (eM ys k y))) (eM ys k y) else Pv (i+1) H3 ys) =
   (fun σ2 H2=>ja σc σ2∧tk σ2 H2 fun kv H4=>∃k,kv=gk k∧tv σ2 H4 fun y H5=>H5 D=some (.dK ys)∧Pv (i+1) (aP H5 D (.dK (eM ys k y))) (eM ys k y)):=by
   funext σ2 H2
   unfold tT
   dsimp only
   rw [if_pos rfl]
  rw [q]
  exact e
 ·have e:i=n:=by trivial
  subst e
  exact .inl ⟨hst H ys p,hd H ys p⟩
inductive Hj (vs:List V) (H:Hp) (Q:VK):Prop
 | mk (v:V) (ls:List (List Nat)) (ts:List ap) (h0:vs=[v]) (h1:aI ED H v (iV ls ts)) (h2:(∀t∈ts,Ba ls t)) (h3:ts.length≤48) (h4:1≤ls.length) (h5:ls.length≤10) (h6:((∃m,m<ls.length∧(fU ts (m+1)).lf=none∧∀H',aa H H'→Q .non H')∨((∀m,m<ls.length→(fU ts (m+1)).lf≠none)∧∀(R:List Nat) (us:List ap) (r:Addr) (H':Hp),Dz ts R us→R.length≤10→aa H H'→H r=none→H' r=some (.lst (xk R))→Q (.ref r) H')))
def Io:Sp:=fun vs H Q _=>Hj  vs H Q
theorem wV (T:Txt K mg):aZ P w K mg base CX0 5 T.gaining_round_.f T.gaining_round_.d ["net"] Io:=by
 have G_lift_once:=#[(Bc)]
 have G_round_ahead:=#[(yQ)]
 refine T.gaining_round_.F.ok d7 (fun vs H Q E h=>?_) (fun cdv A outer s H vs Q E hr h=>?_)
 ·obtain ⟨v,ls,ts,rfl,_⟩:=h
  rfl
 ·obtain ⟨v,ls,ts,rfl,hv,tc,h24,l1,l10,k⟩:=h
  obtain ⟨na,pa,ta,ys,rfl,hna,hpa,hta,ity⟩:=gL hv
  refine ⟨_,#[#[BU 8 (["place"]) (1) ([]) _ _ _ _ _ (1) _ _ _ d7.nd rfl kN (by kernel_rfl) rfl (by kernel_rfl) (@AA _ (K) _ _ _ #[#[0,f7][#[()]]] (by rfl)) (fun _ _ _ _ _ _=>#[0,(),()]) (fun _ _ _ _ _ _=>@bE _) (fun _ _ _ _ _ _=>#[0,()]) (fun _ _ _ _ _ _=>#[ag 5 #[[#[()],#[()]]]]) (by intro _;rfl)] :: #[#[2,d7.nd,gX,#[Fv 2]] :: #[#[3,d7.nd,eL,#[j9 3]] :: #[#[jN 8 PassesOwn.never rfl #[gG 6 sx T.b_range #[[#[(),(),(@kg _ (K) (by rfl)),uK,T.b_len,(@bY),#[[#[#[0,f7][#[()]]]]]]]] (by rfl)] #[4,d7.nd,tQ] #[#[3,d7.nd,eL,#[G_lift_once,pe,T.lift_once_,#[[#[0,f7],#[1,kN],#[2,gX]]]]] :: #[ae 3 #[bA 8 #[aK 8 (@vh _) #[3,eL] #[j9 3] #[(),()]] #[ae 3 #[av 4 #[j9 3]]] (@aQ _)]]] (by intro _;rfl)] :: #[ae 3 #[av 4 #[G_round_ahead,oH,T.round_ahead_,#[[#[0,f7],#[2,gX],#[3,eL]]]]]]]]]],?_⟩
  refine cw fun Q1 nA1=>⟨(),na,_,_,(),rfl,ar.of hna,rfl,pa,rfl,⟨_,ar.of hpa⟩,fun W hW=>DN (n:=(ls.map aG).length) (fun i H' kv=>H' W=some (.dK kv)∧kv.length≤i∧(∀(j:Nat) l,j<i→ls[j]?=some l→∃o,valD kv (Sum.inr (S l))=some (.ref o)∧H' o=some (fr (1,1)))∧aa H H') (by rw [List.length_map];trivial) ⟨aA,Nat.le_refl _,(fun j l h=>by trivial),aa.new hW⟩ ?_ ?_ ?_ ?_ ?_⟩
  ·rintro i H' kv ⟨e1,e2,_⟩
   exact ⟨e1,e2⟩
  ·rintro i H' kv hi ⟨_,_,_,sm⟩
   exact ⟨_,_,ar.of (sm _ _ hpa),List.getElem?_eq_getElem hi⟩
  ·rintro H' kv ⟨_,_,_,sm⟩
   exact ⟨_,ar.of (sm _ _ hpa),Nat.le_refl _⟩
  ·rintro i Ha kv x Hb hi ⟨eW,lW,vW,sm⟩ ⟨rfl,ex⟩
   have exi:=ex _ (ar.of (sm _ _ hpa))
   rw [List.length_map] at hi
   rw [List.getElem?_map,List.getElem?_eq_getElem hi] at exi
   obtain rfl:aG ls[i]=x:=Option.some.inj exi
   refine ⟨eH,(),Sum.inr (S ls[i]),rfl,(by show 2≤10000;decide),fun q J n1=>⟨n1.sm _ _ eW,aA,?_,fun j l hj el=>?_,c7 hW (sm.trans n1.sm)⟩⟩
   ·exact Nat.le_trans (xE _ _ _) (by trivial)
   ·have tupU:∀{a:Addr}{us:List V},J a=some (.tup us)→aP J W (.dK (eM kv (Sum.inr (S ls[i])) (.ref q))) a=some (.tup us):=fun {a us} h=>by
     rw [aE (fun z=>by rw [z,n1.sm _ _ eW] at h;cases h)];exact h
    rw [qO]
    by_cases c:l=ls[i]
    ·rw [c,if_pos rfl]
     exact ⟨q,rfl,tupU n1.at'⟩
    ·rw [if_neg (yA c)]
     have hji:j<i:=by
      by_cases z:j=i
      ·subst z
       rw [List.getElem?_eq_getElem hi] at el
       exact absurd (Option.some.inj el).symm c
      ·trivial
     obtain ⟨o,v',h'⟩:=vW j l hji el
     exact ⟨o,v',tupU (n1.sm _ _ h')⟩
  rintro H1 kv ⟨eW,lW,vW,s1⟩
  rw [List.length_map] at lW vW
  refine nA1 _ _ ?_
  refine cw fun Q2 nA2=>fun O H2 n2=>nA2 _ _ ?_
  have nWO:¬W=O:=fun z=>by rw [←z] at n2;have:=n2.fr;rw [eW] at this;cases this
  have fO:H O=none:=s1.free n2.fr
  refine cw fun Q3 nA3=>nA3 _ _ ?_
  have s2:=s1.trans n2.sm
  have dw0:DW H2 W ls (fun _=>(1,1)) 10:=⟨kv,n2.sm _ _ eW,by trivial,fun l hl=>by
   obtain ⟨j,hj⟩:=List.getElem?_of_mem hl
   obtain ⟨o,v',h'⟩:=vW j l (List.getElem?_eq_some_iff.mp hj).1 hj
   exact ⟨o,v',n2.sm _ _ h'⟩⟩
  have same_of:∀{J:Hp},yh W O H2 J→aa H J:=fun f a o h=>f a o (fun z=>by rw [z,hW] at h;cases h) (fun z=>by rw [z,fO] at h;cases h) (s2 _ _ h)
  refine tX fun DB nB rB=>?_
  refine ⟨(),na,_,_,(),rfl,ar.of (s2 _ _ hna),rfl,pa,(),.inr (ar.of (s2 _ _ hpa)),(),by trivial,by rw [List.length_map];trivial,?_⟩
  rw [List.length_map,Int.toNat_natCast]
  refine zL (fun i σ H'=>∃(v4:Option V),σ=[some (.ref na),some (.ref W),some (.ref O),some (Ay (fU ts i).lf),v4]∧(∀m,m<i→(fU ts (m+1)).lf≠none)∧DW H' W ls (fU ts i).ω (10+48*i)∧DO H' O ls (fU ts i).on (10+48*i)∧(∀l∈ls,Gb (1+288*i) (1+288*i) ((fU ts i).ω l)∧1≤((fU ts i).ω l).1)∧yh W O H2 H') ?_ ?_ ?_
  ·exact ⟨(),(fun m h=>by trivial),dw0,⟨[],n2.at',by simp,fun l hl=>rfl⟩,(fun l hl=>⟨r6,(by show (1:Int)≤1;decide)⟩),fun _ _ _ _ h=>h⟩
  ·rintro i σ J hi ⟨v4,rfl,hno,dw,do',gω,f2⟩
   have hvJ:aI ED J (.ref na) (iV ls ts):=hv.mono (same_of f2).toE
   refine Kl (t:=nj _ _) fun DC nC rC=>?_
   refine cw fun Q4 nA4=>⟨(),(),(),.ref na,W,O,ls,ts,fU ts i,i+1,10+48*i,1+288*i,rfl,hvJ,tc,by trivial,nWO,dw,do',by trivial,gω,by trivial,fun J2 f3 dw2 do2 gω2=>nA4 _ _ ?_⟩
   have es:pq (i+1) ts (fU ts i)=fU ts (i+1):=rfl
   rw [es] at dw2 do2 gω2 ⊢
   have f4:yh W O H2 J2:=fun a o h1 h2 h=>f3 a o h1 h2 (f2 a o h1 h2 h)
   cases e:(fU ts (i+1)).lf with
   | none=>
    refine ⟨(),rfl,(),ay (rC _ _ (rB _ _ ?_))⟩
    rcases k with ⟨m,_,_,k⟩ | ⟨k,_⟩
    ·exact k J2 (same_of f4)
    ·exact absurd e (k i hi)
   | some l=>
    refine ⟨(),rfl,(),aJ (nC _ _ ?_)⟩
    obtain ⟨ko2,hO2,lO2,vO2⟩:=do2
    obtain ⟨kv2,hW2,lW2,vW2⟩:=dw2
    refine ⟨_,by rw [e];rfl,fun m hm=>?_,⟨kv2,hW2,by trivial,vW2⟩,⟨ko2,hO2,by trivial,vO2⟩,(fun l hl=>⟨(gω2 l hl).1.mono (by trivial) (by trivial),(gω2 l hl).2⟩),f4⟩
    by_cases c:m=i
    ·rw [c,e];intro z;cases z
    ·exact hno m (by trivial)
  ·rintro σ J ⟨v4,rfl,hno,dw,do',gω,f2⟩
   rcases k with ⟨m,hm,hm',_⟩ | ⟨_,k⟩
   ·exact absurd hm' (hno m hm)
   obtain ⟨n',en⟩:∃n',ls.length=n'+1:=⟨ls.length - 1,by trivial⟩
   obtain ⟨l0,e0⟩:=Option.ne_none_iff_exists'.mp (hno n' (by trivial))
   have e1:(fU ts ls.length).lf=some l0:=by rw [en];exact e0
   refine nB _ _ ?_
   have sJ:=same_of f2
   have hvJ:aI ED J (.ref na) (iV ls ts):=hv.mono sJ.toE
   refine ⟨(),(),(),.ref na,O,ls,ts,fU ts ls.length,l0,_,by rw [e1];rfl,hvJ,tc,l10,do',BI.st (fun t ht=>(tc t ht).tok) _,e1,fun R us r H' rk lR s' fr' hr'=>?_⟩
   exact k R us r H' rk lR (sJ.trans s') (sJ.free fr') hr'
end
end K21
namespace K21
open PySem L2
set_option maxHeartbeats 8000000
abbrev pD (s:SD):PyData:=.tuple [.int s.n,.bool s.bk]
abbrev kT (l:List Nat):aY:=Sum.inr (S l)
structure Cs (e:List Nat) (ss:List SD) (pl:List (List Nat)) (cr:List Nat→List SD):Prop where
 nd:pl.Nodup
 hd:e∈pl
 ce:cr e=[]
 st:∀l∈pl,l≠e→∃c,c∈ss∧c.st=l∧c.en∈pl∧cr l=c :: cr c.en
def CB (F0:Hp) (P:Addr) (H:Hp) (C:Addr) (pl:List (List Nat)) (cr:List Nat→List SD):Prop:=∃kvs,H C=some (.dK kvs)∧kvs.map (·.1)=pl.map kT∧∀l∈pl,bI fun o ys=>valD kvs (kT l)=some (.ref o)∧(o≠P∧F0 o=none)∧H o=some (.lst ys)∧ah ED H ys ((cr l).map pD)
def CP (C P:Addr):Addr→Prop:=fun a=>a=C∨a=P
theorem ny {E:Addr→Prop}{H H':Hp} (s:bV E H H'):bV ED H H':=⟨fun _ _ n _=>absurd trivial n,s.tup⟩
theorem tY {kvs:List (aY×V)}{pl:List (List Nat)}{l:List Nat} (h:kvs.map (·.1)=pl.map kT):(valD kvs (kT l)).isSome=decide (l∈pl):=by
 unfold valD
 rw [Option.isSome_map]
 by_cases hl:l∈pl
 ·rw [decide_eq_true hl]
  have:kT l∈kvs.map (·.1):=by rw [h];exact List.mem_map_of_mem hl
  obtain ⟨kv,m,e⟩:=List.mem_map.mp this
  cases q:kvs.find? fun kv=>decide (kv.1=kT l) with
  | some _=>rfl
  | none=>exact absurd (decide_eq_true e) (by simpa using List.find?_eq_none.mp q kv m)
 ·rw [decide_eq_false hl]
  cases q:kvs.find? fun kv=>decide (kv.1=kT l) with
  | none=>rfl
  | some kv=>
   have m:=List.mem_of_find?_eq_some q
   have e:kv.1=kT l:=by simpa using List.find?_some q
   have:kT l∈pl.map kT:=by rw [←h,←e];exact List.mem_map_of_mem m
   obtain ⟨l',m',e'⟩:=List.mem_map.mp this
   exact absurd ((qV (Sum.inr.inj e'))▸m') hl
theorem F5 {kvs:List (aY×V)}{pl:List (List Nat)}{l:List Nat}{v:V} (h:kvs.map (·.1)=pl.map kT) (hl:l∉pl):(eM kvs (kT l) v).map (·.1)=(pl++[l]).map kT:=by
 unfold eM
 rw [if_neg,List.map_append,h,List.map_append];rfl
 intro z
 obtain ⟨kv,m,e⟩:=List.any_eq_true.mp z
 have e':kv.1=kT l:=of_decide_eq_true e
 have:kT l∈pl.map kT:=by rw [←h,←e'];exact List.mem_map_of_mem m
 obtain ⟨l',m',e2⟩:=List.mem_map.mp this
 exact hl ((qV (Sum.inr.inj e2))▸m')
theorem Cs.add {e:List Nat}{ss:List SD}{pl:List (List Nat)}{cr:List Nat→List SD}{c:SD} (h:Cs e ss pl cr) (hc:c∈ss) (he:c.en∈pl) (hn:c.st∉pl):Cs e ss (pl++[c.st]) (fun l=>if l=c.st then c :: cr c.en else cr l):=by
 have ne:∀{l},l∈pl→l≠c.st:=fun m z=>hn (z▸m)
 refine ⟨List.nodup_append.mpr ⟨h.nd,by simp,fun a ha b hb=>by rw [List.mem_singleton.mp hb];exact ne ha⟩,List.mem_append_left _ h.hd,by rw [if_neg (ne h.hd)];exact h.ce,fun l hl n=>?_⟩
 rcases List.mem_append.mp hl with m | m
 ·obtain ⟨d,a,b,q,r⟩:=h.st l m n
  exact ⟨d,a,b,List.mem_append_left _ q,by rw [if_neg (ne m),if_neg (ne q)];exact r⟩
 ·rw [List.mem_singleton.mp m]
  exact ⟨c,hc,rfl,List.mem_append_left _ he,by rw [if_pos rfl,if_neg (ne he)]⟩
def dW (cs:List SD) (l:List Nat):List (List Nat):=l :: cs.map (·.en)
theorem Cs.walk {e:List Nat}{ss:List SD}{pl:List (List Nat)}{cr:List Nat→List SD} (h:Cs e ss pl cr):∀(n:Nat) (l:List Nat),l∈pl→(cr l).length=n→(∀x∈dW (cr l) l,x∈pl∧(x=l∨(cr x).length<n))∧(dW (cr l) l).Nodup:=by
 intro n
 induction n with
 | zero=>
  intro l hl hn
  have:cr l=[]:=List.eq_nil_of_length_eq_zero hn
  rw [this]
  exact ⟨fun x hx=>by rw [show x=l by simpa [dW] using hx];exact ⟨hl,.inl rfl⟩,by simp [dW]⟩
 | succ n ih=>
  intro l hl hn
  by_cases q:l=e
  ·rw [q,h.ce] at hn;cases hn
  obtain ⟨c,a,b,m,r⟩:=h.st l hl q
  have hn':(cr c.en).length=n:=by rw [r,List.length_cons] at hn;trivial
  obtain ⟨i1,i2⟩:=ih c.en m hn'
  have e1:dW (cr l) l=l :: dW (cr c.en) c.en:=by rw [r];rfl
  have lt:∀x∈dW (cr c.en) c.en,x∈pl∧(cr x).length<n+1:=fun x hx=>by
   obtain ⟨m,z⟩:=i1 x hx
   refine ⟨m,?_⟩
   rcases z with z | z
   ·rw [z,hn'];trivial
   ·trivial
  rw [e1]
  refine ⟨fun x hx=>?_,List.nodup_cons.mpr ⟨fun z=>?_,i2⟩⟩
  ·rcases List.mem_cons.mp hx with z | z
   ·rw [z];exact ⟨hl,.inl rfl⟩
   ·exact ⟨(lt x z).1,.inr (lt x z).2⟩
  ·have:=(lt l z).2
   trivial
theorem Cs.len {e:List Nat}{ss:List SD}{pl:List (List Nat)}{cr:List Nat→List SD} (h:Cs e ss pl cr) (l:List Nat) (hl:l∈pl):(cr l).length≤pl.length:=by
 obtain ⟨a,b⟩:=h.walk _ l hl rfl
 have:=b.length_le_of_subset fun x hx=>(a x hx).1
 rw [dW,List.length_cons,List.length_map] at this
 trivial
section
variable {P:Program}{w:World}{K:PySem.W.Frag}{mg:Str→Option Value}{base:Heap}
inductive DQ (vs:List V) (H:Hp) (Q:VK):Prop
 | mk (sa:Addr) (e:List Nat) (xs:List V) (ss:List SD) (ls:List (List Nat)) (h0:vs=[.ref sa,.str (S e)]) (h1:H sa=some (.lst xs)) (h2:ah ED H xs (ss.map sD)) (h3:ss.length≤80) (h4:e∈ls) (h5:(∀s∈ss,s.st∈ls∧s.en∈ls)) (h6:ls.length≤10) (h7:∀P C pl cr H',aa H H'→H C=none→CB H P H' C pl cr→Cs e ss pl cr→(∀l∈pl,l∈ls)→(∀s∈ss,s.en∈pl→s.st∈pl)→Q (.ref C) H')
def ES:Sp:=fun vs H Q _=>DQ  vs H Q
theorem Aa (T:Txt K mg):aZ P w K mg base CX0 1 T.courses_to_.f T.courses_to_.d ["steps", "end"] ES:=by
 refine T.courses_to_.F.ok cv (fun vs H Q E h=>?_) (fun cdv A outer s H vs Q E hr h=>?_)
 ·obtain ⟨sa,e,xs,ss,ls,rfl,_⟩:=h
  rfl
 ·obtain ⟨sa,e,xs,ss,ls,rfl,hsa,ixs,lss,els,sls,lls,k⟩:=h
  refine ⟨_,#[#[2,cv.nd,dF,#[Gp 6 #[1,p9] #[aV 4 (@cj _)]]] :: #[#[3,cv.nd,f6,#[aV 4 #[[#[1,p9]]]]] :: #[#[4,cv.nd,jA,#[()]] :: #[#[tz 6 PassesOwn.never #[aK 8 (@re _) #[4,jA] #[(),(),(@kg _ (K) (by rfl)),wY,T.b_len,(@bY),#[[#[3,f6]]]] #[(),()]] #[#[jN 8 PassesOwn.never rfl (@bF _ (K) _ _ _ #[0,vH] (by rfl)) (@b4 _ (K) _ _ _ _ (6) rfl #[au 5 #[5,cv.nd,mL] #[au 5 #[6,cv.nd,oU] #[au 5 #[7,cv.nd,gF] #[au 5 #[8,cv.nd,jp] #[au 5 #[9,cv.nd,wE] #[au 5 #[10,cv.nd,wv] (@b3 _) (by rfl)] (by rfl)] (by rfl)] (by rfl)] (by rfl)] (by rfl)] (by rfl) (by rfl) (by rfl)) #[ae 3 #[bA 8 #[PW.pt 3 #[Aw 7 #[aK 8 (@ij _) #[8,jp] #[#[3,f6][#[4,jA]]!] #[(),()]] #[y9 4 #[aK 8 (@tV _) #[7,gF] #[2,dF] rfl]]]] #[#[dZ 6 #[aC 8 (@sZ _) #[aV 4 #[[#[ag 5 #[[#[5,mL],#[6,oU]]]]]]] #[b8 7 (@lE _) #[2,dF] #[8,jp] (fun _ _=>rfl)]] #[nS 7 #[2,dF] #[7,gF] (@xy _) (by intro _;rfl)] (by rfl) (by rfl) (by rfl)] :: #[ae 3 #[jo 4 (@fN _ (K) _ _ _ _ _ _ _ _ _ _ _ PySem.F.plainAttrs_list PySem.F.slot_list_append PySem.F.type_list_append (@fD _) #[3,f6] #[[#[7,gF]]] (by rfl) (by rfl) (by rfl) (by rfl) (by rfl) (by rfl)) (by rfl)]]] (@aQ _)]] (by intro _;rfl)] :: #[ae 3 #[Ii 2 (4) _ _ _ _ _ _ cv.nd rfl (Or.inl jA) #[()] (@JT _) (by first | exact .inl rfl | exact .inr rfl | assumption)]]]] :: #[ae 3 #[av 4 #[2,dF]]]]]]],?_⟩
  refine bv fun D1 m1=>fun C G1 n1=>⟨(),kT e,rfl,(by show 0≤10000;decide),fun c0 G2 n2=>⟨n2.sm _ _ n1.at',fun G3 c3=>m1 _ _ ?_⟩⟩
  refine bv fun D2 m2=>⟨(),(by show 1≤10000;decide),fun P G4 n4=>m2 _ _ ?_⟩
  refine bv fun D3 m3=>m3 _ _ ?_
  have fC:H C=none:=n1.fr
  have s02:aa H G2:=n1.sm.trans n2.sm
  have s03:aa H G3:=fun a o h=>c3.ol a o (fun z=>by rw [z,fC] at h;cases h) (s02 a o h)
  have s04:=s03.trans n4.sm
  have fP:H P=none:=s03.free n4.fr
  have nCP:C≠P:=fun z=>by have:=n4.fr;rw [←z,c3.at'] at this;cases this
  have nsC:sa≠C:=fun z=>by rw [z,fC] at hsa;cases hsa
  have nsP:sa≠P:=fun z=>by rw [z,fP] at hsa;cases hsa
  have hsa4:=s04 _ _ hsa
  have ixs4:=ixs.mono s04.toE
  have nc0:c0≠C:=fun z=>by have:=n2.fr;rw [z,n1.at'] at this;cases this
  have hc03:G3 c0=some (.lst []):=c3.ol _ _ nc0 n2.at'
  have nc0P:c0≠P:=fun z=>by have:=n4.fr;rw [←z,hc03] at this;cases this
  have cb0:CB H P G4 C [e] (fun _=>[]):=⟨[(kT e,.ref c0)],n4.sm _ _ c3.at',rfl,fun l hl=>⟨c0,[],by rw [List.mem_singleton.mp hl];exact F4,⟨nc0P,n1.sm.free n2.fr⟩,n4.sm _ _ hc03,.nil⟩⟩
  have out:∀{J:Hp},bV (CP C P) G4 J→aa H J:=fun s a o h=>s.old a o (fun z=>z.elim (fun z=>by rw [z,fC] at h;cases h) fun z=>by rw [z,fP] at h;cases h) (s04 a o h)
  let WI:Nat→St→Hp→Prop:=fun m σ J=>Lv fun (pl:List (List Nat)) (cr:List Nat→List SD) (i:Nat) (v5 v6 v7 v8 v9 v10:Option V)=>σ=[some (.ref sa),some (.str (S e)),some (.ref C),some (.ref P),some (.int (i:Int)),v5,v6,v7,v8,v9,v10]∧J P=some (.lst (pl.map aG))∧CB H P J C pl cr∧Cs e ss pl cr∧(∀l∈pl,l∈ls)∧i≤pl.length∧(∀s∈ss,(∃j,j<i∧pl[j]?=some s.en)→s.st∈pl)∧bV (CP C P) G4 J∧m=11 - i
  have pl10:∀{pl:List (List Nat)}{cr:List Nat→List SD},Cs e ss pl cr→(∀l∈pl,l∈ls)→pl.length≤10:=fun c h=>Nat.le_trans (c.nd.length_le_of_subset h) lls
  refine bv fun D4 m4=>⟨WI,⟨11,[e],fun _=>[],0,_,_,_,_,_,(),n4.at',cb0,⟨by simp,List.mem_singleton.mpr rfl,rfl,fun l hl n=>absurd (List.mem_singleton.mp hl) n⟩,fun l hl=>by rw [List.mem_singleton.mp hl];exact els,Nat.zero_le _,fun s _ ⟨j,h,_⟩=>absurd h (Nat.not_lt_zero _),bV.refl _,rfl⟩,?_⟩
  rintro m σ J ⟨pl,cr,i,v5,v6,v7,v8,v9,v10,rfl,hP,cb,cs,pls,hi,cl,sE,em⟩
  refine ⟨(),(),P,(),.inl (ak.of hP),_,(),rfl,(),mS (fun c=>?_) fun c=>?_⟩
  case refine_2=>
   have hle:pl.length≤i:=by
    have c':=c
    rw [decide_eq_true_eq,List.length_map] at c'
    trivial
   refine m4 _ _ ⟨(),k P C pl cr J (out sE) fC cb cs pls fun s hs he=>cl s hs ?_⟩
   obtain ⟨j,hj⟩:=List.mem_iff_getElem?.mp he
   exact ⟨j,by have:=(List.getElem?_eq_some_iff.mp hj).1;trivial,hj⟩
  have hlt:i<pl.length:=by
   have c':=of_decide_eq_true c
   rw [List.length_map] at c'
   trivial
  refine ⟨fun σ' J'=>∃m',m'<m∧WI m' σ' J',fun σ' J' z=>z,?_⟩
  obtain ⟨l0,hl0⟩:∃l0,pl[i]?=some l0:=⟨_,List.getElem?_eq_getElem hlt⟩
  have hl0m:=List.mem_of_getElem? hl0
  have h10:=pl10 cs pls
  have lxs:xs.length=ss.length:=by rw [ixs.length,List.length_map]
  have hsaJ:=sE.old sa _ (fun z=>z.elim nsC nsP) hsa4
  let FI:Nat→St→Hp→Prop:=fun j σ J'=>MI fun (pl':List (List Nat)) (cr':List Nat→List SD) (v5 v6 v7 v8 v9 v10:Option V)=>σ=[some (.ref sa),some (.str (S e)),some (.ref C),some (.ref P),some (.int (i:Int)),v5,v6,v7,v8,v9,v10]∧J' P=some (.lst (pl'.map aG))∧CB H P J' C pl' cr'∧Cs e ss pl' cr'∧(∀l∈pl',l∈ls)∧(∃ext,pl'=pl++ext)∧(∀(j':Nat) s,j'<j→ss[j']?=some s→s.en=l0→s.st∈pl')∧bV (CP C P) G4 J'
  refine bv fun D5 m5=>⟨(),sa,rfl,⟨_,ak.of hsaJ⟩,nv (xs:=xs) FI ⟨pl,cr,_,_,_,_,_,(),hP,cb,cs,pls,⟨[],(List.append_nil pl).symm⟩,fun j' s h=>absurd h (Nat.not_lt_zero _),sE⟩ (fun j σ J' _ ⟨_,_,_,_,_,_,_,_,_,_,_,_,_,_,_,s⟩=>ak.of (s.old sa _ (fun z=>z.elim nsC nsP) hsa4)) ?_ ?_⟩
  case refine_2=>
   rintro σ J' ⟨pl',cr',v5,v6,v7,v8,v9,v10,rfl,hP',cb',cs',pls',⟨ext,rfl⟩,cl',sE'⟩
   refine m5 _ _ ⟨(),_,(),rfl,_,?_,(pl++ext),cr',i+1,_,_,_,_,_,(),hP',cb',cs',pls',by rw [List.length_append];trivial,?_,sE',rfl⟩
   ·trivial
   ·intro s hs ⟨j,hj,ej⟩
    rcases Nat.lt_or_ge j i with h | h
    ·rw [List.getElem?_append_left (by trivial)] at ej
     exact List.mem_append_left _ (cl s hs ⟨j,h,ej⟩)
    ·have:j=i:=by trivial
     subst this
     rw [List.getElem?_append_left hlt,hl0] at ej
     obtain ⟨k',hk'⟩:=List.mem_iff_getElem?.mp hs
     exact cl' k' s (by have:=(List.getElem?_eq_some_iff.mp hk').1;trivial) hk' (by cases ej;rfl)
  rintro j x σ J1 hx ⟨pl1,cr1,v5,v6,v7,v8,v9,v10,rfl,hP1,cb1,cs1,pls1,⟨ext,epl⟩,cl1,sE1⟩
  obtain ⟨st,est⟩:∃st,ss[j]?=some st:=by
   have:j<ss.length:=by rw [←lxs];exact (List.getElem?_eq_some_iff.mp hx).1
   exact ⟨_,List.getElem?_eq_getElem this⟩
  have mst:=List.mem_of_getElem? est
  obtain ⟨y,ey,hy⟩:=(ixs4.mono (ny sE1)).get hx
  rw [List.getElem?_map,est] at ey
  cases ey
  obtain ⟨o,r,g,rfl,ho,hr1,hg1⟩:=jR hy
  have e1i:pl1[i]?=some l0:=by rw [epl,List.getElem?_append_left hlt,hl0]
  have next:∀(v5 v6 v7 v8 v9 v10:Option V) (J2:Hp) (pl2:List (List Nat)) (cr2:List Nat→List SD),J2 P=some (.lst (pl2.map aG))→CB H P J2 C pl2 cr2→Cs e ss pl2 cr2→(∀l∈pl2,l∈ls)→(∃ext,pl2=pl1++ext)→(st.en=l0→st.st∈pl2)→bV (CP C P) G4 J2→FI (j+1) [some (.ref sa),some (.str (S e)),some (.ref C),some (.ref P),some (.int (i:Int)),v5,v6,v7,v8,v9,v10] J2:=fun v5 v6 v7 v8 v9 v10 J2 pl2 cr2 a b c d ⟨ext2,e2⟩ f g=>⟨pl2,cr2,_,_,_,_,_,(),a,b,c,d,⟨ext++ext2,by rw [e2,epl,List.append_assoc]⟩,fun j' s hj hs he=>by
   rcases Nat.lt_or_ge j' j with h | h
   ·have:=cl1 j' s h hs he
    rw [e2];exact List.mem_append_left _ this
   ·have:j'=j:=by trivial
    subst this
    rw [est] at hs
    cases hs
    exact f he,g⟩
  refine ⟨o,(),ar.of ho,rfl,_,(),_,(),_,(),_,(),_,(),_,(),rfl,?_⟩
  dsimp only
  have eat:lL (pl1.map aG) (i:Int)=some (aG l0):=by
   exact aW (by rw [List.getElem?_map,e1i];rfl)
  refine ⟨(),(),(),P,_,_,(),rfl,ak.of hP1,eat,rfl,(),mS (fun c=>?_) fun c=>?_⟩
  case refine_2=>
   refine aJ (next _ _ _ _ _ _ _ _ _ hP1 cb1 cs1 pls1 ⟨[],(List.append_nil _).symm⟩ (fun z=>absurd (decide_eq_true (by rw [z])) c) sE1)
  have een:st.en=l0:=qV (by have:=of_decide_eq_true c;injection this)
  have cb1':=cb1
  obtain ⟨kvs,hC1,hk1,hv1⟩:=cb1'
  refine ⟨(),(),C,kvs,kT st.st,rfl,rfl,hC1,(),?_⟩
  rw [tY hk1]
  by_cases hin:st.st∈pl1
  ·rw [decide_eq_true hin]
   exact aJ (next _ _ _ _ _ _ _ _ _ hP1 cb1 cs1 pls1 ⟨[],(List.append_nil _).symm⟩ (fun _=>hin) sE1)
  rw [decide_eq_false hin]
  refine ay ?_
  have men:st.en∈pl1:=by rw [een,epl];exact List.mem_append_left _ hl0m
  obtain ⟨oc,yc,vc,ncP,hoc,ic⟩:=hv1 st.en men
  have lc1:=pl10 cs1 pls1
  have lkv:kvs.length=pl1.length:=by have:=congrArg List.length hk1;simpa using this
  have hyc:yc.length≤10:=by
   have:=cs1.len st.en men
   rw [ic.length,List.length_map]
   trivial
  refine bv fun D6 m6=>⟨(),(),(by show 2≤10000;decide),fun T K1 n1=>⟨(by show 1≤10000;decide),fun L1 K2 n2=>⟨(),(),C,kvs,kT st.en,(),rfl,n2.sm _ _ (n1.sm _ _ hC1),vc,L1,oc,_,(),rfl,n2.at',n2.sm _ _ (n1.sm _ _ hoc),by show 1+yc.length≤10000;trivial,fun p K3 n3=>⟨(),(),C,kvs,kT st.st,rfl,rfl,n3.sm _ _ (n2.sm _ _ (n1.sm _ _ hC1)),by trivial,fun K4 c4=>m6 _ _ ?_⟩⟩⟩⟩
  have s13:aa J1 K3:=(n1.sm.trans n2.sm).trans n3.sm
  have hC3:=s13 _ _ hC1
  have hP3:=s13 _ _ hP1
  have s34:bV (CP C P) K3 K4:=⟨fun a o n h=>c4.ol a o (fun z=>n (.inl z)) h,fun a us h=>c4.tp ⟨_,hC3⟩ a us h⟩
  have hP4:K4 P=some (.lst (pl1.map aG)):=c4.ol _ _ (Ne.symm nCP) hP3
  refine ⟨(),.inl ⟨rfl,_,ak.of hP4⟩,(),P,_,aG st.st,rfl,rfl,hP4,by rw [List.length_map];trivial,fun K5 c5=>?_⟩
  have s45:bV (CP C P) K4 K5:=⟨fun a o n h=>c5.ol a o (fun z=>n (.inr z)) h,fun a us h=>c5.tup h hP4⟩
  have s15:bV (CP C P) J1 K5:=(s13.toE.trans s34).trans s45
  have hC5:K5 C=some (.dK (eM kvs (kT st.st) (.ref p))):=c5.ol _ _ nCP c4.at'
  have npC:p≠C:=fun z=>by have:=n3.fr;rw [z,n2.sm _ _ (n1.sm _ _ hC1)] at this;cases this
  have npP:p≠P:=fun z=>by have:=n3.fr;rw [z,n2.sm _ _ (n1.sm _ _ hP1)] at this;cases this
  have fp0:H p=none:=(out sE1).free ((n1.sm.trans n2.sm).free n3.fr)
  have nTn:∀{a:Addr},CP C P a→K3 a≠none:=fun z=>z.elim (fun z=>by rw [z,hC3];exact fun q=>nomatch q) fun z=>by rw [z,hP3];exact fun q=>nomatch q
  have s35:=s34.trans s45
  have hp5:K5 p=some (.lst ([.ref T]++yc)):=s35.old p _ (fun z=>z.elim npC npP) n3.at'
  have hT5:K5 T=some (.tup [.int st.n,.bl st.bk]):=s35.tup _ _ (n3.sm _ _ (n2.sm _ _ n1.at'))
  refine next _ _ _ _ _ _ K5 (pl1++[st.st]) _ (by rw [List.map_append];exact c5.at') ⟨_,hC5,F5 hk1 hin,fun l hl=>?_⟩ (cs1.add mst men hin) (fun l hl=>?_) ⟨()⟩ (fun _=>List.mem_append_right _ (List.mem_singleton.mpr rfl)) (sE1.trans s15)
  ·rw [qO]
   by_cases q:l=st.st
   ·subst q
    rw [if_pos rfl]
    exact ⟨p,(),⟨npP,fp0⟩,hp5,by rw [if_pos rfl];exact .cons (.tup hT5 (.cons (.int _) (.cons (.bl _) .nil))) (ic.mono (ny s15))⟩
   ·rw [if_neg (yA q),if_neg q]
    have m:l∈pl1:=(List.mem_append.mp hl).elim id fun z=>absurd (List.mem_singleton.mp z) q
    obtain ⟨o',ys',a1,a2,a3,a4⟩:=hv1 l m
    exact ⟨o',ys',a1,a2,s15.old o' _ (fun z=>z.elim (fun z=>by rw [z,hC1] at a3;cases a3) a2.1) a3,a4.mono (ny s15)⟩
  ·rcases List.mem_append.mp hl with m | m
   ·exact pls1 l m
   ·rw [List.mem_singleton.mp m];exact (sls st mst).1
end
end K21
namespace K21
open PySem L2
set_option maxHeartbeats 8000000
theorem Fk {α β:Type}{c:α→Bool}{f:α→β}{ds:List α}{i:Nat}{d:α} (h:ds[i]?=some d):((ds.take (i+1)).filter c).map f=((ds.take i).filter c).map f++(if c d=true then [f d] else []):=by
 rw [List.take_add_one,h,List.filter_append,List.map_append]
 congr 1
 show ([d].filter c).map f=_
 by_cases q:c d=true
 ·rw [if_pos q,List.filter_cons_of_pos q];rfl
 ·rw [if_neg q,List.filter_cons_of_neg q];rfl
theorem fV {K:PySem.W.Frag}{α:Type}{a D:Addr}{xs:List V}{ds:List α}{H1:Hp}{σc:St}{g:TG}{tt:TT}{te:TE}{Q:VK} (dt:α→PyData) (c:α→Bool) (f:α→PyData) (hz:xs.length≤10000) (hD:H1 D=none) (ha:H1 a=some (.lst xs)) (ixs:ah ED H1 xs (ds.map dt))
 (hs:∀(i:Nat) (x:V) (d:α) (H':Hp) (R1:VK) (R2:Hp→Prop),xs[i]?=some x→ds[i]?=some d→aI ED H' x (dt d)→aa H1 H'→(c d=true→∀y H4,aa H' H4→aI ED H4 y (f d)→R1 y H4)→(c d=false→∀H4,aa H' H4→R2 H4)→g x σc H' fun σ2 H2=>ja σc σ2∧tt σ2 H2 fun b H3=>if b=true then te σ2 H3 R1 else R2 H3)
 (hd:∀H' ys,aa H1 H'→H' D=some (.lst ys)→ah ED H' ys ((ds.filter c).map f)→Q (.ref D) H'):tM (Cw K a) σc g tt te D H1 Q:=by
 have lxs:xs.length=ds.length:=by rw [ixs.length,List.length_map]
 refine nX (n:=xs.length) (fun i H' ys=>H' D=some (.lst ys)∧ys.length≤i∧ah ED H' ys (((ds.take i).filter c).map f)∧aa H1 H') (by rw [sizeLine_eq];trivial) ⟨aA,Nat.le_refl _,.nil,aa.new hD⟩ ?_ ?_ ?_ ?_ ?_
 ·rintro i H' ys ⟨h1,h2,_⟩
  exact ⟨h1,h2⟩
 ·rintro i H' ys hi ⟨_,_,_,sm⟩
  exact ⟨xs,xs[i],ak.of (sm _ _ ha),List.getElem?_eq_getElem hi⟩
 ·rintro H' ys ⟨_,_,_,sm⟩
  exact ⟨xs,ak.of (sm _ _ ha),Nat.le_refl _⟩
 ·rintro i H' ys x H'' hi ⟨h1,h2,h3,sm⟩ ⟨rfl,ex⟩
  have hx:=ex xs (ak.of (sm _ _ ha))
  obtain ⟨d,ed⟩:∃d,ds[i]?=some d:=⟨_,List.getElem?_eq_getElem (show i<ds.length by trivial)⟩
  obtain ⟨y,ey,hy⟩:=(ixs.mono sm.toE).get hx
  rw [List.getElem?_map,ed] at ey
  cases ey
  have tf:=Fk (c:=c) (f:=f) ed
  refine hs i x d _ _ _ hx ed hy sm (fun hc y H4 s4 hy4=>⟨s4 _ _ h1,aA,?_,?_,?_⟩) (fun hc H4 s4=>⟨s4 _ _ h1,by trivial,?_,sm.trans s4⟩)
  ·rw [List.length_append];exact Nat.add_le_add_right h2 1
  ·rw [tf,if_pos hc]
   exact m9 .mk' (s4 _ _ h1) (h3.mono s4.toE) hy4
  ·exact c7 hD (sm.trans s4)
  ·rw [tf,if_neg (by rw [hc];exact Bool.false_ne_true),List.append_nil]
   exact h3.mono s4.toE
 ·rintro H' ys ⟨h1,h2,h3,sm⟩
  rw [lxs,List.take_length] at h3
  exact hd H' ys sm h1 h3
theorem Ka {a b c d e f:V}{r:St}:ja (none :: none :: none :: none :: none :: none :: r) (some a :: some b :: some c :: some d :: some e :: some f :: r):=⟨rfl,fun i v h=>by
 match i with
 | 0=>cases h
 | 1=>cases h
 | 2=>cases h
 | 3=>cases h
 | 4=>cases h
 | 5=>cases h
 | i+6=>exact h⟩
theorem AE {E:Addr→Prop}{H:Hp}:∀ls:List (List Nat),ah E H (ls.map aG) (ls.map fun l=>.str (S l))
 | []=>.nil
 | l :: r=>.cons (.str _) (AE r)
abbrev dU (s:SD):ap:=⟨s.st,s.en,s.room,s.gain,(0,1)⟩
def f8 (ss:List SD) (pl:List (List Nat)):List SD:=ss.filter fun s=>decide (s.en∈pl)
structure Iu (ls:List (List Nat)) (s:SD):Prop where
 b:s.st∈ls
 e:s.en∈ls
 ne:s.st≠s.en
 r:Gb 1900 1900 s.room
 g:Gb 6 6 s.gain
 g1:1≤s.gain.1
 r0:1≤s.room.1
theorem CJ {near:List SD}:∀{R:List Nat}{us:List ap},R.map (fun k=>(near.map dU)[k]?)=us.map some→∃rs:List SD,R.map (fun k=>near[k]?)=rs.map some∧us=rs.map dU
 | [],us,h=>⟨[],rfl,by cases us with | nil=>rfl | cons _ _=>cases h⟩
 | k :: R,[],h=>by cases h
 | k :: R,u :: us,h=>by
  rw [List.map_cons,List.map_cons,List.cons.injEq] at h
  obtain ⟨rs,a,b⟩:=CJ h.2
  have h1:=h.1
  rw [List.getElem?_map] at h1
  obtain ⟨s,e,f⟩:=Option.map_eq_some_iff.mp h1
  exact ⟨s :: rs,by rw [List.map_cons,List.map_cons,a,e],by rw [List.map_cons,f,b]⟩
theorem A9 {E:Addr→Prop}{H:Hp}:∀R:List Nat,ah E H (xk R) (R.map fun i:Nat=>.int (i:Int))
 | []=>.nil
 | i :: r=>.cons (.int _) (A9 r)
def E8 (near:List SD) (i:Nat):PyData:=match near[i]? with
 | some s=>sD s
 | none=>.none
theorem HU {near rs:List SD}{R:List Nat} (h:R.map (fun k=>near[k]?)=rs.map some):R.map (E8 near)=rs.map sD:=by
 have:R.map (E8 near)=(R.map (fun k=>near[k]?)).map fun o=>match o with
  | some s=>sD s
  | none=>.none:=by rw [List.map_map];rfl
 rw [this,h,List.map_map];rfl
theorem IB {near rs:List SD}{R:List Nat} (h:R.map (fun k=>near[k]?)=rs.map some) {k:Nat} (hk:k∈R):∃s,near[k]?=some s∧s∈rs:=by
 have:near[k]?∈rs.map some:=by rw [←h];exact List.mem_map_of_mem hk
 obtain ⟨s,m,e⟩:=List.mem_map.mp this
 exact ⟨s,e.symm,m⟩
section
variable {P:Program}{w:World}{K:PySem.W.Frag}{mg:Str→Option Value}{base:Heap}
structure wM (ss:List SD) (pl:List (List Nat)) (rs:List SD):Prop where
 sub:∀s∈rs,s∈ss∧s.st∈pl∧s.en∈pl
 two:2≤rs.length
 ten:rs.length≤10
 nd:(rs.map (·.st)).Nodup
 rot:rs.map (·.en)=(rs.map (·.st)).drop 1++(rs.map (·.st)).take 1
 gain:1<fI (rs.map dU)
inductive Kd (vs:List V) (H:Hp) (Q:VK):Prop
 | mk (sa C P:Addr) (e:List Nat) (xs:List V) (ss:List SD) (ls pl:List (List Nat)) (cr:List Nat→List SD) (h0:vs=[.ref sa,.ref C]) (h1:H sa=some (.lst xs)) (h2:ah ED H xs (ss.map sD)) (h3:ss.length≤48) (h4:(∀s∈ss,Iu ls s)) (h5:ls.length≤10) (h6:(∀l∈pl,l∈ls)) (h7:(∃F0,CB F0 P H C pl cr)) (h8:Cs e ss pl cr) (h9:(∀s∈ss,s.en∈pl→s.st∈pl)) (h10:(∀m H',m<pl.length→(fU ((f8 ss pl).map dU) (m+1)).lf=none→aa H H'→Q .non H')) (h11:(∀L ys rs H',wM ss pl rs→aa H H'→H' L=some (.lst ys)→ah ED H' ys (rs.map sD)→Q (.ref L) H'))
def Mj:Sp:=fun vs H Q _=>Kd  vs H Q
theorem xP (T:Txt K mg):aZ P w K mg base CX0 6 T.gaining_ring_.f T.gaining_ring_.d ["steps", "courses"] Mj:=by
 have G_gaining_round:=#[(wV)]
 refine T.gaining_ring_.F.ok jH (fun vs H Q E h=>?_) (fun cdv A outer s H vs Q E hr h=>?_)
 ·obtain ⟨sa,C,P,e,xs,ss,ls,pl,cr,rfl,_⟩:=h
  rfl
 ·obtain ⟨sa,C,P,e,xs,ss,ls,pl,cr,rfl,hsa,ixs,lss,gss,lls,pls,cb,cs,cl,k1,k2⟩:=h
  obtain ⟨F0,kvs,hC,hk,hv⟩:=cb
  have lxs:xs.length=ss.length:=by rw [ixs.length,List.length_map]
  refine ⟨_,#[#[jh 2 (2) _ _ _ _ jH.nd rfl (Or.inr mR) #[b5 7 (["step", "courses"]) (1) ([1]) _ _ _ _ rfl (by kernel_rfl) (@bF _ (K) _ _ _ #[0,tO] (by rfl)) (fun _ _ _ _ _ _=>#[0,(),()]) (fun _ _ _ _ _ _=>#[tL 3 #[aK 8 (@Cz _) #[#[0,()][#[()]]] #[1,0] rfl]]) (fun _ _ _ _ _ _=>#[0,()]) (by intro _;rfl)] (by rfl) (by first | exact .inl rfl | exact .inr rfl | assumption)] :: #[#[3,jH.nd,mN,#[fe 9 (@fM _ (K) (by rfl)) lZ T.b_tuple (@cJ) #[[#[b5 7 (["number", "back", "begin", "onward", "room", "gain"]) (6) ([]) _ _ _ _ rfl (by kernel_rfl) (@bF _ (K) _ _ _ #[2,(mR)] (by rfl)) (fun _ _ _ _ _ _=>(@b4 _ (K) _ _ _ _ (6) rfl #[au 5 #[0,(),()] #[au 5 #[1,(),()] #[au 5 #[2,(),()] #[au 5 #[3,(),()] #[au 5 #[4,(),()] #[au 5 #[5,(),()] (@b3 _) (by rfl)] (by rfl)] (by rfl)] (by rfl)] (by rfl)] (by rfl)] (by rfl) (by rfl) (by rfl))) (fun _ _ _ _ _ _=>@bE _) (fun _ _ _ _ _ _=>#[ag 5 #[[#[2,()],#[3,()],#[4,()],#[5,()],#[ag 5 #[[#[()],#[()]]]]]]]) (by intro _;rfl)]]] (by decide) (by decide) (by rfl) (by rfl)]] :: #[#[4,jH.nd,gY,#[G_gaining_round,nr,T.gaining_round_,#[[#[ag 5 #[[#[fe 9 (@EW _ rfl) lZ T.b_tuple (@cJ) #[[#[1,(rK)]]] (by decide) (by decide) (by rfl) (by rfl)],#[3,mN]]]]]]]] :: #[#[bA 8 #[aK 8 (@vh _) #[4,gY] #[j9 3] #[(),()]] #[ae 3 #[av 4 #[j9 3]]] (@aQ _)] :: #[ae 3 #[av 4 #[b5 7 (["number", "near"]) (1) ([2]) _ _ _ _ rfl (by kernel_rfl) (@bF _ (K) _ _ _ #[4,gY] (by rfl)) (fun _ _ _ _ _ _=>#[0,(),()]) (fun _ _ _ _ _ _=>@bE _) (fun _ _ _ _ _ _=>#[#[1,0][#[0,()]]!]) (by intro _;rfl)]]]]]]],?_⟩
  refine bv fun D1 m1=>⟨(),sa,rfl,⟨xs,ak.of hsa⟩,fun D hD=>fV (ds:=ss) sD (fun s=>decide (s.en∈pl)) sD (by trivial) hD hsa ixs ?_ ?_⟩
  ·intro i x st H' R1 R2 hx ed hy sm q1 q2
   obtain ⟨o,r,g,rfl,ho,hr1,hg1⟩:=jR hy
   refine ⟨eH,(),o,_,_,(),rfl,ar.of ho,rfl,(),C,kvs,kT st.en,rfl,rfl,sm _ _ hC,(),?_⟩
   rw [show (if false=true then !(valD kvs (kT st.en)).isSome else (valD kvs (kT st.en)).isSome)=decide (st.en∈pl) from tY hk]
   exact mS (fun z=>⟨(),q1 z _ _ (aa.refl _) hy⟩) fun z=>q2 (by simpa using z) _ (aa.refl _)
  intro H2 ns s2 hD2 ins
  rw [show (ss.filter fun s=>decide (s.en∈pl))=f8 ss pl from rfl] at ins
  have ln:(f8 ss pl).length≤48:=Nat.le_trans (List.length_filter_le ..) lss
  have lns:ns.length=(f8 ss pl).length:=by rw [ins.length,List.length_map]
  have mn:∀s∈f8 ss pl,s∈ss∧s.st∈pl∧s.en∈pl:=fun s hs=>by
   obtain ⟨a,b⟩:=List.mem_filter.mp hs
   have b':=of_decide_eq_true b
   exact ⟨a,cl s a b',b'⟩
  refine m1 _ _ ?_
  refine bv fun D2 m2=>⟨(),D,rfl,⟨ns,ak.of hD2⟩,fun Z hZ=>fV (ds:=f8 ss pl) sD (fun _=>true) (fun s=>jx (dU s)) (by trivial) hZ hD2 ins ?_ ?_⟩
  ·intro i x st H' R1 R2 hx ed hy sm q1 q2
   obtain ⟨o,r,g,rfl,ho,hr1,hg1⟩:=jR hy
   refine ⟨o,(),ar.of ho,rfl,_,(),_,(),_,(),_,(),_,(),_,(),rfl,Ka,?_⟩
   exact ay (B:=R2 H') ⟨(),(),(),(),(by show 2≤10000;decide),fun z J1 n1=>⟨(by show 5≤10000;decide),fun y J2 n2=>q1 rfl _ _ (n1.sm.trans n2.sm) (.tup n2.at' (.cons (.str _) (.cons (.str _) (.cons (cB (n2.sm _ _ (n1.sm _ _ hr1))) (.cons (cB (n2.sm _ _ (n1.sm _ _ hg1))) (.cons (cB (p:=(0,1)) (n2.sm _ _ n1.at')) .nil))))))⟩⟩
  intro H3 zs s3 hZ3 iz
  rw [show (f8 ss pl).filter (fun _=>true)=f8 ss pl from List.filter_eq_self.mpr fun _ _=>rfl] at iz
  refine ⟨Z,zs,rfl,ak.of hZ3,fun t H4 n4=>m2 _ _ ?_⟩
  have s24:aa H2 H4:=s3.trans n4.sm
  have s04:aa H H4:=s2.trans s24
  have hD4:=s24 _ _ hD2
  have in4:=ins.mono s24.toE
  have itz:=iz.mono n4.sm.toE
  have hk2:(kvs.map fun q=>gk q.1)=pl.map aG:=by
   have:=congrArg (List.map gk) hk
   rw [List.map_map,List.map_map] at this
   exact this
  have pl10:pl.length≤10:=Nat.le_trans (cs.nd.length_le_of_subset pls) lls
  have tg:∀t∈(f8 ss pl).map dU,Ba pl t:=fun t ht=>by
   obtain ⟨s,hs,rfl⟩:=List.mem_map.mp ht
   obtain ⟨a,b,c⟩:=mn s hs
   have g:=gss s a
   exact ⟨b,c,g.ne,g.r,g.g,g.g1⟩
  have netI:∀{pa na:Addr}{J J':Hp},aa H4 J→J pa=some (.tup (kvs.map fun q=>gk q.1))→Nw J na (.tup [.ref pa,.ref t]) J'→aI ED J' (.ref na) (iV pl ((f8 ss pl).map dU)):=fun {pa na J J'} sJ hp nn=>by
   refine .tup nn.at' (.cons (.tup (nn.sm _ _ (hk2▸hp)) ?_) (.cons (.tup (nn.sm _ _ (sJ _ _ n4.at')) ?_) .nil))
   ·exact AE pl
   ·rw [List.map_map]
    exact itz.mono (sJ.trans nn.sm).toE
  refine tX fun D3 m3 r3=>⟨(),C,kvs,rfl,s04 _ _ hC,fun pa H5 n5=>⟨(),(by show 2≤10000;decide),fun na H6 n6=>⟨.ref na,pl,(),netI n5.sm n5.at' n6,tg,by rw [List.length_map];exact ln,List.length_pos_of_mem cs.hd,pl10,?_⟩⟩⟩
  have s06:aa H H6:=(s04.trans n5.sm).trans n6.sm
  have s46:aa H4 H6:=n5.sm.trans n6.sm
  by_cases hx:∃m,m<pl.length∧(fU ((f8 ss pl).map dU) (m+1)).lf=none
  ·obtain ⟨m,hm,hl⟩:=hx
   refine .inl ⟨m,hm,hl,fun H7 s7=>m3 _ _ ?_⟩
   refine tX fun D4 m4 r4=>⟨(),rfl,(),ay (r4 _ _ (k1 m H7 hm hl (s06.trans s7)))⟩
  refine .inr ⟨fun m hm hl=>hx ⟨m,hm,hl⟩,fun R us r H7 rnd lR s7 fr7 h7=>m3 _ _ ?_⟩
  refine tX fun D4 m4 r4=>⟨(),rfl,(),aJ (m4 _ _ ?_)⟩
  obtain ⟨rs,e1,rfl⟩:=CJ rnd.at'
  have lrs:R.length=rs.length:=by have:=congrArg List.length e1;simpa using this
  have rg:wM ss pl rs:=⟨fun s hs=>mn s ?_,by have:=rnd.two;trivial,by trivial,by have:=rnd.nd;rwa [List.map_map] at this,by have:=rnd.rot;rwa [List.map_map,List.map_map] at this,rnd.gain⟩
  ·have s27:aa H2 H7:=(s24.trans s46).trans s7
   refine ⟨(),r,rfl,⟨xk R,ak.of h7⟩,fun Y hY=>fV (ds:=R) (fun i:Nat=>.int (i:Int)) (fun _=>true) (E8 (f8 ss pl)) (by rw [List.length_map];trivial) hY h7 (A9 R) ?_ ?_⟩
   ·intro i x kk H' R1 R2 hx ed hy sm q1 q2
    cases hy
    obtain ⟨s,es,ms⟩:=IB e1 (List.mem_of_getElem? ed)
    have isn:=ins.mono (s27.trans sm).toE
    obtain ⟨v,ev⟩:∃v,ns[kk]?=some v:=⟨_,List.getElem?_eq_getElem (show kk<ns.length by rw [lns];exact (List.getElem?_eq_some_iff.mp es).1)⟩
    obtain ⟨y,ey,iv⟩:=isn.get ev
    rw [List.getElem?_map,es] at ey
    cases ey
    refine ⟨eH,ay (B:=R2 H') ⟨(),(),D,_,_,(),rfl,ak.of (sm _ _ (s7 _ _ (s46 _ _ hD4))),aW ev,q1 rfl _ _ (aa.refl _) ?_⟩⟩
    rw [show E8 (f8 ss pl) kk=sD s by unfold E8;rw [es]]
    exact iv
   ·intro H8 ys s8 hY8 iy
    rw [show R.filter (fun _=>true)=R from List.filter_eq_self.mpr fun _ _=>rfl,HU e1] at iy
    exact k2 Y ys rs H8 rg ((s06.trans s7).trans s8) hY8 iy
  ·have:some s∈R.map fun k=>(f8 ss pl)[k]?:=by rw [e1];exact List.mem_map_of_mem hs
   obtain ⟨k,_,hk⟩:=List.mem_map.mp this
   exact List.mem_of_getElem? hk
end
end K21
namespace K21
open PySem L2
set_option maxHeartbeats 8000000
theorem AM:∀{ks:List Int}{k:Int},k∈ks→∃j:Nat,ks[j]?=some k∧∀m:Nat,m<j→ks[m]?≠some k
 | x :: ks,k,h=>by
  by_cases q:x=k
  ·exact ⟨0,by rw [q];rfl,fun m h=>absurd h (Nat.not_lt_zero _)⟩
  ·have h':k∈ks:=(List.mem_cons.mp h).elim (fun z=>absurd z.symm q) id
   obtain ⟨j,a,b⟩:=AM h'
   refine ⟨j+1,by rw [List.getElem?_cons_succ];exact a,fun m hm=>?_⟩
   cases m with
   | zero=>intro z;rw [List.getElem?_cons_zero] at z;exact q (Option.some.inj z)
   | succ m=>rw [List.getElem?_cons_succ];exact b m (by trivial)
theorem A5 {E:Addr→Prop}{H:Hp}:∀{vs:List V}{ks:List Int},ah E H vs (ks.map PyData.int)→vs=ks.map V.int
 | [],[],_=>rfl
 | [],_ :: _,h=>by cases h
 | _ :: _,[],h=>by cases h
 | v :: vs,k :: ks,h=>by
  cases h with
  | cons a b=>
  cases a
  rw [A5 b];rfl
theorem Em {ys:List V} (j:Nat):k9 ys (some (j:Int)) none=ys.drop j:=by
 unfold k9
 rw [HT.sIx_none,HT.sIx_nat]
 by_cases h:j≤ys.length
 ·rw [Nat.min_eq_left h]
  exact List.take_of_length_le (by rw [List.length_drop];trivial)
 ·rw [Nat.min_eq_right (by trivial),List.drop_eq_nil_of_le (Nat.le_refl _),List.drop_eq_nil_of_le (by trivial),List.take_nil]
theorem G6 {α:Type} (k:Nat) (A B:List α) (h:B=A.drop 1++A.take 1) (hk:k<A.length):B.drop k++B.take k=(A.drop k++A.take k).drop 1++(A.drop k++A.take k).take 1:=by
 subst h
 cases k with
 | zero=>simp
 | succ k=>
  cases A with
  | nil=>cases hk
  | cons x A=>
   have hk':k<A.length:=by rw [List.length_cons] at hk;trivial
   obtain ⟨y,ys,e⟩:bI fun y ys=>A.drop k=y :: ys:=by
    cases q:A.drop k with
    | nil=>have:=congrArg List.length q;rw [List.length_drop] at this;simp at this;trivial
    | cons y ys=>exact ⟨y,ys,rfl⟩
   have e2:A.drop (k+1)=ys:=by
    have:=congrArg (List.drop 1) e
    rw [List.drop_drop] at this
    simpa [Nat.add_comm] using this
   have e3:A.take (k+1)=A.take k++[y]:=by
    rw [List.take_add_one]
    have:A[k]?=some y:=by
     have:=congrArg (fun z=>z[0]?) e
     simpa using this
    rw [this];rfl
   show (A++[x]).drop (k+1)++(A++[x]).take (k+1)=(A.drop k++x :: A.take k).drop 1++(A.drop k++x :: A.take k).take 1
   rw [List.drop_append_of_le_length (by trivial),List.take_append_of_le_length (by trivial),e2,e3,e]
   simp
theorem wM.turn {ss rs:List SD}{pl:List (List Nat)} (h:wM ss pl rs) (k:Nat) (hk:k<rs.length):wM ss pl (rs.drop k++rs.take k):=by
 have pm:(rs.drop k++rs.take k).Perm rs:=by
  have:=List.perm_append_comm (l₁:=rs.drop k) (l₂:=rs.take k)
  rwa [List.take_append_drop] at this
 refine ⟨fun s hs=>h.sub s (pm.mem_iff.mp hs),by rw [pm.length_eq];exact h.two,by rw [pm.length_eq];exact h.ten,(pm.map _).nodup_iff.mpr h.nd,?_,?_⟩
 ·rw [List.map_append,List.map_append,List.map_drop,List.map_take,List.map_drop,List.map_take]
  exact G6 k _ _ h.rot (by rw [List.length_map];exact hk)
 ·rw [List.map_append,zb,Rat.mul_comm,←zb,←List.map_append,List.take_append_drop]
  exact h.gain
section
variable {P:Program}{w:World}{K:PySem.W.Frag}{mg:Str→Option Value}{base:Heap}
inductive Jl (vs:List V) (H:Hp) (Q:VK):Prop
 | mk (v:V) (sa:Addr) (ls:List (List Nat)) (ts:List ap) (xs:List V) (ps:List KM.Fra) (f e:List Nat) (h0:vs=[v,.str (S f),.str (S e),.ref sa]) (h1:aI ED H v (iV ls ts)) (h2:(∀t∈ts,kG ls t)) (h3:ts.length≤24) (h4:H sa=some (.lst xs)) (h5:ah ED H xs (ps.map aN)) (h6:ps.length=ts.length) (h7:(∀p∈ps,Gb 1894 1876 p)) (h8:(∀s∈aj ts ps ts.length,Iu ls s)) (h9:e∈ls) (h10:ls.length≤10) (h11:(∀T p ys pl cr H',Cs e (aj ts ps ts.length) pl cr→f∈pl→aa H H'→H' T=some (.tup [.str (Str.ofString "way"),.ref p])→H p=none→H' p=some (.lst ys)→ah ED H' ys ((cr f).map pD)→Q (.ref T) H')) (h12:(∀pl cr m H',Cs e (aj ts ps ts.length) pl cr→(∀l∈pl,l∈ls)→(∀s∈aj ts ps ts.length,s.en∈pl→s.st∈pl)→f∉pl→m<pl.length→(fU ((f8 (aj ts ps ts.length) pl).map dU) (m+1)).lf=none→aa H H'→Q .non H')) (h13:(∀T p q ys zs pl cr r0 rs H',Cs e (aj ts ps ts.length) pl cr→wM (aj ts ps ts.length) pl (r0 :: rs)→(∀l∈pl,l∈ls)→(∀s∈aj ts ps ts.length,s.en∈pl→s.st∈pl)→f∉pl→(∀s∈r0 :: rs,(cr r0.st).length≤(cr s.st).length)→aa H H'→H' T=some (.tup [.str (Str.ofString "ring"),.ref p,.ref q])→H p=none→H q=none→p≠q→H' p=some (.lst ys)→ah ED H' ys ((r0 :: rs).map pD)→H' q=some (.lst zs)→ah ED H' zs ((cr r0.st).map pD)→Q (.ref T) H'))
def Lh:Sp:=fun vs H Q _=>Jl  vs H Q
theorem pY (T:Txt K mg):aZ P w K mg base CX0 8 T.bettering_.f T.bettering_.d ["net", "begin", "end", "stream"] Lh:=by
 have G_left_steps:=#[(uv)]
 have G_courses_to:=#[(Aa)]
 have G_gaining_ring:=#[(xP)]
 refine T.bettering_.F.ok fT (fun vs H Q E h=>?_) (fun cdv A outer s H vs Q E hr h=>?_)
 ·obtain ⟨v,sa,ls,ts,xs,ps,f,e,rfl,_⟩:=h
  rfl
 ·obtain ⟨v,sa,ls,ts,xs,ps,f,e,rfl,iN,tc,l24,hsa,ixs,lps,gp,gss,els,l10,k1,k2,k3⟩:=h
  have lss:(aj ts ps ts.length).length≤48:=Nat.le_trans (pC ts ps ts.length) (by trivial)
  refine ⟨_,#[#[4,fT.nd,kF,#[G_left_steps,rA,T.left_steps_,#[[#[0,xN],#[3,vm]]]]] :: #[#[jh 2 (5) _ _ _ _ fT.nd rfl (Or.inr dX) #[G_courses_to,rW,T.courses_to_,#[[#[4,kF],#[2,ya]]]] (by rfl) (by first | exact .inl rfl | exact .inr rfl | assumption)] :: #[#[bA 8 #[aK 8 (@Cz _) #[1,pc] #[5,(dX)] rfl] #[ae 3 #[av 4 #[ag 5 #[[#[da 4],#[b8 7 (@lE _) #[5,(dX)] #[1,pc] (fun _ _=>rfl)]]]]]] (@aQ _)] :: #[#[6,fT.nd,d9,#[G_gaining_ring,pS,T.gaining_ring_,#[[#[4,kF],#[5,(dX)]]]]] :: #[#[bA 8 #[aK 8 (@vh _) #[6,d9] #[j9 3] #[(),()]] #[ae 3 #[av 4 #[j9 3]]] (@aQ _)] :: #[#[pi 7 (["step", "courses"]) (1) ([5]) _ _ _ _ (7) _ _ _ fT.nd rfl jv (by kernel_rfl) rfl (by kernel_rfl) (@bF _ (K) _ _ _ #[6,d9] (by rfl)) (fun _ _ _ _ _ _=>#[0,(),()]) (fun _ _ _ _ _ _=>@bE _) (fun _ _ _ _ _ _=>#[(),(),(@kg _ (K) (by rfl)),(by show _=_;kernel_rfl),T.b_len,(@bY),#[[#[b8 7 (@lE _) #[1,0] #[#[0,()][#[()]]] (fun _ _=>rfl)]]]]) (by intro _;rfl)] :: #[#[8,fT.nd,ie,(@fN _ (K) _ _ _ _ _ _ _ _ _ _ _ PySem.F.plainAttrs_list PySem.F.slot_list_index PySem.F.type_list_index (@DU _) #[7,jv] #[[#[(),(),(@Ex _ rfl),yi,T.b_min,(@DG),#[[#[7,jv]]]]]] (by rfl) (by rfl) (by rfl) (by rfl) (by rfl) (by rfl))] :: #[#[pi 7 (["step"]) (1) ([]) _ _ _ _ (9) _ _ _ fT.nd rfl oX (by kernel_rfl) rfl (by kernel_rfl) (@bF _ (K) _ _ _ #[aC 8 (@sZ _) #[k6 10 (@pZ _ (K) (by rfl)) #[6,d9] #[lK 3 #[8,ie]] (@pI _)] #[k6 10 (@pZ _ (K) (by rfl)) #[6,d9] (@pI _) #[lK 3 #[8,ie]]]] (by rfl)) (fun _ _ _ _ _ _=>#[0,(),()]) (fun _ _ _ _ _ _=>@bE _) (fun _ _ _ _ _ _=>#[ag 5 #[[#[#[0,()][#[()]]],#[#[0,()][#[()]]]]]]) (by intro _;rfl)] :: #[ae 3 #[av 4 #[ag 5 #[[#[da 4],#[9,oX],#[b8 7 (@lE _) #[5,(dX)] #[#[#[6,d9][#[8,ie]]!][#[()]]] (fun _ _=>rfl)]]]]]]]]]]]]]],?_⟩
  refine bv fun D1 m1=>⟨(),(),v,sa,ls,ts,xs,ps,1894,1876,rfl,iN,tc,by trivial,hsa,ixs,lps,gp,by decide,by decide,fun L zs H1 s1 fL hL iL=>m1 _ _ ?_⟩
  generalize aj ts ps ts.length=ss at *
  refine bv fun D2 m2=>⟨(),(),L,e,zs,ss,ls,rfl,hL,iL,by trivial,els,fun s hs=>⟨(gss s hs).b,(gss s hs).e⟩,l10,fun P C pl cr H2 s2 fC cb cs pls cl=>m2 _ _ ?_⟩
  have cb':=cb
  obtain ⟨kvs,hC,hk,hv⟩:=cb'
  have s02:=s1.trans s2
  refine tX fun D3 m3 r3=>⟨(),(),C,kvs,kT f,rfl,rfl,hC,(),?_⟩
  rw [show (if false=true then !(valD kvs (kT f)).isSome else (valD kvs (kT f)).isSome)=decide (f∈pl) from tY hk]
  refine mS (fun z=>?_) fun z=>?_
  ·have hf:=of_decide_eq_true z
   obtain ⟨o,ys,vo,fo,ho,io⟩:=hv f hf
   exact ⟨(),(),C,kvs,kT f,(),rfl,hC,vo,(by show 2≤10000;decide),fun T H3 n3=>r3 _ _ (k1 T o ys pl cr H3 cs hf (s02.trans n3.sm) n3.at' (s1.free fo.2) (n3.sm _ _ ho) (io.mono n3.sm.toE))⟩
  have nf:f∉pl:=by simpa using z
  refine m3 _ _ ?_
  refine bv fun D4 m4=>⟨(),(),L,C,P,e,zs,ss,ls,pl,cr,rfl,s2 _ _ hL,iL.mono s2.toE,lss,gss,l10,pls,⟨_,cb⟩,cs,cl,fun m H3 hm hl s3=>m4 _ _ ?_,fun R ys rs H3 rg s3 hR iR=>m4 _ _ ?_⟩
  ·refine tX fun D5 m5 r5=>⟨(),rfl,(),ay (r5 _ _ (k2 pl cr m H3 cs pls cl nf hm hl (s02.trans s3)))⟩
  refine tX fun D5 m5 r5=>⟨(),rfl,(),aJ (m5 _ _ ?_)⟩
  have lys:ys.length=rs.length:=by rw [iR.length,List.length_map]
  have r10:=rg.ten
  have r2:=rg.two
  have hC3:=s3 _ _ hC
  refine bv fun D6 m6=>⟨(),R,rfl,⟨ys,ak.of hR⟩,fun Y hY=>fV (ds:=rs) sD (fun _=>true) (fun s=>.int ((cr s.st).length:Int)) (by trivial) hY hR iR ?_ ?_⟩
  ·intro i x st H' R1 R2 hx ed hy sm q1 q2
   obtain ⟨o,r,g,rfl,ho,hr1,hg1⟩:=jR hy
   obtain ⟨oc,yc,vc,_,hoc,ic⟩:=hv st.st (rg.sub st (List.mem_of_getElem? ed)).2.1
   refine ⟨eH,ay (B:=R2 H') ⟨(),(),o,_,_,(),rfl,ar.of ho,rfl,C,kvs,kT st.st,(),rfl,sm _ _ hC3,vc,oc,yc,rfl,.inl (ak.of (sm _ _ (s3 _ _ hoc))),q1 rfl _ _ (aa.refl _) ?_⟩⟩
   rw [show yc.length=(cr st.st).length by rw [ic.length,List.length_map]]
   exact .int _
  intro H4 lv s4 hY4 iY
  rw [show rs.filter (fun _=>true)=rs from List.filter_eq_self.mpr fun _ _=>rfl,show rs.map (fun s=>PyData.int ((cr s.st).length:Int))=(rs.map fun s=>((cr s.st).length:Int)).map PyData.int by rw [List.map_map];rfl] at iY
  have elv:=A5 iY
  subst elv
  refine m6 _ _ ?_
  have ne0:(rs.map fun s=>((cr s.st).length:Int))≠[]:=fun q=>by
   have h:=congrArg List.length q
   rw [List.length_map] at h
   exact absurd h (show rs.length≠0 by trivial)
  refine bv fun D7 m7=>⟨(),.inl ⟨rfl,_,ak.of hY4⟩,(),Y,(),hY4,ne0,fun k hk hmin=>?_⟩
  obtain ⟨j,ej,bj⟩:=AM hk
  refine ⟨Y,_,k,j,rfl,rfl,hY4,by rw [List.length_map];trivial,ej,bj,m7 _ _ ?_⟩
  obtain ⟨r0,er,rfl⟩:∃r0,rs[j]?=some r0∧((cr r0.st).length:Int)=k:=by
   rw [List.getElem?_map] at ej
   exact Option.map_eq_some_iff.mp ej
  have hj:j<rs.length:=(List.getElem?_eq_some_iff.mp er).1
  have hR4:=s4 _ _ hR
  have iR4:=iR.mono s4.toE
  have ed:rs.drop j=r0 :: rs.drop (j+1):=by
   rw [List.drop_eq_getElem_cons hj,(List.getElem?_eq_some_iff.mp er).2]
  have rg':=rg.turn j hj
  rw [ed,List.cons_append] at rg'
  have pm:(r0 :: (rs.drop (j+1)++rs.take j)).Perm rs:=by
   rw [←List.cons_append,←ed]
   have:=List.perm_append_comm (l₁:=rs.drop j) (l₂:=rs.take j)
   rwa [List.take_append_drop] at this
  have sh:∀s∈r0 :: (rs.drop (j+1)++rs.take j),(cr r0.st).length≤(cr s.st).length:=fun s hs=>by
   have:=hmin _ (List.mem_map_of_mem (pm.mem_iff.mp hs))
   trivial
  refine bv fun D8 m8=>⟨(),(),(j:Int),rfl,R,ys,rfl,ak.of hR4,fun A HA nA=>⟨(),(),(j:Int),rfl,R,ys,rfl,ak.of (nA.sm _ _ hR4),fun B HB nB=>⟨A,B,_,(),rfl,nB.sm _ _ nA.at',nB.at',(by have:=rZ ys (some (j:Int)) none;have:=rZ ys none (some (j:Int));trivial),fun Z HZ nZ=>⟨Z,rfl,⟨_,ak.of nZ.at'⟩,fun W hW=>?_⟩⟩⟩⟩
  have s4Z:aa H4 HZ:=(nA.sm.trans nB.sm).trans nZ.sm
  have hZ:=nZ.at'
  rw [Em,E4 (by trivial),show ((j:Int)).toNat=j from rfl] at hZ
  have iZ:ah ED HZ (ys.drop j++ys.take j) ((r0 :: (rs.drop (j+1)++rs.take j)).map sD):=by
   rw [←List.cons_append,←ed,List.map_append,List.map_drop,List.map_take]
   exact ((iR4.drop j).append (iR4.take j)).mono s4Z.toE
  have lz:(ys.drop j++ys.take j).length≤10:=by
   rw [List.length_append,List.length_drop,List.length_take];trivial
  refine fV (ds:=r0 :: (rs.drop (j+1)++rs.take j)) sD (fun _=>true) pD (by trivial) hW hZ iZ ?_ ?_
  ·intro i x st H' R1 R2 hx ed' hy sm q1 q2
   obtain ⟨o,r,g,rfl,ho,hr1,hg1⟩:=jR hy
   exact ⟨eH,ay (B:=R2 H') ⟨(),o,_,_,(),rfl,ar.of ho,rfl,(),o,_,_,(),rfl,ar.of ho,rfl,(by show 2≤10000;decide),fun y J2 n2=>q1 rfl _ _ n2.sm (.tup n2.at' (.cons (.int _) (.cons (.bl _) .nil)))⟩⟩
  intro H5 pv s5 hW5 iP
  rw [show (r0 :: (rs.drop (j+1)++rs.take j)).filter (fun _=>true)=r0 :: (rs.drop (j+1)++rs.take j) from List.filter_eq_self.mpr fun _ _=>rfl] at iP
  refine m8 _ _ ?_
  have s45:aa H4 H5:=s4Z.trans s5
  have hR5:=s45 _ _ hR4
  have iR5:=iR4.mono s45.toE
  obtain ⟨y,ey⟩:∃y,ys[j]?=some y:=⟨_,List.getElem?_eq_getElem (by trivial)⟩
  obtain ⟨d,edd,hy⟩:=iR5.get ey
  rw [List.getElem?_map,er] at edd
  cases edd
  obtain ⟨o,r,g,rfl,ho,hr1,hg1⟩:=jR hy
  obtain ⟨oc,yc,vc,foc,hoc,ic⟩:=hv r0.st (rg.sub r0 (List.mem_of_getElem? er)).2.1
  have s2Z:aa H2 HZ:=(s3.trans s4).trans s4Z
  have s25:aa H2 H5:=(s3.trans s4).trans s45
  refine ⟨(),(),(),(),R,_,_,(),rfl,ak.of hR5,aW ey,o,_,_,(),rfl,ar.of ho,rfl,C,kvs,kT r0.st,(),rfl,s25 _ _ hC,vc,(by show 3≤10000;decide),fun T H6 n6=>?_⟩
  exact k3 T W oc pv yc pl cr r0 _ H6 cs rg' pls cl nf sh ((s02.trans s25).trans n6.sm) n6.at' ((s02.trans s2Z).free hW) (s1.free foc.2) (fun z=>by rw [z,s2Z _ _ hoc] at hW;cases hW) (n6.sm _ _ hW5) (iP.mono n6.sm.toE) (n6.sm _ _ (s25 _ _ hoc)) (ic.mono (s25.trans n6.sm).toE)
end
end K21
namespace K21
open PySem L2
set_option maxHeartbeats 8000000
theorem Fj {ts:List ap}{ps:List KM.Fra}{n:Nat}{s:SD} (h:s∈aj ts ps n):bI fun t p=>ts[s.n]?=some t∧ps[s.n]?=some p∧((s=⟨s.n,false,t.bg,t.en,aX t.most p,t.gain⟩∧p.1*t.most.2<t.most.1*p.2)∨(s=⟨s.n,true,t.en,t.bg,KM.lTim p t.gain,aH (1,1) t.gain⟩∧0<p.1)):=by
 unfold aj at h
 obtain ⟨j,hj,hs⟩:=List.mem_flatMap.mp h
 unfold iH at hs
 cases et:ts[j]? with
 | none=>rw [et] at hs;cases hs
 | some t=>
  cases ep:ps[j]? with
  | none=>rw [et,ep] at hs;cases hs
  | some p=>
   rw [et,ep] at hs
   have hs':s∈bx j t p:=hs
   unfold bx at hs'
   rcases List.mem_append.mp hs' with z | z
   ·by_cases c:p.1*t.most.2<t.most.1*p.2
    ·rw [if_pos c] at z
     rw [List.mem_singleton.mp z]
     exact ⟨t,p,et,ep,.inl ⟨rfl,c⟩⟩
    ·rw [if_neg c] at z;cases z
   ·by_cases c:0<p.1
    ·rw [if_pos c] at z
     rw [List.mem_singleton.mp z]
     exact ⟨t,p,et,ep,.inr ⟨rfl,c⟩⟩
    ·rw [if_neg c] at z;cases z
theorem so {ls:List (List Nat)}{ts:List ap}{ps:List KM.Fra} (tc:∀t∈ts,kG ls t) (gp:∀p∈ps,Gb 1894 1876 p) (l24:ts.length≤24):∀s∈aj ts ps ts.length,Iu ls s∧s.n≤100:=fun s hs=>by
 have sc:=y6 (c:=1900) (d:=1882) tc gp (by decide) (by decide) (by decide) s hs
 obtain ⟨t,et,ne,alt⟩:=sc.w
 have tt:=tc t (List.mem_of_getElem? et)
 obtain ⟨t',p,e1,e2,f⟩:=Fj hs
 rw [et] at e1
 cases e1
 have pp:=gp p (List.mem_of_getElem? e2)
 have n24:=sc.n
 refine ⟨⟨?_,sc.e,?_,sc.r.mono (by decide) (by decide),sc.g,sc.g1,?_⟩,by trivial⟩
 ·rcases alt with ⟨a,_⟩ | ⟨a,_⟩
  ·rw [a];exact tt.b
  ·rw [a];exact tt.e
 ·rcases alt with ⟨a,b⟩ | ⟨a,b⟩
  ·rw [a,b];exact ne
  ·rw [a,b];exact ne.symm
 ·have mp:=tt.fm.pos
  have qp:=pp.pos
  rcases f with ⟨f,c⟩ | ⟨f,c⟩
  ·rw [f]
   show 1≤(KM.low (t.most.1*p.2 - p.1*t.most.2) (t.most.2*p.2)).1
   exact (KM.low_sgn (Int.mul_pos (by trivial) (by trivial))).1.mpr (by trivial)
  ·rw [f]
   exact pH (by trivial) qp tt.g1 tt.fg.pos
end K21
namespace K21
open PySem L2
set_option maxHeartbeats 8000000
abbrev kP (s:SD):dB:=((s.n:Int),s.bk)
def xC (ss:List SD) (vs:List V):List (dB×V):=(ss.zip vs).map fun p=>(kP p.1,p.2)
def BP (H:Hp) (d:Addr) (ss:List SD):Prop:=∃vs,DP H d (xC ss vs)∧ah ED H vs (ss.map sD)
theorem BP.sm {H H':Hp}{d:Addr}{ss:List SD} (h:BP H d ss) (s:aa H H'):BP H' d ss:=by
 obtain ⟨vs,a,b⟩:=h
 exact ⟨vs,a.sm s,b.mono s.toE⟩
theorem Ff {ss:List SD}{vs:List V}{i:Nat}{s:SD}{v:V} (h1:ss[i]?=some s) (h2:vs[i]?=some v):(xC ss vs)[i]?=some (kP s,v):=by
 unfold xC
 rw [List.getElem?_map,(List.getElem?_zip_eq_some (z:=(s,v))).mpr ⟨h1,h2⟩]
 rfl
theorem Bq {ss:List SD}{vs:List V} (h:vs.length=ss.length):(xC ss vs).map (·.1)=ss.map kP:=by
 unfold xC
 rw [List.map_map]
 show (ss.zip vs).map (kP ∘ Prod.fst)=_
 rw [←List.map_map,List.map_fst_zip (by trivial)]
theorem BP.get {H:Hp}{d:Addr}{ss:List SD} (h:BP H d ss) {s:SD} (hs:s∈ss):xX fun kvs o r g=>DP H d kvs∧(kP s,V.ref o)∈kvs∧H o=some (.tup [.int s.n,.bl s.bk,aG s.st,aG s.en,.ref r,.ref g])∧H r=some (fr s.room)∧H g=some (fr s.gain):=by
 obtain ⟨vs,a,b⟩:=h
 obtain ⟨i,hi⟩:=List.getElem?_of_mem hs
 have lv:vs.length=ss.length:=by rw [b.length,List.length_map]
 obtain ⟨v,hv⟩:∃v,vs[i]?=some v:=⟨_,List.getElem?_eq_getElem (by have:=(List.getElem?_eq_some_iff.mp hi).1;trivial)⟩
 have iv:=b.nth i hv (by rw [List.getElem?_map,hi];rfl)
 obtain ⟨o,r,g,rfl,ho,hr,hg⟩:=jR iv
 exact ⟨_,o,r,g,a,List.mem_of_getElem? (Ff hi hv),ho,hr,hg⟩
theorem BP.keys {H:Hp}{d:Addr}{ss:List SD} (h:BP H d ss):∃kvs,DP H d kvs∧kvs.map (·.1)=ss.map kP:=by
 obtain ⟨vs,a,b⟩:=h
 exact ⟨_,a,Bq (by rw [b.length,List.length_map])⟩
theorem fA {E:Addr→Prop}{H:Hp}{v:V}{c:SD} (h:aI E H v (pD c)):∃t,v=.ref t∧H t=some (.tup (qY (kP c))):=by
 cases h with
 | @tup a xs _ h r=>
  cases r with
  | @cons u1 _ _ _ h1 r=>
  cases r with
  | @cons u2 _ _ _ h2 r=>
  cases r
  cases h1
  cases h2
  exact ⟨a,rfl,h⟩
theorem BE {ts:List ap}{ps:List KM.Fra}{n:Nat}:((iH ts ps n).map kP).Nodup∧∀s∈iH ts ps n,s.n=n:=by
 unfold iH
 split
 ·rename_i t p _ _
  unfold bx
  by_cases c1:p.1*t.most.2<t.most.1*p.2 <;> by_cases c2:0<p.1
  ·rw [if_pos c1,if_pos c2]
   refine ⟨?_,fun s hs=>?_⟩
   ·simp [kP]
   ·rcases List.mem_cons.mp hs with z | z
    ·rw [z]
    ·rw [List.mem_singleton.mp z]
  ·rw [if_pos c1,if_neg c2]
   exact ⟨by simp,fun s hs=>by rw [List.append_nil] at hs;rw [List.mem_singleton.mp hs]⟩
  ·rw [if_neg c1,if_pos c2]
   exact ⟨by simp,fun s hs=>by rw [List.nil_append] at hs;rw [List.mem_singleton.mp hs]⟩
  ·rw [if_neg c1,if_neg c2]
   exact ⟨by simp,fun s hs=>by cases hs⟩
 ·exact ⟨List.nodup_nil,fun s hs=>by cases hs⟩
theorem vf (ts:List ap) (ps:List KM.Fra):∀n,((aj ts ps n).map kP).Nodup∧∀s∈aj ts ps n,s.n<n
 | 0=>⟨List.nodup_nil,fun s hs=>by cases hs⟩
 | n+1=>by
  obtain ⟨a,b⟩:=vf ts ps n
  obtain ⟨c,d⟩:=BE (ts:=ts) (ps:=ps) (n:=n)
  have e:aj ts ps (n+1)=aj ts ps n++iH ts ps n:=by
   unfold aj
   rw [List.range_succ,List.flatMap_append,List.flatMap_cons,List.flatMap_nil,List.append_nil]
  rw [e,List.map_append]
  refine ⟨List.nodup_append.mpr ⟨a,c,fun x hx y hy z=>?_⟩,fun s hs=>?_⟩
  ·obtain ⟨s,hs,rfl⟩:=List.mem_map.mp hx
   obtain ⟨t,ht,rfl⟩:=List.mem_map.mp hy
   have h1:=b s hs
   have h2:=d t ht
   have h3:(s.n:Int)=t.n:=congrArg Prod.fst z
   trivial
  ·rcases List.mem_append.mp hs with z | z
   ·have:=b s z;trivial
   ·have:=d s z;trivial
theorem Dh {J:It}{n:Nat}{H1:Hp}{D:Addr}{σc:St}{g:TG}{tk tv:TE}{Q:VK} (Pv:Nat→Hp→List (dB×V)→Prop) (hz:n≤4000) (h0:Pv 0 (aP H1 D (.ext (f9 D []))) [])
 (hD:∀i H ys,Pv i H ys→DP H D ys∧ys.length≤i) (hgo:∀i H ys,i<n→Pv i H ys→J.go i H) (hst:∀H ys,Pv n H ys→J.stop n H)
 (hs:∀i H ys x H',i<n→Pv i H ys→J.yld i H x H'→g x σc H' fun σ2 H2=>ja σc σ2∧tk σ2 H2 fun kv H4=>bI fun b k=>kv=.ref b∧tv σ2 H4 fun y H5=>H5 b=some (.tup (qY k))∧DP H5 D ys∧k∉ys.map (·.1)∧∀H6,Ci H5 D H6→DP H6 D (ys++[(k,y)])→Pv (i+1) H6 (ys++[(k,y)]))
 (hd:∀H ys,Pv n H ys→Q (.ref D) H):Fd J σc g tT tk tv D H1 Q:=by
 refine ⟨fun i m H ys=>m=n - i∧i≤n∧Pv i H ys,⟨n,by simp,Nat.zero_le _,h0⟩,?_⟩
 rintro i m H ys ⟨rfl,hi,p⟩
 obtain ⟨q1,q2⟩:=hD i H ys p
 refine ⟨q1,?_⟩
 by_cases hlt:i<n
 ·refine .inr ⟨hgo i H ys hlt p,by rw [sizeLine_eq];trivial,Pv (i+1),fun H' ys' p'=>⟨n - (i+1),by trivial,rfl,hlt,p'⟩,fun x H' y=>?_⟩
  have e:=hs i H ys x H' hlt p y
  have q:(fun (σ2:St) (H2:Hp)=>ja σc σ2∧tT σ2 H2 fun b H3=>if b=true then tk σ2 H3 fun kv H4=>bI fun b k=>kv=.ref b∧tv σ2 H4 fun y H5=>H5 b=some (.tup (qY k))∧DP H5 D ys∧k∉ys.map (·.1)∧∀H6,Ci H5 D H6→DP H6 D (ys++[(k,y)])→Pv (i+1) H6 (ys++[(k,y)]) else Pv (i+1) H3 ys) =
   (fun σ2 H2=>ja σc σ2∧tk σ2 H2 fun kv H4=>bI fun b k=>kv=.ref b∧tv σ2 H4 fun y H5=>H5 b=some (.tup (qY k))∧DP H5 D ys∧k∉ys.map (·.1)∧∀H6,Ci H5 D H6→DP H6 D (ys++[(k,y)])→Pv (i+1) H6 (ys++[(k,y)])):=by
   funext σ2 H2
   unfold tT
   dsimp only
   rw [if_pos rfl]
  rw [q]
  exact e
 ·have e:i=n:=by trivial
  subst e
  exact .inl ⟨hst H ys p,hd H ys p⟩
section
variable {P:Program}{w:World}{K:PySem.W.Frag}{mg:Str→Option Value}{base:Heap}
inductive Ix (vs:List V) (H:Hp) (Q:VK):Prop
 | mk (v:V) (sa:Addr) (ls:List (List Nat)) (ts:List ap) (xs:List V) (ps:List KM.Fra) (a b:Nat) (h0:vs=[v,.ref sa]) (h1:aI ED H v (iV ls ts)) (h2:(∀t∈ts,kG ls t)) (h3:ts.length≤40) (h4:H sa=some (.lst xs)) (h5:ah ED H xs (ps.map aN)) (h6:ps.length=ts.length) (h7:(∀p∈ps,Gb a b p)) (h8:a≤3000) (h9:b≤3000) (h10:∀d H',aa H H'→H d=none→BP H' d (aj ts ps ts.length)→Q (.ref d) H')
def Kg:Sp:=fun vs H Q _=>Ix  vs H Q
theorem wI (T:Txt K mg):aZ P w K mg base CX0 6 T.by_pairs_.f T.by_pairs_.d ["net", "stream"] Kg:=by
 have G_left_steps:=#[(uv)]
 refine T.by_pairs_.F.ok BK (fun vs H Q E h=>?_) (fun cdv A outer s H vs Q E hr h=>?_)
 ·obtain ⟨v,sa,ls,ts,xs,ps,a,b,rfl,_⟩:=h
  rfl
 ·obtain ⟨v,sa,ls,ts,xs,ps,a,b,rfl,iN,tc,h40,hsa,ixs,lps,gp,ha,hb,k⟩:=h
  refine ⟨_,#[ae 3 #[av 4 #[Gf 8 (["step"]) (1) ([]) _ _ _ _ _ hr.units rfl (by kernel_rfl) (@bF _ (K) _ _ _ #[G_left_steps,sf,T.left_steps_,#[[#[0,yY],#[1,wC]]]] (by rfl)) (fun _ _ _ _ _ _=>#[0,(),()]) (fun _ _ _ _ _ _=>@bE _) (fun _ _ _ _ _ _=>#[ag 5 #[[#[#[0,()][#[()]]],#[#[0,()][#[()]]]]]]) (fun _ _ _ _ _ _=>#[0,()]) (by intro _;rfl)]]],?_⟩
  obtain ⟨sk,_⟩:=vf ts ps ts.length
  refine ⟨(),(),v,sa,ls,ts,xs,ps,a,b,rfl,iN,tc,h40,hsa,ixs,lps,gp,ha,hb,fun L zs H1 s1 fL hL iL=>⟨L,rfl,⟨zs,ak.of hL⟩,fun D hD=>Dh (n:=zs.length) (fun i H' kv=>DP H' D kv∧kv=(xC (aj ts ps ts.length) zs).take i∧aa H1 H') ?_ ⟨⟨[],aA,Nat.zero_le _,.nil⟩,rfl,aa.new hD⟩ ?_ ?_ ?_ ?_ ?_⟩⟩
  ·have:=pC ts ps ts.length
   rw [iL.length,List.length_map];trivial
  all_goals generalize aj ts ps ts.length=ss at *
  all_goals have lz:zs.length=ss.length:=by rw [iL.length,List.length_map]
  ·rintro i H' kv ⟨h1,rfl,_⟩
   exact ⟨h1,List.length_take_le ..⟩
  ·rintro i H' kv hi ⟨_,_,sm⟩
   exact ⟨zs,zs[i],ak.of (sm _ _ hL),List.getElem?_eq_getElem hi⟩
  ·rintro H' kv ⟨_,_,sm⟩
   exact ⟨zs,ak.of (sm _ _ hL),Nat.le_refl _⟩
  ·rintro i Ha kv x Hb hi ⟨hd,rfl,sm⟩ ⟨rfl,ex⟩
   have hx:=ex zs (ak.of (sm _ _ hL))
   obtain ⟨st,est⟩:∃st,ss[i]?=some st:=⟨_,List.getElem?_eq_getElem (show i<ss.length by trivial)⟩
   have iv:=(iL.mono sm.toE).nth i hx (by rw [List.getElem?_map,est];rfl)
   obtain ⟨o,r,g,rfl,ho,hr1,hg1⟩:=jR iv
   have ka:=Ff est hx
   refine ⟨eH,(),o,_,_,(),rfl,ar.of ho,rfl,(),o,_,_,(),rfl,ar.of ho,rfl,(by show 2≤10000;decide),fun b' J n1=>⟨b',kP st,rfl,(),n1.at',hd.sm n1.sm,?_,fun H6 c6 d6=>⟨d6,?_,?_⟩⟩⟩
   ·intro z
    rw [List.map_take,Bq lz] at z
    obtain ⟨j,hj⟩:=List.getElem?_of_mem z
    have ji:j<i:=by
     have:=(List.getElem?_eq_some_iff.mp hj).1
     rw [List.length_take] at this
     trivial
    rw [List.getElem?_take,if_pos ji] at hj
    have:=Cn sk hj (show (ss.map kP)[i]?=some (kP st) by rw [List.getElem?_map,est];rfl)
    trivial
   ·rw [List.take_succ,ka];rfl
   ·intro a' u ha'
    exact c6.ol _ _ (fun z=>by rw [z,hD] at ha';cases ha') ((sm.trans n1.sm) _ _ ha')
  ·rintro H' kv ⟨h1,rfl,sm⟩
   refine k D H' (s1.trans sm) (s1.free hD) ⟨zs,?_,iL.mono sm.toE⟩
   rw [List.take_of_length_le] at h1
   ·exact h1
   ·unfold xC
    rw [List.length_map,List.length_zip]
    trivial
def cO (m:KM.Fra) (cs:List SD):KM.Fra:=cs.foldl (fun m c=>KM.lTim m c.gain) m
def gN (m:KM.Fra):List SD→List (SD×KM.Fra)
 | []=>[]
 | c :: cs=>(c,m) :: gN (KM.lTim m c.gain) cs
theorem zn (m:KM.Fra) (cs:List SD) (c:SD):cO m (cs++[c])=KM.lTim (cO m cs) c.gain:=by
 unfold cO
 rw [List.foldl_append];rfl
theorem zf:∀(cs:List SD) (m:KM.Fra) (c:SD),gN m (cs++[c])=gN m cs++[(c,cO m cs)]
 | [],m,c=>rfl
 | x :: cs,m,c=>by
  show (x,m) :: gN _ (cs++[c])=(x,m) :: (gN _ cs++[(c,cO m (x :: cs))])
  rw [zf cs]
  rfl
theorem qt:∀(cs:List SD) (m:KM.Fra),(gN m cs).map (·.1)=cs
 | [],_=>rfl
 | x :: cs,m=>by
  show x :: (gN _ cs).map (·.1)=_
  rw [qt cs]
theorem sV:∀(cs:List SD) (m:KM.Fra) (a b:Nat),Gb a b m→1≤m.1→(∀c∈cs,Gb 6 6 c.gain∧1≤c.gain.1)→Gb (a+6*cs.length) (b+6*cs.length) (cO m cs)∧1≤(cO m cs).1
 | [],m,a,b,gm,m1,_=>⟨gm,m1⟩
 | c :: cs,m,a,b,gm,m1,gc=>by
  obtain ⟨g,g1⟩:=gc c (List.mem_cons_self ..)
  obtain ⟨x,y⟩:=sV cs (KM.lTim m c.gain) (a+6) (b+6) (gm.tim g (Nat.le_refl _) (Nat.le_refl _)) (pH m1 gm.pos g1 g.pos) fun c hc=>gc c (List.mem_cons_of_mem _ hc)
  exact ⟨x.mono (by rw [List.length_cons];trivial) (by rw [List.length_cons];trivial),y⟩
theorem wb:∀(cs:List SD) (m:KM.Fra) (a b n:Nat),Gb a b m→1≤m.1→(∀c∈cs,Gb 6 6 c.gain∧1≤c.gain.1)→cs.length≤n→∀x∈gN m cs,Gb (a+6*n) (b+6*n) x.2∧1≤x.2.1
 | [],_,_,_,_,_,_,_,_,x,hx=>by cases hx
 | c :: cs,m,a,b,n,gm,m1,gc,hn,x,hx=>by
  obtain ⟨g,g1⟩:=gc c (List.mem_cons_self ..)
  rw [List.length_cons] at hn
  rcases List.mem_cons.mp hx with z | z
  ·rw [z];exact ⟨gm.mono (by trivial) (by trivial),m1⟩
  ·obtain ⟨u,v⟩:=wb cs (KM.lTim m c.gain) (a+6) (b+6) (n - 1) (gm.tim g (Nat.le_refl _) (Nat.le_refl _)) (pH m1 gm.pos g1 g.pos) (fun c hc=>gc c (List.mem_cons_of_mem _ hc)) (by trivial) x z
   exact ⟨u.mono (by trivial) (by trivial),v⟩
abbrev AG (x:SD×KM.Fra):PyData:=.tuple [pD x.1,aN x.2]
def Cg (ss cs:List SD):Prop:=∀c∈cs,c∈ss∧Gb 6 6 c.gain∧1≤c.gain.1
inductive Ku (vs:List V) (H:Hp) (Q:VK):Prop
 | mk (d L:Addr) (ss cs:List SD) (ys:List V) (h0:vs=[.ref d,.ref L]) (h1:BP H d ss) (h2:H L=some (.lst ys)) (h3:ah ED H ys (cs.map pD)) (h4:Cg ss cs) (h5:cs.length≤40) (h6:∀o H',aa H H'→H' o=some (fr (cO (1,1) cs))→Q (.ref o) H')
def Mi:Sp:=fun vs H Q _=>Ku  vs H Q
theorem uE (T:Txt K mg):aZ P w K mg base CX0 4 T.gain_along_.f T.gain_along_.d ["left", "pairs"] Mi:=by
 have G_times:=#[(mU)]
 refine T.gain_along_.F.ok kZ (fun vs H Q E h=>?_) (fun cdv A outer s H vs Q E hr h=>?_)
 ·obtain ⟨d,L,ss,cs,ys,rfl,_⟩:=h
  rfl
 ·obtain ⟨d,L,ss,cs,ys,rfl,hb,hL,iL,gc,h40,k⟩:=h
  have lys:ys.length=cs.length:=by rw [iL.length,List.length_map]
  refine ⟨_,#[#[2,kZ.nd,hU,#[ag 5 #[[#[()],#[()]]]]] :: #[#[jN 8 PassesOwn.never rfl (@bF _ (K) _ _ _ #[1,vM] (by rfl)) #[3,kZ.nd,oY] #[ae 3 #[2,kZ.nd,hU,#[G_times,u0,T.times_,#[[#[2,hU],#[#[b8 7 (@qg _ hr.units) #[0,ww] #[3,oY] (fun _ _=>rfl)][#[()]]]]]]]] (by intro _;rfl)] :: #[ae 3 #[av 4 #[2,hU]]]]],?_⟩
  refine cw fun Q1 nA=>⟨(by show 2≤10000;decide),fun o0 H1 n1=>nA _ _ ?_⟩
  refine bv fun D2 n2=>⟨(),L,rfl,⟨ys,ak.of (n1.sm _ _ hL)⟩,nv (xs:=ys) (fun i σ H'=>bI fun go v3=>σ=[some (.ref d),some (.ref L),some (.ref go),v3]∧H' go=some (fr (cO (1,1) (cs.take i)))∧aa H H') ⟨o0,none,rfl,n1.at',n1.sm⟩ ?_ ?_ ?_⟩
  ·rintro i σ H' _ ⟨_,_,_,_,sm⟩
   exact ak.of (sm _ _ hL)
  ·rintro i x σ J hx ⟨go,v3,rfl,hgo,sm⟩
   obtain ⟨c,ec⟩:∃c,cs[i]?=some c:=⟨_,List.getElem?_eq_getElem (by have:=(List.getElem?_eq_some_iff.mp hx).1;trivial)⟩
   obtain ⟨t,rfl,ht⟩:=fA ((iL.mono sm.toE).nth i hx (by rw [List.getElem?_map,ec];rfl))
   obtain ⟨hc,g,g1⟩:=gc c (List.mem_of_getElem? ec)
   obtain ⟨kvs,o,r,gg,hd,hm,ho,hr',hg⟩:=(hb.sm sm).get hc
   have gm:=sV (cs.take i) (1,1) 1 1 r6 (by decide) fun c hc=>⟨(gc c (List.mem_of_mem_take hc)).2.1,(gc c (List.mem_of_mem_take hc)).2.2⟩
   have li:(cs.take i).length≤40:=Nat.le_trans (List.length_take_le' ..) h40
   obtain ⟨z1,z2⟩:=gz gm.1 (by trivial) (by trivial)
   obtain ⟨z3,z4⟩:=gz g (by decide) (by decide)
   refine ⟨(),(),(),d,t,kvs,kP c,(),rfl,hd,ht,hm,o,_,_,(),rfl,ar.of ho,rfl,go,gg,_,_,_,(),hgo,hg,⟨z1,z2,z3,z4,gd gm.1 g⟩,fun q J2 n2=>⟨q,(),?_,sm.trans n2.sm⟩⟩
   rw [List.take_succ,ec]
   show J2 q=some (fr (cO (1,1) (cs.take i++[c])))
   rw [zn]
   exact n2.at'
  ·rintro σ J ⟨go,v3,rfl,hgo,sm⟩
   rw [lys,List.take_length] at hgo
   exact n2 _ _ ⟨(),k go J sm hgo⟩
inductive Ln (vs:List V) (H:Hp) (Q:VK):Prop
 | mk (d L mo:Addr) (ss cs:List SD) (ys:List V) (m:KM.Fra) (a b:Nat) (h0:vs=[.ref d,.ref L,.ref mo]) (h1:BP H d ss) (h2:H L=some (.lst ys)) (h3:ah ED H ys (cs.map pD)) (h4:Cg ss cs) (h5:cs.length≤40) (h6:H mo=some (fr m)) (h7:Gb a b m) (h8:1≤m.1) (h9:a≤1000) (h10:b≤1000) (h11:∀S zs H',aa H H'→H S=none→H' S=some (.lst zs)→ah ED H' zs ((gN m cs).map AG)→Q (.ref S) H')
def Mh:Sp:=fun vs H Q _=>Ln  vs H Q
theorem xW (T:Txt K mg):aZ P w K mg base CX0 4 T.shares_along_.f T.shares_along_.d ["left", "pairs", "much"] Mh:=by
 have G_times:=#[(mU)]
 refine T.shares_along_.F.ok jD (fun vs H Q E h=>?_) (fun cdv A outer s H vs Q E hr h=>?_)
 ·obtain ⟨d,L,mo,ss,cs,ys,m,a,b,rfl,_⟩:=h
  rfl
 ·obtain ⟨d,L,mo,ss,cs,ys,m,a,b,rfl,hb,hL,iL,gc,h40,hmo,gm0,m1,ha,hb',k⟩:=h
  have lys:ys.length=cs.length:=by rw [iL.length,List.length_map]
  refine ⟨_,#[#[3,jD.nd,iQ,#[aV 4 (@cj _)]] :: #[#[jN 8 PassesOwn.never rfl (@bF _ (K) _ _ _ #[1,ut] (by rfl)) #[4,jD.nd,jr] #[#[jo 4 (@fN _ (K) _ _ _ _ _ _ _ _ _ _ _ PySem.F.plainAttrs_list PySem.F.slot_list_append PySem.F.type_list_append (@fD _) #[3,iQ] #[[#[ag 5 #[[#[4,jr],#[2,jy]]]]]] (by rfl) (by rfl) (by rfl) (by rfl) (by rfl) (by rfl)) (by rfl)] :: #[ae 3 #[2,jD.nd,jy,#[G_times,tZ,T.times_,#[[#[2,jy],#[#[b8 7 (@qg _ hr.units) #[0,uG] #[4,jr] (fun _ _=>rfl)][#[()]]]]]]]]] (by intro _;rfl)] :: #[ae 3 #[av 4 #[3,iQ]]]]],?_⟩
  refine cw fun Q1 nA=>⟨(by show 0≤10000;decide),fun S H1 n1=>nA _ _ ?_⟩
  refine bv fun D2 n2=>⟨(),L,rfl,⟨ys,ak.of (n1.sm _ _ hL)⟩,nv (xs:=ys) (fun i σ H'=>kJ fun go v4 zs=>σ=[some (.ref d),some (.ref L),some (.ref go),some (.ref S),v4]∧H' go=some (fr (cO m (cs.take i)))∧aa H H'∧H' S=some (.lst zs)∧ah ED H' zs ((gN m (cs.take i)).map AG)) ⟨mo,none,[],rfl,n1.sm _ _ hmo,n1.sm,n1.at',.nil⟩ ?_ ?_ ?_⟩
  ·rintro i σ H' _ ⟨_,_,_,_,_,sm,_⟩
   exact ak.of (sm _ _ hL)
  ·rintro i x σ J hx ⟨go,v4,zs,rfl,hgo,sm,hS,iS⟩
   have hi:=(List.getElem?_eq_some_iff.mp hx).1
   obtain ⟨c,ec⟩:∃c,cs[i]?=some c:=⟨_,List.getElem?_eq_getElem (by trivial)⟩
   have ip:=(iL.mono sm.toE).nth i hx (by rw [List.getElem?_map,ec];rfl)
   obtain ⟨t,rfl,ht⟩:=fA ip
   obtain ⟨hc,g,g1⟩:=gc c (List.mem_of_getElem? ec)
   have gm:=sV (cs.take i) m a b gm0 m1 fun c hc=>⟨(gc c (List.mem_of_mem_take hc)).2.1,(gc c (List.mem_of_mem_take hc)).2.2⟩
   have li:(cs.take i).length≤40:=Nat.le_trans (List.length_take_le' ..) h40
   obtain ⟨z1,z2⟩:=gz gm.1 (by trivial) (by trivial)
   obtain ⟨z3,z4⟩:=gz g (by decide) (by decide)
   have lzs:zs.length≤40:=by
    rw [iS.length,List.length_map]
    have:=congrArg List.length (qt (cs.take i) m)
    rw [List.length_map] at this
    trivial
   refine bv fun D3 n3=>⟨(),.inl ⟨rfl,_,ak.of hS⟩,(),(),(by show 2≤10000;decide),fun p2 J2 n2=>⟨S,_,(),rfl,n2.sm _ _ hS,by trivial,fun J3 c3=>n3 _ _ ?_⟩⟩
   have hS2:=n2.sm _ _ hS
   have s3:aa H J3:=aa.ch (sm.trans n2.sm) c3 n1.fr
   have hgo3:=c3.tup (n2.sm _ _ hgo) hS2
   obtain ⟨kvs,o,r,gg,hd,hm,ho,hr',hg⟩:=(hb.sm s3).get hc
   refine ⟨(),(),(),d,t,kvs,kP c,(),rfl,hd,c3.tup (n2.sm _ _ ht) hS2,hm,o,_,_,(),rfl,ar.of ho,rfl,go,gg,_,_,_,(),hgo3,hg,⟨z1,z2,z3,z4,gd gm.1 g⟩,fun q J4 n4=>⟨q,_,(),?_,s3.trans n4.sm,n4.sm _ _ c3.at',?_⟩⟩
   ·rw [List.take_succ,ec]
    show J4 q=some (fr (cO m (cs.take i++[c])))
    rw [zn]
    exact n4.at'
   ·rw [List.take_succ,ec]
    show ah ED J4 _ ((gN m (cs.take i++[c])).map AG)
    rw [zf,List.map_append]
    refine (m9 c3 hS2 (iS.mono n2.sm.toE) ?_).mono n4.sm.toE
    exact .tup n2.at' (.cons (ip.mono n2.sm.toE) (.cons (cB (p:=cO m (cs.take i)) (n2.sm _ _ hgo)) .nil))
  ·rintro σ J ⟨go,v4,zs,rfl,hgo,sm,hS,iS⟩
   rw [lys,List.take_length] at iS
   exact n2 _ _ ⟨(),k S zs J sm n1.fr hS iS⟩
inductive BT where
 | way (cs:List SD)
 | ring (rs cs:List SD)
def BT.parts:BT→List (SD×KM.Fra)
 | .way cs=>gN (1,1) cs
 | .ring rs cs=>gN (1,1) rs++gN (aX (cO (1,1) rs) (1,1)) cs
def xD (H:Hp) (T:Addr):BT→Prop
 | .way cs=>bI fun L ys=>H T=some (.tup [.str (Str.ofString "way"),.ref L])∧H L=some (.lst ys)∧ah ED H ys (cs.map pD)
 | .ring rs cs=>xX fun R L us ys=>H T=some (.tup [.str (Str.ofString "ring"),.ref R,.ref L])∧H R=some (.lst us)∧ah ED H us (rs.map pD)∧H L=some (.lst ys)∧ah ED H ys (cs.map pD)
def vj (ss:List SD):BT→Prop
 | .way cs=>Cg ss cs∧cs.length≤10
 | .ring rs cs=>Cg ss rs∧rs.length≤10∧Cg ss cs∧cs.length≤10∧1<KM.vl (cO (1,1) rs)
inductive Ky (vs:List V) (H:Hp) (Q:VK):Prop
 | mk (d T:Addr) (ss:List SD) (bt:BT) (h0:vs=[.ref d,.ref T]) (h1:BP H d ss) (h2:xD H T bt) (h3:vj ss bt) (h4:∀S zs H',aa H H'→H S=none→H' S=some (.lst zs)→ah ED H' zs (bt.parts.map AG)→(∀x∈bt.parts,Gb 130 130 x.2∧1≤x.2.1)→Q (.ref S) H')
def Mr:Sp:=fun vs H Q _=>Ky  vs H Q
theorem Bv (T:Txt K mg):aZ P w K mg base CX0 5 T.shares_of_.f T.shares_of_.d ["left", "thing"] Mr:=by
 have G_gain_along:=#[(uE)]
 have G_shares_along:=#[(xW)]
 have G_taken:=#[(tw)]
 refine T.shares_of_.F.ok uR (fun vs H Q E h=>?_) (fun cdv A outer s H vs Q E hr h=>?_)
 ·obtain ⟨d,Ta,ss,bt,rfl,_⟩:=h
  rfl
 ·obtain ⟨d,Ta,ss,bt,rfl,hb,hT,ok,k⟩:=h
  refine ⟨_,#[#[bA 8 #[aK 8 (@ij _) #[#[1,fB][#[()]]] #[da 4] #[(),()]] #[ae 3 #[av 4 #[G_shares_along,fX,T.shares_along_,#[[#[0,i0],#[#[1,fB][#[()]]],#[ag 5 #[[#[()],#[()]]]]]]]]] (@aQ _)] :: #[#[2,uR.nd,nW,#[G_taken,wu,T.taken_,#[[#[G_gain_along,rQ,T.gain_along_,#[[#[0,i0],#[#[1,fB][#[()]]]]]],#[ag 5 #[[#[()],#[()]]]]]]]] :: #[ae 3 #[av 4 #[aC 8 (@sZ _) #[G_shares_along,fX,T.shares_along_,#[[#[0,i0],#[#[1,fB][#[()]]],#[ag 5 #[[#[()],#[()]]]]]]] #[G_shares_along,fX,T.shares_along_,#[[#[0,i0],#[#[1,fB][#[()]]],#[2,nW]]]]]]]]],?_⟩
  cases bt with
  | way cs=>
   obtain ⟨L,ys,hTa,hL,iL⟩:=hT
   obtain ⟨gc,lc⟩:=ok
   refine tX fun D1 n1 r1=>⟨(),Ta,_,_,(),rfl,ar.of hTa,rfl,rfl,(),mS (fun _=>⟨(),(),Ta,_,_,(),rfl,ar.of hTa,rfl,(by show 2≤10000;decide),fun o H1 n1=>⟨d,L,o,ss,cs,ys,(1,1),1,1,rfl,hb.sm n1.sm,n1.sm _ _ hL,iL.mono n1.sm.toE,gc,by trivial,n1.at',r6,by decide,by decide,by decide,fun S zs H2 s2 fS hS iS=>r1 _ _ (k S zs H2 (n1.sm.trans s2) (n1.sm.free fS) hS iS ?_)⟩⟩) fun c=>absurd (decide_eq_true rfl) c⟩
   intro x hx
   obtain ⟨u,v⟩:=wb cs (1,1) 1 1 10 r6 (by decide) (fun c hc=>(gc c hc).2) lc x hx
   exact ⟨u.mono (by decide) (by decide),v⟩
  | ring rs cs=>
   obtain ⟨R,L,us,ys,hTa,hR,iR,hL,iL⟩:=hT
   obtain ⟨gr,lr,gc,lc,gain⟩:=ok
   refine tX fun D1 n1 r1=>⟨(),Ta,_,_,(),rfl,ar.of hTa,rfl,rfl,(),mS (fun c=>absurd (of_decide_eq_true c) (by nofun)) fun _=>n1 _ _ ?_⟩
   have gz1:=sV rs (1,1) 1 1 r6 (by decide) fun c hc=>(gr c hc).2
   have g61:Gb 61 61 (cO (1,1) rs):=gz1.1.mono (by trivial) (by trivial)
   obtain ⟨z1,z2⟩:=gz g61 (by decide) (by decide)
   have gB:Gb 63 62 (aX (cO (1,1) rs) (1,1)):=g61.min r6 (by decide) (by decide) (by decide)
   have pB:1≤(aX (cO (1,1) rs) (1,1)).1:=by
    have h2:=(gE (p:=(1,1)) (q:=cO (1,1) rs) (by decide) g61.pos).mp (by rw [show KM.vl (1,1)=1 by nofun];exact gain)
    have h3:1*(cO (1,1) rs).2<(cO (1,1) rs).1*1:=h2
    unfold aX
    refine (KM.low_sgn (Int.mul_pos (by have:=g61.pos;trivial) (by decide))).1.mpr ?_
    show 0<(cO (1,1) rs).1*1 - 1*(cO (1,1) rs).2
    trivial
   refine cw fun Q2 nA=>⟨(),(),Ta,_,_,(),rfl,ar.of hTa,rfl,d,R,ss,rs,us,rfl,hb,hR,iR,gr,by trivial,fun go H1 s1 hgo=>⟨(by show 2≤10000;decide),fun o1 H2 n2=>⟨go,o1,_,_,_,(),n2.sm _ _ hgo,n2.at',⟨z1,z2,AQ,AQ,gd g61 r6⟩,fun bo H3 n3=>nA _ _ ?_⟩⟩⟩
   have s3:=(s1.trans n2.sm).trans n3.sm
   refine ⟨(),(),Ta,_,_,(),rfl,ar.of (s3 _ _ hTa),rfl,(by show 2≤10000;decide),fun o2 H4 n4=>⟨d,R,o2,ss,rs,us,(1,1),1,1,rfl,hb.sm (s3.trans n4.sm),n4.sm _ _ (s3 _ _ hR),iR.mono (s3.trans n4.sm).toE,gr,by trivial,n4.at',r6,by decide,by decide,by decide,fun S1 z1 H5 s5 fS1 hS1 iS1=>?_⟩⟩
   have s05:=(s3.trans n4.sm).trans s5
   refine ⟨(),(),Ta,_,_,(),rfl,ar.of (s05 _ _ hTa),rfl,(),d,L,bo,ss,cs,ys,aX (cO (1,1) rs) (1,1),63,62,rfl,hb.sm s05,s05 _ _ hL,iL.mono s05.toE,gc,by trivial,(n4.sm.trans s5) _ _ n3.at',gB,pB,by decide,by decide,fun S2 z2 H6 s6 fS2 hS2 iS2=>?_⟩
   have l1:z1.length≤10:=by
    rw [iS1.length,List.length_map]
    have:=congrArg List.length (qt rs (1,1))
    rw [List.length_map] at this
    trivial
   have l2:z2.length≤10:=by
    rw [iS2.length,List.length_map]
    have:=congrArg List.length (qt cs (aX (cO (1,1) rs) (1,1)))
    rw [List.length_map] at this
    trivial
   refine ⟨S1,S2,z1,z2,rfl,rfl,s6 _ _ hS1,hS2,by trivial,fun S H7 n7=>k S _ H7 ((s05.trans s6).trans n7.sm) ((s05.trans s6).free n7.fr) n7.at' ?_ ?_⟩
   ·show ah ED H7 (z1++z2) ((gN (1,1) rs++gN _ cs).map AG)
    rw [List.map_append]
    exact ((iS1.mono s6.toE).append iS2).mono n7.sm.toE
   ·intro x hx
    rcases List.mem_append.mp hx with hx | hx
    ·obtain ⟨u,v⟩:=wb rs (1,1) 1 1 10 r6 (by decide) (fun c hc=>(gr c hc).2) lr x hx
     exact ⟨u.mono (by decide) (by decide),v⟩
    ·obtain ⟨u,v⟩:=wb cs _ 63 62 10 gB pB (fun c hc=>(gc c hc).2) lc x hx
     exact ⟨u.mono (by decide) (by decide),v⟩
end
end K21
namespace K21
open PySem L2
set_option maxHeartbeats 8000000
def Co (xs:List (SD×KM.Fra)) (q:KM.Fra):Prop:=(∃x∈xs,q=aH x.1.room x.2)∧∀x∈xs,KM.vl q≤KM.vl (aH x.1.room x.2)
def AT (ts:List ap) (q:KM.Fra) (ps:List KM.Fra) (x:SD×KM.Fra):List KM.Fra:=match ps[x.1.n]?,ts[x.1.n]? with
 | some p,some t=>ps.set x.1.n (if x.1.bk=true then aX p (aH (KM.lTim q x.2) t.gain) else KM.ladd p (KM.lTim q x.2))
 | _,_=>ps
def fu (ts:List ap) (q:KM.Fra) (ps:List KM.Fra) (xs:List (SD×KM.Fra)):List KM.Fra:=xs.foldl (AT ts q) ps
theorem Ea (ts:List ap) (q:KM.Fra) (ps:List KM.Fra) (xs:List (SD×KM.Fra)) (x:SD×KM.Fra):fu ts q ps (xs++[x])=AT ts q (fu ts q ps xs) x:=by
 unfold fu
 rw [List.foldl_append];rfl
theorem Fq {E:Addr→Prop}{H:Hp}{v:V}{x:SD×KM.Fra} (h:aI E H v (AG x)):kJ fun t o p=>v=.ref t∧H t=some (.tup [.ref o,.ref p])∧H o=some (.tup (qY (kP x.1)))∧H p=some (fr x.2):=by
 cases h with
 | @tup a xs _ h r=>
  cases r with
  | @cons u1 _ _ _ h1 r=>
  cases r with
  | @cons u2 _ _ _ h2 r=>
  cases r
  obtain ⟨o,rfl,ho⟩:=fA h1
  obtain ⟨p,rfl,hp⟩:=cm h2
  exact ⟨a,o,p,rfl,h,ho,hp⟩
theorem tG:∀(cs:List SD) (m:KM.Fra) (x:SD×KM.Fra),x∈gN m cs→x.1∈cs
 | [],_,x,hx=>by cases hx
 | c :: cs,m,x,hx=>by
  rcases List.mem_cons.mp hx with z | z
  ·rw [z];exact List.mem_cons_self ..
  ·exact List.mem_cons_of_mem _ (tG cs _ x z)
theorem EG {ss:List SD}{bt:BT} (ok:vj ss bt):∀x∈bt.parts,x.1∈ss∧Gb 6 6 x.1.gain∧1≤x.1.gain.1:=fun x hx=>by
 cases bt with
 | way cs=>exact ok.1 _ (tG _ _ x hx)
 | ring rs cs=>
  obtain ⟨gr,_,gc,_⟩:=ok
  rcases List.mem_append.mp hx with hx | hx
  ·exact gr _ (tG _ _ x hx)
  ·exact gc _ (tG _ _ x hx)
theorem Jw {ss:List SD}{bt:BT} (ok:vj ss bt):bt.parts.length≤20:=by
 have key:∀(m:KM.Fra) (cs:List SD),(gN m cs).length=cs.length:=fun m cs=>by
  have:=congrArg List.length (qt cs m)
  rwa [List.length_map] at this
 cases bt with
 | way cs=>show (gN _ cs).length≤20;rw [key];have:=ok.2;trivial
 | ring rs cs=>
  obtain ⟨_,lr,_,lc,_⟩:=ok
  show (gN _ rs++gN _ cs).length≤20
  rw [List.length_append,key,key];trivial
section
variable {P:Program}{w:World}{K:PySem.W.Frag}{mg:Str→Option Value}{base:Heap}
inductive Ji (vs:List V) (H:Hp) (Q:VK):Prop
 | mk (a:Addr) (xs:List V) (ps:List KM.Fra) (c d:Nat) (h0:vs=[.ref a]) (h1:H a=some (.lst xs)) (h2:ah ED H xs (ps.map aN)) (h3:ps≠[]) (h4:(∀p∈ps,Gb c d p)) (h5:c≤4000) (h6:d≤4000) (h7:∀o q H',aa H H'→H' o=some (fr q)→q∈ps→(∀p∈ps,KM.vl q≤KM.vl p)→Q (.ref o) H')
def Kz:Sp:=fun vs H Q _=>Ji  vs H Q
theorem FP (T:Txt K mg):aZ P w K mg base CX0 3 T.least_.f T.least_.d ["parts"] Kz:=by
 have G_compared:=#[(kO)]
 refine T.least_.F.ok tH (fun vs H Q E h=>?_) (fun cdv A outer s H vs Q E hr h=>?_)
 ·obtain ⟨a,xs,ps,c,d,rfl,_⟩:=h
  rfl
 ·obtain ⟨a,xs,ps,c,d,rfl,ha,ixs,ne,gp,hc,hd,k⟩:=h
  have lxs:xs.length=ps.length:=by rw [ixs.length,List.length_map]
  refine ⟨_,#[#[1,tH.nd,mi,#[#[0,uA][#[()]]!]] :: #[#[jN 8 PassesOwn.never rfl (@bF _ (K) _ _ _ #[0,uA] (by rfl)) #[2,tH.nd,pV] #[ae 3 #[bA 8 #[aK 8 (@re _) #[G_compared,xG,T.compared_,#[[#[2,pV],#[1,mi]]]] #[()] #[(),()]] #[ae 3 #[1,tH.nd,mi,#[2,pV]]] (@aQ _)]] (by intro _;rfl)] :: #[ae 3 #[av 4 #[1,mi]]]]],?_⟩
  have l0:0<ps.length:=List.length_pos_iff.mpr ne
  obtain ⟨p0,e0⟩:∃p0,ps[0]?=some p0:=⟨_,List.getElem?_eq_getElem l0⟩
  obtain ⟨x0,f0⟩:∃x0,xs[0]?=some x0:=⟨_,List.getElem?_eq_getElem (by trivial)⟩
  obtain ⟨b0,rfl,hb0⟩:=cm (ixs.nth 0 f0 (by rw [List.getElem?_map,e0];rfl))
  refine cw fun Q1 nA=>⟨(),a,_,_,(),rfl,ak.of ha,aW (j:=0) f0,nA _ _ ?_⟩
  refine bv fun D2 n2=>⟨(),a,rfl,⟨xs,ak.of ha⟩,nv (xs:=xs) (fun i σ H'=>kJ fun bo v2 q=>σ=[some (.ref a),some (.ref bo),v2]∧aa H H'∧H' bo=some (fr q)∧q∈ps∧∀p∈ps.take i,KM.vl q≤KM.vl p) ⟨b0,none,p0,rfl,aa.refl _,hb0,List.mem_of_getElem? e0,fun p hp=>by cases hp⟩ ?_ ?_ ?_⟩
  ·rintro i σ H' _ ⟨_,_,_,_,sm,_⟩
   exact ak.of (sm _ _ ha)
  ·rintro i x σ J hx ⟨bo,v2,q,rfl,sm,hbo,mq,le⟩
   obtain ⟨p,ep⟩:∃p,ps[i]?=some p:=⟨_,List.getElem?_eq_getElem (by have:=(List.getElem?_eq_some_iff.mp hx).1;trivial)⟩
   obtain ⟨po,rfl,hpo⟩:=cm ((ixs.mono sm.toE).nth i hx (by rw [List.getElem?_map,ep];rfl))
   have mp:=List.mem_of_getElem? ep
   have g1:=gp p mp
   have g2:=gp q mq
   obtain ⟨z1,z2⟩:=gz g1 (by trivial) (by trivial)
   obtain ⟨z3,z4⟩:=gz g2 (by trivial) (by trivial)
   refine ⟨(),(),po,bo,_,_,_,(),hpo,hbo,z1,z2,z3,z4,_,(),rfl,(),?_⟩
   rw [DV]
   refine mS (fun c=>⟨(),po,_,p,rfl,sm,hpo,mp,fun p' hp'=>?_⟩) fun c=>⟨bo,_,q,rfl,sm,hbo,mq,fun p' hp'=>?_⟩
   ·have lt:=(gE g1.pos g2.pos).mpr (of_decide_eq_true c)
    rw [List.take_succ,ep] at hp'
    rcases List.mem_append.mp hp' with z | z
    ·exact Rat.le_trans (Rat.le_of_lt lt) (le p' z)
    ·rw [show p'=p by simpa using z];exact Rat.le_refl
   ·have nl:¬KM.vl p<KM.vl q:=fun z=>c (decide_eq_true ((gE g1.pos g2.pos).mp z))
    rw [List.take_succ,ep] at hp'
    rcases List.mem_append.mp hp' with z | z
    ·exact le p' z
    ·rw [show p'=p by simpa using z];exact Rat.not_lt.mp nl
  ·rintro σ J ⟨bo,v2,q,rfl,sm,hbo,mq,le⟩
   rw [lxs,List.take_length] at le
   exact n2 _ _ ⟨(),k bo q J sm hbo mq le⟩
inductive IP (vs:List V) (H:Hp) (Q:VK):Prop
 | mk (v vb ve:V) (sa Ta:Addr) (ls:List (List Nat)) (ts:List ap) (xs:List V) (ps:List KM.Fra) (bt:BT) (a b:Nat) (h0:vs=[v,vb,ve,.ref sa,.ref Ta]) (h1:aI ED H v (iV ls ts)) (h2:(∀t∈ts,kG ls t)) (h3:ts.length≤40) (h4:H sa=some (.lst xs)) (h5:ah ED H xs (ps.map aN)) (h6:ps.length=ts.length) (h7:(∀p∈ps,Gb a b p)) (h8:a≤800) (h9:b≤800) (h10:xD H Ta bt) (h11:vj (aj ts ps ts.length) bt) (h12:bt.parts≠[]) (h13:(bt.parts.map (·.1.n)).Nodup) (h14:∀L ys q H',aa H H'→H L=none→H' L=some (.lst ys)→ah ED H' ys ((fu ts q ps bt.parts).map aN)→Co bt.parts q→(∀p∈fu ts q ps bt.parts,Gb 1980 1980 p)→Q (.ref L) H')
def Ks:Sp:=fun vs H Q _=>IP  vs H Q
theorem rE (T:Txt K mg):aZ P w K mg base CX0 8 T.bettered_.f T.bettered_.d ["net", "begin", "end", "stream", "thing"] Ks:=by
 have G_by_pairs:=#[(wI)]
 have G_shares_of:=#[(Bv)]
 have G_least:=#[(FP)]
 have G_over:=#[(CK)]
 have G_times:=#[(mU)]
 have G_taken:=#[(tw)]
 have G_added:=#[(Bp)]
 refine T.bettered_.F.ok eI (fun vs H Q E h=>?_) (fun cdv A outer s H vs Q E hr h=>?_)
 ·obtain ⟨v,vb,ve,sa,Ta,ls,ts,xs,ps,bt,a,b,rfl,_⟩:=h
  rfl
 ·obtain ⟨v,vb,ve,sa,Ta,ls,ts,xs,ps,bt,a,b,rfl,iN,tc,h40,hsa,ixs,lps,gp,ha,hb,hT,ok,ne,nd,k⟩:=h
  refine ⟨_,#[#[jh 2 (5) _ _ _ _ eI.nd rfl (Or.inr qR) #[G_by_pairs,uL,T.by_pairs_,#[[#[0,sL],#[3,pb]]]] (by rfl) (by first | exact .inl rfl | exact .inr rfl | assumption)] :: #[#[6,eI.nd,kD,#[G_shares_of,tN,T.shares_of_,#[[#[5,(qR)],#[4,xq]]]]] :: #[#[8,eI.nd,qS,#[G_least,xB,T.least_,#[[#[b5 7 (["pair", "share", "left"]) (2) ([5]) _ _ _ _ rfl (by kernel_rfl) (@bF _ (K) _ _ _ #[6,kD] (by rfl)) (fun _ _ _ _ _ _=>(@b4 _ (K) _ _ _ _ (2) rfl #[au 5 #[0,(),()] #[au 5 #[1,(),()] (@b3 _) (by rfl)] (by rfl)] (by rfl) (by rfl) (by rfl))) (fun _ _ _ _ _ _=>@bE _) (fun _ _ _ _ _ _=>#[G_over,(),T.over_,#[[#[#[b8 7 (@qg _ hr.units) #[2,0] #[0,()] (fun _ _=>rfl)][#[()]]],#[1,()]]]]) (by intro _;rfl)]]]]] :: #[#[9,eI.nd,eB,#[fe 9 (@Ah _ (K) (by rfl)) yu T.b_list (@mG) #[[#[3,pb]]] (by decide) (by decide) (by rfl) (by rfl)]] :: #[#[jN 8 PassesOwn.never rfl (@bF _ (K) _ _ _ #[6,kD] (by rfl)) (@b4 _ (K) _ _ _ _ (2) rfl #[au 5 (@b4 _ (K) _ _ _ _ (2) rfl #[au 5 #[10,eI.nd,dN] #[au 5 #[11,eI.nd,qX] (@b3 _) (by rfl)] (by rfl)] (by rfl) (by rfl) (by rfl)) #[au 5 #[7,eI.nd,qi] (@b3 _) (by rfl)] (by rfl)] (by rfl) (by rfl) (by rfl)) #[#[12,eI.nd,lQ,#[G_times,wU,T.times_,#[[#[8,qS],#[7,qi]]]]] :: #[ae 3 #[bA 8 #[b9 3 #[11,qX] (by intro _;rfl)] #[ae 3 #[dZ 6 #[G_taken,xo,T.taken_,#[[#[#[9,eB][#[10,dN]]!],#[G_over,yp,T.over_,#[[#[12,lQ],#[#[#[#[0,sL][#[()]]][#[10,dN]]][#[()]]]]]]]]] #[nS 7 #[9,eB] #[10,dN] (@z0 _) (by intro _;rfl)] (by rfl) (by rfl) (by rfl)]] #[ae 3 #[dZ 6 #[G_added,wW,T.added_,#[[#[#[9,eB][#[10,dN]]!],#[12,lQ]]]] #[nS 7 #[9,eB] #[10,dN] (@z0 _) (by intro _;rfl)] (by rfl) (by rfl) (by rfl)]]]]] (by intro _;rfl)] :: #[ae 3 #[av 4 #[9,eB]]]]]]]],?_⟩
  have sc:=y6 (c:=max (21+b) (a+6)) (d:=b+6) tc gp (by trivial) (by trivial) (Nat.le_refl _)
  have xc:∀x∈bt.parts,LE ls ts 830 830 x.1:=fun x hx=>by
   have h:=sc x.1 (EG ok x hx).1
   exact ⟨h.n,h.e,h.w,h.r.mono (by trivial) (by trivial),h.g,h.g1⟩
  have l20:=Jw ok
  have bm:=EG ok
  refine cw fun Q1 nA1=>⟨(),(),v,sa,ls,ts,xs,ps,a,b,rfl,iN,tc,h40,hsa,ixs,lps,gp,by trivial,by trivial,fun d H1 s1 fd hbp=>nA1 _ _ ?_⟩
  generalize aj ts ps ts.length=ss at *
  have hT1:xD H1 Ta bt:=by
   cases bt with
   | way cs=>obtain ⟨L,ys,h1,h2,h3⟩:=hT;exact ⟨L,ys,s1 _ _ h1,s1 _ _ h2,h3.mono s1.toE⟩
   | ring rs cs=>obtain ⟨R,L,us,ys,h1,h2,h3,h4,h5⟩:=hT;exact ⟨R,L,us,ys,s1 _ _ h1,s1 _ _ h2,h3.mono s1.toE,s1 _ _ h4,h5.mono s1.toE⟩
  refine cw fun Q2 nA2=>⟨(),(),d,Ta,ss,bt,rfl,hbp,hT1,ok,fun S zs H2 s2 fS hS iS gx=>nA2 _ _ ?_⟩
  have lzs:zs.length=bt.parts.length:=by rw [iS.length,List.length_map]
  refine cw fun Q3 nA3=>⟨(),S,rfl,⟨zs,ak.of hS⟩,fun M hM=>fV (ds:=bt.parts) AG (fun _=>true) (fun x=>aN (aH x.1.room x.2)) (by trivial) hM hS iS ?_ ?_⟩
  ·intro i x dx H' R1 R2 hx ed hy sm q1 q2
   obtain ⟨t,o,p,rfl,ht,ho,hp⟩:=Fq hy
   have mx:=List.mem_of_getElem? ed
   obtain ⟨kvs,os,r,gg,hd,hm,hos,hr',hg⟩:=((hbp.sm s2).sm sm).get (bm dx mx).1
   obtain ⟨gp2,p1⟩:=gx dx mx
   obtain ⟨z1,z2⟩:=gz (xc dx mx).r (by decide) (by decide)
   obtain ⟨z3,z4⟩:=gz gp2 (by decide) (by decide)
   refine ⟨t,(),ar.of ht,rfl,_,(),_,(),rfl,yx,ay (B:=R2 H') ⟨(),(),d,o,kvs,kP dx.1,(),rfl,hd,ho,hm,os,_,_,(),rfl,ar.of hos,rfl,(),r,p,_,_,_,(),hr',hp,⟨z1,z2,z3,z4,(by show dx.1.room.2*dx.2.1≠0;exact Int.mul_ne_zero (by have:=(xc dx mx).r.pos;trivial) (by trivial))⟩,fun y J n=>q1 rfl _ _ n.sm (cB (p:=aH dx.1.room dx.2) n.at')⟩⟩
  ·intro H3 ms s3 hM3 iM
   rw [show bt.parts.filter (fun _=>true)=bt.parts from List.filter_eq_self.mpr fun _ _=>rfl,show bt.parts.map (fun x=>aN (aH x.1.room x.2))=(bt.parts.map fun x=>aH x.1.room x.2).map aN by rw [List.map_map];rfl] at iM
   refine ⟨M,ms,_,960,960,rfl,hM3,iM,fun z=>ne (List.map_eq_nil_iff.mp z),fun q hq=>?_,by decide,by decide,fun mo q H4 s4 hmo mq le=>nA3 _ _ ?_⟩
   ·obtain ⟨x,hx,rfl⟩:=List.mem_map.mp hq
    exact (xc x hx).r.ovr (gx x hx).1 (gx x hx).2 (by decide) (by decide)
   have gq:Gb 960 960 q:=by
    obtain ⟨x,hx,rfl⟩:=List.mem_map.mp mq
    exact (xc x hx).r.ovr (gx x hx).1 (gx x hx).2 (by decide) (by decide)
   have mu:Co bt.parts q:=by
    refine ⟨?_,fun x hx=>le _ (List.mem_map_of_mem hx)⟩
    obtain ⟨x,hx,e⟩:=List.mem_map.mp mq
    exact ⟨x,hx,e.symm⟩
   have s04:=((s1.trans s2).trans s3).trans s4
   refine cw fun Q4 nA4=>⟨(),sa,(),.inl (ak.of (s04 _ _ hsa)),fun L H5 n5=>nA4 _ _ ?_⟩
   have s05:=s04.trans n5.sm
   have s25:=(s3.trans s4).trans n5.sm
   obtain ⟨na,pa,ta,tys,rfl,hna,hpa,hta,ity⟩:=gL iN
   have lty:tys.length=ts.length:=by rw [ity.length,List.length_map]
   have fL:H L=none:=s04.free n5.fr
   refine bv fun D6 n6=>⟨(),S,rfl,⟨zs,ak.of (s25 _ _ hS)⟩,nv (xs:=zs) (fun i σ H'=>Ih fun (v7 v10 v11 v12:Option V) (ys:List V)=>σ=[some (.ref na),some vb,some ve,some (.ref sa),some (.ref Ta),some (.ref d),some (.ref S),v7,some (.ref mo),some (.ref L),v10,v11,v12]∧aa H H'∧aa H2 H'∧H' mo=some (fr q)∧H' L=some (.lst ys)∧ah ED H' ys ((fu ts q ps (bt.parts.take i)).map aN)∧(fu ts q ps (bt.parts.take i)).length=ps.length∧(∀p∈fu ts q ps (bt.parts.take i),Gb 1980 1980 p)∧∀(j:Nat),(∀x∈bt.parts.take i,x.1.n≠j)→(fu ts q ps (bt.parts.take i))[j]?=ps[j]?) ⟨_,_,_,_,(),s05,s25,n5.sm _ _ hmo,n5.at',ixs.mono s05.toE,rfl,(fun p hp=>(gp p hp).mono (by trivial) (by trivial)),fun j _=>rfl⟩ ?_ ?_ ?_⟩
   ·rintro i σ H' _ ⟨_,_,_,_,_,_,_,sm,_⟩
    exact ak.of (sm _ _ hS)
   ·rintro i x σ J hx ⟨v7,v10,v11,v12,ys,rfl,sH,sm,hmoJ,hLJ,iLJ,lB,gB,oB⟩
    obtain ⟨dx,ed⟩:∃dx,bt.parts[i]?=some dx:=⟨_,List.getElem?_eq_getElem (by have:=(List.getElem?_eq_some_iff.mp hx).1;trivial)⟩
    have mx:=List.mem_of_getElem? ed
    obtain ⟨t,o,p,rfl,ht,ho,hp⟩:=Fq ((iS.mono sm.toE).nth i hx (by rw [List.getElem?_map,ed];rfl))
    obtain ⟨gp2,p1⟩:=gx dx mx
    have dn:=(xc dx mx).n
    obtain ⟨tie,et⟩:∃tie,ts[dx.1.n]?=some tie:=⟨_,List.getElem?_eq_getElem dn⟩
    obtain ⟨p0,ep⟩:∃p0,ps[dx.1.n]?=some p0:=⟨_,List.getElem?_eq_getElem (by trivial)⟩
    have fresh:∀x∈bt.parts.take i,x.1.n≠dx.1.n:=fun x hx' z=>by
     obtain ⟨j,hj⟩:=List.getElem?_of_mem hx'
     have hji:j<i:=by
      have:=(List.getElem?_eq_some_iff.mp hj).1
      rw [List.length_take] at this
      trivial
     rw [List.getElem?_take,if_pos hji] at hj
     have:=Cn nd (show (bt.parts.map (·.1.n))[j]?=some dx.1.n by rw [List.getElem?_map,hj];exact congrArg some z) (show (bt.parts.map (·.1.n))[i]?=some dx.1.n by rw [List.getElem?_map,ed];rfl)
     trivial
    have eb:=oB _ fresh
    rw [ep] at eb
    generalize hB:fu ts q ps (bt.parts.take i)=B at iLJ lB gB oB eb
    have eF:fu ts q ps (bt.parts.take (i+1))=AT ts q B dx:=by
     rw [List.take_succ,ed]
     show fu ts q ps (bt.parts.take i++[dx])=_
     rw [Ea,hB]
    have lY:ys.length=ts.length:=by rw [iLJ.length,List.length_map,lB,lps]
    obtain ⟨yv,ey⟩:∃yv,ys[dx.1.n]?=some yv:=⟨_,List.getElem?_eq_getElem (by trivial)⟩
    obtain ⟨oy,rfl,hoy⟩:=cm (iLJ.nth dx.1.n ey (by rw [List.getElem?_map,eb];rfl))
    have g0:=gp p0 (List.mem_of_getElem? ep)
    have tt:=tc tie (List.mem_of_getElem? et)
    obtain ⟨tv,etv⟩:∃tv,tys[dx.1.n]?=some tv:=⟨_,List.getElem?_eq_getElem (by trivial)⟩
    obtain ⟨oo,om,og,op,rfl,hoo,hom,hog,hop⟩:=gQ ((ity.mono sH.toE).nth dx.1.n etv (by rw [List.getElem?_map,et];rfl))
    obtain ⟨z1,z2⟩:=gz gq (by decide) (by decide)
    obtain ⟨z3,z4⟩:=gz gp2 (by decide) (by decide)
    obtain ⟨z5,z6⟩:=gz tt.fg (by decide) (by decide)
    obtain ⟨z7,z8⟩:=gz g0 (by trivial) (by trivial)
    have gg:Gb 1090 1090 (KM.lTim q dx.2):=gq.tim gp2 (by decide) (by decide)
    obtain ⟨y1,y2⟩:=gz gg (by decide) (by decide)
    refine ⟨t,(),ar.of ht,rfl,_,(),o,(),ar.of ho,rfl,_,(),_,(),rfl,_,(),rfl,?_⟩
    dsimp only
    refine GI (t:=nj _ _) fun DE nE=>?_
    refine cw fun Q7 nA7=>⟨(),(),mo,p,_,_,_,(),hmoJ,hp,⟨z1,z2,z3,z4,gd gq gp2⟩,fun gO J1 n1=>nA7 _ _ ?_⟩
    have fin:∀(w:Addr) (z:KM.Fra) (J' J'':Hp),aa J1 J'→J' w=some (fr z)→Gb 1980 1980 z→(z=if dx.1.bk=true then aX p0 (aH (KM.lTim q dx.2) tie.gain) else KM.ladd p0 (KM.lTim q dx.2))→Ch J' L (ys.set dx.1.n (.ref w)) J''→Ih fun (v7 v10 v11 v12:Option V) (ys':List V)=>[some (V.ref na),some vb,some ve,some (V.ref sa),some (V.ref Ta),some (V.ref d),some (V.ref S),some (V.ref p),some (V.ref mo),some (V.ref L),some (V.int (dx.1.n:Int)),some (V.bl dx.1.bk),some (V.ref gO)]=[some (.ref na),some vb,some ve,some (.ref sa),some (.ref Ta),some (.ref d),some (.ref S),v7,some (.ref mo),some (.ref L),v10,v11,v12]∧aa H J''∧aa H2 J''∧J'' mo=some (fr q)∧J'' L=some (.lst ys')∧ah ED J'' ys' ((fu ts q ps (bt.parts.take (i+1))).map aN)∧(fu ts q ps (bt.parts.take (i+1))).length=ps.length∧(∀p∈fu ts q ps (bt.parts.take (i+1)),Gb 1980 1980 p)∧∀(j:Nat),(∀x∈bt.parts.take (i+1),x.1.n≠j)→(fu ts q ps (bt.parts.take (i+1)))[j]?=ps[j]?:=fun w z J' J'' s' hw gw ez c'=>by
     have hL1:=s' _ _ (n1.sm _ _ hLJ)
     have e1:AT ts q B dx=B.set dx.1.n z:=by
      unfold AT
      rw [eb,et,ez]
     rw [eF,e1]
     refine ⟨_,_,_,_,(),aa.ch ((sH.trans n1.sm).trans s') c' fL,aa.ch ((sm.trans n1.sm).trans s') c' ((s3.trans s4).free n5.fr),c'.tup (s' _ _ (n1.sm _ _ hmoJ)) hL1,c'.at',?_,by rw [List.length_set,lB],fun p hp=>?_,fun j hj=>?_⟩
     ·rw [List.map_set]
      have i':ah ED J' ys (B.map aN):=(iLJ.mono n1.sm.toE).mono s'.toE
      exact (i'.set (cB hw) dx.1.n).mono ⟨fun _ _ n _=>absurd trivial n,fun _ _ e=>c'.tup e hL1⟩
     ·rcases List.mem_or_eq_of_mem_set hp with h | h
      ·exact gB p h
      ·rw [h];exact gw
     ·have n1':dx.1.n≠j:=hj dx (by rw [List.take_succ,ed];simp)
      rw [List.getElem?_set_ne n1']
      exact oB j fun x hx'=>hj x (by rw [List.take_succ];exact List.mem_append_left _ hx')
    have ixn:qI ys.length (dx.1.n:Int)=some dx.1.n:=Hm (by trivial)
    have hL1:=n1.sm _ _ hLJ
    have hoy1:=n1.sm _ _ hoy
    refine ⟨(),(),?_⟩
    cases hbk:dx.1.bk with
    | true=>
     refine ay ?_
     refine ⟨(),(),L,_,_,(),rfl,ak.of hL1,aW ey,(),(),na,_,_,(),rfl,ar.of ((sH.trans n1.sm) _ _ hna),rfl,(),ta,_,_,(),rfl,ar.of ((sH.trans n1.sm) _ _ hta),aW etv,oo,_,_,(),rfl,ar.of (n1.sm _ _ hoo),rfl,gO,og,_,_,_,(),n1.at',n1.sm _ _ hog,⟨y1,y2,z5,z6,(by show (KM.lTim q dx.2).2*tie.gain.1≠0;exact Int.mul_ne_zero (by have:=gg.pos;trivial) (by have:=tt.g1;trivial))⟩,fun q3 J3 n3=>?_⟩
     have g3:Gb 1096 1096 (aH (KM.lTim q dx.2) tie.gain):=gg.ovr tt.fg tt.g1 (by decide) (by decide)
     obtain ⟨u1,u2⟩:=gz g3 (by decide) (by decide)
     refine ⟨oy,q3,_,_,_,(),n3.sm _ _ hoy1,n3.at',⟨z7,z8,u1,u2,gd g0 g3⟩,fun q4 J4 n4=>⟨(),(),L,ys,_,dx.1.n,rfl,rfl,(n3.sm.trans n4.sm) _ _ hL1,ixn,fun J5 c5=>nE _ _ ?_⟩⟩
     have:=fin q4 (aX p0 (aH (KM.lTim q dx.2) tie.gain)) J4 J5 (n3.sm.trans n4.sm) n4.at' (g0.min g3 (by trivial) (by trivial) (by trivial)) (by rw [hbk,if_pos rfl]) c5
     rw [hbk] at this
     exact this
    | false=>
     refine aJ ?_
     refine ⟨(),(),L,_,_,(),rfl,ak.of hL1,aW ey,(),oy,gO,_,_,_,(),hoy1,n1.at',⟨z7,z8,y1,y2,gd g0 gg⟩,fun q4 J4 n4=>⟨(),(),L,ys,_,dx.1.n,rfl,rfl,n4.sm _ _ hL1,ixn,fun J5 c5=>nE _ _ ?_⟩⟩
     have:=fin q4 (KM.ladd p0 (KM.lTim q dx.2)) J4 J5 n4.sm n4.at' (g0.add gg (by trivial) (by trivial) (by trivial)) (by rw [hbk,if_neg Bool.false_ne_true]) c5
     rw [hbk] at this
     exact this
   ·rintro σ J ⟨v7,v10,v11,v12,ys,rfl,sH,sm,hmoJ,hLJ,iLJ,lB,gB,oB⟩
    rw [lzs,List.take_length] at iLJ gB
    exact n6 _ _ ⟨(),k L ys q J sH fL hLJ iLJ mu gB⟩
end
end K21
namespace K21
open PySem L2
set_option maxHeartbeats 8000000
def ym:PyData→Option Int
 | .int n=>some n
 | _=>none
def vI:PyData→Option Bool
 | .bool n=>some n
 | _=>none
def pP:PyData→Option dB
 | .tuple [a,b]=>(ym a).bind fun n=>(vI b).map fun m=>(n,m)
 | _=>none
theorem Eh (d:PyData):yb d=(ym d).isSome:=by cases d <;> rfl
theorem Eg (d:PyData):wq d=(vI d).isSome:=by cases d <;> rfl
theorem CW (a b:PyData):(pP (.tuple [a,b])).isSome=(yb a && wq b):=by
 rw [Eh,Eg]
 show ((ym a).bind fun n=>(vI b).map fun m=>(n,m)).isSome=_
 cases ym a <;> cases vI b <;> rfl
def lX (ss:List SD) (k:dB):Option SD:=ss.find? fun s=>decide (kP s=k)
def fH (ss:List SD) (d:PyData):Option SD:=(pP d).bind (lX ss)
def hJ (ss:List SD):List PyData→Option (List SD)
 | []=>some []
 | d :: ds=>(fH ss d).bind fun s=>(hJ ss ds).map (s :: ·)
def cM:List SD→Bool
 | a :: b :: r=>decide (a.en=b.st) && cM (b :: r)
 | _=>true
def k8 (ss:List SD):PyData→Option (List SD)
 | .list ds=>(hJ ss ds).filter cM
 | _=>none
theorem zO {d:PyData}{k:dB} (h:pP d=some k):d=.tuple [.int k.1,.bool k.2]:=by
 unfold pP at h
 split at h
 ·rename_i a b
  cases a <;> simp only [ym,Option.bind_none,Option.bind_some,reduceCtorEq] at h
  cases b <;> simp only [vI,Option.map_none,Option.map_some,reduceCtorEq] at h
  cases h
  rfl
 ·cases h
theorem nF {ss:List SD}{k:dB}{s:SD} (h:lX ss k=some s):s∈ss∧kP s=k:=⟨List.mem_of_find?_eq_some h,by simpa using List.find?_some h⟩
theorem uu {ss:List SD}{k:dB}:(lX ss k).isSome=decide (k∈ss.map kP):=by
 by_cases hk:k∈ss.map kP
 ·rw [decide_eq_true hk]
  obtain ⟨s,m,e⟩:=List.mem_map.mp hk
  cases q:lX ss k with
  | some _=>rfl
  | none=>exact absurd (decide_eq_true e) (by simpa using List.find?_eq_none.mp q s m)
 ·rw [decide_eq_false hk]
  cases q:lX ss k with
  | none=>rfl
  | some s=>
   obtain ⟨m,e⟩:=nF q
   exact absurd (List.mem_map.mpr ⟨s,m,e⟩) hk
theorem Hv {ss:List SD} (nd:(ss.map kP).Nodup):∀{a b:SD},a∈ss→b∈ss→kP a=kP b→a=b:=by
 induction ss with
 | nil=>intro a b ha;cases ha
 | cons x r ih=>
  intro a b ha hb e
  rw [List.map_cons,List.nodup_cons] at nd
  rcases List.mem_cons.mp ha with e1 | m1 <;> rcases List.mem_cons.mp hb with e2 | m2
  ·rw [e1,e2]
  ·exact absurd (List.mem_map.mpr ⟨b,m2,by rw [←e,e1]⟩) nd.1
  ·exact absurd (List.mem_map.mpr ⟨a,m1,by rw [e,e2]⟩) nd.1
  ·exact ih nd.2 m1 m2 e
theorem C1 {ss:List SD} (nd:(ss.map kP).Nodup) {s:SD} (hs:s∈ss):lX ss (kP s)=some s:=by
 cases q:lX ss (kP s) with
 | none=>have:=uu (ss:=ss) (k:=kP s);rw [q,decide_eq_true (List.mem_map_of_mem hs)] at this;cases this
 | some x=>
  obtain ⟨m,e⟩:=nF q
  rw [Hv nd m hs e]
theorem C9 {ss:List SD}{d:PyData}{s:SD} (h:fH ss d=some s):s∈ss∧d=pD s:=by
 obtain ⟨k,h1,h2⟩:=Option.bind_eq_some_iff.mp h
 obtain ⟨m,rfl⟩:=nF h2
 exact ⟨m,zO h1⟩
theorem FG {ss:List SD} (nd:(ss.map kP).Nodup) {s:SD} (hs:s∈ss):fH ss (pD s)=some s:=C1 nd hs
theorem tE {ss:List SD}:∀{ds:List PyData}{cs:List SD},hJ ss ds=some cs→ds=cs.map pD∧∀c∈cs,c∈ss
 | [],cs,h=>by cases h;exact ⟨rfl,fun c h=>by cases h⟩
 | d :: ds,cs,h=>by
  obtain ⟨s,h1,h2⟩:=Option.bind_eq_some_iff.mp h
  obtain ⟨r,h3,rfl⟩:=Option.map_eq_some_iff.mp h2
  obtain ⟨m,rfl⟩:=C9 h1
  obtain ⟨rfl,q⟩:=tE h3
  exact ⟨rfl,fun c hc=>(List.mem_cons.mp hc).elim (fun z=>z▸m) (q c)⟩
theorem Bb {ss:List SD} (nd:(ss.map kP).Nodup):∀{cs:List SD},(∀c∈cs,c∈ss)→hJ ss (cs.map pD)=some cs
 | [],_=>rfl
 | c :: cs,h=>by
  show (fH ss (pD c)).bind (fun s=>(hJ ss (cs.map pD)).map (s :: ·))=_
  rw [FG nd (h c (List.mem_cons_self ..)),Bb nd fun c hc=>h c (List.mem_cons_of_mem _ hc)]
  rfl
theorem qb {ss:List SD}:∀ds:List PyData,(hJ ss ds).isSome=ds.all fun d=>(fH ss d).isSome
 | []=>rfl
 | d :: ds=>by
  show ((fH ss d).bind fun s=>(hJ ss ds).map (s :: ·)).isSome=_
  rw [List.all_cons,←qb ds]
  cases fH ss d <;> cases hJ ss ds <;> rfl
theorem ze:∀cs:List SD,cM cs=(List.zipWith (fun a b:SD=>decide (a.en=b.st)) cs (cs.drop 1)).all id
 | []=>rfl
 | [_]=>rfl
 | a :: b :: r=>by
  show (decide (a.en=b.st) && cM (b :: r))=_
  rw [ze (b :: r)]
  rfl
theorem Jn {E:Addr→Prop}{H:Hp}{v:V}{k:dB} (h:aI E H v (.tuple [.int k.1,.bool k.2])):∃t,v=.ref t∧H t=some (.tup (qY k)):=by
 cases h with
 | @tup a xs _ h r=>
  cases r with
  | @cons u1 _ _ _ h1 r=>
  cases r with
  | @cons u2 _ _ _ h2 r=>
  cases r
  cases h1
  cases h2
  exact ⟨a,rfl,h⟩
theorem oj {J:It}{D:Addr}{H1:Hp}{σc:St}{g:TG}{te:TE}{Q:VK} (bs:List Bool) (hz:bs.length≤10000) (hD:H1 D=none)
 (hgo:∀i H',i<bs.length→aa H1 H'→J.go i H') (hst:∀H',aa H1 H'→J.stop bs.length H')
 (hs:∀(i:Nat) (b:Bool) (x:V) (H' H'':Hp) (R:VK),bs[i]?=some b→aa H1 H'→J.yld i H' x H''→(∀H4,aa H' H4→R (.bl b) H4)→g x σc H'' fun σ2 H2=>ja σc σ2∧te σ2 H2 R)
 (hd:∀H',aa H1 H'→H' D=some (.lst (bs.map V.bl))→Q (.ref D) H'):tM J σc g tT te D H1 Q:=by
 refine lF (n:=bs.length) (fun i H' ys=>H' D=some (.lst ys)∧ys=(bs.take i).map V.bl∧aa H1 H') (by rw [sizeLine_eq];trivial) ⟨aA,rfl,aa.new hD⟩ ?_ ?_ ?_ ?_ ?_
 ·rintro i H' ys ⟨h1,rfl,_⟩
  exact ⟨h1,by rw [List.length_map];exact List.length_take_le ..⟩
 ·rintro i H' ys hi ⟨_,_,sm⟩
  exact hgo i H' hi sm
 ·rintro H' ys ⟨_,_,sm⟩
  exact hst H' sm
 ·rintro i H' ys x H'' hi ⟨h1,rfl,sm⟩ y
  refine hs i bs[i] x H' H'' _ (List.getElem?_eq_getElem hi) sm y fun H4 s4=>⟨s4 _ _ h1,aA,?_,c7 hD (sm.trans s4)⟩
  rw [List.take_add_one,List.getElem?_eq_getElem hi,List.map_append]
  rfl
 ·rintro H' ys ⟨h1,rfl,sm⟩
  rw [List.take_length] at h1
  exact hd H' sm h1
theorem rm {ss:List SD}{d:PyData}{cs:List SD} (h:k8 ss d=some cs):d=.list (cs.map pD)∧(∀c∈cs,c∈ss)∧cM cs=true:=by
 cases d with
 | list ds=>
  obtain ⟨h1,h2⟩:=Option.filter_eq_some_iff.mp (show (hJ ss ds).filter cM=some cs from h)
  obtain ⟨rfl,q⟩:=tE h1
  exact ⟨rfl,q,h2⟩
 | _=>cases h
theorem qq {E:Addr→Prop}{H:Hp}:∀{cs:List SD}{xs:List V},ah E H xs (cs.map pD)→ah ED H xs (cs.map pD)
 | [],[],_=>.nil
 | [],_ :: _,h=>by cases h
 | _ :: _,[],h=>by cases h
 | c :: cs,v :: vs,h=>by
  cases h with
  | cons a b=>
  obtain ⟨t,rfl,ht⟩:=fA a
  exact .cons (.tup ht (.cons (.int _) (.cons (.bl _) .nil))) (qq b)
theorem Am {E:Addr→Prop}{H:Hp}:∀{vs:List V}{ls:List (List Nat)},ah E H vs (ls.map fun l=>.str (S l))→vs=ls.map aG
 | [],[],_=>rfl
 | [],_ :: _,h=>by cases h
 | _ :: _,[],h=>by cases h
 | v :: vs,l :: ls,h=>by
  cases h with
  | cons a b=>
  cases a
  rw [Am b];rfl
theorem C6 {α:Type} (xs:List α):xs.filter (fun _=>true)=xs:=List.filter_eq_self.mpr fun _ _=>rfl
theorem MC (l:List Nat) (es:List (List Nat)):Bu (aG l) (es.map aG)=decide (l∈es):=by rw [Jb,List.contains_eq_mem]
theorem Ki (ls:List (List Nat)):(ls.map aG).all nK=true:=by
 rw [List.all_eq_true]
 intro v hv
 obtain ⟨l,_,rfl⟩:=List.mem_map.mp hv
 rfl
def gK (f:List Nat) (cs:List SD):List Nat:=(cs.map (·.en)).getLastD f
theorem GU (f:List Nat) (cs:List SD):lL ((dW cs f).map aG) (-1)=some (aG (gK f cs)):=by
 obtain ⟨r,e⟩:∃r,dW cs f=r++[gK f cs]:=by
  unfold dW gK
  generalize cs.map (·.en)=xs
  induction xs generalizing f with
  | nil=>exact ⟨[],rfl⟩
  | cons x xs ih=>
   obtain ⟨r,e⟩:=ih x
   refine ⟨f :: r,?_⟩
   rw [List.getLastD_cons,List.cons_append,←e]
 rw [e,List.map_append]
 exact Bo _ _
def c9 (f e:List Nat):List SD→Bool
 | []=>decide (f=e)
 | c :: cs=>decide (c.st=f) && (decide (gK f (c :: cs)=e) && decide (dW (c :: cs) f).Nodup)
def cP (ss:List SD) (d:PyData) (f e:List Nat):Bool:=match k8 ss d with
 | some cs=>c9 f e cs
 | none=>false
def mH:List SD→List Nat
 | []=>[]
 | c :: _=>c.st
def dq (cs:List SD):Bool:=decide (2≤cs.length) && ((decide (gK [] cs=mH cs) && decide (cs.map (·.st)).Nodup) && decide (1<KM.vl (cO (1,1) cs)))
def pO (ss:List SD) (d:PyData):Bool:=match k8 ss d with
 | some cs=>dq cs
 | none=>false
def ug (ss:List SD) (rs:List SD) (d2:PyData) (e:List Nat):Bool:=match k8 ss d2 with
 | some cs=>c9 (mH rs) e cs && cs.all fun c=>!decide (c.en∈rs.map (·.st))
 | none=>false
def rT (ss:List SD) (d1 d2:PyData) (e:List Nat):Bool:=match k8 ss d1 with
 | some rs=>dq rs && ug ss rs d2 e
 | none=>false
theorem Au (ls:List (List Nat)):decide (V.int ((kB (ls.map kT)).length:Nat)=V.int (ls.length:Nat))=decide ls.Nodup:=by
 rw [Bool.eq_iff_iff,decide_eq_true_iff,decide_eq_true_iff]
 have h:=Ds (ls.map kT)
 rw [List.length_map] at h
 have h2:(ls.map kT).Nodup↔ls.Nodup:=⟨fun z=>(List.pairwise_map.mp z).imp fun h e=>h (congrArg kT e),fun z=>z.map kT fun a b h q=>h (qV (Sum.inr.inj q))⟩
 rw [←h2,←h]
 exact ⟨fun z=>by injection z with z;trivial,fun z=>by rw [z]⟩
section
variable {P:Program}{w:World}{K:PySem.W.Frag}{mg:Str→Option Value}{base:Heap}
inductive HC (vs:List V) (H:Hp) (Q:VK):Prop
 | mk (x:V) (d:PyData) (E:Addr→Prop) (h0:vs=[x]) (h1:aI E H x d) (h2:Q (.bl (pP d).isSome) H)
def ID:Sp:=fun vs H Q _=>HC  vs H Q
theorem C3 (T:Txt K mg):aZ P w K mg base CX0 2 T.is_pair_.f T.is_pair_.d ["thing"] ID:=by
 have G_is_number:=#[(u7)]
 refine T.is_pair_.F.ok Dk (fun vs H Q E h=>?_) (fun cdv A outer s H vs Q E hr h=>?_)
 ·obtain ⟨x,d,F,rfl,_⟩:=h
  rfl
 ·obtain ⟨x,d,F,rfl,hx,k⟩:=h
  refine ⟨_,#[ae 3 #[av 4 #[jf 7 #[(),(),(@qr _ (K) (by rfl)),mt,T.b_isinstance,(@cz),#[[#[0,jJ],#[qP 4 yn T.b_tuple (@cJ) (by decide) (by decide)]]]] #[jf 7 #[cn 8 (@ij _) #[(),(),(@kg _ (K) (by rfl)),Ad,T.b_len,(@bY),#[[#[0,jJ]]]] #[()] #[(),()]] #[jf 7 #[G_is_number,uJ,T.is_number_,#[[#[#[0,jJ][#[()]]]]]] #[mB 5 #[(),(),(@qr _ (K) (by rfl)),mt,T.b_isinstance,(@cz),#[[#[#[0,jJ][#[()]]],#[qP 4 y3 T.b_bool (@vE) (by decide) (by decide)]]]]]]]]]],?_⟩
  refine ⟨(),_,_,_,(),hx.ty,vQ d,(),?_⟩
  cases hx with
  | non=>exact aJ k
  | bl b=>exact aJ k
  | int i=>exact aJ k
  | str y=>exact aJ k
  | lst h ne r=>exact aJ k
  | @tup a xs ds h r=>
   have lx:=r.length
   refine ay ⟨(),a,xs,rfl,.inr (ar.of h),rfl,(),?_⟩
   by_cases h2:ds.length=2
   ·obtain ⟨d1,d2,rfl⟩:bI fun d1 d2=>ds=[d1,d2]:=by
     match ds,h2 with
     | [d1,d2],_=>exact ⟨d1,d2,rfl⟩
    cases r with
    | @cons x1 _ _ _ r1 r=>
    cases r with
    | @cons x2 _ _ _ r2 r=>
    cases r
    refine ay ⟨(),a,_,_,(),rfl,ar.of h,rfl,x1,d1,F,rfl,r1,?_⟩
    rw [CW] at k
    refine ⟨(),?_⟩
    cases e:yb d1 with
    | false=>rw [e] at k;exact aJ k
    | true=>
     rw [e,Bool.true_and] at k
     exact ay ⟨(),a,_,_,(),rfl,ar.of h,rfl,_,_,_,(),r2.ty,AZ d2,k⟩
   ·have:decide (V.int (xs.length:Int)=V.int 2)=false:=decide_eq_false fun z=>by injection z with z;trivial
    rw [this]
    refine aJ ?_
    have e0:(pP (.tuple ds)).isSome=false:=by
     match ds,h2 with
     | [],_=>rfl
     | [_],_=>rfl
     | [_,_],h=>exact absurd rfl h
     | _ :: _ :: _ :: _,_=>rfl
    rw [e0] at k
    exact k
inductive IU (vs:List V) (H:Hp) (Q:VK):Prop
 | mk (dd:Addr) (x:V) (d:PyData) (ss:List SD) (E:Addr→Prop) (h0:vs=[.ref dd,x]) (h1:BP H dd ss) (h2:aI E H x d) (h3:(∀ds,d=.list ds→ds.length≤5000)) (h4:∀H',aa H H'→Q (.bl (k8 ss d).isSome) H')
def Lr:Sp:=fun vs H Q _=>IU  vs H Q
theorem vP (T:Txt K mg):aZ P w K mg base CX0 3 T.are_steps_.f T.are_steps_.d ["left", "thing"] Lr:=by
 have G_is_pair:=#[(C3)]
 refine T.are_steps_.F.ok A1 (fun vs H Q E h=>?_) (fun cdv A outer s H vs Q E hr h=>?_)
 ·obtain ⟨dd,x,d,ss,E',rfl,_⟩:=h
  rfl
 ·obtain ⟨dd,x,d,ss,E',rfl,hb,hx,ld,k⟩:=h
  refine ⟨_,#[#[bA 8 #[PW.pt 3 #[ig 7 #[dk 4 #[b9 3 #[(),(),(@qr _ (K) (by rfl)),rH,T.b_isinstance,(@cz),#[[#[1,ia],#[qP 4 xH T.b_list (@mG) (by decide) (by decide)]]]] (by intro _;rfl)]] #[gA 4 #[dk 4 #[b9 3 #[(),(),(@xZ _ (K) rfl (by rfl)),qZ,T.b_all,(@my),#[[#[b5 7 (["pair", "left"]) (1) ([0]) _ _ _ _ rfl (by kernel_rfl) (@bF _ (K) _ _ _ #[1,ia] (by rfl)) (fun _ _ _ _ _ _=>#[0,(),()]) (fun _ _ _ _ _ _=>@bE _) (fun _ _ _ _ _ _=>#[jf 7 #[G_is_pair,(),T.is_pair_,#[[#[0,()]]]] #[mB 5 #[cn 8 (@Jy _ hr.units) #[0,()] #[1,0] rfl]]]) (by intro _;rfl)]]]] (by intro _;rfl)]]]]] #[ae 3 #[av 4 #[br 4]]] (@aQ _)] :: #[ae 3 #[av 4 #[(),(),(@xZ _ (K) rfl (by rfl)),qZ,T.b_all,(@my),#[[#[b5 7 (["ahead", "behind", "left"]) (2) ([0]) _ _ _ _ rfl (by kernel_rfl) (@Az _ (K) _ _ _ _ _ _ _ _ x5 T.b_zip #[[#[1,ia],#[k6 10 (@pZ _ (K) (by rfl)) #[1,ia] #[lK 3 #[()]] (@pI _)]]] (by rfl) (by rfl) (by rfl)) (fun _ _ _ _ _ _=>(@b4 _ (K) _ _ _ _ (2) rfl #[au 5 #[0,(),()] #[au 5 #[1,(),()] (@b3 _) (by rfl)] (by rfl)] (by rfl) (by rfl) (by rfl))) (fun _ _ _ _ _ _=>@bE _) (fun _ _ _ _ _ _=>#[cn 8 (@ij _) #[#[b8 7 (@qg _ hr.units) #[2,0] #[0,()] (fun _ _=>rfl)][#[()]]] #[#[b8 7 (@qg _ hr.units) #[2,0] #[1,()] (fun _ _=>rfl)][#[()]]] #[(),()]]) (by intro _;rfl)]]]]]]],?_⟩
  refine ⟨(),_,_,_,(),hx.ty,AJ d,(),?_⟩
  have k0:=k H (aa.refl _)
  cases hx with
  | non=>exact ay (ay k0)
  | bl b=>exact ay (ay k0)
  | int i=>exact ay (ay k0)
  | str y=>exact ay (ay k0)
  | tup h r=>exact ay (ay k0)
  | @lst o xs ds h ne r=>
   have lx:=r.length
   have l5:=ld ds rfl
   refine aJ ⟨(),o,rfl,⟨xs,ak.of h⟩,fun D hD=>oj (ds.map fun d=>(fH ss d).isSome) (by rw [List.length_map];trivial) hD ?_ ?_ ?_ ?_⟩
   ·intro i H' hi sm
    rw [List.length_map] at hi
    exact ⟨xs,xs[i],ak.of (sm _ _ h),List.getElem?_eq_getElem (by trivial)⟩
   ·intro H' sm
    exact ⟨xs,ak.of (sm _ _ h),by rw [List.length_map];trivial⟩
   ·rintro i b x H' H'' R eb sm ⟨rfl,ex⟩ kR
    have hx:=ex xs (ak.of (sm _ _ h))
    rw [List.getElem?_map] at eb
    obtain ⟨d,ed,rfl⟩:=Option.map_eq_some_iff.mp eb
    have iv:=(r.mono sm.toE).nth i hx ed
    refine ⟨eH,(),x,d,E',rfl,iv,(),?_⟩
    cases ep:pP d with
    | none=>
     have e0:fH ss d=none:=by unfold fH;rw [ep];rfl
     rw [e0] at kR
     exact aJ (kR _ (aa.refl _))
    | some kk=>
     have e0:(fH ss d).isSome=decide (kk∈ss.map kP):=by unfold fH;rw [ep];exact uu
     rw [e0] at kR
     obtain ⟨t,rfl,ht⟩:=Jn (zO ep▸iv)
     obtain ⟨kvs,hd,ek⟩:=(hb.sm sm).keys
     refine ay ⟨(),(),dd,t,kvs,kk,rfl,rfl,hd,ht,?_⟩
     rw [ek]
     exact kR _ (aa.refl _)
   ·intro H' sm hD'
    refine ⟨D,(),ak.of hD',(),?_⟩
    rw [show ((ds.map fun d=>(fH ss d).isSome).all id)=(hJ ss ds).isSome by rw [qb,List.all_map];rfl]
    cases et:hJ ss ds with
    | none=>
     have e0:k8 ss (.list ds)=none:=by show (hJ ss ds).filter cM=none;rw [et];rfl
     rw [e0] at k
     exact ay (k H' sm)
    | some cs=>
     obtain ⟨rfl,sub⟩:=tE et
     have e0:(k8 ss (.list (cs.map pD))).isSome=cM cs:=by
      show ((hJ ss (cs.map pD)).filter cM).isSome=_
      rw [et]
      cases q:cM cs <;> simp [Option.filter,q]
     rw [e0,ze] at k
     rw [List.length_map] at l5 lx
     have hx1:=sm _ _ h
     refine aJ ⟨(),(),(),o,xs,rfl,ak.of hx1,fun Z H2 n2=>⟨o,Z,true,true,rfl,⟨xs,ak.of (n2.sm _ _ hx1)⟩,⟨_,ak.of n2.at'⟩,fun D2 hD2=>oj (List.zipWith (fun a b:SD=>decide (a.en=b.st)) cs (cs.drop 1)) ?_ hD2 ?_ ?_ ?_ ?_⟩⟩
     ·rw [List.length_zipWith];trivial
     ·intro i H3 hi s3
      rw [List.length_zipWith,List.length_drop] at hi
      have hz:=s3 _ _ n2.at'
      rw [uh] at hz
      exact ⟨xs,xs.drop 1,xs[i],(xs.drop 1)[i]'(by rw [List.length_drop];trivial),ak.of (s3 _ _ (n2.sm _ _ hx1)),ak.of hz,List.getElem?_eq_getElem (by trivial),List.getElem?_eq_getElem (by rw [List.length_drop];trivial)⟩
     ·intro H3 s3
      have hz:=s3 _ _ n2.at'
      rw [uh] at hz
      refine ⟨xs,xs.drop 1,ak.of (s3 _ _ (n2.sm _ _ hx1)),ak.of hz,?_⟩
      rw [List.length_zipWith,List.length_drop,List.length_drop]
      trivial
     ·rintro i b x H3 H4 R eb s3 ⟨t,u1,u2,ht1,rfl,rfl,e1,e2⟩ kR
      have hz:=s3 _ _ n2.at'
      rw [uh] at hz
      have e1':=e1 xs (ak.of (s3 _ _ (n2.sm _ _ hx1)))
      have e2':=e2 (xs.drop 1) (ak.of hz)
      obtain ⟨ca,cb,fa,fb,rfl⟩:=List.getElem?_zipWith_eq_some.mp eb
      have st:=(aa.new (H:=H3) (o:=.tup [u1,u2]) ht1)
      have s04:=((sm.trans n2.sm).trans s3).trans st
      obtain ⟨t1,rfl,h1⟩:=fA ((r.mono s04.toE).nth i e1' (by rw [List.getElem?_map,fa];rfl))
      rw [List.getElem?_drop] at fb e2'
      obtain ⟨t2,rfl,h2⟩:=fA ((r.mono s04.toE).nth (1+i) e2' (by rw [List.getElem?_map,fb];rfl))
      obtain ⟨kvs,oa,ra,ga,hd1,hm1,ho1,_⟩:=(hb.sm s04).get (sub ca (List.mem_of_getElem? fa))
      obtain ⟨kvs2,ob,rb,gb,hd2,hm2,ho2,_⟩:=(hb.sm s04).get (sub cb (List.mem_of_getElem? fb))
      refine ⟨t,(),ar.of aA,rfl,_,(),_,(),rfl,yx,(),(),dd,t1,kvs,_,(),rfl,hd1,h1,hm1,oa,_,_,(),rfl,ar.of ho1,rfl,(),(),dd,t2,kvs2,_,(),rfl,hd2,h2,hm2,ob,_,_,(),rfl,ar.of ho2,rfl,?_⟩
      refine ⟨rfl,?_⟩
      rw [jn]
      exact kR _ st
     ·intro H3 s3 hD3
      refine ⟨D2,(),ak.of hD3,?_⟩
      exact k H3 ((sm.trans n2.sm).trans s3)
inductive HN (vs:List V) (H:Hp) (Q:VK):Prop
 | mk (dd:Addr) (x:V) (d:PyData) (ss:List SD) (E:Addr→Prop) (f e:List Nat) (h0:vs=[.ref dd,x,.str (S f),.str (S e)]) (h1:BP H dd ss) (h2:aI E H x d) (h3:(∀ds,d=.list ds→ds.length≤3000)) (h4:∀H',aa H H'→Q (.bl (cP ss d f e)) H')
def JM:Sp:=fun vs H Q _=>HN  vs H Q
theorem uB (T:Txt K mg):aZ P w K mg base CX0 4 T.is_course_.f T.is_course_.d ["left", "thing", "begin", "end"] JM:=by
 have G_are_steps:=#[(vP)]
 refine T.is_course_.F.ok uT (fun vs H Q E h=>?_) (fun cdv A outer s H vs Q E hr h=>?_)
 ·obtain ⟨dd,x,d,ss,E',f,e,rfl,_⟩:=h
  rfl
 ·obtain ⟨dd,x,d,ss,E',f,e,rfl,hb,hx,ld,k⟩:=h
  refine ⟨_,#[#[bA 8 #[dk 4 #[b9 3 #[G_are_steps,sr,T.are_steps_,#[[#[0,(pT)],#[1,hV]]]] (by intro _;rfl)]] #[ae 3 #[av 4 #[br 4]]] (@aQ _)] :: #[#[bA 8 #[aK 8 (@ij _) #[(),(),(@kg _ (K) (by rfl)),lU,T.b_len,(@bY),#[[#[1,hV]]]] #[()] #[(),()]] #[ae 3 #[av 4 #[cn 8 (@ij _) #[2,kA] #[3,rh] #[(),()]]]] (@aQ _)] :: #[#[4,uT.nd,gD,#[aC 8 (@sZ _) #[aV 4 #[[#[2,kA]]]] #[b5 7 (["pair", "left"]) (1) ([0]) _ _ _ _ rfl (by kernel_rfl) (@bF _ (K) _ _ _ #[1,hV] (by rfl)) (fun _ _ _ _ _ _=>#[0,(),()]) (fun _ _ _ _ _ _=>@bE _) (fun _ _ _ _ _ _=>#[#[b8 7 (@qg _ hr.units) #[1,0] #[0,()] (fun _ _=>rfl)][#[()]]]) (by intro _;rfl)]]] :: #[ae 3 #[av 4 #[jf 7 #[cn 8 (@ij _) #[#[b8 7 (@qg _ hr.units) #[0,(pT)] #[#[1,hV][#[()]]!] (fun _ _=>rfl)][#[()]]] #[2,kA] #[(),()]] #[jf 7 #[cn 8 (@ij _) #[#[4,gD][#[xJ 6 (@vU _) #[()]]]!] #[3,rh] #[(),()]] #[mB 5 #[cn 8 (@ij _) (@zS _ (K) _ _ _ _ _ _ #[4,gD] rfl lU T.b_len xO T.b_set (by rfl) (by rfl)) #[(),(),(@kg _ (K) (by rfl)),lU,T.b_len,(@bY),#[[#[4,gD]]]] #[(),()]]]]]]]]]],?_⟩
  refine ⟨(),(),dd,x,d,ss,E',rfl,hb,hx,fun ds h=>Nat.le_trans (ld ds h) (by decide),fun H1 s1=>⟨(),?_⟩⟩
  unfold cP at k
  cases ea:k8 ss d with
  | none=>
   rw [ea] at k
   exact ay (k H1 s1)
  | some cs=>
   rw [ea] at k
   obtain ⟨rfl,sub,ch⟩:=rm ea
   refine aJ ?_
   have lc:=ld _ rfl
   rw [List.length_map] at lc
   have hx1:=hx.mono (H':=H1) s1.toE
   cases hx1 with
   | @lst o xs _ h ne r=>
   have ra:=qq r
   have lx:xs.length=cs.length:=by rw [r.length,List.length_map]
   refine ⟨(),o,xs,rfl,.inl (ak.of h),rfl,(),?_⟩
   cases cs with
   | nil=>
    obtain rfl:xs=[]:=List.eq_nil_of_length_eq_zero lx
    refine ay ⟨(),(),rfl,?_⟩
    rw [jn]
    exact k H1 s1
   | cons c cr=>
    rw [show decide (V.int (xs.length:Int)=V.int 0)=false from decide_eq_false fun z=>by injection z with z;rw [lx,List.length_cons] at z;trivial]
    have nd:=fun (c:SD) (hc:c∈cr)=>sub c (List.mem_cons_of_mem _ hc)
    refine aJ ⟨(),(by show 1≤10000;decide),fun A H2 n2=>⟨(),o,rfl,⟨xs,ak.of (n2.sm _ _ h)⟩,fun Y hY=>fV (ds:=c :: cr) pD (fun _=>true) (fun s=>.str (S s.en)) (by trivial) hY (n2.sm _ _ h) (ra.mono n2.sm.toE) ?_ ?_⟩⟩
    ·intro i x st H' R1 R2 hx ed hy sm q1 q2
     obtain ⟨t,rfl,ht⟩:=fA hy
     obtain ⟨kvs,oa,ra,ga,hd1,hm1,ho1,_⟩:=(hb.sm ((s1.trans n2.sm).trans sm)).get (sub st (List.mem_of_getElem? ed))
     exact ⟨eH,ay (B:=R2 H') ⟨(),(),dd,t,kvs,_,(),rfl,hd1,ht,hm1,oa,_,_,(),rfl,ar.of ho1,rfl,q1 rfl _ _ (aa.refl _) (.str _)⟩⟩
    ·intro H3 yv s3 hY3 iy
     rw [C6,show (c :: cr).map (fun s=>PyData.str (S s.en))=((c :: cr).map (·.en)).map fun l=>PyData.str (S l) by rw [List.map_map];rfl] at iy
     have:=Am iy
     subst this
     refine ⟨A,Y,_,(),rfl,s3 _ _ n2.at',hY3,by simp;rw [List.length_cons] at lc;trivial,fun Sp H4 n4=>?_⟩
     have s4:=(n2.sm.trans s3).trans n4.sm
     have hSp:H4 Sp=some (.lst ((dW (c :: cr) f).map aG)):=n4.at'
     cases ra with
     | @cons x0 _ xr _ r0 rr=>
     obtain ⟨t0,rfl,ht0⟩:=fA r0
     obtain ⟨kvs,oa,ra,ga,hd1,hm1,ho1,_⟩:=(hb.sm (s1.trans s4)).get (sub c (List.mem_cons_self ..))
     have k4:Q (.bl (c9 f e (c :: cr))) H4:=k H4 (s1.trans s4)
     refine ⟨(),(),o,_,_,(),rfl,ak.of (s4 _ _ h),aW (j:=0) rfl,dd,t0,kvs,_,(),rfl,hd1,s4 _ _ ht0,hm1,oa,_,_,(),rfl,ar.of ho1,rfl,(),rfl,(),?_⟩
     rw [jn]
     have e0:c9 f e (c :: cr)=(decide (c.st=f) && (decide (gK f (c :: cr)=e) && decide (dW (c :: cr) f).Nodup)):=rfl
     rw [e0] at k4
     by_cases h1:c.st=f
     ·rw [decide_eq_true h1,Bool.true_and] at k4
      rw [decide_eq_true h1]
      have la:lL ((dW (c :: cr) f).map aG) (-1)=some (aG (gK f (c :: cr))):=GU ..
      refine ay ⟨(),1,rfl,Sp,_,_,(),rfl,ak.of hSp,la,(),rfl,(),?_⟩
      rw [jn]
      by_cases h2:gK f (c :: cr)=e
      ·rw [decide_eq_true h2,Bool.true_and] at k4
       rw [decide_eq_true h2]
       refine ay ⟨(),Sp,(dW (c :: cr) f).map kT,rfl,.inl (ak.of (by rw [List.map_map];exact hSp)),?_,(),Sp,(),.inl (ak.of hSp),rfl,?_⟩
       ·rw [List.length_map]
        unfold dW
        rw [List.length_cons,List.length_map]
        trivial
       ·rw [List.length_map,Au]
        exact k4
      ·rw [decide_eq_false h2]
       rw [decide_eq_false h2] at k4
       exact aJ k4
     ·rw [decide_eq_false h1]
      rw [decide_eq_false h1] at k4
      exact aJ k4
def IF (ls:List (List Nat)) (ss:List SD):Prop:=ls.length≤30∧∀s∈ss,s.st∈ls∧s.en∈ls∧Gb 6 6 s.gain∧1≤s.gain.1
inductive GV (vs:List V) (H:Hp) (Q:VK):Prop
 | mk (dd:Addr) (x:V) (d:PyData) (ls:List (List Nat)) (ss:List SD) (E:Addr→Prop) (h0:vs=[.ref dd,x]) (h1:BP H dd ss) (h2:IF ls ss) (h3:aI E H x d) (h4:(∀ds,d=.list ds→ds.length≤3000)) (h5:∀H',aa H H'→Q (.bl (pO ss d)) H')
def JJ:Sp:=fun vs H Q _=>GV  vs H Q
theorem vi (T:Txt K mg):aZ P w K mg base CX0 5 T.is_gaining_ring_.f T.is_gaining_ring_.d ["left", "thing"] JJ:=by
 have G_are_steps:=#[(vP)]
 have G_gain_along:=#[(uE)]
 have G_compared:=#[(kO)]
 refine T.is_gaining_ring_.F.ok oz (fun vs H Q E h=>?_) (fun cdv A outer s H vs Q E hr h=>?_)
 ·obtain ⟨dd,x,d,ls,ss,E',rfl,_⟩:=h
  rfl
 ·obtain ⟨dd,x,d,ls,ss,E',rfl,hb,gs,hx,ld,k⟩:=h
  refine ⟨_,#[#[bA 8 #[PW.pt 3 #[ig 7 #[dk 4 #[b9 3 #[G_are_steps,nO,T.are_steps_,#[[#[0,(gM)],#[1,cN]]]] (by intro _;rfl)]] #[gA 4 #[aK 8 (@re _) #[(),(),(@kg _ (K) (by rfl)),iU,T.b_len,(@bY),#[[#[1,cN]]]] #[()] #[(),()]]]]] #[ae 3 #[av 4 #[br 4]]] (@aQ _)] :: #[#[pi 7 (["pair", "left"]) (1) ([0]) _ _ _ _ (2) _ _ _ oz.nd rfl dH (by kernel_rfl) rfl (by kernel_rfl) (@bF _ (K) _ _ _ #[1,cN] (by rfl)) (fun _ _ _ _ _ _=>#[0,(),()]) (fun _ _ _ _ _ _=>@bE _) (fun _ _ _ _ _ _=>#[#[b8 7 (@qg _ hr.units) #[1,0] #[0,()] (fun _ _=>rfl)][#[()]]]) (by intro _;rfl)] :: #[#[bA 8 #[PW.pt 3 #[ig 7 #[aK 8 (@wp _) #[#[b8 7 (@qg _ hr.units) #[0,(gM)] #[#[1,cN][#[xJ 6 (@vU _) #[()]]]!] (fun _ _=>rfl)][#[()]]] #[#[2,dH][#[()]]!] #[(),()]] #[gA 4 #[aK 8 (@wp _) (@zS _ (K) _ _ _ _ _ _ #[2,dH] rfl iU T.b_len tj T.b_set (by rfl) (by rfl)) #[(),(),(@kg _ (K) (by rfl)),iU,T.b_len,(@bY),#[[#[2,dH]]]] #[(),()]]]]] #[ae 3 #[av 4 #[br 4]]] (@aQ _)] :: #[ae 3 #[av 4 #[cn 8 (@qW _) #[G_compared,oM,T.compared_,#[[#[G_gain_along,mY,T.gain_along_,#[[#[0,(gM)],#[1,cN]]]],#[ag 5 #[[#[()],#[()]]]]]]] #[()] #[(),()]]]]]]],?_⟩
  refine ⟨(),(),dd,x,d,ss,E',rfl,hb,hx,fun ds h=>Nat.le_trans (ld ds h) (by decide),fun H1 s1=>⟨(),?_⟩⟩
  unfold pO at k
  cases ea:k8 ss d with
  | none=>
   rw [ea] at k
   exact ay (ay (k H1 s1))
  | some cs=>
   rw [ea] at k
   obtain ⟨rfl,sub,ch⟩:=rm ea
   have k:∀H',aa H H'→Q (.bl (dq cs)) H':=k
   have lc:=ld _ rfl
   rw [List.length_map] at lc
   have hx1:=hx.mono (H':=H1) s1.toE
   cases hx1 with
   | @lst o xs _ h ne r=>
   have ra:=qq r
   have lx:xs.length=cs.length:=by rw [r.length,List.length_map]
   refine aJ ⟨(),o,xs,rfl,.inl (ak.of h),_,(),rfl,(),?_⟩
   by_cases h2:cs.length<2
   ·rw [show decide ((xs.length:Int)<2)=true from decide_eq_true (by trivial)]
    have:dq cs=false:=by unfold dq;rw [decide_eq_false (show ¬2≤cs.length by trivial),Bool.false_and]
    rw [this] at k
    exact ay (k H1 s1)
   rw [show decide ((xs.length:Int)<2)=false from decide_eq_false (by trivial)]
   have ek:dq cs=((decide (gK [] cs=mH cs) && decide (cs.map (·.st)).Nodup) && decide (1<KM.vl (cO (1,1) cs))):=by unfold dq;rw [decide_eq_true (show 2≤cs.length by trivial),Bool.true_and]
   rw [ek] at k
   refine aJ ⟨(),o,rfl,⟨xs,ak.of h⟩,fun Y hY=>fV (ds:=cs) pD (fun _=>true) (fun s=>.str (S s.st)) (by trivial) hY h ra ?_ ?_⟩
   ·intro i x st H' R1 R2 hx ed hy sm q1 q2
    obtain ⟨t,rfl,ht⟩:=fA hy
    obtain ⟨kvs,oa,ra,ga,hd1,hm1,ho1,_⟩:=(hb.sm (s1.trans sm)).get (sub st (List.mem_of_getElem? ed))
    exact ⟨eH,ay (B:=R2 H') ⟨(),(),dd,t,kvs,_,(),rfl,hd1,ht,hm1,oa,_,_,(),rfl,ar.of ho1,rfl,q1 rfl _ _ (aa.refl _) (.str _)⟩⟩
   intro H3 yv s3 hY3 iy
   rw [C6,show cs.map (fun s=>PyData.str (S s.st))=(cs.map (·.st)).map fun l=>PyData.str (S l) by rw [List.map_map];rfl] at iy
   have:=Am iy
   subst this
   have h3:=s3 _ _ h
   have ra3:=ra.mono s3.toE
   obtain ⟨cr,cl,rfl⟩:bI fun cr cl=>cs=cr++[cl]:=by
    rcases List.eq_nil_or_concat cs with rfl | ⟨cr,cl,e⟩
    ·simp at h2
    ·exact ⟨cr,cl,by rw [e,List.concat_eq_append]⟩
   obtain ⟨xr,xl,rfl⟩:bI fun xr xl=>xs=xr++[xl]:=by
    rcases List.eq_nil_or_concat xs with rfl | ⟨xr,xl,e⟩
    ·simp at lx
    ·exact ⟨xr,xl,by rw [e,List.concat_eq_append]⟩
   have lr:xr.length=cr.length:=by simpa using lx
   have il:aI ED H3 xl (pD cl):=ra3.nth cr.length (by rw [←lr];simp) (by simp)
   obtain ⟨tl,rfl,htl⟩:=fA il
   obtain ⟨kvs,oa,rl,ga,hd1,hm1,ho1,_⟩:=(hb.sm (s1.trans s3)).get (sub cl (by simp))
   have e1:gK [] (cr++[cl])=cl.en:=by unfold gK;simp
   rw [e1] at k
   obtain ⟨c0,c1,e0⟩:bI fun c0 c1=>cr++[cl]=c0 :: c1:=by
    cases cr with
    | nil=>exact ⟨_,_,rfl⟩
    | cons a b=>exact ⟨_,_,rfl⟩
   have e2:mH (cr++[cl])=c0.st:=by rw [e0];rfl
   rw [e2] at k
   refine ⟨(),(),1,rfl,o,_,_,(),rfl,ak.of h3,Bo _ _,dd,tl,kvs,_,(),rfl,hd1,htl,hm1,oa,_,_,(),rfl,ar.of ho1,rfl,(),Y,_,_,(),rfl,ak.of hY3,aW (j:=0) (v:=aG c0.st) (by rw [e0];rfl),rfl,(),?_⟩
   rw [jn]
   by_cases h4:cl.en=c0.st
   ·rw [decide_eq_true h4,Bool.true_and] at k
    rw [decide_eq_true h4]
    have l3:(((cr++[cl]).map (·.st)).map kT).length≤4000:=by rw [List.length_map,List.length_map];trivial
    refine aJ ⟨(),Y,((cr++[cl]).map (·.st)).map kT,rfl,.inl (ak.of (by rw [List.map_map];exact hY3)),l3,(),Y,(),.inl (ak.of hY3),rfl,(),?_⟩
    rw [List.length_map,Au]
    by_cases h5:((cr++[cl]).map (·.st)).Nodup
    ·rw [decide_eq_true h5,Bool.true_and] at k
     rw [decide_eq_true h5]
     have l30:(cr++[cl]).length≤30:=by
      have:=h5.length_le_of_subset (l₂:=ls) fun l hl=>by
       obtain ⟨s,hs,rfl⟩:=List.mem_map.mp hl
       exact (gs.2 s (sub s hs)).1
      rw [List.length_map] at this
      exact Nat.le_trans this gs.1
     have gc:Cg ss (cr++[cl]):=fun c hc=>⟨sub c hc,(gs.2 c (sub c hc)).2.2⟩
     refine aJ ⟨(),(),dd,o,ss,cr++[cl],(),hb.sm (s1.trans s3),h3,ra3,gc,by trivial,fun go H4 s4 hgo=>⟨(by show 2≤10000;decide),fun o1 H5 n5=>?_⟩⟩
     have gm:=sV (cr++[cl]) (1,1) 1 1 r6 (by decide) fun c hc=>(gc c hc).2
     obtain ⟨z1,z2⟩:=gz gm.1 (by trivial) (by trivial)
     refine ⟨go,o1,_,_,_,(),n5.sm _ _ hgo,n5.at',z1,z2,AQ,AQ,_,(),rfl,?_⟩
     show Q (.bl (decide (0<oJ _ _))) H5
     rw [AB]
     have e6:decide (1*(cO (1,1) (cr++[cl])).2<(cO (1,1) (cr++[cl])).1*1)=decide (1<KM.vl (cO (1,1) (cr++[cl]))):=by
      have h6:=gE (p:=(1,1)) (q:=cO (1,1) (cr++[cl])) (by decide) gm.1.pos
      rw [show KM.vl (1,1)=1 by nofun] at h6
      rw [Bool.eq_iff_iff,decide_eq_true_iff,decide_eq_true_iff,h6]
     rw [e6]
     exact k H5 (((s1.trans s3).trans s4).trans n5.sm)
    ·rw [decide_eq_false h5]
     rw [decide_eq_false h5] at k
     exact ay (k H3 (s1.trans s3))
   ·rw [decide_eq_false h4]
    rw [decide_eq_false h4] at k
    exact ay (ay (k H3 (s1.trans s3)))
inductive G5 (vs:List V) (H:Hp) (Q:VK):Prop
 | mk (dd:Addr) (x y:V) (d1 d2:PyData) (ls:List (List Nat)) (ss:List SD) (E:Addr→Prop) (e:List Nat) (h0:vs=[.ref dd,x,y,.str (S e)]) (h1:BP H dd ss) (h2:IF ls ss) (h3:aI E H x d1) (h4:(∀ds,d1=.list ds→ds.length≤3000)) (h5:aI E H y d2) (h6:(∀ds,d2=.list ds→ds.length≤3000)) (h7:∀H',aa H H'→Q (.bl (rT ss d1 d2 e)) H')
def HY:Sp:=fun vs H Q _=>G5  vs H Q
theorem sQ (T:Txt K mg):aZ P w K mg base CX0 6 T.is_ring_and_course_.f T.is_ring_and_course_.d ["left", "ring", "course", "end"] HY:=by
 have G_is_gaining_ring:=#[(vi)]
 have G_is_course:=#[(uB)]
 refine T.is_ring_and_course_.F.ok lA (fun vs H Q E h=>?_) (fun cdv A outer s H vs Q E hr h=>?_)
 ·obtain ⟨dd,x,y,d1,d2,ls,ss,E',e,rfl,_⟩:=h
  rfl
 ·obtain ⟨dd,x,y,d1,d2,ls,ss,E',e,rfl,hb,gs,hx,ld1,hy,ld2,k⟩:=h
  refine ⟨_,#[#[bA 8 #[dk 4 #[b9 3 #[G_is_gaining_ring,jQ,T.is_gaining_ring_,#[[#[0,(jF)],#[1,jB]]]] (by intro _;rfl)]] #[ae 3 #[av 4 #[br 4]]] (@aQ _)] :: #[#[jh 2 (4) _ _ _ _ lA.nd rfl (Or.inr iX) #[b5 7 (["pair", "left"]) (1) ([0]) _ _ _ _ rfl (by kernel_rfl) (@bF _ (K) _ _ _ #[1,jB] (by rfl)) (fun _ _ _ _ _ _=>#[0,(),()]) (fun _ _ _ _ _ _=>@bE _) (fun _ _ _ _ _ _=>#[#[b8 7 (@qg _ hr.units) #[1,0] #[0,()] (fun _ _=>rfl)][#[()]]]) (by intro _;rfl)] (by rfl) (by first | exact .inl rfl | exact .inr rfl | assumption)] :: #[#[bA 8 #[dk 4 #[b9 3 #[G_is_course,mf,T.is_course_,#[[#[0,(jF)],#[2,iW],#[#[4,(iX)][#[()]]!],#[3,qw]]]] (by intro _;rfl)]] #[ae 3 #[av 4 #[br 4]]] (@aQ _)] :: #[ae 3 #[av 4 #[(),(),(@xZ _ (K) rfl (by rfl)),qh,T.b_all,(@my),#[[#[b5 7 (["pair", "left", "places"]) (1) ([0,4]) _ _ _ _ rfl (by kernel_rfl) (@bF _ (K) _ _ _ #[2,iW] (by rfl)) (fun _ _ _ _ _ _=>#[0,(),()]) (fun _ _ _ _ _ _=>@bE _) (fun _ _ _ _ _ _=>#[cn 8 (@yO _ (K) (by rfl)) #[#[b8 7 (@qg _ hr.units) #[1,0] #[0,()] (fun _ _=>rfl)][#[()]]] #[2,0] rfl]) (by intro _;rfl)]]]]]]]]],?_⟩
  refine ⟨(),(),dd,x,d1,ls,ss,E',rfl,hb,gs,hx,ld1,fun H1 s1=>⟨(),?_⟩⟩
  unfold rT at k
  cases ea:k8 ss d1 with
  | none=>
   rw [ea] at k
   rw [show pO ss d1=false by unfold pO;rw [ea]]
   exact ay (k H1 s1)
  | some cs=>
   rw [ea] at k
   rw [show pO ss d1=dq cs by unfold pO;rw [ea]]
   have k2:∀H',aa H H'→Q (.bl (dq cs && ug ss cs d2 e)) H':=k
   obtain ⟨rfl,sub,ch⟩:=rm ea
   have lc:=ld1 _ rfl
   rw [List.length_map] at lc
   cases hr0:dq cs with
   | false=>
    rw [hr0] at k2
    exact ay (k2 H1 s1)
   | true=>
    rw [hr0,Bool.true_and] at k2
    unfold ug at k2
    have hx1:=hx.mono (H':=H1) s1.toE
    cases hx1 with
    | @lst o xs _ h ne r=>
    have ra:=qq r
    have lx:xs.length=cs.length:=by rw [r.length,List.length_map]
    refine aJ ⟨(),o,rfl,⟨xs,ak.of h⟩,fun Y hY=>fV (ds:=cs) pD (fun _=>true) (fun s=>.str (S s.st)) (by trivial) hY h ra ?_ ?_⟩
    ·intro i x st H' R1 R2 hx ed hy sm q1 q2
     obtain ⟨t,rfl,ht⟩:=fA hy
     obtain ⟨kvs,oa,ra,ga,hd1,hm1,ho1,_⟩:=(hb.sm (s1.trans sm)).get (sub st (List.mem_of_getElem? ed))
     exact ⟨eH,ay (B:=R2 H') ⟨(),(),dd,t,kvs,_,(),rfl,hd1,ht,hm1,oa,_,_,(),rfl,ar.of ho1,rfl,q1 rfl _ _ (aa.refl _) (.str _)⟩⟩
    intro H3 yv s3 hY3 iy
    rw [C6,show cs.map (fun s=>PyData.str (S s.st))=(cs.map (·.st)).map fun l=>PyData.str (S l) by rw [List.map_map];rfl] at iy
    have:=Am iy
    subst this
    obtain ⟨c0,c1,rfl⟩:bI fun c0 c1=>cs=c0 :: c1:=by
     cases cs with
     | nil=>cases hr0
     | cons a b=>exact ⟨_,_,rfl⟩
    refine ⟨(),(),(),Y,_,_,(),rfl,ak.of hY3,aW (j:=0) (v:=aG c0.st) rfl,(),dd,y,d2,ss,E',c0.st,e,rfl,hb.sm (s1.trans s3),hy.mono (s1.trans s3).toE,ld2,fun H4 s4=>⟨(),?_⟩⟩
    have s04:=(s1.trans s3).trans s4
    cases eb:k8 ss d2 with
    | none=>
     rw [eb] at k2
     rw [show cP ss d2 c0.st e=false by unfold cP;rw [eb]]
     exact ay (k2 H4 s04)
    | some ds=>
     rw [eb] at k2
     rw [show cP ss d2 c0.st e=c9 c0.st e ds by unfold cP;rw [eb]]
     have k3:∀H',aa H H'→Q (.bl (c9 c0.st e ds && ds.all fun c=>!decide (c.en∈(c0 :: c1).map (·.st)))) H':=k2
     cases hc0:c9 c0.st e ds with
     | false=>
      rw [hc0] at k3
      exact ay (k3 H4 s04)
     | true=>
      rw [hc0,Bool.true_and] at k3
      obtain ⟨rfl,sub2,_⟩:=rm eb
      have lc2:=ld2 _ rfl
      rw [List.length_map] at lc2
      have hy1:=hy.mono (H':=H4) s04.toE
      cases hy1 with
      | @lst o2 ys _ h2 ne2 r2=>
      have ly:ys.length=ds.length:=by rw [r2.length,List.length_map]
      refine aJ ⟨(),o2,rfl,⟨ys,ak.of h2⟩,fun Z hZ=>oj (ds.map fun c=>!decide (c.en∈(c0 :: c1).map (·.st))) (by rw [List.length_map];trivial) hZ ?_ ?_ ?_ ?_⟩
      ·intro i H' hi sm
       rw [List.length_map] at hi
       exact ⟨ys,ys[i],ak.of (sm _ _ h2),List.getElem?_eq_getElem (by trivial)⟩
      ·intro H' sm
       exact ⟨ys,ak.of (sm _ _ h2),by rw [List.length_map];trivial⟩
      ·rintro i b x H' H'' R eb sm ⟨rfl,ex⟩ kR
       have hx:=ex ys (ak.of (sm _ _ h2))
       rw [List.getElem?_map] at eb
       obtain ⟨c,ec,rfl⟩:=Option.map_eq_some_iff.mp eb
       obtain ⟨t,rfl,ht⟩:=fA ((r2.mono sm.toE).nth i hx (by rw [List.getElem?_map,ec];rfl))
       obtain ⟨kvs,oa,ra,ga,hd1,hm1,ho1,_⟩:=(hb.sm (s04.trans sm)).get (sub2 c (List.mem_of_getElem? ec))
       refine ⟨eH,(),(),dd,t,kvs,_,(),rfl,hd1,ht,hm1,oa,_,_,(),rfl,ar.of ho1,rfl,(),Y,(),.inl (ak.of (sm _ _ (s4 _ _ hY3))),rfl,Ki _,?_⟩
       rw [MC,if_pos rfl]
       exact kR _ (aa.refl _)
      ·intro H5 s5 hZ5
       refine ⟨Z,(),ak.of hZ5,?_⟩
       rw [List.all_map]
       exact k3 H5 (s04.trans s5)
end
end K21
namespace K21
open PySem L2
def tx (d:PyData):Bool:=match d with
 | .tuple [.int n,.int e]=>jq (.tuple [.int n,.int e]) && decide (0≤n)
 | _=>false
def jP (d:PyData) (p:KM.Fra):Bool:=match d with
 | .tuple [.int n,.int e]=>(jq (.tuple [.int n,.int e]) && decide (0≤n)) && decide (n*p.2≤p.1*e)
 | _=>false
theorem Be {d:PyData} (h:jq d=true):bI fun n e=>d=.tuple [.int n,.int e]∧1≤e∧Int.gcd n e=1:=by
 unfold jq at h
 split at h
 ·rename_i n e
  have h':(decide (1≤e) && decide (Int.gcd n e=1))=true:=h
  rw [Bool.and_eq_true,decide_eq_true_iff,decide_eq_true_iff] at h'
  exact ⟨n,e,rfl,h'.1,h'.2⟩
 ·cases h
theorem zT {d:PyData} (h:jq d=false):tx d=false∧∀p,jP d p=false:=by
 constructor
 ·unfold tx
  split
  ·rw [h];rfl
  ·rfl
 ·intro p
  unfold jP
  split
  ·rw [h];rfl
  ·rfl
theorem By {d:PyData} (h:tx d=false):∀p,jP d p=false:=by
 intro p
 unfold tx at h
 unfold jP
 split
 ·rename_i n e
  simp only at h
  rw [h];rfl
 ·rfl
theorem zp {E:Addr→Prop}{H:Hp}{x:V}{n e:Int} (h:aI E H x (.tuple [.int n,.int e])):∃o,x=.ref o∧H o=some (.tup [.int n,.int e]):=cm (p:=(n,e)) h
section
variable {P:Program}{w:World}{K:PySem.W.Frag}{mg:Str→Option Value}{base:Heap}
inductive JI (vs:List V) (H:Hp) (Q:VK):Prop
 | mk (x:V) (d:PyData) (E:Addr→Prop) (h0:vs=[x]) (h1:aI E H x d) (h2:Q (.bl (tx d)) H)
def Kn:Sp:=fun vs H Q _=>JI  vs H Q
theorem wB (T:Txt K mg):aZ P w K mg base CX0 3 T.is_from_nought_.f T.is_from_nought_.d ["thing"] Kn:=by
 have G_is_fraction:=#[(yX)]
 refine T.is_from_nought_.F.ok wt (fun vs H Q E h=>?_) (fun cdv A outer s H vs Q E hr h=>?_)
 ·obtain ⟨x,d,E',rfl,_⟩:=h
  rfl
 ·obtain ⟨x,d,E',rfl,hx,k⟩:=h
  refine ⟨_,#[ae 3 #[av 4 #[jf 7 #[G_is_fraction,nq,T.is_fraction_,#[[#[0,kQ]]]] #[mB 5 #[cn 8 (@Dc _) #[#[0,kQ][#[()]]] #[()] #[(),()]]]]]],?_⟩
  refine ⟨(),x,d,E',rfl,hx,(),?_⟩
  cases hb:jq d with
  | false=>
   rw [(zT hb).1] at k
   exact aJ k
  | true=>
   obtain ⟨n,e,rfl,h1,h2⟩:=Be hb
   obtain ⟨o,rfl,ho⟩:=zp hx
   refine ay ⟨(),o,_,_,(),rfl,ar.of ho,rfl,_,(),rfl,?_⟩
   have e0:tx (.tuple [.int n,.int e])=decide (0≤n):=by
    show (jq (.tuple [.int n,.int e]) && decide (0≤n))=_
    rw [hb];rfl
   rw [e0] at k
   exact k
inductive Ec (vs:List V) (H:Hp) (Q:VK):Prop
 | mk (x m:V) (d:PyData) (E F:Addr→Prop) (p:KM.Fra) (wn wk:Nat) (h0:vs=[x,m]) (h1:aI E H x d) (h2:Wt d wn wk) (h3:aI F H m (aN p)) (h4:Fb 40 p.1 p.2) (h5:Q (.bl (jP d p)) H)
def FK:Sp:=fun vs H Q _=>Ec  vs H Q
theorem HQ {n e:Int}{wn wk:Nat} (h:Wt (.tuple [.int n,.int e]) wn wk):Sz 1900 n∧Sz 1900 e:=by
 cases h with
 | tuple r=>
  cases r with
  | cons h1 r=>
   cases r with
   | cons h2 r=>
    cases h1 with
    | int a=>
     cases h2 with
     | int b=>exact ⟨a,b⟩
theorem yI (T:Txt K mg):aZ P w K mg base CX0 4 T.goes_within_.f T.goes_within_.d ["thing", "most"] FK:=by
 have G_is_from_nought:=#[(wB)]
 have G_compared:=#[(kO)]
 refine T.goes_within_.F.ok yH (fun vs H Q E h=>?_) (fun cdv A outer s H vs Q E hr h=>?_)
 ·obtain ⟨x,m,d,E',F,p,wn,wk,rfl,_⟩:=h
  rfl
 ·obtain ⟨x,m,d,E',F,p,wn,wk,rfl,hx,wd,hm,fm,k⟩:=h
  refine ⟨_,#[ae 3 #[av 4 #[jf 7 #[G_is_from_nought,nu,T.is_from_nought_,#[[#[0,mO]]]] #[mB 5 #[cn 8 (@GA _) #[G_compared,rG,T.compared_,#[[#[0,mO],#[1,vD]]]] #[()] #[(),()]]]]]],?_⟩
  refine ⟨(),x,d,E',rfl,hx,(),?_⟩
  cases hb:tx d with
  | false=>
   rw [By hb] at k
   exact aJ k
  | true=>
   have hb':jq d=true:=by
    cases hc:jq d with
    | true=>rfl
    | false=>rw [(zT hc).1] at hb;cases hb
   obtain ⟨n,e,rfl,h1,h2⟩:=Be hb'
   obtain ⟨o,rfl,ho⟩:=zp hx
   obtain ⟨om,rfl,hom⟩:=cm hm
   obtain ⟨z1,z2⟩:=HQ wd
   refine ay ⟨(),(),o,om,_,_,_,(),ho,hom,z1.mono (by decide),z2.mono (by decide),fm.sn.mono (by decide),fm.sd.mono (by decide),_,(),rfl,?_⟩
   have ec:decide (oJ (n*p.2) (p.1*e)≤0)=decide (n*p.2≤p.1*e):=by
    unfold oJ
    by_cases q1:n*p.2<p.1*e
    ·rw [if_pos q1,decide_eq_true (by trivial:n*p.2≤p.1*e)];rfl
    ·rw [if_neg q1]
     by_cases q2:p.1*e<n*p.2
     ·rw [if_pos q2,decide_eq_false (by trivial:¬n*p.2≤p.1*e)];rfl
     ·rw [if_neg q2,decide_eq_true (by trivial:n*p.2≤p.1*e)];rfl
   have e0:jP (.tuple [.int n,.int e]) p=decide (n*p.2≤p.1*e):=by
    have hb2:(jq (.tuple [.int n,.int e]) && decide (0≤n))=true:=hb
    show ((jq (.tuple [.int n,.int e]) && decide (0≤n)) && decide (n*p.2≤p.1*e))=_
    rw [hb2];rfl
   rw [e0,←ec] at k
   exact k
end
end K21
namespace K21
open PySem L2
abbrev CF (r:List Nat):List V:=r.map fun i:Nat=>V.int ((i:Nat):Int)
def kI (f:ap→List Nat) (ts:List ap) (l:List Nat) (n:Nat):List Nat:=(List.range n).filter fun i=>decide (ts[i]?.map f=some l)
theorem ue (f:ap→List Nat) (ts:List ap) (l:List Nat) (n:Nat) {t:ap} (h:ts[n]?=some t):kI f ts l (n+1)=if f t=l then kI f ts l n++[n] else kI f ts l n:=by
 unfold kI
 rw [List.range_succ,List.filter_append]
 by_cases q:f t=l
 ·rw [if_pos q]
  congr 1
  simp [h,q]
 ·rw [if_neg q]
  simp [h,q]
theorem vX (f:ap→List Nat) (ts:List ap) (l:List Nat) (n:Nat):(kI f ts l n).length≤n:=by
 unfold kI
 exact Nat.le_trans (List.length_filter_le _ _) (by simp)
theorem yG {f:ap→List Nat}{ts:List ap}{l:List Nat}{n i:Nat} (h:i∈kI f ts l n):i<n∧ts[i]?.map f=some l:=by
 unfold kI at h
 obtain ⟨h1,h2⟩:=List.mem_filter.mp h
 exact ⟨List.mem_range.mp h1,of_decide_eq_true h2⟩
section
variable {P:Program}{w:World}{K:PySem.W.Frag}{mg:Str→Option Value}{base:Heap}
inductive GO (f:ap→List Nat) (vs:List V) (H:Hp) (Q:VK):Prop
 | mk (v:V) (ls:List (List Nat)) (ts:List ap) (l:List Nat) (h0:vs=[v,.str (S l)]) (h1:aI ED H v (iV ls ts)) (h2:ts.length≤40) (h3:∀D H',aa H H'→H D=none→H' D=some (.lst (CF (kI f ts l ts.length)))→Q (.ref D) H')
def EJ (f:ap→List Nat):Sp:=fun vs H Q _=>GO f vs H Q
theorem Av (T:Txt K mg):aZ P w K mg base CX0 1 T.ties_from_.f T.ties_from_.d ["net", "place"] (EJ (·.bg)):=by
 refine T.ties_from_.F.ok Bj (fun vs H Q E h=>?_) (fun cdv A outer s H vs Q E hr h=>?_)
 ·obtain ⟨v,ls,ts,l,rfl,_⟩:=h
  rfl
 ·obtain ⟨v,ls,ts,l,rfl,hv,h40,k⟩:=h
  obtain ⟨a,p,q,ys,rfl,ha,hp,hq,iq⟩:=gL hv
  have ly:=iq.length
  rw [List.length_map] at ly
  refine ⟨_,#[ae 3 #[av 4 #[b5 7 (["number", "tie", "place"]) (2) ([1]) _ _ _ _ rfl (by kernel_rfl) (@um _ (K) _ _ _ _ _ _ _ tq T.b_enumerate #[[#[#[0,yw][#[()]]]]] (by rfl) (by rfl)) (fun _ _ _ _ _ _=>(@b4 _ (K) _ _ _ _ (2) rfl #[au 5 #[0,(),()] #[au 5 #[1,(),()] (@b3 _) (by rfl)] (by rfl)] (by rfl) (by rfl) (by rfl))) (fun _ _ _ _ _ _=>#[tL 3 #[aK 8 (@ij _) #[#[1,()][#[()]]] #[2,0] #[(),()]]]) (fun _ _ _ _ _ _=>#[0,()]) (by intro _;rfl)]]],?_⟩
  refine ⟨(),a,_,_,(),rfl,ar.of ha,rfl,q,false,rfl,⟨ys,ar.of hq⟩,fun D hD=>nX (n:=ys.length) (fun i H' zs=>zs=CF (kI (·.bg) ts l i)∧H' D=some (.lst zs)∧aa H H') ?_ ⟨rfl,aA,c7 hD (aa.refl _)⟩ ?_ ?_ ?_ ?_ ?_⟩
  ·rw [sizeLine_eq];trivial
  ·rintro i H' zs ⟨rfl,q1,_⟩
   exact ⟨q1,by rw [List.length_map];exact vX _ _ _ _⟩
  ·rintro i H' zs hi ⟨_,_,sm⟩
   exact ⟨ys,ys[i],ar.of (sm _ _ hq),by simp [hi]⟩
  ·rintro H' zs ⟨_,_,sm⟩
   exact ⟨ys,ar.of (sm _ _ hq),rfl⟩
  ·rintro i H' zs x H'' hi ⟨rfl,q1,sm⟩ ⟨t,u,ht1,rfl,rfl,e1⟩
   have e1':=e1 ys (ar.of (sm _ _ hq))
   obtain ⟨dv,f2,g2⟩:=iq.get e1'
   rw [List.getElem?_map] at f2
   obtain ⟨tt,f3,rfl⟩:=Option.map_eq_some_iff.mp f2
   have st:=sm.trans (aa.new (o:=.tup [.int (i:Int),u]) ht1)
   obtain ⟨a2,om,og,op,rfl,ha2,_⟩:=gQ (g2.mono st.toE)
   have qD:(aP H' t (.tup [.int (i:Int),V.ref a2])) D=some (.lst _):=aa.new (o:=.tup [.int (i:Int),V.ref a2]) ht1 _ _ q1
   refine ⟨t,(),ar.of aA,rfl,_,(),_,(),rfl,yx,?_⟩
   refine ⟨(),a2,_,_,(),rfl,ar.of ha2,rfl,(),rfl,(),?_⟩
   rw [jn]
   have es:=ue (·.bg) ts l i f3
   by_cases hb:tt.bg=l
   ·rw [decide_eq_true hb]
    rw [if_pos hb] at es
    refine ay ⟨(),qD,?_,aA,c7 hD st⟩
    rw [es];exact (List.map_append (l₁:=kI _ ts l i) (l₂:=[i])).symm
   ·rw [decide_eq_false hb]
    rw [if_neg hb] at es
    refine aJ ⟨?_,qD,st⟩
    rw [es]
  ·rintro H' zs ⟨rfl,q1,sm⟩
   rw [ly] at q1
   exact k D H' sm hD q1
theorem Dn (T:Txt K mg):aZ P w K mg base CX0 1 T.ties_to_.f T.ties_to_.d ["net", "place"] (EJ (·.en)):=by
 refine T.ties_to_.F.ok DM (fun vs H Q E h=>?_) (fun cdv A outer s H vs Q E hr h=>?_)
 ·obtain ⟨v,ls,ts,l,rfl,_⟩:=h
  rfl
 ·obtain ⟨v,ls,ts,l,rfl,hv,h40,k⟩:=h
  obtain ⟨a,p,q,ys,rfl,ha,hp,hq,iq⟩:=gL hv
  have ly:=iq.length
  rw [List.length_map] at ly
  refine ⟨_,#[ae 3 #[av 4 #[b5 7 (["number", "tie", "place"]) (2) ([1]) _ _ _ _ rfl (by kernel_rfl) (@um _ (K) _ _ _ _ _ _ _ uM T.b_enumerate #[[#[#[0,Ak][#[()]]]]] (by rfl) (by rfl)) (fun _ _ _ _ _ _=>(@b4 _ (K) _ _ _ _ (2) rfl #[au 5 #[0,(),()] #[au 5 #[1,(),()] (@b3 _) (by rfl)] (by rfl)] (by rfl) (by rfl) (by rfl))) (fun _ _ _ _ _ _=>#[tL 3 #[aK 8 (@ij _) #[#[1,()][#[()]]] #[2,0] #[(),()]]]) (fun _ _ _ _ _ _=>#[0,()]) (by intro _;rfl)]]],?_⟩
  refine ⟨(),a,_,_,(),rfl,ar.of ha,rfl,q,false,rfl,⟨ys,ar.of hq⟩,fun D hD=>nX (n:=ys.length) (fun i H' zs=>zs=CF (kI (·.en) ts l i)∧H' D=some (.lst zs)∧aa H H') ?_ ⟨rfl,aA,c7 hD (aa.refl _)⟩ ?_ ?_ ?_ ?_ ?_⟩
  ·rw [sizeLine_eq];trivial
  ·rintro i H' zs ⟨rfl,q1,_⟩
   exact ⟨q1,by rw [List.length_map];exact vX _ _ _ _⟩
  ·rintro i H' zs hi ⟨_,_,sm⟩
   exact ⟨ys,ys[i],ar.of (sm _ _ hq),by simp [hi]⟩
  ·rintro H' zs ⟨_,_,sm⟩
   exact ⟨ys,ar.of (sm _ _ hq),rfl⟩
  ·rintro i H' zs x H'' hi ⟨rfl,q1,sm⟩ ⟨t,u,ht1,rfl,rfl,e1⟩
   have e1':=e1 ys (ar.of (sm _ _ hq))
   obtain ⟨dv,f2,g2⟩:=iq.get e1'
   rw [List.getElem?_map] at f2
   obtain ⟨tt,f3,rfl⟩:=Option.map_eq_some_iff.mp f2
   have st:=sm.trans (aa.new (o:=.tup [.int (i:Int),u]) ht1)
   obtain ⟨a2,om,og,op,rfl,ha2,_⟩:=gQ (g2.mono st.toE)
   have qD:(aP H' t (.tup [.int (i:Int),V.ref a2])) D=some (.lst _):=aa.new (o:=.tup [.int (i:Int),V.ref a2]) ht1 _ _ q1
   refine ⟨t,(),ar.of aA,rfl,_,(),_,(),rfl,yx,?_⟩
   refine ⟨(),a2,_,_,(),rfl,ar.of ha2,rfl,(),rfl,(),?_⟩
   rw [jn]
   have es:=ue (·.en) ts l i f3
   by_cases hb:tt.en=l
   ·rw [decide_eq_true hb]
    rw [if_pos hb] at es
    refine ay ⟨(),qD,?_,aA,c7 hD st⟩
    rw [es];exact (List.map_append (l₁:=kI _ ts l i) (l₂:=[i])).symm
   ·rw [decide_eq_false hb]
    rw [if_neg hb] at es
    refine aJ ⟨?_,qD,st⟩
    rw [es]
  ·rintro H' zs ⟨rfl,q1,sm⟩
   rw [ly] at q1
   exact k D H' sm hD q1
end
end K21
namespace K21
open PySem L2
set_option maxHeartbeats 8000000
def o5 (ps:List KM.Fra) (i:Nat):KM.Fra:=(ps[i]?).getD (0,1)
def wO (ts:List ap) (i:Nat):KM.Fra:=((ts[i]?).map ap.gain).getD (1,1)
def jK (ts:List ap) (ps:List KM.Fra) (l:List Nat):List KM.Fra:=(kI (·.en) ts l ts.length).map fun i=>KM.lTim (o5 ps i) (wO ts i)
def mz (ts:List ap) (ps:List KM.Fra) (l:List Nat):List KM.Fra:=(kI (·.bg) ts l ts.length).map (o5 ps)
def qU (ts:List ap) (ps:List KM.Fra) (l:List Nat):KM.Fra:=aX (KM.sumF (jK ts ps l)) (KM.sumF (mz ts ps l))
def kW (ts:List ap) (l:List Nat) (i:Nat):Rat:=match ts[i]? with
 | some t=>(if t.en=l then KM.vl t.gain else 0) - (if t.bg=l then 1 else 0)
 | none=>0
def rM (ts:List ap) (σ:Nat→Rat) (l:List Nat):Nat→Rat
 | 0=>0
 | n+1=>rM ts σ l n+σ n*kW ts l n
def sW (ps:List KM.Fra) (i:Nat):Rat:=KM.vl (o5 ps i)
theorem yg {ts:List ap}{i:Nat}{t:ap} (h:ts[i]?=some t):wO ts i=t.gain:=by unfold wO;rw [h];rfl
theorem Bs {ps:List KM.Fra}{i:Nat}{p:KM.Fra} (h:ps[i]?=some p):o5 ps i=p:=by unfold o5;rw [h];rfl
theorem CI {ts:List ap}{ps:List KM.Fra}{l:List Nat}:∀n,n≤ts.length→KM.rsum ((kI (·.en) ts l n).map fun i=>sW ps i*KM.vl (wO ts i)) - KM.rsum ((kI (·.bg) ts l n).map fun i=>sW ps i)=rM ts (sW ps) l n
 | 0,_=>by
  show KM.rsum (List.map _ (List.filter _ [])) - KM.rsum (List.map _ (List.filter _ []))=0
  show (0:Rat) - 0=0
  grind
 | n+1,h=>by
  obtain ⟨t,et⟩:∃t,ts[n]?=some t:=⟨_,List.getElem?_eq_getElem (show n<ts.length by trivial)⟩
  have ih:=CI (ts:=ts) (ps:=ps) (l:=l) n (by trivial)
  rw [ue _ _ _ _ et,ue _ _ _ _ et]
  show _=rM ts (sW ps) l n+sW ps n*kW ts l n
  have ec:kW ts l n=(if t.en=l then KM.vl t.gain else 0) - (if t.bg=l then 1 else 0):=by unfold kW;rw [et]
  rw [ec,←ih]
  have one:∀x:Rat,KM.rsum [x]=x:=fun x=>by show x+0=x;grind
  by_cases h1:t.en=l <;> by_cases h2:t.bg=l
  ·rw [if_pos h1,if_pos h2,if_pos h1,if_pos h2,List.map_append,List.map_append,KM.rsum_app,KM.rsum_app,List.map_singleton,List.map_singleton,one,one,yg et];grind
  ·rw [if_pos h1,if_neg h2,if_pos h1,if_neg h2,List.map_append,KM.rsum_app,List.map_singleton,one,yg et];grind
  ·rw [if_neg h1,if_pos h2,if_neg h1,if_pos h2,List.map_append,KM.rsum_app,List.map_singleton,one];grind
  ·rw [if_neg h1,if_neg h2,if_neg h1,if_neg h2];grind
theorem AF {ps:List KM.Fra} (h:∀p∈ps,KM.Rd p) (i:Nat):KM.Rd (o5 ps i):=by
 unfold o5
 cases e:ps[i]? with
 | none=>exact KM.Rd.zero
 | some p=>exact h p (List.mem_of_getElem? e)
theorem Ep {ls:List (List Nat)}{ts:List ap} (h:∀t∈ts,kG ls t) (i:Nat):(wO ts i).2≠0:=by
 unfold wO
 cases e:ts[i]? with
 | none=>exact (by decide:(1:Int)≠0)
 | some t=>have:=(h t (List.mem_of_getElem? e)).fg.pos;show t.gain.2≠0;trivial
theorem Hu {ls:List (List Nat)}{ts:List ap}{ps:List KM.Fra} (ht:∀t∈ts,kG ls t) (hp:∀p∈ps,KM.Rd p) (l:List Nat):KM.Rd (qU ts ps l)∧KM.vl (qU ts ps l)=rM ts (sW ps) l ts.length:=by
 have rc:∀p∈jK ts ps l,KM.Rd p:=fun p hm=>by
  obtain ⟨i,_,rfl⟩:=List.mem_map.mp hm
  exact KM.Rd.low (KM.mul_nz (AF hp i).nz (Ep ht i))
 have rg:∀p∈mz ts ps l,KM.Rd p:=fun p hm=>by
  obtain ⟨i,_,rfl⟩:=List.mem_map.mp hm
  exact AF hp i
 obtain ⟨a1,a2⟩:=KM.sumF_vl rc
 obtain ⟨b1,b2⟩:=KM.sumF_vl rg
 refine ⟨a1.tak b1,?_⟩
 have e:=CI (ts:=ts) (ps:=ps) (l:=l) ts.length (Nat.le_refl _)
 rw [←e]
 show KM.vl (KM.lTak _ _)=_
 rw [KM.vl_tak a1.nz b1.nz,a2,b2]
 unfold jK mz
 rw [List.map_map,List.map_map]
 congr 2
 apply List.map_congr_left
 intro i _
 exact KM.vl_tim (AF hp i).nz (Ep ht i)
structure GF (D:Int) (M m e:Nat) (ps:List KM.Fra):Prop where
 d0:0<D
 dm:Sz m D
 me:M*50<2 ^ e
 bb:m+e≤3600
 al:∀p∈ps,Cb D M p
 nn:∀p∈ps,0≤KM.vl p
theorem xI {D:Int}{M m e:Nat}{p:KM.Fra} (h:Cb D M p) (hD:0<D) (hm:Sz m D) (hM:M<2 ^ e) (hb:m+e≤4000):Sz 4000 p.1∧Sz 4000 p.2:=gz (h.gb hD hm hM) hb (by trivial)
section
variable {P:Program}{w:World}{K:PySem.W.Frag}{mg:Str→Option Value}{base:Heap}
inductive Hw (vs:List V) (H:Hp) (Q:VK):Prop
 | mk (a:Addr) (xs:List V) (ps:List KM.Fra) (D:Int) (M m e:Nat) (h0:vs=[.ref a]) (h1:H a=some (.lst xs)) (h2:ah ED H xs (ps.map aN)) (h3:0<D) (h4:Sz m D) (h5:M*(ps.length+1)<2 ^ e) (h6:m+e≤4000) (h7:(∀p∈ps,Cb D M p)) (h8:∀o H',aa H H'→H' o=some (fr (KM.sumF ps))→Q (.ref o) H')
def II:Sp:=fun vs H Q _=>Hw  vs H Q
theorem Es (T:Txt K mg):aZ P w K mg base CX0 4 T.sum_of_.f T.sum_of_.d ["parts"] II:=by
 have G_added:=#[(Bp)]
 refine T.sum_of_.F.ok rj (fun vs H Q E h=>?_) (fun cdv A outer s H vs Q E hr h=>?_)
 ·obtain ⟨a,xs,ps,D,M,m,e,rfl,_⟩:=h
  rfl
 ·obtain ⟨a,xs,ps,D,M,m,e,rfl,ha,ixs,d0,dm,hM,hb,al,k⟩:=h
  refine ⟨_,#[#[1,rj.nd,km,#[ag 5 #[[#[()],#[()]]]]] :: #[#[jN 8 PassesOwn.never rfl (@bF _ (K) _ _ _ #[0,yJ] (by rfl)) #[2,rj.nd,uD] #[ae 3 #[1,rj.nd,km,#[G_added,yE,T.added_,#[[#[1,km],#[2,uD]]]]]] (by intro _;rfl)] :: #[ae 3 #[av 4 #[1,km]]]]],?_⟩
  have lxs:xs.length=ps.length:=by rw [ixs.length,List.length_map]
  have dz:D≠0:=by trivial
  refine ⟨(by show 2≤10000;decide),fun o0 H1 n1=>?_⟩
  refine ⟨(),a,rfl,⟨_,ak.of (n1.sm _ _ ha)⟩,nv (xs:=xs) (fun i σ H'=>bI fun (o:Addr) (v2:Option V)=>σ=[some (.ref a),some (.ref o),v2]∧aa H H'∧H' o=some (fr (KM.sumF (ps.take i)))) ⟨o0,(),n1.sm,n1.at'⟩ ?_ ?_ ?_⟩
  ·rintro i σ H' _ ⟨_,_,_,s,_⟩
   exact ak.of (s _ _ ha)
  ·rintro i x σ H' hx ⟨o,v2,rfl,s,ho⟩
   have hi:i<xs.length:=(List.getElem?_eq_some_iff.mp hx).1
   obtain ⟨p,hp⟩:∃p,ps[i]?=some p:=⟨_,List.getElem?_eq_getElem (by trivial)⟩
   obtain ⟨ox,rfl,hpx⟩:=cm ((ixs.mono s.toE).nth i hx (by rw [List.getElem?_map,hp];rfl))
   have cp:=al p (List.mem_of_getElem? hp)
   have ct:Cb D (M*(ps.take i).length) (KM.sumF (ps.take i)):=Cb.sum dz fun q hq=>al q (List.mem_of_mem_take hq)
   have l1:M*(ps.take i).length≤M*(ps.length+1):=Nat.mul_le_mul_left _ (by rw [List.length_take];trivial)
   have l2:M*1≤M*(ps.length+1):=Nat.mul_le_mul_left _ (by trivial)
   obtain ⟨z1,z2⟩:=xI ct d0 dm (Nat.lt_of_le_of_lt l1 hM) hb
   obtain ⟨z3,z4⟩:=xI cp d0 dm (e:=e) (by trivial) hb
   refine ⟨(),(),o,ox,_,_,_,(),ho,hpx,⟨z1,z2,z3,z4,Int.mul_ne_zero ct.rd.nz cp.rd.nz⟩,fun o2 H2 n2=>⟨o2,(),s.trans n2.sm,?_⟩⟩
   rw [Ko hp,F8]
   exact n2.at'
  ·rintro σ H' ⟨o,v2,rfl,s,ho⟩
   rw [lxs,List.take_length] at ho
   exact ⟨(),k o H' s ho⟩
theorem yN {E:Addr→Prop}{H:Hp}:∀ns:List Nat,ah E H (CF ns) (ns.map fun n:Nat=>.int (n:Int))
 | []=>.nil
 | n :: ns=>.cons (.int _) (yN ns)
inductive FQ (vs:List V) (H:Hp) (Q:VK):Prop
 | mk (v:V) (sa:Addr) (ls:List (List Nat)) (ts:List ap) (xs:List V) (ps:List KM.Fra) (l:List Nat) (D G:Int) (M m e g:Nat) (h0:vs=[v,.ref sa,.str (S l)]) (h1:aI ED H v (iV ls ts)) (h2:(∀t∈ts,kG ls t)) (h3:ts.length≤40) (h4:H sa=some (.lst xs)) (h5:ah ED H xs (ps.map aN)) (h6:ps.length=ts.length) (h7:GF D M m e ps) (h8:0<G) (h9:Sz g G) (h10:(∀t∈ts,t.gain.2 ∣ G)) (h11:m+g+e+20≤3900) (h12:(∀t∈ts,Int.gcd t.gain.1 t.gain.2=1)) (h13:∀o H',aa H H'→H' o=some (fr (qU ts ps l))→Cb (D*G) (M*64*40+M*40) (qU ts ps l)→Q (.ref o) H')
def HJ:Sp:=fun vs H Q _=>FQ  vs H Q
theorem DR (T:Txt K mg):aZ P w K mg base CX0 5 T.left_at_.f T.left_at_.d ["net", "stream", "place"] HJ:=by
 have G_sum_of:=#[(Es)]
 have G_taken:=#[(tw)]
 have G_times:=#[(mU)]
 have G_ties_from:=#[(Av)]
 have G_ties_to:=#[(Dn)]
 refine T.left_at_.F.ok ud (fun vs H Q E h=>?_) (fun cdv A outer s H vs Q E hr h=>?_)
 ·obtain ⟨v,sa,ls,ts,xs,ps,l,D,G,M,m,e,g,rfl,_⟩:=h
  rfl
 ·obtain ⟨v,sa,ls,ts,xs,ps,l,D,G,M,m,e,g,rfl,hv,tc,h40,hsa,ixs,lps,co,g0,gm,gd',hb,cg,k⟩:=h
  obtain ⟨a,p,q,ys,rfl,ha,hp,hq,iq⟩:=gL hv
  have ly:=iq.length
  rw [List.length_map] at ly
  have lxs:xs.length=ps.length:=by rw [ixs.length,List.length_map]
  refine ⟨_,#[#[3,ud.nd,qH,#[G_sum_of,pW,T.sum_of_,#[[#[b5 7 (["number", "net", "stream"]) (1) ([0,1]) _ _ _ _ rfl (by kernel_rfl) (@bF _ (K) _ _ _ #[G_ties_to,wz,T.ties_to_,#[[#[0,(ux)],#[2,qN]]]] (by rfl)) (fun _ _ _ _ _ _=>#[0,(),()]) (fun _ _ _ _ _ _=>@bE _) (fun _ _ _ _ _ _=>#[G_times,(),T.times_,#[[#[#[2,0][#[0,()]]!],#[#[#[#[1,0][#[()]]][#[0,()]]][#[()]]]]]]) (by intro _;rfl)]]]]] :: #[#[4,ud.nd,sw,#[G_sum_of,pW,T.sum_of_,#[[#[b5 7 (["number", "stream"]) (1) ([1]) _ _ _ _ rfl (by kernel_rfl) (@bF _ (K) _ _ _ #[G_ties_from,uI,T.ties_from_,#[[#[0,(ux)],#[2,qN]]]] (by rfl)) (fun _ _ _ _ _ _=>#[0,(),()]) (fun _ _ _ _ _ _=>@bE _) (fun _ _ _ _ _ _=>#[#[1,0][#[0,()]]!]) (by intro _;rfl)]]]]] :: #[ae 3 #[av 4 #[G_taken,xL,T.taken_,#[[#[3,qH],#[4,sw]]]]]]]],?_⟩
  have li:=vX (·.en) ts l ts.length
  have lj:=vX (·.bg) ts l ts.length
  have dz:D≠0:=by have:=co.d0;trivial
  have gz0:G≠0:=by trivial
  have dG:0<D*G:=Int.mul_pos co.d0 g0
  have sG:Sz (m+g) (D*G):=co.dm.mul gm
  have m2:M<2 ^ e:=by have:=co.me;trivial
  have cF:∀i,Cb D M (o5 ps i)∧0≤KM.vl (o5 ps i):=fun i=>by
   unfold o5
   cases ei:ps[i]? with
   | none=>exact ⟨Cb.zero D M,by show 0≤KM.vl (0,1);rw [KM.vl_zero];exact Rat.le_refl⟩
   | some p=>exact ⟨co.al p (List.mem_of_getElem? ei),co.nn p (List.mem_of_getElem? ei)⟩
  have cT:∀(i:Nat) (t:ap),ts[i]?=some t→Cb G 64 t.gain∧0≤KM.vl t.gain:=fun i t et=>by
   have h:=tc t (List.mem_of_getElem? et)
   refine ⟨(Cb.of h.fg (cg t (List.mem_of_getElem? et))).mono (gd' t (List.mem_of_getElem? et)) (Nat.le_refl _),?_⟩
   exact Rat.le_of_lt (pN h.g1 h.fg.pos)
  have cX:∀i,i<ts.length→Cb (D*G) (M*64) (KM.lTim (o5 ps i) (wO ts i)):=fun i hi=>by
   obtain ⟨t,et⟩:∃t,ts[i]?=some t:=⟨_,List.getElem?_eq_getElem hi⟩
   rw [yg et]
   exact (cF i).1.tim dz gz0 (cT i t et).1 (cF i).2 (cT i t et).2
  refine cw fun Q1 nA=>⟨(),(),.ref a,ls,ts,l,rfl,hv,h40,fun D1 H1 s1 hD1 e1=>⟨D1,rfl,⟨_,ak.of e1⟩,fun C hC=>fV (ds:=kI (·.en) ts l ts.length) (fun n:Nat=>.int (n:Int)) (fun _=>true) (fun i=>aN (KM.lTim (o5 ps i) (wO ts i))) (by unfold CF;rw [List.length_map];trivial) hC e1 (yN _) ?_ ?_⟩⟩
  ·intro i x n H' R1 R2 hx en hy sm q1 q2
   cases hy
   have hn:n<ts.length:=(yG (List.mem_of_getElem? en)).1
   obtain ⟨t,et⟩:∃t,ts[n]?=some t:=⟨_,List.getElem?_eq_getElem hn⟩
   obtain ⟨pp,ep⟩:∃pp,ps[n]?=some pp:=⟨_,List.getElem?_eq_getElem (show n<ps.length by trivial)⟩
   have s01:=s1.trans sm
   obtain ⟨vx,ex⟩:∃vx,xs[n]?=some vx:=⟨_,List.getElem?_eq_getElem (by trivial)⟩
   obtain ⟨vy,ey⟩:∃vy,ys[n]?=some vy:=⟨_,List.getElem?_eq_getElem (by trivial)⟩
   obtain ⟨ox,rfl,hox⟩:=cm ((ixs.mono s01.toE).nth n ex (by rw [List.getElem?_map,ep];rfl))
   obtain ⟨a2,om,og,op,rfl,ha2,hom,hog,hop⟩:=gQ ((iq.mono s01.toE).nth n ey (by rw [List.getElem?_map,et];rfl))
   have c1:=(cF n).1
   rw [Bs ep] at c1
   obtain ⟨z1,z2⟩:=xI c1 co.d0 co.dm m2 (by trivial)
   obtain ⟨z3,z4⟩:=gz (tc t (List.mem_of_getElem? et)).fg (by decide) (by decide)
   refine ⟨eH,ay (B:=R2 H') ⟨(),(),sa,_,_,(),rfl,ak.of (s01 _ _ hsa),aW ex,(),a,_,_,(),rfl,ar.of (s01 _ _ ha),rfl,(),q,_,_,(),rfl,ar.of (s01 _ _ hq),aW ey,a2,_,_,(),rfl,ar.of ha2,rfl,ox,og,_,_,_,(),hox,hog,⟨z1,z2,z3,z4,Int.mul_ne_zero c1.rd.nz (by have:=(tc t (List.mem_of_getElem? et)).fg.pos;trivial)⟩,fun o3 H3 n3=>q1 rfl _ _ n3.sm ?_⟩⟩
   have e9:KM.lTim (o5 ps n) (wO ts n)=KM.lTim pp t.gain:=by rw [Bs ep,yg et]
   rw [e9]
   exact cB (p:=KM.lTim pp t.gain) n3.at'
  intro H2 zs s2 hC2 iC2
  rw [List.filter_eq_self.mpr (fun _ _=>rfl),show (kI (·.en) ts l ts.length).map (fun i=>aN (KM.lTim (o5 ps i) (wO ts i)))=(jK ts ps l).map aN by unfold jK;rw [List.map_map];rfl] at iC2
  have cC:∀p∈jK ts ps l,Cb (D*G) (M*64) p:=fun p hp=>by
   obtain ⟨i,hi,rfl⟩:=List.mem_map.mp hp
   exact cX i (yG hi).1
  have lC:(jK ts ps l).length≤40:=by unfold jK;rw [List.length_map];trivial
  have e6:M*64*((jK ts ps l).length+1)<2 ^ (e+6):=by
   have h1:=Nat.mul_le_mul_left (M*64) (show (jK ts ps l).length+1≤50 by trivial)
   have h2:=co.me
   have h3:(2:Nat) ^ (e+6)=2 ^ e*64:=by rw [Nat.pow_add]
   trivial
  refine ⟨C,zs,_,D*G,M*64,m+g,e+6,rfl,hC2,iC2,dG,sG,e6,by trivial,cC,fun o3 H3 s3 ho3=>nA _ _ ?_⟩
  have cS:=Cb.sum (by trivial) cC
  have s03:=(s1.trans s2).trans s3
  refine cw fun Q2 nB=>⟨(),(),.ref a,ls,ts,l,rfl,hv.mono s03.toE,h40,fun D4 H4 s4 hD4 e4=>⟨D4,rfl,⟨_,ak.of e4⟩,fun C5 hC5=>fV (ds:=kI (·.bg) ts l ts.length) (fun n:Nat=>.int (n:Int)) (fun _=>true) (fun i=>aN (o5 ps i)) (by unfold CF;rw [List.length_map];trivial) hC5 e4 (yN _) ?_ ?_⟩⟩
  ·intro i x n H' R1 R2 hx en hy sm q1 q2
   cases hy
   have hn:n<ts.length:=(yG (List.mem_of_getElem? en)).1
   obtain ⟨pp,ep⟩:∃pp,ps[n]?=some pp:=⟨_,List.getElem?_eq_getElem (show n<ps.length by trivial)⟩
   have s04:=(s03.trans s4).trans sm
   obtain ⟨vx,ex⟩:∃vx,xs[n]?=some vx:=⟨_,List.getElem?_eq_getElem (by trivial)⟩
   have ix:=(ixs.mono s04.toE).nth n ex (by rw [List.getElem?_map,ep];rfl)
   refine ⟨eH,ay (B:=R2 H') ⟨(),(),sa,_,_,(),rfl,ak.of (s04 _ _ hsa),aW ex,q1 rfl _ _ (aa.refl _) ?_⟩⟩
   rw [Bs ep]
   exact ix
  intro H6 zs6 s6 hC6 iC6
  rw [List.filter_eq_self.mpr (fun _ _=>rfl),show (kI (·.bg) ts l ts.length).map (fun i=>aN (o5 ps i))=(mz ts ps l).map aN by unfold mz;rw [List.map_map];rfl] at iC6
  have cG:∀p∈mz ts ps l,Cb (D*G) M p:=fun p hp=>by
   obtain ⟨i,hi,rfl⟩:=List.mem_map.mp hp
   exact (cF i).1.mono (Int.dvd_mul_right ..) (Nat.le_refl _)
  have lG:(mz ts ps l).length≤40:=by unfold mz;rw [List.length_map];trivial
  have e7:M*((mz ts ps l).length+1)<2 ^ (e+6):=by
   have h1:=Nat.mul_le_mul_left M (show (mz ts ps l).length+1≤50 by trivial)
   have h2:=co.me
   have h3:(2:Nat) ^ (e+6)=2 ^ e*64:=by rw [Nat.pow_add]
   trivial
  refine ⟨C5,zs6,_,D*G,M,m+g,e+6,rfl,hC6,iC6,dG,sG,e7,by trivial,cG,fun o7 H7 s7 ho7=>nB _ _ ?_⟩
  have cS2:=Cb.sum (by trivial) cG
  have s37:=(s4.trans s6).trans s7
  have b1:M*64*(jK ts ps l).length≤M*64*40:=Nat.mul_le_mul_left _ lC
  have b2:M*(mz ts ps l).length≤M*40:=Nat.mul_le_mul_left _ lG
  have h3:(2:Nat) ^ (e+6)=2 ^ e*64:=by rw [Nat.pow_add]
  have h2:=co.me
  obtain ⟨z1,z2⟩:=xI cS dG sG (e:=e+6) (by trivial) (by trivial)
  obtain ⟨z3,z4⟩:=xI cS2 dG sG (e:=e+6) (by trivial) (by trivial)
  refine ⟨(),(),o3,o7,_,_,_,(),s37 _ _ ho3,ho7,⟨z1,z2,z3,z4,Int.mul_ne_zero cS.rd.nz cS2.rd.nz⟩,fun o8 H8 n8=>k o8 H8 ((s03.trans s37).trans n8.sm) n8.at' ?_⟩
  exact (cS.tak (by trivial) cS2).mono (Int.dvd_refl _) (by trivial)
end
end K21
namespace K21
open PySem L2
set_option maxHeartbeats 8000000
def jU (ls:List (List Nat)) (ts:List ap) (ps:List KM.Fra) (es:List (List Nat)):Bool:=(ls.filter fun l=>!es.contains l).all fun l=>decide (qU ts ps l=(0,1))
def kh (ts:List ap) (ps:List KM.Fra):Bool:=(List.zipWith (fun p (t:ap)=>jP (aN p) t.most) ps ts).all id
theorem Do {p m:KM.Fra} (h:KM.Rd p) (hm:1≤m.2):jP (aN p) m=(decide (0≤KM.vl p) && decide (KM.vl p≤KM.vl m)):=by
 have h1:=h.1
 have h2:=h.2
 have e0:jP (aN p) m=((jq (aN p) && decide (0≤p.1)) && decide (p.1*m.2≤m.1*p.2)):=rfl
 have e1:jq (aN p)=(decide (1≤p.2) && decide (Int.gcd p.1 p.2=1)):=rfl
 have a1:=gJ (p:=p) (q:=m) h1 hm
 have a2:=gJ (p:=(0,1)) (q:=p) (by decide) h1
 rw [KM.vl_zero] at a2
 rw [e0,e1,decide_eq_true h1,decide_eq_true h2,Bool.true_and,Bool.true_and,Bool.eq_iff_iff,Bool.and_eq_true,Bool.and_eq_true,decide_eq_true_iff,decide_eq_true_iff,decide_eq_true_iff,decide_eq_true_iff,a1,a2]
 refine and_congr ?_ Iff.rfl
 show _↔0*p.2≤p.1*1
 trivial
theorem vp {p:KM.Fra}{a b:Nat} (h:Gb a b p) (ha:a≤1900) (hb:b≤1900):Wt (aN p) 3 1:=.tuple (.cons (.int (h.n.mono ha)) (.cons (.int (h.d.mono hb)) .nil))
theorem GP (p:KM.Fra):PyData.eqv (aN p) (aN (0,1))=decide (p=(0,1)):=by
 have e1:PyData.eqv (aN p) (aN (0,1))=(p.1==0 && (p.2==1 && true)):=by simp [PyData.eqv,PyData.eqvAll]
 rw [e1]
 obtain ⟨a,b⟩:=p
 by_cases h1:a=0
 ·by_cases h2:b=1
  ·subst h1 h2;rfl
  ·simp [h1,h2]
 ·simp [h1]
section
variable {P:Program}{w:World}{K:PySem.W.Frag}{mg:Str→Option Value}{base:Heap}
inductive Dd (vs:List V) (H:Hp) (Q:VK):Prop
 | mk (v:V) (sa:Addr) (ls:List (List Nat)) (ts:List ap) (xs:List V) (ps:List KM.Fra) (h0:vs=[v,.ref sa]) (h1:aI ED H v (iV ls ts)) (h2:(∀t∈ts,kG ls t)) (h3:ts.length≤40) (h4:H sa=some (.lst xs)) (h5:ah ED H xs (ps.map aN)) (h6:ps.length=ts.length) (h7:(∀p∈ps,Gb 1900 1900 p)) (h8:∀H',aa H H'→Q (.bl (kh ts ps)) H')
def E9:Sp:=fun vs H Q _=>Dd  vs H Q
theorem AR (T:Txt K mg):aZ P w K mg base CX0 5 T.is_stream_.f T.is_stream_.d ["net", "thing"] E9:=by
 have G_goes_within:=#[(yI)]
 refine T.is_stream_.F.ok Bd (fun vs H Q E h=>?_) (fun cdv A outer s H vs Q E hr h=>?_)
 ·obtain ⟨v,sa,ls,ts,xs,ps,rfl,_⟩:=h
  rfl
 ·obtain ⟨v,sa,ls,ts,xs,ps,rfl,hv,tc,h40,hsa,ixs,lps,gp,k⟩:=h
  obtain ⟨a,p,q,ys,rfl,ha,hp,hq,iq⟩:=gL hv
  have ly:=iq.length
  rw [List.length_map] at ly
  have lxs:xs.length=ps.length:=by rw [ixs.length,List.length_map]
  refine ⟨_,#[#[bA 8 #[PW.pt 3 #[ig 7 #[dk 4 #[b9 3 #[(),(),(@qr _ (K) (by rfl)),rN,T.b_isinstance,(@cz),#[[#[1,kz],#[qP 4 xb T.b_list (@mG) (by decide) (by decide)]]]] (by intro _;rfl)]] #[gA 4 #[aK 8 (@wp _) #[(),(),(@kg _ (K) (by rfl)),qJ,T.b_len,(@bY),#[[#[1,kz]]]] #[(),(),(@kg _ (K) (by rfl)),qJ,T.b_len,(@bY),#[[#[#[0,qG][#[()]]]]]] #[(),()]]]]] #[ae 3 #[av 4 #[br 4]]] (@aQ _)] :: #[ae 3 #[av 4 #[(),(),(@xZ _ (K) rfl (by rfl)),yz,T.b_all,(@my),#[[#[b5 7 (["much", "tie"]) (2) ([]) _ _ _ _ rfl (by kernel_rfl) (@Az _ (K) _ _ _ _ _ _ _ _ yl T.b_zip #[[#[1,kz],#[#[0,qG][#[()]]]]] (by rfl) (by rfl) (by rfl)) (fun _ _ _ _ _ _=>(@b4 _ (K) _ _ _ _ (2) rfl #[au 5 #[0,(),()] #[au 5 #[1,(),()] (@b3 _) (by rfl)] (by rfl)] (by rfl) (by rfl) (by rfl))) (fun _ _ _ _ _ _=>@bE _) (fun _ _ _ _ _ _=>#[G_goes_within,(),T.goes_within_,#[[#[0,()],#[#[1,()][#[()]]]]]]) (by intro _;rfl)]]]]]]],?_⟩
  have hx:aI (fun _=>False) H (.ref sa) (.list (ps.map aN)):=.lst hsa (fun z=>z) (ixs.narrow fun _ z=>z.elim)
  refine ⟨(),_,_,_,(),hx.ty,AJ _,(),aJ ?_⟩
  refine ⟨(),sa,xs,rfl,.inl (ak.of hsa),(),a,_,_,(),rfl,ar.of ha,rfl,q,ys,rfl,.inr (ar.of hq),rfl,(),?_⟩
  rw [show (!decide (V.int (xs.length:Int)=V.int (ys.length:Int)))=false by rw [decide_eq_true (by rw [show xs.length=ys.length by trivial])];rfl]
  refine aJ ⟨(),(),a,_,_,(),rfl,ar.of ha,rfl,sa,q,true,false,rfl,⟨xs,ak.of hsa⟩,⟨ys,ar.of hq⟩,fun D hD=>oj (List.zipWith (fun p (t:ap)=>jP (aN p) t.most) ps ts) ?_ hD ?_ ?_ ?_ ?_⟩
  ·rw [List.length_zipWith];trivial
  ·intro i H' hi sm
   rw [List.length_zipWith] at hi
   exact ⟨xs,ys,xs[i],ys[i],ak.of (sm _ _ hsa),ar.of (sm _ _ hq),List.getElem?_eq_getElem (by trivial),List.getElem?_eq_getElem (by trivial)⟩
  ·intro H' sm
   exact ⟨xs,ys,ak.of (sm _ _ hsa),ar.of (sm _ _ hq),.inl (by rw [List.length_zipWith];trivial)⟩
  ·rintro i b x H' H'' R eb sm ⟨t,u1,u2,ht1,rfl,rfl,e1,e2⟩ kR
   have e1':=e1 xs (ak.of (sm _ _ hsa))
   have e2':=e2 ys (ar.of (sm _ _ hq))
   obtain ⟨pp,tt,fa,fb,rfl⟩:=List.getElem?_zipWith_eq_some.mp eb
   have st:=(aa.new (H:=H') (o:=.tup [u1,u2]) ht1)
   have s04:=sm.trans st
   have ip:=(ixs.mono s04.toE).nth i e1' (by rw [List.getElem?_map,fa];rfl)
   obtain ⟨a2,om,og,op,rfl,ha2,hom,hog,hop⟩:=gQ ((iq.mono s04.toE).nth i e2' (by rw [List.getElem?_map,fb];rfl))
   have ht:=tc tt (List.mem_of_getElem? fb)
   have gp1:=gp pp (List.mem_of_getElem? fa)
   refine ⟨t,(),ar.of aA,rfl,_,(),_,(),rfl,yx,(),(),a2,_,_,(),rfl,ar.of ha2,rfl,u1,.ref om,aN pp,ED,ED,tt.most,_,(),ip,vp gp1 (Nat.le_refl _) (Nat.le_refl _),cB hom,⟨ht.fm.n.mono (by decide),ht.fm.d.mono (by decide),ht.fm.pos,ht.mc⟩,kR _ st⟩
  ·intro H3 s3 hD3
   exact ⟨D,(),ak.of hD3,k H3 s3⟩
inductive Fe (vs:List V) (H:Hp) (Q:VK):Prop
 | mk (v:V) (sa:Addr) (ls:List (List Nat)) (ts:List ap) (xs:List V) (ps:List KM.Fra) (b e':List Nat) (D G:Int) (M m e g:Nat) (h0:vs=[v,.ref sa,.str (S b),.str (S e')]) (h1:aI ED H v (iV ls ts)) (h2:(∀t∈ts,kG ls t)) (h3:ts.length≤40) (h4:ls.length≤40) (h5:H sa=some (.lst xs)) (h6:ah ED H xs (ps.map aN)) (h7:ps.length=ts.length) (h8:GF D M m e ps) (h9:0<G) (h10:Sz g G) (h11:(∀t∈ts,t.gain.2 ∣ G)) (h12:m+g+e+20≤1900) (h13:(∀t∈ts,Int.gcd t.gain.1 t.gain.2=1)) (h14:∀H',aa H H'→Q (.bl (jU ls ts ps [b,e'])) H')
def Fw:Sp:=fun vs H Q _=>Fe  vs H Q
theorem FT (T:Txt K mg):aZ P w K mg base CX0 6 T.keeps_.f T.keeps_.d ["net", "stream", "begin", "end"] Fw:=by
 have G_left_at:=#[(DR)]
 refine T.keeps_.F.ok Gg (fun vs H Q E h=>?_) (fun cdv A outer s H vs Q E hr h=>?_)
 ·obtain ⟨v,sa,ls,ts,xs,ps,b,e',D,G,M,m,e,g,rfl,_⟩:=h
  rfl
 ·obtain ⟨v,sa,ls,ts,xs,ps,b,e,D,G,M,m,e1,g,rfl,hv,tc,h40,hls,hsa,ixs,lps,co,g0,gm,gd',hb,cg,k⟩:=h
  obtain ⟨a,p,q,ys,rfl,ha,hp,hq,iq⟩:=gL hv
  refine ⟨_,#[ae 3 #[av 4 #[(),(),(@xZ _ (K) rfl (by rfl)),BY,T.b_all,(@my),#[[#[b5 7 (["place", "begin", "end", "net", "stream"]) (1) ([2,3,0,1]) _ _ _ _ rfl (by kernel_rfl) (@AA _ (K) _ _ _ #[#[0,(BO)][#[()]]] (by rfl)) (fun _ _ _ _ _ _=>#[0,(),()]) (fun _ _ _ _ _ _=>#[tL 3 #[aK 8 (@yO _ (K) (by rfl)) #[0,()] #[ag 5 #[[#[1,0],#[2,0]]]] rfl]]) (fun _ _ _ _ _ _=>#[cn 8 (@sT _ hr.units) #[G_left_at,(),T.left_at_,#[[#[3,0],#[4,0],#[0,()]]]] #[ag 5 #[[#[()],#[()]]]] #[(),()]]) (by intro _;rfl)]]]]]],?_⟩
  refine ⟨(),a,_,_,(),rfl,ar.of ha,rfl,p,rfl,⟨_,ar.of hp⟩,fun D' hD=>nX (n:=ls.length) (fun i H' zs=>zs=(((ls.take i).filter fun l=>![b,e].contains l).map fun l=>decide (qU ts ps l=(0,1))).map V.bl∧H' D'=some (.lst zs)∧aa H H') ?_ ⟨rfl,aA,c7 hD (aa.refl _)⟩ ?_ ?_ ?_ ?_ ?_⟩
  ·rw [sizeLine_eq];trivial
  ·rintro i H' zs ⟨rfl,q1,_⟩
   refine ⟨q1,?_⟩
   rw [List.length_map,List.length_map]
   exact Nat.le_trans (List.length_filter_le _ _) (by rw [List.length_take];trivial)
  ·rintro i H' zs hi ⟨_,_,sm⟩
   exact ⟨_,aG ls[i],ar.of (sm _ _ hp),by rw [List.getElem?_map];simp [hi]⟩
  ·rintro H' zs ⟨_,_,sm⟩
   exact ⟨_,ar.of (sm _ _ hp),by rw [List.length_map];exact Nat.le_refl _⟩
  ·rintro i H' zs x H'' hi ⟨rfl,q1,sm⟩ ⟨rfl,ex⟩
   have ex':=ex _ (ar.of (sm _ _ hp))
   rw [List.getElem?_map,List.getElem?_eq_getElem hi] at ex'
   obtain rfl:aG ls[i]=x:=Option.some.inj ex'
   refine ⟨eH,(),(),(),(by show 2≤10000;decide),fun o1 H1 n1=>⟨o1,[aG b,aG e],rfl,.inr (ar.of n1.at'),rfl,rfl,(),?_⟩⟩
   have s1:=sm.trans n1.sm
   have q1':=n1.sm _ _ q1
   rw [show Bu (aG ls[i]) [aG b,aG e]=[b,e].contains ls[i] from Jb ls[i] [b,e]]
   have et:(ls.take (i+1)).filter (fun l=>![b,e].contains l)=(ls.take i).filter (fun l=>![b,e].contains l)++(if [b,e].contains ls[i]=true then [] else [ls[i]]):=by
    rw [List.take_succ_eq_append_getElem hi,List.filter_append]
    congr 1
    cases hc:[b,e].contains ls[i] with
    | true=>rw [List.filter_cons,hc];rfl
    | false=>rw [List.filter_cons,hc];rfl
   cases hc:[b,e].contains ls[i] with
   | true=>
    rw [hc,if_pos rfl,List.append_nil] at et
    refine aJ ⟨?_,q1',s1⟩
    rw [et]
   | false=>
    rw [hc,if_neg (by decide)] at et
    refine ay ⟨(),(),(),.ref a,sa,ls,ts,xs,ps,ls[i],D,G,M,m,e1,g,rfl,hv.mono s1.toE,tc,h40,s1 _ _ hsa,ixs.mono s1.toE,lps,co,g0,gm,gd',by trivial,cg,fun o2 H2 s2 ho2 f2=>⟨(by show 2≤10000;decide),fun o3 H3 n3=>⟨aN (qU ts ps ls[i]),aN (0,1),ED,ED,3,3,1,1,cB (n3.sm _ _ ho2),cB (p:=(0,1)) n3.at',?_,Kc LG (by decide),by decide,?_⟩⟩⟩
    ·have h3:(2:Nat) ^ (e1+8)=2 ^ e1*256:=by rw [Nat.pow_add]
     have h2:=co.me
     exact vp (f2.gb (Int.mul_pos co.d0 g0) (co.dm.mul gm) (e:=e1+8) (by trivial)) (by trivial) (by trivial)
    have s3:=(s1.trans s2).trans n3.sm
    refine ⟨n3.sm _ _ (s2 _ _ q1'),?_,aA,c7 hD s3⟩
    rw [et,List.map_append,List.map_append,GP]
    rfl
  ·rintro H' zs ⟨rfl,q1,sm⟩
   rw [List.take_length] at q1
   refine ⟨D',(),ak.of q1,?_⟩
   have e0:(((ls.filter fun l=>![b,e].contains l).map fun l=>decide (qU ts ps l=(0,1)))).all id=jU ls ts ps [b,e]:=by
    unfold jU
    rw [List.all_map];rfl
   rw [e0]
   exact k H' sm
end
structure Bf (H:Hp) (v:V) (sa:Addr) (ls:List (List Nat)) (ts:List ap) (xs:List V) (ps:List KM.Fra) (D G:Int) (M m e g:Nat):Prop where
 iN:aI ED H v (iV ls ts)
 tc:∀t∈ts,kG ls t
 t40:ts.length≤40
 l30:ls.length≤30
 hs:H sa=some (.lst xs)
 ix:ah ED H xs (ps.map aN)
 lp:ps.length=ts.length
 co:GF D M m e ps
 g0:0<G
 gm:Sz g G
 gd:∀t∈ts,t.gain.2 ∣ G
 bb:m+g+e+20≤1900
 cg:∀t∈ts,Int.gcd t.gain.1 t.gain.2=1
theorem Bf.sm {H H':Hp}{v:V}{sa:Addr}{ls:List (List Nat)}{ts:List ap}{xs:List V}{ps:List KM.Fra}{D G:Int}{M m e g:Nat} (h:Bf H v sa ls ts xs ps D G M m e g) (s:aa H H'):Bf H' v sa ls ts xs ps D G M m e g:=
 ⟨h.iN.mono s.toE,h.tc,h.t40,h.l30,s _ _ h.hs,h.ix.mono s.toE,h.lp,h.co,h.g0,h.gm,h.gd,h.bb,h.cg⟩
theorem Bf.gb {H:Hp}{v:V}{sa:Addr}{ls:List (List Nat)}{ts:List ap}{xs:List V}{ps:List KM.Fra}{D G:Int}{M m e g:Nat} (h:Bf H v sa ls ts xs ps D G M m e g):∀p∈ps,Gb (m+e) m p:=fun p hp=>(h.co.al p hp).gb h.co.d0 h.co.dm (by have:=h.co.me;trivial)
theorem FE {ls:List (List Nat)}{ts:List ap}{ps:List KM.Fra}{a b:Nat} (l30:ls.length≤30) (tc:∀t∈ts,kG ls t) (gp:∀p∈ps,Gb a b p):IF ls (aj ts ps ts.length):=by
 refine ⟨l30,fun s hs=>?_⟩
 have h:=y6 (c:=max (21+b) (a+6)) (d:=b+6) tc gp (by trivial) (by trivial) (Nat.le_refl _) s hs
 obtain ⟨t,et,_,h1⟩:=h.w
 have ht:=tc t (List.mem_of_getElem? et)
 exact ⟨by rcases h1 with ⟨z,_⟩ | ⟨z,_⟩ <;> rw [z] <;> first | exact ht.b | exact ht.e,h.e,h.g,h.g1⟩
def fZ (ss:List SD) (d:PyData) (f e:List Nat):Bool:=match d with
 | .tuple [x,t]=>PyData.eqv x (.str (Str.ofString "way")) && cP ss t f e
 | .tuple [x,r,c]=>PyData.eqv x (.str (Str.ofString "ring")) && rT ss r c e
 | _=>false
def iI (ls:List (List Nat)) (ts:List ap) (ps:List KM.Fra) (f e:List Nat) (d:PyData):Bool:=kh ts ps && (jU ls ts ps [f,e] && fZ (aj ts ps ts.length) d f e)
theorem Hk {d:PyData}{n k:Nat} (h:Wt d n k):1≤n:=by cases h <;> trivial
theorem JK {ds:List PyData}{n k:Nat} (h:Wt (.list ds) n k):ds.length≤n:=by
 cases h with
 | list r=>
  have key:∀{ds:List PyData}{n k:Nat},kS ds n k→ds.length≤n:=by
   intro ds
   induction ds with
   | nil=>intro n k _;exact Nat.zero_le _
   | cons d r ih=>
    intro n k h
    cases h with
    | cons a b=>have:=ih b;have:=Hk a;rw [List.length_cons];trivial
  have:=key r
  trivial
theorem HF {ds:List PyData}{n k:Nat} (h:Wt (.tuple ds) n k):∃j,∀d∈ds,∃m,m≤n∧Wt d m j∧j≤k:=by
 cases h with
 | @tuple _ n' k' r=>
  refine ⟨k',fun d hd=>?_⟩
  have key:∀{ds:List PyData}{n k:Nat}{d:PyData},kS ds n k→d∈ds→∃m,m≤n∧Wt d m k:=by
   intro ds
   induction ds with
   | nil=>intro n k d _ hd;cases hd
   | cons x r ih=>
    intro n k d h hd
    cases h with
    | cons h1 h2=>
    rcases List.mem_cons.mp hd with e | e
    ·subst e;exact ⟨_,by trivial,h1⟩
    ·obtain ⟨m',q,w⟩:=ih h2 e
     exact ⟨m',by trivial,w⟩
  obtain ⟨m,a,b⟩:=key r hd
  exact ⟨m,by trivial,b,by trivial⟩
section
variable {P:Program}{w:World}{K:PySem.W.Frag}{mg:Str→Option Value}{base:Heap}
inductive F6 (vs:List V) (H:Hp) (Q:VK):Prop
 | mk (v x:V) (sa:Addr) (ls:List (List Nat)) (ts:List ap) (xs:List V) (ps:List KM.Fra) (D G:Int) (M m e g:Nat) (f t:List Nat) (d:PyData) (E:Addr→Prop) (wn wk:Nat) (h0:vs=[v,.str (S f),.str (S t),.ref sa,x]) (h1:Bf H v sa ls ts xs ps D G M m e g) (h2:aI E H x d) (h3:Wt d wn wk) (h4:wn≤2900) (h5:wk≤50) (h6:∀H',aa H H'→Q (.bl (iI ls ts ps f t d)) H')
def HD:Sp:=fun vs H Q _=>F6  vs H Q
theorem jS (T:Txt K mg):aZ P w K mg base CX0 9 T.shows_bettering_.f T.shows_bettering_.d ["net", "begin", "end", "stream", "thing"] HD:=by
 have G_is_stream:=#[(AR)]
 have G_keeps:=#[(FT)]
 have G_by_pairs:=#[(wI)]
 have G_is_course:=#[(uB)]
 have G_is_ring_and_course:=#[(sQ)]
 refine T.shows_bettering_.F.ok oq (fun vs H Q E h=>?_) (fun cdv A outer s H vs Q E hr h=>?_)
 ·obtain ⟨v,x,sa,ls,ts,xs,ps,D,G,M,m,e,g,f,t,d,E',wn,wk,rfl,_⟩:=h
  rfl
 ·obtain ⟨v,x,sa,ls,ts,xs,ps,D,G,M,m,e,g,f,t,d,E',wn,wk,rfl,N,hx,wd,hwn,hwk,k⟩:=h
  refine ⟨_,#[#[bA 8 #[PW.pt 3 #[ig 7 #[dk 4 #[b9 3 #[G_is_stream,nR,T.is_stream_,#[[#[0,iC],#[3,fW]]]] (by intro _;rfl)]] #[ig 7 #[dk 4 #[b9 3 #[G_keeps,qB,T.keeps_,#[[#[0,iC],#[3,fW],#[1,kn],#[2,iK]]]] (by intro _;rfl)]] #[gA 4 #[dk 4 #[b9 3 #[(),(),(@qr _ (K) (by rfl)),mW,T.b_isinstance,(@cz),#[[#[4,bG],#[qP 4 qA T.b_tuple (@cJ) (by decide) (by decide)]]]] (by intro _;rfl)]]]]]] #[ae 3 #[av 4 #[br 4]]] (@aQ _)] :: #[#[5,oq.nd,gP,#[G_by_pairs,oN,T.by_pairs_,#[[#[0,iC],#[3,fW]]]]] :: #[#[bA 8 #[PW.pt 3 #[Aw 7 #[aK 8 (@ij _) #[(),(),(@kg _ (K) (by rfl)),lD,T.b_len,(@bY),#[[#[4,bG]]]] #[()] #[(),()]] #[y9 4 #[aK 8 (@sT _ hr.units) #[#[4,bG][#[()]]] #[da 4] #[(),()]]]]] #[ae 3 #[av 4 #[G_is_course,ot,T.is_course_,#[[#[5,gP],#[#[4,bG][#[()]]],#[1,kn],#[2,iK]]]]]] (@aQ _)] :: #[#[bA 8 #[PW.pt 3 #[Aw 7 #[aK 8 (@ij _) #[(),(),(@kg _ (K) (by rfl)),lD,T.b_len,(@bY),#[[#[4,bG]]]] #[()] #[(),()]] #[y9 4 #[aK 8 (@sT _ hr.units) #[#[4,bG][#[()]]] #[da 4] #[(),()]]]]] #[ae 3 #[av 4 #[G_is_ring_and_course,jO,T.is_ring_and_course_,#[[#[5,gP],#[#[4,bG][#[()]]],#[#[4,bG][#[()]]],#[2,iK]]]]]] (@aQ _)] :: #[ae 3 #[av 4 #[br 4]]]]]]],?_⟩
  have gp:=N.gb
  have bb:=N.bb
  unfold iI at k
  refine ⟨(),(),v,sa,ls,ts,xs,ps,rfl,N.iN,N.tc,N.t40,N.hs,N.ix,N.lp,fun p hp=>(gp p hp).mono (by trivial) (by trivial),fun H1 s1=>⟨(),?_⟩⟩
  cases hi:kh ts ps with
  | false=>
   rw [hi] at k
   exact ay (ay (k H1 s1))
  | true=>
   rw [hi,Bool.true_and] at k
   have N1:=N.sm s1
   refine aJ ⟨(),(),(),(),v,sa,ls,ts,xs,ps,f,t,D,G,M,m,e,g,rfl,N1.iN,N.tc,N.t40,Nat.le_trans N.l30 (by decide),N1.hs,N1.ix,N.lp,N.co,N.g0,N.gm,N.gd,N.bb,N.cg,fun H2 s2=>⟨(),?_⟩⟩
   have s12:=s1.trans s2
   cases hk:jU ls ts ps [f,t] with
   | false=>
    rw [hk] at k
    exact ay (ay (k H2 s12))
   | true=>
    rw [hk,Bool.true_and] at k
    have hx2:=hx.mono (H':=H2) s12.toE
    refine aJ ⟨(),_,_,_,(),hx2.ty,vQ d,(),?_⟩
    have s12k:=k H2 s12
    cases hx2 with
    | non=>exact ay s12k
    | bl b=>exact ay s12k
    | int i=>exact ay s12k
    | str y=>exact ay s12k
    | lst h ne r=>exact ay s12k
    | @tup q ys ds h r=>
    have lys:=r.length
    have N2:=N1.sm s2
    refine aJ ⟨(),(),v,sa,ls,ts,xs,ps,m+e,m,rfl,N2.iN,N.tc,N.t40,N2.hs,N2.ix,N.lp,gp,by trivial,by trivial,fun dd H3 s3 fd hbp=>?_⟩
    have s13:=s12.trans s3
    have gss:=FE (ps:=ps) N.l30 N.tc gp
    generalize aj ts ps ts.length=ss at *
    have h3:=s3 _ _ h
    have r3:=r.mono s3.toE
    obtain ⟨j,wj⟩:=HF wd
    have lnD:∀d1,d1∈ds→∀es,d1=.list es→es.length≤3000:=fun d1 m1 es e1=>by
     obtain ⟨m',a1,b1,_⟩:=wj d1 m1
     rw [e1] at b1
     have:=JK b1
     trivial
    refine ⟨(),q,ys,rfl,.inr (ar.of h3),rfl,(),?_⟩
    have lne:∀n:Nat,ds.length≠n→decide (V.int (ys.length:Int)=V.int (n:Int))=false:=fun n h=>decide_eq_false fun z=>by injection z with z;trivial
    by_cases l2:ds.length=2
    ·obtain ⟨d1,d2,rfl⟩:∃d1,∃d2,ds=[d1,d2]:=cW (P:=fun ds=>∃d1,∃d2,ds=[d1,d2]) (fun a b=>⟨a,b,rfl⟩) ds l2
     cases r3 with
     | @cons x1 _ _ _ i1 r3=>
     cases r3 with
     | @cons x2 _ _ _ i2 r3=>
     cases r3
     obtain ⟨m1,_,w1,hj⟩:=wj d1 (List.mem_cons_self ..)
     refine ay ⟨(),q,_,_,(),rfl,ar.of h3,rfl,d1,.str (Str.ofString "way"),E',ED,m1,1,j,0,i1,.str _,w1,.str ⟨by nofun,by nofun⟩,by trivial,(),?_⟩
     have k:∀H',aa H H'→Q (.bl (PyData.eqv d1 (.str (Str.ofString "way")) && cP ss d2 f t)) H':=k
     cases he:PyData.eqv d1 (.str (Str.ofString "way")) with
     | true=>
      rw [he,Bool.true_and] at k
      exact ay ⟨(),(),q,_,_,(),rfl,ar.of h3,rfl,(),(),dd,x2,d2,ss,E',f,t,rfl,hbp,i2,lnD d2 (by simp),fun H4 s4=>k H4 (s13.trans s4)⟩
     | false=>
      rw [he] at k
      refine aJ ⟨(),q,(),.inr (ar.of h3),rfl,(),aJ (aJ (k H3 s13))⟩
    have e2:=lne 2 l2
    rw [show ((2:Nat):Int)=2 from rfl] at e2
    rw [e2]
    refine aJ (aJ ⟨(),q,ys,rfl,.inr (ar.of h3),rfl,(),?_⟩)
    by_cases l3:ds.length=3
    ·obtain ⟨d1,d2,d3,rfl⟩:∃d1,∃d2,∃d3,ds=[d1,d2,d3]:=lP (P:=fun ds=>∃d1,∃d2,∃d3,ds=[d1,d2,d3]) (fun a b c=>⟨a,b,c,rfl⟩) ds l3
     cases r3 with
     | @cons x1 _ _ _ i1 r3=>
     cases r3 with
     | @cons x2 _ _ _ i2 r3=>
     cases r3 with
     | @cons x3 _ _ _ i3 r3=>
     cases r3
     obtain ⟨m1,_,w1,hj⟩:=wj d1 (List.mem_cons_self ..)
     refine ay ⟨(),q,_,_,(),rfl,ar.of h3,rfl,d1,.str (Str.ofString "ring"),E',ED,m1,1,j,0,i1,.str _,w1,.str ⟨by nofun,by nofun⟩,by trivial,(),?_⟩
     have k:∀H',aa H H'→Q (.bl (PyData.eqv d1 (.str (Str.ofString "ring")) && rT ss d2 d3 t)) H':=k
     cases he:PyData.eqv d1 (.str (Str.ofString "ring")) with
     | true=>
      rw [he,Bool.true_and] at k
      exact ay ⟨(),(),q,_,_,(),rfl,ar.of h3,rfl,(),q,_,_,(),rfl,ar.of h3,rfl,(),dd,x2,x3,d2,d3,ls,ss,E',t,rfl,hbp,gss,i2,lnD d2 (by simp),i3,lnD d3 (by simp),fun H4 s4=>k H4 (s13.trans s4)⟩
     | false=>
      rw [he] at k
      exact aJ (k H3 s13)
    have e3:=lne 3 l3
    rw [show ((3:Nat):Int)=3 from rfl] at e3
    rw [e3]
    have ek:fZ ss (.tuple ds) f t=false:=by
     rcases ds with _ | ⟨a,_ | ⟨b,_ | ⟨c,_ | ⟨d,r⟩⟩⟩⟩ <;> first | rfl | exact absurd rfl l2 | exact absurd rfl l3
    rw [ek] at k
    exact aJ (aJ (k H3 s13))
end
end K21
namespace K21
open PySem L2
set_option maxHeartbeats 8000000
structure Dr (a b:Nat) (p:KM.Fra):Prop where
 g:Gb a b p
 c:Int.gcd p.1 p.2=1
 p1:1≤p.1
theorem AD {a b:Nat}{n d:Int} (hn:Sz a n) (hd:Sz b d) (h0:0<n) (h1:0<d):Dr a b (KM.low n d):=
 ⟨sR hn hd h1,(KM.low_spec n d (by trivial)).2.2.1,by have:=(KM.low_sgn (n:=n) (d:=d) h1).1.mpr h0;trivial⟩
theorem Dr.rd {a b:Nat}{p:KM.Fra} (h:Dr a b p):KM.Rd p:=⟨h.g.pos,h.c⟩
theorem Dr.v0 {a b:Nat}{p:KM.Fra} (h:Dr a b p):0<KM.vl p:=pN h.p1 h.g.pos
section
variable {P:Program}{w:World}{K:PySem.W.Frag}{mg:Str→Option Value}{base:Heap}
inductive Lg (c d:Nat) (vs:List V) (H:Hp) (Q:VK):Prop
 | mk (b:Addr) (t:Int) (h0:vs=[.ref b]) (h1:Bx H b t) (h2:0≤t) (h3:t≤900000) (h4:∀o p t' H',bV (Eb b) H H'→H' o=some (fr p)→Dr c d p→Bx H' b t'→t≤t'→t'≤t+2→Q (.ref o) H')
def Gn (c d:Nat):Sp:=fun vs H Q _=>Lg c d vs H Q
theorem uj (T:Txt K mg):aZ P w K mg base CX0 2 T.l_much_by_.f T.l_much_by_.d ["_law_box_here"] (Gn 4 2):=by
 have G_l_take:=#[(wa)]
 have G_l_frac:=#[(pF)]
 refine T.l_much_by_.F.ok Bi (fun vs H Q E h=>?_) (fun cdv A outer s H vs Q E hr h=>?_)
 ·obtain ⟨b,t,rfl,_⟩:=h
  rfl
 ·obtain ⟨b,t,rfl,B,ht0,ht1,k⟩:=h
  refine ⟨_,#[ae 3 #[av 4 #[G_l_frac,uZ,T.l_frac_,#[[#[aC 8 (@iE _) #[()] #[G_l_take,oD,T.l_take_,#[[#[0,kM],#[()]]]]],#[#[aV 4 #[[#[()],#[()],#[()],#[()]]]][#[G_l_take,oD,T.l_take_,#[[#[0,kM],#[()]]]]]!]]]]]],?_⟩
  refine ⟨(),b,12,t,rfl,B,by decide,by decide,by trivial,by trivial,fun r2 t2 H2 a20 a21 _ _ s2 B2=>⟨_,(),rfl,(by show 4≤10000;decide),fun l5 H5 n5=>?_⟩⟩
  have nl:¬l5=b:=fun z=>B2.ne n5.fr z.symm
  refine ⟨(),b,4,t2,rfl,B2.same n5.sm,by decide,by decide,by trivial,by trivial,fun wy t3 H3 w0 w1 _ _ s3 B3=>?_⟩
  obtain ⟨e,ee,he0,he1⟩:∃e:Int,lL [V.int 1,V.int 1,V.int 2,V.int 3] wy=some (V.int e)∧1≤e∧e≤3:=by
   obtain rfl | rfl | rfl | rfl:wy=0∨wy=1∨wy=2∨wy=3:=by trivial
   ·exact ⟨1,rfl,by decide,by decide⟩
   ·exact ⟨1,rfl,by decide,by decide⟩
   ·exact ⟨2,rfl,by decide,by decide⟩
   ·exact ⟨3,rfl,by decide,by decide⟩
  have f:Dr 4 2 (KM.low (1+r2) e):=AD (show (1+r2).natAbs<16 by trivial) (show e.natAbs<4 by trivial) (by trivial) (by trivial)
  exact ⟨l5,_,_,(),rfl,ak.of (s3.old l5 _ nl n5.at'),ee,_,(),by trivial,Sz.mono (m:=40) (by show e.natAbs<1099511627776;trivial) (by decide),fun o H6 n6=>k o _ t3 H6 (((s2.trans n5.sm.toE).trans s3).trans n6.sm.toE) n6.at' f (B3.same n6.sm) (by trivial) (by trivial)⟩
theorem xK (T:Txt K mg):aZ P w K mg base CX0 2 T.l_gain_by_.f T.l_gain_by_.d ["_law_box_here"] (Gn 3 3):=by
 have G_l_take:=#[(wa)]
 have G_l_frac:=#[(pF)]
 refine T.l_gain_by_.F.ok As (fun vs H Q E h=>?_) (fun cdv A outer s H vs Q E hr h=>?_)
 ·obtain ⟨b,t,rfl,_⟩:=h
  rfl
 ·obtain ⟨b,t,rfl,B,ht0,ht1,k⟩:=h
  refine ⟨_,#[ae 3 #[av 4 #[G_l_frac,vN,T.l_frac_,#[[#[aC 8 (@iE _) #[()] #[G_l_take,nY,T.l_take_,#[[#[0,kH],#[()]]]]],#[aC 8 (@iE _) #[()] #[G_l_take,nY,T.l_take_,#[[#[0,kH],#[()]]]]]]]]]],?_⟩
  refine ⟨(),b,6,t,rfl,B,by decide,by decide,by trivial,by trivial,fun r2 t2 H2 a20 a21 _ _ s2 B2=>⟨_,(),rfl,(),b,6,t2,rfl,B2,by decide,by decide,by trivial,by trivial,fun r3 t3 H3 a30 a31 _ _ s3 B3=>⟨_,(),rfl,?_⟩⟩⟩
  have f:Dr 3 3 (KM.low (1+r2) (1+r3)):=AD (show (1+r2).natAbs<8 by trivial) (show (1+r3).natAbs<8 by trivial) (by trivial) (by trivial)
  exact ⟨_,(),by trivial,Sz.mono (m:=40) (by show (1+r3).natAbs<1099511627776;trivial) (by decide),fun o H6 n6=>k o _ t3 H6 ((s2.trans s3).trans n6.sm.toE) n6.at' f (B3.same n6.sm) (by trivial) (by trivial)⟩
inductive JS (vs:List V) (H:Hp) (Q:VK):Prop
 | mk (a b:Addr) (p q:KM.Fra) (h0:vs=[.ref a,.ref b]) (h1:H a=some (fr p)) (h2:H b=some (fr q)) (h3:Gb 400 400 p) (h4:Gb 400 400 q) (h5:(KM.vl p≤KM.vl q→Q (.ref a) H)) (h6:(KM.vl q<KM.vl p→Q (.ref b) H))
def KD:Sp:=fun vs H Q _=>JS  vs H Q
theorem zx (T:Txt K mg):aZ P w K mg base CX0 2 T.l_lesser_.f T.l_lesser_.d ["_law_one", "_law_other"] KD:=by
 have G_l_above:=#[(CQ)]
 refine T.l_lesser_.F.ok BW (fun vs H Q E h=>?_) (fun cdv A outer s H vs Q E hr h=>?_)
 ·obtain ⟨a,b,p,q,rfl,_⟩:=h
  rfl
 ·obtain ⟨a,b,p,q,rfl,ha,hb,gp,gq,k1,k2⟩:=h
  refine ⟨_,#[ae 3 #[av 4 #[qu 8 #[aK 8 (@GA _) #[G_l_above,vJ,T.l_above_,#[[#[0,qj],#[1,ow]]]] #[()] #[(),()]] #[0,qj] #[1,ow]]]],?_⟩
  obtain ⟨z1,z2⟩:=gz gp (by decide) (by decide)
  obtain ⟨z3,z4⟩:=gz gq (by decide) (by decide)
  refine ⟨(),(),a,b,p,q,rfl,ha,hb,z1,z2,z3,z4,_,(),rfl,(),?_⟩
  have e:=gJ (p:=p) (q:=q) gp.pos gq.pos
  refine mS (fun c=>?_) fun c=>?_
  ·have c':=of_decide_eq_true c
   exact ⟨(),k1 (e.mpr (by trivial))⟩
  ·have c':¬p.1*q.2 - q.1*p.2≤0:=fun z=>c (decide_eq_true z)
   exact ⟨(),k2 (Rat.not_le.mp fun z=>c' (by have:=e.mp z;trivial))⟩
end
end K21
namespace K21
open PySem L2
set_option maxHeartbeats 8000000
def zM (E:Addr→Prop) (H:Hp):Prop:=∀a,E a→H a≠none
theorem zM.sm {E:Addr→Prop}{H H':Hp} (h:zM E H) (s:aa H H'):zM E H':=fun a e=>by
 cases q:H a with
 | none=>exact absurd q (h a e)
 | some o=>rw [s _ _ q];exact fun z=>by cases z
theorem zM.ne {E:Addr→Prop}{H:Hp} (h:zM E H) {a:Addr} (f:H a=none):¬E a:=fun e=>h a e f
def aU (C:Hp→Prop) (σ:St) (te:TE) (d:PyData):Prop:=∀(E:Addr→Prop) (H:Hp) (Q:VK),C H→zM E H→(∀v H',aa H H'→aI E H' v d→Q v H')→te σ H Q
def cZ (C:Hp→Prop) (σ:St) (ta:TA) (l:Nat) (ds:List PyData):Prop:=∀(E:Addr→Prop) (H:Hp) (Q:List V→Hp→Prop),C H→zM E H→(∀vs H',aa H H'→vs.length=l→ah E H' vs ds→Q vs H')→ta σ H Q
def xw (C:Hp→Prop):Prop:=∀H H',aa H H'→C H→C H'
theorem E3 {E:Addr→Prop}{H:Hp}{v:V}{d:PyData} (h:aI ED H v d):aI E H v d:=h.narrow fun _ _=>trivial
section
variable {C:Hp→Prop}{σ:St}{te:TE}{ta:TA}{d:PyData}{ds:List PyData}{l:Nat}{i:Nat}{v:V}
theorem aU.int (j:Int):aU C σ (tC (.int j)) (.int j):=fun E H Q c al q=>q _ H (aa.refl _) (.int _)
theorem aU.bl (b:Bool):aU C σ (tC (.bl b)) (.bool b):=fun E H Q c al q=>q _ H (aa.refl _) (.bl _)
theorem aU.str (x:Str):aU C σ (tC (.str x)) (.str x):=fun E H Q c al q=>q _ H (aa.refl _) (.str _)
theorem aU.var (e:σ[i]?=some (some v)) (h:∀H,C H→aI ED H v d):aU C σ (uo i) d:=fun E H Q c al q=>⟨_,e,q v H (aa.refl _) (E3 (h H c))⟩
theorem cZ.nil:cZ C σ u9 0 []:=fun E H Q c al q=>q [] H (aa.refl _) rfl .nil
theorem cZ.cons (st:xw C) (h:aU C σ te d) (g:cZ C σ ta l ds):cZ C σ (kX te ta) (l+1) (d :: ds):=fun E H Q c al q=>
 h E H _ c al fun v H1 s1 t1=>g E H1 _ (st _ _ s1 c) (al.sm s1) fun vs H2 s2 l2 t2=>q (v :: vs) H2 (s1.trans s2) (by rw [List.length_cons,l2]) (.cons (t1.mono s2.toE) t2)
theorem aU.tup (h:cZ C σ ta l ds) (hl:l≤10000:=by decide):aU C σ (An ta) (.tuple ds):=fun E H Q c al q=>
 h E H _ c al fun vs H1 s1 lv t=>⟨by trivial,fun p H2 m2=>q (.ref p) H2 (s1.trans m2.sm) (.tup m2.at' (t.mono m2.sm.toE))⟩
theorem aU.lst (h:cZ C σ ta l ds) (hl:l≤10000:=by decide):aU C σ (GJ ta) (.list ds):=fun E H Q c al q=>
 h E H _ c al fun vs H1 s1 lv t=>⟨by trivial,fun p H2 m2=>q (.ref p) H2 (s1.trans m2.sm) (.lst m2.at' ((al.sm s1).ne m2.fr) (t.mono m2.sm.toE))⟩
abbrev aD (n:Int) (b:Bool):PyData:=.tuple [.int n,.bool b]
theorem aU.pr (st:xw C) (n:Int) (b:Bool):aU C σ (An (kX (tC (.int n)) (kX (tC (.bl b)) u9))) (aD n b):=.tup (.cons st (.int n) (.cons st (.bl b) .nil))
theorem aU.ixl {K:PySem.W.Frag}{a:Addr}{xs:List V}{j:Int} (e:σ[i]?=some (some (.ref a))) (hj:lL xs j=some v) (h:∀H,C H→H a=some (.lst xs)∧aI ED H v d):aU C σ (EY (Dv K) (uo i) (tC (.int j))) d:=fun E H Q c al q=>
 ⟨_,e,a,xs,j,v,rfl,rfl,ak.of (h H c).1,hj,q v H (aa.refl _) (E3 (h H c).2)⟩
theorem aU.ite {te2:TE}{b:Bool} (e:σ[i]?=some (some (.bl b))) (h1:b=true→aU C σ te d) (h2:b=false→aU C σ te2 d):aU C σ (Lz (tB (uo i)) te te2) d:=fun E H Q c al q=>by
 refine ⟨_,e,b,rfl,?_⟩
 cases b with
 | true=>exact ay (h1 rfl E H Q c al q)
 | false=>exact aJ (h2 rfl E H Q c al q)
theorem cZ.one (st:xw C) (h:aU C σ te d):cZ C σ (kX te u9) 1 [d]:=.cons st h .nil
end
theorem BB {E:Addr→Prop}{H:Hp}{v:V}{t:ap} (h:aI E H v (jx t)):aI ED H v (jx t):=by
 obtain ⟨a,om,og,op,rfl,ha,h1,h2,h3⟩:=gQ h
 exact .tup ha (.cons (.str _) (.cons (.str _) (.cons (cB h1) (.cons (cB h2) (.cons (cB h3) .nil)))))
abbrev cR (ds:List PyData):PyData:=.tuple [.str (Str.ofString "way"),.list ds]
abbrev eS (rs ds:List PyData):PyData:=.tuple [.str (Str.ofString "ring"),.list rs,.list ds]
theorem xM:∀(ps:List (Int×Bool)),(∀p∈ps,Sz 1900 p.1)→kS (ps.map fun p=>aD p.1 p.2) (3*ps.length) 1
 | [],_=>.nil
 | p :: ps,h=>by
  have:=kS.cons (m:=3) (Wt.tuple (.cons (.int (h p (List.mem_cons_self ..)) (k:=0)) (.cons (.bl p.2) .nil))) (xM ps fun q hq=>h q (List.mem_cons_of_mem _ hq))
  rw [List.length_cons,show 3*(ps.length+1)=3+3*ps.length by trivial]
  exact this
end K21
namespace K21
open PySem L2
set_option maxHeartbeats 8000000
def fw (i:Nat) (t:ap) (p:KM.Fra):SD:=⟨i,false,t.bg,t.en,aX t.most p,t.gain⟩
def bw (i:Nat) (t:ap) (p:KM.Fra):SD:=⟨i,true,t.en,t.bg,KM.lTim p t.gain,aH (1,1) t.gain⟩
theorem cI {i:Nat}{t:ap} (h:1≤t.most.1):bx i t (0,1)=[fw i t (0,1)]:=by
 unfold bx
 rw [if_pos (show 0*t.most.2<t.most.1*1 by trivial),if_neg (show ¬(0:Int)<0 by decide)]
 rfl
theorem nI {i:Nat}{t:ap} (h:1≤t.most.1):bx i t t.most=[bw i t t.most]:=by
 unfold bx
 rw [if_neg (show ¬t.most.1*t.most.2<t.most.1*t.most.2 by trivial),if_pos (show 0<t.most.1 by trivial)]
 rfl
theorem BZ {i:Nat}{t:ap} (h:t.most=(0,1)):bx i t (0,1)=[]:=by
 unfold bx
 rw [h,if_neg (show ¬(0:Int)*1<0*1 by decide),if_neg (show ¬(0:Int)<0 by decide)]
 rfl
theorem ph {i:Nat}{t:ap}{p:KM.Fra}{s:SD} (hp:1≤p.2) (hm:1≤t.most.2) (h:s∈bx i t p):(s=fw i t p∧KM.vl p<KM.vl t.most)∨(s=bw i t p∧0<p.1):=by
 unfold bx at h
 rcases List.mem_append.mp h with h | h
 ·by_cases c:p.1*t.most.2<t.most.1*p.2
  ·rw [if_pos c,List.mem_singleton] at h
   exact .inl ⟨h,(gE hp hm).mpr c⟩
  ·rw [if_neg c] at h;cases h
 ·by_cases c:0<p.1
  ·rw [if_pos c,List.mem_singleton] at h
   exact .inr ⟨h,c⟩
  ·rw [if_neg c] at h;cases h
theorem sN (t0 t1 t2:ap) (p0 p1 p2:KM.Fra):aj [t0,t1,t2] [p0,p1,p2] 3=bx 0 t0 p0++(bx 1 t1 p1++(bx 2 t2 p2++[])):=rfl
theorem EL (t0 t1 t2 t3 t4:ap) (p0 p1 p2 p3 p4:KM.Fra):aj [t0,t1,t2,t3,t4] [p0,p1,p2,p3,p4] 5=bx 0 t0 p0++(bx 1 t1 p1++(bx 2 t2 p2++(bx 3 t3 p3++(bx 4 t4 p4++[])))):=rfl
theorem yW {ts:List ap}{ps:List KM.Fra}{n:Nat}{cs:List SD} (sub:∀c∈cs,c∈aj ts ps n) (ch:cM cs=true):k8 (aj ts ps n) (.list (cs.map pD))=some cs:=by
 show (hJ _ (cs.map pD)).filter cM=_
 rw [Bb (vf ts ps n).1 sub,Option.filter_some_pos ch]
theorem CA {ts:List ap}{ps:List KM.Fra}{n:Nat}{ds:List PyData}{d:PyData} (h:fH (aj ts ps n) d=none) (hd:d∈ds):k8 (aj ts ps n) (.list ds)=none:=by
 show (hJ _ ds).filter cM=_
 have:hJ (aj ts ps n) ds=none:=by
  have e:=qb (ss:=aj ts ps n) ds
  rw [show (ds.all fun d=>(fH (aj ts ps n) d).isSome)=false by rw [List.all_eq_false];exact ⟨d,hd,by rw [h];exact Bool.false_ne_true⟩] at e
  exact Option.isNone_iff_eq_none.mp (Option.isSome_eq_false_iff.mp e)
 rw [this];rfl
theorem xm {ls:List (List Nat)}{ts:List ap}{ps:List KM.Fra}{es:List (List Nat)} (tc:∀t∈ts,kG ls t) (hp:∀p∈ps,KM.Rd p) (h:∀l∈ls,l∉es→rM ts (sW ps) l ts.length=0):jU ls ts ps es=true:=by
 unfold jU
 rw [List.all_eq_true]
 intro l hl
 obtain ⟨h1,h2⟩:=List.mem_filter.mp hl
 have h3:l∉es:=fun z=>by rw [List.contains_iff_mem.mpr z] at h2;cases h2
 obtain ⟨a,b⟩:=Hu tc hp l
 exact decide_eq_true (a.eq KM.Rd.zero (by rw [b,h l h1 h3,KM.vl_zero]))
theorem yV {ts:List ap}{ps:List KM.Fra} (h:∀(i:Nat) p t,ps[i]?=some p→ts[i]?=some t→KM.Rd p∧1≤t.most.2∧0≤KM.vl p∧KM.vl p≤KM.vl t.most):kh ts ps=true:=by
 unfold kh
 rw [List.all_eq_true]
 intro b hb
 obtain ⟨i,e⟩:=List.getElem?_of_mem hb
 obtain ⟨p,t,e1,e2,rfl⟩:=List.getElem?_zipWith_eq_some.mp e
 obtain ⟨a,b,c,d⟩:=h i p t e1 e2
 show jP _ _=true
 rw [Do a b,decide_eq_true c,decide_eq_true d];all_goals rfl
theorem IZ {a b:Nat}{ps:List KM.Fra} (h:∀p∈ps,Gb a b p∧Int.gcd p.1 p.2=1∧0≤p.1) (l:b*ps.length+1+(a+6)≤3600):∃D,GF D (2 ^ a) (b*ps.length+1) (a+6) ps:=by
 obtain ⟨D,d0,dm,dd⟩:=tJ (fun p:KM.Fra=>p.2) b ps fun p hp=>⟨(h p hp).1.pos,(h p hp).1.d⟩
 refine ⟨D,d0,dm,?_,l,fun p hp=>(Cb.of (h p hp).1 (h p hp).2.1).mono (dd p hp) (Nat.le_refl _),fun p hp=>?_⟩
 ·rw [Nat.pow_add]
  have:=Nat.pow_pos (n:=a) (show 0<2 by decide)
  trivial
 ·obtain ⟨g,_,n0⟩:=h p hp
  have:=(gJ (p:=(0,1)) (q:=p) (by decide) g.pos).mpr (by show 0*p.2≤p.1*1;trivial)
  rwa [KM.vl_zero] at this
theorem xT {H:Hp}{v:V}{sa:Addr}{ls:List (List Nat)}{ts:List ap}{xs:List V}{ps:List KM.Fra}{a b:Nat} (iN:aI ED H v (iV ls ts)) (tc:∀t∈ts,kG ls t) (cg:∀t∈ts,Int.gcd t.gain.1 t.gain.2=1) (t8:ts.length≤8) (l8:ls.length≤8) (hs:H sa=some (.lst xs)) (ix:ah ED H xs (ps.map aN)) (lp:ps.length=ts.length) (gp:∀p∈ps,Gb a b p∧Int.gcd p.1 p.2=1∧0≤p.1) (ha:a≤200) (hb:b≤100):bI fun D G=>Bf H v sa ls ts xs ps D G (2 ^ a) (b*ps.length+1) (a+6) (6*ts.length+1):=by
 have m8:b*ps.length≤b*8:=Nat.mul_le_mul_left _ (by trivial)
 obtain ⟨D,c⟩:=IZ gp (by trivial)
 obtain ⟨G,g0,gm,gd⟩:=tJ (fun t:ap=>t.gain.2) 6 ts fun t ht=>⟨(tc t ht).fg.pos,(tc t ht).fg.d⟩
 exact ⟨D,G,iN,tc,by trivial,by trivial,hs,ix,lp,c,g0,gm,gd,by trivial,cg⟩
theorem Bw {E:Addr→Prop}{H:Hp}{v:V}{cs:List SD} (h:aI E H v (cR (cs.map pD))):∃T,v=.ref T∧xD H T (.way cs):=by
 cases h with
 | @tup T xs _ hT r=>
  cases r with
  | @cons u1 _ _ _ h1 r=>
  cases r with
  | @cons u2 _ _ _ h2 r=>
  cases r
  cases h1
  cases h2 with
  | @lst L ys _ hL _ q=>exact ⟨T,rfl,L,ys,hT,hL,qq q⟩
theorem GS {E:Addr→Prop}{H:Hp}{v:V}{rs cs:List SD} (h:aI E H v (eS (rs.map pD) (cs.map pD))):∃T,v=.ref T∧xD H T (.ring rs cs):=by
 cases h with
 | @tup T xs _ hT r=>
  cases r with
  | @cons u1 _ _ _ h1 r=>
  cases r with
  | @cons u2 _ _ _ h2 r=>
  cases r with
  | @cons u3 _ _ _ h3 r=>
  cases r
  cases h1
  cases h2 with
  | @lst R us _ hR _ q1=>
  cases h3 with
  | @lst L ys _ hL _ q2=>exact ⟨T,rfl,R,L,us,ys,hT,hR,qq q1,hL,qq q2⟩
structure Fr (ls:List (List Nat)) (t:ap):Prop where
 b:t.bg∈ls
 e:t.en∈ls
 ne:t.bg≠t.en
 m:Dr 4 2 t.most
 g:Gb 6 6 t.gain
 gc:Int.gcd t.gain.1 t.gain.2=1
 g1:1≤t.gain.1
 p:t.price=(0,1)
theorem Fr.gd {ls:List (List Nat)}{t:ap} (h:Fr ls t):kG ls t:=⟨h.b,h.e,h.ne,h.m.g.mono (by decide) (by decide),h.g,h.g1,by rw [h.p];exact ⟨show (0:Int).natAbs<2 ^ 24 by decide,show (1:Int).natAbs<2 ^ 24 by decide,by decide⟩,by have:=h.m.p1;trivial,h.m.c⟩
theorem IV (t0 t1 t2:ap) (σ:Nat→Rat) (l:List Nat):rM [t0,t1,t2] σ l 3=σ 0*kW [t0] l 0+σ 1*kW [t1] l 0+σ 2*kW [t2] l 0:=by
 show ((0+σ 0*kW [t0] l 0)+σ 1*kW [t1] l 0)+σ 2*kW [t2] l 0=_
 grind
theorem yU {t:ap}{l:List Nat}:kW [t] l 0=(if t.en=l then KM.vl t.gain else 0) - (if t.bg=l then 1 else 0):=rfl
end K21
namespace K21
open PySem L2
set_option maxHeartbeats 8000000
section
variable {a b c:List Nat}{m0 m1 m2 g0 g1 g2:KM.Fra}
def b6 (a b c:List Nat) (m0 m1 m2 g0 g1 g2:KM.Fra):List ap:=[⟨a,c,m0,g0,(0,1)⟩,⟨a,b,m1,g1,(0,1)⟩,⟨b,c,m2,g2,(0,1)⟩]
structure cY (a b c:List Nat) (m0 m1 m2 g0 g1 g2:KM.Fra):Prop where
 ab:a≠b
 ac:a≠c
 bc:b≠c
 m0:Dr 4 2 m0
 m1:Dr 4 2 m1
 m2:Dr 4 2 m2
 g0:Dr 3 3 g0
 g1:Dr 3 3 g1
 g2:Dr 3 3 g2
theorem cY.td (w:cY a b c m0 m1 m2 g0 g1 g2):∀t∈b6 a b c m0 m1 m2 g0 g1 g2,Fr [a,b,c] t:=fun t ht=>by
 have k:∀g,Dr 3 3 g→Gb 6 6 g:=fun g h=>h.g.mono (by decide) (by decide)
 rcases List.mem_cons.mp ht with rfl | ht
 ·exact ⟨by simp,by simp,w.ac,w.m0,k _ w.g0,w.g0.c,w.g0.p1,rfl⟩
 rcases List.mem_cons.mp ht with rfl | ht
 ·exact ⟨by simp,by simp,w.ab,w.m1,k _ w.g1,w.g1.c,w.g1.p1,rfl⟩
 rcases List.mem_cons.mp ht with rfl | ht
 ·exact ⟨by simp,by simp,w.bc,w.m2,k _ w.g2,w.g2.c,w.g2.p1,rfl⟩
 cases ht
abbrev z3:List KM.Fra:=[(0,1),(0,1),(0,1)]
theorem cY.s0 (w:cY a b c m0 m1 m2 g0 g1 g2):aj (b6 a b c m0 m1 m2 g0 g1 g2) z3 3=[fw 0 ⟨a,c,m0,g0,(0,1)⟩ (0,1),fw 1 ⟨a,b,m1,g1,(0,1)⟩ (0,1),fw 2 ⟨b,c,m2,g2,(0,1)⟩ (0,1)]:=by
 unfold b6
 rw [sN,cI w.m0.p1,cI w.m1.p1,cI w.m2.p1]
 rfl
theorem cY.keep (w:cY a b c m0 m1 m2 g0 g1 g2) {p0 p1 p2:KM.Fra} (r:∀p∈[p0,p1,p2],KM.Rd p) (h:KM.vl p2=KM.vl p1*KM.vl g1):jU [a,b,c] (b6 a b c m0 m1 m2 g0 g1 g2) [p0,p1,p2] [a,c]=true:=by
 refine xm (fun t ht=>(w.td t ht).gd) r fun l hl hn=>?_
 have hl:l=b:=by
  rcases List.mem_cons.mp hl with rfl | hl
  ·exact absurd (by simp) hn
  rcases List.mem_cons.mp hl with rfl | hl
  ·rfl
  rcases List.mem_cons.mp hl with rfl | hl
  ·exact absurd (by simp) hn
  cases hl
 subst hl
 show rM _ _ _ 3=0
 unfold b6
 rw [IV,yU,yU,yU,if_neg w.bc.symm,if_neg w.ab,if_pos rfl,show (if c=l then KM.vl g2 else 0)=0 from if_neg w.bc.symm,show (if l=l then (1:Rat) else 0)=1 from if_pos rfl]
 show sW [p0,p1,p2] 0*_+sW [p0,p1,p2] 1*_+sW [p0,p1,p2] 2*_=0
 rw [show sW [p0,p1,p2] 1=KM.vl p1 from rfl,show sW [p0,p1,p2] 2=KM.vl p2 from rfl,h]
 grind
theorem cY.most (w:cY a b c m0 m1 m2 g0 g1 g2) {p0 p1 p2:KM.Fra} (r:∀p∈[p0,p1,p2],KM.Rd p∧0≤KM.vl p) (h0:KM.vl p0≤KM.vl m0) (h1:KM.vl p1≤KM.vl m1) (h2:KM.vl p2≤KM.vl m2):kh (b6 a b c m0 m1 m2 g0 g1 g2) [p0,p1,p2]=true:=by
 refine yV fun i p t ep et=>?_
 have hp:=r p (List.mem_of_getElem? ep)
 unfold b6 at et
 rcases i with _ | _ | _ | i
 ·cases ep;cases et;exact ⟨hp.1,w.m0.g.pos,hp.2,h0⟩
 ·cases ep;cases et;exact ⟨hp.1,w.m1.g.pos,hp.2,h1⟩
 ·cases ep;cases et;exact ⟨hp.1,w.m2.g.pos,hp.2,h2⟩
 ·simp at ep
theorem MK:KM.Rd (0,1)∧0≤KM.vl (0,1):=⟨KM.Rd.zero,by rw [KM.vl_zero];exact Rat.le_refl⟩
theorem Aq:∀p∈z3,KM.Rd p∧0≤KM.vl p:=fun p hp=>by
 have:p=(0,1):=by simpa using hp
 rw [this];exact MK
theorem cY.shown0 (w:cY a b c m0 m1 m2 g0 g1 g2) (d:PyData):(kh (b6 a b c m0 m1 m2 g0 g1 g2) z3 && (jU [a,b,c] (b6 a b c m0 m1 m2 g0 g1 g2) z3 [a,c] && fZ (aj (b6 a b c m0 m1 m2 g0 g1 g2) z3 3) d a c))=fZ (aj (b6 a b c m0 m1 m2 g0 g1 g2) z3 3) d a c:=by
 have h0:∀{m:KM.Fra},Dr 4 2 m→KM.vl (0,1)≤KM.vl m:=fun h=>by rw [KM.vl_zero];exact Rat.le_of_lt h.v0
 rw [w.most Aq (h0 w.m0) (h0 w.m1) (h0 w.m2),w.keep (fun p hp=>(Aq p hp).1) (by rw [KM.vl_zero];grind),Bool.true_and,Bool.true_and]
theorem se (ds:List PyData) (ss:List SD) (f e:List Nat):fZ ss (cR ds) f e=cP ss (.list ds) f e:=by
 show (PyData.eqv (.str (Str.ofString "way")) (.str (Str.ofString "way")) && cP ss (.list ds) f e)=_
 rw [show PyData.eqv (.str (Str.ofString "way")) (.str (Str.ofString "way"))=true by nofun,Bool.true_and]
theorem si (rs ds:List PyData) (ss:List SD) (f e:List Nat):fZ ss (eS rs ds) f e=rT ss (.list rs) (.list ds) e:=by
 show (PyData.eqv (.str (Str.ofString "ring")) (.str (Str.ofString "ring")) && rT ss (.list rs) (.list ds) e)=_
 rw [show PyData.eqv (.str (Str.ofString "ring")) (.str (Str.ofString "ring"))=true by nofun,Bool.true_and]
theorem nP {ts:List ap}{ps:List KM.Fra}{n:Nat}{cs:List SD}{f e:List Nat} (sub:∀c∈cs,c∈aj ts ps n) (ch:cM cs=true):cP (aj ts ps n) (.list (cs.map pD)) f e=c9 f e cs:=by
 unfold cP
 rw [yW sub ch]
theorem cY.short (w:cY a b c m0 m1 m2 g0 g1 g2):fZ (aj (b6 a b c m0 m1 m2 g0 g1 g2) z3 3) (cR [aD 0 false]) a c=true:=by
 rw [se]
 have:=nP (ts:=b6 a b c m0 m1 m2 g0 g1 g2) (ps:=z3) (n:=3) (cs:=[fw 0 ⟨a,c,m0,g0,(0,1)⟩ (0,1)]) (f:=a) (e:=c) (by rw [w.s0];simp) rfl
 refine this.trans ?_
 have:=w.ac
 simp [c9,gK,dW,fw,this]
theorem cY.long (w:cY a b c m0 m1 m2 g0 g1 g2):fZ (aj (b6 a b c m0 m1 m2 g0 g1 g2) z3 3) (cR [aD 1 false,aD 2 false]) a c=true:=by
 rw [se]
 have:=nP (ts:=b6 a b c m0 m1 m2 g0 g1 g2) (ps:=z3) (n:=3) (cs:=[fw 1 ⟨a,b,m1,g1,(0,1)⟩ (0,1),fw 2 ⟨b,c,m2,g2,(0,1)⟩ (0,1)]) (f:=a) (e:=c) (by rw [w.s0];simp) (by simp [cM,fw])
 refine this.trans ?_
 simp [c9,gK,dW,fw,w.ac,w.ab,w.bc]
theorem cY.one (w:cY a b c m0 m1 m2 g0 g1 g2):fZ (aj (b6 a b c m0 m1 m2 g0 g1 g2) z3 3) (cR [aD 2 false]) a c=false:=by
 rw [se]
 have:=nP (ts:=b6 a b c m0 m1 m2 g0 g1 g2) (ps:=z3) (n:=3) (cs:=[fw 2 ⟨b,c,m2,g2,(0,1)⟩ (0,1)]) (f:=a) (e:=c) (by rw [w.s0];simp) rfl
 refine this.trans ?_
 have:=w.ab.symm
 simp [c9,gK,dW,fw,this]
theorem cY.told (w:cY a b c m0 m1 m2 g0 g1 g2) {pl:List (List Nat)}{cr:List Nat→List SD} (h:Cs c (aj (b6 a b c m0 m1 m2 g0 g1 g2) z3 3) pl cr) (ha:a∈pl):(cr a).map pD=[aD 0 false]∨(cr a).map pD=[aD 1 false,aD 2 false]:=by
 rw [w.s0] at h
 obtain ⟨s,hs,es,hp,e⟩:=h.st a ha w.ac
 have hs':s=fw 0 ⟨a,c,m0,g0,(0,1)⟩ (0,1)∨s=fw 1 ⟨a,b,m1,g1,(0,1)⟩ (0,1)∨s=fw 2 ⟨b,c,m2,g2,(0,1)⟩ (0,1):=by simpa using hs
 rcases hs' with rfl | rfl | rfl
 ·left
  rw [e,show cr (fw 0 ⟨a,c,m0,g0,(0,1)⟩ (0,1)).en=[] from h.ce]
  rfl
 ·right
  obtain ⟨s,hs,es',hp',e'⟩:=h.st b hp w.bc
  have hs':s=fw 0 ⟨a,c,m0,g0,(0,1)⟩ (0,1)∨s=fw 1 ⟨a,b,m1,g1,(0,1)⟩ (0,1)∨s=fw 2 ⟨b,c,m2,g2,(0,1)⟩ (0,1):=by simpa using hs
  rcases hs' with rfl | rfl | rfl
  ·exact absurd es' w.ab
  ·exact absurd es' w.ab
  ·rw [e,show cr (fw 1 ⟨a,b,m1,g1,(0,1)⟩ (0,1)).en=cr b from rfl,e',show cr (fw 2 ⟨b,c,m2,g2,(0,1)⟩ (0,1)).en=[] from h.ce]
   rfl
 ·exact absurd es w.ab.symm
theorem cY.must (w:cY a b c m0 m1 m2 g0 g1 g2) {pl:List (List Nat)} (h:∀s∈aj (b6 a b c m0 m1 m2 g0 g1 g2) z3 3,s.en∈pl→s.st∈pl) (hc:c∈pl):a∈pl:=by
 rw [w.s0] at h
 exact h (fw 0 ⟨a,c,m0,g0,(0,1)⟩ (0,1)) (by simp) hc
end
end K21
namespace K21
open PySem L2
set_option maxHeartbeats 8000000
theorem yK {p q:KM.Fra} (hp:KM.Rd p) (hq:KM.Rd q):KM.Rd (aX p q)∧KM.vl (aX p q)=KM.vl p - KM.vl q:=⟨hp.tak hq,KM.vl_tak hp.nz hq.nz⟩
theorem nt {p q:KM.Fra} (hp:1≤p.2) (hq:1≤q.2) (q1:1≤q.1):KM.Rd (aH p q)∧KM.vl (aH p q)*KM.vl q=KM.vl p:=by
 have n1:p.2*q.1≠0:=Int.mul_ne_zero (by trivial) (by trivial)
 refine ⟨KM.Rd.low n1,?_⟩
 have e:KM.vl (aH p q)=Rat.divInt (p.1*q.2) (p.2*q.1):=KM.vl_low n1
 rw [e]
 show Rat.divInt _ _*Rat.divInt q.1 q.2=Rat.divInt p.1 p.2
 rw [Rat.divInt_mul_divInt]
 refine (Rat.divInt_eq_divInt_iff (Int.mul_ne_zero n1 (by trivial)) (by trivial)).mpr ?_
 grind
theorem lI {p q:KM.Fra} (hp:KM.Rd p) (hq:KM.Rd q):KM.Rd (KM.lTim p q)∧KM.vl (KM.lTim p q)=KM.vl p*KM.vl q:=⟨hp.tim hq,KM.vl_tim hp.nz hq.nz⟩
theorem Hr {p q:KM.Fra} (hp:KM.Rd p) (hq:KM.Rd q):KM.Rd (KM.ladd p q)∧KM.vl (KM.ladd p q)=KM.vl p+KM.vl q:=⟨hp.add hq,KM.vl_add hp.nz hq.nz⟩
theorem wH:KM.Rd (1,1):=⟨by decide,by decide⟩
theorem zi:KM.vl (1,1)=1:=by nofun
theorem ki {p:KM.Fra} (hp:KM.Rd p):aH p (1,1)=p:=by
 obtain ⟨a,b⟩:=nt (p:=p) (q:=(1,1)) hp.1 (by decide) (by decide)
 refine a.eq hp ?_
 rw [zi] at b
 grind
theorem sO {p:KM.Fra} (hp:KM.Rd p):KM.lTim p (1,1)=p:=by
 obtain ⟨a,b⟩:=lI hp wH
 exact a.eq hp (by rw [b,zi];grind)
theorem pK {p:KM.Fra} (hp:KM.Rd p):KM.lTim (1,1) p=p:=by
 obtain ⟨a,b⟩:=lI wH hp
 exact a.eq hp (by rw [b,zi];grind)
theorem qm {p:KM.Fra} (hp:KM.Rd p):KM.ladd (0,1) p=p:=by
 obtain ⟨a,b⟩:=Hr KM.Rd.zero hp
 exact a.eq hp (by rw [b,KM.vl_zero];grind)
theorem mh {p:KM.Fra} (hp:KM.Rd p):aX p (0,1)=p:=by
 obtain ⟨a,b⟩:=yK hp KM.Rd.zero
 exact a.eq hp (by rw [b,KM.vl_zero];grind)
theorem F3 {p:KM.Fra} (hp:KM.Rd p):aX p p=(0,1):=by
 obtain ⟨a,b⟩:=yK hp hp
 exact a.eq KM.Rd.zero (by rw [b,KM.vl_zero];grind)
section
variable {a b c:List Nat}{m0 m1 m2 g0 g1 g2:KM.Fra}
abbrev f0 (a c:List Nat) (m0 g0:KM.Fra):SD:=fw 0 ⟨a,c,m0,g0,(0,1)⟩ (0,1)
abbrev f1 (a b:List Nat) (m1 g1:KM.Fra):SD:=fw 1 ⟨a,b,m1,g1,(0,1)⟩ (0,1)
abbrev f2 (b c:List Nat) (m2 g2:KM.Fra):SD:=fw 2 ⟨b,c,m2,g2,(0,1)⟩ (0,1)
theorem cY.bet1 (w:cY a b c m0 m1 m2 g0 g1 g2) {q:KM.Fra} (h:Co (BT.way [f0 a c m0 g0]).parts q):fu (b6 a b c m0 m1 m2 g0 g1 g2) q z3 (BT.way [f0 a c m0 g0]).parts=[m0,(0,1),(0,1)]:=by
 obtain ⟨⟨x,hx,rfl⟩,_⟩:=h
 obtain rfl:x=(f0 a c m0 g0,(1,1)):=List.mem_singleton.mp hx
 show [KM.ladd (0,1) (KM.lTim (aH (aX m0 (0,1)) (1,1)) (1,1)),(0,1),(0,1)]=_
 rw [mh w.m0.rd,ki w.m0.rd,sO w.m0.rd,qm w.m0.rd]
structure uy (m1 m2 g1 x:KM.Fra):Prop where
 rd:KM.Rd x
 le1:KM.vl x≤KM.vl m1
 le2:KM.vl x*KM.vl g1≤KM.vl m2
 eq:KM.vl x=KM.vl m1∨KM.vl x*KM.vl g1=KM.vl m2
theorem FU {a b c:Rat} (h:a≤b) (k:0≤c):a*c≤b*c:=Rat.mul_le_mul_of_nonneg_right h k
theorem uy.one {m1 m2 g1 x y:KM.Fra} (g:0<KM.vl g1) (h:uy m1 m2 g1 x) (k:uy m1 m2 g1 y):x=y:=by
 refine h.rd.eq k.rd ?_
 have gi:∀{a b:Rat},a*KM.vl g1≤b*KM.vl g1→a≤b:=fun {a b} z=>Rat.not_lt.mp fun z'=>Rat.not_lt.mpr z (Rat.mul_lt_mul_of_pos_right z' g)
 rcases h.eq with e1 | e1 <;> rcases k.eq with e2 | e2
 ·rw [e1,e2]
 ·have h1:KM.vl y≤KM.vl x:=by rw [e1];exact k.le1
  have h2:KM.vl x≤KM.vl y:=gi (by rw [e2];exact h.le2)
  exact Rat.le_antisymm h2 h1
 ·have h1:KM.vl x≤KM.vl y:=by rw [e2];exact h.le1
  have h2:KM.vl y≤KM.vl x:=gi (by rw [e1];exact k.le2)
  exact Rat.le_antisymm h1 h2
 ·exact Rat.le_antisymm (gi (by rw [e1,e2];exact Rat.le_refl)) (gi (by rw [e1,e2];exact Rat.le_refl))
theorem cY.beg (w:cY a b c m0 m1 m2 g0 g1 g2) {q:KM.Fra} (h:Co (BT.way [f1 a b m1 g1,f2 b c m2 g2]).parts q):uy m1 m2 g1 q:=by
 obtain ⟨⟨x,hx,e⟩,al⟩:=h
 have p1:(BT.way [f1 a b m1 g1,f2 b c m2 g2]).parts=[(f1 a b m1 g1,(1,1)),(f2 b c m2 g2,KM.lTim (1,1) g1)]:=rfl
 rw [p1] at hx al
 have a1:=al _ (List.mem_cons_self ..)
 have a2:=al (f2 b c m2 g2,KM.lTim (1,1) g1) (by simp)
 have v1:aH (f1 a b m1 g1).room (1,1)=m1:=by
  show aH (aX m1 (0,1)) (1,1)=_
  rw [mh w.m1.rd,ki w.m1.rd]
 have v2:aH (f2 b c m2 g2).room (KM.lTim (1,1) g1)=aH m2 g1:=by
  show aH (aX m2 (0,1)) _=_
  rw [mh w.m2.rd,pK w.g1.rd]
 obtain ⟨r2,e2⟩:=nt (p:=m2) (q:=g1) w.m2.g.pos w.g1.g.pos w.g1.p1
 have g0:=w.g1.v0
 have a1:KM.vl q≤KM.vl (aH (f1 a b m1 g1).room (1,1)):=a1
 have a2:KM.vl q≤KM.vl (aH (f2 b c m2 g2).room (KM.lTim (1,1) g1)):=a2
 rw [v1] at a1
 rw [v2] at a2
 have a3:KM.vl q*KM.vl g1≤KM.vl m2:=by rw [←e2];exact FU a2 (Rat.le_of_lt g0)
 have hx':x=(f1 a b m1 g1,(1,1))∨x=(f2 b c m2 g2,KM.lTim (1,1) g1):=by simpa using hx
 rcases hx' with rfl | rfl
 ·have e:q=aH (f1 a b m1 g1).room (1,1):=e
  rw [v1] at e
  exact ⟨e▸w.m1.rd,a1,a3,.inl (by rw [e])⟩
 ·have e:q=aH (f2 b c m2 g2).room (KM.lTim (1,1) g1):=e
  rw [v2] at e
  exact ⟨e▸r2,a1,a3,.inr (by rw [e];exact e2)⟩
theorem cY.bet2 (w:cY a b c m0 m1 m2 g0 g1 g2) {q p0:KM.Fra} (rq:KM.Rd q):fu (b6 a b c m0 m1 m2 g0 g1 g2) q [p0,(0,1),(0,1)] (BT.way [f1 a b m1 g1,f2 b c m2 g2]).parts=[p0,q,KM.lTim q g1]:=by
 show [p0,KM.ladd (0,1) (KM.lTim q (1,1)),KM.ladd (0,1) (KM.lTim q (KM.lTim (1,1) g1))]=_
 rw [sO rq,qm rq,pK w.g1.rd,qm (rq.tim w.g1.rd)]
theorem cY.s2 (w:cY a b c m0 m1 m2 g0 g1 g2) {x:KM.Fra} (h:uy m1 m2 g1 x) {s:SD} (hs:s∈aj (b6 a b c m0 m1 m2 g0 g1 g2) [m0,x,KM.lTim x g1] 3):(s.n=0∧s.bk=true∧s.st=c∧s.en=a)∨(s.st=a∧s.en=b∧KM.vl x<KM.vl m1)∨(s.st=b∧s.en=a)∨(s.st=b∧s.en=c∧s.gain=g2∧KM.vl x*KM.vl g1<KM.vl m2)∨(s.st=c∧s.en=b∧s.gain=aH (1,1) g2):=by
 unfold b6 at hs
 obtain ⟨ry,vy⟩:=lI h.rd w.g1.rd
 rw [sN,nI w.m0.p1] at hs
 rcases List.mem_append.mp hs with hs | hs
 ·rw [List.mem_singleton] at hs
  rw [hs]
  exact .inl ⟨rfl,rfl,rfl,rfl⟩
 rcases List.mem_append.mp hs with hs | hs
 ·rcases ph h.rd.1 w.m1.g.pos hs with ⟨rfl,z⟩ | ⟨rfl,_⟩
  ·exact .inr (.inl ⟨rfl,rfl,z⟩)
  ·exact .inr (.inr (.inl ⟨rfl,rfl⟩))
 rcases List.mem_append.mp hs with hs | hs
 ·rcases ph ry.1 w.m2.g.pos hs with ⟨rfl,z⟩ | ⟨rfl,_⟩
  ·exact .inr (.inr (.inr (.inl ⟨rfl,rfl,rfl,by rw [←vy];exact z⟩)))
  ·exact .inr (.inr (.inr (.inr ⟨rfl,rfl,rfl⟩)))
 ·cases hs
theorem cY.noway (w:cY a b c m0 m1 m2 g0 g1 g2) {x:KM.Fra} (h:uy m1 m2 g1 x) {pl:List (List Nat)}{cr:List Nat→List SD} (cs:Cs c (aj (b6 a b c m0 m1 m2 g0 g1 g2) [m0,x,KM.lTim x g1] 3) pl cr):a∉pl:=fun ha=>by
 have ca:=w.ac
 obtain ⟨s,hs,es,hp,e⟩:=cs.st a ha w.ac
 rcases w.s2 h hs with ⟨_,_,z,_⟩ | ⟨_,z,z1⟩ | ⟨z,_⟩ | ⟨z,_⟩ | ⟨z,_⟩
 ·exact w.ac (es.symm.trans z)
 ·rw [z] at hp e
  obtain ⟨s',hs',es',hp',e'⟩:=cs.st b hp w.bc
  rcases w.s2 h hs' with ⟨_,_,y,_⟩ | ⟨y,_⟩ | ⟨_,y⟩ | ⟨_,_,_,y⟩ | ⟨y,_⟩
  ·exact w.bc (es'.symm.trans y)
  ·exact w.ab.symm (es'.symm.trans y)
  ·rw [y] at e'
   have h1:=congrArg List.length e
   have h2:=congrArg List.length e'
   rw [List.length_cons] at h1 h2
   trivial
  ·rcases h.eq with q | q
   ·rw [q] at z1;exact absurd z1 (Rat.not_lt.mpr Rat.le_refl)
   ·rw [q] at y;exact absurd y (Rat.not_lt.mpr Rat.le_refl)
  ·exact w.bc (es'.symm.trans y)
 ·exact w.ab (es.symm.trans z)
 ·exact w.ab (es.symm.trans z)
 ·exact w.ac (es.symm.trans z)
end
end K21
namespace K21
open PySem L2
set_option maxHeartbeats 8000000
section
variable {a b c:List Nat}{m0 m1 m2 g0 g1 g2:KM.Fra}
theorem cY.s2n (w:cY a b c m0 m1 m2 g0 g1 g2) {x:KM.Fra} (h:uy m1 m2 g1 x) {s:SD} (hs:s∈aj (b6 a b c m0 m1 m2 g0 g1 g2) [m0,x,KM.lTim x g1] 3) (h0:s.n=0):s.bk=true:=by
 unfold b6 at hs
 obtain ⟨ry,vy⟩:=lI h.rd w.g1.rd
 rw [sN,nI w.m0.p1] at hs
 rcases List.mem_append.mp hs with hs | hs
 ·rw [List.mem_singleton] at hs
  rw [hs];rfl
 rcases List.mem_append.mp hs with hs | hs
 ·rcases ph h.rd.1 w.m1.g.pos hs with ⟨rfl,z⟩ | ⟨rfl,_⟩ <;> cases h0
 rcases List.mem_append.mp hs with hs | hs
 ·rcases ph ry.1 w.m2.g.pos hs with ⟨rfl,z⟩ | ⟨rfl,_⟩ <;> cases h0
 ·cases hs
theorem CC {ss:List SD}{n:Nat}{b:Bool} (h:∀s∈ss,s.n=n→s.bk≠b):fH ss (aD n b)=none:=by
 show lX ss ((n:Int),b)=none
 cases q:lX ss ((n:Int),b) with
 | none=>rfl
 | some s=>
  obtain ⟨m,e⟩:=nF q
  have h1:(s.n:Int)=n:=congrArg Prod.fst e
  exact absurd (congrArg Prod.snd e) (h s m (by trivial))
theorem zN {ts:List ap}{ps:List KM.Fra}{n:Nat}{ds:List PyData}{d:PyData}{f e:List Nat} (h:fH (aj ts ps n) d=none) (hd:d∈ds):cP (aj ts ps n) (.list ds) f e=false:=by
 unfold cP
 rw [CA h hd]
theorem cY.gone (w:cY a b c m0 m1 m2 g0 g1 g2) {x:KM.Fra} (h:uy m1 m2 g1 x):fZ (aj (b6 a b c m0 m1 m2 g0 g1 g2) [m0,x,KM.lTim x g1] 3) (cR [aD 0 false]) a c=false:=by
 rw [se]
 exact zN (d:=aD 0 false) (CC (n:=0) fun s hs h0=>by rw [w.s2n h hs h0];exact fun z=>by cases z) (by simp)
theorem FY {g:KM.Fra} (hg:KM.Rd g) (g1:1≤g.1):KM.vl g*KM.vl (aH (1,1) g)=1:=by
 obtain ⟨_,e⟩:=nt (p:=(1,1)) (q:=g) (by decide) hg.1 g1
 rw [zi] at e
 grind
theorem cY.noring (w:cY a b c m0 m1 m2 g0 g1 g2) {x:KM.Fra} (h:uy m1 m2 g1 x) {pl:List (List Nat)}{rs:List SD} (ha:a∉pl) (rg:wM (aj (b6 a b c m0 m1 m2 g0 g1 g2) [m0,x,KM.lTim x g1] 3) pl rs):False:=by
 have key:∀s∈rs,(s.st=b∧s.gain=g2)∨(s.st=c∧s.gain=aH (1,1) g2):=fun s hs=>by
  obtain ⟨h1,h2,h3⟩:=rg.sub s hs
  rcases w.s2 h h1 with ⟨_,_,_,z⟩ | ⟨z,_⟩ | ⟨_,z⟩ | ⟨z,_,z2,_⟩ | ⟨z,_,z2⟩
  ·exact absurd (z▸h3) ha
  ·exact absurd (z▸h2) ha
  ·exact absurd (z▸h3) ha
  ·exact .inl ⟨z,z2⟩
  ·exact .inr ⟨z,z2⟩
 have two:=rg.two
 have nd:=rg.nd
 have gn:=rg.gain
 rcases rs with _ | ⟨s,_ | ⟨s',r⟩⟩
 ·simp at two
 ·simp at two
 have k1:=key s (by simp)
 have k2:=key s' (by simp)
 have r0:r=[]:=by
  rcases r with _ | ⟨s'',r⟩
  ·rfl
  have k3:=key s'' (by simp)
  simp at nd
  obtain ⟨⟨n1,n2,_⟩,⟨n3,_⟩,_⟩:=nd
  rcases k1 with ⟨z1,_⟩ | ⟨z1,_⟩ <;> rcases k2 with ⟨z2,_⟩ | ⟨z2,_⟩ <;> rcases k3 with ⟨z3,_⟩ | ⟨z3,_⟩ <;> simp_all
 subst r0
 simp at nd
 have ep:fI ([s,s'].map dU)=KM.vl s.gain*KM.vl s'.gain:=by
  show KM.vl s.gain*(KM.vl s'.gain*1)=_
  grind
 have b1:=FY w.g2.rd w.g2.p1
 rw [ep] at gn
 have:(1:Rat)<1:=by
  rcases k1 with ⟨z1,y1⟩ | ⟨z1,y1⟩ <;> rcases k2 with ⟨z2,y2⟩ | ⟨z2,y2⟩
  ·exact absurd (z1.trans z2.symm) nd
  ·rw [y1,y2,b1] at gn;exact gn
  ·rw [y1,y2,Rat.mul_comm,b1] at gn;exact gn
  ·exact absurd (z1.trans z2.symm) nd
 exact absurd this (Rat.not_lt.mpr Rat.le_refl)
theorem cY.ok1 (w:cY a b c m0 m1 m2 g0 g1 g2):vj (aj (b6 a b c m0 m1 m2 g0 g1 g2) z3 3) (.way [f0 a c m0 g0]):=by
 refine ⟨fun s hs=>?_,(by show 1≤10;decide)⟩
 rw [List.mem_singleton] at hs
 rw [hs,w.s0]
 exact ⟨by simp,w.g0.g.mono (by decide) (by decide),w.g0.p1⟩
theorem cY.mem2 (w:cY a b c m0 m1 m2 g0 g1 g2) (p0:KM.Fra):∀s∈[f1 a b m1 g1,f2 b c m2 g2],s∈aj (b6 a b c m0 m1 m2 g0 g1 g2) [p0,(0,1),(0,1)] 3:=fun s hs=>by
 unfold b6
 rw [sN,cI w.m1.p1,cI w.m2.p1]
 refine List.mem_append_right _ ?_
 rcases List.mem_cons.mp hs with h | h
 ·rw [h];exact List.mem_append_left _ (List.mem_singleton.mpr rfl)
 ·rw [List.mem_singleton.mp h]
  exact List.mem_append_right _ (List.mem_append_left _ (List.mem_singleton.mpr rfl))
theorem cY.ok2 (w:cY a b c m0 m1 m2 g0 g1 g2) (p0:KM.Fra):vj (aj (b6 a b c m0 m1 m2 g0 g1 g2) [p0,(0,1),(0,1)] 3) (.way [f1 a b m1 g1,f2 b c m2 g2]):=by
 refine ⟨fun s hs=>⟨w.mem2 p0 s hs,?_⟩,(by show 2≤10;decide)⟩
 rcases List.mem_cons.mp hs with h | h
 ·rw [h];exact ⟨w.g1.g.mono (by decide) (by decide),w.g1.p1⟩
 ·rw [List.mem_singleton.mp h];exact ⟨w.g2.g.mono (by decide) (by decide),w.g2.p1⟩
end
end K21
namespace K21
open PySem L2
set_option maxHeartbeats 8000000
theorem Br {J:It}{D:Addr}{H1:Hp}{σc:St}{g:TG}{te:TE}{Q:VK} (ds:List PyData) (hz:ds.length≤10000) (hD:H1 D=none)
 (hgo:∀i H',i<ds.length→aa H1 H'→J.go i H') (hst:∀H',aa H1 H'→J.stop ds.length H')
 (hs:∀(i:Nat) (d:PyData) (x:V) (H' H'':Hp) (R:VK),ds[i]?=some d→aa H1 H'→J.yld i H' x H''→(∀y H4,aa H' H4→aI ED H4 y d→R y H4)→g x σc H'' fun σ2 H2=>ja σc σ2∧te σ2 H2 R)
 (hd:∀H' ys,aa H1 H'→H' D=some (.lst ys)→ah ED H' ys ds→Q (.ref D) H'):tM J σc g tT te D H1 Q:=by
 refine lF (n:=ds.length) (fun i H' ys=>H' D=some (.lst ys)∧ah ED H' ys (ds.take i)∧aa H1 H') (by rw [sizeLine_eq];trivial) ⟨aA,.nil,aa.new hD⟩ ?_ ?_ ?_ ?_ ?_
 ·rintro i H' ys ⟨h1,h2,_⟩
  exact ⟨h1,by rw [h2.length];exact List.length_take_le ..⟩
 ·rintro i H' ys hi ⟨_,_,sm⟩
  exact hgo i H' hi sm
 ·rintro H' ys ⟨_,_,sm⟩
  exact hst H' sm
 ·rintro i H' ys x H'' hi ⟨h1,h2,sm⟩ y
  refine hs i ds[i] x H' H'' _ (List.getElem?_eq_getElem hi) sm y fun v H4 s4 iv=>⟨s4 _ _ h1,aA,?_,c7 hD (sm.trans s4)⟩
  rw [List.take_add_one,List.getElem?_eq_getElem hi]
  exact m9 .mk' (s4 _ _ h1) (h2.mono s4.toE) iv
 ·rintro H' ys ⟨h1,h2,sm⟩
  rw [List.take_length] at h2
  exact hd H' ys sm h1 h2
theorem uc {c d n:Nat}{D b:Addr}{H1:Hp}{σc:St}{Q:VK}{t:Int} (hn:n≤100) (hσ:σc=[none,some (.ref b)]) (hD:H1 D=none) (B:Bx H1 b t) (h0:0≤t) (h1:t+2*n≤900000)
 (hd:∀(zs:List V) (ps:List KM.Fra) (t':Int) (H':Hp),bV (Eb b) H1 H'→H' D=some (.lst zs)→ah ED H' zs (ps.map aN)→ps.length=n→(∀p∈ps,Dr c d p)→Bx H' b t'→t≤t'→t'≤t+2*n→Q (.ref D) H') :
 tM (A3 0 n) σc (tI 0) tT (Gs (Gn c d) [] E0 (kX (uo 1) u9)) D H1 Q:=by
 have nD:¬D=b:=fun z=>B.ne hD z.symm
 refine lF (n:=n) (fun i H' zs=>bI fun (ps:List KM.Fra) (t':Int)=>H' D=some (.lst zs)∧ah ED H' zs (ps.map aN)∧ps.length=i∧(∀p∈ps,Dr c d p)∧Bx H' b t'∧t≤t'∧t'≤t+2*i∧bV (Eb b) H1 H') (by rw [sizeLine_eq];trivial) ⟨[],t,aA,.nil,rfl,(fun p h=>by cases h),B.same (aa.new hD),by trivial,by trivial,(aa.new hD).toE⟩ ?_ ?_ ?_ ?_ ?_
 ·rintro i H' zs ⟨ps,t',q1,iz,lp,_⟩
  exact ⟨q1,by rw [iz.length,List.length_map];trivial⟩
 ·intro i H' zs hi _
  exact hi
 ·intro H' zs _
  exact Nat.le_refl _
 ·rintro i H' zs x H'' hi ⟨ps,t',q1,iz,lp,dp,B1,ha,hb1,s1⟩ ⟨rfl,rfl⟩
  subst hσ
  refine ⟨eH,(),b,t',rfl,B1,by trivial,by trivial,fun o p t2 H2 s2 ho dr B2 h2a h2b=>?_⟩
  have q2:=s2.old D _ nD q1
  have c2:Ch H2 D (zs++[.ref o]) (aP H2 D (.lst (zs++[.ref o]))):=Ch.mk'
  refine ⟨q2,ps++[p],t2,aA,?_,by rw [List.length_append,lp];rfl,fun p' hp'=>?_,B2.ch c2 (Ne.symm nD),by trivial,by trivial,(s1.trans s2).up hD⟩
  ·rw [List.map_append]
   exact m9 c2 q2 (iz.mono (ny s2)) (cB ho)
  ·rcases List.mem_append.mp hp' with h | h
   ·exact dp p' h
   ·rw [List.mem_singleton.mp h];exact dr
 ·rintro H' zs ⟨ps,t',q1,iz,lp,dp,B1,ha,hb1,s1⟩
  exact hd zs ps t' H' s1 q1 iz lp dp B1 ha hb1
section
variable {P:Program}{w:World}{K:PySem.W.Frag}{mg:Str→Option Value}{base:Heap}
inductive HK (k:Int) (vs:List V) (H:Hp) (Q:VK):Prop
 | mk (b:Addr) (t:Int) (h0:vs=[.ref b]) (h1:Bx H b t) (h2:0≤t) (h3:t≤800000) (h4:∀t' H',bV (Eb b) H H'→Bx H' b t'→t≤t'→t'≤t+k→Q (.bl true) H')
def BC (k:Int):Sp:=fun vs H Q _=>HK k vs H Q
theorem AI (T:Txt K mg):aZ P w K mg base CX0 12 T.l_two_right_.f T.l_two_right_.d ["_law_box_here"] (BC 100):=by
 have G_l_names_by:=#[(rV)]
 have G_l_much_by:=#[(uj)]
 have G_l_gain_by:=#[(xK)]
 have G_l_lesser:=#[(zx)]
 have G_l_over:=#[(zY)]
 have G_l_product:=#[(vw)]
 have G_shows_bettering:=#[(jS)]
 have G_bettering:=#[(pY)]
 have G_bettered:=#[(rE)]
 refine T.l_two_right_.F.ok bC (fun vs H Q E h=>?_) (fun cdv A outer s H vs Q E hr h=>?_)
 ·obtain ⟨b,t,rfl,_⟩:=h
  rfl
 ·obtain ⟨b,t,rfl,B,ht0,ht1,k⟩:=h
  refine ⟨_,#[#[dZ 6 #[G_l_names_by,p7,T.l_names_by_,#[[#[0,(pR)],#[()]]]] (@b4 _ (K) _ _ _ _ (3) rfl #[au 5 #[1,bC.nd,bn] #[au 5 #[2,bC.nd,ib] #[au 5 #[3,bC.nd,bp] (@b3 _) (by rfl)] (by rfl)] (by rfl)] (by rfl) (by rfl) (by rfl)) (by rfl) (by rfl) (by rfl)] :: #[#[dZ 6 #[ag 5 #[[#[b5 7 (["_law_k", "_law_box_here"]) (1) ([0]) _ _ _ _ rfl (by kernel_rfl) #[gG 6 jw T.b_range #[[#[()]]] (by rfl)] (fun _ _ _ _ _ _=>#[0,(),()]) (fun _ _ _ _ _ _=>@bE _) (fun _ _ _ _ _ _=>#[G_l_much_by,(),T.l_much_by_,#[[#[1,0]]]]) (by intro _;rfl)],#[b5 7 (["_law_k", "_law_box_here"]) (1) ([0]) _ _ _ _ rfl (by kernel_rfl) #[gG 6 jw T.b_range #[[#[()]]] (by rfl)] (fun _ _ _ _ _ _=>#[0,(),()]) (fun _ _ _ _ _ _=>@bE _) (fun _ _ _ _ _ _=>#[G_l_gain_by,(),T.l_gain_by_,#[[#[1,0]]]]) (by intro _;rfl)]]]] (@b4 _ (K) _ _ _ _ (2) rfl #[au 5 #[dj 2 (4) _ bC.nd rfl (Or.inr di) (by first | exact .inl rfl | exact .inr rfl | assumption)] #[au 5 #[dj 2 (5) _ bC.nd rfl (Or.inr ir) (by first | exact .inl rfl | exact .inr rfl | assumption)] (@b3 _) (by rfl)] (by rfl)] (by rfl) (by rfl) (by rfl)) (by rfl) (by rfl) (by rfl)] :: #[#[jh 2 (6) _ _ _ _ bC.nd rfl (Or.inr uq) #[aV 4 #[[#[ag 5 #[[#[1,bn],#[3,bp]]]],#[ag 5 #[[#[1,bn],#[2,ib]]]],#[ag 5 #[[#[2,ib],#[3,bp]]]]]]] (by rfl) (by first | exact .inl rfl | exact .inr rfl | assumption)] :: #[#[7,bC.nd,bD,#[ag 5 #[[#[ag 5 #[[#[1,bn],#[2,ib],#[3,bp]]]],#[fe 9 (@fM _ (K) (by rfl)) uH T.b_tuple (@cJ) #[[#[b5 7 (["_law_k", "_law_ends", "_law_gains", "_law_mosts"]) (1) ([6,5,4]) _ _ _ _ rfl (by kernel_rfl) #[gG 6 jw T.b_range #[[#[()]]] (by rfl)] (fun _ _ _ _ _ _=>#[0,(),()]) (fun _ _ _ _ _ _=>@bE _) (fun _ _ _ _ _ _=>#[aC 8 (@Bm _ (K) (by rfl)) #[#[1,0][#[0,()]]!] #[ag 5 #[[#[#[3,0][#[0,()]]!],#[#[2,0][#[0,()]]!],#[ag 5 #[[#[()],#[()]]]]]]]]) (by intro _;rfl)]]] (by decide) (by decide) (by rfl) (by rfl)]]]]] :: #[#[8,bC.nd,cu,#[aC 8 (@B7 _) #[aV 4 #[[#[ag 5 #[[#[()],#[()]]]]]]] #[()]]] :: #[#[vd 2 (9) (10) _ _ _ _ _ _ _ _ _ _ _ rfl bC.nd rfl rfl (by decide) dc dJ #[[#[ag 5 #[[#[da 4],#[aV 4 #[[#[ag 5 #[[#[()],#[br 4]]]]]]]]]],#[ag 5 #[[#[da 4],#[aV 4 #[[#[ag 5 #[[#[()],#[br 4]]]],#[ag 5 #[[#[()],#[br 4]]]]]]]]]]]] (by kernel_rfl) (by rfl)] :: #[#[bA 8 #[PW.pt 3 #[ig 7 #[dk 4 #[b9 3 #[G_shows_bettering,cD,T.shows_bettering_,#[[#[7,bD],#[1,bn],#[3,bp],#[8,cu],#[9,dc]]]] (by intro _;rfl)]] #[gA 4 #[dk 4 #[b9 3 #[G_shows_bettering,cD,T.shows_bettering_,#[[#[7,bD],#[1,bn],#[3,bp],#[8,cu],#[10,dJ]]]] (by intro _;rfl)]]]]] #[ae 3 #[av 4 #[br 4]]] (@aQ _)] :: #[#[bA 8 #[PW.pt 3 #[ig 7 #[aK 8 (@Ej _ hr.units) #[G_bettering,kr,T.bettering_,#[[#[7,bD],#[1,bn],#[3,bp],#[8,cu]]]] #[ag 5 #[[#[9,dc],#[10,dJ]]]] rfl] #[gA 4 #[b9 3 #[G_shows_bettering,cD,T.shows_bettering_,#[[#[7,bD],#[1,bn],#[3,bp],#[8,cu],#[ag 5 #[[#[da 4],#[aV 4 #[[#[ag 5 #[[#[()],#[br 4]]]]]]]]]]]]] (by intro _;rfl)]]]] #[ae 3 #[av 4 #[br 4]]] (@aQ _)] :: #[#[11,bC.nd,gU,#[G_l_lesser,rR,T.l_lesser_,#[[#[#[4,(di)][#[()]]!],#[G_l_over,uf,T.l_over_,#[[#[#[4,(di)][#[()]]!],#[#[5,(ir)][#[()]]!]]]]]]]] :: #[#[12,bC.nd,ju,#[aV 4 #[[#[#[4,(di)][#[()]]!],#[11,gU],#[G_l_product,qy,T.l_product_,#[[#[11,gU],#[#[5,(ir)][#[()]]!]]]]]]]] :: #[#[13,bC.nd,iJ,#[G_bettered,gT,T.bettered_,#[[#[7,bD],#[1,bn],#[3,bp],#[8,cu],#[9,dc]]]]] :: #[#[14,bC.nd,eQ,#[G_bettered,gT,T.bettered_,#[[#[7,bD],#[1,bn],#[3,bp],#[13,iJ],#[10,dJ]]]]] :: #[#[bA 8 #[PW.pt 3 #[ig 7 #[aK 8 (@vF _ hr.units) #[13,iJ] #[aV 4 #[[#[#[4,(di)][#[()]]!],#[ag 5 #[[#[()],#[()]]]],#[ag 5 #[[#[()],#[()]]]]]]] #[(),()]] #[gA 4 #[aK 8 (@vF _ hr.units) #[14,eQ] #[12,ju] #[(),()]]]]] #[ae 3 #[av 4 #[br 4]]] (@aQ _)] :: #[#[bA 8 #[aK 8 (@vF _ hr.units) #[G_bettered,gT,T.bettered_,#[[#[7,bD],#[1,bn],#[3,bp],#[8,cu],#[10,dJ]]]] #[aC 8 (@sZ _) #[aV 4 #[[#[ag 5 #[[#[()],#[()]]]]]]] #[k6 10 (@pZ _ (K) (by rfl)) #[12,ju] #[lK 3 #[()]] (@pI _)]] #[(),()]] #[ae 3 #[av 4 #[br 4]]] (@aQ _)] :: #[ae 3 #[av 4 #[jf 7 #[cn 8 (@vh _) #[G_bettering,kr,T.bettering_,#[[#[7,bD],#[1,bn],#[3,bp],#[14,eQ]]]] #[j9 3] #[(),()]] #[mB 5 #[EX 4 #[G_shows_bettering,cD,T.shows_bettering_,#[[#[7,bD],#[1,bn],#[3,bp],#[14,eQ],#[9,dc]]]]]]]]]]]]]]]]]]]]]]],?_⟩
  refine bv fun D1 nA1=>⟨(),b,3,t,rfl,B,ht0,by trivial,by decide,by decide,fun q ls t1 H1 s1 hq l3 nd nc B1 h1a h1b=>?_⟩
  obtain ⟨la,lb,lc,rfl⟩:∃la,∃lb,∃lc,ls=[la,lb,lc]:=lP (P:=fun ds=>∃la,∃lb,∃lc,ds=[la,lb,lc]) (fun a b c=>⟨a,b,c,rfl⟩) ls l3
  refine ⟨q,(),ar.of hq,rfl,_,(),_,(),_,(),rfl,nA1 _ _ ?_⟩
  refine bv fun D2 nA2=>⟨3,rfl,by decide,by decide,fun M hM=>uc (c:=4) (d:=2) (by decide) rfl hM B1 (by trivial) (by trivial) ?_⟩
  intro zm pm t2 H2 s2 hM2 iM lM dM B2 h2a h2b
  obtain ⟨m0,m1,m2,rfl⟩:∃a,∃b,∃c,pm=[a,b,c]:=lP (P:=fun ds=>∃a,∃b,∃c,ds=[a,b,c]) (fun a b c=>⟨a,b,c,rfl⟩) pm lM
  refine ⟨3,rfl,by decide,by decide,fun G hG=>uc (c:=3) (d:=3) (by decide) rfl hG B2 (by trivial) (by trivial) ?_⟩
  intro zg pg t3 H3 s3 hG3 iG lG dG B3 h3a h3b
  obtain ⟨g0,g1,g2,rfl⟩:∃a,∃b,∃c,pg=[a,b,c]:=lP (P:=fun ds=>∃a,∃b,∃c,ds=[a,b,c]) (fun a b c=>⟨a,b,c,rfl⟩) pg lG
  have nM:¬M=b:=fun z=>B1.ne hM z.symm
  have nG:¬G=b:=fun z=>B2.ne hG z.symm
  have hM3:=s3.old M _ nM hM2
  have iM3:=iM.mono (ny s3)
  refine ⟨(by show 2≤10000;decide),fun TP H4 n4=>⟨TP,(),ar.of n4.at',rfl,_,(),_,(),rfl,nA2 _ _ ?_⟩⟩
  have w:cY la lb lc m0 m1 m2 g0 g1 g2:=by
   simp at nd
   exact ⟨fun z=>nd.1.1 z,fun z=>nd.1.2 z,fun z=>nd.2 z,dM _ (by simp),dM _ (by simp),dM _ (by simp),dG _ (by simp),dG _ (by simp),dG _ (by simp)⟩
  refine bv fun D3 nA3=>⟨(),(),(by show 2≤10000;decide),fun T1 I1 i1=>⟨(),(),(by show 2≤10000;decide),fun T2 I2 i2=>⟨(),(),(by show 2≤10000;decide),fun T3 I3 i3'=>⟨(by show 3≤10000;decide),fun L6 I4 i4=>nA3 _ _ ?_⟩⟩⟩⟩
  have s34:aa H3 I4:=(((n4.sm.trans i1.sm).trans i2.sm).trans i3'.sm).trans i4.sm
  show nj _ _ _ [some (.ref b),some (aG la),some (aG lb),some (aG lc),some (.ref M),some (.ref G),some (.ref L6),none,none,none,none,none,none,none,none] _
  refine bv fun D4 nA4=>⟨(),(),(),(by show 3≤10000;decide),fun PL J0 j0=>⟨3,rfl,by decide,by decide,fun Y hY=>?_⟩⟩
  have s0:aa H3 J0:=s34.trans j0.sm
  refine Br ((b6 la lb lc m0 m1 m2 g0 g1 g2).map jx) (by show 3≤10000;decide) hY ?_ ?_ ?_ ?_
  ·intro i H' hi _
   exact hi
  ·intro H' _
   exact Nat.le_refl _
  ·rintro i d x H' H'' R ed sm ⟨rfl,rfl⟩ kR
   have s3':=s0.trans sm
   have i3:=iM3.mono (H':=H'') s3'.toE
   have j3:=iG.mono (H':=H'') s3'.toE
   have hL6:H'' L6=some (.lst [.ref T1,.ref T2,.ref T3]):=sm _ _ (j0.sm _ _ i4.at')
   have row:xX fun (Te om og:Addr) (t:ap)=>[V.ref T1,V.ref T2,V.ref T3][i]?=some (.ref Te)∧H'' Te=some (.tup [aG t.bg,aG t.en])∧zm[i]?=some (.ref om)∧zg[i]?=some (.ref og)∧H'' om=some (fr t.most)∧H'' og=some (fr t.gain)∧d=jx t∧t.price=(0,1):=by
    have f1:∀{z:List V}{p0 p1 p2:KM.Fra}{k:Nat}{p:KM.Fra},ah ED H'' z ([p0,p1,p2].map aN)→[p0,p1,p2][k]?=some p→∃o,z[k]?=some (.ref o)∧H'' o=some (fr p):=fun {z p0 p1 p2 k p} iz ep=>by
     obtain ⟨v,ev⟩:∃v,z[k]?=some v:=⟨_,List.getElem?_eq_getElem (by rw [iz.length,List.length_map];exact (List.getElem?_eq_some_iff.mp ep).1)⟩
     obtain ⟨o,rfl,ho⟩:=cm (iz.nth k ev (by rw [List.getElem?_map,ep];rfl))
     exact ⟨o,ev,ho⟩
    rcases i with _ | _ | _ | i
    ·cases ed
     obtain ⟨om,e1,h1⟩:=f1 (k:=0) i3 rfl
     obtain ⟨og,e2,h2⟩:=f1 (k:=0) j3 rfl
     exact ⟨T1,om,og,⟨la,lc,m0,g0,(0,1)⟩,rfl,sm _ _ (j0.sm _ _ (i4.sm _ _ (i3'.sm _ _ (i2.sm _ _ i1.at')))),e1,e2,h1,h2,rfl,rfl⟩
    ·cases ed
     obtain ⟨om,e1,h1⟩:=f1 (k:=1) i3 rfl
     obtain ⟨og,e2,h2⟩:=f1 (k:=1) j3 rfl
     exact ⟨T2,om,og,⟨la,lb,m1,g1,(0,1)⟩,rfl,sm _ _ (j0.sm _ _ (i4.sm _ _ (i3'.sm _ _ i2.at'))),e1,e2,h1,h2,rfl,rfl⟩
    ·cases ed
     obtain ⟨om,e1,h1⟩:=f1 (k:=2) i3 rfl
     obtain ⟨og,e2,h2⟩:=f1 (k:=2) j3 rfl
     exact ⟨T3,om,og,⟨lb,lc,m2,g2,(0,1)⟩,rfl,sm _ _ (j0.sm _ _ (i4.sm _ _ i3'.at')),e1,e2,h1,h2,rfl,rfl⟩
    ·simp [b6] at ed
   obtain ⟨Te,om,og,tt,e1,h1,e2,e3,h2,h3,rfl,h4⟩:=row
   refine ⟨eH,(),(),L6,_,_,(),rfl,ak.of hL6,aW (by rw [Nat.zero_add];exact e1),?_⟩
   have hM'':=s3' _ _ hM3
   have hG'':=s3' _ _ hG3
   refine ⟨(),(),M,_,_,(),rfl,ak.of hM'',aW (by rw [Nat.zero_add];exact e2),(),(),G,_,_,(),rfl,ak.of hG'',aW (by rw [Nat.zero_add];exact e3),(by show 2≤10000;decide),fun To J1 n1=>⟨(by show 3≤10000;decide),fun Tt J2 n2=>?_⟩⟩
   have s2':aa H'' J2:=n1.sm.trans n2.sm
   refine ⟨Te,Tt,_,(),rfl,ar.of (s2' _ _ h1),s2' _ _ h1,ar.of n2.at',by simp,(by show 5≤10000;decide),fun p H3 s3 e3=>kR _ _ (s2'.trans s3) (.tup e3 (.cons (.str _) (.cons (.str _) (.cons (cB (s3 _ _ (s2' _ _ h2))) (.cons (cB (s3 _ _ (s2' _ _ h3))) (.cons ?_ .nil))))))⟩
   rw [h4]
   exact cB (p:=(0,1)) (s3 _ _ (n2.sm _ _ n1.at'))
  intro H5 ys s5 hY5 iY5
  refine ⟨Y,ys,rfl,ak.of hY5,fun TL H6 n6=>⟨(by show 2≤10000;decide),fun N H7 n7=>nA4 _ _ ?_⟩⟩
  have s07:aa J0 H7:=(s5.trans n6.sm).trans n7.sm
  have s37:aa H3 H7:=s0.trans s07
  have iN:aI ED H7 (.ref N) (iV [la,lb,lc] (b6 la lb lc m0 m1 m2 g0 g1 g2)):=.tup n7.at' (.cons (.tup (s07 _ _ j0.at') (.cons (.str _) (.cons (.str _) (.cons (.str _) .nil)))) (.cons (.tup (n7.sm _ _ n6.at') (iY5.mono (n6.sm.trans n7.sm).toE)) .nil))
  refine bv fun D5 nA5=>⟨(by show 2≤10000;decide),fun Z0 K1 k1=>⟨(by show 1≤10000;decide),fun Z1 K2 k2=>⟨Z1,3,(),rfl,k2.at',by decide,by decide,(by show 1*3≤10000;decide),fun Z K3 k3=>nA5 _ _ ?_⟩⟩⟩
  have hZ:K3 Z=some (.lst [.ref Z0,.ref Z0,.ref Z0]):=k3.at'
  have s3K:aa H3 K3:=((s37.trans k1.sm).trans k2.sm).trans k3.sm
  have iZ0:aI ED K3 (.ref Z0) (aN (0,1)):=cB (p:=(0,1)) (k3.sm _ _ (k2.sm _ _ k1.at'))
  have iZ:ah ED K3 [.ref Z0,.ref Z0,.ref Z0] (z3.map aN):=.cons iZ0 (.cons iZ0 (.cons iZ0 .nil))
  have st:xw (fun _=>True):=fun _ _ _ _=>trivial
  refine bv fun D6 nA6=>(show cZ (fun _=>True) _ _ 2 [cR [aD 0 false],cR [aD 1 false,aD 2 false]] from cZ.cons st (aU.tup (cZ.cons st (aU.str _) (cZ.cons st (aU.lst (cZ.cons st (aU.pr st 0 false) .nil)) .nil))) (cZ.cons st (aU.tup (cZ.cons st (aU.str _) (cZ.cons st (aU.lst (cZ.cons st (aU.pr st 1 false) (cZ.cons st (aU.pr st 2 false) .nil))) .nil))) .nil)) (fun _=>False) K3 _ trivial (fun a e=>e.elim) fun vs K4 s4 lv iv=>?_
  cases iv with
  | @cons vS _ _ _ iS iv=>
  cases iv with
  | @cons vL _ _ _ iL iv=>
  cases iv
  refine ⟨_,(),nA6 _ _ ?_⟩
  have s74:aa H7 K4:=((k1.sm.trans k2.sm).trans k3.sm).trans s4
  have tds:=w.td
  have tgs:∀t∈b6 la lb lc m0 m1 m2 g0 g1 g2,kG [la,lb,lc] t:=fun t ht=>(tds t ht).gd
  have cgs:∀t∈b6 la lb lc m0 m1 m2 g0 g1 g2,Int.gcd t.gain.1 t.gain.2=1:=fun t ht=>(tds t ht).gc
  have gz3:∀p∈z3,Gb 1 1 p∧Int.gcd p.1 p.2=1∧0≤p.1:=fun p hp=>by
   have:p=(0,1):=by simpa using hp
   rw [this];exact ⟨⟨show (0:Int).natAbs<2 ^ 1 by decide,show (1:Int).natAbs<2 ^ 1 by decide,by decide⟩,by decide,by decide⟩
  obtain ⟨dD,dG',N4⟩:=xT (ls:=[la,lb,lc]) (ts:=b6 la lb lc m0 m1 m2 g0 g1 g2) (iN.mono s74.toE) tgs cgs (by show 3≤8;decide) (by show 3≤8;decide) (s4 _ _ hZ) (iZ.mono s4.toE) rfl gz3 (by decide) (by decide)
  have shS:iI [la,lb,lc] (b6 la lb lc m0 m1 m2 g0 g1 g2) z3 la lc (cR [aD 0 false])=true:=(w.shown0 (cR [aD 0 false])).trans w.short
  have shL:iI [la,lb,lc] (b6 la lb lc m0 m1 m2 g0 g1 g2) z3 la lc (cR [aD 1 false,aD 2 false])=true:=(w.shown0 (cR [aD 1 false,aD 2 false])).trans w.long
  have sh1:iI [la,lb,lc] (b6 la lb lc m0 m1 m2 g0 g1 g2) z3 la lc (cR [aD 2 false])=false:=(w.shown0 (cR [aD 2 false])).trans w.one
  have wtw:∀ps:List (Int×Bool),(∀p∈ps,Sz 1900 p.1)→ps.length≤10→Wt (cR (ps.map fun p=>aD p.1 p.2)) (1+(3*ps.length+1+0)+1) 3:=fun ps h _=>.tuple (.cons (.str ⟨by nofun,by nofun⟩) (.cons (.list (xM ps h)) .nil))
  have sz9:∀i:Int,i.natAbs<16→Sz 1900 i:=fun i h=>Sz.mono (m:=4) h (by decide)
  have wtS:=wtw [(0,false)] (by simp;exact sz9 0 (by decide)) (by decide)
  have wtL:=wtw [(1,false),(2,false)] (by simp;exact ⟨sz9 1 (by decide),sz9 2 (by decide)⟩) (by decide)
  have wt1:=wtw [(2,false)] (by simp;exact sz9 2 (by decide)) (by decide)
  show nj _ _ _ [some (.ref b),some (aG la),some (aG lb),some (aG lc),some (.ref M),some (.ref G),some (.ref L6),some (.ref N),some (.ref Z),some vS,some vL,none,none,none,none] _
  refine bv fun D7 nA7=>⟨(),(),(),(),(),.ref N,vS,Z,_,_,_,_,_,_,_,_,_,_,la,lc,_,_,_,(),N4,iS,wtS,by decide,by decide,fun K5 s5=>⟨(),?_⟩⟩
  rw [shS]
  have N5:=N4.sm s5
  refine aJ ⟨(),(),(),(),(),.ref N,vL,Z,_,_,_,_,_,_,_,_,_,_,la,lc,_,_,_,(),N5,iL.mono s5.toE,wtL,by decide,by decide,fun K6 s6=>⟨(),?_⟩⟩
  rw [shL]
  refine aJ (nA7 _ _ ?_)
  have s46:aa K4 K6:=s5.trans s6
  have N6:=N4.sm s46
  have isS6:=iS.mono (H':=K6) s46.toE
  have isL6:=iL.mono (H':=K6) s46.toE
  have sg0:=so (ps:=z3) tgs (fun p hp=>(gz3 p hp).1.mono (by decide) (by decide)) (by show 3≤24;decide)
  refine bv fun D8 nA8=>?_
  have inn:∀(T p:Addr) (yy:List V) (xx:List SD) (J:Hp),(xx.map pD=[aD 0 false]∨xx.map pD=[aD 1 false,aD 2 false])→J T=some (.tup [.str (Str.ofString "way"),.ref p])→J p=some (.lst yy)→ah ED J yy (xx.map pD)→bI fun d m=>aI (fun _=>False) J (.ref T) d∧Wt d m 3∧([cR [aD 0 false],cR [aD 1 false,aD 2 false]].any fun z=>PyData.eqv z d)=true:=fun T p yy xx J h hT hp ip=>by
   have i1:aI (fun _=>False) J (.ref T) (cR (xx.map pD)):=.tup hT (.cons (.str _) (.cons (.lst hp (fun z=>z) (ip.narrow fun _ z=>z.elim)) .nil))
   rcases h with h | h
   ·rw [h] at i1
    exact ⟨_,_,i1,wtS,by nofun⟩
   ·rw [h] at i1
    exact ⟨_,_,i1,wtL,by nofun⟩
  refine ⟨(),(),(),(),.ref N,Z,[la,lb,lc],b6 la lb lc m0 m1 m2 g0 g1 g2,_,z3,la,lc,rfl,N6.iN,tgs,(by show 3≤24;decide),N6.hs,N6.ix,rfl,fun p hp=>(gz3 p hp).1.mono (by decide) (by decide),fun s hs=>(sg0 s hs).1,by simp,(by show 3≤10;decide),fun T p yy pl cr K7 cs hf s7 hT fp hp ip=>?_,fun pl cr m K7 cs pls cl nf _ _ _=>absurd (w.must cl cs.hd) nf,fun T p q ys zs pl cr r0 rs K7 cs rg pls cl nf _ _ _ _ _ _ _ _ _ _=>absurd (w.must cl cs.hd) nf⟩
  obtain ⟨d,md,isd,wtd,eqd⟩:=inn T p yy (cr la) K7 (w.told cs hf) hT hp ip
  refine ⟨(),(),(by show 2≤10000;decide),fun TT J nJ=>⟨d,.tuple [cR [aD 0 false],cR [aD 1 false,aD 2 false]],fun _=>False,fun _=>False,_,_,_,_,_,isd.mono nJ.sm.toE,.tup nJ.at' (.cons (isS6.mono (s7.trans nJ.sm).toE) (.cons (isL6.mono (s7.trans nJ.sm).toE) .nil)),wtd,.tuple (.cons wtS (.cons wtL .nil)),by decide,rfl,(),?_⟩⟩
  rw [eqd]
  refine aJ ⟨(),(),(),(),(show aU (fun _=>True) _ _ (cR [aD 2 false]) from aU.tup (cZ.cons st (aU.str _) (cZ.cons st (aU.lst (cZ.cons st (aU.pr st 2 false) .nil)) .nil))) (fun _=>False) J _ trivial (fun a e=>e.elim) fun v1 J1 t1' i1'=>?_⟩
  have s6J:aa K6 J1:=(s7.trans nJ.sm).trans t1'
  refine ⟨.ref N,v1,Z,_,_,_,_,_,_,_,_,_,_,la,lc,_,_,_,(),N6.sm s6J,i1',wt1,by decide,by decide,fun K8 s8=>⟨(),?_⟩⟩
  rw [sh1]
  refine aJ (nA8 _ _ ?_)
  have s48:aa K4 K8:=s46.trans (s6J.trans s8)
  clear isd wtd eqd nJ hT fp hp ip
  have s78:=s74.trans s48
  have s38:aa H3 K8:=s37.trans s78
  have N8:=N4.sm s48
  have hM8:=s38 _ _ hM3
  have hG8:=s38 _ _ hG3
  have iM8:=iM3.mono (H':=K8) s38.toE
  have iG8:=iG.mono (H':=K8) s38.toE
  obtain ⟨zm0,zm1,zm2,rfl⟩:∃a,∃b,∃c,zm=[a,b,c]:=lP (P:=fun ds=>∃a,∃b,∃c,ds=[a,b,c]) (fun a b c=>⟨a,b,c,rfl⟩) zm (by rw [iM8.length];rfl)
  obtain ⟨zg0,zg1,zg2,rfl⟩:∃a,∃b,∃c,zg=[a,b,c]:=lP (P:=fun ds=>∃a,∃b,∃c,ds=[a,b,c]) (fun a b c=>⟨a,b,c,rfl⟩) zg (by rw [iG8.length];rfl)
  obtain ⟨om0,rfl,hm0⟩:=cm (iM8.nth 0 rfl rfl)
  obtain ⟨om1,rfl,hm1⟩:=cm (iM8.nth 1 rfl rfl)
  obtain ⟨om2,rfl,hm2⟩:=cm (iM8.nth 2 rfl rfl)
  obtain ⟨og1,rfl,hg1⟩:=cm (iG8.nth 1 rfl rfl)
  obtain ⟨z1,z2⟩:=gz w.m2.g (by decide) (by decide)
  obtain ⟨z3',z4⟩:=gz w.g1.g (by decide) (by decide)
  refine cw fun Q9 nA9=>⟨(),M,_,_,(),rfl,ak.of hM8,aW (j:=1) rfl,(),M,_,_,(),rfl,ak.of hM8,aW (j:=2) rfl,(),G,_,_,(),rfl,ak.of hG8,aW (j:=1) rfl,om2,og1,m2,g1,_,_,_,(),hm2,hg1,w.m2.g,w.g1.g,by decide,by decide,by decide,by decide,fun _=>w.g1.p1,fun o K9 n9=>?_⟩
  obtain ⟨ro,eo⟩:=nt (p:=m2) (q:=g1) w.m2.g.pos w.g1.g.pos w.g1.p1
  have go:Gb 10 10 (aH m2 g1):=w.m2.g.ovr w.g1.g w.g1.p1 (by decide) (by decide)
  have g0':=w.g1.v0
  have fin:∀ob x,K9 ob=some (fr x)→uy m1 m2 g1 x→Gb 10 10 x→1≤x.1→Q9 (.ref ob) K9:=fun ob x hob bg gx x1=>nA9 _ _ ?_
  refine ⟨om1,o,m1,aH m2 g1,rfl,n9.sm _ _ hm1,n9.at',w.m1.g.mono (by decide) (by decide),go.mono (by decide) (by decide),fun le=>fin om1 m1 (n9.sm _ _ hm1) ⟨w.m1.rd,Rat.le_refl,by rw [←eo];exact FU le (Rat.le_of_lt g0'),.inl rfl⟩ (w.m1.g.mono (by decide) (by decide)) w.m1.p1,fun lt=>fin o _ n9.at' ⟨ro,Rat.le_of_lt lt,by rw [eo];exact Rat.le_refl,.inr eo⟩ go (sY w.m2.p1 w.m2.g.pos w.g1.p1 w.g1.g.pos)⟩
  have s39:aa H3 K9:=s38.trans n9.sm
  have hM9:=n9.sm _ _ hM8
  have hG9:=n9.sm _ _ hG8
  obtain ⟨zx1,zx2⟩:=gz gx (by decide) (by decide)
  refine cw fun Q10 nA10=>⟨(),M,_,_,(),rfl,ak.of hM9,aW (j:=0) rfl,(),(),(),G,_,_,(),rfl,ak.of hG9,aW (j:=1) rfl,ob,og1,x,g1,_,_,_,(),hob,n9.sm _ _ hg1,gx,w.g1.g,by decide,by decide,by decide,by decide,(fun z=>absurd z Bool.false_ne_true),fun oy K10 n10=>⟨(by show 3≤10000;decide),fun L12 K11 n11=>nA10 _ _ ?_⟩⟩
  have s9B:aa K9 K11:=n10.sm.trans n11.sm
  have s4B:aa K4 K11:=(s48.trans n9.sm).trans s9B
  have N11:=N4.sm s4B
  have gy:Gb 20 20 (KM.lTim x g1):=gx.tim w.g1.g (by decide) (by decide)
  obtain ⟨TS,rfl,bS⟩:=Bw (cs:=[f0 la lc m0 g0]) iS
  obtain ⟨TL',rfl,bL⟩:=Bw (cs:=[f1 la lb m1 g1,f2 lb lc m2 g2]) iL
  have btS:∀{J J':Hp}{T:Addr}{cs:List SD},aa J J'→xD J T (.way cs)→xD J' T (.way cs):=fun {J J' T cs} s ⟨L,ys,h1,h2,h3⟩=>⟨L,ys,s _ _ h1,s _ _ h2,h3.mono s.toE⟩
  refine cw fun Q11 nA11=>⟨(),(),(),(),(),.ref N,aG la,aG lc,Z,TS,[la,lb,lc],b6 la lb lc m0 m1 m2 g0 g1 g2,_,z3,.way [f0 la lc m0 g0],1,1,rfl,N11.iN,tgs,(by show 3≤40;decide),N11.hs,N11.ix,rfl,fun p hp=>(gz3 p hp).1,by decide,by decide,btS s4B bS,w.ok1,by show [_]≠[];simp,by show [0].Nodup;decide,fun F yf qf K12 s12 fF hF iF mu _=>nA11 _ _ ?_⟩
  have iF:ah ED K12 yf ((fu (b6 la lb lc m0 m1 m2 g0 g1 g2) qf z3 (BT.way [f0 la lc m0 g0]).parts).map aN):=iF
  rw [w.bet1 mu] at iF
  have s4C:aa K4 K12:=s4B.trans s12
  have N12:=N4.sm s4C
  have gp1:∀p∈[m0,(0,1),(0,1)],Gb 4 2 p:=fun p hp=>by
   have:p=m0∨p=(0,1):=by simpa using hp
   rcases this with rfl | rfl
   ·exact w.m0.g
   ·exact (gz3 (0,1) (by simp)).1.mono (by decide) (by decide)
  refine cw fun Q12 nA12=>⟨(),(),(),(),(),.ref N,aG la,aG lc,F,TL',[la,lb,lc],b6 la lb lc m0 m1 m2 g0 g1 g2,_,[m0,(0,1),(0,1)],.way [f1 la lb m1 g1,f2 lb lc m2 g2],4,2,rfl,N12.iN,tgs,(by show 3≤40;decide),hF,iF,rfl,gp1,by decide,by decide,btS s4C bL,w.ok2 m0,by show [_,_]≠[];simp,by show [1,2].Nodup;decide,fun S ysn qs K13 s13 fS hS iSn mu2 _=>nA12 _ _ ?_⟩
  have bgq:=w.beg mu2
  obtain rfl:qs=x:=uy.one g0' bgq bg
  have iSn:ah ED K13 ysn ((fu (b6 la lb lc m0 m1 m2 g0 g1 g2) qs [m0,(0,1),(0,1)] (BT.way [f1 la lb m1 g1,f2 lb lc m2 g2]).parts).map aN):=iSn
  rw [w.bet2 bg.rd] at iSn
  show nj _ _ _ [some (.ref b),some (aG la),some (aG lb),some (aG lc),some (.ref M),some (.ref G),some (.ref L6),some (.ref N),some (.ref Z),some (.ref TS),some (.ref TL'),some (.ref ob),some (.ref L12),some (.ref F),some (.ref S)] _
  have lstD:∀{J:Hp}{l:Addr}{zs:List V}{ps:List KM.Fra},J l=some (.lst zs)→ah ED J zs (ps.map aN)→aI (fun _=>False) J (.ref l) (.list (ps.map aN)):=fun h i=>.lst h (fun z=>z) (i.narrow fun _ z=>z.elim)
  have wfr:∀{p:KM.Fra},Gb 20 20 p→Wt (aN p) 3 1:=fun h=>vp h (by decide) (by decide)
  have w0:Gb 20 20 (0,1):=(gz3 (0,1) (by simp)).1.mono (by decide) (by decide)
  have wm0:Gb 20 20 m0:=w.m0.g.mono (by decide) (by decide)
  have wqs:Gb 20 20 qs:=gx.mono (by decide) (by decide)
  have wt3:∀{p0 p1 p2:KM.Fra},Gb 20 20 p0→Gb 20 20 p1→Gb 20 20 p2→Wt (.list ([p0,p1,p2].map aN)) (3+(3+(3+0))+1) 2:=fun h0 h1 h2=>.list (.cons (wfr h0) (.cons (wfr h1) (.cons (wfr h2) .nil)))
  have eqs:∀p0 p1 p2:KM.Fra,PyData.eqv (.list ([p0,p1,p2].map aN)) (.list ([p0,p1,p2].map aN))=true:=fun p0 p1 p2=>by simp [PyData.eqv,PyData.eqvAll]
  have s9D:aa K9 K13:=(s9B.trans s12).trans s13
  have hM13:=s9D _ _ hM9
  have iM13:=iM8.mono (H':=K13) (n9.sm.trans s9D).toE
  have h12:K13 L12=some (.lst [.ref om0,.ref ob,.ref oy]):=s13 _ _ (s12 _ _ n11.at')
  have i12:ah ED K13 [.ref om0,.ref ob,.ref oy] ([m0,qs,KM.lTim qs g1].map aN):=.cons (cB (s9D _ _ (n9.sm _ _ hm0))) (.cons (cB (s9D _ _ hob)) (.cons (cB (s13 _ _ (s12 _ _ (n11.sm _ _ n10.at')))) .nil))
  refine bv fun D13 nA13=>⟨(),(),M,_,_,(),rfl,ak.of hM13,aW (j:=0) rfl,(by show 2≤10000;decide),fun oa J1 j1=>⟨(by show 2≤10000;decide),fun oc J2 j2=>⟨(by show 3≤10000;decide),fun ol J3 j3=>?_⟩⟩⟩
  have s13J:aa K13 J3:=(j1.sm.trans j2.sm).trans j3.sm
  have iol:ah ED J3 [.ref om0,.ref oa,.ref oc] ([m0,(0,1),(0,1)].map aN):=.cons (cB (s13J _ _ (s9D _ _ (n9.sm _ _ hm0)))) (.cons (cB (p:=(0,1)) (j3.sm _ _ (j2.sm _ _ j1.at'))) (.cons (cB (p:=(0,1)) (j3.sm _ _ j2.at')) .nil))
  refine ⟨_,_,_,_,_,_,_,_,lstD (s13J _ _ (s13 _ _ hF)) (iF.mono (s13.trans s13J).toE),lstD j3.at' iol,wt3 wm0 w0 w0,wt3 wm0 w0 w0,by decide,(),?_⟩
  rw [eqs]
  refine aJ ⟨(),(),_,_,_,_,_,_,_,_,lstD (s13J _ _ hS) (iSn.mono s13J.toE),lstD (s13J _ _ h12) (i12.mono s13J.toE),wt3 wm0 wqs gy,wt3 wm0 wqs gy,by decide,(),?_⟩
  rw [eqs]
  refine aJ (nA13 _ _ ?_)
  have s4J:aa K4 J3:=(s4C.trans s13).trans s13J
  have N14:=N4.sm s4J
  refine bv fun D14 nA14=>⟨(),(),(),(),(),.ref N,aG la,aG lc,Z,TL',[la,lb,lc],b6 la lb lc m0 m1 m2 g0 g1 g2,_,z3,.way [f1 la lb m1 g1,f2 lb lc m2 g2],4,2,rfl,N14.iN,tgs,(by show 3≤40;decide),N14.hs,N14.ix,rfl,fun p hp=>(gz3 p hp).1.mono (by decide) (by decide),by decide,by decide,btS s4J bL,w.ok2 (0,1),by show [_,_]≠[];simp,by show [1,2].Nodup;decide,fun R yr q3 K14 s14 fR hR iR mu3 _=>?_⟩
  obtain rfl:q3=qs:=uy.one g0' (w.beg mu3) bg
  have iR:ah ED K14 yr ((fu (b6 la lb lc m0 m1 m2 g0 g1 g2) q3 [(0,1),(0,1),(0,1)] (BT.way [f1 la lb m1 g1,f2 lb lc m2 g2]).parts).map aN):=iR
  rw [w.bet2 bg.rd] at iR
  have s13K:aa K13 K14:=s13J.trans s14
  refine ⟨(by show 2≤10000;decide),fun od J4 j4=>⟨(by show 1≤10000;decide),fun oe J5 j5=>⟨(),(),L12,(),ak.of (j5.sm _ _ (j4.sm _ _ (s13K _ _ h12))),fun og J6 j6=>⟨oe,og,_,(),rfl,j6.sm _ _ j5.at',j6.at',(by show 3≤10000;decide),fun oh J7 j7=>?_⟩⟩⟩⟩
  have s14J:aa K14 J7:=((j4.sm.trans j5.sm).trans j6.sm).trans j7.sm
  have s13L:aa K13 J7:=s13K.trans s14J
  have hoh:J7 oh=some (.lst [.ref od,.ref ob,.ref oy]):=j7.at'
  have i12':=i12.mono (H':=J7) s13L.toE
  have ioh:ah ED J7 [.ref od,.ref ob,.ref oy] ([(0,1),q3,KM.lTim q3 g1].map aN):=by
   cases i12' with
   | cons _ r=>exact .cons (cB (p:=(0,1)) (j7.sm _ _ (j6.sm _ _ (j5.sm _ _ j4.at')))) r
  refine ⟨_,_,_,_,_,_,_,_,lstD (s14J _ _ hR) (iR.mono s14J.toE),lstD hoh ioh,wt3 w0 wqs gy,wt3 w0 wqs gy,by decide,(),?_⟩
  rw [eqs]
  refine aJ (nA14 _ _ ?_)
  have s4L:aa K4 J7:=(s4C.trans s13).trans s13L
  have hS7:=s13L _ _ hS
  have iS7:=iSn.mono (H':=J7) s13L.toE
  obtain ⟨rY,vY⟩:=lI bg.rd w.g1.rd
  have gps:∀p∈[m0,q3,KM.lTim q3 g1],Gb 20 20 p∧Int.gcd p.1 p.2=1∧0≤p.1:=fun p hp=>by
   have:p=m0∨p=q3∨p=KM.lTim q3 g1:=by simpa using hp
   rcases this with rfl | rfl | rfl
   ·exact ⟨wm0,w.m0.c,by have:=w.m0.p1;trivial⟩
   ·exact ⟨wqs,bg.rd.2,by trivial⟩
   ·exact ⟨gy,rY.2,by have:=pH x1 bg.rd.1 w.g1.p1 w.g1.g.pos;trivial⟩
  have sg2:=so (ps:=[m0,q3,KM.lTim q3 g1]) tgs (fun p hp=>(gps p hp).1.mono (by decide) (by decide)) (show (b6 la lb lc m0 m1 m2 g0 g1 g2).length≤24 by show 3≤24;decide)
  have N15:=N4.sm s4L
  refine ⟨(),(),(),(),.ref N,S,[la,lb,lc],b6 la lb lc m0 m1 m2 g0 g1 g2,_,[m0,q3,KM.lTim q3 g1],la,lc,rfl,N15.iN,tgs,(by show 3≤24;decide),hS7,iS7,rfl,fun p hp=>(gps p hp).1.mono (by decide) (by decide),fun s hs=>(sg2 s hs).1,by simp,(by show 3≤10;decide),fun T p yy pl cr K7 cs hf _ _ _ _ _=>absurd hf (w.noway bg cs),fun pl cr m J8 cs pls cl nf _ _ s8'=>?_,fun T p q ys zs pl cr r0 rs K7 cs rg pls cl nf _ _ _ _ _ _ _ _ _ _=>(w.noring bg nf rg).elim⟩
  have s4M:=s4L.trans s8'
  obtain ⟨dD2,dG2,N16⟩:=xT (H:=J8) (ls:=[la,lb,lc]) (ts:=b6 la lb lc m0 m1 m2 g0 g1 g2) (ps:=[m0,q3,KM.lTim q3 g1]) (N4.sm s4M).iN tgs cgs (by show 3≤8;decide) (by show 3≤8;decide) (s8' _ _ hS7) (iS7.mono s8'.toE) rfl gps (by decide) (by decide)
  have shG:iI [la,lb,lc] (b6 la lb lc m0 m1 m2 g0 g1 g2) [m0,q3,KM.lTim q3 g1] la lc (cR [aD 0 false])=false:=by
   unfold iI
   rw [show fZ (aj (b6 la lb lc m0 m1 m2 g0 g1 g2) [m0,q3,KM.lTim q3 g1] (b6 la lb lc m0 m1 m2 g0 g1 g2).length) (cR [aD 0 false]) la lc=false from w.gone bg,Bool.and_false,Bool.and_false]
  refine ⟨rfl,(),ay ⟨(),(),(),(),(),.ref N,.ref TS,S,_,_,_,_,_,_,_,_,_,_,la,lc,_,_,_,(),N16,iS.mono s4M.toE,wtS,by decide,by decide,fun J9 s9=>⟨(),?_⟩⟩⟩
  rw [shG]
  have s3F:aa H3 J9:=((s37.trans s74).trans s4M).trans s9
  exact k t3 J9 (((s1.trans s2).trans s3).trans s3F.toE) (B3.same s3F) (by trivial) (by trivial)
end
end K21
namespace K21
open PySem L2
set_option maxHeartbeats 8000000
theorem Cs.alone {e:List Nat}{ss:List SD}{pl:List (List Nat)}{cr:List Nat→List SD} (h:Cs e ss pl cr) (no:∀s∈ss,s.en≠e):∀(n:Nat) (l:List Nat),l∈pl→(cr l).length=n→l=e:=by
 intro n
 induction n with
 | zero=>
  intro l hl hn
  by_cases q:l=e
  ·exact q
  obtain ⟨c,_,_,_,r⟩:=h.st l hl q
  rw [r] at hn
  cases hn
 | succ n ih=>
  intro l hl hn
  by_cases q:l=e
  ·exact q
  obtain ⟨c,hc,_,m,r⟩:=h.st l hl q
  rw [r,List.length_cons] at hn
  exact absurd (ih c.en m (by trivial)) (no c hc)
theorem LY (t0 t1 t2 t3 t4:ap) (σ:Nat→Rat) (l:List Nat):rM [t0,t1,t2,t3,t4] σ l 5=σ 0*kW [t0] l 0+σ 1*kW [t1] l 0+σ 2*kW [t2] l 0+σ 3*kW [t3] l 0+σ 4*kW [t4] l 0:=by
 show ((((0+σ 0*kW [t0] l 0)+σ 1*kW [t1] l 0)+σ 2*kW [t2] l 0)+σ 3*kW [t3] l 0)+σ 4*kW [t4] l 0=_
 grind
section
variable {a b c d:List Nat}{m:KM.Fra}
abbrev gf (x y:List Nat) (m:KM.Fra):ap:=⟨x,y,m,(1,1),(0,1)⟩
def g9 (a b c d:List Nat) (m:KM.Fra):List ap:=[gf a b m,gf b c m,gf c d m,gf a c m,gf b d m]
structure Bk (a b c d:List Nat) (m:KM.Fra):Prop where
 ab:a≠b
 ac:a≠c
 ad:a≠d
 bc:b≠c
 bd:b≠d
 cd:c≠d
 m:Dr 4 2 m
theorem Gq:Gb 6 6 (1,1):=⟨show (1:Int).natAbs<2 ^ 6 by decide,show (1:Int).natAbs<2 ^ 6 by decide,by decide⟩
theorem Bk.td (w:Bk a b c d m):∀t∈g9 a b c d m,Fr [a,b,c,d] t:=fun t ht=>by
 have k:∀x y,x∈[a,b,c,d]→y∈[a,b,c,d]→x≠y→Fr [a,b,c,d] (gf x y m):=fun x y hx hy h=>⟨hx,hy,h,w.m,Gq,wH.2,wH.1,rfl⟩
 rcases List.mem_cons.mp ht with rfl | ht
 ·exact k _ _ (by simp) (by simp) w.ab
 rcases List.mem_cons.mp ht with rfl | ht
 ·exact k _ _ (by simp) (by simp) w.bc
 rcases List.mem_cons.mp ht with rfl | ht
 ·exact k _ _ (by simp) (by simp) w.cd
 rcases List.mem_cons.mp ht with rfl | ht
 ·exact k _ _ (by simp) (by simp) w.ac
 rcases List.mem_cons.mp ht with rfl | ht
 ·exact k _ _ (by simp) (by simp) w.bd
 cases ht
abbrev k0 (a b:List Nat) (m:KM.Fra):SD:=bw 0 (gf a b m) m
abbrev k1 (b c:List Nat) (m:KM.Fra):SD:=bw 1 (gf b c m) m
abbrev k2 (c d:List Nat) (m:KM.Fra):SD:=bw 2 (gf c d m) m
abbrev k3 (a c:List Nat) (m:KM.Fra):SD:=fw 3 (gf a c m) (0,1)
abbrev k4 (b d:List Nat) (m:KM.Fra):SD:=fw 4 (gf b d m) (0,1)
theorem Bk.s1 (w:Bk a b c d m):aj (g9 a b c d m) [m,m,m,(0,1),(0,1)] 5=[k0 a b m,k1 b c m,k2 c d m,k3 a c m,k4 b d m]:=by
 have f:∀i x y,bx i (gf x y m) m=[bw i (gf x y m) m]:=fun i x y=>nI (t:=gf x y m) w.m.p1
 have z:∀i x y,bx i (gf x y m) (0,1)=[fw i (gf x y m) (0,1)]:=fun i x y=>cI (t:=gf x y m) w.m.p1
 unfold g9
 rw [EL,f,f,f,z,z]
 rfl
theorem Bk.s2 (w:Bk a b c d m):aj (g9 a b c d m) [m,(0,1),m,m,m] 5=[k0 a b m,fw 1 (gf b c m) (0,1),k2 c d m,bw 3 (gf a c m) m,bw 4 (gf b d m) m]:=by
 have f:∀i x y,bx i (gf x y m) m=[bw i (gf x y m) m]:=fun i x y=>nI (t:=gf x y m) w.m.p1
 have z:∀i x y,bx i (gf x y m) (0,1)=[fw i (gf x y m) (0,1)]:=fun i x y=>cI (t:=gf x y m) w.m.p1
 unfold g9
 rw [EL,f,z,f,f,f]
 rfl
theorem Bk.most (w:Bk a b c d m):kh (g9 a b c d m) [m,m,m,(0,1),(0,1)]=true:=by
 have v0:=w.m.v0
 have y:KM.Rd m∧1≤m.2∧0≤KM.vl m∧KM.vl m≤KM.vl m:=⟨w.m.rd,w.m.g.pos,Rat.le_of_lt v0,Rat.le_refl⟩
 have n:KM.Rd (0,1)∧1≤m.2∧0≤KM.vl (0,1)∧KM.vl (0,1)≤KM.vl m:=⟨KM.Rd.zero,w.m.g.pos,by rw [KM.vl_zero];exact Rat.le_refl,by rw [KM.vl_zero];exact Rat.le_of_lt v0⟩
 refine yV fun i p t ep et=>?_
 unfold g9 at et
 rcases i with _ | _ | _ | _ | _ | i
 ·cases ep;cases et;exact y
 ·cases ep;cases et;exact y
 ·cases ep;cases et;exact y
 ·cases ep;cases et;exact n
 ·cases ep;cases et;exact n
 ·simp at ep
theorem Bk.keep (w:Bk a b c d m):jU [a,b,c,d] (g9 a b c d m) [m,m,m,(0,1),(0,1)] [a,d]=true:=by
 refine xm (fun t ht=>(w.td t ht).gd) (fun p hp=>?_) fun l hl hn=>?_
 ·have:p=m∨p=(0,1):=by simpa using hp
  rcases this with rfl | rfl
  ·exact w.m.rd
  ·exact KM.Rd.zero
 show rM _ _ _ 5=0
 unfold g9
 rw [LY]
 show KM.vl m*_+KM.vl m*_+KM.vl m*_+KM.vl (0,1)*_+KM.vl (0,1)*_=0
 rw [KM.vl_zero,yU,yU,yU]
 have hl:l=b∨l=c:=by
  rcases List.mem_cons.mp hl with rfl | hl
  ·exact absurd (by simp) hn
  rcases List.mem_cons.mp hl with rfl | hl
  ·exact .inl rfl
  rcases List.mem_cons.mp hl with rfl | hl
  ·exact .inr rfl
  rcases List.mem_cons.mp hl with rfl | hl
  ·exact absurd (by simp) hn
  cases hl
 have h1:=w.ab
 have h2:=w.ac
 have h3:=w.bc
 have h4:=w.bd.symm
 have h5:=w.cd.symm
 have h6:=w.bc.symm
 rcases hl with rfl | rfl
 ·simp only [h1,h6,h4,if_true,if_false,zi];grind
 ·simp only [h2,h3,h5,if_true,if_false,zi];grind
theorem Bk.shown (w:Bk a b c d m):iI [a,b,c,d] (g9 a b c d m) [m,m,m,(0,1),(0,1)] a d (cR [aD 3 false,aD 1 true,aD 4 false])=true:=by
 unfold iI
 rw [w.most,w.keep,se,Bool.true_and,Bool.true_and]
 have:=nP (ts:=g9 a b c d m) (ps:=[m,m,m,(0,1),(0,1)]) (n:=5) (cs:=[k3 a c m,k1 b c m,k4 b d m]) (f:=a) (e:=d) (by rw [w.s1];simp) (by simp [cM,fw,bw])
 refine this.trans ?_
 simp [c9,gK,dW,fw,bw,w.ab,w.ac,w.ad,w.bc,w.bc.symm,w.bd,w.cd]
theorem Bk.told (w:Bk a b c d m) {pl:List (List Nat)}{cr:List Nat→List SD} (h:Cs d (aj (g9 a b c d m) [m,m,m,(0,1),(0,1)] 5) pl cr) (ha:a∈pl):(cr a).map pD=[aD 3 false,aD 1 true,aD 4 false]:=by
 rw [w.s1] at h
 have sel:∀l,l∈pl→l≠d→∃s,(s=k0 a b m∨s=k1 b c m∨s=k2 c d m∨s=k3 a c m∨s=k4 b d m)∧s.st=l∧s.en∈pl∧cr l=s :: cr s.en:=fun l hl n=>by
  obtain ⟨s,hs,es,hp,e⟩:=h.st l hl n
  exact ⟨s,by simpa using hs,es,hp,e⟩
 obtain ⟨s,hs,es,hp,e⟩:=sel a ha w.ad
 rcases hs with rfl | rfl | rfl | rfl | rfl
 ·exact absurd es w.ab.symm
 ·exact absurd es w.ac.symm
 ·exact absurd es w.ad.symm
 ·have hp:c∈pl:=hp
  have e:cr a=k3 a c m :: cr c:=e
  obtain ⟨s,hs,es,hp2,e2⟩:=sel c hp w.cd
  rcases hs with rfl | rfl | rfl | rfl | rfl
  ·exact absurd es w.bc
  ·have hp2:b∈pl:=hp2
   have e2:cr c=k1 b c m :: cr b:=e2
   obtain ⟨s,hs,es,hp3,e3⟩:=sel b hp2 w.bd
   rcases hs with rfl | rfl | rfl | rfl | rfl
   ·have e3:cr b=k0 a b m :: cr a:=e3
    have l1:=congrArg List.length e
    have l2:=congrArg List.length e2
    have l3:=congrArg List.length e3
    rw [List.length_cons] at l1 l2 l3
    trivial
   ·exact absurd es w.bc.symm
   ·exact absurd es w.bd.symm
   ·exact absurd es w.ab
   ·have e3:cr b=k4 b d m :: cr d:=e3
    rw [e,e2,e3,h.ce]
    rfl
  ·exact absurd es w.cd.symm
  ·exact absurd es w.ac
  ·exact absurd es w.bc
 ·exact absurd es w.ab.symm
theorem Bk.must (w:Bk a b c d m) {pl:List (List Nat)} (h:∀s∈aj (g9 a b c d m) [m,m,m,(0,1),(0,1)] 5,s.en∈pl→s.st∈pl) (hd:d∈pl):a∈pl:=by
 rw [w.s1] at h
 have h1:b∈pl:=h (k4 b d m) (by simp) hd
 have h2:c∈pl:=h (k1 b c m) (by simp) h1
 exact h (k3 a c m) (by simp) h2
theorem Bk.ok (w:Bk a b c d m):vj (aj (g9 a b c d m) [m,m,m,(0,1),(0,1)] 5) (.way [k3 a c m,k1 b c m,k4 b d m]):=by
 refine ⟨fun s hs=>?_,(by show 3≤10;decide)⟩
 rw [w.s1]
 have hs:s=k3 a c m∨s=k1 b c m∨s=k4 b d m:=by simpa using hs
 have go:Gb 6 6 (aH (1,1) (1,1))∧1≤(aH (1,1) (1,1)).1:=by rw [ki wH];exact ⟨Gq,by decide⟩
 rcases hs with rfl | rfl | rfl
 ·exact ⟨by simp,Gq,wH.1⟩
 ·exact ⟨by simp,go.1,go.2⟩
 ·exact ⟨by simp,Gq,wH.1⟩
theorem Bk.bet (w:Bk a b c d m) {q:KM.Fra} (h:Co (BT.way [k3 a c m,k1 b c m,k4 b d m]).parts q):fu (g9 a b c d m) q [m,m,m,(0,1),(0,1)] (BT.way [k3 a c m,k1 b c m,k4 b d m]).parts=[m,(0,1),m,m,m]:=by
 have p1:(BT.way [k3 a c m,k1 b c m,k4 b d m]).parts=[(k3 a c m,(1,1)),(k1 b c m,KM.lTim (1,1) (1,1)),(k4 b d m,KM.lTim (KM.lTim (1,1) (1,1)) (aH (1,1) (1,1)))]:=rfl
 have e11:KM.lTim (1,1) (1,1)=(1,1):=pK wH
 have o11:aH (1,1) (1,1)=(1,1):=ki wH
 rw [o11,e11,e11] at p1
 have hq:q=m:=by
  obtain ⟨⟨x,hx,rfl⟩,_⟩:=h
  rw [p1] at hx
  have hx':x=(k3 a c m,(1,1))∨x=(k1 b c m,(1,1))∨x=(k4 b d m,(1,1)):=by simpa using hx
  rcases hx' with rfl | rfl | rfl
  ·show aH (aX m (0,1)) (1,1)=m
   rw [mh w.m.rd,ki w.m.rd]
  ·show aH (KM.lTim m (1,1)) (1,1)=m
   rw [sO w.m.rd,ki w.m.rd]
  ·show aH (aX m (0,1)) (1,1)=m
   rw [mh w.m.rd,ki w.m.rd]
 subst hq
 rw [p1]
 show [q,aX q (aH (KM.lTim q (1,1)) (1,1)),q,KM.ladd (0,1) (KM.lTim q (1,1)),KM.ladd (0,1) (KM.lTim q (1,1))]=_
 rw [sO w.m.rd,ki w.m.rd,F3 w.m.rd,qm w.m.rd]
theorem Bk.none (w:Bk a b c d m):∀s∈aj (g9 a b c d m) [m,(0,1),m,m,m] 5,s.en≠d:=fun s hs=>by
 rw [w.s2] at hs
 have hs:s=k0 a b m∨s=fw 1 (gf b c m) (0,1)∨s=k2 c d m∨s=bw 3 (gf a c m) m∨s=bw 4 (gf b d m) m:=by simpa using hs
 rcases hs with rfl | rfl | rfl | rfl | rfl
 ·exact w.ad
 ·exact w.cd
 ·exact w.cd
 ·exact w.ad
 ·exact w.bd
theorem Bk.noring (w:Bk a b c d m) {pl:List (List Nat)}{cr:List Nat→List SD}{rs:List SD} (h:Cs d (aj (g9 a b c d m) [m,(0,1),m,m,m] 5) pl cr) (rg:wM (aj (g9 a b c d m) [m,(0,1),m,m,m] 5) pl rs):False:=by
 have al:=fun l hl=>h.alone w.none _ l hl rfl
 rcases rs with _ | ⟨s,_ | ⟨s',r⟩⟩
 ·have:=rg.two;simp at this
 ·have:=rg.two;simp at this
 have nd:=rg.nd
 have e1:=al _ (rg.sub s (by simp)).2.1
 have e2:=al _ (rg.sub s' (by simp)).2.1
 simp at nd
 exact nd.1.1 (e1.trans e2.symm)
end
end K21
namespace K21
open PySem L2
set_option maxHeartbeats 8000000
theorem GL {α:Type} (xs:List α) (h:xs.length=4):∃a,∃b,∃c,∃d,xs=[a,b,c,d]:=by
 rcases xs with _ | ⟨a,_ | ⟨b,_ | ⟨c,_ | ⟨d,_ | ⟨e,r⟩⟩⟩⟩⟩ <;> first | exact ⟨a,b,c,d,rfl⟩ | (simp at h)
section
variable {P:Program}{w:World}{K:PySem.W.Frag}{mg:Str→Option Value}{base:Heap}
theorem Al (T:Txt K mg):aZ P w K mg base CX0 12 T.l_back_right_.f T.l_back_right_.d ["_law_box_here"] (BC 100):=by
 have G_l_names_by:=#[(rV)]
 have G_l_much_by:=#[(uj)]
 have G_shows_bettering:=#[(jS)]
 have G_bettering:=#[(pY)]
 have G_bettered:=#[(rE)]
 refine T.l_back_right_.F.ok bW (fun vs H Q E h=>?_) (fun cdv A outer s H vs Q E hr h=>?_)
 ·obtain ⟨b,t,rfl,_⟩:=h
  rfl
 ·obtain ⟨b,t,rfl,B,ht0,ht1,k⟩:=h
  refine ⟨_,#[#[dZ 6 #[G_l_names_by,pA,T.l_names_by_,#[[#[0,jC],#[()]]]] (@b4 _ (K) _ _ _ _ (4) rfl #[au 5 #[1,bW.nd,ci] #[au 5 #[2,bW.nd,fc] #[au 5 #[3,bW.nd,e8] #[au 5 #[4,bW.nd,cf] (@b3 _) (by rfl)] (by rfl)] (by rfl)] (by rfl)] (by rfl) (by rfl) (by rfl)) (by rfl) (by rfl) (by rfl)] :: #[#[jh 2 (5) _ _ _ _ bW.nd rfl (Or.inr bU) #[G_l_much_by,p5,T.l_much_by_,#[[#[0,jC]]]] (by rfl) (by first | exact .inl rfl | exact .inr rfl | assumption)] :: #[#[6,bW.nd,lH,#[aV 4 #[[#[ag 5 #[[#[1,ci],#[2,fc]]]],#[ag 5 #[[#[2,fc],#[3,e8]]]],#[ag 5 #[[#[3,e8],#[4,cf]]]],#[ag 5 #[[#[1,ci],#[3,e8]]]],#[ag 5 #[[#[2,fc],#[4,cf]]]]]]]] :: #[#[7,bW.nd,dL,#[ag 5 #[[#[ag 5 #[[#[1,ci],#[2,fc],#[3,e8],#[4,cf]]]],#[fe 9 (@fM _ (K) (by rfl)) tD T.b_tuple (@cJ) #[[#[b5 7 (["_law_one", "_law_much"]) (1) ([5]) _ _ _ _ rfl (by kernel_rfl) (@bF _ (K) _ _ _ #[6,lH] (by rfl)) (fun _ _ _ _ _ _=>#[0,(),()]) (fun _ _ _ _ _ _=>@bE _) (fun _ _ _ _ _ _=>#[aC 8 (@Bm _ (K) (by rfl)) #[0,()] #[ag 5 #[[#[1,0],#[ag 5 #[[#[()],#[()]]]],#[ag 5 #[[#[()],#[()]]]]]]]]) (by intro _;rfl)]]] (by decide) (by decide) (by rfl) (by rfl)]]]]] :: #[#[8,bW.nd,dR,#[aV 4 #[[#[5,(bU)],#[5,(bU)],#[5,(bU)],#[ag 5 #[[#[()],#[()]]]],#[ag 5 #[[#[()],#[()]]]]]]]] :: #[#[9,bW.nd,eJ,#[ag 5 #[[#[da 4],#[aV 4 #[[#[ag 5 #[[#[()],#[br 4]]]],#[ag 5 #[[#[()],#[br 4]]]],#[ag 5 #[[#[()],#[br 4]]]]]]]]]]] :: #[#[bA 8 #[PW.pt 3 #[ig 7 #[dk 4 #[b9 3 #[G_shows_bettering,mD,T.shows_bettering_,#[[#[7,dL],#[1,ci],#[4,cf],#[8,dR],#[9,eJ]]]] (by intro _;rfl)]] #[gA 4 #[aK 8 (@vF _ hr.units) #[G_bettering,j8,T.bettering_,#[[#[7,dL],#[1,ci],#[4,cf],#[8,dR]]]] #[9,eJ] #[(),()]]]]] #[ae 3 #[av 4 #[br 4]]] (@aQ _)] :: #[#[10,bW.nd,iu,#[G_bettered,qC,T.bettered_,#[[#[7,dL],#[1,ci],#[4,cf],#[8,dR],#[9,eJ]]]]] :: #[ae 3 #[av 4 #[jf 7 #[cn 8 (@sT _ hr.units) #[10,iu] #[aV 4 #[[#[5,(bU)],#[ag 5 #[[#[()],#[()]]]],#[5,(bU)],#[5,(bU)],#[5,(bU)]]]] #[(),()]] #[mB 5 #[cn 8 (@vh _) #[G_bettering,j8,T.bettering_,#[[#[7,dL],#[1,ci],#[4,cf],#[10,iu]]]] #[j9 3] #[(),()]]]]]]]]]]]]]],?_⟩
  refine bv fun D1 nA1=>⟨(),b,4,t,rfl,B,ht0,by trivial,by decide,by decide,fun q ls t1 H1 s1 hq l4 nd nc B1 h1a h1b=>?_⟩
  obtain ⟨la,lb,lc,ld,rfl⟩:=GL ls l4
  refine ⟨q,(),ar.of hq,rfl,_,(),_,(),_,(),_,(),rfl,nA1 _ _ ?_⟩
  refine cw fun Q2 nA2=>⟨(),b,t1,rfl,B1,by trivial,by trivial,fun om m t2 H2 s2 hm dm B2 h2a h2b=>nA2 _ _ ?_⟩
  have w:Bk la lb lc ld m:=by
   simp at nd
   exact ⟨fun z=>nd.1.1 z,fun z=>nd.1.2.1 z,fun z=>nd.1.2.2 z,fun z=>nd.2.1.1 z,fun z=>nd.2.1.2 z,fun z=>nd.2.2 z,dm⟩
  refine bv fun D3 nA3=>⟨(),(),(by show 2≤10000;decide),fun T1 I1 i1=>⟨(),(),(by show 2≤10000;decide),fun T2 I2 i2=>⟨(),(),(by show 2≤10000;decide),fun T3 I3 i3=>⟨(),(),(by show 2≤10000;decide),fun T4 I4 i4=>⟨(),(),(by show 2≤10000;decide),fun T5 I5 i5=>⟨(by show 5≤10000;decide),fun L6 I6 i6=>nA3 _ _ ?_⟩⟩⟩⟩⟩⟩
  have hL6:I6 L6=some (.lst [.ref T1,.ref T2,.ref T3,.ref T4,.ref T5]):=i6.at'
  have e5:=i6.sm _ _ i5.at'
  have e4:=(i5.sm.trans i6.sm) _ _ i4.at'
  have e3:=((i4.sm.trans i5.sm).trans i6.sm) _ _ i3.at'
  have e2:=(((i3.sm.trans i4.sm).trans i5.sm).trans i6.sm) _ _ i2.at'
  have e1:=((((i2.sm.trans i3.sm).trans i4.sm).trans i5.sm).trans i6.sm) _ _ i1.at'
  have s26:aa H2 I6:=((((i1.sm.trans i2.sm).trans i3.sm).trans i4.sm).trans i5.sm).trans i6.sm
  refine bv fun D4 nA4=>⟨(),(),(),(),(by show 4≤10000;decide),fun PL J0 j0=>⟨(),L6,rfl,⟨_,ak.of (j0.sm _ _ hL6)⟩,fun Y hY=>?_⟩⟩
  have s2J:aa H2 J0:=s26.trans j0.sm
  have hL0:=j0.sm _ _ hL6
  refine Br ((g9 la lb lc ld m).map jx) (by show 5≤10000;decide) hY ?_ ?_ ?_ ?_
  ·intro i H' hi sm
   have hi:i<5:=hi
   exact ⟨_,[V.ref T1,V.ref T2,V.ref T3,V.ref T4,V.ref T5][i],ak.of (sm _ _ hL0),List.getElem?_eq_getElem hi⟩
  ·intro H' sm
   exact ⟨_,ak.of (sm _ _ hL0),Nat.le_refl 5⟩
  ·rintro i d x H' H'' R ed sm ⟨rfl,ex⟩ kR
   have hx:=ex _ (ak.of (sm _ _ hL0))
   have sI:aa I6 H'':=j0.sm.trans sm
   have row:kJ fun (Te:Addr) (u v:List Nat)=>x=.ref Te∧H'' Te=some (.tup [aG u,aG v])∧d=jx (gf u v m):=by
    rcases i with _ | _ | _ | _ | _ | i
    ·cases hx;cases ed;exact ⟨T1,_,(),sI _ _ e1,rfl⟩
    ·cases hx;cases ed;exact ⟨T2,_,(),sI _ _ e2,rfl⟩
    ·cases hx;cases ed;exact ⟨T3,_,(),sI _ _ e3,rfl⟩
    ·cases hx;cases ed;exact ⟨T4,_,(),sI _ _ e4,rfl⟩
    ·cases hx;cases ed;exact ⟨T5,_,(),sI _ _ e5,rfl⟩
    ·simp [g9] at ed
   obtain ⟨Te,u,v,rfl,hTe,rfl⟩:=row
   have hm':H'' om=some (fr m):=(s2J.trans sm) _ _ hm
   refine ⟨eH,(),(),(by show 2≤10000;decide),fun To J1 n1=>⟨(by show 2≤10000;decide),fun Tp J2 n2=>⟨(by show 3≤10000;decide),fun Tt J3 n3=>?_⟩⟩⟩
   have s3':aa H'' J3:=(n1.sm.trans n2.sm).trans n3.sm
   exact ⟨Te,Tt,_,(),rfl,ar.of (s3' _ _ hTe),s3' _ _ hTe,ar.of n3.at',by simp,(by show 5≤10000;decide),fun p H3 s4 e4'=>kR _ _ (s3'.trans s4) (.tup e4' (.cons (.str _) (.cons (.str _) (.cons (cB (s4 _ _ (s3' _ _ hm'))) (.cons (cB (p:=(1,1)) (s4 _ _ (n3.sm _ _ (n2.sm _ _ n1.at')))) (.cons (cB (p:=(0,1)) (s4 _ _ (n3.sm _ _ n2.at'))) .nil))))))⟩
  intro H5 ys s5 hY5 iY5
  refine ⟨Y,ys,rfl,ak.of hY5,fun TL H6 n6=>⟨(by show 2≤10000;decide),fun N H7 n7=>nA4 _ _ ?_⟩⟩
  have s07:aa J0 H7:=(s5.trans n6.sm).trans n7.sm
  have s27:aa H2 H7:=s2J.trans s07
  have iN:aI ED H7 (.ref N) (iV [la,lb,lc,ld] (g9 la lb lc ld m)):=.tup n7.at' (.cons (.tup (s07 _ _ j0.at') (.cons (.str _) (.cons (.str _) (.cons (.str _) (.cons (.str _) .nil))))) (.cons (.tup (n7.sm _ _ n6.at') (iY5.mono (n6.sm.trans n7.sm).toE)) .nil))
  have hm7:=s27 _ _ hm
  refine cw fun Q5 nA5=>⟨(),(),(),(by show 2≤10000;decide),fun Z0 K1 u1=>⟨(by show 2≤10000;decide),fun Z1 K2 u2=>⟨(by show 5≤10000;decide),fun Z K3 u3=>nA5 _ _ ?_⟩⟩⟩
  have hZ:K3 Z=some (.lst [.ref om,.ref om,.ref om,.ref Z0,.ref Z1]):=u3.at'
  have s73:aa H7 K3:=(u1.sm.trans u2.sm).trans u3.sm
  have im:aI ED K3 (.ref om) (aN m):=cB (s73 _ _ hm7)
  have iZ:ah ED K3 [.ref om,.ref om,.ref om,.ref Z0,.ref Z1] ([m,m,m,(0,1),(0,1)].map aN):=.cons im (.cons im (.cons im (.cons (cB (p:=(0,1)) (u3.sm _ _ (u2.sm _ _ u1.at'))) (.cons (cB (p:=(0,1)) (u3.sm _ _ u2.at')) .nil))))
  have st:xw (fun _=>True):=fun _ _ _ _=>trivial
  refine cw fun Q6 nA6=>(show aU (fun _=>True) _ _ (cR [aD 3 false,aD 1 true,aD 4 false]) from aU.tup (cZ.cons st (aU.str _) (cZ.cons st (aU.lst (cZ.cons st (aU.pr st 3 false) (cZ.cons st (aU.pr st 1 true) (cZ.cons st (aU.pr st 4 false) .nil)))) .nil))) (fun _=>False) K3 _ trivial (fun a e=>e.elim) fun vR K4 s4 iR=>nA6 _ _ ?_
  have s74:aa H7 K4:=s73.trans s4
  have tds:=w.td
  have tgs:∀t∈g9 la lb lc ld m,kG [la,lb,lc,ld] t:=fun t ht=>(tds t ht).gd
  have cgs:∀t∈g9 la lb lc ld m,Int.gcd t.gain.1 t.gain.2=1:=fun t ht=>(tds t ht).gc
  have g01:Gb 4 2 (0,1):=⟨show (0:Int).natAbs<2 ^ 4 by decide,show (1:Int).natAbs<2 ^ 2 by decide,by decide⟩
  have gps:∀p∈[m,m,m,(0,1),(0,1)],Gb 4 2 p∧Int.gcd p.1 p.2=1∧0≤p.1:=fun p hp=>by
   have:p=m∨p=(0,1):=by simpa using hp
   rcases this with rfl | rfl
   ·exact ⟨w.m.g,w.m.c,by have:=w.m.p1;trivial⟩
   ·exact ⟨g01,by decide,by decide⟩
  have gpt:∀p∈[m,(0,1),m,m,m],Gb 4 2 p:=fun p hp=>by
   have:p=m∨p=(0,1):=by simpa [or_comm] using hp
   rcases this with rfl | rfl
   ·exact w.m.g
   ·exact g01
  obtain ⟨dD,dG',N4⟩:=xT (ls:=[la,lb,lc,ld]) (ts:=g9 la lb lc ld m) (iN.mono s74.toE) tgs cgs (by show 5≤8;decide) (by show 4≤8;decide) (s4 _ _ hZ) (iZ.mono s4.toE) rfl gps (by decide) (by decide)
  have wtR:Wt (cR [aD 3 false,aD 1 true,aD 4 false]) (1+(3*3+1+0)+1) 3:=.tuple (.cons (.str ⟨by nofun,by nofun⟩) (.cons (.list (xM [(3,false),(1,true),(4,false)] fun p hp=>by
   have:p=(3,false)∨p=(1,true)∨p=(4,false):=by simpa using hp
   rcases this with rfl | rfl | rfl <;> exact Sz.mono (m:=4) (show Int.natAbs _<2 ^ 4 by decide) (by decide))) .nil))
  refine bv fun D7 nA7=>⟨(),(),(),(),(),.ref N,vR,Z,_,_,_,_,_,_,_,_,_,_,la,ld,_,_,_,(),N4,iR,wtR,by decide,by decide,fun K5 s5=>⟨(),?_⟩⟩
  rw [w.shown]
  have N5:=N4.sm s5
  have sg0:=so (ps:=[m,m,m,(0,1),(0,1)]) tgs (fun p hp=>(gps p hp).1.mono (by decide) (by decide)) (by show 5≤24;decide)
  refine aJ ⟨(),(),(),(),.ref N,Z,[la,lb,lc,ld],g9 la lb lc ld m,_,[m,m,m,(0,1),(0,1)],la,ld,rfl,N5.iN,tgs,(by show 5≤24;decide),N5.hs,N5.ix,rfl,fun p hp=>(gps p hp).1.mono (by decide) (by decide),fun s hs=>(sg0 s hs).1,by simp,(by show 4≤10;decide),fun T p yy pl cr K7 cs hf s7 hT fp hp ip=>?_,fun pl cr m' K7 cs pls cl nf _ _ _=>absurd (w.must cl cs.hd) nf,fun T p q ys zs pl cr r0 rs K7 cs rg pls cl nf _ _ _ _ _ _ _ _ _ _=>absurd (w.must cl cs.hd) nf⟩
  rw [w.told cs hf] at ip
  have i1:aI (fun _=>False) K7 (.ref T) (cR [aD 3 false,aD 1 true,aD 4 false]):=.tup hT (.cons (.str _) (.cons (.lst hp (fun z=>z) (ip.narrow fun _ z=>z.elim)) .nil))
  have s47:aa K4 K7:=s5.trans s7
  refine ⟨(),_,_,_,_,_,_,_,_,i1,iR.mono s47.toE,wtR,wtR,by decide,(),?_⟩
  rw [show PyData.eqv (cR [aD 3 false,aD 1 true,aD 4 false]) (cR [aD 3 false,aD 1 true,aD 4 false])=true by nofun]
  refine aJ (nA7 _ _ ?_)
  have N7:=N4.sm s47
  obtain ⟨TR,rfl,bR⟩:=Bw (cs:=[k3 la lc m,k1 lb lc m,k4 lb ld m]) iR
  obtain ⟨LR,yR,e1',e2',e3'⟩:=bR
  refine cw fun Q8 nA8=>⟨(),(),(),(),(),.ref N,aG la,aG ld,Z,TR,[la,lb,lc,ld],g9 la lb lc ld m,_,[m,m,m,(0,1),(0,1)],.way [k3 la lc m,k1 lb lc m,k4 lb ld m],4,2,rfl,N7.iN,tgs,(by show 5≤40;decide),N7.hs,N7.ix,rfl,fun p hp=>(gps p hp).1,by decide,by decide,⟨LR,yR,s47 _ _ e1',s47 _ _ e2',e3'.mono s47.toE⟩,w.ok,by show [_,_,_]≠[];simp,by show [3,1,4].Nodup;decide,fun F yf qf K8 s8 fF hF iF mu _=>nA8 _ _ ?_⟩
  have iF:ah ED K8 yf ((fu (g9 la lb lc ld m) qf [m,m,m,(0,1),(0,1)] (BT.way [k3 la lc m,k1 lb lc m,k4 lb ld m]).parts).map aN):=iF
  rw [w.bet mu] at iF
  have s78:aa K4 K8:=s47.trans s8
  have hm8:K8 om=some (fr m):=(s74.trans s78) _ _ hm7
  have lstD:∀{J:Hp}{l:Addr}{zs:List V}{ps:List KM.Fra},J l=some (.lst zs)→ah ED J zs (ps.map aN)→aI (fun _=>False) J (.ref l) (.list (ps.map aN)):=fun h i=>.lst h (fun z=>z) (i.narrow fun _ z=>z.elim)
  have wfr:∀{p:KM.Fra},Gb 4 2 p→Wt (aN p) 3 1:=fun h=>vp h (by decide) (by decide)
  have wm:=wfr w.m.g
  have wt5:Wt (.list ([m,(0,1),m,m,m].map aN)) (3+(3+(3+(3+(3+0))))+1) 2:=.list (.cons wm (.cons (wfr g01) (.cons wm (.cons wm (.cons wm .nil)))))
  have eq5:PyData.eqv (.list ([m,(0,1),m,m,m].map aN)) (.list ([m,(0,1),m,m,m].map aN))=true:=by simp [PyData.eqv,PyData.eqvAll]
  refine ⟨(),(),(by show 2≤10000;decide),fun oa J1 j1=>⟨(),(),(),(by show 5≤10000;decide),fun ol J2 j2=>?_⟩⟩
  have s8J:aa K8 J2:=j1.sm.trans j2.sm
  have im2:aI ED J2 (.ref om) (aN m):=cB (s8J _ _ hm8)
  refine ⟨_,_,_,_,_,_,_,_,lstD (s8J _ _ hF) (iF.mono s8J.toE),lstD (ps:=[m,(0,1),m,m,m]) j2.at' (.cons im2 (.cons (cB (p:=(0,1)) (j2.sm _ _ j1.at')) (.cons im2 (.cons im2 (.cons im2 .nil))))),wt5,wt5,by decide,(),?_⟩
  rw [eq5]
  have N9:=(N4.sm s78).sm s8J
  have sg2:=so (ps:=[m,(0,1),m,m,m]) tgs (fun p hp=>(gpt p hp).mono (by decide) (by decide)) (by show 5≤24;decide)
  refine ay ⟨(),(),(),(),.ref N,F,[la,lb,lc,ld],g9 la lb lc ld m,_,[m,(0,1),m,m,m],la,ld,rfl,N9.iN,tgs,(by show 5≤24;decide),s8J _ _ hF,iF.mono s8J.toE,rfl,fun p hp=>(gpt p hp).mono (by decide) (by decide),fun s hs=>(sg2 s hs).1,by simp,(by show 4≤10;decide),fun T p yy pl cr K7 cs hf _ _ _ _ _=>absurd (cs.alone w.none _ _ hf rfl) w.ad,fun pl cr m' J8 cs pls cl nf _ _ s8'=>?_,fun T p q ys zs pl cr r0 rs K7 cs rg pls cl nf _ _ _ _ _ _ _ _ _ _=>(w.noring cs rg).elim⟩
  refine ⟨rfl,?_⟩
  have sF:aa H2 J8:=(((s27.trans s74).trans s78).trans s8J).trans s8'
  exact k t2 J8 ((s1.trans s2).trans sF.toE) (B2.same sF) (by trivial) (by trivial)
end
end K21
namespace K21
open PySem L2
set_option maxHeartbeats 8000000
section
variable {a b c d:List Nat}{m0 m1 m2 mx g h gx mo:KM.Fra}
def cH (a b c:List Nat) (m0 m1 mx g h gx:KM.Fra):List ap:=[⟨a,b,m0,g,(0,1)⟩,⟨b,a,m1,h,(0,1)⟩,⟨a,c,mx,gx,(0,1)⟩]
structure Rn (a b c d:List Nat) (m0 m1 m2 g h gx mo:KM.Fra):Prop where
 ab:a≠b
 ac:a≠c
 ad:a≠d
 bc:b≠c
 bd:b≠d
 cd:c≠d
 m0:Dr 4 2 m0
 m1:Dr 4 2 m1
 m2:Dr 4 2 m2
 dg:Dr 3 3 g
 gx:Dr 3 3 gx
 dm:Dr 3 1 mo
 big:1<KM.vl mo
 eh:h=aH mo g
theorem Rn.dh (w:Rn a b c d m0 m1 m2 g h gx mo):Dr 6 4 h∧KM.vl h*KM.vl g=KM.vl mo:=by
 rw [w.eh]
 obtain ⟨r,e⟩:=nt (p:=mo) (q:=g) w.dm.g.pos w.dg.g.pos w.dg.p1
 exact ⟨⟨w.dm.g.ovr w.dg.g w.dg.p1 (by decide) (by decide),r.2,sY w.dm.p1 w.dm.g.pos w.dg.p1 w.dg.g.pos⟩,e⟩
theorem Rn.gd (w:Rn a b c d m0 m1 m2 g h gx mo) (hx:mx=m2∨mx=(0,1)):∀t∈cH a b c m0 m1 mx g h gx,kG [a,b,c,d] t∧Int.gcd t.gain.1 t.gain.2=1:=fun t ht=>by
 have z:Gb 24 24 (0,1):=⟨show (0:Int).natAbs<2 ^ 24 by decide,show (1:Int).natAbs<2 ^ 24 by decide,by decide⟩
 rcases List.mem_cons.mp ht with rfl | ht
 ·exact ⟨⟨by simp,by simp,w.ab,w.m0.g.mono (by decide) (by decide),w.dg.g.mono (by decide) (by decide),w.dg.p1,z,by show 0≤m0.1;have:=w.m0.p1;trivial,w.m0.c⟩,w.dg.c⟩
 rcases List.mem_cons.mp ht with rfl | ht
 ·exact ⟨⟨by simp,by simp,w.ab.symm,w.m1.g.mono (by decide) (by decide),w.dh.1.g.mono (by decide) (by decide),w.dh.1.p1,z,by show 0≤m1.1;have:=w.m1.p1;trivial,w.m1.c⟩,w.dh.1.c⟩
 rcases List.mem_cons.mp ht with rfl | ht
 ·refine ⟨⟨by simp,by simp,w.ac,?_,w.gx.g.mono (by decide) (by decide),w.gx.p1,z,?_,?_⟩,w.gx.c⟩
  ·rcases hx with rfl | rfl
   ·exact w.m2.g.mono (by decide) (by decide)
   ·exact ⟨show (0:Int).natAbs<2 ^ 20 by decide,show (1:Int).natAbs<2 ^ 3 by decide,Int.le_refl 1⟩
  ·rcases hx with rfl | rfl
   ·show 0≤mx.1;have:=w.m2.p1;trivial
   ·exact Int.le_refl 0
  ·rcases hx with rfl | rfl
   ·exact w.m2.c
   ·exact (by decide:Int.gcd 0 1=1)
 cases ht
abbrev r0 (a b:List Nat) (m0 g:KM.Fra):SD:=fw 0 ⟨a,b,m0,g,(0,1)⟩ (0,1)
abbrev r1 (a b:List Nat) (m1 h:KM.Fra):SD:=fw 1 ⟨b,a,m1,h,(0,1)⟩ (0,1)
abbrev r2 (a c:List Nat) (m2 gx:KM.Fra):SD:=fw 2 ⟨a,c,m2,gx,(0,1)⟩ (0,1)
theorem Rn.son (w:Rn a b c d m0 m1 m2 g h gx mo):aj (cH a b c m0 m1 m2 g h gx) z3 3=[r0 a b m0 g,r1 a b m1 h,r2 a c m2 gx]:=by
 unfold cH
 rw [sN,cI w.m0.p1,cI w.m1.p1,cI w.m2.p1]
 rfl
theorem Rn.soff (w:Rn a b c d m0 m1 m2 g h gx mo):aj (cH a b c m0 m1 (0,1) g h gx) z3 3=[r0 a b m0 g,r1 a b m1 h]:=by
 unfold cH
 rw [sN,cI w.m0.p1,cI w.m1.p1,BZ rfl]
 rfl
theorem Rn.pre (w:Rn a b c d m0 m1 m2 g h gx mo) (hx:mx=m2∨mx=(0,1)) (x:PyData):iI [a,b,c,d] (cH a b c m0 m1 mx g h gx) z3 d c x=fZ (aj (cH a b c m0 m1 mx g h gx) z3 3) x d c:=by
 unfold iI
 have v0:∀{m:KM.Fra},Dr 4 2 m→1≤m.2∧KM.vl (0,1)≤KM.vl m:=fun h=>⟨h.g.pos,by rw [KM.vl_zero];exact Rat.le_of_lt h.v0⟩
 have e1:kh (cH a b c m0 m1 mx g h gx) z3=true:=by
  refine yV fun i p t ep et=>?_
  have hp:=Aq p (List.mem_of_getElem? ep)
  unfold cH at et
  rcases i with _ | _ | _ | i
  ·cases ep;cases et;exact ⟨hp.1,(v0 w.m0).1,hp.2,(v0 w.m0).2⟩
  ·cases ep;cases et;exact ⟨hp.1,(v0 w.m1).1,hp.2,(v0 w.m1).2⟩
  ·cases ep;cases et
   rcases hx with rfl | rfl
   ·exact ⟨hp.1,(v0 w.m2).1,hp.2,(v0 w.m2).2⟩
   ·exact ⟨hp.1,Int.le_refl 1,hp.2,Rat.le_refl⟩
  ·simp at ep
 have e2:jU [a,b,c,d] (cH a b c m0 m1 mx g h gx) z3 [d,c]=true:=by
  refine xm (fun t ht=>(w.gd hx t ht).1) (fun p hp=>(Aq p hp).1) fun l _ _=>?_
  show rM _ _ _ 3=0
  unfold cH
  rw [IV]
  show KM.vl (0,1)*_+KM.vl (0,1)*_+KM.vl (0,1)*_=0
  rw [KM.vl_zero];grind
 rw [e1,e2,Bool.true_and,Bool.true_and]
 rfl
theorem Ar {ts:List ap}{ps:List KM.Fra}{n:Nat}{rs cs:List SD}{e:List Nat} (s1:∀c∈rs,c∈aj ts ps n) (c1:cM rs=true) (s2:∀c∈cs,c∈aj ts ps n) (c2:cM cs=true):rT (aj ts ps n) (.list (rs.map pD)) (.list (cs.map pD)) e=(dq rs && (c9 (mH rs) e cs && cs.all fun c=>!decide (c.en∈rs.map (·.st)))):=by
 unfold rT
 rw [yW s1 c1]
 show (dq rs && ug _ rs _ e)=_
 unfold ug
 rw [yW s2 c2]
theorem C2 {ts:List ap}{ps:List KM.Fra}{n:Nat}{d1:PyData}{ds:List PyData}{dd:PyData}{e:List Nat} (h:fH (aj ts ps n) dd=none) (hd:dd∈ds):rT (aj ts ps n) d1 (.list ds) e=false:=by
 unfold rT
 cases k8 (aj ts ps n) d1 with
 | none=>rfl
 | some rs=>
  show (dq rs && ug _ rs _ e)=_
  unfold ug
  rw [CA h hd]
  exact Bool.and_false _
theorem Rn.off2 (w:Rn a b c d m0 m1 m2 g h gx mo):fH (aj (cH a b c m0 m1 (0,1) g h gx) z3 3) (aD 2 false)=none:=
 CC (n:=2) fun s hs h0=>by
  rw [w.soff] at hs
  have:s=r0 a b m0 g∨s=r1 a b m1 h:=by simpa using hs
  rcases this with rfl | rfl <;> cases h0
theorem Rn.ringOk (w:Rn a b c d m0 m1 m2 g h gx mo):dq [r0 a b m0 g,r1 a b m1 h]=true:=by
 have e:KM.vl (cO (1,1) [r0 a b m0 g,r1 a b m1 h])=KM.vl mo:=by
  show KM.vl (KM.lTim (KM.lTim (1,1) g) h)=_
  rw [pK w.dg.rd,(lI w.dg.rd w.dh.1.rd).2,Rat.mul_comm]
  exact w.dh.2
 unfold dq
 rw [e,decide_eq_true w.big]
 have:=w.ab
 simp [gK,mH,fw,this]
theorem Rn.right (w:Rn a b c d m0 m1 m2 g h gx mo):fZ (aj (cH a b c m0 m1 m2 g h gx) z3 3) (eS [aD 0 false,aD 1 false] [aD 2 false]) d c=true:=by
 rw [si]
 have:=Ar (ts:=cH a b c m0 m1 m2 g h gx) (ps:=z3) (n:=3) (rs:=[r0 a b m0 g,r1 a b m1 h]) (cs:=[r2 a c m2 gx]) (e:=c) (by rw [w.son];simp) (by simp [cM,fw]) (by rw [w.son];simp) rfl
 refine this.trans ?_
 rw [w.ringOk]
 simp [c9,gK,mH,dW,fw,w.ac,w.bc,w.ac.symm,w.bc.symm]
theorem Rn.rightOff (w:Rn a b c d m0 m1 m2 g h gx mo):fZ (aj (cH a b c m0 m1 (0,1) g h gx) z3 3) (eS [aD 0 false,aD 1 false] [aD 2 false]) d c=false:=by
 rw [si]
 exact C2 w.off2 (by simp)
theorem Rn.o1 (w:Rn a b c d m0 m1 m2 g h gx mo) (hx:mx=m2∨mx=(0,1)):fZ (aj (cH a b c m0 m1 mx g h gx) z3 3) (eS [aD 1 false,aD 0 false] [aD 2 false]) d c=false:=by
 rw [si]
 rcases hx with rfl | rfl
 ·have:=Ar (ts:=cH a b c m0 m1 mx g h gx) (ps:=z3) (n:=3) (rs:=[r1 a b m1 h,r0 a b m0 g]) (cs:=[r2 a c mx gx]) (e:=c) (by rw [w.son];simp) (by simp [cM,fw]) (by rw [w.son];simp) rfl
  refine this.trans ?_
  have:=w.ab
  simp [c9,mH,fw,this]
 ·exact C2 w.off2 (by simp)
theorem Rn.mem2 (w:Rn a b c d m0 m1 m2 g h gx mo) (hx:mx=m2∨mx=(0,1)):r0 a b m0 g∈aj (cH a b c m0 m1 mx g h gx) z3 3∧r1 a b m1 h∈aj (cH a b c m0 m1 mx g h gx) z3 3:=by
 rcases hx with rfl | rfl
 ·rw [w.son];exact ⟨by simp,by simp⟩
 ·rw [w.soff];exact ⟨by simp,by simp⟩
theorem Rn.o2 (w:Rn a b c d m0 m1 m2 g h gx mo) (hx:mx=m2∨mx=(0,1)):fZ (aj (cH a b c m0 m1 mx g h gx) z3 3) (eS [aD 0 false,aD 1 false] []) d c=false:=by
 rw [si]
 have:=Ar (ts:=cH a b c m0 m1 mx g h gx) (ps:=z3) (n:=3) (rs:=[r0 a b m0 g,r1 a b m1 h]) (cs:=[]) (e:=c) (by simpa using w.mem2 hx) (by simp [cM,fw]) (by simp) rfl
 refine this.trans ?_
 have:=w.ac
 simp [c9,mH,fw,this]
theorem Rn.o3 (w:Rn a b c d m0 m1 m2 g h gx mo) (hx:mx=m2∨mx=(0,1)):fZ (aj (cH a b c m0 m1 mx g h gx) z3 3) (cR [aD 2 false]) d c=false:=by
 rw [se]
 rcases hx with rfl | rfl
 ·have:=nP (ts:=cH a b c m0 m1 mx g h gx) (ps:=z3) (n:=3) (cs:=[r2 a c mx gx]) (f:=d) (e:=c) (by rw [w.son];simp) rfl
  refine this.trans ?_
  have:=w.ad
  simp [c9,fw,this]
 ·exact zN w.off2 (by simp)
theorem Rn.o4 (w:Rn a b c d m0 m1 m2 g h gx mo) (hx:mx=m2∨mx=(0,1)):fZ (aj (cH a b c m0 m1 mx g h gx) z3 3) (eS [aD 0 false,aD 1 false,aD 0 false,aD 1 false] [aD 2 false]) d c=false:=by
 rw [si]
 rcases hx with rfl | rfl
 ·have:=Ar (ts:=cH a b c m0 m1 mx g h gx) (ps:=z3) (n:=3) (rs:=[r0 a b m0 g,r1 a b m1 h,r0 a b m0 g,r1 a b m1 h]) (cs:=[r2 a c mx gx]) (e:=c) (by rw [w.son];simp) (by simp [cM,fw]) (by rw [w.son];simp) rfl
  refine this.trans ?_
  rw [show dq [r0 a b m0 g,r1 a b m1 h,r0 a b m0 g,r1 a b m1 h]=false by simp [dq,fw]]
  rfl
 ·exact C2 w.off2 (by simp)
theorem Rn.noway (w:Rn a b c d m0 m1 m2 g h gx mo) (hx:mx=m2∨mx=(0,1)) {pl:List (List Nat)}{cr:List Nat→List SD} (cs:Cs c (aj (cH a b c m0 m1 mx g h gx) z3 3) pl cr):d∉pl:=fun hd=>by
 obtain ⟨s,hs,es,_⟩:=cs.st d hd w.cd.symm
 have:s=r0 a b m0 g∨s=r1 a b m1 h∨s=r2 a c m2 gx:=by
  rcases hx with rfl | rfl
  ·rw [w.son] at hs;simpa using hs
  ·rw [w.soff] at hs
   have:s=r0 a b m0 g∨s=r1 a b m1 h:=by simpa using hs
   rcases this with h | h
   ·exact .inl h
   ·exact .inr (.inl h)
 rcases this with rfl | rfl | rfl
 ·exact w.ad es
 ·exact w.bd es
 ·exact w.ad es
theorem Rn.noring (w:Rn a b c d m0 m1 m2 g h gx mo) {pl:List (List Nat)}{cr:List Nat→List SD}{rs:List SD} (cs:Cs c (aj (cH a b c m0 m1 (0,1) g h gx) z3 3) pl cr) (rg:wM (aj (cH a b c m0 m1 (0,1) g h gx) z3 3) pl rs):False:=by
 have al:=fun l hl=>cs.alone (fun s hs=>by
  rw [w.soff] at hs
  have:s=r0 a b m0 g∨s=r1 a b m1 h:=by simpa using hs
  rcases this with rfl | rfl
  ·exact w.bc
  ·exact w.ac) _ l hl rfl
 rcases rs with _ | ⟨s,_ | ⟨s',r⟩⟩
 ·have:=rg.two;simp at this
 ·have:=rg.two;simp at this
 have nd:=rg.nd
 have e1:=al _ (rg.sub s (by simp)).2.1
 have e2:=al _ (rg.sub s' (by simp)).2.1
 simp at nd
 exact nd.1.1 (e1.trans e2.symm)
theorem Rn.told (w:Rn a b c d m0 m1 m2 g h gx mo) {pl:List (List Nat)}{cr:List Nat→List SD}{s0:SD}{rs:List SD} (cs:Cs c (aj (cH a b c m0 m1 m2 g h gx) z3 3) pl cr) (rg:wM (aj (cH a b c m0 m1 m2 g h gx) z3 3) pl (s0 :: rs)) (sh:∀s∈s0 :: rs,(cr s0.st).length≤(cr s.st).length):(s0 :: rs).map pD=[aD 0 false,aD 1 false]∧(cr s0.st).map pD=[aD 2 false]:=by
 have sel:∀s∈s0 :: rs,s=r0 a b m0 g∨s=r1 a b m1 h∨s=r2 a c m2 gx:=fun s hs=>by
  have:=(rg.sub s hs).1
  rw [w.son] at this
  simpa using this
 have no2:r2 a c m2 gx∉s0 :: rs:=fun hm=>by
  have h1:c∈((s0 :: rs).map (·.st)).drop 1++((s0 :: rs).map (·.st)).take 1:=by rw [←rg.rot];exact List.mem_map.mpr ⟨_,hm,rfl⟩
  have h2:c∈(s0 :: rs).map (·.st):=by
   rcases List.mem_append.mp h1 with h | h
   ·exact List.mem_of_mem_drop h
   ·exact List.mem_of_mem_take h
  obtain ⟨s,hs,e⟩:=List.mem_map.mp h2
  rcases sel s hs with rfl | rfl | rfl
  ·exact w.ac e
  ·exact w.bc e
  ·exact w.ac e
 have sel2:∀s∈s0 :: rs,s=r0 a b m0 g∨s=r1 a b m1 h:=fun s hs=>by
  rcases sel s hs with h | h | h
  ·exact .inl h
  ·exact .inr h
  ·exact absurd (h▸hs) no2
 have nd:=rg.nd
 have two:=rg.two
 obtain ⟨s1,rfl⟩:∃s1,rs=[s1]:=by
  rcases rs with _ | ⟨s1,_ | ⟨s2,r⟩⟩
  ·simp at two
  ·exact ⟨s1,rfl⟩
  have k0:=sel2 s0 (by simp)
  have k1:=sel2 s1 (by simp)
  have k2:=sel2 s2 (by simp)
  simp at nd
  obtain ⟨⟨n1,n2,_⟩,⟨n3,_⟩,_⟩:=nd
  rcases k0 with rfl | rfl <;> rcases k1 with rfl | rfl <;> rcases k2 with rfl | rfl <;> first | exact absurd rfl n1 | exact absurd rfl n2 | exact absurd rfl n3
 have ha:a∈pl:=by
  rcases sel2 s0 (by simp) with h | h
  ·have:=(rg.sub s0 (by simp)).2.1;rw [h] at this;exact this
  ·have:=(rg.sub s0 (by simp)).2.2;rw [h] at this;exact this
 have hb:b∈pl:=by
  rcases sel2 s0 (by simp) with h | h
  ·have:=(rg.sub s0 (by simp)).2.2;rw [h] at this;exact this
  ·have:=(rg.sub s0 (by simp)).2.1;rw [h] at this;exact this
 have stp:∀l,l∈pl→l≠c→∃s,(s=r0 a b m0 g∨s=r1 a b m1 h∨s=r2 a c m2 gx)∧s.st=l∧cr l=s :: cr s.en:=fun l hl n=>by
  obtain ⟨s,hs,es,hp,e⟩:=cs.st l hl n
  rw [w.son] at hs
  exact ⟨s,by simpa using hs,es,e⟩
 have cb:cr b=r1 a b m1 h :: cr a:=by
  obtain ⟨s,hs,es,e⟩:=stp b hb w.bc
  rcases hs with rfl | rfl | rfl
  ·exact absurd es w.ab
  ·exact e
  ·exact absurd es w.ab
 have ca:cr a=[r2 a c m2 gx]:=by
  obtain ⟨s,hs,es,e⟩:=stp a ha w.ac
  rcases hs with rfl | rfl | rfl
  ·have e:cr a=r0 a b m0 g :: cr b:=e
   have l1:=congrArg List.length e
   have l2:=congrArg List.length cb
   rw [List.length_cons] at l1 l2
   trivial
  ·exact absurd es w.ab.symm
  ·have e:cr a=r2 a c m2 gx :: cr c:=e
   rw [e,cs.ce]
 have es0:s0=r0 a b m0 g:=by
  rcases sel2 s0 (by simp) with h | h
  ·exact h
  rcases sel2 s1 (by simp) with h' | h'
  ·have:=sh s1 (by simp)
   rw [h,h'] at this
   have:(cr b).length≤(cr a).length:=this
   rw [cb,List.length_cons] at this
   trivial
  ·simp at nd
   rw [h,h'] at nd
   exact absurd rfl nd
 have es1:s1=r1 a b m1 h:=by
  rcases sel2 s1 (by simp) with h | h
  ·simp at nd
   rw [es0,h] at nd
   exact absurd rfl nd
  ·exact h
 subst es0 es1
 exact ⟨rfl,by show (cr a).map pD=_;rw [ca];rfl⟩
theorem Rn.lift (w:Rn a b c d m0 m1 m2 g h gx mo) {pl:List (List Nat)}{m:Nat} (hc:c∈pl) (cl:∀s∈aj (cH a b c m0 m1 m2 g h gx) z3 (cH a b c m0 m1 m2 g h gx).length,s.en∈pl→s.st∈pl) (e:(fU ((f8 (aj (cH a b c m0 m1 m2 g h gx) z3 (cH a b c m0 m1 m2 g h gx).length) pl).map dU) (m+1)).lf=none):False:=by
 rw [show (cH a b c m0 m1 m2 g h gx).length=3 from rfl,w.son] at cl e
 have ha:a∈pl:=cl (r2 a c m2 gx) (by simp) hc
 have hb:b∈pl:=cl (r1 a b m1 h) (by simp) ha
 have hn:f8 [r0 a b m0 g,r1 a b m1 h,r2 a c m2 gx] pl=[r0 a b m0 g,r1 a b m1 h,r2 a c m2 gx]:=by
  unfold f8
  refine List.filter_eq_self.mpr fun s hs=>?_
  have:s=r0 a b m0 g∨s=r1 a b m1 h∨s=r2 a c m2 gx:=by simpa using hs
  rcases this with rfl | rfl | rfl
  ·exact decide_eq_true hb
  ·exact decide_eq_true ha
  ·exact decide_eq_true hc
 rw [hn] at e
 have tok:∀t∈[r0 a b m0 g,r1 a b m1 h,r2 a c m2 gx].map dU,wL [a,b,c] t:=fun t ht=>by
  obtain ⟨s,hs,rfl⟩:=List.mem_map.mp ht
  have:s=r0 a b m0 g∨s=r1 a b m1 h∨s=r2 a c m2 gx:=by simpa using hs
  rcases this with rfl | rfl | rfl
  ·exact ⟨by simp [fw],by simp [fw],w.ab,w.dg.p1,w.dg.g.pos⟩
  ·exact ⟨by simp [fw],by simp [fw],w.ab.symm,w.dh.1.p1,w.dh.1.g.pos⟩
  ·exact ⟨by simp [fw],by simp [fw],w.ac,w.gx.p1,w.gx.g.pos⟩
 obtain ⟨_,hl⟩:=Fh (p:=m+1) e
 have bi:=BI.st tok m
 have holds:∀s,s∈[r0 a b m0 g,r1 a b m1 h,r2 a c m2 gx]→s.room≠(0,1)→KM.vl s.gain*uW (fU ([r0 a b m0 g,r1 a b m1 h,r2 a c m2 gx].map dU) m) s.en≤uW (fU ([r0 a b m0 g,r1 a b m1 h,r2 a c m2 gx].map dU) m) s.st:=fun s hs hr=>by
  have ht:=List.mem_map_of_mem (f:=dU) hs
  have:=zu (tok _ ht) bi.pos
  refine Rat.not_lt.mp fun z=>?_
  have:=this.mpr ⟨hr,z⟩
  rw [hl _ ht] at this
  cases this
 have nz:∀{p:KM.Fra},Dr 4 2 p→aX p (0,1)≠(0,1):=fun {p} hp z=>by rw [mh hp.rd] at z;have:=hp.p1;rw [z] at this;exact absurd this (by decide)
 have h1:=holds (r0 a b m0 g) (by simp) (nz w.m0)
 have h2:=holds (r1 a b m1 h) (by simp) (nz w.m1)
 have pa:0<uW (fU ([r0 a b m0 g,r1 a b m1 h,r2 a c m2 gx].map dU) m) a:=by
  obtain ⟨x,y⟩:=bi.pos a (by simp)
  exact pN x y
 have h1:KM.vl g*uW (fU ([r0 a b m0 g,r1 a b m1 h,r2 a c m2 gx].map dU) m) b≤uW (fU ([r0 a b m0 g,r1 a b m1 h,r2 a c m2 gx].map dU) m) a:=h1
 have h2:KM.vl h*uW (fU ([r0 a b m0 g,r1 a b m1 h,r2 a c m2 gx].map dU) m) a≤uW (fU ([r0 a b m0 g,r1 a b m1 h,r2 a c m2 gx].map dU) m) b:=h2
 generalize uW (fU ([r0 a b m0 g,r1 a b m1 h,r2 a c m2 gx].map dU) m) a=ua at *
 generalize uW (fU ([r0 a b m0 g,r1 a b m1 h,r2 a c m2 gx].map dU) m) b=ub at *
 have h3:=FU h2 (Rat.le_of_lt w.dg.v0)
 have h4:KM.vl mo*ua≤ua:=by
  have e1:=w.dh.2
  have e2:KM.vl h*ua*KM.vl g=KM.vl mo*ua:=by rw [←e1];grind
  have e3:ub*KM.vl g=KM.vl g*ub:=Rat.mul_comm ..
  rw [e2,e3] at h3
  exact Rat.le_trans h3 h1
 have h5:=Rat.mul_lt_mul_of_pos_right w.big pa
 rw [Rat.one_mul] at h5
 exact absurd h5 (Rat.not_lt.mpr h4)
theorem Rn.ok (w:Rn a b c d m0 m1 m2 g h gx mo):vj (aj (cH a b c m0 m1 m2 g h gx) z3 3) (.ring [r0 a b m0 g,r1 a b m1 h] [r2 a c m2 gx]):=by
 have e:KM.vl (cO (1,1) [r0 a b m0 g,r1 a b m1 h])=KM.vl mo:=by
  show KM.vl (KM.lTim (KM.lTim (1,1) g) h)=_
  rw [pK w.dg.rd,(lI w.dg.rd w.dh.1.rd).2,Rat.mul_comm]
  exact w.dh.2
 refine ⟨fun s hs=>?_,(by show 2≤10;decide),fun s hs=>?_,(by show 1≤10;decide),by rw [e];exact w.big⟩
 ·rw [w.son]
  have:s=r0 a b m0 g∨s=r1 a b m1 h:=by simpa using hs
  rcases this with rfl | rfl
  ·exact ⟨by simp,w.dg.g.mono (by decide) (by decide),w.dg.p1⟩
  ·exact ⟨by simp,w.dh.1.g.mono (by decide) (by decide),w.dh.1.p1⟩
 ·rw [w.son,List.mem_singleton.mp hs]
  exact ⟨by simp,w.gx.g.mono (by decide) (by decide),w.gx.p1⟩
structure wG (p0 p1 p2 x:KM.Fra):Prop where
 a0:KM.vl x≤KM.vl p0
 a1:KM.vl x≤KM.vl p1
 a2:KM.vl x≤KM.vl p2
 eq:x=p0∨x=p1∨x=p2
theorem wG.one {p0 p1 p2 x y:KM.Fra} (r0:KM.Rd p0) (r1:KM.Rd p1) (r2:KM.Rd p2) (h:wG p0 p1 p2 x) (k:wG p0 p1 p2 y):x=y:=by
 have rd:∀{z},wG p0 p1 p2 z→KM.Rd z:=fun h=>by rcases h.eq with e | e | e <;> rw [e] <;> assumption
 have le:∀{z u},wG p0 p1 p2 z→wG p0 p1 p2 u→KM.vl z≤KM.vl u:=fun h k=>by
  rcases k.eq with e | e | e <;> rw [e]
  ·exact h.a0
  ·exact h.a1
  ·exact h.a2
 exact (rd h).eq (rd k) (Rat.le_antisymm (le h k) (le k h))
theorem Rn.bey (w:Rn a b c d m0 m1 m2 g h gx mo):Dr 8 2 (aX mo (1,1)):=by
 obtain ⟨r,v⟩:=yK w.dm.rd wH
 have gb:Gb 8 2 (aX mo (1,1)):=w.dm.g.min (show Gb 1 1 (1,1) from ⟨show (1:Int).natAbs<2 ^ 1 by decide,show (1:Int).natAbs<2 ^ 1 by decide,by decide⟩) (by decide) (by decide) (by decide)
 refine ⟨gb,r.2,?_⟩
 have h1:=(gE (p:=(1,1)) (q:=mo) (by decide) w.dm.g.pos).mp (by rw [zi];exact w.big)
 have h2:1*mo.2<mo.1*1:=h1
 have:=(KM.low_sgn (n:=mo.1*1 - 1*mo.2) (d:=mo.2*1) (by have:=w.dm.g.pos;trivial)).1.mpr (by trivial)
 exact this
theorem Rn.parts (w:Rn a b c d m0 m1 m2 g h gx mo):(BT.ring [r0 a b m0 g,r1 a b m1 h] [r2 a c m2 gx]).parts=[(r0 a b m0 g,(1,1)),(r1 a b m1 h,g),(r2 a c m2 gx,aX mo (1,1))]:=by
 have e1:KM.lTim (1,1) g=g:=pK w.dg.rd
 have e2:KM.lTim g h=mo:=by
  obtain ⟨r,v⟩:=lI w.dg.rd w.dh.1.rd
  exact r.eq w.dm.rd (by rw [v,Rat.mul_comm];exact w.dh.2)
 show [(r0 a b m0 g,(1,1)),(r1 a b m1 h,KM.lTim (1,1) g),(r2 a c m2 gx,aX (KM.lTim (KM.lTim (1,1) g) h) (1,1))]=_
 rw [e1,e2]
theorem Rn.beg (w:Rn a b c d m0 m1 m2 g h gx mo) {q:KM.Fra} (k:Co (BT.ring [r0 a b m0 g,r1 a b m1 h] [r2 a c m2 gx]).parts q):wG m0 (aH m1 g) (aH m2 (aX mo (1,1))) q:=by
 obtain ⟨⟨x,hx,e⟩,al⟩:=k
 rw [w.parts] at hx al
 have v0:aH (r0 a b m0 g).room (1,1)=m0:=by
  show aH (aX m0 (0,1)) (1,1)=_
  rw [mh w.m0.rd,ki w.m0.rd]
 have v1:aH (r1 a b m1 h).room g=aH m1 g:=by
  show aH (aX m1 (0,1)) g=_
  rw [mh w.m1.rd]
 have v2:aH (r2 a c m2 gx).room (aX mo (1,1))=aH m2 (aX mo (1,1)):=by
  show aH (aX m2 (0,1)) _=_
  rw [mh w.m2.rd]
 have a0:KM.vl q≤KM.vl (aH (r0 a b m0 g).room (1,1)):=al (r0 a b m0 g,(1,1)) (by simp)
 have a1:KM.vl q≤KM.vl (aH (r1 a b m1 h).room g):=al (r1 a b m1 h,g) (by simp)
 have a2:KM.vl q≤KM.vl (aH (r2 a c m2 gx).room (aX mo (1,1))):=al (r2 a c m2 gx,aX mo (1,1)) (by simp)
 rw [v0] at a0
 rw [v1] at a1
 rw [v2] at a2
 refine ⟨a0,a1,a2,?_⟩
 have hx':x=(r0 a b m0 g,(1,1))∨x=(r1 a b m1 h,g)∨x=(r2 a c m2 gx,aX mo (1,1)):=by simpa using hx
 rcases hx' with rfl | rfl | rfl
 ·exact .inl (e.trans v0)
 ·exact .inr (.inl (e.trans v1))
 ·exact .inr (.inr (e.trans v2))
theorem Rn.bet (w:Rn a b c d m0 m1 m2 g h gx mo) {q:KM.Fra} (rq:KM.Rd q):fu (cH a b c m0 m1 m2 g h gx) q z3 (BT.ring [r0 a b m0 g,r1 a b m1 h] [r2 a c m2 gx]).parts=[q,KM.lTim q g,KM.lTim q (aX mo (1,1))]:=by
 rw [w.parts]
 show [KM.ladd (0,1) (KM.lTim q (1,1)),KM.ladd (0,1) (KM.lTim q g),KM.ladd (0,1) (KM.lTim q (aX mo (1,1)))]=_
 rw [sO rq,qm rq,qm (rq.tim w.dg.rd),qm (rq.tim w.bey.rd)]
end
end K21
namespace K21
open PySem L2
set_option maxHeartbeats 8000000
section
variable {P:Program}{w:World}{K:PySem.W.Frag}{mg:Str→Option Value}{base:Heap}
theorem zV {σ:St}{D:gl}{i:Nat}{O:Addr}{I:Hp}{xs:List V}{d:PyData}{te:TE} (e:σ[i]?=some (some (.ref O))) (hO:I O=some (.lst xs)) (l:xs.length≤10000) (ev:aU (fun _=>True) σ te d) (k:∀v I3 I4,aa I I3→aI (Eb O) I3 v d→Ch I3 O (xs++[v]) I4→D.nx σ I4):CZ (IT K "list" GE (uo i) (kX te u9)) D σ I:=
 ⟨_,e,.inl ⟨rfl,_,ak.of hO⟩,ev (Eb O) I _ trivial (fun a z=>by rw [show a=O from z,hO];exact fun z=>by cases z) fun v I3 s3 iv=>⟨O,xs,v,rfl,rfl,s3 _ _ hO,l,fun I4 c4=>k v I3 I4 s3 iv c4⟩⟩
theorem Ab (T:Txt K mg):aZ P w K mg base CX0 12 T.l_ring_right_.f T.l_ring_right_.d ["_law_box_here"] (BC 100):=by
 have G_l_names_by:=#[(rV)]
 have G_l_take:=#[(wa)]
 have G_l_frac:=#[(pF)]
 have G_l_much_by:=#[(uj)]
 have G_l_gain_by:=#[(xK)]
 have G_l_lesser:=#[(zx)]
 have G_l_over:=#[(zY)]
 have G_l_minus:=#[(Dt)]
 have G_l_product:=#[(vw)]
 have G_shows_bettering:=#[(jS)]
 have G_bettering:=#[(pY)]
 have G_bettered:=#[(rE)]
 refine T.l_ring_right_.F.ok aT (fun vs H Q E h=>?_) (fun cdv A outer s H vs Q E hr h=>?_)
 ·obtain ⟨b,t,rfl,_⟩:=h
  rfl
 ·obtain ⟨b,t,rfl,B,ht0,ht1,k⟩:=h
  refine ⟨_,#[#[dZ 6 #[G_l_names_by,pz,T.l_names_by_,#[[#[0,(cA)],#[()]]]] (@b4 _ (K) _ _ _ _ (4) rfl #[au 5 #[1,aT.nd,eZ] #[au 5 #[2,aT.nd,gI] #[au 5 #[dj 2 (3) _ aT.nd rfl (Or.inr df) (by first | exact .inl rfl | exact .inr rfl | assumption)] #[au 5 #[dj 2 (4) _ aT.nd rfl (Or.inr eV) (by first | exact .inl rfl | exact .inr rfl | assumption)] (@b3 _) (by rfl)] (by rfl)] (by rfl)] (by rfl)] (by rfl) (by rfl) (by rfl)) (by rfl) (by rfl) (by rfl)] :: #[#[vd 2 (5) (6) _ _ _ _ _ _ _ _ _ _ _ rfl aT.nd rfl rfl (by decide) du fi #[[#[G_l_gain_by,jZ,T.l_gain_by_,#[[#[0,(cA)]]]],#[G_l_frac,sK,T.l_frac_,#[[#[aC 8 (@iE _) #[()] #[G_l_take,lw,T.l_take_,#[[#[0,(cA)],#[()]]]]],#[()]]]]]] (by kernel_rfl) (by rfl)] :: #[#[pi 7 (["_law_k", "_law_box_here"]) (1) ([0]) _ _ _ _ (7) _ _ _ aT.nd rfl bX (by kernel_rfl) rfl (by kernel_rfl) #[gG 6 ur T.b_range #[[#[()]]] (by rfl)] (fun _ _ _ _ _ _=>#[0,(),()]) (fun _ _ _ _ _ _=>@bE _) (fun _ _ _ _ _ _=>#[G_l_much_by,(),T.l_much_by_,#[[#[1,0]]]]) (by intro _;rfl)] :: #[#[8,aT.nd,dY,#[cn 8 (@qW _) #[G_l_take,lw,T.l_take_,#[[#[0,(cA)],#[()]]]] #[()] #[(),()]]] :: #[#[9,aT.nd,eR,#[aV 4 #[[#[5,du],#[G_l_over,iA,T.l_over_,#[[#[6,fi],#[5,du]]]],#[G_l_gain_by,jZ,T.l_gain_by_,#[[#[0,(cA)]]]]]]]] :: #[#[10,aT.nd,ik,#[aV 4 #[[#[ag 5 #[[#[1,eZ],#[2,gI],#[#[7,bX][#[()]]!],#[#[9,eR][#[()]]!],#[ag 5 #[[#[()],#[()]]]]]]],#[ag 5 #[[#[2,gI],#[1,eZ],#[#[7,bX][#[()]]!],#[#[9,eR][#[()]]!],#[ag 5 #[[#[()],#[()]]]]]]]]]]] :: #[#[jo 4 (@fN _ (K) _ _ _ _ _ _ _ _ _ _ _ PySem.F.plainAttrs_list PySem.F.slot_list_append PySem.F.type_list_append (@fD _) #[10,ik] #[[#[ag 5 #[[#[1,eZ],#[3,(df)],#[qu 8 #[b9 3 #[8,dY] (by intro _;rfl)] #[#[7,bX][#[()]]!] #[ag 5 #[[#[()],#[()]]]]],#[#[9,eR][#[()]]!],#[ag 5 #[[#[()],#[()]]]]]]]]] (by rfl) (by rfl) (by rfl) (by rfl) (by rfl) (by rfl)) (by rfl)] :: #[#[dZ 6 #[ag 5 #[[#[ag 5 #[[#[ag 5 #[[#[1,eZ],#[2,gI],#[3,(df)],#[4,(eV)]]]],#[fe 9 (@fM _ (K) (by rfl)) tP T.b_tuple (@cJ) #[[#[10,ik]]] (by decide) (by decide) (by rfl) (by rfl)]]]],#[aC 8 (@B7 _) #[aV 4 #[[#[ag 5 #[[#[()],#[()]]]]]]] #[()]]]]] (@b4 _ (K) _ _ _ _ (2) rfl #[au 5 #[dj 2 (11) _ aT.nd rfl (Or.inr fE) (by first | exact .inl rfl | exact .inr rfl | assumption)] #[au 5 #[dj 2 (12) _ aT.nd rfl (Or.inr fj) (by first | exact .inl rfl | exact .inr rfl | assumption)] (@b3 _) (by rfl)] (by rfl)] (by rfl) (by rfl) (by rfl)) (by rfl) (by rfl) (by rfl)] :: #[#[13,aT.nd,eO,#[ag 5 #[[#[da 4],#[aV 4 #[[#[ag 5 #[[#[()],#[br 4]]]],#[ag 5 #[[#[()],#[br 4]]]]]]],#[aV 4 #[[#[ag 5 #[[#[()],#[br 4]]]]]]]]]]] :: #[#[14,aT.nd,dS,#[aV 4 #[[#[ag 5 #[[#[da 4],#[aV 4 #[[#[ag 5 #[[#[()],#[br 4]]]],#[ag 5 #[[#[()],#[br 4]]]]]]],#[aV 4 #[[#[ag 5 #[[#[()],#[br 4]]]]]]]]]],#[ag 5 #[[#[da 4],#[aV 4 #[[#[ag 5 #[[#[()],#[br 4]]]],#[ag 5 #[[#[()],#[br 4]]]]]]],#[aV 4 (@cj _)]]]]]]]] :: #[#[jo 4 (@fN _ (K) _ _ _ _ _ _ _ _ _ _ _ PySem.F.plainAttrs_list PySem.F.slot_list_append PySem.F.type_list_append (@fD _) #[14,dS] #[[#[ag 5 #[[#[da 4],#[aV 4 #[[#[ag 5 #[[#[()],#[br 4]]]]]]]]]]]] (by rfl) (by rfl) (by rfl) (by rfl) (by rfl) (by rfl)) (by rfl)] :: #[#[jo 4 (@fN _ (K) _ _ _ _ _ _ _ _ _ _ _ PySem.F.plainAttrs_list PySem.F.slot_list_append PySem.F.type_list_append (@fD _) #[14,dS] #[[#[ag 5 #[[#[da 4],#[aV 4 #[[#[ag 5 #[[#[()],#[br 4]]]],#[ag 5 #[[#[()],#[br 4]]]],#[ag 5 #[[#[()],#[br 4]]]],#[ag 5 #[[#[()],#[br 4]]]]]]],#[aV 4 #[[#[ag 5 #[[#[()],#[br 4]]]]]]]]]]]] (by rfl) (by rfl) (by rfl) (by rfl) (by rfl) (by rfl)) (by rfl)] :: #[#[bA 8 #[b9 3 #[(),(),(@Lq _ (K) rfl (by rfl)),va,T.b_any,(@C0),#[[#[b5 7 (["_law_one", "_law_c", "_law_d", "_law_net", "_law_none"]) (1) ([3,4,11,12]) _ _ _ _ rfl (by kernel_rfl) (@bF _ (K) _ _ _ #[14,dS] (by rfl)) (fun _ _ _ _ _ _=>#[0,(),()]) (fun _ _ _ _ _ _=>@bE _) (fun _ _ _ _ _ _=>#[G_shows_bettering,(),T.shows_bettering_,#[[#[3,0],#[2,0],#[1,0],#[4,0],#[0,()]]]]) (by intro _;rfl)]]]] (by intro _;rfl)] #[ae 3 #[av 4 #[br 4]]] (@aQ _)] :: #[#[bA 8 #[aK 8 (@wp _) #[G_shows_bettering,mm,T.shows_bettering_,#[[#[11,(fE)],#[4,(eV)],#[3,(df)],#[12,(fj)],#[13,eO]]]] #[8,dY] #[(),()]] #[ae 3 #[av 4 #[br 4]]] (@aQ _)] :: #[#[bA 8 #[aK 8 (@vF _ hr.units) #[G_bettering,qd,T.bettering_,#[[#[11,(fE)],#[4,(eV)],#[3,(df)],#[12,(fj)]]]] #[qu 8 #[b9 3 #[8,dY] (by intro _;rfl)] #[13,eO] #[j9 3]] #[(),()]] #[ae 3 #[av 4 #[br 4]]] (@aQ _)] :: #[#[bA 8 #[dk 4 #[b9 3 #[8,dY] (by intro _;rfl)]] #[ae 3 #[av 4 #[br 4]]] (@aQ _)] :: #[#[15,aT.nd,cq,#[G_l_lesser,kq,T.l_lesser_,#[[#[#[7,bX][#[()]]!],#[G_l_over,iA,T.l_over_,#[[#[#[7,bX][#[()]]!],#[5,du]]]]]]]] :: #[#[15,aT.nd,cq,#[G_l_lesser,kq,T.l_lesser_,#[[#[15,cq],#[G_l_over,iA,T.l_over_,#[[#[#[7,bX][#[()]]!],#[G_l_minus,kU,T.l_minus_,#[[#[6,fi],#[ag 5 #[[#[()],#[()]]]]]]]]]]]]]] :: #[#[16,aT.nd,mj,#[aV 4 #[[#[15,cq],#[G_l_product,jV,T.l_product_,#[[#[15,cq],#[5,du]]]],#[G_l_product,jV,T.l_product_,#[[#[15,cq],#[G_l_minus,kU,T.l_minus_,#[[#[6,fi],#[ag 5 #[[#[()],#[()]]]]]]]]]]]]]] :: #[ae 3 #[av 4 #[cn 8 (@sT _ hr.units) #[G_bettered,qz,T.bettered_,#[[#[11,(fE)],#[4,(eV)],#[3,(df)],#[12,(fj)],#[13,eO]]]] #[16,mj] #[(),()]]]]]]]]]]]]]]]]]]]]]]],?_⟩
  refine bv fun D1 nA1=>⟨(),b,4,t,rfl,B,ht0,by trivial,by decide,by decide,fun q ls t1 H1 s1 hq l4 nd nc B1 h1a h1b=>?_⟩
  obtain ⟨la,lb,lc,ld,rfl⟩:=GL ls l4
  refine ⟨q,(),ar.of hq,rfl,_,(),_,(),_,(),_,(),rfl,nA1 _ _ ?_⟩
  refine bv fun D2 nA2=>⟨(),b,t1,rfl,B1,by trivial,by trivial,fun og g t2 H2 s2 hg dg B2 h2a h2b=>⟨(),b,5,t2,rfl,B2,by decide,by decide,by trivial,by trivial,fun r t3 H3 r0' r1' h3a h3b s3 B3=>⟨_,(),rfl,2+r,1,rfl,by decide,Sz.mono (m:=1) (show (1:Int).natAbs<2 ^ 1 by decide) (by decide),fun oo H4 n4=>⟨_,(),nA2 _ _ ?_⟩⟩⟩⟩
  have B4:=B3.same n4.sm
  refine cw fun Q3 nA3=>⟨3,rfl,by decide,by decide,fun M hM=>uc (c:=4) (d:=2) (by decide) rfl hM B4 (by trivial) (by trivial) ?_⟩
  intro zm pm t5 H5 s5 hM5 iM lM dM B5 h5a h5b
  refine nA3 _ _ ?_
  obtain ⟨m0,m1,m2,rfl⟩:∃a,∃b,∃c,pm=[a,b,c]:=lP (P:=fun ds=>∃a,∃b,∃c,ds=[a,b,c]) (fun a b c=>⟨a,b,c,rfl⟩) pm lM
  refine cw fun Q4 nA4=>⟨(),b,4,t5,rfl,B5,by decide,by decide,by trivial,by trivial,fun ron t6 H6 o0 o1 h6a h6b s6 B6=>⟨_,(),rfl,nA4 _ _ ?_⟩⟩
  have nM:¬M=b:=fun z=>B4.ne hM z.symm
  have ng:¬og=b:=by
   intro z
   subst z
   obtain ⟨c',x',hb,_⟩:=B2
   rw [hg] at hb;cases hb
  have no:¬oo=b:=fun z=>B3.ne n4.fr z.symm
  have sE:bV (Eb b) H2 H6:=((s3.trans n4.sm.toE).trans s5).trans s6
  have hg6:=sE.old og _ ng hg
  have ho6:=(s5.trans s6).old oo _ no n4.at'
  have hM6:=s6.old M _ nM hM5
  have iM6:=iM.mono (ny s6)
  have dmo:Dr 3 1 (KM.low (2+r) 1):=AD (show (2+r).natAbs<8 by trivial) (show (1:Int).natAbs<2 by decide) (by trivial) (by decide)
  have vmo:1<KM.vl (KM.low (2+r) 1):=by
   have e:KM.low (2+r) 1=(2+r,1):=by
    have h:=KM.low_spec (2+r) 1 (by decide)
    have:=dmo.g.d
    have e2:(KM.low (2+r) 1).2=1:=by
     have h1:=dmo.g.pos
     have h2:(KM.low (2+r) 1).2.natAbs<2:=dmo.g.d
     trivial
    have e1:=h.2.1
    rw [e2] at e1
    exact Prod.ext (by show (KM.low (2+r) 1).1=2+r;trivial) e2
   rw [e]
   have:=(gE (p:=(1,1)) (q:=(2+r,1)) (by decide) (Int.le_refl 1)).mpr (by show (1:Int)*1<(2+r)*1;trivial)
   rwa [zi] at this
  generalize KM.low (2+r) 1=mo at *
  refine cw fun Q5 nA5=>⟨(),(),(),oo,og,mo,g,_,_,_,(),ho6,hg6,dmo.g,dg.g,by decide,by decide,by decide,by decide,(fun _=>dg.p1),fun oh H7 n7=>⟨(),b,t6,rfl,B6.same n7.sm,by trivial,by trivial,fun ogx gx t8 H8 s8 hgx dgx B8 h8a h8b=>⟨(by show 3≤10000;decide),fun G H9 n9=>nA5 _ _ ?_⟩⟩⟩
  have nh:¬oh=b:=fun z=>B6.ne n7.fr z.symm
  have s69:bV (Eb b) H6 H9:=(n7.sm.toE.trans s8).trans n9.sm.toE
  have hg9:=s69.old og _ ng hg6
  have ho9:=s69.old oo _ no ho6
  have hh9:=(s8.trans n9.sm.toE).old oh _ nh n7.at'
  have hgx9:=n9.sm _ _ hgx
  have hM9:=s69.old M _ nM hM6
  have iM9:=iM6.mono (ny s69)
  have hG9:H9 G=some (.lst [.ref og,.ref oh,.ref ogx]):=n9.at'
  have B9:=B8.same n9.sm
  obtain ⟨zm0,zm1,zm2,rfl⟩:∃a,∃b,∃c,zm=[a,b,c]:=lP (P:=fun ds=>∃a,∃b,∃c,ds=[a,b,c]) (fun a b c=>⟨a,b,c,rfl⟩) zm (by rw [iM9.length];rfl)
  obtain ⟨om0,rfl,hm0⟩:=cm (iM9.nth 0 rfl rfl)
  obtain ⟨om1,rfl,hm1⟩:=cm (iM9.nth 1 rfl rfl)
  obtain ⟨om2,rfl,hm2⟩:=cm (iM9.nth 2 rfl rfl)
  have w:Rn la lb lc ld m0 m1 m2 g (aH mo g) gx mo:=by
   simp at nd
   exact ⟨fun z=>nd.1.1 z,fun z=>nd.1.2.1 z,fun z=>nd.1.2.2 z,fun z=>nd.2.1.1 z,fun z=>nd.2.1.2 z,fun z=>nd.2.2 z,dM _ (by simp),dM _ (by simp),dM _ (by simp),dg,dgx,dmo,vmo,rfl⟩
  have fin:∀H',aa H9 H'→Q (.bl true) H':=fun H' s'=>k t8 H' (((s1.trans s2).trans sE).trans (s69.trans s'.toE)) (B9.same s') (by trivial) (by trivial)
  clear k B B1 B2 B3 B4 B5 B6 B8 s1 s2 s3 s5 s6 s8 sE s69 n4 n7 hq hg hM5 iM hM6 iM6 hg6 ho6 hgx
  show nj _ _ _ [some (.ref b),some (aG la),some (aG lb),some (aG lc),some (aG ld),some (.ref og),some (.ref oo),some (.ref M),some (.bl (decide (0<ron))),some (.ref G),none,none,none,none,none,none,none] _
  obtain ⟨mx,emx⟩:∃mx,mx=if decide (0<ron)=true then m2 else (0,1):=⟨_,rfl⟩
  have hx:mx=m2∨mx=(0,1):=by
   rw [emx]
   cases decide (0<ron)
   ·exact .inr rfl
   ·exact .inl rfl
  have st:xw (aa H9):=fun _ _ a b=>b.trans a
  have lM:∀{H' j om p},aa H9 H'→lL [V.ref om0,.ref om1,.ref om2] j=some (.ref om)→H9 om=some (fr p)→H' M=some (.lst [.ref om0,.ref om1,.ref om2])∧aI ED H' (.ref om) (aN p):=fun s' _ h=>⟨s' _ _ hM9,cB (s' _ _ h)⟩
  have lG:∀{H' om p},aa H9 H'→H9 om=some (fr p)→H' G=some (.lst [.ref og,.ref oh,.ref ogx])∧aI ED H' (.ref om) (aN p):=fun s' h=>⟨s' _ _ hG9,cB (s' _ _ h)⟩
  have e01:∀σ:St,aU (aa H9) σ (An (kX (tC (.int 0)) (kX (tC (.int 1)) u9))) (aN (0,1)):=fun σ=>.tup (.cons st (.int 0) (.cons st (.int 1) .nil))
  refine cw fun Q6 nA6=>(show cZ (aa H9) _ _ 2 [jx ⟨la,lb,m0,g,(0,1)⟩,jx ⟨lb,la,m1,aH mo g,(0,1)⟩] from cZ.cons st (aU.tup (.cons st (aU.var rfl fun _ _=>.str _) (.cons st (aU.var rfl fun _ _=>.str _) (.cons st (aU.ixl rfl (aW (j:=0) rfl) fun H' s'=>lM s' (aW (j:=0) rfl) hm0) (.cons st (aU.ixl rfl (aW (j:=0) rfl) fun H' s'=>lG s' hg9) (.cons st (e01 _) .nil)))))) (.cons st (aU.tup (.cons st (aU.var rfl fun _ _=>.str _) (.cons st (aU.var rfl fun _ _=>.str _) (.cons st (aU.ixl rfl (aW (j:=1) rfl) fun H' s'=>lM s' (aW (j:=1) rfl) hm1) (.cons st (aU.ixl rfl (aW (j:=1) rfl) fun H' s'=>lG s' hh9) (.cons st (e01 _) .nil)))))) .nil)) (fun _=>False) H9 _ (aa.refl _) (fun a e=>e.elim) fun vs I1 i1 lv iv=>⟨by trivial,fun L10 I2 i2=>nA6 _ _ ?_⟩
  cases iv with
  | @cons v1 _ _ _ iv1 iv=>
  cases iv with
  | @cons v2 _ _ _ iv2 iv=>
  cases iv
  have iv1:=(BB iv1).mono (H':=I2) i2.sm.toE
  have iv2:=(BB iv2).mono (H':=I2) i2.sm.toE
  have s92:aa H9 I2:=i1.trans i2.sm
  have fL:H9 L10=none:=i1.free i2.fr
  refine bv fun D7 nA7=>⟨(),.inl ⟨rfl,_,ak.of i2.at'⟩,(show cZ (aa H9) _ _ 1 [jx ⟨la,lc,mx,gx,(0,1)⟩] from cZ.one st (aU.tup (.cons st (aU.var rfl fun _ _=>.str _) (.cons st (aU.var rfl fun _ _=>.str _) (.cons st (aU.ite rfl (fun eb=>by
   rw [emx,if_pos eb]
   exact aU.ixl rfl (aW (j:=2) rfl) fun H' s'=>lM s' (aW (j:=2) rfl) hm2) fun eb=>by
   rw [emx,eb,if_neg Bool.false_ne_true]
   exact e01 _) (.cons st (aU.ixl rfl (aW (j:=2) rfl) fun H' s'=>lG s' hgx9) (.cons st (e01 _) .nil))))))) (fun _=>False) I2 _ s92 (fun a e=>e.elim) fun vs I3 i3 lv' iv=>?_⟩
  cases iv with
  | @cons v3 _ _ _ iv3 iv=>
  cases iv
  refine ⟨L10,_,v3,rfl,rfl,i3 _ _ i2.at',(by show 2≤10000;decide),fun I4 c4=>nA7 _ _ ?_⟩
  have sC:=Ch.sameE (aa.refl _) (i3 _ _ i2.at') c4
  have s94:aa H9 I4:=aa.ch (s92.trans i3) c4 fL
  have iT:ah ED I4 [v1,v2,v3] ((cH la lb lc m0 m1 mx g (aH mo g) gx).map jx):=.cons ((iv1.mono i3.toE).mono (ny sC)) (.cons ((iv2.mono i3.toE).mono (ny sC)) (.cons ((BB iv3).mono (ny sC)) .nil))
  have hL4:I4 L10=some (.lst [v1,v2,v3]):=c4.at'
  refine bv fun D8 nA8=>⟨(),(),(),(),(by show 4≤10000;decide),fun PL J0 j0=>⟨(),L10,(),ak.of (j0.sm _ _ hL4),fun TL J1 j1=>⟨(by show 2≤10000;decide),fun N J2 j2=>⟨(by show 2≤10000;decide),fun Z0 K1 u1=>⟨(by show 1≤10000;decide),fun Z1 K2 u2=>⟨Z1,3,(),rfl,u2.at',by decide,by decide,(by show 1*3≤10000;decide),fun Z K3 u3=>⟨(by show 2≤10000;decide),fun TP K4 u4=>⟨TP,(),ar.of u4.at',rfl,_,(),_,(),rfl,nA8 _ _ ?_⟩⟩⟩⟩⟩⟩⟩⟩
  have s02:aa J0 J2:=j1.sm.trans j2.sm
  have s24:aa J2 K4:=((u1.sm.trans u2.sm).trans u3.sm).trans u4.sm
  have s44:aa I4 K4:=(j0.sm.trans s02).trans s24
  have iN:aI ED K4 (.ref N) (iV [la,lb,lc,ld] (cH la lb lc m0 m1 mx g (aH mo g) gx)):=.tup (s24 _ _ j2.at') (.cons (.tup (s24 _ _ (s02 _ _ j0.at')) (.cons (.str _) (.cons (.str _) (.cons (.str _) (.cons (.str _) .nil))))) (.cons (.tup (s24 _ _ (j2.sm _ _ j1.at')) (iT.mono s44.toE)) .nil))
  have hZ:K4 Z=some (.lst [.ref Z0,.ref Z0,.ref Z0]):=u4.sm _ _ u3.at'
  have iZ0:aI ED K4 (.ref Z0) (aN (0,1)):=cB (p:=(0,1)) (u4.sm _ _ (u3.sm _ _ (u2.sm _ _ u1.at')))
  have iZ:ah ED K4 [.ref Z0,.ref Z0,.ref Z0] (z3.map aN):=.cons iZ0 (.cons iZ0 (.cons iZ0 .nil))
  have s9K:aa H9 K4:=s94.trans s44
  clear iT iv1 iv2 iv3 c4 sC i1 i2 i3 hL4 s44 s24 s02 j0 j1 j2 u1 u2 u3 u4
  have stT:xw (fun _=>True):=fun _ _ _ _=>trivial
  have rg:∀(σ:St) (b0 b1:Int),aU (fun _=>True) σ _ (eS [aD b0 false,aD b1 false] [aD 2 false]):=fun σ b0 b1=>aU.tup (.cons stT (aU.str _) (.cons stT (aU.lst (.cons stT (aU.pr stT b0 false) (.cons stT (aU.pr stT b1 false) .nil))) (.cons stT (aU.lst (.cons stT (aU.pr stT 2 false) .nil)) .nil)))
  refine cw fun Q9 nA9=>rg _ 0 1 (fun _=>False) K4 _ trivial (fun a e=>e.elim) fun vR K5 s5 iR=>nA9 _ _ ?_
  refine cw fun Q10 nA10=>(show cZ (fun _=>True) _ _ 2 [eS [aD 1 false,aD 0 false] [aD 2 false],eS [aD 0 false,aD 1 false] []] from .cons stT (rg _ 1 0) (.cons stT (aU.tup (.cons stT (aU.str _) (.cons stT (aU.lst (.cons stT (aU.pr stT 0 false) (.cons stT (aU.pr stT 1 false) .nil))) (.cons stT (aU.lst .nil) .nil)))) .nil)) (fun _=>False) K5 _ trivial (fun a e=>e.elim) fun vs I1 i1 lv iv=>⟨by trivial,fun O I2 i2=>nA10 _ _ ?_⟩
  show nj _ _ _ [some (.ref b),some (aG la),some (aG lb),some (aG lc),some (aG ld),some (.ref og),some (.ref oo),some (.ref M),some (.bl (decide (0<ron))),some (.ref G),some (.ref L10),some (.ref N),some (.ref Z),some vR,some (.ref O),none,none] _
  have fO5:K5 O=none:=i1.free i2.fr
  have toO:∀{H':Hp}{v:V}{d:PyData},H' O=none→aI (fun _=>False) H' v d→aI (Eb O) H' v d:=fun h i=>(i.plus h).narrow fun a e=>.inr e
  have iRO:=toO fO5 iR
  cases iv with
  | @cons v1 _ _ _ iv1 iv=>
  cases iv with
  | @cons v2 _ _ _ iv2 iv=>
  cases iv
  have iv1:=(toO i2.fr iv1).mono (H':=I2) i2.sm.toE
  have iv2:=(toO i2.fr iv2).mono (H':=I2) i2.sm.toE
  have s52:aa K5 I2:=i1.trans i2.sm
  have alO:∀{H':Hp}{xs:List V},H' O=some (.lst xs)→zM (Eb O) H':=fun h a e=>by rw [show a=O from e,h];exact fun z=>by cases z
  refine bv fun D11 nA11=>zV rfl i2.at' (by show 2≤10000;decide) (aU.tup (.cons stT (aU.str _) (.cons stT (aU.lst (.cons stT (aU.pr stT 2 false) .nil)) .nil))) fun v3 I3 I4 i3 iv3 c4=>nA11 _ _ ?_
  have sC4:=Ch.sameE (aa.refl _) (i3 _ _ i2.at') c4
  have s54:aa K5 I4:=aa.ch (s52.trans i3) c4 fO5
  have hO4:I4 O=some (.lst [v1,v2,v3]):=c4.at'
  refine bv fun D12 nA12=>zV rfl hO4 (by show 3≤10000;decide) (aU.tup (.cons stT (aU.str _) (.cons stT (aU.lst (.cons stT (aU.pr stT 0 false) (.cons stT (aU.pr stT 1 false) (.cons stT (aU.pr stT 0 false) (.cons stT (aU.pr stT 1 false) .nil))))) (.cons stT (aU.lst (.cons stT (aU.pr stT 2 false) .nil)) .nil)))) fun v4 I5 I6 i5 iv4 c6=>nA12 _ _ ?_
  have sC6:=Ch.sameE (aa.refl _) (i5 _ _ hO4) c6
  have s56:aa K5 I6:=aa.ch (s54.trans i5) c6 fO5
  have hO6:I6 O=some (.lst [v1,v2,v3,v4]):=c6.at'
  have i46:bV (Eb O) I4 I6:=i5.toE.trans sC6
  have i26:bV (Eb O) I2 I6:=(i3.toE.trans sC4).trans i46
  have iO:ah (Eb O) I6 [v1,v2,v3,v4] [eS [aD 1 false,aD 0 false] [aD 2 false],eS [aD 0 false,aD 1 false] [],cR [aD 2 false],eS [aD 0 false,aD 1 false,aD 0 false,aD 1 false] [aD 2 false]]:=.cons (iv1.mono i26) (.cons (iv2.mono i26) (.cons ((iv3.mono sC4).mono i46) (.cons (iv4.mono sC6) .nil)))
  have s46:aa K4 I6:=s5.trans s56
  have s96:aa H9 I6:=s9K.trans s46
  have iR6:=iRO.mono (H':=I6) s56.toE
  clear iRO iv1 iv2 iv3 iv4 c4 c6 sC4 sC6 i46 i26 i1 i2 i3 i5 hO4
  have gz3:∀p∈z3,Gb 1 1 p∧Int.gcd p.1 p.2=1∧0≤p.1:=fun p hp=>by
   have:p=(0,1):=by simpa using hp
   rw [this];exact ⟨⟨show (0:Int).natAbs<2 ^ 1 by decide,show (1:Int).natAbs<2 ^ 1 by decide,by decide⟩,by decide,by decide⟩
  have tgs:∀t∈cH la lb lc m0 m1 mx g (aH mo g) gx,kG [la,lb,lc,ld] t:=fun t ht=>(w.gd hx t ht).1
  obtain ⟨dD,dG',N6⟩:=xT (H:=I6) (ls:=[la,lb,lc,ld]) (ts:=cH la lb lc m0 m1 mx g (aH mo g) gx) (iN.mono s46.toE) tgs (fun t ht=>(w.gd hx t ht).2) (by show 3≤8;decide) (by show 4≤8;decide) (s46 _ _ hZ) (iZ.mono s46.toE) rfl gz3 (by decide) (by decide)
  have sz9:∀i:Int,i.natAbs<16→Sz 1900 i:=fun i h=>Sz.mono (m:=4) h (by decide)
  have prs:∀ps:List (Int×Bool),(∀p∈ps,p.1.natAbs<16)→kS (ps.map fun p=>aD p.1 p.2) (3*ps.length) 1:=fun ps h=>xM ps fun p hp=>sz9 _ (h p hp)
  have wS:∀{s:String},Dx (Str.ofString s)→∀{k},Wt (.str (Str.ofString s)) 1 k:=fun h=>.str h
  have tR:Dx (Str.ofString "ring"):=⟨by nofun,by nofun⟩
  have tW:Dx (Str.ofString "way"):=⟨by nofun,by nofun⟩
  have wRing:∀(ps qs:List (Int×Bool)),(∀p∈ps,p.1.natAbs<16)→(∀p∈qs,p.1.natAbs<16)→Wt (eS (ps.map fun p=>aD p.1 p.2) (qs.map fun p=>aD p.1 p.2)) (1+(3*ps.length+1+(3*qs.length+1+0))+1) 3:=fun ps qs h1 h2=>.tuple (.cons (wS tR) (.cons (.list (prs ps h1)) (.cons (.list (prs qs h2)) .nil)))
  have w1:=wRing [(1,false),(0,false)] [(2,false)] (by decide) (by decide)
  have w2:=wRing [(0,false),(1,false)] [] (by decide) (by decide)
  have w4:=wRing [(0,false),(1,false),(0,false),(1,false)] [(2,false)] (by decide) (by decide)
  have wR:=wRing [(0,false),(1,false)] [(2,false)] (by decide) (by decide)
  have w3:Wt (cR ([(2,false)].map fun p:Int×Bool=>aD p.1 p.2)) (1+(3*1+1+0)+1) 3:=.tuple (.cons (wS tW) (.cons (.list (prs [(2,false)] (by decide))) .nil))
  refine bv fun D13 nA13=>⟨(),O,rfl,⟨_,ak.of hO6⟩,fun Y hY=>oj [false,false,false,false] (by decide) hY ?_ ?_ ?_ ?_⟩
  ·intro i H' hi sm
   have hi:i<4:=hi
   exact ⟨_,[v1,v2,v3,v4][i],ak.of (sm _ _ hO6),List.getElem?_eq_getElem hi⟩
  ·intro H' sm
   exact ⟨_,ak.of (sm _ _ hO6),Nat.le_refl 4⟩
  ·rintro i b' x H' H'' R eb sm ⟨rfl,ex⟩ kR
   have hx':=ex _ (ak.of (sm _ _ hO6))
   have iO':=iO.mono (H':=H'') sm.toE
   have N':=N6.sm sm
   have row:bI fun d wn=>aI (Eb O) H'' x d∧Wt d wn 3∧wn≤2900∧iI [la,lb,lc,ld] (cH la lb lc m0 m1 mx g (aH mo g) gx) z3 ld lc d=b':=by
    rcases i with _ | _ | _ | _ | i
    ·cases eb;exact ⟨_,_,iO'.nth 0 hx' rfl,w1,by decide,(w.pre hx _).trans (w.o1 hx)⟩
    ·cases eb;exact ⟨_,_,iO'.nth 1 hx' rfl,w2,by decide,(w.pre hx _).trans (w.o2 hx)⟩
    ·cases eb;exact ⟨_,_,iO'.nth 2 hx' rfl,w3,by decide,(w.pre hx _).trans (w.o3 hx)⟩
    ·cases eb;exact ⟨_,_,iO'.nth 3 hx' rfl,w4,by decide,(w.pre hx _).trans (w.o4 hx)⟩
    ·simp at eb
   obtain ⟨d,wn,id,wd,hwn,esh⟩:=row
   refine ⟨eH,(),(),(),(),(),.ref N,x,Z,_,_,_,_,_,_,_,_,_,_,ld,lc,d,Eb O,wn,3,rfl,N',id,wd,hwn,by decide,fun H4 s4=>?_⟩
   rw [esh]
   exact kR H4 s4
  intro I7 s7 hY7
  refine ⟨Y,(),ak.of hY7,(),aJ (nA13 _ _ ?_)⟩
  have s47:=s46.trans s7
  have s97:=s96.trans s7
  have N7:=N6.sm s7
  have iR7:=iR6.mono (H':=I7) s7.toE
  have esh:iI [la,lb,lc,ld] (cH la lb lc m0 m1 mx g (aH mo g) gx) z3 ld lc (eS [aD 0 false,aD 1 false] [aD 2 false])=decide (0<ron):=by
   rw [w.pre hx]
   cases ho:decide (0<ron) with
   | true=>rw [emx,ho,if_pos rfl];exact w.right
   | false=>rw [emx,ho,if_neg Bool.false_ne_true];exact w.rightOff
  have same:∀c:Bool,(!decide (V.bl c=V.bl c))=false:=fun c=>by simp
  refine bv fun D14 nA14=>⟨(),(),(),(),(),.ref N,vR,Z,_,_,_,_,_,_,_,_,_,_,ld,lc,_,_,_,(),N7,iR7,wR,by decide,by decide,fun K8 s8=>⟨(),rfl,(),?_⟩⟩
  rw [esh]
  show (if (!decide (V.bl (decide (0<ron))=V.bl (decide (0<ron))))=true then _ else _)
  rw [same]
  refine aJ (nA14 _ _ ?_)
  have N8:=N7.sm s8
  have s98:=s97.trans s8
  have iR8:=iR7.mono (H':=K8) s8.toE
  have sg0:=so (ps:=z3) tgs (fun p hp=>(gz3 p hp).1.mono (by decide) (by decide)) (by show 3≤24;decide)
  cases ho:decide (0<ron) with
  | false=>
   obtain rfl:mx=(0,1):=by rw [emx,ho,if_neg Bool.false_ne_true]
   refine bv fun D15 nA15=>⟨(),(),(),(),.ref N,Z,[la,lb,lc,ld],cH la lb lc m0 m1 (0,1) g (aH mo g) gx,_,z3,ld,lc,rfl,N8.iN,tgs,(by show 3≤24;decide),N8.hs,N8.ix,rfl,fun p hp=>(gz3 p hp).1.mono (by decide) (by decide),fun s hs=>(sg0 s hs).1,by simp,(by show 4≤10;decide),fun T p yy pl cr K7 cs hf _ _ _ _ _=>absurd hf (w.noway hx cs),fun pl cr m' K9 cs pls cl nf _ _ s9=>?_,fun T p q ys zs pl cr r0 rs K7 cs rg pls cl nf _ _ _ _ _ _ _ _ _ _=>(w.noring cs rg).elim⟩
   refine ⟨(),false,rfl,?_⟩
   refine aJ ⟨.none,.none,ED,ED,1,1,0,0,.non,.non,.non,.non,by decide,(),?_⟩
   rw [show PyData.eqv .none .none=true by nofun]
   refine aJ (nA15 _ _ ?_)
   refine ⟨(),false,rfl,?_⟩
   exact ay (fin K9 (s98.trans s9))
  | true=>
   obtain rfl:mx=m2:=by rw [emx,ho,if_pos rfl]
   refine bv fun D15 nA15=>⟨(),(),(),(),.ref N,Z,[la,lb,lc,ld],cH la lb lc m0 m1 mx g (aH mo g) gx,_,z3,ld,lc,rfl,N8.iN,tgs,(by show 3≤24;decide),N8.hs,N8.ix,rfl,fun p hp=>(gz3 p hp).1.mono (by decide) (by decide),fun s hs=>(sg0 s hs).1,by simp,(by show 4≤10;decide),fun T p yy pl cr K7 cs hf _ _ _ _ _=>absurd hf (w.noway hx cs),fun pl cr m' K9 cs pls cl nf _ hl s9=>(w.lift cs.hd cl hl).elim,fun T p q ys zs pl cr s0' rs K9 cs rg pls cl nf sh s9 hT fp fq npq hp iz hq iw=>?_⟩
   obtain ⟨e1,e2⟩:=w.told cs rg sh
   rw [e1] at iz
   rw [e2] at iw
   have i1:aI (fun _=>False) K9 (.ref T) (eS [aD 0 false,aD 1 false] [aD 2 false]):=.tup hT (.cons (.str _) (.cons (.lst hp (fun z=>z) (iz.narrow fun _ z=>z.elim)) (.cons (.lst hq (fun z=>z) (iw.narrow fun _ z=>z.elim)) .nil)))
   refine ⟨(),true,rfl,?_⟩
   have wR':Wt (eS [aD 0 false,aD 1 false] [aD 2 false]) (1+(3*2+1+(3*1+1+0))+1) 3:=wR
   have iR9':=iR8.mono (H':=K9) s9.toE
   refine ay ⟨(),?_⟩
   refine ⟨eS [aD 0 false,aD 1 false] [aD 2 false],eS [aD 0 false,aD 1 false] [aD 2 false],fun _=>False,Eb O,_,_,_,_,i1,iR9',wR',wR',by decide,(),?_⟩
   rw [show PyData.eqv (eS [aD 0 false,aD 1 false] [aD 2 false]) (eS [aD 0 false,aD 1 false] [aD 2 false])=true by nofun]
   refine aJ (nA15 _ _ ?_)
   refine bv fun D16 nA16=>⟨(),true,rfl,?_⟩
   refine aJ (nA16 _ _ ?_)
   clear i1 iz iw hT fp fq npq hp hq cs rg sh e1 e2
   have s99:=s98.trans s9
   have hM':=s99 _ _ hM9
   have hG':=s99 _ _ hG9
   have N9:=N8.sm s9
   have iR9:=iR8.mono (H':=K9) s9.toE
   have hm0':=s99 _ _ hm0
   have hm1':=s99 _ _ hm1
   have hm2':=s99 _ _ hm2
   have hgg:=s99 _ _ hg9
   have hoo:=s99 _ _ ho9
   obtain ⟨rv,ev⟩:=nt (p:=m1) (q:=g) w.m1.g.pos w.dg.g.pos w.dg.p1
   have gv:Gb 10 10 (aH m1 g):=w.m1.g.ovr w.dg.g w.dg.p1 (by decide) (by decide)
   have pv:=sY w.m1.p1 w.m1.g.pos w.dg.p1 w.dg.g.pos
   have db:=w.bey
   obtain ⟨ry,ey⟩:=nt (p:=mx) (q:=aX mo (1,1)) w.m2.g.pos db.g.pos db.p1
   have gy:Gb 12 12 (aH mx (aX mo (1,1))):=w.m2.g.ovr db.g db.p1 (by decide) (by decide)
   have py:=sY w.m2.p1 w.m2.g.pos db.p1 db.g.pos
   refine cw fun Q17 nA17=>⟨(),M,_,_,(),rfl,ak.of hM',aW (j:=0) rfl,(),M,_,_,(),rfl,ak.of hM',aW (j:=1) rfl,(),om1,og,m1,g,_,_,_,(),hm1',hgg,w.m1.g,w.dg.g,by decide,by decide,by decide,by decide,(fun _=>w.dg.p1),fun ov L1 l1=>?_⟩
   have nxt:∀ob x,L1 ob=some (fr x)→Gb 12 12 x→1≤x.1→(KM.vl x≤KM.vl m0∧KM.vl x≤KM.vl (aH m1 g)∧(x=m0∨x=aH m1 g))→Q17 (.ref ob) L1:=fun ob x hob gx' x1 hx'=>nA17 _ _ ?_
   refine ⟨om0,ov,m0,aH m1 g,rfl,l1.sm _ _ hm0',l1.at',w.m0.g.mono (by decide) (by decide),gv.mono (by decide) (by decide),fun le=>nxt om0 m0 (l1.sm _ _ hm0') (w.m0.g.mono (by decide) (by decide)) w.m0.p1 ⟨Rat.le_refl,le,.inl rfl⟩,fun lt=>nxt ov _ l1.at' (gv.mono (by decide) (by decide)) pv ⟨Rat.le_of_lt lt,Rat.le_refl,.inr rfl⟩⟩
   have s1:=l1.sm
   have g1:Gb 1 1 (1,1):=⟨show (1:Int).natAbs<2 ^ 1 by decide,show (1:Int).natAbs<2 ^ 1 by decide,by decide⟩
   refine cw fun Q18 nA18=>⟨(),(),M,_,_,(),rfl,ak.of (s1 _ _ hM'),aW (j:=2) rfl,(),(by show 2≤10000;decide),fun o1 L2 l2=>⟨oo,o1,mo,(1,1),_,_,_,(),l2.sm _ _ (s1 _ _ hoo),l2.at',w.dm.g,g1,by decide,by decide,by decide,by decide,(fun z=>absurd z Bool.false_ne_true),fun ob1 L3 l3=>⟨om2,ob1,mx,aX mo (1,1),_,_,_,(),l3.sm _ _ (l2.sm _ _ (s1 _ _ hm2')),l3.at',w.m2.g,db.g,by decide,by decide,by decide,by decide,(fun _=>db.p1),fun oy L4 l4=>?_⟩⟩⟩
   have s14:aa L1 L4:=(l2.sm.trans l3.sm).trans l4.sm
   have nxt2:∀ob' x',L4 ob'=some (fr x')→Gb 12 12 x'→1≤x'.1→wG m0 (aH m1 g) (aH mx (aX mo (1,1))) x'→Q18 (.ref ob') L4:=fun ob' x' hob' gx2 x2 ls3=>nA18 _ _ ?_
   have l3of:∀{x'},(x'=x∨x'=aH mx (aX mo (1,1)))→KM.vl x'≤KM.vl x→KM.vl x'≤KM.vl (aH mx (aX mo (1,1)))→wG m0 (aH m1 g) (aH mx (aX mo (1,1))) x':=fun h a b=>⟨Rat.le_trans a hx'.1,Rat.le_trans a hx'.2.1,b,by
    rcases h with h | h
    ·rcases hx'.2.2 with e | e
     ·exact .inl (h.trans e)
     ·exact .inr (.inl (h.trans e))
    ·exact .inr (.inr h)⟩
   refine ⟨ob,oy,x,aH mx (aX mo (1,1)),rfl,s14 _ _ hob,l4.at',gx'.mono (by decide) (by decide),gy.mono (by decide) (by decide),fun le=>nxt2 ob x (s14 _ _ hob) gx' x1 (l3of (.inl rfl) Rat.le_refl le),fun lt=>nxt2 oy _ l4.at' gy py (l3of (.inr rfl) (Rat.le_of_lt lt) Rat.le_refl)⟩
   have rx':KM.Rd x':=by rcases ls3.eq with e | e | e <;> rw [e] <;> first | exact w.m0.rd | exact rv | exact ry
   have s4:aa K9 L4:=s1.trans s14
   have db':=db.g
   refine cw fun Q19 nA19=>⟨(),(),(),ob',og,x',g,_,_,_,(),hob',s4 _ _ hgg,gx2,w.dg.g,by decide,by decide,by decide,by decide,(fun z=>absurd z Bool.false_ne_true),fun p1 L5 l5=>⟨(),(),(by show 2≤10000;decide),fun o6 L6 l6=>⟨oo,o6,mo,(1,1),_,_,_,(),l6.sm _ _ (l5.sm _ _ (s4 _ _ hoo)),l6.at',w.dm.g,g1,by decide,by decide,by decide,by decide,(fun z=>absurd z Bool.false_ne_true),fun o7 L7 l7=>⟨ob',o7,x',aX mo (1,1),_,_,_,(),l7.sm _ _ (l6.sm _ _ (l5.sm _ _ hob')),l7.at',gx2,db',by decide,by decide,by decide,by decide,(fun z=>absurd z Bool.false_ne_true),fun p2 L8 l8=>⟨(by show 3≤10000;decide),fun LD L9 l9=>nA19 _ _ ?_⟩⟩⟩⟩⟩
   have s49:aa L4 L9:=(((l5.sm.trans l6.sm).trans l7.sm).trans l8.sm).trans l9.sm
   have s59:aa L5 L9:=((l6.sm.trans l7.sm).trans l8.sm).trans l9.sm
   have s9L:aa K9 L9:=s4.trans s49
   have iD:ah ED L9 [.ref ob',.ref p1,.ref p2] ([x',KM.lTim x' g,KM.lTim x' (aX mo (1,1))].map aN):=.cons (cB (s49 _ _ hob')) (.cons (cB (p:=KM.lTim x' g) (s59 _ _ l5.at')) (.cons (cB (p:=KM.lTim x' (aX mo (1,1))) (l9.sm _ _ l8.at')) .nil))
   have N10:=N9.sm s9L
   obtain ⟨TR,rfl,bR⟩:=GS (rs:=[r0 la lb m0 g,r1 la lb m1 (aH mo g)]) (cs:=[r2 la lc mx gx]) (iR9.mono (H':=L9) s9L.toE)
   refine ⟨(),(),(),(),(),.ref N,aG ld,aG lc,Z,TR,[la,lb,lc,ld],cH la lb lc m0 m1 mx g (aH mo g) gx,_,z3,.ring [r0 la lb m0 g,r1 la lb m1 (aH mo g)] [r2 la lc mx gx],1,1,rfl,N10.iN,tgs,(by show 3≤40;decide),N10.hs,N10.ix,rfl,fun p hp=>(gz3 p hp).1,by decide,by decide,bR,w.ok,by rw [w.parts];simp,by rw [w.parts];show [0,1,2].Nodup;decide,fun F yf qf M1 m1' fF hF iF mu _=>?_⟩
   obtain rfl:qf=x':=wG.one w.m0.rd rv ry (w.beg mu) ls3
   have iF:ah ED M1 yf ((fu (cH la lb lc m0 m1 mx g (aH mo g) gx) qf z3 (BT.ring [r0 la lb m0 g,r1 la lb m1 (aH mo g)] [r2 la lc mx gx]).parts).map aN):=iF
   rw [w.bet rx'] at iF
   have lstD:∀{J:Hp}{l:Addr}{zs:List V}{ps:List KM.Fra},J l=some (.lst zs)→ah ED J zs (ps.map aN)→aI (fun _=>False) J (.ref l) (.list (ps.map aN)):=fun h i=>.lst h (fun z=>z) (i.narrow fun _ z=>z.elim)
   have wfr:∀{p:KM.Fra},Gb 20 20 p→Wt (aN p) 3 1:=fun h=>vp h (by decide) (by decide)
   have q0:Gb 20 20 qf:=gx2.mono (by decide) (by decide)
   have q1:Gb 20 20 (KM.lTim qf g):=gx2.tim w.dg.g (by decide) (by decide)
   have q2:Gb 20 20 (KM.lTim qf (aX mo (1,1))):=gx2.tim db' (by decide) (by decide)
   have wt3:Wt (.list ([qf,KM.lTim qf g,KM.lTim qf (aX mo (1,1))].map aN)) (3+(3+(3+0))+1) 2:=.list (.cons (wfr q0) (.cons (wfr q1) (.cons (wfr q2) .nil)))
   refine ⟨(),_,_,_,_,_,_,_,_,lstD hF iF,lstD (m1' _ _ l9.at') (iD.mono m1'.toE),wt3,wt3,by decide,?_⟩
   rw [show PyData.eqv (.list ([qf,KM.lTim qf g,KM.lTim qf (aX mo (1,1))].map aN)) (.list ([qf,KM.lTim qf g,KM.lTim qf (aX mo (1,1))].map aN))=true by simp [PyData.eqv,PyData.eqvAll]]
   exact fin M1 ((s99.trans s9L).trans m1')
end
end K21
namespace K21
open PySem L2
set_option maxHeartbeats 8000000
section
variable {P:Program}{w:World}{K:PySem.W.Frag}{mg:Str→Option Value}{base:Heap}
inductive JL (K:PySem.W.Frag) (vs:List V) (H:Hp) (Q:VK):Prop
 | mk (a:Addr) (ns:List Int) (h0:vs=[.ref a]) (h1:ak K H a (ns.map V.int)) (h2:ns.length≤63) (h3:∀H',Q (.bl true) H')
def spLaw (K:PySem.W.Frag):Sp:=fun vs H Q _=>JL K vs H Q
theorem law_start {H:Hp}{a:Addr}{ns:List Int} (hl:ns.length≤63) (_:yF H) (hS:ak K H a (ns.map V.int)):spLaw K [.ref a] H (fun v _=>v=.bl true) fun _ _ _=>False:=
 ⟨a,ns,rfl,hS,hl,fun _=>rfl⟩
theorem law_ok (T:Txt K mg):aZ P w K mg base CX0 40 T.law_.f T.law_.d ["_law_script"] (spLaw K):=by
 have G_l_folded:=#[(EC)]
 have G_l_box:=#[(Ik)]
 have G_l_two_right:=#[(AI)]
 have G_l_ring_right:=#[(Ab)]
 have G_l_back_right:=#[(Al)]
 refine T.law_.F.ok xU (fun vs H Q E h=>?_) (fun cdv A outer s H vs Q E hr h=>?_)
 ·obtain ⟨a,ns,rfl,_⟩:=h
  rfl
 ·obtain ⟨a,ns,rfl,hS,hn,k⟩:=h
  refine ⟨_,#[#[1,xU.nd,oO,#[G_l_folded,yP,T.l_folded_,#[[#[0,yT],#[()]]]]] :: #[#[jN 8 PassesOwn.never rfl #[gG 6 BX T.b_range #[[#[(),(),(@Ef _ rfl),EI,T.b_max,(@DJ),#[[#[()],#[(),(),(@kg _ (K) (by rfl)),EH,T.b_len,(@bY),#[[#[1,oO]]]]]]]]] (by rfl)] #[2,xU.nd,zw] #[#[3,xU.nd,i8,#[G_l_box,BV,T.l_box_,#[[#[1,oO],#[2,zw]]]]] :: #[ae 3 #[bA 8 #[PW.pt 3 #[ig 7 #[dk 4 #[b9 3 #[G_l_two_right,wD,T.l_two_right_,#[[#[3,i8]]]] (by intro _;rfl)]] #[ig 7 #[dk 4 #[b9 3 #[G_l_ring_right,uU,T.l_ring_right_,#[[#[3,i8]]]] (by intro _;rfl)]] #[gA 4 #[dk 4 #[b9 3 #[G_l_back_right,vA,T.l_back_right_,#[[#[3,i8]]]] (by intro _;rfl)]]]]]] #[ae 3 #[av 4 #[br 4]]] (@aQ _)]]] (by intro _;rfl)] :: #[ae 3 #[av 4 #[br 4]]]]],?_⟩
  refine bv fun DA nA=>?_
  refine ⟨(),a,ns,5,rfl,hS,hn,by decide,by decide,fun p ms H1 hp s1 hp1 hm4=>?_⟩
  refine nA _ _ ?_
  have hmx:0≤(if ((ms.map V.int).length:Int) > 2 then ((ms.map V.int).length:Int) else 2)∧(if ((ms.map V.int).length:Int) > 2 then ((ms.map V.int).length:Int) else 2)≤5:=by
   rw [List.length_map]
   split <;> trivial
  refine bv fun DZ nZ=>⟨(),p,(),.inl (ak.of hp1),_,(),(),by trivial,by trivial,?_⟩
  generalize (if ((ms.map V.int).length:Int) > 2 then ((ms.map V.int).length:Int) else 2)=mx at hmx
  refine zL (fun i σ H'=>bI fun v2 v3=>σ=[some (.ref a),some (.ref p),v2,v3]∧H' p=some (.lst (ms.map V.int))) ⟨_,(),hp1⟩ ?_ ?_
  case refine_2=>
   rintro σ H' ⟨v2,v3,rfl,_⟩
   exact nZ _ _ (k _)
  rintro i σ H2 hi ⟨v2,v3,rfl,hp2⟩
  refine GI (t:=nj _ _) fun DB nB=>?_
  refine bv fun DC nC=>?_
  refine ⟨(),(),p,ms,(),ak.of hp2,by trivial,by trivial,fun b H3 hb s3 B3=>?_⟩
  refine nC _ _ ?_
  have npb:¬p=b:=fun z=>by rw [z,hb] at hp2;cases hp2
  have hp3:=s3 _ _ hp2
  refine ⟨(),b,0,rfl,B3,by trivial,by trivial,fun t4 H4 s4 B4 h4a h4b=>⟨(),aJ ?_⟩⟩
  refine ⟨(),b,t4,rfl,B4,by trivial,by trivial,fun t5 H5 s5 B5 h5a h5b=>⟨(),aJ ?_⟩⟩
  refine ⟨(),b,t5,rfl,B5,by trivial,by trivial,fun t6 H6 s6 B6 h6a h6b=>⟨(),aJ ?_⟩⟩
  have sA:bV (Eb b) H3 H6:=(s4.trans s5).trans s6
  exact nB _ _ ⟨_,(),sA.old p _ npb hp3⟩
end
end K21
namespace K21
open PySem L2
set_option maxHeartbeats 0 in
theorem txt_of {K:PySem.W.Frag}{h:Heap}{mg:Str→Option Value} (y:obs K=due) (X:K.In h) (G:h.Ns mainGlobals mg):∃T:Txt K mg,∀(s:Shared) (u:Value),BindsTo s T.law_.d ⟨[u],[]⟩ [("_law_script",u)]:=by
 have e:∀i,(obs K).1.getD i none=due.1.getD i none:=fun i=>by rw [y]
 have b:∀i,(obs K).2.getD i true=due.2.getD i true:=fun i=>by rw [y]
 refine ⟨{
  b_abs:=PySem.W.mg_none_of X G (dO (b 0)),
  b_all:=PySem.W.mg_none_of X G (dO (b 1)),
  b_any:=PySem.W.mg_none_of X G (dO (b 2)),
  b_bool:=PySem.W.mg_none_of X G (dO (b 3)),
  b_divmod:=PySem.W.mg_none_of X G (dO (b 4)),
  b_enumerate:=PySem.W.mg_none_of X G (dO (b 5)),
  b_int:=PySem.W.mg_none_of X G (dO (b 6)),
  b_isinstance:=PySem.W.mg_none_of X G (dO (b 7)),
  b_len:=PySem.W.mg_none_of X G (dO (b 8)),
  b_list:=PySem.W.mg_none_of X G (dO (b 9)),
  b_max:=PySem.W.mg_none_of X G (dO (b 10)),
  b_min:=PySem.W.mg_none_of X G (dO (b 11)),
  b_range:=PySem.W.mg_none_of X G (dO (b 12)),
  b_set:=PySem.W.mg_none_of X G (dO (b 13)),
  b_tuple:=PySem.W.mg_none_of X G (dO (b 14)),
  b_zip:=PySem.W.mg_none_of X G (dO (b 15)),
  is_number_:=⟨_,_,PySem.W.mg_of X G (aS (e 0)),ao (e 0),(ao (e 0)).binds (ps:=["thing"]) fun _ _ _ _ _ _=>lq (fun _=>rfl)⟩,
  common_divisor_:=⟨_,_,PySem.W.mg_of X G (aS (e 1)),ao (e 1),(ao (e 1)).binds (ps:=["n", "d"]) fun _ _ _ _ _ _=>cW (fun _ _=>rfl)⟩,
  is_fraction_:=⟨_,_,PySem.W.mg_of X G (aS (e 2)),ao (e 2),(ao (e 2)).binds (ps:=["thing"]) fun _ _ _ _ _ _=>lq (fun _=>rfl)⟩,
  is_from_nought_:=⟨_,_,PySem.W.mg_of X G (aS (e 3)),ao (e 3),(ao (e 3)).binds (ps:=["thing"]) fun _ _ _ _ _ _=>lq (fun _=>rfl)⟩,
  fraction_:=⟨_,_,PySem.W.mg_of X G (aS (e 4)),ao (e 4),(ao (e 4)).binds (ps:=["n", "d"]) fun _ _ _ _ _ _=>cW (fun _ _=>rfl)⟩,
  added_:=⟨_,_,PySem.W.mg_of X G (aS (e 5)),ao (e 5),(ao (e 5)).binds (ps:=["one", "other"]) fun _ _ _ _ _ _=>cW (fun _ _=>rfl)⟩,
  taken_:=⟨_,_,PySem.W.mg_of X G (aS (e 6)),ao (e 6),(ao (e 6)).binds (ps:=["one", "other"]) fun _ _ _ _ _ _=>cW (fun _ _=>rfl)⟩,
  times_:=⟨_,_,PySem.W.mg_of X G (aS (e 7)),ao (e 7),(ao (e 7)).binds (ps:=["one", "other"]) fun _ _ _ _ _ _=>cW (fun _ _=>rfl)⟩,
  over_:=⟨_,_,PySem.W.mg_of X G (aS (e 8)),ao (e 8),(ao (e 8)).binds (ps:=["one", "other"]) fun _ _ _ _ _ _=>cW (fun _ _=>rfl)⟩,
  compared_:=⟨_,_,PySem.W.mg_of X G (aS (e 9)),ao (e 9),(ao (e 9)).binds (ps:=["one", "other"]) fun _ _ _ _ _ _=>cW (fun _ _=>rfl)⟩,
  sum_of_:=⟨_,_,PySem.W.mg_of X G (aS (e 10)),ao (e 10),(ao (e 10)).binds (ps:=["parts"]) fun _ _ _ _ _ _=>lq (fun _=>rfl)⟩,
  least_:=⟨_,_,PySem.W.mg_of X G (aS (e 11)),ao (e 11),(ao (e 11)).binds (ps:=["parts"]) fun _ _ _ _ _ _=>lq (fun _=>rfl)⟩,
  steps_of_:=⟨_,_,PySem.W.mg_of X G (aS (e 12)),ao (e 12),(ao (e 12)).binds (ps:=["number", "tie", "much"]) fun _ _ _ _ _ _=>lP (fun _ _ _=>rfl)⟩,
  left_steps_:=⟨_,_,PySem.W.mg_of X G (aS (e 13)),ao (e 13),(ao (e 13)).binds (ps:=["net", "stream"]) fun _ _ _ _ _ _=>cW (fun _ _=>rfl)⟩,
  ties_from_:=⟨_,_,PySem.W.mg_of X G (aS (e 14)),ao (e 14),(ao (e 14)).binds (ps:=["net", "place"]) fun _ _ _ _ _ _=>cW (fun _ _=>rfl)⟩,
  ties_to_:=⟨_,_,PySem.W.mg_of X G (aS (e 15)),ao (e 15),(ao (e 15)).binds (ps:=["net", "place"]) fun _ _ _ _ _ _=>cW (fun _ _=>rfl)⟩,
  goes_within_:=⟨_,_,PySem.W.mg_of X G (aS (e 16)),ao (e 16),(ao (e 16)).binds (ps:=["thing", "most"]) fun _ _ _ _ _ _=>cW (fun _ _=>rfl)⟩,
  is_stream_:=⟨_,_,PySem.W.mg_of X G (aS (e 17)),ao (e 17),(ao (e 17)).binds (ps:=["net", "thing"]) fun _ _ _ _ _ _=>cW (fun _ _=>rfl)⟩,
  left_at_:=⟨_,_,PySem.W.mg_of X G (aS (e 18)),ao (e 18),(ao (e 18)).binds (ps:=["net", "stream", "place"]) fun _ _ _ _ _ _=>lP (fun _ _ _=>rfl)⟩,
  keeps_:=⟨_,_,PySem.W.mg_of X G (aS (e 19)),ao (e 19),(ao (e 19)).binds (ps:=["net", "stream", "begin", "end"]) fun _ _ _ _ _ _=>BA (fun _ _ _ _=>rfl)⟩,
  is_shut_:=⟨_,_,PySem.W.mg_of X G (aS (e 20)),ao (e 20),(ao (e 20)).binds (ps:=["tie"]) fun _ _ _ _ _ _=>lq (fun _=>rfl)⟩,
  lift_once_:=⟨_,_,PySem.W.mg_of X G (aS (e 21)),ao (e 21),(ao (e 21)).binds (ps:=["net", "worths", "onward"]) fun _ _ _ _ _ _=>lP (fun _ _ _=>rfl)⟩,
  round_ahead_:=⟨_,_,PySem.W.mg_of X G (aS (e 22)),ao (e 22),(ao (e 22)).binds (ps:=["net", "onward", "place"]) fun _ _ _ _ _ _=>lP (fun _ _ _=>rfl)⟩,
  gaining_round_:=⟨_,_,PySem.W.mg_of X G (aS (e 23)),ao (e 23),(ao (e 23)).binds (ps:=["net"]) fun _ _ _ _ _ _=>lq (fun _=>rfl)⟩,
  courses_to_:=⟨_,_,PySem.W.mg_of X G (aS (e 24)),ao (e 24),(ao (e 24)).binds (ps:=["steps", "end"]) fun _ _ _ _ _ _=>cW (fun _ _=>rfl)⟩,
  gaining_ring_:=⟨_,_,PySem.W.mg_of X G (aS (e 25)),ao (e 25),(ao (e 25)).binds (ps:=["steps", "courses"]) fun _ _ _ _ _ _=>cW (fun _ _=>rfl)⟩,
  bettering_:=⟨_,_,PySem.W.mg_of X G (aS (e 26)),ao (e 26),(ao (e 26)).binds (ps:=["net", "begin", "end", "stream"]) fun _ _ _ _ _ _=>BA (fun _ _ _ _=>rfl)⟩,
  by_pairs_:=⟨_,_,PySem.W.mg_of X G (aS (e 27)),ao (e 27),(ao (e 27)).binds (ps:=["net", "stream"]) fun _ _ _ _ _ _=>cW (fun _ _=>rfl)⟩,
  is_pair_:=⟨_,_,PySem.W.mg_of X G (aS (e 28)),ao (e 28),(ao (e 28)).binds (ps:=["thing"]) fun _ _ _ _ _ _=>lq (fun _=>rfl)⟩,
  are_steps_:=⟨_,_,PySem.W.mg_of X G (aS (e 29)),ao (e 29),(ao (e 29)).binds (ps:=["left", "thing"]) fun _ _ _ _ _ _=>cW (fun _ _=>rfl)⟩,
  is_course_:=⟨_,_,PySem.W.mg_of X G (aS (e 30)),ao (e 30),(ao (e 30)).binds (ps:=["left", "thing", "begin", "end"]) fun _ _ _ _ _ _=>BA (fun _ _ _ _=>rfl)⟩,
  is_gaining_ring_:=⟨_,_,PySem.W.mg_of X G (aS (e 31)),ao (e 31),(ao (e 31)).binds (ps:=["left", "thing"]) fun _ _ _ _ _ _=>cW (fun _ _=>rfl)⟩,
  gain_along_:=⟨_,_,PySem.W.mg_of X G (aS (e 32)),ao (e 32),(ao (e 32)).binds (ps:=["left", "pairs"]) fun _ _ _ _ _ _=>cW (fun _ _=>rfl)⟩,
  is_ring_and_course_:=⟨_,_,PySem.W.mg_of X G (aS (e 33)),ao (e 33),(ao (e 33)).binds (ps:=["left", "ring", "course", "end"]) fun _ _ _ _ _ _=>BA (fun _ _ _ _=>rfl)⟩,
  shows_bettering_:=⟨_,_,PySem.W.mg_of X G (aS (e 34)),ao (e 34),(ao (e 34)).binds (ps:=["net", "begin", "end", "stream", "thing"]) fun _ _ _ _ _ _=>IW (fun _ _ _ _ _=>rfl)⟩,
  shares_along_:=⟨_,_,PySem.W.mg_of X G (aS (e 35)),ao (e 35),(ao (e 35)).binds (ps:=["left", "pairs", "much"]) fun _ _ _ _ _ _=>lP (fun _ _ _=>rfl)⟩,
  shares_of_:=⟨_,_,PySem.W.mg_of X G (aS (e 36)),ao (e 36),(ao (e 36)).binds (ps:=["left", "thing"]) fun _ _ _ _ _ _=>cW (fun _ _=>rfl)⟩,
  bettered_:=⟨_,_,PySem.W.mg_of X G (aS (e 37)),ao (e 37),(ao (e 37)).binds (ps:=["net", "begin", "end", "stream", "thing"]) fun _ _ _ _ _ _=>IW (fun _ _ _ _ _=>rfl)⟩,
  l_box_:=⟨_,_,PySem.W.mg_of X G (aS (e 38)),ao (e 38),(ao (e 38)).binds (ps:=["_law_script", "_law_k"]) fun _ _ _ _ _ _=>cW (fun _ _=>rfl)⟩,
  l_take_:=⟨_,_,PySem.W.mg_of X G (aS (e 39)),ao (e 39),(ao (e 39)).binds (ps:=["_law_box_here", "_law_many"]) fun _ _ _ _ _ _=>cW (fun _ _=>rfl)⟩,
  l_folded_:=⟨_,_,PySem.W.mg_of X G (aS (e 40)),ao (e 40),(ao (e 40)).binds (ps:=["_law_script", "_law_many"]) fun _ _ _ _ _ _=>cW (fun _ _=>rfl)⟩,
  l_frac_:=⟨_,_,PySem.W.mg_of X G (aS (e 41)),ao (e 41),(ao (e 41)).binds (ps:=["_law_n", "_law_d"]) fun _ _ _ _ _ _=>cW (fun _ _=>rfl)⟩,
  l_product_:=⟨_,_,PySem.W.mg_of X G (aS (e 42)),ao (e 42),(ao (e 42)).binds (ps:=["_law_one", "_law_other"]) fun _ _ _ _ _ _=>cW (fun _ _=>rfl)⟩,
  l_minus_:=⟨_,_,PySem.W.mg_of X G (aS (e 43)),ao (e 43),(ao (e 43)).binds (ps:=["_law_one", "_law_other"]) fun _ _ _ _ _ _=>cW (fun _ _=>rfl)⟩,
  l_over_:=⟨_,_,PySem.W.mg_of X G (aS (e 44)),ao (e 44),(ao (e 44)).binds (ps:=["_law_one", "_law_other"]) fun _ _ _ _ _ _=>cW (fun _ _=>rfl)⟩,
  l_above_:=⟨_,_,PySem.W.mg_of X G (aS (e 45)),ao (e 45),(ao (e 45)).binds (ps:=["_law_one", "_law_other"]) fun _ _ _ _ _ _=>cW (fun _ _=>rfl)⟩,
  l_names_by_:=⟨_,_,PySem.W.mg_of X G (aS (e 46)),ao (e 46),(ao (e 46)).binds (ps:=["_law_box_here", "_law_many"]) fun _ _ _ _ _ _=>cW (fun _ _=>rfl)⟩,
  l_much_by_:=⟨_,_,PySem.W.mg_of X G (aS (e 47)),ao (e 47),(ao (e 47)).binds (ps:=["_law_box_here"]) fun _ _ _ _ _ _=>lq (fun _=>rfl)⟩,
  l_gain_by_:=⟨_,_,PySem.W.mg_of X G (aS (e 48)),ao (e 48),(ao (e 48)).binds (ps:=["_law_box_here"]) fun _ _ _ _ _ _=>lq (fun _=>rfl)⟩,
  l_lesser_:=⟨_,_,PySem.W.mg_of X G (aS (e 49)),ao (e 49),(ao (e 49)).binds (ps:=["_law_one", "_law_other"]) fun _ _ _ _ _ _=>cW (fun _ _=>rfl)⟩,
  l_two_right_:=⟨_,_,PySem.W.mg_of X G (aS (e 50)),ao (e 50),(ao (e 50)).binds (ps:=["_law_box_here"]) fun _ _ _ _ _ _=>lq (fun _=>rfl)⟩,
  l_ring_right_:=⟨_,_,PySem.W.mg_of X G (aS (e 51)),ao (e 51),(ao (e 51)).binds (ps:=["_law_box_here"]) fun _ _ _ _ _ _=>lq (fun _=>rfl)⟩,
  l_back_right_:=⟨_,_,PySem.W.mg_of X G (aS (e 52)),ao (e 52),(ao (e 52)).binds (ps:=["_law_box_here"]) fun _ _ _ _ _ _=>lq (fun _=>rfl)⟩,
  law_:=⟨_,_,PySem.W.mg_of X G (aS (e 53)),ao (e 53),(ao (e 53)).binds (ps:=["_law_script"]) fun _ _ _ _ _ _=>lq (fun _=>rfl)⟩ },fun s u=>?_⟩
 obtain ⟨_,_,_,_,_,_,_,_,_,z,_⟩:=(ao (e 53):AW K "law" "law" ii _ _).ex
 show BindsTo s (kE K (PySem.W.nsIn K mainGlobals "law")) _ _
 rw [z]
 exact .of_eq rfl
end K21
open PySem PySem.W PyProof.Rows
set_option maxRecDepth 100000 in
set_option maxHeartbeats 0 in
theorem PySem.Challenge.cw_gainroads_k21_known_betterings_holds : PySem.Challenge.rw_gainroads_k21_known_betterings.Holds := by
 w_on;o_law
 refine holds_openX (q:=K21.qv) (loose:=[]) (Xt:=L2.Xt) (XP:=XL K21.qv []) (Yf:=L2.Yf) (Ya:=fun _=>K21.due) (N:=3434) (L2.left_tree rfl rfl (fun _=>rfl) L2.left) (fun s e=>xl_of s (Bool.and_eq_true_iff.mp e).1) XL.keeps (by rfl) (by rfl) (by rfl) (fun s e=>recFacts_of (Bool.and_eq_true_iff.mp e).2) (by rfl) (by first | assumption | decide +kernel) (by nofun) ⟨rfl,rfl,rfl,rfl,rfl,by nofun⟩ ?hw ?hc
 case hw=>w_witness2
 refine L2.walk_ofY (obs:=K21.obs) (due:=K21.due) (l:=PySem.Challenge.rw_gainroads_k21_known_betterings) (n:=63) (k:=40) (x := "_law_script") (CX:=L2.CX0) (sp:=K21.spLaw) rfl (by decide) rfl ⟨rfl,by decide,by decide,rfl⟩ ?F ?S ?C
 case F=>
  intro K w mg fa h y KX G hmg
  obtain ⟨T,hb⟩:=K21.txt_of y KX G
  have e0:=hmg.symm.trans T.law_.m
  cases e0
  exact ⟨T.law_.d,hb,fun base kb nb=>K21.law_ok T⟩
 case S=>exact fun K H a ns hl hO hS=>K21.law_start hl hO hS
 case C=>exact fun _ _ _ _ z=>z
