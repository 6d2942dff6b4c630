import PyProof.Rows.All
import Wide.All
import OpenK.AllK
import Wide.FinOn
import Lean
import PyProof.EqAt
import PyProof.EqKinds
import PyProof.TupleCall
import PyProof.CompFree
import PyProof.CompMap
import KE.LcSums
import PyProof.ZipIter
import PyProof.Draws
import KE.KRevSl
import KE.KListMore
import PyProof.Rows.StrJoin2
import PyProof.Rows.StrFin3
import PyProof.StrOps2
import PyProof.NeData
import PyProof.P3Eq
import PyProof.StrLawsRepr
import PyProof.ReprLen
import PyProof.Rows.IntBool
import PyProof.SliceStr2
import PyProof.P3In
import PyProof.Rows.StrLen
import KE.KStrOpen
import PyProof.FitsInt
import PyProof.Rows.ReprOcc
import PyProof.ListRange
import PyProof.AttrMissHeap
import PyProof.FactsAll.zip
import PyProof.FactsAll.tuple_3
import KE.KDictOf
import PyProof.SeqRoads2
import PyProof.DictCompW
import PyProof.Rows.StrInSeq3
import OpenK.KOwn
import KE.KIsAll
import KE.KTryMore
import PyProof.StationsW
import PyProof.RulesAs
import PyProof.NsDelKeeps
import KE.KDictSum
import KE.KIntText
import PyProof.StrCalls2
import PyProof.Rows.StrItems
import PyProof.DictUpdate
import PyProof.Rows.StrSplitCount
import PyProof.Rows.StrFirst
import PyProof.Rows.StrLawsPart
import PyProof.Rows.StrDigitsNeg
import KE.IntTextLaws
import PyProof.Rows.FStr
import PyProof.SeqRoads
import PyProof.Rows.SeqMore
import KE.KEqDict
import PySem.Challenge.RW_gainroads_k42_rounds_of_roads
set_option Elab.async false
set_option linter.all false
set_option maxRecDepth 100000
local macro_rules | `(tactic| nofun)=>`(tactic| decide +kernel)
local macro_rules | `(⟨$xs,*⟩)=>do
 let es:=xs.getElems
 unless es.any (fun e=>match e with | `(())=>true | _=>false) do Lean.Macro.throwUnsupported
 let mut o:=#[]
 for e in es do
  match e with
  | `(())=>o:=(o.push (←`(_))).push (←`(rfl))
  | _=>o:=o.push e
 `(⟨$o,*⟩)
set_option genSizeOf false
set_option genInjectivity false
namespace L2
inductive bh {α0 α1:Type} (p:α0→α1→Prop):Prop
 | mk (a0:α0) (a1:α1) (h:p a0 a1)
inductive kF {α0 α1 α2:Type} (p:α0→α1→α2→Prop):Prop
 | mk (a0:α0) (a1:α1) (a2:α2) (h:p a0 a1 a2)
inductive kz {α0 α1 α2 α3:Type} (p:α0→α1→α2→α3→Prop):Prop
 | mk (a0:α0) (a1:α1) (a2:α2) (a3:α3) (h:p a0 a1 a2 a3)
inductive xu {α0 α1 α2 α3 α4:Type} (p:α0→α1→α2→α3→α4→Prop):Prop
 | mk (a0:α0) (a1:α1) (a2:α2) (a3:α3) (a4:α4) (h:p a0 a1 a2 a3 a4)
inductive uc {α0 α1 α2 α3 α4 α5:Type} (p:α0→α1→α2→α3→α4→α5→Prop):Prop
 | mk (a0:α0) (a1:α1) (a2:α2) (a3:α3) (a4:α4) (a5:α5) (h:p a0 a1 a2 a3 a4 a5)
inductive FT {α0 α1 α2 α3 α4 α5 α6:Type} (p:α0→α1→α2→α3→α4→α5→α6→Prop):Prop
 | mk (a0:α0) (a1:α1) (a2:α2) (a3:α3) (a4:α4) (a5:α5) (a6:α6) (h:p a0 a1 a2 a3 a4 a5 a6)
inductive FZ {α0 α1 α2 α3 α4 α5 α6 α7:Type} (p:α0→α1→α2→α3→α4→α5→α6→α7→Prop):Prop
 | mk (a0:α0) (a1:α1) (a2:α2) (a3:α3) (a4:α4) (a5:α5) (a6:α6) (a7:α7) (h:p a0 a1 a2 a3 a4 a5 a6 a7)
inductive FY {α0 α1 α2 α3 α4 α5 α6 α7 α8:Type} (p:α0→α1→α2→α3→α4→α5→α6→α7→α8→Prop):Prop
 | mk (a0:α0) (a1:α1) (a2:α2) (a3:α3) (a4:α4) (a5:α5) (a6:α6) (a7:α7) (a8:α8) (h:p a0 a1 a2 a3 a4 a5 a6 a7 a8)
inductive zj {α0 α1 α2 α3 α4 α5 α6 α7 α8 α9:Type} (p:α0→α1→α2→α3→α4→α5→α6→α7→α8→α9→Prop):Prop
 | mk (a0:α0) (a1:α1) (a2:α2) (a3:α3) (a4:α4) (a5:α5) (a6:α6) (a7:α7) (a8:α8) (a9:α9) (h:p a0 a1 a2 a3 a4 a5 a6 a7 a8 a9)
end L2
set_option genSizeOf true
set_option genInjectivity true
local macro_rules | `(tactic| trivial)=>`(tactic| first | lia | omega)
namespace L2
open PySem PySem.Spec PyProof.Rows
abbrev aA:=Sum Int Str
def d8:aA→Value→Bool
 | .inl k,v=>Value.isInt k v
 | .inr x,v=>Value.isStrOf x v
def Fz (w:World):aA→Int
 | .inl k=>hashInt k
 | .inr x=>hashStr w x
theorem ci:∀{k:aA}{v:Value},d8 k v=true→(bh fun i t=>k=Sum.inl i∧v=Value.int i t)∨(bh fun x t=>k=Sum.inr x∧v=Value.str x t)
 | .inl i,v,h=>by
  obtain ⟨t,e⟩:=Value.isInt_shape (k:=i) (v:=v) h
  exact .inl ⟨i,t,rfl,e⟩
 | .inr x,v,h=>by
  obtain ⟨t,e⟩:=Value.isStrOf_shape (x:=x) (v:=v) h
  exact .inr ⟨x,t,rfl,e⟩
theorem x4 (i:Int) (t:Tok):d8 (.inl i) (.int i t)=true:=by simp [d8,Value.isInt]
theorem yj (x:Str) (t:Tok):d8 (.inr x) (.str x t)=true:=by simp [d8,Value.isStrOf]
theorem Dh (a b:Int):decide ((Sum.inl a:aA)=Sum.inl b)=(a==b):=by
 by_cases e:a=b
 ·subst e;simp
 ·have h:¬(Sum.inl a:aA)=Sum.inl b:=fun q=>e (Sum.inl.inj q)
  rw [decide_eq_false h]
  exact (beq_eq_false_iff_ne.mpr e).symm
theorem BE (a b:Str):decide ((Sum.inr a:aA)=Sum.inr b)=decide (a=b):=by
 by_cases e:a=b
 ·subst e;simp
 ·have h:¬(Sum.inr a:aA)=Sum.inr b:=fun q=>e (Sum.inr.inj q)
  rw [decide_eq_false h,decide_eq_false e]
theorem Cy (a:Int) (b:Str):decide ((Sum.inl a:aA)=Sum.inr b)=false:=decide_eq_false (fun q=>nomatch q)
theorem BN (a:Str) (b:Int):decide ((Sum.inr a:aA)=Sum.inl b)=false:=decide_eq_false (fun q=>nomatch q)
def bt (prog:Program) (w:World):PySem.KeyKind prog w aA where
 is:=d8
 hash:=Fz w
 inj:=fun v a b ha hb=>by
  rcases ci ha with ⟨i,t,rfl,rfl⟩ | ⟨x,t,rfl,rfl⟩
  ·rcases ci hb with ⟨j,u,rfl,e⟩ | ⟨y,u,rfl,e⟩
   ·injection e with e1 _;rw [e1]
   ·exact nomatch e
  ·rcases ci hb with ⟨j,u,rfl,e⟩ | ⟨y,u,rfl,e⟩
   ·exact nomatch e
   ·injection e with e1 _;rw [e1]
 byValue:=fun k v h=>by
  rcases ci h with ⟨i,t,rfl,rfl⟩ | ⟨x,t,rfl,rfl⟩ <;> rfl
 pyHash:=fun hv h=>by
  rcases ci hv with ⟨i,t,rfl,rfl⟩ | ⟨x,t,rfl,rfl⟩
  ·exact wpAny_pyHash_int h
  ·exact wpAny_pyHash_str h
 eqBool:=fun hu hv h=>by
  rcases ci hu with ⟨i,t,rfl,rfl⟩ | ⟨x,t,rfl,rfl⟩
  ·rcases ci hv with ⟨j,u,rfl,rfl⟩ | ⟨y,u,rfl,rfl⟩
   ·rw [Dh] at h;exact wpAny_eqBool_int h
   ·rw [Cy] at h;exact SeqAt.EqAt.int_str i t y u _ _ _ _ h
  ·rcases ci hv with ⟨j,u,rfl,rfl⟩ | ⟨y,u,rfl,rfl⟩
   ·rw [BN] at h;exact SeqAt.EqAt.str_int x t j u _ _ _ _ h
   ·rw [BE] at h;exact wpAny_eqBool_str h
 «strs»:=fun k x t v h=>by
  rcases ci h with ⟨i,u,rfl,e⟩ | ⟨y,u,rfl,e⟩
  ·exact nomatch e
  ·injection e with e1 _
   subst e1
   cases v <;> rfl
inductive V where
 | non | bl (b:Bool) | int (i:Int) | str (x:Str) | byt (b:Array UInt8) | flt (b:UInt64) | ref (a:Addr) | ty (n:String)
 deriving DecidableEq
def aN:V→Value→Prop
 | .non,u=>u=Value.none
 | .bl b,u=>u=Value.bool b
 | .int i,u=>∃t,u=Value.int i t
 | .str x,u=>∃t,u=Value.str x t
 | .byt b,u=>∃t,u=Value.bytes b t
 | .flt b,u=>∃t,u=Value.float b t
 | .ref a,u=>u=Value.ref a
 | .ty n,u=>u=Value.type n
abbrev ar:List V→List Value→Prop:=Paired aN
theorem ar.length {xs:List V}{us:List Value} (r:ar xs us):xs.length=us.length:=Paired.length r
theorem ar.get:∀{xs:List V}{us:List Value}{i:Nat}{x:V},ar xs us→xs[i]?=some x→∃u,us[i]?=some u∧aN x u
 | _,_,_,_,.nil,e=>by simp at e
 | _,_,0,_,.cons r _,e=>by simp at e;subst e;exact ⟨_,rfl,r⟩
 | _,_,i+1,x,.cons _ t,e=>by
  obtain ⟨u,h1,h2⟩:=ar.get (i:=i) (x:=x) t (by simpa using e)
  exact ⟨u,by simpa using h1,h2⟩
theorem ar.set {x:V}{u:Value} (r:aN x u):∀{xs:List V}{us:List Value} (i:Nat),ar xs us→ar (xs.set i x) (us.set i u)
 | _,_,_,.nil=>.nil
 | _,_,0,.cons _ t=>.cons r t
 | _,_,i+1,.cons q t=>.cons q (ar.set r i t)
theorem ar.append:∀{xs ys:List V}{us ws:List Value},ar xs us→ar ys ws→ar (xs++ys) (us++ws)
 | _,_,_,_,.nil,s=>s
 | _,_,_,_,.cons r t,s=>.cons r (ar.append t s)
theorem ar.take:∀{xs:List V}{us:List Value} (n:Nat),ar xs us→ar (xs.take n) (us.take n)
 | _,_,0,_=>.nil
 | _,_,_+1,.nil=>.nil
 | _,_,n+1,.cons r t=>.cons r (ar.take n t)
theorem ar.drop:∀{xs:List V}{us:List Value} (n:Nat),ar xs us→ar (xs.drop n) (us.drop n)
 | _,_,0,r=>r
 | _,_,_+1,.nil=>.nil
 | _,_,n+1,.cons _ t=>ar.drop n t
def jh:Option V→Option Value→Prop
 | some v,some u=>aN v u
 | none,none=>True
 | _,_=>False
def KV {κ:Type}:List (κ×V)→List (κ×Value)→Prop:=Paired fun (p:κ×V) (q:κ×Value)=>p.1=q.1∧aN p.2 q.2
def kV:aA→V
 | .inl i=>.int i
 | .inr x=>.str x
inductive HO where
 | lst (xs:List V)
 | tup (xs:List V)
 | dK (kvs:List (aA×V)) | dT (kvs:List (List aA×V))
 | set (S:Int→Bool) (n:Nat)
 | ins (C dx:Addr) (fs:List (Str×V))
 | own (x:Addr)
 | xd (fs:List (Str×V))
 | met (f x:Addr)
 | rng (lo hi:Int)
 | frz (o:Obj) (u:HO)
 | tbl (ps:Array Value)
 | ext (φ:Heap→Prop)
abbrev Hp:=Addr→Option HO
def aC (H:Hp) (a:Addr) (o:HO):Hp:=fun b=>if b=a then some o else H b
theorem aD {H:Hp}{a:Addr}{o:HO}:aC H a o a=some o:=by unfold aC;rw [if_pos rfl]
theorem ag {H:Hp}{a b:Addr}{o:HO} (h:b≠a):aC H a o b=H b:=by unfold aC;rw [if_neg h]
theorem oV {H:Hp}{a b:Addr}{o u:HO} (h:H a=some o) (h':H b=some u) (d:o≠u):a≠b:=by
 intro e;subst e;rw [h] at h';exact d (Option.some.inj h')
theorem aJ {H:Hp}{a b:Addr}{o:HO} (h:H a=some o) (h':H b=none):a≠b:=by
 intro e;subst e;rw [h] at h';cases h'
section
variable (P:Program) (w:World)
def aW (H:Hp) (h:Heap) (a:Addr):HO→Prop
 | .lst xs=>xs.length≤sizeLine∧bh fun (its:List Value) (n:Nat)=>ar xs its∧h.get? a=some { cls:=.type "list",data:=.seq its.toArray n }
 | .tup xs=>xs.length≤sizeLine∧∃its:List Value,ar xs its∧IsTup h a its.toArray∧∃o,h.get? a=some o∧o.dict=none
 | .dK kvs=>kvs.length≤sizeLine∧(a==sysModules)=false∧∃vs,KV kvs vs∧h.DictOf (bt P w) a vs
 | .dT kvs=>kvs.length≤sizeLine∧(a==sysModules)=false∧∃xs:List (List aA×Addr×Value),
  Paired (fun (p:List aA×V) (q:List aA×Addr×Value)=>p.1=q.1∧H q.2.1=some (.tup (p.1.map kV))∧aN p.2 q.2.2) kvs xs∧
  kF fun o es ep=>h.get? a=some o∧o.ExactDict∧o.data=.dict es ep∧es.toList=xs.map (entryOfKey (tupleKind (bt P w)))∧(xs.map (·.1)).Nodup
 | .set S n=>h.SetOf (intKind P w) a S n
 | .ins C dx fs=>H dx=some (.own a)∧fs.length≤1000∧dx≠a∧h.get? a=some (PySem.W.instObj C dx)∧
  ∃mA,h.Ns1 dx mA∧(∀f,jh (fs.lookup f) (mA f))∧PySem.Within mA (fs.map (·.1))
 | .own _=>∃o,h.get? a=some o
 | .xd fs=>∃mA,h.Ns1 a mA∧∀f,jh (fs.lookup f) (mA f)
 | .rng lo hi=>kF fun t u v=>h.get? a=some { cls:=.type "range",data:=.fields #[.int lo t,.int hi u,.int 1 v] }
 | .frz o u=>h.get? a=some o∧aW H h a u
 | .tbl ps=>h.get? a=some { cls:=.none,data:=.fields ps }
 | .met f x=>h.get? a=some (PySem.W.methodObj (.ref f) (.ref x))
 | .ext φ=>φ h∧(∃o,h.get? a=some o)∧∀h1 h2:Heap,φ h1→(∀o,h1.get? a=some o→h2.get? a=some o)→φ h2
def cN (H:Hp) (h:Heap):Prop:=∀a o,H a=some o→aW P w H h a o
end
section
variable {P:Program}{w:World}{H H':Hp}{h h':Heap}{a:Addr}{o:HO}
theorem aW.lt (x:aW P w H h a o):a<h.objs.size:=by
 cases o with
 | lst xs=>obtain ⟨_,_,_,_,e⟩:=x;exact Heap.lt_size e
 | tup xs=>obtain ⟨_,_,_,p,_⟩:=x;exact p.lt
 | dK kvs=>obtain ⟨_,_,_,_,o,_,_,e,_⟩:=x;exact Heap.lt_size e
 | dT kvs=>obtain ⟨_,_,_,_,o,_,_,e,_⟩:=x;exact Heap.lt_size e
 | set S n=>obtain ⟨o,_,_,_,e,_⟩:=x;exact Heap.lt_size e
 | ins C dx fs=>obtain ⟨_,_,_,e,_⟩:=x;exact Heap.lt_size e
 | own y=>obtain ⟨_,e⟩:=x;exact Heap.lt_size e
 | xd fs=>obtain ⟨_,⟨_,_,_,e,_⟩,_⟩:=x;exact Heap.lt_size e
 | rng lo hi=>obtain ⟨_,_,_,e⟩:=x;exact Heap.lt_size e
 | frz ob u=>obtain ⟨e,_⟩:=x;exact Heap.lt_size e
 | tbl ps=>exact Heap.lt_size (show h.get? a=some _ from x)
 | met f y=>exact Heap.lt_size (show h.get? a=some _ from x)
 | ext φ=>obtain ⟨_,⟨_,e⟩,_⟩:=x;exact Heap.lt_size e
theorem Paired.mapP {α β:Type}{F G:α→β→Prop}:∀{l₁:List α}{l₂:List β},Paired F l₁ l₂→(∀a b,F a b→G a b)→Paired G l₁ l₂
 | _,_,.nil,_=>.nil
 | _,_,.cons r t,f=>.cons (f _ _ r) (Paired.mapP t f)
theorem aW.stay (x:aW P w H h a o) (k:∀b u,(b=a∨H b=some (.own a))→h.get? b=some u→h'.get? b=some u)
 (ho:∀b,H b=some (.own a)→H' b=some (.own a)) (ht:∀b xs,H b=some (.tup xs)→H' b=some (.tup xs)):aW P w H' h' a o:=by
 induction o with
 | lst xs=>obtain ⟨z,its,n,r,e⟩:=x;exact ⟨z,its,n,r,k _ _ (.inl rfl) e⟩
 | tup xs=>obtain ⟨z,its,r,⟨ob,e,c⟩,od,e',c'⟩:=x;exact ⟨z,its,r,⟨ob,k _ _ (.inl rfl) e,c⟩,od,k _ _ (.inl rfl) e',c'⟩
 | dK kvs=>obtain ⟨z,y,vs,r,ob,es,ep,e,c⟩:=x;exact ⟨z,y,vs,r,ob,es,ep,k _ _ (.inl rfl) e,c⟩
 | dT kvs=>
  obtain ⟨z,y,xs,r,ob,es,ep,e,c⟩:=x
  exact ⟨z,y,xs,Paired.mapP r fun p q z=>⟨z.1,ht _ _ z.2.1,z.2.2⟩,ob,es,ep,k _ _ (.inl rfl) e,c⟩
 | set S n=>obtain ⟨ob,es,ep,t,e,c⟩:=x;exact ⟨ob,es,ep,t,k _ _ (.inl rfl) e,c⟩
 | ins C dx fs=>
  obtain ⟨d,z,ne,e,mA,⟨od,es,ep,e2,c⟩,r⟩:=x
  exact ⟨ho _ d,z,ne,k _ _ (.inl rfl) e,mA,⟨od,es,ep,k _ _ (.inr d) e2,c⟩,r⟩
 | own y=>obtain ⟨ob,e⟩:=x;exact ⟨ob,k _ _ (.inl rfl) e⟩
 | xd fs=>obtain ⟨mA,⟨od,es,ep,e,c⟩,r⟩:=x;exact ⟨mA,⟨od,es,ep,k _ _ (.inl rfl) e,c⟩,r⟩
 | rng lo hi=>obtain ⟨t,u,v,e⟩:=x;exact ⟨t,u,v,k _ _ (.inl rfl) e⟩
 | frz ob u ih=>obtain ⟨e,q⟩:=x;exact ⟨k _ _ (.inl rfl) e,ih q⟩
 | tbl ps=>
  have e:h.get? a=some { cls:=.none,data:=.fields ps }:=x
  show h'.get? a=some { cls:=.none,data:=.fields ps }
  exact k a _ (.inl rfl) e
 | met f y=>
  have e:h.get? a=some (PySem.W.methodObj (.ref f) (.ref y)):=x
  show h'.get? a=some (PySem.W.methodObj (.ref f) (.ref y))
  exact k a _ (.inl rfl) e
 | ext φ=>obtain ⟨p,⟨o,e⟩,st⟩:=x;exact ⟨st _ _ p fun o q=>k _ _ (.inl rfl) q,⟨o,k _ _ (.inl rfl) e⟩,st⟩
theorem cN.lt (x:cN P w H h) (e:H a=some o):a<h.objs.size:=(x a o e).lt
theorem cN.fresh (x:cN P w H h) (e:h.objs.size≤a):H a=none:=by
 cases q:H a with
 | none=>rfl
 | some u=>exact absurd (Nat.lt_of_lt_of_le (x.lt q) e) (Nat.lt_irrefl _)
theorem cN.kept (x:cN P w H h) (k:∀b u,h.get? b=some u→h'.get? b=some u):cN P w H h':=fun a o e=>
 (x a o e).stay (fun b u _ q=>k b u q) (fun _ q=>q) fun _ _ q=>q
theorem cN.laid (x:cN P w H h) (k:∀b u,h.get? b=some u→h'.get? b=some u) (hp:h.objs.size≤a) (new:aW P w (aC H a o) h' a o):cN P w (aC H a o) h':=fun b u e=>by
 have hn:=x.fresh hp
 by_cases hb:b=a
 ·subst hb;rw [aD] at e;cases e;exact new
 ·rw [ag hb] at e
  exact (x b u e).stay (fun c v _ q=>k c v q) (fun c q=>by rw [ag (aJ q hn)];exact q) fun c xs q=>by rw [ag (aJ q hn)];exact q
end
def Rd (H:Hp) (a:Addr) (u:HO):Prop:=H a=some u∨∃o,H a=some (.frz o u)
theorem Rd.ok {P:Program}{w:World}{H:Hp}{h:Heap}{a:Addr}{u:HO} (r:Rd H a u) (x:cN P w H h):aW P w H h a u:=by
 rcases r with r | ⟨o,r⟩
 ·exact x a u r
 ·obtain ⟨_,q⟩:=x a _ r
  exact q
def zY:Option HO→Prop
 | some (.lst _)=>True
 | some (.dK _)=>True
 | some (.dT _)=>True
 | some (.set _ _)=>True
 | some (.ins _ _ _)=>True
 | some (.ext _)=>True
 | _=>False
section
variable {P:Program}{w:World}{H:Hp}{h h':Heap}{x e:Addr}{o':HO}
theorem cN.write (ok:cN P w H h) (mu:zY (H x)) (he:e=x∨H e=some (.own x)) (k:∀b u,b≠e→h.get? b=some u→h'.get? b=some u) (heo:∃u,h'.get? e=some u)
 (new:aW P w (aC H x o') h' x o'):cN P w (aC H x o') h':=fun b u q=>by
 have nown:∀c y,H c=some (.own y)→c≠x:=fun c y r z=>by subst z;rw [r] at mu;exact mu
 have ntup:∀c xs,H c=some (.tup xs)→c≠x:=fun c xs r z=>by subst z;rw [r] at mu;exact mu
 by_cases hb:b=x
 ·subst hb;rw [aD] at q;cases q;exact new
 ·rw [ag hb] at q
  by_cases hbe:b=e
  ·have q':H b=some (.own x):=by
    rcases he with z | z
    ·exact absurd (hbe.trans z) hb
    ·rw [hbe];exact z
   rw [q] at q';cases q'
   obtain ⟨v,hv⟩:=heo
   exact ⟨v,by rw [hbe];exact hv⟩
  ·refine (ok b u q).stay (fun c v hc r=>k c v ?_ r) (fun c r=>by rw [ag (nown c b r)];exact r) fun c xs r=>by rw [ag (ntup c xs r)];exact r
   rcases hc with rfl | hc
   ·exact hbe
   ·rintro rfl
    rcases he with z | z
    ·exact nown c b hc z
    ·rw [hc] at z;cases z;exact hb rfl
end
structure Un (fs ex:List Addr) (H H':Hp) (h h':Heap):Prop where
 keep:∀b o,h.get? b=some o→H b=none→b∉fs→b∉ex→h'.get? b=some o
 slot:∀b o,h.get? b=some o→H b=none→b∈fs→b∉ex→∃sl,h'.get? b=some { o with slots:=sl }
 free:∀b o,h.get? b=some o→H b=none→b∉ex→H' b=none
 there:∀b o,h.get? b=some o→b∉ex→∃o',h'.get? b=some o'
 tups:∀b xs,H b=some (.tup xs)→H' b=some (.tup xs)
 frzs:∀b o u,H b=some (.frz o u)→H' b=some (.frz o u)
 tbls:∀b ps,H b=some (.tbl ps)→∃more,H' b=some (.tbl (ps++more))
section
variable {fs fs' ex ex':List Addr}{H H1 H2:Hp}{h h1 h2 h':Heap}{a x e:Addr}{o:HO}
theorem Un.any (u:Un fs ex H H1 h h1) {b:Addr}{ob:Obj} (q:h.get? b=some ob) (n:H b=none) (hx:b∉ex):∃sl,h1.get? b=some { ob with slots:=sl }:=by
 by_cases hb:b∈fs
 ·exact u.slot b ob q n hb hx
 ·exact ⟨ob.slots,u.keep b ob q n hb hx⟩
theorem Un.kept (k:∀b u,h.get? b=some u→h'.get? b=some u):Un fs ex H H h h':=
 ⟨fun b ob q _ _ _=>k b ob q,fun b ob q _ _ _=>⟨ob.slots,k b ob q⟩,fun _ _ _ n _=>n,fun b ob q _=>⟨ob,k b ob q⟩,fun _ _ q=>q,fun _ _ _ q=>q,fun _ ps q=>⟨#[],by rw [q];simp⟩⟩
theorem Un.refl:Un fs ex H H h h:=Un.kept fun _ _ q=>q
theorem Un.laid (k:∀b u,h.get? b=some u→h'.get? b=some u) (hp:h.objs.size≤a) (hn:H a=none):Un fs ex H (aC H a o) h h' where
 keep:=fun b u q _ _ _=>k b u q
 slot:=fun b u q _ _ _=>⟨u.slots,k b u q⟩
 free:=fun b u q n _=>by rw [ag (Nat.ne_of_lt (Nat.lt_of_lt_of_le (Heap.lt_size q) hp))];exact n
 there:=fun b u q _=>⟨u,k b u q⟩
 tups:=fun b xs q=>by rw [ag (aJ q hn)];exact q
 frzs:=fun b u xs q=>by rw [ag (aJ q hn)];exact q
 tbls:=fun b ps q=>⟨#[],by rw [ag (aJ q hn),q];simp⟩
theorem Un.write (mu:zY (H x)) (he:e=x∨H e=some (.own x)) (k:∀b u,b≠e→h.get? b=some u→h'.get? b=some u) (heo:∃u,h'.get? e=some u):Un fs ex H (aC H x o) h h':=by
 have hx:∀b,H b=none→b≠x:=fun b n z=>by subst z;rw [n] at mu;exact mu
 have hb:∀b,H b=none→b≠e:=fun b n z=>by
  subst z
  rcases he with r | r
  ·exact hx b n r
  ·rw [n] at r;cases r
 have hm:∀b u,H b=some u→¬zY (some u)→b≠x:=fun b u q nm z=>by subst z;rw [q] at mu;exact nm mu
 refine ⟨fun b u q n _ _=>k b u (hb b n) q,fun b u q n _ _=>⟨u.slots,k b u (hb b n) q⟩,fun b u q n _=>by rw [ag (hx b n)];exact n,fun b u q _=>?_,
  fun b xs q=>by rw [ag (hm b _ q fun z=>z)];exact q,fun b u xs q=>by rw [ag (hm b _ q fun z=>z)];exact q,fun b ps q=>⟨#[],by rw [ag (hm b _ q fun z=>z),q];simp⟩⟩
 by_cases hbe:b=e
 ·subst hbe;exact heo
 ·exact ⟨u,k b u hbe q⟩
end
def zL (h:Heap) (H:Hp):List Addr:=(List.range h.objs.size).filter fun a=>(H a).isSome
def mE (h:Heap) (H:Hp):Heap:=PySem.W.hideAll h (zL h H)
theorem wW (h:Heap) (H:Hp):(mE h H).objs.size=h.objs.size:=PySem.W.hideAll_size _ _
theorem zn {h:Heap}{H:Hp}{b:Addr}{o:Obj} (e:h.get? b=some o) (n:H b=none):(mE h H).get? b=some o:=
 PySem.W.hideAll_get _ e fun hm=>by
  have q:(H b).isSome=true:=(List.mem_filter.mp hm).2
  rw [n] at q;simp at q
theorem A2 {h:Heap}{H:Hp}{b:Addr}{o:Obj} (e:(mE h H).get? b=some o):h.get? b=some o∧H b=none:=by
 have e':h.get? b=some o:=PySem.W.of_hideAll (zL h H) e
 refine ⟨e',?_⟩
 cases q:H b with
 | none=>rfl
 | some x=>
  have hm:b∈zL h H:=List.mem_filter.mpr ⟨List.mem_range.mpr (Heap.lt_size e'),by simp [q]⟩
  have z:(mE h H).get? b=none:=PySem.W.hideAll_none (zL h H) hm
  rw [z] at e;cases e
structure Mod (K:PySem.W.Frag) (mg:Str→Option Value) (base:Heap):Prop where
 kin:K.In base
 glob:base.Ns mainGlobals mg
 blt:∃mb,base.Ns builtinsNs mb∧∀x:Str,x≠"__name__"→mb x=bootBuiltins x
 nolimit:base.NoLimit
structure Cx where
 prog:Program
 w:World
 K:PySem.W.Frag
 mg:Str→Option Value
 base:Heap
 A:Around
 N:List Str
 s₀:Shared
 H₀:Hp
 env:Env
 outer:List Env
 stack:List Env
 ex:List Addr
 fn:Str→Bool
 calm:Bool
 pn:List (Addr×Obj)
 xe:Value→Shared→Prop
def gT (l:List Env):List Addr:=l.filterMap (·.frame)
abbrev Cx.fs (X:Cx):List Addr:=gT X.outer
def Aa (sc:Scope) (x:Str):Prop:=sc.names.lookup x=some .local∨sc.names.lookup x=some .cell∨sc.names.lookup x=some .free
def zT (sc:Scope) (x:Str):Prop:=sc.names.lookup x=some .local∨sc.names.lookup x=some .cell
def E2 (env:Env) (h:Heap) (m:Str→Option Value) (x:Str) (u:Value):Prop:=
 (env.kindOf x=some .local∧m x=some u)∨((env.kindOf x=some .cell∨env.kindOf x=some .free)∧∃c,env.cells.lookup x=some c∧h.IsCell c (some u))
structure Cx.Ok (X:Cx):Prop where
 mod:Mod X.K X.mg X.base
 kind:X.env.scope.kind=.function
 glob:X.env.globals=mainGlobals
 blt:X.env.builtins=builtinsNs
 above:X.s₀.heap.objs.size≤X.env.locals
 inj:∀x y c,X.env.cells.lookup x=some c→X.env.cells.lookup y=some c→x=y
 has:∀x,(X.env.kindOf x=some .cell∨X.env.kindOf x=some .free)→∃c,X.env.cells.lookup x=some c
 cab:∀x c,X.fn x=true→X.env.cells.lookup x=some c→X.s₀.heap.objs.size≤c
 hd:X.calm=true→X.A.handled=none
 frames:X.A.frames=some X.stack
 stk:X.stack=X.outer∨(X.stack=X.env :: X.outer∧X.env.frame=some X.env.locals)
 exf:∀b∈X.ex,b≠X.env.locals∧∀x c,X.env.cells.lookup x=some c→c≠b
 bs:∀b o,X.base.get? b=some o→X.s₀.heap.get? b=some o∧X.H₀ b=none
 bsz:X.base.objs.size≤X.s₀.heap.objs.size
 noex:∀b o,X.base.get? b=some o→b∉X.ex
 exfs:∀b∈X.ex,b∉X.fs
 funs:X.s₀.heap.FunFrames X.base X.outer
 frf:∀b∈X.fs,X.H₀ b=none
structure ac (X:Cx) (pins:List (Addr×Obj)) (σ:List (Option V)) (H:Hp) (s:Shared):Prop where
 ok:X.Ok
 os:s.os=X.s₀.os
 bare:AllBare s.gens
 base:Un X.fs X.ex X.H₀ H X.s₀.heap s.heap
 loc:∃m,s.heap.Ns X.env.locals m∧∀(i:Nat) (x:Str) (v:V),X.N[i]?=some x→σ[i]?=some (some v)→Aa X.env.scope x→∃u,aN v u∧E2 X.env s.heap m x u
 cell:∀x c,X.env.cells.lookup x=some c→∃v,s.heap.IsCell c v
 free:H X.env.locals=none
 freeC:∀x c,X.env.cells.lookup x=some c→H c=none
 pin:∀p∈X.pn++pins,s.heap.get? p.1=some p.2∧H p.1=none∧p.1≠X.env.locals∧p.1∉X.fs∧∀v,p.2.data≠.cell v
 hok:cN X.prog X.w H s.heap
 len:σ.length=X.N.length
section
variable {X:Cx}{pins:List (Addr×Obj)}{σ:List (Option V)}{H H':Hp}{s:Shared}{h':Heap}
theorem Cx.Ok.nofr (ok:X.Ok) {b:Addr}{o:Obj} (e:X.base.get? b=some o):b∉X.fs:=fun hb=>by
 have:=(ok.funs.mem hb).1
 rw [e] at this;cases this
theorem ac.bs (I:ac X pins σ H s):∀b o,X.base.get? b=some o→s.heap.get? b=some o∧H b=none:=fun b o e=>
 ⟨I.base.keep b o (I.ok.bs b o e).1 (I.ok.bs b o e).2 (I.ok.nofr e) (I.ok.noex b o e),I.base.free b o (I.ok.bs b o e).1 (I.ok.bs b o e).2 (I.ok.noex b o e)⟩
theorem ac.bk (I:ac X pins σ H s):∀b o,X.base.get? b=some o→s.heap.get? b=some o:=fun b o e=>(I.bs b o e).1
theorem ac.mod (I:ac X pins σ H s):Mod X.K X.mg X.base:=I.ok.mod
theorem ac.kIn (I:ac X pins σ H s):X.K.In s.heap:=I.ok.mod.kin.keeps I.bk
theorem ac.lt (I:ac X pins σ H s):X.env.locals<s.heap.objs.size:=let ⟨_,hn,_⟩:=I.loc;hn.lt
theorem ac.sz (I:ac X pins σ H s):X.s₀.heap.objs.size≤s.heap.objs.size:=Nat.le_trans I.ok.above (Nat.le_of_lt I.lt)
theorem ac.nofs (I:ac X pins σ H s) {a:Addr} (h:s.heap.objs.size≤a):a∉X.fs:=fun hb=>by
 obtain ⟨_,o,ho,_⟩:=I.ok.funs.mem hb
 exact absurd (Nat.lt_of_lt_of_le (Heap.lt_size ho) (Nat.le_trans I.sz h)) (Nat.lt_irrefl _)
theorem ac.cne (I:ac X pins σ H s):∀x c,X.env.cells.lookup x=some c→c≠X.env.locals:=fun x c e z=>by
 obtain ⟨v,o,ho,hd⟩:=I.cell x c e
 obtain ⟨m,⟨o',es,ep,ho',hd',_⟩,_⟩:=I.loc
 rw [z,ho'] at ho;cases ho;rw [hd'] at hd;cases hd
theorem ac.funs (I:ac X pins σ H s):s.heap.FunFrames X.base X.outer:=by
 have all:∀(l:List Env),(∀b∈gT l,b∈X.fs)→X.s₀.heap.FunFrames X.base l→s.heap.FunFrames X.base l:=by
  intro l
  induction l with
  | nil=>intro _ _;trivial
  | cons env r ih=>
   intro hs hl
   obtain ⟨hk,⟨L,o,hf,hn,ho,hd⟩,hr⟩:=hl
   have hL:L∈X.fs:=hs L (by unfold gT;rw [List.filterMap_cons,hf];exact List.mem_cons_self)
   obtain ⟨sl,e⟩:=I.base.slot L o ho (I.ok.frf L hL) hL fun z=>I.ok.exfs L z hL
   exact ⟨hk,⟨L,_,hf,hn,e,hd⟩,ih (fun b hb=>hs b (by unfold gT;rw [List.filterMap_cons,hf];exact List.mem_cons_of_mem _ hb)) hr⟩
 exact all X.outer (fun _ hb=>hb) I.ok.funs
theorem ac.stack (I:ac X pins σ H s):s.heap.FunFrames X.base X.stack:=by
 rcases I.ok.stk with e | ⟨e,hf⟩
 ·rw [e];exact I.funs
 ·rw [e]
  obtain ⟨m,hn,_⟩:=I.loc
  refine .cons (by rw [I.ok.kind];decide) hf hn ?_ I.funs
  exact Heap.get?_none_of_le (Nat.le_trans I.ok.bsz I.ok.above)
theorem ac.stkSub (I:ac X pins σ H s):∀b∈gT X.stack,b∈X.env.locals :: X.fs:=fun b hb=>by
 rcases I.ok.stk with e | ⟨e,hf⟩
 ·rw [e] at hb;exact List.mem_cons_of_mem _ hb
 ·rw [e] at hb
  unfold gT at hb
  rw [List.filterMap_cons,hf] at hb
  exact hb
theorem ac.stkFree (I:ac X pins σ H s):∀b∈gT X.stack,H b=none:=fun b hb=>by
 rcases List.mem_cons.mp (I.stkSub b hb) with e | hb
 ·rw [e];exact I.free
 ·obtain ⟨_,o,ho,_⟩:=I.ok.funs.mem hb
  exact I.base.free b o ho (I.ok.frf b hb) fun z=>I.ok.exfs b z hb
theorem ac.step {g':Array GenState}{t':Nat}{d':Drawn}{ch:List Addr} (I:ac X pins σ H s)
 (hch:∀b∈ch,(b∈X.ex∨X.s₀.heap.objs.size≤b)∧b≠X.env.locals∧(∀x c,X.env.cells.lookup x=some c→c≠b)∧∀p∈X.pn++pins,p.1≠b)
 (keep:∀b o,b≠X.env.locals→b∉X.fs→b∉ch→s.heap.get? b=some o→H b=none→h'.get? b=some o)
 (slot:∀b o,b≠X.env.locals→b∈X.fs→b∉ch→s.heap.get? b=some o→H b=none→∃sl,h'.get? b=some { o with slots:=sl }) (free:∀b o,b∉ch→s.heap.get? b=some o→H b=none→H' b=none)
 (there:∀b o,b∉ch→s.heap.get? b=some o→∃o',h'.get? b=some o')
 (tups:∀b xs,H b=some (.tup xs)→H' b=some (.tup xs)) (frzs:∀b o u,H b=some (.frz o u)→H' b=some (.frz o u)) (tbls:∀b ps,H b=some (.tbl ps)→∃more,H' b=some (.tbl (ps++more)))
 (ns:∀m,s.heap.Ns X.env.locals m→h'.Ns X.env.locals m) (hok:cN X.prog X.w H' h') (hg:AllBare g') :
 ac X pins σ H' { s with heap:=h',gens:=g',drawn:=d',toks:=t' }:=by
 have neL:∀b o,X.s₀.heap.get? b=some o→b≠X.env.locals:=fun b o e=>Nat.ne_of_lt (Nat.lt_of_lt_of_le (Heap.lt_size e) I.ok.above)
 have neC:∀b o,X.s₀.heap.get? b=some o→b∉X.ex→b∉ch:=fun b o e hx hb=>by
  rcases (hch b hb).1 with z | z
  ·exact hx z
  ·exact absurd (Nat.lt_of_lt_of_le (Heap.lt_size e) z) (Nat.lt_irrefl _)
 have cellK:∀x c,X.env.cells.lookup x=some c→∀v,s.heap.IsCell c v→h'.IsCell c v:=fun x c e v ⟨o,ho,hd⟩=>by
  have nch:c∉ch:=fun z=>(hch c z).2.2.1 x c e rfl
  by_cases hc:c∈X.fs
  ·obtain ⟨sl,q⟩:=slot c o (I.cne x c e) hc nch ho (I.freeC x c e)
   exact ⟨_,q,hd⟩
  ·exact ⟨o,keep c o (I.cne x c e) hc nch ho (I.freeC x c e),hd⟩
 refine ⟨I.ok,I.os,hg,⟨fun b o e n hb hx=>?_,fun b o e n hb hx=>?_,fun b o e n hx=>?_,fun b o e hx=>?_,fun b xs e=>tups b xs (I.base.tups b xs e),fun b o xs e=>frzs b o xs (I.base.frzs b o xs e),fun b ps e=>?_⟩,?_,fun x c e=>?_,?_,fun x c e=>?_,fun p hp=>?_,hok,I.len⟩
 ·exact keep b o (neL b o e) hb (neC b o e hx) (I.base.keep b o e n hb hx) (I.base.free b o e n hx)
 ·obtain ⟨sl,e1⟩:=I.base.slot b o e n hb hx
  obtain ⟨sl',e2⟩:=slot b _ (neL b o e) hb (neC b o e hx) e1 (I.base.free b o e n hx)
  exact ⟨sl',e2⟩
 ·obtain ⟨o',e1⟩:=I.base.there b o e hx
  exact free b o' (neC b o e hx) e1 (I.base.free b o e n hx)
 ·obtain ⟨o',e1⟩:=I.base.there b o e hx
  exact there b o' (neC b o e hx) e1
 ·obtain ⟨m1,e1⟩:=I.base.tbls b ps e
  obtain ⟨m2,e2⟩:=tbls b _ e1
  exact ⟨m1++m2,by rw [e2,Array.append_assoc]⟩
 ·obtain ⟨m,hn,hl⟩:=I.loc
  refine ⟨m,ns m hn,fun i x v e1 e2 e3=>?_⟩
  obtain ⟨u,r,l⟩:=hl i x v e1 e2 e3
  refine ⟨u,r,?_⟩
  rcases l with l | ⟨k,c,e,z⟩
  ·exact .inl l
  ·exact .inr ⟨k,c,e,cellK x c e _ z⟩
 ·obtain ⟨v,z⟩:=I.cell x c e
  exact ⟨v,cellK x c e v z⟩
 ·obtain ⟨m,⟨o,_,_,ho,_⟩,_⟩:=I.loc
  exact free _ o (fun z=>(hch _ z).2.1 rfl) ho I.free
 ·obtain ⟨v,o,ho,hd⟩:=I.cell x c e
  exact free c o (fun z=>(hch c z).2.2.1 x c e rfl) ho (I.freeC x c e)
 ·obtain ⟨e,n,ne,nf,d⟩:=I.pin p hp
  have nch:p.1∉ch:=fun z=>(hch p.1 z).2.2.2 p hp rfl
  exact ⟨keep p.1 p.2 ne nf nch e n,free p.1 p.2 nch e n,ne,nf,d⟩
theorem ac.un {t':Nat} (I:ac X pins σ H s) (u:Un X.fs [] H H' s.heap h') (hok:cN X.prog X.w H' h'):ac X pins σ H' { s with heap:=h',toks:=t' }:=by
 obtain ⟨m,⟨o,es,ep,ho,r⟩,_⟩:=id I.loc
 obtain ⟨sl,hL⟩:=u.any ho I.free (by simp)
 exact I.step (g':=s.gens) (d':=s.drawn) (ch:=[]) (fun _ z=>nomatch z) (fun b o _ hb _ e n=>u.keep b o e n hb (by simp)) (fun b o _ hb _ e n=>u.slot b o e n hb (by simp)) (fun b o _ e n=>u.free b o e n (by simp)) (fun b o _ e=>u.there b o e (by simp)) u.tups u.frzs u.tbls (fun m' hm=>by
  obtain ⟨o',es',ep',ho',r'⟩:=hm
  rw [ho] at ho';cases ho'
  exact ⟨_,es',ep',hL,r'⟩) hok I.bare
theorem ac.call {g':Array GenState}{t':Nat}{d':Drawn}{ch:List Addr} (I:ac X pins σ H s) (u:Un (gT X.stack) ch H H' s.heap h') (hok:cN X.prog X.w H' h') (hg:AllBare g')
 (hch:∀b∈ch,(b∈X.ex∨X.s₀.heap.objs.size≤b)∧b≠X.env.locals∧(∀x c,X.env.cells.lookup x=some c→c≠b)∧∀p∈X.pn++pins,p.1≠b) :
 ac X pins σ H' { s with heap:=h',gens:=g',drawn:=d',toks:=t' }:=by
 obtain ⟨m,⟨o,es,ep,ho,r⟩,_⟩:=id I.loc
 obtain ⟨sl,hL⟩:=u.any ho I.free fun z=>(hch _ z).2.1 rfl
 exact I.step (ch:=ch) hch (fun b o hL hb hc e n=>u.keep b o e n (fun z=>(List.mem_cons.mp (I.stkSub b z)).elim hL hb) hc) (fun b o _ _ hc e n=>u.any e n hc) (fun b o hc e n=>u.free b o e n hc) (fun b o hc e=>u.there b o e hc) u.tups u.frzs u.tbls (fun m' hm=>by
  obtain ⟨o',es',ep',ho',r'⟩:=hm
  rw [ho] at ho';cases ho'
  exact ⟨_,es',ep',hL,r'⟩) hok hg
theorem ac.turned {t':Nat}{it:Addr} (I:ac X pins σ H s) (k:∀b o,b≠it→s.heap.get? b=some o→h'.get? b=some o) (hn:H it=none) (hL:it≠X.env.locals)
 (h1:it∈X.ex∨X.s₀.heap.objs.size≤it) (h2:∀x c,X.env.cells.lookup x=some c→c≠it) (h3:∀p∈X.pn++pins,p.1≠it):ac X pins σ H { s with heap:=h',toks:=t' }:=by
 have nit:∀b u,H b=some u→b≠it:=fun b u e z=>by rw [z,hn] at e;cases e
 refine I.step (g':=s.gens) (d':=s.drawn) (ch:=[it]) (fun b hb=>?_) (fun b o _ _ hc e _=>k b o (fun z=>hc (by simp [z])) e) (fun b o _ _ hc e _=>⟨o.slots,k b o (fun z=>hc (by simp [z])) e⟩) (fun _ _ _ _ n=>n)
  (fun b o hc e=>⟨o,k b o (fun z=>hc (by simp [z])) e⟩) (fun _ _ e=>e) (fun _ _ _ e=>e) (fun b ps e=>⟨#[],by rw [e];simp⟩) (fun m hm=>?_) (fun b u e=>?_) I.bare
 ·have e:b=it:=by simpa using hb
  subst e
  exact ⟨h1,hL,h2,h3⟩
 ·obtain ⟨o,es,ep,ho,r⟩:=hm
  exact ⟨o,es,ep,k _ o (Ne.symm hL) ho,r⟩
 ·refine (I.hok b u e).stay (fun c v hc q=>k c v ?_ q) (fun _ q=>q) fun _ _ q=>q
  rcases hc with z | z
  ·rw [z];exact nit b u e
  ·exact nit c _ z
theorem ac.tok (I:ac X pins σ H s) (t:Nat):ac X pins σ H { s with toks:=t }:=I.un (h':=s.heap) (t':=t) Un.refl I.hok
theorem ac.kept {t':Nat} (I:ac X pins σ H s) (k:∀b u,s.heap.get? b=some u→h'.get? b=some u):ac X pins σ H { s with heap:=h',toks:=t' }:=I.un (Un.kept k) (I.hok.kept k)
theorem ac.laid {a:Addr}{o:HO}{t':Nat} (I:ac X pins σ H s) (k:∀b u,s.heap.get? b=some u→h'.get? b=some u) (hp:s.heap.objs.size≤a) (new:aW X.prog X.w (aC H a o) h' a o) :
 ac X pins σ (aC H a o) { s with heap:=h',toks:=t' }:=I.un (Un.laid k hp (I.hok.fresh hp)) (I.hok.laid k hp new)
theorem ac.write {x e:Addr}{o:HO}{t':Nat} (I:ac X pins σ H s) (mu:zY (H x)) (he:e=x∨H e=some (.own x)) (k:∀b u,b≠e→s.heap.get? b=some u→h'.get? b=some u) (heo:∃u,h'.get? e=some u)
 (new:aW X.prog X.w (aC H x o) h' x o):ac X pins σ (aC H x o) { s with heap:=h',toks:=t' }:=I.un (Un.write mu he k heo) (I.hok.write mu he k heo new)
theorem ac.weak {σ':List (Option V)} (I:ac X pins σ H s) (hl:σ'.length=σ.length) (w:∀(i:Nat) v,σ'[i]?=some (some v)→σ[i]?=some (some v)):ac X pins σ' H s:=
 ⟨I.ok,I.os,I.bare,I.base,let ⟨m,hn,hl'⟩:=I.loc;⟨m,hn,fun i x v e1 e2 e3=>hl' i x v e1 (w i v e2) e3⟩,I.cell,I.free,I.freeC,I.pin,I.hok,hl.trans I.len⟩
theorem ac.pins_of {pins':List (Addr×Obj)} (I:ac X pins σ H s) (h:∀p∈pins',s.heap.get? p.1=some p.2∧H p.1=none∧p.1≠X.env.locals∧p.1∉X.fs∧∀v,p.2.data≠.cell v):ac X pins' σ H s:=
 ⟨I.ok,I.os,I.bare,I.base,I.loc,I.cell,I.free,I.freeC,fun p hp=>(List.mem_append.mp hp).elim (fun z=>I.pin p (List.mem_append_left _ z)) (h p),I.hok,I.len⟩
theorem tq {N:List Str} (hN:N.Nodup) {i j:Nat}{x:Str} (a:N[i]?=some x) (b:N[j]?=some x):i=j:=by
 obtain ⟨h1,e1⟩:=List.getElem?_eq_some_iff.mp a
 obtain ⟨h2,e2⟩:=List.getElem?_eq_some_iff.mp b
 exact (List.getElem_inj hN).mp (e1.trans e2.symm)
theorem oa {M:Model}{A:Around}{E:Value→Shared→Prop}{i:Nat}{x:Str}{v:V}{u:Value}{Q:Unit→Shared→Prop} (I:ac X pins σ H s) (hN:X.N.Nodup) (hi:X.N[i]?=some x) (hx:zT X.env.scope x) (r:aN v u)
 (h:∀s',ac X pins (σ.set i (some v)) H s'→(∃a,Heap.SameBut a s.heap s'.heap∧(a=X.env.locals∨X.env.cells.lookup x=some a))→Q () s') (hf:X.fn x=true∨X.env.scope.names.lookup x=some .local:=by first | exact .inl rfl | exact .inr rfl | assumption):wpAny M A (storeName X.env x u) Q E s:=by
 obtain ⟨m,hn,hl⟩:=id I.loc
 have hcls:(X.env.scope.kind==.class || (X.env.scope.kind==.module && X.env.locals != X.env.globals))=false:=by rw [I.ok.kind];rfl
 have hiσ:i<σ.length:=by rw [I.len];exact (List.getElem?_eq_some_iff.mp hi).1
 have cne:=I.cne
 have tracked:∀{a:Addr}{h':Heap},(∃o,s.heap.get? a=some o∧H a=none)→Heap.SameBut a s.heap h'→cN X.prog X.w H h':=fun {a h'} ha hs b ob e=>by
  obtain ⟨_,_,hfree⟩:=ha
  refine (I.hok b ob e).stay (fun c w' hc q=>(hs.2 c ?_).trans q) (fun _ q=>q) fun _ _ q=>q
  rintro rfl
  rcases hc with rfl | hc
  ·rw [hfree] at e;cases e
  ·rw [hfree] at hc;cases hc
 rcases hx with hk | hk
 ·refine wpAny_storeName_local hk hn (fun h' hn' hs=>?_) hcls
  obtain ⟨oL,_,_,hoL,_⟩:=id hn
  refine h _ ⟨I.ok,I.os,I.bare,⟨fun b o e n hb hx=>?_,fun b o e n hb hx=>?_,I.base.free,fun b o e hx=>?_,I.base.tups,I.base.frzs,I.base.tbls⟩,⟨_,hn',fun j y v' e1 e2 e3=>?_⟩,fun y c e=>?_,I.free,I.freeC,fun p hp=>?_,tracked ⟨oL,hoL,I.free⟩ hs,by simpa using I.len⟩ ⟨_,hs,.inl rfl⟩
  ·exact (hs.2 b (Nat.ne_of_lt (Nat.lt_of_lt_of_le (Heap.lt_size e) I.ok.above))).trans (I.base.keep b o e n hb hx)
  ·obtain ⟨sl,e1⟩:=I.base.slot b o e n hb hx
   exact ⟨sl,(hs.2 b (Nat.ne_of_lt (Nat.lt_of_lt_of_le (Heap.lt_size e) I.ok.above))).trans e1⟩
  ·obtain ⟨o',e1⟩:=I.base.there b o e hx
   exact ⟨o',(hs.2 b (Nat.ne_of_lt (Nat.lt_of_lt_of_le (Heap.lt_size e) I.ok.above))).trans e1⟩
  ·by_cases hj:j=i
   ·subst hj
    rw [hi] at e1;cases e1
    rw [List.getElem?_set_self hiσ] at e2
    cases e2
    exact ⟨u,r,.inl ⟨hk,by simp⟩⟩
   ·rw [List.getElem?_set_ne (Ne.symm hj)] at e2
    obtain ⟨u',r',q⟩:=hl j y v' e1 e2 e3
    refine ⟨u',r',?_⟩
    rcases q with ⟨k,e⟩ | ⟨k,c,e,z⟩
    ·refine .inl ⟨k,?_⟩
     have:y≠x:=fun e=>hj (tq hN e1 (e▸hi))
     simp [this,e]
    ·exact .inr ⟨k,c,e,z.sameBut hs (cne y c e)⟩
  ·obtain ⟨w',z⟩:=I.cell y c e
   exact ⟨w',z.sameBut hs (cne y c e)⟩
  ·obtain ⟨e,n,ne,nf,d⟩:=I.pin p hp
   exact ⟨(hs.2 p.1 ne).trans e,n,ne,nf,d⟩
 ·have hfn:X.fn x=true:=by
   rcases hf with z | z
   ·exact z
   ·rw [z] at hk;cases hk
  obtain ⟨c,hc⟩:=I.ok.has x (.inl hk)
  obtain ⟨w',z⟩:=I.cell x c hc
  refine wpAny_storeName_cell I.ok.kind hk hc z (fun h' hc' hs=>?_)
  obtain ⟨oc,hoc,hocd⟩:=id z
  refine h { s with heap:=h' } ⟨I.ok,I.os,I.bare,⟨fun b o e n hb hx=>?_,fun b o e n hb hx=>?_,I.base.free,fun b o e hx=>?_,I.base.tups,I.base.frzs,I.base.tbls⟩,⟨m,hn.sameBut hs (Ne.symm (cne x c hc)),fun j y v' e1 e2 e3=>?_⟩,fun y c' e=>?_,I.free,I.freeC,fun p hp=>?_,tracked ⟨oc,hoc,I.freeC x c hc⟩ hs,by simpa using I.len⟩ ⟨c,hs,.inr hc⟩
  ·exact (hs.2 b (Nat.ne_of_lt (Nat.lt_of_lt_of_le (Heap.lt_size e) (I.ok.cab x c hfn hc)))).trans (I.base.keep b o e n hb hx)
  ·obtain ⟨sl,e1⟩:=I.base.slot b o e n hb hx
   exact ⟨sl,(hs.2 b (Nat.ne_of_lt (Nat.lt_of_lt_of_le (Heap.lt_size e) (I.ok.cab x c hfn hc)))).trans e1⟩
  ·obtain ⟨o',e1⟩:=I.base.there b o e hx
   exact ⟨o',(hs.2 b (Nat.ne_of_lt (Nat.lt_of_lt_of_le (Heap.lt_size e) (I.ok.cab x c hfn hc)))).trans e1⟩
  ·by_cases hj:j=i
   ·subst hj
    rw [hi] at e1;cases e1
    rw [List.getElem?_set_self hiσ] at e2
    cases e2
    exact ⟨u,r,.inr ⟨.inl hk,c,hc,hc'⟩⟩
   ·rw [List.getElem?_set_ne (Ne.symm hj)] at e2
    obtain ⟨u',r',q⟩:=hl j y v' e1 e2 e3
    refine ⟨u',r',?_⟩
    rcases q with q | ⟨k,c',e,z'⟩
    ·exact .inl q
    ·refine .inr ⟨k,c',e,z'.sameBut hs ?_⟩
     rintro rfl
     exact hj (tq hN e1 (I.ok.inj _ _ _ e hc▸hi))
  ·by_cases hcc:c'=c
   ·subst hcc;exact ⟨_,hc'⟩
   ·obtain ⟨w2,z2⟩:=I.cell y c' e
    exact ⟨w2,z2.sameBut hs hcc⟩
  ·obtain ⟨e,n,ne,nf,d⟩:=I.pin p hp
   refine ⟨(hs.2 p.1 ?_).trans e,n,ne,nf,d⟩
   intro q
   rw [q,hoc] at e
   have q':oc=p.2:=Option.some.inj e
   exact d w' (by rw [←q'];exact hocd)
theorem mQ {M:Model}{A:Around}{E:Value→Shared→Prop}{i:Nat}{x:Str}{v:V}{u:Value}{Q:Unit→Shared→Prop} (I:ac X pins σ H s) (hN:X.N.Nodup) (hi:X.N[i]?=some x) (hx:zT X.env.scope x) (r:aN v u)
 (h:∀s',ac X pins (σ.set i (some v)) H s'→Q () s') (hf:X.fn x=true∨X.env.scope.names.lookup x=some .local:=by first | exact .inl rfl | exact .inr rfl | assumption):wpAny M A (storeName X.env x u) Q E s:=
 oa I hN hi hx r (fun s' I' _=>h s' I') hf
theorem ac.call' {s':Shared}{ch:List Addr} (I:ac X pins σ H s) (ho:s'.os=s.os) (u:Un (gT X.stack) ch H H' s.heap s'.heap) (hok:cN X.prog X.w H' s'.heap) (hg:AllBare s'.gens)
 (hch:∀b∈ch,(b∈X.ex∨X.s₀.heap.objs.size≤b)∧b≠X.env.locals∧(∀x c,X.env.cells.lookup x=some c→c≠b)∧∀p∈X.pn++pins,p.1≠b):ac X pins σ H' s':=by
 obtain ⟨h',g',d',t',o'⟩:=s'
 have e:o'=s.os:=ho
 subst e
 exact I.call (g':=g') (t':=t') (d':=d') u hok hg hch
end
abbrev XK:=Value→Option Addr→Hp→Prop
abbrev St:=List (Option V)
abbrev VK:=V→Hp→Prop
abbrev TE:=St→Hp→VK→Prop
abbrev TT:=St→Hp→(Bool→Hp→Prop)→Prop
abbrev TA:=St→Hp→(List V→Hp→Prop)→Prop
structure cy where
 nx:St→Hp→Prop
 rt:VK
 bk:St→Hp→Prop:=fun _ _=>False
 ct:St→Hp→Prop:=fun _ _=>False
abbrev TS:=cy→St→Hp→Prop
inductive EP (X:Cx) (pins:List (Addr×Obj)) (σ:St) (Q:VK) (u:Value) (s':Shared):Prop
 | mk (v:_) (H':_) (h0:ac X pins σ H' s') (h1:aN v u) (h2:Q v H')
def TP (X:Cx) (pins:List (Addr×Obj)) (σ:St) (Q:Bool→Hp→Prop) (b:Bool) (s':Shared):Prop:=∃H',ac X pins σ H' s'∧Q b H'
inductive AP (X:Cx) (pins:List (Addr×Obj)) (σ:St) (Q:List V→Hp→Prop) (us:List Value) (s':Shared):Prop
 | mk (vs:_) (H':_) (h0:ac X pins σ H' s') (h1:ar vs us) (h2:Q vs H')
def SP (X:Cx) (pins:List (Addr×Obj)) (D:cy) (f:Flow) (s':Shared):Prop:=
 match f with
 | .next=>∃σ' H',ac X pins σ' H' s'∧D.nx σ' H'
 | .brk=>∃σ' H',ac X pins σ' H' s'∧D.bk σ' H'
 | .cont=>∃σ' H',ac X pins σ' H' s'∧D.ct σ' H'
 | .ret u=>∃v σ' H',ac X pins σ' H' s'∧aN v u∧D.rt v H'
def PE (X:Cx) (e:Expr) (t:TE):Prop:=
 ∀(pins:List (Addr×Obj)) (s:Shared) (σ:St) (H:Hp) (Q:VK),ac X pins σ H s→t σ H Q→wpAny (model X.prog X.w) X.A (eval e X.env) (EP X pins σ Q) X.xe s
def PT (X:Cx) (e:Expr) (t:TT):Prop:=
 ∀(pins:List (Addr×Obj)) (s:Shared) (σ:St) (H:Hp) (Q:Bool→Hp→Prop),ac X pins σ H s→t σ H Q→wpAny (model X.prog X.w) X.A (isTrue e X.env (eval e X.env)) (TP X pins σ Q) X.xe s
def PW (X:Cx) (e:Expr) (t:TT):Prop:=
 ∀(whole:Sem Value) (pins:List (Addr×Obj)) (s:Shared) (σ:St) (H:Hp) (Q:Bool→Hp→Prop),ac X pins σ H s→t σ H Q→wpAny (model X.prog X.w) X.A (isTrue e X.env whole) (TP X pins σ Q) X.xe s
theorem PW.pt {X:Cx}{e:Expr}{t:TT} (h:PW X e t):PT X e t:=h _
def PA (X:Cx) (es:List Expr) (t:TA):Prop:=
 ∀(pos:Pos) (pins:List (Addr×Obj)) (s:Shared) (σ:St) (H:Hp) (Q:List V→Hp→Prop),ac X pins σ H s→t σ H Q→wpAny (model X.prog X.w) X.A (spliced (backTo pos (starEach es X.env))) (AP X pins σ Q) X.xe s
def PS (X:Cx) (st:Stmt) (t:TS):Prop:=
 ∀(pins:List (Addr×Obj)) (s:Shared) (σ:St) (H:Hp) (D:cy),ac X pins σ H s→t D σ H→wpAny (model X.prog X.w) X.A (exec st X.env) (SP X pins D) X.xe s
def k9 (X:Cx) (st:List Stmt) (t:TS):Prop:=
 ∀(pins:List (Addr×Obj)) (s:Shared) (σ:St) (H:Hp) (D:cy),ac X pins σ H s→t D σ H→wpAny (model X.prog X.w) X.A (execs st X.env) (SP X pins D) X.xe s
theorem aH {α:Type}{t:Sem α}{Q Q':α→Shared→Prop}{M:Model}{A:Around}{E:Value→Shared→Prop}{s:Shared} (h:wpAny M A t Q E s) (hQ:∀a s,Q a s→Q' a s):wpAny M A t Q' E s:=wpAny_mono h hQ fun _ _ x=>x
section
variable {X:Cx}
inductive EA (i:Nat) (σ:St) (H:Hp) (Q:VK):Prop
 | mk (v:_) (h0:σ[i]?=some (some v)) (h1:Q v H)
def yP (i:Nat):TE:=fun σ H Q=>EA i σ H Q
def tC (v:V):TE:=fun _ H Q=>Q v H
theorem xb {i:Nat}{x:Str}{pos:Pos} (hN:X.N[i]?=some x) (hv:Aa X.env.scope x) (hd:(x==("__debug__" : Str))=false:=by decide) (hcd:(x==("__classdict__" : Str))=false:=by decide):PE X (.Name x pos) (yP i):=by
 intro pins s σ H Q I h
 obtain ⟨v,e,h⟩:=h
 obtain ⟨m,hn,hl⟩:=I.loc
 obtain ⟨u,r,l⟩:=hl i x v hN e hv
 have fin:EP X pins σ Q u s:=⟨v,H,I,r,h⟩
 rcases l with ⟨hk,hm⟩ | ⟨hk,c,hc,hcell⟩
 ·exact wpAny_Name (wpAny_loadName_local I.ok.kind hk hn hm fin) hd
 ·rcases hk with hk | hk
  ·exact wpAny_Name (wpAny_loadName_cell I.ok.kind hk hc hcell fin) hd
  ·exact wpAny_Name (wpAny_loadName_free I.ok.kind hk hc hcell fin hcd) hd
theorem bj {i j pos}:PE X (.Constant (.int i) j pos) (tC (.int i)):=fun _ _ _ H _ I h=>wpAny_Constant_int ⟨.int i,H,I.tok _,⟨()⟩,h⟩
theorem dL {b j pos}:PE X (.Constant (.bool b) j pos) (tC (.bl b)):=fun _ _ _ H _ I h=>Constant_bool ⟨.bl b,H,I,rfl,h⟩
theorem gJ {j pos}:PE X (.Constant .none j pos) (tC .non):=fun _ _ _ H _ I h=>Constant_none ⟨.non,H,I,rfl,h⟩
theorem kR {x j pos}:PE X (.Constant (.str x) j pos) (tC (.str x)):=fun _ _ _ H _ I h=>Calls.Constant_str ⟨.str x,H,I.tok _,⟨()⟩,h⟩
def Gl (X:Cx) (x:Str):Prop:=X.env.kindOf x=some .globalImplicit
theorem rs {E:Value→Shared→Prop}{pins:List (Addr×Obj)}{s:Shared}{σ:St}{H:Hp}{x:Str}{u:Value}{pos:Pos}{Q:Value→Shared→Prop} (I:ac X pins σ H s) (hg:Gl X x) (hm:X.mg x=some u) (h:Q u s)
 (hd:(x==("__debug__" : Str))=false:=by decide):wpAny (model X.prog X.w) X.A (eval (.Name x pos) X.env) Q E s:=
 Calls.Name_function_global I.ok.kind hg (Calls.loadGlobal_global (by rw [I.ok.glob];exact I.mod.glob.keeps I.bk) hm h) hd
theorem iV {E:Value→Shared→Prop}{pins:List (Addr×Obj)}{s:Shared}{σ:St}{H:Hp}{x:Str}{u:Value}{pos:Pos}{Q:Value→Shared→Prop} (I:ac X pins σ H s) (hg:Gl X x) (hm:X.mg x=none) (hv:bootBuiltins x=some u) (h:Q u s)
 (hn:x≠"__name__" := by decide) (hd:(x==("__debug__" : Str))=false:=by decide):wpAny (model X.prog X.w) X.A (eval (.Name x pos) X.env) Q E s:=by
 obtain ⟨mb,h1,h2⟩:=I.mod.blt
 exact Calls.Name_function_global I.ok.kind hg (Calls.loadGlobal_builtin (by rw [I.ok.glob];exact I.mod.glob.keeps I.bk) hm (by rw [I.ok.blt];exact h1.keeps I.bk) ((h2 x hn).trans hv) h) hd
theorem AZ {x:Str}{v:V}{u:Value}{pos:Pos} (hg:Gl X x) (hm:X.mg x=none) (hv:bootBuiltins x=some u) (r:aN v u) (hn:x≠"__name__" := by decide) (hd:(x==("__debug__" : Str))=false:=by decide):PE X (.Name x pos) (tC v):=
 fun _ _ _ H _ I h=>iV I hg hm hv ⟨v,H,I,r,h⟩ hn hd
variable {a b:Expr}{ta tb:TE}{pos:Pos}
inductive uf (x:V) (P:Bool→Prop):Prop
 | mk (c:Bool) (e:x=.bl c) (h:P c)
inductive CW (x:V) (P:Int→Prop):Prop
 | mk (c:Int) (e:x=.int c) (h:P c)
def tB (t:TE):TT:=fun σ H Q=>t σ H fun x H1=>uf x fun c=>Q c H1
theorem gU {e:Expr}{t:TE} (h:PE X e t) (he:∀whole,isTrue e X.env whole=(do let v ←whole;standAt e.pos;holding [v] (truthy v)):=by intro _;rfl):PT X e (tB t):=by
 intro pins s σ H Q I hw
 refine isTrue_plain (aH (h pins s σ H _ I hw) fun v s1 ⟨x,H1,I1,r1,q1⟩=>?_) (he _)
 obtain ⟨d,rfl,q⟩:=q1
 cases r1
 exact wpAny_truthy_bool ⟨H1,I1,q⟩
variable {tA tB':TT}{rest:List Expr}
def C8 (t u:TT):TT:=fun σ H Q=>t σ H fun c H1=>if c=true then u σ H1 Q else Q false H1
def FP (t u:TT):TT:=fun σ H Q=>t σ H fun c H1=>if c=true then Q true H1 else u σ H1 Q
def E1 (t:TT):TT:=fun σ H Q=>t σ H fun c H1=>Q (!c) H1
theorem qV (ha:PT X a tA):PW X (.BoolOp .And [a] pos) tA:=by
 intro wh pins s σ H Q I h
 refine isTrue_and (aH (ha pins s σ H Q I h) fun c s1 e=>?_)
 cases c with
 | true=>exact isTrue_and_nil e
 | false=>exact e
theorem l6 (ha:PT X a tA):PW X (.BoolOp .Or [a] pos) tA:=by
 intro wh pins s σ H Q I h
 refine isTrue_or (aH (ha pins s σ H Q I h) fun c s1 e=>?_)
 cases c with
 | false=>exact isTrue_or_nil e
 | true=>exact e
theorem tF (ha:PT X a tA) (hb:PW X (.BoolOp .And (b :: rest) pos) tB'):PW X (.BoolOp .And (a :: b :: rest) pos) (C8 tA tB'):=by
 intro wh pins s σ H Q I h
 refine isTrue_and (aH (ha pins s σ H _ I h) fun c s1 ⟨H1,I1,q1⟩=>?_)
 cases c with
 | true=>exact hb wh pins s1 σ H1 Q I1 q1
 | false=>exact ⟨H1,I1,q1⟩
theorem mR (ha:PT X a tA) (hb:PW X (.BoolOp .Or (b :: rest) pos) tB'):PW X (.BoolOp .Or (a :: b :: rest) pos) (FP tA tB'):=by
 intro wh pins s σ H Q I h
 refine isTrue_or (aH (ha pins s σ H _ I h) fun c s1 ⟨H1,I1,q1⟩=>?_)
 cases c with
 | true=>exact ⟨H1,I1,q1⟩
 | false=>exact hb wh pins s1 σ H1 Q I1 q1
theorem kI (ha:PT X a tA):PT X (.UnaryOp .Not a pos) (E1 tA):=by
 intro pins s σ H Q I h
 exact isTrue_not (ha pins s σ H (fun c H1=>Q (!c) H1) I h)
def EH (ta tb:TE):TE:=fun σ H Q=>ta σ H fun x H1=>uf x fun c=>if c=true then tb σ H1 Q else Q (.bl false) H1
def DK (ta:TE):TE:=fun σ H Q=>ta σ H fun x H1=>uf x fun c=>Q (.bl (!c)) H1
theorem ql {op}{t:TE} (h:PE X a t):PE X (.BoolOp op [a] pos) t:=fun pins s σ H Q I hw=>BoolOp_one (h pins s σ H Q I hw)
theorem oF (ha:PE X a ta) (hb:PE X (.BoolOp .And (b :: rest) pos) tb):PE X (.BoolOp .And (a :: b :: rest) pos) (EH ta tb):=by
 intro pins s σ H Q I h
 refine BoolOp_and (aH (ha pins s σ H _ I h) fun v s1 ⟨x,H1,I1,r1,q1⟩=>?_)
 obtain ⟨c,rfl,q1⟩:=q1
 cases r1
 refine wpAny_truthy_bool ?_
 cases c with
 | true=>exact hb pins s1 σ H1 Q I1 q1
 | false=>exact ⟨.bl false,H1,I1,rfl,q1⟩
theorem yb (ha:PE X a ta):PE X (.UnaryOp .Not a pos) (DK ta):=by
 intro pins s σ H Q I h
 refine UnaryOp_ (aH (ha pins s σ H _ I h) fun v s1 ⟨x,H1,I1,r1,q1⟩=>?_)
 obtain ⟨c,rfl,q1⟩:=q1
 cases r1
 exact not_of (wpAny_truthy_bool ⟨.bl (!c),H1,I1,rfl,q1⟩)
def F4 (t:TT) (ta tb:TE):TE:=fun σ H Q=>t σ H fun c H1=>if c=true then ta σ H1 Q else tb σ H1 Q
theorem fH {c:Expr} (hc:PT X c tA) (ha:PE X a ta) (hb:PE X b tb):PE X (.IfExp c a b pos) (F4 tA ta tb):=by
 intro pins s σ H Q I h
 refine wpAny_IfExp (aH (hc pins s σ H _ I h) fun d s1 ⟨H1,I1,q1⟩=>?_)
 cases d with
 | true=>exact ha pins s1 σ H1 Q I1 q1
 | false=>exact hb pins s1 σ H1 Q I1 q1
end
def ap (K:PySem.W.Frag) (H:Hp) (a:Addr) (xs:List V):Prop:=
 Rd H a (.lst xs)∨
  kF fun (o:Obj) (its:Array Value) (n:Nat)=>K.lookup a=some o∧o.cls=.type "list"∧o.dict=none∧o.data=.seq its n∧its.size≤sizeLine∧ar xs its.toList
def af (K:PySem.W.Frag) (H:Hp) (a:Addr) (xs:List V):Prop:=
 Rd H a (.tup xs)∨
  kF fun (o:Obj) (its:Array Value) (n:Nat)=>K.lookup a=some o∧o.cls=.type "tuple"∧o.data=.seq its n∧its.size≤sizeLine∧ar xs its.toList
def E6:Value→Option V
 | .none=>some .non
 | .bool b=>some (.bl b)
 | .int i _=>some (.int i)
 | .str x _=>some (.str x)
 | .bytes b _=>some (.byt b)
 | .float b _=>some (.flt b)
 | .ref a=>some (.ref a)
 | .type n=>some (.ty n)
 | _=>none
theorem aN.abs {x:V}{u:Value} (r:aN x u):E6 u=some x:=by
 cases x with
 | non=>cases r;rfl
 | bl _=>cases r;rfl
 | int _=>obtain ⟨t,rfl⟩:=r;rfl
 | str _=>obtain ⟨t,rfl⟩:=r;rfl
 | byt _=>obtain ⟨t,rfl⟩:=r;rfl
 | flt _=>obtain ⟨t,rfl⟩:=r;rfl
 | ref _=>cases r;rfl
 | ty _=>cases r;rfl
theorem aN.inj {x y:V}{u:Value} (r:aN x u) (q:aN y u):x=y:=Option.some.inj (r.abs.symm.trans q.abs)
theorem ar.inj:∀{xs ys:List V}{us:List Value},ar xs us→ar ys us→xs=ys
 | _,_,_,.nil,.nil=>rfl
 | _,_,_,.cons r t,.cons r' t'=>by rw [r.inj r',ar.inj t t']
section
variable {X:Cx}{pins:List (Addr×Obj)}{σ:St}{H:Hp}{s:Shared}{a:Addr}{xs ys:List V}
theorem ap.of {K:PySem.W.Frag} (h:H a=some (.lst xs)):ap K H a xs:=.inl (.inl h)
theorem af.of {K:PySem.W.Frag} (h:H a=some (.tup xs)):af K H a xs:=.inl (.inl h)
theorem ac.list (I:ac X pins σ H s) (h:ap X.K H a xs):∃its:List Value,ar xs its∧PlainL s.heap a its.toArray∧xs.length≤sizeLine:=by
 rcases h with h | ⟨o,its,n,hk,hc,hd,hs,hz,r⟩
 ·obtain ⟨z,its,n,r,e⟩:=h.ok I.hok
  exact ⟨its,r,⟨_,n,e,rfl,rfl,rfl⟩,z⟩
 ·refine ⟨its.toList,r,⟨o,n,I.kIn a o hk,hc,hd,by simpa using hs⟩,?_⟩
  have e:=r.length
  simp only [Array.length_toList] at e
  trivial
theorem ac.tuple (I:ac X pins σ H s) (h:af X.K H a xs):∃its:List Value,ar xs its∧IsTup s.heap a its.toArray∧xs.length≤sizeLine:=by
 rcases h with h | ⟨o,its,n,hk,hc,hs,hz,r⟩
 ·obtain ⟨z,its,r,p,_⟩:=h.ok I.hok
  exact ⟨its,r,p,z⟩
 ·refine ⟨its.toList,r,⟨o,I.kIn a o hk,hc,n,by simpa using hs⟩,?_⟩
  have e:=r.length
  simp only [Array.length_toList] at e
  trivial
theorem ac.list_inj (I:ac X pins σ H s) (h:ap X.K H a xs) (h':ap X.K H a ys):xs=ys:=by
 obtain ⟨its,r,⟨o,n,e,_,_,d⟩,_⟩:=I.list h
 obtain ⟨its',r',⟨o',n',e',_,_,d'⟩,_⟩:=I.list h'
 rw [e] at e';cases e'
 rw [d] at d'
 injection d' with d1 _
 have:its=its':=by simpa using congrArg Array.toList d1
 subst this
 exact r.inj r'
theorem ac.tuple_inj (I:ac X pins σ H s) (h:af X.K H a xs) (h':af X.K H a ys):xs=ys:=by
 obtain ⟨its,r,⟨o,e,_,n,d⟩,_⟩:=I.tuple h
 obtain ⟨its',r',⟨o',e',_,n',d'⟩,_⟩:=I.tuple h'
 rw [e] at e';cases e'
 rw [d] at d'
 injection d' with d1 _
 have:its=its':=by simpa using congrArg Array.toList d1
 subst this
 exact r.inj r'
end
abbrev Cx.wish (X:Cx) (E:Value→Shared→Prop):Cx:={ X with xe:=E }
abbrev Cx.nox (X:Cx):Cx:=X.wish fun _ _=>False
theorem Cx.Ok.wish {X:Cx} (ok:X.Ok) (E:Value→Shared→Prop):(X.wish E).Ok:=
 ⟨ok.mod,ok.kind,ok.glob,ok.blt,ok.above,ok.inj,ok.has,ok.cab,ok.hd,ok.frames,ok.stk,ok.exf,ok.bs,ok.bsz,ok.noex,ok.exfs,ok.funs,ok.frf⟩
theorem Cx.Ok.unwish {X:Cx}{E:Value→Shared→Prop} (ok:(X.wish E).Ok):X.Ok:=
 ⟨ok.mod,ok.kind,ok.glob,ok.blt,ok.above,ok.inj,ok.has,ok.cab,ok.hd,ok.frames,ok.stk,ok.exf,ok.bs,ok.bsz,ok.noex,ok.exfs,ok.funs,ok.frf⟩
section
variable {X:Cx}{pins:List (Addr×Obj)}{σ:St}{H:Hp}{s:Shared}{E:Value→Shared→Prop}
theorem ac.wish (I:ac X pins σ H s) (E:Value→Shared→Prop):ac (X.wish E) pins σ H s:=⟨I.ok.wish E,I.os,I.bare,I.base,I.loc,I.cell,I.free,I.freeC,I.pin,I.hok,I.len⟩
theorem ac.unwish (I:ac (X.wish E) pins σ H s):ac X pins σ H s:=⟨I.ok.unwish,I.os,I.bare,I.base,I.loc,I.cell,I.free,I.freeC,I.pin,I.hok,I.len⟩
theorem SP.unwish {D:cy}{f:Flow}{s':Shared} (h:SP (X.wish E) pins D f s'):SP X pins D f s':=by
 cases f with
 | next=>obtain ⟨σ',H',I,q⟩:=h;exact ⟨σ',H',I.unwish,q⟩
 | brk=>obtain ⟨σ',H',I,q⟩:=h;exact ⟨σ',H',I.unwish,q⟩
 | cont=>obtain ⟨σ',H',I,q⟩:=h;exact ⟨σ',H',I.unwish,q⟩
 | ret u=>obtain ⟨v,σ',H',I,r,q⟩:=h;exact ⟨v,σ',H',I.unwish,r,q⟩
theorem k9.nox {st:List Stmt}{t:TS} (h:k9 X.nox st t):k9 X st t:=fun pins s σ H D I hw=>
 wpAny_mono (h pins s σ H D (I.wish _) hw) (fun _ _ q=>q.unwish) fun _ _ z=>False.elim z
end
section
variable {X:Cx}{st:Stmt}{rest:List Stmt}{t u:TS}{e:Expr}{te:TE}{pos:Pos}
def Dx:TS:=fun D σ H=>D.nx σ H
def ii (t u:TS):TS:=fun D σ H=>t { D with nx:=u D } σ H
theorem aR:k9 X [] Dx:=fun _ _ σ H _ I h=>wpAny_execs_nil ⟨σ,H,I,h⟩
theorem fQ (h1:PS X st t) (h2:k9 X rest u):k9 X (st :: rest) (ii t u):=by
 intro pins s σ H D I h
 refine wpAny_execs_cons (aH (h1 pins s σ H { D with nx:=u D } I h) fun f s1 q=>?_)
 cases f with
 | next=>
  obtain ⟨σ',H',I',q⟩:=q
  exact h2 pins s1 σ' H' D I' q
 | ret v=>exact q
 | brk=>exact q
 | cont=>exact q
theorem aa (h1:PS X st t):k9 X [st] t:=by
 intro pins s σ H D I h
 refine wpAny_execs_cons (aH (h1 pins s σ H D I h) fun f s1 q=>?_)
 cases f with
 | next=>exact wpAny_execs_nil q
 | ret v=>exact q
 | brk=>exact q
 | cont=>exact q
def DS:TS:=fun D σ H=>D.ct σ H
theorem uU:PS X (.Continue pos) DS:=fun _ _ σ H _ I h=>wpAny_Continue ⟨σ,H,I,h⟩
theorem ac.quiet {pins:List (Addr×Obj)}{σ:St}{H:Hp}{s:Shared} (I:ac X pins σ H s):interactive X.env=false:=by simp [interactive,I.ok.kind]
def DU (te:TE):TS:=fun D σ H=>te σ H fun _ H1=>D.nx σ H1
theorem bf (he:PE X e te) (hs:swapsWith e none pos.line X.env=pure false:=by rfl):PS X (.Expr e pos) (DU te):=by
 intro pins s σ H D I h
 exact wpAny_Expr_any (aH (he pins s σ H _ I h) fun v s1 ⟨x,H1,I1,r1,q1⟩=>⟨σ,H1,I1,q1⟩) I.quiet hs
def Ck (te:TE):TS:=fun D σ H=>te σ H D.rt
theorem aB (he:PE X e te):PS X (.Return (some e) pos) (Ck te):=by
 intro pins s σ H D I h
 exact wpAny_Return_some (aH (he pins s σ H _ I h) fun v s1 ⟨x,H1,I1,r1,q1⟩=>⟨x,σ,H1,I1,r1,q1⟩)
def CB (c:TT) (t u:TS):TS:=fun D σ H=>c σ H fun b H1=>if b=true then t D σ H1 else u D σ H1
theorem bd {c:Expr}{a b:List Stmt}{tc:TT} (hc:PT X c tc) (ha:k9 X a t) (hb:k9 X b u):PS X (.If c a b pos) (CB tc t u):=by
 intro pins s σ H D I h
 refine wpAny_If (aH (hc pins s σ H _ I h) fun d s1 ⟨H1,I1,q1⟩=>?_)
 cases d with
 | true=>exact ha pins s1 σ H1 D I1 q1
 | false=>exact hb pins s1 σ H1 D I1 q1
end
abbrev TG:=V→St→Hp→(St→Hp→Prop)→Prop
abbrev pz:=List V→St→Hp→(St→Hp→Prop)→Prop
def PG (X:Cx) (target:Expr) (t:TG):Prop:=
 ∀(pins:List (Addr×Obj)) (s:Shared) (σ:St) (H:Hp) (v:V) (u:Value) (Q:St→Hp→Prop),ac X pins σ H s→aN v u→t v σ H Q→
   wpAny (model X.prog X.w) X.A (assign target X.env u) (fun _ s'=>∃σ' H',ac X pins σ' H' s'∧Q σ' H') X.xe s
def xU (X:Cx) (ts:List Expr) (t:pz):Prop:=
 ∀(pins:List (Addr×Obj)) (s:Shared) (σ:St) (H:Hp) (vs:List V) (us:List Value) (Q:St→Hp→Prop),ac X pins σ H s→ar vs us→t vs σ H Q→
   wpAny (model X.prog X.w) X.A (assignInOrder ((assignEach ts X.env).map (·.2)) us) (fun _ s'=>∃σ' H',ac X pins σ' H' s'∧Q σ' H') X.xe s
abbrev yw:=V→V→V→Hp→(Hp→Prop)→Prop
def vU (X:Cx) (t:yw):Prop:=
 ∀(pins:List (Addr×Obj)) (s:Shared) (σ:St) (H:Hp) (o i v:V) (ov iv u:Value) (Q:Hp→Prop),ac X pins σ H s→aN o ov→aN i iv→aN v u→t o i v H Q→
   wpAny (model X.prog X.w) X.A (setItem ov iv u) (fun _ s'=>∃H',ac X pins σ H' s'∧Q H') X.xe s
section
variable {X:Cx}{pos:Pos}
def qo (i:Nat):TG:=fun v σ H Q=>Q (σ.set i (some v)) H
theorem md {i:Nat}{x:Str} (hN:X.N.Nodup) (hi:X.N[i]?=some x) (hx:zT X.env.scope x) (hf:X.fn x=true∨X.env.scope.names.lookup x=some .local:=by first | exact .inl rfl | exact .inr rfl | assumption):PG X (.Name x pos) (qo i):=by
 intro pins s σ H v u Q I r h
 exact wpAny_assign_Name (mQ I hN hi hx r (fun s' I'=>⟨_,H,I',h⟩) hf)
def E4:pz:=fun vs σ H Q=>vs=[]∧Q σ H
inductive CS (t:TG) (u:pz) (vs:List V) (σ:St) (H:Hp) (Q:St→Hp→Prop):Prop
 | mk (v:_) (r:_) (h0:vs=v :: r) (h1:t v σ H fun σ' H'=>u r σ' H' Q)
def DN (t:TG) (u:pz):pz:=fun vs σ H Q=>CS t u vs σ H Q
theorem dh:xU X [] E4:=by
 intro pins s σ H vs us Q I r h
 obtain ⟨e,h⟩:=h
 subst e
 cases r
 exact assignInOrder_nil ⟨σ,H,I,h⟩
theorem aw {e:Expr}{es:List Expr}{t:TG}{u:pz} (h1:PG X e t) (h2:xU X es u)
 (hs:(assignEach (e :: es) X.env).map (·.2)=assign e X.env :: (assignEach es X.env).map (·.2):=by rfl):xU X (e :: es) (DN t u):=by
 intro pins s σ H vs us Q I r h
 obtain ⟨v,vr,e1,h⟩:=h
 subst e1
 cases r with
 | cons r rr=>
  rw [hs]
  refine assignInOrder_cons (aH (h1 pins s σ H _ _ _ I r h) fun _ s1 ⟨σ1,H1,I1,q1⟩=>?_)
  exact h2 pins s1 σ1 H1 _ _ Q I1 rr q1
inductive DX (K:PySem.W.Frag) (n:Nat) (t:pz) (v:V) (σ:St) (H:Hp) (Q:St→Hp→Prop):Prop
 | mk (a:_) (xs:_) (h0:v=.ref a) (h1:af K H a xs) (h2:xs.length=n) (h3:t xs σ H Q)
def CP (K:PySem.W.Frag) (n:Nat) (t:pz):TG:=fun v σ H Q=>DX K n t v σ H Q
theorem xz {es:List Expr}{k:Nat}{t:pz}{n:Nat} (hc:X.calm=true) (h:xU X es t)
 (hn:(assignEach es X.env).length=n:=by rfl) (hst:(assignEach es X.env).findIdx? (·.1)=none:=by rfl):PG X (.Tuple es k pos) (CP X.K n t):=by
 intro pins s σ H v u Q I r hw
 obtain ⟨a,xs,e1,hq,hl,hw⟩:=hw
 subst e1
 cases r
 obtain ⟨its,rv,ht,hz⟩:=I.tuple hq
 refine assign_Tuple_tuple (I.ok.hd hc) ht (by simp [hn,←hl,rv.length]) hst fun h' hx=>?_
 have I1:ac X pins σ H { s with heap:=h' }:=I.kept (t':=s.toks) fun b o e=>hx b o (Nat.ne_of_lt (Heap.lt_size e)) e
 exact h pins _ σ H xs _ Q I1 (by simpa using rv) hw
def Fr (to ti:TE) (t:yw):TG:=fun v σ H Q=>to σ H fun o H1=>ti σ H1 fun i H2=>t o i v H2 fun H3=>Q σ H3
theorem l9 {o i:Expr}{to ti:TE}{t:yw} (ho:PE X o to) (hi:PE X i ti) (hs:vU X t)
 (ha:∀v,assign (.Subscript o i pos) X.env v=(do
  let ov ←holding [v] (eval o X.env)
  let iv ←holding [v,ov] (eval i X.env)
  standAt pos
  holding [v,ov,iv] (setItem ov iv v)
  release [v,ov,iv] []):=by intro _;rfl):PG X (.Subscript o i pos) (Fr to ti t):=by
 intro pins s σ H v u Q I r h
 rw [ha]
 refine wpAny_bind (wpAny_holding (aH (ho pins s σ H _ I h) fun ov s1 ⟨x,H1,I1,r1,q1⟩=>?_))
 refine wpAny_bind (wpAny_holding (aH (hi pins s1 σ H1 _ I1 q1) fun iv s2 ⟨y,H2,I2,r2,q2⟩=>?_))
 refine wpAny_bind (wpAny_standAt (wpAny_bind (wpAny_holding (aH (hs pins s2 σ H2 x y v ov iv u _ I2 r1 r2 r q2) fun _ s3 ⟨H3,I3,q3⟩=>?_))))
 exact wpAny_release ⟨σ,H3,I3,q3⟩
def qK (te:TE) (g:TG):TS:=fun D σ H=>te σ H fun x H1=>g x σ H1 D.nx
theorem d6 {tg e:Expr}{te:TE}{g:TG} (he:PE X e te) (hg:PG X tg g) (hs:swapsWithSole [tg] e pos.line X.env=pure false:=by rfl) (hw:swappedStores [tg] e X.env=pure none:=by rfl)
 (h1:(assignEach [tg] X.env).map (·.2)=[assign tg X.env]:=by rfl):PS X (.Assign [tg] e pos) (qK te g):=by
 intro pins s σ H D I h
 refine wpAny_Assign_stores (aH (he pins s σ H _ I h) fun v s1 ⟨x,H1,I1,r1,q1⟩=>?_) hs hw
 rw [h1]
 exact aH (hg pins s1 σ H1 x v _ I1 r1 q1) fun _ s2 q=>q
theorem ou {i:Nat}{x:Str}{e:Expr}{te:TE}{pos':Pos} (hN:X.N.Nodup) (hi:X.N[i]?=some x) (hx:zT X.env.scope x) (he:PE X e te) (hs:swapsWith e (some (.Name x pos')) pos.line X.env=pure false:=by rfl) (hf:X.fn x=true∨X.env.scope.names.lookup x=some .local:=by first | exact .inl rfl | exact .inr rfl | assumption) :
 PS X (.Assign [.Name x pos'] e pos) (qK te (qo i)):=by
 intro pins s σ H D I h
 refine wpAny_Assign_Name (aH (he pins s σ H _ I h) fun v s1 ⟨y,H1,I1,r1,q1⟩=>?_) hs
 exact mQ I1 hN hi hx r1 (fun s2 I2=>⟨_,H1,I2,q1⟩) hf
def Cj (i j:Nat) (ta:TA):TS:=fun D σ H=>ta σ H fun vs H1=>bh fun v w=>vs=[v,w]∧D.nx ((σ.set i (some v)).set j (some w)) H1
theorem mm {i j:Nat}{x y:Str}{a b:Expr}{ta:TA}{px py pt:Pos}{kt k2 pt2} (hc:X.calm=true) (hN:X.N.Nodup) (hi:X.N[i]?=some x) (hj:X.N[j]?=some y) (hij:i≠j)
 (hx:X.env.scope.names.lookup x=some .local) (hy:X.env.scope.names.lookup y=some .local) (ha:PA X [a,b] ta)
 (hw:swappedStores [.Tuple [.Name x px,.Name y py] kt pt] (.Tuple [a,b] k2 pt2) X.env=pure (some [x,y]))
 (hs:swapsWithSole [.Tuple [.Name x px,.Name y py] kt pt] (.Tuple [a,b] k2 pt2) pos.line X.env=pure false:=by rfl) :
 PS X (.Assign [.Tuple [.Name x px,.Name y py] kt pt] (.Tuple [a,b] k2 pt2) pos) (Cj i j ta):=by
 intro pins s σ H D I h
 rw [exec_Assign_arm]
 refine wpAny_bind (wpAny_standAt ?_)
 rw [hs]
 refine wpAny_bind (wpAny_pure ?_)
 rw [if_neg (by decide)]
 refine wpAny_bind (Tuple_ (aH (ha _ pins s σ H _ I h) fun us s1 ⟨vs,H1,I1,r1,q1⟩=>?_))
 obtain ⟨v,w,e1,q1⟩:=q1
 subst e1
 obtain ⟨u1,u2,rfl,rv,rw'⟩:bh fun u1 u2=>us=[u1,u2]∧aN v u1∧aN w u2:=by
  cases r1 with
  | cons p q=>
   cases q with
   | cons p' q'=>
    cases q'
    exact ⟨_,(),p,p'⟩
 refine wpAny_newObj_type ?_ (by show 2≤sizeLine;decide)
 have I2:ac X pins σ H1 { s1 with heap:=s1.heap.push { cls:=.type "tuple",data:=.seq [u1,u2].toArray } }:=I1.kept (t':=s1.toks) fun b o e=>Heap.get?_push_of_some _ e
 rw [hw]
 refine wpAny_bind (wpAny_pure ?_)
 show wpAny (model X.prog X.w) X.A (do rule "assign.swapped-stores";let items ←unpackItems (.ref s1.heap.objs.size) 2 none;assignInOrder [fun v=>bindName X.env y v,fun v=>bindName X.env x v] items.reverse;pure Flow.next) _ _ _
 refine wpAny_bind (wpAny_rule (wpAny_bind (unpackItems_tuple (items:=#[u1,u2]) (I.ok.hd hc) (IsTup.new s1.heap _) fun h' hx'=>?_)))
 have I3:=I2.kept (h':=h') (t':=s1.toks) fun b o e=>hx' b o (Nat.ne_of_lt (Heap.lt_size e)) e
 show wpAny _ _ (assignInOrder [fun v=>bindName X.env y v,fun v=>bindName X.env x v] [u2,u1] >>= fun _=>pure Flow.next) _ _ _
 refine wpAny_bind (assignInOrder_cons (wpAny_bindName (mQ I3 hN hj (.inl hy) rw' (fun s2 I4=>?_) (.inr hy))))
 refine assignInOrder_cons (wpAny_bindName (mQ I4 hN hi (.inl hx) rv (fun s3 I5=>assignInOrder_nil (wpAny_pure ?_)) (.inr hx)))
 rw [List.set_comm _ _ (Ne.symm hij)] at I5
 exact ⟨_,H1,I5,q1⟩
end
section
variable {X:Cx}{pos:Pos}
def xO (c:TT) (tb:TS):TS:=fun D σ H=>∃W:Nat→St→Hp→Prop,(∃m,W m σ H)∧∀m σ H,W m σ H→
 c σ H fun b H1=>if b=true then ∃N:St→Hp→Prop,(∀σ' H',N σ' H'→∃m',m'<m∧W m' σ' H')∧tb { D with nx:=N,ct:=N,bk:=D.nx } σ H1 else D.nx σ H1
theorem pM {c:Expr}{body:List Stmt}{tc:TT}{tb:TS} (hp:PassesOwn (model X.prog X.w) X.A X.env X.xe) (hc:PT X c tc) (hb:k9 X body tb):PS X (.While c body [] pos) (xO tc tb):=by
 intro pins s σ H D I h
 obtain ⟨W,⟨m0,w0⟩,turn⟩:=h
 refine wpAny_While (codeAny_whileLoop (fun n s'=>∃σ' H',ac X pins σ' H' s'∧W n σ' H') ?_ m0 ⟨σ,H,I,w0⟩)
 rintro n s1 ⟨σ1,H1,I1,w1⟩
 refine wpAny_passesOwn hp (aH (hc pins s1 σ1 H1 _ I1 (turn n σ1 H1 w1)) fun b s2 ⟨H2,I2,q2⟩=>?_)
 cases b with
 | true=>
  obtain ⟨N,hN,q2⟩:=q2
  rw [if_pos rfl]
  refine wpAny_passesOwn hp (aH (hb pins s2 σ1 H2 _ I2 q2) fun f s3 q3=>?_)
  cases f with
  | next=>
   obtain ⟨σ3,H3,I3,n3⟩:=q3
   obtain ⟨m',hm,w3⟩:=hN σ3 H3 n3
   exact ⟨m',hm,σ3,H3,I3,w3⟩
  | cont=>
   obtain ⟨σ3,H3,I3,n3⟩:=q3
   obtain ⟨m',hm,w3⟩:=hN σ3 H3 n3
   exact ⟨m',hm,σ3,H3,I3,w3⟩
  | brk=>exact q3
  | ret v=>exact q3
 | false=>
  rw [if_neg Bool.false_ne_true]
  exact wpAny_execs_nil ⟨σ1,H2,I2,q2⟩
end
structure It where
 go:Nat→Hp→Prop
 yld:Nat→Hp→V→Hp→Prop
 stop:Nat→Hp→Prop
def i3 (X:Cx) (pins:List (Addr×Obj)) (H:Hp) (b:Addr):Prop:=
 H b=none∧b≠X.env.locals∧b∉X.fs∧(b∈X.ex∨X.s₀.heap.objs.size≤b)∧(∀x c,X.env.cells.lookup x=some c→c≠b)∧∀p∈X.pn++pins,p.1≠b
theorem ac.fpOk {X:Cx}{pins:List (Addr×Obj)}{σ:St}{H H':Hp}{s:Shared}{b:Addr} (I:ac X pins σ H s) (hb:s.heap.objs.size≤b) (hn:H' b=none):i3 X pins H' b:=by
 refine ⟨hn,Nat.ne_of_gt (Nat.lt_of_lt_of_le I.lt hb),I.nofs hb,.inr (Nat.le_trans I.sz hb),fun x c e z=>?_,fun p hp z=>?_⟩
 ·obtain ⟨v,q⟩:=I.cell x c e
  exact absurd (Nat.lt_of_lt_of_le q.lt (by rw [z];exact hb)) (Nat.lt_irrefl _)
 ·exact absurd (Nat.lt_of_lt_of_le (Heap.lt_size (I.pin p hp).1) (by rw [z];exact hb)) (Nat.lt_irrefl _)
structure qb (P:Program) (w:World) (K:PySem.W.Frag) (tg:Expr) (J:It) (fp:List Addr) (it:Addr) (tn:Nat→Heap→Prop):Prop where
 mem:it∈fp
 obj:∀i h,tn i h→∀b∈fp,∃o,h.get? b=some o∧∀v,o.data≠.cell v
 keep:∀i h h',tn i h→(∀b∈fp,∀o,h.get? b=some o→h'.get? b=some o)→tn i h'
 item:∀(X:Cx),X.prog=P→X.w=w→X.K=K→X.calm=true→∀(i:Nat) (pins:List (Addr×Obj)) (s:Shared) (σ:St) (H:Hp) (E:Value→Shared→Prop),ac X pins σ H s→(∀b∈fp,i3 X pins H b)→tn i s.heap→J.go i H→
  wpAny (model P w) X.A (pyNext (.ref it)) (fun r s1=>∃u,r=some u∧
   wpAny (model P w) X.A (letOwnedTupleGo tg (.ref it) u) (fun _ s2=>bh fun x H'=>ac X pins σ H' s2∧aN x u∧J.yld i H x H'∧tn (i+1) s2.heap∧∀b∈fp,H' b=none) E s1) E s
 done:∀(X:Cx),X.prog=P→X.w=w→X.K=K→X.calm=true→∀(i:Nat) (pins:List (Addr×Obj)) (s:Shared) (σ:St) (H:Hp) (E:Value→Shared→Prop),ac X pins σ H s→(∀b∈fp,i3 X pins H b)→tn i s.heap→J.stop i H→
  wpAny (model P w) X.A (pyNext (.ref it)) (fun r s1=>r=none∧ac X pins σ H s1) E s
 self:∀(A:Around) (i:Nat) (s:Shared) (Q:Value→Shared→Prop) (E:Value→Shared→Prop),tn i s.heap→Q (.ref it) s→wpAny (model P w) A (pyIter (.ref it)) Q E s
abbrev TI:=St→Hp→(It→Hp→Prop)→Prop
def EV (X:Cx) (pins:List (Addr×Obj)) (σ:St) (tg:Expr) (R:It→Hp→Prop) (itv:Value) (s2:Shared):Prop:=
 xu fun (it:Addr) (fp:List Addr) (tn:Nat→Heap→Prop) (J:It) (H':Hp)=>itv=.ref it∧ac X pins σ H' s2∧qb X.prog X.w X.K tg J fp it tn∧tn 0 s2.heap∧(∀b∈fp,i3 X pins H' b)∧R J H'
def PI (X:Cx) (tg iter:Expr) (wi:TI):Prop:=
 ∀(pins:List (Addr×Obj)) (s:Shared) (σ:St) (H:Hp) (R:It→Hp→Prop),ac X pins σ H s→wi σ H R→
   wpAny (model X.prog X.w) X.A (eval iter X.env) (fun v s1=>wpAny (model X.prog X.w) X.A (pyIter v) (EV X pins σ tg R) X.xe s1) X.xe s
theorem vM {M:Model}{A:Around}{E:Value→Shared→Prop}{s:Shared}{tg:Expr}{it:Addr}{u:Value}{o:Obj}{n:String}{vs:Array Value}{Q:Unit→Shared→Prop} (ho:s.heap.get? it=some o) (hc:o.cls=.type n) (hd:o.data=.fields vs)
 (hn:["enumerate", "zip", "dict_itemiterator", "dict_reverseitemiterator", "odict_iterator", "itertools.zip_longest", "itertools.pairwise"].contains n=false) (hQ:Q () s):wpAny M A (letOwnedTupleGo tg (.ref it) u) Q E s:=by
 unfold letOwnedTupleGo
 cases tg <;> first
  | exact wpAny_pure hQ
  | (cases u <;> first
   | exact wpAny_pure hQ
   | (refine wpAny_bind (wpAny_load ho ?_)
      rw [hc,hd]
      show wpAny M A (if (["enumerate", "zip", "dict_itemiterator", "dict_reverseitemiterator", "odict_iterator", "itertools.zip_longest", "itertools.pairwise"].contains n && vs[0]?==some (rawInt _))=true then _ else _) Q E s
      rw [if_neg (by intro h;rw [hn,Bool.false_and] at h;cases h)]
      exact wpAny_pure hQ))
def uj (K:PySem.W.Frag) (a:Addr):It:=
 ⟨fun i H=>bh fun xs x=>ap K H a xs∧xs[i]?=some x,fun i H x H'=>H'=H∧∀xs,ap K H a xs→xs[i]?=some x,fun i H=>∃xs,ap K H a xs∧xs.length≤i⟩
def xj (K:PySem.W.Frag) (a:Addr):It:=
 ⟨fun i H=>bh fun xs x=>af K H a xs∧xs[i]?=some x,fun i H x H'=>H'=H∧∀xs,af K H a xs→xs[i]?=some x,fun i H=>∃xs,af K H a xs∧xs.length≤i⟩
def uZ (lo:Int) (n:Nat):It:=⟨fun i _=>i<n,fun i H x H'=>H'=H∧x=.int (lo+i),fun i _=>n≤i⟩
theorem xM {P:Program}{w:World}{K:PySem.W.Frag}{tg:Expr} (a it:Addr):qb P w K tg (uj K a) [it] it (fun i h=>h.IsListIter it a i) where
 mem:=by simp
 obj:=fun i h st b hb=>by
  have e:b=it:=by simpa using hb
  subst e
  obtain ⟨o,e,c,d⟩:=st
  exact ⟨o,e,fun v z=>by rw [d] at z;cases z⟩
 keep:=fun i h h' st k=>st.at fun o e=>k it (by simp) o e
 item:=by
  intro X hP hw hK hc i pins s σ H E I hf st hg
  subst hP hw hK
  obtain ⟨xs,x,hq,hx⟩:=hg
  obtain ⟨its,rv,p,hz⟩:=I.list hq
  obtain ⟨u,hu,ru⟩:=rv.get hx
  obtain ⟨f0,f1,f2,f3,f4,f5⟩:=hf it (by simp)
  refine wpAny_pyNext_list_item st p.isList (x:=u) (by simpa using hu) fun h' st' sb=>?_
  have I1:ac X pins σ H { s with heap:=h' }:=I.turned (t':=s.toks) (fun b o hb e=>(sb.2 b hb).trans e) f0 f1 f3 f4 f5
  obtain ⟨o,e,c,d⟩:=id st'
  exact ⟨u,rfl,vM (s:={ s with heap:=h' }) e c d (by decide) ⟨x,H,I1,ru,⟨rfl,fun ys hy=>by rw [I.list_inj hy hq];exact hx⟩,st',fun b hb=>(hf b hb).1⟩⟩
 done:=by
  intro X hP hw hK hc i pins s σ H E I hf st hg
  subst hP hw hK
  obtain ⟨xs,hq,hx⟩:=hg
  obtain ⟨its,rv,p,hz⟩:=I.list hq
  obtain ⟨f0,f1,f2,f3,f4,f5⟩:=hf it (by simp)
  have hl:=rv.length
  exact wpAny_pyNext_list_end (I.ok.hd hc) st p.isList (by simp;trivial) fun h' eb=>⟨rfl,I.turned (t':=s.toks) (fun b o hb e=>eb b o hb e) f0 f1 f3 f4 f5⟩
 self:=fun _ _ _ _ _ st h=>wpAny_pyIter_listiter st h
theorem wk {P:Program}{w:World}{K:PySem.W.Frag}{tg:Expr} (a it:Addr):qb P w K tg (xj K a) [it] it (fun i h=>h.IsTupleIter it a i) where
 mem:=by simp
 obj:=fun i h st b hb=>by
  have e:b=it:=by simpa using hb
  subst e
  obtain ⟨o,e,c,d⟩:=st
  exact ⟨o,e,fun v z=>by rw [d] at z;cases z⟩
 keep:=fun i h h' st k=>st.at fun o e=>k it (by simp) o e
 item:=by
  intro X hP hw hK hc i pins s σ H E I hf st hg
  subst hP hw hK
  obtain ⟨xs,x,hq,hx⟩:=hg
  obtain ⟨its,rv,p,hz⟩:=I.tuple hq
  obtain ⟨u,hu,ru⟩:=rv.get hx
  obtain ⟨f0,f1,f2,f3,f4,f5⟩:=hf it (by simp)
  refine wpAny_pyNext_tuple_item st (show s.heap.IsTuple a its.toArray from p) (x:=u) (by simpa using hu) fun h' st' sb=>?_
  have I1:ac X pins σ H { s with heap:=h' }:=I.turned (t':=s.toks) (fun b o hb e=>(sb.2 b hb).trans e) f0 f1 f3 f4 f5
  obtain ⟨o,e,c,d⟩:=id st'
  exact ⟨u,rfl,vM (s:={ s with heap:=h' }) e c d (by decide) ⟨x,H,I1,ru,⟨rfl,fun ys hy=>by rw [I.tuple_inj hy hq];exact hx⟩,st',fun b hb=>(hf b hb).1⟩⟩
 done:=by
  intro X hP hw hK hc i pins s σ H E I hf st hg
  subst hP hw hK
  obtain ⟨xs,hq,hx⟩:=hg
  obtain ⟨its,rv,p,hz⟩:=I.tuple hq
  obtain ⟨f0,f1,f2,f3,f4,f5⟩:=hf it (by simp)
  have hl:=rv.length
  exact wpAny_pyNext_tuple_end (I.ok.hd hc) st (show s.heap.IsTuple a its.toArray from p) (by simp;trivial) fun h' eb=>⟨rfl,I.turned (t':=s.toks) (fun b o hb e=>eb b o hb e) f0 f1 f3 f4 f5⟩
 self:=fun _ _ _ _ _ st h=>wpAny_pyIter_tupleiter st h
theorem wO {P:Program}{w:World}{K:PySem.W.Frag}{tg:Expr} (it:Addr) (lo:Int) (n:Nat):qb P w K tg (uZ lo n) [it] it (fun i h=>IsRangeIter h it (lo+(i:Nat)*1) ((n:Int) - (i:Nat)) 1) where
 mem:=by simp
 obj:=fun i h st b hb=>by
  have e:b=it:=by simpa using hb
  subst e
  exact ⟨_,st,fun v z=>by
   have z':Data.fields _=Data.cell v:=z
   cases z'⟩
 keep:=fun i h h' st k=>k it (by simp) _ st
 item:=by
  intro X hP hw hK hc i pins s σ H E I hf st hg
  subst hP hw hK
  obtain ⟨f0,f1,f2,f3,f4,f5⟩:=hf it (by simp)
  have W:=Walks.range (prog:=X.prog) (w:=X.w) (I.ok.hd hc) it lo 1 n
  refine W.item i s _ _ hg st fun v h' tk hv st' kk=>?_
  obtain ⟨t,rfl⟩:=hv
  have I1:ac X pins σ H { s with heap:=h',toks:=tk }:=I.turned (fun b o hb e=>kk b o (by simpa using hb) e) f0 f1 f3 f4 f5
  refine ⟨(),vM (s:={ s with heap:=h',toks:=tk }) (n := "range_iterator") st' rfl rfl (by decide) ⟨.int (lo+i),H,I1,⟨t,?_⟩,⟨rfl,rfl⟩,st',fun b hb=>(hf b hb).1⟩⟩
  rw [Int.mul_one]
 done:=by
  intro X hP hw hK hc i pins s σ H E I hf st hg
  subst hP hw hK
  obtain ⟨f0,f1,f2,f3,f4,f5⟩:=hf it (by simp)
  exact wpAny_pyNext_range_end (I.ok.hd hc) st (by have:n≤i:=hg;trivial) fun h' eb=>⟨rfl,I.turned (t':=s.toks) (fun b o hb e=>eb b o hb e) f0 f1 f3 f4 f5⟩
 self:=fun _ _ _ _ _ st h=>wpAny_pyIter_rangeiter st h
section
variable {X:Cx}{tg:Expr}
def z0 (K:PySem.W.Frag) (tl:TE):TI:=fun σ H R=>tl σ H fun x H1=>∃a,x=.ref a∧(∃xs,ap K H1 a xs)∧R (uj K a) H1
def CD (K:PySem.W.Frag) (tl:TE):TI:=fun σ H R=>tl σ H fun x H1=>∃a,x=.ref a∧(∃xs,af K H1 a xs)∧R (xj K a) H1
theorem AT {l:Expr}{tl:TE} (hl:PE X l tl):PI X tg l (z0 X.K tl):=by
 intro pins s σ H R I h
 refine aH (hl pins s σ H _ I h) fun v s1 ⟨x,H1,I1,r1,q1⟩=>?_
 obtain ⟨a,e,⟨xs,hq⟩,q⟩:=q1
 subst e
 cases r1
 obtain ⟨its,rv,p,hz⟩:=I1.list hq
 refine wpAny_pyIter_list p.isList ?_
 refine ⟨s1.heap.objs.size,[s1.heap.objs.size],_,_,H1,rfl,I1.kept (t':=s1.toks) fun b o e=>Heap.get?_push_of_some _ e,xM a _,⟨_,Heap.get?_push_size _ rfl,rfl,rfl⟩,fun b hb=>?_,q⟩
 have e:b=s1.heap.objs.size:=by simpa using hb
 subst e
 exact I1.fpOk (Nat.le_refl _) (I1.hok.fresh (Nat.le_refl _))
theorem C5 {l:Expr}{tl:TE} (hl:PE X l tl):PI X tg l (CD X.K tl):=by
 intro pins s σ H R I h
 refine aH (hl pins s σ H _ I h) fun v s1 ⟨x,H1,I1,r1,q1⟩=>?_
 obtain ⟨a,e,⟨xs,hq⟩,q⟩:=q1
 subst e
 cases r1
 obtain ⟨its,rv,p,hz⟩:=I1.tuple hq
 refine wpAny_pyIter_tuple (show s1.heap.IsTuple a its.toArray from p) ?_
 refine ⟨s1.heap.objs.size,[s1.heap.objs.size],_,_,H1,rfl,I1.kept (t':=s1.toks) fun b o e=>Heap.get?_push_of_some _ e,wk a _,⟨_,Heap.get?_push_size _ rfl,rfl,rfl⟩,fun b hb=>?_,q⟩
 have e:b=s1.heap.objs.size:=by simpa using hb
 subst e
 exact I1.fpOk (Nat.le_refl _) (I1.hok.fresh (Nat.le_refl _))
theorem zy {pins:List (Addr×Obj)}{σ:St}{H:Hp}{s:Shared}{R:It→Hp→Prop}{E:Value→Shared→Prop}{lo hi:Int}{t u v:Tok}{tk:Nat} (I:ac X pins σ H s) (h1:-(2 ^ 62)≤lo) (h2:lo<2 ^ 62) (h3:-(2 ^ 62)≤hi) (h4:hi<2 ^ 62)
 (q:R (uZ lo (hi - lo).toNat) H):wpAny (model X.prog X.w) X.A (pyIter (.ref s.heap.objs.size)) (EV X pins σ tg R) E { s with heap:=s.heap.push { cls:=.type "range",data:=.fields #[.int lo t,.int hi u,.int 1 v] },toks:=tk }:=by
 refine wpAny_pyIter_range (IsRange.new ..) (small_one h1 h2 h3 h4) ?_
 have I1:ac X pins σ H { s with heap:=s.heap.push { cls:=.type "range",data:=.fields #[.int lo t,.int hi u,.int 1 v] },toks:=tk }:=I.kept fun b o e=>Heap.get?_push_of_some _ e
 refine ⟨(s.heap.push { cls:=.type "range",data:=.fields #[.int lo t,.int hi u,.int 1 v] }).objs.size,[(s.heap.push { cls:=.type "range",data:=.fields #[.int lo t,.int hi u,.int 1 v] }).objs.size],_,_,H,rfl,
  I1.kept (t':=tk) fun b o e=>Heap.get?_push_of_some _ e,wO _ lo (hi - lo).toNat,?_,fun b hb=>?_,q⟩
 ·have e1:lo+((0:Nat):Int)*1=lo:=by simp
  have e2:(((hi - lo).toNat:Nat):Int) - ((0:Nat):Int)=Builtin.Range.rangeSize lo hi 1:=by rw [rangeSize_one];split <;> trivial
  show IsRangeIter _ _ (lo+((0:Nat):Int)*1) ((((hi - lo).toNat:Nat):Int) - ((0:Nat):Int)) 1
  rw [e1,e2]
  exact Heap.get?_push_size _ rfl
 ·have e:b=(s.heap.push { cls:=.type "range",data:=.fields #[.int lo t,.int hi u,.int 1 v] }).objs.size:=by simpa using hb
  subst e
  exact I1.fpOk (Nat.le_refl _) (I1.hok.fresh (Nat.le_refl _))
def DA (ta:TA):TI:=fun σ H R=>ta σ H fun vs H1=>∃j:Int,vs=[.int j]∧-(2 ^ 62)≤j∧j<2 ^ 62∧R (uZ 0 j.toNat) H1
theorem dA {a:Expr}{ta:TA}{p pos:Pos} (hg:Gl X "range") (hm:X.mg "range" = none) (ha:PA X [a] ta) (hs:starEach [a] X.env=[(false,eval a X.env)]:=by rfl):PI X tg (.Call (.Name "range" p) [a] [] pos) (DA ta):=by
 intro pins s σ H R I h
 refine Call_ (iV I hg hm boot_range (PyProof.Rows.callWith_type1 (aH (ha pos pins s σ H _ I h) fun us s1 ⟨vs,H1,I1,r1,q1⟩=>?_) hs rfl))
 obtain ⟨j,e,q1,q2,q⟩:=q1
 subst e
 cases r1 with
 | cons r rr=>
  cases rr
  obtain ⟨t,rfl⟩:=r
  exact call_range_1 (zy I1 (by trivial) (by trivial) q1 q2 (by simpa using q))
def Fq (wi:TI) (g:TG) (tb:TS):TS:=fun D σ H=>wi σ H fun J H1=>∃W:Nat→Nat→St→Hp→Prop,(∃m,W 0 m σ H1)∧∀i m σ H,W i m σ H→
 (J.stop i H∧D.nx σ H)∨(J.go i H∧∃N:St→Hp→Prop,(∀σ' H',N σ' H'→∃m',m'<m∧W (i+1) m' σ' H')∧∀x H',J.yld i H x H'→g x σ H' fun σ2 H2=>tb { D with nx:=N,ct:=N,bk:=D.nx } σ2 H2)
def lM (fp:List Addr) (h:Heap):List (Addr×Obj):=fp.filterMap fun b=>(h.get? b).map fun o=>(b,o)
theorem f8 {fp:List Addr}{h:Heap}{b:Addr}{o:Obj} (hb:b∈fp) (e:h.get? b=some o):(b,o)∈lM fp h:=List.mem_filterMap.mpr ⟨b,hb,by rw [e];rfl⟩
theorem yi {fp:List Addr}{h:Heap}{p:Addr×Obj} (hp:p∈lM fp h):p.1∈fp∧h.get? p.1=some p.2:=by
 obtain ⟨b,hb,e⟩:=List.mem_filterMap.mp hp
 cases q:h.get? b with
 | none=>rw [q] at e;cases e
 | some o=>
  rw [q] at e
  have e':(b,o)=p:=Option.some.inj e
  subst e'
  exact ⟨hb,q⟩
theorem ac.pinned {pins:List (Addr×Obj)}{σ:St}{H:Hp}{s:Shared}{fp:List Addr} (I:ac X pins σ H s) (hf:∀b∈fp,i3 X pins H b) (ho:∀b∈fp,∃o,s.heap.get? b=some o∧∀v,o.data≠.cell v):ac X (pins++lM fp s.heap) σ H s:=
 I.pins_of fun p hp=>(List.mem_append.mp hp).elim (fun z=>I.pin p (List.mem_append_right _ z)) fun z=>by
  obtain ⟨hb,e⟩:=yi z
  obtain ⟨f0,f1,f2,_⟩:=hf p.1 hb
  obtain ⟨o,e',d⟩:=ho p.1 hb
  rw [e] at e';cases e'
  exact ⟨e,f0,f1,f2,d⟩
theorem ac.unpinned {pins pl:List (Addr×Obj)}{σ:St}{H:Hp}{s:Shared} (I:ac X (pins++pl) σ H s):ac X pins σ H s:=I.pins_of fun p hp=>I.pin p (List.mem_append_right _ (List.mem_append_left _ hp))
theorem d5 {iter:Expr}{body:List Stmt}{wi:TI}{g:TG}{tb:TS}{pos:Pos} (hp:PassesOwn (model X.prog X.w) X.A X.env X.xe) (hc:X.calm=true) (hi:PI X tg iter wi) (hg:PG X tg g) (hb:k9 X body tb)
 (hs:∀x,foldedSetIterable iter X.env x=pure x:=by intro _;rfl):PS X (.For tg iter body [] pos) (Fq wi g tb):=by
 intro pins s σ H D I h
 refine wpAny_For (aH (hi pins s σ H _ I h) fun v s1 h1=>aH h1 fun itv s2 h2=>?_) hs
 obtain ⟨it,fp,tn,J,H2,e,I2,T,st2,f2,W,⟨m0,w0⟩,turn⟩:=h2
 subst e
 have stat:∀{H':Hp},(∀b∈fp,H' b=none)→∀b∈fp,i3 X pins H' b:=fun hn b hb=>⟨hn b hb,(f2 b hb).2⟩
 refine codeAny_forLoop_any (fun n s'=>∃i σ' H',ac X pins σ' H' s'∧tn i s'.heap∧(∀b∈fp,H' b=none)∧W i n σ' H') ?_ m0 ⟨0,σ,H2,I2,st2,fun b hb=>(f2 b hb).1,w0⟩
 rintro n s3 ⟨i,σ3,H3,I3,st3,fr3,w3⟩
 rcases turn i n σ3 H3 w3 with ⟨stop,qn⟩ | ⟨go,N,hN,step⟩
 ·refine wpAny_passesOwn hp (aH (T.done X rfl rfl rfl hc i pins s3 σ3 H3 X.xe I3 (stat fr3) st3 stop) fun r s4 ⟨hr,I4⟩=>?_)
  subst hr
  exact wpAny_execs_nil ⟨σ3,H3,I4,qn⟩
 ·refine wpAny_passesOwn hp (aH (T.item X rfl rfl rfl hc i pins s3 σ3 H3 X.xe I3 (stat fr3) st3 go) fun r s4 ⟨u,hr,h4⟩=>?_)
  subst hr
  refine wpAny_passesOwn hp (aH h4 fun _ s5 ⟨x,H5,I5,r5,y5,st5,fr5⟩=>?_)
  have I5':=I5.pinned (stat fr5) (T.obj _ _ st5)
  refine wpAny_passesOwn hp (aH (hg _ s5 σ3 H5 x u _ I5' r5 (step x H5 y5)) fun _ s6 ⟨σ6,H6,I6,q6⟩=>?_)
  refine wpAny_passesOwn hp (aH (hb _ s6 σ6 H6 _ I6 q6) fun f s7 q7=>?_)
  have again:∀{σ7:St}{H7:Hp},ac X (pins++lM fp s5.heap) σ7 H7 s7→N σ7 H7→∃m,m<n∧∃i σ' H',ac X pins σ' H' s7∧tn i s7.heap∧(∀b∈fp,H' b=none)∧W i m σ' H':=fun {σ7 H7} I7 n7=>by
   obtain ⟨m',hm,w7⟩:=hN σ7 H7 n7
   refine ⟨m',hm,i+1,σ7,H7,I7.unpinned,T.keep _ _ _ st5 fun b hb o e=>(I7.pin (b,o) (List.mem_append_right _ (List.mem_append_right _ (f8 hb e)))).1,fun b hb=>?_,w7⟩
   obtain ⟨o,e,d⟩:=T.obj _ _ st5 b hb
   exact (I7.pin (b,o) (List.mem_append_right _ (List.mem_append_right _ (f8 hb e)))).2.1
  cases f with
  | next=>obtain ⟨σ7,H7,I7,n7⟩:=q7;exact again I7 n7
  | cont=>obtain ⟨σ7,H7,I7,n7⟩:=q7;exact again I7 n7
  | brk=>obtain ⟨σ7,H7,I7,q7⟩:=q7;exact ⟨σ7,H7,I7.unpinned,q7⟩
  | ret v=>obtain ⟨x7,σ7,H7,I7,r7,q7⟩:=q7;exact ⟨x7,σ7,H7,I7.unpinned,r7,q7⟩
end
theorem yO {K:PySem.W.Frag}{a:Addr}{xs:List V}{g:TG}{tb:TS}{D:cy}{σ:St}{H:Hp} (Pv:Nat→St→Hp→Prop) (h0:Pv 0 σ H) (hl:∀i σ H,i≤xs.length→Pv i σ H→ap K H a xs)
 (hs:∀i x σ H,xs[i]?=some x→Pv i σ H→g x σ H fun σ2 H2=>tb { D with nx:=Pv (i+1),ct:=Pv (i+1),bk:=D.nx } σ2 H2) (hd:∀σ H,Pv xs.length σ H→D.nx σ H) :
 ∃W:Nat→Nat→St→Hp→Prop,(∃m,W 0 m σ H)∧∀i m σ H,W i m σ H→
  ((uj K a).stop i H∧D.nx σ H)∨((uj K a).go i H∧∃N:St→Hp→Prop,(∀σ' H',N σ' H'→∃m',m'<m∧W (i+1) m' σ' H')∧∀x H',(uj K a).yld i H x H'→g x σ H' fun σ2 H2=>tb { D with nx:=N,ct:=N,bk:=D.nx } σ2 H2):=by
 refine ⟨fun i m σ H=>m=xs.length - i∧i≤xs.length∧Pv i σ H,⟨xs.length,by simp,Nat.zero_le _,h0⟩,?_⟩
 rintro i m σ H ⟨rfl,hi,p⟩
 have q:=hl i σ H hi p
 by_cases hlt:i<xs.length
 ·refine .inr ⟨⟨xs,xs[i],q,by simp [hlt]⟩,Pv (i+1),fun σ' H' p'=>⟨xs.length - (i+1),by trivial,rfl,hlt,p'⟩,fun x H' y=>?_⟩
  obtain ⟨e,y⟩:=y
  subst e
  exact hs i x σ _ (y xs q) p
 ·have e:i=xs.length:=by trivial
  subst e
  exact .inl ⟨⟨xs,q,Nat.le_refl _⟩,hd σ H p⟩
theorem qQ {K:PySem.W.Frag}{a:Addr}{xs:List V}{g:TG}{tb:TS}{D:cy}{σ:St}{H:Hp} (Pv:Nat→St→Hp→Prop) (h0:Pv 0 σ H) (hl:∀i σ H,i≤xs.length→Pv i σ H→af K H a xs)
 (hs:∀i x σ H,xs[i]?=some x→Pv i σ H→g x σ H fun σ2 H2=>tb { D with nx:=Pv (i+1),ct:=Pv (i+1),bk:=D.nx } σ2 H2) (hd:∀σ H,Pv xs.length σ H→D.nx σ H) :
 ∃W:Nat→Nat→St→Hp→Prop,(∃m,W 0 m σ H)∧∀i m σ H,W i m σ H→
  ((xj K a).stop i H∧D.nx σ H)∨((xj K a).go i H∧∃N:St→Hp→Prop,(∀σ' H',N σ' H'→∃m',m'<m∧W (i+1) m' σ' H')∧∀x H',(xj K a).yld i H x H'→g x σ H' fun σ2 H2=>tb { D with nx:=N,ct:=N,bk:=D.nx } σ2 H2):=by
 refine ⟨fun i m σ H=>m=xs.length - i∧i≤xs.length∧Pv i σ H,⟨xs.length,by simp,Nat.zero_le _,h0⟩,?_⟩
 rintro i m σ H ⟨rfl,hi,p⟩
 have q:=hl i σ H hi p
 by_cases hlt:i<xs.length
 ·refine .inr ⟨⟨xs,xs[i],q,by simp [hlt]⟩,Pv (i+1),fun σ' H' p'=>⟨xs.length - (i+1),by trivial,rfl,hlt,p'⟩,fun x H' y=>?_⟩
  obtain ⟨e,y⟩:=y
  subst e
  exact hs i x σ _ (y xs q) p
 ·have e:i=xs.length:=by trivial
  subst e
  exact .inl ⟨⟨xs,q,Nat.le_refl _⟩,hd σ H p⟩
theorem iz {lo:Int}{n:Nat}{g:TG}{tb:TS}{D:cy}{σ:St}{H:Hp} (Pv:Nat→St→Hp→Prop) (h0:Pv 0 σ H)
 (hs:∀i σ H,i<n→Pv i σ H→g (.int (lo+i)) σ H fun σ2 H2=>tb { D with nx:=Pv (i+1),ct:=Pv (i+1),bk:=D.nx } σ2 H2) (hd:∀σ H,Pv n σ H→D.nx σ H) :
 ∃W:Nat→Nat→St→Hp→Prop,(∃m,W 0 m σ H)∧∀i m σ H,W i m σ H→
  ((uZ lo n).stop i H∧D.nx σ H)∨((uZ lo n).go i H∧∃N:St→Hp→Prop,(∀σ' H',N σ' H'→∃m',m'<m∧W (i+1) m' σ' H')∧∀x H',(uZ lo n).yld i H x H'→g x σ H' fun σ2 H2=>tb { D with nx:=N,ct:=N,bk:=D.nx } σ2 H2):=by
 refine ⟨fun i m σ H=>m=n - i∧i≤n∧Pv i σ H,⟨n,by simp,Nat.zero_le _,h0⟩,?_⟩
 rintro i m σ H ⟨rfl,hi,p⟩
 by_cases hlt:i<n
 ·refine .inr ⟨hlt,Pv (i+1),fun σ' H' p'=>⟨n - (i+1),by trivial,rfl,hlt,p'⟩,fun x H' y=>?_⟩
  obtain ⟨e,y⟩:=y
  subst e y
  exact hs i σ _ hlt p
 ·have e:i=n:=by trivial
  subst e
  exact .inl ⟨Nat.le_refl _,hd σ H p⟩
abbrev R2:=V→V→Hp→VK→Prop
def bF (X:Cx) (f:Value→Value→Sem Value) (r:R2):Prop:=
 ∀(pins:List (Addr×Obj)) (s:Shared) (σ:St) (H:Hp) (x y:V) (v u:Value) (Q:VK),ac X pins σ H s→aN x v→aN y u→r x y H Q→
   wpAny (model X.prog X.w) X.A (f v u) (EP X pins σ Q) X.xe s
def BR (X:Cx) (f:Value→Sem Value) (r:V→Hp→VK→Prop):Prop:=
 ∀(pins:List (Addr×Obj)) (s:Shared) (σ:St) (H:Hp) (x:V) (v:Value) (Q:VK),ac X pins σ H s→aN x v→r x H Q→
   wpAny (model X.prog X.w) X.A (f v) (EP X pins σ Q) X.xe s
def cE (X:Cx) (f:Value) (r:List V→Hp→VK→Prop):Prop:=
 ∀(pins:List (Addr×Obj)) (s:Shared) (σ:St) (H:Hp) (xs:List V) (us:List Value) (Q:VK),ac X pins σ H s→ar xs us→r xs H Q→
   wpAny (model X.prog X.w) X.A (call f us) (EP X pins σ Q) X.xe s
def zP (r:R2) (ta tb:TE):TE:=fun σ H Q=>ta σ H fun x H1=>tb σ H1 fun y H2=>r x y H2 Q
def FU (r:V→Hp→VK→Prop) (ta:TE):TE:=fun σ H Q=>ta σ H fun x H1=>r x H1 Q
inductive F3 (C:Int→Int→Prop) (g:Int→Int→V) (x:V) (y:V) (H:Hp) (Q:VK):Prop
 | mk (i:_) (j:_) (h0:x=.int i) (h1:y=.int j) (h2:C i j) (h3:Q (g i j) H)
def rI (C:Int→Int→Prop) (g:Int→Int→V):R2:=fun x y H Q=>F3 C g x y H Q
inductive Fn (g:Int→Int→V) (x:V) (y:V) (H:Hp) (Q:VK):Prop
 | mk (i:_) (j:_) (h0:x=.int i) (h1:y=.int j) (h2:Q (g i j) H)
def rS (g:Int→Int→V):R2:=fun x y H Q=>Fn g x y H Q
def rU (g:Int→V):V→Hp→VK→Prop:=fun x H Q=>CW x fun i=>Q (g i) H
section
variable {X:Cx}{a b c:Expr}{ta tb tc:TE}{pos:Pos}
theorem zq (ha:PE X a ta) (hb:PE X b tb) {pins:List (Addr×Obj)}{s:Shared}{σ:St}{H:Hp}{R:V→V→Hp→Prop} (I:ac X pins σ H s)
 (h:ta σ H fun x H1=>tb σ H1 fun y H2=>R x y H2) {Q:Value→Shared→Prop}{f:Value→Value→Sem Value}
 (hf:∀v u s2 x y H2,ac X pins σ H2 s2→aN x v→aN y u→R x y H2→wpAny (model X.prog X.w) X.A (f v u) Q X.xe s2) :
 wpAny (model X.prog X.w) X.A (eval a X.env) (fun v s₁=>wpAny (model X.prog X.w) X.A (eval b X.env) (fun u s₂=>wpAny (model X.prog X.w) X.A (f v u) Q X.xe s₂) X.xe s₁) X.xe s:=by
 refine aH (ha pins s σ H _ I h) fun v s1 ⟨x,H1,I1,r1,q1⟩=>?_
 refine aH (hb pins s1 σ H1 _ I1 q1) fun u s2 ⟨y,H2,I2,r2,q2⟩=>?_
 exact hf v u s2 x y H2 I2 r1 r2 q2
theorem ak {op:Operator}{r:R2} (ho:bF X (binaryOp op) r) (ha:PE X a ta) (hb:PE X b tb):PE X (.BinOp a op b pos) (zP r ta tb):=by
 intro pins s σ H Q I h
 exact wpAny_BinOp (zq ha hb I h fun v u s2 x y H2 I2 rx ry q=>ho pins s2 σ H2 x y v u Q I2 rx ry q)
theorem j8 {op:UnaryOp}{r:V→Hp→VK→Prop} (ho:BR X (unaryOp op) r) (ha:PE X a ta):PE X (.UnaryOp op a pos) (FU r ta):=by
 intro pins s σ H Q I h
 exact UnaryOp_ (aH (ha pins s σ H _ I h) fun v s1 ⟨x,H1,I1,r1,q1⟩=>ho pins s1 σ H1 x v Q I1 r1 q1)
theorem rN {f:Value→Value→Sem Value}{C:Int→Int→Prop}{g:Int→Int→Int}
 (rule:∀(i j:Int) (t u:Tok) (s:Shared) (Q:Value→Shared→Prop) (E:Value→Shared→Prop),C i j→Q (.int (g i j) s.toks) { s with toks:=s.toks+1 }→wpAny (model X.prog X.w) X.A (f (.int i t) (.int j u)) Q E s) :
 bF X f (rI C fun i j=>.int (g i j)):=by
 intro pins s σ H x y v u Q I rx ry h
 obtain ⟨i,j,rfl,rfl,hc,q⟩:=h
 obtain ⟨t,rfl⟩:=rx
 obtain ⟨t',rfl⟩:=ry
 exact rule i j t t' s _ _ hc ⟨.int (g i j),H,I.tok _,⟨()⟩,q⟩
theorem CQ {f:Value→Value→Sem Value}{g:Int→Int→Int}
 (rule:∀(i j:Int) (t u:Tok) (s:Shared) (Q:Value→Shared→Prop) (E:Value→Shared→Prop),Q (.int (g i j) s.toks) { s with toks:=s.toks+1 }→wpAny (model X.prog X.w) X.A (f (.int i t) (.int j u)) Q E s) :
 bF X f (rS fun i j=>.int (g i j)):=by
 intro pins s σ H x y v u Q I rx ry h
 obtain ⟨i,j,rfl,rfl,q⟩:=h
 obtain ⟨t,rfl⟩:=rx
 obtain ⟨t',rfl⟩:=ry
 exact rule i j t t' s _ _ ⟨.int (g i j),H,I.tok _,⟨()⟩,q⟩
theorem wa {f:Value→Value→Sem Value}{g:Int→Int→Bool}
 (rule:∀(i j:Int) (t u:Tok) (s:Shared) (Q:Value→Shared→Prop) (E:Value→Shared→Prop),Q (.bool (g i j)) s→wpAny (model X.prog X.w) X.A (f (.int i t) (.int j u)) Q E s) :
 bF X f (rS fun i j=>.bl (g i j)):=by
 intro pins s σ H x y v u Q I rx ry h
 obtain ⟨i,j,rfl,rfl,q⟩:=h
 obtain ⟨t,rfl⟩:=rx
 obtain ⟨t',rfl⟩:=ry
 exact rule i j t t' s _ _ ⟨.bl (g i j),H,I,rfl,q⟩
def Fb (i j:Int):Prop:=0<j∧j<1073741824
def Fk (i j:Int):Prop:=0≤j∧j≤1000000∧i.natAbs<2 ^ 64
def y9 (i j:Int):Prop:=(-(2 ^ 64)<i∧i<2 ^ 64)∨(-(2 ^ 64)<j∧j<2 ^ 64)
theorem y9.ok {i j:Int} (h:y9 i j):IntMulOk i j:=by
 rcases h with ⟨h1,h2⟩ | ⟨h1,h2⟩
 ·exact .of_left (intBits_le_64 h1 h2)
 ·exact .of_right (intBits_le_64 h1 h2)
theorem br:bF X (binaryOp .Add) (rS fun i j=>.int (i+j)):=CQ fun _ _ _ _ _ _ _ q=>add_int q
theorem kG:bF X (binaryOp .Sub) (rS fun i j=>.int (i - j)):=CQ fun _ _ _ _ _ _ _ q=>sub_int q
theorem gK:bF X (binaryOp .Mult) (rI y9 fun i j=>.int (i*j)):=rN fun _ _ _ _ _ _ _ hc q=>mul_int q hc.ok
theorem Al:bF X (binaryOp .FloorDiv) (rI Fb fun i j=>.int (i / j)):=rN fun i j _ _ _ _ _ hc q=>by
 have h1:(0:Int)<j:=hc.1
 have h2:j<1073741824:=hc.2
 exact floordiv_int (by trivial) (by rw [Int.fdiv_eq_ediv_of_nonneg i (by trivial)];exact q) (.inl (PyProof.noPylong_small (by trivial)))
theorem dm:bF X (binaryOp .Mod) (rI (fun _ j=>0<j) fun i j=>.int (i % j)):=rN fun i j _ _ _ _ _ hc q=>by
 have h1:(0:Int)<j:=hc
 exact mod_int' (by trivial) (by rw [Int.fmod_eq_emod_of_nonneg i (by trivial)];exact q)
theorem AC:bF X (binaryOp .Mod) (rI (fun _ j=>j≠0) fun i j=>.int (i.fmod j)):=rN fun _ _ _ _ _ _ _ hc q=>mod_int' hc q
theorem tV:bF X (binaryOp .Pow) (rI Fk fun i j=>.int (i ^ j.toNat)):=rN fun _ _ _ _ _ _ _ hc q=>pow_int_small hc.1 hc.2.1 hc.2.2 q
theorem FV {f:Value→Sem Value}{g:Int→Int}
 (rule:∀(i:Int) (t:Tok) (s:Shared) (Q:Value→Shared→Prop) (E:Value→Shared→Prop),Q (.int (g i) s.toks) { s with toks:=s.toks+1 }→wpAny (model X.prog X.w) X.A (f (.int i t)) Q E s) :
 BR X f (rU fun i=>.int (g i)):=by
 intro pins s σ H x v Q I rx h
 obtain ⟨i,rfl,q⟩:=h
 obtain ⟨t,rfl⟩:=rx
 exact rule i t s _ _ ⟨.int (g i),H,I.tok _,⟨()⟩,q⟩
theorem iU:BR X (unaryOp .USub) (rU fun i=>.int (-i)):=FV fun _ _ _ _ _ q=>neg_int q
end
def Bz:V→V→Bool
 | .non,.non=>true | .non,.int _=>true | .int _,.non=>true | .non,.bl _=>true | .bl _,.non=>true | .non,.str _=>true | .str _,.non=>true
 | .int _,.int _=>true | .bl _,.bl _=>true | .str _,.str _=>true | .byt _,.byt _=>true
 | .int _,.str _=>true | .str _,.int _=>true | .bl _,.str _=>true | .str _,.bl _=>true
 | _,_=>false
def FK:R2:=fun x y H Q=>Bz x y=true∧Q (.bl (decide (x=y))) H
def FX:R2:=fun x y H Q=>Bz x y=true∧Q (.bl (!decide (x=y))) H
theorem vf {i j:Int}:decide (V.int i=V.int j)=(i==j):=by
 rw [Bool.eq_iff_iff]
 simp
theorem xN {i j:Bool}:decide (V.bl i=V.bl j)=(i==j):=by
 rw [Bool.eq_iff_iff]
 simp
theorem u6 {i j:Str}:decide (V.str i=V.str j)=(i==j):=by
 rw [Bool.eq_iff_iff]
 simp
theorem vE {i j:Array UInt8}:decide (V.byt i=V.byt j)=(i.toList==j.toList):=by
 rw [Bool.eq_iff_iff]
 cases i
 cases j
 simp
section
variable {X:Cx}{a b c:Expr}{ta tb tc:TE}{pos:Pos}
theorem aX {pins:List (Addr×Obj)}{σ:St}{H:Hp}{s:Shared}{Q:VK}{k k':Bool} (I:ac X pins σ H s) (q:Q (.bl k) H) (e:k=k'):EP X pins σ Q (.bool k') s:=by
 subst e
 exact ⟨.bl k,H,I,rfl,q⟩
theorem dJ:bF X (compareOp .Eq) FK:=by
 intro pins s σ H x y v u Q I rx ry h
 obtain ⟨hs,q⟩:=h
 cases x with
 | non=>
  cases rx
  cases y with
  | non=>cases ry;exact PySem.EqNone.eq_none_none (aX I q (by simp))
  | bl j=>cases ry;exact PySem.EqNone.eq_none_bool (aX I q (by simp))
  | int j=>obtain ⟨t',rfl⟩:=ry;exact PySem.EqNone.eq_none_int (aX I q (by simp))
  | str j=>obtain ⟨t',rfl⟩:=ry;exact PySem.EqNone.eq_none_str (aX I q (by simp))
  | _=>exact absurd (show false=true from hs) Bool.false_ne_true
 | bl i=>
  cases rx
  cases y with
  | non=>cases ry;exact PySem.EqNone.eq_bool_none (aX I q (by simp))
  | bl j=>cases ry;exact eq_bool (aX I q xN)
  | str j=>obtain ⟨t',rfl⟩:=ry;exact PySem.EqMixed.eq_bool_str (aX I q (by simp))
  | _=>exact absurd (show false=true from hs) Bool.false_ne_true
 | int i=>
  obtain ⟨t,rfl⟩:=rx
  cases y with
  | non=>cases ry;exact PySem.EqNone.eq_int_none (aX I q (by simp))
  | int j=>obtain ⟨t',rfl⟩:=ry;exact eq_int (aX I q vf)
  | str j=>obtain ⟨t',rfl⟩:=ry;exact PySem.EqMixed.eq_int_str (aX I q (by simp))
  | _=>exact absurd (show false=true from hs) Bool.false_ne_true
 | str i=>
  obtain ⟨t,rfl⟩:=rx
  cases y with
  | non=>cases ry;exact PySem.EqNone.eq_str_none (aX I q (by simp))
  | bl j=>cases ry;exact PySem.EqMixed.eq_str_bool (aX I q (by simp))
  | int j=>obtain ⟨t',rfl⟩:=ry;exact PySem.EqMixed.eq_str_int (aX I q (by simp))
  | str j=>obtain ⟨t',rfl⟩:=ry;exact eq_str (aX I q u6)
  | _=>exact absurd (show false=true from hs) Bool.false_ne_true
 | byt i=>
  obtain ⟨t,rfl⟩:=rx
  cases y with
  | byt j=>obtain ⟨t',rfl⟩:=ry;exact PySem.W.eq_bytes (aX I q vE)
  | _=>exact absurd (show false=true from hs) Bool.false_ne_true
 | _=>cases y <;> exact absurd (show false=true from hs) Bool.false_ne_true
theorem vH:bF X (compareOp .NotEq) FX:=by
 intro pins s σ H x y v u Q I rx ry h
 obtain ⟨hs,q⟩:=h
 cases x with
 | non=>
  cases rx
  cases y with
  | non=>cases ry;exact PySem.EqNone.ne_none_none (aX I q (by simp))
  | bl j=>cases ry;exact PySem.EqNone.ne_none_bool (aX I q (by simp))
  | int j=>obtain ⟨t',rfl⟩:=ry;exact PySem.EqNone.ne_none_int (aX I q (by simp))
  | str j=>obtain ⟨t',rfl⟩:=ry;exact PySem.EqNone.ne_none_str (aX I q (by simp))
  | _=>exact absurd (show false=true from hs) Bool.false_ne_true
 | bl i=>
  cases rx
  cases y with
  | non=>cases ry;exact PySem.EqNone.ne_bool_none (aX I q (by simp))
  | bl j=>cases ry;exact ne_bool (aX I q (congrArg not xN))
  | str j=>obtain ⟨t',rfl⟩:=ry;exact PySem.EqMixed.ne_bool_str (aX I q (by simp))
  | _=>exact absurd (show false=true from hs) Bool.false_ne_true
 | int i=>
  obtain ⟨t,rfl⟩:=rx
  cases y with
  | non=>cases ry;exact PySem.EqNone.ne_int_none (aX I q (by simp))
  | int j=>obtain ⟨t',rfl⟩:=ry;exact ne_int (aX I q (congrArg not vf))
  | str j=>obtain ⟨t',rfl⟩:=ry;exact PySem.EqMixed.ne_int_str (aX I q (by simp))
  | _=>exact absurd (show false=true from hs) Bool.false_ne_true
 | str i=>
  obtain ⟨t,rfl⟩:=rx
  cases y with
  | non=>cases ry;exact PySem.EqNone.ne_str_none (aX I q (by simp))
  | bl j=>cases ry;exact PySem.EqMixed.ne_str_bool (aX I q (by simp))
  | int j=>obtain ⟨t',rfl⟩:=ry;exact PySem.EqMixed.ne_str_int (aX I q (by simp))
  | str j=>obtain ⟨t',rfl⟩:=ry;exact ne_str (aX I q (congrArg not u6))
  | _=>exact absurd (show false=true from hs) Bool.false_ne_true
 | byt i=>
  obtain ⟨t,rfl⟩:=rx
  cases y with
  | byt j=>obtain ⟨t',rfl⟩:=ry;exact PySem.W.ne_bytes (aX I q (congrArg not vE))
  | _=>exact absurd (show false=true from hs) Bool.false_ne_true
 | _=>cases y <;> exact absurd (show false=true from hs) Bool.false_ne_true
theorem fw:bF X (compareOp .Lt) (rS fun i j=>.bl (decide (i<j))):=wa fun _ _ _ _ _ _ _ q=>lt_int q
theorem zN:bF X (compareOp .LtE) (rS fun i j=>.bl (decide (i≤j))):=wa fun _ _ _ _ _ _ _ q=>le_int q
theorem jr:bF X (compareOp .Gt) (rS fun i j=>.bl (decide (j<i))):=wa fun _ _ _ _ _ _ _ q=>gt_int q
theorem DR:bF X (compareOp .GtE) (rS fun i j=>.bl (decide (j≤i))):=wa fun _ _ _ _ _ _ _ q=>ge_int q
theorem tM:bF X (compareOp .Is) (fun x y H Q=>y=.non∧Q (.bl (decide (x=.non))) H):=by
 intro pins s σ H x y v u Q I rx ry h
 obtain ⟨rfl,q⟩:=h
 cases ry
 refine is_none_gen (aX I q ?_)
 cases x <;> first
  | (cases rx;rfl)
  | (obtain ⟨t,rfl⟩:=rx;rfl)
theorem vh:bF X (compareOp .IsNot) (fun x y H Q=>y=.non∧Q (.bl (!decide (x=.non))) H):=by
 intro pins s σ H x y v u Q I rx ry h
 obtain ⟨rfl,q⟩:=h
 cases ry
 refine isnot_none_gen (aX I q ?_)
 cases x <;> first
  | (cases rx;rfl)
  | (obtain ⟨t,rfl⟩:=rx;rfl)
theorem nZ (b:Expr) {op:CmpOp} (h:op≠.In:=by decide) (h2:op≠.NotIn:=by decide):behindInMarks op b=false:=by
 have e1:(op==CmpOp.In)=false:=by cases op <;> first | rfl | exact absurd rfl h
 have e2:(op==CmpOp.NotIn)=false:=by cases op <;> first | rfl | exact absurd rfl h2
 cases b <;> simp [behindInMarks,e1,e2]
theorem fh {op:CmpOp}{r:R2} (ho:bF X (compareOp op) r) (ha:PE X a ta) (hb:PE X b tb) (hm:behindInMarks op b=false):PE X (.Compare a [op] [b] pos) (zP r ta tb):=by
 intro pins s σ H Q I h
 exact wpAny_Compare1 (zq ha hb I h fun v u s2 x y H2 I2 rx ry q=>ho pins s2 σ H2 x y v u Q I2 rx ry q) hm
def Ad (t:TE):TT:=fun σ H Q=>t σ H fun x H'=>uf x fun k=>Q k H'
theorem au {op:CmpOp}{r:R2} (ho:bF X (compareOp op) r) (ha:PE X a ta) (hb:PE X b tb) (hm:behindInMarks op b=false):PT X (.Compare a [op] [b] pos) (Ad (zP r ta tb)):=by
 intro pins s σ H Q I h
 refine wpAny_isTrue_Compare1 (aH (ha pins s σ H _ I h) fun v s1 ⟨x,H1,I1,r1,q1⟩=>aH (hb pins s1 σ H1 _ I1 q1) fun u s2 ⟨y,H2,I2,r2,q2⟩=>
  aH (ho pins s2 σ H2 x y v u _ I2 r1 r2 q2) fun c s3 ⟨z,H3,I3,r3,k,e,q3⟩=>?_) hm
 subst e
 cases r3
 exact wpAny_truthy_bool ⟨H3,I3,q3⟩
def x8 (r r':R2) (ta tb tc:TE):TE:=fun σ H Q=>ta σ H fun x H1=>tb σ H1 fun y H2=>r x y H2 fun z H3=>uf z fun k=>
 (if k=true then tc σ H3 fun w' H4=>r' y w' H4 Q else Q (.bl false) H3)
theorem zH {op op':CmpOp}{r r':R2} (ho:bF X (compareOp op) r) (ho':bF X (compareOp op') r') (ha:PE X a ta) (hb:PE X b tb) (hc:PE X c tc)
 (hm:lastMarks [op,op'] [b,c]=false:=by with_unfolding_all rfl):PE X (.Compare a [op,op'] [b,c] pos) (x8 r r' ta tb tc):=by
 intro pins s σ H Q I h
 refine Compare_chain (aH (ha pins s σ H _ I h) fun v s1 ⟨x,H1,I1,r1,q1⟩=>chain_link (aH (hb pins s1 σ H1 _ I1 q1) fun u s2 ⟨y,H2,I2,r2,q2⟩=>
  aH (ho pins s2 σ H2 x y v u _ I2 r1 r2 q2) fun d s3 ⟨z,H3,I3,r3,k,e,q3⟩=>?_)) hm
 subst e
 cases r3
 refine wpAny_truthy_bool ?_
 cases k with
 | false=>exact ite_ff ⟨.bl false,H3,I3,rfl,q3⟩
 | true=>exact ite_tt (chain_last (aH (hc pins s3 σ H3 _ I3 q3) fun w' s4 ⟨z',H4,I4,r4,q4⟩=>ho' pins s4 σ H4 y z' u w' Q I4 r2 r4 q4))
theorem yI {op op':CmpOp}{r r':R2} (ho:bF X (compareOp op) r) (ho':bF X (compareOp op') r') (ha:PE X a ta) (hb:PE X b tb) (hc:PE X c tc)
 (hm:lastMarks [op,op'] [b,c]=false:=by with_unfolding_all rfl):PT X (.Compare a [op,op'] [b,c] pos) (Ad (x8 r r' ta tb tc)):=by
 intro pins s σ H Q I h
 refine isTrue_chain (aH (ha pins s σ H _ I h) fun v s1 ⟨x,H1,I1,r1,q1⟩=>test_link (aH (hb pins s1 σ H1 _ I1 q1) fun u s2 ⟨y,H2,I2,r2,q2⟩=>
  aH (ho pins s2 σ H2 x y v u _ I2 r1 r2 q2) fun d s3 ⟨z,H3,I3,r3,k,e,q3⟩=>?_)) hm
 subst e
 cases r3
 refine wpAny_truthy_bool ?_
 cases k with
 | false=>
  obtain ⟨k',e',q'⟩:=q3
  cases e'
  exact ite_ff ⟨H3,I3,q'⟩
 | true=>
  refine ite_tt (test_last (aH (hc pins s3 σ H3 _ I3 q3) fun w' s4 ⟨z',H4,I4,r4,q4⟩=>aH (ho' pins s4 σ H4 y z' u w' _ I4 r2 r4 q4) fun d' s5 ⟨z2,H5,I5,r5,k2,e2,q5⟩=>?_))
  subst e2
  cases r5
  exact wpAny_truthy_bool ⟨H5,I5,q5⟩
theorem nV:(sizeLine:Nat)<2 ^ 63:=by rw [sizeLine_eq];decide
theorem wF:bF X (binaryOp .Add) (fun x y H Q=>bh fun i j=>x=.str i∧y=.str j∧i.length+j.length≤sizeLine∧Q (.str (i++j)) H):=by
 intro pins s σ H x y v u Q I rx ry h
 obtain ⟨i,j,rfl,rfl,hz,q⟩:=h
 obtain ⟨t,rfl⟩:=rx
 obtain ⟨t',rfl⟩:=ry
 exact add_str (fun t' tk=>⟨.str (i++j),H,I.tok _,⟨()⟩,q⟩) hz
theorem mw {x:V}{us:List Value} (r:ar [x] us):∃u,us=[u]∧aN x u:=by
 cases r with
 | cons r1 r2=>cases r2;exact ⟨_,rfl,r1⟩
theorem vY {x y:V}{us:List Value} (r:ar [x,y] us):bh fun u w'=>us=[u,w']∧aN x u∧aN y w':=by
 cases r with
 | cons r1 r2=>
  cases r2 with
  | cons r3 r4=>cases r4;exact ⟨_,_,rfl,r1,r3⟩
theorem km:cE X (.builtin "abs") (fun xs H Q=>∃i,xs=[.int i]∧Q (.int (if i<0 then -i else i)) H):=by
 intro pins s σ H xs us Q I r h
 obtain ⟨i,rfl,q⟩:=h
 obtain ⟨u,rfl,t,rfl⟩:=mw r
 exact call_abs_int fun u tk=>⟨.int (if i<0 then -i else i),H,I.tok _,⟨()⟩,q⟩
theorem xm (hc:X.calm=true):cE X (.builtin "max") (fun xs H Q=>bh fun i j=>xs=[.int i,.int j]∧Q (.int (if j > i then j else i)) H):=by
 intro pins s σ H xs us Q I r h
 obtain ⟨i,j,rfl,q⟩:=h
 obtain ⟨u,w',rfl,⟨t,rfl⟩,⟨t',rfl⟩⟩:=vY r
 refine max_two_ints (I.ok.hd hc) fun h' tk k=>⟨_,H,I.kept k,?_,q⟩
 by_cases hj:j > i
 ·rw [if_pos hj,if_pos hj];exact ⟨()⟩
 ·rw [if_neg hj,if_neg hj];exact ⟨()⟩
theorem xi (hc:X.calm=true):cE X (.builtin "min") (fun xs H Q=>bh fun i j=>xs=[.int i,.int j]∧Q (.int (if j<i then j else i)) H):=by
 intro pins s σ H xs us Q I r h
 obtain ⟨i,j,rfl,q⟩:=h
 obtain ⟨u,w',rfl,⟨t,rfl⟩,⟨t',rfl⟩⟩:=vY r
 refine min_two_ints (I.ok.hd hc) fun h' tk k=>⟨_,H,I.kept k,?_,q⟩
 by_cases hj:j<i
 ·rw [if_pos hj,if_pos hj];exact ⟨()⟩
 ·rw [if_neg hj,if_neg hj];exact ⟨()⟩
theorem li:cE X (.type "int") (fun xs H Q=>(∃i,xs=[.int i]∧Q (.int i) H)∨∃k,xs=[.bl k]∧Q (.int (if k then 1 else 0)) H):=by
 intro pins s σ H xs us Q I r h
 rcases h with ⟨i,rfl,q⟩ | ⟨k,rfl,q⟩
 ·obtain ⟨u,rfl,t,rfl⟩:=mw r
  exact call_int_int ⟨.int i,H,I,⟨()⟩,q⟩
 ·obtain ⟨u,rfl,r1⟩:=mw r
  cases r1
  exact call_int_bool ⟨.int (if k then 1 else 0),H,I.tok _,⟨()⟩,q⟩
end
structure pJ (h:Heap) (x dx C:Addr) (mA:Str→Option Value):Prop where
 obj:h.get? x=some (PySem.W.instObj C dx)
 ns:h.Ns1 dx mA
 ne:dx≠x
theorem xk {h:Heap}{dx:Addr}{mA:Str→Option Value} (n:h.Ns1 dx mA):∃od,h.get? dx=some od∧∀name,PySem.W.lookIn name od=some (mA name):=by
 obtain ⟨o,es,ep,ho,hd,hk,_,hm⟩:=n
 refine ⟨o,ho,fun name=>?_⟩
 have e:=hm name
 unfold nsFind findBy at e
 rw [←Array.find?_toList] at e
 unfold PySem.W.lookIn
 rw [hd]
 dsimp only
 split
 ·rename_i y q
  rw [q] at e
  exact congrArg some e
 ·rename_i q
  rw [q] at e
  have a:es.toList.any (·.refKey)=false:=by
   rw [List.any_eq_false]
   intro y hy
   obtain ⟨z,t,hkey⟩:=hk y (Array.mem_toList_iff.mp hy)
   simp [DictEntry.refKey,hkey]
  have a':¬es.toList.any (·.refKey)=true:=by rw [a];exact Bool.false_ne_true
  rw [if_neg a']
  exact congrArg some e
theorem pJ.look {h:Heap}{x dx C:Addr}{mA:Str→Option Value} (I:pJ h x dx C mA):∃od,PySem.W.InstAt h x (PySem.W.instObj C dx) C (some od)∧∀name,PySem.W.lookIn name od=some (mA name):=
 let ⟨od,ho,hl⟩:=xk I.ns
 ⟨od,⟨I.obj,rfl,rfl,ho⟩,hl⟩
section
variable {prog:Program}{w:World}{A:Around}{E:Value→Shared→Prop}{s:Shared}{K:PySem.W.Frag}{x dx C f:Addr}{mA:Str→Option Value}{name:Str}{v:Value}
theorem Ax {expr:Bool}{Q:Value→Shared→Prop} (X:K.In s.heap) (I:pJ s.heap x dx C mA) (hg:PySem.W.plainGet K C name=true) (hh:PySem.W.hasDictIn K C=true)
 (ha:PySem.W.findIn K (.ref C) name=some none) (hv:mA name=some v) (hv':PySem.W.handedIn v=true) (h:Q v { s with toks:=s.toks+1 }) :
 wpAny (model prog w) A (getAttr (.ref x) name expr) Q E s:=by
 obtain ⟨od,J,hl⟩:=I.look
 exact PySem.W.get_value X J (PySem.W.plainGet_of hg).1 (PySem.W.findObj_own hh ha rfl (by rw [hl,hv])) hv' h
theorem zu {pl:Sem Bool}{Q:Value×List Value→Shared→Prop} (X:K.In s.heap) (I:pJ s.heap x dx C mA) (hg:PySem.W.plainGet K C name=true)
 (hf:PySem.W.findIn K (.ref C) name=some (some (.ref f))) (ht:PySem.W.isFn K (.ref f)=true) (hv:mA name=none) (h:Q (.ref f,[.ref x]) s) :
 wpAny (model prog w) A (getMethod (.ref x) name pl) Q E s:=by
 obtain ⟨od,J,hl⟩:=I.look
 exact PySem.W.method_fn X J (PySem.W.plainGet_of hg).1 (PySem.W.plainGet_of hg).2 hf (beq_iff_eq.mp ht) (by show (PySem.W.lookIn name od).map (·.isSome)=some false;rw [hl,hv];rfl) h
theorem Aw {ns:List Str}{Q:Unit→Shared→Prop} (X:K.In s.heap) (I:pJ s.heap x dx C mA)
 (hs:PySem.W.findIn K (.ref C) "__setattr__" = some (some (.builtin "object.__setattr__"))) (hp:PySem.W.plainOver K C=true) (ht:PySem.W.takerIn K C name=some none) (hh:PySem.W.hasDictIn K C=true)
 (hw:PySem.Within mA ns) (hsz:ns.length≤sizeLine)
 (h:∀h',pJ h' x dx C (fun y=>if y=name then some v else mA y)→Heap.SameBut dx s.heap h'→Q () { s with heap:=h',toks:=s.toks+2 }) :
 wpAny (model prog w) A (setAttr (.ref x) name v) Q E s:=by
 obtain ⟨od,J,hl⟩:=I.look
 refine PySem.W.set_plain X J hs (PySem.W.osa_open (s:={ s with toks:=s.toks+1 }) (r:=none) X J hp ht fun b=>?_)
 obtain ⟨cd,hc,hd'⟩:=PySem.W.any_some hh
 have hx:s.heap.get? x=some ⟨.ref C,some dx,.plain,#[]⟩:=I.obj
 refine wpAny_bind (wpAny_pure (wpAny_bind (wpAny_bind (wpAny_loadPart hx (wpAny_bind (PySem.W.Looks.here (s:={ s with toks:=s.toks+1 }) (PySem.W.looks_clsIn X hc) ?_))))))
 rw [hd']
 refine wpAny_pure (a:=some dx) (wpAny_bind (wpAny_pure (wpAny_bind ?_)))
 refine wpAny_nsSet1 (s:={ s with toks:=s.toks+1 }) I.ns fun h' hn2 hs2=>?_
 obtain ⟨oD,esD,epD,hoD,hdD,hcD⟩:=hn2.count (PySem.Within.cons name v hw)
 refine wpAny_bind (wpAny_lookBehind hoD (by rw [hdD];exact pastItsLine_dict (Nat.le_trans hcD (by rw [List.length_cons];trivial))) ?_)
 exact wpAny_pure (h _ ⟨(hs2.2 _ (Ne.symm I.ne)).trans I.obj,hn2,I.ne⟩ hs2)
theorem yD {R:Result→Shared→Prop}{vs:List Value}{kw:List (Str×Value)} (X:K.In s.heap) (hm:PySem.W.makesIn K C=true)
 (hi:PySem.W.findIn K (.ref C) "__init__" = some (some (.ref f))) (hf:PySem.W.typeIn K (.ref f)=some (.type "function"))
 (h:codeAny (model prog w) (A.under (.builtin "type.__call__" ⟨.ref C :: vs,kw⟩)) (.call (.ref f) ⟨.ref (s.heap.objs.size+1) :: vs,kw⟩) (PySem.W.InitBack (s.heap.objs.size+1) R)
  { s with heap:=(s.heap.push PySem.W.emptyDict).push (PySem.W.instObj C s.heap.objs.size) }) :
 codeAny (model prog w) A (.call (.ref C) ⟨vs,kw⟩) R s:=by
 obtain ⟨hh,g,d,t,os⟩:=s
 exact PySem.W.make_core (PySem.W.makes_of X hm) (PySem.W.looks_findIn X hi) (fun self=>PySem.W.bind_fn X self hf) (.inl rfl) h
end
def gB (f:Str) (v:V):List (Str×V)→List (Str×V)
 | []=>[(f,v)]
 | (g,x) :: r=>if g=f then (g,v) :: r else (g,x) :: gB f v r
theorem pC (f g:Str) (v:V):∀fs:List (Str×V),(gB f v fs).lookup g=if g=f then some v else fs.lookup g
 | []=>by
  show List.lookup g [(f,v)]=_
  by_cases h:g=f
  ·have hb:(g==f)=true:=beq_iff_eq.mpr h
   simp only [List.lookup,hb,if_pos h]
  ·have hb:(g==f)=false:=beq_eq_false_iff_ne.mpr h
   simp only [List.lookup,hb,if_neg h]
 | (k,x) :: r=>by
  have ih:=pC f g v r
  rw [show gB f v ((k,x) :: r)=(if k=f then (k,v) :: r else (k,x) :: gB f v r) from rfl]
  by_cases hk:k=f
  ·rw [if_pos hk]
   by_cases h:g=k
   ·have hb:(g==k)=true:=beq_iff_eq.mpr h
    simp only [List.lookup,hb,if_pos (h.trans hk)]
   ·have hb:(g==k)=false:=beq_eq_false_iff_ne.mpr h
    simp only [List.lookup,hb,if_neg (fun e:g=f=>h (e.trans hk.symm))]
  ·rw [if_neg hk]
   by_cases h:g=k
   ·have hb:(g==k)=true:=beq_iff_eq.mpr h
    simp only [List.lookup,hb,if_neg (fun e:g=f=>hk (h.symm.trans e))]
   ·have hb:(g==k)=false:=beq_eq_false_iff_ne.mpr h
    simp only [List.lookup,hb]
    exact ih
theorem nO (f:Str) (v:V):∀fs:List (Str×V),f∈(gB f v fs).map (·.1)∧∀g,g∈fs.map (·.1)→g∈(gB f v fs).map (·.1)
 | []=>⟨by simp [gB],fun g h=>by simp at h⟩
 | (k,x) :: r=>by
  obtain ⟨i1,i2⟩:=nO f v r
  rw [show gB f v ((k,x) :: r)=(if k=f then (k,v) :: r else (k,x) :: gB f v r) from rfl]
  by_cases hk:k=f
  ·rw [if_pos hk]
   subst hk
   exact ⟨by simp,fun g h=>by simpa using h⟩
  ·rw [if_neg hk]
   refine ⟨?_,fun g h=>?_⟩
   ·rw [List.map_cons]
    exact List.mem_cons_of_mem _ i1
   ·rw [List.map_cons] at h ⊢
    rcases List.mem_cons.mp h with e | e
    ·exact List.mem_cons.mpr (.inl e)
    ·exact List.mem_cons_of_mem _ (i2 g e)
theorem pB (f:Str) (v:V):∀fs:List (Str×V),(gB f v fs).length≤fs.length+1
 | []=>by simp [gB]
 | (k,x) :: r=>by
  have ih:=pB f v r
  rw [show gB f v ((k,x) :: r)=(if k=f then (k,v) :: r else (k,x) :: gB f v r) from rfl]
  by_cases hk:k=f
  ·rw [if_pos hk,List.length_cons,List.length_cons];trivial
  ·rw [if_neg hk,List.length_cons,List.length_cons];trivial
theorem jh.some_of {v:V}{o:Option Value} (r:jh (some v) o):∃u,o=some u∧aN v u:=by
 cases o with
 | none=>exact (show False from r).elim
 | some u=>exact ⟨u,rfl,r⟩
theorem jh.none_of {o:Option Value} (r:jh none o):o=none:=by
 cases o with
 | none=>rfl
 | some u=>exact (show False from r).elim
theorem xa {v:V}{u:Value} (r:aN v u):PySem.W.handedIn u=true:=by
 cases v with
 | non=>cases (show u=Value.none from r);rfl
 | bl b=>cases (show u=Value.bool b from r);rfl
 | int i=>obtain ⟨t,e⟩:=(show ∃t,u=Value.int i t from r);cases e;rfl
 | str x=>obtain ⟨t,e⟩:=(show ∃t,u=Value.str x t from r);cases e;rfl
 | byt b=>obtain ⟨t,e⟩:=(show ∃t,u=Value.bytes b t from r);cases e;rfl
 | flt b=>obtain ⟨t,e⟩:=(show ∃t,u=Value.float b t from r);cases e;rfl
 | ref a=>cases (show u=Value.ref a from r);rfl
 | ty n=>cases (show u=Value.type n from r);rfl
section
variable {P:Program}{w:World}{H H':Hp}{h h':Heap}{a C dx:Addr}{fs fs':List (Str×V)}
theorem oU (hok:cN P w H h) (e:H a=some (.ins C dx fs)):∃mA,pJ h a dx C mA∧(∀f,jh (fs.lookup f) (mA f))∧PySem.Within mA (fs.map (·.1))∧fs.length≤1000∧H dx=some (.own a):=by
 obtain ⟨d,z,ne,ob,mA,n,r,q⟩:=(show aW P w H h a (.ins C dx fs) from hok a _ e)
 exact ⟨mA,⟨ob,n,ne⟩,r,q,z,d⟩
end
structure nj (K:PySem.W.Frag) (C:Addr):Prop where
 pg:PySem.W.plainGet K C Str.empty=true
 hd:PySem.W.hasDictIn K C=true
 po:PySem.W.plainOver K C=true
 sa:PySem.W.findIn K (.ref C) "__setattr__" = some (some (.builtin "object.__setattr__"))
theorem nj.get {K:PySem.W.Frag}{C:Addr} (c:nj K C) (f:Str):PySem.W.plainGet K C f=true:=c.pg
def kJ (K:PySem.W.Frag) (C:Addr) (f:Str):Prop:=PySem.W.findIn K (.ref C) f=some none
theorem kJ.taker {K:PySem.W.Frag}{C:Addr}{f:Str} (n:kJ K C f):PySem.W.takerIn K C f=some none:=by
 unfold PySem.W.takerIn
 rw [show PySem.W.findIn K (.ref C) f=some none from n]
 rfl
structure gD (K:PySem.W.Frag) (C:Addr) (m:Str) (f:Addr):Prop where
 at_:PySem.W.findIn K (.ref C) m=some (some (.ref f))
 fn:PySem.W.isFn K (.ref f)=true
 kp:PySem.W.keepIn K (.ref f)=true
section
variable {X:Cx}{pins:List (Addr×Obj)}{σ:St}{H:Hp}{s:Shared}{a C dx:Addr}{fs:List (Str×V)}{f:Str}{v:V}{A:Around}{E:Value→Shared→Prop}
theorem vQ {b:Bool}{Q:Value→Shared→Prop} (I:ac X pins σ H s) (e:H a=some (.ins C dx fs)) (c:nj X.K C) (n:kJ X.K C f) (l:fs.lookup f=some v)
 (h:∀u s',ac X pins σ H s'→aN v u→Q u s'):wpAny (model X.prog X.w) A (getAttr (.ref a) f b) Q E s:=by
 obtain ⟨mA,O,r,_,_,_⟩:=oU I.hok e
 obtain ⟨u,hu,ru⟩:=jh.some_of (v:=v) (o:=mA f) (by rw [←l];exact r f)
 exact Ax I.kIn O (c.get f) c.hd n hu (xa ru) (h u _ (I.tok _) ru)
theorem qh {m:Str}{g:Addr}{pl:Sem Bool}{Q:Value×List Value→Shared→Prop} (I:ac X pins σ H s) (e:H a=some (.ins C dx fs)) (c:nj X.K C) (k:gD X.K C m g) (l:fs.lookup m=none)
 (h:Q (.ref g,[.ref a]) s):wpAny (model X.prog X.w) A (getMethod (.ref a) m pl) Q E s:=by
 obtain ⟨mA,O,r,_,_,_⟩:=oU I.hok e
 have hn:mA m=none:=jh.none_of (by rw [←l];exact r m)
 exact zu I.kIn O (c.get m) k.at_ k.fn hn h
theorem wP {y:V}{u:Value}{Q:Unit→Shared→Prop} (I:ac X pins σ H s) (e:H a=some (.ins C dx fs)) (c:nj X.K C) (n:kJ X.K C f) (hl:fs.length<1000) (ry:aN y u)
 (h:∀s',ac X pins σ (aC H a (.ins C dx (gB f y fs))) s'→Q () s'):wpAny (model X.prog X.w) A (setAttr (.ref a) f u) Q E s:=by
 obtain ⟨mA,O,r,wi,_,ho⟩:=oU I.hok e
 have hz:(fs.map (·.1)).length≤sizeLine:=by rw [List.length_map,sizeLine_eq];trivial
 refine Aw I.kIn O c.sa c.po n.taker c.hd wi hz fun h' O' sb=>h _ ?_
 have hd:∃o,h'.get? dx=some o:=let ⟨o,_,_,e',_⟩:=O'.ns;⟨o,e'⟩
 refine I.write (x:=a) (e:=dx) (by rw [e];exact True.intro) (.inr ho) (fun b q hb z=>(sb.2 b hb).trans z) hd ?_
 refine ⟨by rw [ag O.ne];exact ho,?_,O.ne,O'.obj,_,O'.ns,fun g=>?_,fun g hg=>?_⟩
 ·have:=pB f y fs;trivial
 ·show jh ((gB f y fs).lookup g) (if g=f then some u else mA g)
  rw [pC]
  by_cases q:g=f
  ·rw [if_pos q,if_pos q];exact ry
  ·rw [if_neg q,if_neg q];exact r g
 ·by_cases q:g=f
  ·rw [q];exact (nO f y fs).1
  ·refine (nO f y fs).2 g (wi g fun z=>hg ?_)
   show (if g=f then some u else mA g)=none
   rw [if_neg q];exact z
theorem ac.made (I:ac X pins σ H s):ac X pins σ (aC (aC H s.heap.objs.size (.own (s.heap.objs.size+1))) (s.heap.objs.size+1) (.ins C s.heap.objs.size []))
 { s with heap:=(s.heap.push PySem.W.emptyDict).push (PySem.W.instObj C s.heap.objs.size) }:=by
 have e1:(s.heap.push PySem.W.emptyDict).get? s.heap.objs.size=some PySem.W.emptyDict:=Heap.get?_push_size s.heap rfl
 have e2:((s.heap.push PySem.W.emptyDict).push (PySem.W.instObj C s.heap.objs.size)).get? (s.heap.objs.size+1)=some (PySem.W.instObj C s.heap.objs.size):=by
  have:=Heap.get?_push_size (s.heap.push PySem.W.emptyDict) (o:=PySem.W.instObj C s.heap.objs.size) rfl
  rwa [Heap.size_push] at this
 have e3:(s.heap.push PySem.W.emptyDict).Ns s.heap.objs.size (fun _=>none):=⟨PySem.W.emptyDict,#[],_,e1,rfl,(fun e he=>absurd he (by simp)),fun _=>rfl⟩
 have I1:=I.laid (a:=s.heap.objs.size) (o:=.own (s.heap.objs.size+1)) (h':=s.heap.push PySem.W.emptyDict) (t':=s.toks) (fun b u q=>Heap.get?_push_of_some _ q) (Nat.le_refl _) ⟨_,e1⟩
 refine I1.laid (a:=s.heap.objs.size+1) (o:=.ins C s.heap.objs.size []) (t':=s.toks) (fun b u q=>Heap.get?_push_of_some _ q) (Nat.le_of_eq (Heap.size_push _ _)) ?_
 have ne:s.heap.objs.size≠s.heap.objs.size+1:=Nat.ne_of_lt (Nat.lt_succ_self _)
 refine ⟨by rw [ag ne,aD],Nat.zero_le _,ne,e2,fun _=>none,(Heap.Ns1.of_empty e3).at fun o q=>Heap.get?_push_of_some _ q,fun _=>True.intro,fun y hy=>absurd rfl hy⟩
theorem AD {prog:Program}{w:World}{env:Env}{e:Expr}{f:Str}{pos:Pos}{s:Shared}{Q:Value→Shared→Prop} (hb:attributeBase e f env (eval e env)=eval e env)
 (h:wpAny (model prog w) A (eval e env) (fun o s₁=>wpAny (model prog w) A (getAttr o f true) Q E s₁) E s):wpAny (model prog w) A (eval (.Attribute e f pos) env) Q E s:=
 Attribute_any_ h (by rw [arm_eval_Attribute,hb])
end
def E5 (K:PySem.W.Frag) (ta:TE) (f:Str):TE:=fun σ H Q=>ta σ H fun x H1=>xu fun a C dx fs v=>x=.ref a∧H1 a=some (.ins C dx fs)∧nj K C∧kJ K C f∧fs.lookup f=some v∧Q v H1
section
variable {X:Cx}{o e value:Expr}{f:Str}{pos pos' tpos:Pos}{ta tv:TE}
theorem e7 (he:PE X e ta) (hb:attributeBase e f X.env (eval e X.env)=eval e X.env):PE X (.Attribute e f pos) (E5 X.K ta f):=by
 intro pins s σ H Q I h
 refine AD hb (aH (he pins s σ H _ I h) fun u s1 ⟨x,H1,I1,rx,a,C,dx,fs,v,ex,ea,c,n,l,q⟩=>?_)
 subst ex
 obtain rfl:u=Value.ref a:=rx
 exact vQ I1 ea c n l fun u' s2 I2 ru=>⟨v,H1,I2,ru,q⟩
end
section
variable {X:Cx}{pins:List (Addr×Obj)}{σ:St}{H:Hp}{s:Shared}{A:Around}{E:Value→Shared→Prop}{Q:Value→Shared→Prop}{c:Value}{b:Bool}
inductive ij (K:PySem.W.Frag) (H:Hp):V→Value→Prop where
 | non:ij K H .non (.type "NoneType")
 | bl (x:Bool):ij K H (.bl x) (.type "bool")
 | int (i:Int):ij K H (.int i) (.type "int")
 | str (x:Str):ij K H (.str x) (.type "str")
 | flt (x:UInt64):ij K H (.flt x) (.type "float")
 | lst {a:Addr}{xs:List V} (e:H a=some (.lst xs)):ij K H (.ref a) (.type "list")
 | frz {a:Addr}{o:Obj}{xs:List V} (e:H a=some (.frz o (.lst xs))):ij K H (.ref a) (.type "list")
 | tup {a:Addr}{xs:List V} (e:H a=some (.tup xs)):ij K H (.ref a) (.type "tuple")
 | dK {a:Addr}{kvs:List (aA×V)} (e:H a=some (.dK kvs)):ij K H (.ref a) (.type "dict")
 | dT {a:Addr}{kvs:List (List aA×V)} (e:H a=some (.dT kvs)):ij K H (.ref a) (.type "dict")
 | ins {a C dx:Addr}{fs:List (Str×V)} (e:H a=some (.ins C dx fs)) (cl:nj K C) (ha:PySem.W.findIn K (.ref C) "__class__" = some (some (.builtin "object.__class__")))
  (hn:PySem.W.specialIn K (.builtin "object.__class__") "__get__" = some (some (.builtin "getset_descriptor.__get__"))) (htk:PySem.W.takesIn K (.builtin "object.__class__")=some true)
  (hm:PySem.W.mroIn K C (.type "object")=some true):ij K H (.ref a) (.ref C)
theorem xI {x:V}{u t:Value} (I:ac X pins σ H s) (rx:aN x u) (ty:ij X.K H x t) (e:PySem.W.kitOne X.K t c=some b) (h:∀tk,Q (.bool b) { s with toks:=tk }) :
 wpAny (model X.prog X.w) A (call (.builtin "isinstance") [u,c]) Q E s:=by
 cases ty with
 | non=>cases (show u=Value.none from rx);exact PySem.W.kia_one PySem.W.kitx_none I.kIn True.intro e (fun z=>nomatch z) h
 | bl y=>cases (show u=Value.bool y from rx);exact PySem.W.kia_one PySem.W.kitx_bool I.kIn True.intro e (fun z=>nomatch z) h
 | int i=>obtain ⟨t,q⟩:=(show ∃t,u=Value.int i t from rx);cases q;exact PySem.W.kia_one PySem.W.kitx_int I.kIn True.intro e (fun z=>nomatch z) h
 | str y=>obtain ⟨t,q⟩:=(show ∃t,u=Value.str y t from rx);cases q;exact PySem.W.kia_one PySem.W.kitx_str I.kIn True.intro e (fun z=>nomatch z) h
 | flt y=>obtain ⟨t,q⟩:=(show ∃t,u=Value.float y t from rx);cases q;exact PySem.W.kia_one PySem.W.kitx_float I.kIn True.intro e (fun z=>nomatch z) h
 | @lst a xs ea=>
  cases (show u=Value.ref a from rx)
  obtain ⟨_,_,n,_,h1⟩:=(show aW X.prog X.w H s.heap a (.lst xs) from I.hok a _ ea)
  exact PySem.W.kia_one PySem.W.kitx_list I.kIn ⟨_,h1,rfl⟩ e (fun z=>nomatch z) h
 | @frz a ob xs ea=>
  cases (show u=Value.ref a from rx)
  obtain ⟨_,_,_,n,_,h1⟩:=(show aW X.prog X.w H s.heap a (.frz ob (.lst xs)) from I.hok a _ ea)
  exact PySem.W.kia_one PySem.W.kitx_list I.kIn ⟨_,h1,rfl⟩ e (fun z=>nomatch z) h
 | @tup a xs ea=>
  cases (show u=Value.ref a from rx)
  obtain ⟨_,_,_,p,_⟩:=(show aW X.prog X.w H s.heap a (.tup xs) from I.hok a _ ea)
  obtain ⟨o,h1,h2,_⟩:=p
  exact PySem.W.kia_one PySem.W.kitx_tuple I.kIn ⟨o,h1,h2⟩ e (fun z=>nomatch z) h
 | @dK a kvs ea=>
  cases (show u=Value.ref a from rx)
  obtain ⟨_,_,vs,_,p⟩:=(show aW X.prog X.w H s.heap a (.dK kvs) from I.hok a _ ea)
  obtain ⟨o,es,ep,h1,h2,_⟩:=p
  exact PySem.W.kia_one PySem.W.kitx_dict I.kIn ⟨o,h1,h2.1⟩ e (fun z=>nomatch z) h
 | @dT a kvs ea=>
  cases (show u=Value.ref a from rx)
  obtain ⟨_,_,xs,_,o,es,ep,h1,h2,_⟩:=(show aW X.prog X.w H s.heap a (.dT kvs) from I.hok a _ ea)
  exact PySem.W.kia_one PySem.W.kitx_dict I.kIn ⟨o,h1,h2.1⟩ e (fun z=>nomatch z) h
 | @ins a C dx fs ea cl ha hn htk hm=>
  cases (show u=Value.ref a from rx)
  obtain ⟨mA,O,_⟩:=oU I.hok ea
  obtain ⟨od,J,_⟩:=O.look
  exact PySem.W.kia_one (PySem.W.kitx_own (cl.get _) cl.hd ha hn htk hm) I.kIn J e (fun z=>nomatch z) h
end
structure bR (k:Nat) (A:Around):Prop where
 hd:A.handled=none
 dp:A.depth+3*k+5<recursionLimit
 un:A.units+16*k+200<cLine
 gd:A.guards=some []
theorem bR.mono {j k:Nat}{A:Around} (r:bR k A) (h:j≤k):bR j A:=⟨r.hd,by have:=r.dp;trivial,by have:=r.un;trivial,r.gd⟩
theorem bR.deeper {k:Nat}{A:Around} (r:bR (k+1) A) (env:Env):bR k (A.deeper env):=
 ⟨r.hd,by have:=r.dp;show A.depth+1+3*k+5<_;trivial,by have:=r.un;show A.units+3+16*k+200<_;trivial,r.gd⟩
theorem vP {A:Around}{C:Addr}{us:List Value}{kw:List (Str×Value)}:(A.under (.builtin "type.__call__" ⟨.ref C :: us,kw⟩)).depth=A.depth+1:=by
 first | rfl | simp [Around.under,Code.weight,Code.isCreation,Code.isGuard,Code.isCaller,Code.frames,Code.isFrame,guardIds]
theorem wn {A:Around}{C:Addr}{us:List Value}{kw:List (Str×Value)}:(A.under (.builtin "type.__call__" ⟨.ref C :: us,kw⟩)).units=A.units+1:=by
 first | rfl | simp [Around.under,Code.cUnits,Code.frames,Code.isFrame]
theorem bR.make {k:Nat}{A:Around} (r:bR (k+1) A) (C:Addr) (us:List Value) (kw:List (Str×Value)):bR k (A.under (.builtin "type.__call__" ⟨.ref C :: us,kw⟩)):=
 ⟨r.hd,by have:=r.dp;rw [vP];trivial,by have:=r.un;rw [wn];trivial,r.gd⟩
theorem bR.depth {k:Nat}{A:Around} (r:bR k A):A.depth<recursionLimit:=by have:=r.dp;trivial
theorem bR.units {k:Nat}{A:Around} (r:bR k A):A.units+64<cLine:=by have:=r.un;trivial
def zt:TA:=fun _ H Q=>Q [] H
def zZ (ta:TE) (tr:TA):TA:=fun σ H Q=>ta σ H fun x H1=>tr σ H1 fun xs H2=>Q (x :: xs) H2
section
variable {X:Cx}{e:Expr}{es:List Expr}{te:TE}{t:TA}{pos:Pos}
theorem cw:PA X [] zt:=fun _ _ _ _ H Q I h=>Calls.spliced_nil ⟨[],H,I,.nil,h⟩
theorem cO (ha:PE X e te) (hr:PA X es t) (hs:starEach (e :: es) X.env=(false,eval e X.env) :: starEach es X.env:=by rfl):PA X (e :: es) (zZ te t):=by
 intro pos pins s σ H Q I h
 rw [hs]
 show wpAny _ _ (spliced ((false,eval e X.env) :: backTo pos (starEach es X.env))) _ _ s
 refine Calls.spliced_cons (aH (ha pins s σ H _ I h) fun u s1 ⟨x,H1,I1,r1,q1⟩=>?_)
 exact aH (hr pos pins s1 σ H1 _ I1 q1) fun us s2 ⟨xs,H2,I2,r2,q2⟩=>⟨x :: xs,H2,I2,.cons r1 r2,q2⟩
def FG (t:TA):TE:=fun σ H Q=>t σ H fun xs H1=>xs.length≤sizeLine∧∀p,H1 p=none→Q (.ref p) (aC H1 p (.lst xs))
theorem Cr (h:PA X es t):PE X (.List es pos) (FG t):=by
 intro pins s σ H Q I hq
 refine wpAny_List_spliced (aH (h pos pins s σ H _ I hq) fun us s1 ⟨xs,H1,I1,r,z,q⟩=>⟨by rw [←r.length];exact z,?_⟩)
 have hf:H1 s1.heap.objs.size=none:=I1.hok.fresh (Nat.le_refl _)
 refine ⟨.ref s1.heap.objs.size,aC H1 s1.heap.objs.size (.lst xs),I1.laid (t':=s1.toks) (fun b u e=>Heap.get?_push_of_some _ e) (Nat.le_refl _) ?_,rfl,q _ hf⟩
 exact ⟨z,us,0,r,Heap.get?_push_size _ rfl⟩
end
abbrev Sp:=List V→Hp→VK→XK→Prop
abbrev jx:=List Env→Hp→Shared→XK→Value→Shared→Prop
structure pI (P:Program) (w:World) (K:PySem.W.Frag) (mg:Str→Option Value) (base:Heap) (A:Around) (outer:List Env) (s:Shared) (H:Hp):Prop where
 frames:A.frames=some outer
 mod:Mod K mg base
 bs:∀b o,base.get? b=some o→s.heap.get? b=some o∧H b=none
 bsz:base.objs.size≤s.heap.objs.size
 funs:s.heap.FunFrames base outer
 frf:∀b∈gT outer,H b=none
 hok:cN P w H s.heap
 bare:AllBare s.gens
def CE (outer:List Env) (P:Program) (w:World) (H:Hp) (s:Shared) (Q:VK) (u:Value) (s':Shared):Prop:=
 bh fun v H'=>s'.os=s.os∧AllBare s'.gens∧Un (gT outer) [] H H' s.heap s'.heap∧cN P w H' s'.heap∧aN v u∧Q v H'
def CR (CX:jx) (outer:List Env) (P:Program) (w:World) (H:Hp) (s:Shared) (Q:VK) (E:XK) (r:Result) (s':Shared):Prop:=
 match r with
 | .ok (.ret u)=>CE outer P w H s Q u s'
 | .ok _=>False
 | .error e=>CX outer H s E e s'
structure aT (P:Program) (w:World) (K:PySem.W.Frag) (mg:Str→Option Value) (base:Heap) (CX:jx) (k:Nat) (f:Addr) (fd:FuncData) (ps:List Str) (sp:Sp):Prop where
 len:∀vs H Q E,sp vs H Q E→vs.length=ps.length
 run:∀(A:Around) (outer:List Env) (s:Shared) (H:Hp) (args:Args) (us:List Value) (vs:List V) (Q:VK) (E:XK),bR k A→pI P w K mg base A outer s H→BindsTo s fd args (ps.zip us)→ar vs us→sp vs H Q E→
  codeAny (model P w) A (.call (.ref f) args) (CR CX outer P w H s Q E) s
theorem pI.make {P:Program}{w:World}{K:PySem.W.Frag}{mg:Str→Option Value}{base:Heap}{A:Around}{outer:List Env}{s:Shared}{H:Hp} (e:pI P w K mg base A outer s H) (C:Addr) (us:List Value) (kw:List (Str×Value)) :
 pI P w K mg base (A.under (.builtin "type.__call__" ⟨.ref C :: us,kw⟩)) outer s H:=⟨by first | exact e.frames | (simpa [Around.under,Code.envs,Code.isFrame,pushEnvs] using e.frames),e.mod,e.bs,e.bsz,e.funs,e.frf,e.hok,e.bare⟩
section
variable {X:Cx}{pins:List (Addr×Obj)}{σ:St}{H:Hp}{s s':Shared}
theorem ac.env0 (I:ac X pins σ H s):pI X.prog X.w X.K X.mg X.base X.A X.stack s H:=
 ⟨I.ok.frames,I.ok.mod,I.bs,Nat.le_trans I.ok.bsz I.sz,I.stack,I.stkFree,I.hok,I.bare⟩
theorem ac.after {Q:VK}{u:Value} (I:ac X pins σ H s) (h:CE X.stack X.prog X.w H s Q u s'):EP X pins σ Q u s':=by
 obtain ⟨v,H',os,bare,un,hok,r,q⟩:=h
 obtain ⟨hh,g,d,t,os'⟩:=s'
 obtain rfl:os'=s.os:=os
 exact ⟨v,H',I.call (h':=hh) (g':=g) (d':=d) (t':=t) (ch:=[]) un hok bare (fun b z=>absurd z (by simp)),r,q⟩
end
def Ex (sp:Sp) (dvs:List V) (E:XK) (t:TA):TE:=fun σ H Q=>t σ H fun vs H1=>sp (vs++dvs) H1 Q E
def zQ (C:Addr) (m:Str) (sp:Sp) (dvs:List V) (E:XK) (ta:TE) (t:TA):TE:=fun σ H Q=>ta σ H fun x H1=>kF fun a dx fs=>x=.ref a∧H1 a=some (.ins C dx fs)∧fs.lookup m=none∧
 t σ H1 fun vs H2=>sp (x :: (vs++dvs)) H2 Q E
def Ev (C:Addr) (sp:Sp) (dvs:List V) (E:XK) (t:TA):TE:=fun σ H Q=>t σ H fun vs H1=>∀x dx,H1 x=none→H1 dx=none→dx≠x→
 sp (.ref x :: (vs++dvs)) (aC (aC H1 dx (.own x)) x (.ins C dx [])) (fun v H2=>v=.non∧Q (.ref x) H2) E
def bP (K:PySem.W.Frag) (fd:FuncData) (ps:List Str) (ds:List Value):Prop:=
 ∀(s:Shared) (us:List Value),K.In s.heap→(us++ds).length=ps.length→BindsTo s fd ⟨us,[]⟩ (ps.zip (us++ds))
theorem bP.all {K:PySem.W.Frag}{fd:FuncData}{ps:List Str} (h:∀us:List Value,us.length=ps.length→bindArgs fd ⟨us,[]⟩=pure (ps.zip us)):bP K fd ps []:=fun s us _ hl=>by
 rw [List.append_nil] at hl ⊢
 exact .of_eq (h us hl)
def gQ (CX:jx) (X:Cx) (E:XK):Prop:=∀(pins:List (Addr×Obj)) (σ:St) (H:Hp) (s:Shared) (e:Value) (s':Shared),ac X pins σ H s→CX X.stack H s E e s'→X.xe e s'
section
variable {X:Cx}{CX:jx}{k:Nat}{f C:Addr}{fd:FuncData}{ps:List Str}{sp:Sp}{dvs:List V}{ds:List Value}{E:XK}{x m:Str}{p pos apos:Pos}{e o:Expr}{es:List Expr}{ta:TE}{t:TA}
theorem sY {pins:List (Addr×Obj)}{σ:St}{H:Hp}{s:Shared}{Q:VK}{us:List Value}{vs:List V} (F:aT X.prog X.w X.K X.mg X.base CX k f fd ps sp) (hr:bR k X.A) (hb:bP X.K fd ps ds) (hd:ar dvs ds) (hx:gQ CX X E)
 (I:ac X pins σ H s) (r:ar vs us) (h:sp (vs++dvs) H Q E):wpAny (model X.prog X.w) X.A (call (.ref f) us) (EP X pins σ Q) X.xe s:=by
 have r2:ar (vs++dvs) (us++ds):=r.append hd
 have hl:(us++ds).length=ps.length:=by rw [←r2.length];exact F.len _ _ _ _ h
 refine wpAny_call (codeAny_mono (F.run X.A X.stack s H ⟨us,[]⟩ (us++ds) (vs++dvs) Q E hr I.env0 (hb s us I.kIn hl) r2 h) fun r s' hq=>?_)
 cases r with
 | error e=>exact hx pins σ H s e s' I hq
 | ok fl=>
  cases fl with
  | ret u=>exact I.after hq
  | next=>exact False.elim hq
  | brk=>exact False.elim hq
  | cont=>exact False.elim hq
theorem ke (F:aT X.prog X.w X.K X.mg X.base CX k f fd ps sp) (hr:bR k X.A) (hg:Gl X x) (hm:X.mg x=some (.ref f)) (hk:PySem.W.keepIn X.K (.ref f)=true) (hb:bP X.K fd ps ds) (hd:ar dvs ds) (hx:gQ CX X E)
 (ha:PA X (e :: es) t) (hdb:(x==("__debug__" : Str))=false:=by decide) (he:starEach (e :: es) X.env=(false,eval e X.env) :: starEach es X.env:=by rfl) (hpl:(backTo pos (starEach es X.env)).any (·.1)=false:=by rfl) :
 PE X (.Call (.Name x p) (e :: es) [] pos) (Ex sp dvs E t):=by
 intro pins s σ H Q I h
 refine wpAny_Call_Name_kw (rs I hg hm ?_ hdb)
 refine PySem.W.callWith_K (h₀:=X.base) I.ok.mod.kin hk (aH (ha pos pins s σ H _ I h) fun us s1 ⟨vs,H1,I1,r,q⟩=>⟨I1.kIn,?_⟩) he hpl
 exact sY F hr hb hd hx I1 r q
theorem fX {pl:Sem Bool} (he:PE X o ta) (c:nj X.K C) (hm:gD X.K C m f) (F:aT X.prog X.w X.K X.mg X.base CX k f fd ps sp) (hr:bR k X.A) (hb:bP X.K fd ps ds) (hd:ar dvs ds) (hx:gQ CX X E) (ha:PA X (e :: es) t)
 (hst:starEach (e :: es) X.env=(false,eval e X.env) :: starEach es X.env:=by rfl) (hpl:(backTo pos (starEach es X.env)).any (·.1)=false:=by rfl)
 (ht:eval (.Call (.Attribute o m apos) (e :: es) [] pos) X.env=(do
  let ov ←eval o X.env
  standAt apos.atName
  let (f,first) ←holding [ov] (getMethod ov m pl)
  callWith pos f first (backTo pos (starEach (e :: es) X.env)) (backToKw pos (keywordEach [] X.env))):=by rfl) :
 PE X (.Call (.Attribute o m apos) (e :: es) [] pos) (zQ C m sp dvs E ta t):=by
 intro pins s σ H Q I h
 refine PySem.W.methodCall_KW (pl:=pl) (aH (he pins s σ H _ I h) fun u s1 ⟨x,H1,I1,rx,a,dx,fs,ex,ea,l,q⟩=>?_) ht
 subst ex
 obtain rfl:u=Value.ref a:=rx
 refine qh I1 ea c hm l ?_
 refine PySem.W.callWith_K (first:=[.ref a]) (h₀:=X.base) I.ok.mod.kin hm.kp (aH (ha pos pins s1 σ H1 _ I1 q) fun us s2 ⟨vs,H2,I2,r,q2⟩=>⟨I2.kIn,?_⟩) hst hpl
 exact sY (us:=.ref a :: us) (vs:=.ref a :: vs) F hr hb hd hx I2 (.cons rfl r) q2
theorem cU {pl:Sem Bool} (he:PE X o ta) (c:nj X.K C) (hm:gD X.K C m f) (F:aT X.prog X.w X.K X.mg X.base CX k f fd ps sp) (hr:bR k X.A) (hb:bP X.K fd ps ds) (hd:ar dvs ds) (hx:gQ CX X E)
 (ht:eval (.Call (.Attribute o m apos) [] [] pos) X.env=(do
  let ov ←eval o X.env
  standAt apos.atName
  let (f,first) ←holding [ov] (getMethod ov m pl)
  callWith pos f first (backTo pos (starEach [] X.env)) (backToKw pos (keywordEach [] X.env))):=by rfl) :
 PE X (.Call (.Attribute o m apos) [] [] pos) (zQ C m sp dvs E ta zt):=by
 intro pins s σ H Q I h
 refine PySem.W.methodCall_KW (pl:=pl) (aH (he pins s σ H _ I h) fun u s1 ⟨x,H1,I1,rx,a,dx,fs,ex,ea,l,q⟩=>?_) ht
 subst ex
 obtain rfl:u=Value.ref a:=rx
 refine qh I1 ea c hm l ?_
 exact PySem.W.callWith_K0 (first:=[.ref a]) I1.kIn hm.kp (sY (us:=[.ref a]) (vs:=[.ref a]) F hr hb hd hx I1 (.cons rfl .nil) q)
structure Mk (K:PySem.W.Frag) (C f:Addr):Prop where
 makes:PySem.W.makesIn K C=true
 init:PySem.W.findIn K (.ref C) "__init__" = some (some (.ref f))
 fn:PySem.W.isFn K (.ref f)=true
 kp:PySem.W.keepIn K (.ref C)=true
theorem yL {pins:List (Addr×Obj)}{σ:St}{H:Hp}{s:Shared}{Q:VK}{us:List Value}{vs:List V} (M:Mk X.K C f) (F:aT X.prog X.w X.K X.mg X.base CX k f fd ps sp) (hr:bR (k+1) X.A) (hb:bP X.K fd ps ds) (hd:ar dvs ds)
 (hx:gQ CX X E) (I:ac X pins σ H s) (r:ar vs us)
 (h:∀x dx,H x=none→H dx=none→dx≠x→sp (.ref x :: (vs++dvs)) (aC (aC H dx (.own x)) x (.ins C dx [])) (fun v H2=>v=.non∧Q (.ref x) H2) E) :
 wpAny (model X.prog X.w) X.A (call (.ref C) us) (EP X pins σ Q) X.xe s:=by
 have hq:=h (s.heap.objs.size+1) s.heap.objs.size (I.hok.fresh (Nat.le_succ _)) (I.hok.fresh (Nat.le_refl _)) (Nat.ne_of_lt (Nat.lt_succ_self _))
 have I2:=ac.made (C:=C) I
 have r2:ar (V.ref (s.heap.objs.size+1) :: (vs++dvs)) (Value.ref (s.heap.objs.size+1) :: (us++ds)):=.cons rfl (r.append hd)
 have hl:(Value.ref (s.heap.objs.size+1) :: us++ds).length=ps.length:=by
  have e:=r2.length
  rw [F.len _ _ _ _ hq] at e
  exact e.symm
 refine wpAny_call (yD (f:=f) I.kIn M.makes M.init (beq_iff_eq.mp M.fn) (codeAny_mono (F.run _ X.stack _ _ ⟨Value.ref (s.heap.objs.size+1) :: us,[]⟩ (Value.ref (s.heap.objs.size+1) :: (us++ds)) _ _ E (hr.make C us [])
  (I2.env0.make C us []) (hb _ (Value.ref (s.heap.objs.size+1) :: us) I2.kIn hl) r2 hq) fun r s' hq'=>?_))
 cases r with
 | error e=>exact hx pins σ _ _ e s' I2 hq'
 | ok fl=>
  cases fl with
  | ret u=>
   obtain ⟨v,H',I3,rv,ev,q3⟩:=I2.after hq'
   subst ev
   exact ⟨rv,⟨V.ref (s.heap.objs.size+1),H',I3,rfl,q3⟩⟩
  | next=>exact False.elim hq'
  | brk=>exact False.elim hq'
  | cont=>exact False.elim hq'
theorem yH (M:Mk X.K C f) (F:aT X.prog X.w X.K X.mg X.base CX k f fd ps sp) (hr:bR (k+1) X.A) (hg:Gl X x) (hm:X.mg x=some (.ref C)) (hb:bP X.K fd ps ds) (hd:ar dvs ds) (hx:gQ CX X E)
 (hdb:(x==("__debug__" : Str))=false:=by decide):PE X (.Call (.Name x p) [] [] pos) (Ev C sp dvs E zt):=by
 intro pins s σ H Q I h
 refine wpAny_Call_Name_kw (rs I hg hm ?_ hdb)
 exact PySem.W.callWith_K0 I.kIn M.kp (yL (us:=[]) M F hr hb hd hx I .nil h)
end
section
variable {X:Cx}{CX:jx}{k:Nat}{f C:Addr}{fd:FuncData}{ps ks:List Str}{sp:Sp}{E:XK}{x m:Str}{p pos apos kpos:Pos}{e o:Expr}{es:List Expr}{kws:List Keyword}{te ta:TE}{t tk:TA}{nm:Option Str}
variable {g:List Value→List Value→List Value}{gV:List V→List V→List V}
end
structure av (N P:List Str) (sc:Scope):Prop where
 kind:sc.kind=.function
 co:sc.isCoroutine=false
 gen:sc.isGenerator=false
 nd:N.Nodup
 pre:N.take P.length=P
 par:∀x∈P,sc.names.lookup x=some .local∨sc.names.lookup x=some .cell
 nofree:∀y∈sc.names,y.2≠.free
theorem rP {kindOf:Str→Option NameKind}{x:Str}:∀{binds:List (Str×Value)}{m:Str→Option Value},(∀v,(x,v)∉binds)→bindL kindOf binds m x=m x
 | [],_,_=>rfl
 | (n,v) :: r,m,h=>by
  unfold bindL
  rw [rP fun w hw=>h w (List.mem_cons_of_mem _ hw)]
  split
  ·have:x≠n:=by rintro rfl;exact h v List.mem_cons_self
   simp [this]
  ·rfl
theorem ss {kindOf:Str→Option NameKind}{x:Str}:∀{binds:List (Str×Value)}{m:Str→Option Value},(∀v,(x,v)∉binds)→bindC kindOf binds m x=m x
 | [],_,_=>rfl
 | (n,v) :: r,m,h=>by
  unfold bindC
  rw [ss fun w hw=>h w (List.mem_cons_of_mem _ hw)]
  split
  ·rfl
  ·have:x≠n:=by rintro rfl;exact h v List.mem_cons_self
   simp [this]
theorem rO {kindOf:Str→Option NameKind}{x:Str}{v:Value}:∀{P:List Str}{vs:List Value}{i:Nat}{m:Str→Option Value},P.Nodup→P[i]?=some x→vs[i]?=some v→kindOf x=some .local→
 bindL kindOf (P.zip vs) m x=some v
 | [],_,_,_,_,h,_,_=>by simp at h
 | _ :: _,[],_,_,_,_,h,_=>by simp at h
 | p :: P,w :: vs,0,m,nd,h1,h2,hk=>by
  simp at h1 h2;subst h1;subst h2
  show bindL kindOf ((p,w) :: P.zip vs) m p=_
  unfold bindL
  rw [rP fun v hv=>(List.nodup_cons.mp nd).1 (List.of_mem_zip hv).1,if_pos hk]
  simp
 | p :: P,w :: vs,i+1,m,nd,h1,h2,hk=>by
  show bindL kindOf ((p,w) :: P.zip vs) m x=_
  unfold bindL
  exact rO (i:=i) (List.nodup_cons.mp nd).2 (by simpa using h1) (by simpa using h2) hk
theorem rJ {kindOf:Str→Option NameKind}{x:Str}{v:Value}:∀{P:List Str}{vs:List Value}{i:Nat}{m:Str→Option Value},P.Nodup→P[i]?=some x→vs[i]?=some v→kindOf x≠some .local→
 bindC kindOf (P.zip vs) m x=some v
 | [],_,_,_,_,h,_,_=>by simp at h
 | _ :: _,[],_,_,_,_,h,_=>by simp at h
 | p :: P,w :: vs,0,m,nd,h1,h2,hk=>by
  simp at h1 h2;subst h1;subst h2
  show bindC kindOf ((p,w) :: P.zip vs) m p=_
  unfold bindC
  rw [ss fun v hv=>(List.nodup_cons.mp nd).1 (List.of_mem_zip hv).1,if_neg hk]
  simp
 | p :: P,w :: vs,i+1,m,nd,h1,h2,hk=>by
  show bindC kindOf ((p,w) :: P.zip vs) m x=_
  unfold bindC
  exact rJ (i:=i) (List.nodup_cons.mp nd).2 (by simpa using h1) (by simpa using h2) hk
def j5 (N:List Str) (vs:List V):St:=vs.map some++List.replicate (N.length - vs.length) none
def mM (CX:jx) (P:Program) (w:World) (K:PySem.W.Frag) (mg:Str→Option Value) (base:Heap) (N:List Str) (qual:Str) (scope:Scope) (f:Addr) (cd:Value) (A:Around) (outer:List Env) (s:Shared) (H:Hp) (E:XK):Cx where
 prog:=P
 w:=w
 K:=K
 mg:=mg
 base:=base
 A:=A.deeper (envOfC qual scope s.heap.objs.size f cd)
 N:=N
 s₀:=s
 H₀:=H
 env:=envOfC qual scope s.heap.objs.size f cd
 outer:=outer
 stack:=envOfC qual scope s.heap.objs.size f cd :: outer
 ex:=[]
 calm:=true
 fn:=fun _=>true
 pn:=[]
 xe:=fun e s'=>wpAny (model P w) (A.deeper (envOfC qual scope s.heap.objs.size f cd)) (leaving (envOfC qual scope s.heap.objs.size f cd) e) (fun _ s''=>CX outer H s E e s'') (fun e' s''=>CX outer H s E e' s'') s'
theorem tG {sc:Scope}{n:Nat}{x:Str} (h:sc.names.lookup x=some .cell):∃c,(cellsFrom n sc.names []).lookup x=some c:=by
 have q:=PySem.W.cellsFrom_some sc.names n [] (.inl h)
 exact Option.isSome_iff_exists.mp q
theorem xq {CX:jx}{P:Program}{w:World}{K:PySem.W.Frag}{mg:Str→Option Value}{base:Heap}{N ps:List Str}{qual:Str}{scope:Scope}{f:Addr}{cd:Value}{A:Around}{outer:List Env}{s s1:Shared}{H:Hp}{E:XK}{us:List Value}{vs:List V}
 (S:av N ps scope) (hd:A.handled=none) (e0:pI P w K mg base A outer s H) (hl:vs.length=ps.length) (r:ar vs us)
 (x:InCallC s s.heap.objs.size (bindL (envOfC qual scope s.heap.objs.size f cd).kindOf (ps.zip us) fun _=>none) (cellsFrom (s.heap.objs.size+1) scope.names []) (bindC (envOfC qual scope s.heap.objs.size f cd).kindOf (ps.zip us) fun _=>none) s1) :
 ac (mM CX P w K mg base N qual scope f cd A outer s H E) [] (j5 N vs) H s1:=by
 have hpl:ps.length≤N.length:=by have:=congrArg List.length S.pre;rw [List.length_take] at this;trivial
 obtain ⟨h1,tk,rfl,hk⟩:=x.done
 have noA:∀b:Addr,b∉(mM CX P w K mg base N qual scope f cd A outer s H E).ex:=fun b z=>absurd (show b∈([]:List Addr) from z) (by simp)
 refine ⟨⟨e0.mod,S.kind,rfl,rfl,Nat.le_refl _,fun y z c h1 h2=>?_,fun y hy=>?_,fun y c _ h=>?_,fun _=>hd,Around.frames_deeper e0.frames,.inr ⟨rfl,rfl⟩,fun b z=>absurd z (noA b),e0.bs,e0.bsz,fun b _ _=>noA b,fun b z=>absurd z (noA b),e0.funs,e0.frf⟩,
  rfl,e0.bare,Un.kept hk,⟨_,x.toInCall.ns,fun i y v h1 h2 h3=>?_⟩,fun y c h=>⟨_,x.cell y c h⟩,e0.hok.fresh (Nat.le_refl _),fun y c h=>?_,fun p hp=>absurd (show p∈([]:List (Addr×Obj)) from hp) (by simp),e0.hok.kept hk,?_⟩
 ·exact name_of_addr x.apart (PySem.mem_of_lookup h1) (PySem.mem_of_lookup h2)
 ·have hy:scope.names.lookup y=some .cell∨scope.names.lookup y=some .free:=hy
  rcases hy with hy | hy
  ·exact tG hy
  ·exact absurd rfl (S.nofree _ (PySem.mem_of_lookup hy))
 ·exact Nat.le_of_lt (x.above y c (PySem.mem_of_lookup h))
 ·have hi:i<vs.length:=by
   unfold j5 at h2
   by_cases hi:i<vs.length
   ·exact hi
   ·rw [List.getElem?_append_right (by simpa using hi)] at h2
    rw [List.getElem?_replicate] at h2
    split at h2 <;> cases h2
  have ha:vs[i]?=some v:=by
   unfold j5 at h2
   rw [List.getElem?_append_left (by simpa using hi),List.getElem?_map] at h2
   cases e:vs[i]? with
   | none=>rw [e] at h2;cases h2
   | some a=>rw [e] at h2;cases h2;rfl
  obtain ⟨u,hu,rv⟩:=r.get ha
  have hp:ps[i]?=some y:=by
   rw [←S.pre,List.getElem?_take_of_lt (by trivial)];exact h1
  have ndP:ps.Nodup:=by rw [←S.pre];exact S.nd.sublist (List.take_sublist _ _)
  refine ⟨u,rv,?_⟩
  rcases S.par y (List.mem_of_getElem? hp) with k | k
  ·exact .inl ⟨k,rO ndP hp hu k⟩
  ·obtain ⟨c,e⟩:=tG (n:=s.heap.objs.size+1) k
   refine .inr ⟨.inl k,c,e,?_⟩
   have q:=x.cell y c e
   rw [rJ ndP hp hu (by show scope.names.lookup y≠_;rw [k];decide)] at q
   exact q
 ·exact e0.hok.fresh (Nat.le_of_lt (x.above y c (PySem.mem_of_lookup h)))
 ·unfold j5
  show _=N.length
  rw [List.length_append,List.length_map,List.length_replicate]
  trivial
theorem zR {CX:jx}{P:Program}{w:World}{K:PySem.W.Frag}{mg:Str→Option Value}{base:Heap}{k:Nat}{f:Addr}{name qual:Str}{params:Arguments}{body:List Stmt}{scope:Scope}{dV kV doc pm cdv ct oc:Value}{an od:Option Addr}
 {osl:Array (Option Value)}{N ps:List Str}{sp:Sp} (lk:K.lookup f=some ⟨oc,od,.func (PySem.W.fnOf name qual params body scope dV kV doc pm an cdv ct),osl⟩) (hcd:PySem.W.codeIn K cdv qual=true) (S:av N ps scope)
 (len:∀vs H Q E,sp vs H Q E→vs.length=ps.length)
 (hbody:∀(A:Around) (outer:List Env) (s:Shared) (H:Hp) (vs:List V) (Q:VK) (E:XK),bR k (A.deeper (envOfC qual scope s.heap.objs.size f cdv))→sp vs H Q E→
  ∃t,k9 (mM CX P w K mg base N qual scope f cdv A outer s H E) body t∧t { nx:=fun _ H'=>Q .non H',rt:=Q } (j5 N vs) H) :
 aT P w K mg base CX (k+1) f (PySem.W.fnOf name qual params body scope dV kV doc pm an cdv ct) ps sp:=by
 refine ⟨len,fun A outer s H args us vs Q E hr e0 hb r hsp=>?_⟩
 have hl:=len _ _ _ _ hsp
 have KX:K.In s.heap:=e0.mod.kin.keeps fun b o e=>(e0.bs b o e).1
 have lim:s.heap.NoLimit:=e0.mod.nolimit.keeps fun b o e=>(e0.bs b o e).1
 have hkind:∀y∈ps.zip us,scope.names.lookup y.1=some .local∨(scope.names.lookup y.1=some .cell∧((cellsFrom (s.heap.objs.size+1) scope.names []).lookup y.1).isSome=true):=fun ⟨n,v⟩ hy=>by
  rcases S.par n (List.of_mem_zip hy).1 with q | q
  ·exact .inl q
  ·exact .inr ⟨q,PySem.W.cellsFrom_some _ _ _ (.inl q)⟩
 refine codeAny_call_function hr.depth (KX _ _ lk) rfl S.co S.gen rfl (PySem.W.codeRec_of KX hcd) (hb _ _ _ _ ?_)
 refine wpAny_newFunctionEnv_cells S.kind hkind fun env he s1 x=>?_
 subst he
 refine ⟨lim.keeps x.toInCall.keep,codeAny_func ?_⟩
 obtain ⟨t,ht,hq⟩:=hbody A outer s H vs Q E (hr.deeper _) hsp
 have I:ac (mM CX P w K mg base N qual scope f cdv A outer s H E) [] (j5 N vs) H s1:=xq S hr.hd e0 hl r x
 refine wpAny_mono (ht [] s1 (j5 N vs) H _ I hq) (fun fl s' hs=>?_) fun e s' hs=>hs
 have fin:∀{σ':St}{H':Hp}{v:V}{u:Value},ac (mM CX P w K mg base N qual scope f cdv A outer s H E) [] σ' H' s'→aN v u→Q v H'→CE outer P w H s Q u s':=
  fun {σ' H' v u} J rv q=>⟨v,H',J.os,J.bare,J.base,J.hok,rv,q⟩
 cases fl with
 | ret u=>
  obtain ⟨v,σ',H',J,rv,q⟩:=hs
  exact fin J rv q
 | next=>
  obtain ⟨σ',H',J,q⟩:=hs
  exact fin (v:=V.non) (u:=Value.none) J rfl q
 | brk=>
  obtain ⟨_,_,_,q⟩:=hs
  exact False.elim q
 | cont=>
  obtain ⟨_,_,_,q⟩:=hs
  exact False.elim q
end L2
namespace L2
open PySem PySem.Spec PyProof.Rows
section
variable {X:Cx}{x:Str}{p pos:Pos}{e:Expr}{es:List Expr}{t:TA}{id T:String}{r:List V→Hp→VK→Prop}
def EX (r:List V→Hp→VK→Prop) (t:TA):TE:=fun σ H Q=>t σ H fun vs H1=>r vs H1 Q
theorem jo (hc:cE X (.builtin id) r) (hg:Gl X x) (hm:X.mg x=none) (hv:bootBuiltins x=some (.builtin id)) (ha:PA X (e :: es) t) (hn:x≠"__name__" := by decide) (hdb:(x==("__debug__" : Str))=false:=by decide)
 (he:starEach (e :: es) X.env=(false,eval e X.env) :: starEach es X.env:=by rfl) (hpl:(backTo pos (starEach es X.env)).any (·.1)=false:=by rfl):PE X (.Call (.Name x p) (e :: es) [] pos) (EX r t):=by
 intro pins s σ H Q I h
 refine wpAny_Call_Name_kw (iV I hg hm hv ?_ hn hdb)
 exact PyProof.Rows.callWith_builtin1 (aH (ha pos pins s σ H _ I h) fun us s1 ⟨vs,H1,I1,r1,q1⟩=>hc pins s1 σ H1 vs us Q I1 r1 q1) he hpl
theorem bZ (hc:cE X (.type T) r) (hg:Gl X x) (hm:X.mg x=none) (hv:bootBuiltins x=some (.type T)) (ha:PA X (e :: es) t) (hn:x≠"__name__" := by decide) (hdb:(x==("__debug__" : Str))=false:=by decide)
 (he:starEach (e :: es) X.env=(false,eval e X.env) :: starEach es X.env:=by rfl) (hpl:(backTo pos (starEach es X.env)).any (·.1)=false:=by rfl):PE X (.Call (.Name x p) (e :: es) [] pos) (EX r t):=by
 intro pins s σ H Q I h
 refine wpAny_Call_Name_kw (iV I hg hm hv ?_ hn hdb)
 exact PyProof.Rows.callWith_type1 (aH (ha pos pins s σ H _ I h) fun us s1 ⟨vs,H1,I1,r1,q1⟩=>hc pins s1 σ H1 vs us Q I1 r1 q1) he hpl
end
end L2
namespace HT
open PySem PyProof.Rows
section
open PySem.SeqAt
open PySem.AutoSeq1 (wpAny_loadPart')
open PySem.MeetsSeq PySem.MeetsSeq2 PySem.MeetsSeq3
end
section
variable {prog:Program}{w:World}{A:Around}{E:Value→Shared→Prop}{s:Shared}
theorem cat_tup {t b:Addr}{vs ws:List Value}{Q:Value→Shared→Prop} (ht:IsTup s.heap t vs.toArray) (hb:IsTup s.heap b ws.toArray) (hv:vs≠[])
 (h1:ws=[]→Q (.ref t) s) (h2:ws≠[]→Q (.ref s.heap.objs.size) { s with heap:=s.heap.push { cls:=.type "tuple",data:=.seq (vs++ws).toArray } })
 (hsz:vs.length+ws.length≤sizeLine):wpAny (model prog w) A (binaryOp .Add (.ref t) (.ref b)) Q E s:=by
 obtain ⟨⟨cls,dd,data,sl⟩,ho,hc,n,hd⟩:=id ht
 obtain ⟨⟨cls2,dd2,data2,sl2⟩,ho2,hc2,n2,hd2⟩:=id hb
 simp only at hc hd hc2 hd2
 subst hc hd hc2 hd2
 have e:vs.toArray++ws.toArray=(vs++ws).toArray:=by simp
 by_cases hw:ws=[]
 ·exact concat_meets ⟨_,ho,rfl⟩ ⟨_,ho2,rfl⟩ noFill_tuple_add seq_tuple_add PySem.F.slot_tuple_add PySem.F.entry_tuple_add (PySem.F.args_tuple_add_2 _ _)
   (tuple_addW1 t b vs.toArray ws.toArray n n2 dd dd2 sl sl2 (by simpa using hv) (by simp [hw])) ⟨ho,ho2,h1 hw⟩
 ·refine concat_meets ⟨_,ho,rfl⟩ ⟨_,ho2,rfl⟩ noFill_tuple_add seq_tuple_add PySem.F.slot_tuple_add PySem.F.entry_tuple_add (PySem.F.args_tuple_add_2 _ _)
   (tuple_addW2 t b vs.toArray ws.toArray n n2 dd dd2 sl sl2 (by simpa using hv) (by simpa using hw) (by rw [List.size_toArray,List.size_toArray];exact hsz)) ⟨ho,ho2,?_⟩
  rw [e]
  exact h2 hw
def sIx (n d:Nat):Option Int→Nat
 | none=>d
 | some v=>if v<0 then (v+(n:Int)).toNat else min v.toNat n
theorem sIx_none (n d:Nat):sIx n d none=d:=rfl
theorem sIx_nat (n d k:Nat):sIx n d (some (k:Int))=min k n:=by
 show (if (k:Int)<0 then ((k:Int)+(n:Int)).toNat else min (k:Int).toNat n)=min k n
 rw [if_neg (by trivial),Int.toNat_natCast]
theorem BP (n d:Nat) (hd:d≤n) (o:Option Int):sIx n d o≤n:=by
 cases o with
 | none=>exact hd
 | some v=>
  show (if v<0 then (v+(n:Int)).toNat else min v.toNat n)≤n
  by_cases hv:v<0
  ·rw [if_pos hv];trivial
  ·rw [if_neg hv];exact Nat.min_le_right _ _
theorem vF (v:Int) (n d:Nat):(if v<0 then max (v+(n:Int)) 0 else min v (n:Int))=((sIx n d (some v):Nat):Int):=by
 show (if v<0 then max (v+(n:Int)) 0 else min v (n:Int))=(((if v<0 then (v+(n:Int)).toNat else min v.toNat n):Nat):Int)
 by_cases hv:v<0
 ·simp only [if_pos hv];trivial
 ·simp only [if_neg hv];trivial
theorem vJ (lo hi:Option Int) (n:Nat):Builtin.Slice.sliceAdjust lo hi 1 (n:Int)=(((sIx n 0 lo:Nat):Int),((sIx n n hi:Nat):Int)):=by
 have h1:¬((1:Int)<0):=by trivial
 unfold Builtin.Slice.sliceAdjust
 simp only [h1,if_false]
 refine Prod.ext ?_ ?_
 ·cases lo with
  | none=>rfl
  | some v=>exact vF v n 0
 ·cases hi with
  | none=>rfl
  | some v=>exact vF v n n
theorem wN (i j:Nat):Builtin.Slice.slicePlaces (i:Int) (j:Int) 1=j - i:=by
 unfold Builtin.Slice.slicePlaces
 have h1:(1:Int) > 0:=by trivial
 simp only [h1,if_true,Int.ediv_one]
 split <;> trivial
theorem qz {v:Value}{o:Option Int}{Q:Option Int→Shared→Prop} (p:IsPart v o) (h:Q o s):wpAny (model prog w) A (Builtin.Slice.slicePartIndex v) Q E s:=by
 cases p with
 | none=>exact slicePart_none h
 | int i t=>exact slicePart_int h
theorem kX {sl:Addr}{vl vu:Value}{lo hi:Option Int}{n:Nat}{Q:Int×Int×Nat→Shared→Prop} (hs:s.heap.IsSliceOf sl vl vu .none) (pl:IsPart vl lo) (pu:IsPart vu hi)
 (h:Q (((sIx n 0 lo:Nat):Int),1,sIx n n hi - sIx n 0 lo) s):wpAny (model prog w) A (Builtin.Slice.sliceApplied (.ref sl) (pure (n:Int))) Q E s:=by
 obtain ⟨os,hos,hcs,hds⟩:=id hs
 unfold Builtin.Slice.sliceApplied Builtin.Slice.sliceFields
 refine wpAny_bind (wpAny_bind (wpAny_field hos hds (x:=vl) rfl (wpAny_bind (wpAny_field hos hds (x:=vu) rfl (wpAny_bind (wpAny_field hos hds (x:=.none) rfl (wpAny_pure ?_)))))))
 refine wpAny_bind (slicePart_none ?_)
 show wpAny _ _ (if ((1:Int)==0)=true then _ else _) _ _ s
 rw [if_neg (by decide)]
 refine wpAny_bind (qz pl (wpAny_bind (qz pu (wpAny_bind (wpAny_pure ?_)))))
 show wpAny _ _ (match Builtin.Slice.sliceAdjust lo hi 1 (n:Int) with | (lo,hi)=>pure (lo,(1:Int),Builtin.Slice.slicePlaces lo hi 1)) _ _ s
 rw [vJ lo hi n]
 show wpAny _ _ (pure (((sIx n 0 lo:Nat):Int),(1:Int),Builtin.Slice.slicePlaces ((sIx n 0 lo:Nat):Int) ((sIx n n hi:Nat):Int) 1)) _ _ s
 rw [wN]
 exact wpAny_pure h
theorem yr (xs:Array Value) (i k:Nat):((List.range k).filterMap fun (m:Nat)=>xs[((i:Int)+(m:Int)*1).toNat]?).toArray=((xs.toList.drop i).take k).toArray:=by
 have e:(fun (m:Nat)=>xs[((i:Int)+(m:Int)*1).toNat]?)=fun m=>xs[i+m]?:=by
  funext m
  have:((i:Int)+(m:Int)*1).toNat=i+m:=by trivial
  rw [this]
 rw [e]
 have:=pick_run xs i k
 rw [List.filterMap_map] at this
 have e2:((fun x=>xs[x]?) ∘ fun x=>i+x)=fun m=>xs[i+m]?:=rfl
 rw [e2] at this
 rw [this]
theorem getItem_tuple_cut {t sl:Addr}{items:Array Value}{vl vu:Value}{lo hi:Option Int}{Q:Value→Shared→Prop} (ht:IsTup s.heap t items) (hs:s.heap.IsSliceOf sl vl vu .none) (pl:IsPart vl lo) (pu:IsPart vu hi)
 (hw:¬(sIx items.size 0 lo=0∧sIx items.size items.size hi=items.size))
 (h:Q (.ref s.heap.objs.size) { s with heap:=s.heap.push { cls:=.type "tuple",data:=.seq ((items.toList.drop (sIx items.size 0 lo)).take (sIx items.size items.size hi - sIx items.size 0 lo)).toArray } })
 (hsz:items.size≤sizeLine):wpAny (model prog w) A (getItem (.ref t) (.ref sl)) Q E s:=by
 have htake:sizeOk (.seq ((items.toList.drop (sIx items.size 0 lo)).take (sIx items.size items.size hi - sIx items.size 0 lo)).toArray):=by
  show ((items.toList.drop (sIx items.size 0 lo)).take (sIx items.size items.size hi - sIx items.size 0 lo)).toArray.size≤sizeLine
  rw [List.size_toArray,List.length_take,List.length_drop,Array.length_toList]
  exact Nat.le_trans (Nat.min_le_right ..) (Nat.le_trans (Nat.sub_le ..) hsz)
 have hj:sIx items.size items.size hi≤items.size:=BP _ _ (Nat.le_refl _) hi
 obtain ⟨os,hos,hcs,hds⟩:=id hs
 have hTs:s.TypeIs (.ref sl) "slice" := ⟨os,hos,hcs⟩
 unfold getItem
 try with_reducible refine wpAny_holding ?_
 first | refine wpAny_bind (wpAny_pure ?_) | skip
 refine wpAny_bind (wpAny_sequenceKey ht.typeIs (by decide) ?_)
 refine wpAny_bind (wpAny_callSpecial?_slot (name:=Str.ofString "__getitem__") ht.typeIs PyProof.Rows.slot_tuple_getitem
  (wpAny_call_entry PyProof.Rows.slot_tuple_getitem ht.typeIs entry_tuple_getitem ?_ (args_tuple_getitem _ _)))
 show wpAny _ _ (Builtin.Tuple.tupleItemsOf (.ref t) >>= _) _ _ s
 refine wpAny_bind (tupleItemsOf_ ht ?_)
 refine wpAny_bind (wpAny_typeOf hTs ?_)
 rw [if_pos (by decide)]
 refine wpAny_bind (kX hs pl pu ?_)
 have hno:¬((((sIx items.size 0 lo:Nat):Int)==0 && (1:Int)==1 && (sIx items.size items.size hi - sIx items.size 0 lo)==items.size)=true):=by
  intro q
  rw [Bool.and_eq_true,Bool.and_eq_true] at q
  have q1:((sIx items.size 0 lo:Nat):Int)=0:=eq_of_beq q.1.1
  have q2:sIx items.size items.size hi - sIx items.size 0 lo=items.size:=eq_of_beq q.2
  exact hw ⟨by trivial,by trivial⟩
 show wpAny _ _ (if (((sIx items.size 0 lo:Nat):Int)==0 && (1:Int)==1 && (sIx items.size items.size hi - sIx items.size 0 lo)==items.size)=true then _ else _) _ _ s
 rw [if_neg hno,yr]
 first
  | exact wpAny_bind (m:=Builtin.Tuple.tupleExact _) (wpAny_newObj_type (wpAny_pure ⟨_,rfl,wpAny_pure h⟩) htake)
  | exact wpAny_bind (m:=Builtin.Tuple.tupleExact _) (wpAny_newObj_type (wpAny_bind (wpAny_pure (wpAny_pure ⟨_,rfl,wpAny_pure h⟩))) htake)
  | exact wpAny_bind (wpAny_bind (m:=Builtin.Tuple.tupleExact _) (wpAny_newObj_type (wpAny_pure (wpAny_pure ⟨_,rfl,wpAny_pure h⟩)) htake))
  | exact wpAny_bind (wpAny_bind (m:=Builtin.Tuple.tupleExact _) (wpAny_newObj_type (wpAny_pure ⟨_,rfl,wpAny_pure h⟩) htake))
end
end HT
namespace L2
open PySem PySem.Spec PyProof.Rows
abbrev TO:=St→Hp→(Option Int→Hp→Prop)→Prop
def PO (X:Cx) (e:Option Expr) (t:TO):Prop:=
 ∀(pins:List (Addr×Obj)) (s:Shared) (σ:St) (H:Hp) (Q:Option Int→Hp→Prop),ac X pins σ H s→t σ H Q→
   wpAny (model X.prog X.w) X.A (evalPart e X.env) (fun u s'=>bh fun o H'=>ac X pins σ H' s'∧IsPart u o∧Q o H') X.xe s
def Bq:TO:=fun _ H Q=>Q none H
def EO (t:TE):TO:=fun σ H Q=>t σ H fun x H1=>CW x fun i=>Q (some i) H1
section
variable {X:Cx}{e:Expr}{te:TE}{lo hi:Option Expr}{tl th:TO}{pos p2:Pos}
theorem kg:PO X none Bq:=by
 intro pins s σ H Q I h
 rw [evalPart_none]
 exact wpAny_pure ⟨none,H,I,.none,h⟩
theorem iF (h:PE X e te):PO X (some e) (EO te):=by
 intro pins s σ H Q I hw
 rw [evalPart_some]
 refine aH (h pins s σ H _ I hw) fun u s1 ⟨x,H1,I1,r1,q1⟩=>?_
 obtain ⟨i,rfl,q⟩:=q1
 obtain ⟨t,rfl⟩:=r1
 exact ⟨some i,H1,I1,.int i t,q⟩
def xT (X:Cx) (r:V→Option Int→Option Int→Hp→VK→Prop):Prop:=
 ∀(pins:List (Addr×Obj)) (s:Shared) (σ:St) (H:Hp) (x:V) (v vl vu:Value) (lo hi:Option Int) (sl:Addr) (Q:VK),ac X pins σ H s→aN x v→s.heap.IsSliceOf sl vl vu .none→IsPart vl lo→IsPart vu hi→r x lo hi H Q→
   bh fun T id=>typeLookup (.type T) "__getitem__" = pure (some (.builtin id))∧s.TypeIs v T∧wpAny (model X.prog X.w) X.A (getItem v (.ref sl)) (EP X pins σ Q) X.xe s
def FQ (r:V→Option Int→Option Int→Hp→VK→Prop) (te:TE) (tl th:TO):TE:=fun σ H Q=>te σ H fun x H1=>tl σ H1 fun l H2=>th σ H2 fun u H3=>r x l u H3 Q
theorem ip {r:V→Option Int→Option Int→Hp→VK→Prop} (hr:xT X r) (he:PE X e te) (hl:PO X lo tl) (hu:PO X hi th):PE X (.Subscript e (.Slice lo hi none p2) pos) (FQ r te tl th):=by
 intro pins s σ H Q I h
 refine Subscript_ (aH (he pins s σ H _ I h) fun v s1 ⟨x,H1,I1,r1,q1⟩=>?_)
 refine wpAny_Slice (aH (hl pins s1 σ H1 _ I1 q1) fun vl s2 ⟨l,H2,I2,pl,q2⟩=>aH (hu pins s2 σ H2 _ I2 q2) fun vu s3 ⟨u,H3,I3,pu,q3⟩=>?_)
 rw [evalPart_none]
 refine wpAny_pure ?_
 have I4:ac X pins σ H3 { s3 with heap:=s3.heap.push { cls:=.type "slice",data:=.fields #[vl,vu,.none] } }:=I3.kept (t':=s3.toks) fun b ob q=>Heap.get?_push_of_some _ q
 obtain ⟨T,id,hT,ht,hg⟩:=hr pins { s3 with heap:=s3.heap.push { cls:=.type "slice",data:=.fields #[vl,vu,.none] } } σ H3 x v vl vu l u s3.heap.objs.size Q I4 r1 (Heap.IsSliceOf.new ..) pl pu q3
 show wpAny (model X.prog X.w) X.A (subscriptTail e (.Slice lo hi none p2) v (.ref s3.heap.objs.size)) (EP X pins σ Q) X.xe { s3 with heap:=s3.heap.push { cls:=.type "slice",data:=.fields #[vl,vu,.none] } }
 exact tail_any (ops:=[.ref s3.heap.objs.size,v]) ht hT hg (by with_unfolding_all rfl)
def cL (xs:List V) (lo hi:Option Int):List V:=(xs.drop (HT.sIx xs.length 0 lo)).take (HT.sIx xs.length xs.length hi - HT.sIx xs.length 0 lo)
theorem jq (xs:List V) (lo hi:Option Int):(cL xs lo hi).length≤xs.length:=by
 unfold cL
 rw [List.length_take,List.length_drop]
 exact Nat.le_trans (Nat.min_le_right ..) (Nat.sub_le ..)
inductive Eu (K:PySem.W.Frag) (x:V) (lo:Option Int) (hi:Option Int) (H:Hp) (Q:VK):Prop
 | mk (a:_) (xs:_) (h0:x=.ref a) (h1:af K H a xs) (h2:¬(HT.sIx xs.length 0 lo=0∧HT.sIx xs.length xs.length hi=xs.length)) (h3:∀p,H p=none→Q (.ref p) (aC H p (.tup (cL xs lo hi))))
def FD (K:PySem.W.Frag):V→Option Int→Option Int→Hp→VK→Prop:=fun x lo hi H Q=>Eu K x lo hi H Q
theorem BC:xT X (FD X.K):=by
 intro pins s σ H x v vl vu lo hi sl Q I rx hs pl pu h
 obtain ⟨a,xs,rfl,hx,hw,q⟩:=h
 cases rx
 obtain ⟨its,r,ht,hz⟩:=I.tuple hx
 have hlen:its.toArray.size=xs.length:=by rw [List.size_toArray];exact r.length.symm
 refine ⟨"tuple",_,PyProof.Rows.slot_tuple_getitem.lookup,ht.typeIs,?_⟩
 refine HT.getItem_tuple_cut ht hs pl pu (by rw [hlen];exact hw) ?_ (by rw [hlen];exact hz)
 rw [hlen]
 refine ⟨.ref s.heap.objs.size,_,I.laid (t':=s.toks) (o:=.tup (cL xs lo hi)) (fun b ob q=>Heap.get?_push_of_some _ q) (Nat.le_refl _) ?_,rfl,q _ (I.hok.fresh (Nat.le_refl _))⟩
 exact ⟨Nat.le_trans (jq xs lo hi) hz,_,(r.drop (HT.sIx xs.length 0 lo)).take (HT.sIx xs.length xs.length hi - HT.sIx xs.length 0 lo),IsTup.new _ _,_,Heap.get?_push_size _ rfl,rfl⟩
inductive Da (K:PySem.W.Frag) (x:V) (y:V) (H:Hp) (Q:VK):Prop
 | mk (a:_) (b:_) (xs:_) (ys:_) (h0:x=.ref a) (h1:y=.ref b) (h2:af K H a xs) (h3:af K H b ys) (h4:xs≠[]) (h5:xs.length+ys.length≤sizeLine) (h6:(ys=[]→Q (.ref a) H)) (h7:(ys≠[]→∀p,H p=none→Q (.ref p) (aC H p (.tup (xs++ys)))))
def DP (K:PySem.W.Frag):R2:=fun x y H Q=>Da K x y H Q
theorem ar.nil_iff {xs:List V}{us:List Value} (r:ar xs us):us=[]↔xs=[]:=by
 cases r with
 | nil=>simp
 | cons _ _=>simp
theorem At:bF X (binaryOp .Add) (DP X.K):=by
 intro pins s σ H x y v u Q I rx ry h
 obtain ⟨a,b,xs,ys,rfl,rfl,ha,hb,hx,hz,q1,q2⟩:=h
 cases rx
 cases ry
 obtain ⟨its,r1,p1,_⟩:=I.tuple ha
 obtain ⟨its2,r2,p2,_⟩:=I.tuple hb
 refine HT.cat_tup p1 p2 (fun z=>hx (r1.nil_iff.mp z)) (fun z=>⟨.ref a,H,I,rfl,q1 (r2.nil_iff.mp z)⟩) (fun z=>?_) (by rw [←r1.length,←r2.length];exact hz)
 refine ⟨.ref s.heap.objs.size,_,I.laid (t':=s.toks) (o:=.tup (xs++ys)) (fun b ob q=>Heap.get?_push_of_some _ q) (Nat.le_refl _) ?_,rfl,q2 (fun w=>z (r2.nil_iff.mpr w)) _ (I.hok.fresh (Nat.le_refl _))⟩
 exact ⟨by rw [List.length_append];exact hz,_,r1.append r2,IsTup.new _ _,_,Heap.get?_push_size _ rfl,rfl⟩
end
def nX (n:Nat) (i:Int):Option Nat:=if 0≤i then (if i<n then some i.toNat else none) else if -(n:Int)≤i then some (i+n).toNat else none
def iy {α:Type} (xs:List α) (i:Int):Option α:=(nX xs.length i).bind fun j=>xs[j]?
theorem vg {n:Nat}{i:Int}{j:Nat} (h:nX n i=some j):seqIndex? i n=some j∧j<n∧-(n:Int)≤i∧i<n:=by
 unfold nX at h
 by_cases h0:0≤i
 ·rw [if_pos h0] at h
  by_cases h1:i<n
  ·rw [if_pos h1] at h
   have e:i.toNat=j:=Option.some.inj h
   exact ⟨by rw [seqIndex_of h0 h1,e],by trivial,by trivial,h1⟩
  ·rw [if_neg h1] at h;cases h
 ·rw [if_neg h0] at h
  by_cases h1:-(n:Int)≤i
  ·rw [if_pos h1] at h
   have e:(i+n).toNat=j:=Option.some.inj h
   exact ⟨by rw [seqIndex_neg (by trivial) h1,e],by trivial,h1,by trivial⟩
  ·rw [if_neg h1] at h;cases h
theorem qR {α:Type}{xs:List α}{i:Int}{v:α} (h:iy xs i=some v):∃j,seqIndex? i xs.length=some j∧xs[j]?=some v∧j<xs.length∧-(xs.length:Int)≤i∧i<xs.length:=by
 unfold iy at h
 cases e:nX xs.length i with
 | none=>rw [e] at h;cases h
 | some j=>
  rw [e] at h
  obtain ⟨h1,h2,h3,h4⟩:=vg e
  exact ⟨j,h1,h,h2,h3,h4⟩
theorem iE {α:Type}{xs:List α}{j:Nat}{v:α} (h:xs[j]?=some v):iy xs (j:Int)=some v:=by
 have hj:j<xs.length:=(List.getElem?_eq_some_iff.mp h).1
 have e:nX xs.length (j:Int)=some j:=by
  unfold nX
  rw [if_pos (by trivial),if_pos (by trivial)];simp
 unfold iy;rw [e];exact h
theorem ja {α:Type} (xs:List α) (v:α):iy (xs++[v]) (-1)=some v:=by
 have hl:(xs++[v]).length=xs.length+1:=by simp
 have e:nX (xs++[v]).length (-1)=some xs.length:=by
  unfold nX
  rw [hl,if_neg (by decide),if_pos (by trivial)]
  congr 1
  trivial
 unfold iy
 rw [e]
 show (xs++[v])[xs.length]?=some v
 simp
def AW (b:Expr):Prop:=∀o i,subscripted b false o i=operate [o,i] (getItem o i)
def lK (X:Cx) (r:R2):Prop:=
 ∀(value slice:Expr) (pins:List (Addr×Obj)) (s:Shared) (σ:St) (H:Hp) (x y:V) (v u:Value) (Q:VK),ac X pins σ H s→aN x v→aN y u→r x y H Q→
   subscripted slice false v u=operate [v,u] (getItem v u)→wpAny (model X.prog X.w) X.A (subscriptTail value slice v u) (EP X pins σ Q) X.xe s
def xg (X:Cx) (id:String) (r:V→List V→Hp→VK→Prop):Prop:=
 ∀(pins:List (Addr×Obj)) (s:Shared) (σ:St) (H:Hp) (x:V) (xs:List V) (v:Value) (us:List Value) (Q:VK),ac X pins σ H s→aN x v→ar xs us→r x xs H Q→
   wpAny (model X.prog X.w) X.A (call (.builtin id) (v :: us)) (EP X pins σ Q) X.xe s
section
variable {X:Cx}{a b:Expr}{ta tb:TE}{pos:Pos}
theorem lK.or {r r':R2} (h:lK X r) (h':lK X r'):lK X (fun x y H Q=>r x y H Q∨r' x y H Q):=by
 intro value slice pins s σ H x y v u Q I rx ry q hs
 rcases q with q | q
 ·exact h value slice pins s σ H x y v u Q I rx ry q hs
 ·exact h' value slice pins s σ H x y v u Q I rx ry q hs
theorem cD {r:R2} (hr:lK X r) (ha:PE X a ta) (hb:PE X b tb) (hs:AW b):PE X (.Subscript a b pos) (zP r ta tb):=by
 intro pins s σ H Q I h
 exact Subscript_ (zq ha hb I h fun v u s2 x y H2 I2 rx ry q=>hr a b pins s2 σ H2 x y v u Q I2 rx ry q (hs _ _))
inductive EQ (K:PySem.W.Frag) (x:V) (y:V) (H:Hp) (Q:VK):Prop
 | mk (p:_) (xs:_) (i:_) (v:_) (h0:x=.ref p) (h1:y=.int i) (h2:ap K H p xs) (h3:iy xs i=some v) (h4:Q v H)
def za (K:PySem.W.Frag):R2:=fun x y H Q=>EQ K x y H Q
inductive EB (K:PySem.W.Frag) (x:V) (y:V) (H:Hp) (Q:VK):Prop
 | mk (p:_) (xs:_) (i:_) (v:_) (h0:x=.ref p) (h1:y=.int i) (h2:af K H p xs) (h3:iy xs i=some v) (h4:Q v H)
def y8 (K:PySem.W.Frag):R2:=fun x y H Q=>EB K x y H Q
inductive DI (x:V) (y:V) (H:Hp) (Q:VK):Prop
 | mk (z:_) (i:_) (c:_) (h0:x=.str z) (h1:y=.int i) (h2:z.length≤sizeLine) (h3:iy z.cps.toList i=some c) (h4:Q (.str ⟨#[c]⟩) H)
def Cd:R2:=fun x y H Q=>DI  x y H Q
theorem vA:lK X (za X.K):=by
 intro value slice pins s σ H x y v u Q I rx ry h hs
 obtain ⟨p,xs,i,z,rfl,rfl,hq,he,q⟩:=h
 cases rx
 obtain ⟨t,rfl⟩:=ry
 obtain ⟨its,r,pl,hz⟩:=I.list hq
 obtain ⟨j,h1,h2,h3,h4,h5⟩:=qR he
 obtain ⟨w,ew,rw'⟩:=r.get h2
 have hl:=r.length
 have hn:=nV
 have fin:EP X pins σ Q w s:=⟨z,H,I,rw',q⟩
 by_cases h0:0≤i
 ·have hj:i.toNat=j:=by
   rw [seqIndex_of h0 h5] at h1
   exact Option.some.inj h1
  exact item_listR pl.isList h0 (by trivial) (by rw [hj];simpa using ew) fin hs
 ·have hj:(i+(its.toArray.size:Int)).toNat=j:=by
   rw [seqIndex_neg (by trivial) h4] at h1
   rw [List.size_toArray,←hl]
   exact Option.some.inj h1
  exact subscriptTail_builtinR (x:=w) pl.isList.typeIs slot_list_getitem.lookup
   (wpAny_getItem_list_neg (Q:=fun r s'=>r=w∧EP X pins σ Q r s') pl.isList (by trivial) (by rw [List.size_toArray] <;> trivial) (by trivial) (by rw [hj];simpa using ew) ⟨rfl,fin⟩) hs
theorem wX:lK X (y8 X.K):=by
 intro value slice pins s σ H x y v u Q I rx ry h hs
 obtain ⟨p,xs,i,z,rfl,rfl,hq,he,q⟩:=h
 cases rx
 obtain ⟨t,rfl⟩:=ry
 obtain ⟨its,r,pl,hz⟩:=I.tuple hq
 obtain ⟨j,h1,h2,h3,h4,h5⟩:=qR he
 obtain ⟨w,ew,rw'⟩:=r.get h2
 have hl:=r.length
 have hn:=nV
 have fin:EP X pins σ Q w s:=⟨z,H,I,rw',q⟩
 exact subscriptTail_builtinR (x:=w) pl.typeIs slot_tuple_getitem.lookup
  (getItem_tuple (j:=j) (Q:=fun r s'=>r=w∧EP X pins σ Q r s') pl (by trivial) (by trivial) (by rw [List.size_toArray,←hl];exact h1) (by simpa using ew) ⟨rfl,fin⟩) hs
theorem qj:lK X Cd:=by
 intro value slice pins s σ H x y v u Q I rx ry h hs
 obtain ⟨z,i,c,rfl,rfl,hz,he,q⟩:=h
 obtain ⟨t,rfl⟩:=rx
 obtain ⟨t',rfl⟩:=ry
 obtain ⟨j,h1,h2,h3,h4,h5⟩:=qR he
 have hl:z.cps.toList.length=z.length:=by simp [Str.length]
 rw [hl] at h1 h4 h5
 have hn:=nV
 exact tail_any (typeIs_str s z t) slot_str_getitem.lookup (getItem_str (c:=c) (by
  have e1:decide (i < -(2 ^ 63:Int))=false:=decide_eq_false (by trivial)
  have e2:decide (i≥2 ^ 63)=false:=decide_eq_false (by trivial)
  rw [e1,e2,Bool.or_false]) (by rw [h1];simpa using h2) ⟨.str ⟨#[c]⟩,H,I.tok _,⟨()⟩,q⟩) hs
def EW (K:PySem.W.Frag):R2:=fun x y H Q=>za K x y H Q∨y8 K x y H Q∨Cd x y H Q
theorem iN:lK X (EW X.K):=vA.or (wX.or qj)
theorem v0 (its:List Value) (n j:Nat) (u:Value):Obj.mapSeq (·.setIfInBounds j u) { cls:=.type "list",data:=.seq its.toArray n }={ cls:=.type "list",data:=.seq (its.set j u).toArray n }:=by
 simp [Obj.mapSeq]
theorem ac.lst {pins:List (Addr×Obj)}{σ:St}{H:Hp}{s:Shared}{p:Addr}{xs:List V} (I:ac X pins σ H s) (h:H p=some (.lst xs)) :
 bh fun (its:List Value) (n:Nat)=>ar xs its∧s.heap.get? p=some { cls:=.type "list",data:=.seq its.toArray n }∧xs.length≤sizeLine:=by
 obtain ⟨z,its,n,r,e⟩:=I.hok p _ h
 exact ⟨its,n,r,e,z⟩
theorem ac.lstUpd {pins:List (Addr×Obj)}{σ:St}{H:Hp}{s:Shared}{p:Addr}{xs ys:List V}{its its':List Value}{n n':Nat}{f:Obj→Obj} (I:ac X pins σ H s) (h:H p=some (.lst xs))
 (ho:s.heap.get? p=some { cls:=.type "list",data:=.seq its.toArray n }) (hf:f { cls:=.type "list",data:=.seq its.toArray n }={ cls:=.type "list",data:=.seq its'.toArray n' }) (r:ar ys its') (hz:ys.length≤sizeLine) (t:Nat) :
 ac X pins σ (aC H p (.lst ys)) { s with heap:=s.heap.update p f,toks:=t }:=by
 have e:(s.heap.update p f).get? p=some { cls:=.type "list",data:=.seq its'.toArray n' }:=by
  rw [Heap.get?_update_self f ho (by rw [hf] <;> rfl),hf]
 refine I.write (x:=p) (e:=p) (by rw [h];trivial) (.inl rfl) (fun b u hb q=>(Heap.get?_update_other _ _ (Ne.symm hb)).trans q) ⟨_,e⟩ ?_
 exact ⟨hz,its',n',r,e⟩
inductive Dp (o:V) (i:V) (v:V) (H:Hp) (Q:(Hp→Prop)):Prop
 | mk (p:_) (xs:_) (k:_) (j:_) (h0:o=.ref p) (h1:i=.int k) (h2:H p=some (.lst xs)) (h3:nX xs.length k=some j) (h4:Q (aC H p (.lst (xs.set j v))))
def DV:V→V→V→Hp→(Hp→Prop)→Prop:=fun o i v H Q=>Dp  o i v H Q
theorem pZ:vU X DV:=by
 intro pins s σ H o i v ov iv u Q I ro ri rv h
 obtain ⟨p,xs,k,j,rfl,rfl,hp,hj,q⟩:=h
 cases ro
 obtain ⟨t,rfl⟩:=ri
 obtain ⟨its,n,r,ho,hz⟩:=I.lst hp
 obtain ⟨h1,h2,h3,h4⟩:=vg hj
 have hl:=r.length
 have hn:=nV
 have I':ac X pins σ (aC H p (.lst (xs.set j v))) { s with heap:=s.heap.update p (Obj.mapSeq (·.setIfInBounds j u)) }:=
  I.lstUpd hp ho (v0 its n j u) (r.set rv j) (by rw [List.length_set];exact hz) s.toks
 by_cases h0:0≤k
 ·have hk:k.toNat=j:=by
   rw [seqIndex_of h0 h4] at h1
   exact Option.some.inj h1
  exact PySem.W.ki_setAt ho h0 (by trivial) (by rw [List.size_toArray,←hl];exact h4) (by rw [hk];exact ⟨_,I',q⟩)
 ·have hk:(k+(its.toArray.size:Int)).toNat=j:=by
   rw [seqIndex_neg (by trivial) h3] at h1
   rw [List.size_toArray,←hl]
   exact Option.some.inj h1
  exact PySem.W.ki_setBack ho (by trivial) (by rw [List.size_toArray,←hl];exact h3) (by trivial) (by rw [hk];exact ⟨_,I',q⟩)
theorem tu (lo hi:Option Int) (n:Nat):(sliceBounds lo hi none n).1=((HT.sIx n 0 lo:Nat):Int)∧(sliceBounds lo hi none n).2.1=((HT.sIx n n hi:Nat):Int)∧(sliceBounds lo hi none n).2.2=1:=by
 refine ⟨?_,?_,rfl⟩
 ·cases lo with
  | none=>simp [sliceBounds,HT.sIx]
  | some i=>
   simp only [sliceBounds,HT.sIx,Option.getD_none,show (1:Int) > 0 by decide,if_true]
   by_cases h:i<0
   ·simp only [h,if_true] <;> trivial
   ·simp only [h,if_false] <;> trivial
 ·cases hi with
  | none=>simp [sliceBounds,HT.sIx]
  | some i=>
   simp only [sliceBounds,HT.sIx,Option.getD_none,show (1:Int) > 0 by decide,if_true]
   by_cases h:i<0
   ·simp only [h,if_true] <;> trivial
   ·simp only [h,if_false] <;> trivial
theorem sN (its:List Value) (lo hi:Option Int):slicePick its.toArray lo hi none=((its.drop (HT.sIx its.length 0 lo)).take (HT.sIx its.length its.length hi - HT.sIx its.length 0 lo)).toArray:=by
 obtain ⟨h1,h2,h3⟩:=tu lo hi its.toArray.size
 unfold slicePick
 rw [h1,h2,h3]
 simp only [sliceRange_one,pick_run,List.size_toArray] <;> rfl
inductive EL (K:PySem.W.Frag) (x:V) (lo:Option Int) (hi:Option Int) (H:Hp) (Q:VK):Prop
 | mk (a:_) (xs:_) (h0:x=.ref a) (h1:ap K H a xs) (h2:∀p,H p=none→Q (.ref p) (aC H p (.lst (cL xs lo hi))))
def Fj (K:PySem.W.Frag):V→Option Int→Option Int→Hp→VK→Prop:=fun x lo hi H Q=>EL K x lo hi H Q
theorem A0:xT X (Fj X.K):=by
 intro pins s σ H x v vl vu lo hi sl Q I rx hs pl pu h
 obtain ⟨a,xs,rfl,hx,q⟩:=h
 cases rx
 obtain ⟨its,r,ht,hz⟩:=I.list hx
 have hlen:=r.length
 refine ⟨"list",_,slot_list_getitem.lookup,ht.isList.typeIs,?_⟩
 refine wpAny_getItem_list_slice ht.isList hs pl pu .none (by simp) ?_ (by rw [List.size_toArray] <;> trivial)
 rw [sN,←hlen]
 refine ⟨.ref s.heap.objs.size,_,I.laid (t':=s.toks) (o:=.lst (cL xs lo hi)) (fun b ob q=>Heap.get?_push_of_some _ q) (Nat.le_refl _) ?_,rfl,q _ (I.hok.fresh (Nat.le_refl _))⟩
 exact ⟨Nat.le_trans (jq xs lo hi) hz,_,0,(r.drop (HT.sIx xs.length 0 lo)).take (HT.sIx xs.length xs.length hi - HT.sIx xs.length 0 lo),Heap.get?_push_size _ rfl⟩
def kd:V→Bool
 | .non=>true
 | .bl _=>true
 | .int _=>true
 | .str _=>true
 | _=>false
def sg:V→V→Bool
 | .non,.non=>true
 | .bl a,.bl b=>a==b
 | .bl a,.int b=>(if a then 1 else 0)==b
 | .int a,.bl b=>a==(if b then 1 else 0)
 | .int a,.int b=>a==b
 | .str a,.str b=>a==b
 | _,_=>false
theorem C0 {A:Around}{s:Shared}{y x:V}{u v:Value} (ry:aN y u) (rx:aN x v) (fy:kd y=true) (fx:kd x=true):SeqAt.EqAt A s u v (sg y x):=by
 cases y with
 | non=>
  cases ry
  cases x with
  | non=>cases rx;exact SeqAt.EqAt.same _
  | bl b=>cases rx;exact SeqAt.EqAt.none_bool b
  | int b=>obtain ⟨t,rfl⟩:=rx;exact SeqAt.EqAt.none_int b t
  | str b=>obtain ⟨t,rfl⟩:=rx;exact SeqAt.EqAt.none_str b t
  | _=>exact absurd (show false=true from fx) Bool.false_ne_true
 | bl a=>
  cases ry
  cases x with
  | non=>cases rx;exact SeqAt.EqAt.bool_none a
  | bl b=>cases rx;exact SeqAt.EqAt.bool_bool a b
  | int b=>obtain ⟨t,rfl⟩:=rx;exact SeqAt.EqAt.bool_int a b t
  | str b=>obtain ⟨t,rfl⟩:=rx;exact SeqAt.EqAt.bool_str a b t
  | _=>exact absurd (show false=true from fx) Bool.false_ne_true
 | int a=>
  obtain ⟨t',rfl⟩:=ry
  cases x with
  | non=>cases rx;exact SeqAt.EqAt.int_none a t'
  | bl b=>cases rx;exact SeqAt.EqAt.int_bool a t' b
  | int b=>obtain ⟨t,rfl⟩:=rx;exact SeqAt.EqAt.int_int a t' b t
  | str b=>obtain ⟨t,rfl⟩:=rx;exact SeqAt.EqAt.int_str a t' b t
  | _=>exact absurd (show false=true from fx) Bool.false_ne_true
 | str a=>
  obtain ⟨t',rfl⟩:=ry
  cases x with
  | non=>cases rx;exact SeqAt.EqAt.str_none a t'
  | bl b=>cases rx;exact SeqAt.EqAt.str_bool a t' b
  | int b=>obtain ⟨t,rfl⟩:=rx;exact SeqAt.EqAt.str_int a t' b t
  | str b=>obtain ⟨t,rfl⟩:=rx;exact SeqAt.EqAt.str_str a t' b t
  | _=>exact absurd (show false=true from fx) Bool.false_ne_true
 | _=>exact absurd (show false=true from fy) Bool.false_ne_true
def kD (x:V) (u:Value):Bool:=match u with
 | .none=>sg .non x
 | .bool b=>sg (.bl b) x
 | .int i _=>sg (.int i) x
 | .str z _=>sg (.str z) x
 | _=>false
theorem xS {x y:V}{u:Value} (r:aN y u) (f:kd y=true):kD x u=sg y x:=by
 cases y with
 | non=>cases r;rfl
 | bl b=>cases r;rfl
 | int i=>obtain ⟨t,rfl⟩:=r;rfl
 | str z=>obtain ⟨t,rfl⟩:=r;rfl
 | _=>exact absurd (show false=true from f) Bool.false_ne_true
theorem mj {x:V}:∀{xs:List V}{us:List Value},ar xs us→xs.all kd=true→us.any (kD x)=xs.any fun y=>sg y x
 | _,_,.nil,_=>rfl
 | y :: xs,u :: us,.cons r t,f=>by
  rw [List.all_cons,Bool.and_eq_true] at f
  rw [List.any_cons,List.any_cons,xS r f.1,mj t f.2]
theorem kS {A:Around}{s:Shared}{x:V}{v:Value} (rx:aN x v) (fx:kd x=true):∀{xs:List V}{us:List Value},ar xs us→xs.all kd=true→∀u∈us,SeqAt.EqAt A s u v (kD x u)
 | _,_,.nil,_=>fun u hu=>by cases hu
 | y :: xs,u :: us,.cons r t,f=>fun u' hu=>by
  rw [List.all_cons,Bool.and_eq_true] at f
  rcases List.mem_cons.mp hu with rfl | hu
  ·rw [xS r f.1];exact C0 r rx f.1 fx
  ·exact kS rx fx t f.2 u' hu
def vk (x:V) (xs:List V):Bool:=xs.any fun y=>sg y x
inductive Fg (K:PySem.W.Frag) (neg:Bool) (x:V) (y:V) (H:Hp) (Q:VK):Prop
 | mk (p:_) (xs:_) (h0:y=.ref p) (h1:(ap K H p xs∨af K H p xs)) (h2:kd x=true) (h3:xs.all kd=true) (h4:Q (.bl (if neg then !vk x xs else vk x xs)) H)
def zK (K:PySem.W.Frag) (neg:Bool):R2:=fun x y H Q=>Fg K neg x y H Q
theorem xl:bF X (compareOp .In) (zK X.K false):=by
 intro pins s σ H x y v u Q I rx ry h
 obtain ⟨p,xs,rfl,hq,fx,fs,q⟩:=h
 cases ry
 rcases hq with hq | hq
 ·obtain ⟨its,r,pl,hz⟩:=I.list hq
  refine SeqAt.in_listAt (kD x) pl.isList (fun w hw=>kS rx fx r fs w (by simpa using hw)) ⟨.bl _,H,I,rfl,?_⟩
  rw [show its.toArray.any (kD x)=its.any (kD x) by simp,mj r fs]
  exact q
 ·obtain ⟨its,r,pl,hz⟩:=I.tuple hq
  refine SeqAt.in_tupleAt (kD x) pl (fun w hw=>kS rx fx r fs w (by simpa using hw)) ⟨.bl _,H,I,rfl,?_⟩
  rw [show its.toArray.any (kD x)=its.any (kD x) by simp,mj r fs]
  exact q
theorem tZ:bF X (compareOp .NotIn) (zK X.K true):=by
 intro pins s σ H x y v u Q I rx ry h
 obtain ⟨p,xs,rfl,hq,fx,fs,q⟩:=h
 cases ry
 rcases hq with hq | hq
 ·obtain ⟨its,r,pl,hz⟩:=I.list hq
  refine SeqAt.notIn_listAt (kD x) pl.isList (fun w hw=>kS rx fx r fs w (by simpa using hw)) ⟨.bl _,H,I,rfl,?_⟩
  rw [show its.toArray.any (kD x)=its.any (kD x) by simp,mj r fs]
  exact q
 ·obtain ⟨its,r,pl,hz⟩:=I.tuple hq
  refine SeqAt.notIn_tupleAt (kD x) pl (fun w hw=>kS rx fx r fs w (by simpa using hw)) ⟨.bl _,H,I,rfl,?_⟩
  rw [show its.toArray.any (kD x)=its.any (kD x) by simp,mj r fs]
  exact q
theorem nJ:cE X (.builtin "len") (fun xs H Q=>bh fun p ys=>xs=[.ref p]∧(ap X.K H p ys∨af X.K H p ys)∧Q (.int ys.length) H):=by
 intro pins s σ H xs us Q I r h
 obtain ⟨p,ys,rfl,hq,q⟩:=h
 obtain ⟨u,rfl,rx⟩:=mw r
 cases rx
 have hn:=nV
 rcases hq with hq | hq
 ·obtain ⟨its,r',pl,hz⟩:=I.list hq
  have hlen:=r'.length
  exact Calls.call_len_list pl.isList (by simp only [List.size_toArray] <;> trivial) ⟨.int ys.length,H,I.tok _,⟨s.toks+1,by rw [List.size_toArray,hlen]⟩,q⟩
 ·obtain ⟨its,r',pl,hz⟩:=I.tuple hq
  have hlen:=r'.length
  exact len_tuple pl (by simp only [List.size_toArray] <;> trivial) ⟨.int ys.length,H,I.tok _,⟨s.toks+1,by rw [List.size_toArray,hlen]⟩,q⟩
theorem uq:cE X (.type "list") (fun xs H Q=>bh fun p ys=>xs=[.ref p]∧(ap X.K H p ys∨af X.K H p ys)∧∀l,H l=none→Q (.ref l) (aC H l (.lst ys))):=by
 intro pins s σ H xs us Q I r h
 obtain ⟨p,ys,rfl,hq,q⟩:=h
 obtain ⟨u,rfl,rx⟩:=mw r
 cases rx
 have fin:∀(its:List Value),ar ys its→ys.length≤sizeLine→∀(h':Heap) (c':Nat),(∀b o',s.heap.get? b=some o'→h'.get? b=some o')→
  h'.get? s.heap.objs.size=some { cls:=.type "list",dict:=none,data:=.seq its.toArray c',slots:=#[] }→EP X pins σ Q (.ref s.heap.objs.size) { s with heap:=h' }:=fun its r' hz h' c' kp e=>
  ⟨.ref s.heap.objs.size,_,I.laid (t':=s.toks) kp (Nat.le_refl _) (show aW X.prog X.w _ h' _ (.lst ys) from ⟨hz,its,c',r',e⟩),rfl,q _ (I.hok.fresh (Nat.le_refl _))⟩
 rcases hq with hq | hq
 ·obtain ⟨its,r',pl,hz⟩:=I.list hq
  have hlen:=r'.length
  obtain ⟨o,ho,hc,n,hd⟩:=pl.isList
  exact call_list_seq p (.inl rfl) ho hc hd (fun h' c' kp e=>fin its r' hz h' c' kp e) (by simp only [List.size_toArray] <;> trivial)
 ·obtain ⟨its,r',pl,hz⟩:=I.tuple hq
  have hlen:=r'.length
  obtain ⟨o,ho,hc,n,hd⟩:=pl
  exact call_list_seq p (.inr rfl) ho hc hd (fun h' c' kp e=>fin its r' hz h' c' kp e) (by simp only [List.size_toArray] <;> trivial)
theorem sy:cE X (.type "tuple") (fun xs H Q=>bh fun p ys=>xs=[.ref p]∧((ap X.K H p ys∧∀l,H l=none→Q (.ref l) (aC H l (.tup ys)))∨(af X.K H p ys∧Q (.ref p) H))):=by
 intro pins s σ H xs us Q I r h
 obtain ⟨p,ys,rfl,h⟩:=h
 obtain ⟨u,rfl,rx⟩:=mw r
 cases rx
 rcases h with ⟨hq,q⟩ | ⟨hq,q⟩
 ·obtain ⟨its,r',pl,hz⟩:=I.list hq
  have hlen:=r'.length
  refine call_tuple_list pl.isList (fun h' kp=>?_) (by simp only [List.size_toArray] <;> trivial)
  have I1:ac X pins σ H { s with heap:=h' }:=I.kept (t':=s.toks) kp
  have I2:ac X pins σ (aC H h'.objs.size (.tup ys)) { s with heap:=h'.push { cls:=.type "tuple",data:=.seq its.toArray } }:=
   I1.laid (t':=s.toks) (fun b o e=>Heap.get?_push_of_some _ e) (Nat.le_refl _) (show aW X.prog X.w _ _ _ (.tup ys) from ⟨hz,its,r',IsTup.new _ _,_,Heap.get?_push_size _ rfl,rfl⟩)
  exact ⟨.ref h'.objs.size,_,I2,rfl,q _ (I1.hok.fresh (Nat.le_refl _))⟩
 ·obtain ⟨its,r',pl,hz⟩:=I.tuple hq
  exact call_tuple_same pl ⟨.ref p,H,I,rfl,q⟩
def By (K:PySem.W.Frag) (T:String) (x:V) (H:Hp):Prop:=match x with
 | .str _=>T = "str"
 | .int _=>T = "int"
 | .ref p=>(T = "list"∧∃xs,ap K H p xs)∨(T = "tuple"∧∃o,K.lookup p=some o∧o.cls=.type "tuple"∧o.dict=none)∨
  (T = "dict"∧((∃kvs,H p=some (.dK kvs))∨∃kvs,H p=some (.dT kvs)))∨(T = "set"∧bh fun S n=>H p=some (.set S n))
 | _=>False
theorem xB {pins:List (Addr×Obj)}{σ:St}{H:Hp}{s:Shared}{T:String}{x:V}{v:Value} (I:ac X pins σ H s) (r:aN x v) (ty:By X.K T x H) :
 s.TypeIs v T∧∀a,v=.ref a→∃ob,s.heap.get? a=some ob∧ob.dict=none:=by
 cases x with
 | str z=>
  obtain ⟨t,rfl⟩:=r
  cases (show T = "str" from ty)
  exact ⟨typeIs_str s z t,fun _ e=>nomatch e⟩
 | int i=>
  obtain ⟨t,rfl⟩:=r
  cases (show T = "int" from ty)
  exact ⟨typeIs_int s i t,fun _ e=>nomatch e⟩
 | ref p=>
  cases r
  rcases ty with ⟨rfl,xs,hq⟩ | ⟨rfl,o,hk,hc,hd⟩ | ⟨rfl,hk⟩ | ⟨rfl,S,n,hk⟩
  ·obtain ⟨its,_,pl,_⟩:=I.list hq
   refine ⟨pl.isList.typeIs,fun a e=>?_⟩
   cases e
   obtain ⟨o,n,e,c,hd,_⟩:=pl
   exact ⟨o,e,hd⟩
  ·refine ⟨⟨o,I.kIn p o hk,hc⟩,fun a e=>?_⟩
   cases e
   exact ⟨o,I.kIn _ o hk,hd⟩
  ·have z:∃o,s.heap.get? p=some o∧o.ExactDict:=by
    rcases hk with ⟨kvs,hk⟩ | ⟨kvs,hk⟩
    ·obtain ⟨_,_,_,_,o,_,_,e,ex,_⟩:=I.hok p _ hk
     exact ⟨o,e,ex⟩
    ·obtain ⟨_,_,_,_,o,_,_,e,ex,_⟩:=I.hok p _ hk
     exact ⟨o,e,ex⟩
   obtain ⟨o,e,ex⟩:=z
   refine ⟨⟨o,e,ex.1⟩,fun a e2=>?_⟩
   cases e2
   exact ⟨o,e,ex.2.1⟩
  ·obtain ⟨o,_,_,_,e,ex,_⟩:=I.hok p _ hk
   refine ⟨⟨o,e,ex.1⟩,fun a e2=>?_⟩
   cases e2
   exact ⟨o,e,ex.2.1⟩
 | _=>exact False.elim ty
def Fc (K:PySem.W.Frag) (T:String) (r:V→List V→Hp→VK→Prop) (to:TE):TE:=fun σ H Q=>to σ H fun x H1=>By K T x H1∧r x [] H1 Q
def EZ (K:PySem.W.Frag) (T:String) (r:V→List V→Hp→VK→Prop) (to:TE) (t:TA):TE:=fun σ H Q=>to σ H fun x H1=>By K T x H1∧t σ H1 fun xs H2=>r x xs H2 Q
variable {o e:Expr}{es:List Expr}{to:TE}{t:TA}{name:Str}{apos cpos:Pos}{T id:String}{r:V→List V→Hp→VK→Prop}
theorem BX (pa:PlainAttrs T) (slot:Slot T name id) (hty:typeOf (.builtin id)=pure (.type "method_descriptor")) (hm:xg X id r) (ho:PE X o to)
 (hbase:attributeBase o name X.env (eval o X.env)=eval o X.env:=by rfl) (hline:(apos.endLine==cpos.line)=true:=by rfl):PE X (.Call (.Attribute o name apos) [] [] cpos) (Fc X.K T r to):=by
 intro pins s σ H Q I h
 refine wpAny_Call_method0_late hbase hline (aH (ho pins s σ H _ I h) fun v s1 ⟨x,H1,I1,r1,ty,q1⟩=>?_)
 obtain ⟨h1,h2⟩:=xB I1 r1 ty
 exact ⟨T,id,pa,slot,hty,h1,h2,Calls.callWith_builtin rfl (PySem.evalArgs_none (hm pins s1 σ H1 x [] v [] Q I1 r1 .nil q1))⟩
theorem Dw (pa:PlainAttrs T) (slot:Slot T name id) (hty:typeOf (.builtin id)=pure (.type "method_descriptor")) (hm:xg X id r) (ho:PE X o to) (ha:PA X (e :: es) t)
 (hbase:attributeBase o name X.env (eval o X.env)=eval o X.env:=by rfl)
 (hfew:((backTo cpos (starEach (e :: es) X.env)).all (fun x=>!x.1) && (backToKw cpos (keywordEach [] X.env)).all (fun x=>x.1.isSome)
  && decide ((e :: es).length+([]:List Keyword).length+(if ([]:List Keyword).isEmpty then 0 else 1)<30))=true:=by rfl)
 (hline:(apos.endLine==cpos.line)=true:=by rfl) (hs:starEach (e :: es) X.env=(false,eval e X.env) :: starEach es X.env:=by rfl) (hplain:(backTo cpos (starEach es X.env)).any (·.1)=false:=by rfl) :
 PE X (.Call (.Attribute o name apos) (e :: es) [] cpos) (EZ X.K T r to t):=by
 intro pins s σ H Q I h
 refine wpAny_Call_method_late hbase hfew hline rfl (aH (ho pins s σ H _ I h) fun v s1 ⟨x,H1,I1,r1,ty,q1⟩=>?_)
 obtain ⟨h1,h2⟩:=xB I1 r1 ty
 refine ⟨T,id,pa,slot,hty,h1,h2,?_⟩
 have hA:=ha cpos pins s1 σ H1 _ I1 q1
 rw [hs] at hA ⊢
 refine Calls.callWith_builtin (by show (false || (backTo cpos (starEach es X.env)).any (·.1))=false;rw [hplain] <;> rfl) (Calls.evalArgs_plain ?_)
 exact aH hA fun us s2 ⟨vs,H2,I2,r2,q2⟩=>hm pins s2 σ H2 x vs v us Q I2 r1 r2 q2
/- xs.append(e), list.index on a module's tuple .. are xg facts of 06m -/
end
end L2
namespace L2
open PySem PySem.Spec PyProof.Rows
def yl (X:Cx) (id:String) (r:V→List V→Hp→VK→Prop):Prop:=
 ∀(pins:List (Addr×Obj)) (s:Shared) (σ:St) (H:Hp) (x:V) (xs:List V) (v:Value) (us:List Value) (Q:VK),ac X pins σ H s→aN x v→ar xs us→r x xs H Q→
   wpAny (model X.prog X.w) X.A (call (.builtin id) (v :: us)) (EP X pins σ Q) X.xe s
theorem Paired.un {α β:Type}{R:α→β→Prop}{x:α}{xs:List α}{us:List β} (h:Paired R (x :: xs) us):bh fun u vs=>us=u :: vs∧R x u∧Paired R xs vs:=by
 cases h with
 | cons r q=>exact ⟨_,_,rfl,r,q⟩
theorem Paired.un0 {α β:Type}{R:α→β→Prop}{us:List β} (h:Paired R [] us):us=[]:=by
 cases h with
 | nil=>rfl
theorem ar.one {x:V}{us:List Value} (h:ar [x] us):∃u,us=[u]∧aN x u:=by
 obtain ⟨u,vs,rfl,r,q⟩:=Paired.un h
 rw [Paired.un0 q]
 exact ⟨u,rfl,r⟩
theorem ar.two {x y:V}{us:List Value} (h:ar [x,y] us):bh fun u v=>us=[u,v]∧aN x u∧aN y v:=by
 obtain ⟨u,vs,rfl,r,q⟩:=Paired.un h
 obtain ⟨v,rfl,q2⟩:=ar.one q
 exact ⟨u,v,rfl,r,q2⟩
theorem ar.zero:∀{us:List Value},ar [] us→us=[]
 | _,.nil=>rfl
theorem ar.dropLast {xs:List V}{us:List Value} (h:ar xs us):ar xs.dropLast us.dropLast:=by
 induction h with
 | nil=>exact .nil
 | cons r t ih=>
  cases t with
  | nil=>exact .nil
  | cons q t'=>exact .cons r ih
theorem vL {α:Type} (l:List α):l.eraseIdx (l.length - 1)=l.dropLast:=by
 induction l with
 | nil=>rfl
 | cons a r ih=>
  cases r with
  | nil=>rfl
  | cons b r=>
   have e:(a :: b :: r).length - 1=((b :: r).length - 1)+1:=by
    have h1:(a :: b :: r).length=r.length+2:=rfl
    have h2:(b :: r).length=r.length+1:=rfl
    trivial
   rw [e,List.eraseIdx_cons_succ,ih]
   all_goals rfl
section
variable {X:Cx}{pins:List (Addr×Obj)}{σ:St}{H:Hp}{s:Shared}{l b:Addr}{xs ys zs:List V}
theorem ac.lset {its its':List Value}{n:Nat}{f:Array Value→Array Value}{t':Nat} (I:ac X pins σ H s) (hH:H l=some (.lst xs))
 (e:s.heap.get? l=some { cls:=.type "list",data:=.seq its.toArray n }) (hf:f its.toArray=its'.toArray) (hv:ar ys its') (hz:ys.length≤sizeLine) :
 ac X pins σ (aC H l (.lst ys)) { s with heap:=s.heap.update l (Obj.mapSeq f),toks:=t' }:=by
 have q:=PySem.IsL.update e f
 rw [hf] at q
 refine I.write (x:=l) (e:=l) (by rw [hH];exact trivial) (.inl rfl) (fun b' u hb hu=>(Heap.get?_update_other s.heap (Obj.mapSeq f) (Ne.symm hb)).trans hu) ⟨_,q⟩ ?_
 exact ⟨hz,its',_,hv,q⟩
theorem ac.lnew {its:List Value}{t':Nat} (I:ac X pins σ H s) (hv:ar ys its) (hz:ys.length≤sizeLine) :
 ac X pins σ (aC H s.heap.objs.size (.lst ys)) { s with heap:=s.heap.push { cls:=.type "list",data:=.seq its.toArray },toks:=t' }:=
 I.laid (fun _ _ q=>Heap.get?_push_of_some _ q) (Nat.le_refl _) ⟨hz,its,0,hv,Heap.get?_push_size _ rfl⟩
theorem ac.fresh (I:ac X pins σ H s):H s.heap.objs.size=none:=I.hok.fresh (Nat.le_refl _)
theorem ac.lstM (I:ac X pins σ H s) (hH:H l=some (.lst xs)):xs.length≤sizeLine∧bh fun (its:List Value) (n:Nat)=>ar xs its∧xs.length=its.length∧s.heap.get? l=some { cls:=.type "list",data:=.seq its.toArray n }:=by
 obtain ⟨z,its,n,r,e⟩:=I.hok l _ hH
 exact ⟨z,its,n,r,r.length,e⟩
end
section
variable {X:Cx}
inductive y4 (x:V) (vs:List V) (H:Hp) (Q:VK):Prop
 | mk (l:_) (xs:_) (y:_) (h0:x=.ref l) (h1:vs=[y]) (h2:H l=some (.lst xs)) (h3:xs.length<sizeLine) (h4:Q .non (aC H l (.lst (xs++[y]))))
def AA:V→List V→Hp→VK→Prop:=fun x vs H Q=>y4  x vs H Q
theorem rQ:yl X "list.append" AA:=by
 intro pins s σ H x vs v us Q I rx rv h
 obtain ⟨l,xs,y,rfl,rfl,hH,hz,q⟩:=h
 cases rx
 obtain ⟨u,rfl,ru⟩:=rv.one
 obtain ⟨z,its,n,r,hl,e⟩:=I.lstM hH
 refine call_meets F.slot_list_append ⟨_,e,rfl⟩ F.entry_list_append (F.args_list_append_2 _ _) (PySem.list_append l its.toArray n u (by rw [List.size_toArray];trivial)) ⟨e,?_⟩
 refine ⟨.non,_,I.lset (its':=its++[u]) hH e (by simp) (r.append (.cons ru .nil)) ?_,rfl,q⟩
 rw [List.length_append,List.length_singleton]
 trivial
inductive Ej (x:V) (vs:List V) (H:Hp) (Q:VK):Prop
 | mk (l:_) (xs:_) (y:_) (h0:x=.ref l) (h1:vs=[]) (h2:H l=some (.lst xs)) (h3:xs[xs.length - 1]?=some y) (h4:Q y (aC H l (.lst xs.dropLast)))
def FE:V→List V→Hp→VK→Prop:=fun x vs H Q=>Ej  x vs H Q
theorem Dk:yl X "list.pop" FE:=by
 intro pins s σ H x vs v us Q I rx rv h
 obtain ⟨l,xs,y,rfl,rfl,hH,hy,q⟩:=h
 cases rx
 have hus:=rv.zero
 subst hus
 obtain ⟨z,its,n,r,hl,e⟩:=I.lstM hH
 obtain ⟨u,hu,ru⟩:=r.get hy
 have hy':its.toArray[its.toArray.size - 1]?=some u:=by
  show its.toArray[its.length - 1]?=some u
  rw [←Array.getElem?_toList,←hl]
  exact hu
 refine call_meets F.slot_list_pop ⟨_,e,rfl⟩ F.entry_list_pop (F.args_list_pop_1 _) (MeetsSeq.list_pop_last l its.toArray n u hy' (by rw [List.size_toArray];trivial)) ⟨e,?_⟩
 refine ⟨y,_,I.lset (its':=its.dropLast) hH e ?_ r.dropLast ?_,ru,q⟩
 ·show its.toArray.eraseIdxIfInBounds (its.toArray.size - 1)=its.dropLast.toArray
  rw [List.size_toArray,List.eraseIdxIfInBounds_toArray,vL]
 ·rw [List.length_dropLast]
  trivial
inductive EM (x:V) (y:V) (H:Hp) (Q:VK):Prop
 | mk (l:_) (b:_) (xs:_) (zs:_) (h0:x=.ref l) (h1:y=.ref b) (h2:H l=some (.lst xs)) (h3:H b=some (.lst zs)) (h4:xs.length+zs.length≤sizeLine) (h5:∀p,H p=none→Q (.ref p) (aC H p (.lst (xs++zs))))
def FA:R2:=fun x y H Q=>EM  x y H Q
theorem Dc:bF X (binaryOp .Add) FA:=by
 intro pins s σ H x y v u Q I rx ry h
 obtain ⟨l,b,xs,zs,rfl,rfl,hH,hB,hz,q⟩:=h
 cases rx
 cases ry
 obtain ⟨z,its,n,r,hl,e⟩:=I.lstM hH
 obtain ⟨z2,its2,n2,r2,hl2,e2⟩:=I.lstM hB
 refine PySem.P.add_list e e2 ?_ (by rw [List.size_toArray,List.size_toArray];trivial)
 have ea:its.toArray++its2.toArray=(its++its2).toArray:=by simp
 rw [ea]
 exact ⟨.ref _,_,I.lnew (t':=s.toks) (r.append r2) (by rw [List.length_append];trivial),rfl,q _ I.fresh⟩
theorem A8 {α:Type} (xs:List α) (k:Nat):(List.replicate k xs).flatten.length=k*xs.length:=by
 induction k with
 | zero=>simp
 | succ k ih=>rw [List.replicate_succ,List.flatten_cons,List.length_append,ih,Nat.succ_mul,Nat.add_comm]
end
section
variable {prog:Program}{w:World}{A:Around}{E:Value→Shared→Prop}{s:Shared}
set_option maxRecDepth 100000 in
end
section
variable {X:Cx}
end
end L2
namespace Att
open PySem PySem.W PySem.Calls PyProof.Rows
theorem qx {P:Params}{h:Heap}:∀(ns:List Int) (vs:List Value),WellAll P h vs (ns.map WData.int)→IntsAre vs ns:=by
 intro ns
 induction ns with
 | nil=>
  intro vs w
  rw [List.map_nil] at w
  cases w
  exact .nil
 | cons n ns ih=>
  intro vs w
  rw [List.map_cons] at w
  cases w with
  | cons a b=>
   cases a
   exact .cons _ _ (ih _ b)
theorem xt {l:OpenLaw}{n:Nat} (hn:l.most=some n) {P:Params}{h:Heap}{args:List WData}{vals:List Value}
 (hpre:l.row.toRowW.claim.pre args=true) (hwl:WellAll P h vals args) :
 ∃a vs ns,vals=[Value.ref a]∧args=[WData.list (ns.map WData.int)]∧h.get? a=some { cls:=.type "list",data:=.seq vs.toArray }∧IntsAre vs ns∧ns.length≤n:=by
 have hsh:WShape.hasAll [] args [.list .int]=true:=(pre_splitW hpre).1
 have hc:l.pre.holds [] { args:=args }=true:=(pre_splitW hpre).2
 obtain ⟨d,r,rfl,h1,h2⟩:=hasAllW_cons hsh
 obtain rfl:=hasAllW_nil h2
 obtain ⟨xs,rfl,h3⟩:=hasW_list h1
 obtain ⟨ns,rfl⟩:=items_int h3
 have hlen:ns.length≤n:=by
  unfold OpenLaw.pre at hc
  have h4:(WTm.not (.lt (.lit (.int (n:Int))) (.len (.arg 0)))).holds [] { args:=[.list (ns.map .int)] }=true:=by
   have h4:=(holds_andW hc).1
   rw [hn] at h4
   exact h4
  have h5:=condW_of h4 (w_not (w_lt w_lit (w_len_list (w_arg rfl))))
  rw [List.length_map] at h5
  refine Nat.le_of_not_lt fun q=>?_
  have q':(n:Int)<((ns.length:Nat):Int):=by trivial
  first
   | (rw [decide_eq_true q'] at h5;exact absurd h5 (by decide))
   | (simp at h5;trivial)
 cases hwl with
 | cons w1 w2=>
  cases w2
  cases w1 with
  | list ho hall=>exact ⟨_,_,ns,rfl,rfl,ho,qx ns _ hall,hlen⟩
theorem yg (l:OpenLaw) (args:List WData):l.row.toRowW.claim.post args (.bool true) args=true:=
 postW_of (r:=l.row.toRowW) (X:=(true==true))
  (show WShape.has [] (.bool true) .bool=true by first | rfl | decide | simp [WShape.has,WShape.arms,WShape.armsAll])
  (show (WTm.eq .res (.lit (.bool true))).value [] { args:=args,res:=some (.bool true),after:=args }=some (.bool (true==true)) from w_eq_bool (w_res rfl) w_lit) rfl
theorem attach_call {l:OpenLaw}{n:Nat}{q:Program}{loose:List Str}{XP:(Str→Option Value)→Heap→Prop}{YP:World→Heap→Prop}{d:DefRec}
 (hn:l.most=some n) (hdf:d.params.defaults=[])
 (call:∀(w:World) (s₀ s₁:Shared) (mg mb:Str→Option Value) (fa:Addr) (o:Obj) (pm cd doc:Value) (a:Addr) (vs:List Value) (ns:List Int),
  Ground q loose [] XP w s₀ mg mb s₁.heap→YP w s₁.heap→
  s₁.heap.get? fa=some o→o.data=.func (docDef d.name d.params d.body d.scope pm cd doc)→s₁.heap.CodeRec cd d.name→mg d.name=some (.ref fa)→
  s₁.heap.get? a=some { cls:=.type "list",data:=.seq vs.toArray }→IntsAre vs ns→ns.length≤n→s₁.gens=#[]→
  codeAny (model l.prog w) callerA (.call (.ref fa) ⟨[.ref a],[]⟩) (fun r s'=>r=.ok (.ret (.bool true))∧OldK s₁.heap s'.heap∧s'.os=s₁.os∧AllBare s'.gens) s₁) :
 WalkO q loose XP YP l.row.toRowW d [] (fun f vs=>PySem.call f vs):=by
 intro w s₀ s₁ mg mb G Y fa o pm cd doc dV kV ho hd hcd hD hmg hg args vals as hpre hlay hrd hwl hlo
 obtain rfl:dV=.none:=Dflts.none hD hdf
 obtain rfl:kV=.none:=Dflts.noKw hD
 obtain ⟨a,vs,ns,rfl,rfl,hobj,hints,hlen⟩:=xt hn hpre hwl
 refine enter_call (codeAny_mono (call w s₀ s₁ mg mb fa o pm cd doc a vs ns G Y ho (fd_plain hd) hcd hmg hobj hints hlen hg) fun r s' hq=>?_)
 obtain ⟨rfl,h2,h3,h4⟩:=hq
 exact ⟨.inl ⟨.bool true,.bool true,[],rfl,fun _=>rfl,.bool true,yg l _,fun _=>⟨List.Pairwise.nil,fun _ hm=>(nomatch hm)⟩⟩,h2,h3,h4⟩
section
variable {prog:Program}{w:World}{A:Around}{E:Value→Shared→Prop}{s:Shared}{K:Frag}
end
end Att
namespace L2
open PySem PySem.Spec PyProof.Rows
theorem rV:∀{vs:List Value}{ns:List Int},IntsAre vs ns→ar (ns.map V.int) vs
 | _,_,.nil=>.nil
 | _,_,.cons n t h=>.cons ⟨t,rfl⟩ (rV h)
def rE (H:Hp):Prop:=∀b,H b=none∨bh fun o xs=>H b=some (.frz o (.lst xs))
theorem zr {P:Program}{w:World}{K:PySem.W.Frag}{mg mb:Str→Option Value}{CX:jx}{k:Nat}{fa a:Addr}{fd:FuncData}{x:Str}{sp:Sp}{s₁:Shared}{vs:List Value}{ns:List Int}
 (KX:K.In s₁.heap) (hns:s₁.heap.Ns mainGlobals mg) (hb:s₁.heap.Ns builtinsNs mb) (hbb:∀x:Str,x≠"__name__"→mb x=bootBuiltins x) (hlim:s₁.heap.NoLimit) (hg:s₁.gens=#[])
 (ha:s₁.heap.get? a=some { cls:=.type "list",data:=.seq vs.toArray }) (hi:IntsAre vs ns) (hl:ns.length≤sizeLine) (hr:bR k callerA)
 (F:∀base:Heap,K.In base→base.Ns mainGlobals mg→aT P w K mg base CX k fa fd [x] sp) (hbind:∀(s:Shared) (u:Value),BindsTo s fd ⟨[u],[]⟩ [(x,u)])
 (hsp:∀H:Hp,rE H→ap K H a (ns.map V.int)→sp [.ref a] H (fun v _=>v=.bl true) fun _ _ _=>False)
 (hCX:∀H e s',CX [] H s₁ (fun _ _ _=>False) e s'→False) :
 codeAny (model P w) callerA (.call (.ref fa) ⟨[.ref a],[]⟩) (fun r s'=>r=.ok (.ret (.bool true))∧OldK s₁.heap s'.heap∧s'.os=s₁.os∧AllBare s'.gens) s₁:=by
 have rv:=rV hi
 have lenV:=hi.length
 have core:∀H:Hp,rE H→ap K H a (ns.map V.int)→cN P w H s₁.heap→(∀b,H b≠none→b=a)→(H a≠none→K.lookup a=none)→
  codeAny (model P w) callerA (.call (.ref fa) ⟨[.ref a],[]⟩) (fun r s'=>r=.ok (.ret (.bool true))∧OldK s₁.heap s'.heap∧s'.os=s₁.os∧AllBare s'.gens) s₁:=by
  intro H hO hS hok hA hK
  have base_of:∀{b:Addr}{o:Obj},s₁.heap.get? b=some o→H b=none→(mE s₁.heap H).get? b=some o:=fun e n=>zn e n
  have noA:∀{b:Addr}{o:Obj}{es:Array DictEntry}{ep:Nat},s₁.heap.get? b=some o→o.data=.dict es ep→H b=none:=fun {b o es ep} e d=>by
   cases q:H b with
   | none=>rfl
   | some u=>
    have e':b=a:=hA b (by rw [q];simp)
    subst e'
    rw [ha] at e;cases e
    have d':Data.seq vs.toArray _=Data.dict es ep:=d
    cases d'
  have nsK:∀{b:Addr}{m:Str→Option Value},s₁.heap.Ns b m→(mE s₁.heap H).Ns b m:=fun {b m} ⟨o,es,ep,e,d,r⟩=>⟨o,es,ep,base_of e (noA e d),d,r⟩
  have hKb:K.In (mE s₁.heap H):=fun b o e=>base_of (KX b o e) (by
   cases q:H b with
   | none=>rfl
   | some u=>
    have e':b=a:=hA b (by rw [q];simp)
    subst e'
    rw [hK (by rw [q];simp)] at e;cases e)
  have hM:Mod K mg (mE s₁.heap H):=⟨hKb,nsK hns,⟨mb,nsK hb,hbb⟩,let ⟨mc,h1,h2⟩:=hlim;⟨mc,nsK h1,h2⟩⟩
  have e0:pI P w K mg (mE s₁.heap H) callerA [] s₁ H:=⟨rfl,hM,fun b o e=>A2 e,Nat.le_of_eq (wW _ _),trivial,fun b hb=>absurd (show b∈([]:List Addr) from hb) (by simp),hok,.of_eq hg⟩
  refine codeAny_mono ((F _ hKb (nsK hns)).run callerA [] s₁ H ⟨[.ref a],[]⟩ [.ref a] [.ref a] _ _ hr e0 (hbind s₁ (.ref a)) (.cons rfl .nil) (hsp H hO hS)) fun r s' h=>?_
  cases r with
  | error e=>exact (hCX H e s' h).elim
  | ok fl=>
   cases fl with
   | next=>exact False.elim h
   | brk=>exact False.elim h
   | cont=>exact False.elim h
   | ret u=>
    obtain ⟨v,H',os,bare,un,hok',r',q⟩:=h
    have q':v=.bl true:=q
    subst q'
    obtain rfl:u=Value.bool true:=r'
    refine ⟨rfl,OldK.of_keep fun b o e=>?_,os,bare⟩
    cases q:H b with
    | none=>exact un.keep b o e q (by intro z;exact absurd (show b∈([]:List Addr) from z) (by simp)) (by simp)
    | some u=>
     rcases hO b with z | ⟨ob,xs,z⟩
     ·rw [q] at z;cases z
     ·have z2:=un.frzs b ob _ z
      obtain ⟨e1,_⟩:=hok b _ z
      obtain ⟨e2,_⟩:=hok' b _ z2
      rw [e] at e1;cases e1
      exact e2
 cases hk:K.lookup a with
 | some o=>
  have e:=KX a o hk
  rw [ha] at e
  cases e
  refine core (fun _=>none) (fun _=>.inl rfl) (.inr ⟨_,vs.toArray,_,hk,rfl,rfl,rfl,by rw [List.size_toArray,lenV];exact hl,by simpa using rv⟩) (fun b u z=>by have z':(none:Option HO)=some u:=z;cases z') (fun b z=>absurd rfl z) fun z=>absurd rfl z
 | none=>
  refine core (fun b=>if b=a then some (.frz { cls:=.type "list",data:=.seq vs.toArray } (.lst (ns.map V.int))) else none) (fun b=>?_) (.inl (.inr ⟨{ cls:=.type "list",data:=.seq vs.toArray },if_pos rfl⟩)) (fun b u z=>?_) (fun b z=>?_) fun _=>hk
  ·by_cases hb:b=a
   ·exact .inr ⟨_,_,if_pos hb⟩
   ·exact .inl (if_neg hb)
  ·by_cases hb:b=a
   ·have z':=(if_pos hb).symm.trans z
    cases z'
    subst hb
    exact ⟨ha,by rw [List.length_map];exact hl,vs,_,rv,ha⟩
   ·have z':=(if_neg hb).symm.trans z
    cases z'
  ·by_cases hb:b=a
   ·exact hb
   ·exact absurd (if_neg hb) z
theorem walk_of {l:PySem.W.OpenLaw}{n k:Nat}{q:Program}{loose:List Str}{XP:(Str→Option Value)→Heap→Prop}{YP:World→Heap→Prop}{d:DefRec}{K:Params→PySem.W.Frag}{CX:World→jx}{sp:World→Sp}{x:Str}
 (hn:l.most=some n) (hn2:n≤sizeLine) (hdf:d.params.defaults=[]) (hr:bR k callerA)
 (hY:∀(w:World) (h:Heap),YP w h→(K w.params).In h)
 (F:∀(w:World) (mg:Str→Option Value) (fa:Addr) (h:Heap),(K w.params).In h→h.Ns mainGlobals mg→mg d.name=some (.ref fa)→
  ∃fd:FuncData,(∀(s:Shared) (u:Value),BindsTo s fd ⟨[u],[]⟩ [(x,u)])∧
   ∀base:Heap,(K w.params).In base→base.Ns mainGlobals mg→aT l.prog w (K w.params) mg base (CX w) k fa fd [x] (sp w))
 (hsp:∀(w:World) (H:Hp) (a:Addr) (ns:List Int),ns.length≤n→rE H→ap (K w.params) H a (ns.map V.int)→sp w [.ref a] H (fun v _=>v=.bl true) fun _ _ _=>False)
 (hCX:∀(w:World) (H:Hp) (s:Shared) (e:Value) (s':Shared),CX w [] H s (fun _ _ _=>False) e s'→False) :
 PySem.W.WalkO q loose XP YP l.row.toRowW d [] (fun f vs=>PySem.call f vs):=by
 refine Att.attach_call hn hdf fun w s₀ s₁ mg mb fa o pm cd doc a vs ns G Y ho hd hcd hmg hobj hints hlen hg=>?_
 have KX:=hY w _ Y
 obtain ⟨fd,hb,hF⟩:=F w mg fa _ KX G.T.g hmg
 exact zr KX G.T.g G.T.b G.T.builtins G.T.nolimit hg hobj hints (Nat.le_trans hlen hn2) hr hF hb (fun H hO hS=>hsp w H a ns hlen hO hS) fun H e s'=>hCX w H s₁ e s'
theorem yt {l:PySem.W.OpenLaw}{n k:Nat}{q:Program}{loose:List Str}{XP:(Str→Option Value)→Heap→Prop}{YP:World→Heap→Prop}{d:DefRec}{K:Params→PySem.W.Frag}{CX:jx}{sp:PySem.W.Frag→Sp}{x:Str}
 (hn:l.most=some n) (hn2:n≤sizeLine) (hdf:d.params.defaults=[]) (hr:bR k callerA)
 (hY:∀(w:World) (h:Heap),YP w h→(K w.params).In h)
 (F:∀(w:World) (mg:Str→Option Value) (fa:Addr) (h:Heap),(K w.params).In h→h.Ns mainGlobals mg→mg d.name=some (.ref fa)→
  ∃fd:FuncData,(∀(s:Shared) (u:Value),BindsTo s fd ⟨[u],[]⟩ [(x,u)])∧
   ∀base:Heap,(K w.params).In base→base.Ns mainGlobals mg→aT l.prog w (K w.params) mg base CX k fa fd [x] (sp (K w.params)))
 (hsp:∀(K:PySem.W.Frag) (H:Hp) (a:Addr) (ns:List Int),ns.length≤n→rE H→ap K H a (ns.map V.int)→sp K [.ref a] H (fun v _=>v=.bl true) fun _ _ _=>False)
 (hCX:∀(H:Hp) (s:Shared) (e:Value) (s':Shared),CX [] H s (fun _ _ _=>False) e s'→False) :
 PySem.W.WalkO q loose XP YP l.row.toRowW d [] (fun f vs=>PySem.call f vs):=
 walk_of (K:=K) (CX:=fun _=>CX) (sp:=fun w=>sp (K w.params)) hn hn2 hdf hr hY F (fun w H a ns h1 h2 h3=>hsp (K w.params) H a ns h1 h2 h3) fun _ H s e s'=>hCX H s e s'
end L2
/- THE LAST THEOREM (shape; LID, My.* are yours):
 My.Adr: a structure of the addresses that your layer names (classes, functions); My.Txt K t: a structure (Prop) of the equations over K;
 My.txt_mk : {K} {implicit addresses ..} (e1 : nsIn K mainGlobals "law" = some (some (.ref f))) (e2 : K.lookup f = some ⟨oc, od, .func (fnOf "law" "law" params body scope dV kV doc pm an cdv ct), sl⟩) (e3 : codeIn K cdv "law" = true) .. : ∃ t, My.Txt K t
set_option maxRecDepth 100000 in
set_option maxHeartbeats 0 in
theorem PySem.Challenge.cw_LID_holds : PySem.Challenge.rw_LID.Holds := by
 w_on; o_law; k_head; (case hw => w_witness2)
 k_fill
 refine L2.walk_of (l := PySem.Challenge.rw_LID) (n := 63) (k := 40) (x := "script") (CX := fun w => ..) (sp := fun _ => My.sp_law) rfl (by decide) rfl ⟨rfl, by decide, by decide⟩ (fun w h Y => PySem.W.kIn_of Y) ?F ?S ?C
 case F =>
  intro w mg fa h KX G hmg
  have T : ∃ t, My.Txt (L2.KOf KX) t := by
   dsimp only [L2.KOf]                          -- K must stand as «<heap const> w.params» for k_is
   refine' My.txt_mk ?e1 ?e2 ?e3 ..
   (case e1 => PySem.W.k_is)                    -- in the order: a name -> its address -> its object -> its parts
   (case e2 => PySem.W.k_is)
   ..
  obtain ⟨t, T⟩ := T
  have e0 := hmg.symm.trans (PySem.W.mg_of KX G T.law)
  cases e0                                       -- fa is the law's own address
  exact ⟨_, fun s u => .of_eq rfl, fun base kb nb => My.law_fn T kb nb⟩     -- if «.of_eq rfl» comes too early: refine' ⟨_, ?b, fun base kb nb => My.law_fn T kb nb⟩; exact fun s u => .of_eq rfl
 case S => exact fun w H a ns hl hO hS => ..
 case C => exact ..
(the tactic k_is has no namespace: write k_is) -/
namespace L2
open PySem PySem.Spec PyProof.Rows
def rF (s:Stmt):Arguments:=match s with
 | .FunctionDef _ a _ _ _ _ _ _ _ _=>a
 | _=>{ posonlyargs:=[],args:=[],vararg:=none,kwonlyargs:=[],kw_defaults:=[],kwarg:=none,defaults:=[] }
def me (s:Stmt):List Stmt:=match s with
 | .FunctionDef _ _ b _ _ _ _ _ _ _=>b
 | _=>[]
def ah (s:Stmt):Scope:=match s with
 | .FunctionDef _ _ _ _ _ _ sc _ _ _=>sc
 | _=>{ kind:=.function,names:=[],isGenerator:=false,isCoroutine:=false }
abbrev CX0:jx:=fun _ _ _ _ _ _=>False
abbrev E0:XK:=fun _ _ _=>False
theorem eH {X:Cx}:gQ CX0 X E0:=fun _ _ _ _ _ _ _ h=>h.elim
structure f9 (K:PySem.W.Frag) (x qual:Str) (st:Stmt) (f:Addr) (fd:FuncData):Prop where
 ex:FY fun (oc:Value) (od:Option Addr) (kV doc pm:Value) (an:Option Addr) (cdv ct:Value) (osl:Array (Option Value))=>
  fd=PySem.W.fnOf x qual (rF st) (me st) (ah st) .none kV doc pm an cdv ct∧K.lookup f=some ⟨oc,od,.func fd,osl⟩∧PySem.W.codeIn K cdv qual=true
 kp:PySem.W.keepIn K (.ref f)=true
section
variable {P:Program}{w:World}{K:PySem.W.Frag}{mg:Str→Option Value}{base:Heap}
theorem f9.ok {x qual:Str}{st:Stmt}{f:Addr}{fd:FuncData}{N ps:List Str}{k:Nat}{sp:Sp} (F:f9 K x qual st f fd) (S:av N ps (ah st)) (len:∀vs H Q E,sp vs H Q E→vs.length=ps.length)
 (hbody:∀(cdv:Value) (A:Around) (outer:List Env) (s:Shared) (H:Hp) (vs:List V) (Q:VK) (E:XK),bR k (A.deeper (envOfC qual (ah st) s.heap.objs.size f cdv))→sp vs H Q E→
  ∃t,k9 (mM CX0 P w K mg base N qual (ah st) f cdv A outer s H E).nox (me st) t∧t { nx:=fun _ H'=>Q .non H',rt:=Q } (j5 N vs) H):aT P w K mg base CX0 (k+1) f fd ps sp:=by
 obtain ⟨oc,od,kV,doc,pm,an,cdv,ct,osl,rfl,lk,hcd⟩:=F.ex
 refine zR lk hcd S len fun A outer s H vs Q E hr hsp=>?_
 obtain ⟨t,h,q⟩:=hbody cdv A outer s H vs Q E hr hsp
 exact ⟨t,h.nox,q⟩
theorem f9.binds {x qual:Str}{st:Stmt}{f:Addr}{fd:FuncData}{ps:List Str} (F:f9 K x qual st f fd)
 (h:∀(kV doc pm:Value) (an:Option Addr) (cdv ct:Value) (us:List Value),us.length=ps.length→bindArgs (PySem.W.fnOf x qual (rF st) (me st) (ah st) .none kV doc pm an cdv ct) ⟨us,[]⟩=pure (ps.zip us)):bP K fd ps []:=by
 obtain ⟨oc,od,kV,doc,pm,an,cdv,ct,osl,rfl,lk,hcd⟩:=F.ex
 exact .all (h kV doc pm an cdv ct)
end
section
variable {X:Cx}
theorem pv (i:Nat) {x:Str}{pos:Pos} (hN:X.N[i]?=some x:=by rfl) (hv:Aa X.env.scope x:=by first | exact Or.inl rfl | exact Or.inr (Or.inl rfl) | exact Or.inr (Or.inr rfl)) (hd:(x==("__debug__" : Str))=false:=by decide)
 (hcd:(x==("__classdict__" : Str))=false:=by decide):PE X (.Name x pos) (yP i):=xb hN hv hd hcd
end
theorem bw {A B:Prop} (h:B):if false=true then A else B:=by
 rw [if_neg Bool.false_ne_true]
 exact h
theorem bS {A B:Prop} (h:A):if true=true then A else B:=by
 rw [if_pos rfl]
 exact h
theorem eJ {c A B:Prop} [Decidable c] (h1:c→A) (h2:¬c→B):if c then A else B:=by
 by_cases h:c
 ·rw [if_pos h]
  exact h1 h
 ·rw [if_neg h]
  exact h2 h
def ae (H H':Hp):Prop:=∀b o,H b=some o→H' b=some o
theorem ae.refl (H:Hp):ae H H:=fun _ _ h=>h
theorem ae.trans {H H1 H2:Hp} (a:ae H H1) (b:ae H1 H2):ae H H2:=fun c o h=>b c o (a c o h)
theorem ae.free {H H':Hp} (e:ae H H') {l:Addr} (h:H' l=Option.none):H l=Option.none:=by
 cases q:H l with
 | none=>rfl
 | some o=>
  rw [e l o q] at h
  cases h
theorem ae.seq {K:PySem.W.Frag}{H H':Hp}{a:Addr}{xs:List V} (e:ae H H') (h:ap K H a xs):ap K H' a xs:=by
 rcases h with (h | ⟨o,h⟩) | h
 ·exact .inl (.inl (e _ _ h))
 ·exact .inl (.inr ⟨o,e _ _ h⟩)
 ·exact .inr h
end L2
namespace L2
open PySem
theorem qY {scope:Scope}{env:Env} (h:∀y∈scope.names,y.2=.free→∃c,env.cells.lookup y.1=some c) :
 ∃cl,closureFor scope env=pure cl∧(∀x c,cl.lookup x=some c→env.cells.lookup x=some c)∧(∀y∈scope.names,y.2=.free→∃c,cl.lookup y.1=some c):=by
 have go:∀(names:List (Str×NameKind)) (acc:List (Str×Addr)),(∀y∈names,y.2=.free→∃c,env.cells.lookup y.1=some c)→(∀x c,acc.lookup x=some c→env.cells.lookup x=some c)→
  ∃cl,(forIn names acc (fun (x:Str×NameKind) (cs:List (Str×Addr))=>match x with
   | (name,kind)=>if (kind==.free)=true then (do let a ←cellOf env name;pure (ForInStep.yield ((name,a) :: cs))) else pure (ForInStep.yield cs)):Sem (List (Str×Addr)))=pure cl∧
   (∀x c,cl.lookup x=some c→env.cells.lookup x=some c)∧(∀y∈names,y.2=.free→∃c,cl.lookup y.1=some c)∧(∀x c,acc.lookup x=some c→∃c',cl.lookup x=some c'):=by
  intro names
  induction names with
  | nil=>intro acc _ ha;exact ⟨acc,rfl,ha,fun y hy=>(by cases hy),fun x c e=>⟨c,e⟩⟩
  | cons x r ih=>
   intro acc hn ha
   obtain ⟨name,kind⟩:=x
   rw [List.forIn_cons]
   by_cases hk:kind=.free
   ·subst hk
    obtain ⟨c,hc⟩:=hn (name,.free) List.mem_cons_self rfl
    have e:cellOf env name=pure c:=by unfold cellOf;rw [hc]
    obtain ⟨cl,e1,e2,e3,e4⟩:=ih ((name,c) :: acc) (fun y hy=>hn y (List.mem_cons_of_mem _ hy)) (fun x c' hx=>by
     rw [List.lookup_cons] at hx
     split at hx
     ·rename_i hb
      have:x=name:=by simpa using hb
      subst this
      cases hx;exact hc
     ·exact ha x c' hx)
    refine ⟨cl,?_,e2,fun y hy hf=>?_,fun x c' hx=>?_⟩
    ·simp only [beq_self_eq_true,if_true]
     rw [e,pure_bind,pure_bind]
     exact e1
    ·rcases List.mem_cons.mp hy with rfl | hy
     ·exact e4 name c (by simp)
     ·exact e3 y hy hf
    ·by_cases hb:(x==name)=true
     ·have:x=name:=by simpa using hb
      subst this
      exact e4 x c (by simp)
     ·exact e4 x c' (by rw [List.lookup_cons];simp only [Bool.not_eq_true] at hb;rw [hb];exact hx)
   ·have hb:(kind==NameKind.free)=false:=by simpa using hk
    obtain ⟨cl,e1,e2,e3,e4⟩:=ih acc (fun y hy=>hn y (List.mem_cons_of_mem _ hy)) ha
    refine ⟨cl,?_,e2,fun y hy hf=>?_,e4⟩
    ·simp only [hb,Bool.false_eq_true,if_false]
     rw [pure_bind]
     exact e1
    ·rcases List.mem_cons.mp hy with rfl | hy
     ·exact absurd hf hk
     ·exact e3 y hy hf
 obtain ⟨cl,e1,e2,e3,_⟩:=go scope.names [] h (fun x c e=>by simp at e)
 refine ⟨cl,?_,e2,e3⟩
 unfold closureFor
 show (forIn scope.names _ _ >>= fun cs=>pure cs)=_
 rw [bind_pure]
 exact e1
section
variable {prog:Program}{w:World}{A:Around}{R:Result→Shared→Prop}{s:Shared}
theorem tf {elt target iter:Expr}{ifs:List Expr}{scope:Scope}{pos:Pos}{it acc:Value}{env:Env} (I:Nat→Shared→Prop)
 (turn:∀n s,I n s→wpAny (model prog w) A (pyNext it) (fun r s₁=>match r with
  | none=>R (.ok .next) s₁
  | some v=>wpAny (model prog w) A (letOwnedTupleGo target it v) (fun _ s₁'=>wpAny (model prog w) A (assign target env v) (fun _ s₂=>
   wpAny (model prog w) A (forIn ifs true fun c r=>if r=true then do let ok ←isTrue c env (eval c env);pure (ForInStep.yield ok) else pure (ForInStep.yield r)) (fun ok s₃=>
    if ok=true then wpAny (model prog w) A (eval elt env) (fun x s₄=>
     wpAny (model prog w) A (call (.builtin "list.append") [acc,x]) (fun _ s₅=>∃m,m<n∧I m s₅) (fun _ _=>False) s₄) (fun _ _=>False) s₃
    else ∃m,m<n∧I m s₃) (fun _ _=>False) s₂) (fun _ _=>False) s₁') (fun _ _=>False) s₁) (fun _ _=>False) s)
 (n:Nat) (h:I n s) :
 codeAny (model prog w) A (.compLoop (.ListComp elt [⟨target,iter,ifs,0⟩] scope pos) 0 it acc env) R s:=by
 refine codeAny_loop rfl I (fun n s hI=>?_) n h
 show wpAny _ A ((compTurn (.ListComp elt [⟨target,iter,ifs,0⟩] scope pos) 0 it acc env).onRaise (fun x=>do noteFrame x env;theTreesLotGoes x)) _ _ s
 refine wpAny_noted ?_
 rw [compTurn_list]
 refine wpAny_bind (wpAny_standAt (wpAny_bind (wpAny_mono (turn n s hI) (fun r s₁ h₁=>?_) fun _ _ h'=>h'.elim)))
 cases r with
 | none=>exact wpAny_pure h₁
 | some v=>
  refine wpAny_bind (wpAny_mono h₁ (fun _ s₁' h₁'=>?_) fun _ _ h'=>h'.elim)
  refine wpAny_bind (wpAny_mono h₁' (fun _ s₂ h₂=>wpAny_bind (wpAny_mono h₂ (fun ok s₃ h₃=>?_) fun _ _ h'=>h'.elim)) fun _ _ h'=>h'.elim)
  cases ok with
  | false=>exact wpAny_pure ⟨rfl,h₃⟩
  | true=>
   exact wpAny_bind (wpAny_bind (wpAny_mono h₃ (fun x s₄ h₄=>wpAny_bind (wpAny_mono h₄ (fun _ s₅ h₅=>wpAny_pure (wpAny_pure ⟨rfl,h₅⟩)) fun _ _ h'=>h'.elim)) fun _ _ h'=>h'.elim))
end
end L2
namespace L2
open PySem PySem.Spec PyProof.Rows
section
variable {X:Cx}
theorem uT:cE X (.builtin "isinstance") (fun xs H Q=>kz fun x T t b=>xs=[x,.ty T]∧ij X.K H x t∧PySem.W.kitOne X.K t (.type T)=some b∧Q (.bl b) H):=by
 intro pins s σ H xs us Q I r h
 obtain ⟨x,T,t,b,rfl,ty,e,q⟩:=h
 obtain ⟨u,c,rfl,ru,rc⟩:=r.two
 obtain rfl:c=Value.type T:=rc
 exact xI I ru ty e fun tk=>⟨.bl b,H,I.tok tk,rfl,q⟩
end
def dk (X:Cx) (scope:Scope) (cl:List (Str×Addr)) (C:Addr) (N':List Str) (s:Shared) (H:Hp) (ex:List Addr) (pn:List (Addr×Obj)):Cx:=
 { X with N:=N',s₀:=s,H₀:=H,env:=compEnvC scope cl C X.env,outer:=X.stack,ex:=ex,fn:=fun _=>false,pn:=pn,xe:=fun _ _=>False }
def fu (L:Nat) (src:List Nat) (σ:St):St:=List.replicate L none++src.map fun j=>(σ[j]?).join
def ik (σ σ':St):Prop:=σ'.length=σ.length∧∀(i:Nat) v,σ[i]?=some (some v)→σ'[i]?=some (some v)
theorem lm {x:V}{r:St}:ik (none :: r) (some x :: r):=⟨rfl,fun i v e=>by
 cases i with
 | zero=>simp at e
 | succ i=>simpa using e⟩
theorem EC {x y:V}{r:St}:ik (none :: none :: r) (some x :: some y :: r):=⟨rfl,fun i v e=>by
 cases i with
 | zero=>simp at e
 | succ i=>
  cases i with
  | zero=>simp at e
  | succ i=>simpa using e⟩
def oy (X:Cx) (ifs:List Expr) (t:TT):Prop:=
 ∀(pins:List (Addr×Obj)) (s:Shared) (σ:St) (H:Hp) (Q:Bool→Hp→Prop),ac X pins σ H s→t σ H Q→
   wpAny (model X.prog X.w) X.A (forIn ifs true fun c r=>if r=true then do let ok ←isTrue c X.env (eval c X.env);pure (ForInStep.yield ok) else pure (ForInStep.yield r)) (TP X pins σ Q) X.xe s
def tT:TT:=fun _ H Q=>Q true H
theorem eS {X:Cx}:oy X [] tT:=fun _ _ _ H _ I h=>wpAny_pure ⟨H,I,h⟩
def rj (esc:Scope) (N:List Str) (scope:Scope) (N':List Str) (L:Nat) (src:List Nat):Bool:=
 (scope.kind==.function) && scope.names.all (fun y=>y.2 != .cell && (y.2 != .local || scope.names.lookup y.1==some .local) && (y.2 != .free || esc.names.lookup y.1==some .cell || esc.names.lookup y.1==some .free)) &&
  (N'.length==L+src.length) && (List.range src.length).all fun i=>match src[i]?,N'[L+i]? with
   | some j,some x=>(N[j]?==some x) && (scope.names.lookup x==some .free)
   | _,_=>false
structure xo (esc:Scope) (N:List Str) (scope:Scope) (N':List Str) (L:Nat) (src:List Nat):Prop where
 kind:scope.kind=.function
 nocell:∀y∈scope.names,y.2≠.cell
 loc:∀y∈scope.names,y.2=.local→scope.names.lookup y.1=some .local
 free:∀y∈scope.names,y.2=.free→esc.names.lookup y.1=some .cell∨esc.names.lookup y.1=some .free
 len:N'.length=L+src.length
 frees:∀(i j:Nat),src[i]?=some j→∃x,N'[L+i]?=some x∧N[j]?=some x∧scope.names.lookup x=some .free
theorem xw {esc:Scope}{N:List Str}{scope:Scope}{N':List Str}{L:Nat}{src:List Nat} (h:rj esc N scope N' L src=true):xo esc N scope N' L src:=by
 unfold rj at h
 simp only [Bool.and_eq_true,List.all_eq_true] at h
 obtain ⟨⟨⟨h1,h2⟩,h3⟩,h4⟩:=h
 refine ⟨by simpa using h1,fun y hy=>?_,fun y hy e=>?_,fun y hy e=>?_,by simpa using h3,fun i j e=>?_⟩
 ·have:=(h2 y hy).1.1
  simpa using this
 ·have:=(h2 y hy).1.2
  rw [e] at this
  simpa using this
 ·have:=(h2 y hy).2
  rw [e] at this
  simpa using this
 ·have hi:i<src.length:=(List.getElem?_eq_some_iff.mp e).1
  have:=h4 i (List.mem_range.mpr hi)
  rw [e] at this
  cases q:N'[L+i]? with
  | none=>rw [q] at this;simp at this
  | some x=>
   rw [q] at this
   simp only [Bool.and_eq_true,beq_iff_eq] at this
   exact ⟨x,rfl,this.1,this.2⟩
def mG (J:It) (σc:St) (g:TG) (tt:TT) (te:TE) (D:Addr) (H1:Hp) (Q:VK):Prop:=
 ∃W:Nat→Nat→Hp→List V→Prop,(∃m,W 0 m (aC H1 D (.lst [])) [])∧∀i m H ys,W i m H ys→H D=some (.lst ys)∧
  ((J.stop i H∧Q (.ref D) H)∨(J.go i H∧ys.length<sizeLine∧∃N:Hp→List V→Prop,(∀H' ys',N H' ys'→∃m',m'<m∧W (i+1) m' H' ys')∧
    ∀x H',J.yld i H x H'→g x σc H' fun σ2 H2=>ik σc σ2∧tt σ2 H2 fun b H3=>if b=true then te σ2 H3 fun y H4=>H4 D=some (.lst ys)∧N (aC H4 D (.lst (ys++[y]))) (ys++[y]) else N H3 ys))
def wB (wi:TI) (L:Nat) (src:List Nat) (g:TG) (tt:TT) (te:TE):TE:=fun σ H Q=>wi σ H fun J H1=>∀D,H1 D=none→mG J (fu L src σ) g tt te D H1 Q
section
variable {X:Cx}{elt tg iter:Expr}{ifs:List Expr}{scope:Scope}{pos:Pos}{N':List Str}{L:Nat}{src:List Nat}{wi:TI}{g:TG}{tt:TT}{te:TE}
end
theorem yn {J:It}{n:Nat}{H1:Hp}{D:Addr}{σc:St}{g:TG}{tt:TT}{te:TE}{Q:VK} (Pv:Nat→Hp→List V→Prop) (hz:n≤sizeLine) (h0:Pv 0 (aC H1 D (.lst [])) [])
 (hD:∀i H ys,Pv i H ys→H D=some (.lst ys)∧ys.length≤i)
 (hgo:∀i H ys,i<n→Pv i H ys→J.go i H) (hst:∀H ys,Pv n H ys→J.stop n H)
 (hs:∀i H ys x H',i<n→Pv i H ys→J.yld i H x H'→g x σc H' fun σ2 H2=>ik σc σ2∧tt σ2 H2 fun b H3=>if b=true then te σ2 H3 fun y H4=>H4 D=some (.lst ys)∧Pv (i+1) (aC H4 D (.lst (ys++[y]))) (ys++[y]) else Pv (i+1) H3 ys)
 (hd:∀H ys,Pv n H ys→Q (.ref D) H):mG J σc g tt te D H1 Q:=by
 refine ⟨fun i m H ys=>m=n - i∧i≤n∧Pv i H ys,⟨n,by simp,Nat.zero_le _,h0⟩,?_⟩
 rintro i m H ys ⟨rfl,hi,p⟩
 obtain ⟨q1,q2⟩:=hD i H ys p
 refine ⟨q1,?_⟩
 by_cases hlt:i<n
 ·exact .inr ⟨hgo i H ys hlt p,by trivial,Pv (i+1),fun H' ys' p'=>⟨n - (i+1),by trivial,rfl,hlt,p'⟩,fun x H' y=>hs i H ys x H' hlt p y⟩
 ·have e:i=n:=by trivial
  subst e
  exact .inl ⟨hst H ys p,hd H ys p⟩
theorem jD {J:It}{n:Nat}{H1:Hp}{D:Addr}{σc:St}{g:TG}{te:TE}{Q:VK} (Pv:Nat→Hp→List V→Prop) (hz:n≤sizeLine) (h0:Pv 0 (aC H1 D (.lst [])) [])
 (hD:∀i H ys,Pv i H ys→H D=some (.lst ys)∧ys.length≤i)
 (hgo:∀i H ys,i<n→Pv i H ys→J.go i H) (hst:∀H ys,Pv n H ys→J.stop n H)
 (hs:∀i H ys x H',i<n→Pv i H ys→J.yld i H x H'→g x σc H' fun σ2 H2=>ik σc σ2∧te σ2 H2 fun y H4=>H4 D=some (.lst ys)∧Pv (i+1) (aC H4 D (.lst (ys++[y]))) (ys++[y]))
 (hd:∀H ys,Pv n H ys→Q (.ref D) H):mG J σc g tT te D H1 Q:=by
 refine yn Pv hz h0 hD hgo hst (fun i H ys x H' hi p y=>?_) hd
 have e:=hs i H ys x H' hi p y
 have q:(fun (σ2:St) (H2:Hp)=>ik σc σ2∧tT σ2 H2 fun b H3=>if b=true then te σ2 H3 fun y H4=>H4 D=some (.lst ys)∧Pv (i+1) (aC H4 D (.lst (ys++[y]))) (ys++[y]) else Pv (i+1) H3 ys) =
  (fun σ2 H2=>ik σc σ2∧te σ2 H2 fun y H4=>H4 D=some (.lst ys)∧Pv (i+1) (aC H4 D (.lst (ys++[y]))) (ys++[y])):=by
  funext σ2 H2
  unfold tT
  dsimp only
  rw [if_pos rfl]
 rw [q]
 exact e
section
variable {X:Cx}{pins:List (Addr×Obj)}{σ:St}{H:Hp}{s:Shared}{h':Heap}
theorem ac.turnedNew {t':Nat}{ch:List Addr}{T:Addr}{o:HO} (I:ac X pins σ H s) (hf:∀b∈ch,i3 X pins H b) (k:∀b u,b∉ch→s.heap.get? b=some u→h'.get? b=some u)
 (hT:s.heap.objs.size≤T) (new:aW X.prog X.w (aC H T o) h' T o):ac X pins σ (aC H T o) { s with heap:=h',toks:=t' }:=by
 have hn:H T=none:=I.hok.fresh hT
 refine I.step (g':=s.gens) (d':=s.drawn) (ch:=ch) (fun b hb=>?_) (fun b o _ _ hc e _=>k b o hc e) (fun b o _ _ hc e _=>⟨o.slots,k b o hc e⟩) (fun b o hc e n=>?_)
  (fun b o hc e=>⟨o,k b o hc e⟩) (fun b xs e=>?_) (fun b o u e=>?_) (fun b ps e=>?_) (fun m hm=>?_) (fun b u e=>?_) I.bare
 ·obtain ⟨f0,f1,f2,f3,f4,f5⟩:=hf b hb
  exact ⟨f3,f1,f4,f5⟩
 ·rw [ag (Nat.ne_of_lt (Nat.lt_of_lt_of_le (Heap.lt_size e) hT))];exact n
 ·rw [ag (aJ e hn)];exact e
 ·rw [ag (aJ e hn)];exact e
 ·exact ⟨#[],by rw [ag (aJ e hn),e];simp⟩
 ·obtain ⟨o,es,ep,ho,r⟩:=hm
  exact ⟨o,es,ep,k _ o (fun z=>(hf _ z).2.1 rfl) ho,r⟩
 ·by_cases hb:b=T
  ·subst hb;rw [aD] at e;cases e;exact new
  ·rw [ag hb] at e
   refine (I.hok b u e).stay (fun c v hc q=>k c v (fun z=>?_) q) (fun c q=>by rw [ag (aJ q hn)];exact q) fun c xs q=>by rw [ag (aJ q hn)];exact q
   have hcn:=(hf c z).1
   rcases hc with rfl | hc
   ·rw [e] at hcn;cases hcn
   ·rw [hc] at hcn;cases hcn
end
section
variable {X:Cx}
theorem xn {bs:List Bool}{us:List Value} (r:ar (bs.map V.bl) us) {i:Nat}{v:Value} (e:us[i]?=some v):∃b,bs[i]?=some b∧v=.bool b:=by
 have hl:=r.length
 rw [List.length_map] at hl
 have hi:i<us.length:=(List.getElem?_eq_some_iff.mp e).1
 have hb:bs[i]?=some bs[i]:=by simp [hl,hi]
 obtain ⟨u,h1,h2⟩:=r.get (i:=i) (x:=.bl bs[i]) (by rw [List.getElem?_map,hb];rfl)
 rw [e] at h1
 cases h1
 exact ⟨_,hb,h2⟩
theorem AE {s:Shared}{h':Heap}{o:Obj} (hk:∀b x,b∉[s.heap.objs.size]→(s.heap.push o).get? b=some x→h'.get? b=some x):∀b x,s.heap.get? b=some x→h'.get? b=some x:=
 fun b x e=>hk b x (fun hm=>by rw [List.mem_singleton.mp hm] at e;exact Nat.lt_irrefl _ (Heap.lt_size e)) (Heap.get?_push_of_some _ e)
theorem zF (hc:X.calm=true):cE X (.builtin "all") (fun xs H Q=>bh fun (l:Addr) (bs:List Bool)=>xs=[.ref l]∧ap X.K H l (bs.map V.bl)∧Q (.bl (bs.all id)) H):=by
 intro pins s σ H xs us Q I r h
 obtain ⟨l,bs,rfl,hq,q⟩:=h
 obtain ⟨u,rfl,ru⟩:=r.one
 obtain rfl:u=.ref l:=ru
 obtain ⟨its,rv,p,hz⟩:=I.list hq
 have hl:=p.isList
 have hlt:l<s.heap.objs.size:=by obtain ⟨_,e,_⟩:=hl;exact Heap.lt_size e
 refine call_all_walk (wpAny_pyIter_list hl ?_)
 refine ⟨s.heap.objs.size,[s.heap.objs.size,l],[s.heap.objs.size],its.toArray.size,_,_,fun i=>(bs[i]?).getD true,rfl,Walks.list (A:=X.A.in1) (I.ok.hd hc) _ l (Nat.ne_of_lt hlt) its.toArray,
  ⟨⟨_,Heap.get?_push_size _ rfl,rfl,rfl⟩,hl.push _⟩,fun i v s' Q' E' hP hQ=>?_,fun h' tk hk=>?_⟩
 ·obtain ⟨b,e,rfl⟩:=xn rv (i:=i) (v:=v) (by simpa using hP)
  simp only [e,Option.getD_some] at hQ
  exact wpAny_truthy_bool hQ
 ·have e:((List.range its.toArray.size).all fun i=>(bs[i]?).getD true)=bs.all id:=by
   rw [List.size_toArray,←rv.length,List.length_map];exact LSm.range_all bs
  rw [e]
  exact ⟨.bl _,H,I.kept (AE hk),rfl,q⟩
end
def EY (K:PySem.W.Frag) (a:Addr):It:=
 ⟨fun i H=>bh fun xs x=>ap K H a xs∧xs[i]?=some x,fun i H v H'=>bh fun T x=>H T=none∧v=.ref T∧H'=aC H T (.tup [.int (i:Int),x])∧∀xs,ap K H a xs→xs[i]?=some x,fun i H=>∃xs,ap K H a xs∧xs.length≤i⟩
theorem yd {P:Program}{w:World}{K:PySem.W.Frag}{es:List Expr}{kk:Nat}{pos:Pos} (a e it:Addr) (hne:e≠it) :
 qb P w K (.Tuple es kk pos) (EY K a) [e,it] e (fun i h=>(∃old,IsEnum h e it i old)∧h.IsListIter it a i) where
 mem:=by simp
 obj:=fun i h st b hb=>by
  obtain ⟨⟨old,he⟩,o,e1,c,d⟩:=st
  have hb':b=e∨b=it:=by simpa using hb
  rcases hb' with rfl | rfl
  ·exact ⟨_,he,fun v z=>by
    have z':Data.fields _=Data.cell v:=z
    cases z'⟩
  ·exact ⟨o,e1,fun v z=>by rw [d] at z;cases z⟩
 keep:=fun i h h' st k=>by
  obtain ⟨⟨old,he⟩,hi⟩:=st
  exact ⟨⟨old,k e (by simp) _ he⟩,hi.at fun o q=>k it (by simp) o q⟩
 item:=by
  intro X hP hw hK hc i pins s σ H E I hf st hg
  subst hP hw hK
  obtain ⟨⟨old,he⟩,hit⟩:=st
  obtain ⟨xs,x,hq,hx⟩:=hg
  obtain ⟨its,rv,p,hz⟩:=I.list hq
  obtain ⟨u,hu,ru⟩:=rv.get hx
  have hnT:H s.heap.objs.size=none:=I.fresh
  refine wpAny_pyNext_enum_item he hit p.isList (x:=u) (by simpa using hu) hne fun h' ho hit' hT hsz hk=>?_
  refine ⟨(),wpAny_letOwnedTupleGo_enum (s:={ s with heap:=h',toks:=s.toks+1 }) ho fun h'' he'' hs''=>?_⟩
  have helt:e<s.heap.objs.size:=Heap.lt_size he
  have hilt:it<s.heap.objs.size:=by obtain ⟨_,y,_⟩:=hit;exact Heap.lt_size y
  have hT'':h''.get? s.heap.objs.size=some { cls:=.type "tuple",data:=.seq #[.int i s.toks,u] }:=(hs''.2 _ (Nat.ne_of_gt helt)).trans hT
  refine ⟨.ref s.heap.objs.size,aC H s.heap.objs.size (.tup [.int (i:Int),x]),I.turnedNew (ch:=[e,it]) (t':=s.toks+1) hf (fun b o hb q=>?_) (Nat.le_refl _) ?_,rfl,⟨_,x,hnT,rfl,rfl,fun ys hy=>by rw [I.list_inj hy hq];exact hx⟩,⟨⟨u,?_⟩,hit'.extBut hs''.extBut (Ne.symm hne)⟩,fun b hb=>?_⟩
  ·have h1:b≠e:=fun z=>hb (by simp [z])
   have h2:b≠it:=fun z=>hb (by simp [z])
   exact (hs''.2 b h1).trans (hk b o h1 h2 q)
  ·exact ⟨by show 2≤sizeLine;decide,[.int i s.toks,u],.cons ⟨()⟩ (.cons ru .nil),⟨_,hT'',rfl,()⟩,_,hT'',rfl⟩
  ·simpa using he''
  ·have hb':b=e∨b=it:=by simpa using hb
   have hlt:b<s.heap.objs.size:=by rcases hb' with rfl | rfl <;> assumption
   rw [ag (Nat.ne_of_lt hlt)]
   exact (hf b hb).1
 done:=by
  intro X hP hw hK hc i pins s σ H E I hf st hg
  subst hP hw hK
  obtain ⟨⟨old,he⟩,hit⟩:=st
  obtain ⟨xs,hq,hx⟩:=hg
  obtain ⟨its,rv,p,hz⟩:=I.list hq
  obtain ⟨f0,f1,f2,f3,f4,f5⟩:=hf it (by simp)
  have hl:=rv.length
  exact wpAny_pyNext_enum_end (I.ok.hd hc) he hit p.isList (by simp;trivial) fun h' eb=>⟨rfl,I.turned (t':=s.toks) (fun b o hb e=>eb b o hb e) f0 f1 f3 f4 f5⟩
 self:=fun _ _ _ _ _ st h=>by
  obtain ⟨⟨old,he⟩,_⟩:=st
  exact wpAny_pyIter_enum he h
def DQ (K:PySem.W.Frag) (ta:TA):TI:=fun σ H R=>ta σ H fun vs H1=>∃a,vs=[.ref a]∧(∃xs,ap K H1 a xs)∧R (EY K a) H1
theorem Bh {X:Cx}{es:List Expr}{kk:Nat}{tp:Pos}{a:Expr}{ta:TA}{p pos:Pos} (hg:Gl X "enumerate") (hm:X.mg "enumerate" = none) (ha:PA X [a] ta) (hs:starEach [a] X.env=[(false,eval a X.env)]:=by rfl) :
 PI X (.Tuple es kk tp) (.Call (.Name "enumerate" p) [a] [] pos) (DQ X.K ta):=by
 intro pins s σ H R I h
 refine Call_ (iV I hg hm boot_enumerate (PyProof.Rows.callWith_type1 (aH (ha pos pins s σ H _ I h) fun us s1 ⟨vs,H1,I1,r1,q1⟩=>?_) hs rfl))
 obtain ⟨a,rfl,⟨xs,hq⟩,q⟩:=q1
 obtain ⟨u,rfl,ru⟩:=r1.one
 obtain rfl:u=.ref a:=ru
 obtain ⟨its,rv,p,hz⟩:=I1.list hq
 refine call_enumerate_list p.isList fun h' hE hI hsz hk=>wpAny_pyIter_enum hE ?_
 have I2:ac X pins σ H1 { s1 with heap:=h',toks:=s1.toks }:=I1.kept hk
 refine ⟨s1.heap.objs.size+1,[s1.heap.objs.size+1,s1.heap.objs.size],_,_,H1,rfl,I2,yd a (s1.heap.objs.size+1) s1.heap.objs.size (Nat.succ_ne_self _),⟨⟨_,hE⟩,hI⟩,fun b hb=>?_,q⟩
 have hb':b=s1.heap.objs.size+1∨b=s1.heap.objs.size:=by simpa using hb
 have hle:s1.heap.objs.size≤b:=by rcases hb' with rfl | rfl <;> trivial
 exact I1.fpOk hle (I1.hok.fresh hle)
end L2
namespace L2
open PySem PySem.Spec PyProof.Rows
theorem be:bootBuiltins "len" = some (.builtin "len"):=by nofun
theorem iP:bootBuiltins "abs" = some (.builtin "abs"):=by nofun
theorem wL:bootBuiltins "min" = some (.builtin "min"):=by nofun
theorem wo:bootBuiltins "max" = some (.builtin "max"):=by nofun
theorem wH:bootBuiltins "all" = some (.builtin "all"):=by nofun
theorem sI:bootBuiltins "divmod" = some (.builtin "divmod"):=by nofun
theorem gE:bootBuiltins "isinstance" = some (.builtin "isinstance"):=by nofun
theorem gP:bootBuiltins "int" = some (.type "int"):=by nofun
theorem uA:bootBuiltins "bool" = some (.type "bool"):=by nofun
theorem kU:bootBuiltins "list" = some (.type "list"):=by nofun
theorem g9:bootBuiltins "tuple" = some (.type "tuple"):=by nofun
theorem wI {X:Cx}{x:Str}{T:String}{pos:Pos} (hg:Gl X x) (hm:X.mg x=none) (hv:bootBuiltins x=some (.type T)) (hn:x≠"__name__" := by decide) (hd:(x==("__debug__" : Str))=false:=by decide):PE X (.Name x pos) (tC (.ty T)):=
 AZ (v:=.ty T) hg hm hv rfl hn hd
mutual
inductive aS (E:Addr→Prop) (H:Hp):V→PyData→Prop
 | non:aS E H .non .none
 | bl (b:Bool):aS E H (.bl b) (.bool b)
 | int (i:Int):aS E H (.int i) (.int i)
 | str (x:Str):aS E H (.str x) (.str x)
 | lst {a:Addr}{xs:List V}{ds:List PyData} (h:H a=some (.lst xs)) (ne:¬E a) (r:am E H xs ds):aS E H (.ref a) (.list ds)
 | tup {a:Addr}{xs:List V}{ds:List PyData} (h:H a=some (.tup xs)) (r:am E H xs ds):aS E H (.ref a) (.tuple ds)
inductive am (E:Addr→Prop) (H:Hp):List V→List PyData→Prop
 | nil:am E H [] []
 | cons {x:V}{xs:List V}{d:PyData}{ds:List PyData} (h:aS E H x d) (r:am E H xs ds):am E H (x :: xs) (d :: ds)
end
structure aE (E:Addr→Prop) (H H':Hp):Prop where
 old:∀a o,¬E a→H a=some o→H' a=some o
 tup:∀a xs,H a=some (.tup xs)→H' a=some (.tup xs)
mutual
theorem aS.mono {E:Addr→Prop}{H H':Hp} (k:aE E H H'):∀{v:V}{d:PyData},aS E H v d→aS E H' v d
 | _,_,.non=>.non
 | _,_,.bl b=>.bl b
 | _,_,.int i=>.int i
 | _,_,.str x=>.str x
 | _,_,.lst h ne r=>.lst (k.old _ _ ne h) ne (am.mono k r)
 | _,_,.tup h r=>.tup (k.tup _ _ h) (am.mono k r)
theorem am.mono {E:Addr→Prop}{H H':Hp} (k:aE E H H'):∀{vs:List V}{ds:List PyData},am E H vs ds→am E H' vs ds
 | _,_,.nil=>.nil
 | _,_,.cons h r=>.cons (aS.mono k h) (am.mono k r)
end
theorem aE.refl {E:Addr→Prop} (H:Hp):aE E H H:=⟨fun _ _ _ h=>h,fun _ _ h=>h⟩
theorem aE.trans {E:Addr→Prop}{H H1 H2:Hp} (a:aE E H H1) (b:aE E H1 H2):aE E H H2:=⟨fun c o n h=>b.old c o n (a.old c o n h),fun c xs h=>b.tup c xs (a.tup c xs h)⟩
theorem ae.toE {E:Addr→Prop}{H H':Hp} (a:ae H H'):aE E H H':=⟨fun c o _ h=>a c o h,fun c xs h=>a c _ h⟩
theorem ae.new {H:Hp}{p:Addr}{o:HO} (h:H p=none):ae H (aC H p o):=fun b u e=>by rw [ag (aJ e h)];exact e
theorem am.length {E:Addr→Prop}{H:Hp}:∀{vs:List V}{ds:List PyData},am E H vs ds→vs.length=ds.length
 | _,_,.nil=>rfl
 | _,_,.cons _ r=>by simp [am.length r]
theorem am.get {E:Addr→Prop}{H:Hp}:∀{vs:List V}{ds:List PyData}{i:Nat}{v:V},am E H vs ds→vs[i]?=some v→∃d,ds[i]?=some d∧aS E H v d
 | _,_,_,_,.nil,e=>by simp at e
 | _,_,0,_,.cons h _,e=>by simp at e;subst e;exact ⟨_,rfl,h⟩
 | _,_,i+1,v,.cons _ r,e=>by
  obtain ⟨d,h1,h2⟩:=am.get (i:=i) (v:=v) r (by simpa using e)
  exact ⟨d,by simpa using h1,h2⟩
theorem am.append {E:Addr→Prop}{H:Hp}:∀{vs ws:List V}{ds es:List PyData},am E H vs ds→am E H ws es→am E H (vs++ws) (ds++es)
 | _,_,_,_,.nil,s=>s
 | _,_,_,_,.cons h r,s=>.cons h (am.append r s)
mutual
theorem aS.reads {E:Addr→Prop}{P:Program}{w:World}{H:Hp}{h:Heap} (ok:cN P w H h):∀{v:V}{d:PyData},aS E H v d→∀{u:Value},aN v u→∃as,Reads h u d as
 | _,_,.non,u,r=>by obtain rfl:u=.none:=r;exact ⟨_,.none⟩
 | _,_,.bl b,u,r=>by obtain rfl:u=.bool b:=r;exact ⟨_,.bool b⟩
 | _,_,.int i,u,r=>by obtain ⟨t,rfl⟩:=r;exact ⟨_,.int i t⟩
 | _,_,.str x,u,r=>by obtain ⟨t,rfl⟩:=r;exact ⟨_,.str x t⟩
 | _,_,.lst (a:=a) (xs:=xs) e _ q,u,r=>by
  obtain rfl:u=.ref a:=r
  obtain ⟨_,its,n,rv,e1⟩:=(show aW P w H h a (.lst xs) from ok a _ e)
  obtain ⟨as,ra⟩:=am.reads ok q rv
  exact ⟨_,.list e1 rfl rfl (by simpa using ra)⟩
 | _,_,.tup (a:=a) (xs:=xs) e q,u,r=>by
  obtain rfl:u=.ref a:=r
  obtain ⟨_,its,rv,⟨o,e1,c,n,dd⟩,_⟩:=(show aW P w H h a (.tup xs) from ok a _ e)
  obtain ⟨as,ra⟩:=am.reads ok q rv
  exact ⟨_,.tuple e1 c dd (by simpa using ra)⟩
theorem am.reads {E:Addr→Prop}{P:Program}{w:World}{H:Hp}{h:Heap} (ok:cN P w H h):∀{vs:List V}{ds:List PyData},am E H vs ds→∀{us:List Value},ar vs us→∃as,ReadsAll h us ds as
 | _,_,.nil,us,r=>by cases r;exact ⟨_,.nil⟩
 | _,_,.cons q qs,us,r=>by
  cases r with
  | cons r1 rr=>
   obtain ⟨as,h1⟩:=aS.reads ok q r1
   obtain ⟨bs,h2⟩:=am.reads ok qs rr
   exact ⟨_,.cons h1 h2⟩
end
section
variable {X:Cx}
def wK (_ j:Int):Prop:=0<j∧j.natAbs.log2<9000
theorem uw:bF X (binaryOp .FloorDiv) (rI wK fun i j=>.int (i / j)):=rN fun i j _ _ _ _ _ hc q=>by
 rw [←Int.fdiv_eq_ediv_of_nonneg _ (Int.le_of_lt hc.1)] at q
 exact floordiv_int (Int.ne_of_gt hc.1) q (.inl (PyProof.noPylong_of_log2 hc.2))
end
end L2
namespace L2
open PySem PySem.Spec PyProof.Rows
def z9:PyData→String
 | .none => "NoneType"
 | .bool _ => "bool"
 | .int _ => "int"
 | .str _ => "str"
 | .list _ => "list"
 | .tuple _ => "tuple"
 | .dict _ => "dict"
theorem aS.ty {K:PySem.W.Frag}{E:Addr→Prop}{H:Hp}{v:V}{d:PyData} (h:aS E H v d):ij K H v (.type (z9 d)):=by
 cases h with
 | non=>exact .non
 | bl b=>exact .bl b
 | int i=>exact .int i
 | str x=>exact .str x
 | lst h ne r=>exact .lst h
 | tup h r=>exact .tup h
def BS:PyData→Bool
 | .int _=>true
 | .bool _=>true
 | _=>false
def Av:PyData→Bool
 | .bool _=>true
 | _=>false
def C7:PyData→Bool
 | .list _=>true
 | _=>false
theorem Bj {K:PySem.W.Frag} (d:PyData):PySem.W.kitOne K (.type (z9 d)) (.type "int")=some (BS d):=by cases d <;> rfl
theorem yR {K:PySem.W.Frag} (d:PyData):PySem.W.kitOne K (.type (z9 d)) (.type "bool")=some (Av d):=by cases d <;> rfl
theorem zv {K:PySem.W.Frag} (d:PyData):PySem.W.kitOne K (.type (z9 d)) (.type "list")=some (C7 d):=by cases d <;> rfl
inductive DT (K:PySem.W.Frag) (xs:List V) (H:Hp) (Q:VK):Prop
 | mk (x:_) (T:_) (t:_) (b:_) (h0:xs=[x,.ty T]) (h1:ij K H x t) (h2:PySem.W.kitOne K t (.type T)=some b) (h3:Q (.bl b) H)
def Fl (K:PySem.W.Frag):List V→Hp→VK→Prop:=fun xs H Q=>DT K xs H Q
section
variable {X:Cx}
theorem uu:cE X (.builtin "divmod") (fun xs H Q=>bh fun i j=>xs=[.int i,.int j]∧wK i j∧∀p,H p=none→Q (.ref p) (aC H p (.tup [.int (i / j),.int (i % j)]))):=by
 intro pins s σ H xs us Q I r h
 obtain ⟨i,j,rfl,⟨h1,h2⟩,q⟩:=h
 obtain ⟨u,w',rfl,⟨t,rfl⟩,⟨t',rfl⟩⟩:=vY r
 refine divmod_int (by trivial) ?_ (.inl (PyProof.noPylong_of_log2 h2))
 rw [Int.fdiv_eq_ediv_of_nonneg i (by trivial),Int.fmod_eq_emod_of_nonneg i (by trivial)]
 have hn:H s.heap.objs.size=none:=I.hok.fresh (Nat.le_refl _)
 refine ⟨.ref s.heap.objs.size,_,?_,rfl,q _ hn⟩
 refine I.laid (fun b o e=>Heap.get?_push_of_some _ e) (Nat.le_refl _) ⟨by simp only [List.length_cons,List.length_nil];rw [sizeLine_eq];decide,[.int (i / j) s.toks,.int (i % j) (s.toks+1)],.cons ⟨()⟩ (.cons ⟨()⟩ .nil),?_⟩
 exact ⟨⟨_,Heap.get?_push_size s.heap rfl,rfl,0,rfl⟩,_,Heap.get?_push_size s.heap rfl,rfl⟩
end
theorem FO (c:Bool):-(2 ^ 64)<(if c=true then (1:Int) else 0)∧(if c=true then (1:Int) else 0)<2 ^ 64:=by cases c <;> decide
theorem uE (x:Int):0≤(if x<0 then -x else x):=by split <;> trivial
theorem DL {x:Int} (c:Bool) (h:0≤x):0≤x*(if c=true then (1:Int) else 0):=by cases c <;> simp [h]
theorem uX {ms:List Int}{k:Int} (h0:0≤k) (h:k.toNat<ms.length):iy (ms.map V.int) k=some (V.int ms[k.toNat]):=by
 have q:=iE (xs:=ms.map V.int) (j:=k.toNat) (v:=V.int ms[k.toNat]) (by rw [List.getElem?_map];simp [h])
 rwa [Int.toNat_of_nonneg h0] at q
inductive Bx (H:Hp) (b:Addr) (t:Int):Prop
 | mk (c x:Int) (h0:H b=some (.lst [.int c,.int x,.int t])) (h1:0≤c) (h2:0≤x) (h3:x<2147483647)
abbrev Eb (b:Addr):Addr→Prop:=fun a=>a=b
theorem Bx.same {H H':Hp}{b:Addr}{t:Int} (h:Bx H b t) (k:ae H H'):Bx H' b t:=by
 obtain ⟨c,x,e,r,r2,r3⟩:=h
 exact ⟨c,x,k _ _ e,r,r2,r3⟩
theorem sd {H H1:Hp}{b:Addr}{xs:List V}{o:HO} (k:ae H H1) (hb:H1 b=some (.lst xs)):aE (Eb b) H (aC H1 b o):=
 ⟨fun a u n h=>by rw [ag n];exact k a u h,fun a ys h=>by
  have e:=k a _ h
  rw [ag (oV e hb (by intro z;cases z))];exact e⟩
inductive Cs (K:PySem.W.Frag) (vs:List V) (H:Hp) (Q:VK):Prop
 | mk (a:Addr) (ms:List Int) (k:Int) (h0:vs=[.ref a,.int k]) (h1:ap K H a (ms.map V.int)) (h2:0≤k) (h3:k≤63) (h4:∀p H',H p=none→ae H H'→Bx H' p 0→Q (.ref p) H')
def Et (K:PySem.W.Frag):Sp:=fun vs H Q _=>Cs K vs H Q
inductive AB (vs:List V) (H:Hp) (Q:VK):Prop
 | mk (b:Addr) (many t:Int) (h0:vs=[.ref b,.int many]) (h1:Bx H b t) (h2:0<many) (h3:many.natAbs.log2<9000) (h4:0≤t) (h5:t≤1000000) (h6:∀r t' H',0≤r→r<many→t≤t'→t'≤t+1→aE (Eb b) H H'→Bx H' b t'→Q (.int r) H')
def CG:Sp:=fun vs H Q _=>AB  vs H Q
def tI:List Str→Bool
 | []=>true
 | x :: r=>!r.contains x && tI r
theorem xC:∀l:List Str,tI l=true→l.Nodup
 | [],_=>List.nodup_nil
 | x :: r,h=>by
  unfold tI at h
  simp only [Bool.and_eq_true,Bool.not_eq_true',List.contains_eq_mem,decide_eq_false_iff_not] at h
  exact List.nodup_cons.mpr ⟨h.1,xC r h.2⟩
inductive EG (K:PySem.W.Frag) (xs:List V) (H:Hp) (Q:VK):Prop
 | mk (p:_) (ys:_) (h0:xs=[.ref p]) (h1:(ap K H p ys∨af K H p ys)) (h2:Q (.int ys.length) H)
def E3 (K:PySem.W.Frag):List V→Hp→VK→Prop:=fun xs H Q=>EG K xs H Q
section
variable {X:Cx}{K:PySem.W.Frag}
theorem pX (e:X.K=K:=by rfl):cE X (.builtin "isinstance") (Fl K):=by subst e;exact fun pins s σ H xs us Q I r ⟨x,T,t,b,h1,h2,h3,q⟩=>uT pins s σ H xs us Q I r ⟨x,T,t,b,h1,h2,h3,q⟩
theorem eL (e:X.K=K:=by rfl):cE X (.builtin "len") (E3 K):=by subst e;exact fun pins s σ H xs us Q I r ⟨p,ys,h1,h2,q⟩=>nJ pins s σ H xs us Q I r ⟨p,ys,h1,h2,q⟩
theorem Ff (e:X.K=K:=by rfl):lK X (EW K):=by subst e;exact iN
theorem Ee (e:X.K=K:=by rfl):lK X (za K):=by subst e;exact vA
theorem Dz (e:X.K=K:=by rfl):lK X (y8 K):=by subst e;exact wX
theorem FF (e:X.K=K:=by rfl):bF X (compareOp .In) (zK K false):=by subst e;exact xl
theorem qW (e:X.K=K:=by rfl):bF X (compareOp .NotIn) (zK K true):=by subst e;exact tZ
inductive EK (K:PySem.W.Frag) (xs:List V) (H:Hp) (Q:VK):Prop
 | mk (l:Addr) (bs:List Bool) (h0:xs=[.ref l]) (h1:ap K H l (bs.map V.bl)) (h2:Q (.bl (bs.all id)) H)
def E7 (K:PySem.W.Frag):List V→Hp→VK→Prop:=fun xs H Q=>EK K xs H Q
theorem DD (hc:X.calm=true) (e:X.K=K:=by rfl):cE X (.builtin "all") (E7 K):=by subst e;exact fun pins s σ H xs us Q I r ⟨l,bs,h1,h2,q⟩=>zF hc pins s σ H xs us Q I r ⟨l,bs,h1,h2,q⟩
theorem cQ {pos:Pos}{es:List Expr}{k:Nat}{t:pz}{n:Nat} (hc:X.calm=true) (h:xU X es t) (e:X.K=K:=by rfl)
 (hn:(assignEach es X.env).length=n:=by rfl) (hst:(assignEach es X.env).findIdx? (·.1)=none:=by rfl):PG X (.Tuple es k pos) (CP K n t):=by
 subst e;exact xz hc h hn hst
theorem lh {tg l:Expr}{tl:TE} (hl:PE X l tl) (e:X.K=K:=by rfl):PI X tg l (z0 K tl):=by subst e;exact AT hl
theorem kL {tg l:Expr}{tl:TE} (hl:PE X l tl) (e:X.K=K:=by rfl):PI X tg l (CD K tl):=by subst e;exact C5 hl
end
end L2
namespace L2
open PySem PySem.Spec PyProof.Rows
def oW:Expr→Bool
 | .Starred ..=>false
 | _=>true
theorem nN {e:Expr}{es:List Expr}{env:Env} (h:oW e=true):starEach (e :: es) env=(false,eval e env) :: starEach es env:=by
 cases e <;> first | rfl | (simp [oW] at h)
section
variable {X:Cx}{e:Expr}{es:List Expr}{te:TE}{t:TA}
theorem zx (ha:PE X e te) (hr:PA X es t) (hs:oW e=true:=by rfl):PA X (e :: es) (zZ te t):=cO ha hr (nN hs)
theorem pw (i:Nat) {x:Str}{pos:Pos} (hv:Aa X.env.scope x) (hN:X.N[i]?=some x:=by rfl) (hd:(x==("__debug__" : Str))=false:=by decide) (hcd:(x==("__classdict__" : Str))=false:=by decide):PE X (.Name x pos) (yP i):=xb hN hv hd hcd
end
end L2
namespace KM
theorem gcd_fmod (n d:Int):Int.gcd d (n.fmod d)=Int.gcd n d:=by
 apply Nat.dvd_antisymm
 ·apply Int.dvd_gcd
  ·have h1:((Int.gcd d (n.fmod d):Nat):Int) ∣ d:=Int.gcd_dvd_left ..
   have h2:((Int.gcd d (n.fmod d):Nat):Int) ∣ n.fmod d:=Int.gcd_dvd_right ..
   have h3:=Int.dvd_add h2 (Int.dvd_mul_of_dvd_left (c:=n.fdiv d) h1)
   rw [Int.fmod_add_mul_fdiv] at h3
   exact h3
  ·exact Int.gcd_dvd_left ..
 ·apply Int.dvd_gcd
  ·exact Int.gcd_dvd_right ..
  ·rw [Int.fmod_def]
   exact Int.dvd_sub (Int.gcd_dvd_left ..) (Int.dvd_mul_of_dvd_left (Int.gcd_dvd_right ..))
theorem fmod_natAbs_lt (n d:Int) (h:d≠0):(n.fmod d).natAbs<d.natAbs:=by
 rcases Int.lt_trichotomy d 0 with hd | hd | hd
 ·have e:n.fmod d=-((-n).fmod (-d)):=by
   rw [Int.fmod_def,Int.fmod_def]
   have:(-n).fdiv (-d)=n.fdiv d:=Int.neg_fdiv_neg n d
   rw [this,Int.neg_mul];trivial
  have h1:=Int.fmod_nonneg_of_pos (-n) (b:=-d) (by trivial)
  have h2:=Int.fmod_lt_of_pos (-n) (b:=-d) (by trivial)
  trivial
 ·exact absurd hd h
 ·have h1:=Int.fmod_nonneg_of_pos n hd
  have h2:=Int.fmod_lt_of_pos n hd
  trivial
theorem gcd_zero_abs (n:Int):((Int.gcd n 0:Nat):Int)=if n<0 then -n else n:=by
 rw [Int.gcd_zero_right]
 split <;> trivial
theorem gcd_emod (n d:Int):Int.gcd d (n % d)=Int.gcd n d:=by
 by_cases h:d=0
 ·subst h;rw [Int.emod_zero,Int.gcd_comm]
 ·apply Nat.dvd_antisymm
  ·apply Int.dvd_gcd
   ·have h1:((Int.gcd d (n % d):Nat):Int) ∣ d:=Int.gcd_dvd_left ..
    have h2:((Int.gcd d (n % d):Nat):Int) ∣ n % d:=Int.gcd_dvd_right ..
    have h3:=Int.dvd_add h2 (Int.dvd_mul_of_dvd_left (c:=n / d) h1)
    rw [Int.emod_add_mul_ediv] at h3
    exact h3
   ·exact Int.gcd_dvd_left ..
  ·apply Int.dvd_gcd
   ·exact Int.gcd_dvd_right ..
   ·rw [Int.emod_def]
    exact Int.dvd_sub (Int.gcd_dvd_left ..) (Int.dvd_mul_of_dvd_left (Int.gcd_dvd_right ..))
end KM
namespace KM
def low (n d:Int):Int×Int:=if 0<d then (n / (Int.gcd n d:Nat),d / (Int.gcd n d:Nat)) else (-n / (Int.gcd n d:Nat),-d / (Int.gcd n d:Nat))
theorem gcd_pos {n d:Int} (h:d≠0):0<Int.gcd n d:=by
 apply Nat.pos_of_ne_zero
 intro e
 exact h (Int.gcd_eq_zero_iff.mp e).2
theorem gcd_abs (n d:Int):Int.gcd (if n<0 then -n else n) (if d<0 then -d else d)=Int.gcd n d:=by
 split <;> split <;> simp [Int.gcd_neg,Int.neg_gcd]
theorem low_spec (n d:Int) (h:d≠0):1≤(low n d).2∧(low n d).1*d=n*(low n d).2∧Int.gcd (low n d).1 (low n d).2=1∧(low n d).1.natAbs≤n.natAbs∧(low n d).2.natAbs≤d.natAbs:=by
 have g0:=gcd_pos (n:=n) h
 have gi:((Int.gcd n d:Nat):Int)≠0:=by trivial
 have d1:((Int.gcd n d:Nat):Int) ∣ n:=Int.gcd_dvd_left ..
 have d2:((Int.gcd n d:Nat):Int) ∣ d:=Int.gcd_dvd_right ..
 obtain ⟨a,ha⟩:=d1
 obtain ⟨b,hb⟩:=d2
 have ea:n / ((Int.gcd n d:Nat):Int)=a:=by
  conv=>lhs;lhs;rw [ha]
  exact Int.mul_ediv_cancel_left _ gi
 have eb:d / ((Int.gcd n d:Nat):Int)=b:=by
  conv=>lhs;lhs;rw [hb]
  exact Int.mul_ediv_cancel_left _ gi
 have ena:-n / ((Int.gcd n d:Nat):Int)=-a:=by
  have:-n=((Int.gcd n d:Nat):Int)*(-a):=by rw [Int.mul_neg];trivial
  rw [this]
  exact Int.mul_ediv_cancel_left _ gi
 have enb:-d / ((Int.gcd n d:Nat):Int)=-b:=by
  have:-d=((Int.gcd n d:Nat):Int)*(-b):=by rw [Int.mul_neg];trivial
  rw [this]
  exact Int.mul_ediv_cancel_left _ gi
 have hco:Int.gcd a b=1:=by
  have:=Int.gcd_ediv_gcd_ediv_gcd (i:=n) (j:=d) g0
  rw [ea,eb] at this
  exact this
 have hgp:(0:Int)<((Int.gcd n d:Nat):Int):=by trivial
 have habs:n.natAbs=Int.gcd n d*a.natAbs:=by
  conv=>lhs;rw [ha]
  rw [Int.natAbs_mul];rfl
 have hbbs:d.natAbs=Int.gcd n d*b.natAbs:=by
  conv=>lhs;rw [hb]
  rw [Int.natAbs_mul];rfl
 have la:a.natAbs≤n.natAbs:=by rw [habs];exact Nat.le_mul_of_pos_left _ g0
 have lb:b.natAbs≤d.natAbs:=by rw [hbbs];exact Nat.le_mul_of_pos_left _ g0
 have hab:a*d=n*b:=by
  generalize ((Int.gcd n d:Nat):Int)=g at ha hb
  subst ha hb
  rw [Int.mul_comm g a,Int.mul_assoc]
 unfold low
 split
 ·rename_i hd
  refine ⟨?_,?_,?_,?_,?_⟩
  ·show 1≤d / _
   rw [eb]
   have:0<b:=by
    apply Int.pos_of_mul_pos_right (a:=((Int.gcd n d:Nat):Int)) _ hgp
    rw [←hb];exact hd
   trivial
  ·show n / _*d=n*(d / _)
   rw [ea,eb];exact hab
  ·show Int.gcd (n / _) (d / _)=1
   rw [ea,eb];exact hco
  ·show (n / _).natAbs≤_
   rw [ea];exact la
  ·show (d / _).natAbs≤_
   rw [eb];exact lb
 ·rename_i hd
  refine ⟨?_,?_,?_,?_,?_⟩
  ·show 1≤-d / _
   rw [enb]
   have:0 < -b:=by
    apply Int.pos_of_mul_pos_right (a:=((Int.gcd n d:Nat):Int)) _ hgp
    rw [Int.mul_neg,←hb];trivial
   trivial
  ·show -n / _*d=n*(-d / _)
   rw [ena,enb,Int.neg_mul,Int.mul_neg,hab]
  ·show Int.gcd (-n / _) (-d / _)=1
   rw [ena,enb,Int.gcd_neg,Int.neg_gcd];exact hco
  ·show (-n / _).natAbs≤_
   rw [ena,Int.natAbs_neg];exact la
  ·show (-d / _).natAbs≤_
   rw [enb,Int.natAbs_neg];exact lb
end KM
namespace KM
section
variable {p0 p1 q0 q1:Int}
end
theorem fdiv_low {n d:Int} (hd:d≠0):(n.fdiv (if d<0 then -((Int.gcd n d:Nat):Int) else ((Int.gcd n d:Nat):Int)),d.fdiv (if d<0 then -((Int.gcd n d:Nat):Int) else ((Int.gcd n d:Nat):Int)))=low n d:=by
 have g0:(0:Int)≤((Int.gcd n d:Nat):Int):=Int.natCast_nonneg _
 unfold low
 by_cases h:d<0
 ·rw [if_pos h,if_neg (by trivial)]
  have e:∀x:Int,x.fdiv (-((Int.gcd n d:Nat):Int))=-x / ((Int.gcd n d:Nat):Int):=fun x=>by
   rw [←Int.fdiv_eq_ediv_of_nonneg _ g0,←Int.neg_fdiv_neg,Int.neg_neg]
  rw [e,e]
 ·rw [if_neg h,if_pos (by trivial),Int.fdiv_eq_ediv_of_nonneg _ g0,Int.fdiv_eq_ediv_of_nonneg _ g0]
end KM
namespace KM
abbrev Fra:=Int×Int
theorem low_sgn {n d:Int} (hd:0<d):(0<(low n d).1↔0<n)∧((low n d).1<0↔n<0):=by
 obtain ⟨h1,h2,_,_,_⟩:=low_spec n d (by trivial)
 generalize low n d=z at *
 obtain ⟨x,y⟩:=z
 dsimp only at *
 have hy:0<y:=by trivial
 constructor
 ·constructor
  ·intro h
   have:0<x*d:=Int.mul_pos h hd
   rw [h2] at this
   exact Int.pos_of_mul_pos_left this hy
  ·intro h
   have:0<n*y:=Int.mul_pos h hy
   rw [←h2] at this
   exact Int.pos_of_mul_pos_left this hd
 ·constructor
  ·intro h
   have:x*d<0:=Int.mul_neg_of_neg_of_pos h hd
   rw [h2] at this
   apply Decidable.byContradiction
   intro hn
   have:=Int.mul_nonneg (show 0≤n by trivial) (show 0≤y by trivial)
   trivial
  ·intro h
   have:n*y<0:=Int.mul_neg_of_neg_of_pos h hy
   rw [←h2] at this
   apply Decidable.byContradiction
   intro hn
   have:=Int.mul_nonneg (show 0≤x by trivial) (show 0≤d by trivial)
   trivial
end KM
namespace KM
def vl (p:Fra):Rat:=Rat.divInt p.1 p.2
theorem Db {n d:Int} (h:d≠0):vl (low n d)=Rat.divInt n d:=by
 obtain ⟨h1,h2,_⟩:=low_spec n d h
 exact (Rat.divInt_eq_divInt_iff (by trivial) h).mpr (by rw [h2])
theorem CT {a b:Int} (h:a≠0) (k:b≠0):a*b≠0:=Int.mul_ne_zero h k
def lTim (p q:Fra):Fra:=low (p.1*q.1) (p.2*q.2)
theorem vl_tim {p q:Fra} (hp:p.2≠0) (hq:q.2≠0):vl (lTim p q)=vl p*vl q:=by
 unfold lTim
 rw [Db (CT hp hq)]
 exact (Rat.divInt_mul_divInt _ _).symm
theorem vl_zero:vl (0,1)=0:=Rat.zero_divInt 1
end KM
namespace L2
open PySem PySem.Spec PyProof.Rows
section
variable {prog:Program}{w:World}{A:Around}{E:Value→Shared→Prop}{s:Shared}
theorem wj {it t:Addr}{i:Nat}{its:Array Value}{x:Value}{Q:Value→Shared→Prop} (hit:s.heap.IsTupleIter it t i) (ht:s.heap.IsTuple t its) (hx:its[i]?=some x)
 (q:∀h',h'.IsTupleIter it t (i+1)→Heap.SameBut it s.heap h'→Q x { s with heap:=h' }):wpAny (model prog w) A (Builtin.SmallTypes.nextOf (.ref it)) Q E s:=by
 obtain ⟨o,e1,e2,e3⟩:=id hit;obtain ⟨u,e4,_,k,e5⟩:=ht;unfold Builtin.SmallTypes.nextOf
 refine wpAny_bind (wpAny_callSpecial?_slot (name:=Str.ofString "__next__") hit.typeIs F.slot_tuple_iterator_next (wpAny_call_entry F.slot_tuple_iterator_next hit.typeIs F.entry_tuple_iterator_next ?_ (F.args_tuple_iterator_next_1 _)))
 show wpAny _ _ (field (.ref it) 0 >>= _) _ _ s;refine wpAny_bind (wpAny_field e1 e3 (x:=.ref t) rfl ?_)
 show wpAny _ _ (if (Value.ref t==Value.none)=true then _ else _) _ _ s;rw [if_neg (show ¬((Value.ref t==Value.none)=true) from Bool.false_ne_true)]
 show wpAny _ _ (field (.ref it) 1 >>= _) _ _ s;refine wpAny_bind (wpAny_field e1 e3 (x:=.int i 0) rfl ?_)
 show wpAny _ _ (seqItems? (.ref t) >>= _) _ _ s;refine wpAny_bind (wpAny_seqItems e4 e5 ?_)
 simp only [Int.toNat_natCast,hx];refine wpAny_bind (wpAny_setField e1 e3 (by simp) (wpAny_pure ⟨x,rfl,wpAny_pure (q _ ?_ (Heap.SameBut.update ..))⟩))
 exact ⟨_,Heap.get?_update_self _ e1 (Obj.isFreed_of_fields (Obj.data_mapFields e3 _)),(Obj.cls_mapFields ..).trans e2,by rw [Obj.data_mapFields e3];simp [rawInt]⟩
theorem sM {it t:Addr}{i:Nat}{its:Array Value}{Q:Value→Shared→Prop} (hh:A.handled=none) (hit:s.heap.IsTupleIter it t i) (ht:s.heap.IsTuple t its) (hx:its[i]?=none)
 (q:∀h' e,Heap.ExtBut it s.heap h'→(∃o,h'.get? e=some o∧o.cls=.type "StopIteration")→E (.ref e) { s with heap:=h' }):wpAny (model prog w) A (Builtin.SmallTypes.nextOf (.ref it)) Q E s:=by
 obtain ⟨o,e1,e2,e3⟩:=id hit;obtain ⟨u,e4,_,k,e5⟩:=ht;unfold Builtin.SmallTypes.nextOf
 refine wpAny_bind (wpAny_callSpecial?_slot (name:=Str.ofString "__next__") hit.typeIs F.slot_tuple_iterator_next (wpAny_call_entry F.slot_tuple_iterator_next hit.typeIs F.entry_tuple_iterator_next ?_ (F.args_tuple_iterator_next_1 _)))
 show wpAny _ _ (field (.ref it) 0 >>= _) _ _ s;refine wpAny_bind (wpAny_field e1 e3 (x:=.ref t) rfl ?_)
 show wpAny _ _ (if (Value.ref t==Value.none)=true then _ else _) _ _ s;rw [if_neg (show ¬((Value.ref t==Value.none)=true) from Bool.false_ne_true)]
 show wpAny _ _ (field (.ref it) 1 >>= _) _ _ s;refine wpAny_bind (wpAny_field e1 e3 (x:=.int i 0) rfl ?_)
 show wpAny _ _ (seqItems? (.ref t) >>= _) _ _ s;refine wpAny_bind (wpAny_seqItems e4 e5 ?_)
 simp only [Int.toNat_natCast,hx];refine wpAny_bind (wpAny_rule (wpAny_bind (wpAny_setField e1 e3 (by simp) ?_)))
 show wpAny _ _ (newExc (.type "StopIteration") [] >>= _) _ _ _;refine wpAny_bind ?_;simp only [newExc,newTuple]
 refine wpAny_bind (wpAny_newObj_type ?_ (by size_fits));refine wpAny_bind (m:=firstArgMember _ _) (wpAny_of_eq (a:=Value.none) (by first | rfl | (simp only [firstArgMember];rfl)) ?_);refine wpAny_newObj_type ?_ (by size_fits)
 simp only [raiseNew];refine wpAny_bind (wpAny_handled ?_);first | rw [show A.in1.handled=none from hh] | rw [hh]
 refine wpAny_bind (wpAny_pure (wpAny_throw ?_));exact q _ _ (((Heap.SameBut.update ..).extBut.push _).push _) ⟨_,Heap.get?_push_size _ rfl,rfl⟩
end
def ft (h:Heap) (l:Addr) (its:Array Value):Bool→Prop
 | true=>h.IsList l its
 | false=>h.IsTuple l its
def dq (h:Heap) (it l:Addr) (i:Nat):Bool→Prop
 | true=>h.IsListIter it l i
 | false=>h.IsTupleIter it l i
theorem ft.at {h h':Heap}{l:Addr}{its:Array Value}:∀{b:Bool},ft h l its b→(∀o,h.get? l=some o→h'.get? l=some o)→ft h' l its b
 | true,q,k=>Heap.IsList.at q k
 | false,q,k=>Heap.IsTuple.at q k
theorem dq.at {h h':Heap}{it l:Addr}{i:Nat}:∀{b:Bool},dq h it l i b→(∀o,h.get? it=some o→h'.get? it=some o)→dq h' it l i b
 | true,q,k=>Heap.IsListIter.at q k
 | false,q,k=>Heap.IsTupleIter.at q k
theorem ft.lt {h:Heap}{l:Addr}{its:Array Value}:∀{b:Bool},ft h l its b→l<h.objs.size
 | true,⟨_,e,_⟩=>Heap.lt_size e
 | false,⟨_,e,_⟩=>Heap.lt_size e
theorem dq.some {h:Heap}{it l:Addr}{i:Nat}:∀{b:Bool},dq h it l i b→∃o,h.get? it=some o∧∀v,o.data≠.cell v
 | true,⟨o,e,_,d⟩=>⟨o,e,fun v z=>by rw [d] at z;cases z⟩
 | false,⟨o,e,_,d⟩=>⟨o,e,fun v z=>by rw [d] at z;cases z⟩
theorem l4 {prog:Program}{w:World}{A:Around} (hh:A.handled=none) (it l:Addr) (hne:l≠it) (its:Array Value):∀b:Bool,
 Draws prog w A it [it,l] its.size (fun i v=>its[i]?=some v) (fun i h=>dq h it l i b∧ft h l its b)
 | true=>Draws.list hh it l hne its
 | false=>{
  live:=fun _ _ st=>let ⟨o,ho,_⟩:=st.1;⟨o,ho⟩
  frame:=fun _ _ _ st hk=>⟨Heap.IsTupleIter.at st.1 fun o e=>hk it (by simp) o e,Heap.IsTuple.at st.2 fun o e=>hk l (by simp) o e⟩
  item:=fun i s Q E hi st q=>wj st.1 st.2 (x:=its[i]) (by simp [hi]) fun h' it' same=>q _ h' s.toks (by simp [hi]) ⟨it',Heap.IsTuple.extBut st.2 same.extBut hne⟩ same
  done:=fun s Q E st q=>sM hh st.1 st.2 (by simp) q }
structure nM (z TI TO i1 i2:Addr):Prop where
 a1:TI≠z
 a2:TO≠z
 a3:i1≠z
 a4:i2≠z
 a5:TI≠TO
 a6:TI≠i1
 a7:TI≠i2
 a8:TO≠i1
 a9:TO≠i2
 a0:i1≠i2
section
variable {prog:Program}{w:World}{A:Around}{E:Value→Shared→Prop}{s:Shared}
variable {z TI TO i1 i2 l1 l2:Addr}{k:Nat}{xs ys:Array Value}{a b:Value}{c1 c2:Bool}
theorem Ag {x y:Value}{Q:Value→Shared→Prop} (D:nM z TI TO i1 i2) (n1:∀c,c=l1∨c=l2→c≠z∧c≠TO∧c≠i1∧c≠i2)
 (hz:IsZip s.heap z TI TO .none) (hTI:IsPair s.heap TI (.ref i1) (.ref i2)) (hTO:IsPair s.heap TO a b) (hh:A.handled=none)
 (h1:dq s.heap i1 l1 k c1) (h2:dq s.heap i2 l2 k c2) (q1:ft s.heap l1 xs c1) (q2:ft s.heap l2 ys c2) (hx:xs[k]?=some x) (hy:ys[k]?=some y)
 (hQ:∀h' tk,IsZip h' z TI TO (rawInt s.heap.objs.size)→IsPair h' TO x y→dq h' i1 l1 (k+1) c1→dq h' i2 l2 (k+1) c2→IsPair h' s.heap.objs.size x y→h'.objs.size=s.heap.objs.size+1→
  (∀c o,c≠z→c≠TO→c≠i1→c≠i2→s.heap.get? c=some o→h'.get? c=some o)→Q (.ref s.heap.objs.size) { s with heap:=h',toks:=tk }) :
 wpAny (model prog w) A (Builtin.«zip.__next__» ⟨[.ref z],[]⟩) (fun fin s'=>∃v,fin=.done (.ret v)∧Q v s') E s:=by
 obtain ⟨m1,m2,m3,m4⟩:=n1 l1 (.inl rfl)
 obtain ⟨m5,m6,m7,m8⟩:=n1 l2 (.inr rfl)
 have kx:k<xs.size:=(Array.getElem?_eq_some_iff.mp hx).1
 have ky:k<ys.size:=(Array.getElem?_eq_some_iff.mp hy).1
 have D1:=l4 (prog:=prog) (w:=w) hh i1 l1 m3 xs c1
 have D2:=l4 (prog:=prog) (w:=w) hh i2 l2 m8 ys c2
 show wpAny _ _ (field (.ref z) 2 >>= _) _ _ _;refine wpAny_bind (wpAny_field hz rfl (x:=.bool false) rfl ?_)
 show wpAny _ _ (field (.ref z) 3 >>= _) _ _ _;refine wpAny_bind (wpAny_field hz rfl (x:=.ref TI) rfl (wpAny_bind (wpAny_seqItems hTI rfl ?_)))
 show wpAny _ _ (Builtin.SmallTypes.ownedTupleIsFree (.ref z) >>= _) _ _ _;refine wpAny_bind ?_;unfold Builtin.SmallTypes.ownedTupleIsFree
 refine wpAny_bind (wpAny_field hz rfl (x:=.none) rfl (wpAny_pure ?_));simp only [if_true]
 refine wpAny_bind (wpAny_rule (wpAny_bind (wpAny_field hz rfl (x:=.ref TO) rfl (wpAny_bind (wpAny_setField_rec hz (by simp) fun g1 z1 t1=>?_)))))
 replace z1:IsZip g1 z TI TO .ellipsis:=z1
 refine wpAny_bind ?_;simp only [List.zipIdx_cons,List.zipIdx_nil,List.forIn_cons,List.forIn_nil];refine wpAny_bind (wpAny_bind (wpAny_onRaise ?_))
 show wpAny _ _ (Builtin.SmallTypes.nextOf (.ref i1) >>= _) _ _ _
 refine wpAny_bind (D1.item k _ _ _ kx ⟨h1.at fun o e=>t1.extBut _ _ D.a3 e,q1.at fun o e=>t1.extBut _ _ m1 e⟩ fun x' g2 tk2 p1 st1 t2=>wpAny_pure ?_)
 have ex:x=x':=Option.some.inj (hx.symm.trans p1)
 subst ex
 have TO2:IsPair g2 TO a b:=t2.extBut _ _ D.a8 (t1.extBut _ _ D.a2 hTO)
 refine wpAny_bind (wpAny_seqItems TO2 rfl (wpAny_bind (wpAny_updateSeq_pair TO2 fun g3 TO3 t3=>?_)))
 replace TO3:IsPair g3 TO x b:=TO3
 refine wpAny_bind (wpAny_letGo (wpAny_pure ?_));refine wpAny_bind (wpAny_bind (wpAny_onRaise ?_));show wpAny _ _ (Builtin.SmallTypes.nextOf (.ref i2) >>= _) _ _ _
 refine wpAny_bind (D2.item k _ _ _ ky ⟨h2.at fun o e=>t3.extBut _ _ D.a9.symm (t2.extBut _ _ D.a0.symm (t1.extBut _ _ D.a4 e)),q2.at fun o e=>t3.extBut _ _ m6 (t2.extBut _ _ m7 (t1.extBut _ _ m5 e))⟩ fun y' g4 tk4 p2 st2 t4=>wpAny_pure ?_)
 have ey:y=y':=Option.some.inj (hy.symm.trans p2)
 subst ey
 have TO4:IsPair g4 TO x b:=t4.extBut _ _ D.a9 TO3
 refine wpAny_bind (wpAny_seqItems TO4 rfl (wpAny_bind (wpAny_updateSeq_pair TO4 fun g5 TO5 t5=>?_)))
 replace TO5:IsPair g5 TO x y:=TO5
 refine wpAny_bind (wpAny_letGo (wpAny_pure (wpAny_pure ?_)));refine wpAny_bind (wpAny_seqItems TO5 rfl (wpAny_bind (wpAny_newTuple ?_)))
 have sz:g5.objs.size=s.heap.objs.size:=by rw [t5.1,t4.1,t3.1,t2.1,t1.1]
 have z5:IsZip g5 z TI TO .ellipsis:=t5.extBut _ _ D.a2.symm (t4.extBut _ _ D.a4.symm (t3.extBut _ _ D.a2.symm (t2.extBut _ _ D.a3.symm z1)))
 have keep:∀c o,c≠z→c≠TO→c≠i1→c≠i2→s.heap.get? c=some o→g5.get? c=some o:=fun c o d1 d2 d3 d4 e=>t5.extBut _ _ d2 (t4.extBut _ _ d4 (t3.extBut _ _ d2 (t2.extBut _ _ d3 (t1.extBut _ _ d1 e))))
 have it1:dq g5 i1 l1 (k+1) c1:=st1.1.at fun o e=>t5.extBut _ _ D.a8.symm (t4.extBut _ _ D.a0 (t3.extBut _ _ D.a8.symm e))
 have it2:dq g5 i2 l2 (k+1) c2:=st2.1.at fun o e=>t5.extBut _ _ D.a9.symm e
 have zlt:z<g5.objs.size:=Heap.lt_size z5
 show wpAny _ _ (Builtin.SmallTypes.ownedTupleHandOut (.ref z) (.ref g5.objs.size) >>= _) _ _ _;refine wpAny_bind ?_;unfold Builtin.SmallTypes.ownedTupleHandOut
 have z6:IsZip (g5.push { cls:=.type "tuple",data:=.seq #[x,y] }) z TI TO .ellipsis:=Heap.get?_push_of_some _ z5
 refine wpAny_bind (wpAny_setField_rec z6 (by simp) fun g7 z7 t7=>?_)
 replace z7:IsZip g7 z TI TO (rawInt g5.objs.size):=z7
 refine wpAny_setField_rec z7 (by simp) fun g8 z8 t8=>?_
 replace z8:IsZip g8 z TI TO (rawInt g5.objs.size):=z8
 have up:∀c o,c≠z→g5.get? c=some o→g8.get? c=some o:=fun c o d e=>t8.extBut _ _ d (t7.extBut _ _ d (Heap.get?_push_of_some _ e))
 have T8:IsPair g8 g5.objs.size x y:=t8.extBut _ _ (Nat.ne_of_gt zlt) (t7.extBut _ _ (Nat.ne_of_gt zlt) (Heap.get?_push_size _ rfl))
 have s8:g8.objs.size=g5.objs.size+1:=by rw [t8.1,t7.1,Heap.size_push]
 rw [sz] at z8 T8 s8
 refine wpAny_pure ⟨(),?_⟩;show Q (.ref g5.objs.size) _;rw [sz]
 exact hQ g8 _ z8 (up _ _ D.a2 TO5) (it1.at fun o e=>up _ o D.a3 e) (it2.at fun o e=>up _ o D.a4 e) T8 s8 fun c o d1 d2 d3 d4 e=>up c o d1 (keep c o d1 d2 d3 d4 e)
theorem BD {Q:Fin→Shared→Prop} (hh:A.handled=none) (D:nM z TI TO i1 i2) (n1:∀c,c=l1∨c=l2→c≠z∧c≠TO∧c≠i1∧c≠i2)
 (hz:IsZip s.heap z TI TO .none) (hTI:IsPair s.heap TI (.ref i1) (.ref i2)) (hTO:IsPair s.heap TO a b)
 (h1:dq s.heap i1 l1 k c1) (h2:dq s.heap i2 l2 k c2) (q1:ft s.heap l1 xs c1) (q2:ft s.heap l2 ys c2) (hend:xs.size=k∨(k<xs.size∧ys.size=k))
 (hE:∀h' e tk,(∀c o,c≠z→c≠TO→c≠i1→c≠i2→s.heap.get? c=some o→h'.get? c=some o)→(∃o,h'.get? e=some o∧o.cls=.type "StopIteration")→E (.ref e) { s with heap:=h',toks:=tk }) :
 wpAny (model prog w) A (Builtin.«zip.__next__» ⟨[.ref z],[]⟩) Q E s:=by
 obtain ⟨m1,m2,m3,m4⟩:=n1 l1 (.inl rfl)
 obtain ⟨m5,m6,m7,m8⟩:=n1 l2 (.inr rfl)
 have D1:=l4 (prog:=prog) (w:=w) hh i1 l1 m3 xs c1
 have D2:=l4 (prog:=prog) (w:=w) hh i2 l2 m8 ys c2
 show wpAny _ _ (field (.ref z) 2 >>= _) _ _ _;refine wpAny_bind (wpAny_field hz rfl (x:=.bool false) rfl ?_)
 show wpAny _ _ (field (.ref z) 3 >>= _) _ _ _;refine wpAny_bind (wpAny_field hz rfl (x:=.ref TI) rfl (wpAny_bind (wpAny_seqItems hTI rfl ?_)))
 show wpAny _ _ (Builtin.SmallTypes.ownedTupleIsFree (.ref z) >>= _) _ _ _;refine wpAny_bind ?_;unfold Builtin.SmallTypes.ownedTupleIsFree
 refine wpAny_bind (wpAny_field hz rfl (x:=.none) rfl (wpAny_pure ?_));simp only [if_true]
 refine wpAny_bind (wpAny_rule (wpAny_bind (wpAny_field hz rfl (x:=.ref TO) rfl (wpAny_bind (wpAny_setField_rec hz (by simp) fun g1 z1 t1=>?_)))))
 replace z1:IsZip g1 z TI TO .ellipsis:=z1
 refine wpAny_bind ?_;simp only [List.zipIdx_cons,List.zipIdx_nil,List.forIn_cons,List.forIn_nil];refine wpAny_bind (wpAny_bind (wpAny_onRaise ?_))
 show wpAny _ _ (Builtin.SmallTypes.nextOf (.ref i1) >>= _) _ _ _
 have st0:dq g1 i1 l1 k c1∧ft g1 l1 xs c1:=⟨h1.at fun o e=>t1.extBut _ _ D.a3 e,q1.at fun o e=>t1.extBut _ _ m1 e⟩
 rcases hend with hk | ⟨kx,hk⟩
 ·refine wpAny_bind (D1.done _ _ _ (by rw [hk];exact st0) fun g2 e t2 he=>?_)
  obtain ⟨oe,e1,e2⟩:=he
  have z2:IsZip g2 z TI TO .ellipsis:=t2 _ _ D.a3.symm z1
  have ez:e≠z:=fun q=>by subst q;rw [z2] at e1;cases e1;simp at e2
  exact wpAny_setField_rec z2 (by simp) fun g3 _ t3=>hE g3 e _ (fun c o d1 _ d3 _ q=>t3.extBut _ _ d1 (t2 _ _ d3 (t1.extBut _ _ d1 q))) ⟨oe,t3.extBut _ _ ez e1,e2⟩
 ·refine wpAny_bind (D1.item k _ _ _ kx st0 fun x g2 tk2 p1 st1 t2=>wpAny_pure ?_)
  have TO2:IsPair g2 TO a b:=t2.extBut _ _ D.a8 (t1.extBut _ _ D.a2 hTO)
  refine wpAny_bind (wpAny_seqItems TO2 rfl (wpAny_bind (wpAny_updateSeq_pair TO2 fun g3 TO3 t3=>?_)))
  refine wpAny_bind (wpAny_letGo (wpAny_pure ?_));refine wpAny_bind (wpAny_bind (wpAny_onRaise ?_));show wpAny _ _ (Builtin.SmallTypes.nextOf (.ref i2) >>= _) _ _ _
  have st2:dq g3 i2 l2 k c2∧ft g3 l2 ys c2:=⟨h2.at fun o e=>t3.extBut _ _ D.a9.symm (t2.extBut _ _ D.a0.symm (t1.extBut _ _ D.a4 e)),q2.at fun o e=>t3.extBut _ _ m6 (t2.extBut _ _ m7 (t1.extBut _ _ m5 e))⟩
  refine wpAny_bind (D2.done _ _ _ (by rw [hk];exact st2) fun g4 e t4 he=>?_)
  obtain ⟨oe,e1,e2⟩:=he
  have z4:IsZip g4 z TI TO .ellipsis:=t4 _ _ D.a4.symm (t3.extBut _ _ D.a2.symm (t2.extBut _ _ D.a3.symm z1))
  have ez:e≠z:=fun q=>by subst q;rw [z4] at e1;cases e1;simp at e2
  exact wpAny_setField_rec z4 (by simp) fun g5 _ t5=>hE g5 e _ (fun c o d1 d2 d3 d4 q=>t5.extBut _ _ d1 (t4 _ _ d4 (t3.extBut _ _ d2 (t2.extBut _ _ d3 (t1.extBut _ _ d1 q))))) ⟨oe,t5.extBut _ _ ez e1,e2⟩
end
def Ci:Bool→String
 | true => "list_iterator"
 | false => "tuple_iterator"
abbrev zA (h:Heap) (l1:Addr) (c1:Bool):Heap:=h.push { cls:=.type (Ci c1),data:=.fields #[.ref l1,.int 0 0] }
abbrev zB (h:Heap) (l1 l2:Addr) (c1 c2:Bool):Heap:=(zA h l1 c1).push { cls:=.type (Ci c2),data:=.fields #[.ref l2,.int 0 0] }
abbrev zC (h:Heap) (l1 l2:Addr) (c1 c2:Bool):Heap:=(zB h l1 l2 c1 c2).push { cls:=.type "tuple",data:=.seq #[.ref h.objs.size,.ref (zA h l1 c1).objs.size] }
abbrev zD (h:Heap) (l1 l2:Addr) (c1 c2:Bool):Heap:=(zC h l1 l2 c1 c2).push { cls:=.type "tuple",data:=.seq #[.none,.none] }
abbrev zE (h:Heap) (l1 l2:Addr) (c1 c2:Bool):Heap:=(zD h l1 l2 c1 c2).push { cls:=.type "zip",data:=.fields #[.none,.bool false,.bool false,.ref (zB h l1 l2 c1 c2).objs.size,.ref (zC h l1 l2 c1 c2).objs.size] }
set_option maxHeartbeats 8000000 in
theorem Dg (l1 l2:Addr) (xs ys:Array Value) (c1 c2:Bool) :
 Meets (Builtin.«zip.__new__» ⟨[.type "zip",.ref l1,.ref l2],[]⟩) (fun _ R s=>ft s.heap l1 xs c1∧ft s.heap l2 ys c2∧R (.ok (.ret (.ref (zD s.heap l1 l2 c1 c2).objs.size))) { s with heap:=zE s.heap l1 l2 c1 c2 }):=
 .of_wp fun prog w A R s h=>by
  obtain ⟨hp,g,d,tk,os⟩:=s;obtain ⟨q1,q2,h⟩:=h
  have hsub:=sub_zip
  have L2':ft (Shared.heap ⟨zA hp l1 c1,g,d,tk,os⟩) l2 ys c2:=ft.at q2 fun o e=>Heap.get?_push_of_some _ e
  cases c1 <;> cases c2
  ·have g1:Heap.IsTuple (Shared.heap ⟨hp,g,d,tk,os⟩) l1 xs:=q1
   have g2:Heap.IsTuple (Shared.heap ⟨hp.push { cls:=.type "tuple_iterator",data:=.fields #[.ref l1,.int 0 0] },g,d,tk,os⟩) l2 ys:=L2'
   wp_walk using wpAny_pyIter_tuple g1,wpAny_pyIter_tuple g2
   exact ⟨(),h⟩
  ·have g1:Heap.IsTuple (Shared.heap ⟨hp,g,d,tk,os⟩) l1 xs:=q1
   have g2:Heap.IsList (Shared.heap ⟨hp.push { cls:=.type "tuple_iterator",data:=.fields #[.ref l1,.int 0 0] },g,d,tk,os⟩) l2 ys:=L2'
   wp_walk using wpAny_pyIter_tuple g1,wpAny_pyIter_list g2
   exact ⟨(),h⟩
  ·have g1:Heap.IsList (Shared.heap ⟨hp,g,d,tk,os⟩) l1 xs:=q1
   have g2:Heap.IsTuple (Shared.heap ⟨hp.push { cls:=.type "list_iterator",data:=.fields #[.ref l1,.int 0 0] },g,d,tk,os⟩) l2 ys:=L2'
   wp_walk using wpAny_pyIter_list g1,wpAny_pyIter_tuple g2
   exact ⟨(),h⟩
  ·have g1:Heap.IsList (Shared.heap ⟨hp,g,d,tk,os⟩) l1 xs:=q1
   have g2:Heap.IsList (Shared.heap ⟨hp.push { cls:=.type "list_iterator",data:=.fields #[.ref l1,.int 0 0] },g,d,tk,os⟩) l2 ys:=L2'
   wp_walk using wpAny_pyIter_list g1,wpAny_pyIter_list g2
   exact ⟨(),h⟩
theorem vz {h:Heap}{it l:Addr}:∀{c:Bool},h.get? it=some { cls:=.type (Ci c),data:=.fields #[.ref l,.int 0 0] }→dq h it l 0 c
 | true,e=>⟨_,e,rfl,rfl⟩
 | false,e=>⟨_,e,rfl,rfl⟩
section
variable {prog:Program}{w:World}{A:Around}{E:Value→Shared→Prop}{s:Shared}
theorem x6 {l1 l2:Addr}{xs ys:Array Value}{c1 c2:Bool}{Q:Value→Shared→Prop} (q1:ft s.heap l1 xs c1) (q2:ft s.heap l2 ys c2)
 (h:∀h',IsZip h' (s.heap.objs.size+4) (s.heap.objs.size+2) (s.heap.objs.size+3) .none→IsPair h' (s.heap.objs.size+2) (.ref s.heap.objs.size) (.ref (s.heap.objs.size+1))→
  IsPair h' (s.heap.objs.size+3) .none .none→dq h' s.heap.objs.size l1 0 c1→dq h' (s.heap.objs.size+1) l2 0 c2→
  (∀c o,s.heap.get? c=some o→h'.get? c=some o)→Q (.ref (s.heap.objs.size+4)) { s with heap:=h' }) :
 wpAny (model prog w) A (call (.type "zip") [.ref l1,.ref l2]) Q E s:=by
 refine callType_new F.called_zip (by decide) (F.typeCall_zip_2 _ _) (F.newCall_zip_2 _ _) (fun obj=>F.args_object_init_3 obj _ _) F.entry_zip_new (Dg l1 l2 xs ys c1 c2) ⟨q1,q2,?_⟩
 have s1:(zA s.heap l1 c1).objs.size=s.heap.objs.size+1:=Heap.size_push ..
 have s2:(zB s.heap l1 l2 c1 c2).objs.size=s.heap.objs.size+2:=by rw [Heap.size_push,s1]
 have s3:(zC s.heap l1 l2 c1 c2).objs.size=s.heap.objs.size+3:=by rw [Heap.size_push,s2]
 have s4:(zD s.heap l1 l2 c1 c2).objs.size=s.heap.objs.size+4:=by rw [Heap.size_push,s3]
 have g5:(zE s.heap l1 l2 c1 c2).get? (zD s.heap l1 l2 c1 c2).objs.size=some _:=Heap.get?_push_size _ rfl
 have g4:(zE s.heap l1 l2 c1 c2).get? (zC s.heap l1 l2 c1 c2).objs.size=some _:=Heap.get?_push_of_some _ (Heap.get?_push_size _ rfl)
 have g3:(zE s.heap l1 l2 c1 c2).get? (zB s.heap l1 l2 c1 c2).objs.size=some _:=Heap.get?_push_of_some _ (Heap.get?_push_of_some _ (Heap.get?_push_size _ rfl))
 have g2:(zE s.heap l1 l2 c1 c2).get? (zA s.heap l1 c1).objs.size=some _:=Heap.get?_push_of_some _ (Heap.get?_push_of_some _ (Heap.get?_push_of_some _ (Heap.get?_push_size _ rfl)))
 have g1:(zE s.heap l1 l2 c1 c2).get? s.heap.objs.size=some _:=Heap.get?_push_of_some _ (Heap.get?_push_of_some _ (Heap.get?_push_of_some _ (Heap.get?_push_of_some _ (Heap.get?_push_size _ rfl))))
 show _∧_
 rw [s2,s3,s4] at g5
 rw [s1,s2] at g3
 rw [s3] at g4
 rw [s1] at g2
 rw [s4]
 exact ⟨⟨_,g5,rfl⟩,h _ g5 g3 g4 (vz g1) (vz g2) fun c o x=>Heap.get?_push_of_some _ (Heap.get?_push_of_some _ (Heap.get?_push_of_some _ (Heap.get?_push_of_some _ (Heap.get?_push_of_some _ x))))⟩
theorem rz {z TI TO i1 i2 l1 l2:Addr}{k:Nat}{xs ys:Array Value}{a b x y:Value}{c1 c2:Bool}{Q:Option Value→Shared→Prop} (D:nM z TI TO i1 i2) (n1:∀c,c=l1∨c=l2→c≠z∧c≠TO∧c≠i1∧c≠i2)
 (hz:IsZip s.heap z TI TO .none) (hTI:IsPair s.heap TI (.ref i1) (.ref i2)) (hTO:IsPair s.heap TO a b) (hh:A.handled=none)
 (h1:dq s.heap i1 l1 k c1) (h2:dq s.heap i2 l2 k c2) (q1:ft s.heap l1 xs c1) (q2:ft s.heap l2 ys c2) (hx:xs[k]?=some x) (hy:ys[k]?=some y)
 (hQ:∀h' tk,IsZip h' z TI TO (rawInt s.heap.objs.size)→IsPair h' TO x y→dq h' i1 l1 (k+1) c1→dq h' i2 l2 (k+1) c2→IsPair h' s.heap.objs.size x y→h'.objs.size=s.heap.objs.size+1→
  (∀c o,c≠z→c≠TO→c≠i1→c≠i2→s.heap.get? c=some o→h'.get? c=some o)→Q (some (.ref s.heap.objs.size)) { s with heap:=h',toks:=tk }) :
 wpAny (model prog w) A (pyNext (.ref z)) Q E s:=by
 have hT:s.TypeIs (.ref z) "zip" := ⟨_,hz,rfl⟩
 unfold pyNext
 exact wpAny_bind (wpAny_attempt (wpAny_callSpecial?_slot (name:=Str.ofString "__next__") hT F.slot_zip_next (wpAny_call_entry F.slot_zip_next hT F.entry_zip_next
  (Ag D n1 hz hTI hTO hh h1 h2 q1 q2 hx hy fun h' tk a1 a2 a3 a4 a5 a6 a7=>wpAny_pure (hQ h' tk a1 a2 a3 a4 a5 a6 a7)) (F.args_zip_next_1 _))))
theorem sQ {z TI TO i1 i2 l1 l2:Addr}{k:Nat}{xs ys:Array Value}{a b:Value}{c1 c2:Bool}{Q:Option Value→Shared→Prop} (hh:A.handled=none) (D:nM z TI TO i1 i2) (n1:∀c,c=l1∨c=l2→c≠z∧c≠TO∧c≠i1∧c≠i2)
 (hz:IsZip s.heap z TI TO .none) (hTI:IsPair s.heap TI (.ref i1) (.ref i2)) (hTO:IsPair s.heap TO a b)
 (h1:dq s.heap i1 l1 k c1) (h2:dq s.heap i2 l2 k c2) (q1:ft s.heap l1 xs c1) (q2:ft s.heap l2 ys c2) (hend:xs.size=k∨(k<xs.size∧ys.size=k))
 (hQ:∀h' tk,(∀c o,c≠z→c≠TO→c≠i1→c≠i2→s.heap.get? c=some o→h'.get? c=some o)→Q none { s with heap:=h',toks:=tk }):wpAny (model prog w) A (pyNext (.ref z)) Q E s:=by
 have hT:s.TypeIs (.ref z) "zip" := ⟨_,hz,rfl⟩
 unfold pyNext
 refine wpAny_bind (wpAny_attempt (wpAny_callSpecial?_slot (name:=Str.ofString "__next__") hT F.slot_zip_next (wpAny_call_entry F.slot_zip_next hT F.entry_zip_next
  (BD hh D n1 hz hTI hTO h1 h2 q1 q2 hend fun h' e tk hk he=>?_) (F.args_zip_next_1 _))))
 obtain ⟨o,ho,hc⟩:=he
 refine wpAny_bind (wpAny_isInstance (T := "StopIteration") (b:=true) ⟨o,ho,hc⟩ isSubtype_stop (wpAny_pure (hQ _ tk hk)))
end
theorem ac.turnedL {X:Cx}{pins:List (Addr×Obj)}{σ:St}{H:Hp}{s:Shared}{h':Heap}{t':Nat}{ch:List Addr} (I:ac X pins σ H s) (hf:∀b∈ch,i3 X pins H b) (k:∀b u,b∉ch→s.heap.get? b=some u→h'.get? b=some u) :
 ac X pins σ H { s with heap:=h',toks:=t' }:=by
 refine I.step (g':=s.gens) (d':=s.drawn) (ch:=ch) (fun b hb=>?_) (fun b o _ _ hc e _=>k b o hc e) (fun b o _ _ hc e _=>⟨o.slots,k b o hc e⟩) (fun _ _ _ _ n=>n)
  (fun b o hc e=>⟨o,k b o hc e⟩) (fun _ _ e=>e) (fun _ _ _ e=>e) (fun b ps e=>⟨#[],by rw [e];simp⟩) (fun m hm=>?_) (fun b u e=>?_) I.bare
 ·obtain ⟨f0,f1,f2,f3,f4,f5⟩:=hf b hb
  exact ⟨f3,f1,f4,f5⟩
 ·obtain ⟨o,es,ep,ho,r⟩:=hm
  exact ⟨o,es,ep,k _ o (fun z=>(hf _ z).2.1 rfl) ho,r⟩
 ·refine (I.hok b u e).stay (fun c v hc q=>k c v (fun z=>?_) q) (fun _ q=>q) fun _ _ q=>q
  have hcn:=(hf c z).1
  rcases hc with rfl | hc
  ·rw [e] at hcn;cases hcn
  ·rw [hc] at hcn;cases hcn
def i8 (K:PySem.W.Frag) (H:Hp) (a:Addr) (xs:List V):Bool→Prop
 | true=>ap K H a xs
 | false=>af K H a xs
theorem ac.seqC {X:Cx}{pins:List (Addr×Obj)}{σ:St}{H:Hp}{s:Shared}{a:Addr}{xs:List V} (I:ac X pins σ H s):∀{c:Bool},i8 X.K H a xs c→∃its:List Value,ar xs its∧ft s.heap a its.toArray c
 | true,q=>let ⟨its,rv,p,_⟩:=I.list q;⟨its,rv,p.isList⟩
 | false,q=>let ⟨its,rv,p,_⟩:=I.tuple q;⟨its,rv,p⟩
theorem ac.seqC_inj {X:Cx}{pins:List (Addr×Obj)}{σ:St}{H:Hp}{s:Shared}{a:Addr}{xs ys:List V} (I:ac X pins σ H s):∀{c:Bool},i8 X.K H a xs c→i8 X.K H a ys c→xs=ys
 | true,p,q=>I.list_inj p q
 | false,p,q=>I.tuple_inj p q
def xf (K:PySem.W.Frag) (a1 a2:Addr) (c1 c2:Bool):It:=
 ⟨fun i H=>kz fun xs ys x y=>i8 K H a1 xs c1∧i8 K H a2 ys c2∧xs[i]?=some x∧ys[i]?=some y,
  fun i H v H'=>kF fun T x y=>H T=none∧v=.ref T∧H'=aC H T (.tup [x,y])∧(∀xs,i8 K H a1 xs c1→xs[i]?=some x)∧(∀ys,i8 K H a2 ys c2→ys[i]?=some y),
  fun i H=>bh fun xs ys=>i8 K H a1 xs c1∧i8 K H a2 ys c2∧(xs.length=i∨(i<xs.length∧ys.length=i))⟩
theorem yx {P:Program}{w:World}{K:PySem.W.Frag}{es:List Expr}{kk:Nat}{pos:Pos} (a1 a2 z TI TO i1 i2:Addr) (c1 c2:Bool) (D:nM z TI TO i1 i2) (n1:∀c,c=a1∨c=a2→c≠z∧c≠TO∧c≠i1∧c≠i2) :
 qb P w K (.Tuple es kk pos) (xf K a1 a2 c1 c2) [z,TO,i1,i2,TI] z (fun i h=>IsZip h z TI TO .none∧IsPair h TI (.ref i1) (.ref i2)∧(bh fun a b=>IsPair h TO a b)∧dq h i1 a1 i c1∧dq h i2 a2 i c2) where
 mem:=by simp
 obj:=fun i h st b hb=>by
  obtain ⟨hz,hTI,⟨a,b',hTO⟩,h1,h2⟩:=st
  have hb':b=z∨b=TO∨b=i1∨b=i2∨b=TI:=by simpa using hb
  rcases hb' with rfl | rfl | rfl | rfl | rfl
  ·exact ⟨_,hz,fun v q=>by have q':Data.fields _=Data.cell v:=q;cases q'⟩
  ·exact ⟨_,hTO,fun v q=>by have q':Data.seq _ _=Data.cell v:=q;cases q'⟩
  ·exact h1.some
  ·exact h2.some
  ·exact ⟨_,hTI,fun v q=>by have q':Data.seq _ _=Data.cell v:=q;cases q'⟩
 keep:=fun i h h' st k=>by
  obtain ⟨hz,hTI,⟨a,b',hTO⟩,h1,h2⟩:=st
  exact ⟨k z (by simp) _ hz,k TI (by simp) _ hTI,⟨a,b',k TO (by simp) _ hTO⟩,h1.at fun o q=>k i1 (by simp) o q,h2.at fun o q=>k i2 (by simp) o q⟩
 item:=by
  intro X hP hw hK hc i pins s σ H E I hf st hg
  subst hP hw hK
  obtain ⟨hz,hTI,⟨a,b',hTO⟩,h1,h2⟩:=st
  obtain ⟨xs,ys,x,y,p1,p2,hx,hy⟩:=hg
  obtain ⟨its1,rv1,k1⟩:=I.seqC p1
  obtain ⟨its2,rv2,k2⟩:=I.seqC p2
  obtain ⟨u,hu,ru⟩:=rv1.get hx
  obtain ⟨v,hv,rw'⟩:=rv2.get hy
  have hnT:H s.heap.objs.size=none:=I.fresh
  refine rz D n1 hz hTI hTO (I.ok.hd hc) h1 h2 k1 k2 (x:=u) (y:=v) (by simpa using hu) (by simpa using hv) fun h' tk zo TO' t1 t2 T' sz keep=>?_
  refine ⟨(),wpAny_letOwnedTupleGo_zip (s:={ s with heap:=h',toks:=tk }) zo fun h2' z2 s2=>?_⟩
  have zlt:z<s.heap.objs.size:=Heap.lt_size hz
  have TOlt:TO<s.heap.objs.size:=Heap.lt_size hTO
  have TIlt:TI<s.heap.objs.size:=Heap.lt_size hTI
  have i1lt:i1<s.heap.objs.size:=let ⟨_,e,_⟩:=h1.some;Heap.lt_size e
  have i2lt:i2<s.heap.objs.size:=let ⟨_,e,_⟩:=h2.some;Heap.lt_size e
  have hT2:h2'.get? s.heap.objs.size=some { cls:=.type "tuple",data:=.seq #[u,v] }:=(s2.2 _ (Nat.ne_of_gt zlt)).trans T'
  refine ⟨.ref s.heap.objs.size,aC H s.heap.objs.size (.tup [x,y]),I.turnedNew (ch:=[z,TO,i1,i2,TI]) (t':=tk) hf (fun b o hb q=>?_) (Nat.le_refl _) ?_,rfl,
   ⟨_,x,y,hnT,rfl,rfl,fun zs hs=>by rw [I.seqC_inj hs p1];exact hx,fun zs hs=>by rw [I.seqC_inj hs p2];exact hy⟩,⟨z2,(s2.2 _ D.a1).trans (keep _ _ D.a1 D.a5 D.a6 D.a7 hTI),⟨_,_,(s2.2 _ D.a2).trans TO'⟩,t1.at fun o e=>(s2.2 _ D.a3).trans e,t2.at fun o e=>(s2.2 _ D.a4).trans e⟩,fun b hb=>?_⟩
  ·have e1:b≠z:=fun q=>hb (by simp [q])
   have e2:b≠TO:=fun q=>hb (by simp [q])
   have e3:b≠i1:=fun q=>hb (by simp [q])
   have e4:b≠i2:=fun q=>hb (by simp [q])
   exact (s2.2 b e1).trans (keep b o e1 e2 e3 e4 q)
  ·exact ⟨by show 2≤sizeLine;decide,[u,v],.cons ru (.cons rw' .nil),⟨_,hT2,rfl,()⟩,_,hT2,rfl⟩
  ·have hb':b=z∨b=TO∨b=i1∨b=i2∨b=TI:=by simpa using hb
   have hlt:b<s.heap.objs.size:=by rcases hb' with rfl | rfl | rfl | rfl | rfl <;> assumption
   rw [ag (Nat.ne_of_lt hlt)]
   exact (hf b hb).1
 done:=by
  intro X hP hw hK hc i pins s σ H E I hf st hg
  subst hP hw hK
  obtain ⟨hz,hTI,⟨a,b',hTO⟩,h1,h2⟩:=st
  obtain ⟨xs,ys,p1,p2,hl⟩:=hg
  obtain ⟨its1,rv1,k1⟩:=I.seqC p1
  obtain ⟨its2,rv2,k2⟩:=I.seqC p2
  have l1:=rv1.length
  have l2:=rv2.length
  refine sQ (I.ok.hd hc) D n1 hz hTI hTO h1 h2 k1 k2 (by simp;trivial) fun h' tk keep=>⟨rfl,I.turnedL (ch:=[z,TO,i1,i2,TI]) (t':=tk) hf fun b o hb q=>?_⟩
  exact keep b o (fun q=>hb (by simp [q])) (fun q=>hb (by simp [q])) (fun q=>hb (by simp [q])) (fun q=>hb (by simp [q])) q
 self:=fun _ _ _ _ _ st h=>wpAny_pyIter_zip st.1 h
def CV (K:PySem.W.Frag) (ta:TA):TI:=fun σ H R=>ta σ H fun vs H1=>kz fun a1 a2 c1 c2=>vs=[.ref a1,.ref a2]∧(∃xs,i8 K H1 a1 xs c1)∧(∃ys,i8 K H1 a2 ys c2)∧R (xf K a1 a2 c1 c2) H1
theorem zk:bootBuiltins "zip" = some (.type "zip"):=by nofun
theorem BH {X:Cx}{es:List Expr}{kk:Nat}{tp:Pos}{a b:Expr}{ta:TA}{p pos:Pos} (hg:Gl X "zip") (hm:X.mg "zip" = none) (ha:PA X [a,b] ta) (hs:starEach [a,b] X.env=[(false,eval a X.env),(false,eval b X.env)]:=by rfl) (hs2:starEach [b] X.env=[(false,eval b X.env)]:=by rfl) :
 PI X (.Tuple es kk tp) (.Call (.Name "zip" p) [a,b] [] pos) (CV X.K ta):=by
 intro pins s σ H R I h
 refine Call_ (iV I hg hm zk (PyProof.Rows.callWith_type1 (aH (ha pos pins s σ H _ I h) fun us s1 ⟨vs,H1,I1,r1,q1⟩=>?_) (by rw [hs,hs2]) (by rw [hs2];rfl)))
 obtain ⟨a1,a2,c1,c2,rfl,⟨xs,p1⟩,⟨ys,p2⟩,q⟩:=q1
 obtain ⟨u1,u2,rfl,ru1,ru2⟩:=r1.two
 obtain rfl:u1=.ref a1:=ru1
 obtain rfl:u2=.ref a2:=ru2
 obtain ⟨its1,rv1,k1⟩:=I1.seqC p1
 obtain ⟨its2,rv2,k2⟩:=I1.seqC p2
 have d1:=k1.lt
 have d2:=k2.lt
 refine x6 k1 k2 fun h' hz hTI hTO t1 t2 hk=>wpAny_pyIter_zip hz ?_
 have I2:ac X pins σ H1 { s1 with heap:=h',toks:=s1.toks }:=I1.kept hk
 refine ⟨s1.heap.objs.size+4,[s1.heap.objs.size+4,s1.heap.objs.size+3,s1.heap.objs.size,s1.heap.objs.size+1,s1.heap.objs.size+2],_,_,H1,rfl,I2,yx a1 a2 (s1.heap.objs.size+4) (s1.heap.objs.size+2) (s1.heap.objs.size+3) s1.heap.objs.size (s1.heap.objs.size+1) c1 c2
  ⟨by simp,by simp,Nat.ne_of_lt (by simp),by simp,by simp,Nat.ne_of_gt (by simp),by simp,Nat.ne_of_gt (by simp),by simp,Nat.ne_of_lt (by simp)⟩ (fun c hc=>?_),⟨hz,hTI,⟨_,_,hTO⟩,t1,t2⟩,fun b hb=>?_,q⟩
 ·have:c<s1.heap.objs.size:=by rcases hc with rfl | rfl <;> assumption
  exact ⟨Nat.ne_of_lt (Nat.lt_of_lt_of_le this (Nat.le_add_right _ _)),Nat.ne_of_lt (Nat.lt_of_lt_of_le this (Nat.le_add_right _ _)),Nat.ne_of_lt this,Nat.ne_of_lt (Nat.lt_of_lt_of_le this (Nat.le_add_right _ _))⟩
 ·have hb':b=s1.heap.objs.size+4∨b=s1.heap.objs.size+3∨b=s1.heap.objs.size∨b=s1.heap.objs.size+1∨b=s1.heap.objs.size+2:=by simpa using hb
  have hle:s1.heap.objs.size≤b:=by rcases hb' with rfl | rfl | rfl | rfl | rfl <;> trivial
  exact I1.fpOk hle (I1.hok.fresh hle)
section
variable {X:Cx}{K:PySem.W.Frag}
end
def Sz (m:Nat) (i:Int):Prop:=i.natAbs<2 ^ m
theorem Sz.mono {m n:Nat}{i:Int} (h:Sz m i) (k:m≤n):Sz n i:=Nat.lt_of_lt_of_le h (Nat.pow_le_pow_right (by decide) k)
theorem Sz.mul {m n:Nat}{i j:Int} (h:Sz m i) (k:Sz n j):Sz (m+n) (i*j):=by
 unfold Sz at *
 rw [Int.natAbs_mul,Nat.pow_add]
 exact Nat.mul_lt_mul'' h k
theorem Sz.neg {m:Nat}{i:Int} (h:Sz m i):Sz m (-i):=by
 unfold Sz at *
 trivial
theorem Sz.le {m:Nat}{i j:Int} (h:Sz m j) (k:i.natAbs≤j.natAbs):Sz m i:=Nat.lt_of_le_of_lt k h
theorem Sz.log {m:Nat}{i:Int} (h:Sz m i) (h0:i≠0):i.natAbs.log2<m:=(Nat.log2_lt (by trivial)).mpr h
theorem Sz.bits {m:Nat}{i:Int} (h:Sz m i):Builtin.Int.intBits i≤m:=by
 unfold Builtin.Int.intBits
 by_cases h0:i=0
 ·subst h0;exact Nat.zero_le _
 ·have:=h.log h0
  rw [if_neg (by simpa using h0)]
  trivial
def zM (i j:Int):Prop:=bh fun m n=>Sz m i∧Sz n j∧m+n≤134217728
section
variable {X:Cx}
theorem iC:bF X (binaryOp .Mult) (rI zM fun i j=>.int (i*j)):=rN fun _ _ _ _ _ _ _ hc q=>by
 obtain ⟨m,n,h1,h2,h3⟩:=hc
 exact mul_int q (PyProof.Rows.mulOk_of_bits h1.bits h2.bits h3)
def wz (_ j:Int):Prop:=j≠0∧Sz 9000 j
theorem ud:bF X (binaryOp .FloorDiv) (rI wz fun i j=>.int (i.fdiv j)):=rN fun i j _ _ _ _ _ hc q=>
 floordiv_int hc.1 q (.inl (PyProof.noPylong_of_log2 (hc.2.log hc.1)))
end
theorem Bs {K:PySem.W.Frag}{a1 a2:Addr}{c1 c2:Bool}{xs ys:List V}{n:Nat}{g:TG}{tb:TS}{D:cy}{σ:St}{H:Hp} (Pv:Nat→St→Hp→Prop) (hn:n=min xs.length ys.length) (h0:Pv 0 σ H) (hl:∀i σ H,i≤n→Pv i σ H→i8 K H a1 xs c1∧i8 K H a2 ys c2)
 (hs:∀i x y T σ H,xs[i]?=some x→ys[i]?=some y→H T=none→Pv i σ H→g (.ref T) σ (aC H T (.tup [x,y])) fun σ2 H2=>tb { D with nx:=Pv (i+1),ct:=Pv (i+1),bk:=D.nx } σ2 H2) (hd:∀σ H,Pv n σ H→D.nx σ H) :
 ∃W:Nat→Nat→St→Hp→Prop,(∃m,W 0 m σ H)∧∀i m σ H,W i m σ H→
  ((xf K a1 a2 c1 c2).stop i H∧D.nx σ H)∨((xf K a1 a2 c1 c2).go i H∧∃N:St→Hp→Prop,(∀σ' H',N σ' H'→∃m',m'<m∧W (i+1) m' σ' H')∧∀x H',(xf K a1 a2 c1 c2).yld i H x H'→g x σ H' fun σ2 H2=>tb { D with nx:=N,ct:=N,bk:=D.nx } σ2 H2):=by
 refine ⟨fun i m σ H=>m=n - i∧i≤n∧Pv i σ H,⟨n,by simp,Nat.zero_le _,h0⟩,?_⟩
 rintro i m σ H ⟨rfl,hi,p⟩
 obtain ⟨q1,q2⟩:=hl i σ H hi p
 by_cases hlt:i<n
 ·have l1:i<xs.length:=by trivial
  have l2:i<ys.length:=by trivial
  refine .inr ⟨⟨xs,ys,xs[i],ys[i],q1,q2,by simp [l1],by simp [l2]⟩,Pv (i+1),fun σ' H' p'=>⟨n - (i+1),by trivial,rfl,hlt,p'⟩,fun x H' y=>?_⟩
  obtain ⟨T,u,v,hT,rfl,rfl,e1,e2⟩:=y
  exact hs i u v T σ H (e1 xs q1) (e2 ys q2) hT p
 ·have e:i=n:=by trivial
  subst e
  refine .inl ⟨⟨xs,ys,q1,q2,?_⟩,hd _ _ p⟩
  trivial
theorem ic {H H':Hp}{D:Addr}{o:HO} (hD:H D=none) (k:ae H H'):ae H (aC H' D o):=fun b u e=>by
 rw [ag (aJ e hD)];exact k b u e
theorem am.nth {E:Addr→Prop}{H:Hp}{vs:List V}{ds:List PyData} (r:am E H vs ds) (i:Nat) {v:V}{d:PyData} (hv:vs[i]?=some v) (hd:ds[i]?=some d):aS E H v d:=by
 obtain ⟨d',e,h⟩:=r.get hv
 rw [hd] at e
 cases e
 exact h
theorem aE.free {b p:Addr}{H H9:Hp}{t9:Int} (s:aE (Eb b) H H9) (B:Bx H9 b t9) (h:H9 p=none):H p=none:=by
 cases e:H p with
 | none=>rfl
 | some o=>
  by_cases hb:p=b
  ·obtain ⟨c,x,eb,_⟩:=B
   rw [←hb,h] at eb;cases eb
  ·rw [s.old p o hb e] at h;cases h
theorem Ar (n:Nat):(List.replicate n true).all id=true:=by
 induction n with
 | zero=>rfl
 | succ n ih=>rw [List.replicate_succ,List.all_cons,ih];rfl
abbrev fr (z:Int×Int):HO:=.tup [.int z.1,.int z.2]
abbrev Fa (n1 _ n2 _:Int):Int:=n1*n2
abbrev Fh (_ d1 _ d2:Int):Int:=d1*d2
def tw (i j:Int):Int:=if i<j then -1 else if j<i then 1 else 0
inductive Cw (vs:List V) (H:Hp) (Q:VK):Prop
 | mk (a b:Addr) (n1 d1 n2 d2:Int) (h0:vs=[.ref a,.ref b]) (h1:H a=some (.tup [.int n1,.int d1])) (h2:H b=some (.tup [.int n2,.int d2])) (h3:Sz 4000 n1) (h4:Sz 4000 d1) (h5:Sz 4000 n2) (h6:Sz 4000 d2) (h7:Q (.int (tw (n1*d2) (n2*d1))) H)
def DF:Sp:=fun vs H Q _=>Cw  vs H Q
theorem oN {i j:Int} (h1:Sz 4000 i) (h2:Sz 4000 j):zM i j:=⟨4000,4000,h1,h2,by decide⟩
theorem zU {i j:Int} (h1:Sz 4000 i) (h2:Sz 4000 j):Sz 9000 (i*j):=(h1.mul h2).mono (by decide)
theorem Fd {n d:Int} (hd:d≠0) (h:Sz 9000 d):Sz 9000 ((Int.gcd n d:Nat):Int):=h.le (by
 rw [Int.natAbs_natCast]
 exact Nat.le_of_dvd (by trivial) (Int.ofNat_dvd_left.mp (Int.gcd_dvd_right ..)))
structure Nw (H:Hp) (p:Addr) (o:HO) (H':Hp):Prop where
 fr:H p=none
 sm:ae H H'
 at':H' p=some o
theorem Nw.mk' {H:Hp}{p:Addr}{o:HO} (h:H p=none):Nw H p o (aC H p o):=⟨h,ae.new h,aD⟩
section
variable {X:Cx}{es:List Expr}{t:TA}{pos:Pos}{K:PySem.W.Frag}
def Ey (t:TA):TE:=fun σ H Q=>t σ H fun xs H1=>xs.length≤10000∧∀p H',Nw H1 p (.tup xs) H'→Q (.ref p) H'
def El (t:TA):TE:=fun σ H Q=>t σ H fun xs H1=>xs.length≤10000∧∀p H',Nw H1 p (.lst xs) H'→Q (.ref p) H'
theorem gZ {n:Nat} (h:n≤10000):n≤sizeLine:=by rw [sizeLine_eq];trivial
theorem aI {x1} (h:PA X es t):PE X (.Tuple es x1 pos) (Ey t):=by
 intro pins s σ H Q I hq
 refine wpAny_Tuple_spliced (aH (h pos pins s σ H _ I hq) fun us s1 ⟨xs,H1,I1,r,z',q⟩=>⟨by rw [←r.length];exact gZ z',?_⟩)
 have z:=gZ z'
 have hf:H1 s1.heap.objs.size=none:=I1.hok.fresh (Nat.le_refl _)
 refine ⟨.ref s1.heap.objs.size,aC H1 s1.heap.objs.size (.tup xs),I1.laid (t':=s1.toks) (fun b u e=>Heap.get?_push_of_some _ e) (Nat.le_refl _) ?_,rfl,q _ _ (.mk' hf)⟩
 exact ⟨z,us,r,⟨_,Heap.get?_push_size _ rfl,rfl,()⟩,_,Heap.get?_push_size _ rfl,rfl⟩
theorem f6 (h:PA X es t):PE X (.List es pos) (El t):=by
 intro pins s σ H Q I hq
 refine wpAny_List_spliced (aH (h pos pins s σ H _ I hq) fun us s1 ⟨xs,H1,I1,r,z',q⟩=>⟨by rw [←r.length];exact gZ z',?_⟩)
 have z:=gZ z'
 have hf:H1 s1.heap.objs.size=none:=I1.hok.fresh (Nat.le_refl _)
 refine ⟨.ref s1.heap.objs.size,aC H1 s1.heap.objs.size (.lst xs),I1.laid (t':=s1.toks) (fun b u e=>Heap.get?_push_of_some _ e) (Nat.le_refl _) ?_,rfl,q _ _ (.mk' hf)⟩
 exact ⟨z,us,0,r,Heap.get?_push_size _ rfl⟩
inductive Dq (x:V) (y:V) (H:Hp) (Q:VK):Prop
 | mk (l:_) (b:_) (xs:_) (zs:_) (h0:x=.ref l) (h1:y=.ref b) (h2:H l=some (.lst xs)) (h3:H b=some (.lst zs)) (h4:xs.length+zs.length≤10000) (h5:∀p H',Nw H p (.lst (xs++zs)) H'→Q (.ref p) H')
def DH:R2:=fun x y H Q=>Dq  x y H Q
theorem Ah:bF X (binaryOp .Add) DH:=fun pins s σ H x y v u Q I rx ry ⟨l,b,xs,zs,e1,e2,h1,h2,hz,q⟩=>
 Dc pins s σ H x y v u Q I rx ry ⟨l,b,xs,zs,e1,e2,h1,h2,gZ hz,fun p hp=>q p _ (.mk' hp)⟩
inductive Dy (K:PySem.W.Frag) (x:V) (lo:Option Int) (hi:Option Int) (H:Hp) (Q:VK):Prop
 | mk (a:_) (xs:_) (h0:x=.ref a) (h1:ap K H a xs) (h2:∀p H',Nw H p (.lst (cL xs lo hi)) H'→Q (.ref p) H')
def E8 (K:PySem.W.Frag):V→Option Int→Option Int→Hp→VK→Prop:=fun x lo hi H Q=>Dy K x lo hi H Q
theorem kA (e:X.K=K:=by rfl):xT X (E8 K):=by
 subst e
 exact fun pins s σ H x v vl vu lo hi sl Q I rx hs pl pu ⟨a,xs,e,h,q⟩=>A0 pins s σ H x v vl vu lo hi sl Q I rx hs pl pu ⟨a,xs,e,h,fun p hp=>q p _ (.mk' hp)⟩
inductive A9 (K:PySem.W.Frag) (xs:List V) (H:Hp) (Q:VK):Prop
 | mk (p:_) (ys:_) (h0:xs=[.ref p]) (h1:(ap K H p ys∨af K H p ys)) (h2:∀l H',Nw H l (.lst ys) H'→Q (.ref l) H')
def Cl (K:PySem.W.Frag):List V→Hp→VK→Prop:=fun xs H Q=>A9 K xs H Q
theorem nh (e:X.K=K:=by rfl):cE X (.type "list") (Cl K):=by
 subst e
 exact fun pins s σ H xs us Q I r ⟨p,ys,e,h,q⟩=>uq pins s σ H xs us Q I r ⟨p,ys,e,h,fun l hl=>q l _ (.mk' hl)⟩
inductive yF (K:PySem.W.Frag) (xs:List V) (H:Hp) (Q:VK):Prop
 | mk (p:_) (ys:_) (h0:xs=[.ref p]) (h1:ap K H p ys) (h2:∀l H',Nw H l (.tup ys) H'→Q (.ref l) H')
def Am (K:PySem.W.Frag):List V→Hp→VK→Prop:=fun xs H Q=>yF K xs H Q
theorem fV (e:X.K=K:=by rfl):cE X (.type "tuple") (Am K):=by
 subst e
 exact fun pins s σ H xs us Q I r ⟨p,ys,e,h,q⟩=>sy pins s σ H xs us Q I r ⟨p,ys,e,.inl ⟨h,fun l hl=>q l _ (.mk' hl)⟩⟩
end
structure Ch (H:Hp) (p:Addr) (xs:List V) (H':Hp):Prop where
 at':H' p=some (.lst xs)
 ol:∀a o,a≠p→H a=some o→H' a=some o
 fre:∀a,a≠p→H a=none→H' a=none
theorem Ch.mk' {H:Hp}{p:Addr}{xs:List V}:Ch H p xs (aC H p (.lst xs)):=⟨aD,fun a o n h=>by rw [ag n];exact h,fun a n h=>by rw [ag n];exact h⟩
theorem Ch.tup {H H':Hp}{p a:Addr}{xs ys zs:List V} (c:Ch H p xs H') (h:H a=some (.tup ys)) (hp:H p=some (.lst zs)):H' a=some (.tup ys):=c.ol a _ (oV h hp (by intro z;cases z)) h
section
variable {X:Cx}
inductive BZ (o:V) (i:V) (v:V) (H:Hp) (Q:(Hp→Prop)):Prop
 | mk (p:_) (xs:_) (k:_) (j:_) (h0:o=.ref p) (h1:i=.int k) (h2:H p=some (.lst xs)) (h3:nX xs.length k=some j) (h4:∀H',Ch H p (xs.set j v) H'→Q H')
def Ea:V→V→V→Hp→(Hp→Prop)→Prop:=fun o i v H Q=>BZ  o i v H Q
theorem xR:vU X Ea:=fun pins s σ H o i v ov iv u Q I ro ri rv ⟨p,xs,k,j,e1,e2,h,hj,q⟩=>pZ pins s σ H o i v ov iv u Q I ro ri rv ⟨p,xs,k,j,e1,e2,h,hj,q _ .mk'⟩
inductive Cg (x:V) (vs:List V) (H:Hp) (Q:VK):Prop
 | mk (l:_) (xs:_) (y:_) (h0:x=.ref l) (h1:vs=[y]) (h2:H l=some (.lst xs)) (h3:xs.length≤10000) (h4:∀H',Ch H l (xs++[y]) H'→Q .non H')
def Ew:V→List V→Hp→VK→Prop:=fun x vs H Q=>Cg  x vs H Q
theorem cm:yl X "list.append" Ew:=fun pins s σ H x vs v us Q I rx rv ⟨l,xs,y,e1,e2,h,hz,q⟩=>rQ pins s σ H x vs v us Q I rx rv ⟨l,xs,y,e1,e2,h,(by rw [sizeLine_eq];trivial),q _ .mk'⟩
end
inductive AL (vs:List V) (H:Hp) (Q:VK):Prop
 | mk (n d:Int) (h0:vs=[.int n,.int d]) (h1:d≠0) (h2:Sz 9000 d) (h3:∀p H',Nw H p (fr (KM.low n d)) H'→Q (.ref p) H')
def BL:Sp:=fun vs H Q _=>AL  vs H Q
inductive Af (num den:Int→Int→Int→Int→Int) (vs:List V) (H:Hp) (Q:VK):Prop
 | mk (a b:Addr) (n1 d1 n2 d2:Int) (h0:vs=[.ref a,.ref b]) (h1:H a=some (.tup [.int n1,.int d1])) (h2:H b=some (.tup [.int n2,.int d2])) (h3:(Sz 4000 n1∧Sz 4000 d1∧Sz 4000 n2∧Sz 4000 d2∧den n1 d1 n2 d2≠0)) (h4:∀p H',Nw H p (fr (KM.low (num n1 d1 n2 d2) (den n1 d1 n2 d2))) H'→Q (.ref p) H')
def BA (num den:Int→Int→Int→Int→Int):Sp:=fun vs H Q _=>Af num den vs H Q
theorem Bx.ch {H H':Hp}{b p:Addr}{t:Int}{xs:List V} (h:Bx H b t) (k:Ch H p xs H') (ne:b≠p):Bx H' b t:=by
 obtain ⟨c,x,e,q,q2,q3⟩:=h
 exact ⟨c,x,k.ol b _ ne e,q,q2,q3⟩
theorem Bx.ne {H:Hp}{b p:Addr}{t:Int} (h:Bx H b t) (hp:H p=none):b≠p:=fun z=>by
 obtain ⟨c,x,e,_⟩:=h
 rw [z,hp] at e;cases e
section
variable {X:Cx}{e:Expr}{te:TE}{st:Expr}{ts:TO}{p2 pos:Pos}{K:PySem.W.Frag}
end
def S (l:List Nat):Str:=⟨l.toArray⟩
theorem qt {a b:List Nat} (h:S a=S b):a=b:=by
 have:a.toArray=b.toArray:=by injection h
 simpa using this
theorem vK (a b:List Nat):S a++S b=S (a++b):=by
 show (⟨a.toArray++b.toArray⟩:Str)=⟨(a++b).toArray⟩
 simp
theorem sW (a:List Nat):(S a).length=a.length:=by
 show a.toArray.size=_
 simp
theorem Dl (a:List Nat):(S a).cps.toList=a:=rfl
theorem xr (k:Nat) (l:List Nat):∀acc:List Nat,(List.replicate k l.toArray).foldl (·++·) acc.toArray=(acc++(List.replicate k l).flatten).toArray:=by
 induction k with
 | zero=>intro acc;simp
 | succ k ih=>
  intro acc
  rw [List.replicate_succ,List.foldl_cons,List.replicate_succ,List.flatten_cons]
  have:acc.toArray++l.toArray=(acc++l).toArray:=by simp
  rw [this,ih,List.append_assoc]
theorem rM:∀ls:List (List Nat),Str.join (S []) (ls.map S)=S ls.flatten
 | []=>rfl
 | [a]=>by
  show S a=S (a++[])
  rw [List.append_nil]
 | a :: b :: r=>by
  have e:Str.join (S []) ((a :: b :: r).map S)=S a++S []++Str.join (S []) ((b :: r).map S):=rfl
  rw [e,rM (b :: r),vK,vK,List.append_nil]
  rfl
section
variable {X:Cx}{K:PySem.W.Frag}
inductive BQ (x:V) (y:V) (H:Hp) (Q:VK):Prop
 | mk (l:_) (n:_) (h0:x=.str (S l)) (h1:y=.int n) (h2:1≤n) (h3:n≤1000) (h4:l.length≤100) (h5:Q (.str (S (List.replicate n.toNat l).flatten)) H)
def Er:R2:=fun x y H Q=>BQ  x y H Q
theorem Bv:bF X (binaryOp .Mult) Er:=by
 intro pins s σ H x y v u Q I rx ry h
 obtain ⟨l,n,rfl,rfl,h1,h2,h3,q⟩:=h
 obtain ⟨t,rfl⟩:=rx
 obtain ⟨t',rfl⟩:=ry
 have hlen:(S l).length=l.length:=sW l
 have hmul:l.length*n.toNat≤100*1000:=Nat.mul_le_mul h3 (by trivial)
 refine PySem.P.mul_str ?_ ?_ ?_ ?_
 ·rw [decide_eq_false (by trivial),decide_eq_false (by trivial)];rfl
 ·intro _ _
  rw [hlen]
  have:(100:Int)<(2 ^ 63 - 1) / n:=by
   have:(100+1)*n≤2 ^ 63 - 1:=by trivial
   have:=(Int.le_ediv_iff_mul_le (by trivial:0<n)).mpr this
   trivial
  trivial
 ·intro _ _
  rw [hlen]
  unfold Builtin.Str.tooLong
  rw [decide_eq_false]
  rw [sizeLine_eq]
  trivial
 ·rw [if_neg (by trivial)]
  by_cases hn:(n==1 || (S l).length==0)=true
  ·rw [if_pos hn]
   refine ⟨.str (S l),H,I,⟨t,rfl⟩,?_⟩
   have e:(List.replicate n.toNat l).flatten=l:=by
    rw [hlen] at hn
    have hn':n=1∨l.length=0:=by simpa using hn
    rcases hn' with rfl | hn'
    ·simp
    ·have:l=[]:=List.eq_nil_of_length_eq_zero hn'
     subst this
     simp
   rw [e] at q
   exact q
  ·rw [if_neg hn]
   have e:(⟨(List.replicate n.toNat (S l).cps).foldl (·++·) #[]⟩:Str)=S (List.replicate n.toNat l).flatten:=by
    have e:=xr n.toNat l []
    rw [List.nil_append] at e
    exact congrArg Str.mk e
   rw [e]
   refine ⟨?_,.str (S (List.replicate n.toNat l).flatten),H,I.tok _,⟨()⟩,q⟩
   rw [sW,A8,sizeLine_eq,Nat.mul_comm]
   trivial
inductive BF (K:PySem.W.Frag) (x:V) (vs:List V) (H:Hp) (Q:VK):Prop
 | mk (a:_) (ls:_) (h0:x=.str (S [])) (h1:vs=[.ref a]) (h2:ap K H a ((ls:List (List Nat)).map fun l=>V.str (S l))) (h3:(ls.map (·.length)).sum≤10000) (h4:Q (.str (S ls.flatten)) H)
def DM (K:PySem.W.Frag):V→List V→Hp→VK→Prop:=fun x vs H Q=>BF K x vs H Q
theorem yo {ls:List (List Nat)}:∀{us:List Value},ar (ls.map fun l=>V.str (S l)) us→StrsAre us (ls.map S):=by
 induction ls with
 | nil=>intro us h;cases h;exact .nil
 | cons l r ih=>
  intro us h
  cases h with
  | cons h t=>
   obtain ⟨tk,rfl⟩:=h
   exact .cons _ _ (ih t)
theorem AR (ek:X.K=K:=by rfl):xg X "str.join" (DM K):=by
 subst ek
 intro pins s σ H x vs v us Q I rx rv h
 obtain ⟨a,ls,rfl,rfl,hS,hz,q⟩:=h
 obtain ⟨t,rfl⟩:=rx
 obtain ⟨u,rfl,ru⟩:=rv.one
 obtain rfl:u=Value.ref a:=ru
 obtain ⟨its,r,ht,_⟩:=I.list hS
 have e1:((ls.map S).map (·.length)).sum=(ls.map (·.length)).sum:=by
  rw [List.map_map]
  congr 1
 refine join_list (ys:=ls.map S) ht.isList (by simpa using yo r) ?_ fun t' k=>?_
 ·rw [e1,show (S []).length=0 from rfl]
  trivial
 ·have:=join_plain_closes (S []) (ls.map S)
  rw [eq_of_beq this,rM]
  exact ⟨.str (S ls.flatten),H,I.tok k,⟨()⟩,q⟩
inductive Dn (x:V) (y:V) (H:Hp) (Q:VK):Prop
 | mk (a:_) (b:_) (h0:x=.str (S a)) (h1:y=.str (S b)) (h2:a.length+b.length≤10000) (h3:Q (.str (S (a++b))) H)
def DY:R2:=fun x y H Q=>Dn  x y H Q
theorem Bf:bF X (binaryOp .Add) DY:=fun pins s σ H x y v u Q I rx ry ⟨a,b,e1,e2,hz,q⟩=>
 wF pins s σ H x y v u Q I rx ry ⟨S a,S b,e1,e2,by rw [sW,sW];exact gZ hz,by rw [vK];exact q⟩
end
theorem wE:Str.ofString "abcdefghijklmnopqrstuvwxyz" = S ((List.range 26).map (97+·)):=by nofun
theorem zw:Str.ofString "" = S []:=by nofun
theorem oI {i:Int} (h0:-26≤i) (h1:i<26):iy ((Str.ofString "abcdefghijklmnopqrstuvwxyz").cps.toList) i=some (97+(i % 26).toNat):=by
 rw [wE,Dl]
 have:∀k:Fin 52,iy ((List.range 26).map (97+·)) ((k.val:Int) - 26)=some (97+(((k.val:Int) - 26) % 26).toNat):=by nofun
 have e:=this ⟨(i+26).toNat,by trivial⟩
 simp only at e
 rw [show (((i+26).toNat:Nat):Int) - 26=i by trivial] at e
 exact e
theorem De {f:Int}{j k:Nat} (hj:j<26) (hk:k<26) (h:(f+11*(j:Int)) % 26=(f+11*(k:Int)) % 26):j=k:=by trivial
structure wG (l:List Nat):Prop where
 lo:1≤l.length
 hi:l.length≤8
 az:∀c∈l,97≤c∧c≤122
abbrev aQ (l:List Nat):V:=.str (S l)
theorem Fv (n c:Nat):(List.replicate n [c]).flatten=List.replicate n c:=by
 induction n with
 | zero=>rfl
 | succ n ih=>rw [List.replicate_succ,List.flatten_cons,ih,List.replicate_succ];rfl
theorem xX {xs:List V}{m:Int} (h:0≤m):cL xs none (some m)=xs.take m.toNat:=by
 unfold cL
 have e:m=((m.toNat:Nat):Int):=by trivial
 rw [HT.sIx_none,e,HT.sIx_nat]
 simp only [Int.toNat_natCast,List.drop_zero,Nat.sub_zero]
 by_cases hm:m.toNat≤xs.length
 ·rw [Nat.min_eq_left hm]
 ·rw [Nat.min_eq_right (by trivial),List.take_of_length_le (Nat.le_refl _),List.take_of_length_le (by trivial)]
theorem aE.ch {b D:Addr}{H H1 H2:Hp}{xs:List V} (s:aE (Eb b) H H1) (c:Ch H1 D xs H2) (hD:H D=none):aE (Eb b) H H2:=
 ⟨fun a u ne h=>c.ol a u (aJ h hD) (s.old a u ne h),fun a us h=>c.ol a _ (aJ h hD) (s.tup a us h)⟩
theorem aE.up {b D:Addr}{H H1:Hp}{o:HO} (s:aE (Eb b) H H1) (hD:H D=none):aE (Eb b) H (aC H1 D o):=
 ⟨fun a u ne h=>by rw [ag (aJ h hD)];exact s.old a u ne h,fun a us h=>by rw [ag (aJ h hD)];exact s.tup a us h⟩
def Fs (x:Str):Prop:=x.length≤300∧∀c∈x.cps.toList,c<128
mutual
inductive Wt:PyData→Nat→Nat→Prop
 | non {k:Nat}:Wt .none 1 k
 | bl (b:Bool) {k:Nat}:Wt (.bool b) 1 k
 | int {i:Int} (h:Sz 1900 i) {k:Nat}:Wt (.int i) 1 k
 | str {x:Str} (h:Fs x) {k:Nat}:Wt (.str x) 1 k
 | list {xs:List PyData}{n k:Nat} (h:cV xs n k):Wt (.list xs) (n+1) (k+1)
 | tuple {xs:List PyData}{n k:Nat} (h:cV xs n k):Wt (.tuple xs) (n+1) (k+1)
inductive cV:List PyData→Nat→Nat→Prop
 | nil {k:Nat}:cV [] 0 k
 | cons {x:PyData}{xs:List PyData}{m n k:Nat} (h:Wt x m k) (r:cV xs n k):cV (x :: xs) (m+n) k
end
theorem Wt.pos {d:PyData}{n k:Nat} (h:Wt d n k):1≤n:=by cases h <;> trivial
mutual
theorem Wt.dep:∀{d:PyData}{n k:Nat},Wt d n k→d.depth≤k
 | _,_,_,.non=>by simp [PyData.depth]
 | _,_,_,.bl b=>by simp [PyData.depth]
 | _,_,_,.int h=>by simp [PyData.depth]
 | _,_,_,.str h=>by simp [PyData.depth]
 | _,_,_,.list h=>by simp only [PyData.depth];exact Nat.succ_le_succ (cV.dep h)
 | _,_,_,.tuple h=>by simp only [PyData.depth];exact Nat.succ_le_succ (cV.dep h)
theorem cV.dep:∀{ds:List PyData}{n k:Nat},cV ds n k→PyData.depthAll ds≤k
 | _,_,_,.nil=>by simp [PyData.depthAll]
 | _,_,_,.cons h r=>by simp only [PyData.depthAll];exact Nat.max_le.mpr ⟨Wt.dep h,cV.dep r⟩
end
mutual
theorem Wt.sho:∀{d:PyData}{n k:Nat},Wt d n k→d.showable=true
 | _,_,_,.non=>by simp [PyData.showable]
 | _,_,_,.bl b=>by simp [PyData.showable]
 | _,_,_,.int (i:=i) h=>by
  simp only [PyData.showable,decide_eq_true_iff]
  by_cases h0:i=0
  ·subst h0;decide
  ·exact Nat.lt_trans (h.log h0) (by decide)
 | _,_,_,.str h=>by simp [PyData.showable]
 | _,_,_,.list h=>by simp only [PyData.showable];exact cV.sho h
 | _,_,_,.tuple h=>by simp only [PyData.showable];exact cV.sho h
theorem cV.sho:∀{ds:List PyData}{n k:Nat},cV ds n k→PyData.showableAll ds=true
 | _,_,_,.nil=>by simp [PyData.showableAll]
 | _,_,_,.cons h r=>by simp only [PyData.showableAll,Bool.and_eq_true];exact ⟨Wt.sho h,cV.sho r⟩
end
mutual
theorem Wt.nod:∀{d:PyData}{n k:Nat},Wt d n k→d.hasDict=false
 | _,_,_,.non=>by simp [PyData.hasDict]
 | _,_,_,.bl b=>by simp [PyData.hasDict]
 | _,_,_,.int h=>by simp [PyData.hasDict]
 | _,_,_,.str h=>by simp [PyData.hasDict]
 | _,_,_,.list h=>by simp only [PyData.hasDict];exact cV.nod h
 | _,_,_,.tuple h=>by simp only [PyData.hasDict];exact cV.nod h
theorem cV.nod:∀{ds:List PyData}{n k:Nat},cV ds n k→PyData.hasDictAll ds=false
 | _,_,_,.nil=>by simp [PyData.hasDictAll]
 | _,_,_,.cons h r=>by simp only [PyData.hasDictAll,Bool.or_eq_false_iff];exact ⟨Wt.nod h,cV.nod r⟩
end
mutual
theorem Wt.len:∀{d:PyData}{n k:Nat},Wt d n k→d.shown.length+2≤3010*n
 | _,_,_,.non=>by
  rw [PyData.shown]
  decide +kernel
 | _,_,_,.bl b=>by
  rw [PyData.shown]
  cases b <;> decide +kernel
 | _,_,_,.int (i:=i) h=>by
  rw [PyData.shown]
  have hl:i.natAbs.log2<1920:=by
   by_cases h0:i=0
   ·subst h0;decide
   ·exact Nat.lt_trans (h.log h0) (by decide)
  have:=int_text_len_1921 hl
  trivial
 | _,_,_,.str (x:=x) h=>by
  rw [PyData.shown]
  have:=PySem.StrLaws.reprText_len x (fun c hc=>Nat.lt_trans (h.2 c hc) (by decide))
  have:=h.1
  trivial
 | _,_,_,.list (xs:=xs) (n:=n) h=>by
  rw [PyData.shown]
  have h1:=listText_len_le (PyData.shownAll xs)
  have h2:=cV.len h
  trivial
 | _,_,_,.tuple (xs:=xs) (n:=n) h=>by
  rw [PyData.shown]
  have h1:=tupleText_len_le (PyData.shownAll xs)
  have h2:=cV.len h
  trivial
theorem cV.len:∀{ds:List PyData}{n k:Nat},cV ds n k→((PyData.shownAll ds).map (·.length)).sum+2*(PyData.shownAll ds).length≤3010*n
 | _,_,_,.nil=>by simp [PyData.shownAll]
 | _,_,_,.cons (x:=x) (xs:=xs) (m:=m) (n:=n) h r=>by
  rw [PyData.shownAll,List.map_cons,List.sum_cons,List.length_cons]
  have h1:=Wt.len h
  have h2:=cV.len r
  have h3:=h.pos
  trivial
end
end L2
namespace L2
open PySem PySem.Spec PyProof.Rows
mutual
theorem Wt.can:∀{d:PyData}{n k:Nat},Wt d n k→d.canLay0=true
 | _,_,_,.non=>by simp [PyData.canLay0]
 | _,_,_,.bl b=>by simp [PyData.canLay0]
 | _,_,_,.int h=>by simp [PyData.canLay0]
 | _,_,_,.str (x:=x) h=>by
  simp only [PyData.canLay0]
  unfold PySem.PyData.strOk
  rw [Array.all_eq_true]
  intro i hi
  have:=h.2 x.cps[i] (by simp)
  simp
  trivial
 | _,_,_,.list h=>by simp only [PyData.canLay0];exact cV.can h
 | _,_,_,.tuple h=>by simp only [PyData.canLay0];exact cV.can h
theorem cV.can:∀{ds:List PyData}{n k:Nat},cV ds n k→PyData.canLayAll0 ds=true
 | _,_,_,.nil=>by simp [PyData.canLayAll0]
 | _,_,_,.cons h r=>by simp only [PyData.canLayAll0,Bool.and_eq_true];exact ⟨Wt.can h,cV.can r⟩
end
section
variable {X:Cx}
inductive Ef (ne:Bool) (x:V) (y:V) (H:Hp) (Q:VK):Prop
 | mk (d e:PyData) (E F:Addr→Prop) (m n k l:Nat) (h0:aS E H x d) (h1:aS F H y e) (h2:Wt d m k) (h3:Wt e n l) (h4:k≤60) (h5:Q (.bl (if ne then !PyData.eqv d e else PyData.eqv d e)) H)
def Fp (ne:Bool):R2:=fun x y H Q=>Ef ne x y H Q
theorem BB (hu:X.A.units+64<cLine):bF X (compareOp .Eq) (Fp false):=by
 intro pins s σ H x y v u Q I rx ry h
 obtain ⟨d,e,E,F,m,n,k,l,hd,he,wd,we,hk,q⟩:=h
 obtain ⟨as,ra⟩:=hd.reads I.hok rx
 obtain ⟨bs,rb⟩:=he.reads I.hok ry
 exact PySem.SeqAt.compareEq_reads ra rb wd.can we.can (by have:=wd.dep;trivial) ⟨.bl _,H,I,rfl,q⟩
inductive Dd (xs:List V) (H:Hp) (Q:VK):Prop
 | mk (a:Addr) (d:PyData) (E:Addr→Prop) (n k:Nat) (h0:xs=[.ref a]) (h1:aS E H (.ref a) d) (h2:Wt d n k) (h3:n≤5500) (h4:k≤50) (h5:Q (.str d.shown) H)
def Eg:List V→Hp→VK→Prop:=fun xs H Q=>Dd  xs H Q
end
abbrev ED:Addr→Prop:=fun _=>True
abbrev cZ (p:KM.Fra):PyData:=.tuple [.int p.1,.int p.2]
structure aj where
 bg:List Nat
 en:List Nat
 most:KM.Fra
 gain:KM.Fra
 price:KM.Fra
abbrev cG (t:aj):PyData:=.tuple [.str (S t.bg),.str (S t.en),cZ t.most,cZ t.gain,cZ t.price]
abbrev ji (ls:List (List Nat)) (ts:List aj):PyData:=.tuple [.tuple (ls.map fun l=>.str (S l)),.tuple (ts.map cG)]
theorem jP {H:Hp}{o:Addr}{p:KM.Fra} (h:H o=some (.tup [.int p.1,.int p.2])):aS ED H (.ref o) (cZ p):=.tup h (.cons (.int _) (.cons (.int _) .nil))
theorem rd {E:Addr→Prop}{H:Hp}{v:V}{p:KM.Fra} (h:aS E H v (cZ p)):∃o,v=.ref o∧H o=some (.tup [.int p.1,.int p.2]):=by
 cases h with
 | @tup a xs _ h r=>
  cases r with
  | cons h1 r=>
  cases r with
  | cons h2 r=>
  cases r
  cases h1
  cases h2
  exact ⟨a,rfl,h⟩
theorem am.tupS {E:Addr→Prop}{H H':Hp}{v:List V}{d:List PyData} (h:am ED H v d) (k:aE E H H'):am ED H' v d:=h.mono ⟨fun _ _ n _=>absurd trivial n,k.tup⟩
theorem aS.tupC {H H':Hp}{v:V}{d:PyData}{p:Addr}{xs ys:List V} (h:aS ED H v d) (k:Ch H p xs H') (hp:H p=some (.lst ys)):aS ED H' v d:=h.mono ⟨fun _ _ n _=>absurd trivial n,fun _ _ e=>k.tup e hp⟩
theorem vC {α:Type}{f:α→PyData}{m k:Nat}:∀{xs:List α},(∀x∈xs,Wt (f x) m k)→cV (xs.map f) (m*xs.length) k
 | [],_=>.nil
 | x :: r,h=>by
  have e:m*(x :: r).length=m+m*r.length:=by rw [List.length_cons,Nat.mul_succ,Nat.add_comm]
  rw [e]
  exact .cons (h x (by simp)) (vC fun y hy=>h y (List.mem_cons_of_mem _ hy))
end L2
namespace L2
open PySem PySem.Spec PyProof.Rows
theorem CI {m:Int} (h0:0<m) (h1:m<1099511627776):m.natAbs.log2<9000:=by
 have a:Sz 40 m:=by show m.natAbs<1099511627776;trivial
 exact Nat.lt_trans (a.log (by trivial)) (by decide)
theorem Ae {n f r:Int} (h0:0≤f) (h1:f<n) (r0:0≤r) (r1:r<n - 1):0≤(f+1+r) % n∧(f+1+r) % n<n∧(f+1+r) % n≠f:=by
 have hn:0<n:=by trivial
 refine ⟨Int.emod_nonneg _ (by trivial),Int.emod_lt_of_pos _ hn,?_⟩
 by_cases h:f+1+r<n
 ·rw [Int.emod_eq_of_lt (by trivial) h];trivial
 ·have e:(f+1+r) % n=f+1+r - n:=by
   have h2:(f+1+r) % n=(f+1+r - n) % n:=by rw [Int.sub_emod_right]
   rw [h2,Int.emod_eq_of_lt (by trivial) (by trivial)]
  rw [e];trivial
theorem tY {E:Addr→Prop}{H:Hp}:∀hs:List Int,am E H (hs.map V.int) (hs.map PyData.int)
 | []=>.nil
 | _ :: r=>.cons (.int _) (tY r)
theorem re {α:Type}{xs:List α}{k:Int}{f:α→V} (h0:0≤k) (h:k.toNat<xs.length):iy (xs.map f) k=some (f xs[k.toNat]):=by
 have q:=iE (xs:=xs.map f) (j:=k.toNat) (v:=f xs[k.toNat]) (by rw [List.getElem?_map];simp [h])
 rwa [Int.toNat_of_nonneg h0] at q
end L2
namespace L2
theorem d7 {α:Type}{ls:List α} (h:ls.Nodup) {i j:Nat} (hi:i<ls.length) (hj:j<ls.length) (e:ls[i]=ls[j]):i=j:=by
 have p:=List.pairwise_iff_getElem.mp h
 rcases Nat.lt_trichotomy i j with q | q | q
 ·exact absurd e (p i j hi hj q)
 ·exact q
 ·exact absurd e.symm (p j i hj hi q)
end L2
namespace L2
open PySem PySem.Spec PyProof.Rows
end L2
namespace L2
end L2
namespace L2
open PySem PySem.Spec PyProof.Rows
theorem am.take {E:Addr→Prop}{H:Hp}:∀{xs:List V}{ds:List PyData} (n:Nat),am E H xs ds→am E H (xs.take n) (ds.take n)
 | _,_,0,_=>by simp;exact .nil
 | _,_,_+1,.nil=>by simp;exact .nil
 | _,_,n+1,.cons h r=>by simp;exact .cons h (am.take n r)
end L2
namespace L2
open PySem PySem.Spec PyProof.Rows
open AutoSeq1 (wpAny_loadPart')
set_option maxHeartbeats 4000000 in
theorem yZ (l:Addr) (its:Array Value) (n:Nat) (dct:Option Addr) (sl:Array (Option Value)) :
 Meets (Builtin.«enumerate.__new__» ⟨[.type "enumerate",.ref l],[]⟩) (fun _ R s=>s.heap.get? l=some { cls:=.type "tuple",dict:=dct,data:=.seq its n,slots:=sl }∧
  R (.ok (.ret (.ref (s.heap.push { cls:=.type "tuple_iterator",data:=.fields #[.ref l,.int 0 0] }).objs.size))) { s with heap:=(s.heap.push { cls:=.type "tuple_iterator",data:=.fields #[.ref l,.int 0 0] }).push { cls:=.type "enumerate",data:=.fields #[.none,.bool false,.ref s.heap.objs.size,rawInt 0,.none,.none] } }):=
 .of_wp fun prog w A R s h=>by
  obtain ⟨hp,g,d,tk,os⟩:=s;obtain ⟨hl,h⟩:=h;have hsub:=sub_enumerate
  have hT:Heap.IsTuple (Shared.heap ⟨hp,g,d,tk,os⟩) l its:=⟨_,hl,rfl,n,rfl⟩
  wp_walk using wpAny_loadPart' hl
  refine wpAny_stack_any fun st=>wpAny_pure ?_;split
  ·rename_i c _ _ _ _ _;cases (c==Value.type "enumerate")
   ·wp_walk using wpAny_loadPart' hl,wpAny_pyIter_tuple hT
    exact ⟨(),h⟩
   ·wp_walk using wpAny_loadPart' hl,wpAny_pyIter_tuple hT
    exact ⟨(),h⟩
  ·wp_walk using wpAny_loadPart' hl,wpAny_pyIter_tuple hT
   exact ⟨(),h⟩
section
variable {prog:Program}{w:World}{A:Around}{E:Value→Shared→Prop}{s:Shared}
theorem wJ {l:Addr}{its:Array Value}{Q:Value→Shared→Prop}:∀{c:Bool},ft s.heap l its c→
 (∀h',IsEnum h' (s.heap.objs.size+1) s.heap.objs.size 0 .none→dq h' s.heap.objs.size l 0 c→(∀b o,s.heap.get? b=some o→h'.get? b=some o)→Q (.ref (s.heap.objs.size+1)) { s with heap:=h' })→
 wpAny (model prog w) A (call (.type "enumerate") [.ref l]) Q E s
 | true,q,h=>call_enumerate_list q fun h' a b _ k=>h h' a b k
 | false,q,h=>by
  obtain ⟨⟨c,dct,dt,sl⟩,hl,hc,n,hd⟩:=q
  dsimp only at hc hd
  subst hc hd
  refine callType_new F.called_enumerate (by decide) (F.typeCall_enumerate_1 _) (F.newCall_enumerate_1 _) (fun obj=>F.args_object_init_2 obj _) F.entry_enumerate_new (yZ l its n dct sl) ⟨hl,?_⟩
  have hz:(s.heap.push { cls:=.type "tuple_iterator",data:=.fields #[.ref l,.int 0 0] }).objs.size=s.heap.objs.size+1:=Heap.size_push ..
  show _∧_
  rw [hz]
  have he:IsEnum ((s.heap.push { cls:=.type "tuple_iterator",data:=.fields #[.ref l,.int 0 0] }).push { cls:=.type "enumerate",data:=.fields #[.none,.bool false,.ref s.heap.objs.size,rawInt 0,.none,.none] }) (s.heap.objs.size+1) s.heap.objs.size 0 .none:=by
   rw [←hz];exact Heap.get?_push_size _ rfl
  exact ⟨⟨_,he,rfl⟩,h _ he ⟨_,Heap.get?_push_of_some _ (Heap.get?_push_size _ rfl),rfl,rfl⟩ fun b o e=>Heap.get?_push_of_some _ (Heap.get?_push_of_some _ e)⟩
end
def uF (K:PySem.W.Frag) (a:Addr) (c:Bool):It:=
 ⟨fun i H=>bh fun xs x=>i8 K H a xs c∧xs[i]?=some x,fun i H v H'=>bh fun T x=>H T=none∧v=.ref T∧H'=aC H T (.tup [.int (i:Int),x])∧∀xs,i8 K H a xs c→xs[i]?=some x,fun i H=>∃xs,i8 K H a xs c∧xs.length=i⟩
theorem wl {P:Program}{w:World}{K:PySem.W.Frag}{es:List Expr}{kk:Nat}{pos:Pos} (a e it:Addr) (c:Bool) (hne:e≠it) (hae:a≠e) (hai:a≠it) :
 qb P w K (.Tuple es kk pos) (uF K a c) [e,it] e (fun i h=>(∃old,IsEnum h e it i old)∧dq h it a i c) where
 mem:=by simp
 obj:=fun i h st b hb=>by
  obtain ⟨⟨old,he⟩,hi⟩:=st
  have hb':b=e∨b=it:=by simpa using hb
  rcases hb' with rfl | rfl
  ·exact ⟨_,he,fun v z=>by have z':Data.fields _=Data.cell v:=z;cases z'⟩
  ·exact hi.some
 keep:=fun i h h' st k=>by
  obtain ⟨⟨old,he⟩,hi⟩:=st
  exact ⟨⟨old,k e (by simp) _ he⟩,hi.at fun o q=>k it (by simp) o q⟩
 item:=by
  intro X hP hw hK hc i pins s σ H E I hf st hg
  subst hP hw hK
  obtain ⟨⟨old,he⟩,hit⟩:=st
  obtain ⟨xs,x,hq,hx⟩:=hg
  obtain ⟨its,rv,p⟩:=I.seqC hq
  obtain ⟨u,hu,ru⟩:=rv.get hx
  have hnT:H s.heap.objs.size=none:=I.fresh
  have hiu:i<its.length:=(List.getElem?_eq_some_iff.mp hu).1
  have D:=l4 (prog:=X.prog) (w:=X.w) (A:=X.A.in1) (I.ok.hd hc) it a hai its.toArray c
  refine wpAny_pyNext_enum_itemD D he ⟨hit,p⟩ (by simpa using hiu) hne (by simp;exact ⟨hne,Ne.symm hae⟩) fun u' h' tk hP ho st' hT hsz hk=>?_
  have eu:u=u':=by
   have:its.toArray[i]?=some u':=hP
   rw [List.getElem?_toArray,hu] at this
   exact Option.some.inj this
  subst eu
  refine ⟨(),wpAny_letOwnedTupleGo_enum (s:={ s with heap:=h',toks:=tk+1 }) ho fun h'' he'' hs''=>?_⟩
  have helt:e<s.heap.objs.size:=Heap.lt_size he
  have hilt:it<s.heap.objs.size:=let ⟨_,y,_⟩:=hit.some;Heap.lt_size y
  have hT'':h''.get? s.heap.objs.size=some { cls:=.type "tuple",data:=.seq #[.int i tk,u] }:=(hs''.2 _ (Nat.ne_of_gt helt)).trans hT
  refine ⟨.ref s.heap.objs.size,aC H s.heap.objs.size (.tup [.int (i:Int),x]),I.turnedNew (ch:=[e,it]) (t':=tk+1) hf (fun b o hb q=>?_) (Nat.le_refl _) ?_,rfl,⟨_,x,hnT,rfl,rfl,fun ys hy=>by rw [I.seqC_inj hy hq];exact hx⟩,⟨⟨u,?_⟩,st'.1.at fun o q=>(hs''.2 _ (Ne.symm hne)).trans q⟩,fun b hb=>?_⟩
  ·have h1:b≠e:=fun z=>hb (by simp [z])
   have h2:b≠it:=fun z=>hb (by simp [z])
   exact (hs''.2 b h1).trans (hk b o h1 h2 q)
  ·exact ⟨by show 2≤sizeLine;decide,[.int i tk,u],.cons ⟨()⟩ (.cons ru .nil),⟨_,hT'',rfl,()⟩,_,hT'',rfl⟩
  ·simpa using he''
  ·have hb':b=e∨b=it:=by simpa using hb
   have hlt:b<s.heap.objs.size:=by rcases hb' with rfl | rfl <;> assumption
   rw [ag (Nat.ne_of_lt hlt)]
   exact (hf b hb).1
 done:=by
  intro X hP hw hK hc i pins s σ H E I hf st hg
  subst hP hw hK
  obtain ⟨⟨old,he⟩,hit⟩:=st
  obtain ⟨xs,hq,hx⟩:=hg
  obtain ⟨its,rv,p⟩:=I.seqC hq
  have hl:=rv.length
  have D:=l4 (prog:=X.prog) (w:=X.w) (A:=X.A.in1) (I.ok.hd hc) it a hai its.toArray c
  have ei:i=its.toArray.size:=by simp;trivial
  refine wpAny_pyNext_enum_endD D he (by rw [ei] at hit;exact ⟨hit,p⟩) fun h' eb=>⟨rfl,I.turnedL (ch:=[e,it]) (t':=s.toks) hf fun b o hb q=>eb b o (fun z=>hb (by simp [z])) q⟩
 self:=fun _ _ _ _ _ st h=>by
  obtain ⟨⟨old,he⟩,_⟩:=st
  exact wpAny_pyIter_enum he h
def Cq (K:PySem.W.Frag) (ta:TA):TI:=fun σ H R=>ta σ H fun vs H1=>bh fun a c=>vs=[.ref a]∧(∃xs,i8 K H1 a xs c)∧R (uF K a c) H1
theorem yS {X:Cx}{K:PySem.W.Frag}{es:List Expr}{kk:Nat}{tp:Pos}{a:Expr}{ta:TA}{p pos:Pos} (hg:Gl X "enumerate") (hm:X.mg "enumerate" = none) (ha:PA X [a] ta) (hs:starEach [a] X.env=[(false,eval a X.env)]:=by rfl) (ek:X.K=K:=by rfl) :
 PI X (.Tuple es kk tp) (.Call (.Name "enumerate" p) [a] [] pos) (Cq K ta):=by
 subst ek
 intro pins s σ H R I h
 refine Call_ (iV I hg hm boot_enumerate (PyProof.Rows.callWith_type1 (aH (ha pos pins s σ H _ I h) fun us s1 ⟨vs,H1,I1,r1,q1⟩=>?_) hs rfl))
 obtain ⟨a,c,rfl,⟨xs,hq⟩,q⟩:=q1
 obtain ⟨u,rfl,ru⟩:=r1.one
 obtain rfl:u=.ref a:=ru
 obtain ⟨its,rv,p⟩:=I1.seqC hq
 have d1:=p.lt
 refine wJ p fun h' hE hI hk=>wpAny_pyIter_enum hE ?_
 have I2:ac X pins σ H1 { s1 with heap:=h',toks:=s1.toks }:=I1.kept hk
 refine ⟨s1.heap.objs.size+1,[s1.heap.objs.size+1,s1.heap.objs.size],_,_,H1,rfl,I2,wl a (s1.heap.objs.size+1) s1.heap.objs.size c (Nat.succ_ne_self _) (Nat.ne_of_lt (Nat.lt_succ_of_lt d1)) (Nat.ne_of_lt d1),⟨⟨_,hE⟩,hI⟩,fun b hb=>?_,q⟩
 have hb':b=s1.heap.objs.size+1∨b=s1.heap.objs.size:=by simpa using hb
 have hle:s1.heap.objs.size≤b:=by rcases hb' with rfl | rfl <;> trivial
 exact I1.fpOk hle (I1.hok.fresh hle)
section
variable {X:Cx}
end
end L2
namespace L2
open PySem PySem.Spec PyProof.Rows
theorem am.drop {E:Addr→Prop}{H:Hp}:∀{xs:List V}{ds:List PyData} (n:Nat),am E H xs ds→am E H (xs.drop n) (ds.drop n)
 | _,_,0,h=>by simpa using h
 | _,_,_+1,.nil=>by simp;exact .nil
 | _,_,n+1,.cons h r=>by simp;exact am.drop n r
theorem am.set {E:Addr→Prop}{H:Hp}{y:V}{d:PyData} (hy:aS E H y d):∀{xs:List V}{ds:List PyData} (i:Nat),am E H xs ds→am E H (xs.set i y) (ds.set i d)
 | _,_,_,.nil=>by simp;exact .nil
 | _,_,0,.cons h r=>by simp;exact .cons hy r
 | _,_,i+1,.cons h r=>by simp;exact .cons h (am.set hy i r)
section
variable {z:Nat}{E:Addr→Prop}{H H':Hp}{n m k:Nat}{v:V}{xs ys:List V}
theorem vS:cL xs (some 1) none=xs.drop 1:=by
 unfold cL
 rw [HT.sIx_none,show (1:Int)=((1:Nat):Int) from rfl,HT.sIx_nat]
 cases xs with
 | nil=>simp
 | cons x r=>simp
end
section
variable {X:Cx}
end
end L2
namespace HT
open PySem PySem.Spec PyProof.Rows
section
variable {prog:Program}{w:World}{A:Around}{E:Value→Shared→Prop}{s:Shared}
theorem getItem_tuple_whole {t sl:Addr}{items:Array Value}{vl vu:Value}{lo hi:Option Int}{Q:Value→Shared→Prop} (ht:IsTup s.heap t items) (hs:s.heap.IsSliceOf sl vl vu .none) (pl:IsPart vl lo) (pu:IsPart vu hi)
 (h1:sIx items.size 0 lo=0) (h2:sIx items.size items.size hi=items.size) (h:Q (.ref t) s):wpAny (model prog w) A (getItem (.ref t) (.ref sl)) Q E s:=by
 obtain ⟨os,hos,hcs,hds⟩:=id hs
 have hTs:s.TypeIs (.ref sl) "slice" := ⟨os,hos,hcs⟩
 unfold getItem
 try with_reducible refine wpAny_holding ?_
 first | refine wpAny_bind (wpAny_pure ?_) | skip
 refine wpAny_bind (wpAny_sequenceKey ht.typeIs (by decide) ?_)
 refine wpAny_bind (wpAny_callSpecial?_slot (name:=Str.ofString "__getitem__") ht.typeIs PyProof.Rows.slot_tuple_getitem
  (wpAny_call_entry PyProof.Rows.slot_tuple_getitem ht.typeIs entry_tuple_getitem ?_ (args_tuple_getitem _ _)))
 show wpAny _ _ (Builtin.Tuple.tupleItemsOf (.ref t) >>= _) _ _ s
 refine wpAny_bind (tupleItemsOf_ ht ?_)
 refine wpAny_bind (wpAny_typeOf hTs ?_)
 rw [if_pos (by decide)]
 refine wpAny_bind (kX hs pl pu ?_)
 have hyes:((((sIx items.size 0 lo:Nat):Int)==0 && (1:Int)==1 && (sIx items.size items.size hi - sIx items.size 0 lo)==items.size)=true):=by
  rw [h1,h2];simp
 show wpAny _ _ (if (((sIx items.size 0 lo:Nat):Int)==0 && (1:Int)==1 && (sIx items.size items.size hi - sIx items.size 0 lo)==items.size)=true then _ else _) _ _ s
 rw [if_pos hyes]
 refine wpAny_bind (m:=Builtin.Tuple.tupleIsExact _) (wpAny_bind (wpAny_typeOf ht.typeIs (wpAny_pure ?_)))
 rw [if_pos (by decide)]
 exact wpAny_bind (wpAny_rule (wpAny_pure ⟨(),wpAny_pure h⟩))
end
end HT
namespace L2
open PySem PySem.Spec PyProof.Rows
section
variable {X:Cx}{K:PySem.W.Frag}
inductive CK (K:PySem.W.Frag) (x:V) (lo:Option Int) (hi:Option Int) (H:Hp) (Q:VK):Prop
 | mk (a:_) (xs:_) (h0:x=.ref a) (h1:af K H a xs) (h2:H a=some (.tup xs)) (h3:∀p H',ae H H'→H' p=some (.tup (cL xs lo hi))→Q (.ref p) H')
def ER (K:PySem.W.Frag):V→Option Int→Option Int→Hp→VK→Prop:=fun x lo hi H Q=>CK K x lo hi H Q
theorem vj (e:X.K=K:=by rfl):xT X (ER K):=by
 subst e
 intro pins s σ H x v vl vu lo hi sl Q I rx hs pl pu h
 obtain ⟨a,xs,rfl,hx,ha,q⟩:=h
 by_cases hw:HT.sIx xs.length 0 lo=0∧HT.sIx xs.length xs.length hi=xs.length
 ·cases rx
  obtain ⟨its,r,ht,hz⟩:=I.tuple hx
  have hlen:its.toArray.size=xs.length:=by rw [List.size_toArray];exact r.length.symm
  refine ⟨"tuple",_,PyProof.Rows.slot_tuple_getitem.lookup,ht.typeIs,?_⟩
  refine HT.getItem_tuple_whole ht hs pl pu (by rw [hlen];exact hw.1) (by rw [hlen];exact hw.2) ⟨.ref a,H,I,rfl,q a H (ae.refl _) ?_⟩
  have:cL xs lo hi=xs:=by
   unfold cL
   rw [hw.1,hw.2,List.drop_zero,Nat.sub_zero,List.take_length]
  rw [this];exact ha
 ·exact BC pins s σ H _ v vl vu lo hi sl Q I rx hs pl pu ⟨a,xs,rfl,hx,hw,fun p hp=>q p _ (ae.new hp) aD⟩
end
theorem qO {α:Type}{p:List α→Prop} (h0:p []) (h1:∀l a,p l→p (l++[a])) (l:List α):p l:=by
 have:∀r:List α,p r.reverse:=fun r=>by
  induction r with
  | nil=>exact h0
  | cons a r ih=>rw [List.reverse_cons];exact h1 _ _ ih
 have h:=this l.reverse
 rwa [List.reverse_reverse] at h
def iq (ks:List aA):List aA:=ks.foldl (fun σ k=>if σ.any (fun x=>decide (x=k)) then σ else σ++[k]) []
theorem ju (ks:List aA) (k:aA):iq (ks++[k])=if (iq ks).any (fun x=>decide (x=k)) then iq ks else iq ks++[k]:=by
 unfold iq
 rw [List.foldl_append]
 rfl
theorem pT:∀(ks:List aA),(iq ks).length≤ks.length:=by
 intro ks
 induction ks using qO with
 | h0=>exact Nat.le_refl _
 | h1 ks k ih=>
  rw [ju,List.length_append]
  split
  ·simp;trivial
  ·rw [List.length_append];simp;trivial
theorem tE (ks:List aA):∀j,j∈iq ks↔j∈ks:=by
 induction ks using qO with
 | h0=>exact fun j=>Iff.rfl
 | h1 ks k ih=>
  intro j
  rw [ju,List.mem_append,List.mem_singleton]
  split
  ·rename_i h
   rw [ih]
   constructor
   ·exact .inl
   ·rintro (z | z)
    ·exact z
    ·obtain ⟨x,hx,e⟩:=List.any_eq_true.mp h
     rw [z,←ih,←of_decide_eq_true e];exact hx
  ·rw [List.mem_append,List.mem_singleton,ih]
theorem vT (ks:List aA):(iq ks).length=ks.length↔ks.Nodup:=by
 induction ks using qO with
 | h0=>exact ⟨fun _=>List.nodup_nil,fun _=>rfl⟩
 | h1 ks k ih=>
  rw [ju,List.length_append,List.nodup_append]
  have ol:=pT ks
  by_cases h:(iq ks).any (fun x=>decide (x=k))=true
  ·rw [if_pos h]
   obtain ⟨x,hx,e⟩:=List.any_eq_true.mp h
   have hk:k∈ks:=by rw [←of_decide_eq_true e];exact (tE ks x).mp hx
   constructor
   ·intro z;simp at z;trivial
   ·intro z;exact absurd rfl (z.2.2 k hk k (by simp))
  ·rw [if_neg h,List.length_append]
   have hk:k∉ks:=fun z=>h (List.any_eq_true.mpr ⟨k,(tE ks k).mpr z,by simp⟩)
   constructor
   ·intro z
    refine ⟨ih.mp (by simpa using z),by simp,fun a ha b hb e=>?_⟩
    rw [List.mem_singleton] at hb
    rw [←hb,←e] at hk
    exact hk ha
   ·intro z
    rw [ih.mpr z.1]
def gA:aA→V
 | .inl i=>.int i
 | .inr x=>.str x
theorem qM {k:aA}{u:Value} (h:aN (gA k) u):d8 k u=true∧u.scannable=true:=by
 cases k with
 | inl i=>obtain ⟨t,rfl⟩:=h;exact ⟨x4 i t,rfl⟩
 | inr x=>obtain ⟨t,rfl⟩:=h;exact ⟨yj x t,rfl⟩
section
variable {prog:Program}{w:World}{A:Around}{R:Result→Shared→Prop}{it:Addr}{fp wr:List Addr}{G:Array GenState→Array GenState→Prop}{P:Nat→Value→Prop}{St:Nat→Shared→Prop}
abbrev fb (prog:Program) (w:World) (h:Heap) (a:Addr) (ks:List aA):Prop:=h.SetOf (bt prog w) a (fun j=>(iq ks).any (fun x=>decide (x=j))) (iq ks).length
theorem qr {h h':Heap}{a:Addr}{ks:List aA} (H:fb prog w h a ks) (k:∀o,h.get? a=some o→h'.get? a=some o):fb prog w h' a ks:=
 let ⟨o,es,ep,t,ho,r⟩:=H
 ⟨o,es,ep,t,k o ho,r⟩
theorem Ap {h:Heap}{a:Addr}{f g:aA→Bool}{n m:Nat} (H:h.SetOf (bt prog w) a f n) (e:∀k,f k=g k) (en:n=m):h.SetOf (bt prog w) a g m:=by
 cases en
 cases (funext e:f=g)
 exact H
theorem ui {ks:List aA} (W:WalksS prog w A.in1 it fp wr G ks.length P St) {a:Addr} (ha:a∉fp) (hv:∀i v,P i v→∀k,ks[i]?=some k→d8 k v=true∧v.scannable=true) (hb:ks.length+1<scanBound) :
 ∀(r i:Nat) (s:Shared),ks.length - i=r→i≤ks.length→St i s→fb prog w s.heap a (ks.take i)→
   (∀s',Moved (a :: wr) G s s'→fb prog w s'.heap a ks→R (.ok (.ret .none)) s')→codeAny (model prog w) A (.builtin "set.update.loop" ⟨[.ref a,.ref it],[]⟩) R s:=by
 have nw:a∉wr:=fun z=>ha (W.sub _ z)
 have up:∀b∈wr,b∈a :: wr:=fun b z=>List.mem_cons_of_mem _ z
 intro r
 induction r with
 | zero=>
  intro i s hr hi st hS hR
  have e:i=ks.length:=by trivial
  rw [e] at st hS
  rw [List.take_length] at hS
  refine codeAny_builtin F.entry_set_update_loop ?_
  rw [A.under_plainId F.plain_set_update_loop]
  show wpAny _ _ (pyNext (Value.ref it) >>= _) _ _ _
  refine wpAny_bind (W.done s _ _ st fun s' m=>?_)
  show wpAny _ _ (ret .none) _ _ _
  exact wpAny_pure (hR s' (m.mono up) (qr hS fun o ho=>m.heap a o nw ho))
 | succ r ih=>
  intro i s hr hi st hS hR
  have lt:i<ks.length:=by trivial
  refine codeAny_builtin F.entry_set_update_loop ?_
  rw [A.under_plainId F.plain_set_update_loop]
  show wpAny _ _ (pyNext (Value.ref it) >>= _) _ _ _
  refine wpAny_bind (W.item i s _ _ lt st fun v s' pv st' m=>?_)
  obtain ⟨kv,sv⟩:=hv i v pv ks[i] (List.getElem?_eq_getElem lt)
  have hS':fb prog w s'.heap a (ks.take i):=qr hS fun o ho=>m.heap a o nw ho
  have l1:(iq (ks.take i)).length+1<scanBound:=by
   have:=pT (ks.take i)
   rw [List.length_take] at this
   trivial
  show wpAny _ _ (holding [v] (setAdd a v) >>= _) _ _ _
  refine wpAny_bind (wpAny_holding ?_)
  unfold setAdd
  refine wpAny_holding (wpAny_bind ((bt prog w).pyHash (k:=ks[i]) kv (wpAny_setAddHashed_of (knd:=bt prog w) (s:={ s' with toks:=s'.toks+1 }) kv sv hS' l1 fun h2 sb hS2=>?_)))
  have nx:fb prog w h2 a (ks.take (i+1)):=by
   rw [List.take_succ_eq_append_getElem lt]
   refine Ap hS2 (fun j=>?_) ?_
   ·rw [ju]
    split
    ·rename_i z
     by_cases q:j=ks[i]
     ·subst q;rw [z];rfl
     ·rw [decide_eq_false q,Bool.or_false]
    ·rw [List.any_append]
     congr 1
     rw [List.any_cons,List.any_nil,Bool.or_false]
     by_cases q:j=ks[i]
     ·rw [decide_eq_true q,decide_eq_true q.symm]
     ·rw [decide_eq_false q,decide_eq_false (Ne.symm q)]
   ·rw [ju]
    split
    ·rfl
    ·rw [List.length_append];rfl
  refine wpAny_pure ⟨plainId_quiet F.plain_set_update_loop _,ih (i+1) _ (by trivial) lt (W.frame _ s' _ _ st' (Nat.le_succ _) fun b z o e=>?_) nx fun s2 m2 hS3=>?_⟩
  ·rw [sb.2 b (fun q=>ha (q▸z))];exact e
  ·refine hR s2 (.trans W.gtrans ((m.mono up).then_heap (Nat.le_succ _) fun b o z e=>?_) m2) hS3
   rw [sb.2 b (fun q=>z (q▸List.mem_cons_self))];exact e
end
theorem uG:isSubtype (.type "tuple") (.type "set")=pure false:=by
 rw [isSubtype_type]
 kernel_rfl
theorem uk:isSubtype (.type "tuple") (.type "frozenset")=pure false:=by
 rw [isSubtype_type]
 kernel_rfl
section
variable {prog:Program}{w:World}{A:Around}{E:Value→Shared→Prop}{s:Shared}
abbrev dP (led:Bool):Obj:={ cls:=.type "set",dict:=none,data:=.set #[] 0 (.fresh 0 0 led) }
theorem tK {h:Heap}{a:Addr}{led:Bool} (e:h.get? a=some (dP led)):fb prog w h a []:=
 ⟨_,#[],0,_,e,⟨rfl,rfl,rfl⟩,rfl,fun x hx=>(by simp at hx),fun k=>(by simp [iq]),by decide,by rfl,rfl⟩
set_option maxHeartbeats 4000000 in
theorem xY {l:Addr}{vs:List Value}{ks:List aA}{led:Bool}{c:Bool} (hh:A.handled=none) (hl:if c=true then s.heap.IsList l vs.toArray else s.heap.IsTuple l vs.toArray) (hn:vs.length=ks.length)
 (hk:∀(i:Nat) v,vs[i]?=some v→∀k,ks[i]?=some k→d8 k v=true∧v.scannable=true) (hb:ks.length+1<scanBound) {R:Fin→Shared→Prop}
 (h:∀h' tk,fb prog w h' s.heap.objs.size ks→(∀b o,b<s.heap.objs.size→s.heap.get? b=some o→h'.get? b=some o)→R (.done (.ret .none)) { s with heap:=h',toks:=tk }) :
 wpAny (model prog w) A (Builtin.«set.__init__» ⟨[.ref s.heap.objs.size,.ref l],[]⟩) R E { s with heap:=s.heap.push (dP led) }:=by
 have hS:(s.heap.push (dP led)).get? s.heap.objs.size=some (dP led):=Heap.get?_push_size _ rfl
 have hT:Shared.TypeIs { s with heap:=s.heap.push (dP led) } (.ref s.heap.objs.size) "set" := ⟨_,hS,rfl⟩
 have vget:∀(i:Nat) v,vs.toArray[i]?=some v→∀k,ks[i]?=some k→d8 k v=true∧v.scannable=true:=fun i v e=>hk i v (by simpa using e)
 have sz:vs.toArray.size=ks.length:=by rw [List.size_toArray];exact hn
 have hS2:∀o:Obj,((s.heap.push (dP led)).push o).get? s.heap.objs.size=some (dP led):=fun o=>Heap.get?_push_of_some _ hS
 have lS:∀{x:Obj},s.heap.get? l=some x→l<s.heap.objs.size:=fun e=>Heap.lt_size e
 have neI:s.heap.objs.size≠(s.heap.push (dP led)).objs.size:=by rw [Heap.size_push];trivial
 have fin:∀(s':Shared) (o:Obj),Moved (s.heap.objs.size :: [(s.heap.push (dP led)).objs.size]) (fun a b=>b=a) { s with heap:=(s.heap.push (dP led)).push o } s'→fb prog w s'.heap s.heap.objs.size ks→R (.done (.ret .none)) s':=fun s' o m q=>by
  obtain ⟨h',g',d',tk',os'⟩:=s'
  cases (show g'=s.gens from m.gens)
  cases (show d'=s.drawn from m.drawn)
  cases (show os'=s.os from m.os)
  refine h h' tk' q fun b o hb e=>m.heap b o (fun z=>?_) (Heap.get?_push_of_some _ (Heap.get?_push_of_some _ e))
  rw [Heap.size_push] at z
  have z':b=s.heap.objs.size∨b=s.heap.objs.size+1:=by simpa using z
  have hb':(b:Nat)<s.heap.objs.size:=hb
  rcases z' with z' | z'
  ·exact absurd z' (Nat.ne_of_lt hb')
  ·exact absurd z' (Nat.ne_of_lt (Nat.lt_succ_of_lt hb'))
 cases c with
 | true=>
  have hl':s.heap.IsList l vs.toArray:=hl
  obtain ⟨⟨oc,od,oo,os⟩,e1,rfl,n,rfl⟩:=hl'
  have e2:(s.heap.push (dP led)).get? l=some ⟨.type "list",od,.seq vs.toArray n,os⟩:=Heap.get?_push_of_some _ e1
  have q1:=PySem.F.sub_list_set
  have q2:=PySem.F.sub_list_frozenset
  have q3:(Value.type "list" == Value.type "dict")=false:=by decide
  have l1:(s.heap.push (dP led)).IsList l vs.toArray:=⟨_,e2,rfl,n,rfl⟩
  unfold Builtin.«set.__init__» noKeywords Builtin.Frozenset.updateFrom
  generalize hPI:pyIter=PI
  wp_walk
  subst hPI
  have ll:=lS e1
  refine wpAny_pyIter_list l1 (wpAny_bind (wpAny_runValue ?_))
  have ne1:l≠(s.heap.push (dP led)).objs.size:=by rw [Heap.size_push];exact Nat.ne_of_lt (Nat.lt_succ_of_lt ll)
  refine ui (a:=s.heap.objs.size) (ks:=ks) (sz▸(Walks.list (by simpa using hh) _ l ne1 vs.toArray).toS) ?_ vget hb (ks.length - 0) 0 _ rfl (Nat.zero_le _) ⟨⟨_,Heap.get?_push_size _ rfl,rfl,rfl⟩,l1.push _⟩ (tK (hS2 _)) fun s' m q=>?_
  ·intro z
   have z':s.heap.objs.size=(s.heap.push (dP led)).objs.size∨s.heap.objs.size=l:=by simpa using z
   rcases z' with z' | z'
   ·exact neI z'
   ·exact absurd z' (Nat.ne_of_gt ll)
  ·exact wpAny_pure (wpAny_pure (fin s' _ m q))
 | false=>
  have hl':s.heap.IsTuple l vs.toArray:=hl
  obtain ⟨⟨oc,od,oo,os⟩,e1,rfl,n,rfl⟩:=hl'
  have e2:(s.heap.push (dP led)).get? l=some ⟨.type "tuple",od,.seq vs.toArray n,os⟩:=Heap.get?_push_of_some _ e1
  have q1:=uG
  have q2:=uk
  have q3:(Value.type "tuple" == Value.type "dict")=false:=by decide
  have l1:(s.heap.push (dP led)).IsTuple l vs.toArray:=⟨_,e2,rfl,n,rfl⟩
  unfold Builtin.«set.__init__» noKeywords Builtin.Frozenset.updateFrom
  generalize hPI:pyIter=PI
  wp_walk
  subst hPI
  have ll:=lS e1
  refine wpAny_pyIter_tuple l1 (wpAny_bind (wpAny_runValue ?_))
  have ne1:l≠(s.heap.push (dP led)).objs.size:=by rw [Heap.size_push];exact Nat.ne_of_lt (Nat.lt_succ_of_lt ll)
  refine ui (a:=s.heap.objs.size) (ks:=ks) (sz▸(Walks.tuple (by simpa using hh) _ l ne1 vs.toArray).toS) ?_ vget hb (ks.length - 0) 0 _ rfl (Nat.zero_le _) ⟨⟨_,Heap.get?_push_size _ rfl,rfl,rfl⟩,l1.at fun o e=>Heap.get?_push_of_some _ e⟩ (tK (hS2 _)) fun s' m q=>?_
  ·intro z
   have z':s.heap.objs.size=(s.heap.push (dP led)).objs.size∨s.heap.objs.size=l:=by simpa using z
   rcases z' with z' | z'
   ·exact neI z'
   ·exact absurd z' (Nat.ne_of_gt ll)
  ·exact wpAny_pure (wpAny_pure (fin s' _ m q))
set_option maxHeartbeats 4000000 in
theorem wU {l:Addr}{vs:List Value}{ks:List aA}{c:Bool}{Q:Value→Shared→Prop} (hh:A.handled=none) (hl:if c=true then s.heap.IsList l vs.toArray else s.heap.IsTuple l vs.toArray) (hn:vs.length=ks.length)
 (hk:∀(i:Nat) v,vs[i]?=some v→∀k,ks[i]?=some k→d8 k v=true∧v.scannable=true) (hb:ks.length+1<scanBound)
 (h:∀h' tk,fb prog w h' s.heap.objs.size ks→(∀b o,b<s.heap.objs.size→s.heap.get? b=some o→h'.get? b=some o)→Q (.ref s.heap.objs.size) { s with heap:=h',toks:=tk }) :
 wpAny (model prog w) A (call (.type "set") [.ref l]) Q E s:=by
 have T:=PySem.F.called_set
 obtain ⟨_,_,t0⟩:=T.mro
 have t1:=T.notType
 have t2:=T.canCreate
 have t3:=T.made
 have t4:=T.sub
 have t5:=PySem.F.typeCall_set_1 (.ref l)
 refine wpAny_call (codeAny_of_tree ?_)
 show wpAny _ _ (callAny (Value.type "set") _) _ _ s
 refine wpAny_pure ⟨Code.quiet_builtin _ (by nofun),codeAny_builtin PySem.F.entry_type_call ?_⟩
 rw [A.under_plain (weight_type_call_type "set" [Value.ref l] []) rfl]
 repeat (any_goals first | assumption | wp_step)
 refine codeAny_mono (code_set_new_1 (.ref l) (E:=E) (Q₁:=fun v s1=>∃led,v=.ref s.heap.objs.size∧s1={ s with heap:=s.heap.push (dP led) }) fun led=>⟨led,rfl,rfl⟩) fun r s1 hr=>?_
 cases r with
 | error e=>exact hr
 | ok f=>
  cases f with
  | ret v=>
   obtain ⟨led,rfl,rfl⟩:=hr
   have hT:Shared.TypeIs { s with heap:=s.heap.push (dP led) } (.ref s.heap.objs.size) "set" := ⟨_,Heap.get?_push_size _ rfl,rfl⟩
   have t6:=T.init.lookup
   have t7:=T.init.bind (.ref s.heap.objs.size)
   repeat (any_goals first | assumption | wp_step)
   refine codeAny_mono (codeAny_call_builtin (R:=wants (fun v s2=>v=.none∧bh fun h' tk=>s2={ s with heap:=h',toks:=tk }∧fb prog w h' s.heap.objs.size ks∧∀b o,b<s.heap.objs.size→s.heap.get? b=some o→h'.get? b=some o) E) T.init.plain PySem.F.entry_set_init (check_set_init_1 hT ?_)) fun r2 s2 hr2=>?_
   ·exact xY (by simpa using hh) hl hn hk hb fun h' tk q kp=>⟨rfl,h',tk,rfl,q,kp⟩
   ·cases r2 with
    | error e=>exact hr2
    | ok f=>
     cases f with
     | ret v=>
      obtain ⟨rfl,h',tk,rfl,q,kp⟩:=hr2
      repeat (any_goals first | assumption | wp_step)
      exact h _ _ q kp
     | _=>exact hr2.elim
  | _=>exact hr.elim
end
theorem uR:bootBuiltins "set" = some (.type "set"):=by nofun
def uV (K:PySem.W.Frag) (x:V) (H:Hp) (Q:VK):Prop:=bh fun a ks=>x=.ref a∧(ap K H a (ks.map gA)∨af K H a (ks.map gA))∧ks.length≤4000∧Q (.int ((iq ks).length:Nat)) H
def A1 (K:PySem.W.Frag) (te:TE):TE:=fun σ H Q=>te σ H fun x H1=>uV K x H1 Q
section
variable {X:Cx}{K:PySem.W.Frag}{e:Expr}{te:TE}{p1 p2 p3 p4:Pos}
theorem rK:∀{ks:List aA}{us:List Value},ar (ks.map gA) us→us.length=ks.length∧∀(i:Nat) v,us[i]?=some v→∀k,ks[i]?=some k→d8 k v=true∧v.scannable=true
 | [],_,.nil=>⟨rfl,fun i v e=>by simp at e⟩
 | k :: r,_,.cons h t=>by
  obtain ⟨a,b⟩:=rK (ks:=r) t
  refine ⟨by simp [a],fun i v e j f=>?_⟩
  cases i with
  | zero=>
   simp at e f
   subst e f
   exact qM h
  | succ i=>exact b i v (by simpa using e) j (by simpa using f)
theorem yX {A:Around}{E:Value→Shared→Prop}{s:Shared}{prog:Program}{w:World}{a:Addr}{ks:List aA}{Q:Value→Shared→Prop} (H:fb prog w s.heap a ks) (hb:ks.length≤4000) (h:Q (.int ((iq ks).length:Nat) (s.toks+1)) { s with toks:=s.toks+1+1 }) :
 wpAny (model prog w) A (call (.builtin "len") [.ref a]) Q E s:=by
 obtain ⟨o,es,ep,t,ho,hx,hd,_,_,hlt,hf,hn⟩:=H
 have:=pT ks
 refine PySem.call_len_set ho hx hd hf (by trivial) ?_
 rw [hn];exact h
theorem xQ (he:PE X e te) (hc:X.calm=true) (hg1:Gl X "len") (hm1:X.mg "len" = none) (hg2:Gl X "set") (hm2:X.mg "set" = none) (ek:X.K=K:=by rfl) (hs:oW e=true:=by rfl) :
 PE X (.Call (.Name "len" p1) [.Call (.Name "set" p2) [e] [] p3] [] p4) (A1 K te):=by
 subst ek
 intro pins s σ H Q I h
 refine wpAny_Call_Name_kw (iV I hg1 hm1 be ?_ (by decide) (by decide))
 refine PyProof.Rows.callWith_builtin1 ?_ (nN rfl) rfl
 refine Calls.spliced_cons ?_
 refine wpAny_Call_Name_kw (iV I hg2 hm2 uR ?_ (by decide) (by decide))
 refine PyProof.Rows.callWith_type1 ?_ (nN hs) rfl
 refine aH (zx he cw hs p3 pins s σ H (fun xs H1=>match xs with | [x]=>uV X.K x H1 Q | _=>False) I h) fun us s1 ⟨vs,H1,I1,r1,q1⟩=>?_
 match vs,r1,q1 with
 | [x],r1,q1=>
 obtain ⟨u,rfl,ru⟩:=mw r1
 obtain ⟨a,ks,rfl,hq,hz,q⟩:=q1
 cases ru
 have go:∀(its:List Value) (c:Bool),ar (ks.map gA) its→(if c=true then s1.heap.IsList a its.toArray else s1.heap.IsTuple a its.toArray)→wpAny (model X.prog X.w) X.A (call (.type "set") [.ref a]) (fun v s2=>wpAny (model X.prog X.w) X.A (call (.builtin "len") [v]) (EP X pins σ Q) X.xe s2) X.xe s1:=fun its c rv hl=>by
  obtain ⟨z1,z2⟩:=rK rv
  refine wU (I1.ok.hd hc) hl z1 z2 (by show ks.length+1<4096;trivial) fun h' tk S kp=>?_
  have I2:ac X pins σ H1 { s1 with heap:=h',toks:=tk }:=I1.kept fun b o e=>kp b o (Heap.lt_size e) e
  exact yX (s:={ s1 with heap:=h',toks:=tk }) S hz ⟨.int _,H1,I2.tok _,⟨()⟩,q⟩
 have fin:=fun (v:Value) (s2:Shared) (z:wpAny (model X.prog X.w) X.A (call (.builtin "len") [v]) (EP X pins σ Q) X.xe s2)=>(Calls.spliced_nil z:wpAny (model X.prog X.w) X.A (spliced []) (fun vs s3=>wpAny (model X.prog X.w) X.A (call (.builtin "len") (v :: vs)) (EP X pins σ Q) X.xe s3) X.xe s2)
 rcases hq with hq | hq
 ·obtain ⟨its,rv,p,_⟩:=I1.list hq
  exact aH (go its true rv p.isList) fun v s2 z=>fin v s2 z
 ·obtain ⟨its,rv,p,_⟩:=I1.tuple hq
  exact aH (go its false rv p) fun v s2 z=>fin v s2 z
end
section
variable {X:Cx}{K:PySem.W.Frag}{o e:Expr}{es:List Expr}{to:TE}{t:TA}{name:Str}{apos cpos:Pos}{T id:String}{r:V→List V→Hp→VK→Prop}
theorem dg (pa:PlainAttrs T) (slot:Slot T name id) (hty:typeOf (.builtin id)=pure (.type "method_descriptor")) (hm:xg X id r) (ho:PE X o to) (ha:PA X (e :: es) t) (ek:X.K=K:=by rfl)
 (h1:attributeBase o name X.env (eval o X.env)=eval o X.env:=by rfl)
 (h2:((backTo cpos (starEach (e :: es) X.env)).all (fun x=>!x.1) && (backToKw cpos (keywordEach [] X.env)).all (fun x=>x.1.isSome) && decide ((e :: es).length+([]:List Keyword).length+(if ([]:List Keyword).isEmpty then 0 else 1)<30))=true:=by rfl)
 (h3:(apos.endLine==cpos.line)=true:=by rfl) (h4:starEach (e :: es) X.env=(false,eval e X.env) :: starEach es X.env:=by rfl) (h5:(backTo cpos (starEach es X.env)).any (·.1)=false:=by rfl) :
 PE X (.Call (.Attribute o name apos) (e :: es) [] cpos) (EZ K T r to t):=by
 subst ek
 exact Dw pa slot hty hm ho ha h1 h2 h3 h4 h5
end
theorem tP {X:Cx}{K:PySem.W.Frag}{es:List Expr}{kk:Nat}{tp:Pos}{a b:Expr}{ta:TA}{p pos:Pos} (hg:Gl X "zip") (hm:X.mg "zip" = none) (ha:PA X [a,b] ta) (ek:X.K=K:=by rfl) (h1:starEach [a,b] X.env=[(false,eval a X.env),(false,eval b X.env)]:=by rfl) (h2:starEach [b] X.env=[(false,eval b X.env)]:=by rfl) :
 PI X (.Tuple es kk tp) (.Call (.Name "zip" p) [a,b] [] pos) (CV K ta):=by
 subst ek
 exact BH hg hm ha h1 h2
end L2
namespace L2
theorem bq {t u:TS}{D:cy}{σ:St}{H:Hp} (h:∀D':cy,(∀σ' H',u D σ' H'→D'.nx σ' H')→t D' σ H):ii t u D σ H:=h { D with nx:=u D } fun _ _ z=>z
theorem oh {t u:TS}{D:cy}{σ:St}{H:Hp} (h:∀D':cy,(∀σ' H',u D σ' H'→D'.nx σ' H')→(∀v H',D.rt v H'→D'.rt v H')→t D' σ H):ii t u D σ H:=h { D with nx:=u D } (fun _ _ z=>z) fun _ _ z=>z
theorem oY {t:TS}{D:cy}{σ:St}{H:Hp} (h:∀D':cy,(∀σ' H',D.nx σ' H'→D'.nx σ' H')→t D' σ H):t D σ H:=h D fun _ _ z=>z
theorem zJ {t:TS}{D:cy}{σ:St}{H:Hp} (h:∀D':cy,(∀σ' H',D.nx σ' H'→D'.nx σ' H')→(∀v H',D.rt v H'→D'.rt v H')→t D' σ H):t D σ H:=h D (fun _ _ z=>z) fun _ _ z=>z
end L2
namespace L2
open PySem PySem.Spec PyProof.Rows
section
variable {X:Cx}
end
section
variable {K:PySem.W.Frag}{a a1 a2 D:Addr}{H1:Hp}{σc:St}{g:TG}{te:TE}{tt:TT}{Q:VK}{xs ys:List V}
theorem qS {α:Type} (f:Nat→α) (i:Nat):(List.range i).map f++[f i]=(List.range (i+1)).map f:=by
 rw [List.range_succ,List.map_append];rfl
theorem nn {α β:Type} (f:Nat→β) (h:α→β) (l:List α) (e:∀(i:Nat) (x:α),l[i]?=some x→f i=h x):(List.range l.length).map f=l.map h:=by
 apply List.ext_getElem?
 intro i
 rw [List.getElem?_map,List.getElem?_map]
 by_cases hi:i<l.length
 ·rw [List.getElem?_range hi,List.getElem?_eq_getElem hi]
  show some (f i)=some (h l[i])
  rw [e i l[i] (List.getElem?_eq_getElem hi)]
 ·rw [List.getElem?_eq_none (by simp;trivial),List.getElem?_eq_none (by trivial)];rfl
theorem sj {J:It}{n:Nat} (f:Nat→V) (hz:n≤10000) (hD:H1 D=none) (hgo:∀i H',i<n→ae H1 H'→J.go i H') (hst:∀H',ae H1 H'→J.stop n H')
 (hs:∀i x H' H'' (R:VK),i<n→ae H1 H'→J.yld i H' x H''→(∀H4,ae H' H4→R (f i) H4)→g x σc H'' fun σ2 H2=>ik σc σ2∧te σ2 H2 R)
 (hd:∀H',ae H1 H'→H' D=some (.lst ((List.range n).map f))→Q (.ref D) H'):mG J σc g tT te D H1 Q:=by
 refine jD (n:=n) (fun i H' zs=>zs=(List.range i).map f∧H' D=some (.lst zs)∧ae H1 H') (gZ hz) ⟨rfl,aD,ic hD (ae.refl _)⟩ ?_ ?_ ?_ ?_ ?_
 ·rintro i H' zs ⟨rfl,q,_⟩
  exact ⟨q,by simp⟩
 ·rintro i H' zs hi ⟨_,_,sm⟩
  exact hgo i H' hi sm
 ·rintro H' zs ⟨_,_,sm⟩
  exact hst H' sm
 ·rintro i H' zs x H'' hi ⟨rfl,q,sm⟩ y
  exact hs i x H' H'' _ hi sm y fun H4 s4=>⟨s4 _ _ q,qS f i,aD,ic hD (sm.trans s4)⟩
 ·rintro H' zs ⟨rfl,q,sm⟩
  exact hd H' sm q
theorem sq (f:Nat→V) (hz:xs.length≤10000) (hD:H1 D=none) (ha:H1 a=some (.lst xs))
 (hs:∀i x H' (R:VK),xs[i]?=some x→ae H1 H'→(∀H4,ae H' H4→R (f i) H4)→g x σc H' fun σ2 H2=>ik σc σ2∧te σ2 H2 R)
 (hd:∀H',ae H1 H'→H' D=some (.lst ((List.range xs.length).map f))→Q (.ref D) H'):mG (uj K a) σc g tT te D H1 Q:=by
 refine sj (n:=xs.length) f hz hD (fun i H' hi sm=>⟨xs,xs[i],ap.of (sm _ _ ha),by simp [hi]⟩) (fun H' sm=>⟨xs,ap.of (sm _ _ ha),Nat.le_refl _⟩) ?_ hd
 rintro i x H' H'' R hi sm ⟨rfl,ex⟩ k
 exact hs i x H'' R (ex _ (ap.of (sm _ _ ha))) sm k
end
end L2
namespace L2
theorem ye {tc:TT}{t u:TS}{D:cy}{σ:St}{H:Hp} (o1 o0:Hp→Prop) (hc:∀Q:Bool→Hp→Prop,(∀H',o1 H'→Q true H')→(∀H',o0 H'→Q false H')→tc σ H Q) (h1:∀H',o1 H'→t D σ H') (h0:∀H',o0 H'→u D σ H'):CB tc t u D σ H:=
 hc _ (fun H' o=>by rw [if_pos rfl];exact h1 H' o) fun H' o=>by rw [if_neg (by decide)];exact h0 H' o
theorem Ab {te:TE}{g:TG}{u:TS}{D:cy}{σ:St}{H:Hp} (I:V→Hp→Prop) (rest:∀v H',I v H'→g v σ H' (u D)) (h:(∀v H',I v H'→g v σ H' (u D))→te σ H fun v H'=>g v σ H' (u D)):ii (qK te g) u D σ H:=h rest
theorem vR {t u:TS}{D:cy}{σ:St}{H:Hp} (I:St→Hp→Prop) (rest:∀σ' H',I σ' H'→u D σ' H') (h:(∀σ' H',I σ' H'→u D σ' H')→t { D with nx:=u D } σ H):ii t u D σ H:=h rest
end L2
namespace L2
open PySem PySem.Spec PyProof.Rows
section
variable {X:Cx}{tg:Expr}
inductive AM (K:PySem.W.Frag) (x:V) (y:V) (H:Hp) (Q:VK):Prop
 | mk (a:_) (b:_) (xs:_) (ys:_) (h0:x=.ref a) (h1:y=.ref b) (h2:af K H a xs) (h3:H a=some (.tup xs)) (h4:af K H b ys) (h5:xs≠[]) (h6:xs.length+ys.length≤10000) (h7:∀p H',ae H H'→H' p=some (.tup (xs++ys))→Q (.ref p) H')
def Ce (K:PySem.W.Frag):R2:=fun x y H Q=>AM K x y H Q
theorem yU {K:PySem.W.Frag} (e:X.K=K:=by rfl):bF X (binaryOp .Add) (Ce K):=by
 subst e
 intro pins s σ H x y v u Q I rx ry h
 obtain ⟨a,b,xs,ys,e1,e2,ha,ha',hb,hx,hz,q⟩:=h
 refine At pins s σ H x y v u Q I rx ry ⟨a,b,xs,ys,e1,e2,ha,hb,hx,gZ hz,fun z=>?_,fun z p hp=>q p _ (ae.new hp) aD⟩
 refine q a H (ae.refl _) ?_
 rw [z,List.append_nil];exact ha'
end
section
variable {X:Cx}{K:PySem.W.Frag}{o e:Expr}{es:List Expr}{to:TE}{t:TA}{name:Str}{apos cpos:Pos}{id:String}{r:V→List V→Hp→VK→Prop}
end
end L2
namespace L2
open PySem PyProof.Rows
def df (X:Cx) (scope:Scope) (cl:List (Str×Addr)) (C:Addr) (N':List Str) (s:Shared) (H:Hp) (ex:List Addr) (pn:List (Addr×Obj)):Cx:=
 { dk X scope cl C N' s H ex pn with fn:=fun x=>scope.names.lookup x==some .cell }
def mI (esc:Scope) (N:List Str) (scope:Scope) (N':List Str) (L:Nat) (src:List Nat):Bool:=
 (scope.kind==.function) && scope.names.all (fun y=>(y.2 != .cell || scope.names.lookup y.1==some .cell) && (y.2 != .local || scope.names.lookup y.1==some .local) && (y.2 != .free || esc.names.lookup y.1==some .cell || esc.names.lookup y.1==some .free)) &&
  (N'.length==L+src.length) && (List.range src.length).all fun i=>match src[i]?,N'[L+i]? with
   | some j,some x=>(N[j]?==some x) && (scope.names.lookup x==some .free)
   | _,_=>false
structure u8 (esc:Scope) (N:List Str) (scope:Scope) (N':List Str) (L:Nat) (src:List Nat):Prop where
 kind:scope.kind=.function
 cells:∀y∈scope.names,y.2=.cell→scope.names.lookup y.1=some .cell
 loc:∀y∈scope.names,y.2=.local→scope.names.lookup y.1=some .local
 free:∀y∈scope.names,y.2=.free→esc.names.lookup y.1=some .cell∨esc.names.lookup y.1=some .free
 len:N'.length=L+src.length
 frees:∀(i j:Nat),src[i]?=some j→∃x,N'[L+i]?=some x∧N[j]?=some x∧scope.names.lookup x=some .free
theorem qd {esc:Scope}{N:List Str}{scope:Scope}{N':List Str}{L:Nat}{src:List Nat} (h:mI esc N scope N' L src=true):u8 esc N scope N' L src:=by
 unfold mI at h
 simp only [Bool.and_eq_true,List.all_eq_true] at h
 obtain ⟨⟨⟨h1,h2⟩,h3⟩,h4⟩:=h
 refine ⟨by simpa using h1,fun y hy e=>?_,fun y hy e=>?_,fun y hy e=>?_,by simpa using h3,fun i j e=>?_⟩
 ·have:=(h2 y hy).1.1
  rw [e] at this
  simpa using this
 ·have:=(h2 y hy).1.2
  rw [e] at this
  simpa using this
 ·have:=(h2 y hy).2
  rw [e] at this
  simpa using this
 ·have hi:i<src.length:=(List.getElem?_eq_some_iff.mp e).1
  have:=h4 i (List.mem_range.mpr hi)
  rw [e] at this
  cases q:N'[L+i]? with
  | none=>rw [q] at this;simp at this
  | some x=>
   rw [q] at this
   simp only [Bool.and_eq_true,beq_iff_eq] at this
   exact ⟨x,rfl,this.1,this.2⟩
theorem jg:∀(names:List (Str×NameKind)) (n:Nat) (acc acc':List (Str×Addr)),cellsFrom n names (acc++acc')=cellsFrom n names acc++acc'
 | [],_,_,_=>rfl
 | (name,kind) :: r,n,acc,acc'=>by
  unfold cellsFrom
  split
  ·exact jg r (n+1) ((name,n) :: acc) acc'
  ·exact jg r n acc acc'
theorem sK (names:List (Str×NameKind)) (n:Nat) (acc:List (Str×Addr)):cellsFrom n names acc=cellsFrom n names []++acc:=jg names n [] acc
theorem iL {x:Str}{c:Addr}:∀(names:List (Str×NameKind)) (n:Nat) (acc:List (Str×Addr)),(x,c)∈cellsFrom n names acc→(x,NameKind.cell)∈names∨(x,c)∈acc
 | [],_,_,h=>.inr h
 | (name,kind) :: r,n,acc,h=>by
  unfold cellsFrom at h
  split at h
  ·rename_i hk
   rcases iL r (n+1) _ h with h | h
   ·exact .inl (List.mem_cons_of_mem _ h)
   ·rcases List.mem_cons.mp h with h | h
    ·injection h with h1 h2
     have hk':kind=.cell:=by simpa using hk
     rw [h1,hk'];exact .inl List.mem_cons_self
    ·exact .inr h
  ·rcases iL r n _ h with h | h
   ·exact .inl (List.mem_cons_of_mem _ h)
   ·exact .inr h
theorem jd {x:Str}:∀(names:List (Str×NameKind)) (n:Nat) (acc:List (Str×Addr)),(∃c,acc.lookup x=some c)→∃c,(cellsFrom n names acc).lookup x=some c
 | [],_,_,h=>h
 | (name,kind) :: r,n,acc,⟨c,h⟩=>by
  unfold cellsFrom
  split
  ·refine jd r (n+1) _ ?_
   rw [List.lookup_cons]
   cases hb:x==name with
   | true=>exact ⟨_,rfl⟩
   | false=>exact ⟨c,h⟩
  ·exact jd r n acc ⟨c,h⟩
theorem jI {x:Str}:∀(names:List (Str×NameKind)) (n:Nat) (acc:List (Str×Addr)),(x,NameKind.cell)∈names→∃c,(cellsFrom n names acc).lookup x=some c
 | (name,kind) :: r,n,acc,h=>by
  unfold cellsFrom
  rcases List.mem_cons.mp h with h | h
  ·injection h with h1 h2
   subst h1;subst h2
   rw [if_pos (show (NameKind.cell==NameKind.cell)=true from rfl)]
   exact jd r (n+1) _ ⟨n,by simp [List.lookup_cons]⟩
  ·split
   ·exact jI r (n+1) _ h
   ·exact jI r n acc h
theorem Ft {M:Model}{A:Around}{E:Value→Shared→Prop}{s:Shared}{scope:Scope}{globals:Addr}{cl:List (Str×Addr)}{qual:Str}{env:Env}{Q:Env→Shared→Prop}
 (h:Q { scope:=scope,locals:=s.heap.objs.size,globals:=globals,cells:=cellsFrom (s.heap.objs.size+1) scope.names cl,qual:=qual,func:=none,code:=env.code,frame:=env.frame,builtins:=env.builtins }
  { s with heap:=pushCells (s.heap.push { cls:=.type "dict",data:=.dict #[] }) scope.names }) :
 wpAny M A (newFunctionEnv scope globals cl [] qual none .none (some env)) Q E s:=by
 simp only [newFunctionEnv,Option.isSome_some,if_true]
 refine wpAny_bind (wpAny_alloc ?_)
 refine wpAny_bind (wpAny_layCells _ (fun name kind cells=>by cases hkc:kind==NameKind.cell <;> simp [hkc]) _ _ _ _ ?_)
 rw [show ({ s with heap:=s.heap.push { cls:=.type "dict",data:=.dict #[] } }:Shared).heap.objs.size=s.heap.objs.size+1 from Heap.size_push ..]
 exact wpAny_bind (by rw [List.forIn_nil];exact wpAny_pure (wpAny_pure h))
section
variable {X:Cx}{elt tg iter:Expr}{ifs:List Expr}{scope:Scope}{pos:Pos}{N':List Str}{L:Nat}{src:List Nat}{wi:TI}{g:TG}{tt:TT}{te:TE}
theorem rR (hc:X.calm=true) (ck:u8 X.env.scope X.N scope N' L src) {cl:List (Str×Addr)}{pins:List (Addr×Obj)}{s:Shared}{σ:St}{H:Hp}{Q:VK} (I:ac X pins σ H s)
 (hsub:∀x c,cl.lookup x=some c→X.env.cells.lookup x=some c) (hhas:∀y∈scope.names,y.2=.free→∃c,cl.lookup y.1=some c)
 (hi:PI X tg iter wi) (hg:∀cl C s H ex pn,PG (df X scope cl C N' s H ex pn) tg g) (hif:∀cl C s H ex pn,oy (df X scope cl C N' s H ex pn) ifs tt)
 (he:∀cl C s H ex pn,PE (df X scope cl C N' s H ex pn) elt te) (h:wB wi L src g tt te σ H Q) {RR:Value→Addr→Result→Shared→Prop}
 (hRR:∀D C H' f s' m,ac X pins σ H' s'→s'.heap.Ns C m→i3 X pins H' C→Q (.ref D) H'→RR (.ref D) C (.ok f) s') :
 wpAny (model X.prog X.w) X.A (eval iter X.env) (fun x s₁=>wpAny (model X.prog X.w) X.A (pyIter x) (fun it s₂=>wpAny (model X.prog X.w) X.A (newList []) (fun acc s₃=>
  wpAny (model X.prog X.w) X.A (newFunctionEnv scope X.env.globals cl [] X.env.qual none .none (some X.env)) (fun cenv s₄=>
   codeAny (model X.prog X.w) X.A (.compStart (.ListComp elt [⟨tg,iter,ifs,0⟩] scope pos) 0 it acc { cenv with scope:=relabel scope X.env }) (RR acc cenv.locals) s₄) X.xe s₃) X.xe s₂) X.xe s₁) X.xe s:=by
 refine aH (hi pins s σ H _ I h) fun v s1 h1=>aH h1 fun itv s2 h2=>?_
 obtain ⟨it,fp,tn,J,H2,e,I2,T,st2,f2,q⟩:=h2
 subst e
 refine wpAny_newObj_type (Ft ?_)
 dsimp only
 generalize hH2:s2.heap.push { cls:=.type "list",dict:=none,data:=.seq ([]:List Value).toArray }=hp2
 have hns₁:(pushCells (hp2.push { cls:=.type "dict",data:=.dict #[] }) scope.names).Ns hp2.objs.size fun _=>none:=(Heap.Ns.new hp2 (.type "dict")).keeps (pushCells_keeps _ _)
 have kp:∀b o,hp2.get? b=some o→(pushCells (hp2.push { cls:=.type "dict",data:=.dict #[] }) scope.names).get? b=some o:=fun b o e=>pushCells_keeps _ _ b o (Heap.get?_push_of_some _ e)
 have okc:=cellsFrom_ok scope.names (hp2.push { cls:=.type "dict",data:=.dict #[] }) (hp2.objs.size+1) [] ⟨fun _ _ hm=>(nomatch hm),List.Pairwise.nil⟩ (by rw [Heap.size_push];exact Nat.le_refl _)
 rw [Heap.size_push] at okc
 rw [sK]
 have ncell:∀x c,(cellsFrom (hp2.objs.size+1) scope.names []).lookup x=some c→(x,NameKind.cell)∈scope.names:=fun x c e=>(iL _ _ _ (PySem.mem_of_lookup e)).elim id (fun z=>by cases z)
 have nhas:∀x,(x,NameKind.cell)∈scope.names→∃c,(cellsFrom (hp2.objs.size+1) scope.names []).lookup x=some c:=fun x h=>jI _ _ _ h
 generalize pushCells (hp2.push { cls:=.type "dict",data:=.dict #[] }) scope.names=h₁ at hns₁ kp okc ⊢
 generalize cellsFrom (hp2.objs.size+1) scope.names []=nw at okc ncell nhas ⊢
 have hC:hp2.objs.size=s2.heap.objs.size+1:=by rw [←hH2,Heap.size_push]
 have hDC:s2.heap.objs.size≠hp2.objs.size:=by rw [hC];exact Nat.ne_of_lt (Nat.lt_succ_self _)
 have hCle:s2.heap.objs.size≤hp2.objs.size:=by rw [hC];exact Nat.le_succ _
 have below:∀b,b<s2.heap.objs.size→b≠hp2.objs.size∧b≠s2.heap.objs.size:=fun b hb=>⟨by rw [hC];exact Nat.ne_of_lt (Nat.lt_succ_of_lt hb),Nat.ne_of_lt hb⟩
 have old:∀b o,s2.heap.get? b=some o→h₁.get? b=some o:=fun b o e=>kp b o (hH2▸Heap.get?_push_of_some _ e)
 have hacc:h₁.get? s2.heap.objs.size=some { cls:=.type "list",dict:=none,data:=.seq ([]:List Value).toArray }:=kp _ _ (hH2▸Heap.get?_push_size _ rfl)
 have hDn:H2 s2.heap.objs.size=none:=I2.fresh
 obtain ⟨W,⟨m0,w0⟩,turn⟩:=q _ hDn
 have fpo:∀b∈fp,∃o,s2.heap.get? b=some o∧∀v,o.data≠.cell v:=T.obj _ _ st2
 have fplt:∀b∈fp,b<s2.heap.objs.size:=fun b hb=>by obtain ⟨o,e,_⟩:=fpo b hb;exact Heap.lt_size e
 have hfrs:∀b∈fp,b∉gT X.stack:=fun b hb z=>by
  rcases List.mem_cons.mp (I2.stkSub b z) with z' | z'
  ·exact (f2 b hb).2.1 z'
  ·exact (f2 b hb).2.2.1 z'
 have spl:∀x c,(nw++cl).lookup x=some c→nw.lookup x=some c∨(nw.lookup x=none∧cl.lookup x=some c):=fun x c e=>by
  rw [List.lookup_append] at e
  cases q:nw.lookup x with
  | none=>rw [q] at e;exact .inr ⟨rfl,e⟩
  | some c'=>rw [q] at e;exact .inl e
 have nab:∀x c,nw.lookup x=some c→hp2.objs.size+1≤c:=fun x c e=>(okc.empty x c (PySem.mem_of_lookup e)).2
 have olt:∀x c,cl.lookup x=some c→c<s2.heap.objs.size:=fun x c e=>by
  obtain ⟨v,o,ho,_⟩:=I2.cell x c (hsub _ _ e)
  exact Heap.lt_size ho
 have n2o:∀x c y,nw.lookup x=some c→cl.lookup y=some c→False:=fun x c y e1 e2=>Nat.lt_irrefl c (Nat.lt_of_lt_of_le (olt y c e2) (Nat.le_trans hCle (Nat.le_of_succ_le (nab x c e1))))
 generalize hX:df X scope (nw++cl) hp2.objs.size N' s2 H2 fp (X.pn++pins)=X'
 have ok':X'.Ok:=by
  subst hX
  refine ⟨I2.ok.mod,ck.kind,I2.ok.glob,I2.ok.blt,hCle,fun x y c e1 e2=>(spl x c e1).elim (fun g1=>(spl y c e2).elim (fun g2=>name_of_addr okc.apart (PySem.mem_of_lookup g1) (PySem.mem_of_lookup g2)) (fun g2=>(n2o x c y g1 g2.2).elim)) (fun g1=>(spl y c e2).elim (fun g2=>(n2o y c x g2 g1.2).elim) (fun g2=>I2.ok.inj x y c (hsub _ _ g1.2) (hsub _ _ g2.2))),fun x hx=>?_,fun x c z e=>?cab,I2.ok.hd,I2.ok.frames,.inl rfl,fun b hb=>⟨(below b (fplt b hb)).1,fun x c e=>(spl x c e).elim (fun g z=>Nat.lt_irrefl b (Nat.lt_of_lt_of_le (fplt b hb) (Nat.le_trans hCle (Nat.le_of_succ_le (z▸nab x c g))))) (fun g=>(f2 b hb).2.2.2.2.1 x c (hsub _ _ g.2))⟩,
   I2.bs,Nat.le_trans I2.ok.bsz I2.sz,fun b o e hb=>?_,hfrs,I2.stack,I2.stkFree⟩
  ·-- a name that is a cell or free
   have hx':(relabel scope X.env).names.lookup x=some .cell∨(relabel scope X.env).names.lookup x=some .free:=hx
   have key:∀(names:List (Str×NameKind)),
    ((names.map fun (n,k)=>if (k==NameKind.free && X.env.scope.kind==.function && X.env.kindOf n==some .cell) then (n,NameKind.cell) else (n,k)).lookup x=some .cell∨
     (names.map fun (n,k)=>if (k==NameKind.free && X.env.scope.kind==.function && X.env.kindOf n==some .cell) then (n,NameKind.cell) else (n,k)).lookup x=some .free)→∃y∈names,y.1=x∧(y.2=.free∨y.2=.cell):=by
    intro names
    induction names with
    | nil=>intro h;rcases h with h | h <;> simp at h
    | cons y r ih=>
     intro h
     obtain ⟨n,k⟩:=y
     by_cases hb:x=n
     ·subst hb
      refine ⟨(x,k),List.mem_cons_self,rfl,?_⟩
      by_cases hk:k=.free
      ·exact .inl hk
      ·have hkb:(k==NameKind.free)=false:=by simpa using hk
       right
       simp only [List.map_cons,hkb,Bool.false_and,Bool.false_eq_true,if_false,List.lookup_cons,beq_self_eq_true,if_true] at h
       rcases h with h | h
       ·exact Option.some.inj h
       ·exact absurd (Option.some.inj h) hk
     ·have hb':(x==n)=false:=by simpa using hb
      have h':((r.map fun (n,k)=>if (k==NameKind.free && X.env.scope.kind==.function && X.env.kindOf n==some .cell) then (n,NameKind.cell) else (n,k)).lookup x=some .cell∨
       (r.map fun (n,k)=>if (k==NameKind.free && X.env.scope.kind==.function && X.env.kindOf n==some .cell) then (n,NameKind.cell) else (n,k)).lookup x=some .free):=by
       rw [List.map_cons] at h
       dsimp only at h
       by_cases hcnd:(k==NameKind.free && X.env.scope.kind==.function && X.env.kindOf n==some .cell)=true
       ·rw [if_pos hcnd] at h
        simpa only [List.lookup_cons,hb'] using h
       ·rw [if_neg hcnd] at h
        simpa only [List.lookup_cons,hb'] using h
      obtain ⟨y,hy,e1,e2⟩:=ih h'
      exact ⟨y,List.mem_cons_of_mem _ hy,e1,e2⟩
   obtain ⟨y,hy,e1,e2⟩:=key scope.names hx'
   show ∃c,(nw++cl).lookup x=some c
   rw [List.lookup_append]
   cases q:nw.lookup x with
   | some c=>exact ⟨c,rfl⟩
   | none=>
    rcases e2 with e2 | e2
    ·obtain ⟨c,hc'⟩:=hhas y hy e2
     exact ⟨c,by rw [←e1,hc'];rfl⟩
    ·obtain ⟨c,hc'⟩:=nhas x (by obtain ⟨y1,y2⟩:=y;dsimp only at e1 e2;rw [←e1,←e2];exact hy)
     rw [q] at hc';cases hc'
  case cab=>
   have z':(scope.names.lookup x==some NameKind.cell)=true:=z
   obtain ⟨c',hc'⟩:=nhas x (PySem.mem_of_lookup (by simpa using z'))
   rcases spl x c e with g | g
   ·have:=nab x c g
    show s2.heap.objs.size≤c
    trivial
   ·rw [hc'] at g;cases g.1
  ·rcases (f2 b hb).2.2.2.1 with z | z
   ·exact I2.ok.noex b o e z
   ·exact absurd (Nat.lt_of_lt_of_le (Heap.lt_size e) (Nat.le_trans I2.ok.bsz z)) (Nat.lt_irrefl _)
 have stat:∀{H':Hp},(∀b∈fp,H' b=none)→∀b∈fp,i3 X' [] H' b:=by
  subst hX
  intro H' hn b hb
  refine ⟨hn b hb,(below b (fplt b hb)).1,hfrs b hb,.inl hb,fun x c e=>(spl x c e).elim (fun g z=>Nat.lt_irrefl b (Nat.lt_of_lt_of_le (fplt b hb) (Nat.le_trans hCle (Nat.le_of_succ_le (z▸nab x c g))))) (fun g=>(f2 b hb).2.2.2.2.1 x c (hsub _ _ g.2)),fun p hp=>?_⟩
  have hp':p∈X.pn++pins:=by simpa [df,dk] using hp
  exact (f2 b hb).2.2.2.2.2 p hp'
 have I1:ac X' [] (fu L src σ) (aC H2 s2.heap.objs.size (.lst [])) { s2 with heap:=h₁,toks:=s2.toks }:=by
  subst hX
  have up:∀b o,H2 b=some o→aC H2 s2.heap.objs.size (.lst []) b=some o:=fun b o e=>by rw [ag (aJ e hDn)];exact e
  have upn:∀b,b<s2.heap.objs.size→H2 b=none→aC H2 s2.heap.objs.size (.lst []) b=none:=fun b hb e=>by rw [ag (Nat.ne_of_lt hb)];exact e
  refine ⟨ok',rfl,I2.bare,Un.laid old (Nat.le_refl _) hDn,⟨_,hns₁,fun i x v e1 e2 e3=>?_⟩,fun x c e=>?_,?_,fun x c e=>?_,fun p hp=>?_,I2.hok.laid old (Nat.le_refl _) ⟨Nat.zero_le _,[],0,.nil,hacc⟩,?_⟩
  ·-- the names of the def around
   have hiL:L≤i:=by
    by_cases hlt:i<L
    ·exfalso
     unfold fu at e2
     rw [List.getElem?_append_left (by simpa using hlt),List.getElem?_replicate,if_pos hlt] at e2
     cases e2
    ·trivial
   have e2':(src.map fun j=>(σ[j]?).join)[i - L]?=some (some v):=by
    unfold fu at e2
    rw [List.getElem?_append_right (by simpa using hiL),List.length_replicate] at e2
    exact e2
   rw [List.getElem?_map] at e2'
   cases hj:src[i - L]? with
   | none=>rw [hj] at e2';cases e2'
   | some j=>
    rw [hj] at e2'
    have e3':(σ[j]?).join=some v:=Option.some.inj e2'
    have hσ:σ[j]?=some (some v):=by
     cases q:σ[j]? with
     | none=>rw [q] at e3';cases e3'
     | some o=>rw [q] at e3';exact congrArg some e3'
    obtain ⟨x',g1,g2,g3⟩:=ck.frees (i - L) j hj
    have:L+(i - L)=i:=by trivial
    rw [this] at g1
    have ex:x'=x:=Option.some.inj (g1.symm.trans e1)
    subst ex
    have hfree:=ck.free _ (PySem.mem_of_lookup g3) rfl
    obtain ⟨m,hn,hl⟩:=I2.loc
    obtain ⟨u,r,l⟩:=hl j x' v g2 hσ (hfree.elim (fun z=>.inr (.inl z)) fun z=>.inr (.inr z))
    refine ⟨u,r,.inr ⟨?_,?_⟩⟩
    ·-- its kind in the block
     have key:∀(names:List (Str×NameKind)),names.lookup x'=some .free→
      ((names.map fun (n,k)=>if (k==NameKind.free && X.env.scope.kind==.function && X.env.kindOf n==some .cell) then (n,NameKind.cell) else (n,k)).lookup x'=some .cell∨
       (names.map fun (n,k)=>if (k==NameKind.free && X.env.scope.kind==.function && X.env.kindOf n==some .cell) then (n,NameKind.cell) else (n,k)).lookup x'=some .free):=by
      intro names
      induction names with
      | nil=>intro h;simp at h
      | cons y r ih=>
       intro h
       obtain ⟨n,k⟩:=y
       by_cases hb:x'=n
       ·subst hb
        simp only [List.lookup_cons,beq_self_eq_true,if_true] at h
        have hk:k=.free:=Option.some.inj h
        subst hk
        rw [List.map_cons]
        dsimp only
        by_cases hcnd:(NameKind.free==NameKind.free && X.env.scope.kind==.function && X.env.kindOf x'==some .cell)=true
        ·rw [if_pos hcnd];left;simp [List.lookup_cons]
        ·rw [if_neg hcnd];right;simp [List.lookup_cons]
       ·have hb':(x'==n)=false:=by simpa using hb
        have h':=ih (by simpa only [List.lookup_cons,hb'] using h)
        rw [List.map_cons]
        dsimp only
        by_cases hcnd:(k==NameKind.free && X.env.scope.kind==.function && X.env.kindOf n==some .cell)=true
        ·rw [if_pos hcnd];simpa only [List.lookup_cons,hb'] using h'
        ·rw [if_neg hcnd];simpa only [List.lookup_cons,hb'] using h'
     exact key scope.names g3
    ·obtain ⟨c,hcl⟩:=hhas _ (PySem.mem_of_lookup g3) rfl
     have hcx:=hsub _ _ hcl
     rcases l with ⟨k1,_⟩ | ⟨_,c',e4,z⟩
     ·exfalso
      have k1':X.env.scope.names.lookup x'=some .local:=k1
      rcases hfree with z | z
      ·rw [z] at k1';cases k1'
      ·rw [z] at k1';cases k1'
     ·rw [hcx] at e4
      cases e4
      obtain ⟨o,ho,hd⟩:=z
      refine ⟨c,?_,o,old _ _ ho,hd⟩
      show (nw++cl).lookup x'=some c
      rw [List.lookup_append]
      cases q:nw.lookup x' with
      | none=>exact hcl
      | some c'=>
       exfalso
       have:=ck.cells _ (ncell _ _ q) rfl
       dsimp only at this
       rw [g3] at this;cases this
  ·rcases spl x c e with g | g
   ·exact ⟨none,(okc.empty x c (PySem.mem_of_lookup g)).1⟩
   ·obtain ⟨v,o,ho,hd⟩:=I2.cell x c (hsub _ _ g.2)
    exact ⟨v,o,old _ _ ho,hd⟩
  ·show aC H2 s2.heap.objs.size (.lst []) hp2.objs.size=none
   rw [ag (Ne.symm hDC)]
   exact I2.hok.fresh hCle
  ·rcases spl x c e with g | g
   ·have:=nab x c g
    rw [ag (by intro z;rw [z] at this;trivial)]
    exact I2.hok.fresh (by trivial)
   ·obtain ⟨v,o,ho,hd⟩:=I2.cell x c (hsub _ _ g.2)
    exact upn c (Heap.lt_size ho) (I2.freeC x c (hsub _ _ g.2))
  ·have hp':p∈X.pn++pins:=by simpa [df,dk] using hp
   obtain ⟨e,n,ne,nf,d⟩:=I2.pin p hp'
   have hlt:=Heap.lt_size e
   refine ⟨old _ _ e,upn _ hlt n,(below _ hlt).1,fun z=>?_,d⟩
   rcases List.mem_cons.mp (I2.stkSub _ z) with z' | z'
   ·exact ne z'
   ·exact nf z'
  ·show (fu L src σ).length=N'.length
   unfold fu
   rw [List.length_append,List.length_replicate,List.length_map,ck.len]
 have eA:X'.A=X.A:=by subst hX;rfl
 have eP:X'.prog=X.prog:=by subst hX;rfl
 have eW:X'.w=X.w:=by subst hX;rfl
 have eK:X'.K=X.K:=by subst hX;rfl
 have ec:X'.calm=true:=by subst hX;exact hc
 have exe:X'.xe=fun _ _=>False:=by subst hX;rfl
 have eE:X'.env=compEnvC scope (nw++cl) hp2.objs.size X.env:=by subst hX;rfl
 have hg':PG X' tg g:=by subst hX;exact hg _ _ _ _ _ _
 have hif':oy X' ifs tt:=by subst hX;exact hif _ _ _ _ _ _
 have he':PE X' elt te:=by subst hX;exact he _ _ _ _ _ _
 have aft:∀{H':Hp}{s':Shared},ac X' [] (fu L src σ) H' s'→ac X pins σ H' s'∧(∃m,s'.heap.Ns hp2.objs.size m)∧i3 X pins H' hp2.objs.size:=by
  subst hX
  intro H' s' J
  refine ⟨I2.call' (ch:=fp) J.os J.base J.hok J.bare fun b hb=>⟨(f2 b hb).2.2.2.1,(f2 b hb).2.1,(f2 b hb).2.2.2.2.1,(f2 b hb).2.2.2.2.2⟩,?_,I2.fpOk hCle J.free⟩
  obtain ⟨m,hn,_⟩:=J.loc
  exact ⟨m,hn⟩
 have st1:tn 0 h₁:=T.keep _ _ _ st2 fun b hb o e=>old b o e
 have loop:∀s₃:Shared,s₃={ s2 with heap:=h₁,toks:=s2.toks }→
  codeAny (model X.prog X.w) X.A (.compLoop (.ListComp elt [⟨tg,iter,ifs,0⟩] scope pos) 0 (.ref it) (.ref s2.heap.objs.size) (compEnvC scope (nw++cl) hp2.objs.size X.env))
   (RR (.ref s2.heap.objs.size) hp2.objs.size) s₃:=by
  rintro s₃ rfl
  refine tf (fun n s'=>kF fun i H' ys=>ac X' [] (fu L src σ) H' s'∧tn i s'.heap∧(∀b∈fp,H' b=none)∧W i n H' ys) ?_ m0
   ⟨0,_,[],I1,st1,fun b hb=>(by rw [ag (below b (fplt b hb)).2];exact (f2 b hb).1),w0⟩
  rintro n s3 ⟨i,H3,ys,I3,st3,fr3,w3⟩
  obtain ⟨hD,alt⟩:=turn i n H3 ys w3
  rcases alt with ⟨stop,qn⟩ | ⟨go,hlen,N,hN,step⟩
  ·have d:=T.done X' eP eW eK ec i [] s3 (fu L src σ) H3 (fun _ _=>False) I3 (stat fr3) st3 stop
   rw [eA] at d
   refine aH d fun r s4 ⟨hr,I4⟩=>?_
   subst hr
   obtain ⟨J,⟨m,hn⟩,fpC⟩:=aft I4
   exact hRR _ _ H3 .next s4 m J hn fpC qn
  ·have d:=T.item X' eP eW eK ec i [] s3 (fu L src σ) H3 (fun _ _=>False) I3 (stat fr3) st3 go
   rw [eA] at d
   refine aH d fun r s4 ⟨u,hr,h4⟩=>?_
   subst hr
   refine aH h4 fun _ s5 ⟨x,H5,I5,r5,y5,st5,fr5⟩=>?_
   have I5':=I5.pinned (stat fr5) (T.obj _ _ st5)
   have a1:=hg' _ s5 (fu L src σ) H5 x u _ I5' r5 (step x H5 y5)
   rw [eP,eW,eA,eE,exe] at a1
   refine aH a1 fun _ s6 ⟨σ6,H6,I6,bk,q6⟩=>?_
   have a2:=hif' _ s6 σ6 H6 _ I6 q6
   rw [eP,eW,eA,eE,exe] at a2
   refine aH a2 fun b s7 ⟨H7,I7,q7⟩=>?_
   have again:∀{H8:Hp}{s8:Shared}{ys':List V},ac X' ([]++lM fp s5.heap) σ6 H8 s8→N H8 ys'→∃m,m<n∧kF fun i H' ys=>ac X' [] (fu L src σ) H' s8∧tn i s8.heap∧(∀b∈fp,H' b=none)∧W i m H' ys:=fun {H8 s8 ys'} I8 n8=>by
    obtain ⟨m',hm,w8⟩:=hN H8 ys' n8
    refine ⟨m',hm,i+1,H8,ys',(I8.unpinned).weak bk.1.symm bk.2,T.keep _ _ _ st5 fun b hb o e=>(I8.pin (b,o) (List.mem_append_right _ (List.mem_append_right _ (f8 hb e)))).1,fun b hb=>?_,w8⟩
    obtain ⟨o,e,d⟩:=T.obj _ _ st5 b hb
    exact (I8.pin (b,o) (List.mem_append_right _ (List.mem_append_right _ (f8 hb e)))).2.1
   cases b with
   | false=>
    rw [if_neg Bool.false_ne_true] at q7 ⊢
    exact again I7 q7
   | true=>
    rw [if_pos rfl] at q7 ⊢
    have a3:=he' _ s7 σ6 H7 _ I7 q7
    rw [eP,eW,eA,eE,exe] at a3
    refine aH a3 fun xv s8 ⟨y,H8,I8,r8,hD8,q8⟩=>?_
    have a4:=rQ (X:=X') _ s8 σ6 H8 (.ref s2.heap.objs.size) [y] (.ref s2.heap.objs.size) [xv] (fun _ H'=>H'=aC H8 s2.heap.objs.size (.lst (ys++[y]))) I8 rfl (.cons r8 .nil) ⟨_,ys,y,rfl,rfl,hD8,hlen,rfl⟩
    rw [eP,eW,eA,exe] at a4
    refine aH a4 fun _ s9 ⟨_,H9,I9,_,e9⟩=>?_
    subst e9
    exact again I9 q8
 exact codeAny_compStart_list (loop _ rfl) (T.self _ 0 _ _ _ st1 (loop _ rfl))
theorem ie (hc:X.calm=true) (ck:mI X.env.scope X.N scope N' L src=true) (hi:PI X tg iter wi) (hg:∀cl C s H ex pn,PG (df X scope cl C N' s H ex pn) tg g) (hif:∀cl C s H ex pn,oy (df X scope cl C N' s H ex pn) ifs tt)
 (he:∀cl C s H ex pn,PE (df X scope cl C N' s H ex pn) elt te) (hs:∀x,foldedSetIterable iter X.env x=pure x:=by intro _;rfl) :
 PE X (.ListComp elt [⟨tg,iter,ifs,0⟩] scope pos) (wB wi L src g tt te):=by
 intro pins s σ H Q I h
 have ck:=qd ck
 obtain ⟨cl,hclos,hsub,hhas⟩:=qY (scope:=scope) (env:=X.env) fun y hy e=>I.ok.has y.1 (ck.free y hy e)
 rw [eval_ListComp]
 refine wpAny_comprehension_free (use:=none) rfl hs hclos ck.kind ck.loc (rR hc ck I hsub hhas hi hg hif he h (RR:=fun acc C=>compPost (model X.prog X.w) X.A X.xe none (EP X pins σ Q) acc C) ?_)
 intro D C H' f s' m J hn fpC q
 refine ⟨m,hn,fun h' hsb=>⟨.ref D,H',?_,rfl,q⟩⟩
 obtain ⟨f0,f1,f2,f3,f4,f5⟩:=fpC
 exact J.turned (t':=s'.toks) (fun b o hb e=>(hsb.2 b hb).trans e) f0 f1 f3 f4 f5
theorem uO {j:Nat}{y:Str}{py spos:Pos} (hN:X.N.Nodup) (hj:X.N[j]?=some y) (hy:X.env.scope.names.lookup y=some .local) (hsw:swapsWith (.ListComp elt [⟨tg,iter,ifs,0⟩] scope pos) (some (.Name y py)) spos.line X.env=pure true)
 (hc:X.calm=true) (ck:mI X.env.scope X.N scope N' L src=true) (hi:PI X tg iter wi) (hg:∀cl C s H ex pn,PG (df X scope cl C N' s H ex pn) tg g) (hif:∀cl C s H ex pn,oy (df X scope cl C N' s H ex pn) ifs tt)
 (he:∀cl C s H ex pn,PE (df X scope cl C N' s H ex pn) elt te) (hs:∀x,foldedSetIterable iter X.env x=pure x:=by intro _;rfl) :
 PS X (.Assign [.Name y py] (.ListComp elt [⟨tg,iter,ifs,0⟩] scope pos) spos) (qK (wB wi L src g tt te) (qo j)):=by
 intro pins s σ H D I h
 have ck:=qd ck
 obtain ⟨cl,hclos,hsub,hhas⟩:=qY (scope:=scope) (env:=X.env) fun y hy e=>I.ok.has y.1 (ck.free y hy e)
 rw [exec_Assign_Name_used _ _ _ _ hsw]
 refine wpAny_bind (wpAny_standAt (wpAny_bind ?_))
 show wpAny _ X.A (do let _ ←comprehension (.ListComp elt [⟨tg,iter,ifs,0⟩] scope pos) scope X.env _ (newList []) false (eval iter X.env) (some (assign (.Name y py) X.env))) _ _ s
 refine wpAny_bind (wpAny_mono (wpAny_comprehension_free (use:=some (assign (.Name y py) X.env)) (Q:=fun _ s'=>SP X pins D .next s') rfl hs hclos ck.kind ck.loc
  (rR hc ck I hsub hhas hi hg hif he h (RR:=fun acc C=>compPost (model X.prog X.w) X.A X.xe (some (assign (.Name y py) X.env)) (fun _ s'=>SP X pins D .next s') acc C) ?_)) (fun _ s' hq=>wpAny_pure (wpAny_pure hq)) fun _ _ e=>e)
 intro L' C H' f s' m J hn fpC q
 show wpAny _ X.A (assign (.Name y py) X.env (.ref L')) _ _ _
 refine wpAny_assign_Name (oa J hN hj (.inl hy) (v:=.ref L') rfl (fun s2 J2 hsb=>?_) (.inr hy))
 obtain ⟨f0,f1,f2,f3,f4,f5⟩:=fpC
 obtain ⟨a,hsb,ha⟩:=hsb
 have hCa:C≠a:=by
  rcases ha with rfl | ha
  ·exact f1
  ·exact fun z=>f4 _ _ ha z.symm
 refine ⟨m,hn.sameBut hsb hCa,fun h' hsb'=>⟨_,H',?_,q⟩⟩
 exact J2.turned (t':=s2.toks) (fun b o hb e=>(hsb'.2 b hb).trans e) f0 f1 f3 f4 f5
end
end L2
namespace HT
open PySem PySem.Spec PyProof.Rows
section
variable {prog:Program}{w:World}{A:Around}{E:Value→Shared→Prop}{s:Shared}
end
end HT
namespace L2
open PySem PySem.Spec PyProof.Rows
section
variable {X:Cx}{K:PySem.W.Frag}
end
section
variable {X:Cx}{e:Expr}{te:TE}{st:Expr}{ts:TO}{p2 pos:Pos}
end
section
variable {H H' H'':Hp}{z n k m:Nat}{v:V}{E:Addr→Prop}{b th th' p:Addr}{xs ys zs:List V}
end
section
variable {E:Addr→Prop}{z:Nat}{H0:Hp}{σ:St}{n k m:Nat}{te tb:TE}{ta:TA}{v:V}{i:Nat}{p:Addr}{xs:List V}{K:PySem.W.Frag}
end
section
variable {b th:Addr}{H0:Hp}{σ:St}{zs:List V}{ta:TA}{te:TE}{n i:Nat}{Q:VK}{K:PySem.W.Frag}
end
theorem bW {te:TE}{i:Nat}{u:TS}{D:cy}{σ:St}{H:Hp} (h:∀Q:VK,(∀v H',u D (σ.set i (some v)) H'→Q v H')→te σ H Q):ii (qK te (qo i)) u D σ H:=h _ fun _ _ z=>z
theorem Fo {ta:TA}{i j:Nat}{u:TS}{D:cy}{σ:St}{H:Hp} (h:∀Q:List V→Hp→Prop,(∀v w H',u D ((σ.set i (some v)).set j (some w)) H'→Q [v,w] H')→ta σ H Q):ii (Cj i j ta) u D σ H:=h _ fun _ _ _ z=>⟨_,(),z⟩
theorem rA {te:TE}{D:cy}{σ:St}{H:Hp} (h:∀Q:VK,(∀v H',D.rt v H'→Q v H')→te σ H Q):Ck te D σ H:=h _ fun _ _ z=>z
theorem iQ {α:Type}{P:List α→Prop} (h:∀a,P [a]):∀us:List α,us.length=1→P us:=fun us hl=>by
 cases us with
 | nil=>cases hl
 | cons a r=>cases r with
  | nil=>exact h a
  | cons b r=>simp at hl
theorem dZ {α:Type}{P:List α→Prop} (h:∀a b,P [a,b]):∀us:List α,us.length=2→P us:=fun us hl=>by
 cases us with
 | nil=>cases hl
 | cons a r=>exact iQ (P:=fun r=>P (a :: r)) (fun b=>h a b) r (by simpa using hl)
theorem pU {α:Type}{P:List α→Prop} (h:∀a b c,P [a,b,c]):∀us:List α,us.length=3→P us:=fun us hl=>by
 cases us with
 | nil=>cases hl
 | cons a r=>exact dZ (P:=fun r=>P (a :: r)) (fun b c=>h a b c) r (by simpa using hl)
theorem C6 {α:Type}{P:List α→Prop} (h:∀a b c d,P [a,b,c,d]):∀us:List α,us.length=4→P us:=fun us hl=>by
 cases us with
 | nil=>cases hl
 | cons a r=>exact pU (P:=fun r=>P (a :: r)) (fun b c d=>h a b c d) r (by simpa using hl)
theorem ul:∀{xs:List V}{us:List Value},xs.length=us.length→(∀(i:Nat) x u,xs[i]?=some x→us[i]?=some u→aN x u)→ar xs us
 | [],[],_,_=>.nil
 | x :: xs,u :: us,hl,h=>.cons (h 0 x u rfl rfl) (ul (by simpa using hl) fun i y w e1 e2=>h (i+1) y w e1 e2)
section
variable {X:Cx}{a:Expr}{ta:TA}{p p2 pos pos2:Pos}
end
section
variable {prog:Program}{w:World}{A:Around}{E:Value→Shared→Prop}{s:Shared}
variable {z TI TO i1 i2 l1 l2 T:Addr}{k:Nat}{xs ys:Array Value}{bb:Bool}{c1 c2:Bool}{oT:Obj}
end
theorem gL:entryFor table "dict.update.loop" = some Builtin.«dict.update.loop»:=entryFor_of_tree (by kernel_rfl)
theorem cp:plainId "dict.update.loop" = true:=by nofun
theorem wS {kvs:List (aA×Value)}{k:aA}{v:Value} (h:k∉kvs.map (·.1)):stored kvs k v=kvs++[(k,v)]:=by
 unfold stored
 rw [if_neg]
 intro z
 obtain ⟨x,hx,e⟩:=List.any_eq_true.mp z
 exact h (by rw [←of_decide_eq_true e];exact List.mem_map_of_mem hx)
theorem uB {α β:Type}:∀{ks:List α}{us:List β},ks.length=us.length→(ks.zip us).map (·.1)=ks
 | [],[],_=>rfl
 | k :: ks,u :: us,h=>by simp [uB (ks:=ks) (us:=us) (by simpa using h)]
section
variable {prog:Program}{w:World}{A:Around}{E:Value→Shared→Prop}{R:Result→Shared→Prop}
variable {z TI TO i1 i2 l1 l2 d:Addr}{xs ys:Array Value}{c1 c2:Bool}{ks:List aA}
end
theorem oP:bootBuiltins "dict" = some (.type "dict"):=by nofun
theorem x5:∀{ks:List aA}{ys:List V}{us:List Value},ar ys us→KV (ks.zip ys) (ks.zip us)
 | [],_,_,_=>.nil
 | _ :: _,_,_,.nil=>.nil
 | k :: ks,_,_,.cons r t=>.cons ⟨rfl,r⟩ (x5 t)
section
variable {X:Cx}{K:PySem.W.Frag}{a b:Expr}{ta:TA}{p1 p2 p3 p4:Pos}
def valD (kvs:List (aA×V)) (k:aA):Option V:=(kvs.find? fun kv=>decide (kv.1=k)).map (·.2)
theorem KV.valD:∀{kvs:List (aA×V)}{vs:List (aA×Value)} (r:KV kvs vs) (k:aA),jh (valD kvs k) (valueAt vs k)
 | _,_,.nil,_=>trivial
 | p :: ps,q :: qs,.cons h t,k=>by
  obtain ⟨h1,h2⟩:=h
  by_cases e:p.1=k
  ·have e':q.1=k:=h1.symm.trans e
   have b1:L2.valD (p :: ps) k=some p.2:=by simp [L2.valD,List.find?_cons,e]
   have b2:valueAt (q :: qs) k=some q.2:=by simp [valueAt,List.find?_cons,e']
   rw [b1,b2];exact h2
  ·have e':¬q.1=k:=fun z=>e (h1.trans z)
   have b1:L2.valD (p :: ps) k=L2.valD ps k:=by simp [L2.valD,List.find?_cons,e]
   have b2:valueAt (q :: qs) k=valueAt qs k:=by simp [valueAt,List.find?_cons,e']
   rw [b1,b2];exact KV.valD t k
inductive DG (x:V) (y:V) (H:Hp) (Q:VK):Prop
 | mk (d:Addr) (kvs:List (aA×V)) (k:aA) (v:V) (h0:x=.ref d) (h1:y=gA k) (h2:H d=some (.dK kvs)) (h3:valD kvs k=some v) (h4:Q v H)
def E9:R2:=fun x y H Q=>DG  x y H Q
theorem k8 {P:Program}{w:World}{k:aA}{u:Value} (r:aN (gA k) u):(bt P w).is k u=true:=(qM r).1
theorem kh:lK X E9:=by
 intro value slice pins s σ H x y v u Q I rx ry h hs
 obtain ⟨d,kvs,k,z,rfl,rfl,hd,he,q⟩:=h
 cases rx
 obtain ⟨_,_,vs,rel,dd⟩:=(show aW X.prog X.w H s.heap d (.dK kvs) from I.hok d _ hd)
 have hv:=rel.valD k
 rw [he] at hv
 obtain ⟨w',hw,rw'⟩:=jh.some_of hv
 exact subscriptTail_builtinR (x:=w') dd.typeIs PySem.F.slot_dict_getitem.lookup (wpAny_getItem_of (k8 ry) dd.mapOf hw ⟨rfl,z,H,I.tok _,rw',q⟩) hs
theorem ug:∀{ks:List aA}{ys:List V}{i:Nat}{k:aA}{y:V},ks.Nodup→ks[i]?=some k→ys[i]?=some y→valD (ks.zip ys) k=some y
 | [],_,_,_,_,_,h,_=>by simp at h
 | _ :: _,[],_,_,_,_,_,h=>by simp at h
 | k0 :: ks,y0 :: ys,0,k,y,_,h1,h2=>by
  simp at h1 h2
  subst h1 h2
  simp [valD]
 | k0 :: ks,y0 :: ys,i+1,k,y,nd,h1,h2=>by
  simp only [List.getElem?_cons_succ] at h1 h2
  have ne:¬k0=k:=fun z=>by
   rw [z] at nd
   exact (List.nodup_cons.mp nd).1 (List.mem_of_getElem? h1)
  have b1:valD ((k0 :: ks).zip (y0 :: ys)) k=valD (ks.zip ys) k:=by simp [valD,List.find?_cons,ne]
  rw [b1]
  exact ug (List.nodup_cons.mp nd).2 h1 h2
end
section
variable {X:Cx}
end
section
variable {prog:Program}{w:World}{A:Around}{E:Value→Shared→Prop}{s:Shared}
variable {n l1 l2 l3 T:Nat}{k:Nat}{xs ys zs:Array Value}{bb:Bool}{oT:Obj}
end
section
variable {prog:Program}{w:World}{A:Around}{E:Value→Shared→Prop}{s:Shared}
variable {n l1 l2 l3:Nat}{k:Nat}{xs ys zs:Array Value}
end
section
variable {prog:Program}{w:World}{A:Around}{E:Value→Shared→Prop}{R:Result→Shared→Prop}
variable {n l1 l2 l3:Nat}{xs ys zs:Array Value}
end
section
variable {prog:Program}{w:World}{A:Around}{E:Value→Shared→Prop}{s:Shared}
end
section
variable {X:Cx}{pins:List (Addr×Obj)}{σ:St}{H:Hp}{s:Shared}{h':Heap}
end
section
variable {X:Cx}{K:PySem.W.Frag}{a b c:Expr}{ta:TA}{p1 p2 p3 p4:Pos}
end
theorem qN:typeLookup (.type "list") "keys" = pure none:=am_miss_of_fast (by kernel_rfl)
section
variable {prog:Program}{w:World}{A:Around}{E:Value→Shared→Prop}{s:Shared}
theorem o4 {a:Addr}{xs:Array Value}{k:Nat}{name:Str}{Q:Option Value→Shared→Prop} (hmiss:typeLookup (.type "list") name=pure none) (hname:(["__module__", "__name__", "__qualname__", "__doc__", "__annotations__"]:List Str).contains name=false) (hsz:name.length+100≤sizeLine)
 (hx:s.heap.get? a=some { cls:=.type "list",dict:=none,data:=.seq xs k,slots:=#[] }) (hA:A.handled=none)
 (h:∀h' tk,(∀b o,s.heap.get? b=some o→h'.get? b=some o)→Q none { s with heap:=h',toks:=tk }) :
 wpAny (model prog w) A (getAttr? (.ref a) name) Q E s:=by
 obtain ⟨hp,g,d,tk,os⟩:=s
 have hT:∀tk',(⟨hp,g,d,tk',os⟩:Shared).TypeIs (.ref a) "list" := fun _=>⟨_,hx,rfl⟩
 have f1:=sub_AttributeError
 have f3:=F.slot_list_getattribute.lookup
 have f4:=F.slot_list_getattribute.bind (.ref a)
 have f5:=am_list_getattr_none
 unfold getAttr? getAttrBy? getAttrBy
 repeat (any_goals (first | assumption | exact hT _ | ((with_reducible show wpAny _ _ (call (Value.builtin "list.__getattribute__") _ _) _ _ _);refine call_meets F.slot_list_getattribute (hT _) am_entry_list_getattribute (F.args_list_getattribute_2 _ _) (meets_getattribute_miss_list a xs k #[] name _ hmiss hname hsz) ⟨hx,hA,fun h' tk' e hx'=>?_⟩) | wp_step))
 obtain ⟨t',u',he⟩:=hx'.there
 show wpAny _ _ (getattributeRaised _ _ _ _ _ _ _) _ _ _
 unfold getattributeRaised
 repeat (any_goals (first | assumption | wp_step))
 exact h _ _ hx'.keeps
end
section
variable {prog:Program}{w:World}{A:Around}{E:Value→Shared→Prop}{R:Result→Shared→Prop}
variable {l it d:Nat}{vs:Array Value}{ks:List aA}{us:List Value}
def FN (h:Heap) (vs:Array Value) (ks:List aA) (us:List Value) (it d:Nat):Prop:=∀(i:Nat),i<ks.length→uc fun (T:Nat) (x y:Value) (c:Nat) (sl:Array (Option Value)) (dd:Option Addr)=>vs[i]?=some (.ref T)∧h.get? T=some ⟨.type "tuple",dd,.seq #[x,y] c,sl⟩∧us[i]?=some y∧(∀k,ks[i]?=some k→d8 k x=true)∧T≠it∧T≠d
theorem vX (n1:l≠it∧l≠d∧it≠d) (hh:A.handled=none) (lv:vs.size=ks.length) (lu:us.length=ks.length) (nd:ks.Nodup) (hz:ks.length≤4000) :
 ∀(r i:Nat) (tk0:Tok) (s:Shared),ks.length - i=r→i≤ks.length→s.heap.IsListIter it l i→s.heap.IsList l vs→FN s.heap vs ks us it d→s.heap.DictOf (bt prog w) d ((ks.zip us).take i)→
   (∀h' tk,h'.DictOf (bt prog w) d (ks.zip us)→(∀(c:Nat) o,c≠it→c≠d→s.heap.get? c=some o→h'.get? c=some o)→R (.ok (.ret .none)) { s with heap:=h',toks:=tk })→
   codeAny (model prog w) A (.builtin "dict.update.loop" ⟨[.ref d,.ref it,.int (i:Nat) tk0,.none],[]⟩) R s:=by
 have W:=(Walks.list (prog:=prog) (w:=w) (A:=A.in1) hh it l n1.1 vs)
 intro r
 induction r with
 | zero=>
  intro i tk0 s hr hi st hl pr hD hR
  have e:i=ks.length:=by trivial
  have lz:(ks.zip us).length=ks.length:=by simp [lu]
  rw [e,←lz,List.take_length] at hD
  refine codeAny_builtin gL ?_
  rw [A.under_plainId cp]
  show wpAny _ _ (pyNext (Value.ref it) >>= _) _ _ _
  refine wpAny_bind (W.done s _ _ (by rw [lv,←e];exact ⟨st,hl⟩) fun h' tk keep=>?_)
  show wpAny _ _ (Builtin.Dict.addKeywords d [] >>= _) _ _ _
  refine wpAny_bind (wpAny_pure (wpAny_pure ?_))
  obtain ⟨o,es,ep,ho,q⟩:=hD
  have kp:∀(c:Nat) o,c≠it→s.heap.get? c=some o→h'.get? c=some o:=fun c o hc e=>keep c o (by simpa using hc) e
  exact hR h' tk ⟨o,es,ep,kp d o (Ne.symm n1.2.2) ho,q⟩ fun c o d1 _ e=>kp c o d1 e
 | succ r ih=>
  intro i tk0 s hr hi st hl pr hD hR
  have lt:i<ks.length:=by trivial
  obtain ⟨T,x,y,c,sl,dd,e1,e2,e3,e4,e5,e6⟩:=pr i lt
  have kv:=e4 ks[i] (List.getElem?_eq_getElem lt)
  refine codeAny_builtin gL ?_
  rw [A.under_plainId cp]
  show wpAny _ _ (pyNext (Value.ref it) >>= _) _ _ _
  refine wpAny_bind (W.item i s _ _ (by trivial) ⟨st,hl⟩ fun v h' tk pv st' keep=>?_)
  obtain rfl:v=.ref T:=Option.some.inj ((show vs[i]?=some v from pv).symm.trans e1)
  have kp:∀(c:Nat) o,c≠it→s.heap.get? c=some o→h'.get? c=some o:=fun c o hc e=>keep c o (by simpa using hc) e
  have hD':h'.DictOf (bt prog w) d ((ks.zip us).take i):=let ⟨o,es,ep,ho,q⟩:=hD;⟨o,es,ep,kp d o (Ne.symm n1.2.2) ho,q⟩
  have T':=kp T _ e5 e2
  refine wpAny_bind (wpAny_holding (wpAny_bind (wpAny_tryCatch ?_)))
  unfold Builtin.Dict.pairItems
  refine wpAny_bind (wpAny_typeOf (show Shared.TypeIs { s with heap:=h',toks:=tk } (.ref T) "tuple" from ⟨_,T',rfl⟩) ?_)
  rw [if_pos (by decide)]
  refine wpAny_bind (wpAny_seqItems T' rfl (wpAny_pure ?_))
  show wpAny _ _ (holding [x,y] (dictSet d x y)) _ _ _
  have hu:us[i]'(by trivial)=y:=(List.getElem?_eq_some_iff.mp e3).2
  have nk:ks[i]∉((ks.zip us).take i).map (·.1):=by
   rw [List.map_take,uB (by simp [lu])]
   intro q
   obtain ⟨j,hj,e⟩:=List.getElem_of_mem q
   rw [List.length_take] at hj
   rw [List.getElem_take] at e
   have:=d7 nd (by trivial) lt e
   trivial
  have lz:((ks.zip us).take i).length≤sizeLine:=by rw [List.length_take,sizeLine_eq];simp;trivial
  refine wpAny_holding (wpAny_dictSet_pairs (k:=ks[i]) kv hD' (hsz:=lz) fun h2 hD2 sb=>?_)
  rw [wS nk] at hD2
  have nx:h2.DictOf (bt prog w) d ((ks.zip us).take (i+1)):=by
   rw [List.take_succ_eq_append_getElem (by simp [lu];trivial)]
   simpa [hu] using hD2
  have k2:∀(c:Nat) o,c≠d→h'.get? c=some o→h2.get? c=some o:=fun c o hc e=>(sb.2 c hc).trans e
  refine wpAny_pure ⟨plainId_quiet cp _,?_⟩
  have e9:((i:Nat):Int)+1=((i+1:Nat):Int):=by trivial
  show codeAny _ _ (.builtin "dict.update.loop" ⟨[.ref d,.ref it,.int ((i:Nat)+1) 0,.none],[]⟩) _ _
  rw [e9]
  refine ih (i+1) 0 _ (by trivial) lt ?_ ?_ (fun j hj=>?_) nx fun h3 tk3 hD3 k3=>hR h3 tk3 hD3 fun c o a1 a2 e=>k3 c o a1 a2 (k2 c o a2 (kp c o a1 e))
  ·obtain ⟨o,ho,q⟩:=st'.1
   exact ⟨o,k2 _ _ n1.2.2 ho,q⟩
  ·obtain ⟨o,ho,q⟩:=st'.2
   exact ⟨o,k2 _ _ n1.2.1 ho,q⟩
  ·obtain ⟨T,x,y,c,sl,dd,e1,e2,e3,e4,e5,e6⟩:=pr j hj
   exact ⟨T,x,y,c,sl,dd,e1,k2 _ _ e6 (kp _ _ e5 e2),e3,e4,e5,e6⟩
set_option maxHeartbeats 1000000 in
theorem tN {s:Shared}{Q:Value→Shared→Prop}{c0:Nat} (hl:s.heap.get? l=some { cls:=.type "list",dict:=none,data:=.seq vs c0,slots:=#[] })
 (hh:A.handled=none) (lv:vs.size=ks.length) (lu:us.length=ks.length) (nd:ks.Nodup) (hz:ks.length≤4000)
 (pr:∀(i:Nat),i<ks.length→uc fun (T:Nat) (x y:Value) (c:Nat) (sl:Array (Option Value)) (dd:Option Addr)=>vs[i]?=some (.ref T)∧s.heap.get? T=some ⟨.type "tuple",dd,.seq #[x,y] c,sl⟩∧us[i]?=some y∧(∀k,ks[i]?=some k→d8 k x=true))
 (h:∀h' tk,h'.DictOf (bt prog w) s.heap.objs.size (ks.zip us)→(∀c o,s.heap.get? c=some o→h'.get? c=some o)→Q (.ref s.heap.objs.size) { s with heap:=h',toks:=tk }) :
 wpAny (model prog w) A (call (.type "dict") [.ref l]) Q E s:=by
 refine callType_codes (Q₁:=fun obj s₁=>obj=.ref s.heap.objs.size∧s₁={ s with heap:=s.heap.push { cls:=.type "dict",data:=.dict #[] } }) F.kt_called_dict (F.kt_typeCall_dict_1 _) F.entry_dict_init (kt_code_dict_new _ ⟨rfl,rfl⟩) ?_
 rintro obj s₁ ⟨rfl,rfl⟩
 have hnew:(s.heap.push { cls:=.type "dict",data:=.dict #[] }).DictOf (bt prog w) s.heap.objs.size []:=Heap.DictOf.new s.heap
 have up:∀c o,s.heap.get? c=some o→(s.heap.push { cls:=.type "dict",data:=.dict #[] }).get? c=some o:=fun c o e=>Heap.get?_push_of_some _ e
 have ne:∀c o,s.heap.get? c=some o→c≠s.heap.objs.size:=fun c o e=>Nat.ne_of_lt (Heap.lt_size e)
 have hl':=up _ _ hl
 refine ⟨hnew.typeIs,F.args_dict_init_2 _ _,?_⟩
 unfold Builtin.«dict.__init__»
 refine wpAny_bind ?_
 unfold Builtin.Dict.selfAndRest
 refine wpAny_bind (wpAny_notOrdered_dict hnew.typeIs ?_)
 show wpAny _ _ (pure (s.heap.objs.size,[Value.ref l])) _ _ _
 refine wpAny_pure ?_
 show wpAny _ _ (Builtin.Dict.updateFrom "dict.__init__" s.heap.objs.size (.ref l) [] .none) _ _ _
 unfold Builtin.Dict.updateFrom
 refine wpAny_bind (wpAny_typeOf (T := "list") ⟨_,hl',rfl⟩ ?_)
 rw [if_pos (by decide)]
 refine wpAny_bind (o4 qN (by nofun) (by rw [sizeLine_eq];decide) hl' (by simpa using hh) fun g1 tk1 k1=>?_)
 simp only [Option.isNone_none,if_true]
 refine wpAny_bind (wpAny_rule ?_)
 have l1:g1.IsList l vs:=⟨_,k1 _ _ hl',rfl,()⟩
 refine wpAny_bind (wpAny_pyIter_list l1 ?_)
 have kk:∀c o,s.heap.get? c=some o→g1.get? c=some o:=fun c o e=>k1 _ _ (up _ _ e)
 have pu:∀(ob:Obj) c o,g1.get? c=some o→(g1.push ob).get? c=some o:=fun ob c o e=>Heap.get?_push_of_some _ e
 obtain ⟨on,es,ep,hon,qn⟩:=hnew
 have hon1:=k1 _ _ hon
 have dlt:s.heap.objs.size<g1.objs.size:=Heap.lt_size hon1
 have llt:l<s.heap.objs.size:=Heap.lt_size hl
 refine wpAny_pure ⟨plainId_quiet cp _,?_⟩
 refine vX (ks:=ks) (us:=us) (vs:=vs) (l:=l) (it:=g1.objs.size) (d:=s.heap.objs.size) ⟨Nat.ne_of_lt (Nat.lt_trans llt dlt),Nat.ne_of_lt llt,Nat.ne_of_gt dlt⟩ (by simpa using hh) lv lu nd hz ks.length 0 0 _ rfl (Nat.zero_le _) ⟨_,Heap.get?_push_size _ rfl,rfl,rfl⟩ (l1.push _) (fun i hi=>?_) ⟨on,es,ep,pu _ _ _ hon1,qn⟩ fun h' tk hD keep=>?_
 ·obtain ⟨T,x,y,c,sl,dd,e1,e2,e3,e4⟩:=pr i hi
  have tlt:=Heap.lt_size e2
  exact ⟨T,x,y,c,sl,dd,e1,pu _ _ _ (kk _ _ e2),e3,e4,Nat.ne_of_lt (Nat.lt_trans tlt dlt),Nat.ne_of_lt tlt⟩
 ·exact ⟨rfl,h h' tk hD fun c o e=>keep c o (Nat.ne_of_lt (Nat.lt_trans (Heap.lt_size e) dlt)) (ne _ _ e) (pu _ _ _ (kk _ _ e))⟩
end
section
variable {X:Cx}
inductive Bu (vs:List V) (H:Hp) (Q:VK):Prop
 | mk (l:Addr) (ts:List Addr) (ks:List aA) (ys:List V) (h0:vs=[.ref l]) (h1:H l=some (.lst (ts.map V.ref))) (h2:ts.length=ks.length) (h3:ys.length=ks.length) (h4:ks.Nodup) (h5:ks.length≤4000) (h6:(∀(i:Nat) t,ts[i]?=some t→bh fun k y=>ks[i]?=some k∧ys[i]?=some y∧H t=some (.tup [gA k,y]))) (h7:∀p H',Nw H p (.dK (ks.zip ys)) H'→Q (.ref p) H')
def Dt:List V→Hp→VK→Prop:=fun vs H Q=>Bu  vs H Q
theorem uD {k k':Value}{d d':Option Addr}{x y x' y':Value}{n n':Nat}{s s':Array (Option Value)} (h:(⟨k,d,.seq #[x,y] n,s⟩:Obj)=⟨k',d',.seq #[x',y'] n',s'⟩):y=y':=by
 simp only [Obj.mk.injEq,Data.seq.injEq] at h
 have a:=h.2.2.1.1
 simp at a
 exact a.2
theorem vc {α:Type}{p:Nat→α→Prop}:∀n,(∀i,i<n→∃a,p i a)→∃as:List α,as.length=n∧∀(i:Nat) a,as[i]?=some a→p i a
 | 0,_=>⟨[],rfl,fun i a h=>by simp at h⟩
 | n+1,h=>by
  obtain ⟨as,l,q⟩:=vc n fun i hi=>h i (by trivial)
  obtain ⟨a,ha⟩:=h n (by trivial)
  refine ⟨as++[a],by rw [List.length_append,l];rfl,fun i b hb=>?_⟩
  by_cases c:i<n
  ·rw [List.getElem?_append_left (by trivial)] at hb
   exact q i b hb
  ·have hlt:=(List.getElem?_eq_some_iff.mp hb).1
   rw [List.length_append] at hlt
   simp at hlt
   obtain rfl:i=n:=by trivial
   rw [List.getElem?_append_right (by trivial),l,Nat.sub_self] at hb
   obtain rfl:a=b:=Option.some.inj hb
   exact ha
theorem wm (hc:X.calm=true):cE X (.type "dict") Dt:=by
 intro pins s σ H xs us Q I r h
 obtain ⟨l,ts,ks,ys,rfl,hl,lt,ly,nd,h4,hp,q⟩:=h
 obtain ⟨u,rfl,ru⟩:=r.one
 obtain rfl:u=.ref l:=ru
 obtain ⟨z,its,n,rv,hlen,e⟩:=I.lstM hl
 rw [List.length_map] at hlen
 have isT:∀(i:Nat) t,ts[i]?=some t→its[i]?=some (.ref t):=fun i t hi=>by
  obtain ⟨w,hw,rw'⟩:=rv.get (show (ts.map V.ref)[i]?=some (V.ref t) by rw [List.getElem?_map,hi];rfl)
  obtain rfl:w=.ref t:=rw'
  exact hw
 have per:∀i,i<ks.length→uc fun (T:Nat) (x y:Value) (c:Nat) (sl:Array (Option Value)) (dd:Option Addr)=>its[i]?=some (.ref T)∧s.heap.get? T=some ⟨.type "tuple",dd,.seq #[x,y] c,sl⟩∧(∃yv,ys[i]?=some yv∧aN yv y)∧(∀k,ks[i]?=some k→d8 k x=true):=fun i hi=>by
  have ht:=List.getElem?_eq_getElem (show i<ts.length by trivial)
  obtain ⟨k,y,hk,hy,hT⟩:=hp i _ ht
  obtain ⟨_,us,rus,⟨ob,g1,g2,c,g3⟩,_⟩:=(show aW X.prog X.w H s.heap ts[i] (.tup [gA k,y]) from I.hok _ _ hT)
  obtain ⟨a,b,rfl,ra,rb⟩:=rus.two
  obtain ⟨oc,od,oo,osl⟩:=ob
  simp only at g2 g3
  subst g2 g3
  exact ⟨ts[i],a,b,c,osl,od,isT i _ ht,g1,⟨y,hy,rb⟩,fun k' hk'=>by rw [hk] at hk';cases hk';exact (qM ra).1⟩
 have vals:∃us':List Value,us'.length=ks.length∧ar ys us'∧∀i (hi:i<ks.length) (T:Nat) (x y:Value) (c:Nat) (sl:Array (Option Value)) (dd:Option Addr),its[i]?=some (.ref T)→s.heap.get? T=some ⟨.type "tuple",dd,.seq #[x,y] c,sl⟩→us'[i]?=some y:=by
  obtain ⟨us',l1,h1⟩:=vc (p:=fun i y=>∀(T:Nat) (x y':Value) (c:Nat) (sl:Array (Option Value)) (dd:Option Addr),its[i]?=some (.ref T)→s.heap.get? T=some ⟨.type "tuple",dd,.seq #[x,y'] c,sl⟩→y'=y∧∃yv,ys[i]?=some yv∧aN yv y') ks.length fun i hi=>by
   obtain ⟨T,x,y,c,sl,dd,e1,e2,e3,e4⟩:=per i hi
   refine ⟨y,fun T' x' y' c' sl' dd' f1 f2=>?_⟩
   have eT:=Option.some.inj (e1.symm.trans f1)
   injection eT with eT
   have f3:s.heap.get? T=_:=(congrArg s.heap.get? eT).trans f2
   have ey:=uD (Option.some.inj (e2.symm.trans f3))
   subst ey
   exact ⟨rfl,e3⟩
  refine ⟨us',l1,?_,fun i hi T x y c sl dd e1 e2=>?_⟩
  ·refine ul (by trivial) fun i yv u e1 e2=>?_
   have hi:i<ks.length:=by rw [←l1];exact (List.getElem?_eq_some_iff.mp e2).1
   obtain ⟨T,x,y,c,sl,dd,g1,g2,g3,g4⟩:=per i hi
   obtain ⟨q1,yv',q2,q3⟩:=h1 i u e2 T x y c sl dd g1 g2
   rw [e1] at q2
   cases q2
   rw [←q1]
   exact q3
  ·obtain ⟨u,hu⟩:∃u,us'[i]?=some u:=⟨_,List.getElem?_eq_getElem (by trivial)⟩
   rw [hu,(h1 i u hu T x y c sl dd e1 e2).1]
 obtain ⟨us',lu,rus,hus⟩:=vals
 refine tN (E:=X.xe) (ks:=ks) (us:=us') (vs:=its.toArray) (l:=l) e (I.ok.hd hc) (by simp;trivial) lu nd h4 (fun i hi=>?_) fun h' tk hD kp=>?_
 ·obtain ⟨T,x,y,c,sl,dd,e1,e2,_,e4⟩:=per i hi
  exact ⟨T,x,y,c,sl,dd,by simpa using e1,e2,hus i hi T x y c sl dd e1 e2,e4⟩
 ·have big:sysModules<s.heap.objs.size:=by
   have e:mainGlobals<s.heap.objs.size:=(I.mod.glob.keeps I.bk).lt
   exact Nat.lt_trans (by decide) e
  exact ⟨.ref _,_,I.laid (t':=tk) kp (Nat.le_refl _) (show aW X.prog X.w _ h' _ (.dK (ks.zip ys)) from ⟨by rw [sizeLine_eq];simp;trivial,beq_eq_false_iff_ne.mpr (Ne.symm (Nat.ne_of_lt big)),ks.zip us',x5 rus,hD⟩),rfl,q _ _ (.mk' (I.hok.fresh (Nat.le_refl _)))⟩
end
section
variable {X:Cx}
end
theorem Fy {α:Type}{P:List α→Prop} (h:∀a b c d e,P [a,b,c,d,e]):∀us:List α,us.length=5→P us:=fun us hl=>by
 cases us with
 | nil=>cases hl
 | cons a r=>exact C6 (P:=fun r=>P (a :: r)) (fun b c d e=>h a b c d e) r (by simpa using hl)
structure Gb (a b:Nat) (p:KM.Fra):Prop where
 n:Sz a p.1
 d:Sz b p.2
 pos:1≤p.2
theorem Gb.mono {a b a' b':Nat}{p:KM.Fra} (h:Gb a b p) (ha:a≤a') (hb:b≤b'):Gb a' b' p:=⟨h.n.mono ha,h.d.mono hb,h.pos⟩
theorem xD {a b:Nat}{n d:Int} (hn:Sz a n) (hd:Sz b d) (h0:0<d):Gb a b (KM.low n d):=by
 have:=KM.low_spec n d (by trivial)
 exact ⟨hn.le this.2.2.2.1,hd.le this.2.2.2.2,this.1⟩
theorem Gb.tim {a b c d e f:Nat}{p q:KM.Fra} (h:Gb a b p) (k:Gb c d q) (h1:a+c≤e) (h3:b+d≤f):Gb e f (KM.lTim p q):=
 xD ((h.n.mul k.n).mono h1) ((h.d.mul k.d).mono h3) (Int.mul_pos (by have:=h.pos;trivial) (by have:=k.pos;trivial))
theorem vt {p q:KM.Fra} (h:1≤p.1) (h':1≤p.2) (k:1≤q.1) (k':1≤q.2):1≤(KM.lTim p q).1:=(KM.low_sgn (Int.mul_pos (by trivial) (by trivial))).1.mpr (Int.mul_pos (by trivial) (by trivial))
end L2
namespace L2
open PySem PySem.Spec PyProof.Rows
def cB (kvs:List (aA×V)) (k:aA) (v:V):List (aA×V):=if kvs.any (fun kv=>decide (kv.1=k)) then kvs.map (fun kv=>if kv.1=k then (kv.1,v) else kv) else kvs++[(k,v)]
theorem KV.any {kvs:List (aA×V)}{vs:List (aA×Value)} (r:KV kvs vs) (k:aA):kvs.any (fun kv=>decide (kv.1=k))=vs.any (fun kv=>decide (kv.1=k)):=by
 induction r with
 | nil=>rfl
 | cons h t ih=>rw [List.any_cons,List.any_cons,ih,h.1]
theorem sr {kvs:List (aA×V)}{vs:List (aA×Value)} (r:KV kvs vs) {k:aA}{v:V}{u:Value} (rv:aN v u):KV (cB kvs k v) (stored vs k u):=by
 unfold cB stored
 rw [r.any k]
 have m:KV (kvs.map (fun kv=>if kv.1=k then (kv.1,v) else kv)) (vs.map (fun kv=>if kv.1=k then (kv.1,u) else kv)):=by
  induction r with
  | nil=>exact .nil
  | @cons p q ps qs h t ih=>
   refine .cons ?_ ih
   obtain ⟨pk,pv⟩:=p
   obtain ⟨qk,qv⟩:=q
   obtain ⟨h1,h2⟩:=h
   obtain rfl:pk=qk:=h1
   show (if pk=k then (pk,v) else (pk,pv)).1=(if pk=k then (pk,u) else (pk,qv)).1∧aN (if pk=k then (pk,v) else (pk,pv)).2 (if pk=k then (pk,u) else (pk,qv)).2
   by_cases c:pk=k
   ·rw [if_pos c,if_pos c];exact ⟨rfl,rv⟩
   ·rw [if_neg c,if_neg c];exact ⟨rfl,h2⟩
 have a:KV (kvs++[(k,v)]) (vs++[(k,u)]):=by
  clear m
  induction r with
  | nil=>exact .cons ⟨rfl,rv⟩ .nil
  | cons h t ih=>exact .cons h ih
 cases vs.any (fun kv=>decide (kv.1=k)) with
 | true=>exact m
 | false=>exact a
theorem rY {kvs:List (aA×V)}{k:aA}{v:V} (h:kvs.length<sizeLine):(cB kvs k v).length≤sizeLine:=by
 unfold cB
 split
 ·rw [List.length_map];trivial
 ·rw [List.length_append];exact h
theorem nR (kvs:List (aA×V)) (k:aA) (v:V) (x:aA):valD (cB kvs k v) x=if x=k then some v else valD kvs x:=by
 unfold cB
 cases c:kvs.any (fun kv=>decide (kv.1=k)) with
 | true=>
  rw [if_pos rfl]
  induction kvs with
  | nil=>cases c
  | cons p ps ih=>
   unfold valD at ih ⊢
   rw [List.map_cons,List.find?_cons,List.find?_cons]
   by_cases hp:p.1=k
   ·rw [if_pos hp]
    by_cases hx:x=k
    ·rw [if_pos hx,hp,hx];simp
    ·rw [if_neg hx]
     have n1:¬p.1=x:=fun z=>hx (z.symm.trans hp)
     have n2:decide (p.1=x)=false:=decide_eq_false n1
     rw [n2]
     dsimp only
     by_cases c2:ps.any (fun kv=>decide (kv.1=k))=true
     ·rw [ih c2,if_neg hx]
     ·have e:ps.map (fun kv=>if kv.1=k then (kv.1,v) else kv)=ps:=by
       have:∀kv∈ps,(fun kv:aA×V=>if kv.1=k then (kv.1,v) else kv) kv=kv:=fun kv hkv=>by
        by_cases q:kv.1=k
        ·exact absurd (List.any_eq_true.mpr ⟨kv,hkv,decide_eq_true q⟩) c2
        ·show (if kv.1=k then _ else _)=_
         rw [if_neg q]
       exact (List.map_congr_left this).trans (List.map_id _)
      rw [e]
   ·rw [if_neg hp]
    have c':ps.any (fun kv=>decide (kv.1=k))=true:=by
     rw [List.any_cons,decide_eq_false hp,Bool.false_or] at c
     exact c
    by_cases hpx:p.1=x
    ·have hx:¬x=k:=fun z=>hp (hpx.trans z)
     rw [if_neg hx,decide_eq_true hpx]
    ·rw [decide_eq_false hpx]
     dsimp only
     exact ih c'
 | false=>
  rw [if_neg Bool.false_ne_true]
  have nk:valD kvs k=none:=by
   unfold valD
   rw [Option.map_eq_none_iff,List.find?_eq_none]
   intro kv hkv q
   have:kvs.any (fun kv=>decide (kv.1=k))=true:=List.any_eq_true.mpr ⟨kv,hkv,q⟩
   rw [c] at this;cases this
  unfold valD at nk ⊢
  rw [List.find?_append]
  by_cases hx:x=k
  ·subst hx
   rw [Option.map_eq_none_iff] at nk
   rw [nk,if_pos rfl];simp
  ·rw [if_neg hx]
   cases kvs.find? (fun kv=>decide (kv.1=x)) with
   | some p=>rfl
   | none=>
    have:decide (k=x)=false:=decide_eq_false fun z=>hx z.symm
    simp [this]
section
variable {X:Cx}
theorem ac.dset {pins:List (Addr×Obj)}{σ:St}{H:Hp}{s:Shared}{d:Addr}{kvs kvs':List (aA×V)}{vs':List (aA×Value)}{h':Heap}{t':Nat} (I:ac X pins σ H s) (hH:H d=some (.dK kvs)) (hm:(d==sysModules)=false) (hz:kvs'.length≤sizeLine)
 (hv:KV kvs' vs') (hd:h'.DictOf (bt X.prog X.w) d vs') (sb:Heap.SameBut d s.heap h'):ac X pins σ (aC H d (.dK kvs')) { s with heap:=h',toks:=t' }:=by
 obtain ⟨o,es,ep,ho,q⟩:=hd
 refine I.write (x:=d) (e:=d) (by rw [hH];exact trivial) (.inl rfl) (fun b u hb hu=>(sb.2 b hb).trans hu) ⟨_,ho⟩ ?_
 exact ⟨hz,hm,vs',hv,o,es,ep,ho,q⟩
structure zO (H:Hp) (p:Addr) (o:HO) (H':Hp):Prop where
 at':H' p=some o
 ol:∀a u,a≠p→H a=some u→H' a=some u
 fre:∀a,a≠p→H a=none→H' a=none
theorem zO.mk' {H:Hp}{p:Addr}{o:HO}:zO H p o (aC H p o):=⟨aD,fun a u n h=>by rw [ag n];exact h,fun a n h=>by rw [ag n];exact h⟩
inductive BU (o:V) (i:V) (v:V) (H:Hp) (Q:(Hp→Prop)):Prop
 | mk (d:_) (kvs:_) (k:_) (h0:o=.ref d) (h1:i=gA k) (h2:H d=some (.dK kvs)) (h3:kvs.length≤4000) (h4:∀H',zO H d (.dK (cB kvs k v)) H'→Q H')
def Dv:V→V→V→Hp→(Hp→Prop)→Prop:=fun o i v H Q=>BU  o i v H Q
theorem pS:vU X Dv:=by
 intro pins s σ H o i v ov iv u Q I ro ri rv h
 obtain ⟨d,kvs,k,rfl,rfl,hd,hl,q⟩:=h
 cases ro
 obtain ⟨hz,hm,vs,rel,dd⟩:=(show aW X.prog X.w H s.heap d (.dK kvs) from I.hok d _ hd)
 exact wpAny_setItem_pairs (hsz:=by rw [←rel.length];exact hz) (k8 ri) dd fun h' hd' sb=>⟨_,I.dset hd hm (rY (by rw [sizeLine_eq];trivial)) (sr rel rv) hd' sb,q _ .mk'⟩
inductive C1 (ng:Bool) (x:V) (y:V) (H:Hp) (Q:VK):Prop
 | mk (d:Addr) (kvs:List (aA×V)) (k:aA) (h0:y=.ref d) (h1:x=gA k) (h2:H d=some (.dK kvs)) (h3:Q (.bl (if ng then !(valD kvs k).isSome else (valD kvs k).isSome)) H)
def EF (ng:Bool):R2:=fun x y H Q=>C1 ng x y H Q
theorem xp {o:Option V}{p:Option Value} (h:jh o p):o.isSome=p.isSome:=by
 cases o <;> cases p <;> first | rfl | exact h.elim
theorem qp:bF X (compareOp .NotIn) (EF true):=by
 intro pins s σ H x y v u Q I rx ry h
 obtain ⟨d,kvs,k,rfl,rfl,hd,q⟩:=h
 cases ry
 obtain ⟨hz,hm,vs,rel,dd⟩:=(show aW X.prog X.w H s.heap d (.dK kvs) from I.hok d _ hd)
 show wpAny _ X.A (do return Value.bool (!(←contains (.ref d) v))) _ _ s
 refine wpAny_bind (wpAny_contains_slot dd.typeIs PySem.F.slot_dict_contains (wpAny_mono (call_meetsIn (Q:=fun b s'=>b=.bool (valueAt vs k).isSome∧s'={ s with toks:=s.toks+1 }) PySem.F.slot_dict_contains dd.typeIs PySem.F.entry_dict_contains (PySem.F.args_dict_contains_2 _ _) (meets_dict_contains (bt X.prog X.w) d (k8 rx) hm) ⟨_,dd.mapOf,rfl,rfl⟩) (fun b s' hb=>?_) fun _ _ e=>e))
 obtain ⟨rfl,rfl⟩:=hb
 refine wpAny_truthy_bool (wpAny_pure ?_)
 rw [←xp (rel.valD k)]
 exact ⟨.bl _,H,I.tok _,rfl,q⟩
theorem yJ {pos:Pos}:PE X (.Dict [] [] pos) (fun _ H Q=>∀p H',Nw H p (.dK []) H'→Q (.ref p) H'):=by
 intro pins s σ H Q I h
 refine wpAny_Dict_empty ?_
 have big:(s.heap.objs.size==sysModules)=false:=by
  have e:mainGlobals<s.heap.objs.size:=(I.mod.glob.keeps I.bk).lt
  exact beq_eq_false_iff_ne.mpr (Ne.symm (Nat.ne_of_lt (Nat.lt_trans (by decide) e)))
 exact ⟨.ref _,_,I.laid (fun _ _ e=>Heap.get?_push_of_some _ e) (Nat.le_refl _) (show aW X.prog X.w _ _ _ (.dK []) from ⟨Nat.zero_le _,big,[],.nil,Heap.DictOf.new s.heap⟩),rfl,h _ _ (.mk' I.fresh)⟩
end
section
variable {prog:Program}{w:World}{A:Around}{R:Result→Shared→Prop}{s:Shared}
theorem sD {kx vx target iter:Expr}{ifs:List Expr}{scope:Scope}{pos:Pos}{it:Value}{D:Addr}{env:Env} (I:Nat→Shared→Prop)
 (turn:∀n s,I n s→wpAny (model prog w) A (pyNext it) (fun r s₁=>match r with
  | none=>R (.ok .next) s₁
  | some v=>wpAny (model prog w) A (letOwnedTupleGo target it v) (fun _ s₁'=>wpAny (model prog w) A (assign target env v) (fun _ s₂=>
   wpAny (model prog w) A (forIn ifs true fun c r=>if r=true then do let ok ←isTrue c env (eval c env);pure (ForInStep.yield ok) else pure (ForInStep.yield r)) (fun ok s₃=>
    if ok=true then wpAny (model prog w) A (eval kx env) (fun kv s₄=>wpAny (model prog w) A (eval vx env) (fun vv s₅=>
     wpAny (model prog w) A (dictSet D kv vv) (fun _ s₆=>∃m,m<n∧I m s₆) (fun _ _=>False) s₅) (fun _ _=>False) s₄) (fun _ _=>False) s₃
    else ∃m,m<n∧I m s₃) (fun _ _=>False) s₂) (fun _ _=>False) s₁') (fun _ _=>False) s₁) (fun _ _=>False) s)
 (n:Nat) (h:I n s) :
 codeAny (model prog w) A (.compLoop (.DictComp kx vx [⟨target,iter,ifs,0⟩] scope pos) 0 it (.ref D) env) R s:=by
 refine codeAny_loop rfl I (fun n s hI=>?_) n h
 show wpAny _ A ((compTurn (.DictComp kx vx [⟨target,iter,ifs,0⟩] scope pos) 0 it (.ref D) env).onRaise (fun x=>do noteFrame x env;theTreesLotGoes x)) _ _ s
 refine wpAny_noted ?_
 rw [compTurn_dict]
 refine wpAny_bind (wpAny_standAt (wpAny_bind (wpAny_mono (turn n s hI) (fun r s₁ h₁=>?_) fun _ _ h'=>h'.elim)))
 cases r with
 | none=>exact wpAny_pure h₁
 | some v=>
  refine wpAny_bind (wpAny_mono h₁ (fun _ s₁' h₁'=>?_) fun _ _ h'=>h'.elim)
  refine wpAny_bind (wpAny_mono h₁' (fun _ s₂ h₂=>wpAny_bind (wpAny_mono h₂ (fun ok s₃ h₃=>?_) fun _ _ h'=>h'.elim)) fun _ _ h'=>h'.elim)
  cases ok with
  | false=>exact wpAny_pure ⟨rfl,h₃⟩
  | true=>
   exact wpAny_bind (wpAny_bind (wpAny_mono h₃ (fun kv s₄ h₄=>wpAny_bind (wpAny_holding (wpAny_mono h₄ (fun vv s₅ h₅=>wpAny_bind (wpAny_standAt (wpAny_holding (wpAny_mono h₅ (fun _ s₆ h₆=>wpAny_pure ⟨rfl,h₆⟩) fun _ _ h'=>h'.elim)))) fun _ _ h'=>h'.elim))) fun _ _ h'=>h'.elim))
end
def xH (J:It) (σc:St) (g:TG) (tt:TT) (tk tv:TE) (D:Addr) (H1:Hp) (Q:VK):Prop:=
 ∃W:Nat→Nat→Hp→List (aA×V)→Prop,(∃m,W 0 m (aC H1 D (.dK [])) [])∧∀i m H ys,W i m H ys→H D=some (.dK ys)∧
  ((J.stop i H∧Q (.ref D) H)∨(J.go i H∧ys.length<sizeLine∧∃N:Hp→List (aA×V)→Prop,(∀H' ys',N H' ys'→∃m',m'<m∧W (i+1) m' H' ys')∧
    ∀x H',J.yld i H x H'→g x σc H' fun σ2 H2=>ik σc σ2∧tt σ2 H2 fun b H3=>if b=true then tk σ2 H3 fun kv H4=>∃k,kv=gA k∧tv σ2 H4 fun y H5=>H5 D=some (.dK ys)∧N (aC H5 D (.dK (cB ys k y))) (cB ys k y) else N H3 ys))
def xE (wi:TI) (L:Nat) (src:List Nat) (g:TG) (tt:TT) (tk tv:TE):TE:=fun σ H Q=>wi σ H fun J H1=>∀D,H1 D=none→xH J (fu L src σ) g tt tk tv D H1 Q
section
variable {X:Cx}{kx vx tg iter:Expr}{ifs:List Expr}{scope:Scope}{pos:Pos}{N':List Str}{L:Nat}{src:List Nat}{wi:TI}{g:TG}{tt:TT}{tk tv:TE}
theorem xZ (hc:X.calm=true) (ck:xo X.env.scope X.N scope N' L src) {cl:List (Str×Addr)}{pins:List (Addr×Obj)}{s:Shared}{σ:St}{H:Hp}{Q:VK} (I:ac X pins σ H s)
 (hsub:∀x c,cl.lookup x=some c→X.env.cells.lookup x=some c) (hhas:∀y∈scope.names,y.2=.free→∃c,cl.lookup y.1=some c)
 (hi:PI X tg iter wi) (hg:∀cl C s H ex pn,PG (dk X scope cl C N' s H ex pn) tg g) (hif:∀cl C s H ex pn,oy (dk X scope cl C N' s H ex pn) ifs tt)
 (hk:∀cl C s H ex pn,PE (dk X scope cl C N' s H ex pn) kx tk) (hv:∀cl C s H ex pn,PE (dk X scope cl C N' s H ex pn) vx tv) (h:xE wi L src g tt tk tv σ H Q) {RR:Value→Addr→Result→Shared→Prop}
 (hRR:∀D C H' f s' m,ac X pins σ H' s'→s'.heap.Ns C m→i3 X pins H' C→Q (.ref D) H'→RR (.ref D) C (.ok f) s') :
 wpAny (model X.prog X.w) X.A (eval iter X.env) (fun x s₁=>wpAny (model X.prog X.w) X.A (pyIter x) (fun it s₂=>wpAny (model X.prog X.w) X.A newDict (fun acc s₃=>
  wpAny (model X.prog X.w) X.A (newFunctionEnv scope X.env.globals cl [] X.env.qual none .none (some X.env)) (fun cenv s₄=>
   codeAny (model X.prog X.w) X.A (.compStart (.DictComp kx vx [⟨tg,iter,ifs,0⟩] scope pos) 0 it acc { cenv with scope:=relabel scope X.env }) (RR acc cenv.locals) s₄) X.xe s₃) X.xe s₂) X.xe s₁) X.xe s:=by
 refine aH (hi pins s σ H _ I h) fun v s1 h1=>aH h1 fun itv s2 h2=>?_
 obtain ⟨it,fp,tn,J,H2,e,I2,T,st2,f2,q⟩:=h2
 subst e
 refine wpAny_newObj_type (wpAny_newFunctionEnv ck.nocell (by intro y hy;simp at hy) (fun h₁ hns₁ hsb₁=>?_) ck.kind)
 dsimp only at hns₁ hsb₁ ⊢
 generalize hH2:s2.heap.push { cls:=.type "dict",dict:=none,data:=.dict #[] }=hp2 at hns₁ hsb₁ ⊢
 have hC:hp2.objs.size=s2.heap.objs.size+1:=by rw [←hH2,Heap.size_push]
 have hDC:s2.heap.objs.size≠hp2.objs.size:=by rw [hC];exact Nat.ne_of_lt (Nat.lt_succ_self _)
 have hCle:s2.heap.objs.size≤hp2.objs.size:=by rw [hC];exact Nat.le_succ _
 have below:∀b,b<s2.heap.objs.size→b≠hp2.objs.size∧b≠s2.heap.objs.size:=fun b hb=>⟨by rw [hC];exact Nat.ne_of_lt (Nat.lt_succ_of_lt hb),Nat.ne_of_lt hb⟩
 have old:∀b o,s2.heap.get? b=some o→h₁.get? b=some o:=fun b o e=>hsb₁.extBut b o (below b (Heap.lt_size e)).1 (Heap.get?_push_of_some _ (hH2▸Heap.get?_push_of_some _ e))
 have hacc0:(s2.heap.push { cls:=.type "dict",dict:=none,data:=.dict #[] }).DictOf (bt X.prog X.w) s2.heap.objs.size []:=Heap.DictOf.new s2.heap
 have hacc:h₁.DictOf (bt X.prog X.w) s2.heap.objs.size []:=hacc0.at fun o e=>hsb₁.extBut _ _ hDC (Heap.get?_push_of_some _ (hH2▸e))
 have hbig:(s2.heap.objs.size==sysModules)=false:=by
  have e:mainGlobals<s2.heap.objs.size:=(I2.mod.glob.keeps I2.bk).lt
  exact beq_eq_false_iff_ne.mpr (Ne.symm (Nat.ne_of_lt (Nat.lt_trans (by decide) e)))
 have hDn:H2 s2.heap.objs.size=none:=I2.fresh
 obtain ⟨W,⟨m0,w0⟩,turn⟩:=q _ hDn
 have fpo:∀b∈fp,∃o,s2.heap.get? b=some o∧∀v,o.data≠.cell v:=T.obj _ _ st2
 have fplt:∀b∈fp,b<s2.heap.objs.size:=fun b hb=>by obtain ⟨o,e,_⟩:=fpo b hb;exact Heap.lt_size e
 have hfrs:∀b∈fp,b∉gT X.stack:=fun b hb z=>by
  rcases List.mem_cons.mp (I2.stkSub b z) with z' | z'
  ·exact (f2 b hb).2.1 z'
  ·exact (f2 b hb).2.2.1 z'
 generalize hX:dk X scope cl hp2.objs.size N' s2 H2 fp (X.pn++pins)=X'
 have ok':X'.Ok:=by
  subst hX
  refine ⟨I2.ok.mod,ck.kind,I2.ok.glob,I2.ok.blt,hCle,fun x y c e1 e2=>I2.ok.inj x y c (hsub _ _ e1) (hsub _ _ e2),fun x hx=>?_,fun x c z _=>(by cases z),I2.ok.hd,I2.ok.frames,.inl rfl,fun b hb=>⟨(below b (fplt b hb)).1,fun x c e=>(f2 b hb).2.2.2.2.1 x c (hsub _ _ e)⟩,
   I2.bs,Nat.le_trans I2.ok.bsz I2.sz,fun b o e hb=>?_,hfrs,I2.stack,I2.stkFree⟩
  ·-- a name that is a cell or free
   have hx':(relabel scope X.env).names.lookup x=some .cell∨(relabel scope X.env).names.lookup x=some .free:=hx
   have key:∀(names:List (Str×NameKind)),(∀y∈names,y.2≠.cell)→
    ((names.map fun (n,k)=>if (k==NameKind.free && X.env.scope.kind==.function && X.env.kindOf n==some .cell) then (n,NameKind.cell) else (n,k)).lookup x=some .cell∨
     (names.map fun (n,k)=>if (k==NameKind.free && X.env.scope.kind==.function && X.env.kindOf n==some .cell) then (n,NameKind.cell) else (n,k)).lookup x=some .free)→∃y∈names,y.1=x∧y.2=.free:=by
    intro names
    induction names with
    | nil=>intro _ h;rcases h with h | h <;> simp at h
    | cons y r ih=>
     intro hn h
     obtain ⟨n,k⟩:=y
     by_cases hb:x=n
     ·subst hb
      refine ⟨(x,k),List.mem_cons_self,rfl,?_⟩
      by_cases hk:k=.free
      ·exact hk
      ·exfalso
       have hkb:(k==NameKind.free)=false:=by simpa using hk
       have hnc:k≠.cell:=hn (x,k) List.mem_cons_self
       simp only [List.map_cons,hkb,Bool.false_and,Bool.false_eq_true,if_false,List.lookup_cons,beq_self_eq_true,if_true] at h
       rcases h with h | h
       ·exact hnc (Option.some.inj h)
       ·exact hk (Option.some.inj h)
     ·have hb':(x==n)=false:=by simpa using hb
      have h':((r.map fun (n,k)=>if (k==NameKind.free && X.env.scope.kind==.function && X.env.kindOf n==some .cell) then (n,NameKind.cell) else (n,k)).lookup x=some .cell∨
       (r.map fun (n,k)=>if (k==NameKind.free && X.env.scope.kind==.function && X.env.kindOf n==some .cell) then (n,NameKind.cell) else (n,k)).lookup x=some .free):=by
       rw [List.map_cons] at h
       dsimp only at h
       by_cases hcnd:(k==NameKind.free && X.env.scope.kind==.function && X.env.kindOf n==some .cell)=true
       ·rw [if_pos hcnd] at h
        simpa only [List.lookup_cons,hb'] using h
       ·rw [if_neg hcnd] at h
        simpa only [List.lookup_cons,hb'] using h
      obtain ⟨y,hy,e1,e2⟩:=ih (fun y hy=>hn y (List.mem_cons_of_mem _ hy)) h'
      exact ⟨y,List.mem_cons_of_mem _ hy,e1,e2⟩
   obtain ⟨y,hy,e1,e2⟩:=key scope.names ck.nocell hx'
   obtain ⟨c,hc'⟩:=hhas y hy e2
   exact ⟨c,e1▸hc'⟩
  ·rcases (f2 b hb).2.2.2.1 with z | z
   ·exact I2.ok.noex b o e z
   ·exact absurd (Nat.lt_of_lt_of_le (Heap.lt_size e) (Nat.le_trans I2.ok.bsz z)) (Nat.lt_irrefl _)
 have stat:∀{H':Hp},(∀b∈fp,H' b=none)→∀b∈fp,i3 X' [] H' b:=by
  subst hX
  intro H' hn b hb
  refine ⟨hn b hb,(below b (fplt b hb)).1,hfrs b hb,.inl hb,fun x c e=>(f2 b hb).2.2.2.2.1 x c (hsub _ _ e),fun p hp=>?_⟩
  have hp':p∈X.pn++pins:=by simpa [dk] using hp
  exact (f2 b hb).2.2.2.2.2 p hp'
 have I1:ac X' [] (fu L src σ) (aC H2 s2.heap.objs.size (.dK [])) { s2 with heap:=h₁,toks:=s2.toks+([]:List (Str×Value)).length }:=by
  subst hX
  have up:∀b o,H2 b=some o→aC H2 s2.heap.objs.size (.dK []) b=some o:=fun b o e=>by rw [ag (aJ e hDn)];exact e
  have upn:∀b,b<s2.heap.objs.size→H2 b=none→aC H2 s2.heap.objs.size (.dK []) b=none:=fun b hb e=>by rw [ag (Nat.ne_of_lt hb)];exact e
  refine ⟨ok',rfl,I2.bare,Un.laid old (Nat.le_refl _) hDn,⟨_,hns₁,fun i x v e1 e2 e3=>?_⟩,fun x c e=>?_,?_,fun x c e=>?_,fun p hp=>?_,I2.hok.laid old (Nat.le_refl _) ⟨Nat.zero_le _,hbig,[],.nil,hacc⟩,?_⟩
  ·-- the names of the def around
   have hiL:L≤i:=by
    by_cases hlt:i<L
    ·exfalso
     unfold fu at e2
     rw [List.getElem?_append_left (by simpa using hlt),List.getElem?_replicate,if_pos hlt] at e2
     cases e2
    ·trivial
   have e2':(src.map fun j=>(σ[j]?).join)[i - L]?=some (some v):=by
    unfold fu at e2
    rw [List.getElem?_append_right (by simpa using hiL),List.length_replicate] at e2
    exact e2
   rw [List.getElem?_map] at e2'
   cases hj:src[i - L]? with
   | none=>rw [hj] at e2';cases e2'
   | some j=>
    rw [hj] at e2'
    have e3':(σ[j]?).join=some v:=Option.some.inj e2'
    have hσ:σ[j]?=some (some v):=by
     cases q:σ[j]? with
     | none=>rw [q] at e3';cases e3'
     | some o=>rw [q] at e3';exact congrArg some e3'
    obtain ⟨x',g1,g2,g3⟩:=ck.frees (i - L) j hj
    have:L+(i - L)=i:=by trivial
    rw [this] at g1
    have ex:x'=x:=Option.some.inj (g1.symm.trans e1)
    subst ex
    have hfree:=ck.free _ (PySem.mem_of_lookup g3) rfl
    obtain ⟨m,hn,hl⟩:=I2.loc
    obtain ⟨u,r,l⟩:=hl j x' v g2 hσ (hfree.elim (fun z=>.inr (.inl z)) fun z=>.inr (.inr z))
    refine ⟨u,r,.inr ⟨?_,?_⟩⟩
    ·-- its kind in the block
     have key:∀(names:List (Str×NameKind)),names.lookup x'=some .free→
      ((names.map fun (n,k)=>if (k==NameKind.free && X.env.scope.kind==.function && X.env.kindOf n==some .cell) then (n,NameKind.cell) else (n,k)).lookup x'=some .cell∨
       (names.map fun (n,k)=>if (k==NameKind.free && X.env.scope.kind==.function && X.env.kindOf n==some .cell) then (n,NameKind.cell) else (n,k)).lookup x'=some .free):=by
      intro names
      induction names with
      | nil=>intro h;simp at h
      | cons y r ih=>
       intro h
       obtain ⟨n,k⟩:=y
       by_cases hb:x'=n
       ·subst hb
        simp only [List.lookup_cons,beq_self_eq_true,if_true] at h
        have hk:k=.free:=Option.some.inj h
        subst hk
        rw [List.map_cons]
        dsimp only
        by_cases hcnd:(NameKind.free==NameKind.free && X.env.scope.kind==.function && X.env.kindOf x'==some .cell)=true
        ·rw [if_pos hcnd];left;simp [List.lookup_cons]
        ·rw [if_neg hcnd];right;simp [List.lookup_cons]
       ·have hb':(x'==n)=false:=by simpa using hb
        have h':=ih (by simpa only [List.lookup_cons,hb'] using h)
        rw [List.map_cons]
        dsimp only
        by_cases hcnd:(k==NameKind.free && X.env.scope.kind==.function && X.env.kindOf n==some .cell)=true
        ·rw [if_pos hcnd];simpa only [List.lookup_cons,hb'] using h'
        ·rw [if_neg hcnd];simpa only [List.lookup_cons,hb'] using h'
     exact key scope.names g3
    ·obtain ⟨c,hcl⟩:=hhas _ (PySem.mem_of_lookup g3) rfl
     have hcx:=hsub _ _ hcl
     rcases l with ⟨k1,_⟩ | ⟨_,c',e4,z⟩
     ·exfalso
      have k1':X.env.scope.names.lookup x'=some .local:=k1
      rcases hfree with z | z
      ·rw [z] at k1';cases k1'
      ·rw [z] at k1';cases k1'
     ·rw [hcx] at e4
      cases e4
      obtain ⟨o,ho,hd⟩:=z
      exact ⟨c,hcl,o,old _ _ ho,hd⟩
  ·obtain ⟨v,o,ho,hd⟩:=I2.cell x c (hsub _ _ e)
   exact ⟨v,o,old _ _ ho,hd⟩
  ·show aC H2 s2.heap.objs.size (.dK []) hp2.objs.size=none
   rw [ag (Ne.symm hDC)]
   exact I2.hok.fresh hCle
  ·obtain ⟨v,o,ho,hd⟩:=I2.cell x c (hsub _ _ e)
   exact upn c (Heap.lt_size ho) (I2.freeC x c (hsub _ _ e))
  ·have hp':p∈X.pn++pins:=by simpa [dk] using hp
   obtain ⟨e,n,ne,nf,d⟩:=I2.pin p hp'
   have hlt:=Heap.lt_size e
   refine ⟨old _ _ e,upn _ hlt n,(below _ hlt).1,fun z=>?_,d⟩
   rcases List.mem_cons.mp (I2.stkSub _ z) with z' | z'
   ·exact ne z'
   ·exact nf z'
  ·show (fu L src σ).length=N'.length
   unfold fu
   rw [List.length_append,List.length_replicate,List.length_map,ck.len]
 have eA:X'.A=X.A:=by subst hX;rfl
 have eP:X'.prog=X.prog:=by subst hX;rfl
 have eW:X'.w=X.w:=by subst hX;rfl
 have eK:X'.K=X.K:=by subst hX;rfl
 have ec:X'.calm=true:=by subst hX;exact hc
 have exe:X'.xe=fun _ _=>False:=by subst hX;rfl
 have eE:X'.env=compEnvC scope cl hp2.objs.size X.env:=by subst hX;rfl
 have hg':PG X' tg g:=by subst hX;exact hg _ _ _ _ _ _
 have hif':oy X' ifs tt:=by subst hX;exact hif _ _ _ _ _ _
 have hk':PE X' kx tk:=by subst hX;exact hk _ _ _ _ _ _
 have hv':PE X' vx tv:=by subst hX;exact hv _ _ _ _ _ _
 have aft:∀{H':Hp}{s':Shared},ac X' [] (fu L src σ) H' s'→ac X pins σ H' s'∧(∃m,s'.heap.Ns hp2.objs.size m)∧i3 X pins H' hp2.objs.size:=by
  subst hX
  intro H' s' J
  refine ⟨I2.call' (ch:=fp) J.os J.base J.hok J.bare fun b hb=>⟨(f2 b hb).2.2.2.1,(f2 b hb).2.1,(f2 b hb).2.2.2.2.1,(f2 b hb).2.2.2.2.2⟩,?_,I2.fpOk hCle J.free⟩
  obtain ⟨m,hn,_⟩:=J.loc
  exact ⟨m,hn⟩
 have st1:tn 0 h₁:=T.keep _ _ _ st2 fun b hb o e=>old b o e
 have loop:∀s₃:Shared,s₃={ s2 with heap:=h₁,toks:=s2.toks+([]:List (Str×Value)).length }→
  codeAny (model X.prog X.w) X.A (.compLoop (.DictComp kx vx [⟨tg,iter,ifs,0⟩] scope pos) 0 (.ref it) (.ref s2.heap.objs.size) (compEnvC scope cl hp2.objs.size X.env))
   (RR (.ref s2.heap.objs.size) hp2.objs.size) s₃:=by
  rintro s₃ rfl
  refine sD (fun n s'=>kF fun i H' ys=>ac X' [] (fu L src σ) H' s'∧tn i s'.heap∧(∀b∈fp,H' b=none)∧W i n H' ys) ?_ m0
   ⟨0,_,[],I1,st1,fun b hb=>(by rw [ag (below b (fplt b hb)).2];exact (f2 b hb).1),w0⟩
  rintro n s3 ⟨i,H3,ys,I3,st3,fr3,w3⟩
  obtain ⟨hD,alt⟩:=turn i n H3 ys w3
  rcases alt with ⟨stop,qn⟩ | ⟨go,hlen,N,hN,step⟩
  ·have d:=T.done X' eP eW eK ec i [] s3 (fu L src σ) H3 (fun _ _=>False) I3 (stat fr3) st3 stop
   rw [eA] at d
   refine aH d fun r s4 ⟨hr,I4⟩=>?_
   subst hr
   obtain ⟨J,⟨m,hn⟩,fpC⟩:=aft I4
   exact hRR _ _ H3 .next s4 m J hn fpC qn
  ·have d:=T.item X' eP eW eK ec i [] s3 (fu L src σ) H3 (fun _ _=>False) I3 (stat fr3) st3 go
   rw [eA] at d
   refine aH d fun r s4 ⟨u,hr,h4⟩=>?_
   subst hr
   refine aH h4 fun _ s5 ⟨x,H5,I5,r5,y5,st5,fr5⟩=>?_
   have I5':=I5.pinned (stat fr5) (T.obj _ _ st5)
   have a1:=hg' _ s5 (fu L src σ) H5 x u _ I5' r5 (step x H5 y5)
   rw [eP,eW,eA,eE,exe] at a1
   refine aH a1 fun _ s6 ⟨σ6,H6,I6,bk,q6⟩=>?_
   have a2:=hif' _ s6 σ6 H6 _ I6 q6
   rw [eP,eW,eA,eE,exe] at a2
   refine aH a2 fun b s7 ⟨H7,I7,q7⟩=>?_
   have again:∀{H8:Hp}{s8:Shared}{ys':List (aA×V)},ac X' ([]++lM fp s5.heap) σ6 H8 s8→N H8 ys'→∃m,m<n∧kF fun i H' ys=>ac X' [] (fu L src σ) H' s8∧tn i s8.heap∧(∀b∈fp,H' b=none)∧W i m H' ys:=fun {H8 s8 ys'} I8 n8=>by
    obtain ⟨m',hm,w8⟩:=hN H8 ys' n8
    refine ⟨m',hm,i+1,H8,ys',(I8.unpinned).weak bk.1.symm bk.2,T.keep _ _ _ st5 fun b hb o e=>(I8.pin (b,o) (List.mem_append_right _ (List.mem_append_right _ (f8 hb e)))).1,fun b hb=>?_,w8⟩
    obtain ⟨o,e,d⟩:=T.obj _ _ st5 b hb
    exact (I8.pin (b,o) (List.mem_append_right _ (List.mem_append_right _ (f8 hb e)))).2.1
   cases b with
   | false=>
    rw [if_neg Bool.false_ne_true] at q7 ⊢
    exact again I7 q7
   | true=>
    rw [if_pos rfl] at q7 ⊢
    have a3:=hk' _ s7 σ6 H7 _ I7 q7
    rw [eP,eW,eA,eE,exe] at a3
    refine aH a3 fun kv s8 ⟨yk,H8,I8,r8,k,ek,q8⟩=>?_
    subst ek
    have a4:=hv' _ s8 σ6 H8 _ I8 q8
    rw [eP,eW,eA,eE,exe] at a4
    refine aH a4 fun vv s9 ⟨y,H9,I9,r9,hD9,q9⟩=>?_
    obtain ⟨hz,hm,vs,rel,dd⟩:=(show aW X'.prog X'.w H9 s9.heap s2.heap.objs.size (.dK ys) from I9.hok _ _ hD9)
    rw [eP,eW] at dd
    refine wpAny_dictSet_pairs (knd:=bt X.prog X.w) (hsz:=by rw [←rel.length];exact hz) (k8 r8) dd fun h' hd' sb=>?_
    have hd2:h'.DictOf (bt X'.prog X'.w) s2.heap.objs.size (stored vs k vv):=by rw [eP,eW];exact hd'
    exact again (I9.dset (t':=s9.toks+1) hD9 hm (rY hlen) (sr rel r9) hd2 sb) q9
 exact codeAny_compStart_dict (loop _ rfl) (T.self _ 0 _ _ _ st1 (loop _ rfl))
theorem uL {j:Nat}{y:Str}{py spos:Pos} (hN:X.N.Nodup) (hj:X.N[j]?=some y) (hy:X.env.scope.names.lookup y=some .local) (hsw:swapsWith (.DictComp kx vx [⟨tg,iter,ifs,0⟩] scope pos) (some (.Name y py)) spos.line X.env=pure true)
 (hc:X.calm=true) (ck:rj X.env.scope X.N scope N' L src=true) (hi:PI X tg iter wi) (hg:∀cl C s H ex pn,PG (dk X scope cl C N' s H ex pn) tg g) (hif:∀cl C s H ex pn,oy (dk X scope cl C N' s H ex pn) ifs tt)
 (hk:∀cl C s H ex pn,PE (dk X scope cl C N' s H ex pn) kx tk) (hv:∀cl C s H ex pn,PE (dk X scope cl C N' s H ex pn) vx tv) (hs:∀x,foldedSetIterable iter X.env x=pure x:=by intro _;rfl) :
 PS X (.Assign [.Name y py] (.DictComp kx vx [⟨tg,iter,ifs,0⟩] scope pos) spos) (qK (xE wi L src g tt tk tv) (qo j)):=by
 intro pins s σ H D I h
 have ck:=xw ck
 obtain ⟨cl,hclos,hsub,hhas⟩:=qY (scope:=scope) (env:=X.env) fun y hy e=>I.ok.has y.1 (ck.free y hy e)
 rw [exec_Assign_Name_used _ _ _ _ hsw]
 refine wpAny_bind (wpAny_standAt (wpAny_bind ?_))
 show wpAny _ X.A (do let _ ←comprehension (.DictComp kx vx [⟨tg,iter,ifs,0⟩] scope pos) scope X.env _ newDict false (eval iter X.env) (some (assign (.Name y py) X.env))) _ _ s
 refine wpAny_bind (wpAny_mono (wpAny_comprehension_free (use:=some (assign (.Name y py) X.env)) (Q:=fun _ s'=>SP X pins D .next s') rfl hs hclos ck.kind ck.loc
  (xZ hc ck I hsub hhas hi hg hif hk hv h (RR:=fun acc C=>compPost (model X.prog X.w) X.A X.xe (some (assign (.Name y py) X.env)) (fun _ s'=>SP X pins D .next s') acc C) ?_)) (fun _ s' hq=>wpAny_pure (wpAny_pure hq)) fun _ _ e=>e)
 intro L' C H' f s' m J hn fpC q
 show wpAny _ X.A (assign (.Name y py) X.env (.ref L')) _ _ _
 refine wpAny_assign_Name (oa J hN hj (.inl hy) (v:=.ref L') rfl (fun s2 J2 hsb=>?_) (.inr hy))
 obtain ⟨f0,f1,f2,f3,f4,f5⟩:=fpC
 obtain ⟨a,hsb,ha⟩:=hsb
 have hCa:C≠a:=by
  rcases ha with rfl | ha
  ·exact f1
  ·exact fun z=>f4 _ _ ha z.symm
 refine ⟨m,hn.sameBut hsb hCa,fun h' hsb'=>⟨_,H',?_,q⟩⟩
 exact J2.turned (t':=s2.toks) (fun b o hb e=>(hsb'.2 b hb).trans e) f0 f1 f3 f4 f5
end
end L2
namespace KM
structure Edge where
 b:List Nat
 e:List Nat
 g:Rat
structure SInv (ls:List (List Nat)) (es:List Edge) (W u:List Nat→Rat) (S:List (List Nat)) (m:Rat):Prop where
 up:∀l∈ls,0<u l
 lo:∀l∈ls,l∉S→u l≤m*W l
 hi:∀l∈S,m*W l≤u l
 cl:∀t∈es,t.e∈S→t.g*u t.e≤u t.b
structure uo (ls:List (List Nat)) (es:List Edge) (W u:List Nat→Rat) (S:List (List Nat)) (q:List Nat) (m:Rat) (done:List Edge):Prop where
 m0:0≤m
 up:∀l∈ls,0<u l
 lo:∀l∈ls,l∉S→u l≤m*W l
 hi:∀l∈S,m*W l≤u l
 qq:u q=m*W q
 cl:∀t∈es,t.e∈S→t.g*u t.e≤u t.b
 dn:∀t∈done,t.e=q→t.g*u t.e≤u t.b
structure Hold (ls:List (List Nat)) (es:List Edge) (W:List Nat→Rat):Prop where
 w:∀l∈ls,0<W l
 b:∀t∈es,t.b∈ls
 e:∀t∈es,t.e∈ls
 g:∀t∈es,0<t.g
 h:∀t∈es,t.g*W t.e≤W t.b
theorem mul_le_l {a b c:Rat} (h:a≤b) (hc:0≤c):c*a≤c*b:=Rat.mul_le_mul_of_nonneg_left h hc
variable {ls:List (List Nat)}{es done:List Edge}{W u:List Nat→Rat}{S:List (List Nat)}{q:List Nat}{m:Rat}
theorem uo.val_le (p:uo ls es W u S q m done) (h:Hold ls es W) {t:Edge} (ht:t∈es) (he:t.e∉S):t.g*u t.e≤m*W t.b:=by
 have h1:=p.lo t.e (h.e t ht) he
 have h2:=mul_le_l h1 (Rat.le_of_lt (h.g t ht))
 have h3:=mul_le_l (h.h t ht) p.m0
 have e1:t.g*(m*W t.e)=m*(t.g*W t.e):=by grind
 rw [e1] at h2
 exact Rat.le_trans h2 h3
theorem uo.stays (p:uo ls es W u S q m done) (h:Hold ls es W) {t:Edge} (ht:t∈es) (hb:t.b∈S∨t.b=q):t.g*u t.e≤u t.b:=by
 by_cases he:t.e∈S
 ·exact p.cl t ht he
 ·have h1:=p.val_le h ht he
  rcases hb with hb | hb
  ·exact Rat.le_trans h1 (p.hi t.b hb)
  ·rw [hb];rw [hb] at h1;rw [p.qq];exact h1
theorem exists_max (f:List Nat→Rat):∀(xs:List (List Nat)),xs≠[]→∃q∈xs,∀l∈xs,f l≤f q
 | [],h=>absurd rfl h
 | [x],_=>⟨x,List.mem_singleton.mpr rfl,fun l hl=>by rw [List.mem_singleton.mp hl];exact Rat.le_refl⟩
 | x :: y :: r,_=>by
  obtain ⟨q,hq,hm⟩:=exists_max f (y :: r) (by simp)
  by_cases c:f x≤f q
  ·refine ⟨q,List.mem_cons_of_mem _ hq,fun l hl=>?_⟩
   rcases List.mem_cons.mp hl with z | z
   ·rw [z];exact c
   ·exact hm l z
  ·refine ⟨x,List.mem_cons_self ..,fun l hl=>?_⟩
   have c':f q≤f x:=by grind
   rcases List.mem_cons.mp hl with z | z
   ·rw [z];exact Rat.le_refl
   ·exact Rat.le_trans (hm l z) c'
theorem SInv.begin (p:SInv ls es W u S m) (h:Hold ls es W) (hn:∃l∈ls,l∉S) (hS:∀l∈S,l∈ls):∃q,∃m',q∈ls∧q∉S∧uo ls es W u S q m' []:=by
 have hne:ls.filter (fun l=>decide (l∉S))≠[]:=by
  obtain ⟨l,h1,h2⟩:=hn
  exact List.ne_nil_of_mem (List.mem_filter.mpr ⟨h1,decide_eq_true h2⟩)
 obtain ⟨q,hq,hmax⟩:=exists_max (fun l=>u l / W l) _ hne
 obtain ⟨q1,q2⟩:=List.mem_filter.mp hq
 have q3:=of_decide_eq_true q2
 have wq:=h.w q q1
 have div:∀l∈ls,u l / W l*W l=u l:=fun l hl=>by
  have:=h.w l hl
  exact Rat.div_mul_cancel (by grind)
 have le_of:∀l∈ls,∀c:Rat,u l / W l≤c→u l≤c*W l:=fun l hl c hc=>by
  have:=Rat.mul_le_mul_of_nonneg_right hc (Rat.le_of_lt (h.w l hl))
  rw [div l hl] at this
  exact this
 refine ⟨q,u q / W q,q1,q3,?_,p.up,fun l hl hs=>?_,fun l hl=>?_,(div q q1).symm,p.cl,fun x hx=>by cases hx⟩
 ·have hu:=p.up q q1
  by_cases c:0≤u q / W q
  ·exact c
  ·have c':u q / W q≤0:=by grind
   have:=le_of q q1 0 c'
   rw [Rat.zero_mul] at this
   exact absurd hu (Rat.not_lt.mpr this)
 ·exact le_of l hl _ (hmax l (List.mem_filter.mpr ⟨hl,decide_eq_true hs⟩))
 ·have h1:=p.lo q q1 q3
  have h2:u q / W q≤m:=by
   by_cases c:u q / W q≤m
   ·exact c
   ·have c':m<u q / W q:=by grind
    have:=Rat.mul_lt_mul_of_pos_right c' wq
    rw [div q q1] at this
    exact absurd this (Rat.not_lt.mpr h1)
  exact Rat.le_trans (Rat.mul_le_mul_of_nonneg_right h2 (Rat.le_of_lt (h.w l (hS l hl)))) (p.hi l hl)
end KM
namespace L2
open PySem PySem.Spec PyProof.Rows
section
variable {z:Nat}{E:Addr→Prop}{H H':Hp}{n m k:Nat}{v:V}{xs ys:List V}
end
section
variable {X:Cx}{K:PySem.W.Frag}
end
section
variable {X:Cx}
inductive Cf (x:V) (vs:List V) (H:Hp) (Q:VK):Prop
 | mk (l:_) (xs:_) (y:_) (h0:x=.ref l) (h1:vs=[]) (h2:H l=some (.lst (xs++[y]))) (h3:∀H',Ch H l xs H'→Q y H')
def Eh:V→List V→Hp→VK→Prop:=fun x vs H Q=>Cf  x vs H Q
theorem AN:yl X "list.pop" Eh:=fun pins s σ H x vs v us Q I rx rv ⟨l,xs,y,e1,e2,h,q⟩=>Dk pins s σ H x vs v us Q I rx rv ⟨l,xs++[y],y,e1,e2,h,by simp,by
 rw [List.dropLast_concat];exact q _ .mk'⟩
inductive ze (x:V) (vs:List V) (H:Hp) (Q:VK):Prop
 | mk (l:Addr) (ks:List (List Nat)) (k:List Nat) (j:Nat) (h0:x=.ref l) (h1:vs=[aQ k]) (h2:H l=some (.lst (ks.map aQ))) (h3:ks.length≤10000) (h4:ks[j]?=some k) (h5:ks.Nodup) (h6:Q (.int (j:Int)) H)
def Bd:V→List V→Hp→VK→Prop:=fun x vs H Q=>ze  x vs H Q
theorem ya:yl X "list.index" Bd:=by
 intro pins s σ H x vs v us Q I rx rv h
 obtain ⟨l,ks,k,j,rfl,rfl,hH,hz,hj,nd,q⟩:=h
 cases rx
 obtain ⟨u,rfl,ru⟩:=rv.one
 obtain ⟨t,rfl⟩:=ru
 obtain ⟨z,its,n,r,hl,e⟩:=I.lstM hH
 have hlen:ks.length=its.length:=by rw [←hl,List.length_map]
 have isI:∀(m:Nat) (w:Value),its[m]?=some w→bh fun i t'=>ks[m]?=some i∧w=.str (S i) t':=fun m w hw=>by
  obtain ⟨i,hi⟩:∃i,ks[m]?=some i:=⟨_,List.getElem?_eq_getElem (by rw [hlen];exact (List.getElem?_eq_some_iff.mp hw).1)⟩
  obtain ⟨w',hw',rw'⟩:=r.get (show (ks.map aQ)[m]?=some (aQ i) by rw [List.getElem?_map,hi];rfl)
  rw [hw] at hw'
  cases hw'
  obtain ⟨t',rfl⟩:=rw'
  exact ⟨i,t',hi,rfl⟩
 have hji:j<its.length:=by rw [←hlen];exact (List.getElem?_eq_some_iff.mp hj).1
 refine call_meets F.slot_list_index ⟨_,e,rfl⟩ F.entry_list_index (F.args_list_index_2 _ _)
  (MeetsSeq.list_index l its.toArray n (.str (S k) t) (fun y=>match y with | .str i _=>i==S k | _=>false) (fun y hy=>?_) j (by simpa using hji) (by trivial) ?_ (fun m hm hlt=>?_)) ⟨e,?_⟩
 ·obtain ⟨m,hm⟩:=List.getElem?_of_mem (by simpa using hy:y∈its)
  obtain ⟨i,t',_,rfl⟩:=isI m y hm
  exact eqGives_str (S i) (S k) t' t
 ·obtain ⟨i,t',e1,e2⟩:=isI j its[j] (List.getElem?_eq_getElem hji)
  rw [hj] at e1
  cases e1
  simp only [List.getElem_toArray,e2,beq_self_eq_true]
 ·have hm':m<its.length:=by simpa using hm
  obtain ⟨i,t',e1,e2⟩:=isI m its[m] (List.getElem?_eq_getElem hm')
  simp only [List.getElem_toArray,e2]
  apply beq_eq_false_iff_ne.mpr
  intro q
  have q':i=k:=qt q
  subst q'
  have a1:=List.getElem?_eq_some_iff.mp e1
  have a2:=List.getElem?_eq_some_iff.mp hj
  have:=d7 nd a1.1 a2.1 (by rw [a1.2,a2.2])
  trivial
 ·exact ⟨.int (j:Int),H,I.tok _,⟨()⟩,q⟩
end
end L2
namespace L2
open PySem
theorem wZ {a b c:Rat} (h:a<b) (k:b≤c):a<c:=by grind
theorem nU {a b c:Rat} (h:a≤b) (k:b<c):a<c:=by grind
theorem su {p q:KM.Fra} (hp:1≤p.2) (hq:1≤q.2):KM.vl p≤KM.vl q↔p.1*q.2≤q.1*p.2:=by
 have e:KM.vl q - KM.vl p=Rat.divInt (q.1*p.2 - p.1*q.2) (q.2*p.2):=by
  unfold KM.vl
  rw [Rat.divInt_sub_divInt _ _ (by trivial) (by trivial)]
 have h:=Rat.divInt_nonneg_iff_of_pos_right (a:=q.1*p.2 - p.1*q.2) (b:=q.2*p.2) (Int.mul_pos (by trivial) (by trivial))
 rw [←e] at h
 constructor
 ·intro z
  have:=h.mp (by grind)
  trivial
 ·intro z
  have:=h.mpr (by trivial)
  grind
theorem lc {p q:KM.Fra} (hp:1≤p.2) (hq:1≤q.2):KM.vl p<KM.vl q↔p.1*q.2<q.1*p.2:=by
 have:=su hq hp
 constructor
 ·intro z
  have n:¬KM.vl q≤KM.vl p:=Rat.not_le.mpr z
  rw [this] at n
  trivial
 ·intro z
  apply Rat.not_le.mp
  rw [this]
  trivial
theorem i9 {p:KM.Fra} (h:1≤p.1) (k:1≤p.2):0<KM.vl p:=by
 have:=(lc (p:=(0,1)) (q:=p) (by decide) k).mpr (by show 0*p.2<p.1*1;trivial)
 rw [KM.vl_zero] at this
 exact this
abbrev vm:=List Nat→KM.Fra
def dc (ω:vm) (b:List Nat) (v:KM.Fra):vm:=fun l=>if l=b then v else ω l
def eO (ω:vm) (t:aj):Bool:=decide (t.most≠(0,1)) && decide ((ω t.bg).1*(KM.lTim t.gain (ω t.en)).2<(KM.lTim t.gain (ω t.en)).1*(ω t.bg).2)
structure LS where
 ω:vm
 on:List Nat→Option Nat
 lf:Option (List Nat)
 la:List Nat→Nat
 tm:List Nat→Nat
 ct:Nat
def mz (p i:Nat) (t:aj) (s:LS):LS:=if eO s.ω t=true then ⟨dc s.ω t.bg (KM.lTim t.gain (s.ω t.en)),fun l=>if l=t.bg then some i else s.on l,some t.bg,fun l=>if l=t.bg then p else s.la l,fun l=>if l=t.bg then s.ct+1 else s.tm l,s.ct+1⟩ else s
def bT (p:Nat) (ts:List aj) (s:LS):Nat→LS
 | 0=>{ s with lf:=none }
 | i+1=>match ts[i]? with
  | some t=>mz p i t (bT p ts s i)
  | none=>bT p ts s i
theorem nS {p i:Nat}{ts:List aj}{s:LS}{t:aj} (h:ts[i]?=some t):bT p ts s (i+1)=mz p i t (bT p ts s i):=by
 rw [bT,h]
def j0 (p:Nat) (ts:List aj) (s:LS):LS:=bT p ts s ts.length
def FW:LS:=⟨fun _=>(1,1),fun _=>none,none,fun _=>0,fun _=>0,0⟩
def dX (ts:List aj):Nat→LS
 | 0=>FW
 | k+1=>j0 (k+1) ts (dX ts k)
theorem oE {p i:Nat}{t:aj}{s:LS} (h:eO s.ω t=true):mz p i t s=⟨dc s.ω t.bg (KM.lTim t.gain (s.ω t.en)),fun l=>if l=t.bg then some i else s.on l,some t.bg,fun l=>if l=t.bg then p else s.la l,fun l=>if l=t.bg then s.ct+1 else s.tm l,s.ct+1⟩:=by
 unfold mz;rw [if_pos h]
theorem pL {p i:Nat}{t:aj}{s:LS} (h:eO s.ω t=false):mz p i t s=s:=by
 unfold mz;rw [if_neg (by rw [h];decide)]
theorem oQ {p:Nat}{ts:List aj}{s:LS}:∀{i:Nat},(bT p ts s i).lf=none→(bT p ts s i).ω=s.ω∧∀k t,k<i→ts[k]?=some t→eO s.ω t=false
 | 0,_=>⟨rfl,fun k t h=>by trivial⟩
 | i+1,h=>by
  cases e:ts[i]? with
  | none=>
   have e':bT p ts s (i+1)=bT p ts s i:=by rw [bT,e]
   rw [e'] at h ⊢
   obtain ⟨h1,h2⟩:=oQ h
   refine ⟨h1,fun k t hk et=>?_⟩
   by_cases c:k=i
   ·rw [c,e] at et;cases et
   ·exact h2 k t (by trivial) et
  | some t=>
   rw [nS e] at h ⊢
   cases q:eO (bT p ts s i).ω t with
   | true=>rw [oE q] at h;cases h
   | false=>
    rw [pL q] at h ⊢
    obtain ⟨h1,h2⟩:=oQ h
    refine ⟨h1,fun k t' hk et=>?_⟩
    by_cases c:k=i
    ·rw [c,e] at et;cases et;rw [←h1];exact q
    ·exact h2 k t' (by trivial) et
theorem wY {p:Nat}{ts:List aj}{s:LS} (h:(j0 p ts s).lf=none):(j0 p ts s).ω=s.ω∧∀t∈ts,eO s.ω t=false:=by
 obtain ⟨h1,h2⟩:=oQ h
 refine ⟨h1,fun t ht=>?_⟩
 obtain ⟨k,hk⟩:=List.getElem?_of_mem ht
 exact h2 k t (List.getElem?_eq_some_iff.mp hk).1 hk
structure lX (ls:List (List Nat)) (t:aj):Prop where
 b:t.bg∈ls
 e:t.en∈ls
 ne:t.bg≠t.en
 g1:1≤t.gain.1
 g2:1≤t.gain.2
abbrev uW (s:LS) (l:List Nat):Rat:=KM.vl (s.ω l)
abbrev gR (t:aj):Rat:=KM.vl t.gain
structure BI (ls:List (List Nat)) (ts:List aj) (p i:Nat) (s:LS):Prop where
 pos:∀l∈ls,1≤(s.ω l).1∧1≤(s.ω l).2
 on:∀l k,s.on l=some k→∃t,ts[k]?=some t∧t.most≠(0,1)∧t.bg=l∧uW s l≤gR t*uW s t.en∧(s.tm l≤s.tm t.en→uW s l<gR t*uW s t.en)∧s.la l≤s.la t.en+1
 la1:∀l,1≤s.la l→s.on l≠none
 up:∀k t,ts[k]?=some t→t.most≠(0,1)→gR t*uW s t.en≤uW s t.bg∨(if k<i then p else p - 1)≤s.la t.en
 lap:∀l,s.la l≤p
 tmc:∀l,s.tm l≤s.ct
 lf:∀b,s.lf=some b→s.la b=p∧b∈ls
theorem mJ {ls:List (List Nat)}{t:aj}{ω:vm} (c:lX ls t) (pos:∀l∈ls,1≤(ω l).1∧1≤(ω l).2):KM.vl (KM.lTim t.gain (ω t.en))=KM.vl t.gain*KM.vl (ω t.en)∧1≤(KM.lTim t.gain (ω t.en)).2∧1≤(KM.lTim t.gain (ω t.en)).1:=by
 obtain ⟨p1,p2⟩:=pos t.en c.e
 have g2:=c.g2
 exact ⟨KM.vl_tim (by trivial) (by trivial),(KM.low_spec _ _ (Int.mul_ne_zero (by trivial) (by trivial))).1,vt c.g1 c.g2 p1 p2⟩
theorem sw {ls:List (List Nat)}{t:aj}{ω:vm} (c:lX ls t) (pos:∀l∈ls,1≤(ω l).1∧1≤(ω l).2):eO ω t=true↔(t.most≠(0,1)∧KM.vl (ω t.bg)<KM.vl t.gain*KM.vl (ω t.en)):=by
 obtain ⟨e1,e2,e3⟩:=mJ c pos
 unfold eO
 rw [Bool.and_eq_true,decide_eq_true_iff,decide_eq_true_iff,←e1,lc (pos t.bg c.b).2 e2]
theorem BI.step {ls:List (List Nat)}{ts:List aj}{p i:Nat}{s:LS}{t:aj} (hp:1≤p) (c:lX ls t) (et:ts[i]?=some t) (tc:∀t∈ts,lX ls t) (h:BI ls ts p i s):BI ls ts p (i+1) (mz p i t s):=by
 have hlt:=sw c h.pos
 cases q:eO s.ω t with
 | false=>
  rw [pL q]
  refine ⟨h.pos,h.on,h.la1,fun k t' ek ho=>?_,h.lap,h.tmc,h.lf⟩
  by_cases ck:k=i
  ·subst ck
   rw [et] at ek
   cases ek
   left
   rw [q] at hlt
   have:¬(KM.vl (s.ω t.bg)<KM.vl t.gain*KM.vl (s.ω t.en)):=fun z=>by
    have:=hlt.mpr ⟨ho,z⟩
    cases this
   exact Rat.not_lt.mp this
  ·rcases h.up k t' ek ho with z | z
   ·exact .inl z
   ·right
    by_cases ck2:k<i
    ·rw [if_pos (by trivial)];rw [if_pos ck2] at z;exact z
    ·rw [if_neg (by trivial)];rw [if_neg ck2] at z;exact z
 | true=>
  rw [q] at hlt
  obtain ⟨ho,hl⟩:=hlt.mp rfl
  obtain ⟨e1,e2,e3⟩:=mJ c h.pos
  rw [oE q]
  have ub:∀l,l=t.bg→uW ⟨dc s.ω t.bg (KM.lTim t.gain (s.ω t.en)),fun l=>if l=t.bg then some i else s.on l,some t.bg,fun l=>if l=t.bg then p else s.la l,fun l=>if l=t.bg then s.ct+1 else s.tm l,s.ct+1⟩ l=gR t*uW s t.en:=fun l e=>by
   show KM.vl (dc _ _ _ l)=_
   unfold dc
   rw [if_pos e]
   exact e1
  have un:∀l,l≠t.bg→uW ⟨dc s.ω t.bg (KM.lTim t.gain (s.ω t.en)),fun l=>if l=t.bg then some i else s.on l,some t.bg,fun l=>if l=t.bg then p else s.la l,fun l=>if l=t.bg then s.ct+1 else s.tm l,s.ct+1⟩ l=uW s l:=fun l e=>by
   show KM.vl (dc _ _ _ l)=_
   unfold dc
   rw [if_neg e]
  generalize es:(⟨dc s.ω t.bg (KM.lTim t.gain (s.ω t.en)),fun l=>if l=t.bg then some i else s.on l,some t.bg,fun l=>if l=t.bg then p else s.la l,fun l=>if l=t.bg then s.ct+1 else s.tm l,s.ct+1⟩:LS)=s' at ub un ⊢
  have a1:s'.ω=dc s.ω t.bg (KM.lTim t.gain (s.ω t.en)):=by rw [←es]
  have a2:∀l,s'.on l=if l=t.bg then some i else s.on l:=fun l=>by rw [←es]
  have a3:∀l,s'.la l=if l=t.bg then p else s.la l:=fun l=>by rw [←es]
  have a4:∀l,s'.tm l=if l=t.bg then s.ct+1 else s.tm l:=fun l=>by rw [←es]
  have a5:s'.ct=s.ct+1:=by rw [←es]
  have a6:s'.lf=some t.bg:=by rw [←es]
  have mono:∀l,uW s l≤uW s' l:=fun l=>by
   by_cases cl:l=t.bg
   ·rw [ub l cl,cl];exact Rat.le_of_lt hl
   ·rw [un l cl];exact Rat.le_refl
  have lamono:∀l,s.la l≤s'.la l:=fun l=>by
   rw [a3]
   by_cases cl:l=t.bg
   ·rw [if_pos cl];exact h.lap l
   ·rw [if_neg cl];exact Nat.le_refl _
  have gpos:∀{t:aj},t∈ts→0<gR t:=fun {t} ht=>i9 (tc t ht).g1 (tc t ht).g2
  refine ⟨fun l hl'=>?_,fun l k hk=>?_,fun l h1=>?_,fun k t' ek ho'=>?_,fun l=>?_,fun l=>?_,fun b hb=>?_⟩
  ·rw [a1]
   unfold dc
   by_cases cl:l=t.bg
   ·rw [if_pos cl];exact ⟨e3,e2⟩
   ·rw [if_neg cl];exact h.pos l hl'
  ·rw [a2] at hk
   by_cases cl:l=t.bg
   ·rw [if_pos cl] at hk
    cases hk
    have ne:t.en≠t.bg:=fun z=>c.ne z.symm
    refine ⟨t,et,ho,cl.symm,?_,fun z=>?_,?_⟩
    ·rw [ub l cl,un t.en ne];exact Rat.le_refl
    ·rw [a4,a4,if_pos cl,if_neg ne] at z
     have:=h.tmc t.en
     trivial
    ·rw [a3,a3,if_pos cl,if_neg ne]
     rcases h.up i t et ho with z | z
     ·exact absurd hl (Rat.not_lt.mpr z)
     ·rw [if_neg (Nat.lt_irrefl _)] at z
      trivial
   ·rw [if_neg cl] at hk
    obtain ⟨t',e',o',b',l',s',r'⟩:=h.on l k hk
    have gp:=gpos (List.mem_of_getElem? e')
    have hm:=KM.mul_le_l (mono t'.en) (Rat.le_of_lt gp)
    refine ⟨t',e',o',b',?_,fun z=>?_,?_⟩
    ·rw [un l cl];exact Rat.le_trans l' hm
    ·rw [un l cl]
     rw [a4,a4,if_neg cl] at z
     by_cases ce:t'.en=t.bg
     ·rw [ub t'.en ce]
      have:uW s t'.en<gR t*uW s t.en:=by rw [ce];exact hl
      have h2:=Rat.mul_lt_mul_of_pos_left this gp
      exact nU l' h2
     ·rw [un t'.en ce]
      rw [if_neg ce] at z
      exact s' z
    ·rw [a3 l,if_neg cl]
     exact Nat.le_trans r' (Nat.add_le_add_right (lamono _) 1)
  ·rw [a2]
   by_cases cl:l=t.bg
   ·rw [if_pos cl];intro z;cases z
   ·rw [if_neg cl]
    rw [a3,if_neg cl] at h1
    exact h.la1 l h1
  ·by_cases ck:k=i
   ·subst ck
    rw [et] at ek
    cases ek
    left
    rw [ub t.bg rfl,un t.en (fun z=>c.ne z.symm)]
    exact Rat.le_refl
   ·by_cases ce:t'.en=t.bg
    ·right
     rw [a3,if_pos ce]
     split <;> trivial
    ·rcases h.up k t' ek ho' with z | z
     ·left
      rw [un t'.en ce]
      exact Rat.le_trans z (mono _)
     ·right
      rw [a3,if_neg ce]
      by_cases ck2:k<i
      ·rw [if_pos (by trivial)];rw [if_pos ck2] at z;exact z
      ·rw [if_neg (by trivial)];rw [if_neg ck2] at z;exact z
  ·rw [a3]
   by_cases cl:l=t.bg
   ·rw [if_pos cl];exact Nat.le_refl _
   ·rw [if_neg cl];exact h.lap l
  ·rw [a4,a5]
   by_cases cl:l=t.bg
   ·rw [if_pos cl];exact Nat.le_refl _
   ·rw [if_neg cl];have:=h.tmc l;trivial
  ·rw [a6] at hb
   cases hb
   exact ⟨by rw [a3,if_pos rfl],c.b⟩
theorem BI.all {ls:List (List Nat)}{ts:List aj} (tc:∀t∈ts,lX ls t) (p:Nat):∀i,i≤ts.length→BI ls ts p ts.length (dX ts p)→BI ls ts (p+1) i (bT (p+1) ts (dX ts p) i)
 | 0,_,h=>⟨h.pos,h.on,h.la1,fun k t e o=>by
  rcases h.up k t e o with z | z
  ·exact .inl z
  ·right
   rw [if_pos (List.getElem?_eq_some_iff.mp e).1] at z
   rw [if_neg (by trivial)]
   exact z,fun l=>by have:=h.lap l;exact Nat.le_succ_of_le this,h.tmc,fun b hb=>by cases hb⟩
 | i+1,hi,h=>by
  have ih:=BI.all tc p i (by trivial) h
  have e:ts[i]?=some ts[i]:=List.getElem?_eq_getElem (by trivial)
  rw [nS e]
  exact ih.step (by trivial) (tc _ (List.getElem_mem _)) e tc
theorem BI.st {ls:List (List Nat)}{ts:List aj} (tc:∀t∈ts,lX ls t):∀p,BI ls ts p ts.length (dX ts p)
 | 0=>⟨fun l _=>⟨by show (1:Int)≤1;decide,by show (1:Int)≤1;decide⟩,(fun l k h=>by cases h),(fun l h=>by exact absurd h (by show ¬1≤0;decide)),(fun k t e o=>.inr (by split <;> exact Nat.zero_le _)),fun l=>Nat.le_refl _,fun l=>Nat.le_refl _,fun b hb=>by cases hb⟩
 | p+1=>BI.all tc p _ (Nat.le_refl _) (BI.st tc p)
def b8 (us:List aj):Rat:=(us.map gR).foldr (· * ·) 1
structure Ed (s:LS) (t:aj):Prop where
 g:0<gR t
 le:uW s t.bg≤gR t*uW s t.en
 lt:s.tm t.bg≤s.tm t.en→uW s t.bg<gR t*uW s t.en
theorem Ac {s:LS}{c:List Nat}:∀{us:List aj}{a:List Nat},us.map (·.bg)++[c]=a :: us.map (·.en)→(∀t∈us,Ed s t)→us≠[]→uW s a≤b8 us*uW s c∧(uW s a<b8 us*uW s c∨s.tm c<s.tm a)
 | [],_,_,_,h=>absurd rfl h
 | t :: r,a,e,h,_=>by
  simp only [List.map_cons,List.cons_append,List.cons.injEq] at e
  obtain ⟨rfl,e⟩:=e
  have ht:=h t (List.mem_cons_self ..)
  have hr:=fun x hx=>h x (List.mem_cons_of_mem _ hx)
  have ep:b8 (t :: r)=gR t*b8 r:=rfl
  rw [ep]
  have g0:=Rat.le_of_lt ht.g
  cases r with
  | nil=>
   simp only [List.map_nil,List.nil_append,List.cons.injEq,and_true] at e
   subst e
   have e1:b8 []=1:=rfl
   rw [e1,Rat.mul_one]
   refine ⟨ht.le,?_⟩
   by_cases z:s.tm t.bg≤s.tm t.en
   ·exact .inl (ht.lt z)
   ·exact .inr (by trivial)
  | cons t2 r2=>
   obtain ⟨h1,h2⟩:=Ac e hr (by simp)
   have m1:=KM.mul_le_l h1 g0
   have ea:gR t*(b8 (t2 :: r2)*uW s c)=gR t*b8 (t2 :: r2)*uW s c:=(Rat.mul_assoc _ _ _).symm
   rw [ea] at m1
   refine ⟨Rat.le_trans ht.le m1,?_⟩
   by_cases z:s.tm t.bg≤s.tm t.en
   ·exact .inl (wZ (ht.lt z) m1)
   ·rcases h2 with h2 | h2
    ·have m2:=Rat.mul_lt_mul_of_pos_left h2 ht.g
     rw [ea] at m2
     exact .inl (nU ht.le m2)
    ·exact .inr (by trivial)
structure j6 (ts:List aj) (R:List Nat) (us:List aj):Prop where
 at':R.map (fun k=>ts[k]?)=us.map some
 op:∀t∈us,t.most≠(0,1)
 two:2≤R.length
 nd:(us.map (·.bg)).Nodup
 rot:us.map (·.en)=(us.map (·.bg)).drop 1++(us.map (·.bg)).take 1
 gain:1<b8 us
theorem BY {ls:List (List Nat)}{ts:List aj}{s:LS}{ks:List Nat}{us:List aj}{l0 c:List Nat}{j:Nat} (tc:∀t∈ts,lX ls t) (pos:∀l∈ls,1≤(s.ω l).1∧1≤(s.ω l).2)
 (h1:ks.map (fun k=>ts[k]?)=us.map some) (ho:∀t∈us,t.most≠(0,1)) (he:∀t∈us,Ed s t) (nd:(us.map (·.bg)).Nodup) (ch:us.map (·.bg)++[c]=l0 :: us.map (·.en)) (hj:(us.map (·.bg))[j]?=some c):j6 ts (ks.drop j) (us.drop j):=by
 have lj:j<us.length:=by have:=(List.getElem?_eq_some_iff.mp hj).1;rwa [List.length_map] at this
 have lk:ks.length=us.length:=by have:=congrArg List.length h1;simpa using this
 have memT:∀t∈us,t∈ts:=fun t ht=>by
  have:some t∈ks.map (fun k=>ts[k]?):=by rw [h1];exact List.mem_map_of_mem ht
  obtain ⟨k,_,hk⟩:=List.mem_map.mp this
  exact List.mem_of_getElem? hk
 have sub:∀t∈us.drop j,t∈us:=fun t ht=>List.mem_of_mem_drop ht
 have ch2:(us.drop j).map (·.bg)++[c]=c :: (us.drop j).map (·.en):=by
  have e:=congrArg (List.drop j) ch
  rw [List.drop_append_of_le_length (by rw [List.length_map];trivial)] at e
  rw [List.map_drop,e]
  cases j with
  | zero=>
   cases us with
   | nil=>simp at lj
   | cons t r=>
    simp at hj ch
    simp [←ch.1,hj]
  | succ m=>
   rw [List.drop_succ_cons,List.map_drop]
   have hm:m<(us.map (·.en)).length:=by rw [List.length_map];trivial
   rw [List.drop_eq_getElem_cons hm]
   have:(us.map (·.en))[m]?=some c:=by
    have e2:=congrArg (fun z=>z[m+1]?) ch
    simp only [List.getElem?_cons_succ] at e2
    rw [←e2,List.getElem?_append_left (by rw [List.length_map];exact lj)]
    exact hj
   rw [(List.getElem?_eq_some_iff.mp this).2]
 obtain ⟨t0,r0,e0⟩:bh fun t r=>us.drop j=t :: r:=by
  cases e:us.drop j with
  | nil=>have:=congrArg List.length e;simp at this;trivial
  | cons t r=>exact ⟨t,r,rfl⟩
 have al:=Ac ch2 (fun t ht=>he t (sub t ht)) (by rw [e0];simp)
 have hc:c∈ls:=by
  obtain ⟨t,ht,rfl⟩:=List.mem_map.mp (List.mem_of_getElem? hj)
  exact (tc t (memT t ht)).b
 have up:0<uW s c:=i9 (pos c hc).1 (pos c hc).2
 have gain:1<b8 (us.drop j):=by
  rcases al.2 with z | z
  ·apply Rat.not_le.mp
   intro w
   have:=Rat.mul_le_mul_of_nonneg_right w (Rat.le_of_lt up)
   rw [Rat.one_mul] at this
   exact absurd z (Rat.not_lt.mpr this)
  ·trivial
 have rot:(us.drop j).map (·.en)=((us.drop j).map (·.bg)).drop 1++((us.drop j).map (·.bg)).take 1:=by
  rw [e0] at ch2 ⊢
  simp only [List.map_cons,List.cons_append,List.cons.injEq] at ch2
  simp only [List.map_cons,List.drop_succ_cons,List.drop_zero,List.take_succ_cons,List.take_zero]
  rw [←ch2.2,ch2.1]
 refine ⟨by rw [List.map_drop,h1,List.map_drop],fun t ht=>ho t (sub t ht),?_,?_,rot,gain⟩
 ·rw [List.length_drop,lk]
  have:(us.drop j).length=us.length - j:=List.length_drop ..
  rw [←this]
  cases r0 with
  | nil=>
   rw [e0] at rot
   simp at rot
   exact absurd rot.symm (tc t0 (memT t0 (sub t0 (by rw [e0];simp)))).ne
  | cons t1 r1=>rw [e0];simp
 ·rw [List.map_drop]
  exact List.Sublist.nodup (List.drop_sublist _ _) nd
theorem rW {ls:List (List Nat)}{u:List Nat→Rat} (pos:∀l∈ls,0<u l) {c:List Nat}:∀{us:List aj}{a:List Nat},us.map (·.bg)++[c]=a :: us.map (·.en)→(∀t∈us,lX ls t∧gR t*u t.en≤u t.bg)→b8 us*u c≤u a
 | [],a,e,_=>by
  simp at e
  rw [e]
  show (1:Rat)*u a≤u a
  rw [Rat.one_mul]
  exact Rat.le_refl
 | t :: r,a,e,h=>by
  simp only [List.map_cons,List.cons_append,List.cons.injEq] at e
  obtain ⟨rfl,e⟩:=e
  obtain ⟨ht,hh⟩:=h t (List.mem_cons_self ..)
  have ih:=rW pos e fun x hx=>h x (List.mem_cons_of_mem _ hx)
  have g0:0<gR t:=i9 ht.g1 ht.g2
  have m:=KM.mul_le_l ih (Rat.le_of_lt g0)
  have ea:gR t*(b8 r*u c)=b8 (t :: r)*u c:=(Rat.mul_assoc _ _ _).symm
  rw [ea] at m
  exact Rat.le_trans m hh
end L2
namespace L2
open PySem PySem.Spec PyProof.Rows
section
variable {prog:Program}{w:World}{A:Around}{E:Value→Shared→Prop}{hp:Heap}{gs:Array GenState}{dr:Drawn}{tk:Nat}{os:OsState}
variable {nm qn:Str}{C N:Addr}{bs bm bB:List Value}{hd:Bool}{sn:List Str}{sb:List Value}{ab:Bool}{cl:Option Bool}{dd:Option Addr}{k0 k1 k2 k3 k5:Option Value}{B nw ni:String}
end
end L2
namespace L2
open PySem PySem.Spec PyProof.Rows PySem.W
section
variable {prog:Program}{w:World}{A:Around}{E:Value→Shared→Prop}{s:Shared}{K:Frag}{x C:Addr}{ox:Obj}{od:Option Obj}{name:Str}{fill expr:Bool}
abbrev FJ (K:Frag) (C:Addr):Bool:=findIn K (.ref C) "__getattribute__" == some (some (.builtin "BaseException.__getattribute__")) && findIn K (.ref C) "__getattr__" == some none && mroIn K C (.type "BaseException")==some true
abbrev Fw (K:Frag) (C:Addr):Bool:=FJ K C && (clsIn K C).isSome && findIn K (.ref C) "__class__" == some (some (.builtin "object.__class__")) && specialIn K (.builtin "object.__class__") "__get__" == some (some (.builtin "getset_descriptor.__get__")) && takesIn K (.builtin "object.__class__")==some true && mroIn K C (.type "object")==some true
end
end L2
namespace L2
open PySem PySem.Spec PyProof.Rows PySem.W PySem.Builtin.ObjectAttr
section
variable {prog:Program}{w:World}{A:Around}{E:Value→Shared→Prop}{s:Shared}{K:Frag}{x C:Addr}{ox:Obj}{name:Str}{v:Value}
end
abbrev zV:List Value:=[.type "ValueError",.type "Exception",.type "BaseException",.type "object"]
def yB (d:Data):Option ClassData:=match d with
 | .cls cd=>some cd
 | _=>none
theorem A5 {d:Data}{cd:ClassData} (h:yB d=some cd):d=.cls cd:=by
 cases d with
 | cls c=>cases h;rfl
 | _=>cases h
theorem FI {α:Type}{ls:List α} (h:ls.length=6):uc fun a b c d e f=>ls=[a,b,c,d,e,f]:=by
 match ls,h with
 | [a,b,c,d,e,f],_=>exact ⟨a,b,c,d,e,f,rfl⟩
theorem FM {α:Type}{sl:Array α}{x:α} (h:sl.size=6) (k:sl[4]?=some x):xu fun a b c d f=>sl=#[a,b,c,d,x,f]:=by
 obtain ⟨l⟩:=sl
 obtain ⟨a,b,c,d,e,f,rfl⟩:=FI (show l.length=6 from h)
 obtain rfl:e=x:=Option.some.inj k
 exact ⟨a,b,c,d,f,rfl⟩
def il (K:Frag) (C:Addr) (ini:Option Value):Bool:=match K.lookup C with
 | none=>false
 | some o=>match yB o.data with
  | none=>false
  | some cd=>(o.cls==.type "type") && ((cd.mro.head?==some (.ref C)) && (!cd.hasDel && (tailIn K zV cd.mro.tail && (nsOkIn K cd.ns && (nsIn K cd.ns "__init__" == some ini && (o.slots.size==6 && o.slots[4]?==some (some (.builtin "ValueError.__new__"))))))))
theorem C9 {K:Frag}{h:Heap}{N:Addr}{mp:Str→Option Value}{n:Str}{v:Value} (X:K.In h) (G:h.Ns N mp) (e:nsIn K N n=some (some v)):mp n=some v:=by
 obtain ⟨ob,es,ep,ho,hd,_,f⟩:=G
 unfold nsIn at e
 split at e
 ·rename_i q
  have z:=X _ _ q
  rw [ho] at z
  cases z
  cases hd
  split at e
  ·rename_i he
   cases e
   rw [←f]
   unfold nsFind findBy
   rw [←Array.find?_toList,he];rfl
  ·split at e <;> cases e
 ·cases e
theorem zS {K:Frag}{h:Heap}{C:Addr}{ini:Option Value} (X:K.In h) (q:il K C ini=true):∃nm qn N bs bm hd sn sb ab cl dd k0 k1 k2 k3 k5 mN,
 h.get? C=some (excClassObj nm qn C N bs bm hd sn sb ab cl dd k0 k1 k2 k3 k5 "ValueError.__new__")∧h.Ns N mN∧OwnTail h zV bm∧mN "__init__" = ini:=by
 unfold il at q
 cases ho:K.lookup C with
 | none=>rw [ho] at q;cases q
 | some o=>
  rw [ho] at q
  dsimp only at q
  cases hc:yB o.data with
  | none=>rw [hc] at q;cases q
  | some cd=>
   rw [hc] at q
   dsimp only at q
   rw [Bool.and_eq_true,Bool.and_eq_true,Bool.and_eq_true,Bool.and_eq_true,Bool.and_eq_true,Bool.and_eq_true,Bool.and_eq_true,beq_iff_eq,beq_iff_eq,beq_iff_eq,beq_iff_eq,beq_iff_eq,Bool.not_eq_true'] at q
   obtain ⟨q1,q2,dl,tl,ok,hi,z1,z2⟩:=q
   obtain ⟨k0,k1,k2,k3,k5,e6⟩:=FM z1 z2
   have ed:=A5 hc
   obtain ⟨oc,dd,od,sl⟩:=o
   dsimp only at q1 ed e6
   subst q1 ed e6
   obtain ⟨nm,bs,mro,ns,qn,hd,sn,sub,ab,col,del⟩:=cd
   dsimp only at q2 dl tl ok hi
   subst dl
   cases mro with
   | nil=>cases q2
   | cons m bm=>
    obtain rfl:m=.ref C:=Option.some.inj q2
    have nm1:h.Ns ns (h.nsMap ns):=.of_isNs (isNs_of_in X ok)
    refine ⟨nm,qn,ns,bs,bm,hd,sn,sub,ab,col,dd,k0,k1,k2,k3,k5,_,X _ _ ho,nm1,tail_of_in X tl,?_⟩
    cases ini with
    | none=>exact nsMap_none_of_in X ok hi
    | some v=>exact C9 X nm1 hi
section
variable {prog:Program}{w:World}{A:Around}{E:Value→Shared→Prop}{s:Shared}{K:Frag}{x C:Addr}{ox:Obj}{od:Option Obj}{a0:Value}
end
end L2
namespace L2
open PySem PySem.Spec PyProof.Rows
theorem aW.there {P:Program}{w:World}{H:Hp}{h:Heap}{a:Addr}{o:HO} (x:aW P w H h a o):∃u,h.get? a=some u:=by
 cases o with
 | lst xs=>obtain ⟨_,_,_,_,e⟩:=x;exact ⟨_,e⟩
 | tup xs=>obtain ⟨_,_,_,⟨_,e,_⟩,_⟩:=x;exact ⟨_,e⟩
 | dK kvs=>obtain ⟨_,_,_,_,o,_,_,e,_⟩:=x;exact ⟨_,e⟩
 | dT kvs=>obtain ⟨_,_,_,_,o,_,_,e,_⟩:=x;exact ⟨_,e⟩
 | set S n=>obtain ⟨o,_,_,_,e,_⟩:=x;exact ⟨_,e⟩
 | ins C dx fs=>obtain ⟨_,_,_,e,_⟩:=x;exact ⟨_,e⟩
 | own y=>obtain ⟨_,e⟩:=x;exact ⟨_,e⟩
 | xd fs=>obtain ⟨_,⟨_,_,_,e,_⟩,_⟩:=x;exact ⟨_,e⟩
 | rng lo hi=>obtain ⟨_,_,_,e⟩:=x;exact ⟨_,e⟩
 | frz ob u=>obtain ⟨e,_⟩:=x;exact ⟨_,e⟩
 | tbl ps=>exact ⟨_,show h.get? a=some _ from x⟩
 | met f y=>exact ⟨_,show h.get? a=some _ from x⟩
 | ext φ=>obtain ⟨_,e,_⟩:=x;exact e
theorem cN.none' {P:Program}{w:World}{H:Hp}{h:Heap}{a:Addr} (x:cN P w H h) (e:h.get? a=none):H a=none:=by
 cases q:H a with
 | none=>rfl
 | some u=>obtain ⟨o,z⟩:=(x a u q).there;rw [e] at z;cases z
section
variable {X:Cx}{pins:List (Addr×Obj)}{σ:St}{H:Hp}{s:Shared}{h':Heap}
theorem ac.laidN {a:Addr}{o:HO}{t':Nat} (I:ac X pins σ H s) (k:∀b u,s.heap.get? b=some u→h'.get? b=some u) (hn:s.heap.get? a=none) (new:aW X.prog X.w (aC H a o) h' a o) :
 ac X pins σ (aC H a o) { s with heap:=h',toks:=t' }:=by
 have hH:=I.hok.none' hn
 have ne:∀{b:Addr}{u:HO},H b=some u→b≠a:=fun q z=>by rw [z,hH] at q;cases q
 refine I.un ⟨fun b u q _ _ _=>k b u q,fun b u q _ _ _=>⟨u.slots,k b u q⟩,fun b u q n _=>?_,fun b u q _=>⟨u,k b u q⟩,fun b xs q=>?_,fun b u xs q=>?_,fun b ps q=>⟨#[],?_⟩⟩ fun b u e=>?_
 ·rw [ag (fun z=>by rw [z,hn] at q;cases q)];exact n
 ·rw [ag (ne q)];exact q
 ·rw [ag (ne q)];exact q
 ·rw [ag (ne q),q];simp
 ·by_cases hb:b=a
  ·subst hb;rw [aD] at e;cases e;exact new
  ·rw [ag hb] at e
   exact (I.hok b u e).stay (fun c v _ q=>k c v q) (fun c q=>by rw [ag (ne q)];exact q) fun c xs q=>by rw [ag (ne q)];exact q
end
def yp (x C:Addr) (dx:Option Addr) (h:Heap):Prop:=bh fun a0 sl=>h.get? x=some ⟨.ref C,dx,.fields #[a0,.none,.none,.none,.bool false,.none],sl⟩
def lC (x C:Addr) (dx:Option Addr):HO:=.ext (yp x C dx)
theorem AQ {P:Program}{w:World}{H:Hp}{h:Heap}{x C:Addr}{dx:Option Addr} (e:yp x C dx h):aW P w H h x (lC x C dx):=
 ⟨e,let ⟨_,_,q⟩:=e;⟨_,q⟩,fun h1 h2 ⟨a0,sl,q⟩ k=>⟨a0,sl,k _ q⟩⟩
theorem u7 {P:Program}{w:World}{H:Hp}{h:Heap}{x C:Addr}{dx:Option Addr} (ok:cN P w H h) (e:H x=some (lC x C dx)):yp x C dx h:=(ok x _ e).1
section
variable {X:Cx}{C f:Addr}{x:Str}{p pos:Pos}{e:Expr}{es:List Expr}{t:TA}{k:Nat}{fd:FuncData}{ps:List Str}{sp:Sp}{E:XK}
def En (C:Addr) (t:TA):TE:=fun σ H Q=>t σ H fun vs H1=>vs.length≤10000∧∀y H',Nw H1 y (lC y C none) H'→Q (.ref y) H'
theorem yA {pins:List (Addr×Obj)}{σ:St}{H:Hp}{s:Shared}{Q:VK}{us:List Value}{vs:List V} (q:il X.K C none=true) (I:ac X pins σ H s) (r:ar vs us) (hl:vs.length≤10000)
 (h:∀y H',Nw H y (lC y C none) H'→Q (.ref y) H'):wpAny (model X.prog X.w) X.A (call (.ref C) us) (EP X pins σ Q) X.xe s:=by
 obtain ⟨nm,qn,N,bs,bm,hd,sn,sb,ab,cl,dd,k0,k1,k2,k3,k5,mN,eC,eN,T,eI⟩:=zS I.kIn q
 have FB:=PySem.F.excBase_ValueError
 obtain ⟨hp,gs,dr,tk,os⟩:=s
 refine wpAny_call_exc_subT FB T eC eN eI (fun h1 y m=>?_) (by rw [←r.length];exact gZ hl)
 obtain ⟨a0,e1,_,_⟩:=m.there
 exact ⟨.ref y,_,I.laidN (t':=tk) m.keeps m.new (AQ ⟨_,_,e1⟩),rfl,h y _ (.mk' (I.hok.none' m.new))⟩
theorem lP (q:il X.K C none=true) (kp:PySem.W.keepIn X.K (.ref C)=true) (hg:Gl X x) (hm:X.mg x=some (.ref C)) (ha:PA X (e :: es) t) (hdb:(x==("__debug__" : Str))=false:=by decide)
 (he:starEach (e :: es) X.env=(false,eval e X.env) :: starEach es X.env:=by rfl) (hpl:(backTo pos (starEach es X.env)).any (·.1)=false:=by rfl):PE X (.Call (.Name x p) (e :: es) [] pos) (En C t):=by
 intro pins s σ H Q I h
 refine wpAny_Call_Name_kw (rs I hg hm ?_ hdb)
 exact PySem.W.callWith_K (h₀:=X.base) I.ok.mod.kin kp (aH (ha pos pins s σ H _ I h) fun us s1 ⟨vs,H1,I1,r,hl,q1⟩=>⟨I1.kIn,yA q I1 r hl q1⟩) he hpl
theorem yE {H:Hp}{a:Addr}{o:HO} (h:H a=some o):aC H a o=H:=by
 funext b
 unfold aC
 split
 ·rename_i z;rw [z,h]
 ·rfl
abbrev Cn (K:PySem.W.Frag) (B:Addr):Bool:=PySem.W.specialIn K (.ref B) "__getattribute__" == some (some (.builtin "type.__getattribute__")) && PySem.W.readsIn K B (.type "type") && (match PySem.W.findCls K (.ref B) (.type "type") "__init__" with | some (.val v)=>v==.builtin "ValueError.__init__" | _=>false)
end
theorem lH:bootBuiltins "repr" = some (.builtin "repr"):=by nofun
def fZ:Stmt→Nat→Stmt
 | .ClassDef _ _ _ body _ _ _ _ _ _ _,j=>body.getD j (.Pass ⟨0,0,0,0⟩)
 | _,_=>.Pass ⟨0,0,0,0⟩
def zX (K:PySem.W.Frag) (cs:List Addr) (g:Addr):Bool:=decide cs.Nodup && cs.all fun c=>Fw K c && (PySem.W.kitOne K (.ref c) (.ref g)==some true && (PySem.W.kitOne K (.ref c) (.type "ValueError")==some true && cs.all fun d=>PySem.W.kitOne K (.ref c) (.ref d)==some (decide (c=d))))
section
variable {X:Cx}
theorem mD {k:Nat} (hr:bR k X.A):cE X (.builtin "repr") Eg:=by
 intro pins s σ H xs us Q I r h
 obtain ⟨a,d,E,n,k,rfl,hd,w,hn,hk,q⟩:=h
 obtain ⟨u,rfl,ru⟩:=r.one
 obtain rfl:u=.ref a:=ru
 obtain ⟨as,rr⟩:=hd.reads I.hok (u:=.ref a) rfl
 refine repr_of_reads' rr w.sho (PyData.noDict_hsm w.nod) hr.gd (by have:=hr.units;have:=w.dep;trivial) (fun _ _ e=>e) (fun h' u tk hk=>?_) (by have:=w.len;rw [sizeLine_eq];trivial)
 exact ⟨.str _,H,I.kept hk,⟨()⟩,q⟩
end
def mX (h:Heap) (a T:Addr) (C:Value) (dx:Option Addr) (fl:Value):Prop:=
 kz fun vs sl oT ts=>h.get? a=some ⟨C,dx,.fields vs,sl⟩∧vs[1]?=some (.ref T)∧T≠a∧h.get? T=some oT∧oT.data=.fields ts∧ts[3]?=some fl
def Kp (h h':Heap) (bad fs:List Addr):Prop:=∀b o,b∉bad→h.get? b=some o→(∃sl,h'.get? b=some { o with slots:=sl })∧(b∉fs→h'.get? b=some o)
def Di (head:Value) (L:Addr) (pl:List Value):Obj:={ cls:=.type "traceback",dict:=none,data:=.fields ([head,.ref L,.none,rawInt L,.none]++(if pl.isEmpty then List.replicate 6 Value.none else pl)).toArray }
section
variable {M:Model}{A:Around}{E:Value→Shared→Prop}{s:Shared}{base:Heap}{env:Env}{outer:List Env}{L a T:Addr}{C head:Value}{dx:Option Addr}{vs:Array Value}{sl:Array (Option Value)}{hn:Bool}{Q:Unit→Shared→Prop}
theorem rX (hfr:A.frames=some (env :: outer)) (hl:s.heap.FunFrames base (env :: outer)) (hf:env.frame=some L) (he:s.heap.get? a=some ⟨C,dx,.fields vs,sl⟩) (hz:1<vs.size)
 (h:∀h' T,mX h' a T C dx (rawInt L)→T=s.heap.objs.size→Kp s.heap h' [a] (gT (env :: outer))→Q () { s with heap:=h' }) :
 wpAny M A (do let f ←frameOf env;let pl ←entryPlaceOf L hn;let b ←EntryCells.newEntry head f .none (rawInt L) .none pl;setField (.ref a) 1 b) Q E s:=by
 have na:a∉gT (env :: outer):=fun z=>by
  obtain ⟨_,o,ho,q⟩:=hl.mem z
  rw [he] at ho
  cases ho
  exact q vs rfl
 refine wpAny_bind (wpAny_frameOf_fun hfr hl hf fun h1 s1=>wpAny_bind (wpAny_entryPlaceOf fun pl hp=>?_))
 have e1:h1.get? a=some ⟨C,dx,.fields vs,sl⟩:=(s1.2.1 a na).trans he
 unfold EntryCells.newEntry newFields
 refine wpAny_bind (wpAny_newObj_type ?_ (hp.sizeOk5 _ _ _ _ _))
 show wpAny M A (setField (.ref a) 1 (.ref h1.objs.size)) Q E { s with heap:=h1.push (Di head L pl) }
 have e2:=Heap.get?_push_of_some (h:=h1) (Di head L pl) e1
 have nT:h1.objs.size≠a:=Nat.ne_of_gt (Heap.lt_size e1)
 refine wpAny_setField e2 rfl hz (h _ h1.objs.size ⟨vs.setIfInBounds 1 (.ref h1.objs.size),sl,Di head L pl,_,?_,?_,nT,?_,rfl,?_⟩ s1.1 fun b o nb hb=>?_)
 ·exact Heap.get?_update_self _ e2 rfl
 ·simp [hz]
 ·rw [Heap.get?_update_other _ _ (Ne.symm nT)]
  exact Heap.get?_push_size h1 rfl
 ·rw [List.getElem?_toArray,List.getElem?_append_left (by show 3<5;decide)]
  rfl
 ·have nb':a≠b:=fun z=>nb (by simp [z])
  obtain ⟨sl',q⟩:=s1.2.2 b o hb
  refine ⟨⟨sl',?_⟩,fun nf=>?_⟩
  ·rw [Heap.get?_update_other _ _ nb']
   exact Heap.get?_push_of_some _ q
  ·rw [Heap.get?_update_other _ _ nb']
   exact Heap.get?_push_of_some _ ((s1.2.1 b nf).trans hb)
theorem wA (hfr:A.frames=some (env :: outer)) (hl:s.heap.FunFrames base (env :: outer)) (hf:env.frame=some L) (he:s.heap.get? a=some ⟨C,dx,.fields vs,sl⟩) (h1:vs[1]?=some .none)
 (h:∀h' T,mX h' a T C dx (rawInt L)→T=s.heap.objs.size→Kp s.heap h' [a] (gT (env :: outer))→Q () { s with heap:=h' }):wpAny M A (noteFrame (.ref a) env) Q E s:=by
 unfold noteFrame
 simp only [hf]
 refine wpAny_bind (wpAny_field he rfl h1 ?_)
 rw [if_neg (by decide)]
 exact rX hfr hl hf he (Array.getElem?_eq_some_iff.mp h1).1 h
theorem xF (hfr:A.frames=some (env :: outer)) (hl:s.heap.FunFrames base (env :: outer)) (hf:env.frame=some L) (ht:mX s.heap a T C dx .none)
 (h:∀h' T',mX h' a T' C dx (rawInt L)→T'=s.heap.objs.size→Kp s.heap h' [a,T] (gT (env :: outer))→Q () { s with heap:=h' }):wpAny M A (noteFrame (.ref a) env) Q E s:=by
 obtain ⟨vs,sl,oT,ts,he,h1,ne,hT,hd,h3⟩:=ht
 unfold noteFrame
 simp only [hf]
 refine wpAny_bind (wpAny_field he rfl h1 ?_)
 rw [if_pos (show (Value.ref T != Value.none)=true by simp)]
 refine wpAny_bind (wpAny_field hT hd h3 ?_)
 rw [if_neg (show ¬((Value.none==rawInt L)=true) by simp [rawInt])]
 refine wpAny_bind (wpAny_setField hT hd (Array.getElem?_eq_some_iff.mp h3).1 ?_)
 have ot:∀b,b≠T→(s.heap.update T (Obj.mapFields (·.setIfInBounds 3 Value.none))).get? b=s.heap.get? b:=fun b nb=>Heap.get?_update_other _ _ (Ne.symm nb)
 have nr:∀b o,s.heap.get? b=some o→(∀vs,o.data≠.fields vs)→b≠T:=fun b o hb q z=>by
  rw [z,hT] at hb
  cases hb
  exact q ts hd
 refine rX hfr (hl.of_keeps fun b o hb q=>⟨o,(ot b (nr b o hb q)).trans hb,rfl⟩) hf ((ot a (Ne.symm ne)).trans he) (Array.getElem?_eq_some_iff.mp h1).1 fun h' T' t z k=>h h' T' t (z.trans (Heap.size_after_update ..)) fun b o nb hb=>?_
 have n1:b∉[a]:=fun z=>nb (by simp [List.mem_singleton.mp z])
 have n2:b≠T:=fun z=>nb (by simp [z])
 exact k b o n1 ((ot b n2).trans hb)
theorem vB {fl:Value} (ht:mX s.heap a T C dx fl) (h:∀h',mX h' a T C dx .none→Kp s.heap h' [T] []→Q () { s with heap:=h' }):wpAny M A (setFlight (.ref a) none) Q E s:=by
 obtain ⟨vs,sl,oT,ts,he,h1,ne,hT,hd,h3⟩:=ht
 unfold setFlight
 refine wpAny_bind (wpAny_field he rfl h1 ?_)
 rw [if_pos (show (Value.ref T != Value.none)=true by simp)]
 have z3:=(Array.getElem?_eq_some_iff.mp h3).1
 have dT:=Obj.data_mapFields hd (·.setIfInBounds 3 Value.none)
 refine wpAny_setField hT hd z3 (h _ ⟨vs,sl,_,_,?_,h1,ne,Heap.get?_update_self _ hT (Obj.isFreed_of_fields dT),dT,by simp [z3]⟩ fun b o nb hb=>?_)
 ·exact (Heap.get?_update_other _ _ ne).trans he
 ·have nb':T≠b:=fun z=>nb (by simp [z])
  have q:=(Heap.get?_update_other s.heap (Obj.mapFields (·.setIfInBounds 3 ((none:Option Addr).elim Value.none fun f=>rawInt f))) nb').trans hb
  exact ⟨⟨o.slots,q⟩,fun _=>q⟩
theorem Kp.trans0 {h h1 h2:Heap}{bad fs:List Addr}{T:Addr} (k:Kp h h1 bad fs) (k2:Kp h1 h2 [T] []) (n:h.objs.size≤T):Kp h h2 bad fs:=fun b o nb hb=>by
 have nT:b∉[T]:=fun z=>by
  have q:=Heap.lt_size hb
  rw [List.mem_singleton.mp z] at q
  exact absurd q (Nat.not_lt.mpr n)
 obtain ⟨⟨sl,q1⟩,q2⟩:=k b o nb hb
 exact ⟨⟨sl,(k2 b _ nT q1).2 (by simp)⟩,fun nf=>(k2 b _ nT (q2 nf)).2 (by simp)⟩
theorem uI (hfr:A.frames=some (env :: outer)) (hl:s.heap.FunFrames base (env :: outer)) (hf:env.frame=some L) (he:s.heap.get? a=some ⟨C,dx,.fields vs,sl⟩) (h1:vs[1]?=some .none)
 (h:∀h' T,mX h' a T C dx .none→T=s.heap.objs.size→Kp s.heap h' [a] (gT (env :: outer))→Q () { s with heap:=h' }):wpAny M A (leaving env (.ref a)) Q E s:=by
 unfold leaving
 exact wpAny_bind (wA hfr hl hf he h1 fun h' T t z k=>vB t fun h2 t2 k2=>h h2 T t2 z (k.trans0 k2 (Nat.le_of_eq z.symm)))
theorem wc (hfr:A.frames=some (env :: outer)) (hl:s.heap.FunFrames base (env :: outer)) (hf:env.frame=some L) (ht:mX s.heap a T C dx .none)
 (h:∀h' T',mX h' a T' C dx .none→T'=s.heap.objs.size→Kp s.heap h' [a,T] (gT (env :: outer))→Q () { s with heap:=h' }):wpAny M A (leaving env (.ref a)) Q E s:=by
 unfold leaving
 exact wpAny_bind (xF hfr hl hf ht fun h' T t z k=>vB t fun h2 t2 k2=>h h2 T t2 z (k.trans0 k2 (Nat.le_of_eq z.symm)))
end
def pK (x C:Addr) (dx:Option Addr):HO:=.ext fun h=>bh fun vs sl=>h.get? x=some ⟨.ref C,dx,.fields vs,sl⟩
theorem Bm {P:Program}{w:World}{H:Hp}{h:Heap}{x C:Addr}{dx:Option Addr} (e:bh fun vs sl=>h.get? x=some ⟨.ref C,dx,.fields vs,sl⟩):aW P w H h x (pK x C dx):=
 ⟨e,let ⟨_,_,q⟩:=e;⟨_,q⟩,fun h1 h2 ⟨vs,sl,q⟩ k=>⟨vs,sl,k _ q⟩⟩
theorem Ao {fs ch:List Addr}{H:Hp}{h h':Heap}{a:Addr}{φ:Heap→Prop}{o:HO} (ea:H a=some (.ext φ)) (k:Kp h h' (a :: ch) fs) (th:∃u,h'.get? a=some u):Un fs ch H (aC H a o) h h':=by
 have ne:∀{b:Addr},H b=none→b≠a:=fun q z=>by rw [z,ea] at q;cases q
 have nc:∀{b:Addr},b≠a→b∉ch→b∉a :: ch:=fun n1 n2 z=>(List.mem_cons.mp z).elim n1 n2
 refine ⟨fun b u q n f x=>(k b u (nc (ne n) x) q).2 f,fun b u q n _ x=>(k b u (nc (ne n) x) q).1,fun b u q n _=>by rw [ag (ne n)];exact n,fun b u q x=>?_,fun b xs q=>?_,fun b u xs q=>?_,fun b ps q=>⟨#[],?_⟩⟩
 ·by_cases e:b=a
  ·rw [e];exact th
  ·obtain ⟨⟨sl,z⟩,_⟩:=k b u (nc e x) q
   exact ⟨_,z⟩
 ·rw [ag (fun z=>by rw [z,ea] at q;cases q)];exact q
 ·rw [ag (fun z=>by rw [z,ea] at q;cases q)];exact q
 ·rw [ag (fun z=>by rw [z,ea] at q;cases q),q];simp
theorem yM {P:Program}{w:World}{fs ch:List Addr}{H:Hp}{h h':Heap}{a:Addr}{φ:Heap→Prop}{o:HO} (ok:cN P w H h) (ea:H a=some (.ext φ)) (k:Kp h h' (a :: ch) fs) (ff:∀b∈fs,H b=none) (fc:∀b∈ch,H b=none)
 (nw:aW P w (aC H a o) h' a o):cN P w (aC H a o) h':=fun b u e=>by
 by_cases hb:b=a
 ·subst hb
  rw [aD] at e
  cases e
  exact nw
 ·rw [ag hb] at e
  refine (ok b u e).stay (fun c v cd q=>?_) (fun c q=>?_) fun c xs q=>?_
  ·have hc:H c≠none∧c≠a:=by
    rcases cd with rfl | cd
    ·exact ⟨by rw [e];simp,hb⟩
    ·exact ⟨by rw [cd];simp,fun z=>by rw [z,ea] at cd;cases cd⟩
   exact (k c v (fun z=>(List.mem_cons.mp z).elim hc.2 fun z=>hc.1 (fc c z)) q).2 fun z=>hc.1 (ff c z)
  ·rw [ag (fun z=>by rw [z,ea] at q;cases q)];exact q
  ·rw [ag (fun z=>by rw [z,ea] at q;cases q)];exact q
section
variable {X:Cx}{pins:List (Addr×Obj)}{σ:St}{H:Hp}{s:Shared}{h':Heap}{a T C:Addr}{dx:Option Addr}{φ:Heap→Prop}{ch:List Addr}{fl:Value}
theorem mX.there (t:mX h' a T (.ref C) dx fl):bh fun vs sl=>h'.get? a=some ⟨.ref C,dx,.fields vs,sl⟩:=let ⟨vs,sl,_,_,e,_⟩:=t;⟨vs,sl,e⟩
theorem ac.noted (I:ac X pins σ H s) (ea:H a=some (.ext φ)) (k:Kp s.heap h' (a :: ch) (gT X.stack)) (t:bh fun vs sl=>h'.get? a=some ⟨.ref C,dx,.fields vs,sl⟩) (fc:∀b∈ch,H b=none)
 (hch:∀b∈ch,(b∈X.ex∨X.s₀.heap.objs.size≤b)∧b≠X.env.locals∧(∀x c,X.env.cells.lookup x=some c→c≠b)∧∀p∈X.pn++pins,p.1≠b):ac X pins σ (aC H a (pK a C dx)) { s with heap:=h' }:=
 I.call' (ch:=ch) rfl (Ao ea k (let ⟨_,_,e⟩:=t;⟨_,e⟩)) (yM I.hok ea k I.stkFree fc (Bm t)) I.bare hch
theorem ac.far (I:ac X pins σ H s) (n:s.heap.objs.size≤T):(T∈X.ex∨X.s₀.heap.objs.size≤T)∧T≠X.env.locals∧(∀x c,X.env.cells.lookup x=some c→c≠T)∧∀p∈X.pn++pins,p.1≠T:=by
 have lt:∀{b:Addr}{u:Obj},s.heap.get? b=some u→b≠T:=fun q z=>by
  have q':=Heap.lt_size q
  rw [z] at q'
  exact absurd q' (Nat.not_lt.mpr n)
 refine ⟨.inr (Nat.le_trans I.sz n),?_,fun x c e=>?_,fun p hp=>lt (I.pin p hp).1⟩
 ·obtain ⟨m,⟨o,es,ep,ho,_⟩,_⟩:=I.loc
  exact Ne.symm (lt ho)
 ·obtain ⟨v,q⟩:=I.cell x c e
  obtain ⟨o,ho,_⟩:=q
  exact lt ho
end
def jK (P:Program) (w:World):jx:=fun outer H s E e s'=>xu fun a T C dx H'=>e=.ref a∧s'.os=s.os∧AllBare s'.gens∧Un (gT outer) [] H H' s.heap s'.heap∧cN P w H' s'.heap∧mX s'.heap a T (.ref C) dx .none∧s.heap.objs.size≤T∧H' T=none∧H' a=some (pK a C dx)∧E (.ref C) dx H'
def wT (X:Cx) (E:XK):Prop:=∀pins σ H s a C dx,ac X pins σ H s→H a=some (lC a C dx)→E (.ref C) dx (aC H a (pK a C dx))→X.xe (.ref a) s
section
variable {P:Program}{w:World}{K:PySem.W.Frag}{mg:Str→Option Value}{base:Heap}{N:List Str}{qual:Str}{scope:Scope}{f:Addr}{cd:Value}{A:Around}{outer:List Env}{s:Shared}{H:Hp}{E:XK}
theorem my:gQ (jK P w) (mM (jK P w) P w K mg base N qual scope f cd A outer s H E) E:=by
 intro pins σ H1 s1 e s2 I h
 obtain ⟨a,T,C,dx,H',rfl,os,bare,un,hok,t,n,hT,ha,hE⟩:=h
 have J:=I.call' (ch:=[]) os un hok bare (fun b z=>by cases z)
 have far:=I.far n
 refine wc (L:=s.heap.objs.size) J.ok.frames J.stack rfl t fun h' T' t' z k=>?_
 have J2:=J.noted ha (ch:=[T]) k t'.there (fun b hb=>by rw [List.mem_singleton.mp hb];exact hT) (fun b hb=>by rw [List.mem_singleton.mp hb];exact far)
 rw [yE ha] at J2
 exact ⟨a,T',C,dx,H',rfl,J2.os,J2.bare,J2.base,J2.hok,t',by rw [z];exact J.sz,J.hok.fresh (by rw [z];exact Nat.le_refl _),ha,hE⟩
theorem lN:wT (mM (jK P w) P w K mg base N qual scope f cd A outer s H E) E:=by
 intro pins σ H1 s1 a C dx J ha hE
 obtain ⟨a0,sl,ea⟩:=u7 J.hok ha
 refine uI (L:=s.heap.objs.size) J.ok.frames J.stack rfl ea rfl fun h' T' t' z k=>?_
 have J2:=J.noted ha (ch:=[]) k t'.there (fun b hb=>by cases hb) (fun b hb=>by cases hb)
 have nT:H1 T'=none:=J.hok.fresh (by rw [z];exact Nat.le_refl _)
 exact ⟨a,T',C,dx,(),J2.os,J2.bare,J2.base,J2.hok,t',by rw [z];exact J.sz,by rw [ag (fun q=>by rw [q,ha] at nT;cases nT)];exact nT,aD,hE⟩
end
section
variable {M:Model}{A:Around}{E:Value→Shared→Prop}{s:Shared}{env:Env}
theorem wV {x:Sem Value}{Q:Flow→Shared→Prop} (hh:A.handled=none)
 (h:wpAny M A x (fun v s1=>∃e a0 dx sl nm q C N bs bm hd sn sb ab cl dd k0 k1 k2 k3 k5 nw,v=.ref e∧bm.contains (.type "BaseException")=true∧s1.heap.get? C=some (excClassObj nm q C N bs bm hd sn sb ab cl dd k0 k1 k2 k3 k5 nw)∧
  s1.heap.get? e=some ⟨.ref C,dx,.fields #[a0,.none,.none,.none,.bool false,.none],sl⟩∧E (.ref e) s1) E s):wpAny M A (raiseStmt env (some x) none) Q E s:=by
 unfold raiseStmt
 refine wpAny_bind (wpAny_mono h (fun v s1 h1=>?_) fun _ _ x=>x)
 obtain ⟨e,a0,dx,sl,nm,q,C,N,bs,bm,hd,sn,sb,ab,cl,dd,k0,k1,k2,k3,k5,nw,rfl,hb,hC,he,hE⟩:=h1
 have hcB:(Value.ref C :: bm).contains (.type "BaseException")=true:=by rw [List.contains_cons,hb,Bool.or_true]
 obtain ⟨hp,g,d,tk,os⟩:=s1
 repeat
  first
   | (with_reducible refine wpAny_isSubtype_exc hC ?_
      rw [hcB])
   | (with_reducible refine wpAny_loadPart_at hC ?_)
   | (with_reducible refine wpAny_loadPart_at he ?_)
   | wp_step
 exact wpAny_raiseNew_none hh hE
end
section
variable {X:Cx}{e:Expr}{te:TE}{pos:Pos}{E:XK}
def Cp (K:PySem.W.Frag) (E:XK) (te:TE):TS:=fun D σ H=>te σ H fun v H'=>kz fun a C dx ini=>v=.ref a∧H' a=some (lC a C dx)∧il K C ini=true∧E (.ref C) dx (aC H' a (pK a C dx))
theorem kK (hc:X.calm=true) (hx:wT X E) (he:PE X e te):PS X (.Raise (some e) none pos) (Cp X.K E te):=by
 intro pins s σ H D I h
 rw [arm_exec_Raise]
 refine wpAny_bind (wpAny_standAt ?_)
 show wpAny _ _ (raiseStmt X.env (some (do let v ←eval e X.env;standAt pos;pure v)) none) _ _ _
 refine wV (I.ok.hd hc) (wpAny_bind (aH (he pins s σ H _ I h) fun u s1 ⟨v,H1,I1,r,a,C,dx,ini,ev,ha,q,hE⟩=>wpAny_bind (wpAny_standAt (wpAny_pure ?_))))
 subst ev
 obtain rfl:u=Value.ref a:=r
 obtain ⟨nm,qn,N,bs,bm,hd,sn,sb,ab,cl,dd,k0,k1,k2,k3,k5,mN,eC,eN,T,_⟩:=zS I1.kIn q
 obtain ⟨a0,sl,ea⟩:=u7 I1.hok ha
 exact ⟨a,a0,dx,sl,nm,qn,C,N,bs,bm,hd,sn,sb,ab,cl,dd,k0,k1,k2,k3,k5,(),T.hasType (by decide),eC,ea,hx pins σ H1 s1 a C dx I1 ha hE⟩
theorem PS.nox {st:Stmt}{t:TS} (h:PS X.nox st t):PS X st t:=fun pins s σ H D I hw=>wpAny_mono (h pins s σ H D (I.wish _) hw) (fun _ _ q=>q.unwish) fun _ _ z=>False.elim z
theorem f9.okX {P:Program}{w:World}{K:PySem.W.Frag}{mg:Str→Option Value}{base:Heap}{x qual:Str}{st:Stmt}{f:Addr}{fd:FuncData}{N ps:List Str}{k:Nat}{sp:Sp} (F:f9 K x qual st f fd) (S:av N ps (ah st)) (len:∀vs H Q E,sp vs H Q E→vs.length=ps.length)
 (hbody:∀(cdv:Value) (A:Around) (outer:List Env) (s:Shared) (H:Hp) (vs:List V) (Q:VK) (E:XK),bR k (A.deeper (envOfC qual (ah st) s.heap.objs.size f cdv))→sp vs H Q E→
  ∃t,k9 (mM (jK P w) P w K mg base N qual (ah st) f cdv A outer s H E) (me st) t∧t { nx:=fun _ H'=>Q .non H',rt:=Q } (j5 N vs) H):aT P w K mg base (jK P w) (k+1) f fd ps sp:=by
 obtain ⟨oc,od,kV,doc,pm,an,cdv,ct,osl,rfl,lk,hcd⟩:=F.ex
 exact zR lk hcd S len fun A outer s H vs Q E hr hsp=>hbody cdv A outer s H vs Q E hr hsp
end
section
variable {X:Cx}{pins:List (Addr×Obj)}{σ σ':St}{H:Hp}{s:Shared}{h':Heap}
end
section
variable {X:Cx}{CX:jx}{k:Nat}{f:Addr}{fd:FuncData}{ps:List Str}{sp:Sp}{EE:St→XK}{x:Str}{p pos:Pos}{e:Expr}{es:List Expr}{t:TA}
end
section
variable {X:Cx}{pins pins' pn:List (Addr×Obj)}{σ:St}{H:Hp}{s:Shared}{xe:Value→Shared→Prop}
end
section
variable {X:Cx}{body suite:List Stmt}{b0:Stmt}{x n:Str}{hpos pos np:Pos}{tb:(St→XK)→TS}{th:TS}{Cc:Addr}{i:Nat}
end
theorem oX {P:Program}{w:World}{X:Cx}:gQ (jK P w) X E0:=fun _ _ _ _ _ _ _ h=>by
 obtain ⟨a,T,C,dx,H',_,_,_,_,_,_,_,_,_,hE⟩:=h
 exact hE.elim
section
variable {X:Cx}{C:Addr}{e:Expr}{pos:Pos}
end
section
variable {X:Cx}
end
theorem yh (a b:List aj):b8 (a++b)=b8 a*b8 b:=by
 induction a with
 | nil=>show b8 b=1*b8 b;rw [Rat.one_mul]
 | cons t r ih=>show gR t*b8 (r++b)=gR t*b8 r*b8 b;rw [ih,Rat.mul_assoc]
section
variable {X:Cx}
end
def lZ:Nat→List Obj→PySem.W.Frag
 | _,[]=>[]
 | n,o :: r=>match o.data with
  | .freed=>lZ (n+1) r
  | _=>(n,o) :: lZ (n+1) r
def fragOf (h:Heap):PySem.W.Frag:=lZ 0 h.objs.toList
theorem sk:∀(l:List Obj) (n a:Nat) (o:Obj),List.lookup a (lZ n l)=some o→∃k,a=n+k∧l[k]?=some o∧o.data≠.freed
 | [],n,a,o,e=>nomatch e
 | p :: r,n,a,o,e=>by
  have step:List.lookup a (lZ (n+1) r)=some o→∃k,a=n+k∧(p :: r)[k]?=some o∧o.data≠.freed:=fun e=>by
   obtain ⟨k,e1,e2,e3⟩:=sk r (n+1) a o e
   exact ⟨k+1,by trivial,by simpa using e2,e3⟩
  unfold lZ at e
  split at e
  ·exact step e
  ·rename_i hf
   by_cases q:a=n
   ·subst q
    simp only [List.lookup_cons,beq_self_eq_true] at e
    cases e
    exact ⟨0,rfl,rfl,hf⟩
   ·have q':(a==n)=false:=by simpa using q
    simp only [List.lookup_cons,q'] at e
    exact step e
theorem xP (h:Heap):PySem.W.Frag.In (fragOf h) h:=fun a o e=>by
 obtain ⟨k,e1,e2,e3⟩:=sk _ 0 a o e
 have e1':a=k:=e1.trans (Nat.zero_add k)
 subst e1'
 unfold Heap.get?
 have:h.objs[a]?=some o:=by simpa using e2
 rw [this]
 cases o with
 | mk c d x s=>
  cases x <;> first | rfl | exact absurd rfl e3
def jS:Option (Option Value)→Addr
 | some (some (.ref a))=>a
 | _=>0
def vy:Option (Option Value)→Bool
 | some (some (.ref _))=>true
 | _=>false
def vN:Option (Option Value)→Bool
 | some none=>true
 | _=>false
theorem jA {v:Option (Option Value)} (e:vy v=true):v=some (some (.ref (jS v))):=by
 unfold vy at e;split at e
 ·rfl
 ·cases e
theorem bE {v:Option (Option Value)} (e:vN v=true):v=some none:=by
 unfold vN at e;split at e
 ·rfl
 ·cases e
def uY (K:PySem.W.Frag) (v:Option (Option Value)):Obj:=(List.lookup (jS v) K).getD ⟨.none,none,.plain,#[]⟩
def FS:FuncData:=PySem.W.fnOf (PySem.Str.mk #[]) (PySem.Str.mk #[]) ⟨[],[],none,[],[],none,[]⟩ [] ⟨.function,[],false,false,[]⟩ .none .none .none .none none .none .none
def gH (K:PySem.W.Frag) (v:Option (Option Value)):FuncData:=match (uY K v).data with
 | .func fd=>fd
 | _=>FS
def bare (fd:FuncData):FuncData:={ fd with kwdefaults:=.none,doc:=.none,pyModule:=.none,annotations:=none,code:=.none,closureTuple:=.none }
def ca (K:PySem.W.Frag) (v:Option (Option Value)) (q:Str):Option FuncData:=
 match vy v && PySem.W.codeIn K (gH K v).code q && PySem.W.keepIn K (.ref (jS v)) with
 | false=>none
 | true=>match List.lookup (jS v) K with
  | some ⟨_,_,.func fd,_⟩=>some (bare fd)
  | _=>none
theorem rL {K:PySem.W.Frag}{v:Option (Option Value)}{q:Str}{x:FuncData} (e:ca K v q=some x) :
 v=some (some (.ref (jS v)))∧PySem.W.codeIn K (gH K v).code q=true∧PySem.W.keepIn K (.ref (jS v))=true∧
  List.lookup (jS v) K=some ⟨(uY K v).cls,(uY K v).dict,.func (gH K v),(uY K v).slots⟩∧bare (gH K v)=x:=by
 unfold ca at e
 cases h:(vy v && PySem.W.codeIn K (gH K v).code q && PySem.W.keepIn K (.ref (jS v))) with
 | false=>rw [h] at e;cases e
 | true=>
  rw [h] at e
  simp only [Bool.and_eq_true] at h
  refine ⟨jA h.1.1,h.1.2,h.2,?_⟩
  cases hl:List.lookup (jS v) K with
  | none=>rw [hl] at e;cases e
  | some o=>
   rw [hl] at e
   obtain ⟨c,d,x',s⟩:=o
   have eo:uY K v=⟨c,d,x',s⟩:=by unfold uY;rw [hl];rfl
   cases x' <;> first | cases e | skip
   rename_i fd
   have ef:gH K v=fd:=by unfold gH;rw [eo]
   rw [eo,ef]
   exact ⟨rfl,rfl⟩
def aG (K:PySem.W.Frag) (n:Str):Addr:=jS (PySem.W.nsIn K mainGlobals n)
def rG (K:PySem.W.Frag) (n:Str):Bool:=vy (PySem.W.nsIn K mainGlobals n)
def oG (K:PySem.W.Frag) (n:Str):Bool:=vN (PySem.W.nsIn K mainGlobals n)
def fG (K:PySem.W.Frag) (n:Str):Option FuncData:=ca K (PySem.W.nsIn K mainGlobals n) n
def dG (n q:Str) (st:Stmt):Option FuncData:=some (PySem.W.fnOf n q (rF st) (me st) (ah st) .none .none .none .none none .none .none)
theorem ai {K:PySem.W.Frag}{v:Option (Option Value)}{q n:Str}{st:Stmt} (e:ca K v q=dG n q st):f9 K n q st (jS v) (gH K v):=by
 have h:=rL e
 refine ⟨?_,h.2.2.1⟩
 obtain ⟨h1,h2,h3,h4,z⟩:=h
 refine ⟨_,_,(gH K v).kwdefaults,(gH K v).doc,(gH K v).pyModule,(gH K v).annotations,(gH K v).code,(gH K v).closureTuple,_,?_,h4,h2⟩
 clear h4 h2 h3 h1 e
 generalize gH K v=fd at z ⊢
 cases fd
 unfold bare PySem.W.fnOf at z
 cases z
 rfl
theorem bz {K:PySem.W.Frag}{v:Option (Option Value)}{q n:Str}{st:Stmt} (e:ca K v q=dG n q st):v=some (some (.ref (jS v))):=(rL e).1
theorem walk_ofY {l:PySem.W.OpenLaw}{n k:Nat}{q:Program}{loose:List Str}{XP:(Str→Option Value)→Heap→Prop}{d:DefRec}{CX:jx}{sp:PySem.W.Frag→Sp}{x:Str}{α:Type}{obs:PySem.W.Frag→α}{due:α}
 (hn:l.most=some n) (hn2:n≤sizeLine) (hdf:d.params.defaults=[]) (hr:bR k callerA)
 (F:∀(K:PySem.W.Frag) (w:World) (mg:Str→Option Value) (fa:Addr) (h:Heap),obs K=due→K.In h→h.Ns mainGlobals mg→mg d.name=some (.ref fa)→
  ∃fd:FuncData,(∀(s:Shared) (u:Value),BindsTo s fd ⟨[u],[]⟩ [(x,u)])∧
   ∀base:Heap,K.In base→base.Ns mainGlobals mg→aT l.prog w K mg base CX k fa fd [x] (sp K))
 (hsp:∀(K:PySem.W.Frag) (H:Hp) (a:Addr) (ns:List Int),ns.length≤n→rE H→ap K H a (ns.map V.int)→sp K [.ref a] H (fun v _=>v=.bl true) fun _ _ _=>False)
 (hCX:∀(H:Hp) (s:Shared) (e:Value) (s':Shared),CX [] H s (fun _ _ _=>False) e s'→False) :
 PySem.W.WalkX q loose XP (fun s=>obs (fragOf s.heap)) (fun _=>due) l.row.toRowW d [] (fun f vs=>PySem.call f vs):=by
 intro w s₀ s₁ mg mb G y a o pm cd doc dV kV ho hd hcd hD hmg hg args vals as' L hpre hlay hrd hwl hlo
 have kx:(fragOf s₀.heap).In s₁.heap:=fun b ob hb=>L.keeps b ob (xP s₀.heap b ob hb)
 exact yt (K:=fun _=>fragOf s₀.heap) (YP:=fun w h=>(fragOf s₀.heap).In h) hn hn2 hdf hr (fun _ _ z=>z) (fun w mg fa h=>F (fragOf s₀.heap) w mg fa h y) hsp hCX w s₀ s₁ mg mb G kx a o pm cd doc dV kV ho hd hcd hD hmg hg args vals as' hpre hlay hrd hwl hlo
structure FR (ls:List (List Nat)) (ts:List aj) (u:List Nat→Rat):Prop where
 pos:∀l∈ls,0<u l
 le:∀t∈ts,t.most≠(0,1)→gR t*u t.en≤u t.bg
section
variable {X:Cx}
inductive Ba (x:V) (y:V) (H:Hp) (Q:VK):Prop
 | mk (a:_) (b:_) (xs:_) (ys:_) (h0:x=.ref a) (h1:y=.ref b) (h2:H a=some (.tup xs)) (h3:H b=some (.tup ys)) (h4:xs.length+ys.length≤10000) (h5:∀p H',ae H H'→H' p=some (.tup (xs++ys))→Q (.ref p) H')
def Cv:R2:=fun x y H Q=>Ba  x y H Q
theorem kO:bF X (binaryOp .Add) Cv:=by
 intro pins s σ H x y v u Q I rx ry h
 obtain ⟨a,b,xs,ys,rfl,rfl,ha,hb,hz,q⟩:=h
 by_cases hx:xs=[]
 ·subst hx
  cases rx
  cases ry
  obtain ⟨its,r1,p1,_⟩:=I.tuple (af.of (K:=X.K) ha)
  obtain ⟨its2,r2,p2,_⟩:=I.tuple (af.of (K:=X.K) hb)
  cases r1
  obtain ⟨⟨cls,dd,data,sl⟩,ho,hc,n,hd⟩:=id p1
  obtain ⟨⟨cls2,dd2,data2,sl2⟩,ho2,hc2,n2,hd2⟩:=id p2
  simp only at hc hd hc2 hd2
  subst hc hd hc2 hd2
  exact concat_meets ⟨_,ho,rfl⟩ ⟨_,ho2,rfl⟩ noFill_tuple_add seq_tuple_add PySem.F.slot_tuple_add PySem.F.entry_tuple_add (PySem.F.args_tuple_add_2 _ _)
   (tuple_addW0 a b _ _ n n2 dd dd2 sl sl2 (by simp)) ⟨ho,ho2,⟨.ref b,H,I,rfl,q b H (ae.refl _) hb⟩⟩
 ·exact yU (K:=X.K) rfl pins s σ H _ _ v u Q I rx ry ⟨a,b,xs,ys,rfl,rfl,af.of ha,ha,af.of hb,hx,hz,q⟩
end
theorem C2 {ls:List (List Nat)}{ts:List aj}{u:List Nat→Rat} (tc:∀t∈ts,lX ls t) (hu:FR ls ts u) {R:List Nat}{us:List aj} (h:j6 ts R us):False:=by
 have mem:∀t∈us,t∈ts:=fun t ht=>by
  have m:some t∈R.map (fun k=>ts[k]?):=by rw [h.at'];exact List.mem_map_of_mem ht
  obtain ⟨k,_,hk⟩:=List.mem_map.mp m
  exact List.mem_of_getElem? hk
 cases us with
 | nil=>
  have:=h.gain
  exact absurd this (by show ¬(1:Rat)<1;exact Rat.lt_irrefl)
 | cons t r=>
  have e:(t :: r).map (·.bg)++[t.bg]=t.bg :: (t :: r).map (·.en):=by
   rw [h.rot];simp
  have q:=rW (ls:=ls) (u:=u) hu.pos e fun x hx=>⟨tc x (mem x hx),hu.le x (mem x hx) (h.op x hx)⟩
  have up:=hu.pos t.bg (tc t (mem t (by simp))).b
  have g:=h.gain
  have:=Rat.mul_lt_mul_of_pos_right g up
  rw [Rat.one_mul] at this
  exact absurd this (Rat.not_lt.mpr q)
end L2
namespace L2
open PySem PySem.Spec PySem.Calls PySem.W PyProof.Rows
section
variable {prog:Program}{w:World}{A:Around}{E:Value→Shared→Prop}{s:Shared}
end
section
variable {X:Cx}
end
section
open PySem.Builtin.Str (occurrences partsBetween)
variable {prog:Program}{w:World}{A:Around}{E:Value→Shared→Prop}{s:Shared}
end
section
variable {X:Cx}
end
end L2
namespace L2
open PySem PySem.Spec PyProof.Rows
section
variable {X:Cx}
def EI (K:PySem.W.Frag) (ta tv:TE) (f:Str):TS:=fun D σ H=>tv σ H fun y H1=>ta σ H1 fun x H2=>kz fun a C dx fs=>x=.ref a∧H2 a=some (.ins C dx fs)∧nj K C∧kJ K C f∧fs.length<1000∧
 ∀H3,zO H2 a (.ins C dx (gB f y fs)) H3→D.nx σ H3
theorem A7 {o value:Expr}{f:Str}{pos pos':Pos}{ta tv:TE} (ha:PE X o ta) (hv:PE X value tv) (hs:swapsWith value (some (.Attribute o f pos')) pos.line X.env=pure false:=by rfl):PS X (.Assign [.Attribute o f pos'] value pos) (EI X.K ta tv f):=by
 intro pins s σ H D I h
 refine plainObj_wpAny_Assign_Attribute (aH (hv pins s σ H _ I h) fun u s1 ⟨y,H1,I1,ry,q⟩=>aH (ha pins s1 σ H1 _ I1 q) fun ov s2 ⟨x,H2,I2,rx,a,C,dx,fs,ex,ea,c,n,l,q2⟩=>?_) hs
 subst ex
 obtain rfl:ov=Value.ref a:=rx
 exact wP I2 ea c n l ry fun s3 I3=>⟨σ,_,I3,q2 _ .mk'⟩
def CL (C:Addr) (sp:Sp):TE:=fun σ H Q=>∀x dx H1,H x=none→ae H H1→H1 x=some (.ins C dx [])→sp [.ref x] H1 (fun v H2=>v=.non∧Q (.ref x) H2) E0
theorem tH {CX:jx}{k:Nat}{f C:Addr}{fd:FuncData}{ps:List Str}{sp:Sp}{x:Str}{p pos:Pos} (M:Mk X.K C f) (F:aT X.prog X.w X.K X.mg X.base CX k f fd ps sp) (hr:bR (k+1) X.A) (hg:Gl X x) (hm:X.mg x=some (.ref C)) (hb:bP X.K fd ps []) (hx:gQ CX X E0)
 (hdb:(x==("__debug__" : Str))=false:=by decide):PE X (.Call (.Name x p) [] [] pos) (CL C sp):=by
 intro pins s σ H Q I h
 refine yH M F hr hg hm hb .nil hx hdb pins s σ H Q I fun x dx hx hd ne=>?_
 refine h x dx _ hx (fun a o e=>?_) (by rw [aD])
 rw [ag (aJ e hx),ag (aJ e hd)]
 exact e
end
def y7 (K:PySem.W.Frag) (C:Addr):Bool:=PySem.W.plainGet K C Str.empty && (PySem.W.hasDictIn K C && (PySem.W.plainOver K C && PySem.W.findIn K (.ref C) "__setattr__" == some (some (.builtin "object.__setattr__"))))
theorem AK {K:PySem.W.Frag}{C:Addr} (h:y7 K C=true):nj K C:=by
 unfold y7 at h
 rw [Bool.and_eq_true,Bool.and_eq_true,Bool.and_eq_true,beq_iff_eq] at h
 exact ⟨h.1,h.2.1,h.2.2.1,h.2.2.2⟩
def ej (K:PySem.W.Frag) (C:Addr) (m:Str):Bool:=vy (PySem.W.findIn K (.ref C) m) && (PySem.W.isFn K (.ref (jS (PySem.W.findIn K (.ref C) m))) && PySem.W.keepIn K (.ref (jS (PySem.W.findIn K (.ref C) m))))
theorem cf {K:PySem.W.Frag}{C:Addr}{m:Str} (h:ej K C m=true):gD K C m (jS (PySem.W.findIn K (.ref C) m)):=by
 unfold ej at h
 rw [Bool.and_eq_true,Bool.and_eq_true] at h
 exact ⟨jA h.1,h.2.1,h.2.2⟩
def vV (K:PySem.W.Frag) (C:Addr):Bool:=PySem.W.makesIn K C && (ej K C "__init__" && PySem.W.keepIn K (.ref C))
theorem yY {K:PySem.W.Frag}{C:Addr} (h:vV K C=true):Mk K C (jS (PySem.W.findIn K (.ref C) "__init__")):=by
 unfold vV at h
 rw [Bool.and_eq_true,Bool.and_eq_true] at h
 have m:=cf h.2.1
 exact ⟨h.1,m.at_,m.fn,h.2.2⟩
structure aq where
 pl:List (List Nat)
 ts:List aj
 sh:List Int
 en:Option (List Nat×List Nat)
def tJ:aq:=⟨[],[],[],none⟩
inductive oH where
 | m
 | g
 | p
def oH.at:oH→Nat
 | .m=>2
 | .g=>3
 | .p=>4
inductive jf where
 | place (n:List Nat)
 | tie (t:aj)
 | ends (b e:List Nat)
 | part (k:oH) (i:Int) (x:KM.Fra)
 | shut (i:Int)
 | opn (i:Int)
 | back
inductive RW where
 | taken
 | noPlace
 | noTie
 | asItIs
def RW.w:RW→Str
 | .taken => "Taken"
 | .noPlace => "NoPlace"
 | .noTie => "NoTie"
 | .asItIs => "AsItIs"
def two (s:aq) (b e:List Nat):Prop:=b∈s.pl∧e∈s.pl∧b≠e
instance iTwo (s:aq) (b e:List Nat):Decidable (two s b e):=inferInstanceAs (Decidable (_∧_∧_))
def has (s:aq) (i:Int):Prop:=0≤i∧i<(s.ts.length:Int)
instance iHas (s:aq) (i:Int):Decidable (has s i):=inferInstanceAs (Decidable (_∧_))
def cW (s:aq):jf→Option RW
 | .place n=>if n∈s.pl then some .taken else none
 | .tie t=>if two s t.bg t.en then none else some .noPlace
 | .ends b e=>if two s b e then none else some .noPlace
 | .part _ i _=>if has s i then none else some .noTie
 | .shut i=>if has s i then (if i∈s.sh then some .asItIs else none) else some .noTie
 | .opn i=>if has s i then (if i∈s.sh then none else some .asItIs) else some .noTie
 | .back=>none
def yG (k:oH) (x:KM.Fra) (t:aj):aj:=match k with
 | .m=>{ t with most:=x }
 | .g=>{ t with gain:=x }
 | .p=>{ t with price:=x }
def jH (ts:List aj) (k:oH) (i:Nat) (x:KM.Fra):List aj:=match ts[i]? with
 | some t=>ts.set i (yG k x t)
 | none=>ts
theorem A6 {ts:List aj}{k:oH}{i:Nat}{x:KM.Fra}{t:aj} (h:ts[i]?=some t):jH ts k i x=ts.set i (yG k x t):=by
 unfold jH;rw [h]
theorem mC (ts:List aj) (k:oH) (i:Nat) (x:KM.Fra):(jH ts k i x).length=ts.length:=by
 unfold jH
 cases ts[i]? with
 | none=>rfl
 | some t=>exact List.length_set ..
def b7 (s:aq):jf→aq
 | .place n=>{ s with pl:=s.pl++[n] }
 | .tie t=>{ s with ts:=s.ts++[t] }
 | .ends b e=>{ s with en:=some (b,e) }
 | .part k i x=>{ s with ts:=jH s.ts k i.toNat x }
 | .shut i=>{ s with sh:=s.sh++[i] }
 | .opn i=>{ s with sh:=s.sh.erase i }
 | .back=>s
def kN (past:List aq) (cur:aq) (D:jf):List aq:=match cW cur D with
 | some _=>past
 | none=>match D with
  | .back=>past.dropLast
  | _=>past++[cur]
def kY (past:List aq) (cur:aq) (D:jf):aq:=match cW cur D with
 | some _=>cur
 | none=>match D with
  | .back=>past.getLast?.getD cur
  | _=>b7 cur D
def wD (past:List aq) (cur:aq):jf→PyData
 | .back=>.bool (!past.isEmpty)
 | .tie _=>.int (cur.ts.length:Nat)
 | _=>.none
def CF (past:List aq) (cur:aq) (D:jf):PyData:=match cW cur D with
 | some w=>.tuple [.str "refused",.str w.w]
 | none=>.tuple [.str "told",wD past cur D]
theorem Bc {past:List aq}{cur:aq}{D:jf}{r:RW} (h:cW cur D=some r):kN past cur D=past∧kY past cur D=cur∧CF past cur D=.tuple [.str "refused",.str r.w]:=by
 unfold kN kY CF
 rw [h]
 exact ⟨rfl,rfl,rfl⟩
theorem fK {past:List aq}{cur:aq}{D:jf} (h:cW cur D=none) (nb:D≠.back):kN past cur D=past++[cur]∧kY past cur D=b7 cur D:=by
 unfold kN kY
 rw [h]
 cases D <;> first | exact ⟨rfl,rfl⟩ | exact absurd rfl nb
theorem fS {past:List aq}{s cur:aq}:kN (past++[s]) cur .back=past∧kY (past++[s]) cur .back=s:=by
 show (past++[s]).dropLast=past∧(past++[s]).getLast?.getD cur=s
 simp
structure ln (N:Nat) (s:aq):Prop where
 lp:s.pl.length≤N
 lt:s.ts.length≤N
 ls:s.sh.length≤N
 sb:∀i∈s.sh,0≤i∧i<(s.ts.length:Int)
 nd:s.sh.Nodup
theorem ln.mono {N M:Nat}{s:aq} (h:ln N s) (k:N≤M):ln M s:=⟨Nat.le_trans h.lp k,Nat.le_trans h.lt k,Nat.le_trans h.ls k,h.sb,h.nd⟩
theorem ln.zero (N:Nat):ln N tJ:=⟨Nat.zero_le _,Nat.zero_le _,Nat.zero_le _,fun _ h=>(nomatch h),List.nodup_nil⟩
theorem ln.next {N:Nat}{s:aq}{D:jf} (h:ln N s) (r:cW s D=none):ln (N+1) (b7 s D):=by
 obtain ⟨lp,lt,ls,sb,nd⟩:=h
 cases D with
 | place n=>exact ⟨by show (s.pl++[n]).length≤_;simp;trivial,by show s.ts.length≤_;trivial,(by show s.sh.length≤_;trivial),sb,nd⟩
 | tie t=>exact ⟨by show s.pl.length≤_;trivial,by show (s.ts++[t]).length≤_;simp;trivial,by show s.sh.length≤_;trivial,fun i hi=>(by have:=sb i hi;show 0≤i∧i<((s.ts++[t]).length:Int);simp;trivial),nd⟩
 | ends b e=>exact ⟨by show s.pl.length≤_;trivial,by show s.ts.length≤_;trivial,by show s.sh.length≤_;trivial,sb,nd⟩
 | part k i x=>exact ⟨by show s.pl.length≤_;trivial,by show (jH s.ts k i.toNat x).length≤_;rw [mC];trivial,by show s.sh.length≤_;trivial,fun j hj=>by show 0≤j∧j<((jH s.ts k i.toNat x).length:Int);rw [mC];exact sb j hj,nd⟩
 | shut i=>
  have hi:has s i∧i∉s.sh:=by
   replace r:(if has s i then (if i∈s.sh then some RW.asItIs else none) else some .noTie)=none:=r
   by_cases q:has s i
   ·rw [if_pos q] at r
    by_cases q2:i∈s.sh
    ·rw [if_pos q2] at r;cases r
    ·exact ⟨q,q2⟩
   ·rw [if_neg q] at r;cases r
  refine ⟨by show s.pl.length≤_;trivial,by show s.ts.length≤_;trivial,by show (s.sh++[i]).length≤_;simp;trivial,fun j hj=>?_,?_⟩
  ·rcases List.mem_append.mp (show j∈s.sh++[i] from hj) with q | q
   ·exact sb j q
   ·rw [List.mem_singleton.mp q];exact hi.1
  ·show (s.sh++[i]).Nodup
   rw [List.nodup_append]
   refine ⟨nd,by simp,fun a ha b hb=>?_⟩
   rw [List.mem_singleton.mp hb]
   exact fun z=>hi.2 (z▸ha)
 | opn i=>exact ⟨by show s.pl.length≤_;trivial,by show s.ts.length≤_;trivial,by show (s.sh.erase i).length≤_;have:=List.length_erase_le (a:=i) (l:=s.sh);trivial,fun j hj=>sb j (List.mem_of_mem_erase (show j∈s.sh.erase i from hj)),nd.erase i⟩
 | back=>exact ⟨by show s.pl.length≤_;trivial,by show s.ts.length≤_;trivial,by show s.sh.length≤_;trivial,sb,nd⟩
structure fv (N:Nat) (past:List aq) (cur:aq):Prop where
 lp:past.length≤N
 al:∀s∈past,ln N s
 cu:ln N cur
theorem fv.mono {N M:Nat}{past:List aq}{cur:aq} (h:fv N past cur) (k:N≤M):fv M past cur:=⟨Nat.le_trans h.lp k,fun s hs=>(h.al s hs).mono k,h.cu.mono k⟩
theorem fv.zero (N:Nat):fv N [] tJ:=⟨Nat.zero_le _,fun _ h=>(nomatch h),ln.zero N⟩
theorem jZ {α:Type} (l:List α):l=[]∨bh fun r a=>l=r++[a]:=by
 rcases List.eq_nil_or_concat l with h | ⟨r,a,h⟩
 ·exact .inl h
 ·exact .inr ⟨r,a,by simpa using h⟩
theorem fv.aft {N:Nat}{past:List aq}{cur:aq} (D:jf) (h:fv N past cur):fv (N+1) (kN past cur D) (kY past cur D):=by
 cases r:cW cur D with
 | some w=>obtain ⟨e1,e2,_⟩:=Bc (past:=past) r;rw [e1,e2];exact h.mono (Nat.le_succ _)
 | none=>
  by_cases nb:D=.back
  ·subst nb
   rcases jZ past with rfl | ⟨q,s,rfl⟩
   ·exact h.mono (Nat.le_succ _)
   ·rw [fS.1,fS.2]
    have:=h.lp
    simp at this
    exact ⟨by trivial,fun z hz=>(h.al z (List.mem_append_left _ hz)).mono (Nat.le_succ _),(h.al s (by simp)).mono (Nat.le_succ _)⟩
  ·obtain ⟨e1,e2⟩:=fK (past:=past) r nb
   rw [e1,e2]
   refine ⟨by have:=h.lp;simp;trivial,fun z hz=>?_,h.cu.next r⟩
   rcases List.mem_append.mp hz with q | q
   ·exact (h.al z q).mono (Nat.le_succ _)
   ·rw [List.mem_singleton.mp q];exact h.cu.mono (Nat.le_succ _)
def dB (s:aq):List Bool:=(List.range s.ts.length).map fun (j:Nat)=>decide ((j:Int)∈s.sh)
theorem jm (s:aq):(dB s).length=s.ts.length:=by unfold dB;simp
theorem kf {s:aq}{j:Nat} (h:j<s.ts.length):(dB s)[j]?=some (decide ((j:Int)∈s.sh)):=by
 unfold dB
 simp [h]
theorem AI {N:Nat}{s:aq} (h:ln N s) (t:aj):dB (b7 s (.tie t))=dB s++[false]:=by
 unfold dB b7
 simp only [List.length_append,List.length_singleton]
 rw [List.range_succ,List.map_append]
 congr 1
 simp only [List.map_cons,List.map_nil,List.cons.injEq,and_true]
 exact decide_eq_false fun q=>by have:=h.sb _ q;trivial
theorem zd (s:aq) (k:oH) (i:Int) (x:KM.Fra):dB (b7 s (.part k i x))=dB s:=by
 unfold dB b7
 simp only [mC]
theorem vD {s:aq}{l:List Int}{i:Nat} (b:Bool) (hi:i<s.ts.length) (h:∀j:Nat,decide ((j:Int)∈l)=if j=i then b else decide ((j:Int)∈s.sh)):dB { s with sh:=l }=(dB s).set i b:=by
 apply List.ext_getElem?
 intro j
 by_cases hj:j<s.ts.length
 ·rw [kf (s:={ s with sh:=l }) hj]
  show some (decide ((j:Int)∈l))=_
  rw [h j]
  by_cases e:j=i
  ·subst e
   rw [if_pos rfl,List.getElem?_set_self (by rw [jm];exact hi)]
  ·rw [if_neg e,List.getElem?_set_ne (Ne.symm e),kf hj]
 ·rw [List.getElem?_eq_none (by rw [jm];show s.ts.length≤j;trivial),List.getElem?_eq_none (by rw [List.length_set,jm];trivial)]
theorem y6 {s:aq}{i:Int} (h:has s i):dB (b7 s (.shut i))=(dB s).set i.toNat true:=by
 refine vD (l:=s.sh++[i]) true (by have:=h.1;have:=h.2;trivial) fun j=>?_
 by_cases e:j=i.toNat
 ·rw [if_pos e]
  exact decide_eq_true (by rw [e,Int.toNat_of_nonneg h.1];simp)
 ·rw [if_neg e]
  have:(j:Int)≠i:=fun z=>e (by trivial)
  simp [this]
theorem zc {N:Nat}{s:aq}{i:Int} (hs:ln N s) (h:has s i):dB (b7 s (.opn i))=(dB s).set i.toNat false:=by
 refine vD (l:=s.sh.erase i) false (by have:=h.1;have:=h.2;trivial) fun j=>?_
 by_cases e:j=i.toNat
 ·rw [if_pos e]
  exact decide_eq_false (by rw [e,Int.toNat_of_nonneg h.1];exact fun q=>(hs.nd.mem_erase_iff.mp q).1 rfl)
 ·rw [if_neg e]
  have:(j:Int)≠i:=fun z=>e (by trivial)
  rw [Bool.eq_iff_iff]
  simp [hs.nd.mem_erase_iff,this]
theorem AS {α:Type} (l:List α) (i:Nat) (x:α) (h:i<l.length):l.take i++[x]++l.drop (i+1)=l.set i x:=by
 rw [List.set_eq_take_append_cons_drop,if_pos h,List.append_assoc]
 rfl
def BO:Option (List Nat×List Nat)→PyData
 | none=>.none
 | some p=>.tuple [.str (S p.1),.str (S p.2)]
def qD (s:aq):PyData:=.tuple [.tuple (s.pl.map fun l=>.str (S l)),.tuple (s.ts.map cG),.tuple ((dB s).map .bool),BO s.en]
theorem uy {E:Addr→Prop}{H:Hp}:∀{ls:List (List Nat)}{xs:List V},am E H xs (ls.map fun l=>.str (S l))→xs=ls.map aQ
 | [],_,h=>by cases h;rfl
 | l :: ls,_,h=>by
  cases h with
  | cons h r=>cases h;rw [uy r];rfl
theorem pP {E:Addr→Prop}{H:Hp}:∀(ls:List (List Nat)),am E H (ls.map aQ) (ls.map fun l=>.str (S l))
 | []=>.nil
 | l :: ls=>.cons (.str _) (pP ls)
theorem vq {E:Addr→Prop}{H:Hp}:∀{ls:List Bool}{xs:List V},am E H xs (ls.map .bool)→xs=ls.map V.bl
 | [],_,h=>by cases h;rfl
 | l :: ls,_,h=>by
  cases h with
  | cons h r=>cases h;rw [vq r];rfl
theorem vd {E:Addr→Prop}{H:Hp}:∀(ls:List Bool),am E H (ls.map V.bl) (ls.map .bool)
 | []=>.nil
 | l :: ls=>.cons (.bl _) (vd ls)
theorem ml {E:Addr→Prop}{H:Hp}{v:V}{s:aq} (h:aS E H v (qD s)):uc fun a p t q e ys=>v=.ref a∧H a=some (.tup [.ref p,.ref t,.ref q,e])∧H p=some (.tup (s.pl.map aQ))∧H t=some (.tup ys)∧am E H ys (s.ts.map cG)∧H q=some (.tup ((dB s).map V.bl))∧aS E H e (BO s.en):=by
 unfold qD at h
 cases h with
 | @tup a xs _ ha r=>
 cases r with
 | cons h1 r=>
 cases r with
 | cons h2 r=>
 cases r with
 | cons h3 r=>
 cases r with
 | cons h4 r=>
 cases r
 cases h1 with
 | @tup p _ _ hp rp=>
 cases h2 with
 | @tup t ys _ ht rt=>
 cases h3 with
 | @tup q _ _ hq rq=>
 rw [uy rp] at hp
 rw [vq rq] at hq
 exact ⟨a,p,t,q,_,ys,rfl,ha,hp,ht,rt,hq,h4⟩
theorem qH {E:Addr→Prop}{H:Hp}{a p t q:Addr}{e:V}{ys:List V}{s:aq}{bs:List Bool} (ha:H a=some (.tup [.ref p,.ref t,.ref q,e])) (hp:H p=some (.tup (s.pl.map aQ))) (ht:H t=some (.tup ys)) (hy:am E H ys (s.ts.map cG)) (hq:H q=some (.tup (bs.map V.bl))) (hb:bs=dB s) (he:aS E H e (BO s.en)):aS E H (.ref a) (qD s):=by
 subst hb
 exact .tup ha (.cons (.tup hp (pP _)) (.cons (.tup ht hy) (.cons (.tup hq (vd _)) (.cons he .nil))))
theorem vi {E:Addr→Prop}{H:Hp}{v:V}{t:aj} (h:aS E H v (cG t)):kz fun a m g p=>v=.ref a∧H a=some (.tup [aQ t.bg,aQ t.en,m,g,p])∧aS E H m (cZ t.most)∧aS E H g (cZ t.gain)∧aS E H p (cZ t.price):=by
 cases h with
 | @tup a xs _ ha r=>
 cases r with
 | cons h1 r=>
 cases r with
 | cons h2 r=>
 cases r with
 | cons h3 r=>
 cases r with
 | cons h4 r=>
 cases r with
 | cons h5 r=>
 cases r
 cases h1
 cases h2
 exact ⟨a,_,_,(),ha,h3,h4,h5⟩
theorem qu {E:Addr→Prop}{H:Hp}:∀{ds:List PyData}{xs:List V}{d:PyData},am E H xs (ds++[d])→bh fun ys v=>xs=ys++[v]∧am E H ys ds∧aS E H v d
 | [],_,_,h=>by
  cases h with
  | cons h r=>cases r;exact ⟨[],_,rfl,.nil,h⟩
 | _ :: ds,_,d,h=>by
  cases h with
  | cons h r=>
   obtain ⟨ys,v,rfl,a,b⟩:=qu r
   exact ⟨_ :: ys,v,rfl,.cons h a,b⟩
inductive aV (C:Addr) (H:Hp) (r L:Addr) (sts:List aq):Prop
 | mk (dx:Addr) (xs:List V) (hr:H r=some (.ins C dx [("states",.ref L)])) (hL:H L=some (.lst xs)) (ha:am ED H xs (sts.map qD)):aV C H r L sts
theorem aV.keep {C:Addr}{E:Addr→Prop}{H H':Hp}{r L:Addr}{sts:List aq} (h:aV C H r L sts) (s:aE E H H') (nr:¬E r) (nL:¬E L):aV C H' r L sts:=by
 obtain ⟨dx,xs,hr,hL,ha⟩:=h
 exact ⟨dx,xs,s.old _ _ nr hr,s.old _ _ nL hL,ha.tupS s⟩
theorem aV.sm {C:Addr}{H H':Hp}{r L:Addr}{sts:List aq} (h:aV C H r L sts) (s:ae H H'):aV C H' r L sts:=h.keep (E:=fun _=>False) s.toE (fun z=>z) fun z=>z
theorem aV.ne {C:Addr}{H:Hp}{r L:Addr}{sts:List aq} (h:aV C H r L sts):r≠L:=by
 obtain ⟨dx,xs,hr,hL,_⟩:=h
 exact oV hr hL (by intro z;cases z)
theorem Ch.sameE {H H1 H2:Hp}{L:Addr}{xs ys:List V} (s1:ae H H1) (hL:H1 L=some (.lst xs)) (c:Ch H1 L ys H2):aE (Eb L) H H2:=⟨fun a o n h=>c.ol a o n (s1 _ _ h),fun a zs h=>c.tup (s1 _ _ h) hL⟩
theorem aV.app {C dx:Addr}{H H1 H2:Hp}{r L:Addr}{sts:List aq}{xs:List V}{v:V}{s':aq} (hr:H r=some (.ins C dx [("states",.ref L)])) (hL:H L=some (.lst xs)) (ha:am ED H xs (sts.map qD)) (s1:ae H H1) (hv:aS ED H1 v (qD s')) (c:Ch H1 L (xs++[v]) H2) :
 aV C H2 r L (sts++[s'])∧aE (Eb L) H H2:=by
 have hL1:=s1 _ _ hL
 have se:=Ch.sameE s1 hL1 c
 refine ⟨⟨dx,xs++[v],se.old _ _ (oV hr hL (by intro z;cases z)) hr,c.at',?_⟩,se⟩
 rw [List.map_append]
 exact (ha.tupS se).append (.cons (hv.tupC c hL1) .nil)
theorem aV.last {C:Addr}{H:Hp}{r L:Addr}{past:List aq}{cur:aq} (h:aV C H r L (past++[cur])):kF fun dx ys v=>H r=some (.ins C dx [("states",.ref L)])∧H L=some (.lst (ys++[v]))∧am ED H ys (past.map qD)∧aS ED H v (qD cur):=by
 obtain ⟨dx,xs,hr,hL,ha⟩:=h
 rw [List.map_append] at ha
 obtain ⟨ys,v,rfl,a,b⟩:=qu ha
 exact ⟨dx,ys,v,hr,hL,a,b⟩
def qA (C:Addr) (cl:RW→Addr) (r L:Addr) (past:List aq) (cur:aq) (D:jf) (H:Hp) (Q:VK) (E:XK):Prop:=
 (∀w,cW cur D=some w→∀H',ae H H'→E (.ref (cl w)) none H')∧
 (cW cur D=none→∀v H',aE (Eb L) H H'→aV C H' r L (kN past cur D++[kY past cur D])→aS ED H' v (wD past cur D)→Q v H')
theorem qw {D:Addr}{H1:Hp}{σc:St}{g:TG}{te:TE}{Q:VK}{J:It}{n:Nat} (F:Nat→PyData) (hz:n≤10000) (hD:H1 D=none) (hgo:∀i H',i<n→ae H1 H'→J.go i H') (hst:∀H',ae H1 H'→J.stop n H')
 (hs:∀i x H' H'' (R:VK),i<n→ae H1 H'→J.yld i H' x H''→(∀v H4,ae H' H4→aS ED H4 v (F i)→R v H4)→g x σc H'' fun σ2 H2=>ik σc σ2∧te σ2 H2 R)
 (hd:∀zs H',ae H1 H'→H' D=some (.lst zs)→am ED H' zs ((List.range n).map F)→Q (.ref D) H'):mG J σc g tT te D H1 Q:=by
 refine jD (n:=n) (fun i H' zs=>H' D=some (.lst zs)∧ae H1 H'∧am ED H' zs ((List.range i).map F)) (gZ hz) ⟨aD,ic hD (ae.refl _),.nil⟩ ?_ ?_ ?_ ?_ ?_
 ·rintro i H' zs ⟨q,_,ia⟩
  exact ⟨q,by rw [ia.length];simp⟩
 ·rintro i H' zs hi ⟨_,sm,_⟩
  exact hgo i H' hi sm
 ·rintro H' zs ⟨_,sm,_⟩
  exact hst H' sm
 ·rintro i H' zs x H'' hi ⟨q,sm,ia⟩ y
  refine hs i x H' H'' _ hi sm y fun v H4 s4 dv=>?_
  have q4:=s4 _ _ q
  have tp:∀a us,H4 a=some (.tup us)→aC H4 D (.lst (zs++[v])) a=some (.tup us):=fun a us e=>by
   rw [ag (oV e q4 (by intro z;cases z))];exact e
  refine ⟨q4,aD,ic hD (sm.trans s4),?_⟩
  rw [List.range_succ,List.map_append]
  exact ((ia.mono s4.toE).mono ⟨fun _ _ n _=>absurd trivial n,tp⟩).append (.cons (dv.mono ⟨fun _ _ n _=>absurd trivial n,tp⟩) .nil)
 ·rintro H' zs ⟨q,sm,ia⟩
  exact hd zs H' sm q ia
section
variable {H H':Hp}{d p t q z:Addr}{v:V}{es:List Ent}{past:List aq}{cur:aq}{F:List Addr}
end
section
variable {p t q z p' t' q':Addr}{v v':V}
end
theorem Bx.frm {H H':Hp}{b:Addr}{t:Int}{E:Addr→Prop} (B:Bx H b t) (s:aE E H H') (n:¬E b):Bx H' b t:=by
 obtain ⟨c1,c2,e,q1,q2,q3⟩:=B
 exact ⟨c1,c2,s.old _ _ n e,q1,q2,q3⟩
section
variable {C:Addr}{H H' H0 H1 H2:Hp}{r L d b:Addr}{F F' F0 F1 F2:List Addr}{past:List aq}{cur:aq}{N M:Nat}{E:Addr→Prop}
end
theorem FC {α:Type}{P:List α→Prop} (h:∀a b c d e f,P [a,b,c,d,e,f]):∀us:List α,us.length=6→P us:=fun us hl=>by
 cases us with
 | nil=>cases hl
 | cons a r=>exact Fy (P:=fun r=>P (a :: r)) (fun b c d e f=>h a b c d e f) r (by simpa using hl)
section
variable {X:Cx}{body suite:List Stmt}{b0:Stmt}{x:Str}{hpos pos np:Pos}{tb:(St→XK)→TS}{th:TS}{Cc:Addr}
end
section
variable {X:Cx}{CX:jx}{k:Nat}{f C:Addr}{fd:FuncData}{ps:List Str}{sp:Sp}{EE:St→XK}{m:Str}{pos apos:Pos}{e o:Expr}{es:List Expr}{ta:TE}{t:TA}
end
section
variable {C:Addr}{H H' H0:Hp}{P E:Addr→Prop}{xs:List PairAt}{N M:Nat}{x y:PairAt}{i:Nat}
end
theorem fv.back {N:Nat}{past:List aq}{cur:aq} (h:fv N past cur):fv N (kN past cur .back) (kY past cur .back):=by
 rcases jZ past with rfl | ⟨q,s,rfl⟩
 ·exact h
 ·rw [fS.1,fS.2]
  have:=h.lp
  simp at this
  exact ⟨by trivial,fun z hz=>h.al z (List.mem_append_left _ hz),h.al s (by simp)⟩
section
variable {C:Addr}{H2 H H':Hp}{b s o nl:Addr}{ls:List (List Nat)}{xs:List PairAt}{N M:Nat}{t t':Int}{x y:PairAt}{i:Nat}
end
end L2
namespace L2
open PySem PySem.Spec PyProof.Rows PySem.NumText
end L2
namespace L2
open PySem PySem.Spec PyProof.Rows
section
variable {X:Cx}
end
end L2
namespace L2
open PySem PySem.Spec PyProof.Rows PySem.NumText
theorem B0 {ta tb:TT}{σ:St}{H:Hp}{R:Bool→Hp→Prop} (x y:Bool) (h1:∀R':Bool→Hp→Prop,R' x H→ta σ H R') (h2:∀R':Bool→Hp→Prop,R' y H→tb σ H R') (r:R (x && y) H):C8 ta tb σ H R:=by
 refine h1 _ ?_
 cases x with
 | true=>exact bS (h2 _ r)
 | false=>exact bw r
theorem Bk (i j:Int):decide (V.int i=V.int j)=decide (i=j):=decide_eq_decide.mpr ⟨fun z=>by injection z,fun z=>by rw [z]⟩
section
variable {X:Cx}
end
theorem vG {K:PySem.W.Frag}{D a:Addr}{xs:List V}{H1:Hp}{σc:St}{g:TG}{te:TE}{Q:VK} (F:Nat→PyData) (hz:xs.length≤10000) (hD:H1 D=none) (ha:H1 a=some (.lst xs))
 (hs:∀i x H' (R:VK),xs[i]?=some x→ae H1 H'→(∀v H4,ae H' H4→aS ED H4 v (F i)→R v H4)→g x σc H' fun σ2 H2=>ik σc σ2∧te σ2 H2 R)
 (hd:∀zs H',ae H1 H'→H' D=some (.lst zs)→am ED H' zs ((List.range xs.length).map F)→Q (.ref D) H'):mG (uj K a) σc g tT te D H1 Q:=by
 refine qw (n:=xs.length) F hz hD (fun i H' hi sm=>⟨xs,xs[i],ap.of (sm _ _ ha),by simp [hi]⟩) (fun H' sm=>⟨xs,ap.of (sm _ _ ha),Nat.le_refl _⟩) ?_ hd
 rintro i x H' H'' R hi sm ⟨rfl,ex⟩ k
 exact hs i x H'' R (ex _ (ap.of (sm _ _ ha))) sm k
section
variable {X:Cx}
end
end L2
namespace L2
open PySem PySem.Spec PyProof.Rows PySem.NumText
section
variable {X:Cx}
inductive Aq (xs:List V) (H:Hp) (Q:VK):Prop
 | mk (o:Addr) (kvs:List (aA×V)) (h0:xs=[.ref o]) (h1:H o=some (.dK kvs)) (h2:∀d H',Nw H d (.dK kvs) H'→Q (.ref d) H')
def BM:List V→Hp→VK→Prop:=fun xs H Q=>Aq  xs H Q
theorem wv:cE X (.type "dict") BM:=by
 intro pins s σ H xs us Q I r h
 obtain ⟨o,kvs,rfl,ho,q⟩:=h
 obtain ⟨u,rfl,ru⟩:=r.one
 obtain rfl:u=.ref o:=ru
 obtain ⟨z1,m1,ws,r1,dd⟩:=(show aW X.prog X.w H s.heap o (.dK kvs) from I.hok _ _ ho)
 have lw:=r1.length
 refine PySem.kt_call_dict m1 dd (by trivial) fun h' hd hs=>?_
 have keep:∀b ob,s.heap.get? b=some ob→h'.get? b=some ob:=fun b ob e=>by
  have nb:b≠s.heap.objs.size:=Nat.ne_of_lt (Heap.lt_size e)
  rw [hs.2 b nb]
  exact Heap.get?_push_of_some _ e
 have I2:=I.laid (a:=s.heap.objs.size) (o:=.dK kvs) (h':=h') (t':=s.toks) keep (Nat.le_refl _)
  (show aW X.prog X.w _ _ _ (.dK _) from ⟨z1,?_,ws,r1,hd⟩)
 ·exact ⟨.ref s.heap.objs.size,_,I2,rfl,q _ _ (.mk' I.fresh)⟩
 ·have e:mainGlobals<s.heap.objs.size:=(I.mod.glob.keeps I.bk).lt
  exact beq_eq_false_iff_ne.mpr (Ne.symm (Nat.ne_of_lt (Nat.lt_trans (by decide) e)))
def lg:List PyData→List PyData→Bool
 | f :: fs,g :: gs=>PyData.eqv f g && lg fs gs
 | _,_=>true
inductive AY (x:V) (y:V) (H:Hp) (Q:VK):Prop
 | mk (a b:Addr) (ka kb:List (aA×V)) (fs gs:List PyData) (m:Nat) (h0:x=.ref a) (h1:y=.ref b) (h2:H a=some (.dK ka)) (h3:H b=some (.dK kb)) (h4:ka.map (·.1)=kb.map (·.1)) (h5:am ED H (ka.map (·.2)) fs) (h6:am ED H (kb.map (·.2)) gs) (h7:(∀f∈fs,Wt f m 1)) (h8:(∀g∈gs,Wt g m 1)) (h9:Q (.bl (lg fs gs)) H)
def CJ:R2:=fun x y H Q=>AY  x y H Q
theorem yW (hu:X.A.units+64<cLine):bF X (compareOp .Eq) CJ:=by
 intro pins s σ H x y v u Q I rx ry h
 obtain ⟨a,b,ka,kb,fs,gs,m,rfl,rfl,ha,hb,hk,ia,ib,wf,wg,q⟩:=h
 cases rx
 cases ry
 obtain ⟨z1,m1,us,r1,da⟩:=(show aW X.prog X.w H s.heap a (.dK ka) from I.hok _ _ ha)
 obtain ⟨z2,m2,ws,r2,db⟩:=(show aW X.prog X.w H s.heap b (.dK kb) from I.hok _ _ hb)
 have nd:(ws.map (·.1)).Nodup:=let ⟨_,_,_,_,_,_,_,_,hn⟩:=db;hn
 have hits:∀{ka':List (aA×V)}{us':List (aA×Value)}{kb':List (aA×V)}{ws':List (aA×Value)}{fs' gs':List PyData},KV ka' us'→KV kb' ws'→ka'.map (·.1)=kb'.map (·.1)→am ED H (ka'.map (·.2)) fs'→am ED H (kb'.map (·.2)) gs'→(∀f∈fs',Wt f m 1)→(∀g∈gs',Wt g m 1)→(∀p∈ws',valueAt ws p.1=some p.2)→PySem.W.KeqHits X.A.in1 s ws us' (lg fs' gs'):=by
  intro ka' us' kb' ws' fs' gs' r1 r2 hk ia ib wf wg hv
  induction r1 generalizing kb' ws' fs' gs' with
  | nil=>
   cases ia
   exact .nil
  | @cons p q l1 l2 hpq r1 ih=>
   cases r2 with
   | nil=>cases hk
   | @cons p' q' l1' l2' hpq' r2=>
    cases ia with
    | @cons x1 xs1 d1 ds1 i1 ia=>
    cases ib with
    | @cons x2 xs2 d2 ds2 i2 ib=>
    rw [List.map_cons,List.map_cons] at hk
    injection hk with hk1 hk2
    have e:=hv q' (by simp)
    obtain ⟨as,ra⟩:=i1.reads I.hok hpq.2
    obtain ⟨bs,rb⟩:=i2.reads I.hok hpq'.2
    have w1:=wf d1 (by simp)
    have w2:=wg d2 (by simp)
    obtain ⟨qk,qv⟩:=q
    have ek:qk=q'.1:=by rw [←hpq.1.symm.trans (hk1.trans hpq'.1)]
    rw [ek]
    exact .hit e (PySem.SeqAt.eqAt_reads d1 d2 X.A.in1 s _ _ as bs ra rb w1.can w2.can (by have:=w1.dep;simp;trivial)) (ih r2 hk2 ia ib (fun f hf=>wf f (by simp [hf])) (fun g hg=>wg g (by simp [hg])) fun p hp=>hv p (by simp [hp]))
 have va:∀{l:List (aA×Value)},(l.map (·.1)).Nodup→∀p∈l,valueAt l p.1=some p.2:=fun {l}=>by
  induction l with
  | nil=>intro _ p hp;cases hp
  | cons q r ih=>
   intro nd p hp
   rw [List.map_cons,List.nodup_cons] at nd
   unfold valueAt
   rcases List.mem_cons.mp hp with rfl | hp
   ·simp
   ·have ne:¬q.1=p.1:=fun z=>nd.1 (by rw [z];exact List.mem_map_of_mem hp)
    rw [List.find?_cons_of_neg (by simpa using ne)]
    exact ih nd.2 p hp
 have hl:us.length=ws.length:=by
  have:=congrArg List.length hk
  rw [List.length_map,List.length_map] at this
  rw [←r1.length,←r2.length]
  exact this
 refine PySem.W.keq_eq m1 m2 da db (by trivial) (fun _=>hits r1 r2 hk ia ib wf wg (va nd)) ⟨.bl _,H,I,rfl,?_⟩
 rw [hl,beq_self_eq_true,Bool.true_and]
 exact q
end
end L2
namespace KM
variable {ls:List (List Nat)}{es done:List Edge}{W u u':List Nat→Rat}{S:List (List Nat)}{q:List Nat}{m:Rat}
theorem SInv.sync (p:SInv ls es W u S m) (h:Hold ls es W) (hn:∃l∈ls,l∉S) (hS:∀l∈S,l∈ls) (hA:∀l∈ls,u l≤u' l) (hB:∀t∈es,t.g*u t.e≤u' t.b) (hC:∀l∈ls,u' l=u l∨∃t∈es,t.b=l∧u' l=t.g*u t.e) :
 ∃q,∃m',q∈ls∧q∉S∧SInv ls es W u' (q :: S) m'∧∀l∈q :: S,u' l=u l:=by
 obtain ⟨q,m',hq,hqS,pi⟩:=p.begin h hn hS
 have same:∀l∈q :: S,u' l=u l:=fun l hl=>by
  have hll:l∈ls:=by
   rcases List.mem_cons.mp hl with rfl | hl
   ·exact hq
   ·exact hS l hl
  rcases hC l hll with e | ⟨t,ht,hb,e⟩
  ·exact e
  ·have st:=pi.stays h ht (by
    rw [hb]
    rcases List.mem_cons.mp hl with z | z
    ·exact .inr z
    ·exact .inl z)
   rw [hb,←e] at st
   exact Rat.le_antisymm st (hA l hll)
 refine ⟨q,m',hq,hqS,⟨fun l hl=>?_,fun l hl hs=>?_,fun l hl=>?_,fun t ht he=>?_⟩,same⟩
 ·have a:=p.up l hl
  have b:=hA l hl
  grind
 ·have hs':l∉S:=fun z=>hs (List.mem_cons_of_mem _ z)
  rcases hC l hl with e | ⟨t,ht,hb,e⟩
  ·rw [e];exact pi.lo l hl hs'
  ·rw [e]
   by_cases c:t.e∈S
   ·have a:=pi.cl t ht c
    have b:=pi.lo l hl hs'
    rw [hb] at a
    exact Rat.le_trans a b
   ·have a:=pi.val_le h ht c
    rw [hb] at a
    exact a
 ·rw [same l hl]
  rcases List.mem_cons.mp hl with z | z
  ·rw [z,pi.qq];exact Rat.le_refl
  ·exact pi.hi l z
 ·rw [same t.e he]
  exact hB t ht
end KM
set_option maxHeartbeats 4000000
open L2
local macro_rules | `(#[$n:num,$i:ident])=>`(@pw _ $n _ _ (Or.inl $i) (by rfl) (by decide) (by decide)) | `(#[$n:num,($i:ident)])=>`(@pw _ $n _ _ (Or.inr (Or.inl $i)) (by rfl) (by decide) (by decide))
local macro_rules | `(#[$n:num,()])=>`(@pw _ $n _ _ (Or.inl (by kernel_rfl)) (by rfl) (by decide) (by decide)) | `(#[$n:num,0])=>`(@pw _ $n _ _ (Or.inr (Or.inl (by kernel_rfl))) (by rfl) (by decide) (by decide)) | `(#[$n:num,1])=>`(@pw _ $n _ _ (Or.inr (Or.inr (by kernel_rfl))) (by rfl) (by decide) (by decide))
local macro_rules | `(#[()])=>`(@bj _ _ _ _) | `(#[(),()])=>`(@nZ _ _ (by decide) (by decide))
local macro_rules | `(#[[$a]])=>`(@zx _ _ _ _ _ $a (@cw _) rfl) | `(#[[$a,$b,*]])=>`(@zx _ _ _ _ _ $a #[[$b,*]] rfl)
local macro_rules | `(#[$a[$b]])=>`(@cD _ _ _ _ _ _ _ (@Dz _ ($(Lean.mkIdent `K)) (by rfl)) $a $b (fun _ _=>rfl)) | `(#[$a[$b]!])=>`(@cD _ _ _ _ _ _ _ (@Ee _ ($(Lean.mkIdent `K)) (by rfl)) $a $b (fun _ _=>rfl))
local macro_rules | `(#[$g:ident,$k:ident,$t:term,$a:term])=>`(@ke _ _ _ _ _ _ _ _ _ _ _ _ _ _ _ _ $g ($(Lean.mkIdent `hr).mono (by decide)) $k ($t).m ($t).F.kp ($t).B .nil (@eH _) $a (by decide) (by rfl) (by rfl))
local macro_rules | `(#[$g:ident,(),$t:term,$a:term])=>`(@ke _ _ _ _ _ _ _ _ _ _ _ _ _ _ _ _ $g ($(Lean.mkIdent `hr).mono (by decide)) (by show _=_;kernel_rfl) ($t).m ($t).F.kp ($t).B .nil (@eH _) $a (by decide) (by rfl) (by rfl))
local macro_rules | `(#[$n:num,$s:term,$i:ident,$v:term])=>`(@ou _ _ ($n) _ _ _ _ $s rfl (Or.inl $i) $v (by rfl) (by first | exact .inl rfl | exact .inr rfl | assumption))
local macro_rules | `(#[$n:num,$s:term,$i:ident])=>`(@md _ _ ($n) _ $s rfl (Or.inl $i) (by first | exact .inl rfl | exact .inr rfl | assumption)) | `(#[$n:num,(),()])=>`(@md _ _ ($n) _ (@xC _ (by kernel_rfl)) rfl (Or.inl (by kernel_rfl)) (by first | exact .inl rfl | exact .inr rfl | assumption))
local macro_rules | `(#[(),(),$a,$b,$c,$d,$e])=>`(@jo _ _ _ _ _ _ _ _ _ $a $b $c $d $e (by decide) (by decide) (by rfl) (by rfl))
local macro_rules | `(#[$a :: $b])=>`(@fQ _ _ _ _ _ $a $b)
local macro_rules | `(#[$f:ident $n:num $a*])=>do
 let us ←(Array.range n.getNat).mapM fun _=>`(_)
 `(@$f $us* $a*)
local macro_rules | `(#[($f:ident)])=>`($f ($(Lean.mkIdent `P):ident:=$(Lean.mkIdent `P)) ($(Lean.mkIdent `w):ident:=$(Lean.mkIdent `w)) ($(Lean.mkIdent `base):ident:=$(Lean.mkIdent `base)) $(Lean.mkIdent `T))
namespace K42
open PySem L2
def bQ (i:Nat):Stmt:=PySem.Challenge.pw_gainroads_k42_rounds_of_roads.main.body.getD i (.Pass ⟨0,0,0,0⟩)
abbrev hZ:Stmt:=bQ 2
abbrev eM:Stmt:=bQ 3
abbrev ki:Stmt:=bQ 4
abbrev eh:Stmt:=bQ 5
abbrev k6:Stmt:=bQ 13
abbrev aU:Stmt:=bQ 14
abbrev b5:Stmt:=bQ 15
abbrev aZ:Stmt:=bQ 16
abbrev rl:Stmt:=bQ 23
abbrev pR:Stmt:=bQ 24
abbrev bO:Stmt:=bQ 25
abbrev iZ:Stmt:=bQ 26
abbrev ma:Stmt:=bQ 27
abbrev kr:Stmt:=bQ 28
abbrev bK:Stmt:=bQ 29
abbrev fM:Stmt:=bQ 30
abbrev ig:Stmt:=bQ 31
abbrev fE:Stmt:=bQ 32
abbrev aL:Stmt:=bQ 33
abbrev bA:Stmt:=bQ 34
abbrev bc:Stmt:=bQ 35
abbrev cA:Stmt:=bQ 36
abbrev aK:Stmt:=bQ 37
abbrev b6:Stmt:=bQ 38
abbrev dM:Stmt:=fZ (bQ 21) 0
abbrev aY:Stmt:=fZ (bQ 21) 1
abbrev aM:Stmt:=fZ (bQ 21) 2
abbrev dH:Stmt:=bQ 19
abbrev bY:Stmt:=fZ (bQ 21) 5
abbrev eZ:Stmt:=fZ (bQ 21) 8
abbrev dz:Stmt:=fZ (bQ 21) 9
abbrev hJ:Stmt:=fZ (bQ 21) 11
abbrev bG:Stmt:=fZ (bQ 21) 12
abbrev jk:Stmt:=bQ 18
abbrev bI:Stmt:=fZ (bQ 21) 14
abbrev dI:Stmt:=bQ 20
abbrev dQ:Stmt:=fZ (bQ 21) 15
abbrev bJ:Stmt:=fZ (bQ 21) 20
abbrev aO:Stmt:=fZ (bQ 21) 3
abbrev aP:Stmt:=fZ (bQ 21) 7
theorem jM:av ["n", "d"] ["n", "d"] (ah hZ):=⟨rfl,rfl,rfl,by nofun,rfl,by nofun,by nofun⟩
theorem lx:av ["n", "d", "divisor"] ["n", "d"] (ah eM):=⟨rfl,rfl,rfl,by nofun,rfl,by nofun,by nofun⟩
theorem yQ:av ["one", "other"] ["one", "other"] (ah ki):=⟨rfl,rfl,rfl,by nofun,rfl,by nofun,by nofun⟩
theorem lq:av ["one", "other", "left", "right"] ["one", "other"] (ah eh):=⟨rfl,rfl,rfl,by nofun,rfl,by nofun,by nofun⟩
theorem wM:av ["tie"] ["tie"] (ah k6):=⟨rfl,rfl,rfl,by nofun,rfl,by nofun,by nofun⟩
theorem bu:av ["net", "worths", "onward", "lifted", "number", "tie", "begin", "end", "most", "gain", "price", "worth"] ["net", "worths", "onward"] (ah aU):=⟨rfl,rfl,rfl,by nofun,rfl,by nofun,by nofun⟩
theorem fW:av ["net", "onward", "place", "places", "ties"] ["net", "onward", "place"] (ah b5):=⟨rfl,rfl,rfl,by nofun,rfl,by nofun,by nofun⟩
theorem cc:av ["net", "worths", "onward", "lifted", "turn"] ["net"] (ah aZ):=⟨rfl,rfl,rfl,by nofun,rfl,by nofun,by nofun⟩
theorem pY:av ["_law_script", "_law_k", "_law_cell"] ["_law_script", "_law_k"] (ah rl):=⟨rfl,rfl,rfl,by nofun,rfl,by nofun,by nofun⟩
theorem oM:av ["_law_box_here", "_law_many", "_law_found", "_law_once"] ["_law_box_here", "_law_many"] (ah pR):=⟨rfl,rfl,rfl,by nofun,rfl,by nofun,by nofun⟩
theorem j9:av ["_law_script", "_law_cap", "_law_found", "_law_k", "_law_cell"] ["_law_script", "_law_cap"] (ah bO):=⟨rfl,rfl,rfl,by nofun,rfl,by nofun,by nofun⟩
theorem oZ:av ["_law_top", "_law_bottom", "_law_one", "_law_other", "_law_by_here"] ["_law_top", "_law_bottom"] (ah iZ):=⟨rfl,rfl,rfl,by nofun,rfl,by nofun,by nofun⟩
theorem AX:av ["_law_one", "_law_other"] ["_law_one", "_law_other"] (ah ma):=⟨rfl,rfl,rfl,by nofun,rfl,by nofun,by nofun⟩
theorem yf:av ["_law_one", "_law_other"] ["_law_one", "_law_other"] (ah kr):=⟨rfl,rfl,rfl,by nofun,rfl,by nofun,by nofun⟩
theorem d9:av ["_law_box_here", "_law_many", "_law_letters", "_law_found", "_law_first", "_law_alike", "_law_k", "_law_rest"] ["_law_box_here", "_law_many"] (ah bK):=⟨rfl,rfl,rfl,by nofun,rfl,by nofun,by nofun⟩
theorem oi:av ["_law_box_here", "_law_way", "_law_most_of"] ["_law_box_here"] (ah fM):=⟨rfl,rfl,rfl,by nofun,rfl,by nofun,by nofun⟩
theorem sf:av ["_law_box_here", "_law_way"] ["_law_box_here"] (ah ig):=⟨rfl,rfl,rfl,by nofun,rfl,by nofun,by nofun⟩
theorem rH:av ["_law_box_here", "_law_way"] ["_law_box_here"] (ah fE):=⟨rfl,rfl,rfl,by nofun,rfl,by nofun,by nofun⟩
theorem bN:av ["_law_box_here", "_law_great", "_law_many", "_law_names_here", "_law_ties", "_law_k", "_law_one", "_law_other"] ["_law_box_here", "_law_great"] (ah aL):=⟨rfl,rfl,rfl,by nofun,rfl,by nofun,by nofun⟩
theorem eF:av ["_law_net", "_law_worths", "_law_turn", "_law_grown", "_law_row", "_law_more"] ["_law_net"] (ah bA):=⟨rfl,rfl,rfl,by nofun,rfl,by nofun,by nofun⟩
theorem eY:av ["_law_net", "_law_way", "_law_rows", "_law_gain_here", "_law_row", "_law_further"] ["_law_net", "_law_way"] (ah bc):=⟨rfl,rfl,rfl,by nofun,rfl,by nofun,by nofun⟩
theorem jY:av ["_law_roads", "_law_net", "_law_told", "_law_first"] ["_law_roads"] (ah cA):=⟨rfl,rfl,rfl,by nofun,rfl,by nofun,by nofun⟩
theorem bV:av ["_law_box_here", "_law_net", "_law_many", "_law_gain_here", "_law_ties", "_law_k", "_law_by_here"] ["_law_box_here", "_law_net"] (ah aK):=⟨rfl,rfl,rfl,by nofun,rfl,by nofun,by nofun⟩
theorem iW:av ["_law_script", "_law_box_here", "_law_net", "_law_roads", "_law_name", "_law_row", "_law_turn", "_law_way", "_law_number"] ["_law_script"] (ah b6):=⟨rfl,rfl,rfl,by nofun,rfl,by nofun,by nofun⟩
theorem ow:av ["self"] ["self"] (ah dM):=⟨rfl,rfl,rfl,by nofun,rfl,by nofun,by nofun⟩
theorem b9:av ["self", "name", "places", "ties", "shuts", "ends"] ["self", "name"] (ah aY):=⟨rfl,rfl,rfl,by nofun,rfl,by nofun,by nofun⟩
theorem cI:av ["self", "begin", "end", "most", "gain", "price", "places", "ties", "shuts", "ends"] ["self", "begin", "end", "most", "gain", "price"] (ah aM):=⟨rfl,rfl,rfl,by nofun,rfl,by nofun,by nofun⟩
theorem uz:av ["places", "begin", "end"] ["places", "begin", "end"] (ah dH):=⟨rfl,rfl,rfl,by nofun,rfl,by nofun,by nofun⟩
theorem nP:av ["self", "number", "gain"] ["self", "number", "gain"] (ah bY):=⟨rfl,rfl,rfl,by nofun,rfl,by nofun,by nofun⟩
theorem rm:av ["self", "number"] ["self", "number"] (ah eZ):=⟨rfl,rfl,rfl,by nofun,rfl,by nofun,by nofun⟩
theorem p8:av ["self", "number"] ["self", "number"] (ah dz):=⟨rfl,rfl,rfl,by nofun,rfl,by nofun,by nofun⟩
theorem qX:av ["self"] ["self"] (ah hJ):=⟨rfl,rfl,rfl,by nofun,rfl,by nofun,by nofun⟩
theorem eX:av ["self", "places", "ties", "shuts", "ends"] ["self"] (ah bG):=⟨rfl,rfl,rfl,by nofun,rfl,by nofun,by nofun⟩
theorem xh:av ["parts", "at", "part"] ["parts", "at", "part"] (ah jk):=⟨rfl,rfl,rfl,by nofun,rfl,by nofun,by nofun⟩
theorem jO:av ["self", "number", "shuts"] ["self", "number"] (ah bI):=⟨rfl,rfl,rfl,by nofun,rfl,by nofun,by nofun⟩
theorem tX:av ["ties", "number"] ["ties", "number"] (ah dI):=⟨rfl,rfl,rfl,by nofun,rfl,by nofun,by nofun⟩
theorem qB:av ["self"] ["self"] (ah dQ):=⟨rfl,rfl,rfl,by nofun,rfl,by nofun,by nofun⟩
theorem jR:av ["self", "net"] ["self"] (ah bJ):=⟨rfl,rfl,rfl,by nofun,rfl,by nofun,by nofun⟩
theorem cx:av ["self", "number", "at", "part", "places", "ties", "shuts", "ends"] ["self", "number", "at", "part"] (ah aO):=⟨rfl,rfl,rfl,by nofun,rfl,by nofun,by nofun⟩
theorem cz:av ["self", "number", "whether", "places", "ties", "shuts", "ends"] ["self", "number", "whether"] (ah aP):=⟨rfl,rfl,rfl,by nofun,rfl,by nofun,by nofun⟩
end K42
namespace K42
open PySem L2
set_option genInjectivity false in
set_option genSizeOf false in
structure Df (K:PySem.W.Frag) (mg:Str→Option Value) (x:Str) (st:Stmt) (ps:List Str) where
 f:Addr
 d:FuncData
 m:mg x=some (.ref f)
 F:f9 K x x st f d
 B:bP K d ps []
set_option genInjectivity false in
set_option genSizeOf false in
structure Txt (K:PySem.W.Frag) (mg:Str→Option Value) where
 b_abs:mg "abs" = none
 b_all:mg "all" = none
 b_bool:mg "bool" = none
 b_dict:mg "dict" = none
 b_divmod:mg "divmod" = none
 b_enumerate:mg "enumerate" = none
 b_int:mg "int" = none
 b_isinstance:mg "isinstance" = none
 b_len:mg "len" = none
 b_list:mg "list" = none
 b_max:mg "max" = none
 b_min:mg "min" = none
 b_range:mg "range" = none
 b_repr:mg "repr" = none
 b_set:mg "set" = none
 b_tuple:mg "tuple" = none
 b_zip:mg "zip" = none
 common_divisor_:Df K mg "common_divisor" hZ ["n", "d"]
 fraction_:Df K mg "fraction" eM ["n", "d"]
 times_:Df K mg "times" ki ["one", "other"]
 compared_:Df K mg "compared" eh ["one", "other"]
 is_shut_:Df K mg "is_shut" k6 ["tie"]
 lift_once_:Df K mg "lift_once" aU ["net", "worths", "onward"]
 round_ahead_:Df K mg "round_ahead" b5 ["net", "onward", "place"]
 gaining_round_:Df K mg "gaining_round" aZ ["net"]
 l_box_:Df K mg "_law_box" rl ["_law_script", "_law_k"]
 l_take_:Df K mg "_law_take" pR ["_law_box_here", "_law_many"]
 l_boxes_:Df K mg "_law_boxes" bO ["_law_script", "_law_cap"]
 l_fr_:Df K mg "_law_fr" iZ ["_law_top", "_law_bottom"]
 l_by_:Df K mg "_law_by" ma ["_law_one", "_law_other"]
 l_sign_:Df K mg "_law_sign" kr ["_law_one", "_law_other"]
 l_names_:Df K mg "_law_names" bK ["_law_box_here", "_law_many"]
 l_gain_:Df K mg "_law_gain" fM ["_law_box_here"]
 l_much_:Df K mg "_law_much" ig ["_law_box_here"]
 l_cost_:Df K mg "_law_cost" fE ["_law_box_here"]
 l_net_drawn_:Df K mg "_law_net_drawn" aL ["_law_box_here", "_law_great"]
 l_gains_:Df K mg "_law_gains" bA ["_law_net"]
 l_is_round_:Df K mg "_law_is_round" bc ["_law_net", "_law_way"]
 l_right_:Df K mg "_law_right" cA ["_law_roads"]
 l_with_round_:Df K mg "_law_with_round" aK ["_law_box_here", "_law_net"]
 law_:Df K mg "law" b6 ["_law_script"]
 f_Roads____init__:Addr
 d_Roads____init__:FuncData
 F_Roads____init__:f9 K "__init__" "Roads.__init__" dM f_Roads____init__ d_Roads____init__
 B_Roads____init__:bP K d_Roads____init__ ["self"] []
 f_Roads__add_place:Addr
 d_Roads__add_place:FuncData
 F_Roads__add_place:f9 K "add_place" "Roads.add_place" aY f_Roads__add_place d_Roads__add_place
 B_Roads__add_place:bP K d_Roads__add_place ["self", "name"] []
 f_Roads__add_tie:Addr
 d_Roads__add_tie:FuncData
 F_Roads__add_tie:f9 K "add_tie" "Roads.add_tie" aM f_Roads__add_tie d_Roads__add_tie
 B_Roads__add_tie:bP K d_Roads__add_tie ["self", "begin", "end", "most", "gain", "price"] []
 check_two_:Df K mg "check_two" dH ["places", "begin", "end"]
 f_Roads__set_gain:Addr
 d_Roads__set_gain:FuncData
 F_Roads__set_gain:f9 K "set_gain" "Roads.set_gain" bY f_Roads__set_gain d_Roads__set_gain
 B_Roads__set_gain:bP K d_Roads__set_gain ["self", "number", "gain"] []
 f_Roads__shut:Addr
 d_Roads__shut:FuncData
 F_Roads__shut:f9 K "shut" "Roads.shut" eZ f_Roads__shut d_Roads__shut
 B_Roads__shut:bP K d_Roads__shut ["self", "number"] []
 f_Roads__reopen:Addr
 d_Roads__reopen:FuncData
 F_Roads__reopen:f9 K "reopen" "Roads.reopen" dz f_Roads__reopen d_Roads__reopen
 B_Roads__reopen:bP K d_Roads__reopen ["self", "number"] []
 f_Roads__back:Addr
 d_Roads__back:FuncData
 F_Roads__back:f9 K "back" "Roads.back" hJ f_Roads__back d_Roads__back
 B_Roads__back:bP K d_Roads__back ["self"] []
 f_Roads__net:Addr
 d_Roads__net:FuncData
 F_Roads__net:f9 K "net" "Roads.net" bG f_Roads__net d_Roads__net
 B_Roads__net:bP K d_Roads__net ["self"] []
 put_at_:Df K mg "put_at" jk ["parts", "at", "part"]
 f_Roads__is_shut:Addr
 d_Roads__is_shut:FuncData
 F_Roads__is_shut:f9 K "is_shut" "Roads.is_shut" bI f_Roads__is_shut d_Roads__is_shut
 B_Roads__is_shut:bP K d_Roads__is_shut ["self", "number"] []
 check_tie_:Df K mg "check_tie" dI ["ties", "number"]
 f_Roads__deeds:Addr
 d_Roads__deeds:FuncData
 F_Roads__deeds:f9 K "deeds" "Roads.deeds" dQ f_Roads__deeds d_Roads__deeds
 B_Roads__deeds:bP K d_Roads__deeds ["self"] []
 f_Roads__gaining:Addr
 d_Roads__gaining:FuncData
 F_Roads__gaining:f9 K "gaining" "Roads.gaining" bJ f_Roads__gaining d_Roads__gaining
 B_Roads__gaining:bP K d_Roads__gaining ["self"] []
 f_Roads__set_part:Addr
 d_Roads__set_part:FuncData
 F_Roads__set_part:f9 K "set_part" "Roads.set_part" aO f_Roads__set_part d_Roads__set_part
 B_Roads__set_part:bP K d_Roads__set_part ["self", "number", "at", "part"] []
 f_Roads__set_shut:Addr
 d_Roads__set_shut:FuncData
 F_Roads__set_shut:f9 K "set_shut" "Roads.set_shut" aP f_Roads__set_shut d_Roads__set_shut
 B_Roads__set_shut:bP K d_Roads__set_shut ["self", "number", "whether"] []
 x_GainError:Addr
 m_GainError:mg "GainError" = some (.ref x_GainError)
 k_GainError:PySem.W.keepIn K (.ref x_GainError)=true
 xb_GainError:Cn K x_GainError=true
 x_Taken:Addr
 m_Taken:mg "Taken" = some (.ref x_Taken)
 k_Taken:PySem.W.keepIn K (.ref x_Taken)=true
 q_Taken:il K x_Taken (none)=true
 x_NoPlace:Addr
 m_NoPlace:mg "NoPlace" = some (.ref x_NoPlace)
 k_NoPlace:PySem.W.keepIn K (.ref x_NoPlace)=true
 q_NoPlace:il K x_NoPlace (none)=true
 x_NoTie:Addr
 m_NoTie:mg "NoTie" = some (.ref x_NoTie)
 k_NoTie:PySem.W.keepIn K (.ref x_NoTie)=true
 q_NoTie:il K x_NoTie (none)=true
 x_AsItIs:Addr
 m_AsItIs:mg "AsItIs" = some (.ref x_AsItIs)
 k_AsItIs:PySem.W.keepIn K (.ref x_AsItIs)=true
 q_AsItIs:il K x_AsItIs (none)=true
 x_Roads:Addr
 m_Roads:mg "Roads" = some (.ref x_Roads)
 c_Roads:nj K x_Roads
 mk_Roads:Mk K x_Roads f_Roads____init__
 h_Roads__add_place:gD K x_Roads "add_place" f_Roads__add_place
 h_Roads__add_tie:gD K x_Roads "add_tie" f_Roads__add_tie
 h_Roads__set_gain:gD K x_Roads "set_gain" f_Roads__set_gain
 h_Roads__shut:gD K x_Roads "shut" f_Roads__shut
 h_Roads__reopen:gD K x_Roads "reopen" f_Roads__reopen
 h_Roads__back:gD K x_Roads "back" f_Roads__back
 h_Roads__net:gD K x_Roads "net" f_Roads__net
 h_Roads__is_shut:gD K x_Roads "is_shut" f_Roads__is_shut
 h_Roads__deeds:gD K x_Roads "deeds" f_Roads__deeds
 h_Roads__gaining:gD K x_Roads "gaining" f_Roads__gaining
 h_Roads__set_part:gD K x_Roads "set_part" f_Roads__set_part
 h_Roads__set_shut:gD K x_Roads "set_shut" f_Roads__set_shut
 n_Roads_states:kJ K x_Roads "states"
 kin:zX K [x_Taken,x_NoPlace,x_NoTie,x_AsItIs] x_GainError=true
end K42
namespace K42
open PySem L2
abbrev ad (s:Stmt) (x:Str):Prop:=(ah s).names.lookup x=some NameKind.local
abbrev ao (s:Stmt) (x:Str):Prop:=(ah s).names.lookup x=some NameKind.globalImplicit
abbrev tO (s:Stmt) (x:Str):Prop:=(ah s).names.lookup x=some NameKind.cell
theorem oj:ad eM "n" := by nofun
theorem kq:ad eM "d" := by nofun
theorem cq:ad eM "divisor" := by nofun
theorem j7:ao eM "common_divisor" := by nofun
theorem pj:ad ki "one" := by nofun
theorem mZ:ad ki "other" := by nofun
theorem pG:ao ki "fraction" := by nofun
theorem mi:ad eh "one" := by nofun
theorem kP:ad eh "other" := by nofun
theorem iK:ad eh "left" := by nofun
theorem io:ad eh "right" := by nofun
theorem sP:ad k6 "tie" := by nofun
theorem qe:ad aU "net" := by nofun
theorem cr:ad aU "worths" := by nofun
theorem oA:ad aU "onward" := by nofun
theorem fF:ad aU "lifted" := by nofun
theorem jv:ad aU "number" := by nofun
theorem iJ:ad aU "tie" := by nofun
theorem bX:ad aU "begin" := by nofun
theorem iO:ad aU "end" := by nofun
theorem qa:ad aU "most" := by nofun
theorem kB:ad aU "gain" := by nofun
theorem pd:ad aU "price" := by nofun
theorem gu:ad aU "worth" := by nofun
theorem mf:ao aU "enumerate" := by nofun
theorem nI:ao aU "is_shut" := by nofun
theorem ph:ao aU "times" := by nofun
theorem mU:ao aU "compared" := by nofun
theorem o3:ad b5 "net" := by nofun
theorem iH:ad b5 "onward" := by nofun
theorem bC:ad b5 "place" := by nofun
theorem cK:ad b5 "places" := by nofun
theorem fR:ad b5 "ties" := by nofun
theorem cX:ad aZ "net" := by nofun
theorem gW:ad aZ "worths" := by nofun
theorem dD:ad aZ "onward" := by nofun
theorem cn:ad aZ "lifted" := by nofun
theorem mT:ad aZ "turn" := by nofun
theorem mh:ao aZ "range" := by nofun
theorem nz:ao aZ "len" := by nofun
theorem kc:ao aZ "lift_once" := by nofun
theorem jt:ao aZ "round_ahead" := by nofun
theorem jB:ad bO "_law_script" := by nofun
theorem fo:ad bO "_law_cap" := by nofun
theorem dN:tO bO "_law_found" := by nofun
theorem hG:ad bO "_law_k" := by nofun
theorem kQ:ad bO "_law_cell" := by nofun
theorem rf:ao bO "list" := by nofun
theorem nG:ao bO "enumerate" := by nofun
theorem qy:ao bO "range" := by nofun
theorem sA:ao bO "max" := by nofun
theorem sS:ao bO "len" := by nofun
theorem oO:ad iZ "_law_top" := by nofun
theorem iG:ad iZ "_law_bottom" := by nofun
theorem fB:ad iZ "_law_one" := by nofun
theorem dS:ad iZ "_law_other" := by nofun
theorem ir:ad iZ "_law_by_here" := by nofun
theorem qi:ao iZ "abs" := by nofun
theorem oC:ad ma "_law_one" := by nofun
theorem mr:ad ma "_law_other" := by nofun
theorem uK:ao ma "_law_fr" := by nofun
theorem mq:ad kr "_law_one" := by nofun
theorem kE:ad kr "_law_other" := by nofun
theorem eQ:tO bK "_law_box_here" := by nofun
theorem iu:tO bK "_law_many" := by nofun
theorem i4:tO bK "_law_letters" := by nofun
theorem gF:ad bK "_law_found" := by nofun
theorem jX:tO bK "_law_first" := by nofun
theorem jV:ad bK "_law_alike" := by nofun
theorem nq:ad bK "_law_k" := by nofun
theorem kC:ad bK "_law_rest" := by nofun
theorem hU:ao bK "_law_take" := by nofun
theorem iI:ao bK "range" := by nofun
theorem fk:ad fM "_law_box_here" := by nofun
theorem jn:ad fM "_law_way" := by nofun
theorem fJ:ad fM "_law_most_of" := by nofun
theorem iS:ao fM "_law_take" := by nofun
theorem sB:ao fM "_law_fr" := by nofun
theorem fj:ad ig "_law_box_here" := by nofun
theorem fY:ad ig "_law_way" := by nofun
theorem i0:ao ig "_law_take" := by nofun
theorem sC:ao ig "_law_fr" := by nofun
theorem fi:ad fE "_law_box_here" := by nofun
theorem jl:ad fE "_law_way" := by nofun
theorem iX:ao fE "_law_take" := by nofun
theorem sR:ao fE "_law_fr" := by nofun
theorem sZ:ao fE "int" := by nofun
theorem aF:ad aL "_law_box_here" := by nofun
theorem iD:ad aL "_law_great" := by nofun
theorem bp:ad aL "_law_many" := by nofun
theorem bH:ad aL "_law_names_here" := by nofun
theorem eB:ad aL "_law_ties" := by nofun
theorem gw:ad aL "_law_k" := by nofun
theorem cY:ad aL "_law_one" := by nofun
theorem dR:ad aL "_law_other" := by nofun
theorem bo:ao aL "_law_take" := by nofun
theorem jL:ao aL "int" := by nofun
theorem lL:ao aL "_law_names" := by nofun
theorem nH:ao aL "range" := by nofun
theorem mH:ao aL "_law_much" := by nofun
theorem mW:ao aL "_law_gain" := by nofun
theorem mO:ao aL "_law_cost" := by nofun
theorem i5:ao aL "tuple" := by nofun
theorem iY:ad bA "_law_net" := by nofun
theorem cv:ad bA "_law_worths" := by nofun
theorem pV:ad bA "_law_turn" := by nofun
theorem cH:ad bA "_law_grown" := by nofun
theorem cF:ad bA "_law_row" := by nofun
theorem hV:ad bA "_law_more" := by nofun
theorem lQ:ao bA "dict" := by nofun
theorem qC:ao bA "range" := by nofun
theorem sL:ao bA "len" := by nofun
theorem rg:ao bA "_law_by" := by nofun
theorem pO:ao bA "_law_sign" := by nofun
theorem di:ad bc "_law_way" := by nofun
theorem bD:ad bc "_law_rows" := by nofun
theorem bx:ad bc "_law_gain_here" := by nofun
theorem du:ad bc "_law_row" := by nofun
theorem gY:ad bc "_law_further" := by nofun
theorem kZ:ao bc "isinstance" := by nofun
theorem o7:ao bc "list" := by nofun
theorem im:ao bc "len" := by nofun
theorem pF:ao bc "all" := by nofun
theorem pN:ao bc "zip" := by nofun
theorem o9:ao bc "_law_by" := by nofun
theorem pW:ao bc "set" := by nofun
theorem gG:ad cA "_law_roads" := by nofun
theorem cC:ad cA "_law_net" := by nofun
theorem cR:ad cA "_law_told" := by nofun
theorem gC:ad cA "_law_first" := by nofun
theorem jW:ao cA "_law_gains" := by nofun
theorem gh:ao cA "gaining_round" := by nofun
theorem jp:ao cA "repr" := by nofun
theorem mF:ao cA "_law_is_round" := by nofun
theorem cM:ad aK "_law_box_here" := by nofun
theorem bU:ad aK "_law_net" := by nofun
theorem bL:ad aK "_law_many" := by nofun
theorem eV:ad aK "_law_gain_here" := by nofun
theorem dU:ad aK "_law_ties" := by nofun
theorem bM:ad aK "_law_k" := by nofun
theorem bv:ad aK "_law_by_here" := by nofun
theorem oJ:ao aK "min" := by nofun
theorem dW:ao aK "_law_take" := by nofun
theorem oq:ao aK "len" := by nofun
theorem nu:ao aK "list" := by nofun
theorem mP:ao aK "range" := by nofun
theorem nF:ao aK "_law_by" := by nofun
theorem nt:ao aK "_law_fr" := by nofun
theorem mK:ao aK "tuple" := by nofun
theorem qL:ad b6 "_law_script" := by nofun
theorem bn:ad b6 "_law_box_here" := by nofun
theorem dE:ad b6 "_law_net" := by nofun
theorem ba:ad b6 "_law_roads" := by nofun
theorem oB:ad b6 "_law_name" := by nofun
theorem fe:ad b6 "_law_row" := by nofun
theorem tj:ad b6 "_law_turn" := by nofun
theorem lB:ad b6 "_law_way" := by nofun
theorem cb:ad b6 "_law_number" := by nofun
theorem pE:ao b6 "Roads" := by nofun
theorem sx:ao b6 "_law_boxes" := by nofun
theorem pe:ao b6 "_law_net_drawn" := by nofun
theorem fU:ao b6 "_law_take" := by nofun
theorem oS:ao b6 "_law_with_round" := by nofun
theorem uM:ao b6 "range" := by nofun
theorem m9:ao b6 "_law_right" := by nofun
theorem k4:ao b6 "len" := by nofun
theorem um:ao b6 "_law_gain" := by nofun
theorem lD:ad dM "self" := by nofun
theorem gj:ad aY "self" := by nofun
theorem gr:ad aY "name" := by nofun
theorem cJ:ad aY "places" := by nofun
theorem ga:ad aY "ties" := by nofun
theorem fI:ad aY "shuts" := by nofun
theorem gf:ad aY "ends" := by nofun
theorem kj:ao aY "Taken" := by nofun
theorem iw:ad aM "self" := by nofun
theorem gM:ad aM "begin" := by nofun
theorem iM:ad aM "end" := by nofun
theorem lU:ad aM "most" := by nofun
theorem l7:ad aM "gain" := by nofun
theorem lF:ad aM "price" := by nofun
theorem c9:ad aM "places" := by nofun
theorem d0:ad aM "ties" := by nofun
theorem gO:ad aM "shuts" := by nofun
theorem iA:ad aM "ends" := by nofun
theorem jJ:ao aM "check_two" := by nofun
theorem mL:ao aM "len" := by nofun
theorem jC:ad dH "places" := by nofun
theorem jU:ad dH "begin" := by nofun
theorem k7:ad dH "end" := by nofun
theorem i6:ao dH "NoPlace" := by nofun
theorem lE:ad bY "self" := by nofun
theorem ku:ad bY "number" := by nofun
theorem lA:ad bY "gain" := by nofun
theorem oR:ad eZ "self" := by nofun
theorem mV:ad eZ "number" := by nofun
theorem mt:ad dz "self" := by nofun
theorem lG:ad dz "number" := by nofun
theorem jz:ad hJ "self" := by nofun
theorem o5:ad bG "self" := by nofun
theorem i7:ad bG "places" := by nofun
theorem jT:ad bG "ties" := by nofun
theorem jE:ad bG "shuts" := by nofun
theorem o6:ad bG "ends" := by nofun
theorem oK:ao bG "tuple" := by nofun
theorem pQ:ao bG "zip" := by nofun
theorem lJ:ad jk "parts" := by nofun
theorem pD:ad jk "at" := by nofun
theorem sU:ad jk "part" := by nofun
theorem lV:ad bI "self" := by nofun
theorem gl:ad bI "number" := by nofun
theorem dF:ad bI "shuts" := by nofun
theorem jG:ao bI "check_tie" := by nofun
theorem p9:ad dI "ties" := by nofun
theorem oz:ad dI "number" := by nofun
theorem qc:ao dI "len" := by nofun
theorem o8:ao dI "NoTie" := by nofun
theorem ny:ad dQ "self" := by nofun
theorem nK:ao dQ "len" := by nofun
theorem lI:ad bJ "self" := by nofun
theorem eG:ad bJ "net" := by nofun
theorem mv:ao bJ "len" := by nofun
theorem iR:ao bJ "gaining_round" := by nofun
theorem gS:ad aO "self" := by nofun
theorem cP:ad aO "number" := by nofun
theorem mB:ad aO "at" := by nofun
theorem lr:ad aO "part" := by nofun
theorem fP:ad aO "places" := by nofun
theorem cg:ad aO "ties" := by nofun
theorem gk:ad aO "shuts" := by nofun
theorem gX:ad aO "ends" := by nofun
theorem jw:ao aO "check_tie" := by nofun
theorem fA:ao aO "put_at" := by nofun
theorem gI:ad aP "self" := by nofun
theorem cS:ad aP "number" := by nofun
theorem fz:ad aP "whether" := by nofun
theorem fN:ad aP "places" := by nofun
theorem dC:ad aP "ties" := by nofun
theorem de:ad aP "shuts" := by nofun
theorem gN:ad aP "ends" := by nofun
theorem jy:ao aP "check_tie" := by nofun
theorem kW:ao aP "AsItIs" := by nofun
theorem kM:ao aP "put_at" := by nofun
end K42
namespace L2
open PySem PySem.Spec PySem.Calls PyProof.Rows
def topRunT (tb:String→Option Builtin) (p:Program) (w:World) (n₀:Nat) (ann:Option Value):Nat→PySem.W.SharedT→Thread→Option PySem.W.SharedT
 | 0,_,_=>none
 | n+1,s,t=>match PySem.W.through t with
  | true=>some s
  | false=>match PySem.W.stepOk n₀ ann t with
   | false=>none
   | true=>match PySem.W.stepT (denote tb) p w s t with
    | some (s',t')=>topRunT tb p w n₀ ann n s' t'
    | none=>none
theorem rT {tb:String→Option Builtin}{p:Program}{w:World}{n₀:Nat}{ann:Option Value}:∀{n:Nat}{s s':PySem.W.SharedT}{t:Thread},topRunT tb p w n₀ ann n s t=some s'→PySem.W.topRun tb p w n₀ ann n s.abs t=some s'.abs
 | 0,_,_,_,h=>by cases h
 | n+1,s,s',t,h=>by
  unfold topRunT at h
  unfold PySem.W.topRun
  cases he:PySem.W.through t with
  | true=>rw [he] at h;cases h;rfl
  | false=>
   rw [he] at h
   cases hk:PySem.W.stepOk n₀ ann t with
   | false=>rw [hk] at h;cases h
   | true=>
    rw [hk] at h
    cases hs:PySem.W.stepT (denote tb) p w s t with
    | none=>rw [hs] at h;cases h
    | some r=>obtain ⟨s₂,t₂⟩:=r;rw [hs] at h;rw [PySem.W.stepT_spec hs];exact rT h
open PySem.W in
noncomputable def DZ (P:Params):BT:=.node (boot_o_0 P) (.node (boot_o_1 P) (.node (boot_o_3 P) (.node (boot_o_7 P) .nil .nil) .nil) (.node (boot_o_5 P) (.node (boot_o_9 P) .nil .nil) .nil)) (.node (boot_o_2 P) (.node (boot_o_4 P) (.node (boot_o_8 P) .nil .nil) .nil) (.node (boot_o_6 P) (.node (boot_o_10 P) .nil .nil) .nil))
noncomputable def bootS (w:World) (os:OsState):PySem.W.SharedT:=⟨DZ w.params,11,{},#[],PySem.W.boot_drawn,PySem.W.boot_toks,os⟩
theorem xG (w:World):((PySem.W.boot_heap w.params).isNs mainGlobals,(PySem.W.boot_heap w.params).objs.size,(PySem.W.boot_heap w.params).nsMap mainGlobals "__annotations__")=(true,11,some (.ref 6)):=by kernel_rfl
noncomputable def looks {α:Type} (p q:Program) (Xt:Shared→Bool) (Yf:Shared→α) (w:World) (s:Shared):=
 (PySem.W.staticsOk (importedModules p.main.body) (PySem.W.boot_heap w.params) s.heap && PySem.W.namesBound p s.heap && PySem.W.gensDone s && PySem.W.laidKept (PySem.W.boot_heap w.params) s.heap,PySem.W.openSeen q [] (importedModules p.main.body) Xt true s,Yf s)
theorem left_tree {p q:Program}{Xt:Shared→Bool}{α:Type}{Yf:Shared→α}{Ya:α}{N:Nat}
 (e:PySem.W.opening p=PySem.W.plainProg p.main.scope.names) (hN:Nat.ble 600 N=true) (f:∀s,PySem.fenceModules? p s=some s)
 (run:∀(w:World) (os:OsState),(topRunT treeTable p w 11 (some (.ref 6)) N (bootS w os) (PySem.W.topStub p)).map (fun s=>looks p q Xt Yf w s.abs)=some (true,PySem.W.openGood q [],Ya)) :
 PySem.W.LeftO p q [] Xt Yf (fun _=>Ya) N:=fun w=>by
 obtain ⟨⟨h,gs,d,k,os⟩,ef,ev⟩:=Option.map_eq_some_iff.mp (PySem.W.boot_open e hN f w)
 obtain ⟨rfl,rfl,rfl,rfl⟩:h=PySem.W.boot_heap w.params∧gs=#[]∧d=PySem.W.boot_drawn∧k=PySem.W.boot_toks:=by simpa using ev
 obtain ⟨st,er,el⟩:=Option.map_eq_some_iff.mp (run w os)
 have r:=rT er
 have e0:(bootS w os).abs=⟨PySem.W.boot_heap w.params,#[],PySem.W.boot_drawn,PySem.W.boot_toks,os⟩:=rfl
 rw [e0] at r
 obtain ⟨z1,z2,z3⟩:_∧_∧_:=by simpa only [Prod.mk.injEq] using xG w
 obtain ⟨l1,l2,l3⟩:_∧_∧_:=by simpa only [looks,Prod.mk.injEq] using el
 have t:PySem.W.topFrom treeTable p w N ⟨PySem.W.boot_heap w.params,#[],PySem.W.boot_drawn,PySem.W.boot_toks,os⟩=some st.abs:=by
  unfold PySem.W.topFrom
  dsimp only
  rw [z1,z2,z3,r]
  show (match PySem.W.staticsOk (importedModules p.main.body) (PySem.W.boot_heap w.params) st.abs.heap && PySem.W.namesBound p st.abs.heap && PySem.W.gensDone st.abs && PySem.W.laidKept (PySem.W.boot_heap w.params) st.abs.heap with | true=>_ | false=>_)=_
  rw [l1]
 unfold PySem.W.openEnds
 rw [ef]
 show (PySem.W.topFrom treeTable p w N _).map _=_
 rw [t]
 exact congrArg some (Prod.ext l2 l3)
theorem left_of2 {α β:Type}{f f':World→β→α}{g g':α} (ef:f=f') (eg:g=g') (h:∀w os,f' w os=g') (w:World) (os:β):f w os=g:=by
 rw [ef,eg];exact h w os
end L2
namespace K42
open PySem L2
def qv:Program:=PySem.W.view PySem.Challenge.pw_gainroads_k42_rounds_of_roads [0,2,3,4,5,7,8,9,10,11,13,14,15,16,18,19,20,21,23,24,25,26,27,28,29,30,31,32,33,34,35,36,37,38]
def obs (K:PySem.W.Frag):List (Option FuncData)×List Bool:=([fG K "common_divisor",
 fG K "fraction",
 fG K "times",
 fG K "compared",
 fG K "is_shut",
 fG K "lift_once",
 fG K "round_ahead",
 fG K "gaining_round",
 fG K "_law_box",
 fG K "_law_take",
 fG K "_law_boxes",
 fG K "_law_fr",
 fG K "_law_by",
 fG K "_law_sign",
 fG K "_law_names",
 fG K "_law_gain",
 fG K "_law_much",
 fG K "_law_cost",
 fG K "_law_net_drawn",
 fG K "_law_gains",
 fG K "_law_is_round",
 fG K "_law_right",
 fG K "_law_with_round",
 fG K "law",
 ca K (PySem.W.findIn K (.ref (aG K "Roads")) "__init__") "Roads.__init__",
 ca K (PySem.W.findIn K (.ref (aG K "Roads")) "add_place") "Roads.add_place",
 ca K (PySem.W.findIn K (.ref (aG K "Roads")) "add_tie") "Roads.add_tie",
 fG K "check_two",
 ca K (PySem.W.findIn K (.ref (aG K "Roads")) "set_gain") "Roads.set_gain",
 ca K (PySem.W.findIn K (.ref (aG K "Roads")) "shut") "Roads.shut",
 ca K (PySem.W.findIn K (.ref (aG K "Roads")) "reopen") "Roads.reopen",
 ca K (PySem.W.findIn K (.ref (aG K "Roads")) "back") "Roads.back",
 ca K (PySem.W.findIn K (.ref (aG K "Roads")) "net") "Roads.net",
 fG K "put_at",
 ca K (PySem.W.findIn K (.ref (aG K "Roads")) "is_shut") "Roads.is_shut",
 fG K "check_tie",
 ca K (PySem.W.findIn K (.ref (aG K "Roads")) "deeds") "Roads.deeds",
 ca K (PySem.W.findIn K (.ref (aG K "Roads")) "gaining") "Roads.gaining",
 ca K (PySem.W.findIn K (.ref (aG K "Roads")) "set_part") "Roads.set_part",
 ca K (PySem.W.findIn K (.ref (aG K "Roads")) "set_shut") "Roads.set_shut"],
 [rG K "GainError",
 rG K "Taken",
 rG K "NoPlace",
 rG K "NoTie",
 rG K "AsItIs",
 PySem.W.keepIn K (.ref (aG K "GainError")),
 Cn K (aG K "GainError"),
 PySem.W.keepIn K (.ref (aG K "Taken")),
 il K (aG K "Taken") (none),
 PySem.W.keepIn K (.ref (aG K "NoPlace")),
 il K (aG K "NoPlace") (none),
 PySem.W.keepIn K (.ref (aG K "NoTie")),
 il K (aG K "NoTie") (none),
 PySem.W.keepIn K (.ref (aG K "AsItIs")),
 il K (aG K "AsItIs") (none),
 zX K [(aG K "Taken"),(aG K "NoPlace"),(aG K "NoTie"),(aG K "AsItIs")] (aG K "GainError"),
 rG K "Roads",
 y7 K (aG K "Roads"),
 vV K (aG K "Roads"),
 ej K (aG K "Roads") "add_place",
 ej K (aG K "Roads") "add_tie",
 ej K (aG K "Roads") "set_gain",
 ej K (aG K "Roads") "shut",
 ej K (aG K "Roads") "reopen",
 ej K (aG K "Roads") "back",
 ej K (aG K "Roads") "net",
 ej K (aG K "Roads") "is_shut",
 ej K (aG K "Roads") "deeds",
 ej K (aG K "Roads") "gaining",
 ej K (aG K "Roads") "set_part",
 ej K (aG K "Roads") "set_shut",
 vN (PySem.W.findIn K (.ref (aG K "Roads")) "states"),
 oG K "abs",
 oG K "all",
 oG K "bool",
 oG K "dict",
 oG K "divmod",
 oG K "enumerate",
 oG K "int",
 oG K "isinstance",
 oG K "len",
 oG K "list",
 oG K "max",
 oG K "min",
 oG K "range",
 oG K "repr",
 oG K "set",
 oG K "tuple",
 oG K "zip"])
def due:List (Option FuncData)×List Bool:=([dG "common_divisor" "common_divisor" hZ,
 dG "fraction" "fraction" eM,
 dG "times" "times" ki,
 dG "compared" "compared" eh,
 dG "is_shut" "is_shut" k6,
 dG "lift_once" "lift_once" aU,
 dG "round_ahead" "round_ahead" b5,
 dG "gaining_round" "gaining_round" aZ,
 dG "_law_box" "_law_box" rl,
 dG "_law_take" "_law_take" pR,
 dG "_law_boxes" "_law_boxes" bO,
 dG "_law_fr" "_law_fr" iZ,
 dG "_law_by" "_law_by" ma,
 dG "_law_sign" "_law_sign" kr,
 dG "_law_names" "_law_names" bK,
 dG "_law_gain" "_law_gain" fM,
 dG "_law_much" "_law_much" ig,
 dG "_law_cost" "_law_cost" fE,
 dG "_law_net_drawn" "_law_net_drawn" aL,
 dG "_law_gains" "_law_gains" bA,
 dG "_law_is_round" "_law_is_round" bc,
 dG "_law_right" "_law_right" cA,
 dG "_law_with_round" "_law_with_round" aK,
 dG "law" "law" b6,
 dG "__init__" "Roads.__init__" dM,
 dG "add_place" "Roads.add_place" aY,
 dG "add_tie" "Roads.add_tie" aM,
 dG "check_two" "check_two" dH,
 dG "set_gain" "Roads.set_gain" bY,
 dG "shut" "Roads.shut" eZ,
 dG "reopen" "Roads.reopen" dz,
 dG "back" "Roads.back" hJ,
 dG "net" "Roads.net" bG,
 dG "put_at" "put_at" jk,
 dG "is_shut" "Roads.is_shut" bI,
 dG "check_tie" "check_tie" dI,
 dG "deeds" "Roads.deeds" dQ,
 dG "gaining" "Roads.gaining" bJ,
 dG "set_part" "Roads.set_part" aO,
 dG "set_shut" "Roads.set_shut" aP],List.replicate 49 true)
end K42
def L2.Xt (s:PySem.Shared):Bool:=PySem.W.xlAt K42.qv [] s && PySem.W.recOk [] s
def L2.Yf (s:PySem.Shared):=K42.obs (L2.fragOf s.heap)
noncomputable def L2.lhs (w:PySem.World) (os:PySem.OsState):=(L2.topRunT PySem.treeTable PySem.Challenge.pw_gainroads_k42_rounds_of_roads w 11 (some (.ref 6)) 5776 (L2.bootS w os) (PySem.W.topStub PySem.Challenge.pw_gainroads_k42_rounds_of_roads)).map fun s=>L2.looks PySem.Challenge.pw_gainroads_k42_rounds_of_roads K42.qv L2.Xt L2.Yf w s.abs
noncomputable def L2.rhs:=some (true,PySem.W.openGood K42.qv [],K42.due)
theorem L2.lhs0:L2.lhs=L2.lhs:=rfl
theorem L2.rhs0:L2.rhs=L2.rhs:=rfl
name_quick lhsQ for L2.lhs by L2.lhs0
name_quick rhsQ for L2.rhs by L2.rhs0
theorem L2.left:∀w os,L2.lhs w os=L2.rhs:=L2.left_of2 PySem.W.Fast.lhsQ_eq PySem.W.Fast.rhsQ_eq (fun w os=>by kernel_rfl)
namespace K42
open PySem L2
section
variable {P:Program}{w:World}{K:PySem.W.Frag}{mg:Str→Option Value}{base:Heap}
inductive CU (vs:List V) (H:Hp) (Q:VK):Prop
 | mk (a:Addr) (xs:List V) (i:Nat) (x:V) (h0:vs=[.ref a,.int (i:Int),x]) (h1:H a=some (.tup xs)) (h2:i<xs.length) (h3:xs.length≤5000) (h4:∀p H',ae H H'→H' p=some (.tup (xs.set i x))→Q (.ref p) H')
def Ez:Sp:=fun vs H Q _=>CU  vs H Q
theorem CH (xs:List V) (i:Nat):cL xs none (some (i:Int))=xs.take i:=by
 unfold cL
 rw [HT.sIx_none,HT.sIx_nat,List.drop_zero,Nat.sub_zero,List.take_eq_take_iff]
 trivial
theorem Dr (xs:List V) (i:Nat):cL xs (some (i:Int)) none=xs.drop i:=by
 unfold cL
 rw [HT.sIx_none,HT.sIx_nat]
 by_cases h:i≤xs.length
 ·rw [Nat.min_eq_left h,List.take_of_length_le (by rw [List.length_drop];trivial)]
 ·rw [Nat.min_eq_right (by trivial),List.drop_of_length_le (by trivial),List.drop_of_length_le (by trivial)];simp
theorem nY (T:Txt K mg):aT P w K mg base CX0 1 T.put_at_.f T.put_at_.d ["parts", "at", "part"] Ez:=by
 refine T.put_at_.F.ok xh (fun vs H Q E h=>?_) (fun cdv A outer s H vs Q E hr h=>?_)
 ·obtain ⟨a,xs,i,x,rfl,_⟩:=h
  rfl
 ·obtain ⟨a,xs,i,x,rfl,ha,hi,hl,k⟩:=h
  refine ⟨_,#[aa 3 #[aB 4 #[ak 8 (@kO _) #[ak 8 (@kO _) #[ip 10 (@vj _ (K) (by rfl)) #[0,lJ] (@kg _) #[iF 3 #[1,pD]]] #[aI 5 #[[#[2,sU]]]]] #[ip 10 (@vj _ (K) (by rfl)) #[0,lJ] #[iF 3 #[ak 8 (@br _) #[1,pD] #[()]]] (@kg _)]]]],?_⟩
  refine ⟨(),(),(),a,xs,rfl,af.of ha,ha,fun p1 H1 s1 h1=>?_⟩
  rw [CH] at h1
  refine ⟨(),(by show 1≤10000;decide),fun p2 H2 n2=>⟨p1,p2,_,(),rfl,n2.sm _ _ h1,n2.at',by rw [List.length_take,List.length_singleton];trivial,fun p3 H3 s3 h3=>?_⟩⟩
  have sa:=(s1.trans n2.sm).trans s3
  refine ⟨(),(),_,(),rfl,(),a,xs,rfl,af.of (sa _ _ ha),sa _ _ ha,fun p4 H4 s4 h4=>?_⟩
  rw [show ((i:Int)+1)=((i+1:Nat):Int) by trivial,Dr] at h4
  refine ⟨p3,p4,_,(),rfl,s4 _ _ h3,h4,by simp [List.length_take,List.length_drop];trivial,fun p5 H5 s5 h5=>k p5 H5 ((sa.trans s4).trans s5) ?_⟩
  rw [h5,AS xs i x hi]
def tR (T:Txt K mg):RW→Addr
 | .taken=>T.x_Taken
 | .noPlace=>T.x_NoPlace
 | .noTie=>T.x_NoTie
 | .asItIs=>T.x_AsItIs
theorem zI (l:List Nat) (es:List (List Nat)):vk (aQ l) (es.map aQ)=decide (l∈es):=by
 unfold vk
 rw [List.any_map,Bool.eq_iff_iff,List.any_eq_true,decide_eq_true_iff]
 constructor
 ·rintro ⟨x,h1,h2⟩
  have h2':(S x==S l)=true:=h2
  rw [←qt (eq_of_beq h2')]
  exact h1
 ·exact fun h=>⟨l,h,by show (S l==S l)=true;simp⟩
theorem sV (es:List (List Nat)):(es.map aQ).all kd=true:=by
 rw [List.all_map]
 exact List.all_eq_true.mpr fun _ _=>rfl
theorem ET {a b:List Nat}:(aQ a=aQ b)↔a=b:=⟨fun h=>qt (by injection h),fun h=>by rw [h]⟩
theorem qE {H H1:Hp}{a:Addr}{o:HO} (s:ae H H1) (h:H a=none):ae H (aC H1 a o):=fun b u e=>by
 rw [ag (aJ e h)]
 exact s b u e
inductive Cm (c:Addr) (vs:List V) (H:Hp) (Q:VK) (E:XK):Prop
 | mk (a:Addr) (ls:List (List Nat)) (b e:List Nat) (h0:vs=[.ref a,aQ b,aQ e]) (h1:H a=some (.tup (ls.map aQ))) (h2:((b∈ls∧e∈ls∧b≠e)→Q .non H)) (h3:(¬(b∈ls∧e∈ls∧b≠e)→∀H',ae H H'→E (.ref c) none H'))
def EN (c:Addr):Sp:=fun vs H Q E=>Cm c vs H Q E
theorem tL (T:Txt K mg):aT P w K mg base (jK P w) 1 T.check_two_.f T.check_two_.d ["places", "begin", "end"] (EN T.x_NoPlace):=by
 refine T.check_two_.F.okX uz (fun vs H Q E h=>?_) (fun cdv A outer s H vs Q E hr h=>?_)
 ·obtain ⟨a,ls,b,e,rfl,_⟩:=h
  rfl
 ·obtain ⟨a,ls,b,e,rfl,ha,k1,k2⟩:=h
  refine ⟨_,#[#[bd 8 #[PW.pt 3 #[mR 7 #[au 8 (@qW _ (K) (by rfl)) #[1,jU] #[0,jC] rfl] #[l6 4 #[au 8 (@qW _ (K) (by rfl)) #[2,k7] #[0,jC] rfl]]]] #[aa 3 #[kK 5 rfl #[lN 15] #[lP 8 T.q_NoPlace T.k_NoPlace i6 T.m_NoPlace #[[#[kR 4]]] (by decide) (by rfl) (by rfl)]]] (@aR _)] :: #[aa 3 #[bd 8 #[au 8 (@dJ _) #[1,jU] #[2,k7] #[(),()]] #[aa 3 #[kK 5 rfl #[lN 15] #[lP 8 T.q_NoPlace T.k_NoPlace i6 T.m_NoPlace #[[#[kR 4]]] (by decide) (by rfl) (by rfl)]]] (@aR _)]]],?_⟩
  have ra:¬(b∈ls∧e∈ls∧b≠e)→∀y H1,Nw H y (lC y T.x_NoPlace none) H1→kz fun a C dx ini=>V.ref y=.ref a∧H1 a=some (lC a C dx)∧il K C ini=true∧E (.ref C) dx (aC H1 a (pK a C dx)):=fun n y H1 n1=>
   ⟨y,T.x_NoPlace,none,(),n1.at',T.q_NoPlace,k2 n _ (qE n1.sm n1.fr)⟩
  refine bq fun D0 n0=>⟨(),(),a,(),.inr (af.of ha),rfl,sV ls,(),?_⟩
  simp only [if_true,zI]
  by_cases hb:b∈ls
  ·rw [decide_eq_true hb]
   refine bw ⟨(),(),a,(),.inr (af.of ha),rfl,sV ls,(),?_⟩
   simp only [if_true,zI]
   by_cases he:e∈ls
   ·rw [decide_eq_true he]
    refine bw (n0 _ _ ⟨(),(),rfl,(),eJ (fun c=>?_) fun c=>?_⟩)
    ·have c':=ET.mp (of_decide_eq_true c)
     exact ⟨(by show 1≤10000;decide),ra fun z=>z.2.2 c'⟩
    ·exact k1 ⟨hb,he,fun z=>c (decide_eq_true (ET.mpr z))⟩
   ·rw [decide_eq_false he]
    exact bS ⟨(by show 1≤10000;decide),ra fun z=>he z.2.1⟩
  ·rw [decide_eq_false hb]
   exact bS ⟨(by show 1≤10000;decide),ra fun z=>hb z.1⟩
inductive Cz (c:Addr) (vs:List V) (H:Hp) (Q:VK) (E:XK):Prop
 | mk (a:Addr) (xs:List V) (i:Int) (h0:vs=[.ref a,.int i]) (h1:H a=some (.tup xs)) (h2:((0≤i∧i<(xs.length:Int))→Q .non H)) (h3:(¬(0≤i∧i<(xs.length:Int))→∀H',ae H H'→E (.ref c) none H'))
def EJ (c:Addr):Sp:=fun vs H Q E=>Cz c vs H Q E
theorem kT (T:Txt K mg):aT P w K mg base (jK P w) 1 T.check_tie_.f T.check_tie_.d ["ties", "number"] (EJ T.x_NoTie):=by
 refine T.check_tie_.F.okX tX (fun vs H Q E h=>?_) (fun cdv A outer s H vs Q E hr h=>?_)
 ·obtain ⟨a,xs,i,rfl,_⟩:=h
  rfl
 ·obtain ⟨a,xs,i,rfl,ha,k1,k2⟩:=h
  refine ⟨_,#[aa 3 #[bd 8 #[kI 4 #[yI 12 (@zN _) (@fw _) #[()] #[1,oz] #[(),(),(@eL _ (K) (by rfl)),qc,T.b_len,(@be),#[[#[0,p9]]]] (by with_unfolding_all rfl)]] #[aa 3 #[kK 5 rfl #[lN 15] #[lP 8 T.q_NoTie T.k_NoTie o8 T.m_NoTie #[[#[kR 4]]] (by decide) (by rfl) (by rfl)]]] (@aR _)]],?_⟩
  have ra:¬(0≤i∧i<(xs.length:Int))→∀y H1,Nw H y (lC y T.x_NoTie none) H1→kz fun a C dx ini=>V.ref y=.ref a∧H1 a=some (lC a C dx)∧il K C ini=true∧E (.ref C) dx (aC H1 a (pK a C dx)):=fun n y H1 n1=>
   ⟨y,T.x_NoTie,none,(),n1.at',T.q_NoTie,k2 n _ (qE n1.sm n1.fr)⟩
  refine ⟨(),_,(),rfl,(),?_⟩
  by_cases h0:0≤i
  ·rw [decide_eq_true h0]
   refine bS ⟨(),a,xs,rfl,.inr (af.of ha),_,(),rfl,(),?_⟩
   by_cases h1:i<(xs.length:Int)
   ·rw [decide_eq_true h1]
    exact bw (k1 ⟨h0,h1⟩)
   ·rw [decide_eq_false h1]
    exact bS ⟨(by show 1≤10000;decide),ra fun z=>h1 z.2⟩
  ·rw [decide_eq_false h0]
   exact bw ⟨(),bS ⟨(by show 1≤10000;decide),ra fun z=>h0 z.1⟩⟩
end
end K42
namespace K42
open PySem L2
section
variable {P:Program}{w:World}{K:PySem.W.Frag}{mg:Str→Option Value}{base:Heap}
theorem Cu (T:Txt K mg):aT P w K mg base CX0 1 T.l_box_.f T.l_box_.d ["_law_script", "_law_k"] (Et K):=by
 refine T.l_box_.F.ok pY (fun vs H Q E h=>?_) (fun cdv A outer s H vs Q E hr h=>?_)
 ·obtain ⟨a,ms,k,rfl,_⟩:=h
  rfl
 ·obtain ⟨a,ms,k,rfl,hS,hk0,hk1,kk⟩:=h
  refine ⟨_,(fQ (ou (i:=2) pY.nd rfl (Or.inl rfl) bj)
   (fQ (bd (au fw (pv 1) (jo nJ (by rfl) T.b_len be (cO (pv 0) cw)) (nZ _)) (aa (ou (i:=2) pY.nd rfl (Or.inl rfl) (cD iN (pv 0) (pv 1) (fun _ _=>rfl)))) aR)
   (aa (aB (Cr (cO (ak gK (jo km (by rfl) T.b_abs iP (cO (pv 2) cw)) (bZ li (by rfl) T.b_int gP (cO (fh DR (jo km (by rfl) T.b_abs iP (cO (pv 2) cw)) (ak tV bj bj) (nZ _)) cw))) (cO (ak dm (ak br (pv 2) (ak gK (ak gK bj (pv 1)) (pv 1))) bj) (cO bj cw)))))))),?_⟩
  refine ⟨(),(),a,(),.inl hS,_,(),rfl,(),?_⟩
  refine eJ (fun h=>?_) (fun h=>?_)
  case' refine_1=>
   have hlt:k.toNat<ms.length:=by
    have h':=of_decide_eq_true h
    rw [List.length_map] at h'
    trivial
   refine ⟨(),(),.inl ⟨a,_,_,V.int ms[k.toNat],rfl,rfl,hS,?_,?_⟩⟩
   ·exact uX hk0 hlt
  all_goals
   refine ⟨(),(),(),(),_,(),rfl,⟨by decide,by decide,by decide⟩,_,(),rfl,.inr ⟨(),_,(),rfl,.inr ?_,(),(),_,(),rfl,.inr ⟨by trivial,by trivial⟩,(),_,(),rfl,.inr ⟨by trivial,by trivial⟩,_,(),rfl,_,(),rfl,?_,?_,fun p hp=>kk p _ hp (ae.new hp) ⟨_,_,aD,?_,?_,?_⟩⟩⟩
   ·exact FO _
   ·show (0:Int)<2147483647;decide
   ·show 3≤sizeLine;decide
   ·exact DL _ (uE _)
   ·exact Int.emod_nonneg _ (by decide)
   ·exact Int.emod_lt_of_pos _ (by decide)
end
end K42
namespace K42
open PySem L2
section
variable {P:Program}{w:World}{K:PySem.W.Frag}{mg:Str→Option Value}{base:Heap}
theorem jj (T:Txt K mg):aT P w K mg base CX0 1 T.l_take_.f T.l_take_.d ["_law_box_here", "_law_many"] CG:=by
 refine T.l_take_.F.ok oM (fun vs H Q E h=>?_) (fun cdv A outer s H vs Q E hr h=>?_)
 ·obtain ⟨b,many,t,rfl,_⟩:=h
  rfl
 ·obtain ⟨b,many,t,rfl,⟨c,x,hb,hc,hx0,hx1⟩,hm0,hm1,ht0,ht1,kk⟩:=h
  refine ⟨_,(fQ (bd (au jr (cD iN (pv 0) bj (fun _ _=>rfl)) bj (nZ _)) (fQ (d6 (jo uu (by rfl) T.b_divmod sI (cO (cD iN (pv 0) bj (fun _ _=>rfl)) (cO (pv 1) cw))) (xz rfl (aw (l9 (pv 0) bj pZ) (aw (md (i:=2) oM.nd rfl (Or.inl rfl)) dh))))
   (aa (aB (pv 2)))) aR)
   (fQ (d6 (ak br (cD iN (pv 0) bj (fun _ _=>rfl)) bj) (l9 (pv 0) bj pZ))
   (fQ (ou (i:=3) oM.nd rfl (Or.inl rfl) (ak dm (ak tV (ak br (cD iN (pv 0) bj (fun _ _=>rfl)) (ak gK bj (cD iN (pv 0) bj (fun _ _=>rfl)))) bj) bj))
   (aa (aB (ak dm (ak Al (ak dm (ak br (ak gK (pv 3) bj) (ak gK (ak gK (cD iN (pv 0) bj (fun _ _=>rfl)) (cD iN (pv 0) bj (fun _ _=>rfl))) bj)) bj) bj) (pv 1))))))),?_⟩
  refine ⟨(),.inl ⟨b,_,_,(),rfl,ap.of hb,rfl,_,(),rfl,(),?_⟩⟩
  refine eJ (fun h=>?_) (fun h=>?_)
  ·refine ⟨(),.inl ⟨b,_,_,(),rfl,ap.of hb,rfl,(),_,(),⟨hm0,hm1⟩,fun p hp=>⟨p,(),af.of aD,rfl,_,(),(),b,[.int c,.int x,.int t],_,0,rfl,rfl,?_,rfl,_,(),rfl,(),?_⟩⟩⟩
   ·rw [ag (aJ hb hp)];exact hb
   ·have hb':aC H p (.tup [.int (c / many),.int (c % many)]) b=some (.lst [.int c,.int x,.int t]):=by rw [ag (aJ hb hp)];exact hb
    exact kk _ t _ (Int.emod_nonneg _ (Int.ne_of_gt hm0)) (Int.emod_lt_of_pos _ hm0) (Int.le_refl _) (by trivial) (sd (ae.new hp) hb') ⟨_,_,aD,Int.ediv_nonneg hc (Int.le_of_lt hm0),hx0,hx1⟩
  ·refine ⟨(),.inl ⟨b,_,_,(),rfl,ap.of hb,rfl,_,(),rfl,(),b,_,_,2,rfl,rfl,hb,rfl,?_⟩⟩
   refine ⟨(),.inl ⟨b,_,_,(),rfl,ap.of aD,rfl,(),.inl ⟨b,_,_,(),rfl,ap.of aD,rfl,_,(),rfl,.inl ⟨by decide,by decide⟩,_,(),rfl,_,(),rfl,⟨by decide,by decide,?_⟩,_,(),rfl,?_,?_⟩⟩⟩
   ·have:(x+39373*(t+1)).natAbs<2 ^ 64:=by trivial
    exact this
   ·show (0:Int)<2147483647;decide
   have ho0:0≤(x+39373*(t+1)) ^ (5:Int).toNat % 2147483647:=Int.emod_nonneg _ (by decide)
   have ho1:(x+39373*(t+1)) ^ (5:Int).toNat % 2147483647<2147483647:=Int.emod_lt_of_pos _ (by decide)
   generalize (x+39373*(t+1)) ^ (5:Int).toNat % 2147483647=on at ho0 ho1 ⊢
   refine ⟨(),_,(),rfl,.inr ⟨by decide,by decide⟩,(),.inl ⟨b,_,_,(),rfl,ap.of aD,rfl,(),.inl ⟨b,_,_,(),rfl,ap.of aD,rfl,_,(),rfl,.inl ⟨?_,?_⟩,_,(),rfl,.inr ⟨by decide,by decide⟩,_,(),rfl,_,(),rfl,?_,_,(),rfl,⟨by decide,by decide⟩,(),_,(),rfl,hm0,?_⟩⟩⟩
   ·show -(2 ^ 64)<t+1;trivial
   ·show t+1<2 ^ 64;trivial
   ·show (0:Int)<2147483629;decide
   ·exact kk _ (t+1) _ (Int.emod_nonneg _ (Int.ne_of_gt hm0)) (Int.emod_lt_of_pos _ hm0) (by trivial) (Int.le_refl _) (sd (ae.refl H) hb) ⟨c,x,aD,hc,hx0,hx1⟩
end
end K42
namespace K42
open PySem L2
section
variable {P:Program}{w:World}{K:PySem.W.Frag}{mg:Str→Option Value}{base:Heap}
inductive Cb (vs:List V) (H:Hp) (Q:VK):Prop
 | mk (n d:Int) (h0:vs=[.int n,.int d]) (h1:Q (.int (Int.gcd n d:Nat)) H)
def Ei:Sp:=fun vs H Q _=>Cb  vs H Q
theorem pf (T:Txt K mg):aT P w K mg base CX0 1 T.common_divisor_.f T.common_divisor_.d ["n", "d"] Ei:=by
 refine T.common_divisor_.F.ok jM (fun vs H Q E h=>?_) (fun cdv A outer s H vs Q E hr h=>?_)
 ·obtain ⟨n,d,rfl,_⟩:=h
  rfl
 ·obtain ⟨n,d,rfl,k⟩:=h
  refine ⟨_,(fQ (pM PassesOwn.never (au vH (pv 1) bj (nZ _)) (aa (mm (i:=0) (j:=1) rfl jM.nd rfl rfl (by decide) rfl rfl (cO (pv 1) (cO (ak AC (pv 0) (pv 1)) cw)) rfl)))
   (aa (aB (jo km (by rfl) T.b_abs iP (cO (pv 0) cw))))),?_⟩
  refine ⟨fun m σ H'=>∃a b:Int,σ=[some (.int a),some (.int b)]∧H'=H∧Int.gcd a b=Int.gcd n d∧m=b.natAbs,⟨_,n,d,rfl,rfl,rfl,rfl⟩,?_⟩
  rintro m σ H' ⟨a,b,rfl,rfl,hg,rfl⟩
  refine ⟨(),rfl,(),?_⟩
  by_cases hb:b=0
  ·subst hb
   refine bw ?_
   refine ⟨(),(),?_⟩
   rw [←KM.gcd_zero_abs,hg]
   exact k
  ·have e:(!decide (V.int b=V.int 0))=true:=by
    rw [decide_eq_false (fun z=>hb (by injection z))];rfl
   rw [e]
   refine bS ⟨fun σ' H''=>∃a' b':Int,σ'=[some (.int a'),some (.int b')]∧H''=H'∧Int.gcd a' b'=Int.gcd n d∧b'.natAbs<b.natAbs,?_,?_⟩
   ·rintro σ' H'' ⟨a',b',rfl,rfl,h1,h2⟩
    exact ⟨_,h2,a',b',rfl,rfl,h1,rfl⟩
   ·refine ⟨(),(),(),_,(),rfl,hb,_,(),?_⟩
    exact ⟨b,a.fmod b,rfl,rfl,(KM.gcd_fmod a b).trans hg,KM.fmod_natAbs_lt a b hb⟩
end
end K42
namespace K42
open PySem L2
section
variable {P:Program}{w:World}{K:PySem.W.Frag}{mg:Str→Option Value}{base:Heap}
inductive AH (C:Addr) (vs:List V) (H:Hp) (Q:VK):Prop
 | mk (r dx:Addr) (h0:vs=[.ref r]) (h1:H r=some (.ins C dx [])) (h2:∀L H',H L=none→(∀a o,a≠r→H a=some o→H' a=some o)→aV C H' r L [tJ]→Q .non H')
def Ca (C:Addr):Sp:=fun vs H Q _=>AH C vs H Q
theorem sO (T:Txt K mg):aT P w K mg base CX0 1 T.f_Roads____init__ T.d_Roads____init__ ["self"] (Ca T.x_Roads):=by
 refine T.F_Roads____init__.ok ow (fun vs H Q E h=>?_) (fun cdv A outer s H vs Q E hr h=>?_)
 ·obtain ⟨r,dx,rfl,_⟩:=h
  rfl
 ·obtain ⟨r,dx,rfl,hr',k⟩:=h
  refine ⟨_,#[aa 3 #[A7 8 #[0,lD] #[f6 4 #[[#[aI 5 #[[#[aI 5 (@cw _)],#[aI 5 (@cw _)],#[aI 5 (@cw _)],#[gJ 3]]]]]]] (by rfl)]],?_⟩
  refine ⟨(by show 0≤10000;decide),fun p1 H1 n1=>⟨(by show 0≤10000;decide),fun p2 H2 n2=>⟨(by show 0≤10000;decide),fun p3 H3 n3=>⟨(by show 4≤10000;decide),fun p4 H4 n4=>⟨(by show 1≤10000;decide),fun L H5 n5=>?_⟩⟩⟩⟩⟩
  have s4:=((n1.sm.trans n2.sm).trans n3.sm).trans n4.sm
  have s5:=s4.trans n5.sm
  have fL:H L=none:=s4.free n5.fr
  refine ⟨(),r,T.x_Roads,dx,[],rfl,s5 _ _ hr',T.c_Roads,T.n_Roads_states,by decide,fun H6 c6=>?_⟩
  have kp:∀a o,a≠r→H a=some o→H6 a=some o:=fun a o n h=>c6.ol a o n (s5 _ _ h)
  have tp:∀{a xs},H5 a=some (.tup xs)→H6 a=some (.tup xs):=fun h=>c6.ol _ _ (oV h (s5 _ _ hr') (by intro z;cases z)) h
  have d:aS ED H6 (.ref p4) (qD tJ):=qH (s:=tJ) (bs:=[]) (tp (n5.sm _ _ n4.at')) (tp (n5.sm _ _ (n4.sm _ _ (n3.sm _ _ (n2.sm _ _ n1.at'))))) (tp (n5.sm _ _ (n4.sm _ _ (n3.sm _ _ n2.at')))) .nil (tp (n5.sm _ _ (n4.sm _ _ n3.at'))) rfl .non
  refine k L H6 fL kp ⟨dx,_,c6.at',c6.ol _ _ (fun z=>?_) n5.at',.cons d .nil⟩
  rw [z,hr'] at fL
  cases fL
theorem ld {C:Addr}{cl:RW→Addr}{r L:Addr}{past:List aq}{cur:aq}{D:jf}{H:Hp}{Q:VK}{E:XK} (k:qA C cl r L past cur D H Q E) (e:cW cur D=none) (nb:D≠.back) {v:V}{H':Hp} (s:aE (Eb L) H H') (R:aV C H' r L (past++[cur]++[b7 cur D])) (t:aS ED H' v (wD past cur D)):Q v H':=by
 refine k.2 e v H' s ?_ t
 rw [(fK e nb).1,(fK e nb).2]
 exact R
inductive An (C:Addr) (cl:RW→Addr) (vs:List V) (H:Hp) (Q:VK) (E:XK):Prop
 | mk (r L:Addr) (n:List Nat) (past:List aq) (cur:aq) (h0:vs=[.ref r,aQ n]) (h1:aV C H r L (past++[cur])) (h2:fv 5000 past cur) (h3:qA C cl r L past cur (.place n) H Q E)
def CN (C:Addr) (cl:RW→Addr):Sp:=fun vs H Q E=>An C cl vs H Q E
theorem s0 (T:Txt K mg):aT P w K mg base (jK P w) 2 T.f_Roads__add_place T.d_Roads__add_place ["self", "name"] (CN T.x_Roads (tR T)):=by
 refine T.F_Roads__add_place.okX b9 (fun vs H Q E h=>?_) (fun cdv A outer s H vs Q E hr h=>?_)
 ·obtain ⟨r,L,n,past,cur,rfl,_⟩:=h
  rfl
 ·obtain ⟨r,L,n,past,cur,rfl,R,ok,k⟩:=h
  refine ⟨_,#[#[PS.nox 3 #[d6 6 #[#[e7 5 #[0,gj] rfl][#[j8 6 (@iU _) #[()]]]!] (@cQ _ (K) _ _ _ _ (4) rfl #[aw 5 #[2,b9.nd,cJ] #[aw 5 #[3,b9.nd,ga] #[aw 5 #[4,b9.nd,fI] #[aw 5 #[5,b9.nd,gf] (@dh _) (by rfl)] (by rfl)] (by rfl)] (by rfl)] (by rfl) (by rfl) (by rfl)) (by rfl) (by rfl) (by rfl)]] :: #[#[bd 8 #[au 8 (@FF _ (K) (by rfl)) #[1,gr] #[2,cJ] rfl] #[aa 3 #[kK 5 rfl #[lN 15] #[lP 8 T.q_Taken T.k_Taken kj T.m_Taken #[[#[kR 4]]] (by decide) (by rfl) (by rfl)]]] (@aR _)] :: #[aa 3 #[PS.nox 3 #[bf 4 (@dg _ (K) _ _ _ _ _ _ _ _ _ _ _ PySem.F.plainAttrs_list PySem.F.slot_list_append PySem.F.type_list_append (@cm _) #[e7 5 #[0,gj] rfl] #[[#[aI 5 #[[#[ak 8 (@kO _) #[2,cJ] #[aI 5 #[[#[1,gr]]]]],#[3,ga],#[4,fI],#[5,gf]]]]]] (by rfl) (by rfl) (by rfl) (by rfl) (by rfl) (by rfl)) (by rfl)]]]]],?_⟩
  obtain ⟨dx,ys,v,hr',hL,hys,hv⟩:=R.last
  obtain ⟨a,p,t,q,e,ties,rfl,ha,hp,ht,hty,hq,he⟩:=ml hv
  have ly:=hys.length
  have okl:=ok.lp
  rw [List.length_map] at ly
  refine bq fun D0 n0=>⟨(),r,T.x_Roads,dx,_,(),hr',T.c_Roads,T.n_Roads_states,rfl,(),L,_,_,(),rfl,ap.of hL,ja _ _,a,(),af.of ha,rfl,_,(),_,(),_,(),_,(),rfl,n0 _ _ ?_⟩
  refine bq fun D1 n1=>⟨(),(),p,(),.inr (af.of hp),rfl,sV _,(),?_⟩
  simp only [if_false,Bool.false_eq_true,zI]
  by_cases hn:n∈cur.pl
  ·rw [decide_eq_true hn]
   have rw_:cW cur (.place n)=some .taken:=if_pos hn
   exact bS ⟨(by show 1≤10000;decide),fun y H1 m1=>⟨y,T.x_Taken,none,(),m1.at',T.q_Taken,k.1 _ rw_ _ (qE m1.sm m1.fr)⟩⟩
  ·rw [decide_eq_false hn]
   have rw_:cW cur (.place n)=none:=if_neg hn
   refine bw (n1 _ _ ?_)
   refine ⟨(),r,T.x_Roads,dx,_,(),hr',T.c_Roads,T.n_Roads_states,rfl,.inl ⟨rfl,_,ap.of hL⟩,(),(),(by show 1≤10000;decide),fun p1 H1 m1=>⟨p,p1,_,(),rfl,m1.sm _ _ hp,m1.at',?_,fun p2 H2 s2 h2=>?_⟩⟩
   ·have:=ok.cu.lp
    simp
    trivial
   have sa:=m1.sm.trans s2
   refine ⟨(),(),(),(by show 4≤10000;decide),fun p3 H3 m3=>⟨L,_,(),rfl,(sa.trans m3.sm) _ _ hL,by simp;trivial,fun H4 c4=>?_⟩⟩
   have sb:=sa.trans m3.sm
   obtain ⟨R4,s4⟩:=aV.app (s':=b7 cur (.place n)) (sts:=past++[cur]) hr' hL (by rw [List.map_append];exact hys.append (.cons hv .nil)) sb (qH m3.at' (by rw [m3.sm _ _ h2];simp [b7]) (sb _ _ ht) (hty.mono sb.toE) (sb _ _ hq) rfl (he.mono sb.toE)) c4
   exact ld k rw_ (by intro z;cases z) s4 R4 .non
inductive Bi (C:Addr) (cl:RW→Addr) (vs:List V) (H:Hp) (Q:VK) (E:XK):Prop
 | mk (r L:Addr) (t:aj) (m g p:V) (past:List aq) (cur:aq) (h0:vs=[.ref r,aQ t.bg,aQ t.en,m,g,p]) (h1:aS ED H m (cZ t.most)) (h2:aS ED H g (cZ t.gain)) (h3:aS ED H p (cZ t.price)) (h4:aV C H r L (past++[cur])) (h5:fv 5000 past cur) (h6:qA C cl r L past cur (.tie t) H Q E)
def BW (C:Addr) (cl:RW→Addr):Sp:=fun vs H Q E=>Bi C cl vs H Q E
theorem wR (T:Txt K mg):aT P w K mg base (jK P w) 2 T.f_Roads__add_tie T.d_Roads__add_tie ["self", "begin", "end", "most", "gain", "price"] (BW T.x_Roads (tR T)):=by
 have G_check_two:=#[(tL)]
 refine T.F_Roads__add_tie.okX cI (fun vs H Q E h=>?_) (fun cdv A outer s H vs Q E hr h=>?_)
 ·obtain ⟨r,L,tt,m,g,pr,past,cur,rfl,_⟩:=h
  rfl
 ·obtain ⟨r,L,tt,m,g,pr,past,cur,rfl,hm,hg,hpr,R,ok,k⟩:=h
  refine ⟨_,#[#[PS.nox 3 #[d6 6 #[#[e7 5 #[0,iw] rfl][#[j8 6 (@iU _) #[()]]]!] (@cQ _ (K) _ _ _ _ (4) rfl #[aw 5 #[6,cI.nd,c9] #[aw 5 #[7,cI.nd,d0] #[aw 5 #[8,cI.nd,gO] #[aw 5 #[9,cI.nd,iA] (@dh _) (by rfl)] (by rfl)] (by rfl)] (by rfl)] (by rfl) (by rfl) (by rfl)) (by rfl) (by rfl) (by rfl)]] :: #[#[bf 4 #[ke 16 G_check_two (hr.mono (by decide)) jJ T.check_two_.m T.check_two_.F.kp T.check_two_.B .nil #[my 15] #[[#[6,c9],#[1,gM],#[2,iM]]] (by decide) (by rfl) (by rfl)] (by rfl)] :: #[#[PS.nox 3 #[bf 4 (@dg _ (K) _ _ _ _ _ _ _ _ _ _ _ PySem.F.plainAttrs_list PySem.F.slot_list_append PySem.F.type_list_append (@cm _) #[e7 5 #[0,iw] rfl] #[[#[aI 5 #[[#[6,c9],#[ak 8 (@kO _) #[7,d0] #[aI 5 #[[#[aI 5 #[[#[1,gM],#[2,iM],#[3,lU],#[4,l7],#[5,lF]]]]]]]],#[ak 8 (@kO _) #[8,gO] #[aI 5 #[[#[dL 4]]]]],#[9,iA]]]]]] (by rfl) (by rfl) (by rfl) (by rfl) (by rfl) (by rfl)) (by rfl)]] :: #[aa 3 #[PS.nox 3 #[aB 4 #[(),(),(@eL _ (K) (by rfl)),mL,T.b_len,(@be),#[[#[7,d0]]]]]]]]]],?_⟩
  obtain ⟨dx,ys,v,hr',hL,hys,hv⟩:=R.last
  obtain ⟨a,p,t,q,e,ties,rfl,ha,hp,ht,hty,hq,he⟩:=ml hv
  have ly:=hys.length
  have okl:=ok.lp
  rw [List.length_map] at ly
  have lt:=hty.length
  rw [List.length_map] at lt
  have okt:=ok.cu.lt
  refine bq fun D0 n0=>⟨(),r,T.x_Roads,dx,_,(),hr',T.c_Roads,T.n_Roads_states,rfl,(),L,_,_,(),rfl,ap.of hL,ja _ _,a,(),af.of ha,rfl,_,(),_,(),_,(),_,(),rfl,n0 _ _ ?_⟩
  refine bq fun D1 n1=>⟨(),(),(),p,cur.pl,tt.bg,tt.en,rfl,hp,fun h2=>n1 _ _ ?_,fun h2 H' s'=>k.1 .noPlace (if_neg h2) H' s'⟩
  have rw_:cW cur (.tie tt)=none:=if_pos h2
  refine bq fun D2 n2=>⟨(),r,T.x_Roads,dx,_,(),hr',T.c_Roads,T.n_Roads_states,rfl,.inl ⟨rfl,_,ap.of hL⟩,(),(),(),(),(),(),(),(by show 5≤10000;decide),fun p1 H1 m1=>⟨(by show 1≤10000;decide),fun p2 H2 m2=>⟨t,p2,_,(),rfl,(m1.sm.trans m2.sm) _ _ ht,m2.at',by simp;trivial,fun p3 H3 s3 h3=>?_⟩⟩⟩
  have sa:=(m1.sm.trans m2.sm).trans s3
  refine ⟨(),(by show 1≤10000;decide),fun p4 H4 m4=>⟨q,p4,_,(),rfl,(sa.trans m4.sm) _ _ hq,m4.at',by simp [jm];trivial,fun p5 H5 s5 h5=>⟨(),(by show 4≤10000;decide),fun p6 H6 m6=>⟨L,_,(),rfl,((sa.trans m4.sm).trans (s5.trans m6.sm)) _ _ hL,by simp;trivial,fun H7 c7=>n2 _ _ ?_⟩⟩⟩⟩
  have sb:=(sa.trans m4.sm).trans (s5.trans m6.sm)
  have s36:=m4.sm.trans (s5.trans m6.sm)
  have dt:aS ED H6 (.ref p1) (cG tt):=.tup ((m2.sm.trans s3).trans s36 _ _ m1.at') (.cons (.str _) (.cons (.str _) (.cons (hm.mono sb.toE) (.cons (hg.mono sb.toE) (.cons (hpr.mono sb.toE) .nil)))))
  obtain ⟨R4,s4⟩:=aV.app (s':=b7 cur (.tie tt)) (sts:=past++[cur]) hr' hL (by rw [List.map_append];exact hys.append (.cons hv .nil)) sb (qH (bs:=dB cur++[false]) m6.at' (sb _ _ hp) (s36 _ _ h3) (by simp only [b7,List.map_append];exact (hty.mono sb.toE).append (.cons dt .nil)) (by rw [m6.sm _ _ h5];simp) (AI ok.cu tt).symm (he.mono sb.toE)) c7
  refine ⟨(),t,ties,rfl,.inr (af.of (s4.tup _ _ ht)),ld k rw_ (by intro z;cases z) s4 R4 ?_⟩
  rw [lt]
  exact .int _
inductive Bg (C:Addr) (cl:RW→Addr) (pk:Option oH) (vs:List V) (H:Hp) (Q:VK) (E:XK):Prop
 | mk (r L:Addr) (kk:oH) (i:Int) (x:KM.Fra) (y:V) (past:List aq) (cur:aq) (h0:(vs=match pk with | none=>[.ref r,.int i,.int (kk.at:Int),y] | some _=>[.ref r,.int i,y])) (h1:(∀z,pk=some z→kk=z)) (h2:aS ED H y (cZ x)) (h3:aV C H r L (past++[cur])) (h4:fv 5000 past cur) (h5:qA C cl r L past cur (.part kk i x) H Q E)
def xK (C:Addr) (cl:RW→Addr) (pk:Option oH):Sp:=fun vs H Q E=>Bg C cl pk vs H Q E
theorem uS (T:Txt K mg):aT P w K mg base (jK P w) 2 T.f_Roads__set_part T.d_Roads__set_part ["self", "number", "at", "part"] (xK T.x_Roads (tR T) none):=by
 have G_check_tie:=#[(kT)]
 have G_put_at:=#[(nY)]
 refine T.F_Roads__set_part.okX cx (fun vs H Q E h=>?_) (fun cdv A outer s H vs Q E hr h=>?_)
 ·obtain ⟨r,L,kk,i,x,y,past,cur,rfl,_⟩:=h
  rfl
 ·obtain ⟨r,L,kk,i,x,y,past,cur,rfl,_,hy,R,ok,k⟩:=h
  refine ⟨_,#[#[PS.nox 3 #[d6 6 #[#[e7 5 #[0,gS] rfl][#[j8 6 (@iU _) #[()]]]!] (@cQ _ (K) _ _ _ _ (4) rfl #[aw 5 #[4,cx.nd,fP] #[aw 5 #[5,cx.nd,cg] #[aw 5 #[6,cx.nd,gk] #[aw 5 #[7,cx.nd,gX] (@dh _) (by rfl)] (by rfl)] (by rfl)] (by rfl)] (by rfl) (by rfl) (by rfl)) (by rfl) (by rfl) (by rfl)]] :: #[#[bf 4 #[ke 16 G_check_tie (hr.mono (by decide)) jw T.check_tie_.m T.check_tie_.F.kp T.check_tie_.B .nil #[my 15] #[[#[5,cg],#[1,cP]]] (by decide) (by rfl) (by rfl)] (by rfl)] :: #[aa 3 #[PS.nox 3 #[bf 4 (@dg _ (K) _ _ _ _ _ _ _ _ _ _ _ PySem.F.plainAttrs_list PySem.F.slot_list_append PySem.F.type_list_append (@cm _) #[e7 5 #[0,gS] rfl] #[[#[aI 5 #[[#[4,fP],#[G_put_at,fA,T.put_at_,#[[#[5,cg],#[1,cP],#[G_put_at,fA,T.put_at_,#[[#[#[5,cg][#[1,cP]]],#[2,mB],#[3,lr]]]]]]],#[6,gk],#[7,gX]]]]]] (by rfl) (by rfl) (by rfl) (by rfl) (by rfl) (by rfl)) (by rfl)]]]]],?_⟩
  obtain ⟨dx,ys,v,hr',hL,hys,hv⟩:=R.last
  obtain ⟨a,p,t,q,e,ties,rfl,ha,hp,ht,hty,hq,he⟩:=ml hv
  have ly:=hys.length
  have okl:=ok.lp
  rw [List.length_map] at ly
  have lt:=hty.length
  rw [List.length_map] at lt
  have okt:=ok.cu.lt
  refine bq fun D0 n0=>⟨(),r,T.x_Roads,dx,_,(),hr',T.c_Roads,T.n_Roads_states,rfl,(),L,_,_,(),rfl,ap.of hL,ja _ _,a,(),af.of ha,rfl,_,(),_,(),_,(),_,(),rfl,n0 _ _ ?_⟩
  refine bq fun D1 n1=>⟨(),(),t,ties,i,rfl,ht,fun h2=>n1 _ _ ?_,fun h2 H' s'=>k.1 .noTie (if_neg (by rw [lt] at h2;exact h2)) H' s'⟩
  have hs:has cur i:=by rw [lt] at h2;exact h2
  have rw_:cW cur (.part kk i x)=none:=if_pos hs
  obtain ⟨j,rfl⟩:=Int.eq_ofNat_of_zero_le h2.1
  have hj:j<ties.length:=by trivial
  have hj':j<cur.ts.length:=by trivial
  have e1:ties[j]?=some ties[j]:=List.getElem?_eq_getElem hj
  have e2:cur.ts[j]?=some cur.ts[j]:=List.getElem?_eq_getElem hj'
  have dj:aS ED H ties[j] (cG cur.ts[j]):=hty.nth j e1 (by rw [List.getElem?_map,e2];rfl)
  obtain ⟨ta,m,g,pr,eta,hta,hm,hg,hpr⟩:=vi dj
  have kat:kk.at<5:=by cases kk <;> decide
  refine ⟨(),r,T.x_Roads,dx,_,(),hr',T.c_Roads,T.n_Roads_states,rfl,.inl ⟨rfl,_,ap.of hL⟩,(),(),(),(),(),t,ties,_,(),rfl,af.of ht,iE e1,(),(),ta,_,kk.at,y,by rw [eta];rfl,hta,kat,(by show 5≤5000;decide),fun p1 H1 s1 h1=>?_⟩
  refine ⟨t,ties,j,.ref p1,rfl,s1 _ _ ht,hj,by trivial,fun p2 H2 s2 h2'=>⟨(),(),(by show 4≤10000;decide),fun p3 H3 m3=>⟨L,_,(),rfl,(s1.trans (s2.trans m3.sm)) _ _ hL,by simp;trivial,fun H4 c4=>?_⟩⟩⟩
  have sb:=s1.trans (s2.trans m3.sm)
  have s13:=s2.trans m3.sm
  have dt:aS ED H3 (.ref p1) (cG (yG kk x cur.ts[j])):=by
   have y3:=hy.mono sb.toE
   have m3':=hm.mono sb.toE
   have g3:=hg.mono sb.toE
   have p3':=hpr.mono sb.toE
   have h13:=s13 _ _ h1
   cases kk
   ·exact .tup h13 (.cons (.str _) (.cons (.str _) (.cons y3 (.cons g3 (.cons p3' .nil)))))
   ·exact .tup h13 (.cons (.str _) (.cons (.str _) (.cons m3' (.cons y3 (.cons p3' .nil)))))
   ·exact .tup h13 (.cons (.str _) (.cons (.str _) (.cons m3' (.cons g3 (.cons y3 .nil)))))
  obtain ⟨R4,s4⟩:=aV.app (s':=b7 cur (.part kk (j:Int) x)) (sts:=past++[cur]) hr' hL (by rw [List.map_append];exact hys.append (.cons hv .nil)) sb (qH (bs:=dB cur) m3.at' (sb _ _ hp) (m3.sm _ _ h2') (by
   show am ED H3 (ties.set j (.ref p1)) ((jH cur.ts kk (j:Int).toNat x).map cG)
   rw [Int.toNat_natCast,A6 e2,List.map_set]
   exact (hty.mono sb.toE).set dt j) (sb _ _ hq) (zd ..).symm (he.mono sb.toE)) c4
  exact ld k rw_ (by intro z;cases z) s4 R4 .non
theorem uH (T:Txt K mg):aT P w K mg base (jK P w) 3 T.f_Roads__set_gain T.d_Roads__set_gain ["self", "number", "gain"] (xK T.x_Roads (tR T) (some .g)):=by
 have G_Roads__set_part:=#[(uS)]
 refine T.F_Roads__set_gain.okX nP (fun vs H Q E h=>?_) (fun cdv A outer s H vs Q E hr h=>?_)
 ·obtain ⟨r,L,kk,i,x,y,past,cur,rfl,_⟩:=h
  rfl
 ·obtain ⟨r,L,kk,i,x,y,past,cur,rfl,hk,hy,R,ok,k⟩:=h
  cases hk _ rfl
  obtain ⟨dx,ys,v,hr',hL,hys,hv⟩:=R.last
  refine ⟨_,#[aa 3 #[bf 4 #[fX 20 #[0,lE] T.c_Roads T.h_Roads__set_part G_Roads__set_part (hr.mono (by decide)) T.B_Roads__set_part .nil #[my 15] #[[#[1,ku],#[()],#[2,lA]]] (by rfl) (by rfl) (by rfl)] (by rfl)]],?_⟩
  exact ⟨(),r,dx,(),hr',rfl,(),(),r,L,.g,i,x,y,past,cur,rfl,(fun z q=>nomatch q),hy,R,ok,k.1,fun e v H' s R t=>by cases t;exact k.2 e .non H' s R .non⟩
end
end K42
namespace K42
open PySem L2
section
variable {P:Program}{w:World}{K:PySem.W.Frag}{mg:Str→Option Value}{base:Heap}
theorem uP (T:Txt K mg):aT P w K mg base CX0 2 T.fraction_.f T.fraction_.d ["n", "d"] BL:=by
 have G_common_divisor:=#[(pf)]
 refine T.fraction_.F.ok lx (fun vs H Q E h=>?_) (fun cdv A outer s H vs Q E hr h=>?_)
 ·obtain ⟨n,d,rfl,_⟩:=h
  rfl
 ·obtain ⟨n,d,rfl,hd,hs,k⟩:=h
  refine ⟨_,#[#[2,lx.nd,cq,#[G_common_divisor,j7,T.common_divisor_,#[[#[0,oj],#[1,kq]]]]] :: #[#[bd 8 #[au 8 (@fw _) #[1,kq] #[()] #[(),()]] #[aa 3 #[2,lx.nd,cq,#[j8 6 (@iU _) #[2,cq]]]] (@aR _)] :: #[aa 3 #[aB 4 #[aI 5 #[[#[ak 8 (@ud _) #[0,oj] #[2,cq]],#[ak 8 (@ud _) #[1,kq] #[2,cq]]]]]]]]],?_⟩
  refine ⟨(),(),n,d,rfl,(),_,(),rfl,(),?_⟩
  have g0:=KM.gcd_pos (n:=n) hd
  have gs:=Fd (n:=n) hd hs
  have kl:=KM.fdiv_low (n:=n) hd
  by_cases h0:d<0
  ·rw [decide_eq_true h0]
   rw [if_pos h0] at kl
   have c1:∀x,wz x (-((Int.gcd n d:Nat):Int)):=fun x=>⟨by trivial,gs.neg⟩
   refine bS ⟨(),(),(),(),_,(),rfl,c1 n,(),(),_,(),rfl,c1 d,(by show 2≤10000;decide),fun p H1 nw=>?_⟩
   have q:=k p H1
   rw [←kl] at q
   exact q nw
  ·rw [decide_eq_false h0]
   rw [if_neg h0] at kl
   have c1:∀x,wz x ((Int.gcd n d:Nat):Int):=fun x=>⟨by trivial,gs⟩
   refine bw ⟨(),(),_,(),rfl,c1 n,(),(),_,(),rfl,c1 d,(by show 2≤10000;decide),fun p H1 nw=>?_⟩
   have q:=k p H1
   rw [←kl] at q
   exact q nw
theorem yC (T:Txt K mg):aT P w K mg base CX0 3 T.times_.f T.times_.d ["one", "other"] (BA Fa Fh):=by
 have G_fraction:=#[(uP)]
 refine T.times_.F.ok yQ (fun vs H Q E h=>?_) (fun cdv A outer s H vs Q E hr h=>?_)
 ·obtain ⟨a,b,n1,d1,n2,d2,rfl,_⟩:=h
  rfl
 ·obtain ⟨a,b,n1,d1,n2,d2,rfl,ha,hb,⟨z1,z2,z3,z4,hd⟩,k⟩:=h
  refine ⟨_,#[aa 3 #[aB 4 #[G_fraction,pG,T.fraction_,#[[#[ak 8 (@iC _) #[#[0,pj][#[()]]] #[#[1,mZ][#[()]]]],#[ak 8 (@iC _) #[#[0,pj][#[()]]] #[#[1,mZ][#[()]]]]]]]]],?_⟩
  exact ⟨(),a,_,_,(),rfl,af.of ha,rfl,(),b,_,_,(),rfl,af.of hb,rfl,_,(),rfl,oN z1 z3,
   _,rfl,a,_,_,_,rfl,rfl,af.of ha,rfl,_,rfl,b,_,_,_,rfl,rfl,af.of hb,rfl,_,_,rfl,rfl,oN z2 z4,_,_,rfl,hd,zU z2 z4,k⟩
theorem uQ (T:Txt K mg):aT P w K mg base CX0 1 T.compared_.f T.compared_.d ["one", "other"] DF:=by
 refine T.compared_.F.ok lq (fun vs H Q E h=>?_) (fun cdv A outer s H vs Q E hr h=>?_)
 ·obtain ⟨a,b,n1,d1,n2,d2,rfl,_⟩:=h
  rfl
 ·obtain ⟨a,b,n1,d1,n2,d2,rfl,ha,hb,z1,z2,z3,z4,k⟩:=h
  refine ⟨_,#[#[2,lq.nd,iK,#[ak 8 (@iC _) #[#[0,mi][#[()]]] #[#[1,kP][#[()]]]]] :: #[#[3,lq.nd,io,#[ak 8 (@iC _) #[#[1,kP][#[()]]] #[#[0,mi][#[()]]]]] :: #[#[bd 8 #[au 8 (@fw _) #[2,iK] #[3,io] #[(),()]] #[aa 3 #[aB 4 #[j8 6 (@iU _) #[()]]]] (@aR _)] :: #[#[bd 8 #[au 8 (@jr _) #[2,iK] #[3,io] #[(),()]] #[aa 3 #[aB 4 #[()]]] (@aR _)] :: #[aa 3 #[aB 4 #[()]]]]]]],?_⟩
  refine ⟨(),a,_,_,(),rfl,af.of ha,rfl,(),b,_,_,(),rfl,af.of hb,rfl,_,(),rfl,oN z1 z4,(),b,_,_,(),rfl,af.of hb,rfl,(),a,_,_,(),rfl,af.of ha,rfl,_,(),rfl,oN z3 z2,
   _,rfl,_,rfl,_,_,rfl,rfl,_,rfl,?_⟩
  unfold tw at k
  by_cases h1:n1*d2<n2*d1
  ·rw [decide_eq_true h1]
   rw [if_pos h1] at k
   exact bS ⟨(),k⟩
  ·rw [decide_eq_false h1]
   rw [if_neg h1] at k
   refine bw ⟨(),(),_,(),rfl,(),?_⟩
   by_cases h2:n2*d1<n1*d2
   ·rw [decide_eq_true h2]
    rw [if_pos h2] at k
    exact bS k
   ·rw [decide_eq_false h2]
    rw [if_neg h2] at k
    exact bw k
end
end K42
namespace K42
open PySem L2
section
variable {P:Program}{w:World}{K:PySem.W.Frag}{mg:Str→Option Value}{base:Heap}
theorem Bw {n d:Int} (hd:d≠0) (h:d.natAbs.log2<9000):wK n ((Int.gcd n d:Nat):Int):=by
 have g0:=KM.gcd_pos (n:=n) hd
 refine ⟨by trivial,?_⟩
 have h1:Int.gcd n d≤d.natAbs:=Nat.le_of_dvd (by trivial) (by
  have:((Int.gcd n d:Nat):Int) ∣ d:=Int.gcd_dvd_right ..
  exact Int.ofNat_dvd_left.mp this)
 have h2:d.natAbs<2 ^ 9000:=(Nat.log2_lt (by trivial)).mp h
 rw [Int.natAbs_natCast]
 exact (Nat.log2_lt (by trivial)).mpr (Nat.lt_of_le_of_lt h1 h2)
end
end K42
namespace K42
open PySem L2
section
variable {P:Program}{w:World}{K:PySem.W.Frag}{mg:Str→Option Value}{base:Heap}
inductive Ek (g:KM.Fra→KM.Fra→KM.Fra) (z:Bool) (vs:List V) (H:Hp) (Q:VK):Prop
 | mk (a b:Addr) (p q:KM.Fra) (c1 d1 c2 d2:Nat) (h0:vs=[.ref a,.ref b]) (h1:H a=some (fr p)) (h2:H b=some (fr q)) (h3:Gb c1 d1 p) (h4:Gb c2 d2 q) (h5:c1≤4000) (h6:d1≤4000) (h7:c2≤4000) (h8:d2≤4000) (h9:(z=true→1≤q.1)) (h10:∀o H',Nw H o (fr (g p q)) H'→Q (.ref o) H')
def Fm (g:KM.Fra→KM.Fra→KM.Fra) (z:Bool):Sp:=fun vs H Q _=>Ek g z vs H Q
inductive yu (vs:List V) (H:Hp) (Q:VK):Prop
 | mk (a b:Addr) (p q:KM.Fra) (h0:vs=[.ref a,.ref b]) (h1:H a=some (fr p)) (h2:H b=some (fr q)) (h3:Sz 4000 p.1) (h4:Sz 4000 p.2) (h5:Sz 4000 q.1) (h6:Sz 4000 q.2) (h7:Q (.int (p.1*q.2 - q.1*p.2)) H)
def Ai:Sp:=fun vs H Q _=>yu  vs H Q
end
end K42
namespace K42
open PySem L2
set_option maxHeartbeats 4000000
section
variable {P:Program}{w:World}{K:PySem.W.Frag}{mg:Str→Option Value}{base:Heap}
theorem ux (ns:List Int) (lo hi:Option Int):∃cs:List Int,cL (ns.map V.int) lo hi=cs.map V.int∧cs=(ns.drop (HT.sIx ns.length 0 lo)).take (HT.sIx ns.length ns.length hi - HT.sIx ns.length 0 lo):=by
 refine ⟨_,?_,rfl⟩
 unfold cL
 rw [List.length_map,List.map_take,List.map_drop]
inductive zG (K:PySem.W.Frag) (vs:List V) (H:Hp) (Q:VK):Prop
 | mk (a:Addr) (ns:List Int) (h0:vs=[.ref a,.int 4]) (h1:ap K H a (ns.map V.int)) (h2:ns.length≤63) (h3:∀(l:Addr) (bs:List Addr) (H':Hp),ae H H'→H' l=some (.lst (bs.map V.ref))→bs.length≤4→bs.Nodup→(∀b∈bs,Bx H' b 0)→Q (.ref l) H')
def Ak (K:PySem.W.Frag):Sp:=fun vs H Q _=>zG K vs H Q
theorem yN (T:Txt K mg):aT P w K mg base CX0 2 T.l_boxes_.f T.l_boxes_.d ["_law_script", "_law_cap"] (Ak K):=by
 have G_l_box:=#[(Cu)]
 refine T.l_boxes_.F.ok j9 (fun vs H Q E h=>?_) (fun cdv A outer s H vs Q E hr h=>?_)
 ·obtain ⟨a,ns,rfl,_⟩:=h
  rfl
 ·obtain ⟨a,ns,rfl,hS,hn,kk⟩:=h
  refine ⟨_,#[#[ou 2 (2) _ _ _ _ j9.nd rfl (Or.inr dN) #[bZ 9 (@nh _ (K) (by rfl)) rf T.b_list (@kU) #[[#[ip 10 (@kA _ (K) (by rfl)) #[0,jB] (@kg _) #[iF 3 #[1,fo]]]]] (by decide) (by decide) (by rfl) (by rfl)] (by rfl) (by first | exact .inl rfl | exact .inr rfl | assumption)] :: #[#[d5 8 PassesOwn.never rfl #[Bh 8 nG T.b_enumerate #[[#[ip 10 (@kA _ (K) (by rfl)) #[0,jB] #[iF 3 #[1,fo]] #[iF 3 #[()]]]]] (by rfl)] (@cQ _ (K) _ _ _ _ (2) rfl #[aw 5 #[3,j9.nd,hG] #[aw 5 #[4,j9.nd,kQ] (@dh _) (by rfl)] (by rfl)] (by rfl) (by rfl) (by rfl)) #[aa 3 #[d6 6 #[ak 8 (@br _) #[cD 7 (@Ff _ (K) (by rfl)) #[2,(dN)] #[ak 8 (@dm _) #[3,hG] #[1,fo]] (fun _ _=>rfl)] #[ak 8 (@gK _) #[4,kQ] #[ak 8 (@br _) #[3,hG] #[()]]]] #[l9 7 #[2,(dN)] #[ak 8 (@dm _) #[3,hG] #[1,fo]] (@xR _) (by intro _;rfl)] (by rfl) (by rfl) (by rfl)]] (by intro _;rfl)] :: #[aa 3 #[aB 4 #[ie 7 (["_law_k", "_law_found"]) (1) ([2]) _ _ _ _ rfl (by kernel_rfl) #[dA 6 qy T.b_range #[[#[(),(),(@xm _ rfl),sA,T.b_max,(@wo),#[[#[()],#[(),(),(@eL _ (K) (by rfl)),sS,T.b_len,(@be),#[[#[2,(dN)]]]]]]]]] (by rfl)] (fun _ _ _ _ _ _=>#[0,(),()]) (fun _ _ _ _ _ _=>@eS _) (fun _ _ _ _ _ _=>#[G_l_box,(),T.l_box_,#[[#[1,0],#[0,()]]]]) (by intro _;rfl)]]]]],?_⟩
  obtain ⟨c1,e1,q1⟩:=ux ns none (some 4)
  obtain ⟨c2,e2,q2⟩:=ux ns (some 4) (some 63)
  have l1m:c1.length=min 4 ns.length:=by
   rw [q1,show (4:Int)=((4:Nat):Int) from rfl,HT.sIx_nat,HT.sIx_none,List.length_take,List.length_drop]
   trivial
  have l2m:c2.length≤ns.length - 4:=by
   rw [q2,show (4:Int)=((4:Nat):Int) from rfl,HT.sIx_nat,List.length_take,List.length_drop]
   trivial
  refine bW fun Q0 n0=>⟨(),(),(),a,(),hS,fun p1 H1 m1=>⟨p1,(),.inl (ap.of m1.at'),fun p2 H2 m2=>n0 _ _ ?_⟩⟩
  rw [e1] at m1 m2
  have s2:=m1.sm.trans m2.sm
  have fp2:H p2=none:=m1.sm.free m2.fr
  refine bq fun D0 nD=>⟨(),(),(),(),a,(),s2.seq hS,fun p3 H3 m3=>⟨p3,rfl,⟨_,ap.of m3.at'⟩,?_⟩⟩
  rw [e2] at m3
  have n23:p2≠p3:=fun z=>by have:=m2.at';rw [z,m3.fr] at this;cases this
  refine ⟨fun i m σ H'=>m=c2.length - i∧i≤c2.length∧kF fun (ms:List Int) (v3 v4:Option V)=>σ=[some (.ref a),some (.int 4),some (.ref p2),v3,v4]∧ms.length=c1.length∧H' p2=some (.lst (ms.map V.int))∧H' p3=some (.lst (c2.map V.int))∧(∀b o,b≠p2→H b=some o→H' b=some o),⟨(),Nat.zero_le _,c1,none,none,rfl,rfl,m3.sm _ _ m2.at',m3.at',fun b o _ h=>m3.sm _ _ (s2 b o h)⟩,?_⟩
  rintro i m σ H' ⟨rfl,hi,ms,v3,v4,rfl,hms,h2,h3,hk⟩
  by_cases hlt:i<c2.length
  ·refine .inr ⟨⟨c2.map V.int,V.int c2[i],ap.of h3,by rw [List.getElem?_map];simp [hlt]⟩,_,fun σ' H'' z=>z,?_⟩
   rintro x H'' ⟨t,y,ht,rfl,rfl,hy⟩
   have hy':=hy _ (ap.of h3)
   rw [List.getElem?_map,List.getElem?_eq_getElem hlt] at hy'
   obtain rfl:V.int c2[i]=y:=Option.some.inj hy'
   have nt2:p2≠t:=aJ h2 ht
   have nt3:p3≠t:=aJ h3 ht
   have hmod0:0≤(i:Int) % 4:=Int.emod_nonneg _ (by trivial)
   have hmod1:(i:Int) % 4<4:=Int.emod_lt_of_pos _ (by trivial)
   have hixlt:((i:Int) % 4).toNat<ms.length:=by trivial
   refine ⟨t,(),af.of aD,rfl,_,(),_,(),rfl,(),(),(),_,(),rfl,(by show (0:Int)<4;decide),.inl ⟨p2,ms.map V.int,_,V.int ms[((i:Int) % 4).toNat],rfl,rfl,ap.of (by rw [ag nt2];exact h2),uX hmod0 hixlt,(),(),_,(),rfl,_,(),rfl,.inr ⟨by trivial,by trivial⟩,_,(),rfl,(),(),(),_,(),rfl,(by show (0:Int)<4;decide),p2,ms.map V.int,_,((i:Int) % 4).toNat,rfl,rfl,(by rw [ag nt2];exact h2),?_,fun H5 c5=>?_⟩⟩
   ·unfold nX
    rw [if_pos hmod0,List.length_map,if_pos (by trivial)]
   ·refine ⟨c2.length - (i+1),by trivial,rfl,hlt,ms.set ((i:Int) % 4).toNat (ms[((i:Int) % 4).toNat]+c2[i]*((i:Int)+2)),_,(),by rw [List.length_set];exact hms,by rw [c5.at',List.map_set],c5.ol _ _ (Ne.symm n23) (by rw [ag nt3];exact h3),fun b o hb h=>?_⟩
    have:=hk b o hb h
    exact c5.ol _ _ hb (by rw [ag (aJ this ht)];exact this)
  ·refine .inl ⟨⟨_,ap.of h3,by rw [List.length_map];trivial⟩,nD _ _ ?_⟩
   have sH:ae H H':=fun b o h=>hk b o (aJ h fp2) h
   have hmx:0≤(if ((ms.map V.int).length:Int) > 2 then ((ms.map V.int).length:Int) else 2)∧(if ((ms.map V.int).length:Int) > 2 then ((ms.map V.int).length:Int) else 2)≤4:=by
    rw [List.length_map]
    split <;> trivial
   refine ⟨(),p2,(),.inl (ap.of h2),_,(),(),by trivial,by trivial,?_⟩
   generalize (if ((ms.map V.int).length:Int) > 2 then ((ms.map V.int).length:Int) else 2)=mx at hmx
   intro D hD
   refine jD (n:=mx.toNat) (fun i H6 ys=>∃bs:List Addr,ys=bs.map V.ref∧H6 D=some (.lst ys)∧bs.length=i∧bs.Nodup∧(∀b∈bs,Bx H6 b 0)∧ae H' H6) (gZ (by trivial)) ⟨[],rfl,aD,rfl,List.nodup_nil,(fun b hb=>by cases hb),ae.new hD⟩ ?_ ?_ ?_ ?_ ?_
   ·rintro i H6 ys ⟨bs,rfl,e,rfl,_⟩
    exact ⟨e,by simp⟩
   ·intro i H6 ys hi _
    exact hi
   ·intro H6 ys _
    exact Nat.le_refl _
   ·rintro i H6 ys x H7 hi ⟨bs,rfl,e,lb,nb,bb,sm⟩ ⟨rfl,rfl⟩
    refine ⟨lm,(),(),p2,ms,(),ap.of (sm _ _ h2),by trivial,by trivial,fun p H8 fp s8 Bp=>?_⟩
    have e8:=s8 _ _ e
    have nf:p∉bs:=fun h=>by
     obtain ⟨_,_,q,_⟩:=bb p h
     rw [fp] at q;cases q
    have nd:D≠p:=fun z=>by rw [z,fp] at e;cases e
    have bne:∀b∈bs,b≠D:=fun b h z=>by
     obtain ⟨_,_,q,_⟩:=bb b h
     rw [z,e] at q
     injection q with q
     injection q with q
     cases bs <;> cases q
    refine ⟨e8,bs++[p],by rw [List.map_append];rfl,aD,by rw [List.length_append,lb];rfl,?_,fun b hb=>?_,fun b o h=>?_⟩
    ·rw [List.nodup_append]
     exact ⟨nb,by simp,fun u hu v hv z=>nf (by rw [List.mem_singleton.mp hv] at z;exact z▸hu)⟩
    ·have hbD:b≠D:=by
      rcases List.mem_append.mp hb with h | h
      ·exact bne b h
      ·rw [List.mem_singleton.mp h];exact Ne.symm nd
     have B8:Bx H8 b 0:=by
      rcases List.mem_append.mp hb with h | h
      ·exact (bb b h).same s8
      ·rw [List.mem_singleton.mp h];exact Bp
     exact B8.ch .mk' hbD
    ·rw [ag (fun z=>by rw [z,hD] at h;cases h)]
     exact s8 _ _ (sm _ _ h)
   ·rintro H6 ys ⟨bs,rfl,e,lb,nb,bb,sm⟩
    exact kk D bs H6 (sH.trans sm) e (by trivial) nb bb
end
end K42
namespace K42
open PySem L2
section
variable {P:Program}{w:World}{K:PySem.W.Frag}{mg:Str→Option Value}{base:Heap}
def ur (s:aq) (i:Nat):PyData:=match s.ts[i]? with
 | some t=>cG (if ((i:Nat):Int)∈s.sh then { t with most:=(0,1) } else t)
 | none=>.none
def wu (s:aq):PyData:=.tuple [.tuple (s.pl.map fun l=>.str (S l)),.tuple ((List.range s.ts.length).map (ur s))]
inductive Be (C:Addr) (vs:List V) (H:Hp) (Q:VK):Prop
 | mk (r L:Addr) (past:List aq) (cur:aq) (h0:vs=[.ref r]) (h1:aV C H r L (past++[cur])) (h2:fv 5000 past cur) (h3:∀v H',ae H H'→aS ED H' v (wu cur)→Q v H')
def CC (C:Addr):Sp:=fun vs H Q _=>Be C vs H Q
theorem ua (T:Txt K mg):aT P w K mg base CX0 2 T.f_Roads__net T.d_Roads__net ["self"] (CC T.x_Roads):=by
 have G_put_at:=#[(nY)]
 refine T.F_Roads__net.ok eX (fun vs H Q E h=>?_) (fun cdv A outer s H vs Q E hr h=>?_)
 ·obtain ⟨r,L,past,cur,rfl,_⟩:=h
  rfl
 ·obtain ⟨r,L,past,cur,rfl,R,ok,k⟩:=h
  refine ⟨_,#[#[d6 6 #[#[e7 5 #[0,o5] rfl][#[j8 6 (@iU _) #[()]]]!] (@cQ _ (K) _ _ _ _ (4) rfl #[aw 5 #[1,eX.nd,i7] #[aw 5 #[2,eX.nd,jT] #[aw 5 #[3,eX.nd,jE] #[aw 5 #[4,eX.nd,o6] (@dh _) (by rfl)] (by rfl)] (by rfl)] (by rfl)] (by rfl) (by rfl) (by rfl)) (by rfl) (by rfl) (by rfl)] :: #[aa 3 #[aB 4 #[aI 5 #[[#[1,i7],#[bZ 9 (@fV _ (K) (by rfl)) oK T.b_tuple (@g9) #[[#[ie 7 (["tie", "shut"]) (2) ([]) _ _ _ _ rfl (by kernel_rfl) (@tP _ (K) _ _ _ _ _ _ _ _ pQ T.b_zip #[[#[2,jT],#[3,jE]]] (by rfl) (by rfl) (by rfl)) (fun _ _ _ _ _ _=>(@cQ _ (K) _ _ _ _ (2) rfl #[aw 5 #[0,(),()] #[aw 5 #[1,(),()] (@dh _) (by rfl)] (by rfl)] (by rfl) (by rfl) (by rfl))) (fun _ _ _ _ _ _=>@eS _) (fun _ _ _ _ _ _=>#[fH 8 #[gU 3 #[1,()] (by intro _;rfl)] #[G_put_at,(),T.put_at_,#[[#[0,()],#[()],#[aI 5 #[[#[()],#[()]]]]]]] #[0,()]]) (by intro _;rfl)]]] (by decide) (by decide) (by rfl) (by rfl)]]]]]]],?_⟩
  obtain ⟨dx,ys,v,hr',hL,hys,hv⟩:=R.last
  obtain ⟨a,p,t,q,e,ties,rfl,ha,hp,ht,hty,hq,he⟩:=ml hv
  have lt:=hty.length
  rw [List.length_map] at lt
  have okt:=ok.cu.lt
  have ll:((dB cur).map V.bl).length=cur.ts.length:=by rw [List.length_map,jm]
  refine bq fun D0 n0=>⟨(),r,T.x_Roads,dx,_,(),hr',T.c_Roads,T.n_Roads_states,rfl,(),L,_,_,(),rfl,ap.of hL,ja _ _,a,(),af.of ha,rfl,_,(),_,(),_,(),_,(),rfl,n0 _ _ ?_⟩
  refine ⟨(),(),(),t,q,false,false,rfl,⟨ties,af.of ht⟩,⟨_,af.of hq⟩,fun D hD=>?_⟩
  refine qw (n:=cur.ts.length) (ur cur) (by trivial) hD (fun i H' hi sm=>⟨ties,_,ties[i]'(by trivial),_,af.of (sm _ _ ht),af.of (sm _ _ hq),List.getElem?_eq_getElem (by trivial),by rw [List.getElem?_map,kf hi];rfl⟩) (fun H' sm=>⟨ties,_,af.of (sm _ _ ht),af.of (sm _ _ hq),.inl lt⟩) ?_ ?_
  ·rintro i x H' H'' R' hi sm ⟨Tp,xx,yy,hT,rfl,rfl,e1,e2⟩ kk
   have e1':=e1 _ (af.of (sm _ _ ht))
   have e2':=e2 _ (af.of (sm _ _ hq))
   rw [List.getElem?_map,kf hi] at e2'
   obtain rfl:V.bl (decide ((i:Int)∈cur.sh))=yy:=Option.some.inj e2'
   have e3:cur.ts[i]?=some cur.ts[i]:=List.getElem?_eq_getElem hi
   have dj:aS ED H xx (cG cur.ts[i]):=hty.nth i e1' (by rw [List.getElem?_map,e3];rfl)
   obtain ⟨ta,m,g,pr,rfl,hta,hm,hg,hpr⟩:=vi dj
   have st:=ae.new (o:=.tup [.ref ta,.bl (decide ((i:Int)∈cur.sh))]) hT
   refine ⟨Tp,(),af.of aD,rfl,_,(),_,(),rfl,EC,(),(),?_⟩
   have sa:=sm.trans st
   by_cases hs:(i:Int)∈cur.sh
   ·rw [decide_eq_true hs] at st sa ⊢
    refine bS ⟨(),(by show 2≤10000;decide),fun p1 H1 m1=>⟨ta,_,2,.ref p1,rfl,(sa.trans m1.sm) _ _ hta,(by show 2<5;decide),(by show 5≤5000;decide),fun p2 H2 s2 h2=>?_⟩⟩
    have sb:=(sa.trans m1.sm).trans s2
    refine kk _ _ ((st.trans m1.sm).trans s2) ?_
    unfold ur
    rw [e3]
    simp only [hs,if_true]
    exact .tup h2 (.cons (.str _) (.cons (.str _) (.cons (.tup (s2 _ _ m1.at') (.cons (.int _) (.cons (.int _) .nil))) (.cons (hg.mono sb.toE) (.cons (hpr.mono sb.toE) .nil)))))
   ·rw [decide_eq_false hs] at st sa ⊢
    refine bw ⟨(),kk _ _ st ?_⟩
    unfold ur
    rw [e3]
    simp only [hs,if_false]
    exact dj.mono sa.toE
  ·intro zs H1 s1 h1 ia
   refine ⟨D,zs,rfl,ap.of h1,fun l H2 m2=>⟨(by show 2≤10000;decide),fun p3 H3 m3=>k _ _ ((s1.trans m2.sm).trans m3.sm) ?_⟩⟩
   exact .tup m3.at' (.cons (.tup (((s1.trans m2.sm).trans m3.sm) _ _ hp) (pP _)) (.cons (.tup (m3.sm _ _ m2.at') (ia.mono (m2.sm.trans m3.sm).toE)) .nil))
end
end K42
namespace K42
open PySem L2
section
variable {P:Program}{w:World}{K:PySem.W.Frag}{mg:Str→Option Value}{base:Heap}
def jQ (b:Bool) (i:Int):jf:=if b then .shut i else .opn i
inductive AG (C:Addr) (cl:RW→Addr) (pk:Option Bool) (vs:List V) (H:Hp) (Q:VK) (E:XK):Prop
 | mk (r L:Addr) (b:Bool) (i:Int) (past:List aq) (cur:aq) (h0:(vs=match pk with | none=>[.ref r,.int i,.bl b] | some _=>[.ref r,.int i])) (h1:(∀z,pk=some z→b=z)) (h2:aV C H r L (past++[cur])) (h3:fv 5000 past cur) (h4:qA C cl r L past cur (jQ b i) H Q E)
def uh (C:Addr) (cl:RW→Addr) (pk:Option Bool):Sp:=fun vs H Q E=>AG C cl pk vs H Q E
theorem p7 {s:aq}{b:Bool}{i:Int}:cW s (jQ b i)=if has s i then (if decide (i∈s.sh)=b then some .asItIs else none) else some .noTie:=by
 cases b
 ·show (if has s i then (if i∈s.sh then none else some RW.asItIs) else some .noTie)=_
  by_cases h:i∈s.sh
  ·simp [h]
  ·simp [h]
 ·show (if has s i then (if i∈s.sh then some RW.asItIs else none) else some .noTie)=_
  by_cases h:i∈s.sh
  ·simp [h]
  ·simp [h]
theorem Bt {N:Nat}{s:aq}{b:Bool}{i:Int} (h:ln N s) (hi:has s i):(b7 s (jQ b i)).pl=s.pl∧(b7 s (jQ b i)).ts=s.ts∧(b7 s (jQ b i)).en=s.en∧dB (b7 s (jQ b i))=(dB s).set i.toNat b∧jQ b i≠.back:=by
 cases b
 ·exact ⟨rfl,rfl,rfl,zc h hi,fun z=>nomatch z⟩
 ·exact ⟨rfl,rfl,rfl,y6 hi,fun z=>nomatch z⟩
theorem zb {past:List aq}{cur:aq}{b:Bool}{i:Int}:wD past cur (jQ b i)=.none:=by cases b <;> rfl
theorem pA (T:Txt K mg):aT P w K mg base (jK P w) 2 T.f_Roads__set_shut T.d_Roads__set_shut ["self", "number", "whether"] (uh T.x_Roads (tR T) none):=by
 have G_check_tie:=#[(kT)]
 have G_put_at:=#[(nY)]
 refine T.F_Roads__set_shut.okX cz (fun vs H Q E h=>?_) (fun cdv A outer s H vs Q E hr h=>?_)
 ·obtain ⟨r,L,b,i,past,cur,rfl,_⟩:=h
  rfl
 ·obtain ⟨r,L,b,i,past,cur,rfl,_,R,ok,k⟩:=h
  refine ⟨_,#[#[PS.nox 3 #[d6 6 #[#[e7 5 #[0,gI] rfl][#[j8 6 (@iU _) #[()]]]!] (@cQ _ (K) _ _ _ _ (4) rfl #[aw 5 #[3,cz.nd,fN] #[aw 5 #[4,cz.nd,dC] #[aw 5 #[5,cz.nd,de] #[aw 5 #[6,cz.nd,gN] (@dh _) (by rfl)] (by rfl)] (by rfl)] (by rfl)] (by rfl) (by rfl) (by rfl)) (by rfl) (by rfl) (by rfl)]] :: #[#[bf 4 #[ke 16 G_check_tie (hr.mono (by decide)) jy T.check_tie_.m T.check_tie_.F.kp T.check_tie_.B .nil #[my 15] #[[#[4,dC],#[1,cS]]] (by decide) (by rfl) (by rfl)] (by rfl)] :: #[#[bd 8 #[au 8 (@dJ _) #[#[5,de][#[1,cS]]] #[2,fz] #[(),()]] #[aa 3 #[kK 5 rfl #[lN 15] #[lP 8 T.q_AsItIs T.k_AsItIs kW T.m_AsItIs #[[#[kR 4]]] (by decide) (by rfl) (by rfl)]]] (@aR _)] :: #[aa 3 #[PS.nox 3 #[bf 4 (@dg _ (K) _ _ _ _ _ _ _ _ _ _ _ PySem.F.plainAttrs_list PySem.F.slot_list_append PySem.F.type_list_append (@cm _) #[e7 5 #[0,gI] rfl] #[[#[aI 5 #[[#[3,fN],#[4,dC],#[G_put_at,kM,T.put_at_,#[[#[5,de],#[1,cS],#[2,fz]]]],#[6,gN]]]]]] (by rfl) (by rfl) (by rfl) (by rfl) (by rfl) (by rfl)) (by rfl)]]]]]],?_⟩
  obtain ⟨dx,ys,v,hr',hL,hys,hv⟩:=R.last
  obtain ⟨a,p,t,q,e,ties,rfl,ha,hp,ht,hty,hq,he⟩:=ml hv
  have ly:=hys.length
  have okl:=ok.lp
  rw [List.length_map] at ly
  have lt:=hty.length
  rw [List.length_map] at lt
  have okt:=ok.cu.lt
  refine bq fun D0 n0=>⟨(),r,T.x_Roads,dx,_,(),hr',T.c_Roads,T.n_Roads_states,rfl,(),L,_,_,(),rfl,ap.of hL,ja _ _,a,(),af.of ha,rfl,_,(),_,(),_,(),_,(),rfl,n0 _ _ ?_⟩
  refine bq fun D1 n1=>⟨(),(),t,ties,i,rfl,ht,fun h2=>n1 _ _ ?_,fun h2 H' s'=>k.1 .noTie (by rw [p7,if_neg (by rw [lt] at h2;exact h2)]) H' s'⟩
  have hs:has cur i:=by rw [lt] at h2;exact h2
  obtain ⟨e1,e2,e3,e4,nb⟩:=Bt (b:=b) ok.cu hs
  obtain ⟨j,rfl⟩:=Int.eq_ofNat_of_zero_le h2.1
  have hj':j<cur.ts.length:=by trivial
  have g1:((dB cur).map V.bl)[j]?=some (V.bl (decide ((j:Int)∈cur.sh))):=by rw [List.getElem?_map,kf hj'];rfl
  refine bq fun D2 n2=>⟨(),(),q,_,_,(),rfl,af.of hq,iE g1,(),rfl,(),eJ (fun c=>?_) fun c=>n2 _ _ ?_⟩
  ·have c':decide ((j:Int)∈cur.sh)=b:=by
    have:=of_decide_eq_true c
    injection this
   exact ⟨(by show 1≤10000;decide),fun y H1 m1=>⟨y,T.x_AsItIs,none,(),m1.at',T.q_AsItIs,k.1 .asItIs (by rw [p7,if_pos hs,if_pos c']) _ (qE m1.sm m1.fr)⟩⟩
  have c':¬decide ((j:Int)∈cur.sh)=b:=fun z=>c (decide_eq_true (by rw [z]))
  have rw_:cW cur (jQ b (j:Int))=none:=by rw [p7,if_pos hs,if_neg c']
  have ll:((dB cur).map V.bl).length=cur.ts.length:=by rw [List.length_map,jm]
  refine ⟨(),r,T.x_Roads,dx,_,(),hr',T.c_Roads,T.n_Roads_states,rfl,.inl ⟨rfl,_,ap.of hL⟩,(),(),(),(),(),q,_,j,.bl b,rfl,hq,by rw [ll];exact hj',by rw [ll];exact okt,fun p1 H1 s1 h1=>⟨(),(by show 4≤10000;decide),fun p3 H3 m3=>⟨L,_,(),rfl,(s1.trans m3.sm) _ _ hL,by simp;trivial,fun H4 c4=>?_⟩⟩⟩
  have sb:=s1.trans m3.sm
  obtain ⟨R4,s4⟩:=aV.app (s':=b7 cur (jQ b (j:Int))) (sts:=past++[cur]) hr' hL (by rw [List.map_append];exact hys.append (.cons hv .nil)) sb (qH (bs:=(dB cur).set j b) m3.at' (by rw [e1];exact sb _ _ hp) (sb _ _ ht) (by rw [e2];exact hty.mono sb.toE) (by rw [m3.sm _ _ h1,List.map_set]) e4.symm (by rw [e3];exact he.mono sb.toE)) c4
  exact ld k rw_ nb s4 R4 (by rw [zb];exact .non)
theorem AJ (T:Txt K mg):aT P w K mg base (jK P w) 3 T.f_Roads__shut T.d_Roads__shut ["self", "number"] (uh T.x_Roads (tR T) (some true)):=by
 have G_Roads__set_shut:=#[(pA)]
 refine T.F_Roads__shut.okX rm (fun vs H Q E h=>?_) (fun cdv A outer s H vs Q E hr h=>?_)
 ·obtain ⟨r,L,b,i,past,cur,rfl,_⟩:=h
  rfl
 ·obtain ⟨r,L,b,i,past,cur,rfl,hk,R,ok,k⟩:=h
  cases hk _ rfl
  obtain ⟨dx,ys,v,hr',hL,hys,hv⟩:=R.last
  refine ⟨_,#[aa 3 #[bf 4 #[fX 20 #[0,oR] T.c_Roads T.h_Roads__set_shut G_Roads__set_shut (hr.mono (by decide)) T.B_Roads__set_shut .nil #[my 15] #[[#[1,mV],#[dL 4]]] (by rfl) (by rfl) (by rfl)] (by rfl)]],?_⟩
  exact ⟨(),r,dx,(),hr',rfl,(),r,L,true,i,past,cur,rfl,(fun z q=>nomatch q),R,ok,k.1,fun e v H' s R t=>by cases t;exact k.2 e .non H' s R .non⟩
theorem x9 (T:Txt K mg):aT P w K mg base (jK P w) 3 T.f_Roads__reopen T.d_Roads__reopen ["self", "number"] (uh T.x_Roads (tR T) (some false)):=by
 have G_Roads__set_shut:=#[(pA)]
 refine T.F_Roads__reopen.okX p8 (fun vs H Q E h=>?_) (fun cdv A outer s H vs Q E hr h=>?_)
 ·obtain ⟨r,L,b,i,past,cur,rfl,_⟩:=h
  rfl
 ·obtain ⟨r,L,b,i,past,cur,rfl,hk,R,ok,k⟩:=h
  cases hk _ rfl
  obtain ⟨dx,ys,v,hr',hL,hys,hv⟩:=R.last
  refine ⟨_,#[aa 3 #[bf 4 #[fX 20 #[0,mt] T.c_Roads T.h_Roads__set_shut G_Roads__set_shut (hr.mono (by decide)) T.B_Roads__set_shut .nil #[my 15] #[[#[1,lG],#[dL 4]]] (by rfl) (by rfl) (by rfl)] (by rfl)]],?_⟩
  exact ⟨(),r,dx,(),hr',rfl,(),r,L,false,i,past,cur,rfl,(fun z q=>nomatch q),R,ok,k.1,fun e v H' s R t=>by cases t;exact k.2 e .non H' s R .non⟩
inductive Bl (C:Addr) (vs:List V) (H:Hp) (Q:VK):Prop
 | mk (r L:Addr) (past:List aq) (cur:aq) (h0:vs=[.ref r]) (h1:aV C H r L (past++[cur])) (h2:Q (.int (past.length:Nat)) H)
def Ds (C:Addr):Sp:=fun vs H Q _=>Bl C vs H Q
theorem tD (T:Txt K mg):aT P w K mg base CX0 1 T.f_Roads__deeds T.d_Roads__deeds ["self"] (Ds T.x_Roads):=by
 refine T.F_Roads__deeds.ok qB (fun vs H Q E h=>?_) (fun cdv A outer s H vs Q E hr h=>?_)
 ·obtain ⟨r,L,past,cur,rfl,_⟩:=h
  rfl
 ·obtain ⟨r,L,past,cur,rfl,R,k⟩:=h
  refine ⟨_,#[aa 3 #[aB 4 #[ak 8 (@kG _) #[(),(),(@eL _ (K) (by rfl)),nK,T.b_len,(@be),#[[#[e7 5 #[0,ny] rfl]]]] #[()]]]],?_⟩
  obtain ⟨dx,ys,v,hr',hL,hys,hv⟩:=R.last
  have ly:=hys.length
  rw [List.length_map] at ly
  refine ⟨(),r,T.x_Roads,dx,_,(),hr',T.c_Roads,T.n_Roads_states,rfl,L,(),.inl (ap.of hL),_,(),rfl,?_⟩
  have e:(((ys++[v]).length:Nat):Int) - 1=(past.length:Nat):=by simp;trivial
  show Q (V.int ((((ys++[v]).length:Nat):Int) - 1)) H
  rw [e]
  exact k
inductive A4 (C:Addr) (vs:List V) (H:Hp) (Q:VK):Prop
 | mk (r L:Addr) (past:List aq) (cur:aq) (h0:vs=[.ref r]) (h1:aV C H r L (past++[cur])) (h2:∀H',aE (Eb L) H H'→aV C H' r L (kN past cur .back++[kY past cur .back])→Q (.bl (!past.isEmpty)) H')
def CM (C:Addr):Sp:=fun vs H Q _=>A4 C vs H Q
theorem Br (T:Txt K mg):aT P w K mg base CX0 2 T.f_Roads__back T.d_Roads__back ["self"] (CM T.x_Roads):=by
 have G_Roads__deeds:=#[(tD)]
 refine T.F_Roads__back.ok qX (fun vs H Q E h=>?_) (fun cdv A outer s H vs Q E hr h=>?_)
 ·obtain ⟨r,L,past,cur,rfl,_⟩:=h
  rfl
 ·obtain ⟨r,L,past,cur,rfl,R,k⟩:=h
  refine ⟨_,#[#[bd 8 #[au 8 (@dJ _) #[cU 17 #[0,jz] T.c_Roads T.h_Roads__deeds G_Roads__deeds (hr.mono (by decide)) T.B_Roads__deeds .nil (@eH _) (by rfl)] #[()] #[(),()]] #[aa 3 #[aB 4 #[dL 4]]] (@aR _)] :: #[#[bf 4 #[BX 9 PySem.F.plainAttrs_list PySem.F.slot_list_pop PySem.F.type_list_pop (@AN _) #[e7 5 #[0,jz] rfl] (by rfl) (by rfl)] (by rfl)] :: #[aa 3 #[aB 4 #[dL 4]]]]],?_⟩
  obtain ⟨dx,ys,v,hr',hL,hys,hv⟩:=R.last
  refine oh fun D0 n0 r0=>⟨(),r,dx,(),hr',rfl,r,L,past,cur,rfl,R,rfl,(),?_⟩
  rcases jZ past with rfl | ⟨pp,z,rfl⟩
  ·exact bS (r0 _ _ (k H (aE.refl _) R))
  ·rw [decide_eq_false (show ¬(V.int (((pp++[z]).length:Nat):Int)=V.int 0) from fun q=>by injection q with q;simp at q;trivial)]
   refine bw (n0 _ _ ?_)
   refine bq fun D1 n1=>⟨(),r,T.x_Roads,dx,_,(),hr',T.c_Roads,T.n_Roads_states,rfl,.inl ⟨rfl,_,ap.of hL⟩,L,ys,v,rfl,rfl,hL,fun H1 c1=>n1 _ _ ?_⟩
   have se:=Ch.sameE (ae.refl H) hL c1
   have e:(!(pp++[z]).isEmpty)=true:=by cases pp <;> rfl
   have k1:=k H1 se (by
    rw [fS.1,fS.2]
    exact ⟨dx,ys,se.old _ _ R.ne hr',c1.at',hys.tupS se⟩)
   rw [e] at k1
   exact k1
inductive As (C:Addr) (c:Addr) (vs:List V) (H:Hp) (Q:VK) (E:XK):Prop
 | mk (r L:Addr) (i:Int) (past:List aq) (cur:aq) (h0:vs=[.ref r,.int i]) (h1:aV C H r L (past++[cur])) (h2:(has cur i→Q (.bl (decide (i∈cur.sh))) H)) (h3:(¬has cur i→∀H',ae H H'→E (.ref c) none H'))
def CA (C:Addr) (c:Addr):Sp:=fun vs H Q E=>As C c vs H Q E
theorem wx (T:Txt K mg):aT P w K mg base (jK P w) 2 T.f_Roads__is_shut T.d_Roads__is_shut ["self", "number"] (CA T.x_Roads T.x_NoTie):=by
 have G_check_tie:=#[(kT)]
 refine T.F_Roads__is_shut.okX jO (fun vs H Q E h=>?_) (fun cdv A outer s H vs Q E hr h=>?_)
 ·obtain ⟨r,L,i,past,cur,rfl,_⟩:=h
  rfl
 ·obtain ⟨r,L,i,past,cur,rfl,R,k1,k2⟩:=h
  refine ⟨_,#[#[PS.nox 3 #[2,jO.nd,dF,#[#[#[e7 5 #[0,lV] rfl][#[j8 6 (@iU _) #[()]]]!][#[()]]]]] :: #[#[bf 4 #[ke 16 G_check_tie (hr.mono (by decide)) jG T.check_tie_.m T.check_tie_.F.kp T.check_tie_.B .nil #[my 15] #[[#[2,dF],#[1,gl]]] (by decide) (by rfl) (by rfl)] (by rfl)] :: #[aa 3 #[PS.nox 3 #[aB 4 #[#[2,dF][#[1,gl]]]]]]]],?_⟩
  obtain ⟨dx,ys,v,hr',hL,hys,hv⟩:=R.last
  obtain ⟨a,p,t,q,e,ties,rfl,ha,hp,ht,hty,hq,he⟩:=ml hv
  have ll:((dB cur).map V.bl).length=cur.ts.length:=by rw [List.length_map,jm]
  refine bW fun Q1 n1=>⟨(),r,T.x_Roads,dx,_,(),hr',T.c_Roads,T.n_Roads_states,rfl,(),L,_,_,(),rfl,ap.of hL,ja _ _,a,_,_,(),rfl,af.of ha,rfl,n1 _ _ ?_⟩
  refine bq fun D1 n1=>⟨(),(),q,_,i,rfl,hq,fun h2=>n1 _ _ ?_,fun h2 H' s'=>k2 (by rw [ll] at h2;exact h2) H' s'⟩
  have hs:has cur i:=by rw [ll] at h2;exact h2
  have k3:=k1 hs
  obtain ⟨j,rfl⟩:=Int.eq_ofNat_of_zero_le h2.1
  have hj':j<cur.ts.length:=by trivial
  have g1:((dB cur).map V.bl)[j]?=some (V.bl (decide ((j:Int)∈cur.sh))):=by rw [List.getElem?_map,kf hj'];rfl
  exact ⟨(),(),q,_,_,(),rfl,af.of hq,iE g1,k3⟩
end
end K42
namespace K42
open PySem L2
set_option maxHeartbeats 4000000
theorem xA {K:PySem.W.Frag}{a:Addr}{c:Bool}{xs:List V}{g:TG}{tb:TS}{D:cy}{σ:St}{H:Hp} (Pv:Nat→St→Hp→Prop) (h0:Pv 0 σ H) (hl:∀i σ H,i≤xs.length→Pv i σ H→i8 K H a xs c)
 (hs:∀i x T σ H,xs[i]?=some x→H T=none→Pv i σ H→g (.ref T) σ (aC H T (.tup [.int (i:Int),x])) fun σ2 H2=>tb { D with nx:=Pv (i+1),ct:=Pv (i+1),bk:=D.nx } σ2 H2) (hd:∀σ H,Pv xs.length σ H→D.nx σ H) :
 ∃W:Nat→Nat→St→Hp→Prop,(∃m,W 0 m σ H)∧∀i m σ H,W i m σ H→
  ((uF K a c).stop i H∧D.nx σ H)∨((uF K a c).go i H∧∃N:St→Hp→Prop,(∀σ' H',N σ' H'→∃m',m'<m∧W (i+1) m' σ' H')∧∀x H',(uF K a c).yld i H x H'→g x σ H' fun σ2 H2=>tb { D with nx:=N,ct:=N,bk:=D.nx } σ2 H2):=by
 refine ⟨fun i m σ H=>m=xs.length - i∧i≤xs.length∧Pv i σ H,⟨xs.length,by simp,Nat.zero_le _,h0⟩,?_⟩
 rintro i m σ H ⟨rfl,hi,p⟩
 have q1:=hl i σ H hi p
 by_cases hlt:i<xs.length
 ·refine .inr ⟨⟨xs,xs[i],q1,by simp [hlt]⟩,Pv (i+1),fun σ' H' p'=>⟨xs.length - (i+1),by trivial,rfl,hlt,p'⟩,fun x H' y=>?_⟩
  obtain ⟨T,u,hT,rfl,rfl,e1⟩:=y
  exact hs i u T σ H (e1 xs q1) hT p
 ·have e:i=xs.length:=by trivial
  subst e
  exact .inl ⟨⟨xs,q1,rfl⟩,hd _ _ p⟩
theorem ee {E:Addr→Prop}{H:Hp}{v:V}{ls:List (List Nat)}{ts:List aj} (h:aS E H v (ji ls ts)):kz fun a p q ys=>v=.ref a∧H a=some (.tup [.ref p,.ref q])∧H p=some (.tup (ls.map aQ))∧H q=some (.tup ys)∧am E H ys (ts.map cG):=by
 have sall:∀{ls:List (List Nat)}{xs:List V},am E H xs (ls.map fun l=>PyData.str (S l))→xs=ls.map aQ:=by
  intro ls
  induction ls with
  | nil=>intro xs h;cases h;rfl
  | cons l r ih=>
   intro xs h
   cases h with
   | cons h1 h2=>cases h1;rw [ih h2];rfl
 cases h with
 | @tup a xs _ h r=>
  cases r with
  | cons h1 r=>
  cases r with
  | cons h2 r=>
  cases r
  cases h1 with
  | @tup p ps _ hp rp=>
  cases h2 with
  | @tup q ys _ hq rq=>
   have e:=sall rp
   subst e
   exact ⟨a,p,q,ys,rfl,h,hp,hq,rq⟩
theorem fC {E:Addr→Prop}{H:Hp}{v:V}{t:aj} (h:aS E H v (cG t)):kz fun a om og op=>v=.ref a∧H a=some (.tup [.str (S t.bg),.str (S t.en),.ref om,.ref og,.ref op])∧H om=some (fr t.most)∧H og=some (fr t.gain)∧H op=some (fr t.price):=by
 cases h with
 | @tup a xs _ h r=>
  cases r with
  | @cons u1 _ _ _ h1 r=>
  cases r with
  | @cons u2 _ _ _ h2 r=>
  cases r with
  | @cons u3 _ _ _ h3 r=>
  cases r with
  | @cons u4 _ _ _ h4 r=>
  cases r with
  | @cons u5 _ _ _ h5 r=>
  cases r
  cases h1
  cases h2
  obtain ⟨om,rfl,ho⟩:=rd h3
  obtain ⟨og,rfl,hg⟩:=rd h4
  obtain ⟨op,rfl,hp⟩:=rd h5
  exact ⟨a,om,og,op,rfl,h,ho,hg,hp⟩
theorem tS {H H':Hp}{D:Addr}{ys zs:List V}{ds:List PyData}{v:V}{d:PyData} (c:Ch H D zs H') (hD:H D=some (.lst ys)) (i:am ED H ys ds) (iv:aS ED H v d):am ED H' (ys++[v]) (ds++[d]):=
 (i.mono ⟨fun _ _ n _=>absurd trivial n,fun _ _ e=>c.tup e hD⟩).append (.cons (iv.tupC c hD) .nil)
theorem Fu:Gb 1 1 (1,1):=⟨show (1:Int).natAbs<2 ^ 1 by decide,show (1:Int).natAbs<2 ^ 1 by decide,by decide⟩
structure iB (ls:List (List Nat)) (t:aj):Prop where
 b:t.bg∈ls
 e:t.en∈ls
 ne:t.bg≠t.en
 fm:Gb 20 4 t.most
 fg:Gb 6 6 t.gain
 g1:1≤t.gain.1
 fp:Gb 24 24 t.price
 m0:0≤t.most.1
 mc:Int.gcd t.most.1 t.most.2=1
section
variable {P:Program}{w:World}{K:PySem.W.Frag}{mg:Str→Option Value}{base:Heap}
theorem gz {a b:Nat}{p:KM.Fra} (h:Gb a b p) (ha:a≤4000) (hb:b≤4000):Sz 4000 p.1∧Sz 4000 p.2:=⟨h.n.mono ha,h.d.mono hb⟩
theorem gd {a b c d:Nat}{p q:KM.Fra} (h:Gb a b p) (k:Gb c d q):p.2*q.2≠0:=Int.mul_ne_zero (by have:=h.pos;trivial) (by have:=k.pos;trivial)
theorem BK {i j:Int}:decide (0<tw i j)=decide (j<i):=by
 unfold tw
 by_cases h:i<j
 ·rw [if_pos h,decide_eq_false (show ¬j<i by trivial)];rfl
 ·rw [if_neg h]
  by_cases h2:j<i
  ·rw [if_pos h2,decide_eq_true h2];rfl
  ·rw [if_neg h2,decide_eq_false h2];rfl
end
end K42
namespace K42
open PySem L2
set_option maxHeartbeats 4000000
theorem CZ (p:KM.Fra):PyData.eqv (cZ p) (cZ (0,1))=decide (p=(0,1)):=by
 have e1:PyData.eqv (cZ p) (cZ (0,1))=(p.1==0 && (p.2==1 && true)):=by simp [PyData.eqv,PyData.eqvAll]
 rw [e1]
 obtain ⟨a,b⟩:=p
 by_cases h1:a=0
 ·by_cases h2:b=1
  ·subst h1 h2;rfl
  ·simp [h1,h2]
 ·simp [h1]
theorem vZ {p:KM.Fra}{a b:Nat} (h:Gb a b p) (ha:a≤1900) (hb:b≤1900):Wt (cZ p) 3 1:=.tuple (.cons (.int (h.n.mono ha)) (.cons (.int (h.d.mono hb)) .nil))
theorem FH:Gb 1 1 (0,1):=⟨show (0:Int).natAbs<2 ^ 1 by decide,show (1:Int).natAbs<2 ^ 1 by decide,by decide⟩
section
variable {P:Program}{w:World}{K:PySem.W.Frag}{mg:Str→Option Value}{base:Heap}
inductive yT (vs:List V) (H:Hp) (Q:VK):Prop
 | mk (v:V) (t:aj) (ls:List (List Nat)) (h0:vs=[v]) (h1:aS ED H v (cG t)) (h2:iB ls t) (h3:∀H',ae H H'→Q (.bl (decide (t.most=(0,1)))) H')
def AV:Sp:=fun vs H Q _=>yT  vs H Q
theorem uJ (T:Txt K mg):aT P w K mg base CX0 1 T.is_shut_.f T.is_shut_.d ["tie"] AV:=by
 refine T.is_shut_.F.ok wM (fun vs H Q E h=>?_) (fun cdv A outer s H vs Q E hr h=>?_)
 ·obtain ⟨v,t,ls,rfl,_⟩:=h
  rfl
 ·obtain ⟨v,t,ls,rfl,hv,tc,k⟩:=h
  obtain ⟨o,om,og,op,rfl,ho,hom,hog,hop⟩:=fC hv
  refine ⟨_,#[aa 3 #[aB 4 #[fh 8 (@BB _ hr.units) #[#[0,sP][#[()]]] #[aI 5 #[[#[()],#[()]]]] #[(),()]]]],?_⟩
  refine ⟨(),o,_,_,(),rfl,af.of ho,rfl,(by show 2≤10000;decide),fun q H1 n1=>⟨cZ t.most,cZ (0,1),ED,ED,_,_,_,_,jP (n1.sm _ _ hom),jP (p:=(0,1)) n1.at',vZ tc.fm (by decide) (by decide),vZ FH (by decide) (by decide),by decide,?_⟩⟩
  have:=k H1 n1.sm
  rw [←CZ] at this
  exact this
inductive DW (H:Hp) (W:Addr) (ls:List (List Nat)) (ω:List Nat→KM.Fra) (n:Nat):Prop
 | mk (kvs:_) (h0:H W=some (.dK kvs)) (h1:kvs.length≤n) (h2:∀l∈ls,∃o,valD kvs (Sum.inr (S l))=some (.ref o)∧H o=some (fr (ω l)))
inductive DO (H:Hp) (O:Addr) (ls:List (List Nat)) (on:List Nat→Option Nat) (n:Nat):Prop
 | mk (kvs:_) (h0:H O=some (.dK kvs)) (h1:kvs.length≤n) (h2:∀l∈ls,valD kvs (Sum.inr (S l))=(on l).map fun k:Nat=>V.int (k:Int))
def ue:Option (List Nat)→V
 | none=>.non
 | some l=>aQ l
def qg (W O:Addr) (H H':Hp):Prop:=∀a o,a≠W→a≠O→H a=some o→H' a=some o
theorem qg.tup {W O a:Addr}{H H':Hp}{k1 k2:List (aA×V)}{us:List V} (h:qg W O H H') (hW:H W=some (.dK k1)) (hO:H O=some (.dK k2)) (ha:H a=some (.tup us)):H' a=some (.tup us):=
 h a _ (fun z=>by rw [z,hW] at ha;cases ha) (fun z=>by rw [z,hO] at ha;cases ha) ha
theorem pH (kvs:List (aA×V)) (k:aA) (v:V):(cB kvs k v).length≤kvs.length+1:=by
 unfold cB
 split
 ·rw [List.length_map];trivial
 ·rw [List.length_append];exact Nat.le_refl _
theorem uv {a b:List Nat} (h:a≠b):(Sum.inr (S a):aA)≠Sum.inr (S b):=fun z=>by
 injection z with z
 exact h (qt z)
theorem iB.tok {ls:List (List Nat)}{t:aj} (h:iB ls t):lX ls t:=⟨h.b,h.e,h.ne,h.g1,h.fg.pos⟩
inductive Bn (vs:List V) (H:Hp) (Q:VK):Prop
 | mk (v:V) (W O:Addr) (ls:List (List Nat)) (ts:List aj) (s:LS) (p n c:Nat) (h0:vs=[v,.ref W,.ref O]) (h1:aS ED H v (ji ls ts)) (h2:(∀t∈ts,iB ls t)) (h3:ts.length≤40) (h4:¬W=O) (h5:DW H W ls s.ω n) (h6:DO H O ls s.on n) (h7:n≤3000) (h8:(∀l∈ls,Gb c c (s.ω l)∧1≤(s.ω l).1)) (h9:c≤2000) (h10:∀H':Hp,qg W O H H'→DW H' W ls (j0 p ts s).ω (n+ts.length)→DO H' O ls (j0 p ts s).on (n+ts.length)→(∀l∈ls,Gb (c+6*ts.length) (c+6*ts.length) ((j0 p ts s).ω l)∧1≤((j0 p ts s).ω l).1)→Q (ue (j0 p ts s).lf) H')
def CY:Sp:=fun vs H Q _=>Bn  vs H Q
theorem tx (T:Txt K mg):aT P w K mg base CX0 4 T.lift_once_.f T.lift_once_.d ["net", "worths", "onward"] CY:=by
 have G_is_shut:=#[(uJ)]
 have G_times:=#[(yC)]
 have G_compared:=#[(uQ)]
 refine T.lift_once_.F.ok bu (fun vs H Q E h=>?_) (fun cdv A outer s H vs Q E hr h=>?_)
 ·obtain ⟨v,W,O,ls,ts,st,p,n,c,rfl,_⟩:=h
  rfl
 ·obtain ⟨v,W,O,ls,ts,st,p,n,c,rfl,hv,tc,h40,nWO,⟨kv0,hW0,lW0,vW0⟩,⟨ko0,hO0,lO0,vO0⟩,hn,gω,hc,k⟩:=h
  obtain ⟨na,pa,ta,ys,rfl,hna,hpa,hta,ity⟩:=ee hv
  have lys:ys.length=ts.length:=by rw [ity.length,List.length_map]
  refine ⟨_,#[#[3,bu.nd,fF,#[gJ 3]] :: #[#[d5 8 PassesOwn.never rfl (@yS _ (K) _ _ _ _ _ _ _ mf T.b_enumerate #[[#[#[0,qe][#[()]]]]] (by rfl) (by rfl)) (@cQ _ (K) _ _ _ _ (2) rfl #[aw 5 #[4,bu.nd,jv] #[aw 5 #[5,bu.nd,iJ] (@dh _) (by rfl)] (by rfl)] (by rfl) (by rfl) (by rfl)) #[#[d6 6 #[5,iJ] (@cQ _ (K) _ _ _ _ (5) rfl #[aw 5 #[6,bu.nd,bX] #[aw 5 #[7,bu.nd,iO] #[aw 5 #[8,bu.nd,qa] #[aw 5 #[9,bu.nd,kB] #[aw 5 #[10,bu.nd,pd] (@dh _) (by rfl)] (by rfl)] (by rfl)] (by rfl)] (by rfl)] (by rfl) (by rfl) (by rfl)) (by rfl) (by rfl) (by rfl)] :: #[#[bd 8 #[PW.pt 3 #[mR 7 #[gU 3 #[G_is_shut,nI,T.is_shut_,#[[#[5,iJ]]]] (by intro _;rfl)] #[l6 4 #[au 8 (@qp _) #[7,iO] #[1,cr] rfl]]]] #[aa 3 #[uU 2]] (@aR _)] :: #[#[11,bu.nd,gu,#[G_times,ph,T.times_,#[[#[9,kB],#[cD 7 (@kh _) #[1,cr] #[7,iO] (fun _ _=>rfl)]]]]] :: #[aa 3 #[bd 8 #[PW.pt 3 #[mR 7 #[au 8 (@qp _) #[6,bX] #[1,cr] rfl] #[l6 4 #[au 8 (@jr _) #[G_compared,mU,T.compared_,#[[#[11,gu],#[cD 7 (@kh _) #[1,cr] #[6,bX] (fun _ _=>rfl)]]]] #[()] #[(),()]]]]] #[#[d6 6 #[11,gu] #[l9 7 #[1,cr] #[6,bX] (@pS _) (by intro _;rfl)] (by rfl) (by rfl) (by rfl)] :: #[#[d6 6 #[4,jv] #[l9 7 #[2,oA] #[6,bX] (@pS _) (by intro _;rfl)] (by rfl) (by rfl) (by rfl)] :: #[aa 3 #[3,bu.nd,fF,#[6,bX]]]]] (@aR _)]]]]] (by intro _;rfl)] :: #[aa 3 #[aB 4 #[3,fF]]]]],?_⟩
  refine bW fun Q1 nA=>nA _ _ ?_
  refine bq fun DB nB=>?_
  refine ⟨(),na,_,_,(),rfl,af.of hna,rfl,ta,false,rfl,⟨ys,af.of hta⟩,xA (xs:=ys) (fun i σ H'=>zj fun (v4 v5 v6 v7 v8 v9 v10 v11:Option V) (kv ko:List (aA×V))=>σ=[some (.ref na),some (.ref W),some (.ref O),some (ue (bT p ts st i).lf),v4,v5,v6,v7,v8,v9,v10,v11]∧H' W=some (.dK kv)∧kv.length≤n+i∧(∀l∈ls,∃o,valD kv (Sum.inr (S l))=some (.ref o)∧H' o=some (fr ((bT p ts st i).ω l)))∧H' O=some (.dK ko)∧ko.length≤n+i∧(∀l∈ls,valD ko (Sum.inr (S l))=((bT p ts st i).on l).map fun k:Nat=>V.int (k:Int))∧(∀l∈ls,Gb (c+6*i) (c+6*i) ((bT p ts st i).ω l)∧1≤((bT p ts st i).ω l).1)∧qg W O H H') ⟨_,_,_,_,_,_,_,_,kv0,ko0,rfl,hW0,by trivial,vW0,hO0,by trivial,vO0,gω,fun _ _ _ _ h=>h⟩ ?_ ?_ ?_⟩
  ·rintro i σ H' _ ⟨v4,v5,v6,v7,v8,v9,v10,v11,kv,ko,rfl,_,_,_,_,_,_,_,f2⟩
   exact af.of (f2.tup hW0 hO0 hta)
  ·rintro i x T' σ J0 hx hT ⟨v4,v5,v6,v7,v8,v9,v10,v11,kv,ko,rfl,hW,lW,vW,hO,lO,vO,gω,f2⟩
   have hi:i<ys.length:=(List.getElem?_eq_some_iff.mp hx).1
   have nT:Nw J0 T' (.tup [.int (i:Int),x]) (aC J0 T' (.tup [.int (i:Int),x])):=.mk' hT
   generalize aC J0 T' (.tup [.int (i:Int),x])=J1 at nT ⊢
   obtain ⟨dy,edy,gy⟩:=ity.get hx
   rw [List.getElem?_map] at edy
   obtain ⟨t,et,rfl⟩:=Option.map_eq_some_iff.mp edy
   have tt:=tc t (List.mem_of_getElem? et)
   have eU:=nS (p:=p) (s:=st) et
   obtain ⟨o,om,og,op,rfl,ho,hom,hog,hop⟩:=fC gy
   generalize bT p ts st i=U at eU vW vO gω ⊢
   have up1:∀{a:Addr}{us:List V},H a=some (.tup us)→J1 a=some (.tup us):=fun h=>nT.sm _ _ (f2.tup hW0 hO0 h)
   have gyJ:aS ED J1 (.ref o) (cG t):=.tup (up1 ho) (.cons (.str _) (.cons (.str _) (.cons (jP (p:=t.most) (up1 hom)) (.cons (jP (p:=t.gain) (up1 hog)) (.cons (jP (p:=t.price) (up1 hop)) .nil)))))
   have grow:∀l∈ls,Gb (c+6*(i+1)) (c+6*(i+1)) (U.ω l)∧1≤(U.ω l).1:=fun l hl=>⟨(gω l hl).1.mono (by trivial) (by trivial),(gω l hl).2⟩
   have keep:∀{J:Hp}{w4 w5 w6 w7 w8 w9 w10 w11:Option V},eO U.ω t=false→ae J0 J→zj fun (v4 v5 v6 v7 v8 v9 v10 v11:Option V) (kv ko:List (aA×V))=>[some (V.ref na),some (.ref W),some (.ref O),some (ue U.lf),w4,w5,w6,w7,w8,w9,w10,w11]=[some (.ref na),some (.ref W),some (.ref O),some (ue (bT p ts st (i+1)).lf),v4,v5,v6,v7,v8,v9,v10,v11]∧J W=some (.dK kv)∧kv.length≤n+(i+1)∧(∀l∈ls,∃o,valD kv (Sum.inr (S l))=some (.ref o)∧J o=some (fr ((bT p ts st (i+1)).ω l)))∧J O=some (.dK ko)∧ko.length≤n+(i+1)∧(∀l∈ls,valD ko (Sum.inr (S l))=((bT p ts st (i+1)).on l).map fun k:Nat=>V.int (k:Int))∧(∀l∈ls,Gb (c+6*(i+1)) (c+6*(i+1)) ((bT p ts st (i+1)).ω l)∧1≤((bT p ts st (i+1)).ω l).1)∧qg W O H J:=by
    intro J w4 w5 w6 w7 w8 w9 w10 w11 no sJ
    rw [eU,pL no]
    exact ⟨_,_,_,_,_,_,_,_,kv,ko,rfl,sJ _ _ hW,by trivial,(fun l hl'=>let ⟨o',v',h'⟩:=vW l hl';⟨o',v',sJ _ _ h'⟩),sJ _ _ hO,by trivial,vO,grow,fun a u h1 h2 h=>sJ _ _ (f2 a u h1 h2 h)⟩
   refine ⟨T',(),af.of nT.at',rfl,_,(),_,(),rfl,?_⟩
   dsimp only
   refine ⟨(),o,(),af.of (up1 ho),rfl,_,(),_,(),_,(),_,(),_,(),rfl,?_⟩
   dsimp only
   refine vR (fun σ' H'=>t.most≠(0,1)∧σ'=[some (.ref na),some (.ref W),some (.ref O),some (ue U.lf),some (.int (i:Int)),some (.ref o),some (.str (S t.bg)),some (.str (S t.en)),some (.ref om),some (.ref og),some (.ref op),v11]∧ae J1 H') ?_ fun nx=>?_
   ·rintro σ' J2 ⟨hopen,rfl,s2⟩
    have s02:=nT.sm.trans s2
    obtain ⟨oe,ve,hoe⟩:=vW t.en tt.e
    obtain ⟨ob,vb,hob⟩:=vW t.bg tt.b
    obtain ⟨ge,pe1⟩:=gω t.en tt.e
    obtain ⟨gb,pb1⟩:=gω t.bg tt.b
    obtain ⟨g1,g2⟩:=gz tt.fg (by decide) (by decide)
    obtain ⟨e1,e2⟩:=gz ge (by trivial) (by trivial)
    obtain ⟨b1,b2⟩:=gz gb (by trivial) (by trivial)
    refine bW fun Q2 nA2=>⟨(),(),(),W,kv,Sum.inr (S t.en),.ref oe,rfl,rfl,s02 _ _ hW,ve,og,oe,_,_,_,(),s2 _ _ (up1 hog),s02 _ _ hoe,⟨g1,g2,e1,e2,gd tt.fg ge⟩,fun q J3 n3=>nA2 _ _ ?_⟩
    have gq:Gb (c+6*(i+1)) (c+6*(i+1)) (KM.lTim t.gain (U.ω t.en)):=tt.fg.tim ge (by trivial) (by trivial)
    obtain ⟨q1,q2⟩:=gz gq (by trivial) (by trivial)
    have s03:=s02.trans n3.sm
    refine ⟨(),(),W,kv,Sum.inr (S t.bg),rfl,rfl,s03 _ _ hW,(),?_⟩
    rw [vb]
    refine bw ?_
    refine ⟨(),(),(),W,kv,Sum.inr (S t.bg),.ref ob,rfl,rfl,s03 _ _ hW,vb,q,ob,_,_,_,(),n3.at',s03 _ _ hob,q1,q2,b1,b2,_,(),rfl,(),?_⟩
    have ecmp:decide (0<tw ((KM.lTim t.gain (U.ω t.en)).1*(U.ω t.bg).2) ((U.ω t.bg).1*(KM.lTim t.gain (U.ω t.en)).2))=eO U.ω t:=by
     unfold eO
     rw [decide_eq_true hopen,Bool.true_and]
     exact BK
    refine eJ (fun cnd=>?_) (fun cnd=>?_)
    ·have hl:eO U.ω t=true:=ecmp.symm.trans cnd
     refine bq fun DC nC=>⟨(),(),(),W,kv,Sum.inr (S t.bg),rfl,rfl,s03 _ _ hW,by trivial,fun J4 c4=>nC _ _ ?_⟩
     have hO4:=c4.ol O _ (fun z=>nWO z.symm) (s03 _ _ hO)
     refine bq fun DE nE=>⟨(),(),(),O,ko,Sum.inr (S t.bg),rfl,rfl,hO4,by trivial,fun J5 c5=>nE _ _ ?_⟩
     have tupJ:∀{a:Addr}{us:List V},J3 a=some (.tup us)→J5 a=some (.tup us):=fun {a us} h=>c5.ol a _ (fun z=>by rw [z,s03 _ _ hO] at h;cases h) (c4.ol a _ (fun z=>by rw [z,s03 _ _ hW] at h;cases h) h)
     have fin:zj fun (v4 v5 v6 v7 v8 v9 v10 v11:Option V) (kv ko:List (aA×V))=>[some (V.ref na),some (.ref W),some (.ref O),some (.str (S t.bg)),some (.int (i:Int)),some (.ref o),some (.str (S t.bg)),some (.str (S t.en)),some (.ref om),some (.ref og),some (.ref op),some (.ref q)]=[some (.ref na),some (.ref W),some (.ref O),some (ue (bT p ts st (i+1)).lf),v4,v5,v6,v7,v8,v9,v10,v11]∧J5 W=some (.dK kv)∧kv.length≤n+(i+1)∧(∀l∈ls,∃o,valD kv (Sum.inr (S l))=some (.ref o)∧J5 o=some (fr ((bT p ts st (i+1)).ω l)))∧J5 O=some (.dK ko)∧ko.length≤n+(i+1)∧(∀l∈ls,valD ko (Sum.inr (S l))=((bT p ts st (i+1)).on l).map fun k:Nat=>V.int (k:Int))∧(∀l∈ls,Gb (c+6*(i+1)) (c+6*(i+1)) ((bT p ts st (i+1)).ω l)∧1≤((bT p ts st (i+1)).ω l).1)∧qg W O H J5:=by
      rw [eU,oE hl]
      refine ⟨_,_,_,_,_,_,_,_,_,(),c5.ol W _ nWO c4.at',by have:=pH kv (Sum.inr (S t.bg)) (.ref q);trivial,fun l hl'=>?_,c5.at',by have:=pH ko (Sum.inr (S t.bg)) (.int (i:Int));trivial,fun l hl'=>?_,fun l hl'=>?_,fun a u h1 h2 h=>c5.ol a _ h2 (c4.ol a _ h1 (s03 _ _ (f2 a u h1 h2 h)))⟩
      ·rw [nR]
       by_cases cl:l=t.bg
       ·subst cl
        refine ⟨q,if_pos rfl,?_⟩
        show J5 q=some (fr (dc _ _ _ _))
        unfold dc
        rw [if_pos rfl]
        exact tupJ n3.at'
       ·rw [if_neg (uv cl)]
        obtain ⟨o',v',h'⟩:=vW l hl'
        refine ⟨o',v',?_⟩
        show J5 o'=some (fr (dc _ _ _ _))
        unfold dc
        rw [if_neg cl]
        exact tupJ (s03 _ _ h')
      ·rw [nR]
       by_cases cl:l=t.bg
       ·subst cl
        rw [if_pos rfl]
        show _=Option.map _ (if _ then _ else _)
        rw [if_pos rfl]
        rfl
       ·rw [if_neg (uv cl),vO l hl']
        show _=Option.map _ (if _ then _ else _)
        rw [if_neg cl]
      ·show Gb _ _ (dc _ _ _ _)∧1≤(dc _ _ _ _).1
       unfold dc
       by_cases cl:l=t.bg
       ·rw [if_pos cl];exact ⟨gq,vt tt.g1 tt.fg.pos pe1 ge.pos⟩
       ·rw [if_neg cl];exact grow l hl'
     exact ⟨(),fin⟩
    ·have hl:eO U.ω t=false:=by
      rw [←ecmp]
      exact Bool.eq_false_iff.mpr cnd
     exact keep hl s03
   ·refine ⟨(),.ref o,t,ls,rfl,gyJ,tt,fun J2 s2=>⟨(),?_⟩⟩
    have s02:=nT.sm.trans s2
    by_cases hs:t.most=(0,1)
    ·rw [decide_eq_true hs]
     refine bS (bS ?_)
     exact keep (by unfold eO;rw [decide_eq_false (fun z=>z hs)];rfl) s02
    ·rw [decide_eq_false hs]
     obtain ⟨oe,ve,hoe⟩:=vW t.en tt.e
     refine bw ⟨(),(),W,kv,Sum.inr (S t.en),rfl,rfl,s02 _ _ hW,(),?_⟩
     rw [ve]
     exact bw (nx _ _ ⟨hs,rfl,s2⟩)
  ·rintro σ J ⟨v4,v5,v6,v7,v8,v9,v10,v11,kv,ko,rfl,hW,lW,vW,hO,lO,vO,gω,f2⟩
   rw [lys] at lW lO gω vW vO ⊢
   exact nB _ _ ⟨(),k J f2 ⟨kv,hW,by trivial,vW⟩ ⟨ko,hO,by trivial,vO⟩ fun l hl=>⟨(gω l hl).1.mono (by trivial) (by trivial),(gω l hl).2⟩⟩
end
end K42
namespace K42
open PySem L2
set_option maxHeartbeats 4000000
section
variable {P:Program}{w:World}{K:PySem.W.Frag}{mg:Str→Option Value}{base:Heap}
theorem vn {d:Int} (h0:0<d) (h1:d≤1000000):Sz 9000 d:=Sz.mono (m:=40) (by show d.natAbs<1099511627776;trivial) (by decide)
inductive Ec (vs:List V) (H:Hp) (Q:VK):Prop
 | mk (n d:Int) (h0:vs=[.int n,.int d]) (h1:0<d) (h2:Sz 9000 d) (h3:∀p H',Nw H p (fr (KM.low n d)) H'→Q (.ref p) H')
def Fx:Sp:=fun vs H Q _=>Ec  vs H Q
theorem qm (T:Txt K mg):aT P w K mg base CX0 1 T.l_fr_.f T.l_fr_.d ["_law_top", "_law_bottom"] Fx:=by
 refine T.l_fr_.F.ok oZ (fun vs H Q E h=>?_) (fun cdv A outer s H vs Q E hr h=>?_)
 ·obtain ⟨n,d,rfl,_⟩:=h
  rfl
 ·obtain ⟨n,d,rfl,hd,hs,k⟩:=h
  have hl:=hs.log (Int.ne_of_gt hd)
  refine ⟨_,#[#[mm 2 (2) (3) _ _ _ _ _ _ _ _ _ _ _ rfl oZ.nd rfl rfl (by decide) fB dS #[[#[(),(),(@km _),qi,T.b_abs,(@iP),#[[#[0,oO]]]],#[(),(),(@km _),qi,T.b_abs,(@iP),#[[#[1,iG]]]]]] (by kernel_rfl) (by rfl)] :: #[#[pM 6 PassesOwn.never #[au 8 (@jr _) #[3,dS] #[()] #[(),()]] #[aa 3 #[mm 2 (2) (3) _ _ _ _ _ _ _ _ _ _ _ rfl oZ.nd rfl rfl (by decide) fB dS #[[#[3,dS],#[ak 8 (@dm _) #[2,fB] #[3,dS]]]] (by kernel_rfl) (by rfl)]]] :: #[#[4,oZ.nd,ir,#[fH 8 #[au 8 (@jr _) #[1,iG] #[()] #[(),()]] #[2,fB] #[j8 6 (@iU _) #[2,fB]]]] :: #[aa 3 #[aB 4 #[aI 5 #[[#[ak 8 (@uw _) #[0,oO] #[4,ir]],#[ak 8 (@uw _) #[1,iG] #[4,ir]]]]]]]]]],?_⟩
  refine ⟨(),(),(),(),_,(),?_⟩
  refine ⟨fun m σ H'=>∃a b:Int,σ=[some (.int n),some (.int d),some (.int a),some (.int b),none]∧H'=H∧0≤a∧0≤b∧Int.gcd a b=Int.gcd n d∧m=b.natAbs,⟨_,_,(),rfl,uE n,uE d,KM.gcd_abs n d,rfl⟩,?_⟩
  rintro m σ H' ⟨a,b,rfl,rfl,ha,hb,hg,rfl⟩
  refine ⟨(),_,(),rfl,(),?_⟩
  by_cases hb0:0<b
  ·rw [decide_eq_true hb0]
   refine bS ⟨fun σ' H''=>∃a' b':Int,σ'=[some (.int n),some (.int d),some (.int a'),some (.int b'),none]∧H''=H'∧0≤a'∧0≤b'∧Int.gcd a' b'=Int.gcd n d∧b'.natAbs<b.natAbs,?_,?_⟩
   ·rintro σ' H'' ⟨a',b',rfl,rfl,h0,h1,h2,h3⟩
    exact ⟨_,h3,a',b',rfl,rfl,h0,h1,h2,rfl⟩
   ·refine ⟨(),(),(),_,(),rfl,hb0,_,(),?_⟩
    have q0:=Int.emod_nonneg a (Int.ne_of_gt hb0)
    have q1:=Int.emod_lt_of_pos a hb0
    exact ⟨b,a % b,rfl,rfl,hb,q0,(KM.gcd_emod a b).trans hg,by trivial⟩
  ·have hb1:b=0:=by trivial
   subst hb1
   rw [decide_eq_false hb0]
   refine bw ?_
   have eg:a=((Int.gcd n d:Nat):Int):=by
    rw [←hg,KM.gcd_zero_abs,if_neg (by trivial)]
   have c1:=Bw (n:=n) (Int.ne_of_gt hd) hl
   rw [←eg] at c1
   refine ⟨(),_,(),rfl,(),?_⟩
   rw [decide_eq_true hd]
   refine bS ⟨(),?_⟩
   refine ⟨(),(),_,(),rfl,c1,(),(),_,(),rfl,⟨c1.1,c1.2⟩,(by show 2≤10000;decide),fun p H2 n2=>k p H2 ?_⟩
   unfold KM.low
   rw [if_pos hd,←eg]
   exact n2
theorem pq {a b:Nat}{n d:Int} (h1:n.natAbs<2 ^ a) (h2:d.natAbs<2 ^ b) (h3:1≤d):Gb a b (n,d):=⟨h1,h2,h3⟩
theorem rh {n d:Int}{a c:Nat} (h0:0≤n) (h1:n.natAbs<2 ^ a) (h2:1≤d) (h3:d.natAbs<2 ^ c):Gb a c (KM.low n d)∧0≤(KM.low n d).1∧(1≤n→1≤(KM.low n d).1)∧Int.gcd (KM.low n d).1 (KM.low n d).2=1:=
 ⟨xD h1 h3 (by trivial),Int.not_lt.mp fun z=>by have:=(KM.low_sgn (n:=n) (d:=d) (by trivial)).2.mp z;trivial,fun hn=>(KM.low_sgn (by trivial)).1.mpr (by trivial),(KM.low_spec n d (by trivial)).2.2.1⟩
inductive Em (a c:Nat) (lo:Int) (vs:List V) (H:Hp) (Q:VK):Prop
 | mk (b:Addr) (t:Int) (h0:vs=[.ref b]) (h1:Bx H b t) (h2:0≤t) (h3:t≤900000) (h4:∀(o:Addr) (z:KM.Fra) (t':Int) (H':Hp),aE (Eb b) H H'→H' o=some (fr z)→Gb a c z→lo≤z.1→Int.gcd z.1 z.2=1→Bx H' b t'→t≤t'→t'≤t+3→Q (.ref o) H')
def yK (a c:Nat) (lo:Int):Sp:=fun vs H Q _=>Em a c lo vs H Q
theorem vw (T:Txt K mg):aT P w K mg base CX0 2 T.l_gain_.f T.l_gain_.d ["_law_box_here"] (yK 6 6 1):=by
 have G_l_take:=#[(jj)]
 have G_l_fr:=#[(qm)]
 refine T.l_gain_.F.ok oi (fun vs H Q E h=>?_) (fun cdv A outer s H vs Q E hr h=>?_)
 ·obtain ⟨b,t,rfl,_⟩:=h
  rfl
 ·obtain ⟨b,t,rfl,B,ht0,ht1,k⟩:=h
  refine ⟨_,#[#[1,oi.nd,jn,#[G_l_take,iS,T.l_take_,#[[#[0,fk],#[()]]]]] :: #[#[bd 8 #[au 8 (@fw _) #[1,jn] #[()] #[(),()]] #[aa 3 #[aB 4 #[aI 5 #[[#[()],#[()]]]]]] (@aR _)] :: #[#[2,oi.nd,fJ,#[fH 8 #[au 8 (@fw _) #[1,jn] #[()] #[(),()]] #[()] #[()]]] :: #[aa 3 #[aB 4 #[G_l_fr,sB,T.l_fr_,#[[#[ak 8 (@br _) #[()] #[G_l_take,iS,T.l_take_,#[[#[0,fk],#[2,fJ]]]]],#[ak 8 (@br _) #[()] #[G_l_take,iS,T.l_take_,#[[#[0,fk],#[2,fJ]]]]]]]]]]]]],?_⟩
  refine ⟨(),b,8,t,rfl,B,by decide,by decide,ht0,by trivial,fun wy t1 H1 w0 w1 h1a h1b s1 B1=>?_⟩
  refine ⟨(),_,(),rfl,(),eJ (fun c=>?_) (fun c=>?_)⟩
  ·exact ⟨(by show 2≤10000;decide),fun o H2 n2=>k o (1,1) t1 H2 (s1.trans n2.sm.toE) n2.at' (pq (by decide) (by decide) (by decide)) (by decide) (by decide) (B1.same n2.sm) (by trivial) (by trivial)⟩
  refine ⟨(),_,(),rfl,(),?_⟩
  refine eJ (fun c2=>?_) (fun c2=>?_)
  ·refine ⟨(),(),b,12,t1,rfl,B1,by decide,by decide,by trivial,by trivial,fun r2 t2 H2 a20 a21 _ _ s2 B2=>⟨_,(),rfl,(),(),b,12,t2,rfl,B2,by decide,by decide,by trivial,by trivial,fun r3 t3 H3 a30 a31 _ _ s3 B3=>⟨_,(),rfl,_,(),by trivial,vn (by trivial) (by trivial),fun o H4 n4=>?_⟩⟩⟩
   have L:=rh (n:=1+r2) (d:=1+r3) (a:=6) (c:=6) (by trivial) (by show _<64;trivial) (by trivial) (by show _<64;trivial)
   exact k o _ t3 H4 (((s1.trans s2).trans s3).trans n4.sm.toE) n4.at' L.1 (L.2.2.1 (by trivial)) L.2.2.2 (B3.same n4.sm) (by trivial) (by trivial)
  ·refine ⟨(),(),b,60,t1,rfl,B1,by decide,by decide,by trivial,by trivial,fun r2 t2 H2 a20 a21 _ _ s2 B2=>⟨_,(),rfl,(),(),b,60,t2,rfl,B2,by decide,by decide,by trivial,by trivial,fun r3 t3 H3 a30 a31 _ _ s3 B3=>⟨_,(),rfl,_,(),by trivial,vn (by trivial) (by trivial),fun o H4 n4=>?_⟩⟩⟩
   have L:=rh (n:=1+r2) (d:=1+r3) (a:=6) (c:=6) (by trivial) (by show _<64;trivial) (by trivial) (by show _<64;trivial)
   exact k o _ t3 H4 (((s1.trans s2).trans s3).trans n4.sm.toE) n4.at' L.1 (L.2.2.1 (by trivial)) L.2.2.2 (B3.same n4.sm) (by trivial) (by trivial)
theorem Bo (T:Txt K mg):aT P w K mg base CX0 2 T.l_much_.f T.l_much_.d ["_law_box_here"] (yK 20 4 0):=by
 have G_l_take:=#[(jj)]
 have G_l_fr:=#[(qm)]
 refine T.l_much_.F.ok sf (fun vs H Q E h=>?_) (fun cdv A outer s H vs Q E hr h=>?_)
 ·obtain ⟨b,t,rfl,_⟩:=h
  rfl
 ·obtain ⟨b,t,rfl,B,ht0,ht1,k⟩:=h
  refine ⟨_,#[#[1,sf.nd,fY,#[G_l_take,i0,T.l_take_,#[[#[0,fj],#[()]]]]] :: #[#[bd 8 #[au 8 (@dJ _) #[1,fY] #[()] #[(),()]] #[aa 3 #[aB 4 #[aI 5 #[[#[()],#[()]]]]]] (@aR _)] :: #[#[bd 8 #[au 8 (@dJ _) #[1,fY] #[()] #[(),()]] #[aa 3 #[aB 4 #[aI 5 #[[#[ak 8 (@tV _) #[()] #[()]],#[()]]]]]] (@aR _)] :: #[aa 3 #[aB 4 #[G_l_fr,sC,T.l_fr_,#[[#[ak 8 (@br _) #[()] #[G_l_take,i0,T.l_take_,#[[#[0,fj],#[()]]]]],#[fH 8 #[au 8 (@fw _) #[1,fY] #[()] #[(),()]] #[()] #[ak 8 (@br _) #[()] #[G_l_take,i0,T.l_take_,#[[#[0,fj],#[()]]]]]]]]]]]]]],?_⟩
  refine ⟨(),b,8,t,rfl,B,by decide,by decide,ht0,by trivial,fun wy t1 H1 w0 w1 h1a h1b s1 B1=>?_⟩
  refine ⟨(),rfl,(),eJ (fun c=>?_) (fun c=>?_)⟩
  ·exact ⟨(by show 2≤10000;decide),fun o H2 n2=>k o (0,1) t1 H2 (s1.trans n2.sm.toE) n2.at' (pq (by decide) (by decide) (by decide)) (by decide) (by decide) (B1.same n2.sm) (by trivial) (by trivial)⟩
  refine ⟨(),rfl,(),eJ (fun c'=>?_) (fun c'=>?_)⟩
  ·exact ⟨_,(),rfl,⟨by decide,by decide,by decide⟩,(by show 2≤10000;decide),fun o H2 n2=>k o ((10:Int) ^ (6:Int).toNat,1) t1 H2 (s1.trans n2.sm.toE) n2.at' (pq (by nofun) (by decide) (by decide)) (by nofun) (by nofun) (B1.same n2.sm) (by trivial) (by trivial)⟩
  refine ⟨(),b,30,t1,rfl,B1,by decide,by decide,by trivial,by trivial,fun r2 t2 H2 a20 a21 _ _ s2 B2=>⟨_,(),rfl,(),_,(),rfl,(),eJ (fun c2=>?_) (fun c2=>?_)⟩⟩
  ·exact ⟨_,(),by decide,(by exact vn (by decide) (by decide)),fun o H4 n4=>have L:=rh (n:=1+r2) (d:=1) (a:=20) (c:=4) (by trivial) (by show _<1048576;trivial) (by trivial) (by show _<16;decide);k o _ t2 H4 ((s1.trans s2).trans n4.sm.toE) n4.at' L.1 L.2.1 L.2.2.2 (B2.same n4.sm) (by trivial) (by trivial)⟩
  ·exact ⟨(),b,12,t2,rfl,B2,by decide,by decide,by trivial,by trivial,fun r3 t3 H3 a30 a31 _ _ s3 B3=>⟨_,(),rfl,_,(),by trivial,vn (by trivial) (by trivial),fun o H4 n4=>have L:=rh (n:=1+r2) (d:=1+r3) (a:=20) (c:=4) (by trivial) (by show _<1048576;trivial) (by trivial) (by show _<16;trivial);k o _ t3 H4 (((s1.trans s2).trans s3).trans n4.sm.toE) n4.at' L.1 L.2.1 L.2.2.2 (B3.same n4.sm) (by trivial) (by trivial)⟩⟩
theorem Az (T:Txt K mg):aT P w K mg base CX0 2 T.l_cost_.f T.l_cost_.d ["_law_box_here"] (yK 5 7 0):=by
 have G_l_take:=#[(jj)]
 have G_l_fr:=#[(qm)]
 refine T.l_cost_.F.ok rH (fun vs H Q E h=>?_) (fun cdv A outer s H vs Q E hr h=>?_)
 ·obtain ⟨b,t,rfl,_⟩:=h
  rfl
 ·obtain ⟨b,t,rfl,B,ht0,ht1,k⟩:=h
  refine ⟨_,#[#[1,rH.nd,jl,#[G_l_take,iX,T.l_take_,#[[#[0,fi],#[()]]]]] :: #[#[bd 8 #[au 8 (@dJ _) #[1,jl] #[()] #[(),()]] #[aa 3 #[aB 4 #[aI 5 #[[#[()],#[()]]]]]] (@aR _)] :: #[aa 3 #[aB 4 #[G_l_fr,sR,T.l_fr_,#[[#[G_l_take,iX,T.l_take_,#[[#[0,fi],#[()]]]],#[ak 8 (@br _) #[()] #[ak 8 (@gK _) #[G_l_take,iX,T.l_take_,#[[#[0,fi],#[()]]]] #[bZ 9 (@li _) sZ T.b_int (@gP) #[[#[fh 8 (@dJ _) #[1,jl] #[()] #[(),()]]]] (by decide) (by decide) (by rfl) (by rfl)]]]]]]]]]],?_⟩
  refine ⟨(),b,4,t,rfl,B,by decide,by decide,ht0,by trivial,fun wy t1 H1 w0 w1 h1a h1b s1 B1=>?_⟩
  refine ⟨(),rfl,(),eJ (fun c=>?_) (fun c=>?_)⟩
  ·exact ⟨(by show 2≤10000;decide),fun o H2 n2=>k o (0,1) t1 H2 (s1.trans n2.sm.toE) n2.at' (pq (by decide) (by decide) (by decide)) (by decide) (by decide) (B1.same n2.sm) (by trivial) (by trivial)⟩
  refine ⟨(),b,25,t1,rfl,B1,by decide,by decide,by trivial,by trivial,fun r2 t2 H2 a20 a21 _ _ s2 B2=>⟨(),b,6,t2,rfl,B2,by decide,by decide,by trivial,by trivial,fun r3 t3 H3 a30 a31 _ _ s3 B3=>⟨(),rfl,.inr ⟨(),_,(),rfl,.inl ⟨by trivial,by trivial⟩,_,(),rfl,?_⟩⟩⟩⟩
  obtain ⟨z,ez,hz0,hz1⟩:∃z:Int,1+r3*(if decide (V.int wy=V.int 3)=true then 1 else 0)=z∧1≤z∧z≤100:=by
   by_cases c3:decide (V.int wy=V.int 3)=true
   ·rw [if_pos c3];exact ⟨(),by trivial,by trivial⟩
   ·rw [if_neg c3];exact ⟨(),by trivial,by trivial⟩
  refine ⟨r2,z,?_,by trivial,(by exact vn (by trivial) (by trivial)),fun o H4 n4=>have L:=rh (n:=r2) (d:=z) (a:=5) (c:=7) (by trivial) (by show _<32;trivial) (by trivial) (by show _<128;trivial);k o _ t3 H4 (((s1.trans s2).trans s3).trans n4.sm.toE) n4.at' L.1 L.2.1 L.2.2.2 (B3.same n4.sm) (by trivial) (by trivial)⟩
  rw [←ez]
  rfl
theorem wC (T:Txt K mg):aT P w K mg base CX0 2 T.l_by_.f T.l_by_.d ["_law_one", "_law_other"] (Fm KM.lTim false):=by
 have G_l_fr:=#[(qm)]
 refine T.l_by_.F.ok AX (fun vs H Q E h=>?_) (fun cdv A outer s H vs Q E hr h=>?_)
 ·obtain ⟨a,b,p,q,c1,d1,c2,d2,rfl,_⟩:=h
  rfl
 ·obtain ⟨a,b,p,q,c1,d1,c2,d2,rfl,ha,hb,fp,fq,h1,h2,h3,h4,_,k⟩:=h
  obtain ⟨z1,z2,z3,z4⟩:Sz 4000 p.1∧Sz 4000 p.2∧Sz 4000 q.1∧Sz 4000 q.2:=⟨fp.n.mono h1,fp.d.mono h2,fq.n.mono h3,fq.d.mono h4⟩
  refine ⟨_,#[aa 3 #[aB 4 #[G_l_fr,uK,T.l_fr_,#[[#[ak 8 (@iC _) #[#[0,oC][#[()]]] #[#[1,mr][#[()]]]],#[ak 8 (@iC _) #[#[0,oC][#[()]]] #[#[1,mr][#[()]]]]]]]]],?_⟩
  exact ⟨(),a,_,_,(),rfl,af.of ha,rfl,(),b,_,_,(),rfl,af.of hb,rfl,_,(),rfl,oN z1 z3,
   _,rfl,a,_,_,_,rfl,rfl,af.of ha,rfl,_,rfl,b,_,_,_,rfl,rfl,af.of hb,rfl,_,_,rfl,rfl,oN z2 z4,_,_,rfl,Int.mul_pos (by have:=fp.pos;trivial) (by have:=fq.pos;trivial),zU z2 z4,fun o H' n=>k o H' n⟩
theorem Aj (T:Txt K mg):aT P w K mg base CX0 1 T.l_sign_.f T.l_sign_.d ["_law_one", "_law_other"] Ai:=by
 refine T.l_sign_.F.ok yf (fun vs H Q E h=>?_) (fun cdv A outer s H vs Q E hr h=>?_)
 ·obtain ⟨a,b,p,q,rfl,_⟩:=h
  rfl
 ·obtain ⟨a,b,p,q,rfl,ha,hb,z1,z2,z3,z4,k⟩:=h
  refine ⟨_,#[aa 3 #[aB 4 #[ak 8 (@kG _) #[ak 8 (@iC _) #[#[0,mq][#[()]]] #[#[1,kE][#[()]]]] #[ak 8 (@iC _) #[#[1,kE][#[()]]] #[#[0,mq][#[()]]]]]]],?_⟩
  exact ⟨(),a,_,_,(),rfl,af.of ha,rfl,(),b,_,_,(),rfl,af.of hb,rfl,_,(),rfl,oN z1 z4,(),b,_,_,(),rfl,af.of hb,rfl,(),a,_,_,(),rfl,af.of ha,rfl,_,(),rfl,oN z3 z2,_,(),rfl,k⟩
end
end K42
namespace K42
open PySem L2
set_option maxHeartbeats 4000000
section
variable {P:Program}{w:World}{K:PySem.W.Frag}{mg:Str→Option Value}{base:Heap}
def rZ (f:Int) (ls:List (List Nat)):Prop:=∀(j:Nat) l,ls[j]?=some l→∃cs:List Nat,l=(97+(((f+11*(0+(j:Int))) % 26) % 26).toNat) :: cs∧cs.length≤7∧∀c∈cs,97≤c∧c≤122
theorem rZ.nc {f:Int}{ls:List (List Nat)} (h:rZ f ls):∀l∈ls,wG l:=fun l hl=>by
 obtain ⟨j,hj⟩:=List.getElem?_of_mem hl
 obtain ⟨cs,rfl,h1,h2⟩:=h j l hj
 refine ⟨by simp,by rw [List.length_cons];trivial,fun c hc=>?_⟩
 rcases List.mem_cons.mp hc with rfl | hc
 ·trivial
 ·exact h2 c hc
theorem rZ.nd {f:Int}{ls:List (List Nat)} (h:rZ f ls) (hl:ls.length≤26):ls.Nodup:=by
 rw [List.nodup_iff_pairwise_ne,List.pairwise_iff_getElem]
 intro i j hi hj hij e
 obtain ⟨cs,e1,_⟩:=h i _ (List.getElem?_eq_getElem hi)
 obtain ⟨ds,e2,_⟩:=h j _ (List.getElem?_eq_getElem hj)
 rw [e1,e2] at e
 injection e with e _
 have:=De (f:=f) (j:=i) (k:=j) (by trivial) (by trivial) (by trivial)
 trivial
theorem rZ.snoc {f:Int}{ls:List (List Nat)}{cs:List Nat} (h:rZ f ls) (h1:cs.length≤7) (h2:∀c∈cs,97≤c∧c≤122):rZ f (ls++[(97+(((f+11*(0+(ls.length:Int))) % 26) % 26).toNat) :: cs]):=fun j l hj=>by
 by_cases hji:j<ls.length
 ·rw [List.getElem?_append_left hji] at hj
  exact h j l hj
 ·have hj':j=ls.length:=by
   have:=(List.getElem?_eq_some_iff.mp hj).1
   rw [List.length_append] at this
   simp at this
   trivial
  subst hj'
  rw [List.getElem?_append_right (by trivial),Nat.sub_self] at hj
  cases hj
  exact ⟨cs,rfl,h1,h2⟩
theorem AU {m:Nat}{c:Nat} (hm:m≤8) (h1:97≤c) (h2:c≤122):(∀l∈(List.range m).map (fun i:Nat=>List.replicate (m - i) c),wG l)∧((List.range m).map fun i:Nat=>List.replicate (m - i) c).Nodup:=by
 constructor
 ·intro l hl
  obtain ⟨i,hi,rfl⟩:=List.mem_map.mp hl
  have:=List.mem_range.mp hi
  exact ⟨by rw [List.length_replicate];trivial,by rw [List.length_replicate];trivial,fun d hd=>by rw [List.eq_of_mem_replicate hd];trivial⟩
 ·rw [List.nodup_iff_pairwise_ne,List.pairwise_map]
  refine List.Pairwise.imp_of_mem (fun {i j} hi hj hij z=>?_) List.pairwise_lt_range
  have a:=List.mem_range.mp hi
  have b:=List.mem_range.mp hj
  have:=congrArg List.length z
  rw [List.length_replicate,List.length_replicate] at this
  trivial
inductive Es (vs:List V) (H:Hp) (Q:VK):Prop
 | mk (b:Addr) (many t:Int) (h0:vs=[.ref b,.int many]) (h1:Bx H b t) (h2:0≤t) (h3:t≤900000) (h4:1≤many) (h5:many≤10) (h6:∀D (ls:List (List Nat)) t' H',H D=none→aE (Eb b) H H'→H' D=some (.lst (ls.map aQ))→ls.length=many.toNat→(∀l∈ls,wG l)→ls.Nodup→Bx H' b t'→t≤t'→t'≤t+130→Q (.ref D) H')
def Fi:Sp:=fun vs H Q _=>Es  vs H Q
theorem zi (T:Txt K mg):aT P w K mg base CX0 2 T.l_names_.f T.l_names_.d ["_law_box_here", "_law_many"] Fi:=by
 have G_l_take:=#[(jj)]
 refine T.l_names_.F.ok d9 (fun vs H Q E h=>?_) (fun cdv A outer s H vs Q E hr h=>?_)
 ·obtain ⟨b,many,t,rfl,_⟩:=h
  rfl
 ·obtain ⟨b,many,t,rfl,B,ht0,ht1,hm1,hm2,k⟩:=h
  refine ⟨_,#[#[d6 6 #[aI 5 #[[#[kR 4],#[f6 4 (@cw _)],#[G_l_take,hU,T.l_take_,#[[#[0,(eQ)],#[()]]]]]]] (@cQ _ (K) _ _ _ _ (3) rfl #[aw 5 #[md 2 (2) _ d9.nd rfl (Or.inr i4) (by first | exact .inl rfl | exact .inr rfl | assumption)] #[aw 5 #[3,d9.nd,gF] #[aw 5 #[md 2 (4) _ d9.nd rfl (Or.inr jX) (by first | exact .inl rfl | exact .inr rfl | assumption)] (@dh _) (by rfl)] (by rfl)] (by rfl)] (by rfl) (by rfl) (by rfl)) (by rfl) (by rfl) (by rfl)] :: #[#[5,d9.nd,jV,#[oF 7 #[fh 8 (@dJ _) #[G_l_take,hU,T.l_take_,#[[#[0,(eQ)],#[()]]]] #[()] #[(),()]] #[ql 5 #[fh 8 (@fw _) #[1,(iu)] #[()] #[(),()]]]]] :: #[#[d5 8 PassesOwn.never rfl #[dA 6 iI T.b_range #[[#[1,(iu)]]] (by rfl)] #[6,d9.nd,nq] #[#[uO 7 (["_law_turn", "_law_box_here", "_law_letters"]) (1) ([0,2]) _ _ _ _ (7) _ _ _ d9.nd rfl kC (by kernel_rfl) rfl (by kernel_rfl) #[dA 6 iI T.b_range #[[#[G_l_take,hU,T.l_take_,#[[#[0,(eQ)],#[()]]]]]] (by rfl)] (fun _ _ _ _ _ _=>#[0,(),()]) (fun _ _ _ _ _ _=>@eS _) (fun _ _ _ _ _ _=>#[cD 7 (@qj _) #[2,0] #[G_l_take,(),T.l_take_,#[[#[1,0],#[()]]]] (fun _ _=>rfl)]) (by intro _;rfl)] :: #[aa 3 #[bf 4 (@dg _ (K) _ _ _ _ _ _ _ _ _ _ _ PySem.F.plainAttrs_list PySem.F.slot_list_append PySem.F.type_list_append (@cm _) #[3,gF] #[[#[ak 8 (@Bf _) #[cD 7 (@qj _) #[2,(i4)] #[ak 8 (@dm _) #[ak 8 (@br _) #[4,(jX)] #[ak 8 (@gK _) #[()] #[6,nq]]] #[()]] (fun _ _=>rfl)] (@dg _ (K) _ _ _ _ _ _ _ _ _ _ _ PySem.F.plainAttrs_str PySem.F.slot_str_join PySem.F.type_str_join (@AR _ (K) (by rfl)) #[kR 4] #[[#[7,kC]]] (by rfl) (by rfl) (by rfl) (by rfl) (by rfl) (by rfl))]]] (by rfl) (by rfl) (by rfl) (by rfl) (by rfl) (by rfl)) (by rfl)]]] (by intro _;rfl)] :: #[aa 3 #[aB 4 #[fH 8 #[gU 3 #[5,jV] (by intro _;rfl)] #[ie 7 (["_law_k", "_law_first", "_law_letters", "_law_many"]) (1) ([4,2,1]) _ _ _ _ rfl (by kernel_rfl) #[dA 6 iI T.b_range #[[#[1,(iu)]]] (by rfl)] (fun _ _ _ _ _ _=>#[0,(),()]) (fun _ _ _ _ _ _=>@eS _) (fun _ _ _ _ _ _=>#[ak 8 (@Bv _) #[cD 7 (@qj _) #[2,0] #[1,0] (fun _ _=>rfl)] #[ak 8 (@kG _) #[3,0] #[0,()]]]) (by intro _;rfl)] #[3,gF]]]]]]],?_⟩
  have hz:(Str.ofString "abcdefghijklmnopqrstuvwxyz").length≤sizeLine:=by nofun
  refine bq fun D0 n0=>⟨(by show 0≤10000;decide),fun D H1 m1=>⟨(),b,26,t,rfl,B.same m1.sm,by decide,by decide,ht0,by trivial,fun f t2 H2 f0 f1 h2a h2b s2 B2=>⟨(by show 3≤10000;decide),fun q H3 m3=>⟨q,(),af.of m3.at',rfl,_,(),_,(),_,(),rfl,n0 _ _ ?_⟩⟩⟩⟩
  have nDb:¬D=b:=fun z=>B.ne m1.fr z.symm
  have B3:=B2.same m3.sm
  have s03:aE (Eb b) H H3:=(m1.sm.toE.trans s2).trans m3.sm.toE
  have hD3:H3 D=some (.lst []):=m3.sm _ _ (s2.old _ _ nDb m1.at')
  refine bW fun Q4 n4=>⟨(),b,4,t2,rfl,B3,by decide,by decide,by trivial,by trivial,fun r t4 H4 r0 r1 h4a h4b s4 B4=>⟨rfl,(),?_⟩⟩
  have fin:∀al:Bool,(al=true→many<9)→Q4 (.bl al) H4:=fun al hal=>by
   refine n4 _ _ ?_
   have s04:=s03.trans s4
   refine bq fun D5 n5=>⟨(),(),by trivial,by trivial,iz (fun i σ H'=>kz fun v6 v7 ls t'=>σ=[some (.ref b),some (.int many),some (.str "abcdefghijklmnopqrstuvwxyz"),some (.ref D),some (.int f),some (.bl al),v6,v7]∧H' D=some (.lst ((ls:List (List Nat)).map aQ))∧ls.length=i∧rZ f ls∧Bx H' b t'∧t4≤t'∧t'≤t4+10*i∧aE (Eb b) H H')
    ⟨_,_,[],t4,rfl,s4.old _ _ nDb hD3,rfl,(fun j l h=>by simp at h),B4,by trivial,by trivial,s04⟩ ?_ ?_⟩
   case refine_2=>
    rintro σ H' ⟨v6,v7,ls,t',rfl,e1,e2,nmi,B',h0,h1,s'⟩
    refine n5 _ _ ⟨(),(),?_⟩
    cases al with
    | false=>exact bw ⟨_,rfl,k D ls t' H' m1.fr s' e1 e2 nmi.nc (nmi.nd (by trivial)) B' (by trivial) (by trivial)⟩
    | true=>
     refine bS ⟨(),(),by trivial,by trivial,fun D2 hD2=>?_⟩
     refine sj (n:=many.toNat) (fun i=>aQ (List.replicate (many - (0+(i:Int))).toNat (97+(f % 26).toNat))) (by trivial) hD2 (fun i H' hi _=>hi) (fun H' _=>Nat.le_refl _) ?_ ?_
     ·rintro i x Ha Hb R hi sm ⟨rfl,rfl⟩ kk
      refine ⟨lm,(),(),_,_,(),rfl,hz,oI (by trivial) (by trivial),(),(),_,(),rfl,[97+(f % 26).toNat],(),rfl,by trivial,by trivial,(by show 1≤100;decide),?_⟩
      rw [Fv]
      exact kk _ (ae.refl _)
     ·intro H5 s5 h5
      have h9:=hal rfl
      have er:((List.range many.toNat).map fun i:Nat=>List.replicate (many - (0+((i:Nat):Int))).toNat (97+(f % 26).toNat))=(List.range many.toNat).map fun i:Nat=>List.replicate (many.toNat - i) (97+(f % 26).toNat):=by
       refine List.map_congr_left fun i _=>?_
       congr 1
       trivial
      have rn:=AU (m:=many.toNat) (c:=97+(f % 26).toNat) (by trivial) (by trivial) (by trivial)
      rw [←er] at rn
      refine k D2 ((List.range many.toNat).map fun i=>List.replicate (many - (0+((i:Nat):Int))).toNat (97+(f % 26).toNat)) t' H5 (aE.free s' B' hD2) (s'.trans s5.toE) ?_ (by simp) rn.1 rn.2 (B'.same s5) (by trivial) (by trivial)
      rw [h5,List.map_map]
      rfl
   rintro i σ H' hi ⟨v6,v7,ls,t',rfl,e1,e2,nmi,B',h0,h1,s'⟩
   refine oY (t:=ii _ _) fun DB nB=>?_
   refine ⟨(),b,8,t',rfl,B',by decide,by decide,by trivial,by trivial,fun r6 t6 J3 r60 r61 _ _ j3 C3=>⟨(),by trivial,by trivial,fun D2 hD2=>jD (n:=r6.toNat) (fun i H' ys=>bh fun (cs:List Nat) (t':Int)=>ys=cs.map (fun c=>aQ [c])∧H' D2=some (.lst ys)∧cs.length=i∧(∀c∈cs,97≤c∧c≤122)∧Bx H' b t'∧t6≤t'∧t'≤t6+i∧aE (Eb b) J3 H') ?_ ?_ ?_ ?_ ?_ ?_ ?_⟩⟩
   ·rw [sizeLine_eq];trivial
   ·exact ⟨[],t6,rfl,aD,rfl,(fun c h=>by cases h),C3.same (ae.new hD2),by trivial,by trivial,(ae.new hD2).toE⟩
   ·rintro i' H'' ys ⟨cs,t7,rfl,e,rfl,_⟩
    exact ⟨e,by simp⟩
   ·intro i' H'' ys hi' _
    exact hi'
   ·intro H'' ys _
    exact Nat.le_refl _
   ·have nD2:¬D2=b:=fun z=>C3.ne hD2 z.symm
    rintro i' Ha ys x Hb hi' ⟨cs,t7,rfl,g1,g2,g3,g4,g5,g6,g7⟩ ⟨rfl,rfl⟩
    refine ⟨lm,(),(),b,26,t7,rfl,g4,by decide,by decide,by trivial,by trivial,fun r8 t8 Hc r80 r81 _ _ jc Cc=>⟨_,_,(),rfl,hz,oI (by trivial) (by trivial),?_⟩⟩
    have eD:=jc.old D2 _ nD2 g1
    refine ⟨eD,cs++[97+(r8 % 26).toNat],t8,by rw [List.map_append];rfl,aD,by rw [List.length_append,g2];rfl,fun c hc=>?_,?_,by trivial,by trivial,(g7.trans jc).up hD2⟩
    ·rcases List.mem_append.mp hc with h | h
     ·exact g3 c h
     ·rw [List.mem_singleton.mp h];trivial
    have c':Ch Hc D2 (cs.map (fun c=>aQ [c])++[aQ [97+(r8 % 26).toNat]]) _:=Ch.mk'
    exact Cc.ch c' (Ne.symm nD2)
   rintro J4 ys ⟨cs,t7,rfl,g1,g2,g3,C4,g5,g6,j4⟩
   have e14:J4 D=some (.lst (ls.map aQ)):=j4.old D _ nDb (j3.old D _ nDb e1)
   refine ⟨(),.inl ⟨rfl,_,ap.of e14⟩,(),(),(),_,(),rfl,.inl ⟨by decide,by decide⟩,_,(),rfl,_,(),rfl,(by show (0:Int)<26;decide),_,_,(),rfl,hz,oI (by trivial) (by trivial),rfl,(),D2,cs.map (fun c=>[c]),?_,rfl,ap.of (by rw [g1,List.map_map];rfl),?_,?_⟩
   ·rw [show (Str.ofString "")=S [] from zw]
   ·rw [List.map_map]
    have:(cs.map ((fun l:List Nat=>l.length) ∘ fun c=>[c])).sum=cs.length:=by
     clear g1 g2 g3 j4
     induction cs with
     | nil=>rfl
     | cons c r ih=>simp at ih ⊢;trivial
    rw [this];trivial
   have fl:(cs.map (fun c=>[c])).flatten=cs:=by
    clear g1 g2 g3 j4
    induction cs with
    | nil=>rfl
    | cons c r ih=>rw [List.map_cons,List.flatten_cons,ih];rfl
   rw [fl]
   refine ⟨[97+(((f+11*(0+(i:Int))) % 26) % 26).toNat],cs,rfl,rfl,?_,D,_,(),rfl,e14,?_,fun J5 c5=>nB _ _ ?_⟩
   ·simp;trivial
   ·rw [List.length_map];trivial
   have hs5:aE (Eb b) H J5:=((s'.trans j3).trans j4).ch c5 m1.fr
   refine ⟨_,_,ls++[[97+(((f+11*(0+(i:Int))) % 26) % 26).toNat]++cs],t7,rfl,?_,?_,?_,C4.ch c5 (Ne.symm nDb),by trivial,by trivial,hs5⟩
   ·rw [c5.at',List.map_append];rfl
   ·rw [List.length_append,e2];rfl
   ·have:=nmi.snoc (cs:=cs) (by trivial) g3
    rw [e2] at this
    exact this
  by_cases c:r=0
  ·rw [decide_eq_true (show V.int r=V.int 0 by rw [c])]
   refine bS ⟨(),_,(),rfl,fin _ of_decide_eq_true⟩
  ·rw [decide_eq_false (show ¬V.int r=V.int 0 from fun z=>c (by injection z))]
   exact bw (fin _ fun z=>by cases z)
end
end K42
namespace K42
open PySem L2
set_option maxHeartbeats 4000000
section
variable {P:Program}{w:World}{K:PySem.W.Frag}{mg:Str→Option Value}{base:Heap}
theorem tz {E:Addr→Prop}{H:Hp}:∀ls:List (List Nat),am E H (ls.map aQ) (ls.map fun l=>PyData.str (S l))
 | []=>.nil
 | l :: r=>.cons (.str _) (tz r)
inductive zz (vs:List V) (H:Hp) (Q:VK):Prop
 | mk (b:Addr) (g:Bool) (t:Int) (h0:vs=[.ref b,.bl g]) (h1:Bx H b t) (h2:0≤t) (h3:t≤800000) (h4:∀(v:V) (ls:List (List Nat)) (ts:List aj) (t':Int) (H':Hp),aE (Eb b) H H'→aS ED H' v (ji ls ts)→2≤ls.length→ls.length≤10→ls.Nodup→1≤ts.length→ts.length≤18→(∀t∈ts,iB ls t)→Bx H' b t'→t≤t'→t'≤t+500→Q v H')
def Au:Sp:=fun vs H Q _=>zz  vs H Q
theorem ut (T:Txt K mg):aT P w K mg base CX0 3 T.l_net_drawn_.f T.l_net_drawn_.d ["_law_box_here", "_law_great"] Au:=by
 have G_l_take:=#[(jj)]
 have G_l_names:=#[(zi)]
 have G_l_much:=#[(Bo)]
 have G_l_gain:=#[(vw)]
 have G_l_cost:=#[(Az)]
 refine T.l_net_drawn_.F.ok bN (fun vs H Q E h=>?_) (fun cdv A outer s H vs Q E hr h=>?_)
 ·obtain ⟨b,g,t,rfl,_⟩:=h
  rfl
 ·obtain ⟨b,g,t,rfl,B,t0,t1,k⟩:=h
  refine ⟨_,#[#[2,bN.nd,bp,#[#[f6 4 #[[#[ak 8 (@br _) #[()] #[G_l_take,bo,T.l_take_,#[[#[0,aF],#[()]]]]],#[ak 8 (@br _) #[()] #[G_l_take,bo,T.l_take_,#[[#[0,aF],#[()]]]]]]]][#[bZ 9 (@li _) jL T.b_int (@gP) #[[#[1,iD]]] (by decide) (by decide) (by rfl) (by rfl)]]!]] :: #[#[3,bN.nd,bH,#[G_l_names,lL,T.l_names_,#[[#[0,aF],#[2,bp]]]]] :: #[#[4,bN.nd,eB,#[f6 4 (@cw _)]] :: #[#[d5 8 PassesOwn.never rfl #[dA 6 nH T.b_range #[[#[#[f6 4 #[[#[ak 8 (@br _) #[()] #[G_l_take,bo,T.l_take_,#[[#[0,aF],#[()]]]]],#[ak 8 (@br _) #[()] #[G_l_take,bo,T.l_take_,#[[#[0,aF],#[()]]]]]]]][#[bZ 9 (@li _) jL T.b_int (@gP) #[[#[1,iD]]] (by decide) (by decide) (by rfl) (by rfl)]]!]]] (by rfl)] #[5,bN.nd,gw] #[#[6,bN.nd,cY,#[G_l_take,bo,T.l_take_,#[[#[0,aF],#[2,bp]]]]] :: #[#[7,bN.nd,dR,#[ak 8 (@dm _) #[ak 8 (@br _) #[ak 8 (@br _) #[6,cY] #[()]] #[G_l_take,bo,T.l_take_,#[[#[0,aF],#[ak 8 (@kG _) #[2,bp] #[()]]]]]] #[2,bp]]] :: #[#[bd 8 #[au 8 (@dJ _) #[G_l_take,bo,T.l_take_,#[[#[0,aF],#[()]]]] #[()] #[(),()]] #[aa 3 #[mm 2 (6) (7) _ _ _ _ _ _ _ _ _ _ _ rfl bN.nd rfl rfl (by decide) cY dR #[[#[ak 8 (@dm _) #[5,gw] #[ak 8 (@kG _) #[2,bp] #[()]]],#[ak 8 (@br _) #[ak 8 (@dm _) #[5,gw] #[ak 8 (@kG _) #[2,bp] #[()]]] #[()]]]] (by kernel_rfl) (by rfl)]] (@aR _)] :: #[aa 3 #[bf 4 (@dg _ (K) _ _ _ _ _ _ _ _ _ _ _ PySem.F.plainAttrs_list PySem.F.slot_list_append PySem.F.type_list_append (@cm _) #[4,eB] #[[#[aI 5 #[[#[#[3,bH][#[6,cY]]!],#[#[3,bH][#[7,dR]]!],#[G_l_much,mH,T.l_much_,#[[#[0,aF]]]],#[G_l_gain,mW,T.l_gain_,#[[#[0,aF]]]],#[G_l_cost,mO,T.l_cost_,#[[#[0,aF]]]]]]]]] (by rfl) (by rfl) (by rfl) (by rfl) (by rfl) (by rfl)) (by rfl)]]]]] (by intro _;rfl)] :: #[aa 3 #[aB 4 #[aI 5 #[[#[bZ 9 (@fV _ (K) (by rfl)) i5 T.b_tuple (@g9) #[[#[3,bH]]] (by decide) (by decide) (by rfl) (by rfl)],#[bZ 9 (@fV _ (K) (by rfl)) i5 T.b_tuple (@g9) #[[#[4,eB]]] (by decide) (by decide) (by rfl) (by rfl)]]]]]]]]]],?_⟩
  refine bW fun Q1 nA1=>⟨(),b,5,t,rfl,B,by decide,by decide,by trivial,by trivial,fun r1 t1' H1 r10 r11 h1a h1b s1 B1=>⟨_,(),rfl,(),b,4,t1',rfl,B1,by decide,by decide,by trivial,by trivial,fun r2 t2 H2 r20 r21 h2a h2b s2 B2=>⟨_,(),rfl,(by show 2≤10000;decide),fun l H3 n3=>?_⟩⟩⟩
  obtain ⟨mn,emn,mn1,mn2⟩:∃mn:Int,iy [V.int (2+r1),V.int (7+r2)] (if g=true then 1 else 0)=some (.int mn)∧2≤mn∧mn≤10:=by
   cases g with
   | false=>exact ⟨2+r1,rfl,by trivial,by trivial⟩
   | true=>exact ⟨7+r2,rfl,by trivial,by trivial⟩
  refine ⟨(),.inr ⟨g,rfl,l,_,_,(),rfl,ap.of n3.at',emn,nA1 _ _ ?_⟩⟩
  have B3:=B2.same n3.sm
  have s03:aE (Eb b) H H3:=(s1.trans s2).trans n3.sm.toE
  refine bW fun Q4 nA4=>⟨(),(),b,mn,t2,rfl,B3,by trivial,by trivial,by trivial,by trivial,fun D ls t4 H4 hD s4 hL lls nc nd B4 h4a h4b=>nA4 _ _ ?_⟩
  have nDb:¬D=b:=fun z=>B3.ne hD z.symm
  have s04:=s03.trans s4
  have fD:H D=none:=aE.free s03 B3 hD
  have lmn:(ls.length:Int)=mn:=by trivial
  refine bW fun Q5 nA5=>⟨(by show 0≤10000;decide),fun TL H5 n5=>nA5 _ _ ?_⟩
  have nTb:¬TL=b:=fun z=>B4.ne n5.fr z.symm
  have nTD:¬TL=D:=fun z=>by rw [←z,n5.fr] at hL;cases hL
  have fT:H TL=none:=aE.free s04 B4 n5.fr
  have B5:=B4.same n5.sm
  have s05:=s04.trans n5.sm.toE
  have hL5:=n5.sm _ _ hL
  refine bq fun D6 nD6=>⟨(),b,9,t4,rfl,B5,by decide,by decide,by trivial,by trivial,fun r6 t6 H6 r60 r61 h6a h6b s6 B6=>⟨_,(),rfl,(),b,9,t6,rfl,B6,by decide,by decide,by trivial,by trivial,fun r7 t7 H7 r70 r71 h7a h7b s7 B7=>⟨_,(),rfl,(by show 2≤10000;decide),fun l8 H8 n8=>?_⟩⟩⟩
  obtain ⟨kn,ekn,kn1,kn2⟩:∃kn:Nat,iy [V.int (1+r6),V.int (10+r7)] (if g=true then 1 else 0)=some (.int (kn:Int))∧1≤kn∧kn≤18:=by
   cases g with
   | false=>exact ⟨(1+r6).toNat,by rw [Int.toNat_of_nonneg (by trivial)];rfl,by trivial,by trivial⟩
   | true=>exact ⟨(10+r7).toNat,by rw [Int.toNat_of_nonneg (by trivial)];rfl,by trivial,by trivial⟩
  have s58:aE (Eb b) H5 H8:=(s6.trans s7).trans n8.sm.toE
  have B8:=B7.same n8.sm
  refine ⟨(),.inr ⟨g,rfl,l8,_,_,(),rfl,ap.of n8.at',ekn,kn,rfl,by trivial,by trivial,?_⟩⟩
  refine iz (fun i σ H'=>uc fun (v5 v6 v7:Option V) (zs:List V) (ts:List aj) (t':Int)=>σ=[some (.ref b),some (.bl g),some (.int mn),some (.ref D),some (.ref TL),v5,v6,v7]∧H' TL=some (.lst zs)∧am ED H' zs (ts.map cG)∧ts.length=i∧(∀x∈ts,iB ls x)∧Bx H' b t'∧t7≤t'∧t'≤t7+15*i∧aE (Eb b) H H'∧H' D=some (.lst (ls.map aQ))) ⟨_,_,_,[],[],t7,rfl,s58.old TL _ nTb n5.at',.nil,rfl,(fun x hx=>by cases hx),B8,by trivial,by trivial,s05.trans s58,s58.old D _ nDb hL5⟩ ?_ ?_
  case refine_2=>
   rintro σ G ⟨v5,v6,v7,zs,ts,t8,rfl,hT,iT,lT,cT,BG,h8a,h8b,sG,hDG⟩
   refine nD6 _ _ (rA fun Q9 n9=>⟨(),D,(),ap.of hDG,fun u0 G0 m0=>⟨(),TL,(),ap.of (m0.sm _ _ hT),fun u G1 m1=>⟨(by show 2≤10000;decide),fun o G2 m2=>n9 _ _ ?_⟩⟩⟩)
   have s2':=(m0.sm.trans m1.sm).trans m2.sm
   exact k (.ref o) ls ts t8 G2 (sG.trans s2'.toE) (.tup m2.at' (.cons (.tup ((m1.sm.trans m2.sm) _ _ m0.at') (tz ls)) (.cons (.tup (m2.sm _ _ m1.at') (iT.mono s2'.toE)) .nil))) (by trivial) (by trivial) nd (by rw [lT];trivial) (by rw [lT];trivial) cT (BG.same s2') (by trivial) (by trivial)
  rintro i σ G hi ⟨v5,v6,v7,zs,ts,t8,rfl,hT,iT,lT,cT,BG,h8a,h8b,sG,hDG⟩
  refine oY (t:=ii _ _) fun D7 nD7=>?_
  refine bW fun Q9 nA9=>⟨(),(),b,mn,t8,rfl,BG,by trivial,CI (by trivial) (by trivial),by trivial,by trivial,fun f t9 G1 f0 f1 h9a h9b g1 BG1=>nA9 _ _ ?_⟩
  refine bW fun Qa nAa=>⟨(),_,(),rfl,(),(),_,(),rfl,b,_,t9,rfl,BG1,by trivial,CI (by trivial) (by trivial),by trivial,by trivial,fun r ta G2 r0 r1' ha1 ha2 g2 BG2=>⟨_,(),rfl,(),_,(),rfl,(by show (0:Int)<mn;trivial),nAa _ _ ?_⟩⟩
  obtain ⟨q0,q1,q2⟩:=Ae (n:=mn) (f:=f) (r:=r) f0 f1 r0 (by trivial)
  have g02:aE (Eb b) G G2:=g1.trans g2
  refine vR (fun σ H'=>kF fun (x y:Int) (t':Int)=>σ=[some (.ref b),some (.bl g),some (.int mn),some (.ref D),some (.ref TL),some (.int (0+(i:Int))),some (.int x),some (.int y)]∧0≤x∧x<mn∧0≤y∧y<mn∧x≠y∧Bx H' b t'∧ta≤t'∧t'≤ta+1∧aE (Eb b) G2 H') ?_ fun nx=>?_
  ·rintro σ' G3 ⟨x,y,tb,rfl,x0,x1,y0,y1,xy,BG3,hb1,hb2,g3⟩
   have g03:=g02.trans g3
   have hT3:=g03.old TL _ nTb hT
   have hD3:=g03.old D _ nDb hDG
   have ax:iy (ls.map aQ) x=some (aQ ls[x.toNat]):=re x0 (by trivial)
   have ay:iy (ls.map aQ) y=some (aQ ls[y.toNat]):=re y0 (by trivial)
   refine ⟨(),.inl ⟨rfl,_,ap.of hT3⟩,(),(),D,_,_,(),rfl,ap.of hD3,ax,(),(),D,_,_,(),rfl,ap.of hD3,ay,(),b,tb,rfl,BG3,by trivial,by trivial,fun om zm tc G4 s4' hom gm m0 mc BG4 hc1 hc2=>⟨(),b,tc,rfl,BG4,by trivial,by trivial,fun og zg td G5 s5' hog gg g1' gcg BG5 hd1 hd2=>⟨(),b,td,rfl,BG5,by trivial,by trivial,fun op zp te G6 s6' hop gp p0 pc BG6 he1 he2=>⟨(by show 5≤10000;decide),fun q G7 m7=>?_⟩⟩⟩⟩
   have g07:aE (Eb b) G G7:=(((g03.trans s4').trans s5').trans s6').trans m7.sm.toE
   have hT7:=g07.old TL _ nTb hT
   have lzs:zs.length=ts.length:=by rw [iT.length,List.length_map]
   refine ⟨TL,_,(),rfl,hT7,by trivial,fun G8 c8=>nD7 _ _ ?_⟩
   refine ⟨_,_,_,zs++[.ref q],ts++[⟨ls[x.toNat],ls[y.toNat],zm,zg,zp⟩],te,rfl,c8.at',?_,by rw [List.length_append,lT];rfl,fun z hz=>?_,(BG6.same m7.sm).ch c8 (fun z=>nTb z.symm),by trivial,by trivial,(sG.trans g07).ch c8 fT,c8.ol D _ (fun z=>nTD z.symm) (g07.old D _ nDb hDG)⟩
   ·rw [List.map_append]
    refine tS c8 hT7 (iT.tupS g07) ?_
    exact .tup m7.at' (.cons (.str _) (.cons (.str _) (.cons (jP (p:=zm) (m7.sm _ _ (s6'.tup _ _ (s5'.tup _ _ hom)))) (.cons (jP (p:=zg) (m7.sm _ _ (s6'.tup _ _ hog))) (.cons (jP (p:=zp) (m7.sm _ _ hop)) .nil)))))
   ·rcases List.mem_append.mp hz with h | h
    ·exact cT z h
    ·rw [List.mem_singleton.mp h]
     refine ⟨List.getElem_mem _,List.getElem_mem _,fun z=>?_,gm,gg,g1',gp.mono (by decide) (by decide),m0,mc⟩
     have:=d7 nd (by trivial) (by trivial) z
     trivial
  ·refine ⟨(),b,3,ta,rfl,BG2,by decide,by decide,by trivial,by trivial,fun r3 tb G3 r30 r31 hb1 hb2 g3 BG3=>⟨rfl,(),eJ (fun c=>?_) (fun c=>?_)⟩⟩
   ·refine ⟨(),(),_,(),rfl,_,(),rfl,(by show (0:Int)<mn - 1;trivial),(),(),_,(),rfl,_,(),rfl,(by show (0:Int)<mn - 1;trivial),_,(),rfl,_,(),nx _ _ ?_⟩
    have e0:=Int.emod_nonneg (0+(i:Int)) (show mn - 1≠0 by trivial)
    have e1:=Int.emod_lt_of_pos (0+(i:Int)) (show 0<mn - 1 by trivial)
    exact ⟨_,_,tb,rfl,e0,by trivial,by trivial,by trivial,by trivial,BG3,by trivial,by trivial,g3⟩
   ·exact nx _ _ ⟨f,(f+1+r) % mn,tb,rfl,f0,f1,q0,q1,fun z=>q2 z.symm,BG3,by trivial,by trivial,g3⟩
end
end K42
namespace K42
open PySem L2
set_option maxHeartbeats 4000000
section
variable {P:Program}{w:World}{K:PySem.W.Frag}{mg:Str→Option Value}{base:Heap}
def GS (p:KM.Fra):Prop:=p=(1,1)∨p=(13,12)∨p=(11,12)∨p=(30,29)
def GH (p:KM.Fra):Prop:=p=(1,1)∨p=(2,1)∨p=(1,2)
theorem Eo {p:KM.Fra} (h:GS p):Gb 5 5 p:=by
 rcases h with rfl | rfl | rfl | rfl <;> exact pq (by decide) (by decide) (by decide)
theorem vI {p:KM.Fra} (h:GH p):Gb 2 2 p∧1≤p.1:=by
 rcases h with rfl | rfl | rfl <;> exact ⟨pq (by decide) (by decide) (by decide),by decide⟩
theorem D4 {p q:KM.Fra} (h:GH p) (k:GS q):Gb 6 6 (KM.lTim p q)∧1≤(KM.lTim p q).1:=by
 rcases h with rfl | rfl | rfl <;> rcases k with rfl | rfl | rfl | rfl <;> exact ⟨⟨show Int.natAbs _<2 ^ 6 by nofun,show Int.natAbs _<2 ^ 6 by nofun,by nofun⟩,by nofun⟩
inductive AF (vs:List V) (H:Hp) (Q:VK):Prop
 | mk (b:Addr) (v:V) (ls:List (List Nat)) (ts:List aj) (t:Int) (h0:vs=[.ref b,v]) (h1:Bx H b t) (h2:0≤t) (h3:t≤810000) (h4:aS ED H v (ji ls ts)) (h5:2≤ls.length) (h6:ls.length≤10) (h7:ls.Nodup) (h8:1≤ts.length) (h9:ts.length≤18) (h10:(∀t∈ts,iB ls t)) (h11:∀(v:V) (ts:List aj) (t':Int) (H':Hp),aE (Eb b) H H'→aS ED H' v (ji ls ts)→1≤ts.length→ts.length≤23→(∀t∈ts,iB ls t)→Bx H' b t'→t≤t'→t'≤t+20→Q v H')
def Dm:Sp:=fun vs H Q _=>AF  vs H Q
theorem sF (T:Txt K mg):aT P w K mg base CX0 3 T.l_with_round_.f T.l_with_round_.d ["_law_box_here", "_law_net"] Dm:=by
 have G_l_take:=#[(jj)]
 have G_l_by:=#[(wC)]
 have G_l_fr:=#[(qm)]
 refine T.l_with_round_.F.ok bV (fun vs H Q E h=>?_) (fun cdv A outer s H vs Q E hr h=>?_)
 ·obtain ⟨b,v,ls,ts,t,rfl,_⟩:=h
  rfl
 ·obtain ⟨b,v,ls,ts,t,rfl,B,t0,t1,hv,l2,l10,nd,lt1,lt18,tc,k⟩:=h
  obtain ⟨na,pa,ta,ys,rfl,hna,hpa,hta,ity⟩:=ee hv
  refine ⟨_,#[#[2,bV.nd,bL,#[(),(),(@xi _ rfl),oJ,T.b_min,(@wL),#[[#[ak 8 (@br _) #[()] #[G_l_take,dW,T.l_take_,#[[#[0,cM],#[()]]]]],#[(),(),(@eL _ (K) (by rfl)),oq,T.b_len,(@be),#[[#[#[1,bU][#[()]]]]]]]]]] :: #[#[3,bV.nd,eV,#[#[f6 4 #[[#[aI 5 #[[#[()],#[()]]]],#[aI 5 #[[#[()],#[()]]]],#[aI 5 #[[#[()],#[()]]]],#[aI 5 #[[#[()],#[()]]]]]]][#[G_l_take,dW,T.l_take_,#[[#[0,cM],#[()]]]]]!]] :: #[#[4,bV.nd,dU,#[bZ 9 (@nh _ (K) (by rfl)) nu T.b_list (@kU) #[[#[#[1,bU][#[()]]]]] (by decide) (by decide) (by rfl) (by rfl)]] :: #[#[d5 8 PassesOwn.never rfl #[dA 6 mP T.b_range #[[#[2,bL]]] (by rfl)] #[5,bV.nd,bM] #[#[6,bV.nd,bv,#[fH 8 #[au 8 (@fw _) #[5,bM] #[ak 8 (@kG _) #[2,bL] #[ak 8 (@dm _) #[2,bL] #[()]]] #[(),()]] #[#[f6 4 #[[#[aI 5 #[[#[()],#[()]]]],#[aI 5 #[[#[()],#[()]]]]]]][#[ak 8 (@dm _) #[5,bM] #[()]]]!] #[aI 5 #[[#[()],#[()]]]]]] :: #[#[6,bV.nd,bv,#[fH 8 #[au 8 (@dJ _) #[5,bM] #[()] #[(),()]] #[G_l_by,nF,T.l_by_,#[[#[6,bv],#[3,eV]]]] #[6,bv]]] :: #[aa 3 #[bf 4 (@dg _ (K) _ _ _ _ _ _ _ _ _ _ _ PySem.F.plainAttrs_list PySem.F.slot_list_append PySem.F.type_list_append (@cm _) #[4,dU] #[[#[aI 5 #[[#[#[#[1,bU][#[()]]][#[5,bM]]],#[#[#[1,bU][#[()]]][#[ak 8 (@dm _) #[ak 8 (@br _) #[5,bM] #[()]] #[2,bL]]]],#[G_l_fr,nt,T.l_fr_,#[[#[ak 8 (@br _) #[()] #[G_l_take,dW,T.l_take_,#[[#[0,cM],#[()]]]]],#[()]]]],#[6,bv],#[aI 5 #[[#[()],#[()]]]]]]]]] (by rfl) (by rfl) (by rfl) (by rfl) (by rfl) (by rfl)) (by rfl)]]]] (by intro _;rfl)] :: #[aa 3 #[aB 4 #[aI 5 #[[#[#[1,bU][#[()]]],#[bZ 9 (@fV _ (K) (by rfl)) mK T.b_tuple (@g9) #[[#[4,dU]]] (by decide) (by decide) (by rfl) (by rfl)]]]]]]]]]],?_⟩
  refine bW fun Q1 nA1=>⟨(),b,4,t,rfl,B,by decide,by decide,by trivial,by trivial,fun r1 t2 H2 r10 r11 h2a h2b s2 B2=>⟨_,(),rfl,(),na,_,_,(),rfl,af.of (s2.tup _ _ hna),rfl,pa,(),.inr (af.of (s2.tup _ _ hpa)),_,(),?_⟩⟩
  rw [List.length_map]
  obtain ⟨mn,emn,mn1,mn2,mn3⟩:∃mn:Nat,(if (ls.length:Int)<2+r1 then (ls.length:Int) else 2+r1)=(mn:Int)∧2≤mn∧mn≤5∧mn≤ls.length:=by
   split
   ·exact ⟨ls.length,rfl,by trivial,by trivial,by trivial⟩
   ·exact ⟨(2+r1).toNat,by trivial,by trivial,by trivial,by trivial⟩
  show Q1 (.int (if (ls.length:Int)<2+r1 then (ls.length:Int) else 2+r1)) H2
  rw [emn]
  refine nA1 _ _ ?_
  refine bW fun Q3 nA3=>⟨(by show 2≤10000;decide),fun u1 K1 m1=>⟨(by show 2≤10000;decide),fun u2 K2 m2=>⟨(by show 2≤10000;decide),fun u3 K3 m3=>⟨(by show 2≤10000;decide),fun u4 K4 m4=>⟨(by show 4≤10000;decide),fun l5 K5 m5=>⟨(),b,4,t2,rfl,B2.same ((((m1.sm.trans m2.sm).trans m3.sm).trans m4.sm).trans m5.sm),by decide,by decide,by trivial,by trivial,fun r6 t6 K6 r60 r61 h6a h6b s6 B6=>?_⟩⟩⟩⟩⟩⟩
  have sm:=(((m1.sm.trans m2.sm).trans m3.sm).trans m4.sm).trans m5.sm
  have nl5:¬l5=b:=fun z=>(B2.same (((m1.sm.trans m2.sm).trans m3.sm).trans m4.sm)).ne m5.fr z.symm
  have up:∀{u:Addr}{us:List V},K5 u=some (.tup us)→K6 u=some (.tup us):=fun h=>s6.tup _ _ h
  obtain ⟨go,gz,ego,hgo,gs⟩:∃go,∃z:KM.Fra,iy [V.ref u1,V.ref u2,V.ref u3,V.ref u4] r6=some (.ref go)∧K6 go=some (fr z)∧GS z:=by
   obtain rfl | rfl | rfl | rfl:r6=0∨r6=1∨r6=2∨r6=3:=by trivial
   ·exact ⟨u1,(1,1),rfl,up (m5.sm _ _ (m4.sm _ _ (m3.sm _ _ (m2.sm _ _ m1.at')))),.inl rfl⟩
   ·exact ⟨u2,(13,12),rfl,up (m5.sm _ _ (m4.sm _ _ (m3.sm _ _ m2.at'))),.inr (.inl rfl)⟩
   ·exact ⟨u3,(11,12),rfl,up (m5.sm _ _ (m4.sm _ _ m3.at')),.inr (.inr (.inl rfl))⟩
   ·exact ⟨u4,(30,29),rfl,up (m5.sm _ _ m4.at'),.inr (.inr (.inr rfl))⟩
  refine ⟨l5,_,_,(),rfl,ap.of (s6.old l5 _ nl5 m5.at'),ego,nA3 _ _ ?_⟩
  have s06:aE (Eb b) H K6:=(s2.trans sm.toE).trans s6
  have hta6:=s06.tup _ _ hta
  refine bW fun Q7 nA7=>⟨(),na,_,_,(),rfl,af.of (s06.tup _ _ hna),rfl,ta,ys,rfl,.inr (af.of hta6),fun TL H7 n7=>nA7 _ _ ?_⟩
  have nTb:¬TL=b:=fun z=>B6.ne n7.fr z.symm
  have fT:H TL=none:=aE.free s06 B6 n7.fr
  have B7:=B6.same n7.sm
  have s07:=s06.trans n7.sm.toE
  have hgo7:=n7.sm _ _ hgo
  refine bq fun D8 nD8=>⟨(),mn,rfl,by trivial,by trivial,?_⟩
  refine iz (fun i σ H'=>xu fun (v5 v6:Option V) (zs:List V) (ts':List aj) (t':Int)=>σ=[some (.ref b),some (.ref na),some (.int (mn:Int)),some (.ref go),some (.ref TL),v5,v6]∧H' TL=some (.lst zs)∧am ED H' zs (ts'.map cG)∧ts'.length=ts.length+i∧(∀x∈ts',iB ls x)∧Bx H' b t'∧t6≤t'∧t'≤t6+i∧aE (Eb b) H H'∧H' go=some (fr gz)) ⟨_,_,ys,ts,t6,rfl,n7.at',(ity.tupS s07),rfl,tc,B7,by trivial,by trivial,s07,hgo7⟩ ?_ ?_
  case refine_2=>
   rintro σ G ⟨v5,v6,zs,ts',t8,rfl,hT,iT,lT,cT,BG,h8a,h8b,sG,_⟩
   refine nD8 _ _ (rA fun Q9 n9=>⟨(),na,_,_,(),rfl,af.of (sG.tup _ _ hna),rfl,(),TL,(),ap.of hT,fun u G1 p1=>⟨(by show 2≤10000;decide),fun o G2 p2=>n9 _ _ ?_⟩⟩)
   have s2':=p1.sm.trans p2.sm
   exact k (.ref o) ts' t8 G2 (sG.trans s2'.toE) (.tup p2.at' (.cons (.tup (s2' _ _ (sG.tup _ _ hpa)) (tz ls)) (.cons (.tup (p2.sm _ _ p1.at') (iT.mono s2'.toE)) .nil))) (by trivial) (by trivial) cT (BG.same s2') (by trivial) (by trivial)
  rintro i σ G hi ⟨v5,v6,zs,ts',t8,rfl,hT,iT,lT,cT,BG,h8a,h8b,sG,hgoG⟩
  refine oY (t:=ii _ _) fun D9 nD9=>?_
  have hi':(0+(i:Int))=(i:Int):=by trivial
  refine Ab (fun v H'=>bh fun (o:Addr) (z:KM.Fra)=>v=.ref o∧H' o=some (fr z)∧GH z∧ae G H') ?_ fun nx=>?_
  ·rintro v J1 ⟨o,z,rfl,ho,hz,j1⟩
   refine Ab (fun v H'=>bh fun (o:Addr) (z:KM.Fra)=>v=.ref o∧H' o=some (fr z)∧Gb 6 6 z∧1≤z.1∧ae G H') ?_ fun nx=>?_
   ·rintro v J2 ⟨o2,z2,rfl,ho2,gz2,z21,j2⟩
    have BJ:=BG.same j2
    have hT2:=j2 _ _ hT
    have ax:iy (ls.map aQ) (0+(i:Int))=some (aQ ls[i]):=by
     rw [hi']
     exact iE (by rw [List.getElem?_map,List.getElem?_eq_getElem (by trivial)];rfl)
    have m0:=Int.emod_nonneg (0+(i:Int)+1) (show (mn:Int)≠0 by trivial)
    have m1':=Int.emod_lt_of_pos (0+(i:Int)+1) (show 0<(mn:Int) by trivial)
    obtain ⟨la,ela⟩:∃la,la=(0+(i:Int)+1) % (mn:Int):=⟨_,rfl⟩
    rw [←ela] at m0 m1'
    have ay:iy (ls.map aQ) ((0+(i:Int)+1) % (mn:Int))=some (aQ ls[la.toNat]):=by rw [←ela];exact re m0 (by trivial)
    have nla:la≠(i:Int):=by
     rw [ela]
     by_cases c:(i:Int)+1<mn
     ·rw [Int.emod_eq_of_lt (by trivial) (by trivial)];trivial
     ·rw [show 0+(i:Int)+1=(mn:Int) by trivial,Int.emod_self];trivial
    refine ⟨(),.inl ⟨rfl,_,ap.of hT2⟩,(),na,_,_,(),rfl,af.of (j2 _ _ (sG.tup _ _ hna)),rfl,(),pa,_,_,(),rfl,af.of (j2 _ _ (sG.tup _ _ hpa)),ax,(),na,_,_,(),rfl,af.of (j2 _ _ (sG.tup _ _ hna)),rfl,(),_,(),rfl,(),_,(),rfl,(by show (0:Int)<mn;trivial),pa,_,_,(),rfl,af.of (j2 _ _ (sG.tup _ _ hpa)),ay,(),b,9,t8,rfl,BJ,by decide,by decide,by trivial,by trivial,fun r t9 J3 r0 r1' h9a h9b s3 B3=>⟨_,(),rfl,1+r,1,rfl,by decide,vn (by decide) (by decide),fun om J4 n4=>⟨(),(by show 2≤10000;decide),fun op J5 n5=>⟨(by show 5≤10000;decide),fun q J6 n6=>?_⟩⟩⟩⟩
    have L:=rh (n:=1+r) (d:=1) (a:=20) (c:=4) (by trivial) (by show _<1048576;trivial) (by decide) (by show _<16;decide)
    have g06:aE (Eb b) G J6:=(j2.toE.trans s3).trans ((n4.sm.trans n5.sm).trans n6.sm).toE
    have hT6:=g06.old TL _ nTb hT
    have lzs:zs.length=ts'.length:=by rw [iT.length,List.length_map]
    refine ⟨TL,_,(),rfl,hT6,by trivial,fun J7 c7=>nD9 _ _ ?_⟩
    refine ⟨_,_,zs++[.ref q],ts'++[⟨ls[i],ls[la.toNat],KM.low (1+r) 1,z2,(0,1)⟩],t9,rfl,c7.at',?_,by rw [List.length_append,lT];rfl,fun z hz=>?_,(B3.same ((n4.sm.trans n5.sm).trans n6.sm)).ch c7 (fun z=>nTb z.symm),by trivial,by trivial,(sG.trans g06).ch c7 fT,c7.tup (g06.tup _ _ hgoG) hT6⟩
    ·rw [List.map_append]
     refine tS c7 hT6 (iT.tupS g06) ?_
     exact .tup n6.at' (.cons (.str _) (.cons (.str _) (.cons (jP (p:=KM.low (1+r) 1) (n6.sm _ _ (n5.sm _ _ n4.at'))) (.cons (jP (p:=z2) (((n4.sm.trans n5.sm).trans n6.sm) _ _ (s3.tup _ _ ho2))) (.cons (jP (p:=(0,1)) (n6.sm _ _ n5.at')) .nil)))))
    ·rcases List.mem_append.mp hz with h | h
     ·exact cT z h
     ·rw [List.mem_singleton.mp h]
      refine ⟨List.getElem_mem _,List.getElem_mem _,fun z=>?_,L.1,gz2,z21,pq (by decide) (by decide) (by decide),L.2.1,L.2.2.2⟩
      have:=d7 nd (by trivial) (by trivial) z
      trivial
   ·refine ⟨(),rfl,(),eJ (fun c=>?_) (fun c=>?_)⟩
    ·obtain ⟨gz1,gz2⟩:=D4 hz gs
     exact ⟨(),(),o,go,z,gz,2,2,5,5,rfl,ho,j1 _ _ hgoG,(vI hz).1,Eo gs,by decide,by decide,by decide,by decide,(fun z=>by cases z),fun q J2 n2=>nx _ _ ⟨q,(),n2.at',gz1,gz2,j1.trans n2.sm⟩⟩
    ·exact ⟨(),nx _ _ ⟨o,z,rfl,ho,(vI hz).1.mono (by decide) (by decide),(vI hz).2,j1⟩⟩
  ·refine ⟨(),(),(),_,(),rfl,(by show (0:Int)<2;decide),_,(),rfl,_,(),rfl,(),eJ (fun c=>?_) (fun c=>?_)⟩
   ·refine ⟨(by show 2≤10000;decide),fun w1 J1 n1=>⟨(by show 2≤10000;decide),fun w2 J2 n2=>⟨(by show 2≤10000;decide),fun w3 J3 n3=>⟨(),_,(),rfl,(by show (0:Int)<2;decide),?_⟩⟩⟩⟩
    rcases (show (0+(i:Int)) % 2=0∨(0+(i:Int)) % 2=1 by trivial) with e | e
    ·exact ⟨w3,_,_,(),rfl,ap.of n3.at',by rw [e];rfl,nx _ _ ⟨w1,(2,1),rfl,n3.sm _ _ (n2.sm _ _ n1.at'),.inr (.inl rfl),(n1.sm.trans n2.sm).trans n3.sm⟩⟩
    ·exact ⟨w3,_,_,(),rfl,ap.of n3.at',by rw [e];rfl,nx _ _ ⟨w2,(1,2),rfl,n3.sm _ _ n2.at',.inr (.inr rfl),(n1.sm.trans n2.sm).trans n3.sm⟩⟩
   ·exact ⟨(by show 2≤10000;decide),fun w1 J1 n1=>nx _ _ ⟨w1,(1,1),rfl,n1.at',.inl rfl,n1.sm⟩⟩
end
end K42
namespace K42
open PySem L2
set_option maxHeartbeats 4000000
def mY (t:aj):Prop:=0<t.most.1
instance dO (t:aj):Decidable (mY t):=inferInstanceAs (Decidable (_<_))
def zW (t:aj):KM.Edge:=⟨t.bg,t.en,KM.vl t.gain⟩
def tW (ts:List aj):List KM.Edge:=(ts.filter fun t=>decide (mY t)).map zW
theorem lY {ts:List aj}{e:KM.Edge} (h:e∈tW ts):∃t∈ts,mY t∧e=zW t:=by
 obtain ⟨t,ht,rfl⟩:=List.mem_map.mp h
 obtain ⟨h1,h2⟩:=List.mem_filter.mp ht
 exact ⟨t,h1,of_decide_eq_true h2,rfl⟩
theorem CO {ts:List aj}{t:aj} (h:t∈ts) (o:mY t):zW t∈tW ts:=List.mem_map_of_mem (List.mem_filter.mpr ⟨h,decide_eq_true o⟩)
abbrev WF:=List Nat→KM.Fra
def dY (ω:WF) (t:aj):KM.Fra:=KM.lTim t.gain (ω t.en)
def uC (ω γ:WF) (t:aj):WF:=if mY t∧0<(dY ω t).1*(γ t.bg).2 - (γ t.bg).1*(dY ω t).2 then dc γ t.bg (dY ω t) else γ
structure GI (ls:List (List Nat)) (ω γ:WF) (done:List aj):Prop where
 ps:∀l∈ls,1≤(γ l).1∧1≤(γ l).2
 up:∀l∈ls,KM.vl (ω l)≤KM.vl (γ l)
 dn:∀t∈done,mY t→KM.vl t.gain*KM.vl (ω t.en)≤KM.vl (γ t.bg)
 ne:∀l∈ls,γ l=ω l∨KM.vl (ω l)<KM.vl (γ l)
 by':∀l∈ls,γ l=ω l∨∃t∈done,mY t∧t.bg=l∧γ l=dY ω t
theorem GI.step {ls:List (List Nat)}{ω γ:WF}{done:List aj}{t:aj} (pos:∀l∈ls,1≤(ω l).1∧1≤(ω l).2) (c:lX ls t) (dl:∀x∈done,x.bg∈ls) (h:GI ls ω γ done):GI ls ω (uC ω γ t) (done++[t]):=by
 obtain ⟨lv,l2,l1⟩:=mJ c pos
 have pb:=h.ps t.bg c.b
 by_cases g:mY t∧0<(dY ω t).1*(γ t.bg).2 - (γ t.bg).1*(dY ω t).2
 ·have e:uC ω γ t=dc γ t.bg (dY ω t):=if_pos g
  have lt:KM.vl (γ t.bg)<KM.vl (dY ω t):=(lc pb.2 l2).mpr (by have:=g.2;unfold dY at *;trivial)
  have at':∀l,dc γ t.bg (dY ω t) l=if l=t.bg then dY ω t else γ l:=fun l=>rfl
  rw [e]
  refine ⟨fun l hl=>?_,fun l hl=>?_,fun x hx o=>?_,fun l hl=>?_,fun l hl=>?_⟩
  ·rw [at'];split
   ·exact ⟨l1,l2⟩
   ·exact h.ps l hl
  ·rw [at'];split
   ·next z=>rw [z];exact Rat.le_trans (h.up t.bg c.b) (Rat.le_of_lt lt)
   ·exact h.up l hl
  ·rcases List.mem_append.mp hx with z | z
   ·have q:=h.dn x z o
    rw [at'];split
    ·next w=>rw [w] at q;exact Rat.le_trans q (Rat.le_of_lt lt)
    ·exact q
   ·rw [List.mem_singleton.mp z,at',if_pos rfl]
    show _≤KM.vl (KM.lTim t.gain (ω t.en))
    rw [lv]
    exact Rat.le_refl
  ·rw [at']
   by_cases w:l=t.bg
   ·rw [if_pos w,w];exact .inr (nU (h.up t.bg c.b) lt)
   ·rw [if_neg w];exact h.ne l hl
  ·rw [at']
   by_cases w:l=t.bg
   ·rw [if_pos w];exact .inr ⟨t,by simp,g.1,w.symm,rfl⟩
   ·rw [if_neg w]
    rcases h.by' l hl with q | ⟨x,hx,q⟩
    ·exact .inl q
    ·exact .inr ⟨x,List.mem_append_left _ hx,q⟩
 ·have e:uC ω γ t=γ:=if_neg g
  rw [e]
  refine ⟨h.ps,h.up,fun x hx o=>?_,h.ne,fun l hl=>?_⟩
  ·rcases List.mem_append.mp hx with z | z
   ·exact h.dn x z o
   ·rw [List.mem_singleton.mp z] at o ⊢
    have q:¬0<(dY ω t).1*(γ t.bg).2 - (γ t.bg).1*(dY ω t).2:=fun w=>g ⟨o,w⟩
    rw [←lv]
    exact (su l2 pb.2).mpr (by unfold dY at *;trivial)
  ·rcases h.by' l hl with q | ⟨x,hx,q⟩
   ·exact .inl q
   ·exact .inr ⟨x,List.mem_append_left _ hx,q⟩
theorem qU {ls:List (List Nat)}{t:aj} (h:iB ls t):mY t↔t.most≠(0,1):=by
 unfold mY
 constructor
 ·intro o z
  rw [z] at o
  exact absurd o (by decide)
 ·intro n
  have m0:=h.m0
  by_cases c:t.most.1=0
  ·exfalso
   apply n
   have g:=h.mc
   rw [c] at g
   have p:=h.fm.pos
   have:t.most.2=1:=by
    have:Int.gcd 0 t.most.2=t.most.2.natAbs:=Int.gcd_zero_left ..
    trivial
   exact Prod.ext c this
  ·trivial
end K42
namespace K42
open PySem L2
set_option maxHeartbeats 8000000
theorem qG {ls:List (List Nat)} (h:ls.Nodup):(ls.map fun l=>(Sum.inr (S l):aA)).Nodup:=by
 rw [List.nodup_iff_pairwise_ne,List.pairwise_map]
 refine List.Pairwise.imp (fun {a b} hab z=>?_) (List.nodup_iff_pairwise_ne.mp h)
 injection z with z
 exact hab (qt z)
theorem u9:∀{ks:List aA}{vs:List V}{j:Nat}{k:aA}{v:V},ks.Nodup→ks.length=vs.length→ks[j]?=some k→(ks.zip vs).map (fun kv=>if kv.1=k then (kv.1,v) else kv)=ks.zip (vs.set j v)
 | [],_,_,_,_,_,_,h=>by simp at h
 | _ :: _,[],_,_,_,_,h,_=>by simp at h
 | a :: ks,x :: vs,0,k,v,nd,hl,h=>by
  obtain rfl:a=k:=by simpa using h
  rw [List.nodup_cons] at nd
  show (if a=a then (a,v) else (a,x)) :: (ks.zip vs).map _=(a,v) :: ks.zip vs
  rw [if_pos rfl]
  congr 1
  refine (List.map_congr_left fun p hp=>?_).trans (List.map_id _)
  have:p.1∈ks:=(List.of_mem_zip hp).1
  rw [if_neg (fun z:p.1=a=>nd.1 (by rw [←z];exact this))]
  rfl
 | a :: ks,x :: vs,j+1,k,v,nd,hl,h=>by
  rw [List.nodup_cons] at nd
  have hk:ks[j]?=some k:=by simpa using h
  have ne:¬a=k:=fun z=>nd.1 (z▸List.mem_of_getElem? hk)
  show (if a=k then (a,v) else (a,x)) :: (ks.zip vs).map _=(a,x) :: ks.zip (vs.set j v)
  rw [if_neg ne,u9 nd.2 (by simpa using hl) hk]
theorem yq {ks:List aA}{vs:List V}{j:Nat}{k:aA}{v:V} (nd:ks.Nodup) (hl:ks.length=vs.length) (h:ks[j]?=some k):cB (ks.zip vs) k v=ks.zip (vs.set j v):=by
 unfold cB
 have hj:=(List.getElem?_eq_some_iff.mp h)
 have:(ks.zip vs).any (fun kv=>decide (kv.1=k))=true:=by
  rw [List.any_eq_true]
  refine ⟨(k,vs[j]'(by have:=hj.1;trivial)),?_,by simp⟩
  have e:(ks.zip vs)[j]?=some (k,vs[j]'(by have:=hj.1;trivial)):=by
   rw [List.getElem?_zip_eq_some]
   exact ⟨h,List.getElem?_eq_getElem _⟩
  exact List.mem_of_getElem? e
 rw [if_pos this,u9 nd hl h]
abbrev xL (ls:List (List Nat)) (os:List Addr):List (aA×V):=(ls.map fun l=>(Sum.inr (S l):aA)).zip (os.map V.ref)
structure WD (H:Hp) (W:Addr) (ls:List (List Nat)) (os:List Addr) (ω:WF):Prop where
 d:H W=some (.dK (xL ls os))
 l:os.length=ls.length
 v:∀(j:Nat) l o,ls[j]?=some l→os[j]?=some o→H o=some (fr (ω l))
theorem WD.at' {H:Hp}{W:Addr}{ls:List (List Nat)}{os:List Addr}{ω:WF} (h:WD H W ls os ω) (nd:ls.Nodup) {l:List Nat} (hl:l∈ls):bh fun (o:Addr) (j:Nat)=>valD (xL ls os) (Sum.inr (S l))=some (.ref o)∧H o=some (fr (ω l))∧ls[j]?=some l∧os[j]?=some o:=by
 obtain ⟨j,hj⟩:=List.getElem?_of_mem hl
 have hlt:=(List.getElem?_eq_some_iff.mp hj).1
 have ho:os[j]?=some (os[j]'(by rw [h.l];exact hlt)):=List.getElem?_eq_getElem _
 exact ⟨_,j,ug (i:=j) (qG nd) (by rw [List.getElem?_map,hj];rfl) (by rw [List.getElem?_map,ho];rfl),h.v j l _ hj ho,hj,ho⟩
theorem WD.sm {H H':Hp}{W:Addr}{ls:List (List Nat)}{os:List Addr}{ω:WF} (h:WD H W ls os ω) (s:ae H H'):WD H' W ls os ω:=⟨s _ _ h.d,h.l,fun j l o a b=>s _ _ (h.v j l o a b)⟩
theorem WD.data {H:Hp}{W:Addr}{ls:List (List Nat)}{os:List Addr}{ω:WF} (h:WD H W ls os ω):am ED H ((xL ls os).map (·.2)) (ls.map fun l=>cZ (ω l)):=by
 have e:(xL ls os).map (·.2)=os.map V.ref:=by
  rw [List.map_snd_zip]
  rw [List.length_map,List.length_map,h.l]
  exact Nat.le_refl _
 rw [e]
 have l1:=h.l
 have v1:=h.v
 clear h e
 induction ls generalizing os with
 | nil=>
  cases os with
  | nil=>exact .nil
  | cons _ _=>simp at l1
 | cons l r ih=>
  cases os with
  | nil=>simp at l1
  | cons o q=>exact .cons (jP (p:=ω l) (v1 0 l o rfl rfl)) (ih (by simpa using l1) fun j l' o' a b=>v1 (j+1) l' o' (by simpa using a) (by simpa using b))
theorem Ep (p q:KM.Fra):PyData.eqv (cZ p) (cZ q)=decide (p=q):=by
 have e1:PyData.eqv (cZ p) (cZ q)=(p.1==q.1 && (p.2==q.2 && true)):=by simp [PyData.eqv,PyData.eqvAll]
 rw [e1]
 obtain ⟨a,b⟩:=p
 obtain ⟨c,d⟩:=q
 by_cases h1:a=c
 ·by_cases h2:b=d
  ·subst h1 h2;simp
  ·simp [h1,h2]
 ·simp [h1]
theorem qZ (ω γ:WF):∀ls:List (List Nat),lg (ls.map fun l=>cZ (γ l)) (ls.map fun l=>cZ (ω l))=true↔∀l∈ls,γ l=ω l
 | []=>by simp [lg]
 | l :: r=>by
  show (PyData.eqv _ _ && lg _ _)=true↔_
  rw [Ep,Bool.and_eq_true,qZ ω γ r,decide_eq_true_iff]
  simp
end K42
namespace K42
open PySem L2
set_option maxHeartbeats 4000000
theorem yc {c:TT}{tb:TS}{D:cy}{σ:St}{H:Hp} (Pv:Nat→St→Hp→Prop) (m:Nat) (h0:Pv m σ H)
 (hs:∀m σ H,Pv m σ H→∀(Q:Bool→Hp→Prop) (D':cy),(∀m' σ' H',m'<m→Pv m' σ' H'→D'.nx σ' H')→(∀v H',D.rt v H'→D'.rt v H')→(∀H1,tb D' σ H1→Q true H1)→(∀H1,D.nx σ H1→Q false H1)→c σ H Q):xO c tb D σ H:=by
 refine ⟨Pv,⟨m,h0⟩,fun m σ H h=>?_⟩
 refine hs m σ H h _ { D with nx:=fun σ' H'=>∃m',m'<m∧Pv m' σ' H',ct:=fun σ' H'=>∃m',m'<m∧Pv m' σ' H',bk:=D.nx } (fun m' σ' H' hm hp=>⟨m',hm,hp⟩) (fun _ _ z=>z) (fun H1 t=>?_) fun H1 t=>?_
 ·rw [if_pos rfl]
  exact ⟨_,fun _ _ z=>z,t⟩
 ·rw [if_neg (by decide)]
  exact t
theorem xJ {xs:List V}{j:Nat} (h:j≤xs.length):cL xs (some (j:Int)) none=xs.drop j:=by
 unfold cL
 rw [HT.sIx_none,HT.sIx_nat,Nat.min_eq_left h]
 exact List.take_of_length_le (by rw [List.length_drop];exact Nat.le_refl _)
section
variable {P:Program}{w:World}{K:PySem.W.Frag}{mg:Str→Option Value}{base:Heap}
theorem mS {α:Type} [DecidableEq α]:∀{xs ys:List α},xs.Nodup→(∀x∈xs,x∈ys)→xs.length≤ys.length
 | [],_,_,_=>Nat.zero_le _
 | x :: xs,ys,nd,h=>by
  rw [List.nodup_cons] at nd
  have hx:=h x (List.mem_cons_self ..)
  have:=mS (xs:=xs) (ys:=ys.erase x) nd.2 fun y hy=>(List.mem_erase_of_ne (fun (z:y=x)=>nd.1 (z▸hy))).mpr (h y (List.mem_cons_of_mem _ hy))
  rw [List.length_erase_of_mem hx] at this
  have:0<ys.length:=List.length_pos_of_mem hx
  simp
  trivial
theorem Fe (l:List Nat) (es:List (List Nat)):vk (aQ l) (es.map aQ)=es.contains l:=by
 rw [zI]
 by_cases h:l∈es
 ·rw [decide_eq_true h,List.contains_iff_mem.mpr h]
 ·rw [decide_eq_false h]
  cases e:es.contains l with
  | false=>rfl
  | true=>exact absurd (List.contains_iff_mem.mp e) h
abbrev gv (R:List Nat):List V:=R.map fun i:Nat=>V.int (i:Int)
def nQ (ts:List aj) (on:List Nat→Option Nat):Nat→List (List Nat)→List Nat→List Nat→List Nat
 | 0,_,ks,_=>ks
 | n+1,pls,ks,c=>if c∈pls then ks.drop (pls.idxOf c) else match on c with
  | some k=>match ts[k]? with
   | some t=>nQ ts on n (pls++[c]) (ks++[k]) t.en
   | none=>ks
  | none=>ks
theorem Ct {ts:List aj}{on:List Nat→Option Nat}{n j:Nat}{pls:List (List Nat)}{ks:List Nat}{c:List Nat} (nd:pls.Nodup) (h:pls[j]?=some c):nQ ts on (n+1) pls ks c=ks.drop j:=by
 unfold nQ
 rw [if_pos (List.mem_of_getElem? h)]
 congr 1
 obtain ⟨h1,h2⟩:=List.getElem?_eq_some_iff.mp h
 have h3:pls.idxOf c<pls.length:=List.idxOf_lt_length_of_mem (List.mem_of_getElem? h)
 exact d7 nd h3 h1 (by rw [List.getElem_idxOf];exact h2.symm)
theorem BV {ts:List aj}{on:List Nat→Option Nat}{n k:Nat}{pls:List (List Nat)}{ks:List Nat}{c:List Nat}{t:aj} (h:c∉pls) (h1:on c=some k) (h2:ts[k]?=some t):nQ ts on (n+1) pls ks c=nQ ts on n (pls++[c]) (ks++[k]) t.en:=by
 conv=>lhs;unfold nQ
 rw [if_neg h,h1]
 show (match ts[k]? with | some t=>nQ ts on n (pls++[c]) (ks++[k]) t.en | none=>ks)=_
 rw [h2]
inductive yV (vs:List V) (H:Hp) (Q:VK):Prop
 | mk (v:V) (O:Addr) (ls:List (List Nat)) (ts:List aj) (st:LS) (l0:List Nat) (n:Nat) (h0:vs=[v,.ref O,aQ l0]) (h1:aS ED H v (ji ls ts)) (h2:(∀t∈ts,iB ls t)) (h3:ls.length≤10) (h4:DO H O ls st.on n) (h5:BI ls ts ls.length ts.length st) (h6:st.lf=some l0) (h7:∀(R:List Nat) (us:List aj) (r:Addr) (H':Hp),R=nQ ts st.on (ls.length+1) [] [] l0→j6 ts R us→R.length≤10→ae H H'→H r=none→H' r=some (.lst (gv R))→Q (.ref r) H')
def Ay:Sp:=fun vs H Q _=>yV  vs H Q
theorem qP (T:Txt K mg):aT P w K mg base CX0 1 T.round_ahead_.f T.round_ahead_.d ["net", "onward", "place"] Ay:=by
 refine T.round_ahead_.F.ok fW (fun vs H Q E h=>?_) (fun cdv A outer s H vs Q E hr h=>?_)
 ·obtain ⟨v,O,ls,ts,st,l0,n,rfl,_⟩:=h
  rfl
 ·obtain ⟨v,O,ls,ts,st,l0,n,rfl,hv,tc,l10,⟨ko,hO,lO,vO⟩,bi,elf,k⟩:=h
  obtain ⟨na,pa,ta,ys,rfl,hna,hpa,hta,ity⟩:=ee hv
  have tk:∀t∈ts,lX ls t:=fun t ht=>(tc t ht).tok
  refine ⟨_,#[#[3,fW.nd,cK,#[f6 4 (@cw _)]] :: #[#[4,fW.nd,fR,#[f6 4 (@cw _)]] :: #[#[pM 6 PassesOwn.never #[au 8 (@qW _ (K) (by rfl)) #[2,bC] #[3,cK] rfl] #[#[bf 4 (@dg _ (K) _ _ _ _ _ _ _ _ _ _ _ PySem.F.plainAttrs_list PySem.F.slot_list_append PySem.F.type_list_append (@cm _) #[3,cK] #[[#[2,bC]]] (by rfl) (by rfl) (by rfl) (by rfl) (by rfl) (by rfl)) (by rfl)] :: #[#[bf 4 (@dg _ (K) _ _ _ _ _ _ _ _ _ _ _ PySem.F.plainAttrs_list PySem.F.slot_list_append PySem.F.type_list_append (@cm _) #[4,fR] #[[#[cD 7 (@kh _) #[1,iH] #[2,bC] (fun _ _=>rfl)]]] (by rfl) (by rfl) (by rfl) (by rfl) (by rfl) (by rfl)) (by rfl)] :: #[aa 3 #[2,fW.nd,bC,#[#[#[#[0,o3][#[()]]][#[cD 7 (@kh _) #[1,iH] #[2,bC] (fun _ _=>rfl)]]][#[()]]]]]]]] :: #[aa 3 #[aB 4 #[ip 10 (@kA _ (K) (by rfl)) #[4,fR] #[iF 3 (@dg _ (K) _ _ _ _ _ _ _ _ _ _ _ PySem.F.plainAttrs_list PySem.F.slot_list_index PySem.F.type_list_index (@ya _) #[3,cK] #[[#[2,bC]]] (by rfl) (by rfl) (by rfl) (by rfl) (by rfl) (by rfl))] (@kg _)]]]]]],?_⟩
  refine bW fun Q1 nA1=>⟨Nat.zero_le _,fun pl J1 n1=>nA1 _ _ ?_⟩
  refine bW fun Q2 nA2=>⟨Nat.zero_le _,fun tl J2 n2=>nA2 _ _ ?_⟩
  have fpl:H pl=none:=n1.fr
  have ftl:H tl=none:=n1.sm.free n2.fr
  have nlt:¬pl=tl:=fun z=>by have:=n2.fr;rw [←z,n1.at'] at this;cases this
  refine bq fun DB nB=>?_
  refine yc (fun m σ H'=>kF fun (us:List aj) (ks:List Nat) (c:List Nat)=>σ=[some (.ref na),some (.ref O),some (aQ c),some (.ref pl),some (.ref tl)]∧m=ls.length - us.length∧H' pl=some (.lst ((us.map (·.bg)).map aQ))∧H' tl=some (.lst (gv ks))∧ks.map (fun k=>ts[k]?)=us.map some∧(∀t∈us,t.most≠(0,1))∧(∀t∈us,Ed st t)∧(us.map (·.bg)).Nodup∧us.map (·.bg)++[c]=l0 :: us.map (·.en)∧c∈ls∧ls.length≤st.la c+us.length∧(∀t∈us,t.bg∈ls)∧nQ ts st.on (ls.length+1 - us.length) (us.map (·.bg)) ks c=nQ ts st.on (ls.length+1) [] [] l0∧ae H H') ls.length ⟨[],[],l0,rfl,rfl,n2.sm _ _ n1.at',n2.at',rfl,(fun t h=>by cases h),(fun t h=>by cases h),List.nodup_nil,rfl,(bi.lf l0 elf).2,by rw [(bi.lf l0 elf).1];exact Nat.le_add_right _ _,(fun t h=>by cases h),rfl,n1.sm.trans n2.sm⟩ ?_
  rintro m σ H' ⟨us,ks,c,rfl,rfl,hpl,htl,e1,ho,he,nd,ch,hc,hla,sub,ea,sm⟩ Q D' nD rD qT qF
  have lk:ks.length=us.length:=by have:=congrArg List.length e1;simpa using this
  have lus:us.length≤ls.length:=by
   have:=mS (xs:=us.map (·.bg)) (ys:=ls) nd fun x hx=>by
    obtain ⟨t,ht,rfl⟩:=List.mem_map.mp hx
    exact sub t ht
   rwa [List.length_map] at this
  refine ⟨(),(),pl,(),.inl (ap.of hpl),rfl,sV _,(),?_⟩
  show Q (!vk (aQ c) _) _
  rw [Fe]
  cases hcn:(us.map (·.bg)).contains c with
  | false=>
   refine qT _ ?_
   have nc:c∉us.map (·.bg):=fun z=>by
    have:=List.elem_eq_true_of_mem z
    rw [List.contains] at hcn
    rw [this] at hcn
    cases hcn
   have nd2:(us.map (·.bg)++[c]).Nodup:=List.nodup_append.mpr ⟨nd,by simp,fun a ha b hb=>by
    rw [List.mem_singleton.mp hb]
    exact fun z=>nc (z▸ha)⟩
   have ll:us.length+1≤ls.length:=by
    have:=mS (xs:=us.map (·.bg)++[c]) (ys:=ls) nd2 fun x hx=>by
     rcases List.mem_append.mp hx with z | z
     ·obtain ⟨t,ht,rfl⟩:=List.mem_map.mp z
      exact sub t ht
     ·rw [List.mem_singleton.mp z];exact hc
    rwa [List.length_append,List.length_map,List.length_singleton] at this
   obtain ⟨kk,ek⟩:∃kk,st.on c=some kk:=Option.ne_none_iff_exists'.mp (bi.la1 c (by trivial))
   obtain ⟨t,et,op,rfl,le1,lt1,la1⟩:=bi.on c kk ek
   have tt:=tc t (List.mem_of_getElem? et)
   have edt:Ed st t:=⟨i9 tt.g1 tt.fg.pos,le1,lt1⟩
   have vo:valD ko (Sum.inr (S t.bg))=some (.int (kk:Int)):=by rw [vO t.bg hc,ek];rfl
   obtain ⟨y,ey⟩:∃y,ys[kk]?=some y:=⟨_,List.getElem?_eq_getElem (by rw [ity.length,List.length_map];exact (List.getElem?_eq_some_iff.mp et).1)⟩
   obtain ⟨dy,edy,gy⟩:=ity.get ey
   rw [List.getElem?_map,et] at edy
   obtain rfl:cG t=dy:=Option.some.inj edy
   obtain ⟨o,om,og,op',rfl,hto,_,_,_⟩:=fC gy
   refine bq fun DC nC=>⟨(),.inl ⟨rfl,_,ap.of hpl⟩,(),pl,_,(),rfl,hpl,by rw [List.length_map,List.length_map];trivial,fun J3 c3=>nC _ _ ?_⟩
   have sm3:ae H J3:=fun a u h=>c3.ol a u (fun z=>by rw [z,fpl] at h;cases h) (sm a u h)
   have htl3:=c3.ol tl _ (fun z=>nlt z.symm) htl
   refine bq fun DE nE=>⟨(),.inl ⟨rfl,_,ap.of htl3⟩,(),(),O,ko,Sum.inr (S t.bg),(),rfl,sm3 _ _ hO,vo,tl,_,(),rfl,htl3,by rw [List.length_map];trivial,fun J4 c4=>nE _ _ ?_⟩
   have sm4:ae H J4:=fun a u h=>c4.ol a u (fun z=>by rw [z,ftl] at h;cases h) (sm3 a u h)
   refine ⟨(),na,_,_,(),rfl,af.of (sm4 _ _ hna),rfl,(),(),O,ko,Sum.inr (S t.bg),(),rfl,sm4 _ _ hO,vo,ta,ys,_,(),rfl,af.of (sm4 _ _ hta),iE ey,o,_,_,(),rfl,af.of (sm4 _ _ hto),rfl,?_⟩
   refine nD (ls.length - (us.length+1)) _ _ (by trivial) ⟨us++[t],ks++[kk],t.en,rfl,by rw [List.length_append];rfl,?_,?_,?_,?_,?_,?_,?_,tt.e,?_,?_,?_,sm4⟩
   ·rw [c4.ol pl _ nlt c3.at']
    simp
   ·rw [c4.at']
    simp [gv]
   ·rw [List.map_append,List.map_append,e1]
    simp [et]
   ·intro x hx
    rcases List.mem_append.mp hx with z | z
    ·exact ho x z
    ·rw [List.mem_singleton.mp z];exact op
   ·intro x hx
    rcases List.mem_append.mp hx with z | z
    ·exact he x z
    ·rw [List.mem_singleton.mp z];exact edt
   ·rw [List.map_append];exact nd2
   ·rw [List.map_append,List.map_append]
    show (us.map (·.bg)++[t.bg])++[t.en]=_
    rw [ch]
    rfl
   ·rw [List.length_append,List.length_singleton];trivial
   ·intro x hx
    rcases List.mem_append.mp hx with z | z
    ·exact sub x z
    ·rw [List.mem_singleton.mp z];exact tt.b
   ·rw [←ea,List.map_append,List.length_append,List.length_singleton,show ls.length+1 - us.length=(ls.length+1 - (us.length+1))+1 by trivial,BV nc ek et]
    rfl
  | true=>
   refine qF _ (nB _ _ ?_)
   obtain ⟨j,hj⟩:=List.getElem?_of_mem (List.contains_iff_mem.mp hcn)
   have lj:j<us.length:=by have:=(List.getElem?_eq_some_iff.mp hj).1;rwa [List.length_map] at this
   refine ⟨(),(),.inl ⟨rfl,_,ap.of hpl⟩,(),pl,_,c,j,rfl,rfl,hpl,by rw [List.length_map];trivial,hj,nd,(),tl,(),ap.of htl,fun r J3 n3=>?_⟩
   have rk:=BY tk bi.pos e1 ho he nd ch hj
   refine k (ks.drop j) (us.drop j) r J3 (by rw [←ea,show ls.length+1 - us.length=(ls.length - us.length)+1 by trivial,Ct nd hj]) rk (by rw [List.length_drop];trivial) (sm.trans n3.sm) (sm.free n3.fr) ?_
   rw [n3.at',xJ (by rw [List.length_map];trivial)]
   simp only [gv,List.map_drop]
end
end K42
namespace K42
open PySem L2
set_option maxHeartbeats 4000000
section
variable {P:Program}{w:World}{K:PySem.W.Frag}{mg:Str→Option Value}{base:Heap}
theorem wp {J:It}{n:Nat}{H1:Hp}{D:Addr}{σc:St}{g:TG}{tk tv:TE}{Q:VK} (Pv:Nat→Hp→List (aA×V)→Prop) (hz:n≤4000) (h0:Pv 0 (aC H1 D (.dK [])) [])
 (hD:∀i H ys,Pv i H ys→H D=some (.dK ys)∧ys.length≤i) (hgo:∀i H ys,i<n→Pv i H ys→J.go i H) (hst:∀H ys,Pv n H ys→J.stop n H)
 (hs:∀i H ys x H',i<n→Pv i H ys→J.yld i H x H'→g x σc H' fun σ2 H2=>ik σc σ2∧tk σ2 H2 fun kv H4=>∃k,kv=gA k∧tv σ2 H4 fun y H5=>H5 D=some (.dK ys)∧Pv (i+1) (aC H5 D (.dK (cB ys k y))) (cB ys k y))
 (hd:∀H ys,Pv n H ys→Q (.ref D) H):xH J σc g tT tk tv D H1 Q:=by
 refine ⟨fun i m H ys=>m=n - i∧i≤n∧Pv i H ys,⟨n,by simp,Nat.zero_le _,h0⟩,?_⟩
 rintro i m H ys ⟨rfl,hi,p⟩
 obtain ⟨q1,q2⟩:=hD i H ys p
 refine ⟨q1,?_⟩
 by_cases hlt:i<n
 ·refine .inr ⟨hgo i H ys hlt p,by rw [sizeLine_eq];trivial,Pv (i+1),fun H' ys' p'=>⟨n - (i+1),by trivial,rfl,hlt,p'⟩,fun x H' y=>?_⟩
  have e:=hs i H ys x H' hlt p y
  have q:(fun (σ2:St) (H2:Hp)=>ik σc σ2∧tT σ2 H2 fun b H3=>if b=true then tk σ2 H3 fun kv H4=>∃k,kv=gA k∧tv σ2 H4 fun y H5=>H5 D=some (.dK ys)∧Pv (i+1) (aC H5 D (.dK (cB ys k y))) (cB ys k y) else Pv (i+1) H3 ys) =
   (fun σ2 H2=>ik σc σ2∧tk σ2 H2 fun kv H4=>∃k,kv=gA k∧tv σ2 H4 fun y H5=>H5 D=some (.dK ys)∧Pv (i+1) (aC H5 D (.dK (cB ys k y))) (cB ys k y)):=by
   funext σ2 H2
   unfold tT
   dsimp only
   rw [if_pos rfl]
  rw [q]
  exact e
 ·have e:i=n:=by trivial
  subst e
  exact .inl ⟨hst H ys p,hd H ys p⟩
def jF (ls:List (List Nat)) (ts:List aj):List Nat:=match (dX ts ls.length).lf with
 | some l=>nQ ts (dX ts ls.length).on (ls.length+1) [] [] l
 | none=>[]
inductive A3 (vs:List V) (H:Hp) (Q:VK):Prop
 | mk (v:V) (ls:List (List Nat)) (ts:List aj) (h0:vs=[v]) (h1:aS ED H v (ji ls ts)) (h2:(∀t∈ts,iB ls t)) (h3:ts.length≤24) (h4:1≤ls.length) (h5:ls.length≤10) (h6:((∃m,m<ls.length∧(dX ts (m+1)).lf=none∧∀H',ae H H'→Q .non H')∨((∀m,m<ls.length→(dX ts (m+1)).lf≠none)∧∀(us:List aj) (r:Addr) (H':Hp),j6 ts (jF ls ts) us→(jF ls ts).length≤10→ae H H'→H r=none→H' r=some (.lst (gv (jF ls ts)))→Q (.ref r) H')))
def Co:Sp:=fun vs H Q _=>A3  vs H Q
theorem kH (T:Txt K mg):aT P w K mg base CX0 5 T.gaining_round_.f T.gaining_round_.d ["net"] Co:=by
 have G_lift_once:=#[(tx)]
 have G_round_ahead:=#[(qP)]
 refine T.gaining_round_.F.ok cc (fun vs H Q E h=>?_) (fun cdv A outer s H vs Q E hr h=>?_)
 ·obtain ⟨v,ls,ts,rfl,_⟩:=h
  rfl
 ·obtain ⟨v,ls,ts,rfl,hv,tc,h24,l1,l10,k⟩:=h
  obtain ⟨na,pa,ta,ys,rfl,hna,hpa,hta,ity⟩:=ee hv
  refine ⟨_,#[#[uL 8 (["place"]) (1) ([]) _ _ _ _ _ (1) _ _ _ cc.nd rfl gW (by kernel_rfl) rfl (by kernel_rfl) (@kL _ (K) _ _ _ #[#[0,cX][#[()]]] (by rfl)) (fun _ _ _ _ _ _=>#[0,(),()]) (fun _ _ _ _ _ _=>@eS _) (fun _ _ _ _ _ _=>#[0,()]) (fun _ _ _ _ _ _=>#[aI 5 #[[#[()],#[()]]]]) (by intro _;rfl)] :: #[#[2,cc.nd,dD,#[yJ 2]] :: #[#[3,cc.nd,cn,#[gJ 3]] :: #[#[d5 8 PassesOwn.never rfl #[dA 6 mh T.b_range #[[#[(),(),(@eL _ (K) (by rfl)),nz,T.b_len,(@be),#[[#[#[0,cX][#[()]]]]]]]] (by rfl)] #[4,cc.nd,mT] #[#[3,cc.nd,cn,#[G_lift_once,kc,T.lift_once_,#[[#[0,cX],#[1,gW],#[2,dD]]]]] :: #[aa 3 #[bd 8 #[au 8 (@tM _) #[3,cn] #[gJ 3] #[(),()]] #[aa 3 #[aB 4 #[gJ 3]]] (@aR _)]]] (by intro _;rfl)] :: #[aa 3 #[aB 4 #[G_round_ahead,jt,T.round_ahead_,#[[#[0,cX],#[2,dD],#[3,cn]]]]]]]]]],?_⟩
  refine bW fun Q1 nA1=>⟨(),na,_,_,(),rfl,af.of hna,rfl,pa,rfl,⟨_,af.of hpa⟩,fun W hW=>wp (n:=(ls.map aQ).length) (fun i H' kv=>H' W=some (.dK kv)∧kv.length≤i∧(∀(j:Nat) l,j<i→ls[j]?=some l→∃o,valD kv (Sum.inr (S l))=some (.ref o)∧H' o=some (fr (1,1)))∧ae H H') (by rw [List.length_map];trivial) ⟨aD,Nat.le_refl _,(fun j l h=>by trivial),ae.new hW⟩ ?_ ?_ ?_ ?_ ?_⟩
  ·rintro i H' kv ⟨e1,e2,_⟩
   exact ⟨e1,e2⟩
  ·rintro i H' kv hi ⟨_,_,_,sm⟩
   exact ⟨_,_,af.of (sm _ _ hpa),List.getElem?_eq_getElem hi⟩
  ·rintro H' kv ⟨_,_,_,sm⟩
   exact ⟨_,af.of (sm _ _ hpa),Nat.le_refl _⟩
  ·rintro i Ha kv x Hb hi ⟨eW,lW,vW,sm⟩ ⟨rfl,ex⟩
   have exi:=ex _ (af.of (sm _ _ hpa))
   rw [List.length_map] at hi
   rw [List.getElem?_map,List.getElem?_eq_getElem hi] at exi
   obtain rfl:aQ ls[i]=x:=Option.some.inj exi
   refine ⟨lm,(),Sum.inr (S ls[i]),rfl,(by show 2≤10000;decide),fun q J n1=>⟨n1.sm _ _ eW,aD,?_,fun j l hj el=>?_,ic hW (sm.trans n1.sm)⟩⟩
   ·exact Nat.le_trans (pH _ _ _) (by trivial)
   ·have tupU:∀{a:Addr}{us:List V},J a=some (.tup us)→aC J W (.dK (cB kv (Sum.inr (S ls[i])) (.ref q))) a=some (.tup us):=fun {a us} h=>by
     rw [ag (fun z=>by rw [z,n1.sm _ _ eW] at h;cases h)];exact h
    rw [nR]
    by_cases c:l=ls[i]
    ·rw [c,if_pos rfl]
     exact ⟨q,rfl,tupU n1.at'⟩
    ·rw [if_neg (uv c)]
     have hji:j<i:=by
      by_cases z:j=i
      ·subst z
       rw [List.getElem?_eq_getElem hi] at el
       exact absurd (Option.some.inj el).symm c
      ·trivial
     obtain ⟨o,v',h'⟩:=vW j l hji el
     exact ⟨o,v',tupU (n1.sm _ _ h')⟩
  rintro H1 kv ⟨eW,lW,vW,s1⟩
  rw [List.length_map] at lW vW
  refine nA1 _ _ ?_
  refine bW fun Q2 nA2=>fun O H2 n2=>nA2 _ _ ?_
  have nWO:¬W=O:=fun z=>by rw [←z] at n2;have:=n2.fr;rw [eW] at this;cases this
  have fO:H O=none:=s1.free n2.fr
  refine bW fun Q3 nA3=>nA3 _ _ ?_
  have s2:=s1.trans n2.sm
  have dw0:DW H2 W ls (fun _=>(1,1)) 10:=⟨kv,n2.sm _ _ eW,by trivial,fun l hl=>by
   obtain ⟨j,hj⟩:=List.getElem?_of_mem hl
   obtain ⟨o,v',h'⟩:=vW j l (List.getElem?_eq_some_iff.mp hj).1 hj
   exact ⟨o,v',n2.sm _ _ h'⟩⟩
  have same_of:∀{J:Hp},qg W O H2 J→ae H J:=fun f a o h=>f a o (fun z=>by rw [z,hW] at h;cases h) (fun z=>by rw [z,fO] at h;cases h) (s2 _ _ h)
  refine oh fun DB nB rB=>?_
  refine ⟨(),na,_,_,(),rfl,af.of (s2 _ _ hna),rfl,pa,(),.inr (af.of (s2 _ _ hpa)),(),by trivial,by rw [List.length_map];trivial,?_⟩
  rw [List.length_map,Int.toNat_natCast]
  refine iz (fun i σ H'=>∃(v4:Option V),σ=[some (.ref na),some (.ref W),some (.ref O),some (ue (dX ts i).lf),v4]∧(∀m,m<i→(dX ts (m+1)).lf≠none)∧DW H' W ls (dX ts i).ω (10+24*i)∧DO H' O ls (dX ts i).on (10+24*i)∧(∀l∈ls,Gb (1+144*i) (1+144*i) ((dX ts i).ω l)∧1≤((dX ts i).ω l).1)∧qg W O H2 H') ?_ ?_ ?_
  ·exact ⟨(),(fun m h=>by trivial),dw0,⟨[],n2.at',by simp,fun l hl=>rfl⟩,(fun l hl=>⟨Fu,(by show (1:Int)≤1;decide)⟩),fun _ _ _ _ h=>h⟩
  ·rintro i σ J hi ⟨v4,rfl,hno,dw,do',gω,f2⟩
   have hvJ:aS ED J (.ref na) (ji ls ts):=hv.mono (same_of f2).toE
   refine zJ (t:=ii _ _) fun DC nC rC=>?_
   refine bW fun Q4 nA4=>⟨(),(),(),.ref na,W,O,ls,ts,dX ts i,i+1,10+24*i,1+144*i,rfl,hvJ,tc,by trivial,nWO,dw,do',by trivial,gω,by trivial,fun J2 f3 dw2 do2 gω2=>nA4 _ _ ?_⟩
   have es:j0 (i+1) ts (dX ts i)=dX ts (i+1):=rfl
   rw [es] at dw2 do2 gω2 ⊢
   have f4:qg W O H2 J2:=fun a o h1 h2 h=>f3 a o h1 h2 (f2 a o h1 h2 h)
   cases e:(dX ts (i+1)).lf with
   | none=>
    refine ⟨(),rfl,(),bS (rC _ _ (rB _ _ ?_))⟩
    rcases k with ⟨m,_,_,k⟩ | ⟨k,_⟩
    ·exact k J2 (same_of f4)
    ·exact absurd e (k i hi)
   | some l=>
    refine ⟨(),rfl,(),bw (nC _ _ ?_)⟩
    obtain ⟨ko2,hO2,lO2,vO2⟩:=do2
    obtain ⟨kv2,hW2,lW2,vW2⟩:=dw2
    refine ⟨_,by rw [e];rfl,fun m hm=>?_,⟨kv2,hW2,by trivial,vW2⟩,⟨ko2,hO2,by trivial,vO2⟩,(fun l hl=>⟨(gω2 l hl).1.mono (by trivial) (by trivial),(gω2 l hl).2⟩),f4⟩
    by_cases c:m=i
    ·rw [c,e];intro z;cases z
    ·exact hno m (by trivial)
  ·rintro σ J ⟨v4,rfl,hno,dw,do',gω,f2⟩
   rcases k with ⟨m,hm,hm',_⟩ | ⟨_,k⟩
   ·exact absurd hm' (hno m hm)
   obtain ⟨n',en⟩:∃n',ls.length=n'+1:=⟨ls.length - 1,by trivial⟩
   obtain ⟨l0,e0⟩:=Option.ne_none_iff_exists'.mp (hno n' (by trivial))
   have e1:(dX ts ls.length).lf=some l0:=by rw [en];exact e0
   refine nB _ _ ?_
   have sJ:=same_of f2
   have hvJ:aS ED J (.ref na) (ji ls ts):=hv.mono sJ.toE
   refine ⟨(),(),(),.ref na,O,ls,ts,dX ts ls.length,l0,_,by rw [e1];rfl,hvJ,tc,l10,do',BI.st (fun t ht=>(tc t ht).tok) _,e1,fun R us r H' eR rk lR s' fr' hr'=>?_⟩
   have er:jF ls ts=R:=by unfold jF;rw [e1,eR]
   exact k us r H' (by rw [er];exact rk) (by rw [er];exact lR) (sJ.trans s') (sJ.free fr') (by rw [er];exact hr')
end
end K42
namespace K42
open PySem L2
set_option maxHeartbeats 8000000
section
variable {P:Program}{w:World}{K:PySem.W.Frag}{mg:Str→Option Value}{base:Heap}
inductive zf (vs:List V) (H:Hp) (Q:VK):Prop
 | mk (v:V) (ls:List (List Nat)) (ts:List aj) (h0:vs=[v]) (h1:aS ED H v (ji ls ts)) (h2:(∀t∈ts,iB ls t)) (h3:ts.length≤24) (h4:1≤ls.length) (h5:ls.length≤10) (h6:ls.Nodup) (h7:(((∃Wf,KM.Hold ls (tW ts) Wf)∧∀H',ae H H'→Q (.bl false) H')∨((bh fun R us=>j6 ts R us)∧∀H',ae H H'→Q (.bl true) H')))
def AO:Sp:=fun vs H Q _=>zf  vs H Q
def SI (ls:List (List Nat)) (ts:List aj) (i:Nat) (ω:WF):Prop:=∀Wf,KM.Hold ls (tW ts) Wf→bh fun (Sx:List (List Nat)) (m:Rat)=>Sx.length=i∧Sx.Nodup∧(∀l∈Sx,l∈ls)∧(∃l∈ls,l∉Sx)∧KM.SInv ls (tW ts) Wf (fun l=>KM.vl (ω l)) Sx m
theorem SI.zero {ls:List (List Nat)}{ts:List aj} (h:1≤ls.length):SI ls ts 0 (fun _=>(1,1)):=fun Wf hw=>by
 have ne:ls≠[]:=fun z=>by rw [z] at h;exact absurd h (by decide)
 obtain ⟨q,hq,hmax⟩:=KM.exists_max (fun l=>1 / Wf l) ls ne
 have v1:KM.vl (1,1)=1:=by nofun
 refine ⟨[],1 / Wf q,rfl,List.nodup_nil,(fun l hl=>by cases hl),⟨q,hq,by simp⟩,⟨fun l hl=>?_,fun l hl _=>?_,(fun l hl=>by cases hl),(fun t _ he=>by cases he)⟩⟩
 ·show 0<KM.vl (1,1)
  rw [v1];decide
 ·show KM.vl (1,1)≤_
  rw [v1]
  have a:=hmax l hl
  have b:=hw.w l hl
  have c:=Rat.mul_le_mul_of_nonneg_right a (Rat.le_of_lt b)
  rw [Rat.div_mul_cancel (by grind)] at c
  exact c
theorem SI.step {ls:List (List Nat)}{ts:List aj}{i:Nat}{ω γ:WF} (h:SI ls ts i ω) (tc:∀t∈ts,iB ls t) (gi:GI ls ω γ ts) (pos:∀l∈ls,1≤(ω l).1∧1≤(ω l).2) {l0:List Nat} (hl0:l0∈ls) (ne:γ l0≠ω l0):SI ls ts (i+1) γ:=fun Wf hw=>by
 obtain ⟨Sx,m,h1,h2,h3,h4,si⟩:=h Wf hw
 obtain ⟨q,m',q1,q2,si',same⟩:=si.sync (u':=fun l=>KM.vl (γ l)) hw h4 h3 gi.up (fun e he=>by
  obtain ⟨t,ht,o,rfl⟩:=lY he
  exact gi.dn t ht o) (fun l hl=>by
  rcases gi.by' l hl with e | ⟨t,ht,o,hb,e⟩
  ·exact .inl (by rw [e])
  ·refine .inr ⟨zW t,CO ht o,hb,?_⟩
   show KM.vl (γ l)=_
   rw [e]
   exact (mJ (tc t ht).tok pos).1)
 refine ⟨q :: Sx,m',by rw [List.length_cons,h1],List.nodup_cons.mpr ⟨q2,h2⟩,fun l hl=>?_,⟨l0,hl0,fun z=>?_⟩,si'⟩
 ·rcases List.mem_cons.mp hl with rfl | hl
  ·exact q1
  ·exact h3 l hl
 ·rcases gi.ne l0 hl0 with e | e
  ·exact ne e
  ·have e2:KM.vl (γ l0)=KM.vl (ω l0):=same l0 z
   rw [e2] at e
   exact Rat.lt_irrefl e
theorem SI.end' {ls:List (List Nat)}{ts:List aj}{ω:WF} (h:SI ls ts ls.length ω) {Wf:List Nat→Rat} (hw:KM.Hold ls (tW ts) Wf):False:=by
 obtain ⟨Sx,m,h1,h2,h3,⟨l,hl,hn⟩,_⟩:=h Wf hw
 have:=mS (xs:=l :: Sx) (ys:=ls) (List.nodup_cons.mpr ⟨hn,h2⟩) fun x hx=>by
  rcases List.mem_cons.mp hx with rfl | hx
  ·exact hl
  ·exact h3 x hx
 rw [List.length_cons] at this
 trivial
theorem zl (T:Txt K mg):aT P w K mg base CX0 3 T.l_gains_.f T.l_gains_.d ["_law_net"] AO:=by
 have G_l_by:=#[(wC)]
 have G_l_sign:=#[(Aj)]
 refine T.l_gains_.F.ok eF (fun vs H Q E h=>?_) (fun cdv A outer s H vs Q E hr h=>?_)
 ·obtain ⟨v,ls,ts,rfl,_⟩:=h
  rfl
 ·obtain ⟨v,ls,ts,rfl,hv,tc,h24,l1,l10,nd,k⟩:=h
  obtain ⟨na,pa,ta,ys,rfl,hna,hpa,hta,ity⟩:=ee hv
  refine ⟨_,#[#[1,eF.nd,cv,#[bZ 9 (@wm _ rfl) lQ T.b_dict (@oP) #[[#[ie 7 (["_law_name"]) (1) ([]) _ _ _ _ rfl (by kernel_rfl) (@kL _ (K) _ _ _ #[#[0,iY][#[()]]] (by rfl)) (fun _ _ _ _ _ _=>#[0,(),()]) (fun _ _ _ _ _ _=>@eS _) (fun _ _ _ _ _ _=>#[aI 5 #[[#[0,()],#[aI 5 #[[#[()],#[()]]]]]]]) (by intro _;rfl)]]] (by decide) (by decide) (by rfl) (by rfl)]] :: #[#[d5 8 PassesOwn.never rfl #[dA 6 qC T.b_range #[[#[(),(),(@eL _ (K) (by rfl)),sL,T.b_len,(@be),#[[#[#[0,iY][#[()]]]]]]]] (by rfl)] #[2,eF.nd,pV] #[#[3,eF.nd,cH,#[bZ 9 (@wv _) lQ T.b_dict (@oP) #[[#[1,cv]]] (by decide) (by decide) (by rfl) (by rfl)]] :: #[#[d5 8 PassesOwn.never rfl (@kL _ (K) _ _ _ #[#[0,iY][#[()]]] (by rfl)) #[4,eF.nd,cF] #[#[5,eF.nd,hV,#[G_l_by,rg,T.l_by_,#[[#[#[4,cF][#[()]]],#[cD 7 (@kh _) #[1,cv] #[#[4,cF][#[()]]] (fun _ _=>rfl)]]]]] :: #[aa 3 #[bd 8 #[PW.pt 3 #[tF 7 #[au 8 (@jr _) #[#[#[4,cF][#[()]]][#[()]]] #[()] #[(),()]] #[qV 4 #[au 8 (@jr _) #[G_l_sign,pO,T.l_sign_,#[[#[5,hV],#[cD 7 (@kh _) #[3,cH] #[#[4,cF][#[()]]] (fun _ _=>rfl)]]]] #[()] #[(),()]]]]] #[aa 3 #[d6 6 #[5,hV] #[l9 7 #[3,cH] #[#[4,cF][#[()]]] (@pS _) (by intro _;rfl)] (by rfl) (by rfl) (by rfl)]] (@aR _)]]] (by intro _;rfl)] :: #[#[bd 8 #[au 8 (@yW _ hr.units) #[3,cH] #[1,cv] #[(),()]] #[aa 3 #[aB 4 #[dL 4]]] (@aR _)] :: #[aa 3 #[1,eF.nd,cv,#[3,cH]]]]]] (by intro _;rfl)] :: #[aa 3 #[aB 4 #[dL 4]]]]],?_⟩
  have ll:(ls.map aQ).length=ls.length:=List.length_map ..
  refine bW fun Q1 nA1=>⟨(),na,_,_,(),rfl,af.of hna,rfl,pa,rfl,⟨_,af.of hpa⟩,fun D hD=>jD (n:=(ls.map aQ).length) (fun i H' xs=>bh fun (as ws:List Addr)=>xs=as.map V.ref∧H' D=some (.lst xs)∧as.length=i∧ws.length=i∧(∀(j:Nat) a,as[j]?=some a→bh fun l w=>ls[j]?=some l∧ws[j]?=some w∧H' a=some (.tup [aQ l,.ref w])∧H' w=some (fr (1,1)))∧ae H H') (gZ (by trivial)) ⟨[],[],rfl,aD,rfl,rfl,(fun j a h=>by simp at h),ic hD (ae.refl _)⟩ ?_ ?_ ?_ ?_ ?_⟩
  ·rintro i H' xs ⟨as,ws,rfl,e1,e2,_⟩
   exact ⟨e1,by rw [List.length_map];trivial⟩
  ·rintro i H' xs hi ⟨as,ws,_,_,_,_,_,sE⟩
   exact ⟨_,_,af.of (sE _ _ hpa),List.getElem?_eq_getElem hi⟩
  ·rintro H' xs ⟨as,ws,_,_,_,_,_,sE⟩
   exact ⟨_,af.of (sE _ _ hpa),Nat.le_refl _⟩
  ·rintro i Ha xs x Hb hi ⟨as,ws,rfl,eD,la,lw,hw,sE⟩ ⟨rfl,ex⟩
   have exi:=ex _ (af.of (sE _ _ hpa))
   rw [List.length_map] at hi
   rw [List.getElem?_map,List.getElem?_eq_getElem hi] at exi
   obtain rfl:aQ ls[i]=x:=Option.some.inj exi
   refine ⟨lm,(),(by show 2≤10000;decide),fun o J6 n6=>⟨(by show 2≤10000;decide),fun q J7 n7=>?_⟩⟩
   have js:=n6.sm.trans n7.sm
   have eD7:=js _ _ eD
   have c':Ch J7 D (as.map V.ref++[.ref q]) (aC J7 D (.lst (as.map V.ref++[.ref q]))):=Ch.mk'
   refine ⟨eD7,as++[q],ws++[o],by rw [List.map_append];rfl,aD,by rw [List.length_append,la];rfl,by rw [List.length_append,lw];rfl,fun j a' ha'=>?_,ic hD (sE.trans js)⟩
   by_cases hj:j<i
   ·rw [List.getElem?_append_left (by trivial)] at ha'
    obtain ⟨l,w,e1,e2,e3,e4⟩:=hw j a' ha'
    exact ⟨l,w,e1,by rw [List.getElem?_append_left (by trivial)];exact e2,c'.tup (js _ _ e3) eD7,c'.tup (js _ _ e4) eD7⟩
   ·have hj':j=i:=by
     have:=(List.getElem?_eq_some_iff.mp ha').1
     rw [List.length_append] at this
     simp at this
     trivial
    subst hj'
    rw [List.getElem?_append_right (by trivial),la,Nat.sub_self] at ha'
    obtain rfl:q=a':=Option.some.inj ha'
    exact ⟨ls[j],o,List.getElem?_eq_getElem hi,by rw [List.getElem?_append_right (by trivial),lw,Nat.sub_self];rfl,c'.tup n7.at' eD7,c'.tup (n7.sm _ _ n6.at') eD7⟩
  rintro J xs ⟨as,ws,rfl,eD,la,lw,hw,s6⟩
  rw [List.length_map] at la lw
  refine ⟨D,as,ls.map fun l=>(Sum.inr (S l):aA),ws.map V.ref,rfl,eD,by rw [List.length_map];exact la,by rw [List.length_map,List.length_map];exact lw,qG nd,by rw [List.length_map];trivial,fun i a ha=>?_,fun W J1 nW=>nA1 _ _ ?_⟩
  ·obtain ⟨l,w,e1,e2,e3,_⟩:=hw i a ha
   exact ⟨Sum.inr (S l),.ref w,by rw [List.getElem?_map,e1];rfl,by rw [List.getElem?_map,e2];rfl,e3⟩
  have wd0:WD J1 W ls ws (fun _=>(1,1)):=⟨nW.at',lw,fun j l o hj ho=>by
   have hlt:=(List.getElem?_eq_some_iff.mp hj).1
   obtain ⟨l',w',e1,e2,e3,e4⟩:=hw j _ (List.getElem?_eq_getElem (by trivial))
   rw [ho] at e2
   cases e2
   exact nW.sm _ _ e4⟩
  have s01:ae H J1:=s6.trans nW.sm
  clear hw eD la lw nW
  have hna1:=s01 _ _ hna
  refine oh fun D2 nD2 rD2=>⟨(),na,_,_,(),rfl,af.of hna1,rfl,pa,(),.inr (af.of (s01 _ _ hpa)),(),by trivial,by rw [ll];trivial,?_⟩
  rw [ll,Int.toNat_natCast]
  have lys:ys.length=ts.length:=by rw [ity.length,List.length_map]
  refine iz (fun i σ H'=>FT fun (v2 v3 v4 v5:Option V) (W:Addr) (os:List Addr) (ω:WF)=>σ=[some (.ref na),some (.ref W),v2,v3,v4,v5]∧WD H' W ls os ω∧(∀l∈ls,Gb (1+6*i) (1+6*i) (ω l)∧1≤(ω l).1)∧SI ls ts i ω∧ae H H') ⟨_,_,_,_,W,ws,(),wd0,(fun l hl=>⟨pq (by decide) (by decide) (by decide),by decide⟩),SI.zero l1,s01⟩ ?_ ?_
  case refine_2=>
   rintro σ H' ⟨v2,v3,v4,v5,W,os,ω,rfl,_,_,si,sm⟩
   refine nD2 _ _ ?_
   rcases k with ⟨⟨Wf,hW⟩,_⟩ | ⟨_,k⟩
   ·exact (si.end' hW).elim
   ·exact k H' sm
  rintro i σ H2 hi ⟨v2,v3,v4,v5,W,os,ω,rfl,wd,gω,si,sm⟩
  have pos:∀l∈ls,1≤(ω l).1∧1≤(ω l).2:=fun l hl=>⟨(gω l hl).2,(gω l hl).1.pos⟩
  refine zJ (t:=ii _ _) fun D3 nD3 rD3=>?_
  refine bW fun Q4 nA4=>⟨(),W,(),wd.d,fun G H3 n3=>nA4 _ _ ?_⟩
  have nGW:¬G=W:=fun z=>by have:=n3.fr;rw [z,wd.d] at this;cases this
  have fG:H G=none:=sm.free n3.fr
  have sm3:=sm.trans n3.sm
  refine bq fun D5 nD5=>⟨(),na,_,_,(),rfl,af.of (sm3 _ _ hna),rfl,ta,rfl,⟨_,af.of (sm3 _ _ hta)⟩,?_⟩
  refine qQ (xs:=ys) (fun j σ H'=>kz fun (v4 v5:Option V) (os2:List Addr) (γ:WF)=>σ=[some (.ref na),some (.ref W),some (.int (0+(i:Int))),some (.ref G),v4,v5]∧WD H' G ls os2 γ∧WD H' W ls os ω∧(∀l∈ls,Gb (7+6*i) (7+6*i) (γ l))∧GI ls ω γ (ts.take j)∧ae H H') ⟨_,_,os,ω,rfl,⟨n3.at',wd.l,(wd.sm n3.sm).v⟩,wd.sm n3.sm,(fun l hl=>(gω l hl).1.mono (by trivial) (by trivial)),⟨pos,fun l hl=>Rat.le_refl,(fun t ht=>by cases ht),fun l hl=>.inl rfl,fun l hl=>.inl rfl⟩,sm3⟩ ?_ ?_ ?_
  ·rintro j σ H' _ ⟨_,_,_,_,_,_,_,_,_,sm⟩
   exact af.of (sm _ _ hta)
  case refine_3=>
   rintro σ H' ⟨v4,v5,os2,γ,rfl,wg,ww,gγ,gi,sm'⟩
   rw [lys,List.take_length] at gi
   refine nD5 _ _ ?_
   refine oh fun D6 nD6 rD6=>⟨(),(),G,W,_,_,_,_,3,rfl,rfl,wg.d,ww.d,?_,wg.data,ww.data,(fun f hf=>by
    obtain ⟨l,hl,rfl⟩:=List.mem_map.mp hf
    exact vZ (gγ l hl) (by trivial) (by trivial)),(fun f hf=>by
    obtain ⟨l,hl,rfl⟩:=List.mem_map.mp hf
    exact vZ (gω l hl).1 (by trivial) (by trivial)),_,rfl,?_⟩
   ·rw [List.map_fst_zip (by simp [wg.l]),List.map_fst_zip (by simp [ww.l])]
   cases e:lg (ls.map fun l=>cZ (γ l)) (ls.map fun l=>cZ (ω l)) with
   | true=>
    have same:=(qZ ω γ ls).mp e
    refine bS (rD6 _ _ (rD3 _ _ (rD2 _ _ ?_)))
    rcases k with ⟨_,k⟩ | ⟨⟨R,us,rk⟩,_⟩
    ·exact k H' sm'
    ·refine (C2 (u:=fun l=>KM.vl (ω l)) (fun t ht=>(tc t ht).tok) ⟨fun l hl=>i9 (pos l hl).1 (pos l hl).2,fun t ht o=>?_⟩ rk).elim
     have q:=gi.dn t ht ((qU (tc t ht)).mpr o)
     rw [same t.bg (tc t ht).b] at q
     exact q
   | false=>
    obtain ⟨l0,hl0,ne⟩:∃l∈ls,γ l≠ω l:=by
     refine Classical.byContradiction fun z=>?_
     have:lg (ls.map fun l=>cZ (γ l)) (ls.map fun l=>cZ (ω l))=true:=(qZ ω γ ls).mpr fun l hl=>Classical.byContradiction fun w=>z ⟨l,hl,w⟩
     rw [this] at e
     cases e
    refine bw (nD6 _ _ ⟨(),nD3 _ _ ?_⟩)
    exact ⟨_,_,_,_,G,os2,γ,rfl,wg,(fun l hl=>⟨(gγ l hl).mono (by trivial) (by trivial),(gi.ps l hl).1⟩),si.step tc gi pos hl0 ne,sm'⟩
  rintro j x σ H4 ex ⟨v4,v5,os2,γ,rfl,wg,ww,gγ,gi,sm4⟩
  refine oY (t:=ii _ _) fun D7 nD7=>?_
  obtain ⟨td,et,dx⟩:=ity.get ex
  rw [List.getElem?_map] at et
  cases eti:ts[j]? with
  | none=>rw [eti] at et;cases et
  | some t=>
  rw [eti] at et
  cases et
  have ht:=List.mem_of_getElem? eti
  have c:=tc t ht
  obtain ⟨a,om,og,op,rfl,ha,hom,hog,hop⟩:=fC (dx.mono sm4.toE)
  obtain ⟨we,je,e1,e2,_,_⟩:=ww.at' nd c.e
  refine bW fun Q8 nA8=>⟨(),a,_,_,(),rfl,af.of ha,rfl,(),(),a,_,_,(),rfl,af.of ha,rfl,W,_,Sum.inr (S t.en),(),rfl,ww.d,e1,og,we,t.gain,ω t.en,6,6,1+6*i,1+6*i,rfl,hog,e2,c.fg,(gω t.en c.e).1,by decide,by decide,by trivial,by trivial,(fun z=>by cases z),fun mo H5 n5=>nA8 _ _ ?_⟩
  have hmo:H5 mo=some (fr (dY ω t)):=n5.at'
  have wg5:=wg.sm n5.sm
  have ww5:=ww.sm n5.sm
  have gm:Gb (7+6*i) (7+6*i) (dY ω t):=c.fg.tim (gω t.en c.e).1 (by trivial) (by trivial)
  have gi':=gi.step pos c.tok fun x hx=>(tc x (List.mem_of_mem_take hx)).b
  have etk:ts.take (j+1)=ts.take j++[t]:=by rw [List.take_add_one,eti];rfl
  rw [←etk] at gi'
  obtain ⟨wb,jb,b1,b2,b3,b4⟩:=wg5.at' nd c.b
  have ha5:=n5.sm _ _ ha
  have hom5:=n5.sm _ _ hom
  have gzm:=gz gm (by trivial) (by trivial)
  have gzg:=gz (gγ t.bg c.b) (by trivial) (by trivial)
  have sm5:=sm4.trans n5.sm
  refine B0 (decide (0<t.most.1)) (decide (0<(dY ω t).1*(γ t.bg).2 - (γ t.bg).1*(dY ω t).2)) (fun R' kk=>⟨(),a,_,_,(),rfl,af.of ha5,rfl,om,_,_,(),rfl,af.of hom5,rfl,_,(),rfl,(),kk⟩) (fun R' kk=>⟨(),(),(),a,_,_,(),rfl,af.of ha5,rfl,G,_,Sum.inr (S t.bg),(),rfl,wg5.d,b1,mo,wb,dY ω t,γ t.bg,rfl,hmo,b2,gzm.1,gzm.2,gzg.1,gzg.2,_,(),rfl,(),kk⟩) ?_
  by_cases g:mY t∧0<(dY ω t).1*(γ t.bg).2 - (γ t.bg).1*(dY ω t).2
  ·have e:uC ω γ t=dc γ t.bg (dY ω t):=if_pos g
   rw [decide_eq_true (show 0<t.most.1 from g.1),decide_eq_true g.2]
   refine bS ⟨(),(),(),a,_,_,(),rfl,af.of ha5,rfl,G,_,Sum.inr (S t.bg),rfl,rfl,wg5.d,?_,fun H6 c6=>nD7 _ _ ?_⟩
   ·rw [List.length_zip,List.length_map,List.length_map];trivial
   have hk:(ls.map fun l=>(Sum.inr (S l):aA))[jb]?=some (Sum.inr (S t.bg)):=by rw [List.getElem?_map,b3];rfl
   have tupU:∀{o:Addr}{us:List V},H5 o=some (.tup us)→H6 o=some (.tup us):=fun {o us} h=>c6.ol o _ (fun z=>by rw [z,wg5.d] at h;cases h) h
   have hG6:H6 G=some (.dK (xL ls (os2.set jb mo))):=by
    rw [c6.at',yq (qG nd) (by rw [List.length_map,List.length_map,wg5.l]) hk,←List.map_set]
   have lj:=(List.getElem?_eq_some_iff.mp b3)
   refine ⟨_,_,os2.set jb mo,uC ω γ t,rfl,⟨hG6,by rw [List.length_set];exact wg5.l,fun j' l o hl ho=>?_⟩,⟨c6.ol W _ (fun z=>nGW z.symm) ww5.d,ww5.l,fun j' l o hl ho=>tupU (ww5.v j' l o hl ho)⟩,fun l hl=>?_,gi',fun b' o' z=>c6.ol b' o' (fun w=>by rw [w,fG] at z;cases z) (sm5 _ _ z)⟩
   ·rw [e]
    by_cases cj:j'=jb
    ·subst cj
     rw [List.getElem?_set_self (by rw [wg5.l];exact lj.1)] at ho
     cases ho
     rw [b3] at hl
     cases hl
     show H6 mo=some (fr (if t.bg=t.bg then dY ω t else γ t.bg))
     rw [if_pos rfl]
     exact tupU hmo
    ·rw [List.getElem?_set_ne (fun z=>cj z.symm)] at ho
     have nl:¬l=t.bg:=fun z=>cj (by
      obtain ⟨h1,h2⟩:=List.getElem?_eq_some_iff.mp hl
      exact d7 nd h1 lj.1 (by rw [h2,lj.2];exact z))
     show H6 o=some (fr (if l=t.bg then dY ω t else γ l))
     rw [if_neg nl]
     exact tupU (wg5.v j' l o hl ho)
   ·rw [e]
    show Gb _ _ (if l=t.bg then dY ω t else γ l)
    split
    ·exact gm
    ·exact gγ l hl
  ·have e:uC ω γ t=γ:=if_neg g
   have hb:(decide (0<t.most.1) && decide (0<(dY ω t).1*(γ t.bg).2 - (γ t.bg).1*(dY ω t).2))=false:=by
    cases h1:decide (0<t.most.1) with
    | false=>rfl
    | true=>
     rw [decide_eq_false (fun z=>g ⟨of_decide_eq_true h1,z⟩)]
     rfl
   rw [hb]
   refine bw (nD7 _ _ ⟨_,_,os2,uC ω γ t,rfl,by rw [e];exact wg5,ww5,by rw [e];exact gγ,gi',sm5⟩)
end
end K42
namespace K42
open PySem L2
set_option maxHeartbeats 4000000
def ES (s:aq) (i:Nat) (t:aj):aj:=if ((i:Nat):Int)∈s.sh then { t with most:=(0,1) } else t
def ix (s:aq):List aj:=s.ts.mapIdx (ES s)
theorem qI (s:aq):(ix s).length=s.ts.length:=List.length_mapIdx
theorem qJ (s:aq):wu s=ji s.pl (ix s):=by
 have e:(List.range s.ts.length).map (ur s)=(ix s).map cG:=by
  refine List.ext_getElem? fun i=>?_
  rw [List.getElem?_map,List.getElem?_map]
  unfold ix
  rw [List.getElem?_mapIdx]
  by_cases h:i<s.ts.length
  ·rw [List.getElem?_range h,List.getElem?_eq_getElem h]
   show some (ur s i)=some (cG (ES s i s.ts[i]))
   unfold ur
   rw [List.getElem?_eq_getElem h]
   rfl
  ·rw [List.getElem?_eq_none (by simp;trivial),List.getElem?_eq_none (by trivial)]
   rfl
 unfold wu
 rw [e]
structure jN (s:aq):Prop where
 l:s.pl.length≤10
 t:s.ts.length≤24
 nd:s.pl.Nodup
 c:∀t∈s.ts,iB s.pl t
theorem jN.n {s:aq} (h:jN s):∀t∈ix s,iB s.pl t:=fun t ht=>by
 obtain ⟨i,hi⟩:=List.getElem?_of_mem ht
 unfold ix at hi
 rw [List.getElem?_mapIdx] at hi
 cases e:s.ts[i]? with
 | none=>rw [e] at hi;cases hi
 | some u=>
  rw [e] at hi
  cases hi
  have c:=h.c u (List.mem_of_getElem? e)
  show iB s.pl (if ((i:Nat):Int)∈s.sh then { u with most:=(0,1) } else u)
  split
  ·exact ⟨c.b,c.e,c.ne,pq (by decide) (by decide) (by decide),c.fg,c.g1,c.fp,by show (0:Int)≤0;decide,by show Int.gcd 0 1=1;decide⟩
  ·exact c
section
variable {P:Program}{w:World}{K:PySem.W.Frag}{mg:Str→Option Value}{base:Heap}
def sX (ls:List (List Nat)) (ts:List aj) (H:Hp) (Q:VK):Prop:=
 (∃m,m<ls.length∧(dX ts (m+1)).lf=none∧∀H',ae H H'→Q .non H')∨((∀m,m<ls.length→(dX ts (m+1)).lf≠none)∧∀(us:List aj) (r:Addr) (H':Hp),j6 ts (jF ls ts) us→(jF ls ts).length≤10→ae H H'→H r=none→H' r=some (.lst (gv (jF ls ts)))→Q (.ref r) H')
theorem sX.ext {ls:List (List Nat)}{ts:List aj}{H H1:Hp}{Q:VK} (h:sX ls ts H Q) (s:ae H H1):sX ls ts H1 Q:=by
 rcases h with ⟨m,h1,h2,k⟩ | ⟨h1,k⟩
 ·exact .inl ⟨m,h1,h2,fun H' s'=>k H' (s.trans s')⟩
 ·exact .inr ⟨h1,fun us r H' a b s' f hr=>k us r H' a b (s.trans s') (s.free f) hr⟩
inductive wQ (C:Addr) (vs:List V) (H:Hp) (Q:VK):Prop
 | mk (r L:Addr) (past:List aq) (cur:aq) (h0:vs=[.ref r]) (h1:aV C H r L (past++[cur])) (h2:fv 5000 past cur) (h3:jN cur) (h4:((cur.pl.length=0∧∀H',ae H H'→Q .non H')∨(1≤cur.pl.length∧sX cur.pl (ix cur) H Q)))
def xV (C:Addr):Sp:=fun vs H Q _=>wQ C vs H Q
theorem qf (T:Txt K mg):aT P w K mg base CX0 6 T.f_Roads__gaining T.d_Roads__gaining ["self"] (xV T.x_Roads):=by
 have G_Roads__net:=#[(ua)]
 have G_gaining_round:=#[(kH)]
 refine T.F_Roads__gaining.ok jR (fun vs H Q E h=>?_) (fun cdv A outer s H vs Q E hr h=>?_)
 ·obtain ⟨r,L,past,cur,rfl,_⟩:=h
  rfl
 ·obtain ⟨r,L,past,cur,rfl,ra,so,gd,k⟩:=h
  refine ⟨_,#[#[1,jR.nd,eG,#[cU 17 #[0,lI] T.c_Roads T.h_Roads__net G_Roads__net (hr.mono (by decide)) T.B_Roads__net .nil (@eH _) (by rfl)]] :: #[aa 3 #[aB 4 #[fH 8 #[au 8 (@jr _) #[(),(),(@eL _ (K) (by rfl)),mv,T.b_len,(@be),#[[#[#[1,eG][#[()]]]]]] #[()] #[(),()]] #[G_gaining_round,iR,T.gaining_round_,#[[#[1,eG]]]] #[gJ 3]]]]],?_⟩
  obtain ⟨dx,xs,hr',hL,ha⟩:=id ra
  refine bW fun Q1 nA1=>⟨(),r,dx,(),hr',rfl,r,L,past,cur,rfl,ra,so,fun v H1 s1 dv=>nA1 _ _ ?_⟩
  rw [qJ] at dv
  obtain ⟨na,pa,ta,ys,rfl,hna,hpa,hta,ity⟩:=ee dv
  refine rA fun Q2 n2=>⟨(),na,_,_,(),rfl,af.of hna,rfl,pa,(),.inr (af.of hpa),_,(),rfl,(),?_⟩
  rw [List.length_map]
  rcases k with ⟨l0,k⟩ | ⟨l1,k⟩
  ·rw [decide_eq_false (by trivial)]
   exact bw (n2 _ _ (k H1 s1))
  ·rw [decide_eq_true (by trivial)]
   have k1:=k.ext s1
   refine bS ⟨(),.ref na,cur.pl,ix cur,rfl,dv,gd.n,by rw [qI];exact gd.t,l1,gd.l,?_⟩
   rcases k1 with ⟨m,h1,h2,k⟩ | ⟨h1,k⟩
   ·exact .inl ⟨m,h1,h2,fun H' s'=>n2 _ _ (k H' s')⟩
   ·exact .inr ⟨h1,fun us r H' a b s' f hr=>n2 _ _ (k us r H' a b s' f hr)⟩
end
end K42
namespace K42
open PySem L2
set_option maxHeartbeats 8000000
section
variable {P:Program}{w:World}{K:PySem.W.Frag}{mg:Str→Option Value}{base:Heap}
theorem xW {ts:List aj}{R:List Nat}{us:List aj} (h:j6 ts R us):R.length=us.length∧∀(i k:Nat),R[i]?=some k→∃t,us[i]?=some t∧ts[k]?=some t:=by
 have e:=h.at'
 have hl:R.length=us.length:=by have:=congrArg List.length e;simpa using this
 refine ⟨hl,fun i k hk=>?_⟩
 have q:=congrArg (fun l=>l[i]?) e
 simp only [List.getElem?_map] at q
 rw [hk] at q
 have hi:=(List.getElem?_eq_some_iff.mp hk).1
 rw [List.getElem?_eq_getElem (by trivial)] at q
 exact ⟨us[i]'(by trivial),List.getElem?_eq_getElem _,by simpa using q⟩
inductive Dj (vs:List V) (H:Hp) (Q:VK):Prop
 | mk (v:V) (r:Addr) (ls:List (List Nat)) (ts:List aj) (R:List Nat) (us:List aj) (h0:vs=[v,.ref r]) (h1:aS ED H v (ji ls ts)) (h2:(∀t∈ts,iB ls t)) (h3:ts.length≤24) (h4:j6 ts R us) (h5:R.length≤10) (h6:H r=some (.lst (gv R))) (h7:∀H',ae H H'→Q (.bl true) H')
def DJ:Sp:=fun vs H Q _=>Dj  vs H Q
theorem uN (T:Txt K mg):aT P w K mg base CX0 3 T.l_is_round_.f T.l_is_round_.d ["_law_net", "_law_way"] DJ:=by
 have G_l_by:=#[(wC)]
 refine T.l_is_round_.F.ok eY (fun vs H Q E h=>?_) (fun cdv A outer s H vs Q E hr h=>?_)
 ·obtain ⟨v,r,ls,ts,R,us,rfl,_⟩:=h
  rfl
 ·obtain ⟨v,r,ls,ts,R,us,rfl,hv,tc,h24,rk,lR,hR,k⟩:=h
  obtain ⟨na,pa,ta,ys,rfl,hna,hpa,hta,ity⟩:=ee hv
  refine ⟨_,#[#[bd 8 #[PW.pt 3 #[mR 7 #[kI 4 #[gU 3 #[(),(),(@pX _ (K) (by rfl)),kZ,T.b_isinstance,(@gE),#[[#[1,di],#[wI 4 o7 T.b_list (@kU) (by decide) (by decide)]]]] (by intro _;rfl)]] #[l6 4 #[au 8 (@fw _) #[(),(),(@eL _ (K) (by rfl)),im,T.b_len,(@be),#[[#[1,di]]]] #[()] #[(),()]]]]] #[aa 3 #[aB 4 #[dL 4]]] (@aR _)] :: #[#[bd 8 #[kI 4 #[gU 3 #[(),(),(@DD _ (K) rfl (by rfl)),pF,T.b_all,(@wH),#[[#[ie 7 (["_law_k", "_law_net"]) (1) ([0]) _ _ _ _ rfl (by kernel_rfl) (@lh _ (K) _ _ _ #[1,di] (by rfl)) (fun _ _ _ _ _ _=>#[0,(),()]) (fun _ _ _ _ _ _=>@eS _) (fun _ _ _ _ _ _=>#[oF 7 #[(),(),(@pX _ (K) (by rfl)),(by show _=_;kernel_rfl),T.b_isinstance,(@gE),#[[#[0,()],#[wI 4 (by show _=_;kernel_rfl) T.b_int (@gP) (by decide) (by decide)]]]] #[oF 7 #[yb 4 #[(),(),(@pX _ (K) (by rfl)),(by show _=_;kernel_rfl),T.b_isinstance,(@gE),#[[#[0,()],#[wI 4 (by show _=_;kernel_rfl) T.b_bool (@uA) (by decide) (by decide)]]]]] #[ql 5 #[zH 12 (@zN _) (@fw _) #[()] #[0,()] #[(),(),(@eL _ (K) (by rfl)),(by show _=_;kernel_rfl),T.b_len,(@be),#[[#[#[1,0][#[()]]]]]] (by with_unfolding_all rfl)]]]]) (by intro _;rfl)]]]] (by intro _;rfl)]] #[aa 3 #[aB 4 #[dL 4]]] (@aR _)] :: #[#[mm 2 (2) (3) _ _ _ _ _ _ _ _ _ _ _ rfl eY.nd rfl rfl (by decide) bD bx #[[#[ie 7 (["_law_k", "_law_net"]) (1) ([0]) _ _ _ _ rfl (by kernel_rfl) (@lh _ (K) _ _ _ #[1,di] (by rfl)) (fun _ _ _ _ _ _=>#[0,(),()]) (fun _ _ _ _ _ _=>@eS _) (fun _ _ _ _ _ _=>#[#[#[1,0][#[()]]][#[0,()]]]) (by intro _;rfl)],#[aI 5 #[[#[()],#[()]]]]]] (by kernel_rfl) (by rfl)] :: #[#[d5 8 PassesOwn.never rfl (@tP _ (K) _ _ _ _ _ _ _ _ pN T.b_zip #[[#[2,bD],#[ak 8 (@Ah _) #[ip 10 (@kA _ (K) (by rfl)) #[2,bD] #[iF 3 #[()]] (@kg _)] #[ip 10 (@kA _ (K) (by rfl)) #[2,bD] (@kg _) #[iF 3 #[()]]]]]] (by rfl) (by rfl) (by rfl)) (@cQ _ (K) _ _ _ _ (2) rfl #[aw 5 #[4,eY.nd,du] #[aw 5 #[5,eY.nd,gY] (@dh _) (by rfl)] (by rfl)] (by rfl) (by rfl) (by rfl)) #[#[bd 8 #[PW.pt 3 #[mR 7 #[au 8 (@vH _) #[#[4,du][#[()]]] #[#[5,gY][#[()]]] #[(),()]] #[l6 4 #[au 8 (@dJ _) #[#[#[4,du][#[()]]][#[()]]] #[()] #[(),()]]]]] #[aa 3 #[aB 4 #[dL 4]]] (@aR _)] :: #[aa 3 #[3,eY.nd,bx,#[G_l_by,o9,T.l_by_,#[[#[3,bx],#[#[4,du][#[()]]]]]]]]] (by intro _;rfl)] :: #[aa 3 #[aB 4 #[oF 7 #[fh 8 (@dJ _) (@xQ _ (K) _ _ _ _ _ _ #[ie 7 (["_law_row"]) (1) ([]) _ _ _ _ rfl (by kernel_rfl) (@lh _ (K) _ _ _ #[2,bD] (by rfl)) (fun _ _ _ _ _ _=>#[0,(),()]) (fun _ _ _ _ _ _=>@eS _) (fun _ _ _ _ _ _=>#[#[0,()][#[()]]]) (by intro _;rfl)] rfl im T.b_len pW T.b_set (by rfl) (by rfl)) #[(),(),(@eL _ (K) (by rfl)),im,T.b_len,(@be),#[[#[2,bD]]]] #[(),()]] #[ql 5 #[fh 8 (@jr _) #[#[3,bx][#[()]]] #[#[3,bx][#[()]]] #[(),()]]]]]]]]]],?_⟩
  obtain ⟨lu,rat⟩:=xW rk
  have lys:ys.length=ts.length:=by rw [ity.length,List.length_map]
  have r2:=rk.two
  have lnv:(gv R).length=R.length:=List.length_map ..
  have hRd:aS (fun _=>False) H (.ref r) (.list ((R.map fun i:Nat=>(i:Int)).map PyData.int)):=.lst hR id (by
   have:gv R=(R.map fun i:Nat=>(i:Int)).map V.int:=by rw [List.map_map];rfl
   rw [this]
   exact tY _)
  refine bq fun D1 nD1=>⟨(),_,_,_,(),hRd.ty,zv _,(),bw ⟨(),r,(),.inl (ap.of hR),_,(),rfl,(),?_⟩⟩
  rw [lnv,decide_eq_false (by trivial)]
  refine bw (nD1 _ _ ?_)
  refine bq fun D2 nD2=>⟨(),r,rfl,⟨_,ap.of hR⟩,fun D hD=>sq (xs:=gv R) (fun i=>.bl true) (by trivial) hD hR ?_ ?_⟩
  ·intro i x H' R' ex sm kk
   rw [List.getElem?_map] at ex
   cases ek:R[i]? with
   | none=>rw [ek] at ex;cases ex
   | some kk'=>
    rw [ek] at ex
    cases ex
    obtain ⟨t,_,et⟩:=rat i kk' ek
    have hlt:=(List.getElem?_eq_some_iff.mp et).1
    refine ⟨lm,(),_,_,_,(),(aS.int (E:=ED) (H:=H') (kk':Int)).ty,Bj _,(),bS ⟨(),_,_,_,(),(aS.int (E:=ED) (H:=H') (kk':Int)).ty,yR _,(),(),bS ⟨(),_,(),rfl,(),?_⟩⟩⟩
    rw [decide_eq_true (by trivial)]
    refine bS ⟨(),na,_,_,(),rfl,af.of (sm _ _ hna),rfl,ta,(),.inr (af.of (sm _ _ hta)),_,(),rfl,?_⟩
    show R' (.bl (decide ((kk':Int)<(ys.length:Int)))) H'
    rw [decide_eq_true (by trivial)]
    exact kk H' (ae.refl _)
  intro H1 s1 hD1
  have e3:(List.range (gv R).length).map (fun _=>V.bl true)=(List.replicate (gv R).length true).map V.bl:=by
   rw [List.map_const',List.map_replicate,List.length_range]
  rw [e3] at hD1
  refine ⟨D,(),ap.of hD1,(),?_⟩
  rw [Ar]
  refine bw (nD2 _ _ ?_)
  have hR1:=s1 _ _ hR
  have hna1:=s1 _ _ hna
  have hta1:=s1 _ _ hta
  refine Fo fun Q3 nP3=>⟨(),r,rfl,⟨_,ap.of hR1⟩,fun D3 hD3=>vG (xs:=gv R) (fun i=>((us[i]?).map cG).getD .none) (by trivial) hD3 hR1 ?_ ?_⟩
  ·intro i x H' R' ex sm kk
   rw [List.getElem?_map] at ex
   cases ek:R[i]? with
   | none=>rw [ek] at ex;cases ex
   | some kk'=>
    rw [ek] at ex
    cases ex
    obtain ⟨t,eu,et⟩:=rat i kk' ek
    rw [eu] at kk
    have hlt:=(List.getElem?_eq_some_iff.mp et).1
    obtain ⟨y,ey⟩:∃y,ys[kk']?=some y:=⟨_,List.getElem?_eq_getElem (by trivial)⟩
    obtain ⟨dy,edy,gy⟩:=ity.get ey
    rw [List.getElem?_map,et] at edy
    cases edy
    exact ⟨lm,(),na,_,_,(),rfl,af.of (sm _ _ hna1),rfl,(),ta,ys,_,(),rfl,af.of (sm _ _ hta1),iE ey,kk y H' (ae.refl _) (gy.mono (s1.trans sm).toE)⟩
  intro zs H3 s3 hD3' ia
  have eus:(List.range (gv R).length).map (fun i=>((us[i]?).map cG).getD .none)=us.map cG:=by
   rw [lnv,lu]
   exact nn _ cG us (fun i x e=>by rw [e];rfl)
  rw [eus] at ia
  have lz:zs.length=us.length:=by rw [ia.length,List.length_map]
  refine ⟨(by show 2≤10000;decide),fun g0 H4 n4=>nP3 _ _ _ ?_⟩
  have s04:ae H H4:=(s1.trans s3).trans n4.sm
  have hz4:=n4.sm _ _ hD3'
  have ia4:=ia.mono n4.sm.toE
  refine bq fun D5 nD5=>⟨(),(),(),D3,(),ap.of hz4,fun x1 H5 n5=>⟨(),(),D3,(),ap.of (n5.sm _ _ hz4),fun x2 H6 n6=>⟨x1,x2,_,(),rfl,n6.sm _ _ n5.at',n6.at',?_,fun x3 H7 n7=>⟨D3,x3,true,true,rfl,⟨_,ap.of (((n5.sm.trans n6.sm).trans n7.sm) _ _ hz4)⟩,⟨_,ap.of n7.at'⟩,?_⟩⟩⟩⟩
  ·have a1:=jq zs (some 1) none
   have a2:=jq zs none (some 1)
   trivial
  have lzs:1≤zs.length:=by trivial
  have ec:cL zs (some 1) none++cL zs none (some 1)=zs.drop 1++zs.take 1:=by
   rw [vS,xX (by decide)]
   rfl
  rw [ec] at n7
  have s47:ae H4 H7:=(n5.sm.trans n6.sm).trans n7.sm
  have hz7:=s47 _ _ hz4
  have ia7:=ia4.mono s47.toE
  have ib7:am ED H7 (zs.drop 1++zs.take 1) ((us.drop 1++us.take 1).map cG):=by
   rw [List.map_append,List.map_drop,List.map_take]
   exact (ia7.drop 1).append (ia7.take 1)
  have lrot:(zs.drop 1++zs.take 1).length=zs.length:=by
   rw [List.length_append,List.length_drop,List.length_take]
   trivial
  have hus:∀t∈us,t∈ts:=fun t ht=>by
   have m:some t∈R.map (fun k=>ts[k]?):=by rw [rk.at'];exact List.mem_map_of_mem ht
   obtain ⟨k,_,hk⟩:=List.mem_map.mp m
   exact List.mem_of_getElem? hk
  refine Bs (xs:=zs) (ys:=zs.drop 1++zs.take 1) (n:=zs.length) (fun i σ H'=>kz fun (g:Addr) (p:KM.Fra) (v4 v5:Option V)=>σ=[some (.ref na),some (.ref r),some (.ref D3),some (.ref g),v4,v5]∧H' g=some (fr p)∧KM.vl p=b8 (us.take i)∧Gb (1+6*i) (1+6*i) p∧ae H7 H') (by rw [lrot];trivial) ⟨g0,(1,1),_,(),s47 _ _ n4.at',(by show KM.vl (1,1)=1;decide +kernel),pq (by decide) (by decide) (by decide),ae.refl _⟩ ?_ ?_ ?_
  ·rintro i σ H' _ ⟨_,_,_,_,_,_,_,_,sm⟩
   exact ⟨ap.of (sm _ _ hz7),ap.of (sm _ _ n7.at')⟩
  ·rintro i x y Tq σ H' ex ey hTq ⟨g,p,v4,v5,rfl,hg,vp,gp,sm⟩
   obtain ⟨d1,e1,i1⟩:=ia7.get ex
   obtain ⟨d2,e2,i2⟩:=ib7.get ey
   rw [List.getElem?_map] at e1 e2
   obtain ⟨t,et,rfl⟩:=Option.map_eq_some_iff.mp e1
   obtain ⟨t',et',rfl⟩:=Option.map_eq_some_iff.mp e2
   have rot:t.en=t'.bg:=by
    have q:=congrArg (fun l=>l[i]?) rk.rot
    simp only at q
    rw [←List.map_drop,←List.map_take,←List.map_append,List.getElem?_map,List.getElem?_map,et,et'] at q
    exact Option.some.inj q
   have c:=tc t (hus t (List.mem_of_getElem? et))
   have op':t.most.1≠0:=fun z=>by
    have o:=(qU c).mpr (rk.op t (List.mem_of_getElem? et))
    unfold mY at o
    trivial
   have sT:=ae.new (o:=.tup [x,y]) hTq
   have smT:=sm.trans sT
   obtain ⟨a,om,og,op,rfl,ha,hom,hog,_⟩:=fC (i1.mono smT.toE)
   obtain ⟨a',om',og',op2,rfl,ha',_,_,_⟩:=fC (i2.mono smT.toE)
   refine ⟨Tq,(),af.of aD,rfl,_,(),_,(),rfl,?_⟩
   have hgT:=sT _ _ hg
   have hi10:i<zs.length:=(List.getElem?_eq_some_iff.mp ex).1
   refine bq fun D8 nD8=>⟨(),a,_,_,(),rfl,af.of ha,rfl,(),a',_,_,(),rfl,af.of ha',rfl,rfl,(),?_⟩
   rw [rot,decide_eq_true rfl]
   refine bw ⟨(),a,_,_,(),rfl,af.of ha,rfl,om,_,_,(),rfl,af.of hom,rfl,rfl,(),?_⟩
   rw [Bk,decide_eq_false op']
   refine bw (nD8 _ _ ⟨(),(),a,_,_,(),rfl,af.of ha,rfl,g,og,p,t.gain,1+6*i,1+6*i,6,6,rfl,hgT,hog,gp,c.fg,by trivial,by trivial,by decide,by decide,(fun z=>by cases z),fun q H9 n9=>?_⟩)
   refine ⟨q,_,_,(),n9.at',?_,gp.tim c.fg (by trivial) (by trivial),smT.trans n9.sm⟩
   rw [List.take_add_one,et]
   show _=b8 (us.take i++[t])
   rw [yh,←vp]
   have q1:KM.vl (KM.lTim p t.gain)=KM.vl p*KM.vl t.gain:=KM.vl_tim (by have:=gp.pos;trivial) (by have:=c.fg.pos;trivial)
   rw [q1]
   show _=KM.vl p*(KM.vl t.gain*1)
   rw [Rat.mul_one]
  rintro σ H8 ⟨g,p,v4,v5,rfl,hg,vp,gp,sm⟩
  rw [lz,List.take_length] at vp
  refine nD5 _ _ (rA fun Q9 n9=>?_)
  have hz8:=sm _ _ hz7
  refine ⟨(),D3,rfl,⟨_,ap.of hz8⟩,fun D6 hD6=>sq (xs:=zs) (fun i=>((us[i]?).map fun t=>aQ t.bg).getD .non) (by trivial) hD6 hz8 ?_ ?_⟩
  ·intro i x H' R' ex sm' kk
   obtain ⟨d1,e1,i1⟩:=ia7.get ex
   rw [List.getElem?_map] at e1
   obtain ⟨t,et,rfl⟩:=Option.map_eq_some_iff.mp e1
   rw [et] at kk
   obtain ⟨a,om,og,op,rfl,ha,_⟩:=fC (i1.mono (sm.trans sm').toE)
   exact ⟨lm,(),a,_,_,(),rfl,af.of ha,rfl,kk H' (ae.refl _)⟩
  intro H9 s9 hD9
  have ebg:(List.range zs.length).map (fun i=>((us[i]?).map fun t=>aQ t.bg).getD .non)=((us.map (·.bg)).map fun l=>(Sum.inr (S l):aA)).map gA:=by
   rw [lz,nn _ (fun t:aj=>aQ t.bg) us (fun i x e=>by rw [e];rfl),List.map_map,List.map_map]
   rfl
  rw [ebg] at hD9
  refine ⟨D6,(us.map (·.bg)).map fun l=>(Sum.inr (S l):aA),rfl,.inl (ap.of hD9),by rw [List.length_map,List.length_map];trivial,(),D3,(),.inl (ap.of (s9 _ _ hz8)),rfl,(),?_⟩
  rw [(vT ((us.map (·.bg)).map fun l=>(Sum.inr (S l):aA))).mpr (qG rk.nd),show (((us.map (·.bg)).map fun l=>(Sum.inr (S l):aA)).length:Nat)=zs.length by rw [List.length_map,List.length_map,lz],decide_eq_true rfl]
  have hg9:=s9 _ _ hg
  refine bS ⟨(),g,_,_,(),rfl,af.of hg9,rfl,(),g,_,_,(),rfl,af.of hg9,rfl,_,(),rfl,n9 _ _ ?_⟩
  have gt:p.2<p.1:=by
   have q:=rk.gain
   rw [←vp] at q
   have w:=(lc (p:=(1,1)) (q:=p) (by decide) gp.pos).mp (by rw [show KM.vl (1,1)=1 by nofun];exact q)
   simp at w
   trivial
  show Q (.bl (decide (p.2<p.1))) H9
  rw [decide_eq_true gt]
  exact k H9 (((s04.trans s47).trans sm).trans s9)
end
end K42
namespace K42
open PySem L2
set_option maxHeartbeats 8000000
section
variable {P:Program}{w:World}{K:PySem.W.Frag}{mg:Str→Option Value}{base:Heap}
theorem xc {ls:List (List Nat)}{ts:List aj}{m:Nat} (tc:∀t∈ts,iB ls t) (h:(dX ts (m+1)).lf=none):KM.Hold ls (tW ts) fun l=>KM.vl ((dX ts m).ω l):=by
 have tk:∀t∈ts,lX ls t:=fun t ht=>(tc t ht).tok
 have bi:=BI.st tk m
 have no:=(wY (s:=dX ts m) h).2
 refine ⟨fun l hl=>i9 (bi.pos l hl).1 (bi.pos l hl).2,fun e he=>?_,fun e he=>?_,fun e he=>?_,fun e he=>?_⟩
 ·obtain ⟨t,ht,_,rfl⟩:=lY he
  exact (tc t ht).b
 ·obtain ⟨t,ht,_,rfl⟩:=lY he
  exact (tc t ht).e
 ·obtain ⟨t,ht,_,rfl⟩:=lY he
  exact i9 (tc t ht).g1 (tc t ht).fg.pos
 ·obtain ⟨t,ht,o,rfl⟩:=lY he
  refine Rat.not_lt.mp fun z=>?_
  have q:=(sw (tk t ht) bi.pos).mpr ⟨(qU (tc t ht)).mp o,z⟩
  rw [no t ht] at q
  cases q
def tU (R:List Nat):PyData:=.list ((R.map fun i:Nat=>(i:Int)).map PyData.int)
theorem tQ {H:Hp}{r:Addr}{R:List Nat} (h:H r=some (.lst (gv R))):aS (fun _=>False) H (.ref r) (tU R):=.lst h id (by
 have:gv R=(R.map fun i:Nat=>(i:Int)).map V.int:=by rw [List.map_map];rfl
 rw [this]
 exact tY _)
theorem Do {ts:List aj}{R:List Nat}{us:List aj} (h:j6 ts R us) (l:ts.length≤24):Wt (tU R) (1*(R.map fun i:Nat=>(i:Int)).length+1) 1:=.list (k:=0) (vC fun i hi=>by
 obtain ⟨k,hk,rfl⟩:=List.mem_map.mp hi
 obtain ⟨j,hj⟩:=List.getElem?_of_mem hk
 obtain ⟨t,_,et⟩:=(xW h).2 j k hj
 have:=(List.getElem?_eq_some_iff.mp et).1
 exact .int (Sz.mono (m:=40) (by show ((k:Nat):Int).natAbs<1099511627776;trivial) (by decide)))
inductive ym (C:Addr) (vs:List V) (H:Hp) (Q:VK):Prop
 | mk (r L:Addr) (past:List aq) (cur:aq) (h0:vs=[.ref r]) (h1:aV C H r L (past++[cur])) (h2:fv 5000 past cur) (h3:jN cur) (h4:1≤cur.pl.length) (h5:∀H',ae H H'→Q (.bl true) H')
def zh (C:Addr):Sp:=fun vs H Q _=>ym C vs H Q
theorem yz (T:Txt K mg):aT P w K mg base CX0 7 T.l_right_.f T.l_right_.d ["_law_roads"] (zh T.x_Roads):=by
 have G_Roads__net:=#[(ua)]
 have G_Roads__gaining:=#[(qf)]
 have G_gaining_round:=#[(kH)]
 have G_l_gains:=#[(zl)]
 have G_l_is_round:=#[(uN)]
 refine T.l_right_.F.ok jY (fun vs H Q E h=>?_) (fun cdv A outer s H vs Q E hr h=>?_)
 ·obtain ⟨r,L,past,cur,rfl,_⟩:=h
  rfl
 ·obtain ⟨r,L,past,cur,rfl,ra,so,gd,l1,k⟩:=h
  refine ⟨_,#[#[1,jY.nd,cC,#[cU 17 #[0,gG] T.c_Roads T.h_Roads__net G_Roads__net (hr.mono (by decide)) T.B_Roads__net .nil (@eH _) (by rfl)]] :: #[#[2,jY.nd,cR,#[cU 17 #[0,gG] T.c_Roads T.h_Roads__gaining G_Roads__gaining (hr.mono (by decide)) T.B_Roads__gaining .nil (@eH _) (by rfl)]] :: #[#[bd 8 #[au 8 (@tM _) #[2,cR] #[gJ 3] #[(),()]] #[aa 3 #[aB 4 #[oF 7 #[yb 4 #[G_l_gains,jW,T.l_gains_,#[[#[1,cC]]]]] #[ql 5 #[fh 8 (@tM _) #[G_gaining_round,gh,T.gaining_round_,#[[#[1,cC]]]] #[gJ 3] #[(),()]]]]]] (@aR _)] :: #[#[3,jY.nd,gC,#[(),(),#[mD 2 hr],jp,T.b_repr,(@lH),#[[#[2,cR]]]]] :: #[#[bd 8 #[PW.pt 3 #[mR 7 #[kI 4 #[gU 3 #[G_l_is_round,mF,T.l_is_round_,#[[#[1,cC],#[2,cR]]]] (by intro _;rfl)]] #[mR 7 #[kI 4 #[gU 3 #[G_l_gains,jW,T.l_gains_,#[[#[1,cC]]]] (by intro _;rfl)]] #[l6 4 #[au 8 (@vH _) #[(),(),#[mD 2 hr],jp,T.b_repr,(@lH),#[[#[G_gaining_round,gh,T.gaining_round_,#[[#[1,cC]]]]]]] #[3,gC] #[(),()]]]]]] #[aa 3 #[aB 4 #[dL 4]]] (@aR _)] :: #[#[bf 4 (@dg _ (K) _ _ _ _ _ _ _ _ _ _ _ PySem.F.plainAttrs_list PySem.F.slot_list_append PySem.F.type_list_append (@cm _) #[2,cR] #[[#[()]]] (by rfl) (by rfl) (by rfl) (by rfl) (by rfl) (by rfl)) (by rfl)] :: #[aa 3 #[aB 4 #[fh 8 (@dJ _) #[(),(),#[mD 2 hr],jp,T.b_repr,(@lH),#[[#[cU 17 #[0,gG] T.c_Roads T.h_Roads__gaining G_Roads__gaining (hr.mono (by decide)) T.B_Roads__gaining .nil (@eH _) (by rfl)]]]] #[3,gC] #[(),()]]]]]]]]]],?_⟩
  obtain ⟨dx,xs,hr',hL,ha⟩:=id ra
  refine bW fun Q1 nA1=>⟨(),r,dx,(),hr',rfl,r,L,past,cur,rfl,ra,so,fun v H1 s1 dv=>nA1 _ _ ?_⟩
  rw [qJ] at dv
  have tc:=gd.n
  have h24:(ix cur).length≤24:=by rw [qI];exact gd.t
  have ra1:=ra.sm s1
  have hr1:=s1 _ _ hr'
  by_cases hc:∃m,m<cur.pl.length∧(dX (ix cur) (m+1)).lf=none
  ·obtain ⟨m,hm,em⟩:=hc
   refine bW fun Q2 nA2=>⟨(),r,dx,(),hr1,rfl,r,L,past,cur,rfl,ra1,so,gd,.inr ⟨l1,.inl ⟨m,hm,em,fun H2 s2=>nA2 _ _ ?_⟩⟩⟩
   have dv2:=dv.mono s2.toE
   refine oh fun D3 nD3 rD3=>⟨(),rfl,(),bS (rA fun Q3 n3=>?_)⟩
   refine ⟨(),v,cur.pl,ix cur,rfl,dv2,tc,h24,l1,gd.l,gd.nd,.inl ⟨⟨_,xc tc em⟩,fun H3 s3=>⟨(),(),bS ?_⟩⟩⟩
   exact ⟨(),v,cur.pl,ix cur,rfl,dv2.mono s3.toE,tc,h24,l1,gd.l,.inl ⟨m,hm,em,fun H4 s4=>⟨rfl,n3 _ _ (rD3 _ _ (k H4 (((s1.trans s2).trans s3).trans s4)))⟩⟩⟩
  have hno:∀m,m<cur.pl.length→(dX (ix cur) (m+1)).lf≠none:=fun m hm z=>hc ⟨m,hm,z⟩
  refine bW fun Q2 nA2=>⟨(),r,dx,(),hr1,rfl,r,L,past,cur,rfl,ra1,so,gd,.inr ⟨l1,.inr ⟨hno,fun us r1 H2 rk lR s2 f2 h2=>nA2 _ _ ?_⟩⟩⟩
  have dv2:=dv.mono s2.toE
  have wt:=Do rk h24
  have lw:(1*((jF cur.pl (ix cur)).map fun i:Nat=>(i:Int)).length+1)≤5500:=by rw [List.length_map];trivial
  refine oh fun D3 nD3 rD3=>⟨(),rfl,(),bw (nD3 _ _ ?_)⟩
  refine bW fun Q4 nA4=>⟨(),r1,tU (jF cur.pl (ix cur)),_,_,(),tQ h2,wt,lw,by decide,nA4 _ _ ?_⟩
  refine oh fun D5 nD5 rD5=>⟨(),(),v,r1,cur.pl,ix cur,_,us,rfl,dv2,tc,h24,rk,lR,h2,fun H3 s3=>⟨(),bw ?_⟩⟩
  have dv3:=dv2.mono s3.toE
  refine ⟨(),v,cur.pl,ix cur,rfl,dv3,tc,h24,l1,gd.l,gd.nd,.inr ⟨⟨_,us,rk⟩,fun H4 s4=>⟨(),bw ?_⟩⟩⟩
  have dv4:=dv3.mono s4.toE
  refine ⟨(),v,cur.pl,ix cur,rfl,dv4,tc,h24,l1,gd.l,.inr ⟨hno,fun us' r2 H5 rk' lR' s5 f5 h5=>⟨r2,tU (jF cur.pl (ix cur)),_,_,(),tQ h5,wt,lw,by decide,(),rfl,(),?_⟩⟩⟩
  rw [decide_eq_true rfl]
  refine bw (nD5 _ _ ?_)
  have s25:ae H2 H5:=(s3.trans s4).trans s5
  have h15:=s25 _ _ h2
  have s05:ae H H5:=(s1.trans s2).trans s25
  refine bq fun D6 nD6=>⟨(),.inl ⟨rfl,_,ap.of h15⟩,r1,_,(),rfl,h15,by rw [List.length_map];trivial,fun H6 c6=>nD6 _ _ ?_⟩
  have f0:H r1=none:=s1.free f2
  have s06:ae H H6:=fun b o z=>c6.ol b o (fun w=>by rw [w,f0] at z;cases z) (s05 _ _ z)
  refine rA fun Q7 n7=>⟨(),r,dx,(),s06 _ _ hr',rfl,r,L,past,cur,rfl,ra.sm s06,so,gd,.inr ⟨l1,.inr ⟨hno,fun us'' r3 H7 rk'' lR'' s7 f7 h7=>⟨r3,tU (jF cur.pl (ix cur)),_,_,(),tQ h7,wt,lw,by decide,(),rfl,n7 _ _ ?_⟩⟩⟩⟩
  show Q (.bl (decide _)) H7
  rw [decide_eq_true rfl]
  exact k H7 (s06.trans s7)
end
end K42
namespace K42
open PySem L2
set_option maxHeartbeats 16000000
section
variable {P:Program}{w:World}{K:PySem.W.Frag}{mg:Str→Option Value}{base:Heap}
theorem FL {H H':Hp}{a:Addr}{xs:List V} (s:ae H H') (h:ap K H a xs):ap K H' a xs:=h.imp (fun q=>q.imp (s _ _) fun ⟨o,e⟩=>⟨o,s _ _ e⟩) id
theorem EU {E:Addr→Prop}{H H':Hp} (s:aE E H H'):aE ED H H':=⟨fun _ _ n _=>absurd trivial n,s.tup⟩
structure HB (ls:List (List Nat)) (past:List aq) (cur:aq):Prop where
 l:ls.length≤past.length
 g:∀(j:Nat) s,(past++[cur])[j]?=some s→ls.length≤j→jN s∧s.pl=ls
theorem HB.cur {ls:List (List Nat)}{past:List aq}{cur:aq} (h:HB ls past cur):jN cur∧cur.pl=ls:=h.g past.length cur (by rw [List.getElem?_append_right (Nat.le_refl _),Nat.sub_self];rfl) h.l
theorem HB.next {ls:List (List Nat)}{past:List aq}{cur s:aq} (h:HB ls past cur) (hs:jN s) (hp:s.pl=ls):HB ls (past++[cur]) s:=⟨by rw [List.length_append];have:=h.l;trivial,fun j u hj hl=>by
 by_cases c:j<(past++[cur]).length
 ·rw [List.getElem?_append_left c] at hj
  exact h.g j u hj hl
 ·have hlt:=(List.getElem?_eq_some_iff.mp hj).1
  rw [List.length_append] at hlt
  rw [List.getElem?_append_right (by trivial),show j - (past++[cur]).length=0 by simp at hlt c ⊢;trivial] at hj
  cases hj
  exact ⟨hs,hp⟩⟩
theorem HB.back {ls:List (List Nat)}{q:List aq}{s cur:aq} (h:HB ls (q++[s]) cur) (hl:ls.length<(q++[s]).length):HB ls q s:=⟨by rw [List.length_append] at hl;simp at hl;trivial,fun j u hj hl=>h.g j u (by rw [List.getElem?_append_left (List.getElem?_eq_some_iff.mp hj).1];exact hj) hl⟩
theorem jN.shut {s:aq} (h:jN s) (sh:List Int):jN { s with sh:=sh }:=⟨h.l,h.t,h.nd,h.c⟩
theorem jN.gain {s:aq} (h:jN s) (i:Nat) (x:KM.Fra) (gx:Gb 6 6 x) (x1:1≤x.1):jN { s with ts:=jH s.ts .g i x }:=by
 refine ⟨h.l,by show (jH s.ts .g i x).length≤24;rw [mC];exact h.t,h.nd,fun t ht=>?_⟩
 have ht':t∈jH s.ts .g i x:=ht
 unfold jH at ht'
 cases e:s.ts[i]? with
 | none=>rw [e] at ht';exact h.c t ht'
 | some u=>
  rw [e] at ht'
  rcases List.mem_or_eq_of_mem_set ht' with z | z
  ·exact h.c t z
  ·have c:=h.c u (List.mem_of_getElem? e)
   rw [z]
   exact ⟨c.b,c.e,c.ne,c.fm,gx,x1,c.fp,c.m0,c.mc⟩
inductive Du (K:PySem.W.Frag) (vs:List V) (H:Hp) (Q:VK):Prop
 | mk (a:Addr) (ns:List Int) (h0:vs=[.ref a]) (h1:ap K H a (ns.map V.int)) (h2:ns.length≤63) (h3:∀H',Q (.bl true) H')
def spLaw (K:PySem.W.Frag):Sp:=fun vs H Q _=>Du K vs H Q
theorem law_start {H:Hp}{a:Addr}{ns:List Int} (hl:ns.length≤63) (_:rE H) (hS:ap K H a (ns.map V.int)):spLaw K [.ref a] H (fun v _=>v=.bl true) fun _ _ _=>False:=
 ⟨a,ns,rfl,hS,hl,fun _=>rfl⟩
theorem law_ok (T:Txt K mg):aT P w K mg base CX0 40 T.law_.f T.law_.d ["_law_script"] (spLaw K):=by
 have G_l_boxes:=#[(yN)]
 have G_l_take:=#[(jj)]
 have G_l_net_drawn:=#[(ut)]
 have G_l_with_round:=#[(sF)]
 have G_l_gain:=#[(vw)]
 have G_l_right:=#[(yz)]
 have G_Roads____init__:=#[(sO)]
 have G_Roads__gaining:=#[(qf)]
 have G_Roads__add_place:=#[(s0)]
 have G_Roads__add_tie:=#[(wR)]
 have G_Roads__deeds:=#[(tD)]
 have G_Roads__back:=#[(Br)]
 have G_Roads__net:=#[(ua)]
 have G_Roads__is_shut:=#[(wx)]
 have G_Roads__reopen:=#[(x9)]
 have G_Roads__shut:=#[(AJ)]
 have G_Roads__set_gain:=#[(uH)]
 refine T.law_.F.ok iW (fun vs H Q E h=>?_) (fun cdv A outer s H vs Q E hr h=>?_)
 ·obtain ⟨a,ns,rfl,_⟩:=h
  rfl
 ·obtain ⟨a,ns,rfl,hS,hn,k⟩:=h
  refine ⟨_,#[#[bd 8 #[au 8 (@vh _) #[cU 17 #[tH 11 T.mk_Roads G_Roads____init__ (hr.mono (by decide)) pE T.m_Roads T.B_Roads____init__ (@eH _) (by decide)] T.c_Roads T.h_Roads__gaining G_Roads__gaining (hr.mono (by decide)) T.B_Roads__gaining .nil (@eH _) (by rfl)] #[gJ 3] #[(),()]] #[aa 3 #[aB 4 #[dL 4]]] (@aR _)] :: #[#[d5 8 PassesOwn.never rfl (@lh _ (K) _ _ _ #[G_l_boxes,sx,T.l_boxes_,#[[#[0,qL],#[()]]]] (by rfl)) #[1,iW.nd,bn] #[#[2,iW.nd,dE,#[G_l_net_drawn,pe,T.l_net_drawn_,#[[#[1,bn],#[fh 8 (@dJ _) #[G_l_take,fU,T.l_take_,#[[#[1,bn],#[()]]]] #[()] #[(),()]]]]]] :: #[#[bd 8 #[au 8 (@dJ _) #[G_l_take,fU,T.l_take_,#[[#[1,bn],#[()]]]] #[()] #[(),()]] #[aa 3 #[2,iW.nd,dE,#[G_l_with_round,oS,T.l_with_round_,#[[#[1,bn],#[2,dE]]]]]] (@aR _)] :: #[#[3,iW.nd,ba,#[tH 11 T.mk_Roads G_Roads____init__ (hr.mono (by decide)) pE T.m_Roads T.B_Roads____init__ (@eH _) (by decide)]] :: #[#[d5 8 PassesOwn.never rfl (@kL _ (K) _ _ _ #[#[2,dE][#[()]]] (by rfl)) #[4,iW.nd,oB] #[aa 3 #[bf 4 #[fX 20 #[3,ba] T.c_Roads T.h_Roads__add_place G_Roads__add_place (hr.mono (by decide)) T.B_Roads__add_place .nil #[oX 3] #[[#[4,oB]]] (by rfl) (by rfl) (by rfl)] (by rfl)]] (by intro _;rfl)] :: #[#[bd 8 #[au 8 (@vh _) #[cU 17 #[3,ba] T.c_Roads T.h_Roads__gaining G_Roads__gaining (hr.mono (by decide)) T.B_Roads__gaining .nil (@eH _) (by rfl)] #[gJ 3] #[(),()]] #[aa 3 #[aB 4 #[dL 4]]] (@aR _)] :: #[#[d5 8 PassesOwn.never rfl (@kL _ (K) _ _ _ #[#[2,dE][#[()]]] (by rfl)) #[5,iW.nd,fe] #[aa 3 #[bf 4 #[fX 20 #[3,ba] T.c_Roads T.h_Roads__add_tie G_Roads__add_tie (hr.mono (by decide)) T.B_Roads__add_tie .nil #[oX 3] #[[#[#[5,fe][#[()]]],#[#[5,fe][#[()]]],#[#[5,fe][#[()]]],#[#[5,fe][#[()]]],#[#[5,fe][#[()]]]]] (by rfl) (by rfl) (by rfl)] (by rfl)]] (by intro _;rfl)] :: #[#[d5 8 PassesOwn.never rfl #[dA 6 uM T.b_range #[[#[ak 8 (@br _) #[()] #[G_l_take,fU,T.l_take_,#[[#[1,bn],#[()]]]]]]] (by rfl)] #[6,iW.nd,tj] #[#[bd 8 #[kI 4 #[gU 3 #[G_l_right,m9,T.l_right_,#[[#[3,ba]]]] (by intro _;rfl)]] #[aa 3 #[aB 4 #[dL 4]]] (@aR _)] :: #[#[mm 2 (7) (8) _ _ _ _ _ _ _ _ _ _ _ rfl iW.nd rfl rfl (by decide) lB cb #[[#[G_l_take,fU,T.l_take_,#[[#[1,bn],#[()]]]],#[G_l_take,fU,T.l_take_,#[[#[1,bn],#[(),(),(@eL _ (K) (by rfl)),k4,T.b_len,(@be),#[[#[#[2,dE][#[()]]]]]]]]]]] (by kernel_rfl) (by rfl)] :: #[aa 3 #[bd 8 #[PW.pt 3 #[tF 7 #[au 8 (@dJ _) #[7,lB] #[()] #[(),()]] #[qV 4 #[au 8 (@jr _) #[cU 17 #[3,ba] T.c_Roads T.h_Roads__deeds G_Roads__deeds (hr.mono (by decide)) T.B_Roads__deeds .nil (@eH _) (by rfl)] #[(),(),(@eL _ (K) (by rfl)),k4,T.b_len,(@be),#[[#[#[2,dE][#[()]]]]]] #[(),()]]]]] #[aa 3 #[bf 4 #[cU 17 #[3,ba] T.c_Roads T.h_Roads__back G_Roads__back (hr.mono (by decide)) T.B_Roads__back .nil (@eH _) (by rfl)] (by rfl)]] #[aa 3 #[bd 8 #[PW.pt 3 #[tF 7 #[au 8 (@fw _) #[8,cb] #[(),(),(@eL _ (K) (by rfl)),k4,T.b_len,(@be),#[[#[#[cU 17 #[3,ba] T.c_Roads T.h_Roads__net G_Roads__net (hr.mono (by decide)) T.B_Roads__net .nil (@eH _) (by rfl)][#[()]]]]]] #[(),()]] #[qV 4 #[au 8 (@fw _) #[7,lB] #[()] #[(),()]]]]] #[aa 3 #[bd 8 #[gU 3 #[fX 20 #[3,ba] T.c_Roads T.h_Roads__is_shut G_Roads__is_shut (hr.mono (by decide)) T.B_Roads__is_shut .nil #[oX 3] #[[#[8,cb]]] (by rfl) (by rfl) (by rfl)] (by intro _;rfl)] #[aa 3 #[bf 4 #[fX 20 #[3,ba] T.c_Roads T.h_Roads__reopen G_Roads__reopen (hr.mono (by decide)) T.B_Roads__reopen .nil #[oX 3] #[[#[8,cb]]] (by rfl) (by rfl) (by rfl)] (by rfl)]] #[aa 3 #[bf 4 #[fX 20 #[3,ba] T.c_Roads T.h_Roads__shut G_Roads__shut (hr.mono (by decide)) T.B_Roads__shut .nil #[oX 3] #[[#[8,cb]]] (by rfl) (by rfl) (by rfl)] (by rfl)]]]] #[aa 3 #[bd 8 #[au 8 (@fw _) #[8,cb] #[(),(),(@eL _ (K) (by rfl)),k4,T.b_len,(@be),#[[#[#[cU 17 #[3,ba] T.c_Roads T.h_Roads__net G_Roads__net (hr.mono (by decide)) T.B_Roads__net .nil (@eH _) (by rfl)][#[()]]]]]] #[(),()]] #[aa 3 #[bf 4 #[fX 20 #[3,ba] T.c_Roads T.h_Roads__set_gain G_Roads__set_gain (hr.mono (by decide)) T.B_Roads__set_gain .nil #[oX 3] #[[#[8,cb],#[G_l_gain,um,T.l_gain_,#[[#[1,bn]]]]]] (by rfl) (by rfl) (by rfl)] (by rfl)]] (@aR _)]]]]]]]] (by intro _;rfl)] :: #[aa 3 #[bd 8 #[kI 4 #[gU 3 #[G_l_right,m9,T.l_right_,#[[#[3,ba]]]] (by intro _;rfl)]] #[aa 3 #[aB 4 #[dL 4]]] (@aR _)]]]]]]]]] (by intro _;rfl)] :: #[aa 3 #[aB 4 #[dL 4]]]]],?_⟩
  have gd0:jN tJ:=⟨by decide,by decide,List.nodup_nil,fun t ht=>by cases ht⟩
  refine bq fun D0 n0=>fun r dx J0 fr0 sJ0 hr0=>⟨r,dx,rfl,hr0,fun L H1 fL kp R1=>⟨rfl,?_⟩⟩
  obtain ⟨dx1,xs1,hr1,hL1,ha1⟩:=id R1
  have s01:ae H H1:=fun x o h=>kp x o (fun e=>by rw [e,fr0] at h;cases h) (sJ0 _ _ h)
  refine ⟨r,dx1,(),hr1,rfl,r,L,[],tJ,rfl,R1,fv.zero _,gd0,.inl ⟨rfl,fun H2 s2=>⟨rfl,(),bw (n0 _ _ ?_)⟩⟩⟩
  have s02:=s01.trans s2
  clear R1 hr1 hL1 ha1 kp fL hr0 sJ0 fr0
  refine oh fun D1 n1 r1D=>⟨(),a,ns,rfl,FL s02 hS,hn,fun lb bs H3 s3 hlb lbs nbs hbs=>⟨lb,rfl,⟨_,ap.of hlb⟩,?_⟩⟩
  refine yO (xs:=bs.map V.ref) (fun i σ H'=>FZ fun (v1 v2 v3 v4 v5 v6 v7 v8:Option V)=>σ=[some (.ref a),v1,v2,v3,v4,v5,v6,v7,v8]∧H' lb=some (.lst (bs.map V.ref))∧∀(j:Nat) (b:Addr),i≤j→bs[j]?=some b→Bx H' b 0) ⟨_,_,_,_,_,_,_,(),hlb,fun j b _ e=>hbs b (List.mem_of_getElem? e)⟩ (fun i σ H' _ ⟨_,_,_,_,_,_,_,_,_,h,_⟩=>ap.of h) ?_ ?_
  case refine_2=>
   rintro σ H' ⟨v1,v2,v3,v4,v5,v6,v7,v8,rfl,_⟩
   exact n1 _ _ (k _)
  rintro i x σ H4 hx ⟨v1,v2,v3,v4,v5,v6,v7,v8,rfl,hlb2,hB⟩
  rw [List.getElem?_map] at hx
  obtain ⟨b,eb,rfl⟩:=Option.map_eq_some_iff.mp hx
  have Bb:=hB i b (Nat.le_refl _) eb
  have nlbb:lb≠b:=fun e=>by
   obtain ⟨c1,c2,q,_⟩:=Bb
   rw [←e,hlb2] at q
   injection q with q
   injection q with q
   cases bs with
   | nil=>cases q
   | cons z zs=>cases q
  refine oY (t:=ii _ _) fun DB nB=>?_
  have done:∀(v2 v3 v4 v5 v6 v7 v8:Option V) (H':Hp),aE (Eb b) H4 H'→DB.nx [some (.ref a),some (.ref b),v2,v3,v4,v5,v6,v7,v8] H':=fun v2 v3 v4 v5 v6 v7 v8 H' sE=>by
   refine nB _ _ ⟨_,_,_,_,_,_,_,(),sE.old _ _ nlbb hlb2,fun j b' hj e=>?_⟩
   have B':=hB j b' (by trivial) e
   refine B'.frm sE fun z=>?_
   have z':b'=b:=z
   rw [z'] at e
   obtain ⟨h1,e1⟩:=List.getElem?_eq_some_iff.mp e
   obtain ⟨h2,e2⟩:=List.getElem?_eq_some_iff.mp eb
   have:=d7 nbs h1 h2 (by rw [e1,e2])
   trivial
  clear nB
  refine bW fun Q5 nA5=>⟨(),(),b,8,0,rfl,Bb,by decide,by decide,by decide,by decide,fun g5 t5 H5 g50 g51 h5a h5b s5 B5=>⟨rfl,b,_,t5,rfl,B5,by trivial,by trivial,fun v ls ts t6 H6 s6 dv l2 l10 nd lt1 lt18 tc B6 h6a h6b=>nA5 _ _ ?_⟩⟩
  have s46:aE (Eb b) H4 H6:=s5.trans s6
  refine vR (fun σ H'=>kF fun (v:V) (ts:List aj) (t':Int)=>σ=[some (.ref a),some (.ref b),some v,v3,v4,v5,v6,v7,v8]∧aS ED H' v (ji ls ts)∧1≤ts.length∧ts.length≤23∧(∀t∈ts,iB ls t)∧Bx H' b t'∧0≤t'∧t'≤600∧aE (Eb b) H4 H') ?_ fun nx=>?_
  case refine_2=>
   refine ⟨(),b,2,t6,rfl,B6,by decide,by decide,by trivial,by trivial,fun r7 t7 H7 r70 r71 h7a h7b s7 B7=>⟨rfl,(),eJ (fun c=>?_) (fun c=>?_)⟩⟩
   ·exact ⟨(),(),b,v,ls,ts,t7,rfl,B7,by trivial,by trivial,dv.mono (EU s7),l2,l10,nd,lt1,lt18,tc,fun v' ts' t8 H8 s8 dv' a1 a2 tc' B8 h8a h8b=>nx _ _ ⟨v',ts',t8,rfl,dv',a1,a2,tc',B8,by trivial,by trivial,(s46.trans s7).trans s8⟩⟩
   ·exact nx _ _ ⟨v,ts,t7,rfl,dv.mono (EU s7),lt1,by trivial,tc,B7,by trivial,by trivial,s46.trans s7⟩
  rintro σ' H9 ⟨v,ts,t9,rfl,dv,lt1,lt23,tc,B9,t90,t91,s49⟩
  clear s5 s6 B5 B6 s46 nA5 Q5
  obtain ⟨na,pa,ta,ys,rfl,hna,hpa,hta,ity⟩:=ee dv
  have lys:ys.length=ts.length:=by rw [ity.length,List.length_map]
  refine bW fun Q6 nA6=>fun r dx J0 fr0 sJ0 hr0=>⟨r,dx,rfl,hr0,fun L H10 fL kp R10=>⟨rfl,nA6 _ _ ?_⟩⟩
  have s910:ae H9 H10:=fun x o h=>kp x o (fun e=>by rw [e,fr0] at h;cases h) (sJ0 _ _ h)
  have fL9:H9 L=none:=sJ0.free fL
  have nbL:b≠L:=fun e=>B9.ne fL9 e
  have nrb:r≠b:=fun e=>by
   obtain ⟨c1,c2,q,_⟩:=B9
   obtain ⟨_,_,hr1,_⟩:=R10
   rw [e,s910 _ _ q] at hr1
   cases hr1
  have fL4:H4 L=none:=aE.free s49 B9 fL9
  have up:∀{J J':Hp},aE (Eb L) J J'→(∀x o,x≠b→H4 x=some o→J x=some o)→∀x o,x≠b→H4 x=some o→J' x=some o:=fun s h x o n e=>s.old x o (fun z=>by have z':x=L:=z;rw [z',fL4] at e;cases e) (h x o n e)
  have upb:∀{J J':Hp},aE (Eb b) J J'→(∀x o,x≠b→H4 x=some o→J x=some o)→∀x o,x≠b→H4 x=some o→J' x=some o:=fun s h x o n e=>s.old x o n (h x o n e)
  have k10:∀x o,x≠b→H4 x=some o→H10 x=some o:=fun x o n e=>s910 _ _ (s49.old x o n e)
  have tp9:∀{x:Addr}{us:List V},H9 x=some (.tup us)→H10 x=some (.tup us):=fun h=>s910 _ _ h
  have fin:∀(J:Hp),(∀x o,x≠b→H4 x=some o→J x=some o)→aE (Eb b) H4 J:=fun J h=>⟨fun x o n e=>h x o n e,fun x us e=>h x _ (fun z=>by
   obtain ⟨c1,c2,q,_⟩:=Bb
   rw [z,q] at e
   cases e) e⟩
  refine bq fun D7 n7=>⟨(),na,_,_,(),rfl,af.of (tp9 hna),rfl,pa,rfl,⟨_,af.of (tp9 hpa)⟩,?_⟩
  refine qQ (xs:=ls.map aQ) (fun i σ H'=>bh fun (v4:Option V) (past:List aq)=>σ=[some (.ref a),some (.ref b),some (.ref na),some (.ref r),v4,v5,v6,v7,v8]∧aV T.x_Roads H' r L (past++[⟨ls.take i,[],[],none⟩])∧past.length=i∧fv i past ⟨ls.take i,[],[],none⟩∧Bx H' b t9∧(∀x us,H10 x=some (.tup us)→H' x=some (.tup us))∧∀x o,x≠b→H4 x=some o→H' x=some o) ⟨_,[],rfl,R10,rfl,fv.zero _,B9.same s910,fun _ _ h=>h,k10⟩ ?_ ?_ ?_
  ·rintro i σ H' _ ⟨_,_,_,_,_,_,_,tp,_⟩
   exact af.of (tp _ _ (tp9 hpa))
  ·rintro i x σ H' ex ⟨v4,past,rfl,R,lp,so,B,tp,kk⟩
   rw [List.getElem?_map] at ex
   cases el:ls[i]? with
   | none=>rw [el] at ex;cases ex
   | some l=>
   rw [el] at ex
   cases ex
   have hi:=(List.getElem?_eq_some_iff.mp el)
   obtain ⟨dx1,xs1,hr1,hL1,ha1⟩:=id R
   have nl:l∉ls.take i:=fun z=>by
    obtain ⟨j,hj⟩:=List.getElem?_of_mem z
    have hji:j<i:=by have:=(List.getElem?_eq_some_iff.mp hj).1;rw [List.length_take] at this;trivial
    rw [List.getElem?_take_of_lt hji] at hj
    obtain ⟨h1,h2⟩:=List.getElem?_eq_some_iff.mp hj
    have:=d7 nd h1 hi.1 (by rw [h2,hi.2])
    trivial
   have rw0:cW ⟨ls.take i,[],[],none⟩ (.place l)=none:=if_neg nl
   obtain ⟨a1,a2⟩:=fK (past:=past) (D:=.place l) rw0 (by intro z;cases z)
   have so':=so.aft (.place l)
   rw [a1,a2] at so'
   have en:b7 ⟨ls.take i,[],[],none⟩ (.place l)=⟨ls.take (i+1),[],[],none⟩:=by
    show aq.mk (ls.take i++[l]) [] [] none=_
    rw [List.take_add_one,el];rfl
   rw [en] at so'
   refine ⟨(),r,dx1,(),hr1,rfl,(),r,L,l,past,(),R,so.mono (by have:=hi.1;trivial),⟨fun w e=>(by rw [rw0] at e;cases e),fun _ v' J sJ RJ _=>⟨_,past++[⟨ls.take i,[],[],none⟩],rfl,by rw [a1,a2,en] at RJ;exact RJ,by rw [List.length_append,lp];rfl,so',B.frm sJ (fun z=>nbL z),fun x us h=>sJ.tup _ _ (tp x us h),up sJ kk⟩⟩⟩
  rintro σ H11 ⟨v4',past,rfl,R,lp,so,B,tp,kk⟩
  rw [List.length_map] at lp so R
  rw [List.take_length] at so R
  refine n7 _ _ ?_
  clear n7 R10
  have gdl:jN ⟨ls,[],[],none⟩:=⟨l10,by show (0:Nat)≤24;decide,nd,fun t ht=>by cases ht⟩
  have hb0:HB ls past ⟨ls,[],[],none⟩:=⟨by trivial,fun j s hj hl=>by
   have hlt:=(List.getElem?_eq_some_iff.mp hj).1
   rw [List.length_append] at hlt
   rw [List.getElem?_append_right (by trivial),show j - past.length=0 by simp at hlt;trivial] at hj
   cases hj
   exact ⟨gdl,rfl⟩⟩
  obtain ⟨dx1,xs1,hr1,hL1,ha1⟩:=id R
  refine bq fun D8 n8=>⟨(),r,dx1,(),hr1,rfl,r,L,past,⟨ls,[],[],none⟩,rfl,R,so.mono (by trivial),gdl,.inr ⟨by show 1≤ls.length;trivial,.inl ⟨0,by show 0<ls.length;trivial,rfl,fun H12 s12=>⟨rfl,(),bw (n8 _ _ ?_)⟩⟩⟩⟩
  have R12:=R.sm s12
  have B12:=B.same s12
  have tp12:∀x us,H10 x=some (.tup us)→H12 x=some (.tup us):=fun x us h=>s12 _ _ (tp x us h)
  have kk12:∀x o,x≠b→H4 x=some o→H12 x=some o:=fun x o n e=>s12 _ _ (kk x o n e)
  clear n8 R B tp kk hr1 hL1 ha1
  refine bq fun D9 n9=>⟨(),na,_,_,(),rfl,af.of (tp12 _ _ (tp9 hna)),rfl,ta,rfl,⟨_,af.of (tp12 _ _ (tp9 hta))⟩,?_⟩
  refine qQ (xs:=ys) (fun i σ H'=>bh fun (v5:Option V) (past:List aq)=>σ=[some (.ref a),some (.ref b),some (.ref na),some (.ref r),v4',v5,v6,v7,v8]∧aV T.x_Roads H' r L (past++[⟨ls,ts.take i,[],none⟩])∧HB ls past ⟨ls,ts.take i,[],none⟩∧fv (ls.length+i) past ⟨ls,ts.take i,[],none⟩∧Bx H' b t9∧(∀x us,H10 x=some (.tup us)→H' x=some (.tup us))∧∀x o,x≠b→H4 x=some o→H' x=some o) ⟨_,past,rfl,R12,hb0,so,B12,tp12,kk12⟩ ?_ ?_ ?_
  ·rintro i σ H' _ ⟨_,_,_,_,_,_,_,tp,_⟩
   exact af.of (tp _ _ (tp9 hta))
  ·rintro i x σ H' ex ⟨v5,past,rfl,R,hb,so,B,tp,kk⟩
   obtain ⟨td,et,dx'⟩:=ity.get ex
   rw [List.getElem?_map] at et
   obtain ⟨t,eti,rfl⟩:=Option.map_eq_some_iff.mp et
   have hi:=(List.getElem?_eq_some_iff.mp eti).1
   have c:=tc t (List.mem_of_getElem? eti)
   obtain ⟨q,om,og,op,rfl,hq,hom,hog,hop⟩:=fC (dx'.mono ⟨fun _ _ n _=>absurd trivial n,fun x us h=>tp x us (tp9 h)⟩)
   obtain ⟨dx1,xs1,hr1,hL1,ha1⟩:=id R
   have rw0:cW ⟨ls,ts.take i,[],none⟩ (.tie t)=none:=if_pos ⟨c.b,c.e,c.ne⟩
   obtain ⟨a1,a2⟩:=fK (past:=past) (D:=.tie t) rw0 (by intro z;cases z)
   have so':=so.aft (.tie t)
   rw [a1,a2] at so'
   have en:b7 ⟨ls,ts.take i,[],none⟩ (.tie t)=⟨ls,ts.take (i+1),[],none⟩:=by
    show aq.mk ls (ts.take i++[t]) [] none=_
    rw [List.take_add_one,eti];rfl
   rw [en] at so'
   have gn:jN ⟨ls,ts.take (i+1),[],none⟩:=⟨l10,by show (ts.take (i+1)).length≤24;rw [List.length_take];trivial,nd,fun u hu=>tc u (List.mem_of_mem_take hu)⟩
   refine ⟨(),r,dx1,(),hr1,rfl,(),q,_,_,(),rfl,af.of hq,rfl,(),q,_,_,(),rfl,af.of hq,rfl,(),q,_,_,(),rfl,af.of hq,rfl,(),q,_,_,(),rfl,af.of hq,rfl,(),q,_,_,(),rfl,af.of hq,rfl,r,L,t,_,_,_,past,(),jP hom,jP hog,jP hop,R,so.mono (by trivial),⟨fun w e=>(by rw [rw0] at e;cases e),fun _ v' J sJ RJ _=>⟨_,past++[⟨ls,ts.take i,[],none⟩],rfl,by rw [a1,a2,en] at RJ;exact RJ,hb.next gn rfl,so',B.frm sJ (fun z=>nbL z),fun x us h=>sJ.tup _ _ (tp x us h),up sJ kk⟩⟩⟩
  rintro σ H13 ⟨v5',past,rfl,R,hb,so,B,tp,kk⟩
  rw [lys,List.take_length] at R hb so
  refine n9 _ _ ?_
  clear n9 R12 B12 tp12 kk12 hb0 gdl
  refine bq fun D10 n10=>⟨(),b,6,t9,rfl,B,by decide,by decide,by trivial,by trivial,fun w1 t10 H14 w10 w11 h10a h10b s14 B14=>⟨_,(),rfl,(),by trivial,by trivial,?_⟩⟩
  refine iz (fun i σ H'=>uc fun (v6 v7 v8:Option V) (past:List aq) (cur:aq) (t':Int)=>σ=[some (.ref a),some (.ref b),some (.ref na),some (.ref r),v4',v5',v6,v7,v8]∧aV T.x_Roads H' r L (past++[cur])∧HB ls past cur∧fv (ls.length+ts.length+i) past cur∧Bx H' b t'∧t10≤t'∧t'≤t10+10*i∧(∀x us,H10 x=some (.tup us)→H' x=some (.tup us))∧∀x o,x≠b→H4 x=some o→H' x=some o) ⟨_,_,_,past,_,t10,rfl,R.keep s14 (fun z=>nrb z) (fun z=>nbL z.symm),hb,so,B14,by trivial,by trivial,fun x us h=>s14.tup _ _ (tp x us h),upb s14 kk⟩ ?_ ?_
  ·rintro i σ J0 hi ⟨v6,v7,v8,past,cur,t',rfl,R,hb,so,B,ta1,ta2,tp,kk⟩
   have hi8:i≤20:=by trivial
   refine oY (t:=ii _ _) fun DC nC=>?_
   obtain ⟨gc,pc⟩:=hb.cur
   have so5:=so.mono (M:=5000) (by trivial)
   refine bq fun D11 n11=>⟨(),r,L,past,cur,rfl,R,so5,gc,by rw [pc];trivial,fun J1 s1=>⟨(),bw (n11 _ _ ?_)⟩⟩
   have tp1:∀x us,H10 x=some (.tup us)→J1 x=some (.tup us):=fun x us h=>s1 _ _ (tp x us h)
   refine bq fun D12 n12=>⟨(),b,6,t',rfl,B.same s1,by decide,by decide,by trivial,by trivial,fun w2 t2 J2 w20 w21 h2a h2b s2 B2=>⟨(),(),na,_,_,(),rfl,af.of (s2.tup _ _ (tp1 _ _ (tp9 hna))),rfl,ta,ys,rfl,.inr (af.of (s2.tup _ _ (tp1 _ _ (tp9 hta)))),b,(ys.length:Int),t2,rfl,B2,by trivial,Nat.lt_of_le_of_lt (Nat.log2_le_self _) (by trivial),by trivial,by trivial,fun w3 t3 J3 w30 w31 h3a h3b s3 B3=>⟨_,(),n12 _ _ ?_⟩⟩⟩
   have s13:=s2.trans s3
   have R3:=(R.sm s1).keep s13 (fun z=>nrb z) (fun z=>nbL z.symm)
   have tp3:∀x us,H10 x=some (.tup us)→J3 x=some (.tup us):=fun x us h=>s13.tup _ _ (tp1 x us h)
   have kk3:∀x o,x≠b→H4 x=some o→J3 x=some o:=upb s13 fun x o n e=>s1 _ _ (kk x o n e)
   obtain ⟨dx1,xs1,hr1,hL1,ha1⟩:=id R3
   have go:∀(q:List aq) (s:aq) (J:Hp) (t4:Int),aV T.x_Roads J r L (q++[s])→HB ls q s→fv (ls.length+ts.length+(i+1)) q s→Bx J b t4→t3≤t4→t4≤t3+3→(∀x us,H10 x=some (.tup us)→J x=some (.tup us))→(∀x o,x≠b→H4 x=some o→J x=some o)→DC.nx [some (.ref a),some (.ref b),some (.ref na),some (.ref r),v4',v5',some (.int (0+(i:Int))),some (.int w2),some (.int w3)] J:=fun q s J t4 a1 a2 a3 a4 a5 a6 a7 a8=>nC _ _ ⟨_,_,_,q,s,t4,rfl,a1,a2,a3,a4,by trivial,by trivial,a7,a8⟩
   clear nC n12 n11 D11 D12
   refine ye (fun J=>J=J3∧ls.length<past.length) (fun J=>J=J3) (fun Q k1 k0=>⟨(),rfl,(),eJ (fun c=>⟨(),r,dx1,(),hr1,rfl,r,L,past,cur,rfl,R3,(),na,_,_,(),rfl,af.of (tp3 _ _ (tp9 hna)),rfl,pa,(),.inr (af.of (tp3 _ _ (tp9 hpa))),_,(),rfl,(),?_⟩) fun c=>k0 _ rfl⟩) ?_ ?_
   ·by_cases h:ls.length<past.length
    ·rw [decide_eq_true (by rw [List.length_map];trivial)]
     exact k1 _ ⟨rfl,h⟩
    ·rw [decide_eq_false (by rw [List.length_map];trivial)]
     exact k0 _ rfl
   ·rintro J ⟨rfl,hlt⟩
    rcases jZ past with rfl | ⟨q,s,rfl⟩
    ·exact absurd hlt (Nat.not_lt_zero _)
    refine ⟨(),r,dx1,(),hr1,rfl,r,L,_,cur,rfl,R3,fun J sJ RJ=>?_⟩
    have sb:=so.back
    rw [fS.1,fS.2] at RJ sb
    exact go q s J t3 RJ (hb.back hlt) (sb.mono (by trivial)) (B3.frm sJ (fun z=>nbL z)) (by trivial) (by trivial) (fun x us h=>sJ.tup _ _ (tp3 x us h)) (up sJ kk3)
   rintro J rfl
   have hNet:∀(J:Hp) (v:V),aS ED J v (wu cur)→kz fun (nv pv tv:Addr) (zs:List V)=>v=.ref nv∧J nv=some (.tup [.ref pv,.ref tv])∧J tv=some (.tup zs)∧zs.length=cur.ts.length:=fun J v dv=>by
    rw [qJ] at dv
    obtain ⟨a1,a2,a3,zs,e1,e2,e3,e4,e5⟩:=ee dv
    exact ⟨a1,a2,a3,zs,e1,e2,e4,by rw [e5.length,List.length_map,qI]⟩
   refine ye (fun J'=>ae J J'∧has cur w3) (fun J'=>ae J J') (fun Q k1 k0=>⟨(),(),r,dx1,(),hr1,rfl,r,L,past,cur,rfl,R3,so5,fun v J4 s4 dv=>?_⟩) ?_ ?_
   ·obtain ⟨nv,pv,tv,zs,rfl,e1,e2,e3⟩:=hNet _ _ dv
    refine ⟨nv,_,_,(),rfl,af.of e1,rfl,tv,zs,rfl,.inr (af.of e2),_,(),rfl,(),eJ (fun c=>⟨(),_,(),rfl,(),?_⟩) fun c=>k0 _ s4⟩
    by_cases h:w2<4
    ·rw [decide_eq_true h]
     exact k1 _ ⟨s4,w30,by have:=of_decide_eq_true c;trivial⟩
    ·rw [decide_eq_false h]
     exact k0 _ s4
   ·rintro J' ⟨s4,hh⟩
    have R4:=R3.sm s4
    have B4:=B3.same s4
    have tp4:∀x us,H10 x=some (.tup us)→J' x=some (.tup us):=fun x us h=>s4 _ _ (tp3 x us h)
    have kk4:∀x o,x≠b→H4 x=some o→J' x=some o:=fun x o n e=>s4 _ _ (kk3 x o n e)
    refine ⟨(),r,dx1,(),s4 _ _ hr1,rfl,(),r,L,w3,past,cur,rfl,R4,fun _=>⟨(),eJ (fun c=>?_) fun c=>?_⟩,fun n=>absurd hh n⟩
    ·have hm:=of_decide_eq_true c
     have rw0:cW cur (.opn w3)=none:=by show (if has cur w3 then (if w3∈cur.sh then none else some RW.asItIs) else some .noTie)=none;rw [if_pos hh,if_pos hm]
     obtain ⟨a1,a2⟩:=fK (past:=past) (D:=.opn w3) rw0 (by intro z;cases z)
     have so':=so.aft (.opn w3)
     rw [a1,a2] at so'
     refine ⟨(),r,dx1,(),s4 _ _ hr1,rfl,(),r,L,_,w3,past,cur,rfl,(fun z e=>by cases e;rfl),R4,so5,⟨fun w e=>(by rw [show cW cur (jQ false w3)=none from rw0] at e;cases e),fun _ v' J5 sJ RJ _=>?_⟩⟩
     rw [show kN past cur (jQ false w3)=_ from a1,show kY past cur (jQ false w3)=_ from a2] at RJ
     exact go _ _ J5 t3 RJ (hb.next (gc.shut _) pc) so' (B4.frm sJ (fun z=>nbL z)) (by trivial) (by trivial) (fun x us h=>sJ.tup _ _ (tp4 x us h)) (up sJ kk4)
    ·have hm:w3∉cur.sh:=fun z=>c (decide_eq_true z)
     have rw0:cW cur (.shut w3)=none:=by show (if has cur w3 then (if w3∈cur.sh then some RW.asItIs else none) else some .noTie)=none;rw [if_pos hh,if_neg hm]
     obtain ⟨a1,a2⟩:=fK (past:=past) (D:=.shut w3) rw0 (by intro z;cases z)
     have so':=so.aft (.shut w3)
     rw [a1,a2] at so'
     refine ⟨(),r,dx1,(),s4 _ _ hr1,rfl,(),r,L,_,w3,past,cur,rfl,(fun z e=>by cases e;rfl),R4,so5,⟨fun w e=>(by rw [show cW cur (jQ true w3)=none from rw0] at e;cases e),fun _ v' J5 sJ RJ _=>?_⟩⟩
     rw [show kN past cur (jQ true w3)=_ from a1,show kY past cur (jQ true w3)=_ from a2] at RJ
     exact go _ _ J5 t3 RJ (hb.next (gc.shut _) pc) so' (B4.frm sJ (fun z=>nbL z)) (by trivial) (by trivial) (fun x us h=>sJ.tup _ _ (tp4 x us h)) (up sJ kk4)
   rintro J' s4
   have R4:=R3.sm s4
   have B4:=B3.same s4
   have tp4:∀x us,H10 x=some (.tup us)→J' x=some (.tup us):=fun x us h=>s4 _ _ (tp3 x us h)
   have kk4:∀x o,x≠b→H4 x=some o→J' x=some o:=fun x o n e=>s4 _ _ (kk3 x o n e)
   refine ⟨(),(),r,dx1,(),s4 _ _ hr1,rfl,r,L,past,cur,rfl,R4,so5,fun v J5 s5 dv=>?_⟩
   obtain ⟨nv,pv,tv,zs,rfl,e1,e2,e3⟩:=hNet _ _ dv
   have R5:=R4.sm s5
   have B5:=B4.same s5
   have tp5:∀x us,H10 x=some (.tup us)→J5 x=some (.tup us):=fun x us h=>s5 _ _ (tp4 x us h)
   have kk5:∀x o,x≠b→H4 x=some o→J5 x=some o:=fun x o n e=>s5 _ _ (kk4 x o n e)
   refine ⟨nv,_,_,(),rfl,af.of e1,rfl,tv,zs,rfl,.inr (af.of e2),_,(),rfl,(),eJ (fun c=>?_) fun c=>go past cur J5 t3 R5 hb (so.mono (by trivial)) B5 (by trivial) (by trivial) tp5 kk5⟩
   have hh:has cur w3:=⟨w30,by have:=of_decide_eq_true c;trivial⟩
   refine ⟨(),r,dx1,(),s5 _ _ (s4 _ _ hr1),rfl,(),(),b,t3,rfl,B5,by trivial,by trivial,fun o z t6 J6 s6 hz gz z1 _ B6 h6a h6b=>?_⟩
   have rw0:cW cur (.part .g w3 z)=none:=if_pos hh
   obtain ⟨a1,a2⟩:=fK (past:=past) (D:=.part .g w3 z) rw0 (by intro z;cases z)
   have so':=so.aft (.part .g w3 z)
   rw [a1,a2] at so'
   refine ⟨r,L,.g,w3,z,.ref o,past,cur,rfl,(fun z e=>by cases e;rfl),jP hz,R5.keep s6 (fun z=>nrb z) (fun z=>nbL z.symm),so5,⟨fun w e=>(by rw [rw0] at e;cases e),fun _ v' J7 sJ RJ _=>?_⟩⟩
   rw [a1,a2] at RJ
   exact go _ _ J7 t6 RJ (hb.next (gc.gain _ _ gz z1) pc) so' (B6.frm sJ (fun z=>nbL z)) (by trivial) (by trivial) (fun x us h=>sJ.tup _ _ (s6.tup _ _ (tp5 x us h))) (up sJ (upb s6 kk5))
  rintro σ H15 ⟨v6,v7,v8,past,cur,t',rfl,R,hb,so,B,ta1,ta2,tp,kk⟩
  refine n10 _ _ ?_
  obtain ⟨gc,pc⟩:=hb.cur
  exact ⟨(),r,L,past,cur,rfl,R,so.mono (by trivial),gc,by rw [pc];trivial,fun J1 s1=>⟨(),bw (done _ _ _ _ _ _ _ _ (fin J1 fun x o n e=>s1 _ _ (kk x o n e)))⟩⟩
end
end K42
namespace K42
open PySem L2
set_option maxHeartbeats 0 in
theorem txt_of {K:PySem.W.Frag}{h:Heap}{mg:Str→Option Value} (y:obs K=due) (X:K.In h) (G:h.Ns mainGlobals mg):∃T:Txt K mg,∀(s:Shared) (u:Value),BindsTo s T.law_.d ⟨[u],[]⟩ [("_law_script",u)]:=by
 have e:∀i,(obs K).1.getD i none=due.1.getD i none:=fun i=>by rw [y]
 have b:∀i,(obs K).2.getD i true=due.2.getD i true:=fun i=>by rw [y]
 refine ⟨{
  b_abs:=PySem.W.mg_none_of X G (bE (b 32)),
  b_all:=PySem.W.mg_none_of X G (bE (b 33)),
  b_bool:=PySem.W.mg_none_of X G (bE (b 34)),
  b_dict:=PySem.W.mg_none_of X G (bE (b 35)),
  b_divmod:=PySem.W.mg_none_of X G (bE (b 36)),
  b_enumerate:=PySem.W.mg_none_of X G (bE (b 37)),
  b_int:=PySem.W.mg_none_of X G (bE (b 38)),
  b_isinstance:=PySem.W.mg_none_of X G (bE (b 39)),
  b_len:=PySem.W.mg_none_of X G (bE (b 40)),
  b_list:=PySem.W.mg_none_of X G (bE (b 41)),
  b_max:=PySem.W.mg_none_of X G (bE (b 42)),
  b_min:=PySem.W.mg_none_of X G (bE (b 43)),
  b_range:=PySem.W.mg_none_of X G (bE (b 44)),
  b_repr:=PySem.W.mg_none_of X G (bE (b 45)),
  b_set:=PySem.W.mg_none_of X G (bE (b 46)),
  b_tuple:=PySem.W.mg_none_of X G (bE (b 47)),
  b_zip:=PySem.W.mg_none_of X G (bE (b 48)),
  common_divisor_:=⟨_,_,PySem.W.mg_of X G (bz (e 0)),ai (e 0),(ai (e 0)).binds (ps:=["n", "d"]) fun _ _ _ _ _ _=>dZ (fun _ _=>rfl)⟩,
  fraction_:=⟨_,_,PySem.W.mg_of X G (bz (e 1)),ai (e 1),(ai (e 1)).binds (ps:=["n", "d"]) fun _ _ _ _ _ _=>dZ (fun _ _=>rfl)⟩,
  times_:=⟨_,_,PySem.W.mg_of X G (bz (e 2)),ai (e 2),(ai (e 2)).binds (ps:=["one", "other"]) fun _ _ _ _ _ _=>dZ (fun _ _=>rfl)⟩,
  compared_:=⟨_,_,PySem.W.mg_of X G (bz (e 3)),ai (e 3),(ai (e 3)).binds (ps:=["one", "other"]) fun _ _ _ _ _ _=>dZ (fun _ _=>rfl)⟩,
  is_shut_:=⟨_,_,PySem.W.mg_of X G (bz (e 4)),ai (e 4),(ai (e 4)).binds (ps:=["tie"]) fun _ _ _ _ _ _=>iQ (fun _=>rfl)⟩,
  lift_once_:=⟨_,_,PySem.W.mg_of X G (bz (e 5)),ai (e 5),(ai (e 5)).binds (ps:=["net", "worths", "onward"]) fun _ _ _ _ _ _=>pU (fun _ _ _=>rfl)⟩,
  round_ahead_:=⟨_,_,PySem.W.mg_of X G (bz (e 6)),ai (e 6),(ai (e 6)).binds (ps:=["net", "onward", "place"]) fun _ _ _ _ _ _=>pU (fun _ _ _=>rfl)⟩,
  gaining_round_:=⟨_,_,PySem.W.mg_of X G (bz (e 7)),ai (e 7),(ai (e 7)).binds (ps:=["net"]) fun _ _ _ _ _ _=>iQ (fun _=>rfl)⟩,
  l_box_:=⟨_,_,PySem.W.mg_of X G (bz (e 8)),ai (e 8),(ai (e 8)).binds (ps:=["_law_script", "_law_k"]) fun _ _ _ _ _ _=>dZ (fun _ _=>rfl)⟩,
  l_take_:=⟨_,_,PySem.W.mg_of X G (bz (e 9)),ai (e 9),(ai (e 9)).binds (ps:=["_law_box_here", "_law_many"]) fun _ _ _ _ _ _=>dZ (fun _ _=>rfl)⟩,
  l_boxes_:=⟨_,_,PySem.W.mg_of X G (bz (e 10)),ai (e 10),(ai (e 10)).binds (ps:=["_law_script", "_law_cap"]) fun _ _ _ _ _ _=>dZ (fun _ _=>rfl)⟩,
  l_fr_:=⟨_,_,PySem.W.mg_of X G (bz (e 11)),ai (e 11),(ai (e 11)).binds (ps:=["_law_top", "_law_bottom"]) fun _ _ _ _ _ _=>dZ (fun _ _=>rfl)⟩,
  l_by_:=⟨_,_,PySem.W.mg_of X G (bz (e 12)),ai (e 12),(ai (e 12)).binds (ps:=["_law_one", "_law_other"]) fun _ _ _ _ _ _=>dZ (fun _ _=>rfl)⟩,
  l_sign_:=⟨_,_,PySem.W.mg_of X G (bz (e 13)),ai (e 13),(ai (e 13)).binds (ps:=["_law_one", "_law_other"]) fun _ _ _ _ _ _=>dZ (fun _ _=>rfl)⟩,
  l_names_:=⟨_,_,PySem.W.mg_of X G (bz (e 14)),ai (e 14),(ai (e 14)).binds (ps:=["_law_box_here", "_law_many"]) fun _ _ _ _ _ _=>dZ (fun _ _=>rfl)⟩,
  l_gain_:=⟨_,_,PySem.W.mg_of X G (bz (e 15)),ai (e 15),(ai (e 15)).binds (ps:=["_law_box_here"]) fun _ _ _ _ _ _=>iQ (fun _=>rfl)⟩,
  l_much_:=⟨_,_,PySem.W.mg_of X G (bz (e 16)),ai (e 16),(ai (e 16)).binds (ps:=["_law_box_here"]) fun _ _ _ _ _ _=>iQ (fun _=>rfl)⟩,
  l_cost_:=⟨_,_,PySem.W.mg_of X G (bz (e 17)),ai (e 17),(ai (e 17)).binds (ps:=["_law_box_here"]) fun _ _ _ _ _ _=>iQ (fun _=>rfl)⟩,
  l_net_drawn_:=⟨_,_,PySem.W.mg_of X G (bz (e 18)),ai (e 18),(ai (e 18)).binds (ps:=["_law_box_here", "_law_great"]) fun _ _ _ _ _ _=>dZ (fun _ _=>rfl)⟩,
  l_gains_:=⟨_,_,PySem.W.mg_of X G (bz (e 19)),ai (e 19),(ai (e 19)).binds (ps:=["_law_net"]) fun _ _ _ _ _ _=>iQ (fun _=>rfl)⟩,
  l_is_round_:=⟨_,_,PySem.W.mg_of X G (bz (e 20)),ai (e 20),(ai (e 20)).binds (ps:=["_law_net", "_law_way"]) fun _ _ _ _ _ _=>dZ (fun _ _=>rfl)⟩,
  l_right_:=⟨_,_,PySem.W.mg_of X G (bz (e 21)),ai (e 21),(ai (e 21)).binds (ps:=["_law_roads"]) fun _ _ _ _ _ _=>iQ (fun _=>rfl)⟩,
  l_with_round_:=⟨_,_,PySem.W.mg_of X G (bz (e 22)),ai (e 22),(ai (e 22)).binds (ps:=["_law_box_here", "_law_net"]) fun _ _ _ _ _ _=>dZ (fun _ _=>rfl)⟩,
  law_:=⟨_,_,PySem.W.mg_of X G (bz (e 23)),ai (e 23),(ai (e 23)).binds (ps:=["_law_script"]) fun _ _ _ _ _ _=>iQ (fun _=>rfl)⟩,
  f_Roads____init__:=_,d_Roads____init__:=_,F_Roads____init__:=ai (e 24),B_Roads____init__:=(ai (e 24)).binds (ps:=["self"]) fun _ _ _ _ _ _=>iQ (fun _=>rfl),
  f_Roads__add_place:=_,d_Roads__add_place:=_,F_Roads__add_place:=ai (e 25),B_Roads__add_place:=(ai (e 25)).binds (ps:=["self", "name"]) fun _ _ _ _ _ _=>dZ (fun _ _=>rfl),
  f_Roads__add_tie:=_,d_Roads__add_tie:=_,F_Roads__add_tie:=ai (e 26),B_Roads__add_tie:=(ai (e 26)).binds (ps:=["self", "begin", "end", "most", "gain", "price"]) fun _ _ _ _ _ _=>FC (fun _ _ _ _ _ _=>rfl),
  check_two_:=⟨_,_,PySem.W.mg_of X G (bz (e 27)),ai (e 27),(ai (e 27)).binds (ps:=["places", "begin", "end"]) fun _ _ _ _ _ _=>pU (fun _ _ _=>rfl)⟩,
  f_Roads__set_gain:=_,d_Roads__set_gain:=_,F_Roads__set_gain:=ai (e 28),B_Roads__set_gain:=(ai (e 28)).binds (ps:=["self", "number", "gain"]) fun _ _ _ _ _ _=>pU (fun _ _ _=>rfl),
  f_Roads__shut:=_,d_Roads__shut:=_,F_Roads__shut:=ai (e 29),B_Roads__shut:=(ai (e 29)).binds (ps:=["self", "number"]) fun _ _ _ _ _ _=>dZ (fun _ _=>rfl),
  f_Roads__reopen:=_,d_Roads__reopen:=_,F_Roads__reopen:=ai (e 30),B_Roads__reopen:=(ai (e 30)).binds (ps:=["self", "number"]) fun _ _ _ _ _ _=>dZ (fun _ _=>rfl),
  f_Roads__back:=_,d_Roads__back:=_,F_Roads__back:=ai (e 31),B_Roads__back:=(ai (e 31)).binds (ps:=["self"]) fun _ _ _ _ _ _=>iQ (fun _=>rfl),
  f_Roads__net:=_,d_Roads__net:=_,F_Roads__net:=ai (e 32),B_Roads__net:=(ai (e 32)).binds (ps:=["self"]) fun _ _ _ _ _ _=>iQ (fun _=>rfl),
  put_at_:=⟨_,_,PySem.W.mg_of X G (bz (e 33)),ai (e 33),(ai (e 33)).binds (ps:=["parts", "at", "part"]) fun _ _ _ _ _ _=>pU (fun _ _ _=>rfl)⟩,
  f_Roads__is_shut:=_,d_Roads__is_shut:=_,F_Roads__is_shut:=ai (e 34),B_Roads__is_shut:=(ai (e 34)).binds (ps:=["self", "number"]) fun _ _ _ _ _ _=>dZ (fun _ _=>rfl),
  check_tie_:=⟨_,_,PySem.W.mg_of X G (bz (e 35)),ai (e 35),(ai (e 35)).binds (ps:=["ties", "number"]) fun _ _ _ _ _ _=>dZ (fun _ _=>rfl)⟩,
  f_Roads__deeds:=_,d_Roads__deeds:=_,F_Roads__deeds:=ai (e 36),B_Roads__deeds:=(ai (e 36)).binds (ps:=["self"]) fun _ _ _ _ _ _=>iQ (fun _=>rfl),
  f_Roads__gaining:=_,d_Roads__gaining:=_,F_Roads__gaining:=ai (e 37),B_Roads__gaining:=(ai (e 37)).binds (ps:=["self"]) fun _ _ _ _ _ _=>iQ (fun _=>rfl),
  f_Roads__set_part:=_,d_Roads__set_part:=_,F_Roads__set_part:=ai (e 38),B_Roads__set_part:=(ai (e 38)).binds (ps:=["self", "number", "at", "part"]) fun _ _ _ _ _ _=>C6 (fun _ _ _ _=>rfl),
  f_Roads__set_shut:=_,d_Roads__set_shut:=_,F_Roads__set_shut:=ai (e 39),B_Roads__set_shut:=(ai (e 39)).binds (ps:=["self", "number", "whether"]) fun _ _ _ _ _ _=>pU (fun _ _ _=>rfl),
  x_GainError:=_,m_GainError:=PySem.W.mg_of X G (jA (b 0)),k_GainError:=(b 5),xb_GainError:=(b 6),
  x_Taken:=_,m_Taken:=PySem.W.mg_of X G (jA (b 1)),k_Taken:=(b 7),q_Taken:=(b 8),
  x_NoPlace:=_,m_NoPlace:=PySem.W.mg_of X G (jA (b 2)),k_NoPlace:=(b 9),q_NoPlace:=(b 10),
  x_NoTie:=_,m_NoTie:=PySem.W.mg_of X G (jA (b 3)),k_NoTie:=(b 11),q_NoTie:=(b 12),
  x_AsItIs:=_,m_AsItIs:=PySem.W.mg_of X G (jA (b 4)),k_AsItIs:=(b 13),q_AsItIs:=(b 14),
  x_Roads:=_,m_Roads:=PySem.W.mg_of X G (jA (b 16)),c_Roads:=(AK (b 17)),mk_Roads:=(yY (b 18)),h_Roads__add_place:=(cf (b 19)),h_Roads__add_tie:=(cf (b 20)),h_Roads__set_gain:=(cf (b 21)),h_Roads__shut:=(cf (b 22)),h_Roads__reopen:=(cf (b 23)),h_Roads__back:=(cf (b 24)),h_Roads__net:=(cf (b 25)),h_Roads__is_shut:=(cf (b 26)),h_Roads__deeds:=(cf (b 27)),h_Roads__gaining:=(cf (b 28)),h_Roads__set_part:=(cf (b 29)),h_Roads__set_shut:=(cf (b 30)),n_Roads_states:=(bE (b 31)),
  kin:=(b 15) },fun s u=>?_⟩
 obtain ⟨_,_,_,_,_,_,_,_,_,z,_⟩:=(ai (e 23):f9 K "law" "law" b6 _ _).ex
 show BindsTo s (gH K (PySem.W.nsIn K mainGlobals "law")) _ _
 rw [z]
 exact .of_eq rfl
end K42
open PySem PySem.W PyProof.Rows
set_option maxRecDepth 100000 in
set_option maxHeartbeats 0 in
theorem PySem.Challenge.cw_gainroads_k42_rounds_of_roads_holds : PySem.Challenge.rw_gainroads_k42_rounds_of_roads.Holds := by
 w_on;o_law
 refine holds_openX (q:=K42.qv) (loose:=[]) (Xt:=L2.Xt) (XP:=XL K42.qv []) (Yf:=L2.Yf) (Ya:=fun _=>K42.due) (N:=5776) (L2.left_tree rfl rfl (fun _=>rfl) L2.left) (fun s e=>xl_of s (Bool.and_eq_true_iff.mp e).1) XL.keeps (by rfl) (by rfl) (by rfl) (fun s e=>recFacts_of (Bool.and_eq_true_iff.mp e).2) (by rfl) (by first | assumption | decide +kernel) (by nofun) ⟨rfl,rfl,rfl,rfl,rfl,by nofun⟩ ?hw ?hc
 case hw=>w_witness2
 refine L2.walk_ofY (obs:=K42.obs) (due:=K42.due) (l:=PySem.Challenge.rw_gainroads_k42_rounds_of_roads) (n:=63) (k:=40) (x := "_law_script") (CX:=L2.CX0) (sp:=K42.spLaw) rfl (by decide) rfl ⟨rfl,by decide,by decide,rfl⟩ ?F ?S ?C
 case F=>
  intro K w mg fa h y KX G hmg
  obtain ⟨T,hb⟩:=K42.txt_of y KX G
  have e0:=hmg.symm.trans T.law_.m
  cases e0
  exact ⟨T.law_.d,hb,fun base kb nb=>K42.law_ok T⟩
 case S=>exact fun K H a ns hl hO hS=>K42.law_start hl hO hS
 case C=>exact fun _ _ _ _ z=>z
