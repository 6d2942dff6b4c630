import PyProof.Rows.All
import Wide.All
import OpenK.AllK
import Wide.FinOn
import Lean
import PyProof.EqAt
import PyProof.EqKinds
import PyProof.TupleCall
import PyProof.CompFree
import PyProof.CompMap
import KE.LcSums
import PyProof.ZipIter
import PyProof.Draws
import KE.KRevSl
import KE.KListMore
import PyProof.Rows.StrJoin2
import PyProof.Rows.StrFin3
import PyProof.StrOps2
import PyProof.NeData
import PyProof.P3Eq
import PyProof.StrLawsRepr
import PyProof.ReprLen
import PyProof.Rows.IntBool
import PyProof.SliceStr2
import PyProof.P3In
import PyProof.Rows.StrLen
import KE.KStrOpen
import PyProof.FitsInt
import PyProof.Rows.ReprOcc
import PyProof.ListRange
import PyProof.AttrMissHeap
import PyProof.FactsAll.zip
import PyProof.FactsAll.tuple_3
import KE.KDictOf
import PyProof.SeqRoads2
import PyProof.DictCompW
import PyProof.Rows.StrInSeq3
import OpenK.KOwn
import KE.KIsAll
import KE.KTryMore
import PyProof.StationsW
import PyProof.RulesAs
import PyProof.NsDelKeeps
import PySem.Challenge.RW_gainroads_k11_worths_that_hold
set_option Elab.async false
set_option linter.all false
set_option maxRecDepth 100000
set_option genSizeOf false
set_option genInjectivity false
namespace L2
inductive bo {α0 α1:Type} (p:α0→α1→Prop):Prop
 | mk (a0:α0) (a1:α1) (h:p a0 a1)
inductive fJ {α0 α1 α2:Type} (p:α0→α1→α2→Prop):Prop
 | mk (a0:α0) (a1:α1) (a2:α2) (h:p a0 a1 a2)
inductive kd {α0 α1 α2 α3:Type} (p:α0→α1→α2→α3→Prop):Prop
 | mk (a0:α0) (a1:α1) (a2:α2) (a3:α3) (h:p a0 a1 a2 a3)
inductive Bb {α0 α1 α2 α3 α4:Type} (p:α0→α1→α2→α3→α4→Prop):Prop
 | mk (a0:α0) (a1:α1) (a2:α2) (a3:α3) (a4:α4) (h:p a0 a1 a2 a3 a4)
inductive xF {α0 α1 α2 α3 α4 α5:Type} (p:α0→α1→α2→α3→α4→α5→Prop):Prop
 | mk (a0:α0) (a1:α1) (a2:α2) (a3:α3) (a4:α4) (a5:α5) (h:p a0 a1 a2 a3 a4 a5)
inductive Gr {α0 α1 α2 α3 α4 α5 α6:Type} (p:α0→α1→α2→α3→α4→α5→α6→Prop):Prop
 | mk (a0:α0) (a1:α1) (a2:α2) (a3:α3) (a4:α4) (a5:α5) (a6:α6) (h:p a0 a1 a2 a3 a4 a5 a6)
inductive Hl {α0 α1 α2 α3 α4 α5 α6 α7:Type} (p:α0→α1→α2→α3→α4→α5→α6→α7→Prop):Prop
 | mk (a0:α0) (a1:α1) (a2:α2) (a3:α3) (a4:α4) (a5:α5) (a6:α6) (a7:α7) (h:p a0 a1 a2 a3 a4 a5 a6 a7)
inductive Dv {α0 α1 α2 α3 α4 α5 α6 α7 α8:Type} (p:α0→α1→α2→α3→α4→α5→α6→α7→α8→Prop):Prop
 | mk (a0:α0) (a1:α1) (a2:α2) (a3:α3) (a4:α4) (a5:α5) (a6:α6) (a7:α7) (a8:α8) (h:p a0 a1 a2 a3 a4 a5 a6 a7 a8)
inductive yy {α0 α1 α2 α3 α4 α5 α6 α7 α8 α9:Type} (p:α0→α1→α2→α3→α4→α5→α6→α7→α8→α9→Prop):Prop
 | mk (a0:α0) (a1:α1) (a2:α2) (a3:α3) (a4:α4) (a5:α5) (a6:α6) (a7:α7) (a8:α8) (a9:α9) (h:p a0 a1 a2 a3 a4 a5 a6 a7 a8 a9)
end L2
set_option genSizeOf true
set_option genInjectivity true
local macro_rules | `(tactic| trivial)=>`(tactic| first | lia | omega)
namespace L2
open PySem PySem.Spec PyProof.Rows
abbrev aU:=Sum Int Str
def fv:aU→Value→Bool
 | .inl k,v=>Value.isInt k v
 | .inr x,v=>Value.isStrOf x v
def GO (w:World):aU→Int
 | .inl k=>hashInt k
 | .inr x=>hashStr w x
theorem cQ:∀{k:aU}{v:Value},fv k v=true→(bo fun i t=>k=Sum.inl i∧v=Value.int i t)∨(bo fun x t=>k=Sum.inr x∧v=Value.str x t)
 | .inl i,v,h=>by
  obtain ⟨t,e⟩:=Value.isInt_shape (k:=i) (v:=v) h
  exact .inl ⟨i,t,rfl,e⟩
 | .inr x,v,h=>by
  obtain ⟨t,e⟩:=Value.isStrOf_shape (x:=x) (v:=v) h
  exact .inr ⟨x,t,rfl,e⟩
theorem yD (i:Int) (t:Tok):fv (.inl i) (.int i t)=true:=by simp [fv,Value.isInt]
theorem zP (x:Str) (t:Tok):fv (.inr x) (.str x t)=true:=by simp [fv,Value.isStrOf]
theorem Dy (a b:Int):decide ((Sum.inl a:aU)=Sum.inl b)=(a==b):=by
 by_cases e:a=b
 ·subst e;simp
 ·have h:¬(Sum.inl a:aU)=Sum.inl b:=fun q=>e (Sum.inl.inj q)
  rw [decide_eq_false h]
  exact (beq_eq_false_iff_ne.mpr e).symm
theorem CP (a b:Str):decide ((Sum.inr a:aU)=Sum.inr b)=decide (a=b):=by
 by_cases e:a=b
 ·subst e;simp
 ·have h:¬(Sum.inr a:aU)=Sum.inr b:=fun q=>e (Sum.inr.inj q)
  rw [decide_eq_false h,decide_eq_false e]
theorem Dk (a:Int) (b:Str):decide ((Sum.inl a:aU)=Sum.inr b)=false:=decide_eq_false (fun q=>nomatch q)
theorem DP (a:Str) (b:Int):decide ((Sum.inr a:aU)=Sum.inl b)=false:=decide_eq_false (fun q=>nomatch q)
def bQ (prog:Program) (w:World):PySem.KeyKind prog w aU where
 is:=fv
 hash:=GO w
 inj:=fun v a b ha hb=>by
  rcases cQ ha with ⟨i,t,rfl,rfl⟩ | ⟨x,t,rfl,rfl⟩
  ·rcases cQ hb with ⟨j,u,rfl,e⟩ | ⟨y,u,rfl,e⟩
   ·injection e with e1 _;rw [e1]
   ·exact nomatch e
  ·rcases cQ hb with ⟨j,u,rfl,e⟩ | ⟨y,u,rfl,e⟩
   ·exact nomatch e
   ·injection e with e1 _;rw [e1]
 byValue:=fun k v h=>by
  rcases cQ h with ⟨i,t,rfl,rfl⟩ | ⟨x,t,rfl,rfl⟩ <;> rfl
 pyHash:=fun hv h=>by
  rcases cQ hv with ⟨i,t,rfl,rfl⟩ | ⟨x,t,rfl,rfl⟩
  ·exact wpAny_pyHash_int h
  ·exact wpAny_pyHash_str h
 eqBool:=fun hu hv h=>by
  rcases cQ hu with ⟨i,t,rfl,rfl⟩ | ⟨x,t,rfl,rfl⟩
  ·rcases cQ hv with ⟨j,u,rfl,rfl⟩ | ⟨y,u,rfl,rfl⟩
   ·rw [Dy] at h;exact wpAny_eqBool_int h
   ·rw [Dk] at h;exact SeqAt.EqAt.int_str i t y u _ _ _ _ h
  ·rcases cQ hv with ⟨j,u,rfl,rfl⟩ | ⟨y,u,rfl,rfl⟩
   ·rw [DP] at h;exact SeqAt.EqAt.str_int x t j u _ _ _ _ h
   ·rw [CP] at h;exact wpAny_eqBool_str h
 «strs»:=fun k x t v h=>by
  rcases cQ h with ⟨i,u,rfl,e⟩ | ⟨y,u,rfl,e⟩
  ·exact nomatch e
  ·injection e with e1 _
   subst e1
   cases v <;> rfl
end L2
namespace L2
open PySem PySem.Spec PyProof.Rows
inductive V where
 | non | bl (b:Bool) | int (i:Int) | str (x:Str) | byt (b:Array UInt8) | flt (b:UInt64) | ref (a:Addr) | ty (n:String)
 deriving DecidableEq
def aX:V→Value→Prop
 | .non,u=>u=Value.none
 | .bl b,u=>u=Value.bool b
 | .int i,u=>∃t,u=Value.int i t
 | .str x,u=>∃t,u=Value.str x t
 | .byt b,u=>∃t,u=Value.bytes b t
 | .flt b,u=>∃t,u=Value.float b t
 | .ref a,u=>u=Value.ref a
 | .ty n,u=>u=Value.type n
abbrev aM:List V→List Value→Prop:=Paired aX
theorem aM.length {xs:List V}{us:List Value} (r:aM xs us):xs.length=us.length:=Paired.length r
theorem aM.get:∀{xs:List V}{us:List Value}{i:Nat}{x:V},aM xs us→xs[i]?=some x→∃u,us[i]?=some u∧aX x u
 | _,_,_,_,.nil,e=>by simp at e
 | _,_,0,_,.cons r _,e=>by simp at e;subst e;exact ⟨_,rfl,r⟩
 | _,_,i+1,x,.cons _ t,e=>by
  obtain ⟨u,h1,h2⟩:=aM.get (i:=i) (x:=x) t (by simpa using e)
  exact ⟨u,by simpa using h1,h2⟩
theorem aM.set {x:V}{u:Value} (r:aX x u):∀{xs:List V}{us:List Value} (i:Nat),aM xs us→aM (xs.set i x) (us.set i u)
 | _,_,_,.nil=>.nil
 | _,_,0,.cons _ t=>.cons r t
 | _,_,i+1,.cons q t=>.cons q (aM.set r i t)
theorem aM.append:∀{xs ys:List V}{us ws:List Value},aM xs us→aM ys ws→aM (xs++ys) (us++ws)
 | _,_,_,_,.nil,s=>s
 | _,_,_,_,.cons r t,s=>.cons r (aM.append t s)
theorem aM.take:∀{xs:List V}{us:List Value} (n:Nat),aM xs us→aM (xs.take n) (us.take n)
 | _,_,0,_=>.nil
 | _,_,_+1,.nil=>.nil
 | _,_,n+1,.cons r t=>.cons r (aM.take n t)
theorem aM.drop:∀{xs:List V}{us:List Value} (n:Nat),aM xs us→aM (xs.drop n) (us.drop n)
 | _,_,0,r=>r
 | _,_,_+1,.nil=>.nil
 | _,_,n+1,.cons _ t=>aM.drop n t
def pJ:Option V→Option Value→Prop
 | some v,some u=>aX v u
 | none,none=>True
 | _,_=>False
def KV {κ:Type}:List (κ×V)→List (κ×Value)→Prop:=Paired fun (p:κ×V) (q:κ×Value)=>p.1=q.1∧aX p.2 q.2
def kV:aU→V
 | .inl i=>.int i
 | .inr x=>.str x
inductive HO where
 | lst (xs:List V)
 | tup (xs:List V)
 | dK (kvs:List (aU×V)) | dT (kvs:List (List aU×V))
 | set (S:Int→Bool) (n:Nat)
 | ins (C dx:Addr) (fs:List (Str×V))
 | own (x:Addr)
 | xd (fs:List (Str×V))
 | met (f x:Addr)
 | rng (lo hi:Int)
 | frz (o:Obj) (u:HO)
 | tbl (ps:Array Value)
 | ext (φ:Heap→Prop)
abbrev Hp:=Addr→Option HO
def aN (H:Hp) (a:Addr) (o:HO):Hp:=fun b=>if b=a then some o else H b
theorem am {H:Hp}{a:Addr}{o:HO}:aN H a o a=some o:=by unfold aN;rw [if_pos rfl]
theorem ao {H:Hp}{a b:Addr}{o:HO} (h:b≠a):aN H a o b=H b:=by unfold aN;rw [if_neg h]
theorem Bl {H:Hp}{a b:Addr}{o u:HO} (h:H a=some o) (h':H b=some u) (d:o≠u):a≠b:=by
 intro e;subst e;rw [h] at h';exact d (Option.some.inj h')
theorem aY {H:Hp}{a b:Addr}{o:HO} (h:H a=some o) (h':H b=none):a≠b:=by
 intro e;subst e;rw [h] at h';cases h'
section
variable (P:Program) (w:World)
def bh (H:Hp) (h:Heap) (a:Addr):HO→Prop
 | .lst xs=>xs.length≤sizeLine∧bo fun (its:List Value) (n:Nat)=>aM xs its∧h.get? a=some { cls:=.type "list",data:=.seq its.toArray n }
 | .tup xs=>xs.length≤sizeLine∧∃its:List Value,aM xs its∧IsTup h a its.toArray∧∃o,h.get? a=some o∧o.dict=none
 | .dK kvs=>kvs.length≤sizeLine∧(a==sysModules)=false∧∃vs,KV kvs vs∧h.DictOf (bQ P w) a vs
 | .dT kvs=>kvs.length≤sizeLine∧(a==sysModules)=false∧∃xs:List (List aU×Addr×Value),
  Paired (fun (p:List aU×V) (q:List aU×Addr×Value)=>p.1=q.1∧H q.2.1=some (.tup (p.1.map kV))∧aX p.2 q.2.2) kvs xs∧
  fJ fun o es ep=>h.get? a=some o∧o.ExactDict∧o.data=.dict es ep∧es.toList=xs.map (entryOfKey (tupleKind (bQ P w)))∧(xs.map (·.1)).Nodup
 | .set S n=>h.SetOf (intKind P w) a S n
 | .ins C dx fs=>H dx=some (.own a)∧fs.length≤1000∧dx≠a∧h.get? a=some (PySem.W.instObj C dx)∧
  ∃mA,h.Ns1 dx mA∧(∀f,pJ (fs.lookup f) (mA f))∧PySem.Within mA (fs.map (·.1))
 | .own _=>∃o,h.get? a=some o
 | .xd fs=>∃mA,h.Ns1 a mA∧∀f,pJ (fs.lookup f) (mA f)
 | .rng lo hi=>fJ fun t u v=>h.get? a=some { cls:=.type "range",data:=.fields #[.int lo t,.int hi u,.int 1 v] }
 | .frz o u=>h.get? a=some o∧bh H h a u
 | .tbl ps=>h.get? a=some { cls:=.none,data:=.fields ps }
 | .met f x=>h.get? a=some (PySem.W.methodObj (.ref f) (.ref x))
 | .ext φ=>φ h∧(∃o,h.get? a=some o)∧∀h1 h2:Heap,φ h1→(∀o,h1.get? a=some o→h2.get? a=some o)→φ h2
def dz (H:Hp) (h:Heap):Prop:=∀a o,H a=some o→bh P w H h a o
end
section
variable {P:Program}{w:World}{H H':Hp}{h h':Heap}{a:Addr}{o:HO}
theorem bh.lt (x:bh P w H h a o):a<h.objs.size:=by
 cases o with
 | lst xs=>obtain ⟨_,_,_,_,e⟩:=x;exact Heap.lt_size e
 | tup xs=>obtain ⟨_,_,_,p,_⟩:=x;exact p.lt
 | dK kvs=>obtain ⟨_,_,_,_,o,_,_,e,_⟩:=x;exact Heap.lt_size e
 | dT kvs=>obtain ⟨_,_,_,_,o,_,_,e,_⟩:=x;exact Heap.lt_size e
 | set S n=>obtain ⟨o,_,_,_,e,_⟩:=x;exact Heap.lt_size e
 | ins C dx fs=>obtain ⟨_,_,_,e,_⟩:=x;exact Heap.lt_size e
 | own y=>obtain ⟨_,e⟩:=x;exact Heap.lt_size e
 | xd fs=>obtain ⟨_,⟨_,_,_,e,_⟩,_⟩:=x;exact Heap.lt_size e
 | rng lo hi=>obtain ⟨_,_,_,e⟩:=x;exact Heap.lt_size e
 | frz ob u=>obtain ⟨e,_⟩:=x;exact Heap.lt_size e
 | tbl ps=>exact Heap.lt_size (show h.get? a=some _ from x)
 | met f y=>exact Heap.lt_size (show h.get? a=some _ from x)
 | ext φ=>obtain ⟨_,⟨_,e⟩,_⟩:=x;exact Heap.lt_size e
theorem Paired.mapP {α β:Type}{F G:α→β→Prop}:∀{l₁:List α}{l₂:List β},Paired F l₁ l₂→(∀a b,F a b→G a b)→Paired G l₁ l₂
 | _,_,.nil,_=>.nil
 | _,_,.cons r t,f=>.cons (f _ _ r) (Paired.mapP t f)
theorem bh.stay (x:bh P w H h a o) (k:∀b u,(b=a∨H b=some (.own a))→h.get? b=some u→h'.get? b=some u)
 (ho:∀b,H b=some (.own a)→H' b=some (.own a)) (ht:∀b xs,H b=some (.tup xs)→H' b=some (.tup xs)):bh P w H' h' a o:=by
 induction o with
 | lst xs=>obtain ⟨z,its,n,r,e⟩:=x;exact ⟨z,its,n,r,k _ _ (.inl rfl) e⟩
 | tup xs=>obtain ⟨z,its,r,⟨ob,e,c⟩,od,e',c'⟩:=x;exact ⟨z,its,r,⟨ob,k _ _ (.inl rfl) e,c⟩,od,k _ _ (.inl rfl) e',c'⟩
 | dK kvs=>obtain ⟨z,y,vs,r,ob,es,ep,e,c⟩:=x;exact ⟨z,y,vs,r,ob,es,ep,k _ _ (.inl rfl) e,c⟩
 | dT kvs=>
  obtain ⟨z,y,xs,r,ob,es,ep,e,c⟩:=x
  exact ⟨z,y,xs,Paired.mapP r fun p q z=>⟨z.1,ht _ _ z.2.1,z.2.2⟩,ob,es,ep,k _ _ (.inl rfl) e,c⟩
 | set S n=>obtain ⟨ob,es,ep,t,e,c⟩:=x;exact ⟨ob,es,ep,t,k _ _ (.inl rfl) e,c⟩
 | ins C dx fs=>
  obtain ⟨d,z,ne,e,mA,⟨od,es,ep,e2,c⟩,r⟩:=x
  exact ⟨ho _ d,z,ne,k _ _ (.inl rfl) e,mA,⟨od,es,ep,k _ _ (.inr d) e2,c⟩,r⟩
 | own y=>obtain ⟨ob,e⟩:=x;exact ⟨ob,k _ _ (.inl rfl) e⟩
 | xd fs=>obtain ⟨mA,⟨od,es,ep,e,c⟩,r⟩:=x;exact ⟨mA,⟨od,es,ep,k _ _ (.inl rfl) e,c⟩,r⟩
 | rng lo hi=>obtain ⟨t,u,v,e⟩:=x;exact ⟨t,u,v,k _ _ (.inl rfl) e⟩
 | frz ob u ih=>obtain ⟨e,q⟩:=x;exact ⟨k _ _ (.inl rfl) e,ih q⟩
 | tbl ps=>
  have e:h.get? a=some { cls:=.none,data:=.fields ps }:=x
  show h'.get? a=some { cls:=.none,data:=.fields ps }
  exact k a _ (.inl rfl) e
 | met f y=>
  have e:h.get? a=some (PySem.W.methodObj (.ref f) (.ref y)):=x
  show h'.get? a=some (PySem.W.methodObj (.ref f) (.ref y))
  exact k a _ (.inl rfl) e
 | ext φ=>obtain ⟨p,⟨o,e⟩,st⟩:=x;exact ⟨st _ _ p fun o q=>k _ _ (.inl rfl) q,⟨o,k _ _ (.inl rfl) e⟩,st⟩
theorem dz.lt (x:dz P w H h) (e:H a=some o):a<h.objs.size:=(x a o e).lt
theorem dz.fresh (x:dz P w H h) (e:h.objs.size≤a):H a=none:=by
 cases q:H a with
 | none=>rfl
 | some u=>exact absurd (Nat.lt_of_lt_of_le (x.lt q) e) (Nat.lt_irrefl _)
theorem dz.kept (x:dz P w H h) (k:∀b u,h.get? b=some u→h'.get? b=some u):dz P w H h':=fun a o e=>
 (x a o e).stay (fun b u _ q=>k b u q) (fun _ q=>q) fun _ _ q=>q
theorem dz.laid (x:dz P w H h) (k:∀b u,h.get? b=some u→h'.get? b=some u) (hp:h.objs.size≤a) (new:bh P w (aN H a o) h' a o):dz P w (aN H a o) h':=fun b u e=>by
 have hn:=x.fresh hp
 by_cases hb:b=a
 ·subst hb;rw [am] at e;cases e;exact new
 ·rw [ao hb] at e
  exact (x b u e).stay (fun c v _ q=>k c v q) (fun c q=>by rw [ao (aY q hn)];exact q) fun c xs q=>by rw [ao (aY q hn)];exact q
end
def Rd (H:Hp) (a:Addr) (u:HO):Prop:=H a=some u∨∃o,H a=some (.frz o u)
theorem Rd.ok {P:Program}{w:World}{H:Hp}{h:Heap}{a:Addr}{u:HO} (r:Rd H a u) (x:dz P w H h):bh P w H h a u:=by
 rcases r with r | ⟨o,r⟩
 ·exact x a u r
 ·obtain ⟨_,q⟩:=x a _ r
  exact q
def A8:Option HO→Prop
 | some (.lst _)=>True
 | some (.dK _)=>True
 | some (.dT _)=>True
 | some (.set _ _)=>True
 | some (.ins _ _ _)=>True
 | some (.ext _)=>True
 | _=>False
section
variable {P:Program}{w:World}{H:Hp}{h h':Heap}{x e:Addr}{o':HO}
theorem dz.write (ok:dz P w H h) (mu:A8 (H x)) (he:e=x∨H e=some (.own x)) (k:∀b u,b≠e→h.get? b=some u→h'.get? b=some u) (heo:∃u,h'.get? e=some u)
 (new:bh P w (aN H x o') h' x o'):dz P w (aN H x o') h':=fun b u q=>by
 have nown:∀c y,H c=some (.own y)→c≠x:=fun c y r z=>by subst z;rw [r] at mu;exact mu
 have ntup:∀c xs,H c=some (.tup xs)→c≠x:=fun c xs r z=>by subst z;rw [r] at mu;exact mu
 by_cases hb:b=x
 ·subst hb;rw [am] at q;cases q;exact new
 ·rw [ao hb] at q
  by_cases hbe:b=e
  ·have q':H b=some (.own x):=by
    rcases he with z | z
    ·exact absurd (hbe.trans z) hb
    ·rw [hbe];exact z
   rw [q] at q';cases q'
   obtain ⟨v,hv⟩:=heo
   exact ⟨v,by rw [hbe];exact hv⟩
  ·refine (ok b u q).stay (fun c v hc r=>k c v ?_ r) (fun c r=>by rw [ao (nown c b r)];exact r) fun c xs r=>by rw [ao (ntup c xs r)];exact r
   rcases hc with rfl | hc
   ·exact hbe
   ·rintro rfl
    rcases he with z | z
    ·exact nown c b hc z
    ·rw [hc] at z;cases z;exact hb rfl
end
structure Un (fs ex:List Addr) (H H':Hp) (h h':Heap):Prop where
 keep:∀b o,h.get? b=some o→H b=none→b∉fs→b∉ex→h'.get? b=some o
 slot:∀b o,h.get? b=some o→H b=none→b∈fs→b∉ex→∃sl,h'.get? b=some { o with slots:=sl }
 free:∀b o,h.get? b=some o→H b=none→b∉ex→H' b=none
 there:∀b o,h.get? b=some o→b∉ex→∃o',h'.get? b=some o'
 tups:∀b xs,H b=some (.tup xs)→H' b=some (.tup xs)
 frzs:∀b o u,H b=some (.frz o u)→H' b=some (.frz o u)
 tbls:∀b ps,H b=some (.tbl ps)→∃more,H' b=some (.tbl (ps++more))
section
variable {fs fs' ex ex':List Addr}{H H1 H2:Hp}{h h1 h2 h':Heap}{a x e:Addr}{o:HO}
theorem Un.any (u:Un fs ex H H1 h h1) {b:Addr}{ob:Obj} (q:h.get? b=some ob) (n:H b=none) (hx:b∉ex):∃sl,h1.get? b=some { ob with slots:=sl }:=by
 by_cases hb:b∈fs
 ·exact u.slot b ob q n hb hx
 ·exact ⟨ob.slots,u.keep b ob q n hb hx⟩
theorem Un.kept (k:∀b u,h.get? b=some u→h'.get? b=some u):Un fs ex H H h h':=
 ⟨fun b ob q _ _ _=>k b ob q,fun b ob q _ _ _=>⟨ob.slots,k b ob q⟩,fun _ _ _ n _=>n,fun b ob q _=>⟨ob,k b ob q⟩,fun _ _ q=>q,fun _ _ _ q=>q,fun _ ps q=>⟨#[],by rw [q];simp⟩⟩
theorem Un.refl:Un fs ex H H h h:=Un.kept fun _ _ q=>q
theorem Un.laid (k:∀b u,h.get? b=some u→h'.get? b=some u) (hp:h.objs.size≤a) (hn:H a=none):Un fs ex H (aN H a o) h h' where
 keep:=fun b u q _ _ _=>k b u q
 slot:=fun b u q _ _ _=>⟨u.slots,k b u q⟩
 free:=fun b u q n _=>by rw [ao (Nat.ne_of_lt (Nat.lt_of_lt_of_le (Heap.lt_size q) hp))];exact n
 there:=fun b u q _=>⟨u,k b u q⟩
 tups:=fun b xs q=>by rw [ao (aY q hn)];exact q
 frzs:=fun b u xs q=>by rw [ao (aY q hn)];exact q
 tbls:=fun b ps q=>⟨#[],by rw [ao (aY q hn),q];simp⟩
theorem Un.write (mu:A8 (H x)) (he:e=x∨H e=some (.own x)) (k:∀b u,b≠e→h.get? b=some u→h'.get? b=some u) (heo:∃u,h'.get? e=some u):Un fs ex H (aN H x o) h h':=by
 have hx:∀b,H b=none→b≠x:=fun b n z=>by subst z;rw [n] at mu;exact mu
 have hb:∀b,H b=none→b≠e:=fun b n z=>by
  subst z
  rcases he with r | r
  ·exact hx b n r
  ·rw [n] at r;cases r
 have hm:∀b u,H b=some u→¬A8 (some u)→b≠x:=fun b u q nm z=>by subst z;rw [q] at mu;exact nm mu
 refine ⟨fun b u q n _ _=>k b u (hb b n) q,fun b u q n _ _=>⟨u.slots,k b u (hb b n) q⟩,fun b u q n _=>by rw [ao (hx b n)];exact n,fun b u q _=>?_,
  fun b xs q=>by rw [ao (hm b _ q fun z=>z)];exact q,fun b u xs q=>by rw [ao (hm b _ q fun z=>z)];exact q,fun b ps q=>⟨#[],by rw [ao (hm b _ q fun z=>z),q];simp⟩⟩
 by_cases hbe:b=e
 ·subst hbe;exact heo
 ·exact ⟨u,k b u hbe q⟩
end
def A6 (h:Heap) (H:Hp):List Addr:=(List.range h.objs.size).filter fun a=>(H a).isSome
def oC (h:Heap) (H:Hp):Heap:=PySem.W.hideAll h (A6 h H)
theorem zv (h:Heap) (H:Hp):(oC h H).objs.size=h.objs.size:=PySem.W.hideAll_size _ _
theorem Ag {h:Heap}{H:Hp}{b:Addr}{o:Obj} (e:h.get? b=some o) (n:H b=none):(oC h H).get? b=some o:=
 PySem.W.hideAll_get _ e fun hm=>by
  have q:(H b).isSome=true:=(List.mem_filter.mp hm).2
  rw [n] at q;simp at q
theorem CL {h:Heap}{H:Hp}{b:Addr}{o:Obj} (e:(oC h H).get? b=some o):h.get? b=some o∧H b=none:=by
 have e':h.get? b=some o:=PySem.W.of_hideAll (A6 h H) e
 refine ⟨e',?_⟩
 cases q:H b with
 | none=>rfl
 | some x=>
  have hm:b∈A6 h H:=List.mem_filter.mpr ⟨List.mem_range.mpr (Heap.lt_size e'),by simp [q]⟩
  have z:(oC h H).get? b=none:=PySem.W.hideAll_none (A6 h H) hm
  rw [z] at e;cases e
end L2
namespace L2
open PySem PySem.Spec PyProof.Rows
structure Mod (K:PySem.W.Frag) (mg:Str→Option Value) (base:Heap):Prop where
 kin:K.In base
 glob:base.Ns mainGlobals mg
 blt:∃mb,base.Ns builtinsNs mb∧∀x:Str,x≠"__name__"→mb x=bootBuiltins x
 nolimit:base.NoLimit
structure Cx where
 prog:Program
 w:World
 K:PySem.W.Frag
 mg:Str→Option Value
 base:Heap
 A:Around
 N:List Str
 s₀:Shared
 H₀:Hp
 env:Env
 outer:List Env
 stack:List Env
 ex:List Addr
 fn:Str→Bool
 calm:Bool
 pn:List (Addr×Obj)
 xe:Value→Shared→Prop
def f6 (l:List Env):List Addr:=l.filterMap (·.frame)
abbrev Cx.fs (X:Cx):List Addr:=f6 X.outer
def zN (sc:Scope) (x:Str):Prop:=sc.names.lookup x=some .local∨sc.names.lookup x=some .cell∨sc.names.lookup x=some .free
def Bg (sc:Scope) (x:Str):Prop:=sc.names.lookup x=some .local∨sc.names.lookup x=some .cell
def DN (env:Env) (h:Heap) (m:Str→Option Value) (x:Str) (u:Value):Prop:=
 (env.kindOf x=some .local∧m x=some u)∨((env.kindOf x=some .cell∨env.kindOf x=some .free)∧∃c,env.cells.lookup x=some c∧h.IsCell c (some u))
structure Cx.Ok (X:Cx):Prop where
 mod:Mod X.K X.mg X.base
 kind:X.env.scope.kind=.function
 glob:X.env.globals=mainGlobals
 blt:X.env.builtins=builtinsNs
 above:X.s₀.heap.objs.size≤X.env.locals
 inj:∀x y c,X.env.cells.lookup x=some c→X.env.cells.lookup y=some c→x=y
 has:∀x,(X.env.kindOf x=some .cell∨X.env.kindOf x=some .free)→∃c,X.env.cells.lookup x=some c
 cab:∀x c,X.fn x=true→X.env.cells.lookup x=some c→X.s₀.heap.objs.size≤c
 hd:X.calm=true→X.A.handled=none
 frames:X.A.frames=some X.stack
 stk:X.stack=X.outer∨(X.stack=X.env :: X.outer∧X.env.frame=some X.env.locals)
 exf:∀b∈X.ex,b≠X.env.locals∧∀x c,X.env.cells.lookup x=some c→c≠b
 bs:∀b o,X.base.get? b=some o→X.s₀.heap.get? b=some o∧X.H₀ b=none
 bsz:X.base.objs.size≤X.s₀.heap.objs.size
 noex:∀b o,X.base.get? b=some o→b∉X.ex
 exfs:∀b∈X.ex,b∉X.fs
 funs:X.s₀.heap.FunFrames X.base X.outer
 frf:∀b∈X.fs,X.H₀ b=none
structure af (X:Cx) (pins:List (Addr×Obj)) (σ:List (Option V)) (H:Hp) (s:Shared):Prop where
 ok:X.Ok
 os:s.os=X.s₀.os
 bare:AllBare s.gens
 base:Un X.fs X.ex X.H₀ H X.s₀.heap s.heap
 loc:∃m,s.heap.Ns X.env.locals m∧∀(i:Nat) (x:Str) (v:V),X.N[i]?=some x→σ[i]?=some (some v)→zN X.env.scope x→∃u,aX v u∧DN X.env s.heap m x u
 cell:∀x c,X.env.cells.lookup x=some c→∃v,s.heap.IsCell c v
 free:H X.env.locals=none
 freeC:∀x c,X.env.cells.lookup x=some c→H c=none
 pin:∀p∈X.pn++pins,s.heap.get? p.1=some p.2∧H p.1=none∧p.1≠X.env.locals∧p.1∉X.fs∧∀v,p.2.data≠.cell v
 hok:dz X.prog X.w H s.heap
 len:σ.length=X.N.length
section
variable {X:Cx}{pins:List (Addr×Obj)}{σ:List (Option V)}{H H':Hp}{s:Shared}{h':Heap}
theorem Cx.Ok.nofr (ok:X.Ok) {b:Addr}{o:Obj} (e:X.base.get? b=some o):b∉X.fs:=fun hb=>by
 have:=(ok.funs.mem hb).1
 rw [e] at this;cases this
theorem af.bs (I:af X pins σ H s):∀b o,X.base.get? b=some o→s.heap.get? b=some o∧H b=none:=fun b o e=>
 ⟨I.base.keep b o (I.ok.bs b o e).1 (I.ok.bs b o e).2 (I.ok.nofr e) (I.ok.noex b o e),I.base.free b o (I.ok.bs b o e).1 (I.ok.bs b o e).2 (I.ok.noex b o e)⟩
theorem af.bk (I:af X pins σ H s):∀b o,X.base.get? b=some o→s.heap.get? b=some o:=fun b o e=>(I.bs b o e).1
theorem af.mod (I:af X pins σ H s):Mod X.K X.mg X.base:=I.ok.mod
theorem af.kIn (I:af X pins σ H s):X.K.In s.heap:=I.ok.mod.kin.keeps I.bk
theorem af.lt (I:af X pins σ H s):X.env.locals<s.heap.objs.size:=let ⟨_,hn,_⟩:=I.loc;hn.lt
theorem af.sz (I:af X pins σ H s):X.s₀.heap.objs.size≤s.heap.objs.size:=Nat.le_trans I.ok.above (Nat.le_of_lt I.lt)
theorem af.nofs (I:af X pins σ H s) {a:Addr} (h:s.heap.objs.size≤a):a∉X.fs:=fun hb=>by
 obtain ⟨_,o,ho,_⟩:=I.ok.funs.mem hb
 exact absurd (Nat.lt_of_lt_of_le (Heap.lt_size ho) (Nat.le_trans I.sz h)) (Nat.lt_irrefl _)
theorem af.cne (I:af X pins σ H s):∀x c,X.env.cells.lookup x=some c→c≠X.env.locals:=fun x c e z=>by
 obtain ⟨v,o,ho,hd⟩:=I.cell x c e
 obtain ⟨m,⟨o',es,ep,ho',hd',_⟩,_⟩:=I.loc
 rw [z,ho'] at ho;cases ho;rw [hd'] at hd;cases hd
theorem af.funs (I:af X pins σ H s):s.heap.FunFrames X.base X.outer:=by
 have all:∀(l:List Env),(∀b∈f6 l,b∈X.fs)→X.s₀.heap.FunFrames X.base l→s.heap.FunFrames X.base l:=by
  intro l
  induction l with
  | nil=>intro _ _;trivial
  | cons env r ih=>
   intro hs hl
   obtain ⟨hk,⟨L,o,hf,hn,ho,hd⟩,hr⟩:=hl
   have hL:L∈X.fs:=hs L (by unfold f6;rw [List.filterMap_cons,hf];exact List.mem_cons_self)
   obtain ⟨sl,e⟩:=I.base.slot L o ho (I.ok.frf L hL) hL fun z=>I.ok.exfs L z hL
   exact ⟨hk,⟨L,_,hf,hn,e,hd⟩,ih (fun b hb=>hs b (by unfold f6;rw [List.filterMap_cons,hf];exact List.mem_cons_of_mem _ hb)) hr⟩
 exact all X.outer (fun _ hb=>hb) I.ok.funs
theorem af.stack (I:af X pins σ H s):s.heap.FunFrames X.base X.stack:=by
 rcases I.ok.stk with e | ⟨e,hf⟩
 ·rw [e];exact I.funs
 ·rw [e]
  obtain ⟨m,hn,_⟩:=I.loc
  refine .cons (by rw [I.ok.kind];decide) hf hn ?_ I.funs
  exact Heap.get?_none_of_le (Nat.le_trans I.ok.bsz I.ok.above)
theorem af.stkSub (I:af X pins σ H s):∀b∈f6 X.stack,b∈X.env.locals :: X.fs:=fun b hb=>by
 rcases I.ok.stk with e | ⟨e,hf⟩
 ·rw [e] at hb;exact List.mem_cons_of_mem _ hb
 ·rw [e] at hb
  unfold f6 at hb
  rw [List.filterMap_cons,hf] at hb
  exact hb
theorem af.stkFree (I:af X pins σ H s):∀b∈f6 X.stack,H b=none:=fun b hb=>by
 rcases List.mem_cons.mp (I.stkSub b hb) with e | hb
 ·rw [e];exact I.free
 ·obtain ⟨_,o,ho,_⟩:=I.ok.funs.mem hb
  exact I.base.free b o ho (I.ok.frf b hb) fun z=>I.ok.exfs b z hb
theorem af.step {g':Array GenState}{t':Nat}{d':Drawn}{ch:List Addr} (I:af X pins σ H s)
 (hch:∀b∈ch,(b∈X.ex∨X.s₀.heap.objs.size≤b)∧b≠X.env.locals∧(∀x c,X.env.cells.lookup x=some c→c≠b)∧∀p∈X.pn++pins,p.1≠b)
 (keep:∀b o,b≠X.env.locals→b∉X.fs→b∉ch→s.heap.get? b=some o→H b=none→h'.get? b=some o)
 (slot:∀b o,b≠X.env.locals→b∈X.fs→b∉ch→s.heap.get? b=some o→H b=none→∃sl,h'.get? b=some { o with slots:=sl }) (free:∀b o,b∉ch→s.heap.get? b=some o→H b=none→H' b=none)
 (there:∀b o,b∉ch→s.heap.get? b=some o→∃o',h'.get? b=some o')
 (tups:∀b xs,H b=some (.tup xs)→H' b=some (.tup xs)) (frzs:∀b o u,H b=some (.frz o u)→H' b=some (.frz o u)) (tbls:∀b ps,H b=some (.tbl ps)→∃more,H' b=some (.tbl (ps++more)))
 (ns:∀m,s.heap.Ns X.env.locals m→h'.Ns X.env.locals m) (hok:dz X.prog X.w H' h') (hg:AllBare g') :
 af X pins σ H' { s with heap:=h',gens:=g',drawn:=d',toks:=t' }:=by
 have neL:∀b o,X.s₀.heap.get? b=some o→b≠X.env.locals:=fun b o e=>Nat.ne_of_lt (Nat.lt_of_lt_of_le (Heap.lt_size e) I.ok.above)
 have neC:∀b o,X.s₀.heap.get? b=some o→b∉X.ex→b∉ch:=fun b o e hx hb=>by
  rcases (hch b hb).1 with z | z
  ·exact hx z
  ·exact absurd (Nat.lt_of_lt_of_le (Heap.lt_size e) z) (Nat.lt_irrefl _)
 have cellK:∀x c,X.env.cells.lookup x=some c→∀v,s.heap.IsCell c v→h'.IsCell c v:=fun x c e v ⟨o,ho,hd⟩=>by
  have nch:c∉ch:=fun z=>(hch c z).2.2.1 x c e rfl
  by_cases hc:c∈X.fs
  ·obtain ⟨sl,q⟩:=slot c o (I.cne x c e) hc nch ho (I.freeC x c e)
   exact ⟨_,q,hd⟩
  ·exact ⟨o,keep c o (I.cne x c e) hc nch ho (I.freeC x c e),hd⟩
 refine ⟨I.ok,I.os,hg,⟨fun b o e n hb hx=>?_,fun b o e n hb hx=>?_,fun b o e n hx=>?_,fun b o e hx=>?_,fun b xs e=>tups b xs (I.base.tups b xs e),fun b o xs e=>frzs b o xs (I.base.frzs b o xs e),fun b ps e=>?_⟩,?_,fun x c e=>?_,?_,fun x c e=>?_,fun p hp=>?_,hok,I.len⟩
 ·exact keep b o (neL b o e) hb (neC b o e hx) (I.base.keep b o e n hb hx) (I.base.free b o e n hx)
 ·obtain ⟨sl,e1⟩:=I.base.slot b o e n hb hx
  obtain ⟨sl',e2⟩:=slot b _ (neL b o e) hb (neC b o e hx) e1 (I.base.free b o e n hx)
  exact ⟨sl',e2⟩
 ·obtain ⟨o',e1⟩:=I.base.there b o e hx
  exact free b o' (neC b o e hx) e1 (I.base.free b o e n hx)
 ·obtain ⟨o',e1⟩:=I.base.there b o e hx
  exact there b o' (neC b o e hx) e1
 ·obtain ⟨m1,e1⟩:=I.base.tbls b ps e
  obtain ⟨m2,e2⟩:=tbls b _ e1
  exact ⟨m1++m2,by rw [e2,Array.append_assoc]⟩
 ·obtain ⟨m,hn,hl⟩:=I.loc
  refine ⟨m,ns m hn,fun i x v e1 e2 e3=>?_⟩
  obtain ⟨u,r,l⟩:=hl i x v e1 e2 e3
  refine ⟨u,r,?_⟩
  rcases l with l | ⟨k,c,e,z⟩
  ·exact .inl l
  ·exact .inr ⟨k,c,e,cellK x c e _ z⟩
 ·obtain ⟨v,z⟩:=I.cell x c e
  exact ⟨v,cellK x c e v z⟩
 ·obtain ⟨m,⟨o,_,_,ho,_⟩,_⟩:=I.loc
  exact free _ o (fun z=>(hch _ z).2.1 rfl) ho I.free
 ·obtain ⟨v,o,ho,hd⟩:=I.cell x c e
  exact free c o (fun z=>(hch c z).2.2.1 x c e rfl) ho (I.freeC x c e)
 ·obtain ⟨e,n,ne,nf,d⟩:=I.pin p hp
  have nch:p.1∉ch:=fun z=>(hch p.1 z).2.2.2 p hp rfl
  exact ⟨keep p.1 p.2 ne nf nch e n,free p.1 p.2 nch e n,ne,nf,d⟩
theorem af.un {t':Nat} (I:af X pins σ H s) (u:Un X.fs [] H H' s.heap h') (hok:dz X.prog X.w H' h'):af X pins σ H' { s with heap:=h',toks:=t' }:=by
 obtain ⟨m,⟨o,es,ep,ho,r⟩,_⟩:=id I.loc
 obtain ⟨sl,hL⟩:=u.any ho I.free (by simp)
 exact I.step (g':=s.gens) (d':=s.drawn) (ch:=[]) (fun _ z=>nomatch z) (fun b o _ hb _ e n=>u.keep b o e n hb (by simp)) (fun b o _ hb _ e n=>u.slot b o e n hb (by simp)) (fun b o _ e n=>u.free b o e n (by simp)) (fun b o _ e=>u.there b o e (by simp)) u.tups u.frzs u.tbls (fun m' hm=>by
  obtain ⟨o',es',ep',ho',r'⟩:=hm
  rw [ho] at ho';cases ho'
  exact ⟨_,es',ep',hL,r'⟩) hok I.bare
theorem af.call {g':Array GenState}{t':Nat}{d':Drawn}{ch:List Addr} (I:af X pins σ H s) (u:Un (f6 X.stack) ch H H' s.heap h') (hok:dz X.prog X.w H' h') (hg:AllBare g')
 (hch:∀b∈ch,(b∈X.ex∨X.s₀.heap.objs.size≤b)∧b≠X.env.locals∧(∀x c,X.env.cells.lookup x=some c→c≠b)∧∀p∈X.pn++pins,p.1≠b) :
 af X pins σ H' { s with heap:=h',gens:=g',drawn:=d',toks:=t' }:=by
 obtain ⟨m,⟨o,es,ep,ho,r⟩,_⟩:=id I.loc
 obtain ⟨sl,hL⟩:=u.any ho I.free fun z=>(hch _ z).2.1 rfl
 exact I.step (ch:=ch) hch (fun b o hL hb hc e n=>u.keep b o e n (fun z=>(List.mem_cons.mp (I.stkSub b z)).elim hL hb) hc) (fun b o _ _ hc e n=>u.any e n hc) (fun b o hc e n=>u.free b o e n hc) (fun b o hc e=>u.there b o e hc) u.tups u.frzs u.tbls (fun m' hm=>by
  obtain ⟨o',es',ep',ho',r'⟩:=hm
  rw [ho] at ho';cases ho'
  exact ⟨_,es',ep',hL,r'⟩) hok hg
theorem af.turned {t':Nat}{it:Addr} (I:af X pins σ H s) (k:∀b o,b≠it→s.heap.get? b=some o→h'.get? b=some o) (hn:H it=none) (hL:it≠X.env.locals)
 (h1:it∈X.ex∨X.s₀.heap.objs.size≤it) (h2:∀x c,X.env.cells.lookup x=some c→c≠it) (h3:∀p∈X.pn++pins,p.1≠it):af X pins σ H { s with heap:=h',toks:=t' }:=by
 have nit:∀b u,H b=some u→b≠it:=fun b u e z=>by rw [z,hn] at e;cases e
 refine I.step (g':=s.gens) (d':=s.drawn) (ch:=[it]) (fun b hb=>?_) (fun b o _ _ hc e _=>k b o (fun z=>hc (by simp [z])) e) (fun b o _ _ hc e _=>⟨o.slots,k b o (fun z=>hc (by simp [z])) e⟩) (fun _ _ _ _ n=>n)
  (fun b o hc e=>⟨o,k b o (fun z=>hc (by simp [z])) e⟩) (fun _ _ e=>e) (fun _ _ _ e=>e) (fun b ps e=>⟨#[],by rw [e];simp⟩) (fun m hm=>?_) (fun b u e=>?_) I.bare
 ·have e:b=it:=by simpa using hb
  subst e
  exact ⟨h1,hL,h2,h3⟩
 ·obtain ⟨o,es,ep,ho,r⟩:=hm
  exact ⟨o,es,ep,k _ o (Ne.symm hL) ho,r⟩
 ·refine (I.hok b u e).stay (fun c v hc q=>k c v ?_ q) (fun _ q=>q) fun _ _ q=>q
  rcases hc with z | z
  ·rw [z];exact nit b u e
  ·exact nit c _ z
theorem af.tok (I:af X pins σ H s) (t:Nat):af X pins σ H { s with toks:=t }:=I.un (h':=s.heap) (t':=t) Un.refl I.hok
theorem af.kept {t':Nat} (I:af X pins σ H s) (k:∀b u,s.heap.get? b=some u→h'.get? b=some u):af X pins σ H { s with heap:=h',toks:=t' }:=I.un (Un.kept k) (I.hok.kept k)
theorem af.laid {a:Addr}{o:HO}{t':Nat} (I:af X pins σ H s) (k:∀b u,s.heap.get? b=some u→h'.get? b=some u) (hp:s.heap.objs.size≤a) (new:bh X.prog X.w (aN H a o) h' a o) :
 af X pins σ (aN H a o) { s with heap:=h',toks:=t' }:=I.un (Un.laid k hp (I.hok.fresh hp)) (I.hok.laid k hp new)
theorem af.write {x e:Addr}{o:HO}{t':Nat} (I:af X pins σ H s) (mu:A8 (H x)) (he:e=x∨H e=some (.own x)) (k:∀b u,b≠e→s.heap.get? b=some u→h'.get? b=some u) (heo:∃u,h'.get? e=some u)
 (new:bh X.prog X.w (aN H x o) h' x o):af X pins σ (aN H x o) { s with heap:=h',toks:=t' }:=I.un (Un.write mu he k heo) (I.hok.write mu he k heo new)
theorem af.weak {σ':List (Option V)} (I:af X pins σ H s) (hl:σ'.length=σ.length) (w:∀(i:Nat) v,σ'[i]?=some (some v)→σ[i]?=some (some v)):af X pins σ' H s:=
 ⟨I.ok,I.os,I.bare,I.base,let ⟨m,hn,hl'⟩:=I.loc;⟨m,hn,fun i x v e1 e2 e3=>hl' i x v e1 (w i v e2) e3⟩,I.cell,I.free,I.freeC,I.pin,I.hok,hl.trans I.len⟩
theorem af.pins_of {pins':List (Addr×Obj)} (I:af X pins σ H s) (h:∀p∈pins',s.heap.get? p.1=some p.2∧H p.1=none∧p.1≠X.env.locals∧p.1∉X.fs∧∀v,p.2.data≠.cell v):af X pins' σ H s:=
 ⟨I.ok,I.os,I.bare,I.base,I.loc,I.cell,I.free,I.freeC,fun p hp=>(List.mem_append.mp hp).elim (fun z=>I.pin p (List.mem_append_left _ z)) (h p),I.hok,I.len⟩
theorem rL {N:List Str} (hN:N.Nodup) {i j:Nat}{x:Str} (a:N[i]?=some x) (b:N[j]?=some x):i=j:=by
 obtain ⟨h1,e1⟩:=List.getElem?_eq_some_iff.mp a
 obtain ⟨h2,e2⟩:=List.getElem?_eq_some_iff.mp b
 exact (List.getElem_inj hN).mp (e1.trans e2.symm)
theorem ph {M:Model}{A:Around}{E:Value→Shared→Prop}{i:Nat}{x:Str}{v:V}{u:Value}{Q:Unit→Shared→Prop} (I:af X pins σ H s) (hN:X.N.Nodup) (hi:X.N[i]?=some x) (hx:Bg X.env.scope x) (r:aX v u)
 (h:∀s',af X pins (σ.set i (some v)) H s'→(∃a,Heap.SameBut a s.heap s'.heap∧(a=X.env.locals∨X.env.cells.lookup x=some a))→Q () s') (hf:X.fn x=true∨X.env.scope.names.lookup x=some .local:=by first | exact .inl rfl | exact .inr rfl | assumption):wpAny M A (storeName X.env x u) Q E s:=by
 obtain ⟨m,hn,hl⟩:=id I.loc
 have hcls:(X.env.scope.kind==.class || (X.env.scope.kind==.module && X.env.locals != X.env.globals))=false:=by rw [I.ok.kind];rfl
 have hiσ:i<σ.length:=by rw [I.len];exact (List.getElem?_eq_some_iff.mp hi).1
 have cne:=I.cne
 have tracked:∀{a:Addr}{h':Heap},(∃o,s.heap.get? a=some o∧H a=none)→Heap.SameBut a s.heap h'→dz X.prog X.w H h':=fun {a h'} ha hs b ob e=>by
  obtain ⟨_,_,hfree⟩:=ha
  refine (I.hok b ob e).stay (fun c w' hc q=>(hs.2 c ?_).trans q) (fun _ q=>q) fun _ _ q=>q
  rintro rfl
  rcases hc with rfl | hc
  ·rw [hfree] at e;cases e
  ·rw [hfree] at hc;cases hc
 rcases hx with hk | hk
 ·refine wpAny_storeName_local hk hn (fun h' hn' hs=>?_) hcls
  obtain ⟨oL,_,_,hoL,_⟩:=id hn
  refine h _ ⟨I.ok,I.os,I.bare,⟨fun b o e n hb hx=>?_,fun b o e n hb hx=>?_,I.base.free,fun b o e hx=>?_,I.base.tups,I.base.frzs,I.base.tbls⟩,⟨_,hn',fun j y v' e1 e2 e3=>?_⟩,fun y c e=>?_,I.free,I.freeC,fun p hp=>?_,tracked ⟨oL,hoL,I.free⟩ hs,by simpa using I.len⟩ ⟨_,hs,.inl rfl⟩
  ·exact (hs.2 b (Nat.ne_of_lt (Nat.lt_of_lt_of_le (Heap.lt_size e) I.ok.above))).trans (I.base.keep b o e n hb hx)
  ·obtain ⟨sl,e1⟩:=I.base.slot b o e n hb hx
   exact ⟨sl,(hs.2 b (Nat.ne_of_lt (Nat.lt_of_lt_of_le (Heap.lt_size e) I.ok.above))).trans e1⟩
  ·obtain ⟨o',e1⟩:=I.base.there b o e hx
   exact ⟨o',(hs.2 b (Nat.ne_of_lt (Nat.lt_of_lt_of_le (Heap.lt_size e) I.ok.above))).trans e1⟩
  ·by_cases hj:j=i
   ·subst hj
    rw [hi] at e1;cases e1
    rw [List.getElem?_set_self hiσ] at e2
    cases e2
    exact ⟨u,r,.inl ⟨hk,by simp⟩⟩
   ·rw [List.getElem?_set_ne (Ne.symm hj)] at e2
    obtain ⟨u',r',q⟩:=hl j y v' e1 e2 e3
    refine ⟨u',r',?_⟩
    rcases q with ⟨k,e⟩ | ⟨k,c,e,z⟩
    ·refine .inl ⟨k,?_⟩
     have:y≠x:=fun e=>hj (rL hN e1 (e▸hi))
     simp [this,e]
    ·exact .inr ⟨k,c,e,z.sameBut hs (cne y c e)⟩
  ·obtain ⟨w',z⟩:=I.cell y c e
   exact ⟨w',z.sameBut hs (cne y c e)⟩
  ·obtain ⟨e,n,ne,nf,d⟩:=I.pin p hp
   exact ⟨(hs.2 p.1 ne).trans e,n,ne,nf,d⟩
 ·have hfn:X.fn x=true:=by
   rcases hf with z | z
   ·exact z
   ·rw [z] at hk;cases hk
  obtain ⟨c,hc⟩:=I.ok.has x (.inl hk)
  obtain ⟨w',z⟩:=I.cell x c hc
  refine wpAny_storeName_cell I.ok.kind hk hc z (fun h' hc' hs=>?_)
  obtain ⟨oc,hoc,hocd⟩:=id z
  refine h { s with heap:=h' } ⟨I.ok,I.os,I.bare,⟨fun b o e n hb hx=>?_,fun b o e n hb hx=>?_,I.base.free,fun b o e hx=>?_,I.base.tups,I.base.frzs,I.base.tbls⟩,⟨m,hn.sameBut hs (Ne.symm (cne x c hc)),fun j y v' e1 e2 e3=>?_⟩,fun y c' e=>?_,I.free,I.freeC,fun p hp=>?_,tracked ⟨oc,hoc,I.freeC x c hc⟩ hs,by simpa using I.len⟩ ⟨c,hs,.inr hc⟩
  ·exact (hs.2 b (Nat.ne_of_lt (Nat.lt_of_lt_of_le (Heap.lt_size e) (I.ok.cab x c hfn hc)))).trans (I.base.keep b o e n hb hx)
  ·obtain ⟨sl,e1⟩:=I.base.slot b o e n hb hx
   exact ⟨sl,(hs.2 b (Nat.ne_of_lt (Nat.lt_of_lt_of_le (Heap.lt_size e) (I.ok.cab x c hfn hc)))).trans e1⟩
  ·obtain ⟨o',e1⟩:=I.base.there b o e hx
   exact ⟨o',(hs.2 b (Nat.ne_of_lt (Nat.lt_of_lt_of_le (Heap.lt_size e) (I.ok.cab x c hfn hc)))).trans e1⟩
  ·by_cases hj:j=i
   ·subst hj
    rw [hi] at e1;cases e1
    rw [List.getElem?_set_self hiσ] at e2
    cases e2
    exact ⟨u,r,.inr ⟨.inl hk,c,hc,hc'⟩⟩
   ·rw [List.getElem?_set_ne (Ne.symm hj)] at e2
    obtain ⟨u',r',q⟩:=hl j y v' e1 e2 e3
    refine ⟨u',r',?_⟩
    rcases q with q | ⟨k,c',e,z'⟩
    ·exact .inl q
    ·refine .inr ⟨k,c',e,z'.sameBut hs ?_⟩
     rintro rfl
     exact hj (rL hN e1 (I.ok.inj _ _ _ e hc▸hi))
  ·by_cases hcc:c'=c
   ·subst hcc;exact ⟨_,hc'⟩
   ·obtain ⟨w2,z2⟩:=I.cell y c' e
    exact ⟨w2,z2.sameBut hs hcc⟩
  ·obtain ⟨e,n,ne,nf,d⟩:=I.pin p hp
   refine ⟨(hs.2 p.1 ?_).trans e,n,ne,nf,d⟩
   intro q
   rw [q,hoc] at e
   have q':oc=p.2:=Option.some.inj e
   exact d w' (by rw [←q'];exact hocd)
theorem ji {M:Model}{A:Around}{E:Value→Shared→Prop}{i:Nat}{x:Str}{v:V}{u:Value}{Q:Unit→Shared→Prop} (I:af X pins σ H s) (hN:X.N.Nodup) (hi:X.N[i]?=some x) (hx:Bg X.env.scope x) (r:aX v u)
 (h:∀s',af X pins (σ.set i (some v)) H s'→Q () s') (hf:X.fn x=true∨X.env.scope.names.lookup x=some .local:=by first | exact .inl rfl | exact .inr rfl | assumption):wpAny M A (storeName X.env x u) Q E s:=
 ph I hN hi hx r (fun s' I' _=>h s' I') hf
theorem af.call' {s':Shared}{ch:List Addr} (I:af X pins σ H s) (ho:s'.os=s.os) (u:Un (f6 X.stack) ch H H' s.heap s'.heap) (hok:dz X.prog X.w H' s'.heap) (hg:AllBare s'.gens)
 (hch:∀b∈ch,(b∈X.ex∨X.s₀.heap.objs.size≤b)∧b≠X.env.locals∧(∀x c,X.env.cells.lookup x=some c→c≠b)∧∀p∈X.pn++pins,p.1≠b):af X pins σ H' s':=by
 obtain ⟨h',g',d',t',o'⟩:=s'
 have e:o'=s.os:=ho
 subst e
 exact I.call (g':=g') (t':=t') (d':=d') u hok hg hch
end
abbrev XK:=Value→Option Addr→Hp→Prop
abbrev St:=List (Option V)
abbrev VK:=V→Hp→Prop
abbrev TE:=St→Hp→VK→Prop
abbrev TT:=St→Hp→(Bool→Hp→Prop)→Prop
abbrev TA:=St→Hp→(List V→Hp→Prop)→Prop
structure df where
 nx:St→Hp→Prop
 rt:VK
 bk:St→Hp→Prop:=fun _ _=>False
 ct:St→Hp→Prop:=fun _ _=>False
abbrev TS:=df→St→Hp→Prop
inductive EP (X:Cx) (pins:List (Addr×Obj)) (σ:St) (Q:VK) (u:Value) (s':Shared):Prop
 | mk (v:_) (H':_) (h0:af X pins σ H' s') (h1:aX v u) (h2:Q v H')
def TP (X:Cx) (pins:List (Addr×Obj)) (σ:St) (Q:Bool→Hp→Prop) (b:Bool) (s':Shared):Prop:=∃H',af X pins σ H' s'∧Q b H'
inductive AP (X:Cx) (pins:List (Addr×Obj)) (σ:St) (Q:List V→Hp→Prop) (us:List Value) (s':Shared):Prop
 | mk (vs:_) (H':_) (h0:af X pins σ H' s') (h1:aM vs us) (h2:Q vs H')
def SP (X:Cx) (pins:List (Addr×Obj)) (D:df) (f:Flow) (s':Shared):Prop:=
 match f with
 | .next=>∃σ' H',af X pins σ' H' s'∧D.nx σ' H'
 | .brk=>∃σ' H',af X pins σ' H' s'∧D.bk σ' H'
 | .cont=>∃σ' H',af X pins σ' H' s'∧D.ct σ' H'
 | .ret u=>∃v σ' H',af X pins σ' H' s'∧aX v u∧D.rt v H'
def PE (X:Cx) (e:Expr) (t:TE):Prop:=
 ∀(pins:List (Addr×Obj)) (s:Shared) (σ:St) (H:Hp) (Q:VK),af X pins σ H s→t σ H Q→wpAny (model X.prog X.w) X.A (eval e X.env) (EP X pins σ Q) X.xe s
def PT (X:Cx) (e:Expr) (t:TT):Prop:=
 ∀(pins:List (Addr×Obj)) (s:Shared) (σ:St) (H:Hp) (Q:Bool→Hp→Prop),af X pins σ H s→t σ H Q→wpAny (model X.prog X.w) X.A (isTrue e X.env (eval e X.env)) (TP X pins σ Q) X.xe s
def PW (X:Cx) (e:Expr) (t:TT):Prop:=
 ∀(whole:Sem Value) (pins:List (Addr×Obj)) (s:Shared) (σ:St) (H:Hp) (Q:Bool→Hp→Prop),af X pins σ H s→t σ H Q→wpAny (model X.prog X.w) X.A (isTrue e X.env whole) (TP X pins σ Q) X.xe s
theorem PW.pt {X:Cx}{e:Expr}{t:TT} (h:PW X e t):PT X e t:=h _
def PA (X:Cx) (es:List Expr) (t:TA):Prop:=
 ∀(pos:Pos) (pins:List (Addr×Obj)) (s:Shared) (σ:St) (H:Hp) (Q:List V→Hp→Prop),af X pins σ H s→t σ H Q→wpAny (model X.prog X.w) X.A (spliced (backTo pos (starEach es X.env))) (AP X pins σ Q) X.xe s
def PS (X:Cx) (st:Stmt) (t:TS):Prop:=
 ∀(pins:List (Addr×Obj)) (s:Shared) (σ:St) (H:Hp) (D:df),af X pins σ H s→t D σ H→wpAny (model X.prog X.w) X.A (exec st X.env) (SP X pins D) X.xe s
def j7 (X:Cx) (st:List Stmt) (t:TS):Prop:=
 ∀(pins:List (Addr×Obj)) (s:Shared) (σ:St) (H:Hp) (D:df),af X pins σ H s→t D σ H→wpAny (model X.prog X.w) X.A (execs st X.env) (SP X pins D) X.xe s
theorem aW {α:Type}{t:Sem α}{Q Q':α→Shared→Prop}{M:Model}{A:Around}{E:Value→Shared→Prop}{s:Shared} (h:wpAny M A t Q E s) (hQ:∀a s,Q a s→Q' a s):wpAny M A t Q' E s:=wpAny_mono h hQ fun _ _ x=>x
end L2
namespace L2
open PySem PySem.Spec PyProof.Rows
section
variable {X:Cx}
inductive FU (i:Nat) (σ:St) (H:Hp) (Q:VK):Prop
 | mk (v:_) (h0:σ[i]?=some (some v)) (h1:Q v H)
def AJ (i:Nat):TE:=fun σ H Q=>FU i σ H Q
def tC (v:V):TE:=fun _ H Q=>Q v H
theorem yL {i:Nat}{x:Str}{pos:Pos} (hN:X.N[i]?=some x) (hv:zN X.env.scope x) (hd:(x==("__debug__" : Str))=false:=by decide) (hcd:(x==("__classdict__" : Str))=false:=by decide):PE X (.Name x pos) (AJ i):=by
 intro pins s σ H Q I h
 obtain ⟨v,e,h⟩:=h
 obtain ⟨m,hn,hl⟩:=I.loc
 obtain ⟨u,r,l⟩:=hl i x v hN e hv
 have fin:EP X pins σ Q u s:=⟨v,H,I,r,h⟩
 rcases l with ⟨hk,hm⟩ | ⟨hk,c,hc,hcell⟩
 ·exact wpAny_Name (wpAny_loadName_local I.ok.kind hk hn hm fin) hd
 ·rcases hk with hk | hk
  ·exact wpAny_Name (wpAny_loadName_cell I.ok.kind hk hc hcell fin) hd
  ·exact wpAny_Name (wpAny_loadName_free I.ok.kind hk hc hcell fin hcd) hd
theorem ad {i j pos}:PE X (.Constant (.int i) j pos) (tC (.int i)):=fun _ _ _ H _ I h=>wpAny_Constant_int ⟨.int i,H,I.tok _,⟨_,rfl⟩,h⟩
theorem jy {b j pos}:PE X (.Constant (.bool b) j pos) (tC (.bl b)):=fun _ _ _ H _ I h=>Constant_bool ⟨.bl b,H,I,rfl,h⟩
theorem db {j pos}:PE X (.Constant .none j pos) (tC .non):=fun _ _ _ H _ I h=>Constant_none ⟨.non,H,I,rfl,h⟩
theorem dP {x j pos}:PE X (.Constant (.str x) j pos) (tC (.str x)):=fun _ _ _ H _ I h=>Calls.Constant_str ⟨.str x,H,I.tok _,⟨_,rfl⟩,h⟩
def Gl (X:Cx) (x:Str):Prop:=X.env.kindOf x=some .globalImplicit
theorem ku {E:Value→Shared→Prop}{pins:List (Addr×Obj)}{s:Shared}{σ:St}{H:Hp}{x:Str}{u:Value}{pos:Pos}{Q:Value→Shared→Prop} (I:af X pins σ H s) (hg:Gl X x) (hm:X.mg x=some u) (h:Q u s)
 (hd:(x==("__debug__" : Str))=false:=by decide):wpAny (model X.prog X.w) X.A (eval (.Name x pos) X.env) Q E s:=
 Calls.Name_function_global I.ok.kind hg (Calls.loadGlobal_global (by rw [I.ok.glob];exact I.mod.glob.keeps I.bk) hm h) hd
theorem f8 {E:Value→Shared→Prop}{pins:List (Addr×Obj)}{s:Shared}{σ:St}{H:Hp}{x:Str}{u:Value}{pos:Pos}{Q:Value→Shared→Prop} (I:af X pins σ H s) (hg:Gl X x) (hm:X.mg x=none) (hv:bootBuiltins x=some u) (h:Q u s)
 (hn:x≠"__name__" := by decide) (hd:(x==("__debug__" : Str))=false:=by decide):wpAny (model X.prog X.w) X.A (eval (.Name x pos) X.env) Q E s:=by
 obtain ⟨mb,h1,h2⟩:=I.mod.blt
 exact Calls.Name_function_global I.ok.kind hg (Calls.loadGlobal_builtin (by rw [I.ok.glob];exact I.mod.glob.keeps I.bk) hm (by rw [I.ok.blt];exact h1.keeps I.bk) ((h2 x hn).trans hv) h) hd
theorem Cg {x:Str}{v:V}{u:Value}{pos:Pos} (hg:Gl X x) (hm:X.mg x=none) (hv:bootBuiltins x=some u) (r:aX v u) (hn:x≠"__name__" := by decide) (hd:(x==("__debug__" : Str))=false:=by decide):PE X (.Name x pos) (tC v):=
 fun _ _ _ H _ I h=>f8 I hg hm hv ⟨v,H,I,r,h⟩ hn hd
variable {a b:Expr}{ta tb:TE}{pos:Pos}
inductive wo (x:V) (P:Bool→Prop):Prop
 | mk (c:Bool) (e:x=.bl c) (h:P c)
inductive Ev (x:V) (P:Int→Prop):Prop
 | mk (c:Int) (e:x=.int c) (h:P c)
def tB (t:TE):TT:=fun σ H Q=>t σ H fun x H1=>wo x fun c=>Q c H1
theorem dn {e:Expr}{t:TE} (h:PE X e t) (he:∀whole,isTrue e X.env whole=(do let v ←whole;standAt e.pos;holding [v] (truthy v)):=by intro _;rfl):PT X e (tB t):=by
 intro pins s σ H Q I hw
 refine isTrue_plain (aW (h pins s σ H _ I hw) fun v s1 ⟨x,H1,I1,r1,q1⟩=>?_) (he _)
 obtain ⟨d,rfl,q⟩:=q1
 cases r1
 exact wpAny_truthy_bool ⟨H1,I1,q⟩
variable {tA tB':TT}{rest:List Expr}
def GG (t u:TT):TT:=fun σ H Q=>t σ H fun c H1=>if c=true then u σ H1 Q else Q false H1
def Hr (t u:TT):TT:=fun σ H Q=>t σ H fun c H1=>if c=true then Q true H1 else u σ H1 Q
def GQ (t:TT):TT:=fun σ H Q=>t σ H fun c H1=>Q (!c) H1
theorem xb (ha:PT X a tA):PW X (.BoolOp .And [a] pos) tA:=by
 intro wh pins s σ H Q I h
 refine isTrue_and (aW (ha pins s σ H Q I h) fun c s1 e=>?_)
 cases c with
 | true=>exact isTrue_and_nil e
 | false=>exact e
theorem iF (ha:PT X a tA):PW X (.BoolOp .Or [a] pos) tA:=by
 intro wh pins s σ H Q I h
 refine isTrue_or (aW (ha pins s σ H Q I h) fun c s1 e=>?_)
 cases c with
 | false=>exact isTrue_or_nil e
 | true=>exact e
theorem yC (ha:PT X a tA) (hb:PW X (.BoolOp .And (b :: rest) pos) tB'):PW X (.BoolOp .And (a :: b :: rest) pos) (GG tA tB'):=by
 intro wh pins s σ H Q I h
 refine isTrue_and (aW (ha pins s σ H _ I h) fun c s1 ⟨H1,I1,q1⟩=>?_)
 cases c with
 | true=>exact hb wh pins s1 σ H1 Q I1 q1
 | false=>exact ⟨H1,I1,q1⟩
theorem iB (ha:PT X a tA) (hb:PW X (.BoolOp .Or (b :: rest) pos) tB'):PW X (.BoolOp .Or (a :: b :: rest) pos) (Hr tA tB'):=by
 intro wh pins s σ H Q I h
 refine isTrue_or (aW (ha pins s σ H _ I h) fun c s1 ⟨H1,I1,q1⟩=>?_)
 cases c with
 | true=>exact ⟨H1,I1,q1⟩
 | false=>exact hb wh pins s1 σ H1 Q I1 q1
theorem mQ (ha:PT X a tA):PT X (.UnaryOp .Not a pos) (GQ tA):=by
 intro pins s σ H Q I h
 exact isTrue_not (ha pins s σ H (fun c H1=>Q (!c) H1) I h)
def Fo (ta tb:TE):TE:=fun σ H Q=>ta σ H fun x H1=>wo x fun c=>if c=true then tb σ H1 Q else Q (.bl false) H1
def GC (ta tb:TE):TE:=fun σ H Q=>ta σ H fun x H1=>wo x fun c=>if c=true then Q (.bl true) H1 else tb σ H1 Q
def FT (ta:TE):TE:=fun σ H Q=>ta σ H fun x H1=>wo x fun c=>Q (.bl (!c)) H1
theorem k4 {op}{t:TE} (h:PE X a t):PE X (.BoolOp op [a] pos) t:=fun pins s σ H Q I hw=>BoolOp_one (h pins s σ H Q I hw)
theorem kW (ha:PE X a ta) (hb:PE X (.BoolOp .And (b :: rest) pos) tb):PE X (.BoolOp .And (a :: b :: rest) pos) (Fo ta tb):=by
 intro pins s σ H Q I h
 refine BoolOp_and (aW (ha pins s σ H _ I h) fun v s1 ⟨x,H1,I1,r1,q1⟩=>?_)
 obtain ⟨c,rfl,q1⟩:=q1
 cases r1
 refine wpAny_truthy_bool ?_
 cases c with
 | true=>exact hb pins s1 σ H1 Q I1 q1
 | false=>exact ⟨.bl false,H1,I1,rfl,q1⟩
theorem E8 (ha:PE X a ta) (hb:PE X (.BoolOp .Or (b :: rest) pos) tb):PE X (.BoolOp .Or (a :: b :: rest) pos) (GC ta tb):=by
 intro pins s σ H Q I h
 refine BoolOp_or (aW (ha pins s σ H _ I h) fun v s1 ⟨x,H1,I1,r1,q1⟩=>?_)
 obtain ⟨c,rfl,q1⟩:=q1
 cases r1
 refine wpAny_truthy_bool ?_
 cases c with
 | false=>exact hb pins s1 σ H1 Q I1 q1
 | true=>exact ⟨.bl true,H1,I1,rfl,q1⟩
theorem DU (ha:PE X a ta):PE X (.UnaryOp .Not a pos) (FT ta):=by
 intro pins s σ H Q I h
 refine UnaryOp_ (aW (ha pins s σ H _ I h) fun v s1 ⟨x,H1,I1,r1,q1⟩=>?_)
 obtain ⟨c,rfl,q1⟩:=q1
 cases r1
 exact not_of (wpAny_truthy_bool ⟨.bl (!c),H1,I1,rfl,q1⟩)
def HF (t:TT) (ta tb:TE):TE:=fun σ H Q=>t σ H fun c H1=>if c=true then ta σ H1 Q else tb σ H1 Q
theorem dR {c:Expr} (hc:PT X c tA) (ha:PE X a ta) (hb:PE X b tb):PE X (.IfExp c a b pos) (HF tA ta tb):=by
 intro pins s σ H Q I h
 refine wpAny_IfExp (aW (hc pins s σ H _ I h) fun d s1 ⟨H1,I1,q1⟩=>?_)
 cases d with
 | true=>exact ha pins s1 σ H1 Q I1 q1
 | false=>exact hb pins s1 σ H1 Q I1 q1
end
end L2
namespace L2
open PySem PySem.Spec PyProof.Rows
def ax (K:PySem.W.Frag) (H:Hp) (a:Addr) (xs:List V):Prop:=
 Rd H a (.lst xs)∨
  fJ fun (o:Obj) (its:Array Value) (n:Nat)=>K.lookup a=some o∧o.cls=.type "list"∧o.dict=none∧o.data=.seq its n∧its.size≤sizeLine∧aM xs its.toList
def ap (K:PySem.W.Frag) (H:Hp) (a:Addr) (xs:List V):Prop:=
 Rd H a (.tup xs)∨
  fJ fun (o:Obj) (its:Array Value) (n:Nat)=>K.lookup a=some o∧o.cls=.type "tuple"∧o.data=.seq its n∧its.size≤sizeLine∧aM xs its.toList
def Hh:Value→Option V
 | .none=>some .non
 | .bool b=>some (.bl b)
 | .int i _=>some (.int i)
 | .str x _=>some (.str x)
 | .bytes b _=>some (.byt b)
 | .float b _=>some (.flt b)
 | .ref a=>some (.ref a)
 | .type n=>some (.ty n)
 | _=>none
theorem aX.abs {x:V}{u:Value} (r:aX x u):Hh u=some x:=by
 cases x with
 | non=>cases r;rfl
 | bl _=>cases r;rfl
 | int _=>obtain ⟨t,rfl⟩:=r;rfl
 | str _=>obtain ⟨t,rfl⟩:=r;rfl
 | byt _=>obtain ⟨t,rfl⟩:=r;rfl
 | flt _=>obtain ⟨t,rfl⟩:=r;rfl
 | ref _=>cases r;rfl
 | ty _=>cases r;rfl
theorem aX.inj {x y:V}{u:Value} (r:aX x u) (q:aX y u):x=y:=Option.some.inj (r.abs.symm.trans q.abs)
theorem aM.inj:∀{xs ys:List V}{us:List Value},aM xs us→aM ys us→xs=ys
 | _,_,_,.nil,.nil=>rfl
 | _,_,_,.cons r t,.cons r' t'=>by rw [r.inj r',aM.inj t t']
section
variable {X:Cx}{pins:List (Addr×Obj)}{σ:St}{H:Hp}{s:Shared}{a:Addr}{xs ys:List V}
theorem ax.of {K:PySem.W.Frag} (h:H a=some (.lst xs)):ax K H a xs:=.inl (.inl h)
theorem ap.of {K:PySem.W.Frag} (h:H a=some (.tup xs)):ap K H a xs:=.inl (.inl h)
theorem af.list (I:af X pins σ H s) (h:ax X.K H a xs):∃its:List Value,aM xs its∧PlainL s.heap a its.toArray∧xs.length≤sizeLine:=by
 rcases h with h | ⟨o,its,n,hk,hc,hd,hs,hz,r⟩
 ·obtain ⟨z,its,n,r,e⟩:=h.ok I.hok
  exact ⟨its,r,⟨_,n,e,rfl,rfl,rfl⟩,z⟩
 ·refine ⟨its.toList,r,⟨o,n,I.kIn a o hk,hc,hd,by simpa using hs⟩,?_⟩
  have e:=r.length
  simp only [Array.length_toList] at e
  trivial
theorem af.tuple (I:af X pins σ H s) (h:ap X.K H a xs):∃its:List Value,aM xs its∧IsTup s.heap a its.toArray∧xs.length≤sizeLine:=by
 rcases h with h | ⟨o,its,n,hk,hc,hs,hz,r⟩
 ·obtain ⟨z,its,r,p,_⟩:=h.ok I.hok
  exact ⟨its,r,p,z⟩
 ·refine ⟨its.toList,r,⟨o,I.kIn a o hk,hc,n,by simpa using hs⟩,?_⟩
  have e:=r.length
  simp only [Array.length_toList] at e
  trivial
theorem af.list_inj (I:af X pins σ H s) (h:ax X.K H a xs) (h':ax X.K H a ys):xs=ys:=by
 obtain ⟨its,r,⟨o,n,e,_,_,d⟩,_⟩:=I.list h
 obtain ⟨its',r',⟨o',n',e',_,_,d'⟩,_⟩:=I.list h'
 rw [e] at e';cases e'
 rw [d] at d'
 injection d' with d1 _
 have:its=its':=by simpa using congrArg Array.toList d1
 subst this
 exact r.inj r'
theorem af.tuple_inj (I:af X pins σ H s) (h:ap X.K H a xs) (h':ap X.K H a ys):xs=ys:=by
 obtain ⟨its,r,⟨o,e,_,n,d⟩,_⟩:=I.tuple h
 obtain ⟨its',r',⟨o',e',_,n',d'⟩,_⟩:=I.tuple h'
 rw [e] at e';cases e'
 rw [d] at d'
 injection d' with d1 _
 have:its=its':=by simpa using congrArg Array.toList d1
 subst this
 exact r.inj r'
end
abbrev Cx.wish (X:Cx) (E:Value→Shared→Prop):Cx:={ X with xe:=E }
abbrev Cx.nox (X:Cx):Cx:=X.wish fun _ _=>False
theorem Cx.Ok.wish {X:Cx} (ok:X.Ok) (E:Value→Shared→Prop):(X.wish E).Ok:=
 ⟨ok.mod,ok.kind,ok.glob,ok.blt,ok.above,ok.inj,ok.has,ok.cab,ok.hd,ok.frames,ok.stk,ok.exf,ok.bs,ok.bsz,ok.noex,ok.exfs,ok.funs,ok.frf⟩
theorem Cx.Ok.unwish {X:Cx}{E:Value→Shared→Prop} (ok:(X.wish E).Ok):X.Ok:=
 ⟨ok.mod,ok.kind,ok.glob,ok.blt,ok.above,ok.inj,ok.has,ok.cab,ok.hd,ok.frames,ok.stk,ok.exf,ok.bs,ok.bsz,ok.noex,ok.exfs,ok.funs,ok.frf⟩
section
variable {X:Cx}{pins:List (Addr×Obj)}{σ:St}{H:Hp}{s:Shared}{E:Value→Shared→Prop}
theorem af.wish (I:af X pins σ H s) (E:Value→Shared→Prop):af (X.wish E) pins σ H s:=⟨I.ok.wish E,I.os,I.bare,I.base,I.loc,I.cell,I.free,I.freeC,I.pin,I.hok,I.len⟩
theorem af.unwish (I:af (X.wish E) pins σ H s):af X pins σ H s:=⟨I.ok.unwish,I.os,I.bare,I.base,I.loc,I.cell,I.free,I.freeC,I.pin,I.hok,I.len⟩
theorem SP.unwish {D:df}{f:Flow}{s':Shared} (h:SP (X.wish E) pins D f s'):SP X pins D f s':=by
 cases f with
 | next=>obtain ⟨σ',H',I,q⟩:=h;exact ⟨σ',H',I.unwish,q⟩
 | brk=>obtain ⟨σ',H',I,q⟩:=h;exact ⟨σ',H',I.unwish,q⟩
 | cont=>obtain ⟨σ',H',I,q⟩:=h;exact ⟨σ',H',I.unwish,q⟩
 | ret u=>obtain ⟨v,σ',H',I,r,q⟩:=h;exact ⟨v,σ',H',I.unwish,r,q⟩
theorem j7.nox {st:List Stmt}{t:TS} (h:j7 X.nox st t):j7 X st t:=fun pins s σ H D I hw=>
 wpAny_mono (h pins s σ H D (I.wish _) hw) (fun _ _ q=>q.unwish) fun _ _ z=>False.elim z
end
section
variable {X:Cx}{st:Stmt}{rest:List Stmt}{t u:TS}{e:Expr}{te:TE}{pos:Pos}
def A7:TS:=fun D σ H=>D.nx σ H
def ik (t u:TS):TS:=fun D σ H=>t { D with nx:=u D } σ H
theorem bd:j7 X [] A7:=fun _ _ σ H _ I h=>wpAny_execs_nil ⟨σ,H,I,h⟩
theorem ae (h1:PS X st t) (h2:j7 X rest u):j7 X (st :: rest) (ik t u):=by
 intro pins s σ H D I h
 refine wpAny_execs_cons (aW (h1 pins s σ H { D with nx:=u D } I h) fun f s1 q=>?_)
 cases f with
 | next=>
  obtain ⟨σ',H',I',q⟩:=q
  exact h2 pins s1 σ' H' D I' q
 | ret v=>exact q
 | brk=>exact q
 | cont=>exact q
theorem ah (h1:PS X st t):j7 X [st] t:=by
 intro pins s σ H D I h
 refine wpAny_execs_cons (aW (h1 pins s σ H D I h) fun f s1 q=>?_)
 cases f with
 | next=>exact wpAny_execs_nil q
 | ret v=>exact q
 | brk=>exact q
 | cont=>exact q
def E7:TS:=fun D σ H=>D.ct σ H
theorem BE:PS X (.Pass pos) A7:=fun _ _ σ H _ I h=>wpAny_Pass ⟨σ,H,I,h⟩
theorem wW:PS X (.Continue pos) E7:=fun _ _ σ H _ I h=>wpAny_Continue ⟨σ,H,I,h⟩
theorem af.quiet {pins:List (Addr×Obj)}{σ:St}{H:Hp}{s:Shared} (I:af X pins σ H s):interactive X.env=false:=by simp [interactive,I.ok.kind]
def Fz (te:TE):TS:=fun D σ H=>te σ H fun _ H1=>D.nx σ H1
theorem fM (he:PE X e te) (hs:swapsWith e none pos.line X.env=pure false:=by rfl):PS X (.Expr e pos) (Fz te):=by
 intro pins s σ H D I h
 exact wpAny_Expr_any (aW (he pins s σ H _ I h) fun v s1 ⟨x,H1,I1,r1,q1⟩=>⟨σ,H1,I1,q1⟩) I.quiet hs
def Gy (te:TE):TS:=fun D σ H=>te σ H D.rt
theorem aL (he:PE X e te):PS X (.Return (some e) pos) (Gy te):=by
 intro pins s σ H D I h
 exact wpAny_Return_some (aW (he pins s σ H _ I h) fun v s1 ⟨x,H1,I1,r1,q1⟩=>⟨x,σ,H1,I1,r1,q1⟩)
def He (c:TT) (t u:TS):TS:=fun D σ H=>c σ H fun b H1=>if b=true then t D σ H1 else u D σ H1
theorem bH {c:Expr}{a b:List Stmt}{tc:TT} (hc:PT X c tc) (ha:j7 X a t) (hb:j7 X b u):PS X (.If c a b pos) (He tc t u):=by
 intro pins s σ H D I h
 refine wpAny_If (aW (hc pins s σ H _ I h) fun d s1 ⟨H1,I1,q1⟩=>?_)
 cases d with
 | true=>exact ha pins s1 σ H1 D I1 q1
 | false=>exact hb pins s1 σ H1 D I1 q1
end
abbrev TG:=V→St→Hp→(St→Hp→Prop)→Prop
abbrev qV:=List V→St→Hp→(St→Hp→Prop)→Prop
def PG (X:Cx) (target:Expr) (t:TG):Prop:=
 ∀(pins:List (Addr×Obj)) (s:Shared) (σ:St) (H:Hp) (v:V) (u:Value) (Q:St→Hp→Prop),af X pins σ H s→aX v u→t v σ H Q→
   wpAny (model X.prog X.w) X.A (assign target X.env u) (fun _ s'=>∃σ' H',af X pins σ' H' s'∧Q σ' H') X.xe s
def y4 (X:Cx) (ts:List Expr) (t:qV):Prop:=
 ∀(pins:List (Addr×Obj)) (s:Shared) (σ:St) (H:Hp) (vs:List V) (us:List Value) (Q:St→Hp→Prop),af X pins σ H s→aM vs us→t vs σ H Q→
   wpAny (model X.prog X.w) X.A (assignInOrder ((assignEach ts X.env).map (·.2)) us) (fun _ s'=>∃σ' H',af X pins σ' H' s'∧Q σ' H') X.xe s
abbrev AW:=V→V→V→Hp→(Hp→Prop)→Prop
def AY (X:Cx) (t:AW):Prop:=
 ∀(pins:List (Addr×Obj)) (s:Shared) (σ:St) (H:Hp) (o i v:V) (ov iv u:Value) (Q:Hp→Prop),af X pins σ H s→aX o ov→aX i iv→aX v u→t o i v H Q→
   wpAny (model X.prog X.w) X.A (setItem ov iv u) (fun _ s'=>∃H',af X pins σ H' s'∧Q H') X.xe s
section
variable {X:Cx}{pos:Pos}
def qt (i:Nat):TG:=fun v σ H Q=>Q (σ.set i (some v)) H
theorem au {i:Nat}{x:Str} (hN:X.N.Nodup) (hi:X.N[i]?=some x) (hx:Bg X.env.scope x) (hf:X.fn x=true∨X.env.scope.names.lookup x=some .local:=by first | exact .inl rfl | exact .inr rfl | assumption):PG X (.Name x pos) (qt i):=by
 intro pins s σ H v u Q I r h
 exact wpAny_assign_Name (ji I hN hi hx r (fun s' I'=>⟨_,H,I',h⟩) hf)
def Hf:qV:=fun vs σ H Q=>vs=[]∧Q σ H
inductive ER (t:TG) (u:qV) (vs:List V) (σ:St) (H:Hp) (Q:St→Hp→Prop):Prop
 | mk (v:_) (r:_) (h0:vs=v :: r) (h1:t v σ H fun σ' H'=>u r σ' H' Q)
def Fi (t:TG) (u:qV):qV:=fun vs σ H Q=>ER t u vs σ H Q
theorem cN:y4 X [] Hf:=by
 intro pins s σ H vs us Q I r h
 obtain ⟨e,h⟩:=h
 subst e
 cases r
 exact assignInOrder_nil ⟨σ,H,I,h⟩
theorem aP {e:Expr}{es:List Expr}{t:TG}{u:qV} (h1:PG X e t) (h2:y4 X es u)
 (hs:(assignEach (e :: es) X.env).map (·.2)=assign e X.env :: (assignEach es X.env).map (·.2):=by rfl):y4 X (e :: es) (Fi t u):=by
 intro pins s σ H vs us Q I r h
 obtain ⟨v,vr,e1,h⟩:=h
 subst e1
 cases r with
 | cons r rr=>
  rw [hs]
  refine assignInOrder_cons (aW (h1 pins s σ H _ _ _ I r h) fun _ s1 ⟨σ1,H1,I1,q1⟩=>?_)
  exact h2 pins s1 σ1 H1 _ _ Q I1 rr q1
inductive FO (K:PySem.W.Frag) (n:Nat) (t:qV) (v:V) (σ:St) (H:Hp) (Q:St→Hp→Prop):Prop
 | mk (a:_) (xs:_) (h0:v=.ref a) (h1:ap K H a xs) (h2:xs.length=n) (h3:t xs σ H Q)
def EL (K:PySem.W.Frag) (n:Nat) (t:qV):TG:=fun v σ H Q=>FO K n t v σ H Q
theorem vB {es:List Expr}{k:Nat}{t:qV}{n:Nat} (hc:X.calm=true) (h:y4 X es t)
 (hn:(assignEach es X.env).length=n:=by rfl) (hst:(assignEach es X.env).findIdx? (·.1)=none:=by rfl):PG X (.Tuple es k pos) (EL X.K n t):=by
 intro pins s σ H v u Q I r hw
 obtain ⟨a,xs,e1,hq,hl,hw⟩:=hw
 subst e1
 cases r
 obtain ⟨its,rv,ht,hz⟩:=I.tuple hq
 refine assign_Tuple_tuple (I.ok.hd hc) ht (by simp [hn,←hl,rv.length]) hst fun h' hx=>?_
 have I1:af X pins σ H { s with heap:=h' }:=I.kept (t':=s.toks) fun b o e=>hx b o (Nat.ne_of_lt (Heap.lt_size e)) e
 exact h pins _ σ H xs _ Q I1 (by simpa using rv) hw
def GL (to ti:TE) (t:AW):TG:=fun v σ H Q=>to σ H fun o H1=>ti σ H1 fun i H2=>t o i v H2 fun H3=>Q σ H3
theorem mJ {o i:Expr}{to ti:TE}{t:AW} (ho:PE X o to) (hi:PE X i ti) (hs:AY X t)
 (ha:∀v,assign (.Subscript o i pos) X.env v=(do
  let ov ←holding [v] (eval o X.env)
  let iv ←holding [v,ov] (eval i X.env)
  standAt pos
  holding [v,ov,iv] (setItem ov iv v)
  release [v,ov,iv] []):=by intro _;rfl):PG X (.Subscript o i pos) (GL to ti t):=by
 intro pins s σ H v u Q I r h
 rw [ha]
 refine wpAny_bind (wpAny_holding (aW (ho pins s σ H _ I h) fun ov s1 ⟨x,H1,I1,r1,q1⟩=>?_))
 refine wpAny_bind (wpAny_holding (aW (hi pins s1 σ H1 _ I1 q1) fun iv s2 ⟨y,H2,I2,r2,q2⟩=>?_))
 refine wpAny_bind (wpAny_standAt (wpAny_bind (wpAny_holding (aW (hs pins s2 σ H2 x y v ov iv u _ I2 r1 r2 r q2) fun _ s3 ⟨H3,I3,q3⟩=>?_))))
 exact wpAny_release ⟨σ,H3,I3,q3⟩
def wf (te:TE) (g:TG):TS:=fun D σ H=>te σ H fun x H1=>g x σ H1 D.nx
theorem d9 {tg e:Expr}{te:TE}{g:TG} (he:PE X e te) (hg:PG X tg g) (hs:swapsWithSole [tg] e pos.line X.env=pure false:=by rfl) (hw:swappedStores [tg] e X.env=pure none:=by rfl)
 (h1:(assignEach [tg] X.env).map (·.2)=[assign tg X.env]:=by rfl):PS X (.Assign [tg] e pos) (wf te g):=by
 intro pins s σ H D I h
 refine wpAny_Assign_stores (aW (he pins s σ H _ I h) fun v s1 ⟨x,H1,I1,r1,q1⟩=>?_) hs hw
 rw [h1]
 exact aW (hg pins s1 σ H1 x v _ I1 r1 q1) fun _ s2 q=>q
theorem aE {i:Nat}{x:Str}{e:Expr}{te:TE}{pos':Pos} (hN:X.N.Nodup) (hi:X.N[i]?=some x) (hx:Bg X.env.scope x) (he:PE X e te) (hs:swapsWith e (some (.Name x pos')) pos.line X.env=pure false:=by rfl) (hf:X.fn x=true∨X.env.scope.names.lookup x=some .local:=by first | exact .inl rfl | exact .inr rfl | assumption) :
 PS X (.Assign [.Name x pos'] e pos) (wf te (qt i)):=by
 intro pins s σ H D I h
 refine wpAny_Assign_Name (aW (he pins s σ H _ I h) fun v s1 ⟨y,H1,I1,r1,q1⟩=>?_) hs
 exact ji I1 hN hi hx r1 (fun s2 I2=>⟨_,H1,I2,q1⟩) hf
def C3 (i j:Nat) (ta:TA):TS:=fun D σ H=>ta σ H fun vs H1=>bo fun v w=>vs=[v,w]∧D.nx ((σ.set i (some v)).set j (some w)) H1
theorem mW {i j:Nat}{x y:Str}{a b:Expr}{ta:TA}{px py pt:Pos}{kt k2 pt2} (hc:X.calm=true) (hN:X.N.Nodup) (hi:X.N[i]?=some x) (hj:X.N[j]?=some y) (hij:i≠j)
 (hx:X.env.scope.names.lookup x=some .local) (hy:X.env.scope.names.lookup y=some .local) (ha:PA X [a,b] ta)
 (hw:swappedStores [.Tuple [.Name x px,.Name y py] kt pt] (.Tuple [a,b] k2 pt2) X.env=pure (some [x,y]))
 (hs:swapsWithSole [.Tuple [.Name x px,.Name y py] kt pt] (.Tuple [a,b] k2 pt2) pos.line X.env=pure false:=by rfl) :
 PS X (.Assign [.Tuple [.Name x px,.Name y py] kt pt] (.Tuple [a,b] k2 pt2) pos) (C3 i j ta):=by
 intro pins s σ H D I h
 rw [exec_Assign_arm]
 refine wpAny_bind (wpAny_standAt ?_)
 rw [hs]
 refine wpAny_bind (wpAny_pure ?_)
 rw [if_neg (by decide)]
 refine wpAny_bind (Tuple_ (aW (ha _ pins s σ H _ I h) fun us s1 ⟨vs,H1,I1,r1,q1⟩=>?_))
 obtain ⟨v,w,e1,q1⟩:=q1
 subst e1
 obtain ⟨u1,u2,rfl,rv,rw'⟩:bo fun u1 u2=>us=[u1,u2]∧aX v u1∧aX w u2:=by
  cases r1 with
  | cons p q=>
   cases q with
   | cons p' q'=>
    cases q'
    exact ⟨_,_,rfl,p,p'⟩
 refine wpAny_newObj_type ?_ (by show 2≤sizeLine;decide)
 have I2:af X pins σ H1 { s1 with heap:=s1.heap.push { cls:=.type "tuple",data:=.seq [u1,u2].toArray } }:=I1.kept (t':=s1.toks) fun b o e=>Heap.get?_push_of_some _ e
 rw [hw]
 refine wpAny_bind (wpAny_pure ?_)
 show wpAny (model X.prog X.w) X.A (do rule "assign.swapped-stores";let items ←unpackItems (.ref s1.heap.objs.size) 2 none;assignInOrder [fun v=>bindName X.env y v,fun v=>bindName X.env x v] items.reverse;pure Flow.next) _ _ _
 refine wpAny_bind (wpAny_rule (wpAny_bind (unpackItems_tuple (items:=#[u1,u2]) (I.ok.hd hc) (IsTup.new s1.heap _) fun h' hx'=>?_)))
 have I3:=I2.kept (h':=h') (t':=s1.toks) fun b o e=>hx' b o (Nat.ne_of_lt (Heap.lt_size e)) e
 show wpAny _ _ (assignInOrder [fun v=>bindName X.env y v,fun v=>bindName X.env x v] [u2,u1] >>= fun _=>pure Flow.next) _ _ _
 refine wpAny_bind (assignInOrder_cons (wpAny_bindName (ji I3 hN hj (.inl hy) rw' (fun s2 I4=>?_) (.inr hy))))
 refine assignInOrder_cons (wpAny_bindName (ji I4 hN hi (.inl hx) rv (fun s3 I5=>assignInOrder_nil (wpAny_pure ?_)) (.inr hx)))
 rw [List.set_comm _ _ (Ne.symm hij)] at I5
 exact ⟨_,H1,I5,q1⟩
end
section
variable {X:Cx}{pos:Pos}
def yE (c:TT) (tb:TS):TS:=fun D σ H=>∃W:Nat→St→Hp→Prop,(∃m,W m σ H)∧∀m σ H,W m σ H→
 c σ H fun b H1=>if b=true then ∃N:St→Hp→Prop,(∀σ' H',N σ' H'→∃m',m'<m∧W m' σ' H')∧tb { D with nx:=N,ct:=N,bk:=D.nx } σ H1 else D.nx σ H1
theorem kM {c:Expr}{body:List Stmt}{tc:TT}{tb:TS} (hp:PassesOwn (model X.prog X.w) X.A X.env X.xe) (hc:PT X c tc) (hb:j7 X body tb):PS X (.While c body [] pos) (yE tc tb):=by
 intro pins s σ H D I h
 obtain ⟨W,⟨m0,w0⟩,turn⟩:=h
 refine wpAny_While (codeAny_whileLoop (fun n s'=>∃σ' H',af X pins σ' H' s'∧W n σ' H') ?_ m0 ⟨σ,H,I,w0⟩)
 rintro n s1 ⟨σ1,H1,I1,w1⟩
 refine wpAny_passesOwn hp (aW (hc pins s1 σ1 H1 _ I1 (turn n σ1 H1 w1)) fun b s2 ⟨H2,I2,q2⟩=>?_)
 cases b with
 | true=>
  obtain ⟨N,hN,q2⟩:=q2
  rw [if_pos rfl]
  refine wpAny_passesOwn hp (aW (hb pins s2 σ1 H2 _ I2 q2) fun f s3 q3=>?_)
  cases f with
  | next=>
   obtain ⟨σ3,H3,I3,n3⟩:=q3
   obtain ⟨m',hm,w3⟩:=hN σ3 H3 n3
   exact ⟨m',hm,σ3,H3,I3,w3⟩
  | cont=>
   obtain ⟨σ3,H3,I3,n3⟩:=q3
   obtain ⟨m',hm,w3⟩:=hN σ3 H3 n3
   exact ⟨m',hm,σ3,H3,I3,w3⟩
  | brk=>exact q3
  | ret v=>exact q3
 | false=>
  rw [if_neg Bool.false_ne_true]
  exact wpAny_execs_nil ⟨σ1,H2,I2,q2⟩
end
structure It where
 go:Nat→Hp→Prop
 yld:Nat→Hp→V→Hp→Prop
 stop:Nat→Hp→Prop
def iV (X:Cx) (pins:List (Addr×Obj)) (H:Hp) (b:Addr):Prop:=
 H b=none∧b≠X.env.locals∧b∉X.fs∧(b∈X.ex∨X.s₀.heap.objs.size≤b)∧(∀x c,X.env.cells.lookup x=some c→c≠b)∧∀p∈X.pn++pins,p.1≠b
theorem af.fpOk {X:Cx}{pins:List (Addr×Obj)}{σ:St}{H H':Hp}{s:Shared}{b:Addr} (I:af X pins σ H s) (hb:s.heap.objs.size≤b) (hn:H' b=none):iV X pins H' b:=by
 refine ⟨hn,Nat.ne_of_gt (Nat.lt_of_lt_of_le I.lt hb),I.nofs hb,.inr (Nat.le_trans I.sz hb),fun x c e z=>?_,fun p hp z=>?_⟩
 ·obtain ⟨v,q⟩:=I.cell x c e
  exact absurd (Nat.lt_of_lt_of_le q.lt (by rw [z];exact hb)) (Nat.lt_irrefl _)
 ·exact absurd (Nat.lt_of_lt_of_le (Heap.lt_size (I.pin p hp).1) (by rw [z];exact hb)) (Nat.lt_irrefl _)
structure rz (P:Program) (w:World) (K:PySem.W.Frag) (tg:Expr) (J:It) (fp:List Addr) (it:Addr) (tn:Nat→Heap→Prop):Prop where
 mem:it∈fp
 obj:∀i h,tn i h→∀b∈fp,∃o,h.get? b=some o∧∀v,o.data≠.cell v
 keep:∀i h h',tn i h→(∀b∈fp,∀o,h.get? b=some o→h'.get? b=some o)→tn i h'
 item:∀(X:Cx),X.prog=P→X.w=w→X.K=K→X.calm=true→∀(i:Nat) (pins:List (Addr×Obj)) (s:Shared) (σ:St) (H:Hp) (E:Value→Shared→Prop),af X pins σ H s→(∀b∈fp,iV X pins H b)→tn i s.heap→J.go i H→
  wpAny (model P w) X.A (pyNext (.ref it)) (fun r s1=>∃u,r=some u∧
   wpAny (model P w) X.A (letOwnedTupleGo tg (.ref it) u) (fun _ s2=>bo fun x H'=>af X pins σ H' s2∧aX x u∧J.yld i H x H'∧tn (i+1) s2.heap∧∀b∈fp,H' b=none) E s1) E s
 done:∀(X:Cx),X.prog=P→X.w=w→X.K=K→X.calm=true→∀(i:Nat) (pins:List (Addr×Obj)) (s:Shared) (σ:St) (H:Hp) (E:Value→Shared→Prop),af X pins σ H s→(∀b∈fp,iV X pins H b)→tn i s.heap→J.stop i H→
  wpAny (model P w) X.A (pyNext (.ref it)) (fun r s1=>r=none∧af X pins σ H s1) E s
 self:∀(A:Around) (i:Nat) (s:Shared) (Q:Value→Shared→Prop) (E:Value→Shared→Prop),tn i s.heap→Q (.ref it) s→wpAny (model P w) A (pyIter (.ref it)) Q E s
abbrev TI:=St→Hp→(It→Hp→Prop)→Prop
def Gm (X:Cx) (pins:List (Addr×Obj)) (σ:St) (tg:Expr) (R:It→Hp→Prop) (itv:Value) (s2:Shared):Prop:=
 Bb fun (it:Addr) (fp:List Addr) (tn:Nat→Heap→Prop) (J:It) (H':Hp)=>itv=.ref it∧af X pins σ H' s2∧rz X.prog X.w X.K tg J fp it tn∧tn 0 s2.heap∧(∀b∈fp,iV X pins H' b)∧R J H'
def PI (X:Cx) (tg iter:Expr) (wi:TI):Prop:=
 ∀(pins:List (Addr×Obj)) (s:Shared) (σ:St) (H:Hp) (R:It→Hp→Prop),af X pins σ H s→wi σ H R→
   wpAny (model X.prog X.w) X.A (eval iter X.env) (fun v s1=>wpAny (model X.prog X.w) X.A (pyIter v) (Gm X pins σ tg R) X.xe s1) X.xe s
theorem yl {M:Model}{A:Around}{E:Value→Shared→Prop}{s:Shared}{tg:Expr}{it:Addr}{u:Value}{o:Obj}{n:String}{vs:Array Value}{Q:Unit→Shared→Prop} (ho:s.heap.get? it=some o) (hc:o.cls=.type n) (hd:o.data=.fields vs)
 (hn:["enumerate", "zip", "dict_itemiterator", "dict_reverseitemiterator", "odict_iterator", "itertools.zip_longest", "itertools.pairwise"].contains n=false) (hQ:Q () s):wpAny M A (letOwnedTupleGo tg (.ref it) u) Q E s:=by
 unfold letOwnedTupleGo
 cases tg <;> first
  | exact wpAny_pure hQ
  | (cases u <;> first
   | exact wpAny_pure hQ
   | (refine wpAny_bind (wpAny_load ho ?_)
      rw [hc,hd]
      show wpAny M A (if (["enumerate", "zip", "dict_itemiterator", "dict_reverseitemiterator", "odict_iterator", "itertools.zip_longest", "itertools.pairwise"].contains n && vs[0]?==some (rawInt _))=true then _ else _) Q E s
      rw [if_neg (by intro h;rw [hn,Bool.false_and] at h;cases h)]
      exact wpAny_pure hQ))
def xr (K:PySem.W.Frag) (a:Addr):It:=
 ⟨fun i H=>bo fun xs x=>ax K H a xs∧xs[i]?=some x,fun i H x H'=>H'=H∧∀xs,ax K H a xs→xs[i]?=some x,fun i H=>∃xs,ax K H a xs∧xs.length≤i⟩
def Gs (K:PySem.W.Frag) (a:Addr):It:=
 ⟨fun i H=>bo fun xs x=>ap K H a xs∧xs[i]?=some x,fun i H x H'=>H'=H∧∀xs,ap K H a xs→xs[i]?=some x,fun i H=>∃xs,ap K H a xs∧xs.length≤i⟩
def xD (lo:Int) (n:Nat):It:=⟨fun i _=>i<n,fun i H x H'=>H'=H∧x=.int (lo+i),fun i _=>n≤i⟩
theorem zn {P:Program}{w:World}{K:PySem.W.Frag}{tg:Expr} (a it:Addr):rz P w K tg (xr K a) [it] it (fun i h=>h.IsListIter it a i) where
 mem:=by simp
 obj:=fun i h st b hb=>by
  have e:b=it:=by simpa using hb
  subst e
  obtain ⟨o,e,c,d⟩:=st
  exact ⟨o,e,fun v z=>by rw [d] at z;cases z⟩
 keep:=fun i h h' st k=>st.at fun o e=>k it (by simp) o e
 item:=by
  intro X hP hw hK hc i pins s σ H E I hf st hg
  subst hP hw hK
  obtain ⟨xs,x,hq,hx⟩:=hg
  obtain ⟨its,rv,p,hz⟩:=I.list hq
  obtain ⟨u,hu,ru⟩:=rv.get hx
  obtain ⟨f0,f1,f2,f3,f4,f5⟩:=hf it (by simp)
  refine wpAny_pyNext_list_item st p.isList (x:=u) (by simpa using hu) fun h' st' sb=>?_
  have I1:af X pins σ H { s with heap:=h' }:=I.turned (t':=s.toks) (fun b o hb e=>(sb.2 b hb).trans e) f0 f1 f3 f4 f5
  obtain ⟨o,e,c,d⟩:=id st'
  exact ⟨u,rfl,yl (s:={ s with heap:=h' }) e c d (by decide) ⟨x,H,I1,ru,⟨rfl,fun ys hy=>by rw [I.list_inj hy hq];exact hx⟩,st',fun b hb=>(hf b hb).1⟩⟩
 done:=by
  intro X hP hw hK hc i pins s σ H E I hf st hg
  subst hP hw hK
  obtain ⟨xs,hq,hx⟩:=hg
  obtain ⟨its,rv,p,hz⟩:=I.list hq
  obtain ⟨f0,f1,f2,f3,f4,f5⟩:=hf it (by simp)
  have hl:=rv.length
  exact wpAny_pyNext_list_end (I.ok.hd hc) st p.isList (by simp;trivial) fun h' eb=>⟨rfl,I.turned (t':=s.toks) (fun b o hb e=>eb b o hb e) f0 f1 f3 f4 f5⟩
 self:=fun _ _ _ _ _ st h=>wpAny_pyIter_listiter st h
theorem yc {P:Program}{w:World}{K:PySem.W.Frag}{tg:Expr} (a it:Addr):rz P w K tg (Gs K a) [it] it (fun i h=>h.IsTupleIter it a i) where
 mem:=by simp
 obj:=fun i h st b hb=>by
  have e:b=it:=by simpa using hb
  subst e
  obtain ⟨o,e,c,d⟩:=st
  exact ⟨o,e,fun v z=>by rw [d] at z;cases z⟩
 keep:=fun i h h' st k=>st.at fun o e=>k it (by simp) o e
 item:=by
  intro X hP hw hK hc i pins s σ H E I hf st hg
  subst hP hw hK
  obtain ⟨xs,x,hq,hx⟩:=hg
  obtain ⟨its,rv,p,hz⟩:=I.tuple hq
  obtain ⟨u,hu,ru⟩:=rv.get hx
  obtain ⟨f0,f1,f2,f3,f4,f5⟩:=hf it (by simp)
  refine wpAny_pyNext_tuple_item st (show s.heap.IsTuple a its.toArray from p) (x:=u) (by simpa using hu) fun h' st' sb=>?_
  have I1:af X pins σ H { s with heap:=h' }:=I.turned (t':=s.toks) (fun b o hb e=>(sb.2 b hb).trans e) f0 f1 f3 f4 f5
  obtain ⟨o,e,c,d⟩:=id st'
  exact ⟨u,rfl,yl (s:={ s with heap:=h' }) e c d (by decide) ⟨x,H,I1,ru,⟨rfl,fun ys hy=>by rw [I.tuple_inj hy hq];exact hx⟩,st',fun b hb=>(hf b hb).1⟩⟩
 done:=by
  intro X hP hw hK hc i pins s σ H E I hf st hg
  subst hP hw hK
  obtain ⟨xs,hq,hx⟩:=hg
  obtain ⟨its,rv,p,hz⟩:=I.tuple hq
  obtain ⟨f0,f1,f2,f3,f4,f5⟩:=hf it (by simp)
  have hl:=rv.length
  exact wpAny_pyNext_tuple_end (I.ok.hd hc) st (show s.heap.IsTuple a its.toArray from p) (by simp;trivial) fun h' eb=>⟨rfl,I.turned (t':=s.toks) (fun b o hb e=>eb b o hb e) f0 f1 f3 f4 f5⟩
 self:=fun _ _ _ _ _ st h=>wpAny_pyIter_tupleiter st h
theorem x3 {P:Program}{w:World}{K:PySem.W.Frag}{tg:Expr} (it:Addr) (lo:Int) (n:Nat):rz P w K tg (xD lo n) [it] it (fun i h=>IsRangeIter h it (lo+(i:Nat)*1) ((n:Int) - (i:Nat)) 1) where
 mem:=by simp
 obj:=fun i h st b hb=>by
  have e:b=it:=by simpa using hb
  subst e
  exact ⟨_,st,fun v z=>by
   have z':Data.fields _=Data.cell v:=z
   cases z'⟩
 keep:=fun i h h' st k=>k it (by simp) _ st
 item:=by
  intro X hP hw hK hc i pins s σ H E I hf st hg
  subst hP hw hK
  obtain ⟨f0,f1,f2,f3,f4,f5⟩:=hf it (by simp)
  have W:=Walks.range (prog:=X.prog) (w:=X.w) (I.ok.hd hc) it lo 1 n
  refine W.item i s _ _ hg st fun v h' tk hv st' kk=>?_
  obtain ⟨t,rfl⟩:=hv
  have I1:af X pins σ H { s with heap:=h',toks:=tk }:=I.turned (fun b o hb e=>kk b o (by simpa using hb) e) f0 f1 f3 f4 f5
  refine ⟨_,rfl,yl (s:={ s with heap:=h',toks:=tk }) (n := "range_iterator") st' rfl rfl (by decide) ⟨.int (lo+i),H,I1,⟨t,?_⟩,⟨rfl,rfl⟩,st',fun b hb=>(hf b hb).1⟩⟩
  rw [Int.mul_one]
 done:=by
  intro X hP hw hK hc i pins s σ H E I hf st hg
  subst hP hw hK
  obtain ⟨f0,f1,f2,f3,f4,f5⟩:=hf it (by simp)
  exact wpAny_pyNext_range_end (I.ok.hd hc) st (by have:n≤i:=hg;trivial) fun h' eb=>⟨rfl,I.turned (t':=s.toks) (fun b o hb e=>eb b o hb e) f0 f1 f3 f4 f5⟩
 self:=fun _ _ _ _ _ st h=>wpAny_pyIter_rangeiter st h
end L2
namespace L2
open PySem PySem.Spec PyProof.Rows
section
variable {X:Cx}{tg:Expr}
def Bj (K:PySem.W.Frag) (tl:TE):TI:=fun σ H R=>tl σ H fun x H1=>∃a,x=.ref a∧(∃xs,ax K H1 a xs)∧R (xr K a) H1
def C9 (K:PySem.W.Frag) (tl:TE):TI:=fun σ H R=>tl σ H fun x H1=>∃a,x=.ref a∧(∃xs,ap K H1 a xs)∧R (Gs K a) H1
theorem CG {l:Expr}{tl:TE} (hl:PE X l tl):PI X tg l (Bj X.K tl):=by
 intro pins s σ H R I h
 refine aW (hl pins s σ H _ I h) fun v s1 ⟨x,H1,I1,r1,q1⟩=>?_
 obtain ⟨a,e,⟨xs,hq⟩,q⟩:=q1
 subst e
 cases r1
 obtain ⟨its,rv,p,hz⟩:=I1.list hq
 refine wpAny_pyIter_list p.isList ?_
 refine ⟨s1.heap.objs.size,[s1.heap.objs.size],_,_,H1,rfl,I1.kept (t':=s1.toks) fun b o e=>Heap.get?_push_of_some _ e,zn a _,⟨_,Heap.get?_push_size _ rfl,rfl,rfl⟩,fun b hb=>?_,q⟩
 have e:b=s1.heap.objs.size:=by simpa using hb
 subst e
 exact I1.fpOk (Nat.le_refl _) (I1.hok.fresh (Nat.le_refl _))
theorem Ez {l:Expr}{tl:TE} (hl:PE X l tl):PI X tg l (C9 X.K tl):=by
 intro pins s σ H R I h
 refine aW (hl pins s σ H _ I h) fun v s1 ⟨x,H1,I1,r1,q1⟩=>?_
 obtain ⟨a,e,⟨xs,hq⟩,q⟩:=q1
 subst e
 cases r1
 obtain ⟨its,rv,p,hz⟩:=I1.tuple hq
 refine wpAny_pyIter_tuple (show s1.heap.IsTuple a its.toArray from p) ?_
 refine ⟨s1.heap.objs.size,[s1.heap.objs.size],_,_,H1,rfl,I1.kept (t':=s1.toks) fun b o e=>Heap.get?_push_of_some _ e,yc a _,⟨_,Heap.get?_push_size _ rfl,rfl,rfl⟩,fun b hb=>?_,q⟩
 have e:b=s1.heap.objs.size:=by simpa using hb
 subst e
 exact I1.fpOk (Nat.le_refl _) (I1.hok.fresh (Nat.le_refl _))
theorem A0 {pins:List (Addr×Obj)}{σ:St}{H:Hp}{s:Shared}{R:It→Hp→Prop}{E:Value→Shared→Prop}{lo hi:Int}{t u v:Tok}{tk:Nat} (I:af X pins σ H s) (h1:-(2 ^ 62)≤lo) (h2:lo<2 ^ 62) (h3:-(2 ^ 62)≤hi) (h4:hi<2 ^ 62)
 (q:R (xD lo (hi - lo).toNat) H):wpAny (model X.prog X.w) X.A (pyIter (.ref s.heap.objs.size)) (Gm X pins σ tg R) E { s with heap:=s.heap.push { cls:=.type "range",data:=.fields #[.int lo t,.int hi u,.int 1 v] },toks:=tk }:=by
 refine wpAny_pyIter_range (IsRange.new ..) (small_one h1 h2 h3 h4) ?_
 have I1:af X pins σ H { s with heap:=s.heap.push { cls:=.type "range",data:=.fields #[.int lo t,.int hi u,.int 1 v] },toks:=tk }:=I.kept fun b o e=>Heap.get?_push_of_some _ e
 refine ⟨(s.heap.push { cls:=.type "range",data:=.fields #[.int lo t,.int hi u,.int 1 v] }).objs.size,[(s.heap.push { cls:=.type "range",data:=.fields #[.int lo t,.int hi u,.int 1 v] }).objs.size],_,_,H,rfl,
  I1.kept (t':=tk) fun b o e=>Heap.get?_push_of_some _ e,x3 _ lo (hi - lo).toNat,?_,fun b hb=>?_,q⟩
 ·have e1:lo+((0:Nat):Int)*1=lo:=by simp
  have e2:(((hi - lo).toNat:Nat):Int) - ((0:Nat):Int)=Builtin.Range.rangeSize lo hi 1:=by rw [rangeSize_one];split <;> trivial
  show IsRangeIter _ _ (lo+((0:Nat):Int)*1) ((((hi - lo).toNat:Nat):Int) - ((0:Nat):Int)) 1
  rw [e1,e2]
  exact Heap.get?_push_size _ rfl
 ·have e:b=(s.heap.push { cls:=.type "range",data:=.fields #[.int lo t,.int hi u,.int 1 v] }).objs.size:=by simpa using hb
  subst e
  exact I1.fpOk (Nat.le_refl _) (I1.hok.fresh (Nat.le_refl _))
def Ge (ta:TA):TI:=fun σ H R=>ta σ H fun vs H1=>∃j:Int,vs=[.int j]∧-(2 ^ 62)≤j∧j<2 ^ 62∧R (xD 0 j.toNat) H1
theorem dI {a:Expr}{ta:TA}{p pos:Pos} (hg:Gl X "range") (hm:X.mg "range" = none) (ha:PA X [a] ta) (hs:starEach [a] X.env=[(false,eval a X.env)]:=by rfl):PI X tg (.Call (.Name "range" p) [a] [] pos) (Ge ta):=by
 intro pins s σ H R I h
 refine Call_ (f8 I hg hm boot_range (PyProof.Rows.callWith_type1 (aW (ha pos pins s σ H _ I h) fun us s1 ⟨vs,H1,I1,r1,q1⟩=>?_) hs rfl))
 obtain ⟨j,e,q1,q2,q⟩:=q1
 subst e
 cases r1 with
 | cons r rr=>
  cases rr
  obtain ⟨t,rfl⟩:=r
  exact call_range_1 (A0 I1 (by trivial) (by trivial) q1 q2 (by simpa using q))
def GS (wi:TI) (g:TG) (tb:TS):TS:=fun D σ H=>wi σ H fun J H1=>∃W:Nat→Nat→St→Hp→Prop,(∃m,W 0 m σ H1)∧∀i m σ H,W i m σ H→
 (J.stop i H∧D.nx σ H)∨(J.go i H∧∃N:St→Hp→Prop,(∀σ' H',N σ' H'→∃m',m'<m∧W (i+1) m' σ' H')∧∀x H',J.yld i H x H'→g x σ H' fun σ2 H2=>tb { D with nx:=N,ct:=N,bk:=D.nx } σ2 H2)
def mO (fp:List Addr) (h:Heap):List (Addr×Obj):=fp.filterMap fun b=>(h.get? b).map fun o=>(b,o)
theorem gI {fp:List Addr}{h:Heap}{b:Addr}{o:Obj} (hb:b∈fp) (e:h.get? b=some o):(b,o)∈mO fp h:=List.mem_filterMap.mpr ⟨b,hb,by rw [e];rfl⟩
theorem yW {fp:List Addr}{h:Heap}{p:Addr×Obj} (hp:p∈mO fp h):p.1∈fp∧h.get? p.1=some p.2:=by
 obtain ⟨b,hb,e⟩:=List.mem_filterMap.mp hp
 cases q:h.get? b with
 | none=>rw [q] at e;cases e
 | some o=>
  rw [q] at e
  have e':(b,o)=p:=Option.some.inj e
  subst e'
  exact ⟨hb,q⟩
theorem af.pinned {pins:List (Addr×Obj)}{σ:St}{H:Hp}{s:Shared}{fp:List Addr} (I:af X pins σ H s) (hf:∀b∈fp,iV X pins H b) (ho:∀b∈fp,∃o,s.heap.get? b=some o∧∀v,o.data≠.cell v):af X (pins++mO fp s.heap) σ H s:=
 I.pins_of fun p hp=>(List.mem_append.mp hp).elim (fun z=>I.pin p (List.mem_append_right _ z)) fun z=>by
  obtain ⟨hb,e⟩:=yW z
  obtain ⟨f0,f1,f2,_⟩:=hf p.1 hb
  obtain ⟨o,e',d⟩:=ho p.1 hb
  rw [e] at e';cases e'
  exact ⟨e,f0,f1,f2,d⟩
theorem af.unpinned {pins pl:List (Addr×Obj)}{σ:St}{H:Hp}{s:Shared} (I:af X (pins++pl) σ H s):af X pins σ H s:=I.pins_of fun p hp=>I.pin p (List.mem_append_right _ (List.mem_append_left _ hp))
theorem e8 {iter:Expr}{body:List Stmt}{wi:TI}{g:TG}{tb:TS}{pos:Pos} (hp:PassesOwn (model X.prog X.w) X.A X.env X.xe) (hc:X.calm=true) (hi:PI X tg iter wi) (hg:PG X tg g) (hb:j7 X body tb)
 (hs:∀x,foldedSetIterable iter X.env x=pure x:=by intro _;rfl):PS X (.For tg iter body [] pos) (GS wi g tb):=by
 intro pins s σ H D I h
 refine wpAny_For (aW (hi pins s σ H _ I h) fun v s1 h1=>aW h1 fun itv s2 h2=>?_) hs
 obtain ⟨it,fp,tn,J,H2,e,I2,T,st2,f2,W,⟨m0,w0⟩,turn⟩:=h2
 subst e
 have stat:∀{H':Hp},(∀b∈fp,H' b=none)→∀b∈fp,iV X pins H' b:=fun hn b hb=>⟨hn b hb,(f2 b hb).2⟩
 refine codeAny_forLoop_any (fun n s'=>∃i σ' H',af X pins σ' H' s'∧tn i s'.heap∧(∀b∈fp,H' b=none)∧W i n σ' H') ?_ m0 ⟨0,σ,H2,I2,st2,fun b hb=>(f2 b hb).1,w0⟩
 rintro n s3 ⟨i,σ3,H3,I3,st3,fr3,w3⟩
 rcases turn i n σ3 H3 w3 with ⟨stop,qn⟩ | ⟨go,N,hN,step⟩
 ·refine wpAny_passesOwn hp (aW (T.done X rfl rfl rfl hc i pins s3 σ3 H3 X.xe I3 (stat fr3) st3 stop) fun r s4 ⟨hr,I4⟩=>?_)
  subst hr
  exact wpAny_execs_nil ⟨σ3,H3,I4,qn⟩
 ·refine wpAny_passesOwn hp (aW (T.item X rfl rfl rfl hc i pins s3 σ3 H3 X.xe I3 (stat fr3) st3 go) fun r s4 ⟨u,hr,h4⟩=>?_)
  subst hr
  refine wpAny_passesOwn hp (aW h4 fun _ s5 ⟨x,H5,I5,r5,y5,st5,fr5⟩=>?_)
  have I5':=I5.pinned (stat fr5) (T.obj _ _ st5)
  refine wpAny_passesOwn hp (aW (hg _ s5 σ3 H5 x u _ I5' r5 (step x H5 y5)) fun _ s6 ⟨σ6,H6,I6,q6⟩=>?_)
  refine wpAny_passesOwn hp (aW (hb _ s6 σ6 H6 _ I6 q6) fun f s7 q7=>?_)
  have again:∀{σ7:St}{H7:Hp},af X (pins++mO fp s5.heap) σ7 H7 s7→N σ7 H7→∃m,m<n∧∃i σ' H',af X pins σ' H' s7∧tn i s7.heap∧(∀b∈fp,H' b=none)∧W i m σ' H':=fun {σ7 H7} I7 n7=>by
   obtain ⟨m',hm,w7⟩:=hN σ7 H7 n7
   refine ⟨m',hm,i+1,σ7,H7,I7.unpinned,T.keep _ _ _ st5 fun b hb o e=>(I7.pin (b,o) (List.mem_append_right _ (List.mem_append_right _ (gI hb e)))).1,fun b hb=>?_,w7⟩
   obtain ⟨o,e,d⟩:=T.obj _ _ st5 b hb
   exact (I7.pin (b,o) (List.mem_append_right _ (List.mem_append_right _ (gI hb e)))).2.1
  cases f with
  | next=>obtain ⟨σ7,H7,I7,n7⟩:=q7;exact again I7 n7
  | cont=>obtain ⟨σ7,H7,I7,n7⟩:=q7;exact again I7 n7
  | brk=>obtain ⟨σ7,H7,I7,q7⟩:=q7;exact ⟨σ7,H7,I7.unpinned,q7⟩
  | ret v=>obtain ⟨x7,σ7,H7,I7,r7,q7⟩:=q7;exact ⟨x7,σ7,H7,I7.unpinned,r7,q7⟩
end
theorem kU {K:PySem.W.Frag}{a:Addr}{xs:List V}{g:TG}{tb:TS}{D:df}{σ:St}{H:Hp} (Pv:Nat→St→Hp→Prop) (h0:Pv 0 σ H) (hl:∀i σ H,i≤xs.length→Pv i σ H→ax K H a xs)
 (hs:∀i x σ H,xs[i]?=some x→Pv i σ H→g x σ H fun σ2 H2=>tb { D with nx:=Pv (i+1),ct:=Pv (i+1),bk:=D.nx } σ2 H2) (hd:∀σ H,Pv xs.length σ H→D.nx σ H) :
 ∃W:Nat→Nat→St→Hp→Prop,(∃m,W 0 m σ H)∧∀i m σ H,W i m σ H→
  ((xr K a).stop i H∧D.nx σ H)∨((xr K a).go i H∧∃N:St→Hp→Prop,(∀σ' H',N σ' H'→∃m',m'<m∧W (i+1) m' σ' H')∧∀x H',(xr K a).yld i H x H'→g x σ H' fun σ2 H2=>tb { D with nx:=N,ct:=N,bk:=D.nx } σ2 H2):=by
 refine ⟨fun i m σ H=>m=xs.length - i∧i≤xs.length∧Pv i σ H,⟨xs.length,by simp,Nat.zero_le _,h0⟩,?_⟩
 rintro i m σ H ⟨rfl,hi,p⟩
 have q:=hl i σ H hi p
 by_cases hlt:i<xs.length
 ·refine .inr ⟨⟨xs,xs[i],q,by simp [hlt]⟩,Pv (i+1),fun σ' H' p'=>⟨xs.length - (i+1),by trivial,rfl,hlt,p'⟩,fun x H' y=>?_⟩
  obtain ⟨e,y⟩:=y
  subst e
  exact hs i x σ _ (y xs q) p
 ·have e:i=xs.length:=by trivial
  subst e
  exact .inl ⟨⟨xs,q,Nat.le_refl _⟩,hd σ H p⟩
theorem iw {lo:Int}{n:Nat}{g:TG}{tb:TS}{D:df}{σ:St}{H:Hp} (Pv:Nat→St→Hp→Prop) (h0:Pv 0 σ H)
 (hs:∀i σ H,i<n→Pv i σ H→g (.int (lo+i)) σ H fun σ2 H2=>tb { D with nx:=Pv (i+1),ct:=Pv (i+1),bk:=D.nx } σ2 H2) (hd:∀σ H,Pv n σ H→D.nx σ H) :
 ∃W:Nat→Nat→St→Hp→Prop,(∃m,W 0 m σ H)∧∀i m σ H,W i m σ H→
  ((xD lo n).stop i H∧D.nx σ H)∨((xD lo n).go i H∧∃N:St→Hp→Prop,(∀σ' H',N σ' H'→∃m',m'<m∧W (i+1) m' σ' H')∧∀x H',(xD lo n).yld i H x H'→g x σ H' fun σ2 H2=>tb { D with nx:=N,ct:=N,bk:=D.nx } σ2 H2):=by
 refine ⟨fun i m σ H=>m=n - i∧i≤n∧Pv i σ H,⟨n,by simp,Nat.zero_le _,h0⟩,?_⟩
 rintro i m σ H ⟨rfl,hi,p⟩
 by_cases hlt:i<n
 ·refine .inr ⟨hlt,Pv (i+1),fun σ' H' p'=>⟨n - (i+1),by trivial,rfl,hlt,p'⟩,fun x H' y=>?_⟩
  obtain ⟨e,y⟩:=y
  subst e y
  exact hs i σ _ hlt p
 ·have e:i=n:=by trivial
  subst e
  exact .inl ⟨Nat.le_refl _,hd σ H p⟩
end L2
namespace L2
open PySem PySem.Spec PyProof.Rows
abbrev R2:=V→V→Hp→VK→Prop
def cB (X:Cx) (f:Value→Value→Sem Value) (r:R2):Prop:=
 ∀(pins:List (Addr×Obj)) (s:Shared) (σ:St) (H:Hp) (x y:V) (v u:Value) (Q:VK),af X pins σ H s→aX x v→aX y u→r x y H Q→
   wpAny (model X.prog X.w) X.A (f v u) (EP X pins σ Q) X.xe s
def EA (X:Cx) (f:Value→Sem Value) (r:V→Hp→VK→Prop):Prop:=
 ∀(pins:List (Addr×Obj)) (s:Shared) (σ:St) (H:Hp) (x:V) (v:Value) (Q:VK),af X pins σ H s→aX x v→r x H Q→
   wpAny (model X.prog X.w) X.A (f v) (EP X pins σ Q) X.xe s
def cf (X:Cx) (f:Value) (r:List V→Hp→VK→Prop):Prop:=
 ∀(pins:List (Addr×Obj)) (s:Shared) (σ:St) (H:Hp) (xs:List V) (us:List Value) (Q:VK),af X pins σ H s→aM xs us→r xs H Q→
   wpAny (model X.prog X.w) X.A (call f us) (EP X pins σ Q) X.xe s
def A5 (r:R2) (ta tb:TE):TE:=fun σ H Q=>ta σ H fun x H1=>tb σ H1 fun y H2=>r x y H2 Q
def Ht (r:V→Hp→VK→Prop) (ta:TE):TE:=fun σ H Q=>ta σ H fun x H1=>r x H1 Q
inductive Hv (C:Int→Int→Prop) (g:Int→Int→V) (x:V) (y:V) (H:Hp) (Q:VK):Prop
 | mk (i:_) (j:_) (h0:x=.int i) (h1:y=.int j) (h2:C i j) (h3:Q (g i j) H)
def rI (C:Int→Int→Prop) (g:Int→Int→V):R2:=fun x y H Q=>Hv C g x y H Q
inductive GX (g:Int→Int→V) (x:V) (y:V) (H:Hp) (Q:VK):Prop
 | mk (i:_) (j:_) (h0:x=.int i) (h1:y=.int j) (h2:Q (g i j) H)
def wx (g:Int→Int→V):R2:=fun x y H Q=>GX g x y H Q
def rU (g:Int→V):V→Hp→VK→Prop:=fun x H Q=>Ev x fun i=>Q (g i) H
section
variable {X:Cx}{a b c:Expr}{ta tb tc:TE}{pos:Pos}
theorem Ah (ha:PE X a ta) (hb:PE X b tb) {pins:List (Addr×Obj)}{s:Shared}{σ:St}{H:Hp}{R:V→V→Hp→Prop} (I:af X pins σ H s)
 (h:ta σ H fun x H1=>tb σ H1 fun y H2=>R x y H2) {Q:Value→Shared→Prop}{f:Value→Value→Sem Value}
 (hf:∀v u s2 x y H2,af X pins σ H2 s2→aX x v→aX y u→R x y H2→wpAny (model X.prog X.w) X.A (f v u) Q X.xe s2) :
 wpAny (model X.prog X.w) X.A (eval a X.env) (fun v s₁=>wpAny (model X.prog X.w) X.A (eval b X.env) (fun u s₂=>wpAny (model X.prog X.w) X.A (f v u) Q X.xe s₂) X.xe s₁) X.xe s:=by
 refine aW (ha pins s σ H _ I h) fun v s1 ⟨x,H1,I1,r1,q1⟩=>?_
 refine aW (hb pins s1 σ H1 _ I1 q1) fun u s2 ⟨y,H2,I2,r2,q2⟩=>?_
 exact hf v u s2 x y H2 I2 r1 r2 q2
theorem av {op:Operator}{r:R2} (ho:cB X (binaryOp op) r) (ha:PE X a ta) (hb:PE X b tb):PE X (.BinOp a op b pos) (A5 r ta tb):=by
 intro pins s σ H Q I h
 exact wpAny_BinOp (Ah ha hb I h fun v u s2 x y H2 I2 rx ry q=>ho pins s2 σ H2 x y v u Q I2 rx ry q)
theorem vh {op:UnaryOp}{r:V→Hp→VK→Prop} (ho:EA X (unaryOp op) r) (ha:PE X a ta):PE X (.UnaryOp op a pos) (Ht r ta):=by
 intro pins s σ H Q I h
 exact UnaryOp_ (aW (ha pins s σ H _ I h) fun v s1 ⟨x,H1,I1,r1,q1⟩=>ho pins s1 σ H1 x v Q I1 r1 q1)
theorem uA {f:Value→Value→Sem Value}{C:Int→Int→Prop}{g:Int→Int→Int}
 (rule:∀(i j:Int) (t u:Tok) (s:Shared) (Q:Value→Shared→Prop) (E:Value→Shared→Prop),C i j→Q (.int (g i j) s.toks) { s with toks:=s.toks+1 }→wpAny (model X.prog X.w) X.A (f (.int i t) (.int j u)) Q E s) :
 cB X f (rI C fun i j=>.int (g i j)):=by
 intro pins s σ H x y v u Q I rx ry h
 obtain ⟨i,j,rfl,rfl,hc,q⟩:=h
 obtain ⟨t,rfl⟩:=rx
 obtain ⟨t',rfl⟩:=ry
 exact rule i j t t' s _ _ hc ⟨.int (g i j),H,I.tok _,⟨_,rfl⟩,q⟩
theorem EG {f:Value→Value→Sem Value}{g:Int→Int→Int}
 (rule:∀(i j:Int) (t u:Tok) (s:Shared) (Q:Value→Shared→Prop) (E:Value→Shared→Prop),Q (.int (g i j) s.toks) { s with toks:=s.toks+1 }→wpAny (model X.prog X.w) X.A (f (.int i t) (.int j u)) Q E s) :
 cB X f (wx fun i j=>.int (g i j)):=by
 intro pins s σ H x y v u Q I rx ry h
 obtain ⟨i,j,rfl,rfl,q⟩:=h
 obtain ⟨t,rfl⟩:=rx
 obtain ⟨t',rfl⟩:=ry
 exact rule i j t t' s _ _ ⟨.int (g i j),H,I.tok _,⟨_,rfl⟩,q⟩
theorem Ak {f:Value→Value→Sem Value}{g:Int→Int→Bool}
 (rule:∀(i j:Int) (t u:Tok) (s:Shared) (Q:Value→Shared→Prop) (E:Value→Shared→Prop),Q (.bool (g i j)) s→wpAny (model X.prog X.w) X.A (f (.int i t) (.int j u)) Q E s) :
 cB X f (wx fun i j=>.bl (g i j)):=by
 intro pins s σ H x y v u Q I rx ry h
 obtain ⟨i,j,rfl,rfl,q⟩:=h
 obtain ⟨t,rfl⟩:=rx
 obtain ⟨t',rfl⟩:=ry
 exact rule i j t t' s _ _ ⟨.bl (g i j),H,I,rfl,q⟩
def GA (i j:Int):Prop:=0<j∧j<1073741824
def GZ (i j:Int):Prop:=0≤j∧j≤1000000∧i.natAbs<2 ^ 64
def As (i j:Int):Prop:=(-(2 ^ 64)<i∧i<2 ^ 64)∨(-(2 ^ 64)<j∧j<2 ^ 64)
theorem As.ok {i j:Int} (h:As i j):IntMulOk i j:=by
 rcases h with ⟨h1,h2⟩ | ⟨h1,h2⟩
 ·exact .of_left (intBits_le_64 h1 h2)
 ·exact .of_right (intBits_le_64 h1 h2)
theorem bK:cB X (binaryOp .Add) (wx fun i j=>.int (i+j)):=EG fun _ _ _ _ _ _ _ q=>add_int q
theorem jT:cB X (binaryOp .Sub) (wx fun i j=>.int (i - j)):=EG fun _ _ _ _ _ _ _ q=>sub_int q
theorem fD:cB X (binaryOp .Mult) (rI As fun i j=>.int (i*j)):=uA fun _ _ _ _ _ _ _ hc q=>mul_int q hc.ok
theorem BM:cB X (binaryOp .FloorDiv) (rI GA fun i j=>.int (i / j)):=uA fun i j _ _ _ _ _ hc q=>by
 have h1:(0:Int)<j:=hc.1
 have h2:j<1073741824:=hc.2
 exact floordiv_int (by trivial) (by rw [Int.fdiv_eq_ediv_of_nonneg i (by trivial)];exact q) (.inl (PyProof.noPylong_small (by trivial)))
theorem hJ:cB X (binaryOp .Mod) (rI (fun _ j=>0<j) fun i j=>.int (i % j)):=uA fun i j _ _ _ _ _ hc q=>by
 have h1:(0:Int)<j:=hc
 exact mod_int' (by trivial) (by rw [Int.fmod_eq_emod_of_nonneg i (by trivial)];exact q)
theorem Cq:cB X (binaryOp .Mod) (rI (fun _ j=>j≠0) fun i j=>.int (i.fmod j)):=uA fun _ _ _ _ _ _ _ hc q=>mod_int' hc q
theorem wB:cB X (binaryOp .Pow) (rI GZ fun i j=>.int (i ^ j.toNat)):=uA fun _ _ _ _ _ _ _ hc q=>pow_int_small hc.1 hc.2.1 hc.2.2 q
theorem HA {f:Value→Sem Value}{g:Int→Int}
 (rule:∀(i:Int) (t:Tok) (s:Shared) (Q:Value→Shared→Prop) (E:Value→Shared→Prop),Q (.int (g i) s.toks) { s with toks:=s.toks+1 }→wpAny (model X.prog X.w) X.A (f (.int i t)) Q E s) :
 EA X f (rU fun i=>.int (g i)):=by
 intro pins s σ H x v Q I rx h
 obtain ⟨i,rfl,q⟩:=h
 obtain ⟨t,rfl⟩:=rx
 exact rule i t s _ _ ⟨.int (g i),H,I.tok _,⟨_,rfl⟩,q⟩
theorem sq:EA X (unaryOp .USub) (rU fun i=>.int (-i)):=HA fun _ _ _ _ _ q=>neg_int q
end
def Dn:V→V→Bool
 | .non,.non=>true | .non,.int _=>true | .int _,.non=>true | .non,.bl _=>true | .bl _,.non=>true | .non,.str _=>true | .str _,.non=>true
 | .int _,.int _=>true | .bl _,.bl _=>true | .str _,.str _=>true | .byt _,.byt _=>true
 | .int _,.str _=>true | .str _,.int _=>true | .bl _,.str _=>true | .str _,.bl _=>true
 | _,_=>false
def Hs:R2:=fun x y H Q=>Dn x y=true∧Q (.bl (decide (x=y))) H
def Hq:R2:=fun x y H Q=>Dn x y=true∧Q (.bl (!decide (x=y))) H
theorem xg {i j:Int}:decide (V.int i=V.int j)=(i==j):=by
 rw [Bool.eq_iff_iff]
 simp
theorem y3 {i j:Bool}:decide (V.bl i=V.bl j)=(i==j):=by
 rw [Bool.eq_iff_iff]
 simp
theorem xn {i j:Str}:decide (V.str i=V.str j)=(i==j):=by
 rw [Bool.eq_iff_iff]
 simp
theorem xo {i j:Array UInt8}:decide (V.byt i=V.byt j)=(i.toList==j.toList):=by
 rw [Bool.eq_iff_iff]
 cases i
 cases j
 simp
section
variable {X:Cx}{a b c:Expr}{ta tb tc:TE}{pos:Pos}
theorem bq {pins:List (Addr×Obj)}{σ:St}{H:Hp}{s:Shared}{Q:VK}{k k':Bool} (I:af X pins σ H s) (q:Q (.bl k) H) (e:k=k'):EP X pins σ Q (.bool k') s:=by
 subst e
 exact ⟨.bl k,H,I,rfl,q⟩
theorem dE:cB X (compareOp .Eq) Hs:=by
 intro pins s σ H x y v u Q I rx ry h
 obtain ⟨hs,q⟩:=h
 cases x with
 | non=>
  cases rx
  cases y with
  | non=>cases ry;exact PySem.EqNone.eq_none_none (bq I q (by simp))
  | bl j=>cases ry;exact PySem.EqNone.eq_none_bool (bq I q (by simp))
  | int j=>obtain ⟨t',rfl⟩:=ry;exact PySem.EqNone.eq_none_int (bq I q (by simp))
  | str j=>obtain ⟨t',rfl⟩:=ry;exact PySem.EqNone.eq_none_str (bq I q (by simp))
  | _=>exact absurd (show false=true from hs) Bool.false_ne_true
 | bl i=>
  cases rx
  cases y with
  | non=>cases ry;exact PySem.EqNone.eq_bool_none (bq I q (by simp))
  | bl j=>cases ry;exact eq_bool (bq I q y3)
  | str j=>obtain ⟨t',rfl⟩:=ry;exact PySem.EqMixed.eq_bool_str (bq I q (by simp))
  | _=>exact absurd (show false=true from hs) Bool.false_ne_true
 | int i=>
  obtain ⟨t,rfl⟩:=rx
  cases y with
  | non=>cases ry;exact PySem.EqNone.eq_int_none (bq I q (by simp))
  | int j=>obtain ⟨t',rfl⟩:=ry;exact eq_int (bq I q xg)
  | str j=>obtain ⟨t',rfl⟩:=ry;exact PySem.EqMixed.eq_int_str (bq I q (by simp))
  | _=>exact absurd (show false=true from hs) Bool.false_ne_true
 | str i=>
  obtain ⟨t,rfl⟩:=rx
  cases y with
  | non=>cases ry;exact PySem.EqNone.eq_str_none (bq I q (by simp))
  | bl j=>cases ry;exact PySem.EqMixed.eq_str_bool (bq I q (by simp))
  | int j=>obtain ⟨t',rfl⟩:=ry;exact PySem.EqMixed.eq_str_int (bq I q (by simp))
  | str j=>obtain ⟨t',rfl⟩:=ry;exact eq_str (bq I q xn)
  | _=>exact absurd (show false=true from hs) Bool.false_ne_true
 | byt i=>
  obtain ⟨t,rfl⟩:=rx
  cases y with
  | byt j=>obtain ⟨t',rfl⟩:=ry;exact PySem.W.eq_bytes (bq I q xo)
  | _=>exact absurd (show false=true from hs) Bool.false_ne_true
 | _=>cases y <;> exact absurd (show false=true from hs) Bool.false_ne_true
theorem qb:cB X (compareOp .NotEq) Hq:=by
 intro pins s σ H x y v u Q I rx ry h
 obtain ⟨hs,q⟩:=h
 cases x with
 | non=>
  cases rx
  cases y with
  | non=>cases ry;exact PySem.EqNone.ne_none_none (bq I q (by simp))
  | bl j=>cases ry;exact PySem.EqNone.ne_none_bool (bq I q (by simp))
  | int j=>obtain ⟨t',rfl⟩:=ry;exact PySem.EqNone.ne_none_int (bq I q (by simp))
  | str j=>obtain ⟨t',rfl⟩:=ry;exact PySem.EqNone.ne_none_str (bq I q (by simp))
  | _=>exact absurd (show false=true from hs) Bool.false_ne_true
 | bl i=>
  cases rx
  cases y with
  | non=>cases ry;exact PySem.EqNone.ne_bool_none (bq I q (by simp))
  | bl j=>cases ry;exact ne_bool (bq I q (congrArg not y3))
  | str j=>obtain ⟨t',rfl⟩:=ry;exact PySem.EqMixed.ne_bool_str (bq I q (by simp))
  | _=>exact absurd (show false=true from hs) Bool.false_ne_true
 | int i=>
  obtain ⟨t,rfl⟩:=rx
  cases y with
  | non=>cases ry;exact PySem.EqNone.ne_int_none (bq I q (by simp))
  | int j=>obtain ⟨t',rfl⟩:=ry;exact ne_int (bq I q (congrArg not xg))
  | str j=>obtain ⟨t',rfl⟩:=ry;exact PySem.EqMixed.ne_int_str (bq I q (by simp))
  | _=>exact absurd (show false=true from hs) Bool.false_ne_true
 | str i=>
  obtain ⟨t,rfl⟩:=rx
  cases y with
  | non=>cases ry;exact PySem.EqNone.ne_str_none (bq I q (by simp))
  | bl j=>cases ry;exact PySem.EqMixed.ne_str_bool (bq I q (by simp))
  | int j=>obtain ⟨t',rfl⟩:=ry;exact PySem.EqMixed.ne_str_int (bq I q (by simp))
  | str j=>obtain ⟨t',rfl⟩:=ry;exact ne_str (bq I q (congrArg not xn))
  | _=>exact absurd (show false=true from hs) Bool.false_ne_true
 | byt i=>
  obtain ⟨t,rfl⟩:=rx
  cases y with
  | byt j=>obtain ⟨t',rfl⟩:=ry;exact PySem.W.ne_bytes (bq I q (congrArg not xo))
  | _=>exact absurd (show false=true from hs) Bool.false_ne_true
 | _=>cases y <;> exact absurd (show false=true from hs) Bool.false_ne_true
theorem lG:cB X (compareOp .Lt) (wx fun i j=>.bl (decide (i<j))):=Ak fun _ _ _ _ _ _ _ q=>lt_int q
theorem jA:cB X (compareOp .Gt) (wx fun i j=>.bl (decide (j<i))):=Ak fun _ _ _ _ _ _ _ q=>gt_int q
theorem F6:cB X (compareOp .GtE) (wx fun i j=>.bl (decide (j≤i))):=Ak fun _ _ _ _ _ _ _ q=>ge_int q
theorem su:cB X (compareOp .Is) (fun x y H Q=>y=.non∧Q (.bl (decide (x=.non))) H):=by
 intro pins s σ H x y v u Q I rx ry h
 obtain ⟨rfl,q⟩:=h
 cases ry
 refine is_none_gen (bq I q ?_)
 cases x <;> first
  | (cases rx;rfl)
  | (obtain ⟨t,rfl⟩:=rx;rfl)
theorem ql:cB X (compareOp .IsNot) (fun x y H Q=>y=.non∧Q (.bl (!decide (x=.non))) H):=by
 intro pins s σ H x y v u Q I rx ry h
 obtain ⟨rfl,q⟩:=h
 cases ry
 refine isnot_none_gen (bq I q ?_)
 cases x <;> first
  | (cases rx;rfl)
  | (obtain ⟨t,rfl⟩:=rx;rfl)
theorem aG (b:Expr) {op:CmpOp} (h:op≠.In:=by decide) (h2:op≠.NotIn:=by decide):behindInMarks op b=false:=by
 have e1:(op==CmpOp.In)=false:=by cases op <;> first | rfl | exact absurd rfl h
 have e2:(op==CmpOp.NotIn)=false:=by cases op <;> first | rfl | exact absurd rfl h2
 cases b <;> simp [behindInMarks,e1,e2]
theorem dj {op:CmpOp}{r:R2} (ho:cB X (compareOp op) r) (ha:PE X a ta) (hb:PE X b tb) (hm:behindInMarks op b=false):PE X (.Compare a [op] [b] pos) (A5 r ta tb):=by
 intro pins s σ H Q I h
 exact wpAny_Compare1 (Ah ha hb I h fun v u s2 x y H2 I2 rx ry q=>ho pins s2 σ H2 x y v u Q I2 rx ry q) hm
def FY (t:TE):TT:=fun σ H Q=>t σ H fun x H'=>wo x fun k=>Q k H'
theorem aK {op:CmpOp}{r:R2} (ho:cB X (compareOp op) r) (ha:PE X a ta) (hb:PE X b tb) (hm:behindInMarks op b=false):PT X (.Compare a [op] [b] pos) (FY (A5 r ta tb)):=by
 intro pins s σ H Q I h
 refine wpAny_isTrue_Compare1 (aW (ha pins s σ H _ I h) fun v s1 ⟨x,H1,I1,r1,q1⟩=>aW (hb pins s1 σ H1 _ I1 q1) fun u s2 ⟨y,H2,I2,r2,q2⟩=>
  aW (ho pins s2 σ H2 x y v u _ I2 r1 r2 q2) fun c s3 ⟨z,H3,I3,r3,k,e,q3⟩=>?_) hm
 subst e
 cases r3
 exact wpAny_truthy_bool ⟨H3,I3,q3⟩
theorem pC:(sizeLine:Nat)<2 ^ 63:=by rw [sizeLine_eq];decide
theorem xJ:cB X (binaryOp .Add) (fun x y H Q=>bo fun i j=>x=.str i∧y=.str j∧i.length+j.length≤sizeLine∧Q (.str (i++j)) H):=by
 intro pins s σ H x y v u Q I rx ry h
 obtain ⟨i,j,rfl,rfl,hz,q⟩:=h
 obtain ⟨t,rfl⟩:=rx
 obtain ⟨t',rfl⟩:=ry
 exact add_str (fun t' tk=>⟨.str (i++j),H,I.tok _,⟨_,rfl⟩,q⟩) hz
theorem nu {x:V}{us:List Value} (r:aM [x] us):∃u,us=[u]∧aX x u:=by
 cases r with
 | cons r1 r2=>cases r2;exact ⟨_,rfl,r1⟩
theorem sM {x y:V}{us:List Value} (r:aM [x,y] us):bo fun u w'=>us=[u,w']∧aX x u∧aX y w':=by
 cases r with
 | cons r1 r2=>
  cases r2 with
  | cons r3 r4=>cases r4;exact ⟨_,_,rfl,r1,r3⟩
theorem lp:cf X (.builtin "abs") (fun xs H Q=>∃i,xs=[.int i]∧Q (.int (if i<0 then -i else i)) H):=by
 intro pins s σ H xs us Q I r h
 obtain ⟨i,rfl,q⟩:=h
 obtain ⟨u,rfl,t,rfl⟩:=nu r
 exact call_abs_int fun u tk=>⟨.int (if i<0 then -i else i),H,I.tok _,⟨_,rfl⟩,q⟩
theorem yJ (hc:X.calm=true):cf X (.builtin "max") (fun xs H Q=>bo fun i j=>xs=[.int i,.int j]∧Q (.int (if j > i then j else i)) H):=by
 intro pins s σ H xs us Q I r h
 obtain ⟨i,j,rfl,q⟩:=h
 obtain ⟨u,w',rfl,⟨t,rfl⟩,⟨t',rfl⟩⟩:=sM r
 refine max_two_ints (I.ok.hd hc) fun h' tk k=>⟨_,H,I.kept k,?_,q⟩
 by_cases hj:j > i
 ·rw [if_pos hj,if_pos hj];exact ⟨_,rfl⟩
 ·rw [if_neg hj,if_neg hj];exact ⟨_,rfl⟩
theorem uw:cf X (.type "int") (fun xs H Q=>(∃i,xs=[.int i]∧Q (.int i) H)∨∃k,xs=[.bl k]∧Q (.int (if k then 1 else 0)) H):=by
 intro pins s σ H xs us Q I r h
 rcases h with ⟨i,rfl,q⟩ | ⟨k,rfl,q⟩
 ·obtain ⟨u,rfl,t,rfl⟩:=nu r
  exact call_int_int ⟨.int i,H,I,⟨_,rfl⟩,q⟩
 ·obtain ⟨u,rfl,r1⟩:=nu r
  cases r1
  exact call_int_bool ⟨.int (if k then 1 else 0),H,I.tok _,⟨_,rfl⟩,q⟩
end
end L2
namespace L2
open PySem PySem.Spec PyProof.Rows
structure Av (h:Heap) (x dx C:Addr) (mA:Str→Option Value):Prop where
 obj:h.get? x=some (PySem.W.instObj C dx)
 ns:h.Ns1 dx mA
 ne:dx≠x
theorem uK {h:Heap}{dx:Addr}{mA:Str→Option Value} (n:h.Ns1 dx mA):∃od,h.get? dx=some od∧∀name,PySem.W.lookIn name od=some (mA name):=by
 obtain ⟨o,es,ep,ho,hd,hk,_,hm⟩:=n
 refine ⟨o,ho,fun name=>?_⟩
 have e:=hm name
 unfold nsFind findBy at e
 rw [←Array.find?_toList] at e
 unfold PySem.W.lookIn
 rw [hd]
 dsimp only
 split
 ·rename_i y q
  rw [q] at e
  exact congrArg some e
 ·rename_i q
  rw [q] at e
  have a:es.toList.any (·.refKey)=false:=by
   rw [List.any_eq_false]
   intro y hy
   obtain ⟨z,t,hkey⟩:=hk y (Array.mem_toList_iff.mp hy)
   simp [DictEntry.refKey,hkey]
  have a':¬es.toList.any (·.refKey)=true:=by rw [a];exact Bool.false_ne_true
  rw [if_neg a']
  exact congrArg some e
theorem Av.look {h:Heap}{x dx C:Addr}{mA:Str→Option Value} (I:Av h x dx C mA):∃od,PySem.W.InstAt h x (PySem.W.instObj C dx) C (some od)∧∀name,PySem.W.lookIn name od=some (mA name):=
 let ⟨od,ho,hl⟩:=uK I.ns
 ⟨od,⟨I.obj,rfl,rfl,ho⟩,hl⟩
section
variable {prog:Program}{w:World}{A:Around}{E:Value→Shared→Prop}{s:Shared}{K:PySem.W.Frag}{x dx C f:Addr}{mA:Str→Option Value}{name:Str}{v:Value}
end
theorem pJ.some_of {v:V}{o:Option Value} (r:pJ (some v) o):∃u,o=some u∧aX v u:=by
 cases o with
 | none=>exact (show False from r).elim
 | some u=>exact ⟨u,rfl,r⟩
theorem zw {v:V}{u:Value} (r:aX v u):PySem.W.handedIn u=true:=by
 cases v with
 | non=>cases (show u=Value.none from r);rfl
 | bl b=>cases (show u=Value.bool b from r);rfl
 | int i=>obtain ⟨t,e⟩:=(show ∃t,u=Value.int i t from r);cases e;rfl
 | str x=>obtain ⟨t,e⟩:=(show ∃t,u=Value.str x t from r);cases e;rfl
 | byt b=>obtain ⟨t,e⟩:=(show ∃t,u=Value.bytes b t from r);cases e;rfl
 | flt b=>obtain ⟨t,e⟩:=(show ∃t,u=Value.float b t from r);cases e;rfl
 | ref a=>cases (show u=Value.ref a from r);rfl
 | ty n=>cases (show u=Value.type n from r);rfl
section
variable {P:Program}{w:World}{H H':Hp}{h h':Heap}{a C dx:Addr}{fs fs':List (Str×V)}
theorem BY (hok:dz P w H h) (e:H a=some (.ins C dx fs)):∃mA,Av h a dx C mA∧(∀f,pJ (fs.lookup f) (mA f))∧PySem.Within mA (fs.map (·.1))∧fs.length≤1000∧H dx=some (.own a):=by
 obtain ⟨d,z,ne,ob,mA,n,r,q⟩:=(show bh P w H h a (.ins C dx fs) from hok a _ e)
 exact ⟨mA,⟨ob,n,ne⟩,r,q,z,d⟩
end
structure Em (K:PySem.W.Frag) (C:Addr):Prop where
 pg:PySem.W.plainGet K C Str.empty=true
 hd:PySem.W.hasDictIn K C=true
 po:PySem.W.plainOver K C=true
 sa:PySem.W.findIn K (.ref C) "__setattr__" = some (some (.builtin "object.__setattr__"))
theorem Em.get {K:PySem.W.Frag}{C:Addr} (c:Em K C) (f:Str):PySem.W.plainGet K C f=true:=c.pg
section
variable {X:Cx}{pins:List (Addr×Obj)}{σ:St}{H:Hp}{s:Shared}{a C dx:Addr}{fs:List (Str×V)}{f:Str}{v:V}{A:Around}{E:Value→Shared→Prop}
theorem BN {prog:Program}{w:World}{env:Env}{e:Expr}{f:Str}{pos:Pos}{s:Shared}{Q:Value→Shared→Prop} (hb:attributeBase e f env (eval e env)=eval e env)
 (h:wpAny (model prog w) A (eval e env) (fun o s₁=>wpAny (model prog w) A (getAttr o f true) Q E s₁) E s):wpAny (model prog w) A (eval (.Attribute e f pos) env) Q E s:=
 Attribute_any_ h (by rw [arm_eval_Attribute,hb])
end
section
variable {X:Cx}{o e value:Expr}{f:Str}{pos pos' tpos:Pos}{ta tv:TE}
end
section
variable {X:Cx}{pins:List (Addr×Obj)}{σ:St}{H:Hp}{s:Shared}{A:Around}{E:Value→Shared→Prop}{Q:Value→Shared→Prop}{c:Value}{b:Bool}
inductive ir (K:PySem.W.Frag) (H:Hp):V→Value→Prop where
 | non:ir K H .non (.type "NoneType")
 | bl (x:Bool):ir K H (.bl x) (.type "bool")
 | int (i:Int):ir K H (.int i) (.type "int")
 | str (x:Str):ir K H (.str x) (.type "str")
 | flt (x:UInt64):ir K H (.flt x) (.type "float")
 | lst {a:Addr}{xs:List V} (e:H a=some (.lst xs)):ir K H (.ref a) (.type "list")
 | frz {a:Addr}{o:Obj}{xs:List V} (e:H a=some (.frz o (.lst xs))):ir K H (.ref a) (.type "list")
 | tup {a:Addr}{xs:List V} (e:H a=some (.tup xs)):ir K H (.ref a) (.type "tuple")
 | dK {a:Addr}{kvs:List (aU×V)} (e:H a=some (.dK kvs)):ir K H (.ref a) (.type "dict")
 | dT {a:Addr}{kvs:List (List aU×V)} (e:H a=some (.dT kvs)):ir K H (.ref a) (.type "dict")
 | ins {a C dx:Addr}{fs:List (Str×V)} (e:H a=some (.ins C dx fs)) (cl:Em K C) (ha:PySem.W.findIn K (.ref C) "__class__" = some (some (.builtin "object.__class__")))
  (hn:PySem.W.specialIn K (.builtin "object.__class__") "__get__" = some (some (.builtin "getset_descriptor.__get__"))) (htk:PySem.W.takesIn K (.builtin "object.__class__")=some true)
  (hm:PySem.W.mroIn K C (.type "object")=some true):ir K H (.ref a) (.ref C)
theorem zf {x:V}{u t:Value} (I:af X pins σ H s) (rx:aX x u) (ty:ir X.K H x t) (e:PySem.W.kitOne X.K t c=some b) (h:∀tk,Q (.bool b) { s with toks:=tk }) :
 wpAny (model X.prog X.w) A (call (.builtin "isinstance") [u,c]) Q E s:=by
 cases ty with
 | non=>cases (show u=Value.none from rx);exact PySem.W.kia_one PySem.W.kitx_none I.kIn True.intro e (fun z=>nomatch z) h
 | bl y=>cases (show u=Value.bool y from rx);exact PySem.W.kia_one PySem.W.kitx_bool I.kIn True.intro e (fun z=>nomatch z) h
 | int i=>obtain ⟨t,q⟩:=(show ∃t,u=Value.int i t from rx);cases q;exact PySem.W.kia_one PySem.W.kitx_int I.kIn True.intro e (fun z=>nomatch z) h
 | str y=>obtain ⟨t,q⟩:=(show ∃t,u=Value.str y t from rx);cases q;exact PySem.W.kia_one PySem.W.kitx_str I.kIn True.intro e (fun z=>nomatch z) h
 | flt y=>obtain ⟨t,q⟩:=(show ∃t,u=Value.float y t from rx);cases q;exact PySem.W.kia_one PySem.W.kitx_float I.kIn True.intro e (fun z=>nomatch z) h
 | @lst a xs ea=>
  cases (show u=Value.ref a from rx)
  obtain ⟨_,_,n,_,h1⟩:=(show bh X.prog X.w H s.heap a (.lst xs) from I.hok a _ ea)
  exact PySem.W.kia_one PySem.W.kitx_list I.kIn ⟨_,h1,rfl⟩ e (fun z=>nomatch z) h
 | @frz a ob xs ea=>
  cases (show u=Value.ref a from rx)
  obtain ⟨_,_,_,n,_,h1⟩:=(show bh X.prog X.w H s.heap a (.frz ob (.lst xs)) from I.hok a _ ea)
  exact PySem.W.kia_one PySem.W.kitx_list I.kIn ⟨_,h1,rfl⟩ e (fun z=>nomatch z) h
 | @tup a xs ea=>
  cases (show u=Value.ref a from rx)
  obtain ⟨_,_,_,p,_⟩:=(show bh X.prog X.w H s.heap a (.tup xs) from I.hok a _ ea)
  obtain ⟨o,h1,h2,_⟩:=p
  exact PySem.W.kia_one PySem.W.kitx_tuple I.kIn ⟨o,h1,h2⟩ e (fun z=>nomatch z) h
 | @dK a kvs ea=>
  cases (show u=Value.ref a from rx)
  obtain ⟨_,_,vs,_,p⟩:=(show bh X.prog X.w H s.heap a (.dK kvs) from I.hok a _ ea)
  obtain ⟨o,es,ep,h1,h2,_⟩:=p
  exact PySem.W.kia_one PySem.W.kitx_dict I.kIn ⟨o,h1,h2.1⟩ e (fun z=>nomatch z) h
 | @dT a kvs ea=>
  cases (show u=Value.ref a from rx)
  obtain ⟨_,_,xs,_,o,es,ep,h1,h2,_⟩:=(show bh X.prog X.w H s.heap a (.dT kvs) from I.hok a _ ea)
  exact PySem.W.kia_one PySem.W.kitx_dict I.kIn ⟨o,h1,h2.1⟩ e (fun z=>nomatch z) h
 | @ins a C dx fs ea cl ha hn htk hm=>
  cases (show u=Value.ref a from rx)
  obtain ⟨mA,O,_⟩:=BY I.hok ea
  obtain ⟨od,J,_⟩:=O.look
  exact PySem.W.kia_one (PySem.W.kitx_own (cl.get _) cl.hd ha hn htk hm) I.kIn J e (fun z=>nomatch z) h
end
end L2
namespace L2
open PySem PySem.Spec PyProof.Rows
structure cC (k:Nat) (A:Around):Prop where
 hd:A.handled=none
 dp:A.depth+3*k+5<recursionLimit
 un:A.units+16*k+200<cLine
 gd:A.guards=some []
theorem cC.mono {j k:Nat}{A:Around} (r:cC k A) (h:j≤k):cC j A:=⟨r.hd,by have:=r.dp;trivial,by have:=r.un;trivial,r.gd⟩
theorem cC.deeper {k:Nat}{A:Around} (r:cC (k+1) A) (env:Env):cC k (A.deeper env):=
 ⟨r.hd,by have:=r.dp;show A.depth+1+3*k+5<_;trivial,by have:=r.un;show A.units+3+16*k+200<_;trivial,r.gd⟩
theorem xZ {A:Around}{C:Addr}{us:List Value}{kw:List (Str×Value)}:(A.under (.builtin "type.__call__" ⟨.ref C :: us,kw⟩)).depth=A.depth+1:=by
 first | rfl | simp [Around.under,Code.weight,Code.isCreation,Code.isGuard,Code.isCaller,Code.frames,Code.isFrame,guardIds]
theorem ya {A:Around}{C:Addr}{us:List Value}{kw:List (Str×Value)}:(A.under (.builtin "type.__call__" ⟨.ref C :: us,kw⟩)).units=A.units+1:=by
 first | rfl | simp [Around.under,Code.cUnits,Code.frames,Code.isFrame]
theorem cC.make {k:Nat}{A:Around} (r:cC (k+1) A) (C:Addr) (us:List Value) (kw:List (Str×Value)):cC k (A.under (.builtin "type.__call__" ⟨.ref C :: us,kw⟩)):=
 ⟨r.hd,by have:=r.dp;rw [xZ];trivial,by have:=r.un;rw [ya];trivial,r.gd⟩
theorem cC.depth {k:Nat}{A:Around} (r:cC k A):A.depth<recursionLimit:=by have:=r.dp;trivial
theorem cC.units {k:Nat}{A:Around} (r:cC k A):A.units+64<cLine:=by have:=r.un;trivial
def Gx:TA:=fun _ H Q=>Q [] H
def Bp (ta:TE) (tr:TA):TA:=fun σ H Q=>ta σ H fun x H1=>tr σ H1 fun xs H2=>Q (x :: xs) H2
section
variable {X:Cx}{e:Expr}{es:List Expr}{te:TE}{t:TA}{pos:Pos}
theorem ac:PA X [] Gx:=fun _ _ _ _ H Q I h=>Calls.spliced_nil ⟨[],H,I,.nil,h⟩
theorem cH (ha:PE X e te) (hr:PA X es t) (hs:starEach (e :: es) X.env=(false,eval e X.env) :: starEach es X.env:=by rfl):PA X (e :: es) (Bp te t):=by
 intro pos pins s σ H Q I h
 rw [hs]
 show wpAny _ _ (spliced ((false,eval e X.env) :: backTo pos (starEach es X.env))) _ _ s
 refine Calls.spliced_cons (aW (ha pins s σ H _ I h) fun u s1 ⟨x,H1,I1,r1,q1⟩=>?_)
 exact aW (hr pos pins s1 σ H1 _ I1 q1) fun us s2 ⟨xs,H2,I2,r2,q2⟩=>⟨x :: xs,H2,I2,.cons r1 r2,q2⟩
def GT (t:TA):TE:=fun σ H Q=>t σ H fun xs H1=>xs.length≤sizeLine∧∀p,H1 p=none→Q (.ref p) (aN H1 p (.lst xs))
theorem EI (h:PA X es t):PE X (.List es pos) (GT t):=by
 intro pins s σ H Q I hq
 refine wpAny_List_spliced (aW (h pos pins s σ H _ I hq) fun us s1 ⟨xs,H1,I1,r,z,q⟩=>⟨by rw [←r.length];exact z,?_⟩)
 have hf:H1 s1.heap.objs.size=none:=I1.hok.fresh (Nat.le_refl _)
 refine ⟨.ref s1.heap.objs.size,aN H1 s1.heap.objs.size (.lst xs),I1.laid (t':=s1.toks) (fun b u e=>Heap.get?_push_of_some _ e) (Nat.le_refl _) ?_,rfl,q _ hf⟩
 exact ⟨z,us,0,r,Heap.get?_push_size _ rfl⟩
end
abbrev Sp:=List V→Hp→VK→XK→Prop
abbrev kf:=List Env→Hp→Shared→XK→Value→Shared→Prop
structure qY (P:Program) (w:World) (K:PySem.W.Frag) (mg:Str→Option Value) (base:Heap) (A:Around) (outer:List Env) (s:Shared) (H:Hp):Prop where
 frames:A.frames=some outer
 mod:Mod K mg base
 bs:∀b o,base.get? b=some o→s.heap.get? b=some o∧H b=none
 bsz:base.objs.size≤s.heap.objs.size
 funs:s.heap.FunFrames base outer
 frf:∀b∈f6 outer,H b=none
 hok:dz P w H s.heap
 bare:AllBare s.gens
def CE (outer:List Env) (P:Program) (w:World) (H:Hp) (s:Shared) (Q:VK) (u:Value) (s':Shared):Prop:=
 bo fun v H'=>s'.os=s.os∧AllBare s'.gens∧Un (f6 outer) [] H H' s.heap s'.heap∧dz P w H' s'.heap∧aX v u∧Q v H'
def CR (CX:kf) (outer:List Env) (P:Program) (w:World) (H:Hp) (s:Shared) (Q:VK) (E:XK) (r:Result) (s':Shared):Prop:=
 match r with
 | .ok (.ret u)=>CE outer P w H s Q u s'
 | .ok _=>False
 | .error e=>CX outer H s E e s'
structure bD (P:Program) (w:World) (K:PySem.W.Frag) (mg:Str→Option Value) (base:Heap) (CX:kf) (k:Nat) (f:Addr) (fd:FuncData) (ps:List Str) (sp:Sp):Prop where
 len:∀vs H Q E,sp vs H Q E→vs.length=ps.length
 run:∀(A:Around) (outer:List Env) (s:Shared) (H:Hp) (args:Args) (us:List Value) (vs:List V) (Q:VK) (E:XK),cC k A→qY P w K mg base A outer s H→BindsTo s fd args (ps.zip us)→aM vs us→sp vs H Q E→
  codeAny (model P w) A (.call (.ref f) args) (CR CX outer P w H s Q E) s
theorem qY.make {P:Program}{w:World}{K:PySem.W.Frag}{mg:Str→Option Value}{base:Heap}{A:Around}{outer:List Env}{s:Shared}{H:Hp} (e:qY P w K mg base A outer s H) (C:Addr) (us:List Value) (kw:List (Str×Value)) :
 qY P w K mg base (A.under (.builtin "type.__call__" ⟨.ref C :: us,kw⟩)) outer s H:=⟨by first | exact e.frames | (simpa [Around.under,Code.envs,Code.isFrame,pushEnvs] using e.frames),e.mod,e.bs,e.bsz,e.funs,e.frf,e.hok,e.bare⟩
section
variable {X:Cx}{pins:List (Addr×Obj)}{σ:St}{H:Hp}{s s':Shared}
theorem af.env0 (I:af X pins σ H s):qY X.prog X.w X.K X.mg X.base X.A X.stack s H:=
 ⟨I.ok.frames,I.ok.mod,I.bs,Nat.le_trans I.ok.bsz I.sz,I.stack,I.stkFree,I.hok,I.bare⟩
theorem af.after {Q:VK}{u:Value} (I:af X pins σ H s) (h:CE X.stack X.prog X.w H s Q u s'):EP X pins σ Q u s':=by
 obtain ⟨v,H',os,bare,un,hok,r,q⟩:=h
 obtain ⟨hh,g,d,t,os'⟩:=s'
 obtain rfl:os'=s.os:=os
 exact ⟨v,H',I.call (h':=hh) (g':=g) (d':=d) (t':=t) (ch:=[]) un hok bare (fun b z=>absurd z (by simp)),r,q⟩
end
def Fa (sp:Sp) (dvs:List V) (E:XK) (t:TA):TE:=fun σ H Q=>t σ H fun vs H1=>sp (vs++dvs) H1 Q E
def fA (K:PySem.W.Frag) (fd:FuncData) (ps:List Str) (ds:List Value):Prop:=
 ∀(s:Shared) (us:List Value),K.In s.heap→(us++ds).length=ps.length→BindsTo s fd ⟨us,[]⟩ (ps.zip (us++ds))
theorem fA.all {K:PySem.W.Frag}{fd:FuncData}{ps:List Str} (h:∀us:List Value,us.length=ps.length→bindArgs fd ⟨us,[]⟩=pure (ps.zip us)):fA K fd ps []:=fun s us _ hl=>by
 rw [List.append_nil] at hl ⊢
 exact .of_eq (h us hl)
def p8 (CX:kf) (X:Cx) (E:XK):Prop:=∀(pins:List (Addr×Obj)) (σ:St) (H:Hp) (s:Shared) (e:Value) (s':Shared),af X pins σ H s→CX X.stack H s E e s'→X.xe e s'
section
variable {X:Cx}{CX:kf}{k:Nat}{f C:Addr}{fd:FuncData}{ps:List Str}{sp:Sp}{dvs:List V}{ds:List Value}{E:XK}{x m:Str}{p pos apos:Pos}{e o:Expr}{es:List Expr}{ta:TE}{t:TA}
theorem Eu {pins:List (Addr×Obj)}{σ:St}{H:Hp}{s:Shared}{Q:VK}{us:List Value}{vs:List V} (F:bD X.prog X.w X.K X.mg X.base CX k f fd ps sp) (hr:cC k X.A) (hb:fA X.K fd ps ds) (hd:aM dvs ds) (hx:p8 CX X E)
 (I:af X pins σ H s) (r:aM vs us) (h:sp (vs++dvs) H Q E):wpAny (model X.prog X.w) X.A (call (.ref f) us) (EP X pins σ Q) X.xe s:=by
 have r2:aM (vs++dvs) (us++ds):=r.append hd
 have hl:(us++ds).length=ps.length:=by rw [←r2.length];exact F.len _ _ _ _ h
 refine wpAny_call (codeAny_mono (F.run X.A X.stack s H ⟨us,[]⟩ (us++ds) (vs++dvs) Q E hr I.env0 (hb s us I.kIn hl) r2 h) fun r s' hq=>?_)
 cases r with
 | error e=>exact hx pins σ H s e s' I hq
 | ok fl=>
  cases fl with
  | ret u=>exact I.after hq
  | next=>exact False.elim hq
  | brk=>exact False.elim hq
  | cont=>exact False.elim hq
theorem ai (F:bD X.prog X.w X.K X.mg X.base CX k f fd ps sp) (hr:cC k X.A) (hg:Gl X x) (hm:X.mg x=some (.ref f)) (hk:PySem.W.keepIn X.K (.ref f)=true) (hb:fA X.K fd ps ds) (hd:aM dvs ds) (hx:p8 CX X E)
 (ha:PA X (e :: es) t) (hdb:(x==("__debug__" : Str))=false:=by decide) (he:starEach (e :: es) X.env=(false,eval e X.env) :: starEach es X.env:=by rfl) (hpl:(backTo pos (starEach es X.env)).any (·.1)=false:=by rfl) :
 PE X (.Call (.Name x p) (e :: es) [] pos) (Fa sp dvs E t):=by
 intro pins s σ H Q I h
 refine wpAny_Call_Name_kw (ku I hg hm ?_ hdb)
 refine PySem.W.callWith_K (h₀:=X.base) I.ok.mod.kin hk (aW (ha pos pins s σ H _ I h) fun us s1 ⟨vs,H1,I1,r,q⟩=>⟨I1.kIn,?_⟩) he hpl
 exact Eu F hr hb hd hx I1 r q
end
section
variable {X:Cx}{CX:kf}{k:Nat}{f C:Addr}{fd:FuncData}{ps ks:List Str}{sp:Sp}{E:XK}{x m:Str}{p pos apos kpos:Pos}{e o:Expr}{es:List Expr}{kws:List Keyword}{te ta:TE}{t tk:TA}{nm:Option Str}
variable {g:List Value→List Value→List Value}{gV:List V→List V→List V}
end
structure aV (N P:List Str) (sc:Scope):Prop where
 kind:sc.kind=.function
 co:sc.isCoroutine=false
 gen:sc.isGenerator=false
 nd:N.Nodup
 pre:N.take P.length=P
 par:∀x∈P,sc.names.lookup x=some .local∨sc.names.lookup x=some .cell
 nofree:∀y∈sc.names,y.2≠.free
theorem ut {kindOf:Str→Option NameKind}{x:Str}:∀{binds:List (Str×Value)}{m:Str→Option Value},(∀v,(x,v)∉binds)→bindL kindOf binds m x=m x
 | [],_,_=>rfl
 | (n,v) :: r,m,h=>by
  unfold bindL
  rw [ut fun w hw=>h w (List.mem_cons_of_mem _ hw)]
  split
  ·have:x≠n:=by rintro rfl;exact h v List.mem_cons_self
   simp [this]
  ·rfl
theorem uk {kindOf:Str→Option NameKind}{x:Str}:∀{binds:List (Str×Value)}{m:Str→Option Value},(∀v,(x,v)∉binds)→bindC kindOf binds m x=m x
 | [],_,_=>rfl
 | (n,v) :: r,m,h=>by
  unfold bindC
  rw [uk fun w hw=>h w (List.mem_cons_of_mem _ hw)]
  split
  ·rfl
  ·have:x≠n:=by rintro rfl;exact h v List.mem_cons_self
   simp [this]
theorem tS {kindOf:Str→Option NameKind}{x:Str}{v:Value}:∀{P:List Str}{vs:List Value}{i:Nat}{m:Str→Option Value},P.Nodup→P[i]?=some x→vs[i]?=some v→kindOf x=some .local→
 bindL kindOf (P.zip vs) m x=some v
 | [],_,_,_,_,h,_,_=>by simp at h
 | _ :: _,[],_,_,_,_,h,_=>by simp at h
 | p :: P,w :: vs,0,m,nd,h1,h2,hk=>by
  simp at h1 h2;subst h1;subst h2
  show bindL kindOf ((p,w) :: P.zip vs) m p=_
  unfold bindL
  rw [ut fun v hv=>(List.nodup_cons.mp nd).1 (List.of_mem_zip hv).1,if_pos hk]
  simp
 | p :: P,w :: vs,i+1,m,nd,h1,h2,hk=>by
  show bindL kindOf ((p,w) :: P.zip vs) m x=_
  unfold bindL
  exact tS (i:=i) (List.nodup_cons.mp nd).2 (by simpa using h1) (by simpa using h2) hk
theorem uj {kindOf:Str→Option NameKind}{x:Str}{v:Value}:∀{P:List Str}{vs:List Value}{i:Nat}{m:Str→Option Value},P.Nodup→P[i]?=some x→vs[i]?=some v→kindOf x≠some .local→
 bindC kindOf (P.zip vs) m x=some v
 | [],_,_,_,_,h,_,_=>by simp at h
 | _ :: _,[],_,_,_,_,h,_=>by simp at h
 | p :: P,w :: vs,0,m,nd,h1,h2,hk=>by
  simp at h1 h2;subst h1;subst h2
  show bindC kindOf ((p,w) :: P.zip vs) m p=_
  unfold bindC
  rw [uk fun v hv=>(List.nodup_cons.mp nd).1 (List.of_mem_zip hv).1,if_neg hk]
  simp
 | p :: P,w :: vs,i+1,m,nd,h1,h2,hk=>by
  show bindC kindOf ((p,w) :: P.zip vs) m x=_
  unfold bindC
  exact uj (i:=i) (List.nodup_cons.mp nd).2 (by simpa using h1) (by simpa using h2) hk
def start (N:List Str) (vs:List V):St:=vs.map some++List.replicate (N.length - vs.length) none
def ou (CX:kf) (P:Program) (w:World) (K:PySem.W.Frag) (mg:Str→Option Value) (base:Heap) (N:List Str) (qual:Str) (scope:Scope) (f:Addr) (cd:Value) (A:Around) (outer:List Env) (s:Shared) (H:Hp) (E:XK):Cx where
 prog:=P
 w:=w
 K:=K
 mg:=mg
 base:=base
 A:=A.deeper (envOfC qual scope s.heap.objs.size f cd)
 N:=N
 s₀:=s
 H₀:=H
 env:=envOfC qual scope s.heap.objs.size f cd
 outer:=outer
 stack:=envOfC qual scope s.heap.objs.size f cd :: outer
 ex:=[]
 calm:=true
 fn:=fun _=>true
 pn:=[]
 xe:=fun e s'=>wpAny (model P w) (A.deeper (envOfC qual scope s.heap.objs.size f cd)) (leaving (envOfC qual scope s.heap.objs.size f cd) e) (fun _ s''=>CX outer H s E e s'') (fun e' s''=>CX outer H s E e' s'') s'
theorem vN {sc:Scope}{n:Nat}{x:Str} (h:sc.names.lookup x=some .cell):∃c,(cellsFrom n sc.names []).lookup x=some c:=by
 have q:=PySem.W.cellsFrom_some sc.names n [] (.inl h)
 exact Option.isSome_iff_exists.mp q
theorem yQ {CX:kf}{P:Program}{w:World}{K:PySem.W.Frag}{mg:Str→Option Value}{base:Heap}{N ps:List Str}{qual:Str}{scope:Scope}{f:Addr}{cd:Value}{A:Around}{outer:List Env}{s s1:Shared}{H:Hp}{E:XK}{us:List Value}{vs:List V}
 (S:aV N ps scope) (hd:A.handled=none) (e0:qY P w K mg base A outer s H) (hl:vs.length=ps.length) (r:aM vs us)
 (x:InCallC s s.heap.objs.size (bindL (envOfC qual scope s.heap.objs.size f cd).kindOf (ps.zip us) fun _=>none) (cellsFrom (s.heap.objs.size+1) scope.names []) (bindC (envOfC qual scope s.heap.objs.size f cd).kindOf (ps.zip us) fun _=>none) s1) :
 af (ou CX P w K mg base N qual scope f cd A outer s H E) [] (start N vs) H s1:=by
 have hpl:ps.length≤N.length:=by have:=congrArg List.length S.pre;rw [List.length_take] at this;trivial
 obtain ⟨h1,tk,rfl,hk⟩:=x.done
 have noA:∀b:Addr,b∉(ou CX P w K mg base N qual scope f cd A outer s H E).ex:=fun b z=>absurd (show b∈([]:List Addr) from z) (by simp)
 refine ⟨⟨e0.mod,S.kind,rfl,rfl,Nat.le_refl _,fun y z c h1 h2=>?_,fun y hy=>?_,fun y c _ h=>?_,fun _=>hd,Around.frames_deeper e0.frames,.inr ⟨rfl,rfl⟩,fun b z=>absurd z (noA b),e0.bs,e0.bsz,fun b _ _=>noA b,fun b z=>absurd z (noA b),e0.funs,e0.frf⟩,
  rfl,e0.bare,Un.kept hk,⟨_,x.toInCall.ns,fun i y v h1 h2 h3=>?_⟩,fun y c h=>⟨_,x.cell y c h⟩,e0.hok.fresh (Nat.le_refl _),fun y c h=>?_,fun p hp=>absurd (show p∈([]:List (Addr×Obj)) from hp) (by simp),e0.hok.kept hk,?_⟩
 ·exact name_of_addr x.apart (PySem.mem_of_lookup h1) (PySem.mem_of_lookup h2)
 ·have hy:scope.names.lookup y=some .cell∨scope.names.lookup y=some .free:=hy
  rcases hy with hy | hy
  ·exact vN hy
  ·exact absurd rfl (S.nofree _ (PySem.mem_of_lookup hy))
 ·exact Nat.le_of_lt (x.above y c (PySem.mem_of_lookup h))
 ·have hi:i<vs.length:=by
   unfold start at h2
   by_cases hi:i<vs.length
   ·exact hi
   ·rw [List.getElem?_append_right (by simpa using hi)] at h2
    rw [List.getElem?_replicate] at h2
    split at h2 <;> cases h2
  have ha:vs[i]?=some v:=by
   unfold start at h2
   rw [List.getElem?_append_left (by simpa using hi),List.getElem?_map] at h2
   cases e:vs[i]? with
   | none=>rw [e] at h2;cases h2
   | some a=>rw [e] at h2;cases h2;rfl
  obtain ⟨u,hu,rv⟩:=r.get ha
  have hp:ps[i]?=some y:=by
   rw [←S.pre,List.getElem?_take_of_lt (by trivial)];exact h1
  have ndP:ps.Nodup:=by rw [←S.pre];exact S.nd.sublist (List.take_sublist _ _)
  refine ⟨u,rv,?_⟩
  rcases S.par y (List.mem_of_getElem? hp) with k | k
  ·exact .inl ⟨k,tS ndP hp hu k⟩
  ·obtain ⟨c,e⟩:=vN (n:=s.heap.objs.size+1) k
   refine .inr ⟨.inl k,c,e,?_⟩
   have q:=x.cell y c e
   rw [uj ndP hp hu (by show scope.names.lookup y≠_;rw [k];decide)] at q
   exact q
 ·exact e0.hok.fresh (Nat.le_of_lt (x.above y c (PySem.mem_of_lookup h)))
 ·unfold start
  show _=N.length
  rw [List.length_append,List.length_map,List.length_replicate]
  trivial
theorem Bf {CX:kf}{P:Program}{w:World}{K:PySem.W.Frag}{mg:Str→Option Value}{base:Heap}{k:Nat}{f:Addr}{name qual:Str}{params:Arguments}{body:List Stmt}{scope:Scope}{dV kV doc pm cdv ct oc:Value}{an od:Option Addr}
 {osl:Array (Option Value)}{N ps:List Str}{sp:Sp} (lk:K.lookup f=some ⟨oc,od,.func (PySem.W.fnOf name qual params body scope dV kV doc pm an cdv ct),osl⟩) (hcd:PySem.W.codeIn K cdv qual=true) (S:aV N ps scope)
 (len:∀vs H Q E,sp vs H Q E→vs.length=ps.length)
 (hbody:∀(A:Around) (outer:List Env) (s:Shared) (H:Hp) (vs:List V) (Q:VK) (E:XK),cC k (A.deeper (envOfC qual scope s.heap.objs.size f cdv))→sp vs H Q E→
  ∃t,j7 (ou CX P w K mg base N qual scope f cdv A outer s H E) body t∧t { nx:=fun _ H'=>Q .non H',rt:=Q } (start N vs) H) :
 bD P w K mg base CX (k+1) f (PySem.W.fnOf name qual params body scope dV kV doc pm an cdv ct) ps sp:=by
 refine ⟨len,fun A outer s H args us vs Q E hr e0 hb r hsp=>?_⟩
 have hl:=len _ _ _ _ hsp
 have KX:K.In s.heap:=e0.mod.kin.keeps fun b o e=>(e0.bs b o e).1
 have lim:s.heap.NoLimit:=e0.mod.nolimit.keeps fun b o e=>(e0.bs b o e).1
 have hkind:∀y∈ps.zip us,scope.names.lookup y.1=some .local∨(scope.names.lookup y.1=some .cell∧((cellsFrom (s.heap.objs.size+1) scope.names []).lookup y.1).isSome=true):=fun ⟨n,v⟩ hy=>by
  rcases S.par n (List.of_mem_zip hy).1 with q | q
  ·exact .inl q
  ·exact .inr ⟨q,PySem.W.cellsFrom_some _ _ _ (.inl q)⟩
 refine codeAny_call_function hr.depth (KX _ _ lk) rfl S.co S.gen rfl (PySem.W.codeRec_of KX hcd) (hb _ _ _ _ ?_)
 refine wpAny_newFunctionEnv_cells S.kind hkind fun env he s1 x=>?_
 subst he
 refine ⟨lim.keeps x.toInCall.keep,codeAny_func ?_⟩
 obtain ⟨t,ht,hq⟩:=hbody A outer s H vs Q E (hr.deeper _) hsp
 have I:af (ou CX P w K mg base N qual scope f cdv A outer s H E) [] (start N vs) H s1:=yQ S hr.hd e0 hl r x
 refine wpAny_mono (ht [] s1 (start N vs) H _ I hq) (fun fl s' hs=>?_) fun e s' hs=>hs
 have fin:∀{σ':St}{H':Hp}{v:V}{u:Value},af (ou CX P w K mg base N qual scope f cdv A outer s H E) [] σ' H' s'→aX v u→Q v H'→CE outer P w H s Q u s':=
  fun {σ' H' v u} J rv q=>⟨v,H',J.os,J.bare,J.base,J.hok,rv,q⟩
 cases fl with
 | ret u=>
  obtain ⟨v,σ',H',J,rv,q⟩:=hs
  exact fin J rv q
 | next=>
  obtain ⟨σ',H',J,q⟩:=hs
  exact fin (v:=V.non) (u:=Value.none) J rfl q
 | brk=>
  obtain ⟨_,_,_,q⟩:=hs
  exact False.elim q
 | cont=>
  obtain ⟨_,_,_,q⟩:=hs
  exact False.elim q
end L2
namespace L2
open PySem PySem.Spec PyProof.Rows
section
variable {X:Cx}{x:Str}{p pos:Pos}{e:Expr}{es:List Expr}{t:TA}{id T:String}{r:List V→Hp→VK→Prop}
def Gu (r:List V→Hp→VK→Prop) (t:TA):TE:=fun σ H Q=>t σ H fun vs H1=>r vs H1 Q
theorem aB (hc:cf X (.builtin id) r) (hg:Gl X x) (hm:X.mg x=none) (hv:bootBuiltins x=some (.builtin id)) (ha:PA X (e :: es) t) (hn:x≠"__name__" := by decide) (hdb:(x==("__debug__" : Str))=false:=by decide)
 (he:starEach (e :: es) X.env=(false,eval e X.env) :: starEach es X.env:=by rfl) (hpl:(backTo pos (starEach es X.env)).any (·.1)=false:=by rfl):PE X (.Call (.Name x p) (e :: es) [] pos) (Gu r t):=by
 intro pins s σ H Q I h
 refine wpAny_Call_Name_kw (f8 I hg hm hv ?_ hn hdb)
 exact PyProof.Rows.callWith_builtin1 (aW (ha pos pins s σ H _ I h) fun us s1 ⟨vs,H1,I1,r1,q1⟩=>hc pins s1 σ H1 vs us Q I1 r1 q1) he hpl
theorem de (hc:cf X (.type T) r) (hg:Gl X x) (hm:X.mg x=none) (hv:bootBuiltins x=some (.type T)) (ha:PA X (e :: es) t) (hn:x≠"__name__" := by decide) (hdb:(x==("__debug__" : Str))=false:=by decide)
 (he:starEach (e :: es) X.env=(false,eval e X.env) :: starEach es X.env:=by rfl) (hpl:(backTo pos (starEach es X.env)).any (·.1)=false:=by rfl):PE X (.Call (.Name x p) (e :: es) [] pos) (Gu r t):=by
 intro pins s σ H Q I h
 refine wpAny_Call_Name_kw (f8 I hg hm hv ?_ hn hdb)
 exact PyProof.Rows.callWith_type1 (aW (ha pos pins s σ H _ I h) fun us s1 ⟨vs,H1,I1,r1,q1⟩=>hc pins s1 σ H1 vs us Q I1 r1 q1) he hpl
end
end L2
namespace HT
open PySem PyProof.Rows
section
open PySem.SeqAt
open PySem.AutoSeq1 (wpAny_loadPart')
open PySem.MeetsSeq PySem.MeetsSeq2 PySem.MeetsSeq3
end
section
variable {prog:Program}{w:World}{A:Around}{E:Value→Shared→Prop}{s:Shared}
def sIx (n d:Nat):Option Int→Nat
 | none=>d
 | some v=>if v<0 then (v+(n:Int)).toNat else min v.toNat n
theorem sIx_none (n d:Nat):sIx n d none=d:=rfl
theorem sIx_nat (n d k:Nat):sIx n d (some (k:Int))=min k n:=by
 show (if (k:Int)<0 then ((k:Int)+(n:Int)).toNat else min (k:Int).toNat n)=min k n
 rw [if_neg (by trivial),Int.toNat_natCast]
end
end HT
namespace L2
open PySem PySem.Spec PyProof.Rows
abbrev TO:=St→Hp→(Option Int→Hp→Prop)→Prop
def PO (X:Cx) (e:Option Expr) (t:TO):Prop:=
 ∀(pins:List (Addr×Obj)) (s:Shared) (σ:St) (H:Hp) (Q:Option Int→Hp→Prop),af X pins σ H s→t σ H Q→
   wpAny (model X.prog X.w) X.A (evalPart e X.env) (fun u s'=>bo fun o H'=>af X pins σ H' s'∧IsPart u o∧Q o H') X.xe s
def Ca:TO:=fun _ H Q=>Q none H
def E5 (t:TE):TO:=fun σ H Q=>t σ H fun x H1=>Ev x fun i=>Q (some i) H1
section
variable {X:Cx}{e:Expr}{te:TE}{lo hi:Option Expr}{tl th:TO}{pos p2:Pos}
theorem jn:PO X none Ca:=by
 intro pins s σ H Q I h
 rw [evalPart_none]
 exact wpAny_pure ⟨none,H,I,.none,h⟩
theorem gJ (h:PE X e te):PO X (some e) (E5 te):=by
 intro pins s σ H Q I hw
 rw [evalPart_some]
 refine aW (h pins s σ H _ I hw) fun u s1 ⟨x,H1,I1,r1,q1⟩=>?_
 obtain ⟨i,rfl,q⟩:=q1
 obtain ⟨t,rfl⟩:=r1
 exact ⟨some i,H1,I1,.int i t,q⟩
def Du (X:Cx) (r:V→Option Int→Option Int→Hp→VK→Prop):Prop:=
 ∀(pins:List (Addr×Obj)) (s:Shared) (σ:St) (H:Hp) (x:V) (v vl vu:Value) (lo hi:Option Int) (sl:Addr) (Q:VK),af X pins σ H s→aX x v→s.heap.IsSliceOf sl vl vu .none→IsPart vl lo→IsPart vu hi→r x lo hi H Q→
   bo fun T id=>typeLookup (.type T) "__getitem__" = pure (some (.builtin id))∧s.TypeIs v T∧wpAny (model X.prog X.w) X.A (getItem v (.ref sl)) (EP X pins σ Q) X.xe s
def Ho (r:V→Option Int→Option Int→Hp→VK→Prop) (te:TE) (tl th:TO):TE:=fun σ H Q=>te σ H fun x H1=>tl σ H1 fun l H2=>th σ H2 fun u H3=>r x l u H3 Q
theorem gv {r:V→Option Int→Option Int→Hp→VK→Prop} (hr:Du X r) (he:PE X e te) (hl:PO X lo tl) (hu:PO X hi th):PE X (.Subscript e (.Slice lo hi none p2) pos) (Ho r te tl th):=by
 intro pins s σ H Q I h
 refine Subscript_ (aW (he pins s σ H _ I h) fun v s1 ⟨x,H1,I1,r1,q1⟩=>?_)
 refine wpAny_Slice (aW (hl pins s1 σ H1 _ I1 q1) fun vl s2 ⟨l,H2,I2,pl,q2⟩=>aW (hu pins s2 σ H2 _ I2 q2) fun vu s3 ⟨u,H3,I3,pu,q3⟩=>?_)
 rw [evalPart_none]
 refine wpAny_pure ?_
 have I4:af X pins σ H3 { s3 with heap:=s3.heap.push { cls:=.type "slice",data:=.fields #[vl,vu,.none] } }:=I3.kept (t':=s3.toks) fun b ob q=>Heap.get?_push_of_some _ q
 obtain ⟨T,id,hT,ht,hg⟩:=hr pins { s3 with heap:=s3.heap.push { cls:=.type "slice",data:=.fields #[vl,vu,.none] } } σ H3 x v vl vu l u s3.heap.objs.size Q I4 r1 (Heap.IsSliceOf.new ..) pl pu q3
 show wpAny (model X.prog X.w) X.A (subscriptTail e (.Slice lo hi none p2) v (.ref s3.heap.objs.size)) (EP X pins σ Q) X.xe { s3 with heap:=s3.heap.push { cls:=.type "slice",data:=.fields #[vl,vu,.none] } }
 exact tail_any (ops:=[.ref s3.heap.objs.size,v]) ht hT hg (by with_unfolding_all rfl)
def jm (xs:List V) (lo hi:Option Int):List V:=(xs.drop (HT.sIx xs.length 0 lo)).take (HT.sIx xs.length xs.length hi - HT.sIx xs.length 0 lo)
theorem mD (xs:List V) (lo hi:Option Int):(jm xs lo hi).length≤xs.length:=by
 unfold jm
 rw [List.length_take,List.length_drop]
 exact Nat.le_trans (Nat.min_le_right ..) (Nat.sub_le ..)
end
end L2
namespace L2
open PySem PySem.Spec PyProof.Rows
def qW (n:Nat) (i:Int):Option Nat:=if 0≤i then (if i<n then some i.toNat else none) else if -(n:Int)≤i then some (i+n).toNat else none
def gW {α:Type} (xs:List α) (i:Int):Option α:=(qW xs.length i).bind fun j=>xs[j]?
theorem xk {n:Nat}{i:Int}{j:Nat} (h:qW n i=some j):seqIndex? i n=some j∧j<n∧-(n:Int)≤i∧i<n:=by
 unfold qW at h
 by_cases h0:0≤i
 ·rw [if_pos h0] at h
  by_cases h1:i<n
  ·rw [if_pos h1] at h
   have e:i.toNat=j:=Option.some.inj h
   exact ⟨by rw [seqIndex_of h0 h1,e],by trivial,by trivial,h1⟩
  ·rw [if_neg h1] at h;cases h
 ·rw [if_neg h0] at h
  by_cases h1:-(n:Int)≤i
  ·rw [if_pos h1] at h
   have e:(i+n).toNat=j:=Option.some.inj h
   exact ⟨by rw [seqIndex_neg (by trivial) h1,e],by trivial,h1,by trivial⟩
  ·rw [if_neg h1] at h;cases h
theorem tP {α:Type}{xs:List α}{i:Int}{v:α} (h:gW xs i=some v):∃j,seqIndex? i xs.length=some j∧xs[j]?=some v∧j<xs.length∧-(xs.length:Int)≤i∧i<xs.length:=by
 unfold gW at h
 cases e:qW xs.length i with
 | none=>rw [e] at h;cases h
 | some j=>
  rw [e] at h
  obtain ⟨h1,h2,h3,h4⟩:=xk e
  exact ⟨j,h1,h,h2,h3,h4⟩
theorem eX {α:Type}{xs:List α}{j:Nat}{v:α} (h:xs[j]?=some v):gW xs (j:Int)=some v:=by
 have hj:j<xs.length:=(List.getElem?_eq_some_iff.mp h).1
 have e:qW xs.length (j:Int)=some j:=by
  unfold qW
  rw [if_pos (by trivial),if_pos (by trivial)];simp
 unfold gW;rw [e];exact h
theorem Ae {α:Type} (xs:List α) (v:α):gW (xs++[v]) (-1)=some v:=by
 have hl:(xs++[v]).length=xs.length+1:=by simp
 have e:qW (xs++[v]).length (-1)=some xs.length:=by
  unfold qW
  rw [hl,if_neg (by decide),if_pos (by trivial)]
  congr 1
  trivial
 unfold gW
 rw [e]
 show (xs++[v])[xs.length]?=some v
 simp
def BW (b:Expr):Prop:=∀o i,subscripted b false o i=operate [o,i] (getItem o i)
def oM (X:Cx) (r:R2):Prop:=
 ∀(value slice:Expr) (pins:List (Addr×Obj)) (s:Shared) (σ:St) (H:Hp) (x y:V) (v u:Value) (Q:VK),af X pins σ H s→aX x v→aX y u→r x y H Q→
   subscripted slice false v u=operate [v,u] (getItem v u)→wpAny (model X.prog X.w) X.A (subscriptTail value slice v u) (EP X pins σ Q) X.xe s
def yH (X:Cx) (id:String) (r:V→List V→Hp→VK→Prop):Prop:=
 ∀(pins:List (Addr×Obj)) (s:Shared) (σ:St) (H:Hp) (x:V) (xs:List V) (v:Value) (us:List Value) (Q:VK),af X pins σ H s→aX x v→aM xs us→r x xs H Q→
   wpAny (model X.prog X.w) X.A (call (.builtin id) (v :: us)) (EP X pins σ Q) X.xe s
section
variable {X:Cx}{a b:Expr}{ta tb:TE}{pos:Pos}
theorem oM.or {r r':R2} (h:oM X r) (h':oM X r'):oM X (fun x y H Q=>r x y H Q∨r' x y H Q):=by
 intro value slice pins s σ H x y v u Q I rx ry q hs
 rcases q with q | q
 ·exact h value slice pins s σ H x y v u Q I rx ry q hs
 ·exact h' value slice pins s σ H x y v u Q I rx ry q hs
theorem aq {r:R2} (hr:oM X r) (ha:PE X a ta) (hb:PE X b tb) (hs:BW b):PE X (.Subscript a b pos) (A5 r ta tb):=by
 intro pins s σ H Q I h
 exact Subscript_ (Ah ha hb I h fun v u s2 x y H2 I2 rx ry q=>hr a b pins s2 σ H2 x y v u Q I2 rx ry q (hs _ _))
inductive F5 (K:PySem.W.Frag) (x:V) (y:V) (H:Hp) (Q:VK):Prop
 | mk (p:_) (xs:_) (i:_) (v:_) (h0:x=.ref p) (h1:y=.int i) (h2:ax K H p xs) (h3:gW xs i=some v) (h4:Q v H)
def Ab (K:PySem.W.Frag):R2:=fun x y H Q=>F5 K x y H Q
inductive FA (K:PySem.W.Frag) (x:V) (y:V) (H:Hp) (Q:VK):Prop
 | mk (p:_) (xs:_) (i:_) (v:_) (h0:x=.ref p) (h1:y=.int i) (h2:ap K H p xs) (h3:gW xs i=some v) (h4:Q v H)
def Aw (K:PySem.W.Frag):R2:=fun x y H Q=>FA K x y H Q
inductive FX (x:V) (y:V) (H:Hp) (Q:VK):Prop
 | mk (z:_) (i:_) (c:_) (h0:x=.str z) (h1:y=.int i) (h2:z.length≤sizeLine) (h3:gW z.cps.toList i=some c) (h4:Q (.str ⟨#[c]⟩) H)
def Ek:R2:=fun x y H Q=>FX  x y H Q
theorem xz:oM X (Ab X.K):=by
 intro value slice pins s σ H x y v u Q I rx ry h hs
 obtain ⟨p,xs,i,z,rfl,rfl,hq,he,q⟩:=h
 cases rx
 obtain ⟨t,rfl⟩:=ry
 obtain ⟨its,r,pl,hz⟩:=I.list hq
 obtain ⟨j,h1,h2,h3,h4,h5⟩:=tP he
 obtain ⟨w,ew,rw'⟩:=r.get h2
 have hl:=r.length
 have hn:=pC
 have fin:EP X pins σ Q w s:=⟨z,H,I,rw',q⟩
 by_cases h0:0≤i
 ·have hj:i.toNat=j:=by
   rw [seqIndex_of h0 h5] at h1
   exact Option.some.inj h1
  exact item_listR pl.isList h0 (by trivial) (by rw [hj];simpa using ew) fin hs
 ·have hj:(i+(its.toArray.size:Int)).toNat=j:=by
   rw [seqIndex_neg (by trivial) h4] at h1
   rw [List.size_toArray,←hl]
   exact Option.some.inj h1
  exact subscriptTail_builtinR (x:=w) pl.isList.typeIs slot_list_getitem.lookup
   (wpAny_getItem_list_neg (Q:=fun r s'=>r=w∧EP X pins σ Q r s') pl.isList (by trivial) (by rw [List.size_toArray] <;> trivial) (by trivial) (by rw [hj];simpa using ew) ⟨rfl,fin⟩) hs
theorem yK:oM X (Aw X.K):=by
 intro value slice pins s σ H x y v u Q I rx ry h hs
 obtain ⟨p,xs,i,z,rfl,rfl,hq,he,q⟩:=h
 cases rx
 obtain ⟨t,rfl⟩:=ry
 obtain ⟨its,r,pl,hz⟩:=I.tuple hq
 obtain ⟨j,h1,h2,h3,h4,h5⟩:=tP he
 obtain ⟨w,ew,rw'⟩:=r.get h2
 have hl:=r.length
 have hn:=pC
 have fin:EP X pins σ Q w s:=⟨z,H,I,rw',q⟩
 exact subscriptTail_builtinR (x:=w) pl.typeIs slot_tuple_getitem.lookup
  (getItem_tuple (j:=j) (Q:=fun r s'=>r=w∧EP X pins σ Q r s') pl (by trivial) (by trivial) (by rw [List.size_toArray,←hl];exact h1) (by simpa using ew) ⟨rfl,fin⟩) hs
theorem vD:oM X Ek:=by
 intro value slice pins s σ H x y v u Q I rx ry h hs
 obtain ⟨z,i,c,rfl,rfl,hz,he,q⟩:=h
 obtain ⟨t,rfl⟩:=rx
 obtain ⟨t',rfl⟩:=ry
 obtain ⟨j,h1,h2,h3,h4,h5⟩:=tP he
 have hl:z.cps.toList.length=z.length:=by simp [Str.length]
 rw [hl] at h1 h4 h5
 have hn:=pC
 exact tail_any (typeIs_str s z t) slot_str_getitem.lookup (getItem_str (c:=c) (by
  have e1:decide (i < -(2 ^ 63:Int))=false:=decide_eq_false (by trivial)
  have e2:decide (i≥2 ^ 63)=false:=decide_eq_false (by trivial)
  rw [e1,e2,Bool.or_false]) (by rw [h1];simpa using h2) ⟨.str ⟨#[c]⟩,H,I.tok _,⟨_,rfl⟩,q⟩) hs
def HD (K:PySem.W.Frag):R2:=fun x y H Q=>Ab K x y H Q∨Aw K x y H Q∨Ek x y H Q
theorem iH:oM X (HD X.K):=xz.or (yK.or vD)
theorem yi (its:List Value) (n j:Nat) (u:Value):Obj.mapSeq (·.setIfInBounds j u) { cls:=.type "list",data:=.seq its.toArray n }={ cls:=.type "list",data:=.seq (its.set j u).toArray n }:=by
 simp [Obj.mapSeq]
theorem af.lst {pins:List (Addr×Obj)}{σ:St}{H:Hp}{s:Shared}{p:Addr}{xs:List V} (I:af X pins σ H s) (h:H p=some (.lst xs)) :
 bo fun (its:List Value) (n:Nat)=>aM xs its∧s.heap.get? p=some { cls:=.type "list",data:=.seq its.toArray n }∧xs.length≤sizeLine:=by
 obtain ⟨z,its,n,r,e⟩:=I.hok p _ h
 exact ⟨its,n,r,e,z⟩
theorem af.lstUpd {pins:List (Addr×Obj)}{σ:St}{H:Hp}{s:Shared}{p:Addr}{xs ys:List V}{its its':List Value}{n n':Nat}{f:Obj→Obj} (I:af X pins σ H s) (h:H p=some (.lst xs))
 (ho:s.heap.get? p=some { cls:=.type "list",data:=.seq its.toArray n }) (hf:f { cls:=.type "list",data:=.seq its.toArray n }={ cls:=.type "list",data:=.seq its'.toArray n' }) (r:aM ys its') (hz:ys.length≤sizeLine) (t:Nat) :
 af X pins σ (aN H p (.lst ys)) { s with heap:=s.heap.update p f,toks:=t }:=by
 have e:(s.heap.update p f).get? p=some { cls:=.type "list",data:=.seq its'.toArray n' }:=by
  rw [Heap.get?_update_self f ho (by rw [hf] <;> rfl),hf]
 refine I.write (x:=p) (e:=p) (by rw [h];trivial) (.inl rfl) (fun b u hb q=>(Heap.get?_update_other _ _ (Ne.symm hb)).trans q) ⟨_,e⟩ ?_
 exact ⟨hz,its',n',r,e⟩
inductive Dl (o:V) (i:V) (v:V) (H:Hp) (Q:(Hp→Prop)):Prop
 | mk (p:_) (xs:_) (k:_) (j:_) (h0:o=.ref p) (h1:i=.int k) (h2:H p=some (.lst xs)) (h3:qW xs.length k=some j) (h4:Q (aN H p (.lst (xs.set j v))))
def Fq:V→V→V→Hp→(Hp→Prop)→Prop:=fun o i v H Q=>Dl  o i v H Q
theorem rT:AY X Fq:=by
 intro pins s σ H o i v ov iv u Q I ro ri rv h
 obtain ⟨p,xs,k,j,rfl,rfl,hp,hj,q⟩:=h
 cases ro
 obtain ⟨t,rfl⟩:=ri
 obtain ⟨its,n,r,ho,hz⟩:=I.lst hp
 obtain ⟨h1,h2,h3,h4⟩:=xk hj
 have hl:=r.length
 have hn:=pC
 have I':af X pins σ (aN H p (.lst (xs.set j v))) { s with heap:=s.heap.update p (Obj.mapSeq (·.setIfInBounds j u)) }:=
  I.lstUpd hp ho (yi its n j u) (r.set rv j) (by rw [List.length_set];exact hz) s.toks
 by_cases h0:0≤k
 ·have hk:k.toNat=j:=by
   rw [seqIndex_of h0 h4] at h1
   exact Option.some.inj h1
  exact PySem.W.ki_setAt ho h0 (by trivial) (by rw [List.size_toArray,←hl];exact h4) (by rw [hk];exact ⟨_,I',q⟩)
 ·have hk:(k+(its.toArray.size:Int)).toNat=j:=by
   rw [seqIndex_neg (by trivial) h3] at h1
   rw [List.size_toArray,←hl]
   exact Option.some.inj h1
  exact PySem.W.ki_setBack ho (by trivial) (by rw [List.size_toArray,←hl];exact h3) (by trivial) (by rw [hk];exact ⟨_,I',q⟩)
theorem vC (lo hi:Option Int) (n:Nat):(sliceBounds lo hi none n).1=((HT.sIx n 0 lo:Nat):Int)∧(sliceBounds lo hi none n).2.1=((HT.sIx n n hi:Nat):Int)∧(sliceBounds lo hi none n).2.2=1:=by
 refine ⟨?_,?_,rfl⟩
 ·cases lo with
  | none=>simp [sliceBounds,HT.sIx]
  | some i=>
   simp only [sliceBounds,HT.sIx,Option.getD_none,show (1:Int) > 0 by decide,if_true]
   by_cases h:i<0
   ·simp only [h,if_true] <;> trivial
   ·simp only [h,if_false] <;> trivial
 ·cases hi with
  | none=>simp [sliceBounds,HT.sIx]
  | some i=>
   simp only [sliceBounds,HT.sIx,Option.getD_none,show (1:Int) > 0 by decide,if_true]
   by_cases h:i<0
   ·simp only [h,if_true] <;> trivial
   ·simp only [h,if_false] <;> trivial
theorem uY (its:List Value) (lo hi:Option Int):slicePick its.toArray lo hi none=((its.drop (HT.sIx its.length 0 lo)).take (HT.sIx its.length its.length hi - HT.sIx its.length 0 lo)).toArray:=by
 obtain ⟨h1,h2,h3⟩:=vC lo hi its.toArray.size
 unfold slicePick
 rw [h1,h2,h3]
 simp only [sliceRange_one,pick_run,List.size_toArray] <;> rfl
inductive E6 (K:PySem.W.Frag) (x:V) (lo:Option Int) (hi:Option Int) (H:Hp) (Q:VK):Prop
 | mk (a:_) (xs:_) (h0:x=.ref a) (h1:ax K H a xs) (h2:∀p,H p=none→Q (.ref p) (aN H p (.lst (jm xs lo hi))))
def GP (K:PySem.W.Frag):V→Option Int→Option Int→Hp→VK→Prop:=fun x lo hi H Q=>E6 K x lo hi H Q
theorem td:Du X (GP X.K):=by
 intro pins s σ H x v vl vu lo hi sl Q I rx hs pl pu h
 obtain ⟨a,xs,rfl,hx,q⟩:=h
 cases rx
 obtain ⟨its,r,ht,hz⟩:=I.list hx
 have hlen:=r.length
 refine ⟨"list",_,slot_list_getitem.lookup,ht.isList.typeIs,?_⟩
 refine wpAny_getItem_list_slice ht.isList hs pl pu .none (by simp) ?_ (by rw [List.size_toArray] <;> trivial)
 rw [uY,←hlen]
 refine ⟨.ref s.heap.objs.size,_,I.laid (t':=s.toks) (o:=.lst (jm xs lo hi)) (fun b ob q=>Heap.get?_push_of_some _ q) (Nat.le_refl _) ?_,rfl,q _ (I.hok.fresh (Nat.le_refl _))⟩
 exact ⟨Nat.le_trans (mD xs lo hi) hz,_,0,(r.drop (HT.sIx xs.length 0 lo)).take (HT.sIx xs.length xs.length hi - HT.sIx xs.length 0 lo),Heap.get?_push_size _ rfl⟩
def jz:V→Bool
 | .non=>true
 | .bl _=>true
 | .int _=>true
 | .str _=>true
 | _=>false
def pz:V→V→Bool
 | .non,.non=>true
 | .bl a,.bl b=>a==b
 | .bl a,.int b=>(if a then 1 else 0)==b
 | .int a,.bl b=>a==(if b then 1 else 0)
 | .int a,.int b=>a==b
 | .str a,.str b=>a==b
 | _,_=>false
theorem DL {A:Around}{s:Shared}{y x:V}{u v:Value} (ry:aX y u) (rx:aX x v) (fy:jz y=true) (fx:jz x=true):SeqAt.EqAt A s u v (pz y x):=by
 cases y with
 | non=>
  cases ry
  cases x with
  | non=>cases rx;exact SeqAt.EqAt.same _
  | bl b=>cases rx;exact SeqAt.EqAt.none_bool b
  | int b=>obtain ⟨t,rfl⟩:=rx;exact SeqAt.EqAt.none_int b t
  | str b=>obtain ⟨t,rfl⟩:=rx;exact SeqAt.EqAt.none_str b t
  | _=>exact absurd (show false=true from fx) Bool.false_ne_true
 | bl a=>
  cases ry
  cases x with
  | non=>cases rx;exact SeqAt.EqAt.bool_none a
  | bl b=>cases rx;exact SeqAt.EqAt.bool_bool a b
  | int b=>obtain ⟨t,rfl⟩:=rx;exact SeqAt.EqAt.bool_int a b t
  | str b=>obtain ⟨t,rfl⟩:=rx;exact SeqAt.EqAt.bool_str a b t
  | _=>exact absurd (show false=true from fx) Bool.false_ne_true
 | int a=>
  obtain ⟨t',rfl⟩:=ry
  cases x with
  | non=>cases rx;exact SeqAt.EqAt.int_none a t'
  | bl b=>cases rx;exact SeqAt.EqAt.int_bool a t' b
  | int b=>obtain ⟨t,rfl⟩:=rx;exact SeqAt.EqAt.int_int a t' b t
  | str b=>obtain ⟨t,rfl⟩:=rx;exact SeqAt.EqAt.int_str a t' b t
  | _=>exact absurd (show false=true from fx) Bool.false_ne_true
 | str a=>
  obtain ⟨t',rfl⟩:=ry
  cases x with
  | non=>cases rx;exact SeqAt.EqAt.str_none a t'
  | bl b=>cases rx;exact SeqAt.EqAt.str_bool a t' b
  | int b=>obtain ⟨t,rfl⟩:=rx;exact SeqAt.EqAt.str_int a t' b t
  | str b=>obtain ⟨t,rfl⟩:=rx;exact SeqAt.EqAt.str_str a t' b t
  | _=>exact absurd (show false=true from fx) Bool.false_ne_true
 | _=>exact absurd (show false=true from fy) Bool.false_ne_true
def kO (x:V) (u:Value):Bool:=match u with
 | .none=>pz .non x
 | .bool b=>pz (.bl b) x
 | .int i _=>pz (.int i) x
 | .str z _=>pz (.str z) x
 | _=>false
theorem zG {x y:V}{u:Value} (r:aX y u) (f:jz y=true):kO x u=pz y x:=by
 cases y with
 | non=>cases r;rfl
 | bl b=>cases r;rfl
 | int i=>obtain ⟨t,rfl⟩:=r;rfl
 | str z=>obtain ⟨t,rfl⟩:=r;rfl
 | _=>exact absurd (show false=true from f) Bool.false_ne_true
theorem mS {x:V}:∀{xs:List V}{us:List Value},aM xs us→xs.all jz=true→us.any (kO x)=xs.any fun y=>pz y x
 | _,_,.nil,_=>rfl
 | y :: xs,u :: us,.cons r t,f=>by
  rw [List.all_cons,Bool.and_eq_true] at f
  rw [List.any_cons,List.any_cons,zG r f.1,mS t f.2]
theorem kN {A:Around}{s:Shared}{x:V}{v:Value} (rx:aX x v) (fx:jz x=true):∀{xs:List V}{us:List Value},aM xs us→xs.all jz=true→∀u∈us,SeqAt.EqAt A s u v (kO x u)
 | _,_,.nil,_=>fun u hu=>by cases hu
 | y :: xs,u :: us,.cons r t,f=>fun u' hu=>by
  rw [List.all_cons,Bool.and_eq_true] at f
  rcases List.mem_cons.mp hu with rfl | hu
  ·rw [zG r f.1];exact DL r rx f.1 fx
  ·exact kN rx fx t f.2 u' hu
def si (x:V) (xs:List V):Bool:=xs.any fun y=>pz y x
inductive Gw (K:PySem.W.Frag) (neg:Bool) (x:V) (y:V) (H:Hp) (Q:VK):Prop
 | mk (p:_) (xs:_) (h0:y=.ref p) (h1:(ax K H p xs∨ap K H p xs)) (h2:jz x=true) (h3:xs.all jz=true) (h4:Q (.bl (if neg then !si x xs else si x xs)) H)
def A3 (K:PySem.W.Frag) (neg:Bool):R2:=fun x y H Q=>Gw K neg x y H Q
theorem zO:cB X (compareOp .In) (A3 X.K false):=by
 intro pins s σ H x y v u Q I rx ry h
 obtain ⟨p,xs,rfl,hq,fx,fs,q⟩:=h
 cases ry
 rcases hq with hq | hq
 ·obtain ⟨its,r,pl,hz⟩:=I.list hq
  refine SeqAt.in_listAt (kO x) pl.isList (fun w hw=>kN rx fx r fs w (by simpa using hw)) ⟨.bl _,H,I,rfl,?_⟩
  rw [show its.toArray.any (kO x)=its.any (kO x) by simp,mS r fs]
  exact q
 ·obtain ⟨its,r,pl,hz⟩:=I.tuple hq
  refine SeqAt.in_tupleAt (kO x) pl (fun w hw=>kN rx fx r fs w (by simpa using hw)) ⟨.bl _,H,I,rfl,?_⟩
  rw [show its.toArray.any (kO x)=its.any (kO x) by simp,mS r fs]
  exact q
theorem vw:cB X (compareOp .NotIn) (A3 X.K true):=by
 intro pins s σ H x y v u Q I rx ry h
 obtain ⟨p,xs,rfl,hq,fx,fs,q⟩:=h
 cases ry
 rcases hq with hq | hq
 ·obtain ⟨its,r,pl,hz⟩:=I.list hq
  refine SeqAt.notIn_listAt (kO x) pl.isList (fun w hw=>kN rx fx r fs w (by simpa using hw)) ⟨.bl _,H,I,rfl,?_⟩
  rw [show its.toArray.any (kO x)=its.any (kO x) by simp,mS r fs]
  exact q
 ·obtain ⟨its,r,pl,hz⟩:=I.tuple hq
  refine SeqAt.notIn_tupleAt (kO x) pl (fun w hw=>kN rx fx r fs w (by simpa using hw)) ⟨.bl _,H,I,rfl,?_⟩
  rw [show its.toArray.any (kO x)=its.any (kO x) by simp,mS r fs]
  exact q
theorem pG:cf X (.builtin "len") (fun xs H Q=>bo fun p ys=>xs=[.ref p]∧(ax X.K H p ys∨ap X.K H p ys)∧Q (.int ys.length) H):=by
 intro pins s σ H xs us Q I r h
 obtain ⟨p,ys,rfl,hq,q⟩:=h
 obtain ⟨u,rfl,rx⟩:=nu r
 cases rx
 have hn:=pC
 rcases hq with hq | hq
 ·obtain ⟨its,r',pl,hz⟩:=I.list hq
  have hlen:=r'.length
  exact Calls.call_len_list pl.isList (by simp only [List.size_toArray] <;> trivial) ⟨.int ys.length,H,I.tok _,⟨s.toks+1,by rw [List.size_toArray,hlen]⟩,q⟩
 ·obtain ⟨its,r',pl,hz⟩:=I.tuple hq
  have hlen:=r'.length
  exact len_tuple pl (by simp only [List.size_toArray] <;> trivial) ⟨.int ys.length,H,I.tok _,⟨s.toks+1,by rw [List.size_toArray,hlen]⟩,q⟩
theorem p6:cf X (.type "list") (fun xs H Q=>bo fun p ys=>xs=[.ref p]∧(ax X.K H p ys∨ap X.K H p ys)∧∀l,H l=none→Q (.ref l) (aN H l (.lst ys))):=by
 intro pins s σ H xs us Q I r h
 obtain ⟨p,ys,rfl,hq,q⟩:=h
 obtain ⟨u,rfl,rx⟩:=nu r
 cases rx
 have fin:∀(its:List Value),aM ys its→ys.length≤sizeLine→∀(h':Heap) (c':Nat),(∀b o',s.heap.get? b=some o'→h'.get? b=some o')→
  h'.get? s.heap.objs.size=some { cls:=.type "list",dict:=none,data:=.seq its.toArray c',slots:=#[] }→EP X pins σ Q (.ref s.heap.objs.size) { s with heap:=h' }:=fun its r' hz h' c' kp e=>
  ⟨.ref s.heap.objs.size,_,I.laid (t':=s.toks) kp (Nat.le_refl _) (show bh X.prog X.w _ h' _ (.lst ys) from ⟨hz,its,c',r',e⟩),rfl,q _ (I.hok.fresh (Nat.le_refl _))⟩
 rcases hq with hq | hq
 ·obtain ⟨its,r',pl,hz⟩:=I.list hq
  have hlen:=r'.length
  obtain ⟨o,ho,hc,n,hd⟩:=pl.isList
  exact call_list_seq p (.inl rfl) ho hc hd (fun h' c' kp e=>fin its r' hz h' c' kp e) (by simp only [List.size_toArray] <;> trivial)
 ·obtain ⟨its,r',pl,hz⟩:=I.tuple hq
  have hlen:=r'.length
  obtain ⟨o,ho,hc,n,hd⟩:=pl
  exact call_list_seq p (.inr rfl) ho hc hd (fun h' c' kp e=>fin its r' hz h' c' kp e) (by simp only [List.size_toArray] <;> trivial)
theorem uN:cf X (.type "tuple") (fun xs H Q=>bo fun p ys=>xs=[.ref p]∧((ax X.K H p ys∧∀l,H l=none→Q (.ref l) (aN H l (.tup ys)))∨(ap X.K H p ys∧Q (.ref p) H))):=by
 intro pins s σ H xs us Q I r h
 obtain ⟨p,ys,rfl,h⟩:=h
 obtain ⟨u,rfl,rx⟩:=nu r
 cases rx
 rcases h with ⟨hq,q⟩ | ⟨hq,q⟩
 ·obtain ⟨its,r',pl,hz⟩:=I.list hq
  have hlen:=r'.length
  refine call_tuple_list pl.isList (fun h' kp=>?_) (by simp only [List.size_toArray] <;> trivial)
  have I1:af X pins σ H { s with heap:=h' }:=I.kept (t':=s.toks) kp
  have I2:af X pins σ (aN H h'.objs.size (.tup ys)) { s with heap:=h'.push { cls:=.type "tuple",data:=.seq its.toArray } }:=
   I1.laid (t':=s.toks) (fun b o e=>Heap.get?_push_of_some _ e) (Nat.le_refl _) (show bh X.prog X.w _ _ _ (.tup ys) from ⟨hz,its,r',IsTup.new _ _,_,Heap.get?_push_size _ rfl,rfl⟩)
  exact ⟨.ref h'.objs.size,_,I2,rfl,q _ (I1.hok.fresh (Nat.le_refl _))⟩
 ·obtain ⟨its,r',pl,hz⟩:=I.tuple hq
  exact call_tuple_same pl ⟨.ref p,H,I,rfl,q⟩
def D8 (K:PySem.W.Frag) (T:String) (x:V) (H:Hp):Prop:=match x with
 | .str _=>T = "str"
 | .int _=>T = "int"
 | .ref p=>(T = "list"∧∃xs,ax K H p xs)∨(T = "tuple"∧∃o,K.lookup p=some o∧o.cls=.type "tuple"∧o.dict=none)∨
  (T = "dict"∧((∃kvs,H p=some (.dK kvs))∨∃kvs,H p=some (.dT kvs)))∨(T = "set"∧bo fun S n=>H p=some (.set S n))
 | _=>False
theorem zz {pins:List (Addr×Obj)}{σ:St}{H:Hp}{s:Shared}{T:String}{x:V}{v:Value} (I:af X pins σ H s) (r:aX x v) (ty:D8 X.K T x H) :
 s.TypeIs v T∧∀a,v=.ref a→∃ob,s.heap.get? a=some ob∧ob.dict=none:=by
 cases x with
 | str z=>
  obtain ⟨t,rfl⟩:=r
  cases (show T = "str" from ty)
  exact ⟨typeIs_str s z t,fun _ e=>nomatch e⟩
 | int i=>
  obtain ⟨t,rfl⟩:=r
  cases (show T = "int" from ty)
  exact ⟨typeIs_int s i t,fun _ e=>nomatch e⟩
 | ref p=>
  cases r
  rcases ty with ⟨rfl,xs,hq⟩ | ⟨rfl,o,hk,hc,hd⟩ | ⟨rfl,hk⟩ | ⟨rfl,S,n,hk⟩
  ·obtain ⟨its,_,pl,_⟩:=I.list hq
   refine ⟨pl.isList.typeIs,fun a e=>?_⟩
   cases e
   obtain ⟨o,n,e,c,hd,_⟩:=pl
   exact ⟨o,e,hd⟩
  ·refine ⟨⟨o,I.kIn p o hk,hc⟩,fun a e=>?_⟩
   cases e
   exact ⟨o,I.kIn _ o hk,hd⟩
  ·have z:∃o,s.heap.get? p=some o∧o.ExactDict:=by
    rcases hk with ⟨kvs,hk⟩ | ⟨kvs,hk⟩
    ·obtain ⟨_,_,_,_,o,_,_,e,ex,_⟩:=I.hok p _ hk
     exact ⟨o,e,ex⟩
    ·obtain ⟨_,_,_,_,o,_,_,e,ex,_⟩:=I.hok p _ hk
     exact ⟨o,e,ex⟩
   obtain ⟨o,e,ex⟩:=z
   refine ⟨⟨o,e,ex.1⟩,fun a e2=>?_⟩
   cases e2
   exact ⟨o,e,ex.2.1⟩
  ·obtain ⟨o,_,_,_,e,ex,_⟩:=I.hok p _ hk
   refine ⟨⟨o,e,ex.1⟩,fun a e2=>?_⟩
   cases e2
   exact ⟨o,e,ex.2.1⟩
 | _=>exact False.elim ty
def GR (K:PySem.W.Frag) (T:String) (r:V→List V→Hp→VK→Prop) (to:TE):TE:=fun σ H Q=>to σ H fun x H1=>D8 K T x H1∧r x [] H1 Q
def Gk (K:PySem.W.Frag) (T:String) (r:V→List V→Hp→VK→Prop) (to:TE) (t:TA):TE:=fun σ H Q=>to σ H fun x H1=>D8 K T x H1∧t σ H1 fun xs H2=>r x xs H2 Q
variable {o e:Expr}{es:List Expr}{to:TE}{t:TA}{name:Str}{apos cpos:Pos}{T id:String}{r:V→List V→Hp→VK→Prop}
theorem D6 (pa:PlainAttrs T) (slot:Slot T name id) (hty:typeOf (.builtin id)=pure (.type "method_descriptor")) (hm:yH X id r) (ho:PE X o to)
 (hbase:attributeBase o name X.env (eval o X.env)=eval o X.env:=by rfl) (hline:(apos.endLine==cpos.line)=true:=by rfl):PE X (.Call (.Attribute o name apos) [] [] cpos) (GR X.K T r to):=by
 intro pins s σ H Q I h
 refine wpAny_Call_method0_late hbase hline (aW (ho pins s σ H _ I h) fun v s1 ⟨x,H1,I1,r1,ty,q1⟩=>?_)
 obtain ⟨h1,h2⟩:=zz I1 r1 ty
 exact ⟨T,id,pa,slot,hty,h1,h2,Calls.callWith_builtin rfl (PySem.evalArgs_none (hm pins s1 σ H1 x [] v [] Q I1 r1 .nil q1))⟩
theorem FL (pa:PlainAttrs T) (slot:Slot T name id) (hty:typeOf (.builtin id)=pure (.type "method_descriptor")) (hm:yH X id r) (ho:PE X o to) (ha:PA X (e :: es) t)
 (hbase:attributeBase o name X.env (eval o X.env)=eval o X.env:=by rfl)
 (hfew:((backTo cpos (starEach (e :: es) X.env)).all (fun x=>!x.1) && (backToKw cpos (keywordEach [] X.env)).all (fun x=>x.1.isSome)
  && decide ((e :: es).length+([]:List Keyword).length+(if ([]:List Keyword).isEmpty then 0 else 1)<30))=true:=by rfl)
 (hline:(apos.endLine==cpos.line)=true:=by rfl) (hs:starEach (e :: es) X.env=(false,eval e X.env) :: starEach es X.env:=by rfl) (hplain:(backTo cpos (starEach es X.env)).any (·.1)=false:=by rfl) :
 PE X (.Call (.Attribute o name apos) (e :: es) [] cpos) (Gk X.K T r to t):=by
 intro pins s σ H Q I h
 refine wpAny_Call_method_late hbase hfew hline rfl (aW (ho pins s σ H _ I h) fun v s1 ⟨x,H1,I1,r1,ty,q1⟩=>?_)
 obtain ⟨h1,h2⟩:=zz I1 r1 ty
 refine ⟨T,id,pa,slot,hty,h1,h2,?_⟩
 have hA:=ha cpos pins s1 σ H1 _ I1 q1
 rw [hs] at hA ⊢
 refine Calls.callWith_builtin (by show (false || (backTo cpos (starEach es X.env)).any (·.1))=false;rw [hplain] <;> rfl) (Calls.evalArgs_plain ?_)
 exact aW hA fun us s2 ⟨vs,H2,I2,r2,q2⟩=>hm pins s2 σ H2 x vs v us Q I2 r1 r2 q2
/- xs.append(e), list.index on a module's tuple .. are yH facts of 06m -/
end
end L2
namespace L2
open PySem PySem.Spec PyProof.Rows
def wj (X:Cx) (id:String) (r:V→List V→Hp→VK→Prop):Prop:=
 ∀(pins:List (Addr×Obj)) (s:Shared) (σ:St) (H:Hp) (x:V) (xs:List V) (v:Value) (us:List Value) (Q:VK),af X pins σ H s→aX x v→aM xs us→r x xs H Q→
   wpAny (model X.prog X.w) X.A (call (.builtin id) (v :: us)) (EP X pins σ Q) X.xe s
theorem Paired.un {α β:Type}{R:α→β→Prop}{x:α}{xs:List α}{us:List β} (h:Paired R (x :: xs) us):bo fun u vs=>us=u :: vs∧R x u∧Paired R xs vs:=by
 cases h with
 | cons r q=>exact ⟨_,_,rfl,r,q⟩
theorem Paired.un0 {α β:Type}{R:α→β→Prop}{us:List β} (h:Paired R [] us):us=[]:=by
 cases h with
 | nil=>rfl
theorem aM.one {x:V}{us:List Value} (h:aM [x] us):∃u,us=[u]∧aX x u:=by
 obtain ⟨u,vs,rfl,r,q⟩:=Paired.un h
 rw [Paired.un0 q]
 exact ⟨u,rfl,r⟩
theorem aM.two {x y:V}{us:List Value} (h:aM [x,y] us):bo fun u v=>us=[u,v]∧aX x u∧aX y v:=by
 obtain ⟨u,vs,rfl,r,q⟩:=Paired.un h
 obtain ⟨v,rfl,q2⟩:=aM.one q
 exact ⟨u,v,rfl,r,q2⟩
theorem aM.zero:∀{us:List Value},aM [] us→us=[]
 | _,.nil=>rfl
theorem aM.dropLast {xs:List V}{us:List Value} (h:aM xs us):aM xs.dropLast us.dropLast:=by
 induction h with
 | nil=>exact .nil
 | cons r t ih=>
  cases t with
  | nil=>exact .nil
  | cons q t'=>exact .cons r ih
theorem aM.rep {xs:List V}{us:List Value} (h:aM xs us):∀k:Nat,aM (List.replicate k xs).flatten (List.replicate k us).flatten
 | 0=>.nil
 | k+1=>by
  rw [List.replicate_succ,List.replicate_succ,List.flatten_cons,List.flatten_cons]
  exact aM.append h (aM.rep h k)
theorem yh {α:Type} (l:List α):l.eraseIdx (l.length - 1)=l.dropLast:=by
 induction l with
 | nil=>rfl
 | cons a r ih=>
  cases r with
  | nil=>rfl
  | cons b r=>
   have e:(a :: b :: r).length - 1=((b :: r).length - 1)+1:=by
    have h1:(a :: b :: r).length=r.length+2:=rfl
    have h2:(b :: r).length=r.length+1:=rfl
    trivial
   rw [e,List.eraseIdx_cons_succ,ih]
   all_goals rfl
theorem uh (its:List Value):∀(k:Nat) (acc:List Value),
 List.foldl (fun x1 x2=>x1++x2) acc.toArray (List.replicate k its.toArray)=(acc++(List.replicate k its).flatten).toArray
 | 0,acc=>by simp
 | k+1,acc=>by
  have e:acc.toArray++its.toArray=(acc++its).toArray:=by simp
  have e2:(acc++its)++(List.replicate k its).flatten=acc++(List.replicate (k+1) its).flatten:=by
   rw [List.replicate_succ,List.flatten_cons,List.append_assoc]
  rw [←e2,←uh its k (acc++its),←e,List.replicate_succ,List.foldl_cons]
section
variable {X:Cx}{pins:List (Addr×Obj)}{σ:St}{H:Hp}{s:Shared}{l b:Addr}{xs ys zs:List V}
theorem af.lset {its its':List Value}{n:Nat}{f:Array Value→Array Value}{t':Nat} (I:af X pins σ H s) (hH:H l=some (.lst xs))
 (e:s.heap.get? l=some { cls:=.type "list",data:=.seq its.toArray n }) (hf:f its.toArray=its'.toArray) (hv:aM ys its') (hz:ys.length≤sizeLine) :
 af X pins σ (aN H l (.lst ys)) { s with heap:=s.heap.update l (Obj.mapSeq f),toks:=t' }:=by
 have q:=PySem.IsL.update e f
 rw [hf] at q
 refine I.write (x:=l) (e:=l) (by rw [hH];exact trivial) (.inl rfl) (fun b' u hb hu=>(Heap.get?_update_other s.heap (Obj.mapSeq f) (Ne.symm hb)).trans hu) ⟨_,q⟩ ?_
 exact ⟨hz,its',_,hv,q⟩
theorem af.lnew {its:List Value}{t':Nat} (I:af X pins σ H s) (hv:aM ys its) (hz:ys.length≤sizeLine) :
 af X pins σ (aN H s.heap.objs.size (.lst ys)) { s with heap:=s.heap.push { cls:=.type "list",data:=.seq its.toArray },toks:=t' }:=
 I.laid (fun _ _ q=>Heap.get?_push_of_some _ q) (Nat.le_refl _) ⟨hz,its,0,hv,Heap.get?_push_size _ rfl⟩
theorem af.fresh (I:af X pins σ H s):H s.heap.objs.size=none:=I.hok.fresh (Nat.le_refl _)
theorem af.lstM (I:af X pins σ H s) (hH:H l=some (.lst xs)):xs.length≤sizeLine∧bo fun (its:List Value) (n:Nat)=>aM xs its∧xs.length=its.length∧s.heap.get? l=some { cls:=.type "list",data:=.seq its.toArray n }:=by
 obtain ⟨z,its,n,r,e⟩:=I.hok l _ hH
 exact ⟨z,its,n,r,r.length,e⟩
theorem AH {n:Nat} (h:n≤sizeLine):Builtin.List.listTooLong n=false:=by
 unfold Builtin.List.listTooLong
 exact decide_eq_false (by trivial)
end
section
variable {X:Cx}
inductive AV (x:V) (vs:List V) (H:Hp) (Q:VK):Prop
 | mk (l:_) (xs:_) (y:_) (h0:x=.ref l) (h1:vs=[y]) (h2:H l=some (.lst xs)) (h3:xs.length<sizeLine) (h4:Q .non (aN H l (.lst (xs++[y]))))
def Cn:V→List V→Hp→VK→Prop:=fun x vs H Q=>AV  x vs H Q
theorem pp:wj X "list.append" Cn:=by
 intro pins s σ H x vs v us Q I rx rv h
 obtain ⟨l,xs,y,rfl,rfl,hH,hz,q⟩:=h
 cases rx
 obtain ⟨u,rfl,ru⟩:=rv.one
 obtain ⟨z,its,n,r,hl,e⟩:=I.lstM hH
 refine call_meets F.slot_list_append ⟨_,e,rfl⟩ F.entry_list_append (F.args_list_append_2 _ _) (PySem.list_append l its.toArray n u (by rw [List.size_toArray];trivial)) ⟨e,?_⟩
 refine ⟨.non,_,I.lset (its':=its++[u]) hH e (by simp) (r.append (.cons ru .nil)) ?_,rfl,q⟩
 rw [List.length_append,List.length_singleton]
 trivial
inductive Fm (x:V) (vs:List V) (H:Hp) (Q:VK):Prop
 | mk (l:_) (xs:_) (y:_) (h0:x=.ref l) (h1:vs=[]) (h2:H l=some (.lst xs)) (h3:xs[xs.length - 1]?=some y) (h4:Q y (aN H l (.lst xs.dropLast)))
def Hi:V→List V→Hp→VK→Prop:=fun x vs H Q=>Fm  x vs H Q
theorem Db:wj X "list.pop" Hi:=by
 intro pins s σ H x vs v us Q I rx rv h
 obtain ⟨l,xs,y,rfl,rfl,hH,hy,q⟩:=h
 cases rx
 have hus:=rv.zero
 subst hus
 obtain ⟨z,its,n,r,hl,e⟩:=I.lstM hH
 obtain ⟨u,hu,ru⟩:=r.get hy
 have hy':its.toArray[its.toArray.size - 1]?=some u:=by
  show its.toArray[its.length - 1]?=some u
  rw [←Array.getElem?_toList,←hl]
  exact hu
 refine call_meets F.slot_list_pop ⟨_,e,rfl⟩ F.entry_list_pop (F.args_list_pop_1 _) (MeetsSeq.list_pop_last l its.toArray n u hy' (by rw [List.size_toArray];trivial)) ⟨e,?_⟩
 refine ⟨y,_,I.lset (its':=its.dropLast) hH e ?_ r.dropLast ?_,ru,q⟩
 ·show its.toArray.eraseIdxIfInBounds (its.toArray.size - 1)=its.dropLast.toArray
  rw [List.size_toArray,List.eraseIdxIfInBounds_toArray,yh]
 ·rw [List.length_dropLast]
  trivial
inductive EY (x:V) (y:V) (H:Hp) (Q:VK):Prop
 | mk (l:_) (b:_) (xs:_) (zs:_) (h0:x=.ref l) (h1:y=.ref b) (h2:H l=some (.lst xs)) (h3:H b=some (.lst zs)) (h4:xs.length+zs.length≤sizeLine) (h5:∀p,H p=none→Q (.ref p) (aN H p (.lst (xs++zs))))
def G0:R2:=fun x y H Q=>EY  x y H Q
theorem DZ:cB X (binaryOp .Add) G0:=by
 intro pins s σ H x y v u Q I rx ry h
 obtain ⟨l,b,xs,zs,rfl,rfl,hH,hB,hz,q⟩:=h
 cases rx
 cases ry
 obtain ⟨z,its,n,r,hl,e⟩:=I.lstM hH
 obtain ⟨z2,its2,n2,r2,hl2,e2⟩:=I.lstM hB
 refine PySem.P.add_list e e2 ?_ (by rw [List.size_toArray,List.size_toArray];trivial)
 have ea:its.toArray++its2.toArray=(its++its2).toArray:=by simp
 rw [ea]
 exact ⟨.ref _,_,I.lnew (t':=s.toks) (r.append r2) (by rw [List.length_append];trivial),rfl,q _ I.fresh⟩
inductive FM (x:V) (y:V) (H:Hp) (Q:VK):Prop
 | mk (l:_) (k:_) (xs:_) (h0:x=.ref l) (h1:y=.int k) (h2:H l=some (.lst xs)) (h3:-(2 ^ 63)≤k) (h4:k<2 ^ 63) (h5:xs.length*k.toNat≤sizeLine) (h6:∀p,H p=none→Q (.ref p) (aN H p (.lst (List.replicate k.toNat xs).flatten)))
def Hd:R2:=fun x y H Q=>FM  x y H Q
theorem xw {α:Type} (xs:List α) (k:Nat):(List.replicate k xs).flatten.length=k*xs.length:=by
 induction k with
 | zero=>simp
 | succ k ih=>rw [List.replicate_succ,List.flatten_cons,List.length_append,ih,Nat.succ_mul,Nat.add_comm]
theorem Ee:cB X (binaryOp .Mult) Hd:=by
 intro pins s σ H x y v u Q I rx ry h
 obtain ⟨l,k,xs,rfl,rfl,hH,h1,h2,hz,q⟩:=h
 cases rx
 obtain ⟨t,rfl⟩:=ry
 obtain ⟨z,its,n,r,hl,e⟩:=I.lstM hH
 have hlen:its.toArray.size*k.toNat≤sizeLine:=by rw [List.size_toArray,←hl];exact hz
 have hcap:¬its.toArray.size*k.toNat > (2 ^ 63 - 1) / 8:=by
  have:(sizeLine:Nat)≤(2 ^ 63 - 1) / 8:=by decide
  trivial
 have hfit:¬(!Builtin.List.listFitsIndex k)=true:=by
  rw [fitsIndex_both h1 h2]
  exact Bool.false_ne_true
 have hlong:¬Builtin.List.listTooLong (its.toArray.size*k.toNat)=true:=by
  rw [AH hlen]
  exact Bool.false_ne_true
 have hnew:List.foldl (fun x1 x2=>x1++x2) #[] (List.replicate (if its.toArray.isEmpty=true then 0 else k.toNat) its.toArray)=(List.replicate k.toNat its).flatten.toArray:=by
  have f0:∀m:Nat,List.foldl (fun x1 x2=>x1++x2) #[] (List.replicate m its.toArray)=(List.replicate m its).flatten.toArray:=fun m=>by
   have:=uh its m []
   rw [List.nil_append] at this
   exact this
  rw [f0]
  cases its with
  | nil=>simp
  | cons a r'=>rw [if_neg (by simp)]
 refine wpAny_binaryOp_repeat_ref (T := "list") (U := "int") (by decide) ⟨_,e,rfl⟩ (fun s'=>typeIs_int s' k t) noFill_list_mul F.fills_int_mul F.slot_int_rmul repeat_list F.slot_int_index.lookup
  (call_meets F.slot_int_rmul (typeIs_int s k t) F.entry_int_rmul (F.args_int_rmul_2 _ _) (int___rmul___int_list k t l its.toArray n)
   ⟨e,rfl,⟨_,e,rfl⟩,call_meets F.slot_list_mul ⟨_,e,rfl⟩ F.entry_list_mul (F.args_list_mul_2 _ _) (AutoListH.list___mul___list_int_3 l its.toArray n k t hfit hcap hlong) ⟨e,?_⟩⟩)
 rw [hnew]
 exact ⟨.ref _,_,I.lnew (t':=s.toks) (r.rep k.toNat) (by rw [xw,Nat.mul_comm];exact hz),rfl,q _ I.fresh⟩
end
section
variable {prog:Program}{w:World}{A:Around}{E:Value→Shared→Prop}{s:Shared}
set_option maxRecDepth 100000 in
end
section
variable {X:Cx}
end
end L2
namespace Att
open PySem PySem.W PySem.Calls PyProof.Rows
theorem sS {P:Params}{h:Heap}:∀(ns:List Int) (vs:List Value),WellAll P h vs (ns.map WData.int)→IntsAre vs ns:=by
 intro ns
 induction ns with
 | nil=>
  intro vs w
  rw [List.map_nil] at w
  cases w
  exact .nil
 | cons n ns ih=>
  intro vs w
  rw [List.map_cons] at w
  cases w with
  | cons a b=>
   cases a
   exact .cons _ _ (ih _ b)
theorem zS {l:OpenLaw}{n:Nat} (hn:l.most=some n) {P:Params}{h:Heap}{args:List WData}{vals:List Value}
 (hpre:l.row.toRowW.claim.pre args=true) (hwl:WellAll P h vals args) :
 ∃a vs ns,vals=[Value.ref a]∧args=[WData.list (ns.map WData.int)]∧h.get? a=some { cls:=.type "list",data:=.seq vs.toArray }∧IntsAre vs ns∧ns.length≤n:=by
 have hsh:WShape.hasAll [] args [.list .int]=true:=(pre_splitW hpre).1
 have hc:l.pre.holds [] { args:=args }=true:=(pre_splitW hpre).2
 obtain ⟨d,r,rfl,h1,h2⟩:=hasAllW_cons hsh
 obtain rfl:=hasAllW_nil h2
 obtain ⟨xs,rfl,h3⟩:=hasW_list h1
 obtain ⟨ns,rfl⟩:=items_int h3
 have hlen:ns.length≤n:=by
  unfold OpenLaw.pre at hc
  have h4:(WTm.not (.lt (.lit (.int (n:Int))) (.len (.arg 0)))).holds [] { args:=[.list (ns.map .int)] }=true:=by
   have h4:=(holds_andW hc).1
   rw [hn] at h4
   exact h4
  have h5:=condW_of h4 (w_not (w_lt w_lit (w_len_list (w_arg rfl))))
  rw [List.length_map] at h5
  refine Nat.le_of_not_lt fun q=>?_
  have q':(n:Int)<((ns.length:Nat):Int):=by trivial
  first
   | (rw [decide_eq_true q'] at h5;exact absurd h5 (by decide))
   | (simp at h5;trivial)
 cases hwl with
 | cons w1 w2=>
  cases w2
  cases w1 with
  | list ho hall=>exact ⟨_,_,ns,rfl,rfl,ho,sS ns _ hall,hlen⟩
theorem yM (l:OpenLaw) (args:List WData):l.row.toRowW.claim.post args (.bool true) args=true:=
 postW_of (r:=l.row.toRowW) (X:=(true==true))
  (show WShape.has [] (.bool true) .bool=true by first | rfl | decide | simp [WShape.has,WShape.arms,WShape.armsAll])
  (show (WTm.eq .res (.lit (.bool true))).value [] { args:=args,res:=some (.bool true),after:=args }=some (.bool (true==true)) from w_eq_bool (w_res rfl) w_lit) rfl
theorem attach_call {l:OpenLaw}{n:Nat}{q:Program}{loose:List Str}{XP:(Str→Option Value)→Heap→Prop}{YP:World→Heap→Prop}{d:DefRec}
 (hn:l.most=some n) (hdf:d.params.defaults=[])
 (call:∀(w:World) (s₀ s₁:Shared) (mg mb:Str→Option Value) (fa:Addr) (o:Obj) (pm cd doc:Value) (a:Addr) (vs:List Value) (ns:List Int),
  Ground q loose [] XP w s₀ mg mb s₁.heap→YP w s₁.heap→
  s₁.heap.get? fa=some o→o.data=.func (docDef d.name d.params d.body d.scope pm cd doc)→s₁.heap.CodeRec cd d.name→mg d.name=some (.ref fa)→
  s₁.heap.get? a=some { cls:=.type "list",data:=.seq vs.toArray }→IntsAre vs ns→ns.length≤n→s₁.gens=#[]→
  codeAny (model l.prog w) callerA (.call (.ref fa) ⟨[.ref a],[]⟩) (fun r s'=>r=.ok (.ret (.bool true))∧OldK s₁.heap s'.heap∧s'.os=s₁.os∧AllBare s'.gens) s₁) :
 WalkO q loose XP YP l.row.toRowW d [] (fun f vs=>PySem.call f vs):=by
 intro w s₀ s₁ mg mb G Y fa o pm cd doc dV kV ho hd hcd hD hmg hg args vals as hpre hlay hrd hwl hlo
 obtain rfl:dV=.none:=Dflts.none hD hdf
 obtain rfl:kV=.none:=Dflts.noKw hD
 obtain ⟨a,vs,ns,rfl,rfl,hobj,hints,hlen⟩:=zS hn hpre hwl
 refine enter_call (codeAny_mono (call w s₀ s₁ mg mb fa o pm cd doc a vs ns G Y ho (fd_plain hd) hcd hmg hobj hints hlen hg) fun r s' hq=>?_)
 obtain ⟨rfl,h2,h3,h4⟩:=hq
 exact ⟨.inl ⟨.bool true,.bool true,[],rfl,fun _=>rfl,.bool true,yM l _,fun _=>⟨List.Pairwise.nil,fun _ hm=>(nomatch hm)⟩⟩,h2,h3,h4⟩
section
variable {prog:Program}{w:World}{A:Around}{E:Value→Shared→Prop}{s:Shared}{K:Frag}
end
end Att
namespace L2
open PySem PySem.Spec PyProof.Rows
theorem uI:∀{vs:List Value}{ns:List Int},IntsAre vs ns→aM (ns.map V.int) vs
 | _,_,.nil=>.nil
 | _,_,.cons n t h=>.cons ⟨t,rfl⟩ (uI h)
def tN (H:Hp):Prop:=∀b,H b=none∨bo fun o xs=>H b=some (.frz o (.lst xs))
theorem At {P:Program}{w:World}{K:PySem.W.Frag}{mg mb:Str→Option Value}{CX:kf}{k:Nat}{fa a:Addr}{fd:FuncData}{x:Str}{sp:Sp}{s₁:Shared}{vs:List Value}{ns:List Int}
 (KX:K.In s₁.heap) (hns:s₁.heap.Ns mainGlobals mg) (hb:s₁.heap.Ns builtinsNs mb) (hbb:∀x:Str,x≠"__name__"→mb x=bootBuiltins x) (hlim:s₁.heap.NoLimit) (hg:s₁.gens=#[])
 (ha:s₁.heap.get? a=some { cls:=.type "list",data:=.seq vs.toArray }) (hi:IntsAre vs ns) (hl:ns.length≤sizeLine) (hr:cC k callerA)
 (F:∀base:Heap,K.In base→base.Ns mainGlobals mg→bD P w K mg base CX k fa fd [x] sp) (hbind:∀(s:Shared) (u:Value),BindsTo s fd ⟨[u],[]⟩ [(x,u)])
 (hsp:∀H:Hp,tN H→ax K H a (ns.map V.int)→sp [.ref a] H (fun v _=>v=.bl true) fun _ _ _=>False)
 (hCX:∀H e s',CX [] H s₁ (fun _ _ _=>False) e s'→False) :
 codeAny (model P w) callerA (.call (.ref fa) ⟨[.ref a],[]⟩) (fun r s'=>r=.ok (.ret (.bool true))∧OldK s₁.heap s'.heap∧s'.os=s₁.os∧AllBare s'.gens) s₁:=by
 have rv:=uI hi
 have lenV:=hi.length
 have core:∀H:Hp,tN H→ax K H a (ns.map V.int)→dz P w H s₁.heap→(∀b,H b≠none→b=a)→(H a≠none→K.lookup a=none)→
  codeAny (model P w) callerA (.call (.ref fa) ⟨[.ref a],[]⟩) (fun r s'=>r=.ok (.ret (.bool true))∧OldK s₁.heap s'.heap∧s'.os=s₁.os∧AllBare s'.gens) s₁:=by
  intro H hO hS hok hA hK
  have base_of:∀{b:Addr}{o:Obj},s₁.heap.get? b=some o→H b=none→(oC s₁.heap H).get? b=some o:=fun e n=>Ag e n
  have noA:∀{b:Addr}{o:Obj}{es:Array DictEntry}{ep:Nat},s₁.heap.get? b=some o→o.data=.dict es ep→H b=none:=fun {b o es ep} e d=>by
   cases q:H b with
   | none=>rfl
   | some u=>
    have e':b=a:=hA b (by rw [q];simp)
    subst e'
    rw [ha] at e;cases e
    have d':Data.seq vs.toArray _=Data.dict es ep:=d
    cases d'
  have nsK:∀{b:Addr}{m:Str→Option Value},s₁.heap.Ns b m→(oC s₁.heap H).Ns b m:=fun {b m} ⟨o,es,ep,e,d,r⟩=>⟨o,es,ep,base_of e (noA e d),d,r⟩
  have hKb:K.In (oC s₁.heap H):=fun b o e=>base_of (KX b o e) (by
   cases q:H b with
   | none=>rfl
   | some u=>
    have e':b=a:=hA b (by rw [q];simp)
    subst e'
    rw [hK (by rw [q];simp)] at e;cases e)
  have hM:Mod K mg (oC s₁.heap H):=⟨hKb,nsK hns,⟨mb,nsK hb,hbb⟩,let ⟨mc,h1,h2⟩:=hlim;⟨mc,nsK h1,h2⟩⟩
  have e0:qY P w K mg (oC s₁.heap H) callerA [] s₁ H:=⟨rfl,hM,fun b o e=>CL e,Nat.le_of_eq (zv _ _),trivial,fun b hb=>absurd (show b∈([]:List Addr) from hb) (by simp),hok,.of_eq hg⟩
  refine codeAny_mono ((F _ hKb (nsK hns)).run callerA [] s₁ H ⟨[.ref a],[]⟩ [.ref a] [.ref a] _ _ hr e0 (hbind s₁ (.ref a)) (.cons rfl .nil) (hsp H hO hS)) fun r s' h=>?_
  cases r with
  | error e=>exact (hCX H e s' h).elim
  | ok fl=>
   cases fl with
   | next=>exact False.elim h
   | brk=>exact False.elim h
   | cont=>exact False.elim h
   | ret u=>
    obtain ⟨v,H',os,bare,un,hok',r',q⟩:=h
    have q':v=.bl true:=q
    subst q'
    obtain rfl:u=Value.bool true:=r'
    refine ⟨rfl,OldK.of_keep fun b o e=>?_,os,bare⟩
    cases q:H b with
    | none=>exact un.keep b o e q (by intro z;exact absurd (show b∈([]:List Addr) from z) (by simp)) (by simp)
    | some u=>
     rcases hO b with z | ⟨ob,xs,z⟩
     ·rw [q] at z;cases z
     ·have z2:=un.frzs b ob _ z
      obtain ⟨e1,_⟩:=hok b _ z
      obtain ⟨e2,_⟩:=hok' b _ z2
      rw [e] at e1;cases e1
      exact e2
 cases hk:K.lookup a with
 | some o=>
  have e:=KX a o hk
  rw [ha] at e
  cases e
  refine core (fun _=>none) (fun _=>.inl rfl) (.inr ⟨_,vs.toArray,_,hk,rfl,rfl,rfl,by rw [List.size_toArray,lenV];exact hl,by simpa using rv⟩) (fun b u z=>by have z':(none:Option HO)=some u:=z;cases z') (fun b z=>absurd rfl z) fun z=>absurd rfl z
 | none=>
  refine core (fun b=>if b=a then some (.frz { cls:=.type "list",data:=.seq vs.toArray } (.lst (ns.map V.int))) else none) (fun b=>?_) (.inl (.inr ⟨{ cls:=.type "list",data:=.seq vs.toArray },if_pos rfl⟩)) (fun b u z=>?_) (fun b z=>?_) fun _=>hk
  ·by_cases hb:b=a
   ·exact .inr ⟨_,_,if_pos hb⟩
   ·exact .inl (if_neg hb)
  ·by_cases hb:b=a
   ·have z':=(if_pos hb).symm.trans z
    cases z'
    subst hb
    exact ⟨ha,by rw [List.length_map];exact hl,vs,_,rv,ha⟩
   ·have z':=(if_neg hb).symm.trans z
    cases z'
  ·by_cases hb:b=a
   ·exact hb
   ·exact absurd (if_neg hb) z
end L2
namespace L2
open PySem PySem.Spec PyProof.Rows
theorem walk_of {l:PySem.W.OpenLaw}{n k:Nat}{q:Program}{loose:List Str}{XP:(Str→Option Value)→Heap→Prop}{YP:World→Heap→Prop}{d:DefRec}{K:Params→PySem.W.Frag}{CX:World→kf}{sp:World→Sp}{x:Str}
 (hn:l.most=some n) (hn2:n≤sizeLine) (hdf:d.params.defaults=[]) (hr:cC k callerA)
 (hY:∀(w:World) (h:Heap),YP w h→(K w.params).In h)
 (F:∀(w:World) (mg:Str→Option Value) (fa:Addr) (h:Heap),(K w.params).In h→h.Ns mainGlobals mg→mg d.name=some (.ref fa)→
  ∃fd:FuncData,(∀(s:Shared) (u:Value),BindsTo s fd ⟨[u],[]⟩ [(x,u)])∧
   ∀base:Heap,(K w.params).In base→base.Ns mainGlobals mg→bD l.prog w (K w.params) mg base (CX w) k fa fd [x] (sp w))
 (hsp:∀(w:World) (H:Hp) (a:Addr) (ns:List Int),ns.length≤n→tN H→ax (K w.params) H a (ns.map V.int)→sp w [.ref a] H (fun v _=>v=.bl true) fun _ _ _=>False)
 (hCX:∀(w:World) (H:Hp) (s:Shared) (e:Value) (s':Shared),CX w [] H s (fun _ _ _=>False) e s'→False) :
 PySem.W.WalkO q loose XP YP l.row.toRowW d [] (fun f vs=>PySem.call f vs):=by
 refine Att.attach_call hn hdf fun w s₀ s₁ mg mb fa o pm cd doc a vs ns G Y ho hd hcd hmg hobj hints hlen hg=>?_
 have KX:=hY w _ Y
 obtain ⟨fd,hb,hF⟩:=F w mg fa _ KX G.T.g hmg
 exact At KX G.T.g G.T.b G.T.builtins G.T.nolimit hg hobj hints (Nat.le_trans hlen hn2) hr hF hb (fun H hO hS=>hsp w H a ns hlen hO hS) fun H e s'=>hCX w H s₁ e s'
theorem AI {l:PySem.W.OpenLaw}{n k:Nat}{q:Program}{loose:List Str}{XP:(Str→Option Value)→Heap→Prop}{YP:World→Heap→Prop}{d:DefRec}{K:Params→PySem.W.Frag}{CX:kf}{sp:PySem.W.Frag→Sp}{x:Str}
 (hn:l.most=some n) (hn2:n≤sizeLine) (hdf:d.params.defaults=[]) (hr:cC k callerA)
 (hY:∀(w:World) (h:Heap),YP w h→(K w.params).In h)
 (F:∀(w:World) (mg:Str→Option Value) (fa:Addr) (h:Heap),(K w.params).In h→h.Ns mainGlobals mg→mg d.name=some (.ref fa)→
  ∃fd:FuncData,(∀(s:Shared) (u:Value),BindsTo s fd ⟨[u],[]⟩ [(x,u)])∧
   ∀base:Heap,(K w.params).In base→base.Ns mainGlobals mg→bD l.prog w (K w.params) mg base CX k fa fd [x] (sp (K w.params)))
 (hsp:∀(K:PySem.W.Frag) (H:Hp) (a:Addr) (ns:List Int),ns.length≤n→tN H→ax K H a (ns.map V.int)→sp K [.ref a] H (fun v _=>v=.bl true) fun _ _ _=>False)
 (hCX:∀(H:Hp) (s:Shared) (e:Value) (s':Shared),CX [] H s (fun _ _ _=>False) e s'→False) :
 PySem.W.WalkO q loose XP YP l.row.toRowW d [] (fun f vs=>PySem.call f vs):=
 walk_of (K:=K) (CX:=fun _=>CX) (sp:=fun w=>sp (K w.params)) hn hn2 hdf hr hY F (fun w H a ns h1 h2 h3=>hsp (K w.params) H a ns h1 h2 h3) fun _ H s e s'=>hCX H s e s'
end L2
/- THE LAST THEOREM (shape; LID, My.* are yours):
 My.Adr: a structure of the addresses that your layer names (classes, functions); My.Txt K t: a structure (Prop) of the equations over K;
 My.txt_mk : {K} {implicit addresses ..} (e1 : nsIn K mainGlobals "law" = some (some (.ref f))) (e2 : K.lookup f = some ⟨oc, od, .func (fnOf "law" "law" params body scope dV kV doc pm an cdv ct), sl⟩) (e3 : codeIn K cdv "law" = true) .. : ∃ t, My.Txt K t
set_option maxRecDepth 100000 in
set_option maxHeartbeats 0 in
theorem PySem.Challenge.cw_LID_holds : PySem.Challenge.rw_LID.Holds := by
 w_on; o_law; k_head; (case hw => w_witness2)
 k_fill
 refine L2.walk_of (l := PySem.Challenge.rw_LID) (n := 63) (k := 40) (x := "script") (CX := fun w => ..) (sp := fun _ => My.sp_law) rfl (by decide) rfl ⟨rfl, by decide, by decide⟩ (fun w h Y => PySem.W.kIn_of Y) ?F ?S ?C
 case F =>
  intro w mg fa h KX G hmg
  have T : ∃ t, My.Txt (L2.KOf KX) t := by
   dsimp only [L2.KOf]                          -- K must stand as «<heap const> w.params» for k_is
   refine' My.txt_mk ?e1 ?e2 ?e3 ..
   (case e1 => PySem.W.k_is)                    -- in the order: a name -> its address -> its object -> its parts
   (case e2 => PySem.W.k_is)
   ..
  obtain ⟨t, T⟩ := T
  have e0 := hmg.symm.trans (PySem.W.mg_of KX G T.law)
  cases e0                                       -- fa is the law's own address
  exact ⟨_, fun s u => .of_eq rfl, fun base kb nb => My.law_fn T kb nb⟩     -- if «.of_eq rfl» comes too early: refine' ⟨_, ?b, fun base kb nb => My.law_fn T kb nb⟩; exact fun s u => .of_eq rfl
 case S => exact fun w H a ns hl hO hS => ..
 case C => exact ..
(the tactic k_is has no namespace: write k_is) -/
namespace L2
open PySem PySem.Spec PyProof.Rows
def tI (s:Stmt):Arguments:=match s with
 | .FunctionDef _ a _ _ _ _ _ _ _ _=>a
 | _=>{ posonlyargs:=[],args:=[],vararg:=none,kwonlyargs:=[],kw_defaults:=[],kwarg:=none,defaults:=[] }
def mK (s:Stmt):List Stmt:=match s with
 | .FunctionDef _ _ b _ _ _ _ _ _ _=>b
 | _=>[]
def aC (s:Stmt):Scope:=match s with
 | .FunctionDef _ _ _ _ _ _ sc _ _ _=>sc
 | _=>{ kind:=.function,names:=[],isGenerator:=false,isCoroutine:=false }
abbrev CX0:kf:=fun _ _ _ _ _ _=>False
abbrev E0:XK:=fun _ _ _=>False
theorem ay {X:Cx}:p8 CX0 X E0:=fun _ _ _ _ _ _ _ h=>h.elim
structure kH (K:PySem.W.Frag) (x qual:Str) (st:Stmt) (f:Addr) (fd:FuncData):Prop where
 ex:Dv fun (oc:Value) (od:Option Addr) (kV doc pm:Value) (an:Option Addr) (cdv ct:Value) (osl:Array (Option Value))=>
  fd=PySem.W.fnOf x qual (tI st) (mK st) (aC st) .none kV doc pm an cdv ct∧K.lookup f=some ⟨oc,od,.func fd,osl⟩∧PySem.W.codeIn K cdv qual=true
 kp:PySem.W.keepIn K (.ref f)=true
section
variable {P:Program}{w:World}{K:PySem.W.Frag}{mg:Str→Option Value}{base:Heap}
theorem kH.ok {x qual:Str}{st:Stmt}{f:Addr}{fd:FuncData}{N ps:List Str}{k:Nat}{sp:Sp} (F:kH K x qual st f fd) (S:aV N ps (aC st)) (len:∀vs H Q E,sp vs H Q E→vs.length=ps.length)
 (hbody:∀(cdv:Value) (A:Around) (outer:List Env) (s:Shared) (H:Hp) (vs:List V) (Q:VK) (E:XK),cC k (A.deeper (envOfC qual (aC st) s.heap.objs.size f cdv))→sp vs H Q E→
  ∃t,j7 (ou CX0 P w K mg base N qual (aC st) f cdv A outer s H E).nox (mK st) t∧t { nx:=fun _ H'=>Q .non H',rt:=Q } (start N vs) H):bD P w K mg base CX0 (k+1) f fd ps sp:=by
 obtain ⟨oc,od,kV,doc,pm,an,cdv,ct,osl,rfl,lk,hcd⟩:=F.ex
 refine Bf lk hcd S len fun A outer s H vs Q E hr hsp=>?_
 obtain ⟨t,h,q⟩:=hbody cdv A outer s H vs Q E hr hsp
 exact ⟨t,h.nox,q⟩
theorem kH.binds {x qual:Str}{st:Stmt}{f:Addr}{fd:FuncData}{ps:List Str} (F:kH K x qual st f fd)
 (h:∀(kV doc pm:Value) (an:Option Addr) (cdv ct:Value) (us:List Value),us.length=ps.length→bindArgs (PySem.W.fnOf x qual (tI st) (mK st) (aC st) .none kV doc pm an cdv ct) ⟨us,[]⟩=pure (ps.zip us)):fA K fd ps []:=by
 obtain ⟨oc,od,kV,doc,pm,an,cdv,ct,osl,rfl,lk,hcd⟩:=F.ex
 exact .all (h kV doc pm an cdv ct)
end
section
variable {X:Cx}
theorem pv (i:Nat) {x:Str}{pos:Pos} (hN:X.N[i]?=some x:=by rfl) (hv:zN X.env.scope x:=by first | exact Or.inl rfl | exact Or.inr (Or.inl rfl) | exact Or.inr (Or.inr rfl)) (hd:(x==("__debug__" : Str))=false:=by decide)
 (hcd:(x==("__classdict__" : Str))=false:=by decide):PE X (.Name x pos) (AJ i):=yL hN hv hd hcd
end
theorem bC {A B:Prop} (h:B):if false=true then A else B:=by
 rw [if_neg Bool.false_ne_true]
 exact h
theorem bW {A B:Prop} (h:A):if true=true then A else B:=by
 rw [if_pos rfl]
 exact h
theorem jk {c A B:Prop} [Decidable c] (h1:c→A) (h2:¬c→B):if c then A else B:=by
 by_cases h:c
 ·rw [if_pos h]
  exact h1 h
 ·rw [if_neg h]
  exact h2 h
def ak (H H':Hp):Prop:=∀b o,H b=some o→H' b=some o
theorem ak.refl (H:Hp):ak H H:=fun _ _ h=>h
theorem ak.trans {H H1 H2:Hp} (a:ak H H1) (b:ak H1 H2):ak H H2:=fun c o h=>b c o (a c o h)
theorem ak.free {H H':Hp} (e:ak H H') {l:Addr} (h:H' l=Option.none):H l=Option.none:=by
 cases q:H l with
 | none=>rfl
 | some o=>
  rw [e l o q] at h
  cases h
theorem ak.seq {K:PySem.W.Frag}{H H':Hp}{a:Addr}{xs:List V} (e:ak H H') (h:ax K H a xs):ax K H' a xs:=by
 rcases h with (h | ⟨o,h⟩) | h
 ·exact .inl (.inl (e _ _ h))
 ·exact .inl (.inr ⟨o,e _ _ h⟩)
 ·exact .inr h
end L2
namespace L2
open PySem
theorem qd {scope:Scope}{env:Env} (h:∀y∈scope.names,y.2=.free→∃c,env.cells.lookup y.1=some c) :
 ∃cl,closureFor scope env=pure cl∧(∀x c,cl.lookup x=some c→env.cells.lookup x=some c)∧(∀y∈scope.names,y.2=.free→∃c,cl.lookup y.1=some c):=by
 have go:∀(names:List (Str×NameKind)) (acc:List (Str×Addr)),(∀y∈names,y.2=.free→∃c,env.cells.lookup y.1=some c)→(∀x c,acc.lookup x=some c→env.cells.lookup x=some c)→
  ∃cl,(forIn names acc (fun (x:Str×NameKind) (cs:List (Str×Addr))=>match x with
   | (name,kind)=>if (kind==.free)=true then (do let a ←cellOf env name;pure (ForInStep.yield ((name,a) :: cs))) else pure (ForInStep.yield cs)):Sem (List (Str×Addr)))=pure cl∧
   (∀x c,cl.lookup x=some c→env.cells.lookup x=some c)∧(∀y∈names,y.2=.free→∃c,cl.lookup y.1=some c)∧(∀x c,acc.lookup x=some c→∃c',cl.lookup x=some c'):=by
  intro names
  induction names with
  | nil=>intro acc _ ha;exact ⟨acc,rfl,ha,fun y hy=>(by cases hy),fun x c e=>⟨c,e⟩⟩
  | cons x r ih=>
   intro acc hn ha
   obtain ⟨name,kind⟩:=x
   rw [List.forIn_cons]
   by_cases hk:kind=.free
   ·subst hk
    obtain ⟨c,hc⟩:=hn (name,.free) List.mem_cons_self rfl
    have e:cellOf env name=pure c:=by unfold cellOf;rw [hc]
    obtain ⟨cl,e1,e2,e3,e4⟩:=ih ((name,c) :: acc) (fun y hy=>hn y (List.mem_cons_of_mem _ hy)) (fun x c' hx=>by
     rw [List.lookup_cons] at hx
     split at hx
     ·rename_i hb
      have:x=name:=by simpa using hb
      subst this
      cases hx;exact hc
     ·exact ha x c' hx)
    refine ⟨cl,?_,e2,fun y hy hf=>?_,fun x c' hx=>?_⟩
    ·simp only [beq_self_eq_true,if_true]
     rw [e,pure_bind,pure_bind]
     exact e1
    ·rcases List.mem_cons.mp hy with rfl | hy
     ·exact e4 name c (by simp)
     ·exact e3 y hy hf
    ·by_cases hb:(x==name)=true
     ·have:x=name:=by simpa using hb
      subst this
      exact e4 x c (by simp)
     ·exact e4 x c' (by rw [List.lookup_cons];simp only [Bool.not_eq_true] at hb;rw [hb];exact hx)
   ·have hb:(kind==NameKind.free)=false:=by simpa using hk
    obtain ⟨cl,e1,e2,e3,e4⟩:=ih acc (fun y hy=>hn y (List.mem_cons_of_mem _ hy)) ha
    refine ⟨cl,?_,e2,fun y hy hf=>?_,e4⟩
    ·simp only [hb,Bool.false_eq_true,if_false]
     rw [pure_bind]
     exact e1
    ·rcases List.mem_cons.mp hy with rfl | hy
     ·exact absurd hf hk
     ·exact e3 y hy hf
 obtain ⟨cl,e1,e2,e3,_⟩:=go scope.names [] h (fun x c e=>by simp at e)
 refine ⟨cl,?_,e2,e3⟩
 unfold closureFor
 show (forIn scope.names _ _ >>= fun cs=>pure cs)=_
 rw [bind_pure]
 exact e1
section
variable {prog:Program}{w:World}{A:Around}{R:Result→Shared→Prop}{s:Shared}
theorem vn {elt target iter:Expr}{ifs:List Expr}{scope:Scope}{pos:Pos}{it acc:Value}{env:Env} (I:Nat→Shared→Prop)
 (turn:∀n s,I n s→wpAny (model prog w) A (pyNext it) (fun r s₁=>match r with
  | none=>R (.ok .next) s₁
  | some v=>wpAny (model prog w) A (letOwnedTupleGo target it v) (fun _ s₁'=>wpAny (model prog w) A (assign target env v) (fun _ s₂=>
   wpAny (model prog w) A (forIn ifs true fun c r=>if r=true then do let ok ←isTrue c env (eval c env);pure (ForInStep.yield ok) else pure (ForInStep.yield r)) (fun ok s₃=>
    if ok=true then wpAny (model prog w) A (eval elt env) (fun x s₄=>
     wpAny (model prog w) A (call (.builtin "list.append") [acc,x]) (fun _ s₅=>∃m,m<n∧I m s₅) (fun _ _=>False) s₄) (fun _ _=>False) s₃
    else ∃m,m<n∧I m s₃) (fun _ _=>False) s₂) (fun _ _=>False) s₁') (fun _ _=>False) s₁) (fun _ _=>False) s)
 (n:Nat) (h:I n s) :
 codeAny (model prog w) A (.compLoop (.ListComp elt [⟨target,iter,ifs,0⟩] scope pos) 0 it acc env) R s:=by
 refine codeAny_loop rfl I (fun n s hI=>?_) n h
 show wpAny _ A ((compTurn (.ListComp elt [⟨target,iter,ifs,0⟩] scope pos) 0 it acc env).onRaise (fun x=>do noteFrame x env;theTreesLotGoes x)) _ _ s
 refine wpAny_noted ?_
 rw [compTurn_list]
 refine wpAny_bind (wpAny_standAt (wpAny_bind (wpAny_mono (turn n s hI) (fun r s₁ h₁=>?_) fun _ _ h'=>h'.elim)))
 cases r with
 | none=>exact wpAny_pure h₁
 | some v=>
  refine wpAny_bind (wpAny_mono h₁ (fun _ s₁' h₁'=>?_) fun _ _ h'=>h'.elim)
  refine wpAny_bind (wpAny_mono h₁' (fun _ s₂ h₂=>wpAny_bind (wpAny_mono h₂ (fun ok s₃ h₃=>?_) fun _ _ h'=>h'.elim)) fun _ _ h'=>h'.elim)
  cases ok with
  | false=>exact wpAny_pure ⟨rfl,h₃⟩
  | true=>
   exact wpAny_bind (wpAny_bind (wpAny_mono h₃ (fun x s₄ h₄=>wpAny_bind (wpAny_mono h₄ (fun _ s₅ h₅=>wpAny_pure (wpAny_pure ⟨rfl,h₅⟩)) fun _ _ h'=>h'.elim)) fun _ _ h'=>h'.elim))
end
end L2
namespace L2
open PySem PySem.Spec PyProof.Rows
section
variable {X:Cx}
theorem wR:cf X (.builtin "isinstance") (fun xs H Q=>kd fun x T t b=>xs=[x,.ty T]∧ir X.K H x t∧PySem.W.kitOne X.K t (.type T)=some b∧Q (.bl b) H):=by
 intro pins s σ H xs us Q I r h
 obtain ⟨x,T,t,b,rfl,ty,e,q⟩:=h
 obtain ⟨u,c,rfl,ru,rc⟩:=r.two
 obtain rfl:c=Value.type T:=rc
 exact zf I ru ty e fun tk=>⟨.bl b,H,I.tok tk,rfl,q⟩
end
def cG (X:Cx) (scope:Scope) (cl:List (Str×Addr)) (C:Addr) (N':List Str) (s:Shared) (H:Hp) (ex:List Addr) (pn:List (Addr×Obj)):Cx:=
 { X with N:=N',s₀:=s,H₀:=H,env:=compEnvC scope cl C X.env,outer:=X.stack,ex:=ex,fn:=fun _=>false,pn:=pn,xe:=fun _ _=>False }
def fY (L:Nat) (src:List Nat) (σ:St):St:=List.replicate L none++src.map fun j=>(σ[j]?).join
def jr (σ σ':St):Prop:=σ'.length=σ.length∧∀(i:Nat) v,σ[i]?=some (some v)→σ'[i]?=some (some v)
theorem fB {x:V}{r:St}:jr (none :: r) (some x :: r):=⟨rfl,fun i v e=>by
 cases i with
 | zero=>simp at e
 | succ i=>simpa using e⟩
theorem xW {x y:V}{r:St}:jr (none :: none :: r) (some x :: some y :: r):=⟨rfl,fun i v e=>by
 cases i with
 | zero=>simp at e
 | succ i=>
  cases i with
  | zero=>simp at e
  | succ i=>simpa using e⟩
def mF (X:Cx) (ifs:List Expr) (t:TT):Prop:=
 ∀(pins:List (Addr×Obj)) (s:Shared) (σ:St) (H:Hp) (Q:Bool→Hp→Prop),af X pins σ H s→t σ H Q→
   wpAny (model X.prog X.w) X.A (forIn ifs true fun c r=>if r=true then do let ok ←isTrue c X.env (eval c X.env);pure (ForInStep.yield ok) else pure (ForInStep.yield r)) (TP X pins σ Q) X.xe s
def tT:TT:=fun _ H Q=>Q true H
theorem bX {X:Cx}:mF X [] tT:=fun _ _ _ H _ I h=>wpAny_pure ⟨H,I,h⟩
theorem Au {X:Cx}{c:Expr}{t:TT} (hc:PT X c t):mF X [c] t:=by
 intro pins s σ H Q I h
 rw [List.forIn_cons]
 refine wpAny_bind ?_
 rw [if_pos rfl]
 exact wpAny_bind (aW (hc pins s σ H Q I h) fun b s1 q=>wpAny_pure (wpAny_pure q))
def qp (esc:Scope) (N:List Str) (scope:Scope) (N':List Str) (L:Nat) (src:List Nat):Bool:=
 (scope.kind==.function) && scope.names.all (fun y=>y.2 != .cell && (y.2 != .local || scope.names.lookup y.1==some .local) && (y.2 != .free || esc.names.lookup y.1==some .cell || esc.names.lookup y.1==some .free)) &&
  (N'.length==L+src.length) && (List.range src.length).all fun i=>match src[i]?,N'[L+i]? with
   | some j,some x=>(N[j]?==some x) && (scope.names.lookup x==some .free)
   | _,_=>false
structure zQ (esc:Scope) (N:List Str) (scope:Scope) (N':List Str) (L:Nat) (src:List Nat):Prop where
 kind:scope.kind=.function
 nocell:∀y∈scope.names,y.2≠.cell
 loc:∀y∈scope.names,y.2=.local→scope.names.lookup y.1=some .local
 free:∀y∈scope.names,y.2=.free→esc.names.lookup y.1=some .cell∨esc.names.lookup y.1=some .free
 len:N'.length=L+src.length
 frees:∀(i j:Nat),src[i]?=some j→∃x,N'[L+i]?=some x∧N[j]?=some x∧scope.names.lookup x=some .free
theorem uJ {esc:Scope}{N:List Str}{scope:Scope}{N':List Str}{L:Nat}{src:List Nat} (h:qp esc N scope N' L src=true):zQ esc N scope N' L src:=by
 unfold qp at h
 simp only [Bool.and_eq_true,List.all_eq_true] at h
 obtain ⟨⟨⟨h1,h2⟩,h3⟩,h4⟩:=h
 refine ⟨by simpa using h1,fun y hy=>?_,fun y hy e=>?_,fun y hy e=>?_,by simpa using h3,fun i j e=>?_⟩
 ·have:=(h2 y hy).1.1
  simpa using this
 ·have:=(h2 y hy).1.2
  rw [e] at this
  simpa using this
 ·have:=(h2 y hy).2
  rw [e] at this
  simpa using this
 ·have hi:i<src.length:=(List.getElem?_eq_some_iff.mp e).1
  have:=h4 i (List.mem_range.mpr hi)
  rw [e] at this
  cases q:N'[L+i]? with
  | none=>rw [q] at this;simp at this
  | some x=>
   rw [q] at this
   simp only [Bool.and_eq_true,beq_iff_eq] at this
   exact ⟨x,rfl,this.1,this.2⟩
def sr (J:It) (σc:St) (g:TG) (tt:TT) (te:TE) (D:Addr) (H1:Hp) (Q:VK):Prop:=
 ∃W:Nat→Nat→Hp→List V→Prop,(∃m,W 0 m (aN H1 D (.lst [])) [])∧∀i m H ys,W i m H ys→H D=some (.lst ys)∧
  ((J.stop i H∧Q (.ref D) H)∨(J.go i H∧ys.length<sizeLine∧∃N:Hp→List V→Prop,(∀H' ys',N H' ys'→∃m',m'<m∧W (i+1) m' H' ys')∧
    ∀x H',J.yld i H x H'→g x σc H' fun σ2 H2=>jr σc σ2∧tt σ2 H2 fun b H3=>if b=true then te σ2 H3 fun y H4=>H4 D=some (.lst ys)∧N (aN H4 D (.lst (ys++[y]))) (ys++[y]) else N H3 ys))
def yt (wi:TI) (L:Nat) (src:List Nat) (g:TG) (tt:TT) (te:TE):TE:=fun σ H Q=>wi σ H fun J H1=>∀D,H1 D=none→sr J (fY L src σ) g tt te D H1 Q
section
variable {X:Cx}{elt tg iter:Expr}{ifs:List Expr}{scope:Scope}{pos:Pos}{N':List Str}{L:Nat}{src:List Nat}{wi:TI}{g:TG}{tt:TT}{te:TE}
end
theorem pO {J:It}{n:Nat}{H1:Hp}{D:Addr}{σc:St}{g:TG}{tt:TT}{te:TE}{Q:VK} (Pv:Nat→Hp→List V→Prop) (hz:n≤sizeLine) (h0:Pv 0 (aN H1 D (.lst [])) [])
 (hD:∀i H ys,Pv i H ys→H D=some (.lst ys)∧ys.length≤i)
 (hgo:∀i H ys,i<n→Pv i H ys→J.go i H) (hst:∀H ys,Pv n H ys→J.stop n H)
 (hs:∀i H ys x H',i<n→Pv i H ys→J.yld i H x H'→g x σc H' fun σ2 H2=>jr σc σ2∧tt σ2 H2 fun b H3=>if b=true then te σ2 H3 fun y H4=>H4 D=some (.lst ys)∧Pv (i+1) (aN H4 D (.lst (ys++[y]))) (ys++[y]) else Pv (i+1) H3 ys)
 (hd:∀H ys,Pv n H ys→Q (.ref D) H):sr J σc g tt te D H1 Q:=by
 refine ⟨fun i m H ys=>m=n - i∧i≤n∧Pv i H ys,⟨n,by simp,Nat.zero_le _,h0⟩,?_⟩
 rintro i m H ys ⟨rfl,hi,p⟩
 obtain ⟨q1,q2⟩:=hD i H ys p
 refine ⟨q1,?_⟩
 by_cases hlt:i<n
 ·exact .inr ⟨hgo i H ys hlt p,by trivial,Pv (i+1),fun H' ys' p'=>⟨n - (i+1),by trivial,rfl,hlt,p'⟩,fun x H' y=>hs i H ys x H' hlt p y⟩
 ·have e:i=n:=by trivial
  subst e
  exact .inl ⟨hst H ys p,hd H ys p⟩
theorem dL {J:It}{n:Nat}{H1:Hp}{D:Addr}{σc:St}{g:TG}{te:TE}{Q:VK} (Pv:Nat→Hp→List V→Prop) (hz:n≤sizeLine) (h0:Pv 0 (aN H1 D (.lst [])) [])
 (hD:∀i H ys,Pv i H ys→H D=some (.lst ys)∧ys.length≤i)
 (hgo:∀i H ys,i<n→Pv i H ys→J.go i H) (hst:∀H ys,Pv n H ys→J.stop n H)
 (hs:∀i H ys x H',i<n→Pv i H ys→J.yld i H x H'→g x σc H' fun σ2 H2=>jr σc σ2∧te σ2 H2 fun y H4=>H4 D=some (.lst ys)∧Pv (i+1) (aN H4 D (.lst (ys++[y]))) (ys++[y]))
 (hd:∀H ys,Pv n H ys→Q (.ref D) H):sr J σc g tT te D H1 Q:=by
 refine pO Pv hz h0 hD hgo hst (fun i H ys x H' hi p y=>?_) hd
 have e:=hs i H ys x H' hi p y
 have q:(fun (σ2:St) (H2:Hp)=>jr σc σ2∧tT σ2 H2 fun b H3=>if b=true then te σ2 H3 fun y H4=>H4 D=some (.lst ys)∧Pv (i+1) (aN H4 D (.lst (ys++[y]))) (ys++[y]) else Pv (i+1) H3 ys) =
  (fun σ2 H2=>jr σc σ2∧te σ2 H2 fun y H4=>H4 D=some (.lst ys)∧Pv (i+1) (aN H4 D (.lst (ys++[y]))) (ys++[y])):=by
  funext σ2 H2
  unfold tT
  dsimp only
  rw [if_pos rfl]
 rw [q]
 exact e
end L2
namespace L2
open PySem PySem.Spec PyProof.Rows
section
variable {X:Cx}{pins:List (Addr×Obj)}{σ:St}{H:Hp}{s:Shared}{h':Heap}
theorem af.turnedNew {t':Nat}{ch:List Addr}{T:Addr}{o:HO} (I:af X pins σ H s) (hf:∀b∈ch,iV X pins H b) (k:∀b u,b∉ch→s.heap.get? b=some u→h'.get? b=some u)
 (hT:s.heap.objs.size≤T) (new:bh X.prog X.w (aN H T o) h' T o):af X pins σ (aN H T o) { s with heap:=h',toks:=t' }:=by
 have hn:H T=none:=I.hok.fresh hT
 refine I.step (g':=s.gens) (d':=s.drawn) (ch:=ch) (fun b hb=>?_) (fun b o _ _ hc e _=>k b o hc e) (fun b o _ _ hc e _=>⟨o.slots,k b o hc e⟩) (fun b o hc e n=>?_)
  (fun b o hc e=>⟨o,k b o hc e⟩) (fun b xs e=>?_) (fun b o u e=>?_) (fun b ps e=>?_) (fun m hm=>?_) (fun b u e=>?_) I.bare
 ·obtain ⟨f0,f1,f2,f3,f4,f5⟩:=hf b hb
  exact ⟨f3,f1,f4,f5⟩
 ·rw [ao (Nat.ne_of_lt (Nat.lt_of_lt_of_le (Heap.lt_size e) hT))];exact n
 ·rw [ao (aY e hn)];exact e
 ·rw [ao (aY e hn)];exact e
 ·exact ⟨#[],by rw [ao (aY e hn),e];simp⟩
 ·obtain ⟨o,es,ep,ho,r⟩:=hm
  exact ⟨o,es,ep,k _ o (fun z=>(hf _ z).2.1 rfl) ho,r⟩
 ·by_cases hb:b=T
  ·subst hb;rw [am] at e;cases e;exact new
  ·rw [ao hb] at e
   refine (I.hok b u e).stay (fun c v hc q=>k c v (fun z=>?_) q) (fun c q=>by rw [ao (aY q hn)];exact q) fun c xs q=>by rw [ao (aY q hn)];exact q
   have hcn:=(hf c z).1
   rcases hc with rfl | hc
   ·rw [e] at hcn;cases hcn
   ·rw [hc] at hcn;cases hcn
end
section
variable {X:Cx}
theorem uo {bs:List Bool}{us:List Value} (r:aM (bs.map V.bl) us) {i:Nat}{v:Value} (e:us[i]?=some v):∃b,bs[i]?=some b∧v=.bool b:=by
 have hl:=r.length
 rw [List.length_map] at hl
 have hi:i<us.length:=(List.getElem?_eq_some_iff.mp e).1
 have hb:bs[i]?=some bs[i]:=by simp [hl,hi]
 obtain ⟨u,h1,h2⟩:=r.get (i:=i) (x:=.bl bs[i]) (by rw [List.getElem?_map,hb];rfl)
 rw [e] at h1
 cases h1
 exact ⟨_,hb,h2⟩
theorem xI {s:Shared}{h':Heap}{o:Obj} (hk:∀b x,b∉[s.heap.objs.size]→(s.heap.push o).get? b=some x→h'.get? b=some x):∀b x,s.heap.get? b=some x→h'.get? b=some x:=
 fun b x e=>hk b x (fun hm=>by rw [List.mem_singleton.mp hm] at e;exact Nat.lt_irrefl _ (Heap.lt_size e)) (Heap.get?_push_of_some _ e)
theorem An (hc:X.calm=true):cf X (.builtin "all") (fun xs H Q=>bo fun (l:Addr) (bs:List Bool)=>xs=[.ref l]∧ax X.K H l (bs.map V.bl)∧Q (.bl (bs.all id)) H):=by
 intro pins s σ H xs us Q I r h
 obtain ⟨l,bs,rfl,hq,q⟩:=h
 obtain ⟨u,rfl,ru⟩:=r.one
 obtain rfl:u=.ref l:=ru
 obtain ⟨its,rv,p,hz⟩:=I.list hq
 have hl:=p.isList
 have hlt:l<s.heap.objs.size:=by obtain ⟨_,e,_⟩:=hl;exact Heap.lt_size e
 refine call_all_walk (wpAny_pyIter_list hl ?_)
 refine ⟨s.heap.objs.size,[s.heap.objs.size,l],[s.heap.objs.size],its.toArray.size,_,_,fun i=>(bs[i]?).getD true,rfl,Walks.list (A:=X.A.in1) (I.ok.hd hc) _ l (Nat.ne_of_lt hlt) its.toArray,
  ⟨⟨_,Heap.get?_push_size _ rfl,rfl,rfl⟩,hl.push _⟩,fun i v s' Q' E' hP hQ=>?_,fun h' tk hk=>?_⟩
 ·obtain ⟨b,e,rfl⟩:=uo rv (i:=i) (v:=v) (by simpa using hP)
  simp only [e,Option.getD_some] at hQ
  exact wpAny_truthy_bool hQ
 ·have e:((List.range its.toArray.size).all fun i=>(bs[i]?).getD true)=bs.all id:=by
   rw [List.size_toArray,←rv.length,List.length_map];exact LSm.range_all bs
  rw [e]
  exact ⟨.bl _,H,I.kept (xI hk),rfl,q⟩
theorem AS (hc:X.calm=true):cf X (.builtin "any") (fun xs H Q=>bo fun (l:Addr) (bs:List Bool)=>xs=[.ref l]∧ax X.K H l (bs.map V.bl)∧Q (.bl (bs.any id)) H):=by
 intro pins s σ H xs us Q I r h
 obtain ⟨l,bs,rfl,hq,q⟩:=h
 obtain ⟨u,rfl,ru⟩:=r.one
 obtain rfl:u=.ref l:=ru
 obtain ⟨its,rv,p,hz⟩:=I.list hq
 have hl:=p.isList
 have hlt:l<s.heap.objs.size:=by obtain ⟨_,e,_⟩:=hl;exact Heap.lt_size e
 refine call_any_walk (wpAny_pyIter_list hl ?_)
 refine ⟨s.heap.objs.size,[s.heap.objs.size,l],[s.heap.objs.size],its.toArray.size,_,_,fun i=>(bs[i]?).getD false,rfl,Walks.list (A:=X.A.in1) (I.ok.hd hc) _ l (Nat.ne_of_lt hlt) its.toArray,
  ⟨⟨_,Heap.get?_push_size _ rfl,rfl,rfl⟩,hl.push _⟩,fun i v s' Q' E' hP hQ=>?_,fun h' tk hk=>?_⟩
 ·obtain ⟨b,e,rfl⟩:=uo rv (i:=i) (v:=v) (by simpa using hP)
  simp only [e,Option.getD_some] at hQ
  exact wpAny_truthy_bool hQ
 ·have e:((List.range its.toArray.size).any fun i=>(bs[i]?).getD false)=bs.any id:=by
   rw [List.size_toArray,←rv.length,List.length_map];exact LSm.range_any bs
  rw [e]
  exact ⟨.bl _,H,I.kept (xI hk),rfl,q⟩
end
def Gj (K:PySem.W.Frag) (a:Addr):It:=
 ⟨fun i H=>bo fun xs x=>ax K H a xs∧xs[i]?=some x,fun i H v H'=>bo fun T x=>H T=none∧v=.ref T∧H'=aN H T (.tup [.int (i:Int),x])∧∀xs,ax K H a xs→xs[i]?=some x,fun i H=>∃xs,ax K H a xs∧xs.length≤i⟩
theorem yI {P:Program}{w:World}{K:PySem.W.Frag}{es:List Expr}{kk:Nat}{pos:Pos} (a e it:Addr) (hne:e≠it) :
 rz P w K (.Tuple es kk pos) (Gj K a) [e,it] e (fun i h=>(∃old,IsEnum h e it i old)∧h.IsListIter it a i) where
 mem:=by simp
 obj:=fun i h st b hb=>by
  obtain ⟨⟨old,he⟩,o,e1,c,d⟩:=st
  have hb':b=e∨b=it:=by simpa using hb
  rcases hb' with rfl | rfl
  ·exact ⟨_,he,fun v z=>by
    have z':Data.fields _=Data.cell v:=z
    cases z'⟩
  ·exact ⟨o,e1,fun v z=>by rw [d] at z;cases z⟩
 keep:=fun i h h' st k=>by
  obtain ⟨⟨old,he⟩,hi⟩:=st
  exact ⟨⟨old,k e (by simp) _ he⟩,hi.at fun o q=>k it (by simp) o q⟩
 item:=by
  intro X hP hw hK hc i pins s σ H E I hf st hg
  subst hP hw hK
  obtain ⟨⟨old,he⟩,hit⟩:=st
  obtain ⟨xs,x,hq,hx⟩:=hg
  obtain ⟨its,rv,p,hz⟩:=I.list hq
  obtain ⟨u,hu,ru⟩:=rv.get hx
  have hnT:H s.heap.objs.size=none:=I.fresh
  refine wpAny_pyNext_enum_item he hit p.isList (x:=u) (by simpa using hu) hne fun h' ho hit' hT hsz hk=>?_
  refine ⟨_,rfl,wpAny_letOwnedTupleGo_enum (s:={ s with heap:=h',toks:=s.toks+1 }) ho fun h'' he'' hs''=>?_⟩
  have helt:e<s.heap.objs.size:=Heap.lt_size he
  have hilt:it<s.heap.objs.size:=by obtain ⟨_,y,_⟩:=hit;exact Heap.lt_size y
  have hT'':h''.get? s.heap.objs.size=some { cls:=.type "tuple",data:=.seq #[.int i s.toks,u] }:=(hs''.2 _ (Nat.ne_of_gt helt)).trans hT
  refine ⟨.ref s.heap.objs.size,aN H s.heap.objs.size (.tup [.int (i:Int),x]),I.turnedNew (ch:=[e,it]) (t':=s.toks+1) hf (fun b o hb q=>?_) (Nat.le_refl _) ?_,rfl,⟨_,x,hnT,rfl,rfl,fun ys hy=>by rw [I.list_inj hy hq];exact hx⟩,⟨⟨u,?_⟩,hit'.extBut hs''.extBut (Ne.symm hne)⟩,fun b hb=>?_⟩
  ·have h1:b≠e:=fun z=>hb (by simp [z])
   have h2:b≠it:=fun z=>hb (by simp [z])
   exact (hs''.2 b h1).trans (hk b o h1 h2 q)
  ·exact ⟨by show 2≤sizeLine;decide,[.int i s.toks,u],.cons ⟨_,rfl⟩ (.cons ru .nil),⟨_,hT'',rfl,_,rfl⟩,_,hT'',rfl⟩
  ·simpa using he''
  ·have hb':b=e∨b=it:=by simpa using hb
   have hlt:b<s.heap.objs.size:=by rcases hb' with rfl | rfl <;> assumption
   rw [ao (Nat.ne_of_lt hlt)]
   exact (hf b hb).1
 done:=by
  intro X hP hw hK hc i pins s σ H E I hf st hg
  subst hP hw hK
  obtain ⟨⟨old,he⟩,hit⟩:=st
  obtain ⟨xs,hq,hx⟩:=hg
  obtain ⟨its,rv,p,hz⟩:=I.list hq
  obtain ⟨f0,f1,f2,f3,f4,f5⟩:=hf it (by simp)
  have hl:=rv.length
  exact wpAny_pyNext_enum_end (I.ok.hd hc) he hit p.isList (by simp;trivial) fun h' eb=>⟨rfl,I.turned (t':=s.toks) (fun b o hb e=>eb b o hb e) f0 f1 f3 f4 f5⟩
 self:=fun _ _ _ _ _ st h=>by
  obtain ⟨⟨old,he⟩,_⟩:=st
  exact wpAny_pyIter_enum he h
def FD (K:PySem.W.Frag) (ta:TA):TI:=fun σ H R=>ta σ H fun vs H1=>∃a,vs=[.ref a]∧(∃xs,ax K H1 a xs)∧R (Gj K a) H1
theorem Co {X:Cx}{es:List Expr}{kk:Nat}{tp:Pos}{a:Expr}{ta:TA}{p pos:Pos} (hg:Gl X "enumerate") (hm:X.mg "enumerate" = none) (ha:PA X [a] ta) (hs:starEach [a] X.env=[(false,eval a X.env)]:=by rfl) :
 PI X (.Tuple es kk tp) (.Call (.Name "enumerate" p) [a] [] pos) (FD X.K ta):=by
 intro pins s σ H R I h
 refine Call_ (f8 I hg hm boot_enumerate (PyProof.Rows.callWith_type1 (aW (ha pos pins s σ H _ I h) fun us s1 ⟨vs,H1,I1,r1,q1⟩=>?_) hs rfl))
 obtain ⟨a,rfl,⟨xs,hq⟩,q⟩:=q1
 obtain ⟨u,rfl,ru⟩:=r1.one
 obtain rfl:u=.ref a:=ru
 obtain ⟨its,rv,p,hz⟩:=I1.list hq
 refine call_enumerate_list p.isList fun h' hE hI hsz hk=>wpAny_pyIter_enum hE ?_
 have I2:af X pins σ H1 { s1 with heap:=h',toks:=s1.toks }:=I1.kept hk
 refine ⟨s1.heap.objs.size+1,[s1.heap.objs.size+1,s1.heap.objs.size],_,_,H1,rfl,I2,yI a (s1.heap.objs.size+1) s1.heap.objs.size (Nat.succ_ne_self _),⟨⟨_,hE⟩,hI⟩,fun b hb=>?_,q⟩
 have hb':b=s1.heap.objs.size+1∨b=s1.heap.objs.size:=by simpa using hb
 have hle:s1.heap.objs.size≤b:=by rcases hb' with rfl | rfl <;> trivial
 exact I1.fpOk hle (I1.hok.fresh hle)
end L2
namespace L2
open PySem PySem.Spec PyProof.Rows
theorem bw:bootBuiltins "len" = some (.builtin "len"):=by decide +kernel
theorem iz:bootBuiltins "abs" = some (.builtin "abs"):=by decide +kernel
theorem yx:bootBuiltins "max" = some (.builtin "max"):=by decide +kernel
theorem sU:bootBuiltins "all" = some (.builtin "all"):=by decide +kernel
theorem x5:bootBuiltins "any" = some (.builtin "any"):=by decide +kernel
theorem vg:bootBuiltins "divmod" = some (.builtin "divmod"):=by decide +kernel
theorem aI:bootBuiltins "isinstance" = some (.builtin "isinstance"):=by decide +kernel
theorem md:bootBuiltins "int" = some (.type "int"):=by decide +kernel
theorem iQ:bootBuiltins "bool" = some (.type "bool"):=by decide +kernel
theorem gZ:bootBuiltins "str" = some (.type "str"):=by decide +kernel
theorem cX:bootBuiltins "list" = some (.type "list"):=by decide +kernel
theorem d7:bootBuiltins "tuple" = some (.type "tuple"):=by decide +kernel
theorem eh {X:Cx}{x:Str}{T:String}{pos:Pos} (hg:Gl X x) (hm:X.mg x=none) (hv:bootBuiltins x=some (.type T)) (hn:x≠"__name__" := by decide) (hd:(x==("__debug__" : Str))=false:=by decide):PE X (.Name x pos) (tC (.ty T)):=
 Cg (v:=.ty T) hg hm hv rfl hn hd
mutual
inductive bc (E:Addr→Prop) (H:Hp):V→PyData→Prop
 | non:bc E H .non .none
 | bl (b:Bool):bc E H (.bl b) (.bool b)
 | int (i:Int):bc E H (.int i) (.int i)
 | str (x:Str):bc E H (.str x) (.str x)
 | lst {a:Addr}{xs:List V}{ds:List PyData} (h:H a=some (.lst xs)) (ne:¬E a) (r:aQ E H xs ds):bc E H (.ref a) (.list ds)
 | tup {a:Addr}{xs:List V}{ds:List PyData} (h:H a=some (.tup xs)) (r:aQ E H xs ds):bc E H (.ref a) (.tuple ds)
inductive aQ (E:Addr→Prop) (H:Hp):List V→List PyData→Prop
 | nil:aQ E H [] []
 | cons {x:V}{xs:List V}{d:PyData}{ds:List PyData} (h:bc E H x d) (r:aQ E H xs ds):aQ E H (x :: xs) (d :: ds)
end
structure ba (E:Addr→Prop) (H H':Hp):Prop where
 old:∀a o,¬E a→H a=some o→H' a=some o
 tup:∀a xs,H a=some (.tup xs)→H' a=some (.tup xs)
mutual
theorem bc.mono {E:Addr→Prop}{H H':Hp} (k:ba E H H'):∀{v:V}{d:PyData},bc E H v d→bc E H' v d
 | _,_,.non=>.non
 | _,_,.bl b=>.bl b
 | _,_,.int i=>.int i
 | _,_,.str x=>.str x
 | _,_,.lst h ne r=>.lst (k.old _ _ ne h) ne (aQ.mono k r)
 | _,_,.tup h r=>.tup (k.tup _ _ h) (aQ.mono k r)
theorem aQ.mono {E:Addr→Prop}{H H':Hp} (k:ba E H H'):∀{vs:List V}{ds:List PyData},aQ E H vs ds→aQ E H' vs ds
 | _,_,.nil=>.nil
 | _,_,.cons h r=>.cons (bc.mono k h) (aQ.mono k r)
end
theorem ba.refl {E:Addr→Prop} (H:Hp):ba E H H:=⟨fun _ _ _ h=>h,fun _ _ h=>h⟩
theorem ba.trans {E:Addr→Prop}{H H1 H2:Hp} (a:ba E H H1) (b:ba E H1 H2):ba E H H2:=⟨fun c o n h=>b.old c o n (a.old c o n h),fun c xs h=>b.tup c xs (a.tup c xs h)⟩
theorem ak.toE {E:Addr→Prop}{H H':Hp} (a:ak H H'):ba E H H':=⟨fun c o _ h=>a c o h,fun c xs h=>a c _ h⟩
theorem ak.new {H:Hp}{p:Addr}{o:HO} (h:H p=none):ak H (aN H p o):=fun b u e=>by rw [ao (aY e h)];exact e
theorem aQ.length {E:Addr→Prop}{H:Hp}:∀{vs:List V}{ds:List PyData},aQ E H vs ds→vs.length=ds.length
 | _,_,.nil=>rfl
 | _,_,.cons _ r=>by simp [aQ.length r]
theorem aQ.get {E:Addr→Prop}{H:Hp}:∀{vs:List V}{ds:List PyData}{i:Nat}{v:V},aQ E H vs ds→vs[i]?=some v→∃d,ds[i]?=some d∧bc E H v d
 | _,_,_,_,.nil,e=>by simp at e
 | _,_,0,_,.cons h _,e=>by simp at e;subst e;exact ⟨_,rfl,h⟩
 | _,_,i+1,v,.cons _ r,e=>by
  obtain ⟨d,h1,h2⟩:=aQ.get (i:=i) (v:=v) r (by simpa using e)
  exact ⟨d,by simpa using h1,h2⟩
theorem aQ.append {E:Addr→Prop}{H:Hp}:∀{vs ws:List V}{ds es:List PyData},aQ E H vs ds→aQ E H ws es→aQ E H (vs++ws) (ds++es)
 | _,_,_,_,.nil,s=>s
 | _,_,_,_,.cons h r,s=>.cons h (aQ.append r s)
mutual
theorem bc.reads {E:Addr→Prop}{P:Program}{w:World}{H:Hp}{h:Heap} (ok:dz P w H h):∀{v:V}{d:PyData},bc E H v d→∀{u:Value},aX v u→∃as,Reads h u d as
 | _,_,.non,u,r=>by obtain rfl:u=.none:=r;exact ⟨_,.none⟩
 | _,_,.bl b,u,r=>by obtain rfl:u=.bool b:=r;exact ⟨_,.bool b⟩
 | _,_,.int i,u,r=>by obtain ⟨t,rfl⟩:=r;exact ⟨_,.int i t⟩
 | _,_,.str x,u,r=>by obtain ⟨t,rfl⟩:=r;exact ⟨_,.str x t⟩
 | _,_,.lst (a:=a) (xs:=xs) e _ q,u,r=>by
  obtain rfl:u=.ref a:=r
  obtain ⟨_,its,n,rv,e1⟩:=(show bh P w H h a (.lst xs) from ok a _ e)
  obtain ⟨as,ra⟩:=aQ.reads ok q rv
  exact ⟨_,.list e1 rfl rfl (by simpa using ra)⟩
 | _,_,.tup (a:=a) (xs:=xs) e q,u,r=>by
  obtain rfl:u=.ref a:=r
  obtain ⟨_,its,rv,⟨o,e1,c,n,dd⟩,_⟩:=(show bh P w H h a (.tup xs) from ok a _ e)
  obtain ⟨as,ra⟩:=aQ.reads ok q rv
  exact ⟨_,.tuple e1 c dd (by simpa using ra)⟩
theorem aQ.reads {E:Addr→Prop}{P:Program}{w:World}{H:Hp}{h:Heap} (ok:dz P w H h):∀{vs:List V}{ds:List PyData},aQ E H vs ds→∀{us:List Value},aM vs us→∃as,ReadsAll h us ds as
 | _,_,.nil,us,r=>by cases r;exact ⟨_,.nil⟩
 | _,_,.cons q qs,us,r=>by
  cases r with
  | cons r1 rr=>
   obtain ⟨as,h1⟩:=bc.reads ok q r1
   obtain ⟨bs,h2⟩:=aQ.reads ok qs rr
   exact ⟨_,.cons h1 h2⟩
end
section
variable {X:Cx}
theorem uT {k:Nat} (hr:cC k X.A):cf X (.type "str") (fun xs H Q=>fJ fun (a:Addr) (d:PyData) (E:Addr→Prop)=>xs=[.ref a]∧bc E H (.ref a) d∧d.showable=true∧d.hasDict=false∧d.depth≤50∧d.shown.length≤sizeLine∧Q (.str d.shown) H):=by
 intro pins s σ H xs us Q I r h
 obtain ⟨a,d,E,rfl,hd,h1,h2,h3,h4,q⟩:=h
 obtain ⟨u,rfl,ru⟩:=r.one
 obtain rfl:u=.ref a:=ru
 obtain ⟨as,rr⟩:=hd.reads I.hok (u:=.ref a) rfl
 refine str_of_reads rr h1 (PyData.noDict_hsm h2) hr.gd (by have:=hr.units;trivial) (fun _ _ e=>e) (fun h' u tk hk=>?_) h4
 exact ⟨.str _,H,I.kept hk,⟨_,rfl⟩,q⟩
def yw (_ j:Int):Prop:=0<j∧j.natAbs.log2<9000
theorem wu:cB X (binaryOp .FloorDiv) (rI yw fun i j=>.int (i / j)):=uA fun i j _ _ _ _ _ hc q=>by
 rw [←Int.fdiv_eq_ediv_of_nonneg _ (Int.le_of_lt hc.1)] at q
 exact floordiv_int (Int.ne_of_gt hc.1) q (.inl (PyProof.noPylong_of_log2 hc.2))
end
end L2
namespace L2
open PySem PySem.Spec PyProof.Rows
def v0:PyData→String
 | .none => "NoneType"
 | .bool _ => "bool"
 | .int _ => "int"
 | .str _ => "str"
 | .list _ => "list"
 | .tuple _ => "tuple"
 | .dict _ => "dict"
theorem bc.ty {K:PySem.W.Frag}{E:Addr→Prop}{H:Hp}{v:V}{d:PyData} (h:bc E H v d):ir K H v (.type (v0 d)):=by
 cases h with
 | non=>exact .non
 | bl b=>exact .bl b
 | int i=>exact .int i
 | str x=>exact .str x
 | lst h ne r=>exact .lst h
 | tup h r=>exact .tup h
def Et:PyData→Bool
 | .int _=>true
 | .bool _=>true
 | _=>false
def CB:PyData→Bool
 | .bool _=>true
 | _=>false
def Dj:PyData→Bool
 | .tuple _=>true
 | _=>false
def CV:PyData→Bool
 | .list _=>true
 | _=>false
def Dd:PyData→Bool
 | .str _=>true
 | _=>false
theorem Bt {K:PySem.W.Frag} (d:PyData):PySem.W.kitOne K (.type (v0 d)) (.type "int")=some (Et d):=by cases d <;> rfl
theorem kK {K:PySem.W.Frag} (d:PyData):PySem.W.kitOne K (.type (v0 d)) (.type "bool")=some (CB d):=by cases d <;> rfl
theorem jE {K:PySem.W.Frag} (d:PyData):PySem.W.kitOne K (.type (v0 d)) (.type "tuple")=some (Dj d):=by cases d <;> rfl
theorem iu {K:PySem.W.Frag} (d:PyData):PySem.W.kitOne K (.type (v0 d)) (.type "list")=some (CV d):=by cases d <;> rfl
theorem jt {K:PySem.W.Frag} (d:PyData):PySem.W.kitOne K (.type (v0 d)) (.type "str")=some (Dd d):=by cases d <;> rfl
inductive Gh (K:PySem.W.Frag) (xs:List V) (H:Hp) (Q:VK):Prop
 | mk (x:_) (T:_) (t:_) (b:_) (h0:xs=[x,.ty T]) (h1:ir K H x t) (h2:PySem.W.kitOne K t (.type T)=some b) (h3:Q (.bl b) H)
def Gv (K:PySem.W.Frag):List V→Hp→VK→Prop:=fun xs H Q=>Gh K xs H Q
end L2
namespace L2
open PySem PySem.Spec PyProof.Rows
section
variable {X:Cx}
theorem wA:cf X (.builtin "divmod") (fun xs H Q=>bo fun i j=>xs=[.int i,.int j]∧yw i j∧∀p,H p=none→Q (.ref p) (aN H p (.tup [.int (i / j),.int (i % j)]))):=by
 intro pins s σ H xs us Q I r h
 obtain ⟨i,j,rfl,⟨h1,h2⟩,q⟩:=h
 obtain ⟨u,w',rfl,⟨t,rfl⟩,⟨t',rfl⟩⟩:=sM r
 refine divmod_int (by trivial) ?_ (.inl (PyProof.noPylong_of_log2 h2))
 rw [Int.fdiv_eq_ediv_of_nonneg i (by trivial),Int.fmod_eq_emod_of_nonneg i (by trivial)]
 have hn:H s.heap.objs.size=none:=I.hok.fresh (Nat.le_refl _)
 refine ⟨.ref s.heap.objs.size,_,?_,rfl,q _ hn⟩
 refine I.laid (fun b o e=>Heap.get?_push_of_some _ e) (Nat.le_refl _) ⟨by simp only [List.length_cons,List.length_nil];rw [sizeLine_eq];decide,[.int (i / j) s.toks,.int (i % j) (s.toks+1)],.cons ⟨_,rfl⟩ (.cons ⟨_,rfl⟩ .nil),?_⟩
 exact ⟨⟨_,Heap.get?_push_size s.heap rfl,rfl,0,rfl⟩,_,Heap.get?_push_size s.heap rfl,rfl⟩
end
theorem Hn (c:Bool):-(2 ^ 64)<(if c=true then (1:Int) else 0)∧(if c=true then (1:Int) else 0)<2 ^ 64:=by cases c <;> decide
theorem vV (x:Int):0≤(if x<0 then -x else x):=by split <;> trivial
theorem Ft {x:Int} (c:Bool) (h:0≤x):0≤x*(if c=true then (1:Int) else 0):=by cases c <;> simp [h]
theorem xH {ms:List Int}{k:Int} (h0:0≤k) (h:k.toNat<ms.length):gW (ms.map V.int) k=some (V.int ms[k.toNat]):=by
 have q:=eX (xs:=ms.map V.int) (j:=k.toNat) (v:=V.int ms[k.toNat]) (by rw [List.getElem?_map];simp [h])
 rwa [Int.toNat_of_nonneg h0] at q
inductive Bx (H:Hp) (b:Addr) (t:Int):Prop
 | mk (c x:Int) (h0:H b=some (.lst [.int c,.int x,.int t])) (h1:0≤c) (h2:0≤x) (h3:x<2147483647)
abbrev Eb (b:Addr):Addr→Prop:=fun a=>a=b
theorem Bx.same {H H':Hp}{b:Addr}{t:Int} (h:Bx H b t) (k:ak H H'):Bx H' b t:=by
 obtain ⟨c,x,e,r,r2,r3⟩:=h
 exact ⟨c,x,k _ _ e,r,r2,r3⟩
theorem tR {H H1:Hp}{b:Addr}{xs:List V}{o:HO} (k:ak H H1) (hb:H1 b=some (.lst xs)):ba (Eb b) H (aN H1 b o):=
 ⟨fun a u n h=>by rw [ao n];exact k a u h,fun a ys h=>by
  have e:=k a _ h
  rw [ao (Bl e hb (by intro z;cases z))];exact e⟩
inductive DV (K:PySem.W.Frag) (vs:List V) (H:Hp) (Q:VK):Prop
 | mk (a:Addr) (ms:List Int) (k:Int) (h0:vs=[.ref a,.int k]) (h1:ax K H a (ms.map V.int)) (h2:0≤k) (h3:k≤63) (h4:∀p H',H p=none→ak H H'→Bx H' p 0→Q (.ref p) H')
def FV (K:PySem.W.Frag):Sp:=fun vs H Q _=>DV K vs H Q
inductive Cp (vs:List V) (H:Hp) (Q:VK):Prop
 | mk (b:Addr) (many t:Int) (h0:vs=[.ref b,.int many]) (h1:Bx H b t) (h2:0<many) (h3:many.natAbs.log2<9000) (h4:0≤t) (h5:t≤1000000) (h6:∀r t' H',0≤r→r<many→t≤t'→t'≤t+1→ba (Eb b) H H'→Bx H' b t'→Q (.int r) H')
def Eg:Sp:=fun vs H Q _=>Cp  vs H Q
end L2
namespace L2
open PySem PySem.Spec PyProof.Rows
def ww:List Str→Bool
 | []=>true
 | x :: r=>!r.contains x && ww r
theorem cg:∀l:List Str,ww l=true→l.Nodup
 | [],_=>List.nodup_nil
 | x :: r,h=>by
  unfold ww at h
  simp only [Bool.and_eq_true,Bool.not_eq_true',List.contains_eq_mem,decide_eq_false_iff_not] at h
  exact List.nodup_cons.mpr ⟨h.1,cg r h.2⟩
inductive E3 (K:PySem.W.Frag) (xs:List V) (H:Hp) (Q:VK):Prop
 | mk (p:_) (ys:_) (h0:xs=[.ref p]) (h1:(ax K H p ys∨ap K H p ys)) (h2:Q (.int ys.length) H)
def GD (K:PySem.W.Frag):List V→Hp→VK→Prop:=fun xs H Q=>E3 K xs H Q
section
variable {X:Cx}{K:PySem.W.Frag}
theorem cp (e:X.K=K:=by rfl):cf X (.builtin "isinstance") (Gv K):=by subst e;exact fun pins s σ H xs us Q I r ⟨x,T,t,b,h1,h2,h3,q⟩=>wR pins s σ H xs us Q I r ⟨x,T,t,b,h1,h2,h3,q⟩
theorem eS (e:X.K=K:=by rfl):cf X (.builtin "len") (GD K):=by subst e;exact fun pins s σ H xs us Q I r ⟨p,ys,h1,h2,q⟩=>pG pins s σ H xs us Q I r ⟨p,ys,h1,h2,q⟩
theorem oq (e:X.K=K:=by rfl):oM X (Ab K):=by subst e;exact xz
theorem aR (e:X.K=K:=by rfl):oM X (Aw K):=by subst e;exact yK
theorem GJ (e:X.K=K:=by rfl):cB X (compareOp .In) (A3 K false):=by subst e;exact zO
theorem xq (e:X.K=K:=by rfl):cB X (compareOp .NotIn) (A3 K true):=by subst e;exact vw
inductive FZ (K:PySem.W.Frag) (xs:List V) (H:Hp) (Q:VK):Prop
 | mk (l:Addr) (bs:List Bool) (h0:xs=[.ref l]) (h1:ax K H l (bs.map V.bl)) (h2:Q (.bl (bs.all id)) H)
def GI (K:PySem.W.Frag):List V→Hp→VK→Prop:=fun xs H Q=>FZ K xs H Q
inductive Gg (K:PySem.W.Frag) (xs:List V) (H:Hp) (Q:VK):Prop
 | mk (l:Addr) (bs:List Bool) (h0:xs=[.ref l]) (h1:ax K H l (bs.map V.bl)) (h2:Q (.bl (bs.any id)) H)
def GE (K:PySem.W.Frag):List V→Hp→VK→Prop:=fun xs H Q=>Gg K xs H Q
theorem Bo (hc:X.calm=true) (e:X.K=K:=by rfl):cf X (.builtin "all") (GI K):=by subst e;exact fun pins s σ H xs us Q I r ⟨l,bs,h1,h2,q⟩=>An hc pins s σ H xs us Q I r ⟨l,bs,h1,h2,q⟩
theorem Fk (hc:X.calm=true) (e:X.K=K:=by rfl):cf X (.builtin "any") (GE K):=by subst e;exact fun pins s σ H xs us Q I r ⟨l,bs,h1,h2,q⟩=>AS hc pins s σ H xs us Q I r ⟨l,bs,h1,h2,q⟩
theorem cP {pos:Pos}{es:List Expr}{k:Nat}{t:qV}{n:Nat} (hc:X.calm=true) (h:y4 X es t) (e:X.K=K:=by rfl)
 (hn:(assignEach es X.env).length=n:=by rfl) (hst:(assignEach es X.env).findIdx? (·.1)=none:=by rfl):PG X (.Tuple es k pos) (EL K n t):=by
 subst e;exact vB hc h hn hst
theorem eJ {tg l:Expr}{tl:TE} (hl:PE X l tl) (e:X.K=K:=by rfl):PI X tg l (Bj K tl):=by subst e;exact CG hl
theorem iq {tg l:Expr}{tl:TE} (hl:PE X l tl) (e:X.K=K:=by rfl):PI X tg l (C9 K tl):=by subst e;exact Ez hl
end
end L2
namespace L2
open PySem PySem.Spec PyProof.Rows
def qw:Expr→Bool
 | .Starred ..=>false
 | _=>true
theorem pq {e:Expr}{es:List Expr}{env:Env} (h:qw e=true):starEach (e :: es) env=(false,eval e env) :: starEach es env:=by
 cases e <;> first | rfl | (simp [qw] at h)
section
variable {X:Cx}{e:Expr}{es:List Expr}{te:TE}{t:TA}
theorem aa (ha:PE X e te) (hr:PA X es t) (hs:qw e=true:=by rfl):PA X (e :: es) (Bp te t):=cH ha hr (pq hs)
theorem pw (i:Nat) {x:Str}{pos:Pos} (hv:zN X.env.scope x) (hN:X.N[i]?=some x:=by rfl) (hd:(x==("__debug__" : Str))=false:=by decide) (hcd:(x==("__classdict__" : Str))=false:=by decide):PE X (.Name x pos) (AJ i):=yL hN hv hd hcd
end
end L2
namespace KM
theorem gcd_fmod (n d:Int):Int.gcd d (n.fmod d)=Int.gcd n d:=by
 apply Nat.dvd_antisymm
 ·apply Int.dvd_gcd
  ·have h1:((Int.gcd d (n.fmod d):Nat):Int) ∣ d:=Int.gcd_dvd_left ..
   have h2:((Int.gcd d (n.fmod d):Nat):Int) ∣ n.fmod d:=Int.gcd_dvd_right ..
   have h3:=Int.dvd_add h2 (Int.dvd_mul_of_dvd_left (c:=n.fdiv d) h1)
   rw [Int.fmod_add_mul_fdiv] at h3
   exact h3
  ·exact Int.gcd_dvd_left ..
 ·apply Int.dvd_gcd
  ·exact Int.gcd_dvd_right ..
  ·rw [Int.fmod_def]
   exact Int.dvd_sub (Int.gcd_dvd_left ..) (Int.dvd_mul_of_dvd_left (Int.gcd_dvd_right ..))
theorem fmod_natAbs_lt (n d:Int) (h:d≠0):(n.fmod d).natAbs<d.natAbs:=by
 rcases Int.lt_trichotomy d 0 with hd | hd | hd
 ·have e:n.fmod d=-((-n).fmod (-d)):=by
   rw [Int.fmod_def,Int.fmod_def]
   have:(-n).fdiv (-d)=n.fdiv d:=Int.neg_fdiv_neg n d
   rw [this,Int.neg_mul];trivial
  have h1:=Int.fmod_nonneg_of_pos (-n) (b:=-d) (by trivial)
  have h2:=Int.fmod_lt_of_pos (-n) (b:=-d) (by trivial)
  trivial
 ·exact absurd hd h
 ·have h1:=Int.fmod_nonneg_of_pos n hd
  have h2:=Int.fmod_lt_of_pos n hd
  trivial
theorem gcd_zero_abs (n:Int):((Int.gcd n 0:Nat):Int)=if n<0 then -n else n:=by
 rw [Int.gcd_zero_right]
 split <;> trivial
theorem gcd_emod (n d:Int):Int.gcd d (n % d)=Int.gcd n d:=by
 by_cases h:d=0
 ·subst h;rw [Int.emod_zero,Int.gcd_comm]
 ·apply Nat.dvd_antisymm
  ·apply Int.dvd_gcd
   ·have h1:((Int.gcd d (n % d):Nat):Int) ∣ d:=Int.gcd_dvd_left ..
    have h2:((Int.gcd d (n % d):Nat):Int) ∣ n % d:=Int.gcd_dvd_right ..
    have h3:=Int.dvd_add h2 (Int.dvd_mul_of_dvd_left (c:=n / d) h1)
    rw [Int.emod_add_mul_ediv] at h3
    exact h3
   ·exact Int.gcd_dvd_left ..
  ·apply Int.dvd_gcd
   ·exact Int.gcd_dvd_right ..
   ·rw [Int.emod_def]
    exact Int.dvd_sub (Int.gcd_dvd_left ..) (Int.dvd_mul_of_dvd_left (Int.gcd_dvd_right ..))
end KM
namespace KM
def low (n d:Int):Int×Int:=if 0<d then (n / (Int.gcd n d:Nat),d / (Int.gcd n d:Nat)) else (-n / (Int.gcd n d:Nat),-d / (Int.gcd n d:Nat))
theorem gcd_pos {n d:Int} (h:d≠0):0<Int.gcd n d:=by
 apply Nat.pos_of_ne_zero
 intro e
 exact h (Int.gcd_eq_zero_iff.mp e).2
theorem gcd_abs (n d:Int):Int.gcd (if n<0 then -n else n) (if d<0 then -d else d)=Int.gcd n d:=by
 split <;> split <;> simp [Int.gcd_neg,Int.neg_gcd]
theorem low_spec (n d:Int) (h:d≠0):1≤(low n d).2∧(low n d).1*d=n*(low n d).2∧Int.gcd (low n d).1 (low n d).2=1∧(low n d).1.natAbs≤n.natAbs∧(low n d).2.natAbs≤d.natAbs:=by
 have g0:=gcd_pos (n:=n) h
 have gi:((Int.gcd n d:Nat):Int)≠0:=by trivial
 have d1:((Int.gcd n d:Nat):Int) ∣ n:=Int.gcd_dvd_left ..
 have d2:((Int.gcd n d:Nat):Int) ∣ d:=Int.gcd_dvd_right ..
 obtain ⟨a,ha⟩:=d1
 obtain ⟨b,hb⟩:=d2
 have ea:n / ((Int.gcd n d:Nat):Int)=a:=by
  conv=>lhs;lhs;rw [ha]
  exact Int.mul_ediv_cancel_left _ gi
 have eb:d / ((Int.gcd n d:Nat):Int)=b:=by
  conv=>lhs;lhs;rw [hb]
  exact Int.mul_ediv_cancel_left _ gi
 have ena:-n / ((Int.gcd n d:Nat):Int)=-a:=by
  have:-n=((Int.gcd n d:Nat):Int)*(-a):=by rw [Int.mul_neg];trivial
  rw [this]
  exact Int.mul_ediv_cancel_left _ gi
 have enb:-d / ((Int.gcd n d:Nat):Int)=-b:=by
  have:-d=((Int.gcd n d:Nat):Int)*(-b):=by rw [Int.mul_neg];trivial
  rw [this]
  exact Int.mul_ediv_cancel_left _ gi
 have hco:Int.gcd a b=1:=by
  have:=Int.gcd_ediv_gcd_ediv_gcd (i:=n) (j:=d) g0
  rw [ea,eb] at this
  exact this
 have hgp:(0:Int)<((Int.gcd n d:Nat):Int):=by trivial
 have habs:n.natAbs=Int.gcd n d*a.natAbs:=by
  conv=>lhs;rw [ha]
  rw [Int.natAbs_mul];rfl
 have hbbs:d.natAbs=Int.gcd n d*b.natAbs:=by
  conv=>lhs;rw [hb]
  rw [Int.natAbs_mul];rfl
 have la:a.natAbs≤n.natAbs:=by rw [habs];exact Nat.le_mul_of_pos_left _ g0
 have lb:b.natAbs≤d.natAbs:=by rw [hbbs];exact Nat.le_mul_of_pos_left _ g0
 have hab:a*d=n*b:=by
  generalize ((Int.gcd n d:Nat):Int)=g at ha hb
  subst ha hb
  rw [Int.mul_comm g a,Int.mul_assoc]
 unfold low
 split
 ·rename_i hd
  refine ⟨?_,?_,?_,?_,?_⟩
  ·show 1≤d / _
   rw [eb]
   have:0<b:=by
    apply Int.pos_of_mul_pos_right (a:=((Int.gcd n d:Nat):Int)) _ hgp
    rw [←hb];exact hd
   trivial
  ·show n / _*d=n*(d / _)
   rw [ea,eb];exact hab
  ·show Int.gcd (n / _) (d / _)=1
   rw [ea,eb];exact hco
  ·show (n / _).natAbs≤_
   rw [ea];exact la
  ·show (d / _).natAbs≤_
   rw [eb];exact lb
 ·rename_i hd
  refine ⟨?_,?_,?_,?_,?_⟩
  ·show 1≤-d / _
   rw [enb]
   have:0 < -b:=by
    apply Int.pos_of_mul_pos_right (a:=((Int.gcd n d:Nat):Int)) _ hgp
    rw [Int.mul_neg,←hb];trivial
   trivial
  ·show -n / _*d=n*(-d / _)
   rw [ena,enb,Int.neg_mul,Int.mul_neg,hab]
  ·show Int.gcd (-n / _) (-d / _)=1
   rw [ena,enb,Int.gcd_neg,Int.neg_gcd];exact hco
  ·show (-n / _).natAbs≤_
   rw [ena,Int.natAbs_neg];exact la
  ·show (-d / _).natAbs≤_
   rw [enb,Int.natAbs_neg];exact lb
end KM
namespace KM
theorem vE {n d a b:Int} (hd:d≠0) (hb:1≤b) (hg:Int.gcd a b=1) (he:a*d=n*b):low n d=(a,b):=by
 obtain ⟨h1,h2,h3,_,_⟩:=low_spec n d hd
 generalize low n d=z at *
 obtain ⟨x,y⟩:=z
 dsimp only at h1 h2 h3
 have e1:x*b=a*y:=by
  apply Int.eq_of_mul_eq_mul_right hd
  calc x*b*d=(x*d)*b:=by rw [Int.mul_assoc,Int.mul_comm b d,←Int.mul_assoc]
   _=n*y*b:=by rw [h2]
   _=(n*b)*y:=by rw [Int.mul_assoc,Int.mul_comm y b,←Int.mul_assoc]
   _=a*d*y:=by rw [he]
   _=a*y*d:=by rw [Int.mul_assoc,Int.mul_comm d y,←Int.mul_assoc]
 have d1:y ∣ b:=by
  apply Int.natAbs_dvd_natAbs.mp
  apply Nat.Coprime.dvd_of_dvd_mul_left (k:=y.natAbs) (m:=x.natAbs)
  ·show Nat.gcd y.natAbs x.natAbs=1
   rw [Nat.gcd_comm];exact h3
  ·rw [←Int.natAbs_mul]
   exact Int.natAbs_dvd_natAbs.mpr ⟨a,by rw [e1,Int.mul_comm]⟩
 have d2:b ∣ y:=by
  apply Int.natAbs_dvd_natAbs.mp
  apply Nat.Coprime.dvd_of_dvd_mul_left (k:=b.natAbs) (m:=a.natAbs)
  ·show Nat.gcd b.natAbs a.natAbs=1
   rw [Nat.gcd_comm];exact hg
  ·rw [←Int.natAbs_mul]
   exact Int.natAbs_dvd_natAbs.mpr ⟨x,by rw [←e1,Int.mul_comm]⟩
 have e2:y=b:=Int.dvd_antisymm (by trivial) (by trivial) d1 d2
 subst e2
 have e3:x=a:=Int.eq_of_mul_eq_mul_right (by trivial) e1
 rw [e3]
theorem AZ {a b:Int} (hb:1≤b) (hg:Int.gcd a b=1):low a b=(a,b):=vE (by trivial) hb hg rfl
section
variable {p0 p1 q0 q1:Int}
end
theorem fdiv_low {n d:Int} (hd:d≠0):(n.fdiv (if d<0 then -((Int.gcd n d:Nat):Int) else ((Int.gcd n d:Nat):Int)),d.fdiv (if d<0 then -((Int.gcd n d:Nat):Int) else ((Int.gcd n d:Nat):Int)))=low n d:=by
 have g0:(0:Int)≤((Int.gcd n d:Nat):Int):=Int.natCast_nonneg _
 unfold low
 by_cases h:d<0
 ·rw [if_pos h,if_neg (by trivial)]
  have e:∀x:Int,x.fdiv (-((Int.gcd n d:Nat):Int))=-x / ((Int.gcd n d:Nat):Int):=fun x=>by
   rw [←Int.fdiv_eq_ediv_of_nonneg _ g0,←Int.neg_fdiv_neg,Int.neg_neg]
  rw [e,e]
 ·rw [if_neg h,if_pos (by trivial),Int.fdiv_eq_ediv_of_nonneg _ g0,Int.fdiv_eq_ediv_of_nonneg _ g0]
end KM
namespace KM
abbrev Fra:=Int×Int
theorem wU {p q:Fra} (hp:1≤p.2) (hq:1≤q.2) (gp:Int.gcd p.1 p.2=1) (gq:Int.gcd q.1 q.2=1) (h:q.1*p.2=p.1*q.2):p=q:=by
 have e1:=AZ hp gp
 have e2:=vE (n:=p.1) (d:=p.2) (a:=q.1) (b:=q.2) (by trivial) hq gq h
 rw [e1] at e2
 exact e2
theorem low_sgn {n d:Int} (hd:0<d):(0<(low n d).1↔0<n)∧((low n d).1<0↔n<0):=by
 obtain ⟨h1,h2,_,_,_⟩:=low_spec n d (by trivial)
 generalize low n d=z at *
 obtain ⟨x,y⟩:=z
 dsimp only at *
 have hy:0<y:=by trivial
 constructor
 ·constructor
  ·intro h
   have:0<x*d:=Int.mul_pos h hd
   rw [h2] at this
   exact Int.pos_of_mul_pos_left this hy
  ·intro h
   have:0<n*y:=Int.mul_pos h hy
   rw [←h2] at this
   exact Int.pos_of_mul_pos_left this hd
 ·constructor
  ·intro h
   have:x*d<0:=Int.mul_neg_of_neg_of_pos h hd
   rw [h2] at this
   apply Decidable.byContradiction
   intro hn
   have:=Int.mul_nonneg (show 0≤n by trivial) (show 0≤y by trivial)
   trivial
  ·intro h
   have:n*y<0:=Int.mul_neg_of_neg_of_pos h hy
   rw [←h2] at this
   apply Decidable.byContradiction
   intro hn
   have:=Int.mul_nonneg (show 0≤x by trivial) (show 0≤d by trivial)
   trivial
end KM
namespace KM
def vl (p:Fra):Rat:=Rat.divInt p.1 p.2
def Rd (p:Fra):Prop:=1≤p.2∧Int.gcd p.1 p.2=1
theorem Rd.low {n d:Int} (h:d≠0):Rd (KM.low n d):=⟨(low_spec n d h).1,(low_spec n d h).2.2.1⟩
theorem Di {n d:Int} (h:d≠0):vl (low n d)=Rat.divInt n d:=by
 obtain ⟨h1,h2,_⟩:=low_spec n d h
 exact (Rat.divInt_eq_divInt_iff (by trivial) h).mpr (by rw [h2])
theorem Rd.eq {p q:Fra} (hp:Rd p) (hq:Rd q) (h:vl p=vl q):p=q:=by
 have:=(Rat.divInt_eq_divInt_iff (d₁:=p.2) (d₂:=q.2) (by have:=hp.1;trivial) (by have:=hq.1;trivial)).mp h
 exact wU hp.1 hq.1 hp.2 hq.2 this.symm
theorem CW {a b:Int} (h:a≠0) (k:b≠0):a*b≠0:=Int.mul_ne_zero h k
def lTim (p q:Fra):Fra:=low (p.1*q.1) (p.2*q.2)
theorem vl_tim {p q:Fra} (hp:p.2≠0) (hq:q.2≠0):vl (lTim p q)=vl p*vl q:=by
 unfold lTim
 rw [Di (CW hp hq)]
 exact (Rat.divInt_mul_divInt _ _).symm
theorem vl_zero:vl (0,1)=0:=Rat.zero_divInt 1
end KM
namespace L2
open PySem PySem.Spec PyProof.Rows
section
variable {prog:Program}{w:World}{A:Around}{E:Value→Shared→Prop}{s:Shared}
theorem yu {it t:Addr}{i:Nat}{its:Array Value}{x:Value}{Q:Value→Shared→Prop} (hit:s.heap.IsTupleIter it t i) (ht:s.heap.IsTuple t its) (hx:its[i]?=some x)
 (q:∀h',h'.IsTupleIter it t (i+1)→Heap.SameBut it s.heap h'→Q x { s with heap:=h' }):wpAny (model prog w) A (Builtin.SmallTypes.nextOf (.ref it)) Q E s:=by
 obtain ⟨o,e1,e2,e3⟩:=id hit;obtain ⟨u,e4,_,k,e5⟩:=ht;unfold Builtin.SmallTypes.nextOf
 refine wpAny_bind (wpAny_callSpecial?_slot (name:=Str.ofString "__next__") hit.typeIs F.slot_tuple_iterator_next (wpAny_call_entry F.slot_tuple_iterator_next hit.typeIs F.entry_tuple_iterator_next ?_ (F.args_tuple_iterator_next_1 _)))
 show wpAny _ _ (field (.ref it) 0 >>= _) _ _ s;refine wpAny_bind (wpAny_field e1 e3 (x:=.ref t) rfl ?_)
 show wpAny _ _ (if (Value.ref t==Value.none)=true then _ else _) _ _ s;rw [if_neg (show ¬((Value.ref t==Value.none)=true) from Bool.false_ne_true)]
 show wpAny _ _ (field (.ref it) 1 >>= _) _ _ s;refine wpAny_bind (wpAny_field e1 e3 (x:=.int i 0) rfl ?_)
 show wpAny _ _ (seqItems? (.ref t) >>= _) _ _ s;refine wpAny_bind (wpAny_seqItems e4 e5 ?_)
 simp only [Int.toNat_natCast,hx];refine wpAny_bind (wpAny_setField e1 e3 (by simp) (wpAny_pure ⟨x,rfl,wpAny_pure (q _ ?_ (Heap.SameBut.update ..))⟩))
 exact ⟨_,Heap.get?_update_self _ e1 (Obj.isFreed_of_fields (Obj.data_mapFields e3 _)),(Obj.cls_mapFields ..).trans e2,by rw [Obj.data_mapFields e3];simp [rawInt]⟩
theorem uX {it t:Addr}{i:Nat}{its:Array Value}{Q:Value→Shared→Prop} (hh:A.handled=none) (hit:s.heap.IsTupleIter it t i) (ht:s.heap.IsTuple t its) (hx:its[i]?=none)
 (q:∀h' e,Heap.ExtBut it s.heap h'→(∃o,h'.get? e=some o∧o.cls=.type "StopIteration")→E (.ref e) { s with heap:=h' }):wpAny (model prog w) A (Builtin.SmallTypes.nextOf (.ref it)) Q E s:=by
 obtain ⟨o,e1,e2,e3⟩:=id hit;obtain ⟨u,e4,_,k,e5⟩:=ht;unfold Builtin.SmallTypes.nextOf
 refine wpAny_bind (wpAny_callSpecial?_slot (name:=Str.ofString "__next__") hit.typeIs F.slot_tuple_iterator_next (wpAny_call_entry F.slot_tuple_iterator_next hit.typeIs F.entry_tuple_iterator_next ?_ (F.args_tuple_iterator_next_1 _)))
 show wpAny _ _ (field (.ref it) 0 >>= _) _ _ s;refine wpAny_bind (wpAny_field e1 e3 (x:=.ref t) rfl ?_)
 show wpAny _ _ (if (Value.ref t==Value.none)=true then _ else _) _ _ s;rw [if_neg (show ¬((Value.ref t==Value.none)=true) from Bool.false_ne_true)]
 show wpAny _ _ (field (.ref it) 1 >>= _) _ _ s;refine wpAny_bind (wpAny_field e1 e3 (x:=.int i 0) rfl ?_)
 show wpAny _ _ (seqItems? (.ref t) >>= _) _ _ s;refine wpAny_bind (wpAny_seqItems e4 e5 ?_)
 simp only [Int.toNat_natCast,hx];refine wpAny_bind (wpAny_rule (wpAny_bind (wpAny_setField e1 e3 (by simp) ?_)))
 show wpAny _ _ (newExc (.type "StopIteration") [] >>= _) _ _ _;refine wpAny_bind ?_;simp only [newExc,newTuple]
 refine wpAny_bind (wpAny_newObj_type ?_ (by size_fits));refine wpAny_bind (m:=firstArgMember _ _) (wpAny_of_eq (a:=Value.none) (by first | rfl | (simp only [firstArgMember];rfl)) ?_);refine wpAny_newObj_type ?_ (by size_fits)
 simp only [raiseNew];refine wpAny_bind (wpAny_handled ?_);first | rw [show A.in1.handled=none from hh] | rw [hh]
 refine wpAny_bind (wpAny_pure (wpAny_throw ?_));exact q _ _ (((Heap.SameBut.update ..).extBut.push _).push _) ⟨_,Heap.get?_push_size _ rfl,rfl⟩
end
def bV (h:Heap) (l:Addr) (its:Array Value):Bool→Prop
 | true=>h.IsList l its
 | false=>h.IsTuple l its
def bL (h:Heap) (it l:Addr) (i:Nat):Bool→Prop
 | true=>h.IsListIter it l i
 | false=>h.IsTupleIter it l i
theorem bV.at {h h':Heap}{l:Addr}{its:Array Value}:∀{b:Bool},bV h l its b→(∀o,h.get? l=some o→h'.get? l=some o)→bV h' l its b
 | true,q,k=>Heap.IsList.at q k
 | false,q,k=>Heap.IsTuple.at q k
theorem bL.at {h h':Heap}{it l:Addr}{i:Nat}:∀{b:Bool},bL h it l i b→(∀o,h.get? it=some o→h'.get? it=some o)→bL h' it l i b
 | true,q,k=>Heap.IsListIter.at q k
 | false,q,k=>Heap.IsTupleIter.at q k
theorem bV.lt {h:Heap}{l:Addr}{its:Array Value}:∀{b:Bool},bV h l its b→l<h.objs.size
 | true,⟨_,e,_⟩=>Heap.lt_size e
 | false,⟨_,e,_⟩=>Heap.lt_size e
theorem bL.some {h:Heap}{it l:Addr}{i:Nat}:∀{b:Bool},bL h it l i b→∃o,h.get? it=some o∧∀v,o.data≠.cell v
 | true,⟨o,e,_,d⟩=>⟨o,e,fun v z=>by rw [d] at z;cases z⟩
 | false,⟨o,e,_,d⟩=>⟨o,e,fun v z=>by rw [d] at z;cases z⟩
theorem eY {prog:Program}{w:World}{A:Around} (hh:A.handled=none) (it l:Addr) (hne:l≠it) (its:Array Value):∀b:Bool,
 Draws prog w A it [it,l] its.size (fun i v=>its[i]?=some v) (fun i h=>bL h it l i b∧bV h l its b)
 | true=>Draws.list hh it l hne its
 | false=>{
  live:=fun _ _ st=>let ⟨o,ho,_⟩:=st.1;⟨o,ho⟩
  frame:=fun _ _ _ st hk=>⟨Heap.IsTupleIter.at st.1 fun o e=>hk it (by simp) o e,Heap.IsTuple.at st.2 fun o e=>hk l (by simp) o e⟩
  item:=fun i s Q E hi st q=>yu st.1 st.2 (x:=its[i]) (by simp [hi]) fun h' it' same=>q _ h' s.toks (by simp [hi]) ⟨it',Heap.IsTuple.extBut st.2 same.extBut hne⟩ same
  done:=fun s Q E st q=>uX hh st.1 st.2 (by simp) q }
end L2
namespace L2
open PySem PySem.Spec PyProof.Rows
structure pb (z TI TO i1 i2:Addr):Prop where
 a1:TI≠z
 a2:TO≠z
 a3:i1≠z
 a4:i2≠z
 a5:TI≠TO
 a6:TI≠i1
 a7:TI≠i2
 a8:TO≠i1
 a9:TO≠i2
 a0:i1≠i2
section
variable {prog:Program}{w:World}{A:Around}{E:Value→Shared→Prop}{s:Shared}
variable {z TI TO i1 i2 l1 l2:Addr}{k:Nat}{xs ys:Array Value}{a b:Value}{c1 c2:Bool}
theorem Cr {x y:Value}{Q:Value→Shared→Prop} (D:pb z TI TO i1 i2) (n1:∀c,c=l1∨c=l2→c≠z∧c≠TO∧c≠i1∧c≠i2)
 (hz:IsZip s.heap z TI TO .none) (hTI:IsPair s.heap TI (.ref i1) (.ref i2)) (hTO:IsPair s.heap TO a b) (hh:A.handled=none)
 (h1:bL s.heap i1 l1 k c1) (h2:bL s.heap i2 l2 k c2) (q1:bV s.heap l1 xs c1) (q2:bV s.heap l2 ys c2) (hx:xs[k]?=some x) (hy:ys[k]?=some y)
 (hQ:∀h' tk,IsZip h' z TI TO (rawInt s.heap.objs.size)→IsPair h' TO x y→bL h' i1 l1 (k+1) c1→bL h' i2 l2 (k+1) c2→IsPair h' s.heap.objs.size x y→h'.objs.size=s.heap.objs.size+1→
  (∀c o,c≠z→c≠TO→c≠i1→c≠i2→s.heap.get? c=some o→h'.get? c=some o)→Q (.ref s.heap.objs.size) { s with heap:=h',toks:=tk }) :
 wpAny (model prog w) A (Builtin.«zip.__next__» ⟨[.ref z],[]⟩) (fun fin s'=>∃v,fin=.done (.ret v)∧Q v s') E s:=by
 obtain ⟨m1,m2,m3,m4⟩:=n1 l1 (.inl rfl)
 obtain ⟨m5,m6,m7,m8⟩:=n1 l2 (.inr rfl)
 have kx:k<xs.size:=(Array.getElem?_eq_some_iff.mp hx).1
 have ky:k<ys.size:=(Array.getElem?_eq_some_iff.mp hy).1
 have D1:=eY (prog:=prog) (w:=w) hh i1 l1 m3 xs c1
 have D2:=eY (prog:=prog) (w:=w) hh i2 l2 m8 ys c2
 show wpAny _ _ (field (.ref z) 2 >>= _) _ _ _;refine wpAny_bind (wpAny_field hz rfl (x:=.bool false) rfl ?_)
 show wpAny _ _ (field (.ref z) 3 >>= _) _ _ _;refine wpAny_bind (wpAny_field hz rfl (x:=.ref TI) rfl (wpAny_bind (wpAny_seqItems hTI rfl ?_)))
 show wpAny _ _ (Builtin.SmallTypes.ownedTupleIsFree (.ref z) >>= _) _ _ _;refine wpAny_bind ?_;unfold Builtin.SmallTypes.ownedTupleIsFree
 refine wpAny_bind (wpAny_field hz rfl (x:=.none) rfl (wpAny_pure ?_));simp only [if_true]
 refine wpAny_bind (wpAny_rule (wpAny_bind (wpAny_field hz rfl (x:=.ref TO) rfl (wpAny_bind (wpAny_setField_rec hz (by simp) fun g1 z1 t1=>?_)))))
 replace z1:IsZip g1 z TI TO .ellipsis:=z1
 refine wpAny_bind ?_;simp only [List.zipIdx_cons,List.zipIdx_nil,List.forIn_cons,List.forIn_nil];refine wpAny_bind (wpAny_bind (wpAny_onRaise ?_))
 show wpAny _ _ (Builtin.SmallTypes.nextOf (.ref i1) >>= _) _ _ _
 refine wpAny_bind (D1.item k _ _ _ kx ⟨h1.at fun o e=>t1.extBut _ _ D.a3 e,q1.at fun o e=>t1.extBut _ _ m1 e⟩ fun x' g2 tk2 p1 st1 t2=>wpAny_pure ?_)
 have ex:x=x':=Option.some.inj (hx.symm.trans p1)
 subst ex
 have TO2:IsPair g2 TO a b:=t2.extBut _ _ D.a8 (t1.extBut _ _ D.a2 hTO)
 refine wpAny_bind (wpAny_seqItems TO2 rfl (wpAny_bind (wpAny_updateSeq_pair TO2 fun g3 TO3 t3=>?_)))
 replace TO3:IsPair g3 TO x b:=TO3
 refine wpAny_bind (wpAny_letGo (wpAny_pure ?_));refine wpAny_bind (wpAny_bind (wpAny_onRaise ?_));show wpAny _ _ (Builtin.SmallTypes.nextOf (.ref i2) >>= _) _ _ _
 refine wpAny_bind (D2.item k _ _ _ ky ⟨h2.at fun o e=>t3.extBut _ _ D.a9.symm (t2.extBut _ _ D.a0.symm (t1.extBut _ _ D.a4 e)),q2.at fun o e=>t3.extBut _ _ m6 (t2.extBut _ _ m7 (t1.extBut _ _ m5 e))⟩ fun y' g4 tk4 p2 st2 t4=>wpAny_pure ?_)
 have ey:y=y':=Option.some.inj (hy.symm.trans p2)
 subst ey
 have TO4:IsPair g4 TO x b:=t4.extBut _ _ D.a9 TO3
 refine wpAny_bind (wpAny_seqItems TO4 rfl (wpAny_bind (wpAny_updateSeq_pair TO4 fun g5 TO5 t5=>?_)))
 replace TO5:IsPair g5 TO x y:=TO5
 refine wpAny_bind (wpAny_letGo (wpAny_pure (wpAny_pure ?_)));refine wpAny_bind (wpAny_seqItems TO5 rfl (wpAny_bind (wpAny_newTuple ?_)))
 have sz:g5.objs.size=s.heap.objs.size:=by rw [t5.1,t4.1,t3.1,t2.1,t1.1]
 have z5:IsZip g5 z TI TO .ellipsis:=t5.extBut _ _ D.a2.symm (t4.extBut _ _ D.a4.symm (t3.extBut _ _ D.a2.symm (t2.extBut _ _ D.a3.symm z1)))
 have keep:∀c o,c≠z→c≠TO→c≠i1→c≠i2→s.heap.get? c=some o→g5.get? c=some o:=fun c o d1 d2 d3 d4 e=>t5.extBut _ _ d2 (t4.extBut _ _ d4 (t3.extBut _ _ d2 (t2.extBut _ _ d3 (t1.extBut _ _ d1 e))))
 have it1:bL g5 i1 l1 (k+1) c1:=st1.1.at fun o e=>t5.extBut _ _ D.a8.symm (t4.extBut _ _ D.a0 (t3.extBut _ _ D.a8.symm e))
 have it2:bL g5 i2 l2 (k+1) c2:=st2.1.at fun o e=>t5.extBut _ _ D.a9.symm e
 have zlt:z<g5.objs.size:=Heap.lt_size z5
 show wpAny _ _ (Builtin.SmallTypes.ownedTupleHandOut (.ref z) (.ref g5.objs.size) >>= _) _ _ _;refine wpAny_bind ?_;unfold Builtin.SmallTypes.ownedTupleHandOut
 have z6:IsZip (g5.push { cls:=.type "tuple",data:=.seq #[x,y] }) z TI TO .ellipsis:=Heap.get?_push_of_some _ z5
 refine wpAny_bind (wpAny_setField_rec z6 (by simp) fun g7 z7 t7=>?_)
 replace z7:IsZip g7 z TI TO (rawInt g5.objs.size):=z7
 refine wpAny_setField_rec z7 (by simp) fun g8 z8 t8=>?_
 replace z8:IsZip g8 z TI TO (rawInt g5.objs.size):=z8
 have up:∀c o,c≠z→g5.get? c=some o→g8.get? c=some o:=fun c o d e=>t8.extBut _ _ d (t7.extBut _ _ d (Heap.get?_push_of_some _ e))
 have T8:IsPair g8 g5.objs.size x y:=t8.extBut _ _ (Nat.ne_of_gt zlt) (t7.extBut _ _ (Nat.ne_of_gt zlt) (Heap.get?_push_size _ rfl))
 have s8:g8.objs.size=g5.objs.size+1:=by rw [t8.1,t7.1,Heap.size_push]
 rw [sz] at z8 T8 s8
 refine wpAny_pure ⟨_,rfl,?_⟩;show Q (.ref g5.objs.size) _;rw [sz]
 exact hQ g8 _ z8 (up _ _ D.a2 TO5) (it1.at fun o e=>up _ o D.a3 e) (it2.at fun o e=>up _ o D.a4 e) T8 s8 fun c o d1 d2 d3 d4 e=>up c o d1 (keep c o d1 d2 d3 d4 e)
theorem EX {Q:Fin→Shared→Prop} (hh:A.handled=none) (D:pb z TI TO i1 i2) (n1:∀c,c=l1∨c=l2→c≠z∧c≠TO∧c≠i1∧c≠i2)
 (hz:IsZip s.heap z TI TO .none) (hTI:IsPair s.heap TI (.ref i1) (.ref i2)) (hTO:IsPair s.heap TO a b)
 (h1:bL s.heap i1 l1 k c1) (h2:bL s.heap i2 l2 k c2) (q1:bV s.heap l1 xs c1) (q2:bV s.heap l2 ys c2) (hend:xs.size=k∨(k<xs.size∧ys.size=k))
 (hE:∀h' e tk,(∀c o,c≠z→c≠TO→c≠i1→c≠i2→s.heap.get? c=some o→h'.get? c=some o)→(∃o,h'.get? e=some o∧o.cls=.type "StopIteration")→E (.ref e) { s with heap:=h',toks:=tk }) :
 wpAny (model prog w) A (Builtin.«zip.__next__» ⟨[.ref z],[]⟩) Q E s:=by
 obtain ⟨m1,m2,m3,m4⟩:=n1 l1 (.inl rfl)
 obtain ⟨m5,m6,m7,m8⟩:=n1 l2 (.inr rfl)
 have D1:=eY (prog:=prog) (w:=w) hh i1 l1 m3 xs c1
 have D2:=eY (prog:=prog) (w:=w) hh i2 l2 m8 ys c2
 show wpAny _ _ (field (.ref z) 2 >>= _) _ _ _;refine wpAny_bind (wpAny_field hz rfl (x:=.bool false) rfl ?_)
 show wpAny _ _ (field (.ref z) 3 >>= _) _ _ _;refine wpAny_bind (wpAny_field hz rfl (x:=.ref TI) rfl (wpAny_bind (wpAny_seqItems hTI rfl ?_)))
 show wpAny _ _ (Builtin.SmallTypes.ownedTupleIsFree (.ref z) >>= _) _ _ _;refine wpAny_bind ?_;unfold Builtin.SmallTypes.ownedTupleIsFree
 refine wpAny_bind (wpAny_field hz rfl (x:=.none) rfl (wpAny_pure ?_));simp only [if_true]
 refine wpAny_bind (wpAny_rule (wpAny_bind (wpAny_field hz rfl (x:=.ref TO) rfl (wpAny_bind (wpAny_setField_rec hz (by simp) fun g1 z1 t1=>?_)))))
 replace z1:IsZip g1 z TI TO .ellipsis:=z1
 refine wpAny_bind ?_;simp only [List.zipIdx_cons,List.zipIdx_nil,List.forIn_cons,List.forIn_nil];refine wpAny_bind (wpAny_bind (wpAny_onRaise ?_))
 show wpAny _ _ (Builtin.SmallTypes.nextOf (.ref i1) >>= _) _ _ _
 have st0:bL g1 i1 l1 k c1∧bV g1 l1 xs c1:=⟨h1.at fun o e=>t1.extBut _ _ D.a3 e,q1.at fun o e=>t1.extBut _ _ m1 e⟩
 rcases hend with hk | ⟨kx,hk⟩
 ·refine wpAny_bind (D1.done _ _ _ (by rw [hk];exact st0) fun g2 e t2 he=>?_)
  obtain ⟨oe,e1,e2⟩:=he
  have z2:IsZip g2 z TI TO .ellipsis:=t2 _ _ D.a3.symm z1
  have ez:e≠z:=fun q=>by subst q;rw [z2] at e1;cases e1;simp at e2
  exact wpAny_setField_rec z2 (by simp) fun g3 _ t3=>hE g3 e _ (fun c o d1 _ d3 _ q=>t3.extBut _ _ d1 (t2 _ _ d3 (t1.extBut _ _ d1 q))) ⟨oe,t3.extBut _ _ ez e1,e2⟩
 ·refine wpAny_bind (D1.item k _ _ _ kx st0 fun x g2 tk2 p1 st1 t2=>wpAny_pure ?_)
  have TO2:IsPair g2 TO a b:=t2.extBut _ _ D.a8 (t1.extBut _ _ D.a2 hTO)
  refine wpAny_bind (wpAny_seqItems TO2 rfl (wpAny_bind (wpAny_updateSeq_pair TO2 fun g3 TO3 t3=>?_)))
  refine wpAny_bind (wpAny_letGo (wpAny_pure ?_));refine wpAny_bind (wpAny_bind (wpAny_onRaise ?_));show wpAny _ _ (Builtin.SmallTypes.nextOf (.ref i2) >>= _) _ _ _
  have st2:bL g3 i2 l2 k c2∧bV g3 l2 ys c2:=⟨h2.at fun o e=>t3.extBut _ _ D.a9.symm (t2.extBut _ _ D.a0.symm (t1.extBut _ _ D.a4 e)),q2.at fun o e=>t3.extBut _ _ m6 (t2.extBut _ _ m7 (t1.extBut _ _ m5 e))⟩
  refine wpAny_bind (D2.done _ _ _ (by rw [hk];exact st2) fun g4 e t4 he=>?_)
  obtain ⟨oe,e1,e2⟩:=he
  have z4:IsZip g4 z TI TO .ellipsis:=t4 _ _ D.a4.symm (t3.extBut _ _ D.a2.symm (t2.extBut _ _ D.a3.symm z1))
  have ez:e≠z:=fun q=>by subst q;rw [z4] at e1;cases e1;simp at e2
  exact wpAny_setField_rec z4 (by simp) fun g5 _ t5=>hE g5 e _ (fun c o d1 d2 d3 d4 q=>t5.extBut _ _ d1 (t4 _ _ d4 (t3.extBut _ _ d2 (t2.extBut _ _ d3 (t1.extBut _ _ d1 q))))) ⟨oe,t5.extBut _ _ ez e1,e2⟩
end
end L2
namespace L2
open PySem PySem.Spec PyProof.Rows
def Ex:Bool→String
 | true => "list_iterator"
 | false => "tuple_iterator"
abbrev zA (h:Heap) (l1:Addr) (c1:Bool):Heap:=h.push { cls:=.type (Ex c1),data:=.fields #[.ref l1,.int 0 0] }
abbrev zB (h:Heap) (l1 l2:Addr) (c1 c2:Bool):Heap:=(zA h l1 c1).push { cls:=.type (Ex c2),data:=.fields #[.ref l2,.int 0 0] }
abbrev zC (h:Heap) (l1 l2:Addr) (c1 c2:Bool):Heap:=(zB h l1 l2 c1 c2).push { cls:=.type "tuple",data:=.seq #[.ref h.objs.size,.ref (zA h l1 c1).objs.size] }
abbrev zD (h:Heap) (l1 l2:Addr) (c1 c2:Bool):Heap:=(zC h l1 l2 c1 c2).push { cls:=.type "tuple",data:=.seq #[.none,.none] }
abbrev zE (h:Heap) (l1 l2:Addr) (c1 c2:Bool):Heap:=(zD h l1 l2 c1 c2).push { cls:=.type "zip",data:=.fields #[.none,.bool false,.bool false,.ref (zB h l1 l2 c1 c2).objs.size,.ref (zC h l1 l2 c1 c2).objs.size] }
set_option maxHeartbeats 8000000 in
theorem Dg (l1 l2:Addr) (xs ys:Array Value) (c1 c2:Bool) :
 Meets (Builtin.«zip.__new__» ⟨[.type "zip",.ref l1,.ref l2],[]⟩) (fun _ R s=>bV s.heap l1 xs c1∧bV s.heap l2 ys c2∧R (.ok (.ret (.ref (zD s.heap l1 l2 c1 c2).objs.size))) { s with heap:=zE s.heap l1 l2 c1 c2 }):=
 .of_wp fun prog w A R s h=>by
  obtain ⟨hp,g,d,tk,os⟩:=s;obtain ⟨q1,q2,h⟩:=h
  have hsub:=sub_zip
  have L2':bV (Shared.heap ⟨zA hp l1 c1,g,d,tk,os⟩) l2 ys c2:=bV.at q2 fun o e=>Heap.get?_push_of_some _ e
  cases c1 <;> cases c2
  ·have g1:Heap.IsTuple (Shared.heap ⟨hp,g,d,tk,os⟩) l1 xs:=q1
   have g2:Heap.IsTuple (Shared.heap ⟨hp.push { cls:=.type "tuple_iterator",data:=.fields #[.ref l1,.int 0 0] },g,d,tk,os⟩) l2 ys:=L2'
   wp_walk using wpAny_pyIter_tuple g1,wpAny_pyIter_tuple g2
   exact ⟨_,rfl,h⟩
  ·have g1:Heap.IsTuple (Shared.heap ⟨hp,g,d,tk,os⟩) l1 xs:=q1
   have g2:Heap.IsList (Shared.heap ⟨hp.push { cls:=.type "tuple_iterator",data:=.fields #[.ref l1,.int 0 0] },g,d,tk,os⟩) l2 ys:=L2'
   wp_walk using wpAny_pyIter_tuple g1,wpAny_pyIter_list g2
   exact ⟨_,rfl,h⟩
  ·have g1:Heap.IsList (Shared.heap ⟨hp,g,d,tk,os⟩) l1 xs:=q1
   have g2:Heap.IsTuple (Shared.heap ⟨hp.push { cls:=.type "list_iterator",data:=.fields #[.ref l1,.int 0 0] },g,d,tk,os⟩) l2 ys:=L2'
   wp_walk using wpAny_pyIter_list g1,wpAny_pyIter_tuple g2
   exact ⟨_,rfl,h⟩
  ·have g1:Heap.IsList (Shared.heap ⟨hp,g,d,tk,os⟩) l1 xs:=q1
   have g2:Heap.IsList (Shared.heap ⟨hp.push { cls:=.type "list_iterator",data:=.fields #[.ref l1,.int 0 0] },g,d,tk,os⟩) l2 ys:=L2'
   wp_walk using wpAny_pyIter_list g1,wpAny_pyIter_list g2
   exact ⟨_,rfl,h⟩
theorem xm {h:Heap}{it l:Addr}:∀{c:Bool},h.get? it=some { cls:=.type (Ex c),data:=.fields #[.ref l,.int 0 0] }→bL h it l 0 c
 | true,e=>⟨_,e,rfl,rfl⟩
 | false,e=>⟨_,e,rfl,rfl⟩
section
variable {prog:Program}{w:World}{A:Around}{E:Value→Shared→Prop}{s:Shared}
theorem zL {l1 l2:Addr}{xs ys:Array Value}{c1 c2:Bool}{Q:Value→Shared→Prop} (q1:bV s.heap l1 xs c1) (q2:bV s.heap l2 ys c2)
 (h:∀h',IsZip h' (s.heap.objs.size+4) (s.heap.objs.size+2) (s.heap.objs.size+3) .none→IsPair h' (s.heap.objs.size+2) (.ref s.heap.objs.size) (.ref (s.heap.objs.size+1))→
  IsPair h' (s.heap.objs.size+3) .none .none→bL h' s.heap.objs.size l1 0 c1→bL h' (s.heap.objs.size+1) l2 0 c2→
  (∀c o,s.heap.get? c=some o→h'.get? c=some o)→Q (.ref (s.heap.objs.size+4)) { s with heap:=h' }) :
 wpAny (model prog w) A (call (.type "zip") [.ref l1,.ref l2]) Q E s:=by
 refine callType_new F.called_zip (by decide) (F.typeCall_zip_2 _ _) (F.newCall_zip_2 _ _) (fun obj=>F.args_object_init_3 obj _ _) F.entry_zip_new (Dg l1 l2 xs ys c1 c2) ⟨q1,q2,?_⟩
 have s1:(zA s.heap l1 c1).objs.size=s.heap.objs.size+1:=Heap.size_push ..
 have s2:(zB s.heap l1 l2 c1 c2).objs.size=s.heap.objs.size+2:=by rw [Heap.size_push,s1]
 have s3:(zC s.heap l1 l2 c1 c2).objs.size=s.heap.objs.size+3:=by rw [Heap.size_push,s2]
 have s4:(zD s.heap l1 l2 c1 c2).objs.size=s.heap.objs.size+4:=by rw [Heap.size_push,s3]
 have g5:(zE s.heap l1 l2 c1 c2).get? (zD s.heap l1 l2 c1 c2).objs.size=some _:=Heap.get?_push_size _ rfl
 have g4:(zE s.heap l1 l2 c1 c2).get? (zC s.heap l1 l2 c1 c2).objs.size=some _:=Heap.get?_push_of_some _ (Heap.get?_push_size _ rfl)
 have g3:(zE s.heap l1 l2 c1 c2).get? (zB s.heap l1 l2 c1 c2).objs.size=some _:=Heap.get?_push_of_some _ (Heap.get?_push_of_some _ (Heap.get?_push_size _ rfl))
 have g2:(zE s.heap l1 l2 c1 c2).get? (zA s.heap l1 c1).objs.size=some _:=Heap.get?_push_of_some _ (Heap.get?_push_of_some _ (Heap.get?_push_of_some _ (Heap.get?_push_size _ rfl)))
 have g1:(zE s.heap l1 l2 c1 c2).get? s.heap.objs.size=some _:=Heap.get?_push_of_some _ (Heap.get?_push_of_some _ (Heap.get?_push_of_some _ (Heap.get?_push_of_some _ (Heap.get?_push_size _ rfl))))
 show _∧_
 rw [s2,s3,s4] at g5
 rw [s1,s2] at g3
 rw [s3] at g4
 rw [s1] at g2
 rw [s4]
 exact ⟨⟨_,g5,rfl⟩,h _ g5 g3 g4 (xm g1) (xm g2) fun c o x=>Heap.get?_push_of_some _ (Heap.get?_push_of_some _ (Heap.get?_push_of_some _ (Heap.get?_push_of_some _ (Heap.get?_push_of_some _ x))))⟩
theorem tx {z TI TO i1 i2 l1 l2:Addr}{k:Nat}{xs ys:Array Value}{a b x y:Value}{c1 c2:Bool}{Q:Option Value→Shared→Prop} (D:pb z TI TO i1 i2) (n1:∀c,c=l1∨c=l2→c≠z∧c≠TO∧c≠i1∧c≠i2)
 (hz:IsZip s.heap z TI TO .none) (hTI:IsPair s.heap TI (.ref i1) (.ref i2)) (hTO:IsPair s.heap TO a b) (hh:A.handled=none)
 (h1:bL s.heap i1 l1 k c1) (h2:bL s.heap i2 l2 k c2) (q1:bV s.heap l1 xs c1) (q2:bV s.heap l2 ys c2) (hx:xs[k]?=some x) (hy:ys[k]?=some y)
 (hQ:∀h' tk,IsZip h' z TI TO (rawInt s.heap.objs.size)→IsPair h' TO x y→bL h' i1 l1 (k+1) c1→bL h' i2 l2 (k+1) c2→IsPair h' s.heap.objs.size x y→h'.objs.size=s.heap.objs.size+1→
  (∀c o,c≠z→c≠TO→c≠i1→c≠i2→s.heap.get? c=some o→h'.get? c=some o)→Q (some (.ref s.heap.objs.size)) { s with heap:=h',toks:=tk }) :
 wpAny (model prog w) A (pyNext (.ref z)) Q E s:=by
 have hT:s.TypeIs (.ref z) "zip" := ⟨_,hz,rfl⟩
 unfold pyNext
 exact wpAny_bind (wpAny_attempt (wpAny_callSpecial?_slot (name:=Str.ofString "__next__") hT F.slot_zip_next (wpAny_call_entry F.slot_zip_next hT F.entry_zip_next
  (Cr D n1 hz hTI hTO hh h1 h2 q1 q2 hx hy fun h' tk a1 a2 a3 a4 a5 a6 a7=>wpAny_pure (hQ h' tk a1 a2 a3 a4 a5 a6 a7)) (F.args_zip_next_1 _))))
theorem uZ {z TI TO i1 i2 l1 l2:Addr}{k:Nat}{xs ys:Array Value}{a b:Value}{c1 c2:Bool}{Q:Option Value→Shared→Prop} (hh:A.handled=none) (D:pb z TI TO i1 i2) (n1:∀c,c=l1∨c=l2→c≠z∧c≠TO∧c≠i1∧c≠i2)
 (hz:IsZip s.heap z TI TO .none) (hTI:IsPair s.heap TI (.ref i1) (.ref i2)) (hTO:IsPair s.heap TO a b)
 (h1:bL s.heap i1 l1 k c1) (h2:bL s.heap i2 l2 k c2) (q1:bV s.heap l1 xs c1) (q2:bV s.heap l2 ys c2) (hend:xs.size=k∨(k<xs.size∧ys.size=k))
 (hQ:∀h' tk,(∀c o,c≠z→c≠TO→c≠i1→c≠i2→s.heap.get? c=some o→h'.get? c=some o)→Q none { s with heap:=h',toks:=tk }):wpAny (model prog w) A (pyNext (.ref z)) Q E s:=by
 have hT:s.TypeIs (.ref z) "zip" := ⟨_,hz,rfl⟩
 unfold pyNext
 refine wpAny_bind (wpAny_attempt (wpAny_callSpecial?_slot (name:=Str.ofString "__next__") hT F.slot_zip_next (wpAny_call_entry F.slot_zip_next hT F.entry_zip_next
  (EX hh D n1 hz hTI hTO h1 h2 q1 q2 hend fun h' e tk hk he=>?_) (F.args_zip_next_1 _))))
 obtain ⟨o,ho,hc⟩:=he
 refine wpAny_bind (wpAny_isInstance (T := "StopIteration") (b:=true) ⟨o,ho,hc⟩ isSubtype_stop (wpAny_pure (hQ _ tk hk)))
end
theorem af.turnedL {X:Cx}{pins:List (Addr×Obj)}{σ:St}{H:Hp}{s:Shared}{h':Heap}{t':Nat}{ch:List Addr} (I:af X pins σ H s) (hf:∀b∈ch,iV X pins H b) (k:∀b u,b∉ch→s.heap.get? b=some u→h'.get? b=some u) :
 af X pins σ H { s with heap:=h',toks:=t' }:=by
 refine I.step (g':=s.gens) (d':=s.drawn) (ch:=ch) (fun b hb=>?_) (fun b o _ _ hc e _=>k b o hc e) (fun b o _ _ hc e _=>⟨o.slots,k b o hc e⟩) (fun _ _ _ _ n=>n)
  (fun b o hc e=>⟨o,k b o hc e⟩) (fun _ _ e=>e) (fun _ _ _ e=>e) (fun b ps e=>⟨#[],by rw [e];simp⟩) (fun m hm=>?_) (fun b u e=>?_) I.bare
 ·obtain ⟨f0,f1,f2,f3,f4,f5⟩:=hf b hb
  exact ⟨f3,f1,f4,f5⟩
 ·obtain ⟨o,es,ep,ho,r⟩:=hm
  exact ⟨o,es,ep,k _ o (fun z=>(hf _ z).2.1 rfl) ho,r⟩
 ·refine (I.hok b u e).stay (fun c v hc q=>k c v (fun z=>?_) q) (fun _ q=>q) fun _ _ q=>q
  have hcn:=(hf c z).1
  rcases hc with rfl | hc
  ·rw [e] at hcn;cases hcn
  ·rw [hc] at hcn;cases hcn
def kh (K:PySem.W.Frag) (H:Hp) (a:Addr) (xs:List V):Bool→Prop
 | true=>ax K H a xs
 | false=>ap K H a xs
theorem af.seqC {X:Cx}{pins:List (Addr×Obj)}{σ:St}{H:Hp}{s:Shared}{a:Addr}{xs:List V} (I:af X pins σ H s):∀{c:Bool},kh X.K H a xs c→∃its:List Value,aM xs its∧bV s.heap a its.toArray c
 | true,q=>let ⟨its,rv,p,_⟩:=I.list q;⟨its,rv,p.isList⟩
 | false,q=>let ⟨its,rv,p,_⟩:=I.tuple q;⟨its,rv,p⟩
theorem af.seqC_inj {X:Cx}{pins:List (Addr×Obj)}{σ:St}{H:Hp}{s:Shared}{a:Addr}{xs ys:List V} (I:af X pins σ H s):∀{c:Bool},kh X.K H a xs c→kh X.K H a ys c→xs=ys
 | true,p,q=>I.list_inj p q
 | false,p,q=>I.tuple_inj p q
def Gn (K:PySem.W.Frag) (a1 a2:Addr) (c1 c2:Bool):It:=
 ⟨fun i H=>kd fun xs ys x y=>kh K H a1 xs c1∧kh K H a2 ys c2∧xs[i]?=some x∧ys[i]?=some y,
  fun i H v H'=>fJ fun T x y=>H T=none∧v=.ref T∧H'=aN H T (.tup [x,y])∧(∀xs,kh K H a1 xs c1→xs[i]?=some x)∧(∀ys,kh K H a2 ys c2→ys[i]?=some y),
  fun i H=>bo fun xs ys=>kh K H a1 xs c1∧kh K H a2 ys c2∧(xs.length=i∨(i<xs.length∧ys.length=i))⟩
theorem AE {P:Program}{w:World}{K:PySem.W.Frag}{es:List Expr}{kk:Nat}{pos:Pos} (a1 a2 z TI TO i1 i2:Addr) (c1 c2:Bool) (D:pb z TI TO i1 i2) (n1:∀c,c=a1∨c=a2→c≠z∧c≠TO∧c≠i1∧c≠i2) :
 rz P w K (.Tuple es kk pos) (Gn K a1 a2 c1 c2) [z,TO,i1,i2,TI] z (fun i h=>IsZip h z TI TO .none∧IsPair h TI (.ref i1) (.ref i2)∧(bo fun a b=>IsPair h TO a b)∧bL h i1 a1 i c1∧bL h i2 a2 i c2) where
 mem:=by simp
 obj:=fun i h st b hb=>by
  obtain ⟨hz,hTI,⟨a,b',hTO⟩,h1,h2⟩:=st
  have hb':b=z∨b=TO∨b=i1∨b=i2∨b=TI:=by simpa using hb
  rcases hb' with rfl | rfl | rfl | rfl | rfl
  ·exact ⟨_,hz,fun v q=>by have q':Data.fields _=Data.cell v:=q;cases q'⟩
  ·exact ⟨_,hTO,fun v q=>by have q':Data.seq _ _=Data.cell v:=q;cases q'⟩
  ·exact h1.some
  ·exact h2.some
  ·exact ⟨_,hTI,fun v q=>by have q':Data.seq _ _=Data.cell v:=q;cases q'⟩
 keep:=fun i h h' st k=>by
  obtain ⟨hz,hTI,⟨a,b',hTO⟩,h1,h2⟩:=st
  exact ⟨k z (by simp) _ hz,k TI (by simp) _ hTI,⟨a,b',k TO (by simp) _ hTO⟩,h1.at fun o q=>k i1 (by simp) o q,h2.at fun o q=>k i2 (by simp) o q⟩
 item:=by
  intro X hP hw hK hc i pins s σ H E I hf st hg
  subst hP hw hK
  obtain ⟨hz,hTI,⟨a,b',hTO⟩,h1,h2⟩:=st
  obtain ⟨xs,ys,x,y,p1,p2,hx,hy⟩:=hg
  obtain ⟨its1,rv1,k1⟩:=I.seqC p1
  obtain ⟨its2,rv2,k2⟩:=I.seqC p2
  obtain ⟨u,hu,ru⟩:=rv1.get hx
  obtain ⟨v,hv,rw'⟩:=rv2.get hy
  have hnT:H s.heap.objs.size=none:=I.fresh
  refine tx D n1 hz hTI hTO (I.ok.hd hc) h1 h2 k1 k2 (x:=u) (y:=v) (by simpa using hu) (by simpa using hv) fun h' tk zo TO' t1 t2 T' sz keep=>?_
  refine ⟨_,rfl,wpAny_letOwnedTupleGo_zip (s:={ s with heap:=h',toks:=tk }) zo fun h2' z2 s2=>?_⟩
  have zlt:z<s.heap.objs.size:=Heap.lt_size hz
  have TOlt:TO<s.heap.objs.size:=Heap.lt_size hTO
  have TIlt:TI<s.heap.objs.size:=Heap.lt_size hTI
  have i1lt:i1<s.heap.objs.size:=let ⟨_,e,_⟩:=h1.some;Heap.lt_size e
  have i2lt:i2<s.heap.objs.size:=let ⟨_,e,_⟩:=h2.some;Heap.lt_size e
  have hT2:h2'.get? s.heap.objs.size=some { cls:=.type "tuple",data:=.seq #[u,v] }:=(s2.2 _ (Nat.ne_of_gt zlt)).trans T'
  refine ⟨.ref s.heap.objs.size,aN H s.heap.objs.size (.tup [x,y]),I.turnedNew (ch:=[z,TO,i1,i2,TI]) (t':=tk) hf (fun b o hb q=>?_) (Nat.le_refl _) ?_,rfl,
   ⟨_,x,y,hnT,rfl,rfl,fun zs hs=>by rw [I.seqC_inj hs p1];exact hx,fun zs hs=>by rw [I.seqC_inj hs p2];exact hy⟩,⟨z2,(s2.2 _ D.a1).trans (keep _ _ D.a1 D.a5 D.a6 D.a7 hTI),⟨_,_,(s2.2 _ D.a2).trans TO'⟩,t1.at fun o e=>(s2.2 _ D.a3).trans e,t2.at fun o e=>(s2.2 _ D.a4).trans e⟩,fun b hb=>?_⟩
  ·have e1:b≠z:=fun q=>hb (by simp [q])
   have e2:b≠TO:=fun q=>hb (by simp [q])
   have e3:b≠i1:=fun q=>hb (by simp [q])
   have e4:b≠i2:=fun q=>hb (by simp [q])
   exact (s2.2 b e1).trans (keep b o e1 e2 e3 e4 q)
  ·exact ⟨by show 2≤sizeLine;decide,[u,v],.cons ru (.cons rw' .nil),⟨_,hT2,rfl,_,rfl⟩,_,hT2,rfl⟩
  ·have hb':b=z∨b=TO∨b=i1∨b=i2∨b=TI:=by simpa using hb
   have hlt:b<s.heap.objs.size:=by rcases hb' with rfl | rfl | rfl | rfl | rfl <;> assumption
   rw [ao (Nat.ne_of_lt hlt)]
   exact (hf b hb).1
 done:=by
  intro X hP hw hK hc i pins s σ H E I hf st hg
  subst hP hw hK
  obtain ⟨hz,hTI,⟨a,b',hTO⟩,h1,h2⟩:=st
  obtain ⟨xs,ys,p1,p2,hl⟩:=hg
  obtain ⟨its1,rv1,k1⟩:=I.seqC p1
  obtain ⟨its2,rv2,k2⟩:=I.seqC p2
  have l1:=rv1.length
  have l2:=rv2.length
  refine uZ (I.ok.hd hc) D n1 hz hTI hTO h1 h2 k1 k2 (by simp;trivial) fun h' tk keep=>⟨rfl,I.turnedL (ch:=[z,TO,i1,i2,TI]) (t':=tk) hf fun b o hb q=>?_⟩
  exact keep b o (fun q=>hb (by simp [q])) (fun q=>hb (by simp [q])) (fun q=>hb (by simp [q])) (fun q=>hb (by simp [q])) q
 self:=fun _ _ _ _ _ st h=>wpAny_pyIter_zip st.1 h
def C0 (K:PySem.W.Frag) (ta:TA):TI:=fun σ H R=>ta σ H fun vs H1=>kd fun a1 a2 c1 c2=>vs=[.ref a1,.ref a2]∧(∃xs,kh K H1 a1 xs c1)∧(∃ys,kh K H1 a2 ys c2)∧R (Gn K a1 a2 c1 c2) H1
theorem wE:bootBuiltins "zip" = some (.type "zip"):=by decide +kernel
theorem Dw {X:Cx}{es:List Expr}{kk:Nat}{tp:Pos}{a b:Expr}{ta:TA}{p pos:Pos} (hg:Gl X "zip") (hm:X.mg "zip" = none) (ha:PA X [a,b] ta) (hs:starEach [a,b] X.env=[(false,eval a X.env),(false,eval b X.env)]:=by rfl) (hs2:starEach [b] X.env=[(false,eval b X.env)]:=by rfl) :
 PI X (.Tuple es kk tp) (.Call (.Name "zip" p) [a,b] [] pos) (C0 X.K ta):=by
 intro pins s σ H R I h
 refine Call_ (f8 I hg hm wE (PyProof.Rows.callWith_type1 (aW (ha pos pins s σ H _ I h) fun us s1 ⟨vs,H1,I1,r1,q1⟩=>?_) (by rw [hs,hs2]) (by rw [hs2];rfl)))
 obtain ⟨a1,a2,c1,c2,rfl,⟨xs,p1⟩,⟨ys,p2⟩,q⟩:=q1
 obtain ⟨u1,u2,rfl,ru1,ru2⟩:=r1.two
 obtain rfl:u1=.ref a1:=ru1
 obtain rfl:u2=.ref a2:=ru2
 obtain ⟨its1,rv1,k1⟩:=I1.seqC p1
 obtain ⟨its2,rv2,k2⟩:=I1.seqC p2
 have d1:=k1.lt
 have d2:=k2.lt
 refine zL k1 k2 fun h' hz hTI hTO t1 t2 hk=>wpAny_pyIter_zip hz ?_
 have I2:af X pins σ H1 { s1 with heap:=h',toks:=s1.toks }:=I1.kept hk
 refine ⟨s1.heap.objs.size+4,[s1.heap.objs.size+4,s1.heap.objs.size+3,s1.heap.objs.size,s1.heap.objs.size+1,s1.heap.objs.size+2],_,_,H1,rfl,I2,AE a1 a2 (s1.heap.objs.size+4) (s1.heap.objs.size+2) (s1.heap.objs.size+3) s1.heap.objs.size (s1.heap.objs.size+1) c1 c2
  ⟨by simp,by simp,Nat.ne_of_lt (by simp),by simp,by simp,Nat.ne_of_gt (by simp),by simp,Nat.ne_of_gt (by simp),by simp,Nat.ne_of_lt (by simp)⟩ (fun c hc=>?_),⟨hz,hTI,⟨_,_,hTO⟩,t1,t2⟩,fun b hb=>?_,q⟩
 ·have:c<s1.heap.objs.size:=by rcases hc with rfl | rfl <;> assumption
  exact ⟨Nat.ne_of_lt (Nat.lt_of_lt_of_le this (Nat.le_add_right _ _)),Nat.ne_of_lt (Nat.lt_of_lt_of_le this (Nat.le_add_right _ _)),Nat.ne_of_lt this,Nat.ne_of_lt (Nat.lt_of_lt_of_le this (Nat.le_add_right _ _))⟩
 ·have hb':b=s1.heap.objs.size+4∨b=s1.heap.objs.size+3∨b=s1.heap.objs.size∨b=s1.heap.objs.size+1∨b=s1.heap.objs.size+2:=by simpa using hb
  have hle:s1.heap.objs.size≤b:=by rcases hb' with rfl | rfl | rfl | rfl | rfl <;> trivial
  exact I1.fpOk hle (I1.hok.fresh hle)
end L2
namespace L2
open PySem PySem.Spec PyProof.Rows
def vG:PyData→Bool
 | .list _=>true
 | .tuple _=>true
 | _=>false
theorem gF {K:PySem.W.Frag} (d:PyData):PySem.W.kitAny K (.type (v0 d)) [.type "list",.type "tuple"]=some (vG d):=by
 unfold PySem.W.kitAny PySem.W.kitAny PySem.W.kitAny
 rw [iu,jE]
 cases d <;> rfl
inductive Dz (K:PySem.W.Frag) (xs:List V) (H:Hp) (Q:VK):Prop
 | mk (x:V) (p:Addr) (d:PyData) (E:Addr→Prop) (h0:xs=[x,.ref p]) (h1:bc E H x d) (h2:ap K H p [.ty "list",.ty "tuple"]) (h3:Q (.bl (vG d)) H)
def Bn (K:PySem.W.Frag):List V→Hp→VK→Prop:=fun xs H Q=>Dz K xs H Q
section
variable {X:Cx}{K:PySem.W.Frag}
theorem vF:cf X (.builtin "isinstance") (Bn X.K):=by
 intro pins s σ H xs us Q I r h
 obtain ⟨x,p,d,E,rfl,hx,hp,q⟩:=h
 obtain ⟨u,c,rfl,ru,rc⟩:=r.two
 obtain rfl:c=Value.ref p:=rc
 obtain ⟨its,rv,⟨o,e1,e2,n,e3⟩,_⟩:=I.tuple hp
 obtain ⟨u1,u2,rfl,r1,r2⟩:=rv.two
 obtain rfl:u1=Value.type "list" := r1
 obtain rfl:u2=Value.type "tuple" := r2
 have q':∀tk,EP X pins σ Q (.bool (vG d)) { s with toks:=tk }:=fun tk=>⟨.bl _,H,I.tok tk,rfl,q⟩
 obtain ⟨oc,od,odt,osl⟩:=o
 dsimp only at e2 e3
 subst e2 e3
 cases hx with
 | non=>cases (show u=Value.none from ru);exact PySem.W.kia_tup PySem.W.kitx_none I.kIn True.intro e1 (gF .none) (fun z=>nomatch z) q'
 | bl y=>cases (show u=Value.bool y from ru);exact PySem.W.kia_tup PySem.W.kitx_bool I.kIn True.intro e1 (gF (.bool y)) (fun z=>nomatch z) q'
 | int i=>obtain ⟨t,w⟩:=(show ∃t,u=Value.int i t from ru);cases w;exact PySem.W.kia_tup PySem.W.kitx_int I.kIn True.intro e1 (gF (.int i)) (fun z=>nomatch z) q'
 | str y=>obtain ⟨t,w⟩:=(show ∃t,u=Value.str y t from ru);cases w;exact PySem.W.kia_tup PySem.W.kitx_str I.kIn True.intro e1 (gF (.str y)) (fun z=>nomatch z) q'
 | @lst a xs ds ea _ _=>
  cases (show u=Value.ref a from ru)
  obtain ⟨_,_,m,_,h1⟩:=(show bh X.prog X.w H s.heap a (.lst xs) from I.hok a _ ea)
  exact PySem.W.kia_tup PySem.W.kitx_list I.kIn ⟨_,h1,rfl⟩ e1 (gF (.list ds)) (fun z=>nomatch z) q'
 | @tup a xs ds ea _=>
  cases (show u=Value.ref a from ru)
  obtain ⟨_,_,_,p,_⟩:=(show bh X.prog X.w H s.heap a (.tup xs) from I.hok a _ ea)
  obtain ⟨o,h1,h2,_⟩:=p
  exact PySem.W.kia_tup PySem.W.kitx_tuple I.kIn ⟨o,h1,h2⟩ e1 (gF (.tuple ds)) (fun z=>nomatch z) q'
theorem zr (e:X.K=K:=by rfl):cf X (.builtin "isinstance") (Bn K):=by subst e;exact vF
end
def Sz (m:Nat) (i:Int):Prop:=i.natAbs<2 ^ m
theorem Sz.mono {m n:Nat}{i:Int} (h:Sz m i) (k:m≤n):Sz n i:=Nat.lt_of_lt_of_le h (Nat.pow_le_pow_right (by decide) k)
theorem Sz.mul {m n:Nat}{i j:Int} (h:Sz m i) (k:Sz n j):Sz (m+n) (i*j):=by
 unfold Sz at *
 rw [Int.natAbs_mul,Nat.pow_add]
 exact Nat.mul_lt_mul'' h k
theorem Sz.neg {m:Nat}{i:Int} (h:Sz m i):Sz m (-i):=by
 unfold Sz at *
 trivial
theorem Sz.le {m:Nat}{i j:Int} (h:Sz m j) (k:i.natAbs≤j.natAbs):Sz m i:=Nat.lt_of_le_of_lt k h
theorem Sz.log {m:Nat}{i:Int} (h:Sz m i) (h0:i≠0):i.natAbs.log2<m:=(Nat.log2_lt (by trivial)).mpr h
theorem Sz.bits {m:Nat}{i:Int} (h:Sz m i):Builtin.Int.intBits i≤m:=by
 unfold Builtin.Int.intBits
 by_cases h0:i=0
 ·subst h0;exact Nat.zero_le _
 ·have:=h.log h0
  rw [if_neg (by simpa using h0)]
  trivial
def Bd (i j:Int):Prop:=bo fun m n=>Sz m i∧Sz n j∧m+n≤134217728
section
variable {X:Cx}
theorem fN:cB X (binaryOp .Mult) (rI Bd fun i j=>.int (i*j)):=uA fun _ _ _ _ _ _ _ hc q=>by
 obtain ⟨m,n,h1,h2,h3⟩:=hc
 exact mul_int q (PyProof.Rows.mulOk_of_bits h1.bits h2.bits h3)
def yp (_ j:Int):Prop:=j≠0∧Sz 9000 j
theorem wI:cB X (binaryOp .FloorDiv) (rI yp fun i j=>.int (i.fdiv j)):=uA fun i j _ _ _ _ _ hc q=>
 floordiv_int hc.1 q (.inl (PyProof.noPylong_of_log2 (hc.2.log hc.1)))
end
end L2
namespace L2
open PySem PySem.Spec PyProof.Rows
def Dp:Nat→PyData→Prop
 | 0,_=>False
 | n+1,.list xs=>xs.length≤1000∧∀x∈xs,Dp n x
 | n+1,.tuple xs=>xs.length≤1000∧∀x∈xs,Dp n x
 | _+1,_=>True
inductive Bs (n:Nat) (vs:List V) (H:Hp) (Q:VK):Prop
 | mk (x y:V) (d:PyData) (E:Addr→Prop) (h0:vs=[x,y]) (h1:bc E H x d) (h2:bc E H y d) (h3:Dp n d) (h4:∀H',ak H H'→Q (.bl true) H')
def ES (n:Nat):Sp:=fun vs H Q _=>Bs n vs H Q
theorem bM {H H':Hp}{D:Addr}{o:HO} (hD:H D=none) (k:ak H H'):ak H (aN H' D o):=fun b u e=>by
 rw [ao (aY e hD)];exact k b u e
theorem aQ.nth {E:Addr→Prop}{H:Hp}{vs:List V}{ds:List PyData} (r:aQ E H vs ds) (i:Nat) {v:V}{d:PyData} (hv:vs[i]?=some v) (hd:ds[i]?=some d):bc E H v d:=by
 obtain ⟨d',e,h⟩:=r.get hv
 rw [hd] at e
 cases e
 exact h
theorem ba.free {b p:Addr}{H H9:Hp}{t9:Int} (s:ba (Eb b) H H9) (B:Bx H9 b t9) (h:H9 p=none):H p=none:=by
 cases e:H p with
 | none=>rfl
 | some o=>
  by_cases hb:p=b
  ·obtain ⟨c,x,eb,_⟩:=B
   rw [←hb,h] at eb;cases eb
  ·rw [s.old p o hb e] at h;cases h
mutual
theorem bc.narrow {E F:Addr→Prop}{H:Hp} (k:∀a,F a→E a):∀{v:V}{d:PyData},bc E H v d→bc F H v d
 | _,_,.non=>.non
 | _,_,.bl b=>.bl b
 | _,_,.int i=>.int i
 | _,_,.str x=>.str x
 | _,_,.lst h ne r=>.lst h (fun z=>ne (k _ z)) (aQ.narrow k r)
 | _,_,.tup h r=>.tup h (aQ.narrow k r)
theorem aQ.narrow {E F:Addr→Prop}{H:Hp} (k:∀a,F a→E a):∀{vs:List V}{ds:List PyData},aQ E H vs ds→aQ F H vs ds
 | _,_,.nil=>.nil
 | _,_,.cons h r=>.cons (bc.narrow k h) (aQ.narrow k r)
end
theorem qi {Q:VK}{H:Hp}{x:V} (h:Q (.bl true) H):Q (.bl (decide (x=x))) H:=by rw [decide_eq_true rfl];exact h
theorem xA (n:Nat):(List.replicate n true).all id=true:=by
 induction n with
 | zero=>rfl
 | succ n ih=>rw [List.replicate_succ,List.all_cons,ih];rfl
theorem wp (n:Nat):(List.replicate n true).map V.bl++[V.bl true]=(List.replicate (n+1) true).map V.bl:=by
 rw [List.replicate_succ',List.map_append];rfl
def A9 (H1:Hp) (D:Addr) (i:Nat) (H':Hp) (ys:List V):Prop:=ys=(List.replicate i true).map V.bl∧H' D=some (.lst ys)∧ak H1 H'
theorem kz {x:V}{A B:Prop} (h:B):if (!decide (x=x))=true then A else B:=by rw [decide_eq_true rfl];exact bC h
theorem vi {x:V}{A B:Prop} (h:A):if decide (x=x)=true then A else B:=by rw [decide_eq_true rfl];exact bW h
end L2
namespace L2
open PySem PySem.Spec PyProof.Rows
abbrev fr (z:Int×Int):HO:=.tup [.int z.1,.int z.2]
abbrev GY (n1 _ n2 _:Int):Int:=n1*n2
abbrev GU (_ d1 _ d2:Int):Int:=d1*d2
def wH (i j:Int):Int:=if i<j then -1 else if j<i then 1 else 0
inductive CZ (vs:List V) (H:Hp) (Q:VK):Prop
 | mk (a b:Addr) (n1 d1 n2 d2:Int) (h0:vs=[.ref a,.ref b]) (h1:H a=some (.tup [.int n1,.int d1])) (h2:H b=some (.tup [.int n2,.int d2])) (h3:Sz 4000 n1) (h4:Sz 4000 d1) (h5:Sz 4000 n2) (h6:Sz 4000 d2) (h7:Q (.int (wH (n1*d2) (n2*d1))) H)
def E9:Sp:=fun vs H Q _=>CZ  vs H Q
theorem mq {i j:Int} (h1:Sz 4000 i) (h2:Sz 4000 j):Bd i j:=⟨4000,4000,h1,h2,by decide⟩
theorem xM {i j:Int} (h1:Sz 4000 i) (h2:Sz 4000 j):Sz 9000 (i*j):=(h1.mul h2).mono (by decide)
theorem GK {n d:Int} (hd:d≠0) (h:Sz 9000 d):Sz 9000 ((Int.gcd n d:Nat):Int):=h.le (by
 rw [Int.natAbs_natCast]
 exact Nat.le_of_dvd (by trivial) (Int.ofNat_dvd_left.mp (Int.gcd_dvd_right ..)))
structure Fb (b:Nat) (n d:Int):Prop where
 sn:Sz b n
 sd:Sz b d
 pos:1≤d
 co:Int.gcd n d=1
theorem Fb.low {b:Nat}{n d:Int} (h1:Sz b n) (h2:Sz b d) (hd:d≠0):Fb b (KM.low n d).1 (KM.low n d).2:=by
 obtain ⟨a,_,c,e,f⟩:=KM.low_spec n d hd
 exact ⟨h1.le e,h2.le f,a,c⟩
end L2
namespace L2
open PySem PySem.Spec PyProof.Rows
structure Nw (H:Hp) (p:Addr) (o:HO) (H':Hp):Prop where
 fr:H p=none
 sm:ak H H'
 at':H' p=some o
theorem Nw.mk' {H:Hp}{p:Addr}{o:HO} (h:H p=none):Nw H p o (aN H p o):=⟨h,ak.new h,am⟩
section
variable {X:Cx}{es:List Expr}{t:TA}{pos:Pos}{K:PySem.W.Frag}
def FI (t:TA):TE:=fun σ H Q=>t σ H fun xs H1=>xs.length≤10000∧∀p H',Nw H1 p (.tup xs) H'→Q (.ref p) H'
def FS (t:TA):TE:=fun σ H Q=>t σ H fun xs H1=>xs.length≤10000∧∀p H',Nw H1 p (.lst xs) H'→Q (.ref p) H'
theorem fw {n:Nat} (h:n≤10000):n≤sizeLine:=by rw [sizeLine_eq];trivial
theorem aF {x1} (h:PA X es t):PE X (.Tuple es x1 pos) (FI t):=by
 intro pins s σ H Q I hq
 refine wpAny_Tuple_spliced (aW (h pos pins s σ H _ I hq) fun us s1 ⟨xs,H1,I1,r,z',q⟩=>⟨by rw [←r.length];exact fw z',?_⟩)
 have z:=fw z'
 have hf:H1 s1.heap.objs.size=none:=I1.hok.fresh (Nat.le_refl _)
 refine ⟨.ref s1.heap.objs.size,aN H1 s1.heap.objs.size (.tup xs),I1.laid (t':=s1.toks) (fun b u e=>Heap.get?_push_of_some _ e) (Nat.le_refl _) ?_,rfl,q _ _ (.mk' hf)⟩
 exact ⟨z,us,r,⟨_,Heap.get?_push_size _ rfl,rfl,_,rfl⟩,_,Heap.get?_push_size _ rfl,rfl⟩
theorem bO (h:PA X es t):PE X (.List es pos) (FS t):=by
 intro pins s σ H Q I hq
 refine wpAny_List_spliced (aW (h pos pins s σ H _ I hq) fun us s1 ⟨xs,H1,I1,r,z',q⟩=>⟨by rw [←r.length];exact fw z',?_⟩)
 have z:=fw z'
 have hf:H1 s1.heap.objs.size=none:=I1.hok.fresh (Nat.le_refl _)
 refine ⟨.ref s1.heap.objs.size,aN H1 s1.heap.objs.size (.lst xs),I1.laid (t':=s1.toks) (fun b u e=>Heap.get?_push_of_some _ e) (Nat.le_refl _) ?_,rfl,q _ _ (.mk' hf)⟩
 exact ⟨z,us,0,r,Heap.get?_push_size _ rfl⟩
inductive C5 (x:V) (y:V) (H:Hp) (Q:VK):Prop
 | mk (l:_) (b:_) (xs:_) (zs:_) (h0:x=.ref l) (h1:y=.ref b) (h2:H l=some (.lst xs)) (h3:H b=some (.lst zs)) (h4:xs.length+zs.length≤10000) (h5:∀p H',Nw H p (.lst (xs++zs)) H'→Q (.ref p) H')
def Fe:R2:=fun x y H Q=>C5  x y H Q
theorem kB:cB X (binaryOp .Add) Fe:=fun pins s σ H x y v u Q I rx ry ⟨l,b,xs,zs,e1,e2,h1,h2,hz,q⟩=>
 DZ pins s σ H x y v u Q I rx ry ⟨l,b,xs,zs,e1,e2,h1,h2,fw hz,fun p hp=>q p _ (.mk' hp)⟩
inductive FQ (K:PySem.W.Frag) (x:V) (lo:Option Int) (hi:Option Int) (H:Hp) (Q:VK):Prop
 | mk (a:_) (xs:_) (h0:x=.ref a) (h1:ax K H a xs) (h2:∀p H',Nw H p (.lst (jm xs lo hi)) H'→Q (.ref p) H')
def GM (K:PySem.W.Frag):V→Option Int→Option Int→Hp→VK→Prop:=fun x lo hi H Q=>FQ K x lo hi H Q
theorem jo (e:X.K=K:=by rfl):Du X (GM K):=by
 subst e
 exact fun pins s σ H x v vl vu lo hi sl Q I rx hs pl pu ⟨a,xs,e,h,q⟩=>td pins s σ H x v vl vu lo hi sl Q I rx hs pl pu ⟨a,xs,e,h,fun p hp=>q p _ (.mk' hp)⟩
inductive C1 (x:V) (y:V) (H:Hp) (Q:VK):Prop
 | mk (l:_) (k:_) (xs:_) (h0:x=.ref l) (h1:y=.int k) (h2:H l=some (.lst xs)) (h3:-(2 ^ 63)≤k) (h4:k<2 ^ 63) (h5:xs.length*k.toNat≤10000) (h6:∀p H',Nw H p (.lst (List.replicate k.toNat xs).flatten) H'→Q (.ref p) H')
def Fj:R2:=fun x y H Q=>C1  x y H Q
theorem Bv:cB X (binaryOp .Mult) Fj:=fun pins s σ H x y v u Q I rx ry ⟨l,k,xs,e1,e2,h1,h2,h3,hz,q⟩=>
 Ee pins s σ H x y v u Q I rx ry ⟨l,k,xs,e1,e2,h1,h2,h3,fw hz,fun p hp=>q p _ (.mk' hp)⟩
inductive Cy (K:PySem.W.Frag) (xs:List V) (H:Hp) (Q:VK):Prop
 | mk (p:_) (ys:_) (h0:xs=[.ref p]) (h1:(ax K H p ys∨ap K H p ys)) (h2:∀l H',Nw H l (.lst ys) H'→Q (.ref l) H')
def El (K:PySem.W.Frag):List V→Hp→VK→Prop:=fun xs H Q=>Cy K xs H Q
theorem uL (e:X.K=K:=by rfl):cf X (.type "list") (El K):=by
 subst e
 exact fun pins s σ H xs us Q I r ⟨p,ys,e,h,q⟩=>p6 pins s σ H xs us Q I r ⟨p,ys,e,h,fun l hl=>q l _ (.mk' hl)⟩
inductive Af (K:PySem.W.Frag) (xs:List V) (H:Hp) (Q:VK):Prop
 | mk (p:_) (ys:_) (h0:xs=[.ref p]) (h1:ax K H p ys) (h2:∀l H',Nw H l (.tup ys) H'→Q (.ref l) H')
def Cd (K:PySem.W.Frag):List V→Hp→VK→Prop:=fun xs H Q=>Af K xs H Q
theorem jh (e:X.K=K:=by rfl):cf X (.type "tuple") (Cd K):=by
 subst e
 exact fun pins s σ H xs us Q I r ⟨p,ys,e,h,q⟩=>uN pins s σ H xs us Q I r ⟨p,ys,e,.inl ⟨h,fun l hl=>q l _ (.mk' hl)⟩⟩
end
structure Ch (H:Hp) (p:Addr) (xs:List V) (H':Hp):Prop where
 at':H' p=some (.lst xs)
 ol:∀a o,a≠p→H a=some o→H' a=some o
 fre:∀a,a≠p→H a=none→H' a=none
theorem Ch.mk' {H:Hp}{p:Addr}{xs:List V}:Ch H p xs (aN H p (.lst xs)):=⟨am,fun a o n h=>by rw [ao n];exact h,fun a n h=>by rw [ao n];exact h⟩
theorem Ch.tup {H H':Hp}{p a:Addr}{xs ys zs:List V} (c:Ch H p xs H') (h:H a=some (.tup ys)) (hp:H p=some (.lst zs)):H' a=some (.tup ys):=c.ol a _ (Bl h hp (by intro z;cases z)) h
section
variable {X:Cx}
inductive CQ (x:V) (vs:List V) (H:Hp) (Q:VK):Prop
 | mk (l:_) (xs:_) (y:_) (h0:x=.ref l) (h1:vs=[y]) (h2:H l=some (.lst xs)) (h3:xs.length≤10000) (h4:∀H',Ch H l (xs++[y]) H'→Q .non H')
def FE:V→List V→Hp→VK→Prop:=fun x vs H Q=>CQ  x vs H Q
theorem iy:wj X "list.append" FE:=fun pins s σ H x vs v us Q I rx rv ⟨l,xs,y,e1,e2,h,hz,q⟩=>pp pins s σ H x vs v us Q I rx rv ⟨l,xs,y,e1,e2,h,(by rw [sizeLine_eq];trivial),q _ .mk'⟩
end
inductive BX (vs:List V) (H:Hp) (Q:VK):Prop
 | mk (n d:Int) (h0:vs=[.int n,.int d]) (h1:d≠0) (h2:Sz 9000 d) (h3:∀p H',Nw H p (fr (KM.low n d)) H'→Q (.ref p) H')
def Er:Sp:=fun vs H Q _=>BX  vs H Q
inductive BQ (num den:Int→Int→Int→Int→Int) (vs:List V) (H:Hp) (Q:VK):Prop
 | mk (a b:Addr) (n1 d1 n2 d2:Int) (h0:vs=[.ref a,.ref b]) (h1:H a=some (.tup [.int n1,.int d1])) (h2:H b=some (.tup [.int n2,.int d2])) (h3:(Sz 4000 n1∧Sz 4000 d1∧Sz 4000 n2∧Sz 4000 d2∧den n1 d1 n2 d2≠0)) (h4:∀p H',Nw H p (fr (KM.low (num n1 d1 n2 d2) (den n1 d1 n2 d2))) H'→Q (.ref p) H')
def CY (num den:Int→Int→Int→Int→Int):Sp:=fun vs H Q _=>BQ num den vs H Q
end L2
namespace L2
open PySem PySem.Spec PyProof.Rows
theorem Fb.small {b:Nat}{n d:Int} (h1:n.natAbs<2 ^ b) (h2:d.natAbs<2 ^ b) (h3:1≤d) (h4:Int.gcd n d=1):Fb b n d:=⟨h1,h2,h3,h4⟩
theorem Bx.ch {H H':Hp}{b p:Addr}{t:Int}{xs:List V} (h:Bx H b t) (k:Ch H p xs H') (ne:b≠p):Bx H' b t:=by
 obtain ⟨c,x,e,q,q2,q3⟩:=h
 exact ⟨c,x,k.ol b _ ne e,q,q2,q3⟩
theorem Bx.ne {H:Hp}{b p:Addr}{t:Int} (h:Bx H b t) (hp:H p=none):b≠p:=fun z=>by
 obtain ⟨c,x,e,_⟩:=h
 rw [z,hp] at e;cases e
end L2
namespace L2
open PySem PySem.Spec PyProof.Rows
section
variable {X:Cx}{e:Expr}{te:TE}{st:Expr}{ts:TO}{p2 pos:Pos}{K:PySem.W.Frag}
inductive C2 (x:V) (vs:List V) (H:Hp) (Q:VK):Prop
 | mk (l:_) (xs:_) (k:_) (y:_) (h0:x=.ref l) (h1:vs=[.int k,y]) (h2:H l=some (.lst xs)) (h3:0≤k) (h4:k≤xs.length) (h5:xs.length≤10000) (h6:∀H',Ch H l (xs.take k.toNat++y :: xs.drop k.toNat) H'→Q .non H')
def E1:V→List V→Hp→VK→Prop:=fun x vs H Q=>C2  x vs H Q
theorem xR:wj X "list.insert" E1:=by
 intro pins s σ H x vs v us Q I rx rv h
 obtain ⟨l,xs,k,y,rfl,rfl,hH,h0,h1,hz,q⟩:=h
 cases rx
 obtain ⟨u1,u2,rfl,r1,r2⟩:=rv.two
 obtain ⟨t1,rfl⟩:=r1
 obtain ⟨z,its,n,r,hl,e⟩:=I.lstM hH
 have hf:Builtin.List.listFitsIndex k=true:=by
  unfold Builtin.List.listFitsIndex
  simp
  trivial
 refine call_meets F.slot_list_insert ⟨_,e,rfl⟩ F.entry_list_insert (F.args_list_insert_3 _ _ _) (AutoSeq1.list_insert_list_int_val_1 l its.toArray n k t1 u2 (by simp [hf]) (by rw [List.size_toArray];trivial)) ⟨e,?_⟩
 refine ⟨.non,_,I.lset (its':=its.take k.toNat++u2 :: its.drop k.toNat) hH e ?_ ((r.take k.toNat).append (.cons r2 (r.drop k.toNat))) ?_,rfl,q _ .mk'⟩
 ·have hk:¬k<0:=by trivial
  have hm:min k.toNat its.length=k.toNat:=by trivial
  simp only [if_neg hk,List.size_toArray,hm]
  apply Array.ext'
  simp
  exact List.take_of_length_le (by rw [List.length_drop];trivial)
 ·rw [List.length_append,List.length_cons,List.length_take,List.length_drop,sizeLine_eq]
  trivial
end
end L2
namespace L2
open PySem PySem.Spec PyProof.Rows
end L2
namespace L2
open PySem PySem.Spec PyProof.Rows
def S (l:List Nat):Str:=⟨l.toArray⟩
theorem qh {a b:List Nat} (h:S a=S b):a=b:=by
 have:a.toArray=b.toArray:=by injection h
 simpa using this
theorem ym (a b:List Nat):S a++S b=S (a++b):=by
 show (⟨a.toArray++b.toArray⟩:Str)=⟨(a++b).toArray⟩
 simp
theorem sR (a:List Nat):(S a).length=a.length:=by
 show a.toArray.size=_
 simp
theorem DQ (a:List Nat):(S a).cps.toList=a:=rfl
theorem zK (k:Nat) (l:List Nat):∀acc:List Nat,(List.replicate k l.toArray).foldl (·++·) acc.toArray=(acc++(List.replicate k l).flatten).toArray:=by
 induction k with
 | zero=>intro acc;simp
 | succ k ih=>
  intro acc
  rw [List.replicate_succ,List.foldl_cons,List.replicate_succ,List.flatten_cons]
  have:acc.toArray++l.toArray=(acc++l).toArray:=by simp
  rw [this,ih,List.append_assoc]
theorem ui:∀ls:List (List Nat),Str.join (S []) (ls.map S)=S ls.flatten
 | []=>rfl
 | [a]=>by
  show S a=S (a++[])
  rw [List.append_nil]
 | a :: b :: r=>by
  have e:Str.join (S []) ((a :: b :: r).map S)=S a++S []++Str.join (S []) ((b :: r).map S):=rfl
  rw [e,ui (b :: r),ym,ym,List.append_nil]
  rfl
section
variable {X:Cx}{K:PySem.W.Frag}
inductive CN (x:V) (y:V) (H:Hp) (Q:VK):Prop
 | mk (l:_) (n:_) (h0:x=.str (S l)) (h1:y=.int n) (h2:1≤n) (h3:n≤1000) (h4:l.length≤100) (h5:Q (.str (S (List.replicate n.toNat l).flatten)) H)
def F7:R2:=fun x y H Q=>CN  x y H Q
theorem xh:cB X (binaryOp .Mult) F7:=by
 intro pins s σ H x y v u Q I rx ry h
 obtain ⟨l,n,rfl,rfl,h1,h2,h3,q⟩:=h
 obtain ⟨t,rfl⟩:=rx
 obtain ⟨t',rfl⟩:=ry
 have hlen:(S l).length=l.length:=sR l
 have hmul:l.length*n.toNat≤100*1000:=Nat.mul_le_mul h3 (by trivial)
 refine PySem.P.mul_str ?_ ?_ ?_ ?_
 ·rw [decide_eq_false (by trivial),decide_eq_false (by trivial)];rfl
 ·intro _ _
  rw [hlen]
  have:(100:Int)<(2 ^ 63 - 1) / n:=by
   have:(100+1)*n≤2 ^ 63 - 1:=by trivial
   have:=(Int.le_ediv_iff_mul_le (by trivial:0<n)).mpr this
   trivial
  trivial
 ·intro _ _
  rw [hlen]
  unfold Builtin.Str.tooLong
  rw [decide_eq_false]
  rw [sizeLine_eq]
  trivial
 ·rw [if_neg (by trivial)]
  by_cases hn:(n==1 || (S l).length==0)=true
  ·rw [if_pos hn]
   refine ⟨.str (S l),H,I,⟨t,rfl⟩,?_⟩
   have e:(List.replicate n.toNat l).flatten=l:=by
    rw [hlen] at hn
    have hn':n=1∨l.length=0:=by simpa using hn
    rcases hn' with rfl | hn'
    ·simp
    ·have:l=[]:=List.eq_nil_of_length_eq_zero hn'
     subst this
     simp
   rw [e] at q
   exact q
  ·rw [if_neg hn]
   have e:(⟨(List.replicate n.toNat (S l).cps).foldl (·++·) #[]⟩:Str)=S (List.replicate n.toNat l).flatten:=by
    have e:=zK n.toNat l []
    rw [List.nil_append] at e
    exact congrArg Str.mk e
   rw [e]
   refine ⟨?_,.str (S (List.replicate n.toNat l).flatten),H,I.tok _,⟨_,rfl⟩,q⟩
   rw [sR,xw,sizeLine_eq,Nat.mul_comm]
   trivial
inductive Ep (K:PySem.W.Frag) (x:V) (vs:List V) (H:Hp) (Q:VK):Prop
 | mk (a:_) (ls:_) (h0:x=.str (S [])) (h1:vs=[.ref a]) (h2:ax K H a ((ls:List (List Nat)).map fun l=>V.str (S l))) (h3:(ls.map (·.length)).sum≤10000) (h4:Q (.str (S ls.flatten)) H)
def Gd (K:PySem.W.Frag):V→List V→Hp→VK→Prop:=fun x vs H Q=>Ep K x vs H Q
theorem yR {ls:List (List Nat)}:∀{us:List Value},aM (ls.map fun l=>V.str (S l)) us→StrsAre us (ls.map S):=by
 induction ls with
 | nil=>intro us h;cases h;exact .nil
 | cons l r ih=>
  intro us h
  cases h with
  | cons h t=>
   obtain ⟨tk,rfl⟩:=h
   exact .cons _ _ (ih t)
theorem Bu (ek:X.K=K:=by rfl):yH X "str.join" (Gd K):=by
 subst ek
 intro pins s σ H x vs v us Q I rx rv h
 obtain ⟨a,ls,rfl,rfl,hS,hz,q⟩:=h
 obtain ⟨t,rfl⟩:=rx
 obtain ⟨u,rfl,ru⟩:=rv.one
 obtain rfl:u=Value.ref a:=ru
 obtain ⟨its,r,ht,_⟩:=I.list hS
 have e1:((ls.map S).map (·.length)).sum=(ls.map (·.length)).sum:=by
  rw [List.map_map]
  congr 1
 refine join_list (ys:=ls.map S) ht.isList (by simpa using yR r) ?_ fun t' k=>?_
 ·rw [e1,show (S []).length=0 from rfl]
  trivial
 ·have:=join_plain_closes (S []) (ls.map S)
  rw [eq_of_beq this,ui]
  exact ⟨.str (S ls.flatten),H,I.tok k,⟨_,rfl⟩,q⟩
inductive ET (x:V) (y:V) (H:Hp) (Q:VK):Prop
 | mk (a:_) (b:_) (h0:x=.str (S a)) (h1:y=.str (S b)) (h2:a.length+b.length≤10000) (h3:Q (.str (S (a++b))) H)
def Fg:R2:=fun x y H Q=>ET  x y H Q
theorem xc:cB X (binaryOp .Add) Fg:=fun pins s σ H x y v u Q I rx ry ⟨a,b,e1,e2,hz,q⟩=>
 xJ pins s σ H x y v u Q I rx ry ⟨S a,S b,e1,e2,by rw [sR,sR];exact fw hz,by rw [ym];exact q⟩
end
theorem x4:Str.ofString "abcdefghijklmnopqrstuvwxyz" = S ((List.range 26).map (97+·)):=by decide +kernel
theorem AU:Str.ofString "" = S []:=by decide +kernel
theorem um {i:Int} (h0:-26≤i) (h1:i<26):gW ((Str.ofString "abcdefghijklmnopqrstuvwxyz").cps.toList) i=some (97+(i % 26).toNat):=by
 rw [x4,DQ]
 have:∀k:Fin 52,gW ((List.range 26).map (97+·)) ((k.val:Int) - 26)=some (97+(((k.val:Int) - 26) % 26).toNat):=by decide +kernel
 have e:=this ⟨(i+26).toNat,by trivial⟩
 simp only at e
 rw [show (((i+26).toNat:Nat):Int) - 26=i by trivial] at e
 exact e
theorem Ea {f:Int}{j k:Nat} (hj:j<26) (hk:k<26) (h:(f+11*(j:Int)) % 26=(f+11*(k:Int)) % 26):j=k:=by trivial
end L2
namespace L2
open PySem PySem.Spec PyProof.Rows
structure iW (l:List Nat):Prop where
 lo:1≤l.length
 hi:l.length≤8
 az:∀c∈l,97≤c∧c≤122
abbrev aA (l:List Nat):V:=.str (S l)
def nm (c k:Nat):List Nat:=List.replicate (1+k) c
theorem A1 (n c:Nat):(List.replicate n [c]).flatten=List.replicate n c:=by
 induction n with
 | zero=>rfl
 | succ n ih=>rw [List.replicate_succ,List.flatten_cons,ih,List.replicate_succ];rfl
theorem FJ {c k:Nat} (hk:k<8) (h1:97≤c) (h2:c≤122):iW (nm c k):=⟨by simp [nm],by simp [nm];trivial,fun d hd=>by
 have:=List.eq_of_mem_replicate hd
 trivial⟩
theorem l8 {xs:List V}{m:Int} (h:0≤m):jm xs none (some m)=xs.take m.toNat:=by
 unfold jm
 have e:m=((m.toNat:Nat):Int):=by trivial
 rw [HT.sIx_none,e,HT.sIx_nat]
 simp only [Int.toNat_natCast,List.drop_zero,Nat.sub_zero]
 by_cases hm:m.toNat≤xs.length
 ·rw [Nat.min_eq_left hm]
 ·rw [Nat.min_eq_right (by trivial),List.take_of_length_le (Nat.le_refl _),List.take_of_length_le (by trivial)]
theorem wM {ls:List (List Nat)}{f:Int} (hl:ls.length≤26) (h:∀(j:Nat) (l:List Nat),ls[j]?=some l→l.head?=some (97+((f+11*(j:Int)) % 26).toNat)):ls.Nodup:=by
 rw [List.nodup_iff_pairwise_ne,List.pairwise_iff_getElem]
 intro i j hi hj hij e
 have h1:=h i ls[i] (List.getElem?_eq_getElem hi)
 have h2:=h j ls[j] (List.getElem?_eq_getElem hj)
 rw [e,h2] at h1
 injection h1 with h1
 have a1:=Int.emod_nonneg (f+11*(i:Int)) (by decide:(26:Int)≠0)
 have a2:=Int.emod_nonneg (f+11*(j:Int)) (by decide:(26:Int)≠0)
 have:=Ea (f:=f) (j:=i) (k:=j) (by trivial) (by trivial) (by trivial)
 trivial
theorem ba.ch {b D:Addr}{H H1 H2:Hp}{xs:List V} (s:ba (Eb b) H H1) (c:Ch H1 D xs H2) (hD:H D=none):ba (Eb b) H H2:=
 ⟨fun a u ne h=>c.ol a u (aY h hD) (s.old a u ne h),fun a us h=>c.ol a _ (aY h hD) (s.tup a us h)⟩
theorem ba.up {b D:Addr}{H H1:Hp}{o:HO} (s:ba (Eb b) H H1) (hD:H D=none):ba (Eb b) H (aN H1 D o):=
 ⟨fun a u ne h=>by rw [ao (aY h hD)];exact s.old a u ne h,fun a us h=>by rw [ao (aY h hD)];exact s.tup a us h⟩
end L2
namespace L2
open PySem PySem.Spec PyProof.Rows
def DS (x:Str):Prop:=x.length≤300∧∀c∈x.cps.toList,c<128
mutual
inductive Wt:PyData→Nat→Nat→Prop
 | non {k:Nat}:Wt .none 1 k
 | bl (b:Bool) {k:Nat}:Wt (.bool b) 1 k
 | int {i:Int} (h:Sz 1900 i) {k:Nat}:Wt (.int i) 1 k
 | str {x:Str} (h:DS x) {k:Nat}:Wt (.str x) 1 k
 | list {xs:List PyData}{n k:Nat} (h:cF xs n k):Wt (.list xs) (n+1) (k+1)
 | tuple {xs:List PyData}{n k:Nat} (h:cF xs n k):Wt (.tuple xs) (n+1) (k+1)
inductive cF:List PyData→Nat→Nat→Prop
 | nil {k:Nat}:cF [] 0 k
 | cons {x:PyData}{xs:List PyData}{m n k:Nat} (h:Wt x m k) (r:cF xs n k):cF (x :: xs) (m+n) k
end
mutual
theorem Wt.deep:∀{d:PyData}{n k:Nat},Wt d n k→∀{l:Nat},k≤l→Wt d n l
 | _,_,_,.non,_,_=>.non
 | _,_,_,.bl b,_,_=>.bl b
 | _,_,_,.int h,_,_=>.int h
 | _,_,_,.str h,_,_=>.str h
 | _,_,_,.list h,l,hl=>by
  obtain ⟨m,rfl⟩:∃m,l=m+1:=⟨l - 1,by trivial⟩
  exact .list (cF.deep h (by trivial))
 | _,_,_,.tuple h,l,hl=>by
  obtain ⟨m,rfl⟩:∃m,l=m+1:=⟨l - 1,by trivial⟩
  exact .tuple (cF.deep h (by trivial))
theorem cF.deep:∀{ds:List PyData}{n k:Nat},cF ds n k→∀{l:Nat},k≤l→cF ds n l
 | _,_,_,.nil,_,_=>.nil
 | _,_,_,.cons h r,_,hl=>.cons (Wt.deep h hl) (cF.deep r hl)
end
theorem Wt.pos {d:PyData}{n k:Nat} (h:Wt d n k):1≤n:=by cases h <;> trivial
mutual
theorem Wt.dep:∀{d:PyData}{n k:Nat},Wt d n k→d.depth≤k
 | _,_,_,.non=>by simp [PyData.depth]
 | _,_,_,.bl b=>by simp [PyData.depth]
 | _,_,_,.int h=>by simp [PyData.depth]
 | _,_,_,.str h=>by simp [PyData.depth]
 | _,_,_,.list h=>by simp only [PyData.depth];exact Nat.succ_le_succ (cF.dep h)
 | _,_,_,.tuple h=>by simp only [PyData.depth];exact Nat.succ_le_succ (cF.dep h)
theorem cF.dep:∀{ds:List PyData}{n k:Nat},cF ds n k→PyData.depthAll ds≤k
 | _,_,_,.nil=>by simp [PyData.depthAll]
 | _,_,_,.cons h r=>by simp only [PyData.depthAll];exact Nat.max_le.mpr ⟨Wt.dep h,cF.dep r⟩
end
mutual
theorem Wt.sho:∀{d:PyData}{n k:Nat},Wt d n k→d.showable=true
 | _,_,_,.non=>by simp [PyData.showable]
 | _,_,_,.bl b=>by simp [PyData.showable]
 | _,_,_,.int (i:=i) h=>by
  simp only [PyData.showable,decide_eq_true_iff]
  by_cases h0:i=0
  ·subst h0;decide
  ·exact Nat.lt_trans (h.log h0) (by decide)
 | _,_,_,.str h=>by simp [PyData.showable]
 | _,_,_,.list h=>by simp only [PyData.showable];exact cF.sho h
 | _,_,_,.tuple h=>by simp only [PyData.showable];exact cF.sho h
theorem cF.sho:∀{ds:List PyData}{n k:Nat},cF ds n k→PyData.showableAll ds=true
 | _,_,_,.nil=>by simp [PyData.showableAll]
 | _,_,_,.cons h r=>by simp only [PyData.showableAll,Bool.and_eq_true];exact ⟨Wt.sho h,cF.sho r⟩
end
mutual
theorem Wt.nod:∀{d:PyData}{n k:Nat},Wt d n k→d.hasDict=false
 | _,_,_,.non=>by simp [PyData.hasDict]
 | _,_,_,.bl b=>by simp [PyData.hasDict]
 | _,_,_,.int h=>by simp [PyData.hasDict]
 | _,_,_,.str h=>by simp [PyData.hasDict]
 | _,_,_,.list h=>by simp only [PyData.hasDict];exact cF.nod h
 | _,_,_,.tuple h=>by simp only [PyData.hasDict];exact cF.nod h
theorem cF.nod:∀{ds:List PyData}{n k:Nat},cF ds n k→PyData.hasDictAll ds=false
 | _,_,_,.nil=>by simp [PyData.hasDictAll]
 | _,_,_,.cons h r=>by simp only [PyData.hasDictAll,Bool.or_eq_false_iff];exact ⟨Wt.nod h,cF.nod r⟩
end
mutual
theorem Wt.len:∀{d:PyData}{n k:Nat},Wt d n k→d.shown.length+2≤3010*n
 | _,_,_,.non=>by
  rw [PyData.shown]
  decide +kernel
 | _,_,_,.bl b=>by
  rw [PyData.shown]
  cases b <;> decide +kernel
 | _,_,_,.int (i:=i) h=>by
  rw [PyData.shown]
  have hl:i.natAbs.log2<1920:=by
   by_cases h0:i=0
   ·subst h0;decide
   ·exact Nat.lt_trans (h.log h0) (by decide)
  have:=int_text_len_1921 hl
  trivial
 | _,_,_,.str (x:=x) h=>by
  rw [PyData.shown]
  have:=PySem.StrLaws.reprText_len x (fun c hc=>Nat.lt_trans (h.2 c hc) (by decide))
  have:=h.1
  trivial
 | _,_,_,.list (xs:=xs) (n:=n) h=>by
  rw [PyData.shown]
  have h1:=listText_len_le (PyData.shownAll xs)
  have h2:=cF.len h
  trivial
 | _,_,_,.tuple (xs:=xs) (n:=n) h=>by
  rw [PyData.shown]
  have h1:=tupleText_len_le (PyData.shownAll xs)
  have h2:=cF.len h
  trivial
theorem cF.len:∀{ds:List PyData}{n k:Nat},cF ds n k→((PyData.shownAll ds).map (·.length)).sum+2*(PyData.shownAll ds).length≤3010*n
 | _,_,_,.nil=>by simp [PyData.shownAll]
 | _,_,_,.cons (x:=x) (xs:=xs) (m:=m) (n:=n) h r=>by
  rw [PyData.shownAll,List.map_cons,List.sum_cons,List.length_cons]
  have h1:=Wt.len h
  have h2:=cF.len r
  have h3:=h.pos
  trivial
end
end L2
namespace L2
open PySem PySem.Spec PyProof.Rows
mutual
theorem Wt.can:∀{d:PyData}{n k:Nat},Wt d n k→d.canLay0=true
 | _,_,_,.non=>by simp [PyData.canLay0]
 | _,_,_,.bl b=>by simp [PyData.canLay0]
 | _,_,_,.int h=>by simp [PyData.canLay0]
 | _,_,_,.str (x:=x) h=>by
  simp only [PyData.canLay0]
  unfold PySem.PyData.strOk
  rw [Array.all_eq_true]
  intro i hi
  have:=h.2 x.cps[i] (by simp)
  simp
  trivial
 | _,_,_,.list h=>by simp only [PyData.canLay0];exact cF.can h
 | _,_,_,.tuple h=>by simp only [PyData.canLay0];exact cF.can h
theorem cF.can:∀{ds:List PyData}{n k:Nat},cF ds n k→PyData.canLayAll0 ds=true
 | _,_,_,.nil=>by simp [PyData.canLayAll0]
 | _,_,_,.cons h r=>by simp only [PyData.canLayAll0,Bool.and_eq_true];exact ⟨Wt.can h,cF.can r⟩
end
section
variable {X:Cx}
inductive Gi (ne:Bool) (x:V) (y:V) (H:Hp) (Q:VK):Prop
 | mk (d e:PyData) (E F:Addr→Prop) (m n k l:Nat) (h0:bc E H x d) (h1:bc F H y e) (h2:Wt d m k) (h3:Wt e n l) (h4:k≤60) (h5:Q (.bl (if ne then !PyData.eqv d e else PyData.eqv d e)) H)
def Da (ne:Bool):R2:=fun x y H Q=>Gi ne x y H Q
theorem y9 (hu:X.A.units+64<cLine):cB X (compareOp .Eq) (Da false):=by
 intro pins s σ H x y v u Q I rx ry h
 obtain ⟨d,e,E,F,m,n,k,l,hd,he,wd,we,hk,q⟩:=h
 obtain ⟨as,ra⟩:=hd.reads I.hok rx
 obtain ⟨bs,rb⟩:=he.reads I.hok ry
 exact PySem.SeqAt.compareEq_reads ra rb wd.can we.can (by have:=wd.dep;trivial) ⟨.bl _,H,I,rfl,q⟩
theorem De (hu:X.A.units+64<cLine):cB X (compareOp .NotEq) (Da true):=by
 intro pins s σ H x y v u Q I rx ry h
 obtain ⟨d,e,E,F,m,n,k,l,hd,he,wd,we,hk,q⟩:=h
 obtain ⟨as,ra⟩:=hd.reads I.hok rx
 obtain ⟨bs,rb⟩:=he.reads I.hok ry
 exact PySem.SeqAt.compareNe_reads ra rb wd.can we.can (by have:=wd.dep;trivial) ⟨.bl _,H,I,rfl,q⟩
inductive Ey (xs:List V) (H:Hp) (Q:VK):Prop
 | mk (a:Addr) (d:PyData) (E:Addr→Prop) (n k:Nat) (h0:xs=[.ref a]) (h1:bc E H (.ref a) d) (h2:Wt d n k) (h3:n≤5500) (h4:k≤50) (h5:Q (.str d.shown) H)
def FP:List V→Hp→VK→Prop:=fun xs H Q=>Ey  xs H Q
theorem ug {k:Nat} (hr:cC k X.A):cf X (.type "str") FP:=fun pins s σ H xs us Q I r ⟨a,d,E,n,k,e,hd,w,hn,hk,q⟩=>
 uT hr pins s σ H xs us Q I r ⟨a,d,E,e,hd,w.sho,w.nod,by have:=w.dep;trivial,by have:=w.len;rw [sizeLine_eq];trivial,q⟩
end
abbrev ED:Addr→Prop:=fun _=>True
abbrev gl (p:KM.Fra):PyData:=.tuple [.int p.1,.int p.2]
structure ag where
 bg:List Nat
 en:List Nat
 most:KM.Fra
 gain:KM.Fra
 price:KM.Fra
abbrev lr (t:ag):PyData:=.tuple [.str (S t.bg),.str (S t.en),gl t.most,gl t.gain,gl t.price]
abbrev dM (ls:List (List Nat)) (ts:List ag):PyData:=.tuple [.tuple (ls.map fun l=>.str (S l)),.tuple (ts.map lr)]
theorem lU {H:Hp}{o:Addr}{p:KM.Fra} (h:H o=some (.tup [.int p.1,.int p.2])):bc ED H (.ref o) (gl p):=.tup h (.cons (.int _) (.cons (.int _) .nil))
theorem qe {E:Addr→Prop}{H:Hp}{v:V}{p:KM.Fra} (h:bc E H v (gl p)):∃o,v=.ref o∧H o=some (.tup [.int p.1,.int p.2]):=by
 cases h with
 | @tup a xs _ h r=>
  cases r with
  | cons h1 r=>
  cases r with
  | cons h2 r=>
  cases r
  cases h1
  cases h2
  exact ⟨a,rfl,h⟩
theorem bc.tupS {E F:Addr→Prop}{H H':Hp}{v:V}{d:PyData} (h:bc ED H v d) (k:ba E H H'):bc ED H' v d:=h.mono ⟨fun _ _ n _=>absurd trivial n,k.tup⟩
theorem aQ.tupS {E:Addr→Prop}{H H':Hp}{v:List V}{d:List PyData} (h:aQ ED H v d) (k:ba E H H'):aQ ED H' v d:=h.mono ⟨fun _ _ n _=>absurd trivial n,k.tup⟩
theorem bc.tupC {H H':Hp}{v:V}{d:PyData}{p:Addr}{xs ys:List V} (h:bc ED H v d) (k:Ch H p xs H') (hp:H p=some (.lst ys)):bc ED H' v d:=h.mono ⟨fun _ _ n _=>absurd trivial n,fun _ _ e=>k.tup e hp⟩
theorem bc.sm {E:Addr→Prop}{H H':Hp}{v:V}{d:PyData} (h:bc E H v d) (k:ak H H'):bc E H' v d:=h.mono k.toE
theorem bc.any {E:Addr→Prop}{H:Hp}{v:V}{d:PyData} (h:bc ED H v d):bc E H v d:=h.narrow fun _ _=>trivial
theorem vZ {H:Hp}:∀ls:List (List Nat),aQ ED H (ls.map aA) (ls.map fun l=>.str (S l))
 | []=>.nil
 | _ :: r=>.cons (.str _) (vZ r)
theorem lH {l:List Nat} (h:iW l):DS (S l):=⟨by rw [sR];have:=h.hi;trivial,fun c hc=>by have:=h.az c hc;trivial⟩
theorem qj {α:Type}{f:α→PyData}{m k:Nat}:∀{xs:List α},(∀x∈xs,Wt (f x) m k)→cF (xs.map f) (m*xs.length) k
 | [],_=>.nil
 | x :: r,h=>by
  have e:m*(x :: r).length=m+m*r.length:=by rw [List.length_cons,Nat.mul_succ,Nat.add_comm]
  rw [e]
  exact .cons (h x (by simp)) (qj fun y hy=>h y (List.mem_cons_of_mem _ hy))
end L2
namespace L2
open PySem PySem.Spec PyProof.Rows
inductive Dm (c:Nat) (lo:Int) (vs:List V) (H:Hp) (Q:VK):Prop
 | mk (b:Addr) (t:Int) (h0:vs=[.ref b]) (h1:Bx H b t) (h2:0≤t) (h3:t≤900000) (h4:∀o n d t' H',ba (Eb b) H H'→H' o=some (.tup [.int n,.int d])→Fb c n d→lo≤n→Bx H' b t'→t≤t'→t'≤t+6→Q (.ref o) H')
def Fs (c:Nat) (lo:Int):Sp:=fun vs H Q _=>Dm c lo vs H Q
theorem BR {n d:Int} (hn:1≤n) (hn2:n≤60) (hd:1≤d) (hd2:d≤60):Fb 6 (KM.low n d).1 (KM.low n d).2∧1≤(KM.low n d).1:=by
 have a:Sz 6 n:=by show n.natAbs<64;trivial
 have b:Sz 6 d:=by show d.natAbs<64;trivial
 refine ⟨Fb.low a b (by trivial),?_⟩
 have:=(KM.low_sgn (n:=n) (d:=d) (by trivial)).1.mpr (by trivial)
 trivial
theorem Gq {c:Bool}{a b:Int}{σ:St}{H:Hp}{Q:VK} (h:Q (.int (if c=true then a else b)) H):if c=true then tC (.int a) σ H Q else tC (.int b) σ H Q:=by
 cases c with
 | true=>exact bW h
 | false=>exact bC h
theorem nq {m:Int} (h0:0<m) (h1:m<1099511627776):m.natAbs.log2<9000:=by
 have a:Sz 40 m:=by show m.natAbs<1099511627776;trivial
 exact Nat.lt_trans (a.log (by trivial)) (by decide)
end L2
namespace L2
open PySem PySem.Spec PyProof.Rows
theorem Bz {n f r:Int} (h0:0≤f) (h1:f<n) (r0:0≤r) (r1:r<n - 1):0≤(f+1+r) % n∧(f+1+r) % n<n∧(f+1+r) % n≠f:=by
 have hn:0<n:=by trivial
 refine ⟨Int.emod_nonneg _ (by trivial),Int.emod_lt_of_pos _ hn,?_⟩
 by_cases h:f+1+r<n
 ·rw [Int.emod_eq_of_lt (by trivial) h];trivial
 ·have e:(f+1+r) % n=f+1+r - n:=by
   have h2:(f+1+r) % n=(f+1+r - n) % n:=by rw [Int.sub_emod_right]
   rw [h2,Int.emod_eq_of_lt (by trivial) (by trivial)]
  rw [e];trivial
theorem tD {α:Type}{xs:List α}{k:Int}{f:α→V} (h0:0≤k) (h:k.toNat<xs.length):gW (xs.map f) k=some (f xs[k.toNat]):=by
 have q:=eX (xs:=xs.map f) (j:=k.toNat) (v:=f xs[k.toNat]) (by rw [List.getElem?_map];simp [h])
 rwa [Int.toNat_of_nonneg h0] at q
end L2
namespace L2
theorem jO {α:Type}{ls:List α} (h:ls.Nodup) {i j:Nat} (hi:i<ls.length) (hj:j<ls.length) (e:ls[i]=ls[j]):i=j:=by
 have p:=List.pairwise_iff_getElem.mp h
 rcases Nat.lt_trichotomy i j with q | q | q
 ·exact absurd e (p i j hi hj q)
 ·exact q
 ·exact absurd e.symm (p j i hj hi q)
end L2
namespace L2
open PySem PySem.Spec PyProof.Rows
theorem Es {c:Bool}{ta tb:TE}{σ:St}{H:Hp}{Q:VK} (I:V→Hp→Prop) (rest:∀v H',I v H'→Q v H') (h1:c=true→(∀v H',I v H'→Q v H')→ta σ H Q) (h2:c=false→(∀v H',I v H'→Q v H')→tb σ H Q) :
 if c=true then ta σ H Q else tb σ H Q:=by
 cases c with
 | true=>exact bW (h1 rfl rest)
 | false=>exact bC (h2 rfl rest)
end L2
namespace L2
end L2
namespace L2
open PySem PySem.Spec PyProof.Rows
theorem aQ.take {E:Addr→Prop}{H:Hp}:∀{xs:List V}{ds:List PyData} (n:Nat),aQ E H xs ds→aQ E H (xs.take n) (ds.take n)
 | _,_,0,_=>by simp;exact .nil
 | _,_,_+1,.nil=>by simp;exact .nil
 | _,_,n+1,.cons h r=>by simp;exact .cons h (aQ.take n r)
end L2
namespace L2
open PySem PySem.Spec PyProof.Rows
open AutoSeq1 (wpAny_loadPart')
set_option maxHeartbeats 4000000 in
theorem Al (l:Addr) (its:Array Value) (n:Nat) (dct:Option Addr) (sl:Array (Option Value)) :
 Meets (Builtin.«enumerate.__new__» ⟨[.type "enumerate",.ref l],[]⟩) (fun _ R s=>s.heap.get? l=some { cls:=.type "tuple",dict:=dct,data:=.seq its n,slots:=sl }∧
  R (.ok (.ret (.ref (s.heap.push { cls:=.type "tuple_iterator",data:=.fields #[.ref l,.int 0 0] }).objs.size))) { s with heap:=(s.heap.push { cls:=.type "tuple_iterator",data:=.fields #[.ref l,.int 0 0] }).push { cls:=.type "enumerate",data:=.fields #[.none,.bool false,.ref s.heap.objs.size,rawInt 0,.none,.none] } }):=
 .of_wp fun prog w A R s h=>by
  obtain ⟨hp,g,d,tk,os⟩:=s;obtain ⟨hl,h⟩:=h;have hsub:=sub_enumerate
  have hT:Heap.IsTuple (Shared.heap ⟨hp,g,d,tk,os⟩) l its:=⟨_,hl,rfl,n,rfl⟩
  wp_walk using wpAny_loadPart' hl
  refine wpAny_stack_any fun st=>wpAny_pure ?_;split
  ·rename_i c _ _ _ _ _;cases (c==Value.type "enumerate")
   ·wp_walk using wpAny_loadPart' hl,wpAny_pyIter_tuple hT
    exact ⟨_,rfl,h⟩
   ·wp_walk using wpAny_loadPart' hl,wpAny_pyIter_tuple hT
    exact ⟨_,rfl,h⟩
  ·wp_walk using wpAny_loadPart' hl,wpAny_pyIter_tuple hT
   exact ⟨_,rfl,h⟩
section
variable {prog:Program}{w:World}{A:Around}{E:Value→Shared→Prop}{s:Shared}
theorem yr {l:Addr}{its:Array Value}{Q:Value→Shared→Prop}:∀{c:Bool},bV s.heap l its c→
 (∀h',IsEnum h' (s.heap.objs.size+1) s.heap.objs.size 0 .none→bL h' s.heap.objs.size l 0 c→(∀b o,s.heap.get? b=some o→h'.get? b=some o)→Q (.ref (s.heap.objs.size+1)) { s with heap:=h' })→
 wpAny (model prog w) A (call (.type "enumerate") [.ref l]) Q E s
 | true,q,h=>call_enumerate_list q fun h' a b _ k=>h h' a b k
 | false,q,h=>by
  obtain ⟨⟨c,dct,dt,sl⟩,hl,hc,n,hd⟩:=q
  dsimp only at hc hd
  subst hc hd
  refine callType_new F.called_enumerate (by decide) (F.typeCall_enumerate_1 _) (F.newCall_enumerate_1 _) (fun obj=>F.args_object_init_2 obj _) F.entry_enumerate_new (Al l its n dct sl) ⟨hl,?_⟩
  have hz:(s.heap.push { cls:=.type "tuple_iterator",data:=.fields #[.ref l,.int 0 0] }).objs.size=s.heap.objs.size+1:=Heap.size_push ..
  show _∧_
  rw [hz]
  have he:IsEnum ((s.heap.push { cls:=.type "tuple_iterator",data:=.fields #[.ref l,.int 0 0] }).push { cls:=.type "enumerate",data:=.fields #[.none,.bool false,.ref s.heap.objs.size,rawInt 0,.none,.none] }) (s.heap.objs.size+1) s.heap.objs.size 0 .none:=by
   rw [←hz];exact Heap.get?_push_size _ rfl
  exact ⟨⟨_,he,rfl⟩,h _ he ⟨_,Heap.get?_push_of_some _ (Heap.get?_push_size _ rfl),rfl,rfl⟩ fun b o e=>Heap.get?_push_of_some _ (Heap.get?_push_of_some _ e)⟩
end
def wc (K:PySem.W.Frag) (a:Addr) (c:Bool):It:=
 ⟨fun i H=>bo fun xs x=>kh K H a xs c∧xs[i]?=some x,fun i H v H'=>bo fun T x=>H T=none∧v=.ref T∧H'=aN H T (.tup [.int (i:Int),x])∧∀xs,kh K H a xs c→xs[i]?=some x,fun i H=>∃xs,kh K H a xs c∧xs.length=i⟩
theorem xO {P:Program}{w:World}{K:PySem.W.Frag}{es:List Expr}{kk:Nat}{pos:Pos} (a e it:Addr) (c:Bool) (hne:e≠it) (hae:a≠e) (hai:a≠it) :
 rz P w K (.Tuple es kk pos) (wc K a c) [e,it] e (fun i h=>(∃old,IsEnum h e it i old)∧bL h it a i c) where
 mem:=by simp
 obj:=fun i h st b hb=>by
  obtain ⟨⟨old,he⟩,hi⟩:=st
  have hb':b=e∨b=it:=by simpa using hb
  rcases hb' with rfl | rfl
  ·exact ⟨_,he,fun v z=>by have z':Data.fields _=Data.cell v:=z;cases z'⟩
  ·exact hi.some
 keep:=fun i h h' st k=>by
  obtain ⟨⟨old,he⟩,hi⟩:=st
  exact ⟨⟨old,k e (by simp) _ he⟩,hi.at fun o q=>k it (by simp) o q⟩
 item:=by
  intro X hP hw hK hc i pins s σ H E I hf st hg
  subst hP hw hK
  obtain ⟨⟨old,he⟩,hit⟩:=st
  obtain ⟨xs,x,hq,hx⟩:=hg
  obtain ⟨its,rv,p⟩:=I.seqC hq
  obtain ⟨u,hu,ru⟩:=rv.get hx
  have hnT:H s.heap.objs.size=none:=I.fresh
  have hiu:i<its.length:=(List.getElem?_eq_some_iff.mp hu).1
  have D:=eY (prog:=X.prog) (w:=X.w) (A:=X.A.in1) (I.ok.hd hc) it a hai its.toArray c
  refine wpAny_pyNext_enum_itemD D he ⟨hit,p⟩ (by simpa using hiu) hne (by simp;exact ⟨hne,Ne.symm hae⟩) fun u' h' tk hP ho st' hT hsz hk=>?_
  have eu:u=u':=by
   have:its.toArray[i]?=some u':=hP
   rw [List.getElem?_toArray,hu] at this
   exact Option.some.inj this
  subst eu
  refine ⟨_,rfl,wpAny_letOwnedTupleGo_enum (s:={ s with heap:=h',toks:=tk+1 }) ho fun h'' he'' hs''=>?_⟩
  have helt:e<s.heap.objs.size:=Heap.lt_size he
  have hilt:it<s.heap.objs.size:=let ⟨_,y,_⟩:=hit.some;Heap.lt_size y
  have hT'':h''.get? s.heap.objs.size=some { cls:=.type "tuple",data:=.seq #[.int i tk,u] }:=(hs''.2 _ (Nat.ne_of_gt helt)).trans hT
  refine ⟨.ref s.heap.objs.size,aN H s.heap.objs.size (.tup [.int (i:Int),x]),I.turnedNew (ch:=[e,it]) (t':=tk+1) hf (fun b o hb q=>?_) (Nat.le_refl _) ?_,rfl,⟨_,x,hnT,rfl,rfl,fun ys hy=>by rw [I.seqC_inj hy hq];exact hx⟩,⟨⟨u,?_⟩,st'.1.at fun o q=>(hs''.2 _ (Ne.symm hne)).trans q⟩,fun b hb=>?_⟩
  ·have h1:b≠e:=fun z=>hb (by simp [z])
   have h2:b≠it:=fun z=>hb (by simp [z])
   exact (hs''.2 b h1).trans (hk b o h1 h2 q)
  ·exact ⟨by show 2≤sizeLine;decide,[.int i tk,u],.cons ⟨_,rfl⟩ (.cons ru .nil),⟨_,hT'',rfl,_,rfl⟩,_,hT'',rfl⟩
  ·simpa using he''
  ·have hb':b=e∨b=it:=by simpa using hb
   have hlt:b<s.heap.objs.size:=by rcases hb' with rfl | rfl <;> assumption
   rw [ao (Nat.ne_of_lt hlt)]
   exact (hf b hb).1
 done:=by
  intro X hP hw hK hc i pins s σ H E I hf st hg
  subst hP hw hK
  obtain ⟨⟨old,he⟩,hit⟩:=st
  obtain ⟨xs,hq,hx⟩:=hg
  obtain ⟨its,rv,p⟩:=I.seqC hq
  have hl:=rv.length
  have D:=eY (prog:=X.prog) (w:=X.w) (A:=X.A.in1) (I.ok.hd hc) it a hai its.toArray c
  have ei:i=its.toArray.size:=by simp;trivial
  refine wpAny_pyNext_enum_endD D he (by rw [ei] at hit;exact ⟨hit,p⟩) fun h' eb=>⟨rfl,I.turnedL (ch:=[e,it]) (t':=s.toks) hf fun b o hb q=>eb b o (fun z=>hb (by simp [z])) q⟩
 self:=fun _ _ _ _ _ st h=>by
  obtain ⟨⟨old,he⟩,_⟩:=st
  exact wpAny_pyIter_enum he h
def EH (K:PySem.W.Frag) (ta:TA):TI:=fun σ H R=>ta σ H fun vs H1=>bo fun a c=>vs=[.ref a]∧(∃xs,kh K H1 a xs c)∧R (wc K a c) H1
theorem wb {X:Cx}{K:PySem.W.Frag}{es:List Expr}{kk:Nat}{tp:Pos}{a:Expr}{ta:TA}{p pos:Pos} (hg:Gl X "enumerate") (hm:X.mg "enumerate" = none) (ha:PA X [a] ta) (hs:starEach [a] X.env=[(false,eval a X.env)]:=by rfl) (ek:X.K=K:=by rfl) :
 PI X (.Tuple es kk tp) (.Call (.Name "enumerate" p) [a] [] pos) (EH K ta):=by
 subst ek
 intro pins s σ H R I h
 refine Call_ (f8 I hg hm boot_enumerate (PyProof.Rows.callWith_type1 (aW (ha pos pins s σ H _ I h) fun us s1 ⟨vs,H1,I1,r1,q1⟩=>?_) hs rfl))
 obtain ⟨a,c,rfl,⟨xs,hq⟩,q⟩:=q1
 obtain ⟨u,rfl,ru⟩:=r1.one
 obtain rfl:u=.ref a:=ru
 obtain ⟨its,rv,p⟩:=I1.seqC hq
 have d1:=p.lt
 refine yr p fun h' hE hI hk=>wpAny_pyIter_enum hE ?_
 have I2:af X pins σ H1 { s1 with heap:=h',toks:=s1.toks }:=I1.kept hk
 refine ⟨s1.heap.objs.size+1,[s1.heap.objs.size+1,s1.heap.objs.size],_,_,H1,rfl,I2,xO a (s1.heap.objs.size+1) s1.heap.objs.size c (Nat.succ_ne_self _) (Nat.ne_of_lt (Nat.lt_succ_of_lt d1)) (Nat.ne_of_lt d1),⟨⟨_,hE⟩,hI⟩,fun b hb=>?_,q⟩
 have hb':b=s1.heap.objs.size+1∨b=s1.heap.objs.size:=by simpa using hb
 have hle:s1.heap.objs.size≤b:=by rcases hb' with rfl | rfl <;> trivial
 exact I1.fpOk hle (I1.hok.fresh hle)
section
variable {X:Cx}
end
end L2
namespace L2
open PySem PySem.Spec PyProof.Rows
end L2
namespace L2
open PySem PySem.Spec PyProof.Rows
theorem aQ.drop {E:Addr→Prop}{H:Hp}:∀{xs:List V}{ds:List PyData} (n:Nat),aQ E H xs ds→aQ E H (xs.drop n) (ds.drop n)
 | _,_,0,h=>by simpa using h
 | _,_,_+1,.nil=>by simp;exact .nil
 | _,_,n+1,.cons h r=>by simp;exact aQ.drop n r
section
variable {z:Nat}{E:Addr→Prop}{H H':Hp}{n m k:Nat}{v:V}{xs ys:List V}
theorem oG:jm xs (some 1) none=xs.drop 1:=by
 unfold jm
 rw [HT.sIx_none,show (1:Int)=((1:Nat):Int) from rfl,HT.sIx_nat]
 cases xs with
 | nil=>simp
 | cons x r=>simp
end
section
variable {X:Cx}
end
end L2
namespace HT
open PySem PySem.Spec PyProof.Rows
section
variable {prog:Program}{w:World}{A:Around}{E:Value→Shared→Prop}{s:Shared}
end
end HT
namespace L2
open PySem PySem.Spec PyProof.Rows
section
variable {X:Cx}{K:PySem.W.Frag}
end
end L2
namespace L2
open PySem PySem.Spec PyProof.Rows
theorem s0 {α:Type}{p:List α→Prop} (h0:p []) (h1:∀l a,p l→p (l++[a])) (l:List α):p l:=by
 have:∀r:List α,p r.reverse:=fun r=>by
  induction r with
  | nil=>exact h0
  | cons a r ih=>rw [List.reverse_cons];exact h1 _ _ ih
 have h:=this l.reverse
 rwa [List.reverse_reverse] at h
def gO (ks:List aU):List aU:=ks.foldl (fun σ k=>if σ.any (fun x=>decide (x=k)) then σ else σ++[k]) []
theorem jJ (ks:List aU) (k:aU):gO (ks++[k])=if (gO ks).any (fun x=>decide (x=k)) then gO ks else gO ks++[k]:=by
 unfold gO
 rw [List.foldl_append]
 rfl
theorem rj:∀(ks:List aU),(gO ks).length≤ks.length:=by
 intro ks
 induction ks using s0 with
 | h0=>exact Nat.le_refl _
 | h1 ks k ih=>
  rw [jJ,List.length_append]
  split
  ·simp;trivial
  ·rw [List.length_append];simp;trivial
theorem wK (ks:List aU):∀j,j∈gO ks↔j∈ks:=by
 induction ks using s0 with
 | h0=>exact fun j=>Iff.rfl
 | h1 ks k ih=>
  intro j
  rw [jJ,List.mem_append,List.mem_singleton]
  split
  ·rename_i h
   rw [ih]
   constructor
   ·exact .inl
   ·rintro (z | z)
    ·exact z
    ·obtain ⟨x,hx,e⟩:=List.any_eq_true.mp h
     rw [z,←ih,←of_decide_eq_true e];exact hx
  ·rw [List.mem_append,List.mem_singleton,ih]
theorem ye (ks:List aU):(gO ks).length=ks.length↔ks.Nodup:=by
 induction ks using s0 with
 | h0=>exact ⟨fun _=>List.nodup_nil,fun _=>rfl⟩
 | h1 ks k ih=>
  rw [jJ,List.length_append,List.nodup_append]
  have ol:=rj ks
  by_cases h:(gO ks).any (fun x=>decide (x=k))=true
  ·rw [if_pos h]
   obtain ⟨x,hx,e⟩:=List.any_eq_true.mp h
   have hk:k∈ks:=by rw [←of_decide_eq_true e];exact (wK ks x).mp hx
   constructor
   ·intro z;simp at z;trivial
   ·intro z;exact absurd rfl (z.2.2 k hk k (by simp))
  ·rw [if_neg h,List.length_append]
   have hk:k∉ks:=fun z=>h (List.any_eq_true.mpr ⟨k,(wK ks k).mpr z,by simp⟩)
   constructor
   ·intro z
    refine ⟨ih.mp (by simpa using z),by simp,fun a ha b hb e=>?_⟩
    rw [List.mem_singleton] at hb
    rw [←hb,←e] at hk
    exact hk ha
   ·intro z
    rw [ih.mpr z.1]
def gU:aU→V
 | .inl i=>.int i
 | .inr x=>.str x
theorem sY {k:aU}{u:Value} (h:aX (gU k) u):fv k u=true∧u.scannable=true:=by
 cases k with
 | inl i=>obtain ⟨t,rfl⟩:=h;exact ⟨yD i t,rfl⟩
 | inr x=>obtain ⟨t,rfl⟩:=h;exact ⟨zP x t,rfl⟩
section
variable {prog:Program}{w:World}{A:Around}{R:Result→Shared→Prop}{it:Addr}{fp wr:List Addr}{G:Array GenState→Array GenState→Prop}{P:Nat→Value→Prop}{St:Nat→Shared→Prop}
abbrev fE (prog:Program) (w:World) (h:Heap) (a:Addr) (ks:List aU):Prop:=h.SetOf (bQ prog w) a (fun j=>(gO ks).any (fun x=>decide (x=j))) (gO ks).length
theorem sL {h h':Heap}{a:Addr}{ks:List aU} (H:fE prog w h a ks) (k:∀o,h.get? a=some o→h'.get? a=some o):fE prog w h' a ks:=
 let ⟨o,es,ep,t,ho,r⟩:=H
 ⟨o,es,ep,t,k o ho,r⟩
theorem Ci {h:Heap}{a:Addr}{f g:aU→Bool}{n m:Nat} (H:h.SetOf (bQ prog w) a f n) (e:∀k,f k=g k) (en:n=m):h.SetOf (bQ prog w) a g m:=by
 cases en
 cases (funext e:f=g)
 exact H
theorem vq {ks:List aU} (W:WalksS prog w A.in1 it fp wr G ks.length P St) {a:Addr} (ha:a∉fp) (hv:∀i v,P i v→∀k,ks[i]?=some k→fv k v=true∧v.scannable=true) (hb:ks.length+1<scanBound) :
 ∀(r i:Nat) (s:Shared),ks.length - i=r→i≤ks.length→St i s→fE prog w s.heap a (ks.take i)→
   (∀s',Moved (a :: wr) G s s'→fE prog w s'.heap a ks→R (.ok (.ret .none)) s')→codeAny (model prog w) A (.builtin "set.update.loop" ⟨[.ref a,.ref it],[]⟩) R s:=by
 have nw:a∉wr:=fun z=>ha (W.sub _ z)
 have up:∀b∈wr,b∈a :: wr:=fun b z=>List.mem_cons_of_mem _ z
 intro r
 induction r with
 | zero=>
  intro i s hr hi st hS hR
  have e:i=ks.length:=by trivial
  rw [e] at st hS
  rw [List.take_length] at hS
  refine codeAny_builtin F.entry_set_update_loop ?_
  rw [A.under_plainId F.plain_set_update_loop]
  show wpAny _ _ (pyNext (Value.ref it) >>= _) _ _ _
  refine wpAny_bind (W.done s _ _ st fun s' m=>?_)
  show wpAny _ _ (ret .none) _ _ _
  exact wpAny_pure (hR s' (m.mono up) (sL hS fun o ho=>m.heap a o nw ho))
 | succ r ih=>
  intro i s hr hi st hS hR
  have lt:i<ks.length:=by trivial
  refine codeAny_builtin F.entry_set_update_loop ?_
  rw [A.under_plainId F.plain_set_update_loop]
  show wpAny _ _ (pyNext (Value.ref it) >>= _) _ _ _
  refine wpAny_bind (W.item i s _ _ lt st fun v s' pv st' m=>?_)
  obtain ⟨kv,sv⟩:=hv i v pv ks[i] (List.getElem?_eq_getElem lt)
  have hS':fE prog w s'.heap a (ks.take i):=sL hS fun o ho=>m.heap a o nw ho
  have l1:(gO (ks.take i)).length+1<scanBound:=by
   have:=rj (ks.take i)
   rw [List.length_take] at this
   trivial
  show wpAny _ _ (holding [v] (setAdd a v) >>= _) _ _ _
  refine wpAny_bind (wpAny_holding ?_)
  unfold setAdd
  refine wpAny_holding (wpAny_bind ((bQ prog w).pyHash (k:=ks[i]) kv (wpAny_setAddHashed_of (knd:=bQ prog w) (s:={ s' with toks:=s'.toks+1 }) kv sv hS' l1 fun h2 sb hS2=>?_)))
  have nx:fE prog w h2 a (ks.take (i+1)):=by
   rw [List.take_succ_eq_append_getElem lt]
   refine Ci hS2 (fun j=>?_) ?_
   ·rw [jJ]
    split
    ·rename_i z
     by_cases q:j=ks[i]
     ·subst q;rw [z];rfl
     ·rw [decide_eq_false q,Bool.or_false]
    ·rw [List.any_append]
     congr 1
     rw [List.any_cons,List.any_nil,Bool.or_false]
     by_cases q:j=ks[i]
     ·rw [decide_eq_true q,decide_eq_true q.symm]
     ·rw [decide_eq_false q,decide_eq_false (Ne.symm q)]
   ·rw [jJ]
    split
    ·rfl
    ·rw [List.length_append];rfl
  refine wpAny_pure ⟨plainId_quiet F.plain_set_update_loop _,ih (i+1) _ (by trivial) lt (W.frame _ s' _ _ st' (Nat.le_succ _) fun b z o e=>?_) nx fun s2 m2 hS3=>?_⟩
  ·rw [sb.2 b (fun q=>ha (q▸z))];exact e
  ·refine hR s2 (.trans W.gtrans ((m.mono up).then_heap (Nat.le_succ _) fun b o z e=>?_) m2) hS3
   rw [sb.2 b (fun q=>z (q▸List.mem_cons_self))];exact e
end
theorem wT:isSubtype (.type "tuple") (.type "set")=pure false:=by
 rw [isSubtype_type]
 kernel_rfl
theorem wm:isSubtype (.type "tuple") (.type "frozenset")=pure false:=by
 rw [isSubtype_type]
 kernel_rfl
section
variable {prog:Program}{w:World}{A:Around}{E:Value→Shared→Prop}{s:Shared}
abbrev e7 (led:Bool):Obj:={ cls:=.type "set",dict:=none,data:=.set #[] 0 (.fresh 0 0 led) }
theorem vm {h:Heap}{a:Addr}{led:Bool} (e:h.get? a=some (e7 led)):fE prog w h a []:=
 ⟨_,#[],0,_,e,⟨rfl,rfl,rfl⟩,rfl,fun x hx=>(by simp at hx),fun k=>(by simp [gO]),by decide,by rfl,rfl⟩
set_option maxHeartbeats 4000000 in
theorem zh {l:Addr}{vs:List Value}{ks:List aU}{led:Bool}{c:Bool} (hh:A.handled=none) (hl:if c=true then s.heap.IsList l vs.toArray else s.heap.IsTuple l vs.toArray) (hn:vs.length=ks.length)
 (hk:∀(i:Nat) v,vs[i]?=some v→∀k,ks[i]?=some k→fv k v=true∧v.scannable=true) (hb:ks.length+1<scanBound) {R:Fin→Shared→Prop}
 (h:∀h' tk,fE prog w h' s.heap.objs.size ks→(∀b o,b<s.heap.objs.size→s.heap.get? b=some o→h'.get? b=some o)→R (.done (.ret .none)) { s with heap:=h',toks:=tk }) :
 wpAny (model prog w) A (Builtin.«set.__init__» ⟨[.ref s.heap.objs.size,.ref l],[]⟩) R E { s with heap:=s.heap.push (e7 led) }:=by
 have hS:(s.heap.push (e7 led)).get? s.heap.objs.size=some (e7 led):=Heap.get?_push_size _ rfl
 have hT:Shared.TypeIs { s with heap:=s.heap.push (e7 led) } (.ref s.heap.objs.size) "set" := ⟨_,hS,rfl⟩
 have vget:∀(i:Nat) v,vs.toArray[i]?=some v→∀k,ks[i]?=some k→fv k v=true∧v.scannable=true:=fun i v e=>hk i v (by simpa using e)
 have sz:vs.toArray.size=ks.length:=by rw [List.size_toArray];exact hn
 have hS2:∀o:Obj,((s.heap.push (e7 led)).push o).get? s.heap.objs.size=some (e7 led):=fun o=>Heap.get?_push_of_some _ hS
 have lS:∀{x:Obj},s.heap.get? l=some x→l<s.heap.objs.size:=fun e=>Heap.lt_size e
 have neI:s.heap.objs.size≠(s.heap.push (e7 led)).objs.size:=by rw [Heap.size_push];trivial
 have fin:∀(s':Shared) (o:Obj),Moved (s.heap.objs.size :: [(s.heap.push (e7 led)).objs.size]) (fun a b=>b=a) { s with heap:=(s.heap.push (e7 led)).push o } s'→fE prog w s'.heap s.heap.objs.size ks→R (.done (.ret .none)) s':=fun s' o m q=>by
  obtain ⟨h',g',d',tk',os'⟩:=s'
  cases (show g'=s.gens from m.gens)
  cases (show d'=s.drawn from m.drawn)
  cases (show os'=s.os from m.os)
  refine h h' tk' q fun b o hb e=>m.heap b o (fun z=>?_) (Heap.get?_push_of_some _ (Heap.get?_push_of_some _ e))
  rw [Heap.size_push] at z
  have z':b=s.heap.objs.size∨b=s.heap.objs.size+1:=by simpa using z
  have hb':(b:Nat)<s.heap.objs.size:=hb
  rcases z' with z' | z'
  ·exact absurd z' (Nat.ne_of_lt hb')
  ·exact absurd z' (Nat.ne_of_lt (Nat.lt_succ_of_lt hb'))
 cases c with
 | true=>
  have hl':s.heap.IsList l vs.toArray:=hl
  obtain ⟨⟨oc,od,oo,os⟩,e1,rfl,n,rfl⟩:=hl'
  have e2:(s.heap.push (e7 led)).get? l=some ⟨.type "list",od,.seq vs.toArray n,os⟩:=Heap.get?_push_of_some _ e1
  have q1:=PySem.F.sub_list_set
  have q2:=PySem.F.sub_list_frozenset
  have q3:(Value.type "list" == Value.type "dict")=false:=by decide
  have l1:(s.heap.push (e7 led)).IsList l vs.toArray:=⟨_,e2,rfl,n,rfl⟩
  unfold Builtin.«set.__init__» noKeywords Builtin.Frozenset.updateFrom
  generalize hPI:pyIter=PI
  wp_walk
  subst hPI
  have ll:=lS e1
  refine wpAny_pyIter_list l1 (wpAny_bind (wpAny_runValue ?_))
  have ne1:l≠(s.heap.push (e7 led)).objs.size:=by rw [Heap.size_push];exact Nat.ne_of_lt (Nat.lt_succ_of_lt ll)
  refine vq (a:=s.heap.objs.size) (ks:=ks) (sz▸(Walks.list (by simpa using hh) _ l ne1 vs.toArray).toS) ?_ vget hb (ks.length - 0) 0 _ rfl (Nat.zero_le _) ⟨⟨_,Heap.get?_push_size _ rfl,rfl,rfl⟩,l1.push _⟩ (vm (hS2 _)) fun s' m q=>?_
  ·intro z
   have z':s.heap.objs.size=(s.heap.push (e7 led)).objs.size∨s.heap.objs.size=l:=by simpa using z
   rcases z' with z' | z'
   ·exact neI z'
   ·exact absurd z' (Nat.ne_of_gt ll)
  ·exact wpAny_pure (wpAny_pure (fin s' _ m q))
 | false=>
  have hl':s.heap.IsTuple l vs.toArray:=hl
  obtain ⟨⟨oc,od,oo,os⟩,e1,rfl,n,rfl⟩:=hl'
  have e2:(s.heap.push (e7 led)).get? l=some ⟨.type "tuple",od,.seq vs.toArray n,os⟩:=Heap.get?_push_of_some _ e1
  have q1:=wT
  have q2:=wm
  have q3:(Value.type "tuple" == Value.type "dict")=false:=by decide
  have l1:(s.heap.push (e7 led)).IsTuple l vs.toArray:=⟨_,e2,rfl,n,rfl⟩
  unfold Builtin.«set.__init__» noKeywords Builtin.Frozenset.updateFrom
  generalize hPI:pyIter=PI
  wp_walk
  subst hPI
  have ll:=lS e1
  refine wpAny_pyIter_tuple l1 (wpAny_bind (wpAny_runValue ?_))
  have ne1:l≠(s.heap.push (e7 led)).objs.size:=by rw [Heap.size_push];exact Nat.ne_of_lt (Nat.lt_succ_of_lt ll)
  refine vq (a:=s.heap.objs.size) (ks:=ks) (sz▸(Walks.tuple (by simpa using hh) _ l ne1 vs.toArray).toS) ?_ vget hb (ks.length - 0) 0 _ rfl (Nat.zero_le _) ⟨⟨_,Heap.get?_push_size _ rfl,rfl,rfl⟩,l1.at fun o e=>Heap.get?_push_of_some _ e⟩ (vm (hS2 _)) fun s' m q=>?_
  ·intro z
   have z':s.heap.objs.size=(s.heap.push (e7 led)).objs.size∨s.heap.objs.size=l:=by simpa using z
   rcases z' with z' | z'
   ·exact neI z'
   ·exact absurd z' (Nat.ne_of_gt ll)
  ·exact wpAny_pure (wpAny_pure (fin s' _ m q))
set_option maxHeartbeats 4000000 in
theorem yU {l:Addr}{vs:List Value}{ks:List aU}{c:Bool}{Q:Value→Shared→Prop} (hh:A.handled=none) (hl:if c=true then s.heap.IsList l vs.toArray else s.heap.IsTuple l vs.toArray) (hn:vs.length=ks.length)
 (hk:∀(i:Nat) v,vs[i]?=some v→∀k,ks[i]?=some k→fv k v=true∧v.scannable=true) (hb:ks.length+1<scanBound)
 (h:∀h' tk,fE prog w h' s.heap.objs.size ks→(∀b o,b<s.heap.objs.size→s.heap.get? b=some o→h'.get? b=some o)→Q (.ref s.heap.objs.size) { s with heap:=h',toks:=tk }) :
 wpAny (model prog w) A (call (.type "set") [.ref l]) Q E s:=by
 have T:=PySem.F.called_set
 obtain ⟨_,_,t0⟩:=T.mro
 have t1:=T.notType
 have t2:=T.canCreate
 have t3:=T.made
 have t4:=T.sub
 have t5:=PySem.F.typeCall_set_1 (.ref l)
 refine wpAny_call (codeAny_of_tree ?_)
 show wpAny _ _ (callAny (Value.type "set") _) _ _ s
 refine wpAny_pure ⟨Code.quiet_builtin _ (by decide +kernel),codeAny_builtin PySem.F.entry_type_call ?_⟩
 rw [A.under_plain (weight_type_call_type "set" [Value.ref l] []) rfl]
 repeat (any_goals first | assumption | wp_step)
 refine codeAny_mono (code_set_new_1 (.ref l) (E:=E) (Q₁:=fun v s1=>∃led,v=.ref s.heap.objs.size∧s1={ s with heap:=s.heap.push (e7 led) }) fun led=>⟨led,rfl,rfl⟩) fun r s1 hr=>?_
 cases r with
 | error e=>exact hr
 | ok f=>
  cases f with
  | ret v=>
   obtain ⟨led,rfl,rfl⟩:=hr
   have hT:Shared.TypeIs { s with heap:=s.heap.push (e7 led) } (.ref s.heap.objs.size) "set" := ⟨_,Heap.get?_push_size _ rfl,rfl⟩
   have t6:=T.init.lookup
   have t7:=T.init.bind (.ref s.heap.objs.size)
   repeat (any_goals first | assumption | wp_step)
   refine codeAny_mono (codeAny_call_builtin (R:=wants (fun v s2=>v=.none∧bo fun h' tk=>s2={ s with heap:=h',toks:=tk }∧fE prog w h' s.heap.objs.size ks∧∀b o,b<s.heap.objs.size→s.heap.get? b=some o→h'.get? b=some o) E) T.init.plain PySem.F.entry_set_init (check_set_init_1 hT ?_)) fun r2 s2 hr2=>?_
   ·exact zh (by simpa using hh) hl hn hk hb fun h' tk q kp=>⟨rfl,h',tk,rfl,q,kp⟩
   ·cases r2 with
    | error e=>exact hr2
    | ok f=>
     cases f with
     | ret v=>
      obtain ⟨rfl,h',tk,rfl,q,kp⟩:=hr2
      repeat (any_goals first | assumption | wp_step)
      exact h _ _ q kp
     | _=>exact hr2.elim
  | _=>exact hr.elim
end
theorem wS:bootBuiltins "set" = some (.type "set"):=by decide +kernel
def xE (K:PySem.W.Frag) (x:V) (H:Hp) (Q:VK):Prop:=bo fun a ks=>x=.ref a∧(ax K H a (ks.map gU)∨ap K H a (ks.map gU))∧ks.length≤4000∧Q (.int ((gO ks).length:Nat)) H
def Cm (K:PySem.W.Frag) (te:TE):TE:=fun σ H Q=>te σ H fun x H1=>xE K x H1 Q
section
variable {X:Cx}{K:PySem.W.Frag}{e:Expr}{te:TE}{p1 p2 p3 p4:Pos}
theorem uE:∀{ks:List aU}{us:List Value},aM (ks.map gU) us→us.length=ks.length∧∀(i:Nat) v,us[i]?=some v→∀k,ks[i]?=some k→fv k v=true∧v.scannable=true
 | [],_,.nil=>⟨rfl,fun i v e=>by simp at e⟩
 | k :: r,_,.cons h t=>by
  obtain ⟨a,b⟩:=uE (ks:=r) t
  refine ⟨by simp [a],fun i v e j f=>?_⟩
  cases i with
  | zero=>
   simp at e f
   subst e f
   exact sY h
  | succ i=>exact b i v (by simpa using e) j (by simpa using f)
theorem Ax {A:Around}{E:Value→Shared→Prop}{s:Shared}{prog:Program}{w:World}{a:Addr}{ks:List aU}{Q:Value→Shared→Prop} (H:fE prog w s.heap a ks) (hb:ks.length≤4000) (h:Q (.int ((gO ks).length:Nat) (s.toks+1)) { s with toks:=s.toks+1+1 }) :
 wpAny (model prog w) A (call (.builtin "len") [.ref a]) Q E s:=by
 obtain ⟨o,es,ep,t,ho,hx,hd,_,_,hlt,hf,hn⟩:=H
 have:=rj ks
 refine PySem.call_len_set ho hx hd hf (by trivial) ?_
 rw [hn];exact h
theorem y7 (he:PE X e te) (hc:X.calm=true) (hg1:Gl X "len") (hm1:X.mg "len" = none) (hg2:Gl X "set") (hm2:X.mg "set" = none) (ek:X.K=K:=by rfl) (hs:qw e=true:=by rfl) :
 PE X (.Call (.Name "len" p1) [.Call (.Name "set" p2) [e] [] p3] [] p4) (Cm K te):=by
 subst ek
 intro pins s σ H Q I h
 refine wpAny_Call_Name_kw (f8 I hg1 hm1 bw ?_ (by decide) (by decide))
 refine PyProof.Rows.callWith_builtin1 ?_ (pq rfl) rfl
 refine Calls.spliced_cons ?_
 refine wpAny_Call_Name_kw (f8 I hg2 hm2 wS ?_ (by decide) (by decide))
 refine PyProof.Rows.callWith_type1 ?_ (pq hs) rfl
 refine aW (aa he ac hs p3 pins s σ H (fun xs H1=>match xs with | [x]=>xE X.K x H1 Q | _=>False) I h) fun us s1 ⟨vs,H1,I1,r1,q1⟩=>?_
 match vs,r1,q1 with
 | [x],r1,q1=>
 obtain ⟨u,rfl,ru⟩:=nu r1
 obtain ⟨a,ks,rfl,hq,hz,q⟩:=q1
 cases ru
 have go:∀(its:List Value) (c:Bool),aM (ks.map gU) its→(if c=true then s1.heap.IsList a its.toArray else s1.heap.IsTuple a its.toArray)→wpAny (model X.prog X.w) X.A (call (.type "set") [.ref a]) (fun v s2=>wpAny (model X.prog X.w) X.A (call (.builtin "len") [v]) (EP X pins σ Q) X.xe s2) X.xe s1:=fun its c rv hl=>by
  obtain ⟨z1,z2⟩:=uE rv
  refine yU (I1.ok.hd hc) hl z1 z2 (by show ks.length+1<4096;trivial) fun h' tk S kp=>?_
  have I2:af X pins σ H1 { s1 with heap:=h',toks:=tk }:=I1.kept fun b o e=>kp b o (Heap.lt_size e) e
  exact Ax (s:={ s1 with heap:=h',toks:=tk }) S hz ⟨.int _,H1,I2.tok _,⟨_,rfl⟩,q⟩
 have fin:=fun (v:Value) (s2:Shared) (z:wpAny (model X.prog X.w) X.A (call (.builtin "len") [v]) (EP X pins σ Q) X.xe s2)=>(Calls.spliced_nil z:wpAny (model X.prog X.w) X.A (spliced []) (fun vs s3=>wpAny (model X.prog X.w) X.A (call (.builtin "len") (v :: vs)) (EP X pins σ Q) X.xe s3) X.xe s2)
 rcases hq with hq | hq
 ·obtain ⟨its,rv,p,_⟩:=I1.list hq
  exact aW (go its true rv p.isList) fun v s2 z=>fin v s2 z
 ·obtain ⟨its,rv,p,_⟩:=I1.tuple hq
  exact aW (go its false rv p) fun v s2 z=>fin v s2 z
end
end L2
namespace L2
open PySem PySem.Spec PyProof.Rows
section
variable {X:Cx}{K:PySem.W.Frag}{o e:Expr}{es:List Expr}{to:TE}{t:TA}{name:Str}{apos cpos:Pos}{T id:String}{r:V→List V→Hp→VK→Prop}
theorem fQ (pa:PlainAttrs T) (slot:Slot T name id) (hty:typeOf (.builtin id)=pure (.type "method_descriptor")) (hm:yH X id r) (ho:PE X o to) (ha:PA X (e :: es) t) (ek:X.K=K:=by rfl)
 (h1:attributeBase o name X.env (eval o X.env)=eval o X.env:=by rfl)
 (h2:((backTo cpos (starEach (e :: es) X.env)).all (fun x=>!x.1) && (backToKw cpos (keywordEach [] X.env)).all (fun x=>x.1.isSome) && decide ((e :: es).length+([]:List Keyword).length+(if ([]:List Keyword).isEmpty then 0 else 1)<30))=true:=by rfl)
 (h3:(apos.endLine==cpos.line)=true:=by rfl) (h4:starEach (e :: es) X.env=(false,eval e X.env) :: starEach es X.env:=by rfl) (h5:(backTo cpos (starEach es X.env)).any (·.1)=false:=by rfl) :
 PE X (.Call (.Attribute o name apos) (e :: es) [] cpos) (Gk K T r to t):=by
 subst ek
 exact FL pa slot hty hm ho ha h1 h2 h3 h4 h5
end
theorem Ao {X:Cx}{K:PySem.W.Frag}{es:List Expr}{kk:Nat}{tp:Pos}{a b:Expr}{ta:TA}{p pos:Pos} (hg:Gl X "zip") (hm:X.mg "zip" = none) (ha:PA X [a,b] ta) (ek:X.K=K:=by rfl) (h1:starEach [a,b] X.env=[(false,eval a X.env),(false,eval b X.env)]:=by rfl) (h2:starEach [b] X.env=[(false,eval b X.env)]:=by rfl) :
 PI X (.Tuple es kk tp) (.Call (.Name "zip" p) [a,b] [] pos) (C0 K ta):=by
 subst ek
 exact Dw hg hm ha h1 h2
end L2
namespace L2
theorem bS {t u:TS}{D:df}{σ:St}{H:Hp} (h:∀D':df,(∀σ' H',u D σ' H'→D'.nx σ' H')→t D' σ H):ik t u D σ H:=h { D with nx:=u D } fun _ _ z=>z
theorem Hj {t u:TS}{D:df}{σ:St}{H:Hp} (h:∀D':df,(∀σ' H',u D σ' H'→D'.nx σ' H')→(∀v H',D.rt v H'→D'.rt v H')→t D' σ H):ik t u D σ H:=h { D with nx:=u D } (fun _ _ z=>z) fun _ _ z=>z
theorem oj {t:TS}{D:df}{σ:St}{H:Hp} (h:∀D':df,(∀σ' H',D.nx σ' H'→D'.nx σ' H')→t D' σ H):t D σ H:=h D fun _ _ z=>z
theorem FC {t:TS}{D:df}{σ:St}{H:Hp} (h:∀D':df,(∀σ' H',D.nx σ' H'→D'.nx σ' H')→(∀v H',D.rt v H'→D'.rt v H')→t D' σ H):t D σ H:=h D (fun _ _ z=>z) fun _ _ z=>z
end L2
namespace L2
open PySem PySem.Spec PyProof.Rows
section
variable {X:Cx}
end
end L2
namespace L2
open PySem PySem.Spec PyProof.Rows
section
variable {K:PySem.W.Frag}{a a1 a2 D:Addr}{H1:Hp}{σc:St}{g:TG}{te:TE}{tt:TT}{Q:VK}{xs ys:List V}
theorem tj {α:Type} (f:Nat→α) (i:Nat):(List.range i).map f++[f i]=(List.range (i+1)).map f:=by
 rw [List.range_succ,List.map_append];rfl
theorem uO {α β:Type} (f:Nat→β) (h:α→β) (l:List α) (e:∀(i:Nat) (x:α),l[i]?=some x→f i=h x):(List.range l.length).map f=l.map h:=by
 apply List.ext_getElem?
 intro i
 rw [List.getElem?_map,List.getElem?_map]
 by_cases hi:i<l.length
 ·rw [List.getElem?_range hi,List.getElem?_eq_getElem hi]
  show some (f i)=some (h l[i])
  rw [e i l[i] (List.getElem?_eq_getElem hi)]
 ·rw [List.getElem?_eq_none (by simp;trivial),List.getElem?_eq_none (by trivial)];rfl
theorem uF {J:It}{n:Nat} (f:Nat→V) (hz:n≤10000) (hD:H1 D=none) (hgo:∀i H',i<n→ak H1 H'→J.go i H') (hst:∀H',ak H1 H'→J.stop n H')
 (hs:∀i x H' H'' (R:VK),i<n→ak H1 H'→J.yld i H' x H''→(∀H4,ak H' H4→R (f i) H4)→g x σc H'' fun σ2 H2=>jr σc σ2∧te σ2 H2 R)
 (hd:∀H',ak H1 H'→H' D=some (.lst ((List.range n).map f))→Q (.ref D) H'):sr J σc g tT te D H1 Q:=by
 refine dL (n:=n) (fun i H' zs=>zs=(List.range i).map f∧H' D=some (.lst zs)∧ak H1 H') (fw hz) ⟨rfl,am,bM hD (ak.refl _)⟩ ?_ ?_ ?_ ?_ ?_
 ·rintro i H' zs ⟨rfl,q,_⟩
  exact ⟨q,by simp⟩
 ·rintro i H' zs hi ⟨_,_,sm⟩
  exact hgo i H' hi sm
 ·rintro H' zs ⟨_,_,sm⟩
  exact hst H' sm
 ·rintro i H' zs x H'' hi ⟨rfl,q,sm⟩ y
  exact hs i x H' H'' _ hi sm y fun H4 s4=>⟨s4 _ _ q,tj f i,am,bM hD (sm.trans s4)⟩
 ·rintro H' zs ⟨rfl,q,sm⟩
  exact hd H' sm q
theorem lY (f:Nat→V) (hz:xs.length≤10000) (hD:H1 D=none) (ha:H1 a=some (.lst xs))
 (hs:∀i x H' (R:VK),xs[i]?=some x→ak H1 H'→(∀H4,ak H' H4→R (f i) H4)→g x σc H' fun σ2 H2=>jr σc σ2∧te σ2 H2 R)
 (hd:∀H',ak H1 H'→H' D=some (.lst ((List.range xs.length).map f))→Q (.ref D) H'):sr (xr K a) σc g tT te D H1 Q:=by
 refine uF (n:=xs.length) f hz hD (fun i H' hi sm=>⟨xs,xs[i],ax.of (sm _ _ ha),by simp [hi]⟩) (fun H' sm=>⟨xs,ax.of (sm _ _ ha),Nat.le_refl _⟩) ?_ hd
 rintro i x H' H'' R hi sm ⟨rfl,ex⟩ k
 exact hs i x H'' R (ex _ (ax.of (sm _ _ ha))) sm k
end
end L2
namespace L2
theorem x0 {t u:TS}{D:df}{σ:St}{H:Hp} (I:St→Hp→Prop) (rest:∀σ' H',I σ' H'→u D σ' H') (h:(∀σ' H',I σ' H'→u D σ' H')→t { D with nx:=u D } σ H):ik t u D σ H:=h rest
end L2
namespace L2
open PySem PySem.Spec PyProof.Rows
section
variable {X:Cx}{tg:Expr}
end
end L2
namespace L2
open PySem PySem.Spec PyProof.Rows
section
variable {X:Cx}{K:PySem.W.Frag}{o e:Expr}{es:List Expr}{to:TE}{t:TA}{name:Str}{apos cpos:Pos}{id:String}{r:V→List V→Hp→VK→Prop}
end
end L2
namespace L2
open PySem PyProof.Rows
def d6 (X:Cx) (scope:Scope) (cl:List (Str×Addr)) (C:Addr) (N':List Str) (s:Shared) (H:Hp) (ex:List Addr) (pn:List (Addr×Obj)):Cx:=
 { cG X scope cl C N' s H ex pn with fn:=fun x=>scope.names.lookup x==some .cell }
def nR (esc:Scope) (N:List Str) (scope:Scope) (N':List Str) (L:Nat) (src:List Nat):Bool:=
 (scope.kind==.function) && scope.names.all (fun y=>(y.2 != .cell || scope.names.lookup y.1==some .cell) && (y.2 != .local || scope.names.lookup y.1==some .local) && (y.2 != .free || esc.names.lookup y.1==some .cell || esc.names.lookup y.1==some .free)) &&
  (N'.length==L+src.length) && (List.range src.length).all fun i=>match src[i]?,N'[L+i]? with
   | some j,some x=>(N[j]?==some x) && (scope.names.lookup x==some .free)
   | _,_=>false
structure xt (esc:Scope) (N:List Str) (scope:Scope) (N':List Str) (L:Nat) (src:List Nat):Prop where
 kind:scope.kind=.function
 cells:∀y∈scope.names,y.2=.cell→scope.names.lookup y.1=some .cell
 loc:∀y∈scope.names,y.2=.local→scope.names.lookup y.1=some .local
 free:∀y∈scope.names,y.2=.free→esc.names.lookup y.1=some .cell∨esc.names.lookup y.1=some .free
 len:N'.length=L+src.length
 frees:∀(i j:Nat),src[i]?=some j→∃x,N'[L+i]?=some x∧N[j]?=some x∧scope.names.lookup x=some .free
theorem sB {esc:Scope}{N:List Str}{scope:Scope}{N':List Str}{L:Nat}{src:List Nat} (h:nR esc N scope N' L src=true):xt esc N scope N' L src:=by
 unfold nR at h
 simp only [Bool.and_eq_true,List.all_eq_true] at h
 obtain ⟨⟨⟨h1,h2⟩,h3⟩,h4⟩:=h
 refine ⟨by simpa using h1,fun y hy e=>?_,fun y hy e=>?_,fun y hy e=>?_,by simpa using h3,fun i j e=>?_⟩
 ·have:=(h2 y hy).1.1
  rw [e] at this
  simpa using this
 ·have:=(h2 y hy).1.2
  rw [e] at this
  simpa using this
 ·have:=(h2 y hy).2
  rw [e] at this
  simpa using this
 ·have hi:i<src.length:=(List.getElem?_eq_some_iff.mp e).1
  have:=h4 i (List.mem_range.mpr hi)
  rw [e] at this
  cases q:N'[L+i]? with
  | none=>rw [q] at this;simp at this
  | some x=>
   rw [q] at this
   simp only [Bool.and_eq_true,beq_iff_eq] at this
   exact ⟨x,rfl,this.1,this.2⟩
theorem jw:∀(names:List (Str×NameKind)) (n:Nat) (acc acc':List (Str×Addr)),cellsFrom n names (acc++acc')=cellsFrom n names acc++acc'
 | [],_,_,_=>rfl
 | (name,kind) :: r,n,acc,acc'=>by
  unfold cellsFrom
  split
  ·exact jw r (n+1) ((name,n) :: acc) acc'
  ·exact jw r n acc acc'
theorem vc (names:List (Str×NameKind)) (n:Nat) (acc:List (Str×Addr)):cellsFrom n names acc=cellsFrom n names []++acc:=jw names n [] acc
theorem iU {x:Str}{c:Addr}:∀(names:List (Str×NameKind)) (n:Nat) (acc:List (Str×Addr)),(x,c)∈cellsFrom n names acc→(x,NameKind.cell)∈names∨(x,c)∈acc
 | [],_,_,h=>.inr h
 | (name,kind) :: r,n,acc,h=>by
  unfold cellsFrom at h
  split at h
  ·rename_i hk
   rcases iU r (n+1) _ h with h | h
   ·exact .inl (List.mem_cons_of_mem _ h)
   ·rcases List.mem_cons.mp h with h | h
    ·injection h with h1 h2
     have hk':kind=.cell:=by simpa using hk
     rw [h1,hk'];exact .inl List.mem_cons_self
    ·exact .inr h
  ·rcases iU r n _ h with h | h
   ·exact .inl (List.mem_cons_of_mem _ h)
   ·exact .inr h
theorem jl {x:Str}:∀(names:List (Str×NameKind)) (n:Nat) (acc:List (Str×Addr)),(∃c,acc.lookup x=some c)→∃c,(cellsFrom n names acc).lookup x=some c
 | [],_,_,h=>h
 | (name,kind) :: r,n,acc,⟨c,h⟩=>by
  unfold cellsFrom
  split
  ·refine jl r (n+1) _ ?_
   rw [List.lookup_cons]
   cases hb:x==name with
   | true=>exact ⟨_,rfl⟩
   | false=>exact ⟨c,h⟩
  ·exact jl r n acc ⟨c,h⟩
theorem jW {x:Str}:∀(names:List (Str×NameKind)) (n:Nat) (acc:List (Str×Addr)),(x,NameKind.cell)∈names→∃c,(cellsFrom n names acc).lookup x=some c
 | (name,kind) :: r,n,acc,h=>by
  unfold cellsFrom
  rcases List.mem_cons.mp h with h | h
  ·injection h with h1 h2
   subst h1;subst h2
   rw [if_pos (show (NameKind.cell==NameKind.cell)=true from rfl)]
   exact jl r (n+1) _ ⟨n,by simp [List.lookup_cons]⟩
  ·split
   ·exact jW r (n+1) _ h
   ·exact jW r n acc h
theorem GW {M:Model}{A:Around}{E:Value→Shared→Prop}{s:Shared}{scope:Scope}{globals:Addr}{cl:List (Str×Addr)}{qual:Str}{env:Env}{Q:Env→Shared→Prop}
 (h:Q { scope:=scope,locals:=s.heap.objs.size,globals:=globals,cells:=cellsFrom (s.heap.objs.size+1) scope.names cl,qual:=qual,func:=none,code:=env.code,frame:=env.frame,builtins:=env.builtins }
  { s with heap:=pushCells (s.heap.push { cls:=.type "dict",data:=.dict #[] }) scope.names }) :
 wpAny M A (newFunctionEnv scope globals cl [] qual none .none (some env)) Q E s:=by
 simp only [newFunctionEnv,Option.isSome_some,if_true]
 refine wpAny_bind (wpAny_alloc ?_)
 refine wpAny_bind (wpAny_layCells _ (fun name kind cells=>by cases hkc:kind==NameKind.cell <;> simp [hkc]) _ _ _ _ ?_)
 rw [show ({ s with heap:=s.heap.push { cls:=.type "dict",data:=.dict #[] } }:Shared).heap.objs.size=s.heap.objs.size+1 from Heap.size_push ..]
 exact wpAny_bind (by rw [List.forIn_nil];exact wpAny_pure (wpAny_pure h))
section
variable {X:Cx}{elt tg iter:Expr}{ifs:List Expr}{scope:Scope}{pos:Pos}{N':List Str}{L:Nat}{src:List Nat}{wi:TI}{g:TG}{tt:TT}{te:TE}
theorem tU (hc:X.calm=true) (ck:xt X.env.scope X.N scope N' L src) {cl:List (Str×Addr)}{pins:List (Addr×Obj)}{s:Shared}{σ:St}{H:Hp}{Q:VK} (I:af X pins σ H s)
 (hsub:∀x c,cl.lookup x=some c→X.env.cells.lookup x=some c) (hhas:∀y∈scope.names,y.2=.free→∃c,cl.lookup y.1=some c)
 (hi:PI X tg iter wi) (hg:∀cl C s H ex pn,PG (d6 X scope cl C N' s H ex pn) tg g) (hif:∀cl C s H ex pn,mF (d6 X scope cl C N' s H ex pn) ifs tt)
 (he:∀cl C s H ex pn,PE (d6 X scope cl C N' s H ex pn) elt te) (h:yt wi L src g tt te σ H Q) {RR:Value→Addr→Result→Shared→Prop}
 (hRR:∀D C H' f s' m,af X pins σ H' s'→s'.heap.Ns C m→iV X pins H' C→Q (.ref D) H'→RR (.ref D) C (.ok f) s') :
 wpAny (model X.prog X.w) X.A (eval iter X.env) (fun x s₁=>wpAny (model X.prog X.w) X.A (pyIter x) (fun it s₂=>wpAny (model X.prog X.w) X.A (newList []) (fun acc s₃=>
  wpAny (model X.prog X.w) X.A (newFunctionEnv scope X.env.globals cl [] X.env.qual none .none (some X.env)) (fun cenv s₄=>
   codeAny (model X.prog X.w) X.A (.compStart (.ListComp elt [⟨tg,iter,ifs,0⟩] scope pos) 0 it acc { cenv with scope:=relabel scope X.env }) (RR acc cenv.locals) s₄) X.xe s₃) X.xe s₂) X.xe s₁) X.xe s:=by
 refine aW (hi pins s σ H _ I h) fun v s1 h1=>aW h1 fun itv s2 h2=>?_
 obtain ⟨it,fp,tn,J,H2,e,I2,T,st2,f2,q⟩:=h2
 subst e
 refine wpAny_newObj_type (GW ?_)
 dsimp only
 generalize hH2:s2.heap.push { cls:=.type "list",dict:=none,data:=.seq ([]:List Value).toArray }=hp2
 have hns₁:(pushCells (hp2.push { cls:=.type "dict",data:=.dict #[] }) scope.names).Ns hp2.objs.size fun _=>none:=(Heap.Ns.new hp2 (.type "dict")).keeps (pushCells_keeps _ _)
 have kp:∀b o,hp2.get? b=some o→(pushCells (hp2.push { cls:=.type "dict",data:=.dict #[] }) scope.names).get? b=some o:=fun b o e=>pushCells_keeps _ _ b o (Heap.get?_push_of_some _ e)
 have okc:=cellsFrom_ok scope.names (hp2.push { cls:=.type "dict",data:=.dict #[] }) (hp2.objs.size+1) [] ⟨fun _ _ hm=>(nomatch hm),List.Pairwise.nil⟩ (by rw [Heap.size_push];exact Nat.le_refl _)
 rw [Heap.size_push] at okc
 rw [vc]
 have ncell:∀x c,(cellsFrom (hp2.objs.size+1) scope.names []).lookup x=some c→(x,NameKind.cell)∈scope.names:=fun x c e=>(iU _ _ _ (PySem.mem_of_lookup e)).elim id (fun z=>by cases z)
 have nhas:∀x,(x,NameKind.cell)∈scope.names→∃c,(cellsFrom (hp2.objs.size+1) scope.names []).lookup x=some c:=fun x h=>jW _ _ _ h
 generalize pushCells (hp2.push { cls:=.type "dict",data:=.dict #[] }) scope.names=h₁ at hns₁ kp okc ⊢
 generalize cellsFrom (hp2.objs.size+1) scope.names []=nw at okc ncell nhas ⊢
 have hC:hp2.objs.size=s2.heap.objs.size+1:=by rw [←hH2,Heap.size_push]
 have hDC:s2.heap.objs.size≠hp2.objs.size:=by rw [hC];exact Nat.ne_of_lt (Nat.lt_succ_self _)
 have hCle:s2.heap.objs.size≤hp2.objs.size:=by rw [hC];exact Nat.le_succ _
 have below:∀b,b<s2.heap.objs.size→b≠hp2.objs.size∧b≠s2.heap.objs.size:=fun b hb=>⟨by rw [hC];exact Nat.ne_of_lt (Nat.lt_succ_of_lt hb),Nat.ne_of_lt hb⟩
 have old:∀b o,s2.heap.get? b=some o→h₁.get? b=some o:=fun b o e=>kp b o (hH2▸Heap.get?_push_of_some _ e)
 have hacc:h₁.get? s2.heap.objs.size=some { cls:=.type "list",dict:=none,data:=.seq ([]:List Value).toArray }:=kp _ _ (hH2▸Heap.get?_push_size _ rfl)
 have hDn:H2 s2.heap.objs.size=none:=I2.fresh
 obtain ⟨W,⟨m0,w0⟩,turn⟩:=q _ hDn
 have fpo:∀b∈fp,∃o,s2.heap.get? b=some o∧∀v,o.data≠.cell v:=T.obj _ _ st2
 have fplt:∀b∈fp,b<s2.heap.objs.size:=fun b hb=>by obtain ⟨o,e,_⟩:=fpo b hb;exact Heap.lt_size e
 have hfrs:∀b∈fp,b∉f6 X.stack:=fun b hb z=>by
  rcases List.mem_cons.mp (I2.stkSub b z) with z' | z'
  ·exact (f2 b hb).2.1 z'
  ·exact (f2 b hb).2.2.1 z'
 have spl:∀x c,(nw++cl).lookup x=some c→nw.lookup x=some c∨(nw.lookup x=none∧cl.lookup x=some c):=fun x c e=>by
  rw [List.lookup_append] at e
  cases q:nw.lookup x with
  | none=>rw [q] at e;exact .inr ⟨rfl,e⟩
  | some c'=>rw [q] at e;exact .inl e
 have nab:∀x c,nw.lookup x=some c→hp2.objs.size+1≤c:=fun x c e=>(okc.empty x c (PySem.mem_of_lookup e)).2
 have olt:∀x c,cl.lookup x=some c→c<s2.heap.objs.size:=fun x c e=>by
  obtain ⟨v,o,ho,_⟩:=I2.cell x c (hsub _ _ e)
  exact Heap.lt_size ho
 have n2o:∀x c y,nw.lookup x=some c→cl.lookup y=some c→False:=fun x c y e1 e2=>Nat.lt_irrefl c (Nat.lt_of_lt_of_le (olt y c e2) (Nat.le_trans hCle (Nat.le_of_succ_le (nab x c e1))))
 generalize hX:d6 X scope (nw++cl) hp2.objs.size N' s2 H2 fp (X.pn++pins)=X'
 have ok':X'.Ok:=by
  subst hX
  refine ⟨I2.ok.mod,ck.kind,I2.ok.glob,I2.ok.blt,hCle,fun x y c e1 e2=>(spl x c e1).elim (fun g1=>(spl y c e2).elim (fun g2=>name_of_addr okc.apart (PySem.mem_of_lookup g1) (PySem.mem_of_lookup g2)) (fun g2=>(n2o x c y g1 g2.2).elim)) (fun g1=>(spl y c e2).elim (fun g2=>(n2o y c x g2 g1.2).elim) (fun g2=>I2.ok.inj x y c (hsub _ _ g1.2) (hsub _ _ g2.2))),fun x hx=>?_,fun x c z e=>?cab,I2.ok.hd,I2.ok.frames,.inl rfl,fun b hb=>⟨(below b (fplt b hb)).1,fun x c e=>(spl x c e).elim (fun g z=>Nat.lt_irrefl b (Nat.lt_of_lt_of_le (fplt b hb) (Nat.le_trans hCle (Nat.le_of_succ_le (z▸nab x c g))))) (fun g=>(f2 b hb).2.2.2.2.1 x c (hsub _ _ g.2))⟩,
   I2.bs,Nat.le_trans I2.ok.bsz I2.sz,fun b o e hb=>?_,hfrs,I2.stack,I2.stkFree⟩
  ·-- a name that is a cell or free
   have hx':(relabel scope X.env).names.lookup x=some .cell∨(relabel scope X.env).names.lookup x=some .free:=hx
   have key:∀(names:List (Str×NameKind)),
    ((names.map fun (n,k)=>if (k==NameKind.free && X.env.scope.kind==.function && X.env.kindOf n==some .cell) then (n,NameKind.cell) else (n,k)).lookup x=some .cell∨
     (names.map fun (n,k)=>if (k==NameKind.free && X.env.scope.kind==.function && X.env.kindOf n==some .cell) then (n,NameKind.cell) else (n,k)).lookup x=some .free)→∃y∈names,y.1=x∧(y.2=.free∨y.2=.cell):=by
    intro names
    induction names with
    | nil=>intro h;rcases h with h | h <;> simp at h
    | cons y r ih=>
     intro h
     obtain ⟨n,k⟩:=y
     by_cases hb:x=n
     ·subst hb
      refine ⟨(x,k),List.mem_cons_self,rfl,?_⟩
      by_cases hk:k=.free
      ·exact .inl hk
      ·have hkb:(k==NameKind.free)=false:=by simpa using hk
       right
       simp only [List.map_cons,hkb,Bool.false_and,Bool.false_eq_true,if_false,List.lookup_cons,beq_self_eq_true,if_true] at h
       rcases h with h | h
       ·exact Option.some.inj h
       ·exact absurd (Option.some.inj h) hk
     ·have hb':(x==n)=false:=by simpa using hb
      have h':((r.map fun (n,k)=>if (k==NameKind.free && X.env.scope.kind==.function && X.env.kindOf n==some .cell) then (n,NameKind.cell) else (n,k)).lookup x=some .cell∨
       (r.map fun (n,k)=>if (k==NameKind.free && X.env.scope.kind==.function && X.env.kindOf n==some .cell) then (n,NameKind.cell) else (n,k)).lookup x=some .free):=by
       rw [List.map_cons] at h
       dsimp only at h
       by_cases hcnd:(k==NameKind.free && X.env.scope.kind==.function && X.env.kindOf n==some .cell)=true
       ·rw [if_pos hcnd] at h
        simpa only [List.lookup_cons,hb'] using h
       ·rw [if_neg hcnd] at h
        simpa only [List.lookup_cons,hb'] using h
      obtain ⟨y,hy,e1,e2⟩:=ih h'
      exact ⟨y,List.mem_cons_of_mem _ hy,e1,e2⟩
   obtain ⟨y,hy,e1,e2⟩:=key scope.names hx'
   show ∃c,(nw++cl).lookup x=some c
   rw [List.lookup_append]
   cases q:nw.lookup x with
   | some c=>exact ⟨c,rfl⟩
   | none=>
    rcases e2 with e2 | e2
    ·obtain ⟨c,hc'⟩:=hhas y hy e2
     exact ⟨c,by rw [←e1,hc'];rfl⟩
    ·obtain ⟨c,hc'⟩:=nhas x (by obtain ⟨y1,y2⟩:=y;dsimp only at e1 e2;rw [←e1,←e2];exact hy)
     rw [q] at hc';cases hc'
  case cab=>
   have z':(scope.names.lookup x==some NameKind.cell)=true:=z
   obtain ⟨c',hc'⟩:=nhas x (PySem.mem_of_lookup (by simpa using z'))
   rcases spl x c e with g | g
   ·have:=nab x c g
    show s2.heap.objs.size≤c
    trivial
   ·rw [hc'] at g;cases g.1
  ·rcases (f2 b hb).2.2.2.1 with z | z
   ·exact I2.ok.noex b o e z
   ·exact absurd (Nat.lt_of_lt_of_le (Heap.lt_size e) (Nat.le_trans I2.ok.bsz z)) (Nat.lt_irrefl _)
 have stat:∀{H':Hp},(∀b∈fp,H' b=none)→∀b∈fp,iV X' [] H' b:=by
  subst hX
  intro H' hn b hb
  refine ⟨hn b hb,(below b (fplt b hb)).1,hfrs b hb,.inl hb,fun x c e=>(spl x c e).elim (fun g z=>Nat.lt_irrefl b (Nat.lt_of_lt_of_le (fplt b hb) (Nat.le_trans hCle (Nat.le_of_succ_le (z▸nab x c g))))) (fun g=>(f2 b hb).2.2.2.2.1 x c (hsub _ _ g.2)),fun p hp=>?_⟩
  have hp':p∈X.pn++pins:=by simpa [d6,cG] using hp
  exact (f2 b hb).2.2.2.2.2 p hp'
 have I1:af X' [] (fY L src σ) (aN H2 s2.heap.objs.size (.lst [])) { s2 with heap:=h₁,toks:=s2.toks }:=by
  subst hX
  have up:∀b o,H2 b=some o→aN H2 s2.heap.objs.size (.lst []) b=some o:=fun b o e=>by rw [ao (aY e hDn)];exact e
  have upn:∀b,b<s2.heap.objs.size→H2 b=none→aN H2 s2.heap.objs.size (.lst []) b=none:=fun b hb e=>by rw [ao (Nat.ne_of_lt hb)];exact e
  refine ⟨ok',rfl,I2.bare,Un.laid old (Nat.le_refl _) hDn,⟨_,hns₁,fun i x v e1 e2 e3=>?_⟩,fun x c e=>?_,?_,fun x c e=>?_,fun p hp=>?_,I2.hok.laid old (Nat.le_refl _) ⟨Nat.zero_le _,[],0,.nil,hacc⟩,?_⟩
  ·-- the names of the def around
   have hiL:L≤i:=by
    by_cases hlt:i<L
    ·exfalso
     unfold fY at e2
     rw [List.getElem?_append_left (by simpa using hlt),List.getElem?_replicate,if_pos hlt] at e2
     cases e2
    ·trivial
   have e2':(src.map fun j=>(σ[j]?).join)[i - L]?=some (some v):=by
    unfold fY at e2
    rw [List.getElem?_append_right (by simpa using hiL),List.length_replicate] at e2
    exact e2
   rw [List.getElem?_map] at e2'
   cases hj:src[i - L]? with
   | none=>rw [hj] at e2';cases e2'
   | some j=>
    rw [hj] at e2'
    have e3':(σ[j]?).join=some v:=Option.some.inj e2'
    have hσ:σ[j]?=some (some v):=by
     cases q:σ[j]? with
     | none=>rw [q] at e3';cases e3'
     | some o=>rw [q] at e3';exact congrArg some e3'
    obtain ⟨x',g1,g2,g3⟩:=ck.frees (i - L) j hj
    have:L+(i - L)=i:=by trivial
    rw [this] at g1
    have ex:x'=x:=Option.some.inj (g1.symm.trans e1)
    subst ex
    have hfree:=ck.free _ (PySem.mem_of_lookup g3) rfl
    obtain ⟨m,hn,hl⟩:=I2.loc
    obtain ⟨u,r,l⟩:=hl j x' v g2 hσ (hfree.elim (fun z=>.inr (.inl z)) fun z=>.inr (.inr z))
    refine ⟨u,r,.inr ⟨?_,?_⟩⟩
    ·-- its kind in the block
     have key:∀(names:List (Str×NameKind)),names.lookup x'=some .free→
      ((names.map fun (n,k)=>if (k==NameKind.free && X.env.scope.kind==.function && X.env.kindOf n==some .cell) then (n,NameKind.cell) else (n,k)).lookup x'=some .cell∨
       (names.map fun (n,k)=>if (k==NameKind.free && X.env.scope.kind==.function && X.env.kindOf n==some .cell) then (n,NameKind.cell) else (n,k)).lookup x'=some .free):=by
      intro names
      induction names with
      | nil=>intro h;simp at h
      | cons y r ih=>
       intro h
       obtain ⟨n,k⟩:=y
       by_cases hb:x'=n
       ·subst hb
        simp only [List.lookup_cons,beq_self_eq_true,if_true] at h
        have hk:k=.free:=Option.some.inj h
        subst hk
        rw [List.map_cons]
        dsimp only
        by_cases hcnd:(NameKind.free==NameKind.free && X.env.scope.kind==.function && X.env.kindOf x'==some .cell)=true
        ·rw [if_pos hcnd];left;simp [List.lookup_cons]
        ·rw [if_neg hcnd];right;simp [List.lookup_cons]
       ·have hb':(x'==n)=false:=by simpa using hb
        have h':=ih (by simpa only [List.lookup_cons,hb'] using h)
        rw [List.map_cons]
        dsimp only
        by_cases hcnd:(k==NameKind.free && X.env.scope.kind==.function && X.env.kindOf n==some .cell)=true
        ·rw [if_pos hcnd];simpa only [List.lookup_cons,hb'] using h'
        ·rw [if_neg hcnd];simpa only [List.lookup_cons,hb'] using h'
     exact key scope.names g3
    ·obtain ⟨c,hcl⟩:=hhas _ (PySem.mem_of_lookup g3) rfl
     have hcx:=hsub _ _ hcl
     rcases l with ⟨k1,_⟩ | ⟨_,c',e4,z⟩
     ·exfalso
      have k1':X.env.scope.names.lookup x'=some .local:=k1
      rcases hfree with z | z
      ·rw [z] at k1';cases k1'
      ·rw [z] at k1';cases k1'
     ·rw [hcx] at e4
      cases e4
      obtain ⟨o,ho,hd⟩:=z
      refine ⟨c,?_,o,old _ _ ho,hd⟩
      show (nw++cl).lookup x'=some c
      rw [List.lookup_append]
      cases q:nw.lookup x' with
      | none=>exact hcl
      | some c'=>
       exfalso
       have:=ck.cells _ (ncell _ _ q) rfl
       dsimp only at this
       rw [g3] at this;cases this
  ·rcases spl x c e with g | g
   ·exact ⟨none,(okc.empty x c (PySem.mem_of_lookup g)).1⟩
   ·obtain ⟨v,o,ho,hd⟩:=I2.cell x c (hsub _ _ g.2)
    exact ⟨v,o,old _ _ ho,hd⟩
  ·show aN H2 s2.heap.objs.size (.lst []) hp2.objs.size=none
   rw [ao (Ne.symm hDC)]
   exact I2.hok.fresh hCle
  ·rcases spl x c e with g | g
   ·have:=nab x c g
    rw [ao (by intro z;rw [z] at this;trivial)]
    exact I2.hok.fresh (by trivial)
   ·obtain ⟨v,o,ho,hd⟩:=I2.cell x c (hsub _ _ g.2)
    exact upn c (Heap.lt_size ho) (I2.freeC x c (hsub _ _ g.2))
  ·have hp':p∈X.pn++pins:=by simpa [d6,cG] using hp
   obtain ⟨e,n,ne,nf,d⟩:=I2.pin p hp'
   have hlt:=Heap.lt_size e
   refine ⟨old _ _ e,upn _ hlt n,(below _ hlt).1,fun z=>?_,d⟩
   rcases List.mem_cons.mp (I2.stkSub _ z) with z' | z'
   ·exact ne z'
   ·exact nf z'
  ·show (fY L src σ).length=N'.length
   unfold fY
   rw [List.length_append,List.length_replicate,List.length_map,ck.len]
 have eA:X'.A=X.A:=by subst hX;rfl
 have eP:X'.prog=X.prog:=by subst hX;rfl
 have eW:X'.w=X.w:=by subst hX;rfl
 have eK:X'.K=X.K:=by subst hX;rfl
 have ec:X'.calm=true:=by subst hX;exact hc
 have exe:X'.xe=fun _ _=>False:=by subst hX;rfl
 have eE:X'.env=compEnvC scope (nw++cl) hp2.objs.size X.env:=by subst hX;rfl
 have hg':PG X' tg g:=by subst hX;exact hg _ _ _ _ _ _
 have hif':mF X' ifs tt:=by subst hX;exact hif _ _ _ _ _ _
 have he':PE X' elt te:=by subst hX;exact he _ _ _ _ _ _
 have aft:∀{H':Hp}{s':Shared},af X' [] (fY L src σ) H' s'→af X pins σ H' s'∧(∃m,s'.heap.Ns hp2.objs.size m)∧iV X pins H' hp2.objs.size:=by
  subst hX
  intro H' s' J
  refine ⟨I2.call' (ch:=fp) J.os J.base J.hok J.bare fun b hb=>⟨(f2 b hb).2.2.2.1,(f2 b hb).2.1,(f2 b hb).2.2.2.2.1,(f2 b hb).2.2.2.2.2⟩,?_,I2.fpOk hCle J.free⟩
  obtain ⟨m,hn,_⟩:=J.loc
  exact ⟨m,hn⟩
 have st1:tn 0 h₁:=T.keep _ _ _ st2 fun b hb o e=>old b o e
 have loop:∀s₃:Shared,s₃={ s2 with heap:=h₁,toks:=s2.toks }→
  codeAny (model X.prog X.w) X.A (.compLoop (.ListComp elt [⟨tg,iter,ifs,0⟩] scope pos) 0 (.ref it) (.ref s2.heap.objs.size) (compEnvC scope (nw++cl) hp2.objs.size X.env))
   (RR (.ref s2.heap.objs.size) hp2.objs.size) s₃:=by
  rintro s₃ rfl
  refine vn (fun n s'=>fJ fun i H' ys=>af X' [] (fY L src σ) H' s'∧tn i s'.heap∧(∀b∈fp,H' b=none)∧W i n H' ys) ?_ m0
   ⟨0,_,[],I1,st1,fun b hb=>(by rw [ao (below b (fplt b hb)).2];exact (f2 b hb).1),w0⟩
  rintro n s3 ⟨i,H3,ys,I3,st3,fr3,w3⟩
  obtain ⟨hD,alt⟩:=turn i n H3 ys w3
  rcases alt with ⟨stop,qn⟩ | ⟨go,hlen,N,hN,step⟩
  ·have d:=T.done X' eP eW eK ec i [] s3 (fY L src σ) H3 (fun _ _=>False) I3 (stat fr3) st3 stop
   rw [eA] at d
   refine aW d fun r s4 ⟨hr,I4⟩=>?_
   subst hr
   obtain ⟨J,⟨m,hn⟩,fpC⟩:=aft I4
   exact hRR _ _ H3 .next s4 m J hn fpC qn
  ·have d:=T.item X' eP eW eK ec i [] s3 (fY L src σ) H3 (fun _ _=>False) I3 (stat fr3) st3 go
   rw [eA] at d
   refine aW d fun r s4 ⟨u,hr,h4⟩=>?_
   subst hr
   refine aW h4 fun _ s5 ⟨x,H5,I5,r5,y5,st5,fr5⟩=>?_
   have I5':=I5.pinned (stat fr5) (T.obj _ _ st5)
   have a1:=hg' _ s5 (fY L src σ) H5 x u _ I5' r5 (step x H5 y5)
   rw [eP,eW,eA,eE,exe] at a1
   refine aW a1 fun _ s6 ⟨σ6,H6,I6,bk,q6⟩=>?_
   have a2:=hif' _ s6 σ6 H6 _ I6 q6
   rw [eP,eW,eA,eE,exe] at a2
   refine aW a2 fun b s7 ⟨H7,I7,q7⟩=>?_
   have again:∀{H8:Hp}{s8:Shared}{ys':List V},af X' ([]++mO fp s5.heap) σ6 H8 s8→N H8 ys'→∃m,m<n∧fJ fun i H' ys=>af X' [] (fY L src σ) H' s8∧tn i s8.heap∧(∀b∈fp,H' b=none)∧W i m H' ys:=fun {H8 s8 ys'} I8 n8=>by
    obtain ⟨m',hm,w8⟩:=hN H8 ys' n8
    refine ⟨m',hm,i+1,H8,ys',(I8.unpinned).weak bk.1.symm bk.2,T.keep _ _ _ st5 fun b hb o e=>(I8.pin (b,o) (List.mem_append_right _ (List.mem_append_right _ (gI hb e)))).1,fun b hb=>?_,w8⟩
    obtain ⟨o,e,d⟩:=T.obj _ _ st5 b hb
    exact (I8.pin (b,o) (List.mem_append_right _ (List.mem_append_right _ (gI hb e)))).2.1
   cases b with
   | false=>
    rw [if_neg Bool.false_ne_true] at q7 ⊢
    exact again I7 q7
   | true=>
    rw [if_pos rfl] at q7 ⊢
    have a3:=he' _ s7 σ6 H7 _ I7 q7
    rw [eP,eW,eA,eE,exe] at a3
    refine aW a3 fun xv s8 ⟨y,H8,I8,r8,hD8,q8⟩=>?_
    have a4:=pp (X:=X') _ s8 σ6 H8 (.ref s2.heap.objs.size) [y] (.ref s2.heap.objs.size) [xv] (fun _ H'=>H'=aN H8 s2.heap.objs.size (.lst (ys++[y]))) I8 rfl (.cons r8 .nil) ⟨_,ys,y,rfl,rfl,hD8,hlen,rfl⟩
    rw [eP,eW,eA,exe] at a4
    refine aW a4 fun _ s9 ⟨_,H9,I9,_,e9⟩=>?_
    subst e9
    exact again I9 q8
 exact codeAny_compStart_list (loop _ rfl) (T.self _ 0 _ _ _ st1 (loop _ rfl))
theorem cO (hc:X.calm=true) (ck:nR X.env.scope X.N scope N' L src=true) (hi:PI X tg iter wi) (hg:∀cl C s H ex pn,PG (d6 X scope cl C N' s H ex pn) tg g) (hif:∀cl C s H ex pn,mF (d6 X scope cl C N' s H ex pn) ifs tt)
 (he:∀cl C s H ex pn,PE (d6 X scope cl C N' s H ex pn) elt te) (hs:∀x,foldedSetIterable iter X.env x=pure x:=by intro _;rfl) :
 PE X (.ListComp elt [⟨tg,iter,ifs,0⟩] scope pos) (yt wi L src g tt te):=by
 intro pins s σ H Q I h
 have ck:=sB ck
 obtain ⟨cl,hclos,hsub,hhas⟩:=qd (scope:=scope) (env:=X.env) fun y hy e=>I.ok.has y.1 (ck.free y hy e)
 rw [eval_ListComp]
 refine wpAny_comprehension_free (use:=none) rfl hs hclos ck.kind ck.loc (tU hc ck I hsub hhas hi hg hif he h (RR:=fun acc C=>compPost (model X.prog X.w) X.A X.xe none (EP X pins σ Q) acc C) ?_)
 intro D C H' f s' m J hn fpC q
 refine ⟨m,hn,fun h' hsb=>⟨.ref D,H',?_,rfl,q⟩⟩
 obtain ⟨f0,f1,f2,f3,f4,f5⟩:=fpC
 exact J.turned (t':=s'.toks) (fun b o hb e=>(hsb.2 b hb).trans e) f0 f1 f3 f4 f5
theorem qQ {j:Nat}{y:Str}{py spos:Pos} (hN:X.N.Nodup) (hj:X.N[j]?=some y) (hy:X.env.scope.names.lookup y=some .local) (hsw:swapsWith (.ListComp elt [⟨tg,iter,ifs,0⟩] scope pos) (some (.Name y py)) spos.line X.env=pure true)
 (hc:X.calm=true) (ck:nR X.env.scope X.N scope N' L src=true) (hi:PI X tg iter wi) (hg:∀cl C s H ex pn,PG (d6 X scope cl C N' s H ex pn) tg g) (hif:∀cl C s H ex pn,mF (d6 X scope cl C N' s H ex pn) ifs tt)
 (he:∀cl C s H ex pn,PE (d6 X scope cl C N' s H ex pn) elt te) (hs:∀x,foldedSetIterable iter X.env x=pure x:=by intro _;rfl) :
 PS X (.Assign [.Name y py] (.ListComp elt [⟨tg,iter,ifs,0⟩] scope pos) spos) (wf (yt wi L src g tt te) (qt j)):=by
 intro pins s σ H D I h
 have ck:=sB ck
 obtain ⟨cl,hclos,hsub,hhas⟩:=qd (scope:=scope) (env:=X.env) fun y hy e=>I.ok.has y.1 (ck.free y hy e)
 rw [exec_Assign_Name_used _ _ _ _ hsw]
 refine wpAny_bind (wpAny_standAt (wpAny_bind ?_))
 show wpAny _ X.A (do let _ ←comprehension (.ListComp elt [⟨tg,iter,ifs,0⟩] scope pos) scope X.env _ (newList []) false (eval iter X.env) (some (assign (.Name y py) X.env))) _ _ s
 refine wpAny_bind (wpAny_mono (wpAny_comprehension_free (use:=some (assign (.Name y py) X.env)) (Q:=fun _ s'=>SP X pins D .next s') rfl hs hclos ck.kind ck.loc
  (tU hc ck I hsub hhas hi hg hif he h (RR:=fun acc C=>compPost (model X.prog X.w) X.A X.xe (some (assign (.Name y py) X.env)) (fun _ s'=>SP X pins D .next s') acc C) ?_)) (fun _ s' hq=>wpAny_pure (wpAny_pure hq)) fun _ _ e=>e)
 intro L' C H' f s' m J hn fpC q
 show wpAny _ X.A (assign (.Name y py) X.env (.ref L')) _ _ _
 refine wpAny_assign_Name (ph J hN hj (.inl hy) (v:=.ref L') rfl (fun s2 J2 hsb=>?_) (.inr hy))
 obtain ⟨f0,f1,f2,f3,f4,f5⟩:=fpC
 obtain ⟨a,hsb,ha⟩:=hsb
 have hCa:C≠a:=by
  rcases ha with rfl | ha
  ·exact f1
  ·exact fun z=>f4 _ _ ha z.symm
 refine ⟨m,hn.sameBut hsb hCa,fun h' hsb'=>⟨_,H',?_,q⟩⟩
 exact J2.turned (t':=s2.toks) (fun b o hb e=>(hsb'.2 b hb).trans e) f0 f1 f3 f4 f5
end
end L2
namespace HT
open PySem PySem.Spec PyProof.Rows
section
variable {prog:Program}{w:World}{A:Around}{E:Value→Shared→Prop}{s:Shared}
end
end HT
namespace L2
open PySem PySem.Spec PyProof.Rows
section
variable {X:Cx}{K:PySem.W.Frag}
end
section
variable {X:Cx}{e:Expr}{te:TE}{st:Expr}{ts:TO}{p2 pos:Pos}
end
end L2
namespace L2
open PySem PySem.Spec PyProof.Rows
end L2
namespace L2
open PySem PySem.Spec PyProof.Rows
section
variable {H H' H'':Hp}{z n k m:Nat}{v:V}{E:Addr→Prop}{b th th' p:Addr}{xs ys zs:List V}
end
section
variable {E:Addr→Prop}{z:Nat}{H0:Hp}{σ:St}{n k m:Nat}{te tb:TE}{ta:TA}{v:V}{i:Nat}{p:Addr}{xs:List V}{K:PySem.W.Frag}
end
section
variable {b th:Addr}{H0:Hp}{σ:St}{zs:List V}{ta:TA}{te:TE}{n i:Nat}{Q:VK}{K:PySem.W.Frag}
end
end L2
namespace L2
open PySem PySem.Spec PyProof.Rows
theorem bI {te:TE}{i:Nat}{u:TS}{D:df}{σ:St}{H:Hp} (h:∀Q:VK,(∀v H',u D (σ.set i (some v)) H'→Q v H')→te σ H Q):ik (wf te (qt i)) u D σ H:=h _ fun _ _ z=>z
theorem Ap {ta:TA}{i j:Nat}{u:TS}{D:df}{σ:St}{H:Hp} (h:∀Q:List V→Hp→Prop,(∀v w H',u D ((σ.set i (some v)).set j (some w)) H'→Q [v,w] H')→ta σ H Q):ik (C3 i j ta) u D σ H:=h _ fun _ _ _ z=>⟨_,_,rfl,z⟩
theorem jV {α:Type}{P:List α→Prop} (h:∀a,P [a]):∀us:List α,us.length=1→P us:=fun us hl=>by
 cases us with
 | nil=>cases hl
 | cons a r=>cases r with
  | nil=>exact h a
  | cons b r=>simp at hl
theorem cJ {α:Type}{P:List α→Prop} (h:∀a b,P [a,b]):∀us:List α,us.length=2→P us:=fun us hl=>by
 cases us with
 | nil=>cases hl
 | cons a r=>exact jV (P:=fun r=>P (a :: r)) (fun b=>h a b) r (by simpa using hl)
theorem tM {α:Type}{P:List α→Prop} (h:∀a b c,P [a,b,c]):∀us:List α,us.length=3→P us:=fun us hl=>by
 cases us with
 | nil=>cases hl
 | cons a r=>exact cJ (P:=fun r=>P (a :: r)) (fun b c=>h a b c) r (by simpa using hl)
theorem GH {α:Type}{P:List α→Prop} (h:∀a b c d,P [a,b,c,d]):∀us:List α,us.length=4→P us:=fun us hl=>by
 cases us with
 | nil=>cases hl
 | cons a r=>exact tM (P:=fun r=>P (a :: r)) (fun b c d=>h a b c d) r (by simpa using hl)
end L2
namespace L2
open PySem PySem.Spec PyProof.Rows
theorem wG:∀{xs:List V}{us:List Value},xs.length=us.length→(∀(i:Nat) x u,xs[i]?=some x→us[i]?=some u→aX x u)→aM xs us
 | [],[],_,_=>.nil
 | x :: xs,u :: us,hl,h=>.cons (h 0 x u rfl rfl) (wG (by simpa using hl) fun i y w e1 e2=>h (i+1) y w e1 e2)
section
variable {X:Cx}{a:Expr}{ta:TA}{p p2 pos pos2:Pos}
end
end L2
namespace L2
open PySem PySem.Spec PyProof.Rows
abbrev jM (h:Heap) (z TI TO:Addr) (f0:Value) (b:Bool):Prop:=h.get? z=some { cls:=.type "zip",dict:=none,data:=.fields #[f0,.bool b,.bool false,.ref TI,.ref TO],slots:=#[] }
theorem wN {M:Model}{A:Around}{E:Value→Shared→Prop}{s:Shared}{a:Addr}{o:Obj}{Q:Option Obj→Shared→Prop} (e:s.heap.get? a=some o) (h:Q (some o) s):wpAny M A (loadIfAlive a) Q E s:=fun Γ p hΓ=>by
 unfold loadIfAlive
 rw [Sem.wp_loadIfAlive,e]
 exact h
section
variable {prog:Program}{w:World}{A:Around}{E:Value→Shared→Prop}{s:Shared}
variable {z TI TO i1 i2 l1 l2 T:Addr}{k:Nat}{xs ys:Array Value}{bb:Bool}{c1 c2:Bool}{oT:Obj}
theorem xB {Q:Bool→Shared→Prop} (hz:jM s.heap z TI TO (rawInt T) bb) (hT:s.heap.get? T=some oT)
 (h:∀h',jM h' z TI TO (rawInt T) true→Heap.SameBut z s.heap h'→Q false { s with heap:=h' }):wpAny (model prog w) A (Builtin.SmallTypes.ownedTupleIsFree (.ref z)) Q E s:=by
 unfold Builtin.SmallTypes.ownedTupleIsFree
 refine wpAny_bind (wpAny_field hz rfl (x:=rawInt T) rfl ?_)
 show wpAny _ _ (loadIfAlive ((T:Int).toNat) >>= _) _ _ _
 refine wpAny_bind (wN (a:=(T:Int).toNat) (by rw [Int.toNat_natCast];exact hT) ?_)
 simp only [Option.isNone_some,Bool.false_eq_true,if_false]
 refine wpAny_bind (wpAny_field hz rfl (x:=.bool bb) rfl ?_)
 cases bb with
 | true=>exact wpAny_pure (h s.heap hz (Heap.SameBut.refl ..))
 | false=>
  refine wpAny_bind (wpAny_setField_rec hz (by simp) fun h' e sb=>wpAny_pure (h h' e sb))
end
end L2
namespace L2
open PySem PySem.Spec PyProof.Rows
theorem gY:entryFor table "dict.update.loop" = some Builtin.«dict.update.loop»:=entryFor_of_tree (by kernel_rfl)
theorem cV:plainId "dict.update.loop" = true:=by decide +kernel
theorem xP {kvs:List (aU×Value)}{k:aU}{v:Value} (h:k∉kvs.map (·.1)):stored kvs k v=kvs++[(k,v)]:=by
 unfold stored
 rw [if_neg]
 intro z
 obtain ⟨x,hx,e⟩:=List.any_eq_true.mp z
 exact h (by rw [←of_decide_eq_true e];exact List.mem_map_of_mem hx)
theorem vT {α β:Type}:∀{ks:List α}{us:List β},ks.length=us.length→(ks.zip us).map (·.1)=ks
 | [],[],_=>rfl
 | k :: ks,u :: us,h=>by simp [vT (ks:=ks) (us:=us) (by simpa using h)]
section
variable {prog:Program}{w:World}{A:Around}{E:Value→Shared→Prop}{R:Result→Shared→Prop}
variable {z TI TO i1 i2 l1 l2 d:Addr}{xs ys:Array Value}{c1 c2:Bool}{ks:List aU}
end
theorem pi:bootBuiltins "dict" = some (.type "dict"):=by decide +kernel
theorem y8:∀{ks:List aU}{ys:List V}{us:List Value},aM ys us→KV (ks.zip ys) (ks.zip us)
 | [],_,_,_=>.nil
 | _ :: _,_,_,.nil=>.nil
 | k :: ks,_,_,.cons r t=>.cons ⟨rfl,r⟩ (y8 t)
section
variable {X:Cx}{K:PySem.W.Frag}{a b:Expr}{ta:TA}{p1 p2 p3 p4:Pos}
def valD (kvs:List (aU×V)) (k:aU):Option V:=(kvs.find? fun kv=>decide (kv.1=k)).map (·.2)
theorem KV.valD:∀{kvs:List (aU×V)}{vs:List (aU×Value)} (r:KV kvs vs) (k:aU),pJ (valD kvs k) (valueAt vs k)
 | _,_,.nil,_=>trivial
 | p :: ps,q :: qs,.cons h t,k=>by
  obtain ⟨h1,h2⟩:=h
  by_cases e:p.1=k
  ·have e':q.1=k:=h1.symm.trans e
   have b1:L2.valD (p :: ps) k=some p.2:=by simp [L2.valD,List.find?_cons,e]
   have b2:valueAt (q :: qs) k=some q.2:=by simp [valueAt,List.find?_cons,e']
   rw [b1,b2];exact h2
  ·have e':¬q.1=k:=fun z=>e (h1.trans z)
   have b1:L2.valD (p :: ps) k=L2.valD ps k:=by simp [L2.valD,List.find?_cons,e]
   have b2:valueAt (q :: qs) k=valueAt qs k:=by simp [valueAt,List.find?_cons,e']
   rw [b1,b2];exact KV.valD t k
inductive Fr (x:V) (y:V) (H:Hp) (Q:VK):Prop
 | mk (d:Addr) (kvs:List (aU×V)) (k:aU) (v:V) (h0:x=.ref d) (h1:y=gU k) (h2:H d=some (.dK kvs)) (h3:valD kvs k=some v) (h4:Q v H)
def GN:R2:=fun x y H Q=>Fr  x y H Q
theorem l4 {P:Program}{w:World}{k:aU}{u:Value} (r:aX (gU k) u):(bQ P w).is k u=true:=(sY r).1
theorem fK:oM X GN:=by
 intro value slice pins s σ H x y v u Q I rx ry h hs
 obtain ⟨d,kvs,k,z,rfl,rfl,hd,he,q⟩:=h
 cases rx
 obtain ⟨_,_,vs,rel,dd⟩:=(show bh X.prog X.w H s.heap d (.dK kvs) from I.hok d _ hd)
 have hv:=rel.valD k
 rw [he] at hv
 obtain ⟨w',hw,rw'⟩:=pJ.some_of hv
 exact subscriptTail_builtinR (x:=w') dd.typeIs PySem.F.slot_dict_getitem.lookup (wpAny_getItem_of (l4 ry) dd.mapOf hw ⟨rfl,z,H,I.tok _,rw',q⟩) hs
theorem rX:∀{ks:List aU}{ys:List V}{i:Nat}{k:aU}{y:V},ks.Nodup→ks[i]?=some k→ys[i]?=some y→valD (ks.zip ys) k=some y
 | [],_,_,_,_,_,h,_=>by simp at h
 | _ :: _,[],_,_,_,_,_,h=>by simp at h
 | k0 :: ks,y0 :: ys,0,k,y,_,h1,h2=>by
  simp at h1 h2
  subst h1 h2
  simp [valD]
 | k0 :: ks,y0 :: ys,i+1,k,y,nd,h1,h2=>by
  simp only [List.getElem?_cons_succ] at h1 h2
  have ne:¬k0=k:=fun z=>by
   rw [z] at nd
   exact (List.nodup_cons.mp nd).1 (List.mem_of_getElem? h1)
  have b1:valD ((k0 :: ks).zip (y0 :: ys)) k=valD (ks.zip ys) k:=by simp [valD,List.find?_cons,ne]
  rw [b1]
  exact rX (List.nodup_cons.mp nd).2 h1 h2
end
section
variable {X:Cx}
end
end L2
namespace L2
open PySem PySem.Spec PyProof.Rows
theorem aT {a b:Nat} (h:a≠b):@Ne Addr a b:=h
abbrev cu (h:Heap) (T:Addr) (a b c:Value):Prop:=h.get? T=some { cls:=.type "tuple",data:=.seq #[a,b,c] }
section
variable {prog:Program}{w:World}{A:Around}{E:Value→Shared→Prop}{s:Shared}
theorem oh {T:Addr}{a b c x:Value}{k:Nat}{Q:Unit→Shared→Prop} (hT:cu s.heap T a b c)
 (h:∀h',h'.get? T=some { cls:=.type "tuple",data:=.seq ((#[a,b,c]:Array Value).setIfInBounds k x) }→Heap.SameBut T s.heap h'→Q () { s with heap:=h' }) :
 wpAny (model prog w) A (updateSeq T (·.setIfInBounds k x)) Q E s:=by
 refine wpAny_updateSeq hT rfl (h _ ?_ (Heap.SameBut.update ..))
 rw [Heap.get?_update_self _ hT rfl]
 simp [Obj.mapSeq]
variable {n l1 l2 l3 T:Nat}{k:Nat}{xs ys zs:Array Value}{bb:Bool}{oT:Obj}
set_option maxHeartbeats 1000000 in
theorem AD {a b c x y v:Value}{Q:Value→Shared→Prop} (hl:l1<n∧l2<n∧l3<n)
 (hz:IsZip s.heap (n+5) (n+3) (n+4) .none) (hTI:cu s.heap (n+3) (.ref n) (.ref (n+1)) (.ref (n+2))) (hTO:cu s.heap (n+4) a b c) (hh:A.handled=none)
 (h1:bL s.heap n l1 k true) (h2:bL s.heap (n+1) l2 k true) (h3:bL s.heap (n+2) l3 k true) (q1:bV s.heap l1 xs true) (q2:bV s.heap l2 ys true) (q3:bV s.heap l3 zs true) (hx:xs[k]?=some x) (hy:ys[k]?=some y) (hv:zs[k]?=some v)
 (hQ:∀h' tk,IsZip h' (n+5) (n+3) (n+4) (rawInt s.heap.objs.size)→bL h' n l1 (k+1) true→bL h' (n+1) l2 (k+1) true→bL h' (n+2) l3 (k+1) true→cu h' s.heap.objs.size x y v→h'.objs.size=s.heap.objs.size+1→
  (∀(c:Nat) o,c≠n+5→c≠n+4→c≠n→c≠n+1→c≠n+2→s.heap.get? c=some o→h'.get? c=some o)→Q (.ref s.heap.objs.size) { s with heap:=h',toks:=tk }) :
 wpAny (model prog w) A (Builtin.«zip.__next__» ⟨[.ref (n+5)],[]⟩) (fun fin s'=>∃v,fin=.done (.ret v)∧Q v s') E s:=by
 obtain ⟨m1,m2,m3⟩:=hl
 have kx:k<xs.size:=(Array.getElem?_eq_some_iff.mp hx).1
 have ky:k<ys.size:=(Array.getElem?_eq_some_iff.mp hy).1
 have kv:k<zs.size:=(Array.getElem?_eq_some_iff.mp hv).1
 have D1:=eY (prog:=prog) (w:=w) hh n l1 (aT (by trivial)) xs true
 have D2:=eY (prog:=prog) (w:=w) hh (n+1) l2 (aT (by trivial)) ys true
 have D3:=eY (prog:=prog) (w:=w) hh (n+2) l3 (aT (by trivial)) zs true
 show wpAny _ _ (field (.ref (n+5)) 2 >>= _) _ _ _;refine wpAny_bind (wpAny_field hz rfl (x:=.bool false) rfl ?_)
 show wpAny _ _ (field (.ref (n+5)) 3 >>= _) _ _ _;refine wpAny_bind (wpAny_field hz rfl (x:=.ref (n+3)) rfl (wpAny_bind (wpAny_seqItems hTI rfl ?_)))
 show wpAny _ _ (Builtin.SmallTypes.ownedTupleIsFree (.ref (n+5)) >>= _) _ _ _;refine wpAny_bind ?_;unfold Builtin.SmallTypes.ownedTupleIsFree
 refine wpAny_bind (wpAny_field hz rfl (x:=.none) rfl (wpAny_pure ?_));simp only [if_true]
 refine wpAny_bind (wpAny_rule (wpAny_bind (wpAny_field hz rfl (x:=.ref (n+4)) rfl (wpAny_bind (wpAny_setField_rec hz (by simp) fun g1 z1 t1=>?_)))))
 replace z1:IsZip g1 (n+5) (n+3) (n+4) .ellipsis:=z1
 refine wpAny_bind ?_;simp only [List.zipIdx_cons,List.zipIdx_nil,List.forIn_cons,List.forIn_nil];refine wpAny_bind (wpAny_bind (wpAny_onRaise ?_))
 show wpAny _ _ (Builtin.SmallTypes.nextOf (.ref n) >>= _) _ _ _
 refine wpAny_bind (D1.item k _ _ _ kx ⟨h1.at fun o e=>t1.extBut _ _ (aT (by trivial)) e,q1.at fun o e=>t1.extBut _ _ (aT (by trivial)) e⟩ fun x' g2 tk2 p1 st1 t2=>wpAny_pure ?_)
 have ex:x=x':=Option.some.inj (hx.symm.trans p1)
 subst ex
 have TO2:cu g2 (n+4) a b c:=t2.extBut _ _ (aT (by trivial)) (t1.extBut _ _ (aT (by trivial)) hTO)
 refine wpAny_bind (wpAny_seqItems TO2 rfl (wpAny_bind (oh TO2 fun g3 TO3 t3=>?_)))
 replace TO3:cu g3 (n+4) x b c:=TO3
 refine wpAny_bind (wpAny_letGo (wpAny_pure ?_));refine wpAny_bind (wpAny_bind (wpAny_onRaise ?_));show wpAny _ _ (Builtin.SmallTypes.nextOf (.ref (n+1)) >>= _) _ _ _
 refine wpAny_bind (D2.item k _ _ _ ky ⟨h2.at fun o e=>t3.extBut _ _ (aT (by trivial)) (t2.extBut _ _ (aT (by trivial)) (t1.extBut _ _ (aT (by trivial)) e)),q2.at fun o e=>t3.extBut _ _ (aT (by trivial)) (t2.extBut _ _ (aT (by trivial)) (t1.extBut _ _ (aT (by trivial)) e))⟩ fun y' g4 tk4 p2 st2 t4=>wpAny_pure ?_)
 have ey:y=y':=Option.some.inj (hy.symm.trans p2)
 subst ey
 have TO4:cu g4 (n+4) x b c:=t4.extBut _ _ (aT (by trivial)) TO3
 refine wpAny_bind (wpAny_seqItems TO4 rfl (wpAny_bind (oh TO4 fun g5 TO5 t5=>?_)))
 replace TO5:cu g5 (n+4) x y c:=TO5
 refine wpAny_bind (wpAny_letGo (wpAny_pure ?_));refine wpAny_bind (wpAny_bind (wpAny_onRaise ?_));show wpAny _ _ (Builtin.SmallTypes.nextOf (.ref (n+2)) >>= _) _ _ _
 refine wpAny_bind (D3.item k _ _ _ kv ⟨h3.at fun o e=>t5.extBut _ _ (aT (by trivial)) (t4.extBut _ _ (aT (by trivial)) (t3.extBut _ _ (aT (by trivial)) (t2.extBut _ _ (aT (by trivial)) (t1.extBut _ _ (aT (by trivial)) e)))),q3.at fun o e=>t5.extBut _ _ (aT (by trivial)) (t4.extBut _ _ (aT (by trivial)) (t3.extBut _ _ (aT (by trivial)) (t2.extBut _ _ (aT (by trivial)) (t1.extBut _ _ (aT (by trivial)) e))))⟩ fun v' g6 tk6 p3 st3 t6=>wpAny_pure ?_)
 have ev:v=v':=Option.some.inj (hv.symm.trans p3)
 subst ev
 have TO6:cu g6 (n+4) x y c:=t6.extBut _ _ (aT (by trivial)) TO5
 refine wpAny_bind (wpAny_seqItems TO6 rfl (wpAny_bind (oh TO6 fun g7 TO7 t7=>?_)))
 replace TO7:cu g7 (n+4) x y v:=TO7
 refine wpAny_bind (wpAny_letGo (wpAny_pure (wpAny_pure ?_)));refine wpAny_bind (wpAny_seqItems TO7 rfl (wpAny_bind (wpAny_newTuple ?_)))
 have sz:g7.objs.size=s.heap.objs.size:=by rw [t7.1,t6.1,t5.1,t4.1,t3.1,t2.1,t1.1]
 have keep:∀(c:Nat) o,c≠n+5→c≠n+4→c≠n→c≠n+1→c≠n+2→s.heap.get? c=some o→g7.get? c=some o:=fun c o d1 d2 d3 d4 d5 e=>t7.extBut _ _ d2 (t6.extBut _ _ d5 (t5.extBut _ _ d2 (t4.extBut _ _ d4 (t3.extBut _ _ d2 (t2.extBut _ _ d3 (t1.extBut _ _ d1 e))))))
 have z7:IsZip g7 (n+5) (n+3) (n+4) .ellipsis:=t7.extBut _ _ (aT (by trivial)) (t6.extBut _ _ (aT (by trivial)) (t5.extBut _ _ (aT (by trivial)) (t4.extBut _ _ (aT (by trivial)) (t3.extBut _ _ (aT (by trivial)) (t2.extBut _ _ (aT (by trivial)) z1)))))
 have it1:bL g7 n l1 (k+1) true:=st1.1.at fun o e=>t7.extBut _ _ (aT (by trivial)) (t6.extBut _ _ (aT (by trivial)) (t5.extBut _ _ (aT (by trivial)) (t4.extBut _ _ (aT (by trivial)) (t3.extBut _ _ (aT (by trivial)) e))))
 have it2:bL g7 (n+1) l2 (k+1) true:=st2.1.at fun o e=>t7.extBut _ _ (aT (by trivial)) (t6.extBut _ _ (aT (by trivial)) (t5.extBut _ _ (aT (by trivial)) e))
 have it3:bL g7 (n+2) l3 (k+1) true:=st3.1.at fun o e=>t7.extBut _ _ (aT (by trivial)) e
 have zlt:n+5<g7.objs.size:=Heap.lt_size z7
 show wpAny _ _ (Builtin.SmallTypes.ownedTupleHandOut (.ref (n+5)) (.ref g7.objs.size) >>= _) _ _ _;refine wpAny_bind ?_;unfold Builtin.SmallTypes.ownedTupleHandOut
 have z8:IsZip (g7.push { cls:=.type "tuple",data:=.seq #[x,y,v] }) (n+5) (n+3) (n+4) .ellipsis:=Heap.get?_push_of_some _ z7
 refine wpAny_bind (wpAny_setField_rec z8 (by simp) fun g9 z9 t9=>?_)
 replace z9:IsZip g9 (n+5) (n+3) (n+4) (rawInt g7.objs.size):=z9
 refine wpAny_setField_rec z9 (by simp) fun gA zA tA=>?_
 replace zA:IsZip gA (n+5) (n+3) (n+4) (rawInt g7.objs.size):=zA
 have up:∀(c:Nat) o,c≠n+5→g7.get? c=some o→gA.get? c=some o:=fun c o d e=>tA.extBut _ _ d (t9.extBut _ _ d (Heap.get?_push_of_some _ e))
 have TA:cu gA g7.objs.size x y v:=tA.extBut _ _ (Nat.ne_of_gt zlt) (t9.extBut _ _ (Nat.ne_of_gt zlt) (Heap.get?_push_size _ rfl))
 have sA:gA.objs.size=g7.objs.size+1:=by rw [tA.1,t9.1,Heap.size_push]
 rw [sz] at zA TA sA
 refine wpAny_pure ⟨_,rfl,?_⟩;show Q (.ref g7.objs.size) _;rw [sz]
 exact hQ gA _ zA (it1.at fun o e=>up _ o (aT (by trivial)) e) (it2.at fun o e=>up _ o (aT (by trivial)) e) (it3.at fun o e=>up _ o (aT (by trivial)) e) TA sA fun c o d1 d2 d3 d4 d5 e=>up c o d1 (keep c o d1 d2 d3 d4 d5 e)
theorem yV {x y v:Value}{Q:Value→Shared→Prop} (hl:l1<n∧l2<n∧l3<n)
 (hz:jM s.heap (n+5) (n+3) (n+4) (rawInt T) bb) (hT:s.heap.get? T=some oT) (hTI:cu s.heap (n+3) (.ref n) (.ref (n+1)) (.ref (n+2))) (hh:A.handled=none)
 (h1:bL s.heap n l1 k true) (h2:bL s.heap (n+1) l2 k true) (h3:bL s.heap (n+2) l3 k true) (q1:bV s.heap l1 xs true) (q2:bV s.heap l2 ys true) (q3:bV s.heap l3 zs true) (hx:xs[k]?=some x) (hy:ys[k]?=some y) (hv:zs[k]?=some v)
 (hQ:∀h' tk,jM h' (n+5) (n+3) (n+4) (rawInt T) true→bL h' n l1 (k+1) true→bL h' (n+1) l2 (k+1) true→bL h' (n+2) l3 (k+1) true→cu h' s.heap.objs.size x y v→h'.objs.size=s.heap.objs.size+1→
  (∀(c:Nat) o,c≠n+5→c≠n→c≠n+1→c≠n+2→s.heap.get? c=some o→h'.get? c=some o)→Q (.ref s.heap.objs.size) { s with heap:=h',toks:=tk }) :
 wpAny (model prog w) A (Builtin.«zip.__next__» ⟨[.ref (n+5)],[]⟩) (fun fin s'=>∃v,fin=.done (.ret v)∧Q v s') E s:=by
 obtain ⟨m1,m2,m3⟩:=hl
 have kx:k<xs.size:=(Array.getElem?_eq_some_iff.mp hx).1
 have ky:k<ys.size:=(Array.getElem?_eq_some_iff.mp hy).1
 have kv:k<zs.size:=(Array.getElem?_eq_some_iff.mp hv).1
 have D1:=eY (prog:=prog) (w:=w) hh n l1 (aT (by trivial)) xs true
 have D2:=eY (prog:=prog) (w:=w) hh (n+1) l2 (aT (by trivial)) ys true
 have D3:=eY (prog:=prog) (w:=w) hh (n+2) l3 (aT (by trivial)) zs true
 show wpAny _ _ (field (.ref (n+5)) 2 >>= _) _ _ _;refine wpAny_bind (wpAny_field hz rfl (x:=.bool false) rfl ?_)
 show wpAny _ _ (field (.ref (n+5)) 3 >>= _) _ _ _;refine wpAny_bind (wpAny_field hz rfl (x:=.ref (n+3)) rfl (wpAny_bind (wpAny_seqItems hTI rfl ?_)))
 show wpAny _ _ (Builtin.SmallTypes.ownedTupleIsFree (.ref (n+5)) >>= _) _ _ _
 refine wpAny_bind (xB hz hT fun g1 z1 t1=>?_)
 simp only [Bool.false_eq_true,if_false]
 refine wpAny_bind ?_
 rw [←Array.forIn_toList]
 simp only [List.forIn_cons,List.forIn_nil]
 refine wpAny_bind (wpAny_bind (wpAny_holding ?_))
 show wpAny _ _ (Builtin.SmallTypes.nextOf (.ref n) >>= _) _ _ _
 refine wpAny_bind (D1.item k _ _ _ kx ⟨h1.at fun o e=>t1.extBut _ _ (aT (by trivial)) e,q1.at fun o e=>t1.extBut _ _ (aT (by trivial)) e⟩ fun x' g2 tk2 p1 st1 t2=>wpAny_pure ?_)
 have ex:x=x':=Option.some.inj (hx.symm.trans p1)
 subst ex
 refine wpAny_pure ?_
 refine wpAny_bind (wpAny_bind (wpAny_holding ?_))
 show wpAny _ _ (Builtin.SmallTypes.nextOf (.ref (n+1)) >>= _) _ _ _
 refine wpAny_bind (D2.item k _ _ _ ky ⟨h2.at fun o e=>t2.extBut _ _ (aT (by trivial)) (t1.extBut _ _ (aT (by trivial)) e),q2.at fun o e=>t2.extBut _ _ (aT (by trivial)) (t1.extBut _ _ (aT (by trivial)) e)⟩ fun y' g4 tk4 p2 st2 t4=>wpAny_pure ?_)
 have ey:y=y':=Option.some.inj (hy.symm.trans p2)
 subst ey
 refine wpAny_pure ?_
 refine wpAny_bind (wpAny_bind (wpAny_holding ?_))
 show wpAny _ _ (Builtin.SmallTypes.nextOf (.ref (n+2)) >>= _) _ _ _
 refine wpAny_bind (D3.item k _ _ _ kv ⟨h3.at fun o e=>t4.extBut _ _ (aT (by trivial)) (t2.extBut _ _ (aT (by trivial)) (t1.extBut _ _ (aT (by trivial)) e)),q3.at fun o e=>t4.extBut _ _ (aT (by trivial)) (t2.extBut _ _ (aT (by trivial)) (t1.extBut _ _ (aT (by trivial)) e))⟩ fun v' g6 tk6 p3 st3 t6=>wpAny_pure ?_)
 have ev:v=v':=Option.some.inj (hv.symm.trans p3)
 subst ev
 refine wpAny_pure (wpAny_pure ?_)
 refine wpAny_bind (wpAny_newTuple ?_ (by show 3≤sizeLine;rw [sizeLine_eq];decide))
 have sz:g6.objs.size=s.heap.objs.size:=by rw [t6.1,t4.1,t2.1,t1.1]
 have z6:jM g6 (n+5) (n+3) (n+4) (rawInt T) true:=t6.extBut _ _ (aT (by trivial)) (t4.extBut _ _ (aT (by trivial)) (t2.extBut _ _ (aT (by trivial)) z1))
 refine wpAny_pure ⟨_,rfl,?_⟩
 show Q (.ref g6.objs.size) _
 have pu:cu (g6.push { cls:=.type "tuple",data:=.seq #[x,y,v] }) g6.objs.size x y v:=Heap.get?_push_size _ rfl
 have ps:(g6.push { cls:=.type "tuple",data:=.seq #[x,y,v] }).objs.size=s.heap.objs.size+1:=by rw [Heap.size_push,sz]
 rw [sz] at pu ⊢
 exact hQ _ _ (Heap.get?_push_of_some _ z6) ((st1.1.at fun o e=>t6.extBut _ _ (aT (by trivial)) (t4.extBut _ _ (aT (by trivial)) e)).at fun o e=>Heap.get?_push_of_some _ e) ((st2.1.at fun o e=>t6.extBut _ _ (aT (by trivial)) e).at fun o e=>Heap.get?_push_of_some _ e) (st3.1.at fun o e=>Heap.get?_push_of_some _ e) pu ps
  fun c o d1 d3 d4 d5 e=>Heap.get?_push_of_some _ (t6.extBut _ _ d5 (t4.extBut _ _ d4 (t2.extBut _ _ d3 (t1.extBut _ _ d1 e))))
theorem BO {Q:Fin→Shared→Prop} (hh:A.handled=none) (hl:l1<n) {f0:Value} (hz:jM s.heap (n+5) (n+3) (n+4) f0 bb) (hf:(f0=.none∧bb=false)∨∃T:Nat,f0=rawInt T∧∃o,s.heap.get? T=some o) (hTI:cu s.heap (n+3) (.ref n) (.ref (n+1)) (.ref (n+2)))
 (h1:bL s.heap n l1 k true) (q1:bV s.heap l1 xs true) (hend:xs.size=k)
 (hE:∀h' e tk,(∀(c:Nat) o,c≠n+5→c≠n→s.heap.get? c=some o→h'.get? c=some o)→(∃o,h'.get? e=some o∧o.cls=.type "StopIteration")→E (.ref e) { s with heap:=h',toks:=tk }) :
 wpAny (model prog w) A (Builtin.«zip.__next__» ⟨[.ref (n+5)],[]⟩) Q E s:=by
 have D1:=eY (prog:=prog) (w:=w) hh n l1 (aT (by trivial)) xs true
 show wpAny _ _ (field (.ref (n+5)) 2 >>= _) _ _ _;refine wpAny_bind (wpAny_field hz rfl (x:=.bool false) rfl ?_)
 show wpAny _ _ (field (.ref (n+5)) 3 >>= _) _ _ _;refine wpAny_bind (wpAny_field hz rfl (x:=.ref (n+3)) rfl (wpAny_bind (wpAny_seqItems hTI rfl ?_)))
 show wpAny _ _ (Builtin.SmallTypes.ownedTupleIsFree (.ref (n+5)) >>= _) _ _ _
 rcases hf with ⟨rfl,rfl⟩ | ⟨T,rfl,oT,hT⟩
 ·refine wpAny_bind ?_;unfold Builtin.SmallTypes.ownedTupleIsFree
  refine wpAny_bind (wpAny_field hz rfl (x:=.none) rfl (wpAny_pure ?_));simp only [if_true]
  refine wpAny_bind (wpAny_rule (wpAny_bind (wpAny_field hz rfl (x:=.ref (n+4)) rfl (wpAny_bind (wpAny_setField_rec hz (by simp) fun g1 z1 t1=>?_)))))
  replace z1:IsZip g1 (n+5) (n+3) (n+4) .ellipsis:=z1
  refine wpAny_bind ?_;simp only [List.zipIdx_cons,List.zipIdx_nil,List.forIn_cons,List.forIn_nil];refine wpAny_bind (wpAny_bind (wpAny_onRaise ?_))
  show wpAny _ _ (Builtin.SmallTypes.nextOf (.ref n) >>= _) _ _ _
  have st0:bL g1 n l1 k true∧bV g1 l1 xs true:=⟨h1.at fun o e=>t1.extBut _ _ (aT (by trivial)) e,q1.at fun o e=>t1.extBut _ _ (aT (by trivial)) e⟩
  refine wpAny_bind (D1.done _ _ _ (by rw [hend];exact st0) fun g2 e t2 he=>?_)
  obtain ⟨oe,e1,e2⟩:=he
  have z2:IsZip g2 (n+5) (n+3) (n+4) .ellipsis:=t2 _ _ (aT (by trivial)) z1
  have ez:e≠n+5:=fun q=>by subst q;rw [z2] at e1;cases e1;simp at e2
  exact wpAny_setField_rec z2 (by simp) fun g3 _ t3=>hE g3 e _ (fun c o d1 d3 q=>t3.extBut _ _ d1 (t2 _ _ d3 (t1.extBut _ _ d1 q))) ⟨oe,t3.extBut _ _ ez e1,e2⟩
 ·refine wpAny_bind (xB hz hT fun g1 z1 t1=>?_)
  simp only [Bool.false_eq_true,if_false]
  refine wpAny_bind ?_
  rw [←Array.forIn_toList]
  simp only [List.forIn_cons,List.forIn_nil]
  refine wpAny_bind (wpAny_bind (wpAny_holding ?_))
  show wpAny _ _ (Builtin.SmallTypes.nextOf (.ref n) >>= _) _ _ _
  have st0:bL g1 n l1 k true∧bV g1 l1 xs true:=⟨h1.at fun o e=>t1.extBut _ _ (aT (by trivial)) e,q1.at fun o e=>t1.extBut _ _ (aT (by trivial)) e⟩
  refine wpAny_bind (D1.done _ _ _ (by rw [hend];exact st0) fun g2 e t2 he=>?_)
  exact hE g2 e _ (fun c o d1 d3 q=>t2 _ _ d3 (t1.extBut _ _ d1 q)) he
end
end L2
namespace L2
open PySem PySem.Spec PyProof.Rows
structure Z3 (h:Heap) (n l1 l2 l3:Nat) (xs ys zs:Array Value) (k:Nat):Prop where
 z:(IsZip h (n+5) (n+3) (n+4) .none∧fJ fun a b c=>cu h (n+4) a b c)∨fJ fun (T:Nat) (o:Obj) (bb:Bool)=>jM h (n+5) (n+3) (n+4) (rawInt T) bb∧h.get? T=some o∧n+6<T
 t:cu h (n+3) (.ref n) (.ref (n+1)) (.ref (n+2))
 a:bL h n l1 k true
 b:bL h (n+1) l2 k true
 c:bL h (n+2) l3 k true
 d:bV h l1 xs true
 e:bV h l2 ys true
 f:bV h l3 zs true
section
variable {prog:Program}{w:World}{A:Around}{E:Value→Shared→Prop}{s:Shared}
variable {n l1 l2 l3:Nat}{k:Nat}{xs ys zs:Array Value}
theorem Z3.keep {h h':Heap} (st:Z3 h n l1 l2 l3 xs ys zs k) (hl:l1<n∧l2<n∧l3<n) (kp:∀(c:Nat) o,c≠n+6→h.get? c=some o→h'.get? c=some o):Z3 h' n l1 l2 l3 xs ys zs k:=by
 refine ⟨?_,kp _ _ (by trivial) st.t,st.a.at fun o e=>kp _ o (by trivial) e,st.b.at fun o e=>kp _ o (by trivial) e,st.c.at fun o e=>kp _ o (by trivial) e,st.d.at fun o e=>kp _ o (by trivial) e,st.e.at fun o e=>kp _ o (by trivial) e,st.f.at fun o e=>kp _ o (by trivial) e⟩
 rcases st.z with ⟨h1,a,b,c,h2⟩ | ⟨T,o,bb,h1,h2,h3⟩
 ·exact .inl ⟨kp _ _ (by trivial) h1,a,b,c,kp _ _ (by trivial) h2⟩
 ·exact .inr ⟨T,o,bb,kp _ _ (by trivial) h1,kp _ _ (by trivial) h2,h3⟩
theorem zR {x y v:Value}{Q:Option Value→Shared→Prop} (hl:l1<n∧l2<n∧l3<n) (hsz:n+6<s.heap.objs.size)
 (st:Z3 s.heap n l1 l2 l3 xs ys zs k) (hh:A.handled=none) (hx:xs[k]?=some x) (hy:ys[k]?=some y) (hv:zs[k]?=some v)
 (hQ:∀h' tk,Z3 h' n l1 l2 l3 xs ys zs (k+1)→cu h' s.heap.objs.size x y v→h'.objs.size=s.heap.objs.size+1→(∀(c:Nat) o,c≠n+5→c≠n+4→c≠n→c≠n+1→c≠n+2→s.heap.get? c=some o→h'.get? c=some o)→Q (some (.ref s.heap.objs.size)) { s with heap:=h',toks:=tk }) :
 wpAny (model prog w) A (pyNext (.ref (n+5))) Q E s:=by
 rcases st.z with ⟨hz,a,b,c,hTO⟩ | ⟨T,o,bb,hz,hT,hn⟩
 ·have hT':s.TypeIs (.ref (n+5)) "zip" := ⟨_,hz,rfl⟩
  unfold pyNext
  refine wpAny_bind (wpAny_attempt (wpAny_callSpecial?_slot (name:=Str.ofString "__next__") hT' F.slot_zip_next (wpAny_call_entry F.slot_zip_next hT' F.entry_zip_next
   (AD hl hz st.t hTO hh st.a st.b st.c st.d st.e st.f hx hy hv fun h' tk zo t1 t2 t3 T' sz keep=>wpAny_pure ?_) (F.args_zip_next_1 _))))
  refine hQ h' tk ⟨.inr ⟨s.heap.objs.size,_,false,zo,T',hsz⟩,keep _ _ (by trivial) (by trivial) (by trivial) (by trivial) (by trivial) st.t,t1,t2,t3,st.d.at fun o e=>keep _ o (by trivial) (by trivial) (by trivial) (by trivial) (by trivial) e,st.e.at fun o e=>keep _ o (by trivial) (by trivial) (by trivial) (by trivial) (by trivial) e,st.f.at fun o e=>keep _ o (by trivial) (by trivial) (by trivial) (by trivial) (by trivial) e⟩ T' sz keep
 ·have hT':s.TypeIs (.ref (n+5)) "zip" := ⟨_,hz,rfl⟩
  unfold pyNext
  refine wpAny_bind (wpAny_attempt (wpAny_callSpecial?_slot (name:=Str.ofString "__next__") hT' F.slot_zip_next (wpAny_call_entry F.slot_zip_next hT' F.entry_zip_next
   (yV hl hz hT st.t hh st.a st.b st.c st.d st.e st.f hx hy hv fun h' tk zo t1 t2 t3 T' sz keep=>wpAny_pure ?_) (F.args_zip_next_1 _))))
  refine hQ h' tk ⟨.inr ⟨T,o,true,zo,keep _ _ (by trivial) (by trivial) (by trivial) (by trivial) hT,hn⟩,keep _ _ (by trivial) (by trivial) (by trivial) (by trivial) st.t,t1,t2,t3,st.d.at fun o e=>keep _ o (by trivial) (by trivial) (by trivial) (by trivial) e,st.e.at fun o e=>keep _ o (by trivial) (by trivial) (by trivial) (by trivial) e,st.f.at fun o e=>keep _ o (by trivial) (by trivial) (by trivial) (by trivial) e⟩ T' sz fun c o d1 _ d3 d4 d5 e=>keep c o d1 d3 d4 d5 e
theorem Ar {Q:Option Value→Shared→Prop} (hl:l1<n∧l2<n∧l3<n) (st:Z3 s.heap n l1 l2 l3 xs ys zs k) (hh:A.handled=none) (hend:xs.size=k)
 (hQ:∀h' tk,(∀(c:Nat) o,c≠n+5→c≠n→s.heap.get? c=some o→h'.get? c=some o)→Q none { s with heap:=h',toks:=tk }) :
 wpAny (model prog w) A (pyNext (.ref (n+5))) Q E s:=by
 obtain ⟨f0,bb,hz,hf⟩:bo fun f0 bb=>jM s.heap (n+5) (n+3) (n+4) f0 bb∧((f0=.none∧bb=false)∨∃T:Nat,f0=rawInt T∧∃o,s.heap.get? T=some o):=by
  rcases st.z with ⟨hz,_⟩ | ⟨T,o,bb,hz,hT,hn⟩
  ·exact ⟨_,_,hz,.inl ⟨rfl,rfl⟩⟩
  ·exact ⟨_,_,hz,.inr ⟨T,rfl,o,hT⟩⟩
 have hT':s.TypeIs (.ref (n+5)) "zip" := ⟨_,hz,rfl⟩
 unfold pyNext
 refine wpAny_bind (wpAny_attempt (wpAny_callSpecial?_slot (name:=Str.ofString "__next__") hT' F.slot_zip_next (wpAny_call_entry F.slot_zip_next hT' F.entry_zip_next
  (BO hh hl.1 hz hf st.t st.a st.d hend fun h' e tk hk he=>?_) (F.args_zip_next_1 _))))
 obtain ⟨o,ho,hc⟩:=he
 exact wpAny_bind (wpAny_isInstance (T := "StopIteration") (b:=true) ⟨o,ho,hc⟩ isSubtype_stop (wpAny_pure (hQ _ tk hk)))
end
section
variable {prog:Program}{w:World}{A:Around}{E:Value→Shared→Prop}{R:Result→Shared→Prop}
variable {n l1 l2 l3:Nat}{xs ys zs:Array Value}
def yo (h:Heap) (ts:List Nat) (xs ys zs:Array Value):Prop:=∀(i:Nat) t,ts[i]?=some t→fJ fun x y v=>xs[i]?=some x∧ys[i]?=some y∧zs[i]?=some v∧cu h t x y v
theorem yY (hl:l1<n∧l2<n∧l3<n) (hh:A.handled=none) (ly:ys.size=xs.size) (lz:zs.size=xs.size) (hz:xs.size≤4000) :
 ∀(r i:Nat) (ts:List Nat) (c:Nat) (s:Shared),xs.size - i=r→i≤xs.size→Z3 s.heap n l1 l2 l3 xs ys zs i→n+6<s.heap.objs.size→ts.length=i→(∀t∈ts,n+6<t)→ts.Nodup→yo s.heap ts xs ys zs→
   s.heap.get? (n+6)=some { cls:=.type "list",data:=.seq (ts.map Value.ref).toArray c }→
   (∀h' tk ts' c',ts'.length=xs.size→(∀t∈ts',n+6<t)→ts'.Nodup→yo h' ts' xs ys zs→h'.get? (n+6)=some { cls:=.type "list",data:=.seq (ts'.map Value.ref).toArray c' }→(∀(c:Nat) o,c<n→s.heap.get? c=some o→h'.get? c=some o)→(∀t∈ts',t∉ts→s.heap.get? t=none)→R (.ok (.ret .none)) { s with heap:=h',toks:=tk })→
   codeAny (model prog w) A (.builtin "list.extend.loop" ⟨[.ref (n+6),.ref (n+5),.none],[]⟩) R s:=by
 intro r
 induction r with
 | zero=>
  intro i ts c s hr hi st hs lt ht nd tr hS hR
  have e:i=xs.size:=by trivial
  refine codeAny_builtin F.entry_extend_loop ?_
  rw [A.under_plainId F.plain_extend_loop]
  show wpAny _ _ (pyNext (Value.ref (n+5)) >>= _) _ _ _
  refine wpAny_bind (Ar hl st (by simpa using hh) e.symm fun h' tk keep=>?_)
  refine wpAny_pure (hR h' tk ts c (by trivial) ht nd (fun j t hj=>?_) (keep _ _ (by trivial) (by trivial) hS) (fun b o hb q=>keep b o (by trivial) (by trivial) q) fun t h1 h2=>absurd h1 h2)
  obtain ⟨x,y,v,a1,a2,a3,a4⟩:=tr j t hj
  have:=ht t (List.mem_of_getElem? hj)
  exact ⟨x,y,v,a1,a2,a3,keep _ _ (by trivial) (by trivial) a4⟩
 | succ r ih=>
  intro i ts c s hr hi st hs lt ht nd tr hS hR
  have lt':i<xs.size:=by trivial
  have hx:xs[i]?=some xs[i]:=Array.getElem?_eq_getElem (by trivial)
  have hy:ys[i]?=some ys[i]:=Array.getElem?_eq_getElem (by trivial)
  have hv:zs[i]?=some zs[i]:=Array.getElem?_eq_getElem (by trivial)
  refine codeAny_builtin F.entry_extend_loop ?_
  rw [A.under_plainId F.plain_extend_loop]
  show wpAny _ _ (pyNext (Value.ref (n+5)) >>= _) _ _ _
  refine wpAny_bind (zR hl hs st (by simpa using hh) hx hy hv fun h' tk st' T' sz keep=>?_)
  have hS':=keep _ _ (by trivial) (by trivial) (by trivial) (by trivial) (by trivial) hS
  show wpAny _ _ (updateSeq (n+6) (·.push (.ref s.heap.objs.size)) >>= _) _ _ _
  refine wpAny_bind (wpAny_updateSeq (s:={ s with heap:=h',toks:=tk }) hS' rfl ?_)
  have e2:=Heap.get?_update_self (Obj.mapSeq (·.push (Value.ref s.heap.objs.size))) hS' rfl
  obtain ⟨c2,e3⟩:∃c2,(h'.update (n+6) (Obj.mapSeq (·.push (Value.ref s.heap.objs.size)))).get? (n+6)=some { cls:=.type "list",data:=.seq ((ts++[s.heap.objs.size]).map Value.ref).toArray c2 }:=by
   rw [e2]
   simp only [Obj.mapSeq,List.map_append,List.map_cons,List.map_nil,List.push_toArray]
   exact ⟨_,rfl⟩
  have oth:∀(b:Nat) o,b≠n+6→h'.get? b=some o→(h'.update (n+6) (Obj.mapSeq (·.push (Value.ref s.heap.objs.size)))).get? b=some o:=fun b o hb q=>(Heap.get?_update_other _ _ (aT (Ne.symm hb))).trans q
  have fr:s.heap.get? s.heap.objs.size=none:=Heap.get?_none_of_le (Nat.le_refl _)
  have old:∀t∈ts,t<s.heap.objs.size:=fun t hm=>by
   obtain ⟨j,hj⟩:=List.getElem?_of_mem hm
   obtain ⟨_,_,_,_,_,_,a4⟩:=tr j t hj
   exact Heap.lt_size a4
  refine wpAny_pure ⟨plainId_quiet F.plain_extend_loop _,ih (i+1) (ts++[s.heap.objs.size]) c2 _ (by trivial) (by trivial) (st'.keep hl oth) (by show n+6<(h'.update _ _).objs.size;rw [Heap.size_update,sz];trivial) (by rw [List.length_append,lt];rfl) (fun t hm=>?_) (List.nodup_append.mpr ⟨nd,by simp,fun a ha b hb e=>?_⟩) (fun j t hj=>?_) e3 fun h3 tk3 ts3 c3 l3' g3 n3 tr3 e4 k3 f3=>hR h3 tk3 ts3 c3 l3' g3 n3 tr3 e4 (fun b o hb q=>k3 b o hb (oth b o (by trivial) (keep b o (by trivial) (by trivial) (by trivial) (by trivial) (by trivial) q))) fun t h1 h2=>?_⟩
  ·rcases List.mem_append.mp hm with hm | hm
   ·exact ht t hm
   ·rw [List.mem_singleton.mp hm];exact hs
  ·rw [List.mem_singleton] at hb
   have:=old a ha
   rw [e,hb] at this
   exact absurd this (Nat.lt_irrefl _)
  ·by_cases hjl:j<ts.length
   ·rw [List.getElem?_append_left hjl] at hj
    obtain ⟨x,y,v,a1,a2,a3,a4⟩:=tr j t hj
    have:=ht t (List.mem_of_getElem? hj)
    exact ⟨x,y,v,a1,a2,a3,oth _ _ (by trivial) (keep _ _ (by trivial) (by trivial) (by trivial) (by trivial) (by trivial) a4)⟩
   ·have ej:j=i:=by
     have:=(List.getElem?_eq_some_iff.mp hj).1
     rw [List.length_append] at this
     simp at this
     trivial
    subst ej
    rw [List.getElem?_append_right (by trivial),lt,Nat.sub_self] at hj
    simp at hj
    subst hj
    exact ⟨_,_,_,hx,hy,hv,oth _ _ (by trivial) T'⟩
  ·by_cases hm:t=s.heap.objs.size
   ·rw [hm];exact fr
   ·have q:=f3 t h1 (fun z=>by
     rcases List.mem_append.mp z with z | z
     ·exact h2 z
     ·exact hm (List.mem_singleton.mp z))
    cases e:s.heap.get? t with
    | none=>rfl
    | some o=>
     have hlt:=Heap.lt_size e
     have g:=g3 t h1
     have:=oth t o (by trivial) (keep t o (by trivial) (by trivial) (by trivial) (by trivial) (by trivial) e)
     rw [show (h'.update (n+6) (Obj.mapSeq (·.push (Value.ref s.heap.objs.size)))).get? t=none from q] at this
     cases this
end
theorem vY:typeLookup (.type "zip") "__len__" = pure none:=am_miss_of_fast (by kernel_rfl)
theorem uQ:typeLookup (.type "zip") "__length_hint__" = pure none:=am_miss_of_fast (by kernel_rfl)
theorem tz (a b c:Value):checkTypeCall "zip" ⟨[a,b,c],[]⟩=pure ():=by kernel_rfl
theorem uP (a b c:Value):checkBuiltinCall "zip.__new__" ⟨[.type "zip",a,b,c],[]⟩=pure ():=by kernel_rfl
theorem pP (a b c d:Value):argsOk "object.__init__" ⟨[a,b,c,d],[]⟩:=by
 unfold argsOk;rw [signature?_of (id := "object.__init__") (n:=['_','_','t','i','n','i','_','_']) (o:=['t','c','e','j','b','o']) (by kernel_rfl) F.owner_object];kernel_rfl
abbrev xC (h:Heap) (l1:Addr):Heap:=h.push { cls:=.type "list_iterator",data:=.fields #[.ref l1,.int 0 0] }
abbrev xu (h:Heap) (l1 l2:Addr):Heap:=(xC h l1).push { cls:=.type "list_iterator",data:=.fields #[.ref l2,.int 0 0] }
abbrev Bc (h:Heap) (l1 l2 l3:Addr):Heap:=(xu h l1 l2).push { cls:=.type "list_iterator",data:=.fields #[.ref l3,.int 0 0] }
abbrev Bi (h:Heap) (l1 l2 l3:Addr):Heap:=(Bc h l1 l2 l3).push { cls:=.type "tuple",data:=.seq #[.ref h.objs.size,.ref (xC h l1).objs.size,.ref (xu h l1 l2).objs.size] }
abbrev Bm (h:Heap) (l1 l2 l3:Addr):Heap:=(Bi h l1 l2 l3).push { cls:=.type "tuple",data:=.seq #[.none,.none,.none] }
abbrev sT (h:Heap) (l1 l2 l3:Addr):Heap:=(Bm h l1 l2 l3).push { cls:=.type "zip",data:=.fields #[.none,.bool false,.bool false,.ref (Bc h l1 l2 l3).objs.size,.ref (Bi h l1 l2 l3).objs.size] }
set_option maxHeartbeats 8000000 in
theorem BP (l1 l2 l3:Addr) (xs ys zs:Array Value) :
 Meets (Builtin.«zip.__new__» ⟨[.type "zip",.ref l1,.ref l2,.ref l3],[]⟩) (fun _ R s=>bV s.heap l1 xs true∧bV s.heap l2 ys true∧bV s.heap l3 zs true∧R (.ok (.ret (.ref (Bm s.heap l1 l2 l3).objs.size))) { s with heap:=sT s.heap l1 l2 l3 }):=
 .of_wp fun prog w A R s h=>by
  obtain ⟨hp,g,d,tk,os⟩:=s;obtain ⟨q1,q2,q3,h⟩:=h
  have hsub:=sub_zip
  have L2':bV (Shared.heap ⟨xC hp l1,g,d,tk,os⟩) l2 ys true:=bV.at q2 fun o e=>Heap.get?_push_of_some _ e
  have L3':bV (Shared.heap ⟨xu hp l1 l2,g,d,tk,os⟩) l3 zs true:=bV.at q3 fun o e=>Heap.get?_push_of_some _ (Heap.get?_push_of_some _ e)
  have g1:Heap.IsList (Shared.heap ⟨hp,g,d,tk,os⟩) l1 xs:=q1
  have g2:Heap.IsList (Shared.heap ⟨xC hp l1,g,d,tk,os⟩) l2 ys:=L2'
  have g3:Heap.IsList (Shared.heap ⟨xu hp l1 l2,g,d,tk,os⟩) l3 zs:=L3'
  wp_walk using wpAny_pyIter_list g1,wpAny_pyIter_list g2,wpAny_pyIter_list g3
  exact ⟨_,rfl,h⟩
section
variable {prog:Program}{w:World}{A:Around}{E:Value→Shared→Prop}{s:Shared}
theorem zT {l1 l2 l3:Addr}{xs ys zs:Array Value}{Q:Value→Shared→Prop} (q1:bV s.heap l1 xs true) (q2:bV s.heap l2 ys true) (q3:bV s.heap l3 zs true)
 (h:∀h',Z3 h' s.heap.objs.size l1 l2 l3 xs ys zs 0→h'.objs.size=s.heap.objs.size+6→(∀c o,s.heap.get? c=some o→h'.get? c=some o)→IsZip h' (s.heap.objs.size+5) (s.heap.objs.size+3) (s.heap.objs.size+4) .none→Q (.ref (s.heap.objs.size+5)) { s with heap:=h' }) :
 wpAny (model prog w) A (call (.type "zip") [.ref l1,.ref l2,.ref l3]) Q E s:=by
 refine callType_new F.called_zip (by decide) (tz _ _ _) (uP _ _ _) (fun obj=>pP obj _ _ _) F.entry_zip_new (BP l1 l2 l3 xs ys zs) ⟨q1,q2,q3,?_⟩
 have s1:(xC s.heap l1).objs.size=s.heap.objs.size+1:=Heap.size_push ..
 have s2:(xu s.heap l1 l2).objs.size=s.heap.objs.size+2:=by rw [Heap.size_push,s1]
 have s3:(Bc s.heap l1 l2 l3).objs.size=s.heap.objs.size+3:=by rw [Heap.size_push,s2]
 have s4:(Bi s.heap l1 l2 l3).objs.size=s.heap.objs.size+4:=by rw [Heap.size_push,s3]
 have s5:(Bm s.heap l1 l2 l3).objs.size=s.heap.objs.size+5:=by rw [Heap.size_push,s4]
 have s6:(sT s.heap l1 l2 l3).objs.size=s.heap.objs.size+6:=by rw [Heap.size_push,s5]
 have g6:(sT s.heap l1 l2 l3).get? (Bm s.heap l1 l2 l3).objs.size=some _:=Heap.get?_push_size _ rfl
 have g5:(sT s.heap l1 l2 l3).get? (Bi s.heap l1 l2 l3).objs.size=some _:=Heap.get?_push_of_some _ (Heap.get?_push_size _ rfl)
 have g4:(sT s.heap l1 l2 l3).get? (Bc s.heap l1 l2 l3).objs.size=some _:=Heap.get?_push_of_some _ (Heap.get?_push_of_some _ (Heap.get?_push_size _ rfl))
 have g3:(sT s.heap l1 l2 l3).get? (xu s.heap l1 l2).objs.size=some _:=Heap.get?_push_of_some _ (Heap.get?_push_of_some _ (Heap.get?_push_of_some _ (Heap.get?_push_size _ rfl)))
 have g2:(sT s.heap l1 l2 l3).get? (xC s.heap l1).objs.size=some _:=Heap.get?_push_of_some _ (Heap.get?_push_of_some _ (Heap.get?_push_of_some _ (Heap.get?_push_of_some _ (Heap.get?_push_size _ rfl))))
 have g1:(sT s.heap l1 l2 l3).get? s.heap.objs.size=some _:=Heap.get?_push_of_some _ (Heap.get?_push_of_some _ (Heap.get?_push_of_some _ (Heap.get?_push_of_some _ (Heap.get?_push_of_some _ (Heap.get?_push_size _ rfl)))))
 have up:∀c o,s.heap.get? c=some o→(sT s.heap l1 l2 l3).get? c=some o:=fun c o x=>Heap.get?_push_of_some _ (Heap.get?_push_of_some _ (Heap.get?_push_of_some _ (Heap.get?_push_of_some _ (Heap.get?_push_of_some _ (Heap.get?_push_of_some _ x)))))
 show _∧_
 rw [s3,s4,s5] at g6
 rw [s1,s2,s3] at g4
 rw [s4] at g5
 rw [s2] at g3
 rw [s1] at g2
 rw [s5]
 exact ⟨⟨_,g6,rfl⟩,h _ ⟨.inl ⟨g6,_,_,_,g5⟩,g4,⟨_,g1,rfl,rfl⟩,⟨_,g2,rfl,rfl⟩,⟨_,g3,rfl,rfl⟩,q1.at fun o e=>up _ o e,q2.at fun o e=>up _ o e,q3.at fun o e=>up _ o e⟩ s6 up g6⟩
set_option maxHeartbeats 1000000 in
theorem u8 {n l1 l2 l3:Nat}{xs ys zs:Array Value}{Q:Value→Shared→Prop} (hl:l1<n∧l2<n∧l3<n) (st:Z3 s.heap n l1 l2 l3 xs ys zs 0) (hz:IsZip s.heap (n+5) (n+3) (n+4) .none) (hs:s.heap.objs.size=n+6) (hh:A.handled=none) (ly:ys.size=xs.size) (lz:zs.size=xs.size) (h4:xs.size≤4000)
 (h:∀h' tk ts' c',ts'.length=xs.size→(∀t∈ts',n+6<t)→ts'.Nodup→yo h' ts' xs ys zs→h'.get? (n+6)=some { cls:=.type "list",data:=.seq (ts'.map Value.ref).toArray c' }→(∀(c:Nat) o,c<n→s.heap.get? c=some o→h'.get? c=some o)→Q (.ref (n+6)) { s with heap:=h',toks:=tk }) :
 wpAny (model prog w) A (call (.type "list") [.ref (n+5)]) Q E s:=by
 refine callType_codes (Q₁:=fun obj s₁=>obj=.ref s.heap.objs.size∧s₁={ s with heap:=s.heap.push { cls:=.type "list",data:=.seq #[] } }) F.called_list (F.typeCall_list_1 _) F.entry_list_init (code_list_new _ ⟨rfl,rfl⟩) fun obj s₁ h₁=>?_
 obtain ⟨rfl,rfl⟩:=h₁
 have hS:(s.heap.push { cls:=.type "list",data:=.seq #[] }).get? (n+6)=some { cls:=.type "list",data:=.seq #[] }:=by rw [←hs];exact Heap.get?_push_size _ rfl
 rw [hs]
 refine ⟨⟨_,hS,rfl⟩,F.args_list_init_2 _ _,?_⟩
 have st1:Z3 (s.heap.push { cls:=.type "list",data:=.seq #[] }) n l1 l2 l3 xs ys zs 0:=st.keep hl fun c o _ e=>Heap.get?_push_of_some _ e
 show wpAny _ _ (do let old ←Builtin.List.listItems (.ref (n+6));Builtin.List.listUpdate (.ref (n+6)) (fun _=>#[]);letGo old.toList.reverse;Builtin.List.listExtendWith (.ref (n+6)) (.ref (n+5)) .none) _ _ _
 refine wpAny_bind ?_
 unfold Builtin.List.listItems
 refine wpAny_bind (wpAny_seqItems hS rfl (wpAny_pure ?_))
 show wpAny _ _ (updateSeq (n+6) (fun _=>#[]) >>= fun _=>letGo (#[]:Array Value).toList.reverse >>= fun _=>Builtin.List.listExtendWith (.ref (n+6)) (.ref (n+5)) .none) _ _ _
 refine wpAny_bind (wpAny_updateSeq hS rfl ?_)
 have hS₂:=Heap.get?_update_self (Obj.mapSeq (fun _=>(#[]:Array Value))) hS rfl
 have oth:∀(b:Nat) o,b≠n+6→(s.heap.push { cls:=.type "list",data:=.seq #[] }).get? b=some o→((s.heap.push { cls:=.type "list",data:=.seq #[] }).update (n+6) (Obj.mapSeq (fun _=>(#[]:Array Value)))).get? b=some o:=
  fun b o hb e=>(Heap.get?_update_other _ _ (aT (Ne.symm hb))).trans e
 refine wpAny_bind (wpAny_letGo ?_)
 have st2:=st1.keep hl oth
 have hz2:=oth _ _ (by trivial) (Heap.get?_push_of_some { cls:=.type "list",data:=.seq #[] } hz)
 unfold Builtin.List.listExtendWith
 refine wpAny_bind (wpAny_typeOf (T := "zip") ⟨_,hz2,rfl⟩ ?_)
 have h1:Builtin.List.listSameRef (.ref (n+6)) (.ref (n+5))=false:=by simp [Builtin.List.listSameRef]
 have h2:(Value.type "zip" == Value.type "list")=false:=by decide
 have h3:(Value.type "zip" == Value.type "tuple")=false:=by decide
 simp only [h1,h2,h3,Bool.or_false,Bool.false_eq_true,if_false]
 refine wpAny_bind (wpAny_pyIter_zip hz2 ?_)
 refine wpAny_bind (wpAny_holding ?_)
 unfold Builtin.List.listLengthHint
 refine wpAny_bind (wpAny_specialOf (T := "zip") ⟨_,hz2,rfl⟩ vY ?_)
 refine wpAny_ite_split (fun hab=>absurd hab (by decide)) (fun _=>?_)
 refine wpAny_ite_split (fun hab=>absurd hab (by decide)) (fun _=>?_)
 refine wpAny_bind (wpAny_specialOf (T := "zip") ⟨_,hz2,rfl⟩ uQ ?_)
 refine wpAny_pure ?_
 simp only [Bool.true_or,if_true]
 refine wpAny_bind (wpAny_rule ?_)
 refine wpAny_bind ?_
 show wpAny _ _ (updateSeq (n+6) (·.push .none) >>= fun _=>updateSeq (n+6) (·.pop)) _ _ _
 refine wpAny_bind (wpAny_updateSeq hS₂ rfl ?_)
 have hS₃:=Heap.get?_update_self (Obj.mapSeq (·.push Value.none)) hS₂ rfl
 refine wpAny_updateSeq (hz:=by seq_fits) hS₃ rfl ?_
 have hS₄:=Heap.get?_update_self (Obj.mapSeq (·.pop)) hS₃ rfl
 obtain ⟨c4,e4⟩:∃c4,((((s.heap.push { cls:=.type "list",data:=.seq #[] }).update (n+6) (Obj.mapSeq (fun _=>(#[]:Array Value)))).update (n+6) (Obj.mapSeq (·.push Value.none))).update (n+6) (Obj.mapSeq (·.pop))).get? (n+6)=some { cls:=.type "list",data:=.seq (([]:List Nat).map Value.ref).toArray c4 }:=by
  rw [hS₄]
  simp only [Obj.mapSeq,List.map_nil]
  exact ⟨_,rfl⟩
 have oth4:∀(b:Nat) o,b≠n+6→(s.heap.push { cls:=.type "list",data:=.seq #[] }).get? b=some o→((((s.heap.push { cls:=.type "list",data:=.seq #[] }).update (n+6) (Obj.mapSeq (fun _=>(#[]:Array Value)))).update (n+6) (Obj.mapSeq (·.push Value.none))).update (n+6) (Obj.mapSeq (·.pop))).get? b=some o:=
  fun b o hb e=>(Heap.get?_update_other _ _ (aT (Ne.symm hb))).trans ((Heap.get?_update_other _ _ (aT (Ne.symm hb))).trans (oth b o hb e))
 refine wpAny_pure ⟨plainId_quiet F.plain_extend_loop _,?_⟩
 refine yY hl (by simpa using hh) ly lz h4 xs.size 0 [] c4 _ rfl (Nat.zero_le _) (st1.keep hl oth4) (by show n+6<Array.size _;rw [Heap.size_update,Heap.size_update,Heap.size_update,Heap.size_push,hs];trivial) rfl (fun t ht=>(by cases ht)) List.nodup_nil (fun j t hj=>(by simp at hj)) e4 fun h' tk ts' c' l g nd tr e k f=>?_
 exact ⟨rfl,h h' tk ts' c' l g nd tr e fun c o hc q=>k c o hc (oth4 c o (by trivial) (Heap.get?_push_of_some _ q))⟩
end
def ur (H:Hp) (N:Addr→Option HO):Hp:=fun b=>match N b with | some o=>some o | none=>H b
theorem rA {H:Hp}{N:Addr→Option HO}{b:Addr}{o:HO} (h:N b=some o):ur H N b=some o:=by unfold ur;rw [h]
theorem nY {H:Hp}{N:Addr→Option HO}{b:Addr} (h:N b=none):ur H N b=H b:=by unfold ur;rw [h]
section
variable {X:Cx}{pins:List (Addr×Obj)}{σ:St}{H:Hp}{s:Shared}{h':Heap}
theorem af.many {t':Nat}{N:Addr→Option HO} (I:af X pins σ H s) (k:∀b u,s.heap.get? b=some u→h'.get? b=some u)
 (hN:∀b o,N b=some o→s.heap.objs.size≤b) (new:∀b o,N b=some o→bh X.prog X.w (ur H N) h' b o):af X pins σ (ur H N) { s with heap:=h',toks:=t' }:=by
 have old:∀b,b<s.heap.objs.size→N b=none:=fun b hb=>by
  cases e:N b with
  | none=>rfl
  | some o=>exact absurd (Nat.lt_of_lt_of_le hb (hN b o e)) (Nat.lt_irrefl _)
 have hs:∀b u,H b=some u→ur H N b=some u:=fun b u e=>by rw [nY (old b (I.hok.lt e))];exact e
 refine I.step (g':=s.gens) (d':=s.drawn) (ch:=[]) (fun b hb=>(by cases hb)) (fun b o _ _ _ e _=>k b o e) (fun b o _ _ _ e _=>⟨o.slots,k b o e⟩) (fun b o _ e n=>?_)
  (fun b o _ e=>⟨o,k b o e⟩) (fun b xs e=>hs b _ e) (fun b o u e=>hs b _ e) (fun b ps e=>⟨#[],by rw [hs b _ e];simp⟩) (fun m hm=>?_) (fun b u e=>?_) I.bare
 ·rw [nY (old b (Heap.lt_size e))];exact n
 ·obtain ⟨o,es,ep,ho,r⟩:=hm
  exact ⟨o,es,ep,k _ o ho,r⟩
 ·cases hb:N b with
  | some o=>
   rw [rA hb] at e
   cases e
   exact new b _ hb
  | none=>
   rw [nY hb] at e
   exact (I.hok b u e).stay (fun c v hc q=>k c v q) (fun c q=>hs c _ q) fun c xs q=>hs c _ q
end
def Cs (K:PySem.W.Frag) (ta:TA):TE:=fun σ H Q=>ta σ H fun vs H1=>xF fun (a1 a2 a3:Addr) (xs ys zs:List V)=>vs=[.ref a1,.ref a2,.ref a3]∧ax K H1 a1 xs∧ax K H1 a2 ys∧ax K H1 a3 zs∧ys.length=xs.length∧zs.length=xs.length∧xs.length≤4000∧
 ∀(l:Addr) (ts:List Addr) (H':Hp),ak H1 H'→H1 l=none→H' l=some (.lst (ts.map V.ref))→ts.length=xs.length→(∀(i:Nat) t,ts[i]?=some t→fJ fun x y z=>xs[i]?=some x∧ys[i]?=some y∧zs[i]?=some z∧H' t=some (.tup [x,y,z]))→Q (.ref l) H'
section
variable {X:Cx}{K:PySem.W.Frag}{a b c:Expr}{ta:TA}{p1 p2 p3 p4:Pos}
theorem zV (hc:X.calm=true) (hg1:Gl X "list") (hm1:X.mg "list" = none) (hg2:Gl X "zip") (hm2:X.mg "zip" = none) (ha:PA X [a,b,c] ta) (ek:X.K=K:=by rfl) (hs:starEach [a,b,c] X.env=[(false,eval a X.env),(false,eval b X.env),(false,eval c X.env)]:=by rfl) (hs2:starEach [b,c] X.env=[(false,eval b X.env),(false,eval c X.env)]:=by rfl)
 (hs3:starEach [Expr.Call (.Name "zip" p2) [a,b,c] [] p3] X.env=[(false,eval (Expr.Call (.Name "zip" p2) [a,b,c] [] p3) X.env)]:=by rfl) :
 PE X (.Call (.Name "list" p1) [.Call (.Name "zip" p2) [a,b,c] [] p3] [] p4) (Cs K ta):=by
 subst ek
 intro pins s σ H Q I h
 refine wpAny_Call_Name_kw (f8 I hg1 hm1 cX ?_ (by decide) (by decide))
 refine PyProof.Rows.callWith_type1 ?_ hs3 rfl
 rw [hs3]
 show wpAny _ _ (spliced ((false,eval (Expr.Call (.Name "zip" p2) [a,b,c] [] p3) X.env) :: [])) _ _ s
 refine Calls.spliced_cons ?_
 refine Call_ (f8 I hg2 hm2 wE (PyProof.Rows.callWith_type1 (aW (ha p3 pins s σ H _ I h) fun us s1 ⟨vs,H1,I1,r1,q1⟩=>?_) (by rw [hs,hs2]) (by rw [hs2];rfl)))
 obtain ⟨a1,a2,a3,xs,ys,zs,rfl,p1,p2,p3,ly,lz,h4,q⟩:=q1
 obtain ⟨u1,u2,u3,rfl,ru1,ru2,ru3⟩:fJ fun u1 u2 u3=>us=[u1,u2,u3]∧aX (.ref a1) u1∧aX (.ref a2) u2∧aX (.ref a3) u3:=by
  cases r1 with
  | cons r1 r=>
  cases r with
  | cons r2 r=>
  cases r with
  | cons r3 r=>
  cases r
  exact ⟨_,_,_,rfl,r1,r2,r3⟩
 obtain rfl:u1=.ref a1:=ru1
 obtain rfl:u2=.ref a2:=ru2
 obtain rfl:u3=.ref a3:=ru3
 obtain ⟨its1,rv1,k1⟩:=I1.seqC (c:=true) p1
 obtain ⟨its2,rv2,k2⟩:=I1.seqC (c:=true) p2
 obtain ⟨its3,rv3,k3⟩:=I1.seqC (c:=true) p3
 have d1:=k1.lt
 have d2:=k2.lt
 have d3:=k3.lt
 have l1:=rv1.length
 have l2:=rv2.length
 have l3:=rv3.length
 refine zT k1 k2 k3 fun h' st sz hk hz=>Calls.spliced_nil ?_
 refine u8 (s:={ s1 with heap:=h' }) ⟨d1,d2,d3⟩ st hz sz (I1.ok.hd hc) (by simp;trivial) (by simp;trivial) (by simp;trivial) fun h2 tk ts c' lt gt nd tr hL kp=>?_
 have lts:ts.length=xs.length:=by rw [lt];simp [l1]
 let N:Addr→Option HO:=fun b=>if b=s1.heap.objs.size+6 then some (.lst (ts.map V.ref)) else if b∈ts then some (.tup [xs.getD (ts.idxOf b) .non,ys.getD (ts.idxOf b) .non,zs.getD (ts.idxOf b) .non]) else none
 have N6:N (s1.heap.objs.size+6)=some (.lst (ts.map V.ref)):=if_pos rfl
 have Nt:∀(i:Nat) t,ts[i]?=some t→N t=some (.tup [xs.getD i .non,ys.getD i .non,zs.getD i .non]):=fun i t hi=>by
  have hm:=List.mem_of_getElem? hi
  have hix:ts.idxOf t=i:=by
   obtain ⟨hj,e⟩:=List.getElem?_eq_some_iff.mp hi
   have h1:ts.idxOf t<ts.length:=List.idxOf_lt_length_of_mem hm
   exact jO nd h1 hj (by rw [List.getElem_idxOf h1,e])
  show (if _ then _ else _)=_
  rw [if_neg (fun z=>absurd (gt t hm) (by rw [z];exact Nat.lt_irrefl _)),if_pos hm,hix]
 have k9:∀b u,s1.heap.get? b=some u→h2.get? b=some u:=fun b u e=>kp b u (Heap.lt_size e) (hk b u e)
 have vals:∀ts:List Nat,aM (ts.map V.ref) (ts.map Value.ref):=fun ts=>by
  induction ts with
  | nil=>exact .nil
  | cons t r ih=>exact .cons rfl ih
 have get':∀{xs:List V}{i:Nat},i<xs.length→xs[i]?=some (xs.getD i .non):=fun {xs i} hi=>by simp [List.getElem?_eq_getElem hi]
 have I3:=I1.many (h':=h2) (t':=tk) (N:=N) k9 (fun b o e=>?_) (fun b o e=>?_)
 ·refine ⟨.ref (s1.heap.objs.size+6),ur H1 N,I3,rfl,q _ ts _ (fun b u e=>?_) (I1.hok.fresh (Nat.le_add_right _ _)) (rA N6) lts fun i t hi=>?_⟩
  ·rw [nY]
   ·exact e
   ·have:=I1.hok.lt e
    show (if _ then _ else _)=_
    rw [if_neg (fun z=>absurd this (by rw [z];exact Nat.not_lt.mpr (Nat.le_add_right _ _))),if_neg fun hm=>?_]
    exact absurd this (Nat.not_lt.mpr (Nat.le_trans (Nat.le_add_right _ _) (Nat.le_of_lt (gt b hm))))
  ·have hi':i<xs.length:=by rw [←lts];exact (List.getElem?_eq_some_iff.mp hi).1
   exact ⟨_,_,_,get' hi',get' (by trivial),get' (by trivial),rA (Nt i t hi)⟩
 ·by_cases h6:b=s1.heap.objs.size+6
  ·rw [h6];exact Nat.le_add_right _ _
  ·have e':(if b∈ts then some (HO.tup [xs.getD (ts.idxOf b) .non,ys.getD (ts.idxOf b) .non,zs.getD (ts.idxOf b) .non]) else none)=some o:=by rw [←e];exact (if_neg h6).symm
   by_cases hm:b∈ts
   ·exact Nat.le_trans (Nat.le_add_right _ _) (Nat.le_of_lt (gt b hm))
   ·rw [if_neg hm] at e';cases e'
 ·by_cases h6:b=s1.heap.objs.size+6
  ·subst h6
   rw [N6] at e
   cases e
   exact ⟨by rw [List.length_map,lts,sizeLine_eq];trivial,ts.map Value.ref,c',vals ts,hL⟩
  ·have e':(if b∈ts then some (HO.tup [xs.getD (ts.idxOf b) .non,ys.getD (ts.idxOf b) .non,zs.getD (ts.idxOf b) .non]) else none)=some o:=by rw [←e];exact (if_neg h6).symm
   by_cases hm:b∈ts
   ·rw [if_pos hm] at e'
    cases e'
    have h1:ts.idxOf b<ts.length:=List.idxOf_lt_length_of_mem hm
    obtain ⟨x,y,v,a1,a2,a3,a4⟩:=tr (ts.idxOf b) b (by rw [List.getElem?_eq_getElem h1,List.getElem_idxOf h1])
    obtain ⟨x',ex,rx⟩:=rv1.get (get' (xs:=xs) (i:=ts.idxOf b) (by trivial))
    obtain ⟨y',ey,ry⟩:=rv2.get (get' (xs:=ys) (i:=ts.idxOf b) (by trivial))
    obtain ⟨v',ev,rv⟩:=rv3.get (get' (xs:=zs) (i:=ts.idxOf b) (by trivial))
    have b1:x'=x:=Option.some.inj (ex.symm.trans (by simpa using a1))
    have b2:y'=y:=Option.some.inj (ey.symm.trans (by simpa using a2))
    have b3:v'=v:=Option.some.inj (ev.symm.trans (by simpa using a3))
    subst b1 b2 b3
    exact ⟨by show 3≤sizeLine;rw [sizeLine_eq];decide,[x',y',v'],.cons rx (.cons ry (.cons rv .nil)),⟨_,a4,rfl,_,rfl⟩,_,a4,rfl⟩
   ·rw [if_neg hm] at e';cases e'
end
end L2
namespace L2
open PySem PySem.Spec PyProof.Rows
theorem tK:typeLookup (.type "list") "keys" = pure none:=am_miss_of_fast (by kernel_rfl)
section
variable {prog:Program}{w:World}{A:Around}{E:Value→Shared→Prop}{s:Shared}
theorem qL {a:Addr}{xs:Array Value}{k:Nat}{name:Str}{Q:Option Value→Shared→Prop} (hmiss:typeLookup (.type "list") name=pure none) (hname:(["__module__", "__name__", "__qualname__", "__doc__", "__annotations__"]:List Str).contains name=false) (hsz:name.length+100≤sizeLine)
 (hx:s.heap.get? a=some { cls:=.type "list",dict:=none,data:=.seq xs k,slots:=#[] }) (hA:A.handled=none)
 (h:∀h' tk,(∀b o,s.heap.get? b=some o→h'.get? b=some o)→Q none { s with heap:=h',toks:=tk }) :
 wpAny (model prog w) A (getAttr? (.ref a) name) Q E s:=by
 obtain ⟨hp,g,d,tk,os⟩:=s
 have hT:∀tk',(⟨hp,g,d,tk',os⟩:Shared).TypeIs (.ref a) "list" := fun _=>⟨_,hx,rfl⟩
 have f1:=sub_AttributeError
 have f3:=F.slot_list_getattribute.lookup
 have f4:=F.slot_list_getattribute.bind (.ref a)
 have f5:=am_list_getattr_none
 unfold getAttr? getAttrBy? getAttrBy
 repeat (any_goals (first | assumption | exact hT _ | ((with_reducible show wpAny _ _ (call (Value.builtin "list.__getattribute__") _ _) _ _ _);refine call_meets F.slot_list_getattribute (hT _) am_entry_list_getattribute (F.args_list_getattribute_2 _ _) (meets_getattribute_miss_list a xs k #[] name _ hmiss hname hsz) ⟨hx,hA,fun h' tk' e hx'=>?_⟩) | wp_step))
 obtain ⟨t',u',he⟩:=hx'.there
 show wpAny _ _ (getattributeRaised _ _ _ _ _ _ _) _ _ _
 unfold getattributeRaised
 repeat (any_goals (first | assumption | wp_step))
 exact h _ _ hx'.keeps
end
section
variable {prog:Program}{w:World}{A:Around}{E:Value→Shared→Prop}{R:Result→Shared→Prop}
variable {l it d:Nat}{vs:Array Value}{ks:List aU}{us:List Value}
def Hu (h:Heap) (vs:Array Value) (ks:List aU) (us:List Value) (it d:Nat):Prop:=∀(i:Nat),i<ks.length→xF fun (T:Nat) (x y:Value) (c:Nat) (sl:Array (Option Value)) (dd:Option Addr)=>vs[i]?=some (.ref T)∧h.get? T=some ⟨.type "tuple",dd,.seq #[x,y] c,sl⟩∧us[i]?=some y∧(∀k,ks[i]?=some k→fv k x=true)∧T≠it∧T≠d
theorem yn (n1:l≠it∧l≠d∧it≠d) (hh:A.handled=none) (lv:vs.size=ks.length) (lu:us.length=ks.length) (nd:ks.Nodup) (hz:ks.length≤4000) :
 ∀(r i:Nat) (tk0:Tok) (s:Shared),ks.length - i=r→i≤ks.length→s.heap.IsListIter it l i→s.heap.IsList l vs→Hu s.heap vs ks us it d→s.heap.DictOf (bQ prog w) d ((ks.zip us).take i)→
   (∀h' tk,h'.DictOf (bQ prog w) d (ks.zip us)→(∀(c:Nat) o,c≠it→c≠d→s.heap.get? c=some o→h'.get? c=some o)→R (.ok (.ret .none)) { s with heap:=h',toks:=tk })→
   codeAny (model prog w) A (.builtin "dict.update.loop" ⟨[.ref d,.ref it,.int (i:Nat) tk0,.none],[]⟩) R s:=by
 have W:=(Walks.list (prog:=prog) (w:=w) (A:=A.in1) hh it l n1.1 vs)
 intro r
 induction r with
 | zero=>
  intro i tk0 s hr hi st hl pr hD hR
  have e:i=ks.length:=by trivial
  have lz:(ks.zip us).length=ks.length:=by simp [lu]
  rw [e,←lz,List.take_length] at hD
  refine codeAny_builtin gY ?_
  rw [A.under_plainId cV]
  show wpAny _ _ (pyNext (Value.ref it) >>= _) _ _ _
  refine wpAny_bind (W.done s _ _ (by rw [lv,←e];exact ⟨st,hl⟩) fun h' tk keep=>?_)
  show wpAny _ _ (Builtin.Dict.addKeywords d [] >>= _) _ _ _
  refine wpAny_bind (wpAny_pure (wpAny_pure ?_))
  obtain ⟨o,es,ep,ho,q⟩:=hD
  have kp:∀(c:Nat) o,c≠it→s.heap.get? c=some o→h'.get? c=some o:=fun c o hc e=>keep c o (by simpa using hc) e
  exact hR h' tk ⟨o,es,ep,kp d o (Ne.symm n1.2.2) ho,q⟩ fun c o d1 _ e=>kp c o d1 e
 | succ r ih=>
  intro i tk0 s hr hi st hl pr hD hR
  have lt:i<ks.length:=by trivial
  obtain ⟨T,x,y,c,sl,dd,e1,e2,e3,e4,e5,e6⟩:=pr i lt
  have kv:=e4 ks[i] (List.getElem?_eq_getElem lt)
  refine codeAny_builtin gY ?_
  rw [A.under_plainId cV]
  show wpAny _ _ (pyNext (Value.ref it) >>= _) _ _ _
  refine wpAny_bind (W.item i s _ _ (by trivial) ⟨st,hl⟩ fun v h' tk pv st' keep=>?_)
  obtain rfl:v=.ref T:=Option.some.inj ((show vs[i]?=some v from pv).symm.trans e1)
  have kp:∀(c:Nat) o,c≠it→s.heap.get? c=some o→h'.get? c=some o:=fun c o hc e=>keep c o (by simpa using hc) e
  have hD':h'.DictOf (bQ prog w) d ((ks.zip us).take i):=let ⟨o,es,ep,ho,q⟩:=hD;⟨o,es,ep,kp d o (Ne.symm n1.2.2) ho,q⟩
  have T':=kp T _ e5 e2
  refine wpAny_bind (wpAny_holding (wpAny_bind (wpAny_tryCatch ?_)))
  unfold Builtin.Dict.pairItems
  refine wpAny_bind (wpAny_typeOf (show Shared.TypeIs { s with heap:=h',toks:=tk } (.ref T) "tuple" from ⟨_,T',rfl⟩) ?_)
  rw [if_pos (by decide)]
  refine wpAny_bind (wpAny_seqItems T' rfl (wpAny_pure ?_))
  show wpAny _ _ (holding [x,y] (dictSet d x y)) _ _ _
  have hu:us[i]'(by trivial)=y:=(List.getElem?_eq_some_iff.mp e3).2
  have nk:ks[i]∉((ks.zip us).take i).map (·.1):=by
   rw [List.map_take,vT (by simp [lu])]
   intro q
   obtain ⟨j,hj,e⟩:=List.getElem_of_mem q
   rw [List.length_take] at hj
   rw [List.getElem_take] at e
   have:=jO nd (by trivial) lt e
   trivial
  have lz:((ks.zip us).take i).length≤sizeLine:=by rw [List.length_take,sizeLine_eq];simp;trivial
  refine wpAny_holding (wpAny_dictSet_pairs (k:=ks[i]) kv hD' (hsz:=lz) fun h2 hD2 sb=>?_)
  rw [xP nk] at hD2
  have nx:h2.DictOf (bQ prog w) d ((ks.zip us).take (i+1)):=by
   rw [List.take_succ_eq_append_getElem (by simp [lu];trivial)]
   simpa [hu] using hD2
  have k2:∀(c:Nat) o,c≠d→h'.get? c=some o→h2.get? c=some o:=fun c o hc e=>(sb.2 c hc).trans e
  refine wpAny_pure ⟨plainId_quiet cV _,?_⟩
  have e9:((i:Nat):Int)+1=((i+1:Nat):Int):=by trivial
  show codeAny _ _ (.builtin "dict.update.loop" ⟨[.ref d,.ref it,.int ((i:Nat)+1) 0,.none],[]⟩) _ _
  rw [e9]
  refine ih (i+1) 0 _ (by trivial) lt ?_ ?_ (fun j hj=>?_) nx fun h3 tk3 hD3 k3=>hR h3 tk3 hD3 fun c o a1 a2 e=>k3 c o a1 a2 (k2 c o a2 (kp c o a1 e))
  ·obtain ⟨o,ho,q⟩:=st'.1
   exact ⟨o,k2 _ _ n1.2.2 ho,q⟩
  ·obtain ⟨o,ho,q⟩:=st'.2
   exact ⟨o,k2 _ _ n1.2.1 ho,q⟩
  ·obtain ⟨T,x,y,c,sl,dd,e1,e2,e3,e4,e5,e6⟩:=pr j hj
   exact ⟨T,x,y,c,sl,dd,e1,k2 _ _ e6 (kp _ _ e5 e2),e3,e4,e5,e6⟩
set_option maxHeartbeats 1000000 in
theorem vM {s:Shared}{Q:Value→Shared→Prop}{c0:Nat} (hl:s.heap.get? l=some { cls:=.type "list",dict:=none,data:=.seq vs c0,slots:=#[] })
 (hh:A.handled=none) (lv:vs.size=ks.length) (lu:us.length=ks.length) (nd:ks.Nodup) (hz:ks.length≤4000)
 (pr:∀(i:Nat),i<ks.length→xF fun (T:Nat) (x y:Value) (c:Nat) (sl:Array (Option Value)) (dd:Option Addr)=>vs[i]?=some (.ref T)∧s.heap.get? T=some ⟨.type "tuple",dd,.seq #[x,y] c,sl⟩∧us[i]?=some y∧(∀k,ks[i]?=some k→fv k x=true))
 (h:∀h' tk,h'.DictOf (bQ prog w) s.heap.objs.size (ks.zip us)→(∀c o,s.heap.get? c=some o→h'.get? c=some o)→Q (.ref s.heap.objs.size) { s with heap:=h',toks:=tk }) :
 wpAny (model prog w) A (call (.type "dict") [.ref l]) Q E s:=by
 refine callType_codes (Q₁:=fun obj s₁=>obj=.ref s.heap.objs.size∧s₁={ s with heap:=s.heap.push { cls:=.type "dict",data:=.dict #[] } }) F.kt_called_dict (F.kt_typeCall_dict_1 _) F.entry_dict_init (kt_code_dict_new _ ⟨rfl,rfl⟩) ?_
 rintro obj s₁ ⟨rfl,rfl⟩
 have hnew:(s.heap.push { cls:=.type "dict",data:=.dict #[] }).DictOf (bQ prog w) s.heap.objs.size []:=Heap.DictOf.new s.heap
 have up:∀c o,s.heap.get? c=some o→(s.heap.push { cls:=.type "dict",data:=.dict #[] }).get? c=some o:=fun c o e=>Heap.get?_push_of_some _ e
 have ne:∀c o,s.heap.get? c=some o→c≠s.heap.objs.size:=fun c o e=>Nat.ne_of_lt (Heap.lt_size e)
 have hl':=up _ _ hl
 refine ⟨hnew.typeIs,F.args_dict_init_2 _ _,?_⟩
 unfold Builtin.«dict.__init__»
 refine wpAny_bind ?_
 unfold Builtin.Dict.selfAndRest
 refine wpAny_bind (wpAny_notOrdered_dict hnew.typeIs ?_)
 show wpAny _ _ (pure (s.heap.objs.size,[Value.ref l])) _ _ _
 refine wpAny_pure ?_
 show wpAny _ _ (Builtin.Dict.updateFrom "dict.__init__" s.heap.objs.size (.ref l) [] .none) _ _ _
 unfold Builtin.Dict.updateFrom
 refine wpAny_bind (wpAny_typeOf (T := "list") ⟨_,hl',rfl⟩ ?_)
 rw [if_pos (by decide)]
 refine wpAny_bind (qL tK (by decide +kernel) (by rw [sizeLine_eq];decide) hl' (by simpa using hh) fun g1 tk1 k1=>?_)
 simp only [Option.isNone_none,if_true]
 refine wpAny_bind (wpAny_rule ?_)
 have l1:g1.IsList l vs:=⟨_,k1 _ _ hl',rfl,_,rfl⟩
 refine wpAny_bind (wpAny_pyIter_list l1 ?_)
 have kk:∀c o,s.heap.get? c=some o→g1.get? c=some o:=fun c o e=>k1 _ _ (up _ _ e)
 have pu:∀(ob:Obj) c o,g1.get? c=some o→(g1.push ob).get? c=some o:=fun ob c o e=>Heap.get?_push_of_some _ e
 obtain ⟨on,es,ep,hon,qn⟩:=hnew
 have hon1:=k1 _ _ hon
 have dlt:s.heap.objs.size<g1.objs.size:=Heap.lt_size hon1
 have llt:l<s.heap.objs.size:=Heap.lt_size hl
 refine wpAny_pure ⟨plainId_quiet cV _,?_⟩
 refine yn (ks:=ks) (us:=us) (vs:=vs) (l:=l) (it:=g1.objs.size) (d:=s.heap.objs.size) ⟨Nat.ne_of_lt (Nat.lt_trans llt dlt),Nat.ne_of_lt llt,Nat.ne_of_gt dlt⟩ (by simpa using hh) lv lu nd hz ks.length 0 0 _ rfl (Nat.zero_le _) ⟨_,Heap.get?_push_size _ rfl,rfl,rfl⟩ (l1.push _) (fun i hi=>?_) ⟨on,es,ep,pu _ _ _ hon1,qn⟩ fun h' tk hD keep=>?_
 ·obtain ⟨T,x,y,c,sl,dd,e1,e2,e3,e4⟩:=pr i hi
  have tlt:=Heap.lt_size e2
  exact ⟨T,x,y,c,sl,dd,e1,pu _ _ _ (kk _ _ e2),e3,e4,Nat.ne_of_lt (Nat.lt_trans tlt dlt),Nat.ne_of_lt tlt⟩
 ·exact ⟨rfl,h h' tk hD fun c o e=>keep c o (Nat.ne_of_lt (Nat.lt_trans (Heap.lt_size e) dlt)) (ne _ _ e) (pu _ _ _ (kk _ _ e))⟩
end
section
variable {X:Cx}
inductive Br (vs:List V) (H:Hp) (Q:VK):Prop
 | mk (l:Addr) (ts:List Addr) (ks:List aU) (ys:List V) (h0:vs=[.ref l]) (h1:H l=some (.lst (ts.map V.ref))) (h2:ts.length=ks.length) (h3:ys.length=ks.length) (h4:ks.Nodup) (h5:ks.length≤4000) (h6:(∀(i:Nat) t,ts[i]?=some t→bo fun k y=>ks[i]?=some k∧ys[i]?=some y∧H t=some (.tup [gU k,y]))) (h7:∀p H',Nw H p (.dK (ks.zip ys)) H'→Q (.ref p) H')
def Eo:List V→Hp→VK→Prop:=fun vs H Q=>Br  vs H Q
theorem vK {k k':Value}{d d':Option Addr}{x y x' y':Value}{n n':Nat}{s s':Array (Option Value)} (h:(⟨k,d,.seq #[x,y] n,s⟩:Obj)=⟨k',d',.seq #[x',y'] n',s'⟩):y=y':=by
 simp only [Obj.mk.injEq,Data.seq.injEq] at h
 have a:=h.2.2.1.1
 simp at a
 exact a.2
theorem tH {α:Type}{p:Nat→α→Prop}:∀n,(∀i,i<n→∃a,p i a)→∃as:List α,as.length=n∧∀(i:Nat) a,as[i]?=some a→p i a
 | 0,_=>⟨[],rfl,fun i a h=>by simp at h⟩
 | n+1,h=>by
  obtain ⟨as,l,q⟩:=tH n fun i hi=>h i (by trivial)
  obtain ⟨a,ha⟩:=h n (by trivial)
  refine ⟨as++[a],by rw [List.length_append,l];rfl,fun i b hb=>?_⟩
  by_cases c:i<n
  ·rw [List.getElem?_append_left (by trivial)] at hb
   exact q i b hb
  ·have hlt:=(List.getElem?_eq_some_iff.mp hb).1
   rw [List.length_append] at hlt
   simp at hlt
   obtain rfl:i=n:=by trivial
   rw [List.getElem?_append_right (by trivial),l,Nat.sub_self] at hb
   obtain rfl:a=b:=Option.some.inj hb
   exact ha
theorem sf (hc:X.calm=true):cf X (.type "dict") Eo:=by
 intro pins s σ H xs us Q I r h
 obtain ⟨l,ts,ks,ys,rfl,hl,lt,ly,nd,h4,hp,q⟩:=h
 obtain ⟨u,rfl,ru⟩:=r.one
 obtain rfl:u=.ref l:=ru
 obtain ⟨z,its,n,rv,hlen,e⟩:=I.lstM hl
 rw [List.length_map] at hlen
 have isT:∀(i:Nat) t,ts[i]?=some t→its[i]?=some (.ref t):=fun i t hi=>by
  obtain ⟨w,hw,rw'⟩:=rv.get (show (ts.map V.ref)[i]?=some (V.ref t) by rw [List.getElem?_map,hi];rfl)
  obtain rfl:w=.ref t:=rw'
  exact hw
 have per:∀i,i<ks.length→xF fun (T:Nat) (x y:Value) (c:Nat) (sl:Array (Option Value)) (dd:Option Addr)=>its[i]?=some (.ref T)∧s.heap.get? T=some ⟨.type "tuple",dd,.seq #[x,y] c,sl⟩∧(∃yv,ys[i]?=some yv∧aX yv y)∧(∀k,ks[i]?=some k→fv k x=true):=fun i hi=>by
  have ht:=List.getElem?_eq_getElem (show i<ts.length by trivial)
  obtain ⟨k,y,hk,hy,hT⟩:=hp i _ ht
  obtain ⟨_,us,rus,⟨ob,g1,g2,c,g3⟩,_⟩:=(show bh X.prog X.w H s.heap ts[i] (.tup [gU k,y]) from I.hok _ _ hT)
  obtain ⟨a,b,rfl,ra,rb⟩:=rus.two
  obtain ⟨oc,od,oo,osl⟩:=ob
  simp only at g2 g3
  subst g2 g3
  exact ⟨ts[i],a,b,c,osl,od,isT i _ ht,g1,⟨y,hy,rb⟩,fun k' hk'=>by rw [hk] at hk';cases hk';exact (sY ra).1⟩
 have vals:∃us':List Value,us'.length=ks.length∧aM ys us'∧∀i (hi:i<ks.length) (T:Nat) (x y:Value) (c:Nat) (sl:Array (Option Value)) (dd:Option Addr),its[i]?=some (.ref T)→s.heap.get? T=some ⟨.type "tuple",dd,.seq #[x,y] c,sl⟩→us'[i]?=some y:=by
  obtain ⟨us',l1,h1⟩:=tH (p:=fun i y=>∀(T:Nat) (x y':Value) (c:Nat) (sl:Array (Option Value)) (dd:Option Addr),its[i]?=some (.ref T)→s.heap.get? T=some ⟨.type "tuple",dd,.seq #[x,y'] c,sl⟩→y'=y∧∃yv,ys[i]?=some yv∧aX yv y') ks.length fun i hi=>by
   obtain ⟨T,x,y,c,sl,dd,e1,e2,e3,e4⟩:=per i hi
   refine ⟨y,fun T' x' y' c' sl' dd' f1 f2=>?_⟩
   have eT:=Option.some.inj (e1.symm.trans f1)
   injection eT with eT
   have f3:s.heap.get? T=_:=(congrArg s.heap.get? eT).trans f2
   have ey:=vK (Option.some.inj (e2.symm.trans f3))
   subst ey
   exact ⟨rfl,e3⟩
  refine ⟨us',l1,?_,fun i hi T x y c sl dd e1 e2=>?_⟩
  ·refine wG (by trivial) fun i yv u e1 e2=>?_
   have hi:i<ks.length:=by rw [←l1];exact (List.getElem?_eq_some_iff.mp e2).1
   obtain ⟨T,x,y,c,sl,dd,g1,g2,g3,g4⟩:=per i hi
   obtain ⟨q1,yv',q2,q3⟩:=h1 i u e2 T x y c sl dd g1 g2
   rw [e1] at q2
   cases q2
   rw [←q1]
   exact q3
  ·obtain ⟨u,hu⟩:∃u,us'[i]?=some u:=⟨_,List.getElem?_eq_getElem (by trivial)⟩
   rw [hu,(h1 i u hu T x y c sl dd e1 e2).1]
 obtain ⟨us',lu,rus,hus⟩:=vals
 refine vM (E:=X.xe) (ks:=ks) (us:=us') (vs:=its.toArray) (l:=l) e (I.ok.hd hc) (by simp;trivial) lu nd h4 (fun i hi=>?_) fun h' tk hD kp=>?_
 ·obtain ⟨T,x,y,c,sl,dd,e1,e2,_,e4⟩:=per i hi
  exact ⟨T,x,y,c,sl,dd,by simpa using e1,e2,hus i hi T x y c sl dd e1 e2,e4⟩
 ·have big:sysModules<s.heap.objs.size:=by
   have e:mainGlobals<s.heap.objs.size:=(I.mod.glob.keeps I.bk).lt
   exact Nat.lt_trans (by decide) e
  exact ⟨.ref _,_,I.laid (t':=tk) kp (Nat.le_refl _) (show bh X.prog X.w _ h' _ (.dK (ks.zip ys)) from ⟨by rw [sizeLine_eq];simp;trivial,beq_eq_false_iff_ne.mpr (Ne.symm (Nat.ne_of_lt big)),ks.zip us',y8 rus,hD⟩),rfl,q _ _ (.mk' (I.hok.fresh (Nat.le_refl _)))⟩
end
end L2
namespace L2
open PySem PySem.Spec PyProof.Rows
section
variable {X:Cx}
inductive BA (x:V) (y:V) (H:Hp) (Q:VK):Prop
 | mk (a c:Addr) (xs:List V) (h0:x=.ref a) (h1:y=.ref c) (h2:H a=some (.lst xs)) (h3:H c=some (.lst [])) (h4:Q (.bl (!xs.isEmpty)) H)
def Ec:R2:=fun x y H Q=>BA  x y H Q
theorem AF (hu:X.A.units+64<cLine):cB X (compareOp .NotEq) Ec:=by
 intro pins s σ H x y v u Q I rx ry h
 obtain ⟨a,c,xs,rfl,rfl,ha,hc,q⟩:=h
 cases rx
 cases ry
 obtain ⟨z,its,n,r,hl,e⟩:=I.lstM ha
 obtain ⟨z2,its2,n2,r2,hl2,e2⟩:=I.lstM hc
 have h0:its2=[]:=List.eq_nil_of_length_eq_zero hl2.symm
 subst h0
 have l1:s.heap.IsList a its.toArray:=⟨_,e,rfl,_,rfl⟩
 have l2:s.heap.IsList c (#[]:Array Value):=⟨_,e2,rfl,_,rfl⟩
 have hu':X.A.units<cLine:=by trivial
 cases xs with
 | nil=>
  have:its=[]:=List.eq_nil_of_length_eq_zero hl.symm
  subst this
  refine (PySem.SeqAt.RcNeAt.lists (e:=fun _=>true) l1 l2 rfl hu' (fun j j1 j2=>absurd j1 (by simp))) X.prog X.w X.xe _ ?_
  exact ⟨.bl _,H,I,rfl,q⟩
 | cons y ys=>
  refine (PySem.SeqAt.RcNeAt.lists_lengths l1 l2 (by simp at hl ⊢;exact fun z=>by rw [z] at hl;simp at hl) hu') X.prog X.w X.xe _ ?_
  exact ⟨.bl _,H,I,rfl,q⟩
end
structure Gb (a b:Nat) (p:KM.Fra):Prop where
 n:Sz a p.1
 d:Sz b p.2
 pos:1≤p.2
theorem Gb.mono {a b a' b':Nat}{p:KM.Fra} (h:Gb a b p) (ha:a≤a') (hb:b≤b'):Gb a' b' p:=⟨h.n.mono ha,h.d.mono hb,h.pos⟩
theorem pW {a b:Nat}{n d:Int} (hn:Sz a n) (hd:Sz b d) (h0:0<d):Gb a b (KM.low n d):=by
 have:=KM.low_spec n d (by trivial)
 exact ⟨hn.le this.2.2.2.1,hd.le this.2.2.2.2,this.1⟩
def ij (p q:KM.Fra):KM.Fra:=KM.low (p.1*q.2) (p.2*q.1)
theorem Gb.tim {a b c d e f:Nat}{p q:KM.Fra} (h:Gb a b p) (k:Gb c d q) (h1:a+c≤e) (h3:b+d≤f):Gb e f (KM.lTim p q):=
 pW ((h.n.mul k.n).mono h1) ((h.d.mul k.d).mono h3) (Int.mul_pos (by have:=h.pos;trivial) (by have:=k.pos;trivial))
theorem Gb.ovr {a b c d e f:Nat}{p q:KM.Fra} (h:Gb a b p) (k:Gb c d q) (hq:1≤q.1) (h1:a+d≤e) (h3:b+c≤f):Gb e f (ij p q):=
 pW ((h.n.mul k.d).mono h1) ((h.d.mul k.n).mono h3) (Int.mul_pos (by have:=h.pos;trivial) (by trivial))
theorem tQ {p q:KM.Fra} (h:1≤p.1) (h':1≤p.2) (k:1≤q.1) (k':1≤q.2):1≤(KM.lTim p q).1:=(KM.low_sgn (Int.mul_pos (by trivial) (by trivial))).1.mpr (Int.mul_pos (by trivial) (by trivial))
theorem CA {p q:KM.Fra} (h:1≤p.1) (h':1≤p.2) (k:1≤q.1) (k':1≤q.2):1≤(ij p q).1:=(KM.low_sgn (Int.mul_pos (by trivial) (by trivial))).1.mpr (Int.mul_pos (by trivial) (by trivial))
end L2
namespace L2
open PySem PySem.Spec PyProof.Rows
def dF (kvs:List (aU×V)) (k:aU) (v:V):List (aU×V):=if kvs.any (fun kv=>decide (kv.1=k)) then kvs.map (fun kv=>if kv.1=k then (kv.1,v) else kv) else kvs++[(k,v)]
theorem KV.any {kvs:List (aU×V)}{vs:List (aU×Value)} (r:KV kvs vs) (k:aU):kvs.any (fun kv=>decide (kv.1=k))=vs.any (fun kv=>decide (kv.1=k)):=by
 induction r with
 | nil=>rfl
 | cons h t ih=>rw [List.any_cons,List.any_cons,ih,h.1]
theorem uH {kvs:List (aU×V)}{vs:List (aU×Value)} (r:KV kvs vs) {k:aU}{v:V}{u:Value} (rv:aX v u):KV (dF kvs k v) (stored vs k u):=by
 unfold dF stored
 rw [r.any k]
 have m:KV (kvs.map (fun kv=>if kv.1=k then (kv.1,v) else kv)) (vs.map (fun kv=>if kv.1=k then (kv.1,u) else kv)):=by
  induction r with
  | nil=>exact .nil
  | @cons p q ps qs h t ih=>
   refine .cons ?_ ih
   obtain ⟨pk,pv⟩:=p
   obtain ⟨qk,qv⟩:=q
   obtain ⟨h1,h2⟩:=h
   obtain rfl:pk=qk:=h1
   show (if pk=k then (pk,v) else (pk,pv)).1=(if pk=k then (pk,u) else (pk,qv)).1∧aX (if pk=k then (pk,v) else (pk,pv)).2 (if pk=k then (pk,u) else (pk,qv)).2
   by_cases c:pk=k
   ·rw [if_pos c,if_pos c];exact ⟨rfl,rv⟩
   ·rw [if_neg c,if_neg c];exact ⟨rfl,h2⟩
 have a:KV (kvs++[(k,v)]) (vs++[(k,u)]):=by
  clear m
  induction r with
  | nil=>exact .cons ⟨rfl,rv⟩ .nil
  | cons h t ih=>exact .cons h ih
 cases vs.any (fun kv=>decide (kv.1=k)) with
 | true=>exact m
 | false=>exact a
theorem uz {kvs:List (aU×V)}{k:aU}{v:V} (h:kvs.length<sizeLine):(dF kvs k v).length≤sizeLine:=by
 unfold dF
 split
 ·rw [List.length_map];trivial
 ·rw [List.length_append];exact h
theorem jL (kvs:List (aU×V)) (k:aU) (v:V) (x:aU):valD (dF kvs k v) x=if x=k then some v else valD kvs x:=by
 unfold dF
 cases c:kvs.any (fun kv=>decide (kv.1=k)) with
 | true=>
  rw [if_pos rfl]
  induction kvs with
  | nil=>cases c
  | cons p ps ih=>
   unfold valD at ih ⊢
   rw [List.map_cons,List.find?_cons,List.find?_cons]
   by_cases hp:p.1=k
   ·rw [if_pos hp]
    by_cases hx:x=k
    ·rw [if_pos hx,hp,hx];simp
    ·rw [if_neg hx]
     have n1:¬p.1=x:=fun z=>hx (z.symm.trans hp)
     have n2:decide (p.1=x)=false:=decide_eq_false n1
     rw [n2]
     dsimp only
     by_cases c2:ps.any (fun kv=>decide (kv.1=k))=true
     ·rw [ih c2,if_neg hx]
     ·have e:ps.map (fun kv=>if kv.1=k then (kv.1,v) else kv)=ps:=by
       have:∀kv∈ps,(fun kv:aU×V=>if kv.1=k then (kv.1,v) else kv) kv=kv:=fun kv hkv=>by
        by_cases q:kv.1=k
        ·exact absurd (List.any_eq_true.mpr ⟨kv,hkv,decide_eq_true q⟩) c2
        ·show (if kv.1=k then _ else _)=_
         rw [if_neg q]
       exact (List.map_congr_left this).trans (List.map_id _)
      rw [e]
   ·rw [if_neg hp]
    have c':ps.any (fun kv=>decide (kv.1=k))=true:=by
     rw [List.any_cons,decide_eq_false hp,Bool.false_or] at c
     exact c
    by_cases hpx:p.1=x
    ·have hx:¬x=k:=fun z=>hp (hpx.trans z)
     rw [if_neg hx,decide_eq_true hpx]
    ·rw [decide_eq_false hpx]
     dsimp only
     exact ih c'
 | false=>
  rw [if_neg Bool.false_ne_true]
  have nk:valD kvs k=none:=by
   unfold valD
   rw [Option.map_eq_none_iff,List.find?_eq_none]
   intro kv hkv q
   have:kvs.any (fun kv=>decide (kv.1=k))=true:=List.any_eq_true.mpr ⟨kv,hkv,q⟩
   rw [c] at this;cases this
  unfold valD at nk ⊢
  rw [List.find?_append]
  by_cases hx:x=k
  ·subst hx
   rw [Option.map_eq_none_iff] at nk
   rw [nk,if_pos rfl];simp
  ·rw [if_neg hx]
   cases kvs.find? (fun kv=>decide (kv.1=x)) with
   | some p=>rfl
   | none=>
    have:decide (k=x)=false:=decide_eq_false fun z=>hx z.symm
    simp [this]
section
variable {X:Cx}
theorem af.dset {pins:List (Addr×Obj)}{σ:St}{H:Hp}{s:Shared}{d:Addr}{kvs kvs':List (aU×V)}{vs':List (aU×Value)}{h':Heap}{t':Nat} (I:af X pins σ H s) (hH:H d=some (.dK kvs)) (hm:(d==sysModules)=false) (hz:kvs'.length≤sizeLine)
 (hv:KV kvs' vs') (hd:h'.DictOf (bQ X.prog X.w) d vs') (sb:Heap.SameBut d s.heap h'):af X pins σ (aN H d (.dK kvs')) { s with heap:=h',toks:=t' }:=by
 obtain ⟨o,es,ep,ho,q⟩:=hd
 refine I.write (x:=d) (e:=d) (by rw [hH];exact trivial) (.inl rfl) (fun b u hb hu=>(sb.2 b hb).trans hu) ⟨_,ho⟩ ?_
 exact ⟨hz,hm,vs',hv,o,es,ep,ho,q⟩
structure Eh (H:Hp) (p:Addr) (o:HO) (H':Hp):Prop where
 at':H' p=some o
 ol:∀a u,a≠p→H a=some u→H' a=some u
 fre:∀a,a≠p→H a=none→H' a=none
theorem Eh.mk' {H:Hp}{p:Addr}{o:HO}:Eh H p o (aN H p o):=⟨am,fun a u n h=>by rw [ao n];exact h,fun a n h=>by rw [ao n];exact h⟩
inductive C6 (o:V) (i:V) (v:V) (H:Hp) (Q:(Hp→Prop)):Prop
 | mk (d:_) (kvs:_) (k:_) (h0:o=.ref d) (h1:i=gU k) (h2:H d=some (.dK kvs)) (h3:kvs.length≤4000) (h4:∀H',Eh H d (.dK (dF kvs k v)) H'→Q H')
def Gf:V→V→V→Hp→(Hp→Prop)→Prop:=fun o i v H Q=>C6  o i v H Q
theorem rG:AY X Gf:=by
 intro pins s σ H o i v ov iv u Q I ro ri rv h
 obtain ⟨d,kvs,k,rfl,rfl,hd,hl,q⟩:=h
 cases ro
 obtain ⟨hz,hm,vs,rel,dd⟩:=(show bh X.prog X.w H s.heap d (.dK kvs) from I.hok d _ hd)
 exact wpAny_setItem_pairs (hsz:=by rw [←rel.length];exact hz) (l4 ri) dd fun h' hd' sb=>⟨_,I.dset hd hm (uz (by rw [sizeLine_eq];trivial)) (uH rel rv) hd' sb,q _ .mk'⟩
inductive DR (ng:Bool) (x:V) (y:V) (H:Hp) (Q:VK):Prop
 | mk (d:Addr) (kvs:List (aU×V)) (k:aU) (h0:y=.ref d) (h1:x=gU k) (h2:H d=some (.dK kvs)) (h3:Q (.bl (if ng then !(valD kvs k).isSome else (valD kvs k).isSome)) H)
def Fn (ng:Bool):R2:=fun x y H Q=>DR ng x y H Q
theorem yF {o:Option V}{p:Option Value} (h:pJ o p):o.isSome=p.isSome:=by
 cases o <;> cases p <;> first | rfl | exact h.elim
theorem sW:cB X (compareOp .NotIn) (Fn true):=by
 intro pins s σ H x y v u Q I rx ry h
 obtain ⟨d,kvs,k,rfl,rfl,hd,q⟩:=h
 cases ry
 obtain ⟨hz,hm,vs,rel,dd⟩:=(show bh X.prog X.w H s.heap d (.dK kvs) from I.hok d _ hd)
 show wpAny _ X.A (do return Value.bool (!(←contains (.ref d) v))) _ _ s
 refine wpAny_bind (wpAny_contains_slot dd.typeIs PySem.F.slot_dict_contains (wpAny_mono (call_meetsIn (Q:=fun b s'=>b=.bool (valueAt vs k).isSome∧s'={ s with toks:=s.toks+1 }) PySem.F.slot_dict_contains dd.typeIs PySem.F.entry_dict_contains (PySem.F.args_dict_contains_2 _ _) (meets_dict_contains (bQ X.prog X.w) d (l4 rx) hm) ⟨_,dd.mapOf,rfl,rfl⟩) (fun b s' hb=>?_) fun _ _ e=>e))
 obtain ⟨rfl,rfl⟩:=hb
 refine wpAny_truthy_bool (wpAny_pure ?_)
 rw [←yF (rel.valD k)]
 exact ⟨.bl _,H,I.tok _,rfl,q⟩
theorem vL {pos:Pos}:PE X (.Dict [] [] pos) (fun _ H Q=>∀p H',Nw H p (.dK []) H'→Q (.ref p) H'):=by
 intro pins s σ H Q I h
 refine wpAny_Dict_empty ?_
 have big:(s.heap.objs.size==sysModules)=false:=by
  have e:mainGlobals<s.heap.objs.size:=(I.mod.glob.keeps I.bk).lt
  exact beq_eq_false_iff_ne.mpr (Ne.symm (Nat.ne_of_lt (Nat.lt_trans (by decide) e)))
 exact ⟨.ref _,_,I.laid (fun _ _ e=>Heap.get?_push_of_some _ e) (Nat.le_refl _) (show bh X.prog X.w _ _ _ (.dK []) from ⟨Nat.zero_le _,big,[],.nil,Heap.DictOf.new s.heap⟩),rfl,h _ _ (.mk' I.fresh)⟩
end
section
variable {prog:Program}{w:World}{A:Around}{R:Result→Shared→Prop}{s:Shared}
theorem u9 {kx vx target iter:Expr}{ifs:List Expr}{scope:Scope}{pos:Pos}{it:Value}{D:Addr}{env:Env} (I:Nat→Shared→Prop)
 (turn:∀n s,I n s→wpAny (model prog w) A (pyNext it) (fun r s₁=>match r with
  | none=>R (.ok .next) s₁
  | some v=>wpAny (model prog w) A (letOwnedTupleGo target it v) (fun _ s₁'=>wpAny (model prog w) A (assign target env v) (fun _ s₂=>
   wpAny (model prog w) A (forIn ifs true fun c r=>if r=true then do let ok ←isTrue c env (eval c env);pure (ForInStep.yield ok) else pure (ForInStep.yield r)) (fun ok s₃=>
    if ok=true then wpAny (model prog w) A (eval kx env) (fun kv s₄=>wpAny (model prog w) A (eval vx env) (fun vv s₅=>
     wpAny (model prog w) A (dictSet D kv vv) (fun _ s₆=>∃m,m<n∧I m s₆) (fun _ _=>False) s₅) (fun _ _=>False) s₄) (fun _ _=>False) s₃
    else ∃m,m<n∧I m s₃) (fun _ _=>False) s₂) (fun _ _=>False) s₁') (fun _ _=>False) s₁) (fun _ _=>False) s)
 (n:Nat) (h:I n s) :
 codeAny (model prog w) A (.compLoop (.DictComp kx vx [⟨target,iter,ifs,0⟩] scope pos) 0 it (.ref D) env) R s:=by
 refine codeAny_loop rfl I (fun n s hI=>?_) n h
 show wpAny _ A ((compTurn (.DictComp kx vx [⟨target,iter,ifs,0⟩] scope pos) 0 it (.ref D) env).onRaise (fun x=>do noteFrame x env;theTreesLotGoes x)) _ _ s
 refine wpAny_noted ?_
 rw [compTurn_dict]
 refine wpAny_bind (wpAny_standAt (wpAny_bind (wpAny_mono (turn n s hI) (fun r s₁ h₁=>?_) fun _ _ h'=>h'.elim)))
 cases r with
 | none=>exact wpAny_pure h₁
 | some v=>
  refine wpAny_bind (wpAny_mono h₁ (fun _ s₁' h₁'=>?_) fun _ _ h'=>h'.elim)
  refine wpAny_bind (wpAny_mono h₁' (fun _ s₂ h₂=>wpAny_bind (wpAny_mono h₂ (fun ok s₃ h₃=>?_) fun _ _ h'=>h'.elim)) fun _ _ h'=>h'.elim)
  cases ok with
  | false=>exact wpAny_pure ⟨rfl,h₃⟩
  | true=>
   exact wpAny_bind (wpAny_bind (wpAny_mono h₃ (fun kv s₄ h₄=>wpAny_bind (wpAny_holding (wpAny_mono h₄ (fun vv s₅ h₅=>wpAny_bind (wpAny_standAt (wpAny_holding (wpAny_mono h₅ (fun _ s₆ h₆=>wpAny_pure ⟨rfl,h₆⟩) fun _ _ h'=>h'.elim)))) fun _ _ h'=>h'.elim))) fun _ _ h'=>h'.elim))
end
def za (J:It) (σc:St) (g:TG) (tt:TT) (tk tv:TE) (D:Addr) (H1:Hp) (Q:VK):Prop:=
 ∃W:Nat→Nat→Hp→List (aU×V)→Prop,(∃m,W 0 m (aN H1 D (.dK [])) [])∧∀i m H ys,W i m H ys→H D=some (.dK ys)∧
  ((J.stop i H∧Q (.ref D) H)∨(J.go i H∧ys.length<sizeLine∧∃N:Hp→List (aU×V)→Prop,(∀H' ys',N H' ys'→∃m',m'<m∧W (i+1) m' H' ys')∧
    ∀x H',J.yld i H x H'→g x σc H' fun σ2 H2=>jr σc σ2∧tt σ2 H2 fun b H3=>if b=true then tk σ2 H3 fun kv H4=>∃k,kv=gU k∧tv σ2 H4 fun y H5=>H5 D=some (.dK ys)∧N (aN H5 D (.dK (dF ys k y))) (dF ys k y) else N H3 ys))
def vt (wi:TI) (L:Nat) (src:List Nat) (g:TG) (tt:TT) (tk tv:TE):TE:=fun σ H Q=>wi σ H fun J H1=>∀D,H1 D=none→za J (fY L src σ) g tt tk tv D H1 Q
section
variable {X:Cx}{kx vx tg iter:Expr}{ifs:List Expr}{scope:Scope}{pos:Pos}{N':List Str}{L:Nat}{src:List Nat}{wi:TI}{g:TG}{tt:TT}{tk tv:TE}
theorem tW (hc:X.calm=true) (ck:zQ X.env.scope X.N scope N' L src) {cl:List (Str×Addr)}{pins:List (Addr×Obj)}{s:Shared}{σ:St}{H:Hp}{Q:VK} (I:af X pins σ H s)
 (hsub:∀x c,cl.lookup x=some c→X.env.cells.lookup x=some c) (hhas:∀y∈scope.names,y.2=.free→∃c,cl.lookup y.1=some c)
 (hi:PI X tg iter wi) (hg:∀cl C s H ex pn,PG (cG X scope cl C N' s H ex pn) tg g) (hif:∀cl C s H ex pn,mF (cG X scope cl C N' s H ex pn) ifs tt)
 (hk:∀cl C s H ex pn,PE (cG X scope cl C N' s H ex pn) kx tk) (hv:∀cl C s H ex pn,PE (cG X scope cl C N' s H ex pn) vx tv) (h:vt wi L src g tt tk tv σ H Q) {RR:Value→Addr→Result→Shared→Prop}
 (hRR:∀D C H' f s' m,af X pins σ H' s'→s'.heap.Ns C m→iV X pins H' C→Q (.ref D) H'→RR (.ref D) C (.ok f) s') :
 wpAny (model X.prog X.w) X.A (eval iter X.env) (fun x s₁=>wpAny (model X.prog X.w) X.A (pyIter x) (fun it s₂=>wpAny (model X.prog X.w) X.A newDict (fun acc s₃=>
  wpAny (model X.prog X.w) X.A (newFunctionEnv scope X.env.globals cl [] X.env.qual none .none (some X.env)) (fun cenv s₄=>
   codeAny (model X.prog X.w) X.A (.compStart (.DictComp kx vx [⟨tg,iter,ifs,0⟩] scope pos) 0 it acc { cenv with scope:=relabel scope X.env }) (RR acc cenv.locals) s₄) X.xe s₃) X.xe s₂) X.xe s₁) X.xe s:=by
 refine aW (hi pins s σ H _ I h) fun v s1 h1=>aW h1 fun itv s2 h2=>?_
 obtain ⟨it,fp,tn,J,H2,e,I2,T,st2,f2,q⟩:=h2
 subst e
 refine wpAny_newObj_type (wpAny_newFunctionEnv ck.nocell (by intro y hy;simp at hy) (fun h₁ hns₁ hsb₁=>?_) ck.kind)
 dsimp only at hns₁ hsb₁ ⊢
 generalize hH2:s2.heap.push { cls:=.type "dict",dict:=none,data:=.dict #[] }=hp2 at hns₁ hsb₁ ⊢
 have hC:hp2.objs.size=s2.heap.objs.size+1:=by rw [←hH2,Heap.size_push]
 have hDC:s2.heap.objs.size≠hp2.objs.size:=by rw [hC];exact Nat.ne_of_lt (Nat.lt_succ_self _)
 have hCle:s2.heap.objs.size≤hp2.objs.size:=by rw [hC];exact Nat.le_succ _
 have below:∀b,b<s2.heap.objs.size→b≠hp2.objs.size∧b≠s2.heap.objs.size:=fun b hb=>⟨by rw [hC];exact Nat.ne_of_lt (Nat.lt_succ_of_lt hb),Nat.ne_of_lt hb⟩
 have old:∀b o,s2.heap.get? b=some o→h₁.get? b=some o:=fun b o e=>hsb₁.extBut b o (below b (Heap.lt_size e)).1 (Heap.get?_push_of_some _ (hH2▸Heap.get?_push_of_some _ e))
 have hacc0:(s2.heap.push { cls:=.type "dict",dict:=none,data:=.dict #[] }).DictOf (bQ X.prog X.w) s2.heap.objs.size []:=Heap.DictOf.new s2.heap
 have hacc:h₁.DictOf (bQ X.prog X.w) s2.heap.objs.size []:=hacc0.at fun o e=>hsb₁.extBut _ _ hDC (Heap.get?_push_of_some _ (hH2▸e))
 have hbig:(s2.heap.objs.size==sysModules)=false:=by
  have e:mainGlobals<s2.heap.objs.size:=(I2.mod.glob.keeps I2.bk).lt
  exact beq_eq_false_iff_ne.mpr (Ne.symm (Nat.ne_of_lt (Nat.lt_trans (by decide) e)))
 have hDn:H2 s2.heap.objs.size=none:=I2.fresh
 obtain ⟨W,⟨m0,w0⟩,turn⟩:=q _ hDn
 have fpo:∀b∈fp,∃o,s2.heap.get? b=some o∧∀v,o.data≠.cell v:=T.obj _ _ st2
 have fplt:∀b∈fp,b<s2.heap.objs.size:=fun b hb=>by obtain ⟨o,e,_⟩:=fpo b hb;exact Heap.lt_size e
 have hfrs:∀b∈fp,b∉f6 X.stack:=fun b hb z=>by
  rcases List.mem_cons.mp (I2.stkSub b z) with z' | z'
  ·exact (f2 b hb).2.1 z'
  ·exact (f2 b hb).2.2.1 z'
 generalize hX:cG X scope cl hp2.objs.size N' s2 H2 fp (X.pn++pins)=X'
 have ok':X'.Ok:=by
  subst hX
  refine ⟨I2.ok.mod,ck.kind,I2.ok.glob,I2.ok.blt,hCle,fun x y c e1 e2=>I2.ok.inj x y c (hsub _ _ e1) (hsub _ _ e2),fun x hx=>?_,fun x c z _=>(by cases z),I2.ok.hd,I2.ok.frames,.inl rfl,fun b hb=>⟨(below b (fplt b hb)).1,fun x c e=>(f2 b hb).2.2.2.2.1 x c (hsub _ _ e)⟩,
   I2.bs,Nat.le_trans I2.ok.bsz I2.sz,fun b o e hb=>?_,hfrs,I2.stack,I2.stkFree⟩
  ·-- a name that is a cell or free
   have hx':(relabel scope X.env).names.lookup x=some .cell∨(relabel scope X.env).names.lookup x=some .free:=hx
   have key:∀(names:List (Str×NameKind)),(∀y∈names,y.2≠.cell)→
    ((names.map fun (n,k)=>if (k==NameKind.free && X.env.scope.kind==.function && X.env.kindOf n==some .cell) then (n,NameKind.cell) else (n,k)).lookup x=some .cell∨
     (names.map fun (n,k)=>if (k==NameKind.free && X.env.scope.kind==.function && X.env.kindOf n==some .cell) then (n,NameKind.cell) else (n,k)).lookup x=some .free)→∃y∈names,y.1=x∧y.2=.free:=by
    intro names
    induction names with
    | nil=>intro _ h;rcases h with h | h <;> simp at h
    | cons y r ih=>
     intro hn h
     obtain ⟨n,k⟩:=y
     by_cases hb:x=n
     ·subst hb
      refine ⟨(x,k),List.mem_cons_self,rfl,?_⟩
      by_cases hk:k=.free
      ·exact hk
      ·exfalso
       have hkb:(k==NameKind.free)=false:=by simpa using hk
       have hnc:k≠.cell:=hn (x,k) List.mem_cons_self
       simp only [List.map_cons,hkb,Bool.false_and,Bool.false_eq_true,if_false,List.lookup_cons,beq_self_eq_true,if_true] at h
       rcases h with h | h
       ·exact hnc (Option.some.inj h)
       ·exact hk (Option.some.inj h)
     ·have hb':(x==n)=false:=by simpa using hb
      have h':((r.map fun (n,k)=>if (k==NameKind.free && X.env.scope.kind==.function && X.env.kindOf n==some .cell) then (n,NameKind.cell) else (n,k)).lookup x=some .cell∨
       (r.map fun (n,k)=>if (k==NameKind.free && X.env.scope.kind==.function && X.env.kindOf n==some .cell) then (n,NameKind.cell) else (n,k)).lookup x=some .free):=by
       rw [List.map_cons] at h
       dsimp only at h
       by_cases hcnd:(k==NameKind.free && X.env.scope.kind==.function && X.env.kindOf n==some .cell)=true
       ·rw [if_pos hcnd] at h
        simpa only [List.lookup_cons,hb'] using h
       ·rw [if_neg hcnd] at h
        simpa only [List.lookup_cons,hb'] using h
      obtain ⟨y,hy,e1,e2⟩:=ih (fun y hy=>hn y (List.mem_cons_of_mem _ hy)) h'
      exact ⟨y,List.mem_cons_of_mem _ hy,e1,e2⟩
   obtain ⟨y,hy,e1,e2⟩:=key scope.names ck.nocell hx'
   obtain ⟨c,hc'⟩:=hhas y hy e2
   exact ⟨c,e1▸hc'⟩
  ·rcases (f2 b hb).2.2.2.1 with z | z
   ·exact I2.ok.noex b o e z
   ·exact absurd (Nat.lt_of_lt_of_le (Heap.lt_size e) (Nat.le_trans I2.ok.bsz z)) (Nat.lt_irrefl _)
 have stat:∀{H':Hp},(∀b∈fp,H' b=none)→∀b∈fp,iV X' [] H' b:=by
  subst hX
  intro H' hn b hb
  refine ⟨hn b hb,(below b (fplt b hb)).1,hfrs b hb,.inl hb,fun x c e=>(f2 b hb).2.2.2.2.1 x c (hsub _ _ e),fun p hp=>?_⟩
  have hp':p∈X.pn++pins:=by simpa [cG] using hp
  exact (f2 b hb).2.2.2.2.2 p hp'
 have I1:af X' [] (fY L src σ) (aN H2 s2.heap.objs.size (.dK [])) { s2 with heap:=h₁,toks:=s2.toks+([]:List (Str×Value)).length }:=by
  subst hX
  have up:∀b o,H2 b=some o→aN H2 s2.heap.objs.size (.dK []) b=some o:=fun b o e=>by rw [ao (aY e hDn)];exact e
  have upn:∀b,b<s2.heap.objs.size→H2 b=none→aN H2 s2.heap.objs.size (.dK []) b=none:=fun b hb e=>by rw [ao (Nat.ne_of_lt hb)];exact e
  refine ⟨ok',rfl,I2.bare,Un.laid old (Nat.le_refl _) hDn,⟨_,hns₁,fun i x v e1 e2 e3=>?_⟩,fun x c e=>?_,?_,fun x c e=>?_,fun p hp=>?_,I2.hok.laid old (Nat.le_refl _) ⟨Nat.zero_le _,hbig,[],.nil,hacc⟩,?_⟩
  ·-- the names of the def around
   have hiL:L≤i:=by
    by_cases hlt:i<L
    ·exfalso
     unfold fY at e2
     rw [List.getElem?_append_left (by simpa using hlt),List.getElem?_replicate,if_pos hlt] at e2
     cases e2
    ·trivial
   have e2':(src.map fun j=>(σ[j]?).join)[i - L]?=some (some v):=by
    unfold fY at e2
    rw [List.getElem?_append_right (by simpa using hiL),List.length_replicate] at e2
    exact e2
   rw [List.getElem?_map] at e2'
   cases hj:src[i - L]? with
   | none=>rw [hj] at e2';cases e2'
   | some j=>
    rw [hj] at e2'
    have e3':(σ[j]?).join=some v:=Option.some.inj e2'
    have hσ:σ[j]?=some (some v):=by
     cases q:σ[j]? with
     | none=>rw [q] at e3';cases e3'
     | some o=>rw [q] at e3';exact congrArg some e3'
    obtain ⟨x',g1,g2,g3⟩:=ck.frees (i - L) j hj
    have:L+(i - L)=i:=by trivial
    rw [this] at g1
    have ex:x'=x:=Option.some.inj (g1.symm.trans e1)
    subst ex
    have hfree:=ck.free _ (PySem.mem_of_lookup g3) rfl
    obtain ⟨m,hn,hl⟩:=I2.loc
    obtain ⟨u,r,l⟩:=hl j x' v g2 hσ (hfree.elim (fun z=>.inr (.inl z)) fun z=>.inr (.inr z))
    refine ⟨u,r,.inr ⟨?_,?_⟩⟩
    ·-- its kind in the block
     have key:∀(names:List (Str×NameKind)),names.lookup x'=some .free→
      ((names.map fun (n,k)=>if (k==NameKind.free && X.env.scope.kind==.function && X.env.kindOf n==some .cell) then (n,NameKind.cell) else (n,k)).lookup x'=some .cell∨
       (names.map fun (n,k)=>if (k==NameKind.free && X.env.scope.kind==.function && X.env.kindOf n==some .cell) then (n,NameKind.cell) else (n,k)).lookup x'=some .free):=by
      intro names
      induction names with
      | nil=>intro h;simp at h
      | cons y r ih=>
       intro h
       obtain ⟨n,k⟩:=y
       by_cases hb:x'=n
       ·subst hb
        simp only [List.lookup_cons,beq_self_eq_true,if_true] at h
        have hk:k=.free:=Option.some.inj h
        subst hk
        rw [List.map_cons]
        dsimp only
        by_cases hcnd:(NameKind.free==NameKind.free && X.env.scope.kind==.function && X.env.kindOf x'==some .cell)=true
        ·rw [if_pos hcnd];left;simp [List.lookup_cons]
        ·rw [if_neg hcnd];right;simp [List.lookup_cons]
       ·have hb':(x'==n)=false:=by simpa using hb
        have h':=ih (by simpa only [List.lookup_cons,hb'] using h)
        rw [List.map_cons]
        dsimp only
        by_cases hcnd:(k==NameKind.free && X.env.scope.kind==.function && X.env.kindOf n==some .cell)=true
        ·rw [if_pos hcnd];simpa only [List.lookup_cons,hb'] using h'
        ·rw [if_neg hcnd];simpa only [List.lookup_cons,hb'] using h'
     exact key scope.names g3
    ·obtain ⟨c,hcl⟩:=hhas _ (PySem.mem_of_lookup g3) rfl
     have hcx:=hsub _ _ hcl
     rcases l with ⟨k1,_⟩ | ⟨_,c',e4,z⟩
     ·exfalso
      have k1':X.env.scope.names.lookup x'=some .local:=k1
      rcases hfree with z | z
      ·rw [z] at k1';cases k1'
      ·rw [z] at k1';cases k1'
     ·rw [hcx] at e4
      cases e4
      obtain ⟨o,ho,hd⟩:=z
      exact ⟨c,hcl,o,old _ _ ho,hd⟩
  ·obtain ⟨v,o,ho,hd⟩:=I2.cell x c (hsub _ _ e)
   exact ⟨v,o,old _ _ ho,hd⟩
  ·show aN H2 s2.heap.objs.size (.dK []) hp2.objs.size=none
   rw [ao (Ne.symm hDC)]
   exact I2.hok.fresh hCle
  ·obtain ⟨v,o,ho,hd⟩:=I2.cell x c (hsub _ _ e)
   exact upn c (Heap.lt_size ho) (I2.freeC x c (hsub _ _ e))
  ·have hp':p∈X.pn++pins:=by simpa [cG] using hp
   obtain ⟨e,n,ne,nf,d⟩:=I2.pin p hp'
   have hlt:=Heap.lt_size e
   refine ⟨old _ _ e,upn _ hlt n,(below _ hlt).1,fun z=>?_,d⟩
   rcases List.mem_cons.mp (I2.stkSub _ z) with z' | z'
   ·exact ne z'
   ·exact nf z'
  ·show (fY L src σ).length=N'.length
   unfold fY
   rw [List.length_append,List.length_replicate,List.length_map,ck.len]
 have eA:X'.A=X.A:=by subst hX;rfl
 have eP:X'.prog=X.prog:=by subst hX;rfl
 have eW:X'.w=X.w:=by subst hX;rfl
 have eK:X'.K=X.K:=by subst hX;rfl
 have ec:X'.calm=true:=by subst hX;exact hc
 have exe:X'.xe=fun _ _=>False:=by subst hX;rfl
 have eE:X'.env=compEnvC scope cl hp2.objs.size X.env:=by subst hX;rfl
 have hg':PG X' tg g:=by subst hX;exact hg _ _ _ _ _ _
 have hif':mF X' ifs tt:=by subst hX;exact hif _ _ _ _ _ _
 have hk':PE X' kx tk:=by subst hX;exact hk _ _ _ _ _ _
 have hv':PE X' vx tv:=by subst hX;exact hv _ _ _ _ _ _
 have aft:∀{H':Hp}{s':Shared},af X' [] (fY L src σ) H' s'→af X pins σ H' s'∧(∃m,s'.heap.Ns hp2.objs.size m)∧iV X pins H' hp2.objs.size:=by
  subst hX
  intro H' s' J
  refine ⟨I2.call' (ch:=fp) J.os J.base J.hok J.bare fun b hb=>⟨(f2 b hb).2.2.2.1,(f2 b hb).2.1,(f2 b hb).2.2.2.2.1,(f2 b hb).2.2.2.2.2⟩,?_,I2.fpOk hCle J.free⟩
  obtain ⟨m,hn,_⟩:=J.loc
  exact ⟨m,hn⟩
 have st1:tn 0 h₁:=T.keep _ _ _ st2 fun b hb o e=>old b o e
 have loop:∀s₃:Shared,s₃={ s2 with heap:=h₁,toks:=s2.toks+([]:List (Str×Value)).length }→
  codeAny (model X.prog X.w) X.A (.compLoop (.DictComp kx vx [⟨tg,iter,ifs,0⟩] scope pos) 0 (.ref it) (.ref s2.heap.objs.size) (compEnvC scope cl hp2.objs.size X.env))
   (RR (.ref s2.heap.objs.size) hp2.objs.size) s₃:=by
  rintro s₃ rfl
  refine u9 (fun n s'=>fJ fun i H' ys=>af X' [] (fY L src σ) H' s'∧tn i s'.heap∧(∀b∈fp,H' b=none)∧W i n H' ys) ?_ m0
   ⟨0,_,[],I1,st1,fun b hb=>(by rw [ao (below b (fplt b hb)).2];exact (f2 b hb).1),w0⟩
  rintro n s3 ⟨i,H3,ys,I3,st3,fr3,w3⟩
  obtain ⟨hD,alt⟩:=turn i n H3 ys w3
  rcases alt with ⟨stop,qn⟩ | ⟨go,hlen,N,hN,step⟩
  ·have d:=T.done X' eP eW eK ec i [] s3 (fY L src σ) H3 (fun _ _=>False) I3 (stat fr3) st3 stop
   rw [eA] at d
   refine aW d fun r s4 ⟨hr,I4⟩=>?_
   subst hr
   obtain ⟨J,⟨m,hn⟩,fpC⟩:=aft I4
   exact hRR _ _ H3 .next s4 m J hn fpC qn
  ·have d:=T.item X' eP eW eK ec i [] s3 (fY L src σ) H3 (fun _ _=>False) I3 (stat fr3) st3 go
   rw [eA] at d
   refine aW d fun r s4 ⟨u,hr,h4⟩=>?_
   subst hr
   refine aW h4 fun _ s5 ⟨x,H5,I5,r5,y5,st5,fr5⟩=>?_
   have I5':=I5.pinned (stat fr5) (T.obj _ _ st5)
   have a1:=hg' _ s5 (fY L src σ) H5 x u _ I5' r5 (step x H5 y5)
   rw [eP,eW,eA,eE,exe] at a1
   refine aW a1 fun _ s6 ⟨σ6,H6,I6,bk,q6⟩=>?_
   have a2:=hif' _ s6 σ6 H6 _ I6 q6
   rw [eP,eW,eA,eE,exe] at a2
   refine aW a2 fun b s7 ⟨H7,I7,q7⟩=>?_
   have again:∀{H8:Hp}{s8:Shared}{ys':List (aU×V)},af X' ([]++mO fp s5.heap) σ6 H8 s8→N H8 ys'→∃m,m<n∧fJ fun i H' ys=>af X' [] (fY L src σ) H' s8∧tn i s8.heap∧(∀b∈fp,H' b=none)∧W i m H' ys:=fun {H8 s8 ys'} I8 n8=>by
    obtain ⟨m',hm,w8⟩:=hN H8 ys' n8
    refine ⟨m',hm,i+1,H8,ys',(I8.unpinned).weak bk.1.symm bk.2,T.keep _ _ _ st5 fun b hb o e=>(I8.pin (b,o) (List.mem_append_right _ (List.mem_append_right _ (gI hb e)))).1,fun b hb=>?_,w8⟩
    obtain ⟨o,e,d⟩:=T.obj _ _ st5 b hb
    exact (I8.pin (b,o) (List.mem_append_right _ (List.mem_append_right _ (gI hb e)))).2.1
   cases b with
   | false=>
    rw [if_neg Bool.false_ne_true] at q7 ⊢
    exact again I7 q7
   | true=>
    rw [if_pos rfl] at q7 ⊢
    have a3:=hk' _ s7 σ6 H7 _ I7 q7
    rw [eP,eW,eA,eE,exe] at a3
    refine aW a3 fun kv s8 ⟨yk,H8,I8,r8,k,ek,q8⟩=>?_
    subst ek
    have a4:=hv' _ s8 σ6 H8 _ I8 q8
    rw [eP,eW,eA,eE,exe] at a4
    refine aW a4 fun vv s9 ⟨y,H9,I9,r9,hD9,q9⟩=>?_
    obtain ⟨hz,hm,vs,rel,dd⟩:=(show bh X'.prog X'.w H9 s9.heap s2.heap.objs.size (.dK ys) from I9.hok _ _ hD9)
    rw [eP,eW] at dd
    refine wpAny_dictSet_pairs (knd:=bQ X.prog X.w) (hsz:=by rw [←rel.length];exact hz) (l4 r8) dd fun h' hd' sb=>?_
    have hd2:h'.DictOf (bQ X'.prog X'.w) s2.heap.objs.size (stored vs k vv):=by rw [eP,eW];exact hd'
    exact again (I9.dset (t':=s9.toks+1) hD9 hm (uz hlen) (uH rel r9) hd2 sb) q9
 exact codeAny_compStart_dict (loop _ rfl) (T.self _ 0 _ _ _ st1 (loop _ rfl))
theorem AM (hc:X.calm=true) (ck:qp X.env.scope X.N scope N' L src=true) (hi:PI X tg iter wi) (hg:∀cl C s H ex pn,PG (cG X scope cl C N' s H ex pn) tg g) (hif:∀cl C s H ex pn,mF (cG X scope cl C N' s H ex pn) ifs tt)
 (hk:∀cl C s H ex pn,PE (cG X scope cl C N' s H ex pn) kx tk) (hv:∀cl C s H ex pn,PE (cG X scope cl C N' s H ex pn) vx tv) (hs:∀x,foldedSetIterable iter X.env x=pure x:=by intro _;rfl) :
 PE X (.DictComp kx vx [⟨tg,iter,ifs,0⟩] scope pos) (vt wi L src g tt tk tv):=by
 intro pins s σ H Q I h
 have ck:=uJ ck
 obtain ⟨cl,hclos,hsub,hhas⟩:=qd (scope:=scope) (env:=X.env) fun y hy e=>I.ok.has y.1 (ck.free y hy e)
 rw [arm_eval_DictComp]
 refine wpAny_comprehension_free (use:=none) rfl hs hclos ck.kind ck.loc (tW hc ck I hsub hhas hi hg hif hk hv h (RR:=fun acc C=>compPost (model X.prog X.w) X.A X.xe none (EP X pins σ Q) acc C) ?_)
 intro D C H' f s' m J hn fpC q
 refine ⟨m,hn,fun h' hsb=>⟨.ref D,H',?_,rfl,q⟩⟩
 obtain ⟨f0,f1,f2,f3,f4,f5⟩:=fpC
 exact J.turned (t':=s'.toks) (fun b o hb e=>(hsb.2 b hb).trans e) f0 f1 f3 f4 f5
theorem wV {j:Nat}{y:Str}{py spos:Pos} (hN:X.N.Nodup) (hj:X.N[j]?=some y) (hy:X.env.scope.names.lookup y=some .local) (hsw:swapsWith (.DictComp kx vx [⟨tg,iter,ifs,0⟩] scope pos) (some (.Name y py)) spos.line X.env=pure true)
 (hc:X.calm=true) (ck:qp X.env.scope X.N scope N' L src=true) (hi:PI X tg iter wi) (hg:∀cl C s H ex pn,PG (cG X scope cl C N' s H ex pn) tg g) (hif:∀cl C s H ex pn,mF (cG X scope cl C N' s H ex pn) ifs tt)
 (hk:∀cl C s H ex pn,PE (cG X scope cl C N' s H ex pn) kx tk) (hv:∀cl C s H ex pn,PE (cG X scope cl C N' s H ex pn) vx tv) (hs:∀x,foldedSetIterable iter X.env x=pure x:=by intro _;rfl) :
 PS X (.Assign [.Name y py] (.DictComp kx vx [⟨tg,iter,ifs,0⟩] scope pos) spos) (wf (vt wi L src g tt tk tv) (qt j)):=by
 intro pins s σ H D I h
 have ck:=uJ ck
 obtain ⟨cl,hclos,hsub,hhas⟩:=qd (scope:=scope) (env:=X.env) fun y hy e=>I.ok.has y.1 (ck.free y hy e)
 rw [exec_Assign_Name_used _ _ _ _ hsw]
 refine wpAny_bind (wpAny_standAt (wpAny_bind ?_))
 show wpAny _ X.A (do let _ ←comprehension (.DictComp kx vx [⟨tg,iter,ifs,0⟩] scope pos) scope X.env _ newDict false (eval iter X.env) (some (assign (.Name y py) X.env))) _ _ s
 refine wpAny_bind (wpAny_mono (wpAny_comprehension_free (use:=some (assign (.Name y py) X.env)) (Q:=fun _ s'=>SP X pins D .next s') rfl hs hclos ck.kind ck.loc
  (tW hc ck I hsub hhas hi hg hif hk hv h (RR:=fun acc C=>compPost (model X.prog X.w) X.A X.xe (some (assign (.Name y py) X.env)) (fun _ s'=>SP X pins D .next s') acc C) ?_)) (fun _ s' hq=>wpAny_pure (wpAny_pure hq)) fun _ _ e=>e)
 intro L' C H' f s' m J hn fpC q
 show wpAny _ X.A (assign (.Name y py) X.env (.ref L')) _ _ _
 refine wpAny_assign_Name (ph J hN hj (.inl hy) (v:=.ref L') rfl (fun s2 J2 hsb=>?_) (.inr hy))
 obtain ⟨f0,f1,f2,f3,f4,f5⟩:=fpC
 obtain ⟨a,hsb,ha⟩:=hsb
 have hCa:C≠a:=by
  rcases ha with rfl | ha
  ·exact f1
  ·exact fun z=>f4 _ _ ha z.symm
 refine ⟨m,hn.sameBut hsb hCa,fun h' hsb'=>⟨_,H',?_,q⟩⟩
 exact J2.turned (t':=s2.toks) (fun b o hb e=>(hsb'.2 b hb).trans e) f0 f1 f3 f4 f5
end
end L2
namespace KM
theorem mul_le_l {a b c:Rat} (h:a≤b) (hc:0≤c):c*a≤c*b:=Rat.mul_le_mul_of_nonneg_left h hc
variable {ls:List (List Nat)}{es done:List Edge}{W u:List Nat→Rat}{S:List (List Nat)}{q:List Nat}{m:Rat}
end KM
namespace L2
open PySem PySem.Spec PyProof.Rows
section
variable {z:Nat}{E:Addr→Prop}{H H':Hp}{n m k:Nat}{v:V}{xs ys:List V}
end
section
variable {X:Cx}{K:PySem.W.Frag}
end
end L2
namespace L2
open PySem PySem.Spec PyProof.Rows
def Fh:TS:=fun _ _ _=>False
section
variable {X:Cx}
theorem xi {st:Stmt}:PS X st Fh:=fun _ _ _ _ _ _ h=>h.elim
inductive C8 (x:V) (vs:List V) (H:Hp) (Q:VK):Prop
 | mk (l:_) (xs:_) (y:_) (h0:x=.ref l) (h1:vs=[y]) (h2:H l=some (.lst xs)) (h3:xs.length≤16700000) (h4:∀H',Ch H l (xs++[y]) H'→Q .non H')
def Fu:V→List V→Hp→VK→Prop:=fun x vs H Q=>C8  x vs H Q
theorem sx:wj X "list.append" Fu:=fun pins s σ H x vs v us Q I rx rv ⟨l,xs,y,e1,e2,h,hz,q⟩=>pp pins s σ H x vs v us Q I rx rv ⟨l,xs,y,e1,e2,h,(by rw [sizeLine_eq];trivial),q _ .mk'⟩
inductive Ds (x:V) (vs:List V) (H:Hp) (Q:VK):Prop
 | mk (l:_) (xs:_) (y:_) (h0:x=.ref l) (h1:vs=[]) (h2:H l=some (.lst (xs++[y]))) (h3:∀H',Ch H l xs H'→Q y H')
def E4:V→List V→Hp→VK→Prop:=fun x vs H Q=>Ds  x vs H Q
theorem BV:wj X "list.pop" E4:=fun pins s σ H x vs v us Q I rx rv ⟨l,xs,y,e1,e2,h,q⟩=>Db pins s σ H x vs v us Q I rx rv ⟨l,xs++[y],y,e1,e2,h,by simp,by
 rw [List.dropLast_concat];exact q _ .mk'⟩
inductive AC (x:V) (vs:List V) (H:Hp) (Q:VK):Prop
 | mk (l:Addr) (ks:List (List Nat)) (k:List Nat) (j:Nat) (h0:x=.ref l) (h1:vs=[aA k]) (h2:H l=some (.lst (ks.map aA))) (h3:ks.length≤10000) (h4:ks[j]?=some k) (h5:ks.Nodup) (h6:Q (.int (j:Int)) H)
def Cf:V→List V→Hp→VK→Prop:=fun x vs H Q=>AC  x vs H Q
theorem yP:wj X "list.index" Cf:=by
 intro pins s σ H x vs v us Q I rx rv h
 obtain ⟨l,ks,k,j,rfl,rfl,hH,hz,hj,nd,q⟩:=h
 cases rx
 obtain ⟨u,rfl,ru⟩:=rv.one
 obtain ⟨t,rfl⟩:=ru
 obtain ⟨z,its,n,r,hl,e⟩:=I.lstM hH
 have hlen:ks.length=its.length:=by rw [←hl,List.length_map]
 have isI:∀(m:Nat) (w:Value),its[m]?=some w→bo fun i t'=>ks[m]?=some i∧w=.str (S i) t':=fun m w hw=>by
  obtain ⟨i,hi⟩:∃i,ks[m]?=some i:=⟨_,List.getElem?_eq_getElem (by rw [hlen];exact (List.getElem?_eq_some_iff.mp hw).1)⟩
  obtain ⟨w',hw',rw'⟩:=r.get (show (ks.map aA)[m]?=some (aA i) by rw [List.getElem?_map,hi];rfl)
  rw [hw] at hw'
  cases hw'
  obtain ⟨t',rfl⟩:=rw'
  exact ⟨i,t',hi,rfl⟩
 have hji:j<its.length:=by rw [←hlen];exact (List.getElem?_eq_some_iff.mp hj).1
 refine call_meets F.slot_list_index ⟨_,e,rfl⟩ F.entry_list_index (F.args_list_index_2 _ _)
  (MeetsSeq.list_index l its.toArray n (.str (S k) t) (fun y=>match y with | .str i _=>i==S k | _=>false) (fun y hy=>?_) j (by simpa using hji) (by trivial) ?_ (fun m hm hlt=>?_)) ⟨e,?_⟩
 ·obtain ⟨m,hm⟩:=List.getElem?_of_mem (by simpa using hy:y∈its)
  obtain ⟨i,t',_,rfl⟩:=isI m y hm
  exact eqGives_str (S i) (S k) t' t
 ·obtain ⟨i,t',e1,e2⟩:=isI j its[j] (List.getElem?_eq_getElem hji)
  rw [hj] at e1
  cases e1
  simp only [List.getElem_toArray,e2,beq_self_eq_true]
 ·have hm':m<its.length:=by simpa using hm
  obtain ⟨i,t',e1,e2⟩:=isI m its[m] (List.getElem?_eq_getElem hm')
  simp only [List.getElem_toArray,e2]
  apply beq_eq_false_iff_ne.mpr
  intro q
  have q':i=k:=qh q
  subst q'
  have a1:=List.getElem?_eq_some_iff.mp e1
  have a2:=List.getElem?_eq_some_iff.mp hj
  have:=jO nd a1.1 a2.1 (by rw [a1.2,a2.2])
  trivial
 ·exact ⟨.int (j:Int),H,I.tok _,⟨_,rfl⟩,q⟩
end
end L2
namespace L2
open PySem
theorem yX {a b c:Rat} (h:a<b) (k:b≤c):a<c:=by grind
theorem ua {a b c:Rat} (h:a≤b) (k:b<c):a<c:=by grind
theorem yB {p q:KM.Fra} (hp:1≤p.2) (hq:1≤q.2):KM.vl p≤KM.vl q↔p.1*q.2≤q.1*p.2:=by
 have e:KM.vl q - KM.vl p=Rat.divInt (q.1*p.2 - p.1*q.2) (q.2*p.2):=by
  unfold KM.vl
  rw [Rat.divInt_sub_divInt _ _ (by trivial) (by trivial)]
 have h:=Rat.divInt_nonneg_iff_of_pos_right (a:=q.1*p.2 - p.1*q.2) (b:=q.2*p.2) (Int.mul_pos (by trivial) (by trivial))
 rw [←e] at h
 constructor
 ·intro z
  have:=h.mp (by grind)
  trivial
 ·intro z
  have:=h.mpr (by trivial)
  grind
theorem lE {p q:KM.Fra} (hp:1≤p.2) (hq:1≤q.2):KM.vl p<KM.vl q↔p.1*q.2<q.1*p.2:=by
 have:=yB hq hp
 constructor
 ·intro z
  have n:¬KM.vl q≤KM.vl p:=Rat.not_le.mpr z
  rw [this] at n
  trivial
 ·intro z
  apply Rat.not_le.mp
  rw [this]
  trivial
theorem kr {p:KM.Fra} (h:1≤p.1) (k:1≤p.2):0<KM.vl p:=by
 have:=(lE (p:=(0,1)) (q:=p) (by decide) k).mpr (by show 0*p.2<p.1*1;trivial)
 rw [KM.vl_zero] at this
 exact this
abbrev ud:=List Nat→KM.Fra
def dH (ω:ud) (b:List Nat) (v:KM.Fra):ud:=fun l=>if l=b then v else ω l
def cE (ω:ud) (t:ag):Bool:=decide (t.most≠(0,1)) && decide ((ω t.bg).1*(KM.lTim t.gain (ω t.en)).2<(KM.lTim t.gain (ω t.en)).1*(ω t.bg).2)
structure LS where
 ω:ud
 on:List Nat→Option Nat
 lf:Option (List Nat)
 la:List Nat→Nat
 tm:List Nat→Nat
 ct:Nat
def iI (p i:Nat) (t:ag) (s:LS):LS:=if cE s.ω t=true then ⟨dH s.ω t.bg (KM.lTim t.gain (s.ω t.en)),fun l=>if l=t.bg then some i else s.on l,some t.bg,fun l=>if l=t.bg then p else s.la l,fun l=>if l=t.bg then s.ct+1 else s.tm l,s.ct+1⟩ else s
def upTo (p:Nat) (ts:List ag) (s:LS):Nat→LS
 | 0=>{ s with lf:=none }
 | i+1=>match ts[i]? with
  | some t=>iI p i t (upTo p ts s i)
  | none=>upTo p ts s i
theorem jI {p i:Nat}{ts:List ag}{s:LS}{t:ag} (h:ts[i]?=some t):upTo p ts s (i+1)=iI p i t (upTo p ts s i):=by
 rw [upTo,h]
def ib (p:Nat) (ts:List ag) (s:LS):LS:=upTo p ts s ts.length
def HC:LS:=⟨fun _=>(1,1),fun _=>none,none,fun _=>0,fun _=>0,0⟩
def aO (ts:List ag):Nat→LS
 | 0=>HC
 | k+1=>ib (k+1) ts (aO ts k)
theorem jF {p i:Nat}{t:ag}{s:LS} (h:cE s.ω t=true):iI p i t s=⟨dH s.ω t.bg (KM.lTim t.gain (s.ω t.en)),fun l=>if l=t.bg then some i else s.on l,some t.bg,fun l=>if l=t.bg then p else s.la l,fun l=>if l=t.bg then s.ct+1 else s.tm l,s.ct+1⟩:=by
 unfold iI;rw [if_pos h]
theorem io {p i:Nat}{t:ag}{s:LS} (h:cE s.ω t=false):iI p i t s=s:=by
 unfold iI;rw [if_neg (by rw [h];decide)]
theorem pH {p:Nat}{ts:List ag}{s:LS}:∀{i:Nat},(upTo p ts s i).lf=none→(upTo p ts s i).ω=s.ω∧∀k t,k<i→ts[k]?=some t→cE s.ω t=false
 | 0,_=>⟨rfl,fun k t h=>by trivial⟩
 | i+1,h=>by
  cases e:ts[i]? with
  | none=>
   have e':upTo p ts s (i+1)=upTo p ts s i:=by rw [upTo,e]
   rw [e'] at h ⊢
   obtain ⟨h1,h2⟩:=pH h
   refine ⟨h1,fun k t hk et=>?_⟩
   by_cases c:k=i
   ·rw [c,e] at et;cases et
   ·exact h2 k t (by trivial) et
  | some t=>
   rw [jI e] at h ⊢
   cases q:cE (upTo p ts s i).ω t with
   | true=>rw [jF q] at h;cases h
   | false=>
    rw [io q] at h ⊢
    obtain ⟨h1,h2⟩:=pH h
    refine ⟨h1,fun k t' hk et=>?_⟩
    by_cases c:k=i
    ·rw [c,e] at et;cases et;rw [←h1];exact q
    ·exact h2 k t' (by trivial) et
theorem lF {p:Nat}{ts:List ag}{s:LS} (h:(ib p ts s).lf=none):(ib p ts s).ω=s.ω∧∀t∈ts,cE s.ω t=false:=by
 obtain ⟨h1,h2⟩:=pH h
 refine ⟨h1,fun t ht=>?_⟩
 obtain ⟨k,hk⟩:=List.getElem?_of_mem ht
 exact h2 k t (List.getElem?_eq_some_iff.mp hk).1 hk
structure jB (ls:List (List Nat)) (t:ag):Prop where
 b:t.bg∈ls
 e:t.en∈ls
 ne:t.bg≠t.en
 g1:1≤t.gain.1
 g2:1≤t.gain.2
abbrev uW (s:LS) (l:List Nat):Rat:=KM.vl (s.ω l)
abbrev gR (t:ag):Rat:=KM.vl t.gain
structure BI (ls:List (List Nat)) (ts:List ag) (p i:Nat) (s:LS):Prop where
 pos:∀l∈ls,1≤(s.ω l).1∧1≤(s.ω l).2
 on:∀l k,s.on l=some k→∃t,ts[k]?=some t∧t.most≠(0,1)∧t.bg=l∧uW s l≤gR t*uW s t.en∧(s.tm l≤s.tm t.en→uW s l<gR t*uW s t.en)∧s.la l≤s.la t.en+1
 la1:∀l,1≤s.la l→s.on l≠none
 up:∀k t,ts[k]?=some t→t.most≠(0,1)→gR t*uW s t.en≤uW s t.bg∨(if k<i then p else p - 1)≤s.la t.en
 lap:∀l,s.la l≤p
 tmc:∀l,s.tm l≤s.ct
 lf:∀b,s.lf=some b→s.la b=p∧b∈ls
theorem rN {ls:List (List Nat)}{t:ag}{ω:ud} (c:jB ls t) (pos:∀l∈ls,1≤(ω l).1∧1≤(ω l).2):KM.vl (KM.lTim t.gain (ω t.en))=KM.vl t.gain*KM.vl (ω t.en)∧1≤(KM.lTim t.gain (ω t.en)).2∧1≤(KM.lTim t.gain (ω t.en)).1:=by
 obtain ⟨p1,p2⟩:=pos t.en c.e
 have g2:=c.g2
 exact ⟨KM.vl_tim (by trivial) (by trivial),(KM.low_spec _ _ (Int.mul_ne_zero (by trivial) (by trivial))).1,tQ c.g1 c.g2 p1 p2⟩
theorem pX {ls:List (List Nat)}{t:ag}{ω:ud} (c:jB ls t) (pos:∀l∈ls,1≤(ω l).1∧1≤(ω l).2):cE ω t=true↔(t.most≠(0,1)∧KM.vl (ω t.bg)<KM.vl t.gain*KM.vl (ω t.en)):=by
 obtain ⟨e1,e2,e3⟩:=rN c pos
 unfold cE
 rw [Bool.and_eq_true,decide_eq_true_iff,decide_eq_true_iff,←e1,lE (pos t.bg c.b).2 e2]
theorem BI.step {ls:List (List Nat)}{ts:List ag}{p i:Nat}{s:LS}{t:ag} (hp:1≤p) (c:jB ls t) (et:ts[i]?=some t) (tc:∀t∈ts,jB ls t) (h:BI ls ts p i s):BI ls ts p (i+1) (iI p i t s):=by
 have hlt:=pX c h.pos
 cases q:cE s.ω t with
 | false=>
  rw [io q]
  refine ⟨h.pos,h.on,h.la1,fun k t' ek ho=>?_,h.lap,h.tmc,h.lf⟩
  by_cases ck:k=i
  ·subst ck
   rw [et] at ek
   cases ek
   left
   rw [q] at hlt
   have:¬(KM.vl (s.ω t.bg)<KM.vl t.gain*KM.vl (s.ω t.en)):=fun z=>by
    have:=hlt.mpr ⟨ho,z⟩
    cases this
   exact Rat.not_lt.mp this
  ·rcases h.up k t' ek ho with z | z
   ·exact .inl z
   ·right
    by_cases ck2:k<i
    ·rw [if_pos (by trivial)];rw [if_pos ck2] at z;exact z
    ·rw [if_neg (by trivial)];rw [if_neg ck2] at z;exact z
 | true=>
  rw [q] at hlt
  obtain ⟨ho,hl⟩:=hlt.mp rfl
  obtain ⟨e1,e2,e3⟩:=rN c h.pos
  rw [jF q]
  have ub:∀l,l=t.bg→uW ⟨dH s.ω t.bg (KM.lTim t.gain (s.ω t.en)),fun l=>if l=t.bg then some i else s.on l,some t.bg,fun l=>if l=t.bg then p else s.la l,fun l=>if l=t.bg then s.ct+1 else s.tm l,s.ct+1⟩ l=gR t*uW s t.en:=fun l e=>by
   show KM.vl (dH _ _ _ l)=_
   unfold dH
   rw [if_pos e]
   exact e1
  have un:∀l,l≠t.bg→uW ⟨dH s.ω t.bg (KM.lTim t.gain (s.ω t.en)),fun l=>if l=t.bg then some i else s.on l,some t.bg,fun l=>if l=t.bg then p else s.la l,fun l=>if l=t.bg then s.ct+1 else s.tm l,s.ct+1⟩ l=uW s l:=fun l e=>by
   show KM.vl (dH _ _ _ l)=_
   unfold dH
   rw [if_neg e]
  generalize es:(⟨dH s.ω t.bg (KM.lTim t.gain (s.ω t.en)),fun l=>if l=t.bg then some i else s.on l,some t.bg,fun l=>if l=t.bg then p else s.la l,fun l=>if l=t.bg then s.ct+1 else s.tm l,s.ct+1⟩:LS)=s' at ub un ⊢
  have a1:s'.ω=dH s.ω t.bg (KM.lTim t.gain (s.ω t.en)):=by rw [←es]
  have a2:∀l,s'.on l=if l=t.bg then some i else s.on l:=fun l=>by rw [←es]
  have a3:∀l,s'.la l=if l=t.bg then p else s.la l:=fun l=>by rw [←es]
  have a4:∀l,s'.tm l=if l=t.bg then s.ct+1 else s.tm l:=fun l=>by rw [←es]
  have a5:s'.ct=s.ct+1:=by rw [←es]
  have a6:s'.lf=some t.bg:=by rw [←es]
  have mono:∀l,uW s l≤uW s' l:=fun l=>by
   by_cases cl:l=t.bg
   ·rw [ub l cl,cl];exact Rat.le_of_lt hl
   ·rw [un l cl];exact Rat.le_refl
  have lamono:∀l,s.la l≤s'.la l:=fun l=>by
   rw [a3]
   by_cases cl:l=t.bg
   ·rw [if_pos cl];exact h.lap l
   ·rw [if_neg cl];exact Nat.le_refl _
  have gpos:∀{t:ag},t∈ts→0<gR t:=fun {t} ht=>kr (tc t ht).g1 (tc t ht).g2
  refine ⟨fun l hl'=>?_,fun l k hk=>?_,fun l h1=>?_,fun k t' ek ho'=>?_,fun l=>?_,fun l=>?_,fun b hb=>?_⟩
  ·rw [a1]
   unfold dH
   by_cases cl:l=t.bg
   ·rw [if_pos cl];exact ⟨e3,e2⟩
   ·rw [if_neg cl];exact h.pos l hl'
  ·rw [a2] at hk
   by_cases cl:l=t.bg
   ·rw [if_pos cl] at hk
    cases hk
    have ne:t.en≠t.bg:=fun z=>c.ne z.symm
    refine ⟨t,et,ho,cl.symm,?_,fun z=>?_,?_⟩
    ·rw [ub l cl,un t.en ne];exact Rat.le_refl
    ·rw [a4,a4,if_pos cl,if_neg ne] at z
     have:=h.tmc t.en
     trivial
    ·rw [a3,a3,if_pos cl,if_neg ne]
     rcases h.up i t et ho with z | z
     ·exact absurd hl (Rat.not_lt.mpr z)
     ·rw [if_neg (Nat.lt_irrefl _)] at z
      trivial
   ·rw [if_neg cl] at hk
    obtain ⟨t',e',o',b',l',s',r'⟩:=h.on l k hk
    have gp:=gpos (List.mem_of_getElem? e')
    have hm:=KM.mul_le_l (mono t'.en) (Rat.le_of_lt gp)
    refine ⟨t',e',o',b',?_,fun z=>?_,?_⟩
    ·rw [un l cl];exact Rat.le_trans l' hm
    ·rw [un l cl]
     rw [a4,a4,if_neg cl] at z
     by_cases ce:t'.en=t.bg
     ·rw [ub t'.en ce]
      have:uW s t'.en<gR t*uW s t.en:=by rw [ce];exact hl
      have h2:=Rat.mul_lt_mul_of_pos_left this gp
      exact ua l' h2
     ·rw [un t'.en ce]
      rw [if_neg ce] at z
      exact s' z
    ·rw [a3 l,if_neg cl]
     exact Nat.le_trans r' (Nat.add_le_add_right (lamono _) 1)
  ·rw [a2]
   by_cases cl:l=t.bg
   ·rw [if_pos cl];intro z;cases z
   ·rw [if_neg cl]
    rw [a3,if_neg cl] at h1
    exact h.la1 l h1
  ·by_cases ck:k=i
   ·subst ck
    rw [et] at ek
    cases ek
    left
    rw [ub t.bg rfl,un t.en (fun z=>c.ne z.symm)]
    exact Rat.le_refl
   ·by_cases ce:t'.en=t.bg
    ·right
     rw [a3,if_pos ce]
     split <;> trivial
    ·rcases h.up k t' ek ho' with z | z
     ·left
      rw [un t'.en ce]
      exact Rat.le_trans z (mono _)
     ·right
      rw [a3,if_neg ce]
      by_cases ck2:k<i
      ·rw [if_pos (by trivial)];rw [if_pos ck2] at z;exact z
      ·rw [if_neg (by trivial)];rw [if_neg ck2] at z;exact z
  ·rw [a3]
   by_cases cl:l=t.bg
   ·rw [if_pos cl];exact Nat.le_refl _
   ·rw [if_neg cl];exact h.lap l
  ·rw [a4,a5]
   by_cases cl:l=t.bg
   ·rw [if_pos cl];exact Nat.le_refl _
   ·rw [if_neg cl];have:=h.tmc l;trivial
  ·rw [a6] at hb
   cases hb
   exact ⟨by rw [a3,if_pos rfl],c.b⟩
theorem BI.all {ls:List (List Nat)}{ts:List ag} (tc:∀t∈ts,jB ls t) (p:Nat):∀i,i≤ts.length→BI ls ts p ts.length (aO ts p)→BI ls ts (p+1) i (upTo (p+1) ts (aO ts p) i)
 | 0,_,h=>⟨h.pos,h.on,h.la1,fun k t e o=>by
  rcases h.up k t e o with z | z
  ·exact .inl z
  ·right
   rw [if_pos (List.getElem?_eq_some_iff.mp e).1] at z
   rw [if_neg (by trivial)]
   exact z,fun l=>by have:=h.lap l;exact Nat.le_succ_of_le this,h.tmc,fun b hb=>by cases hb⟩
 | i+1,hi,h=>by
  have ih:=BI.all tc p i (by trivial) h
  have e:ts[i]?=some ts[i]:=List.getElem?_eq_getElem (by trivial)
  rw [jI e]
  exact ih.step (by trivial) (tc _ (List.getElem_mem _)) e tc
theorem BI.st {ls:List (List Nat)}{ts:List ag} (tc:∀t∈ts,jB ls t):∀p,BI ls ts p ts.length (aO ts p)
 | 0=>⟨fun l _=>⟨by show (1:Int)≤1;decide,by show (1:Int)≤1;decide⟩,(fun l k h=>by cases h),(fun l h=>by exact absurd h (by show ¬1≤0;decide)),(fun k t e o=>.inr (by split <;> exact Nat.zero_le _)),fun l=>Nat.le_refl _,fun l=>Nat.le_refl _,fun b hb=>by cases hb⟩
 | p+1=>BI.all tc p _ (Nat.le_refl _) (BI.st tc p)
def b6 (us:List ag):Rat:=(us.map gR).foldr (· * ·) 1
structure Ed (s:LS) (t:ag):Prop where
 g:0<gR t
 le:uW s t.bg≤gR t*uW s t.en
 lt:s.tm t.bg≤s.tm t.en→uW s t.bg<gR t*uW s t.en
theorem Bh {s:LS}{c:List Nat}:∀{us:List ag}{a:List Nat},us.map (·.bg)++[c]=a :: us.map (·.en)→(∀t∈us,Ed s t)→us≠[]→uW s a≤b6 us*uW s c∧(uW s a<b6 us*uW s c∨s.tm c<s.tm a)
 | [],_,_,_,h=>absurd rfl h
 | t :: r,a,e,h,_=>by
  simp only [List.map_cons,List.cons_append,List.cons.injEq] at e
  obtain ⟨rfl,e⟩:=e
  have ht:=h t (List.mem_cons_self ..)
  have hr:=fun x hx=>h x (List.mem_cons_of_mem _ hx)
  have ep:b6 (t :: r)=gR t*b6 r:=rfl
  rw [ep]
  have g0:=Rat.le_of_lt ht.g
  cases r with
  | nil=>
   simp only [List.map_nil,List.nil_append,List.cons.injEq,and_true] at e
   subst e
   have e1:b6 []=1:=rfl
   rw [e1,Rat.mul_one]
   refine ⟨ht.le,?_⟩
   by_cases z:s.tm t.bg≤s.tm t.en
   ·exact .inl (ht.lt z)
   ·exact .inr (by trivial)
  | cons t2 r2=>
   obtain ⟨h1,h2⟩:=Bh e hr (by simp)
   have m1:=KM.mul_le_l h1 g0
   have ea:gR t*(b6 (t2 :: r2)*uW s c)=gR t*b6 (t2 :: r2)*uW s c:=(Rat.mul_assoc _ _ _).symm
   rw [ea] at m1
   refine ⟨Rat.le_trans ht.le m1,?_⟩
   by_cases z:s.tm t.bg≤s.tm t.en
   ·exact .inl (yX (ht.lt z) m1)
   ·rcases h2 with h2 | h2
    ·have m2:=Rat.mul_lt_mul_of_pos_left h2 ht.g
     rw [ea] at m2
     exact .inl (ua ht.le m2)
    ·exact .inr (by trivial)
structure fZ (ts:List ag) (R:List Nat) (us:List ag):Prop where
 at':R.map (fun k=>ts[k]?)=us.map some
 op:∀t∈us,t.most≠(0,1)
 two:2≤R.length
 nd:(us.map (·.bg)).Nodup
 rot:us.map (·.en)=(us.map (·.bg)).drop 1++(us.map (·.bg)).take 1
 gain:1<b6 us
theorem DG {ls:List (List Nat)}{ts:List ag}{s:LS}{ks:List Nat}{us:List ag}{l0 c:List Nat}{j:Nat} (tc:∀t∈ts,jB ls t) (pos:∀l∈ls,1≤(s.ω l).1∧1≤(s.ω l).2)
 (h1:ks.map (fun k=>ts[k]?)=us.map some) (ho:∀t∈us,t.most≠(0,1)) (he:∀t∈us,Ed s t) (nd:(us.map (·.bg)).Nodup) (ch:us.map (·.bg)++[c]=l0 :: us.map (·.en)) (hj:(us.map (·.bg))[j]?=some c):fZ ts (ks.drop j) (us.drop j):=by
 have lj:j<us.length:=by have:=(List.getElem?_eq_some_iff.mp hj).1;rwa [List.length_map] at this
 have lk:ks.length=us.length:=by have:=congrArg List.length h1;simpa using this
 have memT:∀t∈us,t∈ts:=fun t ht=>by
  have:some t∈ks.map (fun k=>ts[k]?):=by rw [h1];exact List.mem_map_of_mem ht
  obtain ⟨k,_,hk⟩:=List.mem_map.mp this
  exact List.mem_of_getElem? hk
 have sub:∀t∈us.drop j,t∈us:=fun t ht=>List.mem_of_mem_drop ht
 have ch2:(us.drop j).map (·.bg)++[c]=c :: (us.drop j).map (·.en):=by
  have e:=congrArg (List.drop j) ch
  rw [List.drop_append_of_le_length (by rw [List.length_map];trivial)] at e
  rw [List.map_drop,e]
  cases j with
  | zero=>
   cases us with
   | nil=>simp at lj
   | cons t r=>
    simp at hj ch
    simp [←ch.1,hj]
  | succ m=>
   rw [List.drop_succ_cons,List.map_drop]
   have hm:m<(us.map (·.en)).length:=by rw [List.length_map];trivial
   rw [List.drop_eq_getElem_cons hm]
   have:(us.map (·.en))[m]?=some c:=by
    have e2:=congrArg (fun z=>z[m+1]?) ch
    simp only [List.getElem?_cons_succ] at e2
    rw [←e2,List.getElem?_append_left (by rw [List.length_map];exact lj)]
    exact hj
   rw [(List.getElem?_eq_some_iff.mp this).2]
 obtain ⟨t0,r0,e0⟩:bo fun t r=>us.drop j=t :: r:=by
  cases e:us.drop j with
  | nil=>have:=congrArg List.length e;simp at this;trivial
  | cons t r=>exact ⟨t,r,rfl⟩
 have al:=Bh ch2 (fun t ht=>he t (sub t ht)) (by rw [e0];simp)
 have hc:c∈ls:=by
  obtain ⟨t,ht,rfl⟩:=List.mem_map.mp (List.mem_of_getElem? hj)
  exact (tc t (memT t ht)).b
 have up:0<uW s c:=kr (pos c hc).1 (pos c hc).2
 have gain:1<b6 (us.drop j):=by
  rcases al.2 with z | z
  ·apply Rat.not_le.mp
   intro w
   have:=Rat.mul_le_mul_of_nonneg_right w (Rat.le_of_lt up)
   rw [Rat.one_mul] at this
   exact absurd z (Rat.not_lt.mpr this)
  ·trivial
 have rot:(us.drop j).map (·.en)=((us.drop j).map (·.bg)).drop 1++((us.drop j).map (·.bg)).take 1:=by
  rw [e0] at ch2 ⊢
  simp only [List.map_cons,List.cons_append,List.cons.injEq] at ch2
  simp only [List.map_cons,List.drop_succ_cons,List.drop_zero,List.take_succ_cons,List.take_zero]
  rw [←ch2.2,ch2.1]
 refine ⟨by rw [List.map_drop,h1,List.map_drop],fun t ht=>ho t (sub t ht),?_,?_,rot,gain⟩
 ·rw [List.length_drop,lk]
  have:(us.drop j).length=us.length - j:=List.length_drop ..
  rw [←this]
  cases r0 with
  | nil=>
   rw [e0] at rot
   simp at rot
   exact absurd rot.symm (tc t0 (memT t0 (sub t0 (by rw [e0];simp)))).ne
  | cons t1 r1=>rw [e0];simp
 ·rw [List.map_drop]
  exact List.Sublist.nodup (List.drop_sublist _ _) nd
theorem uB {ls:List (List Nat)}{u:List Nat→Rat} (pos:∀l∈ls,0<u l) {c:List Nat}:∀{us:List ag}{a:List Nat},us.map (·.bg)++[c]=a :: us.map (·.en)→(∀t∈us,jB ls t∧gR t*u t.en≤u t.bg)→b6 us*u c≤u a
 | [],a,e,_=>by
  simp at e
  rw [e]
  show (1:Rat)*u a≤u a
  rw [Rat.one_mul]
  exact Rat.le_refl
 | t :: r,a,e,h=>by
  simp only [List.map_cons,List.cons_append,List.cons.injEq] at e
  obtain ⟨rfl,e⟩:=e
  obtain ⟨ht,hh⟩:=h t (List.mem_cons_self ..)
  have ih:=uB pos e fun x hx=>h x (List.mem_cons_of_mem _ hx)
  have g0:0<gR t:=kr ht.g1 ht.g2
  have m:=KM.mul_le_l ih (Rat.le_of_lt g0)
  have ea:gR t*(b6 r*u c)=b6 (t :: r)*u c:=(Rat.mul_assoc _ _ _).symm
  rw [ea] at m
  exact Rat.le_trans m hh
end L2
namespace L2
open PySem PySem.Spec PyProof.Rows
section
variable {prog:Program}{w:World}{A:Around}{E:Value→Shared→Prop}{hp:Heap}{gs:Array GenState}{dr:Drawn}{tk:Nat}{os:OsState}
variable {nm qn:Str}{C N:Addr}{bs bm bB:List Value}{hd:Bool}{sn:List Str}{sb:List Value}{ab:Bool}{cl:Option Bool}{dd:Option Addr}{k0 k1 k2 k3 k5:Option Value}{B nw ni:String}
theorem yf (FB:ExcBaseFacts B nw ni bB) (T:OwnTail hp bB bm) {mN:Str→Option Value}{us:List Value}{fI:Addr}{oI:Obj}{R:Fin→Shared→Prop}
 (eC:hp.get? C=some (excClassObj nm qn C N bs bm hd sn sb ab cl dd k0 k1 k2 k3 k5 nw)) (eN:hp.Ns N mN) (eI:mN "__init__" = some (.ref fI)) (ef:hp.get? fI=some oI) (ec:oI.cls=.type "function") (lu:us.length≤sizeLine)
 (go:∀h1 x,Heap.MadeExcOf hp h1 x (.ref C) us→wpAny (model prog w) A (call (.ref fI) (.ref x :: us)) (fun r s1=>r=.none∧R (.done (.ret (.ref x))) s1) E ⟨h1,gs,dr,tk,os⟩) :
 wpAny (model prog w) A (Builtin.«type.__call__» ⟨.ref C :: us,[]⟩) R E ⟨hp,gs,dr,tk,os⟩:=by
 repeat (first | with_reducible refine wpAny_madeBy_exc eC ?_ | with_reducible refine wpAny_loadPart_at eC ?_ | wp_step)
 refine codeAny_call_builtin_code (Code.quiet_builtin _ FB.quiet) (wpAny_check_new_subT FB T eC ?_)
 refine codeAny_exc_new_subT FB T eC ?_ lu
 show wpAny _ _ _ _ _ _
 have up:∀b o,hp.get? b=some o→((hp.push { cls:=.type "tuple",data:=.seq us.toArray }).push { cls:=.ref C,data:=.fields #[.ref hp.objs.size,.none,.none,.none,.bool false,.none] }).get? b=some o:=fun b o e=>Heap.get?_push_of_some _ (Heap.get?_push_of_some _ e)
 have at1:((hp.push { cls:=.type "tuple",data:=.seq us.toArray }).push { cls:=.ref C,data:=.fields #[.ref hp.objs.size,.none,.none,.none,.bool false,.none] }).get? (hp.objs.size+1)=some { cls:=.ref C,data:=.fields #[.ref hp.objs.size,.none,.none,.none,.bool false,.none] }:=by heap_get
 have me:Heap.MadeExcOf hp ((hp.push { cls:=.type "tuple",data:=.seq us.toArray }).push { cls:=.ref C,data:=.fields #[.ref hp.objs.size,.none,.none,.none,.bool false,.none] }) (hp.objs.size+1) (.ref C) us:=
  ⟨up,Heap.get?_none_of_le (Nat.le_succ _),hp.objs.size,at1,Heap.get?_none_of_le (Nat.le_refl _),Heap.get?_push_of_some _ (Heap.get?_push_at rfl rfl)⟩
 have cc:(Value.ref C :: bm).contains (.ref C)=true:=by simp
 have f1:=up _ _ ef
 unfold isInstance
 repeat (first | with_reducible refine wpAny_loadPart_at at1 ?_ | (with_reducible refine wpAny_isSubtype_exc (up _ _ eC) ?_;rw [cc]) | wp_step)
 show wpAny _ _ (typeLookup (.ref C) _) _ _ _
 refine wpAny_typeLookup_tail (up _ _ eC) (eN.keeps up) (T.keeps up) FB.mroIs FB.init.lookup ?_
 rw [eI]
 refine wpAny_holding (wpAny_bind ?_)
 unfold bindSpecial
 refine wpAny_bind (wpAny_typeOf (T := "function") ⟨_,f1,ec⟩ ?_)
 rw [if_pos (by decide)]
 refine wpAny_pure (wpAny_bind (wpAny_mono (go _ _ me) (fun r s1 hr=>?_) fun _ _ z=>z))
 obtain ⟨rfl,hR⟩:=hr
 wp_walk
 exact hR
theorem zj (FB:ExcBaseFacts B nw ni bB) (T:OwnTail hp bB bm) {mN:Str→Option Value}{us:List Value}{fI:Addr}{oI:Obj}{R:Value→Shared→Prop}
 (eC:hp.get? C=some (excClassObj nm qn C N bs bm hd sn sb ab cl dd k0 k1 k2 k3 k5 nw)) (eN:hp.Ns N mN) (eI:mN "__init__" = some (.ref fI)) (ef:hp.get? fI=some oI) (ec:oI.cls=.type "function") (lu:us.length≤sizeLine)
 (go:∀h1 x,Heap.MadeExcOf hp h1 x (.ref C) us→wpAny (model prog w) (A.under (.builtin "type.__call__" ⟨.ref C :: us,[]⟩)) (call (.ref fI) (.ref x :: us)) (fun r s1=>r=.none∧R (.ref x) s1) E ⟨h1,gs,dr,tk,os⟩) :
 wpAny (model prog w) A (call (.ref C) us) R E ⟨hp,gs,dr,tk,os⟩:=by
 have l1:=tc_lookup
 have l2:=tc_bind (.ref C)
 have ty:(⟨hp,gs,dr,tk,os⟩:Shared).TypeIs (.ref C) "type" := ⟨_,eC,rfl⟩
 refine wpAny_call (codeAny_of_tree ?_)
 show wpAny _ _ (callAny (.ref C) _) _ _ _
 repeat (any_goals (first | assumption | with_reducible refine wpAny_loadPart_at eC ?_ | wp_step))
 exact ⟨rfl,codeAny_call_builtin_at (Code.quiet_builtin _ (by decide +kernel)) entry_typeCall (wpAny_check_type_call_sub eC (yf FB T eC eN eI ef ec lu fun h1 x m=>go h1 x m))⟩
end
end L2
namespace L2
open PySem PySem.Spec PyProof.Rows PySem.W
section
variable {prog:Program}{w:World}{A:Around}{E:Value→Shared→Prop}{s:Shared}{K:Frag}{x C:Addr}{ox:Obj}{od:Option Obj}{name:Str}{fill expr:Bool}
abbrev oA (K:Frag) (C:Addr):Bool:=findIn K (.ref C) "__getattribute__" == some (some (.builtin "BaseException.__getattribute__")) && findIn K (.ref C) "__getattr__" == some none && mroIn K C (.type "BaseException")==some true
theorem xa {K:Frag}{C:Addr} (h:oA K C=true):findIn K (.ref C) "__getattribute__" = some (some (.builtin "BaseException.__getattribute__"))∧findIn K (.ref C) "__getattr__" = some none∧mroIn K C (.type "BaseException")=some true:=by
 simp only [oA,Bool.and_eq_true,beq_iff_eq] at h
 exact ⟨h.1.1,h.1.2,h.2⟩
theorem zc {tk:Tok}{R:Result→Shared→Prop}{f:Builtin.ObjectAttr.Found} (X:K.In s.heap) (I:InstAt s.heap x ox C od) (g:oA K C=true) (hf:findObj K C od name=some f)
 (h:wpAny (model prog w) A.in1 (match f with | .value v=>ret v | .bind g a=>Builtin.ObjectAttr.bindTo g a (.ref x) (.ref C) | .missing=>unsupported "") (fun fin s'=>match fin with | .done (.ret v)=>R (.ok (.ret v)) s' | _=>False) (fun _ _=>False) s) (hm:f≠.missing) :
 codeAny (model prog w) A (.call (.builtin "BaseException.__getattribute__") ⟨[.ref x,.str name tk],[]⟩) R s:=by
 obtain ⟨g1,g2,g3⟩:=xa g
 have sub:Looks (model prog w) s.heap (isInstance (.ref x) (.type "BaseException")) true:=I.type.andThen (looks_mroIn X g3)
 refine codeAny_call_builtin PySem.F.attr_ValueError.ga.plain PySem.F.entry_bexc_ga (@check_slot (model prog w) _ _ s "BaseException.__getattribute__" "BaseException" "__getattribute__" (.ref x) [.str name tk] [] _ (by decide +kernel) (by decide +kernel) sub (PySem.F.args_bexc_ga _ _) ?_)
 have L1:=looks_find (M:=model prog w) X I hf
 have L0:=I.type (M:=model prog w)
 unfold Builtin.«object.__getattribute__»
 refine wpAny_bind (wpAny_pure (wpAny_bind (wpAny_pure (wpAny_bind (L0.here (wpAny_bind (L1.here ?_)))))))
 cases f with
 | missing=>exact absurd rfl hm
 | value v=>
  refine wpAny_mono h (fun fin s' z=>?_) fun _ _ z=>z.elim
  rcases fin with (_ | _ | _ | _) | _ <;> first | exact z | exact z.elim
 | bind g a=>
  refine wpAny_mono h (fun fin s' z=>?_) fun _ _ z=>z.elim
  rcases fin with (_ | _ | _ | _) | _ <;> first | exact z | exact z.elim
theorem xG {tk:Tok}{Q:Value→Shared→Prop}{f:Builtin.ObjectAttr.Found} (X:K.In s.heap) (I:InstAt s.heap x ox C od) (g:oA K C=true) (hf:findObj K C od name=some f) (hm:f≠.missing)
 (h:wpAny (model prog w) A.in1 (match f with | .value v=>ret v | .bind g a=>Builtin.ObjectAttr.bindTo g a (.ref x) (.ref C) | .missing=>unsupported "") (fun fin s'=>match fin with | .done (.ret v)=>wpAny (model prog w) A (handedOut v) Q E s' | _=>False) (fun _ _=>False) s) :
 wpAny (model prog w) A (getAttrBy (.ref x) (.str name tk) fill expr) Q E s:=by
 obtain ⟨g1,g2,g3⟩:=xa g
 have L0:=I.type (M:=model prog w)
 have L1:=looks_findIn (M:=model prog w) X g1
 have L2:=looks_findIn (M:=model prog w) X g2
 unfold getAttrBy
 refine wpAny_holding (wpAny_bind (L0.here (wpAny_bind (L1.here ?_))))
 dsimp only
 rw [show (onTheHeap (Value.ref C) && Value.builtin "BaseException.__getattribute__" == Value.builtin "object.__getattribute__")=false from by rw [show (Value.builtin "BaseException.__getattribute__" == Value.builtin "object.__getattribute__")=false from by decide +kernel,Bool.and_false],if_neg (by decide)]
 unfold getAttrByItsOwn hookBefore
 rw [if_pos (show onTheHeap (Value.ref C)=true from rfl)]
 refine wpAny_bind (L2.here (wpAny_bind (wpAny_attempt (wpAny_holding ?_))))
 unfold callGetattribute
 rw [show (expr && onTheHeap (Value.builtin "BaseException.__getattribute__"))=false by cases expr <;> rfl,if_neg (by decide)]
 unfold boundAndCalled
 rw [PySem.F.attr_ValueError.ga.bind]
 refine wpAny_bind (wpAny_pure (wpAny_call (zc X I g hf (wpAny_mono h (fun fin s' z=>?_) fun _ _ z=>z) hm)))
 rcases fin with (_ | _ | _ | _) | _ <;> first | exact z | exact z.elim
theorem Fc {v:Value}{Q:Value→Shared→Prop} (X:K.In s.heap) (I:InstAt s.heap x ox C od) (g:oA K C=true) (hf:findObj K C od name=some (.value v)) (hh:handedIn v=true) (h:Q v { s with toks:=s.toks+1 }) :
 wpAny (model prog w) A (getAttr (.ref x) name expr) Q E s:=by
 unfold getAttr
 refine wpAny_bind (wpAny_mkText (xG (s:={ s with toks:=s.toks+1 }) X I g hf (fun z=>nomatch z) (wpAny_pure ?_)))
 show wpAny _ _ (handedOut v) _ _ _
 rw [handedOut_of hh]
 exact wpAny_pure h
abbrev oz (K:Frag) (C:Addr):Bool:=oA K C && (clsIn K C).isSome && findIn K (.ref C) "__class__" == some (some (.builtin "object.__class__")) && specialIn K (.builtin "object.__class__") "__get__" == some (some (.builtin "getset_descriptor.__get__")) && takesIn K (.builtin "object.__class__")==some true && mroIn K C (.type "object")==some true
theorem qu {K:Frag}{C:Addr} (h:oz K C=true):oA K C=true∧(clsIn K C).isSome=true∧findIn K (.ref C) "__class__" = some (some (.builtin "object.__class__"))∧specialIn K (.builtin "object.__class__") "__get__" = some (some (.builtin "getset_descriptor.__get__"))∧takesIn K (.builtin "object.__class__")=some true∧mroIn K C (.type "object")=some true:=by
 unfold oz at h
 simp only [Bool.and_eq_true,beq_iff_eq] at h
 obtain ⟨⟨⟨⟨⟨a,b⟩,c⟩,d⟩,e⟩,f⟩:=h
 exact ⟨by unfold oA;simp only [Bool.and_eq_true,beq_iff_eq];exact a,b,c,d,e,f⟩
theorem xY (g:oz K C=true):findObj K C od "__class__" = some (.bind (.builtin "getset_descriptor.__get__") (.builtin "object.__class__")):=by
 obtain ⟨_,hc,ha,hg,ht,_⟩:=qu g
 obtain ⟨cd,hc⟩:=Option.isSome_iff_exists.mp hc
 unfold findObj
 rw [hc,Option.bind_some,ha,Option.bind_some]
 dsimp only
 rw [hg,Option.bind_some]
 dsimp only
 rw [ht,Option.bind_some]
theorem Cl {Q:Option Value→Shared→Prop} (X:K.In s.heap) (I:InstAt s.heap x ox C od) (g:oz K C=true) (h:Q (some (.ref C)) { s with toks:=s.toks+1 }):wpAny (model prog w) A (getAttr? (.ref x) "__class__") Q E s:=by
 obtain ⟨g0,_,_,_,_,gm⟩:=qu g
 unfold getAttr? getAttrBy?
 refine wpAny_bind (wpAny_mkText (wpAny_bind (wpAny_attempt (xG (s:={ s with toks:=s.toks+1 }) X I g0 (xY g) (fun z=>nomatch z) ?_))))
 show wpAny _ _ (holding [_] (call _ _) >>= ret) _ _ _
 refine wpAny_bind (wpAny_holding (wpAny_call (class_get (s:={ s with toks:=s.toks+1 }) (ox:=ox) (od:=od) X I gm (wpAny_pure (handed_on rfl (wpAny_pure h))))))
theorem vR (g:oz K C=true):KitX K (.ref x) (.ref C) (fun h=>bo fun ox od=>InstAt h x ox C od) where
 ty:=fun _ _ _ ⟨_,_,I⟩=>I.type
 it:=fun _ _ X _=>by
  obtain ⟨cd,hc⟩:=Option.isSome_iff_exists.mp (qu g).2.1
  unfold clsIn at hc
  split at hc
  ·rename_i ho
   intro A' Q' E' s' k q
   unfold isType loadHead
   exact wpAny_bind (wpAny_loadPart (k _ _ (X _ _ ho)) (wpAny_pure q))
  ·cases hc
 ne:=fun h tp dd its n sl X htp=>by
  obtain ⟨cd,hc⟩:=Option.isSome_iff_exists.mp (qu g).2.1
  refine Bool.eq_false_iff.mpr fun q=>?_
  obtain rfl:C=tp:=Value.ref.inj (beq_iff_eq.mp q)
  unfold clsIn at hc
  split at hc
  ·rename_i ho
   have z:=(X _ _ ho).symm.trans htp
   cases z
  ·cases hc
 ca:=fun X ⟨_,_,I⟩ k=>Cl X I g k
end
end L2
namespace L2
open PySem PySem.Spec PyProof.Rows PySem.W PySem.Builtin.ObjectAttr
def pV:List Value→Bool
 | .ref _ :: r=>pV r
 | l=>l==[.type "ValueError",.type "Exception",.type "BaseException",.type "object"]
theorem fh (self:Value):refuseLoop self "__setattr__" [.type "ValueError",.type "Exception",.type "BaseException",.type "object"]=pure ():=by kernel_rfl
theorem ss (self:Value):∀{l:List Value},pV l=true→refuseLoop self "__setattr__" l=pure ()
 | .ref c :: r,e=>by rw [refuseLoop_ref];exact ss self e
 | [],e=>by cases beq_iff_eq.mp (show (([]:List Value)==_)=true from e)
 | .none :: r,e=>by rw [beq_iff_eq.mp (show (_==_)=true from e)];exact fh self
 | .bool _ :: r,e=>by rw [beq_iff_eq.mp (show (_==_)=true from e)];exact fh self
 | .int _ _ :: r,e=>by rw [beq_iff_eq.mp (show (_==_)=true from e)];exact fh self
 | .float _ _ :: r,e=>by rw [beq_iff_eq.mp (show (_==_)=true from e)];exact fh self
 | .str _ _ :: r,e=>by rw [beq_iff_eq.mp (show (_==_)=true from e)];exact fh self
 | .bytes _ _ :: r,e=>by rw [beq_iff_eq.mp (show (_==_)=true from e)];exact fh self
 | .type _ :: r,e=>by rw [beq_iff_eq.mp (show (_==_)=true from e)];exact fh self
 | .builtin _ :: r,e=>by rw [beq_iff_eq.mp (show (_==_)=true from e)];exact fh self
abbrev fU (K:Frag) (C:Addr) (name:Str):Bool:=(clsIn K C).any (fun cd=>pV cd.mro && cd.hasDict) && findIn K (.ref C) "__setattr__" == some (some (.builtin "object.__setattr__")) && takerIn K C name==some none && mroIn K C (.type "object")==some true
theorem zu {h:Heap}{a:Addr}{name:Str}{v:Value} (n:h.Ns1 a fun y=>if y=name then some v else none):∃o,h.get? a=some o∧o.data.pastItsLine=none:=by
 obtain ⟨o,es,ep,e,d,sk,uq,f⟩:=n
 refine ⟨o,e,?_⟩
 rw [d]
 refine pastItsLine_dict ?_
 have key:∀x∈es,∃t,x.key=.str name t:=fun x hx=>by
  obtain ⟨m,t,hm⟩:=sk x hx
  have q:=f m
  by_cases c:m=name
  ·exact ⟨t,by rw [hm,c]⟩
  ·dsimp only at q
   rw [if_neg c] at q
   simp only [nsFind,findBy,Option.map_eq_none_iff,Array.find?_eq_none] at q
   have:=q x hx
   rw [hm] at this
   simp [Value.isStr] at this
 have small:es.toList.length≤1:=by
  unfold UniqKeys at uq
  cases el:es.toList with
  | nil=>simp
  | cons x r=>
   cases r with
   | nil=>simp
   | cons y r=>
    rw [el] at uq
    obtain ⟨t1,k1⟩:=key x (Array.mem_toList_iff.mp (by rw [el];simp))
    obtain ⟨t2,k2⟩:=key y (Array.mem_toList_iff.mp (by rw [el];simp))
    exfalso
    exact (List.pairwise_cons.mp uq).1 y (by simp) name (by rw [k1];simp [Value.isStr]) (by rw [k2];simp [Value.isStr])
 rw [Array.length_toList] at small
 rw [sizeLine_eq]
 trivial
section
variable {prog:Program}{w:World}{A:Around}{E:Value→Shared→Prop}{s:Shared}{K:Frag}{x C:Addr}{ox:Obj}{name:Str}{v:Value}
abbrev qf:Obj:={ cls:=.type "dict",data:=.dict #[] }
theorem Fv {tk:Tok}{R:Result→Shared→Prop} (X:K.In s.heap) (I:InstAt s.heap x ox C none) {vs:Array Value} (hf:ox.data=.fields vs) (g:fU K C name=true)
 (h:∀h' tk',h'.Ns1 s.heap.objs.size (fun y=>if y=name then some v else none)→h'.get? x=some { ox with dict:=some s.heap.objs.size }→(∀b o,b≠x→s.heap.get? b=some o→h'.get? b=some o)→R (.ok (.ret .none)) { s with heap:=h',toks:=tk' }) :
 codeAny (model prog w) A (.call (.builtin "object.__setattr__") ⟨[.ref x,.str name tk,v],[]⟩) R s:=by
 have SF:=PySem.F.store_object
 unfold fU at g
 simp only [Bool.and_eq_true,beq_iff_eq] at g
 obtain ⟨⟨⟨g1,g2⟩,g3⟩,g4⟩:=g
 obtain ⟨cd,hc,hp⟩:=any_some g1
 rw [Bool.and_eq_true] at hp
 have sub:Looks (model prog w) s.heap (isInstance (.ref x) (.type "object")) true:=I.type.andThen (looks_mroIn X g4)
 refine codeAny_call_builtin SF.slot.plain SF.entry (@check_slot (model prog w) _ _ s "object.__setattr__" "object" "__setattr__" (.ref x) [.str name tk,v] [] _ SF.kind SF.split sub (SF.args (.ref x) (.str name tk) v) ?_)
 obtain ⟨attr,ha,hr⟩:=Option.bind_eq_some_iff.mp g3
 have lm:Looks (model prog w) s.heap (mroOf (.ref C)) cd.mro:=(looks_clsIn X hc).andThen .now
 have lt:Looks (model prog w) s.heap (storeTaker? attr) none:=by
  cases attr with
  | none=>exact .now
  | some a=>
   obtain ⟨b,hb,e⟩:=Option.map_eq_some_iff.mp hr
   refine (looks_takesIn X hb).andThen ?_
   cases b with
   | true=>cases e
   | false=>exact .now
 rw [osa_eq,refuse_eq]
 refine wpAny_bind (wpAny_bind (I.type.here (wpAny_bind (lm.here ?_))))
 rw [ss _ hp.1]
 refine wpAny_pure (wpAny_bind (I.type.here (wpAny_bind ((looks_findIn X ha).here (wpAny_bind (lt.here ?_))))))
 obtain ⟨hx,hcl,hn,hd⟩:=I
 obtain ⟨oc,odi,oda,osl⟩:=ox
 dsimp only at hcl hd hn hf
 subst hcl hf
 have e0:odi=none:=by
  cases odi with
  | none=>rfl
  | some d=>exact hd.elim
 subst e0
 refine wpAny_bind (wpAny_pure (wpAny_bind (wpAny_bind (wpAny_loadPart hx (wpAny_bind ((looks_clsIn X hc).here ?_))))))
 rw [hp.2,if_neg (by decide)]
 show wpAny _ _ (alloc qf >>= fun d=>update x (fun o=>{ o with dict:=some d }) >>= fun _=>dictMade (.ref C) x d) _ _ _
 refine wpAny_bind (wpAny_alloc (wpAny_bind ?_))
 have lx:x<s.heap.objs.size:=Heap.lt_size hx
 have hx1:(s.heap.push qf).get? x=some ⟨.ref C,none,.fields vs,osl⟩:=Heap.get?_push_of_some _ hx
 have nd:s.heap.objs.size≠x:=Nat.ne_of_gt lx
 have hd1:((s.heap.push qf).update x fun o=>{ o with dict:=some s.heap.objs.size }).get? s.heap.objs.size=some qf:=by
  rw [Heap.get?_update_other _ _ (Ne.symm nd)]
  exact Heap.get?_push_size _ rfl
 refine wpAny_update hx1 ?_
 refine wpAny_pure ?_
 show wpAny _ _ (storeInDict s.heap.objs.size (.str name tk) name v) _ _ _
 have n0:((s.heap.push qf).update x fun o=>{ o with dict:=some s.heap.objs.size }).Ns1 s.heap.objs.size (fun _=>none):=Heap.Ns1.of_empty ⟨qf,#[],_,hd1,rfl,(fun e he=>absurd he (by simp)),fun _=>rfl⟩
 unfold storeInDict
 refine wpAny_bind (wpAny_pure (wpAny_bind (wpAny_nsSet1 n0 fun h2 n2 sb=>wpAny_bind ?_)))
 obtain ⟨o2,e2,p2⟩:=zu n2
 refine wpAny_lookBehind e2 p2 (wpAny_pure ?_)
 refine h h2 _ n2 ?_ fun b o nb hb=>?_
 ·rw [sb.2 x (Ne.symm nd)]
  exact Heap.get?_update_self _ hx1 rfl
 ·rw [sb.2 b (Nat.ne_of_lt (Heap.lt_size hb)),Heap.get?_update_other _ _ (Ne.symm nb)]
  exact Heap.get?_push_of_some _ hb
theorem FG {Q:Unit→Shared→Prop} (X:K.In s.heap) (I:InstAt s.heap x ox C none) {vs:Array Value} (hf:ox.data=.fields vs) (g:fU K C name=true)
 (h:∀h' tk',h'.Ns1 s.heap.objs.size (fun y=>if y=name then some v else none)→h'.get? x=some { ox with dict:=some s.heap.objs.size }→(∀b o,b≠x→s.heap.get? b=some o→h'.get? b=some o)→Q () { s with heap:=h',toks:=tk' }) :
 wpAny (model prog w) A (setAttr (.ref x) name v) Q E s:=by
 have g2:findIn K (.ref C) "__setattr__" = some (some (.builtin "object.__setattr__")):=by
  unfold fU at g
  simp only [Bool.and_eq_true,beq_iff_eq] at g
  exact g.1.1.2
 exact set_plain X I g2 (Fv (s:={ s with toks:=s.toks+1 }) X I hf g fun h' tk' a b c=>h h' tk' a b c)
end
end L2
namespace L2
open PySem PySem.Spec PyProof.Rows PySem.W PySem.Builtin.ObjectAttr
abbrev Ba:List Value:=[.type "ValueError",.type "Exception",.type "BaseException",.type "object"]
def zW (d:Data):Option ClassData:=match d with
 | .cls cd=>some cd
 | _=>none
theorem BS {d:Data}{cd:ClassData} (h:zW d=some cd):d=.cls cd:=by
 cases d with
 | cls c=>cases h;rfl
 | _=>cases h
theorem Hk {α:Type}{ls:List α} (h:ls.length=6):xF fun a b c d e f=>ls=[a,b,c,d,e,f]:=by
 match ls,h with
 | [a,b,c,d,e,f],_=>exact ⟨a,b,c,d,e,f,rfl⟩
theorem Hy {α:Type}{sl:Array α}{x:α} (h:sl.size=6) (k:sl[4]?=some x):Bb fun a b c d f=>sl=#[a,b,c,d,x,f]:=by
 obtain ⟨l⟩:=sl
 obtain ⟨a,b,c,d,e,f,rfl⟩:=Hk (show l.length=6 from h)
 obtain rfl:e=x:=Option.some.inj k
 exact ⟨a,b,c,d,f,rfl⟩
def bN (K:Frag) (C:Addr) (ini:Option Value):Bool:=match K.lookup C with
 | none=>false
 | some o=>match zW o.data with
  | none=>false
  | some cd=>(o.cls==.type "type") && ((cd.mro.head?==some (.ref C)) && (!cd.hasDel && (tailIn K Ba cd.mro.tail && (nsOkIn K cd.ns && (nsIn K cd.ns "__init__" == some ini && (o.slots.size==6 && o.slots[4]?==some (some (.builtin "ValueError.__new__"))))))))
theorem Dq {K:Frag}{h:Heap}{N:Addr}{mp:Str→Option Value}{n:Str}{v:Value} (X:K.In h) (G:h.Ns N mp) (e:nsIn K N n=some (some v)):mp n=some v:=by
 obtain ⟨ob,es,ep,ho,hd,_,f⟩:=G
 unfold nsIn at e
 split at e
 ·rename_i q
  have z:=X _ _ q
  rw [ho] at z
  cases z
  cases hd
  split at e
  ·rename_i he
   cases e
   rw [←f]
   unfold nsFind findBy
   rw [←Array.find?_toList,he];rfl
  ·split at e <;> cases e
 ·cases e
theorem yb {K:Frag}{h:Heap}{C:Addr}{ini:Option Value} (X:K.In h) (q:bN K C ini=true):∃nm qn N bs bm hd sn sb ab cl dd k0 k1 k2 k3 k5 mN,
 h.get? C=some (excClassObj nm qn C N bs bm hd sn sb ab cl dd k0 k1 k2 k3 k5 "ValueError.__new__")∧h.Ns N mN∧OwnTail h Ba bm∧mN "__init__" = ini:=by
 unfold bN at q
 cases ho:K.lookup C with
 | none=>rw [ho] at q;cases q
 | some o=>
  rw [ho] at q
  dsimp only at q
  cases hc:zW o.data with
  | none=>rw [hc] at q;cases q
  | some cd=>
   rw [hc] at q
   dsimp only at q
   rw [Bool.and_eq_true,Bool.and_eq_true,Bool.and_eq_true,Bool.and_eq_true,Bool.and_eq_true,Bool.and_eq_true,Bool.and_eq_true,beq_iff_eq,beq_iff_eq,beq_iff_eq,beq_iff_eq,beq_iff_eq,Bool.not_eq_true'] at q
   obtain ⟨q1,q2,dl,tl,ok,hi,z1,z2⟩:=q
   obtain ⟨k0,k1,k2,k3,k5,e6⟩:=Hy z1 z2
   have ed:=BS hc
   obtain ⟨oc,dd,od,sl⟩:=o
   dsimp only at q1 ed e6
   subst q1 ed e6
   obtain ⟨nm,bs,mro,ns,qn,hd,sn,sub,ab,col,del⟩:=cd
   dsimp only at q2 dl tl ok hi
   subst dl
   cases mro with
   | nil=>cases q2
   | cons m bm=>
    obtain rfl:m=.ref C:=Option.some.inj q2
    have nm1:h.Ns ns (h.nsMap ns):=.of_isNs (isNs_of_in X ok)
    refine ⟨nm,qn,ns,bs,bm,hd,sn,sub,ab,col,dd,k0,k1,k2,k3,k5,_,X _ _ ho,nm1,tail_of_in X tl,?_⟩
    cases ini with
    | none=>exact nsMap_none_of_in X ok hi
    | some v=>exact Dq X nm1 hi
section
variable {prog:Program}{w:World}{A:Around}{E:Value→Shared→Prop}{s:Shared}{K:Frag}{x C:Addr}{ox:Obj}{od:Option Obj}{a0:Value}
theorem EC {u:Value}{Q:Value→Shared→Prop}{ini:Option Value} (X:K.In s.heap) (I:InstAt s.heap x ox C od) (hf:ox.data=.fields #[a0,.none,.none,.none,.bool false,.none]) (hm:bN K C ini=true)
 (h:∀h',h'.get? x=some { ox with data:=.fields #[.ref s.heap.objs.size,.none,.none,.none,.bool false,.none] }→(∀b o,b≠x→s.heap.get? b=some o→h'.get? b=some o)→Q .none { s with heap:=h' }) :
 wpAny (model prog w) A (call (.builtin "ValueError.__init__") [.ref x,u]) Q E s:=by
 have FB:=PySem.F.excBase_ValueError
 obtain ⟨nm,qn,N,bs,bm,hd,sn,sb,ab,cl,dd,k0,k1,k2,k3,k5,mN,eC,eN,T,_⟩:=yb X hm
 have hx:=I.at_
 have hc:=I.cls
 obtain ⟨oc,odi,oda,osl⟩:=ox
 dsimp only at hf hc hx
 subst hf hc
 obtain ⟨hp,gs,dr,tk,os⟩:=s
 dsimp only at eC eN T hx
 refine wpAny_call (codeAny_call_builtin FB.init.plain FB.initEntry (wpAny_check_init_subT FB T eC hx rfl ?_))
 have lx:x<hp.objs.size:=Heap.lt_size hx
 have hx1:(hp.push { cls:=.type "tuple",data:=.seq #[u] }).get? x=some ⟨.ref C,odi,.fields #[a0,.none,.none,.none,.bool false,.none],osl⟩:=Heap.get?_push_of_some _ hx
 unfold Builtin.«BaseException.__init__»
 refine wpAny_bind (wpAny_newTuple (wpAny_bind ?_))
 unfold Builtin.BaseException.bexcPut
 refine wpAny_bind (wpAny_field hx1 rfl rfl (wpAny_bind (wpAny_setField hx1 rfl (by show 0<6;decide) ?_)))
 have fin:wpAny (model prog w) A.in1 (ret .none) (fun fin s'=>match fin with | .done f=>(match Except.ok f with | Except.ok (Flow.ret v)=>Q v s' | Except.ok _=>False | Except.error e=>E e s') | .again c'=>False) (fun e s'=>E e s') ⟨(hp.push { cls:=.type "tuple",data:=.seq #[u] }).update x (Obj.mapFields (·.setIfInBounds 0 (.ref hp.objs.size))),gs,dr,tk,os⟩:=by
  refine wpAny_pure (h _ ?_ fun b o nb hb=>?_)
  ·exact Heap.get?_update_self _ hx1 rfl
  ·rw [Heap.get?_update_other _ _ (Ne.symm nb)]
   exact Heap.get?_push_of_some _ hb
 have fin2:=wpAny_mono fin (Q':=fun fin s'=>match fin with | .done f=>(match (Except.ok f:Result) with | Except.ok (Flow.ret v)=>Q v s' | Except.ok _=>False | Except.error e=>E e s') | .again c'=>c'.quiet=true∧codeAny (model prog w) A c' (fun r s'=>match r with | Except.ok (Flow.ret v)=>Q v s' | Except.ok _=>False | Except.error e=>E e s') s') (fun f s' z=>by
  cases f with
  | done f=>exact z
  | again c=>exact z.elim) fun _ _ z=>z
 split
 ·exact wpAny_letGo fin2
 ·exact wpAny_pure fin2
end
end L2
namespace L2
open PySem PySem.Spec PyProof.Rows
theorem bh.there {P:Program}{w:World}{H:Hp}{h:Heap}{a:Addr}{o:HO} (x:bh P w H h a o):∃u,h.get? a=some u:=by
 cases o with
 | lst xs=>obtain ⟨_,_,_,_,e⟩:=x;exact ⟨_,e⟩
 | tup xs=>obtain ⟨_,_,_,⟨_,e,_⟩,_⟩:=x;exact ⟨_,e⟩
 | dK kvs=>obtain ⟨_,_,_,_,o,_,_,e,_⟩:=x;exact ⟨_,e⟩
 | dT kvs=>obtain ⟨_,_,_,_,o,_,_,e,_⟩:=x;exact ⟨_,e⟩
 | set S n=>obtain ⟨o,_,_,_,e,_⟩:=x;exact ⟨_,e⟩
 | ins C dx fs=>obtain ⟨_,_,_,e,_⟩:=x;exact ⟨_,e⟩
 | own y=>obtain ⟨_,e⟩:=x;exact ⟨_,e⟩
 | xd fs=>obtain ⟨_,⟨_,_,_,e,_⟩,_⟩:=x;exact ⟨_,e⟩
 | rng lo hi=>obtain ⟨_,_,_,e⟩:=x;exact ⟨_,e⟩
 | frz ob u=>obtain ⟨e,_⟩:=x;exact ⟨_,e⟩
 | tbl ps=>exact ⟨_,show h.get? a=some _ from x⟩
 | met f y=>exact ⟨_,show h.get? a=some _ from x⟩
 | ext φ=>obtain ⟨_,e,_⟩:=x;exact e
theorem dz.none' {P:Program}{w:World}{H:Hp}{h:Heap}{a:Addr} (x:dz P w H h) (e:h.get? a=none):H a=none:=by
 cases q:H a with
 | none=>rfl
 | some u=>obtain ⟨o,z⟩:=(x a u q).there;rw [e] at z;cases z
section
variable {X:Cx}{pins:List (Addr×Obj)}{σ:St}{H:Hp}{s:Shared}{h':Heap}
theorem af.laidN {a:Addr}{o:HO}{t':Nat} (I:af X pins σ H s) (k:∀b u,s.heap.get? b=some u→h'.get? b=some u) (hn:s.heap.get? a=none) (new:bh X.prog X.w (aN H a o) h' a o) :
 af X pins σ (aN H a o) { s with heap:=h',toks:=t' }:=by
 have hH:=I.hok.none' hn
 have ne:∀{b:Addr}{u:HO},H b=some u→b≠a:=fun q z=>by rw [z,hH] at q;cases q
 refine I.un ⟨fun b u q _ _ _=>k b u q,fun b u q _ _ _=>⟨u.slots,k b u q⟩,fun b u q n _=>?_,fun b u q _=>⟨u,k b u q⟩,fun b xs q=>?_,fun b u xs q=>?_,fun b ps q=>⟨#[],?_⟩⟩ fun b u e=>?_
 ·rw [ao (fun z=>by rw [z,hn] at q;cases q)];exact n
 ·rw [ao (ne q)];exact q
 ·rw [ao (ne q)];exact q
 ·rw [ao (ne q),q];simp
 ·by_cases hb:b=a
  ·subst hb;rw [am] at e;cases e;exact new
  ·rw [ao hb] at e
   exact (I.hok b u e).stay (fun c v _ q=>k c v q) (fun c q=>by rw [ao (ne q)];exact q) fun c xs q=>by rw [ao (ne q)];exact q
end
def tf (x C:Addr) (dx:Option Addr) (h:Heap):Prop:=bo fun a0 sl=>h.get? x=some ⟨.ref C,dx,.fields #[a0,.none,.none,.none,.bool false,.none],sl⟩
def fj (x C:Addr) (dx:Option Addr):HO:=.ext (tf x C dx)
theorem xf {P:Program}{w:World}{H:Hp}{h:Heap}{x C:Addr}{dx:Option Addr} (e:tf x C dx h):bh P w H h x (fj x C dx):=
 ⟨e,let ⟨_,_,q⟩:=e;⟨_,q⟩,fun h1 h2 ⟨a0,sl,q⟩ k=>⟨a0,sl,k _ q⟩⟩
theorem qm {P:Program}{w:World}{H:Hp}{h:Heap}{x C:Addr}{dx:Option Addr} (ok:dz P w H h) (e:H x=some (fj x C dx)):tf x C dx h:=(ok x _ e).1
section
variable {X:Cx}{C f:Addr}{x:Str}{p pos:Pos}{e:Expr}{es:List Expr}{t:TA}{k:Nat}{fd:FuncData}{ps:List Str}{sp:Sp}{E:XK}
def FW (C:Addr) (sp:Sp) (t:TA):TE:=fun σ H Q=>t σ H fun vs H1=>vs.length≤10000∧∀y H',Nw H1 y (fj y C none) H'→sp (.ref y :: vs) H' (fun v H2=>v=.non∧Q (.ref y) H2) E0
theorem CS {K:PySem.W.Frag}{h:Heap}{f:Addr} (KX:K.In h) (q:PySem.W.isFn K (.ref f)=true):∃o,h.get? f=some o∧o.cls=.type "function" := by
 unfold PySem.W.isFn at q
 rw [beq_iff_eq] at q
 unfold PySem.W.typeIn at q
 obtain ⟨o,e,z⟩:=Option.map_eq_some_iff.mp q
 exact ⟨o,KX _ _ e,z⟩
theorem AN {pins:List (Addr×Obj)}{σ:St}{H:Hp}{s:Shared}{Q:VK}{us:List Value}{vs:List V} (q:bN X.K C (some (.ref f))=true) (fn:PySem.W.isFn X.K (.ref f)=true) (F:bD X.prog X.w X.K X.mg X.base CX0 k f fd ps sp) (hr:cC (k+1) X.A) (hb:fA X.K fd ps [])
 (I:af X pins σ H s) (r:aM vs us) (hl:vs.length≤10000) (h:∀y H',Nw H y (fj y C none) H'→sp (.ref y :: vs) H' (fun v H2=>v=.non∧Q (.ref y) H2) E0):wpAny (model X.prog X.w) X.A (call (.ref C) us) (EP X pins σ Q) X.xe s:=by
 obtain ⟨nm,qn,N,bs,bm,hd,sn,sb,ab,cl,dd,k0,k1,k2,k3,k5,mN,eC,eN,T,eI⟩:=yb I.kIn q
 obtain ⟨oI,ef,ec⟩:=CS I.kIn fn
 have FB:=PySem.F.excBase_ValueError
 obtain ⟨hp,gs,dr,tk,os⟩:=s
 refine zj FB T eC eN eI ef ec (by rw [←r.length];exact fw hl) fun h1 y m=>?_
 obtain ⟨a0,e1,_,_⟩:=m.there
 have I2:=I.laidN (t':=tk) m.keeps m.new (xf (H:=aN H y (fj y C none)) ⟨_,_,e1⟩)
 have hq:=h y _ (.mk' (I.hok.none' m.new))
 have r2:aM (V.ref y :: vs) (Value.ref y :: us):=.cons rfl r
 have ln:(Value.ref y :: us).length=ps.length:=by rw [←r2.length];exact F.len _ _ _ _ hq
 have hbb:=hb _ (Value.ref y :: us) I2.kIn (by rw [List.append_nil];exact ln)
 rw [List.append_nil] at hbb
 refine wpAny_call (codeAny_mono (F.run _ X.stack _ _ ⟨Value.ref y :: us,[]⟩ (Value.ref y :: us) _ _ E0 (hr.make C us []) (I2.env0.make C us []) hbb r2 hq) fun rs s' hq'=>?_)
 cases rs with
 | error z=>exact hq'.elim
 | ok fl=>
  cases fl with
  | ret u=>
   obtain ⟨v,H',I3,rv,ev,q3⟩:=I2.after hq'
   subst ev
   exact ⟨rv,⟨V.ref y,H',I3,rfl,q3⟩⟩
  | next=>exact False.elim hq'
  | brk=>exact False.elim hq'
  | cont=>exact False.elim hq'
theorem Ck (q:bN X.K C (some (.ref f))=true) (fn:PySem.W.isFn X.K (.ref f)=true) (kp:PySem.W.keepIn X.K (.ref C)=true) (F:bD X.prog X.w X.K X.mg X.base CX0 k f fd ps sp) (hr:cC (k+1) X.A) (hb:fA X.K fd ps []) (hg:Gl X x) (hm:X.mg x=some (.ref C))
 (ha:PA X (e :: es) t) (hdb:(x==("__debug__" : Str))=false:=by decide) (he:starEach (e :: es) X.env=(false,eval e X.env) :: starEach es X.env:=by rfl) (hpl:(backTo pos (starEach es X.env)).any (·.1)=false:=by rfl):PE X (.Call (.Name x p) (e :: es) [] pos) (FW C sp t):=by
 intro pins s σ H Q I h
 refine wpAny_Call_Name_kw (ku I hg hm ?_ hdb)
 exact PySem.W.callWith_K (h₀:=X.base) I.ok.mod.kin kp (aW (ha pos pins s σ H _ I h) fun us s1 ⟨vs,H1,I1,r,hl,q1⟩=>⟨I1.kIn,AN q fn F hr hb I1 r hl q1⟩) he hpl
theorem vP {h:Heap}{y C:Addr} (e:tf y C none h):bo fun ox a0=>PySem.W.InstAt h y ox C none∧ox.data=.fields #[a0,.none,.none,.none,.bool false,.none]:=by
 obtain ⟨a0,sl,q⟩:=e
 exact ⟨_,a0,⟨q,rfl,rfl,trivial⟩,rfl⟩
theorem af.exc {pins:List (Addr×Obj)}{σ:St}{H:Hp}{s:Shared}{h':Heap}{y C:Addr}{dx:Option Addr}{t':Nat} (I:af X pins σ H s) (e:H y=some (fj y C dx)) (k:∀b o,b≠y→s.heap.get? b=some o→h'.get? b=some o) {dx':Option Addr} (n:tf y C dx' h'):af X pins σ (aN H y (fj y C dx')) { s with heap:=h',toks:=t' }:=
 I.write (x:=y) (e:=y) (by rw [e];exact trivial) (.inl rfl) k (let ⟨_,_,q⟩:=n;⟨_,q⟩) (xf n)
theorem lc {H:Hp}{a:Addr}{o:HO} (h:H a=some o):aN H a o=H:=by
 funext b
 unfold aN
 split
 ·rename_i z;rw [z,h]
 ·rfl
abbrev yd (K:PySem.W.Frag) (B:Addr):Bool:=PySem.W.specialIn K (.ref B) "__getattribute__" == some (some (.builtin "type.__getattribute__")) && PySem.W.readsIn K B (.type "type") && (match PySem.W.findCls K (.ref B) (.type "type") "__init__" with | some (.val v)=>v==.builtin "ValueError.__init__" | _=>false)
def D7 (K:PySem.W.Frag) (t:TA):TE:=fun σ H Q=>t σ H fun vs H1=>kd fun y u C ini=>vs=[.ref y,u]∧H1 y=some (fj y C none)∧bN K C ini=true∧Q .non H1
theorem AO {B:Addr}{pl:Sem Bool}{apos:Pos} (q:yd X.K B=true) (hg:Gl X x) (hm:X.mg x=some (.ref B)) (ha:PA X (e :: es) t) (hdb:(x==("__debug__" : Str))=false:=by decide)
 (hst:starEach (e :: es) X.env=(false,eval e X.env) :: starEach es X.env:=by rfl) (hpl:(backTo pos (starEach es X.env)).any (·.1)=false:=by rfl)
 (ht:eval (.Call (.Attribute (.Name x p) "__init__" apos) (e :: es) [] pos) X.env=(do
  let ov ←eval (.Name x p) X.env
  standAt apos.atName
  let (f,first) ←holding [ov] (getMethod ov "__init__" pl)
  callWith pos f first (backTo pos (starEach (e :: es) X.env)) (backToKw pos (keywordEach [] X.env))):=by rfl) :
 PE X (.Call (.Attribute (.Name x p) "__init__" apos) (e :: es) [] pos) (D7 X.K t):=by
 intro pins s σ H Q I h
 unfold yd at q
 rw [Bool.and_eq_true,Bool.and_eq_true,beq_iff_eq] at q
 obtain ⟨⟨q1,q2⟩,q3⟩:=q
 refine PySem.W.methodCall_KW (pl:=pl) (ku I hg hm ?_ hdb) ht
 cases e3:PySem.W.findCls X.K (.ref B) (.type "type") "__init__" with
 | none=>rw [e3] at q3;cases q3
 | some r=>
  cases r with
  | get g a o tp=>rw [e3] at q3;cases q3
  | val v=>
   rw [e3] at q3
   obtain rfl:=beq_iff_eq.mp (show (v==Value.builtin "ValueError.__init__")=true from q3)
   refine PySem.W.method_cls I.kIn q1 (PySem.W.cls_value I.kIn q2 e3 rfl ?_)
   have I1:af X pins σ H { s with toks:=s.toks+1 }:=I.tok _
   refine PyProof.Rows.callWith_builtin1 (aW (ha pos pins _ σ H _ I1 h) fun us s1 ⟨vs,H1,I2,r,q4⟩=>?_) hst hpl
   obtain ⟨y,u,C,ini,rfl,hy,hC,k⟩:=q4
   obtain ⟨uy,uu,rfl,r1,r2⟩:=sM r
   cases r1
   obtain ⟨ox,a0,J,hf⟩:=vP (qm I2.hok hy)
   refine EC I2.kIn J hf hC fun h' e1 kp=>?_
   have I3:=I2.exc (t':=s1.toks) hy kp (dx':=none) ⟨_,ox.slots,by
    rw [e1,J.cls]
    have:ox.dict=none:=by
     have z:=J.dict
     cases q:ox.dict with
     | none=>rfl
     | some d=>rw [q] at z;exact z.elim
    rw [this]⟩
   rw [lc hy] at I3
   exact ⟨.non,H1,I3,rfl,k⟩
abbrev iK (K:PySem.W.Frag) (C:Addr) (f:Str):Bool:=oA K C && (PySem.W.clsIn K C).any (·.hasDict) && PySem.W.findIn K (.ref C) f==some none
def F8 (K:PySem.W.Frag) (ta tv:TE) (f:Str):TS:=fun D σ H=>tv σ H fun v H1=>ta σ H1 fun y H2=>bo fun a C=>y=.ref a∧H2 a=some (fj a C none)∧fU K C f=true∧∀dx H',H2 dx=none→dx≠a→H'=aN (aN H2 dx (.xd [(f,v)])) a (fj a C (some dx))→D.nx σ H'
theorem Ct {o value:Expr}{ta tv:TE}{f:Str}{pos':Pos} (ha:PE X o ta) (hv:PE X value tv) (hs:swapsWith value (some (.Attribute o f pos')) pos.line X.env=pure false):PS X (.Assign [.Attribute o f pos'] value pos) (F8 X.K ta tv f):=by
 intro pins s σ H D I h
 refine plainObj_wpAny_Assign_Attribute (aW (hv pins s σ H _ I h) fun u s1 ⟨v,H1,I1,ry,q⟩=>aW (ha pins s1 σ H1 _ I1 q) fun ov s2 ⟨y,H2,I2,rx,a,C,ex,ea,g,q2⟩=>?_) hs
 subst ex
 obtain rfl:ov=Value.ref a:=rx
 obtain ⟨ox,a0,J,hf⟩:=vP (qm I2.hok ea)
 refine FG I2.kIn J hf g fun h' tk n1 e1 kp=>?_
 have nd:s2.heap.get? s2.heap.objs.size=none:=Heap.get?_none_of_le (Nat.le_refl _)
 have na:s2.heap.objs.size≠a:=Nat.ne_of_gt (Heap.lt_size J.at_)
 have fr:H2 s2.heap.objs.size=none:=I2.hok.fresh (Nat.le_refl _)
 have ne:tf a C (some s2.heap.objs.size) h':=⟨a0,ox.slots,by rw [e1,J.cls,hf]⟩
 obtain ⟨od,es,ep,h1,h2⟩:=id n1
 have h3:(s2.heap.push od).get? s2.heap.objs.size=some od:=Heap.get?_push_size _ (Heap.get?_some_iff.mp h1).2
 have I3:af X pins σ (aN H2 s2.heap.objs.size (.xd [(f,v)])) { s2 with heap:=s2.heap.push od,toks:=tk }:=I2.laid (fun b o z=>Heap.get?_push_of_some _ z) (Nat.le_refl _) (show bh X.prog X.w _ _ _ (.xd [(f,v)]) from ⟨_,n1.at fun o z=>by rw [h1] at z;cases z;exact h3,fun y=>by
  by_cases c:y=f
  ·subst c
   rw [if_pos rfl]
   simp only [List.lookup,beq_self_eq_true]
   exact ry
  ·rw [if_neg c]
   have:(y==f)=false:=beq_eq_false_iff_ne.mpr c
   simp only [List.lookup,this]
   exact trivial⟩)
 have ea3:aN H2 s2.heap.objs.size (.xd [(f,v)]) a=some (fj a C none):=by rw [ao (Ne.symm na)];exact ea
 have I4:=I3.exc (t':=tk) (h':=h') ea3 (fun b o nb z=>by
  by_cases c:b=s2.heap.objs.size
  ·subst c
   rw [h3] at z
   cases z
   exact h1
  ·rw [Heap.get?_push_ne _ _ _ c] at z
   exact kp b o nb z) ne
 exact ⟨σ,_,I4,q2 _ _ fr na rfl⟩
theorem d8 (hg:Gl X x) (hm:X.mg x=some (.ref C)) (hdb:(x==("__debug__" : Str))=false:=by decide):PE X (.Name x p) (tC (.ref C)):=fun pins s σ H Q I h=>ku I hg hm ⟨.ref C,H,I,rfl,h⟩ hdb
def Ac:V→Option Value
 | .ref a=>some (.ref a)
 | .ty T=>some (.type T)
 | _=>none
def HB (H:Hp) (a C:Addr) (fs:List (Str×V)):Prop:=(fs=[]∧H a=some (fj a C none))∨∃dx,H a=some (fj a C (some dx))∧H dx=some (.xd fs)
end
end L2
namespace L2
open PySem PySem.Spec PyProof.Rows
theorem pN:bootBuiltins "ValueError" = some (.type "ValueError"):=by decide +kernel
def qc:Stmt→Nat→Stmt
 | .ClassDef _ _ _ body _ _ _ _ _ _ _,j=>body.getD j (.Pass ⟨0,0,0,0⟩)
 | _,_=>.Pass ⟨0,0,0,0⟩
def qq (K:PySem.W.Frag) (cs:List Addr) (g:Addr):Bool:=decide cs.Nodup && cs.all fun c=>oz K c && (PySem.W.kitOne K (.ref c) (.ref g)==some true && (PySem.W.kitOne K (.ref c) (.type "ValueError")==some true && cs.all fun d=>PySem.W.kitOne K (.ref c) (.ref d)==some (decide (c=d))))
theorem AB {K:PySem.W.Frag}{cs:List Addr}{g:Addr} (h:qq K cs g=true):cs.Nodup:=of_decide_eq_true (Bool.and_eq_true _ _▸h).1
theorem vA {K:PySem.W.Frag}{cs:List Addr}{g c:Addr} (h:qq K cs g=true) (hc:c∈cs):oz K c=true∧PySem.W.kitOne K (.ref c) (.ref g)=some true∧PySem.W.kitOne K (.ref c) (.type "ValueError")=some true∧∀d∈cs,PySem.W.kitOne K (.ref c) (.ref d)=some (decide (c=d)):=by
 unfold qq at h
 rw [Bool.and_eq_true,List.all_eq_true] at h
 have z:=h.2 c hc
 obtain ⟨z1,z⟩:=Bool.and_eq_true_iff.mp z
 obtain ⟨z2,z⟩:=Bool.and_eq_true_iff.mp z
 obtain ⟨z3,z⟩:=Bool.and_eq_true_iff.mp z
 exact ⟨z1,beq_iff_eq.mp z2,beq_iff_eq.mp z3,fun d hd=>beq_iff_eq.mp (List.all_eq_true.mp z d hd)⟩
section
variable {X:Cx}
end
end L2
namespace L2
open PySem PySem.Spec PyProof.Rows
def mG (h:Heap) (a T:Addr) (C:Value) (dx:Option Addr) (fl:Value):Prop:=
 kd fun vs sl oT ts=>h.get? a=some ⟨C,dx,.fields vs,sl⟩∧vs[1]?=some (.ref T)∧T≠a∧h.get? T=some oT∧oT.data=.fields ts∧ts[3]?=some fl
def Kp (h h':Heap) (bad fs:List Addr):Prop:=∀b o,b∉bad→h.get? b=some o→(∃sl,h'.get? b=some { o with slots:=sl })∧(b∉fs→h'.get? b=some o)
def EJ (head:Value) (L:Addr) (pl:List Value):Obj:={ cls:=.type "traceback",dict:=none,data:=.fields ([head,.ref L,.none,rawInt L,.none]++(if pl.isEmpty then List.replicate 6 Value.none else pl)).toArray }
section
variable {M:Model}{A:Around}{E:Value→Shared→Prop}{s:Shared}{base:Heap}{env:Env}{outer:List Env}{L a T:Addr}{C head:Value}{dx:Option Addr}{vs:Array Value}{sl:Array (Option Value)}{hn:Bool}{Q:Unit→Shared→Prop}
theorem ux (hfr:A.frames=some (env :: outer)) (hl:s.heap.FunFrames base (env :: outer)) (hf:env.frame=some L) (he:s.heap.get? a=some ⟨C,dx,.fields vs,sl⟩) (hz:1<vs.size)
 (h:∀h' T,mG h' a T C dx (rawInt L)→T=s.heap.objs.size→Kp s.heap h' [a] (f6 (env :: outer))→Q () { s with heap:=h' }) :
 wpAny M A (do let f ←frameOf env;let pl ←entryPlaceOf L hn;let b ←EntryCells.newEntry head f .none (rawInt L) .none pl;setField (.ref a) 1 b) Q E s:=by
 have na:a∉f6 (env :: outer):=fun z=>by
  obtain ⟨_,o,ho,q⟩:=hl.mem z
  rw [he] at ho
  cases ho
  exact q vs rfl
 refine wpAny_bind (wpAny_frameOf_fun hfr hl hf fun h1 s1=>wpAny_bind (wpAny_entryPlaceOf fun pl hp=>?_))
 have e1:h1.get? a=some ⟨C,dx,.fields vs,sl⟩:=(s1.2.1 a na).trans he
 unfold EntryCells.newEntry newFields
 refine wpAny_bind (wpAny_newObj_type ?_ (hp.sizeOk5 _ _ _ _ _))
 show wpAny M A (setField (.ref a) 1 (.ref h1.objs.size)) Q E { s with heap:=h1.push (EJ head L pl) }
 have e2:=Heap.get?_push_of_some (h:=h1) (EJ head L pl) e1
 have nT:h1.objs.size≠a:=Nat.ne_of_gt (Heap.lt_size e1)
 refine wpAny_setField e2 rfl hz (h _ h1.objs.size ⟨vs.setIfInBounds 1 (.ref h1.objs.size),sl,EJ head L pl,_,?_,?_,nT,?_,rfl,?_⟩ s1.1 fun b o nb hb=>?_)
 ·exact Heap.get?_update_self _ e2 rfl
 ·simp [hz]
 ·rw [Heap.get?_update_other _ _ (Ne.symm nT)]
  exact Heap.get?_push_size h1 rfl
 ·rw [List.getElem?_toArray,List.getElem?_append_left (by show 3<5;decide)]
  rfl
 ·have nb':a≠b:=fun z=>nb (by simp [z])
  obtain ⟨sl',q⟩:=s1.2.2 b o hb
  refine ⟨⟨sl',?_⟩,fun nf=>?_⟩
  ·rw [Heap.get?_update_other _ _ nb']
   exact Heap.get?_push_of_some _ q
  ·rw [Heap.get?_update_other _ _ nb']
   exact Heap.get?_push_of_some _ ((s1.2.1 b nf).trans hb)
theorem xS (hfr:A.frames=some (env :: outer)) (hl:s.heap.FunFrames base (env :: outer)) (hf:env.frame=some L) (he:s.heap.get? a=some ⟨C,dx,.fields vs,sl⟩) (h1:vs[1]?=some .none)
 (h:∀h' T,mG h' a T C dx (rawInt L)→T=s.heap.objs.size→Kp s.heap h' [a] (f6 (env :: outer))→Q () { s with heap:=h' }):wpAny M A (noteFrame (.ref a) env) Q E s:=by
 unfold noteFrame
 simp only [hf]
 refine wpAny_bind (wpAny_field he rfl h1 ?_)
 rw [if_neg (by decide)]
 exact ux hfr hl hf he (Array.getElem?_eq_some_iff.mp h1).1 h
theorem tV (hfr:A.frames=some (env :: outer)) (hl:s.heap.FunFrames base (env :: outer)) (hf:env.frame=some L) (ht:mG s.heap a T C dx .none)
 (h:∀h' T',mG h' a T' C dx (rawInt L)→T'=s.heap.objs.size→Kp s.heap h' [a,T] (f6 (env :: outer))→Q () { s with heap:=h' }):wpAny M A (noteFrame (.ref a) env) Q E s:=by
 obtain ⟨vs,sl,oT,ts,he,h1,ne,hT,hd,h3⟩:=ht
 unfold noteFrame
 simp only [hf]
 refine wpAny_bind (wpAny_field he rfl h1 ?_)
 rw [if_pos (show (Value.ref T != Value.none)=true by simp)]
 refine wpAny_bind (wpAny_field hT hd h3 ?_)
 rw [if_neg (show ¬((Value.none==rawInt L)=true) by simp [rawInt])]
 refine wpAny_bind (wpAny_setField hT hd (Array.getElem?_eq_some_iff.mp h3).1 ?_)
 have ot:∀b,b≠T→(s.heap.update T (Obj.mapFields (·.setIfInBounds 3 Value.none))).get? b=s.heap.get? b:=fun b nb=>Heap.get?_update_other _ _ (Ne.symm nb)
 have nr:∀b o,s.heap.get? b=some o→(∀vs,o.data≠.fields vs)→b≠T:=fun b o hb q z=>by
  rw [z,hT] at hb
  cases hb
  exact q ts hd
 refine ux hfr (hl.of_keeps fun b o hb q=>⟨o,(ot b (nr b o hb q)).trans hb,rfl⟩) hf ((ot a (Ne.symm ne)).trans he) (Array.getElem?_eq_some_iff.mp h1).1 fun h' T' t z k=>h h' T' t (z.trans (Heap.size_after_update ..)) fun b o nb hb=>?_
 have n1:b∉[a]:=fun z=>nb (by simp [List.mem_singleton.mp z])
 have n2:b≠T:=fun z=>nb (by simp [z])
 exact k b o n1 ((ot b n2).trans hb)
theorem qr {fl:Value} (ht:mG s.heap a T C dx fl) (h:∀h',mG h' a T C dx .none→Kp s.heap h' [T] []→Q () { s with heap:=h' }):wpAny M A (setFlight (.ref a) none) Q E s:=by
 obtain ⟨vs,sl,oT,ts,he,h1,ne,hT,hd,h3⟩:=ht
 unfold setFlight
 refine wpAny_bind (wpAny_field he rfl h1 ?_)
 rw [if_pos (show (Value.ref T != Value.none)=true by simp)]
 have z3:=(Array.getElem?_eq_some_iff.mp h3).1
 have dT:=Obj.data_mapFields hd (·.setIfInBounds 3 Value.none)
 refine wpAny_setField hT hd z3 (h _ ⟨vs,sl,_,_,?_,h1,ne,Heap.get?_update_self _ hT (Obj.isFreed_of_fields dT),dT,by simp [z3]⟩ fun b o nb hb=>?_)
 ·exact (Heap.get?_update_other _ _ ne).trans he
 ·have nb':T≠b:=fun z=>nb (by simp [z])
  have q:=(Heap.get?_update_other s.heap (Obj.mapFields (·.setIfInBounds 3 ((none:Option Addr).elim Value.none fun f=>rawInt f))) nb').trans hb
  exact ⟨⟨o.slots,q⟩,fun _=>q⟩
theorem Kp.trans0 {h h1 h2:Heap}{bad fs:List Addr}{T:Addr} (k:Kp h h1 bad fs) (k2:Kp h1 h2 [T] []) (n:h.objs.size≤T):Kp h h2 bad fs:=fun b o nb hb=>by
 have nT:b∉[T]:=fun z=>by
  have q:=Heap.lt_size hb
  rw [List.mem_singleton.mp z] at q
  exact absurd q (Nat.not_lt.mpr n)
 obtain ⟨⟨sl,q1⟩,q2⟩:=k b o nb hb
 exact ⟨⟨sl,(k2 b _ nT q1).2 (by simp)⟩,fun nf=>(k2 b _ nT (q2 nf)).2 (by simp)⟩
theorem wO (hfr:A.frames=some (env :: outer)) (hl:s.heap.FunFrames base (env :: outer)) (hf:env.frame=some L) (he:s.heap.get? a=some ⟨C,dx,.fields vs,sl⟩) (h1:vs[1]?=some .none)
 (h:∀h' T,mG h' a T C dx .none→T=s.heap.objs.size→Kp s.heap h' [a] (f6 (env :: outer))→Q () { s with heap:=h' }):wpAny M A (leaving env (.ref a)) Q E s:=by
 unfold leaving
 exact wpAny_bind (xS hfr hl hf he h1 fun h' T t z k=>qr t fun h2 t2 k2=>h h2 T t2 z (k.trans0 k2 (Nat.le_of_eq z.symm)))
theorem xQ (hfr:A.frames=some (env :: outer)) (hl:s.heap.FunFrames base (env :: outer)) (hf:env.frame=some L) (ht:mG s.heap a T C dx .none)
 (h:∀h' T',mG h' a T' C dx .none→T'=s.heap.objs.size→Kp s.heap h' [a,T] (f6 (env :: outer))→Q () { s with heap:=h' }):wpAny M A (leaving env (.ref a)) Q E s:=by
 unfold leaving
 exact wpAny_bind (tV hfr hl hf ht fun h' T t z k=>qr t fun h2 t2 k2=>h h2 T t2 z (k.trans0 k2 (Nat.le_of_eq z.symm)))
end
end L2
namespace L2
open PySem PySem.Spec PyProof.Rows
def ju (x C:Addr) (dx:Option Addr):HO:=.ext fun h=>bo fun vs sl=>h.get? x=some ⟨.ref C,dx,.fields vs,sl⟩
theorem Cw {P:Program}{w:World}{H:Hp}{h:Heap}{x C:Addr}{dx:Option Addr} (e:bo fun vs sl=>h.get? x=some ⟨.ref C,dx,.fields vs,sl⟩):bh P w H h x (ju x C dx):=
 ⟨e,let ⟨_,_,q⟩:=e;⟨_,q⟩,fun h1 h2 ⟨vs,sl,q⟩ k=>⟨vs,sl,k _ q⟩⟩
theorem rm {P:Program}{w:World}{H:Hp}{h:Heap}{x C:Addr}{dx:Option Addr} (ok:dz P w H h) (e:H x=some (ju x C dx)):bo fun vs sl=>h.get? x=some ⟨.ref C,dx,.fields vs,sl⟩:=(ok x _ e).1
theorem BB {fs ch:List Addr}{H:Hp}{h h':Heap}{a:Addr}{φ:Heap→Prop}{o:HO} (ea:H a=some (.ext φ)) (k:Kp h h' (a :: ch) fs) (th:∃u,h'.get? a=some u):Un fs ch H (aN H a o) h h':=by
 have ne:∀{b:Addr},H b=none→b≠a:=fun q z=>by rw [z,ea] at q;cases q
 have nc:∀{b:Addr},b≠a→b∉ch→b∉a :: ch:=fun n1 n2 z=>(List.mem_cons.mp z).elim n1 n2
 refine ⟨fun b u q n f x=>(k b u (nc (ne n) x) q).2 f,fun b u q n _ x=>(k b u (nc (ne n) x) q).1,fun b u q n _=>by rw [ao (ne n)];exact n,fun b u q x=>?_,fun b xs q=>?_,fun b u xs q=>?_,fun b ps q=>⟨#[],?_⟩⟩
 ·by_cases e:b=a
  ·rw [e];exact th
  ·obtain ⟨⟨sl,z⟩,_⟩:=k b u (nc e x) q
   exact ⟨_,z⟩
 ·rw [ao (fun z=>by rw [z,ea] at q;cases q)];exact q
 ·rw [ao (fun z=>by rw [z,ea] at q;cases q)];exact q
 ·rw [ao (fun z=>by rw [z,ea] at q;cases q),q];simp
theorem AX {P:Program}{w:World}{fs ch:List Addr}{H:Hp}{h h':Heap}{a:Addr}{φ:Heap→Prop}{o:HO} (ok:dz P w H h) (ea:H a=some (.ext φ)) (k:Kp h h' (a :: ch) fs) (ff:∀b∈fs,H b=none) (fc:∀b∈ch,H b=none)
 (nw:bh P w (aN H a o) h' a o):dz P w (aN H a o) h':=fun b u e=>by
 by_cases hb:b=a
 ·subst hb
  rw [am] at e
  cases e
  exact nw
 ·rw [ao hb] at e
  refine (ok b u e).stay (fun c v cd q=>?_) (fun c q=>?_) fun c xs q=>?_
  ·have hc:H c≠none∧c≠a:=by
    rcases cd with rfl | cd
    ·exact ⟨by rw [e];simp,hb⟩
    ·exact ⟨by rw [cd];simp,fun z=>by rw [z,ea] at cd;cases cd⟩
   exact (k c v (fun z=>(List.mem_cons.mp z).elim hc.2 fun z=>hc.1 (fc c z)) q).2 fun z=>hc.1 (ff c z)
  ·rw [ao (fun z=>by rw [z,ea] at q;cases q)];exact q
  ·rw [ao (fun z=>by rw [z,ea] at q;cases q)];exact q
section
variable {X:Cx}{pins:List (Addr×Obj)}{σ:St}{H:Hp}{s:Shared}{h':Heap}{a T C:Addr}{dx:Option Addr}{φ:Heap→Prop}{ch:List Addr}{fl:Value}
theorem mG.there (t:mG h' a T (.ref C) dx fl):bo fun vs sl=>h'.get? a=some ⟨.ref C,dx,.fields vs,sl⟩:=let ⟨vs,sl,_,_,e,_⟩:=t;⟨vs,sl,e⟩
theorem af.noted (I:af X pins σ H s) (ea:H a=some (.ext φ)) (k:Kp s.heap h' (a :: ch) (f6 X.stack)) (t:bo fun vs sl=>h'.get? a=some ⟨.ref C,dx,.fields vs,sl⟩) (fc:∀b∈ch,H b=none)
 (hch:∀b∈ch,(b∈X.ex∨X.s₀.heap.objs.size≤b)∧b≠X.env.locals∧(∀x c,X.env.cells.lookup x=some c→c≠b)∧∀p∈X.pn++pins,p.1≠b):af X pins σ (aN H a (ju a C dx)) { s with heap:=h' }:=
 I.call' (ch:=ch) rfl (BB ea k (let ⟨_,_,e⟩:=t;⟨_,e⟩)) (AX I.hok ea k I.stkFree fc (Cw t)) I.bare hch
theorem af.far (I:af X pins σ H s) (n:s.heap.objs.size≤T):(T∈X.ex∨X.s₀.heap.objs.size≤T)∧T≠X.env.locals∧(∀x c,X.env.cells.lookup x=some c→c≠T)∧∀p∈X.pn++pins,p.1≠T:=by
 have lt:∀{b:Addr}{u:Obj},s.heap.get? b=some u→b≠T:=fun q z=>by
  have q':=Heap.lt_size q
  rw [z] at q'
  exact absurd q' (Nat.not_lt.mpr n)
 refine ⟨.inr (Nat.le_trans I.sz n),?_,fun x c e=>?_,fun p hp=>lt (I.pin p hp).1⟩
 ·obtain ⟨m,⟨o,es,ep,ho,_⟩,_⟩:=I.loc
  exact Ne.symm (lt ho)
 ·obtain ⟨v,q⟩:=I.cell x c e
  obtain ⟨o,ho,_⟩:=q
  exact lt ho
end
def p7 (P:Program) (w:World):kf:=fun outer H s E e s'=>Bb fun a T C dx H'=>e=.ref a∧s'.os=s.os∧AllBare s'.gens∧Un (f6 outer) [] H H' s.heap s'.heap∧dz P w H' s'.heap∧mG s'.heap a T (.ref C) dx .none∧s.heap.objs.size≤T∧H' T=none∧H' a=some (ju a C dx)∧E (.ref C) dx H'
def yG (X:Cx) (E:XK):Prop:=∀pins σ H s a C dx,af X pins σ H s→H a=some (fj a C dx)→E (.ref C) dx (aN H a (ju a C dx))→X.xe (.ref a) s
section
variable {P:Program}{w:World}{K:PySem.W.Frag}{mg:Str→Option Value}{base:Heap}{N:List Str}{qual:Str}{scope:Scope}{f:Addr}{cd:Value}{A:Around}{outer:List Env}{s:Shared}{H:Hp}{E:XK}
theorem E2:p8 (p7 P w) (ou (p7 P w) P w K mg base N qual scope f cd A outer s H E) E:=by
 intro pins σ H1 s1 e s2 I h
 obtain ⟨a,T,C,dx,H',rfl,os,bare,un,hok,t,n,hT,ha,hE⟩:=h
 have J:=I.call' (ch:=[]) os un hok bare (fun b z=>by cases z)
 have far:=I.far n
 refine xQ (L:=s.heap.objs.size) J.ok.frames J.stack rfl t fun h' T' t' z k=>?_
 have J2:=J.noted ha (ch:=[T]) k t'.there (fun b hb=>by rw [List.mem_singleton.mp hb];exact hT) (fun b hb=>by rw [List.mem_singleton.mp hb];exact far)
 rw [lc ha] at J2
 exact ⟨a,T',C,dx,H',rfl,J2.os,J2.bare,J2.base,J2.hok,t',by rw [z];exact J.sz,J.hok.fresh (by rw [z];exact Nat.le_refl _),ha,hE⟩
theorem BZ:yG (ou (p7 P w) P w K mg base N qual scope f cd A outer s H E) E:=by
 intro pins σ H1 s1 a C dx J ha hE
 obtain ⟨a0,sl,ea⟩:=qm J.hok ha
 refine wO (L:=s.heap.objs.size) J.ok.frames J.stack rfl ea rfl fun h' T' t' z k=>?_
 have J2:=J.noted ha (ch:=[]) k t'.there (fun b hb=>by cases hb) (fun b hb=>by cases hb)
 have nT:H1 T'=none:=J.hok.fresh (by rw [z];exact Nat.le_refl _)
 exact ⟨a,T',C,dx,_,rfl,J2.os,J2.bare,J2.base,J2.hok,t',by rw [z];exact J.sz,by rw [ao (fun q=>by rw [q,ha] at nT;cases nT)];exact nT,am,hE⟩
end
end L2
namespace L2
open PySem PySem.Spec PyProof.Rows
section
variable {M:Model}{A:Around}{E:Value→Shared→Prop}{s:Shared}{env:Env}
theorem zF {x:Sem Value}{Q:Flow→Shared→Prop} (hh:A.handled=none)
 (h:wpAny M A x (fun v s1=>∃e a0 dx sl nm q C N bs bm hd sn sb ab cl dd k0 k1 k2 k3 k5 nw,v=.ref e∧bm.contains (.type "BaseException")=true∧s1.heap.get? C=some (excClassObj nm q C N bs bm hd sn sb ab cl dd k0 k1 k2 k3 k5 nw)∧
  s1.heap.get? e=some ⟨.ref C,dx,.fields #[a0,.none,.none,.none,.bool false,.none],sl⟩∧E (.ref e) s1) E s):wpAny M A (raiseStmt env (some x) none) Q E s:=by
 unfold raiseStmt
 refine wpAny_bind (wpAny_mono h (fun v s1 h1=>?_) fun _ _ x=>x)
 obtain ⟨e,a0,dx,sl,nm,q,C,N,bs,bm,hd,sn,sb,ab,cl,dd,k0,k1,k2,k3,k5,nw,rfl,hb,hC,he,hE⟩:=h1
 have hcB:(Value.ref C :: bm).contains (.type "BaseException")=true:=by rw [List.contains_cons,hb,Bool.or_true]
 obtain ⟨hp,g,d,tk,os⟩:=s1
 repeat
  first
   | (with_reducible refine wpAny_isSubtype_exc hC ?_
      rw [hcB])
   | (with_reducible refine wpAny_loadPart_at hC ?_)
   | (with_reducible refine wpAny_loadPart_at he ?_)
   | wp_step
 exact wpAny_raiseNew_none hh hE
end
section
variable {X:Cx}{e:Expr}{te:TE}{pos:Pos}{E:XK}
def EU (K:PySem.W.Frag) (E:XK) (te:TE):TS:=fun D σ H=>te σ H fun v H'=>kd fun a C dx ini=>v=.ref a∧H' a=some (fj a C dx)∧bN K C ini=true∧E (.ref C) dx (aN H' a (ju a C dx))
theorem AG (hc:X.calm=true) (hx:yG X E) (he:PE X e te):PS X (.Raise (some e) none pos) (EU X.K E te):=by
 intro pins s σ H D I h
 rw [arm_exec_Raise]
 refine wpAny_bind (wpAny_standAt ?_)
 show wpAny _ _ (raiseStmt X.env (some (do let v ←eval e X.env;standAt pos;pure v)) none) _ _ _
 refine zF (I.ok.hd hc) (wpAny_bind (aW (he pins s σ H _ I h) fun u s1 ⟨v,H1,I1,r,a,C,dx,ini,ev,ha,q,hE⟩=>wpAny_bind (wpAny_standAt (wpAny_pure ?_))))
 subst ev
 obtain rfl:u=Value.ref a:=r
 obtain ⟨nm,qn,N,bs,bm,hd,sn,sb,ab,cl,dd,k0,k1,k2,k3,k5,mN,eC,eN,T,_⟩:=yb I1.kIn q
 obtain ⟨a0,sl,ea⟩:=qm I1.hok ha
 exact ⟨a,a0,dx,sl,nm,qn,C,N,bs,bm,hd,sn,sb,ab,cl,dd,k0,k1,k2,k3,k5,_,rfl,T.hasType (by decide),eC,ea,hx pins σ H1 s1 a C dx I1 ha hE⟩
theorem PS.nox {st:Stmt}{t:TS} (h:PS X.nox st t):PS X st t:=fun pins s σ H D I hw=>wpAny_mono (h pins s σ H D (I.wish _) hw) (fun _ _ q=>q.unwish) fun _ _ z=>False.elim z
theorem kH.okX {P:Program}{w:World}{K:PySem.W.Frag}{mg:Str→Option Value}{base:Heap}{x qual:Str}{st:Stmt}{f:Addr}{fd:FuncData}{N ps:List Str}{k:Nat}{sp:Sp} (F:kH K x qual st f fd) (S:aV N ps (aC st)) (len:∀vs H Q E,sp vs H Q E→vs.length=ps.length)
 (hbody:∀(cdv:Value) (A:Around) (outer:List Env) (s:Shared) (H:Hp) (vs:List V) (Q:VK) (E:XK),cC k (A.deeper (envOfC qual (aC st) s.heap.objs.size f cdv))→sp vs H Q E→
  ∃t,j7 (ou (p7 P w) P w K mg base N qual (aC st) f cdv A outer s H E) (mK st) t∧t { nx:=fun _ H'=>Q .non H',rt:=Q } (start N vs) H):bD P w K mg base (p7 P w) (k+1) f fd ps sp:=by
 obtain ⟨oc,od,kV,doc,pm,an,cdv,ct,osl,rfl,lk,hcd⟩:=F.ex
 exact Bf lk hcd S len fun A outer s H vs Q E hr hsp=>hbody cdv A outer s H vs Q E hr hsp
end
section
variable {X:Cx}{pins:List (Addr×Obj)}{σ σ':St}{H:Hp}{s:Shared}{h':Heap}
theorem af.locs {m':Str→Option Value}{t':Nat} (I:af X pins σ H s) (hs:Heap.SameBut X.env.locals s.heap h') (hn:h'.Ns X.env.locals m') (hl:∀(i:Nat) (x:Str) (v:V),X.N[i]?=some x→σ'[i]?=some (some v)→zN X.env.scope x→∃u,aX v u∧DN X.env h' m' x u) (ln:σ'.length=X.N.length) :
 af X pins σ' H { s with heap:=h',toks:=t' }:=by
 have ne:∀{b:Addr}{o:Obj},X.s₀.heap.get? b=some o→b≠X.env.locals:=fun e=>Nat.ne_of_lt (Nat.lt_of_lt_of_le (Heap.lt_size e) I.ok.above)
 refine ⟨I.ok,I.os,I.bare,⟨fun b o e n hb hx=>(hs.2 b (ne e)).trans (I.base.keep b o e n hb hx),fun b o e n hb hx=>?_,I.base.free,fun b o e hx=>?_,I.base.tups,I.base.frzs,I.base.tbls⟩,⟨m',hn,hl⟩,fun y c e=>?_,I.free,I.freeC,fun p hp=>?_,fun b ob e=>?_,ln⟩
 ·obtain ⟨sl,q⟩:=I.base.slot b o e n hb hx
  exact ⟨sl,(hs.2 b (ne e)).trans q⟩
 ·obtain ⟨o',q⟩:=I.base.there b o e hx
  exact ⟨o',(hs.2 b (ne e)).trans q⟩
 ·obtain ⟨w',z⟩:=I.cell y c e
  exact ⟨w',z.sameBut hs (I.cne y c e)⟩
 ·obtain ⟨e,n,ne,nf,d⟩:=I.pin p hp
  exact ⟨(hs.2 p.1 ne).trans e,n,ne,nf,d⟩
 ·refine (I.hok b ob e).stay (fun c w' hc q=>(hs.2 c fun z=>?_).trans q) (fun _ q=>q) fun _ _ q=>q
  subst z
  have hf:=I.free
  rcases hc with rfl | hc
  ·rw [hf] at e;cases e
  ·rw [hf] at hc;cases hc
theorem qo {M:Model}{A:Around}{E:Value→Shared→Prop}{i:Nat}{x:Str}{pos:Pos}{Q:Unit→Shared→Prop} (I:af X pins σ H s) (hN:X.N.Nodup) (hi:X.N[i]?=some x) (hk:X.env.scope.names.lookup x=some .local)
 (h:∀s',af X pins (σ.set i none) H s'→Q () s'):wpAny M A (do bindName X.env x .none;unbindBehindTheSuite X.env x pos) Q E s:=by
 have iσ:i<σ.length:=by rw [I.len];exact (List.getElem?_eq_some_iff.mp hi).1
 refine wpAny_bind (wpAny_bindName (ji (v:=.non) (u:=.none) I hN hi (.inl hk) rfl (fun s1 I1=>?_) (.inr hk)))
 obtain ⟨m,hn,hl⟩:=id I1.loc
 have kl:X.env.kindOf x=some .local:=hk
 have hc:(X.env.scope.kind==.class || (X.env.scope.kind==.module && X.env.locals != X.env.globals))=false:=by rw [I.ok.kind];rfl
 have mx:∃u,m x=some u:=by
  obtain ⟨u,_,q⟩:=hl i x .non hi (by rw [List.getElem?_set_self iσ]) (.inl hk)
  rcases q with ⟨_,e⟩ | ⟨k,_⟩
  ·exact ⟨u,e⟩
  ·rw [kl] at k
   rcases k with k | k <;> cases k
 unfold unbindBehindTheSuite
 refine wpAny_onRaise ?_
 unfold unbindName
 refine wpAny_bind (wpAny_point (wpAny_bind ?_))
 unfold deleteName
 simp only [kl,hc]
 rw [if_neg (by decide)]
 obtain ⟨u,mx⟩:=mx
 refine wpAny_bind (wpAny_nsDel_keeps hn fun h2 v2 n2 s2=>?_)
 simp only [mx,if_true,Option.isSome_some,Bool.not_true,Bool.false_eq_true,if_false]
 refine wpAny_pure (wpAny_point (h _ (I1.locs s2 n2 (fun j y v e1 e2 e3=>?_) (by simpa using I.len))))
 have hj:j≠i:=fun z=>by
  rw [z,List.getElem?_set_self iσ] at e2
  cases e2
 rw [List.getElem?_set_ne (Ne.symm hj)] at e2
 obtain ⟨u',r',q⟩:=hl j y v e1 (by rw [List.getElem?_set_ne (Ne.symm hj)];exact e2) e3
 refine ⟨u',r',?_⟩
 rcases q with ⟨k,e⟩ | ⟨k,c,e,z⟩
 ·refine .inl ⟨k,?_⟩
  have ny:y≠x:=fun e=>hj (rL hN e1 (e▸hi))
  simp [ny,e]
 ·exact .inr ⟨k,c,e,z.sameBut s2 (I1.cne y c e)⟩
end
end L2
namespace L2
open PySem PySem.Spec PyProof.Rows
def qg (CX:kf) (X:Cx) (EE:St→XK):Prop:=∀(pins:List (Addr×Obj)) (σ:St) (H:Hp) (s:Shared) (e:Value) (s':Shared),af X pins σ H s→CX X.stack H s (EE σ) e s'→X.xe e s'
section
variable {X:Cx}{CX:kf}{k:Nat}{f:Addr}{fd:FuncData}{ps:List Str}{sp:Sp}{EE:St→XK}{x:Str}{p pos:Pos}{e:Expr}{es:List Expr}{t:TA}
def Dc (sp:Sp) (EE:St→XK) (t:TA):TE:=fun σ H Q=>t σ H fun vs H1=>sp vs H1 Q (EE σ)
theorem Az (F:bD X.prog X.w X.K X.mg X.base CX k f fd ps sp) (hr:cC k X.A) (hg:Gl X x) (hm:X.mg x=some (.ref f)) (hk:PySem.W.keepIn X.K (.ref f)=true) (hb:fA X.K fd ps []) (hx:qg CX X EE)
 (ha:PA X (e :: es) t) (hdb:(x==("__debug__" : Str))=false:=by decide) (he:starEach (e :: es) X.env=(false,eval e X.env) :: starEach es X.env:=by rfl) (hpl:(backTo pos (starEach es X.env)).any (·.1)=false:=by rfl) :
 PE X (.Call (.Name x p) (e :: es) [] pos) (Dc sp EE t):=by
 intro pins s σ H Q I h
 refine wpAny_Call_Name_kw (ku I hg hm ?_ hdb)
 refine PySem.W.callWith_K (h₀:=X.base) I.ok.mod.kin hk (aW (ha pos pins s σ H _ I h) fun us s1 ⟨vs,H1,I1,r,q⟩=>⟨I1.kIn,?_⟩) he hpl
 have hl:us.length=ps.length:=by rw [←r.length];exact F.len _ _ _ _ q
 have hbb:=hb s1 us I1.kIn (by rw [List.append_nil];exact hl)
 rw [List.append_nil] at hbb
 refine wpAny_call (codeAny_mono (F.run X.A X.stack s1 H1 ⟨us,[]⟩ us vs Q (EE σ) hr I1.env0 hbb r q) fun rs s' hq=>?_)
 cases rs with
 | error z=>exact hx pins σ H1 s1 z s' I1 hq
 | ok fl=>
  cases fl with
  | ret u=>exact I1.after hq
  | next=>exact False.elim hq
  | brk=>exact False.elim hq
  | cont=>exact False.elim hq
end
abbrev Cx.tr (X:Cx) (pn:List (Addr×Obj)) (xe:Value→Shared→Prop):Cx:={ X with pn:=pn,xe:=xe }
abbrev Cx.hn (X:Cx) (A:Around):Cx:={ X with A:=A,calm:=false,xe:=fun _ _=>False }
section
variable {X:Cx}{pins pins' pn:List (Addr×Obj)}{σ:St}{H:Hp}{s:Shared}{xe:Value→Shared→Prop}
theorem Cx.Ok.tr (ok:X.Ok):(X.tr pn xe).Ok:=⟨ok.mod,ok.kind,ok.glob,ok.blt,ok.above,ok.inj,ok.has,ok.cab,ok.hd,ok.frames,ok.stk,ok.exf,ok.bs,ok.bsz,ok.noex,ok.exfs,ok.funs,ok.frf⟩
theorem Cx.Ok.untr (ok:(X.tr pn xe).Ok):X.Ok:=⟨ok.mod,ok.kind,ok.glob,ok.blt,ok.above,ok.inj,ok.has,ok.cab,ok.hd,ok.frames,ok.stk,ok.exf,ok.bs,ok.bsz,ok.noex,ok.exfs,ok.funs,ok.frf⟩
theorem af.tr (I:af X pins σ H s):af (X.tr (X.pn++pins) xe) [] σ H s:=⟨I.ok.tr,I.os,I.bare,I.base,I.loc,I.cell,I.free,I.freeC,fun p hp=>I.pin p (by rw [List.append_nil] at hp;exact hp),I.hok,I.len⟩
theorem af.untr (I:af (X.tr (X.pn++pins) xe) pins' σ H s):af X pins σ H s:=⟨I.ok.untr,I.os,I.bare,I.base,I.loc,I.cell,I.free,I.freeC,fun p hp=>I.pin p (List.mem_append_left _ hp),I.hok,I.len⟩
theorem Cx.Ok.hn {A:Around} (ok:X.Ok) (hA:A.frames=X.A.frames):(X.hn A).Ok:=⟨ok.mod,ok.kind,ok.glob,ok.blt,ok.above,ok.inj,ok.has,ok.cab,(fun z=>by cases z),hA.trans ok.frames,ok.stk,ok.exf,ok.bs,ok.bsz,ok.noex,ok.exfs,ok.funs,ok.frf⟩
theorem af.hn {A:Around} (I:af X pins σ H s) (hA:A.frames=X.A.frames):af (X.hn A) pins σ H s:=⟨I.ok.hn hA,I.os,I.bare,I.base,I.loc,I.cell,I.free,I.freeC,I.pin,I.hok,I.len⟩
theorem af.unhn {A:Around} (I:af (X.hn A) pins σ H s) (ok:X.Ok):af X pins σ H s:=⟨ok,I.os,I.bare,I.base,I.loc,I.cell,I.free,I.freeC,I.pin,I.hok,I.len⟩
end
theorem Kp.weak {h h':Heap}{bad bad' fs fs':List Addr} (k:Kp h h' bad fs) (hb:∀b∈bad,b∈bad') (hf:∀b∈fs,b∈fs'):Kp h h' bad' fs':=fun b o nb q=>
 ⟨(k b o (fun z=>nb (hb b z)) q).1,fun nf=>(k b o (fun z=>nb (hb b z)) q).2 fun z=>nf (hf b z)⟩
def xX (X:Cx) (EE:St→XK) (e:Value) (s:Shared):Prop:=∃pins σ H a T C dx,e=.ref a∧af X pins σ H s∧mG s.heap a T (.ref C) dx .none∧H T=none∧((T∈X.ex∨X.s₀.heap.objs.size≤T)∧T≠X.env.locals∧(∀x c,X.env.cells.lookup x=some c→c≠T)∧∀p∈X.pn++pins,p.1≠T)∧
 H a=some (ju a C dx)∧EE σ (.ref C) dx H
theorem FF {X:Cx}{EE:St→XK}{Y:Cx} (h:X.xe=xX Y EE) (hY:∀{pins σ H s},af X pins σ H s→af Y pins σ H s):qg (p7 X.prog X.w) X EE:=by
 intro pins σ H s e s' I q
 obtain ⟨a,T,C,dx,H',rfl,os,bare,un,hok,t,n,hT,ha,hE⟩:=q
 have J:=I.call' (ch:=[]) os un hok bare (fun b z=>by cases z)
 rw [h]
 exact ⟨pins,σ,H',a,T,C,dx,rfl,hY J,t,hT,(hY I).far n,ha,hE⟩
def hD (i:Nat) (D:df):df:={ nx:=fun σ H=>D.nx (σ.set i none) H,rt:=D.rt,bk:=fun σ H=>D.bk (σ.set i none) H,ct:=fun σ H=>D.ct (σ.set i none) H }
def yj (K:PySem.W.Frag) (Cc:Addr) (i:Nat) (th:TS) (D:df):St→XK:=fun σ cv dx H=>∀a C,cv=.ref C→H a=some (ju a C dx)→PySem.W.exmOne K (.ref C) (.ref Cc)=some true∧th (hD i D) (σ.set i (some (.ref a))) H
def GV (K:PySem.W.Frag) (Cc:Addr) (i:Nat) (tb:(St→XK)→TS) (th:TS):TS:=fun D σ H=>tb (yj K Cc i th D) D σ H
section
variable {X:Cx}{body suite:List Stmt}{b0:Stmt}{x n:Str}{hpos pos np:Pos}{tb:(St→XK)→TS}{th:TS}{Cc:Addr}{i:Nat}
theorem EK (hst:X.stack=X.env :: X.outer) (hfr:X.env.frame=some X.env.locals) (hN:X.N.Nodup) (hi:X.N[i]?=some n) (hk:X.env.scope.names.lookup n=some .local) (hg:Gl X x) (hm:X.mg x=some (.ref Cc))
 (hb:∀(EE:St→XK) (pn:List (Addr×Obj)) (xe:Value→Shared→Prop),qg (p7 X.prog X.w) (X.tr pn xe) EE→j7 (X.tr pn xe) body (tb EE)) (hs:∀A:Around,j7 (X.hn A) (b0 :: suite) th) (hdb:(x==("__debug__" : Str))=false:=by decide) :
 PS X (.Try body [.ExceptHandler (some (.Name x np)) (some n) (b0 :: suite) hpos] [] [] pos) (GV X.K Cc i tb th):=by
 intro pins s σ H D I h
 refine wpAny_Try_except ?_
 have hx:qg (p7 X.prog X.w) (X.tr (X.pn++pins) (xX (X.tr (X.pn++pins) fun _ _=>False) (yj X.K Cc i th D))) (yj X.K Cc i th D):=FF (X:=X.tr (X.pn++pins) (xX (X.tr (X.pn++pins) fun _ _=>False) (yj X.K Cc i th D))) rfl fun J=>J.wish _
 refine wpAny_mono (hb _ _ _ hx [] s σ H D I.tr h) (fun f s1 q=>?_) fun e s1 q=>?_
 ·cases f with
  | next=>obtain ⟨σ',H',J,q⟩:=q;exact wpAny_execs_nil ⟨σ',H',J.untr,q⟩
  | brk=>obtain ⟨σ',H',J,q⟩:=q;exact ⟨σ',H',J.untr,q⟩
  | cont=>obtain ⟨σ',H',J,q⟩:=q;exact ⟨σ',H',J.untr,q⟩
  | ret u=>obtain ⟨v,σ',H',J,r,q⟩:=q;exact ⟨v,σ',H',J.untr,r,q⟩
 ·obtain ⟨pins',σ',H',a,T,C,dx,rfl,J0,t,hT,far,ha,hE⟩:=q
  have J:af X pins σ' H' s1:=J0.untr
  obtain ⟨hm',hth⟩:=hE a C rfl ha
  have st:∀{h2:Heap}{bad:List Addr},Kp s1.heap h2 bad (f6 (X.env :: X.outer))→Kp s1.heap h2 bad (f6 X.stack):=fun k=>by rw [hst];exact k
  refine tV (L:=X.env.locals) (J.ok.frames.trans (congrArg some hst)) (by have z:=J.stack;rw [hst] at z;exact z) hfr t fun h2 T2 t2 z2 k2=>?_
  have J2:=J.noted ha (ch:=[T]) (st k2) t2.there (fun b hb=>by rw [List.mem_singleton.mp hb];exact hT) (fun b hb=>by
   rw [List.mem_singleton.mp hb]
   exact ⟨far.1,far.2.1,far.2.2.1,fun p hp=>far.2.2.2 p (List.mem_append_left _ hp)⟩)
  rw [lc ha] at J2
  have n2:s1.heap.objs.size≤T2:=Nat.le_of_eq z2.symm
  have far0:=J.far n2
  have hT2:∀b∈[T2],H' b=none:=fun b hb=>by rw [List.mem_singleton.mp hb];exact J.hok.fresh n2
  have wk:∀{g g':Heap},Kp g g' [T2] []→Kp g g' [a,T2] (f6 X.stack):=fun k=>k.weak (fun b hb=>List.mem_cons_of_mem _ hb) fun b hb=>by cases hb
  refine qr t2 fun h3 t3 k3=>?_
  have J3:=J2.noted ha (ch:=[T2]) (wk k3) t3.there hT2 (fun b hb=>by rw [List.mem_singleton.mp hb];exact far0)
  rw [lc ha] at J3
  refine wpAny_handleBy_cons (codeAny_handlers_test ?_) (by intro q;cases q)
  have J3h:=J3.hn (A:=X.A.mark (some (.ref a))) rfl
  refine ku J3h hg hm ?_ hdb
  obtain ⟨vs,sl,ea⟩:=t3.there
  have LT:PySem.W.Looks (model X.prog X.w) h3 (typeOf (.ref a)) (.ref C):=(PySem.W.Looks.ld ea).andThen .now
  refine (PySem.W.exm_one J3.kIn LT hm').here ?_
  refine codeAny_handlers_suite_as (qr t3 fun h5 t5 k5=>?_)
  have J5:=J3.noted ha (ch:=[T2]) (wk k5) t5.there hT2 (fun b hb=>by rw [List.mem_singleton.mp hb];exact far0)
  rw [lc ha] at J5
  refine ji J5 hN hi (.inl hk) (v:=.ref a) (u:=.ref a) rfl (fun s6 J6=>?_) (.inr hk)
  refine wpAny_mono (hs _ pins s6 _ H' _ (J6.hn (A:=X.A.mark (some (.ref a))) rfl) hth) (fun f s7 q=>?_) fun _ _ z=>z.elim
  cases f with
  | next=>obtain ⟨σ7,H7,J7,q⟩:=q;exact qo (J7.unhn J.ok) hN hi hk fun s8 J8=>⟨_,_,J8,q⟩
  | brk=>obtain ⟨σ7,H7,J7,q⟩:=q;exact qo (J7.unhn J.ok) hN hi hk fun s8 J8=>⟨_,_,J8,q⟩
  | cont=>obtain ⟨σ7,H7,J7,q⟩:=q;exact qo (J7.unhn J.ok) hN hi hk fun s8 J8=>⟨_,_,J8,q⟩
  | ret u=>obtain ⟨v,σ7,H7,J7,r,q⟩:=q;exact qo (J7.unhn J.ok) hN hi hk fun s8 J8=>⟨v,_,_,J8,r,q⟩
end
theorem FN {P:Program}{w:World}{X:Cx}:p8 (p7 P w) X E0:=fun _ _ _ _ _ _ _ h=>by
 obtain ⟨a,T,C,dx,H',_,_,_,_,_,_,_,_,_,hE⟩:=h
 exact hE.elim
section
variable {X:Cx}{C:Addr}{e:Expr}{pos:Pos}
def A4 (K:PySem.W.Frag) (ta:TE) (f:Str):TE:=fun σ H Q=>ta σ H fun y H1=>Bb fun a C dx fs v=>y=.ref a∧H1 a=some (ju a C (some dx))∧H1 dx=some (.xd fs)∧fs.lookup f=some v∧iK K C f=true∧Q v H1
theorem CC {ta:TE}{f:Str} (he:PE X e ta) (hb:attributeBase e f X.env (eval e X.env)=eval e X.env):PE X (.Attribute e f pos) (A4 X.K ta f):=by
 intro pins s σ H Q I h
 refine BN hb (aW (he pins s σ H _ I h) fun u s1 ⟨y,H1,I1,rx,a,C,dx,fs,v,ex,ea,ed,el,g,q⟩=>?_)
 subst ex
 obtain rfl:u=Value.ref a:=rx
 obtain ⟨vs,sl,e1⟩:=rm I1.hok ea
 obtain ⟨mA,n1,rl⟩:=(show bh X.prog X.w H1 s1.heap dx (.xd fs) from I1.hok dx _ ed)
 obtain ⟨od,e2,lk⟩:=uK n1
 have rv:=rl f
 rw [el] at rv
 cases em:mA f with
 | none=>rw [em] at rv;exact rv.elim
 | some uv=>
  rw [em] at rv
  unfold iK at g
  rw [Bool.and_eq_true,Bool.and_eq_true,beq_iff_eq] at g
  obtain ⟨⟨g1,g2⟩,g3⟩:=g
  obtain ⟨cd,hc,hd⟩:=PySem.W.any_some g2
  have J:PySem.W.InstAt s1.heap a ⟨.ref C,some dx,.fields vs,sl⟩ C (some od):=⟨e1,rfl,rfl,e2⟩
  have fo:PySem.W.findObj X.K C (some od) f=some (.value uv):=by
   unfold PySem.W.findObj
   rw [hc,Option.bind_some,g3,Option.bind_some]
   simp only [Option.bind_some]
   unfold PySem.W.ownOf
   rw [hd,if_pos rfl]
   dsimp only
   rw [lk f,em]
   rfl
  exact Fc I1.kIn J g1 fo (zw rv) ⟨v,H1,I1.tok _,rv,q⟩
inductive EZ (K:PySem.W.Frag) (xs:List V) (H:Hp) (Q:VK):Prop
 | mk (a:_) (C:_) (dx:_) (c:_) (cv:_) (b:_) (h0:xs=[.ref a,c]) (h1:(H a=some (ju a C (some dx))∧∃fs,H dx=some (.xd fs))) (h2:Ac c=some cv) (h3:oz K C=true) (h4:PySem.W.kitOne K (.ref C) cv=some b) (h5:Q (.bl b) H)
def Hg (K:PySem.W.Frag):List V→Hp→VK→Prop:=fun xs H Q=>EZ K xs H Q
theorem pI {K:PySem.W.Frag} (ek:X.K=K:=by rfl):cf X (.builtin "isinstance") (Hg K):=by
 subst ek
 intro pins s σ H xs us Q I r h
 obtain ⟨a,C,dx,c,cv,b,rfl,⟨ha,fs,hd⟩,hcv,g,ho,q⟩:=h
 obtain ⟨u,uc,rfl,ru,rc⟩:=sM r
 cases ru
 have ec:uc=cv:=by
  cases c with
  | ref y=>cases hcv;exact rc
  | ty T=>cases hcv;exact rc
  | _=>cases hcv
 subst ec
 have J:bo fun ox od=>PySem.W.InstAt s.heap a ox C od:=by
  obtain ⟨vs,sl,e1⟩:=rm I.hok ha
  obtain ⟨od,e2⟩:=(I.hok dx _ hd).there
  exact ⟨_,some od,e1,rfl,rfl,e2⟩
 exact PySem.W.kia_one (vR g) I.kIn J ho (fun z=>nomatch z) fun tk=>⟨.bl b,H,I.tok tk,rfl,q⟩
end
end L2
namespace L2
open PySem PySem.Spec PyProof.Rows
theorem AT:∀{cs:List V}{cvs us:List Value},cs.map Ac=cvs.map some→aM cs us→us=cvs:=by
 intro cs
 induction cs with
 | nil=>
  intro cvs us e r
  cases r
  cases cvs with
  | nil=>rfl
  | cons c l=>cases e
 | cons c l ih=>
  intro cvs us e r
  cases cvs with
  | nil=>cases e
  | cons d m=>
   cases r with
   | cons r1 r2=>
    injection e with e1 e2
    rw [ih e2 r2]
    congr 1
    cases c with
    | ref y=>cases e1;exact r1
    | ty T=>cases e1;exact r1
    | _=>cases e1
section
variable {X:Cx}
inductive CO (K:PySem.W.Frag) (xs:List V) (H:Hp) (Q:VK):Prop
 | mk (a:_) (C:_) (dx:_) (tp:_) (cs:_) (cvs:_) (b:_) (h0:xs=[.ref a,.ref tp]) (h1:(H a=some (ju a C (some dx))∧∃fs,H dx=some (.xd fs))) (h2:H tp=some (.tup cs)) (h3:cs.map Ac=cvs.map some) (h4:oz K C=true) (h5:PySem.W.kitAny K (.ref C) cvs=some b) (h6:Q (.bl b) H)
def Fp (K:PySem.W.Frag):List V→Hp→VK→Prop:=fun xs H Q=>CO K xs H Q
theorem oQ {K:PySem.W.Frag} (ek:X.K=K:=by rfl):cf X (.builtin "isinstance") (Fp K):=by
 subst ek
 intro pins s σ H xs us Q I r h
 obtain ⟨a,C,dx,tp,cs,cvs,b,rfl,⟨ha,fs,hd⟩,ht,hcs,g,ho,q⟩:=h
 obtain ⟨u,uc,rfl,ru,rc⟩:=sM r
 cases ru
 obtain rfl:uc=Value.ref tp:=rc
 obtain ⟨its,rv,⟨o,e1,e2,n,e3⟩,_⟩:=I.tuple (ap.of ht)
 have ei:=AT hcs rv
 subst ei
 obtain ⟨oc,od,odt,osl⟩:=o
 dsimp only at e2 e3
 subst e2 e3
 have J:bo fun ox od=>PySem.W.InstAt s.heap a ox C od:=by
  obtain ⟨vs,sl,e1⟩:=rm I.hok ha
  obtain ⟨od,e2⟩:=(I.hok dx _ hd).there
  exact ⟨_,some od,e1,rfl,rfl,e2⟩
 exact PySem.W.kia_tup (vR g) I.kIn J e1 ho (fun z=>nomatch z) fun tk=>⟨.bl b,H,I.tok tk,rfl,q⟩
theorem zt {K:PySem.W.Frag}{e:Expr}{ta:TE}{f:Str}{pos:Pos} (he:PE X e ta) (ek:X.K=K:=by rfl) (hb:attributeBase e f X.env (eval e X.env)=eval e X.env:=by rfl):PE X (.Attribute e f pos) (A4 K ta f):=by
 subst ek
 exact CC he hb
theorem o9 {K:PySem.W.Frag}{t:Value}:∀{cs:List Value},(∀c∈cs,PySem.W.kitOne K t c=some false)→PySem.W.kitAny K t cs=some false
 | [],_=>rfl
 | c :: r,h=>by
  unfold PySem.W.kitAny
  rw [h c List.mem_cons_self]
  exact o9 fun d hd=>h d (List.mem_cons_of_mem _ hd)
end
end L2
namespace L2
open PySem PySem.Spec PyProof.Rows
end L2
namespace L2
open PySem PySem.Spec PyProof.Rows
section
variable {X:Cx}
end
end L2
namespace L2
open PySem PySem.Spec PyProof.Rows
end L2
namespace L2
open PySem PySem.Spec PyProof.Rows
end L2
namespace L2
open PySem PySem.Spec PyProof.Rows
end L2
namespace L2
open PySem PySem.Spec PyProof.Rows
end L2
namespace L2
open PySem PySem.Spec PyProof.Rows
def mI:Nat→List Obj→PySem.W.Frag
 | _,[]=>[]
 | n,o :: r=>match o.data with
  | .freed=>mI (n+1) r
  | _=>(n,o) :: mI (n+1) r
def fragOf (h:Heap):PySem.W.Frag:=mI 0 h.objs.toList
theorem uG:∀(l:List Obj) (n a:Nat) (o:Obj),List.lookup a (mI n l)=some o→∃k,a=n+k∧l[k]?=some o∧o.data≠.freed
 | [],n,a,o,e=>nomatch e
 | p :: r,n,a,o,e=>by
  have step:List.lookup a (mI (n+1) r)=some o→∃k,a=n+k∧(p :: r)[k]?=some o∧o.data≠.freed:=fun e=>by
   obtain ⟨k,e1,e2,e3⟩:=uG r (n+1) a o e
   exact ⟨k+1,by trivial,by simpa using e2,e3⟩
  unfold mI at e
  split at e
  ·exact step e
  ·rename_i hf
   by_cases q:a=n
   ·subst q
    simp only [List.lookup_cons,beq_self_eq_true] at e
    cases e
    exact ⟨0,rfl,rfl,hf⟩
   ·have q':(a==n)=false:=by simpa using q
    simp only [List.lookup_cons,q'] at e
    exact step e
theorem zi (h:Heap):PySem.W.Frag.In (fragOf h) h:=fun a o e=>by
 obtain ⟨k,e1,e2,e3⟩:=uG _ 0 a o e
 have e1':a=k:=e1.trans (Nat.zero_add k)
 subst e1'
 unfold Heap.get?
 have:h.objs[a]?=some o:=by simpa using e2
 rw [this]
 cases o with
 | mk c d x s=>
  cases x <;> first | rfl | exact absurd rfl e3
def aS:Option (Option Value)→Addr
 | some (some (.ref a))=>a
 | _=>0
def iC:Option (Option Value)→Bool
 | some (some (.ref _))=>true
 | _=>false
def fb:Option (Option Value)→Bool
 | some none=>true
 | _=>false
def zZ:Option Bool→Bool
 | some true=>true
 | _=>false
theorem dA {v:Option (Option Value)} (e:iC v=true):v=some (some (.ref (aS v))):=by
 unfold iC at e;split at e
 ·rfl
 ·cases e
theorem b7 {v:Option (Option Value)} (e:fb v=true):v=some none:=by
 unfold fb at e;split at e
 ·rfl
 ·cases e
theorem Cu {v:Option Bool} (e:zZ v=true):v=some true:=by
 unfold zZ at e;split at e
 ·rfl
 ·cases e
def xp (K:PySem.W.Frag) (v:Option (Option Value)):Obj:=(List.lookup (aS v) K).getD ⟨.none,none,.plain,#[]⟩
def Hz:FuncData:=PySem.W.fnOf (PySem.Str.mk #[]) (PySem.Str.mk #[]) ⟨[],[],none,[],[],none,[]⟩ [] ⟨.function,[],false,false,[]⟩ .none .none .none .none none .none .none
def gN (K:PySem.W.Frag) (v:Option (Option Value)):FuncData:=match (xp K v).data with
 | .func fd=>fd
 | _=>Hz
def bare (fd:FuncData):FuncData:={ fd with kwdefaults:=.none,doc:=.none,pyModule:=.none,annotations:=none,code:=.none,closureTuple:=.none }
def gD (K:PySem.W.Frag) (v:Option (Option Value)) (q:Str):Option FuncData:=
 match iC v && PySem.W.codeIn K (gN K v).code q && PySem.W.keepIn K (.ref (aS v)) with
 | false=>none
 | true=>match List.lookup (aS v) K with
  | some ⟨_,_,.func fd,_⟩=>some (bare fd)
  | _=>none
theorem uC {K:PySem.W.Frag}{v:Option (Option Value)}{q:Str}{x:FuncData} (e:gD K v q=some x) :
 v=some (some (.ref (aS v)))∧PySem.W.codeIn K (gN K v).code q=true∧PySem.W.keepIn K (.ref (aS v))=true∧
  List.lookup (aS v) K=some ⟨(xp K v).cls,(xp K v).dict,.func (gN K v),(xp K v).slots⟩∧bare (gN K v)=x:=by
 unfold gD at e
 cases h:(iC v && PySem.W.codeIn K (gN K v).code q && PySem.W.keepIn K (.ref (aS v))) with
 | false=>rw [h] at e;cases e
 | true=>
  rw [h] at e
  simp only [Bool.and_eq_true] at h
  refine ⟨dA h.1.1,h.1.2,h.2,?_⟩
  cases hl:List.lookup (aS v) K with
  | none=>rw [hl] at e;cases e
  | some o=>
   rw [hl] at e
   obtain ⟨c,d,x',s⟩:=o
   have eo:xp K v=⟨c,d,x',s⟩:=by unfold xp;rw [hl];rfl
   cases x' <;> first | cases e | skip
   rename_i fd
   have ef:gN K v=fd:=by unfold gN;rw [eo]
   rw [eo,ef]
   exact ⟨rfl,rfl⟩
def fG (K:PySem.W.Frag) (n:Str):Option FuncData:=gD K (PySem.W.nsIn K mainGlobals n) n
def dG (n q:Str) (st:Stmt):Option FuncData:=some (PySem.W.fnOf n q (tI st) (mK st) (aC st) .none .none .none .none none .none .none)
theorem aw {K:PySem.W.Frag}{v:Option (Option Value)}{q n:Str}{st:Stmt} (e:gD K v q=dG n q st):kH K n q st (aS v) (gN K v):=by
 have h:=uC e
 refine ⟨?_,h.2.2.1⟩
 obtain ⟨h1,h2,h3,h4,z⟩:=h
 refine ⟨_,_,(gN K v).kwdefaults,(gN K v).doc,(gN K v).pyModule,(gN K v).annotations,(gN K v).code,(gN K v).closureTuple,_,?_,h4,h2⟩
 clear h4 h2 h3 h1 e
 generalize gN K v=fd at z ⊢
 cases fd
 unfold bare PySem.W.fnOf at z
 cases z
 rfl
theorem bG {K:PySem.W.Frag}{v:Option (Option Value)}{q n:Str}{st:Stmt} (e:gD K v q=dG n q st):v=some (some (.ref (aS v))):=(uC e).1
theorem walk_ofY {l:PySem.W.OpenLaw}{n k:Nat}{q:Program}{loose:List Str}{XP:(Str→Option Value)→Heap→Prop}{d:DefRec}{CX:kf}{sp:PySem.W.Frag→Sp}{x:Str}{α:Type}{obs:PySem.W.Frag→α}{due:α}
 (hn:l.most=some n) (hn2:n≤sizeLine) (hdf:d.params.defaults=[]) (hr:cC k callerA)
 (F:∀(K:PySem.W.Frag) (w:World) (mg:Str→Option Value) (fa:Addr) (h:Heap),obs K=due→K.In h→h.Ns mainGlobals mg→mg d.name=some (.ref fa)→
  ∃fd:FuncData,(∀(s:Shared) (u:Value),BindsTo s fd ⟨[u],[]⟩ [(x,u)])∧
   ∀base:Heap,K.In base→base.Ns mainGlobals mg→bD l.prog w K mg base CX k fa fd [x] (sp K))
 (hsp:∀(K:PySem.W.Frag) (H:Hp) (a:Addr) (ns:List Int),ns.length≤n→tN H→ax K H a (ns.map V.int)→sp K [.ref a] H (fun v _=>v=.bl true) fun _ _ _=>False)
 (hCX:∀(H:Hp) (s:Shared) (e:Value) (s':Shared),CX [] H s (fun _ _ _=>False) e s'→False) :
 PySem.W.WalkX q loose XP (fun s=>obs (fragOf s.heap)) (fun _=>due) l.row.toRowW d [] (fun f vs=>PySem.call f vs):=by
 intro w s₀ s₁ mg mb G y a o pm cd doc dV kV ho hd hcd hD hmg hg args vals as' L hpre hlay hrd hwl hlo
 have kx:(fragOf s₀.heap).In s₁.heap:=fun b ob hb=>L.keeps b ob (zi s₀.heap b ob hb)
 exact AI (K:=fun _=>fragOf s₀.heap) (YP:=fun w h=>(fragOf s₀.heap).In h) hn hn2 hdf hr (fun _ _ z=>z) (fun w mg fa h=>F (fragOf s₀.heap) w mg fa h y) hsp hCX w s₀ s₁ mg mb G kx a o pm cd doc dV kV ho hd hcd hD hmg hg args vals as' hpre hlay hrd hwl hlo
end L2
set_option maxHeartbeats 4000000
namespace K11
open PySem L2
def bZ (i:Nat):Stmt:=PySem.Challenge.pw_gainroads_k11_worths_that_hold.main.body.getD i (.Pass ⟨0,0,0,0⟩)
abbrev ic:Stmt:=bZ 17
abbrev fC:Stmt:=bZ 18
abbrev kA:Stmt:=bZ 19
abbrev fk:Stmt:=bZ 20
abbrev lZ:Stmt:=bZ 22
abbrev be:Stmt:=bZ 23
abbrev cz:Stmt:=bZ 24
abbrev br:Stmt:=bZ 25
abbrev cS:Stmt:=bZ 26
abbrev cI:Stmt:=bZ 27
abbrev lQ:Stmt:=bZ 28
abbrev sX:Stmt:=bZ 29
abbrev tu:Stmt:=bZ 31
abbrev rZ:Stmt:=bZ 32
abbrev nQ:Stmt:=bZ 33
abbrev gc:Stmt:=bZ 34
abbrev fP:Stmt:=bZ 35
abbrev jv:Stmt:=bZ 36
abbrev jR:Stmt:=bZ 37
abbrev bu:Stmt:=bZ 38
abbrev cZ:Stmt:=bZ 39
abbrev dS:Stmt:=bZ 40
abbrev dk:Stmt:=bZ 41
abbrev bn:Stmt:=bZ 42
abbrev aH:Stmt:=bZ 43
abbrev i8:Stmt:=bZ 44
abbrev dJ:Stmt:=bZ 45
abbrev bT:Stmt:=bZ 46
abbrev bF:Stmt:=bZ 47
abbrev aJ:Stmt:=bZ 48
abbrev cr:Stmt:=bZ 49
abbrev cq:Stmt:=bZ 50
abbrev bz:Stmt:=bZ 51
abbrev cy:Stmt:=bZ 52
abbrev bY:Stmt:=bZ 53
abbrev b5:Stmt:=qc (bZ 10) 0
abbrev kc:Stmt:=qc (bZ 11) 0
abbrev oN:Stmt:=qc (bZ 12) 0
abbrev lJ:Stmt:=qc (bZ 13) 0
abbrev nj:Stmt:=qc (bZ 14) 0
abbrev kX:Stmt:=qc (bZ 15) 0
theorem ka:aV ["n", "d"] ["n", "d"] (aC ic):=⟨rfl,rfl,rfl,by decide +kernel,rfl,by decide +kernel,by decide +kernel⟩
theorem mw:aV ["n", "d", "divisor"] ["n", "d"] (aC fC):=⟨rfl,rfl,rfl,by decide +kernel,rfl,by decide +kernel,by decide +kernel⟩
theorem AL:aV ["one", "other"] ["one", "other"] (aC kA):=⟨rfl,rfl,rfl,by decide +kernel,rfl,by decide +kernel,by decide +kernel⟩
theorem mf:aV ["one", "other", "left", "right"] ["one", "other"] (aC fk):=⟨rfl,rfl,rfl,by decide +kernel,rfl,by decide +kernel,by decide +kernel⟩
theorem xL:aV ["tie"] ["tie"] (aC lZ):=⟨rfl,rfl,rfl,by decide +kernel,rfl,by decide +kernel,by decide +kernel⟩
theorem bR:aV ["net", "worths", "onward", "lifted", "number", "tie", "begin", "end", "most", "gain", "price", "worth"] ["net", "worths", "onward"] (aC be):=⟨rfl,rfl,rfl,by decide +kernel,rfl,by decide +kernel,by decide +kernel⟩
theorem gH:aV ["net", "onward", "place", "places", "ties"] ["net", "onward", "place"] (aC cz):=⟨rfl,rfl,rfl,by decide +kernel,rfl,by decide +kernel,by decide +kernel⟩
theorem cK:aV ["net", "worths", "onward", "lifted", "turn"] ["net"] (aC br):=⟨rfl,rfl,rfl,by decide +kernel,rfl,by decide +kernel,by decide +kernel⟩
theorem mC:aV ["net", "worths", "gaining", "onward"] ["net", "worths"] (aC cS):=⟨rfl,rfl,rfl,by decide +kernel,rfl,by decide +kernel,by decide +kernel⟩
theorem ke:aV ["net", "worths"] ["net"] (aC cI):=⟨rfl,rfl,rfl,by decide +kernel,rfl,by decide +kernel,by decide +kernel⟩
theorem rP:aV ["_law_script", "_law_k", "_law_cell"] ["_law_script", "_law_k"] (aC tu):=⟨rfl,rfl,rfl,by decide +kernel,rfl,by decide +kernel,by decide +kernel⟩
theorem pA:aV ["_law_box_here", "_law_many", "_law_found", "_law_once"] ["_law_box_here", "_law_many"] (aC rZ):=⟨rfl,rfl,rfl,by decide +kernel,rfl,by decide +kernel,by decide +kernel⟩
theorem jx:aV ["_law_script", "_law_many", "_law_cells", "_law_k", "_law_cell"] ["_law_script", "_law_many"] (aC nQ):=⟨rfl,rfl,rfl,by decide +kernel,rfl,by decide +kernel,by decide +kernel⟩
theorem lI:aV ["_law_n", "_law_d", "_law_one", "_law_other"] ["_law_n", "_law_d"] (aC gc):=⟨rfl,rfl,rfl,by decide +kernel,rfl,by decide +kernel,by decide +kernel⟩
theorem vI:aV ["_law_one", "_law_other"] ["_law_one", "_law_other"] (aC fP):=⟨rfl,rfl,rfl,by decide +kernel,rfl,by decide +kernel,by decide +kernel⟩
theorem zM:aV ["_law_one", "_law_other"] ["_law_one", "_law_other"] (aC jv):=⟨rfl,rfl,rfl,by decide +kernel,rfl,by decide +kernel,by decide +kernel⟩
theorem x8:aV ["_law_one", "_law_other"] ["_law_one", "_law_other"] (aC jR):=⟨rfl,rfl,rfl,by decide +kernel,rfl,by decide +kernel,by decide +kernel⟩
theorem dm:aV ["_law_box_here", "_law_many", "_law_letters", "_law_first", "_law_rest", "_law_behind", "_law_sign", "_law_other"] ["_law_box_here", "_law_many"] (aC bu):=⟨rfl,rfl,rfl,by decide +kernel,rfl,by decide +kernel,by decide +kernel⟩
theorem jX:aV ["_law_box_here", "_law_way", "_law_top"] ["_law_box_here"] (aC cZ):=⟨rfl,rfl,rfl,by decide +kernel,rfl,by decide +kernel,by decide +kernel⟩
theorem oJ:aV ["_law_box_here", "_law_way"] ["_law_box_here"] (aC dS):=⟨rfl,rfl,rfl,by decide +kernel,rfl,by decide +kernel,by decide +kernel⟩
theorem nh:aV ["_law_box_here", "_law_way"] ["_law_box_here"] (aC dk):=⟨rfl,rfl,rfl,by decide +kernel,rfl,by decide +kernel,by decide +kernel⟩
theorem c8:aV ["_law_box_here", "_law_places", "_law_many", "_law_first", "_law_a", "_law_b", "_law_more", "_law_gains", "_law_spots"] ["_law_box_here", "_law_places"] (aC bn):=⟨rfl,rfl,rfl,by decide +kernel,rfl,by decide +kernel,by decide +kernel⟩
theorem bj:aV ["_law_box_here", "_law_most_places", "_law_most_ties", "_law_way", "_law_great", "_law_places", "_law_many", "_law_some", "_law_worths", "_law_ends", "_law_turn", "_law_at", "_law_begin", "_law_end", "_law_gain", "_law_less", "_law_ties", "_law_top"] ["_law_box_here", "_law_most_places", "_law_most_ties"] (aC aH):=⟨rfl,rfl,rfl,by decide +kernel,rfl,by decide +kernel,by decide +kernel⟩
theorem wX:aV ["_law_net"] ["_law_net"] (aC i8):=⟨rfl,rfl,rfl,by decide +kernel,rfl,by decide +kernel,by decide +kernel⟩
theorem i0:aV ["_law_net", "_law_way", "_law_found", "_law_number"] ["_law_net", "_law_way"] (aC dJ):=⟨rfl,rfl,rfl,by decide +kernel,rfl,by decide +kernel,by decide +kernel⟩
theorem fH:aV ["_law_net", "_law_begin", "_law_found", "_law_waiting", "_law_way", "_law_spots", "_law_number"] ["_law_net", "_law_begin"] (aC bT):=⟨rfl,rfl,rfl,by decide +kernel,rfl,by decide +kernel,by decide +kernel⟩
theorem oP:aV ["_law_net", "_law_thing", "_law_begins"] ["_law_net", "_law_thing"] (aC bF):=⟨rfl,rfl,rfl,by decide +kernel,rfl,by decide +kernel,by decide +kernel⟩
theorem cA:aV ["_law_which", "_law_net", "_law_begin", "_law_end", "_law_found", "_law_caught", "error", "_law_others"] ["_law_which", "_law_net", "_law_begin", "_law_end"] (aC aJ):=⟨rfl,rfl,rfl,by decide +kernel,rfl,by decide +kernel,by decide +kernel⟩
theorem uD:aV ["_law_found", "_law_due"] ["_law_found", "_law_due"] (aC cr):=⟨rfl,rfl,rfl,by decide +kernel,rfl,by decide +kernel,by decide +kernel⟩
theorem gX:aV ["_law_net", "_law_place", "_law_found", "_law_way", "_law_gain"] ["_law_net", "_law_place"] (aC cq):=⟨rfl,rfl,rfl,by decide +kernel,rfl,by decide +kernel,by decide +kernel⟩
theorem cb:aV ["_law_net", "_law_known", "_law_turn", "_law_grown_here", "_law_number", "_law_begin", "_law_end", "_law_top", "_law_gain", "_law_price", "_law_one"] ["_law_net"] (aC bz):=⟨rfl,rfl,rfl,by decide +kernel,rfl,by decide +kernel,by decide +kernel⟩
theorem nN:aV ["_law_net", "_law_told", "_law_word", "_law_found"] ["_law_net", "_law_told"] (aC cy):=⟨rfl,rfl,rfl,by decide +kernel,rfl,by decide +kernel,by decide +kernel⟩
theorem hZ:aV ["_law_script", "_law_cells", "_law_k", "_law_box_here", "_law_turn", "_law_net", "_law_written", "_law_again", "_law_told", "_law_alone"] ["_law_script"] (aC bY):=⟨rfl,rfl,rfl,by decide +kernel,rfl,by decide +kernel,by decide +kernel⟩
theorem rF:aV ["self", "ties"] ["self", "ties"] (aC b5):=⟨rfl,rfl,rfl,by decide +kernel,rfl,by decide +kernel,by decide +kernel⟩
end K11
namespace K11
open PySem L2
set_option genInjectivity false in
set_option genSizeOf false in
structure Df (K:PySem.W.Frag) (mg:Str→Option Value) (x:Str) (st:Stmt) (ps:List Str) where
 f:Addr
 d:FuncData
 m:mg x=some (.ref f)
 F:kH K x x st f d
 B:fA K d ps []
set_option genInjectivity false in
set_option genSizeOf false in
structure Txt (K:PySem.W.Frag) (mg:Str→Option Value) where
 b_ValueError:mg "ValueError" = none
 b_abs:mg "abs" = none
 b_all:mg "all" = none
 b_any:mg "any" = none
 b_bool:mg "bool" = none
 b_dict:mg "dict" = none
 b_divmod:mg "divmod" = none
 b_enumerate:mg "enumerate" = none
 b_int:mg "int" = none
 b_isinstance:mg "isinstance" = none
 b_len:mg "len" = none
 b_list:mg "list" = none
 b_max:mg "max" = none
 b_range:mg "range" = none
 b_set:mg "set" = none
 b_str:mg "str" = none
 b_tuple:mg "tuple" = none
 b_zip:mg "zip" = none
 common_divisor_:Df K mg "common_divisor" ic ["n", "d"]
 fraction_:Df K mg "fraction" fC ["n", "d"]
 times_:Df K mg "times" kA ["one", "other"]
 compared_:Df K mg "compared" fk ["one", "other"]
 is_shut_:Df K mg "is_shut" lZ ["tie"]
 lift_once_:Df K mg "lift_once" be ["net", "worths", "onward"]
 round_ahead_:Df K mg "round_ahead" cz ["net", "onward", "place"]
 gaining_round_:Df K mg "gaining_round" br ["net"]
 lift_all_:Df K mg "lift_all" cS ["net", "worths"]
 holding_worths_:Df K mg "holding_worths" cI ["net"]
 greatest_gain_:Df K mg "greatest_gain" lQ ["net", "begin", "end"]
 best_way_:Df K mg "best_way" sX ["net", "begin", "end"]
 l_box_:Df K mg "_law_box" tu ["_law_script", "_law_k"]
 l_take_:Df K mg "_law_take" rZ ["_law_box_here", "_law_many"]
 l_folded_:Df K mg "_law_folded" nQ ["_law_script", "_law_many"]
 l_frac_:Df K mg "_law_frac" gc ["_law_n", "_law_d"]
 l_product_:Df K mg "_law_product" fP ["_law_one", "_law_other"]
 l_over_:Df K mg "_law_over" jv ["_law_one", "_law_other"]
 l_above_:Df K mg "_law_above" jR ["_law_one", "_law_other"]
 l_names_by_:Df K mg "_law_names_by" bu ["_law_box_here", "_law_many"]
 l_any_gain_:Df K mg "_law_any_gain" cZ ["_law_box_here"]
 l_any_much_:Df K mg "_law_any_much" dS ["_law_box_here"]
 l_any_price_:Df K mg "_law_any_price" dk ["_law_box_here"]
 l_planted_:Df K mg "_law_planted" bn ["_law_box_here", "_law_places"]
 l_net_by_:Df K mg "_law_net_by" aH ["_law_box_here", "_law_most_places", "_law_most_ties"]
 l_opened_:Df K mg "_law_opened" i8 ["_law_net"]
 l_gain_of_:Df K mg "_law_gain_of" dJ ["_law_net", "_law_way"]
 l_all_ways_:Df K mg "_law_all_ways" bT ["_law_net", "_law_begin"]
 l_is_round_:Df K mg "_law_is_round" bF ["_law_net", "_law_thing"]
 l_all_told_:Df K mg "_law_all_told" aJ ["_law_which", "_law_net", "_law_begin", "_law_end"]
 l_same_:Df K mg "_law_same" cr ["_law_found", "_law_due"]
 l_due_of_:Df K mg "_law_due_of" cq ["_law_net", "_law_place"]
 l_grown_:Df K mg "_law_grown" bz ["_law_net"]
 l_right_:Df K mg "_law_right" cy ["_law_net", "_law_told"]
 law_:Df K mg "law" bY ["_law_script"]
 f_Gaining__init:Addr
 d_Gaining__init:FuncData
 F_Gaining__init:kH K "__init__" "Gaining.__init__" b5 f_Gaining__init d_Gaining__init
 B_Gaining__init:fA K d_Gaining__init ["self", "ties"] []
 f_NotSoMuch__init:Addr
 d_NotSoMuch__init:FuncData
 F_NotSoMuch__init:kH K "__init__" "NotSoMuch.__init__" kc f_NotSoMuch__init d_NotSoMuch__init
 B_NotSoMuch__init:fA K d_NotSoMuch__init ["self", "most"] []
 f_Short__init:Addr
 d_Short__init:FuncData
 F_Short__init:kH K "__init__" "Short.__init__" oN f_Short__init d_Short__init
 B_Short__init:fA K d_Short__init ["self", "share"] []
 f_Lacking__init:Addr
 d_Lacking__init:FuncData
 F_Lacking__init:kH K "__init__" "Lacking.__init__" lJ f_Lacking__init d_Lacking__init
 B_Lacking__init:fA K d_Lacking__init ["self", "place"] []
 f_BadRow__init:Addr
 d_BadRow__init:FuncData
 F_BadRow__init:kH K "__init__" "BadRow.__init__" nj f_BadRow__init d_BadRow__init
 B_BadRow__init:fA K d_BadRow__init ["self", "row"] []
 f_BadSheet__init:Addr
 d_BadSheet__init:FuncData
 F_BadSheet__init:kH K "__init__" "BadSheet.__init__" kX f_BadSheet__init d_BadSheet__init
 B_BadSheet__init:fA K d_BadSheet__init ["self", "row"] []
 x_GainError:Addr
 m_GainError:mg "GainError" = some (.ref x_GainError)
 k_GainError:PySem.W.keepIn K (.ref x_GainError)=true
 xb_GainError:yd K x_GainError=true
 x_BadNumber:Addr
 m_BadNumber:mg "BadNumber" = some (.ref x_BadNumber)
 k_BadNumber:PySem.W.keepIn K (.ref x_BadNumber)=true
 q_BadNumber:bN K x_BadNumber (none)=true
 x_Taken:Addr
 m_Taken:mg "Taken" = some (.ref x_Taken)
 k_Taken:PySem.W.keepIn K (.ref x_Taken)=true
 q_Taken:bN K x_Taken (none)=true
 x_NoPlace:Addr
 m_NoPlace:mg "NoPlace" = some (.ref x_NoPlace)
 k_NoPlace:PySem.W.keepIn K (.ref x_NoPlace)=true
 q_NoPlace:bN K x_NoPlace (none)=true
 x_NoTie:Addr
 m_NoTie:mg "NoTie" = some (.ref x_NoTie)
 k_NoTie:PySem.W.keepIn K (.ref x_NoTie)=true
 q_NoTie:bN K x_NoTie (none)=true
 x_AsItIs:Addr
 m_AsItIs:mg "AsItIs" = some (.ref x_AsItIs)
 k_AsItIs:PySem.W.keepIn K (.ref x_AsItIs)=true
 q_AsItIs:bN K x_AsItIs (none)=true
 x_NoEnds:Addr
 m_NoEnds:mg "NoEnds" = some (.ref x_NoEnds)
 k_NoEnds:PySem.W.keepIn K (.ref x_NoEnds)=true
 q_NoEnds:bN K x_NoEnds (none)=true
 x_Over:Addr
 m_Over:mg "Over" = some (.ref x_Over)
 k_Over:PySem.W.keepIn K (.ref x_Over)=true
 q_Over:bN K x_Over (none)=true
 x_TooMuch:Addr
 m_TooMuch:mg "TooMuch" = some (.ref x_TooMuch)
 k_TooMuch:PySem.W.keepIn K (.ref x_TooMuch)=true
 q_TooMuch:bN K x_TooMuch (none)=true
 x_Gaining:Addr
 m_Gaining:mg "Gaining" = some (.ref x_Gaining)
 k_Gaining:PySem.W.keepIn K (.ref x_Gaining)=true
 fn_Gaining:PySem.W.isFn K (.ref f_Gaining__init)=true
 st_Gaining:fU K x_Gaining "ties" = true
 fd_Gaining:iK K x_Gaining "ties" = true
 q_Gaining:bN K x_Gaining (some (.ref f_Gaining__init))=true
 x_NotSoMuch:Addr
 m_NotSoMuch:mg "NotSoMuch" = some (.ref x_NotSoMuch)
 k_NotSoMuch:PySem.W.keepIn K (.ref x_NotSoMuch)=true
 fn_NotSoMuch:PySem.W.isFn K (.ref f_NotSoMuch__init)=true
 st_NotSoMuch:fU K x_NotSoMuch "most" = true
 fd_NotSoMuch:iK K x_NotSoMuch "most" = true
 q_NotSoMuch:bN K x_NotSoMuch (some (.ref f_NotSoMuch__init))=true
 x_Short:Addr
 m_Short:mg "Short" = some (.ref x_Short)
 k_Short:PySem.W.keepIn K (.ref x_Short)=true
 fn_Short:PySem.W.isFn K (.ref f_Short__init)=true
 st_Short:fU K x_Short "share" = true
 fd_Short:iK K x_Short "share" = true
 q_Short:bN K x_Short (some (.ref f_Short__init))=true
 x_Lacking:Addr
 m_Lacking:mg "Lacking" = some (.ref x_Lacking)
 k_Lacking:PySem.W.keepIn K (.ref x_Lacking)=true
 fn_Lacking:PySem.W.isFn K (.ref f_Lacking__init)=true
 st_Lacking:fU K x_Lacking "place" = true
 fd_Lacking:iK K x_Lacking "place" = true
 q_Lacking:bN K x_Lacking (some (.ref f_Lacking__init))=true
 x_BadRow:Addr
 m_BadRow:mg "BadRow" = some (.ref x_BadRow)
 k_BadRow:PySem.W.keepIn K (.ref x_BadRow)=true
 fn_BadRow:PySem.W.isFn K (.ref f_BadRow__init)=true
 st_BadRow:fU K x_BadRow "row" = true
 fd_BadRow:iK K x_BadRow "row" = true
 q_BadRow:bN K x_BadRow (some (.ref f_BadRow__init))=true
 x_BadSheet:Addr
 m_BadSheet:mg "BadSheet" = some (.ref x_BadSheet)
 k_BadSheet:PySem.W.keepIn K (.ref x_BadSheet)=true
 fn_BadSheet:PySem.W.isFn K (.ref f_BadSheet__init)=true
 st_BadSheet:fU K x_BadSheet "row" = true
 fd_BadSheet:iK K x_BadSheet "row" = true
 q_BadSheet:bN K x_BadSheet (some (.ref f_BadSheet__init))=true
 em_Gaining_GainError:PySem.W.exmOne K (.ref x_Gaining) (.ref x_GainError)=some true
 kin:qq K [x_BadNumber,x_Taken,x_NoPlace,x_NoTie,x_AsItIs,x_NoEnds,x_Over,x_TooMuch,x_Gaining,x_NotSoMuch,x_Short,x_Lacking,x_BadRow,x_BadSheet] x_GainError=true
end K11
namespace K11
open PySem L2
abbrev aj (s:Stmt) (x:Str):Prop:=(aC s).names.lookup x=some NameKind.local
abbrev ar (s:Stmt) (x:Str):Prop:=(aC s).names.lookup x=some NameKind.globalImplicit
abbrev i4 (s:Stmt) (x:Str):Prop:=(aC s).names.lookup x=some NameKind.cell
theorem pj:aj fC "n" := by decide +kernel
theorem lh:aj fC "d" := by decide +kernel
theorem cW:aj fC "divisor" := by decide +kernel
theorem kq:ar fC "common_divisor" := by decide +kernel
theorem qS:aj kA "one" := by decide +kernel
theorem oK:aj kA "other" := by decide +kernel
theorem rY:ar kA "fraction" := by decide +kernel
theorem mL:aj fk "one" := by decide +kernel
theorem kS:aj fk "other" := by decide +kernel
theorem ja:aj fk "left" := by decide +kernel
theorem ip:aj fk "right" := by decide +kernel
theorem uU:aj lZ "tie" := by decide +kernel
theorem sO:aj be "net" := by decide +kernel
theorem da:aj be "worths" := by decide +kernel
theorem pT:aj be "onward" := by decide +kernel
theorem gn:aj be "lifted" := by decide +kernel
theorem jH:aj be "number" := by decide +kernel
theorem iM:aj be "tie" := by decide +kernel
theorem cw:aj be "begin" := by decide +kernel
theorem i3:aj be "end" := by decide +kernel
theorem rK:aj be "most" := by decide +kernel
theorem kT:aj be "gain" := by decide +kernel
theorem qG:aj be "price" := by decide +kernel
theorem gQ:aj be "worth" := by decide +kernel
theorem mZ:ar be "enumerate" := by decide +kernel
theorem oV:ar be "is_shut" := by decide +kernel
theorem qy:ar be "times" := by decide +kernel
theorem oD:ar be "compared" := by decide +kernel
theorem qH:aj cz "net" := by decide +kernel
theorem i9:aj cz "onward" := by decide +kernel
theorem b8:aj cz "place" := by decide +kernel
theorem dD:aj cz "places" := by decide +kernel
theorem gB:aj cz "ties" := by decide +kernel
theorem dW:aj br "net" := by decide +kernel
theorem hU:aj br "worths" := by decide +kernel
theorem eM:aj br "onward" := by decide +kernel
theorem cR:aj br "lifted" := by decide +kernel
theorem oF:aj br "turn" := by decide +kernel
theorem mX:ar br "range" := by decide +kernel
theorem oZ:ar br "len" := by decide +kernel
theorem ki:ar br "lift_once" := by decide +kernel
theorem jP:ar br "round_ahead" := by decide +kernel
theorem mH:aj cS "net" := by decide +kernel
theorem qO:aj cS "worths" := by decide +kernel
theorem gE:aj cS "gaining" := by decide +kernel
theorem gT:aj cS "onward" := by decide +kernel
theorem kZ:ar cS "gaining_round" := by decide +kernel
theorem pB:ar cS "Gaining" := by decide +kernel
theorem nt:ar cS "lift_once" := by decide +kernel
theorem ft:aj cI "net" := by decide +kernel
theorem gM:i4 cI "worths" := by decide +kernel
theorem km:ar cI "lift_all" := by decide +kernel
theorem pR:aj gc "_law_n" := by decide +kernel
theorem kY:aj gc "_law_d" := by decide +kernel
theorem cM:aj gc "_law_one" := by decide +kernel
theorem dN:aj gc "_law_other" := by decide +kernel
theorem p9:ar gc "abs" := by decide +kernel
theorem kg:aj fP "_law_one" := by decide +kernel
theorem je:aj fP "_law_other" := by decide +kernel
theorem pK:ar fP "_law_frac" := by decide +kernel
theorem nn:aj jv "_law_one" := by decide +kernel
theorem kL:aj jv "_law_other" := by decide +kernel
theorem sy:ar jv "_law_frac" := by decide +kernel
theorem l7:aj jR "_law_one" := by decide +kernel
theorem j9:aj jR "_law_other" := by decide +kernel
theorem dZ:i4 bu "_law_box_here" := by decide +kernel
theorem jf:aj bu "_law_many" := by decide +kernel
theorem mm:i4 bu "_law_letters" := by decide +kernel
theorem iG:i4 bu "_law_first" := by decide +kernel
theorem jb:aj bu "_law_rest" := by decide +kernel
theorem mM:i4 bu "_law_behind" := by decide +kernel
theorem oW:i4 bu "_law_sign" := by decide +kernel
theorem oi:i4 bu "_law_other" := by decide +kernel
theorem fV:ar bu "_law_take" := by decide +kernel
theorem gC:ar bu "range" := by decide +kernel
theorem rJ:ar bu "int" := by decide +kernel
theorem jD:ar bu "tuple" := by decide +kernel
theorem dY:aj cZ "_law_box_here" := by decide +kernel
theorem eG:aj cZ "_law_way" := by decide +kernel
theorem jG:aj cZ "_law_top" := by decide +kernel
theorem fX:ar cZ "_law_take" := by decide +kernel
theorem oS:ar cZ "_law_frac" := by decide +kernel
theorem gL:aj dS "_law_box_here" := by decide +kernel
theorem eF:aj dS "_law_way" := by decide +kernel
theorem jg:ar dS "_law_take" := by decide +kernel
theorem o6:ar dS "_law_frac" := by decide +kernel
theorem gh:aj dk "_law_box_here" := by decide +kernel
theorem fS:aj dk "_law_way" := by decide +kernel
theorem iS:ar dk "_law_take" := by decide +kernel
theorem oa:ar dk "_law_frac" := by decide +kernel
theorem b9:aj bn "_law_box_here" := by decide +kernel
theorem iR:i4 bn "_law_places" := by decide +kernel
theorem gk:aj bn "_law_many" := by decide +kernel
theorem oU:i4 bn "_law_first" := by decide +kernel
theorem i5:aj bn "_law_a" := by decide +kernel
theorem iX:aj bn "_law_b" := by decide +kernel
theorem f9:aj bn "_law_more" := by decide +kernel
theorem jd:aj bn "_law_gains" := by decide +kernel
theorem dX:aj bn "_law_spots" := by decide +kernel
theorem cY:ar bn "_law_take" := by decide +kernel
theorem lM:ar bn "len" := by decide +kernel
theorem jC:ar bn "_law_frac" := by decide +kernel
theorem qE:ar bn "range" := by decide +kernel
theorem re:ar bn "list" := by decide +kernel
theorem sP:ar bn "zip" := by decide +kernel
theorem aD:i4 aH "_law_box_here" := by decide +kernel
theorem kG:aj aH "_law_most_places" := by decide +kernel
theorem mh:aj aH "_law_most_ties" := by decide +kernel
theorem im:aj aH "_law_way" := by decide +kernel
theorem gu:aj aH "_law_great" := by decide +kernel
theorem bv:aj aH "_law_places" := by decide +kernel
theorem j6:aj aH "_law_many" := by decide +kernel
theorem qM:i4 aH "_law_some" := by decide +kernel
theorem fR:aj aH "_law_worths" := by decide +kernel
theorem eV:aj aH "_law_ends" := by decide +kernel
theorem qI:aj aH "_law_turn" := by decide +kernel
theorem iJ:aj aH "_law_at" := by decide +kernel
theorem dc:aj aH "_law_begin" := by decide +kernel
theorem dO:aj aH "_law_end" := by decide +kernel
theorem dq:aj aH "_law_gain" := by decide +kernel
theorem j8:aj aH "_law_less" := by decide +kernel
theorem cx:aj aH "_law_ties" := by decide +kernel
theorem kP:aj aH "_law_top" := by decide +kernel
theorem bp:ar aH "_law_take" := by decide +kernel
theorem mY:ar aH "_law_names_by" := by decide +kernel
theorem sD:ar aH "dict" := by decide +kernel
theorem nO:ar aH "_law_planted" := by decide +kernel
theorem qX:ar aH "range" := by decide +kernel
theorem eZ:ar aH "len" := by decide +kernel
theorem mR:ar aH "_law_any_gain" := by decide +kernel
theorem nS:ar aH "_law_product" := by decide +kernel
theorem qA:ar aH "_law_over" := by decide +kernel
theorem mP:ar aH "_law_any_much" := by decide +kernel
theorem mv:ar aH "_law_any_price" := by decide +kernel
theorem rH:ar aH "tuple" := by decide +kernel
theorem rn:aj i8 "_law_net" := by decide +kernel
theorem oH:ar i8 "enumerate" := by decide +kernel
theorem qz:aj dJ "_law_net" := by decide +kernel
theorem qx:aj dJ "_law_way" := by decide +kernel
theorem dU:aj dJ "_law_found" := by decide +kernel
theorem iY:aj dJ "_law_number" := by decide +kernel
theorem mV:ar dJ "_law_product" := by decide +kernel
theorem eH:aj bT "_law_net" := by decide +kernel
theorem nz:aj bT "_law_begin" := by decide +kernel
theorem fi:aj bT "_law_found" := by decide +kernel
theorem cU:aj bT "_law_waiting" := by decide +kernel
theorem gj:aj bT "_law_way" := by decide +kernel
theorem dC:aj bT "_law_spots" := by decide +kernel
theorem bP:aj bT "_law_number" := by decide +kernel
theorem mT:ar bT "_law_opened" := by decide +kernel
theorem pL:i4 bF "_law_net" := by decide +kernel
theorem bJ:aj bF "_law_thing" := by decide +kernel
theorem cn:aj bF "_law_begins" := by decide +kernel
theorem lB:ar bF "isinstance" := by decide +kernel
theorem qJ:ar bF "list" := by decide +kernel
theorem ie:ar bF "len" := by decide +kernel
theorem rW:ar bF "all" := by decide +kernel
theorem rO:ar bF "any" := by decide +kernel
theorem rh:ar bF "set" := by decide +kernel
theorem nL:ar bF "_law_above" := by decide +kernel
theorem mr:ar bF "_law_gain_of" := by decide +kernel
theorem iE:aj aJ "_law_which" := by decide +kernel
theorem pY:aj aJ "_law_net" := by decide +kernel
theorem fu:aj aJ "_law_found" := by decide +kernel
theorem bA:aj aJ "_law_caught" := by decide +kernel
theorem jK:aj aJ "error" := by decide +kernel
theorem dh:aj aJ "_law_others" := by decide +kernel
theorem jN:ar aJ "holding_worths" := by decide +kernel
theorem mB:ar aJ "GainError" := by decide +kernel
theorem cD:ar aJ "isinstance" := by decide +kernel
theorem mz:ar aJ "BadNumber" := by decide +kernel
theorem pU:ar aJ "Taken" := by decide +kernel
theorem oy:ar aJ "NoPlace" := by decide +kernel
theorem pE:ar aJ "NoTie" := by decide +kernel
theorem o7:ar aJ "AsItIs" := by decide +kernel
theorem oX:ar aJ "NoEnds" := by decide +kernel
theorem qP:ar aJ "Over" := by decide +kernel
theorem nG:ar aJ "TooMuch" := by decide +kernel
theorem mE:ar aJ "NotSoMuch" := by decide +kernel
theorem p5:ar aJ "Short" := by decide +kernel
theorem oE:ar aJ "Lacking" := by decide +kernel
theorem oR:ar aJ "BadRow" := by decide +kernel
theorem mU:ar aJ "BadSheet" := by decide +kernel
theorem oB:ar aJ "Gaining" := by decide +kernel
theorem lC:ar aJ "ValueError" := by decide +kernel
theorem bt:aj cr "_law_found" := by decide +kernel
theorem bE:aj cr "_law_due" := by decide +kernel
theorem aZ:ar cr "isinstance" := by decide +kernel
theorem jZ:ar cr "list" := by decide +kernel
theorem jj:ar cr "tuple" := by decide +kernel
theorem qa:ar cr "len" := by decide +kernel
theorem vS:ar cr "all" := by decide +kernel
theorem wC:ar cr "zip" := by decide +kernel
theorem lq:ar cr "str" := by decide +kernel
theorem jU:ar cr "bool" := by decide +kernel
theorem wn:ar cr "int" := by decide +kernel
theorem k8:aj cq "_law_net" := by decide +kernel
theorem pS:aj cq "_law_place" := by decide +kernel
theorem dg:aj cq "_law_found" := by decide +kernel
theorem kI:aj cq "_law_way" := by decide +kernel
theorem gS:aj cq "_law_gain" := by decide +kernel
theorem m9:ar cq "_law_all_ways" := by decide +kernel
theorem nU:ar cq "_law_gain_of" := by decide +kernel
theorem pD:ar cq "_law_above" := by decide +kernel
theorem eB:aj bz "_law_net" := by decide +kernel
theorem eQ:i4 bz "_law_known" := by decide +kernel
theorem se:aj bz "_law_turn" := by decide +kernel
theorem eL:aj bz "_law_grown_here" := by decide +kernel
theorem jS:aj bz "_law_number" := by decide +kernel
theorem gP:aj bz "_law_begin" := by decide +kernel
theorem lX:aj bz "_law_end" := by decide +kernel
theorem sC:aj bz "_law_top" := by decide +kernel
theorem kE:aj bz "_law_gain" := by decide +kernel
theorem qN:aj bz "_law_price" := by decide +kernel
theorem i7:aj bz "_law_one" := by decide +kernel
theorem sZ:ar bz "dict" := by decide +kernel
theorem sg:ar bz "range" := by decide +kernel
theorem va:ar bz "len" := by decide +kernel
theorem pZ:ar bz "_law_opened" := by decide +kernel
theorem o5:ar bz "_law_product" := by decide +kernel
theorem qK:ar bz "_law_above" := by decide +kernel
theorem di:i4 cy "_law_net" := by decide +kernel
theorem rM:aj cy "_law_told" := by decide +kernel
theorem ig:aj cy "_law_word" := by decide +kernel
theorem eO:aj cy "_law_found" := by decide +kernel
theorem nZ:ar cy "_law_is_round" := by decide +kernel
theorem gK:ar cy "gaining_round" := by decide +kernel
theorem kQ:ar cy "_law_same" := by decide +kernel
theorem qB:ar cy "_law_grown" := by decide +kernel
theorem uM:ar cy "len" := by decide +kernel
theorem tG:aj bY "_law_script" := by decide +kernel
theorem ia:aj bY "_law_cells" := by decide +kernel
theorem uf:aj bY "_law_k" := by decide +kernel
theorem kR:aj bY "_law_box_here" := by decide +kernel
theorem vH:aj bY "_law_turn" := by decide +kernel
theorem hV:aj bY "_law_net" := by decide +kernel
theorem lV:aj bY "_law_written" := by decide +kernel
theorem vd:aj bY "_law_again" := by decide +kernel
theorem kF:aj bY "_law_told" := by decide +kernel
theorem j0:aj bY "_law_alone" := by decide +kernel
theorem tL:ar bY "_law_folded" := by decide +kernel
theorem my:ar bY "range" := by decide +kernel
theorem y6:ar bY "max" := by decide +kernel
theorem zJ:ar bY "len" := by decide +kernel
theorem qU:ar bY "_law_box" := by decide +kernel
theorem tO:ar bY "_law_net_by" := by decide +kernel
theorem ul:ar bY "str" := by decide +kernel
theorem rV:ar bY "_law_all_told" := by decide +kernel
theorem uV:ar bY "_law_right" := by decide +kernel
theorem qZ:ar bY "_law_names_by" := by decide +kernel
theorem ow:ar bY "holding_worths" := by decide +kernel
theorem oY:ar bY "gaining_round" := by decide +kernel
theorem iO:aj b5 "self" := by decide +kernel
theorem fz:aj b5 "ties" := by decide +kernel
theorem kj:ar b5 "GainError" := by decide +kernel
theorem jY:ar b5 "isinstance" := by decide +kernel
theorem iZ:ar b5 "list" := by decide +kernel
end K11
namespace L2
open PySem PySem.Spec PySem.Calls PyProof.Rows
def topRunT (tb:String→Option Builtin) (p:Program) (w:World) (n₀:Nat) (ann:Option Value):Nat→PySem.W.SharedT→Thread→Option PySem.W.SharedT
 | 0,_,_=>none
 | n+1,s,t=>match PySem.W.through t with
  | true=>some s
  | false=>match PySem.W.stepOk n₀ ann t with
   | false=>none
   | true=>match PySem.W.stepT (denote tb) p w s t with
    | some (s',t')=>topRunT tb p w n₀ ann n s' t'
    | none=>none
theorem tX {tb:String→Option Builtin}{p:Program}{w:World}{n₀:Nat}{ann:Option Value}:∀{n:Nat}{s s':PySem.W.SharedT}{t:Thread},topRunT tb p w n₀ ann n s t=some s'→PySem.W.topRun tb p w n₀ ann n s.abs t=some s'.abs
 | 0,_,_,_,h=>by cases h
 | n+1,s,s',t,h=>by
  unfold topRunT at h
  unfold PySem.W.topRun
  cases he:PySem.W.through t with
  | true=>rw [he] at h;cases h;rfl
  | false=>
   rw [he] at h
   cases hk:PySem.W.stepOk n₀ ann t with
   | false=>rw [hk] at h;cases h
   | true=>
    rw [hk] at h
    cases hs:PySem.W.stepT (denote tb) p w s t with
    | none=>rw [hs] at h;cases h
    | some r=>obtain ⟨s₂,t₂⟩:=r;rw [hs] at h;rw [PySem.W.stepT_spec hs];exact tX h
open PySem.W in
noncomputable def FR (P:Params):BT:=.node (boot_o_0 P) (.node (boot_o_1 P) (.node (boot_o_3 P) (.node (boot_o_7 P) .nil .nil) .nil) (.node (boot_o_5 P) (.node (boot_o_9 P) .nil .nil) .nil)) (.node (boot_o_2 P) (.node (boot_o_4 P) (.node (boot_o_8 P) .nil .nil) .nil) (.node (boot_o_6 P) (.node (boot_o_10 P) .nil .nil) .nil))
noncomputable def bootS (w:World) (os:OsState):PySem.W.SharedT:=⟨FR w.params,11,{},#[],PySem.W.boot_drawn,PySem.W.boot_toks,os⟩
theorem yZ (w:World):((PySem.W.boot_heap w.params).isNs mainGlobals,(PySem.W.boot_heap w.params).objs.size,(PySem.W.boot_heap w.params).nsMap mainGlobals "__annotations__")=(true,11,some (.ref 6)):=by kernel_rfl
noncomputable def looks {α:Type} (p q:Program) (Xt:Shared→Bool) (Yf:Shared→α) (w:World) (s:Shared):=
 (PySem.W.staticsOk (importedModules p.main.body) (PySem.W.boot_heap w.params) s.heap && PySem.W.namesBound p s.heap && PySem.W.gensDone s && PySem.W.laidKept (PySem.W.boot_heap w.params) s.heap,PySem.W.openSeen q [] (importedModules p.main.body) Xt true s,Yf s)
theorem left_tree {p q:Program}{Xt:Shared→Bool}{α:Type}{Yf:Shared→α}{Ya:α}{N:Nat}
 (e:PySem.W.opening p=PySem.W.plainProg p.main.scope.names) (hN:Nat.ble 600 N=true) (f:∀s,PySem.fenceModules? p s=some s)
 (run:∀(w:World) (os:OsState),(topRunT treeTable p w 11 (some (.ref 6)) N (bootS w os) (PySem.W.topStub p)).map (fun s=>looks p q Xt Yf w s.abs)=some (true,PySem.W.openGood q [],Ya)) :
 PySem.W.LeftO p q [] Xt Yf (fun _=>Ya) N:=fun w=>by
 obtain ⟨⟨h,gs,d,k,os⟩,ef,ev⟩:=Option.map_eq_some_iff.mp (PySem.W.boot_open e hN f w)
 obtain ⟨rfl,rfl,rfl,rfl⟩:h=PySem.W.boot_heap w.params∧gs=#[]∧d=PySem.W.boot_drawn∧k=PySem.W.boot_toks:=by simpa using ev
 obtain ⟨st,er,el⟩:=Option.map_eq_some_iff.mp (run w os)
 have r:=tX er
 have e0:(bootS w os).abs=⟨PySem.W.boot_heap w.params,#[],PySem.W.boot_drawn,PySem.W.boot_toks,os⟩:=rfl
 rw [e0] at r
 obtain ⟨z1,z2,z3⟩:_∧_∧_:=by simpa only [Prod.mk.injEq] using yZ w
 obtain ⟨l1,l2,l3⟩:_∧_∧_:=by simpa only [looks,Prod.mk.injEq] using el
 have t:PySem.W.topFrom treeTable p w N ⟨PySem.W.boot_heap w.params,#[],PySem.W.boot_drawn,PySem.W.boot_toks,os⟩=some st.abs:=by
  unfold PySem.W.topFrom
  dsimp only
  rw [z1,z2,z3,r]
  show (match PySem.W.staticsOk (importedModules p.main.body) (PySem.W.boot_heap w.params) st.abs.heap && PySem.W.namesBound p st.abs.heap && PySem.W.gensDone st.abs && PySem.W.laidKept (PySem.W.boot_heap w.params) st.abs.heap with | true=>_ | false=>_)=_
  rw [l1]
 unfold PySem.W.openEnds
 rw [ef]
 show (PySem.W.topFrom treeTable p w N _).map _=_
 rw [t]
 exact congrArg some (Prod.ext l2 l3)
theorem left_of2 {α β:Type}{f f':World→β→α}{g g':α} (ef:f=f') (eg:g=g') (h:∀w os,f' w os=g') (w:World) (os:β):f w os=g:=by
 rw [ef,eg];exact h w os
end L2
namespace K11
open PySem L2
def qv:Program:=PySem.W.view PySem.Challenge.pw_gainroads_k11_worths_that_hold [1,2,3,4,5,6,7,8,9,10,11,12,13,14,15,17,18,19,20,22,23,24,25,26,27,28,29,31,32,33,34,35,36,37,38,39,40,41,42,43,44,45,46,47,48,49,50,51,52,53]
def obs (K:PySem.W.Frag):List (Option FuncData)×List Bool:=([fG K "common_divisor",
 fG K "fraction",
 fG K "times",
 fG K "compared",
 fG K "is_shut",
 fG K "lift_once",
 fG K "round_ahead",
 fG K "gaining_round",
 fG K "lift_all",
 fG K "holding_worths",
 fG K "greatest_gain",
 fG K "best_way",
 fG K "_law_box",
 fG K "_law_take",
 fG K "_law_folded",
 fG K "_law_frac",
 fG K "_law_product",
 fG K "_law_over",
 fG K "_law_above",
 fG K "_law_names_by",
 fG K "_law_any_gain",
 fG K "_law_any_much",
 fG K "_law_any_price",
 fG K "_law_planted",
 fG K "_law_net_by",
 fG K "_law_opened",
 fG K "_law_gain_of",
 fG K "_law_all_ways",
 fG K "_law_is_round",
 fG K "_law_all_told",
 fG K "_law_same",
 fG K "_law_due_of",
 fG K "_law_grown",
 fG K "_law_right",
 fG K "law",
 gD K (PySem.W.findIn K (.ref (aS (PySem.W.nsIn K mainGlobals "Gaining"))) "__init__") "Gaining.__init__",
 gD K (PySem.W.findIn K (.ref (aS (PySem.W.nsIn K mainGlobals "NotSoMuch"))) "__init__") "NotSoMuch.__init__",
 gD K (PySem.W.findIn K (.ref (aS (PySem.W.nsIn K mainGlobals "Short"))) "__init__") "Short.__init__",
 gD K (PySem.W.findIn K (.ref (aS (PySem.W.nsIn K mainGlobals "Lacking"))) "__init__") "Lacking.__init__",
 gD K (PySem.W.findIn K (.ref (aS (PySem.W.nsIn K mainGlobals "BadRow"))) "__init__") "BadRow.__init__",
 gD K (PySem.W.findIn K (.ref (aS (PySem.W.nsIn K mainGlobals "BadSheet"))) "__init__") "BadSheet.__init__"],
 [iC (PySem.W.nsIn K mainGlobals "GainError"),
 iC (PySem.W.nsIn K mainGlobals "BadNumber"),
 iC (PySem.W.nsIn K mainGlobals "Taken"),
 iC (PySem.W.nsIn K mainGlobals "NoPlace"),
 iC (PySem.W.nsIn K mainGlobals "NoTie"),
 iC (PySem.W.nsIn K mainGlobals "AsItIs"),
 iC (PySem.W.nsIn K mainGlobals "NoEnds"),
 iC (PySem.W.nsIn K mainGlobals "Over"),
 iC (PySem.W.nsIn K mainGlobals "TooMuch"),
 iC (PySem.W.nsIn K mainGlobals "Gaining"),
 iC (PySem.W.nsIn K mainGlobals "NotSoMuch"),
 iC (PySem.W.nsIn K mainGlobals "Short"),
 iC (PySem.W.nsIn K mainGlobals "Lacking"),
 iC (PySem.W.nsIn K mainGlobals "BadRow"),
 iC (PySem.W.nsIn K mainGlobals "BadSheet"),
 PySem.W.keepIn K (.ref (aS (PySem.W.nsIn K mainGlobals "GainError"))),
 yd K (aS (PySem.W.nsIn K mainGlobals "GainError")),
 PySem.W.keepIn K (.ref (aS (PySem.W.nsIn K mainGlobals "BadNumber"))),
 bN K (aS (PySem.W.nsIn K mainGlobals "BadNumber")) (none),
 PySem.W.keepIn K (.ref (aS (PySem.W.nsIn K mainGlobals "Taken"))),
 bN K (aS (PySem.W.nsIn K mainGlobals "Taken")) (none),
 PySem.W.keepIn K (.ref (aS (PySem.W.nsIn K mainGlobals "NoPlace"))),
 bN K (aS (PySem.W.nsIn K mainGlobals "NoPlace")) (none),
 PySem.W.keepIn K (.ref (aS (PySem.W.nsIn K mainGlobals "NoTie"))),
 bN K (aS (PySem.W.nsIn K mainGlobals "NoTie")) (none),
 PySem.W.keepIn K (.ref (aS (PySem.W.nsIn K mainGlobals "AsItIs"))),
 bN K (aS (PySem.W.nsIn K mainGlobals "AsItIs")) (none),
 PySem.W.keepIn K (.ref (aS (PySem.W.nsIn K mainGlobals "NoEnds"))),
 bN K (aS (PySem.W.nsIn K mainGlobals "NoEnds")) (none),
 PySem.W.keepIn K (.ref (aS (PySem.W.nsIn K mainGlobals "Over"))),
 bN K (aS (PySem.W.nsIn K mainGlobals "Over")) (none),
 PySem.W.keepIn K (.ref (aS (PySem.W.nsIn K mainGlobals "TooMuch"))),
 bN K (aS (PySem.W.nsIn K mainGlobals "TooMuch")) (none),
 PySem.W.keepIn K (.ref (aS (PySem.W.nsIn K mainGlobals "Gaining"))),
 PySem.W.isFn K (.ref (aS (PySem.W.findIn K (.ref (aS (PySem.W.nsIn K mainGlobals "Gaining"))) "__init__"))),
 fU K (aS (PySem.W.nsIn K mainGlobals "Gaining")) "ties",
 iK K (aS (PySem.W.nsIn K mainGlobals "Gaining")) "ties",
 bN K (aS (PySem.W.nsIn K mainGlobals "Gaining")) (some (.ref (aS (PySem.W.findIn K (.ref (aS (PySem.W.nsIn K mainGlobals "Gaining"))) "__init__")))),
 PySem.W.keepIn K (.ref (aS (PySem.W.nsIn K mainGlobals "NotSoMuch"))),
 PySem.W.isFn K (.ref (aS (PySem.W.findIn K (.ref (aS (PySem.W.nsIn K mainGlobals "NotSoMuch"))) "__init__"))),
 fU K (aS (PySem.W.nsIn K mainGlobals "NotSoMuch")) "most",
 iK K (aS (PySem.W.nsIn K mainGlobals "NotSoMuch")) "most",
 bN K (aS (PySem.W.nsIn K mainGlobals "NotSoMuch")) (some (.ref (aS (PySem.W.findIn K (.ref (aS (PySem.W.nsIn K mainGlobals "NotSoMuch"))) "__init__")))),
 PySem.W.keepIn K (.ref (aS (PySem.W.nsIn K mainGlobals "Short"))),
 PySem.W.isFn K (.ref (aS (PySem.W.findIn K (.ref (aS (PySem.W.nsIn K mainGlobals "Short"))) "__init__"))),
 fU K (aS (PySem.W.nsIn K mainGlobals "Short")) "share",
 iK K (aS (PySem.W.nsIn K mainGlobals "Short")) "share",
 bN K (aS (PySem.W.nsIn K mainGlobals "Short")) (some (.ref (aS (PySem.W.findIn K (.ref (aS (PySem.W.nsIn K mainGlobals "Short"))) "__init__")))),
 PySem.W.keepIn K (.ref (aS (PySem.W.nsIn K mainGlobals "Lacking"))),
 PySem.W.isFn K (.ref (aS (PySem.W.findIn K (.ref (aS (PySem.W.nsIn K mainGlobals "Lacking"))) "__init__"))),
 fU K (aS (PySem.W.nsIn K mainGlobals "Lacking")) "place",
 iK K (aS (PySem.W.nsIn K mainGlobals "Lacking")) "place",
 bN K (aS (PySem.W.nsIn K mainGlobals "Lacking")) (some (.ref (aS (PySem.W.findIn K (.ref (aS (PySem.W.nsIn K mainGlobals "Lacking"))) "__init__")))),
 PySem.W.keepIn K (.ref (aS (PySem.W.nsIn K mainGlobals "BadRow"))),
 PySem.W.isFn K (.ref (aS (PySem.W.findIn K (.ref (aS (PySem.W.nsIn K mainGlobals "BadRow"))) "__init__"))),
 fU K (aS (PySem.W.nsIn K mainGlobals "BadRow")) "row",
 iK K (aS (PySem.W.nsIn K mainGlobals "BadRow")) "row",
 bN K (aS (PySem.W.nsIn K mainGlobals "BadRow")) (some (.ref (aS (PySem.W.findIn K (.ref (aS (PySem.W.nsIn K mainGlobals "BadRow"))) "__init__")))),
 PySem.W.keepIn K (.ref (aS (PySem.W.nsIn K mainGlobals "BadSheet"))),
 PySem.W.isFn K (.ref (aS (PySem.W.findIn K (.ref (aS (PySem.W.nsIn K mainGlobals "BadSheet"))) "__init__"))),
 fU K (aS (PySem.W.nsIn K mainGlobals "BadSheet")) "row",
 iK K (aS (PySem.W.nsIn K mainGlobals "BadSheet")) "row",
 bN K (aS (PySem.W.nsIn K mainGlobals "BadSheet")) (some (.ref (aS (PySem.W.findIn K (.ref (aS (PySem.W.nsIn K mainGlobals "BadSheet"))) "__init__")))),
 zZ (PySem.W.exmOne K (.ref (aS (PySem.W.nsIn K mainGlobals "Gaining"))) (.ref (aS (PySem.W.nsIn K mainGlobals "GainError")))),
 qq K [(aS (PySem.W.nsIn K mainGlobals "BadNumber")),(aS (PySem.W.nsIn K mainGlobals "Taken")),(aS (PySem.W.nsIn K mainGlobals "NoPlace")),(aS (PySem.W.nsIn K mainGlobals "NoTie")),(aS (PySem.W.nsIn K mainGlobals "AsItIs")),(aS (PySem.W.nsIn K mainGlobals "NoEnds")),(aS (PySem.W.nsIn K mainGlobals "Over")),(aS (PySem.W.nsIn K mainGlobals "TooMuch")),(aS (PySem.W.nsIn K mainGlobals "Gaining")),(aS (PySem.W.nsIn K mainGlobals "NotSoMuch")),(aS (PySem.W.nsIn K mainGlobals "Short")),(aS (PySem.W.nsIn K mainGlobals "Lacking")),(aS (PySem.W.nsIn K mainGlobals "BadRow")),(aS (PySem.W.nsIn K mainGlobals "BadSheet"))] (aS (PySem.W.nsIn K mainGlobals "GainError")),
 fb (PySem.W.nsIn K mainGlobals "ValueError"),
 fb (PySem.W.nsIn K mainGlobals "abs"),
 fb (PySem.W.nsIn K mainGlobals "all"),
 fb (PySem.W.nsIn K mainGlobals "any"),
 fb (PySem.W.nsIn K mainGlobals "bool"),
 fb (PySem.W.nsIn K mainGlobals "dict"),
 fb (PySem.W.nsIn K mainGlobals "divmod"),
 fb (PySem.W.nsIn K mainGlobals "enumerate"),
 fb (PySem.W.nsIn K mainGlobals "int"),
 fb (PySem.W.nsIn K mainGlobals "isinstance"),
 fb (PySem.W.nsIn K mainGlobals "len"),
 fb (PySem.W.nsIn K mainGlobals "list"),
 fb (PySem.W.nsIn K mainGlobals "max"),
 fb (PySem.W.nsIn K mainGlobals "range"),
 fb (PySem.W.nsIn K mainGlobals "set"),
 fb (PySem.W.nsIn K mainGlobals "str"),
 fb (PySem.W.nsIn K mainGlobals "tuple"),
 fb (PySem.W.nsIn K mainGlobals "zip")])
def due:List (Option FuncData)×List Bool:=([dG "common_divisor" "common_divisor" ic,
 dG "fraction" "fraction" fC,
 dG "times" "times" kA,
 dG "compared" "compared" fk,
 dG "is_shut" "is_shut" lZ,
 dG "lift_once" "lift_once" be,
 dG "round_ahead" "round_ahead" cz,
 dG "gaining_round" "gaining_round" br,
 dG "lift_all" "lift_all" cS,
 dG "holding_worths" "holding_worths" cI,
 dG "greatest_gain" "greatest_gain" lQ,
 dG "best_way" "best_way" sX,
 dG "_law_box" "_law_box" tu,
 dG "_law_take" "_law_take" rZ,
 dG "_law_folded" "_law_folded" nQ,
 dG "_law_frac" "_law_frac" gc,
 dG "_law_product" "_law_product" fP,
 dG "_law_over" "_law_over" jv,
 dG "_law_above" "_law_above" jR,
 dG "_law_names_by" "_law_names_by" bu,
 dG "_law_any_gain" "_law_any_gain" cZ,
 dG "_law_any_much" "_law_any_much" dS,
 dG "_law_any_price" "_law_any_price" dk,
 dG "_law_planted" "_law_planted" bn,
 dG "_law_net_by" "_law_net_by" aH,
 dG "_law_opened" "_law_opened" i8,
 dG "_law_gain_of" "_law_gain_of" dJ,
 dG "_law_all_ways" "_law_all_ways" bT,
 dG "_law_is_round" "_law_is_round" bF,
 dG "_law_all_told" "_law_all_told" aJ,
 dG "_law_same" "_law_same" cr,
 dG "_law_due_of" "_law_due_of" cq,
 dG "_law_grown" "_law_grown" bz,
 dG "_law_right" "_law_right" cy,
 dG "law" "law" bY,
 dG "__init__" "Gaining.__init__" b5,
 dG "__init__" "NotSoMuch.__init__" kc,
 dG "__init__" "Short.__init__" oN,
 dG "__init__" "Lacking.__init__" lJ,
 dG "__init__" "BadRow.__init__" nj,
 dG "__init__" "BadSheet.__init__" kX],[true,true,true,true,true,true,true,true,true,true,true,true,true,true,true,true,true,true,true,true,true,true,true,true,true,true,true,true,true,true,true,true,true,true,true,true,true,true,true,true,true,true,true,true,true,true,true,true,true,true,true,true,true,true,true,true,true,true,true,true,true,true,true,true,true,true,true,true,true,true,true,true,true,true,true,true,true,true,true,true,true,true,true])
end K11
def L2.Xt (s:PySem.Shared):Bool:=PySem.W.xlAt K11.qv [] s && PySem.W.recOk [] s
def L2.Yf (s:PySem.Shared):=K11.obs (L2.fragOf s.heap)
noncomputable def L2.lhs (w:PySem.World) (os:PySem.OsState):=(L2.topRunT PySem.treeTable PySem.Challenge.pw_gainroads_k11_worths_that_hold w 11 (some (.ref 6)) 9052 (L2.bootS w os) (PySem.W.topStub PySem.Challenge.pw_gainroads_k11_worths_that_hold)).map fun s=>L2.looks PySem.Challenge.pw_gainroads_k11_worths_that_hold K11.qv L2.Xt L2.Yf w s.abs
noncomputable def L2.rhs:=some (true,PySem.W.openGood K11.qv [],K11.due)
theorem L2.lhs0:L2.lhs=L2.lhs:=rfl
theorem L2.rhs0:L2.rhs=L2.rhs:=rfl
name_quick lhsQ for L2.lhs by L2.lhs0
name_quick rhsQ for L2.rhs by L2.rhs0
theorem L2.left:∀w os,L2.lhs w os=L2.rhs:=L2.left_of2 PySem.W.Fast.lhsQ_eq PySem.W.Fast.rhsQ_eq (fun w os=>by kernel_rfl)
namespace K11
open PySem L2
section
variable {P:Program}{w:World}{K:PySem.W.Frag}{mg:Str→Option Value}{base:Heap}
inductive EO (vs:List V) (H:Hp) (Q:VK):Prop
 | mk (n d:Int) (h0:vs=[.int n,.int d]) (h1:Q (.int (Int.gcd n d:Nat)) H)
def Ff:Sp:=fun vs H Q _=>EO  vs H Q
theorem qC (T:Txt K mg):bD P w K mg base CX0 1 T.common_divisor_.f T.common_divisor_.d ["n", "d"] Ff:=by
 refine T.common_divisor_.F.ok ka (fun vs H Q E h=>?_) (fun cdv A outer s H vs Q E hr h=>?_)
 ·obtain ⟨n,d,rfl,_⟩:=h
  rfl
 ·obtain ⟨n,d,rfl,k⟩:=h
  refine ⟨_,(ae (kM PassesOwn.never (aK qb (pv 1) ad (aG _)) (ah (mW (i:=0) (j:=1) rfl ka.nd rfl rfl (by decide) rfl rfl (cH (pv 1) (cH (av Cq (pv 0) (pv 1)) ac)) rfl)))
   (ah (aL (aB lp (by rfl) T.b_abs iz (cH (pv 0) ac))))),?_⟩
  refine ⟨fun m σ H'=>∃a b:Int,σ=[some (.int a),some (.int b)]∧H'=H∧Int.gcd a b=Int.gcd n d∧m=b.natAbs,⟨_,n,d,rfl,rfl,rfl,rfl⟩,?_⟩
  rintro m σ H' ⟨a,b,rfl,rfl,hg,rfl⟩
  refine ⟨_,rfl,rfl,_,rfl,?_⟩
  by_cases hb:b=0
  ·subst hb
   refine bC ?_
   refine ⟨_,rfl,_,rfl,?_⟩
   rw [←KM.gcd_zero_abs,hg]
   exact k
  ·have e:(!decide (V.int b=V.int 0))=true:=by
    rw [decide_eq_false (fun z=>hb (by injection z))];rfl
   rw [e]
   refine bW ⟨fun σ' H''=>∃a' b':Int,σ'=[some (.int a'),some (.int b')]∧H''=H'∧Int.gcd a' b'=Int.gcd n d∧b'.natAbs<b.natAbs,?_,?_⟩
   ·rintro σ' H'' ⟨a',b',rfl,rfl,h1,h2⟩
    exact ⟨_,h2,a',b',rfl,rfl,h1,rfl⟩
   ·refine ⟨_,rfl,_,rfl,_,rfl,_,_,rfl,rfl,hb,_,_,rfl,?_⟩
    exact ⟨b,a.fmod b,rfl,rfl,(KM.gcd_fmod a b).trans hg,KM.fmod_natAbs_lt a b hb⟩
end
end K11
namespace K11
open PySem L2
section
variable {P:Program}{w:World}{K:PySem.W.Frag}{mg:Str→Option Value}{base:Heap}
theorem D9 (T:Txt K mg):bD P w K mg base CX0 1 T.l_box_.f T.l_box_.d ["_law_script", "_law_k"] (FV K):=by
 refine T.l_box_.F.ok rP (fun vs H Q E h=>?_) (fun cdv A outer s H vs Q E hr h=>?_)
 ·obtain ⟨a,ms,k,rfl,_⟩:=h
  rfl
 ·obtain ⟨a,ms,k,rfl,hS,hk0,hk1,kk⟩:=h
  refine ⟨_,(ae (aE (i:=2) rP.nd rfl (Or.inl rfl) ad)
   (ae (bH (aK lG (pv 1) (aB pG (by rfl) T.b_len bw (cH (pv 0) ac)) (aG _)) (ah (aE (i:=2) rP.nd rfl (Or.inl rfl) (aq iH (pv 0) (pv 1) (fun _ _=>rfl)))) bd)
   (ah (aL (EI (cH (av fD (aB lp (by rfl) T.b_abs iz (cH (pv 2) ac)) (de uw (by rfl) T.b_int md (cH (dj F6 (aB lp (by rfl) T.b_abs iz (cH (pv 2) ac)) (av wB ad ad) (aG _)) ac))) (cH (av hJ (av bK (pv 2) (av fD (av fD ad (pv 1)) (pv 1))) ad) (cH ad ac)))))))),?_⟩
  refine ⟨_,rfl,_,rfl,a,_,rfl,.inl hS,_,_,rfl,rfl,_,rfl,?_⟩
  refine jk (fun h=>?_) (fun h=>?_)
  case' refine_1=>
   have hlt:k.toNat<ms.length:=by
    have h':=of_decide_eq_true h
    rw [List.length_map] at h'
    trivial
   refine ⟨_,rfl,_,rfl,.inl ⟨a,_,_,V.int ms[k.toNat],rfl,rfl,hS,?_,?_⟩⟩
   ·exact xH hk0 hlt
  all_goals
   refine ⟨_,rfl,_,rfl,_,rfl,_,rfl,_,_,rfl,rfl,⟨by decide,by decide,by decide⟩,_,_,rfl,rfl,.inr ⟨_,rfl,_,_,rfl,rfl,.inr ?_,_,rfl,_,rfl,_,_,rfl,rfl,.inr ⟨by trivial,by trivial⟩,_,rfl,_,_,rfl,rfl,.inr ⟨by trivial,by trivial⟩,_,_,rfl,rfl,_,_,rfl,rfl,?_,?_,fun p hp=>kk p _ hp (ak.new hp) ⟨_,_,am,?_,?_,?_⟩⟩⟩
   ·exact Hn _
   ·show (0:Int)<2147483647;decide
   ·show 3≤sizeLine;decide
   ·exact Ft _ (vV _)
   ·exact Int.emod_nonneg _ (by decide)
   ·exact Int.emod_lt_of_pos _ (by decide)
end
end K11
namespace K11
open PySem L2
section
variable {P:Program}{w:World}{K:PySem.W.Frag}{mg:Str→Option Value}{base:Heap}
theorem kC (T:Txt K mg):bD P w K mg base CX0 1 T.l_take_.f T.l_take_.d ["_law_box_here", "_law_many"] Eg:=by
 refine T.l_take_.F.ok pA (fun vs H Q E h=>?_) (fun cdv A outer s H vs Q E hr h=>?_)
 ·obtain ⟨b,many,t,rfl,_⟩:=h
  rfl
 ·obtain ⟨b,many,t,rfl,⟨c,x,hb,hc,hx0,hx1⟩,hm0,hm1,ht0,ht1,kk⟩:=h
  refine ⟨_,(ae (bH (aK jA (aq iH (pv 0) ad (fun _ _=>rfl)) ad (aG _)) (ae (d9 (aB wA (by rfl) T.b_divmod vg (cH (aq iH (pv 0) ad (fun _ _=>rfl)) (cH (pv 1) ac))) (vB rfl (aP (mJ (pv 0) ad rT) (aP (au (i:=2) pA.nd rfl (Or.inl rfl)) cN))))
   (ah (aL (pv 2)))) bd)
   (ae (d9 (av bK (aq iH (pv 0) ad (fun _ _=>rfl)) ad) (mJ (pv 0) ad rT))
   (ae (aE (i:=3) pA.nd rfl (Or.inl rfl) (av hJ (av wB (av bK (aq iH (pv 0) ad (fun _ _=>rfl)) (av fD ad (aq iH (pv 0) ad (fun _ _=>rfl)))) ad) ad))
   (ah (aL (av hJ (av BM (av hJ (av bK (av fD (pv 3) ad) (av fD (av fD (aq iH (pv 0) ad (fun _ _=>rfl)) (aq iH (pv 0) ad (fun _ _=>rfl))) ad)) ad) ad) (pv 1))))))),?_⟩
  refine ⟨_,rfl,.inl ⟨b,_,_,_,rfl,rfl,ax.of hb,rfl,_,_,rfl,rfl,_,rfl,?_⟩⟩
  refine jk (fun h=>?_) (fun h=>?_)
  ·refine ⟨_,rfl,.inl ⟨b,_,_,_,rfl,rfl,ax.of hb,rfl,_,rfl,_,_,rfl,⟨hm0,hm1⟩,fun p hp=>⟨p,_,rfl,ap.of am,rfl,_,_,rfl,_,rfl,b,[.int c,.int x,.int t],_,0,rfl,rfl,?_,rfl,_,_,rfl,rfl,_,rfl,?_⟩⟩⟩
   ·rw [ao (aY hb hp)];exact hb
   ·have hb':aN H p (.tup [.int (c / many),.int (c % many)]) b=some (.lst [.int c,.int x,.int t]):=by rw [ao (aY hb hp)];exact hb
    exact kk _ t _ (Int.emod_nonneg _ (Int.ne_of_gt hm0)) (Int.emod_lt_of_pos _ hm0) (Int.le_refl _) (by trivial) (tR (ak.new hp) hb') ⟨_,_,am,Int.ediv_nonneg hc (Int.le_of_lt hm0),hx0,hx1⟩
  ·refine ⟨_,rfl,.inl ⟨b,_,_,_,rfl,rfl,ax.of hb,rfl,_,_,rfl,rfl,_,rfl,b,_,_,2,rfl,rfl,hb,rfl,?_⟩⟩
   refine ⟨_,rfl,.inl ⟨b,_,_,_,rfl,rfl,ax.of am,rfl,_,rfl,.inl ⟨b,_,_,_,rfl,rfl,ax.of am,rfl,_,_,rfl,rfl,.inl ⟨by decide,by decide⟩,_,_,rfl,rfl,_,_,rfl,rfl,⟨by decide,by decide,?_⟩,_,_,rfl,rfl,?_,?_⟩⟩⟩
   ·have:(x+39373*(t+1)).natAbs<2 ^ 64:=by trivial
    exact this
   ·show (0:Int)<2147483647;decide
   have ho0:0≤(x+39373*(t+1)) ^ (5:Int).toNat % 2147483647:=Int.emod_nonneg _ (by decide)
   have ho1:(x+39373*(t+1)) ^ (5:Int).toNat % 2147483647<2147483647:=Int.emod_lt_of_pos _ (by decide)
   generalize (x+39373*(t+1)) ^ (5:Int).toNat % 2147483647=on at ho0 ho1 ⊢
   refine ⟨_,rfl,_,_,rfl,rfl,.inr ⟨by decide,by decide⟩,_,rfl,.inl ⟨b,_,_,_,rfl,rfl,ax.of am,rfl,_,rfl,.inl ⟨b,_,_,_,rfl,rfl,ax.of am,rfl,_,_,rfl,rfl,.inl ⟨?_,?_⟩,_,_,rfl,rfl,.inr ⟨by decide,by decide⟩,_,_,rfl,rfl,_,_,rfl,rfl,?_,_,_,rfl,rfl,⟨by decide,by decide⟩,_,rfl,_,_,rfl,rfl,hm0,?_⟩⟩⟩
   ·show -(2 ^ 64)<t+1;trivial
   ·show t+1<2 ^ 64;trivial
   ·show (0:Int)<2147483629;decide
   ·exact kk _ (t+1) _ (Int.emod_nonneg _ (Int.ne_of_gt hm0)) (Int.emod_lt_of_pos _ hm0) (by trivial) (Int.le_refl _) (tR (ak.refl H) hb) ⟨c,x,am,hc,hx0,hx1⟩
end
end K11
namespace K11
open PySem L2
section
variable {P:Program}{w:World}{K:PySem.W.Frag}{mg:Str→Option Value}{base:Heap}
inductive Aa (K:PySem.W.Frag) (vs:List V) (H:Hp) (Q:VK):Prop
 | mk (a:Addr) (ns:List Int) (many:Int) (h0:vs=[.ref a,.int many]) (h1:ax K H a (ns.map V.int)) (h2:ns.length≤63) (h3:2≤many) (h4:many≤63) (h5:∀p ms H',H p=none→ak H H'→H' p=some (.lst ((ms:List Int).map V.int))→(ms.length:Int)≤many→Q (.ref p) H')
def CJ (K:PySem.W.Frag):Sp:=fun vs H Q _=>Aa K vs H Q
theorem zH (T:Txt K mg):bD P w K mg base CX0 1 T.l_folded_.f T.l_folded_.d ["_law_script", "_law_many"] (CJ K):=by
 refine T.l_folded_.F.ok jx (fun vs H Q E h=>?_) (fun cdv A outer s H vs Q E hr h=>?_)
 ·obtain ⟨a,ns,many,rfl,_⟩:=h
  rfl
 ·obtain ⟨a,ns,many,rfl,hS,hn,hm0,hm1,kk⟩:=h
  refine ⟨_,(ae (aE (i:=2) jx.nd rfl (Or.inl rfl) (de p6 (by rfl) T.b_list cX (cH (gv td (pv 0) jn (gJ (pv 1))) ac)))
   (ae (e8 PassesOwn.never rfl (Co rfl T.b_enumerate (cH (gv td (pv 0) (gJ (pv 1)) (gJ ad)) ac)) (vB rfl (aP (au (i:=3) jx.nd rfl (Or.inl rfl)) (aP (au (i:=4) jx.nd rfl (Or.inl rfl)) cN))) (ah (d9 (av bK (aq iH (pv 2) (av hJ (pv 3) (pv 1)) (fun _ _=>rfl)) (av fD (pv 4) (av bK (pv 3) ad))) (mJ (pv 2) (av hJ (pv 3) (pv 1)) rT))))
   (ah (aL (pv 2))))),?_⟩
  have cutE:∀(lo hi:Option Int),∃cs:List Int,jm (ns.map V.int) lo hi=cs.map V.int∧cs.length≤ns.length∧cs=(ns.drop (HT.sIx ns.length 0 lo)).take (HT.sIx ns.length ns.length hi - HT.sIx ns.length 0 lo):=fun lo hi=>by
   refine ⟨(ns.drop (HT.sIx ns.length 0 lo)).take (HT.sIx ns.length ns.length hi - HT.sIx ns.length 0 lo),?_,?_,rfl⟩
   ·unfold jm
    rw [List.length_map,List.map_take,List.map_drop]
   ·rw [List.length_take,List.length_drop];trivial
  obtain ⟨c1,e1,l1,q1⟩:=cutE none (some many)
  obtain ⟨c2,e2,l2,q2⟩:=cutE (some many) (some 63)
  have em:many=((many.toNat:Nat):Int):=by trivial
  have l1m:c1.length=min many.toNat ns.length:=by
   rw [q1,em,HT.sIx_nat,HT.sIx_none,List.length_take,List.length_drop]
   simp only [Int.toNat_natCast]
   trivial
  have l2m:c2.length≤ns.length - many.toNat:=by
   rw [q2,em,HT.sIx_nat,List.length_take,List.length_drop]
   simp only [Int.toNat_natCast]
   trivial
  refine ⟨_,rfl,_,rfl,_,rfl,a,_,rfl,hS,fun p1 hp1=>⟨p1,_,rfl,.inl (ax.of am),fun p2 hp2=>?_⟩⟩
  rw [e1] at hp2 ⊢
  have n12:p2≠p1:=fun z=>by rw [z,am] at hp2;cases hp2
  have s2:ak H (aN (aN H p1 (.lst (c1.map V.int))) p2 (.lst (c1.map V.int))):=(ak.new hp1).trans (ak.new hp2)
  refine ⟨_,rfl,_,rfl,_,rfl,_,rfl,a,_,rfl,s2.seq hS,fun p3 hp3=>⟨p3,rfl,⟨_,ax.of am⟩,?_⟩⟩
  rw [e2]
  have s3:=s2.trans (ak.new (o:=.lst (c2.map V.int)) hp3)
  have n23:p2≠p3:=fun z=>by rw [←z,am] at hp3;cases hp3
  refine ⟨fun i m σ H'=>m=c2.length - i∧i≤c2.length∧fJ fun (ms:List Int) (v3 v4:Option V)=>σ=[some (.ref a),some (.int many),some (.ref p2),v3,v4]∧ms.length=c1.length∧H' p2=some (.lst (ms.map V.int))∧H' p3=some (.lst (c2.map V.int))∧(∀b o,b≠p2→H b=some o→H' b=some o),⟨_,rfl,Nat.zero_le _,c1,none,none,rfl,rfl,?_,am,fun b o _ h=>s3 b o h⟩,?_⟩
  ·rw [ao n23];exact am
  rintro i m σ H' ⟨rfl,hi,ms,v3,v4,rfl,hms,h2,h3,hk⟩
  by_cases hlt:i<c2.length
  ·refine .inr ⟨⟨c2.map V.int,V.int c2[i],ax.of h3,by rw [List.getElem?_map];simp [hlt]⟩,_,fun σ' H'' z=>z,?_⟩
   rintro x H'' ⟨t,y,ht,rfl,rfl,hy⟩
   have hy':=hy _ (ax.of h3)
   rw [List.getElem?_map,List.getElem?_eq_getElem hlt] at hy'
   obtain rfl:V.int c2[i]=y:=Option.some.inj hy'
   have nt2:p2≠t:=aY h2 ht
   have nt3:p3≠t:=aY h3 ht
   have hlen:many.toNat<ns.length:=by trivial
   have hmod0:0≤(i:Int) % many:=Int.emod_nonneg _ (by trivial)
   have hmod1:(i:Int) % many<many:=Int.emod_lt_of_pos _ (by trivial)
   have hixlt:((i:Int) % many).toNat<ms.length:=by trivial
   refine ⟨t,_,rfl,ap.of am,rfl,_,_,rfl,_,_,rfl,rfl,_,rfl,_,rfl,_,rfl,_,_,rfl,rfl,(by show (0:Int)<many;trivial),.inl ⟨p2,ms.map V.int,_,V.int ms[((i:Int) % many).toNat],rfl,rfl,ax.of (by rw [ao nt2];exact h2),xH hmod0 hixlt,_,rfl,_,rfl,_,_,rfl,rfl,_,_,rfl,rfl,.inr ⟨?_,?_⟩,_,_,rfl,rfl,_,rfl,_,rfl,_,rfl,_,_,rfl,rfl,(by show (0:Int)<many;trivial),p2,ms.map V.int,_,((i:Int) % many).toNat,rfl,rfl,(by rw [ao nt2];exact h2),?_,?_⟩⟩
   ·trivial
   ·trivial
   ·unfold qW
    rw [if_pos hmod0,List.length_map,if_pos (by trivial)]
   ·refine ⟨c2.length - (i+1),by trivial,rfl,hlt,ms.set ((i:Int) % many).toNat (ms[((i:Int) % many).toNat]+c2[i]*((i:Int)+2)),_,_,rfl,by rw [List.length_set];exact hms,?_,?_,fun b o hb h=>?_⟩
    ·rw [am,List.map_set]
    ·rw [ao (Ne.symm n23),ao nt3];exact h3
    ·have:=hk b o hb h
     rw [ao hb,ao (aY this ht)]
     exact this
  ·refine .inl ⟨⟨_,ax.of h3,by rw [List.length_map];trivial⟩,?_⟩
   have hp2':H p2=none:=by
    rw [ao n12] at hp2
    exact hp2
   have sH:ak H H':=fun b o h=>hk b o (aY h hp2') h
   exact ⟨_,rfl,kk p2 ms H' hp2' sH h2 (by trivial)⟩
end
end K11
namespace K11
open PySem L2
section
variable {P:Program}{w:World}{K:PySem.W.Frag}{mg:Str→Option Value}{base:Heap}
theorem wP (T:Txt K mg):bD P w K mg base CX0 2 T.fraction_.f T.fraction_.d ["n", "d"] Er:=by
 have G_common_divisor:=qC (P:=P) (w:=w) (base:=base) T
 refine T.fraction_.F.ok mw (fun vs H Q E h=>?_) (fun cdv A outer s H vs Q E hr h=>?_)
 ·obtain ⟨n,d,rfl,_⟩:=h
  rfl
 ·obtain ⟨n,d,rfl,hd,hs,k⟩:=h
  refine ⟨_,(@ae _ _ _ _ _ (@aE _ _ (2) _ _ _ _ mw.nd rfl (Or.inl cW) (@ai _ _ _ _ _ _ _ _ _ _ _ _ _ _ _ _ G_common_divisor (hr.mono (by decide)) kq T.common_divisor_.m T.common_divisor_.F.kp T.common_divisor_.B .nil (@ay _) (@aa _ _ _ _ _ (@pw _ 0 _ _ (Or.inl pj) (by rfl) (by decide) (by decide)) (@aa _ _ _ _ _ (@pw _ 1 _ _ (Or.inl lh) (by rfl) (by decide) (by decide)) (@ac _) rfl) rfl) (by decide) (by rfl) (by rfl)) (by rfl) (by first | exact .inl rfl | exact .inr rfl | assumption)) (@ae _ _ _ _ _ (@bH _ _ _ _ _ _ _ _ (@aK _ _ _ _ _ _ _ _ (@lG _) (@pw _ 1 _ _ (Or.inl lh) (by rfl) (by decide) (by decide)) (@ad _ _ _ _) (@aG _ _ (by decide) (by decide))) (@ah _ _ _ (@aE _ _ (2) _ _ _ _ mw.nd rfl (Or.inl cW) (@vh _ _ _ _ _ _ (@sq _) (@pw _ 2 _ _ (Or.inl cW) (by rfl) (by decide) (by decide))) (by rfl) (by first | exact .inl rfl | exact .inr rfl | assumption))) (@bd _)) (@ah _ _ _ (@aL _ _ _ _ (@aF _ _ _ _ _ (@aa _ _ _ _ _ (@av _ _ _ _ _ _ _ _ (@wI _) (@pw _ 0 _ _ (Or.inl pj) (by rfl) (by decide) (by decide)) (@pw _ 2 _ _ (Or.inl cW) (by rfl) (by decide) (by decide))) (@aa _ _ _ _ _ (@av _ _ _ _ _ _ _ _ (@wI _) (@pw _ 1 _ _ (Or.inl lh) (by rfl) (by decide) (by decide)) (@pw _ 2 _ _ (Or.inl cW) (by rfl) (by decide) (by decide))) (@ac _) rfl) rfl)))))),?_⟩
  refine ⟨_,rfl,_,rfl,n,d,rfl,_,rfl,_,_,rfl,rfl,_,rfl,?_⟩
  have g0:=KM.gcd_pos (n:=n) hd
  have gs:=GK (n:=n) hd hs
  have kl:=KM.fdiv_low (n:=n) hd
  by_cases h0:d<0
  ·rw [decide_eq_true h0]
   rw [if_pos h0] at kl
   have c1:∀x,yp x (-((Int.gcd n d:Nat):Int)):=fun x=>⟨by trivial,gs.neg⟩
   refine bW ⟨_,rfl,_,rfl,_,rfl,_,rfl,_,_,rfl,rfl,c1 n,_,rfl,_,rfl,_,_,rfl,rfl,c1 d,(by show 2≤10000;decide),fun p H1 nw=>?_⟩
   have q:=k p H1
   rw [←kl] at q
   exact q nw
  ·rw [decide_eq_false h0]
   rw [if_neg h0] at kl
   have c1:∀x,yp x ((Int.gcd n d:Nat):Int):=fun x=>⟨by trivial,gs⟩
   refine bC ⟨_,rfl,_,rfl,_,_,rfl,rfl,c1 n,_,rfl,_,rfl,_,_,rfl,rfl,c1 d,(by show 2≤10000;decide),fun p H1 nw=>?_⟩
   have q:=k p H1
   rw [←kl] at q
   exact q nw
theorem Am (T:Txt K mg):bD P w K mg base CX0 3 T.times_.f T.times_.d ["one", "other"] (CY GY GU):=by
 have G_fraction:=wP (P:=P) (w:=w) (base:=base) T
 refine T.times_.F.ok AL (fun vs H Q E h=>?_) (fun cdv A outer s H vs Q E hr h=>?_)
 ·obtain ⟨a,b,n1,d1,n2,d2,rfl,_⟩:=h
  rfl
 ·obtain ⟨a,b,n1,d1,n2,d2,rfl,ha,hb,⟨z1,z2,z3,z4,hd⟩,k⟩:=h
  refine ⟨_,(@ah _ _ _ (@aL _ _ _ _ (@ai _ _ _ _ _ _ _ _ _ _ _ _ _ _ _ _ G_fraction (hr.mono (by decide)) rY T.fraction_.m T.fraction_.F.kp T.fraction_.B .nil (@ay _) (@aa _ _ _ _ _ (@av _ _ _ _ _ _ _ _ (@fN _) (@aq _ _ _ _ _ _ _ (@aR _ (K) (by rfl)) (@pw _ 0 _ _ (Or.inl qS) (by rfl) (by decide) (by decide)) (@ad _ _ _ _) (fun _ _=>rfl)) (@aq _ _ _ _ _ _ _ (@aR _ (K) (by rfl)) (@pw _ 1 _ _ (Or.inl oK) (by rfl) (by decide) (by decide)) (@ad _ _ _ _) (fun _ _=>rfl))) (@aa _ _ _ _ _ (@av _ _ _ _ _ _ _ _ (@fN _) (@aq _ _ _ _ _ _ _ (@aR _ (K) (by rfl)) (@pw _ 0 _ _ (Or.inl qS) (by rfl) (by decide) (by decide)) (@ad _ _ _ _) (fun _ _=>rfl)) (@aq _ _ _ _ _ _ _ (@aR _ (K) (by rfl)) (@pw _ 1 _ _ (Or.inl oK) (by rfl) (by decide) (by decide)) (@ad _ _ _ _) (fun _ _=>rfl))) (@ac _) rfl) rfl) (by decide) (by rfl) (by rfl)))),?_⟩
  exact ⟨_,rfl,a,_,_,_,rfl,rfl,ap.of ha,rfl,_,rfl,b,_,_,_,rfl,rfl,ap.of hb,rfl,_,_,rfl,rfl,mq z1 z3,
   _,rfl,a,_,_,_,rfl,rfl,ap.of ha,rfl,_,rfl,b,_,_,_,rfl,rfl,ap.of hb,rfl,_,_,rfl,rfl,mq z2 z4,_,_,rfl,hd,xM z2 z4,k⟩
theorem wY (T:Txt K mg):bD P w K mg base CX0 1 T.compared_.f T.compared_.d ["one", "other"] E9:=by
 refine T.compared_.F.ok mf (fun vs H Q E h=>?_) (fun cdv A outer s H vs Q E hr h=>?_)
 ·obtain ⟨a,b,n1,d1,n2,d2,rfl,_⟩:=h
  rfl
 ·obtain ⟨a,b,n1,d1,n2,d2,rfl,ha,hb,z1,z2,z3,z4,k⟩:=h
  refine ⟨_,(@ae _ _ _ _ _ (@aE _ _ (2) _ _ _ _ mf.nd rfl (Or.inl ja) (@av _ _ _ _ _ _ _ _ (@fN _) (@aq _ _ _ _ _ _ _ (@aR _ (K) (by rfl)) (@pw _ 0 _ _ (Or.inl mL) (by rfl) (by decide) (by decide)) (@ad _ _ _ _) (fun _ _=>rfl)) (@aq _ _ _ _ _ _ _ (@aR _ (K) (by rfl)) (@pw _ 1 _ _ (Or.inl kS) (by rfl) (by decide) (by decide)) (@ad _ _ _ _) (fun _ _=>rfl))) (by rfl) (by first | exact .inl rfl | exact .inr rfl | assumption)) (@ae _ _ _ _ _ (@aE _ _ (3) _ _ _ _ mf.nd rfl (Or.inl ip) (@av _ _ _ _ _ _ _ _ (@fN _) (@aq _ _ _ _ _ _ _ (@aR _ (K) (by rfl)) (@pw _ 1 _ _ (Or.inl kS) (by rfl) (by decide) (by decide)) (@ad _ _ _ _) (fun _ _=>rfl)) (@aq _ _ _ _ _ _ _ (@aR _ (K) (by rfl)) (@pw _ 0 _ _ (Or.inl mL) (by rfl) (by decide) (by decide)) (@ad _ _ _ _) (fun _ _=>rfl))) (by rfl) (by first | exact .inl rfl | exact .inr rfl | assumption)) (@ae _ _ _ _ _ (@bH _ _ _ _ _ _ _ _ (@aK _ _ _ _ _ _ _ _ (@lG _) (@pw _ 2 _ _ (Or.inl ja) (by rfl) (by decide) (by decide)) (@pw _ 3 _ _ (Or.inl ip) (by rfl) (by decide) (by decide)) (@aG _ _ (by decide) (by decide))) (@ah _ _ _ (@aL _ _ _ _ (@vh _ _ _ _ _ _ (@sq _) (@ad _ _ _ _)))) (@bd _)) (@ae _ _ _ _ _ (@bH _ _ _ _ _ _ _ _ (@aK _ _ _ _ _ _ _ _ (@jA _) (@pw _ 2 _ _ (Or.inl ja) (by rfl) (by decide) (by decide)) (@pw _ 3 _ _ (Or.inl ip) (by rfl) (by decide) (by decide)) (@aG _ _ (by decide) (by decide))) (@ah _ _ _ (@aL _ _ _ _ (@ad _ _ _ _))) (@bd _)) (@ah _ _ _ (@aL _ _ _ _ (@ad _ _ _ _))))))),?_⟩
  refine ⟨_,rfl,a,_,_,_,rfl,rfl,ap.of ha,rfl,_,rfl,b,_,_,_,rfl,rfl,ap.of hb,rfl,_,_,rfl,rfl,mq z1 z4,_,rfl,b,_,_,_,rfl,rfl,ap.of hb,rfl,_,rfl,a,_,_,_,rfl,rfl,ap.of ha,rfl,_,_,rfl,rfl,mq z3 z2,
   _,rfl,_,rfl,_,_,rfl,rfl,_,rfl,?_⟩
  unfold wH at k
  by_cases h1:n1*d2<n2*d1
  ·rw [decide_eq_true h1]
   rw [if_pos h1] at k
   exact bW ⟨_,rfl,k⟩
  ·rw [decide_eq_false h1]
   rw [if_neg h1] at k
   refine bC ⟨_,rfl,_,rfl,_,_,rfl,rfl,_,rfl,?_⟩
   by_cases h2:n2*d1<n1*d2
   ·rw [decide_eq_true h2]
    rw [if_pos h2] at k
    exact bW k
   ·rw [decide_eq_false h2]
    rw [if_neg h2] at k
    exact bC k
end
end K11
namespace K11
open PySem L2
section
variable {P:Program}{w:World}{K:PySem.W.Frag}{mg:Str→Option Value}{base:Heap}
theorem xy {n d:Int} (hd:d≠0) (h:d.natAbs.log2<9000):yw n ((Int.gcd n d:Nat):Int):=by
 have g0:=KM.gcd_pos (n:=n) hd
 refine ⟨by trivial,?_⟩
 have h1:Int.gcd n d≤d.natAbs:=Nat.le_of_dvd (by trivial) (by
  have:((Int.gcd n d:Nat):Int) ∣ d:=Int.gcd_dvd_right ..
  exact Int.ofNat_dvd_left.mp this)
 have h2:d.natAbs<2 ^ 9000:=(Nat.log2_lt (by trivial)).mp h
 rw [Int.natAbs_natCast]
 exact (Nat.log2_lt (by trivial)).mpr (Nat.lt_of_le_of_lt h1 h2)
inductive B0 (vs:List V) (H:Hp) (Q:VK):Prop
 | mk (n d:Int) (h0:vs=[.int n,.int d]) (h1:0<d) (h2:Sz 9000 d) (h3:∀p H',Nw H p (fr (KM.low n d)) H'→Q (.ref p) H')
def Do:Sp:=fun vs H Q _=>B0  vs H Q
theorem kD (T:Txt K mg):bD P w K mg base CX0 1 T.l_frac_.f T.l_frac_.d ["_law_n", "_law_d"] Do:=by
 refine T.l_frac_.F.ok lI (fun vs H Q E h=>?_) (fun cdv A outer s H vs Q E hr h=>?_)
 ·obtain ⟨n,d,rfl,_⟩:=h
  rfl
 ·obtain ⟨n,d,rfl,hd,hs,k⟩:=h
  have hl:=hs.log (Int.ne_of_gt hd)
  refine ⟨_,(@ae _ _ _ _ _ (@mW _ _ (2) (3) _ _ _ _ _ _ _ _ _ _ _ rfl lI.nd rfl rfl (by decide) cM dN (@aa _ _ _ _ _ (@aB _ _ _ _ _ _ _ _ _ (@lp _) p9 T.b_abs (@iz) (@aa _ _ _ _ _ (@pw _ 0 _ _ (Or.inl pR) (by rfl) (by decide) (by decide)) (@ac _) rfl) (by decide) (by decide) (by rfl) (by rfl)) (@aa _ _ _ _ _ (@aB _ _ _ _ _ _ _ _ _ (@lp _) p9 T.b_abs (@iz) (@aa _ _ _ _ _ (@pw _ 1 _ _ (Or.inl kY) (by rfl) (by decide) (by decide)) (@ac _) rfl) (by decide) (by decide) (by rfl) (by rfl)) (@ac _) rfl) rfl) (by kernel_rfl) (by rfl)) (@ae _ _ _ _ _ (@kM _ _ _ _ _ _ PassesOwn.never (@aK _ _ _ _ _ _ _ _ (@jA _) (@pw _ 3 _ _ (Or.inl dN) (by rfl) (by decide) (by decide)) (@ad _ _ _ _) (@aG _ _ (by decide) (by decide))) (@ah _ _ _ (@mW _ _ (2) (3) _ _ _ _ _ _ _ _ _ _ _ rfl lI.nd rfl rfl (by decide) cM dN (@aa _ _ _ _ _ (@pw _ 3 _ _ (Or.inl dN) (by rfl) (by decide) (by decide)) (@aa _ _ _ _ _ (@av _ _ _ _ _ _ _ _ (@hJ _) (@pw _ 2 _ _ (Or.inl cM) (by rfl) (by decide) (by decide)) (@pw _ 3 _ _ (Or.inl dN) (by rfl) (by decide) (by decide))) (@ac _) rfl) rfl) (by kernel_rfl) (by rfl)))) (@ae _ _ _ _ _ (@aE _ _ (2) _ _ _ _ lI.nd rfl (Or.inl cM) (@av _ _ _ _ _ _ _ _ (@fD _) (@pw _ 2 _ _ (Or.inl cM) (by rfl) (by decide) (by decide)) (@dR _ _ _ _ _ _ _ _ (@aK _ _ _ _ _ _ _ _ (@jA _) (@pw _ 1 _ _ (Or.inl kY) (by rfl) (by decide) (by decide)) (@ad _ _ _ _) (@aG _ _ (by decide) (by decide))) (@ad _ _ _ _) (@vh _ _ _ _ _ _ (@sq _) (@ad _ _ _ _)))) (by rfl) (by first | exact .inl rfl | exact .inr rfl | assumption)) (@ah _ _ _ (@aL _ _ _ _ (@aF _ _ _ _ _ (@aa _ _ _ _ _ (@av _ _ _ _ _ _ _ _ (@wu _) (@pw _ 0 _ _ (Or.inl pR) (by rfl) (by decide) (by decide)) (@pw _ 2 _ _ (Or.inl cM) (by rfl) (by decide) (by decide))) (@aa _ _ _ _ _ (@av _ _ _ _ _ _ _ _ (@wu _) (@pw _ 1 _ _ (Or.inl kY) (by rfl) (by decide) (by decide)) (@pw _ 2 _ _ (Or.inl cM) (by rfl) (by decide) (by decide))) (@ac _) rfl) rfl))))))),?_⟩
  refine ⟨_,rfl,_,rfl,_,rfl,_,rfl,_,_,rfl,?_⟩
  refine ⟨fun m σ H'=>∃a b:Int,σ=[some (.int n),some (.int d),some (.int a),some (.int b)]∧H'=H∧0≤a∧0≤b∧Int.gcd a b=Int.gcd n d∧m=b.natAbs,⟨_,_,_,rfl,rfl,vV n,vV d,KM.gcd_abs n d,rfl⟩,?_⟩
  rintro m σ H' ⟨a,b,rfl,rfl,ha,hb,hg,rfl⟩
  refine ⟨_,rfl,_,_,rfl,rfl,_,rfl,?_⟩
  by_cases hb0:0<b
  ·rw [decide_eq_true hb0]
   refine bW ⟨fun σ' H''=>∃a' b':Int,σ'=[some (.int n),some (.int d),some (.int a'),some (.int b')]∧H''=H'∧0≤a'∧0≤b'∧Int.gcd a' b'=Int.gcd n d∧b'.natAbs<b.natAbs,?_,?_⟩
   ·rintro σ' H'' ⟨a',b',rfl,rfl,h0,h1,h2,h3⟩
    exact ⟨_,h3,a',b',rfl,rfl,h0,h1,h2,rfl⟩
   ·refine ⟨_,rfl,_,rfl,_,rfl,_,_,rfl,rfl,hb0,_,_,rfl,?_⟩
    have q0:=Int.emod_nonneg a (Int.ne_of_gt hb0)
    have q1:=Int.emod_lt_of_pos a hb0
    exact ⟨b,a % b,rfl,rfl,hb,q0,(KM.gcd_emod a b).trans hg,by trivial⟩
  ·have hb1:b=0:=by trivial
   subst hb1
   rw [decide_eq_false hb0]
   refine bC ?_
   have eg:a=((Int.gcd n d:Nat):Int):=by
    rw [←hg,KM.gcd_zero_abs,if_neg (by trivial)]
   have c1:=xy (n:=n) (Int.ne_of_gt hd) hl
   have c2:=xy (n:=d) (d:=d) (Int.ne_of_gt hd) hl
   rw [←eg] at c1
   refine ⟨_,rfl,_,rfl,_,_,rfl,rfl,_,rfl,?_⟩
   rw [decide_eq_true hd]
   refine bW ⟨_,_,rfl,rfl,.inr ⟨by decide,by decide⟩,?_⟩
   show qt 2 (V.int (a*1)) _ _ _
   rw [Int.mul_one]
   refine ⟨_,rfl,_,rfl,_,_,rfl,rfl,c1,_,rfl,_,rfl,_,_,rfl,rfl,⟨c1.1,c1.2⟩,(by show 2≤10000;decide),fun p H2 n2=>k p H2 ?_⟩
   unfold KM.low
   rw [if_pos hd,←eg]
   exact n2
theorem wL (T:Txt K mg):bD P w K mg base CX0 2 T.l_any_gain_.f T.l_any_gain_.d ["_law_box_here"] (Fs 6 1):=by
 have G_l_take:=kC (P:=P) (w:=w) (base:=base) T
 have G_l_frac:=kD (P:=P) (w:=w) (base:=base) T
 refine T.l_any_gain_.F.ok jX (fun vs H Q E h=>?_) (fun cdv A outer s H vs Q E hr h=>?_)
 ·obtain ⟨b,t,rfl,_⟩:=h
  rfl
 ·obtain ⟨b,t,rfl,B,ht0,ht1,k⟩:=h
  refine ⟨_,(@ae _ _ _ _ _ (@aE _ _ (1) _ _ _ _ jX.nd rfl (Or.inl eG) (@ai _ _ _ _ _ _ _ _ _ _ _ _ _ _ _ _ G_l_take (hr.mono (by decide)) fX T.l_take_.m T.l_take_.F.kp T.l_take_.B .nil (@ay _) (@aa _ _ _ _ _ (@pw _ 0 _ _ (Or.inl dY) (by rfl) (by decide) (by decide)) (@aa _ _ _ _ _ (@ad _ _ _ _) (@ac _) rfl) rfl) (by decide) (by rfl) (by rfl)) (by rfl) (by first | exact .inl rfl | exact .inr rfl | assumption)) (@ae _ _ _ _ _ (@bH _ _ _ _ _ _ _ _ (@aK _ _ _ _ _ _ _ _ (@lG _) (@pw _ 1 _ _ (Or.inl eG) (by rfl) (by decide) (by decide)) (@ad _ _ _ _) (@aG _ _ (by decide) (by decide))) (@ah _ _ _ (@aL _ _ _ _ (@aF _ _ _ _ _ (@aa _ _ _ _ _ (@ad _ _ _ _) (@aa _ _ _ _ _ (@ad _ _ _ _) (@ac _) rfl) rfl)))) (@bd _)) (@ae _ _ _ _ _ (@aE _ _ (2) _ _ _ _ jX.nd rfl (Or.inl jG) (@av _ _ _ _ _ _ _ _ (@bK _) (@ad _ _ _ _) (@ai _ _ _ _ _ _ _ _ _ _ _ _ _ _ _ _ G_l_take (hr.mono (by decide)) fX T.l_take_.m T.l_take_.F.kp T.l_take_.B .nil (@ay _) (@aa _ _ _ _ _ (@pw _ 0 _ _ (Or.inl dY) (by rfl) (by decide) (by decide)) (@aa _ _ _ _ _ (@dR _ _ _ _ _ _ _ _ (@aK _ _ _ _ _ _ _ _ (@dE _) (@pw _ 1 _ _ (Or.inl eG) (by rfl) (by decide) (by decide)) (@ad _ _ _ _) (@aG _ _ (by decide) (by decide))) (@ad _ _ _ _) (@ad _ _ _ _)) (@ac _) rfl) rfl) (by decide) (by rfl) (by rfl))) (by rfl) (by first | exact .inl rfl | exact .inr rfl | assumption)) (@ah _ _ _ (@aL _ _ _ _ (@ai _ _ _ _ _ _ _ _ _ _ _ _ _ _ _ _ G_l_frac (hr.mono (by decide)) oS T.l_frac_.m T.l_frac_.F.kp T.l_frac_.B .nil (@ay _) (@aa _ _ _ _ _ (@pw _ 2 _ _ (Or.inl jG) (by rfl) (by decide) (by decide)) (@aa _ _ _ _ _ (@av _ _ _ _ _ _ _ _ (@bK _) (@ad _ _ _ _) (@ai _ _ _ _ _ _ _ _ _ _ _ _ _ _ _ _ G_l_take (hr.mono (by decide)) fX T.l_take_.m T.l_take_.F.kp T.l_take_.B .nil (@ay _) (@aa _ _ _ _ _ (@pw _ 0 _ _ (Or.inl dY) (by rfl) (by decide) (by decide)) (@aa _ _ _ _ _ (@dR _ _ _ _ _ _ _ _ (@aK _ _ _ _ _ _ _ _ (@dE _) (@pw _ 1 _ _ (Or.inl eG) (by rfl) (by decide) (by decide)) (@ad _ _ _ _) (@aG _ _ (by decide) (by decide))) (@ad _ _ _ _) (@ad _ _ _ _)) (@ac _) rfl) rfl) (by decide) (by rfl) (by rfl))) (@ac _) rfl) rfl) (by decide) (by rfl) (by rfl))))))),?_⟩
  refine ⟨_,rfl,b,8,t,rfl,B,by decide,by decide,ht0,by trivial,fun wy t1 H1 w0 w1 h1a h1b s1 B1=>?_⟩
  refine ⟨_,rfl,_,_,rfl,rfl,_,rfl,jk (fun c=>?_) (fun c=>?_)⟩
  ·exact ⟨(by show 2≤10000;decide),fun o H2 n2=>k o _ _ t1 H2 (s1.trans n2.sm.toE) n2.at' (Fb.small (by decide) (by decide) (by decide) (by decide)) (by decide) (B1.same n2.sm) (by trivial) (by trivial)⟩
  have hw:0<(if decide (V.int wy=V.int 7)=true then (60:Int) else 12)∧(if decide (V.int wy=V.int 7)=true then (60:Int) else 12)≤60:=by split <;> decide
  refine ⟨_,rfl,_,rfl,rfl,_,rfl,Gq ?_⟩
  refine ⟨b,_,t1,rfl,B1,hw.1,nq hw.1 (by trivial),by trivial,by trivial,fun r2 t2 H2 a20 a21 _ _ s2 B2=>⟨_,_,rfl,rfl,_,rfl,_,rfl,_,rfl,rfl,_,rfl,Gq ?_⟩⟩
  refine ⟨b,_,t2,rfl,B2,hw.1,nq hw.1 (by trivial),by trivial,by trivial,fun r3 t3 H3 a30 a31 _ _ s3 B3=>⟨_,_,rfl,rfl,?_⟩⟩
  have f:=BR (n:=1+r2) (d:=1+r3) (by trivial) (by trivial) (by trivial) (by trivial)
  exact ⟨_,_,rfl,by trivial,Sz.mono (m:=40) (by show (1+r3).natAbs<1099511627776;trivial) (by decide),fun o H4 n4=>k o _ _ t3 H4 (((s1.trans s2).trans s3).trans n4.sm.toE) n4.at' f.1 f.2 (B3.same n4.sm) (by trivial) (by trivial)⟩
end
end K11
namespace K11
open PySem L2
def oO (d1 d2 k:Nat):List Nat:=if k<8 then nm d1 k else List.replicate (k - 7) d2++[d1]
theorem yT {d1 d2:Nat} (hd:d1≠d2) {n:Nat} (hn:n≤10):((List.range n).map (oO d1 d2)).Nodup:=by
 have all:∀a b:Nat,a<10→b<10→oO d1 d2 a=oO d1 d2 b→a=b:=fun a b ha hb h=>by
  have hl:=congrArg List.length h
  have hh:=congrArg List.head? h
  unfold oO nm at hl hh
  have r:∀m x:Nat,0<m→(List.replicate m x).head?=some x:=fun m x hm=>by
   cases m with
   | zero=>trivial
   | succ m=>rfl
  have r2:∀(m x:Nat) (l:List Nat),0<m→(List.replicate m x++l).head?=some x:=fun m x l hm=>by
   cases m with
   | zero=>trivial
   | succ m=>rfl
  by_cases c1:a<8 <;> by_cases c2:b<8
  ·simp [c1,c2] at hl;exact hl
  ·rw [if_pos c1,if_neg c2,r _ _ (by trivial),r2 _ _ _ (by trivial)] at hh
   exact absurd (Option.some.inj hh) hd
  ·rw [if_neg c1,if_pos c2,r _ _ (by trivial),r2 _ _ _ (by trivial)] at hh
   exact absurd (Option.some.inj hh).symm hd
  ·simp [c1,c2] at hl;trivial
 rw [List.nodup_iff_pairwise_ne,List.pairwise_map]
 refine List.Pairwise.imp_of_mem (fun {a b} ha hb hab z=>?_) (List.nodup_iff_pairwise_ne.mp List.nodup_range)
 exact hab (all a b (by have:=List.mem_range.mp ha;trivial) (by have:=List.mem_range.mp hb;trivial) z)
theorem En {d1 d2 k:Nat} (hk:k<10) (h1:97≤d1) (h2:d1≤122) (h3:97≤d2) (h4:d2≤122):iW (oO d1 d2 k):=by
 unfold oO
 by_cases c:k<8
 ·rw [if_pos c];exact FJ c h1 h2
 ·rw [if_neg c]
  refine ⟨by simp,by simp;trivial,fun x hx=>?_⟩
  rcases List.mem_append.mp hx with q | q
  ·rw [(List.mem_replicate.mp q).2];exact ⟨h3,h4⟩
  ·rw [List.mem_singleton.mp q];exact ⟨h1,h2⟩
section
variable {P:Program}{w:World}{K:PySem.W.Frag}{mg:Str→Option Value}{base:Heap}
inductive zg (vs:List V) (H:Hp) (Q:VK):Prop
 | mk (b:Addr) (many t:Int) (h0:vs=[.ref b,.int many]) (h1:Bx H b t) (h2:0≤t) (h3:t≤900000) (h4:1≤many) (h5:many≤10) (h6:∀q ls t' H',ba (Eb b) H H'→H' q=some (.tup ((ls:List (List Nat)).map aA))→ls.length=many.toNat→ls.Nodup→(∀l∈ls,iW l)→Bx H' b t'→t≤t'→t'≤t+12→Q (.ref q) H')
def Ad:Sp:=fun vs H Q _=>zg  vs H Q
theorem qR (T:Txt K mg):bD P w K mg base CX0 2 T.l_names_by_.f T.l_names_by_.d ["_law_box_here", "_law_many"] Ad:=by
 have G_l_take:=kC (P:=P) (w:=w) (base:=base) T
 refine T.l_names_by_.F.ok dm (fun vs H Q E h=>?_) (fun cdv A outer s H vs Q E hr h=>?_)
 ·obtain ⟨b,many,t,rfl,_⟩:=h
  rfl
 ·obtain ⟨b,many,t,rfl,B,ht0,ht1,hm1,hm2,k⟩:=h
  refine ⟨_,(@ae _ _ _ _ _ (@d9 _ _ _ _ _ _ (@aF _ _ _ _ _ (@aa _ _ _ _ _ (@dP _ _ _ _) (@aa _ _ _ _ _ (@ai _ _ _ _ _ _ _ _ _ _ _ _ _ _ _ _ G_l_take (hr.mono (by decide)) fV T.l_take_.m T.l_take_.F.kp T.l_take_.B .nil (@ay _) (@aa _ _ _ _ _ (@pw _ 0 _ _ (Or.inr (Or.inl dZ)) (by rfl) (by decide) (by decide)) (@aa _ _ _ _ _ (@ad _ _ _ _) (@ac _) rfl) rfl) (by decide) (by rfl) (by rfl)) (@aa _ _ _ _ _ (@ai _ _ _ _ _ _ _ _ _ _ _ _ _ _ _ _ G_l_take (hr.mono (by decide)) fV T.l_take_.m T.l_take_.F.kp T.l_take_.B .nil (@ay _) (@aa _ _ _ _ _ (@pw _ 0 _ _ (Or.inr (Or.inl dZ)) (by rfl) (by decide) (by decide)) (@aa _ _ _ _ _ (@ad _ _ _ _) (@ac _) rfl) rfl) (by decide) (by rfl) (by rfl)) (@ac _) rfl) rfl) rfl)) (@cP _ (K) _ _ _ _ (3) rfl (@aP _ _ _ _ _ (@au _ _ (2) _ dm.nd rfl (Or.inr mm) (by first | exact .inl rfl | exact .inr rfl | assumption)) (@aP _ _ _ _ _ (@au _ _ (3) _ dm.nd rfl (Or.inr iG) (by first | exact .inl rfl | exact .inr rfl | assumption)) (@aP _ _ _ _ _ (@au _ _ (4) _ dm.nd rfl (Or.inl jb) (by first | exact .inl rfl | exact .inr rfl | assumption)) (@cN _) (by rfl)) (by rfl)) (by rfl)) (by rfl) (by rfl) (by rfl)) (by rfl) (by rfl) (by rfl)) (@ae _ _ _ _ _ (@aE _ _ (5) _ _ _ _ dm.nd rfl (Or.inr mM) (@fQ _ (K) _ _ _ _ _ _ _ _ _ _ _ PySem.F.plainAttrs_str PySem.F.slot_str_join PySem.F.type_str_join (@Bu _ (K) (by rfl)) (@dP _ _ _ _) (@aa _ _ _ _ _ (@cO _ _ _ _ _ _ _ (["_law_k", "_law_box_here", "_law_letters"]) (1) ([0,2]) _ _ _ _ rfl (by kernel_rfl) (@dI _ _ _ _ _ _ gC T.b_range (@aa _ _ _ _ _ (@pw _ 4 _ _ (Or.inl jb) (by rfl) (by decide) (by decide)) (@ac _) rfl) (by rfl)) (fun _ _ _ _ _ _=>(@au _ _ (0) _ (@cg _ (by kernel_rfl)) rfl (Or.inl (by kernel_rfl)) (by first | exact .inl rfl | exact .inr rfl | assumption))) (fun _ _ _ _ _ _=>@bX _) (fun _ _ _ _ _ _=>(@aq _ _ _ _ _ _ _ (@vD _) (@pw _ 2 _ _ (Or.inr (Or.inl (by kernel_rfl))) (by rfl) (by decide) (by decide)) (@ai _ _ _ _ _ _ _ _ _ _ _ _ _ _ _ _ G_l_take (hr.mono (by decide)) (by show _=_;kernel_rfl) T.l_take_.m T.l_take_.F.kp T.l_take_.B .nil (@ay _) (@aa _ _ _ _ _ (@pw _ 1 _ _ (Or.inr (Or.inl (by kernel_rfl))) (by rfl) (by decide) (by decide)) (@aa _ _ _ _ _ (@ad _ _ _ _) (@ac _) rfl) rfl) (by decide) (by rfl) (by rfl)) (fun _ _=>rfl))) (by intro _;rfl)) (@ac _) rfl) (by rfl) (by rfl) (by rfl) (by rfl) (by rfl) (by rfl)) (by rfl) (by first | exact .inl rfl | exact .inr rfl | assumption)) (@ae _ _ _ _ _ (@bH _ _ _ _ _ _ _ _ (@aK _ _ _ _ _ _ _ _ (@dE _) (@ai _ _ _ _ _ _ _ _ _ _ _ _ _ _ _ _ G_l_take (hr.mono (by decide)) fV T.l_take_.m T.l_take_.F.kp T.l_take_.B .nil (@ay _) (@aa _ _ _ _ _ (@pw _ 0 _ _ (Or.inr (Or.inl dZ)) (by rfl) (by decide) (by decide)) (@aa _ _ _ _ _ (@ad _ _ _ _) (@ac _) rfl) rfl) (by decide) (by rfl) (by rfl)) (@ad _ _ _ _) (@aG _ _ (by decide) (by decide))) (@ae _ _ _ _ _ (@d9 _ _ _ _ _ _ (@aq _ _ _ _ _ _ _ (@oq _ (K) (by rfl)) (@bO _ _ _ _ (@aa _ _ _ _ _ (@aF _ _ _ _ _ (@aa _ _ _ _ _ (@dP _ _ _ _) (@aa _ _ _ _ _ (@dP _ _ _ _) (@ac _) rfl) rfl)) (@aa _ _ _ _ _ (@aF _ _ _ _ _ (@aa _ _ _ _ _ (@dP _ _ _ _) (@aa _ _ _ _ _ (@dP _ _ _ _) (@ac _) rfl) rfl)) (@ac _) rfl) rfl)) (@de _ _ _ _ _ _ _ _ _ (@uw _) rJ T.b_int (@md) (@aa _ _ _ _ _ (@dj _ _ _ _ _ _ _ _ (@dE _) (@pw _ 3 _ _ (Or.inr (Or.inl iG)) (by rfl) (by decide) (by decide)) (@ad _ _ _ _) (@aG _ _ (by decide) (by decide))) (@ac _) rfl) (by decide) (by decide) (by rfl) (by rfl)) (fun _ _=>rfl)) (@cP _ (K) _ _ _ _ (2) rfl (@aP _ _ _ _ _ (@au _ _ (6) _ dm.nd rfl (Or.inr oW) (by first | exact .inl rfl | exact .inr rfl | assumption)) (@aP _ _ _ _ _ (@au _ _ (7) _ dm.nd rfl (Or.inr oi) (by first | exact .inl rfl | exact .inr rfl | assumption)) (@cN _) (by rfl)) (by rfl)) (by rfl) (by rfl) (by rfl)) (by rfl) (by rfl) (by rfl)) (@ah _ _ _ (@aL _ _ _ _ (@de _ _ _ _ _ _ _ _ _ (@jh _ (K) (by rfl)) jD T.b_tuple (@d7) (@aa _ _ _ _ _ (@cO _ _ _ _ _ _ _ (["_law_k", "_law_other", "_law_sign"]) (1) ([7,6]) _ _ _ _ rfl (by kernel_rfl) (@dI _ _ _ _ _ _ gC T.b_range (@aa _ _ _ _ _ (@pw _ 1 _ _ (Or.inl jf) (by rfl) (by decide) (by decide)) (@ac _) rfl) (by rfl)) (fun _ _ _ _ _ _=>(@au _ _ (0) _ (@cg _ (by kernel_rfl)) rfl (Or.inl (by kernel_rfl)) (by first | exact .inl rfl | exact .inr rfl | assumption))) (fun _ _ _ _ _ _=>@bX _) (fun _ _ _ _ _ _=>(@dR _ _ _ _ _ _ _ _ (@aK _ _ _ _ _ _ _ _ (@lG _) (@pw _ 0 _ _ (Or.inl (by kernel_rfl)) (by rfl) (by decide) (by decide)) (@ad _ _ _ _) (@aG _ _ (by decide) (by decide))) (@av _ _ _ _ _ _ _ _ (@xh _) (@pw _ 2 _ _ (Or.inr (Or.inl (by kernel_rfl))) (by rfl) (by decide) (by decide)) (@av _ _ _ _ _ _ _ _ (@bK _) (@pw _ 0 _ _ (Or.inl (by kernel_rfl)) (by rfl) (by decide) (by decide)) (@ad _ _ _ _))) (@av _ _ _ _ _ _ _ _ (@xc _) (@av _ _ _ _ _ _ _ _ (@xh _) (@pw _ 1 _ _ (Or.inr (Or.inl (by kernel_rfl))) (by rfl) (by decide) (by decide)) (@av _ _ _ _ _ _ _ _ (@jT _) (@pw _ 0 _ _ (Or.inl (by kernel_rfl)) (by rfl) (by decide) (by decide)) (@ad _ _ _ _))) (@pw _ 2 _ _ (Or.inr (Or.inl (by kernel_rfl))) (by rfl) (by decide) (by decide))))) (by intro _;rfl)) (@ac _) rfl) (by decide) (by decide) (by rfl) (by rfl))))) (@bd _)) (@ah _ _ _ (@aL _ _ _ _ (@de _ _ _ _ _ _ _ _ _ (@jh _ (K) (by rfl)) jD T.b_tuple (@d7) (@aa _ _ _ _ _ (@cO _ _ _ _ _ _ _ (["_law_k", "_law_behind", "_law_first", "_law_letters"]) (1) ([5,3,2]) _ _ _ _ rfl (by kernel_rfl) (@dI _ _ _ _ _ _ gC T.b_range (@aa _ _ _ _ _ (@pw _ 1 _ _ (Or.inl jf) (by rfl) (by decide) (by decide)) (@ac _) rfl) (by rfl)) (fun _ _ _ _ _ _=>(@au _ _ (0) _ (@cg _ (by kernel_rfl)) rfl (Or.inl (by kernel_rfl)) (by first | exact .inl rfl | exact .inr rfl | assumption))) (fun _ _ _ _ _ _=>@bX _) (fun _ _ _ _ _ _=>(@av _ _ _ _ _ _ _ _ (@xc _) (@aq _ _ _ _ _ _ _ (@vD _) (@pw _ 3 _ _ (Or.inr (Or.inl (by kernel_rfl))) (by rfl) (by decide) (by decide)) (@av _ _ _ _ _ _ _ _ (@hJ _) (@av _ _ _ _ _ _ _ _ (@bK _) (@pw _ 2 _ _ (Or.inr (Or.inl (by kernel_rfl))) (by rfl) (by decide) (by decide)) (@av _ _ _ _ _ _ _ _ (@fD _) (@ad _ _ _ _) (@pw _ 0 _ _ (Or.inl (by kernel_rfl)) (by rfl) (by decide) (by decide)))) (@ad _ _ _ _)) (fun _ _=>rfl)) (@pw _ 1 _ _ (Or.inr (Or.inl (by kernel_rfl))) (by rfl) (by decide) (by decide)))) (by intro _;rfl)) (@ac _) rfl) (by decide) (by decide) (by rfl) (by rfl))))))),?_⟩
  have hz:(Str.ofString "abcdefghijklmnopqrstuvwxyz").length≤sizeLine:=by decide +kernel
  refine ⟨_,rfl,b,26,t,rfl,B,by decide,by decide,ht0,by trivial,fun f t1 H1 f0 f1 h1a h1b s1 B1=>⟨_,rfl,b,8,t1,rfl,B1,by decide,by decide,by trivial,by trivial,fun r t2 H2 r0 r1 h2a h2b s2 B2=>⟨(by show 3≤10000;decide),fun q H3 n3=>⟨q,_,rfl,ap.of n3.at',rfl,_,_,rfl,_,_,rfl,_,_,rfl,rfl,?_⟩⟩⟩⟩
  have B3:=B2.same n3.sm
  have s03:=(s1.trans s2).trans n3.sm.toE
  refine ⟨rfl,_,rfl,_,rfl,by trivial,by trivial,fun D2 hD2=>dL (n:=r.toNat) (fun i H' ys=>bo fun (cs:List Nat) (t':Int)=>ys=cs.map (fun c=>aA [c])∧H' D2=some (.lst ys)∧cs.length=i∧(∀c∈cs,97≤c∧c≤122)∧Bx H' b t'∧t2≤t'∧t'≤t2+i∧ba (Eb b) H3 H') ?_ ?_ ?_ ?_ ?_ ?_ ?_⟩
  ·rw [sizeLine_eq];trivial
  ·exact ⟨[],t2,rfl,am,rfl,fun c h=>(by cases h),B3.same (ak.new hD2),by trivial,by trivial,(ak.new hD2).toE⟩
  ·rintro i' H'' ys ⟨cs,t7,rfl,e,rfl,_⟩
   exact ⟨e,by simp⟩
  ·intro i' H'' ys hi' _
   exact hi'
  ·intro H'' ys _
   exact Nat.le_refl _
  ·have nD2:¬D2=b:=fun z=>B3.ne hD2 z.symm
   rintro i' Ha ys x Hb hi' ⟨cs,t7,rfl,g1,g2,g3,g4,g5,g6,g7⟩ ⟨rfl,rfl⟩
   refine ⟨fB,_,rfl,_,rfl,b,26,t7,rfl,g4,by decide,by decide,by trivial,by trivial,fun r8 t8 Hc r80 r81 _ _ jc Cc=>⟨_,_,_,rfl,rfl,hz,um (by trivial) (by trivial),?_⟩⟩
   have eD:=jc.old D2 _ nD2 g1
   refine ⟨eD,cs++[97+(r8 % 26).toNat],t8,by rw [List.map_append];rfl,am,by rw [List.length_append,g2];rfl,fun c hc=>?_,?_,by trivial,by trivial,(g7.trans jc).up hD2⟩
   ·rcases List.mem_append.mp hc with h | h
    ·exact g3 c h
    ·rw [List.mem_singleton.mp h];trivial
   ·have c':Ch Hc D2 (cs.map (fun c=>aA [c])++[aA [97+(r8 % 26).toNat]]) _:=Ch.mk'
    exact Cc.ch c' (Ne.symm nD2)
  rintro J4 ys ⟨cs,t7,rfl,g1,g2,g3,C4,g5,g6,j4⟩
  refine ⟨D2,cs.map (fun c=>[c]),?_,rfl,ax.of (by rw [g1,List.map_map];rfl),?_,?_⟩
  ·rw [show (Str.ofString "")=S [] from AU]
  ·rw [List.map_map]
   have:(cs.map ((fun l:List Nat=>l.length) ∘ fun c=>[c])).sum=cs.length:=by
    clear g1 g2 g3 j4
    induction cs with
    | nil=>rfl
    | cons c r ih=>simp at ih ⊢;trivial
   rw [this];trivial
  have fl:(cs.map (fun c=>[c])).flatten=cs:=by
   clear g1 g2 g3 j4
   induction cs with
   | nil=>rfl
   | cons c r ih=>rw [List.map_cons,List.flatten_cons,ih];rfl
  rw [fl]
  have s04:=s03.trans j4
  refine ⟨_,rfl,b,4,t7,rfl,C4,by decide,by decide,by trivial,by trivial,fun r9 t9 H9 r90 r91 _ _ s9 B9=>⟨rfl,_,rfl,?_⟩⟩
  have s09:=s04.trans s9
  refine jk (fun c1=>?_) (fun c1=>?_)
  ·-- rows of one letter
   refine ⟨(by show 2≤10000;decide),fun u1 J1 e1=>⟨(by show 2≤10000;decide),fun u2 J2 e2=>⟨(by show 2≤10000;decide),fun u3 J3 e3=>⟨_,rfl,rfl,.inr ⟨_,rfl,?_⟩⟩⟩⟩⟩
   have ea:Str.ofString "a" = S [97]:=by decide +kernel
   have ez:Str.ofString "z" = S [122]:=by decide +kernel
   generalize decide (V.int f=V.int 25)=cc
   obtain ⟨u,d1,d2,eu,hu,hd⟩:fJ fun u d1 d2=>gW [V.ref u1,V.ref u2] (if cc=true then 1 else 0)=some (.ref u)∧J3 u=some (.tup [aA [d1],aA [d2]])∧97≤d1∧d1≤122∧d1≠d2∧97≤d2∧d2≤122:=by
    cases cc with
    | true=>exact ⟨u2,122,97,rfl,by rw [e3.sm _ _ e2.at',ea,ez],by decide,by decide,by decide,by decide,by decide⟩
    | false=>exact ⟨u1,97,122,rfl,by rw [e3.sm _ _ (e2.sm _ _ e1.at'),ea,ez],by decide,by decide,by decide,by decide,by decide⟩
   refine ⟨u3,_,_,_,rfl,rfl,ax.of e3.at',eu,u,_,rfl,ap.of hu,rfl,_,_,rfl,_,_,rfl,rfl,?_⟩
   have sJ:=((e1.sm.trans e2.sm).trans e3.sm)
   have BJ:=B9.same sJ
   refine ⟨_,rfl,_,rfl,by trivial,by trivial,fun D hD=>dL (n:=many.toNat) (fun i H' ys=>ys=(List.range i).map (fun k=>aA (oO d1 d2 k))∧H' D=some (.lst ys)∧ak J3 H') ?_ ⟨rfl,am,bM hD (ak.refl _)⟩ ?_ ?_ ?_ ?_ ?_⟩
   ·rw [sizeLine_eq];trivial
   ·rintro i H' ys ⟨rfl,e,_⟩
    exact ⟨e,by simp⟩
   ·intro i H' ys hi _
    exact hi
   ·intro H' ys _
    exact Nat.le_refl _
   ·rintro i H' ys x H'' hi ⟨g1,g2,g3⟩ ⟨rfl,rfl⟩
    refine ⟨fB,_,rfl,_,_,rfl,rfl,_,rfl,jk (fun z=>?_) (fun z=>?_)⟩
    ·have hi8 : i < 8 := by have:(0:Int)+(i:Int)<8:=of_decide_eq_true z
                            trivial
     refine ⟨_,rfl,_,rfl,_,_,rfl,rfl,[d1],_,rfl,rfl,by trivial,by trivial,(by show 1≤100;decide),?_⟩
     have en:(List.replicate (0+(i:Int)+1).toNat [d1]).flatten=oO d1 d2 i:=by
      rw [A1]
      unfold oO nm
      rw [if_pos hi8]
      congr 1
      trivial
     rw [en]
     refine ⟨g2,?_,am,bM hD g3⟩
     rw [g1,List.range_succ,List.map_append];rfl
    ·have hi8:¬i<8:=fun q=>z (decide_eq_true (show (0:Int)+(i:Int)<8 by trivial))
     refine ⟨_,rfl,_,rfl,_,_,rfl,rfl,[d2],_,rfl,rfl,by trivial,by trivial,(by show 1≤100;decide),_,rfl,_,_,rfl,rfl,?_,?_⟩
     ·rw [A1,List.length_replicate];simp;trivial
     have en:(List.replicate (0+(i:Int) - 7).toNat [d2]).flatten++[d1]=oO d1 d2 i:=by
      rw [A1]
      unfold oO
      rw [if_neg hi8]
      congr 2
      trivial
     rw [en]
     refine ⟨g2,?_,am,bM hD g3⟩
     rw [g1,List.range_succ,List.map_append];rfl
   rintro H4 ys1 ⟨ey1,eD1,s4⟩
   subst ey1
   refine ⟨D,_,rfl,ax.of eD1,fun q5 H5 n5=>k q5 ((List.range many.toNat).map (oO d1 d2)) t9 H5 (((s09.trans sJ.toE).trans s4.toE).trans n5.sm.toE) ?_ (by simp) (yT hd.2.2.1 (by trivial)) ?_ ((BJ.same s4).same n5.sm) (by trivial) (by trivial)⟩
   ·rw [n5.at',List.map_map];rfl
   ·intro l hl
    obtain ⟨j,hj,rfl⟩:=List.mem_map.mp hl
    exact En (by have:=List.mem_range.mp hj;trivial) hd.1 hd.2.1 hd.2.2.2.1 hd.2.2.2.2
  ·-- letters of eleven steps
   refine ⟨_,rfl,_,rfl,by trivial,by trivial,fun D hD=>dL (n:=many.toNat) (fun i H' ys=>ys=(List.range i).map (fun (k:Nat)=>aA ((97+((f+11*(k:Int)) % 26).toNat) :: cs))∧H' D=some (.lst ys)∧ak H9 H') ?_ ⟨rfl,am,bM hD (ak.refl _)⟩ ?_ ?_ ?_ ?_ ?_⟩
   ·rw [sizeLine_eq];trivial
   ·rintro i H' ys ⟨rfl,e,_⟩
    exact ⟨e,by simp⟩
   ·intro i H' ys hi _
    exact hi
   ·intro H' ys _
    exact Nat.le_refl _
   ·rintro i H' ys x H'' hi ⟨g1',g2',g3'⟩ ⟨rfl,rfl⟩
    refine ⟨fB,_,rfl,_,rfl,_,rfl,_,_,rfl,rfl,.inl ⟨by decide,by decide⟩,_,_,rfl,rfl,_,_,rfl,rfl,(by show (0:Int)<26;decide),_,_,_,rfl,rfl,hz,um (by trivial) (by trivial),_,rfl,[97+(((f+11*(0+(i:Int))) % 26) % 26).toNat],cs,rfl,rfl,?_,?_⟩
    ·simp;trivial
    refine ⟨g2',?_,am,bM hD g3'⟩
    rw [g1',List.range_succ,List.map_append]
    congr 1
    show [aA ([97+(((f+11*(0+(i:Int))) % 26) % 26).toNat]++cs)]=[aA ((97+((f+11*(i:Int)) % 26).toNat) :: cs)]
    have:(((f+11*(0+(i:Int))) % 26) % 26).toNat=((f+11*(i:Int)) % 26).toNat:=by trivial
    rw [this];rfl
   rintro H4 ys1 ⟨ey1,eD1,s4⟩
   subst ey1
   refine ⟨D,_,rfl,ax.of eD1,fun q5 H5 n5=>k q5 ((List.range many.toNat).map (fun (k:Nat)=>(97+((f+11*(k:Int)) % 26).toNat) :: cs)) t9 H5 ((s09.trans s4.toE).trans n5.sm.toE) ?_ (by simp) (wM (f:=f) (by simp;trivial) ?_) ?_ ((B9.same s4).same n5.sm) (by trivial) (by trivial)⟩
   ·rw [n5.at',List.map_map];rfl
   ·intro j l hl
    rw [List.getElem?_map] at hl
    obtain ⟨j',hj',rfl⟩:=Option.map_eq_some_iff.mp hl
    obtain ⟨hlt,ej⟩:=List.getElem?_eq_some_iff.mp hj'
    rw [List.getElem_range] at ej
    subst ej
    rfl
   ·intro l hl
    obtain ⟨j,hj,rfl⟩:=List.mem_map.mp hl
    refine ⟨by simp,by simp;trivial,fun c hc=>?_⟩
    rcases List.mem_cons.mp hc with h | h
    ·rw [h];trivial
    ·exact g3 c h
end
end K11
namespace K11
open PySem L2
section
variable {P:Program}{w:World}{K:PySem.W.Frag}{mg:Str→Option Value}{base:Heap}
inductive Fw (g:KM.Fra→KM.Fra→KM.Fra) (z:Bool) (vs:List V) (H:Hp) (Q:VK):Prop
 | mk (a b:Addr) (p q:KM.Fra) (c1 d1 c2 d2:Nat) (h0:vs=[.ref a,.ref b]) (h1:H a=some (fr p)) (h2:H b=some (fr q)) (h3:Gb c1 d1 p) (h4:Gb c2 d2 q) (h5:c1≤4000) (h6:d1≤4000) (h7:c2≤4000) (h8:d2≤4000) (h9:(z=true→1≤q.1)) (h10:∀o H',Nw H o (fr (g p q)) H'→Q (.ref o) H')
def Ej (g:KM.Fra→KM.Fra→KM.Fra) (z:Bool):Sp:=fun vs H Q _=>Fw g z vs H Q
theorem kJ (T:Txt K mg):bD P w K mg base CX0 2 T.l_product_.f T.l_product_.d ["_law_one", "_law_other"] (Ej KM.lTim false):=by
 have G_l_frac:=kD (P:=P) (w:=w) (base:=base) T
 refine T.l_product_.F.ok vI (fun vs H Q E h=>?_) (fun cdv A outer s H vs Q E hr h=>?_)
 ·obtain ⟨a,b,p,q,c1,d1,c2,d2,rfl,_⟩:=h
  rfl
 ·obtain ⟨a,b,p,q,c1,d1,c2,d2,rfl,ha,hb,fp,fq,h1,h2,h3,h4,_,k⟩:=h
  obtain ⟨z1,z2,z3,z4⟩:Sz 4000 p.1∧Sz 4000 p.2∧Sz 4000 q.1∧Sz 4000 q.2:=⟨fp.n.mono h1,fp.d.mono h2,fq.n.mono h3,fq.d.mono h4⟩
  refine ⟨_,(@ah _ _ _ (@aL _ _ _ _ (@ai _ _ _ _ _ _ _ _ _ _ _ _ _ _ _ _ G_l_frac (hr.mono (by decide)) pK T.l_frac_.m T.l_frac_.F.kp T.l_frac_.B .nil (@ay _) (@aa _ _ _ _ _ (@av _ _ _ _ _ _ _ _ (@fN _) (@aq _ _ _ _ _ _ _ (@aR _ (K) (by rfl)) (@pw _ 0 _ _ (Or.inl kg) (by rfl) (by decide) (by decide)) (@ad _ _ _ _) (fun _ _=>rfl)) (@aq _ _ _ _ _ _ _ (@aR _ (K) (by rfl)) (@pw _ 1 _ _ (Or.inl je) (by rfl) (by decide) (by decide)) (@ad _ _ _ _) (fun _ _=>rfl))) (@aa _ _ _ _ _ (@av _ _ _ _ _ _ _ _ (@fN _) (@aq _ _ _ _ _ _ _ (@aR _ (K) (by rfl)) (@pw _ 0 _ _ (Or.inl kg) (by rfl) (by decide) (by decide)) (@ad _ _ _ _) (fun _ _=>rfl)) (@aq _ _ _ _ _ _ _ (@aR _ (K) (by rfl)) (@pw _ 1 _ _ (Or.inl je) (by rfl) (by decide) (by decide)) (@ad _ _ _ _) (fun _ _=>rfl))) (@ac _) rfl) rfl) (by decide) (by rfl) (by rfl)))),?_⟩
  exact ⟨_,rfl,a,_,_,_,rfl,rfl,ap.of ha,rfl,_,rfl,b,_,_,_,rfl,rfl,ap.of hb,rfl,_,_,rfl,rfl,mq z1 z3,
   _,rfl,a,_,_,_,rfl,rfl,ap.of ha,rfl,_,rfl,b,_,_,_,rfl,rfl,ap.of hb,rfl,_,_,rfl,rfl,mq z2 z4,_,_,rfl,Int.mul_pos (by have:=fp.pos;trivial) (by have:=fq.pos;trivial),xM z2 z4,fun o H' n=>k o H' n⟩
theorem zx (T:Txt K mg):bD P w K mg base CX0 2 T.l_over_.f T.l_over_.d ["_law_one", "_law_other"] (Ej ij true):=by
 have G_l_frac:=kD (P:=P) (w:=w) (base:=base) T
 refine T.l_over_.F.ok zM (fun vs H Q E h=>?_) (fun cdv A outer s H vs Q E hr h=>?_)
 ·obtain ⟨a,b,p,q,c1,d1,c2,d2,rfl,_⟩:=h
  rfl
 ·obtain ⟨a,b,p,q,c1,d1,c2,d2,rfl,ha,hb,fp,fq,h1,h2,h3,h4,hz,k⟩:=h
  have hq:=hz rfl
  obtain ⟨z1,z2,z3,z4⟩:Sz 4000 p.1∧Sz 4000 p.2∧Sz 4000 q.1∧Sz 4000 q.2:=⟨fp.n.mono h1,fp.d.mono h2,fq.n.mono h3,fq.d.mono h4⟩
  refine ⟨_,(@ah _ _ _ (@aL _ _ _ _ (@ai _ _ _ _ _ _ _ _ _ _ _ _ _ _ _ _ G_l_frac (hr.mono (by decide)) sy T.l_frac_.m T.l_frac_.F.kp T.l_frac_.B .nil (@ay _) (@aa _ _ _ _ _ (@av _ _ _ _ _ _ _ _ (@fN _) (@aq _ _ _ _ _ _ _ (@aR _ (K) (by rfl)) (@pw _ 0 _ _ (Or.inl nn) (by rfl) (by decide) (by decide)) (@ad _ _ _ _) (fun _ _=>rfl)) (@aq _ _ _ _ _ _ _ (@aR _ (K) (by rfl)) (@pw _ 1 _ _ (Or.inl kL) (by rfl) (by decide) (by decide)) (@ad _ _ _ _) (fun _ _=>rfl))) (@aa _ _ _ _ _ (@av _ _ _ _ _ _ _ _ (@fN _) (@aq _ _ _ _ _ _ _ (@aR _ (K) (by rfl)) (@pw _ 0 _ _ (Or.inl nn) (by rfl) (by decide) (by decide)) (@ad _ _ _ _) (fun _ _=>rfl)) (@aq _ _ _ _ _ _ _ (@aR _ (K) (by rfl)) (@pw _ 1 _ _ (Or.inl kL) (by rfl) (by decide) (by decide)) (@ad _ _ _ _) (fun _ _=>rfl))) (@ac _) rfl) rfl) (by decide) (by rfl) (by rfl)))),?_⟩
  exact ⟨_,rfl,a,_,_,_,rfl,rfl,ap.of ha,rfl,_,rfl,b,_,_,_,rfl,rfl,ap.of hb,rfl,_,_,rfl,rfl,mq z1 z4,
   _,rfl,a,_,_,_,rfl,rfl,ap.of ha,rfl,_,rfl,b,_,_,_,rfl,rfl,ap.of hb,rfl,_,_,rfl,rfl,mq z2 z3,_,_,rfl,Int.mul_pos (by have:=fp.pos;trivial) (by trivial),xM z2 z3,fun o H' n=>k o H' n⟩
inductive z0 (vs:List V) (H:Hp) (Q:VK):Prop
 | mk (a b:Addr) (p q:KM.Fra) (h0:vs=[.ref a,.ref b]) (h1:H a=some (fr p)) (h2:H b=some (fr q)) (h3:Sz 4000 p.1) (h4:Sz 4000 p.2) (h5:Sz 4000 q.1) (h6:Sz 4000 q.2) (h7:Q (.int (p.1*q.2 - q.1*p.2)) H)
def B8:Sp:=fun vs H Q _=>z0  vs H Q
theorem nV (T:Txt K mg):bD P w K mg base CX0 1 T.l_above_.f T.l_above_.d ["_law_one", "_law_other"] B8:=by
 refine T.l_above_.F.ok x8 (fun vs H Q E h=>?_) (fun cdv A outer s H vs Q E hr h=>?_)
 ·obtain ⟨a,b,p,q,rfl,_⟩:=h
  rfl
 ·obtain ⟨a,b,p,q,rfl,ha,hb,z1,z2,z3,z4,k⟩:=h
  refine ⟨_,(@ah _ _ _ (@aL _ _ _ _ (@av _ _ _ _ _ _ _ _ (@jT _) (@av _ _ _ _ _ _ _ _ (@fN _) (@aq _ _ _ _ _ _ _ (@aR _ (K) (by rfl)) (@pw _ 0 _ _ (Or.inl l7) (by rfl) (by decide) (by decide)) (@ad _ _ _ _) (fun _ _=>rfl)) (@aq _ _ _ _ _ _ _ (@aR _ (K) (by rfl)) (@pw _ 1 _ _ (Or.inl j9) (by rfl) (by decide) (by decide)) (@ad _ _ _ _) (fun _ _=>rfl))) (@av _ _ _ _ _ _ _ _ (@fN _) (@aq _ _ _ _ _ _ _ (@aR _ (K) (by rfl)) (@pw _ 1 _ _ (Or.inl j9) (by rfl) (by decide) (by decide)) (@ad _ _ _ _) (fun _ _=>rfl)) (@aq _ _ _ _ _ _ _ (@aR _ (K) (by rfl)) (@pw _ 0 _ _ (Or.inl l7) (by rfl) (by decide) (by decide)) (@ad _ _ _ _) (fun _ _=>rfl)))))),?_⟩
  exact ⟨_,rfl,a,_,_,_,rfl,rfl,ap.of ha,rfl,_,rfl,b,_,_,_,rfl,rfl,ap.of hb,rfl,_,_,rfl,rfl,mq z1 z4,_,rfl,b,_,_,_,rfl,rfl,ap.of hb,rfl,_,rfl,a,_,_,_,rfl,rfl,ap.of ha,rfl,_,_,rfl,rfl,mq z3 z2,_,_,rfl,rfl,k⟩
end
end K11
namespace K11
open PySem L2
set_option maxHeartbeats 4000000
theorem yA {K:PySem.W.Frag}{a:Addr}{c:Bool}{xs:List V}{g:TG}{tb:TS}{D:df}{σ:St}{H:Hp} (Pv:Nat→St→Hp→Prop) (h0:Pv 0 σ H) (hl:∀i σ H,i≤xs.length→Pv i σ H→kh K H a xs c)
 (hs:∀i x T σ H,xs[i]?=some x→H T=none→Pv i σ H→g (.ref T) σ (aN H T (.tup [.int (i:Int),x])) fun σ2 H2=>tb { D with nx:=Pv (i+1),ct:=Pv (i+1),bk:=D.nx } σ2 H2) (hd:∀σ H,Pv xs.length σ H→D.nx σ H) :
 ∃W:Nat→Nat→St→Hp→Prop,(∃m,W 0 m σ H)∧∀i m σ H,W i m σ H→
  ((wc K a c).stop i H∧D.nx σ H)∨((wc K a c).go i H∧∃N:St→Hp→Prop,(∀σ' H',N σ' H'→∃m',m'<m∧W (i+1) m' σ' H')∧∀x H',(wc K a c).yld i H x H'→g x σ H' fun σ2 H2=>tb { D with nx:=N,ct:=N,bk:=D.nx } σ2 H2):=by
 refine ⟨fun i m σ H=>m=xs.length - i∧i≤xs.length∧Pv i σ H,⟨xs.length,by simp,Nat.zero_le _,h0⟩,?_⟩
 rintro i m σ H ⟨rfl,hi,p⟩
 have q1:=hl i σ H hi p
 by_cases hlt:i<xs.length
 ·refine .inr ⟨⟨xs,xs[i],q1,by simp [hlt]⟩,Pv (i+1),fun σ' H' p'=>⟨xs.length - (i+1),by trivial,rfl,hlt,p'⟩,fun x H' y=>?_⟩
  obtain ⟨T,u,hT,rfl,rfl,e1⟩:=y
  exact hs i u T σ H (e1 xs q1) hT p
 ·have e:i=xs.length:=by trivial
  subst e
  exact .inl ⟨⟨xs,q1,rfl⟩,hd _ _ p⟩
theorem dQ {E:Addr→Prop}{H:Hp}{v:V}{ls:List (List Nat)}{ts:List ag} (h:bc E H v (dM ls ts)):kd fun a p q ys=>v=.ref a∧H a=some (.tup [.ref p,.ref q])∧H p=some (.tup (ls.map aA))∧H q=some (.tup ys)∧aQ E H ys (ts.map lr):=by
 have sall:∀{ls:List (List Nat)}{xs:List V},aQ E H xs (ls.map fun l=>PyData.str (S l))→xs=ls.map aA:=by
  intro ls
  induction ls with
  | nil=>intro xs h;cases h;rfl
  | cons l r ih=>
   intro xs h
   cases h with
   | cons h1 h2=>cases h1;rw [ih h2];rfl
 cases h with
 | @tup a xs _ h r=>
  cases r with
  | cons h1 r=>
  cases r with
  | cons h2 r=>
  cases r
  cases h1 with
  | @tup p ps _ hp rp=>
  cases h2 with
  | @tup q ys _ hq rq=>
   have e:=sall rp
   subst e
   exact ⟨a,p,q,ys,rfl,h,hp,hq,rq⟩
theorem jq {E:Addr→Prop}{H:Hp}{v:V}{t:ag} (h:bc E H v (lr t)):kd fun a om og op=>v=.ref a∧H a=some (.tup [.str (S t.bg),.str (S t.en),.ref om,.ref og,.ref op])∧H om=some (fr t.most)∧H og=some (fr t.gain)∧H op=some (fr t.price):=by
 cases h with
 | @tup a xs _ h r=>
  cases r with
  | @cons u1 _ _ _ h1 r=>
  cases r with
  | @cons u2 _ _ _ h2 r=>
  cases r with
  | @cons u3 _ _ _ h3 r=>
  cases r with
  | @cons u4 _ _ _ h4 r=>
  cases r with
  | @cons u5 _ _ _ h5 r=>
  cases r
  cases h1
  cases h2
  obtain ⟨om,rfl,ho⟩:=qe h3
  obtain ⟨og,rfl,hg⟩:=qe h4
  obtain ⟨op,rfl,hp⟩:=qe h5
  exact ⟨a,om,og,op,rfl,h,ho,hg,hp⟩
theorem rS {H H':Hp}{D:Addr}{ys zs:List V}{ds:List PyData}{v:V}{d:PyData} (c:Ch H D zs H') (hD:H D=some (.lst ys)) (i:aQ ED H ys ds) (iv:bc ED H v d):aQ ED H' (ys++[v]) (ds++[d]):=
 (i.mono ⟨fun _ _ n _=>absurd trivial n,fun _ _ e=>c.tup e hD⟩).append (.cons (iv.tupC c hD) .nil)
theorem vX:Gb 1 1 (1,1):=⟨show (1:Int).natAbs<2 ^ 1 by decide,show (1:Int).natAbs<2 ^ 1 by decide,by decide⟩
structure fe (ls:List (List Nat)) (t:ag):Prop where
 b:t.bg∈ls
 e:t.en∈ls
 ne:t.bg≠t.en
 fm:Gb 20 3 t.most
 fg:Gb 6 6 t.gain
 g1:1≤t.gain.1
 fp:Gb 24 24 t.price
 m0:0≤t.most.1
 mc:Int.gcd t.most.1 t.most.2=1
section
variable {P:Program}{w:World}{K:PySem.W.Frag}{mg:Str→Option Value}{base:Heap}
theorem Gp:Sz 4000 (1:Int):=Sz.mono (m:=1) (show (1:Int).natAbs<2 ^ 1 by decide) (by decide)
theorem gz {a b:Nat}{p:KM.Fra} (h:Gb a b p) (ha:a≤4000) (hb:b≤4000):Sz 4000 p.1∧Sz 4000 p.2:=⟨h.n.mono ha,h.d.mono hb⟩
theorem gd {a b c d:Nat}{p q:KM.Fra} (h:Gb a b p) (k:Gb c d q):p.2*q.2≠0:=Int.mul_ne_zero (by have:=h.pos;trivial) (by have:=k.pos;trivial)
theorem DY {i j:Int}:decide (0<wH i j)=decide (j<i):=by
 unfold wH
 by_cases h:i<j
 ·rw [if_pos h,decide_eq_false (show ¬j<i by trivial)];rfl
 ·rw [if_neg h]
  by_cases h2:j<i
  ·rw [if_pos h2,decide_eq_true h2];rfl
  ·rw [if_neg h2,decide_eq_false h2];rfl
end
end K11
namespace K11
open PySem L2
set_option maxHeartbeats 4000000
section
variable {P:Program}{w:World}{K:PySem.W.Frag}{mg:Str→Option Value}{base:Heap}
end
end K11
namespace K11
open PySem L2
set_option maxHeartbeats 4000000
theorem Hm {a b:List Nat}:pz (V.str (S a)) (V.str (S b))=(a==b):=by
 show (S a==S b)=(a==b)
 by_cases h:a=b
 ·subst h;simp
 ·rw [beq_eq_false_iff_ne.mpr h,beq_eq_false_iff_ne.mpr]
  exact fun z=>h (qh z)
theorem Go (l:List Nat) (es:List (List Nat)):si (aA l) (es.map aA)=es.contains l:=by
 unfold si
 induction es with
 | nil=>rfl
 | cons e r ih=>
  rw [List.map_cons,List.any_cons,ih,List.contains_cons]
  have:pz (aA e) (aA l)=(l==e):=by rw [show pz (aA e) (aA l)=(e==l) from Hm];exact Bool.beq_comm
  rw [this]
theorem A2 (es:List (List Nat)):(es.map aA).all jz=true:=by
 rw [List.all_eq_true]
 intro v hv
 obtain ⟨l,_,rfl⟩:=List.mem_map.mp hv
 rfl
theorem jp {α:Type} [DecidableEq α]:∀{xs ys:List α},xs.Nodup→(∀x∈xs,x∈ys)→xs.length≤ys.length
 | [],_,_,_=>Nat.zero_le _
 | x :: xs,ys,nd,h=>by
  rw [List.nodup_cons] at nd
  have hx:=h x (List.mem_cons_self ..)
  have:=jp (xs:=xs) (ys:=ys.erase x) nd.2 fun y hy=>(List.mem_erase_of_ne (fun (z:y=x)=>nd.1 (z▸hy))).mpr (h y (List.mem_cons_of_mem _ hy))
  rw [List.length_erase_of_mem hx] at this
  have:0<ys.length:=List.length_pos_of_mem hx
  simp
  trivial
section
variable {P:Program}{w:World}{K:PySem.W.Frag}{mg:Str→Option Value}{base:Heap}
end
end K11
namespace K11
open PySem L2
set_option maxHeartbeats 4000000
section
variable {P:Program}{w:World}{K:PySem.W.Frag}{mg:Str→Option Value}{base:Heap}
end
end K11
namespace K11
open PySem L2
set_option maxHeartbeats 4000000
section
variable {P:Program}{w:World}{K:PySem.W.Frag}{mg:Str→Option Value}{base:Heap}
end
end K11
namespace K11
open PySem L2
set_option maxHeartbeats 4000000
theorem vQ {α:Type} (n:Nat) (x:α):(List.replicate n [x]).flatten=List.replicate n x:=by
 induction n with
 | zero=>rfl
 | succ n ih=>rw [List.replicate_succ,List.flatten_cons,ih,List.replicate_succ];rfl
theorem Bq {α:Type}{ls:List α} (nd:ls.Nodup) {i j:Nat}{x:α} (h1:ls[i]?=some x) (h2:ls[j]?=some x):i=j:=by
 obtain ⟨a1,e1⟩:=List.getElem?_eq_some_iff.mp h1
 obtain ⟨a2,e2⟩:=List.getElem?_eq_some_iff.mp h2
 exact jO nd a1 a2 (e1.trans e2.symm)
section
variable {P:Program}{w:World}{K:PySem.W.Frag}{mg:Str→Option Value}{base:Heap}
end
end K11
namespace K11
open PySem L2
set_option maxHeartbeats 4000000
section
variable {P:Program}{w:World}{K:PySem.W.Frag}{mg:Str→Option Value}{base:Heap}
inductive F9 (a b:Nat) (vs:List V) (H:Hp) (Q:VK):Prop
 | mk (bx:Addr) (t:Int) (h0:vs=[.ref bx]) (h1:Bx H bx t) (h2:0≤t) (h3:t≤900000) (h4:∀(o:Addr) (z:KM.Fra) (t':Int) (H':Hp),ba (Eb bx) H H'→H' o=some (fr z)→Gb a b z→0≤z.1→Int.gcd z.1 z.2=1→Bx H' bx t'→t≤t'→t'≤t+2→Q (.ref o) H')
def Ei (a b:Nat):Sp:=fun vs H Q _=>F9 a b vs H Q
theorem yq {a b:Nat}{n d:Int} (h1:n.natAbs<2 ^ a) (h2:d.natAbs<2 ^ b) (h3:1≤d):Gb a b (n,d):=⟨h1,h2,h3⟩
theorem zy {n d:Int} (hd:0<d) (h:0≤n):0≤(KM.low n d).1:=by
 have:=(KM.low_sgn (n:=n) hd).2
 by_cases q:(KM.low n d).1<0
 ·have:=this.mp q;trivial
 ·trivial
theorem u0 (T:Txt K mg):bD P w K mg base CX0 2 T.l_any_much_.f T.l_any_much_.d ["_law_box_here"] (Ei 20 3):=by
 have G_l_take:=kC (P:=P) (w:=w) (base:=base) T
 have G_l_frac:=kD (P:=P) (w:=w) (base:=base) T
 refine T.l_any_much_.F.ok oJ (fun vs H Q E h=>?_) (fun cdv A outer s H vs Q E hr h=>?_)
 ·obtain ⟨b,t,rfl,_⟩:=h
  rfl
 ·obtain ⟨b,t,rfl,B,ht0,ht1,k⟩:=h
  refine ⟨_,(@ae _ _ _ _ _ (@aE _ _ (1) _ _ _ _ oJ.nd rfl (Or.inl eF) (@ai _ _ _ _ _ _ _ _ _ _ _ _ _ _ _ _ G_l_take (hr.mono (by decide)) jg T.l_take_.m T.l_take_.F.kp T.l_take_.B .nil (@ay _) (@aa _ _ _ _ _ (@pw _ 0 _ _ (Or.inl gL) (by rfl) (by decide) (by decide)) (@aa _ _ _ _ _ (@ad _ _ _ _) (@ac _) rfl) rfl) (by decide) (by rfl) (by rfl)) (by rfl) (by first | exact .inl rfl | exact .inr rfl | assumption)) (@ae _ _ _ _ _ (@bH _ _ _ _ _ _ _ _ (@aK _ _ _ _ _ _ _ _ (@dE _) (@pw _ 1 _ _ (Or.inl eF) (by rfl) (by decide) (by decide)) (@ad _ _ _ _) (@aG _ _ (by decide) (by decide))) (@ah _ _ _ (@aL _ _ _ _ (@aF _ _ _ _ _ (@aa _ _ _ _ _ (@ad _ _ _ _) (@aa _ _ _ _ _ (@ad _ _ _ _) (@ac _) rfl) rfl)))) (@bd _)) (@ae _ _ _ _ _ (@bH _ _ _ _ _ _ _ _ (@aK _ _ _ _ _ _ _ _ (@dE _) (@pw _ 1 _ _ (Or.inl eF) (by rfl) (by decide) (by decide)) (@ad _ _ _ _) (@aG _ _ (by decide) (by decide))) (@ah _ _ _ (@aL _ _ _ _ (@aF _ _ _ _ _ (@aa _ _ _ _ _ (@av _ _ _ _ _ _ _ _ (@wB _) (@ad _ _ _ _) (@ad _ _ _ _)) (@aa _ _ _ _ _ (@ad _ _ _ _) (@ac _) rfl) rfl)))) (@bd _)) (@ah _ _ _ (@aL _ _ _ _ (@ai _ _ _ _ _ _ _ _ _ _ _ _ _ _ _ _ G_l_frac (hr.mono (by decide)) o6 T.l_frac_.m T.l_frac_.F.kp T.l_frac_.B .nil (@ay _) (@aa _ _ _ _ _ (@av _ _ _ _ _ _ _ _ (@bK _) (@ad _ _ _ _) (@ai _ _ _ _ _ _ _ _ _ _ _ _ _ _ _ _ G_l_take (hr.mono (by decide)) jg T.l_take_.m T.l_take_.F.kp T.l_take_.B .nil (@ay _) (@aa _ _ _ _ _ (@pw _ 0 _ _ (Or.inl gL) (by rfl) (by decide) (by decide)) (@aa _ _ _ _ _ (@ad _ _ _ _) (@ac _) rfl) rfl) (by decide) (by rfl) (by rfl))) (@aa _ _ _ _ _ (@aq _ _ _ _ _ _ _ (@oq _ (K) (by rfl)) (@bO _ _ _ _ (@aa _ _ _ _ _ (@ad _ _ _ _) (@aa _ _ _ _ _ (@ad _ _ _ _) (@aa _ _ _ _ _ (@ad _ _ _ _) (@aa _ _ _ _ _ (@ad _ _ _ _) (@aa _ _ _ _ _ (@ad _ _ _ _) (@aa _ _ _ _ _ (@ad _ _ _ _) (@ac _) rfl) rfl) rfl) rfl) rfl) rfl)) (@av _ _ _ _ _ _ _ _ (@jT _) (@pw _ 1 _ _ (Or.inl eF) (by rfl) (by decide) (by decide)) (@ad _ _ _ _)) (fun _ _=>rfl)) (@ac _) rfl) rfl) (by decide) (by rfl) (by rfl))))))),?_⟩
  refine ⟨_,rfl,b,8,t,rfl,B,by decide,by decide,ht0,by trivial,fun wy t1 H1 w0 w1 h1a h1b s1 B1=>?_⟩
  refine ⟨_,rfl,rfl,_,rfl,jk (fun c=>?_) (fun c=>?_)⟩
  ·exact ⟨(by show 2≤10000;decide),fun o H2 n2=>k o (0,1) t1 H2 (s1.trans n2.sm.toE) n2.at' (yq (by decide) (by decide) (by decide)) (by decide) (by decide) (B1.same n2.sm) (by trivial) (by trivial)⟩
  refine ⟨_,rfl,rfl,_,rfl,jk (fun c'=>?_) (fun c'=>?_)⟩
  ·have q6:(10:Int) ^ (6:Int).toNat=1000000:=by decide
   refine ⟨_,_,rfl,rfl,⟨by decide,by decide,by decide⟩,(by show 2≤10000;decide),fun o H2 n2=>k o (1000000,1) t1 H2 (s1.trans n2.sm.toE) ?_ (yq (by decide) (by decide) (by decide)) (by decide) (by decide) (B1.same n2.sm) (by trivial) (by trivial)⟩
   rw [n2.at']
   show some (HO.tup [V.int ((10:Int) ^ (6:Int).toNat),V.int 1])=_
   rw [q6]
  have hw:wy≠0:=fun z=>c (by rw [z];decide)
  have hw':wy≠1:=fun z=>c' (by rw [z];decide)
  refine ⟨_,rfl,b,12,t1,rfl,B1,by decide,by decide,by trivial,by trivial,fun r2 t2 H2 a20 a21 _ _ s2 B2=>⟨_,_,rfl,rfl,(by show 6≤10000;decide),fun l5 H5 n5=>?_⟩⟩
  obtain ⟨e,ee,he0,he1⟩:∃e:Int,gW [V.int 1,V.int 1,V.int 1,V.int 2,V.int 3,V.int 7] (wy - 2)=some (V.int e)∧1≤e∧e≤7:=by
   obtain rfl | rfl | rfl | rfl | rfl | rfl:wy=2∨wy=3∨wy=4∨wy=5∨wy=6∨wy=7:=by trivial
   ·exact ⟨1,rfl,by decide,by decide⟩
   ·exact ⟨1,rfl,by decide,by decide⟩
   ·exact ⟨1,rfl,by decide,by decide⟩
   ·exact ⟨2,rfl,by decide,by decide⟩
   ·exact ⟨3,rfl,by decide,by decide⟩
   ·exact ⟨7,rfl,by decide,by decide⟩
  have f:Gb 20 3 (KM.low (1+r2) e):=pW (show (1+r2).natAbs<1048576 by trivial) (show e.natAbs<8 by trivial) (by trivial)
  exact ⟨_,rfl,_,_,rfl,rfl,l5,_,_,_,rfl,rfl,ax.of n5.at',ee,_,_,rfl,by trivial,Sz.mono (m:=40) (by show e.natAbs<1099511627776;trivial) (by decide),fun o H6 n6=>k o _ t2 H6 (((s1.trans s2).trans n5.sm.toE).trans n6.sm.toE) n6.at' f (zy (by trivial) (by trivial)) (KM.low_spec _ _ (by trivial)).2.2.1 ((B2.same n5.sm).same n6.sm) (by trivial) (by trivial)⟩
theorem vp (T:Txt K mg):bD P w K mg base CX0 2 T.l_any_price_.f T.l_any_price_.d ["_law_box_here"] (Ei 24 24):=by
 have G_l_take:=kC (P:=P) (w:=w) (base:=base) T
 have G_l_frac:=kD (P:=P) (w:=w) (base:=base) T
 refine T.l_any_price_.F.ok nh (fun vs H Q E h=>?_) (fun cdv A outer s H vs Q E hr h=>?_)
 ·obtain ⟨b,t,rfl,_⟩:=h
  rfl
 ·obtain ⟨b,t,rfl,B,ht0,ht1,k⟩:=h
  refine ⟨_,(@ae _ _ _ _ _ (@aE _ _ (1) _ _ _ _ nh.nd rfl (Or.inl fS) (@ai _ _ _ _ _ _ _ _ _ _ _ _ _ _ _ _ G_l_take (hr.mono (by decide)) iS T.l_take_.m T.l_take_.F.kp T.l_take_.B .nil (@ay _) (@aa _ _ _ _ _ (@pw _ 0 _ _ (Or.inl gh) (by rfl) (by decide) (by decide)) (@aa _ _ _ _ _ (@ad _ _ _ _) (@ac _) rfl) rfl) (by decide) (by rfl) (by rfl)) (by rfl) (by first | exact .inl rfl | exact .inr rfl | assumption)) (@ah _ _ _ (@aL _ _ _ _ (@dR _ _ _ _ _ _ _ _ (@aK _ _ _ _ _ _ _ _ (@dE _) (@pw _ 1 _ _ (Or.inl fS) (by rfl) (by decide) (by decide)) (@ad _ _ _ _) (@aG _ _ (by decide) (by decide))) (@aF _ _ _ _ _ (@aa _ _ _ _ _ (@ad _ _ _ _) (@aa _ _ _ _ _ (@ad _ _ _ _) (@ac _) rfl) rfl)) (@ai _ _ _ _ _ _ _ _ _ _ _ _ _ _ _ _ G_l_frac (hr.mono (by decide)) oa T.l_frac_.m T.l_frac_.F.kp T.l_frac_.B .nil (@ay _) (@aa _ _ _ _ _ (@ai _ _ _ _ _ _ _ _ _ _ _ _ _ _ _ _ G_l_take (hr.mono (by decide)) iS T.l_take_.m T.l_take_.F.kp T.l_take_.B .nil (@ay _) (@aa _ _ _ _ _ (@pw _ 0 _ _ (Or.inl gh) (by rfl) (by decide) (by decide)) (@aa _ _ _ _ _ (@ad _ _ _ _) (@ac _) rfl) rfl) (by decide) (by rfl) (by rfl)) (@aa _ _ _ _ _ (@aq _ _ _ _ _ _ _ (@oq _ (K) (by rfl)) (@bO _ _ _ _ (@aa _ _ _ _ _ (@ad _ _ _ _) (@aa _ _ _ _ _ (@ad _ _ _ _) (@aa _ _ _ _ _ (@ad _ _ _ _) (@ac _) rfl) rfl) rfl)) (@av _ _ _ _ _ _ _ _ (@jT _) (@pw _ 1 _ _ (Or.inl fS) (by rfl) (by decide) (by decide)) (@ad _ _ _ _)) (fun _ _=>rfl)) (@ac _) rfl) rfl) (by decide) (by rfl) (by rfl)))))),?_⟩
  refine ⟨_,rfl,b,4,t,rfl,B,by decide,by decide,ht0,by trivial,fun wy t1 H1 w0 w1 h1a h1b s1 B1=>?_⟩
  refine ⟨_,rfl,rfl,_,rfl,jk (fun c=>?_) (fun c=>?_)⟩
  ·exact ⟨(by show 2≤10000;decide),fun o H2 n2=>k o (0,1) t1 H2 (s1.trans n2.sm.toE) n2.at' (yq (by decide) (by decide) (by decide)) (by decide) (by decide) (B1.same n2.sm) (by trivial) (by trivial)⟩
  have hw:wy≠0:=fun z=>c (by rw [z];decide)
  refine ⟨_,rfl,b,20,t1,rfl,B1,by decide,by decide,by trivial,by trivial,fun r2 t2 H2 a20 a21 _ _ s2 B2=>⟨(by show 3≤10000;decide),fun l5 H5 n5=>?_⟩⟩
  obtain ⟨e,ee,he0,he1⟩:∃e:Int,gW [V.int 1,V.int 1,V.int 6] (wy - 1)=some (V.int e)∧1≤e∧e≤7:=by
   obtain rfl | rfl | rfl:wy=1∨wy=2∨wy=3:=by trivial
   ·exact ⟨1,rfl,by decide,by decide⟩
   ·exact ⟨1,rfl,by decide,by decide⟩
   ·exact ⟨6,rfl,by decide,by decide⟩
  have f:Gb 24 24 (KM.low r2 e):=pW (show r2.natAbs<16777216 by trivial) (show e.natAbs<16777216 by trivial) (by trivial)
  exact ⟨_,rfl,_,_,rfl,rfl,l5,_,_,_,rfl,rfl,ax.of n5.at',ee,_,_,rfl,by trivial,Sz.mono (m:=40) (by show e.natAbs<1099511627776;trivial) (by decide),fun o H6 n6=>k o _ t2 H6 (((s1.trans s2).trans n5.sm.toE).trans n6.sm.toE) n6.at' f (zy (by trivial) (by trivial)) (KM.low_spec _ _ (by trivial)).2.2.1 ((B2.same n5.sm).same n6.sm) (by trivial) (by trivial)⟩
end
end K11
namespace K11
open PySem L2
set_option maxHeartbeats 4000000
abbrev zU:=List Nat×List Nat×KM.Fra
abbrev ze (x:zU):PyData:=.tuple [.str (S x.1),.str (S x.2.1),gl x.2.2]
structure EM (ls:List (List Nat)) (x:zU):Prop where
 b:x.1∈ls
 e:x.2.1∈ls
 ne:x.1≠x.2.1
 g:Gb 6 6 x.2.2
 g1:1≤x.2.2.1
theorem xU {n d:Int} (hn:1≤n) (hn2:n<64) (hd:1≤d) (hd2:d<64):Gb 6 6 (KM.low n d)∧1≤(KM.low n d).1:=
 ⟨pW (show n.natAbs<64 by trivial) (show d.natAbs<64 by trivial) (by trivial),(KM.low_sgn (by trivial)).1.mpr (by trivial)⟩
theorem zb {E:Addr→Prop}{H:Hp}{α:Type}{f:α→PyData}:∀{vs:List V}{xs:List α},vs.length=xs.length→(∀(i:Nat) v x,vs[i]?=some v→xs[i]?=some x→bc E H v (f x))→aQ E H vs (xs.map f)
 | [],[],_,_=>.nil
 | [],_ :: _,h,_=>by simp at h
 | _ :: _,[],h,_=>by simp at h
 | v :: vs,x :: xs,h,k=>.cons (k 0 v x rfl rfl) (zb (by simpa using h) fun i v' x' h1 h2=>k (i+1) v' x' (by simpa using h1) (by simpa using h2))
theorem Dr {n f i j:Int} (h0:0<n) (hij:i<j) (hn:j - i<n):(f+i) % n≠(f+j) % n:=fun z=>by
 have h1:((f+j) - (f+i)) % n=0:=by
  rw [Int.sub_emod,z,Int.sub_self,Int.zero_emod]
 have h2:(f+j) - (f+i)=j - i:=by trivial
 rw [h2,Int.emod_eq_of_lt (by trivial) hn] at h1
 trivial
section
variable {P:Program}{w:World}{K:PySem.W.Frag}{mg:Str→Option Value}{base:Heap}
inductive Ai (vs:List V) (H:Hp) (Q:VK):Prop
 | mk (b pl:Addr) (ls:List (List Nat)) (t:Int) (h0:vs=[.ref b,.ref pl]) (h1:Bx H b t) (h2:0≤t) (h3:t≤900000) (h4:H pl=some (.tup (ls.map aA))) (h5:2≤ls.length) (h6:ls.length≤10) (h7:ls.Nodup) (h8:∀(L:Addr) (ys:List V) (es:List zU) (t':Int) (H':Hp),ba (Eb b) H H'→H L=none→H' L=some (.lst ys)→aQ ED H' ys (es.map ze)→es.length≤10→(∀x∈es,EM ls x)→Bx H' b t'→t≤t'→t'≤t+5→Q (.ref L) H')
def BU:Sp:=fun vs H Q _=>Ai  vs H Q
theorem x9 (T:Txt K mg):bD P w K mg base CX0 2 T.l_planted_.f T.l_planted_.d ["_law_box_here", "_law_places"] BU:=by
 have G_l_take:=kC (P:=P) (w:=w) (base:=base) T
 have G_l_frac:=kD (P:=P) (w:=w) (base:=base) T
 refine T.l_planted_.F.ok c8 (fun vs H Q E h=>?_) (fun cdv A outer s H vs Q E hr h=>?_)
 ·obtain ⟨b,pl,ls,t,rfl,_⟩:=h
  rfl
 ·obtain ⟨b,pl,ls,t,rfl,B,ht0,ht1,hpl,l2,l10,nd,k⟩:=h
  have es:((ls.map aA).length:Int)=(ls.length:Int):=by rw [List.length_map]
  refine ⟨_,(@ae _ _ _ _ _ (@aE _ _ (2) _ _ _ _ c8.nd rfl (Or.inl gk) (@av _ _ _ _ _ _ _ _ (@bK _) (@ad _ _ _ _) (@ai _ _ _ _ _ _ _ _ _ _ _ _ _ _ _ _ G_l_take (hr.mono (by decide)) cY T.l_take_.m T.l_take_.F.kp T.l_take_.B .nil (@ay _) (@aa _ _ _ _ _ (@pw _ 0 _ _ (Or.inl b9) (by rfl) (by decide) (by decide)) (@aa _ _ _ _ _ (@av _ _ _ _ _ _ _ _ (@jT _) (@aB _ _ _ _ _ _ _ _ _ (@eS _ (K) (by rfl)) lM T.b_len (@bw) (@aa _ _ _ _ _ (@pw _ 1 _ _ (Or.inr (Or.inl iR)) (by rfl) (by decide) (by decide)) (@ac _) rfl) (by decide) (by decide) (by rfl) (by rfl)) (@ad _ _ _ _)) (@ac _) rfl) rfl) (by decide) (by rfl) (by rfl))) (by rfl) (by first | exact .inl rfl | exact .inr rfl | assumption)) (@ae _ _ _ _ _ (@d9 _ _ _ _ _ _ (@aF _ _ _ _ _ (@aa _ _ _ _ _ (@ai _ _ _ _ _ _ _ _ _ _ _ _ _ _ _ _ G_l_take (hr.mono (by decide)) cY T.l_take_.m T.l_take_.F.kp T.l_take_.B .nil (@ay _) (@aa _ _ _ _ _ (@pw _ 0 _ _ (Or.inl b9) (by rfl) (by decide) (by decide)) (@aa _ _ _ _ _ (@aB _ _ _ _ _ _ _ _ _ (@eS _ (K) (by rfl)) lM T.b_len (@bw) (@aa _ _ _ _ _ (@pw _ 1 _ _ (Or.inr (Or.inl iR)) (by rfl) (by decide) (by decide)) (@ac _) rfl) (by decide) (by decide) (by rfl) (by rfl)) (@ac _) rfl) rfl) (by decide) (by rfl) (by rfl)) (@aa _ _ _ _ _ (@av _ _ _ _ _ _ _ _ (@bK _) (@ad _ _ _ _) (@ai _ _ _ _ _ _ _ _ _ _ _ _ _ _ _ _ G_l_take (hr.mono (by decide)) cY T.l_take_.m T.l_take_.F.kp T.l_take_.B .nil (@ay _) (@aa _ _ _ _ _ (@pw _ 0 _ _ (Or.inl b9) (by rfl) (by decide) (by decide)) (@aa _ _ _ _ _ (@ad _ _ _ _) (@ac _) rfl) rfl) (by decide) (by rfl) (by rfl))) (@aa _ _ _ _ _ (@av _ _ _ _ _ _ _ _ (@bK _) (@ad _ _ _ _) (@ai _ _ _ _ _ _ _ _ _ _ _ _ _ _ _ _ G_l_take (hr.mono (by decide)) cY T.l_take_.m T.l_take_.F.kp T.l_take_.B .nil (@ay _) (@aa _ _ _ _ _ (@pw _ 0 _ _ (Or.inl b9) (by rfl) (by decide) (by decide)) (@aa _ _ _ _ _ (@ad _ _ _ _) (@ac _) rfl) rfl) (by decide) (by rfl) (by rfl))) (@ac _) rfl) rfl) rfl)) (@cP _ (K) _ _ _ _ (3) rfl (@aP _ _ _ _ _ (@au _ _ (3) _ c8.nd rfl (Or.inr oU) (by first | exact .inl rfl | exact .inr rfl | assumption)) (@aP _ _ _ _ _ (@au _ _ (4) _ c8.nd rfl (Or.inl i5) (by first | exact .inl rfl | exact .inr rfl | assumption)) (@aP _ _ _ _ _ (@au _ _ (5) _ c8.nd rfl (Or.inl iX) (by first | exact .inl rfl | exact .inr rfl | assumption)) (@cN _) (by rfl)) (by rfl)) (by rfl)) (by rfl) (by rfl) (by rfl)) (by rfl) (by rfl) (by rfl)) (@ae _ _ _ _ _ (@aE _ _ (6) _ _ _ _ c8.nd rfl (Or.inl f9) (@av _ _ _ _ _ _ _ _ (@bK _) (@ad _ _ _ _) (@ai _ _ _ _ _ _ _ _ _ _ _ _ _ _ _ _ G_l_take (hr.mono (by decide)) cY T.l_take_.m T.l_take_.F.kp T.l_take_.B .nil (@ay _) (@aa _ _ _ _ _ (@pw _ 0 _ _ (Or.inl b9) (by rfl) (by decide) (by decide)) (@aa _ _ _ _ _ (@ad _ _ _ _) (@ac _) rfl) rfl) (by decide) (by rfl) (by rfl))) (by rfl) (by first | exact .inl rfl | exact .inr rfl | assumption)) (@ae _ _ _ _ _ (@aE _ _ (7) _ _ _ _ c8.nd rfl (Or.inl jd) (@av _ _ _ _ _ _ _ _ (@kB _) (@bO _ _ _ _ (@aa _ _ _ _ _ (@ai _ _ _ _ _ _ _ _ _ _ _ _ _ _ _ _ G_l_frac (hr.mono (by decide)) jC T.l_frac_.m T.l_frac_.F.kp T.l_frac_.B .nil (@ay _) (@aa _ _ _ _ _ (@pw _ 4 _ _ (Or.inl i5) (by rfl) (by decide) (by decide)) (@aa _ _ _ _ _ (@pw _ 5 _ _ (Or.inl iX) (by rfl) (by decide) (by decide)) (@ac _) rfl) rfl) (by decide) (by rfl) (by rfl)) (@aa _ _ _ _ _ (@ai _ _ _ _ _ _ _ _ _ _ _ _ _ _ _ _ G_l_frac (hr.mono (by decide)) jC T.l_frac_.m T.l_frac_.F.kp T.l_frac_.B .nil (@ay _) (@aa _ _ _ _ _ (@av _ _ _ _ _ _ _ _ (@fD _) (@pw _ 5 _ _ (Or.inl iX) (by rfl) (by decide) (by decide)) (@av _ _ _ _ _ _ _ _ (@bK _) (@pw _ 6 _ _ (Or.inl f9) (by rfl) (by decide) (by decide)) (@ad _ _ _ _))) (@aa _ _ _ _ _ (@av _ _ _ _ _ _ _ _ (@fD _) (@pw _ 4 _ _ (Or.inl i5) (by rfl) (by decide) (by decide)) (@pw _ 6 _ _ (Or.inl f9) (by rfl) (by decide) (by decide))) (@ac _) rfl) rfl) (by decide) (by rfl) (by rfl)) (@ac _) rfl) rfl)) (@av _ _ _ _ _ _ _ _ (@Bv _) (@bO _ _ _ _ (@aa _ _ _ _ _ (@aF _ _ _ _ _ (@aa _ _ _ _ _ (@ad _ _ _ _) (@aa _ _ _ _ _ (@ad _ _ _ _) (@ac _) rfl) rfl)) (@ac _) rfl)) (@av _ _ _ _ _ _ _ _ (@jT _) (@pw _ 2 _ _ (Or.inl gk) (by rfl) (by decide) (by decide)) (@ad _ _ _ _)))) (by rfl) (by first | exact .inl rfl | exact .inr rfl | assumption)) (@ae _ _ _ _ _ (@qQ _ _ _ _ _ _ _ (["_law_k", "_law_first", "_law_places"]) (1) ([3,1]) _ _ _ _ (8) _ _ _ c8.nd rfl dX (by kernel_rfl) rfl (by kernel_rfl) (@dI _ _ _ _ _ _ qE T.b_range (@aa _ _ _ _ _ (@pw _ 2 _ _ (Or.inl gk) (by rfl) (by decide) (by decide)) (@ac _) rfl) (by rfl)) (fun _ _ _ _ _ _=>(@au _ _ (0) _ (@cg _ (by kernel_rfl)) rfl (Or.inl (by kernel_rfl)) (by first | exact .inl rfl | exact .inr rfl | assumption))) (fun _ _ _ _ _ _=>@bX _) (fun _ _ _ _ _ _=>(@aq _ _ _ _ _ _ _ (@aR _ (K) (by rfl)) (@pw _ 2 _ _ (Or.inr (Or.inl (by kernel_rfl))) (by rfl) (by decide) (by decide)) (@av _ _ _ _ _ _ _ _ (@hJ _) (@av _ _ _ _ _ _ _ _ (@bK _) (@pw _ 1 _ _ (Or.inr (Or.inl (by kernel_rfl))) (by rfl) (by decide) (by decide)) (@pw _ 0 _ _ (Or.inl (by kernel_rfl)) (by rfl) (by decide) (by decide))) (@aB _ _ _ _ _ _ _ _ _ (@eS _ (K) (by rfl)) (by show _=_;kernel_rfl) T.b_len (@bw) (@aa _ _ _ _ _ (@pw _ 2 _ _ (Or.inr (Or.inl (by kernel_rfl))) (by rfl) (by decide) (by decide)) (@ac _) rfl) (by decide) (by decide) (by rfl) (by rfl))) (fun _ _=>rfl))) (by intro _;rfl)) (@ah _ _ _ (@aL _ _ _ _ (@zV _ (K) _ _ _ _ _ _ _ _ rfl re T.b_list sP T.b_zip (@aa _ _ _ _ _ (@pw _ 8 _ _ (Or.inl dX) (by rfl) (by decide) (by decide)) (@aa _ _ _ _ _ (@av _ _ _ _ _ _ _ _ (@kB _) (@gv _ _ _ _ _ _ _ _ _ _ (@jo _ (K) (by rfl)) (@pw _ 8 _ _ (Or.inl dX) (by rfl) (by decide) (by decide)) (@gJ _ _ _ (@ad _ _ _ _)) (@jn _)) (@gv _ _ _ _ _ _ _ _ _ _ (@jo _ (K) (by rfl)) (@pw _ 8 _ _ (Or.inl dX) (by rfl) (by decide) (by decide)) (@jn _) (@gJ _ _ _ (@ad _ _ _ _)))) (@aa _ _ _ _ _ (@pw _ 7 _ _ (Or.inl jd) (by rfl) (by decide) (by decide)) (@ac _) rfl) rfl) rfl) (by rfl) (by rfl) (by rfl) (by rfl))))))))),?_⟩
  refine bI fun Q1 nA1=>⟨_,rfl,_,rfl,pl,_,rfl,.inr (ap.of hpl),_,_,rfl,rfl,b,_,t,rfl,B,by trivial,nq (by trivial) (by trivial),by trivial,by trivial,fun r1 t1 H1 r10 r11 h1a h1b s1 B1=>⟨_,_,rfl,rfl,nA1 _ _ ?_⟩⟩
  have hpl1:=s1.tup _ _ hpl
  refine ⟨_,rfl,_,rfl,pl,_,rfl,.inr (ap.of hpl1),b,_,t1,rfl,B1,by trivial,nq (by trivial) (by trivial),by trivial,by trivial,fun f t2 H2 f0 f1 h2a h2b s2 B2=>?_⟩
  refine ⟨_,rfl,b,6,t2,rfl,B2,by decide,by decide,by trivial,by trivial,fun a t3 H3 a0 a1 h3a h3b s3 B3=>⟨_,_,rfl,rfl,?_⟩⟩
  refine ⟨_,rfl,b,6,t3,rfl,B3,by decide,by decide,by trivial,by trivial,fun c t4 H4 c0 c1 h4a h4b s4 B4=>⟨_,_,rfl,rfl,(by show 3≤10000;decide),fun T5 H5 n5=>⟨T5,_,rfl,ap.of n5.at',rfl,_,_,rfl,_,_,rfl,_,_,rfl,rfl,?_⟩⟩⟩
  dsimp only
  refine bI fun Q2 nA2=>⟨_,rfl,b,6,t4,rfl,B4.same n5.sm,by decide,by decide,by trivial,by trivial,fun m t6 H6 m0 m1 h6a h6b s6 B6=>⟨_,_,rfl,rfl,nA2 _ _ ?_⟩⟩
  have s06:ba (Eb b) H H6:=((((s1.trans s2).trans s3).trans s4).trans n5.sm.toE).trans s6
  have q1:1≤(1+a)*(1+m):=by
   have:=Int.mul_le_mul (show (1:Int)≤1+a by trivial) (show (1:Int)≤1+m by trivial) (by decide) (by trivial);trivial
  have q2:(1+a)*(1+m)≤6*6:=Int.mul_le_mul (by trivial) (by trivial) (by trivial) (by decide)
  have q3:1≤(1+c)*(1+m+1):=by
   have:=Int.mul_le_mul (show (1:Int)≤1+c by trivial) (show (1:Int)≤1+m+1 by trivial) (by decide) (by trivial);trivial
  have q4:(1+c)*(1+m+1)≤6*7:=Int.mul_le_mul (by trivial) (by trivial) (by trivial) (by decide)
  have g1:=xU (n:=1+a) (d:=1+c) (by trivial) (by trivial) (by trivial) (by trivial)
  have g2:=xU q3 (by trivial) q1 (by trivial)
  refine bI fun Q3 nA3=>?_
  refine ⟨_,rfl,_,rfl,1+a,1+c,rfl,by trivial,Sz.mono (m:=40) (by show (1+c).natAbs<1099511627776;trivial) (by decide),fun o1 H7 n7=>?_⟩
  refine ⟨_,rfl,_,rfl,_,_,rfl,rfl,_,_,rfl,rfl,.inr ⟨by trivial,by trivial⟩,_,rfl,_,rfl,_,_,rfl,rfl,.inr ⟨by trivial,by trivial⟩,(1+c)*(1+m+1),(1+a)*(1+m),rfl,by trivial,Sz.mono (m:=40) (by show ((1+a)*(1+m)).natAbs<1099511627776;trivial) (by decide),fun o2 H8 n8=>?_⟩
  refine ⟨(by show 2≤10000;decide),fun l9 H9 n9=>⟨(by show 2≤10000;decide),fun o3 H10 n10=>⟨(by show 1≤10000;decide),fun l11 H11 n11=>?_⟩⟩⟩
  refine ⟨_,rfl,_,_,rfl,rfl,l11,_,_,rfl,rfl,n11.at',by trivial,by trivial,by simp;trivial,fun l12 H12 n12=>⟨l9,l12,_,_,rfl,rfl,n12.sm _ _ (n11.sm _ _ (n10.sm _ _ n9.at')),n12.at',?_,fun G H13 n13=>nA3 _ _ ?_⟩⟩
  ·rw [vQ,List.length_replicate];simp;trivial
  obtain ⟨mn,emn,hmn⟩:∃mn:Nat,2+r1=(mn:Int)∧2≤mn∧mn≤ls.length:=⟨(2+r1).toNat,by trivial,by trivial,by trivial⟩
  have s613:ak H6 H13:=((((((n7.sm.trans n8.sm).trans n9.sm).trans n10.sm).trans n11.sm).trans n12.sm).trans n13.sm)
  have hG:H13 G=some (.lst ([.ref o1,.ref o2]++List.replicate (mn - 2) (.ref o3))):=by
   have:=n13.at'
   rw [vQ,show (2+r1 - 2).toNat=mn - 2 by trivial] at this
   exact this
  have ho1:H13 o1=some (fr (KM.low (1+a) (1+c))):=n13.sm _ _ (n12.sm _ _ (n11.sm _ _ (n10.sm _ _ (n9.sm _ _ (n8.sm _ _ n7.at')))))
  have ho2:H13 o2=some (fr (KM.low ((1+c)*(1+m+1)) ((1+a)*(1+m)))):=n13.sm _ _ (n12.sm _ _ (n11.sm _ _ (n10.sm _ _ (n9.sm _ _ n8.at'))))
  have ho3:H13 o3=some (fr (1,1)):=n13.sm _ _ (n12.sm _ _ (n11.sm _ _ n10.at'))
  have hplE:H13 pl=some (.tup (ls.map aA)):=s613 _ _ (s06.tup _ _ hpl)
  have ix:∀i:Nat,∃l,ls[((f+(i:Int)) % (ls.length:Int)).toNat]?=some l∧0≤(f+(i:Int)) % (ls.length:Int)∧((f+(i:Int)) % (ls.length:Int)).toNat<ls.length:=fun i=>by
   have a1:=Int.emod_nonneg (f+(i:Int)) (show (ls.length:Int)≠0 by trivial)
   have a2:=Int.emod_lt_of_pos (f+(i:Int)) (show (0:Int)<ls.length by trivial)
   exact ⟨_,List.getElem?_eq_getElem (by trivial),a1,by trivial⟩
  obtain ⟨sp,hsp⟩:∃sp:Nat→List Nat,∀i:Nat,ls[((f+(i:Int)) % (ls.length:Int)).toNat]?=some (sp i):=⟨fun i=>Classical.choose (ix i),fun i=>(Classical.choose_spec (ix i)).1⟩
  have spm:∀i,sp i∈ls:=fun i=>List.mem_of_getElem? (hsp i)
  have spn:∀i j:Nat,i<j→j<ls.length→sp i≠sp j:=fun i j hij hj z=>by
   have h1:=hsp i
   have h2:=hsp j
   rw [z] at h1
   have:=Bq nd h1 h2
   obtain ⟨_,_,p1,_⟩:=ix i
   obtain ⟨_,_,p2,_⟩:=ix j
   exact Dr (n:=(ls.length:Int)) (f:=f) (i:=i) (j:=j) (by trivial) (by trivial) (by trivial) (by trivial)
  refine bI fun Q4 nA4=>⟨_,rfl,_,rfl,by trivial,by trivial,fun D hD=>?_⟩
  rw [emn,Int.toNat_natCast]
  refine uF (n:=mn) (fun k=>aA (sp k)) (by trivial) hD (fun i H' hi sm=>hi) (fun H' sm=>Nat.le_refl _) ?_ ?_
  ·rintro i x H' H'' R hi sm ⟨rfl,rfl⟩ kk
   have hplX:=sm _ _ hplE
   obtain ⟨_,_,p1,p2⟩:=ix i
   have hat:gW (ls.map aA) ((f+(0+(i:Int))) % ((ls.map aA).length:Int))=some (aA (sp i)):=by
    rw [es,Int.zero_add,tD p1 p2]
    have:=hsp i
    rw [List.getElem?_eq_getElem p2] at this
    rw [Option.some.inj this]
   exact ⟨fB,_,rfl,_,rfl,_,rfl,_,_,rfl,rfl,_,rfl,pl,_,rfl,.inr (ap.of hplX),_,_,rfl,rfl,(by show (0:Int)<((ls.map aA).length:Int);trivial),pl,_,_,_,rfl,rfl,ap.of hplX,hat,kk _ (ak.refl _)⟩
  intro J sJ hDJ
  refine nA4 _ _ ?_
  have ml:((List.range mn).map fun k=>aA (sp k)).length=mn:=by simp
  refine ⟨_,rfl,_,rfl,_,rfl,D,_,rfl,ax.of hDJ,fun p1 J1 j1=>⟨_,rfl,_,rfl,D,_,rfl,ax.of (j1.sm _ _ hDJ),fun p2 J2 j2=>⟨p1,p2,_,_,rfl,rfl,j2.sm _ _ j1.at',j2.at',?_,fun p3 J3 j3=>?_⟩⟩⟩
  ·rw [oG,l8 (by decide),List.length_drop,List.length_take,ml]
   show mn - 1+min 1 mn≤10000
   trivial
  have e3:J3 p3=some (.lst (((List.range mn).map fun k=>aA (sp k)).drop 1++((List.range mn).map fun k=>aA (sp k)).take 1)):=by
   rw [j3.at',oG,l8 (by decide)];rfl
  have sJ3:ak H13 J3:=sJ.trans ((j1.sm.trans j2.sm).trans j3.sm)
  refine ⟨_,rfl,D,p3,G,_,_,_,rfl,ax.of (j3.sm _ _ (j2.sm _ _ (j1.sm _ _ hDJ))),ax.of e3,ax.of (sJ3 _ _ hG),?_,?_,by rw [ml];trivial,fun L ts J4 s4' fL hL lts hts=>?_⟩
  ·rw [List.length_append,List.length_drop,List.length_take,ml];trivial
  ·rw [List.length_append,List.length_replicate,ml];simp;trivial
  rw [ml] at lts
  have s134:=sJ3.trans s4'
  have gz:∀i:Nat,i<mn→∃z:Addr×KM.Fra,([V.ref o1,.ref o2]++List.replicate (mn - 2) (.ref o3))[i]?=some (.ref z.1)∧J4 z.1=some (fr z.2)∧Gb 6 6 z.2∧1≤z.2.1:=fun i hi=>by
   match i,hi with
   | 0,_=>exact ⟨(o1,_),rfl,s134 _ _ ho1,g1.1,g1.2⟩
   | 1,_=>exact ⟨(o2,_),rfl,s134 _ _ ho2,g2.1,g2.2⟩
   | i+2,hi=>
    refine ⟨(o3,(1,1)),?_,s134 _ _ ho3,yq (by decide) (by decide) (by decide),(by show (1:Int)≤1;decide)⟩
    show (List.replicate (mn - 2) (V.ref o3))[i]?=_
    rw [List.getElem?_replicate,if_pos (by trivial)]
  obtain ⟨zl,lzl,hzl⟩:=tH mn gz
  obtain ⟨g,hg⟩:∃g:Nat→KM.Fra,∀i,i<mn→∃o,([V.ref o1,.ref o2]++List.replicate (mn - 2) (.ref o3))[i]?=some (.ref o)∧J4 o=some (fr (g i))∧Gb 6 6 (g i)∧1≤(g i).1:=by
   refine ⟨fun i=>((zl[i]?).map Prod.snd).getD (1,1),fun i hi=>?_⟩
   obtain ⟨z,ez⟩:∃z,zl[i]?=some z:=⟨_,List.getElem?_eq_getElem (by trivial)⟩
   have q:=hzl i z ez
   refine ⟨z.1,q.1,?_⟩
   show J4 z.1=some (fr (((zl[i]?).map Prod.snd).getD (1,1)))∧Gb 6 6 (((zl[i]?).map Prod.snd).getD (1,1))∧1≤(((zl[i]?).map Prod.snd).getD (1,1)).1
   rw [ez]
   exact q.2
  have s6':ba (Eb b) H J4:=s06.trans (s613.trans s134).toE
  refine k L (ts.map V.ref) ((List.range mn).map fun i=>(sp i,(if i+1<mn then sp (i+1) else sp 0),g i)) t6 J4 s6' ?_ hL ?_ (by simp;trivial) ?_ (B6.same (s613.trans s134)) (by trivial) (by trivial)
  ·have:H13 L=none:=sJ3.free fL
   exact s06.free B6 (s613.free this)
  ·refine zb (by simp [lts]) fun i v x hv hx=>?_
   rw [List.getElem?_map] at hv hx
   obtain ⟨tt,ht,rfl⟩:=Option.map_eq_some_iff.mp hv
   obtain ⟨i',hi',rfl⟩:=Option.map_eq_some_iff.mp hx
   obtain ⟨il,e'⟩:=List.getElem?_eq_some_iff.mp hi'
   rw [List.getElem_range] at e'
   subst e'
   rw [List.length_range] at il
   obtain ⟨x,y,z,hx',hy',hz',hT⟩:=hts i tt ht
   obtain ⟨o,ho,ho',_⟩:=hg i il
   rw [ho] at hz'
   cases hz'
   rw [List.getElem?_map,List.getElem?_range il] at hx'
   cases hx'
   have ey:y=aA (if i+1<mn then sp (i+1) else sp 0):=by
    by_cases c1:i+1<mn
    ·rw [List.getElem?_append_left (by rw [List.length_drop,ml];trivial),List.getElem?_drop,List.getElem?_map,show 1+i=i+1 by trivial,List.getElem?_range c1] at hy'
     rw [if_pos c1]
     exact (Option.some.inj hy').symm
    ·rw [List.getElem?_append_right (by rw [List.length_drop,ml];trivial),List.length_drop,ml,show i - (mn - 1)=0 by trivial,List.getElem?_take,if_pos (by decide),List.getElem?_map,List.getElem?_range (by trivial)] at hy'
     rw [if_neg c1]
     exact (Option.some.inj hy').symm
   rw [ey] at hT
   exact .tup hT (.cons (.str _) (.cons (.str _) (.cons (lU ho') .nil)))
  ·intro x hx
   obtain ⟨i,hi,rfl⟩:=List.mem_map.mp hx
   have il:=List.mem_range.mp hi
   obtain ⟨o,_,_,gg,gg1⟩:=hg i il
   refine ⟨spm i,?_,?_,gg,gg1⟩
   ·show (if i+1<mn then sp (i+1) else sp 0)∈ls
    split
    ·exact spm _
    ·exact spm _
   ·show sp i≠(if i+1<mn then sp (i+1) else sp 0)
    split
    ·exact spn i (i+1) (by trivial) (by trivial)
    ·exact fun z=>spn 0 i (by trivial) (by trivial) z.symm
end
end K11
namespace K11
open PySem L2
set_option maxHeartbeats 4000000
theorem sN {ls:List (List Nat)} (h:ls.Nodup):(ls.map fun l=>(Sum.inr (S l):aU)).Nodup:=by
 rw [List.nodup_iff_pairwise_ne,List.pairwise_map]
 refine List.Pairwise.imp (fun {a b} hab z=>?_) (List.nodup_iff_pairwise_ne.mp h)
 injection z with z
 exact hab (qh z)
abbrev WC (z:KM.Fra):Prop:=1≤z.1∧z.1≤3∧1≤z.2∧z.2≤3
theorem Fx {p q z:KM.Fra} (hp:WC p) (hq:WC q) (hz:1≤z.1∧z.1≤5∧1≤z.2∧z.2≤6):Gb 6 6 (KM.lTim (ij p q) z)∧1≤(KM.lTim (ij p q) z).1:=by
 obtain ⟨a1,a2,a3,a4⟩:=hp
 obtain ⟨b1,b2,b3,b4⟩:=hq
 obtain ⟨c1,c2,c3,c4⟩:=hz
 have m1:p.1*q.2≤3*3:=Int.mul_le_mul a2 b4 (by trivial) (by decide)
 have m2:p.2*q.1≤3*3:=Int.mul_le_mul a4 b2 (by trivial) (by decide)
 have p1:0<p.1*q.2:=Int.mul_pos (by trivial) (by trivial)
 have p2:0<p.2*q.1:=Int.mul_pos (by trivial) (by trivial)
 have sp:=KM.low_spec (p.1*q.2) (p.2*q.1) (by trivial)
 have o1:1≤(ij p q).1:=CA a1 a3 b1 b3
 obtain ⟨s1,_,_,s2,s3⟩:=sp
 have o2:(ij p q).1≤9:=by
  have:(ij p q).1.natAbs≤(p.1*q.2).natAbs:=s2
  trivial
 have o3:1≤(ij p q).2:=s1
 have o4:(ij p q).2≤9:=by
  have:(ij p q).2.natAbs≤(p.2*q.1).natAbs:=s3
  trivial
 have n1:(ij p q).1*z.1≤9*5:=Int.mul_le_mul o2 c2 (by trivial) (by decide)
 have n2:(ij p q).2*z.2≤9*6:=Int.mul_le_mul o4 c4 (by trivial) (by decide)
 have n3:0<(ij p q).1*z.1:=Int.mul_pos (by trivial) (by trivial)
 have n4:0<(ij p q).2*z.2:=Int.mul_pos (by trivial) (by trivial)
 exact xU (by trivial) (by trivial) (by trivial) (by trivial)
theorem vj {z:KM.Fra} (h:WC z):Gb 2 2 z:=⟨show z.1.natAbs<4 by have:=h.1;have:=h.2.1;trivial,show z.2.natAbs<4 by have:=h.2.2.1;have:=h.2.2.2;trivial,h.2.2.1⟩
section
variable {P:Program}{w:World}{K:PySem.W.Frag}{mg:Str→Option Value}{base:Heap}
inductive By (vs:List V) (H:Hp) (Q:VK):Prop
 | mk (b:Addr) (mp mt t:Int) (h0:vs=[.ref b,.int mp,.int mt]) (h1:Bx H b t) (h2:0≤t) (h3:t≤800000) (h4:2≤mp) (h5:mp≤10) (h6:1≤mt) (h7:mt≤24) (h8:∀(v:V) (ls:List (List Nat)) (ts:List ag) (t':Int) (H':Hp),ba (Eb b) H H'→bc ED H' v (dM ls ts)→2≤ls.length→ls.length≤10→ls.Nodup→(∀l∈ls,iW l)→1≤ts.length→ts.length≤24→(∀t∈ts,fe ls t)→Bx H' b t'→t≤t'→t'≤t+700→Q v H')
def DT:Sp:=fun vs H Q _=>By  vs H Q
theorem yS (T:Txt K mg):bD P w K mg base CX0 3 T.l_net_by_.f T.l_net_by_.d ["_law_box_here", "_law_most_places", "_law_most_ties"] DT:=by
 have G_l_take:=kC (P:=P) (w:=w) (base:=base) T
 have G_l_names_by:=qR (P:=P) (w:=w) (base:=base) T
 have G_l_planted:=x9 (P:=P) (w:=w) (base:=base) T
 have G_l_any_gain:=wL (P:=P) (w:=w) (base:=base) T
 have G_l_any_much:=u0 (P:=P) (w:=w) (base:=base) T
 have G_l_any_price:=vp (P:=P) (w:=w) (base:=base) T
 have G_l_product:=kJ (P:=P) (w:=w) (base:=base) T
 have G_l_over:=zx (P:=P) (w:=w) (base:=base) T
 refine T.l_net_by_.F.ok bj (fun vs H Q E h=>?_) (fun cdv A outer s H vs Q E hr h=>?_)
 ·obtain ⟨b,mp,mt,t,rfl,_⟩:=h
  rfl
 ·obtain ⟨b,mp,mt,t,rfl,B,ht0,ht1,mp1,mp2,mt1,mt2,k⟩:=h
  refine ⟨_,(@ae _ _ _ _ _ (@mW _ _ (3) (4) _ _ _ _ _ _ _ _ _ _ _ rfl bj.nd rfl rfl (by decide) im gu (@aa _ _ _ _ _ (@ai _ _ _ _ _ _ _ _ _ _ _ _ _ _ _ _ G_l_take (hr.mono (by decide)) bp T.l_take_.m T.l_take_.F.kp T.l_take_.B .nil (@ay _) (@aa _ _ _ _ _ (@pw _ 0 _ _ (Or.inr (Or.inl aD)) (by rfl) (by decide) (by decide)) (@aa _ _ _ _ _ (@ad _ _ _ _) (@ac _) rfl) rfl) (by decide) (by rfl) (by rfl)) (@aa _ _ _ _ _ (@dj _ _ _ _ _ _ _ _ (@dE _) (@ai _ _ _ _ _ _ _ _ _ _ _ _ _ _ _ _ G_l_take (hr.mono (by decide)) bp T.l_take_.m T.l_take_.F.kp T.l_take_.B .nil (@ay _) (@aa _ _ _ _ _ (@pw _ 0 _ _ (Or.inr (Or.inl aD)) (by rfl) (by decide) (by decide)) (@aa _ _ _ _ _ (@ad _ _ _ _) (@ac _) rfl) rfl) (by decide) (by rfl) (by rfl)) (@ad _ _ _ _) (@aG _ _ (by decide) (by decide))) (@ac _) rfl) rfl) (by kernel_rfl) (by rfl)) (@ae _ _ _ _ _ (@aE _ _ (5) _ _ _ _ bj.nd rfl (Or.inl bv) (@ai _ _ _ _ _ _ _ _ _ _ _ _ _ _ _ _ G_l_names_by (hr.mono (by decide)) mY T.l_names_by_.m T.l_names_by_.F.kp T.l_names_by_.B .nil (@ay _) (@aa _ _ _ _ _ (@pw _ 0 _ _ (Or.inr (Or.inl aD)) (by rfl) (by decide) (by decide)) (@aa _ _ _ _ _ (@dR _ _ _ _ _ _ _ _ (@dn _ _ _ (@pw _ 4 _ _ (Or.inl gu) (by rfl) (by decide) (by decide)) (by intro _;rfl)) (@av _ _ _ _ _ _ _ _ (@bK _) (@ad _ _ _ _) (@ai _ _ _ _ _ _ _ _ _ _ _ _ _ _ _ _ G_l_take (hr.mono (by decide)) bp T.l_take_.m T.l_take_.F.kp T.l_take_.B .nil (@ay _) (@aa _ _ _ _ _ (@pw _ 0 _ _ (Or.inr (Or.inl aD)) (by rfl) (by decide) (by decide)) (@aa _ _ _ _ _ (@ad _ _ _ _) (@ac _) rfl) rfl) (by decide) (by rfl) (by rfl))) (@av _ _ _ _ _ _ _ _ (@bK _) (@ad _ _ _ _) (@ai _ _ _ _ _ _ _ _ _ _ _ _ _ _ _ _ G_l_take (hr.mono (by decide)) bp T.l_take_.m T.l_take_.F.kp T.l_take_.B .nil (@ay _) (@aa _ _ _ _ _ (@pw _ 0 _ _ (Or.inr (Or.inl aD)) (by rfl) (by decide) (by decide)) (@aa _ _ _ _ _ (@av _ _ _ _ _ _ _ _ (@jT _) (@pw _ 1 _ _ (Or.inl kG) (by rfl) (by decide) (by decide)) (@ad _ _ _ _)) (@ac _) rfl) rfl) (by decide) (by rfl) (by rfl)))) (@ac _) rfl) rfl) (by decide) (by rfl) (by rfl)) (by rfl) (by first | exact .inl rfl | exact .inr rfl | assumption)) (@ae _ _ _ _ _ (@aE _ _ (6) _ _ _ _ bj.nd rfl (Or.inl j6) (@dR _ _ _ _ _ _ _ _ (@dn _ _ _ (@pw _ 4 _ _ (Or.inl gu) (by rfl) (by decide) (by decide)) (by intro _;rfl)) (@av _ _ _ _ _ _ _ _ (@bK _) (@ad _ _ _ _) (@ai _ _ _ _ _ _ _ _ _ _ _ _ _ _ _ _ G_l_take (hr.mono (by decide)) bp T.l_take_.m T.l_take_.F.kp T.l_take_.B .nil (@ay _) (@aa _ _ _ _ _ (@pw _ 0 _ _ (Or.inr (Or.inl aD)) (by rfl) (by decide) (by decide)) (@aa _ _ _ _ _ (@ad _ _ _ _) (@ac _) rfl) rfl) (by decide) (by rfl) (by rfl))) (@av _ _ _ _ _ _ _ _ (@bK _) (@ad _ _ _ _) (@ai _ _ _ _ _ _ _ _ _ _ _ _ _ _ _ _ G_l_take (hr.mono (by decide)) bp T.l_take_.m T.l_take_.F.kp T.l_take_.B .nil (@ay _) (@aa _ _ _ _ _ (@pw _ 0 _ _ (Or.inr (Or.inl aD)) (by rfl) (by decide) (by decide)) (@aa _ _ _ _ _ (@pw _ 2 _ _ (Or.inl mh) (by rfl) (by decide) (by decide)) (@ac _) rfl) rfl) (by decide) (by rfl) (by rfl)))) (by rfl) (by first | exact .inl rfl | exact .inr rfl | assumption)) (@ae _ _ _ _ _ (@aE _ _ (7) _ _ _ _ bj.nd rfl (Or.inr qM) (@bO _ _ _ _ (@aa _ _ _ _ _ (@aF _ _ _ _ _ (@aa _ _ _ _ _ (@ad _ _ _ _) (@aa _ _ _ _ _ (@ad _ _ _ _) (@ac _) rfl) rfl)) (@aa _ _ _ _ _ (@aF _ _ _ _ _ (@aa _ _ _ _ _ (@ad _ _ _ _) (@aa _ _ _ _ _ (@ad _ _ _ _) (@ac _) rfl) rfl)) (@aa _ _ _ _ _ (@aF _ _ _ _ _ (@aa _ _ _ _ _ (@ad _ _ _ _) (@aa _ _ _ _ _ (@ad _ _ _ _) (@ac _) rfl) rfl)) (@aa _ _ _ _ _ (@aF _ _ _ _ _ (@aa _ _ _ _ _ (@ad _ _ _ _) (@aa _ _ _ _ _ (@ad _ _ _ _) (@ac _) rfl) rfl)) (@aa _ _ _ _ _ (@aF _ _ _ _ _ (@aa _ _ _ _ _ (@ad _ _ _ _) (@aa _ _ _ _ _ (@ad _ _ _ _) (@ac _) rfl) rfl)) (@aa _ _ _ _ _ (@aF _ _ _ _ _ (@aa _ _ _ _ _ (@ad _ _ _ _) (@aa _ _ _ _ _ (@ad _ _ _ _) (@ac _) rfl) rfl)) (@aa _ _ _ _ _ (@aF _ _ _ _ _ (@aa _ _ _ _ _ (@ad _ _ _ _) (@aa _ _ _ _ _ (@ad _ _ _ _) (@ac _) rfl) rfl)) (@ac _) rfl) rfl) rfl) rfl) rfl) rfl) rfl)) (by rfl) (by first | exact .inl rfl | exact .inr rfl | assumption)) (@ae _ _ _ _ _ (@aE _ _ (8) _ _ _ _ bj.nd rfl (Or.inl fR) (@de _ _ _ _ _ _ _ _ _ (@sf _ rfl) sD T.b_dict (@pi) (@aa _ _ _ _ _ (@cO _ _ _ _ _ _ _ (["_law_place", "_law_box_here", "_law_some"]) (1) ([0,7]) _ _ _ _ rfl (by kernel_rfl) (@iq _ (K) _ _ _ (@pw _ 5 _ _ (Or.inl bv) (by rfl) (by decide) (by decide)) (by rfl)) (fun _ _ _ _ _ _=>(@au _ _ (0) _ (@cg _ (by kernel_rfl)) rfl (Or.inl (by kernel_rfl)) (by first | exact .inl rfl | exact .inr rfl | assumption))) (fun _ _ _ _ _ _=>@bX _) (fun _ _ _ _ _ _=>(@aF _ _ _ _ _ (@aa _ _ _ _ _ (@pw _ 0 _ _ (Or.inl (by kernel_rfl)) (by rfl) (by decide) (by decide)) (@aa _ _ _ _ _ (@aq _ _ _ _ _ _ _ (@oq _ (K) (by rfl)) (@pw _ 2 _ _ (Or.inr (Or.inl (by kernel_rfl))) (by rfl) (by decide) (by decide)) (@ai _ _ _ _ _ _ _ _ _ _ _ _ _ _ _ _ G_l_take (hr.mono (by decide)) (by show _=_;kernel_rfl) T.l_take_.m T.l_take_.F.kp T.l_take_.B .nil (@ay _) (@aa _ _ _ _ _ (@pw _ 1 _ _ (Or.inr (Or.inl (by kernel_rfl))) (by rfl) (by decide) (by decide)) (@aa _ _ _ _ _ (@ad _ _ _ _) (@ac _) rfl) rfl) (by decide) (by rfl) (by rfl)) (fun _ _=>rfl)) (@ac _) rfl) rfl))) (by intro _;rfl)) (@ac _) rfl) (by decide) (by decide) (by rfl) (by rfl)) (by rfl) (by first | exact .inl rfl | exact .inr rfl | assumption)) (@ae _ _ _ _ _ (@aE _ _ (9) _ _ _ _ bj.nd rfl (Or.inl eV) (@dR _ _ _ _ _ _ _ _ (@aK _ _ _ _ _ _ _ _ (@dE _) (@pw _ 3 _ _ (Or.inl im) (by rfl) (by decide) (by decide)) (@ad _ _ _ _) (@aG _ _ (by decide) (by decide))) (@ai _ _ _ _ _ _ _ _ _ _ _ _ _ _ _ _ G_l_planted (hr.mono (by decide)) nO T.l_planted_.m T.l_planted_.F.kp T.l_planted_.B .nil (@ay _) (@aa _ _ _ _ _ (@pw _ 0 _ _ (Or.inr (Or.inl aD)) (by rfl) (by decide) (by decide)) (@aa _ _ _ _ _ (@pw _ 5 _ _ (Or.inl bv) (by rfl) (by decide) (by decide)) (@ac _) rfl) rfl) (by decide) (by rfl) (by rfl)) (@bO _ _ _ _ (@ac _))) (by rfl) (by first | exact .inl rfl | exact .inr rfl | assumption)) (@ae _ _ _ _ _ (@e8 _ _ _ _ _ _ _ _ PassesOwn.never rfl (@dI _ _ _ _ _ _ qX T.b_range (@aa _ _ _ _ _ (@pw _ 6 _ _ (Or.inl j6) (by rfl) (by decide) (by decide)) (@ac _) rfl) (by rfl)) (@au _ _ (10) _ bj.nd rfl (Or.inl qI) (by first | exact .inl rfl | exact .inr rfl | assumption)) (@ae _ _ _ _ _ (@aE _ _ (11) _ _ _ _ bj.nd rfl (Or.inl iJ) (@ai _ _ _ _ _ _ _ _ _ _ _ _ _ _ _ _ G_l_take (hr.mono (by decide)) bp T.l_take_.m T.l_take_.F.kp T.l_take_.B .nil (@ay _) (@aa _ _ _ _ _ (@pw _ 0 _ _ (Or.inr (Or.inl aD)) (by rfl) (by decide) (by decide)) (@aa _ _ _ _ _ (@aB _ _ _ _ _ _ _ _ _ (@eS _ (K) (by rfl)) eZ T.b_len (@bw) (@aa _ _ _ _ _ (@pw _ 5 _ _ (Or.inl bv) (by rfl) (by decide) (by decide)) (@ac _) rfl) (by decide) (by decide) (by rfl) (by rfl)) (@ac _) rfl) rfl) (by decide) (by rfl) (by rfl)) (by rfl) (by first | exact .inl rfl | exact .inr rfl | assumption)) (@ae _ _ _ _ _ (@mW _ _ (12) (13) _ _ _ _ _ _ _ _ _ _ _ rfl bj.nd rfl rfl (by decide) dc dO (@aa _ _ _ _ _ (@aq _ _ _ _ _ _ _ (@aR _ (K) (by rfl)) (@pw _ 5 _ _ (Or.inl bv) (by rfl) (by decide) (by decide)) (@pw _ 11 _ _ (Or.inl iJ) (by rfl) (by decide) (by decide)) (fun _ _=>rfl)) (@aa _ _ _ _ _ (@aq _ _ _ _ _ _ _ (@aR _ (K) (by rfl)) (@pw _ 5 _ _ (Or.inl bv) (by rfl) (by decide) (by decide)) (@av _ _ _ _ _ _ _ _ (@hJ _) (@av _ _ _ _ _ _ _ _ (@bK _) (@av _ _ _ _ _ _ _ _ (@bK _) (@pw _ 11 _ _ (Or.inl iJ) (by rfl) (by decide) (by decide)) (@ad _ _ _ _)) (@ai _ _ _ _ _ _ _ _ _ _ _ _ _ _ _ _ G_l_take (hr.mono (by decide)) bp T.l_take_.m T.l_take_.F.kp T.l_take_.B .nil (@ay _) (@aa _ _ _ _ _ (@pw _ 0 _ _ (Or.inr (Or.inl aD)) (by rfl) (by decide) (by decide)) (@aa _ _ _ _ _ (@av _ _ _ _ _ _ _ _ (@jT _) (@aB _ _ _ _ _ _ _ _ _ (@eS _ (K) (by rfl)) eZ T.b_len (@bw) (@aa _ _ _ _ _ (@pw _ 5 _ _ (Or.inl bv) (by rfl) (by decide) (by decide)) (@ac _) rfl) (by decide) (by decide) (by rfl) (by rfl)) (@ad _ _ _ _)) (@ac _) rfl) rfl) (by decide) (by rfl) (by rfl))) (@aB _ _ _ _ _ _ _ _ _ (@eS _ (K) (by rfl)) eZ T.b_len (@bw) (@aa _ _ _ _ _ (@pw _ 5 _ _ (Or.inl bv) (by rfl) (by decide) (by decide)) (@ac _) rfl) (by decide) (by decide) (by rfl) (by rfl))) (fun _ _=>rfl)) (@ac _) rfl) rfl) (by kernel_rfl) (by rfl)) (@ae _ _ _ _ _ (@aE _ _ (14) _ _ _ _ bj.nd rfl (Or.inl dq) (@ai _ _ _ _ _ _ _ _ _ _ _ _ _ _ _ _ G_l_any_gain (hr.mono (by decide)) mR T.l_any_gain_.m T.l_any_gain_.F.kp T.l_any_gain_.B .nil (@ay _) (@aa _ _ _ _ _ (@pw _ 0 _ _ (Or.inr (Or.inl aD)) (by rfl) (by decide) (by decide)) (@ac _) rfl) (by decide) (by rfl) (by rfl)) (by rfl) (by first | exact .inl rfl | exact .inr rfl | assumption)) (@ae _ _ _ _ _ (@bH _ _ _ _ _ _ _ _ (@aK _ _ _ _ _ _ _ _ (@lG _) (@pw _ 3 _ _ (Or.inl im) (by rfl) (by decide) (by decide)) (@ad _ _ _ _) (@aG _ _ (by decide) (by decide))) (@ae _ _ _ _ _ (@aE _ _ (15) _ _ _ _ bj.nd rfl (Or.inl j8) (@aq _ _ _ _ _ _ _ (@oq _ (K) (by rfl)) (@bO _ _ _ _ (@aa _ _ _ _ _ (@aF _ _ _ _ _ (@aa _ _ _ _ _ (@ad _ _ _ _) (@aa _ _ _ _ _ (@ad _ _ _ _) (@ac _) rfl) rfl)) (@aa _ _ _ _ _ (@aF _ _ _ _ _ (@aa _ _ _ _ _ (@ad _ _ _ _) (@aa _ _ _ _ _ (@ad _ _ _ _) (@ac _) rfl) rfl)) (@aa _ _ _ _ _ (@aF _ _ _ _ _ (@aa _ _ _ _ _ (@ad _ _ _ _) (@aa _ _ _ _ _ (@ad _ _ _ _) (@ac _) rfl) rfl)) (@aa _ _ _ _ _ (@aF _ _ _ _ _ (@aa _ _ _ _ _ (@ad _ _ _ _) (@aa _ _ _ _ _ (@ad _ _ _ _) (@ac _) rfl) rfl)) (@ac _) rfl) rfl) rfl) rfl)) (@ai _ _ _ _ _ _ _ _ _ _ _ _ _ _ _ _ G_l_take (hr.mono (by decide)) bp T.l_take_.m T.l_take_.F.kp T.l_take_.B .nil (@ay _) (@aa _ _ _ _ _ (@pw _ 0 _ _ (Or.inr (Or.inl aD)) (by rfl) (by decide) (by decide)) (@aa _ _ _ _ _ (@ad _ _ _ _) (@ac _) rfl) rfl) (by decide) (by rfl) (by rfl)) (fun _ _=>rfl)) (by rfl) (by first | exact .inl rfl | exact .inr rfl | assumption)) (@ah _ _ _ (@aE _ _ (14) _ _ _ _ bj.nd rfl (Or.inl dq) (@ai _ _ _ _ _ _ _ _ _ _ _ _ _ _ _ _ G_l_product (hr.mono (by decide)) nS T.l_product_.m T.l_product_.F.kp T.l_product_.B .nil (@ay _) (@aa _ _ _ _ _ (@ai _ _ _ _ _ _ _ _ _ _ _ _ _ _ _ _ G_l_over (hr.mono (by decide)) qA T.l_over_.m T.l_over_.F.kp T.l_over_.B .nil (@ay _) (@aa _ _ _ _ _ (@aq _ _ _ _ _ _ _ (@fK _) (@pw _ 8 _ _ (Or.inl fR) (by rfl) (by decide) (by decide)) (@pw _ 12 _ _ (Or.inl dc) (by rfl) (by decide) (by decide)) (fun _ _=>rfl)) (@aa _ _ _ _ _ (@aq _ _ _ _ _ _ _ (@fK _) (@pw _ 8 _ _ (Or.inl fR) (by rfl) (by decide) (by decide)) (@pw _ 13 _ _ (Or.inl dO) (by rfl) (by decide) (by decide)) (fun _ _=>rfl)) (@ac _) rfl) rfl) (by decide) (by rfl) (by rfl)) (@aa _ _ _ _ _ (@pw _ 15 _ _ (Or.inl j8) (by rfl) (by decide) (by decide)) (@ac _) rfl) rfl) (by decide) (by rfl) (by rfl)) (by rfl) (by first | exact .inl rfl | exact .inr rfl | assumption)))) (@bd _)) (@ah _ _ _ (@fM _ _ _ _ (@fQ _ (K) _ _ _ _ _ _ _ _ _ _ _ PySem.F.plainAttrs_list PySem.F.slot_list_insert PySem.F.type_list_insert (@xR _) (@pw _ 9 _ _ (Or.inl eV) (by rfl) (by decide) (by decide)) (@aa _ _ _ _ _ (@ai _ _ _ _ _ _ _ _ _ _ _ _ _ _ _ _ G_l_take (hr.mono (by decide)) bp T.l_take_.m T.l_take_.F.kp T.l_take_.B .nil (@ay _) (@aa _ _ _ _ _ (@pw _ 0 _ _ (Or.inr (Or.inl aD)) (by rfl) (by decide) (by decide)) (@aa _ _ _ _ _ (@av _ _ _ _ _ _ _ _ (@bK _) (@aB _ _ _ _ _ _ _ _ _ (@eS _ (K) (by rfl)) eZ T.b_len (@bw) (@aa _ _ _ _ _ (@pw _ 9 _ _ (Or.inl eV) (by rfl) (by decide) (by decide)) (@ac _) rfl) (by decide) (by decide) (by rfl) (by rfl)) (@ad _ _ _ _)) (@ac _) rfl) rfl) (by decide) (by rfl) (by rfl)) (@aa _ _ _ _ _ (@aF _ _ _ _ _ (@aa _ _ _ _ _ (@pw _ 12 _ _ (Or.inl dc) (by rfl) (by decide) (by decide)) (@aa _ _ _ _ _ (@pw _ 13 _ _ (Or.inl dO) (by rfl) (by decide) (by decide)) (@aa _ _ _ _ _ (@pw _ 14 _ _ (Or.inl dq) (by rfl) (by decide) (by decide)) (@ac _) rfl) rfl) rfl)) (@ac _) rfl) rfl) (by rfl) (by rfl) (by rfl) (by rfl) (by rfl) (by rfl)) (by rfl))))))) (by intro _;rfl)) (@ae _ _ _ _ _ (@aE _ _ (16) _ _ _ _ bj.nd rfl (Or.inl cx) (@bO _ _ _ _ (@ac _)) (by rfl) (by first | exact .inl rfl | exact .inr rfl | assumption)) (@ae _ _ _ _ _ (@e8 _ _ _ _ _ _ _ _ PassesOwn.never rfl (@eJ _ (K) _ _ _ (@gv _ _ _ _ _ _ _ _ _ _ (@jo _ (K) (by rfl)) (@pw _ 9 _ _ (Or.inl eV) (by rfl) (by decide) (by decide)) (@jn _) (@gJ _ _ _ (@ad _ _ _ _))) (by rfl)) (@cP _ (K) _ _ _ _ (3) rfl (@aP _ _ _ _ _ (@au _ _ (12) _ bj.nd rfl (Or.inl dc) (by first | exact .inl rfl | exact .inr rfl | assumption)) (@aP _ _ _ _ _ (@au _ _ (13) _ bj.nd rfl (Or.inl dO) (by first | exact .inl rfl | exact .inr rfl | assumption)) (@aP _ _ _ _ _ (@au _ _ (14) _ bj.nd rfl (Or.inl dq) (by first | exact .inl rfl | exact .inr rfl | assumption)) (@cN _) (by rfl)) (by rfl)) (by rfl)) (by rfl) (by rfl) (by rfl)) (@ae _ _ _ _ _ (@aE _ _ (17) _ _ _ _ bj.nd rfl (Or.inl kP) (@ai _ _ _ _ _ _ _ _ _ _ _ _ _ _ _ _ G_l_any_much (hr.mono (by decide)) mP T.l_any_much_.m T.l_any_much_.F.kp T.l_any_much_.B .nil (@ay _) (@aa _ _ _ _ _ (@pw _ 0 _ _ (Or.inr (Or.inl aD)) (by rfl) (by decide) (by decide)) (@ac _) rfl) (by decide) (by rfl) (by rfl)) (by rfl) (by first | exact .inl rfl | exact .inr rfl | assumption)) (@ah _ _ _ (@fM _ _ _ _ (@fQ _ (K) _ _ _ _ _ _ _ _ _ _ _ PySem.F.plainAttrs_list PySem.F.slot_list_append PySem.F.type_list_append (@iy _) (@pw _ 16 _ _ (Or.inl cx) (by rfl) (by decide) (by decide)) (@aa _ _ _ _ _ (@aF _ _ _ _ _ (@aa _ _ _ _ _ (@pw _ 12 _ _ (Or.inl dc) (by rfl) (by decide) (by decide)) (@aa _ _ _ _ _ (@pw _ 13 _ _ (Or.inl dO) (by rfl) (by decide) (by decide)) (@aa _ _ _ _ _ (@pw _ 17 _ _ (Or.inl kP) (by rfl) (by decide) (by decide)) (@aa _ _ _ _ _ (@pw _ 14 _ _ (Or.inl dq) (by rfl) (by decide) (by decide)) (@aa _ _ _ _ _ (@ai _ _ _ _ _ _ _ _ _ _ _ _ _ _ _ _ G_l_any_price (hr.mono (by decide)) mv T.l_any_price_.m T.l_any_price_.F.kp T.l_any_price_.B .nil (@ay _) (@aa _ _ _ _ _ (@pw _ 0 _ _ (Or.inr (Or.inl aD)) (by rfl) (by decide) (by decide)) (@ac _) rfl) (by decide) (by rfl) (by rfl)) (@ac _) rfl) rfl) rfl) rfl) rfl)) (@ac _) rfl) (by rfl) (by rfl) (by rfl) (by rfl) (by rfl) (by rfl)) (by rfl)))) (by intro _;rfl)) (@ae _ _ _ _ _ (@bH _ _ _ _ _ _ _ _ (@PW.pt _ _ _ (@yC _ _ _ _ _ _ _ (@aK _ _ _ _ _ _ _ _ (@lG _) (@aB _ _ _ _ _ _ _ _ _ (@eS _ (K) (by rfl)) eZ T.b_len (@bw) (@aa _ _ _ _ _ (@pw _ 16 _ _ (Or.inl cx) (by rfl) (by decide) (by decide)) (@ac _) rfl) (by decide) (by decide) (by rfl) (by rfl)) (@ad _ _ _ _) (@aG _ _ (by decide) (by decide))) (@xb _ _ _ _ (@aK _ _ _ _ _ _ _ _ (@dE _) (@ai _ _ _ _ _ _ _ _ _ _ _ _ _ _ _ _ G_l_take (hr.mono (by decide)) bp T.l_take_.m T.l_take_.F.kp T.l_take_.B .nil (@ay _) (@aa _ _ _ _ _ (@pw _ 0 _ _ (Or.inr (Or.inl aD)) (by rfl) (by decide) (by decide)) (@aa _ _ _ _ _ (@ad _ _ _ _) (@ac _) rfl) rfl) (by decide) (by rfl) (by rfl)) (@ad _ _ _ _) (@aG _ _ (by decide) (by decide)))))) (@ah _ _ _ (@fM _ _ _ _ (@fQ _ (K) _ _ _ _ _ _ _ _ _ _ _ PySem.F.plainAttrs_list PySem.F.slot_list_append PySem.F.type_list_append (@iy _) (@pw _ 16 _ _ (Or.inl cx) (by rfl) (by decide) (by decide)) (@aa _ _ _ _ _ (@aq _ _ _ _ _ _ _ (@oq _ (K) (by rfl)) (@pw _ 16 _ _ (Or.inl cx) (by rfl) (by decide) (by decide)) (@ad _ _ _ _) (fun _ _=>rfl)) (@ac _) rfl) (by rfl) (by rfl) (by rfl) (by rfl) (by rfl) (by rfl)) (by rfl))) (@bd _)) (@ah _ _ _ (@aL _ _ _ _ (@aF _ _ _ _ _ (@aa _ _ _ _ _ (@pw _ 5 _ _ (Or.inl bv) (by rfl) (by decide) (by decide)) (@aa _ _ _ _ _ (@de _ _ _ _ _ _ _ _ _ (@jh _ (K) (by rfl)) rH T.b_tuple (@d7) (@aa _ _ _ _ _ (@pw _ 16 _ _ (Or.inl cx) (by rfl) (by decide) (by decide)) (@ac _) rfl) (by decide) (by decide) (by rfl) (by rfl)) (@ac _) rfl) rfl)))))))))))))),?_⟩
  refine Ap fun Q1 nP=>⟨_,rfl,b,4,t,rfl,B,by decide,by decide,by trivial,by trivial,fun wy t1 H1 w0 w1 h1a h1b s1 B1=>⟨_,rfl,b,8,t1,rfl,B1,by decide,by decide,by trivial,by trivial,fun gr t2 H2 gr0 gr1 h2a h2b s2 B2=>⟨rfl,nP _ _ _ ?_⟩⟩⟩
  generalize decide (V.int gr=V.int 0)=great
  refine bI fun Q2 nA2=>⟨_,rfl,_,rfl,_,rfl,?_⟩
  refine Es (fun v H'=>bo fun many t'=>v=.int many∧2≤many∧many≤10∧Bx H' b t'∧t2≤t'∧t'≤t2+1∧ba (Eb b) H2 H') ?_ (fun _ nx=>?_) (fun _ nx=>?_)
  rotate_left
  ·exact ⟨_,rfl,b,4,t2,rfl,B2,by decide,by decide,by trivial,by trivial,fun r t3 H3 r0 r1 h3a h3b s3 B3=>⟨_,_,rfl,rfl,nx _ _ ⟨7+r,t3,rfl,by trivial,by trivial,B3,by trivial,by trivial,s3⟩⟩⟩
  ·exact ⟨_,rfl,_,rfl,_,_,rfl,rfl,b,_,t2,rfl,B2,by trivial,nq (by trivial) (by trivial),by trivial,by trivial,fun r t3 H3 r0 r1 h3a h3b s3 B3=>⟨_,_,rfl,rfl,nx _ _ ⟨2+r,t3,rfl,by trivial,by trivial,B3,by trivial,by trivial,s3⟩⟩⟩
  rintro v H3 ⟨many,t3,rfl,hm1,hm2,B3,h3a,h3b,s3⟩
  refine ⟨b,many,t3,rfl,B3,by trivial,by trivial,by trivial,by trivial,fun pl ls t4 H4 s4 hpl lls nd nc B4 h4a h4b=>nA2 _ _ ?_⟩
  have s04:ba (Eb b) H H4:=((s1.trans s2).trans s3).trans s4
  have l2:2≤ls.length:=by trivial
  have l10:ls.length≤10:=by trivial
  clear hm1 hm2 lls
  refine bI fun Q3 nA3=>⟨_,rfl,_,rfl,?_⟩
  refine Es (fun v H'=>bo fun many t'=>v=.int many∧1≤many∧many≤24∧Bx H' b t'∧t4≤t'∧t'≤t4+1∧ba (Eb b) H4 H') ?_ (fun _ nx=>?_) (fun _ nx=>?_)
  rotate_left
  ·exact ⟨_,rfl,b,15,t4,rfl,B4,by decide,by decide,by trivial,by trivial,fun r t3 H3 r0 r1 h3a h3b s3 B3=>⟨_,_,rfl,rfl,nx _ _ ⟨10+r,t3,rfl,by trivial,by trivial,B3,by trivial,by trivial,s3⟩⟩⟩
  ·exact ⟨_,rfl,_,rfl,b,mt,t4,rfl,B4,by trivial,nq (by trivial) (by trivial),by trivial,by trivial,fun r t3 H3 r0 r1 h3a h3b s3 B3=>⟨_,_,rfl,rfl,nx _ _ ⟨1+r,t3,rfl,by trivial,by trivial,B3,by trivial,by trivial,s3⟩⟩⟩
  rintro v H5 ⟨mn,t5,rfl,mn1,mn2,B5,h5a,h5b,s5⟩
  refine nA3 _ _ ?_
  have hpl5:=s5.tup _ _ hpl
  have s05:=s04.trans s5
  refine bI fun Q4 nA4=>⟨(by show 2≤10000;decide),fun u1 K1 m1=>⟨(by show 2≤10000;decide),fun u2 K2 m2=>⟨(by show 2≤10000;decide),fun u3 K3 m3=>⟨(by show 2≤10000;decide),fun u4 K4 m4=>⟨(by show 2≤10000;decide),fun u5 K5 m5=>⟨(by show 2≤10000;decide),fun u6 K6 m6=>⟨(by show 2≤10000;decide),fun u7 K7 m7=>⟨(by show 7≤10000;decide),fun sl K8 m8=>nA4 _ _ ?_⟩⟩⟩⟩⟩⟩⟩⟩
  have sK7:ak H5 K7:=(((((m1.sm.trans m2.sm).trans m3.sm).trans m4.sm).trans m5.sm).trans m6.sm).trans m7.sm
  have sK:=sK7.trans m8.sm
  have nsl:¬sl=b:=fun z=>(B5.same sK7).ne m8.fr z.symm
  have hplK:=sK _ _ hpl5
  have BK:=B5.same sK
  have some_at:∀(r:Int) (J:Hp),0≤r→r<7→ba (Eb b) K8 J→bo fun o z=>gW [V.ref u1,V.ref u2,V.ref u3,V.ref u4,V.ref u5,V.ref u6,V.ref u7] r=some (.ref o)∧J o=some (fr z)∧WC z:=fun r J r0 r1 sJ=>by
   have up:∀{u:Addr}{us:List V},K8 u=some (.tup us)→J u=some (.tup us):=fun h=>sJ.tup _ _ h
   obtain rfl | rfl | rfl | rfl | rfl | rfl | rfl:r=0∨r=1∨r=2∨r=3∨r=4∨r=5∨r=6:=by trivial
   ·exact ⟨u1,(1,1),rfl,up (m8.sm _ _ (m7.sm _ _ (m6.sm _ _ (m5.sm _ _ (m4.sm _ _ (m3.sm _ _ (m2.sm _ _ m1.at'))))))),by decide⟩
   ·exact ⟨u2,(2,1),rfl,up (m8.sm _ _ (m7.sm _ _ (m6.sm _ _ (m5.sm _ _ (m4.sm _ _ (m3.sm _ _ m2.at')))))),by decide⟩
   ·exact ⟨u3,(3,1),rfl,up (m8.sm _ _ (m7.sm _ _ (m6.sm _ _ (m5.sm _ _ (m4.sm _ _ m3.at'))))),by decide⟩
   ·exact ⟨u4,(1,2),rfl,up (m8.sm _ _ (m7.sm _ _ (m6.sm _ _ (m5.sm _ _ m4.at')))),by decide⟩
   ·exact ⟨u5,(1,3),rfl,up (m8.sm _ _ (m7.sm _ _ (m6.sm _ _ m5.at'))),by decide⟩
   ·exact ⟨u6,(3,2),rfl,up (m8.sm _ _ (m7.sm _ _ m6.at')),by decide⟩
   ·exact ⟨u7,(2,3),rfl,up (m8.sm _ _ m7.at'),by decide⟩
  refine bI fun Q5 nA5=>⟨_,rfl,pl,rfl,⟨_,ap.of hplK⟩,fun D hD=>dL (n:=(ls.map aA).length) (fun i H' xs=>fJ fun (as ws:List Addr) (t':Int)=>xs=as.map V.ref∧H' D=some (.lst xs)∧as.length=i∧ws.length=i∧(∀(j:Nat) a,as[j]?=some a→fJ fun l w z=>ls[j]?=some l∧ws[j]?=some w∧H' a=some (.tup [aA l,.ref w])∧H' w=some (fr z)∧WC z)∧Bx H' b t'∧t5≤t'∧t'≤t5+i∧ba (Eb b) K8 H') (fw (by rw [List.length_map];trivial)) ⟨[],[],t5,rfl,am,rfl,rfl,(fun j a h=>by simp at h),BK.same (ak.new hD),by trivial,by trivial,(ak.new hD).toE⟩ ?_ ?_ ?_ ?_ ?_⟩
  ·rintro i H' xs ⟨as,ws,t',rfl,e1,e2,_⟩
   exact ⟨e1,by rw [List.length_map];trivial⟩
  ·rintro i H' xs hi ⟨as,ws,t',_,_,_,_,_,_,_,_,sE⟩
   exact ⟨_,_,ap.of (sE.tup _ _ hplK),List.getElem?_eq_getElem hi⟩
  ·rintro H' xs ⟨as,ws,t',_,_,_,_,_,_,_,_,sE⟩
   exact ⟨_,ap.of (sE.tup _ _ hplK),Nat.le_refl _⟩
  ·have nDb:¬D=b:=fun z=>BK.ne hD z.symm
   rintro i Ha xs x Hb hi ⟨as,ws,t',rfl,eD,la,lw,hw,BD,h1,h2,sE⟩ ⟨rfl,ex⟩
   have exi:=ex _ (ap.of (sE.tup _ _ hplK))
   rw [List.length_map] at hi
   rw [List.getElem?_map,List.getElem?_eq_getElem hi] at exi
   obtain rfl:aA ls[i]=x:=Option.some.inj exi
   refine ⟨fB,_,rfl,_,rfl,_,rfl,b,7,t',rfl,BD,by decide,by decide,by trivial,by trivial,fun r6 t6 J6 r60 r61 h6a h6b s6 B6=>?_⟩
   obtain ⟨o,z,eo,ho,wz⟩:=some_at r6 J6 r60 (by trivial) (sE.trans s6)
   refine ⟨sl,_,_,_,rfl,rfl,ax.of (s6.old sl _ nsl (sE.old sl _ nsl m8.at')),eo,(by show 2≤10000;decide),fun q J7 n7=>?_⟩
   have js:ba (Eb b) Hb J7:=s6.trans n7.sm.toE
   have eD7:=js.old D _ nDb eD
   have c':Ch J7 D (as.map V.ref++[.ref q]) (aN J7 D (.lst (as.map V.ref++[.ref q]))):=Ch.mk'
   refine ⟨eD7,as++[q],ws++[o],t6,by rw [List.map_append];rfl,am,by rw [List.length_append,la];rfl,by rw [List.length_append,lw];rfl,fun j a' ha'=>?_,(B6.same n7.sm).ch c' (fun z=>nDb z.symm),by trivial,by trivial,(sE.trans js).up hD⟩
   by_cases hj:j<i
   ·rw [List.getElem?_append_left (by trivial)] at ha'
    obtain ⟨l,w,z,e1,e2,e3,e4,e5⟩:=hw j a' ha'
    exact ⟨l,w,z,e1,by rw [List.getElem?_append_left (by trivial)];exact e2,c'.tup (js.tup _ _ e3) eD7,c'.tup (js.tup _ _ e4) eD7,e5⟩
   ·have hj':j=i:=by
     have:=(List.getElem?_eq_some_iff.mp ha').1
     rw [List.length_append] at this
     simp at this
     trivial
    subst hj'
    rw [List.getElem?_append_right (by trivial),la,Nat.sub_self] at ha'
    obtain rfl:q=a':=Option.some.inj ha'
    exact ⟨ls[j],o,z,List.getElem?_eq_getElem hi,by rw [List.getElem?_append_right (by trivial),lw,Nat.sub_self];rfl,c'.tup n7.at' eD7,c'.tup (n7.sm _ _ ho) eD7,wz⟩
  rintro J xs ⟨as,ws,t6,rfl,eD,la,lw,hw,B6,h6a,h6b,s6⟩
  rw [List.length_map] at la lw h6b
  have wv:∀(j:Nat) (hj:j<ls.length),fJ fun a w z=>as[j]?=some a∧ws[j]?=some w∧J a=some (.tup [aA ls[j],.ref w])∧J w=some (fr z)∧WC z:=fun j hj=>by
   obtain ⟨a,ha⟩:∃a,as[j]?=some a:=⟨_,List.getElem?_eq_getElem (by trivial)⟩
   obtain ⟨l,w,z,e1,e2,e3,e4,e5⟩:=hw j a ha
   rw [List.getElem?_eq_getElem hj] at e1
   cases e1
   exact ⟨a,w,z,ha,e2,e3,e4,e5⟩
  refine ⟨D,as,ls.map fun l=>(Sum.inr (S l):aU),ws.map V.ref,rfl,eD,by rw [List.length_map];exact la,by rw [List.length_map,List.length_map];exact lw,sN nd,by rw [List.length_map];trivial,fun i a ha=>?_,fun W J1 nW=>nA5 _ _ ?_⟩
  ·obtain ⟨l,w,z,e1,e2,e3,_,_⟩:=hw i a ha
   exact ⟨Sum.inr (S l),.ref w,by rw [List.getElem?_map,e1];rfl,by rw [List.getElem?_map,e2];rfl,e3⟩
  have s81:ba (Eb b) K8 J1:=s6.trans nW.sm.toE
  have s01:ba (Eb b) H J1:=(s05.trans sK.toE).trans s81
  have BJ:=B6.same nW.sm
  have nWb:¬W=b:=fun z=>B6.ne nW.fr z.symm
  have hplJ:J1 pl=some (.tup (ls.map aA)):=s81.tup _ _ hplK
  obtain ⟨kvs,ekv⟩:∃kvs,kvs=((ls.map fun l=>(Sum.inr (S l):aU)).zip (ws.map V.ref)):=⟨_,rfl⟩
  have hW:J1 W=some (.dK kvs):=by rw [ekv];exact nW.at'
  have wl:∀l∈ls,bo fun w z=>valD kvs (Sum.inr (S l))=some (.ref w)∧J1 w=some (fr z)∧WC z:=fun l hl=>by
   obtain ⟨j,hj⟩:=List.getElem?_of_mem hl
   have hlt:=(List.getElem?_eq_some_iff.mp hj).1
   obtain ⟨a,w,z,e1,e2,e3,e4,e5⟩:=wv j hlt
   refine ⟨w,z,?_,nW.sm _ _ e4,e5⟩
   rw [ekv]
   exact rX (i:=j) (sN nd) (by rw [List.getElem?_map,hj];rfl) (by rw [List.getElem?_map,e2];rfl)
  have t6a:t≤t6∧t6≤t+40:=by trivial
  clear hw wv la lw h6a h6b h5a h5b h4a h4b h1a h1b h2a h2b h3a h3b some_at sK7 sK m1 m2 m3 m4 m5 m6 m7 m8 ekv hplK hpl5 hpl BK B4 B3 B2 B1 B5 s04 s05 nW eD s6 s81 B6
  refine bI fun Q6 nA6=>⟨_,rfl,rfl,_,rfl,?_⟩
  refine Es (fun v H'=>kd fun (L:Addr) (ys:List V) (es:List zU) (t':Int)=>v=.ref L∧H' L=some (.lst ys)∧aQ ED H' ys (es.map ze)∧es.length≤10∧(∀x∈es,EM ls x)∧Bx H' b t'∧t6≤t'∧t'≤t6+5∧ba (Eb b) J1 H'∧J1 L=none) ?_ (fun _ nx=>?_) (fun _ nx=>?_)
  rotate_left
  ·exact ⟨_,rfl,_,rfl,b,pl,ls,t6,rfl,BJ,by trivial,by trivial,hplJ,l2,l10,nd,fun L ys es t7 J2 sE fL hL iL lL cL BL h7a h7b=>nx _ _ ⟨L,ys,es,t7,rfl,hL,iL,lL,cL,BL,h7a,h7b,sE,fL⟩⟩
  ·exact ⟨(by show 0≤10000;decide),fun L J2 n2=>nx _ _ ⟨L,[],[],t6,rfl,n2.at',.nil,by decide,(fun x hx=>by cases hx),BJ.same n2.sm,by trivial,by trivial,n2.sm.toE,n2.fr⟩⟩
  rintro v J2 ⟨L,ys,es,t7,rfl,hL,iL,lL,cL,B7,h7a,h7b,s7,fL⟩
  refine nA6 _ _ ?_
  have nLb:¬L=b:=fun z=>BJ.ne fL z.symm
  have el:((ls.map aA).length:Int)=(ls.length:Int):=by rw [List.length_map]
  refine bS fun DB nB=>?_
  refine ⟨_,rfl,mn,rfl,by trivial,by trivial,?_⟩
  refine iw (fun i σ H'=>Dv fun (v10 v11 v12 v13 v14 v15:Option V) (ys:List V) (es:List zU) (t':Int)=>σ=[some (.ref b),some (.int mp),some (.int mt),some (.int wy),some (.bl great),some (.ref pl),some (.int mn),some (.ref sl),some (.ref W),some (.ref L),v10,v11,v12,v13,v14,v15,none,none]∧H' L=some (.lst ys)∧aQ ED H' ys (es.map ze)∧es.length≤10+i∧i≤es.length∧(∀x∈es,EM ls x)∧Bx H' b t'∧t7≤t'∧t'≤t7+12*i∧ba (Eb b) J1 H') ⟨_,_,_,_,_,_,ys,es,t7,rfl,hL,iL,by trivial,by trivial,cL,B7,by trivial,by trivial,s7⟩ ?_ ?_
  ·clear hL iL lL cL B7 s7
   rintro i σ G hi ⟨v10,v11,v12,v13,v14,v15,ys,es,t8,rfl,hL,iL,lL,lL',cL,BG,h8a,h8b,sG⟩
   have lys:ys.length=es.length:=by rw [iL.length,List.length_map]
   have hplG:=sG.tup _ _ hplJ
   refine oj (t:=ik _ _) fun DH nH=>?_
   refine bI fun DI nI=>?_
   refine ⟨_,rfl,_,rfl,pl,_,rfl,.inr (ap.of hplG),b,_,t8,rfl,BG,by trivial,nq (by trivial) (by trivial),by trivial,by trivial,fun f t9 G1 f0 f1 _ _ g1 BG1=>nI _ _ ?_⟩
   have hplG1:=g1.tup _ _ hplG
   refine Ap fun DJ nJ=>?_
   refine ⟨_,rfl,_,rfl,pl,_,_,_,rfl,rfl,ap.of hplG1,tD f0 (by trivial),_,rfl,_,rfl,_,_,rfl,rfl,_,rfl,_,rfl,pl,_,rfl,.inr (ap.of hplG1),_,_,rfl,rfl,b,_,t9,rfl,BG1,by trivial,nq (by trivial) (by trivial),by trivial,by trivial,fun r t10 G2 r0 r1 _ _ g2 BG2=>?_⟩
   have hplG2:=g2.tup _ _ hplG1
   obtain ⟨q0,q1,q2⟩:=Bz (n:=(ls.length:Int)) (f:=f) (r:=r) f0 (by trivial) r0 (by trivial)
   obtain ⟨la,ela⟩:∃la,la=(f+1+r) % (ls.length:Int):=⟨_,rfl⟩
   rw [←ela] at q0 q1 q2
   have hat:gW (ls.map aA) ((f+1+r) % ((ls.map aA).length:Int))=some (aA ls[la.toNat]):=by rw [el,←ela];exact tD q0 (by trivial)
   refine ⟨_,_,rfl,rfl,_,rfl,pl,_,rfl,.inr (ap.of hplG2),_,_,rfl,rfl,(by show (0:Int)<((ls.map aA).length:Int);trivial),pl,_,_,_,rfl,rfl,ap.of hplG2,hat,nJ _ _ _ ?_⟩
   obtain ⟨bg,ebg⟩:∃bg,bg=ls[f.toNat]:=⟨_,rfl⟩
   obtain ⟨en,een⟩:∃en,en=ls[la.toNat]:=⟨_,rfl⟩
   have mbg:bg∈ls:=by rw [ebg];exact List.getElem_mem _
   have men:en∈ls:=by rw [een];exact List.getElem_mem _
   have bne:bg≠en:=fun z=>by
    rw [ebg,een] at z
    have:=jO nd (by trivial) (by trivial) z
    trivial
   rw [←ebg,←een]
   refine bI fun DK nK=>?_
   refine ⟨_,rfl,b,t10,rfl,BG2,by trivial,by trivial,fun og n d t11 G3 g3 eg fg lg BG3 h11a h11b=>nK _ _ ?_⟩
   have g03:=(g1.trans g2).trans g3
   have t11a:t8≤t11∧t11≤t8+8:=by trivial
   refine x0 (fun σ H'=>kd fun (og:Addr) (g:KM.Fra) (v15:Option V) (t':Int)=>σ=[some (.ref b),some (.int mp),some (.int mt),some (.int wy),some (.bl great),some (.ref pl),some (.int mn),some (.ref sl),some (.ref W),some (.ref L),some (.int (0+(i:Int))),some (.int f),some (.str (S bg)),some (.str (S en)),some (.ref og),v15,none,none]∧H' og=some (fr g)∧Gb 6 6 g∧1≤g.1∧Bx H' b t'∧t11≤t'∧t'≤t11+1∧ba (Eb b) G3 H') ?_ fun nx=>?_
   ·rintro σ' G4 ⟨og,g,v15,t12,rfl,hog,gg,gg1,BG4,h12a,h12b,g4⟩
    have g04:=g03.trans g4
    have hL4:=g04.old L _ nLb hL
    refine ⟨_,rfl,.inl ⟨rfl,_,ax.of hL4⟩,_,rfl,_,rfl,L,_,rfl,.inl (ax.of hL4),_,_,rfl,rfl,b,_,t12,rfl,BG4,by trivial,nq (by trivial) (by trivial),by trivial,by trivial,fun r t13 G5 r0 r1 _ _ g5 BG5=>⟨_,rfl,_,rfl,_,rfl,(by show 3≤10000;decide),fun q G6 n6=>?_⟩⟩
    have g06:=(g04.trans g5).trans n6.sm.toE
    have hL6:=g06.old L _ nLb hL
    refine ⟨L,ys,r,.ref q,rfl,rfl,hL6,r0,by trivial,by trivial,fun G7 c7=>nH _ _ ⟨_,_,_,_,_,_,_,es.take r.toNat++(bg,en,g) :: es.drop r.toNat,t13,rfl,c7.at',?_,?_,?_,fun x hx=>?_,(BG5.same n6.sm).ch c7 (fun z=>nLb z.symm),by trivial,by trivial,(sG.trans g06).ch c7 fL⟩⟩
    ·have i6:=iL.tupS g06
     rw [List.map_append,List.map_cons,List.map_take,List.map_drop]
     have nw:bc ED G6 (.ref q) (ze (bg,en,g)):=.tup n6.at' (.cons (.str _) (.cons (.str _) (.cons (lU (p:=g) (n6.sm _ _ (g5.tup _ _ hog))) .nil)))
     exact ((i6.take _).append (.cons nw (i6.drop _))).mono ⟨fun _ _ n _=>absurd trivial n,fun _ _ e=>c7.tup e hL6⟩
    ·rw [List.length_append,List.length_cons,List.length_take,List.length_drop];trivial
    ·rw [List.length_append,List.length_cons,List.length_take,List.length_drop];trivial
    ·rcases List.mem_append.mp hx with q' | q'
     ·exact cL x (List.mem_of_mem_take q')
     ·rcases List.mem_cons.mp q' with q' | q'
      ·rw [q'];exact ⟨mbg,men,bne,gg,gg1⟩
      ·exact cL x (List.mem_of_mem_drop q')
   ·refine ⟨_,rfl,_,_,rfl,rfl,_,rfl,jk (fun c=>?_) (fun c=>?_)⟩
    ·refine bI fun DM nM=>⟨(by show 2≤10000;decide),fun u1 K1 m1=>⟨(by show 2≤10000;decide),fun u2 K2 m2=>⟨(by show 2≤10000;decide),fun u3 K3 m3=>⟨(by show 2≤10000;decide),fun u4 K4 m4=>⟨(by show 4≤10000;decide),fun l5 K5 m5=>⟨_,rfl,b,4,t11,rfl,BG3.same ((((m1.sm.trans m2.sm).trans m3.sm).trans m4.sm).trans m5.sm),by decide,by decide,by trivial,by trivial,fun r6 t12 K6 r60 r61 h6a h6b s6 B6=>?_⟩⟩⟩⟩⟩⟩
     have sm:=(((m1.sm.trans m2.sm).trans m3.sm).trans m4.sm).trans m5.sm
     have nl5:¬l5=b:=fun z=>(BG3.same (((m1.sm.trans m2.sm).trans m3.sm).trans m4.sm)).ne m5.fr z.symm
     have up:∀{u:Addr}{us:List V},K5 u=some (.tup us)→K6 u=some (.tup us):=fun h=>s6.tup _ _ h
     obtain ⟨so,z,eso,hso,gz'⟩:∃so,∃z:KM.Fra,gW [V.ref u1,V.ref u2,V.ref u3,V.ref u4] r6=some (.ref so)∧K6 so=some (fr z)∧(1≤z.1∧z.1≤5∧1≤z.2∧z.2≤6):=by
      obtain rfl | rfl | rfl | rfl:r6=0∨r6=1∨r6=2∨r6=3:=by trivial
      ·exact ⟨u1,(1,1),rfl,up (m5.sm _ _ (m4.sm _ _ (m3.sm _ _ (m2.sm _ _ m1.at')))),by decide⟩
      ·exact ⟨u2,(1,1),rfl,up (m5.sm _ _ (m4.sm _ _ (m3.sm _ _ m2.at'))),by decide⟩
      ·exact ⟨u3,(1,2),rfl,up (m5.sm _ _ (m4.sm _ _ m3.at')),by decide⟩
      ·exact ⟨u4,(5,6),rfl,up (m5.sm _ _ m4.at'),by decide⟩
     refine ⟨l5,_,_,_,rfl,rfl,ax.of (s6.old l5 _ nl5 m5.at'),eso,nM _ _ ?_⟩
     have s36:ba (Eb b) G3 K6:=sm.toE.trans s6
     have sJ6:ba (Eb b) J1 K6:=(sG.trans g03).trans s36
     have hW6:=sJ6.old W _ nWb hW
     obtain ⟨w1',z1,v1,hw1,wc1⟩:=wl bg mbg
     obtain ⟨w2',z2,v2,hw2,wc2⟩:=wl en men
     refine ⟨_,rfl,_,rfl,W,kvs,Sum.inr (S bg),.ref w1',rfl,rfl,hW6,v1,_,rfl,_,rfl,W,kvs,Sum.inr (S en),.ref w2',rfl,rfl,hW6,v2,w1',w2',z1,z2,_,_,_,_,rfl,sJ6.tup _ _ hw1,sJ6.tup _ _ hw2,vj wc1,vj wc2,by decide,by decide,by decide,by decide,(fun _=>wc2.1),fun q K7 n7=>⟨_,rfl,q,so,_,z,4,4,3,3,rfl,n7.at',n7.sm _ _ hso,(vj wc1).ovr (vj wc2) wc2.1 (by decide) (by decide),⟨(show z.1.natAbs<8 by trivial),(show z.2.natAbs<8 by trivial),gz'.2.2.1⟩,by decide,by decide,by decide,by decide,(fun z=>by cases z),fun q2 K8 n8=>nx _ _ ?_⟩⟩
     have wg:=Fx wc1 wc2 gz'
     exact ⟨q2,_,_,t12,rfl,n8.at',wg.1,wg.2,(B6.same n7.sm).same n8.sm,by trivial,by trivial,s36.trans (n7.sm.trans n8.sm).toE⟩
    ·exact nx _ _ ⟨og,(n,d),_,t11,rfl,eg,⟨fg.sn,fg.sd,fg.pos⟩,lg,BG3,by trivial,by trivial,ba.refl _⟩
  clear hL iL lL cL B7 s7
  rintro σ G ⟨v10,v11,v12,v13,v14,v15,ys,es,t8,rfl,hL,iL,lL,lL',cL,BG,h8a,h8b,sG⟩
  have t8a:t≤t8∧t8≤t+333:=by trivial
  have les:1≤es.length∧es.length≤34:=by trivial
  have lys:ys.length=es.length:=by rw [iL.length,List.length_map]
  clear h7a h7b h8a h8b lL lL' t6a
  refine nB _ _ ?_
  clear nB
  refine bI fun Q7 nA7=>⟨(by show 0≤10000;decide),fun TL G1 n1=>nA7 _ _ ?_⟩
  have fT:J1 TL=none:=sG.free BG n1.fr
  have nTb:¬TL=b:=fun z=>BG.ne n1.fr z.symm
  refine bS fun DB nB=>?_
  refine ⟨_,rfl,_,rfl,L,_,rfl,ax.of (n1.sm _ _ hL),fun P' G2 n2=>?_⟩
  have eP:G2 P'=some (.lst (ys.take 24)):=by
   have:=n2.at'
   rw [l8 (by decide)] at this
   exact this
  have nPb:¬P'=b:=fun z=>(BG.same n1.sm).ne n2.fr z.symm
  have nPT:¬P'=TL:=fun z=>by have:=n1.at';rw [←z,n2.fr] at this;cases this
  have s12:=n1.sm.trans n2.sm
  have iP:aQ ED G2 (ys.take 24) ((es.take 24).map ze):=by
   rw [List.map_take]
   exact (iL.take 24).mono s12.toE
  have lP:(ys.take 24).length=(es.take 24).length:=by rw [List.length_take,List.length_take];trivial
  refine ⟨P',rfl,⟨_,ax.of n2.at'⟩,?_⟩
  refine kU (xs:=ys.take 24) (fun i σ H'=>Gr fun (v12 v13 v14 v17:Option V) (zs:List V) (ts:List ag) (t':Int)=>σ=[some (.ref b),some (.int mp),some (.int mt),some (.int wy),some (.bl great),some (.ref pl),some (.int mn),some (.ref sl),some (.ref W),some (.ref L),v10,v11,v12,v13,v14,v15,some (.ref TL),v17]∧H' TL=some (.lst zs)∧aQ ED H' zs (ts.map lr)∧ts.length=i∧(∀x∈ts,fe ls x)∧Bx H' b t'∧t8≤t'∧t'≤t8+4*i∧H' P'=some (.lst (ys.take 24))∧ba (Eb b) J1 H'∧(∀a us,G2 a=some (.tup us)→H' a=some (.tup us))) ⟨_,_,_,_,[],[],t8,rfl,n2.sm _ _ n1.at',.nil,rfl,(fun x hx=>by cases hx),BG.same s12,by trivial,by trivial,eP,sG.trans s12.toE,fun _ _ h=>h⟩ ?_ ?_ ?_
  ·rintro i σ H' _ ⟨_,_,_,_,_,_,_,_,_,_,_,_,_,_,_,q,_⟩
   exact ax.of q
  ·rintro i x σ F0 hx ⟨v12,v13,v14,v17,zs,ts,t9,rfl,hT,iT,lT,cT,BF,h9a,h9b,hP,sF,tF⟩
   have hi:i<(ys.take 24).length:=(List.getElem?_eq_some_iff.mp hx).1
   have h24:(ys.take 24).length≤24:=by rw [List.length_take];trivial
   obtain ⟨dx,edx,gx⟩:=iP.get hx
   rw [List.getElem?_map] at edx
   obtain ⟨tr,etr,rfl⟩:=Option.map_eq_some_iff.mp edx
   have tc:=cL tr (List.mem_of_mem_take (List.mem_of_getElem? etr))
   obtain ⟨o,og,rfl,ho,hog⟩:bo fun o og=>x=.ref o∧G2 o=some (.tup [.str (S tr.1),.str (S tr.2.1),.ref og])∧G2 og=some (fr tr.2.2):=by
    cases gx with
    | @tup a xs _ h r'=>
     cases r' with
     | @cons u1 _ _ _ h1 r'=>
     cases r' with
     | @cons u2 _ _ _ h2 r'=>
     cases r' with
     | @cons u3 _ _ _ h3 r'=>
     cases r'
     cases h1
     cases h2
     obtain ⟨og,rfl,hog⟩:=qe h3
     exact ⟨a,og,rfl,h,hog⟩
   have lzs:zs.length=ts.length:=by rw [iT.length,List.length_map]
   refine ⟨o,_,rfl,ap.of (tF _ _ ho),rfl,_,_,rfl,_,_,rfl,_,_,rfl,rfl,?_⟩
   dsimp only
   refine bI fun Q8 nA8=>⟨_,rfl,b,t9,rfl,BF,by trivial,by trivial,fun om zm t10 F1 f1 hom gm zm0 zmc BF1 h10a h10b=>nA8 _ _ ?_⟩
   have hT1:=f1.old TL _ nTb hT
   refine ⟨_,rfl,.inl ⟨rfl,_,ax.of hT1⟩,_,rfl,_,rfl,_,rfl,_,rfl,_,rfl,b,t10,rfl,BF1,by trivial,by trivial,fun op zp t11 F2 f2 hop gp zp0 _ BF2 h11a h11b=>⟨(by show 5≤10000;decide),fun q F3 n3=>?_⟩⟩
   have f03:ba (Eb b) F0 F3:=(f1.trans f2).trans n3.sm.toE
   have hT3:=f03.old TL _ nTb hT
   refine ⟨TL,_,_,rfl,rfl,hT3,by trivial,fun F4 c4=>⟨_,_,_,_,zs++[.ref q],ts++[⟨tr.1,tr.2.1,zm,tr.2.2,zp⟩],t11,rfl,c4.at',?_,by rw [List.length_append,lT];rfl,fun x hx=>?_,(BF2.same n3.sm).ch c4 (fun z=>nTb z.symm),by trivial,by trivial,c4.ol P' _ nPT (f03.old P' _ nPb hP),(sF.trans f03).ch c4 fT,fun a us h=>c4.tup (f03.tup _ _ (tF a us h)) hT3⟩⟩
   ·rw [List.map_append]
    refine rS c4 hT3 (iT.tupS f03) ?_
    exact .tup n3.at' (.cons (.str _) (.cons (.str _) (.cons (lU (p:=zm) (n3.sm _ _ (f2.tup _ _ hom))) (.cons (lU (p:=tr.2.2) (f03.tup _ _ (tF _ _ hog))) (.cons (lU (p:=zp) (n3.sm _ _ hop)) .nil)))))
   ·rcases List.mem_append.mp hx with q' | q'
    ·exact cT x q'
    ·rw [List.mem_singleton.mp q']
     exact ⟨tc.b,tc.e,tc.ne,gm,tc.g,tc.g1,gp,zm0,zmc⟩
  rintro σ F0 ⟨v12,v13,v14,v17,zs,ts,t9,rfl,hT,iT,lT,cT,BF,h9a,h9b,hP,sF,tF⟩
  refine nB _ _ ?_
  have l24:(ys.take 24).length≤24∧1≤(ys.take 24).length:=by rw [List.length_take];trivial
  have lzs:zs.length=ts.length:=by rw [iT.length,List.length_map]
  have hplF:=sF.tup _ _ hplJ
  refine x0 (fun σ H'=>fJ fun (zs:List V) (ts:List ag) (t':Int)=>σ=[some (.ref b),some (.int mp),some (.int mt),some (.int wy),some (.bl great),some (.ref pl),some (.int mn),some (.ref sl),some (.ref W),some (.ref L),v10,v11,v12,v13,v14,v15,some (.ref TL),v17]∧H' TL=some (.lst zs)∧aQ ED H' zs (ts.map lr)∧1≤ts.length∧ts.length≤24∧(∀x∈ts,fe ls x)∧Bx H' b t'∧t9≤t'∧t'≤t9+1∧ba (Eb b) J1 H') ?_ fun nx=>?_
  ·rintro σ' F1 ⟨zs,ts,t10,rfl,hT,iT,l1,l2',cT,BF,h10a,h10b,sF⟩
   refine ⟨_,rfl,_,rfl,TL,_,rfl,ax.of hT,fun q F2 n2'=>⟨(by show 2≤10000;decide),fun v F3 n3=>?_⟩⟩
   have s23:=n2'.sm.trans n3.sm
   refine k (.ref v) ls ts t10 F3 ((s01.trans sF).trans s23.toE) ?_ l2 l10 nd nc l1 l2' cT (BF.same s23) (by trivial) (by trivial)
   refine .tup n3.at' (.cons (.tup (s23 _ _ (sF.tup _ _ hplJ)) (vZ ls)) (.cons (.tup (n3.sm _ _ n2'.at') (iT.mono s23.toE)) .nil))
  ·refine ⟨_,rfl,TL,_,rfl,.inl (ax.of hT),_,_,rfl,rfl,_,rfl,jk (fun c=>?_) (fun c=>?_)⟩
   ·have hlt:(zs.length:Int)<24:=of_decide_eq_true c
    refine ⟨_,rfl,b,4,t9,rfl,BF,by decide,by decide,by trivial,by trivial,fun r t10 F1 r0 r1 _ _ f1 BF1=>⟨rfl,_,rfl,jk (fun c'=>?_) (fun c'=>?_)⟩⟩
    ·have hT1:=f1.old TL _ nTb hT
     obtain ⟨y0,ey0⟩:∃y0,zs[0]?=some y0:=⟨_,List.getElem?_eq_getElem (by trivial)⟩
     obtain ⟨d0,ed0,g0⟩:=iT.get ey0
     rw [List.getElem?_map] at ed0
     obtain ⟨tt,et,rfl⟩:=Option.map_eq_some_iff.mp ed0
     refine ⟨_,rfl,.inl ⟨rfl,_,ax.of hT1⟩,_,rfl,TL,_,_,_,rfl,rfl,ax.of hT1,eX (j:=0) ey0,TL,_,_,rfl,rfl,hT1,by trivial,fun F2 c2=>nx _ _ ⟨_,ts++[tt],t10,rfl,c2.at',?_,by simp,by rw [List.length_append];simp;trivial,fun x hx=>?_,BF1.ch c2 (fun z=>nTb z.symm),by trivial,by trivial,(sF.trans f1).ch c2 fT⟩⟩
     ·rw [List.map_append]
      exact rS c2 hT1 (iT.tupS f1) (g0.tupS (F:=ED) f1)
     ·rcases List.mem_append.mp hx with q' | q'
      ·exact cT x q'
      ·rw [List.mem_singleton.mp q'];exact cT tt (List.mem_of_getElem? et)
    ·exact nx _ _ ⟨zs,ts,t10,rfl,f1.old TL _ nTb hT,iT.tupS f1,by trivial,by trivial,cT,BF1,by trivial,by trivial,sF.trans f1⟩
   ·exact bC (nx _ _ ⟨zs,ts,t9,rfl,hT,iT,by trivial,by trivial,cT,BF,by trivial,by trivial,sF⟩)
end
end K11
namespace K11
open PySem L2
set_option maxHeartbeats 4000000
theorem Dh (p:KM.Fra):PyData.eqv (gl p) (gl (0,1))=decide (p=(0,1)):=by
 have e1:PyData.eqv (gl p) (gl (0,1))=(p.1==0 && (p.2==1 && true)):=by simp [PyData.eqv,PyData.eqvAll]
 rw [e1]
 obtain ⟨a,b⟩:=p
 by_cases h1:a=0
 ·by_cases h2:b=1
  ·subst h1 h2;rfl
  ·simp [h1,h2]
 ·simp [h1]
theorem vJ {p:KM.Fra}{a b:Nat} (h:Gb a b p) (ha:a≤1900) (hb:b≤1900):Wt (gl p) 3 1:=.tuple (.cons (.int (h.n.mono ha)) (.cons (.int (h.d.mono hb)) .nil))
theorem GB:Gb 1 1 (0,1):=⟨show (0:Int).natAbs<2 ^ 1 by decide,show (1:Int).natAbs<2 ^ 1 by decide,by decide⟩
section
variable {P:Program}{w:World}{K:PySem.W.Frag}{mg:Str→Option Value}{base:Heap}
inductive BH (vs:List V) (H:Hp) (Q:VK):Prop
 | mk (v:V) (t:ag) (ls:List (List Nat)) (h0:vs=[v]) (h1:bc ED H v (lr t)) (h2:fe ls t) (h3:∀H',ak H H'→Q (.bl (decide (t.most=(0,1)))) H')
def Ew:Sp:=fun vs H Q _=>BH  vs H Q
theorem xN (T:Txt K mg):bD P w K mg base CX0 1 T.is_shut_.f T.is_shut_.d ["tie"] Ew:=by
 refine T.is_shut_.F.ok xL (fun vs H Q E h=>?_) (fun cdv A outer s H vs Q E hr h=>?_)
 ·obtain ⟨v,t,ls,rfl,_⟩:=h
  rfl
 ·obtain ⟨v,t,ls,rfl,hv,tc,k⟩:=h
  obtain ⟨o,om,og,op,rfl,ho,hom,hog,hop⟩:=jq hv
  refine ⟨_,(@ah _ _ _ (@aL _ _ _ _ (@dj _ _ _ _ _ _ _ _ (@y9 _ hr.units) (@aq _ _ _ _ _ _ _ (@aR _ (K) (by rfl)) (@pw _ 0 _ _ (Or.inl uU) (by rfl) (by decide) (by decide)) (@ad _ _ _ _) (fun _ _=>rfl)) (@aF _ _ _ _ _ (@aa _ _ _ _ _ (@ad _ _ _ _) (@aa _ _ _ _ _ (@ad _ _ _ _) (@ac _) rfl) rfl)) (@aG _ _ (by decide) (by decide))))),?_⟩
  refine ⟨_,rfl,o,_,_,_,rfl,rfl,ap.of ho,rfl,(by show 2≤10000;decide),fun q H1 n1=>⟨gl t.most,gl (0,1),ED,ED,_,_,_,_,lU (n1.sm _ _ hom),lU (p:=(0,1)) n1.at',vJ tc.fm (by decide) (by decide),vJ GB (by decide) (by decide),by decide,?_⟩⟩
  have:=k H1 n1.sm
  rw [←Dh] at this
  exact this
inductive DW (H:Hp) (W:Addr) (ls:List (List Nat)) (ω:List Nat→KM.Fra) (n:Nat):Prop
 | mk (kvs:_) (h0:H W=some (.dK kvs)) (h1:kvs.length≤n) (h2:∀l∈ls,∃o,valD kvs (Sum.inr (S l))=some (.ref o)∧H o=some (fr (ω l)))
inductive DO (H:Hp) (O:Addr) (ls:List (List Nat)) (on:List Nat→Option Nat) (n:Nat):Prop
 | mk (kvs:_) (h0:H O=some (.dK kvs)) (h1:kvs.length≤n) (h2:∀l∈ls,valD kvs (Sum.inr (S l))=(on l).map fun k:Nat=>V.int (k:Int))
def vy:Option (List Nat)→V
 | none=>.non
 | some l=>aA l
def cj (W O:Addr) (H H':Hp):Prop:=∀a o,a≠W→a≠O→H a=some o→H' a=some o
theorem cj.tup {W O a:Addr}{H H':Hp}{k1 k2:List (aU×V)}{us:List V} (h:cj W O H H') (hW:H W=some (.dK k1)) (hO:H O=some (.dK k2)) (ha:H a=some (.tup us)):H' a=some (.tup us):=
 h a _ (fun z=>by rw [z,hW] at ha;cases ha) (fun z=>by rw [z,hO] at ha;cases ha) ha
theorem lA (kvs:List (aU×V)) (k:aU) (v:V):(dF kvs k v).length≤kvs.length+1:=by
 unfold dF
 split
 ·rw [List.length_map];trivial
 ·rw [List.length_append];exact Nat.le_refl _
theorem o8 {a b:List Nat} (h:a≠b):(Sum.inr (S a):aU)≠Sum.inr (S b):=fun z=>by
 injection z with z
 exact h (qh z)
theorem fe.tok {ls:List (List Nat)}{t:ag} (h:fe ls t):jB ls t:=⟨h.b,h.e,h.ne,h.g1,h.fg.pos⟩
inductive Cv (vs:List V) (H:Hp) (Q:VK):Prop
 | mk (v:V) (W O:Addr) (ls:List (List Nat)) (ts:List ag) (s:LS) (p n c:Nat) (h0:vs=[v,.ref W,.ref O]) (h1:bc ED H v (dM ls ts)) (h2:(∀t∈ts,fe ls t)) (h3:ts.length≤40) (h4:¬W=O) (h5:DW H W ls s.ω n) (h6:DO H O ls s.on n) (h7:n≤3000) (h8:(∀l∈ls,Gb c c (s.ω l)∧1≤(s.ω l).1)) (h9:c≤2000) (h10:∀H':Hp,cj W O H H'→DW H' W ls (ib p ts s).ω (n+ts.length)→DO H' O ls (ib p ts s).on (n+ts.length)→(∀l∈ls,Gb (c+6*ts.length) (c+6*ts.length) ((ib p ts s).ω l)∧1≤((ib p ts s).ω l).1)→Q (vy (ib p ts s).lf) H')
def C7:Sp:=fun vs H Q _=>Cv  vs H Q
theorem pc (T:Txt K mg):bD P w K mg base CX0 4 T.lift_once_.f T.lift_once_.d ["net", "worths", "onward"] C7:=by
 have G_is_shut:=xN (P:=P) (w:=w) (base:=base) T
 have G_times:=Am (P:=P) (w:=w) (base:=base) T
 have G_compared:=wY (P:=P) (w:=w) (base:=base) T
 refine T.lift_once_.F.ok bR (fun vs H Q E h=>?_) (fun cdv A outer s H vs Q E hr h=>?_)
 ·obtain ⟨v,W,O,ls,ts,st,p,n,c,rfl,_⟩:=h
  rfl
 ·obtain ⟨v,W,O,ls,ts,st,p,n,c,rfl,hv,tc,h40,nWO,⟨kv0,hW0,lW0,vW0⟩,⟨ko0,hO0,lO0,vO0⟩,hn,gω,hc,k⟩:=h
  obtain ⟨na,pa,ta,ys,rfl,hna,hpa,hta,ity⟩:=dQ hv
  have lys:ys.length=ts.length:=by rw [ity.length,List.length_map]
  refine ⟨_,(@ae _ _ _ _ _ (@aE _ _ (3) _ _ _ _ bR.nd rfl (Or.inl gn) (@db _ _ _) (by rfl) (by first | exact .inl rfl | exact .inr rfl | assumption)) (@ae _ _ _ _ _ (@e8 _ _ _ _ _ _ _ _ PassesOwn.never rfl (@wb _ (K) _ _ _ _ _ _ _ mZ T.b_enumerate (@aa _ _ _ _ _ (@aq _ _ _ _ _ _ _ (@aR _ (K) (by rfl)) (@pw _ 0 _ _ (Or.inl sO) (by rfl) (by decide) (by decide)) (@ad _ _ _ _) (fun _ _=>rfl)) (@ac _) rfl) (by rfl) (by rfl)) (@cP _ (K) _ _ _ _ (2) rfl (@aP _ _ _ _ _ (@au _ _ (4) _ bR.nd rfl (Or.inl jH) (by first | exact .inl rfl | exact .inr rfl | assumption)) (@aP _ _ _ _ _ (@au _ _ (5) _ bR.nd rfl (Or.inl iM) (by first | exact .inl rfl | exact .inr rfl | assumption)) (@cN _) (by rfl)) (by rfl)) (by rfl) (by rfl) (by rfl)) (@ae _ _ _ _ _ (@d9 _ _ _ _ _ _ (@pw _ 5 _ _ (Or.inl iM) (by rfl) (by decide) (by decide)) (@cP _ (K) _ _ _ _ (5) rfl (@aP _ _ _ _ _ (@au _ _ (6) _ bR.nd rfl (Or.inl cw) (by first | exact .inl rfl | exact .inr rfl | assumption)) (@aP _ _ _ _ _ (@au _ _ (7) _ bR.nd rfl (Or.inl i3) (by first | exact .inl rfl | exact .inr rfl | assumption)) (@aP _ _ _ _ _ (@au _ _ (8) _ bR.nd rfl (Or.inl rK) (by first | exact .inl rfl | exact .inr rfl | assumption)) (@aP _ _ _ _ _ (@au _ _ (9) _ bR.nd rfl (Or.inl kT) (by first | exact .inl rfl | exact .inr rfl | assumption)) (@aP _ _ _ _ _ (@au _ _ (10) _ bR.nd rfl (Or.inl qG) (by first | exact .inl rfl | exact .inr rfl | assumption)) (@cN _) (by rfl)) (by rfl)) (by rfl)) (by rfl)) (by rfl)) (by rfl) (by rfl) (by rfl)) (by rfl) (by rfl) (by rfl)) (@ae _ _ _ _ _ (@bH _ _ _ _ _ _ _ _ (@PW.pt _ _ _ (@iB _ _ _ _ _ _ _ (@dn _ _ _ (@ai _ _ _ _ _ _ _ _ _ _ _ _ _ _ _ _ G_is_shut (hr.mono (by decide)) oV T.is_shut_.m T.is_shut_.F.kp T.is_shut_.B .nil (@ay _) (@aa _ _ _ _ _ (@pw _ 5 _ _ (Or.inl iM) (by rfl) (by decide) (by decide)) (@ac _) rfl) (by decide) (by rfl) (by rfl)) (by intro _;rfl)) (@iF _ _ _ _ (@aK _ _ _ _ _ _ _ _ (@sW _) (@pw _ 7 _ _ (Or.inl i3) (by rfl) (by decide) (by decide)) (@pw _ 1 _ _ (Or.inl da) (by rfl) (by decide) (by decide)) rfl)))) (@ah _ _ _ (@wW _ _)) (@bd _)) (@ae _ _ _ _ _ (@aE _ _ (11) _ _ _ _ bR.nd rfl (Or.inl gQ) (@ai _ _ _ _ _ _ _ _ _ _ _ _ _ _ _ _ G_times (hr.mono (by decide)) qy T.times_.m T.times_.F.kp T.times_.B .nil (@ay _) (@aa _ _ _ _ _ (@pw _ 9 _ _ (Or.inl kT) (by rfl) (by decide) (by decide)) (@aa _ _ _ _ _ (@aq _ _ _ _ _ _ _ (@fK _) (@pw _ 1 _ _ (Or.inl da) (by rfl) (by decide) (by decide)) (@pw _ 7 _ _ (Or.inl i3) (by rfl) (by decide) (by decide)) (fun _ _=>rfl)) (@ac _) rfl) rfl) (by decide) (by rfl) (by rfl)) (by rfl) (by first | exact .inl rfl | exact .inr rfl | assumption)) (@ah _ _ _ (@bH _ _ _ _ _ _ _ _ (@PW.pt _ _ _ (@iB _ _ _ _ _ _ _ (@aK _ _ _ _ _ _ _ _ (@sW _) (@pw _ 6 _ _ (Or.inl cw) (by rfl) (by decide) (by decide)) (@pw _ 1 _ _ (Or.inl da) (by rfl) (by decide) (by decide)) rfl) (@iF _ _ _ _ (@aK _ _ _ _ _ _ _ _ (@jA _) (@ai _ _ _ _ _ _ _ _ _ _ _ _ _ _ _ _ G_compared (hr.mono (by decide)) oD T.compared_.m T.compared_.F.kp T.compared_.B .nil (@ay _) (@aa _ _ _ _ _ (@pw _ 11 _ _ (Or.inl gQ) (by rfl) (by decide) (by decide)) (@aa _ _ _ _ _ (@aq _ _ _ _ _ _ _ (@fK _) (@pw _ 1 _ _ (Or.inl da) (by rfl) (by decide) (by decide)) (@pw _ 6 _ _ (Or.inl cw) (by rfl) (by decide) (by decide)) (fun _ _=>rfl)) (@ac _) rfl) rfl) (by decide) (by rfl) (by rfl)) (@ad _ _ _ _) (@aG _ _ (by decide) (by decide)))))) (@ae _ _ _ _ _ (@d9 _ _ _ _ _ _ (@pw _ 11 _ _ (Or.inl gQ) (by rfl) (by decide) (by decide)) (@mJ _ _ _ _ _ _ _ (@pw _ 1 _ _ (Or.inl da) (by rfl) (by decide) (by decide)) (@pw _ 6 _ _ (Or.inl cw) (by rfl) (by decide) (by decide)) (@rG _) (by intro _;rfl)) (by rfl) (by rfl) (by rfl)) (@ae _ _ _ _ _ (@d9 _ _ _ _ _ _ (@pw _ 4 _ _ (Or.inl jH) (by rfl) (by decide) (by decide)) (@mJ _ _ _ _ _ _ _ (@pw _ 2 _ _ (Or.inl pT) (by rfl) (by decide) (by decide)) (@pw _ 6 _ _ (Or.inl cw) (by rfl) (by decide) (by decide)) (@rG _) (by intro _;rfl)) (by rfl) (by rfl) (by rfl)) (@ah _ _ _ (@aE _ _ (3) _ _ _ _ bR.nd rfl (Or.inl gn) (@pw _ 6 _ _ (Or.inl cw) (by rfl) (by decide) (by decide)) (by rfl) (by first | exact .inl rfl | exact .inr rfl | assumption))))) (@bd _)))))) (by intro _;rfl)) (@ah _ _ _ (@aL _ _ _ _ (@pw _ 3 _ _ (Or.inl gn) (by rfl) (by decide) (by decide)))))),?_⟩
  refine bI fun Q1 nA=>nA _ _ ?_
  refine bS fun DB nB=>?_
  refine ⟨_,rfl,na,_,_,_,rfl,rfl,ap.of hna,rfl,ta,false,rfl,⟨ys,ap.of hta⟩,yA (xs:=ys) (fun i σ H'=>yy fun (v4 v5 v6 v7 v8 v9 v10 v11:Option V) (kv ko:List (aU×V))=>σ=[some (.ref na),some (.ref W),some (.ref O),some (vy (upTo p ts st i).lf),v4,v5,v6,v7,v8,v9,v10,v11]∧H' W=some (.dK kv)∧kv.length≤n+i∧(∀l∈ls,∃o,valD kv (Sum.inr (S l))=some (.ref o)∧H' o=some (fr ((upTo p ts st i).ω l)))∧H' O=some (.dK ko)∧ko.length≤n+i∧(∀l∈ls,valD ko (Sum.inr (S l))=((upTo p ts st i).on l).map fun k:Nat=>V.int (k:Int))∧(∀l∈ls,Gb (c+6*i) (c+6*i) ((upTo p ts st i).ω l)∧1≤((upTo p ts st i).ω l).1)∧cj W O H H') ⟨_,_,_,_,_,_,_,_,kv0,ko0,rfl,hW0,by trivial,vW0,hO0,by trivial,vO0,gω,fun _ _ _ _ h=>h⟩ ?_ ?_ ?_⟩
  ·rintro i σ H' _ ⟨v4,v5,v6,v7,v8,v9,v10,v11,kv,ko,rfl,_,_,_,_,_,_,_,f2⟩
   exact ap.of (f2.tup hW0 hO0 hta)
  ·rintro i x T' σ J0 hx hT ⟨v4,v5,v6,v7,v8,v9,v10,v11,kv,ko,rfl,hW,lW,vW,hO,lO,vO,gω,f2⟩
   have hi:i<ys.length:=(List.getElem?_eq_some_iff.mp hx).1
   have nT:Nw J0 T' (.tup [.int (i:Int),x]) (aN J0 T' (.tup [.int (i:Int),x])):=.mk' hT
   generalize aN J0 T' (.tup [.int (i:Int),x])=J1 at nT ⊢
   obtain ⟨dy,edy,gy⟩:=ity.get hx
   rw [List.getElem?_map] at edy
   obtain ⟨t,et,rfl⟩:=Option.map_eq_some_iff.mp edy
   have tt:=tc t (List.mem_of_getElem? et)
   have eU:=jI (p:=p) (s:=st) et
   obtain ⟨o,om,og,op,rfl,ho,hom,hog,hop⟩:=jq gy
   generalize upTo p ts st i=U at eU vW vO gω ⊢
   have up1:∀{a:Addr}{us:List V},H a=some (.tup us)→J1 a=some (.tup us):=fun h=>nT.sm _ _ (f2.tup hW0 hO0 h)
   have gyJ:bc ED J1 (.ref o) (lr t):=.tup (up1 ho) (.cons (.str _) (.cons (.str _) (.cons (lU (p:=t.most) (up1 hom)) (.cons (lU (p:=t.gain) (up1 hog)) (.cons (lU (p:=t.price) (up1 hop)) .nil)))))
   have grow:∀l∈ls,Gb (c+6*(i+1)) (c+6*(i+1)) (U.ω l)∧1≤(U.ω l).1:=fun l hl=>⟨(gω l hl).1.mono (by trivial) (by trivial),(gω l hl).2⟩
   have keep:∀{J:Hp}{w4 w5 w6 w7 w8 w9 w10 w11:Option V},cE U.ω t=false→ak J0 J→yy fun (v4 v5 v6 v7 v8 v9 v10 v11:Option V) (kv ko:List (aU×V))=>[some (V.ref na),some (.ref W),some (.ref O),some (vy U.lf),w4,w5,w6,w7,w8,w9,w10,w11]=[some (.ref na),some (.ref W),some (.ref O),some (vy (upTo p ts st (i+1)).lf),v4,v5,v6,v7,v8,v9,v10,v11]∧J W=some (.dK kv)∧kv.length≤n+(i+1)∧(∀l∈ls,∃o,valD kv (Sum.inr (S l))=some (.ref o)∧J o=some (fr ((upTo p ts st (i+1)).ω l)))∧J O=some (.dK ko)∧ko.length≤n+(i+1)∧(∀l∈ls,valD ko (Sum.inr (S l))=((upTo p ts st (i+1)).on l).map fun k:Nat=>V.int (k:Int))∧(∀l∈ls,Gb (c+6*(i+1)) (c+6*(i+1)) ((upTo p ts st (i+1)).ω l)∧1≤((upTo p ts st (i+1)).ω l).1)∧cj W O H J:=by
    intro J w4 w5 w6 w7 w8 w9 w10 w11 no sJ
    rw [eU,io no]
    exact ⟨_,_,_,_,_,_,_,_,kv,ko,rfl,sJ _ _ hW,by trivial,(fun l hl'=>let ⟨o',v',h'⟩:=vW l hl';⟨o',v',sJ _ _ h'⟩),sJ _ _ hO,by trivial,vO,grow,fun a u h1 h2 h=>sJ _ _ (f2 a u h1 h2 h)⟩
   refine ⟨T',_,rfl,ap.of nT.at',rfl,_,_,rfl,_,_,rfl,rfl,?_⟩
   dsimp only
   refine ⟨_,rfl,o,_,rfl,ap.of (up1 ho),rfl,_,_,rfl,_,_,rfl,_,_,rfl,_,_,rfl,_,_,rfl,rfl,?_⟩
   dsimp only
   refine x0 (fun σ' H'=>t.most≠(0,1)∧σ'=[some (.ref na),some (.ref W),some (.ref O),some (vy U.lf),some (.int (i:Int)),some (.ref o),some (.str (S t.bg)),some (.str (S t.en)),some (.ref om),some (.ref og),some (.ref op),v11]∧ak J1 H') ?_ fun nx=>?_
   ·rintro σ' J2 ⟨hopen,rfl,s2⟩
    have s02:=nT.sm.trans s2
    obtain ⟨oe,ve,hoe⟩:=vW t.en tt.e
    obtain ⟨ob,vb,hob⟩:=vW t.bg tt.b
    obtain ⟨ge,pe1⟩:=gω t.en tt.e
    obtain ⟨gb,pb1⟩:=gω t.bg tt.b
    obtain ⟨g1,g2⟩:=gz tt.fg (by decide) (by decide)
    obtain ⟨e1,e2⟩:=gz ge (by trivial) (by trivial)
    obtain ⟨b1,b2⟩:=gz gb (by trivial) (by trivial)
    refine bI fun Q2 nA2=>⟨_,rfl,_,rfl,_,rfl,W,kv,Sum.inr (S t.en),.ref oe,rfl,rfl,s02 _ _ hW,ve,og,oe,_,_,_,_,rfl,s2 _ _ (up1 hog),s02 _ _ hoe,⟨g1,g2,e1,e2,gd tt.fg ge⟩,fun q J3 n3=>nA2 _ _ ?_⟩
    have gq:Gb (c+6*(i+1)) (c+6*(i+1)) (KM.lTim t.gain (U.ω t.en)):=tt.fg.tim ge (by trivial) (by trivial)
    obtain ⟨q1,q2⟩:=gz gq (by trivial) (by trivial)
    have s03:=s02.trans n3.sm
    refine ⟨_,rfl,_,rfl,W,kv,Sum.inr (S t.bg),rfl,rfl,s03 _ _ hW,_,rfl,?_⟩
    rw [vb]
    refine bC ?_
    refine ⟨_,rfl,_,rfl,_,rfl,W,kv,Sum.inr (S t.bg),.ref ob,rfl,rfl,s03 _ _ hW,vb,q,ob,_,_,_,_,rfl,n3.at',s03 _ _ hob,q1,q2,b1,b2,_,_,rfl,rfl,_,rfl,?_⟩
    have ecmp:decide (0<wH ((KM.lTim t.gain (U.ω t.en)).1*(U.ω t.bg).2) ((U.ω t.bg).1*(KM.lTim t.gain (U.ω t.en)).2))=cE U.ω t:=by
     unfold cE
     rw [decide_eq_true hopen,Bool.true_and]
     exact DY
    refine jk (fun cnd=>?_) (fun cnd=>?_)
    ·have hl:cE U.ω t=true:=ecmp.symm.trans cnd
     refine bS fun DC nC=>⟨_,rfl,_,rfl,_,rfl,W,kv,Sum.inr (S t.bg),rfl,rfl,s03 _ _ hW,by trivial,fun J4 c4=>nC _ _ ?_⟩
     have hO4:=c4.ol O _ (fun z=>nWO z.symm) (s03 _ _ hO)
     refine bS fun DE nE=>⟨_,rfl,_,rfl,_,rfl,O,ko,Sum.inr (S t.bg),rfl,rfl,hO4,by trivial,fun J5 c5=>nE _ _ ?_⟩
     have tupJ:∀{a:Addr}{us:List V},J3 a=some (.tup us)→J5 a=some (.tup us):=fun {a us} h=>c5.ol a _ (fun z=>by rw [z,s03 _ _ hO] at h;cases h) (c4.ol a _ (fun z=>by rw [z,s03 _ _ hW] at h;cases h) h)
     have fin:yy fun (v4 v5 v6 v7 v8 v9 v10 v11:Option V) (kv ko:List (aU×V))=>[some (V.ref na),some (.ref W),some (.ref O),some (.str (S t.bg)),some (.int (i:Int)),some (.ref o),some (.str (S t.bg)),some (.str (S t.en)),some (.ref om),some (.ref og),some (.ref op),some (.ref q)]=[some (.ref na),some (.ref W),some (.ref O),some (vy (upTo p ts st (i+1)).lf),v4,v5,v6,v7,v8,v9,v10,v11]∧J5 W=some (.dK kv)∧kv.length≤n+(i+1)∧(∀l∈ls,∃o,valD kv (Sum.inr (S l))=some (.ref o)∧J5 o=some (fr ((upTo p ts st (i+1)).ω l)))∧J5 O=some (.dK ko)∧ko.length≤n+(i+1)∧(∀l∈ls,valD ko (Sum.inr (S l))=((upTo p ts st (i+1)).on l).map fun k:Nat=>V.int (k:Int))∧(∀l∈ls,Gb (c+6*(i+1)) (c+6*(i+1)) ((upTo p ts st (i+1)).ω l)∧1≤((upTo p ts st (i+1)).ω l).1)∧cj W O H J5:=by
      rw [eU,jF hl]
      refine ⟨_,_,_,_,_,_,_,_,_,_,rfl,c5.ol W _ nWO c4.at',by have:=lA kv (Sum.inr (S t.bg)) (.ref q);trivial,fun l hl'=>?_,c5.at',by have:=lA ko (Sum.inr (S t.bg)) (.int (i:Int));trivial,fun l hl'=>?_,fun l hl'=>?_,fun a u h1 h2 h=>c5.ol a _ h2 (c4.ol a _ h1 (s03 _ _ (f2 a u h1 h2 h)))⟩
      ·rw [jL]
       by_cases cl:l=t.bg
       ·subst cl
        refine ⟨q,if_pos rfl,?_⟩
        show J5 q=some (fr (dH _ _ _ _))
        unfold dH
        rw [if_pos rfl]
        exact tupJ n3.at'
       ·rw [if_neg (o8 cl)]
        obtain ⟨o',v',h'⟩:=vW l hl'
        refine ⟨o',v',?_⟩
        show J5 o'=some (fr (dH _ _ _ _))
        unfold dH
        rw [if_neg cl]
        exact tupJ (s03 _ _ h')
      ·rw [jL]
       by_cases cl:l=t.bg
       ·subst cl
        rw [if_pos rfl]
        show _=Option.map _ (if _ then _ else _)
        rw [if_pos rfl]
        rfl
       ·rw [if_neg (o8 cl),vO l hl']
        show _=Option.map _ (if _ then _ else _)
        rw [if_neg cl]
      ·show Gb _ _ (dH _ _ _ _)∧1≤(dH _ _ _ _).1
       unfold dH
       by_cases cl:l=t.bg
       ·rw [if_pos cl];exact ⟨gq,tQ tt.g1 tt.fg.pos pe1 ge.pos⟩
       ·rw [if_neg cl];exact grow l hl'
     exact ⟨_,rfl,fin⟩
    ·have hl:cE U.ω t=false:=by
      rw [←ecmp]
      exact Bool.eq_false_iff.mpr cnd
     exact keep hl s03
   ·refine ⟨_,rfl,.ref o,t,ls,rfl,gyJ,tt,fun J2 s2=>⟨_,rfl,?_⟩⟩
    have s02:=nT.sm.trans s2
    by_cases hs:t.most=(0,1)
    ·rw [decide_eq_true hs]
     refine bW (bW ?_)
     exact keep (by unfold cE;rw [decide_eq_false (fun z=>z hs)];rfl) s02
    ·rw [decide_eq_false hs]
     obtain ⟨oe,ve,hoe⟩:=vW t.en tt.e
     refine bC ⟨_,rfl,_,rfl,W,kv,Sum.inr (S t.en),rfl,rfl,s02 _ _ hW,_,rfl,?_⟩
     rw [ve]
     exact bC (nx _ _ ⟨hs,rfl,s2⟩)
  ·rintro σ J ⟨v4,v5,v6,v7,v8,v9,v10,v11,kv,ko,rfl,hW,lW,vW,hO,lO,vO,gω,f2⟩
   rw [lys] at lW lO gω vW vO ⊢
   exact nB _ _ ⟨_,rfl,k J f2 ⟨kv,hW,by trivial,vW⟩ ⟨ko,hO,by trivial,vO⟩ fun l hl=>⟨(gω l hl).1.mono (by trivial) (by trivial),(gω l hl).2⟩⟩
end
end K11
namespace K11
open PySem L2
set_option maxHeartbeats 4000000
def zI (ts:List ag) (i:Nat):Bool:=((ts[i]?).map fun t=>decide (0<t.most.1)).getD false
def bU (ts:List ag) (n:Nat):List Nat:=(List.range n).filter (zI ts)
abbrev bf (xs:List Nat):List V:=xs.map fun i:Nat=>V.int ((i:Nat):Int)
theorem jQ {ts:List ag}{n:Nat}{t:ag} (h:ts[n]?=some t):bU ts (n+1)=if 0<t.most.1 then bU ts n++[n] else bU ts n:=by
 have e:zI ts n=decide (0<t.most.1):=by unfold zI;rw [h];rfl
 unfold bU
 rw [List.range_succ,List.filter_append]
 by_cases q:0<t.most.1
 ·rw [if_pos q];simp [e,q]
 ·rw [if_neg q];simp [e,q]
theorem k6 (ts:List ag) (n:Nat):(bU ts n).length≤n:=by
 unfold bU
 exact Nat.le_trans (List.length_filter_le ..) (by simp)
theorem rQ {ls:List (List Nat)}{t:ag} (h:fe ls t):(0<t.most.1)↔t.most≠(0,1):=by
 constructor
 ·intro q z;rw [z] at q;exact absurd q (by decide)
 ·intro q
  have h0:=h.m0
  by_cases c:0<t.most.1
  ·exact c
  ·exfalso
   have e:t.most.1=0:=by trivial
   have g:=h.mc
   rw [e,Int.gcd_zero_left] at g
   have p:=h.fm.pos
   have e2:t.most.2=1:=by trivial
   exact q (Prod.ext e e2)
section
variable {P:Program}{w:World}{K:PySem.W.Frag}{mg:Str→Option Value}{base:Heap}
inductive yO (vs:List V) (H:Hp) (Q:VK):Prop
 | mk (v:V) (ls:List (List Nat)) (ts:List ag) (h0:vs=[v]) (h1:bc ED H v (dM ls ts)) (h2:ts.length≤40) (h3:∀D H',ak H H'→H D=none→H' D=some (.lst (bf (bU ts ts.length)))→Q (.ref D) H')
def Ay:Sp:=fun vs H Q _=>yO  vs H Q
theorem pQ (T:Txt K mg):bD P w K mg base CX0 1 T.l_opened_.f T.l_opened_.d ["_law_net"] Ay:=by
 refine T.l_opened_.F.ok wX (fun vs H Q E h=>?_) (fun cdv A outer s H vs Q E hr h=>?_)
 ·obtain ⟨v,ls,ts,rfl,_⟩:=h
  rfl
 ·obtain ⟨v,ls,ts,rfl,hv,h40,k⟩:=h
  obtain ⟨na,pa,ta,ys,rfl,hna,hpa,hta,ity⟩:=dQ hv
  have lys:ys.length=ts.length:=by rw [ity.length,List.length_map]
  refine ⟨_,(@ah _ _ _ (@aL _ _ _ _ (@cO _ _ _ _ _ _ _ (["_law_number", "_law_tie"]) (2) ([]) _ _ _ _ rfl (by kernel_rfl) (@wb _ (K) _ _ _ _ _ _ _ oH T.b_enumerate (@aa _ _ _ _ _ (@aq _ _ _ _ _ _ _ (@aR _ (K) (by rfl)) (@pw _ 0 _ _ (Or.inl rn) (by rfl) (by decide) (by decide)) (@ad _ _ _ _) (fun _ _=>rfl)) (@ac _) rfl) (by rfl) (by rfl)) (fun _ _ _ _ _ _=>(@cP _ (K) _ _ _ _ (2) rfl (@aP _ _ _ _ _ (@au _ _ (0) _ (@cg _ (by kernel_rfl)) rfl (Or.inl (by kernel_rfl)) (by first | exact .inl rfl | exact .inr rfl | assumption)) (@aP _ _ _ _ _ (@au _ _ (1) _ (@cg _ (by kernel_rfl)) rfl (Or.inl (by kernel_rfl)) (by first | exact .inl rfl | exact .inr rfl | assumption)) (@cN _) (by rfl)) (by rfl)) (by rfl) (by rfl) (by rfl))) (fun _ _ _ _ _ _=>(@Au _ _ _ (@aK _ _ _ _ _ _ _ _ (@jA _) (@aq _ _ _ _ _ _ _ (@aR _ (K) (by rfl)) (@aq _ _ _ _ _ _ _ (@aR _ (K) (by rfl)) (@pw _ 1 _ _ (Or.inl (by kernel_rfl)) (by rfl) (by decide) (by decide)) (@ad _ _ _ _) (fun _ _=>rfl)) (@ad _ _ _ _) (fun _ _=>rfl)) (@ad _ _ _ _) (@aG _ _ (by decide) (by decide))))) (fun _ _ _ _ _ _=>(@pw _ 0 _ _ (Or.inl (by kernel_rfl)) (by rfl) (by decide) (by decide))) (by intro _;rfl)))),?_⟩
  refine ⟨_,rfl,na,_,_,_,rfl,rfl,ap.of hna,rfl,ta,false,rfl,⟨ys,ap.of hta⟩,fun D hD=>pO (n:=ys.length) (fun i H' zs=>H' D=some (.lst zs)∧zs=bf (bU ts i)∧ak H H') (fw (by trivial)) ⟨am,rfl,ak.new hD⟩ ?_ ?_ ?_ ?_ ?_⟩
  ·rintro i H' zs ⟨e1,rfl,_⟩
   exact ⟨e1,by rw [List.length_map];exact k6 ts i⟩
  ·rintro i H' zs hi ⟨_,_,sm⟩
   exact ⟨ys,ys[i],ap.of (sm _ _ hta),List.getElem?_eq_getElem hi⟩
  ·rintro H' zs ⟨_,_,sm⟩
   exact ⟨ys,ap.of (sm _ _ hta),rfl⟩
  ·rintro i H' zs x H'' hi ⟨hD',rfl,sm⟩ ⟨T',y,hT,rfl,rfl,ex⟩
   have hx:=ex ys (ap.of (sm _ _ hta))
   obtain ⟨dy,edy,gy⟩:=ity.get hx
   rw [List.getElem?_map] at edy
   obtain ⟨t,et,rfl⟩:=Option.map_eq_some_iff.mp edy
   obtain ⟨o,om,og,op,rfl,ho,hom,hog,hop⟩:=jq gy
   have nT:Nw H' T' (.tup [.int (i:Int),.ref o]) (aN H' T' (.tup [.int (i:Int),.ref o])):=.mk' hT
   generalize aN H' T' (.tup [.int (i:Int),.ref o])=J at nT ⊢
   have sJ:=sm.trans nT.sm
   refine ⟨T',_,rfl,ap.of nT.at',rfl,_,_,rfl,_,_,rfl,rfl,xW,?_⟩
   refine ⟨_,rfl,o,_,_,_,rfl,rfl,ap.of (sJ _ _ ho),rfl,om,_,_,_,rfl,rfl,ap.of (sJ _ _ hom),rfl,_,_,rfl,rfl,_,rfl,?_⟩
   by_cases q:0<t.most.1
   ·rw [show decide (t.most.1 > 0)=true from decide_eq_true q]
    refine bW ⟨_,rfl,nT.sm _ _ hD',am,?_,bM hD sJ⟩
    rw [jQ et,if_pos q]
    simp [bf]
   ·rw [show decide (t.most.1 > 0)=false from decide_eq_false q]
    refine bC ⟨nT.sm _ _ hD',?_,sJ⟩
    rw [jQ et,if_neg q]
  ·rintro H' zs ⟨e1,rfl,sm⟩
   rw [lys] at e1
   exact k D H' sm hD e1
end
end K11
namespace K11
open PySem L2
set_option maxHeartbeats 4000000
theorem pM {c:TT}{tb:TS}{D:df}{σ:St}{H:Hp} (Pv:Nat→St→Hp→Prop) (m:Nat) (h0:Pv m σ H)
 (hs:∀m σ H,Pv m σ H→∀(Q:Bool→Hp→Prop) (D':df),(∀m' σ' H',m'<m→Pv m' σ' H'→D'.nx σ' H')→(∀v H',D.rt v H'→D'.rt v H')→(∀H1,tb D' σ H1→Q true H1)→(∀H1,D.nx σ H1→Q false H1)→c σ H Q):yE c tb D σ H:=by
 refine ⟨Pv,⟨m,h0⟩,fun m σ H h=>?_⟩
 refine hs m σ H h _ { D with nx:=fun σ' H'=>∃m',m'<m∧Pv m' σ' H',ct:=fun σ' H'=>∃m',m'<m∧Pv m' σ' H',bk:=D.nx } (fun m' σ' H' hm hp=>⟨m',hm,hp⟩) (fun _ _ z=>z) (fun H1 t=>?_) fun H1 t=>?_
 ·rw [if_pos rfl]
  exact ⟨_,fun _ _ z=>z,t⟩
 ·rw [if_neg (by decide)]
  exact t
theorem zd {xs:List V}{j:Nat} (h:j≤xs.length):jm xs (some (j:Int)) none=xs.drop j:=by
 unfold jm
 rw [HT.sIx_none,HT.sIx_nat,Nat.min_eq_left h]
 exact List.take_of_length_le (by rw [List.length_drop];exact Nat.le_refl _)
section
variable {P:Program}{w:World}{K:PySem.W.Frag}{mg:Str→Option Value}{base:Heap}
inductive AR (vs:List V) (H:Hp) (Q:VK):Prop
 | mk (v:V) (O:Addr) (ls:List (List Nat)) (ts:List ag) (st:LS) (l0:List Nat) (n:Nat) (h0:vs=[v,.ref O,aA l0]) (h1:bc ED H v (dM ls ts)) (h2:(∀t∈ts,fe ls t)) (h3:ls.length≤10) (h4:DO H O ls st.on n) (h5:BI ls ts ls.length ts.length st) (h6:st.lf=some l0) (h7:∀(R:List Nat) (us:List ag) (r:Addr) (H':Hp),fZ ts R us→R.length≤10→ak H H'→H r=none→H' r=some (.lst (bf R))→Q (.ref r) H')
def Cb:Sp:=fun vs H Q _=>AR  vs H Q
theorem tE (T:Txt K mg):bD P w K mg base CX0 1 T.round_ahead_.f T.round_ahead_.d ["net", "onward", "place"] Cb:=by
 refine T.round_ahead_.F.ok gH (fun vs H Q E h=>?_) (fun cdv A outer s H vs Q E hr h=>?_)
 ·obtain ⟨v,O,ls,ts,st,l0,n,rfl,_⟩:=h
  rfl
 ·obtain ⟨v,O,ls,ts,st,l0,n,rfl,hv,tc,l10,⟨ko,hO,lO,vO⟩,bi,elf,k⟩:=h
  obtain ⟨na,pa,ta,ys,rfl,hna,hpa,hta,ity⟩:=dQ hv
  have tk:∀t∈ts,jB ls t:=fun t ht=>(tc t ht).tok
  refine ⟨_,(@ae _ _ _ _ _ (@aE _ _ (3) _ _ _ _ gH.nd rfl (Or.inl dD) (@bO _ _ _ _ (@ac _)) (by rfl) (by first | exact .inl rfl | exact .inr rfl | assumption)) (@ae _ _ _ _ _ (@aE _ _ (4) _ _ _ _ gH.nd rfl (Or.inl gB) (@bO _ _ _ _ (@ac _)) (by rfl) (by first | exact .inl rfl | exact .inr rfl | assumption)) (@ae _ _ _ _ _ (@kM _ _ _ _ _ _ PassesOwn.never (@aK _ _ _ _ _ _ _ _ (@xq _ (K) (by rfl)) (@pw _ 2 _ _ (Or.inl b8) (by rfl) (by decide) (by decide)) (@pw _ 3 _ _ (Or.inl dD) (by rfl) (by decide) (by decide)) rfl) (@ae _ _ _ _ _ (@fM _ _ _ _ (@fQ _ (K) _ _ _ _ _ _ _ _ _ _ _ PySem.F.plainAttrs_list PySem.F.slot_list_append PySem.F.type_list_append (@iy _) (@pw _ 3 _ _ (Or.inl dD) (by rfl) (by decide) (by decide)) (@aa _ _ _ _ _ (@pw _ 2 _ _ (Or.inl b8) (by rfl) (by decide) (by decide)) (@ac _) rfl) (by rfl) (by rfl) (by rfl) (by rfl) (by rfl) (by rfl)) (by rfl)) (@ae _ _ _ _ _ (@fM _ _ _ _ (@fQ _ (K) _ _ _ _ _ _ _ _ _ _ _ PySem.F.plainAttrs_list PySem.F.slot_list_append PySem.F.type_list_append (@iy _) (@pw _ 4 _ _ (Or.inl gB) (by rfl) (by decide) (by decide)) (@aa _ _ _ _ _ (@aq _ _ _ _ _ _ _ (@fK _) (@pw _ 1 _ _ (Or.inl i9) (by rfl) (by decide) (by decide)) (@pw _ 2 _ _ (Or.inl b8) (by rfl) (by decide) (by decide)) (fun _ _=>rfl)) (@ac _) rfl) (by rfl) (by rfl) (by rfl) (by rfl) (by rfl) (by rfl)) (by rfl)) (@ah _ _ _ (@aE _ _ (2) _ _ _ _ gH.nd rfl (Or.inl b8) (@aq _ _ _ _ _ _ _ (@aR _ (K) (by rfl)) (@aq _ _ _ _ _ _ _ (@aR _ (K) (by rfl)) (@aq _ _ _ _ _ _ _ (@aR _ (K) (by rfl)) (@pw _ 0 _ _ (Or.inl qH) (by rfl) (by decide) (by decide)) (@ad _ _ _ _) (fun _ _=>rfl)) (@aq _ _ _ _ _ _ _ (@fK _) (@pw _ 1 _ _ (Or.inl i9) (by rfl) (by decide) (by decide)) (@pw _ 2 _ _ (Or.inl b8) (by rfl) (by decide) (by decide)) (fun _ _=>rfl)) (fun _ _=>rfl)) (@ad _ _ _ _) (fun _ _=>rfl)) (by rfl) (by first | exact .inl rfl | exact .inr rfl | assumption)))))) (@ah _ _ _ (@aL _ _ _ _ (@gv _ _ _ _ _ _ _ _ _ _ (@jo _ (K) (by rfl)) (@pw _ 4 _ _ (Or.inl gB) (by rfl) (by decide) (by decide)) (@gJ _ _ _ (@fQ _ (K) _ _ _ _ _ _ _ _ _ _ _ PySem.F.plainAttrs_list PySem.F.slot_list_index PySem.F.type_list_index (@yP _) (@pw _ 3 _ _ (Or.inl dD) (by rfl) (by decide) (by decide)) (@aa _ _ _ _ _ (@pw _ 2 _ _ (Or.inl b8) (by rfl) (by decide) (by decide)) (@ac _) rfl) (by rfl) (by rfl) (by rfl) (by rfl) (by rfl) (by rfl))) (@jn _))))))),?_⟩
  refine bI fun Q1 nA1=>⟨Nat.zero_le _,fun pl J1 n1=>nA1 _ _ ?_⟩
  refine bI fun Q2 nA2=>⟨Nat.zero_le _,fun tl J2 n2=>nA2 _ _ ?_⟩
  have fpl:H pl=none:=n1.fr
  have ftl:H tl=none:=n1.sm.free n2.fr
  have nlt:¬pl=tl:=fun z=>by have:=n2.fr;rw [←z,n1.at'] at this;cases this
  refine bS fun DB nB=>?_
  refine pM (fun m σ H'=>fJ fun (us:List ag) (ks:List Nat) (c:List Nat)=>σ=[some (.ref na),some (.ref O),some (aA c),some (.ref pl),some (.ref tl)]∧m=ls.length - us.length∧H' pl=some (.lst ((us.map (·.bg)).map aA))∧H' tl=some (.lst (bf ks))∧ks.map (fun k=>ts[k]?)=us.map some∧(∀t∈us,t.most≠(0,1))∧(∀t∈us,Ed st t)∧(us.map (·.bg)).Nodup∧us.map (·.bg)++[c]=l0 :: us.map (·.en)∧c∈ls∧ls.length≤st.la c+us.length∧(∀t∈us,t.bg∈ls)∧ak H H') ls.length ⟨[],[],l0,rfl,rfl,n2.sm _ _ n1.at',n2.at',rfl,(fun t h=>by cases h),(fun t h=>by cases h),List.nodup_nil,rfl,(bi.lf l0 elf).2,by rw [(bi.lf l0 elf).1];exact Nat.le_add_right _ _,(fun t h=>by cases h),n1.sm.trans n2.sm⟩ ?_
  rintro m σ H' ⟨us,ks,c,rfl,rfl,hpl,htl,e1,ho,he,nd,ch,hc,hla,sub,sm⟩ Q D' nD rD qT qF
  have lk:ks.length=us.length:=by have:=congrArg List.length e1;simpa using this
  have lus:us.length≤ls.length:=by
   have:=jp (xs:=us.map (·.bg)) (ys:=ls) nd fun x hx=>by
    obtain ⟨t,ht,rfl⟩:=List.mem_map.mp hx
    exact sub t ht
   rwa [List.length_map] at this
  refine ⟨_,rfl,_,rfl,pl,_,rfl,.inl (ax.of hpl),rfl,A2 _,_,rfl,?_⟩
  show Q (!si (aA c) _) _
  rw [Go]
  cases hcn:(us.map (·.bg)).contains c with
  | false=>
   refine qT _ ?_
   have nc:c∉us.map (·.bg):=fun z=>by
    have:=List.elem_eq_true_of_mem z
    rw [List.contains] at hcn
    rw [this] at hcn
    cases hcn
   have nd2:(us.map (·.bg)++[c]).Nodup:=List.nodup_append.mpr ⟨nd,by simp,fun a ha b hb=>by
    rw [List.mem_singleton.mp hb]
    exact fun z=>nc (z▸ha)⟩
   have ll:us.length+1≤ls.length:=by
    have:=jp (xs:=us.map (·.bg)++[c]) (ys:=ls) nd2 fun x hx=>by
     rcases List.mem_append.mp hx with z | z
     ·obtain ⟨t,ht,rfl⟩:=List.mem_map.mp z
      exact sub t ht
     ·rw [List.mem_singleton.mp z];exact hc
    rwa [List.length_append,List.length_map,List.length_singleton] at this
   obtain ⟨kk,ek⟩:∃kk,st.on c=some kk:=Option.ne_none_iff_exists'.mp (bi.la1 c (by trivial))
   obtain ⟨t,et,op,rfl,le1,lt1,la1⟩:=bi.on c kk ek
   have tt:=tc t (List.mem_of_getElem? et)
   have edt:Ed st t:=⟨kr tt.g1 tt.fg.pos,le1,lt1⟩
   have vo:valD ko (Sum.inr (S t.bg))=some (.int (kk:Int)):=by rw [vO t.bg hc,ek];rfl
   obtain ⟨y,ey⟩:∃y,ys[kk]?=some y:=⟨_,List.getElem?_eq_getElem (by rw [ity.length,List.length_map];exact (List.getElem?_eq_some_iff.mp et).1)⟩
   obtain ⟨dy,edy,gy⟩:=ity.get ey
   rw [List.getElem?_map,et] at edy
   obtain rfl:lr t=dy:=Option.some.inj edy
   obtain ⟨o,om,og,op',rfl,hto,_,_,_⟩:=jq gy
   refine bS fun DC nC=>⟨_,rfl,.inl ⟨rfl,_,ax.of hpl⟩,_,rfl,pl,_,_,rfl,rfl,hpl,by rw [List.length_map,List.length_map];trivial,fun J3 c3=>nC _ _ ?_⟩
   have sm3:ak H J3:=fun a u h=>c3.ol a u (fun z=>by rw [z,fpl] at h;cases h) (sm a u h)
   have htl3:=c3.ol tl _ (fun z=>nlt z.symm) htl
   refine bS fun DE nE=>⟨_,rfl,.inl ⟨rfl,_,ax.of htl3⟩,_,rfl,_,rfl,O,ko,Sum.inr (S t.bg),_,rfl,rfl,sm3 _ _ hO,vo,tl,_,_,rfl,rfl,htl3,by rw [List.length_map];trivial,fun J4 c4=>nE _ _ ?_⟩
   have sm4:ak H J4:=fun a u h=>c4.ol a u (fun z=>by rw [z,ftl] at h;cases h) (sm3 a u h)
   refine ⟨_,rfl,na,_,_,_,rfl,rfl,ap.of (sm4 _ _ hna),rfl,_,rfl,_,rfl,O,ko,Sum.inr (S t.bg),_,rfl,rfl,sm4 _ _ hO,vo,ta,ys,_,_,rfl,rfl,ap.of (sm4 _ _ hta),eX ey,o,_,_,_,rfl,rfl,ap.of (sm4 _ _ hto),rfl,?_⟩
   refine nD (ls.length - (us.length+1)) _ _ (by trivial) ⟨us++[t],ks++[kk],t.en,rfl,by rw [List.length_append];rfl,?_,?_,?_,?_,?_,?_,?_,tt.e,?_,?_,sm4⟩
   ·rw [c4.ol pl _ nlt c3.at']
    simp
   ·rw [c4.at']
    simp [bf]
   ·rw [List.map_append,List.map_append,e1]
    simp [et]
   ·intro x hx
    rcases List.mem_append.mp hx with z | z
    ·exact ho x z
    ·rw [List.mem_singleton.mp z];exact op
   ·intro x hx
    rcases List.mem_append.mp hx with z | z
    ·exact he x z
    ·rw [List.mem_singleton.mp z];exact edt
   ·rw [List.map_append];exact nd2
   ·rw [List.map_append,List.map_append]
    show (us.map (·.bg)++[t.bg])++[t.en]=_
    rw [ch]
    rfl
   ·rw [List.length_append,List.length_singleton];trivial
   ·intro x hx
    rcases List.mem_append.mp hx with z | z
    ·exact sub x z
    ·rw [List.mem_singleton.mp z];exact tt.b
  | true=>
   refine qF _ (nB _ _ ?_)
   obtain ⟨j,hj⟩:=List.getElem?_of_mem (List.contains_iff_mem.mp hcn)
   have lj:j<us.length:=by have:=(List.getElem?_eq_some_iff.mp hj).1;rwa [List.length_map] at this
   refine ⟨_,rfl,_,rfl,.inl ⟨rfl,_,ax.of hpl⟩,_,rfl,pl,_,c,j,rfl,rfl,hpl,by rw [List.length_map];trivial,hj,nd,_,rfl,tl,_,rfl,ax.of htl,fun r J3 n3=>?_⟩
   have rk:=DG tk bi.pos e1 ho he nd ch hj
   refine k (ks.drop j) (us.drop j) r J3 rk (by rw [List.length_drop];trivial) (sm.trans n3.sm) (sm.free n3.fr) ?_
   rw [n3.at',zd (by rw [List.length_map];trivial)]
   simp only [bf,List.map_drop]
end
end K11
namespace K11
open PySem L2
set_option maxHeartbeats 4000000
section
variable {P:Program}{w:World}{K:PySem.W.Frag}{mg:Str→Option Value}{base:Heap}
theorem sw {J:It}{n:Nat}{H1:Hp}{D:Addr}{σc:St}{g:TG}{tk tv:TE}{Q:VK} (Pv:Nat→Hp→List (aU×V)→Prop) (hz:n≤4000) (h0:Pv 0 (aN H1 D (.dK [])) [])
 (hD:∀i H ys,Pv i H ys→H D=some (.dK ys)∧ys.length≤i) (hgo:∀i H ys,i<n→Pv i H ys→J.go i H) (hst:∀H ys,Pv n H ys→J.stop n H)
 (hs:∀i H ys x H',i<n→Pv i H ys→J.yld i H x H'→g x σc H' fun σ2 H2=>jr σc σ2∧tk σ2 H2 fun kv H4=>∃k,kv=gU k∧tv σ2 H4 fun y H5=>H5 D=some (.dK ys)∧Pv (i+1) (aN H5 D (.dK (dF ys k y))) (dF ys k y))
 (hd:∀H ys,Pv n H ys→Q (.ref D) H):za J σc g tT tk tv D H1 Q:=by
 refine ⟨fun i m H ys=>m=n - i∧i≤n∧Pv i H ys,⟨n,by simp,Nat.zero_le _,h0⟩,?_⟩
 rintro i m H ys ⟨rfl,hi,p⟩
 obtain ⟨q1,q2⟩:=hD i H ys p
 refine ⟨q1,?_⟩
 by_cases hlt:i<n
 ·refine .inr ⟨hgo i H ys hlt p,by rw [sizeLine_eq];trivial,Pv (i+1),fun H' ys' p'=>⟨n - (i+1),by trivial,rfl,hlt,p'⟩,fun x H' y=>?_⟩
  have e:=hs i H ys x H' hlt p y
  have q:(fun (σ2:St) (H2:Hp)=>jr σc σ2∧tT σ2 H2 fun b H3=>if b=true then tk σ2 H3 fun kv H4=>∃k,kv=gU k∧tv σ2 H4 fun y H5=>H5 D=some (.dK ys)∧Pv (i+1) (aN H5 D (.dK (dF ys k y))) (dF ys k y) else Pv (i+1) H3 ys) =
   (fun σ2 H2=>jr σc σ2∧tk σ2 H2 fun kv H4=>∃k,kv=gU k∧tv σ2 H4 fun y H5=>H5 D=some (.dK ys)∧Pv (i+1) (aN H5 D (.dK (dF ys k y))) (dF ys k y)):=by
   funext σ2 H2
   unfold tT
   dsimp only
   rw [if_pos rfl]
  rw [q]
  exact e
 ·have e:i=n:=by trivial
  subst e
  exact .inl ⟨hst H ys p,hd H ys p⟩
inductive BC (vs:List V) (H:Hp) (Q:VK):Prop
 | mk (v:V) (ls:List (List Nat)) (ts:List ag) (h0:vs=[v]) (h1:bc ED H v (dM ls ts)) (h2:(∀t∈ts,fe ls t)) (h3:ts.length≤24) (h4:1≤ls.length) (h5:ls.length≤10) (h6:((∃m,m<ls.length∧(aO ts (m+1)).lf=none∧∀H',ak H H'→Q .non H')∨((∀m,m<ls.length→(aO ts (m+1)).lf≠none)∧∀(R:List Nat) (us:List ag) (r:Addr) (H':Hp),fZ ts R us→R.length≤10→ak H H'→H r=none→H' r=some (.lst (bf R))→Q (.ref r) H')))
def CU:Sp:=fun vs H Q _=>BC  vs H Q
theorem ii (T:Txt K mg):bD P w K mg base CX0 5 T.gaining_round_.f T.gaining_round_.d ["net"] CU:=by
 have G_lift_once:=pc (P:=P) (w:=w) (base:=base) T
 have G_round_ahead:=tE (P:=P) (w:=w) (base:=base) T
 refine T.gaining_round_.F.ok cK (fun vs H Q E h=>?_) (fun cdv A outer s H vs Q E hr h=>?_)
 ·obtain ⟨v,ls,ts,rfl,_⟩:=h
  rfl
 ·obtain ⟨v,ls,ts,rfl,hv,tc,h24,l1,l10,k⟩:=h
  obtain ⟨na,pa,ta,ys,rfl,hna,hpa,hta,ity⟩:=dQ hv
  refine ⟨_,(@ae _ _ _ _ _ (@wV _ _ _ _ _ _ _ _ (["place"]) (1) ([]) _ _ _ _ _ (1) _ _ _ cK.nd rfl hU (by kernel_rfl) rfl (by kernel_rfl) (@iq _ (K) _ _ _ (@aq _ _ _ _ _ _ _ (@aR _ (K) (by rfl)) (@pw _ 0 _ _ (Or.inl dW) (by rfl) (by decide) (by decide)) (@ad _ _ _ _) (fun _ _=>rfl)) (by rfl)) (fun _ _ _ _ _ _=>(@au _ _ (0) _ (@cg _ (by kernel_rfl)) rfl (Or.inl (by kernel_rfl)) (by first | exact .inl rfl | exact .inr rfl | assumption))) (fun _ _ _ _ _ _=>@bX _) (fun _ _ _ _ _ _=>(@pw _ 0 _ _ (Or.inl (by kernel_rfl)) (by rfl) (by decide) (by decide))) (fun _ _ _ _ _ _=>(@aF _ _ _ _ _ (@aa _ _ _ _ _ (@ad _ _ _ _) (@aa _ _ _ _ _ (@ad _ _ _ _) (@ac _) rfl) rfl))) (by intro _;rfl)) (@ae _ _ _ _ _ (@aE _ _ (2) _ _ _ _ cK.nd rfl (Or.inl eM) (@vL _ _) (by rfl) (by first | exact .inl rfl | exact .inr rfl | assumption)) (@ae _ _ _ _ _ (@aE _ _ (3) _ _ _ _ cK.nd rfl (Or.inl cR) (@db _ _ _) (by rfl) (by first | exact .inl rfl | exact .inr rfl | assumption)) (@ae _ _ _ _ _ (@e8 _ _ _ _ _ _ _ _ PassesOwn.never rfl (@dI _ _ _ _ _ _ mX T.b_range (@aa _ _ _ _ _ (@aB _ _ _ _ _ _ _ _ _ (@eS _ (K) (by rfl)) oZ T.b_len (@bw) (@aa _ _ _ _ _ (@aq _ _ _ _ _ _ _ (@aR _ (K) (by rfl)) (@pw _ 0 _ _ (Or.inl dW) (by rfl) (by decide) (by decide)) (@ad _ _ _ _) (fun _ _=>rfl)) (@ac _) rfl) (by decide) (by decide) (by rfl) (by rfl)) (@ac _) rfl) (by rfl)) (@au _ _ (4) _ cK.nd rfl (Or.inl oF) (by first | exact .inl rfl | exact .inr rfl | assumption)) (@ae _ _ _ _ _ (@aE _ _ (3) _ _ _ _ cK.nd rfl (Or.inl cR) (@ai _ _ _ _ _ _ _ _ _ _ _ _ _ _ _ _ G_lift_once (hr.mono (by decide)) ki T.lift_once_.m T.lift_once_.F.kp T.lift_once_.B .nil (@ay _) (@aa _ _ _ _ _ (@pw _ 0 _ _ (Or.inl dW) (by rfl) (by decide) (by decide)) (@aa _ _ _ _ _ (@pw _ 1 _ _ (Or.inl hU) (by rfl) (by decide) (by decide)) (@aa _ _ _ _ _ (@pw _ 2 _ _ (Or.inl eM) (by rfl) (by decide) (by decide)) (@ac _) rfl) rfl) rfl) (by decide) (by rfl) (by rfl)) (by rfl) (by first | exact .inl rfl | exact .inr rfl | assumption)) (@ah _ _ _ (@bH _ _ _ _ _ _ _ _ (@aK _ _ _ _ _ _ _ _ (@su _) (@pw _ 3 _ _ (Or.inl cR) (by rfl) (by decide) (by decide)) (@db _ _ _) (@aG _ _ (by decide) (by decide))) (@ah _ _ _ (@aL _ _ _ _ (@db _ _ _))) (@bd _)))) (by intro _;rfl)) (@ah _ _ _ (@aL _ _ _ _ (@ai _ _ _ _ _ _ _ _ _ _ _ _ _ _ _ _ G_round_ahead (hr.mono (by decide)) jP T.round_ahead_.m T.round_ahead_.F.kp T.round_ahead_.B .nil (@ay _) (@aa _ _ _ _ _ (@pw _ 0 _ _ (Or.inl dW) (by rfl) (by decide) (by decide)) (@aa _ _ _ _ _ (@pw _ 2 _ _ (Or.inl eM) (by rfl) (by decide) (by decide)) (@aa _ _ _ _ _ (@pw _ 3 _ _ (Or.inl cR) (by rfl) (by decide) (by decide)) (@ac _) rfl) rfl) rfl) (by decide) (by rfl) (by rfl)))))))),?_⟩
  refine bI fun Q1 nA1=>⟨_,rfl,na,_,_,_,rfl,rfl,ap.of hna,rfl,pa,rfl,⟨_,ap.of hpa⟩,fun W hW=>sw (n:=(ls.map aA).length) (fun i H' kv=>H' W=some (.dK kv)∧kv.length≤i∧(∀(j:Nat) l,j<i→ls[j]?=some l→∃o,valD kv (Sum.inr (S l))=some (.ref o)∧H' o=some (fr (1,1)))∧ak H H') (by rw [List.length_map];trivial) ⟨am,Nat.le_refl _,(fun j l h=>by trivial),ak.new hW⟩ ?_ ?_ ?_ ?_ ?_⟩
  ·rintro i H' kv ⟨e1,e2,_⟩
   exact ⟨e1,e2⟩
  ·rintro i H' kv hi ⟨_,_,_,sm⟩
   exact ⟨_,_,ap.of (sm _ _ hpa),List.getElem?_eq_getElem hi⟩
  ·rintro H' kv ⟨_,_,_,sm⟩
   exact ⟨_,ap.of (sm _ _ hpa),Nat.le_refl _⟩
  ·rintro i Ha kv x Hb hi ⟨eW,lW,vW,sm⟩ ⟨rfl,ex⟩
   have exi:=ex _ (ap.of (sm _ _ hpa))
   rw [List.length_map] at hi
   rw [List.getElem?_map,List.getElem?_eq_getElem hi] at exi
   obtain rfl:aA ls[i]=x:=Option.some.inj exi
   refine ⟨fB,_,rfl,Sum.inr (S ls[i]),rfl,(by show 2≤10000;decide),fun q J n1=>⟨n1.sm _ _ eW,am,?_,fun j l hj el=>?_,bM hW (sm.trans n1.sm)⟩⟩
   ·exact Nat.le_trans (lA _ _ _) (by trivial)
   ·have tupU:∀{a:Addr}{us:List V},J a=some (.tup us)→aN J W (.dK (dF kv (Sum.inr (S ls[i])) (.ref q))) a=some (.tup us):=fun {a us} h=>by
     rw [ao (fun z=>by rw [z,n1.sm _ _ eW] at h;cases h)];exact h
    rw [jL]
    by_cases c:l=ls[i]
    ·rw [c,if_pos rfl]
     exact ⟨q,rfl,tupU n1.at'⟩
    ·rw [if_neg (o8 c)]
     have hji:j<i:=by
      by_cases z:j=i
      ·subst z
       rw [List.getElem?_eq_getElem hi] at el
       exact absurd (Option.some.inj el).symm c
      ·trivial
     obtain ⟨o,v',h'⟩:=vW j l hji el
     exact ⟨o,v',tupU (n1.sm _ _ h')⟩
  rintro H1 kv ⟨eW,lW,vW,s1⟩
  rw [List.length_map] at lW vW
  refine nA1 _ _ ?_
  refine bI fun Q2 nA2=>fun O H2 n2=>nA2 _ _ ?_
  have nWO:¬W=O:=fun z=>by rw [←z] at n2;have:=n2.fr;rw [eW] at this;cases this
  have fO:H O=none:=s1.free n2.fr
  refine bI fun Q3 nA3=>nA3 _ _ ?_
  have s2:=s1.trans n2.sm
  have dw0:DW H2 W ls (fun _=>(1,1)) 10:=⟨kv,n2.sm _ _ eW,by trivial,fun l hl=>by
   obtain ⟨j,hj⟩:=List.getElem?_of_mem hl
   obtain ⟨o,v',h'⟩:=vW j l (List.getElem?_eq_some_iff.mp hj).1 hj
   exact ⟨o,v',n2.sm _ _ h'⟩⟩
  have same_of:∀{J:Hp},cj W O H2 J→ak H J:=fun f a o h=>f a o (fun z=>by rw [z,hW] at h;cases h) (fun z=>by rw [z,fO] at h;cases h) (s2 _ _ h)
  refine Hj fun DB nB rB=>?_
  refine ⟨_,rfl,na,_,_,_,rfl,rfl,ap.of (s2 _ _ hna),rfl,pa,_,rfl,.inr (ap.of (s2 _ _ hpa)),_,rfl,by trivial,by rw [List.length_map];trivial,?_⟩
  rw [List.length_map,Int.toNat_natCast]
  refine iw (fun i σ H'=>∃(v4:Option V),σ=[some (.ref na),some (.ref W),some (.ref O),some (vy (aO ts i).lf),v4]∧(∀m,m<i→(aO ts (m+1)).lf≠none)∧DW H' W ls (aO ts i).ω (10+24*i)∧DO H' O ls (aO ts i).on (10+24*i)∧(∀l∈ls,Gb (1+144*i) (1+144*i) ((aO ts i).ω l)∧1≤((aO ts i).ω l).1)∧cj W O H2 H') ?_ ?_ ?_
  ·exact ⟨_,rfl,(fun m h=>by trivial),dw0,⟨[],n2.at',by simp,fun l hl=>rfl⟩,(fun l hl=>⟨vX,(by show (1:Int)≤1;decide)⟩),fun _ _ _ _ h=>h⟩
  ·rintro i σ J hi ⟨v4,rfl,hno,dw,do',gω,f2⟩
   have hvJ:bc ED J (.ref na) (dM ls ts):=hv.mono (same_of f2).toE
   refine FC (t:=ik _ _) fun DC nC rC=>?_
   refine bI fun Q4 nA4=>⟨_,rfl,_,rfl,_,rfl,.ref na,W,O,ls,ts,aO ts i,i+1,10+24*i,1+144*i,rfl,hvJ,tc,by trivial,nWO,dw,do',by trivial,gω,by trivial,fun J2 f3 dw2 do2 gω2=>nA4 _ _ ?_⟩
   have es:ib (i+1) ts (aO ts i)=aO ts (i+1):=rfl
   rw [es] at dw2 do2 gω2 ⊢
   have f4:cj W O H2 J2:=fun a o h1 h2 h=>f3 a o h1 h2 (f2 a o h1 h2 h)
   cases e:(aO ts (i+1)).lf with
   | none=>
    refine ⟨_,rfl,rfl,_,rfl,bW (rC _ _ (rB _ _ ?_))⟩
    rcases k with ⟨m,_,_,k⟩ | ⟨k,_⟩
    ·exact k J2 (same_of f4)
    ·exact absurd e (k i hi)
   | some l=>
    refine ⟨_,rfl,rfl,_,rfl,bC (nC _ _ ?_)⟩
    obtain ⟨ko2,hO2,lO2,vO2⟩:=do2
    obtain ⟨kv2,hW2,lW2,vW2⟩:=dw2
    refine ⟨_,by rw [e];rfl,fun m hm=>?_,⟨kv2,hW2,by trivial,vW2⟩,⟨ko2,hO2,by trivial,vO2⟩,(fun l hl=>⟨(gω2 l hl).1.mono (by trivial) (by trivial),(gω2 l hl).2⟩),f4⟩
    by_cases c:m=i
    ·rw [c,e];intro z;cases z
    ·exact hno m (by trivial)
  ·rintro σ J ⟨v4,rfl,hno,dw,do',gω,f2⟩
   rcases k with ⟨m,hm,hm',_⟩ | ⟨_,k⟩
   ·exact absurd hm' (hno m hm)
   obtain ⟨n',en⟩:∃n',ls.length=n'+1:=⟨ls.length - 1,by trivial⟩
   obtain ⟨l0,e0⟩:=Option.ne_none_iff_exists'.mp (hno n' (by trivial))
   have e1:(aO ts ls.length).lf=some l0:=by rw [en];exact e0
   refine nB _ _ ?_
   have sJ:=same_of f2
   have hvJ:bc ED J (.ref na) (dM ls ts):=hv.mono sJ.toE
   refine ⟨_,rfl,_,rfl,_,rfl,.ref na,O,ls,ts,aO ts ls.length,l0,_,by rw [e1];rfl,hvJ,tc,l10,do',BI.st (fun t ht=>(tc t ht).tok) _,e1,fun R us r H' rk lR s' fr' hr'=>?_⟩
   exact k R us r H' rk lR (sJ.trans s') (sJ.free fr') hr'
end
end K11
namespace K11
open PySem L2
section
variable {P:Program}{w:World}{K:PySem.W.Frag}{mg:Str→Option Value}{base:Heap}
theorem Hw {H H1 H2:Hp}{y C dx:Addr}{fs:List (Str×V)} (fr:H y=none) (s:ak H H1) (hd:H1 dx=none) (ne:dx≠y) (e:H2=aN (aN H1 dx (.xd fs)) y (fj y C (some dx))):ak H H2∧HB H2 y C fs∧∀a o,H1 a=some o→a≠y→H2 a=some o:=by
 subst e
 have k:∀a o,H1 a=some o→a≠y→aN (aN H1 dx (.xd fs)) y (fj y C (some dx)) a=some o:=fun a o h1 ny=>by
  have nd:a≠dx:=fun z=>by rw [z,hd] at h1;cases h1
  rw [ao ny,ao nd]
  exact h1
 exact ⟨fun a o h=>k a o (s _ _ h) (fun z=>by rw [z,fr] at h;cases h),.inr ⟨dx,am,by rw [ao ne];exact am⟩,k⟩
theorem HE {f:Str}{v:V}:([(f,v)]:List (Str×V)).lookup f=some v:=by simp [List.lookup]
inductive Bw (K:PySem.W.Frag) (f:Str) (vs:List V) (H:Hp) (Q:VK):Prop
 | mk (y C l:Addr) (ns:List Int) (ini:Option Value) (h0:vs=[.ref y,.ref l]) (h1:H y=some (fj y C none)) (h2:bN K C ini=true) (h3:fU K C f=true) (h4:H l=some (.lst (ns.map V.int))) (h5:∀p dx H1 H',Nw H p (.lst (ns.map V.int)) H1→H1 dx=none→dx≠y→H'=aN (aN H1 dx (.xd [(f,.ref p)])) y (fj y C (some dx))→Q .non H')
def EV (K:PySem.W.Frag) (f:Str):Sp:=fun vs H Q _=>Bw K f vs H Q
theorem wJ {E:Addr→Prop}{H:Hp}:∀ns:List Int,aQ E H (ns.map V.int) (ns.map PyData.int)
 | []=>.nil
 | i :: r=>.cons (.int i) (wJ r)
theorem yg (T:Txt K mg):bD P w K mg base CX0 1 T.f_Gaining__init T.d_Gaining__init ["self", "ties"] (EV K "ties"):=by
 refine T.F_Gaining__init.ok rF (fun vs H Q E h=>?_) (fun cdv A outer s H vs Q E hr h=>?_)
 ·obtain ⟨y,C,l,ns,ini,rfl,_⟩:=h
  rfl
 ·obtain ⟨y,C,l,ns,ini,rfl,hy,hx,hs,hl,k⟩:=h
  refine ⟨_,(@ae _ _ _ _ _ (@fM _ _ _ _ (@AO _ _ _ _ _ _ _ _ _ _ T.xb_GainError kj T.m_GainError (@aa _ _ _ _ _ (@pw _ 0 _ _ (Or.inl iO) (by rfl) (by decide) (by decide)) (@aa _ _ _ _ _ (@dP _ _ _ _) (@ac _) rfl) rfl) (by decide) (by rfl) (by rfl) (by rfl)) (by rfl)) (@ah _ _ _ (@Ct _ _ _ _ _ _ _ _ (@pw _ 0 _ _ (Or.inl iO) (by rfl) (by decide) (by decide)) (@dR _ _ _ _ _ _ _ _ (@dn _ _ _ (@aB _ _ _ _ _ _ _ _ _ (@cp _ (K) (by rfl)) jY T.b_isinstance (@aI) (@aa _ _ _ _ _ (@pw _ 1 _ _ (Or.inl fz) (by rfl) (by decide) (by decide)) (@aa _ _ _ _ _ (@eh _ _ _ _ iZ T.b_list (@cX) (by decide) (by decide)) (@ac _) rfl) rfl) (by decide) (by decide) (by rfl) (by rfl)) (by intro _;rfl)) (@de _ _ _ _ _ _ _ _ _ (@uL _ (K) (by rfl)) iZ T.b_list (@cX) (@aa _ _ _ _ _ (@pw _ 1 _ _ (Or.inl fz) (by rfl) (by decide) (by decide)) (@ac _) rfl) (by decide) (by decide) (by rfl) (by rfl)) (@pw _ 1 _ _ (Or.inl fz) (by rfl) (by decide) (by decide))) rfl))),?_⟩
  have hd:bc (fun _=>False) H (.ref l) (.list (ns.map PyData.int)):=.lst hl id (wJ ns)
  refine ⟨_,rfl,y,_,C,ini,rfl,hy,hx,_,rfl,_,_,_,_,rfl,hd.ty,iu _,_,rfl,bW ⟨_,rfl,l,_,rfl,.inl (ax.of hl),fun p H1 n1=>?_⟩⟩
  exact ⟨_,rfl,y,C,rfl,n1.sm _ _ hy,hs,fun dx H' h1 h2 h3=>k p dx H1 H' n1 h1 h2 h3⟩
end
end K11
namespace K11
open PySem L2
set_option maxHeartbeats 4000000
section
variable {P:Program}{w:World}{K:PySem.W.Frag}{mg:Str→Option Value}{base:Heap}
inductive CH (g:Addr) (vs:List V) (H:Hp) (Q:VK) (E:XK):Prop
 | mk (v:V) (W:Addr) (ls:List (List Nat)) (ts:List ag) (h0:vs=[v,.ref W]) (h1:bc ED H v (dM ls ts)) (h2:(∀t∈ts,fe ls t)) (h3:ts.length≤24) (h4:1≤ls.length) (h5:ls.length≤10) (h6:DW H W ls (fun _=>(1,1)) 10) (h7:((∃mx,mx<ls.length∧(aO ts (mx+1)).lf=none∧∀(m:Nat) (O:Addr) (H':Hp),m<ls.length→(aO ts (m+1)).lf=none→(∀a o,a≠W→H a=some o→H' a=some o)→DW H' W ls (aO ts m).ω 300→(∀l∈ls,Gb 1500 1500 ((aO ts m).ω l)∧1≤((aO ts m).ω l).1)→Q (.ref O) H')∨((∀m,m<ls.length→(aO ts (m+1)).lf≠none)∧∀(R:List Nat) (us:List ag) (a dx r:Addr) (H':Hp),fZ ts R us→R.length≤10→ak H H'→H' a=some (ju a g (some dx))→H' dx=some (.xd [("ties",.ref r)])→H r=none→H' r=some (.lst (bf R))→E (.ref g) (some dx) H')))
def Dt (g:Addr):Sp:=fun vs H Q E=>CH g vs H Q E
theorem wF (R:List Nat):bf R=(R.map fun i:Nat=>(i:Int)).map V.int:=by rw [List.map_map];rfl
theorem wQ (T:Txt K mg):bD P w K mg base (p7 P w) 6 T.lift_all_.f T.lift_all_.d ["net", "worths"] (Dt T.x_Gaining):=by
 have G_Gaining__init:=yg (P:=P) (w:=w) (base:=base) T
 have G_lift_once:=pc (P:=P) (w:=w) (base:=base) T
 have G_gaining_round:=ii (P:=P) (w:=w) (base:=base) T
 refine T.lift_all_.F.okX mC (fun vs H Q E h=>?_) (fun cdv A outer s H vs Q E hr h=>?_)
 ·obtain ⟨v,W,ls,ts,rfl,_⟩:=h
  rfl
 ·obtain ⟨v,W,ls,ts,rfl,hv,tc,h24,l1,l10,dw,k⟩:=h
  refine ⟨_,(@ae _ _ _ _ _ (@PS.nox _ _ _ (@aE _ _ (2) _ _ _ _ mC.nd rfl (Or.inl gE) (@ai _ _ _ _ _ _ _ _ _ _ _ _ _ _ _ _ G_gaining_round (hr.mono (by decide)) kZ T.gaining_round_.m T.gaining_round_.F.kp T.gaining_round_.B .nil (@ay _) (@aa _ _ _ _ _ (@pw _ 0 _ _ (Or.inl mH) (by rfl) (by decide) (by decide)) (@ac _) rfl) (by decide) (by rfl) (by rfl)) (by rfl) (by first | exact .inl rfl | exact .inr rfl | assumption))) (@ae _ _ _ _ _ (@bH _ _ _ _ _ _ _ _ (@aK _ _ _ _ _ _ _ _ (@ql _) (@pw _ 2 _ _ (Or.inl gE) (by rfl) (by decide) (by decide)) (@db _ _ _) (@aG _ _ (by decide) (by decide))) (@ah _ _ _ (@AG _ _ _ _ _ rfl (@BZ _ _ _ _ _ _ _ _ _ _ _ _ _ _ _) (@Ck _ _ _ _ _ _ _ _ _ _ _ _ _ T.q_Gaining T.fn_Gaining T.k_Gaining G_Gaining__init (hr.mono (by decide)) T.B_Gaining__init pB T.m_Gaining (@aa _ _ _ _ _ (@pw _ 2 _ _ (Or.inl gE) (by rfl) (by decide) (by decide)) (@ac _) rfl) (by decide) (by rfl) (by rfl)))) (@bd _)) (@ae _ _ _ _ _ (@PS.nox _ _ _ (@aE _ _ (3) _ _ _ _ mC.nd rfl (Or.inl gT) (@vL _ _) (by rfl) (by first | exact .inl rfl | exact .inr rfl | assumption))) (@ae _ _ _ _ _ (@PS.nox _ _ _ (@kM _ _ _ _ _ _ PassesOwn.never (@aK _ _ _ _ _ _ _ _ (@ql _) (@ai _ _ _ _ _ _ _ _ _ _ _ _ _ _ _ _ G_lift_once (hr.mono (by decide)) nt T.lift_once_.m T.lift_once_.F.kp T.lift_once_.B .nil (@ay _) (@aa _ _ _ _ _ (@pw _ 0 _ _ (Or.inl mH) (by rfl) (by decide) (by decide)) (@aa _ _ _ _ _ (@pw _ 1 _ _ (Or.inl qO) (by rfl) (by decide) (by decide)) (@aa _ _ _ _ _ (@pw _ 3 _ _ (Or.inl gT) (by rfl) (by decide) (by decide)) (@ac _) rfl) rfl) rfl) (by decide) (by rfl) (by rfl)) (@db _ _ _) (@aG _ _ (by decide) (by decide))) (@ah _ _ _ (@BE _ _)))) (@ah _ _ _ (@PS.nox _ _ _ (@aL _ _ _ _ (@pw _ 3 _ _ (Or.inl gT) (by rfl) (by decide) (by decide))))))))),?_⟩
  rcases k with ⟨mx,hmx,emx,k⟩ | ⟨hno,k⟩
  case' inr=>
   refine bI fun Q1 nA1=>⟨_,rfl,v,ls,ts,rfl,hv,tc,h24,l1,l10,.inr ⟨hno,fun R us r0 H1 ok hR s1 f0 h0=>nA1 _ _ ?_⟩⟩
   refine bS fun DA nA=>?_
   refine ⟨_,rfl,rfl,_,rfl,bW ⟨_,rfl,(by show 1≤10000;decide),fun y J1 n1=>⟨y,T.x_Gaining,r0,R.map (fun i:Nat=>(i:Int)),_,rfl,n1.at',T.q_Gaining,T.st_Gaining,by rw [←wF];exact n1.sm _ _ h0,fun p dx J2 J3 n2 hd ne e=>⟨rfl,y,T.x_Gaining,some dx,_,rfl,?_,T.q_Gaining,?_⟩⟩⟩⟩
   ·rw [e];exact am
   obtain ⟨S3,_,k3⟩:=Hw n1.fr (n1.sm.trans n2.sm) hd ne e
   have py:p≠y:=fun z=>by have q:=n1.at';rw [←z,n2.fr] at q;cases q
   have hp3:=k3 _ _ n2.at' py
   have fy:∀{b:Addr}{o:HO},H1 b=some o→b≠y:=fun q z=>by rw [z,n1.fr] at q;cases q
   refine k R us y dx p _ ok hR (fun b o q=>?_) am ?_ ?_ ?_
   ·rw [ao (fy (s1 _ _ q))];exact S3 _ _ (s1 _ _ q)
   ·rw [ao ne,e,ao ne];exact am
   ·cases q:H p with
    | none=>rfl
    | some o=>have z:=n1.sm _ _ (s1 _ _ q);rw [n2.fr] at z;cases z
   ·rw [ao py,wF];exact hp3
  refine bI fun Q1 nA1=>⟨_,rfl,v,ls,ts,rfl,hv,tc,h24,l1,l10,.inl ⟨mx,hmx,emx,fun H1 s1=>nA1 _ _ ?_⟩⟩
  refine bS fun DA nA=>?_
  refine ⟨_,rfl,rfl,_,rfl,bC (nA _ _ ?_)⟩
  refine bI fun Q2 nA2=>fun O H2 n2=>nA2 _ _ ?_
  obtain ⟨kv,hW,lW,vW⟩:=dw
  have s2:=s1.trans n2.sm
  have fO:H O=none:=s1.free n2.fr
  have nWO:¬W=O:=fun z=>by rw [←z,hW] at fO;cases fO
  have hW2:=s2 _ _ hW
  have f20:∀{J:Hp},cj W O H2 J→∀a o,a≠W→H a=some o→J a=some o:=fun f a o h1 h=>f a o h1 (fun z=>by rw [z,fO] at h;cases h) (s2 _ _ h)
  refine bS fun DB nB=>?_
  refine pM (fun m σ H'=>∃(i:Nat),σ=[some v,some (.ref W),some .non,some (.ref O)]∧m=ls.length - i∧i≤mx∧DW H' W ls (aO ts i).ω (10+24*i)∧DO H' O ls (aO ts i).on (10+24*i)∧(∀l∈ls,Gb (1+144*i) (1+144*i) ((aO ts i).ω l)∧1≤((aO ts i).ω l).1)∧cj W O H2 H') _ ⟨0,rfl,rfl,Nat.zero_le _,⟨kv,hW2,by trivial,fun l hl=>let ⟨o,a,b⟩:=vW l hl;⟨o,a,s2 _ _ b⟩⟩,⟨[],n2.at',by simp,fun l hl=>rfl⟩,(fun l hl=>⟨vX,(by show (1:Int)≤1;decide)⟩),fun _ _ _ _ h=>h⟩ ?_
  rintro m σ J ⟨i,rfl,rfl,hi,dw,do',gω,f2⟩ Q D' nD rD qT qF
  have hvJ:bc ED J v (dM ls ts):=hv.mono ⟨fun _ _ n _=>absurd trivial n,fun a us h=>f20 f2 a _ (fun z=>by rw [z,hW] at h;cases h) h⟩
  refine ⟨_,rfl,_,rfl,_,rfl,v,W,O,ls,ts,aO ts i,i+1,10+24*i,1+144*i,rfl,hvJ,tc,by trivial,nWO,dw,do',by trivial,gω,by trivial,fun J2 f3 dw2 do2 gω2=>?_⟩
  have es:ib (i+1) ts (aO ts i)=aO ts (i+1):=rfl
  rw [es] at dw2 do2 gω2 ⊢
  have f4:cj W O H2 J2:=fun a o h1 h2 h=>f3 a o h1 h2 (f2 a o h1 h2 h)
  obtain ⟨ko2,hO2,lO2,vO2⟩:=do2
  obtain ⟨kv2,hW3,lW2,vW2⟩:=dw2
  cases e:(aO ts (i+1)).lf with
  | none=>
   refine ⟨rfl,_,rfl,qF _ (nB _ _ ⟨_,rfl,?_⟩)⟩
   have eω:(aO ts (i+1)).ω=(aO ts i).ω:=(lF (s:=aO ts i) e).1
   rw [eω] at vW2 gω2
   exact k i O J2 (by trivial) e (f20 f4) ⟨kv2,hW3,by trivial,vW2⟩ fun l hl=>⟨(gω2 l hl).1.mono (by trivial) (by trivial),(gω2 l hl).2⟩
  | some l=>
   refine ⟨rfl,_,rfl,qT _ (nD (ls.length - (i+1)) _ _ (by trivial) ⟨i+1,rfl,rfl,?_,⟨kv2,hW3,by trivial,vW2⟩,⟨ko2,hO2,by trivial,vO2⟩,(fun l hl=>⟨(gω2 l hl).1.mono (by trivial) (by trivial),(gω2 l hl).2⟩),f4⟩)⟩
   by_cases c:i=mx
   ·rw [c,emx] at e;cases e
   ·trivial
inductive Dx (g:Addr) (vs:List V) (H:Hp) (Q:VK) (E:XK):Prop
 | mk (v:V) (ls:List (List Nat)) (ts:List ag) (h0:vs=[v]) (h1:bc ED H v (dM ls ts)) (h2:(∀t∈ts,fe ls t)) (h3:ts.length≤24) (h4:1≤ls.length) (h5:ls.length≤10) (h6:((∃mx,mx<ls.length∧(aO ts (mx+1)).lf=none∧∀(m:Nat) (r:Addr) (xs:List V) (H':Hp),m<ls.length→(aO ts (m+1)).lf=none→ak H H'→H r=none→H' r=some (.lst xs)→xs.length=ls.length→(∀(j:Nat) l,ls[j]?=some l→∃o,xs[j]?=some (.ref o)∧H' o=some (fr ((aO ts m).ω l)))→(∀l∈ls,Gb 1500 1500 ((aO ts m).ω l)∧1≤((aO ts m).ω l).1)→Q (.ref r) H')∨((∀m,m<ls.length→(aO ts (m+1)).lf≠none)∧∀(R:List Nat) (us:List ag) (a dx r:Addr) (H':Hp),fZ ts R us→R.length≤10→ak H H'→H' a=some (ju a g (some dx))→H' dx=some (.xd [("ties",.ref r)])→H r=none→H' r=some (.lst (bf R))→E (.ref g) (some dx) H')))
def Fl (g:Addr):Sp:=fun vs H Q E=>Dx g vs H Q E
theorem j5 (T:Txt K mg):bD P w K mg base (p7 P w) 7 T.holding_worths_.f T.holding_worths_.d ["net"] (Fl T.x_Gaining):=by
 have G_lift_all:=wQ (P:=P) (w:=w) (base:=base) T
 refine T.holding_worths_.F.okX ke (fun vs H Q E h=>?_) (fun cdv A outer s H vs Q E hr h=>?_)
 ·obtain ⟨v,ls,ts,rfl,_⟩:=h
  rfl
 ·obtain ⟨v,ls,ts,rfl,hv,tc,h24,l1,l10,k⟩:=h
  obtain ⟨na,pa,ta,ys,rfl,hna,hpa,hta,ity⟩:=dQ hv
  refine ⟨_,(@ae _ _ _ _ _ (@PS.nox _ _ _ (@aE _ _ (1) _ _ _ _ ke.nd rfl (Or.inr gM) (@AM _ _ _ _ _ _ _ _ (["place"]) (1) ([]) _ _ _ _ _ rfl (by kernel_rfl) (@iq _ (K) _ _ _ (@aq _ _ _ _ _ _ _ (@aR _ (K) (by rfl)) (@pw _ 0 _ _ (Or.inl ft) (by rfl) (by decide) (by decide)) (@ad _ _ _ _) (fun _ _=>rfl)) (by rfl)) (fun _ _ _ _ _ _=>(@au _ _ (0) _ (@cg _ (by kernel_rfl)) rfl (Or.inl (by kernel_rfl)) (by first | exact .inl rfl | exact .inr rfl | assumption))) (fun _ _ _ _ _ _=>@bX _) (fun _ _ _ _ _ _=>(@pw _ 0 _ _ (Or.inl (by kernel_rfl)) (by rfl) (by decide) (by decide))) (fun _ _ _ _ _ _=>(@aF _ _ _ _ _ (@aa _ _ _ _ _ (@ad _ _ _ _) (@aa _ _ _ _ _ (@ad _ _ _ _) (@ac _) rfl) rfl))) (by intro _;rfl)) (by rfl) (by first | exact .inl rfl | exact .inr rfl | assumption))) (@ae _ _ _ _ _ (@fM _ _ _ _ (@ai _ _ _ _ _ _ _ _ _ _ _ _ _ _ _ _ G_lift_all (hr.mono (by decide)) km T.lift_all_.m T.lift_all_.F.kp T.lift_all_.B .nil (@E2 _ _ _ _ _ _ _ _ _ _ _ _ _ _ _) (@aa _ _ _ _ _ (@pw _ 0 _ _ (Or.inl ft) (by rfl) (by decide) (by decide)) (@aa _ _ _ _ _ (@pw _ 1 _ _ (Or.inr (Or.inl gM)) (by rfl) (by decide) (by decide)) (@ac _) rfl) rfl) (by decide) (by rfl) (by rfl)) (by rfl)) (@ah _ _ _ (@PS.nox _ _ _ (@aL _ _ _ _ (@cO _ _ _ _ _ _ _ (["place", "worths"]) (1) ([1]) _ _ _ _ rfl (by kernel_rfl) (@iq _ (K) _ _ _ (@aq _ _ _ _ _ _ _ (@aR _ (K) (by rfl)) (@pw _ 0 _ _ (Or.inl ft) (by rfl) (by decide) (by decide)) (@ad _ _ _ _) (fun _ _=>rfl)) (by rfl)) (fun _ _ _ _ _ _=>(@au _ _ (0) _ (@cg _ (by kernel_rfl)) rfl (Or.inl (by kernel_rfl)) (by first | exact .inl rfl | exact .inr rfl | assumption))) (fun _ _ _ _ _ _=>@bX _) (fun _ _ _ _ _ _=>(@aq _ _ _ _ _ _ _ (@fK _) (@pw _ 1 _ _ (Or.inr (Or.inl (by kernel_rfl))) (by rfl) (by decide) (by decide)) (@pw _ 0 _ _ (Or.inl (by kernel_rfl)) (by rfl) (by decide) (by decide)) (fun _ _=>rfl))) (by intro _;rfl))))))),?_⟩
  refine bI fun Q1 nA1=>⟨_,rfl,na,_,_,_,rfl,rfl,ap.of hna,rfl,pa,rfl,⟨_,ap.of hpa⟩,fun W hW=>sw (n:=(ls.map aA).length) (fun i H' kv=>H' W=some (.dK kv)∧kv.length≤i∧(∀(j:Nat) l,j<i→ls[j]?=some l→∃o,valD kv (Sum.inr (S l))=some (.ref o)∧H' o=some (fr (1,1)))∧ak H H') (by rw [List.length_map];trivial) ⟨am,Nat.le_refl _,(fun j l h=>by trivial),ak.new hW⟩ ?_ ?_ ?_ ?_ ?_⟩
  ·rintro i H' kv ⟨e1,e2,_⟩
   exact ⟨e1,e2⟩
  ·rintro i H' kv hi ⟨_,_,_,sm⟩
   exact ⟨_,_,ap.of (sm _ _ hpa),List.getElem?_eq_getElem hi⟩
  ·rintro H' kv ⟨_,_,_,sm⟩
   exact ⟨_,ap.of (sm _ _ hpa),Nat.le_refl _⟩
  ·rintro i Ha kv x Hb hi ⟨eW,lW,vW,sm⟩ ⟨rfl,ex⟩
   have exi:=ex _ (ap.of (sm _ _ hpa))
   rw [List.length_map] at hi
   rw [List.getElem?_map,List.getElem?_eq_getElem hi] at exi
   obtain rfl:aA ls[i]=x:=Option.some.inj exi
   refine ⟨fB,_,rfl,Sum.inr (S ls[i]),rfl,(by show 2≤10000;decide),fun q J n1=>⟨n1.sm _ _ eW,am,?_,fun j l hj el=>?_,bM hW (sm.trans n1.sm)⟩⟩
   ·exact Nat.le_trans (lA _ _ _) (by trivial)
   ·have tupU:∀{a:Addr}{us:List V},J a=some (.tup us)→aN J W (.dK (dF kv (Sum.inr (S ls[i])) (.ref q))) a=some (.tup us):=fun {a us} h=>by
     rw [ao (fun z=>by rw [z,n1.sm _ _ eW] at h;cases h)];exact h
    rw [jL]
    by_cases c:l=ls[i]
    ·rw [c,if_pos rfl]
     exact ⟨q,rfl,tupU n1.at'⟩
    ·rw [if_neg (o8 c)]
     have hji:j<i:=by
      by_cases z:j=i
      ·subst z
       rw [List.getElem?_eq_getElem hi] at el
       exact absurd (Option.some.inj el).symm c
      ·trivial
     obtain ⟨o,v',h'⟩:=vW j l hji el
     exact ⟨o,v',tupU (n1.sm _ _ h')⟩
  rintro H1 kv ⟨eW,lW,vW,s1⟩
  rw [List.length_map] at lW vW
  refine nA1 _ _ ?_
  refine bS fun DA nA=>?_
  have dw0:DW H1 W ls (fun _=>(1,1)) 10:=⟨kv,eW,by trivial,fun l hl=>by
   obtain ⟨j,hj⟩:=List.getElem?_of_mem hl
   obtain ⟨o,v',h'⟩:=vW j l (List.getElem?_eq_some_iff.mp hj).1 hj
   exact ⟨o,v',h'⟩⟩
  rcases k with ⟨mx,hmx,emx,k⟩ | ⟨hno,k⟩
  case' inr=>
   exact ⟨_,rfl,_,rfl,.ref na,W,ls,ts,rfl,hv.mono s1.toE,tc,h24,l1,l10,dw0,.inr ⟨hno,fun R us a dx r H' ok hR sm ha hdx fr hr'=>k R us a dx r H' ok hR (s1.trans sm) ha hdx (s1.free fr) hr'⟩⟩
  refine ⟨_,rfl,_,rfl,.ref na,W,ls,ts,rfl,hv.mono s1.toE,tc,h24,l1,l10,dw0,.inl ⟨mx,hmx,emx,fun m O H3 hm em f3 dw3 g3=>nA _ _ ?_⟩⟩
  have s3:ak H H3:=fun a o h=>f3 a o (fun z=>by rw [z,hW] at h;cases h) (s1 _ _ h)
  obtain ⟨kv3,eW3,lW3,vW3⟩:=dw3
  refine ⟨_,rfl,na,_,_,_,rfl,rfl,ap.of (s3 _ _ hna),rfl,pa,rfl,⟨_,ap.of (s3 _ _ hpa)⟩,fun D hD=>pO (n:=(ls.map aA).length) (fun i H' zs=>H' D=some (.lst zs)∧zs.length=i∧(∀(j:Nat) l,j<i→ls[j]?=some l→∃o,zs[j]?=some (.ref o)∧H' o=some (fr ((aO ts m).ω l)))∧ak H3 H') (fw (by rw [List.length_map];trivial)) ⟨am,rfl,(fun j l h=>by trivial),ak.new hD⟩ ?_ ?_ ?_ ?_ ?_⟩
  ·rintro i H' zs ⟨e1,e2,_⟩
   exact ⟨e1,by trivial⟩
  ·rintro i H' zs hi ⟨_,_,_,sm⟩
   exact ⟨_,_,ap.of (sm _ _ (s3 _ _ hpa)),List.getElem?_eq_getElem hi⟩
  ·rintro H' zs ⟨_,_,_,sm⟩
   exact ⟨_,ap.of (sm _ _ (s3 _ _ hpa)),Nat.le_refl _⟩
  ·rintro i H' zs x H'' hi ⟨hD',lz,vz,sm⟩ ⟨rfl,ex⟩
   have exi:=ex _ (ap.of (sm _ _ (s3 _ _ hpa)))
   rw [List.length_map] at hi
   rw [List.getElem?_map,List.getElem?_eq_getElem hi] at exi
   obtain rfl:aA ls[i]=x:=Option.some.inj exi
   obtain ⟨o,vo,ho⟩:=vW3 ls[i] (List.getElem_mem _)
   refine ⟨fB,_,rfl,_,rfl,W,kv3,Sum.inr (S ls[i]),.ref o,rfl,rfl,sm _ _ eW3,vo,hD',am,by simp [lz],fun j l hj el=>?_,bM hD sm⟩
   have tupU:∀{a:Addr}{us:List V},H'' a=some (.tup us)→aN H'' D (.lst (zs++[.ref o])) a=some (.tup us):=fun {a us} h=>by
    rw [ao (fun z=>by rw [z,hD'] at h;cases h)];exact h
   by_cases c:j=i
   ·subst c
    rw [List.getElem?_eq_getElem hi] at el
    obtain rfl:=Option.some.inj el
    exact ⟨o,by rw [←lz];simp,tupU (sm _ _ ho)⟩
   ·obtain ⟨o',v',h'⟩:=vz j l (by trivial) el
    exact ⟨o',by rw [List.getElem?_append_left (by trivial)];exact v',tupU h'⟩
  ·rintro H' zs ⟨e1,lz,vz,sm⟩
   rw [List.length_map] at lz
   refine k m D zs H' hm em (s3.trans sm) (s3.free hD) e1 lz (fun j l el=>vz j l (by rw [List.length_map];exact (List.getElem?_eq_some_iff.mp el).1) el) g3
end
end K11
namespace K11
open PySem L2
section
variable {P:Program}{w:World}{K:PySem.W.Frag}{mg:Str→Option Value}{base:Heap}
def vk (T:Txt K mg):List Addr:=[T.x_BadNumber,T.x_Taken,T.x_NoPlace,T.x_NoTie,T.x_AsItIs,T.x_NoEnds,T.x_Over,T.x_TooMuch,T.x_Gaining,T.x_NotSoMuch,T.x_Short,T.x_Lacking,T.x_BadRow,T.x_BadSheet]
theorem Txt.kn (T:Txt K mg):qq K (vk T) T.x_GainError=true:=T.kin
end
end K11
namespace K11
open PySem L2
section
variable {P:Program}{w:World}{K:PySem.W.Frag}{mg:Str→Option Value}{base:Heap}
theorem zY {l:List Addr} (h:l.Nodup) {i j:Nat}{c d:Addr} (hi:l[i]?=some c) (hj:l[j]?=some d) (n:i≠j):c≠d:=fun z=>by
 obtain ⟨h1,e1⟩:=List.getElem?_eq_some_iff.mp hi
 obtain ⟨h2,e2⟩:=List.getElem?_eq_some_iff.mp hj
 have pw:=List.pairwise_iff_getElem.mp h
 rcases Nat.lt_or_gt_of_ne n with q | q
 ·exact pw i j h1 h2 q (by rw [e1,e2,z])
 ·exact pw j i h2 h1 q (by rw [e1,e2,z])
theorem gG (T:Txt K mg) {j:Nat}{d:Addr} (hj:(vk T)[j]?=some d) (n:j≠8):PySem.W.kitOne K (.ref T.x_Gaining) (.ref d)=some false:=by
 have h8:(vk T)[8]?=some T.x_Gaining:=rfl
 rw [(vA T.kn (List.mem_of_getElem? h8)).2.2.2 d (List.mem_of_getElem? hj),decide_eq_false (zY (AB T.kn) h8 hj (Ne.symm n))]
inductive CD (g:Addr) (vs:List V) (H:Hp) (Q:VK):Prop
 | mk (v:V) (ls:List (List Nat)) (ts:List ag) (h0:vs=[.str "worths",v,.non,.non]) (h1:bc ED H v (dM ls ts)) (h2:(∀t∈ts,fe ls t)) (h3:ts.length≤24) (h4:1≤ls.length) (h5:ls.length≤10) (h6:((∃mx,mx<ls.length∧(aO ts (mx+1)).lf=none∧∀(m:Nat) (r tp:Addr) (xs:List V) (H':Hp),m<ls.length→(aO ts (m+1)).lf=none→ak H H'→H r=none→H' tp=some (.tup [.str "told",.ref r])→H' r=some (.lst xs)→xs.length=ls.length→(∀(j:Nat) l,ls[j]?=some l→∃o,xs[j]?=some (.ref o)∧H' o=some (fr ((aO ts m).ω l)))→(∀l∈ls,Gb 1500 1500 ((aO ts m).ω l)∧1≤((aO ts m).ω l).1)→Q (.ref tp) H')∨((∀m,m<ls.length→(aO ts (m+1)).lf≠none)∧∀(R:List Nat) (us:List ag) (r tp:Addr) (H':Hp),fZ ts R us→R.length≤10→ak H H'→H r=none→H' tp=some (.tup [.str "refused",.ref r])→H' r=some (.lst (bf R))→Q (.ref tp) H')))
def EF (g:Addr):Sp:=fun vs H Q _=>CD g vs H Q
theorem vf (T:Txt K mg):bD P w K mg base CX0 8 T.l_all_told_.f T.l_all_told_.d ["_law_which", "_law_net", "_law_begin", "_law_end"] (EF T.x_Gaining):=by
 have G_holding_worths:=j5 (P:=P) (w:=w) (base:=base) T
 refine T.l_all_told_.F.ok cA (fun vs H Q E h=>?_) (fun cdv A outer s H vs Q E hr h=>?_)
 ·obtain ⟨v,ls,ts,rfl,_⟩:=h
  rfl
 ·obtain ⟨v,ls,ts,rfl,hv,tc,h24,l1,l10,k⟩:=h
  refine ⟨_,(@ae _ _ _ _ _ (@d9 _ _ _ _ _ _ (@aF _ _ _ _ _ (@aa _ _ _ _ _ (@db _ _ _) (@aa _ _ _ _ _ (@db _ _ _) (@ac _) rfl) rfl)) (@cP _ (K) _ _ _ _ (2) rfl (@aP _ _ _ _ _ (@au _ _ (4) _ cA.nd rfl (Or.inl fu) (by first | exact .inl rfl | exact .inr rfl | assumption)) (@aP _ _ _ _ _ (@au _ _ (5) _ cA.nd rfl (Or.inl bA) (by first | exact .inl rfl | exact .inr rfl | assumption)) (@cN _) (by rfl)) (by rfl)) (by rfl) (by rfl) (by rfl)) (by rfl) (by rfl) (by rfl)) (@ae _ _ _ _ _ (@EK _ _ _ _ _ _ _ _ _ _ _ _ (6) rfl rfl cA.nd rfl jK mB T.m_GainError (fun EE pn xe hx=>(@ah _ _ _ (@bH _ _ _ _ _ _ _ _ (@aK _ _ _ _ _ _ _ _ (@dE _) (@pw _ 0 _ _ (Or.inl iE) (by rfl) (by decide) (by decide)) (@dP _ _ _ _) (@aG _ _ (by decide) (by decide))) (@ah _ _ _ (@aE _ _ (4) _ _ _ _ cA.nd rfl (Or.inl fu) (@Az _ _ _ _ _ _ _ _ _ _ _ _ _ _ G_holding_worths (hr.mono (by decide)) jN T.holding_worths_.m T.holding_worths_.F.kp T.holding_worths_.B hx (@aa _ _ _ _ _ (@pw _ 1 _ _ (Or.inl pY) (by rfl) (by decide) (by decide)) (@ac _) rfl) (by decide) (by rfl) (by rfl)) (by rfl) (by first | exact .inl rfl | exact .inr rfl | assumption))) (@ah _ _ _ (@bH _ _ _ _ _ _ _ _ (@aK _ _ _ _ _ _ _ _ (@dE _) (@pw _ 0 _ _ (Or.inl iE) (by rfl) (by decide) (by decide)) (@dP _ _ _ _) (@aG _ _ (by decide) (by decide))) (@ah _ _ _ (@xi _ _)) (@ah _ _ _ (@xi _ _))))))) (fun _=>(@ah _ _ _ (@aE _ _ (5) _ _ _ _ cA.nd rfl (Or.inl bA) (@pw _ 6 _ _ (Or.inl jK) (by rfl) (by decide) (by decide)) (by rfl) (by first | exact .inl rfl | exact .inr rfl | assumption)))) (by decide)) (@ae _ _ _ _ _ (@bH _ _ _ _ _ _ _ _ (@aK _ _ _ _ _ _ _ _ (@su _) (@pw _ 5 _ _ (Or.inl bA) (by rfl) (by decide) (by decide)) (@db _ _ _) (@aG _ _ (by decide) (by decide))) (@ah _ _ _ (@aL _ _ _ _ (@aF _ _ _ _ _ (@aa _ _ _ _ _ (@dP _ _ _ _) (@aa _ _ _ _ _ (@pw _ 4 _ _ (Or.inl fu) (by rfl) (by decide) (by decide)) (@ac _) rfl) rfl)))) (@bd _)) (@ae _ _ _ _ _ (@aE _ _ (7) _ _ _ _ cA.nd rfl (Or.inl dh) (@aB _ _ _ _ _ _ _ _ _ (@oQ _ (K) (by rfl)) cD T.b_isinstance (@aI) (@aa _ _ _ _ _ (@pw _ 5 _ _ (Or.inl bA) (by rfl) (by decide) (by decide)) (@aa _ _ _ _ _ (@aF _ _ _ _ _ (@aa _ _ _ _ _ (@d8 _ _ _ _ mz T.m_BadNumber (by decide)) (@aa _ _ _ _ _ (@d8 _ _ _ _ pU T.m_Taken (by decide)) (@aa _ _ _ _ _ (@d8 _ _ _ _ oy T.m_NoPlace (by decide)) (@aa _ _ _ _ _ (@d8 _ _ _ _ pE T.m_NoTie (by decide)) (@aa _ _ _ _ _ (@d8 _ _ _ _ o7 T.m_AsItIs (by decide)) (@aa _ _ _ _ _ (@d8 _ _ _ _ oX T.m_NoEnds (by decide)) (@aa _ _ _ _ _ (@d8 _ _ _ _ qP T.m_Over (by decide)) (@aa _ _ _ _ _ (@d8 _ _ _ _ nG T.m_TooMuch (by decide)) (@aa _ _ _ _ _ (@d8 _ _ _ _ mE T.m_NotSoMuch (by decide)) (@aa _ _ _ _ _ (@d8 _ _ _ _ p5 T.m_Short (by decide)) (@ac _) rfl) rfl) rfl) rfl) rfl) rfl) rfl) rfl) rfl) rfl)) (@ac _) rfl) rfl) (by decide) (by decide) (by rfl) (by rfl)) (by rfl) (by first | exact .inl rfl | exact .inr rfl | assumption)) (@ae _ _ _ _ _ (@aE _ _ (7) _ _ _ _ cA.nd rfl (Or.inl dh) (@E8 _ _ _ _ _ _ _ (@pw _ 7 _ _ (Or.inl dh) (by rfl) (by decide) (by decide)) (@k4 _ _ _ _ _ (@aB _ _ _ _ _ _ _ _ _ (@oQ _ (K) (by rfl)) cD T.b_isinstance (@aI) (@aa _ _ _ _ _ (@pw _ 5 _ _ (Or.inl bA) (by rfl) (by decide) (by decide)) (@aa _ _ _ _ _ (@aF _ _ _ _ _ (@aa _ _ _ _ _ (@d8 _ _ _ _ oE T.m_Lacking (by decide)) (@aa _ _ _ _ _ (@d8 _ _ _ _ oR T.m_BadRow (by decide)) (@aa _ _ _ _ _ (@d8 _ _ _ _ mU T.m_BadSheet (by decide)) (@ac _) rfl) rfl) rfl)) (@ac _) rfl) rfl) (by decide) (by decide) (by rfl) (by rfl)))) (by rfl) (by first | exact .inl rfl | exact .inr rfl | assumption)) (@ae _ _ _ _ _ (@bH _ _ _ _ _ _ _ _ (@PW.pt _ _ _ (@iB _ _ _ _ _ _ _ (@dn _ _ _ (@pw _ 7 _ _ (Or.inl dh) (by rfl) (by decide) (by decide)) (by intro _;rfl)) (@iB _ _ _ _ _ _ _ (@mQ _ _ _ _ (@dn _ _ _ (@aB _ _ _ _ _ _ _ _ _ (@pI _ (K) (by rfl)) cD T.b_isinstance (@aI) (@aa _ _ _ _ _ (@pw _ 5 _ _ (Or.inl bA) (by rfl) (by decide) (by decide)) (@aa _ _ _ _ _ (@d8 _ _ _ _ oB T.m_Gaining (by decide)) (@ac _) rfl) rfl) (by decide) (by decide) (by rfl) (by rfl)) (by intro _;rfl))) (@iF _ _ _ _ (@mQ _ _ _ _ (@dn _ _ _ (@aB _ _ _ _ _ _ _ _ _ (@pI _ (K) (by rfl)) cD T.b_isinstance (@aI) (@aa _ _ _ _ _ (@pw _ 5 _ _ (Or.inl bA) (by rfl) (by decide) (by decide)) (@aa _ _ _ _ _ (@eh _ _ _ _ lC T.b_ValueError (@pN) (by decide) (by decide)) (@ac _) rfl) rfl) (by decide) (by decide) (by rfl) (by rfl)) (by intro _;rfl))))))) (@ah _ _ _ (@aL _ _ _ _ (@aF _ _ _ _ _ (@aa _ _ _ _ _ (@dP _ _ _ _) (@aa _ _ _ _ _ (@db _ _ _) (@ac _) rfl) rfl)))) (@bd _)) (@ah _ _ _ (@aL _ _ _ _ (@aF _ _ _ _ _ (@aa _ _ _ _ _ (@dP _ _ _ _) (@aa _ _ _ _ _ (@zt _ (K) _ _ _ _ (@pw _ 5 _ _ (Or.inl bA) (by rfl) (by decide) (by decide)) (by rfl) (by rfl)) (@ac _) rfl) rfl)))))))))),?_⟩
  refine bS fun D0 n0=>⟨(by show 2≤10000;decide),fun t0 H0 m0=>⟨t0,_,rfl,ap.of m0.at',rfl,_,_,rfl,_,_,rfl,rfl,n0 _ _ ?_⟩⟩
  refine bS fun DA nA=>?_
  refine ⟨_,rfl,rfl,_,rfl,?_⟩
  rw [decide_eq_true (rfl:V.str ("worths" : Str)=V.str "worths")]
  refine bW ⟨_,rfl,v,ls,ts,rfl,hv.mono m0.sm.toE,tc,h24,l1,l10,?_⟩
  rcases k with ⟨mx,hmx,emx,k⟩ | ⟨hno,k⟩
  ·refine .inl ⟨mx,hmx,emx,fun m r xs H1 hm em s1 fr1 hr1 lx vx gx=>nA _ _ ?_⟩
   refine ⟨_,rfl,rfl,_,rfl,bW ⟨_,rfl,(by show 2≤10000;decide),fun tp H2 n2=>?_⟩⟩
   exact k m r tp xs H2 hm em ((m0.sm.trans s1).trans n2.sm) (m0.sm.free fr1) n2.at' (n2.sm _ _ hr1) lx (fun j l e=>let ⟨o,a,b⟩:=vx j l e;⟨o,a,n2.sm _ _ b⟩) gx
  ·refine .inr ⟨hno,fun R us a dx r H1 ok hR s1 ha hdx fr1 hr1=>?_⟩
   intro a' C' eC ha'
   cases eC
   refine ⟨T.em_Gaining_GainError,⟨_,rfl,nA _ _ ?_⟩⟩
   have h8:(vk T)[8]?=some T.x_Gaining:=rfl
   obtain ⟨q1,q2,q3,q4⟩:=vA T.kn (List.mem_of_getElem? h8)
   have q8:PySem.W.kitOne K (.ref T.x_Gaining) (.ref T.x_Gaining)=some true:=by rw [q4 _ (List.mem_of_getElem? h8)];simp
   refine bS fun DB nB=>⟨_,rfl,rfl,_,rfl,bC (nB _ _ ?_)⟩
   refine bI fun Q3 n3=>⟨_,rfl,(by show 10≤10000;decide),fun tq H2 m2=>⟨a',T.x_Gaining,dx,tq,_,[.ref T.x_BadNumber,.ref T.x_Taken,.ref T.x_NoPlace,.ref T.x_NoTie,.ref T.x_AsItIs,.ref T.x_NoEnds,.ref T.x_Over,.ref T.x_TooMuch,.ref T.x_NotSoMuch,.ref T.x_Short],false,rfl,⟨m2.sm _ _ ha',_,m2.sm _ _ hdx⟩,m2.at',rfl,q1,o9 fun c hc=>?_,n3 _ _ ?_⟩⟩
   ·have hc':c=.ref T.x_BadNumber∨c=.ref T.x_Taken∨c=.ref T.x_NoPlace∨c=.ref T.x_NoTie∨c=.ref T.x_AsItIs∨c=.ref T.x_NoEnds∨c=.ref T.x_Over∨c=.ref T.x_TooMuch∨c=.ref T.x_NotSoMuch∨c=.ref T.x_Short:=by simpa using hc
    rcases hc' with rfl | rfl | rfl | rfl | rfl | rfl | rfl | rfl | rfl | rfl
    ·exact gG T (j:=0) rfl (by decide)
    ·exact gG T (j:=1) rfl (by decide)
    ·exact gG T (j:=2) rfl (by decide)
    ·exact gG T (j:=3) rfl (by decide)
    ·exact gG T (j:=4) rfl (by decide)
    ·exact gG T (j:=5) rfl (by decide)
    ·exact gG T (j:=6) rfl (by decide)
    ·exact gG T (j:=7) rfl (by decide)
    ·exact gG T (j:=9) rfl (by decide)
    ·exact gG T (j:=10) rfl (by decide)
   refine bI fun Q4 n4=>⟨_,rfl,_,rfl,bC ⟨_,rfl,(by show 3≤10000;decide),fun tq2 H3 m3=>⟨a',T.x_Gaining,dx,tq2,_,[.ref T.x_Lacking,.ref T.x_BadRow,.ref T.x_BadSheet],false,rfl,⟨m3.sm _ _ (m2.sm _ _ ha'),_,m3.sm _ _ (m2.sm _ _ hdx)⟩,m3.at',rfl,q1,o9 fun c hc=>?_,n4 _ _ ?_⟩⟩⟩
   ·have hc':c=.ref T.x_Lacking∨c=.ref T.x_BadRow∨c=.ref T.x_BadSheet:=by simpa using hc
    rcases hc' with rfl | rfl | rfl
    ·exact gG T (j:=11) rfl (by decide)
    ·exact gG T (j:=12) rfl (by decide)
    ·exact gG T (j:=13) rfl (by decide)
   have S3:=m2.sm.trans m3.sm
   have ha3:=S3 _ _ ha'
   have hd3:=S3 _ _ hdx
   refine bS fun DC nC=>⟨_,rfl,_,rfl,bC ⟨_,rfl,a',T.x_Gaining,dx,_,_,true,rfl,⟨ha3,_,hd3⟩,rfl,q1,q8,_,rfl,bC ⟨_,rfl,a',T.x_Gaining,dx,_,_,true,rfl,⟨ha3,_,hd3⟩,rfl,q1,q3,_,rfl,bC (nC _ _ ?_)⟩⟩⟩
   refine ⟨_,rfl,a',T.x_Gaining,dx,_,_,rfl,ha3,hd3,HE,T.fd_Gaining,(by show 2≤10000;decide),fun tp H4 m4=>?_⟩
   exact k R us r tp H4 ok hR (((m0.sm.trans s1).trans S3).trans m4.sm) (m0.sm.free fr1) m4.at' (m4.sm _ _ (S3 _ _ hr1))
end
end K11
namespace K11
open PySem L2
set_option maxHeartbeats 4000000
theorem sQ {H:Hp}{ys:List V}{ts:List ag}{k:Nat}{t:ag} (ity:aQ ED H ys (ts.map lr)) (et:ts[k]?=some t):kd fun o om og op=>ys[k]?=some (.ref o)∧H o=some (.tup [.str (S t.bg),.str (S t.en),.ref om,.ref og,.ref op])∧H om=some (fr t.most)∧H og=some (fr t.gain)∧H op=some (fr t.price):=by
 obtain ⟨y,ey⟩:∃y,ys[k]?=some y:=⟨_,List.getElem?_eq_getElem (by rw [ity.length,List.length_map];exact (List.getElem?_eq_some_iff.mp et).1)⟩
 obtain ⟨dy,edy,gy⟩:=ity.get ey
 rw [List.getElem?_map,et] at edy
 obtain rfl:lr t=dy:=Option.some.inj edy
 obtain ⟨o,om,og,op,rfl,h1,h2,h3,h4⟩:=jq gy
 exact ⟨o,om,og,op,ey,h1,h2,h3,h4⟩
theorem xK (us:List ag) (t:ag):b6 (us++[t])=b6 us*gR t:=by
 induction us with
 | nil=>show gR t*1=1*gR t;rw [Rat.mul_one,Rat.one_mul]
 | cons u r ih=>show gR u*b6 (r++[t])=gR u*b6 r*gR t;rw [ih,Rat.mul_assoc]
theorem Hx {k:Nat}{xs:List Nat} (h:k∈xs):si (V.int (k:Int)) (bf xs)=true:=by
 unfold si
 rw [List.any_eq_true]
 exact ⟨_,List.mem_map_of_mem h,by show ((k:Int)==(k:Int))=true;exact beq_self_eq_true _⟩
theorem Ga (xs:List Nat):(bf xs).all jz=true:=by
 rw [List.all_eq_true]
 intro v hv
 obtain ⟨l,_,rfl⟩:=List.mem_map.mp hv
 rfl
theorem wD:∀(ls:List (List Nat)),PyData.eqvAll (ls.map fun l=>PyData.str (S l)) (ls.map fun l=>PyData.str (S l))=true
 | []=>by simp [PyData.eqvAll]
 | l :: r=>by simp [PyData.eqvAll,PyData.eqv,wD r]
theorem EQ {α:Type} (n:Nat) (b:α):(List.range n).map (fun _=>b)=List.replicate n b:=by
 rw [List.map_const',List.length_range]
theorem fZ.get {ts:List ag}{R:List Nat}{us:List ag} (h:R.map (fun k=>ts[k]?)=us.map some) {i k:Nat} (e:R[i]?=some k):∃t,us[i]?=some t∧ts[k]?=some t:=by
 have:=congrArg (fun z=>z[i]?) h
 simp only [List.getElem?_map,e,Option.map_some] at this
 cases hu:us[i]? with
 | none=>rw [hu] at this;cases this
 | some t=>rw [hu] at this;exact ⟨t,rfl,Option.some.inj this⟩
theorem rR {ls:List (List Nat)}{ts:List ag}{k:Nat}{t:ag} (tc:∀t∈ts,fe ls t) (et:ts[k]?=some t):k∈bU ts ts.length↔t.most≠(0,1):=by
 unfold bU
 rw [List.mem_filter]
 have e:zI ts k=decide (0<t.most.1):=by unfold zI;rw [et];rfl
 rw [e,decide_eq_true_iff,rQ (tc t (List.mem_of_getElem? et))]
 exact ⟨fun h=>h.2,fun h=>⟨List.mem_range.mpr (List.getElem?_eq_some_iff.mp et).1,h⟩⟩
section
variable {P:Program}{w:World}{K:PySem.W.Frag}{mg:Str→Option Value}{base:Heap}
inductive EW (vs:List V) (H:Hp) (Q:VK):Prop
 | mk (v:V) (a:Addr) (ls:List (List Nat)) (ts:List ag) (R:List Nat) (us:List ag) (h0:vs=[v,.ref a]) (h1:bc ED H v (dM ls ts)) (h2:(∀t∈ts,fe ls t)) (h3:H a=some (.lst (bf R))) (h4:R.map (fun k=>ts[k]?)=us.map some) (h5:R.length≤12) (h6:∀(g:KM.Fra) (q:Addr) (H':Hp),Gb 80 80 g→KM.Rd g→KM.vl g=b6 us→ak H H'→H' q=some (fr g)→Q (.ref q) H')
def FK:Sp:=fun vs H Q _=>EW  vs H Q
theorem pf (T:Txt K mg):bD P w K mg base CX0 3 T.l_gain_of_.f T.l_gain_of_.d ["_law_net", "_law_way"] FK:=by
 have G_l_product:=kJ (P:=P) (w:=w) (base:=base) T
 refine T.l_gain_of_.F.ok i0 (fun vs H Q E h=>?_) (fun cdv A outer s H vs Q E hr h=>?_)
 ·obtain ⟨v,a,ls,ts,R,us,rfl,_⟩:=h
  rfl
 ·obtain ⟨v,a,ls,ts,R,us,rfl,hv,tc,ha,hR,l12,k⟩:=h
  obtain ⟨na,pa,ta,ys,rfl,hna,hpa,hta,ity⟩:=dQ hv
  have lR:R.length=us.length:=by have:=congrArg List.length hR;simpa using this
  refine ⟨_,(@ae _ _ _ _ _ (@aE _ _ (2) _ _ _ _ i0.nd rfl (Or.inl dU) (@aF _ _ _ _ _ (@aa _ _ _ _ _ (@ad _ _ _ _) (@aa _ _ _ _ _ (@ad _ _ _ _) (@ac _) rfl) rfl)) (by rfl) (by first | exact .inl rfl | exact .inr rfl | assumption)) (@ae _ _ _ _ _ (@e8 _ _ _ _ _ _ _ _ PassesOwn.never rfl (@eJ _ (K) _ _ _ (@pw _ 1 _ _ (Or.inl qx) (by rfl) (by decide) (by decide)) (by rfl)) (@au _ _ (3) _ i0.nd rfl (Or.inl iY) (by first | exact .inl rfl | exact .inr rfl | assumption)) (@ah _ _ _ (@aE _ _ (2) _ _ _ _ i0.nd rfl (Or.inl dU) (@ai _ _ _ _ _ _ _ _ _ _ _ _ _ _ _ _ G_l_product (hr.mono (by decide)) mV T.l_product_.m T.l_product_.F.kp T.l_product_.B .nil (@ay _) (@aa _ _ _ _ _ (@pw _ 2 _ _ (Or.inl dU) (by rfl) (by decide) (by decide)) (@aa _ _ _ _ _ (@aq _ _ _ _ _ _ _ (@aR _ (K) (by rfl)) (@aq _ _ _ _ _ _ _ (@aR _ (K) (by rfl)) (@aq _ _ _ _ _ _ _ (@aR _ (K) (by rfl)) (@pw _ 0 _ _ (Or.inl qz) (by rfl) (by decide) (by decide)) (@ad _ _ _ _) (fun _ _=>rfl)) (@pw _ 3 _ _ (Or.inl iY) (by rfl) (by decide) (by decide)) (fun _ _=>rfl)) (@ad _ _ _ _) (fun _ _=>rfl)) (@ac _) rfl) rfl) (by decide) (by rfl) (by rfl)) (by rfl) (by first | exact .inl rfl | exact .inr rfl | assumption))) (by intro _;rfl)) (@ah _ _ _ (@aL _ _ _ _ (@pw _ 2 _ _ (Or.inl dU) (by rfl) (by decide) (by decide)))))),?_⟩
  refine bI fun Q1 nA1=>⟨(by show 2≤10000;decide),fun o0 H1 n1=>nA1 _ _ ?_⟩
  refine bS fun DB nB=>?_
  refine ⟨_,rfl,a,rfl,⟨_,ax.of (n1.sm _ _ ha)⟩,kU (xs:=bf R) (fun j σ H'=>fJ fun (o:Addr) (v3:Option V) (g:KM.Fra)=>σ=[some (.ref na),some (.ref a),some (.ref o),v3]∧ak H H'∧H' o=some (fr g)∧Gb (1+6*j) (1+6*j) g∧KM.Rd g∧KM.vl g=b6 (us.take j)) ⟨o0,_,(1,1),rfl,n1.sm,n1.at',vX,⟨by decide,by decide⟩,by show KM.vl (1,1)=1;decide +kernel⟩ ?_ ?_ ?_⟩
  ·rintro j σ H' _ ⟨_,_,_,_,sm,_⟩
   exact ax.of (sm _ _ ha)
  ·rintro j x σ J hx ⟨o,v3,g,rfl,sm,ho,gg,rg,eg⟩
   rw [List.getElem?_map] at hx
   obtain ⟨i,ei,rfl⟩:=Option.map_eq_some_iff.mp hx
   obtain ⟨t,eu,et⟩:=fZ.get hR ei
   have tt:=tc t (List.mem_of_getElem? et)
   have lj:j<R.length:=(List.getElem?_eq_some_iff.mp ei).1
   obtain ⟨o2,om,og,op,ey,h1,h2,h3,h4⟩:=sQ ity et
   refine ⟨_,rfl,_,rfl,na,_,_,_,rfl,rfl,ap.of (sm _ _ hna),rfl,_,rfl,ta,_,_,_,rfl,rfl,ap.of (sm _ _ hta),eX ey,o2,_,_,_,rfl,rfl,ap.of (sm _ _ h1),rfl,o,og,g,t.gain,_,_,_,_,rfl,ho,sm _ _ h3,gg,tt.fg,by trivial,by trivial,by decide,by decide,(fun z=>by cases z),fun q J2 n2=>?_⟩
   refine ⟨q,_,KM.lTim g t.gain,rfl,sm.trans n2.sm,n2.at',gg.tim tt.fg (by trivial) (by trivial),KM.Rd.low (Int.ne_of_gt (Int.mul_pos (by have:=rg.1;trivial) (by have:=tt.fg.pos;trivial))),?_⟩
   rw [List.take_succ,eu]
   show _=b6 (us.take j++[t])
   rw [xK,←eg]
   exact KM.vl_tim (by have:=gg.pos;trivial) (by have:=tt.fg.pos;trivial)
  ·rintro σ J ⟨o,v3,g,rfl,sm,ho,gg,rg,eg⟩
   rw [show (bf R).length=us.length by rw [List.length_map];exact lR] at gg eg
   rw [List.take_length] at eg
   exact nB _ _ ⟨_,rfl,k g o J (gg.mono (by trivial) (by trivial)) rg eg sm ho⟩
end
end K11
namespace K11
open PySem L2
set_option maxHeartbeats 4000000
theorem Fd (ls:List (List Nat)):(ls.map fun l=>(Sum.inr (S l):aU)).map gU=ls.map aA:=by
 rw [List.map_map];rfl
theorem xT {ls:List (List Nat)} (h:ls.Nodup):(ls.map fun l=>(Sum.inr (S l):aU)).Nodup:=by
 rw [List.nodup_iff_pairwise_ne,List.pairwise_map]
 refine List.Pairwise.imp (fun {a b} hab z=>?_) (List.nodup_iff_pairwise_ne.mp h)
 injection z with z
 exact hab (qh z)
theorem xl {ls:List (List Nat)} (h:∀l∈ls,iW l):Wt (.list (ls.map fun l=>PyData.str (S l))) (1*ls.length+1) 1:=.list (qj (m:=1) (k:=0) fun l hl=>.str (lH (h l hl)))
theorem xj {H:Hp}{a:Addr}{ls:List (List Nat)} (h:H a=some (.lst (ls.map aA))):bc (fun _=>False) H (.ref a) (.list (ls.map fun l=>PyData.str (S l))):=.lst h (fun z=>z) ((vZ ls).narrow fun _ _=>trivial)
section
variable {P:Program}{w:World}{K:PySem.W.Frag}{mg:Str→Option Value}{base:Heap}
inductive EN (vs:List V) (H:Hp) (Q:VK):Prop
 | mk (v:V) (a:Addr) (ls:List (List Nat)) (ts:List ag) (R:List Nat) (us:List ag) (h0:vs=[v,.ref a]) (h1:bc ED H v (dM ls ts)) (h2:(∀t∈ts,fe ls t)) (h3:ts.length≤40) (h4:(∀l∈ls,iW l)) (h5:H a=some (.lst (bf R))) (h6:fZ ts R us) (h7:R.length≤10) (h8:∀H':Hp,ak H H'→Q (.bl true) H')
def Fy:Sp:=fun vs H Q _=>EN  vs H Q
theorem uR (T:Txt K mg):bD P w K mg base CX0 4 T.l_is_round_.f T.l_is_round_.d ["_law_net", "_law_thing"] Fy:=by
 have G_l_opened:=pQ (P:=P) (w:=w) (base:=base) T
 have G_l_gain_of:=pf (P:=P) (w:=w) (base:=base) T
 have G_l_above:=nV (P:=P) (w:=w) (base:=base) T
 refine T.l_is_round_.F.ok oP (fun vs H Q E h=>?_) (fun cdv A outer s H vs Q E hr h=>?_)
 ·obtain ⟨v,a,ls,ts,R,us,rfl,_⟩:=h
  rfl
 ·obtain ⟨v,a,ls,ts,R,us,rfl,hv,tc,h40,nc,ha,rk,l10,k⟩:=h
  obtain ⟨na,pa,ta,ys,rfl,hna,hpa,hta,ity⟩:=dQ hv
  have lR:R.length=us.length:=by have:=congrArg List.length rk.at';simpa using this
  have lN:(bf R).length=R.length:=List.length_map ..
  refine ⟨_,(@ae _ _ _ _ _ (@bH _ _ _ _ _ _ _ _ (@PW.pt _ _ _ (@iB _ _ _ _ _ _ _ (@mQ _ _ _ _ (@dn _ _ _ (@aB _ _ _ _ _ _ _ _ _ (@cp _ (K) (by rfl)) lB T.b_isinstance (@aI) (@aa _ _ _ _ _ (@pw _ 1 _ _ (Or.inl bJ) (by rfl) (by decide) (by decide)) (@aa _ _ _ _ _ (@eh _ _ _ _ qJ T.b_list (@cX) (by decide) (by decide)) (@ac _) rfl) rfl) (by decide) (by decide) (by rfl) (by rfl)) (by intro _;rfl))) (@iB _ _ _ _ _ _ _ (@aK _ _ _ _ _ _ _ _ (@lG _) (@aB _ _ _ _ _ _ _ _ _ (@eS _ (K) (by rfl)) ie T.b_len (@bw) (@aa _ _ _ _ _ (@pw _ 1 _ _ (Or.inl bJ) (by rfl) (by decide) (by decide)) (@ac _) rfl) (by decide) (by decide) (by rfl) (by rfl)) (@ad _ _ _ _) (@aG _ _ (by decide) (by decide))) (@iF _ _ _ _ (@mQ _ _ _ _ (@dn _ _ _ (@aB _ _ _ _ _ _ _ _ _ (@Bo _ (K) rfl (by rfl)) rW T.b_all (@sU) (@aa _ _ _ _ _ (@cO _ _ _ _ _ _ _ (["_law_number", "_law_net"]) (1) ([0]) _ _ _ _ rfl (by kernel_rfl) (@eJ _ (K) _ _ _ (@pw _ 1 _ _ (Or.inl bJ) (by rfl) (by decide) (by decide)) (by rfl)) (fun _ _ _ _ _ _=>(@au _ _ (0) _ (@cg _ (by kernel_rfl)) rfl (Or.inl (by kernel_rfl)) (by first | exact .inl rfl | exact .inr rfl | assumption))) (fun _ _ _ _ _ _=>@bX _) (fun _ _ _ _ _ _=>(@dj _ _ _ _ _ _ _ _ (@GJ _ (K) (by rfl)) (@pw _ 0 _ _ (Or.inl (by kernel_rfl)) (by rfl) (by decide) (by decide)) (@ai _ _ _ _ _ _ _ _ _ _ _ _ _ _ _ _ G_l_opened (hr.mono (by decide)) (by show _=_;kernel_rfl) T.l_opened_.m T.l_opened_.F.kp T.l_opened_.B .nil (@ay _) (@aa _ _ _ _ _ (@pw _ 1 _ _ (Or.inr (Or.inl (by kernel_rfl))) (by rfl) (by decide) (by decide)) (@ac _) rfl) (by decide) (by rfl) (by rfl)) rfl)) (by intro _;rfl)) (@ac _) rfl) (by decide) (by decide) (by rfl) (by rfl)) (by intro _;rfl))))))) (@ah _ _ _ (@aL _ _ _ _ (@jy _ _ _ _))) (@bd _)) (@ae _ _ _ _ _ (@bH _ _ _ _ _ _ _ _ (@dn _ _ _ (@aB _ _ _ _ _ _ _ _ _ (@Fk _ (K) rfl (by rfl)) rO T.b_any (@x5) (@aa _ _ _ _ _ (@cO _ _ _ _ _ _ _ (["_law_number"]) (1) ([]) _ _ _ _ rfl (by kernel_rfl) (@eJ _ (K) _ _ _ (@pw _ 1 _ _ (Or.inl bJ) (by rfl) (by decide) (by decide)) (by rfl)) (fun _ _ _ _ _ _=>(@au _ _ (0) _ (@cg _ (by kernel_rfl)) rfl (Or.inl (by kernel_rfl)) (by first | exact .inl rfl | exact .inr rfl | assumption))) (fun _ _ _ _ _ _=>@bX _) (fun _ _ _ _ _ _=>(@aB _ _ _ _ _ _ _ _ _ (@cp _ (K) (by rfl)) (by show _=_;kernel_rfl) T.b_isinstance (@aI) (@aa _ _ _ _ _ (@pw _ 0 _ _ (Or.inl (by kernel_rfl)) (by rfl) (by decide) (by decide)) (@aa _ _ _ _ _ (@eh _ _ _ _ (by show _=_;kernel_rfl) T.b_bool (@iQ) (by decide) (by decide)) (@ac _) rfl) rfl) (by decide) (by decide) (by rfl) (by rfl))) (by intro _;rfl)) (@ac _) rfl) (by decide) (by decide) (by rfl) (by rfl)) (by intro _;rfl)) (@ah _ _ _ (@aL _ _ _ _ (@jy _ _ _ _))) (@bd _)) (@ae _ _ _ _ _ (@qQ _ _ _ _ _ _ _ (["_law_number", "_law_net"]) (1) ([0]) _ _ _ _ (2) _ _ _ oP.nd rfl cn (by kernel_rfl) rfl (by kernel_rfl) (@eJ _ (K) _ _ _ (@pw _ 1 _ _ (Or.inl bJ) (by rfl) (by decide) (by decide)) (by rfl)) (fun _ _ _ _ _ _=>(@au _ _ (0) _ (@cg _ (by kernel_rfl)) rfl (Or.inl (by kernel_rfl)) (by first | exact .inl rfl | exact .inr rfl | assumption))) (fun _ _ _ _ _ _=>@bX _) (fun _ _ _ _ _ _=>(@aq _ _ _ _ _ _ _ (@aR _ (K) (by rfl)) (@aq _ _ _ _ _ _ _ (@aR _ (K) (by rfl)) (@aq _ _ _ _ _ _ _ (@aR _ (K) (by rfl)) (@pw _ 1 _ _ (Or.inr (Or.inl (by kernel_rfl))) (by rfl) (by decide) (by decide)) (@ad _ _ _ _) (fun _ _=>rfl)) (@pw _ 0 _ _ (Or.inl (by kernel_rfl)) (by rfl) (by decide) (by decide)) (fun _ _=>rfl)) (@ad _ _ _ _) (fun _ _=>rfl))) (by intro _;rfl)) (@ae _ _ _ _ _ (@bH _ _ _ _ _ _ _ _ (@PW.pt _ _ _ (@iB _ _ _ _ _ _ _ (@aK _ _ _ _ _ _ _ _ (@qb _) (@y7 _ (K) _ _ _ _ _ _ (@pw _ 2 _ _ (Or.inl cn) (by rfl) (by decide) (by decide)) rfl ie T.b_len rh T.b_set (by rfl) (by rfl)) (@aB _ _ _ _ _ _ _ _ _ (@eS _ (K) (by rfl)) ie T.b_len (@bw) (@aa _ _ _ _ _ (@pw _ 2 _ _ (Or.inl cn) (by rfl) (by decide) (by decide)) (@ac _) rfl) (by decide) (by decide) (by rfl) (by rfl)) (@aG _ _ (by decide) (by decide))) (@iF _ _ _ _ (@aK _ _ _ _ _ _ _ _ (@De _ hr.units) (@cO _ _ _ _ _ _ _ (["_law_number", "_law_net"]) (1) ([0]) _ _ _ _ rfl (by kernel_rfl) (@eJ _ (K) _ _ _ (@pw _ 1 _ _ (Or.inl bJ) (by rfl) (by decide) (by decide)) (by rfl)) (fun _ _ _ _ _ _=>(@au _ _ (0) _ (@cg _ (by kernel_rfl)) rfl (Or.inl (by kernel_rfl)) (by first | exact .inl rfl | exact .inr rfl | assumption))) (fun _ _ _ _ _ _=>@bX _) (fun _ _ _ _ _ _=>(@aq _ _ _ _ _ _ _ (@aR _ (K) (by rfl)) (@aq _ _ _ _ _ _ _ (@aR _ (K) (by rfl)) (@aq _ _ _ _ _ _ _ (@aR _ (K) (by rfl)) (@pw _ 1 _ _ (Or.inr (Or.inl (by kernel_rfl))) (by rfl) (by decide) (by decide)) (@ad _ _ _ _) (fun _ _=>rfl)) (@pw _ 0 _ _ (Or.inl (by kernel_rfl)) (by rfl) (by decide) (by decide)) (fun _ _=>rfl)) (@ad _ _ _ _) (fun _ _=>rfl))) (by intro _;rfl)) (@av _ _ _ _ _ _ _ _ (@kB _) (@gv _ _ _ _ _ _ _ _ _ _ (@jo _ (K) (by rfl)) (@pw _ 2 _ _ (Or.inl cn) (by rfl) (by decide) (by decide)) (@gJ _ _ _ (@ad _ _ _ _)) (@jn _)) (@gv _ _ _ _ _ _ _ _ _ _ (@jo _ (K) (by rfl)) (@pw _ 2 _ _ (Or.inl cn) (by rfl) (by decide) (by decide)) (@jn _) (@gJ _ _ _ (@ad _ _ _ _)))) (@aG _ _ (by decide) (by decide)))))) (@ah _ _ _ (@aL _ _ _ _ (@jy _ _ _ _))) (@bd _)) (@ah _ _ _ (@aL _ _ _ _ (@dj _ _ _ _ _ _ _ _ (@jA _) (@ai _ _ _ _ _ _ _ _ _ _ _ _ _ _ _ _ G_l_above (hr.mono (by decide)) nL T.l_above_.m T.l_above_.F.kp T.l_above_.B .nil (@ay _) (@aa _ _ _ _ _ (@ai _ _ _ _ _ _ _ _ _ _ _ _ _ _ _ _ G_l_gain_of (hr.mono (by decide)) mr T.l_gain_of_.m T.l_gain_of_.F.kp T.l_gain_of_.B .nil (@ay _) (@aa _ _ _ _ _ (@pw _ 0 _ _ (Or.inr (Or.inl pL)) (by rfl) (by decide) (by decide)) (@aa _ _ _ _ _ (@pw _ 1 _ _ (Or.inl bJ) (by rfl) (by decide) (by decide)) (@ac _) rfl) rfl) (by decide) (by rfl) (by rfl)) (@aa _ _ _ _ _ (@aF _ _ _ _ _ (@aa _ _ _ _ _ (@ad _ _ _ _) (@aa _ _ _ _ _ (@ad _ _ _ _) (@ac _) rfl) rfl)) (@ac _) rfl) rfl) (by decide) (by rfl) (by rfl)) (@ad _ _ _ _) (@aG _ _ (by decide) (by decide))))))))),?_⟩
  have ity0:∀{ks:List Nat}{H:Hp},H a=some (.lst (bf ks))→bc (fun _=>False) H (.ref a) (.list (ks.map fun k:Nat=>PyData.int (k:Int))):=fun {ks H} h=>.lst h (fun z=>z) (by
   clear h
   induction ks with
   | nil=>exact .nil
   | cons k r ih=>exact .cons (.int _) ih)
  refine bS fun DA nA=>?_
  refine ⟨_,rfl,_,_,_,_,rfl,(ity0 ha).ty,iu _,_,rfl,bC ?_⟩
  refine ⟨_,rfl,a,_,rfl,.inl (ax.of ha),_,_,rfl,rfl,_,rfl,?_⟩
  rw [show decide (((bf R).length:Int)<2)=false from decide_eq_false (by rw [lN];have:=rk.two;trivial)]
  refine bC ⟨_,rfl,a,rfl,⟨_,ax.of ha⟩,fun D hD=>lY (xs:=bf R) (fun _=>.bl true) (by trivial) hD ha ?_ ?_⟩
  ·intro i x H' R' hxi sm kk
   rw [List.getElem?_map] at hxi
   obtain ⟨j,ej,rfl⟩:=Option.map_eq_some_iff.mp hxi
   obtain ⟨t,eu,et⟩:=fZ.get rk.at' ej
   have mo:=(rR tc et).mpr (rk.op t (List.mem_of_getElem? eu))
   refine ⟨fB,_,rfl,_,rfl,.ref na,ls,ts,rfl,hv.mono sm.toE,h40,fun D2 H2 s2 fD2 hD2=>⟨D2,_,rfl,.inl (ax.of hD2),rfl,Ga _,?_⟩⟩
   show R' (.bl (si _ _)) _
   rw [Hx mo]
   exact kk H2 s2
  intro H1 s1 hD1
  rw [EQ,show List.replicate (bf R).length (V.bl true)=(List.replicate (bf R).length true).map V.bl by rw [List.map_replicate]] at hD1
  refine ⟨D,_,rfl,ax.of hD1,_,rfl,?_⟩
  rw [show (List.replicate (bf R).length true).all id=true by simp]
  refine bC (nA _ _ ?_)
  refine bS fun DB nB=>?_
  have ha1:=s1 _ _ ha
  refine ⟨_,rfl,a,rfl,⟨_,ax.of ha1⟩,fun D2 hD2=>lY (xs:=bf R) (fun _=>.bl false) (by trivial) hD2 ha1 ?_ ?_⟩
  ·intro i x H' R' hxi sm kk
   rw [List.getElem?_map] at hxi
   obtain ⟨j,ej,rfl⟩:=Option.map_eq_some_iff.mp hxi
   exact ⟨fB,_,rfl,_,_,_,_,rfl,(bc.int (E:=fun _=>False) (H:=H') (j:Int)).ty,kK (.int (j:Int)),kk H' (ak.refl _)⟩
  intro H2 s2 hD2'
  rw [EQ,show List.replicate (bf R).length (V.bl false)=(List.replicate (bf R).length false).map V.bl by rw [List.map_replicate]] at hD2'
  refine ⟨D2,_,rfl,ax.of hD2',_,rfl,?_⟩
  rw [show (List.replicate (bf R).length false).any id=false by simp]
  refine bC (nB _ _ ?_)
  have s02:=s1.trans s2
  have ha2:=s02 _ _ ha
  have mapE:∀(f:ag→List Nat),(List.range (bf R).length).map (fun i=>((us[i]?).map fun t=>aA (f t)).getD .non)=(us.map f).map aA:=fun f=>by
   rw [lN,lR,uO (fun i=>((us[i]?).map fun t=>aA (f t)).getD .non) (fun t=>aA (f t)) us (fun i x e=>by rw [e];rfl),List.map_map]
   rfl
  refine bI fun Q3 nA3=>⟨_,rfl,a,rfl,⟨_,ax.of ha2⟩,fun D3 hD3=>lY (xs:=bf R) (fun i=>((us[i]?).map fun t=>aA t.bg).getD .non) (by trivial) hD3 ha2 ?_ ?_⟩
  ·intro i x H' R' hxi sm kk
   rw [List.getElem?_map] at hxi
   obtain ⟨j,ej,rfl⟩:=Option.map_eq_some_iff.mp hxi
   obtain ⟨t,eu,et⟩:=fZ.get rk.at' ej
   rw [eu] at kk
   obtain ⟨o2,om,og,op,ey,h1,_,_,_⟩:=sQ ity et
   have sm':=s02.trans sm
   exact ⟨fB,_,rfl,na,_,_,_,rfl,rfl,ap.of (sm' _ _ hna),rfl,_,rfl,ta,_,_,_,rfl,rfl,ap.of (sm' _ _ hta),eX ey,o2,_,_,_,rfl,rfl,ap.of (sm' _ _ h1),rfl,kk H' (ak.refl _)⟩
  intro H3 s3 hB
  rw [mapE] at hB
  refine nA3 _ _ ?_
  have s03:=s02.trans s3
  refine bS fun DC nC=>?_
  refine ⟨_,rfl,D3,(us.map (·.bg)).map fun l=>(Sum.inr (S l):aU),rfl,.inl (ax.of (by rw [Fd];exact hB)),by rw [List.length_map,List.length_map];trivial,_,rfl,D3,_,rfl,.inl (ax.of hB),rfl,_,rfl,?_⟩
  have e1:(gO ((us.map (·.bg)).map fun l=>(Sum.inr (S l):aU))).length=((us.map (·.bg)).map aA).length:=by
   rw [(ye _).mpr (xT rk.nd)];simp
  rw [e1]
  refine kz ?_
  have ha3:=s03 _ _ ha
  refine ⟨_,rfl,a,rfl,⟨_,ax.of ha3⟩,fun D4 hD4=>lY (xs:=bf R) (fun i=>((us[i]?).map fun t=>aA t.en).getD .non) (by trivial) hD4 ha3 ?_ ?_⟩
  ·intro i x H' R' hxi sm kk
   rw [List.getElem?_map] at hxi
   obtain ⟨j,ej,rfl⟩:=Option.map_eq_some_iff.mp hxi
   obtain ⟨t,eu,et⟩:=fZ.get rk.at' ej
   rw [eu] at kk
   obtain ⟨o2,om,og,op,ey,h1,_,_,_⟩:=sQ ity et
   have sm':=s03.trans sm
   exact ⟨fB,_,rfl,na,_,_,_,rfl,rfl,ap.of (sm' _ _ hna),rfl,_,rfl,ta,_,_,_,rfl,rfl,ap.of (sm' _ _ hta),eX ey,o2,_,_,_,rfl,rfl,ap.of (sm' _ _ h1),rfl,kk H' (ak.refl _)⟩
  intro H4 s4 hE
  rw [mapE,rk.rot] at hE
  have hB4:=s4 _ _ hB
  refine ⟨_,rfl,_,rfl,D3,_,rfl,ax.of hB4,fun p1 J1 j1=>⟨_,rfl,_,rfl,D3,_,rfl,ax.of (j1.sm _ _ hB4),fun p2 J2 j2=>⟨p1,p2,_,_,rfl,rfl,j2.sm _ _ j1.at',j2.at',?_,fun p3 J3 j3=>?_⟩⟩⟩
  ·have q1:=mD ((us.map (·.bg)).map aA) (some 1) none
   have q2:=mD ((us.map (·.bg)).map aA) none (some 1)
   rw [List.length_map,List.length_map] at q1 q2
   exact Nat.le_trans (Nat.add_le_add q1 q2) (by trivial)
  have e3:J3 p3=some (.lst (((us.map (·.bg)).drop 1++(us.map (·.bg)).take 1).map aA)):=by
   rw [j3.at',oG,l8 (by decide),List.map_append,List.map_drop,List.map_take];rfl
  have sJ:ak H4 J3:=(j1.sm.trans j2.sm).trans j3.sm
  have ncb:∀l∈(us.map (·.bg)).drop 1++(us.map (·.bg)).take 1,iW l:=fun l hl=>by
   have:l∈us.map (·.bg):=by
    rcases List.mem_append.mp hl with z | z
    ·exact List.mem_of_mem_drop z
    ·exact List.mem_of_mem_take z
   obtain ⟨t,ht,rfl⟩:=List.mem_map.mp this
   have:some t∈R.map (fun k=>ts[k]?):=by rw [rk.at'];exact List.mem_map_of_mem ht
   obtain ⟨j,_,hj⟩:=List.mem_map.mp this
   exact nc _ (tc t (List.mem_of_getElem? hj)).b
  refine ⟨_,_,_,_,_,_,_,_,xj (sJ _ _ hE),xj e3,xl ncb,xl ncb,by decide,_,rfl,?_⟩
  have e5:PyData.eqv (.list (((us.map (·.bg)).drop 1++(us.map (·.bg)).take 1).map fun l=>PyData.str (S l))) (.list (((us.map (·.bg)).drop 1++(us.map (·.bg)).take 1).map fun l=>PyData.str (S l)))=true:=by
   simp only [PyData.eqv]
   exact wD _
  rw [e5]
  refine bC (nC _ _ ?_)
  have s05:=(s03.trans s4).trans sJ
  refine ⟨_,rfl,_,rfl,.ref na,a,ls,ts,R,us,rfl,hv.mono s05.toE,tc,s05 _ _ ha,rk.at',by trivial,fun g q H6 gg _ eg s6 hq=>⟨(by show 2≤10000;decide),fun q2 H7 n7=>⟨q,q2,g,(1,1),rfl,n7.sm _ _ hq,n7.at',gg.n.mono (by decide),gg.d.mono (by decide),Gp,Gp,_,_,rfl,rfl,?_⟩⟩⟩
  have e6:decide (g.1*1 - 1*g.2 > 0)=true:=by
   apply decide_eq_true
   have:=rk.gain
   rw [←eg,show (1:Rat)=KM.vl (1,1) by decide +kernel,lE (by decide) gg.pos] at this
   show g.1*1 - 1*g.2 > 0
   have t2:(1:Int)*g.2<g.1*1:=this
   trivial
  have k7:=k H7 ((s05.trans s6).trans n7.sm)
  rw [←e6] at k7
  exact k7
end
end K11
namespace K11
open PySem L2
set_option maxHeartbeats 4000000
def Tw:Nat→Nat
 | 0=>1
 | n+1=>24*(Tw n+1)+1
def Tk:Nat→Nat
 | 0=>0
 | n+1=>Tw n+1
theorem Bk:∀n,Tw n=24*Tk n+1
 | 0=>rfl
 | n+1=>rfl
theorem FH {n:Nat} (h:n≤5):Tw n≤16617649:=by
 obtain rfl | rfl | rfl | rfl | rfl | rfl:n=0∨n=1∨n=2∨n=3∨n=4∨n=5:=by trivial
 all_goals decide
theorem Ef (n:Nat):1≤Tw n:=by rw [Bk];trivial
def gw (N:Nat) (ps:List (V×List ag)):Nat:=(ps.map fun p=>Tw (N - (p.2.length+1))).sum
theorem lK (N:Nat) (ps:List (V×List ag)) (p:V×List ag):gw N (ps++[p])=gw N ps+Tw (N - (p.2.length+1)):=by
 unfold gw
 rw [List.map_append,List.sum_append]
 simp
theorem wq (N:Nat):∀ps:List (V×List ag),ps.length≤gw N ps
 | []=>Nat.le_refl _
 | p :: r=>by
  have:=wq N r
  have:=Ef (N - (p.2.length+1))
  show r.length+1≤Tw (N - (p.2.length+1))+gw N r
  trivial
structure dB (ls:List (List Nat)) (ts:List ag) (l0:List Nat) (R:List Nat) (us:List ag):Prop where
 at':R.map (fun k=>ts[k]?)=us.map some
 op:∀t∈us,t.most≠(0,1)
 ch:∃c,us.map (·.bg)++[c]=l0 :: us.map (·.en)
 nd:(l0 :: us.map (·.en)).Nodup
 sub:∀l∈l0 :: us.map (·.en),l∈ls
structure sV (ls:List (List Nat)) (ts:List ag) (l0:List Nat) (F W:Addr) (H:Hp) (x:V) (us:List ag):Prop where
 e:kd fun tp wa sa R=>x=.ref tp∧H tp=some (.tup [.ref wa,.ref sa])∧H wa=some (.lst (bf R))∧H sa=some (.lst ((l0 :: us.map (·.en)).map aA))∧wa≠F∧wa≠W∧sa≠F∧sa≠W∧dB ls ts l0 R us
def sI (ls:List (List Nat)) (ts:List ag) (l0:List Nat) (F W:Addr) (H:Hp) (x:V):Prop:=fJ fun a R us=>x=.ref a∧a≠F∧a≠W∧H a=some (.lst (bf R))∧us≠[]∧dB ls ts l0 R us
theorem sV.mono {ls:List (List Nat)}{ts:List ag}{l0:List Nat}{F W:Addr}{H H':Hp}{x:V}{us:List ag}{xs ys:List V} (h:sV ls ts l0 F W H x us) (hF:H F=some (.lst xs)) (hW:H W=some (.lst ys)) (f:cj F W H H'):sV ls ts l0 F W H' x us:=by
 obtain ⟨tp,wa,sa,R,rfl,h1,h2,h3,n1,n2,n3,n4,ok⟩:=h.e
 exact ⟨tp,wa,sa,R,rfl,f _ _ (fun z=>by rw [z,hF] at h1;cases h1) (fun z=>by rw [z,hW] at h1;cases h1) h1,f _ _ n1 n2 h2,f _ _ n3 n4 h3,n1,n2,n3,n4,ok⟩
theorem sI.mono {ls:List (List Nat)}{ts:List ag}{l0:List Nat}{F W:Addr}{H H':Hp}{x:V} (h:sI ls ts l0 F W H x) (f:cj F W H H'):sI ls ts l0 F W H' x:=by
 obtain ⟨a,R,us,rfl,n1,n2,h1,ne,ok⟩:=h
 exact ⟨a,R,us,rfl,n1,n2,f _ _ n1 n2 h1,ne,ok⟩
theorem cj.trans {W O:Addr}{H H' H'':Hp} (h:cj W O H H') (k:cj W O H' H''):cj W O H H'':=fun a o h1 h2 e=>k a o h1 h2 (h a o h1 h2 e)
theorem cj.sm {W O:Addr}{H H':Hp} (h:ak H H'):cj W O H H':=fun a o _ _ e=>h a o e
theorem cj.ch1 {W O:Addr}{H H':Hp}{xs:List V} (h:Ch H W xs H'):cj W O H H':=fun a o h1 _ e=>h.ol a o h1 e
theorem cj.ch2 {W O:Addr}{H H':Hp}{xs:List V} (h:Ch H O xs H'):cj W O H H':=fun a o _ h2 e=>h.ol a o h2 e
theorem dB.more {ls:List (List Nat)}{ts:List ag}{l0:List Nat}{R:List Nat}{us:List ag}{k:Nat}{t:ag}{c:List Nat} (h:dB ls ts l0 R us) (hc:us.map (·.bg)++[c]=l0 :: us.map (·.en)) (et:ts[k]?=some t) (op:t.most≠(0,1)) (eb:t.bg=c) (nw:t.en∉l0 :: us.map (·.en)) (hl:t.en∈ls):dB ls ts l0 (R++[k]) (us++[t]):=by
 refine ⟨by rw [List.map_append,List.map_append,h.at'];simp [et],fun x hx=>?_,⟨t.en,?_⟩,?_,fun l hl'=>?_⟩
 ·rcases List.mem_append.mp hx with z | z
  ·exact h.op x z
  ·rw [List.mem_singleton.mp z];exact op
 ·rw [List.map_append,List.map_append]
  show (us.map (·.bg)++[t.bg])++[t.en]=_
  rw [eb,hc]
  rfl
 ·rw [List.map_append]
  show ((l0 :: us.map (·.en))++[t.en]).Nodup
  exact List.nodup_append.mpr ⟨h.nd,by simp,fun a ha b hb=>by
   rw [List.mem_singleton.mp hb]
   exact fun z=>nw (z▸ha)⟩
 ·rw [List.map_append] at hl'
  rcases List.mem_append.mp (show l∈(l0 :: us.map (·.en))++[t.en] from hl') with z | z
  ·exact h.sub l z
  ·rw [List.mem_singleton.mp z];exact hl
def GF (ls:List (List Nat)) (ts:List ag) (l0:List Nat) (F W:Addr) (H:Hp) (fs:List V) (ff:List (List ag)):Prop:=∀u∈ff,bo fun a R=>V.ref a∈fs∧a≠F∧a≠W∧H a=some (.lst (bf R))∧dB ls ts l0 R u
theorem GF.mono {ls:List (List Nat)}{ts:List ag}{l0:List Nat}{F W:Addr}{H H':Hp}{fs:List V}{ff:List (List ag)} (h:GF ls ts l0 F W H fs ff) (f:cj F W H H'):GF ls ts l0 F W H' fs ff:=fun u hu=>by
 obtain ⟨a,R,m,n1,n2,h1,ok⟩:=h u hu
 exact ⟨a,R,m,n1,n2,f _ _ n1 n2 h1,ok⟩
def CM (ls:List (List Nat)) (ts:List ag) (l0:List Nat) (ps:List (V×List ag)) (ff:List (List ag)):Prop:=∀R u,dB ls ts l0 R u→u≠[]→u∈ff∨∃p∈ps,bo fun t vs=>u=p.2++t :: vs
def CI (ls:List (List Nat)) (ts:List ag) (l0:List Nat) (us:List ag) (i:Nat) (ps:List (V×List ag)) (ff:List (List ag)):Prop:=
 ∀R u,dB ls ts l0 R u→u≠[]→u∈ff∨(∃p∈ps,bo fun t vs=>u=p.2++t :: vs)∨kd fun t vs k q=>u=us++t :: vs∧(bU ts ts.length)[q]?=some k∧ts[k]?=some t∧i≤q
theorem CM.start {ls:List (List Nat)}{ts:List ag}{l0:List Nat}{x:V}{us:List ag}{qs:List (V×List ag)}{ff:List (List ag)} (tc:∀t∈ts,fe ls t) (h:CM ls ts l0 (qs++[(x,us)]) ff):CI ls ts l0 us 0 qs ff:=fun R u ok ne=>by
 rcases h R u ok ne with h | ⟨p,hp,t,vs,e⟩
 ·exact .inl h
 ·rcases List.mem_append.mp hp with hp | hp
  ·exact .inr (.inl ⟨p,hp,t,vs,e⟩)
  ·rw [List.mem_singleton.mp hp] at e
   have e:u=us++t :: vs:=e
   have at':=ok.at'
   rw [e,List.map_append,List.map_cons] at at'
   have h1:(R.map fun k=>ts[k]?)[(us.map some).length]?=some (some t):=by
    rw [at',List.getElem?_append_right (Nat.le_refl _),Nat.sub_self];rfl
   rw [List.getElem?_map] at h1
   obtain ⟨k,_,hk⟩:=Option.map_eq_some_iff.mp h1
   have mk:=(rR tc hk).mpr (ok.op t (by rw [e];simp))
   obtain ⟨q,hq⟩:=List.getElem?_of_mem mk
   exact .inr (.inr ⟨t,vs,k,q,e,hq,hk,Nat.zero_le _⟩)
theorem AK {ls:List (List Nat)}{ts:List ag}{l0 c:List Nat}{R:List Nat}{us vs:List ag}{t:ag} (ok:dB ls ts l0 R (us++t :: vs)) (hc:us.map (·.bg)++[c]=l0 :: us.map (·.en)):t.bg=c∧t.en∉l0 :: us.map (·.en):=by
 obtain ⟨c',h⟩:=ok.ch
 have nd:=ok.nd
 rw [List.map_append,List.map_append,List.map_cons,List.map_cons] at h
 rw [List.map_append,List.map_cons] at nd
 have h2:us.map (·.bg)++(t.bg :: (vs.map (·.bg)++[c']))=us.map (·.bg)++([c]++(t.en :: vs.map (·.en))):=by
  rw [←List.append_assoc,hc]
  exact (by simpa using h)
 have h3:=List.append_cancel_left h2
 injection h3 with h4 _
 refine ⟨h4,fun z=>?_⟩
 have nd':((l0 :: us.map (·.en))++t.en :: vs.map (·.en)).Nodup:=nd
 exact (List.nodup_append.mp nd').2.2 _ z _ List.mem_cons_self rfl
theorem CI.miss {ls:List (List Nat)}{ts:List ag}{l0 c:List Nat}{us:List ag}{i j:Nat}{t:ag}{ps:List (V×List ag)}{ff:List (List ag)} (h:CI ls ts l0 us i ps ff) (hc:us.map (·.bg)++[c]=l0 :: us.map (·.en)) (ej:(bU ts ts.length)[i]?=some j) (et:ts[j]?=some t) (no:¬(t.bg=c∧t.en∉l0 :: us.map (·.en))):CI ls ts l0 us (i+1) ps ff:=fun R u ok ne=>by
 rcases h R u ok ne with h | h | ⟨t',vs,k,q,e,hq,hk,hi⟩
 ·exact .inl h
 ·exact .inr (.inl h)
 ·by_cases z:q=i
  ·subst z
   rw [ej] at hq
   cases hq
   rw [et] at hk
   cases hk
   subst e
   exact absurd (AK ok hc) no
  ·exact .inr (.inr ⟨t',vs,k,q,e,hq,hk,by trivial⟩)
theorem CI.hit {ls:List (List Nat)}{ts:List ag}{l0:List Nat}{us:List ag}{i j:Nat}{t:ag}{y:V}{ps:List (V×List ag)}{ff:List (List ag)} (h:CI ls ts l0 us i ps ff) (ej:(bU ts ts.length)[i]?=some j) (et:ts[j]?=some t):CI ls ts l0 us (i+1) (ps++[(y,us++[t])]) (ff++[us++[t]]):=fun R u ok ne=>by
 rcases h R u ok ne with h | ⟨p,hp,h⟩ | ⟨t',vs,k,q,e,hq,hk,hi⟩
 ·exact .inl (List.mem_append_left _ h)
 ·exact .inr (.inl ⟨p,List.mem_append_left _ hp,h⟩)
 ·by_cases z:q=i
  ·subst z
   rw [ej] at hq
   cases hq
   rw [et] at hk
   cases hk
   cases vs with
   | nil=>exact .inl (by rw [e];simp)
   | cons t2 vs=>exact .inr (.inl ⟨(y,us++[t]),by simp,t2,vs,by rw [e];simp⟩)
  ·exact .inr (.inr ⟨t',vs,k,q,e,hq,hk,by trivial⟩)
theorem CI.done {ls:List (List Nat)}{ts:List ag}{l0:List Nat}{us:List ag}{ps:List (V×List ag)}{ff:List (List ag)} (h:CI ls ts l0 us (bU ts ts.length).length ps ff):CM ls ts l0 ps ff:=fun R u ok ne=>by
 rcases h R u ok ne with h | h | ⟨t',vs,k,q,e,hq,hk,hi⟩
 ·exact .inl h
 ·exact .inr h
 ·have:=(List.getElem?_eq_some_iff.mp hq).1
  trivial
section
variable {P:Program}{w:World}{K:PySem.W.Frag}{mg:Str→Option Value}{base:Heap}
inductive Gc (vs:List V) (H:Hp) (Q:VK):Prop
 | mk (v:V) (ls:List (List Nat)) (ts:List ag) (l0:List Nat) (h0:vs=[v,aA l0]) (h1:bc ED H v (dM ls ts)) (h2:(∀t∈ts,fe ls t)) (h3:ts.length≤24) (h4:ls.length≤6) (h5:l0∈ls) (h6:∀(F W:Addr) (xs:List V) (H':Hp),ak H H'→H F=none→H' F=some (.lst xs)→(∀x∈xs,sI ls ts l0 F W H' x)→(∀R u,dB ls ts l0 R u→u≠[]→bo fun a R'=>V.ref a∈xs∧H' a=some (.lst (bf R'))∧dB ls ts l0 R' u)→Q (.ref F) H')
def Gz:Sp:=fun vs H Q _=>Gc  vs H Q
theorem uS (T:Txt K mg):bD P w K mg base CX0 2 T.l_all_ways_.f T.l_all_ways_.d ["_law_net", "_law_begin"] Gz:=by
 have G_l_opened:=pQ (P:=P) (w:=w) (base:=base) T
 refine T.l_all_ways_.F.ok fH (fun vs H Q E h=>?_) (fun cdv A outer s H vs Q E hr h=>?_)
 ·obtain ⟨v,ls,ts,l0,rfl,_⟩:=h
  rfl
 ·obtain ⟨v,ls,ts,l0,rfl,hv,tc,h24,l6,hl0,k⟩:=h
  obtain ⟨na,pa,ta,ys,rfl,hna,hpa,hta,ity⟩:=dQ hv
  have l1:1≤ls.length:=List.length_pos_of_mem hl0
  have CT:=FH (n:=ls.length - 1) (by trivial)
  refine ⟨_,(@ae _ _ _ _ _ (@mW _ _ (2) (3) _ _ _ _ _ _ _ _ _ _ _ rfl fH.nd rfl rfl (by decide) fi cU (@aa _ _ _ _ _ (@bO _ _ _ _ (@ac _)) (@aa _ _ _ _ _ (@bO _ _ _ _ (@aa _ _ _ _ _ (@aF _ _ _ _ _ (@aa _ _ _ _ _ (@bO _ _ _ _ (@ac _)) (@aa _ _ _ _ _ (@bO _ _ _ _ (@aa _ _ _ _ _ (@pw _ 1 _ _ (Or.inl nz) (by rfl) (by decide) (by decide)) (@ac _) rfl)) (@ac _) rfl) rfl)) (@ac _) rfl)) (@ac _) rfl) rfl) (by kernel_rfl) (by rfl)) (@ae _ _ _ _ _ (@kM _ _ _ _ _ _ PassesOwn.never (@aK _ _ _ _ _ _ _ _ (@AF _ hr.units) (@pw _ 3 _ _ (Or.inl cU) (by rfl) (by decide) (by decide)) (@bO _ _ _ _ (@ac _)) (@aG _ _ (by decide) (by decide))) (@ae _ _ _ _ _ (@d9 _ _ _ _ _ _ (@D6 _ _ _ _ _ _ _ _ _ PySem.F.plainAttrs_list PySem.F.slot_list_pop PySem.F.type_list_pop (@BV _) (@pw _ 3 _ _ (Or.inl cU) (by rfl) (by decide) (by decide)) (by rfl) (by rfl)) (@cP _ (K) _ _ _ _ (2) rfl (@aP _ _ _ _ _ (@au _ _ (4) _ fH.nd rfl (Or.inl gj) (by first | exact .inl rfl | exact .inr rfl | assumption)) (@aP _ _ _ _ _ (@au _ _ (5) _ fH.nd rfl (Or.inl dC) (by first | exact .inl rfl | exact .inr rfl | assumption)) (@cN _) (by rfl)) (by rfl)) (by rfl) (by rfl) (by rfl)) (by rfl) (by rfl) (by rfl)) (@ah _ _ _ (@e8 _ _ _ _ _ _ _ _ PassesOwn.never rfl (@eJ _ (K) _ _ _ (@ai _ _ _ _ _ _ _ _ _ _ _ _ _ _ _ _ G_l_opened (hr.mono (by decide)) mT T.l_opened_.m T.l_opened_.F.kp T.l_opened_.B .nil (@ay _) (@aa _ _ _ _ _ (@pw _ 0 _ _ (Or.inl eH) (by rfl) (by decide) (by decide)) (@ac _) rfl) (by decide) (by rfl) (by rfl)) (by rfl)) (@au _ _ (6) _ fH.nd rfl (Or.inl bP) (by first | exact .inl rfl | exact .inr rfl | assumption)) (@ah _ _ _ (@bH _ _ _ _ _ _ _ _ (@PW.pt _ _ _ (@yC _ _ _ _ _ _ _ (@aK _ _ _ _ _ _ _ _ (@dE _) (@aq _ _ _ _ _ _ _ (@aR _ (K) (by rfl)) (@aq _ _ _ _ _ _ _ (@aR _ (K) (by rfl)) (@aq _ _ _ _ _ _ _ (@aR _ (K) (by rfl)) (@pw _ 0 _ _ (Or.inl eH) (by rfl) (by decide) (by decide)) (@ad _ _ _ _) (fun _ _=>rfl)) (@pw _ 6 _ _ (Or.inl bP) (by rfl) (by decide) (by decide)) (fun _ _=>rfl)) (@ad _ _ _ _) (fun _ _=>rfl)) (@aq _ _ _ _ _ _ _ (@oq _ (K) (by rfl)) (@pw _ 5 _ _ (Or.inl dC) (by rfl) (by decide) (by decide)) (@vh _ _ _ _ _ _ (@sq _) (@ad _ _ _ _)) (fun _ _=>rfl)) (@aG _ _ (by decide) (by decide))) (@xb _ _ _ _ (@aK _ _ _ _ _ _ _ _ (@xq _ (K) (by rfl)) (@aq _ _ _ _ _ _ _ (@aR _ (K) (by rfl)) (@aq _ _ _ _ _ _ _ (@aR _ (K) (by rfl)) (@aq _ _ _ _ _ _ _ (@aR _ (K) (by rfl)) (@pw _ 0 _ _ (Or.inl eH) (by rfl) (by decide) (by decide)) (@ad _ _ _ _) (fun _ _=>rfl)) (@pw _ 6 _ _ (Or.inl bP) (by rfl) (by decide) (by decide)) (fun _ _=>rfl)) (@ad _ _ _ _) (fun _ _=>rfl)) (@pw _ 5 _ _ (Or.inl dC) (by rfl) (by decide) (by decide)) rfl)))) (@ae _ _ _ _ _ (@fM _ _ _ _ (@fQ _ (K) _ _ _ _ _ _ _ _ _ _ _ PySem.F.plainAttrs_list PySem.F.slot_list_append PySem.F.type_list_append (@sx _) (@pw _ 2 _ _ (Or.inl fi) (by rfl) (by decide) (by decide)) (@aa _ _ _ _ _ (@av _ _ _ _ _ _ _ _ (@kB _) (@pw _ 4 _ _ (Or.inl gj) (by rfl) (by decide) (by decide)) (@bO _ _ _ _ (@aa _ _ _ _ _ (@pw _ 6 _ _ (Or.inl bP) (by rfl) (by decide) (by decide)) (@ac _) rfl))) (@ac _) rfl) (by rfl) (by rfl) (by rfl) (by rfl) (by rfl) (by rfl)) (by rfl)) (@ah _ _ _ (@fM _ _ _ _ (@fQ _ (K) _ _ _ _ _ _ _ _ _ _ _ PySem.F.plainAttrs_list PySem.F.slot_list_append PySem.F.type_list_append (@sx _) (@pw _ 3 _ _ (Or.inl cU) (by rfl) (by decide) (by decide)) (@aa _ _ _ _ _ (@aF _ _ _ _ _ (@aa _ _ _ _ _ (@av _ _ _ _ _ _ _ _ (@kB _) (@pw _ 4 _ _ (Or.inl gj) (by rfl) (by decide) (by decide)) (@bO _ _ _ _ (@aa _ _ _ _ _ (@pw _ 6 _ _ (Or.inl bP) (by rfl) (by decide) (by decide)) (@ac _) rfl))) (@aa _ _ _ _ _ (@av _ _ _ _ _ _ _ _ (@kB _) (@pw _ 5 _ _ (Or.inl dC) (by rfl) (by decide) (by decide)) (@bO _ _ _ _ (@aa _ _ _ _ _ (@aq _ _ _ _ _ _ _ (@aR _ (K) (by rfl)) (@aq _ _ _ _ _ _ _ (@aR _ (K) (by rfl)) (@aq _ _ _ _ _ _ _ (@aR _ (K) (by rfl)) (@pw _ 0 _ _ (Or.inl eH) (by rfl) (by decide) (by decide)) (@ad _ _ _ _) (fun _ _=>rfl)) (@pw _ 6 _ _ (Or.inl bP) (by rfl) (by decide) (by decide)) (fun _ _=>rfl)) (@ad _ _ _ _) (fun _ _=>rfl)) (@ac _) rfl))) (@ac _) rfl) rfl)) (@ac _) rfl) (by rfl) (by rfl) (by rfl) (by rfl) (by rfl) (by rfl)) (by rfl)))) (@bd _))) (by intro _;rfl))))) (@ah _ _ _ (@aL _ _ _ _ (@pw _ 2 _ _ (Or.inl fi) (by rfl) (by decide) (by decide)))))),?_⟩
  refine Ap fun Q1 nP=>⟨Nat.zero_le _,fun F H1 n1=>⟨Nat.zero_le _,fun wa0 H2 n2=>⟨_,rfl,(by show 1≤10000;decide),fun sa0 H3 n3=>⟨(by show 2≤10000;decide),fun tp0 H4 n4=>⟨(by show 1≤10000;decide),fun W H5 n5=>nP _ _ _ ?_⟩⟩⟩⟩⟩
  have hF5:H5 F=some (.lst []):=n5.sm _ _ (n4.sm _ _ (n3.sm _ _ (n2.sm _ _ n1.at')))
  have hwa5:H5 wa0=some (.lst []):=n5.sm _ _ (n4.sm _ _ (n3.sm _ _ n2.at'))
  have hsa5:H5 sa0=some (.lst [aA l0]):=n5.sm _ _ (n4.sm _ _ n3.at')
  have htp5:H5 tp0=some (.tup [.ref wa0,.ref sa0]):=n5.sm _ _ n4.at'
  have s5:ak H H5:=(((n1.sm.trans n2.sm).trans n3.sm).trans n4.sm).trans n5.sm
  have fF:H F=none:=n1.fr
  have fW:H W=none:=(((n1.sm.trans n2.sm).trans n3.sm).trans n4.sm).free n5.fr
  have a1:wa0≠F:=fun z=>by have:=n2.fr;rw [z,n1.at'] at this;cases this
  have a2:sa0≠F:=fun z=>by have:=n3.fr;rw [z,n2.sm _ _ n1.at'] at this;cases this
  have a3:wa0≠W:=fun z=>by have:=n5.fr;rw [←z,n4.sm _ _ (n3.sm _ _ n2.at')] at this;cases this
  have a4:sa0≠W:=fun z=>by have:=n5.fr;rw [←z,n4.sm _ _ n3.at'] at this;cases this
  have nFW:¬F=W:=fun z=>by have:=n5.fr;rw [←z,n4.sm _ _ (n3.sm _ _ (n2.sm _ _ n1.at'))] at this;cases this
  have ent0:sV ls ts l0 F W H5 (.ref tp0) []:=⟨tp0,wa0,sa0,[],rfl,htp5,hwa5,hsa5,a1,a3,a2,a4,⟨rfl,(fun t h=>by cases h),⟨l0,rfl⟩,by simp,fun l hl=>by rw [List.mem_singleton.mp hl];exact hl0⟩⟩
  refine bS fun DA nA=>?_
  refine pM (fun m σ H'=>xF fun (ps:List (V×List ag)) (fs:List V) (ff:List (List ag)) (v4 v5 v6:Option V)=>σ=[some (.ref na),some (aA l0),some (.ref F),some (.ref W),v4,v5,v6]∧m=gw ls.length ps∧H' W=some (.lst (ps.map (·.1)))∧H' F=some (.lst fs)∧gw ls.length ps+fs.length≤16617649∧(∀p∈ps,sV ls ts l0 F W H' p.1 p.2)∧(∀x∈fs,sI ls ts l0 F W H' x)∧ak H H'∧GF ls ts l0 F W H' fs ff∧CM ls ts l0 ps ff) _ ⟨[(.ref tp0,[])],[],[],_,_,_,rfl,rfl,n5.at',hF5,by
   show Tw (ls.length - 1)+0+0≤_
   trivial,(fun p hp=>by rw [List.mem_singleton.mp hp];exact ent0),(fun x hx=>by cases hx),s5,(fun u hu=>by cases hu),(fun R u ok ne=>by
    cases u with
    | nil=>exact absurd rfl ne
    | cons t vs=>exact .inr ⟨_,List.mem_singleton.mpr rfl,t,vs,rfl⟩)⟩ ?_
  rintro m σ J ⟨ps,fs,ff,v4,v5,v6,rfl,rfl,hW,hF,hC,hE,hfs,sm,gf,cm⟩ Q D' nD rD qT qF
  refine ⟨_,rfl,Nat.zero_le _,fun c0 J1 j1=>⟨W,c0,_,rfl,rfl,j1.sm _ _ hW,j1.at',_,rfl,?_⟩⟩
  have sm1:=sm.trans j1.sm
  have hW1:=j1.sm _ _ hW
  have hF1:=j1.sm _ _ hF
  have hE1:∀p∈ps,sV ls ts l0 F W J1 p.1 p.2:=fun p hp=>(hE p hp).mono hF hW (cj.sm j1.sm)
  have hfs1:∀x∈fs,sI ls ts l0 F W J1 x:=fun x hx=>(hfs x hx).mono (cj.sm j1.sm)
  rcases List.eq_nil_or_concat ps with rfl | ⟨qs,p,rfl⟩
  ·exact qF _ (nA _ _ ⟨_,rfl,k F W fs J1 sm1 fF hF1 hfs1 fun R u ok ne=>by
    rcases cm R u ok ne with h | ⟨p,hp,_⟩
    ·obtain ⟨a,R',m,_,_,h1,ok'⟩:=gf u h
     exact ⟨a,R',m,j1.sm _ _ h1,ok'⟩
    ·cases hp⟩)
  have ene:(!((qs.concat p).map (·.1)).isEmpty)=true:=by simp
  rw [ene]
  refine qT _ ?_
  rw [List.concat_eq_append] at hW1 hC hE1 cm
  obtain ⟨x,us⟩:=p
  rw [lK] at hC
  rw [List.map_append] at hW1
  obtain ⟨tp,wa,sa,R,rfl,htp,hwa,hsa,b1,b2,b3,b4,ok⟩:=(hE1 (x,us) (by simp)).e
  have hC':gw ls.length qs+Tw (ls.length - (us.length+1))+fs.length≤16617649:=hC
  refine bS fun DC nC=>⟨_,rfl,.inl ⟨rfl,_,ax.of hW1⟩,W,qs.map (·.1),.ref tp,rfl,rfl,hW1,fun J2 c2=>?_⟩
  have htp2:=c2.tup htp hW1
  refine ⟨tp,_,rfl,ap.of htp2,rfl,_,_,rfl,_,_,rfl,rfl,nC _ _ ?_⟩
  have sm2:ak H J2:=fun a o h=>c2.ol a o (fun z=>by rw [z,fW] at h;cases h) (sm1 _ _ h)
  have f12:cj F W J1 J2:=cj.ch2 c2
  refine ⟨_,rfl,.ref na,ls,ts,rfl,hv.mono sm2.toE,by trivial,fun D2 J3 s3 fD2 hD2=>⟨D2,rfl,⟨_,ax.of hD2⟩,?_⟩⟩
  have f13:cj F W J1 J3:=f12.trans (cj.sm s3)
  have hF2:=c2.ol F _ nFW hF1
  have hF3:=s3 _ _ hF2
  have hW3:=s3 _ _ c2.at'
  have nDF:¬D2=F:=fun z=>by rw [z,hF2] at fD2;cases fD2
  have nDW:¬D2=W:=fun z=>by rw [z,c2.at'] at fD2;cases fD2
  have hwa3:=f13 _ _ b1 b2 hwa
  have hsa3:=f13 _ _ b3 b4 hsa
  have hE3:∀p∈qs,sV ls ts l0 F W J3 p.1 p.2:=fun p hp=>(hE1 p (List.mem_append_left _ hp)).mono hF1 hW1 f13
  have hfs3:∀x∈fs,sI ls ts l0 F W J3 x:=fun x hx=>(hfs1 x hx).mono f13
  obtain ⟨c,hc⟩:=ok.ch
  have lus:us.length+1≤ls.length:=by
   have:=jp (xs:=l0 :: us.map (·.en)) (ys:=ls) ok.nd ok.sub
   simpa using this
  have lRu:R.length=us.length:=by have:=congrArg List.length ok.at';simpa using this
  have tw:=Bk (ls.length - (us.length+1))
  refine kU (xs:=bf (bU ts ts.length)) (fun i σ H'=>kd fun (ps:List (V×List ag)) (gs:List V) (ff:List (List ag)) (v6:Option V)=>σ=[some (.ref na),some (aA l0),some (.ref F),some (.ref W),some (.ref wa),some (.ref sa),v6]∧H' W=some (.lst (ps.map (·.1)))∧H' F=some (.lst gs)∧gw ls.length ps≤gw ls.length qs+i*Tk (ls.length - (us.length+1))∧gw ls.length ps+gs.length≤gw ls.length qs+fs.length+i*Tk (ls.length - (us.length+1))∧(∀p∈ps,sV ls ts l0 F W H' p.1 p.2)∧(∀x∈gs,sI ls ts l0 F W H' x)∧cj F W J3 H'∧ak H H'∧GF ls ts l0 F W H' gs ff∧CI ls ts l0 us i ps ff) ⟨qs,fs,ff,_,rfl,hW3,hF3,by trivial,by trivial,hE3,hfs3,(fun _ _ _ _ h=>h),sm2.trans s3,(gf.mono (cj.sm j1.sm)).mono f13,cm.start tc⟩ ?_ ?_ ?_
  ·rintro i σ H' _ ⟨_,_,_,_,_,_,_,_,_,_,_,f,_⟩
   exact ax.of (f _ _ nDF nDW hD2)
  ·rintro i x σ J4 hx ⟨ps,gs,ff',v6',rfl,hW4,hF4,hm4,hC4,hE4,hfs4,f4,sm4,gf4,ci4⟩
   have li:i<ts.length:=by
    have h1:=(List.getElem?_eq_some_iff.mp hx).1
    rw [List.length_map] at h1
    exact Nat.lt_of_lt_of_le h1 (k6 _ _)
   rw [List.getElem?_map] at hx
   obtain ⟨j,ej,rfl⟩:=Option.map_eq_some_iff.mp hx
   have mj:=List.mem_of_getElem? ej
   have jlt:j<ts.length:=List.mem_range.mp (List.mem_filter.mp mj).1
   obtain ⟨t,et⟩:∃t,ts[j]?=some t:=⟨_,List.getElem?_eq_getElem jlt⟩
   have tt:=tc t (List.mem_of_getElem? et)
   have op:=(rR tc et).mp mj
   obtain ⟨o2,om,og,op',ey,h1,_,_,_⟩:=sQ ity et
   have hwa4:=f4 _ _ b1 b2 hwa3
   have hsa4:=f4 _ _ b3 b4 hsa3
   have elast:gW ((l0 :: us.map (·.en)).map aA) (-1)=some (aA c):=by
    rw [←hc,List.map_append]
    exact Ae _ _
   have mi:i*Tk (ls.length - (us.length+1))≤24*Tk (ls.length - (us.length+1)):=Nat.mul_le_mul_right _ (by trivial)
   have mi1:(i+1)*Tk (ls.length - (us.length+1))=i*Tk (ls.length - (us.length+1))+Tk (ls.length - (us.length+1)):=Nat.succ_mul _ _
   refine ⟨_,rfl,na,_,_,_,rfl,rfl,ap.of (sm4 _ _ hna),rfl,_,rfl,ta,_,_,_,rfl,rfl,ap.of (sm4 _ _ hta),eX ey,o2,_,_,_,rfl,rfl,ap.of (sm4 _ _ h1),rfl,_,rfl,1,rfl,sa,_,_,_,rfl,rfl,ax.of hsa4,elast,rfl,_,rfl,?_⟩
   have keep:CI ls ts l0 us (i+1) ps ff'→kd fun (ps:List (V×List ag)) (gs:List V) (ff:List (List ag)) (v6:Option V)=>[some (V.ref na),some (aA l0),some (.ref F),some (.ref W),some (.ref wa),some (.ref sa),some (.int (j:Int))]=[some (.ref na),some (aA l0),some (.ref F),some (.ref W),some (.ref wa),some (.ref sa),v6]∧J4 W=some (.lst (ps.map (·.1)))∧J4 F=some (.lst gs)∧gw ls.length ps≤gw ls.length qs+(i+1)*Tk (ls.length - (us.length+1))∧gw ls.length ps+gs.length≤gw ls.length qs+fs.length+(i+1)*Tk (ls.length - (us.length+1))∧(∀p∈ps,sV ls ts l0 F W J4 p.1 p.2)∧(∀x∈gs,sI ls ts l0 F W J4 x)∧cj F W J3 J4∧ak H J4∧GF ls ts l0 F W J4 gs ff∧CI ls ts l0 us (i+1) ps ff:=fun ci=>⟨ps,gs,ff',_,rfl,hW4,hF4,by trivial,by trivial,hE4,hfs4,f4,sm4,gf4,ci⟩
   have einS:si (V.str (S t.en)) ((l0 :: us.map (·.en)).map aA)=(l0 :: us.map (·.en)).contains t.en:=Go _ _
   by_cases hb:t.bg=c
   rotate_left
   ·dsimp only
    rw [show decide (V.str (S t.bg)=aA c)=false from decide_eq_false (fun z=>hb (qh (V.str.inj z)))]
    exact bC (bC (keep (ci4.miss hc ej et fun z=>hb z.1)))
   dsimp only
   rw [show decide (V.str (S t.bg)=aA c)=true from decide_eq_true (by rw [hb])]
   refine bW ⟨_,rfl,na,_,_,_,rfl,rfl,ap.of (sm4 _ _ hna),rfl,_,rfl,ta,_,_,_,rfl,rfl,ap.of (sm4 _ _ hta),eX ey,o2,_,_,_,rfl,rfl,ap.of (sm4 _ _ h1),rfl,_,rfl,sa,_,rfl,.inl (ax.of hsa4),rfl,A2 _,_,rfl,?_⟩
   rw [einS]
   by_cases he:t.en∈l0 :: us.map (·.en)
   ·rw [show (l0 :: us.map (·.en)).contains t.en=true from List.contains_iff_mem.mpr he]
    exact bC (keep (ci4.miss hc ej et fun z=>z.2 he))
   rw [show (l0 :: us.map (·.en)).contains t.en=false from Bool.eq_false_iff.mpr fun z=>he (List.contains_iff_mem.mp z)]
   refine bW ?_
   have ok':=ok.more hc et op hb he tt.e
   have lus':us.length+2≤ls.length:=by
    have:=jp (xs:=l0 :: (us++[t]).map (·.en)) (ys:=ls) ok'.nd ok'.sub
    simpa using this
   obtain ⟨r,er⟩:∃r,ls.length - (us.length+1)=r+1:=⟨ls.length - (us.length+2),by trivial⟩
   have tkr:Tk (ls.length - (us.length+1))=Tw (ls.length - ((us++[t]).length+1))+1:=by
    rw [er,show ls.length - ((us++[t]).length+1)=r by simp;trivial]
    rfl
   refine bS fun DE nE=>⟨_,rfl,.inl ⟨rfl,_,ax.of hF4⟩,_,rfl,_,rfl,(by show 1≤10000;decide),fun q1 G1 g1=>⟨wa,q1,_,_,rfl,rfl,g1.sm _ _ hwa4,g1.at',by simp;trivial,fun q2 G2 g2=>⟨F,gs,.ref q2,rfl,rfl,g2.sm _ _ (g1.sm _ _ hF4),by trivial,fun G3 c3=>nE _ _ ?_⟩⟩⟩
   have sg2:=g1.sm.trans g2.sm
   have nq2F:q2≠F:=fun z=>by have:=g2.fr;rw [z,g1.sm _ _ hF4] at this;cases this
   have nq2W:q2≠W:=fun z=>by have:=g2.fr;rw [z,g1.sm _ _ hW4] at this;cases this
   have fg3:cj F W J4 G3:=(cj.sm sg2).trans (cj.ch1 c3)
   have hW5':=c3.ol W _ (fun z=>nFW z.symm) (sg2 _ _ hW4)
   have hwa5':=fg3 _ _ b1 b2 hwa4
   have hsa5':=fg3 _ _ b3 b4 hsa4
   have smg3:ak H G3:=fun a o h=>c3.ol a o (fun z=>by rw [z,fF] at h;cases h) (sg2 _ _ (sm4 _ _ h))
   refine ⟨_,rfl,.inl ⟨rfl,_,ax.of hW5'⟩,_,rfl,_,rfl,(by show 1≤10000;decide),fun q3 G4 g4=>⟨wa,q3,_,_,rfl,rfl,g4.sm _ _ hwa5',g4.at',by simp;trivial,fun q4 G5 g5=>?_⟩⟩
   have sg5:=g4.sm.trans g5.sm
   have sm5':=smg3.trans sg5
   refine ⟨_,rfl,_,rfl,na,_,_,_,rfl,rfl,ap.of (sm5' _ _ hna),rfl,_,rfl,ta,_,_,_,rfl,rfl,ap.of (sm5' _ _ hta),eX ey,o2,_,_,_,rfl,rfl,ap.of (sm5' _ _ h1),rfl,(by show 1≤10000;decide),fun q5 G6 g6=>⟨sa,q5,_,_,rfl,rfl,g6.sm _ _ (sg5 _ _ hsa5'),g6.at',by simp;trivial,fun q6 G7 g7=>⟨(by show 2≤10000;decide),fun q7 G8 g8=>⟨W,_,.ref q7,rfl,rfl,g8.sm _ _ (g7.sm _ _ (g6.sm _ _ (sg5 _ _ hW5'))),?_,fun G9 c9=>?_⟩⟩⟩⟩
   ·have:=wq ls.length ps
    rw [List.length_map]
    trivial
   have sg8:=((sg5.trans g6.sm).trans g7.sm).trans g8.sm
   have fg9:cj F W G3 G9:=(cj.sm sg8).trans (cj.ch2 c9)
   have hF9:=c9.ol F _ nFW (sg8 _ _ c3.at')
   have hW8:=sg8 _ _ hW5'
   have w4:∀{a:Addr}{G:Hp},G a=none→ak G3 G→a≠F∧a≠W:=fun {a G} h s=>⟨(fun z=>by rw [z,s _ _ c3.at'] at h;cases h),(fun z=>by rw [z,s _ _ hW5'] at h;cases h)⟩
   obtain ⟨d1,d2⟩:=w4 g5.fr g4.sm
   obtain ⟨d3,d4⟩:=w4 g7.fr (sg5.trans g6.sm)
   have hq4:G9 q4=some (.lst (bf (R++[j]))):=by
    have:=c9.ol q4 _ d2 (g8.sm _ _ (g7.sm _ _ (g6.sm _ _ g5.at')))
    rw [this]
    simp [bf]
   have hq6:G9 q6=some (.lst ((l0 :: (us++[t]).map (·.en)).map aA)):=by
    have:=c9.ol q6 _ d4 (g8.sm _ _ g7.at')
    rw [this]
    simp
   have hq7:G9 q7=some (.tup [.ref q4,.ref q6]):=c9.tup g8.at' hW8
   have hq2:G9 q2=some (.lst (bf (R++[j]))):=by
    have:=fg9 _ _ nq2F nq2W (c3.ol q2 _ nq2F g2.at')
    rw [this]
    simp [bf]
   have fall:cj F W J4 G9:=fg3.trans fg9
   refine ⟨ps++[(.ref q7,us++[t])],gs++[.ref q2],ff'++[us++[t]],_,rfl,?_,hF9,?_,?_,fun p hp=>?_,fun x hx=>?_,f4.trans fall,?_,fun u hu=>?_,ci4.hit ej et⟩
   ·rw [c9.at',List.map_append];rfl
   ·rw [lK]
    show _+Tw (ls.length - ((us++[t]).length+1))≤_
    trivial
   ·rw [lK,show (gs++[V.ref q2]).length=gs.length+1 by simp]
    show _+Tw (ls.length - ((us++[t]).length+1))+(_+1)≤_
    trivial
   ·rcases List.mem_append.mp hp with z | z
    ·exact (hE4 p z).mono hF4 hW4 fall
    ·rw [List.mem_singleton.mp z]
     exact ⟨q7,q4,q6,R++[j],rfl,hq7,hq4,hq6,d1,d2,d3,d4,ok'⟩
   ·rcases List.mem_append.mp hx with z | z
    ·exact (hfs4 x z).mono fall
    ·rw [List.mem_singleton.mp z]
     exact ⟨q2,R++[j],us++[t],rfl,nq2F,nq2W,hq2,by simp,ok'⟩
   ·exact fun a o h=>fall a o (fun z=>by rw [z,fF] at h;cases h) (fun z=>by rw [z,fW] at h;cases h) (sm4 _ _ h)
   ·rcases List.mem_append.mp hu with z | z
    ·obtain ⟨a,R',m,n1',n2',h1',ok2⟩:=gf4.mono fall u z
     exact ⟨a,R',List.mem_append_left _ m,n1',n2',h1',ok2⟩
    ·rw [List.mem_singleton.mp z]
     exact ⟨q2,R++[j],by simp,nq2F,nq2W,hq2,ok'⟩
  ·rintro σ J4 ⟨ps,gs,ff',v6',rfl,hW4,hF4,hm4,hC4,hE4,hfs4,f4,sm4,gf4,ci4⟩
   have lo:(bf (bU ts ts.length)).length≤24:=by
    rw [List.length_map]
    exact Nat.le_trans (k6 _ _) h24
   have mi:(bf (bU ts ts.length)).length*Tk (ls.length - (us.length+1))≤24*Tk (ls.length - (us.length+1)):=Nat.mul_le_mul_right _ lo
   refine nD (gw ls.length ps) _ _ ?_ ⟨ps,gs,ff',_,_,_,rfl,rfl,hW4,hF4,?_,hE4,hfs4,sm4,gf4,by rw [List.length_map] at ci4;exact ci4.done⟩
   ·rw [List.concat_eq_append,lK]
    show _<_+Tw (ls.length - (us.length+1))
    trivial
   ·have:Tw (ls.length - ((V.ref tp,us).2.length+1))=Tw (ls.length - (us.length+1)):=rfl
    trivial
end
end K11
namespace K11
open PySem L2
set_option maxHeartbeats 4000000
structure MI (ls:List (List Nat)) (s:LS):Prop where
 pos:∀l∈ls,1≤(s.ω l).1∧1≤(s.ω l).2
 rd:∀l∈ls,KM.Rd (s.ω l)
 one:∀l∈ls,1≤uW s l
 no:∀l,s.on l=none→s.ω l=(1,1)
theorem MI.step {ls:List (List Nat)}{p i:Nat}{t:ag}{s:LS} (c:jB ls t) (h:MI ls s):MI ls (iI p i t s):=by
 cases e:cE s.ω t with
 | false=>rw [io e];exact h
 | true=>
  rw [jF e]
  obtain ⟨v1,v2,v3⟩:=rN c h.pos
  have up:=((pX c h.pos).mp e).2
  have q:∀l,(dH s.ω t.bg (KM.lTim t.gain (s.ω t.en))) l=if l=t.bg then KM.lTim t.gain (s.ω t.en) else s.ω l:=fun l=>rfl
  refine ⟨fun l hl=>?_,fun l hl=>?_,fun l hl=>?_,fun l z=>?_⟩
  ·show 1≤(dH s.ω t.bg (KM.lTim t.gain (s.ω t.en)) l).1∧1≤(dH s.ω t.bg (KM.lTim t.gain (s.ω t.en)) l).2
   rw [q]
   by_cases z:l=t.bg
   ·rw [if_pos z];exact ⟨v3,v2⟩
   ·rw [if_neg z];exact h.pos l hl
  ·show KM.Rd (dH s.ω t.bg (KM.lTim t.gain (s.ω t.en)) l)
   rw [q]
   by_cases z:l=t.bg
   ·rw [if_pos z]
    exact KM.Rd.low (Int.ne_of_gt (Int.mul_pos (by have:=c.g2;trivial) (by have:=(h.pos _ c.e).2;trivial)))
   ·rw [if_neg z];exact h.rd l hl
  ·show 1≤KM.vl (dH s.ω t.bg (KM.lTim t.gain (s.ω t.en)) l)
   rw [q]
   by_cases z:l=t.bg
   ·rw [if_pos z,v1];exact Rat.le_trans (h.one _ c.b) (Rat.le_of_lt up)
   ·rw [if_neg z];exact h.one l hl
  ·have z:(if l=t.bg then some i else s.on l)=none:=z
   show dH s.ω t.bg (KM.lTim t.gain (s.ω t.en)) l=_
   rw [q]
   by_cases y:l=t.bg
   ·rw [if_pos y] at z;cases z
   ·rw [if_neg y] at z ⊢;exact h.no l z
theorem MI.upTo {ls:List (List Nat)}{ts:List ag}{p:Nat}{s:LS} (tc:∀t∈ts,jB ls t) (h:MI ls s):∀i,MI ls (L2.upTo p ts s i)
 | 0=>⟨h.pos,h.rd,h.one,h.no⟩
 | i+1=>by
  rw [L2.upTo]
  cases e:ts[i]? with
  | none=>exact MI.upTo tc h i
  | some t=>exact (MI.upTo tc h i).step (tc t (List.mem_of_getElem? e))
theorem MI.st {ls:List (List Nat)}{ts:List ag} (tc:∀t∈ts,jB ls t):∀p,MI ls (aO ts p)
 | 0=>⟨fun l _=>⟨by show (1:Int)≤1;decide,by show (1:Int)≤1;decide⟩,fun l _=>⟨by show (1:Int)≤1;decide,by show Int.gcd 1 1=1;decide⟩,fun l _=>by show 1≤KM.vl (1,1);decide +kernel,fun l _=>rfl⟩
 | p+1=>(MI.st tc p).upTo tc _
theorem xx {ls:List (List Nat)}{ts:List ag}{m:Nat} (tc:∀t∈ts,jB ls t) (h:(aO ts (m+1)).lf=none) {t:ag} (ht:t∈ts) (ho:t.most≠(0,1)):gR t*uW (aO ts m) t.en≤uW (aO ts m) t.bg:=by
 have no:=(lF (s:=aO ts m) h).2 t ht
 refine Rat.not_lt.mp fun z=>?_
 rw [(pX (tc t ht) (MI.st tc m).pos).mpr ⟨ho,z⟩] at no
 cases no
theorem dB.mem {ls:List (List Nat)}{ts:List ag}{l0:List Nat}{R:List Nat}{us:List ag} (h:dB ls ts l0 R us) {t:ag} (ht:t∈us):t∈ts:=by
 have m:some t∈R.map (fun k=>ts[k]?):=by rw [h.at'];exact List.mem_map_of_mem ht
 obtain ⟨k,_,hk⟩:=List.mem_map.mp m
 exact List.mem_of_getElem? hk
theorem EB {ls:List (List Nat)}{ts:List ag}{m:Nat}{l0:List Nat}{R:List Nat}{us:List ag} (tc:∀t∈ts,jB ls t) (h:(aO ts (m+1)).lf=none) (ok:dB ls ts l0 R us):b6 us≤uW (aO ts m) l0:=by
 have M:=MI.st tc m
 obtain ⟨c,hc⟩:=ok.ch
 have p1:∀l∈ls,0<uW (aO ts m) l:=fun l hl=>kr (M.pos l hl).1 (M.pos l hl).2
 have q:=uB (u:=uW (aO ts m)) p1 hc fun t ht=>⟨tc t (ok.mem ht),xx tc h (ok.mem ht) (ok.op t ht)⟩
 have hcl:c∈ls:=ok.sub c (by rw [←hc];simp)
 have g0:0≤b6 us:=by
  have:∀vs:List ag,(∀t∈vs,t∈ts)→0≤b6 vs:=by
   intro vs
   induction vs with
   | nil=>intro _;show (0:Rat)≤1;decide
   | cons t r ih=>exact fun hv=>Rat.mul_nonneg (Rat.le_of_lt (kr (tc t (hv t (by simp))).g1 (tc t (hv t (by simp))).g2)) (ih fun x hx=>hv x (by simp [hx]))
  exact this us fun t ht=>ok.mem ht
 have m1:=KM.mul_le_l (M.one c hcl) g0
 rw [Rat.mul_one] at m1
 exact Rat.le_trans m1 q
theorem zk {ls:List (List Nat)}{ts:List ag}{m:Nat} (tc:∀t∈ts,jB ls t) (h:(aO ts (m+1)).lf=none):∀(n:Nat) (l:List Nat),l∈ls→(aO ts m).tm l<n→bo fun R us=>dB ls ts l R us∧b6 us=uW (aO ts m) l∧∀x∈us.map (·.en),(aO ts m).tm x<(aO ts m).tm l
 | 0,l,_,z=>absurd z (Nat.not_lt_zero _)
 | n+1,l,hl,z=>by
  cases e:(aO ts m).on l with
  | none=>
   refine ⟨[],[],⟨rfl,(fun t ht=>by cases ht),⟨l,rfl⟩,by simp,fun x hx=>by rw [List.mem_singleton.mp hx];exact hl⟩,?_,fun x hx=>by cases hx⟩
   show (1:Rat)=KM.vl ((aO ts m).ω l)
   rw [(MI.st tc m).no l e]
   decide +kernel
  | some k=>
   obtain ⟨t,et,ho,hb,le,lt,_⟩:=(BI.st tc m).on l k e
   have ht:=List.mem_of_getElem? et
   have hd:=xx tc h ht ho
   rw [hb] at hd
   have tme:(aO ts m).tm t.en<(aO ts m).tm l:=by
    refine Nat.lt_of_not_le fun y=>?_
    exact absurd (lt y) (Rat.not_lt.mpr hd)
   obtain ⟨R,us,ok,pe,tms⟩:=zk tc h n t.en (tc t ht).e (by trivial)
   have eq:gR t*uW (aO ts m) t.en=uW (aO ts m) l:=Rat.le_antisymm hd le
   have nl:∀x∈t.en :: us.map (·.en),(aO ts m).tm x<(aO ts m).tm l:=fun x hx=>by
    rcases List.mem_cons.mp hx with rfl | hx
    ·exact tme
    ·have:=tms x hx;trivial
   refine ⟨k :: R,t :: us,⟨by rw [List.map_cons,List.map_cons,ok.at',et],fun x hx=>?_,?_,?_,fun x hx=>?_⟩,?_,fun x hx=>nl x hx⟩
   ·rcases List.mem_cons.mp hx with rfl | hx
    ·exact ho
    ·exact ok.op x hx
   ·obtain ⟨c,hc⟩:=ok.ch
    exact ⟨c,by rw [List.map_cons,List.map_cons,List.cons_append,hc,hb]⟩
   ·refine List.nodup_cons.mpr ⟨fun hx=>?_,ok.nd⟩
    exact absurd (nl l hx) (Nat.lt_irrefl _)
   ·rcases List.mem_cons.mp hx with rfl | hx
    ·exact hl
    ·exact ok.sub x hx
   ·show gR t*b6 us=_
    rw [pe,eq]
theorem zX {R R':List Nat} (h:bf R=bf R'):R=R':=by
 have:∀(a b:List Nat),bf a=bf b→a=b:=by
  intro a
  induction a with
  | nil=>intro b h;cases b with
   | nil=>rfl
   | cons _ _=>cases h
  | cons x r ih=>intro b h;cases b with
   | nil=>cases h
   | cons y r'=>
    injection h with h1 h2
    injection h1 with h1
    rw [ih r' h2,Int.ofNat.inj h1]
 exact this R R' h
theorem AA {ls:List (List Nat)}{ts:List ag}{l0:List Nat}{R:List Nat}{us us':List ag} (h:dB ls ts l0 R us) (k:dB ls ts l0 R us'):us=us':=by
 have e:=h.at'.symm.trans k.at'
 have:∀(a b:List ag),a.map some=b.map some→a=b:=by
  intro a
  induction a with
  | nil=>intro b h;cases b with
   | nil=>rfl
   | cons _ _=>cases h
  | cons x r ih=>intro b h;cases b with
   | nil=>cases h
   | cons y r'=>
    injection h with h1 h2
    injection h1 with h1
    rw [h1,ih r' h2]
 exact this _ _ e
section
variable {P:Program}{w:World}{K:PySem.W.Frag}{mg:Str→Option Value}{base:Heap}
inductive AQ (vs:List V) (H:Hp) (Q:VK):Prop
 | mk (v:V) (ls:List (List Nat)) (ts:List ag) (l0:List Nat) (mx:Nat) (h0:vs=[v,aA l0]) (h1:bc ED H v (dM ls ts)) (h2:(∀t∈ts,fe ls t)) (h3:ts.length≤24) (h4:ls.length≤6) (h5:l0∈ls) (h6:(aO ts (mx+1)).lf=none) (h7:∀(o:Addr) (H':Hp),ak H H'→H' o=some (fr ((aO ts mx).ω l0))→Q (.ref o) H')
def CK:Sp:=fun vs H Q _=>AQ  vs H Q
theorem wZ (T:Txt K mg):bD P w K mg base CX0 4 T.l_due_of_.f T.l_due_of_.d ["_law_net", "_law_place"] CK:=by
 have G_l_all_ways:=uS (P:=P) (w:=w) (base:=base) T
 have G_l_gain_of:=pf (P:=P) (w:=w) (base:=base) T
 have G_l_above:=nV (P:=P) (w:=w) (base:=base) T
 refine T.l_due_of_.F.ok gX (fun vs H Q E h=>?_) (fun cdv A outer s H vs Q E hr h=>?_)
 ·obtain ⟨v,ls,ts,l0,mx,rfl,_⟩:=h
  rfl
 ·obtain ⟨v,ls,ts,l0,mx,rfl,hv,tc,h24,l6,hl0,emx,k⟩:=h
  have tk:∀t∈ts,jB ls t:=fun t ht=>(tc t ht).tok
  have M:=MI.st (ls:=ls) tk mx
  refine ⟨_,(@ae _ _ _ _ _ (@aE _ _ (2) _ _ _ _ gX.nd rfl (Or.inl dg) (@aF _ _ _ _ _ (@aa _ _ _ _ _ (@ad _ _ _ _) (@aa _ _ _ _ _ (@ad _ _ _ _) (@ac _) rfl) rfl)) (by rfl) (by first | exact .inl rfl | exact .inr rfl | assumption)) (@ae _ _ _ _ _ (@e8 _ _ _ _ _ _ _ _ PassesOwn.never rfl (@eJ _ (K) _ _ _ (@ai _ _ _ _ _ _ _ _ _ _ _ _ _ _ _ _ G_l_all_ways (hr.mono (by decide)) m9 T.l_all_ways_.m T.l_all_ways_.F.kp T.l_all_ways_.B .nil (@ay _) (@aa _ _ _ _ _ (@pw _ 0 _ _ (Or.inl k8) (by rfl) (by decide) (by decide)) (@aa _ _ _ _ _ (@pw _ 1 _ _ (Or.inl pS) (by rfl) (by decide) (by decide)) (@ac _) rfl) rfl) (by decide) (by rfl) (by rfl)) (by rfl)) (@au _ _ (3) _ gX.nd rfl (Or.inl kI) (by first | exact .inl rfl | exact .inr rfl | assumption)) (@ae _ _ _ _ _ (@aE _ _ (4) _ _ _ _ gX.nd rfl (Or.inl gS) (@ai _ _ _ _ _ _ _ _ _ _ _ _ _ _ _ _ G_l_gain_of (hr.mono (by decide)) nU T.l_gain_of_.m T.l_gain_of_.F.kp T.l_gain_of_.B .nil (@ay _) (@aa _ _ _ _ _ (@pw _ 0 _ _ (Or.inl k8) (by rfl) (by decide) (by decide)) (@aa _ _ _ _ _ (@pw _ 3 _ _ (Or.inl kI) (by rfl) (by decide) (by decide)) (@ac _) rfl) rfl) (by decide) (by rfl) (by rfl)) (by rfl) (by first | exact .inl rfl | exact .inr rfl | assumption)) (@ah _ _ _ (@aE _ _ (2) _ _ _ _ gX.nd rfl (Or.inl dg) (@dR _ _ _ _ _ _ _ _ (@aK _ _ _ _ _ _ _ _ (@jA _) (@ai _ _ _ _ _ _ _ _ _ _ _ _ _ _ _ _ G_l_above (hr.mono (by decide)) pD T.l_above_.m T.l_above_.F.kp T.l_above_.B .nil (@ay _) (@aa _ _ _ _ _ (@pw _ 4 _ _ (Or.inl gS) (by rfl) (by decide) (by decide)) (@aa _ _ _ _ _ (@pw _ 2 _ _ (Or.inl dg) (by rfl) (by decide) (by decide)) (@ac _) rfl) rfl) (by decide) (by rfl) (by rfl)) (@ad _ _ _ _) (@aG _ _ (by decide) (by decide))) (@pw _ 4 _ _ (Or.inl gS) (by rfl) (by decide) (by decide)) (@pw _ 2 _ _ (Or.inl dg) (by rfl) (by decide) (by decide))) (by rfl) (by first | exact .inl rfl | exact .inr rfl | assumption)))) (by intro _;rfl)) (@ah _ _ _ (@aL _ _ _ _ (@pw _ 2 _ _ (Or.inl dg) (by rfl) (by decide) (by decide)))))),?_⟩
  refine bI fun Q1 n1=>⟨(by show 2≤10000;decide),fun o0 H1 m1=>n1 _ _ ?_⟩
  refine bS fun DA nA=>?_
  refine ⟨_,rfl,_,rfl,v,ls,ts,l0,rfl,hv.mono m1.sm.toE,tc,h24,l6,hl0,fun F W xs H2 s2 fF hF fnd cmp=>⟨F,rfl,⟨_,ax.of hF⟩,kU (xs:=xs) (fun j σ H'=>kd fun (o:Addr) (v3 v4:Option V) (f:KM.Fra)=>σ=[some v,some (aA l0),some (.ref o),v3,v4]∧H' o=some (fr f)∧Gb 80 80 f∧KM.Rd f∧1≤KM.vl f∧KM.vl f≤uW (aO ts mx) l0∧(∀(j':Nat) (a:Addr) (R:List Nat) (us:List ag),j'<j→xs[j']?=some (.ref a)→H2 a=some (.lst (bf R))→dB ls ts l0 R us→b6 us≤KM.vl f)∧ak H2 H') ⟨o0,_,_,(1,1),rfl,s2 _ _ m1.at',vX.mono (by decide) (by decide),⟨by decide,by decide⟩,by decide +kernel,?_,(fun j' a R us z=>by trivial),ak.refl _⟩ ?_ ?_ ?_⟩⟩
  ·have z:=M.one l0 hl0
   exact (by show KM.vl (1,1)≤_;rw [show KM.vl (1,1)=1 by decide +kernel];exact z)
  ·rintro j σ H' _ ⟨_,_,_,_,_,_,_,_,_,_,_,sm⟩
   exact ax.of (sm _ _ hF)
  ·rintro j x σ J hx ⟨o,v3,v4,f,rfl,ho,gf,rf,f1,fle,all,sm⟩
   obtain ⟨a,R,us,rfl,n1',n2',ha,ne,ok⟩:=fnd x (List.mem_of_getElem? hx)
   have lR:R.length=us.length:=by have:=congrArg List.length ok.at';simpa using this
   have lus:us.length+1≤ls.length:=by
    have:=jp (xs:=l0 :: us.map (·.en)) (ys:=ls) ok.nd ok.sub
    simpa using this
   refine oj (t:=ik _ _) fun DB nB=>?_
   refine bI fun Q2 n2=>⟨_,rfl,_,rfl,v,a,ls,ts,R,us,rfl,hv.mono ((m1.sm.trans s2).trans sm).toE,tc,sm _ _ ha,ok.at',by trivial,fun g q J2 gg rg eg s3 hq=>n2 _ _ ?_⟩
   have lt:(0<g.1*f.2 - f.1*g.2)↔KM.vl f<KM.vl g:=by
    rw [lE rf.1 rg.1]
    constructor <;> intro z <;> trivial
   have ub:KM.vl g≤uW (aO ts mx) l0:=by rw [eg];exact EB tk emx ok
   have sj:=sm.trans s3
   have ho2:=s3 _ _ ho
   have old:∀{f':KM.Fra},KM.vl f≤KM.vl f'→KM.vl g≤KM.vl f'→∀(j':Nat) (a':Addr) (R':List Nat) (us':List ag),j'<j+1→xs[j']?=some (.ref a')→H2 a'=some (.lst (bf R'))→dB ls ts l0 R' us'→b6 us'≤KM.vl f':=fun l1 l2 j' a' R' us' hj' e1 e2 e3=>by
    by_cases z:j'=j
    ·subst z
     rw [hx] at e1
     cases e1
     rw [ha] at e2
     injection e2 with e2
     injection e2 with e2
     have eR:=zX e2
     subst eR
     rw [←AA ok e3,←eg]
     exact l2
    ·exact Rat.le_trans (all j' a' R' us' (by trivial) e1 e2 e3) l1
   refine ⟨_,rfl,_,rfl,q,o,g,f,rfl,hq,ho2,gg.n.mono (by decide),gg.d.mono (by decide),gf.n.mono (by decide),gf.d.mono (by decide),_,_,rfl,rfl,_,rfl,?_⟩
   by_cases c:0<g.1*f.2 - f.1*g.2
   ·rw [decide_eq_true c]
    have c':=lt.mp c
    exact bW ⟨_,rfl,nB _ _ ⟨q,_,_,g,rfl,hq,gg,rg,Rat.le_trans f1 (Rat.le_of_lt c'),ub,old (Rat.le_of_lt c') Rat.le_refl,sj⟩⟩
   ·rw [decide_eq_false c]
    have c':KM.vl g≤KM.vl f:=Rat.not_lt.mp fun z=>c (lt.mpr z)
    exact bC ⟨_,rfl,nB _ _ ⟨o,_,_,f,rfl,ho2,gf,rf,f1,fle,old Rat.le_refl c',sj⟩⟩
  ·rintro σ J ⟨o,v3,v4,f,rfl,ho,gf,rf,f1,fle,all,sm⟩
   have ge:uW (aO ts mx) l0≤KM.vl f:=by
    obtain ⟨R,us,ok,pe,_⟩:=zk tk emx _ l0 hl0 (Nat.lt_succ_self _)
    by_cases ne:us=[]
    ·rw [←pe,ne];exact f1
    ·obtain ⟨a,R',ma,ha,ok'⟩:=cmp R us ok ne
     obtain ⟨j',hj'⟩:=List.getElem?_of_mem ma
     rw [←pe]
     exact all j' a R' us (List.getElem?_eq_some_iff.mp hj').1 hj' ha ok'
   have ef:f=(aO ts mx).ω l0:=rf.eq (M.rd l0 hl0) (Rat.le_antisymm fle ge)
   rw [ef] at ho
   exact nA _ _ ⟨_,rfl,k o J ((m1.sm.trans s2).trans sm) ho⟩
end
end K11
namespace K11
open PySem L2
set_option maxHeartbeats 4000000
theorem ue (ts:List ag) (a:Nat):∀d,(bU ts a).length≤(bU ts (a+d)).length
 | 0=>Nat.le_refl _
 | d+1=>by
  refine Nat.le_trans (ue ts a d) ?_
  unfold bU
  rw [show a+(d+1)=(a+d)+1 by trivial,List.range_succ,List.filter_append,List.length_append]
  trivial
theorem yz {ls:List (List Nat)}{ts:List ag}{p i:Nat}{s:LS}{t:ag} (tc:fe ls t) (h:ts[i]?=some t) (hs:¬0<t.most.1):upTo p ts s (i+1)=upTo p ts s i:=by
 rw [jI h]
 refine io ?_
 have e:t.most=(0,1):=by
  by_cases c:t.most=(0,1)
  ·exact c
  ·exact absurd ((rQ tc).mpr c) hs
 unfold cE
 rw [decide_eq_false (fun z=>z e)]
 rfl
theorem pF {ls:List (List Nat)}{ts:List ag}{p:Nat}{s:LS} (tc:∀t∈ts,fe ls t) (a:Nat):∀d,a+d≤ts.length→(bU ts (a+d)).length=(bU ts a).length→upTo p ts s (a+d)=upTo p ts s a
 | 0,_,_=>rfl
 | d+1,hd,e=>by
  obtain ⟨t,et⟩:∃t,ts[a+d]?=some t:=⟨_,List.getElem?_eq_getElem (by trivial)⟩
  have mo:=ue ts a d
  have es:=jQ et
  have e':(bU ts (a+d+1)).length=(bU ts a).length:=e
  by_cases c:0<t.most.1
  ·rw [es,if_pos c,List.length_append] at e'
   simp at e'
   trivial
  ·rw [es,if_neg c] at e'
   show upTo p ts s (a+d+1)=_
   rw [yz (tc t (List.mem_of_getElem? et)) et c]
   exact pF tc a d (by trivial) e'
theorem tZ {ls:List (List Nat)}{ts:List ag}{p:Nat}{s:LS} (tc:∀t∈ts,fe ls t) {a b:Nat} (ha:a≤ts.length) (hb:b≤ts.length) (e:(bU ts a).length=(bU ts b).length):upTo p ts s a=upTo p ts s b:=by
 rcases Nat.le_total a b with h | h
 ·have q:=pF (p:=p) (s:=s) tc a (b - a) (by trivial) (by rw [show a+(b - a)=b by trivial];exact e.symm)
  rw [show a+(b - a)=b by trivial] at q
  exact q.symm
 ·have q:=pF (p:=p) (s:=s) tc b (a - b) (by trivial) (by rw [show b+(a - b)=a by trivial];exact e)
  rw [show b+(a - b)=a by trivial] at q
  exact q
theorem tJ {ts:List ag}:∀{n:Nat},n≤ts.length→∀{j i:Nat},(bU ts n)[j]?=some i→i<n∧(bU ts i).length=j∧∃t,ts[i]?=some t∧0<t.most.1
 | 0,_,j,i,h=>by cases h
 | n+1,hn,j,i,h=>by
  obtain ⟨t,et⟩:∃t,ts[n]?=some t:=⟨_,List.getElem?_eq_getElem (by trivial)⟩
  rw [jQ et] at h
  by_cases c:0<t.most.1
  ·rw [if_pos c] at h
   by_cases hj:j<(bU ts n).length
   ·rw [List.getElem?_append_left hj] at h
    obtain ⟨q1,q2⟩:=tJ (by trivial) h
    exact ⟨by trivial,q2⟩
   ·have hl:=(List.getElem?_eq_some_iff.mp h).1
    rw [List.length_append] at hl
    simp at hl
    have ej:j=(bU ts n).length:=by trivial
    subst ej
    rw [List.getElem?_append_right (Nat.le_refl _),Nat.sub_self] at h
    obtain rfl:n=i:=Option.some.inj h
    exact ⟨by trivial,rfl,t,et,c⟩
  ·rw [if_neg c] at h
   obtain ⟨q1,q2⟩:=tJ (by trivial) h
   exact ⟨by trivial,q2⟩
theorem pd {p:Nat}{ts:List ag}{s:LS} (h:∀t∈ts,cE s.ω t=false):∀i,upTo p ts s i={ s with lf:=none }
 | 0=>rfl
 | i+1=>by
  rw [L2.upTo]
  cases e:ts[i]? with
  | none=>exact pd h i
  | some t=>
   show iI p i t (upTo p ts s i)=_
   rw [pd h i]
   exact io (h t (List.mem_of_getElem? e))
theorem vU {ts:List ag}{m:Nat} (h:(aO ts (m+1)).lf=none):∀d,(aO ts (m+1+d)).lf=none∧(aO ts (m+1+d)).ω=(aO ts m).ω
 | 0=>⟨h,(lF (s:=aO ts m) h).1⟩
 | d+1=>by
  obtain ⟨h1,h2⟩:=vU h d
  have no:=(lF (s:=aO ts m) h).2
  have e:aO ts (m+1+(d+1))={ aO ts (m+1+d) with lf:=none }:=by
   show ib (m+1+d+1) ts (aO ts (m+1+d))=_
   unfold ib
   exact pd (fun t ht=>by rw [h2];exact no t ht) _
  rw [e]
  exact ⟨rfl,h2⟩
section
variable {P:Program}{w:World}{K:PySem.W.Frag}{mg:Str→Option Value}{base:Heap}
inductive Aq (vs:List V) (H:Hp) (Q:VK):Prop
 | mk (v:V) (ls:List (List Nat)) (ts:List ag) (mx:Nat) (h0:vs=[v]) (h1:bc ED H v (dM ls ts)) (h2:(∀t∈ts,fe ls t)) (h3:ts.length≤24) (h4:ls.length≤10) (h5:ls.Nodup) (h6:mx<ls.length) (h7:(aO ts (mx+1)).lf=none) (h8:∀(r:Addr) (xs:List V) (H':Hp),ak H H'→H r=none→H' r=some (.lst xs)→aQ ED H' xs ((ls.map (aO ts mx).ω).map gl)→Q (.ref r) H')
def CF:Sp:=fun vs H Q _=>Aq  vs H Q
theorem xV (T:Txt K mg):bD P w K mg base CX0 3 T.l_grown_.f T.l_grown_.d ["_law_net"] CF:=by
 have G_l_opened:=pQ (P:=P) (w:=w) (base:=base) T
 have G_l_product:=kJ (P:=P) (w:=w) (base:=base) T
 have G_l_above:=nV (P:=P) (w:=w) (base:=base) T
 refine T.l_grown_.F.ok cb (fun vs H Q E h=>?_) (fun cdv A outer s H vs Q E hr h=>?_)
 ·obtain ⟨v,ls,ts,mx,rfl,_⟩:=h
  rfl
 ·obtain ⟨v,ls,ts,mx,rfl,hv,tc,h24,l10,nd,hmx,emx,k⟩:=h
  obtain ⟨na,pa,ta,tys,rfl,hna,hpa,hta,ity⟩:=dQ hv
  have lty:tys.length=ts.length:=by rw [ity.length,List.length_map]
  refine ⟨_,(@ae _ _ _ _ _ (@aE _ _ (1) _ _ _ _ cb.nd rfl (Or.inr eQ) (@de _ _ _ _ _ _ _ _ _ (@sf _ rfl) sZ T.b_dict (@pi) (@aa _ _ _ _ _ (@cO _ _ _ _ _ _ _ (["_law_place"]) (1) ([]) _ _ _ _ rfl (by kernel_rfl) (@iq _ (K) _ _ _ (@aq _ _ _ _ _ _ _ (@aR _ (K) (by rfl)) (@pw _ 0 _ _ (Or.inl eB) (by rfl) (by decide) (by decide)) (@ad _ _ _ _) (fun _ _=>rfl)) (by rfl)) (fun _ _ _ _ _ _=>(@au _ _ (0) _ (@cg _ (by kernel_rfl)) rfl (Or.inl (by kernel_rfl)) (by first | exact .inl rfl | exact .inr rfl | assumption))) (fun _ _ _ _ _ _=>@bX _) (fun _ _ _ _ _ _=>(@aF _ _ _ _ _ (@aa _ _ _ _ _ (@pw _ 0 _ _ (Or.inl (by kernel_rfl)) (by rfl) (by decide) (by decide)) (@aa _ _ _ _ _ (@aF _ _ _ _ _ (@aa _ _ _ _ _ (@ad _ _ _ _) (@aa _ _ _ _ _ (@ad _ _ _ _) (@ac _) rfl) rfl)) (@ac _) rfl) rfl))) (by intro _;rfl)) (@ac _) rfl) (by decide) (by decide) (by rfl) (by rfl)) (by rfl) (by first | exact .inl rfl | exact .inr rfl | assumption)) (@ae _ _ _ _ _ (@e8 _ _ _ _ _ _ _ _ PassesOwn.never rfl (@dI _ _ _ _ _ _ sg T.b_range (@aa _ _ _ _ _ (@av _ _ _ _ _ _ _ _ (@bK _) (@aB _ _ _ _ _ _ _ _ _ (@eS _ (K) (by rfl)) va T.b_len (@bw) (@aa _ _ _ _ _ (@aq _ _ _ _ _ _ _ (@aR _ (K) (by rfl)) (@pw _ 0 _ _ (Or.inl eB) (by rfl) (by decide) (by decide)) (@ad _ _ _ _) (fun _ _=>rfl)) (@ac _) rfl) (by decide) (by decide) (by rfl) (by rfl)) (@ad _ _ _ _)) (@ac _) rfl) (by rfl)) (@au _ _ (2) _ cb.nd rfl (Or.inl se) (by first | exact .inl rfl | exact .inr rfl | assumption)) (@ae _ _ _ _ _ (@aE _ _ (3) _ _ _ _ cb.nd rfl (Or.inl eL) (@jy _ _ _ _) (by rfl) (by first | exact .inl rfl | exact .inr rfl | assumption)) (@ah _ _ _ (@e8 _ _ _ _ _ _ _ _ PassesOwn.never rfl (@eJ _ (K) _ _ _ (@ai _ _ _ _ _ _ _ _ _ _ _ _ _ _ _ _ G_l_opened (hr.mono (by decide)) pZ T.l_opened_.m T.l_opened_.F.kp T.l_opened_.B .nil (@ay _) (@aa _ _ _ _ _ (@pw _ 0 _ _ (Or.inl eB) (by rfl) (by decide) (by decide)) (@ac _) rfl) (by decide) (by rfl) (by rfl)) (by rfl)) (@au _ _ (4) _ cb.nd rfl (Or.inl jS) (by first | exact .inl rfl | exact .inr rfl | assumption)) (@ae _ _ _ _ _ (@d9 _ _ _ _ _ _ (@aq _ _ _ _ _ _ _ (@aR _ (K) (by rfl)) (@aq _ _ _ _ _ _ _ (@aR _ (K) (by rfl)) (@pw _ 0 _ _ (Or.inl eB) (by rfl) (by decide) (by decide)) (@ad _ _ _ _) (fun _ _=>rfl)) (@pw _ 4 _ _ (Or.inl jS) (by rfl) (by decide) (by decide)) (fun _ _=>rfl)) (@cP _ (K) _ _ _ _ (5) rfl (@aP _ _ _ _ _ (@au _ _ (5) _ cb.nd rfl (Or.inl gP) (by first | exact .inl rfl | exact .inr rfl | assumption)) (@aP _ _ _ _ _ (@au _ _ (6) _ cb.nd rfl (Or.inl lX) (by first | exact .inl rfl | exact .inr rfl | assumption)) (@aP _ _ _ _ _ (@au _ _ (7) _ cb.nd rfl (Or.inl sC) (by first | exact .inl rfl | exact .inr rfl | assumption)) (@aP _ _ _ _ _ (@au _ _ (8) _ cb.nd rfl (Or.inl kE) (by first | exact .inl rfl | exact .inr rfl | assumption)) (@aP _ _ _ _ _ (@au _ _ (9) _ cb.nd rfl (Or.inl qN) (by first | exact .inl rfl | exact .inr rfl | assumption)) (@cN _) (by rfl)) (by rfl)) (by rfl)) (by rfl)) (by rfl)) (by rfl) (by rfl) (by rfl)) (by rfl) (by rfl) (by rfl)) (@ae _ _ _ _ _ (@aE _ _ (10) _ _ _ _ cb.nd rfl (Or.inl i7) (@ai _ _ _ _ _ _ _ _ _ _ _ _ _ _ _ _ G_l_product (hr.mono (by decide)) o5 T.l_product_.m T.l_product_.F.kp T.l_product_.B .nil (@ay _) (@aa _ _ _ _ _ (@pw _ 8 _ _ (Or.inl kE) (by rfl) (by decide) (by decide)) (@aa _ _ _ _ _ (@aq _ _ _ _ _ _ _ (@fK _) (@pw _ 1 _ _ (Or.inr (Or.inl eQ)) (by rfl) (by decide) (by decide)) (@pw _ 6 _ _ (Or.inl lX) (by rfl) (by decide) (by decide)) (fun _ _=>rfl)) (@ac _) rfl) rfl) (by decide) (by rfl) (by rfl)) (by rfl) (by first | exact .inl rfl | exact .inr rfl | assumption)) (@ah _ _ _ (@bH _ _ _ _ _ _ _ _ (@aK _ _ _ _ _ _ _ _ (@jA _) (@ai _ _ _ _ _ _ _ _ _ _ _ _ _ _ _ _ G_l_above (hr.mono (by decide)) qK T.l_above_.m T.l_above_.F.kp T.l_above_.B .nil (@ay _) (@aa _ _ _ _ _ (@pw _ 10 _ _ (Or.inl i7) (by rfl) (by decide) (by decide)) (@aa _ _ _ _ _ (@aq _ _ _ _ _ _ _ (@fK _) (@pw _ 1 _ _ (Or.inr (Or.inl eQ)) (by rfl) (by decide) (by decide)) (@pw _ 5 _ _ (Or.inl gP) (by rfl) (by decide) (by decide)) (fun _ _=>rfl)) (@ac _) rfl) rfl) (by decide) (by rfl) (by rfl)) (@ad _ _ _ _) (@aG _ _ (by decide) (by decide))) (@ah _ _ _ (@d9 _ _ _ _ _ _ (@aF _ _ _ _ _ (@aa _ _ _ _ _ (@pw _ 10 _ _ (Or.inl i7) (by rfl) (by decide) (by decide)) (@aa _ _ _ _ _ (@jy _ _ _ _) (@ac _) rfl) rfl)) (@cP _ (K) _ _ _ _ (2) rfl (@aP _ _ _ _ _ (@mJ _ _ _ _ _ _ _ (@pw _ 1 _ _ (Or.inr (Or.inl eQ)) (by rfl) (by decide) (by decide)) (@pw _ 5 _ _ (Or.inl gP) (by rfl) (by decide) (by decide)) (@rG _) (by intro _;rfl)) (@aP _ _ _ _ _ (@au _ _ (3) _ cb.nd rfl (Or.inl eL) (by first | exact .inl rfl | exact .inr rfl | assumption)) (@cN _) (by rfl)) (by rfl)) (by rfl) (by rfl) (by rfl)) (by rfl) (by rfl) (by rfl))) (@bd _))))) (by intro _;rfl)))) (by intro _;rfl)) (@ah _ _ _ (@aL _ _ _ _ (@dR _ _ _ _ _ _ _ _ (@dn _ _ _ (@pw _ 3 _ _ (Or.inl eL) (by rfl) (by decide) (by decide)) (by intro _;rfl)) (@db _ _ _) (@cO _ _ _ _ _ _ _ (["_law_place", "_law_known"]) (1) ([1]) _ _ _ _ rfl (by kernel_rfl) (@iq _ (K) _ _ _ (@aq _ _ _ _ _ _ _ (@aR _ (K) (by rfl)) (@pw _ 0 _ _ (Or.inl eB) (by rfl) (by decide) (by decide)) (@ad _ _ _ _) (fun _ _=>rfl)) (by rfl)) (fun _ _ _ _ _ _=>(@au _ _ (0) _ (@cg _ (by kernel_rfl)) rfl (Or.inl (by kernel_rfl)) (by first | exact .inl rfl | exact .inr rfl | assumption))) (fun _ _ _ _ _ _=>@bX _) (fun _ _ _ _ _ _=>(@aq _ _ _ _ _ _ _ (@fK _) (@pw _ 1 _ _ (Or.inr (Or.inl (by kernel_rfl))) (by rfl) (by decide) (by decide)) (@pw _ 0 _ _ (Or.inl (by kernel_rfl)) (by rfl) (by decide) (by decide)) (fun _ _=>rfl))) (by intro _;rfl))))))),?_⟩
  refine bI fun Q6 nA6=>⟨_,rfl,na,_,_,_,rfl,rfl,ap.of hna,rfl,pa,rfl,⟨_,ap.of hpa⟩,fun D hD=>dL (n:=(ls.map aA).length) (fun i H' xs=>bo fun (as ws:List Addr)=>xs=as.map V.ref∧H' D=some (.lst xs)∧as.length=i∧ws.length=i∧(∀(j:Nat) a,as[j]?=some a→bo fun l w=>ls[j]?=some l∧ws[j]?=some w∧H' a=some (.tup [aA l,.ref w])∧H' w=some (fr (1,1)))∧ak H H') (fw (by rw [List.length_map];trivial)) ⟨[],[],rfl,am,rfl,rfl,(fun j a h=>by simp at h),ak.new hD⟩ ?_ ?_ ?_ ?_ ?_⟩
  ·rintro i H' xs ⟨as,ws,rfl,e1,e2,_⟩
   exact ⟨e1,by rw [List.length_map];trivial⟩
  ·rintro i H' xs hi ⟨as,ws,_,_,_,_,_,sm⟩
   exact ⟨_,_,ap.of (sm _ _ hpa),List.getElem?_eq_getElem hi⟩
  ·rintro H' xs ⟨as,ws,_,_,_,_,_,sm⟩
   exact ⟨_,ap.of (sm _ _ hpa),Nat.le_refl _⟩
  ·rintro i Ha xs x Hb hi ⟨as,ws,rfl,eD,la,lw,hw,sm⟩ ⟨rfl,ex⟩
   have exi:=ex _ (ap.of (sm _ _ hpa))
   rw [List.length_map] at hi
   rw [List.getElem?_map,List.getElem?_eq_getElem hi] at exi
   obtain rfl:aA ls[i]=x:=Option.some.inj exi
   refine ⟨fB,_,rfl,(by show 2≤10000;decide),fun o J6 m6=>⟨(by show 2≤10000;decide),fun q J7 n7=>?_⟩⟩
   have js:=m6.sm.trans n7.sm
   have eD7:=js _ _ eD
   have c':Ch J7 D (as.map V.ref++[.ref q]) (aN J7 D (.lst (as.map V.ref++[.ref q]))):=Ch.mk'
   refine ⟨eD7,as++[q],ws++[o],by rw [List.map_append];rfl,am,by rw [List.length_append,la];rfl,by rw [List.length_append,lw];rfl,fun j a' ha'=>?_,bM hD (sm.trans js)⟩
   by_cases hj:j<i
   ·rw [List.getElem?_append_left (by trivial)] at ha'
    obtain ⟨l,w,e1,e2,e3,e4⟩:=hw j a' ha'
    exact ⟨l,w,e1,by rw [List.getElem?_append_left (by trivial)];exact e2,c'.tup (js _ _ e3) eD7,c'.tup (js _ _ e4) eD7⟩
   ·have hj':j=i:=by
     have:=(List.getElem?_eq_some_iff.mp ha').1
     rw [List.length_append] at this
     simp at this
     trivial
    subst hj'
    rw [List.getElem?_append_right (by trivial),la,Nat.sub_self] at ha'
    obtain rfl:q=a':=Option.some.inj ha'
    exact ⟨ls[j],o,List.getElem?_eq_getElem hi,by rw [List.getElem?_append_right (by trivial),lw,Nat.sub_self];rfl,c'.tup n7.at' eD7,c'.tup (n7.sm _ _ m6.at') eD7⟩
  rintro J xs ⟨as,ws,rfl,eD,la,lw,hw,s6⟩
  rw [List.length_map] at la lw
  refine ⟨D,as,ls.map fun l=>(Sum.inr (S l):aU),ws.map V.ref,rfl,eD,by rw [List.length_map];exact la,by rw [List.length_map,List.length_map];exact lw,xT nd,by rw [List.length_map];trivial,fun i a ha=>?_,fun W J1 nW=>nA6 _ _ ?_⟩
  ·obtain ⟨l,w,e1,e2,e3,_⟩:=hw i a ha
   exact ⟨Sum.inr (S l),.ref w,by rw [List.getElem?_map,e1];rfl,by rw [List.getElem?_map,e2];rfl,e3⟩
  have s01:ak H J1:=s6.trans nW.sm
  have fW:H W=none:=s6.free nW.fr
  have hω0:∀l∈ls,∃o,valD ((ls.map fun l=>(Sum.inr (S l):aU)).zip (ws.map V.ref)) (Sum.inr (S l))=some (.ref o)∧J1 o=some (fr (1,1)):=fun l hl=>by
   obtain ⟨j,hj⟩:=List.getElem?_of_mem hl
   have hlt:=(List.getElem?_eq_some_iff.mp hj).1
   obtain ⟨a,ha⟩:∃a,as[j]?=some a:=⟨_,List.getElem?_eq_getElem (by trivial)⟩
   obtain ⟨l',w,e1,e2,e3,e4⟩:=hw j a ha
   rw [hj] at e1
   cases e1
   exact ⟨w,rX (i:=j) (xT nd) (by rw [List.getElem?_map,hj];rfl) (by rw [List.getElem?_map,e2];rfl),nW.sm _ _ e4⟩
  have lkv:((ls.map fun l=>(Sum.inr (S l):aU)).zip (ws.map V.ref)).length≤10:=by rw [List.length_zip,List.length_map,List.length_map];trivial
  have hW0:=nW.at'
  generalize ((ls.map fun l=>(Sum.inr (S l):aU)).zip (ws.map V.ref))=kv0 at hω0 lkv hW0
  have tupJ:∀{a:Addr}{us:List V},H a=some (.tup us)→J1 a=some (.tup us):=fun h=>s01 _ _ h
  clear hw la lw eD nW
  refine bS fun DB nB=>?_
  refine ⟨_,rfl,na,_,_,_,rfl,rfl,ap.of (tupJ hna),rfl,pa,_,rfl,.inr (ap.of (tupJ hpa)),_,_,rfl,rfl,_,rfl,by trivial,by rw [List.length_map];trivial,?_⟩
  refine iw (fun i σ H'=>yy fun (v2 v3 v4 v5 v6 v7 v8 v9 v10:Option V) (kv:List (aU×V))=>σ=[some (.ref na),some (.ref W),v2,v3,v4,v5,v6,v7,v8,v9,v10]∧(1≤i→v3=some (.bl (aO ts i).lf.isSome))∧H' W=some (.dK kv)∧kv.length≤10+24*i∧(∀l∈ls,∃o,valD kv (Sum.inr (S l))=some (.ref o)∧H' o=some (fr ((aO ts i).ω l))∧Gb (2+144*i) (2+144*i) ((aO ts i).ω l)∧1≤((aO ts i).ω l).1)∧(∀a o,a≠W→J1 a=some o→H' a=some o)) ⟨_,_,_,_,_,_,_,_,_,kv0,rfl,(fun z=>by trivial),hW0,by trivial,(fun l hl=>let ⟨o,e1,e2⟩:=hω0 l hl;⟨o,e1,e2,vX.mono (by trivial) (by trivial),(by show (1:Int)≤1;decide)⟩),fun _ _ _ h=>h⟩ ?_ ?_
  ·rintro i σ G hi ⟨v2,v3,v4,v5,v6,v7,v8,v9,v10,kv,rfl,_,hW,lW,vW,fr1⟩
   have hi':i≤10:=by
    rw [List.length_map] at hi
    trivial
   refine oj (t:=ik _ _) fun DD nD=>?_
   refine bI fun Q7 nA7=>nA7 _ _ ?_
   have tupG:∀{a:Addr}{us:List V},J1 a=some (.tup us)→G a=some (.tup us):=fun {a us} h=>fr1 a _ (fun z=>by rw [z,hW0] at h;cases h) h
   have hvG:bc ED G (.ref na) (dM ls ts):=hv.mono ⟨fun _ _ n _=>absurd trivial n,fun _ _ h=>tupG (tupJ h)⟩
   refine ⟨_,rfl,.ref na,ls,ts,rfl,hvG,by trivial,fun D2 G1 g1 fD2 hD2=>⟨D2,rfl,⟨_,ax.of hD2⟩,kU (xs:=bf (bU ts ts.length)) (fun j σ H'=>Dv fun (v4 v5 v6 v7 v8 v9 v10:Option V) (kv:List (aU×V)) (st:LS)=>σ=[some (.ref na),some (.ref W),some (.int (0+(i:Int))),some (.bl st.lf.isSome),v4,v5,v6,v7,v8,v9,v10]∧(∀q,q≤ts.length→(bU ts q).length=j→upTo (i+1) ts (aO ts i) q=st)∧H' W=some (.dK kv)∧kv.length≤10+24*i+j∧(∀l∈ls,∃o,valD kv (Sum.inr (S l))=some (.ref o)∧H' o=some (fr (st.ω l))∧Gb (2+144*i+6*j) (2+144*i+6*j) (st.ω l)∧1≤(st.ω l).1)∧(∀a o,a≠W→G1 a=some o→H' a=some o)) ⟨_,_,_,_,_,_,_,kv,upTo (i+1) ts (aO ts i) 0,rfl,(fun q hq e=>tZ tc hq (Nat.zero_le _) e),g1 _ _ hW,by trivial,(fun l hl=>let ⟨o,e1,e2,e3⟩:=vW l hl;⟨o,e1,g1 _ _ e2,e3⟩),fun _ _ _ h=>h⟩ ?_ ?_ ?_⟩⟩
   ·rintro j σ H' _ ⟨_,_,_,_,_,_,_,kv',_,_,_,_,_,_,fr2⟩
    exact ax.of (fr2 _ _ (fun z=>by rw [z,hW] at fD2;cases fD2) hD2)
   ·have lop:=k6 ts ts.length
    clear vW lW
    rintro j x σ F0 hx ⟨v4,v5,v6,v7,v8,v9,v10,kv,st,rfl,hst,hWF,lW,vW,fr2⟩
    have hj':j<(bf (bU ts ts.length)).length:=(List.getElem?_eq_some_iff.mp hx).1
    rw [List.length_map] at hj'
    rw [List.getElem?_map] at hx
    obtain ⟨i',hi',rfl⟩:=Option.map_eq_some_iff.mp hx
    obtain ⟨ilt,ej,t,et,bZ⟩:=tJ (Nat.le_refl _) hi'
    have hsti:=hst i' (Nat.le_of_lt ilt) ej
    have tt:=tc t (List.mem_of_getElem? et)
    obtain ⟨yv,ey⟩:∃yv,tys[i']?=some yv:=⟨_,List.getElem?_eq_getElem (by trivial)⟩
    have gy:=ity.nth i' ey (by rw [List.getElem?_map,et];rfl)
    obtain ⟨o,om,og,op,rfl,ho,hom,hog,hop⟩:=jq gy
    have tupF:∀{a:Addr}{us:List V},H a=some (.tup us)→F0 a=some (.tup us):=fun {a us} h=>fr2 a _ (fun z=>by have:=tupJ h;rw [z,hW0] at this;cases this) (g1 _ _ (tupG (tupJ h)))
    obtain ⟨oe,ve,hoe,ge,pe1⟩:=vW t.en tt.e
    obtain ⟨ob,vb,hob,gb,pb1⟩:=vW t.bg tt.b
    have es:upTo (i+1) ts (aO ts i) (i'+1)=iI (i+1) i' t st:=by rw [jI et,hsti]
    have el:(bU ts (i'+1)).length=j+1:=by rw [jQ et,if_pos bZ,List.length_append,ej];rfl
    have nxt:∀q,q≤ts.length→(bU ts q).length=j+1→upTo (i+1) ts (aO ts i) q=iI (i+1) i' t st:=fun q hq e=>by rw [←es];exact tZ tc hq ilt (by rw [e,el])
    refine oj (t:=ik _ _) fun DE nE=>?_
    refine bS fun DF nF=>⟨_,rfl,na,_,_,_,rfl,rfl,ap.of (tupF hna),rfl,_,rfl,ta,_,_,_,rfl,rfl,ap.of (tupF hta),eX ey,o,_,rfl,ap.of (tupF ho),rfl,_,_,rfl,_,_,rfl,_,_,rfl,_,_,rfl,_,_,rfl,rfl,nF _ _ ?_⟩
    refine bI fun Q8 nA8=>⟨_,rfl,_,rfl,_,rfl,W,kv,Sum.inr (S t.en),.ref oe,rfl,rfl,hWF,ve,og,oe,t.gain,st.ω t.en,_,_,_,_,rfl,tupF hog,hoe,tt.fg,ge,by decide,by decide,by trivial,by trivial,(fun z=>by cases z),fun q F1 n1=>nA8 _ _ ?_⟩
    have gq:Gb (2+144*i+6*(j+1)) (2+144*i+6*(j+1)) (KM.lTim t.gain (st.ω t.en)):=tt.fg.tim ge (by trivial) (by trivial)
    refine ⟨_,rfl,_,rfl,_,rfl,W,kv,Sum.inr (S t.bg),.ref ob,rfl,rfl,n1.sm _ _ hWF,vb,q,ob,_,st.ω t.bg,rfl,n1.at',n1.sm _ _ hob,gq.n.mono (by trivial),gq.d.mono (by trivial),gb.n.mono (by trivial),gb.d.mono (by trivial),_,_,rfl,rfl,_,rfl,?_⟩
    have li:cE st.ω t=decide (0<(KM.lTim t.gain (st.ω t.en)).1*(st.ω t.bg).2 - (st.ω t.bg).1*(KM.lTim t.gain (st.ω t.en)).2):=by
     unfold cE
     rw [decide_eq_true ((rQ tt).mp bZ),Bool.true_and]
     refine decide_eq_decide.mpr ⟨fun z=>by trivial,fun z=>by trivial⟩
    refine jk (fun c=>?_) (fun c=>?_)
    ·have ly:cE st.ω t=true:=li.trans c
     rw [jF ly] at nxt
     refine ⟨_,rfl,(by show 2≤10000;decide),fun tq F2 n2=>⟨tq,_,rfl,ap.of n2.at',rfl,_,_,rfl,_,rfl,_,rfl,W,kv,Sum.inr (S t.bg),rfl,rfl,n2.sm _ _ (n1.sm _ _ hWF),by trivial,fun F3 c2=>⟨_,_,rfl,rfl,nE _ _ ?_⟩⟩⟩
     have s12:=n1.sm.trans n2.sm
     have tupC:∀{a:Addr}{us:List V},F2 a=some (.tup us)→F3 a=some (.tup us):=fun {a us} h=>c2.ol a _ (fun z=>by rw [z,s12 _ _ hWF] at h;cases h) h
     refine ⟨_,_,_,_,_,_,_,_,_,rfl,nxt,c2.at',by have:=lA kv (Sum.inr (S t.bg)) (.ref q);trivial,fun l hl=>?_,fun a o' h1 h=>c2.ol a _ h1 (s12 _ _ (fr2 a o' h1 h))⟩
     rw [jL]
     by_cases cl:l=t.bg
     ·subst cl
      rw [if_pos rfl]
      refine ⟨q,rfl,?_,?_,?_⟩
      ·show F3 q=some (fr (if t.bg=t.bg then KM.lTim t.gain (st.ω t.en) else st.ω t.bg));rw [if_pos rfl];exact tupC (n2.sm _ _ n1.at')
      ·show Gb _ _ (if t.bg=t.bg then KM.lTim t.gain (st.ω t.en) else st.ω t.bg);rw [if_pos rfl];exact gq
      ·show 1≤(if t.bg=t.bg then KM.lTim t.gain (st.ω t.en) else st.ω t.bg).1;rw [if_pos rfl];exact tQ tt.g1 tt.fg.pos pe1 ge.pos
     ·rw [if_neg (o8 cl)]
      obtain ⟨o',v',h',g',p'⟩:=vW l hl
      refine ⟨o',v',?_,?_,?_⟩
      ·show F3 o'=some (fr (if l=t.bg then KM.lTim t.gain (st.ω t.en) else st.ω l));rw [if_neg cl];exact tupC (s12 _ _ h')
      ·show Gb _ _ (if l=t.bg then KM.lTim t.gain (st.ω t.en) else st.ω l);rw [if_neg cl];exact g'.mono (by trivial) (by trivial)
      ·show 1≤(if l=t.bg then KM.lTim t.gain (st.ω t.en) else st.ω l).1;rw [if_neg cl];exact p'
    ·have ln:cE st.ω t=false:=by
      rw [li]
      cases z:decide (0<(KM.lTim t.gain (st.ω t.en)).1*(st.ω t.bg).2 - (st.ω t.bg).1*(KM.lTim t.gain (st.ω t.en)).2) with
      | false=>rfl
      | true=>exact absurd z c
     rw [io ln] at nxt
     exact nE _ _ ⟨_,_,_,_,_,_,_,kv,st,rfl,nxt,n1.sm _ _ hWF,by trivial,(fun l hl=>let ⟨o',v',h',g',p'⟩:=vW l hl;⟨o',v',n1.sm _ _ h',g'.mono (by trivial) (by trivial),p'⟩),fun a o' h1 h=>n1.sm _ _ (fr2 a o' h1 h)⟩
   ·have lop:=k6 ts ts.length
    rintro σ F0 ⟨v4,v5,v6,v7,v8,v9,v10,kv,st,rfl,hst,hWF,lW',vW',fr2⟩
    rw [List.length_map] at lW' vW' hst
    have e1:aO ts (i+1)=st:=hst ts.length (Nat.le_refl _) rfl
    refine nD _ _ ⟨_,_,_,_,_,_,_,_,_,kv,rfl,(fun _=>by rw [e1]),hWF,by trivial,(fun l hl=>?_),fun a o h1 h=>fr2 a o h1 (g1 _ _ (fr1 a o h1 h))⟩
    obtain ⟨o,q1,q2,q3,q4⟩:=vW' l hl
    rw [e1]
    exact ⟨o,q1,q2,q3.mono (by trivial) (by trivial),q4⟩
  ·rintro σ G ⟨v2,v3,v4,v5,v6,v7,v8,v9,v10,kv,rfl,e3,hW,lW,vW,fr1⟩
   refine nB _ _ ?_
   have eN:(((ls.map aA).length:Int)+1).toNat=mx+1+(ls.length - mx):=by rw [List.length_map];trivial
   obtain ⟨f1,f2⟩:=vU emx (ls.length - mx)
   have e3':=e3 (by trivial)
   rw [eN] at e3' vW
   rw [f2] at vW
   rw [f1] at e3'
   subst e3'
   have tupG:∀{a:Addr}{us:List V},J1 a=some (.tup us)→G a=some (.tup us):=fun {a us} h=>fr1 a _ (fun z=>by rw [z,hW0] at h;cases h) h
   have hp:G pa=some (.tup (ls.map aA)):=tupG (tupJ hpa)
   have sG:ak H G:=fun a o h=>fr1 a o (fun z=>by rw [z,fW] at h;cases h) (s01 a o h)
   refine ⟨_,rfl,_,rfl,bC ⟨_,rfl,na,_,_,_,rfl,rfl,ap.of (tupG (tupJ hna)),rfl,pa,rfl,⟨_,ap.of hp⟩,fun D hD=>dL (n:=(ls.map aA).length) (fun i H' xs=>H' D=some (.lst xs)∧aQ ED H' xs (((ls.take i).map (aO ts mx).ω).map gl)∧xs.length=i∧ak G H') (fw (by rw [List.length_map];trivial)) ⟨am,.nil,rfl,ak.new hD⟩ ?_ ?_ ?_ ?_ ?_⟩⟩
   ·rintro i H' xs ⟨e1,_,e3,_⟩
    exact ⟨e1,by trivial⟩
   ·rintro i H' xs hi ⟨_,_,_,sm⟩
    exact ⟨_,_,ap.of (sm _ _ hp),List.getElem?_eq_getElem hi⟩
   ·rintro H' xs ⟨_,_,_,sm⟩
    exact ⟨_,ap.of (sm _ _ hp),Nat.le_refl _⟩
   ·rintro i Ha xs x Hb hi ⟨eD,iD,lD,sm⟩ ⟨rfl,ex⟩
    have exi:=ex _ (ap.of (sm _ _ hp))
    rw [List.length_map] at hi
    have el:ls[i]?=some ls[i]:=List.getElem?_eq_getElem hi
    rw [List.getElem?_map,el] at exi
    obtain rfl:aA ls[i]=x:=Option.some.inj exi
    obtain ⟨o,e1,e2,_⟩:=vW ls[i] (List.getElem_mem _)
    refine ⟨fB,_,rfl,_,rfl,W,kv,Sum.inr (S ls[i]),.ref o,rfl,rfl,sm _ _ hW,e1,eD,am,?_,by rw [List.length_append,lD];rfl,bM hD sm⟩
    have c':Ch Hb D (xs++[.ref o]) (aN Hb D (.lst (xs++[.ref o]))):=Ch.mk'
    rw [List.take_succ,el,List.map_append,List.map_append]
    exact rS c' eD iD (lU (p:=(aO ts mx).ω ls[i]) (sm _ _ e2))
   ·rintro H' xs ⟨eD,iD,lD,sm⟩
    rw [List.length_map,List.take_length] at iD
    exact k D xs H' (sG.trans sm) (sG.free hD) eD iD
end
end K11
namespace K11
open PySem L2
section
variable {P:Program}{w:World}{K:PySem.W.Frag}{mg:Str→Option Value}{base:Heap}
theorem zq (T:Txt K mg):∀n,bD P w K mg base CX0 (n+1) T.l_same_.f T.l_same_.d ["_law_found", "_law_due"] (ES n):=by
 intro n
 induction n with
 | zero=>
  refine T.l_same_.F.ok uD (fun vs H Q E h=>?_) (fun cdv A outer s H vs Q E hr h=>?_)
  ·obtain ⟨_,_,_,_,_,_,_,z,_⟩:=h
   exact z.elim
  ·obtain ⟨_,_,_,_,_,_,_,z,_⟩:=h
   exact z.elim
 | succ n G_l_same=>
 refine T.l_same_.F.ok uD (fun vs H Q E h=>?_) (fun cdv A outer s H vs Q E hr h=>?_)
 ·obtain ⟨x,y,d,E,rfl,_⟩:=h
  rfl
 ·obtain ⟨x,y,d,E',rfl,hx,hy,hd,k⟩:=h
  refine ⟨_,(@ae _ _ _ _ _ (@bH _ _ _ _ _ _ _ _ (@dn _ _ _ (@aB _ _ _ _ _ _ _ _ _ (@zr _ (K) (by rfl)) aZ T.b_isinstance (@aI) (@aa _ _ _ _ _ (@pw _ 1 _ _ (Or.inl bE) (by rfl) (by decide) (by decide)) (@aa _ _ _ _ _ (@aF _ _ _ _ _ (@aa _ _ _ _ _ (@eh _ _ _ _ jZ T.b_list (@cX) (by decide) (by decide)) (@aa _ _ _ _ _ (@eh _ _ _ _ jj T.b_tuple (@d7) (by decide) (by decide)) (@ac _) rfl) rfl)) (@ac _) rfl) rfl) (by decide) (by decide) (by rfl) (by rfl)) (by intro _;rfl)) (@ae _ _ _ _ _ (@bH _ _ _ _ _ _ _ _ (@PW.pt _ _ _ (@iB _ _ _ _ _ _ _ (@aK _ _ _ _ _ _ _ _ (@qb _) (@aB _ _ _ _ _ _ _ _ _ (@cp _ (K) (by rfl)) aZ T.b_isinstance (@aI) (@aa _ _ _ _ _ (@pw _ 0 _ _ (Or.inl bt) (by rfl) (by decide) (by decide)) (@aa _ _ _ _ _ (@eh _ _ _ _ jZ T.b_list (@cX) (by decide) (by decide)) (@ac _) rfl) rfl) (by decide) (by decide) (by rfl) (by rfl)) (@aB _ _ _ _ _ _ _ _ _ (@cp _ (K) (by rfl)) aZ T.b_isinstance (@aI) (@aa _ _ _ _ _ (@pw _ 1 _ _ (Or.inl bE) (by rfl) (by decide) (by decide)) (@aa _ _ _ _ _ (@eh _ _ _ _ jZ T.b_list (@cX) (by decide) (by decide)) (@ac _) rfl) rfl) (by decide) (by decide) (by rfl) (by rfl)) (@aG _ _ (by decide) (by decide))) (@iF _ _ _ _ (@aK _ _ _ _ _ _ _ _ (@qb _) (@aB _ _ _ _ _ _ _ _ _ (@cp _ (K) (by rfl)) aZ T.b_isinstance (@aI) (@aa _ _ _ _ _ (@pw _ 0 _ _ (Or.inl bt) (by rfl) (by decide) (by decide)) (@aa _ _ _ _ _ (@eh _ _ _ _ jj T.b_tuple (@d7) (by decide) (by decide)) (@ac _) rfl) rfl) (by decide) (by decide) (by rfl) (by rfl)) (@aB _ _ _ _ _ _ _ _ _ (@cp _ (K) (by rfl)) aZ T.b_isinstance (@aI) (@aa _ _ _ _ _ (@pw _ 1 _ _ (Or.inl bE) (by rfl) (by decide) (by decide)) (@aa _ _ _ _ _ (@eh _ _ _ _ jj T.b_tuple (@d7) (by decide) (by decide)) (@ac _) rfl) rfl) (by decide) (by decide) (by rfl) (by rfl)) (@aG _ _ (by decide) (by decide)))))) (@ah _ _ _ (@aL _ _ _ _ (@jy _ _ _ _))) (@bd _)) (@ah _ _ _ (@aL _ _ _ _ (@kW _ _ _ _ _ _ _ (@dj _ _ _ _ _ _ _ _ (@dE _) (@aB _ _ _ _ _ _ _ _ _ (@eS _ (K) (by rfl)) qa T.b_len (@bw) (@aa _ _ _ _ _ (@pw _ 0 _ _ (Or.inl bt) (by rfl) (by decide) (by decide)) (@ac _) rfl) (by decide) (by decide) (by rfl) (by rfl)) (@aB _ _ _ _ _ _ _ _ _ (@eS _ (K) (by rfl)) qa T.b_len (@bw) (@aa _ _ _ _ _ (@pw _ 1 _ _ (Or.inl bE) (by rfl) (by decide) (by decide)) (@ac _) rfl) (by decide) (by decide) (by rfl) (by rfl)) (@aG _ _ (by decide) (by decide))) (@k4 _ _ _ _ _ (@aB _ _ _ _ _ _ _ _ _ (@Bo _ (K) rfl (by rfl)) vS T.b_all (@sU) (@aa _ _ _ _ _ (@cO _ _ _ _ _ _ _ (["_law_one", "_law_other"]) (2) ([]) _ _ _ _ rfl (by kernel_rfl) (@Ao _ (K) _ _ _ _ _ _ _ _ wC T.b_zip (@aa _ _ _ _ _ (@pw _ 0 _ _ (Or.inl bt) (by rfl) (by decide) (by decide)) (@aa _ _ _ _ _ (@pw _ 1 _ _ (Or.inl bE) (by rfl) (by decide) (by decide)) (@ac _) rfl) rfl) (by rfl) (by rfl) (by rfl)) (fun _ _ _ _ _ _=>(@cP _ (K) _ _ _ _ (2) rfl (@aP _ _ _ _ _ (@au _ _ (0) _ (@cg _ (by kernel_rfl)) rfl (Or.inl (by kernel_rfl)) (by first | exact .inl rfl | exact .inr rfl | assumption)) (@aP _ _ _ _ _ (@au _ _ (1) _ (@cg _ (by kernel_rfl)) rfl (Or.inl (by kernel_rfl)) (by first | exact .inl rfl | exact .inr rfl | assumption)) (@cN _) (by rfl)) (by rfl)) (by rfl) (by rfl) (by rfl))) (fun _ _ _ _ _ _=>@bX _) (fun _ _ _ _ _ _=>(@ai _ _ _ _ _ _ _ _ _ _ _ _ _ _ _ _ G_l_same (hr.mono (by trivial)) (by show _=_;kernel_rfl) T.l_same_.m T.l_same_.F.kp T.l_same_.B .nil (@ay _) (@aa _ _ _ _ _ (@pw _ 0 _ _ (Or.inl (by kernel_rfl)) (by rfl) (by decide) (by decide)) (@aa _ _ _ _ _ (@pw _ 1 _ _ (Or.inl (by kernel_rfl)) (by rfl) (by decide) (by decide)) (@ac _) rfl) rfl) (by decide) (by rfl) (by rfl))) (by intro _;rfl)) (@ac _) rfl) (by decide) (by decide) (by rfl) (by rfl))))))) (@bd _)) (@ae _ _ _ _ _ (@bH _ _ _ _ _ _ _ _ (@PW.pt _ _ _ (@iB _ _ _ _ _ _ _ (@aK _ _ _ _ _ _ _ _ (@su _) (@pw _ 1 _ _ (Or.inl bE) (by rfl) (by decide) (by decide)) (@db _ _ _) (@aG _ _ (by decide) (by decide))) (@iF _ _ _ _ (@dn _ _ _ (@aB _ _ _ _ _ _ _ _ _ (@cp _ (K) (by rfl)) aZ T.b_isinstance (@aI) (@aa _ _ _ _ _ (@pw _ 1 _ _ (Or.inl bE) (by rfl) (by decide) (by decide)) (@aa _ _ _ _ _ (@eh _ _ _ _ lq T.b_str (@gZ) (by decide) (by decide)) (@ac _) rfl) rfl) (by decide) (by decide) (by rfl) (by rfl)) (by intro _;rfl))))) (@ah _ _ _ (@aL _ _ _ _ (@kW _ _ _ _ _ _ _ (@dj _ _ _ _ _ _ _ _ (@dE _) (@pw _ 0 _ _ (Or.inl bt) (by rfl) (by decide) (by decide)) (@pw _ 1 _ _ (Or.inl bE) (by rfl) (by decide) (by decide)) (@aG _ _ (by decide) (by decide))) (@k4 _ _ _ _ _ (@dj _ _ _ _ _ _ _ _ (@dE _) (@aB _ _ _ _ _ _ _ _ _ (@cp _ (K) (by rfl)) aZ T.b_isinstance (@aI) (@aa _ _ _ _ _ (@pw _ 0 _ _ (Or.inl bt) (by rfl) (by decide) (by decide)) (@aa _ _ _ _ _ (@eh _ _ _ _ lq T.b_str (@gZ) (by decide) (by decide)) (@ac _) rfl) rfl) (by decide) (by decide) (by rfl) (by rfl)) (@aB _ _ _ _ _ _ _ _ _ (@cp _ (K) (by rfl)) aZ T.b_isinstance (@aI) (@aa _ _ _ _ _ (@pw _ 1 _ _ (Or.inl bE) (by rfl) (by decide) (by decide)) (@aa _ _ _ _ _ (@eh _ _ _ _ lq T.b_str (@gZ) (by decide) (by decide)) (@ac _) rfl) rfl) (by decide) (by decide) (by rfl) (by rfl)) (@aG _ _ (by decide) (by decide))))))) (@bd _)) (@ae _ _ _ _ _ (@bH _ _ _ _ _ _ _ _ (@dn _ _ _ (@aB _ _ _ _ _ _ _ _ _ (@cp _ (K) (by rfl)) aZ T.b_isinstance (@aI) (@aa _ _ _ _ _ (@pw _ 1 _ _ (Or.inl bE) (by rfl) (by decide) (by decide)) (@aa _ _ _ _ _ (@eh _ _ _ _ jU T.b_bool (@iQ) (by decide) (by decide)) (@ac _) rfl) rfl) (by decide) (by decide) (by rfl) (by rfl)) (by intro _;rfl)) (@ah _ _ _ (@aL _ _ _ _ (@kW _ _ _ _ _ _ _ (@aB _ _ _ _ _ _ _ _ _ (@cp _ (K) (by rfl)) aZ T.b_isinstance (@aI) (@aa _ _ _ _ _ (@pw _ 0 _ _ (Or.inl bt) (by rfl) (by decide) (by decide)) (@aa _ _ _ _ _ (@eh _ _ _ _ jU T.b_bool (@iQ) (by decide) (by decide)) (@ac _) rfl) rfl) (by decide) (by decide) (by rfl) (by rfl)) (@k4 _ _ _ _ _ (@dj _ _ _ _ _ _ _ _ (@dE _) (@pw _ 0 _ _ (Or.inl bt) (by rfl) (by decide) (by decide)) (@pw _ 1 _ _ (Or.inl bE) (by rfl) (by decide) (by decide)) (@aG _ _ (by decide) (by decide))))))) (@bd _)) (@ah _ _ _ (@aL _ _ _ _ (@kW _ _ _ _ _ _ _ (@aB _ _ _ _ _ _ _ _ _ (@cp _ (K) (by rfl)) aZ T.b_isinstance (@aI) (@aa _ _ _ _ _ (@pw _ 0 _ _ (Or.inl bt) (by rfl) (by decide) (by decide)) (@aa _ _ _ _ _ (@eh _ _ _ _ wn T.b_int (@md) (by decide) (by decide)) (@ac _) rfl) rfl) (by decide) (by decide) (by rfl) (by rfl)) (@kW _ _ _ _ _ _ _ (@DU _ _ _ _ (@aB _ _ _ _ _ _ _ _ _ (@cp _ (K) (by rfl)) aZ T.b_isinstance (@aI) (@aa _ _ _ _ _ (@pw _ 0 _ _ (Or.inl bt) (by rfl) (by decide) (by decide)) (@aa _ _ _ _ _ (@eh _ _ _ _ jU T.b_bool (@iQ) (by decide) (by decide)) (@ac _) rfl) rfl) (by decide) (by decide) (by rfl) (by rfl))) (@k4 _ _ _ _ _ (@dj _ _ _ _ _ _ _ _ (@dE _) (@pw _ 0 _ _ (Or.inl bt) (by rfl) (by decide) (by decide)) (@pw _ 1 _ _ (Or.inl bE) (by rfl) (by decide) (by decide)) (@aG _ _ (by decide) (by decide))))))))))),?_⟩
  refine ⟨_,rfl,(by show 2≤10000;decide),fun p H1 n1=>⟨y,p,d,E',rfl,hy.mono n1.sm.toE,ap.of n1.at',_,rfl,?_⟩⟩
  have s1:=n1.sm
  have hx1:=hx.mono s1.toE
  have hy1:=hy.mono s1.toE
  have k1:=k H1 s1
  have hx2:=hx1
  have hy2:=hy1
  cases hx1 with
  | non=>
   cases hy1
   refine bC ⟨_,rfl,rfl,_,rfl,bW (bW ?_)⟩
   exact ⟨_,rfl,_,rfl,rfl,_,rfl,vi ⟨_,rfl,_,_,_,_,rfl,hx2.ty,jt _,_,rfl,_,_,_,_,rfl,hy2.ty,jt _,rfl,qi k1⟩⟩
  | str z=>
   cases hy1
   refine bC ⟨_,rfl,rfl,_,rfl,bC ⟨_,rfl,_,_,_,_,rfl,hy2.ty,jt _,_,rfl,bW ?_⟩⟩
   exact ⟨_,rfl,_,rfl,rfl,_,rfl,vi ⟨_,rfl,_,_,_,_,rfl,hx2.ty,jt _,_,rfl,_,_,_,_,rfl,hy2.ty,jt _,rfl,qi k1⟩⟩
  | bl b=>
   cases hy1
   refine bC ⟨_,rfl,rfl,_,rfl,bC ⟨_,rfl,_,_,_,_,rfl,hy2.ty,jt _,_,rfl,bC ⟨_,rfl,_,_,_,_,rfl,hy2.ty,kK _,_,rfl,bW ?_⟩⟩⟩
   exact ⟨_,rfl,_,_,_,_,rfl,hx2.ty,kK _,_,rfl,bW ⟨_,rfl,_,rfl,rfl,qi k1⟩⟩
  | int i=>
   cases hy1
   refine bC ⟨_,rfl,rfl,_,rfl,bC ⟨_,rfl,_,_,_,_,rfl,hy2.ty,jt _,_,rfl,bC ⟨_,rfl,_,_,_,_,rfl,hy2.ty,kK _,_,rfl,bC ?_⟩⟩⟩
   exact ⟨_,rfl,_,_,_,_,rfl,hx2.ty,Bt _,_,rfl,bW ⟨_,rfl,_,_,_,_,rfl,hx2.ty,kK _,_,rfl,_,rfl,bW ⟨_,rfl,_,rfl,rfl,qi k1⟩⟩⟩
  | @lst a1 xs ds h1 ne1 r1=>
   cases hy1 with
   | @lst a2 ys _ h2 ne2 r2=>
   refine bW ⟨_,rfl,_,_,_,_,rfl,hx2.ty,iu _,_,rfl,_,_,_,_,rfl,hy2.ty,iu _,rfl,_,rfl,kz ⟨_,rfl,_,_,_,_,rfl,hx2.ty,jE _,_,rfl,_,_,_,_,rfl,hy2.ty,jE _,rfl,_,rfl,kz ?_⟩⟩
   have el:xs.length=ys.length:=r1.length.trans r2.length.symm
   have ed:=r2.length
   refine ⟨_,rfl,a1,xs,rfl,.inl (ax.of h1),_,rfl,a2,ys,rfl,.inl (ax.of h2),rfl,_,rfl,?_⟩
   rw [el]
   refine vi ⟨_,rfl,_,rfl,a1,a2,true,true,rfl,⟨xs,ax.of h1⟩,⟨ys,ax.of h2⟩,fun D hD=>dL (n:=ys.length) (A9 H1 D) ?_ ⟨rfl,am,bM hD (ak.refl _)⟩ ?_ ?_ ?_ ?_ ?_⟩
   ·rw [sizeLine_eq]
    have:=hd.1
    trivial
   ·rintro i H' zs ⟨rfl,q1,_⟩
    exact ⟨q1,by rw [List.length_map,List.length_replicate];exact Nat.le_refl _⟩
   ·rintro i H' zs hi ⟨_,_,q⟩
    exact ⟨xs,ys,xs[i],ys[i],ax.of (q _ _ h1),ax.of (q _ _ h2),by simp [el,hi],by simp [hi]⟩
   ·rintro H' zs ⟨_,_,q⟩
    exact ⟨xs,ys,ax.of (q _ _ h1),ax.of (q _ _ h2),.inl el⟩
   ·rintro i H' zs x H'' hi ⟨rfl,q1,q⟩ ⟨t,u,v,ht,rfl,rfl,e1,e2⟩
    have e1':=e1 xs (ax.of (q _ _ h1))
    have e2':=e2 ys (ax.of (q _ _ h2))
    obtain ⟨du,f1,g1⟩:=r1.get e1'
    obtain ⟨dv,f2,g2⟩:=r2.get e2'
    rw [f1] at f2
    cases f2
    have st:=q.trans (ak.new (o:=.tup [u,v]) ht)
    refine ⟨t,_,rfl,ap.of am,rfl,_,_,rfl,_,_,rfl,rfl,xW,_,rfl,_,rfl,u,v,du,E',rfl,g1.mono st.toE,g2.mono st.toE,hd.2 du (List.mem_of_getElem? f1),fun H3 s3=>?_⟩
    have qD:H3 D=some (.lst ((List.replicate i true).map V.bl)):=s3 _ _ (ak.new (o:=.tup [u,v]) ht _ _ q1)
    exact ⟨qD,wp i,am,bM hD (st.trans s3)⟩
   ·rintro H' zs ⟨rfl,q1,q⟩
    refine ⟨D,List.replicate ys.length true,rfl,ax.of q1,?_⟩
    rw [xA]
    exact k H' (s1.trans q)
  | @tup a1 xs ds h1 r1=>
   cases hy1 with
   | @tup a2 ys _ h2 r2=>
   refine bW ⟨_,rfl,_,_,_,_,rfl,hx2.ty,iu _,_,rfl,_,_,_,_,rfl,hy2.ty,iu _,rfl,_,rfl,kz ⟨_,rfl,_,_,_,_,rfl,hx2.ty,jE _,_,rfl,_,_,_,_,rfl,hy2.ty,jE _,rfl,_,rfl,kz ?_⟩⟩
   have el:xs.length=ys.length:=r1.length.trans r2.length.symm
   have ed:=r2.length
   refine ⟨_,rfl,a1,xs,rfl,.inr (ap.of h1),_,rfl,a2,ys,rfl,.inr (ap.of h2),rfl,_,rfl,?_⟩
   rw [el]
   refine vi ⟨_,rfl,_,rfl,a1,a2,false,false,rfl,⟨xs,ap.of h1⟩,⟨ys,ap.of h2⟩,fun D hD=>dL (n:=ys.length) (A9 H1 D) ?_ ⟨rfl,am,bM hD (ak.refl _)⟩ ?_ ?_ ?_ ?_ ?_⟩
   ·rw [sizeLine_eq]
    have:=hd.1
    trivial
   ·rintro i H' zs ⟨rfl,q1,_⟩
    exact ⟨q1,by rw [List.length_map,List.length_replicate];exact Nat.le_refl _⟩
   ·rintro i H' zs hi ⟨_,_,q⟩
    exact ⟨xs,ys,xs[i],ys[i],ap.of (q _ _ h1),ap.of (q _ _ h2),by simp [el,hi],by simp [hi]⟩
   ·rintro H' zs ⟨_,_,q⟩
    exact ⟨xs,ys,ap.of (q _ _ h1),ap.of (q _ _ h2),.inl el⟩
   ·rintro i H' zs x H'' hi ⟨rfl,q1,q⟩ ⟨t,u,v,ht,rfl,rfl,e1,e2⟩
    have e1':=e1 xs (ap.of (q _ _ h1))
    have e2':=e2 ys (ap.of (q _ _ h2))
    obtain ⟨du,f1,g1⟩:=r1.get e1'
    obtain ⟨dv,f2,g2⟩:=r2.get e2'
    rw [f1] at f2
    cases f2
    have st:=q.trans (ak.new (o:=.tup [u,v]) ht)
    refine ⟨t,_,rfl,ap.of am,rfl,_,_,rfl,_,_,rfl,rfl,xW,_,rfl,_,rfl,u,v,du,E',rfl,g1.mono st.toE,g2.mono st.toE,hd.2 du (List.mem_of_getElem? f1),fun H3 s3=>?_⟩
    have qD:H3 D=some (.lst ((List.replicate i true).map V.bl)):=s3 _ _ (ak.new (o:=.tup [u,v]) ht _ _ q1)
    exact ⟨qD,wp i,am,bM hD (st.trans s3)⟩
   ·rintro H' zs ⟨rfl,q1,q⟩
    refine ⟨D,List.replicate ys.length true,rfl,ax.of q1,?_⟩
    rw [xA]
    exact k H' (s1.trans q)
end
end K11
namespace K11
open PySem L2
set_option maxHeartbeats 4000000
theorem Be {t u:TS}{D:df}{σ:St}{H:Hp} (h:∀D':df,(∀σ' H',u D σ' H'→D'.nx σ' H')→(∀v H',D.rt v H'→D'.rt v H')→t D' σ H):ik t u D σ H:=h { D with nx:=u D } (fun _ _ z=>z) fun _ _ z=>z
theorem tY {E:Addr→Prop}{H:Hp}{ω:ud}:∀{ls:List (List Nat)}{xs:List V},xs.length=ls.length→(∀(j:Nat) l,ls[j]?=some l→∃o,xs[j]?=some (.ref o)∧H o=some (fr (ω l)))→aQ E H xs ((ls.map ω).map gl):=by
 intro ls
 induction ls with
 | nil=>
  intro xs e _
  cases xs with
  | nil=>exact .nil
  | cons _ _=>cases e
 | cons l r ih=>
  intro xs e h
  cases xs with
  | nil=>cases e
  | cons x ys=>
   obtain ⟨o,e1,e2⟩:=h 0 l rfl
   obtain rfl:x=.ref o:=Option.some.inj e1
   exact .cons (lU (p:=ω l) e2).any (ih (by simpa using e) fun j l' e'=>h (j+1) l' e')
theorem yN {ls:List (List Nat)}{ω:ud} (h:ls.length≤10):Dp 4 (.list ((ls.map ω).map gl)):=by
 refine ⟨by simp;trivial,fun x hx=>?_⟩
 obtain ⟨p,_,rfl⟩:=List.mem_map.mp hx
 refine ⟨by show 2≤1000;decide,fun y hy=>?_⟩
 have hy':y=.int p.1∨y=.int p.2:=by simpa using hy
 rcases hy' with rfl | rfl <;> trivial
section
variable {P:Program}{w:World}{K:PySem.W.Frag}{mg:Str→Option Value}{base:Heap}
inductive Aj (vs:List V) (H:Hp) (Q:VK):Prop
 | mk (v:V) (tp r:Addr) (ls:List (List Nat)) (ts:List ag) (h0:vs=[v,.ref tp]) (h1:bc ED H v (dM ls ts)) (h2:(∀t∈ts,fe ls t)) (h3:ts.length≤24) (h4:1≤ls.length) (h5:ls.length≤10) (h6:ls.Nodup) (h7:(∀l∈ls,iW l)) (h8:((bo fun (m:Nat) (xs:List V)=>m<ls.length∧(aO ts (m+1)).lf=none∧H tp=some (.tup [.str "told",.ref r])∧H r=some (.lst xs)∧xs.length=ls.length∧(∀(j:Nat) l,ls[j]?=some l→∃o,xs[j]?=some (.ref o)∧H o=some (fr ((aO ts m).ω l))))∨((∀m,m<ls.length→(aO ts (m+1)).lf≠none)∧bo fun (R:List Nat) (us:List ag)=>fZ ts R us∧R.length≤10∧H tp=some (.tup [.str "refused",.ref r])∧H r=some (.lst (bf R))))) (h9:∀H':Hp,ak H H'→Q (.bl true) H')
def Cz:Sp:=fun vs H Q _=>Aj  vs H Q
theorem x6 (T:Txt K mg):bD P w K mg base CX0 8 T.l_right_.f T.l_right_.d ["_law_net", "_law_told"] Cz:=by
 have G_l_is_round:=uR (P:=P) (w:=w) (base:=base) T
 have G_gaining_round:=ii (P:=P) (w:=w) (base:=base) T
 have G_l_same:=zq (P:=P) (w:=w) (base:=base) T 4
 have G_l_grown:=xV (P:=P) (w:=w) (base:=base) T
 have G_l_due_of:=wZ (P:=P) (w:=w) (base:=base) T
 refine T.l_right_.F.ok nN (fun vs H Q E h=>?_) (fun cdv A outer s H vs Q E hr h=>?_)
 ·obtain ⟨v,tp,r,ls,ts,rfl,_⟩:=h
  rfl
 ·obtain ⟨v,tp,r,ls,ts,rfl,hv,tc,h24,l1,l10,nd,nc,hh,k⟩:=h
  obtain ⟨na,pa,ta,ys,rfl,hna,hpa,hta,ity⟩:=dQ hv
  refine ⟨_,(@ae _ _ _ _ _ (@d9 _ _ _ _ _ _ (@pw _ 1 _ _ (Or.inl rM) (by rfl) (by decide) (by decide)) (@cP _ (K) _ _ _ _ (2) rfl (@aP _ _ _ _ _ (@au _ _ (2) _ nN.nd rfl (Or.inl ig) (by first | exact .inl rfl | exact .inr rfl | assumption)) (@aP _ _ _ _ _ (@au _ _ (3) _ nN.nd rfl (Or.inl eO) (by first | exact .inl rfl | exact .inr rfl | assumption)) (@cN _) (by rfl)) (by rfl)) (by rfl) (by rfl) (by rfl)) (by rfl) (by rfl) (by rfl)) (@ae _ _ _ _ _ (@bH _ _ _ _ _ _ _ _ (@aK _ _ _ _ _ _ _ _ (@dE _) (@pw _ 2 _ _ (Or.inl ig) (by rfl) (by decide) (by decide)) (@dP _ _ _ _) (@aG _ _ (by decide) (by decide))) (@ah _ _ _ (@aL _ _ _ _ (@kW _ _ _ _ _ _ _ (@ai _ _ _ _ _ _ _ _ _ _ _ _ _ _ _ _ G_l_is_round (hr.mono (by decide)) nZ T.l_is_round_.m T.l_is_round_.F.kp T.l_is_round_.B .nil (@ay _) (@aa _ _ _ _ _ (@pw _ 0 _ _ (Or.inr (Or.inl di)) (by rfl) (by decide) (by decide)) (@aa _ _ _ _ _ (@pw _ 3 _ _ (Or.inl eO) (by rfl) (by decide) (by decide)) (@ac _) rfl) rfl) (by decide) (by rfl) (by rfl)) (@k4 _ _ _ _ _ (@dj _ _ _ _ _ _ _ _ (@ql _) (@ai _ _ _ _ _ _ _ _ _ _ _ _ _ _ _ _ G_gaining_round (hr.mono (by decide)) gK T.gaining_round_.m T.gaining_round_.F.kp T.gaining_round_.B .nil (@ay _) (@aa _ _ _ _ _ (@pw _ 0 _ _ (Or.inr (Or.inl di)) (by rfl) (by decide) (by decide)) (@ac _) rfl) (by decide) (by rfl) (by rfl)) (@db _ _ _) (@aG _ _ (by decide) (by decide))))))) (@bd _)) (@ae _ _ _ _ _ (@bH _ _ _ _ _ _ _ _ (@PW.pt _ _ _ (@iB _ _ _ _ _ _ _ (@aK _ _ _ _ _ _ _ _ (@qb _) (@pw _ 2 _ _ (Or.inl ig) (by rfl) (by decide) (by decide)) (@dP _ _ _ _) (@aG _ _ (by decide) (by decide))) (@iF _ _ _ _ (@aK _ _ _ _ _ _ _ _ (@ql _) (@ai _ _ _ _ _ _ _ _ _ _ _ _ _ _ _ _ G_gaining_round (hr.mono (by decide)) gK T.gaining_round_.m T.gaining_round_.F.kp T.gaining_round_.B .nil (@ay _) (@aa _ _ _ _ _ (@pw _ 0 _ _ (Or.inr (Or.inl di)) (by rfl) (by decide) (by decide)) (@ac _) rfl) (by decide) (by rfl) (by rfl)) (@db _ _ _) (@aG _ _ (by decide) (by decide)))))) (@ah _ _ _ (@aL _ _ _ _ (@jy _ _ _ _))) (@bd _)) (@ae _ _ _ _ _ (@bH _ _ _ _ _ _ _ _ (@mQ _ _ _ _ (@dn _ _ _ (@ai _ _ _ _ _ _ _ _ _ _ _ _ _ _ _ _ G_l_same (hr.mono (by decide)) kQ T.l_same_.m T.l_same_.F.kp T.l_same_.B .nil (@ay _) (@aa _ _ _ _ _ (@pw _ 3 _ _ (Or.inl eO) (by rfl) (by decide) (by decide)) (@aa _ _ _ _ _ (@ai _ _ _ _ _ _ _ _ _ _ _ _ _ _ _ _ G_l_grown (hr.mono (by decide)) qB T.l_grown_.m T.l_grown_.F.kp T.l_grown_.B .nil (@ay _) (@aa _ _ _ _ _ (@pw _ 0 _ _ (Or.inr (Or.inl di)) (by rfl) (by decide) (by decide)) (@ac _) rfl) (by decide) (by rfl) (by rfl)) (@ac _) rfl) rfl) (by decide) (by rfl) (by rfl)) (by intro _;rfl))) (@ah _ _ _ (@aL _ _ _ _ (@jy _ _ _ _))) (@bd _)) (@ae _ _ _ _ _ (@bH _ _ _ _ _ _ _ _ (@aK _ _ _ _ _ _ _ _ (@jA _) (@aB _ _ _ _ _ _ _ _ _ (@eS _ (K) (by rfl)) uM T.b_len (@bw) (@aa _ _ _ _ _ (@aq _ _ _ _ _ _ _ (@aR _ (K) (by rfl)) (@pw _ 0 _ _ (Or.inr (Or.inl di)) (by rfl) (by decide) (by decide)) (@ad _ _ _ _) (fun _ _=>rfl)) (@ac _) rfl) (by decide) (by decide) (by rfl) (by rfl)) (@ad _ _ _ _) (@aG _ _ (by decide) (by decide))) (@ah _ _ _ (@aL _ _ _ _ (@jy _ _ _ _))) (@bd _)) (@ah _ _ _ (@aL _ _ _ _ (@ai _ _ _ _ _ _ _ _ _ _ _ _ _ _ _ _ G_l_same (hr.mono (by decide)) kQ T.l_same_.m T.l_same_.F.kp T.l_same_.B .nil (@ay _) (@aa _ _ _ _ _ (@pw _ 3 _ _ (Or.inl eO) (by rfl) (by decide) (by decide)) (@aa _ _ _ _ _ (@cO _ _ _ _ _ _ _ (["_law_place", "_law_net"]) (1) ([0]) _ _ _ _ rfl (by kernel_rfl) (@iq _ (K) _ _ _ (@aq _ _ _ _ _ _ _ (@aR _ (K) (by rfl)) (@pw _ 0 _ _ (Or.inr (Or.inl di)) (by rfl) (by decide) (by decide)) (@ad _ _ _ _) (fun _ _=>rfl)) (by rfl)) (fun _ _ _ _ _ _=>(@au _ _ (0) _ (@cg _ (by kernel_rfl)) rfl (Or.inl (by kernel_rfl)) (by first | exact .inl rfl | exact .inr rfl | assumption))) (fun _ _ _ _ _ _=>@bX _) (fun _ _ _ _ _ _=>(@ai _ _ _ _ _ _ _ _ _ _ _ _ _ _ _ _ G_l_due_of (hr.mono (by decide)) (by show _=_;kernel_rfl) T.l_due_of_.m T.l_due_of_.F.kp T.l_due_of_.B .nil (@ay _) (@aa _ _ _ _ _ (@pw _ 1 _ _ (Or.inr (Or.inl (by kernel_rfl))) (by rfl) (by decide) (by decide)) (@aa _ _ _ _ _ (@pw _ 0 _ _ (Or.inl (by kernel_rfl)) (by rfl) (by decide) (by decide)) (@ac _) rfl) rfl) (by decide) (by rfl) (by rfl))) (by intro _;rfl)) (@ac _) rfl) rfl) (by decide) (by rfl) (by rfl))))))))),?_⟩
  rcases hh with ⟨m,xs,hm,em,htp,hr',lx,vx⟩ | ⟨hall,R,us,rk,lR,htp,hr'⟩
  ·refine bS fun DA nA=>⟨_,rfl,tp,_,rfl,ap.of htp,rfl,_,_,rfl,_,_,rfl,rfl,nA _ _ ?_⟩
   refine bS fun DB nB=>⟨_,rfl,rfl,_,rfl,?_⟩
   rw [show decide (V.str ("told" : Str)=V.str "refused")=false by decide +kernel]
   refine bC (nB _ _ ?_)
   refine bS fun DC nC=>⟨_,rfl,rfl,_,rfl,?_⟩
   rw [show (!decide (V.str ("told" : Str)=V.str "told"))=false by simp]
   refine bC ⟨_,rfl,.ref na,ls,ts,rfl,hv,tc,h24,l1,l10,.inl ⟨m,hm,em,fun H1 s1=>⟨rfl,_,rfl,bC (nC _ _ ?_)⟩⟩⟩
   have d1:∀{J:Hp},ak H J→bc (fun _=>False) J (.ref r) (.list ((ls.map (aO ts m).ω).map gl)):=fun {J} sJ=>.lst (sJ _ _ hr') id (tY lx fun j l e=>let ⟨o,a,b⟩:=vx j l e;⟨o,a,sJ _ _ b⟩)
   refine bS fun DD nD=>⟨_,rfl,_,rfl,.ref na,ls,ts,m,rfl,hv.mono s1.toE,tc,h24,l10,nd,hm,em,fun r2 zs H2 s2 fr2 hr2 i2=>⟨.ref r,.ref r2,_,fun _=>False,rfl,d1 (s1.trans s2),.lst hr2 id (i2.narrow fun _ z=>z.elim),yN l10,fun H3 s3=>⟨_,rfl,bC (nD _ _ ?_)⟩⟩⟩
   have s03:=(s1.trans s2).trans s3
   refine Be fun DE nE rE=>⟨_,rfl,na,_,_,_,rfl,rfl,ap.of (s03 _ _ hna),rfl,pa,_,rfl,.inr (ap.of (s03 _ _ hpa)),_,_,rfl,rfl,_,rfl,?_⟩
   by_cases c6:(6:Int)<((ls.map aA).length:Int)
   ·rw [decide_eq_true c6]
    exact bW (rE _ _ (k H3 s03))
   rw [decide_eq_false c6]
   refine bC (nE _ _ ?_)
   rw [List.length_map] at c6
   refine ⟨_,rfl,_,rfl,na,_,_,_,rfl,rfl,ap.of (s03 _ _ hna),rfl,pa,rfl,⟨_,ap.of (s03 _ _ hpa)⟩,fun D hD=>dL (n:=(ls.map aA).length) (fun i H' zs=>H' D=some (.lst zs)∧zs.length=i∧(∀(j:Nat) l,j<i→ls[j]?=some l→∃o,zs[j]?=some (.ref o)∧H' o=some (fr ((aO ts m).ω l)))∧ak H3 H') (fw (by rw [List.length_map];trivial)) ⟨am,rfl,(fun j l h=>by trivial),ak.new hD⟩ ?_ ?_ ?_ ?_ ?_⟩
   ·rintro i H' zs ⟨e1,e2,_⟩
    exact ⟨e1,by trivial⟩
   ·rintro i H' zs hi ⟨_,_,_,sm⟩
    exact ⟨_,_,ap.of (sm _ _ (s03 _ _ hpa)),List.getElem?_eq_getElem hi⟩
   ·rintro H' zs ⟨_,_,_,sm⟩
    exact ⟨_,ap.of (sm _ _ (s03 _ _ hpa)),Nat.le_refl _⟩
   ·rintro i Ha zs x Hb hi ⟨eD,lz,vz,sm⟩ ⟨rfl,ex⟩
    have exi:=ex _ (ap.of (sm _ _ (s03 _ _ hpa)))
    rw [List.length_map] at hi
    rw [List.getElem?_map,List.getElem?_eq_getElem hi] at exi
    obtain rfl:aA ls[i]=x:=Option.some.inj exi
    refine ⟨fB,_,rfl,_,rfl,.ref na,ls,ts,ls[i],m,rfl,hv.mono (s03.trans sm).toE,tc,h24,by trivial,List.getElem_mem _,em,fun o J s4 ho=>?_⟩
    have eD4:=s4 _ _ eD
    have c':Ch J D (zs++[.ref o]) (aN J D (.lst (zs++[.ref o]))):=Ch.mk'
    refine ⟨eD4,am,by rw [List.length_append,lz];rfl,fun j l hj el=>?_,bM hD (sm.trans s4)⟩
    by_cases z:j<i
    ·obtain ⟨o',a,b⟩:=vz j l z el
     exact ⟨o',by rw [List.getElem?_append_left (by trivial)];exact a,c'.tup (s4 _ _ b) eD4⟩
    ·have ej:j=i:=by trivial
     subst ej
     rw [List.getElem?_eq_getElem hi] at el
     obtain rfl:=Option.some.inj el
     exact ⟨o,by rw [List.getElem?_append_right (by trivial),lz,Nat.sub_self];rfl,c'.tup ho eD4⟩
   rintro H4 zs ⟨eD,lz,vz,sm⟩
   rw [List.length_map] at lz vz
   exact ⟨.ref r,.ref D,_,fun _=>False,rfl,d1 (s03.trans sm),.lst eD id (tY lz fun j l e=>vz j l (List.getElem?_eq_some_iff.mp e).1 e),yN l10,fun H5 s5=>k H5 ((s03.trans sm).trans s5)⟩
  ·refine bS fun DA nA=>⟨_,rfl,tp,_,rfl,ap.of htp,rfl,_,_,rfl,_,_,rfl,rfl,nA _ _ ?_⟩
   refine Be fun DB nB rB=>⟨_,rfl,rfl,_,rfl,?_⟩
   rw [decide_eq_true (rfl:V.str ("refused" : Str)=V.str "refused")]
   refine bW ⟨_,rfl,_,rfl,.ref na,r,ls,ts,R,us,rfl,hv,tc,by trivial,nc,hr',rk,lR,fun H1 s1=>⟨_,rfl,bW ?_⟩⟩
   exact ⟨_,rfl,.ref na,ls,ts,rfl,hv.mono s1.toE,tc,h24,l1,l10,.inr ⟨hall,fun R' us' r' H2 rk' lR' s2 f2 hr2=>⟨rfl,rB _ _ (k H2 (s1.trans s2))⟩⟩⟩
end
end K11
namespace K11
open PySem L2
set_option maxHeartbeats 8000000
theorem Ce {ls:List (List Nat)}{t:ag} (hl:∀l∈ls,iW l) (h:fe ls t):Wt (lr t) 12 2:=
 .tuple (.cons (.str (lH (hl _ h.b))) (.cons (.str (lH (hl _ h.e))) (.cons (vJ h.fm (by decide) (by decide)) (.cons (vJ h.fg (by decide) (by decide)) (.cons (vJ h.fp (by decide) (by decide)) .nil)))))
theorem Cj {ls:List (List Nat)}{ts:List ag} (hl:∀l∈ls,iW l) (ht:∀t∈ts,fe ls t):Wt (dM ls ts) (1*ls.length+1+(12*ts.length+1+0)+1) 4:=
 .tuple (.cons (.deep (.tuple (qj (m:=1) (k:=0) fun l h=>.str (lH (hl l h)))) (by decide)) (.cons (.tuple (qj fun t h=>Ce hl (ht t h))) .nil))
section
variable {P:Program}{w:World}{K:PySem.W.Frag}{mg:Str→Option Value}{base:Heap}
inductive D5 (K:PySem.W.Frag) (vs:List V) (H:Hp) (Q:VK):Prop
 | mk (a:Addr) (ns:List Int) (h0:vs=[.ref a]) (h1:ax K H a (ns.map V.int)) (h2:ns.length≤63) (h3:∀H',Q (.bl true) H')
def spLaw (K:PySem.W.Frag):Sp:=fun vs H Q _=>D5 K vs H Q
theorem law_start {H:Hp}{a:Addr}{ns:List Int} (hl:ns.length≤63) (_:tN H) (hS:ax K H a (ns.map V.int)):spLaw K [.ref a] H (fun v _=>v=.bl true) fun _ _ _=>False:=
 ⟨a,ns,rfl,hS,hl,fun _=>rfl⟩
theorem law_ok (T:Txt K mg):bD P w K mg base CX0 40 T.law_.f T.law_.d ["_law_script"] (spLaw K):=by
 have G_l_folded:=zH (P:=P) (w:=w) (base:=base) T
 have G_l_box:=D9 (P:=P) (w:=w) (base:=base) T
 have G_l_net_by:=yS (P:=P) (w:=w) (base:=base) T
 have G_l_right:=x6 (P:=P) (w:=w) (base:=base) T
 have G_l_all_told:=vf (P:=P) (w:=w) (base:=base) T
 have G_l_names_by:=qR (P:=P) (w:=w) (base:=base) T
 have G_holding_worths:=j5 (P:=P) (w:=w) (base:=base) T
 have G_gaining_round:=ii (P:=P) (w:=w) (base:=base) T
 refine T.law_.F.ok hZ (fun vs H Q E h=>?_) (fun cdv A outer s H vs Q E hr h=>?_)
 ·obtain ⟨a,ns,rfl,_⟩:=h
  rfl
 ·obtain ⟨a,ns,rfl,hS,hn,k⟩:=h
  refine ⟨_,(@ae _ _ _ _ _ (@aE _ _ (1) _ _ _ _ hZ.nd rfl (Or.inl ia) (@ai _ _ _ _ _ _ _ _ _ _ _ _ _ _ _ _ G_l_folded (hr.mono (by decide)) tL T.l_folded_.m T.l_folded_.F.kp T.l_folded_.B .nil (@ay _) (@aa _ _ _ _ _ (@pw _ 0 _ _ (Or.inl tG) (by rfl) (by decide) (by decide)) (@aa _ _ _ _ _ (@ad _ _ _ _) (@ac _) rfl) rfl) (by decide) (by rfl) (by rfl)) (by rfl) (by first | exact .inl rfl | exact .inr rfl | assumption)) (@ae _ _ _ _ _ (@e8 _ _ _ _ _ _ _ _ PassesOwn.never rfl (@dI _ _ _ _ _ _ my T.b_range (@aa _ _ _ _ _ (@aB _ _ _ _ _ _ _ _ _ (@yJ _ rfl) y6 T.b_max (@yx) (@aa _ _ _ _ _ (@ad _ _ _ _) (@aa _ _ _ _ _ (@aB _ _ _ _ _ _ _ _ _ (@eS _ (K) (by rfl)) zJ T.b_len (@bw) (@aa _ _ _ _ _ (@pw _ 1 _ _ (Or.inl ia) (by rfl) (by decide) (by decide)) (@ac _) rfl) (by decide) (by decide) (by rfl) (by rfl)) (@ac _) rfl) rfl) (by decide) (by decide) (by rfl) (by rfl)) (@ac _) rfl) (by rfl)) (@au _ _ (2) _ hZ.nd rfl (Or.inl uf) (by first | exact .inl rfl | exact .inr rfl | assumption)) (@ae _ _ _ _ _ (@aE _ _ (3) _ _ _ _ hZ.nd rfl (Or.inl kR) (@ai _ _ _ _ _ _ _ _ _ _ _ _ _ _ _ _ G_l_box (hr.mono (by decide)) qU T.l_box_.m T.l_box_.F.kp T.l_box_.B .nil (@ay _) (@aa _ _ _ _ _ (@pw _ 1 _ _ (Or.inl ia) (by rfl) (by decide) (by decide)) (@aa _ _ _ _ _ (@pw _ 2 _ _ (Or.inl uf) (by rfl) (by decide) (by decide)) (@ac _) rfl) rfl) (by decide) (by rfl) (by rfl)) (by rfl) (by first | exact .inl rfl | exact .inr rfl | assumption)) (@ah _ _ _ (@e8 _ _ _ _ _ _ _ _ PassesOwn.never rfl (@dI _ _ _ _ _ _ my T.b_range (@aa _ _ _ _ _ (@ad _ _ _ _) (@ac _) rfl) (by rfl)) (@au _ _ (4) _ hZ.nd rfl (Or.inl vH) (by first | exact .inl rfl | exact .inr rfl | assumption)) (@ae _ _ _ _ _ (@aE _ _ (5) _ _ _ _ hZ.nd rfl (Or.inl hV) (@ai _ _ _ _ _ _ _ _ _ _ _ _ _ _ _ _ G_l_net_by (hr.mono (by decide)) tO T.l_net_by_.m T.l_net_by_.F.kp T.l_net_by_.B .nil (@ay _) (@aa _ _ _ _ _ (@pw _ 3 _ _ (Or.inl kR) (by rfl) (by decide) (by decide)) (@aa _ _ _ _ _ (@ad _ _ _ _) (@aa _ _ _ _ _ (@ad _ _ _ _) (@ac _) rfl) rfl) rfl) (by decide) (by rfl) (by rfl)) (by rfl) (by first | exact .inl rfl | exact .inr rfl | assumption)) (@ae _ _ _ _ _ (@aE _ _ (6) _ _ _ _ hZ.nd rfl (Or.inl lV) (@de _ _ _ _ _ _ _ _ _ (@ug _ _ hr) ul T.b_str (@gZ) (@aa _ _ _ _ _ (@pw _ 5 _ _ (Or.inl hV) (by rfl) (by decide) (by decide)) (@ac _) rfl) (by decide) (by decide) (by rfl) (by rfl)) (by rfl) (by first | exact .inl rfl | exact .inr rfl | assumption)) (@ah _ _ _ (@e8 _ _ _ _ _ _ _ _ PassesOwn.never rfl (@dI _ _ _ _ _ _ my T.b_range (@aa _ _ _ _ _ (@ad _ _ _ _) (@ac _) rfl) (by rfl)) (@au _ _ (7) _ hZ.nd rfl (Or.inl vd) (by first | exact .inl rfl | exact .inr rfl | assumption)) (@ae _ _ _ _ _ (@aE _ _ (8) _ _ _ _ hZ.nd rfl (Or.inl kF) (@ai _ _ _ _ _ _ _ _ _ _ _ _ _ _ _ _ G_l_all_told (hr.mono (by decide)) rV T.l_all_told_.m T.l_all_told_.F.kp T.l_all_told_.B .nil (@ay _) (@aa _ _ _ _ _ (@dP _ _ _ _) (@aa _ _ _ _ _ (@pw _ 5 _ _ (Or.inl hV) (by rfl) (by decide) (by decide)) (@aa _ _ _ _ _ (@db _ _ _) (@aa _ _ _ _ _ (@db _ _ _) (@ac _) rfl) rfl) rfl) rfl) (by decide) (by rfl) (by rfl)) (by rfl) (by first | exact .inl rfl | exact .inr rfl | assumption)) (@ae _ _ _ _ _ (@bH _ _ _ _ _ _ _ _ (@PW.pt _ _ _ (@iB _ _ _ _ _ _ _ (@mQ _ _ _ _ (@dn _ _ _ (@ai _ _ _ _ _ _ _ _ _ _ _ _ _ _ _ _ G_l_right (hr.mono (by decide)) uV T.l_right_.m T.l_right_.F.kp T.l_right_.B .nil (@ay _) (@aa _ _ _ _ _ (@pw _ 5 _ _ (Or.inl hV) (by rfl) (by decide) (by decide)) (@aa _ _ _ _ _ (@pw _ 8 _ _ (Or.inl kF) (by rfl) (by decide) (by decide)) (@ac _) rfl) rfl) (by decide) (by rfl) (by rfl)) (by intro _;rfl))) (@iF _ _ _ _ (@aK _ _ _ _ _ _ _ _ (@qb _) (@de _ _ _ _ _ _ _ _ _ (@ug _ _ hr) ul T.b_str (@gZ) (@aa _ _ _ _ _ (@pw _ 5 _ _ (Or.inl hV) (by rfl) (by decide) (by decide)) (@ac _) rfl) (by decide) (by decide) (by rfl) (by rfl)) (@pw _ 6 _ _ (Or.inl lV) (by rfl) (by decide) (by decide)) (@aG _ _ (by decide) (by decide)))))) (@ah _ _ _ (@aL _ _ _ _ (@jy _ _ _ _))) (@bd _)) (@ah _ _ _ (@fM _ _ _ _ (@fQ _ (K) _ _ _ _ _ _ _ _ _ _ _ PySem.F.plainAttrs_list PySem.F.slot_list_append PySem.F.type_list_append (@iy _) (@aq _ _ _ _ _ _ _ (@aR _ (K) (by rfl)) (@pw _ 8 _ _ (Or.inl kF) (by rfl) (by decide) (by decide)) (@ad _ _ _ _) (fun _ _=>rfl)) (@aa _ _ _ _ _ (@ad _ _ _ _) (@ac _) rfl) (by rfl) (by rfl) (by rfl) (by rfl) (by rfl) (by rfl)) (by rfl))))) (by intro _;rfl))))) (by intro _;rfl)))) (by intro _;rfl)) (@ae _ _ _ _ _ (@aE _ _ (9) _ _ _ _ hZ.nd rfl (Or.inl j0) (@aF _ _ _ _ _ (@aa _ _ _ _ _ (@aF _ _ _ _ _ (@aa _ _ _ _ _ (@aq _ _ _ _ _ _ _ (@aR _ (K) (by rfl)) (@ai _ _ _ _ _ _ _ _ _ _ _ _ _ _ _ _ G_l_names_by (hr.mono (by decide)) qZ T.l_names_by_.m T.l_names_by_.F.kp T.l_names_by_.B .nil (@ay _) (@aa _ _ _ _ _ (@ai _ _ _ _ _ _ _ _ _ _ _ _ _ _ _ _ G_l_box (hr.mono (by decide)) qU T.l_box_.m T.l_box_.F.kp T.l_box_.B .nil (@ay _) (@aa _ _ _ _ _ (@pw _ 1 _ _ (Or.inl ia) (by rfl) (by decide) (by decide)) (@aa _ _ _ _ _ (@ad _ _ _ _) (@ac _) rfl) rfl) (by decide) (by rfl) (by rfl)) (@aa _ _ _ _ _ (@ad _ _ _ _) (@ac _) rfl) rfl) (by decide) (by rfl) (by rfl)) (@ad _ _ _ _) (fun _ _=>rfl)) (@ac _) rfl)) (@aa _ _ _ _ _ (@aF _ _ _ _ _ (@ac _)) (@ac _) rfl) rfl)) (by rfl) (by first | exact .inl rfl | exact .inr rfl | assumption)) (@ah _ _ _ (@aL _ _ _ _ (@kW _ _ _ _ _ _ _ (@dj _ _ _ _ _ _ _ _ (@y9 _ hr.units) (@ai _ _ _ _ _ _ _ _ _ _ _ _ _ _ _ _ G_holding_worths (hr.mono (by decide)) ow T.holding_worths_.m T.holding_worths_.F.kp T.holding_worths_.B .nil (@FN _ _ _) (@aa _ _ _ _ _ (@pw _ 9 _ _ (Or.inl j0) (by rfl) (by decide) (by decide)) (@ac _) rfl) (by decide) (by rfl) (by rfl)) (@bO _ _ _ _ (@aa _ _ _ _ _ (@aF _ _ _ _ _ (@aa _ _ _ _ _ (@ad _ _ _ _) (@aa _ _ _ _ _ (@ad _ _ _ _) (@ac _) rfl) rfl)) (@ac _) rfl)) (@aG _ _ (by decide) (by decide))) (@k4 _ _ _ _ _ (@dj _ _ _ _ _ _ _ _ (@su _) (@ai _ _ _ _ _ _ _ _ _ _ _ _ _ _ _ _ G_gaining_round (hr.mono (by decide)) oY T.gaining_round_.m T.gaining_round_.F.kp T.gaining_round_.B .nil (@ay _) (@aa _ _ _ _ _ (@pw _ 9 _ _ (Or.inl j0) (by rfl) (by decide) (by decide)) (@ac _) rfl) (by decide) (by rfl) (by rfl)) (@db _ _ _) (@aG _ _ (by decide) (by decide)))))))))),?_⟩
  refine bS fun DA nA=>?_
  refine ⟨_,rfl,a,ns,4,rfl,hS,hn,by decide,by decide,fun p ms H1 hp s1 hp1 hm4=>?_⟩
  refine nA _ _ ?_
  have hmx:0≤(if ((ms.map V.int).length:Int) > 2 then ((ms.map V.int).length:Int) else 2)∧(if ((ms.map V.int).length:Int) > 2 then ((ms.map V.int).length:Int) else 2)≤4:=by
   rw [List.length_map]
   split <;> trivial
  refine bS fun DX nX=>?_
  refine ⟨_,rfl,p,_,rfl,.inl (ax.of hp1),_,_,rfl,_,rfl,by trivial,by trivial,?_⟩
  generalize (if ((ms.map V.int).length:Int) > 2 then ((ms.map V.int).length:Int) else 2)=mx at hmx
  refine iw (fun i σ H'=>Hl fun v2 v3 v4 v5 v6 v7 v8 v9=>σ=[some (.ref a),some (.ref p),v2,v3,v4,v5,v6,v7,v8,v9]∧H' p=some (.lst (ms.map V.int))) ⟨_,_,_,_,_,_,_,_,rfl,hp1⟩ ?_ ?_
  case refine_2=>
   rintro σ H2 ⟨v2,v3,v4,v5,v6,v7,v8,v9,rfl,hp2⟩
   refine nX _ _ ?_
   refine bI fun Q9 n9=>⟨_,rfl,p,ms,_,rfl,ax.of hp2,by decide,by decide,fun b H3 hb s3 B3=>⟨b,1,0,rfl,B3,by decide,by decide,by decide,by decide,fun q ls t' H4 s4 hq ll nd nc B4 _ _=>?_⟩⟩
   obtain ⟨l,rfl⟩:∃l,ls=[l]:=jV (P:=fun x=>∃l,x=[l]) (fun a=>⟨a,rfl⟩) _ ll
   refine ⟨q,_,_,_,rfl,rfl,ap.of hq,rfl,(by show 1≤10000;decide),fun t1 J1 n1=>⟨Nat.zero_le _,fun t2 J2 n2=>⟨(by show 2≤10000;decide),fun al J3 n3=>n9 _ _ ?_⟩⟩⟩
   have iA:∀{J:Hp},ak J3 J→bc ED J (.ref al) (dM [l] []):=fun {J} sJ=>.tup (sJ _ _ n3.at') (.cons (.tup (sJ _ _ (n3.sm _ _ (n2.sm _ _ n1.at'))) (.cons (.str _) .nil)) (.cons (.tup (sJ _ _ (n3.sm _ _ n2.at')) .nil) .nil))
   refine ⟨_,rfl,.ref al,[l],[],rfl,iA (ak.refl _),(fun t ht=>by cases ht),by decide,Nat.le_refl 1,(by show 1≤10;decide),.inl ⟨0,Nat.zero_lt_one,rfl,fun m r xs H5 hm em s5 fr5 hr5 lx vx gx=>?_⟩⟩
   obtain rfl:m=0:=by
    have:m<1:=hm
    trivial
   obtain ⟨x,rfl⟩:∃x,xs=[x]:=jV (P:=fun y=>∃l,y=[l]) (fun a=>⟨a,rfl⟩) _ lx
   obtain ⟨o,eo,ho⟩:=vx 0 l rfl
   obtain rfl:x=.ref o:=Option.some.inj eo
   have ho:H5 o=some (fr (1,1)):=ho
   refine ⟨(by show 2≤10000;decide),fun u1 H6 m6=>⟨(by show 1≤10000;decide),fun u2 H7 m7=>?_⟩⟩
   obtain ⟨n11,w11⟩:∃n,Wt (.list [gl (1,1)]) n 2:=⟨_,.list (.cons (.tuple (.cons (.int (Sz.mono (m:=1) (by show (1:Int).natAbs<2 ^ 1;decide) (by decide))) (.cons (.int (Sz.mono (m:=1) (by show (1:Int).natAbs<2 ^ 1;decide) (by decide))) .nil))) .nil)⟩
   have s67:=m6.sm.trans m7.sm
   refine ⟨.list [gl (1,1)],.list [gl (1,1)],fun _=>False,fun _=>False,_,_,2,2,.lst (s67 _ _ hr5) id (.cons (lU (p:=(1,1)) (s67 _ _ ho)).any .nil),.lst m7.at' id (.cons (lU (p:=(1,1)) (m7.sm _ _ m6.at')).any .nil),w11,w11,by decide,_,rfl,?_⟩
   rw [show PyData.eqv (.list [gl (1,1)]) (.list [gl (1,1)])=true by simp [PyData.eqv,PyData.eqvAll]]
   refine bW ⟨_,rfl,.ref al,[l],[],rfl,iA (s5.trans s67),(fun t ht=>by cases ht),by decide,Nat.le_refl 1,(by show 1≤10;decide),.inl ⟨0,Nat.zero_lt_one,rfl,fun H8 s8=>⟨rfl,k _⟩⟩⟩
  rintro i σ H2 hi ⟨v2,v3,v4,v5,v6,v7,v8,v9,rfl,hp2⟩
  refine oj (t:=ik _ _) fun DB nB=>?_
  refine bS fun DC nC=>?_
  refine ⟨_,rfl,_,rfl,p,ms,_,rfl,ax.of hp2,by trivial,by trivial,fun b H3 hb s3 B3=>?_⟩
  refine nC _ _ ?_
  have npb:¬p=b:=fun z=>by rw [z,hb] at hp2;cases hp2
  have hp3:=s3 _ _ hp2
  refine ⟨2,rfl,by decide,by decide,iw (fun i' σ H'=>Gr fun (v4 v5 v6 v7 v8 v9:Option V) (t':Int)=>σ=[some (.ref a),some (.ref p),some (.int (0+(i:Int))),some (.ref b),v4,v5,v6,v7,v8,v9]∧Bx H' b t'∧0≤t'∧t'≤2000*i'∧ba (Eb b) H3 H') ⟨_,_,_,_,_,_,0,rfl,B3,by trivial,by trivial,ba.refl _⟩ ?_ ?_⟩
  case refine_2=>
   rintro σ H' ⟨v4,v5,v6,v7,v8,v9,t',rfl,_,_,_,sE⟩
   exact nB _ _ ⟨_,_,_,_,_,_,_,_,rfl,sE.old p _ npb hp3⟩
  rintro i' σ H4 hi' ⟨v4,v5,v6,v7,v8,v9,t4,rfl,B4,h40,h41,sE4⟩
  refine oj (t:=ik _ _) fun DD nD=>?_
  refine bI fun Q5 nA5=>⟨_,rfl,b,5,8,t4,rfl,B4,by trivial,by trivial,by decide,by decide,by decide,by decide,fun nv ls ts t5 H5 s5 iN l2 l10 nd nc l1 l24 tc B5 h5a h5b=>nA5 _ _ ?_⟩
  have wt:=(Cj nc tc).deep (show 4≤20 by decide)
  have sh:∀{J:Hp},ak H5 J→∃na,nv=.ref na∧bc ED J (.ref na) (dM ls ts):=fun {J} sJ=>by
   obtain ⟨na,pa,ta,ys,rfl,_⟩:=dQ iN
   exact ⟨na,rfl,iN.sm sJ⟩
  obtain ⟨na,rfl,iN0⟩:=sh (ak.refl _)
  refine bI fun Q6 nA6=>⟨_,rfl,na,_,ED,_,_,rfl,iN,wt,by trivial,by decide,nA6 _ _ ?_⟩
  refine ⟨2,rfl,by decide,by decide,iw (fun j σ H'=>fJ fun (v7 v8 v9:Option V)=>σ=[some (.ref a),some (.ref p),some (.int (0+(i:Int))),some (.ref b),some (.int (0+(i':Int))),some (.ref na),some (.str (PyData.shown (dM ls ts))),v7,v8,v9]∧ak H5 H') ⟨_,_,_,rfl,ak.refl _⟩ ?_ ?_⟩
  case refine_2=>
   rintro σ H' ⟨v7,v8,v9,rfl,sm⟩
   exact nD _ _ ⟨_,_,_,_,_,_,t5,rfl,B5.same sm,by trivial,by trivial,(sE4.trans s5).trans sm.toE⟩
  rintro j σ H6 hj ⟨v7,v8,v9,rfl,sm6⟩
  refine oj (t:=ik _ _) fun DE nE=>?_
  refine bI fun Q8 n8=>?_
  have rest:∀(tp r:Addr) (wd:Str) (ys:List V) (H7:Hp),ak H6 H7→H6 r=none→H7 tp=some (.tup [.str wd,.ref r])→H7 r=some (.lst ys)→ys.length≤10→
   ((bo fun (m:Nat) (xs:List V)=>m<ls.length∧(aO ts (m+1)).lf=none∧H7 tp=some (.tup [.str "told",.ref r])∧H7 r=some (.lst xs)∧xs.length=ls.length∧(∀(j:Nat) l,ls[j]?=some l→∃o,xs[j]?=some (.ref o)∧H7 o=some (fr ((aO ts m).ω l))))∨
    ((∀m,m<ls.length→(aO ts (m+1)).lf≠none)∧bo fun (R:List Nat) (us:List ag)=>fZ ts R us∧R.length≤10∧H7 tp=some (.tup [.str "refused",.ref r])∧H7 r=some (.lst (bf R))))→Q8 (.ref tp) H7:=by
   intro tp r wd ys H7 s7 f7 htp hr7 ly hh
   refine n8 _ _ ?_
   have sm7:=sm6.trans s7
   refine bS fun DF nF=>?_
   refine ⟨_,rfl,_,rfl,.ref na,tp,r,ls,ts,rfl,iN.sm sm7,tc,l24,by trivial,l10,nd,nc,hh,fun H8 s8=>⟨_,rfl,bC ?_⟩⟩
   have sm8:=sm7.trans s8
   refine ⟨_,rfl,na,_,ED,_,_,rfl,iN.sm sm8,wt,by trivial,by decide,_,rfl,rfl,_,rfl,?_⟩
   refine kz (nF _ _ ?_)
   have f5:H5 r=none:=sm6.free f7
   refine ⟨_,rfl,tp,_,_,_,rfl,rfl,ap.of (s8 _ _ htp),rfl,.inl ⟨rfl,_,ax.of (s8 _ _ hr7)⟩,r,_,_,rfl,rfl,s8 _ _ hr7,by trivial,fun H9 c9=>nE _ _ ⟨_,_,_,rfl,fun a o h=>c9.ol a o (fun z=>by rw [z,f5] at h;cases h) (sm8 _ _ h)⟩⟩
  refine ⟨_,rfl,.ref na,ls,ts,rfl,iN.sm sm6,tc,l24,by trivial,l10,?_⟩
  by_cases hm:∃m,m<ls.length∧(aO ts (m+1)).lf=none
  ·obtain ⟨mx,hmx',emx⟩:=hm
   exact .inl ⟨mx,hmx',emx,fun m r tp xs H7 hm em s7 f7 htp hr7 lx vx gx=>rest tp r _ xs H7 s7 f7 htp hr7 (by trivial) (.inl ⟨m,xs,hm,em,htp,hr7,lx,vx⟩)⟩
  ·exact .inr ⟨fun m h e=>hm ⟨m,h,e⟩,fun R us r tp H7 rk lR s7 f7 htp hr7=>rest tp r _ _ H7 s7 f7 htp hr7 (by simp;exact lR) (.inr ⟨fun m h e=>hm ⟨m,h,e⟩,R,us,rk,lR,htp,hr7⟩)⟩
end
end K11
namespace K11
open PySem L2
set_option maxHeartbeats 0 in
theorem txt_of {K:PySem.W.Frag}{h:Heap}{mg:Str→Option Value} (y:obs K=due) (X:K.In h) (G:h.Ns mainGlobals mg):∃T:Txt K mg,∀(s:Shared) (u:Value),BindsTo s T.law_.d ⟨[u],[]⟩ [("_law_script",u)]:=by
 have e:∀i,(obs K).1.getD i none=due.1.getD i none:=fun i=>by rw [y]
 have b:∀i,(obs K).2.getD i true=due.2.getD i true:=fun i=>by rw [y]
 refine ⟨{
  b_ValueError:=PySem.W.mg_none_of X G (b7 (b 65)),
  b_abs:=PySem.W.mg_none_of X G (b7 (b 66)),
  b_all:=PySem.W.mg_none_of X G (b7 (b 67)),
  b_any:=PySem.W.mg_none_of X G (b7 (b 68)),
  b_bool:=PySem.W.mg_none_of X G (b7 (b 69)),
  b_dict:=PySem.W.mg_none_of X G (b7 (b 70)),
  b_divmod:=PySem.W.mg_none_of X G (b7 (b 71)),
  b_enumerate:=PySem.W.mg_none_of X G (b7 (b 72)),
  b_int:=PySem.W.mg_none_of X G (b7 (b 73)),
  b_isinstance:=PySem.W.mg_none_of X G (b7 (b 74)),
  b_len:=PySem.W.mg_none_of X G (b7 (b 75)),
  b_list:=PySem.W.mg_none_of X G (b7 (b 76)),
  b_max:=PySem.W.mg_none_of X G (b7 (b 77)),
  b_range:=PySem.W.mg_none_of X G (b7 (b 78)),
  b_set:=PySem.W.mg_none_of X G (b7 (b 79)),
  b_str:=PySem.W.mg_none_of X G (b7 (b 80)),
  b_tuple:=PySem.W.mg_none_of X G (b7 (b 81)),
  b_zip:=PySem.W.mg_none_of X G (b7 (b 82)),
  common_divisor_:=⟨_,_,PySem.W.mg_of X G (bG (e 0)),aw (e 0),(aw (e 0)).binds (ps:=["n", "d"]) fun _ _ _ _ _ _=>cJ (fun _ _=>rfl)⟩,
  fraction_:=⟨_,_,PySem.W.mg_of X G (bG (e 1)),aw (e 1),(aw (e 1)).binds (ps:=["n", "d"]) fun _ _ _ _ _ _=>cJ (fun _ _=>rfl)⟩,
  times_:=⟨_,_,PySem.W.mg_of X G (bG (e 2)),aw (e 2),(aw (e 2)).binds (ps:=["one", "other"]) fun _ _ _ _ _ _=>cJ (fun _ _=>rfl)⟩,
  compared_:=⟨_,_,PySem.W.mg_of X G (bG (e 3)),aw (e 3),(aw (e 3)).binds (ps:=["one", "other"]) fun _ _ _ _ _ _=>cJ (fun _ _=>rfl)⟩,
  is_shut_:=⟨_,_,PySem.W.mg_of X G (bG (e 4)),aw (e 4),(aw (e 4)).binds (ps:=["tie"]) fun _ _ _ _ _ _=>jV (fun _=>rfl)⟩,
  lift_once_:=⟨_,_,PySem.W.mg_of X G (bG (e 5)),aw (e 5),(aw (e 5)).binds (ps:=["net", "worths", "onward"]) fun _ _ _ _ _ _=>tM (fun _ _ _=>rfl)⟩,
  round_ahead_:=⟨_,_,PySem.W.mg_of X G (bG (e 6)),aw (e 6),(aw (e 6)).binds (ps:=["net", "onward", "place"]) fun _ _ _ _ _ _=>tM (fun _ _ _=>rfl)⟩,
  gaining_round_:=⟨_,_,PySem.W.mg_of X G (bG (e 7)),aw (e 7),(aw (e 7)).binds (ps:=["net"]) fun _ _ _ _ _ _=>jV (fun _=>rfl)⟩,
  lift_all_:=⟨_,_,PySem.W.mg_of X G (bG (e 8)),aw (e 8),(aw (e 8)).binds (ps:=["net", "worths"]) fun _ _ _ _ _ _=>cJ (fun _ _=>rfl)⟩,
  holding_worths_:=⟨_,_,PySem.W.mg_of X G (bG (e 9)),aw (e 9),(aw (e 9)).binds (ps:=["net"]) fun _ _ _ _ _ _=>jV (fun _=>rfl)⟩,
  greatest_gain_:=⟨_,_,PySem.W.mg_of X G (bG (e 10)),aw (e 10),(aw (e 10)).binds (ps:=["net", "begin", "end"]) fun _ _ _ _ _ _=>tM (fun _ _ _=>rfl)⟩,
  best_way_:=⟨_,_,PySem.W.mg_of X G (bG (e 11)),aw (e 11),(aw (e 11)).binds (ps:=["net", "begin", "end"]) fun _ _ _ _ _ _=>tM (fun _ _ _=>rfl)⟩,
  l_box_:=⟨_,_,PySem.W.mg_of X G (bG (e 12)),aw (e 12),(aw (e 12)).binds (ps:=["_law_script", "_law_k"]) fun _ _ _ _ _ _=>cJ (fun _ _=>rfl)⟩,
  l_take_:=⟨_,_,PySem.W.mg_of X G (bG (e 13)),aw (e 13),(aw (e 13)).binds (ps:=["_law_box_here", "_law_many"]) fun _ _ _ _ _ _=>cJ (fun _ _=>rfl)⟩,
  l_folded_:=⟨_,_,PySem.W.mg_of X G (bG (e 14)),aw (e 14),(aw (e 14)).binds (ps:=["_law_script", "_law_many"]) fun _ _ _ _ _ _=>cJ (fun _ _=>rfl)⟩,
  l_frac_:=⟨_,_,PySem.W.mg_of X G (bG (e 15)),aw (e 15),(aw (e 15)).binds (ps:=["_law_n", "_law_d"]) fun _ _ _ _ _ _=>cJ (fun _ _=>rfl)⟩,
  l_product_:=⟨_,_,PySem.W.mg_of X G (bG (e 16)),aw (e 16),(aw (e 16)).binds (ps:=["_law_one", "_law_other"]) fun _ _ _ _ _ _=>cJ (fun _ _=>rfl)⟩,
  l_over_:=⟨_,_,PySem.W.mg_of X G (bG (e 17)),aw (e 17),(aw (e 17)).binds (ps:=["_law_one", "_law_other"]) fun _ _ _ _ _ _=>cJ (fun _ _=>rfl)⟩,
  l_above_:=⟨_,_,PySem.W.mg_of X G (bG (e 18)),aw (e 18),(aw (e 18)).binds (ps:=["_law_one", "_law_other"]) fun _ _ _ _ _ _=>cJ (fun _ _=>rfl)⟩,
  l_names_by_:=⟨_,_,PySem.W.mg_of X G (bG (e 19)),aw (e 19),(aw (e 19)).binds (ps:=["_law_box_here", "_law_many"]) fun _ _ _ _ _ _=>cJ (fun _ _=>rfl)⟩,
  l_any_gain_:=⟨_,_,PySem.W.mg_of X G (bG (e 20)),aw (e 20),(aw (e 20)).binds (ps:=["_law_box_here"]) fun _ _ _ _ _ _=>jV (fun _=>rfl)⟩,
  l_any_much_:=⟨_,_,PySem.W.mg_of X G (bG (e 21)),aw (e 21),(aw (e 21)).binds (ps:=["_law_box_here"]) fun _ _ _ _ _ _=>jV (fun _=>rfl)⟩,
  l_any_price_:=⟨_,_,PySem.W.mg_of X G (bG (e 22)),aw (e 22),(aw (e 22)).binds (ps:=["_law_box_here"]) fun _ _ _ _ _ _=>jV (fun _=>rfl)⟩,
  l_planted_:=⟨_,_,PySem.W.mg_of X G (bG (e 23)),aw (e 23),(aw (e 23)).binds (ps:=["_law_box_here", "_law_places"]) fun _ _ _ _ _ _=>cJ (fun _ _=>rfl)⟩,
  l_net_by_:=⟨_,_,PySem.W.mg_of X G (bG (e 24)),aw (e 24),(aw (e 24)).binds (ps:=["_law_box_here", "_law_most_places", "_law_most_ties"]) fun _ _ _ _ _ _=>tM (fun _ _ _=>rfl)⟩,
  l_opened_:=⟨_,_,PySem.W.mg_of X G (bG (e 25)),aw (e 25),(aw (e 25)).binds (ps:=["_law_net"]) fun _ _ _ _ _ _=>jV (fun _=>rfl)⟩,
  l_gain_of_:=⟨_,_,PySem.W.mg_of X G (bG (e 26)),aw (e 26),(aw (e 26)).binds (ps:=["_law_net", "_law_way"]) fun _ _ _ _ _ _=>cJ (fun _ _=>rfl)⟩,
  l_all_ways_:=⟨_,_,PySem.W.mg_of X G (bG (e 27)),aw (e 27),(aw (e 27)).binds (ps:=["_law_net", "_law_begin"]) fun _ _ _ _ _ _=>cJ (fun _ _=>rfl)⟩,
  l_is_round_:=⟨_,_,PySem.W.mg_of X G (bG (e 28)),aw (e 28),(aw (e 28)).binds (ps:=["_law_net", "_law_thing"]) fun _ _ _ _ _ _=>cJ (fun _ _=>rfl)⟩,
  l_all_told_:=⟨_,_,PySem.W.mg_of X G (bG (e 29)),aw (e 29),(aw (e 29)).binds (ps:=["_law_which", "_law_net", "_law_begin", "_law_end"]) fun _ _ _ _ _ _=>GH (fun _ _ _ _=>rfl)⟩,
  l_same_:=⟨_,_,PySem.W.mg_of X G (bG (e 30)),aw (e 30),(aw (e 30)).binds (ps:=["_law_found", "_law_due"]) fun _ _ _ _ _ _=>cJ (fun _ _=>rfl)⟩,
  l_due_of_:=⟨_,_,PySem.W.mg_of X G (bG (e 31)),aw (e 31),(aw (e 31)).binds (ps:=["_law_net", "_law_place"]) fun _ _ _ _ _ _=>cJ (fun _ _=>rfl)⟩,
  l_grown_:=⟨_,_,PySem.W.mg_of X G (bG (e 32)),aw (e 32),(aw (e 32)).binds (ps:=["_law_net"]) fun _ _ _ _ _ _=>jV (fun _=>rfl)⟩,
  l_right_:=⟨_,_,PySem.W.mg_of X G (bG (e 33)),aw (e 33),(aw (e 33)).binds (ps:=["_law_net", "_law_told"]) fun _ _ _ _ _ _=>cJ (fun _ _=>rfl)⟩,
  law_:=⟨_,_,PySem.W.mg_of X G (bG (e 34)),aw (e 34),(aw (e 34)).binds (ps:=["_law_script"]) fun _ _ _ _ _ _=>jV (fun _=>rfl)⟩,
  f_Gaining__init:=_,d_Gaining__init:=_,F_Gaining__init:=aw (e 35),B_Gaining__init:=(aw (e 35)).binds (ps:=["self", "ties"]) fun _ _ _ _ _ _=>cJ (fun _ _=>rfl),
  f_NotSoMuch__init:=_,d_NotSoMuch__init:=_,F_NotSoMuch__init:=aw (e 36),B_NotSoMuch__init:=(aw (e 36)).binds (ps:=["self", "most"]) fun _ _ _ _ _ _=>cJ (fun _ _=>rfl),
  f_Short__init:=_,d_Short__init:=_,F_Short__init:=aw (e 37),B_Short__init:=(aw (e 37)).binds (ps:=["self", "share"]) fun _ _ _ _ _ _=>cJ (fun _ _=>rfl),
  f_Lacking__init:=_,d_Lacking__init:=_,F_Lacking__init:=aw (e 38),B_Lacking__init:=(aw (e 38)).binds (ps:=["self", "place"]) fun _ _ _ _ _ _=>cJ (fun _ _=>rfl),
  f_BadRow__init:=_,d_BadRow__init:=_,F_BadRow__init:=aw (e 39),B_BadRow__init:=(aw (e 39)).binds (ps:=["self", "row"]) fun _ _ _ _ _ _=>cJ (fun _ _=>rfl),
  f_BadSheet__init:=_,d_BadSheet__init:=_,F_BadSheet__init:=aw (e 40),B_BadSheet__init:=(aw (e 40)).binds (ps:=["self", "row"]) fun _ _ _ _ _ _=>cJ (fun _ _=>rfl),
  x_GainError:=_,m_GainError:=PySem.W.mg_of X G (dA (b 0)),k_GainError:=(b 15),xb_GainError:=(b 16),
  x_BadNumber:=_,m_BadNumber:=PySem.W.mg_of X G (dA (b 1)),k_BadNumber:=(b 17),q_BadNumber:=(b 18),
  x_Taken:=_,m_Taken:=PySem.W.mg_of X G (dA (b 2)),k_Taken:=(b 19),q_Taken:=(b 20),
  x_NoPlace:=_,m_NoPlace:=PySem.W.mg_of X G (dA (b 3)),k_NoPlace:=(b 21),q_NoPlace:=(b 22),
  x_NoTie:=_,m_NoTie:=PySem.W.mg_of X G (dA (b 4)),k_NoTie:=(b 23),q_NoTie:=(b 24),
  x_AsItIs:=_,m_AsItIs:=PySem.W.mg_of X G (dA (b 5)),k_AsItIs:=(b 25),q_AsItIs:=(b 26),
  x_NoEnds:=_,m_NoEnds:=PySem.W.mg_of X G (dA (b 6)),k_NoEnds:=(b 27),q_NoEnds:=(b 28),
  x_Over:=_,m_Over:=PySem.W.mg_of X G (dA (b 7)),k_Over:=(b 29),q_Over:=(b 30),
  x_TooMuch:=_,m_TooMuch:=PySem.W.mg_of X G (dA (b 8)),k_TooMuch:=(b 31),q_TooMuch:=(b 32),
  x_Gaining:=_,m_Gaining:=PySem.W.mg_of X G (dA (b 9)),k_Gaining:=(b 33),fn_Gaining:=(b 34),st_Gaining:=(b 35),fd_Gaining:=(b 36),q_Gaining:=(b 37),
  x_NotSoMuch:=_,m_NotSoMuch:=PySem.W.mg_of X G (dA (b 10)),k_NotSoMuch:=(b 38),fn_NotSoMuch:=(b 39),st_NotSoMuch:=(b 40),fd_NotSoMuch:=(b 41),q_NotSoMuch:=(b 42),
  x_Short:=_,m_Short:=PySem.W.mg_of X G (dA (b 11)),k_Short:=(b 43),fn_Short:=(b 44),st_Short:=(b 45),fd_Short:=(b 46),q_Short:=(b 47),
  x_Lacking:=_,m_Lacking:=PySem.W.mg_of X G (dA (b 12)),k_Lacking:=(b 48),fn_Lacking:=(b 49),st_Lacking:=(b 50),fd_Lacking:=(b 51),q_Lacking:=(b 52),
  x_BadRow:=_,m_BadRow:=PySem.W.mg_of X G (dA (b 13)),k_BadRow:=(b 53),fn_BadRow:=(b 54),st_BadRow:=(b 55),fd_BadRow:=(b 56),q_BadRow:=(b 57),
  x_BadSheet:=_,m_BadSheet:=PySem.W.mg_of X G (dA (b 14)),k_BadSheet:=(b 58),fn_BadSheet:=(b 59),st_BadSheet:=(b 60),fd_BadSheet:=(b 61),q_BadSheet:=(b 62),
  em_Gaining_GainError:=(Cu (b 63)),
  kin:=(b 64) },fun s u=>?_⟩
 obtain ⟨_,_,_,_,_,_,_,_,_,z,_⟩:=(aw (e 34):kH K "law" "law" bY _ _).ex
 show BindsTo s (gN K (PySem.W.nsIn K mainGlobals "law")) _ _
 rw [z]
 exact .of_eq rfl
end K11
open PySem PySem.W PyProof.Rows
set_option maxRecDepth 100000 in
set_option maxHeartbeats 0 in
theorem PySem.Challenge.cw_gainroads_k11_worths_that_hold_holds : PySem.Challenge.rw_gainroads_k11_worths_that_hold.Holds := by
 w_on;o_law
 refine holds_openX (q:=K11.qv) (loose:=[]) (Xt:=L2.Xt) (XP:=XL K11.qv []) (Yf:=L2.Yf) (Ya:=fun _=>K11.due) (N:=9052) (L2.left_tree rfl rfl (fun _=>rfl) L2.left) (fun s e=>xl_of s (Bool.and_eq_true_iff.mp e).1) XL.keeps (by rfl) (by rfl) (by rfl) (fun s e=>recFacts_of (Bool.and_eq_true_iff.mp e).2) (by rfl) (by first | assumption | decide +kernel) (by decide +kernel) ⟨rfl,rfl,rfl,rfl,rfl,by decide +kernel⟩ ?hw ?hc
 case hw=>w_witness2
 refine L2.walk_ofY (obs:=K11.obs) (due:=K11.due) (l:=PySem.Challenge.rw_gainroads_k11_worths_that_hold) (n:=63) (k:=40) (x := "_law_script") (CX:=L2.CX0) (sp:=K11.spLaw) rfl (by decide) rfl ⟨rfl,by decide,by decide,rfl⟩ ?F ?S ?C
 case F=>
  intro K w mg fa h y KX G hmg
  obtain ⟨T,hb⟩:=K11.txt_of y KX G
  have e0:=hmg.symm.trans T.law_.m
  cases e0
  exact ⟨T.law_.d,hb,fun base kb nb=>K11.law_ok T⟩
 case S=>exact fun K H a ns hl hO hS=>K11.law_start hl hO hS
 case C=>exact fun _ _ _ _ z=>z
