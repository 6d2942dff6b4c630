import PyProof.Rows.All
import Wide.All
import OpenK.AllK
import Wide.FinOn
import Lean
import PyProof.EqAt
import PyProof.EqKinds
import PyProof.TupleCall
import PyProof.CompFree
import PyProof.CompMap
import KE.LcSums
import PyProof.ZipIter
import PyProof.Draws
import KE.KRevSl
import KE.KListMore
import PyProof.Rows.StrJoin2
import PyProof.Rows.StrFin3
import PyProof.StrOps2
import PyProof.NeData
import PyProof.P3Eq
import PyProof.StrLawsRepr
import PyProof.ReprLen
import PyProof.Rows.IntBool
import PyProof.SliceStr2
import PyProof.P3In
import PyProof.Rows.StrLen
import KE.KStrOpen
import PyProof.FitsInt
import PyProof.Rows.ReprOcc
import PyProof.ListRange
import PyProof.AttrMissHeap
import PyProof.FactsAll.zip
import PyProof.FactsAll.tuple_3
import KE.KDictOf
import PyProof.SeqRoads2
import PyProof.DictCompW
import PyProof.Rows.StrInSeq3
import OpenK.KOwn
import KE.KIsAll
import KE.KTryMore
import PyProof.StationsW
import PyProof.RulesAs
import PyProof.NsDelKeeps
import KE.KDictSum
import KE.KIntText
import PyProof.StrCalls2
import PyProof.Rows.StrItems
import PyProof.DictUpdate
import PySem.Challenge.RW_gainroads_k39_twins_of_roads
set_option Elab.async false
set_option linter.all false
set_option maxRecDepth 100000
local macro_rules | `(tactic| nofun)=>`(tactic| decide +kernel)
local macro_rules | `(⟨$xs,*⟩)=>do
 let es:=xs.getElems
 unless es.any (fun e=>match e with | `(())=>true | _=>false) do Lean.Macro.throwUnsupported
 let mut o:=#[]
 for e in es do
  match e with
  | `(())=>o:=(o.push (←`(_))).push (←`(rfl))
  | _=>o:=o.push e
 `(⟨$o,*⟩)
set_option genSizeOf false
set_option genInjectivity false
namespace L2
inductive bw {α0 α1:Type} (p:α0→α1→Prop):Prop
 | mk (a0:α0) (a1:α1) (h:p a0 a1)
inductive iC {α0 α1 α2:Type} (p:α0→α1→α2→Prop):Prop
 | mk (a0:α0) (a1:α1) (a2:α2) (h:p a0 a1 a2)
inductive mW {α0 α1 α2 α3:Type} (p:α0→α1→α2→α3→Prop):Prop
 | mk (a0:α0) (a1:α1) (a2:α2) (a3:α3) (h:p a0 a1 a2 a3)
inductive zm {α0 α1 α2 α3 α4:Type} (p:α0→α1→α2→α3→α4→Prop):Prop
 | mk (a0:α0) (a1:α1) (a2:α2) (a3:α3) (a4:α4) (h:p a0 a1 a2 a3 a4)
inductive zh {α0 α1 α2 α3 α4 α5:Type} (p:α0→α1→α2→α3→α4→α5→Prop):Prop
 | mk (a0:α0) (a1:α1) (a2:α2) (a3:α3) (a4:α4) (a5:α5) (h:p a0 a1 a2 a3 a4 a5)
inductive E7 {α0 α1 α2 α3 α4 α5 α6 α7 α8:Type} (p:α0→α1→α2→α3→α4→α5→α6→α7→α8→Prop):Prop
 | mk (a0:α0) (a1:α1) (a2:α2) (a3:α3) (a4:α4) (a5:α5) (a6:α6) (a7:α7) (a8:α8) (h:p a0 a1 a2 a3 a4 a5 a6 a7 a8)
inductive EZ {α0 α1 α2 α3 α4 α5 α6 α7 α8 α9 α10:Type} (p:α0→α1→α2→α3→α4→α5→α6→α7→α8→α9→α10→Prop):Prop
 | mk (a0:α0) (a1:α1) (a2:α2) (a3:α3) (a4:α4) (a5:α5) (a6:α6) (a7:α7) (a8:α8) (a9:α9) (a10:α10) (h:p a0 a1 a2 a3 a4 a5 a6 a7 a8 a9 a10)
end L2
set_option genSizeOf true
set_option genInjectivity true
local macro_rules | `(tactic| trivial)=>`(tactic| first | lia | omega)
namespace L2
open PySem PySem.Spec PyProof.Rows
abbrev aV:=Sum Int Str
def mh:aV→Value→Bool
 | .inl k,v=>Value.isInt k v
 | .inr x,v=>Value.isStrOf x v
def EK (w:World):aV→Int
 | .inl k=>hashInt k
 | .inr x=>hashStr w x
theorem cH:∀{k:aV}{v:Value},mh k v=true→(bw fun i t=>k=Sum.inl i∧v=Value.int i t)∨(bw fun x t=>k=Sum.inr x∧v=Value.str x t)
 | .inl i,v,h=>by
  obtain ⟨t,e⟩:=Value.isInt_shape (k:=i) (v:=v) h
  exact .inl ⟨i,t,rfl,e⟩
 | .inr x,v,h=>by
  obtain ⟨t,e⟩:=Value.isStrOf_shape (x:=x) (v:=v) h
  exact .inr ⟨x,t,rfl,e⟩
theorem xc (i:Int) (t:Tok):mh (.inl i) (.int i t)=true:=by simp [mh,Value.isInt]
theorem xJ (x:Str) (t:Tok):mh (.inr x) (.str x t)=true:=by simp [mh,Value.isStrOf]
theorem Bi (a b:Int):decide ((Sum.inl a:aV)=Sum.inl b)=(a==b):=by
 by_cases e:a=b
 ·subst e;simp
 ·have h:¬(Sum.inl a:aV)=Sum.inl b:=fun q=>e (Sum.inl.inj q)
  rw [decide_eq_false h]
  exact (beq_eq_false_iff_ne.mpr e).symm
theorem CJ (a b:Str):decide ((Sum.inr a:aV)=Sum.inr b)=decide (a=b):=by
 by_cases e:a=b
 ·subst e;simp
 ·have h:¬(Sum.inr a:aV)=Sum.inr b:=fun q=>e (Sum.inr.inj q)
  rw [decide_eq_false h,decide_eq_false e]
theorem Bw (a:Int) (b:Str):decide ((Sum.inl a:aV)=Sum.inr b)=false:=decide_eq_false (fun q=>nomatch q)
theorem BR (a:Str) (b:Int):decide ((Sum.inr a:aV)=Sum.inl b)=false:=decide_eq_false (fun q=>nomatch q)
def jd (prog:Program) (w:World):PySem.KeyKind prog w aV where
 is:=mh
 hash:=EK w
 inj:=fun v a b ha hb=>by
  rcases cH ha with ⟨i,t,rfl,rfl⟩ | ⟨x,t,rfl,rfl⟩
  ·rcases cH hb with ⟨j,u,rfl,e⟩ | ⟨y,u,rfl,e⟩
   ·injection e with e1 _;rw [e1]
   ·exact nomatch e
  ·rcases cH hb with ⟨j,u,rfl,e⟩ | ⟨y,u,rfl,e⟩
   ·exact nomatch e
   ·injection e with e1 _;rw [e1]
 byValue:=fun k v h=>by
  rcases cH h with ⟨i,t,rfl,rfl⟩ | ⟨x,t,rfl,rfl⟩ <;> rfl
 pyHash:=fun hv h=>by
  rcases cH hv with ⟨i,t,rfl,rfl⟩ | ⟨x,t,rfl,rfl⟩
  ·exact wpAny_pyHash_int h
  ·exact wpAny_pyHash_str h
 eqBool:=fun hu hv h=>by
  rcases cH hu with ⟨i,t,rfl,rfl⟩ | ⟨x,t,rfl,rfl⟩
  ·rcases cH hv with ⟨j,u,rfl,rfl⟩ | ⟨y,u,rfl,rfl⟩
   ·rw [Bi] at h;exact wpAny_eqBool_int h
   ·rw [Bw] at h;exact SeqAt.EqAt.int_str i t y u _ _ _ _ h
  ·rcases cH hv with ⟨j,u,rfl,rfl⟩ | ⟨y,u,rfl,rfl⟩
   ·rw [BR] at h;exact SeqAt.EqAt.str_int x t j u _ _ _ _ h
   ·rw [CJ] at h;exact wpAny_eqBool_str h
 «strs»:=fun k x t v h=>by
  rcases cH h with ⟨i,u,rfl,e⟩ | ⟨y,u,rfl,e⟩
  ·exact nomatch e
  ·injection e with e1 _
   subst e1
   cases v <;> rfl
inductive V where
 | non | bl (b:Bool) | int (i:Int) | str (x:Str) | byt (b:Array UInt8) | flt (b:UInt64) | ref (a:Addr) | ty (n:String)
 deriving DecidableEq
def aR:V→Value→Prop
 | .non,u=>u=Value.none
 | .bl b,u=>u=Value.bool b
 | .int i,u=>∃t,u=Value.int i t
 | .str x,u=>∃t,u=Value.str x t
 | .byt b,u=>∃t,u=Value.bytes b t
 | .flt b,u=>∃t,u=Value.float b t
 | .ref a,u=>u=Value.ref a
 | .ty n,u=>u=Value.type n
abbrev av:List V→List Value→Prop:=Paired aR
theorem av.length {xs:List V}{us:List Value} (r:av xs us):xs.length=us.length:=Paired.length r
theorem av.get:∀{xs:List V}{us:List Value}{i:Nat}{x:V},av xs us→xs[i]?=some x→∃u,us[i]?=some u∧aR x u
 | _,_,_,_,.nil,e=>by simp at e
 | _,_,0,_,.cons r _,e=>by simp at e;subst e;exact ⟨_,rfl,r⟩
 | _,_,i+1,x,.cons _ t,e=>by
  obtain ⟨u,h1,h2⟩:=av.get (i:=i) (x:=x) t (by simpa using e)
  exact ⟨u,by simpa using h1,h2⟩
theorem av.set {x:V}{u:Value} (r:aR x u):∀{xs:List V}{us:List Value} (i:Nat),av xs us→av (xs.set i x) (us.set i u)
 | _,_,_,.nil=>.nil
 | _,_,0,.cons _ t=>.cons r t
 | _,_,i+1,.cons q t=>.cons q (av.set r i t)
theorem av.append:∀{xs ys:List V}{us ws:List Value},av xs us→av ys ws→av (xs++ys) (us++ws)
 | _,_,_,_,.nil,s=>s
 | _,_,_,_,.cons r t,s=>.cons r (av.append t s)
theorem av.take:∀{xs:List V}{us:List Value} (n:Nat),av xs us→av (xs.take n) (us.take n)
 | _,_,0,_=>.nil
 | _,_,_+1,.nil=>.nil
 | _,_,n+1,.cons r t=>.cons r (av.take n t)
theorem av.drop:∀{xs:List V}{us:List Value} (n:Nat),av xs us→av (xs.drop n) (us.drop n)
 | _,_,0,r=>r
 | _,_,_+1,.nil=>.nil
 | _,_,n+1,.cons _ t=>av.drop n t
def jC:Option V→Option Value→Prop
 | some v,some u=>aR v u
 | none,none=>True
 | _,_=>False
def KV {κ:Type}:List (κ×V)→List (κ×Value)→Prop:=Paired fun (p:κ×V) (q:κ×Value)=>p.1=q.1∧aR p.2 q.2
def kV:aV→V
 | .inl i=>.int i
 | .inr x=>.str x
inductive HO where
 | lst (xs:List V)
 | tup (xs:List V)
 | dK (kvs:List (aV×V)) | dT (kvs:List (List aV×V))
 | set (S:Int→Bool) (n:Nat)
 | ins (C dx:Addr) (fs:List (Str×V))
 | own (x:Addr)
 | xd (fs:List (Str×V))
 | met (f x:Addr)
 | rng (lo hi:Int)
 | frz (o:Obj) (u:HO)
 | tbl (ps:Array Value)
 | ext (φ:Heap→Prop)
abbrev Hp:=Addr→Option HO
def aH (H:Hp) (a:Addr) (o:HO):Hp:=fun b=>if b=a then some o else H b
theorem au {H:Hp}{a:Addr}{o:HO}:aH H a o a=some o:=by unfold aH;rw [if_pos rfl]
theorem ao {H:Hp}{a b:Addr}{o:HO} (h:b≠a):aH H a o b=H b:=by unfold aH;rw [if_neg h]
theorem mJ {H:Hp}{a b:Addr}{o u:HO} (h:H a=some o) (h':H b=some u) (d:o≠u):a≠b:=by
 intro e;subst e;rw [h] at h';exact d (Option.some.inj h')
theorem aF {H:Hp}{a b:Addr}{o:HO} (h:H a=some o) (h':H b=none):a≠b:=by
 intro e;subst e;rw [h] at h';cases h'
section
variable (P:Program) (w:World)
def bi (H:Hp) (h:Heap) (a:Addr):HO→Prop
 | .lst xs=>xs.length≤sizeLine∧bw fun (its:List Value) (n:Nat)=>av xs its∧h.get? a=some { cls:=.type "list",data:=.seq its.toArray n }
 | .tup xs=>xs.length≤sizeLine∧∃its:List Value,av xs its∧IsTup h a its.toArray∧∃o,h.get? a=some o∧o.dict=none
 | .dK kvs=>kvs.length≤sizeLine∧(a==sysModules)=false∧∃vs,KV kvs vs∧h.DictOf (jd P w) a vs
 | .dT kvs=>kvs.length≤sizeLine∧(a==sysModules)=false∧∃xs:List (List aV×Addr×Value),
  Paired (fun (p:List aV×V) (q:List aV×Addr×Value)=>p.1=q.1∧H q.2.1=some (.tup (p.1.map kV))∧aR p.2 q.2.2) kvs xs∧
  iC fun o es ep=>h.get? a=some o∧o.ExactDict∧o.data=.dict es ep∧es.toList=xs.map (entryOfKey (tupleKind (jd P w)))∧(xs.map (·.1)).Nodup
 | .set S n=>h.SetOf (intKind P w) a S n
 | .ins C dx fs=>H dx=some (.own a)∧fs.length≤1000∧dx≠a∧h.get? a=some (PySem.W.instObj C dx)∧
  ∃mA,h.Ns1 dx mA∧(∀f,jC (fs.lookup f) (mA f))∧PySem.Within mA (fs.map (·.1))
 | .own _=>∃o,h.get? a=some o
 | .xd fs=>∃mA,h.Ns1 a mA∧∀f,jC (fs.lookup f) (mA f)
 | .rng lo hi=>iC fun t u v=>h.get? a=some { cls:=.type "range",data:=.fields #[.int lo t,.int hi u,.int 1 v] }
 | .frz o u=>h.get? a=some o∧bi H h a u
 | .tbl ps=>h.get? a=some { cls:=.none,data:=.fields ps }
 | .met f x=>h.get? a=some (PySem.W.methodObj (.ref f) (.ref x))
 | .ext φ=>φ h∧(∃o,h.get? a=some o)∧∀h1 h2:Heap,φ h1→(∀o,h1.get? a=some o→h2.get? a=some o)→φ h2
def c8 (H:Hp) (h:Heap):Prop:=∀a o,H a=some o→bi P w H h a o
end
section
variable {P:Program}{w:World}{H H':Hp}{h h':Heap}{a:Addr}{o:HO}
theorem bi.lt (x:bi P w H h a o):a<h.objs.size:=by
 cases o with
 | lst xs=>obtain ⟨_,_,_,_,e⟩:=x;exact Heap.lt_size e
 | tup xs=>obtain ⟨_,_,_,p,_⟩:=x;exact p.lt
 | dK kvs=>obtain ⟨_,_,_,_,o,_,_,e,_⟩:=x;exact Heap.lt_size e
 | dT kvs=>obtain ⟨_,_,_,_,o,_,_,e,_⟩:=x;exact Heap.lt_size e
 | set S n=>obtain ⟨o,_,_,_,e,_⟩:=x;exact Heap.lt_size e
 | ins C dx fs=>obtain ⟨_,_,_,e,_⟩:=x;exact Heap.lt_size e
 | own y=>obtain ⟨_,e⟩:=x;exact Heap.lt_size e
 | xd fs=>obtain ⟨_,⟨_,_,_,e,_⟩,_⟩:=x;exact Heap.lt_size e
 | rng lo hi=>obtain ⟨_,_,_,e⟩:=x;exact Heap.lt_size e
 | frz ob u=>obtain ⟨e,_⟩:=x;exact Heap.lt_size e
 | tbl ps=>exact Heap.lt_size (show h.get? a=some _ from x)
 | met f y=>exact Heap.lt_size (show h.get? a=some _ from x)
 | ext φ=>obtain ⟨_,⟨_,e⟩,_⟩:=x;exact Heap.lt_size e
theorem Paired.mapP {α β:Type}{F G:α→β→Prop}:∀{l₁:List α}{l₂:List β},Paired F l₁ l₂→(∀a b,F a b→G a b)→Paired G l₁ l₂
 | _,_,.nil,_=>.nil
 | _,_,.cons r t,f=>.cons (f _ _ r) (Paired.mapP t f)
theorem bi.stay (x:bi P w H h a o) (k:∀b u,(b=a∨H b=some (.own a))→h.get? b=some u→h'.get? b=some u)
 (ho:∀b,H b=some (.own a)→H' b=some (.own a)) (ht:∀b xs,H b=some (.tup xs)→H' b=some (.tup xs)):bi P w H' h' a o:=by
 induction o with
 | lst xs=>obtain ⟨z,its,n,r,e⟩:=x;exact ⟨z,its,n,r,k _ _ (.inl rfl) e⟩
 | tup xs=>obtain ⟨z,its,r,⟨ob,e,c⟩,od,e',c'⟩:=x;exact ⟨z,its,r,⟨ob,k _ _ (.inl rfl) e,c⟩,od,k _ _ (.inl rfl) e',c'⟩
 | dK kvs=>obtain ⟨z,y,vs,r,ob,es,ep,e,c⟩:=x;exact ⟨z,y,vs,r,ob,es,ep,k _ _ (.inl rfl) e,c⟩
 | dT kvs=>
  obtain ⟨z,y,xs,r,ob,es,ep,e,c⟩:=x
  exact ⟨z,y,xs,Paired.mapP r fun p q z=>⟨z.1,ht _ _ z.2.1,z.2.2⟩,ob,es,ep,k _ _ (.inl rfl) e,c⟩
 | set S n=>obtain ⟨ob,es,ep,t,e,c⟩:=x;exact ⟨ob,es,ep,t,k _ _ (.inl rfl) e,c⟩
 | ins C dx fs=>
  obtain ⟨d,z,ne,e,mA,⟨od,es,ep,e2,c⟩,r⟩:=x
  exact ⟨ho _ d,z,ne,k _ _ (.inl rfl) e,mA,⟨od,es,ep,k _ _ (.inr d) e2,c⟩,r⟩
 | own y=>obtain ⟨ob,e⟩:=x;exact ⟨ob,k _ _ (.inl rfl) e⟩
 | xd fs=>obtain ⟨mA,⟨od,es,ep,e,c⟩,r⟩:=x;exact ⟨mA,⟨od,es,ep,k _ _ (.inl rfl) e,c⟩,r⟩
 | rng lo hi=>obtain ⟨t,u,v,e⟩:=x;exact ⟨t,u,v,k _ _ (.inl rfl) e⟩
 | frz ob u ih=>obtain ⟨e,q⟩:=x;exact ⟨k _ _ (.inl rfl) e,ih q⟩
 | tbl ps=>
  have e:h.get? a=some { cls:=.none,data:=.fields ps }:=x
  show h'.get? a=some { cls:=.none,data:=.fields ps }
  exact k a _ (.inl rfl) e
 | met f y=>
  have e:h.get? a=some (PySem.W.methodObj (.ref f) (.ref y)):=x
  show h'.get? a=some (PySem.W.methodObj (.ref f) (.ref y))
  exact k a _ (.inl rfl) e
 | ext φ=>obtain ⟨p,⟨o,e⟩,st⟩:=x;exact ⟨st _ _ p fun o q=>k _ _ (.inl rfl) q,⟨o,k _ _ (.inl rfl) e⟩,st⟩
theorem c8.lt (x:c8 P w H h) (e:H a=some o):a<h.objs.size:=(x a o e).lt
theorem c8.fresh (x:c8 P w H h) (e:h.objs.size≤a):H a=none:=by
 cases q:H a with
 | none=>rfl
 | some u=>exact absurd (Nat.lt_of_lt_of_le (x.lt q) e) (Nat.lt_irrefl _)
theorem c8.kept (x:c8 P w H h) (k:∀b u,h.get? b=some u→h'.get? b=some u):c8 P w H h':=fun a o e=>
 (x a o e).stay (fun b u _ q=>k b u q) (fun _ q=>q) fun _ _ q=>q
theorem c8.laid (x:c8 P w H h) (k:∀b u,h.get? b=some u→h'.get? b=some u) (hp:h.objs.size≤a) (new:bi P w (aH H a o) h' a o):c8 P w (aH H a o) h':=fun b u e=>by
 have hn:=x.fresh hp
 by_cases hb:b=a
 ·subst hb;rw [au] at e;cases e;exact new
 ·rw [ao hb] at e
  exact (x b u e).stay (fun c v _ q=>k c v q) (fun c q=>by rw [ao (aF q hn)];exact q) fun c xs q=>by rw [ao (aF q hn)];exact q
end
def Rd (H:Hp) (a:Addr) (u:HO):Prop:=H a=some u∨∃o,H a=some (.frz o u)
theorem Rd.ok {P:Program}{w:World}{H:Hp}{h:Heap}{a:Addr}{u:HO} (r:Rd H a u) (x:c8 P w H h):bi P w H h a u:=by
 rcases r with r | ⟨o,r⟩
 ·exact x a u r
 ·obtain ⟨_,q⟩:=x a _ r
  exact q
def y9:Option HO→Prop
 | some (.lst _)=>True
 | some (.dK _)=>True
 | some (.dT _)=>True
 | some (.set _ _)=>True
 | some (.ins _ _ _)=>True
 | some (.ext _)=>True
 | _=>False
section
variable {P:Program}{w:World}{H:Hp}{h h':Heap}{x e:Addr}{o':HO}
theorem c8.write (ok:c8 P w H h) (mu:y9 (H x)) (he:e=x∨H e=some (.own x)) (k:∀b u,b≠e→h.get? b=some u→h'.get? b=some u) (heo:∃u,h'.get? e=some u)
 (new:bi P w (aH H x o') h' x o'):c8 P w (aH H x o') h':=fun b u q=>by
 have nown:∀c y,H c=some (.own y)→c≠x:=fun c y r z=>by subst z;rw [r] at mu;exact mu
 have ntup:∀c xs,H c=some (.tup xs)→c≠x:=fun c xs r z=>by subst z;rw [r] at mu;exact mu
 by_cases hb:b=x
 ·subst hb;rw [au] at q;cases q;exact new
 ·rw [ao hb] at q
  by_cases hbe:b=e
  ·have q':H b=some (.own x):=by
    rcases he with z | z
    ·exact absurd (hbe.trans z) hb
    ·rw [hbe];exact z
   rw [q] at q';cases q'
   obtain ⟨v,hv⟩:=heo
   exact ⟨v,by rw [hbe];exact hv⟩
  ·refine (ok b u q).stay (fun c v hc r=>k c v ?_ r) (fun c r=>by rw [ao (nown c b r)];exact r) fun c xs r=>by rw [ao (ntup c xs r)];exact r
   rcases hc with rfl | hc
   ·exact hbe
   ·rintro rfl
    rcases he with z | z
    ·exact nown c b hc z
    ·rw [hc] at z;cases z;exact hb rfl
end
structure Un (fs ex:List Addr) (H H':Hp) (h h':Heap):Prop where
 keep:∀b o,h.get? b=some o→H b=none→b∉fs→b∉ex→h'.get? b=some o
 slot:∀b o,h.get? b=some o→H b=none→b∈fs→b∉ex→∃sl,h'.get? b=some { o with slots:=sl }
 free:∀b o,h.get? b=some o→H b=none→b∉ex→H' b=none
 there:∀b o,h.get? b=some o→b∉ex→∃o',h'.get? b=some o'
 tups:∀b xs,H b=some (.tup xs)→H' b=some (.tup xs)
 frzs:∀b o u,H b=some (.frz o u)→H' b=some (.frz o u)
 tbls:∀b ps,H b=some (.tbl ps)→∃more,H' b=some (.tbl (ps++more))
section
variable {fs fs' ex ex':List Addr}{H H1 H2:Hp}{h h1 h2 h':Heap}{a x e:Addr}{o:HO}
theorem Un.any (u:Un fs ex H H1 h h1) {b:Addr}{ob:Obj} (q:h.get? b=some ob) (n:H b=none) (hx:b∉ex):∃sl,h1.get? b=some { ob with slots:=sl }:=by
 by_cases hb:b∈fs
 ·exact u.slot b ob q n hb hx
 ·exact ⟨ob.slots,u.keep b ob q n hb hx⟩
theorem Un.kept (k:∀b u,h.get? b=some u→h'.get? b=some u):Un fs ex H H h h':=
 ⟨fun b ob q _ _ _=>k b ob q,fun b ob q _ _ _=>⟨ob.slots,k b ob q⟩,fun _ _ _ n _=>n,fun b ob q _=>⟨ob,k b ob q⟩,fun _ _ q=>q,fun _ _ _ q=>q,fun _ ps q=>⟨#[],by rw [q];simp⟩⟩
theorem Un.refl:Un fs ex H H h h:=Un.kept fun _ _ q=>q
theorem Un.laid (k:∀b u,h.get? b=some u→h'.get? b=some u) (hp:h.objs.size≤a) (hn:H a=none):Un fs ex H (aH H a o) h h' where
 keep:=fun b u q _ _ _=>k b u q
 slot:=fun b u q _ _ _=>⟨u.slots,k b u q⟩
 free:=fun b u q n _=>by rw [ao (Nat.ne_of_lt (Nat.lt_of_lt_of_le (Heap.lt_size q) hp))];exact n
 there:=fun b u q _=>⟨u,k b u q⟩
 tups:=fun b xs q=>by rw [ao (aF q hn)];exact q
 frzs:=fun b u xs q=>by rw [ao (aF q hn)];exact q
 tbls:=fun b ps q=>⟨#[],by rw [ao (aF q hn),q];simp⟩
theorem Un.write (mu:y9 (H x)) (he:e=x∨H e=some (.own x)) (k:∀b u,b≠e→h.get? b=some u→h'.get? b=some u) (heo:∃u,h'.get? e=some u):Un fs ex H (aH H x o) h h':=by
 have hx:∀b,H b=none→b≠x:=fun b n z=>by subst z;rw [n] at mu;exact mu
 have hb:∀b,H b=none→b≠e:=fun b n z=>by
  subst z
  rcases he with r | r
  ·exact hx b n r
  ·rw [n] at r;cases r
 have hm:∀b u,H b=some u→¬y9 (some u)→b≠x:=fun b u q nm z=>by subst z;rw [q] at mu;exact nm mu
 refine ⟨fun b u q n _ _=>k b u (hb b n) q,fun b u q n _ _=>⟨u.slots,k b u (hb b n) q⟩,fun b u q n _=>by rw [ao (hx b n)];exact n,fun b u q _=>?_,
  fun b xs q=>by rw [ao (hm b _ q fun z=>z)];exact q,fun b u xs q=>by rw [ao (hm b _ q fun z=>z)];exact q,fun b ps q=>⟨#[],by rw [ao (hm b _ q fun z=>z),q];simp⟩⟩
 by_cases hbe:b=e
 ·subst hbe;exact heo
 ·exact ⟨u,k b u hbe q⟩
end
def y4 (h:Heap) (H:Hp):List Addr:=(List.range h.objs.size).filter fun a=>(H a).isSome
def mI (h:Heap) (H:Hp):Heap:=PySem.W.hideAll h (y4 h H)
theorem xL (h:Heap) (H:Hp):(mI h H).objs.size=h.objs.size:=PySem.W.hideAll_size _ _
theorem yf {h:Heap}{H:Hp}{b:Addr}{o:Obj} (e:h.get? b=some o) (n:H b=none):(mI h H).get? b=some o:=
 PySem.W.hideAll_get _ e fun hm=>by
  have q:(H b).isSome=true:=(List.mem_filter.mp hm).2
  rw [n] at q;simp at q
theorem AE {h:Heap}{H:Hp}{b:Addr}{o:Obj} (e:(mI h H).get? b=some o):h.get? b=some o∧H b=none:=by
 have e':h.get? b=some o:=PySem.W.of_hideAll (y4 h H) e
 refine ⟨e',?_⟩
 cases q:H b with
 | none=>rfl
 | some x=>
  have hm:b∈y4 h H:=List.mem_filter.mpr ⟨List.mem_range.mpr (Heap.lt_size e'),by simp [q]⟩
  have z:(mI h H).get? b=none:=PySem.W.hideAll_none (y4 h H) hm
  rw [z] at e;cases e
structure Mod (K:PySem.W.Frag) (mg:Str→Option Value) (base:Heap):Prop where
 kin:K.In base
 glob:base.Ns mainGlobals mg
 blt:∃mb,base.Ns builtinsNs mb∧∀x:Str,x≠"__name__"→mb x=bootBuiltins x
 nolimit:base.NoLimit
structure Cx where
 prog:Program
 w:World
 K:PySem.W.Frag
 mg:Str→Option Value
 base:Heap
 A:Around
 N:List Str
 s₀:Shared
 H₀:Hp
 env:Env
 outer:List Env
 stack:List Env
 ex:List Addr
 fn:Str→Bool
 calm:Bool
 pn:List (Addr×Obj)
 xe:Value→Shared→Prop
def gb (l:List Env):List Addr:=l.filterMap (·.frame)
abbrev Cx.fs (X:Cx):List Addr:=gb X.outer
def wO (sc:Scope) (x:Str):Prop:=sc.names.lookup x=some .local∨sc.names.lookup x=some .cell∨sc.names.lookup x=some .free
def zn (sc:Scope) (x:Str):Prop:=sc.names.lookup x=some .local∨sc.names.lookup x=some .cell
def CM (env:Env) (h:Heap) (m:Str→Option Value) (x:Str) (u:Value):Prop:=
 (env.kindOf x=some .local∧m x=some u)∨((env.kindOf x=some .cell∨env.kindOf x=some .free)∧∃c,env.cells.lookup x=some c∧h.IsCell c (some u))
structure Cx.Ok (X:Cx):Prop where
 mod:Mod X.K X.mg X.base
 kind:X.env.scope.kind=.function
 glob:X.env.globals=mainGlobals
 blt:X.env.builtins=builtinsNs
 above:X.s₀.heap.objs.size≤X.env.locals
 inj:∀x y c,X.env.cells.lookup x=some c→X.env.cells.lookup y=some c→x=y
 has:∀x,(X.env.kindOf x=some .cell∨X.env.kindOf x=some .free)→∃c,X.env.cells.lookup x=some c
 cab:∀x c,X.fn x=true→X.env.cells.lookup x=some c→X.s₀.heap.objs.size≤c
 hd:X.calm=true→X.A.handled=none
 frames:X.A.frames=some X.stack
 stk:X.stack=X.outer∨(X.stack=X.env :: X.outer∧X.env.frame=some X.env.locals)
 exf:∀b∈X.ex,b≠X.env.locals∧∀x c,X.env.cells.lookup x=some c→c≠b
 bs:∀b o,X.base.get? b=some o→X.s₀.heap.get? b=some o∧X.H₀ b=none
 bsz:X.base.objs.size≤X.s₀.heap.objs.size
 noex:∀b o,X.base.get? b=some o→b∉X.ex
 exfs:∀b∈X.ex,b∉X.fs
 funs:X.s₀.heap.FunFrames X.base X.outer
 frf:∀b∈X.fs,X.H₀ b=none
structure ad (X:Cx) (pins:List (Addr×Obj)) (σ:List (Option V)) (H:Hp) (s:Shared):Prop where
 ok:X.Ok
 os:s.os=X.s₀.os
 bare:AllBare s.gens
 base:Un X.fs X.ex X.H₀ H X.s₀.heap s.heap
 loc:∃m,s.heap.Ns X.env.locals m∧∀(i:Nat) (x:Str) (v:V),X.N[i]?=some x→σ[i]?=some (some v)→wO X.env.scope x→∃u,aR v u∧CM X.env s.heap m x u
 cell:∀x c,X.env.cells.lookup x=some c→∃v,s.heap.IsCell c v
 free:H X.env.locals=none
 freeC:∀x c,X.env.cells.lookup x=some c→H c=none
 pin:∀p∈X.pn++pins,s.heap.get? p.1=some p.2∧H p.1=none∧p.1≠X.env.locals∧p.1∉X.fs∧∀v,p.2.data≠.cell v
 hok:c8 X.prog X.w H s.heap
 len:σ.length=X.N.length
section
variable {X:Cx}{pins:List (Addr×Obj)}{σ:List (Option V)}{H H':Hp}{s:Shared}{h':Heap}
theorem Cx.Ok.nofr (ok:X.Ok) {b:Addr}{o:Obj} (e:X.base.get? b=some o):b∉X.fs:=fun hb=>by
 have:=(ok.funs.mem hb).1
 rw [e] at this;cases this
theorem ad.bs (I:ad X pins σ H s):∀b o,X.base.get? b=some o→s.heap.get? b=some o∧H b=none:=fun b o e=>
 ⟨I.base.keep b o (I.ok.bs b o e).1 (I.ok.bs b o e).2 (I.ok.nofr e) (I.ok.noex b o e),I.base.free b o (I.ok.bs b o e).1 (I.ok.bs b o e).2 (I.ok.noex b o e)⟩
theorem ad.bk (I:ad X pins σ H s):∀b o,X.base.get? b=some o→s.heap.get? b=some o:=fun b o e=>(I.bs b o e).1
theorem ad.mod (I:ad X pins σ H s):Mod X.K X.mg X.base:=I.ok.mod
theorem ad.kIn (I:ad X pins σ H s):X.K.In s.heap:=I.ok.mod.kin.keeps I.bk
theorem ad.lt (I:ad X pins σ H s):X.env.locals<s.heap.objs.size:=let ⟨_,hn,_⟩:=I.loc;hn.lt
theorem ad.sz (I:ad X pins σ H s):X.s₀.heap.objs.size≤s.heap.objs.size:=Nat.le_trans I.ok.above (Nat.le_of_lt I.lt)
theorem ad.nofs (I:ad X pins σ H s) {a:Addr} (h:s.heap.objs.size≤a):a∉X.fs:=fun hb=>by
 obtain ⟨_,o,ho,_⟩:=I.ok.funs.mem hb
 exact absurd (Nat.lt_of_lt_of_le (Heap.lt_size ho) (Nat.le_trans I.sz h)) (Nat.lt_irrefl _)
theorem ad.cne (I:ad X pins σ H s):∀x c,X.env.cells.lookup x=some c→c≠X.env.locals:=fun x c e z=>by
 obtain ⟨v,o,ho,hd⟩:=I.cell x c e
 obtain ⟨m,⟨o',es,ep,ho',hd',_⟩,_⟩:=I.loc
 rw [z,ho'] at ho;cases ho;rw [hd'] at hd;cases hd
theorem ad.funs (I:ad X pins σ H s):s.heap.FunFrames X.base X.outer:=by
 have all:∀(l:List Env),(∀b∈gb l,b∈X.fs)→X.s₀.heap.FunFrames X.base l→s.heap.FunFrames X.base l:=by
  intro l
  induction l with
  | nil=>intro _ _;trivial
  | cons env r ih=>
   intro hs hl
   obtain ⟨hk,⟨L,o,hf,hn,ho,hd⟩,hr⟩:=hl
   have hL:L∈X.fs:=hs L (by unfold gb;rw [List.filterMap_cons,hf];exact List.mem_cons_self)
   obtain ⟨sl,e⟩:=I.base.slot L o ho (I.ok.frf L hL) hL fun z=>I.ok.exfs L z hL
   exact ⟨hk,⟨L,_,hf,hn,e,hd⟩,ih (fun b hb=>hs b (by unfold gb;rw [List.filterMap_cons,hf];exact List.mem_cons_of_mem _ hb)) hr⟩
 exact all X.outer (fun _ hb=>hb) I.ok.funs
theorem ad.stack (I:ad X pins σ H s):s.heap.FunFrames X.base X.stack:=by
 rcases I.ok.stk with e | ⟨e,hf⟩
 ·rw [e];exact I.funs
 ·rw [e]
  obtain ⟨m,hn,_⟩:=I.loc
  refine .cons (by rw [I.ok.kind];decide) hf hn ?_ I.funs
  exact Heap.get?_none_of_le (Nat.le_trans I.ok.bsz I.ok.above)
theorem ad.stkSub (I:ad X pins σ H s):∀b∈gb X.stack,b∈X.env.locals :: X.fs:=fun b hb=>by
 rcases I.ok.stk with e | ⟨e,hf⟩
 ·rw [e] at hb;exact List.mem_cons_of_mem _ hb
 ·rw [e] at hb
  unfold gb at hb
  rw [List.filterMap_cons,hf] at hb
  exact hb
theorem ad.stkFree (I:ad X pins σ H s):∀b∈gb X.stack,H b=none:=fun b hb=>by
 rcases List.mem_cons.mp (I.stkSub b hb) with e | hb
 ·rw [e];exact I.free
 ·obtain ⟨_,o,ho,_⟩:=I.ok.funs.mem hb
  exact I.base.free b o ho (I.ok.frf b hb) fun z=>I.ok.exfs b z hb
theorem ad.step {g':Array GenState}{t':Nat}{d':Drawn}{ch:List Addr} (I:ad X pins σ H s)
 (hch:∀b∈ch,(b∈X.ex∨X.s₀.heap.objs.size≤b)∧b≠X.env.locals∧(∀x c,X.env.cells.lookup x=some c→c≠b)∧∀p∈X.pn++pins,p.1≠b)
 (keep:∀b o,b≠X.env.locals→b∉X.fs→b∉ch→s.heap.get? b=some o→H b=none→h'.get? b=some o)
 (slot:∀b o,b≠X.env.locals→b∈X.fs→b∉ch→s.heap.get? b=some o→H b=none→∃sl,h'.get? b=some { o with slots:=sl }) (free:∀b o,b∉ch→s.heap.get? b=some o→H b=none→H' b=none)
 (there:∀b o,b∉ch→s.heap.get? b=some o→∃o',h'.get? b=some o')
 (tups:∀b xs,H b=some (.tup xs)→H' b=some (.tup xs)) (frzs:∀b o u,H b=some (.frz o u)→H' b=some (.frz o u)) (tbls:∀b ps,H b=some (.tbl ps)→∃more,H' b=some (.tbl (ps++more)))
 (ns:∀m,s.heap.Ns X.env.locals m→h'.Ns X.env.locals m) (hok:c8 X.prog X.w H' h') (hg:AllBare g') :
 ad X pins σ H' { s with heap:=h',gens:=g',drawn:=d',toks:=t' }:=by
 have neL:∀b o,X.s₀.heap.get? b=some o→b≠X.env.locals:=fun b o e=>Nat.ne_of_lt (Nat.lt_of_lt_of_le (Heap.lt_size e) I.ok.above)
 have neC:∀b o,X.s₀.heap.get? b=some o→b∉X.ex→b∉ch:=fun b o e hx hb=>by
  rcases (hch b hb).1 with z | z
  ·exact hx z
  ·exact absurd (Nat.lt_of_lt_of_le (Heap.lt_size e) z) (Nat.lt_irrefl _)
 have cellK:∀x c,X.env.cells.lookup x=some c→∀v,s.heap.IsCell c v→h'.IsCell c v:=fun x c e v ⟨o,ho,hd⟩=>by
  have nch:c∉ch:=fun z=>(hch c z).2.2.1 x c e rfl
  by_cases hc:c∈X.fs
  ·obtain ⟨sl,q⟩:=slot c o (I.cne x c e) hc nch ho (I.freeC x c e)
   exact ⟨_,q,hd⟩
  ·exact ⟨o,keep c o (I.cne x c e) hc nch ho (I.freeC x c e),hd⟩
 refine ⟨I.ok,I.os,hg,⟨fun b o e n hb hx=>?_,fun b o e n hb hx=>?_,fun b o e n hx=>?_,fun b o e hx=>?_,fun b xs e=>tups b xs (I.base.tups b xs e),fun b o xs e=>frzs b o xs (I.base.frzs b o xs e),fun b ps e=>?_⟩,?_,fun x c e=>?_,?_,fun x c e=>?_,fun p hp=>?_,hok,I.len⟩
 ·exact keep b o (neL b o e) hb (neC b o e hx) (I.base.keep b o e n hb hx) (I.base.free b o e n hx)
 ·obtain ⟨sl,e1⟩:=I.base.slot b o e n hb hx
  obtain ⟨sl',e2⟩:=slot b _ (neL b o e) hb (neC b o e hx) e1 (I.base.free b o e n hx)
  exact ⟨sl',e2⟩
 ·obtain ⟨o',e1⟩:=I.base.there b o e hx
  exact free b o' (neC b o e hx) e1 (I.base.free b o e n hx)
 ·obtain ⟨o',e1⟩:=I.base.there b o e hx
  exact there b o' (neC b o e hx) e1
 ·obtain ⟨m1,e1⟩:=I.base.tbls b ps e
  obtain ⟨m2,e2⟩:=tbls b _ e1
  exact ⟨m1++m2,by rw [e2,Array.append_assoc]⟩
 ·obtain ⟨m,hn,hl⟩:=I.loc
  refine ⟨m,ns m hn,fun i x v e1 e2 e3=>?_⟩
  obtain ⟨u,r,l⟩:=hl i x v e1 e2 e3
  refine ⟨u,r,?_⟩
  rcases l with l | ⟨k,c,e,z⟩
  ·exact .inl l
  ·exact .inr ⟨k,c,e,cellK x c e _ z⟩
 ·obtain ⟨v,z⟩:=I.cell x c e
  exact ⟨v,cellK x c e v z⟩
 ·obtain ⟨m,⟨o,_,_,ho,_⟩,_⟩:=I.loc
  exact free _ o (fun z=>(hch _ z).2.1 rfl) ho I.free
 ·obtain ⟨v,o,ho,hd⟩:=I.cell x c e
  exact free c o (fun z=>(hch c z).2.2.1 x c e rfl) ho (I.freeC x c e)
 ·obtain ⟨e,n,ne,nf,d⟩:=I.pin p hp
  have nch:p.1∉ch:=fun z=>(hch p.1 z).2.2.2 p hp rfl
  exact ⟨keep p.1 p.2 ne nf nch e n,free p.1 p.2 nch e n,ne,nf,d⟩
theorem ad.un {t':Nat} (I:ad X pins σ H s) (u:Un X.fs [] H H' s.heap h') (hok:c8 X.prog X.w H' h'):ad X pins σ H' { s with heap:=h',toks:=t' }:=by
 obtain ⟨m,⟨o,es,ep,ho,r⟩,_⟩:=id I.loc
 obtain ⟨sl,hL⟩:=u.any ho I.free (by simp)
 exact I.step (g':=s.gens) (d':=s.drawn) (ch:=[]) (fun _ z=>nomatch z) (fun b o _ hb _ e n=>u.keep b o e n hb (by simp)) (fun b o _ hb _ e n=>u.slot b o e n hb (by simp)) (fun b o _ e n=>u.free b o e n (by simp)) (fun b o _ e=>u.there b o e (by simp)) u.tups u.frzs u.tbls (fun m' hm=>by
  obtain ⟨o',es',ep',ho',r'⟩:=hm
  rw [ho] at ho';cases ho'
  exact ⟨_,es',ep',hL,r'⟩) hok I.bare
theorem ad.call {g':Array GenState}{t':Nat}{d':Drawn}{ch:List Addr} (I:ad X pins σ H s) (u:Un (gb X.stack) ch H H' s.heap h') (hok:c8 X.prog X.w H' h') (hg:AllBare g')
 (hch:∀b∈ch,(b∈X.ex∨X.s₀.heap.objs.size≤b)∧b≠X.env.locals∧(∀x c,X.env.cells.lookup x=some c→c≠b)∧∀p∈X.pn++pins,p.1≠b) :
 ad X pins σ H' { s with heap:=h',gens:=g',drawn:=d',toks:=t' }:=by
 obtain ⟨m,⟨o,es,ep,ho,r⟩,_⟩:=id I.loc
 obtain ⟨sl,hL⟩:=u.any ho I.free fun z=>(hch _ z).2.1 rfl
 exact I.step (ch:=ch) hch (fun b o hL hb hc e n=>u.keep b o e n (fun z=>(List.mem_cons.mp (I.stkSub b z)).elim hL hb) hc) (fun b o _ _ hc e n=>u.any e n hc) (fun b o hc e n=>u.free b o e n hc) (fun b o hc e=>u.there b o e hc) u.tups u.frzs u.tbls (fun m' hm=>by
  obtain ⟨o',es',ep',ho',r'⟩:=hm
  rw [ho] at ho';cases ho'
  exact ⟨_,es',ep',hL,r'⟩) hok hg
theorem ad.turned {t':Nat}{it:Addr} (I:ad X pins σ H s) (k:∀b o,b≠it→s.heap.get? b=some o→h'.get? b=some o) (hn:H it=none) (hL:it≠X.env.locals)
 (h1:it∈X.ex∨X.s₀.heap.objs.size≤it) (h2:∀x c,X.env.cells.lookup x=some c→c≠it) (h3:∀p∈X.pn++pins,p.1≠it):ad X pins σ H { s with heap:=h',toks:=t' }:=by
 have nit:∀b u,H b=some u→b≠it:=fun b u e z=>by rw [z,hn] at e;cases e
 refine I.step (g':=s.gens) (d':=s.drawn) (ch:=[it]) (fun b hb=>?_) (fun b o _ _ hc e _=>k b o (fun z=>hc (by simp [z])) e) (fun b o _ _ hc e _=>⟨o.slots,k b o (fun z=>hc (by simp [z])) e⟩) (fun _ _ _ _ n=>n)
  (fun b o hc e=>⟨o,k b o (fun z=>hc (by simp [z])) e⟩) (fun _ _ e=>e) (fun _ _ _ e=>e) (fun b ps e=>⟨#[],by rw [e];simp⟩) (fun m hm=>?_) (fun b u e=>?_) I.bare
 ·have e:b=it:=by simpa using hb
  subst e
  exact ⟨h1,hL,h2,h3⟩
 ·obtain ⟨o,es,ep,ho,r⟩:=hm
  exact ⟨o,es,ep,k _ o (Ne.symm hL) ho,r⟩
 ·refine (I.hok b u e).stay (fun c v hc q=>k c v ?_ q) (fun _ q=>q) fun _ _ q=>q
  rcases hc with z | z
  ·rw [z];exact nit b u e
  ·exact nit c _ z
theorem ad.tok (I:ad X pins σ H s) (t:Nat):ad X pins σ H { s with toks:=t }:=I.un (h':=s.heap) (t':=t) Un.refl I.hok
theorem ad.kept {t':Nat} (I:ad X pins σ H s) (k:∀b u,s.heap.get? b=some u→h'.get? b=some u):ad X pins σ H { s with heap:=h',toks:=t' }:=I.un (Un.kept k) (I.hok.kept k)
theorem ad.laid {a:Addr}{o:HO}{t':Nat} (I:ad X pins σ H s) (k:∀b u,s.heap.get? b=some u→h'.get? b=some u) (hp:s.heap.objs.size≤a) (new:bi X.prog X.w (aH H a o) h' a o) :
 ad X pins σ (aH H a o) { s with heap:=h',toks:=t' }:=I.un (Un.laid k hp (I.hok.fresh hp)) (I.hok.laid k hp new)
theorem ad.write {x e:Addr}{o:HO}{t':Nat} (I:ad X pins σ H s) (mu:y9 (H x)) (he:e=x∨H e=some (.own x)) (k:∀b u,b≠e→s.heap.get? b=some u→h'.get? b=some u) (heo:∃u,h'.get? e=some u)
 (new:bi X.prog X.w (aH H x o) h' x o):ad X pins σ (aH H x o) { s with heap:=h',toks:=t' }:=I.un (Un.write mu he k heo) (I.hok.write mu he k heo new)
theorem ad.weak {σ':List (Option V)} (I:ad X pins σ H s) (hl:σ'.length=σ.length) (w:∀(i:Nat) v,σ'[i]?=some (some v)→σ[i]?=some (some v)):ad X pins σ' H s:=
 ⟨I.ok,I.os,I.bare,I.base,let ⟨m,hn,hl'⟩:=I.loc;⟨m,hn,fun i x v e1 e2 e3=>hl' i x v e1 (w i v e2) e3⟩,I.cell,I.free,I.freeC,I.pin,I.hok,hl.trans I.len⟩
theorem ad.pins_of {pins':List (Addr×Obj)} (I:ad X pins σ H s) (h:∀p∈pins',s.heap.get? p.1=some p.2∧H p.1=none∧p.1≠X.env.locals∧p.1∉X.fs∧∀v,p.2.data≠.cell v):ad X pins' σ H s:=
 ⟨I.ok,I.os,I.bare,I.base,I.loc,I.cell,I.free,I.freeC,fun p hp=>(List.mem_append.mp hp).elim (fun z=>I.pin p (List.mem_append_left _ z)) (h p),I.hok,I.len⟩
theorem pM {N:List Str} (hN:N.Nodup) {i j:Nat}{x:Str} (a:N[i]?=some x) (b:N[j]?=some x):i=j:=by
 obtain ⟨h1,e1⟩:=List.getElem?_eq_some_iff.mp a
 obtain ⟨h2,e2⟩:=List.getElem?_eq_some_iff.mp b
 exact (List.getElem_inj hN).mp (e1.trans e2.symm)
theorem rH {M:Model}{A:Around}{E:Value→Shared→Prop}{i:Nat}{x:Str}{v:V}{u:Value}{Q:Unit→Shared→Prop} (I:ad X pins σ H s) (hN:X.N.Nodup) (hi:X.N[i]?=some x) (hx:zn X.env.scope x) (r:aR v u)
 (h:∀s',ad X pins (σ.set i (some v)) H s'→(∃a,Heap.SameBut a s.heap s'.heap∧(a=X.env.locals∨X.env.cells.lookup x=some a))→Q () s') (hf:X.fn x=true∨X.env.scope.names.lookup x=some .local:=by first | exact .inl rfl | exact .inr rfl | assumption):wpAny M A (storeName X.env x u) Q E s:=by
 obtain ⟨m,hn,hl⟩:=id I.loc
 have hcls:(X.env.scope.kind==.class || (X.env.scope.kind==.module && X.env.locals != X.env.globals))=false:=by rw [I.ok.kind];rfl
 have hiσ:i<σ.length:=by rw [I.len];exact (List.getElem?_eq_some_iff.mp hi).1
 have cne:=I.cne
 have tracked:∀{a:Addr}{h':Heap},(∃o,s.heap.get? a=some o∧H a=none)→Heap.SameBut a s.heap h'→c8 X.prog X.w H h':=fun {a h'} ha hs b ob e=>by
  obtain ⟨_,_,hfree⟩:=ha
  refine (I.hok b ob e).stay (fun c w' hc q=>(hs.2 c ?_).trans q) (fun _ q=>q) fun _ _ q=>q
  rintro rfl
  rcases hc with rfl | hc
  ·rw [hfree] at e;cases e
  ·rw [hfree] at hc;cases hc
 rcases hx with hk | hk
 ·refine wpAny_storeName_local hk hn (fun h' hn' hs=>?_) hcls
  obtain ⟨oL,_,_,hoL,_⟩:=id hn
  refine h _ ⟨I.ok,I.os,I.bare,⟨fun b o e n hb hx=>?_,fun b o e n hb hx=>?_,I.base.free,fun b o e hx=>?_,I.base.tups,I.base.frzs,I.base.tbls⟩,⟨_,hn',fun j y v' e1 e2 e3=>?_⟩,fun y c e=>?_,I.free,I.freeC,fun p hp=>?_,tracked ⟨oL,hoL,I.free⟩ hs,by simpa using I.len⟩ ⟨_,hs,.inl rfl⟩
  ·exact (hs.2 b (Nat.ne_of_lt (Nat.lt_of_lt_of_le (Heap.lt_size e) I.ok.above))).trans (I.base.keep b o e n hb hx)
  ·obtain ⟨sl,e1⟩:=I.base.slot b o e n hb hx
   exact ⟨sl,(hs.2 b (Nat.ne_of_lt (Nat.lt_of_lt_of_le (Heap.lt_size e) I.ok.above))).trans e1⟩
  ·obtain ⟨o',e1⟩:=I.base.there b o e hx
   exact ⟨o',(hs.2 b (Nat.ne_of_lt (Nat.lt_of_lt_of_le (Heap.lt_size e) I.ok.above))).trans e1⟩
  ·by_cases hj:j=i
   ·subst hj
    rw [hi] at e1;cases e1
    rw [List.getElem?_set_self hiσ] at e2
    cases e2
    exact ⟨u,r,.inl ⟨hk,by simp⟩⟩
   ·rw [List.getElem?_set_ne (Ne.symm hj)] at e2
    obtain ⟨u',r',q⟩:=hl j y v' e1 e2 e3
    refine ⟨u',r',?_⟩
    rcases q with ⟨k,e⟩ | ⟨k,c,e,z⟩
    ·refine .inl ⟨k,?_⟩
     have:y≠x:=fun e=>hj (pM hN e1 (e▸hi))
     simp [this,e]
    ·exact .inr ⟨k,c,e,z.sameBut hs (cne y c e)⟩
  ·obtain ⟨w',z⟩:=I.cell y c e
   exact ⟨w',z.sameBut hs (cne y c e)⟩
  ·obtain ⟨e,n,ne,nf,d⟩:=I.pin p hp
   exact ⟨(hs.2 p.1 ne).trans e,n,ne,nf,d⟩
 ·have hfn:X.fn x=true:=by
   rcases hf with z | z
   ·exact z
   ·rw [z] at hk;cases hk
  obtain ⟨c,hc⟩:=I.ok.has x (.inl hk)
  obtain ⟨w',z⟩:=I.cell x c hc
  refine wpAny_storeName_cell I.ok.kind hk hc z (fun h' hc' hs=>?_)
  obtain ⟨oc,hoc,hocd⟩:=id z
  refine h { s with heap:=h' } ⟨I.ok,I.os,I.bare,⟨fun b o e n hb hx=>?_,fun b o e n hb hx=>?_,I.base.free,fun b o e hx=>?_,I.base.tups,I.base.frzs,I.base.tbls⟩,⟨m,hn.sameBut hs (Ne.symm (cne x c hc)),fun j y v' e1 e2 e3=>?_⟩,fun y c' e=>?_,I.free,I.freeC,fun p hp=>?_,tracked ⟨oc,hoc,I.freeC x c hc⟩ hs,by simpa using I.len⟩ ⟨c,hs,.inr hc⟩
  ·exact (hs.2 b (Nat.ne_of_lt (Nat.lt_of_lt_of_le (Heap.lt_size e) (I.ok.cab x c hfn hc)))).trans (I.base.keep b o e n hb hx)
  ·obtain ⟨sl,e1⟩:=I.base.slot b o e n hb hx
   exact ⟨sl,(hs.2 b (Nat.ne_of_lt (Nat.lt_of_lt_of_le (Heap.lt_size e) (I.ok.cab x c hfn hc)))).trans e1⟩
  ·obtain ⟨o',e1⟩:=I.base.there b o e hx
   exact ⟨o',(hs.2 b (Nat.ne_of_lt (Nat.lt_of_lt_of_le (Heap.lt_size e) (I.ok.cab x c hfn hc)))).trans e1⟩
  ·by_cases hj:j=i
   ·subst hj
    rw [hi] at e1;cases e1
    rw [List.getElem?_set_self hiσ] at e2
    cases e2
    exact ⟨u,r,.inr ⟨.inl hk,c,hc,hc'⟩⟩
   ·rw [List.getElem?_set_ne (Ne.symm hj)] at e2
    obtain ⟨u',r',q⟩:=hl j y v' e1 e2 e3
    refine ⟨u',r',?_⟩
    rcases q with q | ⟨k,c',e,z'⟩
    ·exact .inl q
    ·refine .inr ⟨k,c',e,z'.sameBut hs ?_⟩
     rintro rfl
     exact hj (pM hN e1 (I.ok.inj _ _ _ e hc▸hi))
  ·by_cases hcc:c'=c
   ·subst hcc;exact ⟨_,hc'⟩
   ·obtain ⟨w2,z2⟩:=I.cell y c' e
    exact ⟨w2,z2.sameBut hs hcc⟩
  ·obtain ⟨e,n,ne,nf,d⟩:=I.pin p hp
   refine ⟨(hs.2 p.1 ?_).trans e,n,ne,nf,d⟩
   intro q
   rw [q,hoc] at e
   have q':oc=p.2:=Option.some.inj e
   exact d w' (by rw [←q'];exact hocd)
theorem fj {M:Model}{A:Around}{E:Value→Shared→Prop}{i:Nat}{x:Str}{v:V}{u:Value}{Q:Unit→Shared→Prop} (I:ad X pins σ H s) (hN:X.N.Nodup) (hi:X.N[i]?=some x) (hx:zn X.env.scope x) (r:aR v u)
 (h:∀s',ad X pins (σ.set i (some v)) H s'→Q () s') (hf:X.fn x=true∨X.env.scope.names.lookup x=some .local:=by first | exact .inl rfl | exact .inr rfl | assumption):wpAny M A (storeName X.env x u) Q E s:=
 rH I hN hi hx r (fun s' I' _=>h s' I') hf
theorem ad.call' {s':Shared}{ch:List Addr} (I:ad X pins σ H s) (ho:s'.os=s.os) (u:Un (gb X.stack) ch H H' s.heap s'.heap) (hok:c8 X.prog X.w H' s'.heap) (hg:AllBare s'.gens)
 (hch:∀b∈ch,(b∈X.ex∨X.s₀.heap.objs.size≤b)∧b≠X.env.locals∧(∀x c,X.env.cells.lookup x=some c→c≠b)∧∀p∈X.pn++pins,p.1≠b):ad X pins σ H' s':=by
 obtain ⟨h',g',d',t',o'⟩:=s'
 have e:o'=s.os:=ho
 subst e
 exact I.call (g':=g') (t':=t') (d':=d') u hok hg hch
end
abbrev XK:=Value→Option Addr→Hp→Prop
abbrev St:=List (Option V)
abbrev VK:=V→Hp→Prop
abbrev TE:=St→Hp→VK→Prop
abbrev TT:=St→Hp→(Bool→Hp→Prop)→Prop
abbrev TA:=St→Hp→(List V→Hp→Prop)→Prop
structure cZ where
 nx:St→Hp→Prop
 rt:VK
 bk:St→Hp→Prop:=fun _ _=>False
 ct:St→Hp→Prop:=fun _ _=>False
abbrev TS:=cZ→St→Hp→Prop
inductive EP (X:Cx) (pins:List (Addr×Obj)) (σ:St) (Q:VK) (u:Value) (s':Shared):Prop
 | mk (v:_) (H':_) (h0:ad X pins σ H' s') (h1:aR v u) (h2:Q v H')
def TP (X:Cx) (pins:List (Addr×Obj)) (σ:St) (Q:Bool→Hp→Prop) (b:Bool) (s':Shared):Prop:=∃H',ad X pins σ H' s'∧Q b H'
inductive AP (X:Cx) (pins:List (Addr×Obj)) (σ:St) (Q:List V→Hp→Prop) (us:List Value) (s':Shared):Prop
 | mk (vs:_) (H':_) (h0:ad X pins σ H' s') (h1:av vs us) (h2:Q vs H')
def SP (X:Cx) (pins:List (Addr×Obj)) (D:cZ) (f:Flow) (s':Shared):Prop:=
 match f with
 | .next=>∃σ' H',ad X pins σ' H' s'∧D.nx σ' H'
 | .brk=>∃σ' H',ad X pins σ' H' s'∧D.bk σ' H'
 | .cont=>∃σ' H',ad X pins σ' H' s'∧D.ct σ' H'
 | .ret u=>∃v σ' H',ad X pins σ' H' s'∧aR v u∧D.rt v H'
def PE (X:Cx) (e:Expr) (t:TE):Prop:=
 ∀(pins:List (Addr×Obj)) (s:Shared) (σ:St) (H:Hp) (Q:VK),ad X pins σ H s→t σ H Q→wpAny (model X.prog X.w) X.A (eval e X.env) (EP X pins σ Q) X.xe s
def PT (X:Cx) (e:Expr) (t:TT):Prop:=
 ∀(pins:List (Addr×Obj)) (s:Shared) (σ:St) (H:Hp) (Q:Bool→Hp→Prop),ad X pins σ H s→t σ H Q→wpAny (model X.prog X.w) X.A (isTrue e X.env (eval e X.env)) (TP X pins σ Q) X.xe s
def PW (X:Cx) (e:Expr) (t:TT):Prop:=
 ∀(whole:Sem Value) (pins:List (Addr×Obj)) (s:Shared) (σ:St) (H:Hp) (Q:Bool→Hp→Prop),ad X pins σ H s→t σ H Q→wpAny (model X.prog X.w) X.A (isTrue e X.env whole) (TP X pins σ Q) X.xe s
theorem PW.pt {X:Cx}{e:Expr}{t:TT} (h:PW X e t):PT X e t:=h _
def PA (X:Cx) (es:List Expr) (t:TA):Prop:=
 ∀(pos:Pos) (pins:List (Addr×Obj)) (s:Shared) (σ:St) (H:Hp) (Q:List V→Hp→Prop),ad X pins σ H s→t σ H Q→wpAny (model X.prog X.w) X.A (spliced (backTo pos (starEach es X.env))) (AP X pins σ Q) X.xe s
def PS (X:Cx) (st:Stmt) (t:TS):Prop:=
 ∀(pins:List (Addr×Obj)) (s:Shared) (σ:St) (H:Hp) (D:cZ),ad X pins σ H s→t D σ H→wpAny (model X.prog X.w) X.A (exec st X.env) (SP X pins D) X.xe s
def jO (X:Cx) (st:List Stmt) (t:TS):Prop:=
 ∀(pins:List (Addr×Obj)) (s:Shared) (σ:St) (H:Hp) (D:cZ),ad X pins σ H s→t D σ H→wpAny (model X.prog X.w) X.A (execs st X.env) (SP X pins D) X.xe s
theorem aO {α:Type}{t:Sem α}{Q Q':α→Shared→Prop}{M:Model}{A:Around}{E:Value→Shared→Prop}{s:Shared} (h:wpAny M A t Q E s) (hQ:∀a s,Q a s→Q' a s):wpAny M A t Q' E s:=wpAny_mono h hQ fun _ _ x=>x
section
variable {X:Cx}
inductive DQ (i:Nat) (σ:St) (H:Hp) (Q:VK):Prop
 | mk (v:_) (h0:σ[i]?=some (some v)) (h1:Q v H)
def pX (i:Nat):TE:=fun σ H Q=>DQ i σ H Q
def tC (v:V):TE:=fun _ H Q=>Q v H
theorem wW {i:Nat}{x:Str}{pos:Pos} (hN:X.N[i]?=some x) (hv:wO X.env.scope x) (hd:(x==("__debug__" : Str))=false:=by decide) (hcd:(x==("__classdict__" : Str))=false:=by decide):PE X (.Name x pos) (pX i):=by
 intro pins s σ H Q I h
 obtain ⟨v,e,h⟩:=h
 obtain ⟨m,hn,hl⟩:=I.loc
 obtain ⟨u,r,l⟩:=hl i x v hN e hv
 have fin:EP X pins σ Q u s:=⟨v,H,I,r,h⟩
 rcases l with ⟨hk,hm⟩ | ⟨hk,c,hc,hcell⟩
 ·exact wpAny_Name (wpAny_loadName_local I.ok.kind hk hn hm fin) hd
 ·rcases hk with hk | hk
  ·exact wpAny_Name (wpAny_loadName_cell I.ok.kind hk hc hcell fin) hd
  ·exact wpAny_Name (wpAny_loadName_free I.ok.kind hk hc hcell fin hcd) hd
theorem bD {i j pos}:PE X (.Constant (.int i) j pos) (tC (.int i)):=fun _ _ _ H _ I h=>wpAny_Constant_int ⟨.int i,H,I.tok _,⟨()⟩,h⟩
theorem cT {b j pos}:PE X (.Constant (.bool b) j pos) (tC (.bl b)):=fun _ _ _ H _ I h=>Constant_bool ⟨.bl b,H,I,rfl,h⟩
theorem kB {j pos}:PE X (.Constant .none j pos) (tC .non):=fun _ _ _ H _ I h=>Constant_none ⟨.non,H,I,rfl,h⟩
theorem ac {x j pos}:PE X (.Constant (.str x) j pos) (tC (.str x)):=fun _ _ _ H _ I h=>Calls.Constant_str ⟨.str x,H,I.tok _,⟨()⟩,h⟩
def Gl (X:Cx) (x:Str):Prop:=X.env.kindOf x=some .globalImplicit
theorem ja {E:Value→Shared→Prop}{pins:List (Addr×Obj)}{s:Shared}{σ:St}{H:Hp}{x:Str}{u:Value}{pos:Pos}{Q:Value→Shared→Prop} (I:ad X pins σ H s) (hg:Gl X x) (hm:X.mg x=some u) (h:Q u s)
 (hd:(x==("__debug__" : Str))=false:=by decide):wpAny (model X.prog X.w) X.A (eval (.Name x pos) X.env) Q E s:=
 Calls.Name_function_global I.ok.kind hg (Calls.loadGlobal_global (by rw [I.ok.glob];exact I.mod.glob.keeps I.bk) hm h) hd
theorem kO {E:Value→Shared→Prop}{pins:List (Addr×Obj)}{s:Shared}{σ:St}{H:Hp}{x:Str}{u:Value}{pos:Pos}{Q:Value→Shared→Prop} (I:ad X pins σ H s) (hg:Gl X x) (hm:X.mg x=none) (hv:bootBuiltins x=some u) (h:Q u s)
 (hn:x≠"__name__" := by decide) (hd:(x==("__debug__" : Str))=false:=by decide):wpAny (model X.prog X.w) X.A (eval (.Name x pos) X.env) Q E s:=by
 obtain ⟨mb,h1,h2⟩:=I.mod.blt
 exact Calls.Name_function_global I.ok.kind hg (Calls.loadGlobal_builtin (by rw [I.ok.glob];exact I.mod.glob.keeps I.bk) hm (by rw [I.ok.blt];exact h1.keeps I.bk) ((h2 x hn).trans hv) h) hd
theorem zV {x:Str}{v:V}{u:Value}{pos:Pos} (hg:Gl X x) (hm:X.mg x=none) (hv:bootBuiltins x=some u) (r:aR v u) (hn:x≠"__name__" := by decide) (hd:(x==("__debug__" : Str))=false:=by decide):PE X (.Name x pos) (tC v):=
 fun _ _ _ H _ I h=>kO I hg hm hv ⟨v,H,I,r,h⟩ hn hd
variable {a b:Expr}{ta tb:TE}{pos:Pos}
inductive uf (x:V) (P:Bool→Prop):Prop
 | mk (c:Bool) (e:x=.bl c) (h:P c)
inductive BH (x:V) (P:Int→Prop):Prop
 | mk (c:Int) (e:x=.int c) (h:P c)
def tB (t:TE):TT:=fun σ H Q=>t σ H fun x H1=>uf x fun c=>Q c H1
theorem cP {e:Expr}{t:TE} (h:PE X e t) (he:∀whole,isTrue e X.env whole=(do let v ←whole;standAt e.pos;holding [v] (truthy v)):=by intro _;rfl):PT X e (tB t):=by
 intro pins s σ H Q I hw
 refine isTrue_plain (aO (h pins s σ H _ I hw) fun v s1 ⟨x,H1,I1,r1,q1⟩=>?_) (he _)
 obtain ⟨d,rfl,q⟩:=q1
 cases r1
 exact wpAny_truthy_bool ⟨H1,I1,q⟩
variable {tA tB':TT}{rest:List Expr}
def Ez (t u:TT):TT:=fun σ H Q=>t σ H fun c H1=>if c=true then u σ H1 Q else Q false H1
def E6 (t u:TT):TT:=fun σ H Q=>t σ H fun c H1=>if c=true then Q true H1 else u σ H1 Q
def Er (t:TT):TT:=fun σ H Q=>t σ H fun c H1=>Q (!c) H1
theorem uL (ha:PT X a tA):PW X (.BoolOp .And [a] pos) tA:=by
 intro wh pins s σ H Q I h
 refine isTrue_and (aO (ha pins s σ H Q I h) fun c s1 e=>?_)
 cases c with
 | true=>exact isTrue_and_nil e
 | false=>exact e
theorem pZ (ha:PT X a tA):PW X (.BoolOp .Or [a] pos) tA:=by
 intro wh pins s σ H Q I h
 refine isTrue_or (aO (ha pins s σ H Q I h) fun c s1 e=>?_)
 cases c with
 | false=>exact isTrue_or_nil e
 | true=>exact e
theorem xA (ha:PT X a tA) (hb:PW X (.BoolOp .And (b :: rest) pos) tB'):PW X (.BoolOp .And (a :: b :: rest) pos) (Ez tA tB'):=by
 intro wh pins s σ H Q I h
 refine isTrue_and (aO (ha pins s σ H _ I h) fun c s1 ⟨H1,I1,q1⟩=>?_)
 cases c with
 | true=>exact hb wh pins s1 σ H1 Q I1 q1
 | false=>exact ⟨H1,I1,q1⟩
theorem sU (ha:PT X a tA) (hb:PW X (.BoolOp .Or (b :: rest) pos) tB'):PW X (.BoolOp .Or (a :: b :: rest) pos) (E6 tA tB'):=by
 intro wh pins s σ H Q I h
 refine isTrue_or (aO (ha pins s σ H _ I h) fun c s1 ⟨H1,I1,q1⟩=>?_)
 cases c with
 | true=>exact ⟨H1,I1,q1⟩
 | false=>exact hb wh pins s1 σ H1 Q I1 q1
theorem gY (ha:PT X a tA):PT X (.UnaryOp .Not a pos) (Er tA):=by
 intro pins s σ H Q I h
 exact isTrue_not (ha pins s σ H (fun c H1=>Q (!c) H1) I h)
def DO (ta tb:TE):TE:=fun σ H Q=>ta σ H fun x H1=>uf x fun c=>if c=true then tb σ H1 Q else Q (.bl false) H1
def EF (ta tb:TE):TE:=fun σ H Q=>ta σ H fun x H1=>uf x fun c=>if c=true then Q (.bl true) H1 else tb σ H1 Q
theorem lL {op}{t:TE} (h:PE X a t):PE X (.BoolOp op [a] pos) t:=fun pins s σ H Q I hw=>BoolOp_one (h pins s σ H Q I hw)
theorem kc (ha:PE X a ta) (hb:PE X (.BoolOp .And (b :: rest) pos) tb):PE X (.BoolOp .And (a :: b :: rest) pos) (DO ta tb):=by
 intro pins s σ H Q I h
 refine BoolOp_and (aO (ha pins s σ H _ I h) fun v s1 ⟨x,H1,I1,r1,q1⟩=>?_)
 obtain ⟨c,rfl,q1⟩:=q1
 cases r1
 refine wpAny_truthy_bool ?_
 cases c with
 | true=>exact hb pins s1 σ H1 Q I1 q1
 | false=>exact ⟨.bl false,H1,I1,rfl,q1⟩
theorem Ds (ha:PE X a ta) (hb:PE X (.BoolOp .Or (b :: rest) pos) tb):PE X (.BoolOp .Or (a :: b :: rest) pos) (EF ta tb):=by
 intro pins s σ H Q I h
 refine BoolOp_or (aO (ha pins s σ H _ I h) fun v s1 ⟨x,H1,I1,r1,q1⟩=>?_)
 obtain ⟨c,rfl,q1⟩:=q1
 cases r1
 refine wpAny_truthy_bool ?_
 cases c with
 | false=>exact hb pins s1 σ H1 Q I1 q1
 | true=>exact ⟨.bl true,H1,I1,rfl,q1⟩
def E1 (t:TT) (ta tb:TE):TE:=fun σ H Q=>t σ H fun c H1=>if c=true then ta σ H1 Q else tb σ H1 Q
theorem di {c:Expr} (hc:PT X c tA) (ha:PE X a ta) (hb:PE X b tb):PE X (.IfExp c a b pos) (E1 tA ta tb):=by
 intro pins s σ H Q I h
 refine wpAny_IfExp (aO (hc pins s σ H _ I h) fun d s1 ⟨H1,I1,q1⟩=>?_)
 cases d with
 | true=>exact ha pins s1 σ H1 Q I1 q1
 | false=>exact hb pins s1 σ H1 Q I1 q1
end
def af (K:PySem.W.Frag) (H:Hp) (a:Addr) (xs:List V):Prop:=
 Rd H a (.lst xs)∨
  iC fun (o:Obj) (its:Array Value) (n:Nat)=>K.lookup a=some o∧o.cls=.type "list"∧o.dict=none∧o.data=.seq its n∧its.size≤sizeLine∧av xs its.toList
def ah (K:PySem.W.Frag) (H:Hp) (a:Addr) (xs:List V):Prop:=
 Rd H a (.tup xs)∨
  iC fun (o:Obj) (its:Array Value) (n:Nat)=>K.lookup a=some o∧o.cls=.type "tuple"∧o.data=.seq its n∧its.size≤sizeLine∧av xs its.toList
def Es:Value→Option V
 | .none=>some .non
 | .bool b=>some (.bl b)
 | .int i _=>some (.int i)
 | .str x _=>some (.str x)
 | .bytes b _=>some (.byt b)
 | .float b _=>some (.flt b)
 | .ref a=>some (.ref a)
 | .type n=>some (.ty n)
 | _=>none
theorem aR.abs {x:V}{u:Value} (r:aR x u):Es u=some x:=by
 cases x with
 | non=>cases r;rfl
 | bl _=>cases r;rfl
 | int _=>obtain ⟨t,rfl⟩:=r;rfl
 | str _=>obtain ⟨t,rfl⟩:=r;rfl
 | byt _=>obtain ⟨t,rfl⟩:=r;rfl
 | flt _=>obtain ⟨t,rfl⟩:=r;rfl
 | ref _=>cases r;rfl
 | ty _=>cases r;rfl
theorem aR.inj {x y:V}{u:Value} (r:aR x u) (q:aR y u):x=y:=Option.some.inj (r.abs.symm.trans q.abs)
theorem av.inj:∀{xs ys:List V}{us:List Value},av xs us→av ys us→xs=ys
 | _,_,_,.nil,.nil=>rfl
 | _,_,_,.cons r t,.cons r' t'=>by rw [r.inj r',av.inj t t']
section
variable {X:Cx}{pins:List (Addr×Obj)}{σ:St}{H:Hp}{s:Shared}{a:Addr}{xs ys:List V}
theorem af.of {K:PySem.W.Frag} (h:H a=some (.lst xs)):af K H a xs:=.inl (.inl h)
theorem ah.of {K:PySem.W.Frag} (h:H a=some (.tup xs)):ah K H a xs:=.inl (.inl h)
theorem ad.list (I:ad X pins σ H s) (h:af X.K H a xs):∃its:List Value,av xs its∧PlainL s.heap a its.toArray∧xs.length≤sizeLine:=by
 rcases h with h | ⟨o,its,n,hk,hc,hd,hs,hz,r⟩
 ·obtain ⟨z,its,n,r,e⟩:=h.ok I.hok
  exact ⟨its,r,⟨_,n,e,rfl,rfl,rfl⟩,z⟩
 ·refine ⟨its.toList,r,⟨o,n,I.kIn a o hk,hc,hd,by simpa using hs⟩,?_⟩
  have e:=r.length
  simp only [Array.length_toList] at e
  trivial
theorem ad.tuple (I:ad X pins σ H s) (h:ah X.K H a xs):∃its:List Value,av xs its∧IsTup s.heap a its.toArray∧xs.length≤sizeLine:=by
 rcases h with h | ⟨o,its,n,hk,hc,hs,hz,r⟩
 ·obtain ⟨z,its,r,p,_⟩:=h.ok I.hok
  exact ⟨its,r,p,z⟩
 ·refine ⟨its.toList,r,⟨o,I.kIn a o hk,hc,n,by simpa using hs⟩,?_⟩
  have e:=r.length
  simp only [Array.length_toList] at e
  trivial
theorem ad.list_inj (I:ad X pins σ H s) (h:af X.K H a xs) (h':af X.K H a ys):xs=ys:=by
 obtain ⟨its,r,⟨o,n,e,_,_,d⟩,_⟩:=I.list h
 obtain ⟨its',r',⟨o',n',e',_,_,d'⟩,_⟩:=I.list h'
 rw [e] at e';cases e'
 rw [d] at d'
 injection d' with d1 _
 have:its=its':=by simpa using congrArg Array.toList d1
 subst this
 exact r.inj r'
theorem ad.tuple_inj (I:ad X pins σ H s) (h:ah X.K H a xs) (h':ah X.K H a ys):xs=ys:=by
 obtain ⟨its,r,⟨o,e,_,n,d⟩,_⟩:=I.tuple h
 obtain ⟨its',r',⟨o',e',_,n',d'⟩,_⟩:=I.tuple h'
 rw [e] at e';cases e'
 rw [d] at d'
 injection d' with d1 _
 have:its=its':=by simpa using congrArg Array.toList d1
 subst this
 exact r.inj r'
end
abbrev Cx.wish (X:Cx) (E:Value→Shared→Prop):Cx:={ X with xe:=E }
abbrev Cx.nox (X:Cx):Cx:=X.wish fun _ _=>False
theorem Cx.Ok.wish {X:Cx} (ok:X.Ok) (E:Value→Shared→Prop):(X.wish E).Ok:=
 ⟨ok.mod,ok.kind,ok.glob,ok.blt,ok.above,ok.inj,ok.has,ok.cab,ok.hd,ok.frames,ok.stk,ok.exf,ok.bs,ok.bsz,ok.noex,ok.exfs,ok.funs,ok.frf⟩
theorem Cx.Ok.unwish {X:Cx}{E:Value→Shared→Prop} (ok:(X.wish E).Ok):X.Ok:=
 ⟨ok.mod,ok.kind,ok.glob,ok.blt,ok.above,ok.inj,ok.has,ok.cab,ok.hd,ok.frames,ok.stk,ok.exf,ok.bs,ok.bsz,ok.noex,ok.exfs,ok.funs,ok.frf⟩
section
variable {X:Cx}{pins:List (Addr×Obj)}{σ:St}{H:Hp}{s:Shared}{E:Value→Shared→Prop}
theorem ad.wish (I:ad X pins σ H s) (E:Value→Shared→Prop):ad (X.wish E) pins σ H s:=⟨I.ok.wish E,I.os,I.bare,I.base,I.loc,I.cell,I.free,I.freeC,I.pin,I.hok,I.len⟩
theorem ad.unwish (I:ad (X.wish E) pins σ H s):ad X pins σ H s:=⟨I.ok.unwish,I.os,I.bare,I.base,I.loc,I.cell,I.free,I.freeC,I.pin,I.hok,I.len⟩
theorem SP.unwish {D:cZ}{f:Flow}{s':Shared} (h:SP (X.wish E) pins D f s'):SP X pins D f s':=by
 cases f with
 | next=>obtain ⟨σ',H',I,q⟩:=h;exact ⟨σ',H',I.unwish,q⟩
 | brk=>obtain ⟨σ',H',I,q⟩:=h;exact ⟨σ',H',I.unwish,q⟩
 | cont=>obtain ⟨σ',H',I,q⟩:=h;exact ⟨σ',H',I.unwish,q⟩
 | ret u=>obtain ⟨v,σ',H',I,r,q⟩:=h;exact ⟨v,σ',H',I.unwish,r,q⟩
theorem jO.nox {st:List Stmt}{t:TS} (h:jO X.nox st t):jO X st t:=fun pins s σ H D I hw=>
 wpAny_mono (h pins s σ H D (I.wish _) hw) (fun _ _ q=>q.unwish) fun _ _ z=>False.elim z
end
section
variable {X:Cx}{st:Stmt}{rest:List Stmt}{t u:TS}{e:Expr}{te:TE}{pos:Pos}
def vF:TS:=fun D σ H=>D.nx σ H
def kP (t u:TS):TS:=fun D σ H=>t { D with nx:=u D } σ H
theorem az:jO X [] vF:=fun _ _ σ H _ I h=>wpAny_execs_nil ⟨σ,H,I,h⟩
theorem ie (h1:PS X st t) (h2:jO X rest u):jO X (st :: rest) (kP t u):=by
 intro pins s σ H D I h
 refine wpAny_execs_cons (aO (h1 pins s σ H { D with nx:=u D } I h) fun f s1 q=>?_)
 cases f with
 | next=>
  obtain ⟨σ',H',I',q⟩:=q
  exact h2 pins s1 σ' H' D I' q
 | ret v=>exact q
 | brk=>exact q
 | cont=>exact q
theorem aa (h1:PS X st t):jO X [st] t:=by
 intro pins s σ H D I h
 refine wpAny_execs_cons (aO (h1 pins s σ H D I h) fun f s1 q=>?_)
 cases f with
 | next=>exact wpAny_execs_nil q
 | ret v=>exact q
 | brk=>exact q
 | cont=>exact q
theorem ad.quiet {pins:List (Addr×Obj)}{σ:St}{H:Hp}{s:Shared} (I:ad X pins σ H s):interactive X.env=false:=by simp [interactive,I.ok.kind]
def CS (te:TE):TS:=fun D σ H=>te σ H fun _ H1=>D.nx σ H1
theorem bj (he:PE X e te) (hs:swapsWith e none pos.line X.env=pure false:=by rfl):PS X (.Expr e pos) (CS te):=by
 intro pins s σ H D I h
 exact wpAny_Expr_any (aO (he pins s σ H _ I h) fun v s1 ⟨x,H1,I1,r1,q1⟩=>⟨σ,H1,I1,q1⟩) I.quiet hs
def Ew (te:TE):TS:=fun D σ H=>te σ H D.rt
theorem am (he:PE X e te):PS X (.Return (some e) pos) (Ew te):=by
 intro pins s σ H D I h
 exact wpAny_Return_some (aO (he pins s σ H _ I h) fun v s1 ⟨x,H1,I1,r1,q1⟩=>⟨x,σ,H1,I1,r1,q1⟩)
def pQ (c:TT) (t u:TS):TS:=fun D σ H=>c σ H fun b H1=>if b=true then t D σ H1 else u D σ H1
theorem aL {c:Expr}{a b:List Stmt}{tc:TT} (hc:PT X c tc) (ha:jO X a t) (hb:jO X b u):PS X (.If c a b pos) (pQ tc t u):=by
 intro pins s σ H D I h
 refine wpAny_If (aO (hc pins s σ H _ I h) fun d s1 ⟨H1,I1,q1⟩=>?_)
 cases d with
 | true=>exact ha pins s1 σ H1 D I1 q1
 | false=>exact hb pins s1 σ H1 D I1 q1
end
abbrev TG:=V→St→Hp→(St→Hp→Prop)→Prop
abbrev pE:=List V→St→Hp→(St→Hp→Prop)→Prop
def PG (X:Cx) (target:Expr) (t:TG):Prop:=
 ∀(pins:List (Addr×Obj)) (s:Shared) (σ:St) (H:Hp) (v:V) (u:Value) (Q:St→Hp→Prop),ad X pins σ H s→aR v u→t v σ H Q→
   wpAny (model X.prog X.w) X.A (assign target X.env u) (fun _ s'=>∃σ' H',ad X pins σ' H' s'∧Q σ' H') X.xe s
def xB (X:Cx) (ts:List Expr) (t:pE):Prop:=
 ∀(pins:List (Addr×Obj)) (s:Shared) (σ:St) (H:Hp) (vs:List V) (us:List Value) (Q:St→Hp→Prop),ad X pins σ H s→av vs us→t vs σ H Q→
   wpAny (model X.prog X.w) X.A (assignInOrder ((assignEach ts X.env).map (·.2)) us) (fun _ s'=>∃σ' H',ad X pins σ' H' s'∧Q σ' H') X.xe s
abbrev xT:=V→V→V→Hp→(Hp→Prop)→Prop
def wz (X:Cx) (t:xT):Prop:=
 ∀(pins:List (Addr×Obj)) (s:Shared) (σ:St) (H:Hp) (o i v:V) (ov iv u:Value) (Q:Hp→Prop),ad X pins σ H s→aR o ov→aR i iv→aR v u→t o i v H Q→
   wpAny (model X.prog X.w) X.A (setItem ov iv u) (fun _ s'=>∃H',ad X pins σ H' s'∧Q H') X.xe s
section
variable {X:Cx}{pos:Pos}
def o6 (i:Nat):TG:=fun v σ H Q=>Q (σ.set i (some v)) H
theorem lW {i:Nat}{x:Str} (hN:X.N.Nodup) (hi:X.N[i]?=some x) (hx:zn X.env.scope x) (hf:X.fn x=true∨X.env.scope.names.lookup x=some .local:=by first | exact .inl rfl | exact .inr rfl | assumption):PG X (.Name x pos) (o6 i):=by
 intro pins s σ H v u Q I r h
 exact wpAny_assign_Name (fj I hN hi hx r (fun s' I'=>⟨_,H,I',h⟩) hf)
def BL:pE:=fun vs σ H Q=>vs=[]∧Q σ H
inductive A0 (t:TG) (u:pE) (vs:List V) (σ:St) (H:Hp) (Q:St→Hp→Prop):Prop
 | mk (v:_) (r:_) (h0:vs=v :: r) (h1:t v σ H fun σ' H'=>u r σ' H' Q)
def vw (t:TG) (u:pE):pE:=fun vs σ H Q=>A0 t u vs σ H Q
theorem cq:xB X [] BL:=by
 intro pins s σ H vs us Q I r h
 obtain ⟨e,h⟩:=h
 subst e
 cases r
 exact assignInOrder_nil ⟨σ,H,I,h⟩
theorem aq {e:Expr}{es:List Expr}{t:TG}{u:pE} (h1:PG X e t) (h2:xB X es u)
 (hs:(assignEach (e :: es) X.env).map (·.2)=assign e X.env :: (assignEach es X.env).map (·.2):=by rfl):xB X (e :: es) (vw t u):=by
 intro pins s σ H vs us Q I r h
 obtain ⟨v,vr,e1,h⟩:=h
 subst e1
 cases r with
 | cons r rr=>
  rw [hs]
  refine assignInOrder_cons (aO (h1 pins s σ H _ _ _ I r h) fun _ s1 ⟨σ1,H1,I1,q1⟩=>?_)
  exact h2 pins s1 σ1 H1 _ _ Q I1 rr q1
inductive CW (K:PySem.W.Frag) (n:Nat) (t:pE) (v:V) (σ:St) (H:Hp) (Q:St→Hp→Prop):Prop
 | mk (a:_) (xs:_) (h0:v=.ref a) (h1:ah K H a xs) (h2:xs.length=n) (h3:t xs σ H Q)
def xV (K:PySem.W.Frag) (n:Nat) (t:pE):TG:=fun v σ H Q=>CW K n t v σ H Q
theorem xC {es:List Expr}{k:Nat}{t:pE}{n:Nat} (hc:X.calm=true) (h:xB X es t)
 (hn:(assignEach es X.env).length=n:=by rfl) (hst:(assignEach es X.env).findIdx? (·.1)=none:=by rfl):PG X (.Tuple es k pos) (xV X.K n t):=by
 intro pins s σ H v u Q I r hw
 obtain ⟨a,xs,e1,hq,hl,hw⟩:=hw
 subst e1
 cases r
 obtain ⟨its,rv,ht,hz⟩:=I.tuple hq
 refine assign_Tuple_tuple (I.ok.hd hc) ht (by simp [hn,←hl,rv.length]) hst fun h' hx=>?_
 have I1:ad X pins σ H { s with heap:=h' }:=I.kept (t':=s.toks) fun b o e=>hx b o (Nat.ne_of_lt (Heap.lt_size e)) e
 exact h pins _ σ H xs _ Q I1 (by simpa using rv) hw
def Ei (to ti:TE) (t:xT):TG:=fun v σ H Q=>to σ H fun o H1=>ti σ H1 fun i H2=>t o i v H2 fun H3=>Q σ H3
theorem lY {o i:Expr}{to ti:TE}{t:xT} (ho:PE X o to) (hi:PE X i ti) (hs:wz X t)
 (ha:∀v,assign (.Subscript o i pos) X.env v=(do
  let ov ←holding [v] (eval o X.env)
  let iv ←holding [v,ov] (eval i X.env)
  standAt pos
  holding [v,ov,iv] (setItem ov iv v)
  release [v,ov,iv] []):=by intro _;rfl):PG X (.Subscript o i pos) (Ei to ti t):=by
 intro pins s σ H v u Q I r h
 rw [ha]
 refine wpAny_bind (wpAny_holding (aO (ho pins s σ H _ I h) fun ov s1 ⟨x,H1,I1,r1,q1⟩=>?_))
 refine wpAny_bind (wpAny_holding (aO (hi pins s1 σ H1 _ I1 q1) fun iv s2 ⟨y,H2,I2,r2,q2⟩=>?_))
 refine wpAny_bind (wpAny_standAt (wpAny_bind (wpAny_holding (aO (hs pins s2 σ H2 x y v ov iv u _ I2 r1 r2 r q2) fun _ s3 ⟨H3,I3,q3⟩=>?_))))
 exact wpAny_release ⟨σ,H3,I3,q3⟩
def wD (te:TE) (g:TG):TS:=fun D σ H=>te σ H fun x H1=>g x σ H1 D.nx
theorem dL {tg e:Expr}{te:TE}{g:TG} (he:PE X e te) (hg:PG X tg g) (hs:swapsWithSole [tg] e pos.line X.env=pure false:=by rfl) (hw:swappedStores [tg] e X.env=pure none:=by rfl)
 (h1:(assignEach [tg] X.env).map (·.2)=[assign tg X.env]:=by rfl):PS X (.Assign [tg] e pos) (wD te g):=by
 intro pins s σ H D I h
 refine wpAny_Assign_stores (aO (he pins s σ H _ I h) fun v s1 ⟨x,H1,I1,r1,q1⟩=>?_) hs hw
 rw [h1]
 exact aO (hg pins s1 σ H1 x v _ I1 r1 q1) fun _ s2 q=>q
theorem nt {i:Nat}{x:Str}{e:Expr}{te:TE}{pos':Pos} (hN:X.N.Nodup) (hi:X.N[i]?=some x) (hx:zn X.env.scope x) (he:PE X e te) (hs:swapsWith e (some (.Name x pos')) pos.line X.env=pure false:=by rfl) (hf:X.fn x=true∨X.env.scope.names.lookup x=some .local:=by first | exact .inl rfl | exact .inr rfl | assumption) :
 PS X (.Assign [.Name x pos'] e pos) (wD te (o6 i)):=by
 intro pins s σ H D I h
 refine wpAny_Assign_Name (aO (he pins s σ H _ I h) fun v s1 ⟨y,H1,I1,r1,q1⟩=>?_) hs
 exact fj I1 hN hi hx r1 (fun s2 I2=>⟨_,H1,I2,q1⟩) hf
def Bz (i j:Nat) (ta:TA):TS:=fun D σ H=>ta σ H fun vs H1=>bw fun v w=>vs=[v,w]∧D.nx ((σ.set i (some v)).set j (some w)) H1
theorem kG {i j:Nat}{x y:Str}{a b:Expr}{ta:TA}{px py pt:Pos}{kt k2 pt2} (hc:X.calm=true) (hN:X.N.Nodup) (hi:X.N[i]?=some x) (hj:X.N[j]?=some y) (hij:i≠j)
 (hx:X.env.scope.names.lookup x=some .local) (hy:X.env.scope.names.lookup y=some .local) (ha:PA X [a,b] ta)
 (hw:swappedStores [.Tuple [.Name x px,.Name y py] kt pt] (.Tuple [a,b] k2 pt2) X.env=pure (some [x,y]))
 (hs:swapsWithSole [.Tuple [.Name x px,.Name y py] kt pt] (.Tuple [a,b] k2 pt2) pos.line X.env=pure false:=by rfl) :
 PS X (.Assign [.Tuple [.Name x px,.Name y py] kt pt] (.Tuple [a,b] k2 pt2) pos) (Bz i j ta):=by
 intro pins s σ H D I h
 rw [exec_Assign_arm]
 refine wpAny_bind (wpAny_standAt ?_)
 rw [hs]
 refine wpAny_bind (wpAny_pure ?_)
 rw [if_neg (by decide)]
 refine wpAny_bind (Tuple_ (aO (ha _ pins s σ H _ I h) fun us s1 ⟨vs,H1,I1,r1,q1⟩=>?_))
 obtain ⟨v,w,e1,q1⟩:=q1
 subst e1
 obtain ⟨u1,u2,rfl,rv,rw'⟩:bw fun u1 u2=>us=[u1,u2]∧aR v u1∧aR w u2:=by
  cases r1 with
  | cons p q=>
   cases q with
   | cons p' q'=>
    cases q'
    exact ⟨_,(),p,p'⟩
 refine wpAny_newObj_type ?_ (by show 2≤sizeLine;decide)
 have I2:ad X pins σ H1 { s1 with heap:=s1.heap.push { cls:=.type "tuple",data:=.seq [u1,u2].toArray } }:=I1.kept (t':=s1.toks) fun b o e=>Heap.get?_push_of_some _ e
 rw [hw]
 refine wpAny_bind (wpAny_pure ?_)
 show wpAny (model X.prog X.w) X.A (do rule "assign.swapped-stores";let items ←unpackItems (.ref s1.heap.objs.size) 2 none;assignInOrder [fun v=>bindName X.env y v,fun v=>bindName X.env x v] items.reverse;pure Flow.next) _ _ _
 refine wpAny_bind (wpAny_rule (wpAny_bind (unpackItems_tuple (items:=#[u1,u2]) (I.ok.hd hc) (IsTup.new s1.heap _) fun h' hx'=>?_)))
 have I3:=I2.kept (h':=h') (t':=s1.toks) fun b o e=>hx' b o (Nat.ne_of_lt (Heap.lt_size e)) e
 show wpAny _ _ (assignInOrder [fun v=>bindName X.env y v,fun v=>bindName X.env x v] [u2,u1] >>= fun _=>pure Flow.next) _ _ _
 refine wpAny_bind (assignInOrder_cons (wpAny_bindName (fj I3 hN hj (.inl hy) rw' (fun s2 I4=>?_) (.inr hy))))
 refine assignInOrder_cons (wpAny_bindName (fj I4 hN hi (.inl hx) rv (fun s3 I5=>assignInOrder_nil (wpAny_pure ?_)) (.inr hx)))
 rw [List.set_comm _ _ (Ne.symm hij)] at I5
 exact ⟨_,H1,I5,q1⟩
end
section
variable {X:Cx}{pos:Pos}
def ui (c:TT) (tb:TS):TS:=fun D σ H=>∃W:Nat→St→Hp→Prop,(∃m,W m σ H)∧∀m σ H,W m σ H→
 c σ H fun b H1=>if b=true then ∃N:St→Hp→Prop,(∀σ' H',N σ' H'→∃m',m'<m∧W m' σ' H')∧tb { D with nx:=N,ct:=N,bk:=D.nx } σ H1 else D.nx σ H1
theorem ud {c:Expr}{body:List Stmt}{tc:TT}{tb:TS} (hp:PassesOwn (model X.prog X.w) X.A X.env X.xe) (hc:PT X c tc) (hb:jO X body tb):PS X (.While c body [] pos) (ui tc tb):=by
 intro pins s σ H D I h
 obtain ⟨W,⟨m0,w0⟩,turn⟩:=h
 refine wpAny_While (codeAny_whileLoop (fun n s'=>∃σ' H',ad X pins σ' H' s'∧W n σ' H') ?_ m0 ⟨σ,H,I,w0⟩)
 rintro n s1 ⟨σ1,H1,I1,w1⟩
 refine wpAny_passesOwn hp (aO (hc pins s1 σ1 H1 _ I1 (turn n σ1 H1 w1)) fun b s2 ⟨H2,I2,q2⟩=>?_)
 cases b with
 | true=>
  obtain ⟨N,hN,q2⟩:=q2
  rw [if_pos rfl]
  refine wpAny_passesOwn hp (aO (hb pins s2 σ1 H2 _ I2 q2) fun f s3 q3=>?_)
  cases f with
  | next=>
   obtain ⟨σ3,H3,I3,n3⟩:=q3
   obtain ⟨m',hm,w3⟩:=hN σ3 H3 n3
   exact ⟨m',hm,σ3,H3,I3,w3⟩
  | cont=>
   obtain ⟨σ3,H3,I3,n3⟩:=q3
   obtain ⟨m',hm,w3⟩:=hN σ3 H3 n3
   exact ⟨m',hm,σ3,H3,I3,w3⟩
  | brk=>exact q3
  | ret v=>exact q3
 | false=>
  rw [if_neg Bool.false_ne_true]
  exact wpAny_execs_nil ⟨σ1,H2,I2,q2⟩
end
structure It where
 go:Nat→Hp→Prop
 yld:Nat→Hp→V→Hp→Prop
 stop:Nat→Hp→Prop
def jZ (X:Cx) (pins:List (Addr×Obj)) (H:Hp) (b:Addr):Prop:=
 H b=none∧b≠X.env.locals∧b∉X.fs∧(b∈X.ex∨X.s₀.heap.objs.size≤b)∧(∀x c,X.env.cells.lookup x=some c→c≠b)∧∀p∈X.pn++pins,p.1≠b
theorem ad.fpOk {X:Cx}{pins:List (Addr×Obj)}{σ:St}{H H':Hp}{s:Shared}{b:Addr} (I:ad X pins σ H s) (hb:s.heap.objs.size≤b) (hn:H' b=none):jZ X pins H' b:=by
 refine ⟨hn,Nat.ne_of_gt (Nat.lt_of_lt_of_le I.lt hb),I.nofs hb,.inr (Nat.le_trans I.sz hb),fun x c e z=>?_,fun p hp z=>?_⟩
 ·obtain ⟨v,q⟩:=I.cell x c e
  exact absurd (Nat.lt_of_lt_of_le q.lt (by rw [z];exact hb)) (Nat.lt_irrefl _)
 ·exact absurd (Nat.lt_of_lt_of_le (Heap.lt_size (I.pin p hp).1) (by rw [z];exact hb)) (Nat.lt_irrefl _)
structure qK (P:Program) (w:World) (K:PySem.W.Frag) (tg:Expr) (J:It) (fp:List Addr) (it:Addr) (tn:Nat→Heap→Prop):Prop where
 mem:it∈fp
 obj:∀i h,tn i h→∀b∈fp,∃o,h.get? b=some o∧∀v,o.data≠.cell v
 keep:∀i h h',tn i h→(∀b∈fp,∀o,h.get? b=some o→h'.get? b=some o)→tn i h'
 item:∀(X:Cx),X.prog=P→X.w=w→X.K=K→X.calm=true→∀(i:Nat) (pins:List (Addr×Obj)) (s:Shared) (σ:St) (H:Hp) (E:Value→Shared→Prop),ad X pins σ H s→(∀b∈fp,jZ X pins H b)→tn i s.heap→J.go i H→
  wpAny (model P w) X.A (pyNext (.ref it)) (fun r s1=>∃u,r=some u∧
   wpAny (model P w) X.A (letOwnedTupleGo tg (.ref it) u) (fun _ s2=>bw fun x H'=>ad X pins σ H' s2∧aR x u∧J.yld i H x H'∧tn (i+1) s2.heap∧∀b∈fp,H' b=none) E s1) E s
 done:∀(X:Cx),X.prog=P→X.w=w→X.K=K→X.calm=true→∀(i:Nat) (pins:List (Addr×Obj)) (s:Shared) (σ:St) (H:Hp) (E:Value→Shared→Prop),ad X pins σ H s→(∀b∈fp,jZ X pins H b)→tn i s.heap→J.stop i H→
  wpAny (model P w) X.A (pyNext (.ref it)) (fun r s1=>r=none∧ad X pins σ H s1) E s
 self:∀(A:Around) (i:Nat) (s:Shared) (Q:Value→Shared→Prop) (E:Value→Shared→Prop),tn i s.heap→Q (.ref it) s→wpAny (model P w) A (pyIter (.ref it)) Q E s
abbrev TI:=St→Hp→(It→Hp→Prop)→Prop
def Ed (X:Cx) (pins:List (Addr×Obj)) (σ:St) (tg:Expr) (R:It→Hp→Prop) (itv:Value) (s2:Shared):Prop:=
 zm fun (it:Addr) (fp:List Addr) (tn:Nat→Heap→Prop) (J:It) (H':Hp)=>itv=.ref it∧ad X pins σ H' s2∧qK X.prog X.w X.K tg J fp it tn∧tn 0 s2.heap∧(∀b∈fp,jZ X pins H' b)∧R J H'
def PI (X:Cx) (tg iter:Expr) (wi:TI):Prop:=
 ∀(pins:List (Addr×Obj)) (s:Shared) (σ:St) (H:Hp) (R:It→Hp→Prop),ad X pins σ H s→wi σ H R→
   wpAny (model X.prog X.w) X.A (eval iter X.env) (fun v s1=>wpAny (model X.prog X.w) X.A (pyIter v) (Ed X pins σ tg R) X.xe s1) X.xe s
theorem zr {M:Model}{A:Around}{E:Value→Shared→Prop}{s:Shared}{tg:Expr}{it:Addr}{u:Value}{o:Obj}{n:String}{vs:Array Value}{Q:Unit→Shared→Prop} (ho:s.heap.get? it=some o) (hc:o.cls=.type n) (hd:o.data=.fields vs)
 (hn:["enumerate", "zip", "dict_itemiterator", "dict_reverseitemiterator", "odict_iterator", "itertools.zip_longest", "itertools.pairwise"].contains n=false) (hQ:Q () s):wpAny M A (letOwnedTupleGo tg (.ref it) u) Q E s:=by
 unfold letOwnedTupleGo
 cases tg <;> first
  | exact wpAny_pure hQ
  | (cases u <;> first
   | exact wpAny_pure hQ
   | (refine wpAny_bind (wpAny_load ho ?_)
      rw [hc,hd]
      show wpAny M A (if (["enumerate", "zip", "dict_itemiterator", "dict_reverseitemiterator", "odict_iterator", "itertools.zip_longest", "itertools.pairwise"].contains n && vs[0]?==some (rawInt _))=true then _ else _) Q E s
      rw [if_neg (by intro h;rw [hn,Bool.false_and] at h;cases h)]
      exact wpAny_pure hQ))
def wI (K:PySem.W.Frag) (a:Addr):It:=
 ⟨fun i H=>bw fun xs x=>af K H a xs∧xs[i]?=some x,fun i H x H'=>H'=H∧∀xs,af K H a xs→xs[i]?=some x,fun i H=>∃xs,af K H a xs∧xs.length≤i⟩
def uG (lo:Int) (n:Nat):It:=⟨fun i _=>i<n,fun i H x H'=>H'=H∧x=.int (lo+i),fun i _=>n≤i⟩
theorem xw {P:Program}{w:World}{K:PySem.W.Frag}{tg:Expr} (a it:Addr):qK P w K tg (wI K a) [it] it (fun i h=>h.IsListIter it a i) where
 mem:=by simp
 obj:=fun i h st b hb=>by
  have e:b=it:=by simpa using hb
  subst e
  obtain ⟨o,e,c,d⟩:=st
  exact ⟨o,e,fun v z=>by rw [d] at z;cases z⟩
 keep:=fun i h h' st k=>st.at fun o e=>k it (by simp) o e
 item:=by
  intro X hP hw hK hc i pins s σ H E I hf st hg
  subst hP hw hK
  obtain ⟨xs,x,hq,hx⟩:=hg
  obtain ⟨its,rv,p,hz⟩:=I.list hq
  obtain ⟨u,hu,ru⟩:=rv.get hx
  obtain ⟨f0,f1,f2,f3,f4,f5⟩:=hf it (by simp)
  refine wpAny_pyNext_list_item st p.isList (x:=u) (by simpa using hu) fun h' st' sb=>?_
  have I1:ad X pins σ H { s with heap:=h' }:=I.turned (t':=s.toks) (fun b o hb e=>(sb.2 b hb).trans e) f0 f1 f3 f4 f5
  obtain ⟨o,e,c,d⟩:=id st'
  exact ⟨u,rfl,zr (s:={ s with heap:=h' }) e c d (by decide) ⟨x,H,I1,ru,⟨rfl,fun ys hy=>by rw [I.list_inj hy hq];exact hx⟩,st',fun b hb=>(hf b hb).1⟩⟩
 done:=by
  intro X hP hw hK hc i pins s σ H E I hf st hg
  subst hP hw hK
  obtain ⟨xs,hq,hx⟩:=hg
  obtain ⟨its,rv,p,hz⟩:=I.list hq
  obtain ⟨f0,f1,f2,f3,f4,f5⟩:=hf it (by simp)
  have hl:=rv.length
  exact wpAny_pyNext_list_end (I.ok.hd hc) st p.isList (by simp;trivial) fun h' eb=>⟨rfl,I.turned (t':=s.toks) (fun b o hb e=>eb b o hb e) f0 f1 f3 f4 f5⟩
 self:=fun _ _ _ _ _ st h=>wpAny_pyIter_listiter st h
theorem wC {P:Program}{w:World}{K:PySem.W.Frag}{tg:Expr} (it:Addr) (lo:Int) (n:Nat):qK P w K tg (uG lo n) [it] it (fun i h=>IsRangeIter h it (lo+(i:Nat)*1) ((n:Int) - (i:Nat)) 1) where
 mem:=by simp
 obj:=fun i h st b hb=>by
  have e:b=it:=by simpa using hb
  subst e
  exact ⟨_,st,fun v z=>by
   have z':Data.fields _=Data.cell v:=z
   cases z'⟩
 keep:=fun i h h' st k=>k it (by simp) _ st
 item:=by
  intro X hP hw hK hc i pins s σ H E I hf st hg
  subst hP hw hK
  obtain ⟨f0,f1,f2,f3,f4,f5⟩:=hf it (by simp)
  have W:=Walks.range (prog:=X.prog) (w:=X.w) (I.ok.hd hc) it lo 1 n
  refine W.item i s _ _ hg st fun v h' tk hv st' kk=>?_
  obtain ⟨t,rfl⟩:=hv
  have I1:ad X pins σ H { s with heap:=h',toks:=tk }:=I.turned (fun b o hb e=>kk b o (by simpa using hb) e) f0 f1 f3 f4 f5
  refine ⟨(),zr (s:={ s with heap:=h',toks:=tk }) (n := "range_iterator") st' rfl rfl (by decide) ⟨.int (lo+i),H,I1,⟨t,?_⟩,⟨rfl,rfl⟩,st',fun b hb=>(hf b hb).1⟩⟩
  rw [Int.mul_one]
 done:=by
  intro X hP hw hK hc i pins s σ H E I hf st hg
  subst hP hw hK
  obtain ⟨f0,f1,f2,f3,f4,f5⟩:=hf it (by simp)
  exact wpAny_pyNext_range_end (I.ok.hd hc) st (by have:n≤i:=hg;trivial) fun h' eb=>⟨rfl,I.turned (t':=s.toks) (fun b o hb e=>eb b o hb e) f0 f1 f3 f4 f5⟩
 self:=fun _ _ _ _ _ st h=>wpAny_pyIter_rangeiter st h
section
variable {X:Cx}{tg:Expr}
def zc (K:PySem.W.Frag) (tl:TE):TI:=fun σ H R=>tl σ H fun x H1=>∃a,x=.ref a∧(∃xs,af K H1 a xs)∧R (wI K a) H1
theorem Ab {l:Expr}{tl:TE} (hl:PE X l tl):PI X tg l (zc X.K tl):=by
 intro pins s σ H R I h
 refine aO (hl pins s σ H _ I h) fun v s1 ⟨x,H1,I1,r1,q1⟩=>?_
 obtain ⟨a,e,⟨xs,hq⟩,q⟩:=q1
 subst e
 cases r1
 obtain ⟨its,rv,p,hz⟩:=I1.list hq
 refine wpAny_pyIter_list p.isList ?_
 refine ⟨s1.heap.objs.size,[s1.heap.objs.size],_,_,H1,rfl,I1.kept (t':=s1.toks) fun b o e=>Heap.get?_push_of_some _ e,xw a _,⟨_,Heap.get?_push_size _ rfl,rfl,rfl⟩,fun b hb=>?_,q⟩
 have e:b=s1.heap.objs.size:=by simpa using hb
 subst e
 exact I1.fpOk (Nat.le_refl _) (I1.hok.fresh (Nat.le_refl _))
theorem yK {pins:List (Addr×Obj)}{σ:St}{H:Hp}{s:Shared}{R:It→Hp→Prop}{E:Value→Shared→Prop}{lo hi:Int}{t u v:Tok}{tk:Nat} (I:ad X pins σ H s) (h1:-(2 ^ 62)≤lo) (h2:lo<2 ^ 62) (h3:-(2 ^ 62)≤hi) (h4:hi<2 ^ 62)
 (q:R (uG lo (hi - lo).toNat) H):wpAny (model X.prog X.w) X.A (pyIter (.ref s.heap.objs.size)) (Ed X pins σ tg R) E { s with heap:=s.heap.push { cls:=.type "range",data:=.fields #[.int lo t,.int hi u,.int 1 v] },toks:=tk }:=by
 refine wpAny_pyIter_range (IsRange.new ..) (small_one h1 h2 h3 h4) ?_
 have I1:ad X pins σ H { s with heap:=s.heap.push { cls:=.type "range",data:=.fields #[.int lo t,.int hi u,.int 1 v] },toks:=tk }:=I.kept fun b o e=>Heap.get?_push_of_some _ e
 refine ⟨(s.heap.push { cls:=.type "range",data:=.fields #[.int lo t,.int hi u,.int 1 v] }).objs.size,[(s.heap.push { cls:=.type "range",data:=.fields #[.int lo t,.int hi u,.int 1 v] }).objs.size],_,_,H,rfl,
  I1.kept (t':=tk) fun b o e=>Heap.get?_push_of_some _ e,wC _ lo (hi - lo).toNat,?_,fun b hb=>?_,q⟩
 ·have e1:lo+((0:Nat):Int)*1=lo:=by simp
  have e2:(((hi - lo).toNat:Nat):Int) - ((0:Nat):Int)=Builtin.Range.rangeSize lo hi 1:=by rw [rangeSize_one];split <;> trivial
  show IsRangeIter _ _ (lo+((0:Nat):Int)*1) ((((hi - lo).toNat:Nat):Int) - ((0:Nat):Int)) 1
  rw [e1,e2]
  exact Heap.get?_push_size _ rfl
 ·have e:b=(s.heap.push { cls:=.type "range",data:=.fields #[.int lo t,.int hi u,.int 1 v] }).objs.size:=by simpa using hb
  subst e
  exact I1.fpOk (Nat.le_refl _) (I1.hok.fresh (Nat.le_refl _))
def DR (ta:TA):TI:=fun σ H R=>ta σ H fun vs H1=>∃j:Int,vs=[.int j]∧-(2 ^ 62)≤j∧j<2 ^ 62∧R (uG 0 j.toNat) H1
theorem eU {a:Expr}{ta:TA}{p pos:Pos} (hg:Gl X "range") (hm:X.mg "range" = none) (ha:PA X [a] ta) (hs:starEach [a] X.env=[(false,eval a X.env)]:=by rfl):PI X tg (.Call (.Name "range" p) [a] [] pos) (DR ta):=by
 intro pins s σ H R I h
 refine Call_ (kO I hg hm boot_range (PyProof.Rows.callWith_type1 (aO (ha pos pins s σ H _ I h) fun us s1 ⟨vs,H1,I1,r1,q1⟩=>?_) hs rfl))
 obtain ⟨j,e,q1,q2,q⟩:=q1
 subst e
 cases r1 with
 | cons r rr=>
  cases rr
  obtain ⟨t,rfl⟩:=r
  exact call_range_1 (yK I1 (by trivial) (by trivial) q1 q2 (by simpa using q))
def EA (wi:TI) (g:TG) (tb:TS):TS:=fun D σ H=>wi σ H fun J H1=>∃W:Nat→Nat→St→Hp→Prop,(∃m,W 0 m σ H1)∧∀i m σ H,W i m σ H→
 (J.stop i H∧D.nx σ H)∨(J.go i H∧∃N:St→Hp→Prop,(∀σ' H',N σ' H'→∃m',m'<m∧W (i+1) m' σ' H')∧∀x H',J.yld i H x H'→g x σ H' fun σ2 H2=>tb { D with nx:=N,ct:=N,bk:=D.nx } σ2 H2)
def oH (fp:List Addr) (h:Heap):List (Addr×Obj):=fp.filterMap fun b=>(h.get? b).map fun o=>(b,o)
theorem jW {fp:List Addr}{h:Heap}{b:Addr}{o:Obj} (hb:b∈fp) (e:h.get? b=some o):(b,o)∈oH fp h:=List.mem_filterMap.mpr ⟨b,hb,by rw [e];rfl⟩
theorem xg {fp:List Addr}{h:Heap}{p:Addr×Obj} (hp:p∈oH fp h):p.1∈fp∧h.get? p.1=some p.2:=by
 obtain ⟨b,hb,e⟩:=List.mem_filterMap.mp hp
 cases q:h.get? b with
 | none=>rw [q] at e;cases e
 | some o=>
  rw [q] at e
  have e':(b,o)=p:=Option.some.inj e
  subst e'
  exact ⟨hb,q⟩
theorem ad.pinned {pins:List (Addr×Obj)}{σ:St}{H:Hp}{s:Shared}{fp:List Addr} (I:ad X pins σ H s) (hf:∀b∈fp,jZ X pins H b) (ho:∀b∈fp,∃o,s.heap.get? b=some o∧∀v,o.data≠.cell v):ad X (pins++oH fp s.heap) σ H s:=
 I.pins_of fun p hp=>(List.mem_append.mp hp).elim (fun z=>I.pin p (List.mem_append_right _ z)) fun z=>by
  obtain ⟨hb,e⟩:=xg z
  obtain ⟨f0,f1,f2,_⟩:=hf p.1 hb
  obtain ⟨o,e',d⟩:=ho p.1 hb
  rw [e] at e';cases e'
  exact ⟨e,f0,f1,f2,d⟩
theorem ad.unpinned {pins pl:List (Addr×Obj)}{σ:St}{H:Hp}{s:Shared} (I:ad X (pins++pl) σ H s):ad X pins σ H s:=I.pins_of fun p hp=>I.pin p (List.mem_append_right _ (List.mem_append_left _ hp))
theorem iI {iter:Expr}{body:List Stmt}{wi:TI}{g:TG}{tb:TS}{pos:Pos} (hp:PassesOwn (model X.prog X.w) X.A X.env X.xe) (hc:X.calm=true) (hi:PI X tg iter wi) (hg:PG X tg g) (hb:jO X body tb)
 (hs:∀x,foldedSetIterable iter X.env x=pure x:=by intro _;rfl):PS X (.For tg iter body [] pos) (EA wi g tb):=by
 intro pins s σ H D I h
 refine wpAny_For (aO (hi pins s σ H _ I h) fun v s1 h1=>aO h1 fun itv s2 h2=>?_) hs
 obtain ⟨it,fp,tn,J,H2,e,I2,T,st2,f2,W,⟨m0,w0⟩,turn⟩:=h2
 subst e
 have stat:∀{H':Hp},(∀b∈fp,H' b=none)→∀b∈fp,jZ X pins H' b:=fun hn b hb=>⟨hn b hb,(f2 b hb).2⟩
 refine codeAny_forLoop_any (fun n s'=>∃i σ' H',ad X pins σ' H' s'∧tn i s'.heap∧(∀b∈fp,H' b=none)∧W i n σ' H') ?_ m0 ⟨0,σ,H2,I2,st2,fun b hb=>(f2 b hb).1,w0⟩
 rintro n s3 ⟨i,σ3,H3,I3,st3,fr3,w3⟩
 rcases turn i n σ3 H3 w3 with ⟨stop,qn⟩ | ⟨go,N,hN,step⟩
 ·refine wpAny_passesOwn hp (aO (T.done X rfl rfl rfl hc i pins s3 σ3 H3 X.xe I3 (stat fr3) st3 stop) fun r s4 ⟨hr,I4⟩=>?_)
  subst hr
  exact wpAny_execs_nil ⟨σ3,H3,I4,qn⟩
 ·refine wpAny_passesOwn hp (aO (T.item X rfl rfl rfl hc i pins s3 σ3 H3 X.xe I3 (stat fr3) st3 go) fun r s4 ⟨u,hr,h4⟩=>?_)
  subst hr
  refine wpAny_passesOwn hp (aO h4 fun _ s5 ⟨x,H5,I5,r5,y5,st5,fr5⟩=>?_)
  have I5':=I5.pinned (stat fr5) (T.obj _ _ st5)
  refine wpAny_passesOwn hp (aO (hg _ s5 σ3 H5 x u _ I5' r5 (step x H5 y5)) fun _ s6 ⟨σ6,H6,I6,q6⟩=>?_)
  refine wpAny_passesOwn hp (aO (hb _ s6 σ6 H6 _ I6 q6) fun f s7 q7=>?_)
  have again:∀{σ7:St}{H7:Hp},ad X (pins++oH fp s5.heap) σ7 H7 s7→N σ7 H7→∃m,m<n∧∃i σ' H',ad X pins σ' H' s7∧tn i s7.heap∧(∀b∈fp,H' b=none)∧W i m σ' H':=fun {σ7 H7} I7 n7=>by
   obtain ⟨m',hm,w7⟩:=hN σ7 H7 n7
   refine ⟨m',hm,i+1,σ7,H7,I7.unpinned,T.keep _ _ _ st5 fun b hb o e=>(I7.pin (b,o) (List.mem_append_right _ (List.mem_append_right _ (jW hb e)))).1,fun b hb=>?_,w7⟩
   obtain ⟨o,e,d⟩:=T.obj _ _ st5 b hb
   exact (I7.pin (b,o) (List.mem_append_right _ (List.mem_append_right _ (jW hb e)))).2.1
  cases f with
  | next=>obtain ⟨σ7,H7,I7,n7⟩:=q7;exact again I7 n7
  | cont=>obtain ⟨σ7,H7,I7,n7⟩:=q7;exact again I7 n7
  | brk=>obtain ⟨σ7,H7,I7,q7⟩:=q7;exact ⟨σ7,H7,I7.unpinned,q7⟩
  | ret v=>obtain ⟨x7,σ7,H7,I7,r7,q7⟩:=q7;exact ⟨x7,σ7,H7,I7.unpinned,r7,q7⟩
end
theorem xR {K:PySem.W.Frag}{a:Addr}{xs:List V}{g:TG}{tb:TS}{D:cZ}{σ:St}{H:Hp} (Pv:Nat→St→Hp→Prop) (h0:Pv 0 σ H) (hl:∀i σ H,i≤xs.length→Pv i σ H→af K H a xs)
 (hs:∀i x σ H,xs[i]?=some x→Pv i σ H→g x σ H fun σ2 H2=>tb { D with nx:=Pv (i+1),ct:=Pv (i+1),bk:=D.nx } σ2 H2) (hd:∀σ H,Pv xs.length σ H→D.nx σ H) :
 ∃W:Nat→Nat→St→Hp→Prop,(∃m,W 0 m σ H)∧∀i m σ H,W i m σ H→
  ((wI K a).stop i H∧D.nx σ H)∨((wI K a).go i H∧∃N:St→Hp→Prop,(∀σ' H',N σ' H'→∃m',m'<m∧W (i+1) m' σ' H')∧∀x H',(wI K a).yld i H x H'→g x σ H' fun σ2 H2=>tb { D with nx:=N,ct:=N,bk:=D.nx } σ2 H2):=by
 refine ⟨fun i m σ H=>m=xs.length - i∧i≤xs.length∧Pv i σ H,⟨xs.length,by simp,Nat.zero_le _,h0⟩,?_⟩
 rintro i m σ H ⟨rfl,hi,p⟩
 have q:=hl i σ H hi p
 by_cases hlt:i<xs.length
 ·refine .inr ⟨⟨xs,xs[i],q,by simp [hlt]⟩,Pv (i+1),fun σ' H' p'=>⟨xs.length - (i+1),by trivial,rfl,hlt,p'⟩,fun x H' y=>?_⟩
  obtain ⟨e,y⟩:=y
  subst e
  exact hs i x σ _ (y xs q) p
 ·have e:i=xs.length:=by trivial
  subst e
  exact .inl ⟨⟨xs,q,Nat.le_refl _⟩,hd σ H p⟩
theorem jh {lo:Int}{n:Nat}{g:TG}{tb:TS}{D:cZ}{σ:St}{H:Hp} (Pv:Nat→St→Hp→Prop) (h0:Pv 0 σ H)
 (hs:∀i σ H,i<n→Pv i σ H→g (.int (lo+i)) σ H fun σ2 H2=>tb { D with nx:=Pv (i+1),ct:=Pv (i+1),bk:=D.nx } σ2 H2) (hd:∀σ H,Pv n σ H→D.nx σ H) :
 ∃W:Nat→Nat→St→Hp→Prop,(∃m,W 0 m σ H)∧∀i m σ H,W i m σ H→
  ((uG lo n).stop i H∧D.nx σ H)∨((uG lo n).go i H∧∃N:St→Hp→Prop,(∀σ' H',N σ' H'→∃m',m'<m∧W (i+1) m' σ' H')∧∀x H',(uG lo n).yld i H x H'→g x σ H' fun σ2 H2=>tb { D with nx:=N,ct:=N,bk:=D.nx } σ2 H2):=by
 refine ⟨fun i m σ H=>m=n - i∧i≤n∧Pv i σ H,⟨n,by simp,Nat.zero_le _,h0⟩,?_⟩
 rintro i m σ H ⟨rfl,hi,p⟩
 by_cases hlt:i<n
 ·refine .inr ⟨hlt,Pv (i+1),fun σ' H' p'=>⟨n - (i+1),by trivial,rfl,hlt,p'⟩,fun x H' y=>?_⟩
  obtain ⟨e,y⟩:=y
  subst e y
  exact hs i σ _ hlt p
 ·have e:i=n:=by trivial
  subst e
  exact .inl ⟨Nat.le_refl _,hd σ H p⟩
abbrev R2:=V→V→Hp→VK→Prop
def cF (X:Cx) (f:Value→Value→Sem Value) (r:R2):Prop:=
 ∀(pins:List (Addr×Obj)) (s:Shared) (σ:St) (H:Hp) (x y:V) (v u:Value) (Q:VK),ad X pins σ H s→aR x v→aR y u→r x y H Q→
   wpAny (model X.prog X.w) X.A (f v u) (EP X pins σ Q) X.xe s
def A6 (X:Cx) (f:Value→Sem Value) (r:V→Hp→VK→Prop):Prop:=
 ∀(pins:List (Addr×Obj)) (s:Shared) (σ:St) (H:Hp) (x:V) (v:Value) (Q:VK),ad X pins σ H s→aR x v→r x H Q→
   wpAny (model X.prog X.w) X.A (f v) (EP X pins σ Q) X.xe s
def cU (X:Cx) (f:Value) (r:List V→Hp→VK→Prop):Prop:=
 ∀(pins:List (Addr×Obj)) (s:Shared) (σ:St) (H:Hp) (xs:List V) (us:List Value) (Q:VK),ad X pins σ H s→av xs us→r xs H Q→
   wpAny (model X.prog X.w) X.A (call f us) (EP X pins σ Q) X.xe s
def rR (r:R2) (ta tb:TE):TE:=fun σ H Q=>ta σ H fun x H1=>tb σ H1 fun y H2=>r x y H2 Q
def Fc (r:V→Hp→VK→Prop) (ta:TE):TE:=fun σ H Q=>ta σ H fun x H1=>r x H1 Q
inductive E5 (C:Int→Int→Prop) (g:Int→Int→V) (x:V) (y:V) (H:Hp) (Q:VK):Prop
 | mk (i:_) (j:_) (h0:x=.int i) (h1:y=.int j) (h2:C i j) (h3:Q (g i j) H)
def rI (C:Int→Int→Prop) (g:Int→Int→V):R2:=fun x y H Q=>E5 C g x y H Q
inductive EX (g:Int→Int→V) (x:V) (y:V) (H:Hp) (Q:VK):Prop
 | mk (i:_) (j:_) (h0:x=.int i) (h1:y=.int j) (h2:Q (g i j) H)
def rd (g:Int→Int→V):R2:=fun x y H Q=>EX g x y H Q
def rU (g:Int→V):V→Hp→VK→Prop:=fun x H Q=>BH x fun i=>Q (g i) H
section
variable {X:Cx}{a b c:Expr}{ta tb tc:TE}{pos:Pos}
theorem xW (ha:PE X a ta) (hb:PE X b tb) {pins:List (Addr×Obj)}{s:Shared}{σ:St}{H:Hp}{R:V→V→Hp→Prop} (I:ad X pins σ H s)
 (h:ta σ H fun x H1=>tb σ H1 fun y H2=>R x y H2) {Q:Value→Shared→Prop}{f:Value→Value→Sem Value}
 (hf:∀v u s2 x y H2,ad X pins σ H2 s2→aR x v→aR y u→R x y H2→wpAny (model X.prog X.w) X.A (f v u) Q X.xe s2) :
 wpAny (model X.prog X.w) X.A (eval a X.env) (fun v s₁=>wpAny (model X.prog X.w) X.A (eval b X.env) (fun u s₂=>wpAny (model X.prog X.w) X.A (f v u) Q X.xe s₂) X.xe s₁) X.xe s:=by
 refine aO (ha pins s σ H _ I h) fun v s1 ⟨x,H1,I1,r1,q1⟩=>?_
 refine aO (hb pins s1 σ H1 _ I1 q1) fun u s2 ⟨y,H2,I2,r2,q2⟩=>?_
 exact hf v u s2 x y H2 I2 r1 r2 q2
theorem aB {op:Operator}{r:R2} (ho:cF X (binaryOp op) r) (ha:PE X a ta) (hb:PE X b tb):PE X (.BinOp a op b pos) (rR r ta tb):=by
 intro pins s σ H Q I h
 exact wpAny_BinOp (xW ha hb I h fun v u s2 x y H2 I2 rx ry q=>ho pins s2 σ H2 x y v u Q I2 rx ry q)
theorem jf {op:UnaryOp}{r:V→Hp→VK→Prop} (ho:A6 X (unaryOp op) r) (ha:PE X a ta):PE X (.UnaryOp op a pos) (Fc r ta):=by
 intro pins s σ H Q I h
 exact UnaryOp_ (aO (ha pins s σ H _ I h) fun v s1 ⟨x,H1,I1,r1,q1⟩=>ho pins s1 σ H1 x v Q I1 r1 q1)
theorem wT {f:Value→Value→Sem Value}{C:Int→Int→Prop}{g:Int→Int→Int}
 (rule:∀(i j:Int) (t u:Tok) (s:Shared) (Q:Value→Shared→Prop) (E:Value→Shared→Prop),C i j→Q (.int (g i j) s.toks) { s with toks:=s.toks+1 }→wpAny (model X.prog X.w) X.A (f (.int i t) (.int j u)) Q E s) :
 cF X f (rI C fun i j=>.int (g i j)):=by
 intro pins s σ H x y v u Q I rx ry h
 obtain ⟨i,j,rfl,rfl,hc,q⟩:=h
 obtain ⟨t,rfl⟩:=rx
 obtain ⟨t',rfl⟩:=ry
 exact rule i j t t' s _ _ hc ⟨.int (g i j),H,I.tok _,⟨()⟩,q⟩
theorem Ct {f:Value→Value→Sem Value}{g:Int→Int→Int}
 (rule:∀(i j:Int) (t u:Tok) (s:Shared) (Q:Value→Shared→Prop) (E:Value→Shared→Prop),Q (.int (g i j) s.toks) { s with toks:=s.toks+1 }→wpAny (model X.prog X.w) X.A (f (.int i t) (.int j u)) Q E s) :
 cF X f (rd fun i j=>.int (g i j)):=by
 intro pins s σ H x y v u Q I rx ry h
 obtain ⟨i,j,rfl,rfl,q⟩:=h
 obtain ⟨t,rfl⟩:=rx
 obtain ⟨t',rfl⟩:=ry
 exact rule i j t t' s _ _ ⟨.int (g i j),H,I.tok _,⟨()⟩,q⟩
theorem wj {f:Value→Value→Sem Value}{g:Int→Int→Bool}
 (rule:∀(i j:Int) (t u:Tok) (s:Shared) (Q:Value→Shared→Prop) (E:Value→Shared→Prop),Q (.bool (g i j)) s→wpAny (model X.prog X.w) X.A (f (.int i t) (.int j u)) Q E s) :
 cF X f (rd fun i j=>.bl (g i j)):=by
 intro pins s σ H x y v u Q I rx ry h
 obtain ⟨i,j,rfl,rfl,q⟩:=h
 obtain ⟨t,rfl⟩:=rx
 obtain ⟨t',rfl⟩:=ry
 exact rule i j t t' s _ _ ⟨.bl (g i j),H,I,rfl,q⟩
def ES (i j:Int):Prop:=0<j∧j<1073741824
def EV (i j:Int):Prop:=0≤j∧j≤1000000∧i.natAbs<2 ^ 64
def yG (i j:Int):Prop:=(-(2 ^ 64)<i∧i<2 ^ 64)∨(-(2 ^ 64)<j∧j<2 ^ 64)
theorem yG.ok {i j:Int} (h:yG i j):IntMulOk i j:=by
 rcases h with ⟨h1,h2⟩ | ⟨h1,h2⟩
 ·exact .of_left (intBits_le_64 h1 h2)
 ·exact .of_right (intBits_le_64 h1 h2)
theorem cz:cF X (binaryOp .Add) (rd fun i j=>.int (i+j)):=Ct fun _ _ _ _ _ _ _ q=>add_int q
theorem ka:cF X (binaryOp .Sub) (rd fun i j=>.int (i - j)):=Ct fun _ _ _ _ _ _ _ q=>sub_int q
theorem gQ:cF X (binaryOp .Mult) (rI yG fun i j=>.int (i*j)):=wT fun _ _ _ _ _ _ _ hc q=>mul_int q hc.ok
theorem AG:cF X (binaryOp .FloorDiv) (rI ES fun i j=>.int (i / j)):=wT fun i j _ _ _ _ _ hc q=>by
 have h1:(0:Int)<j:=hc.1
 have h2:j<1073741824:=hc.2
 exact floordiv_int (by trivial) (by rw [Int.fdiv_eq_ediv_of_nonneg i (by trivial)];exact q) (.inl (PyProof.noPylong_small (by trivial)))
theorem jm:cF X (binaryOp .Mod) (rI (fun _ j=>0<j) fun i j=>.int (i % j)):=wT fun i j _ _ _ _ _ hc q=>by
 have h1:(0:Int)<j:=hc
 exact mod_int' (by trivial) (by rw [Int.fmod_eq_emod_of_nonneg i (by trivial)];exact q)
theorem sX:cF X (binaryOp .Pow) (rI EV fun i j=>.int (i ^ j.toNat)):=wT fun _ _ _ _ _ _ _ hc q=>pow_int_small hc.1 hc.2.1 hc.2.2 q
theorem E4 {f:Value→Sem Value}{g:Int→Int}
 (rule:∀(i:Int) (t:Tok) (s:Shared) (Q:Value→Shared→Prop) (E:Value→Shared→Prop),Q (.int (g i) s.toks) { s with toks:=s.toks+1 }→wpAny (model X.prog X.w) X.A (f (.int i t)) Q E s) :
 A6 X f (rU fun i=>.int (g i)):=by
 intro pins s σ H x v Q I rx h
 obtain ⟨i,rfl,q⟩:=h
 obtain ⟨t,rfl⟩:=rx
 exact rule i t s _ _ ⟨.int (g i),H,I.tok _,⟨()⟩,q⟩
theorem gX:A6 X (unaryOp .USub) (rU fun i=>.int (-i)):=E4 fun _ _ _ _ _ q=>neg_int q
end
def CA:V→V→Bool
 | .non,.non=>true | .non,.int _=>true | .int _,.non=>true | .non,.bl _=>true | .bl _,.non=>true | .non,.str _=>true | .str _,.non=>true
 | .int _,.int _=>true | .bl _,.bl _=>true | .str _,.str _=>true | .byt _,.byt _=>true
 | .int _,.str _=>true | .str _,.int _=>true | .bl _,.str _=>true | .str _,.bl _=>true
 | _,_=>false
def wX:R2:=fun x y H Q=>CA x y=true∧Q (.bl (decide (x=y))) H
def Fa:R2:=fun x y H Q=>CA x y=true∧Q (.bl (!decide (x=y))) H
theorem vo {i j:Int}:decide (V.int i=V.int j)=(i==j):=by
 rw [Bool.eq_iff_iff]
 simp
theorem xK {i j:Bool}:decide (V.bl i=V.bl j)=(i==j):=by
 rw [Bool.eq_iff_iff]
 simp
theorem vd {i j:Str}:decide (V.str i=V.str j)=(i==j):=by
 rw [Bool.eq_iff_iff]
 simp
theorem uM {i j:Array UInt8}:decide (V.byt i=V.byt j)=(i.toList==j.toList):=by
 rw [Bool.eq_iff_iff]
 cases i
 cases j
 simp
section
variable {X:Cx}{a b c:Expr}{ta tb tc:TE}{pos:Pos}
theorem bh {pins:List (Addr×Obj)}{σ:St}{H:Hp}{s:Shared}{Q:VK}{k k':Bool} (I:ad X pins σ H s) (q:Q (.bl k) H) (e:k=k'):EP X pins σ Q (.bool k') s:=by
 subst e
 exact ⟨.bl k,H,I,rfl,q⟩
theorem bu:cF X (compareOp .Eq) wX:=by
 intro pins s σ H x y v u Q I rx ry h
 obtain ⟨hs,q⟩:=h
 cases x with
 | non=>
  cases rx
  cases y with
  | non=>cases ry;exact PySem.EqNone.eq_none_none (bh I q (by simp))
  | bl j=>cases ry;exact PySem.EqNone.eq_none_bool (bh I q (by simp))
  | int j=>obtain ⟨t',rfl⟩:=ry;exact PySem.EqNone.eq_none_int (bh I q (by simp))
  | str j=>obtain ⟨t',rfl⟩:=ry;exact PySem.EqNone.eq_none_str (bh I q (by simp))
  | _=>exact absurd (show false=true from hs) Bool.false_ne_true
 | bl i=>
  cases rx
  cases y with
  | non=>cases ry;exact PySem.EqNone.eq_bool_none (bh I q (by simp))
  | bl j=>cases ry;exact eq_bool (bh I q xK)
  | str j=>obtain ⟨t',rfl⟩:=ry;exact PySem.EqMixed.eq_bool_str (bh I q (by simp))
  | _=>exact absurd (show false=true from hs) Bool.false_ne_true
 | int i=>
  obtain ⟨t,rfl⟩:=rx
  cases y with
  | non=>cases ry;exact PySem.EqNone.eq_int_none (bh I q (by simp))
  | int j=>obtain ⟨t',rfl⟩:=ry;exact eq_int (bh I q vo)
  | str j=>obtain ⟨t',rfl⟩:=ry;exact PySem.EqMixed.eq_int_str (bh I q (by simp))
  | _=>exact absurd (show false=true from hs) Bool.false_ne_true
 | str i=>
  obtain ⟨t,rfl⟩:=rx
  cases y with
  | non=>cases ry;exact PySem.EqNone.eq_str_none (bh I q (by simp))
  | bl j=>cases ry;exact PySem.EqMixed.eq_str_bool (bh I q (by simp))
  | int j=>obtain ⟨t',rfl⟩:=ry;exact PySem.EqMixed.eq_str_int (bh I q (by simp))
  | str j=>obtain ⟨t',rfl⟩:=ry;exact eq_str (bh I q vd)
  | _=>exact absurd (show false=true from hs) Bool.false_ne_true
 | byt i=>
  obtain ⟨t,rfl⟩:=rx
  cases y with
  | byt j=>obtain ⟨t',rfl⟩:=ry;exact PySem.W.eq_bytes (bh I q uM)
  | _=>exact absurd (show false=true from hs) Bool.false_ne_true
 | _=>cases y <;> exact absurd (show false=true from hs) Bool.false_ne_true
theorem mi:cF X (compareOp .NotEq) Fa:=by
 intro pins s σ H x y v u Q I rx ry h
 obtain ⟨hs,q⟩:=h
 cases x with
 | non=>
  cases rx
  cases y with
  | non=>cases ry;exact PySem.EqNone.ne_none_none (bh I q (by simp))
  | bl j=>cases ry;exact PySem.EqNone.ne_none_bool (bh I q (by simp))
  | int j=>obtain ⟨t',rfl⟩:=ry;exact PySem.EqNone.ne_none_int (bh I q (by simp))
  | str j=>obtain ⟨t',rfl⟩:=ry;exact PySem.EqNone.ne_none_str (bh I q (by simp))
  | _=>exact absurd (show false=true from hs) Bool.false_ne_true
 | bl i=>
  cases rx
  cases y with
  | non=>cases ry;exact PySem.EqNone.ne_bool_none (bh I q (by simp))
  | bl j=>cases ry;exact ne_bool (bh I q (congrArg not xK))
  | str j=>obtain ⟨t',rfl⟩:=ry;exact PySem.EqMixed.ne_bool_str (bh I q (by simp))
  | _=>exact absurd (show false=true from hs) Bool.false_ne_true
 | int i=>
  obtain ⟨t,rfl⟩:=rx
  cases y with
  | non=>cases ry;exact PySem.EqNone.ne_int_none (bh I q (by simp))
  | int j=>obtain ⟨t',rfl⟩:=ry;exact ne_int (bh I q (congrArg not vo))
  | str j=>obtain ⟨t',rfl⟩:=ry;exact PySem.EqMixed.ne_int_str (bh I q (by simp))
  | _=>exact absurd (show false=true from hs) Bool.false_ne_true
 | str i=>
  obtain ⟨t,rfl⟩:=rx
  cases y with
  | non=>cases ry;exact PySem.EqNone.ne_str_none (bh I q (by simp))
  | bl j=>cases ry;exact PySem.EqMixed.ne_str_bool (bh I q (by simp))
  | int j=>obtain ⟨t',rfl⟩:=ry;exact PySem.EqMixed.ne_str_int (bh I q (by simp))
  | str j=>obtain ⟨t',rfl⟩:=ry;exact ne_str (bh I q (congrArg not vd))
  | _=>exact absurd (show false=true from hs) Bool.false_ne_true
 | byt i=>
  obtain ⟨t,rfl⟩:=rx
  cases y with
  | byt j=>obtain ⟨t',rfl⟩:=ry;exact PySem.W.ne_bytes (bh I q (congrArg not uM))
  | _=>exact absurd (show false=true from hs) Bool.false_ne_true
 | _=>cases y <;> exact absurd (show false=true from hs) Bool.false_ne_true
theorem fO:cF X (compareOp .Lt) (rd fun i j=>.bl (decide (i<j))):=wj fun _ _ _ _ _ _ _ q=>lt_int q
theorem y6:cF X (compareOp .LtE) (rd fun i j=>.bl (decide (i≤j))):=wj fun _ _ _ _ _ _ _ q=>le_int q
theorem sN:cF X (compareOp .Gt) (rd fun i j=>.bl (decide (j<i))):=wj fun _ _ _ _ _ _ _ q=>gt_int q
theorem Dy:cF X (compareOp .GtE) (rd fun i j=>.bl (decide (j≤i))):=wj fun _ _ _ _ _ _ _ q=>ge_int q
theorem xf:cF X (compareOp .Is) (fun x y H Q=>y=.non∧Q (.bl (decide (x=.non))) H):=by
 intro pins s σ H x y v u Q I rx ry h
 obtain ⟨rfl,q⟩:=h
 cases ry
 refine is_none_gen (bh I q ?_)
 cases x <;> first
  | (cases rx;rfl)
  | (obtain ⟨t,rfl⟩:=rx;rfl)
theorem qp (b:Expr) {op:CmpOp} (h:op≠.In:=by decide) (h2:op≠.NotIn:=by decide):behindInMarks op b=false:=by
 have e1:(op==CmpOp.In)=false:=by cases op <;> first | rfl | exact absurd rfl h
 have e2:(op==CmpOp.NotIn)=false:=by cases op <;> first | rfl | exact absurd rfl h2
 cases b <;> simp [behindInMarks,e1,e2]
theorem bK {op:CmpOp}{r:R2} (ho:cF X (compareOp op) r) (ha:PE X a ta) (hb:PE X b tb) (hm:behindInMarks op b=false):PE X (.Compare a [op] [b] pos) (rR r ta tb):=by
 intro pins s σ H Q I h
 exact wpAny_Compare1 (xW ha hb I h fun v u s2 x y H2 I2 rx ry q=>ho pins s2 σ H2 x y v u Q I2 rx ry q) hm
def oY (t:TE):TT:=fun σ H Q=>t σ H fun x H'=>uf x fun k=>Q k H'
theorem ar {op:CmpOp}{r:R2} (ho:cF X (compareOp op) r) (ha:PE X a ta) (hb:PE X b tb) (hm:behindInMarks op b=false):PT X (.Compare a [op] [b] pos) (oY (rR r ta tb)):=by
 intro pins s σ H Q I h
 refine wpAny_isTrue_Compare1 (aO (ha pins s σ H _ I h) fun v s1 ⟨x,H1,I1,r1,q1⟩=>aO (hb pins s1 σ H1 _ I1 q1) fun u s2 ⟨y,H2,I2,r2,q2⟩=>
  aO (ho pins s2 σ H2 x y v u _ I2 r1 r2 q2) fun c s3 ⟨z,H3,I3,r3,k,e,q3⟩=>?_) hm
 subst e
 cases r3
 exact wpAny_truthy_bool ⟨H3,I3,q3⟩
def Bq (r r':R2) (ta tb tc:TE):TE:=fun σ H Q=>ta σ H fun x H1=>tb σ H1 fun y H2=>r x y H2 fun z H3=>uf z fun k=>
 (if k=true then tc σ H3 fun w' H4=>r' y w' H4 Q else Q (.bl false) H3)
theorem uk {op op':CmpOp}{r r':R2} (ho:cF X (compareOp op) r) (ho':cF X (compareOp op') r') (ha:PE X a ta) (hb:PE X b tb) (hc:PE X c tc)
 (hm:lastMarks [op,op'] [b,c]=false:=by with_unfolding_all rfl):PT X (.Compare a [op,op'] [b,c] pos) (oY (Bq r r' ta tb tc)):=by
 intro pins s σ H Q I h
 refine isTrue_chain (aO (ha pins s σ H _ I h) fun v s1 ⟨x,H1,I1,r1,q1⟩=>test_link (aO (hb pins s1 σ H1 _ I1 q1) fun u s2 ⟨y,H2,I2,r2,q2⟩=>
  aO (ho pins s2 σ H2 x y v u _ I2 r1 r2 q2) fun d s3 ⟨z,H3,I3,r3,k,e,q3⟩=>?_)) hm
 subst e
 cases r3
 refine wpAny_truthy_bool ?_
 cases k with
 | false=>
  obtain ⟨k',e',q'⟩:=q3
  cases e'
  exact ite_ff ⟨H3,I3,q'⟩
 | true=>
  refine ite_tt (test_last (aO (hc pins s3 σ H3 _ I3 q3) fun w' s4 ⟨z',H4,I4,r4,q4⟩=>aO (ho' pins s4 σ H4 y z' u w' _ I4 r2 r4 q4) fun d' s5 ⟨z2,H5,I5,r5,k2,e2,q5⟩=>?_))
  subst e2
  cases r5
  exact wpAny_truthy_bool ⟨H5,I5,q5⟩
theorem oz:(sizeLine:Nat)<2 ^ 63:=by rw [sizeLine_eq];decide
theorem wm:cF X (binaryOp .Add) (fun x y H Q=>bw fun i j=>x=.str i∧y=.str j∧i.length+j.length≤sizeLine∧Q (.str (i++j)) H):=by
 intro pins s σ H x y v u Q I rx ry h
 obtain ⟨i,j,rfl,rfl,hz,q⟩:=h
 obtain ⟨t,rfl⟩:=rx
 obtain ⟨t',rfl⟩:=ry
 exact add_str (fun t' tk=>⟨.str (i++j),H,I.tok _,⟨()⟩,q⟩) hz
theorem oP {x:V}{us:List Value} (r:av [x] us):∃u,us=[u]∧aR x u:=by
 cases r with
 | cons r1 r2=>cases r2;exact ⟨_,rfl,r1⟩
theorem sR {x y:V}{us:List Value} (r:av [x,y] us):bw fun u w'=>us=[u,w']∧aR x u∧aR y w':=by
 cases r with
 | cons r1 r2=>
  cases r2 with
  | cons r3 r4=>cases r4;exact ⟨_,_,rfl,r1,r3⟩
theorem mz:cU X (.builtin "abs") (fun xs H Q=>∃i,xs=[.int i]∧Q (.int (if i<0 then -i else i)) H):=by
 intro pins s σ H xs us Q I r h
 obtain ⟨i,rfl,q⟩:=h
 obtain ⟨u,rfl,t,rfl⟩:=oP r
 exact call_abs_int fun u tk=>⟨.int (if i<0 then -i else i),H,I.tok _,⟨()⟩,q⟩
theorem w5 (hc:X.calm=true):cU X (.builtin "max") (fun xs H Q=>bw fun i j=>xs=[.int i,.int j]∧Q (.int (if j > i then j else i)) H):=by
 intro pins s σ H xs us Q I r h
 obtain ⟨i,j,rfl,q⟩:=h
 obtain ⟨u,w',rfl,⟨t,rfl⟩,⟨t',rfl⟩⟩:=sR r
 refine max_two_ints (I.ok.hd hc) fun h' tk k=>⟨_,H,I.kept k,?_,q⟩
 by_cases hj:j > i
 ·rw [if_pos hj,if_pos hj];exact ⟨()⟩
 ·rw [if_neg hj,if_neg hj];exact ⟨()⟩
theorem rj:cU X (.type "int") (fun xs H Q=>(∃i,xs=[.int i]∧Q (.int i) H)∨∃k,xs=[.bl k]∧Q (.int (if k then 1 else 0)) H):=by
 intro pins s σ H xs us Q I r h
 rcases h with ⟨i,rfl,q⟩ | ⟨k,rfl,q⟩
 ·obtain ⟨u,rfl,t,rfl⟩:=oP r
  exact call_int_int ⟨.int i,H,I,⟨()⟩,q⟩
 ·obtain ⟨u,rfl,r1⟩:=oP r
  cases r1
  exact call_int_bool ⟨.int (if k then 1 else 0),H,I.tok _,⟨()⟩,q⟩
end
structure pT (h:Heap) (x dx C:Addr) (mA:Str→Option Value):Prop where
 obj:h.get? x=some (PySem.W.instObj C dx)
 ns:h.Ns1 dx mA
 ne:dx≠x
theorem xz {h:Heap}{dx:Addr}{mA:Str→Option Value} (n:h.Ns1 dx mA):∃od,h.get? dx=some od∧∀name,PySem.W.lookIn name od=some (mA name):=by
 obtain ⟨o,es,ep,ho,hd,hk,_,hm⟩:=n
 refine ⟨o,ho,fun name=>?_⟩
 have e:=hm name
 unfold nsFind findBy at e
 rw [←Array.find?_toList] at e
 unfold PySem.W.lookIn
 rw [hd]
 dsimp only
 split
 ·rename_i y q
  rw [q] at e
  exact congrArg some e
 ·rename_i q
  rw [q] at e
  have a:es.toList.any (·.refKey)=false:=by
   rw [List.any_eq_false]
   intro y hy
   obtain ⟨z,t,hkey⟩:=hk y (Array.mem_toList_iff.mp hy)
   simp [DictEntry.refKey,hkey]
  have a':¬es.toList.any (·.refKey)=true:=by rw [a];exact Bool.false_ne_true
  rw [if_neg a']
  exact congrArg some e
theorem pT.look {h:Heap}{x dx C:Addr}{mA:Str→Option Value} (I:pT h x dx C mA):∃od,PySem.W.InstAt h x (PySem.W.instObj C dx) C (some od)∧∀name,PySem.W.lookIn name od=some (mA name):=
 let ⟨od,ho,hl⟩:=xz I.ns
 ⟨od,⟨I.obj,rfl,rfl,ho⟩,hl⟩
section
variable {prog:Program}{w:World}{A:Around}{E:Value→Shared→Prop}{s:Shared}{K:PySem.W.Frag}{x dx C f:Addr}{mA:Str→Option Value}{name:Str}{v:Value}
theorem Ah {expr:Bool}{Q:Value→Shared→Prop} (X:K.In s.heap) (I:pT s.heap x dx C mA) (hg:PySem.W.plainGet K C name=true) (hh:PySem.W.hasDictIn K C=true)
 (ha:PySem.W.findIn K (.ref C) name=some none) (hv:mA name=some v) (hv':PySem.W.handedIn v=true) (h:Q v { s with toks:=s.toks+1 }) :
 wpAny (model prog w) A (getAttr (.ref x) name expr) Q E s:=by
 obtain ⟨od,J,hl⟩:=I.look
 exact PySem.W.get_value X J (PySem.W.plainGet_of hg).1 (PySem.W.findObj_own hh ha rfl (by rw [hl,hv])) hv' h
theorem yl {pl:Sem Bool}{Q:Value×List Value→Shared→Prop} (X:K.In s.heap) (I:pT s.heap x dx C mA) (hg:PySem.W.plainGet K C name=true)
 (hf:PySem.W.findIn K (.ref C) name=some (some (.ref f))) (ht:PySem.W.isFn K (.ref f)=true) (hv:mA name=none) (h:Q (.ref f,[.ref x]) s) :
 wpAny (model prog w) A (getMethod (.ref x) name pl) Q E s:=by
 obtain ⟨od,J,hl⟩:=I.look
 exact PySem.W.method_fn X J (PySem.W.plainGet_of hg).1 (PySem.W.plainGet_of hg).2 hf (beq_iff_eq.mp ht) (by show (PySem.W.lookIn name od).map (·.isSome)=some false;rw [hl,hv];rfl) h
theorem Aa {ns:List Str}{Q:Unit→Shared→Prop} (X:K.In s.heap) (I:pT s.heap x dx C mA)
 (hs:PySem.W.findIn K (.ref C) "__setattr__" = some (some (.builtin "object.__setattr__"))) (hp:PySem.W.plainOver K C=true) (ht:PySem.W.takerIn K C name=some none) (hh:PySem.W.hasDictIn K C=true)
 (hw:PySem.Within mA ns) (hsz:ns.length≤sizeLine)
 (h:∀h',pT h' x dx C (fun y=>if y=name then some v else mA y)→Heap.SameBut dx s.heap h'→Q () { s with heap:=h',toks:=s.toks+2 }) :
 wpAny (model prog w) A (setAttr (.ref x) name v) Q E s:=by
 obtain ⟨od,J,hl⟩:=I.look
 refine PySem.W.set_plain X J hs (PySem.W.osa_open (s:={ s with toks:=s.toks+1 }) (r:=none) X J hp ht fun b=>?_)
 obtain ⟨cd,hc,hd'⟩:=PySem.W.any_some hh
 have hx:s.heap.get? x=some ⟨.ref C,some dx,.plain,#[]⟩:=I.obj
 refine wpAny_bind (wpAny_pure (wpAny_bind (wpAny_bind (wpAny_loadPart hx (wpAny_bind (PySem.W.Looks.here (s:={ s with toks:=s.toks+1 }) (PySem.W.looks_clsIn X hc) ?_))))))
 rw [hd']
 refine wpAny_pure (a:=some dx) (wpAny_bind (wpAny_pure (wpAny_bind ?_)))
 refine wpAny_nsSet1 (s:={ s with toks:=s.toks+1 }) I.ns fun h' hn2 hs2=>?_
 obtain ⟨oD,esD,epD,hoD,hdD,hcD⟩:=hn2.count (PySem.Within.cons name v hw)
 refine wpAny_bind (wpAny_lookBehind hoD (by rw [hdD];exact pastItsLine_dict (Nat.le_trans hcD (by rw [List.length_cons];trivial))) ?_)
 exact wpAny_pure (h _ ⟨(hs2.2 _ (Ne.symm I.ne)).trans I.obj,hn2,I.ne⟩ hs2)
theorem yn {R:Result→Shared→Prop}{vs:List Value}{kw:List (Str×Value)} (X:K.In s.heap) (hm:PySem.W.makesIn K C=true)
 (hi:PySem.W.findIn K (.ref C) "__init__" = some (some (.ref f))) (hf:PySem.W.typeIn K (.ref f)=some (.type "function"))
 (h:codeAny (model prog w) (A.under (.builtin "type.__call__" ⟨.ref C :: vs,kw⟩)) (.call (.ref f) ⟨.ref (s.heap.objs.size+1) :: vs,kw⟩) (PySem.W.InitBack (s.heap.objs.size+1) R)
  { s with heap:=(s.heap.push PySem.W.emptyDict).push (PySem.W.instObj C s.heap.objs.size) }) :
 codeAny (model prog w) A (.call (.ref C) ⟨vs,kw⟩) R s:=by
 obtain ⟨hh,g,d,t,os⟩:=s
 exact PySem.W.make_core (PySem.W.makes_of X hm) (PySem.W.looks_findIn X hi) (fun self=>PySem.W.bind_fn X self hf) (.inl rfl) h
end
def gL (f:Str) (v:V):List (Str×V)→List (Str×V)
 | []=>[(f,v)]
 | (g,x) :: r=>if g=f then (g,v) :: r else (g,x) :: gL f v r
theorem pC (f g:Str) (v:V):∀fs:List (Str×V),(gL f v fs).lookup g=if g=f then some v else fs.lookup g
 | []=>by
  show List.lookup g [(f,v)]=_
  by_cases h:g=f
  ·have hb:(g==f)=true:=beq_iff_eq.mpr h
   simp only [List.lookup,hb,if_pos h]
  ·have hb:(g==f)=false:=beq_eq_false_iff_ne.mpr h
   simp only [List.lookup,hb,if_neg h]
 | (k,x) :: r=>by
  have ih:=pC f g v r
  rw [show gL f v ((k,x) :: r)=(if k=f then (k,v) :: r else (k,x) :: gL f v r) from rfl]
  by_cases hk:k=f
  ·rw [if_pos hk]
   by_cases h:g=k
   ·have hb:(g==k)=true:=beq_iff_eq.mpr h
    simp only [List.lookup,hb,if_pos (h.trans hk)]
   ·have hb:(g==k)=false:=beq_eq_false_iff_ne.mpr h
    simp only [List.lookup,hb,if_neg (fun e:g=f=>h (e.trans hk.symm))]
  ·rw [if_neg hk]
   by_cases h:g=k
   ·have hb:(g==k)=true:=beq_iff_eq.mpr h
    simp only [List.lookup,hb,if_neg (fun e:g=f=>hk (h.symm.trans e))]
   ·have hb:(g==k)=false:=beq_eq_false_iff_ne.mpr h
    simp only [List.lookup,hb]
    exact ih
theorem nG (f:Str) (v:V):∀fs:List (Str×V),f∈(gL f v fs).map (·.1)∧∀g,g∈fs.map (·.1)→g∈(gL f v fs).map (·.1)
 | []=>⟨by simp [gL],fun g h=>by simp at h⟩
 | (k,x) :: r=>by
  obtain ⟨i1,i2⟩:=nG f v r
  rw [show gL f v ((k,x) :: r)=(if k=f then (k,v) :: r else (k,x) :: gL f v r) from rfl]
  by_cases hk:k=f
  ·rw [if_pos hk]
   subst hk
   exact ⟨by simp,fun g h=>by simpa using h⟩
  ·rw [if_neg hk]
   refine ⟨?_,fun g h=>?_⟩
   ·rw [List.map_cons]
    exact List.mem_cons_of_mem _ i1
   ·rw [List.map_cons] at h ⊢
    rcases List.mem_cons.mp h with e | e
    ·exact List.mem_cons.mpr (.inl e)
    ·exact List.mem_cons_of_mem _ (i2 g e)
theorem pB (f:Str) (v:V):∀fs:List (Str×V),(gL f v fs).length≤fs.length+1
 | []=>by simp [gL]
 | (k,x) :: r=>by
  have ih:=pB f v r
  rw [show gL f v ((k,x) :: r)=(if k=f then (k,v) :: r else (k,x) :: gL f v r) from rfl]
  by_cases hk:k=f
  ·rw [if_pos hk,List.length_cons,List.length_cons];trivial
  ·rw [if_neg hk,List.length_cons,List.length_cons];trivial
theorem jC.some_of {v:V}{o:Option Value} (r:jC (some v) o):∃u,o=some u∧aR v u:=by
 cases o with
 | none=>exact (show False from r).elim
 | some u=>exact ⟨u,rfl,r⟩
theorem jC.none_of {o:Option Value} (r:jC none o):o=none:=by
 cases o with
 | none=>rfl
 | some u=>exact (show False from r).elim
theorem xn {v:V}{u:Value} (r:aR v u):PySem.W.handedIn u=true:=by
 cases v with
 | non=>cases (show u=Value.none from r);rfl
 | bl b=>cases (show u=Value.bool b from r);rfl
 | int i=>obtain ⟨t,e⟩:=(show ∃t,u=Value.int i t from r);cases e;rfl
 | str x=>obtain ⟨t,e⟩:=(show ∃t,u=Value.str x t from r);cases e;rfl
 | byt b=>obtain ⟨t,e⟩:=(show ∃t,u=Value.bytes b t from r);cases e;rfl
 | flt b=>obtain ⟨t,e⟩:=(show ∃t,u=Value.float b t from r);cases e;rfl
 | ref a=>cases (show u=Value.ref a from r);rfl
 | ty n=>cases (show u=Value.type n from r);rfl
section
variable {P:Program}{w:World}{H H':Hp}{h h':Heap}{a C dx:Addr}{fs fs':List (Str×V)}
theorem oV (hok:c8 P w H h) (e:H a=some (.ins C dx fs)):∃mA,pT h a dx C mA∧(∀f,jC (fs.lookup f) (mA f))∧PySem.Within mA (fs.map (·.1))∧fs.length≤1000∧H dx=some (.own a):=by
 obtain ⟨d,z,ne,ob,mA,n,r,q⟩:=(show bi P w H h a (.ins C dx fs) from hok a _ e)
 exact ⟨mA,⟨ob,n,ne⟩,r,q,z,d⟩
end
structure mP (K:PySem.W.Frag) (C:Addr):Prop where
 pg:PySem.W.plainGet K C Str.empty=true
 hd:PySem.W.hasDictIn K C=true
 po:PySem.W.plainOver K C=true
 sa:PySem.W.findIn K (.ref C) "__setattr__" = some (some (.builtin "object.__setattr__"))
theorem mP.get {K:PySem.W.Frag}{C:Addr} (c:mP K C) (f:Str):PySem.W.plainGet K C f=true:=c.pg
def kq (K:PySem.W.Frag) (C:Addr) (f:Str):Prop:=PySem.W.findIn K (.ref C) f=some none
theorem kq.taker {K:PySem.W.Frag}{C:Addr}{f:Str} (n:kq K C f):PySem.W.takerIn K C f=some none:=by
 unfold PySem.W.takerIn
 rw [show PySem.W.findIn K (.ref C) f=some none from n]
 rfl
structure eJ (K:PySem.W.Frag) (C:Addr) (m:Str) (f:Addr):Prop where
 at_:PySem.W.findIn K (.ref C) m=some (some (.ref f))
 fn:PySem.W.isFn K (.ref f)=true
 kp:PySem.W.keepIn K (.ref f)=true
section
variable {X:Cx}{pins:List (Addr×Obj)}{σ:St}{H:Hp}{s:Shared}{a C dx:Addr}{fs:List (Str×V)}{f:Str}{v:V}{A:Around}{E:Value→Shared→Prop}
theorem wx {b:Bool}{Q:Value→Shared→Prop} (I:ad X pins σ H s) (e:H a=some (.ins C dx fs)) (c:mP X.K C) (n:kq X.K C f) (l:fs.lookup f=some v)
 (h:∀u s',ad X pins σ H s'→aR v u→Q u s'):wpAny (model X.prog X.w) A (getAttr (.ref a) f b) Q E s:=by
 obtain ⟨mA,O,r,_,_,_⟩:=oV I.hok e
 obtain ⟨u,hu,ru⟩:=jC.some_of (v:=v) (o:=mA f) (by rw [←l];exact r f)
 exact Ah I.kIn O (c.get f) c.hd n hu (xn ru) (h u _ (I.tok _) ru)
theorem qa {m:Str}{g:Addr}{pl:Sem Bool}{Q:Value×List Value→Shared→Prop} (I:ad X pins σ H s) (e:H a=some (.ins C dx fs)) (c:mP X.K C) (k:eJ X.K C m g) (l:fs.lookup m=none)
 (h:Q (.ref g,[.ref a]) s):wpAny (model X.prog X.w) A (getMethod (.ref a) m pl) Q E s:=by
 obtain ⟨mA,O,r,_,_,_⟩:=oV I.hok e
 have hn:mA m=none:=jC.none_of (by rw [←l];exact r m)
 exact yl I.kIn O (c.get m) k.at_ k.fn hn h
theorem vI {y:V}{u:Value}{Q:Unit→Shared→Prop} (I:ad X pins σ H s) (e:H a=some (.ins C dx fs)) (c:mP X.K C) (n:kq X.K C f) (hl:fs.length<1000) (ry:aR y u)
 (h:∀s',ad X pins σ (aH H a (.ins C dx (gL f y fs))) s'→Q () s'):wpAny (model X.prog X.w) A (setAttr (.ref a) f u) Q E s:=by
 obtain ⟨mA,O,r,wi,_,ho⟩:=oV I.hok e
 have hz:(fs.map (·.1)).length≤sizeLine:=by rw [List.length_map,sizeLine_eq];trivial
 refine Aa I.kIn O c.sa c.po n.taker c.hd wi hz fun h' O' sb=>h _ ?_
 have hd:∃o,h'.get? dx=some o:=let ⟨o,_,_,e',_⟩:=O'.ns;⟨o,e'⟩
 refine I.write (x:=a) (e:=dx) (by rw [e];exact True.intro) (.inr ho) (fun b q hb z=>(sb.2 b hb).trans z) hd ?_
 refine ⟨by rw [ao O.ne];exact ho,?_,O.ne,O'.obj,_,O'.ns,fun g=>?_,fun g hg=>?_⟩
 ·have:=pB f y fs;trivial
 ·show jC ((gL f y fs).lookup g) (if g=f then some u else mA g)
  rw [pC]
  by_cases q:g=f
  ·rw [if_pos q,if_pos q];exact ry
  ·rw [if_neg q,if_neg q];exact r g
 ·by_cases q:g=f
  ·rw [q];exact (nG f y fs).1
  ·refine (nG f y fs).2 g (wi g fun z=>hg ?_)
   show (if g=f then some u else mA g)=none
   rw [if_neg q];exact z
theorem ad.made (I:ad X pins σ H s):ad X pins σ (aH (aH H s.heap.objs.size (.own (s.heap.objs.size+1))) (s.heap.objs.size+1) (.ins C s.heap.objs.size []))
 { s with heap:=(s.heap.push PySem.W.emptyDict).push (PySem.W.instObj C s.heap.objs.size) }:=by
 have e1:(s.heap.push PySem.W.emptyDict).get? s.heap.objs.size=some PySem.W.emptyDict:=Heap.get?_push_size s.heap rfl
 have e2:((s.heap.push PySem.W.emptyDict).push (PySem.W.instObj C s.heap.objs.size)).get? (s.heap.objs.size+1)=some (PySem.W.instObj C s.heap.objs.size):=by
  have:=Heap.get?_push_size (s.heap.push PySem.W.emptyDict) (o:=PySem.W.instObj C s.heap.objs.size) rfl
  rwa [Heap.size_push] at this
 have e3:(s.heap.push PySem.W.emptyDict).Ns s.heap.objs.size (fun _=>none):=⟨PySem.W.emptyDict,#[],_,e1,rfl,(fun e he=>absurd he (by simp)),fun _=>rfl⟩
 have I1:=I.laid (a:=s.heap.objs.size) (o:=.own (s.heap.objs.size+1)) (h':=s.heap.push PySem.W.emptyDict) (t':=s.toks) (fun b u q=>Heap.get?_push_of_some _ q) (Nat.le_refl _) ⟨_,e1⟩
 refine I1.laid (a:=s.heap.objs.size+1) (o:=.ins C s.heap.objs.size []) (t':=s.toks) (fun b u q=>Heap.get?_push_of_some _ q) (Nat.le_of_eq (Heap.size_push _ _)) ?_
 have ne:s.heap.objs.size≠s.heap.objs.size+1:=Nat.ne_of_lt (Nat.lt_succ_self _)
 refine ⟨by rw [ao ne,au],Nat.zero_le _,ne,e2,fun _=>none,(Heap.Ns1.of_empty e3).at fun o q=>Heap.get?_push_of_some _ q,fun _=>True.intro,fun y hy=>absurd rfl hy⟩
theorem AF {prog:Program}{w:World}{env:Env}{e:Expr}{f:Str}{pos:Pos}{s:Shared}{Q:Value→Shared→Prop} (hb:attributeBase e f env (eval e env)=eval e env)
 (h:wpAny (model prog w) A (eval e env) (fun o s₁=>wpAny (model prog w) A (getAttr o f true) Q E s₁) E s):wpAny (model prog w) A (eval (.Attribute e f pos) env) Q E s:=
 Attribute_any_ h (by rw [arm_eval_Attribute,hb])
end
def EG (K:PySem.W.Frag) (ta:TE) (f:Str):TE:=fun σ H Q=>ta σ H fun x H1=>zm fun a C dx fs v=>x=.ref a∧H1 a=some (.ins C dx fs)∧mP K C∧kq K C f∧fs.lookup f=some v∧Q v H1
section
variable {X:Cx}{o e value:Expr}{f:Str}{pos pos' tpos:Pos}{ta tv:TE}
theorem db (he:PE X e ta) (hb:attributeBase e f X.env (eval e X.env)=eval e X.env):PE X (.Attribute e f pos) (EG X.K ta f):=by
 intro pins s σ H Q I h
 refine AF hb (aO (he pins s σ H _ I h) fun u s1 ⟨x,H1,I1,rx,a,C,dx,fs,v,ex,ea,c,n,l,q⟩=>?_)
 subst ex
 obtain rfl:u=Value.ref a:=rx
 exact wx I1 ea c n l fun u' s2 I2 ru=>⟨v,H1,I2,ru,q⟩
end
section
variable {X:Cx}{pins:List (Addr×Obj)}{σ:St}{H:Hp}{s:Shared}{A:Around}{E:Value→Shared→Prop}{Q:Value→Shared→Prop}{c:Value}{b:Bool}
inductive hV (K:PySem.W.Frag) (H:Hp):V→Value→Prop where
 | non:hV K H .non (.type "NoneType")
 | bl (x:Bool):hV K H (.bl x) (.type "bool")
 | int (i:Int):hV K H (.int i) (.type "int")
 | str (x:Str):hV K H (.str x) (.type "str")
 | flt (x:UInt64):hV K H (.flt x) (.type "float")
 | lst {a:Addr}{xs:List V} (e:H a=some (.lst xs)):hV K H (.ref a) (.type "list")
 | frz {a:Addr}{o:Obj}{xs:List V} (e:H a=some (.frz o (.lst xs))):hV K H (.ref a) (.type "list")
 | tup {a:Addr}{xs:List V} (e:H a=some (.tup xs)):hV K H (.ref a) (.type "tuple")
 | dK {a:Addr}{kvs:List (aV×V)} (e:H a=some (.dK kvs)):hV K H (.ref a) (.type "dict")
 | dT {a:Addr}{kvs:List (List aV×V)} (e:H a=some (.dT kvs)):hV K H (.ref a) (.type "dict")
 | ins {a C dx:Addr}{fs:List (Str×V)} (e:H a=some (.ins C dx fs)) (cl:mP K C) (ha:PySem.W.findIn K (.ref C) "__class__" = some (some (.builtin "object.__class__")))
  (hn:PySem.W.specialIn K (.builtin "object.__class__") "__get__" = some (some (.builtin "getset_descriptor.__get__"))) (htk:PySem.W.takesIn K (.builtin "object.__class__")=some true)
  (hm:PySem.W.mroIn K C (.type "object")=some true):hV K H (.ref a) (.ref C)
theorem xP {x:V}{u t:Value} (I:ad X pins σ H s) (rx:aR x u) (ty:hV X.K H x t) (e:PySem.W.kitOne X.K t c=some b) (h:∀tk,Q (.bool b) { s with toks:=tk }) :
 wpAny (model X.prog X.w) A (call (.builtin "isinstance") [u,c]) Q E s:=by
 cases ty with
 | non=>cases (show u=Value.none from rx);exact PySem.W.kia_one PySem.W.kitx_none I.kIn True.intro e (fun z=>nomatch z) h
 | bl y=>cases (show u=Value.bool y from rx);exact PySem.W.kia_one PySem.W.kitx_bool I.kIn True.intro e (fun z=>nomatch z) h
 | int i=>obtain ⟨t,q⟩:=(show ∃t,u=Value.int i t from rx);cases q;exact PySem.W.kia_one PySem.W.kitx_int I.kIn True.intro e (fun z=>nomatch z) h
 | str y=>obtain ⟨t,q⟩:=(show ∃t,u=Value.str y t from rx);cases q;exact PySem.W.kia_one PySem.W.kitx_str I.kIn True.intro e (fun z=>nomatch z) h
 | flt y=>obtain ⟨t,q⟩:=(show ∃t,u=Value.float y t from rx);cases q;exact PySem.W.kia_one PySem.W.kitx_float I.kIn True.intro e (fun z=>nomatch z) h
 | @lst a xs ea=>
  cases (show u=Value.ref a from rx)
  obtain ⟨_,_,n,_,h1⟩:=(show bi X.prog X.w H s.heap a (.lst xs) from I.hok a _ ea)
  exact PySem.W.kia_one PySem.W.kitx_list I.kIn ⟨_,h1,rfl⟩ e (fun z=>nomatch z) h
 | @frz a ob xs ea=>
  cases (show u=Value.ref a from rx)
  obtain ⟨_,_,_,n,_,h1⟩:=(show bi X.prog X.w H s.heap a (.frz ob (.lst xs)) from I.hok a _ ea)
  exact PySem.W.kia_one PySem.W.kitx_list I.kIn ⟨_,h1,rfl⟩ e (fun z=>nomatch z) h
 | @tup a xs ea=>
  cases (show u=Value.ref a from rx)
  obtain ⟨_,_,_,p,_⟩:=(show bi X.prog X.w H s.heap a (.tup xs) from I.hok a _ ea)
  obtain ⟨o,h1,h2,_⟩:=p
  exact PySem.W.kia_one PySem.W.kitx_tuple I.kIn ⟨o,h1,h2⟩ e (fun z=>nomatch z) h
 | @dK a kvs ea=>
  cases (show u=Value.ref a from rx)
  obtain ⟨_,_,vs,_,p⟩:=(show bi X.prog X.w H s.heap a (.dK kvs) from I.hok a _ ea)
  obtain ⟨o,es,ep,h1,h2,_⟩:=p
  exact PySem.W.kia_one PySem.W.kitx_dict I.kIn ⟨o,h1,h2.1⟩ e (fun z=>nomatch z) h
 | @dT a kvs ea=>
  cases (show u=Value.ref a from rx)
  obtain ⟨_,_,xs,_,o,es,ep,h1,h2,_⟩:=(show bi X.prog X.w H s.heap a (.dT kvs) from I.hok a _ ea)
  exact PySem.W.kia_one PySem.W.kitx_dict I.kIn ⟨o,h1,h2.1⟩ e (fun z=>nomatch z) h
 | @ins a C dx fs ea cl ha hn htk hm=>
  cases (show u=Value.ref a from rx)
  obtain ⟨mA,O,_⟩:=oV I.hok ea
  obtain ⟨od,J,_⟩:=O.look
  exact PySem.W.kia_one (PySem.W.kitx_own (cl.get _) cl.hd ha hn htk hm) I.kIn J e (fun z=>nomatch z) h
end
structure cf (k:Nat) (A:Around):Prop where
 hd:A.handled=none
 dp:A.depth+3*k+5<recursionLimit
 un:A.units+16*k+200<cLine
 gd:A.guards=some []
theorem cf.mono {j k:Nat}{A:Around} (r:cf k A) (h:j≤k):cf j A:=⟨r.hd,by have:=r.dp;trivial,by have:=r.un;trivial,r.gd⟩
theorem cf.deeper {k:Nat}{A:Around} (r:cf (k+1) A) (env:Env):cf k (A.deeper env):=
 ⟨r.hd,by have:=r.dp;show A.depth+1+3*k+5<_;trivial,by have:=r.un;show A.units+3+16*k+200<_;trivial,r.gd⟩
theorem wv {A:Around}{C:Addr}{us:List Value}{kw:List (Str×Value)}:(A.under (.builtin "type.__call__" ⟨.ref C :: us,kw⟩)).depth=A.depth+1:=by
 first | rfl | simp [Around.under,Code.weight,Code.isCreation,Code.isGuard,Code.isCaller,Code.frames,Code.isFrame,guardIds]
theorem wo {A:Around}{C:Addr}{us:List Value}{kw:List (Str×Value)}:(A.under (.builtin "type.__call__" ⟨.ref C :: us,kw⟩)).units=A.units+1:=by
 first | rfl | simp [Around.under,Code.cUnits,Code.frames,Code.isFrame]
theorem cf.make {k:Nat}{A:Around} (r:cf (k+1) A) (C:Addr) (us:List Value) (kw:List (Str×Value)):cf k (A.under (.builtin "type.__call__" ⟨.ref C :: us,kw⟩)):=
 ⟨r.hd,by have:=r.dp;rw [wv];trivial,by have:=r.un;rw [wo];trivial,r.gd⟩
theorem cf.depth {k:Nat}{A:Around} (r:cf k A):A.depth<recursionLimit:=by have:=r.dp;trivial
theorem cf.units {k:Nat}{A:Around} (r:cf k A):A.units+64<cLine:=by have:=r.un;trivial
def vG:TA:=fun _ H Q=>Q [] H
def y8 (ta:TE) (tr:TA):TA:=fun σ H Q=>ta σ H fun x H1=>tr σ H1 fun xs H2=>Q (x :: xs) H2
section
variable {X:Cx}{e:Expr}{es:List Expr}{te:TE}{t:TA}{pos:Pos}
theorem cA:PA X [] vG:=fun _ _ _ _ H Q I h=>Calls.spliced_nil ⟨[],H,I,.nil,h⟩
theorem fA (ha:PE X e te) (hr:PA X es t) (hs:starEach (e :: es) X.env=(false,eval e X.env) :: starEach es X.env:=by rfl):PA X (e :: es) (y8 te t):=by
 intro pos pins s σ H Q I h
 rw [hs]
 show wpAny _ _ (spliced ((false,eval e X.env) :: backTo pos (starEach es X.env))) _ _ s
 refine Calls.spliced_cons (aO (ha pins s σ H _ I h) fun u s1 ⟨x,H1,I1,r1,q1⟩=>?_)
 exact aO (hr pos pins s1 σ H1 _ I1 q1) fun us s2 ⟨xs,H2,I2,r2,q2⟩=>⟨x :: xs,H2,I2,.cons r1 r2,q2⟩
def El (t:TA):TE:=fun σ H Q=>t σ H fun xs H1=>xs.length≤sizeLine∧∀p,H1 p=none→Q (.ref p) (aH H1 p (.lst xs))
theorem BS (h:PA X es t):PE X (.List es pos) (El t):=by
 intro pins s σ H Q I hq
 refine wpAny_List_spliced (aO (h pos pins s σ H _ I hq) fun us s1 ⟨xs,H1,I1,r,z,q⟩=>⟨by rw [←r.length];exact z,?_⟩)
 have hf:H1 s1.heap.objs.size=none:=I1.hok.fresh (Nat.le_refl _)
 refine ⟨.ref s1.heap.objs.size,aH H1 s1.heap.objs.size (.lst xs),I1.laid (t':=s1.toks) (fun b u e=>Heap.get?_push_of_some _ e) (Nat.le_refl _) ?_,rfl,q _ hf⟩
 exact ⟨z,us,0,r,Heap.get?_push_size _ rfl⟩
end
abbrev Sp:=List V→Hp→VK→XK→Prop
abbrev iR:=List Env→Hp→Shared→XK→Value→Shared→Prop
structure pP (P:Program) (w:World) (K:PySem.W.Frag) (mg:Str→Option Value) (base:Heap) (A:Around) (outer:List Env) (s:Shared) (H:Hp):Prop where
 frames:A.frames=some outer
 mod:Mod K mg base
 bs:∀b o,base.get? b=some o→s.heap.get? b=some o∧H b=none
 bsz:base.objs.size≤s.heap.objs.size
 funs:s.heap.FunFrames base outer
 frf:∀b∈gb outer,H b=none
 hok:c8 P w H s.heap
 bare:AllBare s.gens
def CE (outer:List Env) (P:Program) (w:World) (H:Hp) (s:Shared) (Q:VK) (u:Value) (s':Shared):Prop:=
 bw fun v H'=>s'.os=s.os∧AllBare s'.gens∧Un (gb outer) [] H H' s.heap s'.heap∧c8 P w H' s'.heap∧aR v u∧Q v H'
def CR (CX:iR) (outer:List Env) (P:Program) (w:World) (H:Hp) (s:Shared) (Q:VK) (E:XK) (r:Result) (s':Shared):Prop:=
 match r with
 | .ok (.ret u)=>CE outer P w H s Q u s'
 | .ok _=>False
 | .error e=>CX outer H s E e s'
structure aS (P:Program) (w:World) (K:PySem.W.Frag) (mg:Str→Option Value) (base:Heap) (CX:iR) (k:Nat) (f:Addr) (fd:FuncData) (ps:List Str) (sp:Sp):Prop where
 len:∀vs H Q E,sp vs H Q E→vs.length=ps.length
 run:∀(A:Around) (outer:List Env) (s:Shared) (H:Hp) (args:Args) (us:List Value) (vs:List V) (Q:VK) (E:XK),cf k A→pP P w K mg base A outer s H→BindsTo s fd args (ps.zip us)→av vs us→sp vs H Q E→
  codeAny (model P w) A (.call (.ref f) args) (CR CX outer P w H s Q E) s
theorem pP.make {P:Program}{w:World}{K:PySem.W.Frag}{mg:Str→Option Value}{base:Heap}{A:Around}{outer:List Env}{s:Shared}{H:Hp} (e:pP P w K mg base A outer s H) (C:Addr) (us:List Value) (kw:List (Str×Value)) :
 pP P w K mg base (A.under (.builtin "type.__call__" ⟨.ref C :: us,kw⟩)) outer s H:=⟨by first | exact e.frames | (simpa [Around.under,Code.envs,Code.isFrame,pushEnvs] using e.frames),e.mod,e.bs,e.bsz,e.funs,e.frf,e.hok,e.bare⟩
section
variable {X:Cx}{pins:List (Addr×Obj)}{σ:St}{H:Hp}{s s':Shared}
theorem ad.env0 (I:ad X pins σ H s):pP X.prog X.w X.K X.mg X.base X.A X.stack s H:=
 ⟨I.ok.frames,I.ok.mod,I.bs,Nat.le_trans I.ok.bsz I.sz,I.stack,I.stkFree,I.hok,I.bare⟩
theorem ad.after {Q:VK}{u:Value} (I:ad X pins σ H s) (h:CE X.stack X.prog X.w H s Q u s'):EP X pins σ Q u s':=by
 obtain ⟨v,H',os,bare,un,hok,r,q⟩:=h
 obtain ⟨hh,g,d,t,os'⟩:=s'
 obtain rfl:os'=s.os:=os
 exact ⟨v,H',I.call (h':=hh) (g':=g) (d':=d) (t':=t) (ch:=[]) un hok bare (fun b z=>absurd z (by simp)),r,q⟩
end
def zi (sp:Sp) (dvs:List V) (E:XK) (t:TA):TE:=fun σ H Q=>t σ H fun vs H1=>sp (vs++dvs) H1 Q E
def yY (C:Addr) (m:Str) (sp:Sp) (dvs:List V) (E:XK) (ta:TE) (t:TA):TE:=fun σ H Q=>ta σ H fun x H1=>iC fun a dx fs=>x=.ref a∧H1 a=some (.ins C dx fs)∧fs.lookup m=none∧
 t σ H1 fun vs H2=>sp (x :: (vs++dvs)) H2 Q E
def DS (C:Addr) (sp:Sp) (dvs:List V) (E:XK) (t:TA):TE:=fun σ H Q=>t σ H fun vs H1=>∀x dx,H1 x=none→H1 dx=none→dx≠x→
 sp (.ref x :: (vs++dvs)) (aH (aH H1 dx (.own x)) x (.ins C dx [])) (fun v H2=>v=.non∧Q (.ref x) H2) E
def bt (K:PySem.W.Frag) (fd:FuncData) (ps:List Str) (ds:List Value):Prop:=
 ∀(s:Shared) (us:List Value),K.In s.heap→(us++ds).length=ps.length→BindsTo s fd ⟨us,[]⟩ (ps.zip (us++ds))
theorem bt.all {K:PySem.W.Frag}{fd:FuncData}{ps:List Str} (h:∀us:List Value,us.length=ps.length→bindArgs fd ⟨us,[]⟩=pure (ps.zip us)):bt K fd ps []:=fun s us _ hl=>by
 rw [List.append_nil] at hl ⊢
 exact .of_eq (h us hl)
def fX (CX:iR) (X:Cx) (E:XK):Prop:=∀(pins:List (Addr×Obj)) (σ:St) (H:Hp) (s:Shared) (e:Value) (s':Shared),ad X pins σ H s→CX X.stack H s E e s'→X.xe e s'
section
variable {X:Cx}{CX:iR}{k:Nat}{f C:Addr}{fd:FuncData}{ps:List Str}{sp:Sp}{dvs:List V}{ds:List Value}{E:XK}{x m:Str}{p pos apos:Pos}{e o:Expr}{es:List Expr}{ta:TE}{t:TA}
theorem qb {pins:List (Addr×Obj)}{σ:St}{H:Hp}{s:Shared}{Q:VK}{us:List Value}{vs:List V} (F:aS X.prog X.w X.K X.mg X.base CX k f fd ps sp) (hr:cf k X.A) (hb:bt X.K fd ps ds) (hd:av dvs ds) (hx:fX CX X E)
 (I:ad X pins σ H s) (r:av vs us) (h:sp (vs++dvs) H Q E):wpAny (model X.prog X.w) X.A (call (.ref f) us) (EP X pins σ Q) X.xe s:=by
 have r2:av (vs++dvs) (us++ds):=r.append hd
 have hl:(us++ds).length=ps.length:=by rw [←r2.length];exact F.len _ _ _ _ h
 refine wpAny_call (codeAny_mono (F.run X.A X.stack s H ⟨us,[]⟩ (us++ds) (vs++dvs) Q E hr I.env0 (hb s us I.kIn hl) r2 h) fun r s' hq=>?_)
 cases r with
 | error e=>exact hx pins σ H s e s' I hq
 | ok fl=>
  cases fl with
  | ret u=>exact I.after hq
  | next=>exact False.elim hq
  | brk=>exact False.elim hq
  | cont=>exact False.elim hq
theorem ip (F:aS X.prog X.w X.K X.mg X.base CX k f fd ps sp) (hr:cf k X.A) (hg:Gl X x) (hm:X.mg x=some (.ref f)) (hk:PySem.W.keepIn X.K (.ref f)=true) (hb:bt X.K fd ps ds) (hd:av dvs ds) (hx:fX CX X E)
 (ha:PA X (e :: es) t) (hdb:(x==("__debug__" : Str))=false:=by decide) (he:starEach (e :: es) X.env=(false,eval e X.env) :: starEach es X.env:=by rfl) (hpl:(backTo pos (starEach es X.env)).any (·.1)=false:=by rfl) :
 PE X (.Call (.Name x p) (e :: es) [] pos) (zi sp dvs E t):=by
 intro pins s σ H Q I h
 refine wpAny_Call_Name_kw (ja I hg hm ?_ hdb)
 refine PySem.W.callWith_K (h₀:=X.base) I.ok.mod.kin hk (aO (ha pos pins s σ H _ I h) fun us s1 ⟨vs,H1,I1,r,q⟩=>⟨I1.kIn,?_⟩) he hpl
 exact qb F hr hb hd hx I1 r q
theorem ym (F:aS X.prog X.w X.K X.mg X.base CX k f fd ps sp) (hr:cf k X.A) (hg:Gl X x) (hm:X.mg x=some (.ref f)) (hk:PySem.W.keepIn X.K (.ref f)=true) (hb:bt X.K fd ps ds) (hd:av dvs ds) (hx:fX CX X E)
 (hdb:(x==("__debug__" : Str))=false:=by decide):PE X (.Call (.Name x p) [] [] pos) (zi sp dvs E vG):=by
 intro pins s σ H Q I h
 refine wpAny_Call_Name_kw (ja I hg hm ?_ hdb)
 exact PySem.W.callWith_K0 I.kIn hk (qb (us:=[]) F hr hb hd hx I .nil h)
theorem cR {pl:Sem Bool} (he:PE X o ta) (c:mP X.K C) (hm:eJ X.K C m f) (F:aS X.prog X.w X.K X.mg X.base CX k f fd ps sp) (hr:cf k X.A) (hb:bt X.K fd ps ds) (hd:av dvs ds) (hx:fX CX X E) (ha:PA X (e :: es) t)
 (hst:starEach (e :: es) X.env=(false,eval e X.env) :: starEach es X.env:=by rfl) (hpl:(backTo pos (starEach es X.env)).any (·.1)=false:=by rfl)
 (ht:eval (.Call (.Attribute o m apos) (e :: es) [] pos) X.env=(do
  let ov ←eval o X.env
  standAt apos.atName
  let (f,first) ←holding [ov] (getMethod ov m pl)
  callWith pos f first (backTo pos (starEach (e :: es) X.env)) (backToKw pos (keywordEach [] X.env))):=by rfl) :
 PE X (.Call (.Attribute o m apos) (e :: es) [] pos) (yY C m sp dvs E ta t):=by
 intro pins s σ H Q I h
 refine PySem.W.methodCall_KW (pl:=pl) (aO (he pins s σ H _ I h) fun u s1 ⟨x,H1,I1,rx,a,dx,fs,ex,ea,l,q⟩=>?_) ht
 subst ex
 obtain rfl:u=Value.ref a:=rx
 refine qa I1 ea c hm l ?_
 refine PySem.W.callWith_K (first:=[.ref a]) (h₀:=X.base) I.ok.mod.kin hm.kp (aO (ha pos pins s1 σ H1 _ I1 q) fun us s2 ⟨vs,H2,I2,r,q2⟩=>⟨I2.kIn,?_⟩) hst hpl
 exact qb (us:=.ref a :: us) (vs:=.ref a :: vs) F hr hb hd hx I2 (.cons rfl r) q2
theorem iY {pl:Sem Bool} (he:PE X o ta) (c:mP X.K C) (hm:eJ X.K C m f) (F:aS X.prog X.w X.K X.mg X.base CX k f fd ps sp) (hr:cf k X.A) (hb:bt X.K fd ps ds) (hd:av dvs ds) (hx:fX CX X E)
 (ht:eval (.Call (.Attribute o m apos) [] [] pos) X.env=(do
  let ov ←eval o X.env
  standAt apos.atName
  let (f,first) ←holding [ov] (getMethod ov m pl)
  callWith pos f first (backTo pos (starEach [] X.env)) (backToKw pos (keywordEach [] X.env))):=by rfl) :
 PE X (.Call (.Attribute o m apos) [] [] pos) (yY C m sp dvs E ta vG):=by
 intro pins s σ H Q I h
 refine PySem.W.methodCall_KW (pl:=pl) (aO (he pins s σ H _ I h) fun u s1 ⟨x,H1,I1,rx,a,dx,fs,ex,ea,l,q⟩=>?_) ht
 subst ex
 obtain rfl:u=Value.ref a:=rx
 refine qa I1 ea c hm l ?_
 exact PySem.W.callWith_K0 (first:=[.ref a]) I1.kIn hm.kp (qb (us:=[.ref a]) (vs:=[.ref a]) F hr hb hd hx I1 (.cons rfl .nil) q)
structure Mk (K:PySem.W.Frag) (C f:Addr):Prop where
 makes:PySem.W.makesIn K C=true
 init:PySem.W.findIn K (.ref C) "__init__" = some (some (.ref f))
 fn:PySem.W.isFn K (.ref f)=true
 kp:PySem.W.keepIn K (.ref C)=true
theorem x9 {pins:List (Addr×Obj)}{σ:St}{H:Hp}{s:Shared}{Q:VK}{us:List Value}{vs:List V} (M:Mk X.K C f) (F:aS X.prog X.w X.K X.mg X.base CX k f fd ps sp) (hr:cf (k+1) X.A) (hb:bt X.K fd ps ds) (hd:av dvs ds)
 (hx:fX CX X E) (I:ad X pins σ H s) (r:av vs us)
 (h:∀x dx,H x=none→H dx=none→dx≠x→sp (.ref x :: (vs++dvs)) (aH (aH H dx (.own x)) x (.ins C dx [])) (fun v H2=>v=.non∧Q (.ref x) H2) E) :
 wpAny (model X.prog X.w) X.A (call (.ref C) us) (EP X pins σ Q) X.xe s:=by
 have hq:=h (s.heap.objs.size+1) s.heap.objs.size (I.hok.fresh (Nat.le_succ _)) (I.hok.fresh (Nat.le_refl _)) (Nat.ne_of_lt (Nat.lt_succ_self _))
 have I2:=ad.made (C:=C) I
 have r2:av (V.ref (s.heap.objs.size+1) :: (vs++dvs)) (Value.ref (s.heap.objs.size+1) :: (us++ds)):=.cons rfl (r.append hd)
 have hl:(Value.ref (s.heap.objs.size+1) :: us++ds).length=ps.length:=by
  have e:=r2.length
  rw [F.len _ _ _ _ hq] at e
  exact e.symm
 refine wpAny_call (yn (f:=f) I.kIn M.makes M.init (beq_iff_eq.mp M.fn) (codeAny_mono (F.run _ X.stack _ _ ⟨Value.ref (s.heap.objs.size+1) :: us,[]⟩ (Value.ref (s.heap.objs.size+1) :: (us++ds)) _ _ E (hr.make C us [])
  (I2.env0.make C us []) (hb _ (Value.ref (s.heap.objs.size+1) :: us) I2.kIn hl) r2 hq) fun r s' hq'=>?_))
 cases r with
 | error e=>exact hx pins σ _ _ e s' I2 hq'
 | ok fl=>
  cases fl with
  | ret u=>
   obtain ⟨v,H',I3,rv,ev,q3⟩:=I2.after hq'
   subst ev
   exact ⟨rv,⟨V.ref (s.heap.objs.size+1),H',I3,rfl,q3⟩⟩
  | next=>exact False.elim hq'
  | brk=>exact False.elim hq'
  | cont=>exact False.elim hq'
theorem yg (M:Mk X.K C f) (F:aS X.prog X.w X.K X.mg X.base CX k f fd ps sp) (hr:cf (k+1) X.A) (hg:Gl X x) (hm:X.mg x=some (.ref C)) (hb:bt X.K fd ps ds) (hd:av dvs ds) (hx:fX CX X E)
 (hdb:(x==("__debug__" : Str))=false:=by decide):PE X (.Call (.Name x p) [] [] pos) (DS C sp dvs E vG):=by
 intro pins s σ H Q I h
 refine wpAny_Call_Name_kw (ja I hg hm ?_ hdb)
 exact PySem.W.callWith_K0 I.kIn M.kp (x9 (us:=[]) M F hr hb hd hx I .nil h)
end
section
variable {X:Cx}{CX:iR}{k:Nat}{f C:Addr}{fd:FuncData}{ps ks:List Str}{sp:Sp}{E:XK}{x m:Str}{p pos apos kpos:Pos}{e o:Expr}{es:List Expr}{kws:List Keyword}{te ta:TE}{t tk:TA}{nm:Option Str}
variable {g:List Value→List Value→List Value}{gV:List V→List V→List V}
end
structure aA (N P:List Str) (sc:Scope):Prop where
 kind:sc.kind=.function
 co:sc.isCoroutine=false
 gen:sc.isGenerator=false
 nd:N.Nodup
 pre:N.take P.length=P
 par:∀x∈P,sc.names.lookup x=some .local∨sc.names.lookup x=some .cell
 nofree:∀y∈sc.names,y.2≠.free
theorem rl {kindOf:Str→Option NameKind}{x:Str}:∀{binds:List (Str×Value)}{m:Str→Option Value},(∀v,(x,v)∉binds)→bindL kindOf binds m x=m x
 | [],_,_=>rfl
 | (n,v) :: r,m,h=>by
  unfold bindL
  rw [rl fun w hw=>h w (List.mem_cons_of_mem _ hw)]
  split
  ·have:x≠n:=by rintro rfl;exact h v List.mem_cons_self
   simp [this]
  ·rfl
theorem rZ {kindOf:Str→Option NameKind}{x:Str}:∀{binds:List (Str×Value)}{m:Str→Option Value},(∀v,(x,v)∉binds)→bindC kindOf binds m x=m x
 | [],_,_=>rfl
 | (n,v) :: r,m,h=>by
  unfold bindC
  rw [rZ fun w hw=>h w (List.mem_cons_of_mem _ hw)]
  split
  ·rfl
  ·have:x≠n:=by rintro rfl;exact h v List.mem_cons_self
   simp [this]
theorem rV {kindOf:Str→Option NameKind}{x:Str}{v:Value}:∀{P:List Str}{vs:List Value}{i:Nat}{m:Str→Option Value},P.Nodup→P[i]?=some x→vs[i]?=some v→kindOf x=some .local→
 bindL kindOf (P.zip vs) m x=some v
 | [],_,_,_,_,h,_,_=>by simp at h
 | _ :: _,[],_,_,_,_,h,_=>by simp at h
 | p :: P,w :: vs,0,m,nd,h1,h2,hk=>by
  simp at h1 h2;subst h1;subst h2
  show bindL kindOf ((p,w) :: P.zip vs) m p=_
  unfold bindL
  rw [rl fun v hv=>(List.nodup_cons.mp nd).1 (List.of_mem_zip hv).1,if_pos hk]
  simp
 | p :: P,w :: vs,i+1,m,nd,h1,h2,hk=>by
  show bindL kindOf ((p,w) :: P.zip vs) m x=_
  unfold bindL
  exact rV (i:=i) (List.nodup_cons.mp nd).2 (by simpa using h1) (by simpa using h2) hk
theorem rF {kindOf:Str→Option NameKind}{x:Str}{v:Value}:∀{P:List Str}{vs:List Value}{i:Nat}{m:Str→Option Value},P.Nodup→P[i]?=some x→vs[i]?=some v→kindOf x≠some .local→
 bindC kindOf (P.zip vs) m x=some v
 | [],_,_,_,_,h,_,_=>by simp at h
 | _ :: _,[],_,_,_,_,h,_=>by simp at h
 | p :: P,w :: vs,0,m,nd,h1,h2,hk=>by
  simp at h1 h2;subst h1;subst h2
  show bindC kindOf ((p,w) :: P.zip vs) m p=_
  unfold bindC
  rw [rZ fun v hv=>(List.nodup_cons.mp nd).1 (List.of_mem_zip hv).1,if_neg hk]
  simp
 | p :: P,w :: vs,i+1,m,nd,h1,h2,hk=>by
  show bindC kindOf ((p,w) :: P.zip vs) m x=_
  unfold bindC
  exact rF (i:=i) (List.nodup_cons.mp nd).2 (by simpa using h1) (by simpa using h2) hk
def jQ (N:List Str) (vs:List V):St:=vs.map some++List.replicate (N.length - vs.length) none
def mM (CX:iR) (P:Program) (w:World) (K:PySem.W.Frag) (mg:Str→Option Value) (base:Heap) (N:List Str) (qual:Str) (scope:Scope) (f:Addr) (cd:Value) (A:Around) (outer:List Env) (s:Shared) (H:Hp) (E:XK):Cx where
 prog:=P
 w:=w
 K:=K
 mg:=mg
 base:=base
 A:=A.deeper (envOfC qual scope s.heap.objs.size f cd)
 N:=N
 s₀:=s
 H₀:=H
 env:=envOfC qual scope s.heap.objs.size f cd
 outer:=outer
 stack:=envOfC qual scope s.heap.objs.size f cd :: outer
 ex:=[]
 calm:=true
 fn:=fun _=>true
 pn:=[]
 xe:=fun e s'=>wpAny (model P w) (A.deeper (envOfC qual scope s.heap.objs.size f cd)) (leaving (envOfC qual scope s.heap.objs.size f cd) e) (fun _ s''=>CX outer H s E e s'') (fun e' s''=>CX outer H s E e' s'') s'
theorem tU {sc:Scope}{n:Nat}{x:Str} (h:sc.names.lookup x=some .cell):∃c,(cellsFrom n sc.names []).lookup x=some c:=by
 have q:=PySem.W.cellsFrom_some sc.names n [] (.inl h)
 exact Option.isSome_iff_exists.mp q
theorem xQ {CX:iR}{P:Program}{w:World}{K:PySem.W.Frag}{mg:Str→Option Value}{base:Heap}{N ps:List Str}{qual:Str}{scope:Scope}{f:Addr}{cd:Value}{A:Around}{outer:List Env}{s s1:Shared}{H:Hp}{E:XK}{us:List Value}{vs:List V}
 (S:aA N ps scope) (hd:A.handled=none) (e0:pP P w K mg base A outer s H) (hl:vs.length=ps.length) (r:av vs us)
 (x:InCallC s s.heap.objs.size (bindL (envOfC qual scope s.heap.objs.size f cd).kindOf (ps.zip us) fun _=>none) (cellsFrom (s.heap.objs.size+1) scope.names []) (bindC (envOfC qual scope s.heap.objs.size f cd).kindOf (ps.zip us) fun _=>none) s1) :
 ad (mM CX P w K mg base N qual scope f cd A outer s H E) [] (jQ N vs) H s1:=by
 have hpl:ps.length≤N.length:=by have:=congrArg List.length S.pre;rw [List.length_take] at this;trivial
 obtain ⟨h1,tk,rfl,hk⟩:=x.done
 have noA:∀b:Addr,b∉(mM CX P w K mg base N qual scope f cd A outer s H E).ex:=fun b z=>absurd (show b∈([]:List Addr) from z) (by simp)
 refine ⟨⟨e0.mod,S.kind,rfl,rfl,Nat.le_refl _,fun y z c h1 h2=>?_,fun y hy=>?_,fun y c _ h=>?_,fun _=>hd,Around.frames_deeper e0.frames,.inr ⟨rfl,rfl⟩,fun b z=>absurd z (noA b),e0.bs,e0.bsz,fun b _ _=>noA b,fun b z=>absurd z (noA b),e0.funs,e0.frf⟩,
  rfl,e0.bare,Un.kept hk,⟨_,x.toInCall.ns,fun i y v h1 h2 h3=>?_⟩,fun y c h=>⟨_,x.cell y c h⟩,e0.hok.fresh (Nat.le_refl _),fun y c h=>?_,fun p hp=>absurd (show p∈([]:List (Addr×Obj)) from hp) (by simp),e0.hok.kept hk,?_⟩
 ·exact name_of_addr x.apart (PySem.mem_of_lookup h1) (PySem.mem_of_lookup h2)
 ·have hy:scope.names.lookup y=some .cell∨scope.names.lookup y=some .free:=hy
  rcases hy with hy | hy
  ·exact tU hy
  ·exact absurd rfl (S.nofree _ (PySem.mem_of_lookup hy))
 ·exact Nat.le_of_lt (x.above y c (PySem.mem_of_lookup h))
 ·have hi:i<vs.length:=by
   unfold jQ at h2
   by_cases hi:i<vs.length
   ·exact hi
   ·rw [List.getElem?_append_right (by simpa using hi)] at h2
    rw [List.getElem?_replicate] at h2
    split at h2 <;> cases h2
  have ha:vs[i]?=some v:=by
   unfold jQ at h2
   rw [List.getElem?_append_left (by simpa using hi),List.getElem?_map] at h2
   cases e:vs[i]? with
   | none=>rw [e] at h2;cases h2
   | some a=>rw [e] at h2;cases h2;rfl
  obtain ⟨u,hu,rv⟩:=r.get ha
  have hp:ps[i]?=some y:=by
   rw [←S.pre,List.getElem?_take_of_lt (by trivial)];exact h1
  have ndP:ps.Nodup:=by rw [←S.pre];exact S.nd.sublist (List.take_sublist _ _)
  refine ⟨u,rv,?_⟩
  rcases S.par y (List.mem_of_getElem? hp) with k | k
  ·exact .inl ⟨k,rV ndP hp hu k⟩
  ·obtain ⟨c,e⟩:=tU (n:=s.heap.objs.size+1) k
   refine .inr ⟨.inl k,c,e,?_⟩
   have q:=x.cell y c e
   rw [rF ndP hp hu (by show scope.names.lookup y≠_;rw [k];decide)] at q
   exact q
 ·exact e0.hok.fresh (Nat.le_of_lt (x.above y c (PySem.mem_of_lookup h)))
 ·unfold jQ
  show _=N.length
  rw [List.length_append,List.length_map,List.length_replicate]
  trivial
theorem zp {CX:iR}{P:Program}{w:World}{K:PySem.W.Frag}{mg:Str→Option Value}{base:Heap}{k:Nat}{f:Addr}{name qual:Str}{params:Arguments}{body:List Stmt}{scope:Scope}{dV kV doc pm cdv ct oc:Value}{an od:Option Addr}
 {osl:Array (Option Value)}{N ps:List Str}{sp:Sp} (lk:K.lookup f=some ⟨oc,od,.func (PySem.W.fnOf name qual params body scope dV kV doc pm an cdv ct),osl⟩) (hcd:PySem.W.codeIn K cdv qual=true) (S:aA N ps scope)
 (len:∀vs H Q E,sp vs H Q E→vs.length=ps.length)
 (hbody:∀(A:Around) (outer:List Env) (s:Shared) (H:Hp) (vs:List V) (Q:VK) (E:XK),cf k (A.deeper (envOfC qual scope s.heap.objs.size f cdv))→sp vs H Q E→
  ∃t,jO (mM CX P w K mg base N qual scope f cdv A outer s H E) body t∧t { nx:=fun _ H'=>Q .non H',rt:=Q } (jQ N vs) H) :
 aS P w K mg base CX (k+1) f (PySem.W.fnOf name qual params body scope dV kV doc pm an cdv ct) ps sp:=by
 refine ⟨len,fun A outer s H args us vs Q E hr e0 hb r hsp=>?_⟩
 have hl:=len _ _ _ _ hsp
 have KX:K.In s.heap:=e0.mod.kin.keeps fun b o e=>(e0.bs b o e).1
 have lim:s.heap.NoLimit:=e0.mod.nolimit.keeps fun b o e=>(e0.bs b o e).1
 have hkind:∀y∈ps.zip us,scope.names.lookup y.1=some .local∨(scope.names.lookup y.1=some .cell∧((cellsFrom (s.heap.objs.size+1) scope.names []).lookup y.1).isSome=true):=fun ⟨n,v⟩ hy=>by
  rcases S.par n (List.of_mem_zip hy).1 with q | q
  ·exact .inl q
  ·exact .inr ⟨q,PySem.W.cellsFrom_some _ _ _ (.inl q)⟩
 refine codeAny_call_function hr.depth (KX _ _ lk) rfl S.co S.gen rfl (PySem.W.codeRec_of KX hcd) (hb _ _ _ _ ?_)
 refine wpAny_newFunctionEnv_cells S.kind hkind fun env he s1 x=>?_
 subst he
 refine ⟨lim.keeps x.toInCall.keep,codeAny_func ?_⟩
 obtain ⟨t,ht,hq⟩:=hbody A outer s H vs Q E (hr.deeper _) hsp
 have I:ad (mM CX P w K mg base N qual scope f cdv A outer s H E) [] (jQ N vs) H s1:=xQ S hr.hd e0 hl r x
 refine wpAny_mono (ht [] s1 (jQ N vs) H _ I hq) (fun fl s' hs=>?_) fun e s' hs=>hs
 have fin:∀{σ':St}{H':Hp}{v:V}{u:Value},ad (mM CX P w K mg base N qual scope f cdv A outer s H E) [] σ' H' s'→aR v u→Q v H'→CE outer P w H s Q u s':=
  fun {σ' H' v u} J rv q=>⟨v,H',J.os,J.bare,J.base,J.hok,rv,q⟩
 cases fl with
 | ret u=>
  obtain ⟨v,σ',H',J,rv,q⟩:=hs
  exact fin J rv q
 | next=>
  obtain ⟨σ',H',J,q⟩:=hs
  exact fin (v:=V.non) (u:=Value.none) J rfl q
 | brk=>
  obtain ⟨_,_,_,q⟩:=hs
  exact False.elim q
 | cont=>
  obtain ⟨_,_,_,q⟩:=hs
  exact False.elim q
end L2
namespace L2
open PySem PySem.Spec PyProof.Rows
section
variable {X:Cx}{x:Str}{p pos:Pos}{e:Expr}{es:List Expr}{t:TA}{id T:String}{r:List V→Hp→VK→Prop}
def Eh (r:List V→Hp→VK→Prop) (t:TA):TE:=fun σ H Q=>t σ H fun vs H1=>r vs H1 Q
theorem kd (hc:cU X (.builtin id) r) (hg:Gl X x) (hm:X.mg x=none) (hv:bootBuiltins x=some (.builtin id)) (ha:PA X (e :: es) t) (hn:x≠"__name__" := by decide) (hdb:(x==("__debug__" : Str))=false:=by decide)
 (he:starEach (e :: es) X.env=(false,eval e X.env) :: starEach es X.env:=by rfl) (hpl:(backTo pos (starEach es X.env)).any (·.1)=false:=by rfl):PE X (.Call (.Name x p) (e :: es) [] pos) (Eh r t):=by
 intro pins s σ H Q I h
 refine wpAny_Call_Name_kw (kO I hg hm hv ?_ hn hdb)
 exact PyProof.Rows.callWith_builtin1 (aO (ha pos pins s σ H _ I h) fun us s1 ⟨vs,H1,I1,r1,q1⟩=>hc pins s1 σ H1 vs us Q I1 r1 q1) he hpl
theorem b9 (hc:cU X (.type T) r) (hg:Gl X x) (hm:X.mg x=none) (hv:bootBuiltins x=some (.type T)) (ha:PA X (e :: es) t) (hn:x≠"__name__" := by decide) (hdb:(x==("__debug__" : Str))=false:=by decide)
 (he:starEach (e :: es) X.env=(false,eval e X.env) :: starEach es X.env:=by rfl) (hpl:(backTo pos (starEach es X.env)).any (·.1)=false:=by rfl):PE X (.Call (.Name x p) (e :: es) [] pos) (Eh r t):=by
 intro pins s σ H Q I h
 refine wpAny_Call_Name_kw (kO I hg hm hv ?_ hn hdb)
 exact PyProof.Rows.callWith_type1 (aO (ha pos pins s σ H _ I h) fun us s1 ⟨vs,H1,I1,r1,q1⟩=>hc pins s1 σ H1 vs us Q I1 r1 q1) he hpl
end
end L2
namespace HT
open PySem PyProof.Rows
section
open PySem.SeqAt
open PySem.AutoSeq1 (wpAny_loadPart')
open PySem.MeetsSeq PySem.MeetsSeq2 PySem.MeetsSeq3
end
section
variable {prog:Program}{w:World}{A:Around}{E:Value→Shared→Prop}{s:Shared}
theorem cat_tup {t b:Addr}{vs ws:List Value}{Q:Value→Shared→Prop} (ht:IsTup s.heap t vs.toArray) (hb:IsTup s.heap b ws.toArray) (hv:vs≠[])
 (h1:ws=[]→Q (.ref t) s) (h2:ws≠[]→Q (.ref s.heap.objs.size) { s with heap:=s.heap.push { cls:=.type "tuple",data:=.seq (vs++ws).toArray } })
 (hsz:vs.length+ws.length≤sizeLine):wpAny (model prog w) A (binaryOp .Add (.ref t) (.ref b)) Q E s:=by
 obtain ⟨⟨cls,dd,data,sl⟩,ho,hc,n,hd⟩:=id ht
 obtain ⟨⟨cls2,dd2,data2,sl2⟩,ho2,hc2,n2,hd2⟩:=id hb
 simp only at hc hd hc2 hd2
 subst hc hd hc2 hd2
 have e:vs.toArray++ws.toArray=(vs++ws).toArray:=by simp
 by_cases hw:ws=[]
 ·exact concat_meets ⟨_,ho,rfl⟩ ⟨_,ho2,rfl⟩ noFill_tuple_add seq_tuple_add PySem.F.slot_tuple_add PySem.F.entry_tuple_add (PySem.F.args_tuple_add_2 _ _)
   (tuple_addW1 t b vs.toArray ws.toArray n n2 dd dd2 sl sl2 (by simpa using hv) (by simp [hw])) ⟨ho,ho2,h1 hw⟩
 ·refine concat_meets ⟨_,ho,rfl⟩ ⟨_,ho2,rfl⟩ noFill_tuple_add seq_tuple_add PySem.F.slot_tuple_add PySem.F.entry_tuple_add (PySem.F.args_tuple_add_2 _ _)
   (tuple_addW2 t b vs.toArray ws.toArray n n2 dd dd2 sl sl2 (by simpa using hv) (by simpa using hw) (by rw [List.size_toArray,List.size_toArray];exact hsz)) ⟨ho,ho2,?_⟩
  rw [e]
  exact h2 hw
def sIx (n d:Nat):Option Int→Nat
 | none=>d
 | some v=>if v<0 then (v+(n:Int)).toNat else min v.toNat n
theorem sIx_none (n d:Nat):sIx n d none=d:=rfl
theorem sIx_nat (n d k:Nat):sIx n d (some (k:Int))=min k n:=by
 show (if (k:Int)<0 then ((k:Int)+(n:Int)).toNat else min (k:Int).toNat n)=min k n
 rw [if_neg (by trivial),Int.toNat_natCast]
theorem Cw (n d:Nat) (hd:d≤n) (o:Option Int):sIx n d o≤n:=by
 cases o with
 | none=>exact hd
 | some v=>
  show (if v<0 then (v+(n:Int)).toNat else min v.toNat n)≤n
  by_cases hv:v<0
  ·rw [if_pos hv];trivial
  ·rw [if_neg hv];exact Nat.min_le_right _ _
theorem vf (v:Int) (n d:Nat):(if v<0 then max (v+(n:Int)) 0 else min v (n:Int))=((sIx n d (some v):Nat):Int):=by
 show (if v<0 then max (v+(n:Int)) 0 else min v (n:Int))=(((if v<0 then (v+(n:Int)).toNat else min v.toNat n):Nat):Int)
 by_cases hv:v<0
 ·simp only [if_pos hv];trivial
 ·simp only [if_neg hv];trivial
theorem wp (lo hi:Option Int) (n:Nat):Builtin.Slice.sliceAdjust lo hi 1 (n:Int)=(((sIx n 0 lo:Nat):Int),((sIx n n hi:Nat):Int)):=by
 have h1:¬((1:Int)<0):=by trivial
 unfold Builtin.Slice.sliceAdjust
 simp only [h1,if_false]
 refine Prod.ext ?_ ?_
 ·cases lo with
  | none=>rfl
  | some v=>exact vf v n 0
 ·cases hi with
  | none=>rfl
  | some v=>exact vf v n n
theorem vR (i j:Nat):Builtin.Slice.slicePlaces (i:Int) (j:Int) 1=j - i:=by
 unfold Builtin.Slice.slicePlaces
 have h1:(1:Int) > 0:=by trivial
 simp only [h1,if_true,Int.ediv_one]
 split <;> trivial
theorem qy {v:Value}{o:Option Int}{Q:Option Int→Shared→Prop} (p:IsPart v o) (h:Q o s):wpAny (model prog w) A (Builtin.Slice.slicePartIndex v) Q E s:=by
 cases p with
 | none=>exact slicePart_none h
 | int i t=>exact slicePart_int h
theorem ki {sl:Addr}{vl vu:Value}{lo hi:Option Int}{n:Nat}{Q:Int×Int×Nat→Shared→Prop} (hs:s.heap.IsSliceOf sl vl vu .none) (pl:IsPart vl lo) (pu:IsPart vu hi)
 (h:Q (((sIx n 0 lo:Nat):Int),1,sIx n n hi - sIx n 0 lo) s):wpAny (model prog w) A (Builtin.Slice.sliceApplied (.ref sl) (pure (n:Int))) Q E s:=by
 obtain ⟨os,hos,hcs,hds⟩:=id hs
 unfold Builtin.Slice.sliceApplied Builtin.Slice.sliceFields
 refine wpAny_bind (wpAny_bind (wpAny_field hos hds (x:=vl) rfl (wpAny_bind (wpAny_field hos hds (x:=vu) rfl (wpAny_bind (wpAny_field hos hds (x:=.none) rfl (wpAny_pure ?_)))))))
 refine wpAny_bind (slicePart_none ?_)
 show wpAny _ _ (if ((1:Int)==0)=true then _ else _) _ _ s
 rw [if_neg (by decide)]
 refine wpAny_bind (qy pl (wpAny_bind (qy pu (wpAny_bind (wpAny_pure ?_)))))
 show wpAny _ _ (match Builtin.Slice.sliceAdjust lo hi 1 (n:Int) with | (lo,hi)=>pure (lo,(1:Int),Builtin.Slice.slicePlaces lo hi 1)) _ _ s
 rw [wp lo hi n]
 show wpAny _ _ (pure (((sIx n 0 lo:Nat):Int),(1:Int),Builtin.Slice.slicePlaces ((sIx n 0 lo:Nat):Int) ((sIx n n hi:Nat):Int) 1)) _ _ s
 rw [vR]
 exact wpAny_pure h
theorem yd (xs:Array Value) (i k:Nat):((List.range k).filterMap fun (m:Nat)=>xs[((i:Int)+(m:Int)*1).toNat]?).toArray=((xs.toList.drop i).take k).toArray:=by
 have e:(fun (m:Nat)=>xs[((i:Int)+(m:Int)*1).toNat]?)=fun m=>xs[i+m]?:=by
  funext m
  have:((i:Int)+(m:Int)*1).toNat=i+m:=by trivial
  rw [this]
 rw [e]
 have:=pick_run xs i k
 rw [List.filterMap_map] at this
 have e2:((fun x=>xs[x]?) ∘ fun x=>i+x)=fun m=>xs[i+m]?:=rfl
 rw [e2] at this
 rw [this]
theorem getItem_tuple_cut {t sl:Addr}{items:Array Value}{vl vu:Value}{lo hi:Option Int}{Q:Value→Shared→Prop} (ht:IsTup s.heap t items) (hs:s.heap.IsSliceOf sl vl vu .none) (pl:IsPart vl lo) (pu:IsPart vu hi)
 (hw:¬(sIx items.size 0 lo=0∧sIx items.size items.size hi=items.size))
 (h:Q (.ref s.heap.objs.size) { s with heap:=s.heap.push { cls:=.type "tuple",data:=.seq ((items.toList.drop (sIx items.size 0 lo)).take (sIx items.size items.size hi - sIx items.size 0 lo)).toArray } })
 (hsz:items.size≤sizeLine):wpAny (model prog w) A (getItem (.ref t) (.ref sl)) Q E s:=by
 have htake:sizeOk (.seq ((items.toList.drop (sIx items.size 0 lo)).take (sIx items.size items.size hi - sIx items.size 0 lo)).toArray):=by
  show ((items.toList.drop (sIx items.size 0 lo)).take (sIx items.size items.size hi - sIx items.size 0 lo)).toArray.size≤sizeLine
  rw [List.size_toArray,List.length_take,List.length_drop,Array.length_toList]
  exact Nat.le_trans (Nat.min_le_right ..) (Nat.le_trans (Nat.sub_le ..) hsz)
 have hj:sIx items.size items.size hi≤items.size:=Cw _ _ (Nat.le_refl _) hi
 obtain ⟨os,hos,hcs,hds⟩:=id hs
 have hTs:s.TypeIs (.ref sl) "slice" := ⟨os,hos,hcs⟩
 unfold getItem
 try with_reducible refine wpAny_holding ?_
 first | refine wpAny_bind (wpAny_pure ?_) | skip
 refine wpAny_bind (wpAny_sequenceKey ht.typeIs (by decide) ?_)
 refine wpAny_bind (wpAny_callSpecial?_slot (name:=Str.ofString "__getitem__") ht.typeIs PyProof.Rows.slot_tuple_getitem
  (wpAny_call_entry PyProof.Rows.slot_tuple_getitem ht.typeIs entry_tuple_getitem ?_ (args_tuple_getitem _ _)))
 show wpAny _ _ (Builtin.Tuple.tupleItemsOf (.ref t) >>= _) _ _ s
 refine wpAny_bind (tupleItemsOf_ ht ?_)
 refine wpAny_bind (wpAny_typeOf hTs ?_)
 rw [if_pos (by decide)]
 refine wpAny_bind (ki hs pl pu ?_)
 have hno:¬((((sIx items.size 0 lo:Nat):Int)==0 && (1:Int)==1 && (sIx items.size items.size hi - sIx items.size 0 lo)==items.size)=true):=by
  intro q
  rw [Bool.and_eq_true,Bool.and_eq_true] at q
  have q1:((sIx items.size 0 lo:Nat):Int)=0:=eq_of_beq q.1.1
  have q2:sIx items.size items.size hi - sIx items.size 0 lo=items.size:=eq_of_beq q.2
  exact hw ⟨by trivial,by trivial⟩
 show wpAny _ _ (if (((sIx items.size 0 lo:Nat):Int)==0 && (1:Int)==1 && (sIx items.size items.size hi - sIx items.size 0 lo)==items.size)=true then _ else _) _ _ s
 rw [if_neg hno,yd]
 first
  | exact wpAny_bind (m:=Builtin.Tuple.tupleExact _) (wpAny_newObj_type (wpAny_pure ⟨_,rfl,wpAny_pure h⟩) htake)
  | exact wpAny_bind (m:=Builtin.Tuple.tupleExact _) (wpAny_newObj_type (wpAny_bind (wpAny_pure (wpAny_pure ⟨_,rfl,wpAny_pure h⟩))) htake)
  | exact wpAny_bind (wpAny_bind (m:=Builtin.Tuple.tupleExact _) (wpAny_newObj_type (wpAny_pure (wpAny_pure ⟨_,rfl,wpAny_pure h⟩)) htake))
  | exact wpAny_bind (wpAny_bind (m:=Builtin.Tuple.tupleExact _) (wpAny_newObj_type (wpAny_pure ⟨_,rfl,wpAny_pure h⟩) htake))
end
end HT
namespace L2
open PySem PySem.Spec PyProof.Rows
abbrev TO:=St→Hp→(Option Int→Hp→Prop)→Prop
def PO (X:Cx) (e:Option Expr) (t:TO):Prop:=
 ∀(pins:List (Addr×Obj)) (s:Shared) (σ:St) (H:Hp) (Q:Option Int→Hp→Prop),ad X pins σ H s→t σ H Q→
   wpAny (model X.prog X.w) X.A (evalPart e X.env) (fun u s'=>bw fun o H'=>ad X pins σ H' s'∧IsPart u o∧Q o H') X.xe s
def AV:TO:=fun _ H Q=>Q none H
def CO (t:TE):TO:=fun σ H Q=>t σ H fun x H1=>BH x fun i=>Q (some i) H1
section
variable {X:Cx}{e:Expr}{te:TE}{lo hi:Option Expr}{tl th:TO}{pos p2:Pos}
theorem eH:PO X none AV:=by
 intro pins s σ H Q I h
 rw [evalPart_none]
 exact wpAny_pure ⟨none,H,I,.none,h⟩
theorem dg (h:PE X e te):PO X (some e) (CO te):=by
 intro pins s σ H Q I hw
 rw [evalPart_some]
 refine aO (h pins s σ H _ I hw) fun u s1 ⟨x,H1,I1,r1,q1⟩=>?_
 obtain ⟨i,rfl,q⟩:=q1
 obtain ⟨t,rfl⟩:=r1
 exact ⟨some i,H1,I1,.int i t,q⟩
def xp (X:Cx) (r:V→Option Int→Option Int→Hp→VK→Prop):Prop:=
 ∀(pins:List (Addr×Obj)) (s:Shared) (σ:St) (H:Hp) (x:V) (v vl vu:Value) (lo hi:Option Int) (sl:Addr) (Q:VK),ad X pins σ H s→aR x v→s.heap.IsSliceOf sl vl vu .none→IsPart vl lo→IsPart vu hi→r x lo hi H Q→
   bw fun T id=>typeLookup (.type T) "__getitem__" = pure (some (.builtin id))∧s.TypeIs v T∧wpAny (model X.prog X.w) X.A (getItem v (.ref sl)) (EP X pins σ Q) X.xe s
def E3 (r:V→Option Int→Option Int→Hp→VK→Prop) (te:TE) (tl th:TO):TE:=fun σ H Q=>te σ H fun x H1=>tl σ H1 fun l H2=>th σ H2 fun u H3=>r x l u H3 Q
theorem cY {r:V→Option Int→Option Int→Hp→VK→Prop} (hr:xp X r) (he:PE X e te) (hl:PO X lo tl) (hu:PO X hi th):PE X (.Subscript e (.Slice lo hi none p2) pos) (E3 r te tl th):=by
 intro pins s σ H Q I h
 refine Subscript_ (aO (he pins s σ H _ I h) fun v s1 ⟨x,H1,I1,r1,q1⟩=>?_)
 refine wpAny_Slice (aO (hl pins s1 σ H1 _ I1 q1) fun vl s2 ⟨l,H2,I2,pl,q2⟩=>aO (hu pins s2 σ H2 _ I2 q2) fun vu s3 ⟨u,H3,I3,pu,q3⟩=>?_)
 rw [evalPart_none]
 refine wpAny_pure ?_
 have I4:ad X pins σ H3 { s3 with heap:=s3.heap.push { cls:=.type "slice",data:=.fields #[vl,vu,.none] } }:=I3.kept (t':=s3.toks) fun b ob q=>Heap.get?_push_of_some _ q
 obtain ⟨T,id,hT,ht,hg⟩:=hr pins { s3 with heap:=s3.heap.push { cls:=.type "slice",data:=.fields #[vl,vu,.none] } } σ H3 x v vl vu l u s3.heap.objs.size Q I4 r1 (Heap.IsSliceOf.new ..) pl pu q3
 show wpAny (model X.prog X.w) X.A (subscriptTail e (.Slice lo hi none p2) v (.ref s3.heap.objs.size)) (EP X pins σ Q) X.xe { s3 with heap:=s3.heap.push { cls:=.type "slice",data:=.fields #[vl,vu,.none] } }
 exact tail_any (ops:=[.ref s3.heap.objs.size,v]) ht hT hg (by with_unfolding_all rfl)
def fU (xs:List V) (lo hi:Option Int):List V:=(xs.drop (HT.sIx xs.length 0 lo)).take (HT.sIx xs.length xs.length hi - HT.sIx xs.length 0 lo)
theorem dR (xs:List V) (lo hi:Option Int):(fU xs lo hi).length≤xs.length:=by
 unfold fU
 rw [List.length_take,List.length_drop]
 exact Nat.le_trans (Nat.min_le_right ..) (Nat.sub_le ..)
inductive C6 (K:PySem.W.Frag) (x:V) (lo:Option Int) (hi:Option Int) (H:Hp) (Q:VK):Prop
 | mk (a:_) (xs:_) (h0:x=.ref a) (h1:ah K H a xs) (h2:¬(HT.sIx xs.length 0 lo=0∧HT.sIx xs.length xs.length hi=xs.length)) (h3:∀p,H p=none→Q (.ref p) (aH H p (.tup (fU xs lo hi))))
def EY (K:PySem.W.Frag):V→Option Int→Option Int→Hp→VK→Prop:=fun x lo hi H Q=>C6 K x lo hi H Q
theorem Cv:xp X (EY X.K):=by
 intro pins s σ H x v vl vu lo hi sl Q I rx hs pl pu h
 obtain ⟨a,xs,rfl,hx,hw,q⟩:=h
 cases rx
 obtain ⟨its,r,ht,hz⟩:=I.tuple hx
 have hlen:its.toArray.size=xs.length:=by rw [List.size_toArray];exact r.length.symm
 refine ⟨"tuple",_,PyProof.Rows.slot_tuple_getitem.lookup,ht.typeIs,?_⟩
 refine HT.getItem_tuple_cut ht hs pl pu (by rw [hlen];exact hw) ?_ (by rw [hlen];exact hz)
 rw [hlen]
 refine ⟨.ref s.heap.objs.size,_,I.laid (t':=s.toks) (o:=.tup (fU xs lo hi)) (fun b ob q=>Heap.get?_push_of_some _ q) (Nat.le_refl _) ?_,rfl,q _ (I.hok.fresh (Nat.le_refl _))⟩
 exact ⟨Nat.le_trans (dR xs lo hi) hz,_,(r.drop (HT.sIx xs.length 0 lo)).take (HT.sIx xs.length xs.length hi - HT.sIx xs.length 0 lo),IsTup.new _ _,_,Heap.get?_push_size _ rfl,rfl⟩
inductive BC (K:PySem.W.Frag) (x:V) (y:V) (H:Hp) (Q:VK):Prop
 | mk (a:_) (b:_) (xs:_) (ys:_) (h0:x=.ref a) (h1:y=.ref b) (h2:ah K H a xs) (h3:ah K H b ys) (h4:xs≠[]) (h5:xs.length+ys.length≤sizeLine) (h6:(ys=[]→Q (.ref a) H)) (h7:(ys≠[]→∀p,H p=none→Q (.ref p) (aH H p (.tup (xs++ys)))))
def DZ (K:PySem.W.Frag):R2:=fun x y H Q=>BC K x y H Q
theorem av.nil_iff {xs:List V}{us:List Value} (r:av xs us):us=[]↔xs=[]:=by
 cases r with
 | nil=>simp
 | cons _ _=>simp
theorem AJ:cF X (binaryOp .Add) (DZ X.K):=by
 intro pins s σ H x y v u Q I rx ry h
 obtain ⟨a,b,xs,ys,rfl,rfl,ha,hb,hx,hz,q1,q2⟩:=h
 cases rx
 cases ry
 obtain ⟨its,r1,p1,_⟩:=I.tuple ha
 obtain ⟨its2,r2,p2,_⟩:=I.tuple hb
 refine HT.cat_tup p1 p2 (fun z=>hx (r1.nil_iff.mp z)) (fun z=>⟨.ref a,H,I,rfl,q1 (r2.nil_iff.mp z)⟩) (fun z=>?_) (by rw [←r1.length,←r2.length];exact hz)
 refine ⟨.ref s.heap.objs.size,_,I.laid (t':=s.toks) (o:=.tup (xs++ys)) (fun b ob q=>Heap.get?_push_of_some _ q) (Nat.le_refl _) ?_,rfl,q2 (fun w=>z (r2.nil_iff.mpr w)) _ (I.hok.fresh (Nat.le_refl _))⟩
 exact ⟨by rw [List.length_append];exact hz,_,r1.append r2,IsTup.new _ _,_,Heap.get?_push_size _ rfl,rfl⟩
end
def kU (n:Nat) (i:Int):Option Nat:=if 0≤i then (if i<n then some i.toNat else none) else if -(n:Int)≤i then some (i+n).toNat else none
def gT {α:Type} (xs:List α) (i:Int):Option α:=(kU xs.length i).bind fun j=>xs[j]?
theorem uS {n:Nat}{i:Int}{j:Nat} (h:kU n i=some j):seqIndex? i n=some j∧j<n∧-(n:Int)≤i∧i<n:=by
 unfold kU at h
 by_cases h0:0≤i
 ·rw [if_pos h0] at h
  by_cases h1:i<n
  ·rw [if_pos h1] at h
   have e:i.toNat=j:=Option.some.inj h
   exact ⟨by rw [seqIndex_of h0 h1,e],by trivial,by trivial,h1⟩
  ·rw [if_neg h1] at h;cases h
 ·rw [if_neg h0] at h
  by_cases h1:-(n:Int)≤i
  ·rw [if_pos h1] at h
   have e:(i+n).toNat=j:=Option.some.inj h
   exact ⟨by rw [seqIndex_neg (by trivial) h1,e],by trivial,h1,by trivial⟩
  ·rw [if_neg h1] at h;cases h
theorem qY {α:Type}{xs:List α}{i:Int}{v:α} (h:gT xs i=some v):∃j,seqIndex? i xs.length=some j∧xs[j]?=some v∧j<xs.length∧-(xs.length:Int)≤i∧i<xs.length:=by
 unfold gT at h
 cases e:kU xs.length i with
 | none=>rw [e] at h;cases h
 | some j=>
  rw [e] at h
  obtain ⟨h1,h2,h3,h4⟩:=uS e
  exact ⟨j,h1,h,h2,h3,h4⟩
theorem i3 {α:Type}{xs:List α}{j:Nat}{v:α} (h:xs[j]?=some v):gT xs (j:Int)=some v:=by
 have hj:j<xs.length:=(List.getElem?_eq_some_iff.mp h).1
 have e:kU xs.length (j:Int)=some j:=by
  unfold kU
  rw [if_pos (by trivial),if_pos (by trivial)];simp
 unfold gT;rw [e];exact h
theorem fY {α:Type} (xs:List α) (v:α):gT (xs++[v]) (-1)=some v:=by
 have hl:(xs++[v]).length=xs.length+1:=by simp
 have e:kU (xs++[v]).length (-1)=some xs.length:=by
  unfold kU
  rw [hl,if_neg (by decide),if_pos (by trivial)]
  congr 1
  trivial
 unfold gT
 rw [e]
 show (xs++[v])[xs.length]?=some v
 simp
def As (b:Expr):Prop:=∀o i,subscripted b false o i=operate [o,i] (getItem o i)
def lM (X:Cx) (r:R2):Prop:=
 ∀(value slice:Expr) (pins:List (Addr×Obj)) (s:Shared) (σ:St) (H:Hp) (x y:V) (v u:Value) (Q:VK),ad X pins σ H s→aR x v→aR y u→r x y H Q→
   subscripted slice false v u=operate [v,u] (getItem v u)→wpAny (model X.prog X.w) X.A (subscriptTail value slice v u) (EP X pins σ Q) X.xe s
def tJ (X:Cx) (id:String) (r:V→List V→Hp→VK→Prop):Prop:=
 ∀(pins:List (Addr×Obj)) (s:Shared) (σ:St) (H:Hp) (x:V) (xs:List V) (v:Value) (us:List Value) (Q:VK),ad X pins σ H s→aR x v→av xs us→r x xs H Q→
   wpAny (model X.prog X.w) X.A (call (.builtin id) (v :: us)) (EP X pins σ Q) X.xe s
section
variable {X:Cx}{a b:Expr}{ta tb:TE}{pos:Pos}
theorem lM.or {r r':R2} (h:lM X r) (h':lM X r'):lM X (fun x y H Q=>r x y H Q∨r' x y H Q):=by
 intro value slice pins s σ H x y v u Q I rx ry q hs
 rcases q with q | q
 ·exact h value slice pins s σ H x y v u Q I rx ry q hs
 ·exact h' value slice pins s σ H x y v u Q I rx ry q hs
theorem aK {r:R2} (hr:lM X r) (ha:PE X a ta) (hb:PE X b tb) (hs:As b):PE X (.Subscript a b pos) (rR r ta tb):=by
 intro pins s σ H Q I h
 exact Subscript_ (xW ha hb I h fun v u s2 x y H2 I2 rx ry q=>hr a b pins s2 σ H2 x y v u Q I2 rx ry q (hs _ _))
inductive Dh (K:PySem.W.Frag) (x:V) (y:V) (H:Hp) (Q:VK):Prop
 | mk (p:_) (xs:_) (i:_) (v:_) (h0:x=.ref p) (h1:y=.int i) (h2:af K H p xs) (h3:gT xs i=some v) (h4:Q v H)
def xZ (K:PySem.W.Frag):R2:=fun x y H Q=>Dh K x y H Q
inductive DT (K:PySem.W.Frag) (x:V) (y:V) (H:Hp) (Q:VK):Prop
 | mk (p:_) (xs:_) (i:_) (v:_) (h0:x=.ref p) (h1:y=.int i) (h2:ah K H p xs) (h3:gT xs i=some v) (h4:Q v H)
def yT (K:PySem.W.Frag):R2:=fun x y H Q=>DT K x y H Q
inductive DP (x:V) (y:V) (H:Hp) (Q:VK):Prop
 | mk (z:_) (i:_) (c:_) (h0:x=.str z) (h1:y=.int i) (h2:z.length≤sizeLine) (h3:gT z.cps.toList i=some c) (h4:Q (.str ⟨#[c]⟩) H)
def Bf:R2:=fun x y H Q=>DP  x y H Q
theorem u9:lM X (xZ X.K):=by
 intro value slice pins s σ H x y v u Q I rx ry h hs
 obtain ⟨p,xs,i,z,rfl,rfl,hq,he,q⟩:=h
 cases rx
 obtain ⟨t,rfl⟩:=ry
 obtain ⟨its,r,pl,hz⟩:=I.list hq
 obtain ⟨j,h1,h2,h3,h4,h5⟩:=qY he
 obtain ⟨w,ew,rw'⟩:=r.get h2
 have hl:=r.length
 have hn:=oz
 have fin:EP X pins σ Q w s:=⟨z,H,I,rw',q⟩
 by_cases h0:0≤i
 ·have hj:i.toNat=j:=by
   rw [seqIndex_of h0 h5] at h1
   exact Option.some.inj h1
  exact item_listR pl.isList h0 (by trivial) (by rw [hj];simpa using ew) fin hs
 ·have hj:(i+(its.toArray.size:Int)).toNat=j:=by
   rw [seqIndex_neg (by trivial) h4] at h1
   rw [List.size_toArray,←hl]
   exact Option.some.inj h1
  exact subscriptTail_builtinR (x:=w) pl.isList.typeIs slot_list_getitem.lookup
   (wpAny_getItem_list_neg (Q:=fun r s'=>r=w∧EP X pins σ Q r s') pl.isList (by trivial) (by rw [List.size_toArray] <;> trivial) (by trivial) (by rw [hj];simpa using ew) ⟨rfl,fin⟩) hs
theorem xa:lM X (yT X.K):=by
 intro value slice pins s σ H x y v u Q I rx ry h hs
 obtain ⟨p,xs,i,z,rfl,rfl,hq,he,q⟩:=h
 cases rx
 obtain ⟨t,rfl⟩:=ry
 obtain ⟨its,r,pl,hz⟩:=I.tuple hq
 obtain ⟨j,h1,h2,h3,h4,h5⟩:=qY he
 obtain ⟨w,ew,rw'⟩:=r.get h2
 have hl:=r.length
 have hn:=oz
 have fin:EP X pins σ Q w s:=⟨z,H,I,rw',q⟩
 exact subscriptTail_builtinR (x:=w) pl.typeIs slot_tuple_getitem.lookup
  (getItem_tuple (j:=j) (Q:=fun r s'=>r=w∧EP X pins σ Q r s') pl (by trivial) (by trivial) (by rw [List.size_toArray,←hl];exact h1) (by simpa using ew) ⟨rfl,fin⟩) hs
theorem qg:lM X Bf:=by
 intro value slice pins s σ H x y v u Q I rx ry h hs
 obtain ⟨z,i,c,rfl,rfl,hz,he,q⟩:=h
 obtain ⟨t,rfl⟩:=rx
 obtain ⟨t',rfl⟩:=ry
 obtain ⟨j,h1,h2,h3,h4,h5⟩:=qY he
 have hl:z.cps.toList.length=z.length:=by simp [Str.length]
 rw [hl] at h1 h4 h5
 have hn:=oz
 exact tail_any (typeIs_str s z t) slot_str_getitem.lookup (getItem_str (c:=c) (by
  have e1:decide (i < -(2 ^ 63:Int))=false:=decide_eq_false (by trivial)
  have e2:decide (i≥2 ^ 63)=false:=decide_eq_false (by trivial)
  rw [e1,e2,Bool.or_false]) (by rw [h1];simpa using h2) ⟨.str ⟨#[c]⟩,H,I.tok _,⟨()⟩,q⟩) hs
def Eg (K:PySem.W.Frag):R2:=fun x y H Q=>xZ K x y H Q∨yT K x y H Q∨Bf x y H Q
theorem iH:lM X (Eg X.K):=u9.or (xa.or qg)
theorem wu (its:List Value) (n j:Nat) (u:Value):Obj.mapSeq (·.setIfInBounds j u) { cls:=.type "list",data:=.seq its.toArray n }={ cls:=.type "list",data:=.seq (its.set j u).toArray n }:=by
 simp [Obj.mapSeq]
theorem ad.lst {pins:List (Addr×Obj)}{σ:St}{H:Hp}{s:Shared}{p:Addr}{xs:List V} (I:ad X pins σ H s) (h:H p=some (.lst xs)) :
 bw fun (its:List Value) (n:Nat)=>av xs its∧s.heap.get? p=some { cls:=.type "list",data:=.seq its.toArray n }∧xs.length≤sizeLine:=by
 obtain ⟨z,its,n,r,e⟩:=I.hok p _ h
 exact ⟨its,n,r,e,z⟩
theorem ad.lstUpd {pins:List (Addr×Obj)}{σ:St}{H:Hp}{s:Shared}{p:Addr}{xs ys:List V}{its its':List Value}{n n':Nat}{f:Obj→Obj} (I:ad X pins σ H s) (h:H p=some (.lst xs))
 (ho:s.heap.get? p=some { cls:=.type "list",data:=.seq its.toArray n }) (hf:f { cls:=.type "list",data:=.seq its.toArray n }={ cls:=.type "list",data:=.seq its'.toArray n' }) (r:av ys its') (hz:ys.length≤sizeLine) (t:Nat) :
 ad X pins σ (aH H p (.lst ys)) { s with heap:=s.heap.update p f,toks:=t }:=by
 have e:(s.heap.update p f).get? p=some { cls:=.type "list",data:=.seq its'.toArray n' }:=by
  rw [Heap.get?_update_self f ho (by rw [hf] <;> rfl),hf]
 refine I.write (x:=p) (e:=p) (by rw [h];trivial) (.inl rfl) (fun b u hb q=>(Heap.get?_update_other _ _ (Ne.symm hb)).trans q) ⟨_,e⟩ ?_
 exact ⟨hz,its',n',r,e⟩
inductive Cd (o:V) (i:V) (v:V) (H:Hp) (Q:(Hp→Prop)):Prop
 | mk (p:_) (xs:_) (k:_) (j:_) (h0:o=.ref p) (h1:i=.int k) (h2:H p=some (.lst xs)) (h3:kU xs.length k=some j) (h4:Q (aH H p (.lst (xs.set j v))))
def DN:V→V→V→Hp→(Hp→Prop)→Prop:=fun o i v H Q=>Cd  o i v H Q
theorem pU:wz X DN:=by
 intro pins s σ H o i v ov iv u Q I ro ri rv h
 obtain ⟨p,xs,k,j,rfl,rfl,hp,hj,q⟩:=h
 cases ro
 obtain ⟨t,rfl⟩:=ri
 obtain ⟨its,n,r,ho,hz⟩:=I.lst hp
 obtain ⟨h1,h2,h3,h4⟩:=uS hj
 have hl:=r.length
 have hn:=oz
 have I':ad X pins σ (aH H p (.lst (xs.set j v))) { s with heap:=s.heap.update p (Obj.mapSeq (·.setIfInBounds j u)) }:=
  I.lstUpd hp ho (wu its n j u) (r.set rv j) (by rw [List.length_set];exact hz) s.toks
 by_cases h0:0≤k
 ·have hk:k.toNat=j:=by
   rw [seqIndex_of h0 h4] at h1
   exact Option.some.inj h1
  exact PySem.W.ki_setAt ho h0 (by trivial) (by rw [List.size_toArray,←hl];exact h4) (by rw [hk];exact ⟨_,I',q⟩)
 ·have hk:(k+(its.toArray.size:Int)).toNat=j:=by
   rw [seqIndex_neg (by trivial) h3] at h1
   rw [List.size_toArray,←hl]
   exact Option.some.inj h1
  exact PySem.W.ki_setBack ho (by trivial) (by rw [List.size_toArray,←hl];exact h3) (by trivial) (by rw [hk];exact ⟨_,I',q⟩)
theorem um (lo hi:Option Int) (n:Nat):(sliceBounds lo hi none n).1=((HT.sIx n 0 lo:Nat):Int)∧(sliceBounds lo hi none n).2.1=((HT.sIx n n hi:Nat):Int)∧(sliceBounds lo hi none n).2.2=1:=by
 refine ⟨?_,?_,rfl⟩
 ·cases lo with
  | none=>simp [sliceBounds,HT.sIx]
  | some i=>
   simp only [sliceBounds,HT.sIx,Option.getD_none,show (1:Int) > 0 by decide,if_true]
   by_cases h:i<0
   ·simp only [h,if_true] <;> trivial
   ·simp only [h,if_false] <;> trivial
 ·cases hi with
  | none=>simp [sliceBounds,HT.sIx]
  | some i=>
   simp only [sliceBounds,HT.sIx,Option.getD_none,show (1:Int) > 0 by decide,if_true]
   by_cases h:i<0
   ·simp only [h,if_true] <;> trivial
   ·simp only [h,if_false] <;> trivial
theorem sD (its:List Value) (lo hi:Option Int):slicePick its.toArray lo hi none=((its.drop (HT.sIx its.length 0 lo)).take (HT.sIx its.length its.length hi - HT.sIx its.length 0 lo)).toArray:=by
 obtain ⟨h1,h2,h3⟩:=um lo hi its.toArray.size
 unfold slicePick
 rw [h1,h2,h3]
 simp only [sliceRange_one,pick_run,List.size_toArray] <;> rfl
inductive C7 (K:PySem.W.Frag) (x:V) (lo:Option Int) (hi:Option Int) (H:Hp) (Q:VK):Prop
 | mk (a:_) (xs:_) (h0:x=.ref a) (h1:af K H a xs) (h2:∀p,H p=none→Q (.ref p) (aH H p (.lst (fU xs lo hi))))
def EB (K:PySem.W.Frag):V→Option Int→Option Int→Hp→VK→Prop:=fun x lo hi H Q=>C7 K x lo hi H Q
theorem Ae:xp X (EB X.K):=by
 intro pins s σ H x v vl vu lo hi sl Q I rx hs pl pu h
 obtain ⟨a,xs,rfl,hx,q⟩:=h
 cases rx
 obtain ⟨its,r,ht,hz⟩:=I.list hx
 have hlen:=r.length
 refine ⟨"list",_,slot_list_getitem.lookup,ht.isList.typeIs,?_⟩
 refine wpAny_getItem_list_slice ht.isList hs pl pu .none (by simp) ?_ (by rw [List.size_toArray] <;> trivial)
 rw [sD,←hlen]
 refine ⟨.ref s.heap.objs.size,_,I.laid (t':=s.toks) (o:=.lst (fU xs lo hi)) (fun b ob q=>Heap.get?_push_of_some _ q) (Nat.le_refl _) ?_,rfl,q _ (I.hok.fresh (Nat.le_refl _))⟩
 exact ⟨Nat.le_trans (dR xs lo hi) hz,_,0,(r.drop (HT.sIx xs.length 0 lo)).take (HT.sIx xs.length xs.length hi - HT.sIx xs.length 0 lo),Heap.get?_push_size _ rfl⟩
def jg:V→Bool
 | .non=>true
 | .bl _=>true
 | .int _=>true
 | .str _=>true
 | _=>false
def rL:V→V→Bool
 | .non,.non=>true
 | .bl a,.bl b=>a==b
 | .bl a,.int b=>(if a then 1 else 0)==b
 | .int a,.bl b=>a==(if b then 1 else 0)
 | .int a,.int b=>a==b
 | .str a,.str b=>a==b
 | _,_=>false
theorem BJ {A:Around}{s:Shared}{y x:V}{u v:Value} (ry:aR y u) (rx:aR x v) (fy:jg y=true) (fx:jg x=true):SeqAt.EqAt A s u v (rL y x):=by
 cases y with
 | non=>
  cases ry
  cases x with
  | non=>cases rx;exact SeqAt.EqAt.same _
  | bl b=>cases rx;exact SeqAt.EqAt.none_bool b
  | int b=>obtain ⟨t,rfl⟩:=rx;exact SeqAt.EqAt.none_int b t
  | str b=>obtain ⟨t,rfl⟩:=rx;exact SeqAt.EqAt.none_str b t
  | _=>exact absurd (show false=true from fx) Bool.false_ne_true
 | bl a=>
  cases ry
  cases x with
  | non=>cases rx;exact SeqAt.EqAt.bool_none a
  | bl b=>cases rx;exact SeqAt.EqAt.bool_bool a b
  | int b=>obtain ⟨t,rfl⟩:=rx;exact SeqAt.EqAt.bool_int a b t
  | str b=>obtain ⟨t,rfl⟩:=rx;exact SeqAt.EqAt.bool_str a b t
  | _=>exact absurd (show false=true from fx) Bool.false_ne_true
 | int a=>
  obtain ⟨t',rfl⟩:=ry
  cases x with
  | non=>cases rx;exact SeqAt.EqAt.int_none a t'
  | bl b=>cases rx;exact SeqAt.EqAt.int_bool a t' b
  | int b=>obtain ⟨t,rfl⟩:=rx;exact SeqAt.EqAt.int_int a t' b t
  | str b=>obtain ⟨t,rfl⟩:=rx;exact SeqAt.EqAt.int_str a t' b t
  | _=>exact absurd (show false=true from fx) Bool.false_ne_true
 | str a=>
  obtain ⟨t',rfl⟩:=ry
  cases x with
  | non=>cases rx;exact SeqAt.EqAt.str_none a t'
  | bl b=>cases rx;exact SeqAt.EqAt.str_bool a t' b
  | int b=>obtain ⟨t,rfl⟩:=rx;exact SeqAt.EqAt.str_int a t' b t
  | str b=>obtain ⟨t,rfl⟩:=rx;exact SeqAt.EqAt.str_str a t' b t
  | _=>exact absurd (show false=true from fx) Bool.false_ne_true
 | _=>exact absurd (show false=true from fy) Bool.false_ne_true
def kK (x:V) (u:Value):Bool:=match u with
 | .none=>rL .non x
 | .bool b=>rL (.bl b) x
 | .int i _=>rL (.int i) x
 | .str z _=>rL (.str z) x
 | _=>false
theorem wQ {x y:V}{u:Value} (r:aR y u) (f:jg y=true):kK x u=rL y x:=by
 cases y with
 | non=>cases r;rfl
 | bl b=>cases r;rfl
 | int i=>obtain ⟨t,rfl⟩:=r;rfl
 | str z=>obtain ⟨t,rfl⟩:=r;rfl
 | _=>exact absurd (show false=true from f) Bool.false_ne_true
theorem lF {x:V}:∀{xs:List V}{us:List Value},av xs us→xs.all jg=true→us.any (kK x)=xs.any fun y=>rL y x
 | _,_,.nil,_=>rfl
 | y :: xs,u :: us,.cons r t,f=>by
  rw [List.all_cons,Bool.and_eq_true] at f
  rw [List.any_cons,List.any_cons,wQ r f.1,lF t f.2]
theorem kz {A:Around}{s:Shared}{x:V}{v:Value} (rx:aR x v) (fx:jg x=true):∀{xs:List V}{us:List Value},av xs us→xs.all jg=true→∀u∈us,SeqAt.EqAt A s u v (kK x u)
 | _,_,.nil,_=>fun u hu=>by cases hu
 | y :: xs,u :: us,.cons r t,f=>fun u' hu=>by
  rw [List.all_cons,Bool.and_eq_true] at f
  rcases List.mem_cons.mp hu with rfl | hu
  ·rw [wQ r f.1];exact BJ r rx f.1 fx
  ·exact kz rx fx t f.2 u' hu
def rK (x:V) (xs:List V):Bool:=xs.any fun y=>rL y x
inductive EH (K:PySem.W.Frag) (neg:Bool) (x:V) (y:V) (H:Hp) (Q:VK):Prop
 | mk (p:_) (xs:_) (h0:y=.ref p) (h1:(af K H p xs∨ah K H p xs)) (h2:jg x=true) (h3:xs.all jg=true) (h4:Q (.bl (if neg then !rK x xs else rK x xs)) H)
def tF (K:PySem.W.Frag) (neg:Bool):R2:=fun x y H Q=>EH K neg x y H Q
theorem xF:cF X (compareOp .In) (tF X.K false):=by
 intro pins s σ H x y v u Q I rx ry h
 obtain ⟨p,xs,rfl,hq,fx,fs,q⟩:=h
 cases ry
 rcases hq with hq | hq
 ·obtain ⟨its,r,pl,hz⟩:=I.list hq
  refine SeqAt.in_listAt (kK x) pl.isList (fun w hw=>kz rx fx r fs w (by simpa using hw)) ⟨.bl _,H,I,rfl,?_⟩
  rw [show its.toArray.any (kK x)=its.any (kK x) by simp,lF r fs]
  exact q
 ·obtain ⟨its,r,pl,hz⟩:=I.tuple hq
  refine SeqAt.in_tupleAt (kK x) pl (fun w hw=>kz rx fx r fs w (by simpa using hw)) ⟨.bl _,H,I,rfl,?_⟩
  rw [show its.toArray.any (kK x)=its.any (kK x) by simp,lF r fs]
  exact q
theorem tM:cF X (compareOp .NotIn) (tF X.K true):=by
 intro pins s σ H x y v u Q I rx ry h
 obtain ⟨p,xs,rfl,hq,fx,fs,q⟩:=h
 cases ry
 rcases hq with hq | hq
 ·obtain ⟨its,r,pl,hz⟩:=I.list hq
  refine SeqAt.notIn_listAt (kK x) pl.isList (fun w hw=>kz rx fx r fs w (by simpa using hw)) ⟨.bl _,H,I,rfl,?_⟩
  rw [show its.toArray.any (kK x)=its.any (kK x) by simp,lF r fs]
  exact q
 ·obtain ⟨its,r,pl,hz⟩:=I.tuple hq
  refine SeqAt.notIn_tupleAt (kK x) pl (fun w hw=>kz rx fx r fs w (by simpa using hw)) ⟨.bl _,H,I,rfl,?_⟩
  rw [show its.toArray.any (kK x)=its.any (kK x) by simp,lF r fs]
  exact q
theorem nH:cU X (.builtin "len") (fun xs H Q=>bw fun p ys=>xs=[.ref p]∧(af X.K H p ys∨ah X.K H p ys)∧Q (.int ys.length) H):=by
 intro pins s σ H xs us Q I r h
 obtain ⟨p,ys,rfl,hq,q⟩:=h
 obtain ⟨u,rfl,rx⟩:=oP r
 cases rx
 have hn:=oz
 rcases hq with hq | hq
 ·obtain ⟨its,r',pl,hz⟩:=I.list hq
  have hlen:=r'.length
  exact Calls.call_len_list pl.isList (by simp only [List.size_toArray] <;> trivial) ⟨.int ys.length,H,I.tok _,⟨s.toks+1,by rw [List.size_toArray,hlen]⟩,q⟩
 ·obtain ⟨its,r',pl,hz⟩:=I.tuple hq
  have hlen:=r'.length
  exact len_tuple pl (by simp only [List.size_toArray] <;> trivial) ⟨.int ys.length,H,I.tok _,⟨s.toks+1,by rw [List.size_toArray,hlen]⟩,q⟩
theorem tw:cU X (.type "list") (fun xs H Q=>bw fun p ys=>xs=[.ref p]∧(af X.K H p ys∨ah X.K H p ys)∧∀l,H l=none→Q (.ref l) (aH H l (.lst ys))):=by
 intro pins s σ H xs us Q I r h
 obtain ⟨p,ys,rfl,hq,q⟩:=h
 obtain ⟨u,rfl,rx⟩:=oP r
 cases rx
 have fin:∀(its:List Value),av ys its→ys.length≤sizeLine→∀(h':Heap) (c':Nat),(∀b o',s.heap.get? b=some o'→h'.get? b=some o')→
  h'.get? s.heap.objs.size=some { cls:=.type "list",dict:=none,data:=.seq its.toArray c',slots:=#[] }→EP X pins σ Q (.ref s.heap.objs.size) { s with heap:=h' }:=fun its r' hz h' c' kp e=>
  ⟨.ref s.heap.objs.size,_,I.laid (t':=s.toks) kp (Nat.le_refl _) (show bi X.prog X.w _ h' _ (.lst ys) from ⟨hz,its,c',r',e⟩),rfl,q _ (I.hok.fresh (Nat.le_refl _))⟩
 rcases hq with hq | hq
 ·obtain ⟨its,r',pl,hz⟩:=I.list hq
  have hlen:=r'.length
  obtain ⟨o,ho,hc,n,hd⟩:=pl.isList
  exact call_list_seq p (.inl rfl) ho hc hd (fun h' c' kp e=>fin its r' hz h' c' kp e) (by simp only [List.size_toArray] <;> trivial)
 ·obtain ⟨its,r',pl,hz⟩:=I.tuple hq
  have hlen:=r'.length
  obtain ⟨o,ho,hc,n,hd⟩:=pl
  exact call_list_seq p (.inr rfl) ho hc hd (fun h' c' kp e=>fin its r' hz h' c' kp e) (by simp only [List.size_toArray] <;> trivial)
theorem sG:cU X (.type "tuple") (fun xs H Q=>bw fun p ys=>xs=[.ref p]∧((af X.K H p ys∧∀l,H l=none→Q (.ref l) (aH H l (.tup ys)))∨(ah X.K H p ys∧Q (.ref p) H))):=by
 intro pins s σ H xs us Q I r h
 obtain ⟨p,ys,rfl,h⟩:=h
 obtain ⟨u,rfl,rx⟩:=oP r
 cases rx
 rcases h with ⟨hq,q⟩ | ⟨hq,q⟩
 ·obtain ⟨its,r',pl,hz⟩:=I.list hq
  have hlen:=r'.length
  refine call_tuple_list pl.isList (fun h' kp=>?_) (by simp only [List.size_toArray] <;> trivial)
  have I1:ad X pins σ H { s with heap:=h' }:=I.kept (t':=s.toks) kp
  have I2:ad X pins σ (aH H h'.objs.size (.tup ys)) { s with heap:=h'.push { cls:=.type "tuple",data:=.seq its.toArray } }:=
   I1.laid (t':=s.toks) (fun b o e=>Heap.get?_push_of_some _ e) (Nat.le_refl _) (show bi X.prog X.w _ _ _ (.tup ys) from ⟨hz,its,r',IsTup.new _ _,_,Heap.get?_push_size _ rfl,rfl⟩)
  exact ⟨.ref h'.objs.size,_,I2,rfl,q _ (I1.hok.fresh (Nat.le_refl _))⟩
 ·obtain ⟨its,r',pl,hz⟩:=I.tuple hq
  exact call_tuple_same pl ⟨.ref p,H,I,rfl,q⟩
def CH (K:PySem.W.Frag) (T:String) (x:V) (H:Hp):Prop:=match x with
 | .str _=>T = "str"
 | .int _=>T = "int"
 | .ref p=>(T = "list"∧∃xs,af K H p xs)∨(T = "tuple"∧∃o,K.lookup p=some o∧o.cls=.type "tuple"∧o.dict=none)∨
  (T = "dict"∧((∃kvs,H p=some (.dK kvs))∨∃kvs,H p=some (.dT kvs)))∨(T = "set"∧bw fun S n=>H p=some (.set S n))
 | _=>False
theorem wN {pins:List (Addr×Obj)}{σ:St}{H:Hp}{s:Shared}{T:String}{x:V}{v:Value} (I:ad X pins σ H s) (r:aR x v) (ty:CH X.K T x H) :
 s.TypeIs v T∧∀a,v=.ref a→∃ob,s.heap.get? a=some ob∧ob.dict=none:=by
 cases x with
 | str z=>
  obtain ⟨t,rfl⟩:=r
  cases (show T = "str" from ty)
  exact ⟨typeIs_str s z t,fun _ e=>nomatch e⟩
 | int i=>
  obtain ⟨t,rfl⟩:=r
  cases (show T = "int" from ty)
  exact ⟨typeIs_int s i t,fun _ e=>nomatch e⟩
 | ref p=>
  cases r
  rcases ty with ⟨rfl,xs,hq⟩ | ⟨rfl,o,hk,hc,hd⟩ | ⟨rfl,hk⟩ | ⟨rfl,S,n,hk⟩
  ·obtain ⟨its,_,pl,_⟩:=I.list hq
   refine ⟨pl.isList.typeIs,fun a e=>?_⟩
   cases e
   obtain ⟨o,n,e,c,hd,_⟩:=pl
   exact ⟨o,e,hd⟩
  ·refine ⟨⟨o,I.kIn p o hk,hc⟩,fun a e=>?_⟩
   cases e
   exact ⟨o,I.kIn _ o hk,hd⟩
  ·have z:∃o,s.heap.get? p=some o∧o.ExactDict:=by
    rcases hk with ⟨kvs,hk⟩ | ⟨kvs,hk⟩
    ·obtain ⟨_,_,_,_,o,_,_,e,ex,_⟩:=I.hok p _ hk
     exact ⟨o,e,ex⟩
    ·obtain ⟨_,_,_,_,o,_,_,e,ex,_⟩:=I.hok p _ hk
     exact ⟨o,e,ex⟩
   obtain ⟨o,e,ex⟩:=z
   refine ⟨⟨o,e,ex.1⟩,fun a e2=>?_⟩
   cases e2
   exact ⟨o,e,ex.2.1⟩
  ·obtain ⟨o,_,_,_,e,ex,_⟩:=I.hok p _ hk
   refine ⟨⟨o,e,ex.1⟩,fun a e2=>?_⟩
   cases e2
   exact ⟨o,e,ex.2.1⟩
 | _=>exact False.elim ty
def Em (K:PySem.W.Frag) (T:String) (r:V→List V→Hp→VK→Prop) (to:TE):TE:=fun σ H Q=>to σ H fun x H1=>CH K T x H1∧r x [] H1 Q
def Ef (K:PySem.W.Frag) (T:String) (r:V→List V→Hp→VK→Prop) (to:TE) (t:TA):TE:=fun σ H Q=>to σ H fun x H1=>CH K T x H1∧t σ H1 fun xs H2=>r x xs H2 Q
variable {o e:Expr}{es:List Expr}{to:TE}{t:TA}{name:Str}{apos cpos:Pos}{T id:String}{r:V→List V→Hp→VK→Prop}
theorem xm (pa:PlainAttrs T) (slot:Slot T name id) (hty:typeOf (.builtin id)=pure (.type "method_descriptor")) (hm:tJ X id r) (ho:PE X o to)
 (hbase:attributeBase o name X.env (eval o X.env)=eval o X.env:=by rfl) (hline:(apos.endLine==cpos.line)=true:=by rfl):PE X (.Call (.Attribute o name apos) [] [] cpos) (Em X.K T r to):=by
 intro pins s σ H Q I h
 refine wpAny_Call_method0_late hbase hline (aO (ho pins s σ H _ I h) fun v s1 ⟨x,H1,I1,r1,ty,q1⟩=>?_)
 obtain ⟨h1,h2⟩:=wN I1 r1 ty
 exact ⟨T,id,pa,slot,hty,h1,h2,Calls.callWith_builtin rfl (PySem.evalArgs_none (hm pins s1 σ H1 x [] v [] Q I1 r1 .nil q1))⟩
theorem DH (pa:PlainAttrs T) (slot:Slot T name id) (hty:typeOf (.builtin id)=pure (.type "method_descriptor")) (hm:tJ X id r) (ho:PE X o to) (ha:PA X (e :: es) t)
 (hbase:attributeBase o name X.env (eval o X.env)=eval o X.env:=by rfl)
 (hfew:((backTo cpos (starEach (e :: es) X.env)).all (fun x=>!x.1) && (backToKw cpos (keywordEach [] X.env)).all (fun x=>x.1.isSome)
  && decide ((e :: es).length+([]:List Keyword).length+(if ([]:List Keyword).isEmpty then 0 else 1)<30))=true:=by rfl)
 (hline:(apos.endLine==cpos.line)=true:=by rfl) (hs:starEach (e :: es) X.env=(false,eval e X.env) :: starEach es X.env:=by rfl) (hplain:(backTo cpos (starEach es X.env)).any (·.1)=false:=by rfl) :
 PE X (.Call (.Attribute o name apos) (e :: es) [] cpos) (Ef X.K T r to t):=by
 intro pins s σ H Q I h
 refine wpAny_Call_method_late hbase hfew hline rfl (aO (ho pins s σ H _ I h) fun v s1 ⟨x,H1,I1,r1,ty,q1⟩=>?_)
 obtain ⟨h1,h2⟩:=wN I1 r1 ty
 refine ⟨T,id,pa,slot,hty,h1,h2,?_⟩
 have hA:=ha cpos pins s1 σ H1 _ I1 q1
 rw [hs] at hA ⊢
 refine Calls.callWith_builtin (by show (false || (backTo cpos (starEach es X.env)).any (·.1))=false;rw [hplain] <;> rfl) (Calls.evalArgs_plain ?_)
 exact aO hA fun us s2 ⟨vs,H2,I2,r2,q2⟩=>hm pins s2 σ H2 x vs v us Q I2 r1 r2 q2
/- xs.append(e), list.index on a module's tuple .. are tJ facts of 06m -/
end
end L2
namespace L2
open PySem PySem.Spec PyProof.Rows
def vm (X:Cx) (id:String) (r:V→List V→Hp→VK→Prop):Prop:=
 ∀(pins:List (Addr×Obj)) (s:Shared) (σ:St) (H:Hp) (x:V) (xs:List V) (v:Value) (us:List Value) (Q:VK),ad X pins σ H s→aR x v→av xs us→r x xs H Q→
   wpAny (model X.prog X.w) X.A (call (.builtin id) (v :: us)) (EP X pins σ Q) X.xe s
theorem Paired.un {α β:Type}{R:α→β→Prop}{x:α}{xs:List α}{us:List β} (h:Paired R (x :: xs) us):bw fun u vs=>us=u :: vs∧R x u∧Paired R xs vs:=by
 cases h with
 | cons r q=>exact ⟨_,_,rfl,r,q⟩
theorem Paired.un0 {α β:Type}{R:α→β→Prop}{us:List β} (h:Paired R [] us):us=[]:=by
 cases h with
 | nil=>rfl
theorem av.one {x:V}{us:List Value} (h:av [x] us):∃u,us=[u]∧aR x u:=by
 obtain ⟨u,vs,rfl,r,q⟩:=Paired.un h
 rw [Paired.un0 q]
 exact ⟨u,rfl,r⟩
theorem av.two {x y:V}{us:List Value} (h:av [x,y] us):bw fun u v=>us=[u,v]∧aR x u∧aR y v:=by
 obtain ⟨u,vs,rfl,r,q⟩:=Paired.un h
 obtain ⟨v,rfl,q2⟩:=av.one q
 exact ⟨u,v,rfl,r,q2⟩
theorem av.zero:∀{us:List Value},av [] us→us=[]
 | _,.nil=>rfl
theorem av.dropLast {xs:List V}{us:List Value} (h:av xs us):av xs.dropLast us.dropLast:=by
 induction h with
 | nil=>exact .nil
 | cons r t ih=>
  cases t with
  | nil=>exact .nil
  | cons q t'=>exact .cons r ih
theorem av.eraseIdx:∀{xs:List V}{us:List Value} (i:Nat),av xs us→av (xs.eraseIdx i) (us.eraseIdx i)
 | _,_,_,.nil=>.nil
 | _,_,0,.cons _ t=>t
 | _,_,i+1,.cons r t=>.cons r (av.eraseIdx i t)
theorem vK {α:Type} (l:List α):l.eraseIdx (l.length - 1)=l.dropLast:=by
 induction l with
 | nil=>rfl
 | cons a r ih=>
  cases r with
  | nil=>rfl
  | cons b r=>
   have e:(a :: b :: r).length - 1=((b :: r).length - 1)+1:=by
    have h1:(a :: b :: r).length=r.length+2:=rfl
    have h2:(b :: r).length=r.length+1:=rfl
    trivial
   rw [e,List.eraseIdx_cons_succ,ih]
   all_goals rfl
theorem rB {α:Type}:∀(l:List α) (i:Nat),(l.eraseIdx i).length≤l.length
 | [],_=>Nat.le_refl _
 | _ :: _,0=>Nat.le_succ _
 | _ :: r,i+1=>Nat.succ_le_succ (rB r i)
section
variable {X:Cx}{pins:List (Addr×Obj)}{σ:St}{H:Hp}{s:Shared}{l b:Addr}{xs ys zs:List V}
theorem ad.lset {its its':List Value}{n:Nat}{f:Array Value→Array Value}{t':Nat} (I:ad X pins σ H s) (hH:H l=some (.lst xs))
 (e:s.heap.get? l=some { cls:=.type "list",data:=.seq its.toArray n }) (hf:f its.toArray=its'.toArray) (hv:av ys its') (hz:ys.length≤sizeLine) :
 ad X pins σ (aH H l (.lst ys)) { s with heap:=s.heap.update l (Obj.mapSeq f),toks:=t' }:=by
 have q:=PySem.IsL.update e f
 rw [hf] at q
 refine I.write (x:=l) (e:=l) (by rw [hH];exact trivial) (.inl rfl) (fun b' u hb hu=>(Heap.get?_update_other s.heap (Obj.mapSeq f) (Ne.symm hb)).trans hu) ⟨_,q⟩ ?_
 exact ⟨hz,its',_,hv,q⟩
theorem ad.lnew {its:List Value}{t':Nat} (I:ad X pins σ H s) (hv:av ys its) (hz:ys.length≤sizeLine) :
 ad X pins σ (aH H s.heap.objs.size (.lst ys)) { s with heap:=s.heap.push { cls:=.type "list",data:=.seq its.toArray },toks:=t' }:=
 I.laid (fun _ _ q=>Heap.get?_push_of_some _ q) (Nat.le_refl _) ⟨hz,its,0,hv,Heap.get?_push_size _ rfl⟩
theorem ad.fresh (I:ad X pins σ H s):H s.heap.objs.size=none:=I.hok.fresh (Nat.le_refl _)
theorem ad.lstM (I:ad X pins σ H s) (hH:H l=some (.lst xs)):xs.length≤sizeLine∧bw fun (its:List Value) (n:Nat)=>av xs its∧xs.length=its.length∧s.heap.get? l=some { cls:=.type "list",data:=.seq its.toArray n }:=by
 obtain ⟨z,its,n,r,e⟩:=I.hok l _ hH
 exact ⟨z,its,n,r,r.length,e⟩
end
section
variable {X:Cx}
inductive yS (x:V) (vs:List V) (H:Hp) (Q:VK):Prop
 | mk (l:_) (xs:_) (y:_) (h0:x=.ref l) (h1:vs=[y]) (h2:H l=some (.lst xs)) (h3:xs.length<sizeLine) (h4:Q .non (aH H l (.lst (xs++[y]))))
def Ad:V→List V→Hp→VK→Prop:=fun x vs H Q=>yS  x vs H Q
theorem rQ:vm X "list.append" Ad:=by
 intro pins s σ H x vs v us Q I rx rv h
 obtain ⟨l,xs,y,rfl,rfl,hH,hz,q⟩:=h
 cases rx
 obtain ⟨u,rfl,ru⟩:=rv.one
 obtain ⟨z,its,n,r,hl,e⟩:=I.lstM hH
 refine call_meets F.slot_list_append ⟨_,e,rfl⟩ F.entry_list_append (F.args_list_append_2 _ _) (PySem.list_append l its.toArray n u (by rw [List.size_toArray];trivial)) ⟨e,?_⟩
 refine ⟨.non,_,I.lset (its':=its++[u]) hH e (by simp) (r.append (.cons ru .nil)) ?_,rfl,q⟩
 rw [List.length_append,List.length_singleton]
 trivial
inductive CQ (x:V) (vs:List V) (H:Hp) (Q:VK):Prop
 | mk (l:_) (xs:_) (y:_) (h0:x=.ref l) (h1:vs=[]) (h2:H l=some (.lst xs)) (h3:xs[xs.length - 1]?=some y) (h4:Q y (aH H l (.lst xs.dropLast)))
def Eo:V→List V→Hp→VK→Prop:=fun x vs H Q=>CQ  x vs H Q
theorem Cp:vm X "list.pop" Eo:=by
 intro pins s σ H x vs v us Q I rx rv h
 obtain ⟨l,xs,y,rfl,rfl,hH,hy,q⟩:=h
 cases rx
 have hus:=rv.zero
 subst hus
 obtain ⟨z,its,n,r,hl,e⟩:=I.lstM hH
 obtain ⟨u,hu,ru⟩:=r.get hy
 have hy':its.toArray[its.toArray.size - 1]?=some u:=by
  show its.toArray[its.length - 1]?=some u
  rw [←Array.getElem?_toList,←hl]
  exact hu
 refine call_meets F.slot_list_pop ⟨_,e,rfl⟩ F.entry_list_pop (F.args_list_pop_1 _) (MeetsSeq.list_pop_last l its.toArray n u hy' (by rw [List.size_toArray];trivial)) ⟨e,?_⟩
 refine ⟨y,_,I.lset (its':=its.dropLast) hH e ?_ r.dropLast ?_,ru,q⟩
 ·show its.toArray.eraseIdxIfInBounds (its.toArray.size - 1)=its.dropLast.toArray
  rw [List.size_toArray,List.eraseIdxIfInBounds_toArray,vK]
 ·rw [List.length_dropLast]
  trivial
inductive DL (x:V) (y:V) (H:Hp) (Q:VK):Prop
 | mk (l:_) (b:_) (xs:_) (zs:_) (h0:x=.ref l) (h1:y=.ref b) (h2:H l=some (.lst xs)) (h3:H b=some (.lst zs)) (h4:xs.length+zs.length≤sizeLine) (h5:∀p,H p=none→Q (.ref p) (aH H p (.lst (xs++zs))))
def Ek:R2:=fun x y H Q=>DL  x y H Q
theorem BI:cF X (binaryOp .Add) Ek:=by
 intro pins s σ H x y v u Q I rx ry h
 obtain ⟨l,b,xs,zs,rfl,rfl,hH,hB,hz,q⟩:=h
 cases rx
 cases ry
 obtain ⟨z,its,n,r,hl,e⟩:=I.lstM hH
 obtain ⟨z2,its2,n2,r2,hl2,e2⟩:=I.lstM hB
 refine PySem.P.add_list e e2 ?_ (by rw [List.size_toArray,List.size_toArray];trivial)
 have ea:its.toArray++its2.toArray=(its++its2).toArray:=by simp
 rw [ea]
 exact ⟨.ref _,_,I.lnew (t':=s.toks) (r.append r2) (by rw [List.length_append];trivial),rfl,q _ I.fresh⟩
theorem Af {α:Type} (xs:List α) (k:Nat):(List.replicate k xs).flatten.length=k*xs.length:=by
 induction k with
 | zero=>simp
 | succ k ih=>rw [List.replicate_succ,List.flatten_cons,List.length_append,ih,Nat.succ_mul,Nat.add_comm]
end
section
variable {prog:Program}{w:World}{A:Around}{E:Value→Shared→Prop}{s:Shared}
set_option maxRecDepth 100000 in
end
section
variable {X:Cx}
end
end L2
namespace Att
open PySem PySem.W PySem.Calls PyProof.Rows
theorem qx {P:Params}{h:Heap}:∀(ns:List Int) (vs:List Value),WellAll P h vs (ns.map WData.int)→IntsAre vs ns:=by
 intro ns
 induction ns with
 | nil=>
  intro vs w
  rw [List.map_nil] at w
  cases w
  exact .nil
 | cons n ns ih=>
  intro vs w
  rw [List.map_cons] at w
  cases w with
  | cons a b=>
   cases a
   exact .cons _ _ (ih _ b)
theorem wZ {l:OpenLaw}{n:Nat} (hn:l.most=some n) {P:Params}{h:Heap}{args:List WData}{vals:List Value}
 (hpre:l.row.toRowW.claim.pre args=true) (hwl:WellAll P h vals args) :
 ∃a vs ns,vals=[Value.ref a]∧args=[WData.list (ns.map WData.int)]∧h.get? a=some { cls:=.type "list",data:=.seq vs.toArray }∧IntsAre vs ns∧ns.length≤n:=by
 have hsh:WShape.hasAll [] args [.list .int]=true:=(pre_splitW hpre).1
 have hc:l.pre.holds [] { args:=args }=true:=(pre_splitW hpre).2
 obtain ⟨d,r,rfl,h1,h2⟩:=hasAllW_cons hsh
 obtain rfl:=hasAllW_nil h2
 obtain ⟨xs,rfl,h3⟩:=hasW_list h1
 obtain ⟨ns,rfl⟩:=items_int h3
 have hlen:ns.length≤n:=by
  unfold OpenLaw.pre at hc
  have h4:(WTm.not (.lt (.lit (.int (n:Int))) (.len (.arg 0)))).holds [] { args:=[.list (ns.map .int)] }=true:=by
   have h4:=(holds_andW hc).1
   rw [hn] at h4
   exact h4
  have h5:=condW_of h4 (w_not (w_lt w_lit (w_len_list (w_arg rfl))))
  rw [List.length_map] at h5
  refine Nat.le_of_not_lt fun q=>?_
  have q':(n:Int)<((ns.length:Nat):Int):=by trivial
  first
   | (rw [decide_eq_true q'] at h5;exact absurd h5 (by decide))
   | (simp at h5;trivial)
 cases hwl with
 | cons w1 w2=>
  cases w2
  cases w1 with
  | list ho hall=>exact ⟨_,_,ns,rfl,rfl,ho,qx ns _ hall,hlen⟩
theorem wJ (l:OpenLaw) (args:List WData):l.row.toRowW.claim.post args (.bool true) args=true:=
 postW_of (r:=l.row.toRowW) (X:=(true==true))
  (show WShape.has [] (.bool true) .bool=true by first | rfl | decide | simp [WShape.has,WShape.arms,WShape.armsAll])
  (show (WTm.eq .res (.lit (.bool true))).value [] { args:=args,res:=some (.bool true),after:=args }=some (.bool (true==true)) from w_eq_bool (w_res rfl) w_lit) rfl
theorem attach_call {l:OpenLaw}{n:Nat}{q:Program}{loose:List Str}{XP:(Str→Option Value)→Heap→Prop}{YP:World→Heap→Prop}{d:DefRec}
 (hn:l.most=some n) (hdf:d.params.defaults=[])
 (call:∀(w:World) (s₀ s₁:Shared) (mg mb:Str→Option Value) (fa:Addr) (o:Obj) (pm cd doc:Value) (a:Addr) (vs:List Value) (ns:List Int),
  Ground q loose [] XP w s₀ mg mb s₁.heap→YP w s₁.heap→
  s₁.heap.get? fa=some o→o.data=.func (docDef d.name d.params d.body d.scope pm cd doc)→s₁.heap.CodeRec cd d.name→mg d.name=some (.ref fa)→
  s₁.heap.get? a=some { cls:=.type "list",data:=.seq vs.toArray }→IntsAre vs ns→ns.length≤n→s₁.gens=#[]→
  codeAny (model l.prog w) callerA (.call (.ref fa) ⟨[.ref a],[]⟩) (fun r s'=>r=.ok (.ret (.bool true))∧OldK s₁.heap s'.heap∧s'.os=s₁.os∧AllBare s'.gens) s₁) :
 WalkO q loose XP YP l.row.toRowW d [] (fun f vs=>PySem.call f vs):=by
 intro w s₀ s₁ mg mb G Y fa o pm cd doc dV kV ho hd hcd hD hmg hg args vals as hpre hlay hrd hwl hlo
 obtain rfl:dV=.none:=Dflts.none hD hdf
 obtain rfl:kV=.none:=Dflts.noKw hD
 obtain ⟨a,vs,ns,rfl,rfl,hobj,hints,hlen⟩:=wZ hn hpre hwl
 refine enter_call (codeAny_mono (call w s₀ s₁ mg mb fa o pm cd doc a vs ns G Y ho (fd_plain hd) hcd hmg hobj hints hlen hg) fun r s' hq=>?_)
 obtain ⟨rfl,h2,h3,h4⟩:=hq
 exact ⟨.inl ⟨.bool true,.bool true,[],rfl,fun _=>rfl,.bool true,wJ l _,fun _=>⟨List.Pairwise.nil,fun _ hm=>(nomatch hm)⟩⟩,h2,h3,h4⟩
section
variable {prog:Program}{w:World}{A:Around}{E:Value→Shared→Prop}{s:Shared}{K:Frag}
end
end Att
namespace L2
open PySem PySem.Spec PyProof.Rows
theorem sf:∀{vs:List Value}{ns:List Int},IntsAre vs ns→av (ns.map V.int) vs
 | _,_,.nil=>.nil
 | _,_,.cons n t h=>.cons ⟨t,rfl⟩ (sf h)
def qX (H:Hp):Prop:=∀b,H b=none∨bw fun o xs=>H b=some (.frz o (.lst xs))
theorem yR {P:Program}{w:World}{K:PySem.W.Frag}{mg mb:Str→Option Value}{CX:iR}{k:Nat}{fa a:Addr}{fd:FuncData}{x:Str}{sp:Sp}{s₁:Shared}{vs:List Value}{ns:List Int}
 (KX:K.In s₁.heap) (hns:s₁.heap.Ns mainGlobals mg) (hb:s₁.heap.Ns builtinsNs mb) (hbb:∀x:Str,x≠"__name__"→mb x=bootBuiltins x) (hlim:s₁.heap.NoLimit) (hg:s₁.gens=#[])
 (ha:s₁.heap.get? a=some { cls:=.type "list",data:=.seq vs.toArray }) (hi:IntsAre vs ns) (hl:ns.length≤sizeLine) (hr:cf k callerA)
 (F:∀base:Heap,K.In base→base.Ns mainGlobals mg→aS P w K mg base CX k fa fd [x] sp) (hbind:∀(s:Shared) (u:Value),BindsTo s fd ⟨[u],[]⟩ [(x,u)])
 (hsp:∀H:Hp,qX H→af K H a (ns.map V.int)→sp [.ref a] H (fun v _=>v=.bl true) fun _ _ _=>False)
 (hCX:∀H e s',CX [] H s₁ (fun _ _ _=>False) e s'→False) :
 codeAny (model P w) callerA (.call (.ref fa) ⟨[.ref a],[]⟩) (fun r s'=>r=.ok (.ret (.bool true))∧OldK s₁.heap s'.heap∧s'.os=s₁.os∧AllBare s'.gens) s₁:=by
 have rv:=sf hi
 have lenV:=hi.length
 have core:∀H:Hp,qX H→af K H a (ns.map V.int)→c8 P w H s₁.heap→(∀b,H b≠none→b=a)→(H a≠none→K.lookup a=none)→
  codeAny (model P w) callerA (.call (.ref fa) ⟨[.ref a],[]⟩) (fun r s'=>r=.ok (.ret (.bool true))∧OldK s₁.heap s'.heap∧s'.os=s₁.os∧AllBare s'.gens) s₁:=by
  intro H hO hS hok hA hK
  have base_of:∀{b:Addr}{o:Obj},s₁.heap.get? b=some o→H b=none→(mI s₁.heap H).get? b=some o:=fun e n=>yf e n
  have noA:∀{b:Addr}{o:Obj}{es:Array DictEntry}{ep:Nat},s₁.heap.get? b=some o→o.data=.dict es ep→H b=none:=fun {b o es ep} e d=>by
   cases q:H b with
   | none=>rfl
   | some u=>
    have e':b=a:=hA b (by rw [q];simp)
    subst e'
    rw [ha] at e;cases e
    have d':Data.seq vs.toArray _=Data.dict es ep:=d
    cases d'
  have nsK:∀{b:Addr}{m:Str→Option Value},s₁.heap.Ns b m→(mI s₁.heap H).Ns b m:=fun {b m} ⟨o,es,ep,e,d,r⟩=>⟨o,es,ep,base_of e (noA e d),d,r⟩
  have hKb:K.In (mI s₁.heap H):=fun b o e=>base_of (KX b o e) (by
   cases q:H b with
   | none=>rfl
   | some u=>
    have e':b=a:=hA b (by rw [q];simp)
    subst e'
    rw [hK (by rw [q];simp)] at e;cases e)
  have hM:Mod K mg (mI s₁.heap H):=⟨hKb,nsK hns,⟨mb,nsK hb,hbb⟩,let ⟨mc,h1,h2⟩:=hlim;⟨mc,nsK h1,h2⟩⟩
  have e0:pP P w K mg (mI s₁.heap H) callerA [] s₁ H:=⟨rfl,hM,fun b o e=>AE e,Nat.le_of_eq (xL _ _),trivial,fun b hb=>absurd (show b∈([]:List Addr) from hb) (by simp),hok,.of_eq hg⟩
  refine codeAny_mono ((F _ hKb (nsK hns)).run callerA [] s₁ H ⟨[.ref a],[]⟩ [.ref a] [.ref a] _ _ hr e0 (hbind s₁ (.ref a)) (.cons rfl .nil) (hsp H hO hS)) fun r s' h=>?_
  cases r with
  | error e=>exact (hCX H e s' h).elim
  | ok fl=>
   cases fl with
   | next=>exact False.elim h
   | brk=>exact False.elim h
   | cont=>exact False.elim h
   | ret u=>
    obtain ⟨v,H',os,bare,un,hok',r',q⟩:=h
    have q':v=.bl true:=q
    subst q'
    obtain rfl:u=Value.bool true:=r'
    refine ⟨rfl,OldK.of_keep fun b o e=>?_,os,bare⟩
    cases q:H b with
    | none=>exact un.keep b o e q (by intro z;exact absurd (show b∈([]:List Addr) from z) (by simp)) (by simp)
    | some u=>
     rcases hO b with z | ⟨ob,xs,z⟩
     ·rw [q] at z;cases z
     ·have z2:=un.frzs b ob _ z
      obtain ⟨e1,_⟩:=hok b _ z
      obtain ⟨e2,_⟩:=hok' b _ z2
      rw [e] at e1;cases e1
      exact e2
 cases hk:K.lookup a with
 | some o=>
  have e:=KX a o hk
  rw [ha] at e
  cases e
  refine core (fun _=>none) (fun _=>.inl rfl) (.inr ⟨_,vs.toArray,_,hk,rfl,rfl,rfl,by rw [List.size_toArray,lenV];exact hl,by simpa using rv⟩) (fun b u z=>by have z':(none:Option HO)=some u:=z;cases z') (fun b z=>absurd rfl z) fun z=>absurd rfl z
 | none=>
  refine core (fun b=>if b=a then some (.frz { cls:=.type "list",data:=.seq vs.toArray } (.lst (ns.map V.int))) else none) (fun b=>?_) (.inl (.inr ⟨{ cls:=.type "list",data:=.seq vs.toArray },if_pos rfl⟩)) (fun b u z=>?_) (fun b z=>?_) fun _=>hk
  ·by_cases hb:b=a
   ·exact .inr ⟨_,_,if_pos hb⟩
   ·exact .inl (if_neg hb)
  ·by_cases hb:b=a
   ·have z':=(if_pos hb).symm.trans z
    cases z'
    subst hb
    exact ⟨ha,by rw [List.length_map];exact hl,vs,_,rv,ha⟩
   ·have z':=(if_neg hb).symm.trans z
    cases z'
  ·by_cases hb:b=a
   ·exact hb
   ·exact absurd (if_neg hb) z
theorem walk_of {l:PySem.W.OpenLaw}{n k:Nat}{q:Program}{loose:List Str}{XP:(Str→Option Value)→Heap→Prop}{YP:World→Heap→Prop}{d:DefRec}{K:Params→PySem.W.Frag}{CX:World→iR}{sp:World→Sp}{x:Str}
 (hn:l.most=some n) (hn2:n≤sizeLine) (hdf:d.params.defaults=[]) (hr:cf k callerA)
 (hY:∀(w:World) (h:Heap),YP w h→(K w.params).In h)
 (F:∀(w:World) (mg:Str→Option Value) (fa:Addr) (h:Heap),(K w.params).In h→h.Ns mainGlobals mg→mg d.name=some (.ref fa)→
  ∃fd:FuncData,(∀(s:Shared) (u:Value),BindsTo s fd ⟨[u],[]⟩ [(x,u)])∧
   ∀base:Heap,(K w.params).In base→base.Ns mainGlobals mg→aS l.prog w (K w.params) mg base (CX w) k fa fd [x] (sp w))
 (hsp:∀(w:World) (H:Hp) (a:Addr) (ns:List Int),ns.length≤n→qX H→af (K w.params) H a (ns.map V.int)→sp w [.ref a] H (fun v _=>v=.bl true) fun _ _ _=>False)
 (hCX:∀(w:World) (H:Hp) (s:Shared) (e:Value) (s':Shared),CX w [] H s (fun _ _ _=>False) e s'→False) :
 PySem.W.WalkO q loose XP YP l.row.toRowW d [] (fun f vs=>PySem.call f vs):=by
 refine Att.attach_call hn hdf fun w s₀ s₁ mg mb fa o pm cd doc a vs ns G Y ho hd hcd hmg hobj hints hlen hg=>?_
 have KX:=hY w _ Y
 obtain ⟨fd,hb,hF⟩:=F w mg fa _ KX G.T.g hmg
 exact yR KX G.T.g G.T.b G.T.builtins G.T.nolimit hg hobj hints (Nat.le_trans hlen hn2) hr hF hb (fun H hO hS=>hsp w H a ns hlen hO hS) fun H e s'=>hCX w H s₁ e s'
theorem yB {l:PySem.W.OpenLaw}{n k:Nat}{q:Program}{loose:List Str}{XP:(Str→Option Value)→Heap→Prop}{YP:World→Heap→Prop}{d:DefRec}{K:Params→PySem.W.Frag}{CX:iR}{sp:PySem.W.Frag→Sp}{x:Str}
 (hn:l.most=some n) (hn2:n≤sizeLine) (hdf:d.params.defaults=[]) (hr:cf k callerA)
 (hY:∀(w:World) (h:Heap),YP w h→(K w.params).In h)
 (F:∀(w:World) (mg:Str→Option Value) (fa:Addr) (h:Heap),(K w.params).In h→h.Ns mainGlobals mg→mg d.name=some (.ref fa)→
  ∃fd:FuncData,(∀(s:Shared) (u:Value),BindsTo s fd ⟨[u],[]⟩ [(x,u)])∧
   ∀base:Heap,(K w.params).In base→base.Ns mainGlobals mg→aS l.prog w (K w.params) mg base CX k fa fd [x] (sp (K w.params)))
 (hsp:∀(K:PySem.W.Frag) (H:Hp) (a:Addr) (ns:List Int),ns.length≤n→qX H→af K H a (ns.map V.int)→sp K [.ref a] H (fun v _=>v=.bl true) fun _ _ _=>False)
 (hCX:∀(H:Hp) (s:Shared) (e:Value) (s':Shared),CX [] H s (fun _ _ _=>False) e s'→False) :
 PySem.W.WalkO q loose XP YP l.row.toRowW d [] (fun f vs=>PySem.call f vs):=
 walk_of (K:=K) (CX:=fun _=>CX) (sp:=fun w=>sp (K w.params)) hn hn2 hdf hr hY F (fun w H a ns h1 h2 h3=>hsp (K w.params) H a ns h1 h2 h3) fun _ H s e s'=>hCX H s e s'
end L2
/- THE LAST THEOREM (shape; LID, My.* are yours):
 My.Adr: a structure of the addresses that your layer names (classes, functions); My.Txt K t: a structure (Prop) of the equations over K;
 My.txt_mk : {K} {implicit addresses ..} (e1 : nsIn K mainGlobals "law" = some (some (.ref f))) (e2 : K.lookup f = some ⟨oc, od, .func (fnOf "law" "law" params body scope dV kV doc pm an cdv ct), sl⟩) (e3 : codeIn K cdv "law" = true) .. : ∃ t, My.Txt K t
set_option maxRecDepth 100000 in
set_option maxHeartbeats 0 in
theorem PySem.Challenge.cw_LID_holds : PySem.Challenge.rw_LID.Holds := by
 w_on; o_law; k_head; (case hw => w_witness2)
 k_fill
 refine L2.walk_of (l := PySem.Challenge.rw_LID) (n := 63) (k := 40) (x := "script") (CX := fun w => ..) (sp := fun _ => My.sp_law) rfl (by decide) rfl ⟨rfl, by decide, by decide⟩ (fun w h Y => PySem.W.kIn_of Y) ?F ?S ?C
 case F =>
  intro w mg fa h KX G hmg
  have T : ∃ t, My.Txt (L2.KOf KX) t := by
   dsimp only [L2.KOf]                          -- K must stand as «<heap const> w.params» for k_is
   refine' My.txt_mk ?e1 ?e2 ?e3 ..
   (case e1 => PySem.W.k_is)                    -- in the order: a name -> its address -> its object -> its parts
   (case e2 => PySem.W.k_is)
   ..
  obtain ⟨t, T⟩ := T
  have e0 := hmg.symm.trans (PySem.W.mg_of KX G T.law)
  cases e0                                       -- fa is the law's own address
  exact ⟨_, fun s u => .of_eq rfl, fun base kb nb => My.law_fn T kb nb⟩     -- if «.of_eq rfl» comes too early: refine' ⟨_, ?b, fun base kb nb => My.law_fn T kb nb⟩; exact fun s u => .of_eq rfl
 case S => exact fun w H a ns hl hO hS => ..
 case C => exact ..
(the tactic k_is has no namespace: write k_is) -/
namespace L2
open PySem PySem.Spec PyProof.Rows
def qH (s:Stmt):Arguments:=match s with
 | .FunctionDef _ a _ _ _ _ _ _ _ _=>a
 | _=>{ posonlyargs:=[],args:=[],vararg:=none,kwonlyargs:=[],kw_defaults:=[],kwarg:=none,defaults:=[] }
def lR (s:Stmt):List Stmt:=match s with
 | .FunctionDef _ _ b _ _ _ _ _ _ _=>b
 | _=>[]
def ak (s:Stmt):Scope:=match s with
 | .FunctionDef _ _ _ _ _ _ sc _ _ _=>sc
 | _=>{ kind:=.function,names:=[],isGenerator:=false,isCoroutine:=false }
abbrev CX0:iR:=fun _ _ _ _ _ _=>False
abbrev E0:XK:=fun _ _ _=>False
theorem hR {X:Cx}:fX CX0 X E0:=fun _ _ _ _ _ _ _ h=>h.elim
structure d9 (K:PySem.W.Frag) (x qual:Str) (st:Stmt) (f:Addr) (fd:FuncData):Prop where
 ex:E7 fun (oc:Value) (od:Option Addr) (kV doc pm:Value) (an:Option Addr) (cdv ct:Value) (osl:Array (Option Value))=>
  fd=PySem.W.fnOf x qual (qH st) (lR st) (ak st) .none kV doc pm an cdv ct∧K.lookup f=some ⟨oc,od,.func fd,osl⟩∧PySem.W.codeIn K cdv qual=true
 kp:PySem.W.keepIn K (.ref f)=true
section
variable {P:Program}{w:World}{K:PySem.W.Frag}{mg:Str→Option Value}{base:Heap}
theorem d9.ok {x qual:Str}{st:Stmt}{f:Addr}{fd:FuncData}{N ps:List Str}{k:Nat}{sp:Sp} (F:d9 K x qual st f fd) (S:aA N ps (ak st)) (len:∀vs H Q E,sp vs H Q E→vs.length=ps.length)
 (hbody:∀(cdv:Value) (A:Around) (outer:List Env) (s:Shared) (H:Hp) (vs:List V) (Q:VK) (E:XK),cf k (A.deeper (envOfC qual (ak st) s.heap.objs.size f cdv))→sp vs H Q E→
  ∃t,jO (mM CX0 P w K mg base N qual (ak st) f cdv A outer s H E).nox (lR st) t∧t { nx:=fun _ H'=>Q .non H',rt:=Q } (jQ N vs) H):aS P w K mg base CX0 (k+1) f fd ps sp:=by
 obtain ⟨oc,od,kV,doc,pm,an,cdv,ct,osl,rfl,lk,hcd⟩:=F.ex
 refine zp lk hcd S len fun A outer s H vs Q E hr hsp=>?_
 obtain ⟨t,h,q⟩:=hbody cdv A outer s H vs Q E hr hsp
 exact ⟨t,h.nox,q⟩
theorem d9.binds {x qual:Str}{st:Stmt}{f:Addr}{fd:FuncData}{ps:List Str} (F:d9 K x qual st f fd)
 (h:∀(kV doc pm:Value) (an:Option Addr) (cdv ct:Value) (us:List Value),us.length=ps.length→bindArgs (PySem.W.fnOf x qual (qH st) (lR st) (ak st) .none kV doc pm an cdv ct) ⟨us,[]⟩=pure (ps.zip us)):bt K fd ps []:=by
 obtain ⟨oc,od,kV,doc,pm,an,cdv,ct,osl,rfl,lk,hcd⟩:=F.ex
 exact .all (h kV doc pm an cdv ct)
end
section
variable {X:Cx}
theorem pv (i:Nat) {x:Str}{pos:Pos} (hN:X.N[i]?=some x:=by rfl) (hv:wO X.env.scope x:=by first | exact Or.inl rfl | exact Or.inr (Or.inl rfl) | exact Or.inr (Or.inr rfl)) (hd:(x==("__debug__" : Str))=false:=by decide)
 (hcd:(x==("__classdict__" : Str))=false:=by decide):PE X (.Name x pos) (pX i):=wW hN hv hd hcd
end
theorem aP {A B:Prop} (h:B):if false=true then A else B:=by
 rw [if_neg Bool.false_ne_true]
 exact h
theorem aZ {A B:Prop} (h:A):if true=true then A else B:=by
 rw [if_pos rfl]
 exact h
theorem fH {c A B:Prop} [Decidable c] (h1:c→A) (h2:¬c→B):if c then A else B:=by
 by_cases h:c
 ·rw [if_pos h]
  exact h1 h
 ·rw [if_neg h]
  exact h2 h
def ag (H H':Hp):Prop:=∀b o,H b=some o→H' b=some o
theorem ag.refl (H:Hp):ag H H:=fun _ _ h=>h
theorem ag.trans {H H1 H2:Hp} (a:ag H H1) (b:ag H1 H2):ag H H2:=fun c o h=>b c o (a c o h)
theorem ag.free {H H':Hp} (e:ag H H') {l:Addr} (h:H' l=Option.none):H l=Option.none:=by
 cases q:H l with
 | none=>rfl
 | some o=>
  rw [e l o q] at h
  cases h
theorem ag.seq {K:PySem.W.Frag}{H H':Hp}{a:Addr}{xs:List V} (e:ag H H') (h:af K H a xs):af K H' a xs:=by
 rcases h with (h | ⟨o,h⟩) | h
 ·exact .inl (.inl (e _ _ h))
 ·exact .inl (.inr ⟨o,e _ _ h⟩)
 ·exact .inr h
end L2
namespace L2
open PySem
theorem uV {scope:Scope}{env:Env} (h:∀y∈scope.names,y.2=.free→∃c,env.cells.lookup y.1=some c) :
 ∃cl,closureFor scope env=pure cl∧(∀x c,cl.lookup x=some c→env.cells.lookup x=some c)∧(∀y∈scope.names,y.2=.free→∃c,cl.lookup y.1=some c):=by
 have go:∀(names:List (Str×NameKind)) (acc:List (Str×Addr)),(∀y∈names,y.2=.free→∃c,env.cells.lookup y.1=some c)→(∀x c,acc.lookup x=some c→env.cells.lookup x=some c)→
  ∃cl,(forIn names acc (fun (x:Str×NameKind) (cs:List (Str×Addr))=>match x with
   | (name,kind)=>if (kind==.free)=true then (do let a ←cellOf env name;pure (ForInStep.yield ((name,a) :: cs))) else pure (ForInStep.yield cs)):Sem (List (Str×Addr)))=pure cl∧
   (∀x c,cl.lookup x=some c→env.cells.lookup x=some c)∧(∀y∈names,y.2=.free→∃c,cl.lookup y.1=some c)∧(∀x c,acc.lookup x=some c→∃c',cl.lookup x=some c'):=by
  intro names
  induction names with
  | nil=>intro acc _ ha;exact ⟨acc,rfl,ha,fun y hy=>(by cases hy),fun x c e=>⟨c,e⟩⟩
  | cons x r ih=>
   intro acc hn ha
   obtain ⟨name,kind⟩:=x
   rw [List.forIn_cons]
   by_cases hk:kind=.free
   ·subst hk
    obtain ⟨c,hc⟩:=hn (name,.free) List.mem_cons_self rfl
    have e:cellOf env name=pure c:=by unfold cellOf;rw [hc]
    obtain ⟨cl,e1,e2,e3,e4⟩:=ih ((name,c) :: acc) (fun y hy=>hn y (List.mem_cons_of_mem _ hy)) (fun x c' hx=>by
     rw [List.lookup_cons] at hx
     split at hx
     ·rename_i hb
      have:x=name:=by simpa using hb
      subst this
      cases hx;exact hc
     ·exact ha x c' hx)
    refine ⟨cl,?_,e2,fun y hy hf=>?_,fun x c' hx=>?_⟩
    ·simp only [beq_self_eq_true,if_true]
     rw [e,pure_bind,pure_bind]
     exact e1
    ·rcases List.mem_cons.mp hy with rfl | hy
     ·exact e4 name c (by simp)
     ·exact e3 y hy hf
    ·by_cases hb:(x==name)=true
     ·have:x=name:=by simpa using hb
      subst this
      exact e4 x c (by simp)
     ·exact e4 x c' (by rw [List.lookup_cons];simp only [Bool.not_eq_true] at hb;rw [hb];exact hx)
   ·have hb:(kind==NameKind.free)=false:=by simpa using hk
    obtain ⟨cl,e1,e2,e3,e4⟩:=ih acc (fun y hy=>hn y (List.mem_cons_of_mem _ hy)) ha
    refine ⟨cl,?_,e2,fun y hy hf=>?_,e4⟩
    ·simp only [hb,Bool.false_eq_true,if_false]
     rw [pure_bind]
     exact e1
    ·rcases List.mem_cons.mp hy with rfl | hy
     ·exact absurd hf hk
     ·exact e3 y hy hf
 obtain ⟨cl,e1,e2,e3,_⟩:=go scope.names [] h (fun x c e=>by simp at e)
 refine ⟨cl,?_,e2,e3⟩
 unfold closureFor
 show (forIn scope.names _ _ >>= fun cs=>pure cs)=_
 rw [bind_pure]
 exact e1
section
variable {prog:Program}{w:World}{A:Around}{R:Result→Shared→Prop}{s:Shared}
theorem sY {elt target iter:Expr}{ifs:List Expr}{scope:Scope}{pos:Pos}{it acc:Value}{env:Env} (I:Nat→Shared→Prop)
 (turn:∀n s,I n s→wpAny (model prog w) A (pyNext it) (fun r s₁=>match r with
  | none=>R (.ok .next) s₁
  | some v=>wpAny (model prog w) A (letOwnedTupleGo target it v) (fun _ s₁'=>wpAny (model prog w) A (assign target env v) (fun _ s₂=>
   wpAny (model prog w) A (forIn ifs true fun c r=>if r=true then do let ok ←isTrue c env (eval c env);pure (ForInStep.yield ok) else pure (ForInStep.yield r)) (fun ok s₃=>
    if ok=true then wpAny (model prog w) A (eval elt env) (fun x s₄=>
     wpAny (model prog w) A (call (.builtin "list.append") [acc,x]) (fun _ s₅=>∃m,m<n∧I m s₅) (fun _ _=>False) s₄) (fun _ _=>False) s₃
    else ∃m,m<n∧I m s₃) (fun _ _=>False) s₂) (fun _ _=>False) s₁') (fun _ _=>False) s₁) (fun _ _=>False) s)
 (n:Nat) (h:I n s) :
 codeAny (model prog w) A (.compLoop (.ListComp elt [⟨target,iter,ifs,0⟩] scope pos) 0 it acc env) R s:=by
 refine codeAny_loop rfl I (fun n s hI=>?_) n h
 show wpAny _ A ((compTurn (.ListComp elt [⟨target,iter,ifs,0⟩] scope pos) 0 it acc env).onRaise (fun x=>do noteFrame x env;theTreesLotGoes x)) _ _ s
 refine wpAny_noted ?_
 rw [compTurn_list]
 refine wpAny_bind (wpAny_standAt (wpAny_bind (wpAny_mono (turn n s hI) (fun r s₁ h₁=>?_) fun _ _ h'=>h'.elim)))
 cases r with
 | none=>exact wpAny_pure h₁
 | some v=>
  refine wpAny_bind (wpAny_mono h₁ (fun _ s₁' h₁'=>?_) fun _ _ h'=>h'.elim)
  refine wpAny_bind (wpAny_mono h₁' (fun _ s₂ h₂=>wpAny_bind (wpAny_mono h₂ (fun ok s₃ h₃=>?_) fun _ _ h'=>h'.elim)) fun _ _ h'=>h'.elim)
  cases ok with
  | false=>exact wpAny_pure ⟨rfl,h₃⟩
  | true=>
   exact wpAny_bind (wpAny_bind (wpAny_mono h₃ (fun x s₄ h₄=>wpAny_bind (wpAny_mono h₄ (fun _ s₅ h₅=>wpAny_pure (wpAny_pure ⟨rfl,h₅⟩)) fun _ _ h'=>h'.elim)) fun _ _ h'=>h'.elim))
end
end L2
namespace L2
open PySem PySem.Spec PyProof.Rows
section
variable {X:Cx}
theorem uz:cU X (.builtin "isinstance") (fun xs H Q=>mW fun x T t b=>xs=[x,.ty T]∧hV X.K H x t∧PySem.W.kitOne X.K t (.type T)=some b∧Q (.bl b) H):=by
 intro pins s σ H xs us Q I r h
 obtain ⟨x,T,t,b,rfl,ty,e,q⟩:=h
 obtain ⟨u,c,rfl,ru,rc⟩:=r.two
 obtain rfl:c=Value.type T:=rc
 exact xP I ru ty e fun tk=>⟨.bl b,H,I.tok tk,rfl,q⟩
end
def tY (X:Cx) (scope:Scope) (cl:List (Str×Addr)) (C:Addr) (N':List Str) (s:Shared) (H:Hp) (ex:List Addr) (pn:List (Addr×Obj)):Cx:=
 { X with N:=N',s₀:=s,H₀:=H,env:=compEnvC scope cl C X.env,outer:=X.stack,ex:=ex,fn:=fun _=>false,pn:=pn,xe:=fun _ _=>False }
def mU (L:Nat) (src:List Nat) (σ:St):St:=List.replicate L none++src.map fun j=>(σ[j]?).join
def lw (σ σ':St):Prop:=σ'.length=σ.length∧∀(i:Nat) v,σ[i]?=some (some v)→σ'[i]?=some (some v)
theorem sO {x:V}{r:St}:lw (none :: r) (some x :: r):=⟨rfl,fun i v e=>by
 cases i with
 | zero=>simp at e
 | succ i=>simpa using e⟩
theorem qc {x y:V}{r:St}:lw (none :: none :: r) (some x :: some y :: r):=⟨rfl,fun i v e=>by
 cases i with
 | zero=>simp at e
 | succ i=>
  cases i with
  | zero=>simp at e
  | succ i=>simpa using e⟩
def tj (X:Cx) (ifs:List Expr) (t:TT):Prop:=
 ∀(pins:List (Addr×Obj)) (s:Shared) (σ:St) (H:Hp) (Q:Bool→Hp→Prop),ad X pins σ H s→t σ H Q→
   wpAny (model X.prog X.w) X.A (forIn ifs true fun c r=>if r=true then do let ok ←isTrue c X.env (eval c X.env);pure (ForInStep.yield ok) else pure (ForInStep.yield r)) (TP X pins σ Q) X.xe s
def tT:TT:=fun _ H Q=>Q true H
theorem gh {X:Cx}:tj X [] tT:=fun _ _ _ H _ I h=>wpAny_pure ⟨H,I,h⟩
def oR (J:It) (σc:St) (g:TG) (tt:TT) (te:TE) (D:Addr) (H1:Hp) (Q:VK):Prop:=
 ∃W:Nat→Nat→Hp→List V→Prop,(∃m,W 0 m (aH H1 D (.lst [])) [])∧∀i m H ys,W i m H ys→H D=some (.lst ys)∧
  ((J.stop i H∧Q (.ref D) H)∨(J.go i H∧ys.length<sizeLine∧∃N:Hp→List V→Prop,(∀H' ys',N H' ys'→∃m',m'<m∧W (i+1) m' H' ys')∧
    ∀x H',J.yld i H x H'→g x σc H' fun σ2 H2=>lw σc σ2∧tt σ2 H2 fun b H3=>if b=true then te σ2 H3 fun y H4=>H4 D=some (.lst ys)∧N (aH H4 D (.lst (ys++[y]))) (ys++[y]) else N H3 ys))
def vL (wi:TI) (L:Nat) (src:List Nat) (g:TG) (tt:TT) (te:TE):TE:=fun σ H Q=>wi σ H fun J H1=>∀D,H1 D=none→oR J (mU L src σ) g tt te D H1 Q
section
variable {X:Cx}{elt tg iter:Expr}{ifs:List Expr}{scope:Scope}{pos:Pos}{N':List Str}{L:Nat}{src:List Nat}{wi:TI}{g:TG}{tt:TT}{te:TE}
end
theorem xD {J:It}{n:Nat}{H1:Hp}{D:Addr}{σc:St}{g:TG}{tt:TT}{te:TE}{Q:VK} (Pv:Nat→Hp→List V→Prop) (hz:n≤sizeLine) (h0:Pv 0 (aH H1 D (.lst [])) [])
 (hD:∀i H ys,Pv i H ys→H D=some (.lst ys)∧ys.length≤i)
 (hgo:∀i H ys,i<n→Pv i H ys→J.go i H) (hst:∀H ys,Pv n H ys→J.stop n H)
 (hs:∀i H ys x H',i<n→Pv i H ys→J.yld i H x H'→g x σc H' fun σ2 H2=>lw σc σ2∧tt σ2 H2 fun b H3=>if b=true then te σ2 H3 fun y H4=>H4 D=some (.lst ys)∧Pv (i+1) (aH H4 D (.lst (ys++[y]))) (ys++[y]) else Pv (i+1) H3 ys)
 (hd:∀H ys,Pv n H ys→Q (.ref D) H):oR J σc g tt te D H1 Q:=by
 refine ⟨fun i m H ys=>m=n - i∧i≤n∧Pv i H ys,⟨n,by simp,Nat.zero_le _,h0⟩,?_⟩
 rintro i m H ys ⟨rfl,hi,p⟩
 obtain ⟨q1,q2⟩:=hD i H ys p
 refine ⟨q1,?_⟩
 by_cases hlt:i<n
 ·exact .inr ⟨hgo i H ys hlt p,by trivial,Pv (i+1),fun H' ys' p'=>⟨n - (i+1),by trivial,rfl,hlt,p'⟩,fun x H' y=>hs i H ys x H' hlt p y⟩
 ·have e:i=n:=by trivial
  subst e
  exact .inl ⟨hst H ys p,hd H ys p⟩
theorem fZ {J:It}{n:Nat}{H1:Hp}{D:Addr}{σc:St}{g:TG}{te:TE}{Q:VK} (Pv:Nat→Hp→List V→Prop) (hz:n≤sizeLine) (h0:Pv 0 (aH H1 D (.lst [])) [])
 (hD:∀i H ys,Pv i H ys→H D=some (.lst ys)∧ys.length≤i)
 (hgo:∀i H ys,i<n→Pv i H ys→J.go i H) (hst:∀H ys,Pv n H ys→J.stop n H)
 (hs:∀i H ys x H',i<n→Pv i H ys→J.yld i H x H'→g x σc H' fun σ2 H2=>lw σc σ2∧te σ2 H2 fun y H4=>H4 D=some (.lst ys)∧Pv (i+1) (aH H4 D (.lst (ys++[y]))) (ys++[y]))
 (hd:∀H ys,Pv n H ys→Q (.ref D) H):oR J σc g tT te D H1 Q:=by
 refine xD Pv hz h0 hD hgo hst (fun i H ys x H' hi p y=>?_) hd
 have e:=hs i H ys x H' hi p y
 have q:(fun (σ2:St) (H2:Hp)=>lw σc σ2∧tT σ2 H2 fun b H3=>if b=true then te σ2 H3 fun y H4=>H4 D=some (.lst ys)∧Pv (i+1) (aH H4 D (.lst (ys++[y]))) (ys++[y]) else Pv (i+1) H3 ys) =
  (fun σ2 H2=>lw σc σ2∧te σ2 H2 fun y H4=>H4 D=some (.lst ys)∧Pv (i+1) (aH H4 D (.lst (ys++[y]))) (ys++[y])):=by
  funext σ2 H2
  unfold tT
  dsimp only
  rw [if_pos rfl]
 rw [q]
 exact e
section
variable {X:Cx}{pins:List (Addr×Obj)}{σ:St}{H:Hp}{s:Shared}{h':Heap}
theorem ad.turnedNew {t':Nat}{ch:List Addr}{T:Addr}{o:HO} (I:ad X pins σ H s) (hf:∀b∈ch,jZ X pins H b) (k:∀b u,b∉ch→s.heap.get? b=some u→h'.get? b=some u)
 (hT:s.heap.objs.size≤T) (new:bi X.prog X.w (aH H T o) h' T o):ad X pins σ (aH H T o) { s with heap:=h',toks:=t' }:=by
 have hn:H T=none:=I.hok.fresh hT
 refine I.step (g':=s.gens) (d':=s.drawn) (ch:=ch) (fun b hb=>?_) (fun b o _ _ hc e _=>k b o hc e) (fun b o _ _ hc e _=>⟨o.slots,k b o hc e⟩) (fun b o hc e n=>?_)
  (fun b o hc e=>⟨o,k b o hc e⟩) (fun b xs e=>?_) (fun b o u e=>?_) (fun b ps e=>?_) (fun m hm=>?_) (fun b u e=>?_) I.bare
 ·obtain ⟨f0,f1,f2,f3,f4,f5⟩:=hf b hb
  exact ⟨f3,f1,f4,f5⟩
 ·rw [ao (Nat.ne_of_lt (Nat.lt_of_lt_of_le (Heap.lt_size e) hT))];exact n
 ·rw [ao (aF e hn)];exact e
 ·rw [ao (aF e hn)];exact e
 ·exact ⟨#[],by rw [ao (aF e hn),e];simp⟩
 ·obtain ⟨o,es,ep,ho,r⟩:=hm
  exact ⟨o,es,ep,k _ o (fun z=>(hf _ z).2.1 rfl) ho,r⟩
 ·by_cases hb:b=T
  ·subst hb;rw [au] at e;cases e;exact new
  ·rw [ao hb] at e
   refine (I.hok b u e).stay (fun c v hc q=>k c v (fun z=>?_) q) (fun c q=>by rw [ao (aF q hn)];exact q) fun c xs q=>by rw [ao (aF q hn)];exact q
   have hcn:=(hf c z).1
   rcases hc with rfl | hc
   ·rw [e] at hcn;cases hcn
   ·rw [hc] at hcn;cases hcn
end
section
variable {X:Cx}
theorem wU {bs:List Bool}{us:List Value} (r:av (bs.map V.bl) us) {i:Nat}{v:Value} (e:us[i]?=some v):∃b,bs[i]?=some b∧v=.bool b:=by
 have hl:=r.length
 rw [List.length_map] at hl
 have hi:i<us.length:=(List.getElem?_eq_some_iff.mp e).1
 have hb:bs[i]?=some bs[i]:=by simp [hl,hi]
 obtain ⟨u,h1,h2⟩:=r.get (i:=i) (x:=.bl bs[i]) (by rw [List.getElem?_map,hb];rfl)
 rw [e] at h1
 cases h1
 exact ⟨_,hb,h2⟩
theorem Au {s:Shared}{h':Heap}{o:Obj} (hk:∀b x,b∉[s.heap.objs.size]→(s.heap.push o).get? b=some x→h'.get? b=some x):∀b x,s.heap.get? b=some x→h'.get? b=some x:=
 fun b x e=>hk b x (fun hm=>by rw [List.mem_singleton.mp hm] at e;exact Nat.lt_irrefl _ (Heap.lt_size e)) (Heap.get?_push_of_some _ e)
theorem yO (hc:X.calm=true):cU X (.builtin "all") (fun xs H Q=>bw fun (l:Addr) (bs:List Bool)=>xs=[.ref l]∧af X.K H l (bs.map V.bl)∧Q (.bl (bs.all id)) H):=by
 intro pins s σ H xs us Q I r h
 obtain ⟨l,bs,rfl,hq,q⟩:=h
 obtain ⟨u,rfl,ru⟩:=r.one
 obtain rfl:u=.ref l:=ru
 obtain ⟨its,rv,p,hz⟩:=I.list hq
 have hl:=p.isList
 have hlt:l<s.heap.objs.size:=by obtain ⟨_,e,_⟩:=hl;exact Heap.lt_size e
 refine call_all_walk (wpAny_pyIter_list hl ?_)
 refine ⟨s.heap.objs.size,[s.heap.objs.size,l],[s.heap.objs.size],its.toArray.size,_,_,fun i=>(bs[i]?).getD true,rfl,Walks.list (A:=X.A.in1) (I.ok.hd hc) _ l (Nat.ne_of_lt hlt) its.toArray,
  ⟨⟨_,Heap.get?_push_size _ rfl,rfl,rfl⟩,hl.push _⟩,fun i v s' Q' E' hP hQ=>?_,fun h' tk hk=>?_⟩
 ·obtain ⟨b,e,rfl⟩:=wU rv (i:=i) (v:=v) (by simpa using hP)
  simp only [e,Option.getD_some] at hQ
  exact wpAny_truthy_bool hQ
 ·have e:((List.range its.toArray.size).all fun i=>(bs[i]?).getD true)=bs.all id:=by
   rw [List.size_toArray,←rv.length,List.length_map];exact LSm.range_all bs
  rw [e]
  exact ⟨.bl _,H,I.kept (Au hk),rfl,q⟩
end
def Ee (K:PySem.W.Frag) (a:Addr):It:=
 ⟨fun i H=>bw fun xs x=>af K H a xs∧xs[i]?=some x,fun i H v H'=>bw fun T x=>H T=none∧v=.ref T∧H'=aH H T (.tup [.int (i:Int),x])∧∀xs,af K H a xs→xs[i]?=some x,fun i H=>∃xs,af K H a xs∧xs.length≤i⟩
theorem w6 {P:Program}{w:World}{K:PySem.W.Frag}{es:List Expr}{kk:Nat}{pos:Pos} (a e it:Addr) (hne:e≠it) :
 qK P w K (.Tuple es kk pos) (Ee K a) [e,it] e (fun i h=>(∃old,IsEnum h e it i old)∧h.IsListIter it a i) where
 mem:=by simp
 obj:=fun i h st b hb=>by
  obtain ⟨⟨old,he⟩,o,e1,c,d⟩:=st
  have hb':b=e∨b=it:=by simpa using hb
  rcases hb' with rfl | rfl
  ·exact ⟨_,he,fun v z=>by
    have z':Data.fields _=Data.cell v:=z
    cases z'⟩
  ·exact ⟨o,e1,fun v z=>by rw [d] at z;cases z⟩
 keep:=fun i h h' st k=>by
  obtain ⟨⟨old,he⟩,hi⟩:=st
  exact ⟨⟨old,k e (by simp) _ he⟩,hi.at fun o q=>k it (by simp) o q⟩
 item:=by
  intro X hP hw hK hc i pins s σ H E I hf st hg
  subst hP hw hK
  obtain ⟨⟨old,he⟩,hit⟩:=st
  obtain ⟨xs,x,hq,hx⟩:=hg
  obtain ⟨its,rv,p,hz⟩:=I.list hq
  obtain ⟨u,hu,ru⟩:=rv.get hx
  have hnT:H s.heap.objs.size=none:=I.fresh
  refine wpAny_pyNext_enum_item he hit p.isList (x:=u) (by simpa using hu) hne fun h' ho hit' hT hsz hk=>?_
  refine ⟨(),wpAny_letOwnedTupleGo_enum (s:={ s with heap:=h',toks:=s.toks+1 }) ho fun h'' he'' hs''=>?_⟩
  have helt:e<s.heap.objs.size:=Heap.lt_size he
  have hilt:it<s.heap.objs.size:=by obtain ⟨_,y,_⟩:=hit;exact Heap.lt_size y
  have hT'':h''.get? s.heap.objs.size=some { cls:=.type "tuple",data:=.seq #[.int i s.toks,u] }:=(hs''.2 _ (Nat.ne_of_gt helt)).trans hT
  refine ⟨.ref s.heap.objs.size,aH H s.heap.objs.size (.tup [.int (i:Int),x]),I.turnedNew (ch:=[e,it]) (t':=s.toks+1) hf (fun b o hb q=>?_) (Nat.le_refl _) ?_,rfl,⟨_,x,hnT,rfl,rfl,fun ys hy=>by rw [I.list_inj hy hq];exact hx⟩,⟨⟨u,?_⟩,hit'.extBut hs''.extBut (Ne.symm hne)⟩,fun b hb=>?_⟩
  ·have h1:b≠e:=fun z=>hb (by simp [z])
   have h2:b≠it:=fun z=>hb (by simp [z])
   exact (hs''.2 b h1).trans (hk b o h1 h2 q)
  ·exact ⟨by show 2≤sizeLine;decide,[.int i s.toks,u],.cons ⟨()⟩ (.cons ru .nil),⟨_,hT'',rfl,()⟩,_,hT'',rfl⟩
  ·simpa using he''
  ·have hb':b=e∨b=it:=by simpa using hb
   have hlt:b<s.heap.objs.size:=by rcases hb' with rfl | rfl <;> assumption
   rw [ao (Nat.ne_of_lt hlt)]
   exact (hf b hb).1
 done:=by
  intro X hP hw hK hc i pins s σ H E I hf st hg
  subst hP hw hK
  obtain ⟨⟨old,he⟩,hit⟩:=st
  obtain ⟨xs,hq,hx⟩:=hg
  obtain ⟨its,rv,p,hz⟩:=I.list hq
  obtain ⟨f0,f1,f2,f3,f4,f5⟩:=hf it (by simp)
  have hl:=rv.length
  exact wpAny_pyNext_enum_end (I.ok.hd hc) he hit p.isList (by simp;trivial) fun h' eb=>⟨rfl,I.turned (t':=s.toks) (fun b o hb e=>eb b o hb e) f0 f1 f3 f4 f5⟩
 self:=fun _ _ _ _ _ st h=>by
  obtain ⟨⟨old,he⟩,_⟩:=st
  exact wpAny_pyIter_enum he h
def Ea (K:PySem.W.Frag) (ta:TA):TI:=fun σ H R=>ta σ H fun vs H1=>∃a,vs=[.ref a]∧(∃xs,af K H1 a xs)∧R (Ee K a) H1
theorem zu {X:Cx}{es:List Expr}{kk:Nat}{tp:Pos}{a:Expr}{ta:TA}{p pos:Pos} (hg:Gl X "enumerate") (hm:X.mg "enumerate" = none) (ha:PA X [a] ta) (hs:starEach [a] X.env=[(false,eval a X.env)]:=by rfl) :
 PI X (.Tuple es kk tp) (.Call (.Name "enumerate" p) [a] [] pos) (Ea X.K ta):=by
 intro pins s σ H R I h
 refine Call_ (kO I hg hm boot_enumerate (PyProof.Rows.callWith_type1 (aO (ha pos pins s σ H _ I h) fun us s1 ⟨vs,H1,I1,r1,q1⟩=>?_) hs rfl))
 obtain ⟨a,rfl,⟨xs,hq⟩,q⟩:=q1
 obtain ⟨u,rfl,ru⟩:=r1.one
 obtain rfl:u=.ref a:=ru
 obtain ⟨its,rv,p,hz⟩:=I1.list hq
 refine call_enumerate_list p.isList fun h' hE hI hsz hk=>wpAny_pyIter_enum hE ?_
 have I2:ad X pins σ H1 { s1 with heap:=h',toks:=s1.toks }:=I1.kept hk
 refine ⟨s1.heap.objs.size+1,[s1.heap.objs.size+1,s1.heap.objs.size],_,_,H1,rfl,I2,w6 a (s1.heap.objs.size+1) s1.heap.objs.size (Nat.succ_ne_self _),⟨⟨_,hE⟩,hI⟩,fun b hb=>?_,q⟩
 have hb':b=s1.heap.objs.size+1∨b=s1.heap.objs.size:=by simpa using hb
 have hle:s1.heap.objs.size≤b:=by rcases hb' with rfl | rfl <;> trivial
 exact I1.fpOk hle (I1.hok.fresh hle)
end L2
namespace L2
open PySem PySem.Spec PyProof.Rows
theorem be:bootBuiltins "len" = some (.builtin "len"):=by nofun
theorem jR:bootBuiltins "abs" = some (.builtin "abs"):=by nofun
theorem vX:bootBuiltins "max" = some (.builtin "max"):=by nofun
theorem mH:bootBuiltins "all" = some (.builtin "all"):=by nofun
theorem su:bootBuiltins "divmod" = some (.builtin "divmod"):=by nofun
theorem aC:bootBuiltins "isinstance" = some (.builtin "isinstance"):=by nofun
theorem lr:bootBuiltins "int" = some (.type "int"):=by nofun
theorem oJ:bootBuiltins "bool" = some (.type "bool"):=by nofun
theorem k8:bootBuiltins "str" = some (.type "str"):=by nofun
theorem bL:bootBuiltins "list" = some (.type "list"):=by nofun
theorem dJ:bootBuiltins "tuple" = some (.type "tuple"):=by nofun
theorem gu {X:Cx}{x:Str}{T:String}{pos:Pos} (hg:Gl X x) (hm:X.mg x=none) (hv:bootBuiltins x=some (.type T)) (hn:x≠"__name__" := by decide) (hd:(x==("__debug__" : Str))=false:=by decide):PE X (.Name x pos) (tC (.ty T)):=
 zV (v:=.ty T) hg hm hv rfl hn hd
mutual
inductive aD (E:Addr→Prop) (H:Hp):V→PyData→Prop
 | non:aD E H .non .none
 | bl (b:Bool):aD E H (.bl b) (.bool b)
 | int (i:Int):aD E H (.int i) (.int i)
 | str (x:Str):aD E H (.str x) (.str x)
 | lst {a:Addr}{xs:List V}{ds:List PyData} (h:H a=some (.lst xs)) (ne:¬E a) (r:ay E H xs ds):aD E H (.ref a) (.list ds)
 | tup {a:Addr}{xs:List V}{ds:List PyData} (h:H a=some (.tup xs)) (r:ay E H xs ds):aD E H (.ref a) (.tuple ds)
inductive ay (E:Addr→Prop) (H:Hp):List V→List PyData→Prop
 | nil:ay E H [] []
 | cons {x:V}{xs:List V}{d:PyData}{ds:List PyData} (h:aD E H x d) (r:ay E H xs ds):ay E H (x :: xs) (d :: ds)
end
structure ax (E:Addr→Prop) (H H':Hp):Prop where
 old:∀a o,¬E a→H a=some o→H' a=some o
 tup:∀a xs,H a=some (.tup xs)→H' a=some (.tup xs)
mutual
theorem aD.mono {E:Addr→Prop}{H H':Hp} (k:ax E H H'):∀{v:V}{d:PyData},aD E H v d→aD E H' v d
 | _,_,.non=>.non
 | _,_,.bl b=>.bl b
 | _,_,.int i=>.int i
 | _,_,.str x=>.str x
 | _,_,.lst h ne r=>.lst (k.old _ _ ne h) ne (ay.mono k r)
 | _,_,.tup h r=>.tup (k.tup _ _ h) (ay.mono k r)
theorem ay.mono {E:Addr→Prop}{H H':Hp} (k:ax E H H'):∀{vs:List V}{ds:List PyData},ay E H vs ds→ay E H' vs ds
 | _,_,.nil=>.nil
 | _,_,.cons h r=>.cons (aD.mono k h) (ay.mono k r)
end
theorem ax.refl {E:Addr→Prop} (H:Hp):ax E H H:=⟨fun _ _ _ h=>h,fun _ _ h=>h⟩
theorem ax.trans {E:Addr→Prop}{H H1 H2:Hp} (a:ax E H H1) (b:ax E H1 H2):ax E H H2:=⟨fun c o n h=>b.old c o n (a.old c o n h),fun c xs h=>b.tup c xs (a.tup c xs h)⟩
theorem ag.toE {E:Addr→Prop}{H H':Hp} (a:ag H H'):ax E H H':=⟨fun c o _ h=>a c o h,fun c xs h=>a c _ h⟩
theorem ag.new {H:Hp}{p:Addr}{o:HO} (h:H p=none):ag H (aH H p o):=fun b u e=>by rw [ao (aF e h)];exact e
theorem ay.length {E:Addr→Prop}{H:Hp}:∀{vs:List V}{ds:List PyData},ay E H vs ds→vs.length=ds.length
 | _,_,.nil=>rfl
 | _,_,.cons _ r=>by simp [ay.length r]
theorem ay.get {E:Addr→Prop}{H:Hp}:∀{vs:List V}{ds:List PyData}{i:Nat}{v:V},ay E H vs ds→vs[i]?=some v→∃d,ds[i]?=some d∧aD E H v d
 | _,_,_,_,.nil,e=>by simp at e
 | _,_,0,_,.cons h _,e=>by simp at e;subst e;exact ⟨_,rfl,h⟩
 | _,_,i+1,v,.cons _ r,e=>by
  obtain ⟨d,h1,h2⟩:=ay.get (i:=i) (v:=v) r (by simpa using e)
  exact ⟨d,by simpa using h1,h2⟩
theorem ay.append {E:Addr→Prop}{H:Hp}:∀{vs ws:List V}{ds es:List PyData},ay E H vs ds→ay E H ws es→ay E H (vs++ws) (ds++es)
 | _,_,_,_,.nil,s=>s
 | _,_,_,_,.cons h r,s=>.cons h (ay.append r s)
mutual
theorem aD.reads {E:Addr→Prop}{P:Program}{w:World}{H:Hp}{h:Heap} (ok:c8 P w H h):∀{v:V}{d:PyData},aD E H v d→∀{u:Value},aR v u→∃as,Reads h u d as
 | _,_,.non,u,r=>by obtain rfl:u=.none:=r;exact ⟨_,.none⟩
 | _,_,.bl b,u,r=>by obtain rfl:u=.bool b:=r;exact ⟨_,.bool b⟩
 | _,_,.int i,u,r=>by obtain ⟨t,rfl⟩:=r;exact ⟨_,.int i t⟩
 | _,_,.str x,u,r=>by obtain ⟨t,rfl⟩:=r;exact ⟨_,.str x t⟩
 | _,_,.lst (a:=a) (xs:=xs) e _ q,u,r=>by
  obtain rfl:u=.ref a:=r
  obtain ⟨_,its,n,rv,e1⟩:=(show bi P w H h a (.lst xs) from ok a _ e)
  obtain ⟨as,ra⟩:=ay.reads ok q rv
  exact ⟨_,.list e1 rfl rfl (by simpa using ra)⟩
 | _,_,.tup (a:=a) (xs:=xs) e q,u,r=>by
  obtain rfl:u=.ref a:=r
  obtain ⟨_,its,rv,⟨o,e1,c,n,dd⟩,_⟩:=(show bi P w H h a (.tup xs) from ok a _ e)
  obtain ⟨as,ra⟩:=ay.reads ok q rv
  exact ⟨_,.tuple e1 c dd (by simpa using ra)⟩
theorem ay.reads {E:Addr→Prop}{P:Program}{w:World}{H:Hp}{h:Heap} (ok:c8 P w H h):∀{vs:List V}{ds:List PyData},ay E H vs ds→∀{us:List Value},av vs us→∃as,ReadsAll h us ds as
 | _,_,.nil,us,r=>by cases r;exact ⟨_,.nil⟩
 | _,_,.cons q qs,us,r=>by
  cases r with
  | cons r1 rr=>
   obtain ⟨as,h1⟩:=aD.reads ok q r1
   obtain ⟨bs,h2⟩:=ay.reads ok qs rr
   exact ⟨_,.cons h1 h2⟩
end
section
variable {X:Cx}
def vp (_ j:Int):Prop:=0<j∧j.natAbs.log2<9000
theorem tK:cF X (binaryOp .FloorDiv) (rI vp fun i j=>.int (i / j)):=wT fun i j _ _ _ _ _ hc q=>by
 rw [←Int.fdiv_eq_ediv_of_nonneg _ (Int.le_of_lt hc.1)] at q
 exact floordiv_int (Int.ne_of_gt hc.1) q (.inl (PyProof.noPylong_of_log2 hc.2))
def DK (i j k:Nat) (ta:TA):TS:=fun D σ H=>ta σ H fun vs H1=>iC fun v w u=>vs=[v,w,u]∧D.nx (((σ.set i (some v)).set j (some w)).set k (some u)) H1
theorem uP {pos:Pos}{i j k:Nat}{x y z:Str}{a b c:Expr}{ta:TA}{px py pz pt:Pos}{kt k2 pt2} (hc:X.calm=true) (hN:X.N.Nodup) (hi:X.N[i]?=some x) (hj:X.N[j]?=some y) (hk:X.N[k]?=some z) (hij:i≠j) (hik:i≠k) (hjk:j≠k)
 (hx:X.env.scope.names.lookup x=some .local) (hy:X.env.scope.names.lookup y=some .local) (hz:X.env.scope.names.lookup z=some .local) (ha:PA X [a,b,c] ta)
 (hw:swappedStores [.Tuple [.Name x px,.Name y py,.Name z pz] kt pt] (.Tuple [a,b,c] k2 pt2) X.env=pure (some [x,y,z]))
 (hs:swapsWithSole [.Tuple [.Name x px,.Name y py,.Name z pz] kt pt] (.Tuple [a,b,c] k2 pt2) pos.line X.env=pure false:=by rfl) :
 PS X (.Assign [.Tuple [.Name x px,.Name y py,.Name z pz] kt pt] (.Tuple [a,b,c] k2 pt2) pos) (DK i j k ta):=by
 intro pins s σ H D I h
 rw [exec_Assign_arm]
 refine wpAny_bind (wpAny_standAt ?_)
 rw [hs]
 refine wpAny_bind (wpAny_pure ?_)
 rw [if_neg (by decide)]
 refine wpAny_bind (Tuple_ (aO (ha _ pins s σ H _ I h) fun us s1 ⟨vs,H1,I1,r1,q1⟩=>?_))
 obtain ⟨v,w,u,e1,q1⟩:=q1
 subst e1
 obtain ⟨u1,u2,u3,rfl,rv,rw',ru⟩:iC fun u1 u2 u3=>us=[u1,u2,u3]∧aR v u1∧aR w u2∧aR u u3:=by
  cases r1 with
  | cons p q=>
   cases q with
   | cons p' q'=>
    cases q' with
    | cons p'' q''=>
     cases q''
     exact ⟨_,_,(),p,p',p''⟩
 refine wpAny_newObj_type ?_ (by show 3≤sizeLine;decide)
 have I2:ad X pins σ H1 { s1 with heap:=s1.heap.push { cls:=.type "tuple",data:=.seq [u1,u2,u3].toArray } }:=I1.kept (t':=s1.toks) fun b o e=>Heap.get?_push_of_some _ e
 rw [hw]
 refine wpAny_bind (wpAny_pure ?_)
 show wpAny (model X.prog X.w) X.A (do rule "assign.swapped-stores";let items ←unpackItems (.ref s1.heap.objs.size) 3 none;assignInOrder [fun v=>bindName X.env z v,fun v=>bindName X.env y v,fun v=>bindName X.env x v] items.reverse;pure Flow.next) _ _ _
 refine wpAny_bind (wpAny_rule (wpAny_bind (unpackItems_tuple (items:=#[u1,u2,u3]) (I.ok.hd hc) (IsTup.new s1.heap _) fun h' hx'=>?_)))
 have I3:=I2.kept (h':=h') (t':=s1.toks) fun b o e=>hx' b o (Nat.ne_of_lt (Heap.lt_size e)) e
 show wpAny _ _ (assignInOrder [fun v=>bindName X.env z v,fun v=>bindName X.env y v,fun v=>bindName X.env x v] [u3,u2,u1] >>= fun _=>pure Flow.next) _ _ _
 refine wpAny_bind (assignInOrder_cons (wpAny_bindName (fj I3 hN hk (.inl hz) ru (fun s2 I4=>?_) (.inr hz))))
 refine assignInOrder_cons (wpAny_bindName (fj I4 hN hj (.inl hy) rw' (fun s3 I5=>?_) (.inr hy)))
 refine assignInOrder_cons (wpAny_bindName (fj I5 hN hi (.inl hx) rv (fun s4 I6=>assignInOrder_nil (wpAny_pure ?_)) (.inr hx)))
 have e:(((σ.set i (some v)).set j (some w)).set k (some u))=(((σ.set k (some u)).set j (some w)).set i (some v)):=by
  rw [List.set_comm _ _ (Ne.symm hjk),List.set_comm (some v) (some w) hij,List.set_comm (some v) (some u) hik]
 rw [←e] at I6
 exact ⟨_,H1,I6,q1⟩
end
end L2
namespace L2
open PySem PySem.Spec PyProof.Rows
def tL:PyData→String
 | .none => "NoneType"
 | .bool _ => "bool"
 | .int _ => "int"
 | .str _ => "str"
 | .list _ => "list"
 | .tuple _ => "tuple"
 | .dict _ => "dict"
theorem aD.ty {K:PySem.W.Frag}{E:Addr→Prop}{H:Hp}{v:V}{d:PyData} (h:aD E H v d):hV K H v (.type (tL d)):=by
 cases h with
 | non=>exact .non
 | bl b=>exact .bl b
 | int i=>exact .int i
 | str x=>exact .str x
 | lst h ne r=>exact .lst h
 | tup h r=>exact .tup h
def BY:PyData→Bool
 | .int _=>true
 | .bool _=>true
 | _=>false
def zN:PyData→Bool
 | .bool _=>true
 | _=>false
def Co:PyData→Bool
 | .tuple _=>true
 | _=>false
def Bt:PyData→Bool
 | .list _=>true
 | _=>false
def Cb:PyData→Bool
 | .str _=>true
 | _=>false
theorem uK {K:PySem.W.Frag} (d:PyData):PySem.W.kitOne K (.type (tL d)) (.type "int")=some (BY d):=by cases d <;> rfl
theorem ma {K:PySem.W.Frag} (d:PyData):PySem.W.kitOne K (.type (tL d)) (.type "bool")=some (zN d):=by cases d <;> rfl
theorem ju {K:PySem.W.Frag} (d:PyData):PySem.W.kitOne K (.type (tL d)) (.type "tuple")=some (Co d):=by cases d <;> rfl
theorem kD {K:PySem.W.Frag} (d:PyData):PySem.W.kitOne K (.type (tL d)) (.type "list")=some (Bt d):=by cases d <;> rfl
theorem i0 {K:PySem.W.Frag} (d:PyData):PySem.W.kitOne K (.type (tL d)) (.type "str")=some (Cb d):=by cases d <;> rfl
inductive Du (K:PySem.W.Frag) (xs:List V) (H:Hp) (Q:VK):Prop
 | mk (x:_) (T:_) (t:_) (b:_) (h0:xs=[x,.ty T]) (h1:hV K H x t) (h2:PySem.W.kitOne K t (.type T)=some b) (h3:Q (.bl b) H)
def Ep (K:PySem.W.Frag):List V→Hp→VK→Prop:=fun xs H Q=>Du K xs H Q
section
variable {X:Cx}
theorem tf:cU X (.builtin "divmod") (fun xs H Q=>bw fun i j=>xs=[.int i,.int j]∧vp i j∧∀p,H p=none→Q (.ref p) (aH H p (.tup [.int (i / j),.int (i % j)]))):=by
 intro pins s σ H xs us Q I r h
 obtain ⟨i,j,rfl,⟨h1,h2⟩,q⟩:=h
 obtain ⟨u,w',rfl,⟨t,rfl⟩,⟨t',rfl⟩⟩:=sR r
 refine divmod_int (by trivial) ?_ (.inl (PyProof.noPylong_of_log2 h2))
 rw [Int.fdiv_eq_ediv_of_nonneg i (by trivial),Int.fmod_eq_emod_of_nonneg i (by trivial)]
 have hn:H s.heap.objs.size=none:=I.hok.fresh (Nat.le_refl _)
 refine ⟨.ref s.heap.objs.size,_,?_,rfl,q _ hn⟩
 refine I.laid (fun b o e=>Heap.get?_push_of_some _ e) (Nat.le_refl _) ⟨by simp only [List.length_cons,List.length_nil];rw [sizeLine_eq];decide,[.int (i / j) s.toks,.int (i % j) (s.toks+1)],.cons ⟨()⟩ (.cons ⟨()⟩ .nil),?_⟩
 exact ⟨⟨_,Heap.get?_push_size s.heap rfl,rfl,0,rfl⟩,_,Heap.get?_push_size s.heap rfl,rfl⟩
end
theorem E8 (c:Bool):-(2 ^ 64)<(if c=true then (1:Int) else 0)∧(if c=true then (1:Int) else 0)<2 ^ 64:=by cases c <;> decide
theorem ut (x:Int):0≤(if x<0 then -x else x):=by split <;> trivial
theorem CP {x:Int} (c:Bool) (h:0≤x):0≤x*(if c=true then (1:Int) else 0):=by cases c <;> simp [h]
theorem vk {ms:List Int}{k:Int} (h0:0≤k) (h:k.toNat<ms.length):gT (ms.map V.int) k=some (V.int ms[k.toNat]):=by
 have q:=i3 (xs:=ms.map V.int) (j:=k.toNat) (v:=V.int ms[k.toNat]) (by rw [List.getElem?_map];simp [h])
 rwa [Int.toNat_of_nonneg h0] at q
inductive Bx (H:Hp) (b:Addr) (t:Int):Prop
 | mk (c x:Int) (h0:H b=some (.lst [.int c,.int x,.int t])) (h1:0≤c) (h2:0≤x) (h3:x<2147483647)
abbrev Eb (b:Addr):Addr→Prop:=fun a=>a=b
theorem Bx.same {H H':Hp}{b:Addr}{t:Int} (h:Bx H b t) (k:ag H H'):Bx H' b t:=by
 obtain ⟨c,x,e,r,r2,r3⟩:=h
 exact ⟨c,x,k _ _ e,r,r2,r3⟩
theorem rh {H H1:Hp}{b:Addr}{xs:List V}{o:HO} (k:ag H H1) (hb:H1 b=some (.lst xs)):ax (Eb b) H (aH H1 b o):=
 ⟨fun a u n h=>by rw [ao n];exact k a u h,fun a ys h=>by
  have e:=k a _ h
  rw [ao (mJ e hb (by intro z;cases z))];exact e⟩
inductive Cn (K:PySem.W.Frag) (vs:List V) (H:Hp) (Q:VK):Prop
 | mk (a:Addr) (ms:List Int) (k:Int) (h0:vs=[.ref a,.int k]) (h1:af K H a (ms.map V.int)) (h2:0≤k) (h3:k≤63) (h4:∀p H',H p=none→ag H H'→Bx H' p 0→Q (.ref p) H')
def C0 (K:PySem.W.Frag):Sp:=fun vs H Q _=>Cn K vs H Q
inductive Am (vs:List V) (H:Hp) (Q:VK):Prop
 | mk (b:Addr) (many t:Int) (h0:vs=[.ref b,.int many]) (h1:Bx H b t) (h2:0<many) (h3:many.natAbs.log2<9000) (h4:0≤t) (h5:t≤1000000) (h6:∀r t' H',0≤r→r<many→t≤t'→t'≤t+1→ax (Eb b) H H'→Bx H' b t'→Q (.int r) H')
def xi:Sp:=fun vs H Q _=>Am  vs H Q
def uh:List Str→Bool
 | []=>true
 | x :: r=>!r.contains x && uh r
theorem wM:∀l:List Str,uh l=true→l.Nodup
 | [],_=>List.nodup_nil
 | x :: r,h=>by
  unfold uh at h
  simp only [Bool.and_eq_true,Bool.not_eq_true',List.contains_eq_mem,decide_eq_false_iff_not] at h
  exact List.nodup_cons.mpr ⟨h.1,wM r h.2⟩
inductive Dl (K:PySem.W.Frag) (xs:List V) (H:Hp) (Q:VK):Prop
 | mk (p:_) (ys:_) (h0:xs=[.ref p]) (h1:(af K H p ys∨ah K H p ys)) (h2:Q (.int ys.length) H)
def En (K:PySem.W.Frag):List V→Hp→VK→Prop:=fun xs H Q=>Dl K xs H Q
section
variable {X:Cx}{K:PySem.W.Frag}
theorem dZ (e:X.K=K:=by rfl):cU X (.builtin "isinstance") (Ep K):=by subst e;exact fun pins s σ H xs us Q I r ⟨x,T,t,b,h1,h2,h3,q⟩=>uz pins s σ H xs us Q I r ⟨x,T,t,b,h1,h2,h3,q⟩
theorem dB (e:X.K=K:=by rfl):cU X (.builtin "len") (En K):=by subst e;exact fun pins s σ H xs us Q I r ⟨p,ys,h1,h2,q⟩=>nH pins s σ H xs us Q I r ⟨p,ys,h1,h2,q⟩
theorem Eu (e:X.K=K:=by rfl):lM X (Eg K):=by subst e;exact iH
theorem DW (e:X.K=K:=by rfl):lM X (xZ K):=by subst e;exact u9
theorem DJ (e:X.K=K:=by rfl):lM X (yT K):=by subst e;exact xa
theorem l8 (e:X.K=K:=by rfl):cF X (compareOp .In) (tF K false):=by subst e;exact xF
theorem uJ (e:X.K=K:=by rfl):cF X (compareOp .NotIn) (tF K true):=by subst e;exact tM
inductive C9 (K:PySem.W.Frag) (xs:List V) (H:Hp) (Q:VK):Prop
 | mk (l:Addr) (bs:List Bool) (h0:xs=[.ref l]) (h1:af K H l (bs.map V.bl)) (h2:Q (.bl (bs.all id)) H)
def EI (K:PySem.W.Frag):List V→Hp→VK→Prop:=fun xs H Q=>C9 K xs H Q
theorem vv (hc:X.calm=true) (e:X.K=K:=by rfl):cU X (.builtin "all") (EI K):=by subst e;exact fun pins s σ H xs us Q I r ⟨l,bs,h1,h2,q⟩=>yO hc pins s σ H xs us Q I r ⟨l,bs,h1,h2,q⟩
theorem b7 {pos:Pos}{es:List Expr}{k:Nat}{t:pE}{n:Nat} (hc:X.calm=true) (h:xB X es t) (e:X.K=K:=by rfl)
 (hn:(assignEach es X.env).length=n:=by rfl) (hst:(assignEach es X.env).findIdx? (·.1)=none:=by rfl):PG X (.Tuple es k pos) (xV K n t):=by
 subst e;exact xC hc h hn hst
theorem rE {tg l:Expr}{tl:TE} (hl:PE X l tl) (e:X.K=K:=by rfl):PI X tg l (zc K tl):=by subst e;exact Ab hl
end
end L2
namespace L2
open PySem PySem.Spec PyProof.Rows
def qL:Expr→Bool
 | .Starred ..=>false
 | _=>true
theorem wP {e:Expr}{es:List Expr}{env:Env} (h:qL e=true):starEach (e :: es) env=(false,eval e env) :: starEach es env:=by
 cases e <;> first | rfl | (simp [qL] at h)
section
variable {X:Cx}{e:Expr}{es:List Expr}{te:TE}{t:TA}
theorem Cg (ha:PE X e te) (hr:PA X es t) (hs:qL e=true:=by rfl):PA X (e :: es) (y8 te t):=fA ha hr (wP hs)
theorem pw (i:Nat) {x:Str}{pos:Pos} (hv:wO X.env.scope x) (hN:X.N[i]?=some x:=by rfl) (hd:(x==("__debug__" : Str))=false:=by decide) (hcd:(x==("__classdict__" : Str))=false:=by decide):PE X (.Name x pos) (pX i):=wW hN hv hd hcd
end
end L2
namespace KM
theorem gcd_zero_abs (n:Int):((Int.gcd n 0:Nat):Int)=if n<0 then -n else n:=by
 rw [Int.gcd_zero_right]
 split <;> trivial
theorem gcd_emod (n d:Int):Int.gcd d (n % d)=Int.gcd n d:=by
 by_cases h:d=0
 ·subst h;rw [Int.emod_zero,Int.gcd_comm]
 ·apply Nat.dvd_antisymm
  ·apply Int.dvd_gcd
   ·have h1:((Int.gcd d (n % d):Nat):Int) ∣ d:=Int.gcd_dvd_left ..
    have h2:((Int.gcd d (n % d):Nat):Int) ∣ n % d:=Int.gcd_dvd_right ..
    have h3:=Int.dvd_add h2 (Int.dvd_mul_of_dvd_left (c:=n / d) h1)
    rw [Int.emod_add_mul_ediv] at h3
    exact h3
   ·exact Int.gcd_dvd_left ..
  ·apply Int.dvd_gcd
   ·exact Int.gcd_dvd_right ..
   ·rw [Int.emod_def]
    exact Int.dvd_sub (Int.gcd_dvd_left ..) (Int.dvd_mul_of_dvd_left (Int.gcd_dvd_right ..))
end KM
namespace KM
def low (n d:Int):Int×Int:=if 0<d then (n / (Int.gcd n d:Nat),d / (Int.gcd n d:Nat)) else (-n / (Int.gcd n d:Nat),-d / (Int.gcd n d:Nat))
theorem gcd_pos {n d:Int} (h:d≠0):0<Int.gcd n d:=by
 apply Nat.pos_of_ne_zero
 intro e
 exact h (Int.gcd_eq_zero_iff.mp e).2
theorem gcd_abs (n d:Int):Int.gcd (if n<0 then -n else n) (if d<0 then -d else d)=Int.gcd n d:=by
 split <;> split <;> simp [Int.gcd_neg,Int.neg_gcd]
end KM
namespace KM
section
variable {p0 p1 q0 q1:Int}
end
end KM
namespace KM
abbrev Fra:=Int×Int
end KM
namespace KM
end KM
namespace L2
open PySem PySem.Spec PyProof.Rows
section
variable {prog:Program}{w:World}{A:Around}{E:Value→Shared→Prop}{s:Shared}
theorem vU {it t:Addr}{i:Nat}{its:Array Value}{x:Value}{Q:Value→Shared→Prop} (hit:s.heap.IsTupleIter it t i) (ht:s.heap.IsTuple t its) (hx:its[i]?=some x)
 (q:∀h',h'.IsTupleIter it t (i+1)→Heap.SameBut it s.heap h'→Q x { s with heap:=h' }):wpAny (model prog w) A (Builtin.SmallTypes.nextOf (.ref it)) Q E s:=by
 obtain ⟨o,e1,e2,e3⟩:=id hit;obtain ⟨u,e4,_,k,e5⟩:=ht;unfold Builtin.SmallTypes.nextOf
 refine wpAny_bind (wpAny_callSpecial?_slot (name:=Str.ofString "__next__") hit.typeIs F.slot_tuple_iterator_next (wpAny_call_entry F.slot_tuple_iterator_next hit.typeIs F.entry_tuple_iterator_next ?_ (F.args_tuple_iterator_next_1 _)))
 show wpAny _ _ (field (.ref it) 0 >>= _) _ _ s;refine wpAny_bind (wpAny_field e1 e3 (x:=.ref t) rfl ?_)
 show wpAny _ _ (if (Value.ref t==Value.none)=true then _ else _) _ _ s;rw [if_neg (show ¬((Value.ref t==Value.none)=true) from Bool.false_ne_true)]
 show wpAny _ _ (field (.ref it) 1 >>= _) _ _ s;refine wpAny_bind (wpAny_field e1 e3 (x:=.int i 0) rfl ?_)
 show wpAny _ _ (seqItems? (.ref t) >>= _) _ _ s;refine wpAny_bind (wpAny_seqItems e4 e5 ?_)
 simp only [Int.toNat_natCast,hx];refine wpAny_bind (wpAny_setField e1 e3 (by simp) (wpAny_pure ⟨x,rfl,wpAny_pure (q _ ?_ (Heap.SameBut.update ..))⟩))
 exact ⟨_,Heap.get?_update_self _ e1 (Obj.isFreed_of_fields (Obj.data_mapFields e3 _)),(Obj.cls_mapFields ..).trans e2,by rw [Obj.data_mapFields e3];simp [rawInt]⟩
theorem sI {it t:Addr}{i:Nat}{its:Array Value}{Q:Value→Shared→Prop} (hh:A.handled=none) (hit:s.heap.IsTupleIter it t i) (ht:s.heap.IsTuple t its) (hx:its[i]?=none)
 (q:∀h' e,Heap.ExtBut it s.heap h'→(∃o,h'.get? e=some o∧o.cls=.type "StopIteration")→E (.ref e) { s with heap:=h' }):wpAny (model prog w) A (Builtin.SmallTypes.nextOf (.ref it)) Q E s:=by
 obtain ⟨o,e1,e2,e3⟩:=id hit;obtain ⟨u,e4,_,k,e5⟩:=ht;unfold Builtin.SmallTypes.nextOf
 refine wpAny_bind (wpAny_callSpecial?_slot (name:=Str.ofString "__next__") hit.typeIs F.slot_tuple_iterator_next (wpAny_call_entry F.slot_tuple_iterator_next hit.typeIs F.entry_tuple_iterator_next ?_ (F.args_tuple_iterator_next_1 _)))
 show wpAny _ _ (field (.ref it) 0 >>= _) _ _ s;refine wpAny_bind (wpAny_field e1 e3 (x:=.ref t) rfl ?_)
 show wpAny _ _ (if (Value.ref t==Value.none)=true then _ else _) _ _ s;rw [if_neg (show ¬((Value.ref t==Value.none)=true) from Bool.false_ne_true)]
 show wpAny _ _ (field (.ref it) 1 >>= _) _ _ s;refine wpAny_bind (wpAny_field e1 e3 (x:=.int i 0) rfl ?_)
 show wpAny _ _ (seqItems? (.ref t) >>= _) _ _ s;refine wpAny_bind (wpAny_seqItems e4 e5 ?_)
 simp only [Int.toNat_natCast,hx];refine wpAny_bind (wpAny_rule (wpAny_bind (wpAny_setField e1 e3 (by simp) ?_)))
 show wpAny _ _ (newExc (.type "StopIteration") [] >>= _) _ _ _;refine wpAny_bind ?_;simp only [newExc,newTuple]
 refine wpAny_bind (wpAny_newObj_type ?_ (by size_fits));refine wpAny_bind (m:=firstArgMember _ _) (wpAny_of_eq (a:=Value.none) (by first | rfl | (simp only [firstArgMember];rfl)) ?_);refine wpAny_newObj_type ?_ (by size_fits)
 simp only [raiseNew];refine wpAny_bind (wpAny_handled ?_);first | rw [show A.in1.handled=none from hh] | rw [hh]
 refine wpAny_bind (wpAny_pure (wpAny_throw ?_));exact q _ _ (((Heap.SameBut.update ..).extBut.push _).push _) ⟨_,Heap.get?_push_size _ rfl,rfl⟩
end
def fP (h:Heap) (l:Addr) (its:Array Value):Bool→Prop
 | true=>h.IsList l its
 | false=>h.IsTuple l its
def dQ (h:Heap) (it l:Addr) (i:Nat):Bool→Prop
 | true=>h.IsListIter it l i
 | false=>h.IsTupleIter it l i
theorem fP.at {h h':Heap}{l:Addr}{its:Array Value}:∀{b:Bool},fP h l its b→(∀o,h.get? l=some o→h'.get? l=some o)→fP h' l its b
 | true,q,k=>Heap.IsList.at q k
 | false,q,k=>Heap.IsTuple.at q k
theorem dQ.at {h h':Heap}{it l:Addr}{i:Nat}:∀{b:Bool},dQ h it l i b→(∀o,h.get? it=some o→h'.get? it=some o)→dQ h' it l i b
 | true,q,k=>Heap.IsListIter.at q k
 | false,q,k=>Heap.IsTupleIter.at q k
theorem fP.lt {h:Heap}{l:Addr}{its:Array Value}:∀{b:Bool},fP h l its b→l<h.objs.size
 | true,⟨_,e,_⟩=>Heap.lt_size e
 | false,⟨_,e,_⟩=>Heap.lt_size e
theorem dQ.some {h:Heap}{it l:Addr}{i:Nat}:∀{b:Bool},dQ h it l i b→∃o,h.get? it=some o∧∀v,o.data≠.cell v
 | true,⟨o,e,_,d⟩=>⟨o,e,fun v z=>by rw [d] at z;cases z⟩
 | false,⟨o,e,_,d⟩=>⟨o,e,fun v z=>by rw [d] at z;cases z⟩
theorem lO {prog:Program}{w:World}{A:Around} (hh:A.handled=none) (it l:Addr) (hne:l≠it) (its:Array Value):∀b:Bool,
 Draws prog w A it [it,l] its.size (fun i v=>its[i]?=some v) (fun i h=>dQ h it l i b∧fP h l its b)
 | true=>Draws.list hh it l hne its
 | false=>{
  live:=fun _ _ st=>let ⟨o,ho,_⟩:=st.1;⟨o,ho⟩
  frame:=fun _ _ _ st hk=>⟨Heap.IsTupleIter.at st.1 fun o e=>hk it (by simp) o e,Heap.IsTuple.at st.2 fun o e=>hk l (by simp) o e⟩
  item:=fun i s Q E hi st q=>vU st.1 st.2 (x:=its[i]) (by simp [hi]) fun h' it' same=>q _ h' s.toks (by simp [hi]) ⟨it',Heap.IsTuple.extBut st.2 same.extBut hne⟩ same
  done:=fun s Q E st q=>sI hh st.1 st.2 (by simp) q }
structure oC (z TI TO i1 i2:Addr):Prop where
 a1:TI≠z
 a2:TO≠z
 a3:i1≠z
 a4:i2≠z
 a5:TI≠TO
 a6:TI≠i1
 a7:TI≠i2
 a8:TO≠i1
 a9:TO≠i2
 a0:i1≠i2
section
variable {prog:Program}{w:World}{A:Around}{E:Value→Shared→Prop}{s:Shared}
variable {z TI TO i1 i2 l1 l2:Addr}{k:Nat}{xs ys:Array Value}{a b:Value}{c1 c2:Bool}
theorem Al {x y:Value}{Q:Value→Shared→Prop} (D:oC z TI TO i1 i2) (n1:∀c,c=l1∨c=l2→c≠z∧c≠TO∧c≠i1∧c≠i2)
 (hz:IsZip s.heap z TI TO .none) (hTI:IsPair s.heap TI (.ref i1) (.ref i2)) (hTO:IsPair s.heap TO a b) (hh:A.handled=none)
 (h1:dQ s.heap i1 l1 k c1) (h2:dQ s.heap i2 l2 k c2) (q1:fP s.heap l1 xs c1) (q2:fP s.heap l2 ys c2) (hx:xs[k]?=some x) (hy:ys[k]?=some y)
 (hQ:∀h' tk,IsZip h' z TI TO (rawInt s.heap.objs.size)→IsPair h' TO x y→dQ h' i1 l1 (k+1) c1→dQ h' i2 l2 (k+1) c2→IsPair h' s.heap.objs.size x y→h'.objs.size=s.heap.objs.size+1→
  (∀c o,c≠z→c≠TO→c≠i1→c≠i2→s.heap.get? c=some o→h'.get? c=some o)→Q (.ref s.heap.objs.size) { s with heap:=h',toks:=tk }) :
 wpAny (model prog w) A (Builtin.«zip.__next__» ⟨[.ref z],[]⟩) (fun fin s'=>∃v,fin=.done (.ret v)∧Q v s') E s:=by
 obtain ⟨m1,m2,m3,m4⟩:=n1 l1 (.inl rfl)
 obtain ⟨m5,m6,m7,m8⟩:=n1 l2 (.inr rfl)
 have kx:k<xs.size:=(Array.getElem?_eq_some_iff.mp hx).1
 have ky:k<ys.size:=(Array.getElem?_eq_some_iff.mp hy).1
 have D1:=lO (prog:=prog) (w:=w) hh i1 l1 m3 xs c1
 have D2:=lO (prog:=prog) (w:=w) hh i2 l2 m8 ys c2
 show wpAny _ _ (field (.ref z) 2 >>= _) _ _ _;refine wpAny_bind (wpAny_field hz rfl (x:=.bool false) rfl ?_)
 show wpAny _ _ (field (.ref z) 3 >>= _) _ _ _;refine wpAny_bind (wpAny_field hz rfl (x:=.ref TI) rfl (wpAny_bind (wpAny_seqItems hTI rfl ?_)))
 show wpAny _ _ (Builtin.SmallTypes.ownedTupleIsFree (.ref z) >>= _) _ _ _;refine wpAny_bind ?_;unfold Builtin.SmallTypes.ownedTupleIsFree
 refine wpAny_bind (wpAny_field hz rfl (x:=.none) rfl (wpAny_pure ?_));simp only [if_true]
 refine wpAny_bind (wpAny_rule (wpAny_bind (wpAny_field hz rfl (x:=.ref TO) rfl (wpAny_bind (wpAny_setField_rec hz (by simp) fun g1 z1 t1=>?_)))))
 replace z1:IsZip g1 z TI TO .ellipsis:=z1
 refine wpAny_bind ?_;simp only [List.zipIdx_cons,List.zipIdx_nil,List.forIn_cons,List.forIn_nil];refine wpAny_bind (wpAny_bind (wpAny_onRaise ?_))
 show wpAny _ _ (Builtin.SmallTypes.nextOf (.ref i1) >>= _) _ _ _
 refine wpAny_bind (D1.item k _ _ _ kx ⟨h1.at fun o e=>t1.extBut _ _ D.a3 e,q1.at fun o e=>t1.extBut _ _ m1 e⟩ fun x' g2 tk2 p1 st1 t2=>wpAny_pure ?_)
 have ex:x=x':=Option.some.inj (hx.symm.trans p1)
 subst ex
 have TO2:IsPair g2 TO a b:=t2.extBut _ _ D.a8 (t1.extBut _ _ D.a2 hTO)
 refine wpAny_bind (wpAny_seqItems TO2 rfl (wpAny_bind (wpAny_updateSeq_pair TO2 fun g3 TO3 t3=>?_)))
 replace TO3:IsPair g3 TO x b:=TO3
 refine wpAny_bind (wpAny_letGo (wpAny_pure ?_));refine wpAny_bind (wpAny_bind (wpAny_onRaise ?_));show wpAny _ _ (Builtin.SmallTypes.nextOf (.ref i2) >>= _) _ _ _
 refine wpAny_bind (D2.item k _ _ _ ky ⟨h2.at fun o e=>t3.extBut _ _ D.a9.symm (t2.extBut _ _ D.a0.symm (t1.extBut _ _ D.a4 e)),q2.at fun o e=>t3.extBut _ _ m6 (t2.extBut _ _ m7 (t1.extBut _ _ m5 e))⟩ fun y' g4 tk4 p2 st2 t4=>wpAny_pure ?_)
 have ey:y=y':=Option.some.inj (hy.symm.trans p2)
 subst ey
 have TO4:IsPair g4 TO x b:=t4.extBut _ _ D.a9 TO3
 refine wpAny_bind (wpAny_seqItems TO4 rfl (wpAny_bind (wpAny_updateSeq_pair TO4 fun g5 TO5 t5=>?_)))
 replace TO5:IsPair g5 TO x y:=TO5
 refine wpAny_bind (wpAny_letGo (wpAny_pure (wpAny_pure ?_)));refine wpAny_bind (wpAny_seqItems TO5 rfl (wpAny_bind (wpAny_newTuple ?_)))
 have sz:g5.objs.size=s.heap.objs.size:=by rw [t5.1,t4.1,t3.1,t2.1,t1.1]
 have z5:IsZip g5 z TI TO .ellipsis:=t5.extBut _ _ D.a2.symm (t4.extBut _ _ D.a4.symm (t3.extBut _ _ D.a2.symm (t2.extBut _ _ D.a3.symm z1)))
 have keep:∀c o,c≠z→c≠TO→c≠i1→c≠i2→s.heap.get? c=some o→g5.get? c=some o:=fun c o d1 d2 d3 d4 e=>t5.extBut _ _ d2 (t4.extBut _ _ d4 (t3.extBut _ _ d2 (t2.extBut _ _ d3 (t1.extBut _ _ d1 e))))
 have it1:dQ g5 i1 l1 (k+1) c1:=st1.1.at fun o e=>t5.extBut _ _ D.a8.symm (t4.extBut _ _ D.a0 (t3.extBut _ _ D.a8.symm e))
 have it2:dQ g5 i2 l2 (k+1) c2:=st2.1.at fun o e=>t5.extBut _ _ D.a9.symm e
 have zlt:z<g5.objs.size:=Heap.lt_size z5
 show wpAny _ _ (Builtin.SmallTypes.ownedTupleHandOut (.ref z) (.ref g5.objs.size) >>= _) _ _ _;refine wpAny_bind ?_;unfold Builtin.SmallTypes.ownedTupleHandOut
 have z6:IsZip (g5.push { cls:=.type "tuple",data:=.seq #[x,y] }) z TI TO .ellipsis:=Heap.get?_push_of_some _ z5
 refine wpAny_bind (wpAny_setField_rec z6 (by simp) fun g7 z7 t7=>?_)
 replace z7:IsZip g7 z TI TO (rawInt g5.objs.size):=z7
 refine wpAny_setField_rec z7 (by simp) fun g8 z8 t8=>?_
 replace z8:IsZip g8 z TI TO (rawInt g5.objs.size):=z8
 have up:∀c o,c≠z→g5.get? c=some o→g8.get? c=some o:=fun c o d e=>t8.extBut _ _ d (t7.extBut _ _ d (Heap.get?_push_of_some _ e))
 have T8:IsPair g8 g5.objs.size x y:=t8.extBut _ _ (Nat.ne_of_gt zlt) (t7.extBut _ _ (Nat.ne_of_gt zlt) (Heap.get?_push_size _ rfl))
 have s8:g8.objs.size=g5.objs.size+1:=by rw [t8.1,t7.1,Heap.size_push]
 rw [sz] at z8 T8 s8
 refine wpAny_pure ⟨(),?_⟩;show Q (.ref g5.objs.size) _;rw [sz]
 exact hQ g8 _ z8 (up _ _ D.a2 TO5) (it1.at fun o e=>up _ o D.a3 e) (it2.at fun o e=>up _ o D.a4 e) T8 s8 fun c o d1 d2 d3 d4 e=>up c o d1 (keep c o d1 d2 d3 d4 e)
theorem Cz {Q:Fin→Shared→Prop} (hh:A.handled=none) (D:oC z TI TO i1 i2) (n1:∀c,c=l1∨c=l2→c≠z∧c≠TO∧c≠i1∧c≠i2)
 (hz:IsZip s.heap z TI TO .none) (hTI:IsPair s.heap TI (.ref i1) (.ref i2)) (hTO:IsPair s.heap TO a b)
 (h1:dQ s.heap i1 l1 k c1) (h2:dQ s.heap i2 l2 k c2) (q1:fP s.heap l1 xs c1) (q2:fP s.heap l2 ys c2) (hend:xs.size=k∨(k<xs.size∧ys.size=k))
 (hE:∀h' e tk,(∀c o,c≠z→c≠TO→c≠i1→c≠i2→s.heap.get? c=some o→h'.get? c=some o)→(∃o,h'.get? e=some o∧o.cls=.type "StopIteration")→E (.ref e) { s with heap:=h',toks:=tk }) :
 wpAny (model prog w) A (Builtin.«zip.__next__» ⟨[.ref z],[]⟩) Q E s:=by
 obtain ⟨m1,m2,m3,m4⟩:=n1 l1 (.inl rfl)
 obtain ⟨m5,m6,m7,m8⟩:=n1 l2 (.inr rfl)
 have D1:=lO (prog:=prog) (w:=w) hh i1 l1 m3 xs c1
 have D2:=lO (prog:=prog) (w:=w) hh i2 l2 m8 ys c2
 show wpAny _ _ (field (.ref z) 2 >>= _) _ _ _;refine wpAny_bind (wpAny_field hz rfl (x:=.bool false) rfl ?_)
 show wpAny _ _ (field (.ref z) 3 >>= _) _ _ _;refine wpAny_bind (wpAny_field hz rfl (x:=.ref TI) rfl (wpAny_bind (wpAny_seqItems hTI rfl ?_)))
 show wpAny _ _ (Builtin.SmallTypes.ownedTupleIsFree (.ref z) >>= _) _ _ _;refine wpAny_bind ?_;unfold Builtin.SmallTypes.ownedTupleIsFree
 refine wpAny_bind (wpAny_field hz rfl (x:=.none) rfl (wpAny_pure ?_));simp only [if_true]
 refine wpAny_bind (wpAny_rule (wpAny_bind (wpAny_field hz rfl (x:=.ref TO) rfl (wpAny_bind (wpAny_setField_rec hz (by simp) fun g1 z1 t1=>?_)))))
 replace z1:IsZip g1 z TI TO .ellipsis:=z1
 refine wpAny_bind ?_;simp only [List.zipIdx_cons,List.zipIdx_nil,List.forIn_cons,List.forIn_nil];refine wpAny_bind (wpAny_bind (wpAny_onRaise ?_))
 show wpAny _ _ (Builtin.SmallTypes.nextOf (.ref i1) >>= _) _ _ _
 have st0:dQ g1 i1 l1 k c1∧fP g1 l1 xs c1:=⟨h1.at fun o e=>t1.extBut _ _ D.a3 e,q1.at fun o e=>t1.extBut _ _ m1 e⟩
 rcases hend with hk | ⟨kx,hk⟩
 ·refine wpAny_bind (D1.done _ _ _ (by rw [hk];exact st0) fun g2 e t2 he=>?_)
  obtain ⟨oe,e1,e2⟩:=he
  have z2:IsZip g2 z TI TO .ellipsis:=t2 _ _ D.a3.symm z1
  have ez:e≠z:=fun q=>by subst q;rw [z2] at e1;cases e1;simp at e2
  exact wpAny_setField_rec z2 (by simp) fun g3 _ t3=>hE g3 e _ (fun c o d1 _ d3 _ q=>t3.extBut _ _ d1 (t2 _ _ d3 (t1.extBut _ _ d1 q))) ⟨oe,t3.extBut _ _ ez e1,e2⟩
 ·refine wpAny_bind (D1.item k _ _ _ kx st0 fun x g2 tk2 p1 st1 t2=>wpAny_pure ?_)
  have TO2:IsPair g2 TO a b:=t2.extBut _ _ D.a8 (t1.extBut _ _ D.a2 hTO)
  refine wpAny_bind (wpAny_seqItems TO2 rfl (wpAny_bind (wpAny_updateSeq_pair TO2 fun g3 TO3 t3=>?_)))
  refine wpAny_bind (wpAny_letGo (wpAny_pure ?_));refine wpAny_bind (wpAny_bind (wpAny_onRaise ?_));show wpAny _ _ (Builtin.SmallTypes.nextOf (.ref i2) >>= _) _ _ _
  have st2:dQ g3 i2 l2 k c2∧fP g3 l2 ys c2:=⟨h2.at fun o e=>t3.extBut _ _ D.a9.symm (t2.extBut _ _ D.a0.symm (t1.extBut _ _ D.a4 e)),q2.at fun o e=>t3.extBut _ _ m6 (t2.extBut _ _ m7 (t1.extBut _ _ m5 e))⟩
  refine wpAny_bind (D2.done _ _ _ (by rw [hk];exact st2) fun g4 e t4 he=>?_)
  obtain ⟨oe,e1,e2⟩:=he
  have z4:IsZip g4 z TI TO .ellipsis:=t4 _ _ D.a4.symm (t3.extBut _ _ D.a2.symm (t2.extBut _ _ D.a3.symm z1))
  have ez:e≠z:=fun q=>by subst q;rw [z4] at e1;cases e1;simp at e2
  exact wpAny_setField_rec z4 (by simp) fun g5 _ t5=>hE g5 e _ (fun c o d1 d2 d3 d4 q=>t5.extBut _ _ d1 (t4 _ _ d4 (t3.extBut _ _ d2 (t2.extBut _ _ d3 (t1.extBut _ _ d1 q))))) ⟨oe,t5.extBut _ _ ez e1,e2⟩
end
def Ck:Bool→String
 | true => "list_iterator"
 | false => "tuple_iterator"
abbrev zA (h:Heap) (l1:Addr) (c1:Bool):Heap:=h.push { cls:=.type (Ck c1),data:=.fields #[.ref l1,.int 0 0] }
abbrev zB (h:Heap) (l1 l2:Addr) (c1 c2:Bool):Heap:=(zA h l1 c1).push { cls:=.type (Ck c2),data:=.fields #[.ref l2,.int 0 0] }
abbrev zC (h:Heap) (l1 l2:Addr) (c1 c2:Bool):Heap:=(zB h l1 l2 c1 c2).push { cls:=.type "tuple",data:=.seq #[.ref h.objs.size,.ref (zA h l1 c1).objs.size] }
abbrev zD (h:Heap) (l1 l2:Addr) (c1 c2:Bool):Heap:=(zC h l1 l2 c1 c2).push { cls:=.type "tuple",data:=.seq #[.none,.none] }
abbrev zE (h:Heap) (l1 l2:Addr) (c1 c2:Bool):Heap:=(zD h l1 l2 c1 c2).push { cls:=.type "zip",data:=.fields #[.none,.bool false,.bool false,.ref (zB h l1 l2 c1 c2).objs.size,.ref (zC h l1 l2 c1 c2).objs.size] }
set_option maxHeartbeats 8000000 in
theorem Cs (l1 l2:Addr) (xs ys:Array Value) (c1 c2:Bool) :
 Meets (Builtin.«zip.__new__» ⟨[.type "zip",.ref l1,.ref l2],[]⟩) (fun _ R s=>fP s.heap l1 xs c1∧fP s.heap l2 ys c2∧R (.ok (.ret (.ref (zD s.heap l1 l2 c1 c2).objs.size))) { s with heap:=zE s.heap l1 l2 c1 c2 }):=
 .of_wp fun prog w A R s h=>by
  obtain ⟨hp,g,d,tk,os⟩:=s;obtain ⟨q1,q2,h⟩:=h
  have hsub:=sub_zip
  have L2':fP (Shared.heap ⟨zA hp l1 c1,g,d,tk,os⟩) l2 ys c2:=fP.at q2 fun o e=>Heap.get?_push_of_some _ e
  cases c1 <;> cases c2
  ·have g1:Heap.IsTuple (Shared.heap ⟨hp,g,d,tk,os⟩) l1 xs:=q1
   have g2:Heap.IsTuple (Shared.heap ⟨hp.push { cls:=.type "tuple_iterator",data:=.fields #[.ref l1,.int 0 0] },g,d,tk,os⟩) l2 ys:=L2'
   wp_walk using wpAny_pyIter_tuple g1,wpAny_pyIter_tuple g2
   exact ⟨(),h⟩
  ·have g1:Heap.IsTuple (Shared.heap ⟨hp,g,d,tk,os⟩) l1 xs:=q1
   have g2:Heap.IsList (Shared.heap ⟨hp.push { cls:=.type "tuple_iterator",data:=.fields #[.ref l1,.int 0 0] },g,d,tk,os⟩) l2 ys:=L2'
   wp_walk using wpAny_pyIter_tuple g1,wpAny_pyIter_list g2
   exact ⟨(),h⟩
  ·have g1:Heap.IsList (Shared.heap ⟨hp,g,d,tk,os⟩) l1 xs:=q1
   have g2:Heap.IsTuple (Shared.heap ⟨hp.push { cls:=.type "list_iterator",data:=.fields #[.ref l1,.int 0 0] },g,d,tk,os⟩) l2 ys:=L2'
   wp_walk using wpAny_pyIter_list g1,wpAny_pyIter_tuple g2
   exact ⟨(),h⟩
  ·have g1:Heap.IsList (Shared.heap ⟨hp,g,d,tk,os⟩) l1 xs:=q1
   have g2:Heap.IsList (Shared.heap ⟨hp.push { cls:=.type "list_iterator",data:=.fields #[.ref l1,.int 0 0] },g,d,tk,os⟩) l2 ys:=L2'
   wp_walk using wpAny_pyIter_list g1,wpAny_pyIter_list g2
   exact ⟨(),h⟩
theorem uN {h:Heap}{it l:Addr}:∀{c:Bool},h.get? it=some { cls:=.type (Ck c),data:=.fields #[.ref l,.int 0 0] }→dQ h it l 0 c
 | true,e=>⟨_,e,rfl,rfl⟩
 | false,e=>⟨_,e,rfl,rfl⟩
section
variable {prog:Program}{w:World}{A:Around}{E:Value→Shared→Prop}{s:Shared}
theorem xI {l1 l2:Addr}{xs ys:Array Value}{c1 c2:Bool}{Q:Value→Shared→Prop} (q1:fP s.heap l1 xs c1) (q2:fP s.heap l2 ys c2)
 (h:∀h',IsZip h' (s.heap.objs.size+4) (s.heap.objs.size+2) (s.heap.objs.size+3) .none→IsPair h' (s.heap.objs.size+2) (.ref s.heap.objs.size) (.ref (s.heap.objs.size+1))→
  IsPair h' (s.heap.objs.size+3) .none .none→dQ h' s.heap.objs.size l1 0 c1→dQ h' (s.heap.objs.size+1) l2 0 c2→
  (∀c o,s.heap.get? c=some o→h'.get? c=some o)→Q (.ref (s.heap.objs.size+4)) { s with heap:=h' }) :
 wpAny (model prog w) A (call (.type "zip") [.ref l1,.ref l2]) Q E s:=by
 refine callType_new F.called_zip (by decide) (F.typeCall_zip_2 _ _) (F.newCall_zip_2 _ _) (fun obj=>F.args_object_init_3 obj _ _) F.entry_zip_new (Cs l1 l2 xs ys c1 c2) ⟨q1,q2,?_⟩
 have s1:(zA s.heap l1 c1).objs.size=s.heap.objs.size+1:=Heap.size_push ..
 have s2:(zB s.heap l1 l2 c1 c2).objs.size=s.heap.objs.size+2:=by rw [Heap.size_push,s1]
 have s3:(zC s.heap l1 l2 c1 c2).objs.size=s.heap.objs.size+3:=by rw [Heap.size_push,s2]
 have s4:(zD s.heap l1 l2 c1 c2).objs.size=s.heap.objs.size+4:=by rw [Heap.size_push,s3]
 have g5:(zE s.heap l1 l2 c1 c2).get? (zD s.heap l1 l2 c1 c2).objs.size=some _:=Heap.get?_push_size _ rfl
 have g4:(zE s.heap l1 l2 c1 c2).get? (zC s.heap l1 l2 c1 c2).objs.size=some _:=Heap.get?_push_of_some _ (Heap.get?_push_size _ rfl)
 have g3:(zE s.heap l1 l2 c1 c2).get? (zB s.heap l1 l2 c1 c2).objs.size=some _:=Heap.get?_push_of_some _ (Heap.get?_push_of_some _ (Heap.get?_push_size _ rfl))
 have g2:(zE s.heap l1 l2 c1 c2).get? (zA s.heap l1 c1).objs.size=some _:=Heap.get?_push_of_some _ (Heap.get?_push_of_some _ (Heap.get?_push_of_some _ (Heap.get?_push_size _ rfl)))
 have g1:(zE s.heap l1 l2 c1 c2).get? s.heap.objs.size=some _:=Heap.get?_push_of_some _ (Heap.get?_push_of_some _ (Heap.get?_push_of_some _ (Heap.get?_push_of_some _ (Heap.get?_push_size _ rfl))))
 show _∧_
 rw [s2,s3,s4] at g5
 rw [s1,s2] at g3
 rw [s3] at g4
 rw [s1] at g2
 rw [s4]
 exact ⟨⟨_,g5,rfl⟩,h _ g5 g3 g4 (uN g1) (uN g2) fun c o x=>Heap.get?_push_of_some _ (Heap.get?_push_of_some _ (Heap.get?_push_of_some _ (Heap.get?_push_of_some _ (Heap.get?_push_of_some _ x))))⟩
theorem qM {z TI TO i1 i2 l1 l2:Addr}{k:Nat}{xs ys:Array Value}{a b x y:Value}{c1 c2:Bool}{Q:Option Value→Shared→Prop} (D:oC z TI TO i1 i2) (n1:∀c,c=l1∨c=l2→c≠z∧c≠TO∧c≠i1∧c≠i2)
 (hz:IsZip s.heap z TI TO .none) (hTI:IsPair s.heap TI (.ref i1) (.ref i2)) (hTO:IsPair s.heap TO a b) (hh:A.handled=none)
 (h1:dQ s.heap i1 l1 k c1) (h2:dQ s.heap i2 l2 k c2) (q1:fP s.heap l1 xs c1) (q2:fP s.heap l2 ys c2) (hx:xs[k]?=some x) (hy:ys[k]?=some y)
 (hQ:∀h' tk,IsZip h' z TI TO (rawInt s.heap.objs.size)→IsPair h' TO x y→dQ h' i1 l1 (k+1) c1→dQ h' i2 l2 (k+1) c2→IsPair h' s.heap.objs.size x y→h'.objs.size=s.heap.objs.size+1→
  (∀c o,c≠z→c≠TO→c≠i1→c≠i2→s.heap.get? c=some o→h'.get? c=some o)→Q (some (.ref s.heap.objs.size)) { s with heap:=h',toks:=tk }) :
 wpAny (model prog w) A (pyNext (.ref z)) Q E s:=by
 have hT:s.TypeIs (.ref z) "zip" := ⟨_,hz,rfl⟩
 unfold pyNext
 exact wpAny_bind (wpAny_attempt (wpAny_callSpecial?_slot (name:=Str.ofString "__next__") hT F.slot_zip_next (wpAny_call_entry F.slot_zip_next hT F.entry_zip_next
  (Al D n1 hz hTI hTO hh h1 h2 q1 q2 hx hy fun h' tk a1 a2 a3 a4 a5 a6 a7=>wpAny_pure (hQ h' tk a1 a2 a3 a4 a5 a6 a7)) (F.args_zip_next_1 _))))
theorem sw {z TI TO i1 i2 l1 l2:Addr}{k:Nat}{xs ys:Array Value}{a b:Value}{c1 c2:Bool}{Q:Option Value→Shared→Prop} (hh:A.handled=none) (D:oC z TI TO i1 i2) (n1:∀c,c=l1∨c=l2→c≠z∧c≠TO∧c≠i1∧c≠i2)
 (hz:IsZip s.heap z TI TO .none) (hTI:IsPair s.heap TI (.ref i1) (.ref i2)) (hTO:IsPair s.heap TO a b)
 (h1:dQ s.heap i1 l1 k c1) (h2:dQ s.heap i2 l2 k c2) (q1:fP s.heap l1 xs c1) (q2:fP s.heap l2 ys c2) (hend:xs.size=k∨(k<xs.size∧ys.size=k))
 (hQ:∀h' tk,(∀c o,c≠z→c≠TO→c≠i1→c≠i2→s.heap.get? c=some o→h'.get? c=some o)→Q none { s with heap:=h',toks:=tk }):wpAny (model prog w) A (pyNext (.ref z)) Q E s:=by
 have hT:s.TypeIs (.ref z) "zip" := ⟨_,hz,rfl⟩
 unfold pyNext
 refine wpAny_bind (wpAny_attempt (wpAny_callSpecial?_slot (name:=Str.ofString "__next__") hT F.slot_zip_next (wpAny_call_entry F.slot_zip_next hT F.entry_zip_next
  (Cz hh D n1 hz hTI hTO h1 h2 q1 q2 hend fun h' e tk hk he=>?_) (F.args_zip_next_1 _))))
 obtain ⟨o,ho,hc⟩:=he
 refine wpAny_bind (wpAny_isInstance (T := "StopIteration") (b:=true) ⟨o,ho,hc⟩ isSubtype_stop (wpAny_pure (hQ _ tk hk)))
end
theorem ad.turnedL {X:Cx}{pins:List (Addr×Obj)}{σ:St}{H:Hp}{s:Shared}{h':Heap}{t':Nat}{ch:List Addr} (I:ad X pins σ H s) (hf:∀b∈ch,jZ X pins H b) (k:∀b u,b∉ch→s.heap.get? b=some u→h'.get? b=some u) :
 ad X pins σ H { s with heap:=h',toks:=t' }:=by
 refine I.step (g':=s.gens) (d':=s.drawn) (ch:=ch) (fun b hb=>?_) (fun b o _ _ hc e _=>k b o hc e) (fun b o _ _ hc e _=>⟨o.slots,k b o hc e⟩) (fun _ _ _ _ n=>n)
  (fun b o hc e=>⟨o,k b o hc e⟩) (fun _ _ e=>e) (fun _ _ _ e=>e) (fun b ps e=>⟨#[],by rw [e];simp⟩) (fun m hm=>?_) (fun b u e=>?_) I.bare
 ·obtain ⟨f0,f1,f2,f3,f4,f5⟩:=hf b hb
  exact ⟨f3,f1,f4,f5⟩
 ·obtain ⟨o,es,ep,ho,r⟩:=hm
  exact ⟨o,es,ep,k _ o (fun z=>(hf _ z).2.1 rfl) ho,r⟩
 ·refine (I.hok b u e).stay (fun c v hc q=>k c v (fun z=>?_) q) (fun _ q=>q) fun _ _ q=>q
  have hcn:=(hf c z).1
  rcases hc with rfl | hc
  ·rw [e] at hcn;cases hcn
  ·rw [hc] at hcn;cases hcn
def iL (K:PySem.W.Frag) (H:Hp) (a:Addr) (xs:List V):Bool→Prop
 | true=>af K H a xs
 | false=>ah K H a xs
theorem ad.seqC {X:Cx}{pins:List (Addr×Obj)}{σ:St}{H:Hp}{s:Shared}{a:Addr}{xs:List V} (I:ad X pins σ H s):∀{c:Bool},iL X.K H a xs c→∃its:List Value,av xs its∧fP s.heap a its.toArray c
 | true,q=>let ⟨its,rv,p,_⟩:=I.list q;⟨its,rv,p.isList⟩
 | false,q=>let ⟨its,rv,p,_⟩:=I.tuple q;⟨its,rv,p⟩
theorem ad.seqC_inj {X:Cx}{pins:List (Addr×Obj)}{σ:St}{H:Hp}{s:Shared}{a:Addr}{xs ys:List V} (I:ad X pins σ H s):∀{c:Bool},iL X.K H a xs c→iL X.K H a ys c→xs=ys
 | true,p,q=>I.list_inj p q
 | false,p,q=>I.tuple_inj p q
def uO (K:PySem.W.Frag) (a1 a2:Addr) (c1 c2:Bool):It:=
 ⟨fun i H=>mW fun xs ys x y=>iL K H a1 xs c1∧iL K H a2 ys c2∧xs[i]?=some x∧ys[i]?=some y,
  fun i H v H'=>iC fun T x y=>H T=none∧v=.ref T∧H'=aH H T (.tup [x,y])∧(∀xs,iL K H a1 xs c1→xs[i]?=some x)∧(∀ys,iL K H a2 ys c2→ys[i]?=some y),
  fun i H=>bw fun xs ys=>iL K H a1 xs c1∧iL K H a2 ys c2∧(xs.length=i∨(i<xs.length∧ys.length=i))⟩
theorem ye {P:Program}{w:World}{K:PySem.W.Frag}{es:List Expr}{kk:Nat}{pos:Pos} (a1 a2 z TI TO i1 i2:Addr) (c1 c2:Bool) (D:oC z TI TO i1 i2) (n1:∀c,c=a1∨c=a2→c≠z∧c≠TO∧c≠i1∧c≠i2) :
 qK P w K (.Tuple es kk pos) (uO K a1 a2 c1 c2) [z,TO,i1,i2,TI] z (fun i h=>IsZip h z TI TO .none∧IsPair h TI (.ref i1) (.ref i2)∧(bw fun a b=>IsPair h TO a b)∧dQ h i1 a1 i c1∧dQ h i2 a2 i c2) where
 mem:=by simp
 obj:=fun i h st b hb=>by
  obtain ⟨hz,hTI,⟨a,b',hTO⟩,h1,h2⟩:=st
  have hb':b=z∨b=TO∨b=i1∨b=i2∨b=TI:=by simpa using hb
  rcases hb' with rfl | rfl | rfl | rfl | rfl
  ·exact ⟨_,hz,fun v q=>by have q':Data.fields _=Data.cell v:=q;cases q'⟩
  ·exact ⟨_,hTO,fun v q=>by have q':Data.seq _ _=Data.cell v:=q;cases q'⟩
  ·exact h1.some
  ·exact h2.some
  ·exact ⟨_,hTI,fun v q=>by have q':Data.seq _ _=Data.cell v:=q;cases q'⟩
 keep:=fun i h h' st k=>by
  obtain ⟨hz,hTI,⟨a,b',hTO⟩,h1,h2⟩:=st
  exact ⟨k z (by simp) _ hz,k TI (by simp) _ hTI,⟨a,b',k TO (by simp) _ hTO⟩,h1.at fun o q=>k i1 (by simp) o q,h2.at fun o q=>k i2 (by simp) o q⟩
 item:=by
  intro X hP hw hK hc i pins s σ H E I hf st hg
  subst hP hw hK
  obtain ⟨hz,hTI,⟨a,b',hTO⟩,h1,h2⟩:=st
  obtain ⟨xs,ys,x,y,p1,p2,hx,hy⟩:=hg
  obtain ⟨its1,rv1,k1⟩:=I.seqC p1
  obtain ⟨its2,rv2,k2⟩:=I.seqC p2
  obtain ⟨u,hu,ru⟩:=rv1.get hx
  obtain ⟨v,hv,rw'⟩:=rv2.get hy
  have hnT:H s.heap.objs.size=none:=I.fresh
  refine qM D n1 hz hTI hTO (I.ok.hd hc) h1 h2 k1 k2 (x:=u) (y:=v) (by simpa using hu) (by simpa using hv) fun h' tk zo TO' t1 t2 T' sz keep=>?_
  refine ⟨(),wpAny_letOwnedTupleGo_zip (s:={ s with heap:=h',toks:=tk }) zo fun h2' z2 s2=>?_⟩
  have zlt:z<s.heap.objs.size:=Heap.lt_size hz
  have TOlt:TO<s.heap.objs.size:=Heap.lt_size hTO
  have TIlt:TI<s.heap.objs.size:=Heap.lt_size hTI
  have i1lt:i1<s.heap.objs.size:=let ⟨_,e,_⟩:=h1.some;Heap.lt_size e
  have i2lt:i2<s.heap.objs.size:=let ⟨_,e,_⟩:=h2.some;Heap.lt_size e
  have hT2:h2'.get? s.heap.objs.size=some { cls:=.type "tuple",data:=.seq #[u,v] }:=(s2.2 _ (Nat.ne_of_gt zlt)).trans T'
  refine ⟨.ref s.heap.objs.size,aH H s.heap.objs.size (.tup [x,y]),I.turnedNew (ch:=[z,TO,i1,i2,TI]) (t':=tk) hf (fun b o hb q=>?_) (Nat.le_refl _) ?_,rfl,
   ⟨_,x,y,hnT,rfl,rfl,fun zs hs=>by rw [I.seqC_inj hs p1];exact hx,fun zs hs=>by rw [I.seqC_inj hs p2];exact hy⟩,⟨z2,(s2.2 _ D.a1).trans (keep _ _ D.a1 D.a5 D.a6 D.a7 hTI),⟨_,_,(s2.2 _ D.a2).trans TO'⟩,t1.at fun o e=>(s2.2 _ D.a3).trans e,t2.at fun o e=>(s2.2 _ D.a4).trans e⟩,fun b hb=>?_⟩
  ·have e1:b≠z:=fun q=>hb (by simp [q])
   have e2:b≠TO:=fun q=>hb (by simp [q])
   have e3:b≠i1:=fun q=>hb (by simp [q])
   have e4:b≠i2:=fun q=>hb (by simp [q])
   exact (s2.2 b e1).trans (keep b o e1 e2 e3 e4 q)
  ·exact ⟨by show 2≤sizeLine;decide,[u,v],.cons ru (.cons rw' .nil),⟨_,hT2,rfl,()⟩,_,hT2,rfl⟩
  ·have hb':b=z∨b=TO∨b=i1∨b=i2∨b=TI:=by simpa using hb
   have hlt:b<s.heap.objs.size:=by rcases hb' with rfl | rfl | rfl | rfl | rfl <;> assumption
   rw [ao (Nat.ne_of_lt hlt)]
   exact (hf b hb).1
 done:=by
  intro X hP hw hK hc i pins s σ H E I hf st hg
  subst hP hw hK
  obtain ⟨hz,hTI,⟨a,b',hTO⟩,h1,h2⟩:=st
  obtain ⟨xs,ys,p1,p2,hl⟩:=hg
  obtain ⟨its1,rv1,k1⟩:=I.seqC p1
  obtain ⟨its2,rv2,k2⟩:=I.seqC p2
  have l1:=rv1.length
  have l2:=rv2.length
  refine sw (I.ok.hd hc) D n1 hz hTI hTO h1 h2 k1 k2 (by simp;trivial) fun h' tk keep=>⟨rfl,I.turnedL (ch:=[z,TO,i1,i2,TI]) (t':=tk) hf fun b o hb q=>?_⟩
  exact keep b o (fun q=>hb (by simp [q])) (fun q=>hb (by simp [q])) (fun q=>hb (by simp [q])) (fun q=>hb (by simp [q])) q
 self:=fun _ _ _ _ _ st h=>wpAny_pyIter_zip st.1 h
def BG (K:PySem.W.Frag) (ta:TA):TI:=fun σ H R=>ta σ H fun vs H1=>mW fun a1 a2 c1 c2=>vs=[.ref a1,.ref a2]∧(∃xs,iL K H1 a1 xs c1)∧(∃ys,iL K H1 a2 ys c2)∧R (uO K a1 a2 c1 c2) H1
theorem yp:bootBuiltins "zip" = some (.type "zip"):=by nofun
theorem Cl {X:Cx}{es:List Expr}{kk:Nat}{tp:Pos}{a b:Expr}{ta:TA}{p pos:Pos} (hg:Gl X "zip") (hm:X.mg "zip" = none) (ha:PA X [a,b] ta) (hs:starEach [a,b] X.env=[(false,eval a X.env),(false,eval b X.env)]:=by rfl) (hs2:starEach [b] X.env=[(false,eval b X.env)]:=by rfl) :
 PI X (.Tuple es kk tp) (.Call (.Name "zip" p) [a,b] [] pos) (BG X.K ta):=by
 intro pins s σ H R I h
 refine Call_ (kO I hg hm yp (PyProof.Rows.callWith_type1 (aO (ha pos pins s σ H _ I h) fun us s1 ⟨vs,H1,I1,r1,q1⟩=>?_) (by rw [hs,hs2]) (by rw [hs2];rfl)))
 obtain ⟨a1,a2,c1,c2,rfl,⟨xs,p1⟩,⟨ys,p2⟩,q⟩:=q1
 obtain ⟨u1,u2,rfl,ru1,ru2⟩:=r1.two
 obtain rfl:u1=.ref a1:=ru1
 obtain rfl:u2=.ref a2:=ru2
 obtain ⟨its1,rv1,k1⟩:=I1.seqC p1
 obtain ⟨its2,rv2,k2⟩:=I1.seqC p2
 have d1:=k1.lt
 have d2:=k2.lt
 refine xI k1 k2 fun h' hz hTI hTO t1 t2 hk=>wpAny_pyIter_zip hz ?_
 have I2:ad X pins σ H1 { s1 with heap:=h',toks:=s1.toks }:=I1.kept hk
 refine ⟨s1.heap.objs.size+4,[s1.heap.objs.size+4,s1.heap.objs.size+3,s1.heap.objs.size,s1.heap.objs.size+1,s1.heap.objs.size+2],_,_,H1,rfl,I2,ye a1 a2 (s1.heap.objs.size+4) (s1.heap.objs.size+2) (s1.heap.objs.size+3) s1.heap.objs.size (s1.heap.objs.size+1) c1 c2
  ⟨by simp,by simp,Nat.ne_of_lt (by simp),by simp,by simp,Nat.ne_of_gt (by simp),by simp,Nat.ne_of_gt (by simp),by simp,Nat.ne_of_lt (by simp)⟩ (fun c hc=>?_),⟨hz,hTI,⟨_,_,hTO⟩,t1,t2⟩,fun b hb=>?_,q⟩
 ·have:c<s1.heap.objs.size:=by rcases hc with rfl | rfl <;> assumption
  exact ⟨Nat.ne_of_lt (Nat.lt_of_lt_of_le this (Nat.le_add_right _ _)),Nat.ne_of_lt (Nat.lt_of_lt_of_le this (Nat.le_add_right _ _)),Nat.ne_of_lt this,Nat.ne_of_lt (Nat.lt_of_lt_of_le this (Nat.le_add_right _ _))⟩
 ·have hb':b=s1.heap.objs.size+4∨b=s1.heap.objs.size+3∨b=s1.heap.objs.size∨b=s1.heap.objs.size+1∨b=s1.heap.objs.size+2:=by simpa using hb
  have hle:s1.heap.objs.size≤b:=by rcases hb' with rfl | rfl | rfl | rfl | rfl <;> trivial
  exact I1.fpOk hle (I1.hok.fresh hle)
def tV:PyData→Bool
 | .list _=>true
 | .tuple _=>true
 | _=>false
theorem gv {K:PySem.W.Frag} (d:PyData):PySem.W.kitAny K (.type (tL d)) [.type "list",.type "tuple"]=some (tV d):=by
 unfold PySem.W.kitAny PySem.W.kitAny PySem.W.kitAny
 rw [kD,ju]
 cases d <;> rfl
inductive AZ (K:PySem.W.Frag) (xs:List V) (H:Hp) (Q:VK):Prop
 | mk (x:V) (p:Addr) (d:PyData) (E:Addr→Prop) (h0:xs=[x,.ref p]) (h1:aD E H x d) (h2:ah K H p [.ty "list",.ty "tuple"]) (h3:Q (.bl (tV d)) H)
def zj (K:PySem.W.Frag):List V→Hp→VK→Prop:=fun xs H Q=>AZ K xs H Q
section
variable {X:Cx}{K:PySem.W.Frag}
theorem tN:cU X (.builtin "isinstance") (zj X.K):=by
 intro pins s σ H xs us Q I r h
 obtain ⟨x,p,d,E,rfl,hx,hp,q⟩:=h
 obtain ⟨u,c,rfl,ru,rc⟩:=r.two
 obtain rfl:c=Value.ref p:=rc
 obtain ⟨its,rv,⟨o,e1,e2,n,e3⟩,_⟩:=I.tuple hp
 obtain ⟨u1,u2,rfl,r1,r2⟩:=rv.two
 obtain rfl:u1=Value.type "list" := r1
 obtain rfl:u2=Value.type "tuple" := r2
 have q':∀tk,EP X pins σ Q (.bool (tV d)) { s with toks:=tk }:=fun tk=>⟨.bl _,H,I.tok tk,rfl,q⟩
 obtain ⟨oc,od,odt,osl⟩:=o
 dsimp only at e2 e3
 subst e2 e3
 cases hx with
 | non=>cases (show u=Value.none from ru);exact PySem.W.kia_tup PySem.W.kitx_none I.kIn True.intro e1 (gv .none) (fun z=>nomatch z) q'
 | bl y=>cases (show u=Value.bool y from ru);exact PySem.W.kia_tup PySem.W.kitx_bool I.kIn True.intro e1 (gv (.bool y)) (fun z=>nomatch z) q'
 | int i=>obtain ⟨t,w⟩:=(show ∃t,u=Value.int i t from ru);cases w;exact PySem.W.kia_tup PySem.W.kitx_int I.kIn True.intro e1 (gv (.int i)) (fun z=>nomatch z) q'
 | str y=>obtain ⟨t,w⟩:=(show ∃t,u=Value.str y t from ru);cases w;exact PySem.W.kia_tup PySem.W.kitx_str I.kIn True.intro e1 (gv (.str y)) (fun z=>nomatch z) q'
 | @lst a xs ds ea _ _=>
  cases (show u=Value.ref a from ru)
  obtain ⟨_,_,m,_,h1⟩:=(show bi X.prog X.w H s.heap a (.lst xs) from I.hok a _ ea)
  exact PySem.W.kia_tup PySem.W.kitx_list I.kIn ⟨_,h1,rfl⟩ e1 (gv (.list ds)) (fun z=>nomatch z) q'
 | @tup a xs ds ea _=>
  cases (show u=Value.ref a from ru)
  obtain ⟨_,_,_,p,_⟩:=(show bi X.prog X.w H s.heap a (.tup xs) from I.hok a _ ea)
  obtain ⟨o,h1,h2,_⟩:=p
  exact PySem.W.kia_tup PySem.W.kitx_tuple I.kIn ⟨o,h1,h2⟩ e1 (gv (.tuple ds)) (fun z=>nomatch z) q'
theorem xb (e:X.K=K:=by rfl):cU X (.builtin "isinstance") (zj K):=by subst e;exact tN
end
def Sz (m:Nat) (i:Int):Prop:=i.natAbs<2 ^ m
theorem Sz.log {m:Nat}{i:Int} (h:Sz m i) (h0:i≠0):i.natAbs.log2<m:=(Nat.log2_lt (by trivial)).mpr h
section
variable {X:Cx}
end
theorem At {K:PySem.W.Frag}{a1 a2:Addr}{c1 c2:Bool}{xs ys:List V}{n:Nat}{g:TG}{tb:TS}{D:cZ}{σ:St}{H:Hp} (Pv:Nat→St→Hp→Prop) (hn:n=min xs.length ys.length) (h0:Pv 0 σ H) (hl:∀i σ H,i≤n→Pv i σ H→iL K H a1 xs c1∧iL K H a2 ys c2)
 (hs:∀i x y T σ H,xs[i]?=some x→ys[i]?=some y→H T=none→Pv i σ H→g (.ref T) σ (aH H T (.tup [x,y])) fun σ2 H2=>tb { D with nx:=Pv (i+1),ct:=Pv (i+1),bk:=D.nx } σ2 H2) (hd:∀σ H,Pv n σ H→D.nx σ H) :
 ∃W:Nat→Nat→St→Hp→Prop,(∃m,W 0 m σ H)∧∀i m σ H,W i m σ H→
  ((uO K a1 a2 c1 c2).stop i H∧D.nx σ H)∨((uO K a1 a2 c1 c2).go i H∧∃N:St→Hp→Prop,(∀σ' H',N σ' H'→∃m',m'<m∧W (i+1) m' σ' H')∧∀x H',(uO K a1 a2 c1 c2).yld i H x H'→g x σ H' fun σ2 H2=>tb { D with nx:=N,ct:=N,bk:=D.nx } σ2 H2):=by
 refine ⟨fun i m σ H=>m=n - i∧i≤n∧Pv i σ H,⟨n,by simp,Nat.zero_le _,h0⟩,?_⟩
 rintro i m σ H ⟨rfl,hi,p⟩
 obtain ⟨q1,q2⟩:=hl i σ H hi p
 by_cases hlt:i<n
 ·have l1:i<xs.length:=by trivial
  have l2:i<ys.length:=by trivial
  refine .inr ⟨⟨xs,ys,xs[i],ys[i],q1,q2,by simp [l1],by simp [l2]⟩,Pv (i+1),fun σ' H' p'=>⟨n - (i+1),by trivial,rfl,hlt,p'⟩,fun x H' y=>?_⟩
  obtain ⟨T,u,v,hT,rfl,rfl,e1,e2⟩:=y
  exact hs i u v T σ H (e1 xs q1) (e2 ys q2) hT p
 ·have e:i=n:=by trivial
  subst e
  refine .inl ⟨⟨xs,ys,q1,q2,?_⟩,hd _ _ p⟩
  trivial
def Dp:Nat→PyData→Prop
 | 0,_=>False
 | n+1,.list xs=>xs.length≤1000∧∀x∈xs,Dp n x
 | n+1,.tuple xs=>xs.length≤1000∧∀x∈xs,Dp n x
 | _+1,_=>True
inductive z9 (n:Nat) (vs:List V) (H:Hp) (Q:VK):Prop
 | mk (x y:V) (d:PyData) (E:Addr→Prop) (h0:vs=[x,y]) (h1:aD E H x d) (h2:aD E H y d) (h3:Dp n d) (h4:∀H',ag H H'→Q (.bl true) H')
def A9 (n:Nat):Sp:=fun vs H Q _=>z9 n vs H Q
theorem dU {H H':Hp}{D:Addr}{o:HO} (hD:H D=none) (k:ag H H'):ag H (aH H' D o):=fun b u e=>by
 rw [ao (aF e hD)];exact k b u e
theorem ay.nth {E:Addr→Prop}{H:Hp}{vs:List V}{ds:List PyData} (r:ay E H vs ds) (i:Nat) {v:V}{d:PyData} (hv:vs[i]?=some v) (hd:ds[i]?=some d):aD E H v d:=by
 obtain ⟨d',e,h⟩:=r.get hv
 rw [hd] at e
 cases e
 exact h
theorem ax.free {b p:Addr}{H H9:Hp}{t9:Int} (s:ax (Eb b) H H9) (B:Bx H9 b t9) (h:H9 p=none):H p=none:=by
 cases e:H p with
 | none=>rfl
 | some o=>
  by_cases hb:p=b
  ·obtain ⟨c,x,eb,_⟩:=B
   rw [←hb,h] at eb;cases eb
  ·rw [s.old p o hb e] at h;cases h
mutual
theorem aD.narrow {E F:Addr→Prop}{H:Hp} (k:∀a,F a→E a):∀{v:V}{d:PyData},aD E H v d→aD F H v d
 | _,_,.non=>.non
 | _,_,.bl b=>.bl b
 | _,_,.int i=>.int i
 | _,_,.str x=>.str x
 | _,_,.lst h ne r=>.lst h (fun z=>ne (k _ z)) (ay.narrow k r)
 | _,_,.tup h r=>.tup h (ay.narrow k r)
theorem ay.narrow {E F:Addr→Prop}{H:Hp} (k:∀a,F a→E a):∀{vs:List V}{ds:List PyData},ay E H vs ds→ay F H vs ds
 | _,_,.nil=>.nil
 | _,_,.cons h r=>.cons (aD.narrow k h) (ay.narrow k r)
end
theorem oZ {Q:VK}{H:Hp}{x:V} (h:Q (.bl true) H):Q (.bl (decide (x=x))) H:=by rw [decide_eq_true rfl];exact h
theorem oO (n:Nat):(List.replicate n true).all id=true:=by
 induction n with
 | zero=>rfl
 | succ n ih=>rw [List.replicate_succ,List.all_cons,ih];rfl
theorem ub (n:Nat):(List.replicate n true).map V.bl++[V.bl true]=(List.replicate (n+1) true).map V.bl:=by
 rw [List.replicate_succ',List.map_append];rfl
def zd (H1:Hp) (D:Addr) (i:Nat) (H':Hp) (ys:List V):Prop:=ys=(List.replicate i true).map V.bl∧H' D=some (.lst ys)∧ag H1 H'
theorem oW {x:V}{A B:Prop} (h:B):if (!decide (x=x))=true then A else B:=by rw [decide_eq_true rfl];exact aP h
theorem o0 {x:V}{A B:Prop} (h:A):if decide (x=x)=true then A else B:=by rw [decide_eq_true rfl];exact aZ h
abbrev fr (z:Int×Int):HO:=.tup [.int z.1,.int z.2]
structure Nw (H:Hp) (p:Addr) (o:HO) (H':Hp):Prop where
 fr:H p=none
 sm:ag H H'
 at':H' p=some o
theorem Nw.mk' {H:Hp}{p:Addr}{o:HO} (h:H p=none):Nw H p o (aH H p o):=⟨h,ag.new h,au⟩
section
variable {X:Cx}{es:List Expr}{t:TA}{pos:Pos}{K:PySem.W.Frag}
def CZ (t:TA):TE:=fun σ H Q=>t σ H fun xs H1=>xs.length≤10000∧∀p H',Nw H1 p (.tup xs) H'→Q (.ref p) H'
def CV (t:TA):TE:=fun σ H Q=>t σ H fun xs H1=>xs.length≤10000∧∀p H',Nw H1 p (.lst xs) H'→Q (.ref p) H'
theorem gZ {n:Nat} (h:n≤10000):n≤sizeLine:=by rw [sizeLine_eq];trivial
theorem aw {x1} (h:PA X es t):PE X (.Tuple es x1 pos) (CZ t):=by
 intro pins s σ H Q I hq
 refine wpAny_Tuple_spliced (aO (h pos pins s σ H _ I hq) fun us s1 ⟨xs,H1,I1,r,z',q⟩=>⟨by rw [←r.length];exact gZ z',?_⟩)
 have z:=gZ z'
 have hf:H1 s1.heap.objs.size=none:=I1.hok.fresh (Nat.le_refl _)
 refine ⟨.ref s1.heap.objs.size,aH H1 s1.heap.objs.size (.tup xs),I1.laid (t':=s1.toks) (fun b u e=>Heap.get?_push_of_some _ e) (Nat.le_refl _) ?_,rfl,q _ _ (.mk' hf)⟩
 exact ⟨z,us,r,⟨_,Heap.get?_push_size _ rfl,rfl,()⟩,_,Heap.get?_push_size _ rfl,rfl⟩
theorem bR (h:PA X es t):PE X (.List es pos) (CV t):=by
 intro pins s σ H Q I hq
 refine wpAny_List_spliced (aO (h pos pins s σ H _ I hq) fun us s1 ⟨xs,H1,I1,r,z',q⟩=>⟨by rw [←r.length];exact gZ z',?_⟩)
 have z:=gZ z'
 have hf:H1 s1.heap.objs.size=none:=I1.hok.fresh (Nat.le_refl _)
 refine ⟨.ref s1.heap.objs.size,aH H1 s1.heap.objs.size (.lst xs),I1.laid (t':=s1.toks) (fun b u e=>Heap.get?_push_of_some _ e) (Nat.le_refl _) ?_,rfl,q _ _ (.mk' hf)⟩
 exact ⟨z,us,0,r,Heap.get?_push_size _ rfl⟩
inductive BQ (x:V) (y:V) (H:Hp) (Q:VK):Prop
 | mk (l:_) (b:_) (xs:_) (zs:_) (h0:x=.ref l) (h1:y=.ref b) (h2:H l=some (.lst xs)) (h3:H b=some (.lst zs)) (h4:xs.length+zs.length≤10000) (h5:∀p H',Nw H p (.lst (xs++zs)) H'→Q (.ref p) H')
def Dw:R2:=fun x y H Q=>BQ  x y H Q
theorem zy:cF X (binaryOp .Add) Dw:=fun pins s σ H x y v u Q I rx ry ⟨l,b,xs,zs,e1,e2,h1,h2,hz,q⟩=>
 BI pins s σ H x y v u Q I rx ry ⟨l,b,xs,zs,e1,e2,h1,h2,gZ hz,fun p hp=>q p _ (.mk' hp)⟩
inductive Dn (K:PySem.W.Frag) (x:V) (lo:Option Int) (hi:Option Int) (H:Hp) (Q:VK):Prop
 | mk (a:_) (xs:_) (h0:x=.ref a) (h1:af K H a xs) (h2:∀p H',Nw H p (.lst (fU xs lo hi)) H'→Q (.ref p) H')
def EO (K:PySem.W.Frag):V→Option Int→Option Int→Hp→VK→Prop:=fun x lo hi H Q=>Dn K x lo hi H Q
theorem uu (e:X.K=K:=by rfl):xp X (EO K):=by
 subst e
 exact fun pins s σ H x v vl vu lo hi sl Q I rx hs pl pu ⟨a,xs,e,h,q⟩=>Ae pins s σ H x v vl vu lo hi sl Q I rx hs pl pu ⟨a,xs,e,h,fun p hp=>q p _ (.mk' hp)⟩
inductive AO (K:PySem.W.Frag) (xs:List V) (H:Hp) (Q:VK):Prop
 | mk (p:_) (ys:_) (h0:xs=[.ref p]) (h1:(af K H p ys∨ah K H p ys)) (h2:∀l H',Nw H l (.lst ys) H'→Q (.ref l) H')
def A3 (K:PySem.W.Frag):List V→Hp→VK→Prop:=fun xs H Q=>AO K xs H Q
theorem cx (e:X.K=K:=by rfl):cU X (.type "list") (A3 K):=by
 subst e
 exact fun pins s σ H xs us Q I r ⟨p,ys,e,h,q⟩=>tw pins s σ H xs us Q I r ⟨p,ys,e,h,fun l hl=>q l _ (.mk' hl)⟩
inductive xX (K:PySem.W.Frag) (xs:List V) (H:Hp) (Q:VK):Prop
 | mk (p:_) (ys:_) (h0:xs=[.ref p]) (h1:af K H p ys) (h2:∀l H',Nw H l (.tup ys) H'→Q (.ref l) H')
def AH (K:PySem.W.Frag):List V→Hp→VK→Prop:=fun xs H Q=>xX K xs H Q
theorem iX (e:X.K=K:=by rfl):cU X (.type "tuple") (AH K):=by
 subst e
 exact fun pins s σ H xs us Q I r ⟨p,ys,e,h,q⟩=>sG pins s σ H xs us Q I r ⟨p,ys,e,.inl ⟨h,fun l hl=>q l _ (.mk' hl)⟩⟩
end
structure Ch (H:Hp) (p:Addr) (xs:List V) (H':Hp):Prop where
 at':H' p=some (.lst xs)
 ol:∀a o,a≠p→H a=some o→H' a=some o
 fre:∀a,a≠p→H a=none→H' a=none
theorem Ch.mk' {H:Hp}{p:Addr}{xs:List V}:Ch H p xs (aH H p (.lst xs)):=⟨au,fun a o n h=>by rw [ao n];exact h,fun a n h=>by rw [ao n];exact h⟩
theorem Ch.tup {H H':Hp}{p a:Addr}{xs ys zs:List V} (c:Ch H p xs H') (h:H a=some (.tup ys)) (hp:H p=some (.lst zs)):H' a=some (.tup ys):=c.ol a _ (mJ h hp (by intro z;cases z)) h
section
variable {X:Cx}
inductive BA (o:V) (i:V) (v:V) (H:Hp) (Q:(Hp→Prop)):Prop
 | mk (p:_) (xs:_) (k:_) (j:_) (h0:o=.ref p) (h1:i=.int k) (h2:H p=some (.lst xs)) (h3:kU xs.length k=some j) (h4:∀H',Ch H p (xs.set j v) H'→Q H')
def DU:V→V→V→Hp→(Hp→Prop)→Prop:=fun o i v H Q=>BA  o i v H Q
theorem sd:wz X DU:=fun pins s σ H o i v ov iv u Q I ro ri rv ⟨p,xs,k,j,e1,e2,h,hj,q⟩=>pU pins s σ H o i v ov iv u Q I ro ri rv ⟨p,xs,k,j,e1,e2,h,hj,q _ .mk'⟩
inductive B0 (x:V) (vs:List V) (H:Hp) (Q:VK):Prop
 | mk (l:_) (xs:_) (y:_) (h0:x=.ref l) (h1:vs=[y]) (h2:H l=some (.lst xs)) (h3:xs.length≤10000) (h4:∀H',Ch H l (xs++[y]) H'→Q .non H')
def zb:V→List V→Hp→VK→Prop:=fun x vs H Q=>B0  x vs H Q
theorem bP:vm X "list.append" zb:=fun pins s σ H x vs v us Q I rx rv ⟨l,xs,y,e1,e2,h,hz,q⟩=>rQ pins s σ H x vs v us Q I rx rv ⟨l,xs,y,e1,e2,h,(by rw [sizeLine_eq];trivial),q _ .mk'⟩
end
theorem Bx.ch {H H':Hp}{b p:Addr}{t:Int}{xs:List V} (h:Bx H b t) (k:Ch H p xs H') (ne:b≠p):Bx H' b t:=by
 obtain ⟨c,x,e,q,q2,q3⟩:=h
 exact ⟨c,x,k.ol b _ ne e,q,q2,q3⟩
theorem Bx.ne {H:Hp}{b p:Addr}{t:Int} (h:Bx H b t) (hp:H p=none):b≠p:=fun z=>by
 obtain ⟨c,x,e,_⟩:=h
 rw [z,hp] at e;cases e
section
variable {X:Cx}{e:Expr}{te:TE}{st:Expr}{ts:TO}{p2 pos:Pos}{K:PySem.W.Frag}
end
def S (l:List Nat):Str:=⟨l.toArray⟩
theorem zf {a b:List Nat} (h:S a=S b):a=b:=by
 have:a.toArray=b.toArray:=by injection h
 simpa using this
theorem vY (a b:List Nat):S a++S b=S (a++b):=by
 show (⟨a.toArray++b.toArray⟩:Str)=⟨(a++b).toArray⟩
 simp
theorem sQ (a:List Nat):(S a).length=a.length:=by
 show a.toArray.size=_
 simp
theorem Bm (a:List Nat):(S a).cps.toList=a:=rfl
theorem xo (k:Nat) (l:List Nat):∀acc:List Nat,(List.replicate k l.toArray).foldl (·++·) acc.toArray=(acc++(List.replicate k l).flatten).toArray:=by
 induction k with
 | zero=>intro acc;simp
 | succ k ih=>
  intro acc
  rw [List.replicate_succ,List.foldl_cons,List.replicate_succ,List.flatten_cons]
  have:acc.toArray++l.toArray=(acc++l).toArray:=by simp
  rw [this,ih,List.append_assoc]
theorem rW:∀ls:List (List Nat),Str.join (S []) (ls.map S)=S ls.flatten
 | []=>rfl
 | [a]=>by
  show S a=S (a++[])
  rw [List.append_nil]
 | a :: b :: r=>by
  have e:Str.join (S []) ((a :: b :: r).map S)=S a++S []++Str.join (S []) ((b :: r).map S):=rfl
  rw [e,rW (b :: r),vY,vY,List.append_nil]
  rfl
section
variable {X:Cx}{K:PySem.W.Frag}
inductive A5 (x:V) (y:V) (H:Hp) (Q:VK):Prop
 | mk (l:_) (n:_) (h0:x=.str (S l)) (h1:y=.int n) (h2:1≤n) (h3:n≤1000) (h4:l.length≤100) (h5:Q (.str (S (List.replicate n.toNat l).flatten)) H)
def Do:R2:=fun x y H Q=>A5  x y H Q
theorem AS:cF X (binaryOp .Mult) Do:=by
 intro pins s σ H x y v u Q I rx ry h
 obtain ⟨l,n,rfl,rfl,h1,h2,h3,q⟩:=h
 obtain ⟨t,rfl⟩:=rx
 obtain ⟨t',rfl⟩:=ry
 have hlen:(S l).length=l.length:=sQ l
 have hmul:l.length*n.toNat≤100*1000:=Nat.mul_le_mul h3 (by trivial)
 refine PySem.P.mul_str ?_ ?_ ?_ ?_
 ·rw [decide_eq_false (by trivial),decide_eq_false (by trivial)];rfl
 ·intro _ _
  rw [hlen]
  have:(100:Int)<(2 ^ 63 - 1) / n:=by
   have:(100+1)*n≤2 ^ 63 - 1:=by trivial
   have:=(Int.le_ediv_iff_mul_le (by trivial:0<n)).mpr this
   trivial
  trivial
 ·intro _ _
  rw [hlen]
  unfold Builtin.Str.tooLong
  rw [decide_eq_false]
  rw [sizeLine_eq]
  trivial
 ·rw [if_neg (by trivial)]
  by_cases hn:(n==1 || (S l).length==0)=true
  ·rw [if_pos hn]
   refine ⟨.str (S l),H,I,⟨t,rfl⟩,?_⟩
   have e:(List.replicate n.toNat l).flatten=l:=by
    rw [hlen] at hn
    have hn':n=1∨l.length=0:=by simpa using hn
    rcases hn' with rfl | hn'
    ·simp
    ·have:l=[]:=List.eq_nil_of_length_eq_zero hn'
     subst this
     simp
   rw [e] at q
   exact q
  ·rw [if_neg hn]
   have e:(⟨(List.replicate n.toNat (S l).cps).foldl (·++·) #[]⟩:Str)=S (List.replicate n.toNat l).flatten:=by
    have e:=xo n.toNat l []
    rw [List.nil_append] at e
    exact congrArg Str.mk e
   rw [e]
   refine ⟨?_,.str (S (List.replicate n.toNat l).flatten),H,I.tok _,⟨()⟩,q⟩
   rw [sQ,Af,sizeLine_eq,Nat.mul_comm]
   trivial
inductive BB (K:PySem.W.Frag) (x:V) (vs:List V) (H:Hp) (Q:VK):Prop
 | mk (a:_) (ls:_) (h0:x=.str (S [])) (h1:vs=[.ref a]) (h2:af K H a ((ls:List (List Nat)).map fun l=>V.str (S l))) (h3:(ls.map (·.length)).sum≤10000) (h4:Q (.str (S ls.flatten)) H)
def Dx (K:PySem.W.Frag):V→List V→Hp→VK→Prop:=fun x vs H Q=>BB K x vs H Q
theorem wY {ls:List (List Nat)}:∀{us:List Value},av (ls.map fun l=>V.str (S l)) us→StrsAre us (ls.map S):=by
 induction ls with
 | nil=>intro us h;cases h;exact .nil
 | cons l r ih=>
  intro us h
  cases h with
  | cons h t=>
   obtain ⟨tk,rfl⟩:=h
   exact .cons _ _ (ih t)
theorem AL (ek:X.K=K:=by rfl):tJ X "str.join" (Dx K):=by
 subst ek
 intro pins s σ H x vs v us Q I rx rv h
 obtain ⟨a,ls,rfl,rfl,hS,hz,q⟩:=h
 obtain ⟨t,rfl⟩:=rx
 obtain ⟨u,rfl,ru⟩:=rv.one
 obtain rfl:u=Value.ref a:=ru
 obtain ⟨its,r,ht,_⟩:=I.list hS
 have e1:((ls.map S).map (·.length)).sum=(ls.map (·.length)).sum:=by
  rw [List.map_map]
  congr 1
 refine join_list (ys:=ls.map S) ht.isList (by simpa using wY r) ?_ fun t' k=>?_
 ·rw [e1,show (S []).length=0 from rfl]
  trivial
 ·have:=join_plain_closes (S []) (ls.map S)
  rw [eq_of_beq this,rW]
  exact ⟨.str (S ls.flatten),H,I.tok k,⟨()⟩,q⟩
inductive Cq (x:V) (y:V) (H:Hp) (Q:VK):Prop
 | mk (a:_) (b:_) (h0:x=.str (S a)) (h1:y=.str (S b)) (h2:a.length+b.length≤10000) (h3:Q (.str (S (a++b))) H)
def Dv:R2:=fun x y H Q=>Cq  x y H Q
theorem Aw:cF X (binaryOp .Add) Dv:=fun pins s σ H x y v u Q I rx ry ⟨a,b,e1,e2,hz,q⟩=>
 wm pins s σ H x y v u Q I rx ry ⟨S a,S b,e1,e2,by rw [sQ,sQ];exact gZ hz,by rw [vY];exact q⟩
end
theorem vH:Str.ofString "abcdefghijklmnopqrstuvwxyz" = S ((List.range 26).map (97+·)):=by nofun
theorem yk:Str.ofString "" = S []:=by nofun
theorem nj {i:Int} (h0:-26≤i) (h1:i<26):gT ((Str.ofString "abcdefghijklmnopqrstuvwxyz").cps.toList) i=some (97+(i % 26).toNat):=by
 rw [vH,Bm]
 have:∀k:Fin 52,gT ((List.range 26).map (97+·)) ((k.val:Int) - 26)=some (97+(((k.val:Int) - 26) % 26).toNat):=by nofun
 have e:=this ⟨(i+26).toNat,by trivial⟩
 simp only at e
 rw [show (((i+26).toNat:Nat):Int) - 26=i by trivial] at e
 exact e
abbrev bx (l:List Nat):V:=.str (S l)
theorem EL (n c:Nat):(List.replicate n [c]).flatten=List.replicate n c:=by
 induction n with
 | zero=>rfl
 | succ n ih=>rw [List.replicate_succ,List.flatten_cons,ih,List.replicate_succ];rfl
theorem ax.ch {b D:Addr}{H H1 H2:Hp}{xs:List V} (s:ax (Eb b) H H1) (c:Ch H1 D xs H2) (hD:H D=none):ax (Eb b) H H2:=
 ⟨fun a u ne h=>c.ol a u (aF h hD) (s.old a u ne h),fun a us h=>c.ol a _ (aF h hD) (s.tup a us h)⟩
theorem ax.up {b D:Addr}{H H1:Hp}{o:HO} (s:ax (Eb b) H H1) (hD:H D=none):ax (Eb b) H (aH H1 D o):=
 ⟨fun a u ne h=>by rw [ao (aF h hD)];exact s.old a u ne h,fun a us h=>by rw [ao (aF h hD)];exact s.tup a us h⟩
def EN (x:Str):Prop:=x.length≤300∧∀c∈x.cps.toList,c<128
mutual
inductive Wt:PyData→Nat→Nat→Prop
 | non {k:Nat}:Wt .none 1 k
 | bl (b:Bool) {k:Nat}:Wt (.bool b) 1 k
 | int {i:Int} (h:Sz 1900 i) {k:Nat}:Wt (.int i) 1 k
 | str {x:Str} (h:EN x) {k:Nat}:Wt (.str x) 1 k
 | list {xs:List PyData}{n k:Nat} (h:jr xs n k):Wt (.list xs) (n+1) (k+1)
 | tuple {xs:List PyData}{n k:Nat} (h:jr xs n k):Wt (.tuple xs) (n+1) (k+1)
inductive jr:List PyData→Nat→Nat→Prop
 | nil {k:Nat}:jr [] 0 k
 | cons {x:PyData}{xs:List PyData}{m n k:Nat} (h:Wt x m k) (r:jr xs n k):jr (x :: xs) (m+n) k
end
mutual
theorem Wt.dep:∀{d:PyData}{n k:Nat},Wt d n k→d.depth≤k
 | _,_,_,.non=>by simp [PyData.depth]
 | _,_,_,.bl b=>by simp [PyData.depth]
 | _,_,_,.int h=>by simp [PyData.depth]
 | _,_,_,.str h=>by simp [PyData.depth]
 | _,_,_,.list h=>by simp only [PyData.depth];exact Nat.succ_le_succ (jr.dep h)
 | _,_,_,.tuple h=>by simp only [PyData.depth];exact Nat.succ_le_succ (jr.dep h)
theorem jr.dep:∀{ds:List PyData}{n k:Nat},jr ds n k→PyData.depthAll ds≤k
 | _,_,_,.nil=>by simp [PyData.depthAll]
 | _,_,_,.cons h r=>by simp only [PyData.depthAll];exact Nat.max_le.mpr ⟨Wt.dep h,jr.dep r⟩
end
end L2
namespace L2
open PySem PySem.Spec PyProof.Rows
mutual
theorem Wt.can:∀{d:PyData}{n k:Nat},Wt d n k→d.canLay0=true
 | _,_,_,.non=>by simp [PyData.canLay0]
 | _,_,_,.bl b=>by simp [PyData.canLay0]
 | _,_,_,.int h=>by simp [PyData.canLay0]
 | _,_,_,.str (x:=x) h=>by
  simp only [PyData.canLay0]
  unfold PySem.PyData.strOk
  rw [Array.all_eq_true]
  intro i hi
  have:=h.2 x.cps[i] (by simp)
  simp
  trivial
 | _,_,_,.list h=>by simp only [PyData.canLay0];exact jr.can h
 | _,_,_,.tuple h=>by simp only [PyData.canLay0];exact jr.can h
theorem jr.can:∀{ds:List PyData}{n k:Nat},jr ds n k→PyData.canLayAll0 ds=true
 | _,_,_,.nil=>by simp [PyData.canLayAll0]
 | _,_,_,.cons h r=>by simp only [PyData.canLayAll0,Bool.and_eq_true];exact ⟨Wt.can h,jr.can r⟩
end
section
variable {X:Cx}
end
abbrev ED:Addr→Prop:=fun _=>True
abbrev im (p:KM.Fra):PyData:=.tuple [.int p.1,.int p.2]
structure ib where
 bg:List Nat
 en:List Nat
 most:KM.Fra
 gain:KM.Fra
 price:KM.Fra
abbrev gn (t:ib):PyData:=.tuple [.str (S t.bg),.str (S t.en),im t.most,im t.gain,im t.price]
theorem ay.tupS {E:Addr→Prop}{H H':Hp}{v:List V}{d:List PyData} (h:ay ED H v d) (k:ax E H H'):ay ED H' v d:=h.mono ⟨fun _ _ n _=>absurd trivial n,k.tup⟩
theorem aD.tupC {H H':Hp}{v:V}{d:PyData}{p:Addr}{xs ys:List V} (h:aD ED H v d) (k:Ch H p xs H') (hp:H p=some (.lst ys)):aD ED H' v d:=h.mono ⟨fun _ _ n _=>absurd trivial n,fun _ _ e=>k.tup e hp⟩
theorem aD.any {E:Addr→Prop}{H:Hp}{v:V}{d:PyData} (h:aD ED H v d):aD E H v d:=h.narrow fun _ _=>trivial
end L2
namespace L2
open PySem PySem.Spec PyProof.Rows
theorem pI {m:Int} (h0:0<m) (h1:m<1099511627776):m.natAbs.log2<9000:=by
 have a:Sz 40 m:=by show m.natAbs<1099511627776;trivial
 exact Nat.lt_trans (a.log (by trivial)) (by decide)
theorem uQ {α:Type}{xs:List α}{k:Int}{f:α→V} (h0:0≤k) (h:k.toNat<xs.length):gT (xs.map f) k=some (f xs[k.toNat]):=by
 have q:=i3 (xs:=xs.map f) (j:=k.toNat) (v:=f xs[k.toNat]) (by rw [List.getElem?_map];simp [h])
 rwa [Int.toNat_of_nonneg h0] at q
end L2
namespace L2
theorem nS {α:Type}{ls:List α} (h:ls.Nodup) {i j:Nat} (hi:i<ls.length) (hj:j<ls.length) (e:ls[i]=ls[j]):i=j:=by
 have p:=List.pairwise_iff_getElem.mp h
 rcases Nat.lt_trichotomy i j with q | q | q
 ·exact absurd e (p i j hi hj q)
 ·exact q
 ·exact absurd e.symm (p j i hj hi q)
end L2
namespace L2
open PySem PySem.Spec PyProof.Rows
end L2
namespace L2
end L2
namespace L2
open PySem PySem.Spec PyProof.Rows
end L2
namespace L2
open PySem PySem.Spec PyProof.Rows
open AutoSeq1 (wpAny_loadPart')
set_option maxHeartbeats 4000000 in
theorem yH (l:Addr) (its:Array Value) (n:Nat) (dct:Option Addr) (sl:Array (Option Value)) :
 Meets (Builtin.«enumerate.__new__» ⟨[.type "enumerate",.ref l],[]⟩) (fun _ R s=>s.heap.get? l=some { cls:=.type "tuple",dict:=dct,data:=.seq its n,slots:=sl }∧
  R (.ok (.ret (.ref (s.heap.push { cls:=.type "tuple_iterator",data:=.fields #[.ref l,.int 0 0] }).objs.size))) { s with heap:=(s.heap.push { cls:=.type "tuple_iterator",data:=.fields #[.ref l,.int 0 0] }).push { cls:=.type "enumerate",data:=.fields #[.none,.bool false,.ref s.heap.objs.size,rawInt 0,.none,.none] } }):=
 .of_wp fun prog w A R s h=>by
  obtain ⟨hp,g,d,tk,os⟩:=s;obtain ⟨hl,h⟩:=h;have hsub:=sub_enumerate
  have hT:Heap.IsTuple (Shared.heap ⟨hp,g,d,tk,os⟩) l its:=⟨_,hl,rfl,n,rfl⟩
  wp_walk using wpAny_loadPart' hl
  refine wpAny_stack_any fun st=>wpAny_pure ?_;split
  ·rename_i c _ _ _ _ _;cases (c==Value.type "enumerate")
   ·wp_walk using wpAny_loadPart' hl,wpAny_pyIter_tuple hT
    exact ⟨(),h⟩
   ·wp_walk using wpAny_loadPart' hl,wpAny_pyIter_tuple hT
    exact ⟨(),h⟩
  ·wp_walk using wpAny_loadPart' hl,wpAny_pyIter_tuple hT
   exact ⟨(),h⟩
section
variable {prog:Program}{w:World}{A:Around}{E:Value→Shared→Prop}{s:Shared}
theorem wA {l:Addr}{its:Array Value}{Q:Value→Shared→Prop}:∀{c:Bool},fP s.heap l its c→
 (∀h',IsEnum h' (s.heap.objs.size+1) s.heap.objs.size 0 .none→dQ h' s.heap.objs.size l 0 c→(∀b o,s.heap.get? b=some o→h'.get? b=some o)→Q (.ref (s.heap.objs.size+1)) { s with heap:=h' })→
 wpAny (model prog w) A (call (.type "enumerate") [.ref l]) Q E s
 | true,q,h=>call_enumerate_list q fun h' a b _ k=>h h' a b k
 | false,q,h=>by
  obtain ⟨⟨c,dct,dt,sl⟩,hl,hc,n,hd⟩:=q
  dsimp only at hc hd
  subst hc hd
  refine callType_new F.called_enumerate (by decide) (F.typeCall_enumerate_1 _) (F.newCall_enumerate_1 _) (fun obj=>F.args_object_init_2 obj _) F.entry_enumerate_new (yH l its n dct sl) ⟨hl,?_⟩
  have hz:(s.heap.push { cls:=.type "tuple_iterator",data:=.fields #[.ref l,.int 0 0] }).objs.size=s.heap.objs.size+1:=Heap.size_push ..
  show _∧_
  rw [hz]
  have he:IsEnum ((s.heap.push { cls:=.type "tuple_iterator",data:=.fields #[.ref l,.int 0 0] }).push { cls:=.type "enumerate",data:=.fields #[.none,.bool false,.ref s.heap.objs.size,rawInt 0,.none,.none] }) (s.heap.objs.size+1) s.heap.objs.size 0 .none:=by
   rw [←hz];exact Heap.get?_push_size _ rfl
  exact ⟨⟨_,he,rfl⟩,h _ he ⟨_,Heap.get?_push_of_some _ (Heap.get?_push_size _ rfl),rfl,rfl⟩ fun b o e=>Heap.get?_push_of_some _ (Heap.get?_push_of_some _ e)⟩
end
def Bj (K:PySem.W.Frag) (a:Addr) (c:Bool):It:=
 ⟨fun i H=>bw fun xs x=>iL K H a xs c∧xs[i]?=some x,fun i H v H'=>bw fun T x=>H T=none∧v=.ref T∧H'=aH H T (.tup [.int (i:Int),x])∧∀xs,iL K H a xs c→xs[i]?=some x,fun i H=>∃xs,iL K H a xs c∧xs.length=i⟩
theorem wf {P:Program}{w:World}{K:PySem.W.Frag}{es:List Expr}{kk:Nat}{pos:Pos} (a e it:Addr) (c:Bool) (hne:e≠it) (hae:a≠e) (hai:a≠it) :
 qK P w K (.Tuple es kk pos) (Bj K a c) [e,it] e (fun i h=>(∃old,IsEnum h e it i old)∧dQ h it a i c) where
 mem:=by simp
 obj:=fun i h st b hb=>by
  obtain ⟨⟨old,he⟩,hi⟩:=st
  have hb':b=e∨b=it:=by simpa using hb
  rcases hb' with rfl | rfl
  ·exact ⟨_,he,fun v z=>by have z':Data.fields _=Data.cell v:=z;cases z'⟩
  ·exact hi.some
 keep:=fun i h h' st k=>by
  obtain ⟨⟨old,he⟩,hi⟩:=st
  exact ⟨⟨old,k e (by simp) _ he⟩,hi.at fun o q=>k it (by simp) o q⟩
 item:=by
  intro X hP hw hK hc i pins s σ H E I hf st hg
  subst hP hw hK
  obtain ⟨⟨old,he⟩,hit⟩:=st
  obtain ⟨xs,x,hq,hx⟩:=hg
  obtain ⟨its,rv,p⟩:=I.seqC hq
  obtain ⟨u,hu,ru⟩:=rv.get hx
  have hnT:H s.heap.objs.size=none:=I.fresh
  have hiu:i<its.length:=(List.getElem?_eq_some_iff.mp hu).1
  have D:=lO (prog:=X.prog) (w:=X.w) (A:=X.A.in1) (I.ok.hd hc) it a hai its.toArray c
  refine wpAny_pyNext_enum_itemD D he ⟨hit,p⟩ (by simpa using hiu) hne (by simp;exact ⟨hne,Ne.symm hae⟩) fun u' h' tk hP ho st' hT hsz hk=>?_
  have eu:u=u':=by
   have:its.toArray[i]?=some u':=hP
   rw [List.getElem?_toArray,hu] at this
   exact Option.some.inj this
  subst eu
  refine ⟨(),wpAny_letOwnedTupleGo_enum (s:={ s with heap:=h',toks:=tk+1 }) ho fun h'' he'' hs''=>?_⟩
  have helt:e<s.heap.objs.size:=Heap.lt_size he
  have hilt:it<s.heap.objs.size:=let ⟨_,y,_⟩:=hit.some;Heap.lt_size y
  have hT'':h''.get? s.heap.objs.size=some { cls:=.type "tuple",data:=.seq #[.int i tk,u] }:=(hs''.2 _ (Nat.ne_of_gt helt)).trans hT
  refine ⟨.ref s.heap.objs.size,aH H s.heap.objs.size (.tup [.int (i:Int),x]),I.turnedNew (ch:=[e,it]) (t':=tk+1) hf (fun b o hb q=>?_) (Nat.le_refl _) ?_,rfl,⟨_,x,hnT,rfl,rfl,fun ys hy=>by rw [I.seqC_inj hy hq];exact hx⟩,⟨⟨u,?_⟩,st'.1.at fun o q=>(hs''.2 _ (Ne.symm hne)).trans q⟩,fun b hb=>?_⟩
  ·have h1:b≠e:=fun z=>hb (by simp [z])
   have h2:b≠it:=fun z=>hb (by simp [z])
   exact (hs''.2 b h1).trans (hk b o h1 h2 q)
  ·exact ⟨by show 2≤sizeLine;decide,[.int i tk,u],.cons ⟨()⟩ (.cons ru .nil),⟨_,hT'',rfl,()⟩,_,hT'',rfl⟩
  ·simpa using he''
  ·have hb':b=e∨b=it:=by simpa using hb
   have hlt:b<s.heap.objs.size:=by rcases hb' with rfl | rfl <;> assumption
   rw [ao (Nat.ne_of_lt hlt)]
   exact (hf b hb).1
 done:=by
  intro X hP hw hK hc i pins s σ H E I hf st hg
  subst hP hw hK
  obtain ⟨⟨old,he⟩,hit⟩:=st
  obtain ⟨xs,hq,hx⟩:=hg
  obtain ⟨its,rv,p⟩:=I.seqC hq
  have hl:=rv.length
  have D:=lO (prog:=X.prog) (w:=X.w) (A:=X.A.in1) (I.ok.hd hc) it a hai its.toArray c
  have ei:i=its.toArray.size:=by simp;trivial
  refine wpAny_pyNext_enum_endD D he (by rw [ei] at hit;exact ⟨hit,p⟩) fun h' eb=>⟨rfl,I.turnedL (ch:=[e,it]) (t':=s.toks) hf fun b o hb q=>eb b o (fun z=>hb (by simp [z])) q⟩
 self:=fun _ _ _ _ _ st h=>by
  obtain ⟨⟨old,he⟩,_⟩:=st
  exact wpAny_pyIter_enum he h
def Be (K:PySem.W.Frag) (ta:TA):TI:=fun σ H R=>ta σ H fun vs H1=>bw fun a c=>vs=[.ref a]∧(∃xs,iL K H1 a xs c)∧R (Bj K a c) H1
theorem yW {X:Cx}{K:PySem.W.Frag}{es:List Expr}{kk:Nat}{tp:Pos}{a:Expr}{ta:TA}{p pos:Pos} (hg:Gl X "enumerate") (hm:X.mg "enumerate" = none) (ha:PA X [a] ta) (hs:starEach [a] X.env=[(false,eval a X.env)]:=by rfl) (ek:X.K=K:=by rfl) :
 PI X (.Tuple es kk tp) (.Call (.Name "enumerate" p) [a] [] pos) (Be K ta):=by
 subst ek
 intro pins s σ H R I h
 refine Call_ (kO I hg hm boot_enumerate (PyProof.Rows.callWith_type1 (aO (ha pos pins s σ H _ I h) fun us s1 ⟨vs,H1,I1,r1,q1⟩=>?_) hs rfl))
 obtain ⟨a,c,rfl,⟨xs,hq⟩,q⟩:=q1
 obtain ⟨u,rfl,ru⟩:=r1.one
 obtain rfl:u=.ref a:=ru
 obtain ⟨its,rv,p⟩:=I1.seqC hq
 have d1:=p.lt
 refine wA p fun h' hE hI hk=>wpAny_pyIter_enum hE ?_
 have I2:ad X pins σ H1 { s1 with heap:=h',toks:=s1.toks }:=I1.kept hk
 refine ⟨s1.heap.objs.size+1,[s1.heap.objs.size+1,s1.heap.objs.size],_,_,H1,rfl,I2,wf a (s1.heap.objs.size+1) s1.heap.objs.size c (Nat.succ_ne_self _) (Nat.ne_of_lt (Nat.lt_succ_of_lt d1)) (Nat.ne_of_lt d1),⟨⟨_,hE⟩,hI⟩,fun b hb=>?_,q⟩
 have hb':b=s1.heap.objs.size+1∨b=s1.heap.objs.size:=by simpa using hb
 have hle:s1.heap.objs.size≤b:=by rcases hb' with rfl | rfl <;> trivial
 exact I1.fpOk hle (I1.hok.fresh hle)
section
variable {X:Cx}
end
end L2
namespace L2
open PySem PySem.Spec PyProof.Rows
theorem ay.set {E:Addr→Prop}{H:Hp}{y:V}{d:PyData} (hy:aD E H y d):∀{xs:List V}{ds:List PyData} (i:Nat),ay E H xs ds→ay E H (xs.set i y) (ds.set i d)
 | _,_,_,.nil=>by simp;exact .nil
 | _,_,0,.cons h r=>by simp;exact .cons hy r
 | _,_,i+1,.cons h r=>by simp;exact .cons h (ay.set hy i r)
section
variable {z:Nat}{E:Addr→Prop}{H H':Hp}{n m k:Nat}{v:V}{xs ys:List V}
end
section
variable {X:Cx}
end
end L2
namespace HT
open PySem PySem.Spec PyProof.Rows
section
variable {prog:Program}{w:World}{A:Around}{E:Value→Shared→Prop}{s:Shared}
theorem getItem_tuple_whole {t sl:Addr}{items:Array Value}{vl vu:Value}{lo hi:Option Int}{Q:Value→Shared→Prop} (ht:IsTup s.heap t items) (hs:s.heap.IsSliceOf sl vl vu .none) (pl:IsPart vl lo) (pu:IsPart vu hi)
 (h1:sIx items.size 0 lo=0) (h2:sIx items.size items.size hi=items.size) (h:Q (.ref t) s):wpAny (model prog w) A (getItem (.ref t) (.ref sl)) Q E s:=by
 obtain ⟨os,hos,hcs,hds⟩:=id hs
 have hTs:s.TypeIs (.ref sl) "slice" := ⟨os,hos,hcs⟩
 unfold getItem
 try with_reducible refine wpAny_holding ?_
 first | refine wpAny_bind (wpAny_pure ?_) | skip
 refine wpAny_bind (wpAny_sequenceKey ht.typeIs (by decide) ?_)
 refine wpAny_bind (wpAny_callSpecial?_slot (name:=Str.ofString "__getitem__") ht.typeIs PyProof.Rows.slot_tuple_getitem
  (wpAny_call_entry PyProof.Rows.slot_tuple_getitem ht.typeIs entry_tuple_getitem ?_ (args_tuple_getitem _ _)))
 show wpAny _ _ (Builtin.Tuple.tupleItemsOf (.ref t) >>= _) _ _ s
 refine wpAny_bind (tupleItemsOf_ ht ?_)
 refine wpAny_bind (wpAny_typeOf hTs ?_)
 rw [if_pos (by decide)]
 refine wpAny_bind (ki hs pl pu ?_)
 have hyes:((((sIx items.size 0 lo:Nat):Int)==0 && (1:Int)==1 && (sIx items.size items.size hi - sIx items.size 0 lo)==items.size)=true):=by
  rw [h1,h2];simp
 show wpAny _ _ (if (((sIx items.size 0 lo:Nat):Int)==0 && (1:Int)==1 && (sIx items.size items.size hi - sIx items.size 0 lo)==items.size)=true then _ else _) _ _ s
 rw [if_pos hyes]
 refine wpAny_bind (m:=Builtin.Tuple.tupleIsExact _) (wpAny_bind (wpAny_typeOf ht.typeIs (wpAny_pure ?_)))
 rw [if_pos (by decide)]
 exact wpAny_bind (wpAny_rule (wpAny_pure ⟨(),wpAny_pure h⟩))
end
end HT
namespace L2
open PySem PySem.Spec PyProof.Rows
section
variable {X:Cx}{K:PySem.W.Frag}
inductive A7 (K:PySem.W.Frag) (x:V) (lo:Option Int) (hi:Option Int) (H:Hp) (Q:VK):Prop
 | mk (a:_) (xs:_) (h0:x=.ref a) (h1:ah K H a xs) (h2:H a=some (.tup xs)) (h3:∀p H',ag H H'→H' p=some (.tup (fU xs lo hi))→Q (.ref p) H')
def DG (K:PySem.W.Frag):V→Option Int→Option Int→Hp→VK→Prop:=fun x lo hi H Q=>A7 K x lo hi H Q
theorem fw (e:X.K=K:=by rfl):xp X (DG K):=by
 subst e
 intro pins s σ H x v vl vu lo hi sl Q I rx hs pl pu h
 obtain ⟨a,xs,rfl,hx,ha,q⟩:=h
 by_cases hw:HT.sIx xs.length 0 lo=0∧HT.sIx xs.length xs.length hi=xs.length
 ·cases rx
  obtain ⟨its,r,ht,hz⟩:=I.tuple hx
  have hlen:its.toArray.size=xs.length:=by rw [List.size_toArray];exact r.length.symm
  refine ⟨"tuple",_,PyProof.Rows.slot_tuple_getitem.lookup,ht.typeIs,?_⟩
  refine HT.getItem_tuple_whole ht hs pl pu (by rw [hlen];exact hw.1) (by rw [hlen];exact hw.2) ⟨.ref a,H,I,rfl,q a H (ag.refl _) ?_⟩
  have:fU xs lo hi=xs:=by
   unfold fU
   rw [hw.1,hw.2,List.drop_zero,Nat.sub_zero,List.take_length]
  rw [this];exact ha
 ·exact Cv pins s σ H _ v vl vu lo hi sl Q I rx hs pl pu ⟨a,xs,rfl,hx,hw,fun p hp=>q p _ (ag.new hp) au⟩
end
def tS:aV→V
 | .inl i=>.int i
 | .inr x=>.str x
theorem zL {k:aV}{u:Value} (h:aR (tS k) u):mh k u=true∧u.scannable=true:=by
 cases k with
 | inl i=>obtain ⟨t,rfl⟩:=h;exact ⟨xc i t,rfl⟩
 | inr x=>obtain ⟨t,rfl⟩:=h;exact ⟨xJ x t,rfl⟩
section
variable {prog:Program}{w:World}{A:Around}{R:Result→Shared→Prop}{it:Addr}{fp wr:List Addr}{G:Array GenState→Array GenState→Prop}{P:Nat→Value→Prop}{St:Nat→Shared→Prop}
end
section
variable {prog:Program}{w:World}{A:Around}{E:Value→Shared→Prop}{s:Shared}
end
section
variable {X:Cx}{K:PySem.W.Frag}{e:Expr}{te:TE}{p1 p2 p3 p4:Pos}
end
section
variable {X:Cx}{K:PySem.W.Frag}{o e:Expr}{es:List Expr}{to:TE}{t:TA}{name:Str}{apos cpos:Pos}{T id:String}{r:V→List V→Hp→VK→Prop}
theorem bW (pa:PlainAttrs T) (slot:Slot T name id) (hty:typeOf (.builtin id)=pure (.type "method_descriptor")) (hm:tJ X id r) (ho:PE X o to) (ha:PA X (e :: es) t) (ek:X.K=K:=by rfl)
 (h1:attributeBase o name X.env (eval o X.env)=eval o X.env:=by rfl)
 (h2:((backTo cpos (starEach (e :: es) X.env)).all (fun x=>!x.1) && (backToKw cpos (keywordEach [] X.env)).all (fun x=>x.1.isSome) && decide ((e :: es).length+([]:List Keyword).length+(if ([]:List Keyword).isEmpty then 0 else 1)<30))=true:=by rfl)
 (h3:(apos.endLine==cpos.line)=true:=by rfl) (h4:starEach (e :: es) X.env=(false,eval e X.env) :: starEach es X.env:=by rfl) (h5:(backTo cpos (starEach es X.env)).any (·.1)=false:=by rfl) :
 PE X (.Call (.Attribute o name apos) (e :: es) [] cpos) (Ef K T r to t):=by
 subst ek
 exact DH pa slot hty hm ho ha h1 h2 h3 h4 h5
end
theorem kN {X:Cx}{K:PySem.W.Frag}{es:List Expr}{kk:Nat}{tp:Pos}{a b:Expr}{ta:TA}{p pos:Pos} (hg:Gl X "zip") (hm:X.mg "zip" = none) (ha:PA X [a,b] ta) (ek:X.K=K:=by rfl) (h1:starEach [a,b] X.env=[(false,eval a X.env),(false,eval b X.env)]:=by rfl) (h2:starEach [b] X.env=[(false,eval b X.env)]:=by rfl) :
 PI X (.Tuple es kk tp) (.Call (.Name "zip" p) [a,b] [] pos) (BG K ta):=by
 subst ek
 exact Cl hg hm ha h1 h2
end L2
namespace L2
theorem bd {t u:TS}{D:cZ}{σ:St}{H:Hp} (h:∀D':cZ,(∀σ' H',u D σ' H'→D'.nx σ' H')→t D' σ H):kP t u D σ H:=h { D with nx:=u D } fun _ _ z=>z
theorem cO {t u:TS}{D:cZ}{σ:St}{H:Hp} (h:∀D':cZ,(∀σ' H',u D σ' H'→D'.nx σ' H')→(∀v H',D.rt v H'→D'.rt v H')→t D' σ H):kP t u D σ H:=h { D with nx:=u D } (fun _ _ z=>z) fun _ _ z=>z
theorem mC {t:TS}{D:cZ}{σ:St}{H:Hp} (h:∀D':cZ,(∀σ' H',D.nx σ' H'→D'.nx σ' H')→t D' σ H):t D σ H:=h D fun _ _ z=>z
end L2
namespace L2
open PySem PySem.Spec PyProof.Rows
def sS:PyData→Option (List PyData)
 | .list xs=>some xs
 | .tuple xs=>some xs
 | _=>none
theorem BE {e:PyData}{xs:List PyData}{n l:Nat} (h:Wt e n l) (s:sS e=some xs):bw fun m k=>jr xs m k∧k+1=l:=by
 cases h <;> simp [sS] at s
 all_goals
  rename_i w
  subst s
  exact ⟨_,_,w,rfl⟩
section
variable {X:Cx}
inductive zP (x:V) (vs:List V) (H:Hp) (Q:VK):Prop
 | mk (y:V) (d e:PyData) (E F:Addr→Prop) (m n k l:Nat) (xs:List PyData) (h0:vs=[y]) (h1:aD E H y d) (h2:aD F H x e) (h3:Wt d m k) (h4:Wt e n l) (h5:l≤60) (h6:sS e=some xs) (h7:Q (.int ((xs.countP fun z=>PyData.eqv z d):Nat)) H)
def Bv:V→List V→Hp→VK→Prop:=fun x vs H Q=>zP  x vs H Q
theorem yc {h:Heap}{vs:Array Value}{xs:List PyData}{as:List Addr}{d:PyData} (rs:ReadsAll h vs.toList xs as) (hc:PyData.canLayAll0 xs=true):vs.toList.countP (fun y=>PyData.eqv (PySem.SeqAt.readOf h y) d)=xs.countP fun z=>PyData.eqv z d:=by
 rw [←PySem.SeqAt.readsAll_map xs _ _ hc rs,List.countP_map]
 rfl
theorem xG (hu:X.A.units+64<cLine):tJ X "list.count" (fun x vs H Q=>(bw fun a zs=>x=.ref a∧H a=some (.lst zs))∧Bv x vs H Q):=by
 intro pins s σ H x vs v us Q I rx rv h
 obtain ⟨⟨a,zs,rfl,ha⟩,y,d,e,E,F,m,n,k,l,xs,rfl,hd,he,wd,we,hl,hs,q⟩:=h
 obtain ⟨u,rfl,ru⟩:=rv.one
 obtain ⟨as,ra⟩:=hd.reads I.hok ru
 obtain ⟨bs,rb⟩:=he.reads I.hok rx
 obtain ⟨m',k',wl,ek⟩:=BE we hs
 have dl:=wl.dep
 cases he with
 | lst h1 h2 h3=>
  simp [sS] at hs
  subst hs
  cases rb with
  | @list _ o vs n' _ _ g1 g2 g3 g4=>
   obtain ⟨oc,od,oo,os⟩:=o
   simp only at g2 g3
   subst g2 g3
   refine PySem.call_meets PySem.F.slot_list_count ⟨_,g1,rfl⟩ PySem.F.entry_list_count (PySem.F.args_list_count_2 _ _) (PySem.SeqAt.list_countAt _ vs n' od os u _) ⟨g1,PySem.SeqAt.items_eqAt g4 ra wl.can wd.can ?_,?_⟩
   ·trivial
   ·rw [yc g4 wl.can]
    exact ⟨.int _,H,I.tok _,⟨()⟩,q⟩
 | tup h1 h2=>rw [ha] at h1;cases h1
end
section
variable {K:PySem.W.Frag}{a a1 a2 D:Addr}{H1:Hp}{σc:St}{g:TG}{te:TE}{tt:TT}{Q:VK}{xs ys:List V}
theorem qN {α:Type} (f:Nat→α) (i:Nat):(List.range i).map f++[f i]=(List.range (i+1)).map f:=by
 rw [List.range_succ,List.map_append];rfl
theorem rk {J:It}{n:Nat} (f:Nat→V) (hz:n≤10000) (hD:H1 D=none) (hgo:∀i H',i<n→ag H1 H'→J.go i H') (hst:∀H',ag H1 H'→J.stop n H')
 (hs:∀i x H' H'' (R:VK),i<n→ag H1 H'→J.yld i H' x H''→(∀H4,ag H' H4→R (f i) H4)→g x σc H'' fun σ2 H2=>lw σc σ2∧te σ2 H2 R)
 (hd:∀H',ag H1 H'→H' D=some (.lst ((List.range n).map f))→Q (.ref D) H'):oR J σc g tT te D H1 Q:=by
 refine fZ (n:=n) (fun i H' zs=>zs=(List.range i).map f∧H' D=some (.lst zs)∧ag H1 H') (gZ hz) ⟨rfl,au,dU hD (ag.refl _)⟩ ?_ ?_ ?_ ?_ ?_
 ·rintro i H' zs ⟨rfl,q,_⟩
  exact ⟨q,by simp⟩
 ·rintro i H' zs hi ⟨_,_,sm⟩
  exact hgo i H' hi sm
 ·rintro H' zs ⟨_,_,sm⟩
  exact hst H' sm
 ·rintro i H' zs x H'' hi ⟨rfl,q,sm⟩ y
  exact hs i x H' H'' _ hi sm y fun H4 s4=>⟨s4 _ _ q,qN f i,au,dU hD (sm.trans s4)⟩
 ·rintro H' zs ⟨rfl,q,sm⟩
  exact hd H' sm q
theorem rz {c1 c2:Bool}{j1 j2:Nat} (f:Nat→V) (hz:min xs.length ys.length≤10000) (hD:H1 D=none) (h1:∀H',ag H1 H'→iL K H' a1 xs c1) (h2:∀H',ag H1 H'→iL K H' a2 ys c2)
 (hs:∀i x y H' (R:VK),xs[i]?=some x→ys[i]?=some y→ag H1 H'→(∀H4,ag H' H4→R (f i) H4)→(fun σ2 H2=>lw σc σ2∧te σ2 H2 R) ((σc.set j1 (some x)).set j2 (some y)) H')
 (hd:∀H',ag H1 H'→H' D=some (.lst ((List.range (min xs.length ys.length)).map f))→Q (.ref D) H'):oR (uO K a1 a2 c1 c2) σc (xV K 2 (vw (o6 j1) (vw (o6 j2) BL))) tT te D H1 Q:=by
 refine rk (n:=min xs.length ys.length) f hz hD (fun i H' hi sm=>⟨xs,ys,xs[i]'(by trivial),ys[i]'(by trivial),h1 H' sm,h2 H' sm,by rw [List.getElem?_eq_getElem (by trivial)],by rw [List.getElem?_eq_getElem (by trivial)]⟩) (fun H' sm=>⟨xs,ys,h1 H' sm,h2 H' sm,by trivial⟩) ?_ hd
 rintro i v H' H'' R hi sm ⟨T,x,y,hT,rfl,rfl,e1,e2⟩ k
 have st:=ag.new (o:=.tup [x,y]) hT
 exact ⟨T,(),ah.of au,rfl,_,(),_,(),rfl,hs i x y _ R (e1 _ (h1 H' sm)) (e2 _ (h2 H' sm)) (sm.trans st) fun H4 s4=>k H4 (st.trans s4)⟩
end
end L2
namespace L2
end L2
namespace L2
open PySem PySem.Spec PyProof.Rows
section
variable {X:Cx}{tg:Expr}
inductive AM (K:PySem.W.Frag) (x:V) (y:V) (H:Hp) (Q:VK):Prop
 | mk (a:_) (b:_) (xs:_) (ys:_) (h0:x=.ref a) (h1:y=.ref b) (h2:ah K H a xs) (h3:H a=some (.tup xs)) (h4:ah K H b ys) (h5:xs≠[]) (h6:xs.length+ys.length≤10000) (h7:∀p H',ag H H'→H' p=some (.tup (xs++ys))→Q (.ref p) H')
def Cu (K:PySem.W.Frag):R2:=fun x y H Q=>AM K x y H Q
theorem yq {K:PySem.W.Frag} (e:X.K=K:=by rfl):cF X (binaryOp .Add) (Cu K):=by
 subst e
 intro pins s σ H x y v u Q I rx ry h
 obtain ⟨a,b,xs,ys,e1,e2,ha,ha',hb,hx,hz,q⟩:=h
 refine AJ pins s σ H x y v u Q I rx ry ⟨a,b,xs,ys,e1,e2,ha,hb,hx,gZ hz,fun z=>?_,fun z p hp=>q p _ (ag.new hp) au⟩
 refine q a H (ag.refl _) ?_
 rw [z,List.append_nil];exact ha'
end
section
variable {X:Cx}{K:PySem.W.Frag}{o e:Expr}{es:List Expr}{to:TE}{t:TA}{name:Str}{apos cpos:Pos}{id:String}{r:V→List V→Hp→VK→Prop}
end
end L2
namespace L2
open PySem PyProof.Rows
def dI (X:Cx) (scope:Scope) (cl:List (Str×Addr)) (C:Addr) (N':List Str) (s:Shared) (H:Hp) (ex:List Addr) (pn:List (Addr×Obj)):Cx:=
 { tY X scope cl C N' s H ex pn with fn:=fun x=>scope.names.lookup x==some .cell }
def mw (esc:Scope) (N:List Str) (scope:Scope) (N':List Str) (L:Nat) (src:List Nat):Bool:=
 (scope.kind==.function) && scope.names.all (fun y=>(y.2 != .cell || scope.names.lookup y.1==some .cell) && (y.2 != .local || scope.names.lookup y.1==some .local) && (y.2 != .free || esc.names.lookup y.1==some .cell || esc.names.lookup y.1==some .free)) &&
  (N'.length==L+src.length) && (List.range src.length).all fun i=>match src[i]?,N'[L+i]? with
   | some j,some x=>(N[j]?==some x) && (scope.names.lookup x==some .free)
   | _,_=>false
structure uI (esc:Scope) (N:List Str) (scope:Scope) (N':List Str) (L:Nat) (src:List Nat):Prop where
 kind:scope.kind=.function
 cells:∀y∈scope.names,y.2=.cell→scope.names.lookup y.1=some .cell
 loc:∀y∈scope.names,y.2=.local→scope.names.lookup y.1=some .local
 free:∀y∈scope.names,y.2=.free→esc.names.lookup y.1=some .cell∨esc.names.lookup y.1=some .free
 len:N'.length=L+src.length
 frees:∀(i j:Nat),src[i]?=some j→∃x,N'[L+i]?=some x∧N[j]?=some x∧scope.names.lookup x=some .free
theorem qu {esc:Scope}{N:List Str}{scope:Scope}{N':List Str}{L:Nat}{src:List Nat} (h:mw esc N scope N' L src=true):uI esc N scope N' L src:=by
 unfold mw at h
 simp only [Bool.and_eq_true,List.all_eq_true] at h
 obtain ⟨⟨⟨h1,h2⟩,h3⟩,h4⟩:=h
 refine ⟨by simpa using h1,fun y hy e=>?_,fun y hy e=>?_,fun y hy e=>?_,by simpa using h3,fun i j e=>?_⟩
 ·have:=(h2 y hy).1.1
  rw [e] at this
  simpa using this
 ·have:=(h2 y hy).1.2
  rw [e] at this
  simpa using this
 ·have:=(h2 y hy).2
  rw [e] at this
  simpa using this
 ·have hi:i<src.length:=(List.getElem?_eq_some_iff.mp e).1
  have:=h4 i (List.mem_range.mpr hi)
  rw [e] at this
  cases q:N'[L+i]? with
  | none=>rw [q] at this;simp at this
  | some x=>
   rw [q] at this
   simp only [Bool.and_eq_true,beq_iff_eq] at this
   exact ⟨x,rfl,this.1,this.2⟩
theorem i4:∀(names:List (Str×NameKind)) (n:Nat) (acc acc':List (Str×Addr)),cellsFrom n names (acc++acc')=cellsFrom n names acc++acc'
 | [],_,_,_=>rfl
 | (name,kind) :: r,n,acc,acc'=>by
  unfold cellsFrom
  split
  ·exact i4 r (n+1) ((name,n) :: acc) acc'
  ·exact i4 r n acc acc'
theorem sr (names:List (Str×NameKind)) (n:Nat) (acc:List (Str×Addr)):cellsFrom n names acc=cellsFrom n names []++acc:=i4 names n [] acc
theorem iz {x:Str}{c:Addr}:∀(names:List (Str×NameKind)) (n:Nat) (acc:List (Str×Addr)),(x,c)∈cellsFrom n names acc→(x,NameKind.cell)∈names∨(x,c)∈acc
 | [],_,_,h=>.inr h
 | (name,kind) :: r,n,acc,h=>by
  unfold cellsFrom at h
  split at h
  ·rename_i hk
   rcases iz r (n+1) _ h with h | h
   ·exact .inl (List.mem_cons_of_mem _ h)
   ·rcases List.mem_cons.mp h with h | h
    ·injection h with h1 h2
     have hk':kind=.cell:=by simpa using hk
     rw [h1,hk'];exact .inl List.mem_cons_self
    ·exact .inr h
  ·rcases iz r n _ h with h | h
   ·exact .inl (List.mem_cons_of_mem _ h)
   ·exact .inr h
theorem iW {x:Str}:∀(names:List (Str×NameKind)) (n:Nat) (acc:List (Str×Addr)),(∃c,acc.lookup x=some c)→∃c,(cellsFrom n names acc).lookup x=some c
 | [],_,_,h=>h
 | (name,kind) :: r,n,acc,⟨c,h⟩=>by
  unfold cellsFrom
  split
  ·refine iW r (n+1) _ ?_
   rw [List.lookup_cons]
   cases hb:x==name with
   | true=>exact ⟨_,rfl⟩
   | false=>exact ⟨c,h⟩
  ·exact iW r n acc ⟨c,h⟩
theorem jy {x:Str}:∀(names:List (Str×NameKind)) (n:Nat) (acc:List (Str×Addr)),(x,NameKind.cell)∈names→∃c,(cellsFrom n names acc).lookup x=some c
 | (name,kind) :: r,n,acc,h=>by
  unfold cellsFrom
  rcases List.mem_cons.mp h with h | h
  ·injection h with h1 h2
   subst h1;subst h2
   rw [if_pos (show (NameKind.cell==NameKind.cell)=true from rfl)]
   exact iW r (n+1) _ ⟨n,by simp [List.lookup_cons]⟩
  ·split
   ·exact jy r (n+1) _ h
   ·exact jy r n acc h
theorem EU {M:Model}{A:Around}{E:Value→Shared→Prop}{s:Shared}{scope:Scope}{globals:Addr}{cl:List (Str×Addr)}{qual:Str}{env:Env}{Q:Env→Shared→Prop}
 (h:Q { scope:=scope,locals:=s.heap.objs.size,globals:=globals,cells:=cellsFrom (s.heap.objs.size+1) scope.names cl,qual:=qual,func:=none,code:=env.code,frame:=env.frame,builtins:=env.builtins }
  { s with heap:=pushCells (s.heap.push { cls:=.type "dict",data:=.dict #[] }) scope.names }) :
 wpAny M A (newFunctionEnv scope globals cl [] qual none .none (some env)) Q E s:=by
 simp only [newFunctionEnv,Option.isSome_some,if_true]
 refine wpAny_bind (wpAny_alloc ?_)
 refine wpAny_bind (wpAny_layCells _ (fun name kind cells=>by cases hkc:kind==NameKind.cell <;> simp [hkc]) _ _ _ _ ?_)
 rw [show ({ s with heap:=s.heap.push { cls:=.type "dict",data:=.dict #[] } }:Shared).heap.objs.size=s.heap.objs.size+1 from Heap.size_push ..]
 exact wpAny_bind (by rw [List.forIn_nil];exact wpAny_pure (wpAny_pure h))
section
variable {X:Cx}{elt tg iter:Expr}{ifs:List Expr}{scope:Scope}{pos:Pos}{N':List Str}{L:Nat}{src:List Nat}{wi:TI}{g:TG}{tt:TT}{te:TE}
theorem rC (hc:X.calm=true) (ck:uI X.env.scope X.N scope N' L src) {cl:List (Str×Addr)}{pins:List (Addr×Obj)}{s:Shared}{σ:St}{H:Hp}{Q:VK} (I:ad X pins σ H s)
 (hsub:∀x c,cl.lookup x=some c→X.env.cells.lookup x=some c) (hhas:∀y∈scope.names,y.2=.free→∃c,cl.lookup y.1=some c)
 (hi:PI X tg iter wi) (hg:∀cl C s H ex pn,PG (dI X scope cl C N' s H ex pn) tg g) (hif:∀cl C s H ex pn,tj (dI X scope cl C N' s H ex pn) ifs tt)
 (he:∀cl C s H ex pn,PE (dI X scope cl C N' s H ex pn) elt te) (h:vL wi L src g tt te σ H Q) {RR:Value→Addr→Result→Shared→Prop}
 (hRR:∀D C H' f s' m,ad X pins σ H' s'→s'.heap.Ns C m→jZ X pins H' C→Q (.ref D) H'→RR (.ref D) C (.ok f) s') :
 wpAny (model X.prog X.w) X.A (eval iter X.env) (fun x s₁=>wpAny (model X.prog X.w) X.A (pyIter x) (fun it s₂=>wpAny (model X.prog X.w) X.A (newList []) (fun acc s₃=>
  wpAny (model X.prog X.w) X.A (newFunctionEnv scope X.env.globals cl [] X.env.qual none .none (some X.env)) (fun cenv s₄=>
   codeAny (model X.prog X.w) X.A (.compStart (.ListComp elt [⟨tg,iter,ifs,0⟩] scope pos) 0 it acc { cenv with scope:=relabel scope X.env }) (RR acc cenv.locals) s₄) X.xe s₃) X.xe s₂) X.xe s₁) X.xe s:=by
 refine aO (hi pins s σ H _ I h) fun v s1 h1=>aO h1 fun itv s2 h2=>?_
 obtain ⟨it,fp,tn,J,H2,e,I2,T,st2,f2,q⟩:=h2
 subst e
 refine wpAny_newObj_type (EU ?_)
 dsimp only
 generalize hH2:s2.heap.push { cls:=.type "list",dict:=none,data:=.seq ([]:List Value).toArray }=hp2
 have hns₁:(pushCells (hp2.push { cls:=.type "dict",data:=.dict #[] }) scope.names).Ns hp2.objs.size fun _=>none:=(Heap.Ns.new hp2 (.type "dict")).keeps (pushCells_keeps _ _)
 have kp:∀b o,hp2.get? b=some o→(pushCells (hp2.push { cls:=.type "dict",data:=.dict #[] }) scope.names).get? b=some o:=fun b o e=>pushCells_keeps _ _ b o (Heap.get?_push_of_some _ e)
 have okc:=cellsFrom_ok scope.names (hp2.push { cls:=.type "dict",data:=.dict #[] }) (hp2.objs.size+1) [] ⟨fun _ _ hm=>(nomatch hm),List.Pairwise.nil⟩ (by rw [Heap.size_push];exact Nat.le_refl _)
 rw [Heap.size_push] at okc
 rw [sr]
 have ncell:∀x c,(cellsFrom (hp2.objs.size+1) scope.names []).lookup x=some c→(x,NameKind.cell)∈scope.names:=fun x c e=>(iz _ _ _ (PySem.mem_of_lookup e)).elim id (fun z=>by cases z)
 have nhas:∀x,(x,NameKind.cell)∈scope.names→∃c,(cellsFrom (hp2.objs.size+1) scope.names []).lookup x=some c:=fun x h=>jy _ _ _ h
 generalize pushCells (hp2.push { cls:=.type "dict",data:=.dict #[] }) scope.names=h₁ at hns₁ kp okc ⊢
 generalize cellsFrom (hp2.objs.size+1) scope.names []=nw at okc ncell nhas ⊢
 have hC:hp2.objs.size=s2.heap.objs.size+1:=by rw [←hH2,Heap.size_push]
 have hDC:s2.heap.objs.size≠hp2.objs.size:=by rw [hC];exact Nat.ne_of_lt (Nat.lt_succ_self _)
 have hCle:s2.heap.objs.size≤hp2.objs.size:=by rw [hC];exact Nat.le_succ _
 have below:∀b,b<s2.heap.objs.size→b≠hp2.objs.size∧b≠s2.heap.objs.size:=fun b hb=>⟨by rw [hC];exact Nat.ne_of_lt (Nat.lt_succ_of_lt hb),Nat.ne_of_lt hb⟩
 have old:∀b o,s2.heap.get? b=some o→h₁.get? b=some o:=fun b o e=>kp b o (hH2▸Heap.get?_push_of_some _ e)
 have hacc:h₁.get? s2.heap.objs.size=some { cls:=.type "list",dict:=none,data:=.seq ([]:List Value).toArray }:=kp _ _ (hH2▸Heap.get?_push_size _ rfl)
 have hDn:H2 s2.heap.objs.size=none:=I2.fresh
 obtain ⟨W,⟨m0,w0⟩,turn⟩:=q _ hDn
 have fpo:∀b∈fp,∃o,s2.heap.get? b=some o∧∀v,o.data≠.cell v:=T.obj _ _ st2
 have fplt:∀b∈fp,b<s2.heap.objs.size:=fun b hb=>by obtain ⟨o,e,_⟩:=fpo b hb;exact Heap.lt_size e
 have hfrs:∀b∈fp,b∉gb X.stack:=fun b hb z=>by
  rcases List.mem_cons.mp (I2.stkSub b z) with z' | z'
  ·exact (f2 b hb).2.1 z'
  ·exact (f2 b hb).2.2.1 z'
 have spl:∀x c,(nw++cl).lookup x=some c→nw.lookup x=some c∨(nw.lookup x=none∧cl.lookup x=some c):=fun x c e=>by
  rw [List.lookup_append] at e
  cases q:nw.lookup x with
  | none=>rw [q] at e;exact .inr ⟨rfl,e⟩
  | some c'=>rw [q] at e;exact .inl e
 have nab:∀x c,nw.lookup x=some c→hp2.objs.size+1≤c:=fun x c e=>(okc.empty x c (PySem.mem_of_lookup e)).2
 have olt:∀x c,cl.lookup x=some c→c<s2.heap.objs.size:=fun x c e=>by
  obtain ⟨v,o,ho,_⟩:=I2.cell x c (hsub _ _ e)
  exact Heap.lt_size ho
 have n2o:∀x c y,nw.lookup x=some c→cl.lookup y=some c→False:=fun x c y e1 e2=>Nat.lt_irrefl c (Nat.lt_of_lt_of_le (olt y c e2) (Nat.le_trans hCle (Nat.le_of_succ_le (nab x c e1))))
 generalize hX:dI X scope (nw++cl) hp2.objs.size N' s2 H2 fp (X.pn++pins)=X'
 have ok':X'.Ok:=by
  subst hX
  refine ⟨I2.ok.mod,ck.kind,I2.ok.glob,I2.ok.blt,hCle,fun x y c e1 e2=>(spl x c e1).elim (fun g1=>(spl y c e2).elim (fun g2=>name_of_addr okc.apart (PySem.mem_of_lookup g1) (PySem.mem_of_lookup g2)) (fun g2=>(n2o x c y g1 g2.2).elim)) (fun g1=>(spl y c e2).elim (fun g2=>(n2o y c x g2 g1.2).elim) (fun g2=>I2.ok.inj x y c (hsub _ _ g1.2) (hsub _ _ g2.2))),fun x hx=>?_,fun x c z e=>?cab,I2.ok.hd,I2.ok.frames,.inl rfl,fun b hb=>⟨(below b (fplt b hb)).1,fun x c e=>(spl x c e).elim (fun g z=>Nat.lt_irrefl b (Nat.lt_of_lt_of_le (fplt b hb) (Nat.le_trans hCle (Nat.le_of_succ_le (z▸nab x c g))))) (fun g=>(f2 b hb).2.2.2.2.1 x c (hsub _ _ g.2))⟩,
   I2.bs,Nat.le_trans I2.ok.bsz I2.sz,fun b o e hb=>?_,hfrs,I2.stack,I2.stkFree⟩
  ·-- a name that is a cell or free
   have hx':(relabel scope X.env).names.lookup x=some .cell∨(relabel scope X.env).names.lookup x=some .free:=hx
   have key:∀(names:List (Str×NameKind)),
    ((names.map fun (n,k)=>if (k==NameKind.free && X.env.scope.kind==.function && X.env.kindOf n==some .cell) then (n,NameKind.cell) else (n,k)).lookup x=some .cell∨
     (names.map fun (n,k)=>if (k==NameKind.free && X.env.scope.kind==.function && X.env.kindOf n==some .cell) then (n,NameKind.cell) else (n,k)).lookup x=some .free)→∃y∈names,y.1=x∧(y.2=.free∨y.2=.cell):=by
    intro names
    induction names with
    | nil=>intro h;rcases h with h | h <;> simp at h
    | cons y r ih=>
     intro h
     obtain ⟨n,k⟩:=y
     by_cases hb:x=n
     ·subst hb
      refine ⟨(x,k),List.mem_cons_self,rfl,?_⟩
      by_cases hk:k=.free
      ·exact .inl hk
      ·have hkb:(k==NameKind.free)=false:=by simpa using hk
       right
       simp only [List.map_cons,hkb,Bool.false_and,Bool.false_eq_true,if_false,List.lookup_cons,beq_self_eq_true,if_true] at h
       rcases h with h | h
       ·exact Option.some.inj h
       ·exact absurd (Option.some.inj h) hk
     ·have hb':(x==n)=false:=by simpa using hb
      have h':((r.map fun (n,k)=>if (k==NameKind.free && X.env.scope.kind==.function && X.env.kindOf n==some .cell) then (n,NameKind.cell) else (n,k)).lookup x=some .cell∨
       (r.map fun (n,k)=>if (k==NameKind.free && X.env.scope.kind==.function && X.env.kindOf n==some .cell) then (n,NameKind.cell) else (n,k)).lookup x=some .free):=by
       rw [List.map_cons] at h
       dsimp only at h
       by_cases hcnd:(k==NameKind.free && X.env.scope.kind==.function && X.env.kindOf n==some .cell)=true
       ·rw [if_pos hcnd] at h
        simpa only [List.lookup_cons,hb'] using h
       ·rw [if_neg hcnd] at h
        simpa only [List.lookup_cons,hb'] using h
      obtain ⟨y,hy,e1,e2⟩:=ih h'
      exact ⟨y,List.mem_cons_of_mem _ hy,e1,e2⟩
   obtain ⟨y,hy,e1,e2⟩:=key scope.names hx'
   show ∃c,(nw++cl).lookup x=some c
   rw [List.lookup_append]
   cases q:nw.lookup x with
   | some c=>exact ⟨c,rfl⟩
   | none=>
    rcases e2 with e2 | e2
    ·obtain ⟨c,hc'⟩:=hhas y hy e2
     exact ⟨c,by rw [←e1,hc'];rfl⟩
    ·obtain ⟨c,hc'⟩:=nhas x (by obtain ⟨y1,y2⟩:=y;dsimp only at e1 e2;rw [←e1,←e2];exact hy)
     rw [q] at hc';cases hc'
  case cab=>
   have z':(scope.names.lookup x==some NameKind.cell)=true:=z
   obtain ⟨c',hc'⟩:=nhas x (PySem.mem_of_lookup (by simpa using z'))
   rcases spl x c e with g | g
   ·have:=nab x c g
    show s2.heap.objs.size≤c
    trivial
   ·rw [hc'] at g;cases g.1
  ·rcases (f2 b hb).2.2.2.1 with z | z
   ·exact I2.ok.noex b o e z
   ·exact absurd (Nat.lt_of_lt_of_le (Heap.lt_size e) (Nat.le_trans I2.ok.bsz z)) (Nat.lt_irrefl _)
 have stat:∀{H':Hp},(∀b∈fp,H' b=none)→∀b∈fp,jZ X' [] H' b:=by
  subst hX
  intro H' hn b hb
  refine ⟨hn b hb,(below b (fplt b hb)).1,hfrs b hb,.inl hb,fun x c e=>(spl x c e).elim (fun g z=>Nat.lt_irrefl b (Nat.lt_of_lt_of_le (fplt b hb) (Nat.le_trans hCle (Nat.le_of_succ_le (z▸nab x c g))))) (fun g=>(f2 b hb).2.2.2.2.1 x c (hsub _ _ g.2)),fun p hp=>?_⟩
  have hp':p∈X.pn++pins:=by simpa [dI,tY] using hp
  exact (f2 b hb).2.2.2.2.2 p hp'
 have I1:ad X' [] (mU L src σ) (aH H2 s2.heap.objs.size (.lst [])) { s2 with heap:=h₁,toks:=s2.toks }:=by
  subst hX
  have up:∀b o,H2 b=some o→aH H2 s2.heap.objs.size (.lst []) b=some o:=fun b o e=>by rw [ao (aF e hDn)];exact e
  have upn:∀b,b<s2.heap.objs.size→H2 b=none→aH H2 s2.heap.objs.size (.lst []) b=none:=fun b hb e=>by rw [ao (Nat.ne_of_lt hb)];exact e
  refine ⟨ok',rfl,I2.bare,Un.laid old (Nat.le_refl _) hDn,⟨_,hns₁,fun i x v e1 e2 e3=>?_⟩,fun x c e=>?_,?_,fun x c e=>?_,fun p hp=>?_,I2.hok.laid old (Nat.le_refl _) ⟨Nat.zero_le _,[],0,.nil,hacc⟩,?_⟩
  ·-- the names of the def around
   have hiL:L≤i:=by
    by_cases hlt:i<L
    ·exfalso
     unfold mU at e2
     rw [List.getElem?_append_left (by simpa using hlt),List.getElem?_replicate,if_pos hlt] at e2
     cases e2
    ·trivial
   have e2':(src.map fun j=>(σ[j]?).join)[i - L]?=some (some v):=by
    unfold mU at e2
    rw [List.getElem?_append_right (by simpa using hiL),List.length_replicate] at e2
    exact e2
   rw [List.getElem?_map] at e2'
   cases hj:src[i - L]? with
   | none=>rw [hj] at e2';cases e2'
   | some j=>
    rw [hj] at e2'
    have e3':(σ[j]?).join=some v:=Option.some.inj e2'
    have hσ:σ[j]?=some (some v):=by
     cases q:σ[j]? with
     | none=>rw [q] at e3';cases e3'
     | some o=>rw [q] at e3';exact congrArg some e3'
    obtain ⟨x',g1,g2,g3⟩:=ck.frees (i - L) j hj
    have:L+(i - L)=i:=by trivial
    rw [this] at g1
    have ex:x'=x:=Option.some.inj (g1.symm.trans e1)
    subst ex
    have hfree:=ck.free _ (PySem.mem_of_lookup g3) rfl
    obtain ⟨m,hn,hl⟩:=I2.loc
    obtain ⟨u,r,l⟩:=hl j x' v g2 hσ (hfree.elim (fun z=>.inr (.inl z)) fun z=>.inr (.inr z))
    refine ⟨u,r,.inr ⟨?_,?_⟩⟩
    ·-- its kind in the block
     have key:∀(names:List (Str×NameKind)),names.lookup x'=some .free→
      ((names.map fun (n,k)=>if (k==NameKind.free && X.env.scope.kind==.function && X.env.kindOf n==some .cell) then (n,NameKind.cell) else (n,k)).lookup x'=some .cell∨
       (names.map fun (n,k)=>if (k==NameKind.free && X.env.scope.kind==.function && X.env.kindOf n==some .cell) then (n,NameKind.cell) else (n,k)).lookup x'=some .free):=by
      intro names
      induction names with
      | nil=>intro h;simp at h
      | cons y r ih=>
       intro h
       obtain ⟨n,k⟩:=y
       by_cases hb:x'=n
       ·subst hb
        simp only [List.lookup_cons,beq_self_eq_true,if_true] at h
        have hk:k=.free:=Option.some.inj h
        subst hk
        rw [List.map_cons]
        dsimp only
        by_cases hcnd:(NameKind.free==NameKind.free && X.env.scope.kind==.function && X.env.kindOf x'==some .cell)=true
        ·rw [if_pos hcnd];left;simp [List.lookup_cons]
        ·rw [if_neg hcnd];right;simp [List.lookup_cons]
       ·have hb':(x'==n)=false:=by simpa using hb
        have h':=ih (by simpa only [List.lookup_cons,hb'] using h)
        rw [List.map_cons]
        dsimp only
        by_cases hcnd:(k==NameKind.free && X.env.scope.kind==.function && X.env.kindOf n==some .cell)=true
        ·rw [if_pos hcnd];simpa only [List.lookup_cons,hb'] using h'
        ·rw [if_neg hcnd];simpa only [List.lookup_cons,hb'] using h'
     exact key scope.names g3
    ·obtain ⟨c,hcl⟩:=hhas _ (PySem.mem_of_lookup g3) rfl
     have hcx:=hsub _ _ hcl
     rcases l with ⟨k1,_⟩ | ⟨_,c',e4,z⟩
     ·exfalso
      have k1':X.env.scope.names.lookup x'=some .local:=k1
      rcases hfree with z | z
      ·rw [z] at k1';cases k1'
      ·rw [z] at k1';cases k1'
     ·rw [hcx] at e4
      cases e4
      obtain ⟨o,ho,hd⟩:=z
      refine ⟨c,?_,o,old _ _ ho,hd⟩
      show (nw++cl).lookup x'=some c
      rw [List.lookup_append]
      cases q:nw.lookup x' with
      | none=>exact hcl
      | some c'=>
       exfalso
       have:=ck.cells _ (ncell _ _ q) rfl
       dsimp only at this
       rw [g3] at this;cases this
  ·rcases spl x c e with g | g
   ·exact ⟨none,(okc.empty x c (PySem.mem_of_lookup g)).1⟩
   ·obtain ⟨v,o,ho,hd⟩:=I2.cell x c (hsub _ _ g.2)
    exact ⟨v,o,old _ _ ho,hd⟩
  ·show aH H2 s2.heap.objs.size (.lst []) hp2.objs.size=none
   rw [ao (Ne.symm hDC)]
   exact I2.hok.fresh hCle
  ·rcases spl x c e with g | g
   ·have:=nab x c g
    rw [ao (by intro z;rw [z] at this;trivial)]
    exact I2.hok.fresh (by trivial)
   ·obtain ⟨v,o,ho,hd⟩:=I2.cell x c (hsub _ _ g.2)
    exact upn c (Heap.lt_size ho) (I2.freeC x c (hsub _ _ g.2))
  ·have hp':p∈X.pn++pins:=by simpa [dI,tY] using hp
   obtain ⟨e,n,ne,nf,d⟩:=I2.pin p hp'
   have hlt:=Heap.lt_size e
   refine ⟨old _ _ e,upn _ hlt n,(below _ hlt).1,fun z=>?_,d⟩
   rcases List.mem_cons.mp (I2.stkSub _ z) with z' | z'
   ·exact ne z'
   ·exact nf z'
  ·show (mU L src σ).length=N'.length
   unfold mU
   rw [List.length_append,List.length_replicate,List.length_map,ck.len]
 have eA:X'.A=X.A:=by subst hX;rfl
 have eP:X'.prog=X.prog:=by subst hX;rfl
 have eW:X'.w=X.w:=by subst hX;rfl
 have eK:X'.K=X.K:=by subst hX;rfl
 have ec:X'.calm=true:=by subst hX;exact hc
 have exe:X'.xe=fun _ _=>False:=by subst hX;rfl
 have eE:X'.env=compEnvC scope (nw++cl) hp2.objs.size X.env:=by subst hX;rfl
 have hg':PG X' tg g:=by subst hX;exact hg _ _ _ _ _ _
 have hif':tj X' ifs tt:=by subst hX;exact hif _ _ _ _ _ _
 have he':PE X' elt te:=by subst hX;exact he _ _ _ _ _ _
 have aft:∀{H':Hp}{s':Shared},ad X' [] (mU L src σ) H' s'→ad X pins σ H' s'∧(∃m,s'.heap.Ns hp2.objs.size m)∧jZ X pins H' hp2.objs.size:=by
  subst hX
  intro H' s' J
  refine ⟨I2.call' (ch:=fp) J.os J.base J.hok J.bare fun b hb=>⟨(f2 b hb).2.2.2.1,(f2 b hb).2.1,(f2 b hb).2.2.2.2.1,(f2 b hb).2.2.2.2.2⟩,?_,I2.fpOk hCle J.free⟩
  obtain ⟨m,hn,_⟩:=J.loc
  exact ⟨m,hn⟩
 have st1:tn 0 h₁:=T.keep _ _ _ st2 fun b hb o e=>old b o e
 have loop:∀s₃:Shared,s₃={ s2 with heap:=h₁,toks:=s2.toks }→
  codeAny (model X.prog X.w) X.A (.compLoop (.ListComp elt [⟨tg,iter,ifs,0⟩] scope pos) 0 (.ref it) (.ref s2.heap.objs.size) (compEnvC scope (nw++cl) hp2.objs.size X.env))
   (RR (.ref s2.heap.objs.size) hp2.objs.size) s₃:=by
  rintro s₃ rfl
  refine sY (fun n s'=>iC fun i H' ys=>ad X' [] (mU L src σ) H' s'∧tn i s'.heap∧(∀b∈fp,H' b=none)∧W i n H' ys) ?_ m0
   ⟨0,_,[],I1,st1,fun b hb=>(by rw [ao (below b (fplt b hb)).2];exact (f2 b hb).1),w0⟩
  rintro n s3 ⟨i,H3,ys,I3,st3,fr3,w3⟩
  obtain ⟨hD,alt⟩:=turn i n H3 ys w3
  rcases alt with ⟨stop,qn⟩ | ⟨go,hlen,N,hN,step⟩
  ·have d:=T.done X' eP eW eK ec i [] s3 (mU L src σ) H3 (fun _ _=>False) I3 (stat fr3) st3 stop
   rw [eA] at d
   refine aO d fun r s4 ⟨hr,I4⟩=>?_
   subst hr
   obtain ⟨J,⟨m,hn⟩,fpC⟩:=aft I4
   exact hRR _ _ H3 .next s4 m J hn fpC qn
  ·have d:=T.item X' eP eW eK ec i [] s3 (mU L src σ) H3 (fun _ _=>False) I3 (stat fr3) st3 go
   rw [eA] at d
   refine aO d fun r s4 ⟨u,hr,h4⟩=>?_
   subst hr
   refine aO h4 fun _ s5 ⟨x,H5,I5,r5,y5,st5,fr5⟩=>?_
   have I5':=I5.pinned (stat fr5) (T.obj _ _ st5)
   have a1:=hg' _ s5 (mU L src σ) H5 x u _ I5' r5 (step x H5 y5)
   rw [eP,eW,eA,eE,exe] at a1
   refine aO a1 fun _ s6 ⟨σ6,H6,I6,bk,q6⟩=>?_
   have a2:=hif' _ s6 σ6 H6 _ I6 q6
   rw [eP,eW,eA,eE,exe] at a2
   refine aO a2 fun b s7 ⟨H7,I7,q7⟩=>?_
   have again:∀{H8:Hp}{s8:Shared}{ys':List V},ad X' ([]++oH fp s5.heap) σ6 H8 s8→N H8 ys'→∃m,m<n∧iC fun i H' ys=>ad X' [] (mU L src σ) H' s8∧tn i s8.heap∧(∀b∈fp,H' b=none)∧W i m H' ys:=fun {H8 s8 ys'} I8 n8=>by
    obtain ⟨m',hm,w8⟩:=hN H8 ys' n8
    refine ⟨m',hm,i+1,H8,ys',(I8.unpinned).weak bk.1.symm bk.2,T.keep _ _ _ st5 fun b hb o e=>(I8.pin (b,o) (List.mem_append_right _ (List.mem_append_right _ (jW hb e)))).1,fun b hb=>?_,w8⟩
    obtain ⟨o,e,d⟩:=T.obj _ _ st5 b hb
    exact (I8.pin (b,o) (List.mem_append_right _ (List.mem_append_right _ (jW hb e)))).2.1
   cases b with
   | false=>
    rw [if_neg Bool.false_ne_true] at q7 ⊢
    exact again I7 q7
   | true=>
    rw [if_pos rfl] at q7 ⊢
    have a3:=he' _ s7 σ6 H7 _ I7 q7
    rw [eP,eW,eA,eE,exe] at a3
    refine aO a3 fun xv s8 ⟨y,H8,I8,r8,hD8,q8⟩=>?_
    have a4:=rQ (X:=X') _ s8 σ6 H8 (.ref s2.heap.objs.size) [y] (.ref s2.heap.objs.size) [xv] (fun _ H'=>H'=aH H8 s2.heap.objs.size (.lst (ys++[y]))) I8 rfl (.cons r8 .nil) ⟨_,ys,y,rfl,rfl,hD8,hlen,rfl⟩
    rw [eP,eW,eA,exe] at a4
    refine aO a4 fun _ s9 ⟨_,H9,I9,_,e9⟩=>?_
    subst e9
    exact again I9 q8
 exact codeAny_compStart_list (loop _ rfl) (T.self _ 0 _ _ _ st1 (loop _ rfl))
theorem ic (hc:X.calm=true) (ck:mw X.env.scope X.N scope N' L src=true) (hi:PI X tg iter wi) (hg:∀cl C s H ex pn,PG (dI X scope cl C N' s H ex pn) tg g) (hif:∀cl C s H ex pn,tj (dI X scope cl C N' s H ex pn) ifs tt)
 (he:∀cl C s H ex pn,PE (dI X scope cl C N' s H ex pn) elt te) (hs:∀x,foldedSetIterable iter X.env x=pure x:=by intro _;rfl) :
 PE X (.ListComp elt [⟨tg,iter,ifs,0⟩] scope pos) (vL wi L src g tt te):=by
 intro pins s σ H Q I h
 have ck:=qu ck
 obtain ⟨cl,hclos,hsub,hhas⟩:=uV (scope:=scope) (env:=X.env) fun y hy e=>I.ok.has y.1 (ck.free y hy e)
 rw [eval_ListComp]
 refine wpAny_comprehension_free (use:=none) rfl hs hclos ck.kind ck.loc (rC hc ck I hsub hhas hi hg hif he h (RR:=fun acc C=>compPost (model X.prog X.w) X.A X.xe none (EP X pins σ Q) acc C) ?_)
 intro D C H' f s' m J hn fpC q
 refine ⟨m,hn,fun h' hsb=>⟨.ref D,H',?_,rfl,q⟩⟩
 obtain ⟨f0,f1,f2,f3,f4,f5⟩:=fpC
 exact J.turned (t':=s'.toks) (fun b o hb e=>(hsb.2 b hb).trans e) f0 f1 f3 f4 f5
theorem uy {j:Nat}{y:Str}{py spos:Pos} (hN:X.N.Nodup) (hj:X.N[j]?=some y) (hy:X.env.scope.names.lookup y=some .local) (hsw:swapsWith (.ListComp elt [⟨tg,iter,ifs,0⟩] scope pos) (some (.Name y py)) spos.line X.env=pure true)
 (hc:X.calm=true) (ck:mw X.env.scope X.N scope N' L src=true) (hi:PI X tg iter wi) (hg:∀cl C s H ex pn,PG (dI X scope cl C N' s H ex pn) tg g) (hif:∀cl C s H ex pn,tj (dI X scope cl C N' s H ex pn) ifs tt)
 (he:∀cl C s H ex pn,PE (dI X scope cl C N' s H ex pn) elt te) (hs:∀x,foldedSetIterable iter X.env x=pure x:=by intro _;rfl) :
 PS X (.Assign [.Name y py] (.ListComp elt [⟨tg,iter,ifs,0⟩] scope pos) spos) (wD (vL wi L src g tt te) (o6 j)):=by
 intro pins s σ H D I h
 have ck:=qu ck
 obtain ⟨cl,hclos,hsub,hhas⟩:=uV (scope:=scope) (env:=X.env) fun y hy e=>I.ok.has y.1 (ck.free y hy e)
 rw [exec_Assign_Name_used _ _ _ _ hsw]
 refine wpAny_bind (wpAny_standAt (wpAny_bind ?_))
 show wpAny _ X.A (do let _ ←comprehension (.ListComp elt [⟨tg,iter,ifs,0⟩] scope pos) scope X.env _ (newList []) false (eval iter X.env) (some (assign (.Name y py) X.env))) _ _ s
 refine wpAny_bind (wpAny_mono (wpAny_comprehension_free (use:=some (assign (.Name y py) X.env)) (Q:=fun _ s'=>SP X pins D .next s') rfl hs hclos ck.kind ck.loc
  (rC hc ck I hsub hhas hi hg hif he h (RR:=fun acc C=>compPost (model X.prog X.w) X.A X.xe (some (assign (.Name y py) X.env)) (fun _ s'=>SP X pins D .next s') acc C) ?_)) (fun _ s' hq=>wpAny_pure (wpAny_pure hq)) fun _ _ e=>e)
 intro L' C H' f s' m J hn fpC q
 show wpAny _ X.A (assign (.Name y py) X.env (.ref L')) _ _ _
 refine wpAny_assign_Name (rH J hN hj (.inl hy) (v:=.ref L') rfl (fun s2 J2 hsb=>?_) (.inr hy))
 obtain ⟨f0,f1,f2,f3,f4,f5⟩:=fpC
 obtain ⟨a,hsb,ha⟩:=hsb
 have hCa:C≠a:=by
  rcases ha with rfl | ha
  ·exact f1
  ·exact fun z=>f4 _ _ ha z.symm
 refine ⟨m,hn.sameBut hsb hCa,fun h' hsb'=>⟨_,H',?_,q⟩⟩
 exact J2.turned (t':=s2.toks) (fun b o hb e=>(hsb'.2 b hb).trans e) f0 f1 f3 f4 f5
end
end L2
namespace HT
open PySem PySem.Spec PyProof.Rows
section
variable {prog:Program}{w:World}{A:Around}{E:Value→Shared→Prop}{s:Shared}
end
end HT
namespace L2
open PySem PySem.Spec PyProof.Rows
section
variable {X:Cx}{K:PySem.W.Frag}
end
section
variable {X:Cx}{e:Expr}{te:TE}{st:Expr}{ts:TO}{p2 pos:Pos}
end
def jM (H H':Hp):Prop:=∀a us,H a=some (.tup us)→H' a=some (.tup us)
section
variable {H H' H'':Hp}{z n k m:Nat}{v:V}{E:Addr→Prop}{b th th' p:Addr}{xs ys zs:List V}
theorem ag.tp (s:ag H H'):jM H H':=fun a us h=>s a _ h
theorem Ch.tp (c:Ch H p xs H') (hp:H p=some (.lst ys)):jM H H':=fun _ _ h=>c.tup h hp
end
section
variable {E:Addr→Prop}{z:Nat}{H0:Hp}{σ:St}{n k m:Nat}{te tb:TE}{ta:TA}{v:V}{i:Nat}{p:Addr}{xs:List V}{K:PySem.W.Frag}
end
section
variable {b th:Addr}{H0:Hp}{σ:St}{zs:List V}{ta:TA}{te:TE}{n i:Nat}{Q:VK}{K:PySem.W.Frag}
end
theorem fh {te:TE}{i:Nat}{u:TS}{D:cZ}{σ:St}{H:Hp} (h:∀Q:VK,(∀v H',u D (σ.set i (some v)) H'→Q v H')→te σ H Q):kP (wD te (o6 i)) u D σ H:=h _ fun _ _ z=>z
theorem fV {ta:TA}{i j:Nat}{u:TS}{D:cZ}{σ:St}{H:Hp} (h:∀Q:List V→Hp→Prop,(∀v w H',u D ((σ.set i (some v)).set j (some w)) H'→Q [v,w] H')→ta σ H Q):kP (Bz i j ta) u D σ H:=h _ fun _ _ _ z=>⟨_,(),z⟩
theorem iN {α:Type}{P:List α→Prop} (h:∀a,P [a]):∀us:List α,us.length=1→P us:=fun us hl=>by
 cases us with
 | nil=>cases hl
 | cons a r=>cases r with
  | nil=>exact h a
  | cons b r=>simp at hl
theorem eR {α:Type}{P:List α→Prop} (h:∀a b,P [a,b]):∀us:List α,us.length=2→P us:=fun us hl=>by
 cases us with
 | nil=>cases hl
 | cons a r=>exact iN (P:=fun r=>P (a :: r)) (fun b=>h a b) r (by simpa using hl)
theorem nY {α:Type}{P:List α→Prop} (h:∀a b c,P [a,b,c]):∀us:List α,us.length=3→P us:=fun us hl=>by
 cases us with
 | nil=>cases hl
 | cons a r=>exact eR (P:=fun r=>P (a :: r)) (fun b c=>h a b c) r (by simpa using hl)
theorem vQ {α:Type}{P:List α→Prop} (h:∀a b c d,P [a,b,c,d]):∀us:List α,us.length=4→P us:=fun us hl=>by
 cases us with
 | nil=>cases hl
 | cons a r=>exact nY (P:=fun r=>P (a :: r)) (fun b c d=>h a b c d) r (by simpa using hl)
section
variable {X:Cx}{a:Expr}{ta:TA}{p p2 pos pos2:Pos}
end
section
variable {prog:Program}{w:World}{A:Around}{E:Value→Shared→Prop}{s:Shared}
variable {z TI TO i1 i2 l1 l2 T:Addr}{k:Nat}{xs ys:Array Value}{bb:Bool}{c1 c2:Bool}{oT:Obj}
end
section
variable {prog:Program}{w:World}{A:Around}{E:Value→Shared→Prop}{R:Result→Shared→Prop}
variable {z TI TO i1 i2 l1 l2 d:Addr}{xs ys:Array Value}{c1 c2:Bool}{ks:List aV}
end
section
variable {X:Cx}{K:PySem.W.Frag}{a b:Expr}{ta:TA}{p1 p2 p3 p4:Pos}
def valD (kvs:List (aV×V)) (k:aV):Option V:=(kvs.find? fun kv=>decide (kv.1=k)).map (·.2)
theorem KV.valD:∀{kvs:List (aV×V)}{vs:List (aV×Value)} (r:KV kvs vs) (k:aV),jC (valD kvs k) (valueAt vs k)
 | _,_,.nil,_=>trivial
 | p :: ps,q :: qs,.cons h t,k=>by
  obtain ⟨h1,h2⟩:=h
  by_cases e:p.1=k
  ·have e':q.1=k:=h1.symm.trans e
   have b1:L2.valD (p :: ps) k=some p.2:=by simp [L2.valD,List.find?_cons,e]
   have b2:valueAt (q :: qs) k=some q.2:=by simp [valueAt,List.find?_cons,e']
   rw [b1,b2];exact h2
  ·have e':¬q.1=k:=fun z=>e (h1.trans z)
   have b1:L2.valD (p :: ps) k=L2.valD ps k:=by simp [L2.valD,List.find?_cons,e]
   have b2:valueAt (q :: qs) k=valueAt qs k:=by simp [valueAt,List.find?_cons,e']
   rw [b1,b2];exact KV.valD t k
inductive DV (x:V) (y:V) (H:Hp) (Q:VK):Prop
 | mk (d:Addr) (kvs:List (aV×V)) (k:aV) (v:V) (h0:x=.ref d) (h1:y=tS k) (h2:H d=some (.dK kvs)) (h3:valD kvs k=some v) (h4:Q v H)
def EQ:R2:=fun x y H Q=>DV  x y H Q
theorem nz {P:Program}{w:World}{k:aV}{u:Value} (r:aR (tS k) u):(jd P w).is k u=true:=(zL r).1
theorem aJ:lM X EQ:=by
 intro value slice pins s σ H x y v u Q I rx ry h hs
 obtain ⟨d,kvs,k,z,rfl,rfl,hd,he,q⟩:=h
 cases rx
 obtain ⟨_,_,vs,rel,dd⟩:=(show bi X.prog X.w H s.heap d (.dK kvs) from I.hok d _ hd)
 have hv:=rel.valD k
 rw [he] at hv
 obtain ⟨w',hw,rw'⟩:=jC.some_of hv
 exact subscriptTail_builtinR (x:=w') dd.typeIs PySem.F.slot_dict_getitem.lookup (wpAny_getItem_of (nz ry) dd.mapOf hw ⟨rfl,z,H,I.tok _,rw',q⟩) hs
end
section
variable {X:Cx}
end
section
variable {prog:Program}{w:World}{A:Around}{E:Value→Shared→Prop}{s:Shared}
variable {n l1 l2 l3 T:Nat}{k:Nat}{xs ys zs:Array Value}{bb:Bool}{oT:Obj}
end
section
variable {prog:Program}{w:World}{A:Around}{E:Value→Shared→Prop}{s:Shared}
variable {n l1 l2 l3:Nat}{k:Nat}{xs ys zs:Array Value}
end
section
variable {prog:Program}{w:World}{A:Around}{E:Value→Shared→Prop}{R:Result→Shared→Prop}
variable {n l1 l2 l3:Nat}{xs ys zs:Array Value}
end
section
variable {prog:Program}{w:World}{A:Around}{E:Value→Shared→Prop}{s:Shared}
end
section
variable {X:Cx}{pins:List (Addr×Obj)}{σ:St}{H:Hp}{s:Shared}{h':Heap}
end
section
variable {X:Cx}{K:PySem.W.Frag}{a b c:Expr}{ta:TA}{p1 p2 p3 p4:Pos}
end
section
variable {prog:Program}{w:World}{A:Around}{E:Value→Shared→Prop}{s:Shared}
end
section
variable {prog:Program}{w:World}{A:Around}{E:Value→Shared→Prop}{R:Result→Shared→Prop}
variable {l it d:Nat}{vs:Array Value}{ks:List aV}{us:List Value}
end
section
variable {X:Cx}
end
section
variable {X:Cx}
inductive Ay (x:V) (y:V) (H:Hp) (Q:VK):Prop
 | mk (a c:Addr) (xs:List V) (h0:x=.ref a) (h1:y=.ref c) (h2:H a=some (.lst xs)) (h3:H c=some (.lst [])) (h4:Q (.bl (!xs.isEmpty)) H)
def A4:R2:=fun x y H Q=>Ay  x y H Q
theorem yC (hu:X.A.units+64<cLine):cF X (compareOp .NotEq) A4:=by
 intro pins s σ H x y v u Q I rx ry h
 obtain ⟨a,c,xs,rfl,rfl,ha,hc,q⟩:=h
 cases rx
 cases ry
 obtain ⟨z,its,n,r,hl,e⟩:=I.lstM ha
 obtain ⟨z2,its2,n2,r2,hl2,e2⟩:=I.lstM hc
 have h0:its2=[]:=List.eq_nil_of_length_eq_zero hl2.symm
 subst h0
 have l1:s.heap.IsList a its.toArray:=⟨_,e,rfl,()⟩
 have l2:s.heap.IsList c (#[]:Array Value):=⟨_,e2,rfl,()⟩
 have hu':X.A.units<cLine:=by trivial
 cases xs with
 | nil=>
  have:its=[]:=List.eq_nil_of_length_eq_zero hl.symm
  subst this
  refine (PySem.SeqAt.RcNeAt.lists (e:=fun _=>true) l1 l2 rfl hu' (fun j j1 j2=>absurd j1 (by simp))) X.prog X.w X.xe _ ?_
  exact ⟨.bl _,H,I,rfl,q⟩
 | cons y ys=>
  refine (PySem.SeqAt.RcNeAt.lists_lengths l1 l2 (by simp at hl ⊢;exact fun z=>by rw [z] at hl;simp at hl) hu') X.prog X.w X.xe _ ?_
  exact ⟨.bl _,H,I,rfl,q⟩
end
theorem EJ {α:Type}{P:List α→Prop} (h:∀a b c d e,P [a,b,c,d,e]):∀us:List α,us.length=5→P us:=fun us hl=>by
 cases us with
 | nil=>cases hl
 | cons a r=>exact vQ (P:=fun r=>P (a :: r)) (fun b c d e=>h a b c d e) r (by simpa using hl)
end L2
namespace L2
open PySem PySem.Spec PyProof.Rows
def cG (kvs:List (aV×V)) (k:aV) (v:V):List (aV×V):=if kvs.any (fun kv=>decide (kv.1=k)) then kvs.map (fun kv=>if kv.1=k then (kv.1,v) else kv) else kvs++[(k,v)]
theorem KV.any {kvs:List (aV×V)}{vs:List (aV×Value)} (r:KV kvs vs) (k:aV):kvs.any (fun kv=>decide (kv.1=k))=vs.any (fun kv=>decide (kv.1=k)):=by
 induction r with
 | nil=>rfl
 | cons h t ih=>rw [List.any_cons,List.any_cons,ih,h.1]
theorem rO {kvs:List (aV×V)}{vs:List (aV×Value)} (r:KV kvs vs) {k:aV}{v:V}{u:Value} (rv:aR v u):KV (cG kvs k v) (stored vs k u):=by
 unfold cG stored
 rw [r.any k]
 have m:KV (kvs.map (fun kv=>if kv.1=k then (kv.1,v) else kv)) (vs.map (fun kv=>if kv.1=k then (kv.1,u) else kv)):=by
  induction r with
  | nil=>exact .nil
  | @cons p q ps qs h t ih=>
   refine .cons ?_ ih
   obtain ⟨pk,pv⟩:=p
   obtain ⟨qk,qv⟩:=q
   obtain ⟨h1,h2⟩:=h
   obtain rfl:pk=qk:=h1
   show (if pk=k then (pk,v) else (pk,pv)).1=(if pk=k then (pk,u) else (pk,qv)).1∧aR (if pk=k then (pk,v) else (pk,pv)).2 (if pk=k then (pk,u) else (pk,qv)).2
   by_cases c:pk=k
   ·rw [if_pos c,if_pos c];exact ⟨rfl,rv⟩
   ·rw [if_neg c,if_neg c];exact ⟨rfl,h2⟩
 have a:KV (kvs++[(k,v)]) (vs++[(k,u)]):=by
  clear m
  induction r with
  | nil=>exact .cons ⟨rfl,rv⟩ .nil
  | cons h t ih=>exact .cons h ih
 cases vs.any (fun kv=>decide (kv.1=k)) with
 | true=>exact m
 | false=>exact a
theorem wE {kvs:List (aV×V)}{k:aV}{v:V} (h:kvs.length<sizeLine):(cG kvs k v).length≤sizeLine:=by
 unfold cG
 split
 ·rw [List.length_map];trivial
 ·rw [List.length_append];exact h
section
variable {X:Cx}
theorem ad.dset {pins:List (Addr×Obj)}{σ:St}{H:Hp}{s:Shared}{d:Addr}{kvs kvs':List (aV×V)}{vs':List (aV×Value)}{h':Heap}{t':Nat} (I:ad X pins σ H s) (hH:H d=some (.dK kvs)) (hm:(d==sysModules)=false) (hz:kvs'.length≤sizeLine)
 (hv:KV kvs' vs') (hd:h'.DictOf (jd X.prog X.w) d vs') (sb:Heap.SameBut d s.heap h'):ad X pins σ (aH H d (.dK kvs')) { s with heap:=h',toks:=t' }:=by
 obtain ⟨o,es,ep,ho,q⟩:=hd
 refine I.write (x:=d) (e:=d) (by rw [hH];exact trivial) (.inl rfl) (fun b u hb hu=>(sb.2 b hb).trans hu) ⟨_,ho⟩ ?_
 exact ⟨hz,hm,vs',hv,o,es,ep,ho,q⟩
structure pi (H:Hp) (p:Addr) (o:HO) (H':Hp):Prop where
 at':H' p=some o
 ol:∀a u,a≠p→H a=some u→H' a=some u
 fre:∀a,a≠p→H a=none→H' a=none
theorem pi.mk' {H:Hp}{p:Addr}{o:HO}:pi H p o (aH H p o):=⟨au,fun a u n h=>by rw [ao n];exact h,fun a n h=>by rw [ao n];exact h⟩
inductive BX (o:V) (i:V) (v:V) (H:Hp) (Q:(Hp→Prop)):Prop
 | mk (d:_) (kvs:_) (k:_) (h0:o=.ref d) (h1:i=tS k) (h2:H d=some (.dK kvs)) (h3:kvs.length≤4000) (h4:∀H',pi H d (.dK (cG kvs k v)) H'→Q H')
def Di:V→V→V→Hp→(Hp→Prop)→Prop:=fun o i v H Q=>BX  o i v H Q
theorem td:wz X Di:=by
 intro pins s σ H o i v ov iv u Q I ro ri rv h
 obtain ⟨d,kvs,k,rfl,rfl,hd,hl,q⟩:=h
 cases ro
 obtain ⟨hz,hm,vs,rel,dd⟩:=(show bi X.prog X.w H s.heap d (.dK kvs) from I.hok d _ hd)
 exact wpAny_setItem_pairs (hsz:=by rw [←rel.length];exact hz) (nz ri) dd fun h' hd' sb=>⟨_,I.dset hd hm (wE (by rw [sizeLine_eq];trivial)) (rO rel rv) hd' sb,q _ .mk'⟩
end
section
variable {prog:Program}{w:World}{A:Around}{R:Result→Shared→Prop}{s:Shared}
end
section
variable {X:Cx}{kx vx tg iter:Expr}{ifs:List Expr}{scope:Scope}{pos:Pos}{N':List Str}{L:Nat}{src:List Nat}{wi:TI}{g:TG}{tt:TT}{tk tv:TE}
end
end L2
namespace KM
variable {ls:List (List Nat)}{es done:List Edge}{W u:List Nat→Rat}{S:List (List Nat)}{q:List Nat}{m:Rat}
end KM
namespace L2
open PySem PySem.Spec PyProof.Rows
section
variable {z:Nat}{E:Addr→Prop}{H H':Hp}{n m k:Nat}{v:V}{xs ys:List V}
end
section
variable {X:Cx}{K:PySem.W.Frag}
end
section
variable {X:Cx}
inductive AY (x:V) (vs:List V) (H:Hp) (Q:VK):Prop
 | mk (l:_) (xs:_) (y:_) (h0:x=.ref l) (h1:vs=[]) (h2:H l=some (.lst (xs++[y]))) (h3:∀H',Ch H l xs H'→Q y H')
def Dt:V→List V→Hp→VK→Prop:=fun x vs H Q=>AY  x vs H Q
theorem uX:vm X "list.pop" Dt:=fun pins s σ H x vs v us Q I rx rv ⟨l,xs,y,e1,e2,h,q⟩=>Cp pins s σ H x vs v us Q I rx rv ⟨l,xs++[y],y,e1,e2,h,by simp,by
 rw [List.dropLast_concat];exact q _ .mk'⟩
end
end L2
namespace L2
open PySem
end L2
namespace L2
open PySem PySem.Spec PyProof.Rows
section
variable {prog:Program}{w:World}{A:Around}{E:Value→Shared→Prop}{hp:Heap}{gs:Array GenState}{dr:Drawn}{tk:Nat}{os:OsState}
variable {nm qn:Str}{C N:Addr}{bs bm bB:List Value}{hd:Bool}{sn:List Str}{sb:List Value}{ab:Bool}{cl:Option Bool}{dd:Option Addr}{k0 k1 k2 k3 k5:Option Value}{B nw ni:String}
end
end L2
namespace L2
open PySem PySem.Spec PyProof.Rows PySem.W
section
variable {prog:Program}{w:World}{A:Around}{E:Value→Shared→Prop}{s:Shared}{K:Frag}{x C:Addr}{ox:Obj}{od:Option Obj}{name:Str}{fill expr:Bool}
abbrev nR (K:Frag) (C:Addr):Bool:=findIn K (.ref C) "__getattribute__" == some (some (.builtin "BaseException.__getattribute__")) && findIn K (.ref C) "__getattr__" == some none && mroIn K C (.type "BaseException")==some true
theorem vn {K:Frag}{C:Addr} (h:nR K C=true):findIn K (.ref C) "__getattribute__" = some (some (.builtin "BaseException.__getattribute__"))∧findIn K (.ref C) "__getattr__" = some none∧mroIn K C (.type "BaseException")=some true:=by
 simp only [nR,Bool.and_eq_true,beq_iff_eq] at h
 exact ⟨h.1.1,h.1.2,h.2⟩
theorem xq {tk:Tok}{R:Result→Shared→Prop}{f:Builtin.ObjectAttr.Found} (X:K.In s.heap) (I:InstAt s.heap x ox C od) (g:nR K C=true) (hf:findObj K C od name=some f)
 (h:wpAny (model prog w) A.in1 (match f with | .value v=>ret v | .bind g a=>Builtin.ObjectAttr.bindTo g a (.ref x) (.ref C) | .missing=>unsupported "") (fun fin s'=>match fin with | .done (.ret v)=>R (.ok (.ret v)) s' | _=>False) (fun _ _=>False) s) (hm:f≠.missing) :
 codeAny (model prog w) A (.call (.builtin "BaseException.__getattribute__") ⟨[.ref x,.str name tk],[]⟩) R s:=by
 obtain ⟨g1,g2,g3⟩:=vn g
 have sub:Looks (model prog w) s.heap (isInstance (.ref x) (.type "BaseException")) true:=I.type.andThen (looks_mroIn X g3)
 refine codeAny_call_builtin PySem.F.attr_ValueError.ga.plain PySem.F.entry_bexc_ga (@check_slot (model prog w) _ _ s "BaseException.__getattribute__" "BaseException" "__getattribute__" (.ref x) [.str name tk] [] _ (by nofun) (by nofun) sub (PySem.F.args_bexc_ga _ _) ?_)
 have L1:=looks_find (M:=model prog w) X I hf
 have L0:=I.type (M:=model prog w)
 unfold Builtin.«object.__getattribute__»
 refine wpAny_bind (wpAny_pure (wpAny_bind (wpAny_pure (wpAny_bind (L0.here (wpAny_bind (L1.here ?_)))))))
 cases f with
 | missing=>exact absurd rfl hm
 | value v=>
  refine wpAny_mono h (fun fin s' z=>?_) fun _ _ z=>z.elim
  rcases fin with (_ | _ | _ | _) | _ <;> first | exact z | exact z.elim
 | bind g a=>
  refine wpAny_mono h (fun fin s' z=>?_) fun _ _ z=>z.elim
  rcases fin with (_ | _ | _ | _) | _ <;> first | exact z | exact z.elim
theorem AU {tk:Tok}{Q:Value→Shared→Prop}{f:Builtin.ObjectAttr.Found} (X:K.In s.heap) (I:InstAt s.heap x ox C od) (g:nR K C=true) (hf:findObj K C od name=some f) (hm:f≠.missing)
 (h:wpAny (model prog w) A.in1 (match f with | .value v=>ret v | .bind g a=>Builtin.ObjectAttr.bindTo g a (.ref x) (.ref C) | .missing=>unsupported "") (fun fin s'=>match fin with | .done (.ret v)=>wpAny (model prog w) A (handedOut v) Q E s' | _=>False) (fun _ _=>False) s) :
 wpAny (model prog w) A (getAttrBy (.ref x) (.str name tk) fill expr) Q E s:=by
 obtain ⟨g1,g2,g3⟩:=vn g
 have L0:=I.type (M:=model prog w)
 have L1:=looks_findIn (M:=model prog w) X g1
 have L2:=looks_findIn (M:=model prog w) X g2
 unfold getAttrBy
 refine wpAny_holding (wpAny_bind (L0.here (wpAny_bind (L1.here ?_))))
 dsimp only
 rw [show (onTheHeap (Value.ref C) && Value.builtin "BaseException.__getattribute__" == Value.builtin "object.__getattribute__")=false from by rw [show (Value.builtin "BaseException.__getattribute__" == Value.builtin "object.__getattribute__")=false from by nofun,Bool.and_false],if_neg (by decide)]
 unfold getAttrByItsOwn hookBefore
 rw [if_pos (show onTheHeap (Value.ref C)=true from rfl)]
 refine wpAny_bind (L2.here (wpAny_bind (wpAny_attempt (wpAny_holding ?_))))
 unfold callGetattribute
 rw [show (expr && onTheHeap (Value.builtin "BaseException.__getattribute__"))=false by cases expr <;> rfl,if_neg (by decide)]
 unfold boundAndCalled
 rw [PySem.F.attr_ValueError.ga.bind]
 refine wpAny_bind (wpAny_pure (wpAny_call (xq X I g hf (wpAny_mono h (fun fin s' z=>?_) fun _ _ z=>z) hm)))
 rcases fin with (_ | _ | _ | _) | _ <;> first | exact z | exact z.elim
abbrev k6 (K:Frag) (C:Addr):Bool:=nR K C && (clsIn K C).isSome && findIn K (.ref C) "__class__" == some (some (.builtin "object.__class__")) && specialIn K (.builtin "object.__class__") "__get__" == some (some (.builtin "getset_descriptor.__get__")) && takesIn K (.builtin "object.__class__")==some true && mroIn K C (.type "object")==some true
theorem o5 {K:Frag}{C:Addr} (h:k6 K C=true):nR K C=true∧(clsIn K C).isSome=true∧findIn K (.ref C) "__class__" = some (some (.builtin "object.__class__"))∧specialIn K (.builtin "object.__class__") "__get__" = some (some (.builtin "getset_descriptor.__get__"))∧takesIn K (.builtin "object.__class__")=some true∧mroIn K C (.type "object")=some true:=by
 unfold k6 at h
 simp only [Bool.and_eq_true,beq_iff_eq] at h
 obtain ⟨⟨⟨⟨⟨a,b⟩,c⟩,d⟩,e⟩,f⟩:=h
 exact ⟨by unfold nR;simp only [Bool.and_eq_true,beq_iff_eq];exact a,b,c,d,e,f⟩
theorem vz (g:k6 K C=true):findObj K C od "__class__" = some (.bind (.builtin "getset_descriptor.__get__") (.builtin "object.__class__")):=by
 obtain ⟨_,hc,ha,hg,ht,_⟩:=o5 g
 obtain ⟨cd,hc⟩:=Option.isSome_iff_exists.mp hc
 unfold findObj
 rw [hc,Option.bind_some,ha,Option.bind_some]
 dsimp only
 rw [hg,Option.bind_some]
 dsimp only
 rw [ht,Option.bind_some]
theorem zF {Q:Option Value→Shared→Prop} (X:K.In s.heap) (I:InstAt s.heap x ox C od) (g:k6 K C=true) (h:Q (some (.ref C)) { s with toks:=s.toks+1 }):wpAny (model prog w) A (getAttr? (.ref x) "__class__") Q E s:=by
 obtain ⟨g0,_,_,_,_,gm⟩:=o5 g
 unfold getAttr? getAttrBy?
 refine wpAny_bind (wpAny_mkText (wpAny_bind (wpAny_attempt (AU (s:={ s with toks:=s.toks+1 }) X I g0 (vz g) (fun z=>nomatch z) ?_))))
 show wpAny _ _ (holding [_] (call _ _) >>= ret) _ _ _
 refine wpAny_bind (wpAny_holding (wpAny_call (class_get (s:={ s with toks:=s.toks+1 }) (ox:=ox) (od:=od) X I gm (wpAny_pure (handed_on rfl (wpAny_pure h))))))
theorem ue (g:k6 K C=true):KitX K (.ref x) (.ref C) (fun h=>bw fun ox od=>InstAt h x ox C od) where
 ty:=fun _ _ _ ⟨_,_,I⟩=>I.type
 it:=fun _ _ X _=>by
  obtain ⟨cd,hc⟩:=Option.isSome_iff_exists.mp (o5 g).2.1
  unfold clsIn at hc
  split at hc
  ·rename_i ho
   intro A' Q' E' s' k q
   unfold isType loadHead
   exact wpAny_bind (wpAny_loadPart (k _ _ (X _ _ ho)) (wpAny_pure q))
  ·cases hc
 ne:=fun h tp dd its n sl X htp=>by
  obtain ⟨cd,hc⟩:=Option.isSome_iff_exists.mp (o5 g).2.1
  refine Bool.eq_false_iff.mpr fun q=>?_
  obtain rfl:C=tp:=Value.ref.inj (beq_iff_eq.mp q)
  unfold clsIn at hc
  split at hc
  ·rename_i ho
   have z:=(X _ _ ho).symm.trans htp
   cases z
  ·cases hc
 ca:=fun X ⟨_,_,I⟩ k=>zF X I g k
end
end L2
namespace L2
open PySem PySem.Spec PyProof.Rows PySem.W PySem.Builtin.ObjectAttr
def rg:List Value→Bool
 | .ref _ :: r=>rg r
 | l=>l==[.type "ValueError",.type "Exception",.type "BaseException",.type "object"]
abbrev vJ (K:Frag) (C:Addr) (name:Str):Bool:=(clsIn K C).any (fun cd=>rg cd.mro && cd.hasDict) && findIn K (.ref C) "__setattr__" == some (some (.builtin "object.__setattr__")) && takerIn K C name==some none && mroIn K C (.type "object")==some true
section
variable {prog:Program}{w:World}{A:Around}{E:Value→Shared→Prop}{s:Shared}{K:Frag}{x C:Addr}{ox:Obj}{name:Str}{v:Value}
end
abbrev za:List Value:=[.type "ValueError",.type "Exception",.type "BaseException",.type "object"]
def yu (d:Data):Option ClassData:=match d with
 | .cls cd=>some cd
 | _=>none
theorem AN {d:Data}{cd:ClassData} (h:yu d=some cd):d=.cls cd:=by
 cases d with
 | cls c=>cases h;rfl
 | _=>cases h
theorem Ev {α:Type}{ls:List α} (h:ls.length=6):zh fun a b c d e f=>ls=[a,b,c,d,e,f]:=by
 match ls,h with
 | [a,b,c,d,e,f],_=>exact ⟨a,b,c,d,e,f,rfl⟩
theorem Fd {α:Type}{sl:Array α}{x:α} (h:sl.size=6) (k:sl[4]?=some x):zm fun a b c d f=>sl=#[a,b,c,d,x,f]:=by
 obtain ⟨l⟩:=sl
 obtain ⟨a,b,c,d,e,f,rfl⟩:=Ev (show l.length=6 from h)
 obtain rfl:e=x:=Option.some.inj k
 exact ⟨a,b,c,d,f,rfl⟩
def d0 (K:Frag) (C:Addr) (ini:Option Value):Bool:=match K.lookup C with
 | none=>false
 | some o=>match yu o.data with
  | none=>false
  | some cd=>(o.cls==.type "type") && ((cd.mro.head?==some (.ref C)) && (!cd.hasDel && (tailIn K za cd.mro.tail && (nsOkIn K cd.ns && (nsIn K cd.ns "__init__" == some ini && (o.slots.size==6 && o.slots[4]?==some (some (.builtin "ValueError.__new__"))))))))
theorem BF {K:Frag}{h:Heap}{N:Addr}{mp:Str→Option Value}{n:Str}{v:Value} (X:K.In h) (G:h.Ns N mp) (e:nsIn K N n=some (some v)):mp n=some v:=by
 obtain ⟨ob,es,ep,ho,hd,_,f⟩:=G
 unfold nsIn at e
 split at e
 ·rename_i q
  have z:=X _ _ q
  rw [ho] at z
  cases z
  cases hd
  split at e
  ·rename_i he
   cases e
   rw [←f]
   unfold nsFind findBy
   rw [←Array.find?_toList,he];rfl
  ·split at e <;> cases e
 ·cases e
theorem zl {K:Frag}{h:Heap}{C:Addr}{ini:Option Value} (X:K.In h) (q:d0 K C ini=true):∃nm qn N bs bm hd sn sb ab cl dd k0 k1 k2 k3 k5 mN,
 h.get? C=some (excClassObj nm qn C N bs bm hd sn sb ab cl dd k0 k1 k2 k3 k5 "ValueError.__new__")∧h.Ns N mN∧OwnTail h za bm∧mN "__init__" = ini:=by
 unfold d0 at q
 cases ho:K.lookup C with
 | none=>rw [ho] at q;cases q
 | some o=>
  rw [ho] at q
  dsimp only at q
  cases hc:yu o.data with
  | none=>rw [hc] at q;cases q
  | some cd=>
   rw [hc] at q
   dsimp only at q
   rw [Bool.and_eq_true,Bool.and_eq_true,Bool.and_eq_true,Bool.and_eq_true,Bool.and_eq_true,Bool.and_eq_true,Bool.and_eq_true,beq_iff_eq,beq_iff_eq,beq_iff_eq,beq_iff_eq,beq_iff_eq,Bool.not_eq_true'] at q
   obtain ⟨q1,q2,dl,tl,ok,hi,z1,z2⟩:=q
   obtain ⟨k0,k1,k2,k3,k5,e6⟩:=Fd z1 z2
   have ed:=AN hc
   obtain ⟨oc,dd,od,sl⟩:=o
   dsimp only at q1 ed e6
   subst q1 ed e6
   obtain ⟨nm,bs,mro,ns,qn,hd,sn,sub,ab,col,del⟩:=cd
   dsimp only at q2 dl tl ok hi
   subst dl
   cases mro with
   | nil=>cases q2
   | cons m bm=>
    obtain rfl:m=.ref C:=Option.some.inj q2
    have nm1:h.Ns ns (h.nsMap ns):=.of_isNs (isNs_of_in X ok)
    refine ⟨nm,qn,ns,bs,bm,hd,sn,sub,ab,col,dd,k0,k1,k2,k3,k5,_,X _ _ ho,nm1,tail_of_in X tl,?_⟩
    cases ini with
    | none=>exact nsMap_none_of_in X ok hi
    | some v=>exact BF X nm1 hi
section
variable {prog:Program}{w:World}{A:Around}{E:Value→Shared→Prop}{s:Shared}{K:Frag}{x C:Addr}{ox:Obj}{od:Option Obj}{a0:Value}
end
end L2
namespace L2
open PySem PySem.Spec PyProof.Rows
theorem bi.there {P:Program}{w:World}{H:Hp}{h:Heap}{a:Addr}{o:HO} (x:bi P w H h a o):∃u,h.get? a=some u:=by
 cases o with
 | lst xs=>obtain ⟨_,_,_,_,e⟩:=x;exact ⟨_,e⟩
 | tup xs=>obtain ⟨_,_,_,⟨_,e,_⟩,_⟩:=x;exact ⟨_,e⟩
 | dK kvs=>obtain ⟨_,_,_,_,o,_,_,e,_⟩:=x;exact ⟨_,e⟩
 | dT kvs=>obtain ⟨_,_,_,_,o,_,_,e,_⟩:=x;exact ⟨_,e⟩
 | set S n=>obtain ⟨o,_,_,_,e,_⟩:=x;exact ⟨_,e⟩
 | ins C dx fs=>obtain ⟨_,_,_,e,_⟩:=x;exact ⟨_,e⟩
 | own y=>obtain ⟨_,e⟩:=x;exact ⟨_,e⟩
 | xd fs=>obtain ⟨_,⟨_,_,_,e,_⟩,_⟩:=x;exact ⟨_,e⟩
 | rng lo hi=>obtain ⟨_,_,_,e⟩:=x;exact ⟨_,e⟩
 | frz ob u=>obtain ⟨e,_⟩:=x;exact ⟨_,e⟩
 | tbl ps=>exact ⟨_,show h.get? a=some _ from x⟩
 | met f y=>exact ⟨_,show h.get? a=some _ from x⟩
 | ext φ=>obtain ⟨_,e,_⟩:=x;exact e
theorem c8.none' {P:Program}{w:World}{H:Hp}{h:Heap}{a:Addr} (x:c8 P w H h) (e:h.get? a=none):H a=none:=by
 cases q:H a with
 | none=>rfl
 | some u=>obtain ⟨o,z⟩:=(x a u q).there;rw [e] at z;cases z
section
variable {X:Cx}{pins:List (Addr×Obj)}{σ:St}{H:Hp}{s:Shared}{h':Heap}
theorem ad.laidN {a:Addr}{o:HO}{t':Nat} (I:ad X pins σ H s) (k:∀b u,s.heap.get? b=some u→h'.get? b=some u) (hn:s.heap.get? a=none) (new:bi X.prog X.w (aH H a o) h' a o) :
 ad X pins σ (aH H a o) { s with heap:=h',toks:=t' }:=by
 have hH:=I.hok.none' hn
 have ne:∀{b:Addr}{u:HO},H b=some u→b≠a:=fun q z=>by rw [z,hH] at q;cases q
 refine I.un ⟨fun b u q _ _ _=>k b u q,fun b u q _ _ _=>⟨u.slots,k b u q⟩,fun b u q n _=>?_,fun b u q _=>⟨u,k b u q⟩,fun b xs q=>?_,fun b u xs q=>?_,fun b ps q=>⟨#[],?_⟩⟩ fun b u e=>?_
 ·rw [ao (fun z=>by rw [z,hn] at q;cases q)];exact n
 ·rw [ao (ne q)];exact q
 ·rw [ao (ne q)];exact q
 ·rw [ao (ne q),q];simp
 ·by_cases hb:b=a
  ·subst hb;rw [au] at e;cases e;exact new
  ·rw [ao hb] at e
   exact (I.hok b u e).stay (fun c v _ q=>k c v q) (fun c q=>by rw [ao (ne q)];exact q) fun c xs q=>by rw [ao (ne q)];exact q
end
def yJ (x C:Addr) (dx:Option Addr) (h:Heap):Prop:=bw fun a0 sl=>h.get? x=some ⟨.ref C,dx,.fields #[a0,.none,.none,.none,.bool false,.none],sl⟩
def lq (x C:Addr) (dx:Option Addr):HO:=.ext (yJ x C dx)
theorem Az {P:Program}{w:World}{H:Hp}{h:Heap}{x C:Addr}{dx:Option Addr} (e:yJ x C dx h):bi P w H h x (lq x C dx):=
 ⟨e,let ⟨_,_,q⟩:=e;⟨_,q⟩,fun h1 h2 ⟨a0,sl,q⟩ k=>⟨a0,sl,k _ q⟩⟩
theorem vh {P:Program}{w:World}{H:Hp}{h:Heap}{x C:Addr}{dx:Option Addr} (ok:c8 P w H h) (e:H x=some (lq x C dx)):yJ x C dx h:=(ok x _ e).1
section
variable {X:Cx}{C f:Addr}{x:Str}{p pos:Pos}{e:Expr}{es:List Expr}{t:TA}{k:Nat}{fd:FuncData}{ps:List Str}{sp:Sp}{E:XK}
def C5 (C:Addr) (t:TA):TE:=fun σ H Q=>t σ H fun vs H1=>vs.length≤10000∧∀y H',Nw H1 y (lq y C none) H'→Q (.ref y) H'
theorem yL {pins:List (Addr×Obj)}{σ:St}{H:Hp}{s:Shared}{Q:VK}{us:List Value}{vs:List V} (q:d0 X.K C none=true) (I:ad X pins σ H s) (r:av vs us) (hl:vs.length≤10000)
 (h:∀y H',Nw H y (lq y C none) H'→Q (.ref y) H'):wpAny (model X.prog X.w) X.A (call (.ref C) us) (EP X pins σ Q) X.xe s:=by
 obtain ⟨nm,qn,N,bs,bm,hd,sn,sb,ab,cl,dd,k0,k1,k2,k3,k5,mN,eC,eN,T,eI⟩:=zl I.kIn q
 have FB:=PySem.F.excBase_ValueError
 obtain ⟨hp,gs,dr,tk,os⟩:=s
 refine wpAny_call_exc_subT FB T eC eN eI (fun h1 y m=>?_) (by rw [←r.length];exact gZ hl)
 obtain ⟨a0,e1,_,_⟩:=m.there
 exact ⟨.ref y,_,I.laidN (t':=tk) m.keeps m.new (Az ⟨_,_,e1⟩),rfl,h y _ (.mk' (I.hok.none' m.new))⟩
theorem lS (q:d0 X.K C none=true) (kp:PySem.W.keepIn X.K (.ref C)=true) (hg:Gl X x) (hm:X.mg x=some (.ref C)) (ha:PA X (e :: es) t) (hdb:(x==("__debug__" : Str))=false:=by decide)
 (he:starEach (e :: es) X.env=(false,eval e X.env) :: starEach es X.env:=by rfl) (hpl:(backTo pos (starEach es X.env)).any (·.1)=false:=by rfl):PE X (.Call (.Name x p) (e :: es) [] pos) (C5 C t):=by
 intro pins s σ H Q I h
 refine wpAny_Call_Name_kw (ja I hg hm ?_ hdb)
 exact PySem.W.callWith_K (h₀:=X.base) I.ok.mod.kin kp (aO (ha pos pins s σ H _ I h) fun us s1 ⟨vs,H1,I1,r,hl,q1⟩=>⟨I1.kIn,yL q I1 r hl q1⟩) he hpl
theorem mF {H:Hp}{a:Addr}{o:HO} (h:H a=some o):aH H a o=H:=by
 funext b
 unfold aH
 split
 ·rename_i z;rw [z,h]
 ·rfl
abbrev CI (K:PySem.W.Frag) (B:Addr):Bool:=PySem.W.specialIn K (.ref B) "__getattribute__" == some (some (.builtin "type.__getattribute__")) && PySem.W.readsIn K B (.type "type") && (match PySem.W.findCls K (.ref B) (.type "type") "__init__" with | some (.val v)=>v==.builtin "ValueError.__init__" | _=>false)
abbrev vt (K:PySem.W.Frag) (C:Addr) (f:Str):Bool:=nR K C && (PySem.W.clsIn K C).any (·.hasDict) && PySem.W.findIn K (.ref C) f==some none
theorem kj (hg:Gl X x) (hm:X.mg x=some (.ref C)) (hdb:(x==("__debug__" : Str))=false:=by decide):PE X (.Name x p) (tC (.ref C)):=fun pins s σ H Q I h=>ja I hg hm ⟨.ref C,H,I,rfl,h⟩ hdb
def yN:V→Option Value
 | .ref a=>some (.ref a)
 | .ty T=>some (.type T)
 | _=>none
end
theorem oK:bootBuiltins "ValueError" = some (.type "ValueError"):=by nofun
def dc:Stmt→Nat→Stmt
 | .ClassDef _ _ _ body _ _ _ _ _ _ _,j=>body.getD j (.Pass ⟨0,0,0,0⟩)
 | _,_=>.Pass ⟨0,0,0,0⟩
def mn (K:PySem.W.Frag) (cs:List Addr) (g:Addr):Bool:=decide cs.Nodup && cs.all fun c=>k6 K c && (PySem.W.kitOne K (.ref c) (.ref g)==some true && (PySem.W.kitOne K (.ref c) (.type "ValueError")==some true && cs.all fun d=>PySem.W.kitOne K (.ref c) (.ref d)==some (decide (c=d))))
theorem yi {K:PySem.W.Frag}{cs:List Addr}{g:Addr} (h:mn K cs g=true):cs.Nodup:=of_decide_eq_true (Bool.and_eq_true _ _▸h).1
theorem tm {K:PySem.W.Frag}{cs:List Addr}{g c:Addr} (h:mn K cs g=true) (hc:c∈cs):k6 K c=true∧PySem.W.kitOne K (.ref c) (.ref g)=some true∧PySem.W.kitOne K (.ref c) (.type "ValueError")=some true∧∀d∈cs,PySem.W.kitOne K (.ref c) (.ref d)=some (decide (c=d)):=by
 unfold mn at h
 rw [Bool.and_eq_true,List.all_eq_true] at h
 have z:=h.2 c hc
 obtain ⟨z1,z⟩:=Bool.and_eq_true_iff.mp z
 obtain ⟨z2,z⟩:=Bool.and_eq_true_iff.mp z
 obtain ⟨z3,z⟩:=Bool.and_eq_true_iff.mp z
 exact ⟨z1,beq_iff_eq.mp z2,beq_iff_eq.mp z3,fun d hd=>beq_iff_eq.mp (List.all_eq_true.mp z d hd)⟩
section
variable {X:Cx}
end
def lU (h:Heap) (a T:Addr) (C:Value) (dx:Option Addr) (fl:Value):Prop:=
 mW fun vs sl oT ts=>h.get? a=some ⟨C,dx,.fields vs,sl⟩∧vs[1]?=some (.ref T)∧T≠a∧h.get? T=some oT∧oT.data=.fields ts∧ts[3]?=some fl
def Kp (h h':Heap) (bad fs:List Addr):Prop:=∀b o,b∉bad→h.get? b=some o→(∃sl,h'.get? b=some { o with slots:=sl })∧(b∉fs→h'.get? b=some o)
def Ci (head:Value) (L:Addr) (pl:List Value):Obj:={ cls:=.type "traceback",dict:=none,data:=.fields ([head,.ref L,.none,rawInt L,.none]++(if pl.isEmpty then List.replicate 6 Value.none else pl)).toArray }
section
variable {M:Model}{A:Around}{E:Value→Shared→Prop}{s:Shared}{base:Heap}{env:Env}{outer:List Env}{L a T:Addr}{C head:Value}{dx:Option Addr}{vs:Array Value}{sl:Array (Option Value)}{hn:Bool}{Q:Unit→Shared→Prop}
theorem q9 (hfr:A.frames=some (env :: outer)) (hl:s.heap.FunFrames base (env :: outer)) (hf:env.frame=some L) (he:s.heap.get? a=some ⟨C,dx,.fields vs,sl⟩) (hz:1<vs.size)
 (h:∀h' T,lU h' a T C dx (rawInt L)→T=s.heap.objs.size→Kp s.heap h' [a] (gb (env :: outer))→Q () { s with heap:=h' }) :
 wpAny M A (do let f ←frameOf env;let pl ←entryPlaceOf L hn;let b ←EntryCells.newEntry head f .none (rawInt L) .none pl;setField (.ref a) 1 b) Q E s:=by
 have na:a∉gb (env :: outer):=fun z=>by
  obtain ⟨_,o,ho,q⟩:=hl.mem z
  rw [he] at ho
  cases ho
  exact q vs rfl
 refine wpAny_bind (wpAny_frameOf_fun hfr hl hf fun h1 s1=>wpAny_bind (wpAny_entryPlaceOf fun pl hp=>?_))
 have e1:h1.get? a=some ⟨C,dx,.fields vs,sl⟩:=(s1.2.1 a na).trans he
 unfold EntryCells.newEntry newFields
 refine wpAny_bind (wpAny_newObj_type ?_ (hp.sizeOk5 _ _ _ _ _))
 show wpAny M A (setField (.ref a) 1 (.ref h1.objs.size)) Q E { s with heap:=h1.push (Ci head L pl) }
 have e2:=Heap.get?_push_of_some (h:=h1) (Ci head L pl) e1
 have nT:h1.objs.size≠a:=Nat.ne_of_gt (Heap.lt_size e1)
 refine wpAny_setField e2 rfl hz (h _ h1.objs.size ⟨vs.setIfInBounds 1 (.ref h1.objs.size),sl,Ci head L pl,_,?_,?_,nT,?_,rfl,?_⟩ s1.1 fun b o nb hb=>?_)
 ·exact Heap.get?_update_self _ e2 rfl
 ·simp [hz]
 ·rw [Heap.get?_update_other _ _ (Ne.symm nT)]
  exact Heap.get?_push_size h1 rfl
 ·rw [List.getElem?_toArray,List.getElem?_append_left (by show 3<5;decide)]
  rfl
 ·have nb':a≠b:=fun z=>nb (by simp [z])
  obtain ⟨sl',q⟩:=s1.2.2 b o hb
  refine ⟨⟨sl',?_⟩,fun nf=>?_⟩
  ·rw [Heap.get?_update_other _ _ nb']
   exact Heap.get?_push_of_some _ q
  ·rw [Heap.get?_update_other _ _ nb']
   exact Heap.get?_push_of_some _ ((s1.2.1 b nf).trans hb)
theorem wa (hfr:A.frames=some (env :: outer)) (hl:s.heap.FunFrames base (env :: outer)) (hf:env.frame=some L) (he:s.heap.get? a=some ⟨C,dx,.fields vs,sl⟩) (h1:vs[1]?=some .none)
 (h:∀h' T,lU h' a T C dx (rawInt L)→T=s.heap.objs.size→Kp s.heap h' [a] (gb (env :: outer))→Q () { s with heap:=h' }):wpAny M A (noteFrame (.ref a) env) Q E s:=by
 unfold noteFrame
 simp only [hf]
 refine wpAny_bind (wpAny_field he rfl h1 ?_)
 rw [if_neg (by decide)]
 exact q9 hfr hl hf he (Array.getElem?_eq_some_iff.mp h1).1 h
theorem rJ (hfr:A.frames=some (env :: outer)) (hl:s.heap.FunFrames base (env :: outer)) (hf:env.frame=some L) (ht:lU s.heap a T C dx .none)
 (h:∀h' T',lU h' a T' C dx (rawInt L)→T'=s.heap.objs.size→Kp s.heap h' [a,T] (gb (env :: outer))→Q () { s with heap:=h' }):wpAny M A (noteFrame (.ref a) env) Q E s:=by
 obtain ⟨vs,sl,oT,ts,he,h1,ne,hT,hd,h3⟩:=ht
 unfold noteFrame
 simp only [hf]
 refine wpAny_bind (wpAny_field he rfl h1 ?_)
 rw [if_pos (show (Value.ref T != Value.none)=true by simp)]
 refine wpAny_bind (wpAny_field hT hd h3 ?_)
 rw [if_neg (show ¬((Value.none==rawInt L)=true) by simp [rawInt])]
 refine wpAny_bind (wpAny_setField hT hd (Array.getElem?_eq_some_iff.mp h3).1 ?_)
 have ot:∀b,b≠T→(s.heap.update T (Obj.mapFields (·.setIfInBounds 3 Value.none))).get? b=s.heap.get? b:=fun b nb=>Heap.get?_update_other _ _ (Ne.symm nb)
 have nr:∀b o,s.heap.get? b=some o→(∀vs,o.data≠.fields vs)→b≠T:=fun b o hb q z=>by
  rw [z,hT] at hb
  cases hb
  exact q ts hd
 refine q9 hfr (hl.of_keeps fun b o hb q=>⟨o,(ot b (nr b o hb q)).trans hb,rfl⟩) hf ((ot a (Ne.symm ne)).trans he) (Array.getElem?_eq_some_iff.mp h1).1 fun h' T' t z k=>h h' T' t (z.trans (Heap.size_after_update ..)) fun b o nb hb=>?_
 have n1:b∉[a]:=fun z=>nb (by simp [List.mem_singleton.mp z])
 have n2:b≠T:=fun z=>nb (by simp [z])
 exact k b o n1 ((ot b n2).trans hb)
theorem oS {fl:Value} (ht:lU s.heap a T C dx fl) (h:∀h',lU h' a T C dx .none→Kp s.heap h' [T] []→Q () { s with heap:=h' }):wpAny M A (setFlight (.ref a) none) Q E s:=by
 obtain ⟨vs,sl,oT,ts,he,h1,ne,hT,hd,h3⟩:=ht
 unfold setFlight
 refine wpAny_bind (wpAny_field he rfl h1 ?_)
 rw [if_pos (show (Value.ref T != Value.none)=true by simp)]
 have z3:=(Array.getElem?_eq_some_iff.mp h3).1
 have dT:=Obj.data_mapFields hd (·.setIfInBounds 3 Value.none)
 refine wpAny_setField hT hd z3 (h _ ⟨vs,sl,_,_,?_,h1,ne,Heap.get?_update_self _ hT (Obj.isFreed_of_fields dT),dT,by simp [z3]⟩ fun b o nb hb=>?_)
 ·exact (Heap.get?_update_other _ _ ne).trans he
 ·have nb':T≠b:=fun z=>nb (by simp [z])
  have q:=(Heap.get?_update_other s.heap (Obj.mapFields (·.setIfInBounds 3 ((none:Option Addr).elim Value.none fun f=>rawInt f))) nb').trans hb
  exact ⟨⟨o.slots,q⟩,fun _=>q⟩
theorem Kp.trans0 {h h1 h2:Heap}{bad fs:List Addr}{T:Addr} (k:Kp h h1 bad fs) (k2:Kp h1 h2 [T] []) (n:h.objs.size≤T):Kp h h2 bad fs:=fun b o nb hb=>by
 have nT:b∉[T]:=fun z=>by
  have q:=Heap.lt_size hb
  rw [List.mem_singleton.mp z] at q
  exact absurd q (Nat.not_lt.mpr n)
 obtain ⟨⟨sl,q1⟩,q2⟩:=k b o nb hb
 exact ⟨⟨sl,(k2 b _ nT q1).2 (by simp)⟩,fun nf=>(k2 b _ nT (q2 nf)).2 (by simp)⟩
theorem uA (hfr:A.frames=some (env :: outer)) (hl:s.heap.FunFrames base (env :: outer)) (hf:env.frame=some L) (he:s.heap.get? a=some ⟨C,dx,.fields vs,sl⟩) (h1:vs[1]?=some .none)
 (h:∀h' T,lU h' a T C dx .none→T=s.heap.objs.size→Kp s.heap h' [a] (gb (env :: outer))→Q () { s with heap:=h' }):wpAny M A (leaving env (.ref a)) Q E s:=by
 unfold leaving
 exact wpAny_bind (wa hfr hl hf he h1 fun h' T t z k=>oS t fun h2 t2 k2=>h h2 T t2 z (k.trans0 k2 (Nat.le_of_eq z.symm)))
theorem wb (hfr:A.frames=some (env :: outer)) (hl:s.heap.FunFrames base (env :: outer)) (hf:env.frame=some L) (ht:lU s.heap a T C dx .none)
 (h:∀h' T',lU h' a T' C dx .none→T'=s.heap.objs.size→Kp s.heap h' [a,T] (gb (env :: outer))→Q () { s with heap:=h' }):wpAny M A (leaving env (.ref a)) Q E s:=by
 unfold leaving
 exact wpAny_bind (rJ hfr hl hf ht fun h' T t z k=>oS t fun h2 t2 k2=>h h2 T t2 z (k.trans0 k2 (Nat.le_of_eq z.symm)))
end
def jx (x C:Addr) (dx:Option Addr):HO:=.ext fun h=>bw fun vs sl=>h.get? x=some ⟨.ref C,dx,.fields vs,sl⟩
theorem An {P:Program}{w:World}{H:Hp}{h:Heap}{x C:Addr}{dx:Option Addr} (e:bw fun vs sl=>h.get? x=some ⟨.ref C,dx,.fields vs,sl⟩):bi P w H h x (jx x C dx):=
 ⟨e,let ⟨_,_,q⟩:=e;⟨_,q⟩,fun h1 h2 ⟨vs,sl,q⟩ k=>⟨vs,sl,k _ q⟩⟩
theorem uv {P:Program}{w:World}{H:Hp}{h:Heap}{x C:Addr}{dx:Option Addr} (ok:c8 P w H h) (e:H x=some (jx x C dx)):bw fun vs sl=>h.get? x=some ⟨.ref C,dx,.fields vs,sl⟩:=(ok x _ e).1
theorem zU {fs ch:List Addr}{H:Hp}{h h':Heap}{a:Addr}{φ:Heap→Prop}{o:HO} (ea:H a=some (.ext φ)) (k:Kp h h' (a :: ch) fs) (th:∃u,h'.get? a=some u):Un fs ch H (aH H a o) h h':=by
 have ne:∀{b:Addr},H b=none→b≠a:=fun q z=>by rw [z,ea] at q;cases q
 have nc:∀{b:Addr},b≠a→b∉ch→b∉a :: ch:=fun n1 n2 z=>(List.mem_cons.mp z).elim n1 n2
 refine ⟨fun b u q n f x=>(k b u (nc (ne n) x) q).2 f,fun b u q n _ x=>(k b u (nc (ne n) x) q).1,fun b u q n _=>by rw [ao (ne n)];exact n,fun b u q x=>?_,fun b xs q=>?_,fun b u xs q=>?_,fun b ps q=>⟨#[],?_⟩⟩
 ·by_cases e:b=a
  ·rw [e];exact th
  ·obtain ⟨⟨sl,z⟩,_⟩:=k b u (nc e x) q
   exact ⟨_,z⟩
 ·rw [ao (fun z=>by rw [z,ea] at q;cases q)];exact q
 ·rw [ao (fun z=>by rw [z,ea] at q;cases q)];exact q
 ·rw [ao (fun z=>by rw [z,ea] at q;cases q),q];simp
theorem yV {P:Program}{w:World}{fs ch:List Addr}{H:Hp}{h h':Heap}{a:Addr}{φ:Heap→Prop}{o:HO} (ok:c8 P w H h) (ea:H a=some (.ext φ)) (k:Kp h h' (a :: ch) fs) (ff:∀b∈fs,H b=none) (fc:∀b∈ch,H b=none)
 (nw:bi P w (aH H a o) h' a o):c8 P w (aH H a o) h':=fun b u e=>by
 by_cases hb:b=a
 ·subst hb
  rw [au] at e
  cases e
  exact nw
 ·rw [ao hb] at e
  refine (ok b u e).stay (fun c v cd q=>?_) (fun c q=>?_) fun c xs q=>?_
  ·have hc:H c≠none∧c≠a:=by
    rcases cd with rfl | cd
    ·exact ⟨by rw [e];simp,hb⟩
    ·exact ⟨by rw [cd];simp,fun z=>by rw [z,ea] at cd;cases cd⟩
   exact (k c v (fun z=>(List.mem_cons.mp z).elim hc.2 fun z=>hc.1 (fc c z)) q).2 fun z=>hc.1 (ff c z)
  ·rw [ao (fun z=>by rw [z,ea] at q;cases q)];exact q
  ·rw [ao (fun z=>by rw [z,ea] at q;cases q)];exact q
section
variable {X:Cx}{pins:List (Addr×Obj)}{σ:St}{H:Hp}{s:Shared}{h':Heap}{a T C:Addr}{dx:Option Addr}{φ:Heap→Prop}{ch:List Addr}{fl:Value}
theorem lU.there (t:lU h' a T (.ref C) dx fl):bw fun vs sl=>h'.get? a=some ⟨.ref C,dx,.fields vs,sl⟩:=let ⟨vs,sl,_,_,e,_⟩:=t;⟨vs,sl,e⟩
theorem ad.noted (I:ad X pins σ H s) (ea:H a=some (.ext φ)) (k:Kp s.heap h' (a :: ch) (gb X.stack)) (t:bw fun vs sl=>h'.get? a=some ⟨.ref C,dx,.fields vs,sl⟩) (fc:∀b∈ch,H b=none)
 (hch:∀b∈ch,(b∈X.ex∨X.s₀.heap.objs.size≤b)∧b≠X.env.locals∧(∀x c,X.env.cells.lookup x=some c→c≠b)∧∀p∈X.pn++pins,p.1≠b):ad X pins σ (aH H a (jx a C dx)) { s with heap:=h' }:=
 I.call' (ch:=ch) rfl (zU ea k (let ⟨_,_,e⟩:=t;⟨_,e⟩)) (yV I.hok ea k I.stkFree fc (An t)) I.bare hch
theorem ad.far (I:ad X pins σ H s) (n:s.heap.objs.size≤T):(T∈X.ex∨X.s₀.heap.objs.size≤T)∧T≠X.env.locals∧(∀x c,X.env.cells.lookup x=some c→c≠T)∧∀p∈X.pn++pins,p.1≠T:=by
 have lt:∀{b:Addr}{u:Obj},s.heap.get? b=some u→b≠T:=fun q z=>by
  have q':=Heap.lt_size q
  rw [z] at q'
  exact absurd q' (Nat.not_lt.mpr n)
 refine ⟨.inr (Nat.le_trans I.sz n),?_,fun x c e=>?_,fun p hp=>lt (I.pin p hp).1⟩
 ·obtain ⟨m,⟨o,es,ep,ho,_⟩,_⟩:=I.loc
  exact Ne.symm (lt ho)
 ·obtain ⟨v,q⟩:=I.cell x c e
  obtain ⟨o,ho,_⟩:=q
  exact lt ho
end
def gl (P:Program) (w:World):iR:=fun outer H s E e s'=>zm fun a T C dx H'=>e=.ref a∧s'.os=s.os∧AllBare s'.gens∧Un (gb outer) [] H H' s.heap s'.heap∧c8 P w H' s'.heap∧lU s'.heap a T (.ref C) dx .none∧s.heap.objs.size≤T∧H' T=none∧H' a=some (jx a C dx)∧E (.ref C) dx H'
def xk (X:Cx) (E:XK):Prop:=∀pins σ H s a C dx,ad X pins σ H s→H a=some (lq a C dx)→E (.ref C) dx (aH H a (jx a C dx))→X.xe (.ref a) s
section
variable {P:Program}{w:World}{K:PySem.W.Frag}{mg:Str→Option Value}{base:Heap}{N:List Str}{qual:Str}{scope:Scope}{f:Addr}{cd:Value}{A:Around}{outer:List Env}{s:Shared}{H:Hp}{E:XK}
theorem dA:fX (gl P w) (mM (gl P w) P w K mg base N qual scope f cd A outer s H E) E:=by
 intro pins σ H1 s1 e s2 I h
 obtain ⟨a,T,C,dx,H',rfl,os,bare,un,hok,t,n,hT,ha,hE⟩:=h
 have J:=I.call' (ch:=[]) os un hok bare (fun b z=>by cases z)
 have far:=I.far n
 refine wb (L:=s.heap.objs.size) J.ok.frames J.stack rfl t fun h' T' t' z k=>?_
 have J2:=J.noted ha (ch:=[T]) k t'.there (fun b hb=>by rw [List.mem_singleton.mp hb];exact hT) (fun b hb=>by rw [List.mem_singleton.mp hb];exact far)
 rw [mF ha] at J2
 exact ⟨a,T',C,dx,H',rfl,J2.os,J2.bare,J2.base,J2.hok,t',by rw [z];exact J.sz,J.hok.fresh (by rw [z];exact Nat.le_refl _),ha,hE⟩
theorem lJ:xk (mM (gl P w) P w K mg base N qual scope f cd A outer s H E) E:=by
 intro pins σ H1 s1 a C dx J ha hE
 obtain ⟨a0,sl,ea⟩:=vh J.hok ha
 refine uA (L:=s.heap.objs.size) J.ok.frames J.stack rfl ea rfl fun h' T' t' z k=>?_
 have J2:=J.noted ha (ch:=[]) k t'.there (fun b hb=>by cases hb) (fun b hb=>by cases hb)
 have nT:H1 T'=none:=J.hok.fresh (by rw [z];exact Nat.le_refl _)
 exact ⟨a,T',C,dx,(),J2.os,J2.bare,J2.base,J2.hok,t',by rw [z];exact J.sz,by rw [ao (fun q=>by rw [q,ha] at nT;cases nT)];exact nT,au,hE⟩
end
section
variable {M:Model}{A:Around}{E:Value→Shared→Prop}{s:Shared}{env:Env}
theorem xO {x:Sem Value}{Q:Flow→Shared→Prop} (hh:A.handled=none)
 (h:wpAny M A x (fun v s1=>∃e a0 dx sl nm q C N bs bm hd sn sb ab cl dd k0 k1 k2 k3 k5 nw,v=.ref e∧bm.contains (.type "BaseException")=true∧s1.heap.get? C=some (excClassObj nm q C N bs bm hd sn sb ab cl dd k0 k1 k2 k3 k5 nw)∧
  s1.heap.get? e=some ⟨.ref C,dx,.fields #[a0,.none,.none,.none,.bool false,.none],sl⟩∧E (.ref e) s1) E s):wpAny M A (raiseStmt env (some x) none) Q E s:=by
 unfold raiseStmt
 refine wpAny_bind (wpAny_mono h (fun v s1 h1=>?_) fun _ _ x=>x)
 obtain ⟨e,a0,dx,sl,nm,q,C,N,bs,bm,hd,sn,sb,ab,cl,dd,k0,k1,k2,k3,k5,nw,rfl,hb,hC,he,hE⟩:=h1
 have hcB:(Value.ref C :: bm).contains (.type "BaseException")=true:=by rw [List.contains_cons,hb,Bool.or_true]
 obtain ⟨hp,g,d,tk,os⟩:=s1
 repeat
  first
   | (with_reducible refine wpAny_isSubtype_exc hC ?_
      rw [hcB])
   | (with_reducible refine wpAny_loadPart_at hC ?_)
   | (with_reducible refine wpAny_loadPart_at he ?_)
   | wp_step
 exact wpAny_raiseNew_none hh hE
end
section
variable {X:Cx}{e:Expr}{te:TE}{pos:Pos}{E:XK}
def Cy (K:PySem.W.Frag) (E:XK) (te:TE):TS:=fun D σ H=>te σ H fun v H'=>mW fun a C dx ini=>v=.ref a∧H' a=some (lq a C dx)∧d0 K C ini=true∧E (.ref C) dx (aH H' a (jx a C dx))
theorem km (hc:X.calm=true) (hx:xk X E) (he:PE X e te):PS X (.Raise (some e) none pos) (Cy X.K E te):=by
 intro pins s σ H D I h
 rw [arm_exec_Raise]
 refine wpAny_bind (wpAny_standAt ?_)
 show wpAny _ _ (raiseStmt X.env (some (do let v ←eval e X.env;standAt pos;pure v)) none) _ _ _
 refine xO (I.ok.hd hc) (wpAny_bind (aO (he pins s σ H _ I h) fun u s1 ⟨v,H1,I1,r,a,C,dx,ini,ev,ha,q,hE⟩=>wpAny_bind (wpAny_standAt (wpAny_pure ?_))))
 subst ev
 obtain rfl:u=Value.ref a:=r
 obtain ⟨nm,qn,N,bs,bm,hd,sn,sb,ab,cl,dd,k0,k1,k2,k3,k5,mN,eC,eN,T,_⟩:=zl I1.kIn q
 obtain ⟨a0,sl,ea⟩:=vh I1.hok ha
 exact ⟨a,a0,dx,sl,nm,qn,C,N,bs,bm,hd,sn,sb,ab,cl,dd,k0,k1,k2,k3,k5,(),T.hasType (by decide),eC,ea,hx pins σ H1 s1 a C dx I1 ha hE⟩
theorem PS.nox {st:Stmt}{t:TS} (h:PS X.nox st t):PS X st t:=fun pins s σ H D I hw=>wpAny_mono (h pins s σ H D (I.wish _) hw) (fun _ _ q=>q.unwish) fun _ _ z=>False.elim z
theorem d9.okX {P:Program}{w:World}{K:PySem.W.Frag}{mg:Str→Option Value}{base:Heap}{x qual:Str}{st:Stmt}{f:Addr}{fd:FuncData}{N ps:List Str}{k:Nat}{sp:Sp} (F:d9 K x qual st f fd) (S:aA N ps (ak st)) (len:∀vs H Q E,sp vs H Q E→vs.length=ps.length)
 (hbody:∀(cdv:Value) (A:Around) (outer:List Env) (s:Shared) (H:Hp) (vs:List V) (Q:VK) (E:XK),cf k (A.deeper (envOfC qual (ak st) s.heap.objs.size f cdv))→sp vs H Q E→
  ∃t,jO (mM (gl P w) P w K mg base N qual (ak st) f cdv A outer s H E) (lR st) t∧t { nx:=fun _ H'=>Q .non H',rt:=Q } (jQ N vs) H):aS P w K mg base (gl P w) (k+1) f fd ps sp:=by
 obtain ⟨oc,od,kV,doc,pm,an,cdv,ct,osl,rfl,lk,hcd⟩:=F.ex
 exact zp lk hcd S len fun A outer s H vs Q E hr hsp=>hbody cdv A outer s H vs Q E hr hsp
end
section
variable {X:Cx}{pins:List (Addr×Obj)}{σ σ':St}{H:Hp}{s:Shared}{h':Heap}
theorem ad.locs {m':Str→Option Value}{t':Nat} (I:ad X pins σ H s) (hs:Heap.SameBut X.env.locals s.heap h') (hn:h'.Ns X.env.locals m') (hl:∀(i:Nat) (x:Str) (v:V),X.N[i]?=some x→σ'[i]?=some (some v)→wO X.env.scope x→∃u,aR v u∧CM X.env h' m' x u) (ln:σ'.length=X.N.length) :
 ad X pins σ' H { s with heap:=h',toks:=t' }:=by
 have ne:∀{b:Addr}{o:Obj},X.s₀.heap.get? b=some o→b≠X.env.locals:=fun e=>Nat.ne_of_lt (Nat.lt_of_lt_of_le (Heap.lt_size e) I.ok.above)
 refine ⟨I.ok,I.os,I.bare,⟨fun b o e n hb hx=>(hs.2 b (ne e)).trans (I.base.keep b o e n hb hx),fun b o e n hb hx=>?_,I.base.free,fun b o e hx=>?_,I.base.tups,I.base.frzs,I.base.tbls⟩,⟨m',hn,hl⟩,fun y c e=>?_,I.free,I.freeC,fun p hp=>?_,fun b ob e=>?_,ln⟩
 ·obtain ⟨sl,q⟩:=I.base.slot b o e n hb hx
  exact ⟨sl,(hs.2 b (ne e)).trans q⟩
 ·obtain ⟨o',q⟩:=I.base.there b o e hx
  exact ⟨o',(hs.2 b (ne e)).trans q⟩
 ·obtain ⟨w',z⟩:=I.cell y c e
  exact ⟨w',z.sameBut hs (I.cne y c e)⟩
 ·obtain ⟨e,n,ne,nf,d⟩:=I.pin p hp
  exact ⟨(hs.2 p.1 ne).trans e,n,ne,nf,d⟩
 ·refine (I.hok b ob e).stay (fun c w' hc q=>(hs.2 c fun z=>?_).trans q) (fun _ q=>q) fun _ _ q=>q
  subst z
  have hf:=I.free
  rcases hc with rfl | hc
  ·rw [hf] at e;cases e
  ·rw [hf] at hc;cases hc
theorem oX {M:Model}{A:Around}{E:Value→Shared→Prop}{i:Nat}{x:Str}{pos:Pos}{Q:Unit→Shared→Prop} (I:ad X pins σ H s) (hN:X.N.Nodup) (hi:X.N[i]?=some x) (hk:X.env.scope.names.lookup x=some .local)
 (h:∀s',ad X pins (σ.set i none) H s'→Q () s'):wpAny M A (do bindName X.env x .none;unbindBehindTheSuite X.env x pos) Q E s:=by
 have iσ:i<σ.length:=by rw [I.len];exact (List.getElem?_eq_some_iff.mp hi).1
 refine wpAny_bind (wpAny_bindName (fj (v:=.non) (u:=.none) I hN hi (.inl hk) rfl (fun s1 I1=>?_) (.inr hk)))
 obtain ⟨m,hn,hl⟩:=id I1.loc
 have kl:X.env.kindOf x=some .local:=hk
 have hc:(X.env.scope.kind==.class || (X.env.scope.kind==.module && X.env.locals != X.env.globals))=false:=by rw [I.ok.kind];rfl
 have mx:∃u,m x=some u:=by
  obtain ⟨u,_,q⟩:=hl i x .non hi (by rw [List.getElem?_set_self iσ]) (.inl hk)
  rcases q with ⟨_,e⟩ | ⟨k,_⟩
  ·exact ⟨u,e⟩
  ·rw [kl] at k
   rcases k with k | k <;> cases k
 unfold unbindBehindTheSuite
 refine wpAny_onRaise ?_
 unfold unbindName
 refine wpAny_bind (wpAny_point (wpAny_bind ?_))
 unfold deleteName
 simp only [kl,hc]
 rw [if_neg (by decide)]
 obtain ⟨u,mx⟩:=mx
 refine wpAny_bind (wpAny_nsDel_keeps hn fun h2 v2 n2 s2=>?_)
 simp only [mx,if_true,Option.isSome_some,Bool.not_true,Bool.false_eq_true,if_false]
 refine wpAny_pure (wpAny_point (h _ (I1.locs s2 n2 (fun j y v e1 e2 e3=>?_) (by simpa using I.len))))
 have hj:j≠i:=fun z=>by
  rw [z,List.getElem?_set_self iσ] at e2
  cases e2
 rw [List.getElem?_set_ne (Ne.symm hj)] at e2
 obtain ⟨u',r',q⟩:=hl j y v e1 (by rw [List.getElem?_set_ne (Ne.symm hj)];exact e2) e3
 refine ⟨u',r',?_⟩
 rcases q with ⟨k,e⟩ | ⟨k,c,e,z⟩
 ·refine .inl ⟨k,?_⟩
  have ny:y≠x:=fun e=>hj (pM hN e1 (e▸hi))
  simp [ny,e]
 ·exact .inr ⟨k,c,e,z.sameBut s2 (I1.cne y c e)⟩
end
def oN (CX:iR) (X:Cx) (EE:St→XK):Prop:=∀(pins:List (Addr×Obj)) (σ:St) (H:Hp) (s:Shared) (e:Value) (s':Shared),ad X pins σ H s→CX X.stack H s (EE σ) e s'→X.xe e s'
section
variable {X:Cx}{CX:iR}{k:Nat}{f:Addr}{fd:FuncData}{ps:List Str}{sp:Sp}{EE:St→XK}{x:Str}{p pos:Pos}{e:Expr}{es:List Expr}{t:TA}
def Cm (sp:Sp) (EE:St→XK) (t:TA):TE:=fun σ H Q=>t σ H fun vs H1=>sp vs H1 Q (EE σ)
theorem yj (F:aS X.prog X.w X.K X.mg X.base CX k f fd ps sp) (hr:cf k X.A) (hg:Gl X x) (hm:X.mg x=some (.ref f)) (hk:PySem.W.keepIn X.K (.ref f)=true) (hb:bt X.K fd ps []) (hx:oN CX X EE)
 (ha:PA X (e :: es) t) (hdb:(x==("__debug__" : Str))=false:=by decide) (he:starEach (e :: es) X.env=(false,eval e X.env) :: starEach es X.env:=by rfl) (hpl:(backTo pos (starEach es X.env)).any (·.1)=false:=by rfl) :
 PE X (.Call (.Name x p) (e :: es) [] pos) (Cm sp EE t):=by
 intro pins s σ H Q I h
 refine wpAny_Call_Name_kw (ja I hg hm ?_ hdb)
 refine PySem.W.callWith_K (h₀:=X.base) I.ok.mod.kin hk (aO (ha pos pins s σ H _ I h) fun us s1 ⟨vs,H1,I1,r,q⟩=>⟨I1.kIn,?_⟩) he hpl
 have hl:us.length=ps.length:=by rw [←r.length];exact F.len _ _ _ _ q
 have hbb:=hb s1 us I1.kIn (by rw [List.append_nil];exact hl)
 rw [List.append_nil] at hbb
 refine wpAny_call (codeAny_mono (F.run X.A X.stack s1 H1 ⟨us,[]⟩ us vs Q (EE σ) hr I1.env0 hbb r q) fun rs s' hq=>?_)
 cases rs with
 | error z=>exact hx pins σ H1 s1 z s' I1 hq
 | ok fl=>
  cases fl with
  | ret u=>exact I1.after hq
  | next=>exact False.elim hq
  | brk=>exact False.elim hq
  | cont=>exact False.elim hq
end
abbrev Cx.tr (X:Cx) (pn:List (Addr×Obj)) (xe:Value→Shared→Prop):Cx:={ X with pn:=pn,xe:=xe }
abbrev Cx.hn (X:Cx) (A:Around):Cx:={ X with A:=A,calm:=false,xe:=fun _ _=>False }
section
variable {X:Cx}{pins pins' pn:List (Addr×Obj)}{σ:St}{H:Hp}{s:Shared}{xe:Value→Shared→Prop}
theorem Cx.Ok.tr (ok:X.Ok):(X.tr pn xe).Ok:=⟨ok.mod,ok.kind,ok.glob,ok.blt,ok.above,ok.inj,ok.has,ok.cab,ok.hd,ok.frames,ok.stk,ok.exf,ok.bs,ok.bsz,ok.noex,ok.exfs,ok.funs,ok.frf⟩
theorem Cx.Ok.untr (ok:(X.tr pn xe).Ok):X.Ok:=⟨ok.mod,ok.kind,ok.glob,ok.blt,ok.above,ok.inj,ok.has,ok.cab,ok.hd,ok.frames,ok.stk,ok.exf,ok.bs,ok.bsz,ok.noex,ok.exfs,ok.funs,ok.frf⟩
theorem ad.tr (I:ad X pins σ H s):ad (X.tr (X.pn++pins) xe) [] σ H s:=⟨I.ok.tr,I.os,I.bare,I.base,I.loc,I.cell,I.free,I.freeC,fun p hp=>I.pin p (by rw [List.append_nil] at hp;exact hp),I.hok,I.len⟩
theorem ad.untr (I:ad (X.tr (X.pn++pins) xe) pins' σ H s):ad X pins σ H s:=⟨I.ok.untr,I.os,I.bare,I.base,I.loc,I.cell,I.free,I.freeC,fun p hp=>I.pin p (List.mem_append_left _ hp),I.hok,I.len⟩
theorem Cx.Ok.hn {A:Around} (ok:X.Ok) (hA:A.frames=X.A.frames):(X.hn A).Ok:=⟨ok.mod,ok.kind,ok.glob,ok.blt,ok.above,ok.inj,ok.has,ok.cab,(fun z=>by cases z),hA.trans ok.frames,ok.stk,ok.exf,ok.bs,ok.bsz,ok.noex,ok.exfs,ok.funs,ok.frf⟩
theorem ad.hn {A:Around} (I:ad X pins σ H s) (hA:A.frames=X.A.frames):ad (X.hn A) pins σ H s:=⟨I.ok.hn hA,I.os,I.bare,I.base,I.loc,I.cell,I.free,I.freeC,I.pin,I.hok,I.len⟩
theorem ad.unhn {A:Around} (I:ad (X.hn A) pins σ H s) (ok:X.Ok):ad X pins σ H s:=⟨ok,I.os,I.bare,I.base,I.loc,I.cell,I.free,I.freeC,I.pin,I.hok,I.len⟩
end
theorem Kp.weak {h h':Heap}{bad bad' fs fs':List Addr} (k:Kp h h' bad fs) (hb:∀b∈bad,b∈bad') (hf:∀b∈fs,b∈fs'):Kp h h' bad' fs':=fun b o nb q=>
 ⟨(k b o (fun z=>nb (hb b z)) q).1,fun nf=>(k b o (fun z=>nb (hb b z)) q).2 fun z=>nf (hf b z)⟩
def vV (X:Cx) (EE:St→XK) (e:Value) (s:Shared):Prop:=∃pins σ H a T C dx,e=.ref a∧ad X pins σ H s∧lU s.heap a T (.ref C) dx .none∧H T=none∧((T∈X.ex∨X.s₀.heap.objs.size≤T)∧T≠X.env.locals∧(∀x c,X.env.cells.lookup x=some c→c≠T)∧∀p∈X.pn++pins,p.1≠T)∧
 H a=some (jx a C dx)∧EE σ (.ref C) dx H
theorem DM {X:Cx}{EE:St→XK}{Y:Cx} (h:X.xe=vV Y EE) (hY:∀{pins σ H s},ad X pins σ H s→ad Y pins σ H s):oN (gl X.prog X.w) X EE:=by
 intro pins σ H s e s' I q
 obtain ⟨a,T,C,dx,H',rfl,os,bare,un,hok,t,n,hT,ha,hE⟩:=q
 have J:=I.call' (ch:=[]) os un hok bare (fun b z=>by cases z)
 rw [h]
 exact ⟨pins,σ,H',a,T,C,dx,rfl,hY J,t,hT,(hY I).far n,ha,hE⟩
def hD (i:Nat) (D:cZ):cZ:={ nx:=fun σ H=>D.nx (σ.set i none) H,rt:=D.rt,bk:=fun σ H=>D.bk (σ.set i none) H,ct:=fun σ H=>D.ct (σ.set i none) H }
def vZ (K:PySem.W.Frag) (Cc:Addr) (i:Nat) (th:TS) (D:cZ):St→XK:=fun σ cv dx H=>∀a C,cv=.ref C→H a=some (jx a C dx)→PySem.W.exmOne K (.ref C) (.ref Cc)=some true∧th (hD i D) (σ.set i (some (.ref a))) H
def ET (K:PySem.W.Frag) (Cc:Addr) (i:Nat) (tb:(St→XK)→TS) (th:TS):TS:=fun D σ H=>tb (vZ K Cc i th D) D σ H
section
variable {X:Cx}{body suite:List Stmt}{b0:Stmt}{x n:Str}{hpos pos np:Pos}{tb:(St→XK)→TS}{th:TS}{Cc:Addr}{i:Nat}
theorem Ca (hst:X.stack=X.env :: X.outer) (hfr:X.env.frame=some X.env.locals) (hN:X.N.Nodup) (hi:X.N[i]?=some n) (hk:X.env.scope.names.lookup n=some .local) (hg:Gl X x) (hm:X.mg x=some (.ref Cc))
 (hb:∀(EE:St→XK) (pn:List (Addr×Obj)) (xe:Value→Shared→Prop),oN (gl X.prog X.w) (X.tr pn xe) EE→jO (X.tr pn xe) body (tb EE)) (hs:∀A:Around,jO (X.hn A) (b0 :: suite) th) (hdb:(x==("__debug__" : Str))=false:=by decide) :
 PS X (.Try body [.ExceptHandler (some (.Name x np)) (some n) (b0 :: suite) hpos] [] [] pos) (ET X.K Cc i tb th):=by
 intro pins s σ H D I h
 refine wpAny_Try_except ?_
 have hx:oN (gl X.prog X.w) (X.tr (X.pn++pins) (vV (X.tr (X.pn++pins) fun _ _=>False) (vZ X.K Cc i th D))) (vZ X.K Cc i th D):=DM (X:=X.tr (X.pn++pins) (vV (X.tr (X.pn++pins) fun _ _=>False) (vZ X.K Cc i th D))) rfl fun J=>J.wish _
 refine wpAny_mono (hb _ _ _ hx [] s σ H D I.tr h) (fun f s1 q=>?_) fun e s1 q=>?_
 ·cases f with
  | next=>obtain ⟨σ',H',J,q⟩:=q;exact wpAny_execs_nil ⟨σ',H',J.untr,q⟩
  | brk=>obtain ⟨σ',H',J,q⟩:=q;exact ⟨σ',H',J.untr,q⟩
  | cont=>obtain ⟨σ',H',J,q⟩:=q;exact ⟨σ',H',J.untr,q⟩
  | ret u=>obtain ⟨v,σ',H',J,r,q⟩:=q;exact ⟨v,σ',H',J.untr,r,q⟩
 ·obtain ⟨pins',σ',H',a,T,C,dx,rfl,J0,t,hT,far,ha,hE⟩:=q
  have J:ad X pins σ' H' s1:=J0.untr
  obtain ⟨hm',hth⟩:=hE a C rfl ha
  have st:∀{h2:Heap}{bad:List Addr},Kp s1.heap h2 bad (gb (X.env :: X.outer))→Kp s1.heap h2 bad (gb X.stack):=fun k=>by rw [hst];exact k
  refine rJ (L:=X.env.locals) (J.ok.frames.trans (congrArg some hst)) (by have z:=J.stack;rw [hst] at z;exact z) hfr t fun h2 T2 t2 z2 k2=>?_
  have J2:=J.noted ha (ch:=[T]) (st k2) t2.there (fun b hb=>by rw [List.mem_singleton.mp hb];exact hT) (fun b hb=>by
   rw [List.mem_singleton.mp hb]
   exact ⟨far.1,far.2.1,far.2.2.1,fun p hp=>far.2.2.2 p (List.mem_append_left _ hp)⟩)
  rw [mF ha] at J2
  have n2:s1.heap.objs.size≤T2:=Nat.le_of_eq z2.symm
  have far0:=J.far n2
  have hT2:∀b∈[T2],H' b=none:=fun b hb=>by rw [List.mem_singleton.mp hb];exact J.hok.fresh n2
  have wk:∀{g g':Heap},Kp g g' [T2] []→Kp g g' [a,T2] (gb X.stack):=fun k=>k.weak (fun b hb=>List.mem_cons_of_mem _ hb) fun b hb=>by cases hb
  refine oS t2 fun h3 t3 k3=>?_
  have J3:=J2.noted ha (ch:=[T2]) (wk k3) t3.there hT2 (fun b hb=>by rw [List.mem_singleton.mp hb];exact far0)
  rw [mF ha] at J3
  refine wpAny_handleBy_cons (codeAny_handlers_test ?_) (by intro q;cases q)
  have J3h:=J3.hn (A:=X.A.mark (some (.ref a))) rfl
  refine ja J3h hg hm ?_ hdb
  obtain ⟨vs,sl,ea⟩:=t3.there
  have LT:PySem.W.Looks (model X.prog X.w) h3 (typeOf (.ref a)) (.ref C):=(PySem.W.Looks.ld ea).andThen .now
  refine (PySem.W.exm_one J3.kIn LT hm').here ?_
  refine codeAny_handlers_suite_as (oS t3 fun h5 t5 k5=>?_)
  have J5:=J3.noted ha (ch:=[T2]) (wk k5) t5.there hT2 (fun b hb=>by rw [List.mem_singleton.mp hb];exact far0)
  rw [mF ha] at J5
  refine fj J5 hN hi (.inl hk) (v:=.ref a) (u:=.ref a) rfl (fun s6 J6=>?_) (.inr hk)
  refine wpAny_mono (hs _ pins s6 _ H' _ (J6.hn (A:=X.A.mark (some (.ref a))) rfl) hth) (fun f s7 q=>?_) fun _ _ z=>z.elim
  cases f with
  | next=>obtain ⟨σ7,H7,J7,q⟩:=q;exact oX (J7.unhn J.ok) hN hi hk fun s8 J8=>⟨_,_,J8,q⟩
  | brk=>obtain ⟨σ7,H7,J7,q⟩:=q;exact oX (J7.unhn J.ok) hN hi hk fun s8 J8=>⟨_,_,J8,q⟩
  | cont=>obtain ⟨σ7,H7,J7,q⟩:=q;exact oX (J7.unhn J.ok) hN hi hk fun s8 J8=>⟨_,_,J8,q⟩
  | ret u=>obtain ⟨v,σ7,H7,J7,r,q⟩:=q;exact oX (J7.unhn J.ok) hN hi hk fun s8 J8=>⟨v,_,_,J8,r,q⟩
end
theorem Dm {P:Program}{w:World}{X:Cx}:fX (gl P w) X E0:=fun _ _ _ _ _ _ _ h=>by
 obtain ⟨a,T,C,dx,H',_,_,_,_,_,_,_,_,_,hE⟩:=h
 exact hE.elim
section
variable {X:Cx}{C:Addr}{e:Expr}{pos:Pos}
end
theorem yA:∀{cs:List V}{cvs us:List Value},cs.map yN=cvs.map some→av cs us→us=cvs:=by
 intro cs
 induction cs with
 | nil=>
  intro cvs us e r
  cases r
  cases cvs with
  | nil=>rfl
  | cons c l=>cases e
 | cons c l ih=>
  intro cvs us e r
  cases cvs with
  | nil=>cases e
  | cons d m=>
   cases r with
   | cons r1 r2=>
    injection e with e1 e2
    rw [ih e2 r2]
    congr 1
    cases c with
    | ref y=>cases e1;exact r1
    | ty T=>cases e1;exact r1
    | _=>cases e1
section
variable {X:Cx}
theorem rX {K:PySem.W.Frag}{t:Value}:∀{cs:List Value},(∀c∈cs,PySem.W.kitOne K t c=some false)→PySem.W.kitAny K t cs=some false
 | [],_=>rfl
 | c :: r,h=>by
  unfold PySem.W.kitAny
  rw [h c List.mem_cons_self]
  exact rX fun d hd=>h d (List.mem_cons_of_mem _ hd)
end
section
variable {X:Cx}
end
def lX:Nat→List Obj→PySem.W.Frag
 | _,[]=>[]
 | n,o :: r=>match o.data with
  | .freed=>lX (n+1) r
  | _=>(n,o) :: lX (n+1) r
def fragOf (h:Heap):PySem.W.Frag:=lX 0 h.objs.toList
theorem rA:∀(l:List Obj) (n a:Nat) (o:Obj),List.lookup a (lX n l)=some o→∃k,a=n+k∧l[k]?=some o∧o.data≠.freed
 | [],n,a,o,e=>nomatch e
 | p :: r,n,a,o,e=>by
  have step:List.lookup a (lX (n+1) r)=some o→∃k,a=n+k∧(p :: r)[k]?=some o∧o.data≠.freed:=fun e=>by
   obtain ⟨k,e1,e2,e3⟩:=rA r (n+1) a o e
   exact ⟨k+1,by trivial,by simpa using e2,e3⟩
  unfold lX at e
  split at e
  ·exact step e
  ·rename_i hf
   by_cases q:a=n
   ·subst q
    simp only [List.lookup_cons,beq_self_eq_true] at e
    cases e
    exact ⟨0,rfl,rfl,hf⟩
   ·have q':(a==n)=false:=by simpa using q
    simp only [List.lookup_cons,q'] at e
    exact step e
theorem wH (h:Heap):PySem.W.Frag.In (fragOf h) h:=fun a o e=>by
 obtain ⟨k,e1,e2,e3⟩:=rA _ 0 a o e
 have e1':a=k:=e1.trans (Nat.zero_add k)
 subst e1'
 unfold Heap.get?
 have:h.objs[a]?=some o:=by simpa using e2
 rw [this]
 cases o with
 | mk c d x s=>
  cases x <;> first | rfl | exact absurd rfl e3
def ir:Option (Option Value)→Addr
 | some (some (.ref a))=>a
 | _=>0
def u8:Option (Option Value)→Bool
 | some (some (.ref _))=>true
 | _=>false
def wc:Option (Option Value)→Bool
 | some none=>true
 | _=>false
def qV:Option Bool→Bool
 | some true=>true
 | _=>false
theorem fR {v:Option (Option Value)} (e:u8 v=true):v=some (some (.ref (ir v))):=by
 unfold u8 at e;split at e
 ·rfl
 ·cases e
theorem cw {v:Option (Option Value)} (e:wc v=true):v=some none:=by
 unfold wc at e;split at e
 ·rfl
 ·cases e
theorem oQ {v:Option Bool} (e:qV v=true):v=some true:=by
 unfold qV at e;split at e
 ·rfl
 ·cases e
def uF (K:PySem.W.Frag) (v:Option (Option Value)):Obj:=(List.lookup (ir v) K).getD ⟨.none,none,.plain,#[]⟩
def E9:FuncData:=PySem.W.fnOf (PySem.Str.mk #[]) (PySem.Str.mk #[]) ⟨[],[],none,[],[],none,[]⟩ [] ⟨.function,[],false,false,[]⟩ .none .none .none .none none .none .none
def gJ (K:PySem.W.Frag) (v:Option (Option Value)):FuncData:=match (uF K v).data with
 | .func fd=>fd
 | _=>E9
def bare (fd:FuncData):FuncData:={ fd with kwdefaults:=.none,doc:=.none,pyModule:=.none,annotations:=none,code:=.none,closureTuple:=.none }
def bI (K:PySem.W.Frag) (v:Option (Option Value)) (q:Str):Option FuncData:=
 match u8 v && PySem.W.codeIn K (gJ K v).code q && PySem.W.keepIn K (.ref (ir v)) with
 | false=>none
 | true=>match List.lookup (ir v) K with
  | some ⟨_,_,.func fd,_⟩=>some (bare fd)
  | _=>none
theorem rP {K:PySem.W.Frag}{v:Option (Option Value)}{q:Str}{x:FuncData} (e:bI K v q=some x) :
 v=some (some (.ref (ir v)))∧PySem.W.codeIn K (gJ K v).code q=true∧PySem.W.keepIn K (.ref (ir v))=true∧
  List.lookup (ir v) K=some ⟨(uF K v).cls,(uF K v).dict,.func (gJ K v),(uF K v).slots⟩∧bare (gJ K v)=x:=by
 unfold bI at e
 cases h:(u8 v && PySem.W.codeIn K (gJ K v).code q && PySem.W.keepIn K (.ref (ir v))) with
 | false=>rw [h] at e;cases e
 | true=>
  rw [h] at e
  simp only [Bool.and_eq_true] at h
  refine ⟨fR h.1.1,h.1.2,h.2,?_⟩
  cases hl:List.lookup (ir v) K with
  | none=>rw [hl] at e;cases e
  | some o=>
   rw [hl] at e
   obtain ⟨c,d,x',s⟩:=o
   have eo:uF K v=⟨c,d,x',s⟩:=by unfold uF;rw [hl];rfl
   cases x' <;> first | cases e | skip
   rename_i fd
   have ef:gJ K v=fd:=by unfold gJ;rw [eo]
   rw [eo,ef]
   exact ⟨rfl,rfl⟩
def aG (K:PySem.W.Frag) (n:Str):Addr:=ir (PySem.W.nsIn K mainGlobals n)
def rG (K:PySem.W.Frag) (n:Str):Bool:=u8 (PySem.W.nsIn K mainGlobals n)
def oG (K:PySem.W.Frag) (n:Str):Bool:=wc (PySem.W.nsIn K mainGlobals n)
def fG (K:PySem.W.Frag) (n:Str):Option FuncData:=bI K (PySem.W.nsIn K mainGlobals n) n
def dG (n q:Str) (st:Stmt):Option FuncData:=some (PySem.W.fnOf n q (qH st) (lR st) (ak st) .none .none .none .none none .none .none)
theorem aj {K:PySem.W.Frag}{v:Option (Option Value)}{q n:Str}{st:Stmt} (e:bI K v q=dG n q st):d9 K n q st (ir v) (gJ K v):=by
 have h:=rP e
 refine ⟨?_,h.2.2.1⟩
 obtain ⟨h1,h2,h3,h4,z⟩:=h
 refine ⟨_,_,(gJ K v).kwdefaults,(gJ K v).doc,(gJ K v).pyModule,(gJ K v).annotations,(gJ K v).code,(gJ K v).closureTuple,_,?_,h4,h2⟩
 clear h4 h2 h3 h1 e
 generalize gJ K v=fd at z ⊢
 cases fd
 unfold bare PySem.W.fnOf at z
 cases z
 rfl
theorem b3 {K:PySem.W.Frag}{v:Option (Option Value)}{q n:Str}{st:Stmt} (e:bI K v q=dG n q st):v=some (some (.ref (ir v))):=(rP e).1
theorem walk_ofY {l:PySem.W.OpenLaw}{n k:Nat}{q:Program}{loose:List Str}{XP:(Str→Option Value)→Heap→Prop}{d:DefRec}{CX:iR}{sp:PySem.W.Frag→Sp}{x:Str}{α:Type}{obs:PySem.W.Frag→α}{due:α}
 (hn:l.most=some n) (hn2:n≤sizeLine) (hdf:d.params.defaults=[]) (hr:cf k callerA)
 (F:∀(K:PySem.W.Frag) (w:World) (mg:Str→Option Value) (fa:Addr) (h:Heap),obs K=due→K.In h→h.Ns mainGlobals mg→mg d.name=some (.ref fa)→
  ∃fd:FuncData,(∀(s:Shared) (u:Value),BindsTo s fd ⟨[u],[]⟩ [(x,u)])∧
   ∀base:Heap,K.In base→base.Ns mainGlobals mg→aS l.prog w K mg base CX k fa fd [x] (sp K))
 (hsp:∀(K:PySem.W.Frag) (H:Hp) (a:Addr) (ns:List Int),ns.length≤n→qX H→af K H a (ns.map V.int)→sp K [.ref a] H (fun v _=>v=.bl true) fun _ _ _=>False)
 (hCX:∀(H:Hp) (s:Shared) (e:Value) (s':Shared),CX [] H s (fun _ _ _=>False) e s'→False) :
 PySem.W.WalkX q loose XP (fun s=>obs (fragOf s.heap)) (fun _=>due) l.row.toRowW d [] (fun f vs=>PySem.call f vs):=by
 intro w s₀ s₁ mg mb G y a o pm cd doc dV kV ho hd hcd hD hmg hg args vals as' L hpre hlay hrd hwl hlo
 have kx:(fragOf s₀.heap).In s₁.heap:=fun b ob hb=>L.keeps b ob (wH s₀.heap b ob hb)
 exact yB (K:=fun _=>fragOf s₀.heap) (YP:=fun w h=>(fragOf s₀.heap).In h) hn hn2 hdf hr (fun _ _ z=>z) (fun w mg fa h=>F (fragOf s₀.heap) w mg fa h y) hsp hCX w s₀ s₁ mg mb G kx a o pm cd doc dV kV ho hd hcd hD hmg hg args vals as' hpre hlay hrd hwl hlo
section
variable {X:Cx}
inductive Ap (x:V) (y:V) (H:Hp) (Q:VK):Prop
 | mk (a:_) (b:_) (xs:_) (ys:_) (h0:x=.ref a) (h1:y=.ref b) (h2:H a=some (.tup xs)) (h3:H b=some (.tup ys)) (h4:xs.length+ys.length≤10000) (h5:∀p H',ag H H'→H' p=some (.tup (xs++ys))→Q (.ref p) H')
def CD:R2:=fun x y H Q=>Ap  x y H Q
theorem fe:cF X (binaryOp .Add) CD:=by
 intro pins s σ H x y v u Q I rx ry h
 obtain ⟨a,b,xs,ys,rfl,rfl,ha,hb,hz,q⟩:=h
 by_cases hx:xs=[]
 ·subst hx
  cases rx
  cases ry
  obtain ⟨its,r1,p1,_⟩:=I.tuple (ah.of (K:=X.K) ha)
  obtain ⟨its2,r2,p2,_⟩:=I.tuple (ah.of (K:=X.K) hb)
  cases r1
  obtain ⟨⟨cls,dd,data,sl⟩,ho,hc,n,hd⟩:=id p1
  obtain ⟨⟨cls2,dd2,data2,sl2⟩,ho2,hc2,n2,hd2⟩:=id p2
  simp only at hc hd hc2 hd2
  subst hc hd hc2 hd2
  exact concat_meets ⟨_,ho,rfl⟩ ⟨_,ho2,rfl⟩ noFill_tuple_add seq_tuple_add PySem.F.slot_tuple_add PySem.F.entry_tuple_add (PySem.F.args_tuple_add_2 _ _)
   (tuple_addW0 a b _ _ n n2 dd dd2 sl sl2 (by simp)) ⟨ho,ho2,⟨.ref b,H,I,rfl,q b H (ag.refl _) hb⟩⟩
 ·exact yq (K:=X.K) rfl pins s σ H _ _ v u Q I rx ry ⟨a,b,xs,ys,rfl,rfl,ah.of ha,ha,ah.of hb,hx,hz,q⟩
end
end L2
namespace L2
open PySem PySem.Spec PySem.Calls PySem.W PyProof.Rows
section
variable {prog:Program}{w:World}{A:Around}{E:Value→Shared→Prop}{s:Shared}
end
section
variable {X:Cx}
end
section
open PySem.Builtin.Str (occurrences partsBetween)
variable {prog:Program}{w:World}{A:Around}{E:Value→Shared→Prop}{s:Shared}
end
section
variable {X:Cx}
end
end L2
namespace L2
open PySem PySem.Spec PyProof.Rows
section
variable {X:Cx}
def Dq (K:PySem.W.Frag) (ta tv:TE) (f:Str):TS:=fun D σ H=>tv σ H fun y H1=>ta σ H1 fun x H2=>mW fun a C dx fs=>x=.ref a∧H2 a=some (.ins C dx fs)∧mP K C∧kq K C f∧fs.length<1000∧
 ∀H3,pi H2 a (.ins C dx (gL f y fs)) H3→D.nx σ H3
theorem u6 {o value:Expr}{f:Str}{pos pos':Pos}{ta tv:TE} (ha:PE X o ta) (hv:PE X value tv) (hs:swapsWith value (some (.Attribute o f pos')) pos.line X.env=pure false:=by rfl):PS X (.Assign [.Attribute o f pos'] value pos) (Dq X.K ta tv f):=by
 intro pins s σ H D I h
 refine plainObj_wpAny_Assign_Attribute (aO (hv pins s σ H _ I h) fun u s1 ⟨y,H1,I1,ry,q⟩=>aO (ha pins s1 σ H1 _ I1 q) fun ov s2 ⟨x,H2,I2,rx,a,C,dx,fs,ex,ea,c,n,l,q2⟩=>?_) hs
 subst ex
 obtain rfl:ov=Value.ref a:=rx
 exact vI I2 ea c n l ry fun s3 I3=>⟨σ,_,I3,q2 _ .mk'⟩
def Bc (C:Addr) (sp:Sp):TE:=fun σ H Q=>∀x dx H1,H x=none→ag H H1→H1 x=some (.ins C dx [])→sp [.ref x] H1 (fun v H2=>v=.non∧Q (.ref x) H2) E0
theorem tH {CX:iR}{k:Nat}{f C:Addr}{fd:FuncData}{ps:List Str}{sp:Sp}{x:Str}{p pos:Pos} (M:Mk X.K C f) (F:aS X.prog X.w X.K X.mg X.base CX k f fd ps sp) (hr:cf (k+1) X.A) (hg:Gl X x) (hm:X.mg x=some (.ref C)) (hb:bt X.K fd ps []) (hx:fX CX X E0)
 (hdb:(x==("__debug__" : Str))=false:=by decide):PE X (.Call (.Name x p) [] [] pos) (Bc C sp):=by
 intro pins s σ H Q I h
 refine yg M F hr hg hm hb .nil hx hdb pins s σ H Q I fun x dx hx hd ne=>?_
 refine h x dx _ hx (fun a o e=>?_) (by rw [au])
 rw [ao (aF e hx),ao (aF e hd)]
 exact e
abbrev TD:=St→Hp→(List (aV×V)→Hp→Prop)→Prop
def PD (X:Cx) (keys:List (Option Expr)) (values:List Expr) (t:TD):Prop:=
 ∀(pos:Pos) (pins:List (Addr×Obj)) (s:Shared) (σ:St) (H:Hp) (Q:List (aV×V)→Hp→Prop),ad X pins σ H s→t σ H Q→
   wpAny (model X.prog X.w) X.A (evalPairs (pairTrees keys values X.env pos)) (fun vs s1=>iC fun kvs us H1=>ad X pins σ H1 s1∧Carries (jd X.prog X.w) vs us∧KV kvs us∧Q kvs H1) X.xe s
def E2:TD:=fun _ H Q=>Q [] H
def Fb (tk tv:TE) (t:TD):TD:=fun σ H Q=>tk σ H fun x H1=>∃k,x=tS k∧tv σ H1 fun y H2=>t σ H2 fun kvs H3=>Q ((k,y) :: kvs) H3
theorem qr:PD X [] [] E2:=fun pos pins s σ H Q I h=>pairTrees_nil_walk ⟨[],[],H,I,True.intro,.nil,h⟩
theorem cn {k v:Expr}{ks:List (Option Expr)}{vs:List Expr}{tk tv:TE}{t:TD} (hk:PE X k tk) (hv:PE X v tv) (hr:PD X ks vs t):PD X (some k :: ks) (v :: vs) (Fb tk tv t):=by
 intro pos pins s σ H Q I h
 refine pairTrees_cons_walk (aO (hk pins _ σ _ _ I h) fun u s1 ⟨x,H1,I1,rx,kk,ex,q1⟩=>aO (hv pins s1 σ H1 _ I1 q1) fun w2 s2 ⟨y,H2,I2,ry,q2⟩=>aO (hr pos pins s2 σ H2 _ I2 q2) fun ws s3 ⟨kvs,us,H3,I3,c,kv,q3⟩=>?_)
 subst ex
 exact ⟨(kk,y) :: kvs,(kk,w2) :: us,H3,I3,⟨nz rx,rfl,c⟩,.cons ⟨rfl,ry⟩ kv,q3⟩
theorem KV.keys {kvs:List (aV×V)}{us:List (aV×Value)} (r:KV kvs us):kvs.map (·.1)=us.map (·.1):=by
 induction r with
 | nil=>rfl
 | cons h _ ih=>rw [List.map_cons,List.map_cons,ih,h.1]
def Bk (t:TD):TE:=fun σ H Q=>∀p H0,Nw H p (.dK []) H0→t σ H0 fun kvs H1=>H1 p=some (.dK [])∧(kvs.map (·.1)).Nodup∧kvs.length≤15∧∀H2,pi H1 p (.dK kvs) H2→Q (.ref p) H2
theorem me {keys:List (Option Expr)}{values:List Expr}{t:TD}{pos:Pos} (h:PD X keys values t) (h1:keys.all (·.isSome)=true:=by rfl) (h2:keys.length=values.length:=by rfl) (h3:keys≠[]:=by exact fun z=>nomatch z) (h4:keys.length≤15:=by decide):PE X (.Dict keys values pos) (Bk t):=by
 intro pins s σ H Q I hq
 have big:(s.heap.objs.size==sysModules)=false:=by
  have e:mainGlobals<s.heap.objs.size:=(I.mod.glob.keeps I.bk).lt
  exact beq_eq_false_iff_ne.mpr (Ne.symm (Nat.ne_of_lt (Nat.lt_trans (by decide) e)))
 have I1:=I.laid (a:=s.heap.objs.size) (o:=.dK []) (h':=s.heap.push { cls:=.type "dict",data:=.dict #[] }) (t':=s.toks) (fun _ _ e=>Heap.get?_push_of_some _ e) (Nat.le_refl _) (show bi X.prog X.w _ _ _ (.dK []) from ⟨Nat.zero_le _,big,[],.nil,Heap.DictOf.new s.heap⟩)
 refine wpAny_Dict_walk (knd:=jd X.prog X.w) h1 h2 h3 h4 (aO (h pos pins _ σ _ _ I1 (hq _ _ (.mk' I.fresh))) fun vs s1 ⟨kvs,us,H1,I2,c,kv,e,nd,hl,q⟩=>?_)
 obtain ⟨hz,hm,ws,rel,dd⟩:=(show bi X.prog X.w H1 s1.heap _ (.dK []) from I2.hok _ _ e)
 cases rel
 refine ⟨us,c,dd,fun h' dd' hs=>⟨.ref s.heap.objs.size,_,?_,rfl,q _ .mk'⟩⟩
 rw [merged_nil_of_nodup us (by rw [←KV.keys kv];exact nd)] at dd'
 exact I2.dset e hm (by rw [sizeLine_eq];trivial) kv dd' hs
def sP (kvs more:List (aV×V)):List (aV×V):=more.foldl (fun acc kv=>cG acc kv.1 kv.2) kvs
theorem wK {more:List (aV×V)}{ms:List (aV×Value)} (m:KV more ms):∀{kvs:List (aV×V)}{vs:List (aV×Value)},KV kvs vs→KV (sP kvs more) (merged vs ms):=by
 induction m with
 | nil=>exact fun r=>r
 | @cons p q _ _ h _ ih=>
  intro kvs vs r
  have e:=rO r (k:=p.1) h.2
  have e2:KV (cG kvs p.1 p.2) (stored vs q.1 q.2):=by rw [←h.1];exact e
  exact ih e2
inductive AX (x:V) (vs:List V) (H:Hp) (Q:VK):Prop
 | mk (d:_) (o:_) (kvs:_) (more:_) (h0:x=.ref d) (h1:vs=[.ref o]) (h2:d≠o) (h3:H d=some (.dK kvs)) (h4:H o=some (.dK more)) (h5:kvs.length+more.length≤4000) (h6:∀H',pi H d (.dK (sP kvs more)) H'→Q .non H')
def CU:V→List V→Hp→VK→Prop:=fun x vs H Q=>AX  x vs H Q
theorem xE:tJ X "dict.update" CU:=by
 intro pins s σ H x vs v us Q I rx rv h
 obtain ⟨d,o,kvs,more,rfl,rfl,ne,hd,ho,hz,q⟩:=h
 cases rx
 obtain ⟨u,rfl,ru⟩:=rv.one
 cases ru
 obtain ⟨z1,m1,ws,r1,dd⟩:=(show bi X.prog X.w H s.heap d (.dK kvs) from I.hok _ _ hd)
 obtain ⟨z2,m2,us,r2,do'⟩:=(show bi X.prog X.w H s.heap o (.dK more) from I.hok _ _ ho)
 refine call_meetsIn PySem.F.slot_dict_update dd.typeIs PySem.F.entry_dict_update (PySem.F.args_dict_update_2 _ _) (meets_dict_update (jd X.prog X.w) d o ne m2)
  ⟨ws,us,dd,do',(by rw [←r1.length,←r2.length,sizeLine_eq];trivial),fun h' hmm _ hs=>?_⟩
 have k:=wK r2 r1
 have lm:(sP kvs more).length≤sizeLine:=by
  have e1:=merged_length_le ws us
  rw [←k.length,←r1.length,←r2.length] at e1
  rw [sizeLine_eq]
  trivial
 exact ⟨.non,_,I.dset hd m1 lm k hmm hs,rfl,q _ .mk'⟩
inductive CG (x:V) (vs:List V) (H:Hp) (Q:VK):Prop
 | mk (l:Addr) (ks:List Int) (k:Int) (j:Nat) (h0:x=.ref l) (h1:vs=[.int k]) (h2:H l=some (.lst (ks.map V.int))) (h3:ks.length≤10000) (h4:ks[j]?=some k) (h5:(∀m,m<j→ks[m]?≠some k)) (h6:∀H',Ch H l ((ks.eraseIdx j).map V.int) H'→Q .non H')
def DX:V→List V→Hp→VK→Prop:=fun x vs H Q=>CG  x vs H Q
theorem rY {α β:Type} (f:α→β):∀(l:List α) (j:Nat),(l.eraseIdx j).map f=(l.map f).eraseIdx j
 | [],_=>rfl
 | _ :: _,0=>rfl
 | a :: l,j+1=>by simp [rY f l j]
theorem vB:vm X "list.remove" DX:=by
 intro pins s σ H x vs v us Q I rx rv h
 obtain ⟨l,ks,k,j,rfl,rfl,hH,hz,hj,hno,q⟩:=h
 cases rx
 obtain ⟨u,rfl,ru⟩:=rv.one
 obtain ⟨t,rfl⟩:=ru
 obtain ⟨z,its,n,r,hl,e⟩:=I.lstM hH
 have hlen:ks.length=its.length:=by rw [←hl,List.length_map]
 have isI:∀(m:Nat) (w:Value),its[m]?=some w→bw fun i t'=>ks[m]?=some i∧w=.int i t':=fun m w hw=>by
  obtain ⟨i,hi⟩:∃i,ks[m]?=some i:=⟨_,List.getElem?_eq_getElem (by rw [hlen];exact (List.getElem?_eq_some_iff.mp hw).1)⟩
  obtain ⟨w',hw',rw'⟩:=r.get (show (ks.map V.int)[m]?=some (V.int i) by rw [List.getElem?_map,hi];rfl)
  rw [hw] at hw'
  cases hw'
  obtain ⟨t',rfl⟩:=rw'
  exact ⟨i,t',hi,rfl⟩
 have hji:j<its.length:=by rw [←hlen];exact (List.getElem?_eq_some_iff.mp hj).1
 refine call_meets F.slot_list_remove ⟨_,e,rfl⟩ F.entry_list_remove (F.args_list_remove_2 _ _)
  (MeetsSeq.list_remove l its.toArray n (.int k t) (fun y=>match y with | .int i _=>i==k | _=>false) (fun y hy=>?_) j (by simpa using hji) ?_ (fun m hm hlt=>?_) (by rw [List.size_toArray,←hlen,sizeLine_eq];trivial)) ⟨e,?_⟩
 ·obtain ⟨m,hm⟩:=List.getElem?_of_mem (by simpa using hy:y∈its)
  obtain ⟨i,t',_,rfl⟩:=isI m y hm
  exact MeetsSeq.EqGives.int i k t' t
 ·obtain ⟨i,t',e1,e2⟩:=isI j its[j] (List.getElem?_eq_getElem hji)
  rw [hj] at e1
  cases e1
  simp only [List.getElem_toArray,e2,beq_self_eq_true]
 ·have hm':m<its.length:=by simpa using hm
  obtain ⟨i,t',e1,e2⟩:=isI m its[m] (List.getElem?_eq_getElem hm')
  have:=hno m hlt
  rw [e1] at this
  simp only [List.getElem_toArray,e2]
  simpa using fun z=>this (by rw [z])
 ·refine ⟨.non,_,I.lset (its':=its.eraseIdx j) hH e ?_ (r.eraseIdx j) ?_,rfl,q _ ?_⟩
  ·show its.toArray.eraseIdxIfInBounds j=(its.eraseIdx j).toArray
   rw [List.eraseIdxIfInBounds_toArray]
  ·have:=rB (ks.map V.int) j
   trivial
  ·rw [rY]
   exact .mk'
inductive yX (x:V) (vs:List V) (H:Hp) (Q:VK):Prop
 | mk (l:Addr) (ks:List Bool) (k:Bool) (j:Nat) (h0:x=.ref l) (h1:vs=[.bl k]) (h2:H l=some (.lst (ks.map V.bl))) (h3:ks.length≤10000) (h4:ks[j]?=some k) (h5:(∀m,m<j→ks[m]?≠some k)) (h6:Q (.int (j:Int)) H)
def zY:V→List V→Hp→VK→Prop:=fun x vs H Q=>yX  x vs H Q
theorem xM:vm X "list.index" zY:=by
 intro pins s σ H x vs v us Q I rx rv h
 obtain ⟨l,ks,k,j,rfl,rfl,hH,hz,hj,hno,q⟩:=h
 cases rx
 obtain ⟨u,rfl,ru⟩:=rv.one
 cases ru
 obtain ⟨z,its,n,r,hl,e⟩:=I.lstM hH
 have hlen:ks.length=its.length:=by rw [←hl,List.length_map]
 have isI:∀(m:Nat) (w:Value),its[m]?=some w→∃i,ks[m]?=some i∧w=.bool i:=fun m w hw=>by
  obtain ⟨i,hi⟩:∃i,ks[m]?=some i:=⟨_,List.getElem?_eq_getElem (by rw [hlen];exact (List.getElem?_eq_some_iff.mp hw).1)⟩
  obtain ⟨w',hw',rw'⟩:=r.get (show (ks.map V.bl)[m]?=some (V.bl i) by rw [List.getElem?_map,hi];rfl)
  rw [hw] at hw'
  cases hw'
  cases rw'
  exact ⟨i,hi,rfl⟩
 have hji:j<its.length:=by rw [←hlen];exact (List.getElem?_eq_some_iff.mp hj).1
 refine call_meets F.slot_list_index ⟨_,e,rfl⟩ F.entry_list_index (F.args_list_index_2 _ _)
  (MeetsSeq.list_index l its.toArray n (.bool k) (fun y=>match y with | .bool i=>i==k | _=>false) (fun y hy=>?_) j (by simpa using hji) (by trivial) ?_ (fun m hm hlt=>?_)) ⟨e,?_⟩
 ·obtain ⟨m,hm⟩:=List.getElem?_of_mem (by simpa using hy:y∈its)
  obtain ⟨i,_,rfl⟩:=isI m y hm
  exact fun prog w A E s Q h=>SeqAt.EqAt.bool_bool i k prog w E Q h
 ·obtain ⟨i,e1,e2⟩:=isI j its[j] (List.getElem?_eq_getElem hji)
  rw [hj] at e1
  cases e1
  simp only [List.getElem_toArray,e2,beq_self_eq_true]
 ·have hm':m<its.length:=by simpa using hm
  obtain ⟨i,e1,e2⟩:=isI m its[m] (List.getElem?_eq_getElem hm')
  have:=hno m hlt
  rw [e1] at this
  simp only [List.getElem_toArray,e2]
  exact beq_eq_false_iff_ne.mpr fun z=>this (by rw [z])
 ·exact ⟨.int (j:Int),H,I.tok _,⟨()⟩,q⟩
inductive Bh (K:PySem.W.Frag) (xs:List V) (H:Hp) (Q:VK):Prop
 | mk (a:_) (C:_) (c:_) (cv:_) (b:_) (h0:xs=[.ref a,c]) (h1:H a=some (jx a C none)) (h2:yN c=some cv) (h3:k6 K C=true) (h4:PySem.W.kitOne K (.ref C) cv=some b) (h5:Q (.bl b) H)
def Ec (K:PySem.W.Frag):List V→Hp→VK→Prop:=fun xs H Q=>Bh K xs H Q
theorem fu {K:PySem.W.Frag} (ek:X.K=K:=by rfl):cU X (.builtin "isinstance") (Ec K):=by
 subst ek
 intro pins s σ H xs us Q I r h
 obtain ⟨a,C,c,cv,b,rfl,ha,hcv,g,ho,q⟩:=h
 obtain ⟨u,uc,rfl,ru,rc⟩:=sR r
 cases ru
 have ec:uc=cv:=by
  cases c with
  | ref y=>cases hcv;exact rc
  | ty T=>cases hcv;exact rc
  | _=>cases hcv
 subst ec
 have J:bw fun ox od=>PySem.W.InstAt s.heap a ox C od:=by
  obtain ⟨vs,sl,e1⟩:=uv I.hok ha
  exact ⟨_,none,e1,rfl,rfl,trivial⟩
 exact PySem.W.kia_one (ue g) I.kIn J ho (fun z=>nomatch z) fun tk=>⟨.bl b,H,I.tok tk,rfl,q⟩
inductive zI (K:PySem.W.Frag) (xs:List V) (H:Hp) (Q:VK):Prop
 | mk (a:_) (C:_) (tp:_) (cs:_) (cvs:_) (b:_) (h0:xs=[.ref a,.ref tp]) (h1:H a=some (jx a C none)) (h2:H tp=some (.tup cs)) (h3:cs.map yN=cvs.map some) (h4:k6 K C=true) (h5:PySem.W.kitAny K (.ref C) cvs=some b) (h6:Q (.bl b) H)
def CF (K:PySem.W.Frag):List V→Hp→VK→Prop:=fun xs H Q=>zI K xs H Q
theorem qW {K:PySem.W.Frag} (ek:X.K=K:=by rfl):cU X (.builtin "isinstance") (CF K):=by
 subst ek
 intro pins s σ H xs us Q I r h
 obtain ⟨a,C,tp,cs,cvs,b,rfl,ha,ht,hcs,g,ho,q⟩:=h
 obtain ⟨u,uc,rfl,ru,rc⟩:=sR r
 cases ru
 obtain rfl:uc=Value.ref tp:=rc
 obtain ⟨its,rv,⟨o,e1,e2,n,e3⟩,_⟩:=I.tuple (ah.of ht)
 have ei:=yA hcs rv
 subst ei
 obtain ⟨oc,od,odt,osl⟩:=o
 dsimp only at e2 e3
 subst e2 e3
 have J:bw fun ox od=>PySem.W.InstAt s.heap a ox C od:=by
  obtain ⟨vs,sl,e1⟩:=uv I.hok ha
  exact ⟨_,none,e1,rfl,rfl,trivial⟩
 exact PySem.W.kia_tup (ue g) I.kIn J e1 ho (fun z=>nomatch z) fun tk=>⟨.bl b,H,I.tok tk,rfl,q⟩
inductive zW (x:V) (y:V) (H:Hp) (Q:VK):Prop
 | mk (a c:Addr) (xs:List V) (h0:x=.ref a) (h1:y=.ref c) (h2:H a=some (.lst xs)) (h3:H c=some (.lst [])) (h4:Q (.bl xs.isEmpty) H)
def Bn:R2:=fun x y H Q=>zW  x y H Q
theorem yD (hu:X.A.units+64<cLine):cF X (compareOp .Eq) Bn:=by
 intro pins s σ H x y v u Q I rx ry h
 obtain ⟨a,c,xs,rfl,rfl,ha,hc,q⟩:=h
 cases rx
 cases ry
 obtain ⟨z,its,n,r,hl,e⟩:=I.lstM ha
 obtain ⟨z2,its2,n2,r2,hl2,e2⟩:=I.lstM hc
 have h0:its2=[]:=List.eq_nil_of_length_eq_zero hl2.symm
 subst h0
 have l1:s.heap.IsList a its.toArray:=⟨_,e,rfl,()⟩
 have l2:s.heap.IsList c (#[]:Array Value):=⟨_,e2,rfl,()⟩
 have hu':X.A.units<cLine:=by trivial
 cases xs with
 | nil=>
  have:its=[]:=List.eq_nil_of_length_eq_zero hl.symm
  subst this
  refine (PySem.SeqAt.RcAt.lists (e:=fun _=>true) l1 l2 rfl hu' (fun j j1 j2=>absurd j1 (by simp))) X.prog X.w X.xe _ ?_
  exact ⟨.bl _,H,I,rfl,q⟩
 | cons y ys=>
  refine (PySem.SeqAt.RcAt.lists_lengths l1 l2 (by simp at hl ⊢;exact fun z=>by rw [z] at hl;simp at hl) hu') X.prog X.w X.xe _ ?_
  exact ⟨.bl _,H,I,rfl,q⟩
end
def x8 (K:PySem.W.Frag) (C:Addr):Bool:=PySem.W.plainGet K C Str.empty && (PySem.W.hasDictIn K C && (PySem.W.plainOver K C && PySem.W.findIn K (.ref C) "__setattr__" == some (some (.builtin "object.__setattr__"))))
theorem Ac {K:PySem.W.Frag}{C:Addr} (h:x8 K C=true):mP K C:=by
 unfold x8 at h
 rw [Bool.and_eq_true,Bool.and_eq_true,Bool.and_eq_true,beq_iff_eq] at h
 exact ⟨h.1,h.2.1,h.2.2.1,h.2.2.2⟩
def df (K:PySem.W.Frag) (C:Addr) (m:Str):Bool:=u8 (PySem.W.findIn K (.ref C) m) && (PySem.W.isFn K (.ref (ir (PySem.W.findIn K (.ref C) m))) && PySem.W.keepIn K (.ref (ir (PySem.W.findIn K (.ref C) m))))
theorem bM {K:PySem.W.Frag}{C:Addr}{m:Str} (h:df K C m=true):eJ K C m (ir (PySem.W.findIn K (.ref C) m)):=by
 unfold df at h
 rw [Bool.and_eq_true,Bool.and_eq_true] at h
 exact ⟨fR h.1,h.2.1,h.2.2⟩
def vN (K:PySem.W.Frag) (C:Addr):Bool:=PySem.W.makesIn K C && (df K C "__init__" && PySem.W.keepIn K (.ref C))
theorem yh {K:PySem.W.Frag}{C:Addr} (h:vN K C=true):Mk K C (ir (PySem.W.findIn K (.ref C) "__init__")):=by
 unfold vN at h
 rw [Bool.and_eq_true,Bool.and_eq_true] at h
 have m:=bM h.2.1
 exact ⟨h.1,m.at_,m.fn,h.2.2⟩
structure ai where
 pl:List (List Nat)
 ts:List ib
 sh:List Int
 en:Option (List Nat×List Nat)
def qA:ai:=⟨[],[],[],none⟩
inductive iQ where
 | m
 | g
 | p
def iQ.at:iQ→Nat
 | .m=>2
 | .g=>3
 | .p=>4
def iQ.w:iQ→Str
 | .m => "set_most"
 | .g => "set_gain"
 | .p => "set_price"
inductive dn where
 | place (n:List Nat)
 | tie (t:ib)
 | ends (b e:List Nat)
 | part (k:iQ) (i:Int) (x:KM.Fra)
 | shut (i:Int)
 | opn (i:Int)
 | back
def ow:dn→List PyData
 | .place n=>[.str "add_place",.str (S n)]
 | .tie t=>[.str "add_tie",.str (S t.bg),.str (S t.en),im t.most,im t.gain,im t.price]
 | .ends b e=>[.str "set_ends",.str (S b),.str (S e)]
 | .part k i x=>[.str k.w,.int i,im x]
 | .shut i=>[.str "shut",.int i]
 | .opn i=>[.str "reopen",.int i]
 | .back=>[.str "back"]
inductive RW where
 | taken
 | noPlace
 | noTie
 | asItIs
def RW.w:RW→Str
 | .taken => "Taken"
 | .noPlace => "NoPlace"
 | .noTie => "NoTie"
 | .asItIs => "AsItIs"
def two (s:ai) (b e:List Nat):Prop:=b∈s.pl∧e∈s.pl∧b≠e
instance (s:ai) (b e:List Nat):Decidable (two s b e):=inferInstanceAs (Decidable (_∧_∧_))
def has (s:ai) (i:Int):Prop:=0≤i∧i<(s.ts.length:Int)
instance (s:ai) (i:Int):Decidable (has s i):=inferInstanceAs (Decidable (_∧_))
def bC (s:ai):dn→Option RW
 | .place n=>if n∈s.pl then some .taken else none
 | .tie t=>if two s t.bg t.en then none else some .noPlace
 | .ends b e=>if two s b e then none else some .noPlace
 | .part _ i _=>if has s i then none else some .noTie
 | .shut i=>if has s i then (if i∈s.sh then some .asItIs else none) else some .noTie
 | .opn i=>if has s i then (if i∈s.sh then none else some .asItIs) else some .noTie
 | .back=>none
def qI (k:iQ) (x:KM.Fra) (t:ib):ib:=match k with
 | .m=>{ t with most:=x }
 | .g=>{ t with gain:=x }
 | .p=>{ t with price:=x }
def mD (ts:List ib) (k:iQ) (i:Nat) (x:KM.Fra):List ib:=match ts[i]? with
 | some t=>ts.set i (qI k x t)
 | none=>ts
theorem u0 {ts:List ib}{k:iQ}{i:Nat}{x:KM.Fra}{t:ib} (h:ts[i]?=some t):mD ts k i x=ts.set i (qI k x t):=by
 unfold mD;rw [h]
theorem pK (ts:List ib) (k:iQ) (i:Nat) (x:KM.Fra):(mD ts k i x).length=ts.length:=by
 unfold mD
 cases ts[i]? with
 | none=>rfl
 | some t=>exact List.length_set ..
def cy (s:ai):dn→ai
 | .place n=>{ s with pl:=s.pl++[n] }
 | .tie t=>{ s with ts:=s.ts++[t] }
 | .ends b e=>{ s with en:=some (b,e) }
 | .part k i x=>{ s with ts:=mD s.ts k i.toNat x }
 | .shut i=>{ s with sh:=s.sh++[i] }
 | .opn i=>{ s with sh:=s.sh.erase i }
 | .back=>s
def gg (past:List ai) (cur:ai) (D:dn):List ai:=match bC cur D with
 | some _=>past
 | none=>match D with
  | .back=>past.dropLast
  | _=>past++[cur]
def ii (past:List ai) (cur:ai) (D:dn):ai:=match bC cur D with
 | some _=>cur
 | none=>match D with
  | .back=>past.getLast?.getD cur
  | _=>cy cur D
def uw (past:List ai) (cur:ai):dn→PyData
 | .back=>.bool (!past.isEmpty)
 | .tie _=>.int (cur.ts.length:Nat)
 | _=>.none
def nW (past:List ai) (cur:ai) (D:dn):PyData:=match bC cur D with
 | some w=>.tuple [.str "refused",.str w.w]
 | none=>.tuple [.str "told",uw past cur D]
theorem qO {past:List ai}{cur:ai}{D:dn}{r:RW} (h:bC cur D=some r):gg past cur D=past∧ii past cur D=cur∧nW past cur D=.tuple [.str "refused",.str r.w]:=by
 unfold gg ii nW
 rw [h]
 exact ⟨rfl,rfl,rfl⟩
theorem tW {past:List ai}{cur:ai}{D:dn} (h:bC cur D=none):nW past cur D=.tuple [.str "told",uw past cur D]:=by
 unfold nW
 rw [h]
theorem mr {past:List ai}{cur:ai}{D:dn} (h:bC cur D=none) (nb:D≠.back):gg past cur D=past++[cur]∧ii past cur D=cy cur D:=by
 unfold gg ii
 rw [h]
 cases D <;> first | exact ⟨rfl,rfl⟩ | exact absurd rfl nb
theorem gk {past:List ai}{s cur:ai}:gg (past++[s]) cur .back=past∧ii (past++[s]) cur .back=s:=by
 show (past++[s]).dropLast=past∧(past++[s]).getLast?.getD cur=s
 simp
structure kJ (N:Nat) (s:ai):Prop where
 lp:s.pl.length≤N
 lt:s.ts.length≤N
 ls:s.sh.length≤N
 sb:∀i∈s.sh,0≤i∧i<(s.ts.length:Int)
 nd:s.sh.Nodup
theorem kJ.mono {N M:Nat}{s:ai} (h:kJ N s) (k:N≤M):kJ M s:=⟨Nat.le_trans h.lp k,Nat.le_trans h.lt k,Nat.le_trans h.ls k,h.sb,h.nd⟩
theorem kJ.zero (N:Nat):kJ N qA:=⟨Nat.zero_le _,Nat.zero_le _,Nat.zero_le _,fun _ h=>(nomatch h),List.nodup_nil⟩
theorem kJ.next {N:Nat}{s:ai}{D:dn} (h:kJ N s) (r:bC s D=none):kJ (N+1) (cy s D):=by
 obtain ⟨lp,lt,ls,sb,nd⟩:=h
 cases D with
 | place n=>exact ⟨by show (s.pl++[n]).length≤_;simp;trivial,by show s.ts.length≤_;trivial,(by show s.sh.length≤_;trivial),sb,nd⟩
 | tie t=>exact ⟨by show s.pl.length≤_;trivial,by show (s.ts++[t]).length≤_;simp;trivial,by show s.sh.length≤_;trivial,fun i hi=>(by have:=sb i hi;show 0≤i∧i<((s.ts++[t]).length:Int);simp;trivial),nd⟩
 | ends b e=>exact ⟨by show s.pl.length≤_;trivial,by show s.ts.length≤_;trivial,by show s.sh.length≤_;trivial,sb,nd⟩
 | part k i x=>exact ⟨by show s.pl.length≤_;trivial,by show (mD s.ts k i.toNat x).length≤_;rw [pK];trivial,by show s.sh.length≤_;trivial,fun j hj=>by show 0≤j∧j<((mD s.ts k i.toNat x).length:Int);rw [pK];exact sb j hj,nd⟩
 | shut i=>
  have hi:has s i∧i∉s.sh:=by
   replace r:(if has s i then (if i∈s.sh then some RW.asItIs else none) else some .noTie)=none:=r
   by_cases q:has s i
   ·rw [if_pos q] at r
    by_cases q2:i∈s.sh
    ·rw [if_pos q2] at r;cases r
    ·exact ⟨q,q2⟩
   ·rw [if_neg q] at r;cases r
  refine ⟨by show s.pl.length≤_;trivial,by show s.ts.length≤_;trivial,by show (s.sh++[i]).length≤_;simp;trivial,fun j hj=>?_,?_⟩
  ·rcases List.mem_append.mp (show j∈s.sh++[i] from hj) with q | q
   ·exact sb j q
   ·rw [List.mem_singleton.mp q];exact hi.1
  ·show (s.sh++[i]).Nodup
   rw [List.nodup_append]
   refine ⟨nd,by simp,fun a ha b hb=>?_⟩
   rw [List.mem_singleton.mp hb]
   exact fun z=>hi.2 (z▸ha)
 | opn i=>exact ⟨by show s.pl.length≤_;trivial,by show s.ts.length≤_;trivial,by show (s.sh.erase i).length≤_;have:=List.length_erase_le (a:=i) (l:=s.sh);trivial,fun j hj=>sb j (List.mem_of_mem_erase (show j∈s.sh.erase i from hj)),nd.erase i⟩
 | back=>exact ⟨by show s.pl.length≤_;trivial,by show s.ts.length≤_;trivial,by show s.sh.length≤_;trivial,sb,nd⟩
structure fN (N:Nat) (past:List ai) (cur:ai):Prop where
 lp:past.length≤N
 al:∀s∈past,kJ N s
 cu:kJ N cur
theorem fN.mono {N M:Nat}{past:List ai}{cur:ai} (h:fN N past cur) (k:N≤M):fN M past cur:=⟨Nat.le_trans h.lp k,fun s hs=>(h.al s hs).mono k,h.cu.mono k⟩
theorem fN.zero (N:Nat):fN N [] qA:=⟨Nat.zero_le _,fun _ h=>(nomatch h),kJ.zero N⟩
theorem jU {α:Type} (l:List α):l=[]∨bw fun r a=>l=r++[a]:=by
 rcases List.eq_nil_or_concat l with h | ⟨r,a,h⟩
 ·exact .inl h
 ·exact .inr ⟨r,a,by simpa using h⟩
theorem fN.aft {N:Nat}{past:List ai}{cur:ai} (D:dn) (h:fN N past cur):fN (N+1) (gg past cur D) (ii past cur D):=by
 cases r:bC cur D with
 | some w=>obtain ⟨e1,e2,_⟩:=qO (past:=past) r;rw [e1,e2];exact h.mono (Nat.le_succ _)
 | none=>
  by_cases nb:D=.back
  ·subst nb
   rcases jU past with rfl | ⟨q,s,rfl⟩
   ·exact h.mono (Nat.le_succ _)
   ·rw [gk.1,gk.2]
    have:=h.lp
    simp at this
    exact ⟨by trivial,fun z hz=>(h.al z (List.mem_append_left _ hz)).mono (Nat.le_succ _),(h.al s (by simp)).mono (Nat.le_succ _)⟩
  ·obtain ⟨e1,e2⟩:=mr (past:=past) r nb
   rw [e1,e2]
   refine ⟨by have:=h.lp;simp;trivial,fun z hz=>?_,h.cu.next r⟩
   rcases List.mem_append.mp hz with q | q
   ·exact (h.al z q).mono (Nat.le_succ _)
   ·rw [List.mem_singleton.mp q];exact h.cu.mono (Nat.le_succ _)
def dC (s:ai):List Bool:=(List.range s.ts.length).map fun (j:Nat)=>decide ((j:Int)∈s.sh)
theorem i8 (s:ai):(dC s).length=s.ts.length:=by unfold dC;simp
theorem jX {s:ai}{j:Nat} (h:j<s.ts.length):(dC s)[j]?=some (decide ((j:Int)∈s.sh)):=by
 unfold dC
 simp [h]
theorem Ar {N:Nat}{s:ai} (h:kJ N s) (t:ib):dC (cy s (.tie t))=dC s++[false]:=by
 unfold dC cy
 simp only [List.length_append,List.length_singleton]
 rw [List.range_succ,List.map_append]
 congr 1
 simp only [List.map_cons,List.map_nil,List.cons.injEq,and_true]
 exact decide_eq_false fun q=>by have:=h.sb _ q;trivial
theorem xU (s:ai) (k:iQ) (i:Int) (x:KM.Fra):dC (cy s (.part k i x))=dC s:=by
 unfold dC cy
 simp only [pK]
theorem vg {s:ai}{l:List Int}{i:Nat} (b:Bool) (hi:i<s.ts.length) (h:∀j:Nat,decide ((j:Int)∈l)=if j=i then b else decide ((j:Int)∈s.sh)):dC { s with sh:=l }=(dC s).set i b:=by
 apply List.ext_getElem?
 intro j
 by_cases hj:j<s.ts.length
 ·rw [jX (s:={ s with sh:=l }) hj]
  show some (decide ((j:Int)∈l))=_
  rw [h j]
  by_cases e:j=i
  ·subst e
   rw [if_pos rfl,List.getElem?_set_self (by rw [i8];exact hi)]
  ·rw [if_neg e,List.getElem?_set_ne (Ne.symm e),jX hj]
 ·rw [List.getElem?_eq_none (by rw [i8];show s.ts.length≤j;trivial),List.getElem?_eq_none (by rw [List.length_set,i8];trivial)]
theorem xY {s:ai}{i:Int} (h:has s i):dC (cy s (.shut i))=(dC s).set i.toNat true:=by
 refine vg (l:=s.sh++[i]) true (by have:=h.1;have:=h.2;trivial) fun j=>?_
 by_cases e:j=i.toNat
 ·rw [if_pos e]
  exact decide_eq_true (by rw [e,Int.toNat_of_nonneg h.1];simp)
 ·rw [if_neg e]
  have:(j:Int)≠i:=fun z=>e (by trivial)
  simp [this]
theorem yz {N:Nat}{s:ai}{i:Int} (hs:kJ N s) (h:has s i):dC (cy s (.opn i))=(dC s).set i.toNat false:=by
 refine vg (l:=s.sh.erase i) false (by have:=h.1;have:=h.2;trivial) fun j=>?_
 by_cases e:j=i.toNat
 ·rw [if_pos e]
  exact decide_eq_false (by rw [e,Int.toNat_of_nonneg h.1];exact fun q=>(hs.nd.mem_erase_iff.mp q).1 rfl)
 ·rw [if_neg e]
  have:(j:Int)≠i:=fun z=>e (by trivial)
  rw [Bool.eq_iff_iff]
  simp [hs.nd.mem_erase_iff,this]
theorem zK {α:Type} (l:List α) (i:Nat) (x:α) (h:i<l.length):l.take i++[x]++l.drop (i+1)=l.set i x:=by
 rw [List.set_eq_take_append_cons_drop,if_pos h,List.append_assoc]
 rfl
def qe:Option (List Nat×List Nat)→PyData
 | none=>.none
 | some p=>.tuple [.str (S p.1),.str (S p.2)]
def qh (s:ai):PyData:=.tuple [.tuple (s.pl.map fun l=>.str (S l)),.tuple (s.ts.map gn),.tuple ((dC s).map .bool),qe s.en]
theorem ua {E:Addr→Prop}{H:Hp}:∀{ls:List (List Nat)}{xs:List V},ay E H xs (ls.map fun l=>.str (S l))→xs=ls.map bx
 | [],_,h=>by cases h;rfl
 | l :: ls,_,h=>by
  cases h with
  | cons h r=>cases h;rw [ua r];rfl
theorem mL {E:Addr→Prop}{H:Hp}:∀(ls:List (List Nat)),ay E H (ls.map bx) (ls.map fun l=>.str (S l))
 | []=>.nil
 | l :: ls=>.cons (.str _) (mL ls)
theorem uT {E:Addr→Prop}{H:Hp}:∀{ls:List Bool}{xs:List V},ay E H xs (ls.map .bool)→xs=ls.map V.bl
 | [],_,h=>by cases h;rfl
 | l :: ls,_,h=>by
  cases h with
  | cons h r=>cases h;rw [uT r];rfl
theorem qP {E:Addr→Prop}{H:Hp}:∀(ls:List Bool),ay E H (ls.map V.bl) (ls.map .bool)
 | []=>.nil
 | l :: ls=>.cons (.bl _) (qP ls)
theorem jo {E:Addr→Prop}{H:Hp}{v:V}{s:ai} (h:aD E H v (qh s)):zh fun a p t q e ys=>v=.ref a∧H a=some (.tup [.ref p,.ref t,.ref q,e])∧H p=some (.tup (s.pl.map bx))∧H t=some (.tup ys)∧ay E H ys (s.ts.map gn)∧H q=some (.tup ((dC s).map V.bl))∧aD E H e (qe s.en):=by
 unfold qh at h
 cases h with
 | @tup a xs _ ha r=>
 cases r with
 | cons h1 r=>
 cases r with
 | cons h2 r=>
 cases r with
 | cons h3 r=>
 cases r with
 | cons h4 r=>
 cases r
 cases h1 with
 | @tup p _ _ hp rp=>
 cases h2 with
 | @tup t ys _ ht rt=>
 cases h3 with
 | @tup q _ _ hq rq=>
 rw [ua rp] at hp
 rw [uT rq] at hq
 exact ⟨a,p,t,q,_,ys,rfl,ha,hp,ht,rt,hq,h4⟩
theorem oM {E:Addr→Prop}{H:Hp}{a p t q:Addr}{e:V}{ys:List V}{s:ai}{bs:List Bool} (ha:H a=some (.tup [.ref p,.ref t,.ref q,e])) (hp:H p=some (.tup (s.pl.map bx))) (ht:H t=some (.tup ys)) (hy:ay E H ys (s.ts.map gn)) (hq:H q=some (.tup (bs.map V.bl))) (hb:bs=dC s) (he:aD E H e (qe s.en)):aD E H (.ref a) (qh s):=by
 subst hb
 exact .tup ha (.cons (.tup hp (mL _)) (.cons (.tup ht hy) (.cons (.tup hq (qP _)) (.cons he .nil))))
theorem oU {E:Addr→Prop}{H:Hp}{v:V}{t:ib} (h:aD E H v (gn t)):mW fun a m g p=>v=.ref a∧H a=some (.tup [bx t.bg,bx t.en,m,g,p])∧aD E H m (im t.most)∧aD E H g (im t.gain)∧aD E H p (im t.price):=by
 cases h with
 | @tup a xs _ ha r=>
 cases r with
 | cons h1 r=>
 cases r with
 | cons h2 r=>
 cases r with
 | cons h3 r=>
 cases r with
 | cons h4 r=>
 cases r with
 | cons h5 r=>
 cases r
 cases h1
 cases h2
 exact ⟨a,_,_,(),ha,h3,h4,h5⟩
theorem o7 {E:Addr→Prop}{H:Hp}{v:V}{ds:List PyData} (h:aD E H v (.tuple ds)):bw fun a xs=>v=.ref a∧H a=some (.tup xs)∧ay E H xs ds:=by
 cases h with
 | tup ha r=>exact ⟨_,_,rfl,ha,r⟩
theorem qB {E:Addr→Prop}{H:Hp}:∀{ds:List PyData}{xs:List V}{d:PyData},ay E H xs (ds++[d])→bw fun ys v=>xs=ys++[v]∧ay E H ys ds∧aD E H v d
 | [],_,_,h=>by
  cases h with
  | cons h r=>cases r;exact ⟨[],_,rfl,.nil,h⟩
 | _ :: ds,_,d,h=>by
  cases h with
  | cons h r=>
   obtain ⟨ys,v,rfl,a,b⟩:=qB r
   exact ⟨_ :: ys,v,rfl,.cons h a,b⟩
inductive aE (C:Addr) (H:Hp) (r L:Addr) (sts:List ai):Prop
 | mk (dx:Addr) (xs:List V) (hr:H r=some (.ins C dx [("states",.ref L)])) (hL:H L=some (.lst xs)) (ha:ay ED H xs (sts.map qh)):aE C H r L sts
theorem aE.keep {C:Addr}{E:Addr→Prop}{H H':Hp}{r L:Addr}{sts:List ai} (h:aE C H r L sts) (s:ax E H H') (nr:¬E r) (nL:¬E L):aE C H' r L sts:=by
 obtain ⟨dx,xs,hr,hL,ha⟩:=h
 exact ⟨dx,xs,s.old _ _ nr hr,s.old _ _ nL hL,ha.tupS s⟩
theorem aE.sm {C:Addr}{H H':Hp}{r L:Addr}{sts:List ai} (h:aE C H r L sts) (s:ag H H'):aE C H' r L sts:=h.keep (E:=fun _=>False) s.toE (fun z=>z) fun z=>z
theorem aE.ne {C:Addr}{H:Hp}{r L:Addr}{sts:List ai} (h:aE C H r L sts):r≠L:=by
 obtain ⟨dx,xs,hr,hL,_⟩:=h
 exact mJ hr hL (by intro z;cases z)
theorem Ch.sameE {H H1 H2:Hp}{L:Addr}{xs ys:List V} (s1:ag H H1) (hL:H1 L=some (.lst xs)) (c:Ch H1 L ys H2):ax (Eb L) H H2:=⟨fun a o n h=>c.ol a o n (s1 _ _ h),fun a zs h=>c.tup (s1 _ _ h) hL⟩
theorem aE.app {C dx:Addr}{H H1 H2:Hp}{r L:Addr}{sts:List ai}{xs:List V}{v:V}{s':ai} (hr:H r=some (.ins C dx [("states",.ref L)])) (hL:H L=some (.lst xs)) (ha:ay ED H xs (sts.map qh)) (s1:ag H H1) (hv:aD ED H1 v (qh s')) (c:Ch H1 L (xs++[v]) H2) :
 aE C H2 r L (sts++[s'])∧ax (Eb L) H H2:=by
 have hL1:=s1 _ _ hL
 have se:=Ch.sameE s1 hL1 c
 refine ⟨⟨dx,xs++[v],se.old _ _ (mJ hr hL (by intro z;cases z)) hr,c.at',?_⟩,se⟩
 rw [List.map_append]
 exact (ha.tupS se).append (.cons (hv.tupC c hL1) .nil)
theorem aE.last {C:Addr}{H:Hp}{r L:Addr}{past:List ai}{cur:ai} (h:aE C H r L (past++[cur])):iC fun dx ys v=>H r=some (.ins C dx [("states",.ref L)])∧H L=some (.lst (ys++[v]))∧ay ED H ys (past.map qh)∧aD ED H v (qh cur):=by
 obtain ⟨dx,xs,hr,hL,ha⟩:=h
 rw [List.map_append] at ha
 obtain ⟨ys,v,rfl,a,b⟩:=qB ha
 exact ⟨dx,ys,v,hr,hL,a,b⟩
def je (C:Addr) (cl:RW→Addr) (r L:Addr) (past:List ai) (cur:ai) (D:dn) (H:Hp) (Q:VK) (E:XK):Prop:=
 (∀w,bC cur D=some w→∀H',ag H H'→E (.ref (cl w)) none H')∧
 (bC cur D=none→∀v H',ax (Eb L) H H'→aE C H' r L (gg past cur D++[ii past cur D])→aD ED H' v (uw past cur D)→Q v H')
theorem je.ext {C:Addr}{cl:RW→Addr}{r L:Addr}{past:List ai}{cur:ai}{D:dn}{H H1:Hp}{Q:VK}{E:XK} (h:je C cl r L past cur D H Q E) (s:ag H H1):je C cl r L past cur D H1 Q E:=
 ⟨fun w e H' k=>h.1 w e H' (s.trans k),fun e v H' k=>h.2 e v H' (s.toE.trans k)⟩
theorem vC {D:Addr}{H1:Hp}{σc:St}{g:TG}{te:TE}{Q:VK}{J:It}{n:Nat} (F:Nat→PyData) (hz:n≤10000) (hD:H1 D=none) (hgo:∀i H',i<n→ag H1 H'→J.go i H') (hst:∀H',ag H1 H'→J.stop n H')
 (hs:∀i x H' H'' (R:VK),i<n→ag H1 H'→J.yld i H' x H''→(∀v H4,ag H' H4→aD ED H4 v (F i)→R v H4)→g x σc H'' fun σ2 H2=>lw σc σ2∧te σ2 H2 R)
 (hd:∀zs H',ag H1 H'→H' D=some (.lst zs)→ay ED H' zs ((List.range n).map F)→Q (.ref D) H'):oR J σc g tT te D H1 Q:=by
 refine fZ (n:=n) (fun i H' zs=>H' D=some (.lst zs)∧ag H1 H'∧ay ED H' zs ((List.range i).map F)) (gZ hz) ⟨au,dU hD (ag.refl _),.nil⟩ ?_ ?_ ?_ ?_ ?_
 ·rintro i H' zs ⟨q,_,ia⟩
  exact ⟨q,by rw [ia.length];simp⟩
 ·rintro i H' zs hi ⟨_,sm,_⟩
  exact hgo i H' hi sm
 ·rintro H' zs ⟨_,sm,_⟩
  exact hst H' sm
 ·rintro i H' zs x H'' hi ⟨q,sm,ia⟩ y
  refine hs i x H' H'' _ hi sm y fun v H4 s4 dv=>?_
  have q4:=s4 _ _ q
  have tp:∀a us,H4 a=some (.tup us)→aH H4 D (.lst (zs++[v])) a=some (.tup us):=fun a us e=>by
   rw [ao (mJ e q4 (by intro z;cases z))];exact e
  refine ⟨q4,au,dU hD (sm.trans s4),?_⟩
  rw [List.range_succ,List.map_append]
  exact ((ia.mono s4.toE).mono ⟨fun _ _ n _=>absurd trivial n,tp⟩).append (.cons (dv.mono ⟨fun _ _ n _=>absurd trivial n,tp⟩) .nil)
 ·rintro H' zs ⟨q,sm,ia⟩
  exact hd zs H' sm q ia
abbrev sn (p t q:Addr) (v:V):List (aV×V):=[(.inr "places",.ref p),(.inr "ties",.ref t),(.inr "shut",.ref q),(.inr "ends",v)]
abbrev eX (p t q z:Addr) (v:V):List (aV×V):=[(.inr "places",.ref p),(.inr "ties",.ref t),(.inr "shut",.ref q),(.inr "ends",v),(.inr "past",.ref z)]
structure lH (H:Hp) (p t q:Addr) (v:V) (s:ai):Prop where
 hp:H p=some (.lst (s.pl.map bx))
 ht:∃xs,H t=some (.lst xs)∧ay ED H xs (s.ts.map gn)
 hq:H q=some (.lst (s.sh.map V.int))
 hv:aD ED H v (qe s.en)
theorem bF {H H':Hp} (k:jM H H'):ax ED H H':=⟨fun _ _ n _=>absurd trivial n,k⟩
theorem lH.keep {H H':Hp}{p t q:Addr}{v:V}{s:ai} (l:lH H p t q v s) (k:∀a o,a=p∨a=t∨a=q→H a=some o→H' a=some o) (tp:jM H H'):lH H' p t q v s:=by
 obtain ⟨xs,h1,h2⟩:=l.ht
 exact ⟨k _ _ (.inl rfl) l.hp,⟨xs,k _ _ (.inr (.inl rfl)) h1,h2.mono (bF tp)⟩,k _ _ (.inr (.inr rfl)) l.hq,l.hv.mono (bF tp)⟩
structure eQ where
 o:Addr
 p:Addr
 t:Addr
 q:Addr
 v:V
inductive gy (H:Hp):List eQ→List ai→Prop
 | nil:gy H [] []
 | cons {e:eQ}{es:List eQ}{s:ai}{ss:List ai} (ho:H e.o=some (.dK (sn e.p e.t e.q e.v))) (l:lH H e.p e.t e.q e.v s) (r:gy H es ss):gy H (e :: es) (s :: ss)
def cE:List eQ→List Addr
 | []=>[]
 | e :: es=>e.o :: e.p :: e.t :: e.q :: cE es
theorem fg:∀(es fs:List eQ),cE (es++fs)=cE es++cE fs
 | [],_=>rfl
 | e :: es,fs=>by simp [cE,fg es fs]
theorem gy.keep {H H':Hp}{es:List eQ}{ss:List ai} (h:gy H es ss):(∀a∈cE es,∀o,H a=some o→H' a=some o)→jM H H'→gy H' es ss:=by
 induction h with
 | nil=>exact fun _ _=>.nil
 | @cons e es s ss ho l r ih=>
  intro k tp
  exact .cons (k _ (by simp [cE]) _ ho) (l.keep (fun a o ha h=>k a (by rcases ha with rfl | rfl | rfl <;> simp [cE]) o h) tp) (ih (fun a ha o h=>k a (by simp [cE,ha]) o h) tp)
theorem gy.snoc {H:Hp}{es:List eQ}{ss:List ai}{e:eQ}{s:ai} (h:gy H es ss) (ho:H e.o=some (.dK (sn e.p e.t e.q e.v))) (l:lH H e.p e.t e.q e.v s):gy H (es++[e]) (ss++[s]):=by
 induction h with
 | nil=>exact .cons ho l .nil
 | cons ho' l' _ ih=>exact .cons ho' l' ih
theorem gy.len {H:Hp}{es:List eQ}{ss:List ai} (h:gy H es ss):es.length=ss.length:=by
 induction h with
 | nil=>rfl
 | cons _ _ _ ih=>simp [ih]
theorem gy.unsnoc {H:Hp}:∀{ss:List ai}{es:List eQ}{s:ai},gy H es (ss++[s])→bw fun fs e=>es=fs++[e]∧gy H fs ss∧H e.o=some (.dK (sn e.p e.t e.q e.v))∧lH H e.p e.t e.q e.v s
 | [],_,_,h=>by
  cases h with
  | @cons e _ _ _ ho l r=>cases r;exact ⟨[],e,rfl,.nil,ho,l⟩
 | _ :: ss,_,s,h=>by
  cases h with
  | @cons e _ _ _ ho l r=>
   obtain ⟨fs,e',rfl,a,b,c⟩:=gy.unsnoc r
   exact ⟨e :: fs,e',rfl,.cons ho l a,b,c⟩
theorem gy.there {H:Hp}{es:List eQ}{ss:List ai} (h:gy H es ss):∀a∈cE es,H a≠none:=by
 induction h with
 | nil=>exact fun a ha=>nomatch ha
 | @cons e es s ss ho l r ih=>
  intro a ha q
  obtain ⟨xs,h1,_⟩:=l.ht
  simp only [cE,List.mem_cons] at ha
  rcases ha with rfl | rfl | rfl | rfl | ha
  ·rw [ho] at q;cases q
  ·rw [l.hp] at q;cases q
  ·rw [h1] at q;cases q
  ·rw [l.hq] at q;cases q
  ·exact ih a ha q
abbrev b5 (d p t q z:Addr) (es:List eQ):List Addr:=d :: z :: p :: t :: q :: cE es
structure bJ (H:Hp) (d:Addr) (past:List ai) (cur:ai) (p t q z:Addr) (v:V) (es:List eQ):Prop where
 hd:H d=some (.dK (eX p t q z v))
 l:lH H p t q v cur
 hz:H z=some (.lst (es.map fun e=>V.ref e.o))
 hs:gy H es past
 nd:(b5 d p t q z es).Nodup
inductive em (H:Hp) (d:Addr) (F:List Addr) (past:List ai) (cur:ai):Prop
 | mk (p t q z:Addr) (v:V) (es:List eQ) (O:bJ H d past cur p t q z v es) (eF:F=b5 d p t q z es):em H d F past cur
section
variable {H H':Hp}{d p t q z:Addr}{v:V}{es:List eQ}{past:List ai}{cur:ai}{F:List Addr}
theorem bJ.keep (O:bJ H d past cur p t q z v es) (k:∀a∈b5 d p t q z es,∀o,H a=some o→H' a=some o) (tp:jM H H'):bJ H' d past cur p t q z v es:=
 ⟨k _ (by simp) _ O.hd,O.l.keep (fun a o ha h=>k a (by rcases ha with rfl | rfl | rfl <;> simp) o h) tp,k _ (by simp) _ O.hz,O.hs.keep (fun a ha o h=>k a (by simp [ha]) o h) tp,O.nd⟩
theorem bJ.there (O:bJ H d past cur p t q z v es):∀a∈b5 d p t q z es,H a≠none:=by
 intro a ha c
 obtain ⟨xs,h1,_⟩:=O.l.ht
 simp only [b5,List.mem_cons] at ha
 rcases ha with rfl | rfl | rfl | rfl | rfl | ha
 ·rw [O.hd] at c;cases c
 ·rw [O.hz] at c;cases c
 ·rw [O.l.hp] at c;cases c
 ·rw [h1] at c;cases c
 ·rw [O.l.hq] at c;cases c
 ·exact O.hs.there a ha c
theorem em.keep {E:Addr→Prop} (O:em H d F past cur) (s:ax E H H') (n:∀a∈F,¬E a):em H' d F past cur:=by
 obtain ⟨p,t,q,z,v,es,O,rfl⟩:=O
 exact ⟨p,t,q,z,v,es,O.keep (fun a ha o h=>s.old a o (n a ha) h) s.tup,rfl⟩
theorem em.sm (O:em H d F past cur) (s:ag H H'):em H' d F past cur:=O.keep (E:=fun _=>False) s.toE fun _ _ z=>z
theorem em.there (O:em H d F past cur):∀a∈F,H a≠none:=by
 obtain ⟨p,t,q,z,v,es,O,rfl⟩:=O
 exact O.there
theorem bJ.chP {pl:List (List Nat)} (O:bJ H d past cur p t q z v es) (c:Ch H p (pl.map bx) H'):bJ H' d past { cur with pl:=pl } p t q z v es:=by
 have tp:jM H H':=c.tp O.l.hp
 have nd:=O.nd
 simp only [b5,List.nodup_cons,List.mem_cons,not_or] at nd
 obtain ⟨xs,h1,h2⟩:=O.l.ht
 exact ⟨c.ol d _ (by grind) O.hd,⟨c.at',⟨xs,c.ol t _ (by grind) h1,h2.mono (bF tp)⟩,c.ol q _ (by grind) O.l.hq,O.l.hv.mono (bF tp)⟩,c.ol z _ (by grind) O.hz,O.hs.keep (fun a ha o h=>c.ol a o (by grind) h) tp,O.nd⟩
theorem bJ.chT {ts:List ib}{xs:List V} (O:bJ H d past cur p t q z v es) (c:Ch H t xs H') (ha:ay ED H xs (ts.map gn)):bJ H' d past { cur with ts:=ts } p t q z v es:=by
 obtain ⟨ys,h1,h2⟩:=O.l.ht
 have tp:jM H H':=c.tp h1
 have nd:=O.nd
 simp only [b5,List.nodup_cons,List.mem_cons,not_or] at nd
 exact ⟨c.ol d _ (by grind) O.hd,⟨c.ol p _ (by grind) O.l.hp,⟨xs,c.at',ha.mono (bF tp)⟩,c.ol q _ (by grind) O.l.hq,O.l.hv.mono (bF tp)⟩,c.ol z _ (by grind) O.hz,O.hs.keep (fun a ha o h=>c.ol a o (by grind) h) tp,O.nd⟩
theorem bJ.chS {sh:List Int} (O:bJ H d past cur p t q z v es) (c:Ch H q (sh.map V.int) H'):bJ H' d past { cur with sh:=sh } p t q z v es:=by
 have tp:jM H H':=c.tp O.l.hq
 have nd:=O.nd
 simp only [b5,List.nodup_cons,List.mem_cons,not_or] at nd
 obtain ⟨xs,h1,h2⟩:=O.l.ht
 exact ⟨c.ol d _ (by grind) O.hd,⟨c.ol p _ (by grind) O.l.hp,⟨xs,c.ol t _ (by grind) h1,h2.mono (bF tp)⟩,c.at',O.l.hv.mono (bF tp)⟩,c.ol z _ (by grind) O.hz,O.hs.keep (fun a ha o h=>c.ol a o (by grind) h) tp,O.nd⟩
theorem pi.tp {o:HO} (c:pi H d o H') (h:∃kv,H d=some (.dK kv)):jM H H':=fun a us e=>c.ol a _ (fun z=>by obtain ⟨kv,h⟩:=h;rw [z,h] at e;cases e) e
theorem bJ.chE {v':V}{en:Option (List Nat×List Nat)} (O:bJ H d past cur p t q z v es) (c:pi H d (.dK (eX p t q z v')) H') (hv:aD ED H v' (qe en)):bJ H' d past { cur with en:=en } p t q z v' es:=by
 have tp:jM H H':=c.tp ⟨_,O.hd⟩
 have nd:=O.nd
 simp only [b5,List.nodup_cons,List.mem_cons,not_or] at nd
 obtain ⟨xs,h1,h2⟩:=O.l.ht
 exact ⟨c.at',⟨c.ol p _ (by grind) O.l.hp,⟨xs,c.ol t _ (by grind) h1,h2.mono (bF tp)⟩,c.ol q _ (by grind) O.l.hq,hv.mono (bF tp)⟩,c.ol z _ (by grind) O.hz,O.hs.keep (fun a ha o h=>c.ol a o (by grind) h) tp,O.nd⟩
theorem bJ.push {H1:Hp}{e:eQ} (O:bJ H d past cur p t q z v es) (s1:ag H H1) (fo:H e.o=none) (fp:H e.p=none) (ft:H e.t=none) (fq:H e.q=none) (nd':[e.o,e.p,e.t,e.q].Nodup) (ho:H1 e.o=some (.dK (sn e.p e.t e.q e.v))) (l:lH H1 e.p e.t e.q e.v cur) (c:Ch H1 z (es.map (fun e=>V.ref e.o)++[.ref e.o]) H') :
 bJ H' d (past++[cur]) cur p t q z v (es++[e])∧ax (·∈b5 d p t q z es) H H'∧∀a∈b5 d p t q z (es++[e]),a∈b5 d p t q z es∨H a=none:=by
 have O1:=O.keep (fun a _ o h=>s1 a o h) s1.tp
 have tp:jM H1 H':=c.tp O1.hz
 have th:=O.there
 have nf:∀{x},H x=none→x∉b5 d p t q z es:=fun h m=>th _ m h
 have n1:=nf fo
 have n2:=nf fp
 have n3:=nf ft
 have n4:=nf fq
 have nd:=O.nd
 have nd2:=nd
 simp only [b5,List.nodup_cons,List.mem_cons,not_or] at nd n1 n2 n3 n4
 obtain ⟨xs,h1,h2⟩:=O1.l.ht
 refine ⟨⟨c.ol d _ (by grind) O1.hd,O1.l.keep (fun a o ha h=>c.ol a o (by grind) h) tp,by rw [List.map_append];exact c.at',(O1.hs.keep (fun a ha o h=>c.ol a o (by grind) h) tp).snoc (c.ol _ _ (by grind) ho) (l.keep (fun a o ha h=>c.ol a o (by grind) h) tp),?_⟩,⟨fun a o na h=>c.ol a o (fun w=>na (by rw [w];simp)) (s1 _ _ h),fun a us h=>tp a us (s1 _ _ h)⟩,fun a ha=>?_⟩
 ·have e1:b5 d p t q z (es++[e])=b5 d p t q z es++[e.o,e.p,e.t,e.q]:=by simp [b5,fg,cE]
  rw [e1,List.nodup_append]
  refine ⟨nd2,nd',fun a ha b hb w=>?_⟩
  subst w
  refine th a ha ?_
  simp only [List.mem_cons,List.not_mem_nil,or_false] at hb
  rcases hb with rfl | rfl | rfl | rfl
  ·exact fo
  ·exact fp
  ·exact ft
  ·exact fq
 ·have e1:b5 d p t q z (es++[e])=b5 d p t q z es++[e.o,e.p,e.t,e.q]:=by simp [b5,fg,cE]
  rw [e1,List.mem_append] at ha
  rcases ha with ha | hb
  ·exact .inl ha
  ·right
   simp only [List.mem_cons,List.not_mem_nil,or_false] at hb
   rcases hb with rfl | rfl | rfl | rfl
   ·exact fo
   ·exact fp
   ·exact ft
   ·exact fq
theorem bJ.pop {H1:Hp}{fs:List eQ}{e:eQ}{pp:List ai}{s:ai} (O:bJ H d (pp++[s]) cur p t q z v (fs++[e])) (hf:gy H fs pp) (l:lH H e.p e.t e.q e.v s) (c1:Ch H z (fs.map fun e=>V.ref e.o) H1) (c2:pi H1 d (.dK (eX e.p e.t e.q z e.v)) H') :
 bJ H' d pp s e.p e.t e.q z e.v fs∧ax (·∈b5 d p t q z (fs++[e])) H H'∧∀a∈b5 d e.p e.t e.q z fs,a∈b5 d p t q z (fs++[e]):=by
 have nd:=O.nd
 simp only [b5,fg,cE,List.append_nil,List.nodup_cons,List.mem_cons,not_or,List.nodup_append,List.mem_append,List.not_mem_nil,or_false] at nd
 have hd1:H1 d=some (.dK (eX p t q z v)):=c1.ol d _ (by grind) O.hd
 have tp:jM H H':=fun a us h=>c2.tp ⟨_,hd1⟩ a us (c1.tp O.hz a us h)
 have kp:∀a o,a≠z→a≠d→H a=some o→H' a=some o:=fun a o n1 n2 h=>c2.ol a o n2 (c1.ol a o n1 h)
 refine ⟨⟨c2.at',l.keep (fun a o ha h=>kp a o (by grind) (by grind) h) tp,c2.ol z _ (by grind) c1.at',hf.keep (fun a ha o h=>kp a o (by grind) (by grind) h) tp,?_⟩,⟨fun a o na h=>?_,tp⟩,fun a ha=>?_⟩
 ·simp only [b5,List.nodup_cons,List.mem_cons,not_or]
  grind
 ·simp only [b5,List.mem_cons,not_or] at na
  exact kp a o (by grind) (by grind) h
 ·simp only [b5,fg,cE,List.append_nil,List.mem_cons,List.mem_append] at ha ⊢
  grind
end
theorem cX {k:aV}{v:V}{r:List (aV×V)}:valD ((k,v) :: r) k=some v:=by simp [valD]
theorem bn {k' k:aV}{v:V}{r:List (aV×V)} (h:¬k'=k):valD ((k',v) :: r) k=valD r k:=by
 unfold valD
 rw [List.find?_cons,decide_eq_false h]
theorem dX {k' k:aV}{v0 v:V}{r:List (aV×V)} (h:¬k'=k):cG ((k',v0) :: r) k v=(k',v0) :: cG r k v:=by
 unfold cG
 rw [List.any_cons,decide_eq_false h,Bool.false_or]
 by_cases c:r.any (fun kv=>decide (kv.1=k))=true
 ·rw [if_pos c,if_pos c,List.map_cons,if_neg h]
 ·rw [if_neg c,if_neg c];rfl
theorem l7 {k:aV}{v0 v:V}{r:List (aV×V)} (h:∀kv∈r,¬kv.1=k):cG ((k,v0) :: r) k v=(k,v) :: r:=by
 unfold cG
 rw [List.any_cons,decide_eq_true rfl,Bool.true_or,if_pos rfl,List.map_cons,if_pos rfl]
 congr 1
 exact (List.map_congr_left fun kv hkv=>if_neg (h kv hkv)).trans (List.map_id _)
theorem vc:¬(Sum.inr ("places" : Str):aV)=.inr "ties" := by nofun
theorem uR:¬(Sum.inr ("places" : Str):aV)=.inr "shut" := by nofun
theorem uH:¬(Sum.inr ("places" : Str):aV)=.inr "ends" := by nofun
theorem y7:¬(Sum.inr ("places" : Str):aV)=.inr "past" := by nofun
theorem uZ:¬(Sum.inr ("ties" : Str):aV)=.inr "shut" := by nofun
theorem u4:¬(Sum.inr ("ties" : Str):aV)=.inr "ends" := by nofun
theorem ze:¬(Sum.inr ("ties" : Str):aV)=.inr "past" := by nofun
theorem uW:¬(Sum.inr ("shut" : Str):aV)=.inr "ends" := by nofun
theorem yZ:¬(Sum.inr ("shut" : Str):aV)=.inr "past" := by nofun
theorem zg:¬(Sum.inr ("ends" : Str):aV)=.inr "past" := by nofun
section
variable {p t q z p' t' q':Addr}{v v':V}
theorem vP:valD (eX p t q z v) (.inr "places")=some (.ref p):=cX
theorem vT:valD (eX p t q z v) (.inr "ties")=some (.ref t):=(bn vc).trans cX
theorem vS:valD (eX p t q z v) (.inr "shut")=some (.ref q):=(bn uR).trans ((bn uZ).trans cX)
theorem vE:valD (eX p t q z v) (.inr "ends")=some v:=(bn uH).trans ((bn u4).trans ((bn uW).trans cX))
theorem vA:valD (eX p t q z v) (.inr "past")=some (.ref z):=(bn y7).trans ((bn ze).trans ((bn yZ).trans ((bn zg).trans cX)))
theorem zk:((sn p t q v).map (·.1)).Nodup:=by
 simp only [sn,List.map_cons,List.map_nil,List.nodup_cons,List.mem_cons,List.not_mem_nil,or_false,not_or]
 exact ⟨⟨vc,uR,uH⟩,⟨uZ,u4⟩,uW,fun h=>h,List.nodup_nil⟩
theorem Ba:((eX p t q z v).map (·.1)).Nodup:=by
 simp only [eX,List.map_cons,List.map_nil,List.nodup_cons,List.mem_cons,List.not_mem_nil,or_false,not_or]
 exact ⟨⟨vc,uR,uH,y7⟩,⟨uZ,u4,ze⟩,⟨uW,yZ⟩,zg,fun h=>h,List.nodup_nil⟩
theorem rN:cG (eX p t q z v) (.inr "ends") v'=eX p t q z v':=by
 rw [eX,dX uH,dX u4,dX uW,l7]
 intro kv hkv
 rw [List.mem_singleton.mp hkv]
 exact Ne.symm zg
theorem Ai:sP (eX p t q z v) (sn p' t' q' v')=eX p' t' q' z v':=by
 have e1:cG (eX p t q z v) (.inr "places") (.ref p')=eX p' t q z v:=l7 fun kv hkv=>by
  simp only [List.mem_cons,List.not_mem_nil,or_false] at hkv
  rcases hkv with rfl | rfl | rfl | rfl
  ·exact Ne.symm vc
  ·exact Ne.symm uR
  ·exact Ne.symm uH
  ·exact Ne.symm y7
 have e2:cG (eX p' t q z v) (.inr "ties") (.ref t')=eX p' t' q z v:=by
  rw [eX,dX vc,l7]
  intro kv hkv
  simp only [List.mem_cons,List.not_mem_nil,or_false] at hkv
  rcases hkv with rfl | rfl | rfl
  ·exact Ne.symm uZ
  ·exact Ne.symm u4
  ·exact Ne.symm ze
 have e3:cG (eX p' t' q z v) (.inr "shut") (.ref q')=eX p' t' q' z v:=by
  rw [eX,dX uR,dX uZ,l7]
  intro kv hkv
  simp only [List.mem_cons,List.not_mem_nil,or_false] at hkv
  rcases hkv with rfl | rfl
  ·exact Ne.symm uW
  ·exact Ne.symm yZ
 show cG (cG (cG (cG (eX p t q z v) (.inr "places") (.ref p')) (.inr "ties") (.ref t')) (.inr "shut") (.ref q')) (.inr "ends") v'=_
 rw [e1,e2,e3,rN]
end
structure eL (C:Addr) (H:Hp) (r L d:Addr) (F:List Addr) (past:List ai) (cur:ai) (N:Nat):Prop where
 R:aE C H r L (past++[cur])
 O:em H d F past cur
 ok:fN N past cur
 nL:L∉F
 nr:r∉F
theorem aE.thL {C:Addr}{H:Hp}{r L:Addr}{sts:List ai} (h:aE C H r L sts):H L≠none:=by
 obtain ⟨dx,xs,_,hL,_⟩:=h
 rw [hL];exact fun z=>nomatch z
theorem aE.thr {C:Addr}{H:Hp}{r L:Addr}{sts:List ai} (h:aE C H r L sts):H r≠none:=by
 obtain ⟨dx,xs,hr,_,_⟩:=h
 rw [hr];exact fun z=>nomatch z
theorem Bx.th {H:Hp}{b:Addr}{t:Int} (h:Bx H b t):H b≠none:=by
 obtain ⟨_,_,e,_⟩:=h
 rw [e];exact fun z=>nomatch z
theorem Bx.frm {H H':Hp}{b:Addr}{t:Int}{E:Addr→Prop} (B:Bx H b t) (s:ax E H H') (n:¬E b):Bx H' b t:=by
 obtain ⟨c1,c2,e,q1,q2,q3⟩:=B
 exact ⟨c1,c2,s.old _ _ n e,q1,q2,q3⟩
theorem ax.none {E:Addr→Prop}{H H':Hp} (s:ax E H H') {a:Addr} (n:¬E a) (h:H' a=none):H a=none:=by
 cases e:H a with
 | none=>rfl
 | some o=>rw [s.old a o n e] at h;cases h
theorem ax.imp {E E':Addr→Prop}{H H':Hp} (s:ax E H H') (k:∀a,E a→E' a):ax E' H H':=⟨fun a o n h=>s.old a o (fun z=>n (k a z)) h,s.tup⟩
section
variable {C:Addr}{H H' H0 H1 H2:Hp}{r L d b:Addr}{F F' F0 F1 F2:List Addr}{past:List ai}{cur:ai}{N M:Nat}{E:Addr→Prop}
theorem eL.keep (B:eL C H r L d F past cur N) (s:ax E H H') (n1:¬E L) (n2:¬E r) (n3:∀a∈F,¬E a):eL C H' r L d F past cur N:=
 ⟨B.R.keep s n2 n1,B.O.keep s n3,B.ok,B.nL,B.nr⟩
theorem eL.sm (B:eL C H r L d F past cur N) (s:ag H H'):eL C H' r L d F past cur N:=B.keep (E:=fun _=>False) s.toE (fun z=>z) (fun z=>z) fun _ _ z=>z
theorem eL.mono (B:eL C H r L d F past cur N) (h:N≤M):eL C H r L d F past cur M:=⟨B.R,B.O,B.ok.mono h,B.nL,B.nr⟩
structure wR (b L:Addr) (F0 F:List Addr) (H0 H:Hp):Prop where
 sE:ax (fun a=>a=b∨a=L∨a∈F0) H0 H
 sub:∀a∈F,a∈F0∨H0 a=none
theorem wR.old {b L:Addr}{F0 F:List Addr}{H0 H:Hp} (x:wR b L F0 F H0 H) {a:Addr}{o:HO} (h:H0 a=some o) (n1:a≠b) (n2:a≠L) (n3:a∉F0):H a=some o:=x.sE.old a o (by rintro (z | z | z);exact n1 z;exact n2 z;exact n3 z) h
theorem eL.turn {past':List ai}{cur':ai} (B:eL C H r L d F past cur N) (hb:b∉F) (hbL:b≠L) (s1:ax (Eb L) H H1) (R1:aE C H1 r L (past'++[cur'])) (s2:ax (·∈F) H1 H2) (O2:em H2 d F' past' cur') (ok':fN M past' cur') (sub:∀a∈F',a∈F∨H1 a=none) :
 eL C H2 r L d F' past' cur' M∧wR b L F F' H H2:=by
 have nL:=B.nL
 have nr:=B.nr
 refine ⟨⟨R1.keep s2 nr nL,O2,ok',fun h=>?_,fun h=>?_⟩,⟨⟨fun a o n h=>?_,fun a us h=>s2.tup a us (s1.tup a us h)⟩,fun a h=>?_⟩⟩
 ·rcases sub _ h with q | q
  ·exact nL q
  ·exact R1.thL q
 ·rcases sub _ h with q | q
  ·exact nr q
  ·exact R1.thr q
 ·exact s2.old a o (fun z=>n (.inr (.inr z))) (s1.old a o (fun z=>n (.inr (.inl z))) h)
 ·rcases sub a h with q | q
  ·exact .inl q
  ·refine .inr (s1.none (fun z=>?_) q)
   have z':a=L:=z
   rw [z'] at q
   exact R1.thL q
end
theorem yE (past:List ai) (cur:ai):(gg past cur .back).length=past.length - 1:=List.length_dropLast
theorem vy (p:KM.Fra) (n:Nat):Dp (n+2) (im p):=⟨by show 2≤1000;decide,fun x h=>by
 rcases List.mem_cons.mp h with rfl | h
 ·trivial
 ·rw [List.mem_singleton.mp h];trivial⟩
theorem Ce (t:ib) (n:Nat):Dp (n+3) (gn t):=⟨by show 5≤1000;decide,fun x h=>by
 simp only [List.mem_cons,List.not_mem_nil,or_false] at h
 rcases h with rfl | rfl | rfl | rfl | rfl
 ·trivial
 ·trivial
 ·exact vy _ _
 ·exact vy _ _
 ·exact vy _ _⟩
theorem sV (past:List ai) (cur:ai) (D:dn) (n:Nat):Dp (n+2) (nW past cur D):=by
 unfold nW
 cases bC cur D with
 | some w=>
  exact ⟨by show 2≤1000;decide,fun x h=>by
   rcases List.mem_cons.mp h with rfl | h
   ·trivial
   ·rw [List.mem_singleton.mp h];trivial⟩
 | none=>
  exact ⟨by show 2≤1000;decide,fun x h=>by
   rcases List.mem_cons.mp h with rfl | h
   ·trivial
   ·rw [List.mem_singleton.mp h];cases D <;> trivial⟩
theorem EM {α:Type}{P:List α→Prop} (h:P []):∀us:List α,us.length=0→P us:=fun us hl=>by
 cases us with
 | nil=>exact h
 | cons a r=>cases hl
theorem EC {α:Type}{P:List α→Prop} (h:∀a b c d e f,P [a,b,c,d,e,f]):∀us:List α,us.length=6→P us:=fun us hl=>by
 cases us with
 | nil=>cases hl
 | cons a r=>exact EJ (P:=fun r=>P (a :: r)) (fun b c d e f=>h a b c d e f) r (by simpa using hl)
section
variable {X:Cx}{body suite:List Stmt}{b0:Stmt}{x:Str}{hpos pos np:Pos}{tb:(St→XK)→TS}{th:TS}{Cc:Addr}
end
section
variable {X:Cx}{CX:iR}{k:Nat}{f C:Addr}{fd:FuncData}{ps:List Str}{sp:Sp}{EE:St→XK}{m:Str}{pos apos:Pos}{e o:Expr}{es:List Expr}{ta:TE}{t:TA}
end
structure bT where
 r:Addr
 L:Addr
 d:Addr
 F:List Addr
 past:List ai
 cur:ai
def ft (x:bT):List Addr:=x.L :: x.F
structure kS (C:Addr) (H:Hp) (P:Addr→Prop) (xs:List bT) (N:Nat):Prop where
 bo:∀x∈xs,eL C H x.r x.L x.d x.F x.past x.cur N
 dj:∀(i j:Nat) (x y:bT),i≠j→xs[i]?=some x→xs[j]?=some y→∀a∈ft x,a∉ft y
 ro:∀x∈xs,∀y∈xs,x.r∉ft y
 out:∀x∈xs,∀a∈ft x,¬P a
 pr:∀x∈xs,¬P x.r
section
variable {C:Addr}{H H' H0:Hp}{P E:Addr→Prop}{xs:List bT}{N M:Nat}{x y:bT}{i:Nat}
theorem kS.there (S:kS C H P xs N) (hx:x∈xs):∀a∈ft x,H a≠none:=by
 intro a ha
 have B:=S.bo x hx
 rcases List.mem_cons.mp ha with rfl | ha
 ·exact B.R.thL
 ·exact B.O.there a ha
theorem kS.keep (S:kS C H P xs N) (s:ax E H H') (k:∀a,E a→P a):kS C H' P xs N:=
 ⟨fun x hx=>(S.bo x hx).keep s (fun e=>S.out x hx x.L (by simp [ft]) (k _ e)) (fun e=>S.pr x hx (k _ e)) fun a ha e=>S.out x hx a (by simp [ft,ha]) (k _ e),S.dj,S.ro,S.out,S.pr⟩
theorem kS.mono (S:kS C H P xs N) (h:N≤M):kS C H P xs M:=⟨fun x hx=>(S.bo x hx).mono h,S.dj,S.ro,S.out,S.pr⟩
theorem kS.turn {b:Addr}{F':List Addr}{past':List ai}{cur':ai} (S:kS C H P xs N) (hP:∀a,P a→H a≠none) (hb:P b) (hx:xs[i]?=some x) (B':eL C H' x.r x.L x.d F' past' cur' M) (fr:wR b x.L x.F F' H H') (hM:N≤M) :
 kS C H' P (xs.set i { x with F:=F',past:=past',cur:=cur' }) M:=by
 have hi:i<xs.length:=(List.getElem?_eq_some_iff.mp hx).1
 have mx:=List.mem_of_getElem? hx
 have oth:∀(j:Nat) (y:bT),j≠i→xs[j]?=some y→(∀a∈ft y,a∉ft x)∧(∀a∈ft y,a∉x.L :: F')∧eL C H' y.r y.L y.d y.F y.past y.cur M:=fun j y hj hy=>by
  have my:=List.mem_of_getElem? hy
  have d1:∀a∈ft y,a∉ft x:=S.dj j i y x hj hy hx
  have th:=S.there my
  refine ⟨d1,fun a ha h=>?_,?_⟩
  ·rcases List.mem_cons.mp h with q | q
   ·exact d1 a ha (by simp [ft,q])
   ·rcases fr.sub a q with q | q
    ·exact d1 a ha (by simp [ft,q])
    ·exact th a ha q
  ·refine ((S.bo y my).keep fr.sE ?_ ?_ ?_).mono hM
   ·rintro (q | q | q)
    ·exact S.out y my y.L (by simp [ft]) (q▸hb)
    ·exact d1 y.L (by simp [ft]) (by simp [ft,q])
    ·exact d1 y.L (by simp [ft]) (by simp [ft,q])
   ·rintro (q | q | q)
    ·exact S.pr y my (q▸hb)
    ·exact S.ro y my x mx (by simp [ft,q])
    ·exact S.ro y my x mx (by simp [ft,q])
   ·rintro a ha (q | q | q)
    ·exact S.out y my a (by simp [ft,ha]) (q▸hb)
    ·exact d1 a (by simp [ft,ha]) (by simp [ft,q])
    ·exact d1 a (by simp [ft,ha]) (by simp [ft,q])
 have get:∀(j:Nat) (y:bT),(xs.set i { x with F:=F',past:=past',cur:=cur' })[j]?=some y→(j=i∧y={ x with F:=F',past:=past',cur:=cur' })∨(j≠i∧xs[j]?=some y):=fun j y h=>by
  by_cases e:j=i
  ·subst e
   rw [List.getElem?_set_self hi] at h
   exact .inl ⟨rfl,(Option.some.inj h).symm⟩
  ·rw [List.getElem?_set_ne (Ne.symm e)] at h
   exact .inr ⟨e,h⟩
 have newF:∀a∈F',a∈x.F∨H a=none:=fr.sub
 have rn:∀z∈xs,z.r∉x.L :: F':=fun z hz h=>by
  rcases List.mem_cons.mp h with q | q
  ·exact S.ro z hz x mx (by simp [ft,q])
  ·rcases newF _ q with q | q
   ·exact S.ro z hz x mx (by simp [ft,q])
   ·exact (S.bo z hz).R.thr q
 refine ⟨fun y hy=>?_,fun j k y z hjk hy hz a ha=>?_,fun y hy z hz=>?_,fun y hy a ha=>?_,fun y hy=>?_⟩
 ·obtain ⟨j,hj⟩:=List.getElem?_of_mem hy
  rcases get j y hj with ⟨_,rfl⟩ | ⟨e,h⟩
  ·exact B'
  ·exact (oth j y e h).2.2
 ·rcases get j y hy with ⟨rfl,rfl⟩ | ⟨e1,h1⟩
  ·rcases get k z hz with ⟨rfl,rfl⟩ | ⟨e2,h2⟩
   ·exact absurd rfl hjk
   ·exact fun q=>(oth k z e2 h2).2.1 a q ha
  ·rcases get k z hz with ⟨rfl,rfl⟩ | ⟨e2,h2⟩
   ·exact (oth j y e1 h1).2.1 a ha
   ·exact S.dj j k y z hjk h1 h2 a ha
 ·obtain ⟨j,hj⟩:=List.getElem?_of_mem hy
  obtain ⟨k,hk⟩:=List.getElem?_of_mem hz
  have yr:∃y0∈xs,y0.r=y.r:=by
   rcases get j y hj with ⟨_,rfl⟩ | ⟨e,h⟩
   ·exact ⟨x,mx,rfl⟩
   ·exact ⟨y,List.mem_of_getElem? h,rfl⟩
  obtain ⟨y0,m0,e0⟩:=yr
  rw [←e0]
  rcases get k z hk with ⟨_,rfl⟩ | ⟨e,h⟩
  ·exact rn y0 m0
  ·exact S.ro y0 m0 z (List.mem_of_getElem? h)
 ·obtain ⟨j,hj⟩:=List.getElem?_of_mem hy
  rcases get j y hj with ⟨_,rfl⟩ | ⟨e,h⟩
  ·rcases List.mem_cons.mp ha with q | q
   ·exact S.out x mx a (by simp [ft,show a=x.L from q])
   ·rcases newF a q with q | q
    ·exact S.out x mx a (by simp [ft,q])
    ·exact fun e=>hP a e q
  ·exact S.out y (List.mem_of_getElem? h) a ha
 ·obtain ⟨j,hj⟩:=List.getElem?_of_mem hy
  rcases get j y hj with ⟨_,rfl⟩ | ⟨e,h⟩
  ·exact S.pr x mx
  ·exact S.pr y (List.mem_of_getElem? h)
end
theorem fN.back {N:Nat}{past:List ai}{cur:ai} (h:fN N past cur):fN N (gg past cur .back) (ii past cur .back):=by
 rcases jU past with rfl | ⟨q,s,rfl⟩
 ·exact h
 ·rw [gk.1,gk.2]
  have:=h.lp
  simp at this
  exact ⟨by trivial,fun z hz=>h.al z (List.mem_append_left _ hz),h.al s (by simp)⟩
end L2
namespace L2
open PySem PySem.Spec PyProof.Rows
def Pt (b s o nl:Addr):Addr→Prop:=fun a=>a=b∨a=s∨a=o∨a=nl
structure dN (C:Addr) (H2 H:Hp) (b s o nl:Addr) (ls:List (List Nat)) (xs:List bT) (N:Nat) (t:Int):Prop where
 S:kS C H (Pt b s o nl) xs N
 hs:H s=some (.lst (xs.map fun x=>V.ref x.r))
 ho:H o=some (.lst (xs.map fun x=>V.ref x.d))
 hn:H nl=some (.lst (ls.map bx))
 B:Bx H b t
 n1:s≠b
 n2:o≠b
 n3:nl≠b
 n4:s≠o
 n5:s≠nl
 n6:o≠nl
 bE:ax (Eb b) H2 H
 fx:∀x∈xs,∀a∈ft x,H2 a=none
 b2:H2 b≠none
 fs:H2 s=none
 fo:H2 o=none
section
variable {C:Addr}{H2 H H':Hp}{b s o nl:Addr}{ls:List (List Nat)}{xs:List bT}{N M:Nat}{t t':Int}{x y:bT}{i:Nat}
theorem dN.thP (W:dN C H2 H b s o nl ls xs N t):∀a,Pt b s o nl a→H a≠none:=by
 rintro a (rfl | rfl | rfl | rfl)
 ·exact W.B.th
 ·rw [W.hs];exact fun z=>nomatch z
 ·rw [W.ho];exact fun z=>nomatch z
 ·rw [W.hn];exact fun z=>nomatch z
theorem dN.draw (W:dN C H2 H b s o nl ls xs N t) (e:ax (Eb b) H H') (B':Bx H' b t'):dN C H2 H' b s o nl ls xs N t':=
 ⟨W.S.keep e fun a z=>.inl z,e.old _ _ W.n1 W.hs,e.old _ _ W.n2 W.ho,e.old _ _ W.n3 W.hn,B',W.n1,W.n2,W.n3,W.n4,W.n5,W.n6,W.bE.trans e,W.fx,W.b2,W.fs,W.fo⟩
theorem dN.sm (W:dN C H2 H b s o nl ls xs N t) (e:ag H H'):dN C H2 H' b s o nl ls xs N t:=W.draw e.toE (W.B.same e)
theorem dN.mono (W:dN C H2 H b s o nl ls xs N t) (h:N≤M):dN C H2 H b s o nl ls xs M t:=⟨W.S.mono h,W.hs,W.ho,W.hn,W.B,W.n1,W.n2,W.n3,W.n4,W.n5,W.n6,W.bE,W.fx,W.b2,W.fs,W.fo⟩
theorem dN.fb (W:dN C H2 H b s o nl ls xs N t) {a:Addr} (h:H a=none):H2 a=none:=by
 refine W.bE.none (fun e=>?_) h
 have e':a=b:=e
 rw [e'] at h
 exact W.B.th h
theorem iM {α β:Type} (f:α→β) {l:List α}{i:Nat}{x y:α} (h:l[i]?=some x) (e:f y=f x):(l.set i y).map f=l.map f:=by
 apply List.ext_getElem?
 intro j
 rw [List.getElem?_map,List.getElem?_map]
 by_cases hj:j=i
 ·subst hj
  rw [List.getElem?_set_self (List.getElem?_eq_some_iff.mp h).1,h]
  simp [e]
 ·rw [List.getElem?_set_ne (Ne.symm hj)]
theorem dN.turn {F':List Addr}{past':List ai}{cur':ai} (W:dN C H2 H b s o nl ls xs N t) (hx:xs[i]?=some x) (B':eL C H' x.r x.L x.d F' past' cur' M) (fr:wR b x.L x.F F' H H') (B2:Bx H' b t) (hM:N≤M) :
 dN C H2 H' b s o nl ls (xs.set i { x with F:=F',past:=past',cur:=cur' }) M t:=by
 have mx:=List.mem_of_getElem? hx
 have out:=W.S.out x mx
 have old:∀a v,a≠b→Pt b s o nl a→H a=some v→H' a=some v:=fun a v n p h=>fr.old h n (fun e=>out a (by simp [ft,e]) p) (fun e=>out a (by simp [ft,e]) p)
 refine ⟨W.S.turn W.thP (.inl rfl) hx B' fr hM,?_,?_,old _ _ W.n3 (.inr (.inr (.inr rfl))) W.hn,B2,W.n1,W.n2,W.n3,W.n4,W.n5,W.n6,?_,fun y hy a ha=>?_,W.b2,W.fs,W.fo⟩
 ·rw [iM (y:={ x with F:=F',past:=past',cur:=cur' }) _ hx rfl];exact old _ _ W.n1 (.inr (.inl rfl)) W.hs
 ·rw [iM (y:={ x with F:=F',past:=past',cur:=cur' }) _ hx rfl];exact old _ _ W.n2 (.inr (.inr (.inl rfl))) W.ho
 ·refine ⟨fun a v n h=>fr.old (W.bE.old a v n h) n (fun e=>?_) (fun e=>?_),fun a us h=>fr.sE.tup a us (W.bE.tup a us h)⟩
  ·have:=W.fx x mx a (by simp [ft,e])
   rw [h] at this;cases this
  ·have:=W.fx x mx a (by simp [ft,e])
   rw [h] at this;cases this
 ·obtain ⟨j,hj⟩:=List.getElem?_of_mem hy
  by_cases e:j=i
  ·subst e
   rw [List.getElem?_set_self (List.getElem?_eq_some_iff.mp hx).1] at hj
   obtain rfl:=Option.some.inj hj
   rcases List.mem_cons.mp ha with q | q
   ·exact W.fx x mx a (by simp [ft,show a=x.L from q])
   ·rcases fr.sub a q with q | q
    ·exact W.fx x mx a (by simp [ft,q])
    ·exact W.fb q
  ·rw [List.getElem?_set_ne (Ne.symm e)] at hj
   exact W.fx y (List.mem_of_getElem? hj) a ha
theorem dN.add {H3 H4 H5:Hp} (W:dN C H2 H b s o nl ls xs N t) (c1:ax (fun a=>a=s) H H3) (hs3:H3 s=some (.lst ((xs++[y]).map fun x=>V.ref x.r))) (s4:ag H3 H4) (c2:ax (fun a=>a=o) H4 H5) (ho5:H5 o=some (.lst ((xs++[y]).map fun x=>V.ref x.d)))
 (B:eL C H5 y.r y.L y.d y.F y.past y.cur N) (fr:H y.r=none) (ff:∀a∈ft y,H a=none):dN C H2 H5 b s o nl ls (xs++[y]) N t:=by
 have e5:ax (fun a=>a=s∨a=o) H H5:=((c1.imp fun a e=>Or.inl e).trans s4.toE).trans (c2.imp fun a e=>Or.inr e)
 have thP:=W.thP
 have sys:kS C H5 (Pt b s o nl) (xs++[y]) N:=by
  have S5:=W.S.keep e5 (by rintro a (z | z);exact .inr (.inl z);exact .inr (.inr (.inl z)))
  have get:∀(j:Nat) (z:bT),(xs++[y])[j]?=some z→(j=xs.length∧z=y)∨(j<xs.length∧xs[j]?=some z):=fun j z h=>by
   by_cases e:j<xs.length
   ·rw [List.getElem?_append_left e] at h
    exact .inr ⟨e,h⟩
   ·have:=(List.getElem?_eq_some_iff.mp h).1
    rw [List.length_append,List.length_singleton] at this
    have ej:j=xs.length:=by trivial
    subst ej
    simp at h
    exact .inl ⟨rfl,h.symm⟩
  have nold:∀z∈xs,∀a∈ft z,a∉ft y:=fun z hz a ha h=>W.S.there hz a ha (ff a h)
  have mem:∀z,z∈xs++[y]→z∈xs∨z=y:=fun z h=>by simpa using h
  refine ⟨fun z hz=>?_,fun j k z u hjk hz hu a ha=>?_,fun z hz u hu=>?_,fun z hz a ha=>?_,fun z hz=>?_⟩
  ·rcases mem z hz with h | rfl
   ·exact S5.bo z h
   ·exact B
  ·rcases get j z hz with ⟨rfl,rfl⟩ | ⟨l1,h1⟩
   ·rcases get k u hu with ⟨rfl,rfl⟩ | ⟨l2,h2⟩
    ·exact absurd rfl hjk
    ·exact fun q=>nold u (List.mem_of_getElem? h2) a q ha
   ·rcases get k u hu with ⟨rfl,rfl⟩ | ⟨l2,h2⟩
    ·exact nold z (List.mem_of_getElem? h1) a ha
    ·exact W.S.dj j k z u hjk h1 h2 a ha
  ·rcases mem z hz with h | rfl
   ·rcases mem u hu with g | rfl
    ·exact W.S.ro z h u g
    ·exact fun q=>(W.S.bo z h).R.thr (ff _ q)
   ·rcases mem u hu with g | rfl
    ·exact fun q=>W.S.there g _ q fr
    ·intro q
     rcases List.mem_cons.mp q with q | q
     ·exact B.R.ne q
     ·exact B.nr q
  ·rcases mem z hz with h | rfl
   ·exact W.S.out z h a ha
   ·exact fun e=>thP a e (ff a ha)
  ·rcases mem z hz with h | rfl
   ·exact W.S.pr z h
   ·exact fun e=>thP _ e fr
 have nbs:¬(b=s∨b=o):=by rintro (e | e);exact W.n1 e.symm;exact W.n2 e.symm
 refine ⟨sys,?_,ho5,e5.old _ _ (by rintro (e | e);exact W.n5 e.symm;exact W.n6 e.symm) W.hn,W.B.frm e5 nbs,W.n1,W.n2,W.n3,W.n4,W.n5,W.n6,?_,fun z hz a ha=>?_,W.b2,W.fs,W.fo⟩
 ·exact c2.old _ _ W.n4 (s4 _ _ hs3)
 ·refine ⟨fun a v n h=>e5.old a v (fun e=>?_) (W.bE.old a v n h),fun a us h=>e5.tup a us (W.bE.tup a us h)⟩
  rcases e with e | e
  ·rw [e,W.fs] at h;cases h
  ·rw [e,W.fo] at h;cases h
 ·rcases List.mem_append.mp hz with h | h
  ·exact W.fx z h a ha
  ·rw [List.mem_singleton.mp h] at ha
   exact W.fb (ff a ha)
end
end L2
set_option maxHeartbeats 4000000
open L2
local macro_rules | `(#[$n:num,$i:ident])=>`(@pw _ $n _ _ (Or.inl $i) (by rfl) (by decide) (by decide)) | `(#[$n:num,($i:ident)])=>`(@pw _ $n _ _ (Or.inr (Or.inl $i)) (by rfl) (by decide) (by decide))
local macro_rules | `(#[$n:num,()])=>`(@pw _ $n _ _ (Or.inl (by kernel_rfl)) (by rfl) (by decide) (by decide)) | `(#[$n:num,0])=>`(@pw _ $n _ _ (Or.inr (Or.inl (by kernel_rfl))) (by rfl) (by decide) (by decide)) | `(#[$n:num,1])=>`(@pw _ $n _ _ (Or.inr (Or.inr (by kernel_rfl))) (by rfl) (by decide) (by decide))
local macro_rules | `(#[()])=>`(@bD _ _ _ _) | `(#[(),()])=>`(@qp _ _ (by decide) (by decide))
local macro_rules | `(#[[$a]])=>`(@Cg _ _ _ _ _ $a (@cA _) rfl) | `(#[[$a,$b,*]])=>`(@Cg _ _ _ _ _ $a #[[$b,*]] rfl)
local macro_rules | `(#[$a[$b]])=>`(@aK _ _ _ _ _ _ _ (@DJ _ ($(Lean.mkIdent `K)) (by rfl)) $a $b (fun _ _=>rfl)) | `(#[$a[$b]!])=>`(@aK _ _ _ _ _ _ _ (@DW _ ($(Lean.mkIdent `K)) (by rfl)) $a $b (fun _ _=>rfl))
local macro_rules | `(#[$g:ident,$k:ident,$t:term,$a:term])=>`(@ip _ _ _ _ _ _ _ _ _ _ _ _ _ _ _ _ $g ($(Lean.mkIdent `hr).mono (by decide)) $k ($t).m ($t).F.kp ($t).B .nil (@hR _) $a (by decide) (by rfl) (by rfl))
local macro_rules | `(#[$g:ident,(),$t:term,$a:term])=>`(@ip _ _ _ _ _ _ _ _ _ _ _ _ _ _ _ _ $g ($(Lean.mkIdent `hr).mono (by decide)) (by show _=_;kernel_rfl) ($t).m ($t).F.kp ($t).B .nil (@hR _) $a (by decide) (by rfl) (by rfl))
local macro_rules | `(#[$n:num,$s:term,$i:ident,$v:term])=>`(@nt _ _ ($n) _ _ _ _ $s rfl (Or.inl $i) $v (by rfl) (by first | exact .inl rfl | exact .inr rfl | assumption))
local macro_rules | `(#[$n:num,$s:term,$i:ident])=>`(@lW _ _ ($n) _ $s rfl (Or.inl $i) (by first | exact .inl rfl | exact .inr rfl | assumption)) | `(#[$n:num,(),()])=>`(@lW _ _ ($n) _ (@wM _ (by kernel_rfl)) rfl (Or.inl (by kernel_rfl)) (by first | exact .inl rfl | exact .inr rfl | assumption))
local macro_rules | `(#[(),(),$a,$b,$c,$d,$e])=>`(@kd _ _ _ _ _ _ _ _ _ $a $b $c $d $e (by decide) (by decide) (by rfl) (by rfl))
local macro_rules | `(#[$a :: $b])=>`(@ie _ _ _ _ _ $a $b)
local macro_rules | `(#[$f:ident $n:num $a*])=>do
 let us ←(Array.range n.getNat).mapM fun _=>`(_)
 `(@$f $us* $a*)
local macro_rules | `(#[($f:ident)])=>`($f ($(Lean.mkIdent `P):ident:=$(Lean.mkIdent `P)) ($(Lean.mkIdent `w):ident:=$(Lean.mkIdent `w)) ($(Lean.mkIdent `base):ident:=$(Lean.mkIdent `base)) $(Lean.mkIdent `T))
namespace K39
open PySem L2
def bU (i:Nat):Stmt:=PySem.Challenge.pw_gainroads_k39_twins_of_roads.main.body.getD i (.Pass ⟨0,0,0,0⟩)
abbrev qS:Stmt:=bU 16
abbrev pJ:Stmt:=bU 17
abbrev ce:Stmt:=bU 18
abbrev iA:Stmt:=bU 19
abbrev cb:Stmt:=bU 20
abbrev fS:Stmt:=bU 21
abbrev hZ:Stmt:=bU 22
abbrev f8:Stmt:=bU 23
abbrev bG:Stmt:=bU 24
abbrev ku:Stmt:=bU 25
abbrev br:Stmt:=bU 26
abbrev nV:Stmt:=bU 27
abbrev iE:Stmt:=bU 28
abbrev cI:Stmt:=bU 29
abbrev cD:Stmt:=bU 30
abbrev gr:Stmt:=bU 31
abbrev jY:Stmt:=bU 32
abbrev cg:Stmt:=bU 33
abbrev ci:Stmt:=bU 34
abbrev fv:Stmt:=bU 35
abbrev aI:Stmt:=bU 36
abbrev bv:Stmt:=bU 37
abbrev kW:Stmt:=dc (bU 8) 0
abbrev jK:Stmt:=dc (bU 9) 0
abbrev eG:Stmt:=dc (bU 14) 0
abbrev bf:Stmt:=dc (bU 14) 1
abbrev aN:Stmt:=dc (bU 14) 2
abbrev dY:Stmt:=bU 12
abbrev cr:Stmt:=dc (bU 14) 4
abbrev cp:Stmt:=dc (bU 14) 5
abbrev b8:Stmt:=dc (bU 14) 6
abbrev fm:Stmt:=dc (bU 14) 8
abbrev dO:Stmt:=dc (bU 14) 9
abbrev bc:Stmt:=dc (bU 14) 10
abbrev hG:Stmt:=dc (bU 14) 11
abbrev bY:Stmt:=dc (bU 14) 12
abbrev i7:Stmt:=bU 11
abbrev hJ:Stmt:=dc (bU 14) 13
abbrev b6:Stmt:=dc (bU 14) 14
abbrev dS:Stmt:=bU 13
abbrev eO:Stmt:=dc (bU 14) 15
abbrev cW:Stmt:=dc (bU 14) 16
abbrev aT:Stmt:=dc (bU 14) 3
abbrev aU:Stmt:=dc (bU 14) 7
theorem pV:aA ["_law_script", "_law_k", "_law_cell"] ["_law_script", "_law_k"] (ak qS):=⟨rfl,rfl,rfl,by nofun,rfl,by nofun,by nofun⟩
theorem nX:aA ["_law_box_here", "_law_many", "_law_found", "_law_once"] ["_law_box_here", "_law_many"] (ak pJ):=⟨rfl,rfl,rfl,by nofun,rfl,by nofun,by nofun⟩
theorem jV:aA ["_law_script", "_law_cap", "_law_found", "_law_k", "_law_cell"] ["_law_script", "_law_cap"] (ak ce):=⟨rfl,rfl,rfl,by nofun,rfl,by nofun,by nofun⟩
theorem o4:aA ["_law_top", "_law_bottom", "_law_one", "_law_other", "_law_by"] ["_law_top", "_law_bottom"] (ak iA):=⟨rfl,rfl,rfl,by nofun,rfl,by nofun,by nofun⟩
theorem eY:aA ["_law_box_here", "_law_many", "_law_letters", "_law_found", "_law_first", "_law_alike", "_law_k", "_law_rest"] ["_law_box_here", "_law_many"] (ak cb):=⟨rfl,rfl,rfl,by nofun,rfl,by nofun,by nofun⟩
theorem nP:aA ["_law_box_here", "_law_way", "_law_most_of"] ["_law_box_here"] (ak fS):=⟨rfl,rfl,rfl,by nofun,rfl,by nofun,by nofun⟩
theorem rm:aA ["_law_box_here", "_law_way"] ["_law_box_here"] (ak hZ):=⟨rfl,rfl,rfl,by nofun,rfl,by nofun,by nofun⟩
theorem rT:aA ["_law_box_here", "_law_way"] ["_law_box_here"] (ak f8):=⟨rfl,rfl,rfl,by nofun,rfl,by nofun,by nofun⟩
theorem iu:aA ["_law_box_here", "_law_names_here", "_law_many", "_law_settled", "_law_way", "_law_one", "_law_other", "_law_number", "_law_below", "_law_parts"] ["_law_box_here", "_law_names_here", "_law_many", "_law_settled"] (ak bG):=⟨rfl,rfl,rfl,by nofun,rfl,by nofun,by nofun⟩
theorem ve:aA ["_law_roads", "_law_deed_here", "_law_word", "_law_some"] ["_law_roads", "_law_deed_here"] (ak ku):=⟨rfl,rfl,rfl,by nofun,rfl,by nofun,by nofun⟩
theorem eV:aA ["_law_roads", "_law_deed_here", "_law_caught", "_law_found", "error", "_law_kinds"] ["_law_roads", "_law_deed_here"] (ak br):=⟨rfl,rfl,rfl,by nofun,rfl,by nofun,by nofun⟩
theorem ww:aA [] [] (ak nV):=⟨rfl,rfl,rfl,by nofun,rfl,by nofun,by nofun⟩
theorem pD:aA ["_law_own"] ["_law_own"] (ak iE):=⟨rfl,rfl,rfl,by nofun,rfl,by nofun,by nofun⟩
theorem kf:aA ["_law_own", "_law_deed_here", "_law_word", "_law_some", "_law_there"] ["_law_own", "_law_deed_here"] (ak cI):=⟨rfl,rfl,rfl,by nofun,rfl,by nofun,by nofun⟩
theorem nn:aA ["_law_own", "_law_deed_here", "_law_word", "_law_some", "_law_refused_here", "_law_at", "_law_row"] ["_law_own", "_law_deed_here"] (ak cD):=⟨rfl,rfl,rfl,by nofun,rfl,by nofun,by nofun⟩
theorem mf:aA ["_law_own", "_law_ties", "_law_number", "_law_row"] ["_law_own"] (ak gr):=⟨rfl,rfl,rfl,by nofun,rfl,by nofun,by nofun⟩
theorem ya:aA ["_law_own", "_law_deed_here"] ["_law_own", "_law_deed_here"] (ak jY):=⟨rfl,rfl,rfl,by nofun,rfl,by nofun,by nofun⟩
theorem re:aA ["_law_found", "_law_due"] ["_law_found", "_law_due"] (ak cg):=⟨rfl,rfl,rfl,by nofun,rfl,by nofun,by nofun⟩
theorem lf:aA ["_law_roads", "_law_own", "_law_told", "_law_number"] ["_law_roads", "_law_own"] (ak ci):=⟨rfl,rfl,rfl,by nofun,rfl,by nofun,by nofun⟩
theorem oI:aA ["_law_own", "_law_other"] ["_law_own"] (ak fv):=⟨rfl,rfl,rfl,by nofun,rfl,by nofun,by nofun⟩
theorem iD:aA ["_law_box_here", "_law_some", "_law_owns", "_law_names_here", "_law_at", "_law_deed_here"] ["_law_box_here", "_law_some", "_law_owns", "_law_names_here"] (ak aI):=⟨rfl,rfl,rfl,by nofun,rfl,by nofun,by nofun⟩
theorem f9:aA ["_law_script", "_law_box_here", "_law_names_here", "_law_some", "_law_owns", "_law_turn", "_law_deed_here", "_law_at", "_law_again", "_law_roads", "_law_own", "_law_here"] ["_law_script"] (ak bv):=⟨rfl,rfl,rfl,by nofun,rfl,by nofun,by nofun⟩
theorem oa:aA ["self"] ["self"] (ak eG):=⟨rfl,rfl,rfl,by nofun,rfl,by nofun,by nofun⟩
theorem cB:aA ["self", "name", "places", "ties", "shuts", "ends"] ["self", "name"] (ak bf):=⟨rfl,rfl,rfl,by nofun,rfl,by nofun,by nofun⟩
theorem c9:aA ["self", "begin", "end", "most", "gain", "price", "places", "ties", "shuts", "ends"] ["self", "begin", "end", "most", "gain", "price"] (ak aN):=⟨rfl,rfl,rfl,by nofun,rfl,by nofun,by nofun⟩
theorem tQ:aA ["places", "begin", "end"] ["places", "begin", "end"] (ak dY):=⟨rfl,rfl,rfl,by nofun,rfl,by nofun,by nofun⟩
theorem nI:aA ["self", "number", "most"] ["self", "number", "most"] (ak cr):=⟨rfl,rfl,rfl,by nofun,rfl,by nofun,by nofun⟩
theorem oy:aA ["self", "number", "gain"] ["self", "number", "gain"] (ak cp):=⟨rfl,rfl,rfl,by nofun,rfl,by nofun,by nofun⟩
theorem m9:aA ["self", "number", "price"] ["self", "number", "price"] (ak b8):=⟨rfl,rfl,rfl,by nofun,rfl,by nofun,by nofun⟩
theorem qQ:aA ["self", "number"] ["self", "number"] (ak fm):=⟨rfl,rfl,rfl,by nofun,rfl,by nofun,by nofun⟩
theorem pW:aA ["self", "number"] ["self", "number"] (ak dO):=⟨rfl,rfl,rfl,by nofun,rfl,by nofun,by nofun⟩
theorem cK:aA ["self", "begin", "end", "places", "ties", "shuts", "ends"] ["self", "begin", "end"] (ak bc):=⟨rfl,rfl,rfl,by nofun,rfl,by nofun,by nofun⟩
theorem qR:aA ["self"] ["self"] (ak hG):=⟨rfl,rfl,rfl,by nofun,rfl,by nofun,by nofun⟩
theorem fk:aA ["self", "places", "ties", "shuts", "ends"] ["self"] (ak bY):=⟨rfl,rfl,rfl,by nofun,rfl,by nofun,by nofun⟩
theorem wS:aA ["parts", "at", "part"] ["parts", "at", "part"] (ak i7):=⟨rfl,rfl,rfl,by nofun,rfl,by nofun,by nofun⟩
theorem qG:aA ["self"] ["self"] (ak hJ):=⟨rfl,rfl,rfl,by nofun,rfl,by nofun,by nofun⟩
theorem jJ:aA ["self", "number", "shuts"] ["self", "number"] (ak b6):=⟨rfl,rfl,rfl,by nofun,rfl,by nofun,by nofun⟩
theorem tG:aA ["ties", "number"] ["ties", "number"] (ak dS):=⟨rfl,rfl,rfl,by nofun,rfl,by nofun,by nofun⟩
theorem qt:aA ["self"] ["self"] (ak eO):=⟨rfl,rfl,rfl,by nofun,rfl,by nofun,by nofun⟩
theorem lG:aA ["self", "other"] ["self"] (ak cW):=⟨rfl,rfl,rfl,by nofun,rfl,by nofun,by nofun⟩
theorem cL:aA ["self", "number", "at", "part", "places", "ties", "shuts", "ends"] ["self", "number", "at", "part"] (ak aT):=⟨rfl,rfl,rfl,by nofun,rfl,by nofun,by nofun⟩
theorem cM:aA ["self", "number", "whether", "places", "ties", "shuts", "ends"] ["self", "number", "whether"] (ak aU):=⟨rfl,rfl,rfl,by nofun,rfl,by nofun,by nofun⟩
end K39
namespace K39
open PySem L2
set_option genInjectivity false in
set_option genSizeOf false in
structure Df (K:PySem.W.Frag) (mg:Str→Option Value) (x:Str) (st:Stmt) (ps:List Str) where
 f:Addr
 d:FuncData
 m:mg x=some (.ref f)
 F:d9 K x x st f d
 B:bt K d ps []
set_option genInjectivity false in
set_option genSizeOf false in
structure Txt (K:PySem.W.Frag) (mg:Str→Option Value) where
 b_ValueError:mg "ValueError" = none
 b_abs:mg "abs" = none
 b_all:mg "all" = none
 b_bool:mg "bool" = none
 b_divmod:mg "divmod" = none
 b_enumerate:mg "enumerate" = none
 b_int:mg "int" = none
 b_isinstance:mg "isinstance" = none
 b_len:mg "len" = none
 b_list:mg "list" = none
 b_max:mg "max" = none
 b_range:mg "range" = none
 b_str:mg "str" = none
 b_tuple:mg "tuple" = none
 b_zip:mg "zip" = none
 l_box_:Df K mg "_law_box" qS ["_law_script", "_law_k"]
 l_take_:Df K mg "_law_take" pJ ["_law_box_here", "_law_many"]
 l_boxes_:Df K mg "_law_boxes" ce ["_law_script", "_law_cap"]
 l_fr_:Df K mg "_law_fr" iA ["_law_top", "_law_bottom"]
 l_names_:Df K mg "_law_names" cb ["_law_box_here", "_law_many"]
 l_gain_:Df K mg "_law_gain" fS ["_law_box_here"]
 l_much_:Df K mg "_law_much" hZ ["_law_box_here"]
 l_cost_:Df K mg "_law_cost" f8 ["_law_box_here"]
 l_deed_:Df K mg "_law_deed" bG ["_law_box_here", "_law_names_here", "_law_many", "_law_settled"]
 l_do_:Df K mg "_law_do" ku ["_law_roads", "_law_deed_here"]
 l_done_:Df K mg "_law_done" br ["_law_roads", "_law_deed_here"]
 l_begin_:Df K mg "_law_begin" nV []
 l_copied_:Df K mg "_law_copied" iE ["_law_own"]
 l_refused_:Df K mg "_law_refused" cI ["_law_own", "_law_deed_here"]
 l_step_:Df K mg "_law_step" cD ["_law_own", "_law_deed_here"]
 l_net_:Df K mg "_law_net" gr ["_law_own"]
 l_may_:Df K mg "_law_may" jY ["_law_own", "_law_deed_here"]
 l_same_:Df K mg "_law_same" cg ["_law_found", "_law_due"]
 l_stands_:Df K mg "_law_stands" ci ["_law_roads", "_law_own"]
 l_twin_of_:Df K mg "_law_twin_of" fv ["_law_own"]
 l_turn_right_:Df K mg "_law_turn_right" aI ["_law_box_here", "_law_some", "_law_owns", "_law_names_here"]
 law_:Df K mg "law" bv ["_law_script"]
 f_Gaining__init:Addr
 d_Gaining__init:FuncData
 F_Gaining__init:d9 K "__init__" "Gaining.__init__" kW f_Gaining__init d_Gaining__init
 B_Gaining__init:bt K d_Gaining__init ["self", "ties"] []
 f_NotSoMuch__init:Addr
 d_NotSoMuch__init:FuncData
 F_NotSoMuch__init:d9 K "__init__" "NotSoMuch.__init__" jK f_NotSoMuch__init d_NotSoMuch__init
 B_NotSoMuch__init:bt K d_NotSoMuch__init ["self", "most"] []
 f_Roads____init__:Addr
 d_Roads____init__:FuncData
 F_Roads____init__:d9 K "__init__" "Roads.__init__" eG f_Roads____init__ d_Roads____init__
 B_Roads____init__:bt K d_Roads____init__ ["self"] []
 f_Roads__add_place:Addr
 d_Roads__add_place:FuncData
 F_Roads__add_place:d9 K "add_place" "Roads.add_place" bf f_Roads__add_place d_Roads__add_place
 B_Roads__add_place:bt K d_Roads__add_place ["self", "name"] []
 f_Roads__add_tie:Addr
 d_Roads__add_tie:FuncData
 F_Roads__add_tie:d9 K "add_tie" "Roads.add_tie" aN f_Roads__add_tie d_Roads__add_tie
 B_Roads__add_tie:bt K d_Roads__add_tie ["self", "begin", "end", "most", "gain", "price"] []
 check_two_:Df K mg "check_two" dY ["places", "begin", "end"]
 f_Roads__set_most:Addr
 d_Roads__set_most:FuncData
 F_Roads__set_most:d9 K "set_most" "Roads.set_most" cr f_Roads__set_most d_Roads__set_most
 B_Roads__set_most:bt K d_Roads__set_most ["self", "number", "most"] []
 f_Roads__set_gain:Addr
 d_Roads__set_gain:FuncData
 F_Roads__set_gain:d9 K "set_gain" "Roads.set_gain" cp f_Roads__set_gain d_Roads__set_gain
 B_Roads__set_gain:bt K d_Roads__set_gain ["self", "number", "gain"] []
 f_Roads__set_price:Addr
 d_Roads__set_price:FuncData
 F_Roads__set_price:d9 K "set_price" "Roads.set_price" b8 f_Roads__set_price d_Roads__set_price
 B_Roads__set_price:bt K d_Roads__set_price ["self", "number", "price"] []
 f_Roads__shut:Addr
 d_Roads__shut:FuncData
 F_Roads__shut:d9 K "shut" "Roads.shut" fm f_Roads__shut d_Roads__shut
 B_Roads__shut:bt K d_Roads__shut ["self", "number"] []
 f_Roads__reopen:Addr
 d_Roads__reopen:FuncData
 F_Roads__reopen:d9 K "reopen" "Roads.reopen" dO f_Roads__reopen d_Roads__reopen
 B_Roads__reopen:bt K d_Roads__reopen ["self", "number"] []
 f_Roads__set_ends:Addr
 d_Roads__set_ends:FuncData
 F_Roads__set_ends:d9 K "set_ends" "Roads.set_ends" bc f_Roads__set_ends d_Roads__set_ends
 B_Roads__set_ends:bt K d_Roads__set_ends ["self", "begin", "end"] []
 f_Roads__back:Addr
 d_Roads__back:FuncData
 F_Roads__back:d9 K "back" "Roads.back" hG f_Roads__back d_Roads__back
 B_Roads__back:bt K d_Roads__back ["self"] []
 f_Roads__net:Addr
 d_Roads__net:FuncData
 F_Roads__net:d9 K "net" "Roads.net" bY f_Roads__net d_Roads__net
 B_Roads__net:bt K d_Roads__net ["self"] []
 put_at_:Df K mg "put_at" i7 ["parts", "at", "part"]
 f_Roads__ends:Addr
 d_Roads__ends:FuncData
 F_Roads__ends:d9 K "ends" "Roads.ends" hJ f_Roads__ends d_Roads__ends
 B_Roads__ends:bt K d_Roads__ends ["self"] []
 f_Roads__is_shut:Addr
 d_Roads__is_shut:FuncData
 F_Roads__is_shut:d9 K "is_shut" "Roads.is_shut" b6 f_Roads__is_shut d_Roads__is_shut
 B_Roads__is_shut:bt K d_Roads__is_shut ["self", "number"] []
 check_tie_:Df K mg "check_tie" dS ["ties", "number"]
 f_Roads__deeds:Addr
 d_Roads__deeds:FuncData
 F_Roads__deeds:d9 K "deeds" "Roads.deeds" eO f_Roads__deeds d_Roads__deeds
 B_Roads__deeds:bt K d_Roads__deeds ["self"] []
 f_Roads__twin:Addr
 d_Roads__twin:FuncData
 F_Roads__twin:d9 K "twin" "Roads.twin" cW f_Roads__twin d_Roads__twin
 B_Roads__twin:bt K d_Roads__twin ["self"] []
 f_Roads__set_part:Addr
 d_Roads__set_part:FuncData
 F_Roads__set_part:d9 K "set_part" "Roads.set_part" aT f_Roads__set_part d_Roads__set_part
 B_Roads__set_part:bt K d_Roads__set_part ["self", "number", "at", "part"] []
 f_Roads__set_shut:Addr
 d_Roads__set_shut:FuncData
 F_Roads__set_shut:d9 K "set_shut" "Roads.set_shut" aU f_Roads__set_shut d_Roads__set_shut
 B_Roads__set_shut:bt K d_Roads__set_shut ["self", "number", "whether"] []
 x_GainError:Addr
 m_GainError:mg "GainError" = some (.ref x_GainError)
 k_GainError:PySem.W.keepIn K (.ref x_GainError)=true
 xb_GainError:CI K x_GainError=true
 x_Taken:Addr
 m_Taken:mg "Taken" = some (.ref x_Taken)
 k_Taken:PySem.W.keepIn K (.ref x_Taken)=true
 q_Taken:d0 K x_Taken (none)=true
 x_NoPlace:Addr
 m_NoPlace:mg "NoPlace" = some (.ref x_NoPlace)
 k_NoPlace:PySem.W.keepIn K (.ref x_NoPlace)=true
 q_NoPlace:d0 K x_NoPlace (none)=true
 x_NoTie:Addr
 m_NoTie:mg "NoTie" = some (.ref x_NoTie)
 k_NoTie:PySem.W.keepIn K (.ref x_NoTie)=true
 q_NoTie:d0 K x_NoTie (none)=true
 x_AsItIs:Addr
 m_AsItIs:mg "AsItIs" = some (.ref x_AsItIs)
 k_AsItIs:PySem.W.keepIn K (.ref x_AsItIs)=true
 q_AsItIs:d0 K x_AsItIs (none)=true
 x_NoEnds:Addr
 m_NoEnds:mg "NoEnds" = some (.ref x_NoEnds)
 k_NoEnds:PySem.W.keepIn K (.ref x_NoEnds)=true
 q_NoEnds:d0 K x_NoEnds (none)=true
 x_Gaining:Addr
 m_Gaining:mg "Gaining" = some (.ref x_Gaining)
 k_Gaining:PySem.W.keepIn K (.ref x_Gaining)=true
 fn_Gaining:PySem.W.isFn K (.ref f_Gaining__init)=true
 st_Gaining:vJ K x_Gaining "ties" = true
 fd_Gaining:vt K x_Gaining "ties" = true
 q_Gaining:d0 K x_Gaining (some (.ref f_Gaining__init))=true
 x_NotSoMuch:Addr
 m_NotSoMuch:mg "NotSoMuch" = some (.ref x_NotSoMuch)
 k_NotSoMuch:PySem.W.keepIn K (.ref x_NotSoMuch)=true
 fn_NotSoMuch:PySem.W.isFn K (.ref f_NotSoMuch__init)=true
 st_NotSoMuch:vJ K x_NotSoMuch "most" = true
 fd_NotSoMuch:vt K x_NotSoMuch "most" = true
 q_NotSoMuch:d0 K x_NotSoMuch (some (.ref f_NotSoMuch__init))=true
 x_Roads:Addr
 m_Roads:mg "Roads" = some (.ref x_Roads)
 c_Roads:mP K x_Roads
 mk_Roads:Mk K x_Roads f_Roads____init__
 h_Roads__add_place:eJ K x_Roads "add_place" f_Roads__add_place
 h_Roads__add_tie:eJ K x_Roads "add_tie" f_Roads__add_tie
 h_Roads__set_most:eJ K x_Roads "set_most" f_Roads__set_most
 h_Roads__set_gain:eJ K x_Roads "set_gain" f_Roads__set_gain
 h_Roads__set_price:eJ K x_Roads "set_price" f_Roads__set_price
 h_Roads__shut:eJ K x_Roads "shut" f_Roads__shut
 h_Roads__reopen:eJ K x_Roads "reopen" f_Roads__reopen
 h_Roads__set_ends:eJ K x_Roads "set_ends" f_Roads__set_ends
 h_Roads__back:eJ K x_Roads "back" f_Roads__back
 h_Roads__net:eJ K x_Roads "net" f_Roads__net
 h_Roads__ends:eJ K x_Roads "ends" f_Roads__ends
 h_Roads__is_shut:eJ K x_Roads "is_shut" f_Roads__is_shut
 h_Roads__deeds:eJ K x_Roads "deeds" f_Roads__deeds
 h_Roads__twin:eJ K x_Roads "twin" f_Roads__twin
 h_Roads__set_part:eJ K x_Roads "set_part" f_Roads__set_part
 h_Roads__set_shut:eJ K x_Roads "set_shut" f_Roads__set_shut
 n_Roads_states:kq K x_Roads "states"
 em_Taken_GainError:PySem.W.exmOne K (.ref x_Taken) (.ref x_GainError)=some true
 em_NoPlace_GainError:PySem.W.exmOne K (.ref x_NoPlace) (.ref x_GainError)=some true
 em_NoTie_GainError:PySem.W.exmOne K (.ref x_NoTie) (.ref x_GainError)=some true
 em_AsItIs_GainError:PySem.W.exmOne K (.ref x_AsItIs) (.ref x_GainError)=some true
 kin:mn K [x_Taken,x_NoPlace,x_NoTie,x_AsItIs,x_NoEnds,x_Gaining,x_NotSoMuch] x_GainError=true
end K39
namespace K39
open PySem L2
abbrev ae (s:Stmt) (x:Str):Prop:=(ak s).names.lookup x=some NameKind.local
abbrev ur (s:Stmt) (x:Str):Prop:=(ak s).names.lookup x=some NameKind.cell
abbrev ap (s:Stmt) (x:Str):Prop:=(ak s).names.lookup x=some NameKind.globalImplicit
theorem jn:ae ce "_law_script" := by nofun
theorem fQ:ae ce "_law_cap" := by nofun
theorem eh:ur ce "_law_found" := by nofun
theorem g9:ae ce "_law_k" := by nofun
theorem kE:ae ce "_law_cell" := by nofun
theorem qZ:ap ce "list" := by nofun
theorem ng:ap ce "enumerate" := by nofun
theorem qd:ap ce "range" := by nofun
theorem sv:ap ce "max" := by nofun
theorem sF:ap ce "len" := by nofun
theorem oj:ae iA "_law_top" := by nofun
theorem iB:ae iA "_law_bottom" := by nofun
theorem fW:ae iA "_law_one" := by nofun
theorem eS:ae iA "_law_other" := by nofun
theorem lB:ae iA "_law_by" := by nofun
theorem ql:ap iA "abs" := by nofun
theorem eZ:ur cb "_law_box_here" := by nofun
theorem ik:ur cb "_law_many" := by nofun
theorem iO:ur cb "_law_letters" := by nofun
theorem gI:ae cb "_law_found" := by nofun
theorem jL:ur cb "_law_first" := by nofun
theorem jI:ae cb "_law_alike" := by nofun
theorem mO:ae cb "_law_k" := by nofun
theorem kr:ae cb "_law_rest" := by nofun
theorem hW:ap cb "_law_take" := by nofun
theorem iF:ap cb "range" := by nofun
theorem fI:ae fS "_law_box_here" := by nofun
theorem jb:ae fS "_law_way" := by nofun
theorem fT:ae fS "_law_most_of" := by nofun
theorem iy:ap fS "_law_take" := by nofun
theorem sM:ap fS "_law_fr" := by nofun
theorem fB:ae hZ "_law_box_here" := by nofun
theorem gq:ae hZ "_law_way" := by nofun
theorem iw:ap hZ "_law_take" := by nofun
theorem sK:ap hZ "_law_fr" := by nofun
theorem fC:ae f8 "_law_box_here" := by nofun
theorem i9:ae f8 "_law_way" := by nofun
theorem iK:ap f8 "_law_take" := by nofun
theorem sB:ap f8 "_law_fr" := by nofun
theorem uo:ap f8 "int" := by nofun
theorem aX:ae bG "_law_box_here" := by nofun
theorem cV:ae bG "_law_names_here" := by nofun
theorem qm:ae bG "_law_many" := by nofun
theorem nq:ae bG "_law_settled" := by nofun
theorem bQ:ae bG "_law_way" := by nofun
theorem gw:ae bG "_law_one" := by nofun
theorem ig:ae bG "_law_other" := by nofun
theorem cm:ae bG "_law_number" := by nofun
theorem kA:ae bG "_law_below" := by nofun
theorem kM:ae bG "_law_parts" := by nofun
theorem dM:ap bG "_law_take" := by nofun
theorem nv:ap bG "len" := by nofun
theorem kT:ap bG "_law_much" := by nofun
theorem kX:ap bG "_law_gain" := by nofun
theorem kR:ap bG "_law_cost" := by nofun
theorem bS:ae ku "_law_roads" := by nofun
theorem jl:ae ku "_law_deed_here" := by nofun
theorem b4:ae ku "_law_word" := by nofun
theorem aW:ae ku "_law_some" := by nofun
theorem pY:ae br "_law_roads" := by nofun
theorem mv:ae br "_law_deed_here" := by nofun
theorem bp:ae br "_law_caught" := by nofun
theorem ij:ae br "_law_found" := by nofun
theorem lV:ae br "error" := by nofun
theorem dy:ae br "_law_kinds" := by nofun
theorem sj:ap br "_law_do" := by nofun
theorem om:ap br "GainError" := by nofun
theorem bX:ap br "isinstance" := by nofun
theorem qU:ap br "Taken" := by nofun
theorem pN:ap br "NoPlace" := by nofun
theorem qE:ap br "NoTie" := by nofun
theorem qf:ap br "AsItIs" := by nofun
theorem qi:ap br "NoEnds" := by nofun
theorem og:ap br "NotSoMuch" := by nofun
theorem pO:ap br "Gaining" := by nofun
theorem mX:ap br "ValueError" := by nofun
theorem bN:ae iE "_law_own" := by nofun
theorem cQ:ap iE "list" := by nofun
theorem da:ae cI "_law_own" := by nofun
theorem gD:ae cI "_law_deed_here" := by nofun
theorem cc:ae cI "_law_word" := by nofun
theorem bz:ae cI "_law_some" := by nofun
theorem iU:ae cI "_law_there" := by nofun
theorem qo:ap cI "len" := by nofun
theorem ba:ae cD "_law_own" := by nofun
theorem fi:ae cD "_law_deed_here" := by nofun
theorem bV:ae cD "_law_word" := by nofun
theorem bH:ae cD "_law_some" := by nofun
theorem dH:ae cD "_law_refused_here" := by nofun
theorem jz:ae cD "_law_at" := by nofun
theorem i5:ae cD "_law_row" := by nofun
theorem nM:ap cD "_law_refused" := by nofun
theorem o9:ap cD "_law_copied" := by nofun
theorem ul:ap cD "len" := by nofun
theorem jE:ae gr "_law_own" := by nofun
theorem iV:ae gr "_law_ties" := by nofun
theorem kg:ae gr "_law_number" := by nofun
theorem hU:ae gr "_law_row" := by nofun
theorem o8:ap gr "enumerate" := by nofun
theorem mR:ap gr "tuple" := by nofun
theorem mV:ae jY "_law_own" := by nofun
theorem iT:ae jY "_law_deed_here" := by nofun
theorem pA:ap jY "len" := by nofun
theorem bA:ae cg "_law_found" := by nofun
theorem bq:ae cg "_law_due" := by nofun
theorem aY:ap cg "isinstance" := by nofun
theorem jB:ap cg "list" := by nofun
theorem i6:ap cg "tuple" := by nofun
theorem oA:ap cg "len" := by nofun
theorem ug:ap cg "all" := by nofun
theorem uj:ap cg "zip" := by nofun
theorem ko:ap cg "str" := by nofun
theorem tX:ap cg "int" := by nofun
theorem mQ:ap cg "bool" := by nofun
theorem dP:ae ci "_law_roads" := by nofun
theorem dh:ae ci "_law_own" := by nofun
theorem jH:ae ci "_law_told" := by nofun
theorem fJ:ae ci "_law_number" := by nofun
theorem jG:ap ci "_law_same" := by nofun
theorem pS:ap ci "_law_net" := by nofun
theorem lN:ap ci "len" := by nofun
theorem pR:ap ci "range" := by nofun
theorem jP:ae fv "_law_own" := by nofun
theorem fE:ae fv "_law_other" := by nofun
theorem mK:ap fv "_law_copied" := by nofun
theorem fK:ae aI "_law_box_here" := by nofun
theorem eT:ae aI "_law_some" := by nofun
theorem cS:ae aI "_law_owns" := by nofun
theorem js:ae aI "_law_names_here" := by nofun
theorem cC:ae aI "_law_at" := by nofun
theorem bZ:ae aI "_law_deed_here" := by nofun
theorem lQ:ap aI "_law_take" := by nofun
theorem jq:ap aI "len" := by nofun
theorem lI:ap aI "_law_deed" := by nofun
theorem mE:ap aI "_law_may" := by nofun
theorem l6:ap aI "_law_same" := by nofun
theorem lE:ap aI "_law_done" := by nofun
theorem lK:ap aI "_law_step" := by nofun
theorem oE:ap aI "all" := by nofun
theorem nK:ap aI "zip" := by nofun
theorem qJ:ae bv "_law_script" := by nofun
theorem bO:ae bv "_law_box_here" := by nofun
theorem gf:ae bv "_law_names_here" := by nofun
theorem cN:ae bv "_law_some" := by nofun
theorem cj:ae bv "_law_owns" := by nofun
theorem kI:ae bv "_law_turn" := by nofun
theorem et:ae bv "_law_deed_here" := by nofun
theorem mG:ae bv "_law_at" := by nofun
theorem sx:ae bv "_law_again" := by nofun
theorem mS:ae bv "_law_roads" := by nofun
theorem lg:ae bv "_law_own" := by nofun
theorem oi:ae bv "_law_here" := by nofun
theorem sC:ap bv "_law_boxes" := by nofun
theorem sk:ap bv "_law_names" := by nofun
theorem iG:ap bv "_law_take" := by nofun
theorem uB:ap bv "Roads" := by nofun
theorem si:ap bv "_law_begin" := by nofun
theorem lc:ap bv "range" := by nofun
theorem tE:ap bv "_law_deed" := by nofun
theorem rf:ap bv "len" := by nofun
theorem uD:ap bv "_law_may" := by nofun
theorem ou:ap bv "_law_same" := by nofun
theorem nN:ap bv "_law_done" := by nofun
theorem oq:ap bv "_law_step" := by nofun
theorem qC:ap bv "_law_twin_of" := by nofun
theorem nJ:ap bv "_law_turn_right" := by nofun
theorem rM:ap bv "zip" := by nofun
theorem xy:ap bv "all" := by nofun
theorem k7:ae eG "self" := by nofun
theorem gH:ae bf "self" := by nofun
theorem gC:ae bf "name" := by nofun
theorem de:ae bf "places" := by nofun
theorem gA:ae bf "ties" := by nofun
theorem gc:ae bf "shuts" := by nofun
theorem gG:ae bf "ends" := by nofun
theorem kF:ap bf "Taken" := by nofun
theorem iq:ae aN "self" := by nofun
theorem gR:ae aN "begin" := by nofun
theorem iJ:ae aN "end" := by nofun
theorem lD:ae aN "most" := by nofun
theorem lP:ae aN "gain" := by nofun
theorem lj:ae aN "price" := by nofun
theorem dF:ae aN "places" := by nofun
theorem eM:ae aN "ties" := by nofun
theorem gW:ae aN "shuts" := by nofun
theorem io:ae aN "ends" := by nofun
theorem jA:ap aN "check_two" := by nofun
theorem ml:ap aN "len" := by nofun
theorem jw:ae dY "places" := by nofun
theorem jN:ae dY "begin" := by nofun
theorem kY:ae dY "end" := by nofun
theorem iP:ap dY "NoPlace" := by nofun
theorem k4:ae cr "self" := by nofun
theorem kL:ae cr "number" := by nofun
theorem lh:ae cr "most" := by nofun
theorem kZ:ae cp "self" := by nofun
theorem j0:ae cp "number" := by nofun
theorem lA:ae cp "gain" := by nofun
theorem kQ:ae b8 "self" := by nofun
theorem jS:ae b8 "number" := by nofun
theorem kH:ae b8 "price" := by nofun
theorem nZ:ae fm "self" := by nofun
theorem mj:ae fm "number" := by nofun
theorem mo:ae dO "self" := by nofun
theorem k9:ae dO "number" := by nofun
theorem gP:ae bc "self" := by nofun
theorem gE:ae bc "begin" := by nofun
theorem il:ae bc "end" := by nofun
theorem dq:ae bc "places" := by nofun
theorem gS:ae bc "ties" := by nofun
theorem gz:ae bc "shuts" := by nofun
theorem lu:ae bc "ends" := by nofun
theorem jv:ap bc "check_two" := by nofun
theorem jp:ae hG "self" := by nofun
theorem pe:ae bY "self" := by nofun
theorem iS:ae bY "places" := by nofun
theorem jF:ae bY "ties" := by nofun
theorem ji:ae bY "shuts" := by nofun
theorem pb:ae bY "ends" := by nofun
theorem nO:ap bY "tuple" := by nofun
theorem pH:ap bY "zip" := by nofun
theorem lZ:ae i7 "parts" := by nofun
theorem pf:ae i7 "at" := by nofun
theorem sq:ae i7 "part" := by nofun
theorem nh:ae hJ "self" := by nofun
theorem lT:ae b6 "self" := by nofun
theorem gB:ae b6 "number" := by nofun
theorem dW:ae b6 "shuts" := by nofun
theorem jD:ap b6 "check_tie" := by nofun
theorem pG:ae dS "ties" := by nofun
theorem oh:ae dS "number" := by nofun
theorem qj:ap dS "len" := by nofun
theorem pc:ap dS "NoTie" := by nofun
theorem mY:ae eO "self" := by nofun
theorem nQ:ap eO "len" := by nofun
theorem nu:ae cW "self" := by nofun
theorem fD:ae cW "other" := by nofun
theorem mZ:ap cW "Roads" := by nofun
theorem nU:ap cW "list" := by nofun
theorem gN:ae aT "self" := by nofun
theorem dm:ae aT "number" := by nofun
theorem mB:ae aT "at" := by nofun
theorem lv:ae aT "part" := by nofun
theorem gj:ae aT "places" := by nofun
theorem cJ:ae aT "ties" := by nofun
theorem gF:ae aT "shuts" := by nofun
theorem gU:ae aT "ends" := by nofun
theorem jj:ap aT "check_tie" := by nofun
theorem gi:ap aT "put_at" := by nofun
theorem gO:ae aU "self" := by nofun
theorem dw:ae aU "number" := by nofun
theorem fM:ae aU "whether" := by nofun
theorem f7:ae aU "places" := by nofun
theorem d8:ae aU "ties" := by nofun
theorem dE:ae aU "shuts" := by nofun
theorem gM:ae aU "ends" := by nofun
theorem jk:ap aU "check_tie" := by nofun
theorem j8:ap aU "AsItIs" := by nofun
theorem j9:ap aU "put_at" := by nofun
end K39
namespace L2
open PySem PySem.Spec PySem.Calls PyProof.Rows
def topRunT (tb:String→Option Builtin) (p:Program) (w:World) (n₀:Nat) (ann:Option Value):Nat→PySem.W.SharedT→Thread→Option PySem.W.SharedT
 | 0,_,_=>none
 | n+1,s,t=>match PySem.W.through t with
  | true=>some s
  | false=>match PySem.W.stepOk n₀ ann t with
   | false=>none
   | true=>match PySem.W.stepT (denote tb) p w s t with
    | some (s',t')=>topRunT tb p w n₀ ann n s' t'
    | none=>none
theorem rS {tb:String→Option Builtin}{p:Program}{w:World}{n₀:Nat}{ann:Option Value}:∀{n:Nat}{s s':PySem.W.SharedT}{t:Thread},topRunT tb p w n₀ ann n s t=some s'→PySem.W.topRun tb p w n₀ ann n s.abs t=some s'.abs
 | 0,_,_,_,h=>by cases h
 | n+1,s,s',t,h=>by
  unfold topRunT at h
  unfold PySem.W.topRun
  cases he:PySem.W.through t with
  | true=>rw [he] at h;cases h;rfl
  | false=>
   rw [he] at h
   cases hk:PySem.W.stepOk n₀ ann t with
   | false=>rw [hk] at h;cases h
   | true=>
    rw [hk] at h
    cases hs:PySem.W.stepT (denote tb) p w s t with
    | none=>rw [hs] at h;cases h
    | some r=>obtain ⟨s₂,t₂⟩:=r;rw [hs] at h;rw [PySem.W.stepT_spec hs];exact rS h
open PySem.W in
noncomputable def C8 (P:Params):BT:=.node (boot_o_0 P) (.node (boot_o_1 P) (.node (boot_o_3 P) (.node (boot_o_7 P) .nil .nil) .nil) (.node (boot_o_5 P) (.node (boot_o_9 P) .nil .nil) .nil)) (.node (boot_o_2 P) (.node (boot_o_4 P) (.node (boot_o_8 P) .nil .nil) .nil) (.node (boot_o_6 P) (.node (boot_o_10 P) .nil .nil) .nil))
noncomputable def bootS (w:World) (os:OsState):PySem.W.SharedT:=⟨C8 w.params,11,{},#[],PySem.W.boot_drawn,PySem.W.boot_toks,os⟩
theorem wG (w:World):((PySem.W.boot_heap w.params).isNs mainGlobals,(PySem.W.boot_heap w.params).objs.size,(PySem.W.boot_heap w.params).nsMap mainGlobals "__annotations__")=(true,11,some (.ref 6)):=by kernel_rfl
noncomputable def looks {α:Type} (p q:Program) (Xt:Shared→Bool) (Yf:Shared→α) (w:World) (s:Shared):=
 (PySem.W.staticsOk (importedModules p.main.body) (PySem.W.boot_heap w.params) s.heap && PySem.W.namesBound p s.heap && PySem.W.gensDone s && PySem.W.laidKept (PySem.W.boot_heap w.params) s.heap,PySem.W.openSeen q [] (importedModules p.main.body) Xt true s,Yf s)
theorem left_tree {p q:Program}{Xt:Shared→Bool}{α:Type}{Yf:Shared→α}{Ya:α}{N:Nat}
 (e:PySem.W.opening p=PySem.W.plainProg p.main.scope.names) (hN:Nat.ble 600 N=true) (f:∀s,PySem.fenceModules? p s=some s)
 (run:∀(w:World) (os:OsState),(topRunT treeTable p w 11 (some (.ref 6)) N (bootS w os) (PySem.W.topStub p)).map (fun s=>looks p q Xt Yf w s.abs)=some (true,PySem.W.openGood q [],Ya)) :
 PySem.W.LeftO p q [] Xt Yf (fun _=>Ya) N:=fun w=>by
 obtain ⟨⟨h,gs,d,k,os⟩,ef,ev⟩:=Option.map_eq_some_iff.mp (PySem.W.boot_open e hN f w)
 obtain ⟨rfl,rfl,rfl,rfl⟩:h=PySem.W.boot_heap w.params∧gs=#[]∧d=PySem.W.boot_drawn∧k=PySem.W.boot_toks:=by simpa using ev
 obtain ⟨st,er,el⟩:=Option.map_eq_some_iff.mp (run w os)
 have r:=rS er
 have e0:(bootS w os).abs=⟨PySem.W.boot_heap w.params,#[],PySem.W.boot_drawn,PySem.W.boot_toks,os⟩:=rfl
 rw [e0] at r
 obtain ⟨z1,z2,z3⟩:_∧_∧_:=by simpa only [Prod.mk.injEq] using wG w
 obtain ⟨l1,l2,l3⟩:_∧_∧_:=by simpa only [looks,Prod.mk.injEq] using el
 have t:PySem.W.topFrom treeTable p w N ⟨PySem.W.boot_heap w.params,#[],PySem.W.boot_drawn,PySem.W.boot_toks,os⟩=some st.abs:=by
  unfold PySem.W.topFrom
  dsimp only
  rw [z1,z2,z3,r]
  show (match PySem.W.staticsOk (importedModules p.main.body) (PySem.W.boot_heap w.params) st.abs.heap && PySem.W.namesBound p st.abs.heap && PySem.W.gensDone st.abs && PySem.W.laidKept (PySem.W.boot_heap w.params) st.abs.heap with | true=>_ | false=>_)=_
  rw [l1]
 unfold PySem.W.openEnds
 rw [ef]
 show (PySem.W.topFrom treeTable p w N _).map _=_
 rw [t]
 exact congrArg some (Prod.ext l2 l3)
theorem left_of2 {α β:Type}{f f':World→β→α}{g g':α} (ef:f=f') (eg:g=g') (h:∀w os,f' w os=g') (w:World) (os:β):f w os=g:=by
 rw [ef,eg];exact h w os
end L2
namespace K39
open PySem L2
def qv:Program:=PySem.W.view PySem.Challenge.pw_gainroads_k39_twins_of_roads [0,2,3,4,5,6,7,8,9,11,12,13,14,16,17,18,19,20,21,22,23,24,25,26,27,28,29,30,31,32,33,34,35,36,37]
def obs (K:PySem.W.Frag):List (Option FuncData)×List Bool:=([fG K "_law_box",
 fG K "_law_take",
 fG K "_law_boxes",
 fG K "_law_fr",
 fG K "_law_names",
 fG K "_law_gain",
 fG K "_law_much",
 fG K "_law_cost",
 fG K "_law_deed",
 fG K "_law_do",
 fG K "_law_done",
 fG K "_law_begin",
 fG K "_law_copied",
 fG K "_law_refused",
 fG K "_law_step",
 fG K "_law_net",
 fG K "_law_may",
 fG K "_law_same",
 fG K "_law_stands",
 fG K "_law_twin_of",
 fG K "_law_turn_right",
 fG K "law",
 bI K (PySem.W.findIn K (.ref (aG K "Gaining")) "__init__") "Gaining.__init__",
 bI K (PySem.W.findIn K (.ref (aG K "NotSoMuch")) "__init__") "NotSoMuch.__init__",
 bI K (PySem.W.findIn K (.ref (aG K "Roads")) "__init__") "Roads.__init__",
 bI K (PySem.W.findIn K (.ref (aG K "Roads")) "add_place") "Roads.add_place",
 bI K (PySem.W.findIn K (.ref (aG K "Roads")) "add_tie") "Roads.add_tie",
 fG K "check_two",
 bI K (PySem.W.findIn K (.ref (aG K "Roads")) "set_most") "Roads.set_most",
 bI K (PySem.W.findIn K (.ref (aG K "Roads")) "set_gain") "Roads.set_gain",
 bI K (PySem.W.findIn K (.ref (aG K "Roads")) "set_price") "Roads.set_price",
 bI K (PySem.W.findIn K (.ref (aG K "Roads")) "shut") "Roads.shut",
 bI K (PySem.W.findIn K (.ref (aG K "Roads")) "reopen") "Roads.reopen",
 bI K (PySem.W.findIn K (.ref (aG K "Roads")) "set_ends") "Roads.set_ends",
 bI K (PySem.W.findIn K (.ref (aG K "Roads")) "back") "Roads.back",
 bI K (PySem.W.findIn K (.ref (aG K "Roads")) "net") "Roads.net",
 fG K "put_at",
 bI K (PySem.W.findIn K (.ref (aG K "Roads")) "ends") "Roads.ends",
 bI K (PySem.W.findIn K (.ref (aG K "Roads")) "is_shut") "Roads.is_shut",
 fG K "check_tie",
 bI K (PySem.W.findIn K (.ref (aG K "Roads")) "deeds") "Roads.deeds",
 bI K (PySem.W.findIn K (.ref (aG K "Roads")) "twin") "Roads.twin",
 bI K (PySem.W.findIn K (.ref (aG K "Roads")) "set_part") "Roads.set_part",
 bI K (PySem.W.findIn K (.ref (aG K "Roads")) "set_shut") "Roads.set_shut"],
 [rG K "GainError",
 rG K "Taken",
 rG K "NoPlace",
 rG K "NoTie",
 rG K "AsItIs",
 rG K "NoEnds",
 rG K "Gaining",
 rG K "NotSoMuch",
 PySem.W.keepIn K (.ref (aG K "GainError")),
 CI K (aG K "GainError"),
 PySem.W.keepIn K (.ref (aG K "Taken")),
 d0 K (aG K "Taken") (none),
 PySem.W.keepIn K (.ref (aG K "NoPlace")),
 d0 K (aG K "NoPlace") (none),
 PySem.W.keepIn K (.ref (aG K "NoTie")),
 d0 K (aG K "NoTie") (none),
 PySem.W.keepIn K (.ref (aG K "AsItIs")),
 d0 K (aG K "AsItIs") (none),
 PySem.W.keepIn K (.ref (aG K "NoEnds")),
 d0 K (aG K "NoEnds") (none),
 PySem.W.keepIn K (.ref (aG K "Gaining")),
 PySem.W.isFn K (.ref (ir (PySem.W.findIn K (.ref (aG K "Gaining")) "__init__"))),
 vJ K (aG K "Gaining") "ties",
 vt K (aG K "Gaining") "ties",
 d0 K (aG K "Gaining") (some (.ref (ir (PySem.W.findIn K (.ref (aG K "Gaining")) "__init__")))),
 PySem.W.keepIn K (.ref (aG K "NotSoMuch")),
 PySem.W.isFn K (.ref (ir (PySem.W.findIn K (.ref (aG K "NotSoMuch")) "__init__"))),
 vJ K (aG K "NotSoMuch") "most",
 vt K (aG K "NotSoMuch") "most",
 d0 K (aG K "NotSoMuch") (some (.ref (ir (PySem.W.findIn K (.ref (aG K "NotSoMuch")) "__init__")))),
 qV (PySem.W.exmOne K (.ref (aG K "Taken")) (.ref (aG K "GainError"))),
 qV (PySem.W.exmOne K (.ref (aG K "NoPlace")) (.ref (aG K "GainError"))),
 qV (PySem.W.exmOne K (.ref (aG K "NoTie")) (.ref (aG K "GainError"))),
 qV (PySem.W.exmOne K (.ref (aG K "AsItIs")) (.ref (aG K "GainError"))),
 mn K [(aG K "Taken"),(aG K "NoPlace"),(aG K "NoTie"),(aG K "AsItIs"),(aG K "NoEnds"),(aG K "Gaining"),(aG K "NotSoMuch")] (aG K "GainError"),
 rG K "Roads",
 x8 K (aG K "Roads"),
 vN K (aG K "Roads"),
 df K (aG K "Roads") "add_place",
 df K (aG K "Roads") "add_tie",
 df K (aG K "Roads") "set_most",
 df K (aG K "Roads") "set_gain",
 df K (aG K "Roads") "set_price",
 df K (aG K "Roads") "shut",
 df K (aG K "Roads") "reopen",
 df K (aG K "Roads") "set_ends",
 df K (aG K "Roads") "back",
 df K (aG K "Roads") "net",
 df K (aG K "Roads") "ends",
 df K (aG K "Roads") "is_shut",
 df K (aG K "Roads") "deeds",
 df K (aG K "Roads") "twin",
 df K (aG K "Roads") "set_part",
 df K (aG K "Roads") "set_shut",
 wc (PySem.W.findIn K (.ref (aG K "Roads")) "states"),
 oG K "ValueError",
 oG K "abs",
 oG K "all",
 oG K "bool",
 oG K "divmod",
 oG K "enumerate",
 oG K "int",
 oG K "isinstance",
 oG K "len",
 oG K "list",
 oG K "max",
 oG K "range",
 oG K "str",
 oG K "tuple",
 oG K "zip"])
def due:List (Option FuncData)×List Bool:=([dG "_law_box" "_law_box" qS,
 dG "_law_take" "_law_take" pJ,
 dG "_law_boxes" "_law_boxes" ce,
 dG "_law_fr" "_law_fr" iA,
 dG "_law_names" "_law_names" cb,
 dG "_law_gain" "_law_gain" fS,
 dG "_law_much" "_law_much" hZ,
 dG "_law_cost" "_law_cost" f8,
 dG "_law_deed" "_law_deed" bG,
 dG "_law_do" "_law_do" ku,
 dG "_law_done" "_law_done" br,
 dG "_law_begin" "_law_begin" nV,
 dG "_law_copied" "_law_copied" iE,
 dG "_law_refused" "_law_refused" cI,
 dG "_law_step" "_law_step" cD,
 dG "_law_net" "_law_net" gr,
 dG "_law_may" "_law_may" jY,
 dG "_law_same" "_law_same" cg,
 dG "_law_stands" "_law_stands" ci,
 dG "_law_twin_of" "_law_twin_of" fv,
 dG "_law_turn_right" "_law_turn_right" aI,
 dG "law" "law" bv,
 dG "__init__" "Gaining.__init__" kW,
 dG "__init__" "NotSoMuch.__init__" jK,
 dG "__init__" "Roads.__init__" eG,
 dG "add_place" "Roads.add_place" bf,
 dG "add_tie" "Roads.add_tie" aN,
 dG "check_two" "check_two" dY,
 dG "set_most" "Roads.set_most" cr,
 dG "set_gain" "Roads.set_gain" cp,
 dG "set_price" "Roads.set_price" b8,
 dG "shut" "Roads.shut" fm,
 dG "reopen" "Roads.reopen" dO,
 dG "set_ends" "Roads.set_ends" bc,
 dG "back" "Roads.back" hG,
 dG "net" "Roads.net" bY,
 dG "put_at" "put_at" i7,
 dG "ends" "Roads.ends" hJ,
 dG "is_shut" "Roads.is_shut" b6,
 dG "check_tie" "check_tie" dS,
 dG "deeds" "Roads.deeds" eO,
 dG "twin" "Roads.twin" cW,
 dG "set_part" "Roads.set_part" aT,
 dG "set_shut" "Roads.set_shut" aU],List.replicate 70 true)
end K39
def L2.Xt (s:PySem.Shared):Bool:=PySem.W.xlAt K39.qv [] s && PySem.W.recOk [] s
def L2.Yf (s:PySem.Shared):=K39.obs (L2.fragOf s.heap)
noncomputable def L2.lhs (w:PySem.World) (os:PySem.OsState):=(L2.topRunT PySem.treeTable PySem.Challenge.pw_gainroads_k39_twins_of_roads w 11 (some (.ref 6)) 7002 (L2.bootS w os) (PySem.W.topStub PySem.Challenge.pw_gainroads_k39_twins_of_roads)).map fun s=>L2.looks PySem.Challenge.pw_gainroads_k39_twins_of_roads K39.qv L2.Xt L2.Yf w s.abs
noncomputable def L2.rhs:=some (true,PySem.W.openGood K39.qv [],K39.due)
theorem L2.lhs0:L2.lhs=L2.lhs:=rfl
theorem L2.rhs0:L2.rhs=L2.rhs:=rfl
name_quick lhsQ for L2.lhs by L2.lhs0
name_quick rhsQ for L2.rhs by L2.rhs0
theorem L2.left:∀w os,L2.lhs w os=L2.rhs:=L2.left_of2 PySem.W.Fast.lhsQ_eq PySem.W.Fast.rhsQ_eq (fun w os=>by kernel_rfl)
namespace K39
open PySem L2
section
variable {P:Program}{w:World}{K:PySem.W.Frag}{mg:Str→Option Value}{base:Heap}
inductive Cf (vs:List V) (H:Hp) (Q:VK):Prop
 | mk (a:Addr) (xs:List V) (i:Nat) (x:V) (h0:vs=[.ref a,.int (i:Int),x]) (h1:H a=some (.tup xs)) (h2:i<xs.length) (h3:xs.length≤5000) (h4:∀p H',ag H H'→H' p=some (.tup (xs.set i x))→Q (.ref p) H')
def Dk:Sp:=fun vs H Q _=>Cf  vs H Q
theorem A1 (xs:List V) (i:Nat):fU xs none (some (i:Int))=xs.take i:=by
 unfold fU
 rw [HT.sIx_none,HT.sIx_nat,List.drop_zero,Nat.sub_zero,List.take_eq_take_iff]
 trivial
theorem xl (xs:List V) (i:Nat):fU xs (some (i:Int)) none=xs.drop i:=by
 unfold fU
 rw [HT.sIx_none,HT.sIx_nat]
 by_cases h:i≤xs.length
 ·rw [Nat.min_eq_left h,List.take_of_length_le (by rw [List.length_drop];trivial)]
 ·rw [Nat.min_eq_right (by trivial),List.drop_of_length_le (by trivial),List.drop_of_length_le (by trivial)];simp
theorem oB (T:Txt K mg):aS P w K mg base CX0 1 T.put_at_.f T.put_at_.d ["parts", "at", "part"] Dk:=by
 refine T.put_at_.F.ok wS (fun vs H Q E h=>?_) (fun cdv A outer s H vs Q E hr h=>?_)
 ·obtain ⟨a,xs,i,x,rfl,_⟩:=h
  rfl
 ·obtain ⟨a,xs,i,x,rfl,ha,hi,hl,k⟩:=h
  refine ⟨_,#[aa 3 #[am 4 #[aB 8 (@fe _) #[aB 8 (@fe _) #[cY 10 (@fw _ (K) (by rfl)) #[0,lZ] (@eH _) #[dg 3 #[1,pf]]] #[aw 5 #[[#[2,sq]]]]] #[cY 10 (@fw _ (K) (by rfl)) #[0,lZ] #[dg 3 #[aB 8 (@cz _) #[1,pf] #[()]]] (@eH _)]]]],?_⟩
  refine ⟨(),(),(),a,xs,rfl,ah.of ha,ha,fun p1 H1 s1 h1=>?_⟩
  rw [A1] at h1
  refine ⟨(),(by show 1≤10000;decide),fun p2 H2 n2=>⟨p1,p2,_,(),rfl,n2.sm _ _ h1,n2.at',by rw [List.length_take,List.length_singleton];trivial,fun p3 H3 s3 h3=>?_⟩⟩
  have sa:=(s1.trans n2.sm).trans s3
  refine ⟨(),(),_,(),rfl,(),a,xs,rfl,ah.of (sa _ _ ha),sa _ _ ha,fun p4 H4 s4 h4=>?_⟩
  rw [show ((i:Int)+1)=((i+1:Nat):Int) by trivial,xl] at h4
  refine ⟨p3,p4,_,(),rfl,s4 _ _ h3,h4,by simp [List.length_take,List.length_drop];trivial,fun p5 H5 s5 h5=>k p5 H5 ((sa.trans s4).trans s5) ?_⟩
  rw [h5,zK xs i x hi]
def gp (T:Txt K mg):RW→Addr
 | .taken=>T.x_Taken
 | .noPlace=>T.x_NoPlace
 | .noTie=>T.x_NoTie
 | .asItIs=>T.x_AsItIs
theorem zq (l:List Nat) (es:List (List Nat)):rK (bx l) (es.map bx)=decide (l∈es):=by
 unfold rK
 rw [List.any_map,Bool.eq_iff_iff,List.any_eq_true,decide_eq_true_iff]
 constructor
 ·rintro ⟨x,h1,h2⟩
  have h2':(S x==S l)=true:=h2
  rw [←zf (eq_of_beq h2')]
  exact h1
 ·exact fun h=>⟨l,h,by show (S l==S l)=true;simp⟩
theorem sT (es:List (List Nat)):(es.map bx).all jg=true:=by
 rw [List.all_map]
 exact List.all_eq_true.mpr fun _ _=>rfl
theorem CL (i:Int) (es:List Int):rK (.int i) (es.map V.int)=decide (i∈es):=by
 unfold rK
 rw [List.any_map,Bool.eq_iff_iff,List.any_eq_true,decide_eq_true_iff]
 constructor
 ·rintro ⟨x,h1,h2⟩
  have h2':(x==i)=true:=h2
  rw [←eq_of_beq h2']
  exact h1
 ·exact fun h=>⟨i,h,by show (i==i)=true;simp⟩
theorem vW (es:List Int):(es.map V.int).all jg=true:=by
 rw [List.all_map]
 exact List.all_eq_true.mpr fun _ _=>rfl
theorem zt {a b:List Nat}:(bx a=bx b)↔a=b:=⟨fun h=>zf (by injection h),fun h=>by rw [h]⟩
theorem p9 {H H1:Hp}{a:Addr}{o:HO} (s:ag H H1) (h:H a=none):ag H (aH H1 a o):=fun b u e=>by
 rw [ao (aF e h)]
 exact s b u e
inductive BM (c:Addr) (vs:List V) (H:Hp) (Q:VK) (E:XK):Prop
 | mk (a:Addr) (ls:List (List Nat)) (b e:List Nat) (h0:vs=[.ref a,bx b,bx e]) (h1:H a=some (.tup (ls.map bx))) (h2:((b∈ls∧e∈ls∧b≠e)→Q .non H)) (h3:(¬(b∈ls∧e∈ls∧b≠e)→∀H',ag H H'→E (.ref c) none H'))
def CT (c:Addr):Sp:=fun vs H Q E=>BM c vs H Q E
theorem nE (T:Txt K mg):aS P w K mg base (gl P w) 1 T.check_two_.f T.check_two_.d ["places", "begin", "end"] (CT T.x_NoPlace):=by
 refine T.check_two_.F.okX tQ (fun vs H Q E h=>?_) (fun cdv A outer s H vs Q E hr h=>?_)
 ·obtain ⟨a,ls,b,e,rfl,_⟩:=h
  rfl
 ·obtain ⟨a,ls,b,e,rfl,ha,k1,k2⟩:=h
  refine ⟨_,#[#[aL 8 #[PW.pt 3 #[sU 7 #[ar 8 (@uJ _ (K) (by rfl)) #[1,jN] #[0,jw] rfl] #[pZ 4 #[ar 8 (@uJ _ (K) (by rfl)) #[2,kY] #[0,jw] rfl]]]] #[aa 3 #[km 5 rfl #[lJ 15] #[lS 8 T.q_NoPlace T.k_NoPlace iP T.m_NoPlace #[[#[ac 4]]] (by decide) (by rfl) (by rfl)]]] (@az _)] :: #[aa 3 #[aL 8 #[ar 8 (@bu _) #[1,jN] #[2,kY] #[(),()]] #[aa 3 #[km 5 rfl #[lJ 15] #[lS 8 T.q_NoPlace T.k_NoPlace iP T.m_NoPlace #[[#[ac 4]]] (by decide) (by rfl) (by rfl)]]] (@az _)]]],?_⟩
  have ra:¬(b∈ls∧e∈ls∧b≠e)→∀y H1,Nw H y (lq y T.x_NoPlace none) H1→mW fun a C dx ini=>V.ref y=.ref a∧H1 a=some (lq a C dx)∧d0 K C ini=true∧E (.ref C) dx (aH H1 a (jx a C dx)):=fun n y H1 n1=>
   ⟨y,T.x_NoPlace,none,(),n1.at',T.q_NoPlace,k2 n _ (p9 n1.sm n1.fr)⟩
  refine bd fun D0 n0=>⟨(),(),a,(),.inr (ah.of ha),rfl,sT ls,(),?_⟩
  simp only [if_true,zq]
  by_cases hb:b∈ls
  ·rw [decide_eq_true hb]
   refine aP ⟨(),(),a,(),.inr (ah.of ha),rfl,sT ls,(),?_⟩
   simp only [if_true,zq]
   by_cases he:e∈ls
   ·rw [decide_eq_true he]
    refine aP (n0 _ _ ⟨(),(),rfl,(),fH (fun c=>?_) fun c=>?_⟩)
    ·have c':=zt.mp (of_decide_eq_true c)
     exact ⟨(by show 1≤10000;decide),ra fun z=>z.2.2 c'⟩
    ·exact k1 ⟨hb,he,fun z=>c (decide_eq_true (zt.mpr z))⟩
   ·rw [decide_eq_false he]
    exact aZ ⟨(by show 1≤10000;decide),ra fun z=>he z.2.1⟩
  ·rw [decide_eq_false hb]
   exact aZ ⟨(by show 1≤10000;decide),ra fun z=>hb z.1⟩
inductive Bu (c:Addr) (vs:List V) (H:Hp) (Q:VK) (E:XK):Prop
 | mk (a:Addr) (xs:List V) (i:Int) (h0:vs=[.ref a,.int i]) (h1:H a=some (.tup xs)) (h2:((0≤i∧i<(xs.length:Int))→Q .non H)) (h3:(¬(0≤i∧i<(xs.length:Int))→∀H',ag H H'→E (.ref c) none H'))
def Dz (c:Addr):Sp:=fun vs H Q E=>Bu c vs H Q E
theorem ke (T:Txt K mg):aS P w K mg base (gl P w) 1 T.check_tie_.f T.check_tie_.d ["ties", "number"] (Dz T.x_NoTie):=by
 refine T.check_tie_.F.okX tG (fun vs H Q E h=>?_) (fun cdv A outer s H vs Q E hr h=>?_)
 ·obtain ⟨a,xs,i,rfl,_⟩:=h
  rfl
 ·obtain ⟨a,xs,i,rfl,ha,k1,k2⟩:=h
  refine ⟨_,#[aa 3 #[aL 8 #[gY 4 #[uk 12 (@y6 _) (@fO _) #[()] #[1,oh] #[(),(),(@dB _ (K) (by rfl)),qj,T.b_len,(@be),#[[#[0,pG]]]] (by with_unfolding_all rfl)]] #[aa 3 #[km 5 rfl #[lJ 15] #[lS 8 T.q_NoTie T.k_NoTie pc T.m_NoTie #[[#[ac 4]]] (by decide) (by rfl) (by rfl)]]] (@az _)]],?_⟩
  have ra:¬(0≤i∧i<(xs.length:Int))→∀y H1,Nw H y (lq y T.x_NoTie none) H1→mW fun a C dx ini=>V.ref y=.ref a∧H1 a=some (lq a C dx)∧d0 K C ini=true∧E (.ref C) dx (aH H1 a (jx a C dx)):=fun n y H1 n1=>
   ⟨y,T.x_NoTie,none,(),n1.at',T.q_NoTie,k2 n _ (p9 n1.sm n1.fr)⟩
  refine ⟨(),_,(),rfl,(),?_⟩
  by_cases h0:0≤i
  ·rw [decide_eq_true h0]
   refine aZ ⟨(),a,xs,rfl,.inr (ah.of ha),_,(),rfl,(),?_⟩
   by_cases h1:i<(xs.length:Int)
   ·rw [decide_eq_true h1]
    exact aP (k1 ⟨h0,h1⟩)
   ·rw [decide_eq_false h1]
    exact aZ ⟨(by show 1≤10000;decide),ra fun z=>h1 z.2⟩
  ·rw [decide_eq_false h0]
   exact aP ⟨(),aZ ⟨(by show 1≤10000;decide),ra fun z=>h0 z.1⟩⟩
end
end K39
namespace K39
open PySem L2
section
variable {P:Program}{w:World}{K:PySem.W.Frag}{mg:Str→Option Value}{base:Heap}
inductive zM (C:Addr) (vs:List V) (H:Hp) (Q:VK):Prop
 | mk (r dx:Addr) (h0:vs=[.ref r]) (h1:H r=some (.ins C dx [])) (h2:∀L H',H L=none→(∀a o,a≠r→H a=some o→H' a=some o)→aE C H' r L [qA]→Q .non H')
def BN (C:Addr):Sp:=fun vs H Q _=>zM C vs H Q
theorem mT (T:Txt K mg):aS P w K mg base CX0 1 T.f_Roads____init__ T.d_Roads____init__ ["self"] (BN T.x_Roads):=by
 refine T.F_Roads____init__.ok oa (fun vs H Q E h=>?_) (fun cdv A outer s H vs Q E hr h=>?_)
 ·obtain ⟨r,dx,rfl,_⟩:=h
  rfl
 ·obtain ⟨r,dx,rfl,hr',k⟩:=h
  refine ⟨_,#[aa 3 #[u6 8 #[0,k7] #[bR 4 #[[#[aw 5 #[[#[aw 5 (@cA _)],#[aw 5 (@cA _)],#[aw 5 (@cA _)],#[kB 3]]]]]]] (by rfl)]],?_⟩
  refine ⟨(by show 0≤10000;decide),fun p1 H1 n1=>⟨(by show 0≤10000;decide),fun p2 H2 n2=>⟨(by show 0≤10000;decide),fun p3 H3 n3=>⟨(by show 4≤10000;decide),fun p4 H4 n4=>⟨(by show 1≤10000;decide),fun L H5 n5=>?_⟩⟩⟩⟩⟩
  have s4:=((n1.sm.trans n2.sm).trans n3.sm).trans n4.sm
  have s5:=s4.trans n5.sm
  have fL:H L=none:=s4.free n5.fr
  refine ⟨(),r,T.x_Roads,dx,[],rfl,s5 _ _ hr',T.c_Roads,T.n_Roads_states,by decide,fun H6 c6=>?_⟩
  have kp:∀a o,a≠r→H a=some o→H6 a=some o:=fun a o n h=>c6.ol a o n (s5 _ _ h)
  have tp:∀{a xs},H5 a=some (.tup xs)→H6 a=some (.tup xs):=fun h=>c6.ol _ _ (mJ h (s5 _ _ hr') (by intro z;cases z)) h
  have d:aD ED H6 (.ref p4) (qh qA):=oM (s:=qA) (bs:=[]) (tp (n5.sm _ _ n4.at')) (tp (n5.sm _ _ (n4.sm _ _ (n3.sm _ _ (n2.sm _ _ n1.at'))))) (tp (n5.sm _ _ (n4.sm _ _ (n3.sm _ _ n2.at')))) .nil (tp (n5.sm _ _ (n4.sm _ _ n3.at'))) rfl .non
  refine k L H6 fL kp ⟨dx,_,c6.at',c6.ol _ _ (fun z=>?_) n5.at',.cons d .nil⟩
  rw [z,hr'] at fL
  cases fL
theorem jt {C:Addr}{cl:RW→Addr}{r L:Addr}{past:List ai}{cur:ai}{D:dn}{H:Hp}{Q:VK}{E:XK} (k:je C cl r L past cur D H Q E) (e:bC cur D=none) (nb:D≠.back) {v:V}{H':Hp} (s:ax (Eb L) H H') (R:aE C H' r L (past++[cur]++[cy cur D])) (t:aD ED H' v (uw past cur D)):Q v H':=by
 refine k.2 e v H' s ?_ t
 rw [(mr e nb).1,(mr e nb).2]
 exact R
inductive zw (C:Addr) (cl:RW→Addr) (vs:List V) (H:Hp) (Q:VK) (E:XK):Prop
 | mk (r L:Addr) (n:List Nat) (past:List ai) (cur:ai) (h0:vs=[.ref r,bx n]) (h1:aE C H r L (past++[cur])) (h2:fN 5000 past cur) (h3:je C cl r L past cur (.place n) H Q E)
def BW (C:Addr) (cl:RW→Addr):Sp:=fun vs H Q E=>zw C cl vs H Q E
theorem tO (T:Txt K mg):aS P w K mg base (gl P w) 2 T.f_Roads__add_place T.d_Roads__add_place ["self", "name"] (BW T.x_Roads (gp T)):=by
 refine T.F_Roads__add_place.okX cB (fun vs H Q E h=>?_) (fun cdv A outer s H vs Q E hr h=>?_)
 ·obtain ⟨r,L,n,past,cur,rfl,_⟩:=h
  rfl
 ·obtain ⟨r,L,n,past,cur,rfl,R,ok,k⟩:=h
  refine ⟨_,#[#[PS.nox 3 #[dL 6 #[#[db 5 #[0,gH] rfl][#[jf 6 (@gX _) #[()]]]!] (@b7 _ (K) _ _ _ _ (4) rfl #[aq 5 #[2,cB.nd,de] #[aq 5 #[3,cB.nd,gA] #[aq 5 #[4,cB.nd,gc] #[aq 5 #[5,cB.nd,gG] (@cq _) (by rfl)] (by rfl)] (by rfl)] (by rfl)] (by rfl) (by rfl) (by rfl)) (by rfl) (by rfl) (by rfl)]] :: #[#[aL 8 #[ar 8 (@l8 _ (K) (by rfl)) #[1,gC] #[2,de] rfl] #[aa 3 #[km 5 rfl #[lJ 15] #[lS 8 T.q_Taken T.k_Taken kF T.m_Taken #[[#[ac 4]]] (by decide) (by rfl) (by rfl)]]] (@az _)] :: #[aa 3 #[PS.nox 3 #[bj 4 (@bW _ (K) _ _ _ _ _ _ _ _ _ _ _ PySem.F.plainAttrs_list PySem.F.slot_list_append PySem.F.type_list_append (@bP _) #[db 5 #[0,gH] rfl] #[[#[aw 5 #[[#[aB 8 (@fe _) #[2,de] #[aw 5 #[[#[1,gC]]]]],#[3,gA],#[4,gc],#[5,gG]]]]]] (by rfl) (by rfl) (by rfl) (by rfl) (by rfl) (by rfl)) (by rfl)]]]]],?_⟩
  obtain ⟨dx,ys,v,hr',hL,hys,hv⟩:=R.last
  obtain ⟨a,p,t,q,e,ties,rfl,ha,hp,ht,hty,hq,he⟩:=jo hv
  have ly:=hys.length
  have okl:=ok.lp
  rw [List.length_map] at ly
  refine bd fun D0 n0=>⟨(),r,T.x_Roads,dx,_,(),hr',T.c_Roads,T.n_Roads_states,rfl,(),L,_,_,(),rfl,af.of hL,fY _ _,a,(),ah.of ha,rfl,_,(),_,(),_,(),_,(),rfl,n0 _ _ ?_⟩
  refine bd fun D1 n1=>⟨(),(),p,(),.inr (ah.of hp),rfl,sT _,(),?_⟩
  simp only [if_false,Bool.false_eq_true,zq]
  by_cases hn:n∈cur.pl
  ·rw [decide_eq_true hn]
   have rw_:bC cur (.place n)=some .taken:=if_pos hn
   exact aZ ⟨(by show 1≤10000;decide),fun y H1 m1=>⟨y,T.x_Taken,none,(),m1.at',T.q_Taken,k.1 _ rw_ _ (p9 m1.sm m1.fr)⟩⟩
  ·rw [decide_eq_false hn]
   have rw_:bC cur (.place n)=none:=if_neg hn
   refine aP (n1 _ _ ?_)
   refine ⟨(),r,T.x_Roads,dx,_,(),hr',T.c_Roads,T.n_Roads_states,rfl,.inl ⟨rfl,_,af.of hL⟩,(),(),(by show 1≤10000;decide),fun p1 H1 m1=>⟨p,p1,_,(),rfl,m1.sm _ _ hp,m1.at',?_,fun p2 H2 s2 h2=>?_⟩⟩
   ·have:=ok.cu.lp
    simp
    trivial
   have sa:=m1.sm.trans s2
   refine ⟨(),(),(),(by show 4≤10000;decide),fun p3 H3 m3=>⟨L,_,(),rfl,(sa.trans m3.sm) _ _ hL,by simp;trivial,fun H4 c4=>?_⟩⟩
   have sb:=sa.trans m3.sm
   obtain ⟨R4,s4⟩:=aE.app (s':=cy cur (.place n)) (sts:=past++[cur]) hr' hL (by rw [List.map_append];exact hys.append (.cons hv .nil)) sb (oM m3.at' (by rw [m3.sm _ _ h2];simp [cy]) (sb _ _ ht) (hty.mono sb.toE) (sb _ _ hq) rfl (he.mono sb.toE)) c4
   exact jt k rw_ (by intro z;cases z) s4 R4 .non
inductive Ao (C:Addr) (cl:RW→Addr) (vs:List V) (H:Hp) (Q:VK) (E:XK):Prop
 | mk (r L:Addr) (t:ib) (m g p:V) (past:List ai) (cur:ai) (h0:vs=[.ref r,bx t.bg,bx t.en,m,g,p]) (h1:aD ED H m (im t.most)) (h2:aD ED H g (im t.gain)) (h3:aD ED H p (im t.price)) (h4:aE C H r L (past++[cur])) (h5:fN 5000 past cur) (h6:je C cl r L past cur (.tie t) H Q E)
def Bo (C:Addr) (cl:RW→Addr):Sp:=fun vs H Q E=>Ao C cl vs H Q E
theorem wg (T:Txt K mg):aS P w K mg base (gl P w) 2 T.f_Roads__add_tie T.d_Roads__add_tie ["self", "begin", "end", "most", "gain", "price"] (Bo T.x_Roads (gp T)):=by
 have G_check_two:=#[(nE)]
 refine T.F_Roads__add_tie.okX c9 (fun vs H Q E h=>?_) (fun cdv A outer s H vs Q E hr h=>?_)
 ·obtain ⟨r,L,tt,m,g,pr,past,cur,rfl,_⟩:=h
  rfl
 ·obtain ⟨r,L,tt,m,g,pr,past,cur,rfl,hm,hg,hpr,R,ok,k⟩:=h
  refine ⟨_,#[#[PS.nox 3 #[dL 6 #[#[db 5 #[0,iq] rfl][#[jf 6 (@gX _) #[()]]]!] (@b7 _ (K) _ _ _ _ (4) rfl #[aq 5 #[6,c9.nd,dF] #[aq 5 #[7,c9.nd,eM] #[aq 5 #[8,c9.nd,gW] #[aq 5 #[9,c9.nd,io] (@cq _) (by rfl)] (by rfl)] (by rfl)] (by rfl)] (by rfl) (by rfl) (by rfl)) (by rfl) (by rfl) (by rfl)]] :: #[#[bj 4 #[ip 16 G_check_two (hr.mono (by decide)) jA T.check_two_.m T.check_two_.F.kp T.check_two_.B .nil #[dA 15] #[[#[6,dF],#[1,gR],#[2,iJ]]] (by decide) (by rfl) (by rfl)] (by rfl)] :: #[#[PS.nox 3 #[bj 4 (@bW _ (K) _ _ _ _ _ _ _ _ _ _ _ PySem.F.plainAttrs_list PySem.F.slot_list_append PySem.F.type_list_append (@bP _) #[db 5 #[0,iq] rfl] #[[#[aw 5 #[[#[6,dF],#[aB 8 (@fe _) #[7,eM] #[aw 5 #[[#[aw 5 #[[#[1,gR],#[2,iJ],#[3,lD],#[4,lP],#[5,lj]]]]]]]],#[aB 8 (@fe _) #[8,gW] #[aw 5 #[[#[cT 4]]]]],#[9,io]]]]]] (by rfl) (by rfl) (by rfl) (by rfl) (by rfl) (by rfl)) (by rfl)]] :: #[aa 3 #[PS.nox 3 #[am 4 #[(),(),(@dB _ (K) (by rfl)),ml,T.b_len,(@be),#[[#[7,eM]]]]]]]]]],?_⟩
  obtain ⟨dx,ys,v,hr',hL,hys,hv⟩:=R.last
  obtain ⟨a,p,t,q,e,ties,rfl,ha,hp,ht,hty,hq,he⟩:=jo hv
  have ly:=hys.length
  have okl:=ok.lp
  rw [List.length_map] at ly
  have lt:=hty.length
  rw [List.length_map] at lt
  have okt:=ok.cu.lt
  refine bd fun D0 n0=>⟨(),r,T.x_Roads,dx,_,(),hr',T.c_Roads,T.n_Roads_states,rfl,(),L,_,_,(),rfl,af.of hL,fY _ _,a,(),ah.of ha,rfl,_,(),_,(),_,(),_,(),rfl,n0 _ _ ?_⟩
  refine bd fun D1 n1=>⟨(),(),(),p,cur.pl,tt.bg,tt.en,rfl,hp,fun h2=>n1 _ _ ?_,fun h2 H' s'=>k.1 .noPlace (if_neg h2) H' s'⟩
  have rw_:bC cur (.tie tt)=none:=if_pos h2
  refine bd fun D2 n2=>⟨(),r,T.x_Roads,dx,_,(),hr',T.c_Roads,T.n_Roads_states,rfl,.inl ⟨rfl,_,af.of hL⟩,(),(),(),(),(),(),(),(by show 5≤10000;decide),fun p1 H1 m1=>⟨(by show 1≤10000;decide),fun p2 H2 m2=>⟨t,p2,_,(),rfl,(m1.sm.trans m2.sm) _ _ ht,m2.at',by simp;trivial,fun p3 H3 s3 h3=>?_⟩⟩⟩
  have sa:=(m1.sm.trans m2.sm).trans s3
  refine ⟨(),(by show 1≤10000;decide),fun p4 H4 m4=>⟨q,p4,_,(),rfl,(sa.trans m4.sm) _ _ hq,m4.at',by simp [i8];trivial,fun p5 H5 s5 h5=>⟨(),(by show 4≤10000;decide),fun p6 H6 m6=>⟨L,_,(),rfl,((sa.trans m4.sm).trans (s5.trans m6.sm)) _ _ hL,by simp;trivial,fun H7 c7=>n2 _ _ ?_⟩⟩⟩⟩
  have sb:=(sa.trans m4.sm).trans (s5.trans m6.sm)
  have s36:=m4.sm.trans (s5.trans m6.sm)
  have dt:aD ED H6 (.ref p1) (gn tt):=.tup ((m2.sm.trans s3).trans s36 _ _ m1.at') (.cons (.str _) (.cons (.str _) (.cons (hm.mono sb.toE) (.cons (hg.mono sb.toE) (.cons (hpr.mono sb.toE) .nil)))))
  obtain ⟨R4,s4⟩:=aE.app (s':=cy cur (.tie tt)) (sts:=past++[cur]) hr' hL (by rw [List.map_append];exact hys.append (.cons hv .nil)) sb (oM (bs:=dC cur++[false]) m6.at' (sb _ _ hp) (s36 _ _ h3) (by simp only [cy,List.map_append];exact (hty.mono sb.toE).append (.cons dt .nil)) (by rw [m6.sm _ _ h5];simp) (Ar ok.cu tt).symm (he.mono sb.toE)) c7
  refine ⟨(),t,ties,rfl,.inr (ah.of (s4.tup _ _ ht)),jt k rw_ (by intro z;cases z) s4 R4 ?_⟩
  rw [lt]
  exact .int _
inductive AI (C:Addr) (cl:RW→Addr) (pk:Option iQ) (vs:List V) (H:Hp) (Q:VK) (E:XK):Prop
 | mk (r L:Addr) (kk:iQ) (i:Int) (x:KM.Fra) (y:V) (past:List ai) (cur:ai) (h0:(vs=match pk with | none=>[.ref r,.int i,.int (kk.at:Int),y] | some _=>[.ref r,.int i,y])) (h1:(∀z,pk=some z→kk=z)) (h2:aD ED H y (im x)) (h3:aE C H r L (past++[cur])) (h4:fN 5000 past cur) (h5:je C cl r L past cur (.part kk i x) H Q E)
def qw (C:Addr) (cl:RW→Addr) (pk:Option iQ):Sp:=fun vs H Q E=>AI C cl pk vs H Q E
theorem li (T:Txt K mg):aS P w K mg base (gl P w) 2 T.f_Roads__set_part T.d_Roads__set_part ["self", "number", "at", "part"] (qw T.x_Roads (gp T) none):=by
 have G_check_tie:=#[(ke)]
 have G_put_at:=#[(oB)]
 refine T.F_Roads__set_part.okX cL (fun vs H Q E h=>?_) (fun cdv A outer s H vs Q E hr h=>?_)
 ·obtain ⟨r,L,kk,i,x,y,past,cur,rfl,_⟩:=h
  rfl
 ·obtain ⟨r,L,kk,i,x,y,past,cur,rfl,_,hy,R,ok,k⟩:=h
  refine ⟨_,#[#[PS.nox 3 #[dL 6 #[#[db 5 #[0,gN] rfl][#[jf 6 (@gX _) #[()]]]!] (@b7 _ (K) _ _ _ _ (4) rfl #[aq 5 #[4,cL.nd,gj] #[aq 5 #[5,cL.nd,cJ] #[aq 5 #[6,cL.nd,gF] #[aq 5 #[7,cL.nd,gU] (@cq _) (by rfl)] (by rfl)] (by rfl)] (by rfl)] (by rfl) (by rfl) (by rfl)) (by rfl) (by rfl) (by rfl)]] :: #[#[bj 4 #[ip 16 G_check_tie (hr.mono (by decide)) jj T.check_tie_.m T.check_tie_.F.kp T.check_tie_.B .nil #[dA 15] #[[#[5,cJ],#[1,dm]]] (by decide) (by rfl) (by rfl)] (by rfl)] :: #[aa 3 #[PS.nox 3 #[bj 4 (@bW _ (K) _ _ _ _ _ _ _ _ _ _ _ PySem.F.plainAttrs_list PySem.F.slot_list_append PySem.F.type_list_append (@bP _) #[db 5 #[0,gN] rfl] #[[#[aw 5 #[[#[4,gj],#[G_put_at,gi,T.put_at_,#[[#[5,cJ],#[1,dm],#[G_put_at,gi,T.put_at_,#[[#[#[5,cJ][#[1,dm]]],#[2,mB],#[3,lv]]]]]]],#[6,gF],#[7,gU]]]]]] (by rfl) (by rfl) (by rfl) (by rfl) (by rfl) (by rfl)) (by rfl)]]]]],?_⟩
  obtain ⟨dx,ys,v,hr',hL,hys,hv⟩:=R.last
  obtain ⟨a,p,t,q,e,ties,rfl,ha,hp,ht,hty,hq,he⟩:=jo hv
  have ly:=hys.length
  have okl:=ok.lp
  rw [List.length_map] at ly
  have lt:=hty.length
  rw [List.length_map] at lt
  have okt:=ok.cu.lt
  refine bd fun D0 n0=>⟨(),r,T.x_Roads,dx,_,(),hr',T.c_Roads,T.n_Roads_states,rfl,(),L,_,_,(),rfl,af.of hL,fY _ _,a,(),ah.of ha,rfl,_,(),_,(),_,(),_,(),rfl,n0 _ _ ?_⟩
  refine bd fun D1 n1=>⟨(),(),t,ties,i,rfl,ht,fun h2=>n1 _ _ ?_,fun h2 H' s'=>k.1 .noTie (if_neg (by rw [lt] at h2;exact h2)) H' s'⟩
  have hs:has cur i:=by rw [lt] at h2;exact h2
  have rw_:bC cur (.part kk i x)=none:=if_pos hs
  obtain ⟨j,rfl⟩:=Int.eq_ofNat_of_zero_le h2.1
  have hj:j<ties.length:=by trivial
  have hj':j<cur.ts.length:=by trivial
  have e1:ties[j]?=some ties[j]:=List.getElem?_eq_getElem hj
  have e2:cur.ts[j]?=some cur.ts[j]:=List.getElem?_eq_getElem hj'
  have dj:aD ED H ties[j] (gn cur.ts[j]):=hty.nth j e1 (by rw [List.getElem?_map,e2];rfl)
  obtain ⟨ta,m,g,pr,eta,hta,hm,hg,hpr⟩:=oU dj
  have kat:kk.at<5:=by cases kk <;> decide
  refine ⟨(),r,T.x_Roads,dx,_,(),hr',T.c_Roads,T.n_Roads_states,rfl,.inl ⟨rfl,_,af.of hL⟩,(),(),(),(),(),t,ties,_,(),rfl,ah.of ht,i3 e1,(),(),ta,_,kk.at,y,by rw [eta];rfl,hta,kat,(by show 5≤5000;decide),fun p1 H1 s1 h1=>?_⟩
  refine ⟨t,ties,j,.ref p1,rfl,s1 _ _ ht,hj,by trivial,fun p2 H2 s2 h2'=>⟨(),(),(by show 4≤10000;decide),fun p3 H3 m3=>⟨L,_,(),rfl,(s1.trans (s2.trans m3.sm)) _ _ hL,by simp;trivial,fun H4 c4=>?_⟩⟩⟩
  have sb:=s1.trans (s2.trans m3.sm)
  have s13:=s2.trans m3.sm
  have dt:aD ED H3 (.ref p1) (gn (qI kk x cur.ts[j])):=by
   have y3:=hy.mono sb.toE
   have m3':=hm.mono sb.toE
   have g3:=hg.mono sb.toE
   have p3':=hpr.mono sb.toE
   have h13:=s13 _ _ h1
   cases kk
   ·exact .tup h13 (.cons (.str _) (.cons (.str _) (.cons y3 (.cons g3 (.cons p3' .nil)))))
   ·exact .tup h13 (.cons (.str _) (.cons (.str _) (.cons m3' (.cons y3 (.cons p3' .nil)))))
   ·exact .tup h13 (.cons (.str _) (.cons (.str _) (.cons m3' (.cons g3 (.cons y3 .nil)))))
  obtain ⟨R4,s4⟩:=aE.app (s':=cy cur (.part kk (j:Int) x)) (sts:=past++[cur]) hr' hL (by rw [List.map_append];exact hys.append (.cons hv .nil)) sb (oM (bs:=dC cur) m3.at' (sb _ _ hp) (m3.sm _ _ h2') (by
   show ay ED H3 (ties.set j (.ref p1)) ((mD cur.ts kk (j:Int).toNat x).map gn)
   rw [Int.toNat_natCast,u0 e2,List.map_set]
   exact (hty.mono sb.toE).set dt j) (sb _ _ hq) (xU ..).symm (he.mono sb.toE)) c4
  exact jt k rw_ (by intro z;cases z) s4 R4 .non
theorem uC (T:Txt K mg):aS P w K mg base (gl P w) 3 T.f_Roads__set_most T.d_Roads__set_most ["self", "number", "most"] (qw T.x_Roads (gp T) (some .m)):=by
 have G_Roads__set_part:=#[(li)]
 refine T.F_Roads__set_most.okX nI (fun vs H Q E h=>?_) (fun cdv A outer s H vs Q E hr h=>?_)
 ·obtain ⟨r,L,kk,i,x,y,past,cur,rfl,_⟩:=h
  rfl
 ·obtain ⟨r,L,kk,i,x,y,past,cur,rfl,hk,hy,R,ok,k⟩:=h
  cases hk _ rfl
  obtain ⟨dx,ys,v,hr',hL,hys,hv⟩:=R.last
  refine ⟨_,#[aa 3 #[bj 4 #[cR 20 #[0,k4] T.c_Roads T.h_Roads__set_part G_Roads__set_part (hr.mono (by decide)) T.B_Roads__set_part .nil #[dA 15] #[[#[1,kL],#[()],#[2,lh]]] (by rfl) (by rfl) (by rfl)] (by rfl)]],?_⟩
  exact ⟨(),r,dx,(),hr',rfl,(),(),r,L,.m,i,x,y,past,cur,rfl,(fun z q=>nomatch q),hy,R,ok,k.1,fun e v H' s R t=>by cases t;exact k.2 e .non H' s R .non⟩
theorem ux (T:Txt K mg):aS P w K mg base (gl P w) 3 T.f_Roads__set_gain T.d_Roads__set_gain ["self", "number", "gain"] (qw T.x_Roads (gp T) (some .g)):=by
 have G_Roads__set_part:=#[(li)]
 refine T.F_Roads__set_gain.okX oy (fun vs H Q E h=>?_) (fun cdv A outer s H vs Q E hr h=>?_)
 ·obtain ⟨r,L,kk,i,x,y,past,cur,rfl,_⟩:=h
  rfl
 ·obtain ⟨r,L,kk,i,x,y,past,cur,rfl,hk,hy,R,ok,k⟩:=h
  cases hk _ rfl
  obtain ⟨dx,ys,v,hr',hL,hys,hv⟩:=R.last
  refine ⟨_,#[aa 3 #[bj 4 #[cR 20 #[0,kZ] T.c_Roads T.h_Roads__set_part G_Roads__set_part (hr.mono (by decide)) T.B_Roads__set_part .nil #[dA 15] #[[#[1,j0],#[()],#[2,lA]]] (by rfl) (by rfl) (by rfl)] (by rfl)]],?_⟩
  exact ⟨(),r,dx,(),hr',rfl,(),(),r,L,.g,i,x,y,past,cur,rfl,(fun z q=>nomatch q),hy,R,ok,k.1,fun e v H' s R t=>by cases t;exact k.2 e .non H' s R .non⟩
theorem sZ (T:Txt K mg):aS P w K mg base (gl P w) 3 T.f_Roads__set_price T.d_Roads__set_price ["self", "number", "price"] (qw T.x_Roads (gp T) (some .p)):=by
 have G_Roads__set_part:=#[(li)]
 refine T.F_Roads__set_price.okX m9 (fun vs H Q E h=>?_) (fun cdv A outer s H vs Q E hr h=>?_)
 ·obtain ⟨r,L,kk,i,x,y,past,cur,rfl,_⟩:=h
  rfl
 ·obtain ⟨r,L,kk,i,x,y,past,cur,rfl,hk,hy,R,ok,k⟩:=h
  cases hk _ rfl
  obtain ⟨dx,ys,v,hr',hL,hys,hv⟩:=R.last
  refine ⟨_,#[aa 3 #[bj 4 #[cR 20 #[0,kQ] T.c_Roads T.h_Roads__set_part G_Roads__set_part (hr.mono (by decide)) T.B_Roads__set_part .nil #[dA 15] #[[#[1,jS],#[()],#[2,kH]]] (by rfl) (by rfl) (by rfl)] (by rfl)]],?_⟩
  exact ⟨(),r,dx,(),hr',rfl,(),(),r,L,.p,i,x,y,past,cur,rfl,(fun z q=>nomatch q),hy,R,ok,k.1,fun e v H' s R t=>by cases t;exact k.2 e .non H' s R .non⟩
end
end K39
namespace K39
open PySem L2
section
variable {P:Program}{w:World}{K:PySem.W.Frag}{mg:Str→Option Value}{base:Heap}
def ph (b:Bool) (i:Int):dn:=if b then .shut i else .opn i
inductive AB (C:Addr) (cl:RW→Addr) (pk:Option Bool) (vs:List V) (H:Hp) (Q:VK) (E:XK):Prop
 | mk (r L:Addr) (b:Bool) (i:Int) (past:List ai) (cur:ai) (h0:(vs=match pk with | none=>[.ref r,.int i,.bl b] | some _=>[.ref r,.int i])) (h1:(∀z,pk=some z→b=z)) (h2:aE C H r L (past++[cur])) (h3:fN 5000 past cur) (h4:je C cl r L past cur (ph b i) H Q E)
def tx (C:Addr) (cl:RW→Addr) (pk:Option Bool):Sp:=fun vs H Q E=>AB C cl pk vs H Q E
theorem pL {s:ai}{b:Bool}{i:Int}:bC s (ph b i)=if has s i then (if decide (i∈s.sh)=b then some .asItIs else none) else some .noTie:=by
 cases b
 ·show (if has s i then (if i∈s.sh then none else some RW.asItIs) else some .noTie)=_
  by_cases h:i∈s.sh
  ·simp [h]
  ·simp [h]
 ·show (if has s i then (if i∈s.sh then some RW.asItIs else none) else some .noTie)=_
  by_cases h:i∈s.sh
  ·simp [h]
  ·simp [h]
theorem Ak {N:Nat}{s:ai}{b:Bool}{i:Int} (h:kJ N s) (hi:has s i):(cy s (ph b i)).pl=s.pl∧(cy s (ph b i)).ts=s.ts∧(cy s (ph b i)).en=s.en∧dC (cy s (ph b i))=(dC s).set i.toNat b∧ph b i≠.back:=by
 cases b
 ·exact ⟨rfl,rfl,rfl,yz h hi,fun z=>nomatch z⟩
 ·exact ⟨rfl,rfl,rfl,xY hi,fun z=>nomatch z⟩
theorem yF {past:List ai}{cur:ai}{b:Bool}{i:Int}:uw past cur (ph b i)=.none:=by cases b <;> rfl
theorem pF (T:Txt K mg):aS P w K mg base (gl P w) 2 T.f_Roads__set_shut T.d_Roads__set_shut ["self", "number", "whether"] (tx T.x_Roads (gp T) none):=by
 have G_check_tie:=#[(ke)]
 have G_put_at:=#[(oB)]
 refine T.F_Roads__set_shut.okX cM (fun vs H Q E h=>?_) (fun cdv A outer s H vs Q E hr h=>?_)
 ·obtain ⟨r,L,b,i,past,cur,rfl,_⟩:=h
  rfl
 ·obtain ⟨r,L,b,i,past,cur,rfl,_,R,ok,k⟩:=h
  refine ⟨_,#[#[PS.nox 3 #[dL 6 #[#[db 5 #[0,gO] rfl][#[jf 6 (@gX _) #[()]]]!] (@b7 _ (K) _ _ _ _ (4) rfl #[aq 5 #[3,cM.nd,f7] #[aq 5 #[4,cM.nd,d8] #[aq 5 #[5,cM.nd,dE] #[aq 5 #[6,cM.nd,gM] (@cq _) (by rfl)] (by rfl)] (by rfl)] (by rfl)] (by rfl) (by rfl) (by rfl)) (by rfl) (by rfl) (by rfl)]] :: #[#[bj 4 #[ip 16 G_check_tie (hr.mono (by decide)) jk T.check_tie_.m T.check_tie_.F.kp T.check_tie_.B .nil #[dA 15] #[[#[4,d8],#[1,dw]]] (by decide) (by rfl) (by rfl)] (by rfl)] :: #[#[aL 8 #[ar 8 (@bu _) #[#[5,dE][#[1,dw]]] #[2,fM] #[(),()]] #[aa 3 #[km 5 rfl #[lJ 15] #[lS 8 T.q_AsItIs T.k_AsItIs j8 T.m_AsItIs #[[#[ac 4]]] (by decide) (by rfl) (by rfl)]]] (@az _)] :: #[aa 3 #[PS.nox 3 #[bj 4 (@bW _ (K) _ _ _ _ _ _ _ _ _ _ _ PySem.F.plainAttrs_list PySem.F.slot_list_append PySem.F.type_list_append (@bP _) #[db 5 #[0,gO] rfl] #[[#[aw 5 #[[#[3,f7],#[4,d8],#[G_put_at,j9,T.put_at_,#[[#[5,dE],#[1,dw],#[2,fM]]]],#[6,gM]]]]]] (by rfl) (by rfl) (by rfl) (by rfl) (by rfl) (by rfl)) (by rfl)]]]]]],?_⟩
  obtain ⟨dx,ys,v,hr',hL,hys,hv⟩:=R.last
  obtain ⟨a,p,t,q,e,ties,rfl,ha,hp,ht,hty,hq,he⟩:=jo hv
  have ly:=hys.length
  have okl:=ok.lp
  rw [List.length_map] at ly
  have lt:=hty.length
  rw [List.length_map] at lt
  have okt:=ok.cu.lt
  refine bd fun D0 n0=>⟨(),r,T.x_Roads,dx,_,(),hr',T.c_Roads,T.n_Roads_states,rfl,(),L,_,_,(),rfl,af.of hL,fY _ _,a,(),ah.of ha,rfl,_,(),_,(),_,(),_,(),rfl,n0 _ _ ?_⟩
  refine bd fun D1 n1=>⟨(),(),t,ties,i,rfl,ht,fun h2=>n1 _ _ ?_,fun h2 H' s'=>k.1 .noTie (by rw [pL,if_neg (by rw [lt] at h2;exact h2)]) H' s'⟩
  have hs:has cur i:=by rw [lt] at h2;exact h2
  obtain ⟨e1,e2,e3,e4,nb⟩:=Ak (b:=b) ok.cu hs
  obtain ⟨j,rfl⟩:=Int.eq_ofNat_of_zero_le h2.1
  have hj':j<cur.ts.length:=by trivial
  have g1:((dC cur).map V.bl)[j]?=some (V.bl (decide ((j:Int)∈cur.sh))):=by rw [List.getElem?_map,jX hj'];rfl
  refine bd fun D2 n2=>⟨(),(),q,_,_,(),rfl,ah.of hq,i3 g1,(),rfl,(),fH (fun c=>?_) fun c=>n2 _ _ ?_⟩
  ·have c':decide ((j:Int)∈cur.sh)=b:=by
    have:=of_decide_eq_true c
    injection this
   exact ⟨(by show 1≤10000;decide),fun y H1 m1=>⟨y,T.x_AsItIs,none,(),m1.at',T.q_AsItIs,k.1 .asItIs (by rw [pL,if_pos hs,if_pos c']) _ (p9 m1.sm m1.fr)⟩⟩
  have c':¬decide ((j:Int)∈cur.sh)=b:=fun z=>c (decide_eq_true (by rw [z]))
  have rw_:bC cur (ph b (j:Int))=none:=by rw [pL,if_pos hs,if_neg c']
  have ll:((dC cur).map V.bl).length=cur.ts.length:=by rw [List.length_map,i8]
  refine ⟨(),r,T.x_Roads,dx,_,(),hr',T.c_Roads,T.n_Roads_states,rfl,.inl ⟨rfl,_,af.of hL⟩,(),(),(),(),(),q,_,j,.bl b,rfl,hq,by rw [ll];exact hj',by rw [ll];exact okt,fun p1 H1 s1 h1=>⟨(),(by show 4≤10000;decide),fun p3 H3 m3=>⟨L,_,(),rfl,(s1.trans m3.sm) _ _ hL,by simp;trivial,fun H4 c4=>?_⟩⟩⟩
  have sb:=s1.trans m3.sm
  obtain ⟨R4,s4⟩:=aE.app (s':=cy cur (ph b (j:Int))) (sts:=past++[cur]) hr' hL (by rw [List.map_append];exact hys.append (.cons hv .nil)) sb (oM (bs:=(dC cur).set j b) m3.at' (by rw [e1];exact sb _ _ hp) (sb _ _ ht) (by rw [e2];exact hty.mono sb.toE) (by rw [m3.sm _ _ h1,List.map_set]) e4.symm (by rw [e3];exact he.mono sb.toE)) c4
  exact jt k rw_ nb s4 R4 (by rw [yF];exact .non)
theorem zR (T:Txt K mg):aS P w K mg base (gl P w) 3 T.f_Roads__shut T.d_Roads__shut ["self", "number"] (tx T.x_Roads (gp T) (some true)):=by
 have G_Roads__set_shut:=#[(pF)]
 refine T.F_Roads__shut.okX qQ (fun vs H Q E h=>?_) (fun cdv A outer s H vs Q E hr h=>?_)
 ·obtain ⟨r,L,b,i,past,cur,rfl,_⟩:=h
  rfl
 ·obtain ⟨r,L,b,i,past,cur,rfl,hk,R,ok,k⟩:=h
  cases hk _ rfl
  obtain ⟨dx,ys,v,hr',hL,hys,hv⟩:=R.last
  refine ⟨_,#[aa 3 #[bj 4 #[cR 20 #[0,nZ] T.c_Roads T.h_Roads__set_shut G_Roads__set_shut (hr.mono (by decide)) T.B_Roads__set_shut .nil #[dA 15] #[[#[1,mj],#[cT 4]]] (by rfl) (by rfl) (by rfl)] (by rfl)]],?_⟩
  exact ⟨(),r,dx,(),hr',rfl,(),r,L,true,i,past,cur,rfl,(fun z q=>nomatch q),R,ok,k.1,fun e v H' s R t=>by cases t;exact k.2 e .non H' s R .non⟩
theorem xu (T:Txt K mg):aS P w K mg base (gl P w) 3 T.f_Roads__reopen T.d_Roads__reopen ["self", "number"] (tx T.x_Roads (gp T) (some false)):=by
 have G_Roads__set_shut:=#[(pF)]
 refine T.F_Roads__reopen.okX pW (fun vs H Q E h=>?_) (fun cdv A outer s H vs Q E hr h=>?_)
 ·obtain ⟨r,L,b,i,past,cur,rfl,_⟩:=h
  rfl
 ·obtain ⟨r,L,b,i,past,cur,rfl,hk,R,ok,k⟩:=h
  cases hk _ rfl
  obtain ⟨dx,ys,v,hr',hL,hys,hv⟩:=R.last
  refine ⟨_,#[aa 3 #[bj 4 #[cR 20 #[0,mo] T.c_Roads T.h_Roads__set_shut G_Roads__set_shut (hr.mono (by decide)) T.B_Roads__set_shut .nil #[dA 15] #[[#[1,k9],#[cT 4]]] (by rfl) (by rfl) (by rfl)] (by rfl)]],?_⟩
  exact ⟨(),r,dx,(),hr',rfl,(),r,L,false,i,past,cur,rfl,(fun z q=>nomatch q),R,ok,k.1,fun e v H' s R t=>by cases t;exact k.2 e .non H' s R .non⟩
inductive yP (C:Addr) (cl:RW→Addr) (vs:List V) (H:Hp) (Q:VK) (E:XK):Prop
 | mk (r L:Addr) (b e:List Nat) (past:List ai) (cur:ai) (h0:vs=[.ref r,bx b,bx e]) (h1:aE C H r L (past++[cur])) (h2:fN 5000 past cur) (h3:je C cl r L past cur (.ends b e) H Q E)
def AQ (C:Addr) (cl:RW→Addr):Sp:=fun vs H Q E=>yP C cl vs H Q E
theorem uE (T:Txt K mg):aS P w K mg base (gl P w) 2 T.f_Roads__set_ends T.d_Roads__set_ends ["self", "begin", "end"] (AQ T.x_Roads (gp T)):=by
 have G_check_two:=#[(nE)]
 refine T.F_Roads__set_ends.okX cK (fun vs H Q E h=>?_) (fun cdv A outer s H vs Q E hr h=>?_)
 ·obtain ⟨r,L,bb,ee,past,cur,rfl,_⟩:=h
  rfl
 ·obtain ⟨r,L,bb,ee,past,cur,rfl,R,ok,k⟩:=h
  refine ⟨_,#[#[PS.nox 3 #[dL 6 #[#[db 5 #[0,gP] rfl][#[jf 6 (@gX _) #[()]]]!] (@b7 _ (K) _ _ _ _ (4) rfl #[aq 5 #[3,cK.nd,dq] #[aq 5 #[4,cK.nd,gS] #[aq 5 #[5,cK.nd,gz] #[aq 5 #[6,cK.nd,lu] (@cq _) (by rfl)] (by rfl)] (by rfl)] (by rfl)] (by rfl) (by rfl) (by rfl)) (by rfl) (by rfl) (by rfl)]] :: #[#[bj 4 #[ip 16 G_check_two (hr.mono (by decide)) jv T.check_two_.m T.check_two_.F.kp T.check_two_.B .nil #[dA 15] #[[#[3,dq],#[1,gE],#[2,il]]] (by decide) (by rfl) (by rfl)] (by rfl)] :: #[aa 3 #[PS.nox 3 #[bj 4 (@bW _ (K) _ _ _ _ _ _ _ _ _ _ _ PySem.F.plainAttrs_list PySem.F.slot_list_append PySem.F.type_list_append (@bP _) #[db 5 #[0,gP] rfl] #[[#[aw 5 #[[#[3,dq],#[4,gS],#[5,gz],#[aw 5 #[[#[1,gE],#[2,il]]]]]]]]] (by rfl) (by rfl) (by rfl) (by rfl) (by rfl) (by rfl)) (by rfl)]]]]],?_⟩
  obtain ⟨dx,ys,v,hr',hL,hys,hv⟩:=R.last
  obtain ⟨a,p,t,q,e,ties,rfl,ha,hp,ht,hty,hq,he⟩:=jo hv
  have ly:=hys.length
  have okl:=ok.lp
  rw [List.length_map] at ly
  refine bd fun D0 n0=>⟨(),r,T.x_Roads,dx,_,(),hr',T.c_Roads,T.n_Roads_states,rfl,(),L,_,_,(),rfl,af.of hL,fY _ _,a,(),ah.of ha,rfl,_,(),_,(),_,(),_,(),rfl,n0 _ _ ?_⟩
  refine bd fun D1 n1=>⟨(),(),(),p,cur.pl,bb,ee,rfl,hp,fun h2=>n1 _ _ ?_,fun h2 H' s'=>k.1 .noPlace (if_neg h2) H' s'⟩
  have rw_:bC cur (.ends bb ee)=none:=if_pos h2
  refine ⟨(),r,T.x_Roads,dx,_,(),hr',T.c_Roads,T.n_Roads_states,rfl,.inl ⟨rfl,_,af.of hL⟩,(),(),(),(),(),(by show 2≤10000;decide),fun p1 H1 m1=>⟨(by show 4≤10000;decide),fun p3 H3 m3=>⟨L,_,(),rfl,(m1.sm.trans m3.sm) _ _ hL,by simp;trivial,fun H4 c4=>?_⟩⟩⟩
  have sb:=m1.sm.trans m3.sm
  obtain ⟨R4,s4⟩:=aE.app (s':=cy cur (.ends bb ee)) (sts:=past++[cur]) hr' hL (by rw [List.map_append];exact hys.append (.cons hv .nil)) sb (oM (bs:=dC cur) m3.at' (sb _ _ hp) (sb _ _ ht) (hty.mono sb.toE) (sb _ _ hq) rfl (.tup (m3.sm _ _ m1.at') (.cons (.str _) (.cons (.str _) .nil)))) c4
  exact jt k rw_ (by intro z;cases z) s4 R4 .non
inductive Cr (C:Addr) (vs:List V) (H:Hp) (Q:VK):Prop
 | mk (r L:Addr) (past:List ai) (cur:ai) (h0:vs=[.ref r]) (h1:aE C H r L (past++[cur])) (h2:Q (.int (past.length:Nat)) H)
def DE (C:Addr):Sp:=fun vs H Q _=>Cr C vs H Q
theorem tR (T:Txt K mg):aS P w K mg base CX0 1 T.f_Roads__deeds T.d_Roads__deeds ["self"] (DE T.x_Roads):=by
 refine T.F_Roads__deeds.ok qt (fun vs H Q E h=>?_) (fun cdv A outer s H vs Q E hr h=>?_)
 ·obtain ⟨r,L,past,cur,rfl,_⟩:=h
  rfl
 ·obtain ⟨r,L,past,cur,rfl,R,k⟩:=h
  refine ⟨_,#[aa 3 #[am 4 #[aB 8 (@ka _) #[(),(),(@dB _ (K) (by rfl)),nQ,T.b_len,(@be),#[[#[db 5 #[0,mY] rfl]]]] #[()]]]],?_⟩
  obtain ⟨dx,ys,v,hr',hL,hys,hv⟩:=R.last
  have ly:=hys.length
  rw [List.length_map] at ly
  refine ⟨(),r,T.x_Roads,dx,_,(),hr',T.c_Roads,T.n_Roads_states,rfl,L,(),.inl (af.of hL),_,(),rfl,?_⟩
  have e:(((ys++[v]).length:Nat):Int) - 1=(past.length:Nat):=by simp;trivial
  show Q (V.int ((((ys++[v]).length:Nat):Int) - 1)) H
  rw [e]
  exact k
inductive Ax (C:Addr) (vs:List V) (H:Hp) (Q:VK):Prop
 | mk (r L:Addr) (past:List ai) (cur:ai) (h0:vs=[.ref r]) (h1:aE C H r L (past++[cur])) (h2:∀H',ax (Eb L) H H'→aE C H' r L (gg past cur .back++[ii past cur .back])→Q (.bl (!past.isEmpty)) H')
def CC (C:Addr):Sp:=fun vs H Q _=>Ax C vs H Q
theorem zT (T:Txt K mg):aS P w K mg base CX0 2 T.f_Roads__back T.d_Roads__back ["self"] (CC T.x_Roads):=by
 have G_Roads__deeds:=#[(tR)]
 refine T.F_Roads__back.ok qR (fun vs H Q E h=>?_) (fun cdv A outer s H vs Q E hr h=>?_)
 ·obtain ⟨r,L,past,cur,rfl,_⟩:=h
  rfl
 ·obtain ⟨r,L,past,cur,rfl,R,k⟩:=h
  refine ⟨_,#[#[aL 8 #[ar 8 (@bu _) #[iY 17 #[0,jp] T.c_Roads T.h_Roads__deeds G_Roads__deeds (hr.mono (by decide)) T.B_Roads__deeds .nil (@hR _) (by rfl)] #[()] #[(),()]] #[aa 3 #[am 4 #[cT 4]]] (@az _)] :: #[#[bj 4 #[xm 9 PySem.F.plainAttrs_list PySem.F.slot_list_pop PySem.F.type_list_pop (@uX _) #[db 5 #[0,jp] rfl] (by rfl) (by rfl)] (by rfl)] :: #[aa 3 #[am 4 #[cT 4]]]]],?_⟩
  obtain ⟨dx,ys,v,hr',hL,hys,hv⟩:=R.last
  refine cO fun D0 n0 r0=>⟨(),r,dx,(),hr',rfl,r,L,past,cur,rfl,R,rfl,(),?_⟩
  rcases jU past with rfl | ⟨pp,z,rfl⟩
  ·exact aZ (r0 _ _ (k H (ax.refl _) R))
  ·rw [decide_eq_false (show ¬(V.int (((pp++[z]).length:Nat):Int)=V.int 0) from fun q=>by injection q with q;simp at q;trivial)]
   refine aP (n0 _ _ ?_)
   refine bd fun D1 n1=>⟨(),r,T.x_Roads,dx,_,(),hr',T.c_Roads,T.n_Roads_states,rfl,.inl ⟨rfl,_,af.of hL⟩,L,ys,v,rfl,rfl,hL,fun H1 c1=>n1 _ _ ?_⟩
   have se:=Ch.sameE (ag.refl H) hL c1
   have e:(!(pp++[z]).isEmpty)=true:=by cases pp <;> rfl
   have k1:=k H1 se (by
    rw [gk.1,gk.2]
    exact ⟨dx,ys,se.old _ _ R.ne hr',c1.at',hys.tupS se⟩)
   rw [e] at k1
   exact k1
inductive xS (C:Addr) (vs:List V) (H:Hp) (Q:VK):Prop
 | mk (r L:Addr) (past:List ai) (cur:ai) (h0:vs=[.ref r]) (h1:aE C H r L (past++[cur])) (h2:∀v,aD ED H v (qe cur.en)→Q v H)
def Ag (C:Addr):Sp:=fun vs H Q _=>xS C vs H Q
theorem zZ (T:Txt K mg):aS P w K mg base CX0 1 T.f_Roads__ends T.d_Roads__ends ["self"] (Ag T.x_Roads):=by
 refine T.F_Roads__ends.ok qG (fun vs H Q E h=>?_) (fun cdv A outer s H vs Q E hr h=>?_)
 ·obtain ⟨r,L,past,cur,rfl,_⟩:=h
  rfl
 ·obtain ⟨r,L,past,cur,rfl,R,k⟩:=h
  refine ⟨_,#[aa 3 #[am 4 #[#[#[db 5 #[0,nh] rfl][#[jf 6 (@gX _) #[()]]]!][#[()]]]]],?_⟩
  obtain ⟨dx,ys,v,hr',hL,hys,hv⟩:=R.last
  obtain ⟨a,p,t,q,e,ties,rfl,ha,hp,ht,hty,hq,he⟩:=jo hv
  exact ⟨(),r,T.x_Roads,dx,_,(),hr',T.c_Roads,T.n_Roads_states,rfl,(),L,_,_,(),rfl,af.of hL,fY _ _,a,_,_,(),rfl,ah.of ha,rfl,k _ he⟩
inductive Av (C:Addr) (c:Addr) (vs:List V) (H:Hp) (Q:VK) (E:XK):Prop
 | mk (r L:Addr) (i:Int) (past:List ai) (cur:ai) (h0:vs=[.ref r,.int i]) (h1:aE C H r L (past++[cur])) (h2:(has cur i→Q (.bl (decide (i∈cur.sh))) H)) (h3:(¬has cur i→∀H',ag H H'→E (.ref c) none H'))
def BD (C:Addr) (c:Addr):Sp:=fun vs H Q E=>Av C c vs H Q E
theorem wB (T:Txt K mg):aS P w K mg base (gl P w) 2 T.f_Roads__is_shut T.d_Roads__is_shut ["self", "number"] (BD T.x_Roads T.x_NoTie):=by
 have G_check_tie:=#[(ke)]
 refine T.F_Roads__is_shut.okX jJ (fun vs H Q E h=>?_) (fun cdv A outer s H vs Q E hr h=>?_)
 ·obtain ⟨r,L,i,past,cur,rfl,_⟩:=h
  rfl
 ·obtain ⟨r,L,i,past,cur,rfl,R,k1,k2⟩:=h
  refine ⟨_,#[#[PS.nox 3 #[2,jJ.nd,dW,#[#[#[db 5 #[0,lT] rfl][#[jf 6 (@gX _) #[()]]]!][#[()]]]]] :: #[#[bj 4 #[ip 16 G_check_tie (hr.mono (by decide)) jD T.check_tie_.m T.check_tie_.F.kp T.check_tie_.B .nil #[dA 15] #[[#[2,dW],#[1,gB]]] (by decide) (by rfl) (by rfl)] (by rfl)] :: #[aa 3 #[PS.nox 3 #[am 4 #[#[2,dW][#[1,gB]]]]]]]],?_⟩
  obtain ⟨dx,ys,v,hr',hL,hys,hv⟩:=R.last
  obtain ⟨a,p,t,q,e,ties,rfl,ha,hp,ht,hty,hq,he⟩:=jo hv
  have ll:((dC cur).map V.bl).length=cur.ts.length:=by rw [List.length_map,i8]
  refine fh fun Q1 n1=>⟨(),r,T.x_Roads,dx,_,(),hr',T.c_Roads,T.n_Roads_states,rfl,(),L,_,_,(),rfl,af.of hL,fY _ _,a,_,_,(),rfl,ah.of ha,rfl,n1 _ _ ?_⟩
  refine bd fun D1 n1=>⟨(),(),q,_,i,rfl,hq,fun h2=>n1 _ _ ?_,fun h2 H' s'=>k2 (by rw [ll] at h2;exact h2) H' s'⟩
  have hs:has cur i:=by rw [ll] at h2;exact h2
  have k3:=k1 hs
  obtain ⟨j,rfl⟩:=Int.eq_ofNat_of_zero_le h2.1
  have hj':j<cur.ts.length:=by trivial
  have g1:((dC cur).map V.bl)[j]?=some (V.bl (decide ((j:Int)∈cur.sh))):=by rw [List.getElem?_map,jX hj'];rfl
  exact ⟨(),(),q,_,_,(),rfl,ah.of hq,i3 g1,k3⟩
end
end K39
namespace K39
open PySem L2
section
variable {P:Program}{w:World}{K:PySem.W.Frag}{mg:Str→Option Value}{base:Heap}
def pj (s:ai) (i:Nat):PyData:=match s.ts[i]? with
 | some t=>gn (if ((i:Nat):Int)∈s.sh then { t with most:=(0,1) } else t)
 | none=>.none
def sW (s:ai):PyData:=.tuple [.tuple (s.pl.map fun l=>.str (S l)),.tuple ((List.range s.ts.length).map (pj s))]
inductive AK (C:Addr) (vs:List V) (H:Hp) (Q:VK):Prop
 | mk (r L:Addr) (past:List ai) (cur:ai) (h0:vs=[.ref r]) (h1:aE C H r L (past++[cur])) (h2:fN 5000 past cur) (h3:∀v H',ag H H'→aD ED H' v (sW cur)→Q v H')
def BV (C:Addr):Sp:=fun vs H Q _=>AK C vs H Q
theorem Bl (T:Txt K mg):aS P w K mg base CX0 2 T.f_Roads__net T.d_Roads__net ["self"] (BV T.x_Roads):=by
 have G_put_at:=#[(oB)]
 refine T.F_Roads__net.ok fk (fun vs H Q E h=>?_) (fun cdv A outer s H vs Q E hr h=>?_)
 ·obtain ⟨r,L,past,cur,rfl,_⟩:=h
  rfl
 ·obtain ⟨r,L,past,cur,rfl,R,ok,k⟩:=h
  refine ⟨_,#[#[dL 6 #[#[db 5 #[0,pe] rfl][#[jf 6 (@gX _) #[()]]]!] (@b7 _ (K) _ _ _ _ (4) rfl #[aq 5 #[1,fk.nd,iS] #[aq 5 #[2,fk.nd,jF] #[aq 5 #[3,fk.nd,ji] #[aq 5 #[4,fk.nd,pb] (@cq _) (by rfl)] (by rfl)] (by rfl)] (by rfl)] (by rfl) (by rfl) (by rfl)) (by rfl) (by rfl) (by rfl)] :: #[aa 3 #[am 4 #[aw 5 #[[#[1,iS],#[b9 9 (@iX _ (K) (by rfl)) nO T.b_tuple (@dJ) #[[#[ic 7 (["tie", "shut"]) (2) ([]) _ _ _ _ rfl (by kernel_rfl) (@kN _ (K) _ _ _ _ _ _ _ _ pH T.b_zip #[[#[2,jF],#[3,ji]]] (by rfl) (by rfl) (by rfl)) (fun _ _ _ _ _ _=>(@b7 _ (K) _ _ _ _ (2) rfl #[aq 5 #[0,(),()] #[aq 5 #[1,(),()] (@cq _) (by rfl)] (by rfl)] (by rfl) (by rfl) (by rfl))) (fun _ _ _ _ _ _=>@gh _) (fun _ _ _ _ _ _=>#[di 8 #[cP 3 #[1,()] (by intro _;rfl)] #[G_put_at,(),T.put_at_,#[[#[0,()],#[()],#[aw 5 #[[#[()],#[()]]]]]]] #[0,()]]) (by intro _;rfl)]]] (by decide) (by decide) (by rfl) (by rfl)]]]]]]],?_⟩
  obtain ⟨dx,ys,v,hr',hL,hys,hv⟩:=R.last
  obtain ⟨a,p,t,q,e,ties,rfl,ha,hp,ht,hty,hq,he⟩:=jo hv
  have lt:=hty.length
  rw [List.length_map] at lt
  have okt:=ok.cu.lt
  have ll:((dC cur).map V.bl).length=cur.ts.length:=by rw [List.length_map,i8]
  refine bd fun D0 n0=>⟨(),r,T.x_Roads,dx,_,(),hr',T.c_Roads,T.n_Roads_states,rfl,(),L,_,_,(),rfl,af.of hL,fY _ _,a,(),ah.of ha,rfl,_,(),_,(),_,(),_,(),rfl,n0 _ _ ?_⟩
  refine ⟨(),(),(),t,q,false,false,rfl,⟨ties,ah.of ht⟩,⟨_,ah.of hq⟩,fun D hD=>?_⟩
  refine vC (n:=cur.ts.length) (pj cur) (by trivial) hD (fun i H' hi sm=>⟨ties,_,ties[i]'(by trivial),_,ah.of (sm _ _ ht),ah.of (sm _ _ hq),List.getElem?_eq_getElem (by trivial),by rw [List.getElem?_map,jX hi];rfl⟩) (fun H' sm=>⟨ties,_,ah.of (sm _ _ ht),ah.of (sm _ _ hq),.inl lt⟩) ?_ ?_
  ·rintro i x H' H'' R' hi sm ⟨Tp,xx,yy,hT,rfl,rfl,e1,e2⟩ kk
   have e1':=e1 _ (ah.of (sm _ _ ht))
   have e2':=e2 _ (ah.of (sm _ _ hq))
   rw [List.getElem?_map,jX hi] at e2'
   obtain rfl:V.bl (decide ((i:Int)∈cur.sh))=yy:=Option.some.inj e2'
   have e3:cur.ts[i]?=some cur.ts[i]:=List.getElem?_eq_getElem hi
   have dj:aD ED H xx (gn cur.ts[i]):=hty.nth i e1' (by rw [List.getElem?_map,e3];rfl)
   obtain ⟨ta,m,g,pr,rfl,hta,hm,hg,hpr⟩:=oU dj
   have st:=ag.new (o:=.tup [.ref ta,.bl (decide ((i:Int)∈cur.sh))]) hT
   refine ⟨Tp,(),ah.of au,rfl,_,(),_,(),rfl,qc,(),(),?_⟩
   have sa:=sm.trans st
   by_cases hs:(i:Int)∈cur.sh
   ·rw [decide_eq_true hs] at st sa ⊢
    refine aZ ⟨(),(by show 2≤10000;decide),fun p1 H1 m1=>⟨ta,_,2,.ref p1,rfl,(sa.trans m1.sm) _ _ hta,(by show 2<5;decide),(by show 5≤5000;decide),fun p2 H2 s2 h2=>?_⟩⟩
    have sb:=(sa.trans m1.sm).trans s2
    refine kk _ _ ((st.trans m1.sm).trans s2) ?_
    unfold pj
    rw [e3]
    simp only [hs,if_true]
    exact .tup h2 (.cons (.str _) (.cons (.str _) (.cons (.tup (s2 _ _ m1.at') (.cons (.int _) (.cons (.int _) .nil))) (.cons (hg.mono sb.toE) (.cons (hpr.mono sb.toE) .nil)))))
   ·rw [decide_eq_false hs] at st sa ⊢
    refine aP ⟨(),kk _ _ st ?_⟩
    unfold pj
    rw [e3]
    simp only [hs,if_false]
    exact dj.mono sa.toE
  ·intro zs H1 s1 h1 ia
   refine ⟨D,zs,rfl,af.of h1,fun l H2 m2=>⟨(by show 2≤10000;decide),fun p3 H3 m3=>k _ _ ((s1.trans m2.sm).trans m3.sm) ?_⟩⟩
   exact .tup m3.at' (.cons (.tup (((s1.trans m2.sm).trans m3.sm) _ _ hp) (mL _)) (.cons (.tup (m3.sm _ _ m2.at') (ia.mono (m2.sm.trans m3.sm).toE)) .nil))
end
end K39
namespace K39
open PySem L2
section
variable {P:Program}{w:World}{K:PySem.W.Frag}{mg:Str→Option Value}{base:Heap}
theorem CB (T:Txt K mg):aS P w K mg base CX0 1 T.l_box_.f T.l_box_.d ["_law_script", "_law_k"] (C0 K):=by
 refine T.l_box_.F.ok pV (fun vs H Q E h=>?_) (fun cdv A outer s H vs Q E hr h=>?_)
 ·obtain ⟨a,ms,k,rfl,_⟩:=h
  rfl
 ·obtain ⟨a,ms,k,rfl,hS,hk0,hk1,kk⟩:=h
  refine ⟨_,(ie (nt (i:=2) pV.nd rfl (Or.inl rfl) bD)
   (ie (aL (ar fO (pv 1) (kd nH (by rfl) T.b_len be (fA (pv 0) cA)) (qp _)) (aa (nt (i:=2) pV.nd rfl (Or.inl rfl) (aK iH (pv 0) (pv 1) (fun _ _=>rfl)))) az)
   (aa (am (BS (fA (aB gQ (kd mz (by rfl) T.b_abs jR (fA (pv 2) cA)) (b9 rj (by rfl) T.b_int lr (fA (bK Dy (kd mz (by rfl) T.b_abs jR (fA (pv 2) cA)) (aB sX bD bD) (qp _)) cA))) (fA (aB jm (aB cz (pv 2) (aB gQ (aB gQ bD (pv 1)) (pv 1))) bD) (fA bD cA)))))))),?_⟩
  refine ⟨(),(),a,(),.inl hS,_,(),rfl,(),?_⟩
  refine fH (fun h=>?_) (fun h=>?_)
  case' refine_1=>
   have hlt:k.toNat<ms.length:=by
    have h':=of_decide_eq_true h
    rw [List.length_map] at h'
    trivial
   refine ⟨(),(),.inl ⟨a,_,_,V.int ms[k.toNat],rfl,rfl,hS,?_,?_⟩⟩
   ·exact vk hk0 hlt
  all_goals
   refine ⟨(),(),(),(),_,(),rfl,⟨by decide,by decide,by decide⟩,_,(),rfl,.inr ⟨(),_,(),rfl,.inr ?_,(),(),_,(),rfl,.inr ⟨by trivial,by trivial⟩,(),_,(),rfl,.inr ⟨by trivial,by trivial⟩,_,(),rfl,_,(),rfl,?_,?_,fun p hp=>kk p _ hp (ag.new hp) ⟨_,_,au,?_,?_,?_⟩⟩⟩
   ·exact E8 _
   ·show (0:Int)<2147483647;decide
   ·show 3≤sizeLine;decide
   ·exact CP _ (ut _)
   ·exact Int.emod_nonneg _ (by decide)
   ·exact Int.emod_lt_of_pos _ (by decide)
end
end K39
namespace K39
open PySem L2
section
variable {P:Program}{w:World}{K:PySem.W.Frag}{mg:Str→Option Value}{base:Heap}
theorem iZ (T:Txt K mg):aS P w K mg base CX0 1 T.l_take_.f T.l_take_.d ["_law_box_here", "_law_many"] xi:=by
 refine T.l_take_.F.ok nX (fun vs H Q E h=>?_) (fun cdv A outer s H vs Q E hr h=>?_)
 ·obtain ⟨b,many,t,rfl,_⟩:=h
  rfl
 ·obtain ⟨b,many,t,rfl,⟨c,x,hb,hc,hx0,hx1⟩,hm0,hm1,ht0,ht1,kk⟩:=h
  refine ⟨_,(ie (aL (ar sN (aK iH (pv 0) bD (fun _ _=>rfl)) bD (qp _)) (ie (dL (kd tf (by rfl) T.b_divmod su (fA (aK iH (pv 0) bD (fun _ _=>rfl)) (fA (pv 1) cA))) (xC rfl (aq (lY (pv 0) bD pU) (aq (lW (i:=2) nX.nd rfl (Or.inl rfl)) cq))))
   (aa (am (pv 2)))) az)
   (ie (dL (aB cz (aK iH (pv 0) bD (fun _ _=>rfl)) bD) (lY (pv 0) bD pU))
   (ie (nt (i:=3) nX.nd rfl (Or.inl rfl) (aB jm (aB sX (aB cz (aK iH (pv 0) bD (fun _ _=>rfl)) (aB gQ bD (aK iH (pv 0) bD (fun _ _=>rfl)))) bD) bD))
   (aa (am (aB jm (aB AG (aB jm (aB cz (aB gQ (pv 3) bD) (aB gQ (aB gQ (aK iH (pv 0) bD (fun _ _=>rfl)) (aK iH (pv 0) bD (fun _ _=>rfl))) bD)) bD) bD) (pv 1))))))),?_⟩
  refine ⟨(),.inl ⟨b,_,_,(),rfl,af.of hb,rfl,_,(),rfl,(),?_⟩⟩
  refine fH (fun h=>?_) (fun h=>?_)
  ·refine ⟨(),.inl ⟨b,_,_,(),rfl,af.of hb,rfl,(),_,(),⟨hm0,hm1⟩,fun p hp=>⟨p,(),ah.of au,rfl,_,(),(),b,[.int c,.int x,.int t],_,0,rfl,rfl,?_,rfl,_,(),rfl,(),?_⟩⟩⟩
   ·rw [ao (aF hb hp)];exact hb
   ·have hb':aH H p (.tup [.int (c / many),.int (c % many)]) b=some (.lst [.int c,.int x,.int t]):=by rw [ao (aF hb hp)];exact hb
    exact kk _ t _ (Int.emod_nonneg _ (Int.ne_of_gt hm0)) (Int.emod_lt_of_pos _ hm0) (Int.le_refl _) (by trivial) (rh (ag.new hp) hb') ⟨_,_,au,Int.ediv_nonneg hc (Int.le_of_lt hm0),hx0,hx1⟩
  ·refine ⟨(),.inl ⟨b,_,_,(),rfl,af.of hb,rfl,_,(),rfl,(),b,_,_,2,rfl,rfl,hb,rfl,?_⟩⟩
   refine ⟨(),.inl ⟨b,_,_,(),rfl,af.of au,rfl,(),.inl ⟨b,_,_,(),rfl,af.of au,rfl,_,(),rfl,.inl ⟨by decide,by decide⟩,_,(),rfl,_,(),rfl,⟨by decide,by decide,?_⟩,_,(),rfl,?_,?_⟩⟩⟩
   ·have:(x+39373*(t+1)).natAbs<2 ^ 64:=by trivial
    exact this
   ·show (0:Int)<2147483647;decide
   have ho0:0≤(x+39373*(t+1)) ^ (5:Int).toNat % 2147483647:=Int.emod_nonneg _ (by decide)
   have ho1:(x+39373*(t+1)) ^ (5:Int).toNat % 2147483647<2147483647:=Int.emod_lt_of_pos _ (by decide)
   generalize (x+39373*(t+1)) ^ (5:Int).toNat % 2147483647=on at ho0 ho1 ⊢
   refine ⟨(),_,(),rfl,.inr ⟨by decide,by decide⟩,(),.inl ⟨b,_,_,(),rfl,af.of au,rfl,(),.inl ⟨b,_,_,(),rfl,af.of au,rfl,_,(),rfl,.inl ⟨?_,?_⟩,_,(),rfl,.inr ⟨by decide,by decide⟩,_,(),rfl,_,(),rfl,?_,_,(),rfl,⟨by decide,by decide⟩,(),_,(),rfl,hm0,?_⟩⟩⟩
   ·show -(2 ^ 64)<t+1;trivial
   ·show t+1<2 ^ 64;trivial
   ·show (0:Int)<2147483629;decide
   ·exact kk _ (t+1) _ (Int.emod_nonneg _ (Int.ne_of_gt hm0)) (Int.emod_lt_of_pos _ hm0) (by trivial) (Int.le_refl _) (rh (ag.refl H) hb) ⟨c,x,au,hc,hx0,hx1⟩
end
end K39
namespace K39
open PySem L2
set_option maxHeartbeats 4000000
section
variable {P:Program}{w:World}{K:PySem.W.Frag}{mg:Str→Option Value}{base:Heap}
theorem zJ {n d:Int} (hd:d≠0) (h:d.natAbs.log2<9000):vp n ((Int.gcd n d:Nat):Int):=by
 have g0:=KM.gcd_pos (n:=n) hd
 refine ⟨by trivial,?_⟩
 have h1:Int.gcd n d≤d.natAbs:=Nat.le_of_dvd (by trivial) (by
  have:((Int.gcd n d:Nat):Int) ∣ d:=Int.gcd_dvd_right ..
  exact Int.ofNat_dvd_left.mp this)
 have h2:d.natAbs<2 ^ 9000:=(Nat.log2_lt (by trivial)).mp h
 rw [Int.natAbs_natCast]
 exact (Nat.log2_lt (by trivial)).mpr (Nat.lt_of_le_of_lt h1 h2)
inductive DY (vs:List V) (H:Hp) (Q:VK):Prop
 | mk (n d:Int) (h0:vs=[.int n,.int d]) (h1:0<d) (h2:d≤1000000) (h3:∀p H',Nw H p (fr (KM.low n d)) H'→Q (.ref p) H')
def Et:Sp:=fun vs H Q _=>DY  vs H Q
theorem vq (T:Txt K mg):aS P w K mg base CX0 1 T.l_fr_.f T.l_fr_.d ["_law_top", "_law_bottom"] Et:=by
 refine T.l_fr_.F.ok o4 (fun vs H Q E h=>?_) (fun cdv A outer s H vs Q E hr h=>?_)
 ·obtain ⟨n,d,rfl,_⟩:=h
  rfl
 ·obtain ⟨n,d,rfl,hd,hs,k⟩:=h
  have hl:d.natAbs.log2<9000:=pI hd (by trivial)
  refine ⟨_,#[#[kG 2 (2) (3) _ _ _ _ _ _ _ _ _ _ _ rfl o4.nd rfl rfl (by decide) fW eS #[[#[(),(),(@mz _),ql,T.b_abs,(@jR),#[[#[0,oj]]]],#[(),(),(@mz _),ql,T.b_abs,(@jR),#[[#[1,iB]]]]]] (by kernel_rfl) (by rfl)] :: #[#[ud 6 PassesOwn.never #[ar 8 (@sN _) #[3,eS] #[()] #[(),()]] #[aa 3 #[kG 2 (2) (3) _ _ _ _ _ _ _ _ _ _ _ rfl o4.nd rfl rfl (by decide) fW eS #[[#[3,eS],#[aB 8 (@jm _) #[2,fW] #[3,eS]]]] (by kernel_rfl) (by rfl)]]] :: #[#[4,o4.nd,lB,#[di 8 #[ar 8 (@sN _) #[1,iB] #[()] #[(),()]] #[2,fW] #[jf 6 (@gX _) #[2,fW]]]] :: #[aa 3 #[am 4 #[aw 5 #[[#[aB 8 (@tK _) #[0,oj] #[4,lB]],#[aB 8 (@tK _) #[1,iB] #[4,lB]]]]]]]]]],?_⟩
  refine ⟨(),(),(),(),_,(),?_⟩
  refine ⟨fun m σ H'=>∃a b:Int,σ=[some (.int n),some (.int d),some (.int a),some (.int b),none]∧H'=H∧0≤a∧0≤b∧Int.gcd a b=Int.gcd n d∧m=b.natAbs,⟨_,_,(),rfl,ut n,ut d,KM.gcd_abs n d,rfl⟩,?_⟩
  rintro m σ H' ⟨a,b,rfl,rfl,ha,hb,hg,rfl⟩
  refine ⟨(),_,(),rfl,(),?_⟩
  by_cases hb0:0<b
  ·rw [decide_eq_true hb0]
   refine aZ ⟨fun σ' H''=>∃a' b':Int,σ'=[some (.int n),some (.int d),some (.int a'),some (.int b'),none]∧H''=H'∧0≤a'∧0≤b'∧Int.gcd a' b'=Int.gcd n d∧b'.natAbs<b.natAbs,?_,?_⟩
   ·rintro σ' H'' ⟨a',b',rfl,rfl,h0,h1,h2,h3⟩
    exact ⟨_,h3,a',b',rfl,rfl,h0,h1,h2,rfl⟩
   ·refine ⟨(),(),(),_,(),rfl,hb0,_,(),?_⟩
    have q0:=Int.emod_nonneg a (Int.ne_of_gt hb0)
    have q1:=Int.emod_lt_of_pos a hb0
    exact ⟨b,a % b,rfl,rfl,hb,q0,(KM.gcd_emod a b).trans hg,by trivial⟩
  ·have hb1:b=0:=by trivial
   subst hb1
   rw [decide_eq_false hb0]
   refine aP ?_
   have eg:a=((Int.gcd n d:Nat):Int):=by
    rw [←hg,KM.gcd_zero_abs,if_neg (by trivial)]
   have c1:=zJ (n:=n) (Int.ne_of_gt hd) hl
   rw [←eg] at c1
   refine ⟨(),_,(),rfl,(),?_⟩
   rw [decide_eq_true hd]
   refine aZ ⟨(),?_⟩
   refine ⟨(),(),_,(),rfl,c1,(),(),_,(),rfl,⟨c1.1,c1.2⟩,(by show 2≤10000;decide),fun p H2 n2=>k p H2 ?_⟩
   unfold KM.low
   rw [if_pos hd,←eg]
   exact n2
inductive CY (vs:List V) (H:Hp) (Q:VK):Prop
 | mk (b:Addr) (t:Int) (h0:vs=[.ref b]) (h1:Bx H b t) (h2:0≤t) (h3:t≤900000) (h4:∀(o:Addr) (z:KM.Fra) (t':Int) (H':Hp),ax (Eb b) H H'→H' o=some (fr z)→Bx H' b t'→t≤t'→t'≤t+3→Q (.ref o) H')
def yI:Sp:=fun vs H Q _=>CY  vs H Q
theorem zv (T:Txt K mg):aS P w K mg base CX0 2 T.l_gain_.f T.l_gain_.d ["_law_box_here"] yI:=by
 have G_l_take:=#[(iZ)]
 have G_l_fr:=#[(vq)]
 refine T.l_gain_.F.ok nP (fun vs H Q E h=>?_) (fun cdv A outer s H vs Q E hr h=>?_)
 ·obtain ⟨b,t,rfl,_⟩:=h
  rfl
 ·obtain ⟨b,t,rfl,B,ht0,ht1,k⟩:=h
  refine ⟨_,#[#[1,nP.nd,jb,#[G_l_take,iy,T.l_take_,#[[#[0,fI],#[()]]]]] :: #[#[aL 8 #[ar 8 (@fO _) #[1,jb] #[()] #[(),()]] #[aa 3 #[am 4 #[aw 5 #[[#[()],#[()]]]]]] (@az _)] :: #[#[2,nP.nd,fT,#[di 8 #[ar 8 (@fO _) #[1,jb] #[()] #[(),()]] #[()] #[()]]] :: #[aa 3 #[am 4 #[G_l_fr,sM,T.l_fr_,#[[#[aB 8 (@cz _) #[()] #[G_l_take,iy,T.l_take_,#[[#[0,fI],#[2,fT]]]]],#[aB 8 (@cz _) #[()] #[G_l_take,iy,T.l_take_,#[[#[0,fI],#[2,fT]]]]]]]]]]]]],?_⟩
  refine ⟨(),b,8,t,rfl,B,by decide,by decide,ht0,by trivial,fun wy t1 H1 w0 w1 h1a h1b s1 B1=>?_⟩
  refine ⟨(),_,(),rfl,(),fH (fun c=>?_) (fun c=>?_)⟩
  ·exact ⟨(by show 2≤10000;decide),fun o H2 n2=>k o (1,1) t1 H2 (s1.trans n2.sm.toE) n2.at' (B1.same n2.sm) (by trivial) (by trivial)⟩
  refine ⟨(),_,(),rfl,(),?_⟩
  refine fH (fun c2=>?_) (fun c2=>?_)
  ·refine ⟨(),(),b,12,t1,rfl,B1,by decide,by decide,by trivial,by trivial,fun r2 t2 H2 a20 a21 _ _ s2 B2=>⟨_,(),rfl,(),(),b,12,t2,rfl,B2,by decide,by decide,by trivial,by trivial,fun r3 t3 H3 a30 a31 _ _ s3 B3=>⟨_,(),rfl,_,(),by trivial,by trivial,fun o H4 n4=>?_⟩⟩⟩
   exact k o _ t3 H4 (((s1.trans s2).trans s3).trans n4.sm.toE) n4.at' (B3.same n4.sm) (by trivial) (by trivial)
  ·refine ⟨(),(),b,60,t1,rfl,B1,by decide,by decide,by trivial,by trivial,fun r2 t2 H2 a20 a21 _ _ s2 B2=>⟨_,(),rfl,(),(),b,60,t2,rfl,B2,by decide,by decide,by trivial,by trivial,fun r3 t3 H3 a30 a31 _ _ s3 B3=>⟨_,(),rfl,_,(),by trivial,by trivial,fun o H4 n4=>?_⟩⟩⟩
   exact k o _ t3 H4 (((s1.trans s2).trans s3).trans n4.sm.toE) n4.at' (B3.same n4.sm) (by trivial) (by trivial)
theorem AW (T:Txt K mg):aS P w K mg base CX0 2 T.l_much_.f T.l_much_.d ["_law_box_here"] yI:=by
 have G_l_take:=#[(iZ)]
 have G_l_fr:=#[(vq)]
 refine T.l_much_.F.ok rm (fun vs H Q E h=>?_) (fun cdv A outer s H vs Q E hr h=>?_)
 ·obtain ⟨b,t,rfl,_⟩:=h
  rfl
 ·obtain ⟨b,t,rfl,B,ht0,ht1,k⟩:=h
  refine ⟨_,#[#[1,rm.nd,gq,#[G_l_take,iw,T.l_take_,#[[#[0,fB],#[()]]]]] :: #[#[aL 8 #[ar 8 (@bu _) #[1,gq] #[()] #[(),()]] #[aa 3 #[am 4 #[aw 5 #[[#[()],#[()]]]]]] (@az _)] :: #[#[aL 8 #[ar 8 (@bu _) #[1,gq] #[()] #[(),()]] #[aa 3 #[am 4 #[aw 5 #[[#[aB 8 (@sX _) #[()] #[()]],#[()]]]]]] (@az _)] :: #[aa 3 #[am 4 #[G_l_fr,sK,T.l_fr_,#[[#[aB 8 (@cz _) #[()] #[G_l_take,iw,T.l_take_,#[[#[0,fB],#[()]]]]],#[di 8 #[ar 8 (@fO _) #[1,gq] #[()] #[(),()]] #[()] #[aB 8 (@cz _) #[()] #[G_l_take,iw,T.l_take_,#[[#[0,fB],#[()]]]]]]]]]]]]]],?_⟩
  refine ⟨(),b,8,t,rfl,B,by decide,by decide,ht0,by trivial,fun wy t1 H1 w0 w1 h1a h1b s1 B1=>?_⟩
  refine ⟨(),rfl,(),fH (fun c=>?_) (fun c=>?_)⟩
  ·exact ⟨(by show 2≤10000;decide),fun o H2 n2=>k o (0,1) t1 H2 (s1.trans n2.sm.toE) n2.at' (B1.same n2.sm) (by trivial) (by trivial)⟩
  refine ⟨(),rfl,(),fH (fun c'=>?_) (fun c'=>?_)⟩
  ·exact ⟨_,(),rfl,⟨by decide,by decide,by decide⟩,(by show 2≤10000;decide),fun o H2 n2=>k o (_,_) t1 H2 (s1.trans n2.sm.toE) n2.at' (B1.same n2.sm) (by trivial) (by trivial)⟩
  refine ⟨(),b,30,t1,rfl,B1,by decide,by decide,by trivial,by trivial,fun r2 t2 H2 a20 a21 _ _ s2 B2=>⟨_,(),rfl,(),_,(),rfl,(),fH (fun c2=>?_) (fun c2=>?_)⟩⟩
  ·exact ⟨_,(),by decide,by decide,fun o H4 n4=>k o _ t2 H4 ((s1.trans s2).trans n4.sm.toE) n4.at' (B2.same n4.sm) (by trivial) (by trivial)⟩
  ·exact ⟨(),b,12,t2,rfl,B2,by decide,by decide,by trivial,by trivial,fun r3 t3 H3 a30 a31 _ _ s3 B3=>⟨_,(),rfl,_,(),by trivial,by trivial,fun o H4 n4=>k o _ t3 H4 (((s1.trans s2).trans s3).trans n4.sm.toE) n4.at' (B3.same n4.sm) (by trivial) (by trivial)⟩⟩
theorem AR (T:Txt K mg):aS P w K mg base CX0 2 T.l_cost_.f T.l_cost_.d ["_law_box_here"] yI:=by
 have G_l_take:=#[(iZ)]
 have G_l_fr:=#[(vq)]
 refine T.l_cost_.F.ok rT (fun vs H Q E h=>?_) (fun cdv A outer s H vs Q E hr h=>?_)
 ·obtain ⟨b,t,rfl,_⟩:=h
  rfl
 ·obtain ⟨b,t,rfl,B,ht0,ht1,k⟩:=h
  refine ⟨_,#[#[1,rT.nd,i9,#[G_l_take,iK,T.l_take_,#[[#[0,fC],#[()]]]]] :: #[#[aL 8 #[ar 8 (@bu _) #[1,i9] #[()] #[(),()]] #[aa 3 #[am 4 #[aw 5 #[[#[()],#[()]]]]]] (@az _)] :: #[aa 3 #[am 4 #[G_l_fr,sB,T.l_fr_,#[[#[G_l_take,iK,T.l_take_,#[[#[0,fC],#[()]]]],#[aB 8 (@cz _) #[()] #[aB 8 (@gQ _) #[G_l_take,iK,T.l_take_,#[[#[0,fC],#[()]]]] #[b9 9 (@rj _) uo T.b_int (@lr) #[[#[bK 8 (@bu _) #[1,i9] #[()] #[(),()]]]] (by decide) (by decide) (by rfl) (by rfl)]]]]]]]]]],?_⟩
  refine ⟨(),b,4,t,rfl,B,by decide,by decide,ht0,by trivial,fun wy t1 H1 w0 w1 h1a h1b s1 B1=>?_⟩
  refine ⟨(),rfl,(),fH (fun c=>?_) (fun c=>?_)⟩
  ·exact ⟨(by show 2≤10000;decide),fun o H2 n2=>k o (0,1) t1 H2 (s1.trans n2.sm.toE) n2.at' (B1.same n2.sm) (by trivial) (by trivial)⟩
  refine ⟨(),b,25,t1,rfl,B1,by decide,by decide,by trivial,by trivial,fun r2 t2 H2 a20 a21 _ _ s2 B2=>⟨(),b,6,t2,rfl,B2,by decide,by decide,by trivial,by trivial,fun r3 t3 H3 a30 a31 _ _ s3 B3=>⟨(),rfl,.inr ⟨(),_,(),rfl,.inl ⟨by trivial,by trivial⟩,_,(),rfl,?_⟩⟩⟩⟩
  obtain ⟨z,ez,hz0,hz1⟩:∃z:Int,1+r3*(if decide (V.int wy=V.int 3)=true then 1 else 0)=z∧1≤z∧z≤100:=by
   by_cases c3:decide (V.int wy=V.int 3)=true
   ·rw [if_pos c3];exact ⟨(),by trivial,by trivial⟩
   ·rw [if_neg c3];exact ⟨(),by trivial,by trivial⟩
  refine ⟨r2,z,?_,by trivial,by trivial,fun o H4 n4=>k o _ t3 H4 (((s1.trans s2).trans s3).trans n4.sm.toE) n4.at' (B3.same n4.sm) (by trivial) (by trivial)⟩
  rw [←ez]
  rfl
end
end K39
namespace K39
open PySem L2
set_option maxHeartbeats 4000000
section
variable {P:Program}{w:World}{K:PySem.W.Frag}{mg:Str→Option Value}{base:Heap}
inductive DI (vs:List V) (H:Hp) (Q:VK):Prop
 | mk (b:Addr) (many t:Int) (h0:vs=[.ref b,.int many]) (h1:Bx H b t) (h2:0≤t) (h3:t≤900000) (h4:1≤many) (h5:many≤8) (h6:∀D (ls:List (List Nat)) t' H',H D=none→ax (Eb b) H H'→H' D=some (.lst (ls.map bx))→ls.length=many.toNat→Bx H' b t'→t≤t'→t'≤t+130→Q (.ref D) H')
def Ey:Sp:=fun vs H Q _=>DI  vs H Q
theorem yb (T:Txt K mg):aS P w K mg base CX0 2 T.l_names_.f T.l_names_.d ["_law_box_here", "_law_many"] Ey:=by
 have G_l_take:=#[(iZ)]
 refine T.l_names_.F.ok eY (fun vs H Q E h=>?_) (fun cdv A outer s H vs Q E hr h=>?_)
 ·obtain ⟨b,many,t,rfl,_⟩:=h
  rfl
 ·obtain ⟨b,many,t,rfl,B,ht0,ht1,hm1,hm2,k⟩:=h
  refine ⟨_,#[#[dL 6 #[aw 5 #[[#[ac 4],#[bR 4 (@cA _)],#[G_l_take,hW,T.l_take_,#[[#[0,(eZ)],#[()]]]]]]] (@b7 _ (K) _ _ _ _ (3) rfl #[aq 5 #[lW 2 (2) _ eY.nd rfl (Or.inr iO) (by first | exact .inl rfl | exact .inr rfl | assumption)] #[aq 5 #[3,eY.nd,gI] #[aq 5 #[lW 2 (4) _ eY.nd rfl (Or.inr jL) (by first | exact .inl rfl | exact .inr rfl | assumption)] (@cq _) (by rfl)] (by rfl)] (by rfl)] (by rfl) (by rfl) (by rfl)) (by rfl) (by rfl) (by rfl)] :: #[#[5,eY.nd,jI,#[kc 7 #[bK 8 (@bu _) #[G_l_take,hW,T.l_take_,#[[#[0,(eZ)],#[()]]]] #[()] #[(),()]] #[lL 5 #[bK 8 (@fO _) #[1,(ik)] #[()] #[(),()]]]]] :: #[#[iI 8 PassesOwn.never rfl #[eU 6 iF T.b_range #[[#[1,(ik)]]] (by rfl)] #[6,eY.nd,mO] #[#[uy 7 (["_law_turn", "_law_box_here", "_law_letters"]) (1) ([0,2]) _ _ _ _ (7) _ _ _ eY.nd rfl kr (by kernel_rfl) rfl (by kernel_rfl) #[eU 6 iF T.b_range #[[#[G_l_take,hW,T.l_take_,#[[#[0,(eZ)],#[()]]]]]] (by rfl)] (fun _ _ _ _ _ _=>#[0,(),()]) (fun _ _ _ _ _ _=>@gh _) (fun _ _ _ _ _ _=>#[aK 7 (@qg _) #[2,0] #[G_l_take,(),T.l_take_,#[[#[1,0],#[()]]]] (fun _ _=>rfl)]) (by intro _;rfl)] :: #[aa 3 #[bj 4 (@bW _ (K) _ _ _ _ _ _ _ _ _ _ _ PySem.F.plainAttrs_list PySem.F.slot_list_append PySem.F.type_list_append (@bP _) #[3,gI] #[[#[aB 8 (@Aw _) #[aK 7 (@qg _) #[2,(iO)] #[aB 8 (@jm _) #[aB 8 (@cz _) #[4,(jL)] #[aB 8 (@gQ _) #[()] #[6,mO]]] #[()]] (fun _ _=>rfl)] (@bW _ (K) _ _ _ _ _ _ _ _ _ _ _ PySem.F.plainAttrs_str PySem.F.slot_str_join PySem.F.type_str_join (@AL _ (K) (by rfl)) #[ac 4] #[[#[7,kr]]] (by rfl) (by rfl) (by rfl) (by rfl) (by rfl) (by rfl))]]] (by rfl) (by rfl) (by rfl) (by rfl) (by rfl) (by rfl)) (by rfl)]]] (by intro _;rfl)] :: #[aa 3 #[am 4 #[di 8 #[cP 3 #[5,jI] (by intro _;rfl)] #[ic 7 (["_law_k", "_law_first", "_law_letters", "_law_many"]) (1) ([4,2,1]) _ _ _ _ rfl (by kernel_rfl) #[eU 6 iF T.b_range #[[#[1,(ik)]]] (by rfl)] (fun _ _ _ _ _ _=>#[0,(),()]) (fun _ _ _ _ _ _=>@gh _) (fun _ _ _ _ _ _=>#[aB 8 (@AS _) #[aK 7 (@qg _) #[2,0] #[1,0] (fun _ _=>rfl)] #[aB 8 (@ka _) #[3,0] #[0,()]]]) (by intro _;rfl)] #[3,gI]]]]]]],?_⟩
  have hz:(Str.ofString "abcdefghijklmnopqrstuvwxyz").length≤sizeLine:=by nofun
  refine bd fun D0 n0=>⟨(by show 0≤10000;decide),fun D H1 m1=>⟨(),b,26,t,rfl,B.same m1.sm,by decide,by decide,ht0,by trivial,fun f t2 H2 f0 f1 h2a h2b s2 B2=>⟨(by show 3≤10000;decide),fun q H3 m3=>⟨q,(),ah.of m3.at',rfl,_,(),_,(),_,(),rfl,n0 _ _ ?_⟩⟩⟩⟩
  have nDb:¬D=b:=fun z=>B.ne m1.fr z.symm
  have B3:=B2.same m3.sm
  have s03:ax (Eb b) H H3:=(m1.sm.toE.trans s2).trans m3.sm.toE
  have hD3:H3 D=some (.lst []):=m3.sm _ _ (s2.old _ _ nDb m1.at')
  refine fh fun Q4 n4=>⟨(),b,4,t2,rfl,B3,by decide,by decide,by trivial,by trivial,fun r t4 H4 r0 r1 h4a h4b s4 B4=>⟨rfl,(),?_⟩⟩
  have fin:∀al:Bool,Q4 (.bl al) H4:=fun al=>by
   refine n4 _ _ ?_
   have s04:=s03.trans s4
   refine bd fun D5 n5=>⟨(),(),by trivial,by trivial,jh (fun i σ H'=>mW fun v6 v7 ls t'=>σ=[some (.ref b),some (.int many),some (.str "abcdefghijklmnopqrstuvwxyz"),some (.ref D),some (.int f),some (.bl al),v6,v7]∧H' D=some (.lst ((ls:List (List Nat)).map bx))∧ls.length=i∧Bx H' b t'∧t4≤t'∧t'≤t4+10*i∧ax (Eb b) H H')
    ⟨_,_,[],t4,rfl,s4.old _ _ nDb hD3,rfl,B4,by trivial,by trivial,s04⟩ ?_ ?_⟩
   case refine_2=>
    rintro σ H' ⟨v6,v7,ls,t',rfl,e1,e2,B',h0,h1,s'⟩
    refine n5 _ _ ⟨(),(),?_⟩
    cases al with
    | false=>exact aP ⟨_,rfl,k D ls t' H' m1.fr s' e1 e2 B' (by trivial) (by trivial)⟩
    | true=>
     refine aZ ⟨(),(),by trivial,by trivial,fun D2 hD2=>?_⟩
     refine rk (n:=many.toNat) (fun i=>bx (List.replicate (many - (0+(i:Int))).toNat (97+(f % 26).toNat))) (by trivial) hD2 (fun i H' hi _=>hi) (fun H' _=>Nat.le_refl _) ?_ ?_
     ·rintro i x Ha Hb R hi sm ⟨rfl,rfl⟩ kk
      refine ⟨sO,(),(),_,_,(),rfl,hz,nj (by trivial) (by trivial),(),(),_,(),rfl,[97+(f % 26).toNat],(),rfl,by trivial,by trivial,(by show 1≤100;decide),?_⟩
      rw [EL]
      exact kk _ (ag.refl _)
     ·intro H5 s5 h5
      refine k D2 ((List.range many.toNat).map fun i=>List.replicate (many - (0+((i:Nat):Int))).toNat (97+(f % 26).toNat)) t' H5 (ax.free s' B' hD2) (s'.trans s5.toE) ?_ (by simp) (B'.same s5) (by trivial) (by trivial)
      rw [h5,List.map_map]
      rfl
   rintro i σ H' hi ⟨v6,v7,ls,t',rfl,e1,e2,B',h0,h1,s'⟩
   refine mC (t:=kP _ _) fun DB nB=>?_
   refine ⟨(),b,8,t',rfl,B',by decide,by decide,by trivial,by trivial,fun r6 t6 J3 r60 r61 _ _ j3 C3=>⟨(),by trivial,by trivial,fun D2 hD2=>fZ (n:=r6.toNat) (fun i H' ys=>bw fun (cs:List Nat) (t':Int)=>ys=cs.map (fun c=>bx [c])∧H' D2=some (.lst ys)∧cs.length=i∧Bx H' b t'∧t6≤t'∧t'≤t6+i∧ax (Eb b) J3 H') ?_ ?_ ?_ ?_ ?_ ?_ ?_⟩⟩
   ·rw [sizeLine_eq];trivial
   ·exact ⟨[],t6,rfl,au,rfl,C3.same (ag.new hD2),by trivial,by trivial,(ag.new hD2).toE⟩
   ·rintro i' H'' ys ⟨cs,t7,rfl,e,rfl,_⟩
    exact ⟨e,by simp⟩
   ·intro i' H'' ys hi' _
    exact hi'
   ·intro H'' ys _
    exact Nat.le_refl _
   ·have nD2:¬D2=b:=fun z=>C3.ne hD2 z.symm
    rintro i' Ha ys x Hb hi' ⟨cs,t7,rfl,g1,g2,g4,g5,g6,g7⟩ ⟨rfl,rfl⟩
    refine ⟨sO,(),(),b,26,t7,rfl,g4,by decide,by decide,by trivial,by trivial,fun r8 t8 Hc r80 r81 _ _ jc Cc=>⟨_,_,(),rfl,hz,nj (by trivial) (by trivial),?_⟩⟩
    have eD:=jc.old D2 _ nD2 g1
    refine ⟨eD,cs++[97+(r8 % 26).toNat],t8,by rw [List.map_append];rfl,au,by rw [List.length_append,g2];rfl,?_,by trivial,by trivial,(g7.trans jc).up hD2⟩
    have c':Ch Hc D2 (cs.map (fun c=>bx [c])++[bx [97+(r8 % 26).toNat]]) _:=Ch.mk'
    exact Cc.ch c' (Ne.symm nD2)
   rintro J4 ys ⟨cs,t7,rfl,g1,g2,C4,g5,g6,j4⟩
   have e14:J4 D=some (.lst (ls.map bx)):=j4.old D _ nDb (j3.old D _ nDb e1)
   refine ⟨(),.inl ⟨rfl,_,af.of e14⟩,(),(),(),_,(),rfl,.inl ⟨by decide,by decide⟩,_,(),rfl,_,(),rfl,(by show (0:Int)<26;decide),_,_,(),rfl,hz,nj (by trivial) (by trivial),rfl,(),D2,cs.map (fun c=>[c]),?_,rfl,af.of (by rw [g1,List.map_map];rfl),?_,?_⟩
   ·rw [show (Str.ofString "")=S [] from yk]
   ·rw [List.map_map]
    have:(cs.map ((fun l:List Nat=>l.length) ∘ fun c=>[c])).sum=cs.length:=by
     clear g1 g2 j4
     induction cs with
     | nil=>rfl
     | cons c r ih=>simp at ih ⊢;trivial
    rw [this];trivial
   have fl:(cs.map (fun c=>[c])).flatten=cs:=by
    clear g1 g2 j4
    induction cs with
    | nil=>rfl
    | cons c r ih=>rw [List.map_cons,List.flatten_cons,ih];rfl
   rw [fl]
   refine ⟨[97+(((f+11*(0+(i:Int))) % 26) % 26).toNat],cs,rfl,rfl,?_,D,_,(),rfl,e14,?_,fun J5 c5=>nB _ _ ?_⟩
   ·simp;trivial
   ·rw [List.length_map];trivial
   have hs5:ax (Eb b) H J5:=((s'.trans j3).trans j4).ch c5 m1.fr
   refine ⟨_,_,ls++[[97+(((f+11*(0+(i:Int))) % 26) % 26).toNat]++cs],t7,rfl,?_,?_,C4.ch c5 (Ne.symm nDb),by trivial,by trivial,hs5⟩
   ·rw [c5.at',List.map_append];rfl
   ·rw [List.length_append,e2];rfl
  by_cases c:r=0
  ·rw [decide_eq_true (show V.int r=V.int 0 by rw [c])]
   refine aZ ⟨(),_,(),rfl,fin _⟩
  ·rw [decide_eq_false (show ¬V.int r=V.int 0 from fun z=>c (by injection z))]
   exact aP (fin _)
end
end K39
namespace K39
open PySem L2
set_option maxHeartbeats 4000000
section
variable {P:Program}{w:World}{K:PySem.W.Frag}{mg:Str→Option Value}{base:Heap}
theorem tD (ns:List Int) (lo hi:Option Int):∃cs:List Int,fU (ns.map V.int) lo hi=cs.map V.int∧cs=(ns.drop (HT.sIx ns.length 0 lo)).take (HT.sIx ns.length ns.length hi - HT.sIx ns.length 0 lo):=by
 refine ⟨_,?_,rfl⟩
 unfold fU
 rw [List.length_map,List.map_take,List.map_drop]
inductive yw (K:PySem.W.Frag) (vs:List V) (H:Hp) (Q:VK):Prop
 | mk (a:Addr) (ns:List Int) (h0:vs=[.ref a,.int 4]) (h1:af K H a (ns.map V.int)) (h2:ns.length≤63) (h3:∀(l:Addr) (bs:List Addr) (H':Hp),ag H H'→H' l=some (.lst (bs.map V.ref))→bs.length≤4→bs.Nodup→(∀b∈bs,Bx H' b 0)→Q (.ref l) H')
def zQ (K:PySem.W.Frag):Sp:=fun vs H Q _=>yw K vs H Q
theorem yU (T:Txt K mg):aS P w K mg base CX0 2 T.l_boxes_.f T.l_boxes_.d ["_law_script", "_law_cap"] (zQ K):=by
 have G_l_box:=#[(CB)]
 refine T.l_boxes_.F.ok jV (fun vs H Q E h=>?_) (fun cdv A outer s H vs Q E hr h=>?_)
 ·obtain ⟨a,ns,rfl,_⟩:=h
  rfl
 ·obtain ⟨a,ns,rfl,hS,hn,kk⟩:=h
  refine ⟨_,#[#[nt 2 (2) _ _ _ _ jV.nd rfl (Or.inr eh) #[b9 9 (@cx _ (K) (by rfl)) qZ T.b_list (@bL) #[[#[cY 10 (@uu _ (K) (by rfl)) #[0,jn] (@eH _) #[dg 3 #[1,fQ]]]]] (by decide) (by decide) (by rfl) (by rfl)] (by rfl) (by first | exact .inl rfl | exact .inr rfl | assumption)] :: #[#[iI 8 PassesOwn.never rfl #[zu 8 ng T.b_enumerate #[[#[cY 10 (@uu _ (K) (by rfl)) #[0,jn] #[dg 3 #[1,fQ]] #[dg 3 #[()]]]]] (by rfl)] (@b7 _ (K) _ _ _ _ (2) rfl #[aq 5 #[3,jV.nd,g9] #[aq 5 #[4,jV.nd,kE] (@cq _) (by rfl)] (by rfl)] (by rfl) (by rfl) (by rfl)) #[aa 3 #[dL 6 #[aB 8 (@cz _) #[aK 7 (@Eu _ (K) (by rfl)) #[2,(eh)] #[aB 8 (@jm _) #[3,g9] #[1,fQ]] (fun _ _=>rfl)] #[aB 8 (@gQ _) #[4,kE] #[aB 8 (@cz _) #[3,g9] #[()]]]] #[lY 7 #[2,(eh)] #[aB 8 (@jm _) #[3,g9] #[1,fQ]] (@sd _) (by intro _;rfl)] (by rfl) (by rfl) (by rfl)]] (by intro _;rfl)] :: #[aa 3 #[am 4 #[ic 7 (["_law_k", "_law_found"]) (1) ([2]) _ _ _ _ rfl (by kernel_rfl) #[eU 6 qd T.b_range #[[#[(),(),(@w5 _ rfl),sv,T.b_max,(@vX),#[[#[()],#[(),(),(@dB _ (K) (by rfl)),sF,T.b_len,(@be),#[[#[2,(eh)]]]]]]]]] (by rfl)] (fun _ _ _ _ _ _=>#[0,(),()]) (fun _ _ _ _ _ _=>@gh _) (fun _ _ _ _ _ _=>#[G_l_box,(),T.l_box_,#[[#[1,0],#[0,()]]]]) (by intro _;rfl)]]]]],?_⟩
  obtain ⟨c1,e1,q1⟩:=tD ns none (some 4)
  obtain ⟨c2,e2,q2⟩:=tD ns (some 4) (some 63)
  have l1m:c1.length=min 4 ns.length:=by
   rw [q1,show (4:Int)=((4:Nat):Int) from rfl,HT.sIx_nat,HT.sIx_none,List.length_take,List.length_drop]
   trivial
  have l2m:c2.length≤ns.length - 4:=by
   rw [q2,show (4:Int)=((4:Nat):Int) from rfl,HT.sIx_nat,List.length_take,List.length_drop]
   trivial
  refine fh fun Q0 n0=>⟨(),(),(),a,(),hS,fun p1 H1 m1=>⟨p1,(),.inl (af.of m1.at'),fun p2 H2 m2=>n0 _ _ ?_⟩⟩
  rw [e1] at m1 m2
  have s2:=m1.sm.trans m2.sm
  have fp2:H p2=none:=m1.sm.free m2.fr
  refine bd fun D0 nD=>⟨(),(),(),(),a,(),s2.seq hS,fun p3 H3 m3=>⟨p3,rfl,⟨_,af.of m3.at'⟩,?_⟩⟩
  rw [e2] at m3
  have n23:p2≠p3:=fun z=>by have:=m2.at';rw [z,m3.fr] at this;cases this
  refine ⟨fun i m σ H'=>m=c2.length - i∧i≤c2.length∧iC fun (ms:List Int) (v3 v4:Option V)=>σ=[some (.ref a),some (.int 4),some (.ref p2),v3,v4]∧ms.length=c1.length∧H' p2=some (.lst (ms.map V.int))∧H' p3=some (.lst (c2.map V.int))∧(∀b o,b≠p2→H b=some o→H' b=some o),⟨(),Nat.zero_le _,c1,none,none,rfl,rfl,m3.sm _ _ m2.at',m3.at',fun b o _ h=>m3.sm _ _ (s2 b o h)⟩,?_⟩
  rintro i m σ H' ⟨rfl,hi,ms,v3,v4,rfl,hms,h2,h3,hk⟩
  by_cases hlt:i<c2.length
  ·refine .inr ⟨⟨c2.map V.int,V.int c2[i],af.of h3,by rw [List.getElem?_map];simp [hlt]⟩,_,fun σ' H'' z=>z,?_⟩
   rintro x H'' ⟨t,y,ht,rfl,rfl,hy⟩
   have hy':=hy _ (af.of h3)
   rw [List.getElem?_map,List.getElem?_eq_getElem hlt] at hy'
   obtain rfl:V.int c2[i]=y:=Option.some.inj hy'
   have nt2:p2≠t:=aF h2 ht
   have nt3:p3≠t:=aF h3 ht
   have hmod0:0≤(i:Int) % 4:=Int.emod_nonneg _ (by trivial)
   have hmod1:(i:Int) % 4<4:=Int.emod_lt_of_pos _ (by trivial)
   have hixlt:((i:Int) % 4).toNat<ms.length:=by trivial
   refine ⟨t,(),ah.of au,rfl,_,(),_,(),rfl,(),(),(),_,(),rfl,(by show (0:Int)<4;decide),.inl ⟨p2,ms.map V.int,_,V.int ms[((i:Int) % 4).toNat],rfl,rfl,af.of (by rw [ao nt2];exact h2),vk hmod0 hixlt,(),(),_,(),rfl,_,(),rfl,.inr ⟨by trivial,by trivial⟩,_,(),rfl,(),(),(),_,(),rfl,(by show (0:Int)<4;decide),p2,ms.map V.int,_,((i:Int) % 4).toNat,rfl,rfl,(by rw [ao nt2];exact h2),?_,fun H5 c5=>?_⟩⟩
   ·unfold kU
    rw [if_pos hmod0,List.length_map,if_pos (by trivial)]
   ·refine ⟨c2.length - (i+1),by trivial,rfl,hlt,ms.set ((i:Int) % 4).toNat (ms[((i:Int) % 4).toNat]+c2[i]*((i:Int)+2)),_,(),by rw [List.length_set];exact hms,by rw [c5.at',List.map_set],c5.ol _ _ (Ne.symm n23) (by rw [ao nt3];exact h3),fun b o hb h=>?_⟩
    have:=hk b o hb h
    exact c5.ol _ _ hb (by rw [ao (aF this ht)];exact this)
  ·refine .inl ⟨⟨_,af.of h3,by rw [List.length_map];trivial⟩,nD _ _ ?_⟩
   have sH:ag H H':=fun b o h=>hk b o (aF h fp2) h
   have hmx:0≤(if ((ms.map V.int).length:Int) > 2 then ((ms.map V.int).length:Int) else 2)∧(if ((ms.map V.int).length:Int) > 2 then ((ms.map V.int).length:Int) else 2)≤4:=by
    rw [List.length_map]
    split <;> trivial
   refine ⟨(),p2,(),.inl (af.of h2),_,(),(),by trivial,by trivial,?_⟩
   generalize (if ((ms.map V.int).length:Int) > 2 then ((ms.map V.int).length:Int) else 2)=mx at hmx
   intro D hD
   refine fZ (n:=mx.toNat) (fun i H6 ys=>∃bs:List Addr,ys=bs.map V.ref∧H6 D=some (.lst ys)∧bs.length=i∧bs.Nodup∧(∀b∈bs,Bx H6 b 0)∧ag H' H6) (gZ (by trivial)) ⟨[],rfl,au,rfl,List.nodup_nil,(fun b hb=>by cases hb),ag.new hD⟩ ?_ ?_ ?_ ?_ ?_
   ·rintro i H6 ys ⟨bs,rfl,e,rfl,_⟩
    exact ⟨e,by simp⟩
   ·intro i H6 ys hi _
    exact hi
   ·intro H6 ys _
    exact Nat.le_refl _
   ·rintro i H6 ys x H7 hi ⟨bs,rfl,e,lb,nb,bb,sm⟩ ⟨rfl,rfl⟩
    refine ⟨sO,(),(),p2,ms,(),af.of (sm _ _ h2),by trivial,by trivial,fun p H8 fp s8 Bp=>?_⟩
    have e8:=s8 _ _ e
    have nf:p∉bs:=fun h=>by
     obtain ⟨_,_,q,_⟩:=bb p h
     rw [fp] at q;cases q
    have nd:D≠p:=fun z=>by rw [z,fp] at e;cases e
    have bne:∀b∈bs,b≠D:=fun b h z=>by
     obtain ⟨_,_,q,_⟩:=bb b h
     rw [z,e] at q
     injection q with q
     injection q with q
     cases bs <;> cases q
    refine ⟨e8,bs++[p],by rw [List.map_append];rfl,au,by rw [List.length_append,lb];rfl,?_,fun b hb=>?_,fun b o h=>?_⟩
    ·rw [List.nodup_append]
     exact ⟨nb,by simp,fun u hu v hv z=>nf (by rw [List.mem_singleton.mp hv] at z;exact z▸hu)⟩
    ·have hbD:b≠D:=by
      rcases List.mem_append.mp hb with h | h
      ·exact bne b h
      ·rw [List.mem_singleton.mp h];exact Ne.symm nd
     have B8:Bx H8 b 0:=by
      rcases List.mem_append.mp hb with h | h
      ·exact (bb b h).same s8
      ·rw [List.mem_singleton.mp h];exact Bp
     exact B8.ch .mk' hbD
    ·rw [ao (fun z=>by rw [z,hD] at h;cases h)]
     exact s8 _ _ (sm _ _ h)
   ·rintro H6 ys ⟨bs,rfl,e,lb,nb,bb,sm⟩
    exact kk D bs H6 (sH.trans sm) e (by trivial) nb bb
end
end K39
namespace K39
open PySem L2
set_option maxHeartbeats 4000000
section
variable {P:Program}{w:World}{K:PySem.W.Frag}{mg:Str→Option Value}{base:Heap}
inductive Aq (vs:List V) (H:Hp) (Q:VK):Prop
 | mk (b nl:Addr) (many t:Int) (st:Bool) (ls:List (List Nat)) (h0:vs=[.ref b,.ref nl,.int many,.bl st]) (h1:Bx H b t) (h2:0≤t) (h3:t≤800000) (h4:H nl=some (.lst (ls.map bx))) (h5:nl≠b) (h6:1≤ls.length) (h7:ls.length≤100) (h8:0≤many) (h9:many≤10000) (h10:∀v D t' H',ax (Eb b) H H'→aD ED H' v (.tuple (ow D))→Bx H' b t'→t≤t'→t'≤t+20→Q v H')
def CK:Sp:=fun vs H Q _=>Aq  vs H Q
theorem vj {E:Addr→Prop}{H:Hp}{o:Addr}{z:KM.Fra} (h:H o=some (fr z)):aD E H (.ref o) (im z):=.tup h (.cons (.int _) (.cons (.int _) .nil))
theorem uU (T:Txt K mg):aS P w K mg base CX0 3 T.l_deed_.f T.l_deed_.d ["_law_box_here", "_law_names_here", "_law_many", "_law_settled"] CK:=by
 have G_l_take:=#[(iZ)]
 have G_l_much:=#[(AW)]
 have G_l_gain:=#[(zv)]
 have G_l_cost:=#[(AR)]
 refine T.l_deed_.F.ok iu (fun vs H Q E h=>?_) (fun cdv A outer s H vs Q E hr h=>?_)
 ·obtain ⟨b,nl,many,t,st,ls,rfl,_⟩:=h
  rfl
 ·obtain ⟨b,nl,many,t,st,ls,rfl,B,ht0,ht1,hnl,nnb,l1,l2,hm0,hm1,k⟩:=h
  refine ⟨_,#[#[4,iu.nd,bQ,#[G_l_take,dM,T.l_take_,#[[#[0,aX],#[di 8 #[cP 3 #[3,nq] (by intro _;rfl)] #[()] #[()]]]]]] :: #[#[kG 2 (5) (6) _ _ _ _ _ _ _ _ _ _ _ rfl iu.nd rfl rfl (by decide) gw ig #[[#[#[1,cV][#[G_l_take,dM,T.l_take_,#[[#[0,aX],#[(),(),(@dB _ (K) (by rfl)),nv,T.b_len,(@be),#[[#[1,cV]]]]]]]]!],#[#[1,cV][#[G_l_take,dM,T.l_take_,#[[#[0,aX],#[(),(),(@dB _ (K) (by rfl)),nv,T.b_len,(@be),#[[#[1,cV]]]]]]]]!]]] (by kernel_rfl) (by rfl)] :: #[#[kG 2 (7) (8) _ _ _ _ _ _ _ _ _ _ _ rfl iu.nd rfl rfl (by decide) cm kA #[[#[G_l_take,dM,T.l_take_,#[[#[0,aX],#[aB 8 (@cz _) #[2,qm] #[()]]]]],#[bK 8 (@bu _) #[G_l_take,dM,T.l_take_,#[[#[0,aX],#[()]]]] #[()] #[(),()]]]] (by kernel_rfl) (by rfl)] :: #[#[7,iu.nd,cm,#[di 8 #[cP 3 #[8,kA] (by intro _;rfl)] #[aB 8 (@ka _) #[jf 6 (@gX _) #[()]] #[7,cm]] #[7,cm]]] :: #[#[aL 8 #[ar 8 (@fO _) #[4,bQ] #[()] #[(),()]] #[aa 3 #[am 4 #[aw 5 #[[#[ac 4],#[5,gw]]]]]] (@az _)] :: #[#[aL 8 #[ar 8 (@fO _) #[4,bQ] #[()] #[(),()]] #[aa 3 #[am 4 #[aw 5 #[[#[ac 4],#[5,gw],#[6,ig],#[G_l_much,kT,T.l_much_,#[[#[0,aX]]]],#[G_l_gain,kX,T.l_gain_,#[[#[0,aX]]]],#[G_l_cost,kR,T.l_cost_,#[[#[0,aX]]]]]]]]] (@az _)] :: #[#[aL 8 #[ar 8 (@fO _) #[4,bQ] #[()] #[(),()]] #[aa 3 #[am 4 #[aw 5 #[[#[ac 4],#[5,gw],#[6,ig]]]]]] (@az _)] :: #[#[aL 8 #[ar 8 (@fO _) #[4,bQ] #[()] #[(),()]] #[#[9,iu.nd,kM,#[bR 4 #[[#[G_l_much,kT,T.l_much_,#[[#[0,aX]]]],#[G_l_gain,kX,T.l_gain_,#[[#[0,aX]]]],#[G_l_cost,kR,T.l_cost_,#[[#[0,aX]]]]]]]] :: #[aa 3 #[am 4 #[aw 5 #[[#[#[bR 4 #[[#[ac 4],#[ac 4],#[ac 4]]]][#[aB 8 (@ka _) #[4,bQ] #[()]]]!],#[7,cm],#[#[9,kM][#[aB 8 (@ka _) #[4,bQ] #[()]]]!]]]]]]] (@az _)] :: #[#[aL 8 #[ar 8 (@fO _) #[4,bQ] #[()] #[(),()]] #[aa 3 #[am 4 #[aw 5 #[[#[#[bR 4 #[[#[ac 4],#[ac 4],#[ac 4]]]][#[aB 8 (@ka _) #[4,bQ] #[()]]]!],#[7,cm]]]]]] (@az _)] :: #[aa 3 #[am 4 #[aw 5 #[[#[ac 4]]]]]]]]]]]]]]],?_⟩
  refine fh fun Q0 n0=>⟨(),(),(),?_⟩
  have gen:∀many':Int,9≤many'→many'≤16→xi [.ref b,.int many'] H Q0 E0:=fun many' g0 g1=>⟨b,many',t,rfl,B,by trivial,pI (by trivial) (by trivial),ht0,by trivial,fun wy t1 H1 w0 w1 h1a h1b s1 B1=>n0 _ _ ?_⟩
  ·cases st with
   | true=>exact aZ (gen 16 (by decide) (by decide))
   | false=>exact aP (gen 9 (by decide) (by decide))
  have hn1:=s1.old _ _ nnb hnl
  have el:((ls.map bx).length:Int)=ls.length:=by rw [List.length_map]
  refine fV fun Q2 n2=>⟨(),(),(),nl,(),.inl (af.of hn1),b,_,t1,rfl,B1,by trivial,pI (by trivial) (by trivial),by trivial,by trivial,fun r2 t2 H2 r20 r21 h2a h2b s2 B2=>?_⟩
  have hn2:=s2.old _ _ nnb hn1
  refine ⟨nl,_,_,(),rfl,af.of hn2,uQ r20 (by trivial),(),(),(),nl,(),.inl (af.of hn2),b,_,t2,rfl,B2,by trivial,pI (by trivial) (by trivial),by trivial,by trivial,fun r3 t3 H3 r30 r31 h3a h3b s3 B3=>⟨nl,_,_,(),rfl,af.of (s3.old _ _ nnb hn2),uQ r30 (by trivial),n2 _ _ _ ?_⟩⟩
  generalize ls[r2.toNat]=la
  generalize ls[r3.toNat]=lb
  refine fV fun Q4 n4=>⟨(),(),_,(),rfl,b,_,t3,rfl,B3,by trivial,pI (by trivial) (by trivial),by trivial,by trivial,fun r4 t4 H4 r40 r41 h4a h4b s4 B4=>⟨(),b,8,t4,rfl,B4,by decide,by decide,by trivial,by trivial,fun r5 t5 H5 r50 r51 h5a h5b s5 B5=>⟨rfl,n4 _ _ _ ?_⟩⟩⟩
  have s05:=(((s1.trans s2).trans s3).trans s4).trans s5
  refine fh fun Q6 n6=>⟨(),(),?_⟩
  have rest:∀num:Int,Q6 (.int num) H5:=fun num=>by
   refine n6 _ _ ?_
   refine cO fun D7 n7 e7=>⟨(),_,(),rfl,(),fH (fun c=>?_) fun c1=>n7 _ _ ?_⟩
   ·exact ⟨(),(by show 2≤10000;decide),fun p H6 m6=>e7 _ _ (k _ (.place la) t5 H6 (s05.trans m6.sm.toE) (.tup m6.at' (.cons (.str _) (.cons (.str _) .nil))) (B5.same m6.sm) (by trivial) (by trivial))⟩
   refine cO fun D8 n8 e8=>⟨(),_,(),rfl,(),fH (fun c=>?_) fun c2=>n8 _ _ ?_⟩
   ·refine ⟨(),(),(),b,t5,rfl,B5,by trivial,by trivial,fun o1 z1 u1 J1 j1 g1 C1 i1a i1b=>⟨(),b,u1,rfl,C1,by trivial,by trivial,fun o2 z2 u2 J2 j2 g2 C2 i2a i2b=>⟨(),b,u2,rfl,C2,by trivial,by trivial,fun o3 z3 u3 J3 j3 g3 C3 i3a i3b=>⟨(by show 6≤10000;decide),fun p J4 m4=>e8 _ _ ?_⟩⟩⟩⟩
    exact k _ (.tie ⟨la,lb,z1,z2,z3⟩) u3 J4 ((((s05.trans j1).trans j2).trans j3).trans m4.sm.toE) (.tup m4.at' (.cons (.str _) (.cons (.str _) (.cons (.str _) (.cons (vj (m4.sm _ _ (j3.tup _ _ (j2.tup _ _ g1)))) (.cons (vj (m4.sm _ _ (j3.tup _ _ g2))) (.cons (vj (m4.sm _ _ g3)) .nil))))))) (C3.same m4.sm) (by trivial) (by trivial)
   refine cO fun D9 n9 e9=>⟨(),_,(),rfl,(),fH (fun c=>?_) fun c3=>n9 _ _ ?_⟩
   ·exact ⟨(),(),(by show 3≤10000;decide),fun p H6 m6=>e9 _ _ (k _ (.ends la lb) t5 H6 (s05.trans m6.sm.toE) (.tup m6.at' (.cons (.str _) (.cons (.str _) (.cons (.str _) .nil)))) (B5.same m6.sm) (by trivial) (by trivial))⟩
   have w9:9≤wy:=by
    have:¬wy<9:=fun z=>c3 (decide_eq_true z)
    trivial
   refine cO fun Da na ea=>⟨(),_,(),rfl,(),fH (fun c=>?_) fun c4=>na _ _ ?_⟩
   ·have w12:wy<12:=of_decide_eq_true c
    refine fh fun Qb nb=>⟨(),b,t5,rfl,B5,by trivial,by trivial,fun o1 z1 u1 J1 j1 g1 C1 i1a i1b=>⟨(),b,u1,rfl,C1,by trivial,by trivial,fun o2 z2 u2 J2 j2 g2 C2 i2a i2b=>⟨(),b,u2,rfl,C2,by trivial,by trivial,fun o3 z3 u3 J3 j3 g3 C3 i3a i3b=>⟨(by show 3≤10000;decide),fun p J4 m4=>nb _ _ ?_⟩⟩⟩⟩
    have d1:aD ED J4 (.ref o1) (im z1):=vj (m4.sm _ _ (j3.tup _ _ (j2.tup _ _ g1)))
    have d2:aD ED J4 (.ref o2) (im z2):=vj (m4.sm _ _ (j3.tup _ _ g2))
    have d3:aD ED J4 (.ref o3) (im z3):=vj (m4.sm _ _ g3)
    have sJ:=(((s05.trans j1).trans j2).trans j3).trans m4.sm.toE
    obtain ⟨kk,zz,oo,ea1,ea2,dz⟩:iC fun (kk:iQ) (zz:KM.Fra) (oo:V)=>gT [V.str "set_most",V.str "set_gain",V.str "set_price"] (wy - 9)=some (.str kk.w)∧gT [V.ref o1,V.ref o2,V.ref o3] (wy - 9)=some oo∧aD ED J4 oo (im zz):=by
     obtain rfl | rfl | rfl:wy=9∨wy=10∨wy=11:=by trivial
     ·exact ⟨.m,z1,(),rfl,d1⟩
     ·exact ⟨.g,z2,(),rfl,d2⟩
     ·exact ⟨.p,z3,(),rfl,d3⟩
    refine ⟨(by show 3≤10000;decide),fun p5 J5 m5=>⟨(),_,(),rfl,p5,_,_,(),rfl,af.of m5.at',ea1,(),(),(),_,(),rfl,p,_,_,(),rfl,af.of (m5.sm _ _ m4.at'),ea2,(by show 3≤10000;decide),fun p6 J6 m6=>ea _ _ ?_⟩⟩
    exact k _ (.part kk num zz) u3 J6 ((sJ.trans m5.sm.toE).trans m6.sm.toE) (.tup m6.at' (.cons (.str _) (.cons (.int _) (.cons (dz.mono (m5.sm.trans m6.sm).toE) .nil)))) ((C3.same m4.sm).same (m5.sm.trans m6.sm)) (by trivial) (by trivial)
   have w12:12≤wy:=by
    have:¬wy<12:=fun z=>c4 (decide_eq_true z)
    trivial
   refine cO fun Dc nc ec=>⟨(),_,(),rfl,(),fH (fun c=>?_) fun c5=>nc _ _ ?_⟩
   ·have w15:wy<15:=of_decide_eq_true c
    obtain ⟨D,ea1,ed⟩:bw fun (D:dn) (wd:Str)=>gT [V.str "shut",V.str "reopen",V.str "shut"] (wy - 12)=some (.str wd)∧ow D=[.str wd,.int num]:=by
     obtain rfl | rfl | rfl:wy=12∨wy=13∨wy=14:=by trivial
     ·exact ⟨.shut num,(),rfl⟩
     ·exact ⟨.opn num,(),rfl⟩
     ·exact ⟨.shut num,(),rfl⟩
    obtain ⟨ea1,ed⟩:=ed
    refine ⟨(by show 3≤10000;decide),fun p5 J5 m5=>⟨(),_,(),rfl,p5,_,_,(),rfl,af.of m5.at',ea1,(),(by show 2≤10000;decide),fun p6 J6 m6=>ec _ _ ?_⟩⟩
    refine k _ D t5 J6 ((s05.trans m5.sm.toE).trans m6.sm.toE) (.tup m6.at' ?_) (B5.same (m5.sm.trans m6.sm)) (by trivial) (by trivial)
    rw [ed]
    exact .cons (.str _) (.cons (.int _) .nil)
   ·exact ⟨(by show 1≤10000;decide),fun p6 J6 m6=>k _ .back t5 J6 (s05.trans m6.sm.toE) (.tup m6.at' (.cons (.str _) .nil)) (B5.same m6.sm) (by trivial) (by trivial)⟩
  refine fH (fun c=>?_) fun c=>?_
  ·exact ⟨(),(),_,(),rfl,rest _⟩
  ·exact ⟨(),rest _⟩
end
end K39
namespace K39
open PySem L2
set_option maxHeartbeats 4000000
theorem aM {i:Nat}{x y:Str}{t u:TS}{D:cZ}{σ:St}{H:Hp} (hσ:σ[i]?=some (some (V.str x))) (hn:¬V.str x=V.str y) (h:u D σ H):kP (pQ (oY (rR wX (pX i) (tC (.str y)))) t vF) u D σ H:=by
 refine ⟨_,hσ,rfl,(),?_⟩
 rw [decide_eq_false hn]
 exact aP h
theorem gx {i:Nat}{x:Str}{t u:TS}{D:cZ}{σ:St}{H:Hp} (hσ:σ[i]?=some (some (V.str x))) (h:t { D with nx:=u D } σ H):kP (pQ (oY (rR wX (pX i) (tC (.str x)))) t vF) u D σ H:=by
 refine ⟨_,hσ,rfl,(),?_⟩
 rw [decide_eq_true rfl]
 exact aZ h
theorem uq {E:Addr→Prop}{H:Hp}{xs:List V}{d:PyData} (h:ay E H xs [d]):∃x,xs=[x]∧aD E H x d:=by
 cases h with
 | cons h r=>cases r;exact ⟨_,rfl,h⟩
theorem gK {E:Addr→Prop}{H:Hp}{xs:List V}{d e:PyData} (h:ay E H xs [d,e]):bw fun x y=>xs=[x,y]∧aD E H x d∧aD E H y e:=by
 cases h with
 | cons h r=>obtain ⟨y,rfl,q⟩:=uq r;exact ⟨_,_,rfl,h,q⟩
theorem kC {E:Addr→Prop}{H:Hp}{xs:List V}{d e f:PyData} (h:ay E H xs [d,e,f]):iC fun x y z=>xs=[x,y,z]∧aD E H x d∧aD E H y e∧aD E H z f:=by
 cases h with
 | cons h r=>obtain ⟨y,z,rfl,q⟩:=gK r;exact ⟨_,_,_,rfl,h,q⟩
theorem tI {E:Addr→Prop}{H:Hp}{xs:List V}{a b c d e f:PyData} (h:ay E H xs [a,b,c,d,e,f]):zh fun x1 x2 x3 x4 x5 x6=>xs=[x1,x2,x3,x4,x5,x6]∧aD E H x1 a∧aD E H x2 b∧aD E H x3 c∧aD E H x4 d∧aD E H x5 e∧aD E H x6 f:=by
 cases h with
 | cons h1 r=>
  cases r with
  | cons h2 r=>
   cases r with
   | cons h3 r=>obtain ⟨y,z,u,rfl,q⟩:=kC r;exact ⟨_,_,_,_,_,_,rfl,h1,h2,h3,q⟩
theorem aQ {E:Addr→Prop}{H:Hp}{v:V}{s:Str} (h:aD E H v (.str s)):v=.str s:=by cases h;rfl
theorem jT {E:Addr→Prop}{H:Hp}{v:V}{i:Int} (h:aD E H v (.int i)):v=.int i:=by cases h;rfl
section
variable {P:Program}{w:World}{K:PySem.W.Frag}{mg:Str→Option Value}{base:Heap}
inductive DD (C:Addr) (cl:RW→Addr) (vs:List V) (H:Hp) (Q:VK) (E:XK):Prop
 | mk (r L:Addr) (v:V) (D:dn) (past:List ai) (cur:ai) (h0:vs=[.ref r,v]) (h1:aD ED H v (.tuple (ow D))) (h2:aE C H r L (past++[cur])) (h3:fN 5000 past cur) (h4:je C cl r L past cur D H Q E)
def ER (C:Addr) (cl:RW→Addr):Sp:=fun vs H Q E=>DD C cl vs H Q E
theorem CN (T:Txt K mg):aS P w K mg base (gl P w) 4 T.l_do_.f T.l_do_.d ["_law_roads", "_law_deed_here"] (ER T.x_Roads (gp T)):=by
 have G_Roads__add_place:=#[(tO)]
 have G_Roads__add_tie:=#[(wg)]
 have G_Roads__set_ends:=#[(uE)]
 have G_Roads__set_most:=#[(uC)]
 have G_Roads__set_gain:=#[(ux)]
 have G_Roads__set_price:=#[(sZ)]
 have G_Roads__back:=#[(zT)]
 have G_Roads__shut:=#[(zR)]
 have G_Roads__reopen:=#[(xu)]
 refine T.l_do_.F.okX ve (fun vs H Q E h=>?_) (fun cdv A outer s H vs Q E hr h=>?_)
 ·obtain ⟨r,L,v,D,past,cur,rfl,_⟩:=h
  rfl
 ·obtain ⟨r,L,v,D,past,cur,rfl,hv,R,ok,k⟩:=h
  refine ⟨_,#[#[PS.nox 3 #[kG 2 (2) (3) _ _ _ _ _ _ _ _ _ _ _ rfl ve.nd rfl rfl (by decide) b4 aW #[[#[#[1,jl][#[()]]],#[cY 10 (@fw _ (K) (by rfl)) #[1,jl] #[dg 3 #[()]] (@eH _)]]] (by kernel_rfl) (by rfl)]] :: #[#[aL 8 #[ar 8 (@bu _) #[2,b4] #[ac 4] #[(),()]] #[aa 3 #[am 4 #[cR 20 #[0,bS] T.c_Roads T.h_Roads__add_place G_Roads__add_place (hr.mono (by decide)) T.B_Roads__add_place .nil #[dA 15] #[[#[#[3,aW][#[()]]]]] (by rfl) (by rfl) (by rfl)]]] (@az _)] :: #[#[aL 8 #[ar 8 (@bu _) #[2,b4] #[ac 4] #[(),()]] #[aa 3 #[am 4 #[cR 20 #[0,bS] T.c_Roads T.h_Roads__add_tie G_Roads__add_tie (hr.mono (by decide)) T.B_Roads__add_tie .nil #[dA 15] #[[#[#[3,aW][#[()]]],#[#[3,aW][#[()]]],#[#[3,aW][#[()]]],#[#[3,aW][#[()]]],#[#[3,aW][#[()]]]]] (by rfl) (by rfl) (by rfl)]]] (@az _)] :: #[#[aL 8 #[ar 8 (@bu _) #[2,b4] #[ac 4] #[(),()]] #[aa 3 #[am 4 #[cR 20 #[0,bS] T.c_Roads T.h_Roads__set_ends G_Roads__set_ends (hr.mono (by decide)) T.B_Roads__set_ends .nil #[dA 15] #[[#[#[3,aW][#[()]]],#[#[3,aW][#[()]]]]] (by rfl) (by rfl) (by rfl)]]] (@az _)] :: #[#[aL 8 #[ar 8 (@bu _) #[2,b4] #[ac 4] #[(),()]] #[aa 3 #[am 4 #[cR 20 #[0,bS] T.c_Roads T.h_Roads__set_most G_Roads__set_most (hr.mono (by decide)) T.B_Roads__set_most .nil #[dA 15] #[[#[#[3,aW][#[()]]],#[#[3,aW][#[()]]]]] (by rfl) (by rfl) (by rfl)]]] (@az _)] :: #[#[aL 8 #[ar 8 (@bu _) #[2,b4] #[ac 4] #[(),()]] #[aa 3 #[am 4 #[cR 20 #[0,bS] T.c_Roads T.h_Roads__set_gain G_Roads__set_gain (hr.mono (by decide)) T.B_Roads__set_gain .nil #[dA 15] #[[#[#[3,aW][#[()]]],#[#[3,aW][#[()]]]]] (by rfl) (by rfl) (by rfl)]]] (@az _)] :: #[#[aL 8 #[ar 8 (@bu _) #[2,b4] #[ac 4] #[(),()]] #[aa 3 #[am 4 #[cR 20 #[0,bS] T.c_Roads T.h_Roads__set_price G_Roads__set_price (hr.mono (by decide)) T.B_Roads__set_price .nil #[dA 15] #[[#[#[3,aW][#[()]]],#[#[3,aW][#[()]]]]] (by rfl) (by rfl) (by rfl)]]] (@az _)] :: #[#[PS.nox 3 #[aL 8 #[ar 8 (@bu _) #[2,b4] #[ac 4] #[(),()]] #[aa 3 #[am 4 #[iY 17 #[0,bS] T.c_Roads T.h_Roads__back G_Roads__back (hr.mono (by decide)) T.B_Roads__back .nil (@hR _) (by rfl)]]] (@az _)]] :: #[aa 3 #[am 4 #[di 8 #[ar 8 (@bu _) #[2,b4] #[ac 4] #[(),()]] #[cR 20 #[0,bS] T.c_Roads T.h_Roads__shut G_Roads__shut (hr.mono (by decide)) T.B_Roads__shut .nil #[dA 15] #[[#[#[3,aW][#[()]]]]] (by rfl) (by rfl) (by rfl)] #[cR 20 #[0,bS] T.c_Roads T.h_Roads__reopen G_Roads__reopen (hr.mono (by decide)) T.B_Roads__reopen .nil #[dA 15] #[[#[#[3,aW][#[()]]]]] (by rfl) (by rfl) (by rfl)]]]]]]]]]]]],?_⟩
  obtain ⟨a,xs,rfl,ha,ia⟩:=o7 hv
  obtain ⟨dx,_,_,hr0,_⟩:=R.last
  cases D with
  | place n=>
   obtain ⟨x,y,rfl,hx,hy⟩:=gK ia
   cases aQ hx
   cases aQ hy
   refine fV fun Q0 n0=>⟨(),a,_,_,(),rfl,ah.of ha,rfl,(),(),a,(),ah.of ha,ha,fun p1 H1 s1 h1=>n0 _ _ _ ?_⟩
   refine gx rfl ?_
   exact ⟨(),r,dx,(),s1 _ _ hr0,rfl,(),p1,_,_,(),rfl,ah.of h1,rfl,r,L,n,past,cur,rfl,R.sm s1,ok,k.ext s1⟩
  | tie t=>
   obtain ⟨x1,x2,x3,x4,x5,x6,rfl,hx1,hx2,hx3,hx4,hx5,hx6⟩:=tI ia
   cases aQ hx1
   cases aQ hx2
   cases aQ hx3
   refine fV fun Q0 n0=>⟨(),a,_,_,(),rfl,ah.of ha,rfl,(),(),a,(),ah.of ha,ha,fun p1 H1 s1 h1=>n0 _ _ _ ?_⟩
   refine aM rfl (by nofun) (gx rfl ?_)
   exact ⟨(),r,dx,(),s1 _ _ hr0,rfl,(),p1,_,_,(),rfl,ah.of h1,rfl,(),p1,_,_,(),rfl,ah.of h1,rfl,(),p1,_,_,(),rfl,ah.of h1,rfl,(),p1,_,_,(),rfl,ah.of h1,rfl,(),p1,_,_,(),rfl,ah.of h1,rfl,r,L,t,_,_,_,past,cur,rfl,hx4.mono s1.toE,hx5.mono s1.toE,hx6.mono s1.toE,R.sm s1,ok,k.ext s1⟩
  | ends b e=>
   obtain ⟨x1,x2,x3,rfl,hx1,hx2,hx3⟩:=kC ia
   cases aQ hx1
   cases aQ hx2
   cases aQ hx3
   refine fV fun Q0 n0=>⟨(),a,_,_,(),rfl,ah.of ha,rfl,(),(),a,(),ah.of ha,ha,fun p1 H1 s1 h1=>n0 _ _ _ ?_⟩
   refine aM rfl (by nofun) (aM rfl (by nofun) (gx rfl ?_))
   exact ⟨(),r,dx,(),s1 _ _ hr0,rfl,(),p1,_,_,(),rfl,ah.of h1,rfl,(),p1,_,_,(),rfl,ah.of h1,rfl,r,L,b,e,past,cur,rfl,R.sm s1,ok,k.ext s1⟩
  | part kk i x=>
   obtain ⟨x1,x2,x3,rfl,hx1,hx2,hx3⟩:=kC ia
   cases aQ hx1
   cases jT hx2
   refine fV fun Q0 n0=>⟨(),a,_,_,(),rfl,ah.of ha,rfl,(),(),a,(),ah.of ha,ha,fun p1 H1 s1 h1=>n0 _ _ _ ?_⟩
   cases kk with
   | m=>
    refine aM rfl (by nofun) (aM rfl (by nofun) (aM rfl (by nofun) (gx rfl ?_)))
    exact ⟨(),r,dx,(),s1 _ _ hr0,rfl,(),p1,_,_,(),rfl,ah.of h1,rfl,(),p1,_,_,(),rfl,ah.of h1,rfl,r,L,.m,i,x,x3,past,cur,rfl,(fun z q=>by cases q;rfl),hx3.mono s1.toE,R.sm s1,ok,k.ext s1⟩
   | g=>
    refine aM rfl (by nofun) (aM rfl (by nofun) (aM rfl (by nofun) (aM rfl (by nofun) (gx rfl ?_))))
    exact ⟨(),r,dx,(),s1 _ _ hr0,rfl,(),p1,_,_,(),rfl,ah.of h1,rfl,(),p1,_,_,(),rfl,ah.of h1,rfl,r,L,.g,i,x,x3,past,cur,rfl,(fun z q=>by cases q;rfl),hx3.mono s1.toE,R.sm s1,ok,k.ext s1⟩
   | p=>
    refine aM rfl (by nofun) (aM rfl (by nofun) (aM rfl (by nofun) (aM rfl (by nofun) (aM rfl (by nofun) (gx rfl ?_)))))
    exact ⟨(),r,dx,(),s1 _ _ hr0,rfl,(),p1,_,_,(),rfl,ah.of h1,rfl,(),p1,_,_,(),rfl,ah.of h1,rfl,r,L,.p,i,x,x3,past,cur,rfl,(fun z q=>by cases q;rfl),hx3.mono s1.toE,R.sm s1,ok,k.ext s1⟩
  | shut i=>
   obtain ⟨x1,x2,rfl,hx1,hx2⟩:=gK ia
   cases aQ hx1
   cases jT hx2
   refine fV fun Q0 n0=>⟨(),a,_,_,(),rfl,ah.of ha,rfl,(),(),a,(),ah.of ha,ha,fun p1 H1 s1 h1=>n0 _ _ _ ?_⟩
   refine aM rfl (by nofun) (aM rfl (by nofun) (aM rfl (by nofun) (aM rfl (by nofun) (aM rfl (by nofun) (aM rfl (by nofun) (aM rfl (by nofun) ?_))))))
   refine ⟨(),rfl,(),?_⟩
   rw [decide_eq_true rfl]
   exact aZ ⟨(),r,dx,(),s1 _ _ hr0,rfl,(),p1,_,_,(),rfl,ah.of h1,rfl,r,L,true,i,past,cur,rfl,(fun z q=>by cases q;rfl),R.sm s1,ok,k.ext s1⟩
  | opn i=>
   obtain ⟨x1,x2,rfl,hx1,hx2⟩:=gK ia
   cases aQ hx1
   cases jT hx2
   refine fV fun Q0 n0=>⟨(),a,_,_,(),rfl,ah.of ha,rfl,(),(),a,(),ah.of ha,ha,fun p1 H1 s1 h1=>n0 _ _ _ ?_⟩
   refine aM rfl (by nofun) (aM rfl (by nofun) (aM rfl (by nofun) (aM rfl (by nofun) (aM rfl (by nofun) (aM rfl (by nofun) (aM rfl (by nofun) ?_))))))
   refine ⟨(),rfl,(),?_⟩
   rw [decide_eq_false (by nofun)]
   exact aP ⟨(),r,dx,(),s1 _ _ hr0,rfl,(),p1,_,_,(),rfl,ah.of h1,rfl,r,L,false,i,past,cur,rfl,(fun z q=>by cases q;rfl),R.sm s1,ok,k.ext s1⟩
  | back=>
   obtain ⟨x1,rfl,hx1⟩:=uq ia
   cases aQ hx1
   refine fV fun Q0 n0=>⟨(),a,_,_,(),rfl,ah.of ha,rfl,(),(),a,(),ah.of ha,ha,fun p1 H1 s1 h1=>n0 _ _ _ ?_⟩
   refine aM rfl (by nofun) (aM rfl (by nofun) (aM rfl (by nofun) (aM rfl (by nofun) (aM rfl (by nofun) (aM rfl (by nofun) (gx rfl ?_))))))
   exact ⟨(),r,dx,(),s1 _ _ hr0,rfl,r,L,past,cur,rfl,R.sm s1,fun H2 s2 R2=>k.2 rfl _ _ (s1.toE.trans s2) R2 (.bl _)⟩
end
end K39
namespace K39
open PySem L2
set_option maxHeartbeats 4000000
section
variable {P:Program}{w:World}{K:PySem.W.Frag}{mg:Str→Option Value}{base:Heap}
def RW.ix:RW→Nat
 | .taken=>0
 | .noPlace=>1
 | .noTie=>2
 | .asItIs=>3
def tu (r:RW):List Bool:=(List.range 5).map fun i=>decide (RW.ix r=i)
abbrev wq (T:Txt K mg):List Addr:=[T.x_Taken,T.x_NoPlace,T.x_NoTie,T.x_AsItIs,T.x_NoEnds,T.x_Gaining,T.x_NotSoMuch]
theorem qq (T:Txt K mg) (r:RW):(wq T)[RW.ix r]?=some (gp T r):=by cases r <;> rfl
theorem kh (T:Txt K mg) (r:RW) {j:Nat}{d:Addr} (hj:(wq T)[j]?=some d):PySem.W.kitOne K (.ref (gp T r)) (.ref d)=some (decide (RW.ix r=j)):=by
 have kn:mn K (wq T) T.x_GainError=true:=T.kin
 rw [(tm kn (List.mem_of_getElem? (qq T r))).2.2.2 d (List.mem_of_getElem? hj)]
 congr 1
 rw [decide_eq_decide]
 constructor
 ·intro e
  obtain ⟨h1,e1⟩:=List.getElem?_eq_some_iff.mp (qq T r)
  obtain ⟨h2,e2⟩:=List.getElem?_eq_some_iff.mp hj
  exact nS (yi kn) h1 h2 (by rw [e1,e2,e])
 ·rintro rfl
  rw [qq T r] at hj
  exact Option.some.inj hj
theorem yo (T:Txt K mg) (r:RW):k6 K (gp T r)=true∧PySem.W.kitOne K (.ref (gp T r)) (.type "ValueError")=some true∧PySem.W.kitAny K (.ref (gp T r)) [.ref T.x_NoEnds,.ref T.x_NotSoMuch,.ref T.x_Gaining]=some false∧PySem.W.exmOne K (.ref (gp T r)) (.ref T.x_GainError)=some true:=by
 have kn:mn K (wq T) T.x_GainError=true:=T.kin
 obtain ⟨q1,_,q3,_⟩:=tm kn (List.mem_of_getElem? (qq T r))
 refine ⟨q1,q3,rX fun c hc=>?_,?_⟩
 ·have hc':c=.ref T.x_NoEnds∨c=.ref T.x_NotSoMuch∨c=.ref T.x_Gaining:=by simpa using hc
  rcases hc' with rfl | rfl | rfl
  ·rw [kh T r (j:=4) rfl];cases r <;> rfl
  ·rw [kh T r (j:=6) rfl];cases r <;> rfl
  ·rw [kh T r (j:=5) rfl];cases r <;> rfl
 ·cases r
  ·exact T.em_Taken_GainError
  ·exact T.em_NoPlace_GainError
  ·exact T.em_NoTie_GainError
  ·exact T.em_AsItIs_GainError
theorem AC (r:RW):((tu r).map PyData.bool).countP (fun z=>PyData.eqv z (.bool true))=1:=by cases r <;> rfl
theorem xN (r:RW):(tu r)[RW.ix r]?=some true∧∀m,m<RW.ix r→(tu r)[m]?≠some true:=by
 cases r
 ·exact ⟨rfl,fun m h=>by cases h⟩
 ·exact ⟨rfl, fun m h => by obtain rfl:m=0:=by have:m<1:=h;trivial
                            decide⟩
 ·exact ⟨rfl, fun m h => by obtain rfl | rfl:m=0∨m=1:=by have:m<2:=h;trivial
                            all_goals decide⟩
 ·exact ⟨rfl, fun m h => by obtain rfl | rfl | rfl:m=0∨m=1∨m=2:=by have:m<3:=h;trivial
                            all_goals decide⟩
theorem u5:∀(l:List Bool),∃n,jr (l.map PyData.bool) n 0
 | []=>⟨_,.nil⟩
 | b :: l=>let ⟨_,h⟩:=u5 l;⟨_,.cons (.bl b) h⟩
inductive zO (C:Addr) (vs:List V) (H:Hp) (Q:VK):Prop
 | mk (r L:Addr) (v:V) (D:dn) (past:List ai) (cur:ai) (h0:vs=[.ref r,v]) (h1:aD ED H v (.tuple (ow D))) (h2:aE C H r L (past++[cur])) (h3:fN 5000 past cur) (h4:∀u H',ax (Eb L) H H'→aE C H' r L (gg past cur D++[ii past cur D])→aD ED H' u (nW past cur D)→Q u H')
def Bg (C:Addr):Sp:=fun vs H Q _=>zO C vs H Q
theorem vi (T:Txt K mg):aS P w K mg base CX0 5 T.l_done_.f T.l_done_.d ["_law_roads", "_law_deed_here"] (Bg T.x_Roads):=by
 have G_l_do:=#[(CN)]
 refine T.l_done_.F.ok eV (fun vs H Q E h=>?_) (fun cdv A outer s H vs Q E hr h=>?_)
 ·obtain ⟨r,L,v,D,past,cur,rfl,_⟩:=h
  rfl
 ·obtain ⟨r,L,v,D,past,cur,rfl,hv,R,ok,k⟩:=h
  refine ⟨_,#[#[dL 6 #[aw 5 #[[#[kB 3],#[kB 3]]]] (@b7 _ (K) _ _ _ _ (2) rfl #[aq 5 #[2,eV.nd,bp] #[aq 5 #[3,eV.nd,ij] (@cq _) (by rfl)] (by rfl)] (by rfl) (by rfl) (by rfl)) (by rfl) (by rfl) (by rfl)] :: #[#[Ca 12 (4) rfl rfl eV.nd rfl lV om T.m_GainError (fun EE pn xe hx=>#[aa 3 #[3,eV.nd,ij,#[yj 14 G_l_do (hr.mono (by decide)) sj T.l_do_.m T.l_do_.F.kp T.l_do_.B hx #[[#[0,pY],#[1,mv]]] (by decide) (by rfl) (by rfl)]]]) (fun _=>#[aa 3 #[2,eV.nd,bp,#[4,lV]]]) (by decide)] :: #[#[aL 8 #[ar 8 (@xf _) #[2,bp] #[kB 3] #[(),()]] #[aa 3 #[am 4 #[aw 5 #[[#[ac 4],#[3,ij]]]]]] (@az _)] :: #[#[5,eV.nd,dy,#[bR 4 #[[#[(),(),(@fu _ (K) (by rfl)),bX,T.b_isinstance,(@aC),#[[#[2,bp],#[kj 4 qU T.m_Taken (by decide)]]]],#[(),(),(@fu _ (K) (by rfl)),bX,T.b_isinstance,(@aC),#[[#[2,bp],#[kj 4 pN T.m_NoPlace (by decide)]]]],#[(),(),(@fu _ (K) (by rfl)),bX,T.b_isinstance,(@aC),#[[#[2,bp],#[kj 4 qE T.m_NoTie (by decide)]]]]]]]] :: #[#[5,eV.nd,dy,#[aB 8 (@zy _) #[5,dy] #[bR 4 #[[#[(),(),(@fu _ (K) (by rfl)),bX,T.b_isinstance,(@aC),#[[#[2,bp],#[kj 4 qf T.m_AsItIs (by decide)]]]],#[(),(),(@qW _ (K) (by rfl)),bX,T.b_isinstance,(@aC),#[[#[2,bp],#[aw 5 #[[#[kj 4 qi T.m_NoEnds (by decide)],#[kj 4 og T.m_NotSoMuch (by decide)],#[kj 4 pO T.m_Gaining (by decide)]]]]]]]]]]]] :: #[#[aL 8 #[PW.pt 3 #[sU 7 #[ar 8 (@mi _) (@bW _ (K) _ _ _ _ _ _ _ _ _ _ _ PySem.F.plainAttrs_list PySem.F.slot_list_count PySem.F.type_list_count (@xG _ hr.units) #[5,dy] #[[#[cT 4]]] (by rfl) (by rfl) (by rfl) (by rfl) (by rfl) (by rfl)) #[()] #[(),()]] #[pZ 4 #[gY 4 #[cP 3 #[(),(),(@fu _ (K) (by rfl)),bX,T.b_isinstance,(@aC),#[[#[2,bp],#[gu 4 mX T.b_ValueError (@oK) (by decide) (by decide)]]]] (by intro _;rfl)]]]]] #[aa 3 #[am 4 #[aw 5 #[[#[ac 4],#[ac 4]]]]]] (@az _)] :: #[aa 3 #[am 4 #[aw 5 #[[#[ac 4],#[#[bR 4 #[[#[ac 4],#[ac 4],#[ac 4],#[ac 4],#[ac 4]]]][(@bW _ (K) _ _ _ _ _ _ _ _ _ _ _ PySem.F.plainAttrs_list PySem.F.slot_list_index PySem.F.type_list_index (@xM _) #[5,dy] #[[#[cT 4]]] (by rfl) (by rfl) (by rfl) (by rfl) (by rfl) (by rfl))]!]]]]]]]]]]]],?_⟩
  refine bd fun D0 n0=>⟨(by show 2≤10000;decide),fun t0 H0 m0=>⟨t0,(),ah.of m0.at',rfl,_,(),_,(),rfl,n0 _ _ ?_⟩⟩
  refine bd fun DA nA=>?_
  refine ⟨(),(),r,L,v,D,past,cur,rfl,hv.mono m0.sm.toE,R.sm m0.sm,ok,fun rw_ e H1 s1=>?_,fun e u H1 s1 R1 du=>nA _ _ ?_⟩
  ·intro a' C' eC ha'
   cases eC
   obtain ⟨q1,q2,q3,q4⟩:=yo T rw_
   refine ⟨q4,⟨(),nA _ _ ?_⟩⟩
   refine bd fun DB nB=>⟨(),rfl,(),aP (nB _ _ ?_)⟩
   refine fh fun Q3 n3=>⟨(),a',gp T rw_,_,_,(),ha',rfl,q1,kh T rw_ (j:=0) rfl,(),a',gp T rw_,_,_,(),ha',rfl,q1,kh T rw_ (j:=1) rfl,(),a',gp T rw_,_,_,(),ha',rfl,q1,kh T rw_ (j:=2) rfl,(by show 3≤10000;decide),fun l1 H2 m2=>n3 _ _ ?_⟩
   have ha2:=m2.sm _ _ ha'
   refine fh fun Q4 n4=>⟨(),(),a',gp T rw_,_,_,(),ha2,rfl,q1,kh T rw_ (j:=3) rfl,(),(by show 3≤10000;decide),fun tq H3 m3=>⟨a',gp T rw_,tq,_,[.ref T.x_NoEnds,.ref T.x_NotSoMuch,.ref T.x_Gaining],(),m3.sm _ _ ha2,m3.at',rfl,q1,q3,(by show 2≤10000;decide),fun l2 H4 m4=>⟨l1,l2,_,(),rfl,(m3.sm.trans m4.sm) _ _ m2.at',m4.at',(by show 3+2≤10000;decide),fun l3 H5 m5=>n4 _ _ ?_⟩⟩⟩
   have s25:=(m3.sm.trans m4.sm).trans m5.sm
   have h5:H5 l3=some (.lst ((tu rw_).map V.bl)):=by
    rw [m5.at']
    cases rw_ <;> rfl
   obtain ⟨wn,wt⟩:=u5 (tu rw_)
   refine bd fun DC nC=>⟨(),.inl ⟨rfl,_,af.of h5⟩,⟨l3,(),h5⟩,.bl true,.bool true,.list ((tu rw_).map .bool),ED,(fun _=>False),_,_,0,_,(),.bl _,.lst h5 (fun z=>z) (qP _),.bl _,.list wt,by decide,rfl,rfl,(),?_⟩
   rw [AC]
   refine aP ⟨(),a',gp T rw_,_,_,(),s25 _ _ ha2,rfl,q1,q2,(),aP (nC _ _ ?_)⟩
   refine ⟨(by show 5≤10000;decide),fun l4 H6 m6=>⟨(),.inl ⟨rfl,_,af.of (m6.sm _ _ h5)⟩,l3,tu rw_,true,RW.ix rw_,rfl,rfl,m6.sm _ _ h5,(by show 5≤10000;decide),(xN rw_).1,(xN rw_).2,l4,_,_,.str rw_.w,rfl,rfl,af.of m6.at',by cases rw_ <;> rfl,(by show 2≤10000;decide),fun p7 H7 m7=>?_⟩⟩
   obtain ⟨e1,e2,e3⟩:=qO (past:=past) e
   have sA:ag H H7:=((((m0.sm.trans s1).trans m2.sm).trans s25).trans m6.sm).trans m7.sm
   refine k _ _ sA.toE (by rw [e1,e2];exact R.sm sA) (by rw [e3];exact .tup m7.at' (.cons (.str _) (.cons (.str _) .nil)))
  ·refine cO fun DB nB eB=>⟨(),rfl,(),aZ ⟨(),(by show 2≤10000;decide),fun p2 H2 m2=>eB _ _ ?_⟩⟩
   have sA:ax (Eb L) H H2:=(m0.sm.toE.trans s1).trans m2.sm.toE
   exact k _ _ sA (R1.sm m2.sm) (by rw [tW e];exact .tup m2.at' (.cons (.str _) (.cons (du.mono m2.sm.toE) .nil)))
end
end K39
namespace K39
open PySem L2
set_option maxHeartbeats 4000000
section
variable {P:Program}{w:World}{K:PySem.W.Frag}{mg:Str→Option Value}{base:Heap}
def zG:Sp:=fun vs H Q _=>vs=[]∧∀d F H',ag H H'→em H' d F [] qA→(∀a∈F,H a=none)→Q (.ref d) H'
theorem yM (T:Txt K mg):aS P w K mg base CX0 1 T.l_begin_.f T.l_begin_.d [] zG:=by
 refine T.l_begin_.F.ok ww (fun vs H Q E h=>?_) (fun cdv A outer s H vs Q E hr h=>?_)
 ·obtain ⟨rfl,_⟩:=h
  rfl
 ·obtain ⟨rfl,k⟩:=h
  refine ⟨_,#[aa 3 #[am 4 #[me 5 #[cn 8 #[ac 4] #[bR 4 (@cA _)] #[cn 8 #[ac 4] #[bR 4 (@cA _)] #[cn 8 #[ac 4] #[bR 4 (@cA _)] #[cn 8 #[ac 4] #[kB 3] #[cn 8 #[ac 4] #[bR 4 (@cA _)] (@qr _)]]]]] (by rfl) (by rfl) (by exact fun z=>nomatch z) (by decide)]]],?_⟩
  intro d H0 m0
  refine ⟨.inr "places",rfl,(by show 0≤10000;decide),fun p H1 m1=>⟨.inr "ties",rfl,(by show 0≤10000;decide),fun t H2 m2=>⟨.inr "shut",rfl,(by show 0≤10000;decide),fun q H3 m3=>⟨.inr "ends",rfl,.inr "past",rfl,(by show 0≤10000;decide),fun z H4 m4=>?_⟩⟩⟩⟩
  have hd4:=m4.sm _ _ (m3.sm _ _ (m2.sm _ _ (m1.sm _ _ m0.at')))
  refine ⟨hd4,Ba (p:=p) (t:=t) (q:=q) (z:=z) (v:=.non),(by show 5≤15;decide),fun H5 c5=>?_⟩
  have s4:=(((m0.sm.trans m1.sm).trans m2.sm).trans m3.sm).trans m4.sm
  have ne0:∀{x o},H0 x=none→H4 x=some o→x≠d:=fun h _ e=>by rw [e,m0.at'] at h;cases h
  have fp:=m1.fr
  have ft:=m1.sm.free m2.fr
  have fq:=m1.sm.free (m2.sm.free m3.fr)
  have fz:=m1.sm.free (m2.sm.free (m3.sm.free m4.fr))
  have g0:∀{x},H0 x=none→H x=none:=fun h=>m0.sm.free h
  have nd0:∀{x},H0 x=none→x≠d:=fun h e=>by rw [e,m0.at'] at h;cases h
  have hp4:=m4.sm _ _ (m3.sm _ _ (m2.sm _ _ m1.at'))
  have ht4:=m4.sm _ _ (m3.sm _ _ m2.at')
  have hq4:=m4.sm _ _ m3.at'
  have tp:p≠t:=fun e=>by have:=m2.fr;rw [←e,m1.at'] at this;cases this
  have pq:p≠q:=fun e=>by have:=m3.fr;rw [←e,m2.sm _ _ m1.at'] at this;cases this
  have tq:t≠q:=fun e=>by have:=m3.fr;rw [←e,m2.at'] at this;cases this
  have pz:p≠z:=fun e=>by have:=m4.fr;rw [←e,m3.sm _ _ (m2.sm _ _ m1.at')] at this;cases this
  have tz:t≠z:=fun e=>by have:=m4.fr;rw [←e,m3.sm _ _ m2.at'] at this;cases this
  have qz:q≠z:=fun e=>by have:=m4.fr;rw [←e,m3.at'] at this;cases this
  refine k d (b5 d p t q z []) H5 (fun a o h=>c5.ol a o (fun e=>by have:=m0.fr;rw [←e,h] at this;cases this) (s4 _ _ h)) ⟨p,t,q,z,.non,[],⟨c5.at',⟨c5.ol _ _ (nd0 fp) hp4,⟨[],c5.ol _ _ (nd0 ft) ht4,.nil⟩,c5.ol _ _ (nd0 fq) hq4,.non⟩,c5.ol _ _ (nd0 fz) m4.at',.nil,?_⟩,rfl⟩ fun a ha=>?_
  ·simp only [b5,cE,List.nodup_cons,List.mem_cons,not_or,List.not_mem_nil,or_false]
   have:=nd0 fp
   have:=nd0 ft
   have:=nd0 fq
   have:=nd0 fz
   grind
  ·simp only [b5,cE,List.mem_cons,List.not_mem_nil,or_false] at ha
   rcases ha with rfl | rfl | rfl | rfl | rfl
   ·exact m0.fr
   ·exact g0 fz
   ·exact g0 fp
   ·exact g0 ft
   ·exact g0 fq
inductive xH (K:PySem.W.Frag) (vs:List V) (H:Hp) (Q:VK):Prop
 | mk (d p t q z:Addr) (v:V) (es:List eQ) (past:List ai) (cur:ai) (h0:vs=[.ref d]) (h1:bJ H d past cur p t q z v es) (h2:∀(e:eQ) H',ag H H'→H e.o=none→H e.p=none→H e.t=none→H e.q=none→[e.o,e.p,e.t,e.q].Nodup→H' e.o=some (.dK (sn e.p e.t e.q e.v))→lH H' e.p e.t e.q e.v cur→Q (.ref e.o) H')
def yt (K:PySem.W.Frag):Sp:=fun vs H Q _=>xH K vs H Q
theorem wF (T:Txt K mg):aS P w K mg base CX0 1 T.l_copied_.f T.l_copied_.d ["_law_own"] (yt K):=by
 refine T.l_copied_.F.ok pD (fun vs H Q E h=>?_) (fun cdv A outer s H vs Q E hr h=>?_)
 ·obtain ⟨d,p,t,q,z,v,es,past,cur,rfl,_⟩:=h
  rfl
 ·obtain ⟨d,p0,t0,q0,z0,v,es,past,cur,rfl,O,k⟩:=h
  refine ⟨_,#[aa 3 #[am 4 #[me 5 #[cn 8 #[ac 4] #[b9 9 (@cx _ (K) (by rfl)) cQ T.b_list (@bL) #[[#[aK 7 (@aJ _) #[0,bN] #[ac 4] (fun _ _=>rfl)]]] (by decide) (by decide) (by rfl) (by rfl)] #[cn 8 #[ac 4] #[b9 9 (@cx _ (K) (by rfl)) cQ T.b_list (@bL) #[[#[aK 7 (@aJ _) #[0,bN] #[ac 4] (fun _ _=>rfl)]]] (by decide) (by decide) (by rfl) (by rfl)] #[cn 8 #[ac 4] #[b9 9 (@cx _ (K) (by rfl)) cQ T.b_list (@bL) #[[#[aK 7 (@aJ _) #[0,bN] #[ac 4] (fun _ _=>rfl)]]] (by decide) (by decide) (by rfl) (by rfl)] #[cn 8 #[ac 4] #[aK 7 (@aJ _) #[0,bN] #[ac 4] (fun _ _=>rfl)] (@qr _)]]]] (by rfl) (by rfl) (by exact fun z=>nomatch z) (by decide)]]],?_⟩
  intro d1 H0 m0
  obtain ⟨xs,hx1,hx2⟩:=O.l.ht
  have hd0:=m0.sm _ _ O.hd
  refine ⟨.inr "places",rfl,(),d,_,.inr "places",(),rfl,hd0,vP,p0,(),.inl (af.of (m0.sm _ _ O.l.hp)),fun p H1 m1=>?_⟩
  have s1:=m0.sm.trans m1.sm
  refine ⟨.inr "ties",rfl,(),d,_,.inr "ties",(),rfl,s1 _ _ O.hd,vT,t0,(),.inl (af.of (s1 _ _ hx1)),fun t H2 m2=>?_⟩
  have s2:=s1.trans m2.sm
  refine ⟨.inr "shut",rfl,(),d,_,.inr "shut",(),rfl,s2 _ _ O.hd,vS,q0,(),.inl (af.of (s2 _ _ O.l.hq)),fun q H3 m3=>?_⟩
  have s3:=s2.trans m3.sm
  refine ⟨.inr "ends",rfl,(),d,_,.inr "ends",(),rfl,s3 _ _ O.hd,vE,?_⟩
  have hd4:=m3.sm _ _ (m2.sm _ _ (m1.sm _ _ m0.at'))
  refine ⟨hd4,zk (p:=p) (t:=t) (q:=q) (v:=v),(by show 4≤15;decide),fun H5 c5=>?_⟩
  have fp:=m1.fr
  have ft:=m1.sm.free m2.fr
  have fq:=m1.sm.free (m2.sm.free m3.fr)
  have g0:∀{x},H0 x=none→H x=none:=fun h=>m0.sm.free h
  have nd0:∀{x},H0 x=none→x≠d1:=fun h e=>by rw [e,m0.at'] at h;cases h
  have tp:p≠t:=fun e=>by have:=m2.fr;rw [←e,m1.at'] at this;cases this
  have pq:p≠q:=fun e=>by have:=m3.fr;rw [←e,m2.sm _ _ m1.at'] at this;cases this
  have tq:t≠q:=fun e=>by have:=m3.fr;rw [←e,m2.at'] at this;cases this
  have s5:ag H H5:=fun a o h=>c5.ol a o (fun e=>by have:=m0.fr;rw [←e,h] at this;cases this) (s3 _ _ h)
  refine k ⟨d1,p,t,q,v⟩ H5 s5 m0.fr (g0 fp) (g0 ft) (g0 fq) ?_ c5.at' ⟨c5.ol _ _ (nd0 fp) (m3.sm _ _ (m2.sm _ _ m1.at')),⟨xs,c5.ol _ _ (nd0 ft) (m3.sm _ _ m2.at'),hx2.mono s5.toE⟩,c5.ol _ _ (nd0 fq) m3.at',O.l.hv.mono s5.toE⟩
  simp only [List.nodup_cons,List.mem_cons,not_or,List.not_mem_nil,or_false]
  have:=nd0 fp
  have:=nd0 ft
  have:=nd0 fq
  grind
def Ex:Option RW→Str
 | none => ""
 | some r=>r.w
inductive Br (vs:List V) (H:Hp) (Q:VK):Prop
 | mk (d p t q z:Addr) (v u:V) (es:List eQ) (past:List ai) (cur:ai) (D:dn) (h0:vs=[.ref d,u]) (h1:bJ H d past cur p t q z v es) (h2:aD ED H u (.tuple (ow D))) (h3:∀H',ag H H'→Q (.str (Ex (bC cur D))) H')
def Db:Sp:=fun vs H Q _=>Br  vs H Q
theorem Fe {x:Str}{l:List Str}:rK (.str x) (l.map V.str)=decide (x∈l):=by
 unfold rK
 rw [List.any_map,Bool.eq_iff_iff,List.any_eq_true,decide_eq_true_iff]
 constructor
 ·rintro ⟨y,h1,h2⟩
  have h2':(y==x)=true:=h2
  rw [←eq_of_beq h2']
  exact h1
 ·exact fun h=>⟨x,h,by show (x==x)=true;simp⟩
theorem vO (T:Txt K mg):aS P w K mg base CX0 1 T.l_refused_.f T.l_refused_.d ["_law_own", "_law_deed_here"] Db:=by
 refine T.l_refused_.F.ok kf (fun vs H Q E h=>?_) (fun cdv A outer s H vs Q E hr h=>?_)
 ·obtain ⟨d,p,t,q,z,v,u,es,past,cur,D,rfl,_⟩:=h
  rfl
 ·obtain ⟨d,p,t,q,z,v,u,es,past,cur,D,rfl,O,hv,k⟩:=h
  refine ⟨_,#[#[kG 2 (2) (3) _ _ _ _ _ _ _ _ _ _ _ rfl kf.nd rfl rfl (by decide) cc bz #[[#[#[1,gD][#[()]]],#[cY 10 (@fw _ (K) (by rfl)) #[1,gD] #[dg 3 #[()]] (@eH _)]]] (by kernel_rfl) (by rfl)] :: #[#[aL 8 #[ar 8 (@bu _) #[2,cc] #[ac 4] #[(),()]] #[aa 3 #[am 4 #[di 8 #[ar 8 (@l8 _ (K) (by rfl)) #[#[3,bz][#[()]]] #[aK 7 (@aJ _) #[0,da] #[ac 4] (fun _ _=>rfl)] rfl] #[ac 4] #[ac 4]]]] (@az _)] :: #[#[aL 8 #[ar 8 (@l8 _ (K) (by rfl)) #[2,cc] #[aw 5 #[[#[ac 4],#[ac 4]]]] rfl] #[#[4,kf.nd,iU,#[kc 7 #[bK 8 (@l8 _ (K) (by rfl)) #[#[3,bz][#[()]]] #[aK 7 (@aJ _) #[0,da] #[ac 4] (fun _ _=>rfl)] rfl] #[kc 7 #[bK 8 (@l8 _ (K) (by rfl)) #[#[3,bz][#[()]]] #[aK 7 (@aJ _) #[0,da] #[ac 4] (fun _ _=>rfl)] rfl] #[lL 5 #[bK 8 (@mi _) #[#[3,bz][#[()]]] #[#[3,bz][#[()]]] #[(),()]]]]]] :: #[aa 3 #[am 4 #[di 8 #[cP 3 #[4,iU] (by intro _;rfl)] #[ac 4] #[ac 4]]]]] (@az _)] :: #[#[aL 8 #[PW.pt 3 #[xA 7 #[ar 8 (@mi _) #[2,cc] #[ac 4] #[(),()]] #[uL 4 #[gY 4 #[uk 12 (@y6 _) (@fO _) #[()] #[#[3,bz][#[()]]] #[(),(),(@dB _ (K) (by rfl)),qo,T.b_len,(@be),#[[#[aK 7 (@aJ _) #[0,da] #[ac 4] (fun _ _=>rfl)]]]] (by with_unfolding_all rfl)]]]]] #[aa 3 #[am 4 #[ac 4]]] (@az _)] :: #[#[aL 8 #[PW.pt 3 #[xA 7 #[ar 8 (@l8 _ (K) (by rfl)) #[2,cc] #[aw 5 #[[#[ac 4],#[ac 4]]]] rfl] #[uL 4 #[ar 8 (@bu _) #[bK 8 (@l8 _ (K) (by rfl)) #[#[3,bz][#[()]]] #[aK 7 (@aJ _) #[0,da] #[ac 4] (fun _ _=>rfl)] rfl] #[bK 8 (@bu _) #[2,cc] #[ac 4] #[(),()]] #[(),()]]]]] #[aa 3 #[am 4 #[ac 4]]] (@az _)] :: #[aa 3 #[am 4 #[ac 4]]]]]]]],?_⟩
  obtain ⟨a,xs,rfl,ha,ia⟩:=o7 hv
  obtain ⟨ys,hty,htd⟩:=O.l.ht
  have ly:=htd.length
  rw [List.length_map] at ly
  have in2:∀{x y z:Str}{J:Hp}{tp:Addr},J tp=some (.tup [.str y,.str z])→∀{Q:VK},Q (.bl (decide (x∈[y,z]))) J→tF K false (.str x) (.ref tp) J Q:=fun {x y z J tp} h {Q} q=>⟨tp,(),.inr (ah.of h),rfl,rfl,by simp only [if_false,Bool.false_eq_true];rw [show [V.str y,V.str z]=[y,z].map V.str from rfl,Fe];exact q⟩
  have inP:∀{J:Hp},ag H J→∀(n:List Nat) {Q:VK},Q (.bl (decide (n∈cur.pl))) J→tF K false (bx n) (.ref p) J Q:=fun {J} s n {Q} q=>⟨p,(),.inl (af.of (s _ _ O.l.hp)),rfl,sT _,by simp only [if_false,Bool.false_eq_true];rw [zq];exact q⟩
  have inQ:∀{J:Hp},ag H J→∀(i:Int) {Q:VK},Q (.bl (decide (i∈cur.sh))) J→tF K false (.int i) (.ref q) J Q:=fun {J} s i {Q} w=>⟨q,(),.inl (af.of (s _ _ O.l.hq)),rfl,vW _,by simp only [if_false,Bool.false_eq_true];rw [CL];exact w⟩
  cases D with
  | place n=>
   obtain ⟨x,y,rfl,hx,hy⟩:=gK ia
   cases aQ hx
   cases aQ hy
   refine fV fun Q0 n0=>⟨(),a,_,_,(),rfl,ah.of ha,rfl,(),(),a,(),ah.of ha,ha,fun p1 H1 s1 h1=>n0 _ _ _ ?_⟩
   refine gx rfl ⟨(),p1,_,_,(),rfl,ah.of h1,rfl,(),d,_,.inr "places",(),rfl,s1 _ _ O.hd,vP,inP s1 n ⟨(),?_⟩⟩
   have kk:=k H1 s1
   by_cases c:n∈cur.pl
   ·rw [show bC cur (.place n)=some .taken from if_pos c] at kk
    rw [decide_eq_true c]
    exact aZ kk
   ·rw [show bC cur (.place n)=none from if_neg c] at kk
    rw [decide_eq_false c]
    exact aP kk
  | tie tt=>
   obtain ⟨x1,x2,x3,x4,x5,x6,rfl,hx1,hx2,hx3,hx4,hx5,hx6⟩:=tI ia
   cases aQ hx1
   cases aQ hx2
   cases aQ hx3
   refine fV fun Q0 n0=>⟨(),a,_,_,(),rfl,ah.of ha,rfl,(),(),a,(),ah.of ha,ha,fun p1 H1 s1 h1=>n0 _ _ _ ?_⟩
   refine aM rfl (by nofun) (cO fun D1 n1 e1=>⟨(),(by show 2≤10000;decide),fun p2 H2 m2=>in2 m2.at' ⟨(),?_⟩⟩)
   rw [decide_eq_true (by nofun)]
   have s2:=s1.trans m2.sm
   have h2:=m2.sm _ _ h1
   have kk:=k H2 s2
   refine aZ (fh fun Q3 n3=>⟨(),p1,_,_,(),rfl,ah.of h2,rfl,(),d,_,.inr "places",(),rfl,s2 _ _ O.hd,vP,inP s2 tt.bg ⟨(),?_⟩⟩)
   have fin:∀b:Bool,b=decide (two cur tt.bg tt.en)→Q3 (.bl b) H2:=fun b eb=>by
    refine n3 _ _ ⟨(),(),?_⟩
    by_cases c:two cur tt.bg tt.en
    ·rw [show bC cur (.tie tt)=none from if_pos c] at kk
     rw [eb,decide_eq_true c]
     exact aZ (e1 _ _ kk)
    ·rw [show bC cur (.tie tt)=some .noPlace from if_neg c] at kk
     rw [eb,decide_eq_false c]
     exact aP (e1 _ _ kk)
   by_cases c1:tt.bg∈cur.pl
   ·rw [decide_eq_true c1]
    refine aZ ⟨(),p1,_,_,(),rfl,ah.of h2,rfl,(),d,_,.inr "places",(),rfl,s2 _ _ O.hd,vP,inP s2 tt.en ⟨(),?_⟩⟩
    by_cases c2:tt.en∈cur.pl
    ·rw [decide_eq_true c2]
     refine aZ ⟨(),p1,_,_,(),rfl,ah.of h2,rfl,(),p1,_,_,(),rfl,ah.of h2,rfl,rfl,fin _ ?_⟩
     rw [Bool.eq_iff_iff,decide_eq_true_iff]
     unfold two
     simp only [c1,c2,true_and,Bool.not_eq_true',decide_eq_false_iff_not,zt,ne_eq]
    ·rw [decide_eq_false c2]
     exact aP (fin _ (decide_eq_false fun z=>c2 z.2.1).symm)
   ·rw [decide_eq_false c1]
    exact aP (fin _ (decide_eq_false fun z=>c1 z.1).symm)
  | ends bb ee=>
   obtain ⟨x1,x2,x3,rfl,hx1,hx2,hx3⟩:=kC ia
   cases aQ hx1
   cases aQ hx2
   cases aQ hx3
   refine fV fun Q0 n0=>⟨(),a,_,_,(),rfl,ah.of ha,rfl,(),(),a,(),ah.of ha,ha,fun p1 H1 s1 h1=>n0 _ _ _ ?_⟩
   refine aM rfl (by nofun) (cO fun D1 n1 e1=>⟨(),(by show 2≤10000;decide),fun p2 H2 m2=>in2 m2.at' ⟨(),?_⟩⟩)
   rw [decide_eq_true (by nofun)]
   have s2:=s1.trans m2.sm
   have h2:=m2.sm _ _ h1
   have kk:=k H2 s2
   refine aZ (fh fun Q3 n3=>⟨(),p1,_,_,(),rfl,ah.of h2,rfl,(),d,_,.inr "places",(),rfl,s2 _ _ O.hd,vP,inP s2 bb ⟨(),?_⟩⟩)
   have fin:∀b:Bool,b=decide (two cur bb ee)→Q3 (.bl b) H2:=fun b eb=>by
    refine n3 _ _ ⟨(),(),?_⟩
    by_cases c:two cur bb ee
    ·rw [show bC cur (.ends bb ee)=none from if_pos c] at kk
     rw [eb,decide_eq_true c]
     exact aZ (e1 _ _ kk)
    ·rw [show bC cur (.ends bb ee)=some .noPlace from if_neg c] at kk
     rw [eb,decide_eq_false c]
     exact aP (e1 _ _ kk)
   by_cases c1:bb∈cur.pl
   ·rw [decide_eq_true c1]
    refine aZ ⟨(),p1,_,_,(),rfl,ah.of h2,rfl,(),d,_,.inr "places",(),rfl,s2 _ _ O.hd,vP,inP s2 ee ⟨(),?_⟩⟩
    by_cases c2:ee∈cur.pl
    ·rw [decide_eq_true c2]
     refine aZ ⟨(),p1,_,_,(),rfl,ah.of h2,rfl,(),p1,_,_,(),rfl,ah.of h2,rfl,rfl,fin _ ?_⟩
     rw [Bool.eq_iff_iff,decide_eq_true_iff]
     unfold two
     simp only [c1,c2,true_and,Bool.not_eq_true',decide_eq_false_iff_not,zt,ne_eq]
    ·rw [decide_eq_false c2]
     exact aP (fin _ (decide_eq_false fun z=>c2 z.2.1).symm)
   ·rw [decide_eq_false c1]
    exact aP (fin _ (decide_eq_false fun z=>c1 z.1).symm)
  | part kk i x=>
   obtain ⟨x1,x2,x3,rfl,hx1,hx2',hx3⟩:=kC ia
   cases aQ hx1
   cases jT hx2'
   refine fV fun Q0 n0=>⟨(),a,_,_,(),rfl,ah.of ha,rfl,(),(),a,(),ah.of ha,ha,fun p1 H1 s1 h1=>n0 _ _ _ ?_⟩
   refine aM rfl (by cases kk <;> decide +kernel) (cO fun D1 n1 e1=>⟨(),(by show 2≤10000;decide),fun p2 H2 m2=>in2 m2.at' ⟨(),?_⟩⟩)
   rw [decide_eq_false (by cases kk <;> decide +kernel)]
   have s2:=s1.trans m2.sm
   have h2:=m2.sm _ _ h1
   refine aP (n1 _ _ (cO fun D3 n3 e3=>⟨(),rfl,(),?_⟩))
   rw [decide_eq_false (by cases kk <;> decide +kernel)]
   refine aZ ⟨(),p1,_,_,(),rfl,ah.of h2,rfl,_,(),rfl,(),?_⟩
   have kk2:=k H2 s2
   by_cases c0:0≤i
   ·rw [decide_eq_true c0]
    refine aZ ⟨(),d,_,.inr "ties",(),rfl,s2 _ _ O.hd,vT,t,(),.inl (af.of (s2 _ _ hty)),_,(),rfl,(),?_⟩
    by_cases c1:i<(ys.length:Int)
    ·rw [decide_eq_true c1]
     have hs:has cur i:=⟨c0,by rw [←ly];exact c1⟩
     refine aP (n3 _ _ (cO fun D4 n4 e4=>⟨(),(by show 2≤10000;decide),fun p3 H3 m3=>in2 m3.at' ⟨(),?_⟩⟩))
     have s3:=s2.trans m3.sm
     have kk3:=k H3 s3
     have h3:=m3.sm _ _ h2
     rw [decide_eq_false (by cases kk <;> decide +kernel)]
     rw [show bC cur (.part kk i x)=none from if_pos hs] at kk3
     exact aP (n4 _ _ kk3)
    ·rw [decide_eq_false c1]
     rw [show bC cur (.part kk i x)=some .noTie from if_neg fun z=>c1 (by rw [ly];exact z.2)] at kk2
     exact aZ (e3 _ _ kk2)
   ·rw [decide_eq_false c0]
    rw [show bC cur (.part kk i x)=some .noTie from if_neg fun z=>c0 z.1] at kk2
    exact aP ⟨(),aZ (e3 _ _ kk2)⟩
  | shut i=>
   obtain ⟨x1,x2,rfl,hx1,hx2'⟩:=gK ia
   cases aQ hx1
   cases jT hx2'
   refine fV fun Q0 n0=>⟨(),a,_,_,(),rfl,ah.of ha,rfl,(),(),a,(),ah.of ha,ha,fun p1 H1 s1 h1=>n0 _ _ _ ?_⟩
   refine aM rfl (by nofun) (cO fun D1 n1 e1=>⟨(),(by show 2≤10000;decide),fun p2 H2 m2=>in2 m2.at' ⟨(),?_⟩⟩)
   rw [decide_eq_false (by nofun)]
   have s2:=s1.trans m2.sm
   have h2:=m2.sm _ _ h1
   refine aP (n1 _ _ (cO fun D3 n3 e3=>⟨(),rfl,(),?_⟩))
   rw [decide_eq_false (by nofun)]
   refine aZ ⟨(),p1,_,_,(),rfl,ah.of h2,rfl,_,(),rfl,(),?_⟩
   have kk2:=k H2 s2
   by_cases c0:0≤i
   ·rw [decide_eq_true c0]
    refine aZ ⟨(),d,_,.inr "ties",(),rfl,s2 _ _ O.hd,vT,t,(),.inl (af.of (s2 _ _ hty)),_,(),rfl,(),?_⟩
    by_cases c1:i<(ys.length:Int)
    ·rw [decide_eq_true c1]
     have hs:has cur i:=⟨c0,by rw [←ly];exact c1⟩
     refine aP (n3 _ _ (cO fun D4 n4 e4=>⟨(),(by show 2≤10000;decide),fun p3 H3 m3=>in2 m3.at' ⟨(),?_⟩⟩))
     have s3:=s2.trans m3.sm
     have kk3:=k H3 s3
     have h3:=m3.sm _ _ h2
     rw [decide_eq_true (by nofun)]
     refine aZ ⟨(),p1,_,_,(),rfl,ah.of h3,rfl,(),d,_,.inr "shut",(),rfl,s3 _ _ O.hd,vS,inQ s3 i ⟨(),rfl,rfl,(),?_⟩⟩
     by_cases c:i∈cur.sh
     ·rw [show bC cur (.shut i)=some .asItIs from (if_pos hs).trans (if_pos c)] at kk3
      rw [decide_eq_true c,decide_eq_true (rfl:V.str (Str.ofString "shut")=V.str (Str.ofString "shut"))]
      exact aZ (e4 _ _ kk3)
     ·rw [show bC cur (.shut i)=none from (if_pos hs).trans (if_neg c)] at kk3
      rw [decide_eq_false c,decide_eq_true (rfl:V.str (Str.ofString "shut")=V.str (Str.ofString "shut"))]
      exact aP (n4 _ _ kk3)
    ·rw [decide_eq_false c1]
     rw [show bC cur (.shut i)=some .noTie from if_neg fun z=>c1 (by rw [ly];exact z.2)] at kk2
     exact aZ (e3 _ _ kk2)
   ·rw [decide_eq_false c0]
    rw [show bC cur (.shut i)=some .noTie from if_neg fun z=>c0 z.1] at kk2
    exact aP ⟨(),aZ (e3 _ _ kk2)⟩
  | opn i=>
   obtain ⟨x1,x2,rfl,hx1,hx2'⟩:=gK ia
   cases aQ hx1
   cases jT hx2'
   refine fV fun Q0 n0=>⟨(),a,_,_,(),rfl,ah.of ha,rfl,(),(),a,(),ah.of ha,ha,fun p1 H1 s1 h1=>n0 _ _ _ ?_⟩
   refine aM rfl (by nofun) (cO fun D1 n1 e1=>⟨(),(by show 2≤10000;decide),fun p2 H2 m2=>in2 m2.at' ⟨(),?_⟩⟩)
   rw [decide_eq_false (by nofun)]
   have s2:=s1.trans m2.sm
   have h2:=m2.sm _ _ h1
   refine aP (n1 _ _ (cO fun D3 n3 e3=>⟨(),rfl,(),?_⟩))
   rw [decide_eq_false (by nofun)]
   refine aZ ⟨(),p1,_,_,(),rfl,ah.of h2,rfl,_,(),rfl,(),?_⟩
   have kk2:=k H2 s2
   by_cases c0:0≤i
   ·rw [decide_eq_true c0]
    refine aZ ⟨(),d,_,.inr "ties",(),rfl,s2 _ _ O.hd,vT,t,(),.inl (af.of (s2 _ _ hty)),_,(),rfl,(),?_⟩
    by_cases c1:i<(ys.length:Int)
    ·rw [decide_eq_true c1]
     have hs:has cur i:=⟨c0,by rw [←ly];exact c1⟩
     refine aP (n3 _ _ (cO fun D4 n4 e4=>⟨(),(by show 2≤10000;decide),fun p3 H3 m3=>in2 m3.at' ⟨(),?_⟩⟩))
     have s3:=s2.trans m3.sm
     have kk3:=k H3 s3
     have h3:=m3.sm _ _ h2
     rw [decide_eq_true (by nofun)]
     refine aZ ⟨(),p1,_,_,(),rfl,ah.of h3,rfl,(),d,_,.inr "shut",(),rfl,s3 _ _ O.hd,vS,inQ s3 i ⟨(),rfl,rfl,(),?_⟩⟩
     by_cases c:i∈cur.sh
     ·rw [show bC cur (.opn i)=none from (if_pos hs).trans (if_pos c)] at kk3
      rw [decide_eq_true c,decide_eq_false (show ¬V.str (Str.ofString "reopen")=V.str (Str.ofString "shut") by nofun)]
      exact aP (n4 _ _ kk3)
     ·rw [show bC cur (.opn i)=some .asItIs from (if_pos hs).trans (if_neg c)] at kk3
      rw [decide_eq_false c,decide_eq_false (show ¬V.str (Str.ofString "reopen")=V.str (Str.ofString "shut") by nofun)]
      exact aZ (e4 _ _ kk3)
    ·rw [decide_eq_false c1]
     rw [show bC cur (.opn i)=some .noTie from if_neg fun z=>c1 (by rw [ly];exact z.2)] at kk2
     exact aZ (e3 _ _ kk2)
   ·rw [decide_eq_false c0]
    rw [show bC cur (.opn i)=some .noTie from if_neg fun z=>c0 z.1] at kk2
    exact aP ⟨(),aZ (e3 _ _ kk2)⟩
  | back=>
   obtain ⟨x1,rfl,hx1⟩:=uq ia
   cases aQ hx1
   refine fV fun Q0 n0=>⟨(),a,_,_,(),rfl,ah.of ha,rfl,(),(),a,(),ah.of ha,ha,fun p1 H1 s1 h1=>n0 _ _ _ ?_⟩
   refine aM rfl (by nofun) (cO fun D1 n1 e1=>⟨(),(by show 2≤10000;decide),fun p2 H2 m2=>in2 m2.at' ⟨(),?_⟩⟩)
   rw [decide_eq_false (by nofun)]
   have s2:=s1.trans m2.sm
   refine aP (n1 _ _ (cO fun D3 n3 e3=>⟨(),rfl,(),?_⟩))
   rw [decide_eq_true rfl]
   refine aP (n3 _ _ (cO fun D4 n4 e4=>⟨(),(by show 2≤10000;decide),fun p3 H3 m3=>in2 m3.at' ⟨(),?_⟩⟩))
   rw [decide_eq_false (by nofun)]
   exact aP (n4 _ _ (k H3 (s2.trans m3.sm)))
end
end K39
namespace K39
open PySem L2
set_option maxHeartbeats 8000000
theorem wL {α:Type}{x:α}{xs:List α}:gT (x :: xs) 0=some x:=by simp [gT,kU]
theorem dk {i:Nat}{x y:Str}{t u:TS}{D:cZ}{σ:St}{H:Hp} (hσ:σ[i]?=some (some (V.str x))) (hn:¬V.str x=V.str y) (h:u D σ H):pQ (oY (rR wX (pX i) (tC (.str y)))) t u D σ H:=by
 refine ⟨_,hσ,rfl,(),?_⟩
 rw [decide_eq_false hn]
 exact aP h
theorem lC {i:Nat}{x:Str}{t u:TS}{D:cZ}{σ:St}{H:Hp} (hσ:σ[i]?=some (some (V.str x))) (h:t D σ H):pQ (oY (rR wX (pX i) (tC (.str x)))) t u D σ H:=by
 refine ⟨_,hσ,rfl,(),?_⟩
 rw [decide_eq_true rfl]
 exact aZ h
theorem tP:∀{l:List Int}{j:Nat}{a:Int},l.Nodup→l[j]?=some a→l.eraseIdx j=l.erase a
 | [],_,_,_,h=>by simp at h
 | b :: l,0,a,_,h=>by
  simp at h
  subst h
  simp
 | b :: l,j+1,a,nd,h=>by
  rw [List.nodup_cons] at nd
  have h':l[j]?=some a:=by simpa using h
  have ne:b≠a:=fun z=>nd.1 (z▸List.mem_of_getElem? h')
  rw [List.eraseIdx_cons_succ,List.erase_cons_tail (by simpa using ne),tP nd.2 h']
theorem xt {F:List Addr}{H H':Hp}{p:Addr}{xs ys:List V} (c:Ch H p xs H') (hp:H p=some (.lst ys)) (hF:p∈F):ax (·∈F) H H':=⟨fun a o n h=>c.ol a o (fun z=>n (z▸hF)) h,fun a us h=>c.tup h hp⟩
theorem Ej (r:RW):¬V.str r.w=V.str "" := by cases r <;> decide +kernel
theorem EW {k:iQ}:valD [(.inr "set_most",.int 2),(.inr "set_gain",.int 3),(.inr "set_price",.int 4)] (.inr k.w)=some (V.int (k.at:Int)):=by
 have k1:¬(Sum.inr ("set_most" : Str):aV)=.inr "set_gain" := by nofun
 have k2:¬(Sum.inr ("set_most" : Str):aV)=.inr "set_price" := by nofun
 have k3:¬(Sum.inr ("set_gain" : Str):aV)=.inr "set_price" := by nofun
 cases k
 ·exact cX
 ·exact (bn k1).trans cX
 ·exact (bn k2).trans ((bn k3).trans cX)
section
variable {P:Program}{w:World}{K:PySem.W.Frag}{mg:Str→Option Value}{base:Heap}
inductive AA (vs:List V) (H:Hp) (Q:VK):Prop
 | mk (d:Addr) (v:V) (D:dn) (F:List Addr) (past:List ai) (cur:ai) (h0:vs=[.ref d,v]) (h1:em H d F past cur) (h2:aD ED H v (.tuple (ow D))) (h3:fN 5000 past cur) (h4:∀u H' F',ax (·∈F) H H'→em H' d F' (gg past cur D) (ii past cur D)→(∀a∈F',a∈F∨H a=none)→aD ED H' u (nW past cur D)→Q u H')
def Cj:Sp:=fun vs H Q _=>AA  vs H Q
theorem u7 (T:Txt K mg):aS P w K mg base CX0 2 T.l_step_.f T.l_step_.d ["_law_own", "_law_deed_here"] Cj:=by
 have G_l_refused:=#[(vO)]
 have G_l_copied:=#[(wF)]
 refine T.l_step_.F.ok nn (fun vs H Q E h=>?_) (fun cdv A outer s H vs Q E hr h=>?_)
 ·obtain ⟨d,v,D,F,past,cur,rfl,_⟩:=h
  rfl
 ·obtain ⟨d,v,D,F,past,cur,rfl,O,hv,ok,k⟩:=h
  refine ⟨_,#[#[uP 2 (2) (3) (4) _ _ _ _ _ _ _ _ _ _ _ _ _ _ rfl nn.nd rfl rfl rfl (by decide) (by decide) (by decide) bV bH dH #[[#[#[1,fi][#[()]]],#[cY 10 (@fw _ (K) (by rfl)) #[1,fi] #[dg 3 #[()]] (@eH _)],#[G_l_refused,nM,T.l_refused_,#[[#[0,ba],#[1,fi]]]]]] (by kernel_rfl) (by rfl)] :: #[#[aL 8 #[ar 8 (@mi _) #[4,dH] #[ac 4] #[(),()]] #[aa 3 #[am 4 #[aw 5 #[[#[ac 4],#[4,dH]]]]]] (@az _)] :: #[#[aL 8 #[ar 8 (@bu _) #[2,bV] #[ac 4] #[(),()]] #[#[aL 8 #[ar 8 (@yD _ hr.units) #[aK 7 (@aJ _) #[0,ba] #[ac 4] (fun _ _=>rfl)] #[bR 4 (@cA _)] #[(),()]] #[aa 3 #[am 4 #[aw 5 #[[#[ac 4],#[cT 4]]]]]] (@az _)] :: #[#[bj 4 (@bW _ (K) _ _ _ _ _ _ _ _ _ _ _ PySem.F.plainAttrs_dict PySem.F.slot_dict_update PySem.F.type_dict_update (@xE _) #[0,ba] #[[#[xm 9 PySem.F.plainAttrs_list PySem.F.slot_list_pop PySem.F.type_list_pop (@uX _) #[aK 7 (@aJ _) #[0,ba] #[ac 4] (fun _ _=>rfl)] (by rfl) (by rfl)]]] (by rfl) (by rfl) (by rfl) (by rfl) (by rfl) (by rfl)) (by rfl)] :: #[aa 3 #[am 4 #[aw 5 #[[#[ac 4],#[cT 4]]]]]]]] (@az _)] :: #[#[bj 4 (@bW _ (K) _ _ _ _ _ _ _ _ _ _ _ PySem.F.plainAttrs_list PySem.F.slot_list_append PySem.F.type_list_append (@bP _) #[aK 7 (@aJ _) #[0,ba] #[ac 4] (fun _ _=>rfl)] #[[#[G_l_copied,o9,T.l_copied_,#[[#[0,ba]]]]]] (by rfl) (by rfl) (by rfl) (by rfl) (by rfl) (by rfl)) (by rfl)] :: #[#[aL 8 #[ar 8 (@bu _) #[2,bV] #[ac 4] #[(),()]] #[aa 3 #[bj 4 (@bW _ (K) _ _ _ _ _ _ _ _ _ _ _ PySem.F.plainAttrs_list PySem.F.slot_list_append PySem.F.type_list_append (@bP _) #[aK 7 (@aJ _) #[0,ba] #[ac 4] (fun _ _=>rfl)] #[[#[#[3,bH][#[()]]]]] (by rfl) (by rfl) (by rfl) (by rfl) (by rfl) (by rfl)) (by rfl)]] #[aa 3 #[aL 8 #[ar 8 (@bu _) #[2,bV] #[ac 4] #[(),()]] #[#[bj 4 (@bW _ (K) _ _ _ _ _ _ _ _ _ _ _ PySem.F.plainAttrs_list PySem.F.slot_list_append PySem.F.type_list_append (@bP _) #[aK 7 (@aJ _) #[0,ba] #[ac 4] (fun _ _=>rfl)] #[[#[3,bH]]] (by rfl) (by rfl) (by rfl) (by rfl) (by rfl) (by rfl)) (by rfl)] :: #[aa 3 #[am 4 #[aw 5 #[[#[ac 4],#[aB 8 (@ka _) #[(),(),(@dB _ (K) (by rfl)),ul,T.b_len,(@be),#[[#[aK 7 (@aJ _) #[0,ba] #[ac 4] (fun _ _=>rfl)]]]] #[()]]]]]]]] #[aa 3 #[aL 8 #[ar 8 (@bu _) #[2,bV] #[ac 4] #[(),()]] #[aa 3 #[dL 6 #[3,bH] #[lY 7 #[0,ba] #[ac 4] (@td _) (by intro _;rfl)] (by rfl) (by rfl) (by rfl)]] #[aa 3 #[aL 8 #[ar 8 (@bu _) #[2,bV] #[ac 4] #[(),()]] #[aa 3 #[bj 4 (@bW _ (K) _ _ _ _ _ _ _ _ _ _ _ PySem.F.plainAttrs_list PySem.F.slot_list_append PySem.F.type_list_append (@bP _) #[aK 7 (@aJ _) #[0,ba] #[ac 4] (fun _ _=>rfl)] #[[#[#[3,bH][#[()]]]]] (by rfl) (by rfl) (by rfl) (by rfl) (by rfl) (by rfl)) (by rfl)]] #[aa 3 #[aL 8 #[ar 8 (@bu _) #[2,bV] #[ac 4] #[(),()]] #[aa 3 #[bj 4 (@bW _ (K) _ _ _ _ _ _ _ _ _ _ _ PySem.F.plainAttrs_list PySem.F.slot_list_remove PySem.F.type_list_remove (@vB _) #[aK 7 (@aJ _) #[0,ba] #[ac 4] (fun _ _=>rfl)] #[[#[#[3,bH][#[()]]]]] (by rfl) (by rfl) (by rfl) (by rfl) (by rfl) (by rfl)) (by rfl)]] #[#[kG 2 (5) (6) _ _ _ _ _ _ _ _ _ _ _ rfl nn.nd rfl rfl (by decide) jz i5 #[[#[aK 7 (@aJ _) #[me 5 #[cn 8 #[ac 4] #[()] #[cn 8 #[ac 4] #[()] #[cn 8 #[ac 4] #[()] (@qr _)]]] (by rfl) (by rfl) (by exact fun z=>nomatch z) (by decide)] #[2,bV] (fun _ _=>rfl)],#[#[aK 7 (@aJ _) #[0,ba] #[ac 4] (fun _ _=>rfl)][#[#[3,bH][#[()]]]]!]]] (by kernel_rfl) (by rfl)] :: #[aa 3 #[dL 6 #[aB 8 (@fe _) #[aB 8 (@fe _) #[cY 10 (@fw _ (K) (by rfl)) #[6,i5] (@eH _) #[dg 3 #[5,jz]]] #[cY 10 (@fw _ (K) (by rfl)) #[3,bH] #[dg 3 #[()]] (@eH _)]] #[cY 10 (@fw _ (K) (by rfl)) #[6,i5] #[dg 3 #[aB 8 (@cz _) #[5,jz] #[()]]] (@eH _)]] #[lY 7 #[aK 7 (@aJ _) #[0,ba] #[ac 4] (fun _ _=>rfl)] #[#[3,bH][#[()]]] (@sd _) (by intro _;rfl)] (by rfl) (by rfl) (by rfl)]]]]]]]]]]]] :: #[aa 3 #[am 4 #[aw 5 #[[#[ac 4],#[kB 3]]]]]]]]]]],?_⟩
  obtain ⟨p,t,q,z,v0,es,O,rfl⟩:=O
  obtain ⟨a,xs,rfl,ha,ia⟩:=o7 hv
  have okl:=ok.lp
  have le:=O.hs.len
  cases rw_:bC cur D with
  | some rr=>
   obtain ⟨e1,e2,e3⟩:=qO (past:=past) rw_
   have hd0:bw fun x0 xr=>xs=x0 :: xr:=by
    have l1:=ia.length
    have l2:1≤(ow D).length:=by cases D <;> exact Nat.le_add_left 1 _
    cases xs with
    | nil=>rw [←l1] at l2;cases l2
    | cons x xr=>exact ⟨_,_,rfl⟩
   obtain ⟨x0,xr,rfl⟩:=hd0
   refine bd fun D0 n0=>⟨(),a,_,_,(),rfl,ah.of ha,wL,(),(),a,(),ah.of ha,ha,fun p1 H1 s1 h1=>⟨(),(),d,p,t,q,z,v0,_,es,past,cur,D,rfl,O.keep (fun a _ o h=>s1 a o h) s1.tp,hv.mono s1.toE,fun H2 s2=>⟨_,_,(),n0 _ _ ?_⟩⟩⟩
   rw [rw_]
   refine cO fun D1 n1 r1=>⟨(),rfl,(),?_⟩
   show if (!decide (V.str rr.w=V.str ""))=true then _ else _
   rw [decide_eq_false (Ej rr)]
   refine aZ ⟨(),(by show 2≤10000;decide),fun p3 H3 m3=>r1 _ _ ?_⟩
   have sA:=(s1.trans s2).trans m3.sm
   exact k _ _ _ sA.toE (by rw [e1,e2];exact ⟨p,t,q,z,v0,es,O.keep (fun a _ o h=>sA a o h) sA.tp,rfl⟩) (fun a ha=>.inl ha) (by rw [e3];exact .tup m3.at' (.cons (.str _) (.cons (.str _) .nil)))
  | none=>
   have kt:=k
   rw [tW rw_] at kt
   by_cases nb:D=.back
   ·subst nb
    obtain ⟨x1,rfl,hx1⟩:=uq ia
    cases aQ hx1
    refine bd fun D0 n0=>⟨(),a,_,_,(),rfl,ah.of ha,rfl,(),(),a,(),ah.of ha,ha,fun p1 H1 s1 h1=>⟨(),(),d,p,t,q,z,v0,_,es,past,cur,.back,rfl,O.keep (fun a _ o h=>s1 a o h) s1.tp,hv.mono s1.toE,fun H2 s2=>⟨_,_,(),n0 _ _ ?_⟩⟩⟩
    rw [rw_]
    refine bd fun D1 n1=>⟨(),rfl,(),?_⟩
    show if (!decide (V.str "" = V.str ""))=true then _ else _
    rw [decide_eq_true rfl]
    refine aP (n1 _ _ (gx rfl ?_))
    have s02:=s1.trans s2
    have O2:=O.keep (fun a _ o h=>s02 a o h) s02.tp
    rcases jU past with rfl | ⟨pp,ss,rfl⟩
    ·have e0:es=[]:=List.eq_nil_of_length_eq_zero le
     subst e0
     refine cO fun D2 n2 r2=>⟨(),d,_,.inr "past",(),rfl,O2.hd,vA,(by show 0≤10000;decide),fun p3 H3 m3=>⟨z,p3,(),rfl,m3.sm _ _ O2.hz,m3.at',(),?_⟩⟩
     refine aZ ⟨(by show 2≤10000;decide),fun p4 H4 m4=>r2 _ _ ?_⟩
     have sA:=(s02.trans m3.sm).trans m4.sm
     exact kt _ _ _ sA.toE ⟨p,t,q,z,v0,[],O.keep (fun a _ o h=>sA a o h) sA.tp,rfl⟩ (fun a ha=>.inl ha) (.tup m4.at' (.cons (.str _) (.cons (.bl _) .nil)))
    ·obtain ⟨fs,e,rfl,hf,ho,hl⟩:=O2.hs.unsnoc
     refine cO fun D2 n2 r2=>⟨(),d,_,.inr "past",(),rfl,O2.hd,vA,(by show 0≤10000;decide),fun p3 H3 m3=>⟨z,p3,(),rfl,m3.sm _ _ O2.hz,m3.at',(),?_⟩⟩
     have ne:((fs++[e]).map fun e=>V.ref e.o).isEmpty=false:=by cases fs <;> rfl
     rw [ne]
     refine aP (n2 _ _ ?_)
     have O3:=O2.keep (fun a _ o h=>m3.sm a o h) m3.sm.tp
     have hf3:=hf.keep (fun a _ o h=>m3.sm a o h) m3.sm.tp
     have hl3:=hl.keep (fun a o _ h=>m3.sm a o h) m3.sm.tp
     have hz3:=O3.hz
     rw [List.map_append] at hz3
     have no:d≠e.o:=by
      have:=O3.nd
      simp only [b5,fg,cE,List.append_nil,List.nodup_cons,List.mem_cons,not_or,List.nodup_append,List.mem_append,List.not_mem_nil,or_false] at this
      grind
     have zo:e.o≠z:=fun w=>by rw [←w,m3.sm _ _ ho] at hz3;cases hz3
     have dz:d≠z:=fun w=>by have:=O3.hd;rw [w,hz3] at this;cases this
     refine bd fun D4 n4=>⟨(),.inr (.inr (.inl ⟨rfl,.inl ⟨_,O3.hd⟩⟩)),(),d,_,.inr "past",(),rfl,O3.hd,vA,.inl ⟨rfl,_,af.of O3.hz⟩,z,_,(),rfl,hz3,fun H4 c4=>⟨d,e.o,_,(),rfl,no,c4.ol _ _ dz O3.hd,c4.ol _ _ zo (m3.sm _ _ ho),(by show 5+4≤4000;decide),fun H5 c5=>n4 _ _ ⟨(by show 2≤10000;decide),fun p6 H6 m6=>?_⟩⟩⟩
     rw [Ai] at c5
     obtain ⟨O5,sE,sub⟩:=bJ.pop O3 hf3 hl3 c4 c5
     have sA:=s02.trans m3.sm
     refine kt _ _ _ ((sA.toE.trans sE).trans m6.sm.toE) (by rw [gk.1,gk.2];exact ⟨e.p,e.t,e.q,z,e.v,fs,O5.keep (fun a _ o h=>m6.sm a o h) m6.sm.tp,rfl⟩) (fun a ha=>.inl (sub a ha)) ?_
     have:(!(pp++[ss]).isEmpty)=true:=by cases pp <;> rfl
     refine .tup m6.at' (.cons (.str _) (.cons ?_ .nil))
     show aD ED H6 (.bl true) (.bool (!(pp++[ss]).isEmpty))
     rw [this]
     exact .bl _
   ·obtain ⟨ea1,ea2⟩:=mr (past:=past) rw_ nb
    rw [ea1,ea2] at kt
    have hd0:bw fun x0 xr=>xs=.str x0 :: xr∧¬V.str x0=V.str "back" := by
     cases D with
     | back=>exact absurd rfl nb
     | place n=>obtain ⟨x,y,rfl,hx,_⟩:=gK ia;cases aQ hx;exact ⟨_,_,rfl,by nofun⟩
     | tie tt=>obtain ⟨x1,x2,x3,x4,x5,x6,rfl,hx,_⟩:=tI ia;cases aQ hx;exact ⟨_,_,rfl,by nofun⟩
     | ends b e=>obtain ⟨x1,x2,x3,rfl,hx,_⟩:=kC ia;cases aQ hx;exact ⟨_,_,rfl,by nofun⟩
     | part kk i x=>obtain ⟨x1,x2,x3,rfl,hx,_⟩:=kC ia;cases aQ hx;exact ⟨_,_,rfl,by cases kk <;> decide +kernel⟩
     | shut i=>obtain ⟨x,y,rfl,hx,_⟩:=gK ia;cases aQ hx;exact ⟨_,_,rfl,by nofun⟩
     | opn i=>obtain ⟨x,y,rfl,hx,_⟩:=gK ia;cases aQ hx;exact ⟨_,_,rfl,by nofun⟩
    obtain ⟨w0,xr,rfl,nw⟩:=hd0
    refine bd fun D0 n0=>⟨(),a,_,_,(),rfl,ah.of ha,wL,(),(),a,(),ah.of ha,ha,fun p1 H1 s1 h1=>⟨(),(),d,p,t,q,z,v0,_,es,past,cur,D,rfl,O.keep (fun a _ o h=>s1 a o h) s1.tp,hv.mono s1.toE,fun H2 s2=>⟨_,_,(),n0 _ _ ?_⟩⟩⟩
    rw [show fU (.str w0 :: xr) (some 1) none=xr from xl (.str w0 :: xr) 1] at h1
    rw [rw_]
    refine bd fun D1 n1=>⟨(),rfl,(),?_⟩
    show if (!decide (V.str "" = V.str ""))=true then _ else _
    rw [decide_eq_true rfl]
    refine aP (n1 _ _ (aM rfl nw ?_))
    have s02:=s1.trans s2
    have O2:=O.keep (fun a _ o h=>s02 a o h) s02.tp
    refine bd fun D2 n2=>⟨(),d,_,.inr "past",(),rfl,O2.hd,vA,.inl ⟨rfl,_,af.of O2.hz⟩,(),d,p,t,q,z,v0,es,past,cur,rfl,O2,fun e H3 s3 fo fp ft fq nd' ho hl=>⟨z,_,(),rfl,s3 _ _ O2.hz,by rw [List.length_map];trivial,fun H4 c4=>n2 _ _ ?_⟩⟩
    obtain ⟨O4,sE4,sub4⟩:=bJ.push O2 s3 fo fp ft fq nd' ho hl c4
    have sE:ax (·∈b5 d p t q z es) H H4:=s02.toE.trans sE4
    have sub:∀a∈b5 d p t q z (es++[e]),a∈b5 d p t q z es∨H a=none:=fun a h=>(sub4 a h).imp id fun h=>s02.free h
    have h4:H4 p1=some (.tup xr):=sE4.tup _ _ (s2 _ _ h1)
    have mp:p∈b5 d p t q z es:=by simp
    have mt:t∈b5 d p t q z es:=by simp
    have mq:q∈b5 d p t q z es:=by simp
    have md:d∈b5 d p t q z es:=by simp
    obtain ⟨ys,hty,htd⟩:=O4.l.ht
    have lty:=htd.length
    rw [List.length_map] at lty
    have okt:=ok.cu.lt
    have okp:=ok.cu.lp
    have oks:=ok.cu.ls
    cases D with
    | back=>exact absurd rfl nb
    | place n=>
     obtain ⟨x,y,exs,hx,hy⟩:=gK ia
     cases aQ hx
     cases aQ hy
     cases exs
     refine bd fun D5 n5=>lC rfl ⟨(),d,_,.inr "places",(),rfl,O4.hd,vP,.inl ⟨rfl,_,af.of O4.l.hp⟩,(),p1,_,_,(),rfl,ah.of h4,rfl,p,_,(),rfl,O4.l.hp,by rw [List.length_map];trivial,fun H5 c5=>n5 _ _ ⟨(by show 2≤10000;decide),fun p6 H6 m6=>?_⟩⟩
     have O5:=bJ.chP (pl:=cur.pl++[n]) O4 (by rw [List.map_append];exact c5)
     exact kt _ _ _ ((sE.trans (xt c5 O4.l.hp mp)).trans m6.sm.toE) ⟨p,t,q,z,v0,es++[e],O5.keep (fun a _ o h=>m6.sm a o h) m6.sm.tp,rfl⟩ sub (.tup m6.at' (.cons (.str _) (.cons .non .nil)))
    | tie tt=>
     obtain ⟨x1,x2,x3,x4,x5,x6,exs,hx1,hx2,hx3,hx4,hx5,hx6⟩:=tI ia
     cases aQ hx1
     cases aQ hx2
     cases aQ hx3
     cases exs
     have dt:aD ED H4 (.ref p1) (gn tt):=.tup h4 (.cons (.str _) (.cons (.str _) (.cons (hx4.mono (bF sE.tup)) (.cons (hx5.mono (bF sE.tup)) (.cons (hx6.mono (bF sE.tup)) .nil)))))
     refine cO fun D5 n5 r5=>dk rfl (by nofun) (lC rfl (bd fun D6 n6=>⟨(),d,_,.inr "ties",(),rfl,O4.hd,vT,.inl ⟨rfl,_,af.of hty⟩,(),t,_,(),rfl,hty,by trivial,fun H5 c5=>n6 _ _ ?_⟩))
     have O5:=bJ.chT (ts:=cur.ts++[tt]) O4 c5 (by rw [List.map_append];exact htd.append (.cons dt .nil))
     refine ⟨(),d,_,.inr "ties",(),rfl,O5.hd,vT,t,(),.inl (af.of c5.at'),_,(),rfl,(by show 2≤10000;decide),fun p6 H6 m6=>r5 _ _ ?_⟩
     have el:(((ys++[V.ref p1]).length:Nat):Int) - 1=(cur.ts.length:Nat):=by simp;trivial
     refine kt _ _ _ ((sE.trans (xt c5 hty mt)).trans m6.sm.toE) ⟨p,t,q,z,v0,es++[e],O5.keep (fun a _ o h=>m6.sm a o h) m6.sm.tp,rfl⟩ sub (.tup m6.at' (.cons (.str _) (.cons ?_ .nil)))
     show aD ED H6 (.int ((((ys++[V.ref p1]).length:Nat):Int) - 1)) (.int (cur.ts.length:Nat))
     rw [el]
     exact .int _
    | ends b e'=>
     obtain ⟨x1,x2,x3,exs,hx1,hx2,hx3⟩:=kC ia
     cases aQ hx1
     cases aQ hx2
     cases aQ hx3
     cases exs
     refine bd fun D5 n5=>dk rfl (by nofun) (dk rfl (by nofun) (lC rfl ⟨(),(),d,_,.inr "ends",rfl,rfl,O4.hd,(by show 5≤4000;decide),fun H5 c5=>n5 _ _ ⟨(by show 2≤10000;decide),fun p6 H6 m6=>?_⟩⟩))
     rw [rN] at c5
     have O5:=bJ.chE (en:=some (b,e')) O4 c5 (.tup h4 (.cons (.str _) (.cons (.str _) .nil)))
     have s5:ax (·∈b5 d p t q z es) H4 H5:=⟨fun a o n h=>c5.ol a o (fun w=>n (w▸md)) h,c5.tp ⟨_,O4.hd⟩⟩
     exact kt _ _ _ ((sE.trans s5).trans m6.sm.toE) ⟨p,t,q,z,_,es++[e],O5.keep (fun a _ o h=>m6.sm a o h) m6.sm.tp,rfl⟩ sub (.tup m6.at' (.cons (.str _) (.cons .non .nil)))
    | shut i=>
     obtain ⟨x1,x2,exs,hx1,hx2⟩:=gK ia
     cases aQ hx1
     cases jT hx2
     cases exs
     refine bd fun D5 n5=>dk rfl (by nofun) (dk rfl (by nofun) (dk rfl (by nofun) (lC rfl ⟨(),d,_,.inr "shut",(),rfl,O4.hd,vS,.inl ⟨rfl,_,af.of O4.l.hq⟩,(),p1,_,_,(),rfl,ah.of h4,rfl,q,_,(),rfl,O4.l.hq,by rw [List.length_map];trivial,fun H5 c5=>n5 _ _ ⟨(by show 2≤10000;decide),fun p6 H6 m6=>?_⟩⟩)))
     have O5:=bJ.chS (sh:=cur.sh++[i]) O4 (by rw [List.map_append];exact c5)
     exact kt _ _ _ ((sE.trans (xt c5 O4.l.hq mq)).trans m6.sm.toE) ⟨p,t,q,z,v0,es++[e],O5.keep (fun a _ o h=>m6.sm a o h) m6.sm.tp,rfl⟩ sub (.tup m6.at' (.cons (.str _) (.cons .non .nil)))
    | opn i=>
     obtain ⟨x1,x2,exs,hx1,hx2⟩:=gK ia
     cases aQ hx1
     cases jT hx2
     cases exs
     have hi:i∈cur.sh:=by
      replace rw_:(if has cur i then (if i∈cur.sh then none else some RW.asItIs) else some .noTie)=none:=rw_
      by_cases q:has cur i
      ·rw [if_pos q] at rw_
       by_cases q2:i∈cur.sh
       ·exact q2
       ·rw [if_neg q2] at rw_;cases rw_
      ·rw [if_neg q] at rw_;cases rw_
     obtain ⟨j,hj⟩:=List.getElem?_of_mem hi
     have hlt:=(List.getElem?_eq_some_iff.mp hj).1
     refine bd fun D5 n5=>dk rfl (by nofun) (dk rfl (by nofun) (dk rfl (by nofun) (dk rfl (by nofun) (lC rfl ⟨(),d,_,.inr "shut",(),rfl,O4.hd,vS,.inl ⟨rfl,_,af.of O4.l.hq⟩,(),p1,_,_,(),rfl,ah.of h4,rfl,q,cur.sh,i,j,rfl,rfl,O4.l.hq,by trivial,hj,(fun m hm w=>?_),fun H5 c5=>n5 _ _ ⟨(by show 2≤10000;decide),fun p6 H6 m6=>?_⟩⟩))))
     ·obtain ⟨w1,w2⟩:=List.getElem?_eq_some_iff.mp w
      obtain ⟨w3,w4⟩:=List.getElem?_eq_some_iff.mp hj
      have:=nS ok.cu.nd w1 w3 (by rw [w2,w4])
      trivial
     rw [tP ok.cu.nd hj] at c5
     have O5:=bJ.chS (sh:=cur.sh.erase i) O4 c5
     exact kt _ _ _ ((sE.trans (xt c5 O4.l.hq mq)).trans m6.sm.toE) ⟨p,t,q,z,v0,es++[e],O5.keep (fun a _ o h=>m6.sm a o h) m6.sm.tp,rfl⟩ sub (.tup m6.at' (.cons (.str _) (.cons .non .nil)))
    | part kk i x=>
     obtain ⟨x1,x2,x3,exs,hx1,hx2,hx3⟩:=kC ia
     cases aQ hx1
     cases jT hx2
     cases exs
     have hs:has cur i:=by
      replace rw_:(if has cur i then none else some RW.noTie)=none:=rw_
      by_cases q:has cur i
      ·exact q
      ·rw [if_neg q] at rw_;cases rw_
     obtain ⟨j,rfl⟩:=Int.eq_ofNat_of_zero_le hs.1
     have hj:j<ys.length:=by have:=hs.2;trivial
     have hj':j<cur.ts.length:=by have:=hs.2;trivial
     have g1:ys[j]?=some ys[j]:=List.getElem?_eq_getElem hj
     have g2:cur.ts[j]?=some cur.ts[j]:=List.getElem?_eq_getElem hj'
     have dj:aD ED H4 ys[j] (gn cur.ts[j]):=htd.nth j g1 (by rw [List.getElem?_map,g2];rfl)
     obtain ⟨ta,m,g,pr,eta,hta,hm,hg,hpr⟩:=oU dj
     have kat:kk.at<5:=by cases kk <;> decide
     have nk:∀{y:Str},(¬V.str (iQ.m).w=V.str y)→(¬V.str (iQ.g).w=V.str y)→(¬V.str (iQ.p).w=V.str y)→¬V.str kk.w=V.str y:=fun a b c=>by cases kk <;> assumption
     refine bd fun D5 n5=>dk rfl (nk (by nofun) (by nofun) (by nofun)) (dk rfl (nk (by nofun) (by nofun) (by nofun)) (dk rfl (nk (by nofun) (by nofun) (by nofun)) (dk rfl (nk (by nofun) (by nofun) (by nofun)) (dk rfl (nk (by nofun) (by nofun) (by nofun)) ?_))))
     refine fV fun Q6 n6=>fun pd H5 m5=>⟨.inr "set_most",rfl,.inr "set_gain",rfl,.inr "set_price",rfl,m5.at',?_,(by show 3≤15;decide),fun H6 c6=>?_⟩
     ·show ([.inr "set_most",.inr "set_gain",.inr "set_price"]:List aV).Nodup
      decide +kernel
     have s46:ag H4 H6:=fun a o h=>c6.ol a o (fun w=>by have:=m5.fr;rw [←w,h] at this;cases this) (m5.sm _ _ h)
     refine ⟨(),pd,_,.inr kk.w,(),rfl,c6.at',EW,(),d,_,.inr "ties",(),rfl,s46 _ _ O4.hd,vT,(),p1,_,_,(),rfl,ah.of (s46 _ _ h4),rfl,t,_,_,(),rfl,af.of (s46 _ _ hty),i3 g1,n6 _ _ _ ?_⟩
     rw [eta]
     have hta6:=s46 _ _ hta
     have h46:=s46 _ _ h4
     refine ⟨(),(),(),ta,(),ah.of hta6,hta6,fun r1 J1 j1 e1=>⟨(),(),p1,(),ah.of (j1 _ _ h46),j1 _ _ h46,fun r2 J2 j2 e2=>⟨r1,r2,_,(),rfl,j2 _ _ e1,e2,?_,fun r3 J3 j3 e3=>⟨(),(),_,(),rfl,(),ta,(),ah.of (((j1.trans j2).trans j3) _ _ hta6),((j1.trans j2).trans j3) _ _ hta6,fun r4 J4 j4 e4=>⟨r3,r4,_,(),rfl,j4 _ _ e3,e4,?_,fun r5 J5 j5 e5=>?_⟩⟩⟩⟩⟩
     ·have:=dR [bx (cur.ts[j]).bg,bx (cur.ts[j]).en,m,g,pr] none (some (kk.at:Int))
      have:=dR [V.int (j:Int),x3] (some 1) none
      simp at *
      trivial
     ·have h1:=dR [bx (cur.ts[j]).bg,bx (cur.ts[j]).en,m,g,pr] none (some (kk.at:Int))
      have h2:=dR [V.int (j:Int),x3] (some 1) none
      have h3:=dR [bx (cur.ts[j]).bg,bx (cur.ts[j]).en,m,g,pr] (some ((kk.at:Int)+1)) none
      simp only [List.length_append,List.length_cons,List.length_nil] at h1 h2 h3 ⊢
      trivial
     have sJ:=(((j1.trans j2).trans j3).trans j4).trans j5
     have s4J:=s46.trans sJ
     have e5':J5 r5=some (.tup ([bx (cur.ts[j]).bg,bx (cur.ts[j]).en,m,g,pr].set kk.at x3)):=by
      rw [e5]
      cases kk <;> rfl
     have dt:aD ED J5 (.ref r5) (gn (qI kk x cur.ts[j])):=by
      have y3:=(hx3.mono (bF sE.tup)).mono s4J.toE
      have m3':=hm.mono s4J.toE
      have g3:=hg.mono s4J.toE
      have p3':=hpr.mono s4J.toE
      cases kk
      ·exact .tup e5' (.cons (.str _) (.cons (.str _) (.cons y3 (.cons g3 (.cons p3' .nil)))))
      ·exact .tup e5' (.cons (.str _) (.cons (.str _) (.cons m3' (.cons y3 (.cons p3' .nil)))))
      ·exact .tup e5' (.cons (.str _) (.cons (.str _) (.cons m3' (.cons g3 (.cons y3 .nil)))))
     refine ⟨(),d,_,.inr "ties",(),rfl,s4J _ _ O4.hd,vT,(),p1,_,_,(),rfl,ah.of (s4J _ _ h4),rfl,t,_,_,j,rfl,rfl,s4J _ _ hty,?_,fun H7 c7=>n5 _ _ ⟨(by show 2≤10000;decide),fun p8 H8 m8=>?_⟩⟩
     ·unfold kU
      rw [if_pos (by trivial),if_pos (by trivial)]
      simp
     have O6:=O4.keep (fun a _ o h=>s4J a o h) s4J.tp
     have O7:=bJ.chT (ts:=cur.ts.set j (qI kk x cur.ts[j])) O6 c7 (by rw [List.map_set];exact (htd.mono s4J.toE).set dt j)
     have eN:cy cur (.part kk (j:Int) x)={ cur with ts:=cur.ts.set j (qI kk x cur.ts[j]) }:=by
      show ({ cur with ts:=mD cur.ts kk (j:Int).toNat x }:ai)=_
      rw [Int.toNat_natCast,u0 g2]
     rw [eN] at kt
     exact kt _ _ _ (((sE.trans s4J.toE).trans (xt c7 (s4J _ _ hty) mt)).trans m8.sm.toE) ⟨p,t,q,z,v0,es++[e],O7.keep (fun a _ o h=>m8.sm a o h) m8.sm.tp,rfl⟩ sub (.tup m8.at' (.cons (.str _) (.cons .non .nil)))
end
end K39
namespace K39
open PySem L2
section
variable {P:Program}{w:World}{K:PySem.W.Frag}{mg:Str→Option Value}{base:Heap}
theorem oF (T:Txt K mg):∀n,aS P w K mg base CX0 (n+1) T.l_same_.f T.l_same_.d ["_law_found", "_law_due"] (A9 n):=by
 intro n
 induction n with
 | zero=>
  refine T.l_same_.F.ok re (fun vs H Q E h=>?_) (fun cdv A outer s H vs Q E hr h=>?_)
  ·obtain ⟨_,_,_,_,_,_,_,z,_⟩:=h
   exact z.elim
  ·obtain ⟨_,_,_,_,_,_,_,z,_⟩:=h
   exact z.elim
 | succ n G_l_same=>
 refine T.l_same_.F.ok re (fun vs H Q E h=>?_) (fun cdv A outer s H vs Q E hr h=>?_)
 ·obtain ⟨x,y,d,E,rfl,_⟩:=h
  rfl
 ·obtain ⟨x,y,d,E',rfl,hx,hy,hd,k⟩:=h
  refine ⟨_,#[#[aL 8 #[cP 3 #[(),(),(@xb _ (K) (by rfl)),aY,T.b_isinstance,(@aC),#[[#[1,bq],#[aw 5 #[[#[gu 4 jB T.b_list (@bL) (by decide) (by decide)],#[gu 4 i6 T.b_tuple (@dJ) (by decide) (by decide)]]]]]]] (by intro _;rfl)] #[#[aL 8 #[PW.pt 3 #[sU 7 #[ar 8 (@mi _) #[(),(),(@dZ _ (K) (by rfl)),aY,T.b_isinstance,(@aC),#[[#[0,bA],#[gu 4 jB T.b_list (@bL) (by decide) (by decide)]]]] #[(),(),(@dZ _ (K) (by rfl)),aY,T.b_isinstance,(@aC),#[[#[1,bq],#[gu 4 jB T.b_list (@bL) (by decide) (by decide)]]]] #[(),()]] #[pZ 4 #[ar 8 (@mi _) #[(),(),(@dZ _ (K) (by rfl)),aY,T.b_isinstance,(@aC),#[[#[0,bA],#[gu 4 i6 T.b_tuple (@dJ) (by decide) (by decide)]]]] #[(),(),(@dZ _ (K) (by rfl)),aY,T.b_isinstance,(@aC),#[[#[1,bq],#[gu 4 i6 T.b_tuple (@dJ) (by decide) (by decide)]]]] #[(),()]]]]] #[aa 3 #[am 4 #[cT 4]]] (@az _)] :: #[aa 3 #[am 4 #[kc 7 #[bK 8 (@bu _) #[(),(),(@dB _ (K) (by rfl)),oA,T.b_len,(@be),#[[#[0,bA]]]] #[(),(),(@dB _ (K) (by rfl)),oA,T.b_len,(@be),#[[#[1,bq]]]] #[(),()]] #[lL 5 #[(),(),(@vv _ (K) rfl (by rfl)),ug,T.b_all,(@mH),#[[#[ic 7 (["_law_one", "_law_other"]) (2) ([]) _ _ _ _ rfl (by kernel_rfl) (@kN _ (K) _ _ _ _ _ _ _ _ uj T.b_zip #[[#[0,bA],#[1,bq]]] (by rfl) (by rfl) (by rfl)) (fun _ _ _ _ _ _=>(@b7 _ (K) _ _ _ _ (2) rfl #[aq 5 #[0,(),()] #[aq 5 #[1,(),()] (@cq _) (by rfl)] (by rfl)] (by rfl) (by rfl) (by rfl))) (fun _ _ _ _ _ _=>@gh _) (fun _ _ _ _ _ _=>#[ip 16 G_l_same (hr.mono (by trivial)) (by show _=_;kernel_rfl) T.l_same_.m T.l_same_.F.kp T.l_same_.B .nil (@hR _) #[[#[0,()],#[1,()]]] (by decide) (by rfl) (by rfl)]) (by intro _;rfl)]]]]]]]]] (@az _)] :: #[#[aL 8 #[PW.pt 3 #[sU 7 #[ar 8 (@xf _) #[1,bq] #[kB 3] #[(),()]] #[pZ 4 #[cP 3 #[(),(),(@dZ _ (K) (by rfl)),aY,T.b_isinstance,(@aC),#[[#[1,bq],#[gu 4 ko T.b_str (@k8) (by decide) (by decide)]]]] (by intro _;rfl)]]]] #[aa 3 #[am 4 #[kc 7 #[bK 8 (@bu _) #[0,bA] #[1,bq] #[(),()]] #[lL 5 #[bK 8 (@bu _) #[(),(),(@dZ _ (K) (by rfl)),aY,T.b_isinstance,(@aC),#[[#[0,bA],#[gu 4 ko T.b_str (@k8) (by decide) (by decide)]]]] #[(),(),(@dZ _ (K) (by rfl)),aY,T.b_isinstance,(@aC),#[[#[1,bq],#[gu 4 ko T.b_str (@k8) (by decide) (by decide)]]]] #[(),()]]]]]] (@az _)] :: #[aa 3 #[am 4 #[kc 7 #[(),(),(@dZ _ (K) (by rfl)),aY,T.b_isinstance,(@aC),#[[#[0,bA],#[gu 4 tX T.b_int (@lr) (by decide) (by decide)]]]] #[kc 7 #[bK 8 (@bu _) #[(),(),(@dZ _ (K) (by rfl)),aY,T.b_isinstance,(@aC),#[[#[0,bA],#[gu 4 mQ T.b_bool (@oJ) (by decide) (by decide)]]]] #[(),(),(@dZ _ (K) (by rfl)),aY,T.b_isinstance,(@aC),#[[#[1,bq],#[gu 4 mQ T.b_bool (@oJ) (by decide) (by decide)]]]] #[(),()]] #[lL 5 #[bK 8 (@bu _) #[0,bA] #[1,bq] #[(),()]]]]]]]]],?_⟩
  refine ⟨(),(by show 2≤10000;decide),fun p H1 n1=>⟨y,p,d,E',rfl,hy.mono n1.sm.toE,ah.of n1.at',(),?_⟩⟩
  have s1:=n1.sm
  have hx1:=hx.mono s1.toE
  have hy1:=hy.mono s1.toE
  have k1:=k H1 s1
  have hx2:=hx1
  have hy2:=hy1
  cases hx1 with
  | non=>
   cases hy1
   refine aP ⟨(),rfl,(),aZ (aZ ?_)⟩
   exact ⟨(),(),rfl,(),o0 ⟨(),_,_,_,(),hx2.ty,i0 _,(),_,_,_,(),hy2.ty,i0 _,rfl,oZ k1⟩⟩
  | str z=>
   cases hy1
   refine aP ⟨(),rfl,(),aP ⟨(),_,_,_,(),hy2.ty,i0 _,(),aZ ?_⟩⟩
   exact ⟨(),(),rfl,(),o0 ⟨(),_,_,_,(),hx2.ty,i0 _,(),_,_,_,(),hy2.ty,i0 _,rfl,oZ k1⟩⟩
  | bl b=>
   cases hy1
   refine aP ⟨(),rfl,(),aP ⟨(),_,_,_,(),hy2.ty,i0 _,(),aP ?_⟩⟩
   exact ⟨(),_,_,_,(),hx2.ty,uK _,(),aZ ⟨(),_,_,_,(),hx2.ty,ma _,(),_,_,_,(),hy2.ty,ma _,rfl,(),o0 ⟨(),(),rfl,oZ k1⟩⟩⟩
  | int i=>
   cases hy1
   refine aP ⟨(),rfl,(),aP ⟨(),_,_,_,(),hy2.ty,i0 _,(),aP ?_⟩⟩
   exact ⟨(),_,_,_,(),hx2.ty,uK _,(),aZ ⟨(),_,_,_,(),hx2.ty,ma _,(),_,_,_,(),hy2.ty,ma _,rfl,(),o0 ⟨(),(),rfl,oZ k1⟩⟩⟩
  | @lst a1 xs ds h1 ne1 r1=>
   cases hy1 with
   | @lst a2 ys _ h2 ne2 r2=>
   refine aZ ⟨(),_,_,_,(),hx2.ty,kD _,(),_,_,_,(),hy2.ty,kD _,rfl,(),oW ⟨(),_,_,_,(),hx2.ty,ju _,(),_,_,_,(),hy2.ty,ju _,rfl,(),oW ?_⟩⟩
   have el:xs.length=ys.length:=r1.length.trans r2.length.symm
   have ed:=r2.length
   refine ⟨(),a1,xs,rfl,.inl (af.of h1),(),a2,ys,rfl,.inl (af.of h2),rfl,(),?_⟩
   rw [el]
   refine o0 ⟨(),(),a1,a2,true,true,rfl,⟨xs,af.of h1⟩,⟨ys,af.of h2⟩,fun D hD=>fZ (n:=ys.length) (zd H1 D) ?_ ⟨rfl,au,dU hD (ag.refl _)⟩ ?_ ?_ ?_ ?_ ?_⟩
   ·rw [sizeLine_eq]
    have:=hd.1
    trivial
   ·rintro i H' zs ⟨rfl,q1,_⟩
    exact ⟨q1,by rw [List.length_map,List.length_replicate];exact Nat.le_refl _⟩
   ·rintro i H' zs hi ⟨_,_,q⟩
    exact ⟨xs,ys,xs[i],ys[i],af.of (q _ _ h1),af.of (q _ _ h2),by simp [el,hi],by simp [hi]⟩
   ·rintro H' zs ⟨_,_,q⟩
    exact ⟨xs,ys,af.of (q _ _ h1),af.of (q _ _ h2),.inl el⟩
   ·rintro i H' zs x H'' hi ⟨rfl,q1,q⟩ ⟨t,u,v,ht,rfl,rfl,e1,e2⟩
    have e1':=e1 xs (af.of (q _ _ h1))
    have e2':=e2 ys (af.of (q _ _ h2))
    obtain ⟨du,f1,g1⟩:=r1.get e1'
    obtain ⟨dv,f2,g2⟩:=r2.get e2'
    rw [f1] at f2
    cases f2
    have st:=q.trans (ag.new (o:=.tup [u,v]) ht)
    refine ⟨t,(),ah.of au,rfl,_,(),_,(),rfl,qc,(),(),u,v,du,E',rfl,g1.mono st.toE,g2.mono st.toE,hd.2 du (List.mem_of_getElem? f1),fun H3 s3=>?_⟩
    have qD:H3 D=some (.lst ((List.replicate i true).map V.bl)):=s3 _ _ (ag.new (o:=.tup [u,v]) ht _ _ q1)
    exact ⟨qD,ub i,au,dU hD (st.trans s3)⟩
   ·rintro H' zs ⟨rfl,q1,q⟩
    refine ⟨D,List.replicate ys.length true,rfl,af.of q1,?_⟩
    rw [oO]
    exact k H' (s1.trans q)
  | @tup a1 xs ds h1 r1=>
   cases hy1 with
   | @tup a2 ys _ h2 r2=>
   refine aZ ⟨(),_,_,_,(),hx2.ty,kD _,(),_,_,_,(),hy2.ty,kD _,rfl,(),oW ⟨(),_,_,_,(),hx2.ty,ju _,(),_,_,_,(),hy2.ty,ju _,rfl,(),oW ?_⟩⟩
   have el:xs.length=ys.length:=r1.length.trans r2.length.symm
   have ed:=r2.length
   refine ⟨(),a1,xs,rfl,.inr (ah.of h1),(),a2,ys,rfl,.inr (ah.of h2),rfl,(),?_⟩
   rw [el]
   refine o0 ⟨(),(),a1,a2,false,false,rfl,⟨xs,ah.of h1⟩,⟨ys,ah.of h2⟩,fun D hD=>fZ (n:=ys.length) (zd H1 D) ?_ ⟨rfl,au,dU hD (ag.refl _)⟩ ?_ ?_ ?_ ?_ ?_⟩
   ·rw [sizeLine_eq]
    have:=hd.1
    trivial
   ·rintro i H' zs ⟨rfl,q1,_⟩
    exact ⟨q1,by rw [List.length_map,List.length_replicate];exact Nat.le_refl _⟩
   ·rintro i H' zs hi ⟨_,_,q⟩
    exact ⟨xs,ys,xs[i],ys[i],ah.of (q _ _ h1),ah.of (q _ _ h2),by simp [el,hi],by simp [hi]⟩
   ·rintro H' zs ⟨_,_,q⟩
    exact ⟨xs,ys,ah.of (q _ _ h1),ah.of (q _ _ h2),.inl el⟩
   ·rintro i H' zs x H'' hi ⟨rfl,q1,q⟩ ⟨t,u,v,ht,rfl,rfl,e1,e2⟩
    have e1':=e1 xs (ah.of (q _ _ h1))
    have e2':=e2 ys (ah.of (q _ _ h2))
    obtain ⟨du,f1,g1⟩:=r1.get e1'
    obtain ⟨dv,f2,g2⟩:=r2.get e2'
    rw [f1] at f2
    cases f2
    have st:=q.trans (ag.new (o:=.tup [u,v]) ht)
    refine ⟨t,(),ah.of au,rfl,_,(),_,(),rfl,qc,(),(),u,v,du,E',rfl,g1.mono st.toE,g2.mono st.toE,hd.2 du (List.mem_of_getElem? f1),fun H3 s3=>?_⟩
    have qD:H3 D=some (.lst ((List.replicate i true).map V.bl)):=s3 _ _ (ag.new (o:=.tup [u,v]) ht _ _ q1)
    exact ⟨qD,ub i,au,dU hD (st.trans s3)⟩
   ·rintro H' zs ⟨rfl,q1,q⟩
    refine ⟨D,List.replicate ys.length true,rfl,af.of q1,?_⟩
    rw [oO]
    exact k H' (s1.trans q)
end
end K39
namespace K39
open PySem L2
set_option maxHeartbeats 4000000
section
variable {P:Program}{w:World}{K:PySem.W.Frag}{mg:Str→Option Value}{base:Heap}
inductive AT (vs:List V) (H:Hp) (Q:VK):Prop
 | mk (d p t q z:Addr) (v:V) (es:List eQ) (past:List ai) (cur:ai) (h0:vs=[.ref d]) (h1:bJ H d past cur p t q z v es) (h2:fN 5000 past cur) (h3:∀u H',ag H H'→aD ED H' u (sW cur)→Q u H')
def BK:Sp:=fun vs H Q _=>AT  vs H Q
theorem yQ (T:Txt K mg):aS P w K mg base CX0 1 T.l_net_.f T.l_net_.d ["_law_own"] BK:=by
 refine T.l_net_.F.ok mf (fun vs H Q E h=>?_) (fun cdv A outer s H vs Q E hr h=>?_)
 ·obtain ⟨d,p,t,q,z,v,es,past,cur,rfl,_⟩:=h
  rfl
 ·obtain ⟨d,p,t,q,z,v,es,past,cur,rfl,O,ok,k⟩:=h
  refine ⟨_,#[#[1,mf.nd,iV,#[bR 4 (@cA _)]] :: #[#[iI 8 PassesOwn.never rfl (@yW _ (K) _ _ _ _ _ _ _ o8 T.b_enumerate #[[#[aK 7 (@aJ _) #[0,jE] #[ac 4] (fun _ _=>rfl)]]] (by rfl) (by rfl)) (@b7 _ (K) _ _ _ _ (2) rfl #[aq 5 #[2,mf.nd,kg] #[aq 5 #[3,mf.nd,hU] (@cq _) (by rfl)] (by rfl)] (by rfl) (by rfl) (by rfl)) #[aa 3 #[bj 4 (@bW _ (K) _ _ _ _ _ _ _ _ _ _ _ PySem.F.plainAttrs_list PySem.F.slot_list_append PySem.F.type_list_append (@bP _) #[1,iV] #[[#[di 8 #[ar 8 (@l8 _ (K) (by rfl)) #[2,kg] #[aK 7 (@aJ _) #[0,jE] #[ac 4] (fun _ _=>rfl)] rfl] #[aB 8 (@fe _) #[aB 8 (@fe _) #[cY 10 (@fw _ (K) (by rfl)) #[3,hU] (@eH _) #[dg 3 #[()]]] #[aw 5 #[[#[aw 5 #[[#[()],#[()]]]]]]]] #[cY 10 (@fw _ (K) (by rfl)) #[3,hU] #[dg 3 #[()]] (@eH _)]] #[3,hU]]]] (by rfl) (by rfl) (by rfl) (by rfl) (by rfl) (by rfl)) (by rfl)]] (by intro _;rfl)] :: #[aa 3 #[am 4 #[aw 5 #[[#[b9 9 (@iX _ (K) (by rfl)) mR T.b_tuple (@dJ) #[[#[aK 7 (@aJ _) #[0,jE] #[ac 4] (fun _ _=>rfl)]]] (by decide) (by decide) (by rfl) (by rfl)],#[b9 9 (@iX _ (K) (by rfl)) mR T.b_tuple (@dJ) #[[#[1,iV]]] (by decide) (by decide) (by rfl) (by rfl)]]]]]]]],?_⟩
  obtain ⟨ys,hty,htd⟩:=O.l.ht
  have ly:=htd.length
  rw [List.length_map] at ly
  have okt:=ok.cu.lt
  refine fh fun Q0 n0=>⟨(by show 0≤10000;decide),fun l H1 m1=>n0 _ _ ?_⟩
  have nl:∀{a o},H a=some o→a≠l:=fun h e=>by have:=m1.fr;rw [←e,h] at this;cases this
  refine bd fun D1 n1=>⟨(),d,_,.inr "ties",(),rfl,m1.sm _ _ O.hd,vT,t,true,rfl,⟨ys,af.of (m1.sm _ _ hty)⟩,?_⟩
  refine ⟨fun i m σ H'=>m=ys.length - i∧i≤ys.length∧iC fun (v2 v3:Option V) (zs:List V)=>σ=[some (.ref d),some (.ref l),v2,v3]∧H' l=some (.lst zs)∧ay ED H' zs ((List.range i).map (pj cur))∧ag H H',⟨(),Nat.zero_le _,_,_,[],rfl,m1.at',.nil,m1.sm⟩,?_⟩
  rintro i m σ J ⟨rfl,hi,v2,v3,zs,rfl,hl,hz,sJ⟩
  by_cases hlt:i<ys.length
  ·refine .inr ⟨⟨ys,ys[i],af.of (sJ _ _ hty),List.getElem?_eq_getElem hlt⟩,_,fun σ' H'' z=>z,?_⟩
   rintro x J1 ⟨tp,y,htp,rfl,rfl,hy⟩
   have hy':=hy _ (af.of (sJ _ _ hty))
   rw [List.getElem?_eq_getElem hlt] at hy'
   obtain rfl:ys[i]=y:=Option.some.inj hy'
   have st:=ag.new (o:=.tup [.int (i:Int),ys[i]]) htp
   have s1:=sJ.trans st
   have e3:cur.ts[i]?=some (cur.ts[i]'(by trivial)):=List.getElem?_eq_getElem (by trivial)
   have dj:aD ED H ys[i] (gn (cur.ts[i]'(by trivial))):=htd.nth i (List.getElem?_eq_getElem hlt) (by rw [List.getElem?_map,e3];rfl)
   obtain ⟨ta,mm,g,pr,eta,hta,hm,hg,hpr⟩:=oU dj
   have hl1:=st _ _ hl
   have lz:=hz.length
   rw [List.length_map,List.length_range] at lz
   have fin:∀(u:V) (J2:Hp),ag (aH J tp (.tup [.int (i:Int),ys[i]])) J2→aD ED J2 u (pj cur i)→zb (.ref l) [u] J2 fun _ H1=>∃m',m'<ys.length - i∧(fun (i:Nat) (m:Nat) (σ:St) (H':Hp)=>m=ys.length - i∧i≤ys.length∧iC fun (v2 v3:Option V) (zs:List V)=>σ=[some (.ref d),some (.ref l),v2,v3]∧H' l=some (.lst zs)∧ay ED H' zs ((List.range i).map (pj cur))∧ag H H') (i+1) m' [some (.ref d),some (.ref l),some (.int (i:Int)),some ys[i]] H1:=fun u J2 s2 du=>by
    refine ⟨l,zs,u,rfl,rfl,s2 _ _ hl1,by trivial,fun J3 c3=>⟨_,by trivial,rfl,hlt,_,_,(),c3.at',?_,fun a o h=>c3.ol a o (nl h) (s2 _ _ (s1 _ _ h))⟩⟩
    have tp3:jM J2 J3:=c3.tp (s2 _ _ hl1)
    rw [List.range_succ,List.map_append]
    exact ((hz.mono (st.trans s2).toE).mono (bF tp3)).append (.cons (du.mono (bF tp3)) .nil)
   refine ⟨tp,(),ah.of au,rfl,_,(),_,(),rfl,(),.inl ⟨rfl,_,af.of hl1⟩,(),(),d,_,.inr "shut",(),rfl,s1 _ _ O.hd,vS,q,(),.inl (af.of (s1 _ _ O.l.hq)),rfl,vW _,(),?_⟩
   simp only [if_false,Bool.false_eq_true,CL]
   by_cases hs:(i:Int)∈cur.sh
   ·rw [decide_eq_true hs]
    have hta1:=s1 _ _ hta
    refine aZ ⟨(),(),ta,_,eta,ah.of hta1,hta1,fun r1 J2 j2 g2=>⟨(by show 2≤10000;decide),fun r2 J3 m3=>⟨(by show 1≤10000;decide),fun r3 J4 m4=>⟨r1,r3,_,(),rfl,(m3.sm.trans m4.sm) _ _ g2,m4.at',(by show 2+1≤10000;decide),fun r4 J5 j5 g5=>?_⟩⟩⟩⟩
    have s25:=((j2.trans m3.sm).trans m4.sm).trans j5
    refine ⟨(),(),ta,_,eta,ah.of (s25 _ _ hta1),s25 _ _ hta1,fun r5 J6 j6 g6=>⟨r4,r5,_,(),rfl,j6 _ _ g5,g6,(by show 3+2≤10000;decide),fun r6 J7 j7 g7=>?_⟩⟩
    have s27:=(s25.trans j6).trans j7
    have sH:=s1.trans s27
    refine fin _ _ s27 ?_
    unfold pj
    rw [e3]
    simp only [hs,if_true]
    exact .tup g7 (.cons (.str _) (.cons (.str _) (.cons (.tup (j7 _ _ (j6 _ _ (j5 _ _ (m4.sm _ _ m3.at')))) (.cons (.int _) (.cons (.int _) .nil))) (.cons (hg.mono sH.toE) (.cons (hpr.mono sH.toE) .nil)))))
   ·rw [decide_eq_false hs]
    refine aP ⟨(),fin _ _ (ag.refl _) ?_⟩
    unfold pj
    rw [e3]
    simp only [hs,if_false]
    exact dj.mono s1.toE
  ·have ei:i=ys.length:=by trivial
   subst ei
   refine .inl ⟨⟨_,af.of (sJ _ _ hty),by trivial⟩,n1 _ _ ?_⟩
   refine ⟨(),d,_,.inr "places",(),rfl,sJ _ _ O.hd,vP,p,(),af.of (sJ _ _ O.l.hp),fun r1 J1 j1=>⟨(),l,(),af.of (j1.sm _ _ hl),fun r2 J2 j2=>⟨(by show 2≤10000;decide),fun r3 J3 j3=>k _ _ (((sJ.trans j1.sm).trans j2.sm).trans j3.sm) ?_⟩⟩⟩
   rw [ly] at hz
   exact .tup j3.at' (.cons (.tup (j3.sm _ _ (j2.sm _ _ j1.at')) (mL _)) (.cons (.tup (j3.sm _ _ j2.at') (hz.mono ((j1.sm.trans j2.sm).trans j3.sm).toE)) .nil))
inductive BO (vs:List V) (H:Hp) (Q:VK):Prop
 | mk (d p t q z:Addr) (v u:V) (es:List eQ) (past:List ai) (cur:ai) (D:dn) (h0:vs=[.ref d,u]) (h1:bJ H d past cur p t q z v es) (h2:aD ED H u (.tuple (ow D))) (h3:∀b,Q (.bl b) H)
def Dj:Sp:=fun vs H Q _=>BO  vs H Q
theorem xj (T:Txt K mg):aS P w K mg base CX0 1 T.l_may_.f T.l_may_.d ["_law_own", "_law_deed_here"] Dj:=by
 refine T.l_may_.F.ok ya (fun vs H Q E h=>?_) (fun cdv A outer s H vs Q E hr h=>?_)
 ·obtain ⟨d,p,t,q,z,v,u,es,past,cur,D,rfl,_⟩:=h
  rfl
 ·obtain ⟨d,p,t,q,z,v,u,es,past,cur,D,rfl,O,hv,k⟩:=h
  refine ⟨_,#[#[aL 8 #[ar 8 (@bu _) #[#[1,iT][#[()]]] #[ac 4] #[(),()]] #[aa 3 #[am 4 #[bK 8 (@fO _) #[(),(),(@dB _ (K) (by rfl)),pA,T.b_len,(@be),#[[#[aK 7 (@aJ _) #[0,mV] #[ac 4] (fun _ _=>rfl)]]]] #[()] #[(),()]]]] (@az _)] :: #[aa 3 #[am 4 #[Ds 7 #[bK 8 (@mi _) #[#[1,iT][#[()]]] #[ac 4] #[(),()]] #[lL 5 #[bK 8 (@fO _) #[(),(),(@dB _ (K) (by rfl)),pA,T.b_len,(@be),#[[#[aK 7 (@aJ _) #[0,mV] #[ac 4] (fun _ _=>rfl)]]]] #[()] #[(),()]]]]]]],?_⟩
  obtain ⟨a,xs,rfl,ha,ia⟩:=o7 hv
  obtain ⟨ys,hty,htd⟩:=O.l.ht
  have hd0:bw fun x0 xr=>xs=.str x0 :: xr:=by
   cases D with
   | back=>obtain ⟨x,rfl,hx⟩:=uq ia;cases aQ hx;exact ⟨_,_,rfl⟩
   | place n=>obtain ⟨x,y,rfl,hx,_⟩:=gK ia;cases aQ hx;exact ⟨_,_,rfl⟩
   | tie tt=>obtain ⟨x1,x2,x3,x4,x5,x6,rfl,hx,_⟩:=tI ia;cases aQ hx;exact ⟨_,_,rfl⟩
   | ends b e=>obtain ⟨x1,x2,x3,rfl,hx,_⟩:=kC ia;cases aQ hx;exact ⟨_,_,rfl⟩
   | part kk i x=>obtain ⟨x1,x2,x3,rfl,hx,_⟩:=kC ia;cases aQ hx;exact ⟨_,_,rfl⟩
   | shut i=>obtain ⟨x,y,rfl,hx,_⟩:=gK ia;cases aQ hx;exact ⟨_,_,rfl⟩
   | opn i=>obtain ⟨x,y,rfl,hx,_⟩:=gK ia;cases aQ hx;exact ⟨_,_,rfl⟩
  obtain ⟨w0,xr,rfl⟩:=hd0
  have wL:gT (V.str w0 :: xr) 0=some (.str w0):=by simp [gT,kU]
  refine cO fun D0 n0 r0=>⟨(),a,_,_,(),rfl,ah.of ha,wL,rfl,(),fH (fun c=>?_) fun c=>n0 _ _ ?_⟩
  ·exact ⟨(),d,_,.inr "places",(),rfl,O.hd,vP,p,(),.inl (af.of O.l.hp),_,(),rfl,r0 _ _ (k _)⟩
  ·refine ⟨(),a,_,_,(),rfl,ah.of ha,wL,rfl,(),fH (fun c2=>k _) fun c2=>?_⟩
   exact ⟨(),d,_,.inr "ties",(),rfl,O.hd,vT,t,(),.inl (af.of hty),_,(),rfl,k _⟩
end
end K39
namespace K39
open PySem L2
set_option maxHeartbeats 4000000
section
variable {P:Program}{w:World}{K:PySem.W.Frag}{mg:Str→Option Value}{base:Heap}
theorem BZ {N:Nat}{s:ai} (ok:kJ N s) (hN:N≤1000) (n:Nat):Dp (n+5) (sW s):=by
 have l1:=ok.lp
 have l2:=ok.lt
 refine ⟨by show 2≤1000;decide,fun x h=>?_⟩
 rcases List.mem_cons.mp h with rfl | h
 ·refine ⟨by rw [List.length_map];trivial,fun y hy=>?_⟩
  obtain ⟨l,_,rfl⟩:=List.mem_map.mp hy
  trivial
 ·rw [List.mem_singleton.mp h]
  refine ⟨by rw [List.length_map,List.length_range];trivial,fun y hy=>?_⟩
  obtain ⟨i,hi,rfl⟩:=List.mem_map.mp hy
  unfold pj
  cases s.ts[i]? with
  | none=>trivial
  | some t=>exact Ce _ _
theorem Dg (e:Option (List Nat×List Nat)) (n:Nat):Dp (n+2) (qe e):=by
 cases e with
 | none=>trivial
 | some p=>exact ⟨by show 2≤1000;decide,fun x h=>by
  rcases List.mem_cons.mp h with rfl | h
  ·trivial
  ·rw [List.mem_singleton.mp h];trivial⟩
inductive xh (C:Addr) (vs:List V) (H:Hp) (Q:VK):Prop
 | mk (r L d:Addr) (F:List Addr) (past:List ai) (cur:ai) (h0:vs=[.ref r,.ref d]) (h1:eL C H r L d F past cur 1000) (h2:∀H',ag H H'→Q (.bl true) H')
def yx (C:Addr):Sp:=fun vs H Q _=>xh C vs H Q
theorem sg (T:Txt K mg):aS P w K mg base CX0 8 T.l_stands_.f T.l_stands_.d ["_law_roads", "_law_own"] (yx T.x_Roads):=by
 have G_Roads__net:=#[(Bl)]
 have G_Roads__ends:=#[(zZ)]
 have G_Roads__deeds:=#[(tR)]
 have G_Roads__is_shut:=#[(wB)]
 have G_l_net:=#[(yQ)]
 have G_l_same:=oF (P:=P) (w:=w) (base:=base) T 6
 refine T.l_stands_.F.ok lf (fun vs H Q E h=>?_) (fun cdv A outer s H vs Q E hr h=>?_)
 ·obtain ⟨r,L,d,F,past,cur,rfl,_⟩:=h
  rfl
 ·obtain ⟨r,L,d,F,past,cur,rfl,B,k⟩:=h
  refine ⟨_,#[#[2,lf.nd,jH,#[bR 4 #[[#[iY 17 #[0,dP] T.c_Roads T.h_Roads__net G_Roads__net (hr.mono (by decide)) T.B_Roads__net .nil (@hR _) (by rfl)],#[iY 17 #[0,dP] T.c_Roads T.h_Roads__ends G_Roads__ends (hr.mono (by decide)) T.B_Roads__ends .nil (@hR _) (by rfl)],#[iY 17 #[0,dP] T.c_Roads T.h_Roads__deeds G_Roads__deeds (hr.mono (by decide)) T.B_Roads__deeds .nil (@hR _) (by rfl)]]]]] :: #[#[aL 8 #[gY 4 #[cP 3 #[G_l_same,jG,T.l_same_,#[[#[2,jH],#[bR 4 #[[#[G_l_net,pS,T.l_net_,#[[#[1,dh]]]],#[aK 7 (@aJ _) #[1,dh] #[ac 4] (fun _ _=>rfl)],#[(),(),(@dB _ (K) (by rfl)),lN,T.b_len,(@be),#[[#[aK 7 (@aJ _) #[1,dh] #[ac 4] (fun _ _=>rfl)]]]]]]]]]] (by intro _;rfl)]] #[aa 3 #[am 4 #[cT 4]]] (@az _)] :: #[#[iI 8 PassesOwn.never rfl #[eU 6 pR T.b_range #[[#[(),(),(@dB _ (K) (by rfl)),lN,T.b_len,(@be),#[[#[aK 7 (@aJ _) #[1,dh] #[ac 4] (fun _ _=>rfl)]]]]]] (by rfl)] #[3,lf.nd,fJ] #[aa 3 #[aL 8 #[gY 4 #[cP 3 #[G_l_same,jG,T.l_same_,#[[#[cR 20 #[0,dP] T.c_Roads T.h_Roads__is_shut G_Roads__is_shut (hr.mono (by decide)) T.B_Roads__is_shut .nil #[Dm 3] #[[#[3,fJ]]] (by rfl) (by rfl) (by rfl)],#[bK 8 (@l8 _ (K) (by rfl)) #[3,fJ] #[aK 7 (@aJ _) #[1,dh] #[ac 4] (fun _ _=>rfl)] rfl]]]] (by intro _;rfl)]] #[aa 3 #[am 4 #[cT 4]]] (@az _)]] (by intro _;rfl)] :: #[aa 3 #[am 4 #[cT 4]]]]]],?_⟩
  obtain ⟨R,O,ok,_,_⟩:=B
  obtain ⟨dx,ys0,v0,hr0,_⟩:=R.last
  obtain ⟨p,t,q,z,v,es,O,rfl⟩:=O
  obtain ⟨ys,hty,htd⟩:=O.l.ht
  have ly:=htd.length
  rw [List.length_map] at ly
  have okt:=ok.cu.lt
  have ok5:=ok.mono (show 1000≤5000 by decide)
  refine fh fun Q0 n0=>⟨(),r,dx,(),hr0,rfl,r,L,past,cur,rfl,R,ok5,fun u1 H1 s1 d1=>?_⟩
  have R1:=R.sm s1
  refine ⟨(),r,dx,(),s1 _ _ hr0,rfl,r,L,past,cur,rfl,R1,fun u2 d2=>⟨(),r,dx,(),s1 _ _ hr0,rfl,r,L,past,cur,rfl,R1,(by show 3≤10000;decide),fun l1 H2 m2=>n0 _ _ ?_⟩⟩
  have s2:=s1.trans m2.sm
  have O2:=O.keep (fun a _ o h=>s2 a o h) s2.tp
  refine bd fun D1 n1=>⟨(),(),d,p,t,q,z,v,es,past,cur,rfl,O2,ok5,fun u3 H3 s3 d3=>?_⟩
  have O3:=O2.keep (fun a _ o h=>s3 a o h) s3.tp
  refine ⟨(),d,_,.inr "ends",(),rfl,O3.hd,vE,(),d,_,.inr "past",(),rfl,O3.hd,vA,z,(),.inl (af.of O3.hz),(by show 3≤10000;decide),fun l2 H4 m4=>?_⟩
  have s24:=s3.trans m4.sm
  have e1:aD (fun _=>False) H4 (.ref l1) (.list [sW cur,qe cur.en,.int (past.length:Nat)]):=.lst (s24 _ _ m2.at') (fun z=>z) (.cons ((d1.mono (m2.sm.trans s24).toE).any) (.cons ((d2.mono (m2.sm.trans s24).toE).any) (.cons (.int _) .nil)))
  have e2:aD (fun _=>False) H4 (.ref l2) (.list [sW cur,qe cur.en,.int (past.length:Nat)]):=by
   refine .lst m4.at' (fun z=>z) (.cons ((d3.mono m4.sm.toE).any) (.cons ((O3.l.hv.mono m4.sm.toE).any) (.cons ?_ .nil)))
   rw [List.length_map,O3.hs.len]
   exact .int _
  refine ⟨.ref l1,.ref l2,_,(),e1,e2,⟨by show 3≤1000;decide,fun x h=>?_⟩,fun H5 s5=>⟨(),aP (n1 _ _ ?_)⟩⟩
  ·simp only [List.mem_cons,List.not_mem_nil,or_false] at h
   rcases h with rfl | rfl | rfl
   ·exact BZ ok.cu (Nat.le_refl _) 0
   ·exact Dg _ _
   ·trivial
  have s05:=(s2.trans s24).trans s5
  have O5:=O.keep (fun a _ o h=>s05 a o h) s05.tp
  refine bd fun D2 n2=>⟨(),d,_,.inr "ties",(),rfl,O5.hd,vT,t,ys,rfl,.inl (af.of (s05 _ _ hty)),(),by trivial,by trivial,jh (fun i σ H'=>∃v3,σ=[some (.ref r),some (.ref d),some (.ref l1),v3]∧ag H H') ⟨(),s05⟩ ?_ ?_⟩
  ·rintro i σ H6 hi ⟨v3,rfl,s6⟩
   have hi':i<cur.ts.length:=by trivial
   have O6:=O.keep (fun a _ o h=>s6 a o h) s6.tp
   refine mC (t:=pQ _ _ _) fun DB nB=>?_
   have hz0:(0:Int)+(i:Int)=(i:Int):=by trivial
   refine ⟨(),r,dx,(),s6 _ _ hr0,rfl,(),r,L,_,past,cur,rfl,R.sm s6,fun _=>⟨(),(),d,_,.inr "shut",(),rfl,O6.hd,vS,q,(),.inl (af.of O6.l.hq),rfl,vW _,?_⟩,fun n=>absurd ⟨by trivial,by trivial⟩ n⟩
   simp only [if_false,Bool.false_eq_true,CL]
   exact ⟨_,_,.bool (decide ((0:Int)+(i:Int)∈cur.sh)),ED,rfl,.bl _,.bl _,trivial,fun H7 s7=>⟨(),aP (nB _ _ ⟨(),s6.trans s7⟩)⟩⟩
  ·rintro σ H6 ⟨v3,rfl,s6⟩
   exact n2 _ _ (k _ s6)
end
end K39
namespace K39
open PySem L2
set_option maxHeartbeats 8000000
section
variable {P:Program}{w:World}{K:PySem.W.Frag}{mg:Str→Option Value}{base:Heap}
inductive zH (C:Addr) (vs:List V) (H:Hp) (Q:VK):Prop
 | mk (r L:Addr) (sts:List ai) (h0:vs=[.ref r]) (h1:aE C H r L sts) (h2:∀r' L' H',ag H H'→H r'=none→H L'=none→aE C H' r' L' sts→Q (.ref r') H')
def A2 (C:Addr):Sp:=fun vs H Q _=>zH C vs H Q
theorem zX (T:Txt K mg):aS P w K mg base CX0 3 T.f_Roads__twin T.d_Roads__twin ["self"] (A2 T.x_Roads):=by
 have G_Roads____init__:=#[(mT)]
 refine T.F_Roads__twin.ok lG (fun vs H Q E h=>?_) (fun cdv A outer s H vs Q E hr h=>?_)
 ·obtain ⟨r,L,sts,rfl,_⟩:=h
  rfl
 ·obtain ⟨r,L,sts,rfl,R,k⟩:=h
  refine ⟨_,#[#[1,lG.nd,fD,#[tH 11 T.mk_Roads G_Roads____init__ (hr.mono (by decide)) mZ T.m_Roads T.B_Roads____init__ (@hR _) (by decide)]] :: #[#[u6 8 #[1,fD] #[b9 9 (@cx _ (K) (by rfl)) nU T.b_list (@bL) #[[#[db 5 #[0,nu] rfl]]] (by decide) (by decide) (by rfl) (by rfl)] (by rfl)] :: #[aa 3 #[am 4 #[1,fD]]]]],?_⟩
  obtain ⟨dx,xs,hr0,hL,ha⟩:=R
  refine fh fun Q0 n0=>fun r' dx' J0 fr' sJ hr'=>⟨r',dx',rfl,hr',fun L0 H1 fL0 kp R1=>⟨rfl,n0 _ _ ?_⟩⟩
  have s1:ag H H1:=fun x o h=>kp x o (fun e=>by rw [e,fr'] at h;cases h) (sJ _ _ h)
  obtain ⟨dx1,xs1,hr1,_,_⟩:=R1
  refine bd fun D1 n1=>⟨(),r,T.x_Roads,dx,_,(),s1 _ _ hr0,T.c_Roads,T.n_Roads_states,rfl,L,xs,rfl,.inl (af.of (s1 _ _ hL)),fun L' H2 m2=>⟨(),r',T.x_Roads,dx1,(),m2.sm _ _ hr1,T.c_Roads,T.n_Roads_states,(by show 1<1000;decide),fun H3 c3=>n1 _ _ ⟨(),?_⟩⟩⟩
  have nr:∀{x o},H x=some o→x≠r':=fun h e=>by rw [e,fr'] at h;cases h
  have s3:ag H H3:=fun x o h=>c3.ol x o (nr h) (m2.sm _ _ (s1 _ _ h))
  have nLr:L'≠r':=fun e=>by have:=m2.fr;rw [e,hr1] at this;cases this
  exact k r' L' H3 s3 fr' (s1.free m2.fr) ⟨dx1,xs,c3.at',c3.ol _ _ nLr m2.at',ha.mono s3.toE⟩
inductive zx (K:PySem.W.Frag) (vs:List V) (H:Hp) (Q:VK):Prop
 | mk (d p t q:Addr) (v:V) (kvs:List (aV×V)) (cur:ai) (h0:vs=[.ref d]) (h1:H d=some (.dK kvs)) (h2:valD kvs (.inr "places")=some (.ref p)) (h3:valD kvs (.inr "ties")=some (.ref t)) (h4:valD kvs (.inr "shut")=some (.ref q)) (h5:valD kvs (.inr "ends")=some v) (h6:lH H p t q v cur) (h7:∀(e:eQ) H',ag H H'→H e.o=none→H e.p=none→H e.t=none→H e.q=none→[e.o,e.p,e.t,e.q].Nodup→H' e.o=some (.dK (sn e.p e.t e.q e.v))→lH H' e.p e.t e.q e.v cur→Q (.ref e.o) H')
def BU (K:PySem.W.Frag):Sp:=fun vs H Q _=>zx K vs H Q
theorem AD (T:Txt K mg):aS P w K mg base CX0 1 T.l_copied_.f T.l_copied_.d ["_law_own"] (BU K):=by
 refine T.l_copied_.F.ok pD (fun vs H Q E h=>?_) (fun cdv A outer s H vs Q E hr h=>?_)
 ·obtain ⟨d,p,t,q,v,kvs,cur,rfl,_⟩:=h
  rfl
 ·obtain ⟨d,p0,t0,q0,v,kvs,cur,rfl,hd,v1,v2,v3,v4,O,k⟩:=h
  refine ⟨_,#[aa 3 #[am 4 #[me 5 #[cn 8 #[ac 4] #[b9 9 (@cx _ (K) (by rfl)) cQ T.b_list (@bL) #[[#[aK 7 (@aJ _) #[0,bN] #[ac 4] (fun _ _=>rfl)]]] (by decide) (by decide) (by rfl) (by rfl)] #[cn 8 #[ac 4] #[b9 9 (@cx _ (K) (by rfl)) cQ T.b_list (@bL) #[[#[aK 7 (@aJ _) #[0,bN] #[ac 4] (fun _ _=>rfl)]]] (by decide) (by decide) (by rfl) (by rfl)] #[cn 8 #[ac 4] #[b9 9 (@cx _ (K) (by rfl)) cQ T.b_list (@bL) #[[#[aK 7 (@aJ _) #[0,bN] #[ac 4] (fun _ _=>rfl)]]] (by decide) (by decide) (by rfl) (by rfl)] #[cn 8 #[ac 4] #[aK 7 (@aJ _) #[0,bN] #[ac 4] (fun _ _=>rfl)] (@qr _)]]]] (by rfl) (by rfl) (by exact fun z=>nomatch z) (by decide)]]],?_⟩
  intro d1 H0 m0
  obtain ⟨xs,hx1,hx2⟩:=O.ht
  have hd0:=m0.sm _ _ hd
  refine ⟨.inr "places",rfl,(),d,_,.inr "places",(),rfl,hd0,v1,p0,(),.inl (af.of (m0.sm _ _ O.hp)),fun p H1 m1=>?_⟩
  have s1:=m0.sm.trans m1.sm
  refine ⟨.inr "ties",rfl,(),d,_,.inr "ties",(),rfl,s1 _ _ hd,v2,t0,(),.inl (af.of (s1 _ _ hx1)),fun t H2 m2=>?_⟩
  have s2:=s1.trans m2.sm
  refine ⟨.inr "shut",rfl,(),d,_,.inr "shut",(),rfl,s2 _ _ hd,v3,q0,(),.inl (af.of (s2 _ _ O.hq)),fun q H3 m3=>?_⟩
  have s3:=s2.trans m3.sm
  refine ⟨.inr "ends",rfl,(),d,_,.inr "ends",(),rfl,s3 _ _ hd,v4,?_⟩
  have hd4:=m3.sm _ _ (m2.sm _ _ (m1.sm _ _ m0.at'))
  refine ⟨hd4,zk (p:=p) (t:=t) (q:=q) (v:=v),(by show 4≤15;decide),fun H5 c5=>?_⟩
  have fp:=m1.fr
  have ft:=m1.sm.free m2.fr
  have fq:=m1.sm.free (m2.sm.free m3.fr)
  have g0:∀{x},H0 x=none→H x=none:=fun h=>m0.sm.free h
  have nd0:∀{x},H0 x=none→x≠d1:=fun h e=>by rw [e,m0.at'] at h;cases h
  have tp:p≠t:=fun e=>by have:=m2.fr;rw [←e,m1.at'] at this;cases this
  have pq:p≠q:=fun e=>by have:=m3.fr;rw [←e,m2.sm _ _ m1.at'] at this;cases this
  have tq:t≠q:=fun e=>by have:=m3.fr;rw [←e,m2.at'] at this;cases this
  have s5:ag H H5:=fun a o h=>c5.ol a o (fun e=>by have:=m0.fr;rw [←e,h] at this;cases this) (s3 _ _ h)
  refine k ⟨d1,p,t,q,v⟩ H5 s5 m0.fr (g0 fp) (g0 ft) (g0 fq) ?_ c5.at' ⟨c5.ol _ _ (nd0 fp) (m3.sm _ _ (m2.sm _ _ m1.at')),⟨xs,c5.ol _ _ (nd0 ft) (m3.sm _ _ m2.at'),hx2.mono s5.toE⟩,c5.ol _ _ (nd0 fq) m3.at',O.hv.mono s5.toE⟩
  simp only [List.nodup_cons,List.mem_cons,not_or,List.not_mem_nil,or_false]
  have:=nd0 fp
  have:=nd0 ft
  have:=nd0 fq
  grind
theorem zS {H:Hp}{es:List eQ}{ss:List ai} (h:gy H es ss):∀{i:Nat}{e:eQ},es[i]?=some e→∃s,ss[i]?=some s∧H e.o=some (.dK (sn e.p e.t e.q e.v))∧lH H e.p e.t e.q e.v s:=by
 induction h with
 | nil=>exact fun h=>by simp at h
 | @cons e es s ss ho l r ih=>
  intro i e' h
  cases i with
  | zero=>simp at h;subst h;exact ⟨s,rfl,ho,l⟩
  | succ i=>exact ih (by simpa using h)
inductive BP (K:PySem.W.Frag) (vs:List V) (H:Hp) (Q:VK):Prop
 | mk (d:Addr) (F:List Addr) (past:List ai) (cur:ai) (h0:vs=[.ref d]) (h1:em H d F past cur) (h2:past.length≤1000) (h3:∀d' F' H',ag H H'→(∀a∈F',H a=none)→em H' d' F' past cur→Q (.ref d') H')
def Dr (K:PySem.W.Frag):Sp:=fun vs H Q _=>BP K vs H Q
theorem vM (T:Txt K mg):aS P w K mg base CX0 2 T.l_twin_of_.f T.l_twin_of_.d ["_law_own"] (Dr K):=by
 have G_l_copied:=#[(AD)]
 refine T.l_twin_of_.F.ok oI (fun vs H Q E h=>?_) (fun cdv A outer s H vs Q E hr h=>?_)
 ·obtain ⟨d,F,past,cur,rfl,_⟩:=h
  rfl
 ·obtain ⟨d,F,past,cur,rfl,O,lp,k⟩:=h
  refine ⟨_,#[#[1,oI.nd,fE,#[G_l_copied,mK,T.l_copied_,#[[#[0,jP]]]]] :: #[#[dL 6 #[ic 7 (["_law_one"]) (1) ([]) _ _ _ _ rfl (by kernel_rfl) (@rE _ (K) _ _ _ #[aK 7 (@aJ _) #[0,jP] #[ac 4] (fun _ _=>rfl)] (by rfl)) (fun _ _ _ _ _ _=>#[0,(),()]) (fun _ _ _ _ _ _=>@gh _) (fun _ _ _ _ _ _=>#[G_l_copied,(),T.l_copied_,#[[#[0,()]]]]) (by intro _;rfl)] #[lY 7 #[1,fE] #[ac 4] (@td _) (by intro _;rfl)] (by rfl) (by rfl) (by rfl)] :: #[aa 3 #[am 4 #[1,fE]]]]],?_⟩
  obtain ⟨p,t,q,z,v,es,O,rfl⟩:=O
  have le:=O.hs.len
  refine fh fun Q0 n0=>⟨(),d,p,t,q,v,_,cur,rfl,O.hd,vP,vT,vS,vE,O.l,fun e0 H1 s1 fo fp ft fq nd0 ho0 l0=>n0 _ _ ?_⟩
  have O1:=O.keep (fun a _ o h=>s1 a o h) s1.tp
  refine bd fun D1 n1=>⟨(),d,_,.inr "past",(),rfl,O1.hd,vA,z,rfl,⟨_,af.of O1.hz⟩,fun D hD=>?_⟩
  refine fZ (n:=es.length) (fun i H' zs=>∃fs:List eQ,zs=fs.map (fun e=>V.ref e.o)∧H' D=some (.lst zs)∧ag H1 H'∧gy H' fs (past.take i)∧(cE fs).Nodup∧(∀a∈cE fs,H1 a=none)∧D∉cE fs) (gZ (by trivial)) ⟨[],rfl,au,dU hD (ag.refl _),.nil,List.nodup_nil,(fun a h=>nomatch h),fun h=>nomatch h⟩ ?_ ?_ ?_ ?_ ?_
  ·rintro i H' zs ⟨fs,rfl,e,_,ps,_⟩
   have:=ps.len
   rw [List.length_take] at this
   exact ⟨e,by rw [List.length_map];trivial⟩
  ·rintro i H' zs hi ⟨fs,rfl,e,sm,_⟩
   exact ⟨_,V.ref es[i].o,af.of (sm _ _ O1.hz),by rw [List.getElem?_map,List.getElem?_eq_getElem hi];rfl⟩
  ·rintro H' zs ⟨fs,rfl,e,sm,_⟩
   exact ⟨_,af.of (sm _ _ O1.hz),by rw [List.length_map];exact Nat.le_refl _⟩
  ·rintro i J1 zs x J2 hi ⟨fs,rfl,hD1,sm,ps,ndf,ff,nDf⟩ ⟨rfl,ex⟩
   have ex':=ex _ (af.of (sm _ _ O1.hz))
   rw [List.getElem?_map,List.getElem?_eq_getElem hi] at ex'
   obtain rfl:V.ref es[i].o=x:=Option.some.inj ex'
   obtain ⟨s0,es0,ho,hl⟩:=zS O1.hs (List.getElem?_eq_getElem hi)
   refine ⟨sO,(),es[i].o,es[i].p,es[i].t,es[i].q,es[i].v,_,s0,rfl,sm _ _ ho,cX,(bn vc).trans cX,(bn uR).trans ((bn uZ).trans cX),(bn uH).trans ((bn u4).trans ((bn uW).trans cX)),hl.keep (fun a o _ h=>sm a o h) sm.tp,fun e J3 s3 f1 f2 f3 f4 nd' ho3 l3=>?_⟩
   have hD3:=s3 _ _ hD1
   have nD:∀{x},J2 x=none→x≠D:=fun h e=>by rw [e,hD1] at h;cases h
   have tp:jM J3 (aH J3 D (.lst (fs.map (fun e=>V.ref e.o)++[V.ref e.o]))):=fun a us h=>by rw [ao (mJ h hD3 (by intro z;cases z))];exact h
   have kp:∀a o,a≠D→J3 a=some o→aH J3 D (.lst (fs.map (fun e=>V.ref e.o)++[V.ref e.o])) a=some o:=fun a o n h=>by rw [ao n];exact h
   refine ⟨hD3,fs++[e],by rw [List.map_append];rfl,au,dU hD (sm.trans s3),?_,?_,?_,?_⟩
   ·rw [List.take_add_one,es0]
    refine gy.snoc ((ps.keep (fun a _ o h=>s3 a o h) s3.tp).keep (fun a ha o h=>kp a o (fun z=>nDf (z▸ha)) h) tp) (kp _ _ (nD f1) ho3) (l3.keep (fun a o ha h=>kp a o ?_ h) tp)
    rcases ha with rfl | rfl | rfl
    ·exact nD f2
    ·exact nD f3
    ·exact nD f4
   ·rw [fg,List.nodup_append]
    refine ⟨ndf,by simpa [cE] using nd',fun a ha b hb z=>?_⟩
    subst z
    have th:=ps.there a ha
    simp only [cE,List.mem_cons,List.not_mem_nil,or_false] at hb
    rcases hb with rfl | rfl | rfl | rfl
    ·exact th f1
    ·exact th f2
    ·exact th f3
    ·exact th f4
   ·intro a ha
    rw [fg,List.mem_append] at ha
    rcases ha with ha | hb
    ·exact ff a ha
    ·simp only [cE,List.mem_cons,List.not_mem_nil,or_false] at hb
     rcases hb with rfl | rfl | rfl | rfl
     ·exact sm.free f1
     ·exact sm.free f2
     ·exact sm.free f3
     ·exact sm.free f4
   ·intro h
    rw [fg,List.mem_append] at h
    rcases h with h | hb
    ·exact nDf h
    ·simp only [cE,List.mem_cons,List.not_mem_nil,or_false] at hb
     rcases hb with rfl | rfl | rfl | rfl
     ·exact nD f1 rfl
     ·exact nD f2 rfl
     ·exact nD f3 rfl
     ·exact nD f4 rfl
  ·rintro J1 zs ⟨fs,rfl,hD1,sm,ps,ndf,ff,nDf⟩
   rw [List.take_of_length_le (by trivial)] at ps
   have ho1:=sm _ _ ho0
   refine ⟨(),e0.o,_,.inr "past",rfl,rfl,ho1,(by show 4≤4000;decide),fun J2 c2=>n1 _ _ ⟨(),?_⟩⟩
   have es:cG (sn e0.p e0.t e0.q e0.v) (.inr "past") (.ref D)=eX e0.p e0.t e0.q D e0.v:=by
    rw [sn,dX y7,dX ze,dX yZ,dX zg]
    rfl
   rw [es] at c2
   have g1:∀{x},H1 x=none→H x=none:=fun h=>s1.free h
   have ne0:∀{x o},H1 x=some o→∀{y},H1 y=none→x≠y:=fun h _ g e=>by rw [e,g] at h;cases h
   obtain ⟨xs0,hx0,hx0d⟩:=l0.ht
   have noD:e0.o≠D:=ne0 ho0 hD
   have npD:e0.p≠D:=ne0 l0.hp hD
   have ntD:e0.t≠D:=ne0 hx0 hD
   have nqD:e0.q≠D:=ne0 l0.hq hD
   have nff:∀{x o},H1 x=some o→x∉cE fs:=fun h g=>by rw [ff _ g] at h;cases h
   have tp:jM J1 J2:=c2.tp ⟨_,ho1⟩
   simp only [List.nodup_cons,List.mem_cons,not_or,List.not_mem_nil,or_false] at nd0
   have nof:=nff ho0
   refine k e0.o (b5 e0.o e0.p e0.t e0.q D fs) J2 (fun a o h=>c2.ol a o (fun e=>by rw [e,fo] at h;cases h) (sm _ _ (s1 _ _ h))) (fun a ha=>?_) ⟨e0.p,e0.t,e0.q,D,e0.v,fs,⟨c2.at',(l0.keep (fun a o _ h=>sm a o h) sm.tp).keep (fun a o ha h=>c2.ol a o (by rcases ha with rfl | rfl | rfl <;> grind) h) tp,c2.ol _ _ (Ne.symm noD) hD1,ps.keep (fun a ha o h=>c2.ol a o (fun e=>nof (e▸ha)) h) tp,?_⟩,rfl⟩
   ·simp only [b5,List.mem_cons] at ha
    rcases ha with rfl | rfl | rfl | rfl | rfl | ha
    ·exact fo
    ·exact g1 hD
    ·exact fp
    ·exact ft
    ·exact fq
    ·exact g1 (ff a ha)
   ·have h1:=nff l0.hp
    have h2:=nff hx0
    have h3:=nff l0.hq
    simp only [b5,List.nodup_cons,List.mem_cons,not_or]
    grind
end
end K39
namespace K39
open PySem L2
set_option maxHeartbeats 8000000
theorem wV {c:TT}{tb:TS}{D:cZ}{σ:St}{H:Hp} (Pv:Nat→St→Hp→Prop) (m:Nat) (h0:Pv m σ H)
 (hs:∀m σ H,Pv m σ H→∀(Q:Bool→Hp→Prop) (D':cZ),(∀m' σ' H',m'<m→Pv m' σ' H'→D'.nx σ' H')→(∀v H',D.rt v H'→D'.rt v H')→(∀H1,tb D' σ H1→Q true H1)→(∀H1,D.nx σ H1→Q false H1)→c σ H Q):ui c tb D σ H:=by
 refine ⟨Pv,⟨m,h0⟩,fun m σ H h=>?_⟩
 refine hs m σ H h _ { D with nx:=fun σ' H'=>∃m',m'<m∧Pv m' σ' H',ct:=fun σ' H'=>∃m',m'<m∧Pv m' σ' H',bk:=D.nx } (fun m' σ' H' hm hp=>⟨m',hm,hp⟩) (fun _ _ z=>z) (fun H1 t=>?_) fun H1 t=>?_
 ·rw [if_pos rfl]
  exact ⟨_,fun _ _ z=>z,t⟩
 ·rw [if_neg (by decide)]
  exact t
theorem tZ (n:Nat):(List.range n).map (fun _=>V.bl true)=(List.replicate n true).map V.bl:=by
 rw [List.map_replicate]
 apply List.ext_getElem?
 intro i
 by_cases h:i<n
 ·simp [h]
 ·rw [List.getElem?_eq_none (by simp;trivial),List.getElem?_eq_none (by simp;trivial)]
theorem uY {xs:List bT}{f:bT→V}{i:Nat}{x:bT} (h:xs[i]?=some x):gT (xs.map f) (i:Int)=some (f x):=i3 (by rw [List.getElem?_map,h];rfl)
section
variable {P:Program}{w:World}{K:PySem.W.Frag}{mg:Str→Option Value}{base:Heap}
inductive Aj (C:Addr) (vs:List V) (H:Hp) (Q:VK):Prop
 | mk (H2:Hp) (b s o nl:Addr) (ls:List (List Nat)) (xs:List bT) (N:Nat) (t:Int) (h0:vs=[.ref b,.ref s,.ref o,.ref nl]) (h1:dN C H2 H b s o nl ls xs N t) (h2:N≤500) (h3:0≤t) (h4:t≤700000) (h5:1≤xs.length) (h6:xs.length≤10) (h7:1≤ls.length) (h8:ls.length≤100) (h9:∀H' xs' t',dN C H2 H' b s o nl ls xs' (N+1) t'→xs'.length=xs.length→t≤t'→t'≤t+30→Q (.bl true) H')
def A8 (C:Addr):Sp:=fun vs H Q _=>Aj C vs H Q
theorem sL (T:Txt K mg):aS P w K mg base CX0 9 T.l_turn_right_.f T.l_turn_right_.d ["_law_box_here", "_law_some", "_law_owns", "_law_names_here"] (A8 T.x_Roads):=by
 have G_l_take:=#[(iZ)]
 have G_l_deed:=#[(uU)]
 have G_l_may:=#[(xj)]
 have G_l_same:=oF (P:=P) (w:=w) (base:=base) T 2
 have G_l_done:=#[(vi)]
 have G_l_step:=#[(u7)]
 have G_l_stands:=#[(sg)]
 refine T.l_turn_right_.F.ok iD (fun vs H Q E h=>?_) (fun cdv A outer s H vs Q E hr h=>?_)
 ·obtain ⟨H2,b,s,o,nl,ls,xs,N,t,rfl,_⟩:=h
  rfl
 ·obtain ⟨H2,b,so,oo,nl,ls,xs,N,t,rfl,W,hN,ht0,ht1,lx1,lx2,ll1,ll2,k⟩:=h
  refine ⟨_,#[#[4,iD.nd,cC,#[G_l_take,lQ,T.l_take_,#[[#[0,fK],#[(),(),(@dB _ (K) (by rfl)),jq,T.b_len,(@be),#[[#[1,eT]]]]]]]] :: #[#[5,iD.nd,bZ,#[G_l_deed,lI,T.l_deed_,#[[#[0,fK],#[3,js],#[(),(),(@dB _ (K) (by rfl)),jq,T.b_len,(@be),#[[#[aK 7 (@aJ _) #[#[2,cS][#[4,cC]]!] #[ac 4] (fun _ _=>rfl)]]]],#[cT 4]]]]] :: #[#[aL 8 #[cP 3 #[G_l_may,mE,T.l_may_,#[[#[#[2,cS][#[4,cC]]!],#[5,bZ]]]] (by intro _;rfl)] #[aa 3 #[aL 8 #[gY 4 #[cP 3 #[G_l_same,l6,T.l_same_,#[[#[G_l_done,lE,T.l_done_,#[[#[#[1,eT][#[4,cC]]!],#[5,bZ]]]],#[G_l_step,lK,T.l_step_,#[[#[#[2,cS][#[4,cC]]!],#[5,bZ]]]]]]] (by intro _;rfl)]] #[aa 3 #[am 4 #[cT 4]]] (@az _)]] (@az _)] :: #[aa 3 #[am 4 #[(),(),(@vv _ (K) rfl (by rfl)),oE,T.b_all,(@mH),#[[#[ic 7 (["_law_roads", "_law_own"]) (2) ([]) _ _ _ _ rfl (by kernel_rfl) (@kN _ (K) _ _ _ _ _ _ _ _ nK T.b_zip #[[#[1,eT],#[2,cS]]] (by rfl) (by rfl) (by rfl)) (fun _ _ _ _ _ _=>(@b7 _ (K) _ _ _ _ (2) rfl #[aq 5 #[0,(),()] #[aq 5 #[1,(),()] (@cq _) (by rfl)] (by rfl)] (by rfl) (by rfl) (by rfl))) (fun _ _ _ _ _ _=>@gh _) (fun _ _ _ _ _ _=>#[G_l_stands,(),T.l_stands_,#[[#[0,()],#[1,()]]]]) (by intro _;rfl)]]]]]]]]],?_⟩
  have lm:((xs.map fun x=>V.ref x.r).length:Int)=xs.length:=by rw [List.length_map]
  refine fh fun Q0 n0=>⟨(),(),so,(),.inl (af.of W.hs),b,_,t,rfl,W.B,by trivial,pI (by trivial) (by trivial),by trivial,by trivial,fun r1 t1 H1 r10 r11 h1a h1b s1 B1=>n0 _ _ ?_⟩
  obtain ⟨j,rfl⟩:=Int.eq_ofNat_of_zero_le r10
  have hj:j<xs.length:=by trivial
  have ex:xs[j]?=some xs[j]:=List.getElem?_eq_getElem hj
  generalize xs[j]=x at ex
  have mx:=List.mem_of_getElem? ex
  have W1:=W.draw s1 B1
  have Bx1:=W1.S.bo x mx
  obtain ⟨p,tt,q,z,v,es,OX,eF⟩:=Bx1.O
  obtain ⟨ys,hty,htd⟩:=OX.l.ht
  have ly:=htd.length
  rw [List.length_map] at ly
  have okt:=Bx1.ok.cu.lt
  refine fh fun Q2 n2=>⟨(),(),(),(),oo,_,_,(),rfl,af.of W1.ho,uY ex,x.d,_,.inr "ties",(),rfl,OX.hd,vT,tt,ys,rfl,.inl (af.of hty),b,nl,_,t1,true,ls,rfl,B1,by trivial,by trivial,W1.hn,W1.n3,ll1,ll2,by trivial,by trivial,fun vD D t3 H3 s3 dD B3 h3a h3b=>n2 _ _ ?_⟩
  have W3:=W1.draw s3 B3
  have Bx3:=W3.S.bo x mx
  obtain ⟨p',t',q',z',v',es',OX3,eF3⟩:=Bx3.O
  refine bd fun D4 n4=>⟨(),(),oo,_,_,(),rfl,af.of W3.ho,uY ex,(),x.d,p',t',q',z',v',_,es',x.past,x.cur,D,rfl,OX3,dD,fun bb=>⟨(),?_⟩⟩
  have all_:∀(H5:Hp) (xs5:List bT),dN T.x_Roads H2 H5 b so oo nl ls xs5 (N+1) t3→xs5.length=xs.length→D4.nx [some (.ref b),some (.ref so),some (.ref oo),some (.ref nl),some (.int (j:Int)),some vD] H5:=fun H5 xs5 W5 l5=>by
   refine n4 _ _ ⟨(),(),so,oo,true,true,rfl,⟨_,af.of W5.hs⟩,⟨_,af.of W5.ho⟩,fun D6 hD6=>?_⟩
   refine rz (K:=K) (fun _=>.bl true) (by rw [List.length_map,List.length_map];trivial) hD6 (fun H' sm=>af.of (sm _ _ W5.hs)) (fun H' sm=>af.of (sm _ _ W5.ho)) ?_ ?_
   ·intro i xv yv H6 Rk hxv hyv sm kk
    rw [List.getElem?_map] at hxv hyv
    obtain ⟨y,ey,rfl⟩:=Option.map_eq_some_iff.mp hxv
    rw [ey] at hyv
    obtain rfl:=Option.some.inj hyv
    exact ⟨qc,(),(),y.r,y.L,y.d,y.F,y.past,y.cur,rfl,((W5.S.bo y (List.mem_of_getElem? ey)).sm sm).mono (by trivial),fun H7 s7=>kk _ s7⟩
   ·intro H6 sm h6
    rw [tZ] at h6
    refine ⟨D6,(),af.of h6,?_⟩
    rw [oO]
    exact k H6 xs5 t3 (W5.sm sm) l5 (by trivial) (by trivial)
  cases bb with
  | false=>exact aP (all_ H3 xs (W3.mono (Nat.le_succ _)) rfl)
  | true=>
   have ok3:=Bx3.ok.mono (show N≤5000 by trivial)
   refine aZ ⟨(),(),so,_,_,(),rfl,af.of W3.hs,uY ex,(),x.r,x.L,vD,D,_,(),dD,Bx3.R,ok3,fun u1 H5 s5 R5 d5=>?_⟩
   have O5:=Bx3.O.keep s5 (fun a ha e=>Bx3.nL (by have e':a=x.L:=e;rw [←e'];exact ha))
   have out:=W3.S.out x mx
   have ho5:H5 oo=some (.lst (xs.map fun x=>V.ref x.d)):=s5.old _ _ (fun e=>out oo (by have e':oo=x.L:=e;simp [ft,e']) (.inr (.inr (.inl rfl)))) W3.ho
   refine ⟨(),(),oo,_,_,(),rfl,af.of ho5,uY ex,(),x.d,vD,D,x.F,_,(),O5,dD.mono (bF s5.tup),ok3,fun u2 H6 F6 s6 O6 sub6 d6=>?_⟩
   have nbF:b∉x.F:=fun e=>out b (by simp [ft,e]) (.inl rfl)
   have nbL:b≠x.L:=fun e=>out b (by simp [ft,e]) (.inl rfl)
   obtain ⟨B6,fr6⟩:=Bx3.turn (b:=b) nbF nbL s5 R5 s6 O6 (Bx3.ok.aft D) sub6
   have Bb6:Bx H6 b t3:=(B3.frm s5 nbL).frm s6 nbF
   have W6:=W3.turn ex B6 fr6 Bb6 (Nat.le_succ N)
   refine ⟨u1,u2,_,ED,rfl,d5.mono (bF s6.tup),d6,sV _ _ _ 0,fun H7 s7=>⟨(),aP (all_ _ _ (W6.sm s7) (by rw [List.length_set]))⟩⟩
inductive Bs (K:PySem.W.Frag) (vs:List V) (H:Hp) (Q:VK):Prop
 | mk (a:Addr) (ns:List Int) (h0:vs=[.ref a]) (h1:af K H a (ns.map V.int)) (h2:ns.length≤63) (h3:∀H',Q (.bl true) H')
def spLaw (K:PySem.W.Frag):Sp:=fun vs H Q _=>Bs K vs H Q
theorem law_start {H:Hp}{a:Addr}{ns:List Int} (hl:ns.length≤63) (_:qX H) (hS:af K H a (ns.map V.int)):spLaw K [.ref a] H (fun v _=>v=.bl true) fun _ _ _=>False:=
 ⟨a,ns,rfl,hS,hl,fun _=>rfl⟩
theorem law_ok (T:Txt K mg):aS P w K mg base CX0 40 T.law_.f T.law_.d ["_law_script"] (spLaw K):=by
 have G_l_boxes:=#[(yU)]
 have G_l_take:=#[(iZ)]
 have G_l_names:=#[(yb)]
 have G_l_deed:=#[(uU)]
 have G_l_may:=#[(xj)]
 have G_Roads____init__:=#[(mT)]
 have G_l_begin:=#[(yM)]
 have G_l_same:=oF (P:=P) (w:=w) (base:=base) T 2
 have G_l_done:=#[(vi)]
 have G_l_step:=#[(u7)]
 have G_l_stands:=#[(sg)]
 have G_Roads__twin:=#[(zX)]
 have G_l_twin_of:=#[(vM)]
 have G_l_turn_right:=#[(sL)]
 refine T.law_.F.ok f9 (fun vs H Q E h=>?_) (fun cdv A outer s H vs Q E hr h=>?_)
 ·obtain ⟨a,ns,rfl,_⟩:=h
  rfl
 ·obtain ⟨a,ns,rfl,hS,hn,k⟩:=h
  refine ⟨_,#[#[iI 8 PassesOwn.never rfl (@rE _ (K) _ _ _ #[G_l_boxes,sC,T.l_boxes_,#[[#[0,qJ],#[()]]]] (by rfl)) #[1,f9.nd,bO] #[#[uP 2 (2) (3) (4) _ _ _ _ _ _ _ _ _ _ _ _ _ _ rfl f9.nd rfl rfl rfl (by decide) (by decide) (by decide) gf cN cj #[[#[G_l_names,sk,T.l_names_,#[[#[1,bO],#[aB 8 (@cz _) #[()] #[G_l_take,iG,T.l_take_,#[[#[1,bO],#[()]]]]]]]],#[bR 4 #[[#[tH 11 T.mk_Roads G_Roads____init__ (hr.mono (by decide)) uB T.m_Roads T.B_Roads____init__ (@hR _) (by decide)]]]],#[bR 4 #[[#[ym 13 G_l_begin (hr.mono (by decide)) si T.l_begin_.m T.l_begin_.F.kp T.l_begin_.B .nil (@hR _) (by decide)]]]]]] (by kernel_rfl) (by rfl)] :: #[#[iI 8 PassesOwn.never rfl #[eU 6 lc T.b_range #[[#[aB 8 (@cz _) #[()] #[G_l_take,iG,T.l_take_,#[[#[1,bO],#[()]]]]]]] (by rfl)] #[5,f9.nd,kI] #[#[6,f9.nd,et,#[G_l_deed,tE,T.l_deed_,#[[#[1,bO],#[2,gf],#[(),(),(@dB _ (K) (by rfl)),rf,T.b_len,(@be),#[[#[aK 7 (@aJ _) #[#[4,cj][#[()]]!] #[ac 4] (fun _ _=>rfl)]]]],#[bK 8 (@sN _) #[5,kI] #[()] #[(),()]]]]]] :: #[aa 3 #[aL 8 #[cP 3 #[G_l_may,uD,T.l_may_,#[[#[#[4,cj][#[()]]!],#[6,et]]]] (by intro _;rfl)] #[aa 3 #[aL 8 #[gY 4 #[cP 3 #[G_l_same,ou,T.l_same_,#[[#[G_l_done,nN,T.l_done_,#[[#[#[3,cN][#[()]]!],#[6,et]]]],#[G_l_step,oq,T.l_step_,#[[#[#[4,cj][#[()]]!],#[6,et]]]]]]] (by intro _;rfl)]] #[aa 3 #[am 4 #[cT 4]]] (@az _)]] (@az _)]]] (by intro _;rfl)] :: #[#[iI 8 PassesOwn.never rfl #[eU 6 lc T.b_range #[[#[()]]] (by rfl)] #[5,f9.nd,kI] #[#[7,f9.nd,mG,#[G_l_take,iG,T.l_take_,#[[#[1,bO],#[(),(),(@dB _ (K) (by rfl)),rf,T.b_len,(@be),#[[#[3,cN]]]]]]]] :: #[#[bj 4 (@bW _ (K) _ _ _ _ _ _ _ _ _ _ _ PySem.F.plainAttrs_list PySem.F.slot_list_append PySem.F.type_list_append (@bP _) #[3,cN] #[[#[iY 17 #[#[3,cN][#[7,mG]]!] T.c_Roads T.h_Roads__twin G_Roads__twin (hr.mono (by decide)) T.B_Roads__twin .nil (@hR _) (by rfl)]]] (by rfl) (by rfl) (by rfl) (by rfl) (by rfl) (by rfl)) (by rfl)] :: #[#[bj 4 (@bW _ (K) _ _ _ _ _ _ _ _ _ _ _ PySem.F.plainAttrs_list PySem.F.slot_list_append PySem.F.type_list_append (@bP _) #[4,cj] #[[#[G_l_twin_of,qC,T.l_twin_of_,#[[#[#[4,cj][#[7,mG]]!]]]]]] (by rfl) (by rfl) (by rfl) (by rfl) (by rfl) (by rfl)) (by rfl)] :: #[aa 3 #[iI 8 PassesOwn.never rfl #[eU 6 lc T.b_range #[[#[aB 8 (@cz _) #[()] #[G_l_take,iG,T.l_take_,#[[#[1,bO],#[()]]]]]]] (by rfl)] #[8,f9.nd,sx] #[aa 3 #[aL 8 #[gY 4 #[cP 3 #[G_l_turn_right,nJ,T.l_turn_right_,#[[#[1,bO],#[3,cN],#[4,cj],#[2,gf]]]] (by intro _;rfl)]] #[aa 3 #[am 4 #[cT 4]]] (@az _)]] (by intro _;rfl)]]]]] (by intro _;rfl)] :: #[aa 3 #[iI 8 PassesOwn.never rfl (@kN _ (K) _ _ _ _ _ _ _ _ rM T.b_zip #[[#[3,cN],#[4,cj]]] (by rfl) (by rfl) (by rfl)) (@b7 _ (K) _ _ _ _ (2) rfl #[aq 5 #[9,f9.nd,mS] #[aq 5 #[10,f9.nd,lg] (@cq _) (by rfl)] (by rfl)] (by rfl) (by rfl) (by rfl)) #[aa 3 #[ud 6 PassesOwn.never #[ar 8 (@yC _ hr.units) #[aK 7 (@aJ _) #[10,lg] #[ac 4] (fun _ _=>rfl)] #[bR 4 (@cA _)] #[(),()]] #[#[11,f9.nd,oi,#[G_l_done,nN,T.l_done_,#[[#[9,mS],#[aw 5 #[[#[ac 4]]]]]]]] :: #[#[aL 8 #[gY 4 #[cP 3 #[G_l_same,ou,T.l_same_,#[[#[11,oi],#[G_l_step,oq,T.l_step_,#[[#[10,lg],#[aw 5 #[[#[ac 4]]]]]]]]]] (by intro _;rfl)]] #[aa 3 #[am 4 #[cT 4]]] (@az _)] :: #[aa 3 #[aL 8 #[gY 4 #[cP 3 #[(),(),(@vv _ (K) rfl (by rfl)),xy,T.b_all,(@mH),#[[#[ic 7 (["_law_one", "_law_other"]) (2) ([]) _ _ _ _ rfl (by kernel_rfl) (@kN _ (K) _ _ _ _ _ _ _ _ rM T.b_zip #[[#[3,cN],#[4,cj]]] (by rfl) (by rfl) (by rfl)) (fun _ _ _ _ _ _=>(@b7 _ (K) _ _ _ _ (2) rfl #[aq 5 #[0,(),()] #[aq 5 #[1,(),()] (@cq _) (by rfl)] (by rfl)] (by rfl) (by rfl) (by rfl))) (fun _ _ _ _ _ _=>@gh _) (fun _ _ _ _ _ _=>#[G_l_stands,(),T.l_stands_,#[[#[0,()],#[1,()]]]]) (by intro _;rfl)]]]] (by intro _;rfl)]] #[aa 3 #[am 4 #[cT 4]]] (@az _)]]]]]] (by intro _;rfl)]]]]] (by intro _;rfl)] :: #[aa 3 #[am 4 #[cT 4]]]],?_⟩
  refine bd fun D0 n0=>⟨(),a,ns,rfl,hS,hn,fun lb bs H1 s1 hlb lbs nbs hbs=>⟨lb,rfl,⟨_,af.of hlb⟩,?_⟩⟩
  refine xR (xs:=bs.map V.ref) (fun i σ H'=>EZ fun (v1 v2 v3 v4 v5 v6 v7 v8 v9 va vb:Option V)=>σ=[some (.ref a),v1,v2,v3,v4,v5,v6,v7,v8,v9,va,vb]∧H' lb=some (.lst (bs.map V.ref))∧∀(j:Nat) (b:Addr),i≤j→bs[j]?=some b→Bx H' b 0) ⟨_,_,_,_,_,_,_,_,_,_,(),hlb,fun j b _ e=>hbs b (List.mem_of_getElem? e)⟩ (fun i σ H' _ ⟨_,_,_,_,_,_,_,_,_,_,_,_,h,_⟩=>af.of h) ?_ ?_
  case refine_2=>
   rintro σ H' ⟨v1,v2,v3,v4,v5,v6,v7,v8,v9,va,vb,rfl,_⟩
   exact n0 _ _ (k _)
  rintro i x σ H2 hx ⟨v1,v2,v3,v4,v5,v6,v7,v8,v9,va,vb,rfl,hlb2,hB⟩
  rw [List.getElem?_map] at hx
  obtain ⟨b,eb,rfl⟩:=Option.map_eq_some_iff.mp hx
  have Bb:=hB i b (Nat.le_refl _) eb
  have nlbb:lb≠b:=fun e=>by
   obtain ⟨c1,c2,q,_⟩:=Bb
   rw [←e,hlb2] at q
   injection q with q
   injection q with q
   have:bs=[]∨bw fun z zs=>bs=z :: zs:=by cases bs with
    | nil=>exact .inl rfl
    | cons z zs=>exact .inr ⟨z,zs,rfl⟩
   rcases this with rfl | ⟨z,zs,rfl⟩
   ·cases q
   ·cases q
  refine mC (t:=kP _ _) fun DB nB=>?_
  have done:∀(v2 v3 v4 v5 v6 v7 v8 v9 va vb:Option V) (H':Hp),ax (Eb b) H2 H'→DB.nx [some (.ref a),some (.ref b),v2,v3,v4,v5,v6,v7,v8,v9,va,vb] H':=fun v2 v3 v4 v5 v6 v7 v8 v9 va vb H' sE=>by
   refine nB _ _ ⟨_,_,_,_,_,_,_,_,_,_,(),sE.old _ _ nlbb hlb2,fun j b' hj e=>?_⟩
   have B':=hB j b' (by trivial) e
   refine B'.frm sE fun z=>?_
   have z':b'=b:=z
   rw [z'] at e
   obtain ⟨h1,e1⟩:=List.getElem?_eq_some_iff.mp e
   obtain ⟨h2,e2⟩:=List.getElem?_eq_some_iff.mp eb
   have:=nS nbs h1 h2 (by rw [e1,e2])
   trivial
  refine bd fun D3 n3=>⟨(),(),b,4,0,rfl,Bb,by decide,by decide,by decide,by decide,fun r3 t3 H3 r30 r31 h3a h3b s3 B3=>⟨_,(),rfl,b,_,t3,rfl,B3,by trivial,by trivial,by trivial,by trivial,fun nl ls t4 H4 fnl s4 hnl lls B4 h4a h4b=>?_⟩⟩
  intro r dx J0 fr0 sJ0 hr0
  refine ⟨r,dx,rfl,hr0,fun L H5 fL kp R5=>⟨rfl,(by show 1≤10000;decide),fun so H6 m6=>⟨rfl,fun d F H7 s7 O7 fF=>⟨(by show 1≤10000;decide),fun oo H8 m8=>⟨_,_,(),n3 _ _ ?_⟩⟩⟩⟩⟩
  have s45:ag H4 H5:=fun x o h=>kp x o (fun e=>by rw [e,fr0] at h;cases h) (sJ0 _ _ h)
  have s24:=s3.trans s4
  have fL4:H4 L=none:=sJ0.free fL
  have g2:∀{x},H4 x=none→H2 x=none:=fun h=>s24.none (fun e=>B4.th (by have e':=e;exact e'▸h)) h
  have s48:=((s45.trans m6.sm).trans s7).trans m8.sm
  have W8:dN T.x_Roads H2 H8 b so oo nl ls [⟨r,L,d,F,[],qA⟩] 0 t4:=by
   have Bd:eL T.x_Roads H8 r L d F [] qA 0:=⟨((R5.sm m6.sm).sm s7).sm m8.sm,O7.sm m8.sm,fN.zero _,fun h=>(R5.sm m6.sm).thL (fF _ h),fun h=>(R5.sm m6.sm).thr (fF _ h)⟩
   have th4:∀{x o},H4 x=some o→H6 x=some o:=fun h=>m6.sm _ _ (s45 _ _ h)
   have f5:∀{x},H5 x=none→H2 x=none:=fun h=>g2 (s45.free h)
   have f6:∀{x},H6 x=none→H2 x=none:=fun h=>f5 (m6.sm.free h)
   have hso7:=s7 _ _ m6.at'
   have bth:∃o,H4 b=some o:=by
    cases e:H4 b with
    | none=>exact absurd e B4.th
    | some o=>exact ⟨o,rfl⟩
   obtain ⟨ob,hb4⟩:=bth
   have hb7:=s7 _ _ (th4 hb4)
   have hn7:=s7 _ _ (th4 hnl)
   have sy:kS T.x_Roads H8 (Pt b so oo nl) [⟨r,L,d,F,[],qA⟩] 0:=by
    refine ⟨fun x hx=>?_,fun j k x y hjk hx hy=>?_,fun x hx y hy=>?_,fun x hx z hz=>?_,fun x hx=>?_⟩
    ·rw [List.mem_singleton.mp hx];exact Bd
    ·have:=(List.getElem?_eq_some_iff.mp hx).1
     have:=(List.getElem?_eq_some_iff.mp hy).1
     simp at *
     trivial
    ·rw [List.mem_singleton.mp hx,List.mem_singleton.mp hy]
     intro q
     rcases List.mem_cons.mp q with q | q
     ·exact R5.ne q
     ·exact Bd.nr q
    ·rw [List.mem_singleton.mp hx] at hz
     have hz4:H4 z=none∧z≠so∧z≠oo:=by
      rcases List.mem_cons.mp hz with q | q
      ·have q':z=L:=q
       subst q'
       have th:=R5.thL
       refine ⟨fL4,fun e=>th (e▸m6.fr),fun e=>?_⟩
       have:=((R5.sm m6.sm).sm s7).thL
       exact this (e▸m8.fr)
      ·have h6:=fF z q
       refine ⟨s45.free (m6.sm.free h6),fun e=>?_,fun e=>?_⟩
       ·rw [e,m6.at'] at h6;cases h6
       ·exact O7.there z q (e▸m8.fr)
     rintro (e | e | e | e)
     ·rw [e,hb4] at hz4;cases hz4.1
     ·exact hz4.2.1 e
     ·exact hz4.2.2 e
     ·rw [e,hnl] at hz4;cases hz4.1
    ·rw [List.mem_singleton.mp hx]
     rintro (e | e | e | e)
     ·have e':r=b:=e
      rw [e',hb4] at fr0;cases fr0
     ·have e':r=so:=e
      exact R5.thr (e'▸m6.fr)
     ·have e':r=oo:=e
      exact ((R5.sm m6.sm).sm s7).thr (e'▸m8.fr)
     ·have e':r=nl:=e
      rw [e',hnl] at fr0;cases fr0
   refine ⟨sy,m8.sm _ _ hso7,m8.at',m8.sm _ _ hn7,(B4.same s48),fun e=>?_,fun e=>?_,fun e=>B3.th (e▸fnl),fun e=>?_,fun e=>?_,fun e=>?_,s24.trans s48.toE,fun x hx z hz=>?_,Bb.th,f5 m6.fr,f6 (s7.free m8.fr)⟩
   ·have:=s45 _ _ hb4;rw [←e,m6.fr] at this;cases this
   ·rw [←e,m8.fr] at hb7;cases hb7
   ·rw [e,m8.fr] at hso7;cases hso7
   ·have:=s45 _ _ hnl;rw [←e,m6.fr] at this;cases this
   ·rw [←e,m8.fr] at hn7;cases hn7
   ·rw [List.mem_singleton.mp hx] at hz
    rcases List.mem_cons.mp hz with q | q
    ·have q':z=L:=q
     rw [q'];exact g2 fL4
    ·exact f6 (fF z q)
  have ll1:1≤ls.length:=by trivial
  have ll2:ls.length≤100:=by trivial
  refine bd fun D9 n9=>⟨(),b,12,t4,rfl,W8.B,by decide,by decide,by trivial,by trivial,fun r9 t9 H9 r90 r91 h9a h9b s9 B9=>⟨_,(),rfl,(),by trivial,by trivial,?_⟩⟩
  have W9:=W8.draw s9 B9
  refine jh (fun j σ H'=>mW fun (v5 v6:Option V) (x:bT) (t':Int)=>σ=[some (.ref a),some (.ref b),some (.ref nl),some (.ref so),some (.ref oo),v5,v6,v7,v8,v9,va,vb]∧dN T.x_Roads H2 H' b so oo nl ls [x] j t'∧t9≤t'∧t'≤t9+20*j) ⟨_,_,_,t9,rfl,W9,by trivial,by trivial⟩ ?_ ?_
  ·rintro j σ J1 hj ⟨v5,v6,x,t1,rfl,W1,g1a,g1b⟩
   refine mC (t:=kP _ _) fun DC nC=>?_
   have ex:[x][0]?=some x:=rfl
   have mx:x∈[x]:=by simp
   have Bx1:=W1.S.bo x mx
   obtain ⟨p,tt,q,z,v,es,OX,eF⟩:=Bx1.O
   obtain ⟨ys,hty,htd⟩:=OX.l.ht
   have ly:=htd.length
   rw [List.length_map] at ly
   have okt:=Bx1.ok.cu.lt
   refine fh fun Q2 n2=>⟨(),(),(),oo,_,_,(),rfl,af.of W1.ho,rfl,x.d,_,.inr "ties",(),rfl,OX.hd,vT,tt,ys,rfl,.inl (af.of hty),(),_,(),rfl,b,nl,_,t1,_,ls,rfl,W1.B,by trivial,by trivial,W1.hn,W1.n3,ll1,ll2,by trivial,by trivial,fun vD D t3 J3 s3 dD Bb3 g3a g3b=>n2 _ _ ?_⟩
   have W3:=W1.draw s3 Bb3
   have Bx3:=W3.S.bo x mx
   obtain ⟨p',t',q',z',v',es',OX3,eF3⟩:=Bx3.O
   refine ⟨(),oo,_,_,(),rfl,af.of W3.ho,rfl,(),x.d,p',t',q',z',v',_,es',x.past,x.cur,D,rfl,OX3,dD,fun bb=>⟨(),?_⟩⟩
   cases bb with
   | false=>exact aP (nC _ _ ⟨_,_,x,t3,rfl,W3.mono (Nat.le_succ _),by trivial,by trivial⟩)
   | true=>
    have ok3:=Bx3.ok.mono (show j≤5000 by trivial)
    refine aZ ⟨(),so,_,_,(),rfl,af.of W3.hs,rfl,(),x.r,x.L,vD,D,_,(),dD,Bx3.R,ok3,fun u1 J5 s5 R5' d5=>?_⟩
    have O5:=Bx3.O.keep s5 (fun a ha e=>Bx3.nL (by have e':a=x.L:=e;rw [←e'];exact ha))
    have out:=W3.S.out x mx
    have ho5:J5 oo=some (.lst ([x].map fun x=>V.ref x.d)):=s5.old _ _ (fun e=>out oo (by have e':oo=x.L:=e;simp [ft,e']) (.inr (.inr (.inl rfl)))) W3.ho
    refine ⟨(),oo,_,_,(),rfl,af.of ho5,rfl,(),x.d,vD,D,x.F,_,(),O5,dD.mono (bF s5.tup),ok3,fun u2 J6 F6 s6 O6 sub6 d6=>?_⟩
    have nbF:b∉x.F:=fun e=>out b (by simp [ft,e]) (.inl rfl)
    have nbL:b≠x.L:=fun e=>out b (by simp [ft,e]) (.inl rfl)
    obtain ⟨B6,fr6⟩:=Bx3.turn (b:=b) nbF nbL s5 R5' s6 O6 (Bx3.ok.aft D) sub6
    have Bb6:Bx J6 b t3:=(Bb3.frm s5 nbL).frm s6 nbF
    have W6:=W3.turn ex B6 fr6 Bb6 (Nat.le_succ j)
    exact ⟨u1,u2,_,ED,rfl,d5.mono (bF s6.tup),d6,sV _ _ _ 0,fun J7 s7'=>⟨(),aP (nC _ _ ⟨_,_,_,t3,rfl,W6.sm s7',by trivial,by trivial⟩)⟩⟩
  rintro σ K1 ⟨v5,v6,x1,tk,rfl,WK,gka,gkb⟩
  refine n9 _ _ ?_
  have WK:=WK.mono (show (6+r9).toNat≤20 by trivial)
  refine bd fun Da na=>⟨2,rfl,by decide,by decide,jh (fun j σ H'=>zh fun (v5 v6 v7 v8:Option V) (xs:List bT) (t':Int)=>σ=[some (.ref a),some (.ref b),some (.ref nl),some (.ref so),some (.ref oo),v5,v6,v7,v8,v9,va,vb]∧dN T.x_Roads H2 H' b so oo nl ls xs (20+12*j) t'∧xs.length=1+j∧tk≤t'∧t'≤tk+500*j) ⟨_,_,_,_,_,tk,rfl,WK,rfl,by trivial,by trivial⟩ ?_ ?_⟩
  ·rintro j σ J1 hj ⟨v5,v6,v7,v8,xs,t1,rfl,W1,lx,g1a,g1b⟩
   refine mC (t:=kP _ _) fun DC nC=>?_
   have lm:((xs.map fun x=>V.ref x.r).length:Int)=xs.length:=by rw [List.length_map]
   refine fh fun Q2 n2=>⟨(),(),so,(),.inl (af.of W1.hs),b,_,t1,rfl,W1.B,by trivial,pI (by trivial) (by trivial),by trivial,by trivial,fun r2 t2 J2 r20 r21 h2a h2b s2 Bb2=>n2 _ _ ?_⟩
   obtain ⟨m,rfl⟩:=Int.eq_ofNat_of_zero_le r20
   have hm:m<xs.length:=by trivial
   have ex:xs[m]?=some xs[m]:=List.getElem?_eq_getElem hm
   generalize xs[m]=x at ex
   have mx:=List.mem_of_getElem? ex
   have W2:=W1.draw s2 Bb2
   have Bx2:=W2.S.bo x mx
   obtain ⟨dx2,ys2,v2,hr2,_⟩:=Bx2.R.last
   refine bd fun Dd nd=>⟨(),.inl ⟨rfl,_,af.of W2.hs⟩,(),(),so,_,_,(),rfl,af.of W2.hs,uY ex,x.r,dx2,(),hr2,rfl,x.r,x.L,(),Bx2.R,fun r' L' J3 s3 fr' fL' R3=>⟨so,_,(),rfl,s3 _ _ W2.hs,by rw [List.length_map];trivial,fun J4 c4=>nd _ _ ?_⟩⟩
   have hso3:=s3 _ _ W2.hs
   have c24:ax (fun a=>a=so) J2 J4:=⟨fun a o n h=>c4.ol a o n (s3 _ _ h),fun a us h=>c4.tup (s3 _ _ h) hso3⟩
   have c34:ax (fun a=>a=so) J3 J4:=⟨fun a o n h=>c4.ol a o n h,fun a us h=>c4.tup h hso3⟩
   have S4:=W2.S.keep c24 (fun a e=>.inr (.inl e))
   have Bx4:=S4.bo x mx
   have ho4:J4 oo=some (.lst (xs.map fun x=>V.ref x.d)):=c24.old _ _ (Ne.symm W2.n4) W2.ho
   refine bd fun De ne_=>⟨(),.inl ⟨rfl,_,af.of ho4⟩,(),(),oo,_,_,(),rfl,af.of ho4,uY ex,x.d,x.F,x.past,x.cur,rfl,Bx4.O,by have:=Bx4.ok.lp;trivial,fun d' F' J5 s5 fF' O5=>⟨oo,_,(),rfl,s5 _ _ ho4,by rw [List.length_map];trivial,fun J6 c6=>ne_ _ _ ?_⟩⟩
   have ho5:=s5 _ _ ho4
   have c56:ax (fun a=>a=oo) J5 J6:=⟨fun a o n h=>c6.ol a o n h,fun a us h=>c6.tup h ho5⟩
   have nso:∀{y},J2 y=none→y≠so:=fun h e=>by rw [e,W2.hs] at h;cases h
   have noo:∀{y},J2 y=none→y≠oo:=fun h e=>by rw [e,W2.ho] at h;cases h
   have fF2:∀y∈F',J2 y=none:=fun y hy=>c24.none (fun e=>by
    have e':y=so:=e
    have:=fF' y hy
    rw [e',c4.at'] at this;cases this) (fF' y hy)
   have R4:aE T.x_Roads J4 r' L' (x.past++[x.cur]):=R3.keep c34 (nso fr') (nso fL')
   have R6:aE T.x_Roads J6 r' L' (x.past++[x.cur]):=(R4.sm s5).keep c56 (noo fr') (noo fL')
   have B6:eL T.x_Roads J6 r' L' d' F' x.past x.cur (20+12*j):=⟨R6,O5.keep c56 (fun a ha e=>noo (fF2 a ha) e),Bx4.ok,fun h=>R4.thL (fF' _ h),fun h=>R4.thr (fF' _ h)⟩
   have W6:dN T.x_Roads H2 J6 b so oo nl ls (xs++[⟨r',L',d',F',x.past,x.cur⟩]) (20+12*j) t2:=W2.add c24 (by rw [List.map_append];exact c4.at') s5 c56 (by rw [List.map_append];exact c6.at') B6 fr' (fun y hy=>by
    rcases List.mem_cons.mp hy with e | e
    ·have e':y=L':=e
     rw [e'];exact fL'
    ·exact fF2 y e)
   refine ⟨(),b,8,t2,rfl,W6.B,by decide,by decide,by trivial,by trivial,fun r7 t7 J7 r70 r71 h7a h7b s7' Bb7=>⟨_,(),rfl,(),by trivial,by trivial,?_⟩⟩
   have W7:=W6.draw s7' Bb7
   refine jh (fun m2 σ H'=>iC fun (v8:Option V) (xs':List bT) (t':Int)=>σ=[some (.ref a),some (.ref b),some (.ref nl),some (.ref so),some (.ref oo),some (.int (0+(j:Int))),v6,some (.int (m:Int)),v8,v9,va,vb]∧dN T.x_Roads H2 H' b so oo nl ls xs' (20+12*j+m2) t'∧xs'.length=2+j∧t7≤t'∧t'≤t7+30*m2) ⟨_,_,t7,rfl,W7,by rw [List.length_append,lx];simp;trivial,by trivial,by trivial⟩ ?_ ?_
   ·rintro m2 σ M1 hm2 ⟨v8,xs',t8,rfl,W8',lx',g8a,g8b⟩
    refine mC (t:=pQ _ _ _) fun DF nF=>?_
    exact ⟨(),(),(),(),H2,b,so,oo,nl,ls,xs',_,t8,rfl,W8',by trivial,by trivial,by trivial,by trivial,by trivial,ll1,ll2,fun M2 xs2 t9' W9' l9 h9a' h9b'=>⟨(),aP (nF _ _ ⟨_,xs2,t9',rfl,W9',by trivial,by trivial,by trivial⟩)⟩⟩
   ·rintro σ M1 ⟨v8,xs',t8,rfl,W8',lx',g8a,g8b⟩
    exact nC _ _ ⟨_,_,_,_,xs',t8,rfl,W8'.mono (by trivial),by trivial,by trivial,by trivial⟩
  rintro σ K2 ⟨v5,v6,v7,v8,xs,t1,rfl,W1,lx,g1a,g1b⟩
  refine na _ _ ?_
  refine ⟨(),(),so,oo,true,true,rfl,⟨_,af.of W1.hs⟩,⟨_,af.of W1.ho⟩,?_⟩
  refine At (K:=K) (n:=xs.length) (xs:=xs.map fun x=>V.ref x.r) (ys:=xs.map fun x=>V.ref x.d) (fun m σ H'=>mW fun (v9 va vb:Option V) (xs':List bT)=>σ=[some (.ref a),some (.ref b),some (.ref nl),some (.ref so),some (.ref oo),v5,v6,v7,v8,v9,va,vb]∧dN T.x_Roads H2 H' b so oo nl ls xs' 60 t1∧(xs'.map fun x=>V.ref x.r)=(xs.map fun x=>V.ref x.r)∧(xs'.map fun x=>V.ref x.d)=xs.map fun x=>V.ref x.d) (by simp) ⟨_,_,_,xs,rfl,W1.mono (show 44≤60 by decide),rfl,rfl⟩ ?_ ?_ ?_
  ·rintro m σ H' _ ⟨v9,va,vb,xs',rfl,W',er,ed⟩
   exact ⟨by rw [←er];exact af.of W'.hs,by rw [←ed];exact af.of W'.ho⟩
  ·rintro m xv yv Tp σ J1 hxv hyv fTp ⟨v9,va,vb,xs',rfl,W',er,ed⟩
   have st:=ag.new (o:=.tup [xv,yv]) fTp
   rw [←er,List.getElem?_map] at hxv
   obtain ⟨x,ex,rfl⟩:=Option.map_eq_some_iff.mp hxv
   rw [←ed,List.getElem?_map,ex] at hyv
   obtain rfl:=Option.some.inj hyv
   refine ⟨Tp,(),ah.of au,rfl,_,(),_,(),rfl,?_⟩
   refine mC (t:=ui _ _) fun DC nC=>?_
   refine wV (fun mm σ H'=>iC fun (vb:Option V) (xs2:List bT) (y:bT)=>σ=[some (.ref a),some (.ref b),some (.ref nl),some (.ref so),some (.ref oo),v5,v6,v7,v8,some (.ref x.r),some (.ref x.d),vb]∧dN T.x_Roads H2 H' b so oo nl ls xs2 60 t1∧(xs2.map fun x=>V.ref x.r)=(xs.map fun x=>V.ref x.r)∧(xs2.map fun x=>V.ref x.d)=(xs.map fun x=>V.ref x.d)∧xs2[m]?=some y∧y.r=x.r∧y.d=x.d∧mm=y.past.length) x.past.length ⟨_,xs',x,rfl,W'.sm st,er,ed,ex,rfl,rfl,rfl⟩ ?_
   rintro mm σ J2 ⟨vb,xs2,y,rfl,W2,er2,ed2,ey,eyr,eyd,rfl⟩ Qt D' nD rD qT qF
   have my:=List.mem_of_getElem? ey
   have By:=W2.S.bo y my
   obtain ⟨p,tt,q,z,v,es,OX,eF⟩:=id By.O
   have le:=OX.hs.len
   have hd2:=OX.hd
   rw [eyd] at hd2
   refine ⟨(),x.d,_,.inr "past",(),rfl,hd2,vA,(by show 0≤10000;decide),fun p3 J3 m3=>⟨z,p3,(),rfl,m3.sm _ _ OX.hz,m3.at',(),?_⟩⟩
   have W3:=W2.sm m3.sm
   cases es with
   | nil=>exact qF _ (nC _ _ ⟨_,_,_,xs2,rfl,W3,er2,ed2⟩)
   | cons e0 es0=>
    refine qT _ ?_
    have By3:=W3.S.bo y my
    have R3:=By3.R
    have O3:=By3.O
    rw [eyr] at R3
    rw [eyd] at O3
    have ok3:=By3.ok.mono (show 60≤5000 by decide)
    refine fh fun Q4 n4=>⟨(),(by show 1≤10000;decide),fun p4 J4 m4=>⟨x.r,y.L,.ref p4,.back,y.past,y.cur,rfl,.tup m4.at' (.cons (.str _) .nil),R3.sm m4.sm,ok3,fun u1 J5 s5 R5' d5=>n4 _ _ ?_⟩⟩
    have W4:=W3.sm m4.sm
    have By4:=W4.S.bo y my
    have O5:=(O3.sm m4.sm).keep s5 (fun a ha e=>By4.nL (by have e':a=y.L:=e;rw [←e'];exact ha))
    refine bd fun D6 n6=>⟨(),(),(by show 1≤10000;decide),fun p6 J6 m6=>⟨x.d,.ref p6,.back,y.F,y.past,y.cur,rfl,O5.sm m6.sm,.tup m6.at' (.cons (.str _) .nil),ok3,fun u2 J7 F7 s7' O7' sub7 d7=>?_⟩⟩
    have s46:ax (Eb y.L) J4 J6:=s5.trans m6.sm.toE
    have out:=W4.S.out y my
    have nbF:b∉y.F:=fun e=>out b (by simp [ft,e]) (.inl rfl)
    have nbL:b≠y.L:=fun e=>out b (by simp [ft,e]) (.inl rfl)
    obtain ⟨B7,fr7⟩:=By4.turn (b:=b) nbF nbL s46 (by rw [eyr];exact R5'.sm m6.sm) s7' (by rw [eyd];exact O7') By4.ok.back sub7
    have Bb7:Bx J7 b t1:=(W4.B.frm s46 nbL).frm s7' nbF
    have W7:=W4.turn ey B7 fr7 Bb7 (Nat.le_refl 60)
    refine ⟨u1,u2,_,ED,rfl,(d5.mono m6.sm.toE).mono (bF s7'.tup),d7,sV _ _ _ 0,fun J8 s8'=>⟨(),aP (n6 _ _ ?_)⟩⟩
    have W8':=W7.sm s8'
    have er8:=(iM (y:={ y with F:=F7,past:=gg y.past y.cur .back,cur:=ii y.past y.cur .back }) (fun x=>V.ref x.r) ey rfl).trans er2
    have ed8:=(iM (y:={ y with F:=F7,past:=gg y.past y.cur .back,cur:=ii y.past y.cur .back }) (fun x=>V.ref x.d) ey rfl).trans ed2
    generalize eN:xs2.set m { y with F:=F7,past:=gg y.past y.cur .back,cur:=ii y.past y.cur .back }=xs3 at W8' er8 ed8
    have l3:xs3.length≤100:=by
     have:=congrArg List.length er8
     rw [List.length_map,List.length_map] at this
     trivial
    refine ⟨(),(),so,oo,true,true,rfl,⟨_,af.of W8'.hs⟩,⟨_,af.of W8'.ho⟩,fun D9' hD9=>?_⟩
    refine rz (K:=K) (fun _=>.bl true) (by rw [List.length_map,List.length_map];trivial) hD9 (fun H' sm=>af.of (sm _ _ W8'.hs)) (fun H' sm=>af.of (sm _ _ W8'.ho)) ?_ ?_
    ·intro i2 xv yv M6 Rk hxv hyv sm kk
     rw [List.getElem?_map] at hxv hyv
     obtain ⟨y2,ey2,rfl⟩:=Option.map_eq_some_iff.mp hxv
     rw [ey2] at hyv
     obtain rfl:=Option.some.inj hyv
     exact ⟨qc,(),(),y2.r,y2.L,y2.d,y2.F,y2.past,y2.cur,rfl,((W8'.S.bo y2 (List.mem_of_getElem? ey2)).sm sm).mono (by decide),fun M7 s7''=>kk _ s7''⟩
    ·intro M6 sm h6
     rw [tZ] at h6
     refine ⟨D9',(),af.of h6,?_⟩
     rw [oO]
     refine ⟨(),aP ?_⟩
     have hlt:m<xs2.length:=(List.getElem?_eq_some_iff.mp ey).1
     refine nD _ _ _ ?_ ⟨_,xs3,{ y with F:=F7,past:=gg y.past y.cur .back,cur:=ii y.past y.cur .back },rfl,W8'.sm sm,er8,ed8,by rw [←eN,List.getElem?_set_self hlt],eyr,eyd,rfl⟩
     show (gg y.past y.cur .back).length<y.past.length
     rw [yE]
     simp at le
     trivial
  ·rintro σ H' ⟨v9,va,vb,xs',rfl,W',_,_⟩
   exact done _ _ _ _ _ _ _ _ _ _ _ W'.bE
end
end K39
namespace K39
open PySem L2
set_option maxHeartbeats 0 in
theorem txt_of {K:PySem.W.Frag}{h:Heap}{mg:Str→Option Value} (y:obs K=due) (X:K.In h) (G:h.Ns mainGlobals mg):∃T:Txt K mg,∀(s:Shared) (u:Value),BindsTo s T.law_.d ⟨[u],[]⟩ [("_law_script",u)]:=by
 have e:∀i,(obs K).1.getD i none=due.1.getD i none:=fun i=>by rw [y]
 have b:∀i,(obs K).2.getD i true=due.2.getD i true:=fun i=>by rw [y]
 refine ⟨{
  b_ValueError:=PySem.W.mg_none_of X G (cw (b 55)),
  b_abs:=PySem.W.mg_none_of X G (cw (b 56)),
  b_all:=PySem.W.mg_none_of X G (cw (b 57)),
  b_bool:=PySem.W.mg_none_of X G (cw (b 58)),
  b_divmod:=PySem.W.mg_none_of X G (cw (b 59)),
  b_enumerate:=PySem.W.mg_none_of X G (cw (b 60)),
  b_int:=PySem.W.mg_none_of X G (cw (b 61)),
  b_isinstance:=PySem.W.mg_none_of X G (cw (b 62)),
  b_len:=PySem.W.mg_none_of X G (cw (b 63)),
  b_list:=PySem.W.mg_none_of X G (cw (b 64)),
  b_max:=PySem.W.mg_none_of X G (cw (b 65)),
  b_range:=PySem.W.mg_none_of X G (cw (b 66)),
  b_str:=PySem.W.mg_none_of X G (cw (b 67)),
  b_tuple:=PySem.W.mg_none_of X G (cw (b 68)),
  b_zip:=PySem.W.mg_none_of X G (cw (b 69)),
  l_box_:=⟨_,_,PySem.W.mg_of X G (b3 (e 0)),aj (e 0),(aj (e 0)).binds (ps:=["_law_script", "_law_k"]) fun _ _ _ _ _ _=>eR (fun _ _=>rfl)⟩,
  l_take_:=⟨_,_,PySem.W.mg_of X G (b3 (e 1)),aj (e 1),(aj (e 1)).binds (ps:=["_law_box_here", "_law_many"]) fun _ _ _ _ _ _=>eR (fun _ _=>rfl)⟩,
  l_boxes_:=⟨_,_,PySem.W.mg_of X G (b3 (e 2)),aj (e 2),(aj (e 2)).binds (ps:=["_law_script", "_law_cap"]) fun _ _ _ _ _ _=>eR (fun _ _=>rfl)⟩,
  l_fr_:=⟨_,_,PySem.W.mg_of X G (b3 (e 3)),aj (e 3),(aj (e 3)).binds (ps:=["_law_top", "_law_bottom"]) fun _ _ _ _ _ _=>eR (fun _ _=>rfl)⟩,
  l_names_:=⟨_,_,PySem.W.mg_of X G (b3 (e 4)),aj (e 4),(aj (e 4)).binds (ps:=["_law_box_here", "_law_many"]) fun _ _ _ _ _ _=>eR (fun _ _=>rfl)⟩,
  l_gain_:=⟨_,_,PySem.W.mg_of X G (b3 (e 5)),aj (e 5),(aj (e 5)).binds (ps:=["_law_box_here"]) fun _ _ _ _ _ _=>iN (fun _=>rfl)⟩,
  l_much_:=⟨_,_,PySem.W.mg_of X G (b3 (e 6)),aj (e 6),(aj (e 6)).binds (ps:=["_law_box_here"]) fun _ _ _ _ _ _=>iN (fun _=>rfl)⟩,
  l_cost_:=⟨_,_,PySem.W.mg_of X G (b3 (e 7)),aj (e 7),(aj (e 7)).binds (ps:=["_law_box_here"]) fun _ _ _ _ _ _=>iN (fun _=>rfl)⟩,
  l_deed_:=⟨_,_,PySem.W.mg_of X G (b3 (e 8)),aj (e 8),(aj (e 8)).binds (ps:=["_law_box_here", "_law_names_here", "_law_many", "_law_settled"]) fun _ _ _ _ _ _=>vQ (fun _ _ _ _=>rfl)⟩,
  l_do_:=⟨_,_,PySem.W.mg_of X G (b3 (e 9)),aj (e 9),(aj (e 9)).binds (ps:=["_law_roads", "_law_deed_here"]) fun _ _ _ _ _ _=>eR (fun _ _=>rfl)⟩,
  l_done_:=⟨_,_,PySem.W.mg_of X G (b3 (e 10)),aj (e 10),(aj (e 10)).binds (ps:=["_law_roads", "_law_deed_here"]) fun _ _ _ _ _ _=>eR (fun _ _=>rfl)⟩,
  l_begin_:=⟨_,_,PySem.W.mg_of X G (b3 (e 11)),aj (e 11),(aj (e 11)).binds (ps:=[]) fun _ _ _ _ _ _=>EM (rfl)⟩,
  l_copied_:=⟨_,_,PySem.W.mg_of X G (b3 (e 12)),aj (e 12),(aj (e 12)).binds (ps:=["_law_own"]) fun _ _ _ _ _ _=>iN (fun _=>rfl)⟩,
  l_refused_:=⟨_,_,PySem.W.mg_of X G (b3 (e 13)),aj (e 13),(aj (e 13)).binds (ps:=["_law_own", "_law_deed_here"]) fun _ _ _ _ _ _=>eR (fun _ _=>rfl)⟩,
  l_step_:=⟨_,_,PySem.W.mg_of X G (b3 (e 14)),aj (e 14),(aj (e 14)).binds (ps:=["_law_own", "_law_deed_here"]) fun _ _ _ _ _ _=>eR (fun _ _=>rfl)⟩,
  l_net_:=⟨_,_,PySem.W.mg_of X G (b3 (e 15)),aj (e 15),(aj (e 15)).binds (ps:=["_law_own"]) fun _ _ _ _ _ _=>iN (fun _=>rfl)⟩,
  l_may_:=⟨_,_,PySem.W.mg_of X G (b3 (e 16)),aj (e 16),(aj (e 16)).binds (ps:=["_law_own", "_law_deed_here"]) fun _ _ _ _ _ _=>eR (fun _ _=>rfl)⟩,
  l_same_:=⟨_,_,PySem.W.mg_of X G (b3 (e 17)),aj (e 17),(aj (e 17)).binds (ps:=["_law_found", "_law_due"]) fun _ _ _ _ _ _=>eR (fun _ _=>rfl)⟩,
  l_stands_:=⟨_,_,PySem.W.mg_of X G (b3 (e 18)),aj (e 18),(aj (e 18)).binds (ps:=["_law_roads", "_law_own"]) fun _ _ _ _ _ _=>eR (fun _ _=>rfl)⟩,
  l_twin_of_:=⟨_,_,PySem.W.mg_of X G (b3 (e 19)),aj (e 19),(aj (e 19)).binds (ps:=["_law_own"]) fun _ _ _ _ _ _=>iN (fun _=>rfl)⟩,
  l_turn_right_:=⟨_,_,PySem.W.mg_of X G (b3 (e 20)),aj (e 20),(aj (e 20)).binds (ps:=["_law_box_here", "_law_some", "_law_owns", "_law_names_here"]) fun _ _ _ _ _ _=>vQ (fun _ _ _ _=>rfl)⟩,
  law_:=⟨_,_,PySem.W.mg_of X G (b3 (e 21)),aj (e 21),(aj (e 21)).binds (ps:=["_law_script"]) fun _ _ _ _ _ _=>iN (fun _=>rfl)⟩,
  f_Gaining__init:=_,d_Gaining__init:=_,F_Gaining__init:=aj (e 22),B_Gaining__init:=(aj (e 22)).binds (ps:=["self", "ties"]) fun _ _ _ _ _ _=>eR (fun _ _=>rfl),
  f_NotSoMuch__init:=_,d_NotSoMuch__init:=_,F_NotSoMuch__init:=aj (e 23),B_NotSoMuch__init:=(aj (e 23)).binds (ps:=["self", "most"]) fun _ _ _ _ _ _=>eR (fun _ _=>rfl),
  f_Roads____init__:=_,d_Roads____init__:=_,F_Roads____init__:=aj (e 24),B_Roads____init__:=(aj (e 24)).binds (ps:=["self"]) fun _ _ _ _ _ _=>iN (fun _=>rfl),
  f_Roads__add_place:=_,d_Roads__add_place:=_,F_Roads__add_place:=aj (e 25),B_Roads__add_place:=(aj (e 25)).binds (ps:=["self", "name"]) fun _ _ _ _ _ _=>eR (fun _ _=>rfl),
  f_Roads__add_tie:=_,d_Roads__add_tie:=_,F_Roads__add_tie:=aj (e 26),B_Roads__add_tie:=(aj (e 26)).binds (ps:=["self", "begin", "end", "most", "gain", "price"]) fun _ _ _ _ _ _=>EC (fun _ _ _ _ _ _=>rfl),
  check_two_:=⟨_,_,PySem.W.mg_of X G (b3 (e 27)),aj (e 27),(aj (e 27)).binds (ps:=["places", "begin", "end"]) fun _ _ _ _ _ _=>nY (fun _ _ _=>rfl)⟩,
  f_Roads__set_most:=_,d_Roads__set_most:=_,F_Roads__set_most:=aj (e 28),B_Roads__set_most:=(aj (e 28)).binds (ps:=["self", "number", "most"]) fun _ _ _ _ _ _=>nY (fun _ _ _=>rfl),
  f_Roads__set_gain:=_,d_Roads__set_gain:=_,F_Roads__set_gain:=aj (e 29),B_Roads__set_gain:=(aj (e 29)).binds (ps:=["self", "number", "gain"]) fun _ _ _ _ _ _=>nY (fun _ _ _=>rfl),
  f_Roads__set_price:=_,d_Roads__set_price:=_,F_Roads__set_price:=aj (e 30),B_Roads__set_price:=(aj (e 30)).binds (ps:=["self", "number", "price"]) fun _ _ _ _ _ _=>nY (fun _ _ _=>rfl),
  f_Roads__shut:=_,d_Roads__shut:=_,F_Roads__shut:=aj (e 31),B_Roads__shut:=(aj (e 31)).binds (ps:=["self", "number"]) fun _ _ _ _ _ _=>eR (fun _ _=>rfl),
  f_Roads__reopen:=_,d_Roads__reopen:=_,F_Roads__reopen:=aj (e 32),B_Roads__reopen:=(aj (e 32)).binds (ps:=["self", "number"]) fun _ _ _ _ _ _=>eR (fun _ _=>rfl),
  f_Roads__set_ends:=_,d_Roads__set_ends:=_,F_Roads__set_ends:=aj (e 33),B_Roads__set_ends:=(aj (e 33)).binds (ps:=["self", "begin", "end"]) fun _ _ _ _ _ _=>nY (fun _ _ _=>rfl),
  f_Roads__back:=_,d_Roads__back:=_,F_Roads__back:=aj (e 34),B_Roads__back:=(aj (e 34)).binds (ps:=["self"]) fun _ _ _ _ _ _=>iN (fun _=>rfl),
  f_Roads__net:=_,d_Roads__net:=_,F_Roads__net:=aj (e 35),B_Roads__net:=(aj (e 35)).binds (ps:=["self"]) fun _ _ _ _ _ _=>iN (fun _=>rfl),
  put_at_:=⟨_,_,PySem.W.mg_of X G (b3 (e 36)),aj (e 36),(aj (e 36)).binds (ps:=["parts", "at", "part"]) fun _ _ _ _ _ _=>nY (fun _ _ _=>rfl)⟩,
  f_Roads__ends:=_,d_Roads__ends:=_,F_Roads__ends:=aj (e 37),B_Roads__ends:=(aj (e 37)).binds (ps:=["self"]) fun _ _ _ _ _ _=>iN (fun _=>rfl),
  f_Roads__is_shut:=_,d_Roads__is_shut:=_,F_Roads__is_shut:=aj (e 38),B_Roads__is_shut:=(aj (e 38)).binds (ps:=["self", "number"]) fun _ _ _ _ _ _=>eR (fun _ _=>rfl),
  check_tie_:=⟨_,_,PySem.W.mg_of X G (b3 (e 39)),aj (e 39),(aj (e 39)).binds (ps:=["ties", "number"]) fun _ _ _ _ _ _=>eR (fun _ _=>rfl)⟩,
  f_Roads__deeds:=_,d_Roads__deeds:=_,F_Roads__deeds:=aj (e 40),B_Roads__deeds:=(aj (e 40)).binds (ps:=["self"]) fun _ _ _ _ _ _=>iN (fun _=>rfl),
  f_Roads__twin:=_,d_Roads__twin:=_,F_Roads__twin:=aj (e 41),B_Roads__twin:=(aj (e 41)).binds (ps:=["self"]) fun _ _ _ _ _ _=>iN (fun _=>rfl),
  f_Roads__set_part:=_,d_Roads__set_part:=_,F_Roads__set_part:=aj (e 42),B_Roads__set_part:=(aj (e 42)).binds (ps:=["self", "number", "at", "part"]) fun _ _ _ _ _ _=>vQ (fun _ _ _ _=>rfl),
  f_Roads__set_shut:=_,d_Roads__set_shut:=_,F_Roads__set_shut:=aj (e 43),B_Roads__set_shut:=(aj (e 43)).binds (ps:=["self", "number", "whether"]) fun _ _ _ _ _ _=>nY (fun _ _ _=>rfl),
  x_GainError:=_,m_GainError:=PySem.W.mg_of X G (fR (b 0)),k_GainError:=(b 8),xb_GainError:=(b 9),
  x_Taken:=_,m_Taken:=PySem.W.mg_of X G (fR (b 1)),k_Taken:=(b 10),q_Taken:=(b 11),
  x_NoPlace:=_,m_NoPlace:=PySem.W.mg_of X G (fR (b 2)),k_NoPlace:=(b 12),q_NoPlace:=(b 13),
  x_NoTie:=_,m_NoTie:=PySem.W.mg_of X G (fR (b 3)),k_NoTie:=(b 14),q_NoTie:=(b 15),
  x_AsItIs:=_,m_AsItIs:=PySem.W.mg_of X G (fR (b 4)),k_AsItIs:=(b 16),q_AsItIs:=(b 17),
  x_NoEnds:=_,m_NoEnds:=PySem.W.mg_of X G (fR (b 5)),k_NoEnds:=(b 18),q_NoEnds:=(b 19),
  x_Gaining:=_,m_Gaining:=PySem.W.mg_of X G (fR (b 6)),k_Gaining:=(b 20),fn_Gaining:=(b 21),st_Gaining:=(b 22),fd_Gaining:=(b 23),q_Gaining:=(b 24),
  x_NotSoMuch:=_,m_NotSoMuch:=PySem.W.mg_of X G (fR (b 7)),k_NotSoMuch:=(b 25),fn_NotSoMuch:=(b 26),st_NotSoMuch:=(b 27),fd_NotSoMuch:=(b 28),q_NotSoMuch:=(b 29),
  x_Roads:=_,m_Roads:=PySem.W.mg_of X G (fR (b 35)),c_Roads:=(Ac (b 36)),mk_Roads:=(yh (b 37)),h_Roads__add_place:=(bM (b 38)),h_Roads__add_tie:=(bM (b 39)),h_Roads__set_most:=(bM (b 40)),h_Roads__set_gain:=(bM (b 41)),h_Roads__set_price:=(bM (b 42)),h_Roads__shut:=(bM (b 43)),h_Roads__reopen:=(bM (b 44)),h_Roads__set_ends:=(bM (b 45)),h_Roads__back:=(bM (b 46)),h_Roads__net:=(bM (b 47)),h_Roads__ends:=(bM (b 48)),h_Roads__is_shut:=(bM (b 49)),h_Roads__deeds:=(bM (b 50)),h_Roads__twin:=(bM (b 51)),h_Roads__set_part:=(bM (b 52)),h_Roads__set_shut:=(bM (b 53)),n_Roads_states:=(cw (b 54)),
  em_Taken_GainError:=(oQ (b 30)),
  em_NoPlace_GainError:=(oQ (b 31)),
  em_NoTie_GainError:=(oQ (b 32)),
  em_AsItIs_GainError:=(oQ (b 33)),
  kin:=(b 34) },fun s u=>?_⟩
 obtain ⟨_,_,_,_,_,_,_,_,_,z,_⟩:=(aj (e 21):d9 K "law" "law" bv _ _).ex
 show BindsTo s (gJ K (PySem.W.nsIn K mainGlobals "law")) _ _
 rw [z]
 exact .of_eq rfl
end K39
open PySem PySem.W PyProof.Rows
set_option maxRecDepth 100000 in
set_option maxHeartbeats 0 in
theorem PySem.Challenge.cw_gainroads_k39_twins_of_roads_holds : PySem.Challenge.rw_gainroads_k39_twins_of_roads.Holds := by
 w_on;o_law
 refine holds_openX (q:=K39.qv) (loose:=[]) (Xt:=L2.Xt) (XP:=XL K39.qv []) (Yf:=L2.Yf) (Ya:=fun _=>K39.due) (N:=7002) (L2.left_tree rfl rfl (fun _=>rfl) L2.left) (fun s e=>xl_of s (Bool.and_eq_true_iff.mp e).1) XL.keeps (by rfl) (by rfl) (by rfl) (fun s e=>recFacts_of (Bool.and_eq_true_iff.mp e).2) (by rfl) (by first | assumption | decide +kernel) (by nofun) ⟨rfl,rfl,rfl,rfl,rfl,by nofun⟩ ?hw ?hc
 case hw=>w_witness2
 refine L2.walk_ofY (obs:=K39.obs) (due:=K39.due) (l:=PySem.Challenge.rw_gainroads_k39_twins_of_roads) (n:=63) (k:=40) (x := "_law_script") (CX:=L2.CX0) (sp:=K39.spLaw) rfl (by decide) rfl ⟨rfl,by decide,by decide,rfl⟩ ?F ?S ?C
 case F=>
  intro K w mg fa h y KX G hmg
  obtain ⟨T,hb⟩:=K39.txt_of y KX G
  have e0:=hmg.symm.trans T.law_.m
  cases e0
  exact ⟨T.law_.d,hb,fun base kb nb=>K39.law_ok T⟩
 case S=>exact fun K H a ns hl hO hS=>K39.law_start hl hO hS
 case C=>exact fun _ _ _ _ z=>z
