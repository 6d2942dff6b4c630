import PyProof.Rows.All
import Wide.All
import OpenK.AllK
import Wide.FinOn
import Lean
import PyProof.EqAt
import PyProof.EqKinds
import PyProof.TupleCall
import PyProof.CompFree
import PyProof.CompMap
import KE.LcSums
import PyProof.ZipIter
import PyProof.Draws
import KE.KRevSl
import KE.KListMore
import PyProof.Rows.StrJoin2
import PyProof.Rows.StrFin3
import PyProof.StrOps2
import PyProof.NeData
import PyProof.P3Eq
import PyProof.StrLawsRepr
import PyProof.ReprLen
import PyProof.Rows.IntBool
import PyProof.SliceStr2
import PyProof.P3In
import PyProof.Rows.StrLen
import KE.KStrOpen
import PyProof.FitsInt
import PyProof.Rows.ReprOcc
import PyProof.ListRange
import PyProof.AttrMissHeap
import PyProof.FactsAll.zip
import PyProof.FactsAll.tuple_3
import KE.KDictOf
import PyProof.SeqRoads2
import PyProof.DictCompW
import PyProof.Rows.StrInSeq3
import OpenK.KOwn
import KE.KIsAll
import KE.KTryMore
import PyProof.StationsW
import PyProof.RulesAs
import PyProof.NsDelKeeps
import KE.KDictSum
import KE.KIntText
import PyProof.StrCalls2
import PyProof.Rows.StrItems
import PyProof.DictUpdate
import PyProof.Rows.StrSplitCount
import PyProof.Rows.StrFirst
import PyProof.Rows.StrLawsPart
import PyProof.Rows.StrDigitsNeg
import KE.IntTextLaws
import PyProof.Rows.FStr
import PySem.Challenge.RW_gainroads_k65_fractions_as_texts
set_option Elab.async false
set_option linter.all false
set_option maxRecDepth 100000
local macro_rules | `(tactic| nofun)=>`(tactic| decide +kernel)
local macro_rules | `(⟨$xs,*⟩)=>do
 let es:=xs.getElems
 unless es.any (fun e=>match e with | `(())=>true | _=>false) do Lean.Macro.throwUnsupported
 let mut o:=#[]
 for e in es do
  match e with
  | `(())=>o:=(o.push (←`(_))).push (←`(rfl))
  | _=>o:=o.push e
 `(⟨$o,*⟩)
set_option genSizeOf false
set_option genInjectivity false
namespace L2
inductive aX {α0 α1:Type} (p:α0→α1→Prop):Prop
 | mk (a0:α0) (a1:α1) (h:p a0 a1)
inductive i6 {α0 α1 α2:Type} (p:α0→α1→α2→Prop):Prop
 | mk (a0:α0) (a1:α1) (a2:α2) (h:p a0 a1 a2)
inductive mD {α0 α1 α2 α3:Type} (p:α0→α1→α2→α3→Prop):Prop
 | mk (a0:α0) (a1:α1) (a2:α2) (a3:α3) (h:p a0 a1 a2 a3)
inductive rZ {α0 α1 α2 α3 α4:Type} (p:α0→α1→α2→α3→α4→Prop):Prop
 | mk (a0:α0) (a1:α1) (a2:α2) (a3:α3) (a4:α4) (h:p a0 a1 a2 a3 a4)
inductive xY {α0 α1 α2 α3 α4 α5:Type} (p:α0→α1→α2→α3→α4→α5→Prop):Prop
 | mk (a0:α0) (a1:α1) (a2:α2) (a3:α3) (a4:α4) (a5:α5) (h:p a0 a1 a2 a3 a4 a5)
inductive w6 {α0 α1 α2 α3 α4 α5 α6 α7 α8:Type} (p:α0→α1→α2→α3→α4→α5→α6→α7→α8→Prop):Prop
 | mk (a0:α0) (a1:α1) (a2:α2) (a3:α3) (a4:α4) (a5:α5) (a6:α6) (a7:α7) (a8:α8) (h:p a0 a1 a2 a3 a4 a5 a6 a7 a8)
inductive xL {α0 α1 α2 α3 α4 α5 α6 α7 α8 α9:Type} (p:α0→α1→α2→α3→α4→α5→α6→α7→α8→α9→Prop):Prop
 | mk (a0:α0) (a1:α1) (a2:α2) (a3:α3) (a4:α4) (a5:α5) (a6:α6) (a7:α7) (a8:α8) (a9:α9) (h:p a0 a1 a2 a3 a4 a5 a6 a7 a8 a9)
end L2
set_option genSizeOf true
set_option genInjectivity true
local macro_rules | `(tactic| trivial)=>`(tactic| first | lia | omega)
namespace L2
open PySem PySem.Spec PyProof.Rows
abbrev eD:=Sum Int Str
def rL:eD→Value→Bool
 | .inl k,v=>Value.isInt k v
 | .inr x,v=>Value.isStrOf x v
def xD (w:World):eD→Int
 | .inl k=>hashInt k
 | .inr x=>hashStr w x
theorem bV:∀{k:eD}{v:Value},rL k v=true→(aX fun i t=>k=Sum.inl i∧v=Value.int i t)∨(aX fun x t=>k=Sum.inr x∧v=Value.str x t)
 | .inl i,v,h=>by
  obtain ⟨t,e⟩:=Value.isInt_shape (k:=i) (v:=v) h
  exact .inl ⟨i,t,rfl,e⟩
 | .inr x,v,h=>by
  obtain ⟨t,e⟩:=Value.isStrOf_shape (x:=x) (v:=v) h
  exact .inr ⟨x,t,rfl,e⟩
theorem vy (a b:Int):decide ((Sum.inl a:eD)=Sum.inl b)=(a==b):=by
 by_cases e:a=b
 ·subst e;simp
 ·have h:¬(Sum.inl a:eD)=Sum.inl b:=fun q=>e (Sum.inl.inj q)
  rw [decide_eq_false h]
  exact (beq_eq_false_iff_ne.mpr e).symm
theorem tX (a b:Str):decide ((Sum.inr a:eD)=Sum.inr b)=decide (a=b):=by
 by_cases e:a=b
 ·subst e;simp
 ·have h:¬(Sum.inr a:eD)=Sum.inr b:=fun q=>e (Sum.inr.inj q)
  rw [decide_eq_false h,decide_eq_false e]
theorem uU (a:Int) (b:Str):decide ((Sum.inl a:eD)=Sum.inr b)=false:=decide_eq_false (fun q=>nomatch q)
theorem ue (a:Str) (b:Int):decide ((Sum.inr a:eD)=Sum.inl b)=false:=decide_eq_false (fun q=>nomatch q)
def ow (prog:Program) (w:World):PySem.KeyKind prog w eD where
 is:=rL
 hash:=xD w
 inj:=fun v a b ha hb=>by
  rcases bV ha with ⟨i,t,rfl,rfl⟩ | ⟨x,t,rfl,rfl⟩
  ·rcases bV hb with ⟨j,u,rfl,e⟩ | ⟨y,u,rfl,e⟩
   ·injection e with e1 _;rw [e1]
   ·exact nomatch e
  ·rcases bV hb with ⟨j,u,rfl,e⟩ | ⟨y,u,rfl,e⟩
   ·exact nomatch e
   ·injection e with e1 _;rw [e1]
 byValue:=fun k v h=>by
  rcases bV h with ⟨i,t,rfl,rfl⟩ | ⟨x,t,rfl,rfl⟩ <;> rfl
 pyHash:=fun hv h=>by
  rcases bV hv with ⟨i,t,rfl,rfl⟩ | ⟨x,t,rfl,rfl⟩
  ·exact wpAny_pyHash_int h
  ·exact wpAny_pyHash_str h
 eqBool:=fun hu hv h=>by
  rcases bV hu with ⟨i,t,rfl,rfl⟩ | ⟨x,t,rfl,rfl⟩
  ·rcases bV hv with ⟨j,u,rfl,rfl⟩ | ⟨y,u,rfl,rfl⟩
   ·rw [vy] at h;exact wpAny_eqBool_int h
   ·rw [uU] at h;exact SeqAt.EqAt.int_str i t y u _ _ _ _ h
  ·rcases bV hv with ⟨j,u,rfl,rfl⟩ | ⟨y,u,rfl,rfl⟩
   ·rw [ue] at h;exact SeqAt.EqAt.str_int x t j u _ _ _ _ h
   ·rw [tX] at h;exact wpAny_eqBool_str h
 «strs»:=fun k x t v h=>by
  rcases bV h with ⟨i,u,rfl,e⟩ | ⟨y,u,rfl,e⟩
  ·exact nomatch e
  ·injection e with e1 _
   subst e1
   cases v <;> rfl
inductive V where
 | non | bl (b:Bool) | int (i:Int) | str (x:Str) | byt (b:Array UInt8) | flt (b:UInt64) | ref (a:Addr) | ty (n:String)
 deriving DecidableEq
def aM:V→Value→Prop
 | .non,u=>u=Value.none
 | .bl b,u=>u=Value.bool b
 | .int i,u=>∃t,u=Value.int i t
 | .str x,u=>∃t,u=Value.str x t
 | .byt b,u=>∃t,u=Value.bytes b t
 | .flt b,u=>∃t,u=Value.float b t
 | .ref a,u=>u=Value.ref a
 | .ty n,u=>u=Value.type n
abbrev aw:List V→List Value→Prop:=Paired aM
theorem aw.length {xs:List V}{us:List Value} (r:aw xs us):xs.length=us.length:=Paired.length r
theorem aw.get:∀{xs:List V}{us:List Value}{i:Nat}{x:V},aw xs us→xs[i]?=some x→∃u,us[i]?=some u∧aM x u
 | _,_,_,_,.nil,e=>by simp at e
 | _,_,0,_,.cons r _,e=>by simp at e;subst e;exact ⟨_,rfl,r⟩
 | _,_,i+1,x,.cons _ t,e=>by
  obtain ⟨u,h1,h2⟩:=aw.get (i:=i) (x:=x) t (by simpa using e)
  exact ⟨u,by simpa using h1,h2⟩
theorem aw.set {x:V}{u:Value} (r:aM x u):∀{xs:List V}{us:List Value} (i:Nat),aw xs us→aw (xs.set i x) (us.set i u)
 | _,_,_,.nil=>.nil
 | _,_,0,.cons _ t=>.cons r t
 | _,_,i+1,.cons q t=>.cons q (aw.set r i t)
theorem aw.append:∀{xs ys:List V}{us ws:List Value},aw xs us→aw ys ws→aw (xs++ys) (us++ws)
 | _,_,_,_,.nil,s=>s
 | _,_,_,_,.cons r t,s=>.cons r (aw.append t s)
theorem aw.take:∀{xs:List V}{us:List Value} (n:Nat),aw xs us→aw (xs.take n) (us.take n)
 | _,_,0,_=>.nil
 | _,_,_+1,.nil=>.nil
 | _,_,n+1,.cons r t=>.cons r (aw.take n t)
theorem aw.drop:∀{xs:List V}{us:List Value} (n:Nat),aw xs us→aw (xs.drop n) (us.drop n)
 | _,_,0,r=>r
 | _,_,_+1,.nil=>.nil
 | _,_,n+1,.cons _ t=>aw.drop n t
def rf:Option V→Option Value→Prop
 | some v,some u=>aM v u
 | none,none=>True
 | _,_=>False
def KV {κ:Type}:List (κ×V)→List (κ×Value)→Prop:=Paired fun (p:κ×V) (q:κ×Value)=>p.1=q.1∧aM p.2 q.2
def kV:eD→V
 | .inl i=>.int i
 | .inr x=>.str x
inductive HO where
 | lst (xs:List V)
 | tup (xs:List V)
 | dK (kvs:List (eD×V)) | dT (kvs:List (List eD×V))
 | set (S:Int→Bool) (n:Nat)
 | ins (C dx:Addr) (fs:List (Str×V))
 | own (x:Addr)
 | xd (fs:List (Str×V))
 | met (f x:Addr)
 | rng (lo hi:Int)
 | frz (o:Obj) (u:HO)
 | tbl (ps:Array Value)
 | ext (φ:Heap→Prop)
abbrev Hp:=Addr→Option HO
def aI (H:Hp) (a:Addr) (o:HO):Hp:=fun b=>if b=a then some o else H b
theorem aF {H:Hp}{a:Addr}{o:HO}:aI H a o a=some o:=by unfold aI;rw [if_pos rfl]
theorem ap {H:Hp}{a b:Addr}{o:HO} (h:b≠a):aI H a o b=H b:=by unfold aI;rw [if_neg h]
theorem vU {H:Hp}{a b:Addr}{o u:HO} (h:H a=some o) (h':H b=some u) (d:o≠u):a≠b:=by
 intro e;subst e;rw [h] at h';exact d (Option.some.inj h')
theorem ba {H:Hp}{a b:Addr}{o:HO} (h:H a=some o) (h':H b=none):a≠b:=by
 intro e;subst e;rw [h] at h';cases h'
section
variable (P:Program) (w:World)
def aW (H:Hp) (h:Heap) (a:Addr):HO→Prop
 | .lst xs=>xs.length≤sizeLine∧aX fun (its:List Value) (n:Nat)=>aw xs its∧h.get? a=some { cls:=.type "list",data:=.seq its.toArray n }
 | .tup xs=>xs.length≤sizeLine∧∃its:List Value,aw xs its∧IsTup h a its.toArray∧∃o,h.get? a=some o∧o.dict=none
 | .dK kvs=>kvs.length≤sizeLine∧(a==sysModules)=false∧∃vs,KV kvs vs∧h.DictOf (ow P w) a vs
 | .dT kvs=>kvs.length≤sizeLine∧(a==sysModules)=false∧∃xs:List (List eD×Addr×Value),
  Paired (fun (p:List eD×V) (q:List eD×Addr×Value)=>p.1=q.1∧H q.2.1=some (.tup (p.1.map kV))∧aM p.2 q.2.2) kvs xs∧
  i6 fun o es ep=>h.get? a=some o∧o.ExactDict∧o.data=.dict es ep∧es.toList=xs.map (entryOfKey (tupleKind (ow P w)))∧(xs.map (·.1)).Nodup
 | .set S n=>h.SetOf (intKind P w) a S n
 | .ins C dx fs=>H dx=some (.own a)∧fs.length≤1000∧dx≠a∧h.get? a=some (PySem.W.instObj C dx)∧
  ∃mA,h.Ns1 dx mA∧(∀f,rf (fs.lookup f) (mA f))∧PySem.Within mA (fs.map (·.1))
 | .own _=>∃o,h.get? a=some o
 | .xd fs=>∃mA,h.Ns1 a mA∧∀f,rf (fs.lookup f) (mA f)
 | .rng lo hi=>i6 fun t u v=>h.get? a=some { cls:=.type "range",data:=.fields #[.int lo t,.int hi u,.int 1 v] }
 | .frz o u=>h.get? a=some o∧aW H h a u
 | .tbl ps=>h.get? a=some { cls:=.none,data:=.fields ps }
 | .met f x=>h.get? a=some (PySem.W.methodObj (.ref f) (.ref x))
 | .ext φ=>φ h∧(∃o,h.get? a=some o)∧∀h1 h2:Heap,φ h1→(∀o,h1.get? a=some o→h2.get? a=some o)→φ h2
def cg (H:Hp) (h:Heap):Prop:=∀a o,H a=some o→aW P w H h a o
end
section
variable {P:Program}{w:World}{H H':Hp}{h h':Heap}{a:Addr}{o:HO}
theorem aW.lt (x:aW P w H h a o):a<h.objs.size:=by
 cases o with
 | lst xs=>obtain ⟨_,_,_,_,e⟩:=x;exact Heap.lt_size e
 | tup xs=>obtain ⟨_,_,_,p,_⟩:=x;exact p.lt
 | dK kvs=>obtain ⟨_,_,_,_,o,_,_,e,_⟩:=x;exact Heap.lt_size e
 | dT kvs=>obtain ⟨_,_,_,_,o,_,_,e,_⟩:=x;exact Heap.lt_size e
 | set S n=>obtain ⟨o,_,_,_,e,_⟩:=x;exact Heap.lt_size e
 | ins C dx fs=>obtain ⟨_,_,_,e,_⟩:=x;exact Heap.lt_size e
 | own y=>obtain ⟨_,e⟩:=x;exact Heap.lt_size e
 | xd fs=>obtain ⟨_,⟨_,_,_,e,_⟩,_⟩:=x;exact Heap.lt_size e
 | rng lo hi=>obtain ⟨_,_,_,e⟩:=x;exact Heap.lt_size e
 | frz ob u=>obtain ⟨e,_⟩:=x;exact Heap.lt_size e
 | tbl ps=>exact Heap.lt_size (show h.get? a=some _ from x)
 | met f y=>exact Heap.lt_size (show h.get? a=some _ from x)
 | ext φ=>obtain ⟨_,⟨_,e⟩,_⟩:=x;exact Heap.lt_size e
theorem Paired.mapP {α β:Type}{F G:α→β→Prop}:∀{l₁:List α}{l₂:List β},Paired F l₁ l₂→(∀a b,F a b→G a b)→Paired G l₁ l₂
 | _,_,.nil,_=>.nil
 | _,_,.cons r t,f=>.cons (f _ _ r) (Paired.mapP t f)
theorem aW.stay (x:aW P w H h a o) (k:∀b u,(b=a∨H b=some (.own a))→h.get? b=some u→h'.get? b=some u)
 (ho:∀b,H b=some (.own a)→H' b=some (.own a)) (ht:∀b xs,H b=some (.tup xs)→H' b=some (.tup xs)):aW P w H' h' a o:=by
 induction o with
 | lst xs=>obtain ⟨z,its,n,r,e⟩:=x;exact ⟨z,its,n,r,k _ _ (.inl rfl) e⟩
 | tup xs=>obtain ⟨z,its,r,⟨ob,e,c⟩,od,e',c'⟩:=x;exact ⟨z,its,r,⟨ob,k _ _ (.inl rfl) e,c⟩,od,k _ _ (.inl rfl) e',c'⟩
 | dK kvs=>obtain ⟨z,y,vs,r,ob,es,ep,e,c⟩:=x;exact ⟨z,y,vs,r,ob,es,ep,k _ _ (.inl rfl) e,c⟩
 | dT kvs=>
  obtain ⟨z,y,xs,r,ob,es,ep,e,c⟩:=x
  exact ⟨z,y,xs,Paired.mapP r fun p q z=>⟨z.1,ht _ _ z.2.1,z.2.2⟩,ob,es,ep,k _ _ (.inl rfl) e,c⟩
 | set S n=>obtain ⟨ob,es,ep,t,e,c⟩:=x;exact ⟨ob,es,ep,t,k _ _ (.inl rfl) e,c⟩
 | ins C dx fs=>
  obtain ⟨d,z,ne,e,mA,⟨od,es,ep,e2,c⟩,r⟩:=x
  exact ⟨ho _ d,z,ne,k _ _ (.inl rfl) e,mA,⟨od,es,ep,k _ _ (.inr d) e2,c⟩,r⟩
 | own y=>obtain ⟨ob,e⟩:=x;exact ⟨ob,k _ _ (.inl rfl) e⟩
 | xd fs=>obtain ⟨mA,⟨od,es,ep,e,c⟩,r⟩:=x;exact ⟨mA,⟨od,es,ep,k _ _ (.inl rfl) e,c⟩,r⟩
 | rng lo hi=>obtain ⟨t,u,v,e⟩:=x;exact ⟨t,u,v,k _ _ (.inl rfl) e⟩
 | frz ob u ih=>obtain ⟨e,q⟩:=x;exact ⟨k _ _ (.inl rfl) e,ih q⟩
 | tbl ps=>
  have e:h.get? a=some { cls:=.none,data:=.fields ps }:=x
  show h'.get? a=some { cls:=.none,data:=.fields ps }
  exact k a _ (.inl rfl) e
 | met f y=>
  have e:h.get? a=some (PySem.W.methodObj (.ref f) (.ref y)):=x
  show h'.get? a=some (PySem.W.methodObj (.ref f) (.ref y))
  exact k a _ (.inl rfl) e
 | ext φ=>obtain ⟨p,⟨o,e⟩,st⟩:=x;exact ⟨st _ _ p fun o q=>k _ _ (.inl rfl) q,⟨o,k _ _ (.inl rfl) e⟩,st⟩
theorem cg.lt (x:cg P w H h) (e:H a=some o):a<h.objs.size:=(x a o e).lt
theorem cg.fresh (x:cg P w H h) (e:h.objs.size≤a):H a=none:=by
 cases q:H a with
 | none=>rfl
 | some u=>exact absurd (Nat.lt_of_lt_of_le (x.lt q) e) (Nat.lt_irrefl _)
theorem cg.kept (x:cg P w H h) (k:∀b u,h.get? b=some u→h'.get? b=some u):cg P w H h':=fun a o e=>
 (x a o e).stay (fun b u _ q=>k b u q) (fun _ q=>q) fun _ _ q=>q
theorem cg.laid (x:cg P w H h) (k:∀b u,h.get? b=some u→h'.get? b=some u) (hp:h.objs.size≤a) (new:aW P w (aI H a o) h' a o):cg P w (aI H a o) h':=fun b u e=>by
 have hn:=x.fresh hp
 by_cases hb:b=a
 ·subst hb;rw [aF] at e;cases e;exact new
 ·rw [ap hb] at e
  exact (x b u e).stay (fun c v _ q=>k c v q) (fun c q=>by rw [ap (ba q hn)];exact q) fun c xs q=>by rw [ap (ba q hn)];exact q
end
def Rd (H:Hp) (a:Addr) (u:HO):Prop:=H a=some u∨∃o,H a=some (.frz o u)
theorem Rd.ok {P:Program}{w:World}{H:Hp}{h:Heap}{a:Addr}{u:HO} (r:Rd H a u) (x:cg P w H h):aW P w H h a u:=by
 rcases r with r | ⟨o,r⟩
 ·exact x a u r
 ·obtain ⟨_,q⟩:=x a _ r
  exact q
def r0:Option HO→Prop
 | some (.lst _)=>True
 | some (.dK _)=>True
 | some (.dT _)=>True
 | some (.set _ _)=>True
 | some (.ins _ _ _)=>True
 | some (.ext _)=>True
 | _=>False
section
variable {P:Program}{w:World}{H:Hp}{h h':Heap}{x e:Addr}{o':HO}
theorem cg.write (ok:cg P w H h) (mu:r0 (H x)) (he:e=x∨H e=some (.own x)) (k:∀b u,b≠e→h.get? b=some u→h'.get? b=some u) (heo:∃u,h'.get? e=some u)
 (new:aW P w (aI H x o') h' x o'):cg P w (aI H x o') h':=fun b u q=>by
 have nown:∀c y,H c=some (.own y)→c≠x:=fun c y r z=>by subst z;rw [r] at mu;exact mu
 have ntup:∀c xs,H c=some (.tup xs)→c≠x:=fun c xs r z=>by subst z;rw [r] at mu;exact mu
 by_cases hb:b=x
 ·subst hb;rw [aF] at q;cases q;exact new
 ·rw [ap hb] at q
  by_cases hbe:b=e
  ·have q':H b=some (.own x):=by
    rcases he with z | z
    ·exact absurd (hbe.trans z) hb
    ·rw [hbe];exact z
   rw [q] at q';cases q'
   obtain ⟨v,hv⟩:=heo
   exact ⟨v,by rw [hbe];exact hv⟩
  ·refine (ok b u q).stay (fun c v hc r=>k c v ?_ r) (fun c r=>by rw [ap (nown c b r)];exact r) fun c xs r=>by rw [ap (ntup c xs r)];exact r
   rcases hc with rfl | hc
   ·exact hbe
   ·rintro rfl
    rcases he with z | z
    ·exact nown c b hc z
    ·rw [hc] at z;cases z;exact hb rfl
end
structure Un (fs ex:List Addr) (H H':Hp) (h h':Heap):Prop where
 keep:∀b o,h.get? b=some o→H b=none→b∉fs→b∉ex→h'.get? b=some o
 slot:∀b o,h.get? b=some o→H b=none→b∈fs→b∉ex→∃sl,h'.get? b=some { o with slots:=sl }
 free:∀b o,h.get? b=some o→H b=none→b∉ex→H' b=none
 there:∀b o,h.get? b=some o→b∉ex→∃o',h'.get? b=some o'
 tups:∀b xs,H b=some (.tup xs)→H' b=some (.tup xs)
 frzs:∀b o u,H b=some (.frz o u)→H' b=some (.frz o u)
 tbls:∀b ps,H b=some (.tbl ps)→∃more,H' b=some (.tbl (ps++more))
section
variable {fs fs' ex ex':List Addr}{H H1 H2:Hp}{h h1 h2 h':Heap}{a x e:Addr}{o:HO}
theorem Un.any (u:Un fs ex H H1 h h1) {b:Addr}{ob:Obj} (q:h.get? b=some ob) (n:H b=none) (hx:b∉ex):∃sl,h1.get? b=some { ob with slots:=sl }:=by
 by_cases hb:b∈fs
 ·exact u.slot b ob q n hb hx
 ·exact ⟨ob.slots,u.keep b ob q n hb hx⟩
theorem Un.kept (k:∀b u,h.get? b=some u→h'.get? b=some u):Un fs ex H H h h':=
 ⟨fun b ob q _ _ _=>k b ob q,fun b ob q _ _ _=>⟨ob.slots,k b ob q⟩,fun _ _ _ n _=>n,fun b ob q _=>⟨ob,k b ob q⟩,fun _ _ q=>q,fun _ _ _ q=>q,fun _ ps q=>⟨#[],by rw [q];simp⟩⟩
theorem Un.refl:Un fs ex H H h h:=Un.kept fun _ _ q=>q
theorem Un.laid (k:∀b u,h.get? b=some u→h'.get? b=some u) (hp:h.objs.size≤a) (hn:H a=none):Un fs ex H (aI H a o) h h' where
 keep:=fun b u q _ _ _=>k b u q
 slot:=fun b u q _ _ _=>⟨u.slots,k b u q⟩
 free:=fun b u q n _=>by rw [ap (Nat.ne_of_lt (Nat.lt_of_lt_of_le (Heap.lt_size q) hp))];exact n
 there:=fun b u q _=>⟨u,k b u q⟩
 tups:=fun b xs q=>by rw [ap (ba q hn)];exact q
 frzs:=fun b u xs q=>by rw [ap (ba q hn)];exact q
 tbls:=fun b ps q=>⟨#[],by rw [ap (ba q hn),q];simp⟩
theorem Un.write (mu:r0 (H x)) (he:e=x∨H e=some (.own x)) (k:∀b u,b≠e→h.get? b=some u→h'.get? b=some u) (heo:∃u,h'.get? e=some u):Un fs ex H (aI H x o) h h':=by
 have hx:∀b,H b=none→b≠x:=fun b n z=>by subst z;rw [n] at mu;exact mu
 have hb:∀b,H b=none→b≠e:=fun b n z=>by
  subst z
  rcases he with r | r
  ·exact hx b n r
  ·rw [n] at r;cases r
 have hm:∀b u,H b=some u→¬r0 (some u)→b≠x:=fun b u q nm z=>by subst z;rw [q] at mu;exact nm mu
 refine ⟨fun b u q n _ _=>k b u (hb b n) q,fun b u q n _ _=>⟨u.slots,k b u (hb b n) q⟩,fun b u q n _=>by rw [ap (hx b n)];exact n,fun b u q _=>?_,
  fun b xs q=>by rw [ap (hm b _ q fun z=>z)];exact q,fun b u xs q=>by rw [ap (hm b _ q fun z=>z)];exact q,fun b ps q=>⟨#[],by rw [ap (hm b _ q fun z=>z),q];simp⟩⟩
 by_cases hbe:b=e
 ·subst hbe;exact heo
 ·exact ⟨u,k b u hbe q⟩
end
def rD (h:Heap) (H:Hp):List Addr:=(List.range h.objs.size).filter fun a=>(H a).isSome
def iC (h:Heap) (H:Hp):Heap:=PySem.W.hideAll h (rD h H)
theorem ph (h:Heap) (H:Hp):(iC h H).objs.size=h.objs.size:=PySem.W.hideAll_size _ _
theorem qp {h:Heap}{H:Hp}{b:Addr}{o:Obj} (e:h.get? b=some o) (n:H b=none):(iC h H).get? b=some o:=
 PySem.W.hideAll_get _ e fun hm=>by
  have q:(H b).isSome=true:=(List.mem_filter.mp hm).2
  rw [n] at q;simp at q
theorem sC {h:Heap}{H:Hp}{b:Addr}{o:Obj} (e:(iC h H).get? b=some o):h.get? b=some o∧H b=none:=by
 have e':h.get? b=some o:=PySem.W.of_hideAll (rD h H) e
 refine ⟨e',?_⟩
 cases q:H b with
 | none=>rfl
 | some x=>
  have hm:b∈rD h H:=List.mem_filter.mpr ⟨List.mem_range.mpr (Heap.lt_size e'),by simp [q]⟩
  have z:(iC h H).get? b=none:=PySem.W.hideAll_none (rD h H) hm
  rw [z] at e;cases e
structure Mod (K:PySem.W.Frag) (mg:Str→Option Value) (base:Heap):Prop where
 kin:K.In base
 glob:base.Ns mainGlobals mg
 blt:∃mb,base.Ns builtinsNs mb∧∀x:Str,x≠"__name__"→mb x=bootBuiltins x
 nolimit:base.NoLimit
structure Cx where
 prog:Program
 w:World
 K:PySem.W.Frag
 mg:Str→Option Value
 base:Heap
 A:Around
 N:List Str
 s₀:Shared
 H₀:Hp
 env:Env
 outer:List Env
 stack:List Env
 ex:List Addr
 fn:Str→Bool
 calm:Bool
 pn:List (Addr×Obj)
 xe:Value→Shared→Prop
def dN (l:List Env):List Addr:=l.filterMap (·.frame)
abbrev Cx.fs (X:Cx):List Addr:=dN X.outer
def pJ (sc:Scope) (x:Str):Prop:=sc.names.lookup x=some .local∨sc.names.lookup x=some .cell∨sc.names.lookup x=some .free
def rF (sc:Scope) (x:Str):Prop:=sc.names.lookup x=some .local∨sc.names.lookup x=some .cell
def uw (env:Env) (h:Heap) (m:Str→Option Value) (x:Str) (u:Value):Prop:=
 (env.kindOf x=some .local∧m x=some u)∨((env.kindOf x=some .cell∨env.kindOf x=some .free)∧∃c,env.cells.lookup x=some c∧h.IsCell c (some u))
structure Cx.Ok (X:Cx):Prop where
 mod:Mod X.K X.mg X.base
 kind:X.env.scope.kind=.function
 glob:X.env.globals=mainGlobals
 blt:X.env.builtins=builtinsNs
 above:X.s₀.heap.objs.size≤X.env.locals
 inj:∀x y c,X.env.cells.lookup x=some c→X.env.cells.lookup y=some c→x=y
 has:∀x,(X.env.kindOf x=some .cell∨X.env.kindOf x=some .free)→∃c,X.env.cells.lookup x=some c
 cab:∀x c,X.fn x=true→X.env.cells.lookup x=some c→X.s₀.heap.objs.size≤c
 hd:X.calm=true→X.A.handled=none
 frames:X.A.frames=some X.stack
 stk:X.stack=X.outer∨(X.stack=X.env :: X.outer∧X.env.frame=some X.env.locals)
 exf:∀b∈X.ex,b≠X.env.locals∧∀x c,X.env.cells.lookup x=some c→c≠b
 bs:∀b o,X.base.get? b=some o→X.s₀.heap.get? b=some o∧X.H₀ b=none
 bsz:X.base.objs.size≤X.s₀.heap.objs.size
 noex:∀b o,X.base.get? b=some o→b∉X.ex
 exfs:∀b∈X.ex,b∉X.fs
 funs:X.s₀.heap.FunFrames X.base X.outer
 frf:∀b∈X.fs,X.H₀ b=none
structure aa (X:Cx) (pins:List (Addr×Obj)) (σ:List (Option V)) (H:Hp) (s:Shared):Prop where
 ok:X.Ok
 os:s.os=X.s₀.os
 bare:AllBare s.gens
 base:Un X.fs X.ex X.H₀ H X.s₀.heap s.heap
 loc:∃m,s.heap.Ns X.env.locals m∧∀(i:Nat) (x:Str) (v:V),X.N[i]?=some x→σ[i]?=some (some v)→pJ X.env.scope x→∃u,aM v u∧uw X.env s.heap m x u
 cell:∀x c,X.env.cells.lookup x=some c→∃v,s.heap.IsCell c v
 free:H X.env.locals=none
 freeC:∀x c,X.env.cells.lookup x=some c→H c=none
 pin:∀p∈X.pn++pins,s.heap.get? p.1=some p.2∧H p.1=none∧p.1≠X.env.locals∧p.1∉X.fs∧∀v,p.2.data≠.cell v
 hok:cg X.prog X.w H s.heap
 len:σ.length=X.N.length
section
variable {X:Cx}{pins:List (Addr×Obj)}{σ:List (Option V)}{H H':Hp}{s:Shared}{h':Heap}
theorem Cx.Ok.nofr (ok:X.Ok) {b:Addr}{o:Obj} (e:X.base.get? b=some o):b∉X.fs:=fun hb=>by
 have:=(ok.funs.mem hb).1
 rw [e] at this;cases this
theorem aa.bs (I:aa X pins σ H s):∀b o,X.base.get? b=some o→s.heap.get? b=some o∧H b=none:=fun b o e=>
 ⟨I.base.keep b o (I.ok.bs b o e).1 (I.ok.bs b o e).2 (I.ok.nofr e) (I.ok.noex b o e),I.base.free b o (I.ok.bs b o e).1 (I.ok.bs b o e).2 (I.ok.noex b o e)⟩
theorem aa.bk (I:aa X pins σ H s):∀b o,X.base.get? b=some o→s.heap.get? b=some o:=fun b o e=>(I.bs b o e).1
theorem aa.mod (I:aa X pins σ H s):Mod X.K X.mg X.base:=I.ok.mod
theorem aa.kIn (I:aa X pins σ H s):X.K.In s.heap:=I.ok.mod.kin.keeps I.bk
theorem aa.lt (I:aa X pins σ H s):X.env.locals<s.heap.objs.size:=let ⟨_,hn,_⟩:=I.loc;hn.lt
theorem aa.sz (I:aa X pins σ H s):X.s₀.heap.objs.size≤s.heap.objs.size:=Nat.le_trans I.ok.above (Nat.le_of_lt I.lt)
theorem aa.nofs (I:aa X pins σ H s) {a:Addr} (h:s.heap.objs.size≤a):a∉X.fs:=fun hb=>by
 obtain ⟨_,o,ho,_⟩:=I.ok.funs.mem hb
 exact absurd (Nat.lt_of_lt_of_le (Heap.lt_size ho) (Nat.le_trans I.sz h)) (Nat.lt_irrefl _)
theorem aa.cne (I:aa X pins σ H s):∀x c,X.env.cells.lookup x=some c→c≠X.env.locals:=fun x c e z=>by
 obtain ⟨v,o,ho,hd⟩:=I.cell x c e
 obtain ⟨m,⟨o',es,ep,ho',hd',_⟩,_⟩:=I.loc
 rw [z,ho'] at ho;cases ho;rw [hd'] at hd;cases hd
theorem aa.funs (I:aa X pins σ H s):s.heap.FunFrames X.base X.outer:=by
 have all:∀(l:List Env),(∀b∈dN l,b∈X.fs)→X.s₀.heap.FunFrames X.base l→s.heap.FunFrames X.base l:=by
  intro l
  induction l with
  | nil=>intro _ _;trivial
  | cons env r ih=>
   intro hs hl
   obtain ⟨hk,⟨L,o,hf,hn,ho,hd⟩,hr⟩:=hl
   have hL:L∈X.fs:=hs L (by unfold dN;rw [List.filterMap_cons,hf];exact List.mem_cons_self)
   obtain ⟨sl,e⟩:=I.base.slot L o ho (I.ok.frf L hL) hL fun z=>I.ok.exfs L z hL
   exact ⟨hk,⟨L,_,hf,hn,e,hd⟩,ih (fun b hb=>hs b (by unfold dN;rw [List.filterMap_cons,hf];exact List.mem_cons_of_mem _ hb)) hr⟩
 exact all X.outer (fun _ hb=>hb) I.ok.funs
theorem aa.stack (I:aa X pins σ H s):s.heap.FunFrames X.base X.stack:=by
 rcases I.ok.stk with e | ⟨e,hf⟩
 ·rw [e];exact I.funs
 ·rw [e]
  obtain ⟨m,hn,_⟩:=I.loc
  refine .cons (by rw [I.ok.kind];decide) hf hn ?_ I.funs
  exact Heap.get?_none_of_le (Nat.le_trans I.ok.bsz I.ok.above)
theorem aa.stkSub (I:aa X pins σ H s):∀b∈dN X.stack,b∈X.env.locals :: X.fs:=fun b hb=>by
 rcases I.ok.stk with e | ⟨e,hf⟩
 ·rw [e] at hb;exact List.mem_cons_of_mem _ hb
 ·rw [e] at hb
  unfold dN at hb
  rw [List.filterMap_cons,hf] at hb
  exact hb
theorem aa.stkFree (I:aa X pins σ H s):∀b∈dN X.stack,H b=none:=fun b hb=>by
 rcases List.mem_cons.mp (I.stkSub b hb) with e | hb
 ·rw [e];exact I.free
 ·obtain ⟨_,o,ho,_⟩:=I.ok.funs.mem hb
  exact I.base.free b o ho (I.ok.frf b hb) fun z=>I.ok.exfs b z hb
theorem aa.step {g':Array GenState}{t':Nat}{d':Drawn}{ch:List Addr} (I:aa X pins σ H s)
 (hch:∀b∈ch,(b∈X.ex∨X.s₀.heap.objs.size≤b)∧b≠X.env.locals∧(∀x c,X.env.cells.lookup x=some c→c≠b)∧∀p∈X.pn++pins,p.1≠b)
 (keep:∀b o,b≠X.env.locals→b∉X.fs→b∉ch→s.heap.get? b=some o→H b=none→h'.get? b=some o)
 (slot:∀b o,b≠X.env.locals→b∈X.fs→b∉ch→s.heap.get? b=some o→H b=none→∃sl,h'.get? b=some { o with slots:=sl }) (free:∀b o,b∉ch→s.heap.get? b=some o→H b=none→H' b=none)
 (there:∀b o,b∉ch→s.heap.get? b=some o→∃o',h'.get? b=some o')
 (tups:∀b xs,H b=some (.tup xs)→H' b=some (.tup xs)) (frzs:∀b o u,H b=some (.frz o u)→H' b=some (.frz o u)) (tbls:∀b ps,H b=some (.tbl ps)→∃more,H' b=some (.tbl (ps++more)))
 (ns:∀m,s.heap.Ns X.env.locals m→h'.Ns X.env.locals m) (hok:cg X.prog X.w H' h') (hg:AllBare g') :
 aa X pins σ H' { s with heap:=h',gens:=g',drawn:=d',toks:=t' }:=by
 have neL:∀b o,X.s₀.heap.get? b=some o→b≠X.env.locals:=fun b o e=>Nat.ne_of_lt (Nat.lt_of_lt_of_le (Heap.lt_size e) I.ok.above)
 have neC:∀b o,X.s₀.heap.get? b=some o→b∉X.ex→b∉ch:=fun b o e hx hb=>by
  rcases (hch b hb).1 with z | z
  ·exact hx z
  ·exact absurd (Nat.lt_of_lt_of_le (Heap.lt_size e) z) (Nat.lt_irrefl _)
 have cellK:∀x c,X.env.cells.lookup x=some c→∀v,s.heap.IsCell c v→h'.IsCell c v:=fun x c e v ⟨o,ho,hd⟩=>by
  have nch:c∉ch:=fun z=>(hch c z).2.2.1 x c e rfl
  by_cases hc:c∈X.fs
  ·obtain ⟨sl,q⟩:=slot c o (I.cne x c e) hc nch ho (I.freeC x c e)
   exact ⟨_,q,hd⟩
  ·exact ⟨o,keep c o (I.cne x c e) hc nch ho (I.freeC x c e),hd⟩
 refine ⟨I.ok,I.os,hg,⟨fun b o e n hb hx=>?_,fun b o e n hb hx=>?_,fun b o e n hx=>?_,fun b o e hx=>?_,fun b xs e=>tups b xs (I.base.tups b xs e),fun b o xs e=>frzs b o xs (I.base.frzs b o xs e),fun b ps e=>?_⟩,?_,fun x c e=>?_,?_,fun x c e=>?_,fun p hp=>?_,hok,I.len⟩
 ·exact keep b o (neL b o e) hb (neC b o e hx) (I.base.keep b o e n hb hx) (I.base.free b o e n hx)
 ·obtain ⟨sl,e1⟩:=I.base.slot b o e n hb hx
  obtain ⟨sl',e2⟩:=slot b _ (neL b o e) hb (neC b o e hx) e1 (I.base.free b o e n hx)
  exact ⟨sl',e2⟩
 ·obtain ⟨o',e1⟩:=I.base.there b o e hx
  exact free b o' (neC b o e hx) e1 (I.base.free b o e n hx)
 ·obtain ⟨o',e1⟩:=I.base.there b o e hx
  exact there b o' (neC b o e hx) e1
 ·obtain ⟨m1,e1⟩:=I.base.tbls b ps e
  obtain ⟨m2,e2⟩:=tbls b _ e1
  exact ⟨m1++m2,by rw [e2,Array.append_assoc]⟩
 ·obtain ⟨m,hn,hl⟩:=I.loc
  refine ⟨m,ns m hn,fun i x v e1 e2 e3=>?_⟩
  obtain ⟨u,r,l⟩:=hl i x v e1 e2 e3
  refine ⟨u,r,?_⟩
  rcases l with l | ⟨k,c,e,z⟩
  ·exact .inl l
  ·exact .inr ⟨k,c,e,cellK x c e _ z⟩
 ·obtain ⟨v,z⟩:=I.cell x c e
  exact ⟨v,cellK x c e v z⟩
 ·obtain ⟨m,⟨o,_,_,ho,_⟩,_⟩:=I.loc
  exact free _ o (fun z=>(hch _ z).2.1 rfl) ho I.free
 ·obtain ⟨v,o,ho,hd⟩:=I.cell x c e
  exact free c o (fun z=>(hch c z).2.2.1 x c e rfl) ho (I.freeC x c e)
 ·obtain ⟨e,n,ne,nf,d⟩:=I.pin p hp
  have nch:p.1∉ch:=fun z=>(hch p.1 z).2.2.2 p hp rfl
  exact ⟨keep p.1 p.2 ne nf nch e n,free p.1 p.2 nch e n,ne,nf,d⟩
theorem aa.un {t':Nat} (I:aa X pins σ H s) (u:Un X.fs [] H H' s.heap h') (hok:cg X.prog X.w H' h'):aa X pins σ H' { s with heap:=h',toks:=t' }:=by
 obtain ⟨m,⟨o,es,ep,ho,r⟩,_⟩:=id I.loc
 obtain ⟨sl,hL⟩:=u.any ho I.free (by simp)
 exact I.step (g':=s.gens) (d':=s.drawn) (ch:=[]) (fun _ z=>nomatch z) (fun b o _ hb _ e n=>u.keep b o e n hb (by simp)) (fun b o _ hb _ e n=>u.slot b o e n hb (by simp)) (fun b o _ e n=>u.free b o e n (by simp)) (fun b o _ e=>u.there b o e (by simp)) u.tups u.frzs u.tbls (fun m' hm=>by
  obtain ⟨o',es',ep',ho',r'⟩:=hm
  rw [ho] at ho';cases ho'
  exact ⟨_,es',ep',hL,r'⟩) hok I.bare
theorem aa.call {g':Array GenState}{t':Nat}{d':Drawn}{ch:List Addr} (I:aa X pins σ H s) (u:Un (dN X.stack) ch H H' s.heap h') (hok:cg X.prog X.w H' h') (hg:AllBare g')
 (hch:∀b∈ch,(b∈X.ex∨X.s₀.heap.objs.size≤b)∧b≠X.env.locals∧(∀x c,X.env.cells.lookup x=some c→c≠b)∧∀p∈X.pn++pins,p.1≠b) :
 aa X pins σ H' { s with heap:=h',gens:=g',drawn:=d',toks:=t' }:=by
 obtain ⟨m,⟨o,es,ep,ho,r⟩,_⟩:=id I.loc
 obtain ⟨sl,hL⟩:=u.any ho I.free fun z=>(hch _ z).2.1 rfl
 exact I.step (ch:=ch) hch (fun b o hL hb hc e n=>u.keep b o e n (fun z=>(List.mem_cons.mp (I.stkSub b z)).elim hL hb) hc) (fun b o _ _ hc e n=>u.any e n hc) (fun b o hc e n=>u.free b o e n hc) (fun b o hc e=>u.there b o e hc) u.tups u.frzs u.tbls (fun m' hm=>by
  obtain ⟨o',es',ep',ho',r'⟩:=hm
  rw [ho] at ho';cases ho'
  exact ⟨_,es',ep',hL,r'⟩) hok hg
theorem aa.turned {t':Nat}{it:Addr} (I:aa X pins σ H s) (k:∀b o,b≠it→s.heap.get? b=some o→h'.get? b=some o) (hn:H it=none) (hL:it≠X.env.locals)
 (h1:it∈X.ex∨X.s₀.heap.objs.size≤it) (h2:∀x c,X.env.cells.lookup x=some c→c≠it) (h3:∀p∈X.pn++pins,p.1≠it):aa X pins σ H { s with heap:=h',toks:=t' }:=by
 have nit:∀b u,H b=some u→b≠it:=fun b u e z=>by rw [z,hn] at e;cases e
 refine I.step (g':=s.gens) (d':=s.drawn) (ch:=[it]) (fun b hb=>?_) (fun b o _ _ hc e _=>k b o (fun z=>hc (by simp [z])) e) (fun b o _ _ hc e _=>⟨o.slots,k b o (fun z=>hc (by simp [z])) e⟩) (fun _ _ _ _ n=>n)
  (fun b o hc e=>⟨o,k b o (fun z=>hc (by simp [z])) e⟩) (fun _ _ e=>e) (fun _ _ _ e=>e) (fun b ps e=>⟨#[],by rw [e];simp⟩) (fun m hm=>?_) (fun b u e=>?_) I.bare
 ·have e:b=it:=by simpa using hb
  subst e
  exact ⟨h1,hL,h2,h3⟩
 ·obtain ⟨o,es,ep,ho,r⟩:=hm
  exact ⟨o,es,ep,k _ o (Ne.symm hL) ho,r⟩
 ·refine (I.hok b u e).stay (fun c v hc q=>k c v ?_ q) (fun _ q=>q) fun _ _ q=>q
  rcases hc with z | z
  ·rw [z];exact nit b u e
  ·exact nit c _ z
theorem aa.tok (I:aa X pins σ H s) (t:Nat):aa X pins σ H { s with toks:=t }:=I.un (h':=s.heap) (t':=t) Un.refl I.hok
theorem aa.kept {t':Nat} (I:aa X pins σ H s) (k:∀b u,s.heap.get? b=some u→h'.get? b=some u):aa X pins σ H { s with heap:=h',toks:=t' }:=I.un (Un.kept k) (I.hok.kept k)
theorem aa.laid {a:Addr}{o:HO}{t':Nat} (I:aa X pins σ H s) (k:∀b u,s.heap.get? b=some u→h'.get? b=some u) (hp:s.heap.objs.size≤a) (new:aW X.prog X.w (aI H a o) h' a o) :
 aa X pins σ (aI H a o) { s with heap:=h',toks:=t' }:=I.un (Un.laid k hp (I.hok.fresh hp)) (I.hok.laid k hp new)
theorem aa.write {x e:Addr}{o:HO}{t':Nat} (I:aa X pins σ H s) (mu:r0 (H x)) (he:e=x∨H e=some (.own x)) (k:∀b u,b≠e→s.heap.get? b=some u→h'.get? b=some u) (heo:∃u,h'.get? e=some u)
 (new:aW X.prog X.w (aI H x o) h' x o):aa X pins σ (aI H x o) { s with heap:=h',toks:=t' }:=I.un (Un.write mu he k heo) (I.hok.write mu he k heo new)
theorem aa.weak {σ':List (Option V)} (I:aa X pins σ H s) (hl:σ'.length=σ.length) (w:∀(i:Nat) v,σ'[i]?=some (some v)→σ[i]?=some (some v)):aa X pins σ' H s:=
 ⟨I.ok,I.os,I.bare,I.base,let ⟨m,hn,hl'⟩:=I.loc;⟨m,hn,fun i x v e1 e2 e3=>hl' i x v e1 (w i v e2) e3⟩,I.cell,I.free,I.freeC,I.pin,I.hok,hl.trans I.len⟩
theorem aa.pins_of {pins':List (Addr×Obj)} (I:aa X pins σ H s) (h:∀p∈pins',s.heap.get? p.1=some p.2∧H p.1=none∧p.1≠X.env.locals∧p.1∉X.fs∧∀v,p.2.data≠.cell v):aa X pins' σ H s:=
 ⟨I.ok,I.os,I.bare,I.base,I.loc,I.cell,I.free,I.freeC,fun p hp=>(List.mem_append.mp hp).elim (fun z=>I.pin p (List.mem_append_left _ z)) (h p),I.hok,I.len⟩
theorem jX {N:List Str} (hN:N.Nodup) {i j:Nat}{x:Str} (a:N[i]?=some x) (b:N[j]?=some x):i=j:=by
 obtain ⟨h1,e1⟩:=List.getElem?_eq_some_iff.mp a
 obtain ⟨h2,e2⟩:=List.getElem?_eq_some_iff.mp b
 exact (List.getElem_inj hN).mp (e1.trans e2.symm)
theorem o1 {M:Model}{A:Around}{E:Value→Shared→Prop}{i:Nat}{x:Str}{v:V}{u:Value}{Q:Unit→Shared→Prop} (I:aa X pins σ H s) (hN:X.N.Nodup) (hi:X.N[i]?=some x) (hx:rF X.env.scope x) (r:aM v u)
 (h:∀s',aa X pins (σ.set i (some v)) H s'→(∃a,Heap.SameBut a s.heap s'.heap∧(a=X.env.locals∨X.env.cells.lookup x=some a))→Q () s') (hf:X.fn x=true∨X.env.scope.names.lookup x=some .local:=by first | exact .inl rfl | exact .inr rfl | assumption):wpAny M A (storeName X.env x u) Q E s:=by
 obtain ⟨m,hn,hl⟩:=id I.loc
 have hcls:(X.env.scope.kind==.class || (X.env.scope.kind==.module && X.env.locals != X.env.globals))=false:=by rw [I.ok.kind];rfl
 have hiσ:i<σ.length:=by rw [I.len];exact (List.getElem?_eq_some_iff.mp hi).1
 have cne:=I.cne
 have tracked:∀{a:Addr}{h':Heap},(∃o,s.heap.get? a=some o∧H a=none)→Heap.SameBut a s.heap h'→cg X.prog X.w H h':=fun {a h'} ha hs b ob e=>by
  obtain ⟨_,_,hfree⟩:=ha
  refine (I.hok b ob e).stay (fun c w' hc q=>(hs.2 c ?_).trans q) (fun _ q=>q) fun _ _ q=>q
  rintro rfl
  rcases hc with rfl | hc
  ·rw [hfree] at e;cases e
  ·rw [hfree] at hc;cases hc
 rcases hx with hk | hk
 ·refine wpAny_storeName_local hk hn (fun h' hn' hs=>?_) hcls
  obtain ⟨oL,_,_,hoL,_⟩:=id hn
  refine h _ ⟨I.ok,I.os,I.bare,⟨fun b o e n hb hx=>?_,fun b o e n hb hx=>?_,I.base.free,fun b o e hx=>?_,I.base.tups,I.base.frzs,I.base.tbls⟩,⟨_,hn',fun j y v' e1 e2 e3=>?_⟩,fun y c e=>?_,I.free,I.freeC,fun p hp=>?_,tracked ⟨oL,hoL,I.free⟩ hs,by simpa using I.len⟩ ⟨_,hs,.inl rfl⟩
  ·exact (hs.2 b (Nat.ne_of_lt (Nat.lt_of_lt_of_le (Heap.lt_size e) I.ok.above))).trans (I.base.keep b o e n hb hx)
  ·obtain ⟨sl,e1⟩:=I.base.slot b o e n hb hx
   exact ⟨sl,(hs.2 b (Nat.ne_of_lt (Nat.lt_of_lt_of_le (Heap.lt_size e) I.ok.above))).trans e1⟩
  ·obtain ⟨o',e1⟩:=I.base.there b o e hx
   exact ⟨o',(hs.2 b (Nat.ne_of_lt (Nat.lt_of_lt_of_le (Heap.lt_size e) I.ok.above))).trans e1⟩
  ·by_cases hj:j=i
   ·subst hj
    rw [hi] at e1;cases e1
    rw [List.getElem?_set_self hiσ] at e2
    cases e2
    exact ⟨u,r,.inl ⟨hk,by simp⟩⟩
   ·rw [List.getElem?_set_ne (Ne.symm hj)] at e2
    obtain ⟨u',r',q⟩:=hl j y v' e1 e2 e3
    refine ⟨u',r',?_⟩
    rcases q with ⟨k,e⟩ | ⟨k,c,e,z⟩
    ·refine .inl ⟨k,?_⟩
     have:y≠x:=fun e=>hj (jX hN e1 (e▸hi))
     simp [this,e]
    ·exact .inr ⟨k,c,e,z.sameBut hs (cne y c e)⟩
  ·obtain ⟨w',z⟩:=I.cell y c e
   exact ⟨w',z.sameBut hs (cne y c e)⟩
  ·obtain ⟨e,n,ne,nf,d⟩:=I.pin p hp
   exact ⟨(hs.2 p.1 ne).trans e,n,ne,nf,d⟩
 ·have hfn:X.fn x=true:=by
   rcases hf with z | z
   ·exact z
   ·rw [z] at hk;cases hk
  obtain ⟨c,hc⟩:=I.ok.has x (.inl hk)
  obtain ⟨w',z⟩:=I.cell x c hc
  refine wpAny_storeName_cell I.ok.kind hk hc z (fun h' hc' hs=>?_)
  obtain ⟨oc,hoc,hocd⟩:=id z
  refine h { s with heap:=h' } ⟨I.ok,I.os,I.bare,⟨fun b o e n hb hx=>?_,fun b o e n hb hx=>?_,I.base.free,fun b o e hx=>?_,I.base.tups,I.base.frzs,I.base.tbls⟩,⟨m,hn.sameBut hs (Ne.symm (cne x c hc)),fun j y v' e1 e2 e3=>?_⟩,fun y c' e=>?_,I.free,I.freeC,fun p hp=>?_,tracked ⟨oc,hoc,I.freeC x c hc⟩ hs,by simpa using I.len⟩ ⟨c,hs,.inr hc⟩
  ·exact (hs.2 b (Nat.ne_of_lt (Nat.lt_of_lt_of_le (Heap.lt_size e) (I.ok.cab x c hfn hc)))).trans (I.base.keep b o e n hb hx)
  ·obtain ⟨sl,e1⟩:=I.base.slot b o e n hb hx
   exact ⟨sl,(hs.2 b (Nat.ne_of_lt (Nat.lt_of_lt_of_le (Heap.lt_size e) (I.ok.cab x c hfn hc)))).trans e1⟩
  ·obtain ⟨o',e1⟩:=I.base.there b o e hx
   exact ⟨o',(hs.2 b (Nat.ne_of_lt (Nat.lt_of_lt_of_le (Heap.lt_size e) (I.ok.cab x c hfn hc)))).trans e1⟩
  ·by_cases hj:j=i
   ·subst hj
    rw [hi] at e1;cases e1
    rw [List.getElem?_set_self hiσ] at e2
    cases e2
    exact ⟨u,r,.inr ⟨.inl hk,c,hc,hc'⟩⟩
   ·rw [List.getElem?_set_ne (Ne.symm hj)] at e2
    obtain ⟨u',r',q⟩:=hl j y v' e1 e2 e3
    refine ⟨u',r',?_⟩
    rcases q with q | ⟨k,c',e,z'⟩
    ·exact .inl q
    ·refine .inr ⟨k,c',e,z'.sameBut hs ?_⟩
     rintro rfl
     exact hj (jX hN e1 (I.ok.inj _ _ _ e hc▸hi))
  ·by_cases hcc:c'=c
   ·subst hcc;exact ⟨_,hc'⟩
   ·obtain ⟨w2,z2⟩:=I.cell y c' e
    exact ⟨w2,z2.sameBut hs hcc⟩
  ·obtain ⟨e,n,ne,nf,d⟩:=I.pin p hp
   refine ⟨(hs.2 p.1 ?_).trans e,n,ne,nf,d⟩
   intro q
   rw [q,hoc] at e
   have q':oc=p.2:=Option.some.inj e
   exact d w' (by rw [←q'];exact hocd)
theorem fq {M:Model}{A:Around}{E:Value→Shared→Prop}{i:Nat}{x:Str}{v:V}{u:Value}{Q:Unit→Shared→Prop} (I:aa X pins σ H s) (hN:X.N.Nodup) (hi:X.N[i]?=some x) (hx:rF X.env.scope x) (r:aM v u)
 (h:∀s',aa X pins (σ.set i (some v)) H s'→Q () s') (hf:X.fn x=true∨X.env.scope.names.lookup x=some .local:=by first | exact .inl rfl | exact .inr rfl | assumption):wpAny M A (storeName X.env x u) Q E s:=
 o1 I hN hi hx r (fun s' I' _=>h s' I') hf
theorem aa.call' {s':Shared}{ch:List Addr} (I:aa X pins σ H s) (ho:s'.os=s.os) (u:Un (dN X.stack) ch H H' s.heap s'.heap) (hok:cg X.prog X.w H' s'.heap) (hg:AllBare s'.gens)
 (hch:∀b∈ch,(b∈X.ex∨X.s₀.heap.objs.size≤b)∧b≠X.env.locals∧(∀x c,X.env.cells.lookup x=some c→c≠b)∧∀p∈X.pn++pins,p.1≠b):aa X pins σ H' s':=by
 obtain ⟨h',g',d',t',o'⟩:=s'
 have e:o'=s.os:=ho
 subst e
 exact I.call (g':=g') (t':=t') (d':=d') u hok hg hch
end
abbrev XK:=Value→Option Addr→Hp→Prop
abbrev St:=List (Option V)
abbrev VK:=V→Hp→Prop
abbrev TE:=St→Hp→VK→Prop
abbrev TT:=St→Hp→(Bool→Hp→Prop)→Prop
abbrev TA:=St→Hp→(List V→Hp→Prop)→Prop
structure c4 where
 nx:St→Hp→Prop
 rt:VK
 bk:St→Hp→Prop:=fun _ _=>False
 ct:St→Hp→Prop:=fun _ _=>False
abbrev TS:=c4→St→Hp→Prop
inductive EP (X:Cx) (pins:List (Addr×Obj)) (σ:St) (Q:VK) (u:Value) (s':Shared):Prop
 | mk (v:_) (H':_) (h0:aa X pins σ H' s') (h1:aM v u) (h2:Q v H')
def TP (X:Cx) (pins:List (Addr×Obj)) (σ:St) (Q:Bool→Hp→Prop) (b:Bool) (s':Shared):Prop:=∃H',aa X pins σ H' s'∧Q b H'
inductive AP (X:Cx) (pins:List (Addr×Obj)) (σ:St) (Q:List V→Hp→Prop) (us:List Value) (s':Shared):Prop
 | mk (vs:_) (H':_) (h0:aa X pins σ H' s') (h1:aw vs us) (h2:Q vs H')
def SP (X:Cx) (pins:List (Addr×Obj)) (D:c4) (f:Flow) (s':Shared):Prop:=
 match f with
 | .next=>∃σ' H',aa X pins σ' H' s'∧D.nx σ' H'
 | .brk=>∃σ' H',aa X pins σ' H' s'∧D.bk σ' H'
 | .cont=>∃σ' H',aa X pins σ' H' s'∧D.ct σ' H'
 | .ret u=>∃v σ' H',aa X pins σ' H' s'∧aM v u∧D.rt v H'
def PE (X:Cx) (e:Expr) (t:TE):Prop:=
 ∀(pins:List (Addr×Obj)) (s:Shared) (σ:St) (H:Hp) (Q:VK),aa X pins σ H s→t σ H Q→wpAny (model X.prog X.w) X.A (eval e X.env) (EP X pins σ Q) X.xe s
def PT (X:Cx) (e:Expr) (t:TT):Prop:=
 ∀(pins:List (Addr×Obj)) (s:Shared) (σ:St) (H:Hp) (Q:Bool→Hp→Prop),aa X pins σ H s→t σ H Q→wpAny (model X.prog X.w) X.A (isTrue e X.env (eval e X.env)) (TP X pins σ Q) X.xe s
def PW (X:Cx) (e:Expr) (t:TT):Prop:=
 ∀(whole:Sem Value) (pins:List (Addr×Obj)) (s:Shared) (σ:St) (H:Hp) (Q:Bool→Hp→Prop),aa X pins σ H s→t σ H Q→wpAny (model X.prog X.w) X.A (isTrue e X.env whole) (TP X pins σ Q) X.xe s
theorem PW.pt {X:Cx}{e:Expr}{t:TT} (h:PW X e t):PT X e t:=h _
def PA (X:Cx) (es:List Expr) (t:TA):Prop:=
 ∀(pos:Pos) (pins:List (Addr×Obj)) (s:Shared) (σ:St) (H:Hp) (Q:List V→Hp→Prop),aa X pins σ H s→t σ H Q→wpAny (model X.prog X.w) X.A (spliced (backTo pos (starEach es X.env))) (AP X pins σ Q) X.xe s
def PS (X:Cx) (st:Stmt) (t:TS):Prop:=
 ∀(pins:List (Addr×Obj)) (s:Shared) (σ:St) (H:Hp) (D:c4),aa X pins σ H s→t D σ H→wpAny (model X.prog X.w) X.A (exec st X.env) (SP X pins D) X.xe s
def fZ (X:Cx) (st:List Stmt) (t:TS):Prop:=
 ∀(pins:List (Addr×Obj)) (s:Shared) (σ:St) (H:Hp) (D:c4),aa X pins σ H s→t D σ H→wpAny (model X.prog X.w) X.A (execs st X.env) (SP X pins D) X.xe s
theorem aA {α:Type}{t:Sem α}{Q Q':α→Shared→Prop}{M:Model}{A:Around}{E:Value→Shared→Prop}{s:Shared} (h:wpAny M A t Q E s) (hQ:∀a s,Q a s→Q' a s):wpAny M A t Q' E s:=wpAny_mono h hQ fun _ _ x=>x
section
variable {X:Cx}
inductive wz (i:Nat) (σ:St) (H:Hp) (Q:VK):Prop
 | mk (v:_) (h0:σ[i]?=some (some v)) (h1:Q v H)
def mv (i:Nat):TE:=fun σ H Q=>wz i σ H Q
def tC (v:V):TE:=fun _ H Q=>Q v H
theorem pj {i:Nat}{x:Str}{pos:Pos} (hN:X.N[i]?=some x) (hv:pJ X.env.scope x) (hd:(x==("__debug__" : Str))=false:=by decide) (hcd:(x==("__classdict__" : Str))=false:=by decide):PE X (.Name x pos) (mv i):=by
 intro pins s σ H Q I h
 obtain ⟨v,e,h⟩:=h
 obtain ⟨m,hn,hl⟩:=I.loc
 obtain ⟨u,r,l⟩:=hl i x v hN e hv
 have fin:EP X pins σ Q u s:=⟨v,H,I,r,h⟩
 rcases l with ⟨hk,hm⟩ | ⟨hk,c,hc,hcell⟩
 ·exact wpAny_Name (wpAny_loadName_local I.ok.kind hk hn hm fin) hd
 ·rcases hk with hk | hk
  ·exact wpAny_Name (wpAny_loadName_cell I.ok.kind hk hc hcell fin) hd
  ·exact wpAny_Name (wpAny_loadName_free I.ok.kind hk hc hcell fin hcd) hd
theorem aS {i j pos}:PE X (.Constant (.int i) j pos) (tC (.int i)):=fun _ _ _ H _ I h=>wpAny_Constant_int ⟨.int i,H,I.tok _,⟨()⟩,h⟩
theorem eS {b j pos}:PE X (.Constant (.bool b) j pos) (tC (.bl b)):=fun _ _ _ H _ I h=>Constant_bool ⟨.bl b,H,I,rfl,h⟩
theorem bw {j pos}:PE X (.Constant .none j pos) (tC .non):=fun _ _ _ H _ I h=>Constant_none ⟨.non,H,I,rfl,h⟩
theorem ah {x j pos}:PE X (.Constant (.str x) j pos) (tC (.str x)):=fun _ _ _ H _ I h=>Calls.Constant_str ⟨.str x,H,I.tok _,⟨()⟩,h⟩
def Gl (X:Cx) (x:Str):Prop:=X.env.kindOf x=some .globalImplicit
theorem h8 {E:Value→Shared→Prop}{pins:List (Addr×Obj)}{s:Shared}{σ:St}{H:Hp}{x:Str}{u:Value}{pos:Pos}{Q:Value→Shared→Prop} (I:aa X pins σ H s) (hg:Gl X x) (hm:X.mg x=some u) (h:Q u s)
 (hd:(x==("__debug__" : Str))=false:=by decide):wpAny (model X.prog X.w) X.A (eval (.Name x pos) X.env) Q E s:=
 Calls.Name_function_global I.ok.kind hg (Calls.loadGlobal_global (by rw [I.ok.glob];exact I.mod.glob.keeps I.bk) hm h) hd
theorem hZ {E:Value→Shared→Prop}{pins:List (Addr×Obj)}{s:Shared}{σ:St}{H:Hp}{x:Str}{u:Value}{pos:Pos}{Q:Value→Shared→Prop} (I:aa X pins σ H s) (hg:Gl X x) (hm:X.mg x=none) (hv:bootBuiltins x=some u) (h:Q u s)
 (hn:x≠"__name__" := by decide) (hd:(x==("__debug__" : Str))=false:=by decide):wpAny (model X.prog X.w) X.A (eval (.Name x pos) X.env) Q E s:=by
 obtain ⟨mb,h1,h2⟩:=I.mod.blt
 exact Calls.Name_function_global I.ok.kind hg (Calls.loadGlobal_builtin (by rw [I.ok.glob];exact I.mod.glob.keeps I.bk) hm (by rw [I.ok.blt];exact h1.keeps I.bk) ((h2 x hn).trans hv) h) hd
theorem sq {x:Str}{v:V}{u:Value}{pos:Pos} (hg:Gl X x) (hm:X.mg x=none) (hv:bootBuiltins x=some u) (r:aM v u) (hn:x≠"__name__" := by decide) (hd:(x==("__debug__" : Str))=false:=by decide):PE X (.Name x pos) (tC v):=
 fun _ _ _ H _ I h=>hZ I hg hm hv ⟨v,H,I,r,h⟩ hn hd
variable {a b:Expr}{ta tb:TE}{pos:Pos}
inductive kD (x:V) (P:Bool→Prop):Prop
 | mk (c:Bool) (e:x=.bl c) (h:P c)
inductive uL (x:V) (P:Int→Prop):Prop
 | mk (c:Int) (e:x=.int c) (h:P c)
def tB (t:TE):TT:=fun σ H Q=>t σ H fun x H1=>kD x fun c=>Q c H1
theorem bn {e:Expr}{t:TE} (h:PE X e t) (he:∀whole,isTrue e X.env whole=(do let v ←whole;standAt e.pos;holding [v] (truthy v)):=by intro _;rfl):PT X e (tB t):=by
 intro pins s σ H Q I hw
 refine isTrue_plain (aA (h pins s σ H _ I hw) fun v s1 ⟨x,H1,I1,r1,q1⟩=>?_) (he _)
 obtain ⟨d,rfl,q⟩:=q1
 cases r1
 exact wpAny_truthy_bool ⟨H1,I1,q⟩
variable {tA tB':TT}{rest:List Expr}
def ug (t u:TT):TT:=fun σ H Q=>t σ H fun c H1=>if c=true then u σ H1 Q else Q false H1
def w5 (t u:TT):TT:=fun σ H Q=>t σ H fun c H1=>if c=true then Q true H1 else u σ H1 Q
def xI (t:TT):TT:=fun σ H Q=>t σ H fun c H1=>Q (!c) H1
theorem jy (ha:PT X a tA):PW X (.BoolOp .And [a] pos) tA:=by
 intro wh pins s σ H Q I h
 refine isTrue_and (aA (ha pins s σ H Q I h) fun c s1 e=>?_)
 cases c with
 | true=>exact isTrue_and_nil e
 | false=>exact e
theorem cY (ha:PT X a tA):PW X (.BoolOp .Or [a] pos) tA:=by
 intro wh pins s σ H Q I h
 refine isTrue_or (aA (ha pins s σ H Q I h) fun c s1 e=>?_)
 cases c with
 | false=>exact isTrue_or_nil e
 | true=>exact e
theorem ka (ha:PT X a tA) (hb:PW X (.BoolOp .And (b :: rest) pos) tB'):PW X (.BoolOp .And (a :: b :: rest) pos) (ug tA tB'):=by
 intro wh pins s σ H Q I h
 refine isTrue_and (aA (ha pins s σ H _ I h) fun c s1 ⟨H1,I1,q1⟩=>?_)
 cases c with
 | true=>exact hb wh pins s1 σ H1 Q I1 q1
 | false=>exact ⟨H1,I1,q1⟩
theorem cS (ha:PT X a tA) (hb:PW X (.BoolOp .Or (b :: rest) pos) tB'):PW X (.BoolOp .Or (a :: b :: rest) pos) (w5 tA tB'):=by
 intro wh pins s σ H Q I h
 refine isTrue_or (aA (ha pins s σ H _ I h) fun c s1 ⟨H1,I1,q1⟩=>?_)
 cases c with
 | true=>exact ⟨H1,I1,q1⟩
 | false=>exact hb wh pins s1 σ H1 Q I1 q1
theorem cZ (ha:PT X a tA):PT X (.UnaryOp .Not a pos) (xI tA):=by
 intro pins s σ H Q I h
 exact isTrue_not (ha pins s σ H (fun c H1=>Q (!c) H1) I h)
def vB (ta tb:TE):TE:=fun σ H Q=>ta σ H fun x H1=>kD x fun c=>if c=true then tb σ H1 Q else Q (.bl false) H1
def xj (ta tb:TE):TE:=fun σ H Q=>ta σ H fun x H1=>kD x fun c=>if c=true then Q (.bl true) H1 else tb σ H1 Q
def rC (ta:TE):TE:=fun σ H Q=>ta σ H fun x H1=>kD x fun c=>Q (.bl (!c)) H1
theorem gv {op}{t:TE} (h:PE X a t):PE X (.BoolOp op [a] pos) t:=fun pins s σ H Q I hw=>BoolOp_one (h pins s σ H Q I hw)
theorem gq (ha:PE X a ta) (hb:PE X (.BoolOp .And (b :: rest) pos) tb):PE X (.BoolOp .And (a :: b :: rest) pos) (vB ta tb):=by
 intro pins s σ H Q I h
 refine BoolOp_and (aA (ha pins s σ H _ I h) fun v s1 ⟨x,H1,I1,r1,q1⟩=>?_)
 obtain ⟨c,rfl,q1⟩:=q1
 cases r1
 refine wpAny_truthy_bool ?_
 cases c with
 | true=>exact hb pins s1 σ H1 Q I1 q1
 | false=>exact ⟨.bl false,H1,I1,rfl,q1⟩
theorem vV (ha:PE X a ta) (hb:PE X (.BoolOp .Or (b :: rest) pos) tb):PE X (.BoolOp .Or (a :: b :: rest) pos) (xj ta tb):=by
 intro pins s σ H Q I h
 refine BoolOp_or (aA (ha pins s σ H _ I h) fun v s1 ⟨x,H1,I1,r1,q1⟩=>?_)
 obtain ⟨c,rfl,q1⟩:=q1
 cases r1
 refine wpAny_truthy_bool ?_
 cases c with
 | false=>exact hb pins s1 σ H1 Q I1 q1
 | true=>exact ⟨.bl true,H1,I1,rfl,q1⟩
theorem pI (ha:PE X a ta):PE X (.UnaryOp .Not a pos) (rC ta):=by
 intro pins s σ H Q I h
 refine UnaryOp_ (aA (ha pins s σ H _ I h) fun v s1 ⟨x,H1,I1,r1,q1⟩=>?_)
 obtain ⟨c,rfl,q1⟩:=q1
 cases r1
 exact not_of (wpAny_truthy_bool ⟨.bl (!c),H1,I1,rfl,q1⟩)
def xX (t:TT) (ta tb:TE):TE:=fun σ H Q=>t σ H fun c H1=>if c=true then ta σ H1 Q else tb σ H1 Q
theorem bz {c:Expr} (hc:PT X c tA) (ha:PE X a ta) (hb:PE X b tb):PE X (.IfExp c a b pos) (xX tA ta tb):=by
 intro pins s σ H Q I h
 refine wpAny_IfExp (aA (hc pins s σ H _ I h) fun d s1 ⟨H1,I1,q1⟩=>?_)
 cases d with
 | true=>exact ha pins s1 σ H1 Q I1 q1
 | false=>exact hb pins s1 σ H1 Q I1 q1
end
def aD (K:PySem.W.Frag) (H:Hp) (a:Addr) (xs:List V):Prop:=
 Rd H a (.lst xs)∨
  i6 fun (o:Obj) (its:Array Value) (n:Nat)=>K.lookup a=some o∧o.cls=.type "list"∧o.dict=none∧o.data=.seq its n∧its.size≤sizeLine∧aw xs its.toList
def bq (K:PySem.W.Frag) (H:Hp) (a:Addr) (xs:List V):Prop:=
 Rd H a (.tup xs)∨
  i6 fun (o:Obj) (its:Array Value) (n:Nat)=>K.lookup a=some o∧o.cls=.type "tuple"∧o.data=.seq its n∧its.size≤sizeLine∧aw xs its.toList
def xq:Value→Option V
 | .none=>some .non
 | .bool b=>some (.bl b)
 | .int i _=>some (.int i)
 | .str x _=>some (.str x)
 | .bytes b _=>some (.byt b)
 | .float b _=>some (.flt b)
 | .ref a=>some (.ref a)
 | .type n=>some (.ty n)
 | _=>none
theorem aM.abs {x:V}{u:Value} (r:aM x u):xq u=some x:=by
 cases x with
 | non=>cases r;rfl
 | bl _=>cases r;rfl
 | int _=>obtain ⟨t,rfl⟩:=r;rfl
 | str _=>obtain ⟨t,rfl⟩:=r;rfl
 | byt _=>obtain ⟨t,rfl⟩:=r;rfl
 | flt _=>obtain ⟨t,rfl⟩:=r;rfl
 | ref _=>cases r;rfl
 | ty _=>cases r;rfl
theorem aM.inj {x y:V}{u:Value} (r:aM x u) (q:aM y u):x=y:=Option.some.inj (r.abs.symm.trans q.abs)
theorem aw.inj:∀{xs ys:List V}{us:List Value},aw xs us→aw ys us→xs=ys
 | _,_,_,.nil,.nil=>rfl
 | _,_,_,.cons r t,.cons r' t'=>by rw [r.inj r',aw.inj t t']
section
variable {X:Cx}{pins:List (Addr×Obj)}{σ:St}{H:Hp}{s:Shared}{a:Addr}{xs ys:List V}
theorem aD.of {K:PySem.W.Frag} (h:H a=some (.lst xs)):aD K H a xs:=.inl (.inl h)
theorem bq.of {K:PySem.W.Frag} (h:H a=some (.tup xs)):bq K H a xs:=.inl (.inl h)
theorem aa.list (I:aa X pins σ H s) (h:aD X.K H a xs):∃its:List Value,aw xs its∧PlainL s.heap a its.toArray∧xs.length≤sizeLine:=by
 rcases h with h | ⟨o,its,n,hk,hc,hd,hs,hz,r⟩
 ·obtain ⟨z,its,n,r,e⟩:=h.ok I.hok
  exact ⟨its,r,⟨_,n,e,rfl,rfl,rfl⟩,z⟩
 ·refine ⟨its.toList,r,⟨o,n,I.kIn a o hk,hc,hd,by simpa using hs⟩,?_⟩
  have e:=r.length
  simp only [Array.length_toList] at e
  trivial
theorem aa.tuple (I:aa X pins σ H s) (h:bq X.K H a xs):∃its:List Value,aw xs its∧IsTup s.heap a its.toArray∧xs.length≤sizeLine:=by
 rcases h with h | ⟨o,its,n,hk,hc,hs,hz,r⟩
 ·obtain ⟨z,its,r,p,_⟩:=h.ok I.hok
  exact ⟨its,r,p,z⟩
 ·refine ⟨its.toList,r,⟨o,I.kIn a o hk,hc,n,by simpa using hs⟩,?_⟩
  have e:=r.length
  simp only [Array.length_toList] at e
  trivial
theorem aa.list_inj (I:aa X pins σ H s) (h:aD X.K H a xs) (h':aD X.K H a ys):xs=ys:=by
 obtain ⟨its,r,⟨o,n,e,_,_,d⟩,_⟩:=I.list h
 obtain ⟨its',r',⟨o',n',e',_,_,d'⟩,_⟩:=I.list h'
 rw [e] at e';cases e'
 rw [d] at d'
 injection d' with d1 _
 have:its=its':=by simpa using congrArg Array.toList d1
 subst this
 exact r.inj r'
theorem aa.tuple_inj (I:aa X pins σ H s) (h:bq X.K H a xs) (h':bq X.K H a ys):xs=ys:=by
 obtain ⟨its,r,⟨o,e,_,n,d⟩,_⟩:=I.tuple h
 obtain ⟨its',r',⟨o',e',_,n',d'⟩,_⟩:=I.tuple h'
 rw [e] at e';cases e'
 rw [d] at d'
 injection d' with d1 _
 have:its=its':=by simpa using congrArg Array.toList d1
 subst this
 exact r.inj r'
end
abbrev Cx.wish (X:Cx) (E:Value→Shared→Prop):Cx:={ X with xe:=E }
abbrev Cx.nox (X:Cx):Cx:=X.wish fun _ _=>False
theorem Cx.Ok.wish {X:Cx} (ok:X.Ok) (E:Value→Shared→Prop):(X.wish E).Ok:=
 ⟨ok.mod,ok.kind,ok.glob,ok.blt,ok.above,ok.inj,ok.has,ok.cab,ok.hd,ok.frames,ok.stk,ok.exf,ok.bs,ok.bsz,ok.noex,ok.exfs,ok.funs,ok.frf⟩
theorem Cx.Ok.unwish {X:Cx}{E:Value→Shared→Prop} (ok:(X.wish E).Ok):X.Ok:=
 ⟨ok.mod,ok.kind,ok.glob,ok.blt,ok.above,ok.inj,ok.has,ok.cab,ok.hd,ok.frames,ok.stk,ok.exf,ok.bs,ok.bsz,ok.noex,ok.exfs,ok.funs,ok.frf⟩
section
variable {X:Cx}{pins:List (Addr×Obj)}{σ:St}{H:Hp}{s:Shared}{E:Value→Shared→Prop}
theorem aa.wish (I:aa X pins σ H s) (E:Value→Shared→Prop):aa (X.wish E) pins σ H s:=⟨I.ok.wish E,I.os,I.bare,I.base,I.loc,I.cell,I.free,I.freeC,I.pin,I.hok,I.len⟩
theorem aa.unwish (I:aa (X.wish E) pins σ H s):aa X pins σ H s:=⟨I.ok.unwish,I.os,I.bare,I.base,I.loc,I.cell,I.free,I.freeC,I.pin,I.hok,I.len⟩
theorem SP.unwish {D:c4}{f:Flow}{s':Shared} (h:SP (X.wish E) pins D f s'):SP X pins D f s':=by
 cases f with
 | next=>obtain ⟨σ',H',I,q⟩:=h;exact ⟨σ',H',I.unwish,q⟩
 | brk=>obtain ⟨σ',H',I,q⟩:=h;exact ⟨σ',H',I.unwish,q⟩
 | cont=>obtain ⟨σ',H',I,q⟩:=h;exact ⟨σ',H',I.unwish,q⟩
 | ret u=>obtain ⟨v,σ',H',I,r,q⟩:=h;exact ⟨v,σ',H',I.unwish,r,q⟩
theorem fZ.nox {st:List Stmt}{t:TS} (h:fZ X.nox st t):fZ X st t:=fun pins s σ H D I hw=>
 wpAny_mono (h pins s σ H D (I.wish _) hw) (fun _ _ q=>q.unwish) fun _ _ z=>False.elim z
end
section
variable {X:Cx}{st:Stmt}{rest:List Stmt}{t u:TS}{e:Expr}{te:TE}{pos:Pos}
def wO:TS:=fun D σ H=>D.nx σ H
def ii (t u:TS):TS:=fun D σ H=>t { D with nx:=u D } σ H
theorem aC:fZ X [] wO:=fun _ _ σ H _ I h=>wpAny_execs_nil ⟨σ,H,I,h⟩
theorem cw (h1:PS X st t) (h2:fZ X rest u):fZ X (st :: rest) (ii t u):=by
 intro pins s σ H D I h
 refine wpAny_execs_cons (aA (h1 pins s σ H { D with nx:=u D } I h) fun f s1 q=>?_)
 cases f with
 | next=>
  obtain ⟨σ',H',I',q⟩:=q
  exact h2 pins s1 σ' H' D I' q
 | ret v=>exact q
 | brk=>exact q
 | cont=>exact q
theorem ae (h1:PS X st t):fZ X [st] t:=by
 intro pins s σ H D I h
 refine wpAny_execs_cons (aA (h1 pins s σ H D I h) fun f s1 q=>?_)
 cases f with
 | next=>exact wpAny_execs_nil q
 | ret v=>exact q
 | brk=>exact q
 | cont=>exact q
theorem aa.quiet {pins:List (Addr×Obj)}{σ:St}{H:Hp}{s:Shared} (I:aa X pins σ H s):interactive X.env=false:=by simp [interactive,I.ok.kind]
def wu (te:TE):TS:=fun D σ H=>te σ H fun _ H1=>D.nx σ H1
theorem tI (he:PE X e te) (hs:swapsWith e none pos.line X.env=pure false:=by rfl):PS X (.Expr e pos) (wu te):=by
 intro pins s σ H D I h
 exact wpAny_Expr_any (aA (he pins s σ H _ I h) fun v s1 ⟨x,H1,I1,r1,q1⟩=>⟨σ,H1,I1,q1⟩) I.quiet hs
def u3 (te:TE):TS:=fun D σ H=>te σ H D.rt
theorem ao (he:PE X e te):PS X (.Return (some e) pos) (u3 te):=by
 intro pins s σ H D I h
 exact wpAny_Return_some (aA (he pins s σ H _ I h) fun v s1 ⟨x,H1,I1,r1,q1⟩=>⟨x,σ,H1,I1,r1,q1⟩)
def xM (c:TT) (t u:TS):TS:=fun D σ H=>c σ H fun b H1=>if b=true then t D σ H1 else u D σ H1
theorem aU {c:Expr}{a b:List Stmt}{tc:TT} (hc:PT X c tc) (ha:fZ X a t) (hb:fZ X b u):PS X (.If c a b pos) (xM tc t u):=by
 intro pins s σ H D I h
 refine wpAny_If (aA (hc pins s σ H _ I h) fun d s1 ⟨H1,I1,q1⟩=>?_)
 cases d with
 | true=>exact ha pins s1 σ H1 D I1 q1
 | false=>exact hb pins s1 σ H1 D I1 q1
end
abbrev TG:=V→St→Hp→(St→Hp→Prop)→Prop
abbrev jM:=List V→St→Hp→(St→Hp→Prop)→Prop
def PG (X:Cx) (target:Expr) (t:TG):Prop:=
 ∀(pins:List (Addr×Obj)) (s:Shared) (σ:St) (H:Hp) (v:V) (u:Value) (Q:St→Hp→Prop),aa X pins σ H s→aM v u→t v σ H Q→
   wpAny (model X.prog X.w) X.A (assign target X.env u) (fun _ s'=>∃σ' H',aa X pins σ' H' s'∧Q σ' H') X.xe s
def qc (X:Cx) (ts:List Expr) (t:jM):Prop:=
 ∀(pins:List (Addr×Obj)) (s:Shared) (σ:St) (H:Hp) (vs:List V) (us:List Value) (Q:St→Hp→Prop),aa X pins σ H s→aw vs us→t vs σ H Q→
   wpAny (model X.prog X.w) X.A (assignInOrder ((assignEach ts X.env).map (·.2)) us) (fun _ s'=>∃σ' H',aa X pins σ' H' s'∧Q σ' H') X.xe s
abbrev q9:=V→V→V→Hp→(Hp→Prop)→Prop
def qJ (X:Cx) (t:q9):Prop:=
 ∀(pins:List (Addr×Obj)) (s:Shared) (σ:St) (H:Hp) (o i v:V) (ov iv u:Value) (Q:Hp→Prop),aa X pins σ H s→aM o ov→aM i iv→aM v u→t o i v H Q→
   wpAny (model X.prog X.w) X.A (setItem ov iv u) (fun _ s'=>∃H',aa X pins σ H' s'∧Q H') X.xe s
section
variable {X:Cx}{pos:Pos}
def lT (i:Nat):TG:=fun v σ H Q=>Q (σ.set i (some v)) H
theorem ic {i:Nat}{x:Str} (hN:X.N.Nodup) (hi:X.N[i]?=some x) (hx:rF X.env.scope x) (hf:X.fn x=true∨X.env.scope.names.lookup x=some .local:=by first | exact .inl rfl | exact .inr rfl | assumption):PG X (.Name x pos) (lT i):=by
 intro pins s σ H v u Q I r h
 exact wpAny_assign_Name (fq I hN hi hx r (fun s' I'=>⟨_,H,I',h⟩) hf)
def xo:jM:=fun vs σ H Q=>vs=[]∧Q σ H
inductive uj (t:TG) (u:jM) (vs:List V) (σ:St) (H:Hp) (Q:St→Hp→Prop):Prop
 | mk (v:_) (r:_) (h0:vs=v :: r) (h1:t v σ H fun σ' H'=>u r σ' H' Q)
def wp (t:TG) (u:jM):jM:=fun vs σ H Q=>uj t u vs σ H Q
theorem eh:qc X [] xo:=by
 intro pins s σ H vs us Q I r h
 obtain ⟨e,h⟩:=h
 subst e
 cases r
 exact assignInOrder_nil ⟨σ,H,I,h⟩
theorem bf {e:Expr}{es:List Expr}{t:TG}{u:jM} (h1:PG X e t) (h2:qc X es u)
 (hs:(assignEach (e :: es) X.env).map (·.2)=assign e X.env :: (assignEach es X.env).map (·.2):=by rfl):qc X (e :: es) (wp t u):=by
 intro pins s σ H vs us Q I r h
 obtain ⟨v,vr,e1,h⟩:=h
 subst e1
 cases r with
 | cons r rr=>
  rw [hs]
  refine assignInOrder_cons (aA (h1 pins s σ H _ _ _ I r h) fun _ s1 ⟨σ1,H1,I1,q1⟩=>?_)
  exact h2 pins s1 σ1 H1 _ _ Q I1 rr q1
inductive vE (K:PySem.W.Frag) (n:Nat) (t:jM) (v:V) (σ:St) (H:Hp) (Q:St→Hp→Prop):Prop
 | mk (a:_) (xs:_) (h0:v=.ref a) (h1:bq K H a xs) (h2:xs.length=n) (h3:t xs σ H Q)
def t6 (K:PySem.W.Frag) (n:Nat) (t:jM):TG:=fun v σ H Q=>vE K n t v σ H Q
theorem mn {es:List Expr}{k:Nat}{t:jM}{n:Nat} (hc:X.calm=true) (h:qc X es t)
 (hn:(assignEach es X.env).length=n:=by rfl) (hst:(assignEach es X.env).findIdx? (·.1)=none:=by rfl):PG X (.Tuple es k pos) (t6 X.K n t):=by
 intro pins s σ H v u Q I r hw
 obtain ⟨a,xs,e1,hq,hl,hw⟩:=hw
 subst e1
 cases r
 obtain ⟨its,rv,ht,hz⟩:=I.tuple hq
 refine assign_Tuple_tuple (I.ok.hd hc) ht (by simp [hn,←hl,rv.length]) hst fun h' hx=>?_
 have I1:aa X pins σ H { s with heap:=h' }:=I.kept (t':=s.toks) fun b o e=>hx b o (Nat.ne_of_lt (Heap.lt_size e)) e
 exact h pins _ σ H xs _ Q I1 (by simpa using rv) hw
def xh (to ti:TE) (t:q9):TG:=fun v σ H Q=>to σ H fun o H1=>ti σ H1 fun i H2=>t o i v H2 fun H3=>Q σ H3
theorem ml {o i:Expr}{to ti:TE}{t:q9} (ho:PE X o to) (hi:PE X i ti) (hs:qJ X t)
 (ha:∀v,assign (.Subscript o i pos) X.env v=(do
  let ov ←holding [v] (eval o X.env)
  let iv ←holding [v,ov] (eval i X.env)
  standAt pos
  holding [v,ov,iv] (setItem ov iv v)
  release [v,ov,iv] []):=by intro _;rfl):PG X (.Subscript o i pos) (xh to ti t):=by
 intro pins s σ H v u Q I r h
 rw [ha]
 refine wpAny_bind (wpAny_holding (aA (ho pins s σ H _ I h) fun ov s1 ⟨x,H1,I1,r1,q1⟩=>?_))
 refine wpAny_bind (wpAny_holding (aA (hi pins s1 σ H1 _ I1 q1) fun iv s2 ⟨y,H2,I2,r2,q2⟩=>?_))
 refine wpAny_bind (wpAny_standAt (wpAny_bind (wpAny_holding (aA (hs pins s2 σ H2 x y v ov iv u _ I2 r1 r2 r q2) fun _ s3 ⟨H3,I3,q3⟩=>?_))))
 exact wpAny_release ⟨σ,H3,I3,q3⟩
def qr (te:TE) (g:TG):TS:=fun D σ H=>te σ H fun x H1=>g x σ H1 D.nx
theorem fM {tg e:Expr}{te:TE}{g:TG} (he:PE X e te) (hg:PG X tg g) (hs:swapsWithSole [tg] e pos.line X.env=pure false:=by rfl) (hw:swappedStores [tg] e X.env=pure none:=by rfl)
 (h1:(assignEach [tg] X.env).map (·.2)=[assign tg X.env]:=by rfl):PS X (.Assign [tg] e pos) (qr te g):=by
 intro pins s σ H D I h
 refine wpAny_Assign_stores (aA (he pins s σ H _ I h) fun v s1 ⟨x,H1,I1,r1,q1⟩=>?_) hs hw
 rw [h1]
 exact aA (hg pins s1 σ H1 x v _ I1 r1 q1) fun _ s2 q=>q
theorem kg {i:Nat}{x:Str}{e:Expr}{te:TE}{pos':Pos} (hN:X.N.Nodup) (hi:X.N[i]?=some x) (hx:rF X.env.scope x) (he:PE X e te) (hs:swapsWith e (some (.Name x pos')) pos.line X.env=pure false:=by rfl) (hf:X.fn x=true∨X.env.scope.names.lookup x=some .local:=by first | exact .inl rfl | exact .inr rfl | assumption) :
 PS X (.Assign [.Name x pos'] e pos) (qr te (lT i)):=by
 intro pins s σ H D I h
 refine wpAny_Assign_Name (aA (he pins s σ H _ I h) fun v s1 ⟨y,H1,I1,r1,q1⟩=>?_) hs
 exact fq I1 hN hi hx r1 (fun s2 I2=>⟨_,H1,I2,q1⟩) hf
def tV (i j:Nat) (ta:TA):TS:=fun D σ H=>ta σ H fun vs H1=>aX fun v w=>vs=[v,w]∧D.nx ((σ.set i (some v)).set j (some w)) H1
theorem iT {i j:Nat}{x y:Str}{a b:Expr}{ta:TA}{px py pt:Pos}{kt k2 pt2} (hc:X.calm=true) (hN:X.N.Nodup) (hi:X.N[i]?=some x) (hj:X.N[j]?=some y) (hij:i≠j)
 (hx:X.env.scope.names.lookup x=some .local) (hy:X.env.scope.names.lookup y=some .local) (ha:PA X [a,b] ta)
 (hw:swappedStores [.Tuple [.Name x px,.Name y py] kt pt] (.Tuple [a,b] k2 pt2) X.env=pure (some [x,y]))
 (hs:swapsWithSole [.Tuple [.Name x px,.Name y py] kt pt] (.Tuple [a,b] k2 pt2) pos.line X.env=pure false:=by rfl) :
 PS X (.Assign [.Tuple [.Name x px,.Name y py] kt pt] (.Tuple [a,b] k2 pt2) pos) (tV i j ta):=by
 intro pins s σ H D I h
 rw [exec_Assign_arm]
 refine wpAny_bind (wpAny_standAt ?_)
 rw [hs]
 refine wpAny_bind (wpAny_pure ?_)
 rw [if_neg (by decide)]
 refine wpAny_bind (Tuple_ (aA (ha _ pins s σ H _ I h) fun us s1 ⟨vs,H1,I1,r1,q1⟩=>?_))
 obtain ⟨v,w,e1,q1⟩:=q1
 subst e1
 obtain ⟨u1,u2,rfl,rv,rw'⟩:aX fun u1 u2=>us=[u1,u2]∧aM v u1∧aM w u2:=by
  cases r1 with
  | cons p q=>
   cases q with
   | cons p' q'=>
    cases q'
    exact ⟨_,(),p,p'⟩
 refine wpAny_newObj_type ?_ (by show 2≤sizeLine;decide)
 have I2:aa X pins σ H1 { s1 with heap:=s1.heap.push { cls:=.type "tuple",data:=.seq [u1,u2].toArray } }:=I1.kept (t':=s1.toks) fun b o e=>Heap.get?_push_of_some _ e
 rw [hw]
 refine wpAny_bind (wpAny_pure ?_)
 show wpAny (model X.prog X.w) X.A (do rule "assign.swapped-stores";let items ←unpackItems (.ref s1.heap.objs.size) 2 none;assignInOrder [fun v=>bindName X.env y v,fun v=>bindName X.env x v] items.reverse;pure Flow.next) _ _ _
 refine wpAny_bind (wpAny_rule (wpAny_bind (unpackItems_tuple (items:=#[u1,u2]) (I.ok.hd hc) (IsTup.new s1.heap _) fun h' hx'=>?_)))
 have I3:=I2.kept (h':=h') (t':=s1.toks) fun b o e=>hx' b o (Nat.ne_of_lt (Heap.lt_size e)) e
 show wpAny _ _ (assignInOrder [fun v=>bindName X.env y v,fun v=>bindName X.env x v] [u2,u1] >>= fun _=>pure Flow.next) _ _ _
 refine wpAny_bind (assignInOrder_cons (wpAny_bindName (fq I3 hN hj (.inl hy) rw' (fun s2 I4=>?_) (.inr hy))))
 refine assignInOrder_cons (wpAny_bindName (fq I4 hN hi (.inl hx) rv (fun s3 I5=>assignInOrder_nil (wpAny_pure ?_)) (.inr hx)))
 rw [List.set_comm _ _ (Ne.symm hij)] at I5
 exact ⟨_,H1,I5,q1⟩
end
section
variable {X:Cx}{pos:Pos}
def vb (c:TT) (tb:TS):TS:=fun D σ H=>∃W:Nat→St→Hp→Prop,(∃m,W m σ H)∧∀m σ H,W m σ H→
 c σ H fun b H1=>if b=true then ∃N:St→Hp→Prop,(∀σ' H',N σ' H'→∃m',m'<m∧W m' σ' H')∧tb { D with nx:=N,ct:=N,bk:=D.nx } σ H1 else D.nx σ H1
theorem jS {c:Expr}{body:List Stmt}{tc:TT}{tb:TS} (hp:PassesOwn (model X.prog X.w) X.A X.env X.xe) (hc:PT X c tc) (hb:fZ X body tb):PS X (.While c body [] pos) (vb tc tb):=by
 intro pins s σ H D I h
 obtain ⟨W,⟨m0,w0⟩,turn⟩:=h
 refine wpAny_While (codeAny_whileLoop (fun n s'=>∃σ' H',aa X pins σ' H' s'∧W n σ' H') ?_ m0 ⟨σ,H,I,w0⟩)
 rintro n s1 ⟨σ1,H1,I1,w1⟩
 refine wpAny_passesOwn hp (aA (hc pins s1 σ1 H1 _ I1 (turn n σ1 H1 w1)) fun b s2 ⟨H2,I2,q2⟩=>?_)
 cases b with
 | true=>
  obtain ⟨N,hN,q2⟩:=q2
  rw [if_pos rfl]
  refine wpAny_passesOwn hp (aA (hb pins s2 σ1 H2 _ I2 q2) fun f s3 q3=>?_)
  cases f with
  | next=>
   obtain ⟨σ3,H3,I3,n3⟩:=q3
   obtain ⟨m',hm,w3⟩:=hN σ3 H3 n3
   exact ⟨m',hm,σ3,H3,I3,w3⟩
  | cont=>
   obtain ⟨σ3,H3,I3,n3⟩:=q3
   obtain ⟨m',hm,w3⟩:=hN σ3 H3 n3
   exact ⟨m',hm,σ3,H3,I3,w3⟩
  | brk=>exact q3
  | ret v=>exact q3
 | false=>
  rw [if_neg Bool.false_ne_true]
  exact wpAny_execs_nil ⟨σ1,H2,I2,q2⟩
end
structure It where
 go:Nat→Hp→Prop
 yld:Nat→Hp→V→Hp→Prop
 stop:Nat→Hp→Prop
def fS (X:Cx) (pins:List (Addr×Obj)) (H:Hp) (b:Addr):Prop:=
 H b=none∧b≠X.env.locals∧b∉X.fs∧(b∈X.ex∨X.s₀.heap.objs.size≤b)∧(∀x c,X.env.cells.lookup x=some c→c≠b)∧∀p∈X.pn++pins,p.1≠b
theorem aa.fpOk {X:Cx}{pins:List (Addr×Obj)}{σ:St}{H H':Hp}{s:Shared}{b:Addr} (I:aa X pins σ H s) (hb:s.heap.objs.size≤b) (hn:H' b=none):fS X pins H' b:=by
 refine ⟨hn,Nat.ne_of_gt (Nat.lt_of_lt_of_le I.lt hb),I.nofs hb,.inr (Nat.le_trans I.sz hb),fun x c e z=>?_,fun p hp z=>?_⟩
 ·obtain ⟨v,q⟩:=I.cell x c e
  exact absurd (Nat.lt_of_lt_of_le q.lt (by rw [z];exact hb)) (Nat.lt_irrefl _)
 ·exact absurd (Nat.lt_of_lt_of_le (Heap.lt_size (I.pin p hp).1) (by rw [z];exact hb)) (Nat.lt_irrefl _)
structure kP (P:Program) (w:World) (K:PySem.W.Frag) (tg:Expr) (J:It) (fp:List Addr) (it:Addr) (tn:Nat→Heap→Prop):Prop where
 mem:it∈fp
 obj:∀i h,tn i h→∀b∈fp,∃o,h.get? b=some o∧∀v,o.data≠.cell v
 keep:∀i h h',tn i h→(∀b∈fp,∀o,h.get? b=some o→h'.get? b=some o)→tn i h'
 item:∀(X:Cx),X.prog=P→X.w=w→X.K=K→X.calm=true→∀(i:Nat) (pins:List (Addr×Obj)) (s:Shared) (σ:St) (H:Hp) (E:Value→Shared→Prop),aa X pins σ H s→(∀b∈fp,fS X pins H b)→tn i s.heap→J.go i H→
  wpAny (model P w) X.A (pyNext (.ref it)) (fun r s1=>∃u,r=some u∧
   wpAny (model P w) X.A (letOwnedTupleGo tg (.ref it) u) (fun _ s2=>aX fun x H'=>aa X pins σ H' s2∧aM x u∧J.yld i H x H'∧tn (i+1) s2.heap∧∀b∈fp,H' b=none) E s1) E s
 done:∀(X:Cx),X.prog=P→X.w=w→X.K=K→X.calm=true→∀(i:Nat) (pins:List (Addr×Obj)) (s:Shared) (σ:St) (H:Hp) (E:Value→Shared→Prop),aa X pins σ H s→(∀b∈fp,fS X pins H b)→tn i s.heap→J.stop i H→
  wpAny (model P w) X.A (pyNext (.ref it)) (fun r s1=>r=none∧aa X pins σ H s1) E s
 self:∀(A:Around) (i:Nat) (s:Shared) (Q:Value→Shared→Prop) (E:Value→Shared→Prop),tn i s.heap→Q (.ref it) s→wpAny (model P w) A (pyIter (.ref it)) Q E s
abbrev TI:=St→Hp→(It→Hp→Prop)→Prop
def wY (X:Cx) (pins:List (Addr×Obj)) (σ:St) (tg:Expr) (R:It→Hp→Prop) (itv:Value) (s2:Shared):Prop:=
 rZ fun (it:Addr) (fp:List Addr) (tn:Nat→Heap→Prop) (J:It) (H':Hp)=>itv=.ref it∧aa X pins σ H' s2∧kP X.prog X.w X.K tg J fp it tn∧tn 0 s2.heap∧(∀b∈fp,fS X pins H' b)∧R J H'
def PI (X:Cx) (tg iter:Expr) (wi:TI):Prop:=
 ∀(pins:List (Addr×Obj)) (s:Shared) (σ:St) (H:Hp) (R:It→Hp→Prop),aa X pins σ H s→wi σ H R→
   wpAny (model X.prog X.w) X.A (eval iter X.env) (fun v s1=>wpAny (model X.prog X.w) X.A (pyIter v) (wY X pins σ tg R) X.xe s1) X.xe s
theorem oX {M:Model}{A:Around}{E:Value→Shared→Prop}{s:Shared}{tg:Expr}{it:Addr}{u:Value}{o:Obj}{n:String}{vs:Array Value}{Q:Unit→Shared→Prop} (ho:s.heap.get? it=some o) (hc:o.cls=.type n) (hd:o.data=.fields vs)
 (hn:["enumerate", "zip", "dict_itemiterator", "dict_reverseitemiterator", "odict_iterator", "itertools.zip_longest", "itertools.pairwise"].contains n=false) (hQ:Q () s):wpAny M A (letOwnedTupleGo tg (.ref it) u) Q E s:=by
 unfold letOwnedTupleGo
 cases tg <;> first
  | exact wpAny_pure hQ
  | (cases u <;> first
   | exact wpAny_pure hQ
   | (refine wpAny_bind (wpAny_load ho ?_)
      rw [hc,hd]
      show wpAny M A (if (["enumerate", "zip", "dict_itemiterator", "dict_reverseitemiterator", "odict_iterator", "itertools.zip_longest", "itertools.pairwise"].contains n && vs[0]?==some (rawInt _))=true then _ else _) Q E s
      rw [if_neg (by intro h;rw [hn,Bool.false_and] at h;cases h)]
      exact wpAny_pure hQ))
def pd (K:PySem.W.Frag) (a:Addr):It:=
 ⟨fun i H=>aX fun xs x=>aD K H a xs∧xs[i]?=some x,fun i H x H'=>H'=H∧∀xs,aD K H a xs→xs[i]?=some x,fun i H=>∃xs,aD K H a xs∧xs.length≤i⟩
def nO (lo:Int) (n:Nat):It:=⟨fun i _=>i<n,fun i H x H'=>H'=H∧x=.int (lo+i),fun i _=>n≤i⟩
theorem pM {P:Program}{w:World}{K:PySem.W.Frag}{tg:Expr} (a it:Addr):kP P w K tg (pd K a) [it] it (fun i h=>h.IsListIter it a i) where
 mem:=by simp
 obj:=fun i h st b hb=>by
  have e:b=it:=by simpa using hb
  subst e
  obtain ⟨o,e,c,d⟩:=st
  exact ⟨o,e,fun v z=>by rw [d] at z;cases z⟩
 keep:=fun i h h' st k=>st.at fun o e=>k it (by simp) o e
 item:=by
  intro X hP hw hK hc i pins s σ H E I hf st hg
  subst hP hw hK
  obtain ⟨xs,x,hq,hx⟩:=hg
  obtain ⟨its,rv,p,hz⟩:=I.list hq
  obtain ⟨u,hu,ru⟩:=rv.get hx
  obtain ⟨f0,f1,f2,f3,f4,f5⟩:=hf it (by simp)
  refine wpAny_pyNext_list_item st p.isList (x:=u) (by simpa using hu) fun h' st' sb=>?_
  have I1:aa X pins σ H { s with heap:=h' }:=I.turned (t':=s.toks) (fun b o hb e=>(sb.2 b hb).trans e) f0 f1 f3 f4 f5
  obtain ⟨o,e,c,d⟩:=id st'
  exact ⟨u,rfl,oX (s:={ s with heap:=h' }) e c d (by decide) ⟨x,H,I1,ru,⟨rfl,fun ys hy=>by rw [I.list_inj hy hq];exact hx⟩,st',fun b hb=>(hf b hb).1⟩⟩
 done:=by
  intro X hP hw hK hc i pins s σ H E I hf st hg
  subst hP hw hK
  obtain ⟨xs,hq,hx⟩:=hg
  obtain ⟨its,rv,p,hz⟩:=I.list hq
  obtain ⟨f0,f1,f2,f3,f4,f5⟩:=hf it (by simp)
  have hl:=rv.length
  exact wpAny_pyNext_list_end (I.ok.hd hc) st p.isList (by simp;trivial) fun h' eb=>⟨rfl,I.turned (t':=s.toks) (fun b o hb e=>eb b o hb e) f0 f1 f3 f4 f5⟩
 self:=fun _ _ _ _ _ st h=>wpAny_pyIter_listiter st h
theorem oE {P:Program}{w:World}{K:PySem.W.Frag}{tg:Expr} (it:Addr) (lo:Int) (n:Nat):kP P w K tg (nO lo n) [it] it (fun i h=>IsRangeIter h it (lo+(i:Nat)*1) ((n:Int) - (i:Nat)) 1) where
 mem:=by simp
 obj:=fun i h st b hb=>by
  have e:b=it:=by simpa using hb
  subst e
  exact ⟨_,st,fun v z=>by
   have z':Data.fields _=Data.cell v:=z
   cases z'⟩
 keep:=fun i h h' st k=>k it (by simp) _ st
 item:=by
  intro X hP hw hK hc i pins s σ H E I hf st hg
  subst hP hw hK
  obtain ⟨f0,f1,f2,f3,f4,f5⟩:=hf it (by simp)
  have W:=Walks.range (prog:=X.prog) (w:=X.w) (I.ok.hd hc) it lo 1 n
  refine W.item i s _ _ hg st fun v h' tk hv st' kk=>?_
  obtain ⟨t,rfl⟩:=hv
  have I1:aa X pins σ H { s with heap:=h',toks:=tk }:=I.turned (fun b o hb e=>kk b o (by simpa using hb) e) f0 f1 f3 f4 f5
  refine ⟨(),oX (s:={ s with heap:=h',toks:=tk }) (n := "range_iterator") st' rfl rfl (by decide) ⟨.int (lo+i),H,I1,⟨t,?_⟩,⟨rfl,rfl⟩,st',fun b hb=>(hf b hb).1⟩⟩
  rw [Int.mul_one]
 done:=by
  intro X hP hw hK hc i pins s σ H E I hf st hg
  subst hP hw hK
  obtain ⟨f0,f1,f2,f3,f4,f5⟩:=hf it (by simp)
  exact wpAny_pyNext_range_end (I.ok.hd hc) st (by have:n≤i:=hg;trivial) fun h' eb=>⟨rfl,I.turned (t':=s.toks) (fun b o hb e=>eb b o hb e) f0 f1 f3 f4 f5⟩
 self:=fun _ _ _ _ _ st h=>wpAny_pyIter_rangeiter st h
section
variable {X:Cx}{tg:Expr}
def r9 (K:PySem.W.Frag) (tl:TE):TI:=fun σ H R=>tl σ H fun x H1=>∃a,x=.ref a∧(∃xs,aD K H1 a xs)∧R (pd K a) H1
theorem sV {l:Expr}{tl:TE} (hl:PE X l tl):PI X tg l (r9 X.K tl):=by
 intro pins s σ H R I h
 refine aA (hl pins s σ H _ I h) fun v s1 ⟨x,H1,I1,r1,q1⟩=>?_
 obtain ⟨a,e,⟨xs,hq⟩,q⟩:=q1
 subst e
 cases r1
 obtain ⟨its,rv,p,hz⟩:=I1.list hq
 refine wpAny_pyIter_list p.isList ?_
 refine ⟨s1.heap.objs.size,[s1.heap.objs.size],_,_,H1,rfl,I1.kept (t':=s1.toks) fun b o e=>Heap.get?_push_of_some _ e,pM a _,⟨_,Heap.get?_push_size _ rfl,rfl,rfl⟩,fun b hb=>?_,q⟩
 have e:b=s1.heap.objs.size:=by simpa using hb
 subst e
 exact I1.fpOk (Nat.le_refl _) (I1.hok.fresh (Nat.le_refl _))
theorem re {pins:List (Addr×Obj)}{σ:St}{H:Hp}{s:Shared}{R:It→Hp→Prop}{E:Value→Shared→Prop}{lo hi:Int}{t u v:Tok}{tk:Nat} (I:aa X pins σ H s) (h1:-(2 ^ 62)≤lo) (h2:lo<2 ^ 62) (h3:-(2 ^ 62)≤hi) (h4:hi<2 ^ 62)
 (q:R (nO lo (hi - lo).toNat) H):wpAny (model X.prog X.w) X.A (pyIter (.ref s.heap.objs.size)) (wY X pins σ tg R) E { s with heap:=s.heap.push { cls:=.type "range",data:=.fields #[.int lo t,.int hi u,.int 1 v] },toks:=tk }:=by
 refine wpAny_pyIter_range (IsRange.new ..) (small_one h1 h2 h3 h4) ?_
 have I1:aa X pins σ H { s with heap:=s.heap.push { cls:=.type "range",data:=.fields #[.int lo t,.int hi u,.int 1 v] },toks:=tk }:=I.kept fun b o e=>Heap.get?_push_of_some _ e
 refine ⟨(s.heap.push { cls:=.type "range",data:=.fields #[.int lo t,.int hi u,.int 1 v] }).objs.size,[(s.heap.push { cls:=.type "range",data:=.fields #[.int lo t,.int hi u,.int 1 v] }).objs.size],_,_,H,rfl,
  I1.kept (t':=tk) fun b o e=>Heap.get?_push_of_some _ e,oE _ lo (hi - lo).toNat,?_,fun b hb=>?_,q⟩
 ·have e1:lo+((0:Nat):Int)*1=lo:=by simp
  have e2:(((hi - lo).toNat:Nat):Int) - ((0:Nat):Int)=Builtin.Range.rangeSize lo hi 1:=by rw [rangeSize_one];split <;> trivial
  show IsRangeIter _ _ (lo+((0:Nat):Int)*1) ((((hi - lo).toNat:Nat):Int) - ((0:Nat):Int)) 1
  rw [e1,e2]
  exact Heap.get?_push_size _ rfl
 ·have e:b=(s.heap.push { cls:=.type "range",data:=.fields #[.int lo t,.int hi u,.int 1 v] }).objs.size:=by simpa using hb
  subst e
  exact I1.fpOk (Nat.le_refl _) (I1.hok.fresh (Nat.le_refl _))
def wt (ta:TA):TI:=fun σ H R=>ta σ H fun vs H1=>∃j:Int,vs=[.int j]∧-(2 ^ 62)≤j∧j<2 ^ 62∧R (nO 0 j.toNat) H1
theorem iZ {a:Expr}{ta:TA}{p pos:Pos} (hg:Gl X "range") (hm:X.mg "range" = none) (ha:PA X [a] ta) (hs:starEach [a] X.env=[(false,eval a X.env)]:=by rfl):PI X tg (.Call (.Name "range" p) [a] [] pos) (wt ta):=by
 intro pins s σ H R I h
 refine Call_ (hZ I hg hm boot_range (PyProof.Rows.callWith_type1 (aA (ha pos pins s σ H _ I h) fun us s1 ⟨vs,H1,I1,r1,q1⟩=>?_) hs rfl))
 obtain ⟨j,e,q1,q2,q⟩:=q1
 subst e
 cases r1 with
 | cons r rr=>
  cases rr
  obtain ⟨t,rfl⟩:=r
  exact call_range_1 (re I1 (by trivial) (by trivial) q1 q2 (by simpa using q))
def xO (wi:TI) (g:TG) (tb:TS):TS:=fun D σ H=>wi σ H fun J H1=>∃W:Nat→Nat→St→Hp→Prop,(∃m,W 0 m σ H1)∧∀i m σ H,W i m σ H→
 (J.stop i H∧D.nx σ H)∨(J.go i H∧∃N:St→Hp→Prop,(∀σ' H',N σ' H'→∃m',m'<m∧W (i+1) m' σ' H')∧∀x H',J.yld i H x H'→g x σ H' fun σ2 H2=>tb { D with nx:=N,ct:=N,bk:=D.nx } σ2 H2)
def ja (fp:List Addr) (h:Heap):List (Addr×Obj):=fp.filterMap fun b=>(h.get? b).map fun o=>(b,o)
theorem gj {fp:List Addr}{h:Heap}{b:Addr}{o:Obj} (hb:b∈fp) (e:h.get? b=some o):(b,o)∈ja fp h:=List.mem_filterMap.mpr ⟨b,hb,by rw [e];rfl⟩
theorem p5 {fp:List Addr}{h:Heap}{p:Addr×Obj} (hp:p∈ja fp h):p.1∈fp∧h.get? p.1=some p.2:=by
 obtain ⟨b,hb,e⟩:=List.mem_filterMap.mp hp
 cases q:h.get? b with
 | none=>rw [q] at e;cases e
 | some o=>
  rw [q] at e
  have e':(b,o)=p:=Option.some.inj e
  subst e'
  exact ⟨hb,q⟩
theorem aa.pinned {pins:List (Addr×Obj)}{σ:St}{H:Hp}{s:Shared}{fp:List Addr} (I:aa X pins σ H s) (hf:∀b∈fp,fS X pins H b) (ho:∀b∈fp,∃o,s.heap.get? b=some o∧∀v,o.data≠.cell v):aa X (pins++ja fp s.heap) σ H s:=
 I.pins_of fun p hp=>(List.mem_append.mp hp).elim (fun z=>I.pin p (List.mem_append_right _ z)) fun z=>by
  obtain ⟨hb,e⟩:=p5 z
  obtain ⟨f0,f1,f2,_⟩:=hf p.1 hb
  obtain ⟨o,e',d⟩:=ho p.1 hb
  rw [e] at e';cases e'
  exact ⟨e,f0,f1,f2,d⟩
theorem aa.unpinned {pins pl:List (Addr×Obj)}{σ:St}{H:Hp}{s:Shared} (I:aa X (pins++pl) σ H s):aa X pins σ H s:=I.pins_of fun p hp=>I.pin p (List.mem_append_right _ (List.mem_append_left _ hp))
theorem jj {iter:Expr}{body:List Stmt}{wi:TI}{g:TG}{tb:TS}{pos:Pos} (hp:PassesOwn (model X.prog X.w) X.A X.env X.xe) (hc:X.calm=true) (hi:PI X tg iter wi) (hg:PG X tg g) (hb:fZ X body tb)
 (hs:∀x,foldedSetIterable iter X.env x=pure x:=by intro _;rfl):PS X (.For tg iter body [] pos) (xO wi g tb):=by
 intro pins s σ H D I h
 refine wpAny_For (aA (hi pins s σ H _ I h) fun v s1 h1=>aA h1 fun itv s2 h2=>?_) hs
 obtain ⟨it,fp,tn,J,H2,e,I2,T,st2,f2,W,⟨m0,w0⟩,turn⟩:=h2
 subst e
 have stat:∀{H':Hp},(∀b∈fp,H' b=none)→∀b∈fp,fS X pins H' b:=fun hn b hb=>⟨hn b hb,(f2 b hb).2⟩
 refine codeAny_forLoop_any (fun n s'=>∃i σ' H',aa X pins σ' H' s'∧tn i s'.heap∧(∀b∈fp,H' b=none)∧W i n σ' H') ?_ m0 ⟨0,σ,H2,I2,st2,fun b hb=>(f2 b hb).1,w0⟩
 rintro n s3 ⟨i,σ3,H3,I3,st3,fr3,w3⟩
 rcases turn i n σ3 H3 w3 with ⟨stop,qn⟩ | ⟨go,N,hN,step⟩
 ·refine wpAny_passesOwn hp (aA (T.done X rfl rfl rfl hc i pins s3 σ3 H3 X.xe I3 (stat fr3) st3 stop) fun r s4 ⟨hr,I4⟩=>?_)
  subst hr
  exact wpAny_execs_nil ⟨σ3,H3,I4,qn⟩
 ·refine wpAny_passesOwn hp (aA (T.item X rfl rfl rfl hc i pins s3 σ3 H3 X.xe I3 (stat fr3) st3 go) fun r s4 ⟨u,hr,h4⟩=>?_)
  subst hr
  refine wpAny_passesOwn hp (aA h4 fun _ s5 ⟨x,H5,I5,r5,y5,st5,fr5⟩=>?_)
  have I5':=I5.pinned (stat fr5) (T.obj _ _ st5)
  refine wpAny_passesOwn hp (aA (hg _ s5 σ3 H5 x u _ I5' r5 (step x H5 y5)) fun _ s6 ⟨σ6,H6,I6,q6⟩=>?_)
  refine wpAny_passesOwn hp (aA (hb _ s6 σ6 H6 _ I6 q6) fun f s7 q7=>?_)
  have again:∀{σ7:St}{H7:Hp},aa X (pins++ja fp s5.heap) σ7 H7 s7→N σ7 H7→∃m,m<n∧∃i σ' H',aa X pins σ' H' s7∧tn i s7.heap∧(∀b∈fp,H' b=none)∧W i m σ' H':=fun {σ7 H7} I7 n7=>by
   obtain ⟨m',hm,w7⟩:=hN σ7 H7 n7
   refine ⟨m',hm,i+1,σ7,H7,I7.unpinned,T.keep _ _ _ st5 fun b hb o e=>(I7.pin (b,o) (List.mem_append_right _ (List.mem_append_right _ (gj hb e)))).1,fun b hb=>?_,w7⟩
   obtain ⟨o,e,d⟩:=T.obj _ _ st5 b hb
   exact (I7.pin (b,o) (List.mem_append_right _ (List.mem_append_right _ (gj hb e)))).2.1
  cases f with
  | next=>obtain ⟨σ7,H7,I7,n7⟩:=q7;exact again I7 n7
  | cont=>obtain ⟨σ7,H7,I7,n7⟩:=q7;exact again I7 n7
  | brk=>obtain ⟨σ7,H7,I7,q7⟩:=q7;exact ⟨σ7,H7,I7.unpinned,q7⟩
  | ret v=>obtain ⟨x7,σ7,H7,I7,r7,q7⟩:=q7;exact ⟨x7,σ7,H7,I7.unpinned,r7,q7⟩
end
theorem qI {K:PySem.W.Frag}{a:Addr}{xs:List V}{g:TG}{tb:TS}{D:c4}{σ:St}{H:Hp} (Pv:Nat→St→Hp→Prop) (h0:Pv 0 σ H) (hl:∀i σ H,i≤xs.length→Pv i σ H→aD K H a xs)
 (hs:∀i x σ H,xs[i]?=some x→Pv i σ H→g x σ H fun σ2 H2=>tb { D with nx:=Pv (i+1),ct:=Pv (i+1),bk:=D.nx } σ2 H2) (hd:∀σ H,Pv xs.length σ H→D.nx σ H) :
 ∃W:Nat→Nat→St→Hp→Prop,(∃m,W 0 m σ H)∧∀i m σ H,W i m σ H→
  ((pd K a).stop i H∧D.nx σ H)∨((pd K a).go i H∧∃N:St→Hp→Prop,(∀σ' H',N σ' H'→∃m',m'<m∧W (i+1) m' σ' H')∧∀x H',(pd K a).yld i H x H'→g x σ H' fun σ2 H2=>tb { D with nx:=N,ct:=N,bk:=D.nx } σ2 H2):=by
 refine ⟨fun i m σ H=>m=xs.length - i∧i≤xs.length∧Pv i σ H,⟨xs.length,by simp,Nat.zero_le _,h0⟩,?_⟩
 rintro i m σ H ⟨rfl,hi,p⟩
 have q:=hl i σ H hi p
 by_cases hlt:i<xs.length
 ·refine .inr ⟨⟨xs,xs[i],q,by simp [hlt]⟩,Pv (i+1),fun σ' H' p'=>⟨xs.length - (i+1),by trivial,rfl,hlt,p'⟩,fun x H' y=>?_⟩
  obtain ⟨e,y⟩:=y
  subst e
  exact hs i x σ _ (y xs q) p
 ·have e:i=xs.length:=by trivial
  subst e
  exact .inl ⟨⟨xs,q,Nat.le_refl _⟩,hd σ H p⟩
theorem i5 {lo:Int}{n:Nat}{g:TG}{tb:TS}{D:c4}{σ:St}{H:Hp} (Pv:Nat→St→Hp→Prop) (h0:Pv 0 σ H)
 (hs:∀i σ H,i<n→Pv i σ H→g (.int (lo+i)) σ H fun σ2 H2=>tb { D with nx:=Pv (i+1),ct:=Pv (i+1),bk:=D.nx } σ2 H2) (hd:∀σ H,Pv n σ H→D.nx σ H) :
 ∃W:Nat→Nat→St→Hp→Prop,(∃m,W 0 m σ H)∧∀i m σ H,W i m σ H→
  ((nO lo n).stop i H∧D.nx σ H)∨((nO lo n).go i H∧∃N:St→Hp→Prop,(∀σ' H',N σ' H'→∃m',m'<m∧W (i+1) m' σ' H')∧∀x H',(nO lo n).yld i H x H'→g x σ H' fun σ2 H2=>tb { D with nx:=N,ct:=N,bk:=D.nx } σ2 H2):=by
 refine ⟨fun i m σ H=>m=n - i∧i≤n∧Pv i σ H,⟨n,by simp,Nat.zero_le _,h0⟩,?_⟩
 rintro i m σ H ⟨rfl,hi,p⟩
 by_cases hlt:i<n
 ·refine .inr ⟨hlt,Pv (i+1),fun σ' H' p'=>⟨n - (i+1),by trivial,rfl,hlt,p'⟩,fun x H' y=>?_⟩
  obtain ⟨e,y⟩:=y
  subst e y
  exact hs i σ _ hlt p
 ·have e:i=n:=by trivial
  subst e
  exact .inl ⟨Nat.le_refl _,hd σ H p⟩
abbrev R2:=V→V→Hp→VK→Prop
def bZ (X:Cx) (f:Value→Value→Sem Value) (r:R2):Prop:=
 ∀(pins:List (Addr×Obj)) (s:Shared) (σ:St) (H:Hp) (x y:V) (v u:Value) (Q:VK),aa X pins σ H s→aM x v→aM y u→r x y H Q→
   wpAny (model X.prog X.w) X.A (f v u) (EP X pins σ Q) X.xe s
def uu (X:Cx) (f:Value→Sem Value) (r:V→Hp→VK→Prop):Prop:=
 ∀(pins:List (Addr×Obj)) (s:Shared) (σ:St) (H:Hp) (x:V) (v:Value) (Q:VK),aa X pins σ H s→aM x v→r x H Q→
   wpAny (model X.prog X.w) X.A (f v) (EP X pins σ Q) X.xe s
def bE (X:Cx) (f:Value) (r:List V→Hp→VK→Prop):Prop:=
 ∀(pins:List (Addr×Obj)) (s:Shared) (σ:St) (H:Hp) (xs:List V) (us:List Value) (Q:VK),aa X pins σ H s→aw xs us→r xs H Q→
   wpAny (model X.prog X.w) X.A (call f us) (EP X pins σ Q) X.xe s
def rQ (r:R2) (ta tb:TE):TE:=fun σ H Q=>ta σ H fun x H1=>tb σ H1 fun y H2=>r x y H2 Q
def xS (r:V→Hp→VK→Prop) (ta:TE):TE:=fun σ H Q=>ta σ H fun x H1=>r x H1 Q
inductive xQ (C:Int→Int→Prop) (g:Int→Int→V) (x:V) (y:V) (H:Hp) (Q:VK):Prop
 | mk (i:_) (j:_) (h0:x=.int i) (h1:y=.int j) (h2:C i j) (h3:Q (g i j) H)
def rI (C:Int→Int→Prop) (g:Int→Int→V):R2:=fun x y H Q=>xQ C g x y H Q
inductive xm (g:Int→Int→V) (x:V) (y:V) (H:Hp) (Q:VK):Prop
 | mk (i:_) (j:_) (h0:x=.int i) (h1:y=.int j) (h2:Q (g i j) H)
def k9 (g:Int→Int→V):R2:=fun x y H Q=>xm g x y H Q
def rU (g:Int→V):V→Hp→VK→Prop:=fun x H Q=>uL x fun i=>Q (g i) H
section
variable {X:Cx}{a b c:Expr}{ta tb tc:TE}{pos:Pos}
theorem qx (ha:PE X a ta) (hb:PE X b tb) {pins:List (Addr×Obj)}{s:Shared}{σ:St}{H:Hp}{R:V→V→Hp→Prop} (I:aa X pins σ H s)
 (h:ta σ H fun x H1=>tb σ H1 fun y H2=>R x y H2) {Q:Value→Shared→Prop}{f:Value→Value→Sem Value}
 (hf:∀v u s2 x y H2,aa X pins σ H2 s2→aM x v→aM y u→R x y H2→wpAny (model X.prog X.w) X.A (f v u) Q X.xe s2) :
 wpAny (model X.prog X.w) X.A (eval a X.env) (fun v s₁=>wpAny (model X.prog X.w) X.A (eval b X.env) (fun u s₂=>wpAny (model X.prog X.w) X.A (f v u) Q X.xe s₂) X.xe s₁) X.xe s:=by
 refine aA (ha pins s σ H _ I h) fun v s1 ⟨x,H1,I1,r1,q1⟩=>?_
 refine aA (hb pins s1 σ H1 _ I1 q1) fun u s2 ⟨y,H2,I2,r2,q2⟩=>?_
 exact hf v u s2 x y H2 I2 r1 r2 q2
theorem af {op:Operator}{r:R2} (ho:bZ X (binaryOp op) r) (ha:PE X a ta) (hb:PE X b tb):PE X (.BinOp a op b pos) (rQ r ta tb):=by
 intro pins s σ H Q I h
 exact wpAny_BinOp (qx ha hb I h fun v u s2 x y H2 I2 rx ry q=>ho pins s2 σ H2 x y v u Q I2 rx ry q)
theorem jr {op:UnaryOp}{r:V→Hp→VK→Prop} (ho:uu X (unaryOp op) r) (ha:PE X a ta):PE X (.UnaryOp op a pos) (xS r ta):=by
 intro pins s σ H Q I h
 exact UnaryOp_ (aA (ha pins s σ H _ I h) fun v s1 ⟨x,H1,I1,r1,q1⟩=>ho pins s1 σ H1 x v Q I1 r1 q1)
theorem nt {f:Value→Value→Sem Value}{C:Int→Int→Prop}{g:Int→Int→Int}
 (rule:∀(i j:Int) (t u:Tok) (s:Shared) (Q:Value→Shared→Prop) (E:Value→Shared→Prop),C i j→Q (.int (g i j) s.toks) { s with toks:=s.toks+1 }→wpAny (model X.prog X.w) X.A (f (.int i t) (.int j u)) Q E s) :
 bZ X f (rI C fun i j=>.int (g i j)):=by
 intro pins s σ H x y v u Q I rx ry h
 obtain ⟨i,j,rfl,rfl,hc,q⟩:=h
 obtain ⟨t,rfl⟩:=rx
 obtain ⟨t',rfl⟩:=ry
 exact rule i j t t' s _ _ hc ⟨.int (g i j),H,I.tok _,⟨()⟩,q⟩
theorem uK {f:Value→Value→Sem Value}{g:Int→Int→Int}
 (rule:∀(i j:Int) (t u:Tok) (s:Shared) (Q:Value→Shared→Prop) (E:Value→Shared→Prop),Q (.int (g i j) s.toks) { s with toks:=s.toks+1 }→wpAny (model X.prog X.w) X.A (f (.int i t) (.int j u)) Q E s) :
 bZ X f (k9 fun i j=>.int (g i j)):=by
 intro pins s σ H x y v u Q I rx ry h
 obtain ⟨i,j,rfl,rfl,q⟩:=h
 obtain ⟨t,rfl⟩:=rx
 obtain ⟨t',rfl⟩:=ry
 exact rule i j t t' s _ _ ⟨.int (g i j),H,I.tok _,⟨()⟩,q⟩
theorem oN {f:Value→Value→Sem Value}{g:Int→Int→Bool}
 (rule:∀(i j:Int) (t u:Tok) (s:Shared) (Q:Value→Shared→Prop) (E:Value→Shared→Prop),Q (.bool (g i j)) s→wpAny (model X.prog X.w) X.A (f (.int i t) (.int j u)) Q E s) :
 bZ X f (k9 fun i j=>.bl (g i j)):=by
 intro pins s σ H x y v u Q I rx ry h
 obtain ⟨i,j,rfl,rfl,q⟩:=h
 obtain ⟨t,rfl⟩:=rx
 obtain ⟨t',rfl⟩:=ry
 exact rule i j t t' s _ _ ⟨.bl (g i j),H,I,rfl,q⟩
def uZ (i j:Int):Prop:=0<j∧j<1073741824
def xB (i j:Int):Prop:=0≤j∧j≤1000000∧i.natAbs<2 ^ 64
def qQ (i j:Int):Prop:=(-(2 ^ 64)<i∧i<2 ^ 64)∨(-(2 ^ 64)<j∧j<2 ^ 64)
theorem qQ.ok {i j:Int} (h:qQ i j):IntMulOk i j:=by
 rcases h with ⟨h1,h2⟩ | ⟨h1,h2⟩
 ·exact .of_left (intBits_le_64 h1 h2)
 ·exact .of_right (intBits_le_64 h1 h2)
theorem ce:bZ X (binaryOp .Add) (k9 fun i j=>.int (i+j)):=uK fun _ _ _ _ _ _ _ q=>add_int q
theorem dW:bZ X (binaryOp .Sub) (k9 fun i j=>.int (i - j)):=uK fun _ _ _ _ _ _ _ q=>sub_int q
theorem eO:bZ X (binaryOp .Mult) (rI qQ fun i j=>.int (i*j)):=nt fun _ _ _ _ _ _ _ hc q=>mul_int q hc.ok
theorem tJ:bZ X (binaryOp .FloorDiv) (rI uZ fun i j=>.int (i / j)):=nt fun i j _ _ _ _ _ hc q=>by
 have h1:(0:Int)<j:=hc.1
 have h2:j<1073741824:=hc.2
 exact floordiv_int (by trivial) (by rw [Int.fdiv_eq_ediv_of_nonneg i (by trivial)];exact q) (.inl (PyProof.noPylong_small (by trivial)))
theorem fN:bZ X (binaryOp .Mod) (rI (fun _ j=>0<j) fun i j=>.int (i % j)):=nt fun i j _ _ _ _ _ hc q=>by
 have h1:(0:Int)<j:=hc
 exact mod_int' (by trivial) (by rw [Int.fmod_eq_emod_of_nonneg i (by trivial)];exact q)
theorem sj:bZ X (binaryOp .Mod) (rI (fun _ j=>j≠0) fun i j=>.int (i.fmod j)):=nt fun _ _ _ _ _ _ _ hc q=>mod_int' hc q
theorem c3:bZ X (binaryOp .Pow) (rI xB fun i j=>.int (i ^ j.toNat)):=nt fun _ _ _ _ _ _ _ hc q=>pow_int_small hc.1 hc.2.1 hc.2.2 q
theorem xU {f:Value→Sem Value}{g:Int→Int}
 (rule:∀(i:Int) (t:Tok) (s:Shared) (Q:Value→Shared→Prop) (E:Value→Shared→Prop),Q (.int (g i) s.toks) { s with toks:=s.toks+1 }→wpAny (model X.prog X.w) X.A (f (.int i t)) Q E s) :
 uu X f (rU fun i=>.int (g i)):=by
 intro pins s σ H x v Q I rx h
 obtain ⟨i,rfl,q⟩:=h
 obtain ⟨t,rfl⟩:=rx
 exact rule i t s _ _ ⟨.int (g i),H,I.tok _,⟨()⟩,q⟩
theorem hW:uu X (unaryOp .USub) (rU fun i=>.int (-i)):=xU fun _ _ _ _ _ q=>neg_int q
end
def va:V→V→Bool
 | .non,.non=>true | .non,.int _=>true | .int _,.non=>true | .non,.bl _=>true | .bl _,.non=>true | .non,.str _=>true | .str _,.non=>true
 | .int _,.int _=>true | .bl _,.bl _=>true | .str _,.str _=>true | .byt _,.byt _=>true
 | .int _,.str _=>true | .str _,.int _=>true | .bl _,.str _=>true | .str _,.bl _=>true
 | _,_=>false
def xT:R2:=fun x y H Q=>va x y=true∧Q (.bl (decide (x=y))) H
def xR:R2:=fun x y H Q=>va x y=true∧Q (.bl (!decide (x=y))) H
theorem nH {i j:Int}:decide (V.int i=V.int j)=(i==j):=by
 rw [Bool.eq_iff_iff]
 simp
theorem p9 {i j:Bool}:decide (V.bl i=V.bl j)=(i==j):=by
 rw [Bool.eq_iff_iff]
 simp
theorem ou {i j:Str}:decide (V.str i=V.str j)=(i==j):=by
 rw [Bool.eq_iff_iff]
 simp
theorem oh {i j:Array UInt8}:decide (V.byt i=V.byt j)=(i.toList==j.toList):=by
 rw [Bool.eq_iff_iff]
 cases i
 cases j
 simp
section
variable {X:Cx}{a b c:Expr}{ta tb tc:TE}{pos:Pos}
theorem aO {pins:List (Addr×Obj)}{σ:St}{H:Hp}{s:Shared}{Q:VK}{k k':Bool} (I:aa X pins σ H s) (q:Q (.bl k) H) (e:k=k'):EP X pins σ Q (.bool k') s:=by
 subst e
 exact ⟨.bl k,H,I,rfl,q⟩
theorem bg:bZ X (compareOp .Eq) xT:=by
 intro pins s σ H x y v u Q I rx ry h
 obtain ⟨hs,q⟩:=h
 cases x with
 | non=>
  cases rx
  cases y with
  | non=>cases ry;exact PySem.EqNone.eq_none_none (aO I q (by simp))
  | bl j=>cases ry;exact PySem.EqNone.eq_none_bool (aO I q (by simp))
  | int j=>obtain ⟨t',rfl⟩:=ry;exact PySem.EqNone.eq_none_int (aO I q (by simp))
  | str j=>obtain ⟨t',rfl⟩:=ry;exact PySem.EqNone.eq_none_str (aO I q (by simp))
  | _=>exact absurd (show false=true from hs) Bool.false_ne_true
 | bl i=>
  cases rx
  cases y with
  | non=>cases ry;exact PySem.EqNone.eq_bool_none (aO I q (by simp))
  | bl j=>cases ry;exact eq_bool (aO I q p9)
  | str j=>obtain ⟨t',rfl⟩:=ry;exact PySem.EqMixed.eq_bool_str (aO I q (by simp))
  | _=>exact absurd (show false=true from hs) Bool.false_ne_true
 | int i=>
  obtain ⟨t,rfl⟩:=rx
  cases y with
  | non=>cases ry;exact PySem.EqNone.eq_int_none (aO I q (by simp))
  | int j=>obtain ⟨t',rfl⟩:=ry;exact eq_int (aO I q nH)
  | str j=>obtain ⟨t',rfl⟩:=ry;exact PySem.EqMixed.eq_int_str (aO I q (by simp))
  | _=>exact absurd (show false=true from hs) Bool.false_ne_true
 | str i=>
  obtain ⟨t,rfl⟩:=rx
  cases y with
  | non=>cases ry;exact PySem.EqNone.eq_str_none (aO I q (by simp))
  | bl j=>cases ry;exact PySem.EqMixed.eq_str_bool (aO I q (by simp))
  | int j=>obtain ⟨t',rfl⟩:=ry;exact PySem.EqMixed.eq_str_int (aO I q (by simp))
  | str j=>obtain ⟨t',rfl⟩:=ry;exact eq_str (aO I q ou)
  | _=>exact absurd (show false=true from hs) Bool.false_ne_true
 | byt i=>
  obtain ⟨t,rfl⟩:=rx
  cases y with
  | byt j=>obtain ⟨t',rfl⟩:=ry;exact PySem.W.eq_bytes (aO I q oh)
  | _=>exact absurd (show false=true from hs) Bool.false_ne_true
 | _=>cases y <;> exact absurd (show false=true from hs) Bool.false_ne_true
theorem gh:bZ X (compareOp .NotEq) xR:=by
 intro pins s σ H x y v u Q I rx ry h
 obtain ⟨hs,q⟩:=h
 cases x with
 | non=>
  cases rx
  cases y with
  | non=>cases ry;exact PySem.EqNone.ne_none_none (aO I q (by simp))
  | bl j=>cases ry;exact PySem.EqNone.ne_none_bool (aO I q (by simp))
  | int j=>obtain ⟨t',rfl⟩:=ry;exact PySem.EqNone.ne_none_int (aO I q (by simp))
  | str j=>obtain ⟨t',rfl⟩:=ry;exact PySem.EqNone.ne_none_str (aO I q (by simp))
  | _=>exact absurd (show false=true from hs) Bool.false_ne_true
 | bl i=>
  cases rx
  cases y with
  | non=>cases ry;exact PySem.EqNone.ne_bool_none (aO I q (by simp))
  | bl j=>cases ry;exact ne_bool (aO I q (congrArg not p9))
  | str j=>obtain ⟨t',rfl⟩:=ry;exact PySem.EqMixed.ne_bool_str (aO I q (by simp))
  | _=>exact absurd (show false=true from hs) Bool.false_ne_true
 | int i=>
  obtain ⟨t,rfl⟩:=rx
  cases y with
  | non=>cases ry;exact PySem.EqNone.ne_int_none (aO I q (by simp))
  | int j=>obtain ⟨t',rfl⟩:=ry;exact ne_int (aO I q (congrArg not nH))
  | str j=>obtain ⟨t',rfl⟩:=ry;exact PySem.EqMixed.ne_int_str (aO I q (by simp))
  | _=>exact absurd (show false=true from hs) Bool.false_ne_true
 | str i=>
  obtain ⟨t,rfl⟩:=rx
  cases y with
  | non=>cases ry;exact PySem.EqNone.ne_str_none (aO I q (by simp))
  | bl j=>cases ry;exact PySem.EqMixed.ne_str_bool (aO I q (by simp))
  | int j=>obtain ⟨t',rfl⟩:=ry;exact PySem.EqMixed.ne_str_int (aO I q (by simp))
  | str j=>obtain ⟨t',rfl⟩:=ry;exact ne_str (aO I q (congrArg not ou))
  | _=>exact absurd (show false=true from hs) Bool.false_ne_true
 | byt i=>
  obtain ⟨t,rfl⟩:=rx
  cases y with
  | byt j=>obtain ⟨t',rfl⟩:=ry;exact PySem.W.ne_bytes (aO I q (congrArg not oh))
  | _=>exact absurd (show false=true from hs) Bool.false_ne_true
 | _=>cases y <;> exact absurd (show false=true from hs) Bool.false_ne_true
theorem oC:bZ X (compareOp .Lt) (k9 fun i j=>.bl (decide (i<j))):=oN fun _ _ _ _ _ _ _ q=>lt_int q
theorem lV:bZ X (compareOp .LtE) (k9 fun i j=>.bl (decide (i≤j))):=oN fun _ _ _ _ _ _ _ q=>le_int q
theorem jv:bZ X (compareOp .Gt) (k9 fun i j=>.bl (decide (j<i))):=oN fun _ _ _ _ _ _ _ q=>gt_int q
theorem lX:bZ X (compareOp .GtE) (k9 fun i j=>.bl (decide (j≤i))):=oN fun _ _ _ _ _ _ _ q=>ge_int q
theorem hU:bZ X (compareOp .Is) (fun x y H Q=>y=.non∧Q (.bl (decide (x=.non))) H):=by
 intro pins s σ H x y v u Q I rx ry h
 obtain ⟨rfl,q⟩:=h
 cases ry
 refine is_none_gen (aO I q ?_)
 cases x <;> first
  | (cases rx;rfl)
  | (obtain ⟨t,rfl⟩:=rx;rfl)
theorem fL (b:Expr) {op:CmpOp} (h:op≠.In:=by decide) (h2:op≠.NotIn:=by decide):behindInMarks op b=false:=by
 have e1:(op==CmpOp.In)=false:=by cases op <;> first | rfl | exact absurd rfl h
 have e2:(op==CmpOp.NotIn)=false:=by cases op <;> first | rfl | exact absurd rfl h2
 cases b <;> simp [behindInMarks,e1,e2]
theorem cq {op:CmpOp}{r:R2} (ho:bZ X (compareOp op) r) (ha:PE X a ta) (hb:PE X b tb) (hm:behindInMarks op b=false):PE X (.Compare a [op] [b] pos) (rQ r ta tb):=by
 intro pins s σ H Q I h
 exact wpAny_Compare1 (qx ha hb I h fun v u s2 x y H2 I2 rx ry q=>ho pins s2 σ H2 x y v u Q I2 rx ry q) hm
def rV (t:TE):TT:=fun σ H Q=>t σ H fun x H'=>kD x fun k=>Q k H'
theorem am {op:CmpOp}{r:R2} (ho:bZ X (compareOp op) r) (ha:PE X a ta) (hb:PE X b tb) (hm:behindInMarks op b=false):PT X (.Compare a [op] [b] pos) (rV (rQ r ta tb)):=by
 intro pins s σ H Q I h
 refine wpAny_isTrue_Compare1 (aA (ha pins s σ H _ I h) fun v s1 ⟨x,H1,I1,r1,q1⟩=>aA (hb pins s1 σ H1 _ I1 q1) fun u s2 ⟨y,H2,I2,r2,q2⟩=>
  aA (ho pins s2 σ H2 x y v u _ I2 r1 r2 q2) fun c s3 ⟨z,H3,I3,r3,k,e,q3⟩=>?_) hm
 subst e
 cases r3
 exact wpAny_truthy_bool ⟨H3,I3,q3⟩
def pK (r r':R2) (ta tb tc:TE):TE:=fun σ H Q=>ta σ H fun x H1=>tb σ H1 fun y H2=>r x y H2 fun z H3=>kD z fun k=>
 (if k=true then tc σ H3 fun w' H4=>r' y w' H4 Q else Q (.bl false) H3)
theorem qC {op op':CmpOp}{r r':R2} (ho:bZ X (compareOp op) r) (ho':bZ X (compareOp op') r') (ha:PE X a ta) (hb:PE X b tb) (hc:PE X c tc)
 (hm:lastMarks [op,op'] [b,c]=false:=by with_unfolding_all rfl):PE X (.Compare a [op,op'] [b,c] pos) (pK r r' ta tb tc):=by
 intro pins s σ H Q I h
 refine Compare_chain (aA (ha pins s σ H _ I h) fun v s1 ⟨x,H1,I1,r1,q1⟩=>chain_link (aA (hb pins s1 σ H1 _ I1 q1) fun u s2 ⟨y,H2,I2,r2,q2⟩=>
  aA (ho pins s2 σ H2 x y v u _ I2 r1 r2 q2) fun d s3 ⟨z,H3,I3,r3,k,e,q3⟩=>?_)) hm
 subst e
 cases r3
 refine wpAny_truthy_bool ?_
 cases k with
 | false=>exact ite_ff ⟨.bl false,H3,I3,rfl,q3⟩
 | true=>exact ite_tt (chain_last (aA (hc pins s3 σ H3 _ I3 q3) fun w' s4 ⟨z',H4,I4,r4,q4⟩=>ho' pins s4 σ H4 y z' u w' Q I4 r2 r4 q4))
theorem mY {op op':CmpOp}{r r':R2} (ho:bZ X (compareOp op) r) (ho':bZ X (compareOp op') r') (ha:PE X a ta) (hb:PE X b tb) (hc:PE X c tc)
 (hm:lastMarks [op,op'] [b,c]=false:=by with_unfolding_all rfl):PT X (.Compare a [op,op'] [b,c] pos) (rV (pK r r' ta tb tc)):=by
 intro pins s σ H Q I h
 refine isTrue_chain (aA (ha pins s σ H _ I h) fun v s1 ⟨x,H1,I1,r1,q1⟩=>test_link (aA (hb pins s1 σ H1 _ I1 q1) fun u s2 ⟨y,H2,I2,r2,q2⟩=>
  aA (ho pins s2 σ H2 x y v u _ I2 r1 r2 q2) fun d s3 ⟨z,H3,I3,r3,k,e,q3⟩=>?_)) hm
 subst e
 cases r3
 refine wpAny_truthy_bool ?_
 cases k with
 | false=>
  obtain ⟨k',e',q'⟩:=q3
  cases e'
  exact ite_ff ⟨H3,I3,q'⟩
 | true=>
  refine ite_tt (test_last (aA (hc pins s3 σ H3 _ I3 q3) fun w' s4 ⟨z',H4,I4,r4,q4⟩=>aA (ho' pins s4 σ H4 y z' u w' _ I4 r2 r4 q4) fun d' s5 ⟨z2,H5,I5,r5,k2,e2,q5⟩=>?_))
  subst e2
  cases r5
  exact wpAny_truthy_bool ⟨H5,I5,q5⟩
theorem iS:(sizeLine:Nat)<2 ^ 63:=by rw [sizeLine_eq];decide
theorem oS:bZ X (binaryOp .Add) (fun x y H Q=>aX fun i j=>x=.str i∧y=.str j∧i.length+j.length≤sizeLine∧Q (.str (i++j)) H):=by
 intro pins s σ H x y v u Q I rx ry h
 obtain ⟨i,j,rfl,rfl,hz,q⟩:=h
 obtain ⟨t,rfl⟩:=rx
 obtain ⟨t',rfl⟩:=ry
 exact add_str (fun t' tk=>⟨.str (i++j),H,I.tok _,⟨()⟩,q⟩) hz
theorem gN {x:V}{us:List Value} (r:aw [x] us):∃u,us=[u]∧aM x u:=by
 cases r with
 | cons r1 r2=>cases r2;exact ⟨_,rfl,r1⟩
theorem kj {x y:V}{us:List Value} (r:aw [x,y] us):aX fun u w'=>us=[u,w']∧aM x u∧aM y w':=by
 cases r with
 | cons r1 r2=>
  cases r2 with
  | cons r3 r4=>cases r4;exact ⟨_,_,rfl,r1,r3⟩
theorem fk:bE X (.builtin "abs") (fun xs H Q=>∃i,xs=[.int i]∧Q (.int (if i<0 then -i else i)) H):=by
 intro pins s σ H xs us Q I r h
 obtain ⟨i,rfl,q⟩:=h
 obtain ⟨u,rfl,t,rfl⟩:=gN r
 exact call_abs_int fun u tk=>⟨.int (if i<0 then -i else i),H,I.tok _,⟨()⟩,q⟩
theorem qf (hc:X.calm=true):bE X (.builtin "max") (fun xs H Q=>aX fun i j=>xs=[.int i,.int j]∧Q (.int (if j > i then j else i)) H):=by
 intro pins s σ H xs us Q I r h
 obtain ⟨i,j,rfl,q⟩:=h
 obtain ⟨u,w',rfl,⟨t,rfl⟩,⟨t',rfl⟩⟩:=kj r
 refine max_two_ints (I.ok.hd hc) fun h' tk k=>⟨_,H,I.kept k,?_,q⟩
 by_cases hj:j > i
 ·rw [if_pos hj,if_pos hj];exact ⟨()⟩
 ·rw [if_neg hj,if_neg hj];exact ⟨()⟩
theorem i9:bE X (.type "int") (fun xs H Q=>(∃i,xs=[.int i]∧Q (.int i) H)∨∃k,xs=[.bl k]∧Q (.int (if k then 1 else 0)) H):=by
 intro pins s σ H xs us Q I r h
 rcases h with ⟨i,rfl,q⟩ | ⟨k,rfl,q⟩
 ·obtain ⟨u,rfl,t,rfl⟩:=gN r
  exact call_int_int ⟨.int i,H,I,⟨()⟩,q⟩
 ·obtain ⟨u,rfl,r1⟩:=gN r
  cases r1
  exact call_int_bool ⟨.int (if k then 1 else 0),H,I.tok _,⟨()⟩,q⟩
theorem eL:bE X (.type "str") (fun xs H Q=>∃i,xs=[.int i]∧i.natAbs.log2<1920∧Q (.str (toString i)) H):=by
 intro pins s σ H xs us Q I r h
 obtain ⟨i,rfl,hz,q⟩:=h
 obtain ⟨u,rfl,t,rfl⟩:=gN r
 exact PySem.P.str_of_int hz ⟨.str _,H,I.tok _,⟨()⟩,q⟩
theorem m9:bE X (.builtin "divmod") (fun xs H Q=>aX fun i j=>xs=[.int i,.int j]∧uZ i j∧∀p,H p=none→Q (.ref p) (aI H p (.tup [.int (i / j),.int (i % j)]))):=by
 intro pins s σ H xs us Q I r h
 obtain ⟨i,j,rfl,⟨h1,h2⟩,q⟩:=h
 obtain ⟨u,w',rfl,⟨t,rfl⟩,⟨t',rfl⟩⟩:=kj r
 refine divmod_int (by trivial) ?_ (.inl (PyProof.noPylong_small (by trivial)))
 rw [Int.fdiv_eq_ediv_of_nonneg i (by trivial),Int.fmod_eq_emod_of_nonneg i (by trivial)]
 have hn:H s.heap.objs.size=none:=I.hok.fresh (Nat.le_refl _)
 refine ⟨.ref s.heap.objs.size,_,?_,rfl,q _ hn⟩
 refine I.laid (fun b o e=>Heap.get?_push_of_some _ e) (Nat.le_refl _) ⟨by simp only [List.length_cons,List.length_nil];rw [sizeLine_eq];decide,[.int (i / j) s.toks,.int (i % j) (s.toks+1)],.cons ⟨()⟩ (.cons ⟨()⟩ .nil),?_⟩
 exact ⟨⟨_,Heap.get?_push_size s.heap rfl,rfl,0,rfl⟩,_,Heap.get?_push_size s.heap rfl,rfl⟩
end
structure qE (h:Heap) (x dx C:Addr) (mA:Str→Option Value):Prop where
 obj:h.get? x=some (PySem.W.instObj C dx)
 ns:h.Ns1 dx mA
 ne:dx≠x
theorem lj {h:Heap}{dx:Addr}{mA:Str→Option Value} (n:h.Ns1 dx mA):∃od,h.get? dx=some od∧∀name,PySem.W.lookIn name od=some (mA name):=by
 obtain ⟨o,es,ep,ho,hd,hk,_,hm⟩:=n
 refine ⟨o,ho,fun name=>?_⟩
 have e:=hm name
 unfold nsFind findBy at e
 rw [←Array.find?_toList] at e
 unfold PySem.W.lookIn
 rw [hd]
 dsimp only
 split
 ·rename_i y q
  rw [q] at e
  exact congrArg some e
 ·rename_i q
  rw [q] at e
  have a:es.toList.any (·.refKey)=false:=by
   rw [List.any_eq_false]
   intro y hy
   obtain ⟨z,t,hkey⟩:=hk y (Array.mem_toList_iff.mp hy)
   simp [DictEntry.refKey,hkey]
  have a':¬es.toList.any (·.refKey)=true:=by rw [a];exact Bool.false_ne_true
  rw [if_neg a']
  exact congrArg some e
theorem qE.look {h:Heap}{x dx C:Addr}{mA:Str→Option Value} (I:qE h x dx C mA):∃od,PySem.W.InstAt h x (PySem.W.instObj C dx) C (some od)∧∀name,PySem.W.lookIn name od=some (mA name):=
 let ⟨od,ho,hl⟩:=lj I.ns
 ⟨od,⟨I.obj,rfl,rfl,ho⟩,hl⟩
section
variable {prog:Program}{w:World}{A:Around}{E:Value→Shared→Prop}{s:Shared}{K:PySem.W.Frag}{x dx C f:Addr}{mA:Str→Option Value}{name:Str}{v:Value}
end
theorem pP {v:V}{u:Value} (r:aM v u):PySem.W.handedIn u=true:=by
 cases v with
 | non=>cases (show u=Value.none from r);rfl
 | bl b=>cases (show u=Value.bool b from r);rfl
 | int i=>obtain ⟨t,e⟩:=(show ∃t,u=Value.int i t from r);cases e;rfl
 | str x=>obtain ⟨t,e⟩:=(show ∃t,u=Value.str x t from r);cases e;rfl
 | byt b=>obtain ⟨t,e⟩:=(show ∃t,u=Value.bytes b t from r);cases e;rfl
 | flt b=>obtain ⟨t,e⟩:=(show ∃t,u=Value.float b t from r);cases e;rfl
 | ref a=>cases (show u=Value.ref a from r);rfl
 | ty n=>cases (show u=Value.type n from r);rfl
section
variable {P:Program}{w:World}{H H':Hp}{h h':Heap}{a C dx:Addr}{fs fs':List (Str×V)}
theorem sv (hok:cg P w H h) (e:H a=some (.ins C dx fs)):∃mA,qE h a dx C mA∧(∀f,rf (fs.lookup f) (mA f))∧PySem.Within mA (fs.map (·.1))∧fs.length≤1000∧H dx=some (.own a):=by
 obtain ⟨d,z,ne,ob,mA,n,r,q⟩:=(show aW P w H h a (.ins C dx fs) from hok a _ e)
 exact ⟨mA,⟨ob,n,ne⟩,r,q,z,d⟩
end
structure uJ (K:PySem.W.Frag) (C:Addr):Prop where
 pg:PySem.W.plainGet K C Str.empty=true
 hd:PySem.W.hasDictIn K C=true
 po:PySem.W.plainOver K C=true
 sa:PySem.W.findIn K (.ref C) "__setattr__" = some (some (.builtin "object.__setattr__"))
theorem uJ.get {K:PySem.W.Frag}{C:Addr} (c:uJ K C) (f:Str):PySem.W.plainGet K C f=true:=c.pg
section
variable {X:Cx}{pins:List (Addr×Obj)}{σ:St}{H:Hp}{s:Shared}{a C dx:Addr}{fs:List (Str×V)}{f:Str}{v:V}{A:Around}{E:Value→Shared→Prop}
theorem tN {prog:Program}{w:World}{env:Env}{e:Expr}{f:Str}{pos:Pos}{s:Shared}{Q:Value→Shared→Prop} (hb:attributeBase e f env (eval e env)=eval e env)
 (h:wpAny (model prog w) A (eval e env) (fun o s₁=>wpAny (model prog w) A (getAttr o f true) Q E s₁) E s):wpAny (model prog w) A (eval (.Attribute e f pos) env) Q E s:=
 Attribute_any_ h (by rw [arm_eval_Attribute,hb])
end
section
variable {X:Cx}{o e value:Expr}{f:Str}{pos pos' tpos:Pos}{ta tv:TE}
end
section
variable {X:Cx}{pins:List (Addr×Obj)}{σ:St}{H:Hp}{s:Shared}{A:Around}{E:Value→Shared→Prop}{Q:Value→Shared→Prop}{c:Value}{b:Bool}
inductive dB (K:PySem.W.Frag) (H:Hp):V→Value→Prop where
 | non:dB K H .non (.type "NoneType")
 | bl (x:Bool):dB K H (.bl x) (.type "bool")
 | int (i:Int):dB K H (.int i) (.type "int")
 | str (x:Str):dB K H (.str x) (.type "str")
 | flt (x:UInt64):dB K H (.flt x) (.type "float")
 | lst {a:Addr}{xs:List V} (e:H a=some (.lst xs)):dB K H (.ref a) (.type "list")
 | frz {a:Addr}{o:Obj}{xs:List V} (e:H a=some (.frz o (.lst xs))):dB K H (.ref a) (.type "list")
 | tup {a:Addr}{xs:List V} (e:H a=some (.tup xs)):dB K H (.ref a) (.type "tuple")
 | dK {a:Addr}{kvs:List (eD×V)} (e:H a=some (.dK kvs)):dB K H (.ref a) (.type "dict")
 | dT {a:Addr}{kvs:List (List eD×V)} (e:H a=some (.dT kvs)):dB K H (.ref a) (.type "dict")
 | ins {a C dx:Addr}{fs:List (Str×V)} (e:H a=some (.ins C dx fs)) (cl:uJ K C) (ha:PySem.W.findIn K (.ref C) "__class__" = some (some (.builtin "object.__class__")))
  (hn:PySem.W.specialIn K (.builtin "object.__class__") "__get__" = some (some (.builtin "getset_descriptor.__get__"))) (htk:PySem.W.takesIn K (.builtin "object.__class__")=some true)
  (hm:PySem.W.mroIn K C (.type "object")=some true):dB K H (.ref a) (.ref C)
theorem pB {x:V}{u t:Value} (I:aa X pins σ H s) (rx:aM x u) (ty:dB X.K H x t) (e:PySem.W.kitOne X.K t c=some b) (h:∀tk,Q (.bool b) { s with toks:=tk }) :
 wpAny (model X.prog X.w) A (call (.builtin "isinstance") [u,c]) Q E s:=by
 cases ty with
 | non=>cases (show u=Value.none from rx);exact PySem.W.kia_one PySem.W.kitx_none I.kIn True.intro e (fun z=>nomatch z) h
 | bl y=>cases (show u=Value.bool y from rx);exact PySem.W.kia_one PySem.W.kitx_bool I.kIn True.intro e (fun z=>nomatch z) h
 | int i=>obtain ⟨t,q⟩:=(show ∃t,u=Value.int i t from rx);cases q;exact PySem.W.kia_one PySem.W.kitx_int I.kIn True.intro e (fun z=>nomatch z) h
 | str y=>obtain ⟨t,q⟩:=(show ∃t,u=Value.str y t from rx);cases q;exact PySem.W.kia_one PySem.W.kitx_str I.kIn True.intro e (fun z=>nomatch z) h
 | flt y=>obtain ⟨t,q⟩:=(show ∃t,u=Value.float y t from rx);cases q;exact PySem.W.kia_one PySem.W.kitx_float I.kIn True.intro e (fun z=>nomatch z) h
 | @lst a xs ea=>
  cases (show u=Value.ref a from rx)
  obtain ⟨_,_,n,_,h1⟩:=(show aW X.prog X.w H s.heap a (.lst xs) from I.hok a _ ea)
  exact PySem.W.kia_one PySem.W.kitx_list I.kIn ⟨_,h1,rfl⟩ e (fun z=>nomatch z) h
 | @frz a ob xs ea=>
  cases (show u=Value.ref a from rx)
  obtain ⟨_,_,_,n,_,h1⟩:=(show aW X.prog X.w H s.heap a (.frz ob (.lst xs)) from I.hok a _ ea)
  exact PySem.W.kia_one PySem.W.kitx_list I.kIn ⟨_,h1,rfl⟩ e (fun z=>nomatch z) h
 | @tup a xs ea=>
  cases (show u=Value.ref a from rx)
  obtain ⟨_,_,_,p,_⟩:=(show aW X.prog X.w H s.heap a (.tup xs) from I.hok a _ ea)
  obtain ⟨o,h1,h2,_⟩:=p
  exact PySem.W.kia_one PySem.W.kitx_tuple I.kIn ⟨o,h1,h2⟩ e (fun z=>nomatch z) h
 | @dK a kvs ea=>
  cases (show u=Value.ref a from rx)
  obtain ⟨_,_,vs,_,p⟩:=(show aW X.prog X.w H s.heap a (.dK kvs) from I.hok a _ ea)
  obtain ⟨o,es,ep,h1,h2,_⟩:=p
  exact PySem.W.kia_one PySem.W.kitx_dict I.kIn ⟨o,h1,h2.1⟩ e (fun z=>nomatch z) h
 | @dT a kvs ea=>
  cases (show u=Value.ref a from rx)
  obtain ⟨_,_,xs,_,o,es,ep,h1,h2,_⟩:=(show aW X.prog X.w H s.heap a (.dT kvs) from I.hok a _ ea)
  exact PySem.W.kia_one PySem.W.kitx_dict I.kIn ⟨o,h1,h2.1⟩ e (fun z=>nomatch z) h
 | @ins a C dx fs ea cl ha hn htk hm=>
  cases (show u=Value.ref a from rx)
  obtain ⟨mA,O,_⟩:=sv I.hok ea
  obtain ⟨od,J,_⟩:=O.look
  exact PySem.W.kia_one (PySem.W.kitx_own (cl.get _) cl.hd ha hn htk hm) I.kIn J e (fun z=>nomatch z) h
end
structure cM (k:Nat) (A:Around):Prop where
 hd:A.handled=none
 dp:A.depth+3*k+5<recursionLimit
 un:A.units+16*k+200<cLine
 gd:A.guards=some []
theorem cM.mono {j k:Nat}{A:Around} (r:cM k A) (h:j≤k):cM j A:=⟨r.hd,by have:=r.dp;trivial,by have:=r.un;trivial,r.gd⟩
theorem cM.deeper {k:Nat}{A:Around} (r:cM (k+1) A) (env:Env):cM k (A.deeper env):=
 ⟨r.hd,by have:=r.dp;show A.depth+1+3*k+5<_;trivial,by have:=r.un;show A.units+3+16*k+200<_;trivial,r.gd⟩
theorem cM.depth {k:Nat}{A:Around} (r:cM k A):A.depth<recursionLimit:=by have:=r.dp;trivial
theorem cM.units {k:Nat}{A:Around} (r:cM k A):A.units+64<cLine:=by have:=r.un;trivial
def qK:TA:=fun _ H Q=>Q [] H
def j9 (ta:TE) (tr:TA):TA:=fun σ H Q=>ta σ H fun x H1=>tr σ H1 fun xs H2=>Q (x :: xs) H2
section
variable {X:Cx}{e:Expr}{es:List Expr}{te:TE}{t:TA}{pos:Pos}
theorem b4:PA X [] qK:=fun _ _ _ _ H Q I h=>Calls.spliced_nil ⟨[],H,I,.nil,h⟩
theorem aT (ha:PE X e te) (hr:PA X es t) (hs:starEach (e :: es) X.env=(false,eval e X.env) :: starEach es X.env:=by rfl):PA X (e :: es) (j9 te t):=by
 intro pos pins s σ H Q I h
 rw [hs]
 show wpAny _ _ (spliced ((false,eval e X.env) :: backTo pos (starEach es X.env))) _ _ s
 refine Calls.spliced_cons (aA (ha pins s σ H _ I h) fun u s1 ⟨x,H1,I1,r1,q1⟩=>?_)
 exact aA (hr pos pins s1 σ H1 _ I1 q1) fun us s2 ⟨xs,H2,I2,r2,q2⟩=>⟨x :: xs,H2,I2,.cons r1 r2,q2⟩
def xr (t:TA):TE:=fun σ H Q=>t σ H fun xs H1=>xs.length≤sizeLine∧∀p,H1 p=none→Q (.ref p) (aI H1 p (.lst xs))
theorem vp (h:PA X es t):PE X (.List es pos) (xr t):=by
 intro pins s σ H Q I hq
 refine wpAny_List_spliced (aA (h pos pins s σ H _ I hq) fun us s1 ⟨xs,H1,I1,r,z,q⟩=>⟨by rw [←r.length];exact z,?_⟩)
 have hf:H1 s1.heap.objs.size=none:=I1.hok.fresh (Nat.le_refl _)
 refine ⟨.ref s1.heap.objs.size,aI H1 s1.heap.objs.size (.lst xs),I1.laid (t':=s1.toks) (fun b u e=>Heap.get?_push_of_some _ e) (Nat.le_refl _) ?_,rfl,q _ hf⟩
 exact ⟨z,us,0,r,Heap.get?_push_size _ rfl⟩
end
abbrev Sp:=List V→Hp→VK→XK→Prop
abbrev fO:=List Env→Hp→Shared→XK→Value→Shared→Prop
structure oU (P:Program) (w:World) (K:PySem.W.Frag) (mg:Str→Option Value) (base:Heap) (A:Around) (outer:List Env) (s:Shared) (H:Hp):Prop where
 frames:A.frames=some outer
 mod:Mod K mg base
 bs:∀b o,base.get? b=some o→s.heap.get? b=some o∧H b=none
 bsz:base.objs.size≤s.heap.objs.size
 funs:s.heap.FunFrames base outer
 frf:∀b∈dN outer,H b=none
 hok:cg P w H s.heap
 bare:AllBare s.gens
def CE (outer:List Env) (P:Program) (w:World) (H:Hp) (s:Shared) (Q:VK) (u:Value) (s':Shared):Prop:=
 aX fun v H'=>s'.os=s.os∧AllBare s'.gens∧Un (dN outer) [] H H' s.heap s'.heap∧cg P w H' s'.heap∧aM v u∧Q v H'
def CR (CX:fO) (outer:List Env) (P:Program) (w:World) (H:Hp) (s:Shared) (Q:VK) (E:XK) (r:Result) (s':Shared):Prop:=
 match r with
 | .ok (.ret u)=>CE outer P w H s Q u s'
 | .ok _=>False
 | .error e=>CX outer H s E e s'
structure bv (P:Program) (w:World) (K:PySem.W.Frag) (mg:Str→Option Value) (base:Heap) (CX:fO) (k:Nat) (f:Addr) (fd:FuncData) (ps:List Str) (sp:Sp):Prop where
 len:∀vs H Q E,sp vs H Q E→vs.length=ps.length
 run:∀(A:Around) (outer:List Env) (s:Shared) (H:Hp) (args:Args) (us:List Value) (vs:List V) (Q:VK) (E:XK),cM k A→oU P w K mg base A outer s H→BindsTo s fd args (ps.zip us)→aw vs us→sp vs H Q E→
  codeAny (model P w) A (.call (.ref f) args) (CR CX outer P w H s Q E) s
section
variable {X:Cx}{pins:List (Addr×Obj)}{σ:St}{H:Hp}{s s':Shared}
theorem aa.env0 (I:aa X pins σ H s):oU X.prog X.w X.K X.mg X.base X.A X.stack s H:=
 ⟨I.ok.frames,I.ok.mod,I.bs,Nat.le_trans I.ok.bsz I.sz,I.stack,I.stkFree,I.hok,I.bare⟩
theorem aa.after {Q:VK}{u:Value} (I:aa X pins σ H s) (h:CE X.stack X.prog X.w H s Q u s'):EP X pins σ Q u s':=by
 obtain ⟨v,H',os,bare,un,hok,r,q⟩:=h
 obtain ⟨hh,g,d,t,os'⟩:=s'
 obtain rfl:os'=s.os:=os
 exact ⟨v,H',I.call (h':=hh) (g':=g) (d':=d) (t':=t) (ch:=[]) un hok bare (fun b z=>absurd z (by simp)),r,q⟩
end
def vz (sp:Sp) (dvs:List V) (E:XK) (t:TA):TE:=fun σ H Q=>t σ H fun vs H1=>sp (vs++dvs) H1 Q E
def dI (K:PySem.W.Frag) (fd:FuncData) (ps:List Str) (ds:List Value):Prop:=
 ∀(s:Shared) (us:List Value),K.In s.heap→(us++ds).length=ps.length→BindsTo s fd ⟨us,[]⟩ (ps.zip (us++ds))
theorem dI.all {K:PySem.W.Frag}{fd:FuncData}{ps:List Str} (h:∀us:List Value,us.length=ps.length→bindArgs fd ⟨us,[]⟩=pure (ps.zip us)):dI K fd ps []:=fun s us _ hl=>by
 rw [List.append_nil] at hl ⊢
 exact .of_eq (h us hl)
def mh (CX:fO) (X:Cx) (E:XK):Prop:=∀(pins:List (Addr×Obj)) (σ:St) (H:Hp) (s:Shared) (e:Value) (s':Shared),aa X pins σ H s→CX X.stack H s E e s'→X.xe e s'
section
variable {X:Cx}{CX:fO}{k:Nat}{f C:Addr}{fd:FuncData}{ps:List Str}{sp:Sp}{dvs:List V}{ds:List Value}{E:XK}{x m:Str}{p pos apos:Pos}{e o:Expr}{es:List Expr}{ta:TE}{t:TA}
theorem vj {pins:List (Addr×Obj)}{σ:St}{H:Hp}{s:Shared}{Q:VK}{us:List Value}{vs:List V} (F:bv X.prog X.w X.K X.mg X.base CX k f fd ps sp) (hr:cM k X.A) (hb:dI X.K fd ps ds) (hd:aw dvs ds) (hx:mh CX X E)
 (I:aa X pins σ H s) (r:aw vs us) (h:sp (vs++dvs) H Q E):wpAny (model X.prog X.w) X.A (call (.ref f) us) (EP X pins σ Q) X.xe s:=by
 have r2:aw (vs++dvs) (us++ds):=r.append hd
 have hl:(us++ds).length=ps.length:=by rw [←r2.length];exact F.len _ _ _ _ h
 refine wpAny_call (codeAny_mono (F.run X.A X.stack s H ⟨us,[]⟩ (us++ds) (vs++dvs) Q E hr I.env0 (hb s us I.kIn hl) r2 h) fun r s' hq=>?_)
 cases r with
 | error e=>exact hx pins σ H s e s' I hq
 | ok fl=>
  cases fl with
  | ret u=>exact I.after hq
  | next=>exact False.elim hq
  | brk=>exact False.elim hq
  | cont=>exact False.elim hq
theorem gl (F:bv X.prog X.w X.K X.mg X.base CX k f fd ps sp) (hr:cM k X.A) (hg:Gl X x) (hm:X.mg x=some (.ref f)) (hk:PySem.W.keepIn X.K (.ref f)=true) (hb:dI X.K fd ps ds) (hd:aw dvs ds) (hx:mh CX X E)
 (ha:PA X (e :: es) t) (hdb:(x==("__debug__" : Str))=false:=by decide) (he:starEach (e :: es) X.env=(false,eval e X.env) :: starEach es X.env:=by rfl) (hpl:(backTo pos (starEach es X.env)).any (·.1)=false:=by rfl) :
 PE X (.Call (.Name x p) (e :: es) [] pos) (vz sp dvs E t):=by
 intro pins s σ H Q I h
 refine wpAny_Call_Name_kw (h8 I hg hm ?_ hdb)
 refine PySem.W.callWith_K (h₀:=X.base) I.ok.mod.kin hk (aA (ha pos pins s σ H _ I h) fun us s1 ⟨vs,H1,I1,r,q⟩=>⟨I1.kIn,?_⟩) he hpl
 exact vj F hr hb hd hx I1 r q
end
section
variable {X:Cx}{CX:fO}{k:Nat}{f C:Addr}{fd:FuncData}{ps ks:List Str}{sp:Sp}{E:XK}{x m:Str}{p pos apos kpos:Pos}{e o:Expr}{es:List Expr}{kws:List Keyword}{te ta:TE}{t tk:TA}{nm:Option Str}
variable {g:List Value→List Value→List Value}{gV:List V→List V→List V}
end
structure aQ (N P:List Str) (sc:Scope):Prop where
 kind:sc.kind=.function
 co:sc.isCoroutine=false
 gen:sc.isGenerator=false
 nd:N.Nodup
 pre:N.take P.length=P
 par:∀x∈P,sc.names.lookup x=some .local∨sc.names.lookup x=some .cell
 nofree:∀y∈sc.names,y.2≠.free
theorem lh {kindOf:Str→Option NameKind}{x:Str}:∀{binds:List (Str×Value)}{m:Str→Option Value},(∀v,(x,v)∉binds)→bindL kindOf binds m x=m x
 | [],_,_=>rfl
 | (n,v) :: r,m,h=>by
  unfold bindL
  rw [lh fun w hw=>h w (List.mem_cons_of_mem _ hw)]
  split
  ·have:x≠n:=by rintro rfl;exact h v List.mem_cons_self
   simp [this]
  ·rfl
theorem lA {kindOf:Str→Option NameKind}{x:Str}:∀{binds:List (Str×Value)}{m:Str→Option Value},(∀v,(x,v)∉binds)→bindC kindOf binds m x=m x
 | [],_,_=>rfl
 | (n,v) :: r,m,h=>by
  unfold bindC
  rw [lA fun w hw=>h w (List.mem_cons_of_mem _ hw)]
  split
  ·rfl
  ·have:x≠n:=by rintro rfl;exact h v List.mem_cons_self
   simp [this]
theorem k6 {kindOf:Str→Option NameKind}{x:Str}{v:Value}:∀{P:List Str}{vs:List Value}{i:Nat}{m:Str→Option Value},P.Nodup→P[i]?=some x→vs[i]?=some v→kindOf x=some .local→
 bindL kindOf (P.zip vs) m x=some v
 | [],_,_,_,_,h,_,_=>by simp at h
 | _ :: _,[],_,_,_,_,h,_=>by simp at h
 | p :: P,w :: vs,0,m,nd,h1,h2,hk=>by
  simp at h1 h2;subst h1;subst h2
  show bindL kindOf ((p,w) :: P.zip vs) m p=_
  unfold bindL
  rw [lh fun v hv=>(List.nodup_cons.mp nd).1 (List.of_mem_zip hv).1,if_pos hk]
  simp
 | p :: P,w :: vs,i+1,m,nd,h1,h2,hk=>by
  show bindL kindOf ((p,w) :: P.zip vs) m x=_
  unfold bindL
  exact k6 (i:=i) (List.nodup_cons.mp nd).2 (by simpa using h1) (by simpa using h2) hk
theorem lE {kindOf:Str→Option NameKind}{x:Str}{v:Value}:∀{P:List Str}{vs:List Value}{i:Nat}{m:Str→Option Value},P.Nodup→P[i]?=some x→vs[i]?=some v→kindOf x≠some .local→
 bindC kindOf (P.zip vs) m x=some v
 | [],_,_,_,_,h,_,_=>by simp at h
 | _ :: _,[],_,_,_,_,h,_=>by simp at h
 | p :: P,w :: vs,0,m,nd,h1,h2,hk=>by
  simp at h1 h2;subst h1;subst h2
  show bindC kindOf ((p,w) :: P.zip vs) m p=_
  unfold bindC
  rw [lA fun v hv=>(List.nodup_cons.mp nd).1 (List.of_mem_zip hv).1,if_neg hk]
  simp
 | p :: P,w :: vs,i+1,m,nd,h1,h2,hk=>by
  show bindC kindOf ((p,w) :: P.zip vs) m x=_
  unfold bindC
  exact lE (i:=i) (List.nodup_cons.mp nd).2 (by simpa using h1) (by simpa using h2) hk
def fI (N:List Str) (vs:List V):St:=vs.map some++List.replicate (N.length - vs.length) none
def iX (CX:fO) (P:Program) (w:World) (K:PySem.W.Frag) (mg:Str→Option Value) (base:Heap) (N:List Str) (qual:Str) (scope:Scope) (f:Addr) (cd:Value) (A:Around) (outer:List Env) (s:Shared) (H:Hp) (E:XK):Cx where
 prog:=P
 w:=w
 K:=K
 mg:=mg
 base:=base
 A:=A.deeper (envOfC qual scope s.heap.objs.size f cd)
 N:=N
 s₀:=s
 H₀:=H
 env:=envOfC qual scope s.heap.objs.size f cd
 outer:=outer
 stack:=envOfC qual scope s.heap.objs.size f cd :: outer
 ex:=[]
 calm:=true
 fn:=fun _=>true
 pn:=[]
 xe:=fun e s'=>wpAny (model P w) (A.deeper (envOfC qual scope s.heap.objs.size f cd)) (leaving (envOfC qual scope s.heap.objs.size f cd) e) (fun _ s''=>CX outer H s E e s'') (fun e' s''=>CX outer H s E e' s'') s'
theorem l9 {sc:Scope}{n:Nat}{x:Str} (h:sc.names.lookup x=some .cell):∃c,(cellsFrom n sc.names []).lookup x=some c:=by
 have q:=PySem.W.cellsFrom_some sc.names n [] (.inl h)
 exact Option.isSome_iff_exists.mp q
theorem qa {CX:fO}{P:Program}{w:World}{K:PySem.W.Frag}{mg:Str→Option Value}{base:Heap}{N ps:List Str}{qual:Str}{scope:Scope}{f:Addr}{cd:Value}{A:Around}{outer:List Env}{s s1:Shared}{H:Hp}{E:XK}{us:List Value}{vs:List V}
 (S:aQ N ps scope) (hd:A.handled=none) (e0:oU P w K mg base A outer s H) (hl:vs.length=ps.length) (r:aw vs us)
 (x:InCallC s s.heap.objs.size (bindL (envOfC qual scope s.heap.objs.size f cd).kindOf (ps.zip us) fun _=>none) (cellsFrom (s.heap.objs.size+1) scope.names []) (bindC (envOfC qual scope s.heap.objs.size f cd).kindOf (ps.zip us) fun _=>none) s1) :
 aa (iX CX P w K mg base N qual scope f cd A outer s H E) [] (fI N vs) H s1:=by
 have hpl:ps.length≤N.length:=by have:=congrArg List.length S.pre;rw [List.length_take] at this;trivial
 obtain ⟨h1,tk,rfl,hk⟩:=x.done
 have noA:∀b:Addr,b∉(iX CX P w K mg base N qual scope f cd A outer s H E).ex:=fun b z=>absurd (show b∈([]:List Addr) from z) (by simp)
 refine ⟨⟨e0.mod,S.kind,rfl,rfl,Nat.le_refl _,fun y z c h1 h2=>?_,fun y hy=>?_,fun y c _ h=>?_,fun _=>hd,Around.frames_deeper e0.frames,.inr ⟨rfl,rfl⟩,fun b z=>absurd z (noA b),e0.bs,e0.bsz,fun b _ _=>noA b,fun b z=>absurd z (noA b),e0.funs,e0.frf⟩,
  rfl,e0.bare,Un.kept hk,⟨_,x.toInCall.ns,fun i y v h1 h2 h3=>?_⟩,fun y c h=>⟨_,x.cell y c h⟩,e0.hok.fresh (Nat.le_refl _),fun y c h=>?_,fun p hp=>absurd (show p∈([]:List (Addr×Obj)) from hp) (by simp),e0.hok.kept hk,?_⟩
 ·exact name_of_addr x.apart (PySem.mem_of_lookup h1) (PySem.mem_of_lookup h2)
 ·have hy:scope.names.lookup y=some .cell∨scope.names.lookup y=some .free:=hy
  rcases hy with hy | hy
  ·exact l9 hy
  ·exact absurd rfl (S.nofree _ (PySem.mem_of_lookup hy))
 ·exact Nat.le_of_lt (x.above y c (PySem.mem_of_lookup h))
 ·have hi:i<vs.length:=by
   unfold fI at h2
   by_cases hi:i<vs.length
   ·exact hi
   ·rw [List.getElem?_append_right (by simpa using hi)] at h2
    rw [List.getElem?_replicate] at h2
    split at h2 <;> cases h2
  have ha:vs[i]?=some v:=by
   unfold fI at h2
   rw [List.getElem?_append_left (by simpa using hi),List.getElem?_map] at h2
   cases e:vs[i]? with
   | none=>rw [e] at h2;cases h2
   | some a=>rw [e] at h2;cases h2;rfl
  obtain ⟨u,hu,rv⟩:=r.get ha
  have hp:ps[i]?=some y:=by
   rw [←S.pre,List.getElem?_take_of_lt (by trivial)];exact h1
  have ndP:ps.Nodup:=by rw [←S.pre];exact S.nd.sublist (List.take_sublist _ _)
  refine ⟨u,rv,?_⟩
  rcases S.par y (List.mem_of_getElem? hp) with k | k
  ·exact .inl ⟨k,k6 ndP hp hu k⟩
  ·obtain ⟨c,e⟩:=l9 (n:=s.heap.objs.size+1) k
   refine .inr ⟨.inl k,c,e,?_⟩
   have q:=x.cell y c e
   rw [lE ndP hp hu (by show scope.names.lookup y≠_;rw [k];decide)] at q
   exact q
 ·exact e0.hok.fresh (Nat.le_of_lt (x.above y c (PySem.mem_of_lookup h)))
 ·unfold fI
  show _=N.length
  rw [List.length_append,List.length_map,List.length_replicate]
  trivial
theorem rP {CX:fO}{P:Program}{w:World}{K:PySem.W.Frag}{mg:Str→Option Value}{base:Heap}{k:Nat}{f:Addr}{name qual:Str}{params:Arguments}{body:List Stmt}{scope:Scope}{dV kV doc pm cdv ct oc:Value}{an od:Option Addr}
 {osl:Array (Option Value)}{N ps:List Str}{sp:Sp} (lk:K.lookup f=some ⟨oc,od,.func (PySem.W.fnOf name qual params body scope dV kV doc pm an cdv ct),osl⟩) (hcd:PySem.W.codeIn K cdv qual=true) (S:aQ N ps scope)
 (len:∀vs H Q E,sp vs H Q E→vs.length=ps.length)
 (hbody:∀(A:Around) (outer:List Env) (s:Shared) (H:Hp) (vs:List V) (Q:VK) (E:XK),cM k (A.deeper (envOfC qual scope s.heap.objs.size f cdv))→sp vs H Q E→
  ∃t,fZ (iX CX P w K mg base N qual scope f cdv A outer s H E) body t∧t { nx:=fun _ H'=>Q .non H',rt:=Q } (fI N vs) H) :
 bv P w K mg base CX (k+1) f (PySem.W.fnOf name qual params body scope dV kV doc pm an cdv ct) ps sp:=by
 refine ⟨len,fun A outer s H args us vs Q E hr e0 hb r hsp=>?_⟩
 have hl:=len _ _ _ _ hsp
 have KX:K.In s.heap:=e0.mod.kin.keeps fun b o e=>(e0.bs b o e).1
 have lim:s.heap.NoLimit:=e0.mod.nolimit.keeps fun b o e=>(e0.bs b o e).1
 have hkind:∀y∈ps.zip us,scope.names.lookup y.1=some .local∨(scope.names.lookup y.1=some .cell∧((cellsFrom (s.heap.objs.size+1) scope.names []).lookup y.1).isSome=true):=fun ⟨n,v⟩ hy=>by
  rcases S.par n (List.of_mem_zip hy).1 with q | q
  ·exact .inl q
  ·exact .inr ⟨q,PySem.W.cellsFrom_some _ _ _ (.inl q)⟩
 refine codeAny_call_function hr.depth (KX _ _ lk) rfl S.co S.gen rfl (PySem.W.codeRec_of KX hcd) (hb _ _ _ _ ?_)
 refine wpAny_newFunctionEnv_cells S.kind hkind fun env he s1 x=>?_
 subst he
 refine ⟨lim.keeps x.toInCall.keep,codeAny_func ?_⟩
 obtain ⟨t,ht,hq⟩:=hbody A outer s H vs Q E (hr.deeper _) hsp
 have I:aa (iX CX P w K mg base N qual scope f cdv A outer s H E) [] (fI N vs) H s1:=qa S hr.hd e0 hl r x
 refine wpAny_mono (ht [] s1 (fI N vs) H _ I hq) (fun fl s' hs=>?_) fun e s' hs=>hs
 have fin:∀{σ':St}{H':Hp}{v:V}{u:Value},aa (iX CX P w K mg base N qual scope f cdv A outer s H E) [] σ' H' s'→aM v u→Q v H'→CE outer P w H s Q u s':=
  fun {σ' H' v u} J rv q=>⟨v,H',J.os,J.bare,J.base,J.hok,rv,q⟩
 cases fl with
 | ret u=>
  obtain ⟨v,σ',H',J,rv,q⟩:=hs
  exact fin J rv q
 | next=>
  obtain ⟨σ',H',J,q⟩:=hs
  exact fin (v:=V.non) (u:=Value.none) J rfl q
 | brk=>
  obtain ⟨_,_,_,q⟩:=hs
  exact False.elim q
 | cont=>
  obtain ⟨_,_,_,q⟩:=hs
  exact False.elim q
end L2
namespace L2
open PySem PySem.Spec PyProof.Rows
section
variable {X:Cx}{x:Str}{p pos:Pos}{e:Expr}{es:List Expr}{t:TA}{id T:String}{r:List V→Hp→VK→Prop}
def rT (r:List V→Hp→VK→Prop) (t:TA):TE:=fun σ H Q=>t σ H fun vs H1=>r vs H1 Q
theorem cP (hc:bE X (.builtin id) r) (hg:Gl X x) (hm:X.mg x=none) (hv:bootBuiltins x=some (.builtin id)) (ha:PA X (e :: es) t) (hn:x≠"__name__" := by decide) (hdb:(x==("__debug__" : Str))=false:=by decide)
 (he:starEach (e :: es) X.env=(false,eval e X.env) :: starEach es X.env:=by rfl) (hpl:(backTo pos (starEach es X.env)).any (·.1)=false:=by rfl):PE X (.Call (.Name x p) (e :: es) [] pos) (rT r t):=by
 intro pins s σ H Q I h
 refine wpAny_Call_Name_kw (hZ I hg hm hv ?_ hn hdb)
 exact PyProof.Rows.callWith_builtin1 (aA (ha pos pins s σ H _ I h) fun us s1 ⟨vs,H1,I1,r1,q1⟩=>hc pins s1 σ H1 vs us Q I1 r1 q1) he hpl
theorem bD (hc:bE X (.type T) r) (hg:Gl X x) (hm:X.mg x=none) (hv:bootBuiltins x=some (.type T)) (ha:PA X (e :: es) t) (hn:x≠"__name__" := by decide) (hdb:(x==("__debug__" : Str))=false:=by decide)
 (he:starEach (e :: es) X.env=(false,eval e X.env) :: starEach es X.env:=by rfl) (hpl:(backTo pos (starEach es X.env)).any (·.1)=false:=by rfl):PE X (.Call (.Name x p) (e :: es) [] pos) (rT r t):=by
 intro pins s σ H Q I h
 refine wpAny_Call_Name_kw (hZ I hg hm hv ?_ hn hdb)
 exact PyProof.Rows.callWith_type1 (aA (ha pos pins s σ H _ I h) fun us s1 ⟨vs,H1,I1,r1,q1⟩=>hc pins s1 σ H1 vs us Q I1 r1 q1) he hpl
end
end L2
namespace HT
open PySem PyProof.Rows
section
open PySem.SeqAt
open PySem.AutoSeq1 (wpAny_loadPart')
open PySem.MeetsSeq PySem.MeetsSeq2 PySem.MeetsSeq3
end
section
variable {prog:Program}{w:World}{A:Around}{E:Value→Shared→Prop}{s:Shared}
def sIx (n d:Nat):Option Int→Nat
 | none=>d
 | some v=>if v<0 then (v+(n:Int)).toNat else min v.toNat n
theorem sIx_none (n d:Nat):sIx n d none=d:=rfl
theorem sIx_nat (n d k:Nat):sIx n d (some (k:Int))=min k n:=by
 show (if (k:Int)<0 then ((k:Int)+(n:Int)).toNat else min (k:Int).toNat n)=min k n
 rw [if_neg (by trivial),Int.toNat_natCast]
theorem oK {v:Value}{o:Option Int}{Q:Option Int→Shared→Prop} (p:IsPart v o) (h:Q o s):wpAny (model prog w) A (Builtin.Slice.slicePartIndex v) Q E s:=by
 cases p with
 | none=>exact slicePart_none h
 | int i t=>exact slicePart_int h
end
end HT
namespace L2
open PySem PySem.Spec PyProof.Rows
abbrev TO:=St→Hp→(Option Int→Hp→Prop)→Prop
def PO (X:Cx) (e:Option Expr) (t:TO):Prop:=
 ∀(pins:List (Addr×Obj)) (s:Shared) (σ:St) (H:Hp) (Q:Option Int→Hp→Prop),aa X pins σ H s→t σ H Q→
   wpAny (model X.prog X.w) X.A (evalPart e X.env) (fun u s'=>aX fun o H'=>aa X pins σ H' s'∧IsPart u o∧Q o H') X.xe s
def sZ:TO:=fun _ H Q=>Q none H
def wn (t:TE):TO:=fun σ H Q=>t σ H fun x H1=>uL x fun i=>Q (some i) H1
section
variable {X:Cx}{e:Expr}{te:TE}{lo hi:Option Expr}{tl th:TO}{pos p2:Pos}
theorem ej:PO X none sZ:=by
 intro pins s σ H Q I h
 rw [evalPart_none]
 exact wpAny_pure ⟨none,H,I,.none,h⟩
theorem b5 (h:PE X e te):PO X (some e) (wn te):=by
 intro pins s σ H Q I hw
 rw [evalPart_some]
 refine aA (h pins s σ H _ I hw) fun u s1 ⟨x,H1,I1,r1,q1⟩=>?_
 obtain ⟨i,rfl,q⟩:=q1
 obtain ⟨t,rfl⟩:=r1
 exact ⟨some i,H1,I1,.int i t,q⟩
def qj (X:Cx) (r:V→Option Int→Option Int→Hp→VK→Prop):Prop:=
 ∀(pins:List (Addr×Obj)) (s:Shared) (σ:St) (H:Hp) (x:V) (v vl vu:Value) (lo hi:Option Int) (sl:Addr) (Q:VK),aa X pins σ H s→aM x v→s.heap.IsSliceOf sl vl vu .none→IsPart vl lo→IsPart vu hi→r x lo hi H Q→
   aX fun T id=>typeLookup (.type T) "__getitem__" = pure (some (.builtin id))∧s.TypeIs v T∧wpAny (model X.prog X.w) X.A (getItem v (.ref sl)) (EP X pins σ Q) X.xe s
def x2 (r:V→Option Int→Option Int→Hp→VK→Prop) (te:TE) (tl th:TO):TE:=fun σ H Q=>te σ H fun x H1=>tl σ H1 fun l H2=>th σ H2 fun u H3=>r x l u H3 Q
theorem cK {r:V→Option Int→Option Int→Hp→VK→Prop} (hr:qj X r) (he:PE X e te) (hl:PO X lo tl) (hu:PO X hi th):PE X (.Subscript e (.Slice lo hi none p2) pos) (x2 r te tl th):=by
 intro pins s σ H Q I h
 refine Subscript_ (aA (he pins s σ H _ I h) fun v s1 ⟨x,H1,I1,r1,q1⟩=>?_)
 refine wpAny_Slice (aA (hl pins s1 σ H1 _ I1 q1) fun vl s2 ⟨l,H2,I2,pl,q2⟩=>aA (hu pins s2 σ H2 _ I2 q2) fun vu s3 ⟨u,H3,I3,pu,q3⟩=>?_)
 rw [evalPart_none]
 refine wpAny_pure ?_
 have I4:aa X pins σ H3 { s3 with heap:=s3.heap.push { cls:=.type "slice",data:=.fields #[vl,vu,.none] } }:=I3.kept (t':=s3.toks) fun b ob q=>Heap.get?_push_of_some _ q
 obtain ⟨T,id,hT,ht,hg⟩:=hr pins { s3 with heap:=s3.heap.push { cls:=.type "slice",data:=.fields #[vl,vu,.none] } } σ H3 x v vl vu l u s3.heap.objs.size Q I4 r1 (Heap.IsSliceOf.new ..) pl pu q3
 show wpAny (model X.prog X.w) X.A (subscriptTail e (.Slice lo hi none p2) v (.ref s3.heap.objs.size)) (EP X pins σ Q) X.xe { s3 with heap:=s3.heap.push { cls:=.type "slice",data:=.fields #[vl,vu,.none] } }
 exact tail_any (ops:=[.ref s3.heap.objs.size,v]) ht hT hg (by with_unfolding_all rfl)
def ir (xs:List V) (lo hi:Option Int):List V:=(xs.drop (HT.sIx xs.length 0 lo)).take (HT.sIx xs.length xs.length hi - HT.sIx xs.length 0 lo)
theorem nh (xs:List V) (lo hi:Option Int):(ir xs lo hi).length≤xs.length:=by
 unfold ir
 rw [List.length_take,List.length_drop]
 exact Nat.le_trans (Nat.min_le_right ..) (Nat.sub_le ..)
end
def jK (n:Nat) (i:Int):Option Nat:=if 0≤i then (if i<n then some i.toNat else none) else if -(n:Int)≤i then some (i+n).toNat else none
def e8 {α:Type} (xs:List α) (i:Int):Option α:=(jK xs.length i).bind fun j=>xs[j]?
theorem nX {n:Nat}{i:Int}{j:Nat} (h:jK n i=some j):seqIndex? i n=some j∧j<n∧-(n:Int)≤i∧i<n:=by
 unfold jK at h
 by_cases h0:0≤i
 ·rw [if_pos h0] at h
  by_cases h1:i<n
  ·rw [if_pos h1] at h
   have e:i.toNat=j:=Option.some.inj h
   exact ⟨by rw [seqIndex_of h0 h1,e],by trivial,by trivial,h1⟩
  ·rw [if_neg h1] at h;cases h
 ·rw [if_neg h0] at h
  by_cases h1:-(n:Int)≤i
  ·rw [if_pos h1] at h
   have e:(i+n).toNat=j:=Option.some.inj h
   exact ⟨by rw [seqIndex_neg (by trivial) h1,e],by trivial,h1,by trivial⟩
  ·rw [if_neg h1] at h;cases h
theorem kN {α:Type}{xs:List α}{i:Int}{v:α} (h:e8 xs i=some v):∃j,seqIndex? i xs.length=some j∧xs[j]?=some v∧j<xs.length∧-(xs.length:Int)≤i∧i<xs.length:=by
 unfold e8 at h
 cases e:jK xs.length i with
 | none=>rw [e] at h;cases h
 | some j=>
  rw [e] at h
  obtain ⟨h1,h2,h3,h4⟩:=nX e
  exact ⟨j,h1,h,h2,h3,h4⟩
theorem fD {α:Type}{xs:List α}{j:Nat}{v:α} (h:xs[j]?=some v):e8 xs (j:Int)=some v:=by
 have hj:j<xs.length:=(List.getElem?_eq_some_iff.mp h).1
 have e:jK xs.length (j:Int)=some j:=by
  unfold jK
  rw [if_pos (by trivial),if_pos (by trivial)];simp
 unfold e8;rw [e];exact h
def sH (b:Expr):Prop:=∀o i,subscripted b false o i=operate [o,i] (getItem o i)
def iU (X:Cx) (r:R2):Prop:=
 ∀(value slice:Expr) (pins:List (Addr×Obj)) (s:Shared) (σ:St) (H:Hp) (x y:V) (v u:Value) (Q:VK),aa X pins σ H s→aM x v→aM y u→r x y H Q→
   subscripted slice false v u=operate [v,u] (getItem v u)→wpAny (model X.prog X.w) X.A (subscriptTail value slice v u) (EP X pins σ Q) X.xe s
def lu (X:Cx) (id:String) (r:V→List V→Hp→VK→Prop):Prop:=
 ∀(pins:List (Addr×Obj)) (s:Shared) (σ:St) (H:Hp) (x:V) (xs:List V) (v:Value) (us:List Value) (Q:VK),aa X pins σ H s→aM x v→aw xs us→r x xs H Q→
   wpAny (model X.prog X.w) X.A (call (.builtin id) (v :: us)) (EP X pins σ Q) X.xe s
section
variable {X:Cx}{a b:Expr}{ta tb:TE}{pos:Pos}
theorem iU.or {r r':R2} (h:iU X r) (h':iU X r'):iU X (fun x y H Q=>r x y H Q∨r' x y H Q):=by
 intro value slice pins s σ H x y v u Q I rx ry q hs
 rcases q with q | q
 ·exact h value slice pins s σ H x y v u Q I rx ry q hs
 ·exact h' value slice pins s σ H x y v u Q I rx ry q hs
theorem dE {r:R2} (hr:iU X r) (ha:PE X a ta) (hb:PE X b tb) (hs:sH b):PE X (.Subscript a b pos) (rQ r ta tb):=by
 intro pins s σ H Q I h
 exact Subscript_ (qx ha hb I h fun v u s2 x y H2 I2 rx ry q=>hr a b pins s2 σ H2 x y v u Q I2 rx ry q (hs _ _))
inductive vW (K:PySem.W.Frag) (x:V) (y:V) (H:Hp) (Q:VK):Prop
 | mk (p:_) (xs:_) (i:_) (v:_) (h0:x=.ref p) (h1:y=.int i) (h2:aD K H p xs) (h3:e8 xs i=some v) (h4:Q v H)
def qF (K:PySem.W.Frag):R2:=fun x y H Q=>vW K x y H Q
inductive wN (K:PySem.W.Frag) (x:V) (y:V) (H:Hp) (Q:VK):Prop
 | mk (p:_) (xs:_) (i:_) (v:_) (h0:x=.ref p) (h1:y=.int i) (h2:bq K H p xs) (h3:e8 xs i=some v) (h4:Q v H)
def ql (K:PySem.W.Frag):R2:=fun x y H Q=>wN K x y H Q
inductive vZ (x:V) (y:V) (H:Hp) (Q:VK):Prop
 | mk (z:_) (i:_) (c:_) (h0:x=.str z) (h1:y=.int i) (h2:z.length≤sizeLine) (h3:e8 z.cps.toList i=some c) (h4:Q (.str ⟨#[c]⟩) H)
def vv:R2:=fun x y H Q=>vZ  x y H Q
theorem nZ:iU X (qF X.K):=by
 intro value slice pins s σ H x y v u Q I rx ry h hs
 obtain ⟨p,xs,i,z,rfl,rfl,hq,he,q⟩:=h
 cases rx
 obtain ⟨t,rfl⟩:=ry
 obtain ⟨its,r,pl,hz⟩:=I.list hq
 obtain ⟨j,h1,h2,h3,h4,h5⟩:=kN he
 obtain ⟨w,ew,rw'⟩:=r.get h2
 have hl:=r.length
 have hn:=iS
 have fin:EP X pins σ Q w s:=⟨z,H,I,rw',q⟩
 by_cases h0:0≤i
 ·have hj:i.toNat=j:=by
   rw [seqIndex_of h0 h5] at h1
   exact Option.some.inj h1
  exact item_listR pl.isList h0 (by trivial) (by rw [hj];simpa using ew) fin hs
 ·have hj:(i+(its.toArray.size:Int)).toNat=j:=by
   rw [seqIndex_neg (by trivial) h4] at h1
   rw [List.size_toArray,←hl]
   exact Option.some.inj h1
  exact subscriptTail_builtinR (x:=w) pl.isList.typeIs slot_list_getitem.lookup
   (wpAny_getItem_list_neg (Q:=fun r s'=>r=w∧EP X pins σ Q r s') pl.isList (by trivial) (by rw [List.size_toArray] <;> trivial) (by trivial) (by rw [hj];simpa using ew) ⟨rfl,fin⟩) hs
theorem pr:iU X (ql X.K):=by
 intro value slice pins s σ H x y v u Q I rx ry h hs
 obtain ⟨p,xs,i,z,rfl,rfl,hq,he,q⟩:=h
 cases rx
 obtain ⟨t,rfl⟩:=ry
 obtain ⟨its,r,pl,hz⟩:=I.tuple hq
 obtain ⟨j,h1,h2,h3,h4,h5⟩:=kN he
 obtain ⟨w,ew,rw'⟩:=r.get h2
 have hl:=r.length
 have hn:=iS
 have fin:EP X pins σ Q w s:=⟨z,H,I,rw',q⟩
 exact subscriptTail_builtinR (x:=w) pl.typeIs slot_tuple_getitem.lookup
  (getItem_tuple (j:=j) (Q:=fun r s'=>r=w∧EP X pins σ Q r s') pl (by trivial) (by trivial) (by rw [List.size_toArray,←hl];exact h1) (by simpa using ew) ⟨rfl,fin⟩) hs
theorem kd:iU X vv:=by
 intro value slice pins s σ H x y v u Q I rx ry h hs
 obtain ⟨z,i,c,rfl,rfl,hz,he,q⟩:=h
 obtain ⟨t,rfl⟩:=rx
 obtain ⟨t',rfl⟩:=ry
 obtain ⟨j,h1,h2,h3,h4,h5⟩:=kN he
 have hl:z.cps.toList.length=z.length:=by simp [Str.length]
 rw [hl] at h1 h4 h5
 have hn:=iS
 exact tail_any (typeIs_str s z t) slot_str_getitem.lookup (getItem_str (c:=c) (by
  have e1:decide (i < -(2 ^ 63:Int))=false:=decide_eq_false (by trivial)
  have e2:decide (i≥2 ^ 63)=false:=decide_eq_false (by trivial)
  rw [e1,e2,Bool.or_false]) (by rw [h1];simpa using h2) ⟨.str ⟨#[c]⟩,H,I.tok _,⟨()⟩,q⟩) hs
def x3 (K:PySem.W.Frag):R2:=fun x y H Q=>qF K x y H Q∨ql K x y H Q∨vv x y H Q
theorem fK:iU X (x3 X.K):=nZ.or (pr.or kd)
theorem oI (its:List Value) (n j:Nat) (u:Value):Obj.mapSeq (·.setIfInBounds j u) { cls:=.type "list",data:=.seq its.toArray n }={ cls:=.type "list",data:=.seq (its.set j u).toArray n }:=by
 simp [Obj.mapSeq]
theorem aa.lst {pins:List (Addr×Obj)}{σ:St}{H:Hp}{s:Shared}{p:Addr}{xs:List V} (I:aa X pins σ H s) (h:H p=some (.lst xs)) :
 aX fun (its:List Value) (n:Nat)=>aw xs its∧s.heap.get? p=some { cls:=.type "list",data:=.seq its.toArray n }∧xs.length≤sizeLine:=by
 obtain ⟨z,its,n,r,e⟩:=I.hok p _ h
 exact ⟨its,n,r,e,z⟩
theorem aa.lstUpd {pins:List (Addr×Obj)}{σ:St}{H:Hp}{s:Shared}{p:Addr}{xs ys:List V}{its its':List Value}{n n':Nat}{f:Obj→Obj} (I:aa X pins σ H s) (h:H p=some (.lst xs))
 (ho:s.heap.get? p=some { cls:=.type "list",data:=.seq its.toArray n }) (hf:f { cls:=.type "list",data:=.seq its.toArray n }={ cls:=.type "list",data:=.seq its'.toArray n' }) (r:aw ys its') (hz:ys.length≤sizeLine) (t:Nat) :
 aa X pins σ (aI H p (.lst ys)) { s with heap:=s.heap.update p f,toks:=t }:=by
 have e:(s.heap.update p f).get? p=some { cls:=.type "list",data:=.seq its'.toArray n' }:=by
  rw [Heap.get?_update_self f ho (by rw [hf] <;> rfl),hf]
 refine I.write (x:=p) (e:=p) (by rw [h];trivial) (.inl rfl) (fun b u hb q=>(Heap.get?_update_other _ _ (Ne.symm hb)).trans q) ⟨_,e⟩ ?_
 exact ⟨hz,its',n',r,e⟩
inductive uY (o:V) (i:V) (v:V) (H:Hp) (Q:(Hp→Prop)):Prop
 | mk (p:_) (xs:_) (k:_) (j:_) (h0:o=.ref p) (h1:i=.int k) (h2:H p=some (.lst xs)) (h3:jK xs.length k=some j) (h4:Q (aI H p (.lst (xs.set j v))))
def wG:V→V→V→Hp→(Hp→Prop)→Prop:=fun o i v H Q=>uY  o i v H Q
theorem jQ:qJ X wG:=by
 intro pins s σ H o i v ov iv u Q I ro ri rv h
 obtain ⟨p,xs,k,j,rfl,rfl,hp,hj,q⟩:=h
 cases ro
 obtain ⟨t,rfl⟩:=ri
 obtain ⟨its,n,r,ho,hz⟩:=I.lst hp
 obtain ⟨h1,h2,h3,h4⟩:=nX hj
 have hl:=r.length
 have hn:=iS
 have I':aa X pins σ (aI H p (.lst (xs.set j v))) { s with heap:=s.heap.update p (Obj.mapSeq (·.setIfInBounds j u)) }:=
  I.lstUpd hp ho (oI its n j u) (r.set rv j) (by rw [List.length_set];exact hz) s.toks
 by_cases h0:0≤k
 ·have hk:k.toNat=j:=by
   rw [seqIndex_of h0 h4] at h1
   exact Option.some.inj h1
  exact PySem.W.ki_setAt ho h0 (by trivial) (by rw [List.size_toArray,←hl];exact h4) (by rw [hk];exact ⟨_,I',q⟩)
 ·have hk:(k+(its.toArray.size:Int)).toNat=j:=by
   rw [seqIndex_neg (by trivial) h3] at h1
   rw [List.size_toArray,←hl]
   exact Option.some.inj h1
  exact PySem.W.ki_setBack ho (by trivial) (by rw [List.size_toArray,←hl];exact h3) (by trivial) (by rw [hk];exact ⟨_,I',q⟩)
theorem mK (lo hi:Option Int) (n:Nat):(sliceBounds lo hi none n).1=((HT.sIx n 0 lo:Nat):Int)∧(sliceBounds lo hi none n).2.1=((HT.sIx n n hi:Nat):Int)∧(sliceBounds lo hi none n).2.2=1:=by
 refine ⟨?_,?_,rfl⟩
 ·cases lo with
  | none=>simp [sliceBounds,HT.sIx]
  | some i=>
   simp only [sliceBounds,HT.sIx,Option.getD_none,show (1:Int) > 0 by decide,if_true]
   by_cases h:i<0
   ·simp only [h,if_true] <;> trivial
   ·simp only [h,if_false] <;> trivial
 ·cases hi with
  | none=>simp [sliceBounds,HT.sIx]
  | some i=>
   simp only [sliceBounds,HT.sIx,Option.getD_none,show (1:Int) > 0 by decide,if_true]
   by_cases h:i<0
   ·simp only [h,if_true] <;> trivial
   ·simp only [h,if_false] <;> trivial
theorem lJ (its:List Value) (lo hi:Option Int):slicePick its.toArray lo hi none=((its.drop (HT.sIx its.length 0 lo)).take (HT.sIx its.length its.length hi - HT.sIx its.length 0 lo)).toArray:=by
 obtain ⟨h1,h2,h3⟩:=mK lo hi its.toArray.size
 unfold slicePick
 rw [h1,h2,h3]
 simp only [sliceRange_one,pick_run,List.size_toArray] <;> rfl
inductive wj (K:PySem.W.Frag) (x:V) (lo:Option Int) (hi:Option Int) (H:Hp) (Q:VK):Prop
 | mk (a:_) (xs:_) (h0:x=.ref a) (h1:aD K H a xs) (h2:∀p,H p=none→Q (.ref p) (aI H p (.lst (ir xs lo hi))))
def xF (K:PySem.W.Frag):V→Option Int→Option Int→Hp→VK→Prop:=fun x lo hi H Q=>wj K x lo hi H Q
theorem sX:qj X (xF X.K):=by
 intro pins s σ H x v vl vu lo hi sl Q I rx hs pl pu h
 obtain ⟨a,xs,rfl,hx,q⟩:=h
 cases rx
 obtain ⟨its,r,ht,hz⟩:=I.list hx
 have hlen:=r.length
 refine ⟨"list",_,slot_list_getitem.lookup,ht.isList.typeIs,?_⟩
 refine wpAny_getItem_list_slice ht.isList hs pl pu .none (by simp) ?_ (by rw [List.size_toArray] <;> trivial)
 rw [lJ,←hlen]
 refine ⟨.ref s.heap.objs.size,_,I.laid (t':=s.toks) (o:=.lst (ir xs lo hi)) (fun b ob q=>Heap.get?_push_of_some _ q) (Nat.le_refl _) ?_,rfl,q _ (I.hok.fresh (Nat.le_refl _))⟩
 exact ⟨Nat.le_trans (nh xs lo hi) hz,_,0,(r.drop (HT.sIx xs.length 0 lo)).take (HT.sIx xs.length xs.length hi - HT.sIx xs.length 0 lo),Heap.get?_push_size _ rfl⟩
theorem gD:bE X (.builtin "len") (fun xs H Q=>aX fun p ys=>xs=[.ref p]∧(aD X.K H p ys∨bq X.K H p ys)∧Q (.int ys.length) H):=by
 intro pins s σ H xs us Q I r h
 obtain ⟨p,ys,rfl,hq,q⟩:=h
 obtain ⟨u,rfl,rx⟩:=gN r
 cases rx
 have hn:=iS
 rcases hq with hq | hq
 ·obtain ⟨its,r',pl,hz⟩:=I.list hq
  have hlen:=r'.length
  exact Calls.call_len_list pl.isList (by simp only [List.size_toArray] <;> trivial) ⟨.int ys.length,H,I.tok _,⟨s.toks+1,by rw [List.size_toArray,hlen]⟩,q⟩
 ·obtain ⟨its,r',pl,hz⟩:=I.tuple hq
  have hlen:=r'.length
  exact len_tuple pl (by simp only [List.size_toArray] <;> trivial) ⟨.int ys.length,H,I.tok _,⟨s.toks+1,by rw [List.size_toArray,hlen]⟩,q⟩
theorem mJ:bE X (.type "list") (fun xs H Q=>aX fun p ys=>xs=[.ref p]∧(aD X.K H p ys∨bq X.K H p ys)∧∀l,H l=none→Q (.ref l) (aI H l (.lst ys))):=by
 intro pins s σ H xs us Q I r h
 obtain ⟨p,ys,rfl,hq,q⟩:=h
 obtain ⟨u,rfl,rx⟩:=gN r
 cases rx
 have fin:∀(its:List Value),aw ys its→ys.length≤sizeLine→∀(h':Heap) (c':Nat),(∀b o',s.heap.get? b=some o'→h'.get? b=some o')→
  h'.get? s.heap.objs.size=some { cls:=.type "list",dict:=none,data:=.seq its.toArray c',slots:=#[] }→EP X pins σ Q (.ref s.heap.objs.size) { s with heap:=h' }:=fun its r' hz h' c' kp e=>
  ⟨.ref s.heap.objs.size,_,I.laid (t':=s.toks) kp (Nat.le_refl _) (show aW X.prog X.w _ h' _ (.lst ys) from ⟨hz,its,c',r',e⟩),rfl,q _ (I.hok.fresh (Nat.le_refl _))⟩
 rcases hq with hq | hq
 ·obtain ⟨its,r',pl,hz⟩:=I.list hq
  have hlen:=r'.length
  obtain ⟨o,ho,hc,n,hd⟩:=pl.isList
  exact call_list_seq p (.inl rfl) ho hc hd (fun h' c' kp e=>fin its r' hz h' c' kp e) (by simp only [List.size_toArray] <;> trivial)
 ·obtain ⟨its,r',pl,hz⟩:=I.tuple hq
  have hlen:=r'.length
  obtain ⟨o,ho,hc,n,hd⟩:=pl
  exact call_list_seq p (.inr rfl) ho hc hd (fun h' c' kp e=>fin its r' hz h' c' kp e) (by simp only [List.size_toArray] <;> trivial)
def xa (K:PySem.W.Frag) (T:String) (x:V) (H:Hp):Prop:=match x with
 | .str _=>T = "str"
 | .int _=>T = "int"
 | .ref p=>(T = "list"∧∃xs,aD K H p xs)∨(T = "tuple"∧∃o,K.lookup p=some o∧o.cls=.type "tuple"∧o.dict=none)∨
  (T = "dict"∧((∃kvs,H p=some (.dK kvs))∨∃kvs,H p=some (.dT kvs)))∨(T = "set"∧aX fun S n=>H p=some (.set S n))
 | _=>False
theorem vq {pins:List (Addr×Obj)}{σ:St}{H:Hp}{s:Shared}{T:String}{x:V}{v:Value} (I:aa X pins σ H s) (r:aM x v) (ty:xa X.K T x H) :
 s.TypeIs v T∧∀a,v=.ref a→∃ob,s.heap.get? a=some ob∧ob.dict=none:=by
 cases x with
 | str z=>
  obtain ⟨t,rfl⟩:=r
  cases (show T = "str" from ty)
  exact ⟨typeIs_str s z t,fun _ e=>nomatch e⟩
 | int i=>
  obtain ⟨t,rfl⟩:=r
  cases (show T = "int" from ty)
  exact ⟨typeIs_int s i t,fun _ e=>nomatch e⟩
 | ref p=>
  cases r
  rcases ty with ⟨rfl,xs,hq⟩ | ⟨rfl,o,hk,hc,hd⟩ | ⟨rfl,hk⟩ | ⟨rfl,S,n,hk⟩
  ·obtain ⟨its,_,pl,_⟩:=I.list hq
   refine ⟨pl.isList.typeIs,fun a e=>?_⟩
   cases e
   obtain ⟨o,n,e,c,hd,_⟩:=pl
   exact ⟨o,e,hd⟩
  ·refine ⟨⟨o,I.kIn p o hk,hc⟩,fun a e=>?_⟩
   cases e
   exact ⟨o,I.kIn _ o hk,hd⟩
  ·have z:∃o,s.heap.get? p=some o∧o.ExactDict:=by
    rcases hk with ⟨kvs,hk⟩ | ⟨kvs,hk⟩
    ·obtain ⟨_,_,_,_,o,_,_,e,ex,_⟩:=I.hok p _ hk
     exact ⟨o,e,ex⟩
    ·obtain ⟨_,_,_,_,o,_,_,e,ex,_⟩:=I.hok p _ hk
     exact ⟨o,e,ex⟩
   obtain ⟨o,e,ex⟩:=z
   refine ⟨⟨o,e,ex.1⟩,fun a e2=>?_⟩
   cases e2
   exact ⟨o,e,ex.2.1⟩
  ·obtain ⟨o,_,_,_,e,ex,_⟩:=I.hok p _ hk
   refine ⟨⟨o,e,ex.1⟩,fun a e2=>?_⟩
   cases e2
   exact ⟨o,e,ex.2.1⟩
 | _=>exact False.elim ty
def wZ (K:PySem.W.Frag) (T:String) (r:V→List V→Hp→VK→Prop) (to:TE) (t:TA):TE:=fun σ H Q=>to σ H fun x H1=>xa K T x H1∧t σ H1 fun xs H2=>r x xs H2 Q
variable {o e:Expr}{es:List Expr}{to:TE}{t:TA}{name:Str}{apos cpos:Pos}{T id:String}{r:V→List V→Hp→VK→Prop}
theorem wq (pa:PlainAttrs T) (slot:Slot T name id) (hty:typeOf (.builtin id)=pure (.type "method_descriptor")) (hm:lu X id r) (ho:PE X o to) (ha:PA X (e :: es) t)
 (hbase:attributeBase o name X.env (eval o X.env)=eval o X.env:=by rfl)
 (hfew:((backTo cpos (starEach (e :: es) X.env)).all (fun x=>!x.1) && (backToKw cpos (keywordEach [] X.env)).all (fun x=>x.1.isSome)
  && decide ((e :: es).length+([]:List Keyword).length+(if ([]:List Keyword).isEmpty then 0 else 1)<30))=true:=by rfl)
 (hline:(apos.endLine==cpos.line)=true:=by rfl) (hs:starEach (e :: es) X.env=(false,eval e X.env) :: starEach es X.env:=by rfl) (hplain:(backTo cpos (starEach es X.env)).any (·.1)=false:=by rfl) :
 PE X (.Call (.Attribute o name apos) (e :: es) [] cpos) (wZ X.K T r to t):=by
 intro pins s σ H Q I h
 refine wpAny_Call_method_late hbase hfew hline rfl (aA (ho pins s σ H _ I h) fun v s1 ⟨x,H1,I1,r1,ty,q1⟩=>?_)
 obtain ⟨h1,h2⟩:=vq I1 r1 ty
 refine ⟨T,id,pa,slot,hty,h1,h2,?_⟩
 have hA:=ha cpos pins s1 σ H1 _ I1 q1
 rw [hs] at hA ⊢
 refine Calls.callWith_builtin (by show (false || (backTo cpos (starEach es X.env)).any (·.1))=false;rw [hplain] <;> rfl) (Calls.evalArgs_plain ?_)
 exact aA hA fun us s2 ⟨vs,H2,I2,r2,q2⟩=>hm pins s2 σ H2 x vs v us Q I2 r1 r2 q2
/- xs.append(e), list.index on a module's tuple .. are lu facts of 06m -/
end
end L2
namespace L2
open PySem PySem.Spec PyProof.Rows
def wX (X:Cx) (id:String) (r:V→List V→Hp→VK→Prop):Prop:=
 ∀(pins:List (Addr×Obj)) (s:Shared) (σ:St) (H:Hp) (x:V) (xs:List V) (v:Value) (us:List Value) (Q:VK),aa X pins σ H s→aM x v→aw xs us→r x xs H Q→
   wpAny (model X.prog X.w) X.A (call (.builtin id) (v :: us)) (EP X pins σ Q) X.xe s
theorem Paired.un {α β:Type}{R:α→β→Prop}{x:α}{xs:List α}{us:List β} (h:Paired R (x :: xs) us):aX fun u vs=>us=u :: vs∧R x u∧Paired R xs vs:=by
 cases h with
 | cons r q=>exact ⟨_,_,rfl,r,q⟩
theorem Paired.un0 {α β:Type}{R:α→β→Prop}{us:List β} (h:Paired R [] us):us=[]:=by
 cases h with
 | nil=>rfl
theorem aw.one {x:V}{us:List Value} (h:aw [x] us):∃u,us=[u]∧aM x u:=by
 obtain ⟨u,vs,rfl,r,q⟩:=Paired.un h
 rw [Paired.un0 q]
 exact ⟨u,rfl,r⟩
theorem aw.two {x y:V}{us:List Value} (h:aw [x,y] us):aX fun u v=>us=[u,v]∧aM x u∧aM y v:=by
 obtain ⟨u,vs,rfl,r,q⟩:=Paired.un h
 obtain ⟨v,rfl,q2⟩:=aw.one q
 exact ⟨u,v,rfl,r,q2⟩
section
variable {X:Cx}{pins:List (Addr×Obj)}{σ:St}{H:Hp}{s:Shared}{l b:Addr}{xs ys zs:List V}
theorem aa.lset {its its':List Value}{n:Nat}{f:Array Value→Array Value}{t':Nat} (I:aa X pins σ H s) (hH:H l=some (.lst xs))
 (e:s.heap.get? l=some { cls:=.type "list",data:=.seq its.toArray n }) (hf:f its.toArray=its'.toArray) (hv:aw ys its') (hz:ys.length≤sizeLine) :
 aa X pins σ (aI H l (.lst ys)) { s with heap:=s.heap.update l (Obj.mapSeq f),toks:=t' }:=by
 have q:=PySem.IsL.update e f
 rw [hf] at q
 refine I.write (x:=l) (e:=l) (by rw [hH];exact trivial) (.inl rfl) (fun b' u hb hu=>(Heap.get?_update_other s.heap (Obj.mapSeq f) (Ne.symm hb)).trans hu) ⟨_,q⟩ ?_
 exact ⟨hz,its',_,hv,q⟩
theorem aa.lnew {its:List Value}{t':Nat} (I:aa X pins σ H s) (hv:aw ys its) (hz:ys.length≤sizeLine) :
 aa X pins σ (aI H s.heap.objs.size (.lst ys)) { s with heap:=s.heap.push { cls:=.type "list",data:=.seq its.toArray },toks:=t' }:=
 I.laid (fun _ _ q=>Heap.get?_push_of_some _ q) (Nat.le_refl _) ⟨hz,its,0,hv,Heap.get?_push_size _ rfl⟩
theorem aa.fresh (I:aa X pins σ H s):H s.heap.objs.size=none:=I.hok.fresh (Nat.le_refl _)
theorem aa.lstM (I:aa X pins σ H s) (hH:H l=some (.lst xs)):xs.length≤sizeLine∧aX fun (its:List Value) (n:Nat)=>aw xs its∧xs.length=its.length∧s.heap.get? l=some { cls:=.type "list",data:=.seq its.toArray n }:=by
 obtain ⟨z,its,n,r,e⟩:=I.hok l _ hH
 exact ⟨z,its,n,r,r.length,e⟩
end
section
variable {X:Cx}
inductive rg (x:V) (vs:List V) (H:Hp) (Q:VK):Prop
 | mk (l:_) (xs:_) (y:_) (h0:x=.ref l) (h1:vs=[y]) (h2:H l=some (.lst xs)) (h3:xs.length<sizeLine) (h4:Q .non (aI H l (.lst (xs++[y]))))
def sP:V→List V→Hp→VK→Prop:=fun x vs H Q=>rg  x vs H Q
theorem lg:wX X "list.append" sP:=by
 intro pins s σ H x vs v us Q I rx rv h
 obtain ⟨l,xs,y,rfl,rfl,hH,hz,q⟩:=h
 cases rx
 obtain ⟨u,rfl,ru⟩:=rv.one
 obtain ⟨z,its,n,r,hl,e⟩:=I.lstM hH
 refine call_meets F.slot_list_append ⟨_,e,rfl⟩ F.entry_list_append (F.args_list_append_2 _ _) (PySem.list_append l its.toArray n u (by rw [List.size_toArray];trivial)) ⟨e,?_⟩
 refine ⟨.non,_,I.lset (its':=its++[u]) hH e (by simp) (r.append (.cons ru .nil)) ?_,rfl,q⟩
 rw [List.length_append,List.length_singleton]
 trivial
inductive wb (x:V) (y:V) (H:Hp) (Q:VK):Prop
 | mk (l:_) (b:_) (xs:_) (zs:_) (h0:x=.ref l) (h1:y=.ref b) (h2:H l=some (.lst xs)) (h3:H b=some (.lst zs)) (h4:xs.length+zs.length≤sizeLine) (h5:∀p,H p=none→Q (.ref p) (aI H p (.lst (xs++zs))))
def xy:R2:=fun x y H Q=>wb  x y H Q
theorem uC:bZ X (binaryOp .Add) xy:=by
 intro pins s σ H x y v u Q I rx ry h
 obtain ⟨l,b,xs,zs,rfl,rfl,hH,hB,hz,q⟩:=h
 cases rx
 cases ry
 obtain ⟨z,its,n,r,hl,e⟩:=I.lstM hH
 obtain ⟨z2,its2,n2,r2,hl2,e2⟩:=I.lstM hB
 refine PySem.P.add_list e e2 ?_ (by rw [List.size_toArray,List.size_toArray];trivial)
 have ea:its.toArray++its2.toArray=(its++its2).toArray:=by simp
 rw [ea]
 exact ⟨.ref _,_,I.lnew (t':=s.toks) (r.append r2) (by rw [List.length_append];trivial),rfl,q _ I.fresh⟩
theorem sM {α:Type} (xs:List α) (k:Nat):(List.replicate k xs).flatten.length=k*xs.length:=by
 induction k with
 | zero=>simp
 | succ k ih=>rw [List.replicate_succ,List.flatten_cons,List.length_append,ih,Nat.succ_mul,Nat.add_comm]
end
section
variable {prog:Program}{w:World}{A:Around}{E:Value→Shared→Prop}{s:Shared}
set_option maxRecDepth 100000 in
end
section
variable {X:Cx}
end
end L2
namespace Att
open PySem PySem.W PySem.Calls PyProof.Rows
theorem j8 {P:Params}{h:Heap}:∀(ns:List Int) (vs:List Value),WellAll P h vs (ns.map WData.int)→IntsAre vs ns:=by
 intro ns
 induction ns with
 | nil=>
  intro vs w
  rw [List.map_nil] at w
  cases w
  exact .nil
 | cons n ns ih=>
  intro vs w
  rw [List.map_cons] at w
  cases w with
  | cons a b=>
   cases a
   exact .cons _ _ (ih _ b)
theorem pZ {l:OpenLaw}{n:Nat} (hn:l.most=some n) {P:Params}{h:Heap}{args:List WData}{vals:List Value}
 (hpre:l.row.toRowW.claim.pre args=true) (hwl:WellAll P h vals args) :
 ∃a vs ns,vals=[Value.ref a]∧args=[WData.list (ns.map WData.int)]∧h.get? a=some { cls:=.type "list",data:=.seq vs.toArray }∧IntsAre vs ns∧ns.length≤n:=by
 have hsh:WShape.hasAll [] args [.list .int]=true:=(pre_splitW hpre).1
 have hc:l.pre.holds [] { args:=args }=true:=(pre_splitW hpre).2
 obtain ⟨d,r,rfl,h1,h2⟩:=hasAllW_cons hsh
 obtain rfl:=hasAllW_nil h2
 obtain ⟨xs,rfl,h3⟩:=hasW_list h1
 obtain ⟨ns,rfl⟩:=items_int h3
 have hlen:ns.length≤n:=by
  unfold OpenLaw.pre at hc
  have h4:(WTm.not (.lt (.lit (.int (n:Int))) (.len (.arg 0)))).holds [] { args:=[.list (ns.map .int)] }=true:=by
   have h4:=(holds_andW hc).1
   rw [hn] at h4
   exact h4
  have h5:=condW_of h4 (w_not (w_lt w_lit (w_len_list (w_arg rfl))))
  rw [List.length_map] at h5
  refine Nat.le_of_not_lt fun q=>?_
  have q':(n:Int)<((ns.length:Nat):Int):=by trivial
  first
   | (rw [decide_eq_true q'] at h5;exact absurd h5 (by decide))
   | (simp at h5;trivial)
 cases hwl with
 | cons w1 w2=>
  cases w2
  cases w1 with
  | list ho hall=>exact ⟨_,_,ns,rfl,rfl,ho,j8 ns _ hall,hlen⟩
theorem o6 (l:OpenLaw) (args:List WData):l.row.toRowW.claim.post args (.bool true) args=true:=
 postW_of (r:=l.row.toRowW) (X:=(true==true))
  (show WShape.has [] (.bool true) .bool=true by first | rfl | decide | simp [WShape.has,WShape.arms,WShape.armsAll])
  (show (WTm.eq .res (.lit (.bool true))).value [] { args:=args,res:=some (.bool true),after:=args }=some (.bool (true==true)) from w_eq_bool (w_res rfl) w_lit) rfl
theorem attach_call {l:OpenLaw}{n:Nat}{q:Program}{loose:List Str}{XP:(Str→Option Value)→Heap→Prop}{YP:World→Heap→Prop}{d:DefRec}
 (hn:l.most=some n) (hdf:d.params.defaults=[])
 (call:∀(w:World) (s₀ s₁:Shared) (mg mb:Str→Option Value) (fa:Addr) (o:Obj) (pm cd doc:Value) (a:Addr) (vs:List Value) (ns:List Int),
  Ground q loose [] XP w s₀ mg mb s₁.heap→YP w s₁.heap→
  s₁.heap.get? fa=some o→o.data=.func (docDef d.name d.params d.body d.scope pm cd doc)→s₁.heap.CodeRec cd d.name→mg d.name=some (.ref fa)→
  s₁.heap.get? a=some { cls:=.type "list",data:=.seq vs.toArray }→IntsAre vs ns→ns.length≤n→s₁.gens=#[]→
  codeAny (model l.prog w) callerA (.call (.ref fa) ⟨[.ref a],[]⟩) (fun r s'=>r=.ok (.ret (.bool true))∧OldK s₁.heap s'.heap∧s'.os=s₁.os∧AllBare s'.gens) s₁) :
 WalkO q loose XP YP l.row.toRowW d [] (fun f vs=>PySem.call f vs):=by
 intro w s₀ s₁ mg mb G Y fa o pm cd doc dV kV ho hd hcd hD hmg hg args vals as hpre hlay hrd hwl hlo
 obtain rfl:dV=.none:=Dflts.none hD hdf
 obtain rfl:kV=.none:=Dflts.noKw hD
 obtain ⟨a,vs,ns,rfl,rfl,hobj,hints,hlen⟩:=pZ hn hpre hwl
 refine enter_call (codeAny_mono (call w s₀ s₁ mg mb fa o pm cd doc a vs ns G Y ho (fd_plain hd) hcd hmg hobj hints hlen hg) fun r s' hq=>?_)
 obtain ⟨rfl,h2,h3,h4⟩:=hq
 exact ⟨.inl ⟨.bool true,.bool true,[],rfl,fun _=>rfl,.bool true,o6 l _,fun _=>⟨List.Pairwise.nil,fun _ hm=>(nomatch hm)⟩⟩,h2,h3,h4⟩
section
variable {prog:Program}{w:World}{A:Around}{E:Value→Shared→Prop}{s:Shared}{K:Frag}
end
end Att
namespace L2
open PySem PySem.Spec PyProof.Rows
theorem k4:∀{vs:List Value}{ns:List Int},IntsAre vs ns→aw (ns.map V.int) vs
 | _,_,.nil=>.nil
 | _,_,.cons n t h=>.cons ⟨t,rfl⟩ (k4 h)
def kC (H:Hp):Prop:=∀b,H b=none∨aX fun o xs=>H b=some (.frz o (.lst xs))
theorem rd {P:Program}{w:World}{K:PySem.W.Frag}{mg mb:Str→Option Value}{CX:fO}{k:Nat}{fa a:Addr}{fd:FuncData}{x:Str}{sp:Sp}{s₁:Shared}{vs:List Value}{ns:List Int}
 (KX:K.In s₁.heap) (hns:s₁.heap.Ns mainGlobals mg) (hb:s₁.heap.Ns builtinsNs mb) (hbb:∀x:Str,x≠"__name__"→mb x=bootBuiltins x) (hlim:s₁.heap.NoLimit) (hg:s₁.gens=#[])
 (ha:s₁.heap.get? a=some { cls:=.type "list",data:=.seq vs.toArray }) (hi:IntsAre vs ns) (hl:ns.length≤sizeLine) (hr:cM k callerA)
 (F:∀base:Heap,K.In base→base.Ns mainGlobals mg→bv P w K mg base CX k fa fd [x] sp) (hbind:∀(s:Shared) (u:Value),BindsTo s fd ⟨[u],[]⟩ [(x,u)])
 (hsp:∀H:Hp,kC H→aD K H a (ns.map V.int)→sp [.ref a] H (fun v _=>v=.bl true) fun _ _ _=>False)
 (hCX:∀H e s',CX [] H s₁ (fun _ _ _=>False) e s'→False) :
 codeAny (model P w) callerA (.call (.ref fa) ⟨[.ref a],[]⟩) (fun r s'=>r=.ok (.ret (.bool true))∧OldK s₁.heap s'.heap∧s'.os=s₁.os∧AllBare s'.gens) s₁:=by
 have rv:=k4 hi
 have lenV:=hi.length
 have core:∀H:Hp,kC H→aD K H a (ns.map V.int)→cg P w H s₁.heap→(∀b,H b≠none→b=a)→(H a≠none→K.lookup a=none)→
  codeAny (model P w) callerA (.call (.ref fa) ⟨[.ref a],[]⟩) (fun r s'=>r=.ok (.ret (.bool true))∧OldK s₁.heap s'.heap∧s'.os=s₁.os∧AllBare s'.gens) s₁:=by
  intro H hO hS hok hA hK
  have base_of:∀{b:Addr}{o:Obj},s₁.heap.get? b=some o→H b=none→(iC s₁.heap H).get? b=some o:=fun e n=>qp e n
  have noA:∀{b:Addr}{o:Obj}{es:Array DictEntry}{ep:Nat},s₁.heap.get? b=some o→o.data=.dict es ep→H b=none:=fun {b o es ep} e d=>by
   cases q:H b with
   | none=>rfl
   | some u=>
    have e':b=a:=hA b (by rw [q];simp)
    subst e'
    rw [ha] at e;cases e
    have d':Data.seq vs.toArray _=Data.dict es ep:=d
    cases d'
  have nsK:∀{b:Addr}{m:Str→Option Value},s₁.heap.Ns b m→(iC s₁.heap H).Ns b m:=fun {b m} ⟨o,es,ep,e,d,r⟩=>⟨o,es,ep,base_of e (noA e d),d,r⟩
  have hKb:K.In (iC s₁.heap H):=fun b o e=>base_of (KX b o e) (by
   cases q:H b with
   | none=>rfl
   | some u=>
    have e':b=a:=hA b (by rw [q];simp)
    subst e'
    rw [hK (by rw [q];simp)] at e;cases e)
  have hM:Mod K mg (iC s₁.heap H):=⟨hKb,nsK hns,⟨mb,nsK hb,hbb⟩,let ⟨mc,h1,h2⟩:=hlim;⟨mc,nsK h1,h2⟩⟩
  have e0:oU P w K mg (iC s₁.heap H) callerA [] s₁ H:=⟨rfl,hM,fun b o e=>sC e,Nat.le_of_eq (ph _ _),trivial,fun b hb=>absurd (show b∈([]:List Addr) from hb) (by simp),hok,.of_eq hg⟩
  refine codeAny_mono ((F _ hKb (nsK hns)).run callerA [] s₁ H ⟨[.ref a],[]⟩ [.ref a] [.ref a] _ _ hr e0 (hbind s₁ (.ref a)) (.cons rfl .nil) (hsp H hO hS)) fun r s' h=>?_
  cases r with
  | error e=>exact (hCX H e s' h).elim
  | ok fl=>
   cases fl with
   | next=>exact False.elim h
   | brk=>exact False.elim h
   | cont=>exact False.elim h
   | ret u=>
    obtain ⟨v,H',os,bare,un,hok',r',q⟩:=h
    have q':v=.bl true:=q
    subst q'
    obtain rfl:u=Value.bool true:=r'
    refine ⟨rfl,OldK.of_keep fun b o e=>?_,os,bare⟩
    cases q:H b with
    | none=>exact un.keep b o e q (by intro z;exact absurd (show b∈([]:List Addr) from z) (by simp)) (by simp)
    | some u=>
     rcases hO b with z | ⟨ob,xs,z⟩
     ·rw [q] at z;cases z
     ·have z2:=un.frzs b ob _ z
      obtain ⟨e1,_⟩:=hok b _ z
      obtain ⟨e2,_⟩:=hok' b _ z2
      rw [e] at e1;cases e1
      exact e2
 cases hk:K.lookup a with
 | some o=>
  have e:=KX a o hk
  rw [ha] at e
  cases e
  refine core (fun _=>none) (fun _=>.inl rfl) (.inr ⟨_,vs.toArray,_,hk,rfl,rfl,rfl,by rw [List.size_toArray,lenV];exact hl,by simpa using rv⟩) (fun b u z=>by have z':(none:Option HO)=some u:=z;cases z') (fun b z=>absurd rfl z) fun z=>absurd rfl z
 | none=>
  refine core (fun b=>if b=a then some (.frz { cls:=.type "list",data:=.seq vs.toArray } (.lst (ns.map V.int))) else none) (fun b=>?_) (.inl (.inr ⟨{ cls:=.type "list",data:=.seq vs.toArray },if_pos rfl⟩)) (fun b u z=>?_) (fun b z=>?_) fun _=>hk
  ·by_cases hb:b=a
   ·exact .inr ⟨_,_,if_pos hb⟩
   ·exact .inl (if_neg hb)
  ·by_cases hb:b=a
   ·have z':=(if_pos hb).symm.trans z
    cases z'
    subst hb
    exact ⟨ha,by rw [List.length_map];exact hl,vs,_,rv,ha⟩
   ·have z':=(if_neg hb).symm.trans z
    cases z'
  ·by_cases hb:b=a
   ·exact hb
   ·exact absurd (if_neg hb) z
theorem walk_of {l:PySem.W.OpenLaw}{n k:Nat}{q:Program}{loose:List Str}{XP:(Str→Option Value)→Heap→Prop}{YP:World→Heap→Prop}{d:DefRec}{K:Params→PySem.W.Frag}{CX:World→fO}{sp:World→Sp}{x:Str}
 (hn:l.most=some n) (hn2:n≤sizeLine) (hdf:d.params.defaults=[]) (hr:cM k callerA)
 (hY:∀(w:World) (h:Heap),YP w h→(K w.params).In h)
 (F:∀(w:World) (mg:Str→Option Value) (fa:Addr) (h:Heap),(K w.params).In h→h.Ns mainGlobals mg→mg d.name=some (.ref fa)→
  ∃fd:FuncData,(∀(s:Shared) (u:Value),BindsTo s fd ⟨[u],[]⟩ [(x,u)])∧
   ∀base:Heap,(K w.params).In base→base.Ns mainGlobals mg→bv l.prog w (K w.params) mg base (CX w) k fa fd [x] (sp w))
 (hsp:∀(w:World) (H:Hp) (a:Addr) (ns:List Int),ns.length≤n→kC H→aD (K w.params) H a (ns.map V.int)→sp w [.ref a] H (fun v _=>v=.bl true) fun _ _ _=>False)
 (hCX:∀(w:World) (H:Hp) (s:Shared) (e:Value) (s':Shared),CX w [] H s (fun _ _ _=>False) e s'→False) :
 PySem.W.WalkO q loose XP YP l.row.toRowW d [] (fun f vs=>PySem.call f vs):=by
 refine Att.attach_call hn hdf fun w s₀ s₁ mg mb fa o pm cd doc a vs ns G Y ho hd hcd hmg hobj hints hlen hg=>?_
 have KX:=hY w _ Y
 obtain ⟨fd,hb,hF⟩:=F w mg fa _ KX G.T.g hmg
 exact rd KX G.T.g G.T.b G.T.builtins G.T.nolimit hg hobj hints (Nat.le_trans hlen hn2) hr hF hb (fun H hO hS=>hsp w H a ns hlen hO hS) fun H e s'=>hCX w H s₁ e s'
theorem qq {l:PySem.W.OpenLaw}{n k:Nat}{q:Program}{loose:List Str}{XP:(Str→Option Value)→Heap→Prop}{YP:World→Heap→Prop}{d:DefRec}{K:Params→PySem.W.Frag}{CX:fO}{sp:PySem.W.Frag→Sp}{x:Str}
 (hn:l.most=some n) (hn2:n≤sizeLine) (hdf:d.params.defaults=[]) (hr:cM k callerA)
 (hY:∀(w:World) (h:Heap),YP w h→(K w.params).In h)
 (F:∀(w:World) (mg:Str→Option Value) (fa:Addr) (h:Heap),(K w.params).In h→h.Ns mainGlobals mg→mg d.name=some (.ref fa)→
  ∃fd:FuncData,(∀(s:Shared) (u:Value),BindsTo s fd ⟨[u],[]⟩ [(x,u)])∧
   ∀base:Heap,(K w.params).In base→base.Ns mainGlobals mg→bv l.prog w (K w.params) mg base CX k fa fd [x] (sp (K w.params)))
 (hsp:∀(K:PySem.W.Frag) (H:Hp) (a:Addr) (ns:List Int),ns.length≤n→kC H→aD K H a (ns.map V.int)→sp K [.ref a] H (fun v _=>v=.bl true) fun _ _ _=>False)
 (hCX:∀(H:Hp) (s:Shared) (e:Value) (s':Shared),CX [] H s (fun _ _ _=>False) e s'→False) :
 PySem.W.WalkO q loose XP YP l.row.toRowW d [] (fun f vs=>PySem.call f vs):=
 walk_of (K:=K) (CX:=fun _=>CX) (sp:=fun w=>sp (K w.params)) hn hn2 hdf hr hY F (fun w H a ns h1 h2 h3=>hsp (K w.params) H a ns h1 h2 h3) fun _ H s e s'=>hCX H s e s'
end L2
/- THE LAST THEOREM (shape; LID, My.* are yours):
 My.Adr: a structure of the addresses that your layer names (classes, functions); My.Txt K t: a structure (Prop) of the equations over K;
 My.txt_mk : {K} {implicit addresses ..} (e1 : nsIn K mainGlobals "law" = some (some (.ref f))) (e2 : K.lookup f = some ⟨oc, od, .func (fnOf "law" "law" params body scope dV kV doc pm an cdv ct), sl⟩) (e3 : codeIn K cdv "law" = true) .. : ∃ t, My.Txt K t
set_option maxRecDepth 100000 in
set_option maxHeartbeats 0 in
theorem PySem.Challenge.cw_LID_holds : PySem.Challenge.rw_LID.Holds := by
 w_on; o_law; k_head; (case hw => w_witness2)
 k_fill
 refine L2.walk_of (l := PySem.Challenge.rw_LID) (n := 63) (k := 40) (x := "script") (CX := fun w => ..) (sp := fun _ => My.sp_law) rfl (by decide) rfl ⟨rfl, by decide, by decide⟩ (fun w h Y => PySem.W.kIn_of Y) ?F ?S ?C
 case F =>
  intro w mg fa h KX G hmg
  have T : ∃ t, My.Txt (L2.KOf KX) t := by
   dsimp only [L2.KOf]                          -- K must stand as «<heap const> w.params» for k_is
   refine' My.txt_mk ?e1 ?e2 ?e3 ..
   (case e1 => PySem.W.k_is)                    -- in the order: a name -> its address -> its object -> its parts
   (case e2 => PySem.W.k_is)
   ..
  obtain ⟨t, T⟩ := T
  have e0 := hmg.symm.trans (PySem.W.mg_of KX G T.law)
  cases e0                                       -- fa is the law's own address
  exact ⟨_, fun s u => .of_eq rfl, fun base kb nb => My.law_fn T kb nb⟩     -- if «.of_eq rfl» comes too early: refine' ⟨_, ?b, fun base kb nb => My.law_fn T kb nb⟩; exact fun s u => .of_eq rfl
 case S => exact fun w H a ns hl hO hS => ..
 case C => exact ..
(the tactic k_is has no namespace: write k_is) -/
namespace L2
open PySem PySem.Spec PyProof.Rows
def kv (s:Stmt):Arguments:=match s with
 | .FunctionDef _ a _ _ _ _ _ _ _ _=>a
 | _=>{ posonlyargs:=[],args:=[],vararg:=none,kwonlyargs:=[],kw_defaults:=[],kwarg:=none,defaults:=[] }
def hV (s:Stmt):List Stmt:=match s with
 | .FunctionDef _ _ b _ _ _ _ _ _ _=>b
 | _=>[]
def ax (s:Stmt):Scope:=match s with
 | .FunctionDef _ _ _ _ _ _ sc _ _ _=>sc
 | _=>{ kind:=.function,names:=[],isGenerator:=false,isCoroutine:=false }
abbrev CX0:fO:=fun _ _ _ _ _ _=>False
abbrev E0:XK:=fun _ _ _=>False
theorem jm {X:Cx}:mh CX0 X E0:=fun _ _ _ _ _ _ _ h=>h.elim
structure gw (K:PySem.W.Frag) (x qual:Str) (st:Stmt) (f:Addr) (fd:FuncData):Prop where
 ex:w6 fun (oc:Value) (od:Option Addr) (kV doc pm:Value) (an:Option Addr) (cdv ct:Value) (osl:Array (Option Value))=>
  fd=PySem.W.fnOf x qual (kv st) (hV st) (ax st) .none kV doc pm an cdv ct∧K.lookup f=some ⟨oc,od,.func fd,osl⟩∧PySem.W.codeIn K cdv qual=true
 kp:PySem.W.keepIn K (.ref f)=true
section
variable {P:Program}{w:World}{K:PySem.W.Frag}{mg:Str→Option Value}{base:Heap}
theorem gw.ok {x qual:Str}{st:Stmt}{f:Addr}{fd:FuncData}{N ps:List Str}{k:Nat}{sp:Sp} (F:gw K x qual st f fd) (S:aQ N ps (ax st)) (len:∀vs H Q E,sp vs H Q E→vs.length=ps.length)
 (hbody:∀(cdv:Value) (A:Around) (outer:List Env) (s:Shared) (H:Hp) (vs:List V) (Q:VK) (E:XK),cM k (A.deeper (envOfC qual (ax st) s.heap.objs.size f cdv))→sp vs H Q E→
  ∃t,fZ (iX CX0 P w K mg base N qual (ax st) f cdv A outer s H E).nox (hV st) t∧t { nx:=fun _ H'=>Q .non H',rt:=Q } (fI N vs) H):bv P w K mg base CX0 (k+1) f fd ps sp:=by
 obtain ⟨oc,od,kV,doc,pm,an,cdv,ct,osl,rfl,lk,hcd⟩:=F.ex
 refine rP lk hcd S len fun A outer s H vs Q E hr hsp=>?_
 obtain ⟨t,h,q⟩:=hbody cdv A outer s H vs Q E hr hsp
 exact ⟨t,h.nox,q⟩
theorem gw.binds {x qual:Str}{st:Stmt}{f:Addr}{fd:FuncData}{ps:List Str} (F:gw K x qual st f fd)
 (h:∀(kV doc pm:Value) (an:Option Addr) (cdv ct:Value) (us:List Value),us.length=ps.length→bindArgs (PySem.W.fnOf x qual (kv st) (hV st) (ax st) .none kV doc pm an cdv ct) ⟨us,[]⟩=pure (ps.zip us)):dI K fd ps []:=by
 obtain ⟨oc,od,kV,doc,pm,an,cdv,ct,osl,rfl,lk,hcd⟩:=F.ex
 exact .all (h kV doc pm an cdv ct)
end
section
variable {X:Cx}
theorem pv (i:Nat) {x:Str}{pos:Pos} (hN:X.N[i]?=some x:=by rfl) (hv:pJ X.env.scope x:=by first | exact Or.inl rfl | exact Or.inr (Or.inl rfl) | exact Or.inr (Or.inr rfl)) (hd:(x==("__debug__" : Str))=false:=by decide)
 (hcd:(x==("__classdict__" : Str))=false:=by decide):PE X (.Name x pos) (mv i):=pj hN hv hd hcd
end
theorem aq {A B:Prop} (h:B):if false=true then A else B:=by
 rw [if_neg Bool.false_ne_true]
 exact h
theorem ai {A B:Prop} (h:A):if true=true then A else B:=by
 rw [if_pos rfl]
 exact h
theorem qZ {c A B:Prop} [Decidable c] (h1:c→A) (h2:¬c→B):if c then A else B:=by
 by_cases h:c
 ·rw [if_pos h]
  exact h1 h
 ·rw [if_neg h]
  exact h2 h
def au (H H':Hp):Prop:=∀b o,H b=some o→H' b=some o
theorem au.refl (H:Hp):au H H:=fun _ _ h=>h
theorem au.trans {H H1 H2:Hp} (a:au H H1) (b:au H1 H2):au H H2:=fun c o h=>b c o (a c o h)
theorem au.free {H H':Hp} (e:au H H') {l:Addr} (h:H' l=Option.none):H l=Option.none:=by
 cases q:H l with
 | none=>rfl
 | some o=>
  rw [e l o q] at h
  cases h
theorem au.seq {K:PySem.W.Frag}{H H':Hp}{a:Addr}{xs:List V} (e:au H H') (h:aD K H a xs):aD K H' a xs:=by
 rcases h with (h | ⟨o,h⟩) | h
 ·exact .inl (.inl (e _ _ h))
 ·exact .inl (.inr ⟨o,e _ _ h⟩)
 ·exact .inr h
end L2
namespace L2
open PySem
theorem sk {scope:Scope}{env:Env} (h:∀y∈scope.names,y.2=.free→∃c,env.cells.lookup y.1=some c) :
 ∃cl,closureFor scope env=pure cl∧(∀x c,cl.lookup x=some c→env.cells.lookup x=some c)∧(∀y∈scope.names,y.2=.free→∃c,cl.lookup y.1=some c):=by
 have go:∀(names:List (Str×NameKind)) (acc:List (Str×Addr)),(∀y∈names,y.2=.free→∃c,env.cells.lookup y.1=some c)→(∀x c,acc.lookup x=some c→env.cells.lookup x=some c)→
  ∃cl,(forIn names acc (fun (x:Str×NameKind) (cs:List (Str×Addr))=>match x with
   | (name,kind)=>if (kind==.free)=true then (do let a ←cellOf env name;pure (ForInStep.yield ((name,a) :: cs))) else pure (ForInStep.yield cs)):Sem (List (Str×Addr)))=pure cl∧
   (∀x c,cl.lookup x=some c→env.cells.lookup x=some c)∧(∀y∈names,y.2=.free→∃c,cl.lookup y.1=some c)∧(∀x c,acc.lookup x=some c→∃c',cl.lookup x=some c'):=by
  intro names
  induction names with
  | nil=>intro acc _ ha;exact ⟨acc,rfl,ha,fun y hy=>(by cases hy),fun x c e=>⟨c,e⟩⟩
  | cons x r ih=>
   intro acc hn ha
   obtain ⟨name,kind⟩:=x
   rw [List.forIn_cons]
   by_cases hk:kind=.free
   ·subst hk
    obtain ⟨c,hc⟩:=hn (name,.free) List.mem_cons_self rfl
    have e:cellOf env name=pure c:=by unfold cellOf;rw [hc]
    obtain ⟨cl,e1,e2,e3,e4⟩:=ih ((name,c) :: acc) (fun y hy=>hn y (List.mem_cons_of_mem _ hy)) (fun x c' hx=>by
     rw [List.lookup_cons] at hx
     split at hx
     ·rename_i hb
      have:x=name:=by simpa using hb
      subst this
      cases hx;exact hc
     ·exact ha x c' hx)
    refine ⟨cl,?_,e2,fun y hy hf=>?_,fun x c' hx=>?_⟩
    ·simp only [beq_self_eq_true,if_true]
     rw [e,pure_bind,pure_bind]
     exact e1
    ·rcases List.mem_cons.mp hy with rfl | hy
     ·exact e4 name c (by simp)
     ·exact e3 y hy hf
    ·by_cases hb:(x==name)=true
     ·have:x=name:=by simpa using hb
      subst this
      exact e4 x c (by simp)
     ·exact e4 x c' (by rw [List.lookup_cons];simp only [Bool.not_eq_true] at hb;rw [hb];exact hx)
   ·have hb:(kind==NameKind.free)=false:=by simpa using hk
    obtain ⟨cl,e1,e2,e3,e4⟩:=ih acc (fun y hy=>hn y (List.mem_cons_of_mem _ hy)) ha
    refine ⟨cl,?_,e2,fun y hy hf=>?_,e4⟩
    ·simp only [hb,Bool.false_eq_true,if_false]
     rw [pure_bind]
     exact e1
    ·rcases List.mem_cons.mp hy with rfl | hy
     ·exact absurd hf hk
     ·exact e3 y hy hf
 obtain ⟨cl,e1,e2,e3,_⟩:=go scope.names [] h (fun x c e=>by simp at e)
 refine ⟨cl,?_,e2,e3⟩
 unfold closureFor
 show (forIn scope.names _ _ >>= fun cs=>pure cs)=_
 rw [bind_pure]
 exact e1
section
variable {prog:Program}{w:World}{A:Around}{R:Result→Shared→Prop}{s:Shared}
theorem mX {elt target iter:Expr}{ifs:List Expr}{scope:Scope}{pos:Pos}{it acc:Value}{env:Env} (I:Nat→Shared→Prop)
 (turn:∀n s,I n s→wpAny (model prog w) A (pyNext it) (fun r s₁=>match r with
  | none=>R (.ok .next) s₁
  | some v=>wpAny (model prog w) A (letOwnedTupleGo target it v) (fun _ s₁'=>wpAny (model prog w) A (assign target env v) (fun _ s₂=>
   wpAny (model prog w) A (forIn ifs true fun c r=>if r=true then do let ok ←isTrue c env (eval c env);pure (ForInStep.yield ok) else pure (ForInStep.yield r)) (fun ok s₃=>
    if ok=true then wpAny (model prog w) A (eval elt env) (fun x s₄=>
     wpAny (model prog w) A (call (.builtin "list.append") [acc,x]) (fun _ s₅=>∃m,m<n∧I m s₅) (fun _ _=>False) s₄) (fun _ _=>False) s₃
    else ∃m,m<n∧I m s₃) (fun _ _=>False) s₂) (fun _ _=>False) s₁') (fun _ _=>False) s₁) (fun _ _=>False) s)
 (n:Nat) (h:I n s) :
 codeAny (model prog w) A (.compLoop (.ListComp elt [⟨target,iter,ifs,0⟩] scope pos) 0 it acc env) R s:=by
 refine codeAny_loop rfl I (fun n s hI=>?_) n h
 show wpAny _ A ((compTurn (.ListComp elt [⟨target,iter,ifs,0⟩] scope pos) 0 it acc env).onRaise (fun x=>do noteFrame x env;theTreesLotGoes x)) _ _ s
 refine wpAny_noted ?_
 rw [compTurn_list]
 refine wpAny_bind (wpAny_standAt (wpAny_bind (wpAny_mono (turn n s hI) (fun r s₁ h₁=>?_) fun _ _ h'=>h'.elim)))
 cases r with
 | none=>exact wpAny_pure h₁
 | some v=>
  refine wpAny_bind (wpAny_mono h₁ (fun _ s₁' h₁'=>?_) fun _ _ h'=>h'.elim)
  refine wpAny_bind (wpAny_mono h₁' (fun _ s₂ h₂=>wpAny_bind (wpAny_mono h₂ (fun ok s₃ h₃=>?_) fun _ _ h'=>h'.elim)) fun _ _ h'=>h'.elim)
  cases ok with
  | false=>exact wpAny_pure ⟨rfl,h₃⟩
  | true=>
   exact wpAny_bind (wpAny_bind (wpAny_mono h₃ (fun x s₄ h₄=>wpAny_bind (wpAny_mono h₄ (fun _ s₅ h₅=>wpAny_pure (wpAny_pure ⟨rfl,h₅⟩)) fun _ _ h'=>h'.elim)) fun _ _ h'=>h'.elim))
end
end L2
namespace L2
open PySem PySem.Spec PyProof.Rows
section
variable {X:Cx}
theorem fH:bE X (.builtin "isinstance") (fun xs H Q=>mD fun x T t b=>xs=[x,.ty T]∧dB X.K H x t∧PySem.W.kitOne X.K t (.type T)=some b∧Q (.bl b) H):=by
 intro pins s σ H xs us Q I r h
 obtain ⟨x,T,t,b,rfl,ty,e,q⟩:=h
 obtain ⟨u,c,rfl,ru,rc⟩:=r.two
 obtain rfl:c=Value.type T:=rc
 exact pB I ru ty e fun tk=>⟨.bl b,H,I.tok tk,rfl,q⟩
end
def mo (X:Cx) (scope:Scope) (cl:List (Str×Addr)) (C:Addr) (N':List Str) (s:Shared) (H:Hp) (ex:List Addr) (pn:List (Addr×Obj)):Cx:=
 { X with N:=N',s₀:=s,H₀:=H,env:=compEnvC scope cl C X.env,outer:=X.stack,ex:=ex,fn:=fun _=>false,pn:=pn,xe:=fun _ _=>False }
def fh (L:Nat) (src:List Nat) (σ:St):St:=List.replicate L none++src.map fun j=>(σ[j]?).join
def io (σ σ':St):Prop:=σ'.length=σ.length∧∀(i:Nat) v,σ[i]?=some (some v)→σ'[i]?=some (some v)
theorem r6 {x:V}{r:St}:io (none :: r) (some x :: r):=⟨rfl,fun i v e=>by
 cases i with
 | zero=>simp at e
 | succ i=>simpa using e⟩
theorem rX {x y:V}{r:St}:io (none :: none :: r) (some x :: some y :: r):=⟨rfl,fun i v e=>by
 cases i with
 | zero=>simp at e
 | succ i=>
  cases i with
  | zero=>simp at e
  | succ i=>simpa using e⟩
def oO (X:Cx) (ifs:List Expr) (t:TT):Prop:=
 ∀(pins:List (Addr×Obj)) (s:Shared) (σ:St) (H:Hp) (Q:Bool→Hp→Prop),aa X pins σ H s→t σ H Q→
   wpAny (model X.prog X.w) X.A (forIn ifs true fun c r=>if r=true then do let ok ←isTrue c X.env (eval c X.env);pure (ForInStep.yield ok) else pure (ForInStep.yield r)) (TP X pins σ Q) X.xe s
def tT:TT:=fun _ H Q=>Q true H
theorem jW {X:Cx}:oO X [] tT:=fun _ _ _ H _ I h=>wpAny_pure ⟨H,I,h⟩
def ki (J:It) (σc:St) (g:TG) (tt:TT) (te:TE) (D:Addr) (H1:Hp) (Q:VK):Prop:=
 ∃W:Nat→Nat→Hp→List V→Prop,(∃m,W 0 m (aI H1 D (.lst [])) [])∧∀i m H ys,W i m H ys→H D=some (.lst ys)∧
  ((J.stop i H∧Q (.ref D) H)∨(J.go i H∧ys.length<sizeLine∧∃N:Hp→List V→Prop,(∀H' ys',N H' ys'→∃m',m'<m∧W (i+1) m' H' ys')∧
    ∀x H',J.yld i H x H'→g x σc H' fun σ2 H2=>io σc σ2∧tt σ2 H2 fun b H3=>if b=true then te σ2 H3 fun y H4=>H4 D=some (.lst ys)∧N (aI H4 D (.lst (ys++[y]))) (ys++[y]) else N H3 ys))
def rR (wi:TI) (L:Nat) (src:List Nat) (g:TG) (tt:TT) (te:TE):TE:=fun σ H Q=>wi σ H fun J H1=>∀D,H1 D=none→ki J (fh L src σ) g tt te D H1 Q
section
variable {X:Cx}{elt tg iter:Expr}{ifs:List Expr}{scope:Scope}{pos:Pos}{N':List Str}{L:Nat}{src:List Nat}{wi:TI}{g:TG}{tt:TT}{te:TE}
end
theorem pT {J:It}{n:Nat}{H1:Hp}{D:Addr}{σc:St}{g:TG}{tt:TT}{te:TE}{Q:VK} (Pv:Nat→Hp→List V→Prop) (hz:n≤sizeLine) (h0:Pv 0 (aI H1 D (.lst [])) [])
 (hD:∀i H ys,Pv i H ys→H D=some (.lst ys)∧ys.length≤i)
 (hgo:∀i H ys,i<n→Pv i H ys→J.go i H) (hst:∀H ys,Pv n H ys→J.stop n H)
 (hs:∀i H ys x H',i<n→Pv i H ys→J.yld i H x H'→g x σc H' fun σ2 H2=>io σc σ2∧tt σ2 H2 fun b H3=>if b=true then te σ2 H3 fun y H4=>H4 D=some (.lst ys)∧Pv (i+1) (aI H4 D (.lst (ys++[y]))) (ys++[y]) else Pv (i+1) H3 ys)
 (hd:∀H ys,Pv n H ys→Q (.ref D) H):ki J σc g tt te D H1 Q:=by
 refine ⟨fun i m H ys=>m=n - i∧i≤n∧Pv i H ys,⟨n,by simp,Nat.zero_le _,h0⟩,?_⟩
 rintro i m H ys ⟨rfl,hi,p⟩
 obtain ⟨q1,q2⟩:=hD i H ys p
 refine ⟨q1,?_⟩
 by_cases hlt:i<n
 ·exact .inr ⟨hgo i H ys hlt p,by trivial,Pv (i+1),fun H' ys' p'=>⟨n - (i+1),by trivial,rfl,hlt,p'⟩,fun x H' y=>hs i H ys x H' hlt p y⟩
 ·have e:i=n:=by trivial
  subst e
  exact .inl ⟨hst H ys p,hd H ys p⟩
theorem jc {J:It}{n:Nat}{H1:Hp}{D:Addr}{σc:St}{g:TG}{te:TE}{Q:VK} (Pv:Nat→Hp→List V→Prop) (hz:n≤sizeLine) (h0:Pv 0 (aI H1 D (.lst [])) [])
 (hD:∀i H ys,Pv i H ys→H D=some (.lst ys)∧ys.length≤i)
 (hgo:∀i H ys,i<n→Pv i H ys→J.go i H) (hst:∀H ys,Pv n H ys→J.stop n H)
 (hs:∀i H ys x H',i<n→Pv i H ys→J.yld i H x H'→g x σc H' fun σ2 H2=>io σc σ2∧te σ2 H2 fun y H4=>H4 D=some (.lst ys)∧Pv (i+1) (aI H4 D (.lst (ys++[y]))) (ys++[y]))
 (hd:∀H ys,Pv n H ys→Q (.ref D) H):ki J σc g tT te D H1 Q:=by
 refine pT Pv hz h0 hD hgo hst (fun i H ys x H' hi p y=>?_) hd
 have e:=hs i H ys x H' hi p y
 have q:(fun (σ2:St) (H2:Hp)=>io σc σ2∧tT σ2 H2 fun b H3=>if b=true then te σ2 H3 fun y H4=>H4 D=some (.lst ys)∧Pv (i+1) (aI H4 D (.lst (ys++[y]))) (ys++[y]) else Pv (i+1) H3 ys) =
  (fun σ2 H2=>io σc σ2∧te σ2 H2 fun y H4=>H4 D=some (.lst ys)∧Pv (i+1) (aI H4 D (.lst (ys++[y]))) (ys++[y])):=by
  funext σ2 H2
  unfold tT
  dsimp only
  rw [if_pos rfl]
 rw [q]
 exact e
section
variable {X:Cx}{pins:List (Addr×Obj)}{σ:St}{H:Hp}{s:Shared}{h':Heap}
theorem aa.turnedNew {t':Nat}{ch:List Addr}{T:Addr}{o:HO} (I:aa X pins σ H s) (hf:∀b∈ch,fS X pins H b) (k:∀b u,b∉ch→s.heap.get? b=some u→h'.get? b=some u)
 (hT:s.heap.objs.size≤T) (new:aW X.prog X.w (aI H T o) h' T o):aa X pins σ (aI H T o) { s with heap:=h',toks:=t' }:=by
 have hn:H T=none:=I.hok.fresh hT
 refine I.step (g':=s.gens) (d':=s.drawn) (ch:=ch) (fun b hb=>?_) (fun b o _ _ hc e _=>k b o hc e) (fun b o _ _ hc e _=>⟨o.slots,k b o hc e⟩) (fun b o hc e n=>?_)
  (fun b o hc e=>⟨o,k b o hc e⟩) (fun b xs e=>?_) (fun b o u e=>?_) (fun b ps e=>?_) (fun m hm=>?_) (fun b u e=>?_) I.bare
 ·obtain ⟨f0,f1,f2,f3,f4,f5⟩:=hf b hb
  exact ⟨f3,f1,f4,f5⟩
 ·rw [ap (Nat.ne_of_lt (Nat.lt_of_lt_of_le (Heap.lt_size e) hT))];exact n
 ·rw [ap (ba e hn)];exact e
 ·rw [ap (ba e hn)];exact e
 ·exact ⟨#[],by rw [ap (ba e hn),e];simp⟩
 ·obtain ⟨o,es,ep,ho,r⟩:=hm
  exact ⟨o,es,ep,k _ o (fun z=>(hf _ z).2.1 rfl) ho,r⟩
 ·by_cases hb:b=T
  ·subst hb;rw [aF] at e;cases e;exact new
  ·rw [ap hb] at e
   refine (I.hok b u e).stay (fun c v hc q=>k c v (fun z=>?_) q) (fun c q=>by rw [ap (ba q hn)];exact q) fun c xs q=>by rw [ap (ba q hn)];exact q
   have hcn:=(hf c z).1
   rcases hc with rfl | hc
   ·rw [e] at hcn;cases hcn
   ·rw [hc] at hcn;cases hcn
end
section
variable {X:Cx}
theorem pq {bs:List Bool}{us:List Value} (r:aw (bs.map V.bl) us) {i:Nat}{v:Value} (e:us[i]?=some v):∃b,bs[i]?=some b∧v=.bool b:=by
 have hl:=r.length
 rw [List.length_map] at hl
 have hi:i<us.length:=(List.getElem?_eq_some_iff.mp e).1
 have hb:bs[i]?=some bs[i]:=by simp [hl,hi]
 obtain ⟨u,h1,h2⟩:=r.get (i:=i) (x:=.bl bs[i]) (by rw [List.getElem?_map,hb];rfl)
 rw [e] at h1
 cases h1
 exact ⟨_,hb,h2⟩
theorem sW {s:Shared}{h':Heap}{o:Obj} (hk:∀b x,b∉[s.heap.objs.size]→(s.heap.push o).get? b=some x→h'.get? b=some x):∀b x,s.heap.get? b=some x→h'.get? b=some x:=
 fun b x e=>hk b x (fun hm=>by rw [List.mem_singleton.mp hm] at e;exact Nat.lt_irrefl _ (Heap.lt_size e)) (Heap.get?_push_of_some _ e)
theorem qy (hc:X.calm=true):bE X (.builtin "all") (fun xs H Q=>aX fun (l:Addr) (bs:List Bool)=>xs=[.ref l]∧aD X.K H l (bs.map V.bl)∧Q (.bl (bs.all id)) H):=by
 intro pins s σ H xs us Q I r h
 obtain ⟨l,bs,rfl,hq,q⟩:=h
 obtain ⟨u,rfl,ru⟩:=r.one
 obtain rfl:u=.ref l:=ru
 obtain ⟨its,rv,p,hz⟩:=I.list hq
 have hl:=p.isList
 have hlt:l<s.heap.objs.size:=by obtain ⟨_,e,_⟩:=hl;exact Heap.lt_size e
 refine call_all_walk (wpAny_pyIter_list hl ?_)
 refine ⟨s.heap.objs.size,[s.heap.objs.size,l],[s.heap.objs.size],its.toArray.size,_,_,fun i=>(bs[i]?).getD true,rfl,Walks.list (A:=X.A.in1) (I.ok.hd hc) _ l (Nat.ne_of_lt hlt) its.toArray,
  ⟨⟨_,Heap.get?_push_size _ rfl,rfl,rfl⟩,hl.push _⟩,fun i v s' Q' E' hP hQ=>?_,fun h' tk hk=>?_⟩
 ·obtain ⟨b,e,rfl⟩:=pq rv (i:=i) (v:=v) (by simpa using hP)
  simp only [e,Option.getD_some] at hQ
  exact wpAny_truthy_bool hQ
 ·have e:((List.range its.toArray.size).all fun i=>(bs[i]?).getD true)=bs.all id:=by
   rw [List.size_toArray,←rv.length,List.length_map];exact LSm.range_all bs
  rw [e]
  exact ⟨.bl _,H,I.kept (sW hk),rfl,q⟩
end
end L2
namespace L2
open PySem PySem.Spec PyProof.Rows
theorem bJ:bootBuiltins "len" = some (.builtin "len"):=by nofun
theorem dJ:bootBuiltins "abs" = some (.builtin "abs"):=by nofun
theorem kr:bootBuiltins "max" = some (.builtin "max"):=by nofun
theorem iB:bootBuiltins "all" = some (.builtin "all"):=by nofun
theorem iG:bootBuiltins "divmod" = some (.builtin "divmod"):=by nofun
theorem ag:bootBuiltins "isinstance" = some (.builtin "isinstance"):=by nofun
theorem bG:bootBuiltins "int" = some (.type "int"):=by nofun
theorem eY:bootBuiltins "bool" = some (.type "bool"):=by nofun
theorem cn:bootBuiltins "str" = some (.type "str"):=by nofun
theorem e7:bootBuiltins "list" = some (.type "list"):=by nofun
theorem d0:bootBuiltins "tuple" = some (.type "tuple"):=by nofun
theorem cz {X:Cx}{x:Str}{T:String}{pos:Pos} (hg:Gl X x) (hm:X.mg x=none) (hv:bootBuiltins x=some (.type T)) (hn:x≠"__name__" := by decide) (hd:(x==("__debug__" : Str))=false:=by decide):PE X (.Name x pos) (tC (.ty T)):=
 sq (v:=.ty T) hg hm hv rfl hn hd
mutual
inductive cG (E:Addr→Prop) (H:Hp):V→PyData→Prop
 | non:cG E H .non .none
 | bl (b:Bool):cG E H (.bl b) (.bool b)
 | int (i:Int):cG E H (.int i) (.int i)
 | str (x:Str):cG E H (.str x) (.str x)
 | lst {a:Addr}{xs:List V}{ds:List PyData} (h:H a=some (.lst xs)) (ne:¬E a) (r:bO E H xs ds):cG E H (.ref a) (.list ds)
 | tup {a:Addr}{xs:List V}{ds:List PyData} (h:H a=some (.tup xs)) (r:bO E H xs ds):cG E H (.ref a) (.tuple ds)
inductive bO (E:Addr→Prop) (H:Hp):List V→List PyData→Prop
 | nil:bO E H [] []
 | cons {x:V}{xs:List V}{d:PyData}{ds:List PyData} (h:cG E H x d) (r:bO E H xs ds):bO E H (x :: xs) (d :: ds)
end
structure cm (E:Addr→Prop) (H H':Hp):Prop where
 old:∀a o,¬E a→H a=some o→H' a=some o
 tup:∀a xs,H a=some (.tup xs)→H' a=some (.tup xs)
mutual
theorem cG.mono {E:Addr→Prop}{H H':Hp} (k:cm E H H'):∀{v:V}{d:PyData},cG E H v d→cG E H' v d
 | _,_,.non=>.non
 | _,_,.bl b=>.bl b
 | _,_,.int i=>.int i
 | _,_,.str x=>.str x
 | _,_,.lst h ne r=>.lst (k.old _ _ ne h) ne (bO.mono k r)
 | _,_,.tup h r=>.tup (k.tup _ _ h) (bO.mono k r)
theorem bO.mono {E:Addr→Prop}{H H':Hp} (k:cm E H H'):∀{vs:List V}{ds:List PyData},bO E H vs ds→bO E H' vs ds
 | _,_,.nil=>.nil
 | _,_,.cons h r=>.cons (cG.mono k h) (bO.mono k r)
end
theorem cm.refl {E:Addr→Prop} (H:Hp):cm E H H:=⟨fun _ _ _ h=>h,fun _ _ h=>h⟩
theorem cm.trans {E:Addr→Prop}{H H1 H2:Hp} (a:cm E H H1) (b:cm E H1 H2):cm E H H2:=⟨fun c o n h=>b.old c o n (a.old c o n h),fun c xs h=>b.tup c xs (a.tup c xs h)⟩
theorem au.toE {E:Addr→Prop}{H H':Hp} (a:au H H'):cm E H H':=⟨fun c o _ h=>a c o h,fun c xs h=>a c _ h⟩
theorem au.new {H:Hp}{p:Addr}{o:HO} (h:H p=none):au H (aI H p o):=fun b u e=>by rw [ap (ba e h)];exact e
theorem bO.length {E:Addr→Prop}{H:Hp}:∀{vs:List V}{ds:List PyData},bO E H vs ds→vs.length=ds.length
 | _,_,.nil=>rfl
 | _,_,.cons _ r=>by simp [bO.length r]
theorem bO.get {E:Addr→Prop}{H:Hp}:∀{vs:List V}{ds:List PyData}{i:Nat}{v:V},bO E H vs ds→vs[i]?=some v→∃d,ds[i]?=some d∧cG E H v d
 | _,_,_,_,.nil,e=>by simp at e
 | _,_,0,_,.cons h _,e=>by simp at e;subst e;exact ⟨_,rfl,h⟩
 | _,_,i+1,v,.cons _ r,e=>by
  obtain ⟨d,h1,h2⟩:=bO.get (i:=i) (v:=v) r (by simpa using e)
  exact ⟨d,by simpa using h1,h2⟩
mutual
theorem cG.reads {E:Addr→Prop}{P:Program}{w:World}{H:Hp}{h:Heap} (ok:cg P w H h):∀{v:V}{d:PyData},cG E H v d→∀{u:Value},aM v u→∃as,Reads h u d as
 | _,_,.non,u,r=>by obtain rfl:u=.none:=r;exact ⟨_,.none⟩
 | _,_,.bl b,u,r=>by obtain rfl:u=.bool b:=r;exact ⟨_,.bool b⟩
 | _,_,.int i,u,r=>by obtain ⟨t,rfl⟩:=r;exact ⟨_,.int i t⟩
 | _,_,.str x,u,r=>by obtain ⟨t,rfl⟩:=r;exact ⟨_,.str x t⟩
 | _,_,.lst (a:=a) (xs:=xs) e _ q,u,r=>by
  obtain rfl:u=.ref a:=r
  obtain ⟨_,its,n,rv,e1⟩:=(show aW P w H h a (.lst xs) from ok a _ e)
  obtain ⟨as,ra⟩:=bO.reads ok q rv
  exact ⟨_,.list e1 rfl rfl (by simpa using ra)⟩
 | _,_,.tup (a:=a) (xs:=xs) e q,u,r=>by
  obtain rfl:u=.ref a:=r
  obtain ⟨_,its,rv,⟨o,e1,c,n,dd⟩,_⟩:=(show aW P w H h a (.tup xs) from ok a _ e)
  obtain ⟨as,ra⟩:=bO.reads ok q rv
  exact ⟨_,.tuple e1 c dd (by simpa using ra)⟩
theorem bO.reads {E:Addr→Prop}{P:Program}{w:World}{H:Hp}{h:Heap} (ok:cg P w H h):∀{vs:List V}{ds:List PyData},bO E H vs ds→∀{us:List Value},aw vs us→∃as,ReadsAll h us ds as
 | _,_,.nil,us,r=>by cases r;exact ⟨_,.nil⟩
 | _,_,.cons q qs,us,r=>by
  cases r with
  | cons r1 rr=>
   obtain ⟨as,h1⟩:=cG.reads ok q r1
   obtain ⟨bs,h2⟩:=bO.reads ok qs rr
   exact ⟨_,.cons h1 h2⟩
end
section
variable {X:Cx}
def oM (_ j:Int):Prop:=0<j∧j.natAbs.log2<9000
theorem mT:bZ X (binaryOp .FloorDiv) (rI oM fun i j=>.int (i / j)):=nt fun i j _ _ _ _ _ hc q=>by
 rw [←Int.fdiv_eq_ediv_of_nonneg _ (Int.le_of_lt hc.1)] at q
 exact floordiv_int (Int.ne_of_gt hc.1) q (.inl (PyProof.noPylong_of_log2 hc.2))
end
end L2
namespace L2
open PySem PySem.Spec PyProof.Rows
def l8:PyData→String
 | .none => "NoneType"
 | .bool _ => "bool"
 | .int _ => "int"
 | .str _ => "str"
 | .list _ => "list"
 | .tuple _ => "tuple"
 | .dict _ => "dict"
theorem cG.ty {K:PySem.W.Frag}{E:Addr→Prop}{H:Hp}{v:V}{d:PyData} (h:cG E H v d):dB K H v (.type (l8 d)):=by
 cases h with
 | non=>exact .non
 | bl b=>exact .bl b
 | int i=>exact .int i
 | str x=>exact .str x
 | lst h ne r=>exact .lst h
 | tup h r=>exact .tup h
def uH:PyData→Bool
 | .int _=>true
 | .bool _=>true
 | _=>false
def rB:PyData→Bool
 | .int _=>true
 | _=>false
def nQ:PyData→Bool
 | .bool _=>true
 | _=>false
def u5:PyData→Bool
 | .tuple _=>true
 | _=>false
def tR:PyData→Bool
 | .list _=>true
 | _=>false
def ve:PyData→Bool
 | .str _=>true
 | _=>false
theorem oq {K:PySem.W.Frag} (d:PyData):PySem.W.kitOne K (.type (l8 d)) (.type "int")=some (uH d):=by cases d <;> rfl
theorem gA {K:PySem.W.Frag} (d:PyData):PySem.W.kitOne K (.type (l8 d)) (.type "bool")=some (nQ d):=by cases d <;> rfl
theorem eJ {K:PySem.W.Frag} (d:PyData):PySem.W.kitOne K (.type (l8 d)) (.type "tuple")=some (u5 d):=by cases d <;> rfl
theorem gu {K:PySem.W.Frag} (d:PyData):PySem.W.kitOne K (.type (l8 d)) (.type "list")=some (tR d):=by cases d <;> rfl
theorem eG {K:PySem.W.Frag} (d:PyData):PySem.W.kitOne K (.type (l8 d)) (.type "str")=some (ve d):=by cases d <;> rfl
inductive wo (K:PySem.W.Frag) (xs:List V) (H:Hp) (Q:VK):Prop
 | mk (x:_) (T:_) (t:_) (b:_) (h0:xs=[x,.ty T]) (h1:dB K H x t) (h2:PySem.W.kitOne K t (.type T)=some b) (h3:Q (.bl b) H)
def xg (K:PySem.W.Frag):List V→Hp→VK→Prop:=fun xs H Q=>wo K xs H Q
section
variable {X:Cx}
theorem mZ:bE X (.builtin "divmod") (fun xs H Q=>aX fun i j=>xs=[.int i,.int j]∧oM i j∧∀p,H p=none→Q (.ref p) (aI H p (.tup [.int (i / j),.int (i % j)]))):=by
 intro pins s σ H xs us Q I r h
 obtain ⟨i,j,rfl,⟨h1,h2⟩,q⟩:=h
 obtain ⟨u,w',rfl,⟨t,rfl⟩,⟨t',rfl⟩⟩:=kj r
 refine divmod_int (by trivial) ?_ (.inl (PyProof.noPylong_of_log2 h2))
 rw [Int.fdiv_eq_ediv_of_nonneg i (by trivial),Int.fmod_eq_emod_of_nonneg i (by trivial)]
 have hn:H s.heap.objs.size=none:=I.hok.fresh (Nat.le_refl _)
 refine ⟨.ref s.heap.objs.size,_,?_,rfl,q _ hn⟩
 refine I.laid (fun b o e=>Heap.get?_push_of_some _ e) (Nat.le_refl _) ⟨by simp only [List.length_cons,List.length_nil];rw [sizeLine_eq];decide,[.int (i / j) s.toks,.int (i % j) (s.toks+1)],.cons ⟨()⟩ (.cons ⟨()⟩ .nil),?_⟩
 exact ⟨⟨_,Heap.get?_push_size s.heap rfl,rfl,0,rfl⟩,_,Heap.get?_push_size s.heap rfl,rfl⟩
end
theorem x0 (c:Bool):-(2 ^ 64)<(if c=true then (1:Int) else 0)∧(if c=true then (1:Int) else 0)<2 ^ 64:=by cases c <;> decide
theorem mV (x:Int):0≤(if x<0 then -x else x):=by split <;> trivial
theorem wC {x:Int} (c:Bool) (h:0≤x):0≤x*(if c=true then (1:Int) else 0):=by cases c <;> simp [h]
theorem sG {ms:List Int}{k:Int} (h0:0≤k) (h:k.toNat<ms.length):e8 (ms.map V.int) k=some (V.int ms[k.toNat]):=by
 have q:=fD (xs:=ms.map V.int) (j:=k.toNat) (v:=V.int ms[k.toNat]) (by rw [List.getElem?_map];simp [h])
 rwa [Int.toNat_of_nonneg h0] at q
inductive Bx (H:Hp) (b:Addr) (t:Int):Prop
 | mk (c x:Int) (h0:H b=some (.lst [.int c,.int x,.int t])) (h1:0≤c) (h2:0≤x) (h3:x<2147483647)
abbrev Eb (b:Addr):Addr→Prop:=fun a=>a=b
theorem Bx.same {H H':Hp}{b:Addr}{t:Int} (h:Bx H b t) (k:au H H'):Bx H' b t:=by
 obtain ⟨c,x,e,r,r2,r3⟩:=h
 exact ⟨c,x,k _ _ e,r,r2,r3⟩
theorem lG {H H1:Hp}{b:Addr}{xs:List V}{o:HO} (k:au H H1) (hb:H1 b=some (.lst xs)):cm (Eb b) H (aI H1 b o):=
 ⟨fun a u n h=>by rw [ap n];exact k a u h,fun a ys h=>by
  have e:=k a _ h
  rw [ap (vU e hb (by intro z;cases z))];exact e⟩
inductive ui (K:PySem.W.Frag) (vs:List V) (H:Hp) (Q:VK):Prop
 | mk (a:Addr) (ms:List Int) (k:Int) (h0:vs=[.ref a,.int k]) (h1:aD K H a (ms.map V.int)) (h2:0≤k) (h3:k≤63) (h4:∀p H',H p=none→au H H'→Bx H' p 0→Q (.ref p) H')
def vC (K:PySem.W.Frag):Sp:=fun vs H Q _=>ui K vs H Q
inductive sS (vs:List V) (H:Hp) (Q:VK):Prop
 | mk (b:Addr) (many t:Int) (h0:vs=[.ref b,.int many]) (h1:Bx H b t) (h2:0<many) (h3:many.natAbs.log2<9000) (h4:0≤t) (h5:t≤1000000) (h6:∀r t' H',0≤r→r<many→t≤t'→t'≤t+1→cm (Eb b) H H'→Bx H' b t'→Q (.int r) H')
def uQ:Sp:=fun vs H Q _=>sS  vs H Q
def mG:List Str→Bool
 | []=>true
 | x :: r=>!r.contains x && mG r
theorem pL:∀l:List Str,mG l=true→l.Nodup
 | [],_=>List.nodup_nil
 | x :: r,h=>by
  unfold mG at h
  simp only [Bool.and_eq_true,Bool.not_eq_true',List.contains_eq_mem,decide_eq_false_iff_not] at h
  exact List.nodup_cons.mpr ⟨h.1,pL r h.2⟩
inductive wv (K:PySem.W.Frag) (xs:List V) (H:Hp) (Q:VK):Prop
 | mk (p:_) (ys:_) (h0:xs=[.ref p]) (h1:(aD K H p ys∨bq K H p ys)) (h2:Q (.int ys.length) H)
def xk (K:PySem.W.Frag):List V→Hp→VK→Prop:=fun xs H Q=>wv K xs H Q
section
variable {X:Cx}{K:PySem.W.Frag}
theorem cc (e:X.K=K:=by rfl):bE X (.builtin "isinstance") (xg K):=by subst e;exact fun pins s σ H xs us Q I r ⟨x,T,t,b,h1,h2,h3,q⟩=>fH pins s σ H xs us Q I r ⟨x,T,t,b,h1,h2,h3,q⟩
theorem jq (e:X.K=K:=by rfl):bE X (.builtin "len") (xk K):=by subst e;exact fun pins s σ H xs us Q I r ⟨p,ys,h1,h2,q⟩=>gD pins s σ H xs us Q I r ⟨p,ys,h1,h2,q⟩
theorem wI (e:X.K=K:=by rfl):iU X (qF K):=by subst e;exact nZ
theorem wE (e:X.K=K:=by rfl):iU X (ql K):=by subst e;exact pr
inductive vQ (K:PySem.W.Frag) (xs:List V) (H:Hp) (Q:VK):Prop
 | mk (l:Addr) (bs:List Bool) (h0:xs=[.ref l]) (h1:aD K H l (bs.map V.bl)) (h2:Q (.bl (bs.all id)) H)
def xc (K:PySem.W.Frag):List V→Hp→VK→Prop:=fun xs H Q=>vQ K xs H Q
theorem oQ (hc:X.calm=true) (e:X.K=K:=by rfl):bE X (.builtin "all") (xc K):=by subst e;exact fun pins s σ H xs us Q I r ⟨l,bs,h1,h2,q⟩=>qy hc pins s σ H xs us Q I r ⟨l,bs,h1,h2,q⟩
theorem fw {pos:Pos}{es:List Expr}{k:Nat}{t:jM}{n:Nat} (hc:X.calm=true) (h:qc X es t) (e:X.K=K:=by rfl)
 (hn:(assignEach es X.env).length=n:=by rfl) (hst:(assignEach es X.env).findIdx? (·.1)=none:=by rfl):PG X (.Tuple es k pos) (t6 K n t):=by
 subst e;exact mn hc h hn hst
theorem pF {tg l:Expr}{tl:TE} (hl:PE X l tl) (e:X.K=K:=by rfl):PI X tg l (r9 K tl):=by subst e;exact sV hl
end
end L2
namespace L2
open PySem PySem.Spec PyProof.Rows
def kz:Expr→Bool
 | .Starred ..=>false
 | _=>true
theorem pN {e:Expr}{es:List Expr}{env:Env} (h:kz e=true):starEach (e :: es) env=(false,eval e env) :: starEach es env:=by
 cases e <;> first | rfl | (simp [kz] at h)
section
variable {X:Cx}{e:Expr}{es:List Expr}{te:TE}{t:TA}
theorem ur (ha:PE X e te) (hr:PA X es t) (hs:kz e=true:=by rfl):PA X (e :: es) (j9 te t):=aT ha hr (pN hs)
theorem pw (i:Nat) {x:Str}{pos:Pos} (hv:pJ X.env.scope x) (hN:X.N[i]?=some x:=by rfl) (hd:(x==("__debug__" : Str))=false:=by decide) (hcd:(x==("__classdict__" : Str))=false:=by decide):PE X (.Name x pos) (mv i):=pj hN hv hd hcd
end
end L2
namespace KM
theorem gcd_fmod (n d:Int):Int.gcd d (n.fmod d)=Int.gcd n d:=by
 apply Nat.dvd_antisymm
 ·apply Int.dvd_gcd
  ·have h1:((Int.gcd d (n.fmod d):Nat):Int) ∣ d:=Int.gcd_dvd_left ..
   have h2:((Int.gcd d (n.fmod d):Nat):Int) ∣ n.fmod d:=Int.gcd_dvd_right ..
   have h3:=Int.dvd_add h2 (Int.dvd_mul_of_dvd_left (c:=n.fdiv d) h1)
   rw [Int.fmod_add_mul_fdiv] at h3
   exact h3
  ·exact Int.gcd_dvd_left ..
 ·apply Int.dvd_gcd
  ·exact Int.gcd_dvd_right ..
  ·rw [Int.fmod_def]
   exact Int.dvd_sub (Int.gcd_dvd_left ..) (Int.dvd_mul_of_dvd_left (Int.gcd_dvd_right ..))
theorem fmod_natAbs_lt (n d:Int) (h:d≠0):(n.fmod d).natAbs<d.natAbs:=by
 rcases Int.lt_trichotomy d 0 with hd | hd | hd
 ·have e:n.fmod d=-((-n).fmod (-d)):=by
   rw [Int.fmod_def,Int.fmod_def]
   have:(-n).fdiv (-d)=n.fdiv d:=Int.neg_fdiv_neg n d
   rw [this,Int.neg_mul];trivial
  have h1:=Int.fmod_nonneg_of_pos (-n) (b:=-d) (by trivial)
  have h2:=Int.fmod_lt_of_pos (-n) (b:=-d) (by trivial)
  trivial
 ·exact absurd hd h
 ·have h1:=Int.fmod_nonneg_of_pos n hd
  have h2:=Int.fmod_lt_of_pos n hd
  trivial
theorem gcd_zero_abs (n:Int):((Int.gcd n 0:Nat):Int)=if n<0 then -n else n:=by
 rw [Int.gcd_zero_right]
 split <;> trivial
theorem gcd_emod (n d:Int):Int.gcd d (n % d)=Int.gcd n d:=by
 by_cases h:d=0
 ·subst h;rw [Int.emod_zero,Int.gcd_comm]
 ·apply Nat.dvd_antisymm
  ·apply Int.dvd_gcd
   ·have h1:((Int.gcd d (n % d):Nat):Int) ∣ d:=Int.gcd_dvd_left ..
    have h2:((Int.gcd d (n % d):Nat):Int) ∣ n % d:=Int.gcd_dvd_right ..
    have h3:=Int.dvd_add h2 (Int.dvd_mul_of_dvd_left (c:=n / d) h1)
    rw [Int.emod_add_mul_ediv] at h3
    exact h3
   ·exact Int.gcd_dvd_left ..
  ·apply Int.dvd_gcd
   ·exact Int.gcd_dvd_right ..
   ·rw [Int.emod_def]
    exact Int.dvd_sub (Int.gcd_dvd_left ..) (Int.dvd_mul_of_dvd_left (Int.gcd_dvd_right ..))
end KM
namespace KM
def low (n d:Int):Int×Int:=if 0<d then (n / (Int.gcd n d:Nat),d / (Int.gcd n d:Nat)) else (-n / (Int.gcd n d:Nat),-d / (Int.gcd n d:Nat))
theorem gcd_pos {n d:Int} (h:d≠0):0<Int.gcd n d:=by
 apply Nat.pos_of_ne_zero
 intro e
 exact h (Int.gcd_eq_zero_iff.mp e).2
theorem gcd_abs (n d:Int):Int.gcd (if n<0 then -n else n) (if d<0 then -d else d)=Int.gcd n d:=by
 split <;> split <;> simp [Int.gcd_neg,Int.neg_gcd]
theorem low_spec (n d:Int) (h:d≠0):1≤(low n d).2∧(low n d).1*d=n*(low n d).2∧Int.gcd (low n d).1 (low n d).2=1∧(low n d).1.natAbs≤n.natAbs∧(low n d).2.natAbs≤d.natAbs:=by
 have g0:=gcd_pos (n:=n) h
 have gi:((Int.gcd n d:Nat):Int)≠0:=by trivial
 have d1:((Int.gcd n d:Nat):Int) ∣ n:=Int.gcd_dvd_left ..
 have d2:((Int.gcd n d:Nat):Int) ∣ d:=Int.gcd_dvd_right ..
 obtain ⟨a,ha⟩:=d1
 obtain ⟨b,hb⟩:=d2
 have ea:n / ((Int.gcd n d:Nat):Int)=a:=by
  conv=>lhs;lhs;rw [ha]
  exact Int.mul_ediv_cancel_left _ gi
 have eb:d / ((Int.gcd n d:Nat):Int)=b:=by
  conv=>lhs;lhs;rw [hb]
  exact Int.mul_ediv_cancel_left _ gi
 have ena:-n / ((Int.gcd n d:Nat):Int)=-a:=by
  have:-n=((Int.gcd n d:Nat):Int)*(-a):=by rw [Int.mul_neg];trivial
  rw [this]
  exact Int.mul_ediv_cancel_left _ gi
 have enb:-d / ((Int.gcd n d:Nat):Int)=-b:=by
  have:-d=((Int.gcd n d:Nat):Int)*(-b):=by rw [Int.mul_neg];trivial
  rw [this]
  exact Int.mul_ediv_cancel_left _ gi
 have hco:Int.gcd a b=1:=by
  have:=Int.gcd_ediv_gcd_ediv_gcd (i:=n) (j:=d) g0
  rw [ea,eb] at this
  exact this
 have hgp:(0:Int)<((Int.gcd n d:Nat):Int):=by trivial
 have habs:n.natAbs=Int.gcd n d*a.natAbs:=by
  conv=>lhs;rw [ha]
  rw [Int.natAbs_mul];rfl
 have hbbs:d.natAbs=Int.gcd n d*b.natAbs:=by
  conv=>lhs;rw [hb]
  rw [Int.natAbs_mul];rfl
 have la:a.natAbs≤n.natAbs:=by rw [habs];exact Nat.le_mul_of_pos_left _ g0
 have lb:b.natAbs≤d.natAbs:=by rw [hbbs];exact Nat.le_mul_of_pos_left _ g0
 have hab:a*d=n*b:=by
  generalize ((Int.gcd n d:Nat):Int)=g at ha hb
  subst ha hb
  rw [Int.mul_comm g a,Int.mul_assoc]
 unfold low
 split
 ·rename_i hd
  refine ⟨?_,?_,?_,?_,?_⟩
  ·show 1≤d / _
   rw [eb]
   have:0<b:=by
    apply Int.pos_of_mul_pos_right (a:=((Int.gcd n d:Nat):Int)) _ hgp
    rw [←hb];exact hd
   trivial
  ·show n / _*d=n*(d / _)
   rw [ea,eb];exact hab
  ·show Int.gcd (n / _) (d / _)=1
   rw [ea,eb];exact hco
  ·show (n / _).natAbs≤_
   rw [ea];exact la
  ·show (d / _).natAbs≤_
   rw [eb];exact lb
 ·rename_i hd
  refine ⟨?_,?_,?_,?_,?_⟩
  ·show 1≤-d / _
   rw [enb]
   have:0 < -b:=by
    apply Int.pos_of_mul_pos_right (a:=((Int.gcd n d:Nat):Int)) _ hgp
    rw [Int.mul_neg,←hb];trivial
   trivial
  ·show -n / _*d=n*(-d / _)
   rw [ena,enb,Int.neg_mul,Int.mul_neg,hab]
  ·show Int.gcd (-n / _) (-d / _)=1
   rw [ena,enb,Int.gcd_neg,Int.neg_gcd];exact hco
  ·show (-n / _).natAbs≤_
   rw [ena,Int.natAbs_neg];exact la
  ·show (-d / _).natAbs≤_
   rw [enb,Int.natAbs_neg];exact lb
end KM
namespace KM
theorem qo {n d a b:Int} (hd:d≠0) (hb:1≤b) (hg:Int.gcd a b=1) (he:a*d=n*b):low n d=(a,b):=by
 obtain ⟨h1,h2,h3,_,_⟩:=low_spec n d hd
 generalize low n d=z at *
 obtain ⟨x,y⟩:=z
 dsimp only at h1 h2 h3
 have e1:x*b=a*y:=by
  apply Int.eq_of_mul_eq_mul_right hd
  calc x*b*d=(x*d)*b:=by rw [Int.mul_assoc,Int.mul_comm b d,←Int.mul_assoc]
   _=n*y*b:=by rw [h2]
   _=(n*b)*y:=by rw [Int.mul_assoc,Int.mul_comm y b,←Int.mul_assoc]
   _=a*d*y:=by rw [he]
   _=a*y*d:=by rw [Int.mul_assoc,Int.mul_comm d y,←Int.mul_assoc]
 have d1:y ∣ b:=by
  apply Int.natAbs_dvd_natAbs.mp
  apply Nat.Coprime.dvd_of_dvd_mul_left (k:=y.natAbs) (m:=x.natAbs)
  ·show Nat.gcd y.natAbs x.natAbs=1
   rw [Nat.gcd_comm];exact h3
  ·rw [←Int.natAbs_mul]
   exact Int.natAbs_dvd_natAbs.mpr ⟨a,by rw [e1,Int.mul_comm]⟩
 have d2:b ∣ y:=by
  apply Int.natAbs_dvd_natAbs.mp
  apply Nat.Coprime.dvd_of_dvd_mul_left (k:=b.natAbs) (m:=a.natAbs)
  ·show Nat.gcd b.natAbs a.natAbs=1
   rw [Nat.gcd_comm];exact hg
  ·rw [←Int.natAbs_mul]
   exact Int.natAbs_dvd_natAbs.mpr ⟨x,by rw [←e1,Int.mul_comm]⟩
 have e2:y=b:=Int.dvd_antisymm (by trivial) (by trivial) d1 d2
 subst e2
 have e3:x=a:=Int.eq_of_mul_eq_mul_right (by trivial) e1
 rw [e3]
theorem low_self {a b:Int} (hb:1≤b) (hg:Int.gcd a b=1):low a b=(a,b):=qo (by trivial) hb hg rfl
section
variable {p0 p1 q0 q1:Int}
end
end KM
namespace KM
abbrev Fra:=Int×Int
end KM
namespace KM
end KM
namespace L2
open PySem PySem.Spec PyProof.Rows
section
variable {prog:Program}{w:World}{A:Around}{E:Value→Shared→Prop}{s:Shared}
theorem oJ {it t:Addr}{i:Nat}{its:Array Value}{x:Value}{Q:Value→Shared→Prop} (hit:s.heap.IsTupleIter it t i) (ht:s.heap.IsTuple t its) (hx:its[i]?=some x)
 (q:∀h',h'.IsTupleIter it t (i+1)→Heap.SameBut it s.heap h'→Q x { s with heap:=h' }):wpAny (model prog w) A (Builtin.SmallTypes.nextOf (.ref it)) Q E s:=by
 obtain ⟨o,e1,e2,e3⟩:=id hit;obtain ⟨u,e4,_,k,e5⟩:=ht;unfold Builtin.SmallTypes.nextOf
 refine wpAny_bind (wpAny_callSpecial?_slot (name:=Str.ofString "__next__") hit.typeIs F.slot_tuple_iterator_next (wpAny_call_entry F.slot_tuple_iterator_next hit.typeIs F.entry_tuple_iterator_next ?_ (F.args_tuple_iterator_next_1 _)))
 show wpAny _ _ (field (.ref it) 0 >>= _) _ _ s;refine wpAny_bind (wpAny_field e1 e3 (x:=.ref t) rfl ?_)
 show wpAny _ _ (if (Value.ref t==Value.none)=true then _ else _) _ _ s;rw [if_neg (show ¬((Value.ref t==Value.none)=true) from Bool.false_ne_true)]
 show wpAny _ _ (field (.ref it) 1 >>= _) _ _ s;refine wpAny_bind (wpAny_field e1 e3 (x:=.int i 0) rfl ?_)
 show wpAny _ _ (seqItems? (.ref t) >>= _) _ _ s;refine wpAny_bind (wpAny_seqItems e4 e5 ?_)
 simp only [Int.toNat_natCast,hx];refine wpAny_bind (wpAny_setField e1 e3 (by simp) (wpAny_pure ⟨x,rfl,wpAny_pure (q _ ?_ (Heap.SameBut.update ..))⟩))
 exact ⟨_,Heap.get?_update_self _ e1 (Obj.isFreed_of_fields (Obj.data_mapFields e3 _)),(Obj.cls_mapFields ..).trans e2,by rw [Obj.data_mapFields e3];simp [rawInt]⟩
theorem lM {it t:Addr}{i:Nat}{its:Array Value}{Q:Value→Shared→Prop} (hh:A.handled=none) (hit:s.heap.IsTupleIter it t i) (ht:s.heap.IsTuple t its) (hx:its[i]?=none)
 (q:∀h' e,Heap.ExtBut it s.heap h'→(∃o,h'.get? e=some o∧o.cls=.type "StopIteration")→E (.ref e) { s with heap:=h' }):wpAny (model prog w) A (Builtin.SmallTypes.nextOf (.ref it)) Q E s:=by
 obtain ⟨o,e1,e2,e3⟩:=id hit;obtain ⟨u,e4,_,k,e5⟩:=ht;unfold Builtin.SmallTypes.nextOf
 refine wpAny_bind (wpAny_callSpecial?_slot (name:=Str.ofString "__next__") hit.typeIs F.slot_tuple_iterator_next (wpAny_call_entry F.slot_tuple_iterator_next hit.typeIs F.entry_tuple_iterator_next ?_ (F.args_tuple_iterator_next_1 _)))
 show wpAny _ _ (field (.ref it) 0 >>= _) _ _ s;refine wpAny_bind (wpAny_field e1 e3 (x:=.ref t) rfl ?_)
 show wpAny _ _ (if (Value.ref t==Value.none)=true then _ else _) _ _ s;rw [if_neg (show ¬((Value.ref t==Value.none)=true) from Bool.false_ne_true)]
 show wpAny _ _ (field (.ref it) 1 >>= _) _ _ s;refine wpAny_bind (wpAny_field e1 e3 (x:=.int i 0) rfl ?_)
 show wpAny _ _ (seqItems? (.ref t) >>= _) _ _ s;refine wpAny_bind (wpAny_seqItems e4 e5 ?_)
 simp only [Int.toNat_natCast,hx];refine wpAny_bind (wpAny_rule (wpAny_bind (wpAny_setField e1 e3 (by simp) ?_)))
 show wpAny _ _ (newExc (.type "StopIteration") [] >>= _) _ _ _;refine wpAny_bind ?_;simp only [newExc,newTuple]
 refine wpAny_bind (wpAny_newObj_type ?_ (by size_fits));refine wpAny_bind (m:=firstArgMember _ _) (wpAny_of_eq (a:=Value.none) (by first | rfl | (simp only [firstArgMember];rfl)) ?_);refine wpAny_newObj_type ?_ (by size_fits)
 simp only [raiseNew];refine wpAny_bind (wpAny_handled ?_);first | rw [show A.in1.handled=none from hh] | rw [hh]
 refine wpAny_bind (wpAny_pure (wpAny_throw ?_));exact q _ _ (((Heap.SameBut.update ..).extBut.push _).push _) ⟨_,Heap.get?_push_size _ rfl,rfl⟩
end
def dn (h:Heap) (l:Addr) (its:Array Value):Bool→Prop
 | true=>h.IsList l its
 | false=>h.IsTuple l its
def cE (h:Heap) (it l:Addr) (i:Nat):Bool→Prop
 | true=>h.IsListIter it l i
 | false=>h.IsTupleIter it l i
theorem dn.at {h h':Heap}{l:Addr}{its:Array Value}:∀{b:Bool},dn h l its b→(∀o,h.get? l=some o→h'.get? l=some o)→dn h' l its b
 | true,q,k=>Heap.IsList.at q k
 | false,q,k=>Heap.IsTuple.at q k
theorem cE.at {h h':Heap}{it l:Addr}{i:Nat}:∀{b:Bool},cE h it l i b→(∀o,h.get? it=some o→h'.get? it=some o)→cE h' it l i b
 | true,q,k=>Heap.IsListIter.at q k
 | false,q,k=>Heap.IsTupleIter.at q k
theorem dn.lt {h:Heap}{l:Addr}{its:Array Value}:∀{b:Bool},dn h l its b→l<h.objs.size
 | true,⟨_,e,_⟩=>Heap.lt_size e
 | false,⟨_,e,_⟩=>Heap.lt_size e
theorem cE.some {h:Heap}{it l:Addr}{i:Nat}:∀{b:Bool},cE h it l i b→∃o,h.get? it=some o∧∀v,o.data≠.cell v
 | true,⟨o,e,_,d⟩=>⟨o,e,fun v z=>by rw [d] at z;cases z⟩
 | false,⟨o,e,_,d⟩=>⟨o,e,fun v z=>by rw [d] at z;cases z⟩
theorem hR {prog:Program}{w:World}{A:Around} (hh:A.handled=none) (it l:Addr) (hne:l≠it) (its:Array Value):∀b:Bool,
 Draws prog w A it [it,l] its.size (fun i v=>its[i]?=some v) (fun i h=>cE h it l i b∧dn h l its b)
 | true=>Draws.list hh it l hne its
 | false=>{
  live:=fun _ _ st=>let ⟨o,ho,_⟩:=st.1;⟨o,ho⟩
  frame:=fun _ _ _ st hk=>⟨Heap.IsTupleIter.at st.1 fun o e=>hk it (by simp) o e,Heap.IsTuple.at st.2 fun o e=>hk l (by simp) o e⟩
  item:=fun i s Q E hi st q=>oJ st.1 st.2 (x:=its[i]) (by simp [hi]) fun h' it' same=>q _ h' s.toks (by simp [hi]) ⟨it',Heap.IsTuple.extBut st.2 same.extBut hne⟩ same
  done:=fun s Q E st q=>lM hh st.1 st.2 (by simp) q }
structure jg (z TI TO i1 i2:Addr):Prop where
 a1:TI≠z
 a2:TO≠z
 a3:i1≠z
 a4:i2≠z
 a5:TI≠TO
 a6:TI≠i1
 a7:TI≠i2
 a8:TO≠i1
 a9:TO≠i2
 a0:i1≠i2
section
variable {prog:Program}{w:World}{A:Around}{E:Value→Shared→Prop}{s:Shared}
variable {z TI TO i1 i2 l1 l2:Addr}{k:Nat}{xs ys:Array Value}{a b:Value}{c1 c2:Bool}
theorem sO {x y:Value}{Q:Value→Shared→Prop} (D:jg z TI TO i1 i2) (n1:∀c,c=l1∨c=l2→c≠z∧c≠TO∧c≠i1∧c≠i2)
 (hz:IsZip s.heap z TI TO .none) (hTI:IsPair s.heap TI (.ref i1) (.ref i2)) (hTO:IsPair s.heap TO a b) (hh:A.handled=none)
 (h1:cE s.heap i1 l1 k c1) (h2:cE s.heap i2 l2 k c2) (q1:dn s.heap l1 xs c1) (q2:dn s.heap l2 ys c2) (hx:xs[k]?=some x) (hy:ys[k]?=some y)
 (hQ:∀h' tk,IsZip h' z TI TO (rawInt s.heap.objs.size)→IsPair h' TO x y→cE h' i1 l1 (k+1) c1→cE h' i2 l2 (k+1) c2→IsPair h' s.heap.objs.size x y→h'.objs.size=s.heap.objs.size+1→
  (∀c o,c≠z→c≠TO→c≠i1→c≠i2→s.heap.get? c=some o→h'.get? c=some o)→Q (.ref s.heap.objs.size) { s with heap:=h',toks:=tk }) :
 wpAny (model prog w) A (Builtin.«zip.__next__» ⟨[.ref z],[]⟩) (fun fin s'=>∃v,fin=.done (.ret v)∧Q v s') E s:=by
 obtain ⟨m1,m2,m3,m4⟩:=n1 l1 (.inl rfl)
 obtain ⟨m5,m6,m7,m8⟩:=n1 l2 (.inr rfl)
 have kx:k<xs.size:=(Array.getElem?_eq_some_iff.mp hx).1
 have ky:k<ys.size:=(Array.getElem?_eq_some_iff.mp hy).1
 have D1:=hR (prog:=prog) (w:=w) hh i1 l1 m3 xs c1
 have D2:=hR (prog:=prog) (w:=w) hh i2 l2 m8 ys c2
 show wpAny _ _ (field (.ref z) 2 >>= _) _ _ _;refine wpAny_bind (wpAny_field hz rfl (x:=.bool false) rfl ?_)
 show wpAny _ _ (field (.ref z) 3 >>= _) _ _ _;refine wpAny_bind (wpAny_field hz rfl (x:=.ref TI) rfl (wpAny_bind (wpAny_seqItems hTI rfl ?_)))
 show wpAny _ _ (Builtin.SmallTypes.ownedTupleIsFree (.ref z) >>= _) _ _ _;refine wpAny_bind ?_;unfold Builtin.SmallTypes.ownedTupleIsFree
 refine wpAny_bind (wpAny_field hz rfl (x:=.none) rfl (wpAny_pure ?_));simp only [if_true]
 refine wpAny_bind (wpAny_rule (wpAny_bind (wpAny_field hz rfl (x:=.ref TO) rfl (wpAny_bind (wpAny_setField_rec hz (by simp) fun g1 z1 t1=>?_)))))
 replace z1:IsZip g1 z TI TO .ellipsis:=z1
 refine wpAny_bind ?_;simp only [List.zipIdx_cons,List.zipIdx_nil,List.forIn_cons,List.forIn_nil];refine wpAny_bind (wpAny_bind (wpAny_onRaise ?_))
 show wpAny _ _ (Builtin.SmallTypes.nextOf (.ref i1) >>= _) _ _ _
 refine wpAny_bind (D1.item k _ _ _ kx ⟨h1.at fun o e=>t1.extBut _ _ D.a3 e,q1.at fun o e=>t1.extBut _ _ m1 e⟩ fun x' g2 tk2 p1 st1 t2=>wpAny_pure ?_)
 have ex:x=x':=Option.some.inj (hx.symm.trans p1)
 subst ex
 have TO2:IsPair g2 TO a b:=t2.extBut _ _ D.a8 (t1.extBut _ _ D.a2 hTO)
 refine wpAny_bind (wpAny_seqItems TO2 rfl (wpAny_bind (wpAny_updateSeq_pair TO2 fun g3 TO3 t3=>?_)))
 replace TO3:IsPair g3 TO x b:=TO3
 refine wpAny_bind (wpAny_letGo (wpAny_pure ?_));refine wpAny_bind (wpAny_bind (wpAny_onRaise ?_));show wpAny _ _ (Builtin.SmallTypes.nextOf (.ref i2) >>= _) _ _ _
 refine wpAny_bind (D2.item k _ _ _ ky ⟨h2.at fun o e=>t3.extBut _ _ D.a9.symm (t2.extBut _ _ D.a0.symm (t1.extBut _ _ D.a4 e)),q2.at fun o e=>t3.extBut _ _ m6 (t2.extBut _ _ m7 (t1.extBut _ _ m5 e))⟩ fun y' g4 tk4 p2 st2 t4=>wpAny_pure ?_)
 have ey:y=y':=Option.some.inj (hy.symm.trans p2)
 subst ey
 have TO4:IsPair g4 TO x b:=t4.extBut _ _ D.a9 TO3
 refine wpAny_bind (wpAny_seqItems TO4 rfl (wpAny_bind (wpAny_updateSeq_pair TO4 fun g5 TO5 t5=>?_)))
 replace TO5:IsPair g5 TO x y:=TO5
 refine wpAny_bind (wpAny_letGo (wpAny_pure (wpAny_pure ?_)));refine wpAny_bind (wpAny_seqItems TO5 rfl (wpAny_bind (wpAny_newTuple ?_)))
 have sz:g5.objs.size=s.heap.objs.size:=by rw [t5.1,t4.1,t3.1,t2.1,t1.1]
 have z5:IsZip g5 z TI TO .ellipsis:=t5.extBut _ _ D.a2.symm (t4.extBut _ _ D.a4.symm (t3.extBut _ _ D.a2.symm (t2.extBut _ _ D.a3.symm z1)))
 have keep:∀c o,c≠z→c≠TO→c≠i1→c≠i2→s.heap.get? c=some o→g5.get? c=some o:=fun c o d1 d2 d3 d4 e=>t5.extBut _ _ d2 (t4.extBut _ _ d4 (t3.extBut _ _ d2 (t2.extBut _ _ d3 (t1.extBut _ _ d1 e))))
 have it1:cE g5 i1 l1 (k+1) c1:=st1.1.at fun o e=>t5.extBut _ _ D.a8.symm (t4.extBut _ _ D.a0 (t3.extBut _ _ D.a8.symm e))
 have it2:cE g5 i2 l2 (k+1) c2:=st2.1.at fun o e=>t5.extBut _ _ D.a9.symm e
 have zlt:z<g5.objs.size:=Heap.lt_size z5
 show wpAny _ _ (Builtin.SmallTypes.ownedTupleHandOut (.ref z) (.ref g5.objs.size) >>= _) _ _ _;refine wpAny_bind ?_;unfold Builtin.SmallTypes.ownedTupleHandOut
 have z6:IsZip (g5.push { cls:=.type "tuple",data:=.seq #[x,y] }) z TI TO .ellipsis:=Heap.get?_push_of_some _ z5
 refine wpAny_bind (wpAny_setField_rec z6 (by simp) fun g7 z7 t7=>?_)
 replace z7:IsZip g7 z TI TO (rawInt g5.objs.size):=z7
 refine wpAny_setField_rec z7 (by simp) fun g8 z8 t8=>?_
 replace z8:IsZip g8 z TI TO (rawInt g5.objs.size):=z8
 have up:∀c o,c≠z→g5.get? c=some o→g8.get? c=some o:=fun c o d e=>t8.extBut _ _ d (t7.extBut _ _ d (Heap.get?_push_of_some _ e))
 have T8:IsPair g8 g5.objs.size x y:=t8.extBut _ _ (Nat.ne_of_gt zlt) (t7.extBut _ _ (Nat.ne_of_gt zlt) (Heap.get?_push_size _ rfl))
 have s8:g8.objs.size=g5.objs.size+1:=by rw [t8.1,t7.1,Heap.size_push]
 rw [sz] at z8 T8 s8
 refine wpAny_pure ⟨(),?_⟩;show Q (.ref g5.objs.size) _;rw [sz]
 exact hQ g8 _ z8 (up _ _ D.a2 TO5) (it1.at fun o e=>up _ o D.a3 e) (it2.at fun o e=>up _ o D.a4 e) T8 s8 fun c o d1 d2 d3 d4 e=>up c o d1 (keep c o d1 d2 d3 d4 e)
theorem tS {Q:Fin→Shared→Prop} (hh:A.handled=none) (D:jg z TI TO i1 i2) (n1:∀c,c=l1∨c=l2→c≠z∧c≠TO∧c≠i1∧c≠i2)
 (hz:IsZip s.heap z TI TO .none) (hTI:IsPair s.heap TI (.ref i1) (.ref i2)) (hTO:IsPair s.heap TO a b)
 (h1:cE s.heap i1 l1 k c1) (h2:cE s.heap i2 l2 k c2) (q1:dn s.heap l1 xs c1) (q2:dn s.heap l2 ys c2) (hend:xs.size=k∨(k<xs.size∧ys.size=k))
 (hE:∀h' e tk,(∀c o,c≠z→c≠TO→c≠i1→c≠i2→s.heap.get? c=some o→h'.get? c=some o)→(∃o,h'.get? e=some o∧o.cls=.type "StopIteration")→E (.ref e) { s with heap:=h',toks:=tk }) :
 wpAny (model prog w) A (Builtin.«zip.__next__» ⟨[.ref z],[]⟩) Q E s:=by
 obtain ⟨m1,m2,m3,m4⟩:=n1 l1 (.inl rfl)
 obtain ⟨m5,m6,m7,m8⟩:=n1 l2 (.inr rfl)
 have D1:=hR (prog:=prog) (w:=w) hh i1 l1 m3 xs c1
 have D2:=hR (prog:=prog) (w:=w) hh i2 l2 m8 ys c2
 show wpAny _ _ (field (.ref z) 2 >>= _) _ _ _;refine wpAny_bind (wpAny_field hz rfl (x:=.bool false) rfl ?_)
 show wpAny _ _ (field (.ref z) 3 >>= _) _ _ _;refine wpAny_bind (wpAny_field hz rfl (x:=.ref TI) rfl (wpAny_bind (wpAny_seqItems hTI rfl ?_)))
 show wpAny _ _ (Builtin.SmallTypes.ownedTupleIsFree (.ref z) >>= _) _ _ _;refine wpAny_bind ?_;unfold Builtin.SmallTypes.ownedTupleIsFree
 refine wpAny_bind (wpAny_field hz rfl (x:=.none) rfl (wpAny_pure ?_));simp only [if_true]
 refine wpAny_bind (wpAny_rule (wpAny_bind (wpAny_field hz rfl (x:=.ref TO) rfl (wpAny_bind (wpAny_setField_rec hz (by simp) fun g1 z1 t1=>?_)))))
 replace z1:IsZip g1 z TI TO .ellipsis:=z1
 refine wpAny_bind ?_;simp only [List.zipIdx_cons,List.zipIdx_nil,List.forIn_cons,List.forIn_nil];refine wpAny_bind (wpAny_bind (wpAny_onRaise ?_))
 show wpAny _ _ (Builtin.SmallTypes.nextOf (.ref i1) >>= _) _ _ _
 have st0:cE g1 i1 l1 k c1∧dn g1 l1 xs c1:=⟨h1.at fun o e=>t1.extBut _ _ D.a3 e,q1.at fun o e=>t1.extBut _ _ m1 e⟩
 rcases hend with hk | ⟨kx,hk⟩
 ·refine wpAny_bind (D1.done _ _ _ (by rw [hk];exact st0) fun g2 e t2 he=>?_)
  obtain ⟨oe,e1,e2⟩:=he
  have z2:IsZip g2 z TI TO .ellipsis:=t2 _ _ D.a3.symm z1
  have ez:e≠z:=fun q=>by subst q;rw [z2] at e1;cases e1;simp at e2
  exact wpAny_setField_rec z2 (by simp) fun g3 _ t3=>hE g3 e _ (fun c o d1 _ d3 _ q=>t3.extBut _ _ d1 (t2 _ _ d3 (t1.extBut _ _ d1 q))) ⟨oe,t3.extBut _ _ ez e1,e2⟩
 ·refine wpAny_bind (D1.item k _ _ _ kx st0 fun x g2 tk2 p1 st1 t2=>wpAny_pure ?_)
  have TO2:IsPair g2 TO a b:=t2.extBut _ _ D.a8 (t1.extBut _ _ D.a2 hTO)
  refine wpAny_bind (wpAny_seqItems TO2 rfl (wpAny_bind (wpAny_updateSeq_pair TO2 fun g3 TO3 t3=>?_)))
  refine wpAny_bind (wpAny_letGo (wpAny_pure ?_));refine wpAny_bind (wpAny_bind (wpAny_onRaise ?_));show wpAny _ _ (Builtin.SmallTypes.nextOf (.ref i2) >>= _) _ _ _
  have st2:cE g3 i2 l2 k c2∧dn g3 l2 ys c2:=⟨h2.at fun o e=>t3.extBut _ _ D.a9.symm (t2.extBut _ _ D.a0.symm (t1.extBut _ _ D.a4 e)),q2.at fun o e=>t3.extBut _ _ m6 (t2.extBut _ _ m7 (t1.extBut _ _ m5 e))⟩
  refine wpAny_bind (D2.done _ _ _ (by rw [hk];exact st2) fun g4 e t4 he=>?_)
  obtain ⟨oe,e1,e2⟩:=he
  have z4:IsZip g4 z TI TO .ellipsis:=t4 _ _ D.a4.symm (t3.extBut _ _ D.a2.symm (t2.extBut _ _ D.a3.symm z1))
  have ez:e≠z:=fun q=>by subst q;rw [z4] at e1;cases e1;simp at e2
  exact wpAny_setField_rec z4 (by simp) fun g5 _ t5=>hE g5 e _ (fun c o d1 d2 d3 d4 q=>t5.extBut _ _ d1 (t4 _ _ d4 (t3.extBut _ _ d2 (t2.extBut _ _ d3 (t1.extBut _ _ d1 q))))) ⟨oe,t5.extBut _ _ ez e1,e2⟩
end
def vm:Bool→String
 | true => "list_iterator"
 | false => "tuple_iterator"
abbrev zA (h:Heap) (l1:Addr) (c1:Bool):Heap:=h.push { cls:=.type (vm c1),data:=.fields #[.ref l1,.int 0 0] }
abbrev zB (h:Heap) (l1 l2:Addr) (c1 c2:Bool):Heap:=(zA h l1 c1).push { cls:=.type (vm c2),data:=.fields #[.ref l2,.int 0 0] }
abbrev zC (h:Heap) (l1 l2:Addr) (c1 c2:Bool):Heap:=(zB h l1 l2 c1 c2).push { cls:=.type "tuple",data:=.seq #[.ref h.objs.size,.ref (zA h l1 c1).objs.size] }
abbrev zD (h:Heap) (l1 l2:Addr) (c1 c2:Bool):Heap:=(zC h l1 l2 c1 c2).push { cls:=.type "tuple",data:=.seq #[.none,.none] }
abbrev zE (h:Heap) (l1 l2:Addr) (c1 c2:Bool):Heap:=(zD h l1 l2 c1 c2).push { cls:=.type "zip",data:=.fields #[.none,.bool false,.bool false,.ref (zB h l1 l2 c1 c2).objs.size,.ref (zC h l1 l2 c1 c2).objs.size] }
set_option maxHeartbeats 8000000 in
theorem vc (l1 l2:Addr) (xs ys:Array Value) (c1 c2:Bool) :
 Meets (Builtin.«zip.__new__» ⟨[.type "zip",.ref l1,.ref l2],[]⟩) (fun _ R s=>dn s.heap l1 xs c1∧dn s.heap l2 ys c2∧R (.ok (.ret (.ref (zD s.heap l1 l2 c1 c2).objs.size))) { s with heap:=zE s.heap l1 l2 c1 c2 }):=
 .of_wp fun prog w A R s h=>by
  obtain ⟨hp,g,d,tk,os⟩:=s;obtain ⟨q1,q2,h⟩:=h
  have hsub:=sub_zip
  have L2':dn (Shared.heap ⟨zA hp l1 c1,g,d,tk,os⟩) l2 ys c2:=dn.at q2 fun o e=>Heap.get?_push_of_some _ e
  cases c1 <;> cases c2
  ·have g1:Heap.IsTuple (Shared.heap ⟨hp,g,d,tk,os⟩) l1 xs:=q1
   have g2:Heap.IsTuple (Shared.heap ⟨hp.push { cls:=.type "tuple_iterator",data:=.fields #[.ref l1,.int 0 0] },g,d,tk,os⟩) l2 ys:=L2'
   wp_walk using wpAny_pyIter_tuple g1,wpAny_pyIter_tuple g2
   exact ⟨(),h⟩
  ·have g1:Heap.IsTuple (Shared.heap ⟨hp,g,d,tk,os⟩) l1 xs:=q1
   have g2:Heap.IsList (Shared.heap ⟨hp.push { cls:=.type "tuple_iterator",data:=.fields #[.ref l1,.int 0 0] },g,d,tk,os⟩) l2 ys:=L2'
   wp_walk using wpAny_pyIter_tuple g1,wpAny_pyIter_list g2
   exact ⟨(),h⟩
  ·have g1:Heap.IsList (Shared.heap ⟨hp,g,d,tk,os⟩) l1 xs:=q1
   have g2:Heap.IsTuple (Shared.heap ⟨hp.push { cls:=.type "list_iterator",data:=.fields #[.ref l1,.int 0 0] },g,d,tk,os⟩) l2 ys:=L2'
   wp_walk using wpAny_pyIter_list g1,wpAny_pyIter_tuple g2
   exact ⟨(),h⟩
  ·have g1:Heap.IsList (Shared.heap ⟨hp,g,d,tk,os⟩) l1 xs:=q1
   have g2:Heap.IsList (Shared.heap ⟨hp.push { cls:=.type "list_iterator",data:=.fields #[.ref l1,.int 0 0] },g,d,tk,os⟩) l2 ys:=L2'
   wp_walk using wpAny_pyIter_list g1,wpAny_pyIter_list g2
   exact ⟨(),h⟩
theorem nU {h:Heap}{it l:Addr}:∀{c:Bool},h.get? it=some { cls:=.type (vm c),data:=.fields #[.ref l,.int 0 0] }→cE h it l 0 c
 | true,e=>⟨_,e,rfl,rfl⟩
 | false,e=>⟨_,e,rfl,rfl⟩
section
variable {prog:Program}{w:World}{A:Around}{E:Value→Shared→Prop}{s:Shared}
theorem qb {l1 l2:Addr}{xs ys:Array Value}{c1 c2:Bool}{Q:Value→Shared→Prop} (q1:dn s.heap l1 xs c1) (q2:dn s.heap l2 ys c2)
 (h:∀h',IsZip h' (s.heap.objs.size+4) (s.heap.objs.size+2) (s.heap.objs.size+3) .none→IsPair h' (s.heap.objs.size+2) (.ref s.heap.objs.size) (.ref (s.heap.objs.size+1))→
  IsPair h' (s.heap.objs.size+3) .none .none→cE h' s.heap.objs.size l1 0 c1→cE h' (s.heap.objs.size+1) l2 0 c2→
  (∀c o,s.heap.get? c=some o→h'.get? c=some o)→Q (.ref (s.heap.objs.size+4)) { s with heap:=h' }) :
 wpAny (model prog w) A (call (.type "zip") [.ref l1,.ref l2]) Q E s:=by
 refine callType_new F.called_zip (by decide) (F.typeCall_zip_2 _ _) (F.newCall_zip_2 _ _) (fun obj=>F.args_object_init_3 obj _ _) F.entry_zip_new (vc l1 l2 xs ys c1 c2) ⟨q1,q2,?_⟩
 have s1:(zA s.heap l1 c1).objs.size=s.heap.objs.size+1:=Heap.size_push ..
 have s2:(zB s.heap l1 l2 c1 c2).objs.size=s.heap.objs.size+2:=by rw [Heap.size_push,s1]
 have s3:(zC s.heap l1 l2 c1 c2).objs.size=s.heap.objs.size+3:=by rw [Heap.size_push,s2]
 have s4:(zD s.heap l1 l2 c1 c2).objs.size=s.heap.objs.size+4:=by rw [Heap.size_push,s3]
 have g5:(zE s.heap l1 l2 c1 c2).get? (zD s.heap l1 l2 c1 c2).objs.size=some _:=Heap.get?_push_size _ rfl
 have g4:(zE s.heap l1 l2 c1 c2).get? (zC s.heap l1 l2 c1 c2).objs.size=some _:=Heap.get?_push_of_some _ (Heap.get?_push_size _ rfl)
 have g3:(zE s.heap l1 l2 c1 c2).get? (zB s.heap l1 l2 c1 c2).objs.size=some _:=Heap.get?_push_of_some _ (Heap.get?_push_of_some _ (Heap.get?_push_size _ rfl))
 have g2:(zE s.heap l1 l2 c1 c2).get? (zA s.heap l1 c1).objs.size=some _:=Heap.get?_push_of_some _ (Heap.get?_push_of_some _ (Heap.get?_push_of_some _ (Heap.get?_push_size _ rfl)))
 have g1:(zE s.heap l1 l2 c1 c2).get? s.heap.objs.size=some _:=Heap.get?_push_of_some _ (Heap.get?_push_of_some _ (Heap.get?_push_of_some _ (Heap.get?_push_of_some _ (Heap.get?_push_size _ rfl))))
 show _∧_
 rw [s2,s3,s4] at g5
 rw [s1,s2] at g3
 rw [s3] at g4
 rw [s1] at g2
 rw [s4]
 exact ⟨⟨_,g5,rfl⟩,h _ g5 g3 g4 (nU g1) (nU g2) fun c o x=>Heap.get?_push_of_some _ (Heap.get?_push_of_some _ (Heap.get?_push_of_some _ (Heap.get?_push_of_some _ (Heap.get?_push_of_some _ x))))⟩
theorem kF {z TI TO i1 i2 l1 l2:Addr}{k:Nat}{xs ys:Array Value}{a b x y:Value}{c1 c2:Bool}{Q:Option Value→Shared→Prop} (D:jg z TI TO i1 i2) (n1:∀c,c=l1∨c=l2→c≠z∧c≠TO∧c≠i1∧c≠i2)
 (hz:IsZip s.heap z TI TO .none) (hTI:IsPair s.heap TI (.ref i1) (.ref i2)) (hTO:IsPair s.heap TO a b) (hh:A.handled=none)
 (h1:cE s.heap i1 l1 k c1) (h2:cE s.heap i2 l2 k c2) (q1:dn s.heap l1 xs c1) (q2:dn s.heap l2 ys c2) (hx:xs[k]?=some x) (hy:ys[k]?=some y)
 (hQ:∀h' tk,IsZip h' z TI TO (rawInt s.heap.objs.size)→IsPair h' TO x y→cE h' i1 l1 (k+1) c1→cE h' i2 l2 (k+1) c2→IsPair h' s.heap.objs.size x y→h'.objs.size=s.heap.objs.size+1→
  (∀c o,c≠z→c≠TO→c≠i1→c≠i2→s.heap.get? c=some o→h'.get? c=some o)→Q (some (.ref s.heap.objs.size)) { s with heap:=h',toks:=tk }) :
 wpAny (model prog w) A (pyNext (.ref z)) Q E s:=by
 have hT:s.TypeIs (.ref z) "zip" := ⟨_,hz,rfl⟩
 unfold pyNext
 exact wpAny_bind (wpAny_attempt (wpAny_callSpecial?_slot (name:=Str.ofString "__next__") hT F.slot_zip_next (wpAny_call_entry F.slot_zip_next hT F.entry_zip_next
  (sO D n1 hz hTI hTO hh h1 h2 q1 q2 hx hy fun h' tk a1 a2 a3 a4 a5 a6 a7=>wpAny_pure (hQ h' tk a1 a2 a3 a4 a5 a6 a7)) (F.args_zip_next_1 _))))
theorem lI {z TI TO i1 i2 l1 l2:Addr}{k:Nat}{xs ys:Array Value}{a b:Value}{c1 c2:Bool}{Q:Option Value→Shared→Prop} (hh:A.handled=none) (D:jg z TI TO i1 i2) (n1:∀c,c=l1∨c=l2→c≠z∧c≠TO∧c≠i1∧c≠i2)
 (hz:IsZip s.heap z TI TO .none) (hTI:IsPair s.heap TI (.ref i1) (.ref i2)) (hTO:IsPair s.heap TO a b)
 (h1:cE s.heap i1 l1 k c1) (h2:cE s.heap i2 l2 k c2) (q1:dn s.heap l1 xs c1) (q2:dn s.heap l2 ys c2) (hend:xs.size=k∨(k<xs.size∧ys.size=k))
 (hQ:∀h' tk,(∀c o,c≠z→c≠TO→c≠i1→c≠i2→s.heap.get? c=some o→h'.get? c=some o)→Q none { s with heap:=h',toks:=tk }):wpAny (model prog w) A (pyNext (.ref z)) Q E s:=by
 have hT:s.TypeIs (.ref z) "zip" := ⟨_,hz,rfl⟩
 unfold pyNext
 refine wpAny_bind (wpAny_attempt (wpAny_callSpecial?_slot (name:=Str.ofString "__next__") hT F.slot_zip_next (wpAny_call_entry F.slot_zip_next hT F.entry_zip_next
  (tS hh D n1 hz hTI hTO h1 h2 q1 q2 hend fun h' e tk hk he=>?_) (F.args_zip_next_1 _))))
 obtain ⟨o,ho,hc⟩:=he
 refine wpAny_bind (wpAny_isInstance (T := "StopIteration") (b:=true) ⟨o,ho,hc⟩ isSubtype_stop (wpAny_pure (hQ _ tk hk)))
end
theorem aa.turnedL {X:Cx}{pins:List (Addr×Obj)}{σ:St}{H:Hp}{s:Shared}{h':Heap}{t':Nat}{ch:List Addr} (I:aa X pins σ H s) (hf:∀b∈ch,fS X pins H b) (k:∀b u,b∉ch→s.heap.get? b=some u→h'.get? b=some u) :
 aa X pins σ H { s with heap:=h',toks:=t' }:=by
 refine I.step (g':=s.gens) (d':=s.drawn) (ch:=ch) (fun b hb=>?_) (fun b o _ _ hc e _=>k b o hc e) (fun b o _ _ hc e _=>⟨o.slots,k b o hc e⟩) (fun _ _ _ _ n=>n)
  (fun b o hc e=>⟨o,k b o hc e⟩) (fun _ _ e=>e) (fun _ _ _ e=>e) (fun b ps e=>⟨#[],by rw [e];simp⟩) (fun m hm=>?_) (fun b u e=>?_) I.bare
 ·obtain ⟨f0,f1,f2,f3,f4,f5⟩:=hf b hb
  exact ⟨f3,f1,f4,f5⟩
 ·obtain ⟨o,es,ep,ho,r⟩:=hm
  exact ⟨o,es,ep,k _ o (fun z=>(hf _ z).2.1 rfl) ho,r⟩
 ·refine (I.hok b u e).stay (fun c v hc q=>k c v (fun z=>?_) q) (fun _ q=>q) fun _ _ q=>q
  have hcn:=(hf c z).1
  rcases hc with rfl | hc
  ·rw [e] at hcn;cases hcn
  ·rw [hc] at hcn;cases hcn
def f9 (K:PySem.W.Frag) (H:Hp) (a:Addr) (xs:List V):Bool→Prop
 | true=>aD K H a xs
 | false=>bq K H a xs
theorem aa.seqC {X:Cx}{pins:List (Addr×Obj)}{σ:St}{H:Hp}{s:Shared}{a:Addr}{xs:List V} (I:aa X pins σ H s):∀{c:Bool},f9 X.K H a xs c→∃its:List Value,aw xs its∧dn s.heap a its.toArray c
 | true,q=>let ⟨its,rv,p,_⟩:=I.list q;⟨its,rv,p.isList⟩
 | false,q=>let ⟨its,rv,p,_⟩:=I.tuple q;⟨its,rv,p⟩
theorem aa.seqC_inj {X:Cx}{pins:List (Addr×Obj)}{σ:St}{H:Hp}{s:Shared}{a:Addr}{xs ys:List V} (I:aa X pins σ H s):∀{c:Bool},f9 X.K H a xs c→f9 X.K H a ys c→xs=ys
 | true,p,q=>I.list_inj p q
 | false,p,q=>I.tuple_inj p q
def w9 (K:PySem.W.Frag) (a1 a2:Addr) (c1 c2:Bool):It:=
 ⟨fun i H=>mD fun xs ys x y=>f9 K H a1 xs c1∧f9 K H a2 ys c2∧xs[i]?=some x∧ys[i]?=some y,
  fun i H v H'=>i6 fun T x y=>H T=none∧v=.ref T∧H'=aI H T (.tup [x,y])∧(∀xs,f9 K H a1 xs c1→xs[i]?=some x)∧(∀ys,f9 K H a2 ys c2→ys[i]?=some y),
  fun i H=>aX fun xs ys=>f9 K H a1 xs c1∧f9 K H a2 ys c2∧(xs.length=i∨(i<xs.length∧ys.length=i))⟩
theorem qG {P:Program}{w:World}{K:PySem.W.Frag}{es:List Expr}{kk:Nat}{pos:Pos} (a1 a2 z TI TO i1 i2:Addr) (c1 c2:Bool) (D:jg z TI TO i1 i2) (n1:∀c,c=a1∨c=a2→c≠z∧c≠TO∧c≠i1∧c≠i2) :
 kP P w K (.Tuple es kk pos) (w9 K a1 a2 c1 c2) [z,TO,i1,i2,TI] z (fun i h=>IsZip h z TI TO .none∧IsPair h TI (.ref i1) (.ref i2)∧(aX fun a b=>IsPair h TO a b)∧cE h i1 a1 i c1∧cE h i2 a2 i c2) where
 mem:=by simp
 obj:=fun i h st b hb=>by
  obtain ⟨hz,hTI,⟨a,b',hTO⟩,h1,h2⟩:=st
  have hb':b=z∨b=TO∨b=i1∨b=i2∨b=TI:=by simpa using hb
  rcases hb' with rfl | rfl | rfl | rfl | rfl
  ·exact ⟨_,hz,fun v q=>by have q':Data.fields _=Data.cell v:=q;cases q'⟩
  ·exact ⟨_,hTO,fun v q=>by have q':Data.seq _ _=Data.cell v:=q;cases q'⟩
  ·exact h1.some
  ·exact h2.some
  ·exact ⟨_,hTI,fun v q=>by have q':Data.seq _ _=Data.cell v:=q;cases q'⟩
 keep:=fun i h h' st k=>by
  obtain ⟨hz,hTI,⟨a,b',hTO⟩,h1,h2⟩:=st
  exact ⟨k z (by simp) _ hz,k TI (by simp) _ hTI,⟨a,b',k TO (by simp) _ hTO⟩,h1.at fun o q=>k i1 (by simp) o q,h2.at fun o q=>k i2 (by simp) o q⟩
 item:=by
  intro X hP hw hK hc i pins s σ H E I hf st hg
  subst hP hw hK
  obtain ⟨hz,hTI,⟨a,b',hTO⟩,h1,h2⟩:=st
  obtain ⟨xs,ys,x,y,p1,p2,hx,hy⟩:=hg
  obtain ⟨its1,rv1,k1⟩:=I.seqC p1
  obtain ⟨its2,rv2,k2⟩:=I.seqC p2
  obtain ⟨u,hu,ru⟩:=rv1.get hx
  obtain ⟨v,hv,rw'⟩:=rv2.get hy
  have hnT:H s.heap.objs.size=none:=I.fresh
  refine kF D n1 hz hTI hTO (I.ok.hd hc) h1 h2 k1 k2 (x:=u) (y:=v) (by simpa using hu) (by simpa using hv) fun h' tk zo TO' t1 t2 T' sz keep=>?_
  refine ⟨(),wpAny_letOwnedTupleGo_zip (s:={ s with heap:=h',toks:=tk }) zo fun h2' z2 s2=>?_⟩
  have zlt:z<s.heap.objs.size:=Heap.lt_size hz
  have TOlt:TO<s.heap.objs.size:=Heap.lt_size hTO
  have TIlt:TI<s.heap.objs.size:=Heap.lt_size hTI
  have i1lt:i1<s.heap.objs.size:=let ⟨_,e,_⟩:=h1.some;Heap.lt_size e
  have i2lt:i2<s.heap.objs.size:=let ⟨_,e,_⟩:=h2.some;Heap.lt_size e
  have hT2:h2'.get? s.heap.objs.size=some { cls:=.type "tuple",data:=.seq #[u,v] }:=(s2.2 _ (Nat.ne_of_gt zlt)).trans T'
  refine ⟨.ref s.heap.objs.size,aI H s.heap.objs.size (.tup [x,y]),I.turnedNew (ch:=[z,TO,i1,i2,TI]) (t':=tk) hf (fun b o hb q=>?_) (Nat.le_refl _) ?_,rfl,
   ⟨_,x,y,hnT,rfl,rfl,fun zs hs=>by rw [I.seqC_inj hs p1];exact hx,fun zs hs=>by rw [I.seqC_inj hs p2];exact hy⟩,⟨z2,(s2.2 _ D.a1).trans (keep _ _ D.a1 D.a5 D.a6 D.a7 hTI),⟨_,_,(s2.2 _ D.a2).trans TO'⟩,t1.at fun o e=>(s2.2 _ D.a3).trans e,t2.at fun o e=>(s2.2 _ D.a4).trans e⟩,fun b hb=>?_⟩
  ·have e1:b≠z:=fun q=>hb (by simp [q])
   have e2:b≠TO:=fun q=>hb (by simp [q])
   have e3:b≠i1:=fun q=>hb (by simp [q])
   have e4:b≠i2:=fun q=>hb (by simp [q])
   exact (s2.2 b e1).trans (keep b o e1 e2 e3 e4 q)
  ·exact ⟨by show 2≤sizeLine;decide,[u,v],.cons ru (.cons rw' .nil),⟨_,hT2,rfl,()⟩,_,hT2,rfl⟩
  ·have hb':b=z∨b=TO∨b=i1∨b=i2∨b=TI:=by simpa using hb
   have hlt:b<s.heap.objs.size:=by rcases hb' with rfl | rfl | rfl | rfl | rfl <;> assumption
   rw [ap (Nat.ne_of_lt hlt)]
   exact (hf b hb).1
 done:=by
  intro X hP hw hK hc i pins s σ H E I hf st hg
  subst hP hw hK
  obtain ⟨hz,hTI,⟨a,b',hTO⟩,h1,h2⟩:=st
  obtain ⟨xs,ys,p1,p2,hl⟩:=hg
  obtain ⟨its1,rv1,k1⟩:=I.seqC p1
  obtain ⟨its2,rv2,k2⟩:=I.seqC p2
  have l1:=rv1.length
  have l2:=rv2.length
  refine lI (I.ok.hd hc) D n1 hz hTI hTO h1 h2 k1 k2 (by simp;trivial) fun h' tk keep=>⟨rfl,I.turnedL (ch:=[z,TO,i1,i2,TI]) (t':=tk) hf fun b o hb q=>?_⟩
  exact keep b o (fun q=>hb (by simp [q])) (fun q=>hb (by simp [q])) (fun q=>hb (by simp [q])) (fun q=>hb (by simp [q])) q
 self:=fun _ _ _ _ _ st h=>wpAny_pyIter_zip st.1 h
def uk (K:PySem.W.Frag) (ta:TA):TI:=fun σ H R=>ta σ H fun vs H1=>mD fun a1 a2 c1 c2=>vs=[.ref a1,.ref a2]∧(∃xs,f9 K H1 a1 xs c1)∧(∃ys,f9 K H1 a2 ys c2)∧R (w9 K a1 a2 c1 c2) H1
theorem qU:bootBuiltins "zip" = some (.type "zip"):=by nofun
theorem uR {X:Cx}{es:List Expr}{kk:Nat}{tp:Pos}{a b:Expr}{ta:TA}{p pos:Pos} (hg:Gl X "zip") (hm:X.mg "zip" = none) (ha:PA X [a,b] ta) (hs:starEach [a,b] X.env=[(false,eval a X.env),(false,eval b X.env)]:=by rfl) (hs2:starEach [b] X.env=[(false,eval b X.env)]:=by rfl) :
 PI X (.Tuple es kk tp) (.Call (.Name "zip" p) [a,b] [] pos) (uk X.K ta):=by
 intro pins s σ H R I h
 refine Call_ (hZ I hg hm qU (PyProof.Rows.callWith_type1 (aA (ha pos pins s σ H _ I h) fun us s1 ⟨vs,H1,I1,r1,q1⟩=>?_) (by rw [hs,hs2]) (by rw [hs2];rfl)))
 obtain ⟨a1,a2,c1,c2,rfl,⟨xs,p1⟩,⟨ys,p2⟩,q⟩:=q1
 obtain ⟨u1,u2,rfl,ru1,ru2⟩:=r1.two
 obtain rfl:u1=.ref a1:=ru1
 obtain rfl:u2=.ref a2:=ru2
 obtain ⟨its1,rv1,k1⟩:=I1.seqC p1
 obtain ⟨its2,rv2,k2⟩:=I1.seqC p2
 have d1:=k1.lt
 have d2:=k2.lt
 refine qb k1 k2 fun h' hz hTI hTO t1 t2 hk=>wpAny_pyIter_zip hz ?_
 have I2:aa X pins σ H1 { s1 with heap:=h',toks:=s1.toks }:=I1.kept hk
 refine ⟨s1.heap.objs.size+4,[s1.heap.objs.size+4,s1.heap.objs.size+3,s1.heap.objs.size,s1.heap.objs.size+1,s1.heap.objs.size+2],_,_,H1,rfl,I2,qG a1 a2 (s1.heap.objs.size+4) (s1.heap.objs.size+2) (s1.heap.objs.size+3) s1.heap.objs.size (s1.heap.objs.size+1) c1 c2
  ⟨by simp,by simp,Nat.ne_of_lt (by simp),by simp,by simp,Nat.ne_of_gt (by simp),by simp,Nat.ne_of_gt (by simp),by simp,Nat.ne_of_lt (by simp)⟩ (fun c hc=>?_),⟨hz,hTI,⟨_,_,hTO⟩,t1,t2⟩,fun b hb=>?_,q⟩
 ·have:c<s1.heap.objs.size:=by rcases hc with rfl | rfl <;> assumption
  exact ⟨Nat.ne_of_lt (Nat.lt_of_lt_of_le this (Nat.le_add_right _ _)),Nat.ne_of_lt (Nat.lt_of_lt_of_le this (Nat.le_add_right _ _)),Nat.ne_of_lt this,Nat.ne_of_lt (Nat.lt_of_lt_of_le this (Nat.le_add_right _ _))⟩
 ·have hb':b=s1.heap.objs.size+4∨b=s1.heap.objs.size+3∨b=s1.heap.objs.size∨b=s1.heap.objs.size+1∨b=s1.heap.objs.size+2:=by simpa using hb
  have hle:s1.heap.objs.size≤b:=by rcases hb' with rfl | rfl | rfl | rfl | rfl <;> trivial
  exact I1.fpOk hle (I1.hok.fresh hle)
def mM:PyData→Bool
 | .list _=>true
 | .tuple _=>true
 | _=>false
theorem dD {K:PySem.W.Frag} (d:PyData):PySem.W.kitAny K (.type (l8 d)) [.type "list",.type "tuple"]=some (mM d):=by
 unfold PySem.W.kitAny PySem.W.kitAny PySem.W.kitAny
 rw [gu,eJ]
 cases d <;> rfl
inductive tU (K:PySem.W.Frag) (xs:List V) (H:Hp) (Q:VK):Prop
 | mk (x:V) (p:Addr) (d:PyData) (E:Addr→Prop) (h0:xs=[x,.ref p]) (h1:cG E H x d) (h2:bq K H p [.ty "list",.ty "tuple"]) (h3:Q (.bl (mM d)) H)
def se (K:PySem.W.Frag):List V→Hp→VK→Prop:=fun xs H Q=>tU K xs H Q
section
variable {X:Cx}{K:PySem.W.Frag}
theorem mR:bE X (.builtin "isinstance") (se X.K):=by
 intro pins s σ H xs us Q I r h
 obtain ⟨x,p,d,E,rfl,hx,hp,q⟩:=h
 obtain ⟨u,c,rfl,ru,rc⟩:=r.two
 obtain rfl:c=Value.ref p:=rc
 obtain ⟨its,rv,⟨o,e1,e2,n,e3⟩,_⟩:=I.tuple hp
 obtain ⟨u1,u2,rfl,r1,r2⟩:=rv.two
 obtain rfl:u1=Value.type "list" := r1
 obtain rfl:u2=Value.type "tuple" := r2
 have q':∀tk,EP X pins σ Q (.bool (mM d)) { s with toks:=tk }:=fun tk=>⟨.bl _,H,I.tok tk,rfl,q⟩
 obtain ⟨oc,od,odt,osl⟩:=o
 dsimp only at e2 e3
 subst e2 e3
 cases hx with
 | non=>cases (show u=Value.none from ru);exact PySem.W.kia_tup PySem.W.kitx_none I.kIn True.intro e1 (dD .none) (fun z=>nomatch z) q'
 | bl y=>cases (show u=Value.bool y from ru);exact PySem.W.kia_tup PySem.W.kitx_bool I.kIn True.intro e1 (dD (.bool y)) (fun z=>nomatch z) q'
 | int i=>obtain ⟨t,w⟩:=(show ∃t,u=Value.int i t from ru);cases w;exact PySem.W.kia_tup PySem.W.kitx_int I.kIn True.intro e1 (dD (.int i)) (fun z=>nomatch z) q'
 | str y=>obtain ⟨t,w⟩:=(show ∃t,u=Value.str y t from ru);cases w;exact PySem.W.kia_tup PySem.W.kitx_str I.kIn True.intro e1 (dD (.str y)) (fun z=>nomatch z) q'
 | @lst a xs ds ea _ _=>
  cases (show u=Value.ref a from ru)
  obtain ⟨_,_,m,_,h1⟩:=(show aW X.prog X.w H s.heap a (.lst xs) from I.hok a _ ea)
  exact PySem.W.kia_tup PySem.W.kitx_list I.kIn ⟨_,h1,rfl⟩ e1 (dD (.list ds)) (fun z=>nomatch z) q'
 | @tup a xs ds ea _=>
  cases (show u=Value.ref a from ru)
  obtain ⟨_,_,_,p,_⟩:=(show aW X.prog X.w H s.heap a (.tup xs) from I.hok a _ ea)
  obtain ⟨o,h1,h2,_⟩:=p
  exact PySem.W.kia_tup PySem.W.kitx_tuple I.kIn ⟨o,h1,h2⟩ e1 (dD (.tuple ds)) (fun z=>nomatch z) q'
theorem pS (e:X.K=K:=by rfl):bE X (.builtin "isinstance") (se K):=by subst e;exact mR
end
def Sz (m:Nat) (i:Int):Prop:=i.natAbs<2 ^ m
theorem Sz.mono {m n:Nat}{i:Int} (h:Sz m i) (k:m≤n):Sz n i:=Nat.lt_of_lt_of_le h (Nat.pow_le_pow_right (by decide) k)
theorem Sz.le {m:Nat}{i j:Int} (h:Sz m j) (k:i.natAbs≤j.natAbs):Sz m i:=Nat.lt_of_le_of_lt k h
theorem Sz.log {m:Nat}{i:Int} (h:Sz m i) (h0:i≠0):i.natAbs.log2<m:=(Nat.log2_lt (by trivial)).mpr h
section
variable {X:Cx}
end
def Dp:Nat→PyData→Prop
 | 0,_=>False
 | n+1,.list xs=>xs.length≤1000∧∀x∈xs,Dp n x
 | n+1,.tuple xs=>xs.length≤1000∧∀x∈xs,Dp n x
 | _+1,_=>True
inductive tK (n:Nat) (vs:List V) (H:Hp) (Q:VK):Prop
 | mk (x y:V) (d:PyData) (E:Addr→Prop) (h0:vs=[x,y]) (h1:cG E H x d) (h2:cG E H y d) (h3:Dp n d) (h4:∀H',au H H'→Q (.bl true) H')
def uF (n:Nat):Sp:=fun vs H Q _=>tK n vs H Q
theorem fy {H H':Hp}{D:Addr}{o:HO} (hD:H D=none) (k:au H H'):au H (aI H' D o):=fun b u e=>by
 rw [ap (ba e hD)];exact k b u e
theorem js {Q:VK}{H:Hp}{x:V} (h:Q (.bl true) H):Q (.bl (decide (x=x))) H:=by rw [decide_eq_true rfl];exact h
theorem nM (n:Nat):(List.replicate n true).all id=true:=by
 induction n with
 | zero=>rfl
 | succ n ih=>rw [List.replicate_succ,List.all_cons,ih];rfl
theorem mP (n:Nat):(List.replicate n true).map V.bl++[V.bl true]=(List.replicate (n+1) true).map V.bl:=by
 rw [List.replicate_succ',List.map_append];rfl
def rW (H1:Hp) (D:Addr) (i:Nat) (H':Hp) (ys:List V):Prop:=ys=(List.replicate i true).map V.bl∧H' D=some (.lst ys)∧au H1 H'
theorem jp {x:V}{A B:Prop} (h:B):if (!decide (x=x))=true then A else B:=by rw [decide_eq_true rfl];exact aq h
theorem lY {x:V}{A B:Prop} (h:A):if decide (x=x)=true then A else B:=by rw [decide_eq_true rfl];exact ai h
abbrev fr (z:Int×Int):HO:=.tup [.int z.1,.int z.2]
structure Fb (b:Nat) (n d:Int):Prop where
 sn:Sz b n
 sd:Sz b d
 pos:1≤d
 co:Int.gcd n d=1
theorem Fb.low {b:Nat}{n d:Int} (h1:Sz b n) (h2:Sz b d) (hd:d≠0):Fb b (KM.low n d).1 (KM.low n d).2:=by
 obtain ⟨a,_,c,e,f⟩:=KM.low_spec n d hd
 exact ⟨h1.le e,h2.le f,a,c⟩
structure Nw (H:Hp) (p:Addr) (o:HO) (H':Hp):Prop where
 fr:H p=none
 sm:au H H'
 at':H' p=some o
theorem Nw.mk' {H:Hp}{p:Addr}{o:HO} (h:H p=none):Nw H p o (aI H p o):=⟨h,au.new h,aF⟩
section
variable {X:Cx}{es:List Expr}{t:TA}{pos:Pos}{K:PySem.W.Frag}
def vG (t:TA):TE:=fun σ H Q=>t σ H fun xs H1=>xs.length≤10000∧∀p H',Nw H1 p (.tup xs) H'→Q (.ref p) H'
def wP (t:TA):TE:=fun σ H Q=>t σ H fun xs H1=>xs.length≤10000∧∀p H',Nw H1 p (.lst xs) H'→Q (.ref p) H'
theorem dL {n:Nat} (h:n≤10000):n≤sizeLine:=by rw [sizeLine_eq];trivial
theorem bh {x1} (h:PA X es t):PE X (.Tuple es x1 pos) (vG t):=by
 intro pins s σ H Q I hq
 refine wpAny_Tuple_spliced (aA (h pos pins s σ H _ I hq) fun us s1 ⟨xs,H1,I1,r,z',q⟩=>⟨by rw [←r.length];exact dL z',?_⟩)
 have z:=dL z'
 have hf:H1 s1.heap.objs.size=none:=I1.hok.fresh (Nat.le_refl _)
 refine ⟨.ref s1.heap.objs.size,aI H1 s1.heap.objs.size (.tup xs),I1.laid (t':=s1.toks) (fun b u e=>Heap.get?_push_of_some _ e) (Nat.le_refl _) ?_,rfl,q _ _ (.mk' hf)⟩
 exact ⟨z,us,r,⟨_,Heap.get?_push_size _ rfl,rfl,()⟩,_,Heap.get?_push_size _ rfl,rfl⟩
theorem fu (h:PA X es t):PE X (.List es pos) (wP t):=by
 intro pins s σ H Q I hq
 refine wpAny_List_spliced (aA (h pos pins s σ H _ I hq) fun us s1 ⟨xs,H1,I1,r,z',q⟩=>⟨by rw [←r.length];exact dL z',?_⟩)
 have z:=dL z'
 have hf:H1 s1.heap.objs.size=none:=I1.hok.fresh (Nat.le_refl _)
 refine ⟨.ref s1.heap.objs.size,aI H1 s1.heap.objs.size (.lst xs),I1.laid (t':=s1.toks) (fun b u e=>Heap.get?_push_of_some _ e) (Nat.le_refl _) ?_,rfl,q _ _ (.mk' hf)⟩
 exact ⟨z,us,0,r,Heap.get?_push_size _ rfl⟩
inductive vf (x:V) (y:V) (H:Hp) (Q:VK):Prop
 | mk (l:_) (b:_) (xs:_) (zs:_) (h0:x=.ref l) (h1:y=.ref b) (h2:H l=some (.lst xs)) (h3:H b=some (.lst zs)) (h4:xs.length+zs.length≤10000) (h5:∀p H',Nw H p (.lst (xs++zs)) H'→Q (.ref p) H')
def wJ:R2:=fun x y H Q=>vf  x y H Q
theorem tw:bZ X (binaryOp .Add) wJ:=fun pins s σ H x y v u Q I rx ry ⟨l,b,xs,zs,e1,e2,h1,h2,hz,q⟩=>
 uC pins s σ H x y v u Q I rx ry ⟨l,b,xs,zs,e1,e2,h1,h2,dL hz,fun p hp=>q p _ (.mk' hp)⟩
inductive ww (K:PySem.W.Frag) (x:V) (lo:Option Int) (hi:Option Int) (H:Hp) (Q:VK):Prop
 | mk (a:_) (xs:_) (h0:x=.ref a) (h1:aD K H a xs) (h2:∀p H',Nw H p (.lst (ir xs lo hi)) H'→Q (.ref p) H')
def xC (K:PySem.W.Frag):V→Option Int→Option Int→Hp→VK→Prop:=fun x lo hi H Q=>ww K x lo hi H Q
theorem mF (e:X.K=K:=by rfl):qj X (xC K):=by
 subst e
 exact fun pins s σ H x v vl vu lo hi sl Q I rx hs pl pu ⟨a,xs,e,h,q⟩=>sX pins s σ H x v vl vu lo hi sl Q I rx hs pl pu ⟨a,xs,e,h,fun p hp=>q p _ (.mk' hp)⟩
inductive su (K:PySem.W.Frag) (xs:List V) (H:Hp) (Q:VK):Prop
 | mk (p:_) (ys:_) (h0:xs=[.ref p]) (h1:(aD K H p ys∨bq K H p ys)) (h2:∀l H',Nw H l (.lst ys) H'→Q (.ref l) H')
def tY (K:PySem.W.Frag):List V→Hp→VK→Prop:=fun xs H Q=>su K xs H Q
theorem lN (e:X.K=K:=by rfl):bE X (.type "list") (tY K):=by
 subst e
 exact fun pins s σ H xs us Q I r ⟨p,ys,e,h,q⟩=>mJ pins s σ H xs us Q I r ⟨p,ys,e,h,fun l hl=>q l _ (.mk' hl)⟩
end
structure Ch (H:Hp) (p:Addr) (xs:List V) (H':Hp):Prop where
 at':H' p=some (.lst xs)
 ol:∀a o,a≠p→H a=some o→H' a=some o
 fre:∀a,a≠p→H a=none→H' a=none
theorem Ch.mk' {H:Hp}{p:Addr}{xs:List V}:Ch H p xs (aI H p (.lst xs)):=⟨aF,fun a o n h=>by rw [ap n];exact h,fun a n h=>by rw [ap n];exact h⟩
section
variable {X:Cx}
inductive uW (o:V) (i:V) (v:V) (H:Hp) (Q:(Hp→Prop)):Prop
 | mk (p:_) (xs:_) (k:_) (j:_) (h0:o=.ref p) (h1:i=.int k) (h2:H p=some (.lst xs)) (h3:jK xs.length k=some j) (h4:∀H',Ch H p (xs.set j v) H'→Q H')
def wQ:V→V→V→Hp→(Hp→Prop)→Prop:=fun o i v H Q=>uW  o i v H Q
theorem pY:qJ X wQ:=fun pins s σ H o i v ov iv u Q I ro ri rv ⟨p,xs,k,j,e1,e2,h,hj,q⟩=>jQ pins s σ H o i v ov iv u Q I ro ri rv ⟨p,xs,k,j,e1,e2,h,hj,q _ .mk'⟩
inductive uS (x:V) (vs:List V) (H:Hp) (Q:VK):Prop
 | mk (l:_) (xs:_) (y:_) (h0:x=.ref l) (h1:vs=[y]) (h2:H l=some (.lst xs)) (h3:xs.length≤10000) (h4:∀H',Ch H l (xs++[y]) H'→Q .non H')
def wS:V→List V→Hp→VK→Prop:=fun x vs H Q=>uS  x vs H Q
theorem oA:wX X "list.append" wS:=fun pins s σ H x vs v us Q I rx rv ⟨l,xs,y,e1,e2,h,hz,q⟩=>lg pins s σ H x vs v us Q I rx rv ⟨l,xs,y,e1,e2,h,(by rw [sizeLine_eq];trivial),q _ .mk'⟩
end
section
variable {X:Cx}{e:Expr}{te:TE}{st:Expr}{ts:TO}{p2 pos:Pos}{K:PySem.W.Frag}
theorem aw.rev {xs:List V}{us:List Value} (h:aw xs us):aw xs.reverse us.reverse:=by
 induction h with
 | nil=>exact .nil
 | cons h _ ih=>rw [List.reverse_cons,List.reverse_cons];exact ih.append (.cons h .nil)
def wm (K:PySem.W.Frag) (te:TE) (ts:TO):TE:=fun σ H Q=>te σ H fun x H1=>ts σ H1 fun k H2=>k=some (-1)∧aX fun a xs=>x=.ref a∧aD K H2 a xs∧∀p H',Nw H2 p (.lst xs.reverse) H'→Q (.ref p) H'
theorem sA (he:PE X e te) (hst:PO X (some st) ts) (ek:X.K=K:=by rfl):PE X (.Subscript e (.Slice none none (some st) p2) pos) (wm K te ts):=by
 subst ek
 intro pins s σ H Q I h
 refine Subscript_ (aA (he pins s σ H _ I h) fun v s1 ⟨x,H1,I1,r1,q1⟩=>?_)
 refine wpAny_Slice ?_
 rw [evalPart_none]
 refine wpAny_pure (wpAny_pure (aA (hst pins s1 σ H1 _ I1 q1) fun vs s3 ⟨k,H3,I3,pk,q3⟩=>?_))
 obtain ⟨rfl,a,xs,rfl,hx,q⟩:=q3
 cases r1
 have I4:aa X pins σ H3 { s3 with heap:=s3.heap.push { cls:=.type "slice",data:=.fields #[.none,.none,vs] } }:=I3.kept (t':=s3.toks) fun b ob q=>Heap.get?_push_of_some _ q
 obtain ⟨its,r,ht,hz⟩:=I4.list hx
 have hlen:=r.length
 show wpAny (model X.prog X.w) X.A (subscriptTail e (.Slice none none (some st) p2) (.ref a) (.ref s3.heap.objs.size)) (EP X pins σ Q) X.xe { s3 with heap:=s3.heap.push { cls:=.type "slice",data:=.fields #[.none,.none,vs] } }
 refine tail_any (ops:=[.ref a,.ref s3.heap.objs.size]) ht.isList.typeIs slot_list_getitem.lookup ?_ (by with_unfolding_all rfl)
 refine wpAny_getItem_list_slice ht.isList (Heap.IsSliceOf.new ..) .none .none pk (by decide) ?_ (by rw [List.size_toArray] <;> trivial)
 rw [PySem.W.krv_pick]
 refine ⟨.ref (s3.heap.push { cls:=.type "slice",data:=.fields #[.none,.none,vs] }).objs.size,_,I4.laid (t':=s3.toks) (o:=.lst xs.reverse) (fun b ob q=>Heap.get?_push_of_some _ q) (Nat.le_refl _) ?_,rfl,q _ _ (.mk' (I4.hok.fresh (Nat.le_refl _)))⟩
 exact ⟨by rw [List.length_reverse];exact hz,_,0,r.rev,Heap.get?_push_size _ rfl⟩
end
def S (l:List Nat):Str:=⟨l.toArray⟩
theorem lZ {a b:List Nat} (h:S a=S b):a=b:=by
 have:a.toArray=b.toArray:=by injection h
 simpa using this
theorem gM (a b:List Nat):S a++S b=S (a++b):=by
 show (⟨a.toArray++b.toArray⟩:Str)=⟨(a++b).toArray⟩
 simp
theorem aY (a:List Nat):(S a).length=a.length:=by
 show a.toArray.size=_
 simp
theorem mw (a:List Nat):(S a).cps.toList=a:=rfl
theorem qd (k:Nat) (l:List Nat):∀acc:List Nat,(List.replicate k l.toArray).foldl (·++·) acc.toArray=(acc++(List.replicate k l).flatten).toArray:=by
 induction k with
 | zero=>intro acc;simp
 | succ k ih=>
  intro acc
  rw [List.replicate_succ,List.foldl_cons,List.replicate_succ,List.flatten_cons]
  have:acc.toArray++l.toArray=(acc++l).toArray:=by simp
  rw [this,ih,List.append_assoc]
theorem k7:∀ls:List (List Nat),Str.join (S []) (ls.map S)=S ls.flatten
 | []=>rfl
 | [a]=>by
  show S a=S (a++[])
  rw [List.append_nil]
 | a :: b :: r=>by
  have e:Str.join (S []) ((a :: b :: r).map S)=S a++S []++Str.join (S []) ((b :: r).map S):=rfl
  rw [e,k7 (b :: r),gM,gM,List.append_nil]
  rfl
section
variable {X:Cx}{K:PySem.W.Frag}
inductive uV (x:V) (y:V) (H:Hp) (Q:VK):Prop
 | mk (l:_) (n:_) (h0:x=.str (S l)) (h1:y=.int n) (h2:1≤n) (h3:n≤1000) (h4:l.length≤100) (h5:Q (.str (S (List.replicate n.toNat l).flatten)) H)
def wA:R2:=fun x y H Q=>uV  x y H Q
theorem kW:bZ X (binaryOp .Mult) wA:=by
 intro pins s σ H x y v u Q I rx ry h
 obtain ⟨l,n,rfl,rfl,h1,h2,h3,q⟩:=h
 obtain ⟨t,rfl⟩:=rx
 obtain ⟨t',rfl⟩:=ry
 have hlen:(S l).length=l.length:=aY l
 have hmul:l.length*n.toNat≤100*1000:=Nat.mul_le_mul h3 (by trivial)
 refine PySem.P.mul_str ?_ ?_ ?_ ?_
 ·rw [decide_eq_false (by trivial),decide_eq_false (by trivial)];rfl
 ·intro _ _
  rw [hlen]
  have:(100:Int)<(2 ^ 63 - 1) / n:=by
   have:(100+1)*n≤2 ^ 63 - 1:=by trivial
   have:=(Int.le_ediv_iff_mul_le (by trivial:0<n)).mpr this
   trivial
  trivial
 ·intro _ _
  rw [hlen]
  unfold Builtin.Str.tooLong
  rw [decide_eq_false]
  rw [sizeLine_eq]
  trivial
 ·rw [if_neg (by trivial)]
  by_cases hn:(n==1 || (S l).length==0)=true
  ·rw [if_pos hn]
   refine ⟨.str (S l),H,I,⟨t,rfl⟩,?_⟩
   have e:(List.replicate n.toNat l).flatten=l:=by
    rw [hlen] at hn
    have hn':n=1∨l.length=0:=by simpa using hn
    rcases hn' with rfl | hn'
    ·simp
    ·have:l=[]:=List.eq_nil_of_length_eq_zero hn'
     subst this
     simp
   rw [e] at q
   exact q
  ·rw [if_neg hn]
   have e:(⟨(List.replicate n.toNat (S l).cps).foldl (·++·) #[]⟩:Str)=S (List.replicate n.toNat l).flatten:=by
    have e:=qd n.toNat l []
    rw [List.nil_append] at e
    exact congrArg Str.mk e
   rw [e]
   refine ⟨?_,.str (S (List.replicate n.toNat l).flatten),H,I.tok _,⟨()⟩,q⟩
   rw [aY,sM,sizeLine_eq,Nat.mul_comm]
   trivial
inductive uA (K:PySem.W.Frag) (x:V) (vs:List V) (H:Hp) (Q:VK):Prop
 | mk (a:_) (ls:_) (h0:x=.str (S [])) (h1:vs=[.ref a]) (h2:aD K H a ((ls:List (List Nat)).map fun l=>V.str (S l))) (h3:(ls.map (·.length)).sum≤10000) (h4:Q (.str (S ls.flatten)) H)
def wU (K:PySem.W.Frag):V→List V→Hp→VK→Prop:=fun x vs H Q=>uA K x vs H Q
theorem o2 {ls:List (List Nat)}:∀{us:List Value},aw (ls.map fun l=>V.str (S l)) us→StrsAre us (ls.map S):=by
 induction ls with
 | nil=>intro us h;cases h;exact .nil
 | cons l r ih=>
  intro us h
  cases h with
  | cons h t=>
   obtain ⟨tk,rfl⟩:=h
   exact .cons _ _ (ih t)
theorem sr (ek:X.K=K:=by rfl):lu X "str.join" (wU K):=by
 subst ek
 intro pins s σ H x vs v us Q I rx rv h
 obtain ⟨a,ls,rfl,rfl,hS,hz,q⟩:=h
 obtain ⟨t,rfl⟩:=rx
 obtain ⟨u,rfl,ru⟩:=rv.one
 obtain rfl:u=Value.ref a:=ru
 obtain ⟨its,r,ht,_⟩:=I.list hS
 have e1:((ls.map S).map (·.length)).sum=(ls.map (·.length)).sum:=by
  rw [List.map_map]
  congr 1
 refine join_list (ys:=ls.map S) ht.isList (by simpa using o2 r) ?_ fun t' k=>?_
 ·rw [e1,show (S []).length=0 from rfl]
  trivial
 ·have:=join_plain_closes (S []) (ls.map S)
  rw [eq_of_beq this,k7]
  exact ⟨.str (S ls.flatten),H,I.tok k,⟨()⟩,q⟩
inductive ub (x:V) (y:V) (H:Hp) (Q:VK):Prop
 | mk (a:_) (b:_) (h0:x=.str (S a)) (h1:y=.str (S b)) (h2:a.length+b.length≤10000) (h3:Q (.str (S (a++b))) H)
def vO:R2:=fun x y H Q=>ub  x y H Q
theorem gZ:bZ X (binaryOp .Add) vO:=fun pins s σ H x y v u Q I rx ry ⟨a,b,e1,e2,hz,q⟩=>
 oS pins s σ H x y v u Q I rx ry ⟨S a,S b,e1,e2,by rw [aY,aY];exact dL hz,by rw [gM];exact q⟩
end
theorem rq:Str.ofString "" = S []:=by nofun
abbrev xJ (l:List Nat):V:=.str (S l)
theorem qg {xs:List V}{m:Int} (h:0≤m):ir xs none (some m)=xs.take m.toNat:=by
 unfold ir
 have e:m=((m.toNat:Nat):Int):=by trivial
 rw [HT.sIx_none,e,HT.sIx_nat]
 simp only [Int.toNat_natCast,List.drop_zero,Nat.sub_zero]
 by_cases hm:m.toNat≤xs.length
 ·rw [Nat.min_eq_left hm]
 ·rw [Nat.min_eq_right (by trivial),List.take_of_length_le (Nat.le_refl _),List.take_of_length_le (by trivial)]
def xp (x:Str):Prop:=x.length≤300∧∀c∈x.cps.toList,c<128
mutual
inductive Wt:PyData→Nat→Nat→Prop
 | non {k:Nat}:Wt .none 1 k
 | bl (b:Bool) {k:Nat}:Wt (.bool b) 1 k
 | int {i:Int} (h:Sz 1900 i) {k:Nat}:Wt (.int i) 1 k
 | str {x:Str} (h:xp x) {k:Nat}:Wt (.str x) 1 k
 | list {xs:List PyData}{n k:Nat} (h:f7 xs n k):Wt (.list xs) (n+1) (k+1)
 | tuple {xs:List PyData}{n k:Nat} (h:f7 xs n k):Wt (.tuple xs) (n+1) (k+1)
inductive f7:List PyData→Nat→Nat→Prop
 | nil {k:Nat}:f7 [] 0 k
 | cons {x:PyData}{xs:List PyData}{m n k:Nat} (h:Wt x m k) (r:f7 xs n k):f7 (x :: xs) (m+n) k
end
mutual
theorem Wt.dep:∀{d:PyData}{n k:Nat},Wt d n k→d.depth≤k
 | _,_,_,.non=>by simp [PyData.depth]
 | _,_,_,.bl b=>by simp [PyData.depth]
 | _,_,_,.int h=>by simp [PyData.depth]
 | _,_,_,.str h=>by simp [PyData.depth]
 | _,_,_,.list h=>by simp only [PyData.depth];exact Nat.succ_le_succ (f7.dep h)
 | _,_,_,.tuple h=>by simp only [PyData.depth];exact Nat.succ_le_succ (f7.dep h)
theorem f7.dep:∀{ds:List PyData}{n k:Nat},f7 ds n k→PyData.depthAll ds≤k
 | _,_,_,.nil=>by simp [PyData.depthAll]
 | _,_,_,.cons h r=>by simp only [PyData.depthAll];exact Nat.max_le.mpr ⟨Wt.dep h,f7.dep r⟩
end
end L2
namespace L2
open PySem PySem.Spec PyProof.Rows
mutual
theorem Wt.can:∀{d:PyData}{n k:Nat},Wt d n k→d.canLay0=true
 | _,_,_,.non=>by simp [PyData.canLay0]
 | _,_,_,.bl b=>by simp [PyData.canLay0]
 | _,_,_,.int h=>by simp [PyData.canLay0]
 | _,_,_,.str (x:=x) h=>by
  simp only [PyData.canLay0]
  unfold PySem.PyData.strOk
  rw [Array.all_eq_true]
  intro i hi
  have:=h.2 x.cps[i] (by simp)
  simp
  trivial
 | _,_,_,.list h=>by simp only [PyData.canLay0];exact f7.can h
 | _,_,_,.tuple h=>by simp only [PyData.canLay0];exact f7.can h
theorem f7.can:∀{ds:List PyData}{n k:Nat},f7 ds n k→PyData.canLayAll0 ds=true
 | _,_,_,.nil=>by simp [PyData.canLayAll0]
 | _,_,_,.cons h r=>by simp only [PyData.canLayAll0,Bool.and_eq_true];exact ⟨Wt.can h,f7.can r⟩
end
section
variable {X:Cx}
inductive wy (ne:Bool) (x:V) (y:V) (H:Hp) (Q:VK):Prop
 | mk (d e:PyData) (E F:Addr→Prop) (m n k l:Nat) (h0:cG E H x d) (h1:cG F H y e) (h2:Wt d m k) (h3:Wt e n l) (h4:k≤60) (h5:Q (.bl (if ne then !PyData.eqv d e else PyData.eqv d e)) H)
def uo (ne:Bool):R2:=fun x y H Q=>wy ne x y H Q
theorem ua (hu:X.A.units+64<cLine):bZ X (compareOp .Eq) (uo false):=by
 intro pins s σ H x y v u Q I rx ry h
 obtain ⟨d,e,E,F,m,n,k,l,hd,he,wd,we,hk,q⟩:=h
 obtain ⟨as,ra⟩:=hd.reads I.hok rx
 obtain ⟨bs,rb⟩:=he.reads I.hok ry
 exact PySem.SeqAt.compareEq_reads ra rb wd.can we.can (by have:=wd.dep;trivial) ⟨.bl _,H,I,rfl,q⟩
theorem vw (hu:X.A.units+64<cLine):bZ X (compareOp .NotEq) (uo true):=by
 intro pins s σ H x y v u Q I rx ry h
 obtain ⟨d,e,E,F,m,n,k,l,hd,he,wd,we,hk,q⟩:=h
 obtain ⟨as,ra⟩:=hd.reads I.hok rx
 obtain ⟨bs,rb⟩:=he.reads I.hok ry
 exact PySem.SeqAt.compareNe_reads ra rb wd.can we.can (by have:=wd.dep;trivial) ⟨.bl _,H,I,rfl,q⟩
end
abbrev ED:Addr→Prop:=fun _=>True
abbrev nL (p:KM.Fra):PyData:=.tuple [.int p.1,.int p.2]
theorem o5 {H:Hp}{o:Addr}{p:KM.Fra} (h:H o=some (.tup [.int p.1,.int p.2])):cG ED H (.ref o) (nL p):=.tup h (.cons (.int _) (.cons (.int _) .nil))
theorem vA {p:KM.Fra}{b:Nat} (h:Fb b p.1 p.2) (hb:b≤1900):Wt (nL p) 3 1:=.tuple (.cons (.int (h.sn.mono hb)) (.cons (.int (h.sd.mono hb)) .nil))
end L2
namespace L2
open PySem PySem.Spec PyProof.Rows
end L2
namespace L2
theorem p6 {α:Type}{ls:List α} (h:ls.Nodup) {i j:Nat} (hi:i<ls.length) (hj:j<ls.length) (e:ls[i]=ls[j]):i=j:=by
 have p:=List.pairwise_iff_getElem.mp h
 rcases Nat.lt_trichotomy i j with q | q | q
 ·exact absurd e (p i j hi hj q)
 ·exact q
 ·exact absurd e.symm (p j i hj hi q)
end L2
namespace L2
open PySem PySem.Spec PyProof.Rows
end L2
namespace L2
end L2
namespace L2
open PySem PySem.Spec PyProof.Rows
end L2
namespace L2
open PySem PySem.Spec PyProof.Rows
open AutoSeq1 (wpAny_loadPart')
set_option maxHeartbeats 4000000 in
theorem qu (l:Addr) (its:Array Value) (n:Nat) (dct:Option Addr) (sl:Array (Option Value)) :
 Meets (Builtin.«enumerate.__new__» ⟨[.type "enumerate",.ref l],[]⟩) (fun _ R s=>s.heap.get? l=some { cls:=.type "tuple",dict:=dct,data:=.seq its n,slots:=sl }∧
  R (.ok (.ret (.ref (s.heap.push { cls:=.type "tuple_iterator",data:=.fields #[.ref l,.int 0 0] }).objs.size))) { s with heap:=(s.heap.push { cls:=.type "tuple_iterator",data:=.fields #[.ref l,.int 0 0] }).push { cls:=.type "enumerate",data:=.fields #[.none,.bool false,.ref s.heap.objs.size,rawInt 0,.none,.none] } }):=
 .of_wp fun prog w A R s h=>by
  obtain ⟨hp,g,d,tk,os⟩:=s;obtain ⟨hl,h⟩:=h;have hsub:=sub_enumerate
  have hT:Heap.IsTuple (Shared.heap ⟨hp,g,d,tk,os⟩) l its:=⟨_,hl,rfl,n,rfl⟩
  wp_walk using wpAny_loadPart' hl
  refine wpAny_stack_any fun st=>wpAny_pure ?_;split
  ·rename_i c _ _ _ _ _;cases (c==Value.type "enumerate")
   ·wp_walk using wpAny_loadPart' hl,wpAny_pyIter_tuple hT
    exact ⟨(),h⟩
   ·wp_walk using wpAny_loadPart' hl,wpAny_pyIter_tuple hT
    exact ⟨(),h⟩
  ·wp_walk using wpAny_loadPart' hl,wpAny_pyIter_tuple hT
   exact ⟨(),h⟩
section
variable {prog:Program}{w:World}{A:Around}{E:Value→Shared→Prop}{s:Shared}
theorem oP {l:Addr}{its:Array Value}{Q:Value→Shared→Prop}:∀{c:Bool},dn s.heap l its c→
 (∀h',IsEnum h' (s.heap.objs.size+1) s.heap.objs.size 0 .none→cE h' s.heap.objs.size l 0 c→(∀b o,s.heap.get? b=some o→h'.get? b=some o)→Q (.ref (s.heap.objs.size+1)) { s with heap:=h' })→
 wpAny (model prog w) A (call (.type "enumerate") [.ref l]) Q E s
 | true,q,h=>call_enumerate_list q fun h' a b _ k=>h h' a b k
 | false,q,h=>by
  obtain ⟨⟨c,dct,dt,sl⟩,hl,hc,n,hd⟩:=q
  dsimp only at hc hd
  subst hc hd
  refine callType_new F.called_enumerate (by decide) (F.typeCall_enumerate_1 _) (F.newCall_enumerate_1 _) (fun obj=>F.args_object_init_2 obj _) F.entry_enumerate_new (qu l its n dct sl) ⟨hl,?_⟩
  have hz:(s.heap.push { cls:=.type "tuple_iterator",data:=.fields #[.ref l,.int 0 0] }).objs.size=s.heap.objs.size+1:=Heap.size_push ..
  show _∧_
  rw [hz]
  have he:IsEnum ((s.heap.push { cls:=.type "tuple_iterator",data:=.fields #[.ref l,.int 0 0] }).push { cls:=.type "enumerate",data:=.fields #[.none,.bool false,.ref s.heap.objs.size,rawInt 0,.none,.none] }) (s.heap.objs.size+1) s.heap.objs.size 0 .none:=by
   rw [←hz];exact Heap.get?_push_size _ rfl
  exact ⟨⟨_,he,rfl⟩,h _ he ⟨_,Heap.get?_push_of_some _ (Heap.get?_push_size _ rfl),rfl,rfl⟩ fun b o e=>Heap.get?_push_of_some _ (Heap.get?_push_of_some _ e)⟩
end
def mB (K:PySem.W.Frag) (a:Addr) (c:Bool):It:=
 ⟨fun i H=>aX fun xs x=>f9 K H a xs c∧xs[i]?=some x,fun i H v H'=>aX fun T x=>H T=none∧v=.ref T∧H'=aI H T (.tup [.int (i:Int),x])∧∀xs,f9 K H a xs c→xs[i]?=some x,fun i H=>∃xs,f9 K H a xs c∧xs.length=i⟩
theorem oB {P:Program}{w:World}{K:PySem.W.Frag}{es:List Expr}{kk:Nat}{pos:Pos} (a e it:Addr) (c:Bool) (hne:e≠it) (hae:a≠e) (hai:a≠it) :
 kP P w K (.Tuple es kk pos) (mB K a c) [e,it] e (fun i h=>(∃old,IsEnum h e it i old)∧cE h it a i c) where
 mem:=by simp
 obj:=fun i h st b hb=>by
  obtain ⟨⟨old,he⟩,hi⟩:=st
  have hb':b=e∨b=it:=by simpa using hb
  rcases hb' with rfl | rfl
  ·exact ⟨_,he,fun v z=>by have z':Data.fields _=Data.cell v:=z;cases z'⟩
  ·exact hi.some
 keep:=fun i h h' st k=>by
  obtain ⟨⟨old,he⟩,hi⟩:=st
  exact ⟨⟨old,k e (by simp) _ he⟩,hi.at fun o q=>k it (by simp) o q⟩
 item:=by
  intro X hP hw hK hc i pins s σ H E I hf st hg
  subst hP hw hK
  obtain ⟨⟨old,he⟩,hit⟩:=st
  obtain ⟨xs,x,hq,hx⟩:=hg
  obtain ⟨its,rv,p⟩:=I.seqC hq
  obtain ⟨u,hu,ru⟩:=rv.get hx
  have hnT:H s.heap.objs.size=none:=I.fresh
  have hiu:i<its.length:=(List.getElem?_eq_some_iff.mp hu).1
  have D:=hR (prog:=X.prog) (w:=X.w) (A:=X.A.in1) (I.ok.hd hc) it a hai its.toArray c
  refine wpAny_pyNext_enum_itemD D he ⟨hit,p⟩ (by simpa using hiu) hne (by simp;exact ⟨hne,Ne.symm hae⟩) fun u' h' tk hP ho st' hT hsz hk=>?_
  have eu:u=u':=by
   have:its.toArray[i]?=some u':=hP
   rw [List.getElem?_toArray,hu] at this
   exact Option.some.inj this
  subst eu
  refine ⟨(),wpAny_letOwnedTupleGo_enum (s:={ s with heap:=h',toks:=tk+1 }) ho fun h'' he'' hs''=>?_⟩
  have helt:e<s.heap.objs.size:=Heap.lt_size he
  have hilt:it<s.heap.objs.size:=let ⟨_,y,_⟩:=hit.some;Heap.lt_size y
  have hT'':h''.get? s.heap.objs.size=some { cls:=.type "tuple",data:=.seq #[.int i tk,u] }:=(hs''.2 _ (Nat.ne_of_gt helt)).trans hT
  refine ⟨.ref s.heap.objs.size,aI H s.heap.objs.size (.tup [.int (i:Int),x]),I.turnedNew (ch:=[e,it]) (t':=tk+1) hf (fun b o hb q=>?_) (Nat.le_refl _) ?_,rfl,⟨_,x,hnT,rfl,rfl,fun ys hy=>by rw [I.seqC_inj hy hq];exact hx⟩,⟨⟨u,?_⟩,st'.1.at fun o q=>(hs''.2 _ (Ne.symm hne)).trans q⟩,fun b hb=>?_⟩
  ·have h1:b≠e:=fun z=>hb (by simp [z])
   have h2:b≠it:=fun z=>hb (by simp [z])
   exact (hs''.2 b h1).trans (hk b o h1 h2 q)
  ·exact ⟨by show 2≤sizeLine;decide,[.int i tk,u],.cons ⟨()⟩ (.cons ru .nil),⟨_,hT'',rfl,()⟩,_,hT'',rfl⟩
  ·simpa using he''
  ·have hb':b=e∨b=it:=by simpa using hb
   have hlt:b<s.heap.objs.size:=by rcases hb' with rfl | rfl <;> assumption
   rw [ap (Nat.ne_of_lt hlt)]
   exact (hf b hb).1
 done:=by
  intro X hP hw hK hc i pins s σ H E I hf st hg
  subst hP hw hK
  obtain ⟨⟨old,he⟩,hit⟩:=st
  obtain ⟨xs,hq,hx⟩:=hg
  obtain ⟨its,rv,p⟩:=I.seqC hq
  have hl:=rv.length
  have D:=hR (prog:=X.prog) (w:=X.w) (A:=X.A.in1) (I.ok.hd hc) it a hai its.toArray c
  have ei:i=its.toArray.size:=by simp;trivial
  refine wpAny_pyNext_enum_endD D he (by rw [ei] at hit;exact ⟨hit,p⟩) fun h' eb=>⟨rfl,I.turnedL (ch:=[e,it]) (t':=s.toks) hf fun b o hb q=>eb b o (fun z=>hb (by simp [z])) q⟩
 self:=fun _ _ _ _ _ st h=>by
  obtain ⟨⟨old,he⟩,_⟩:=st
  exact wpAny_pyIter_enum he h
def vt (K:PySem.W.Frag) (ta:TA):TI:=fun σ H R=>ta σ H fun vs H1=>aX fun a c=>vs=[.ref a]∧(∃xs,f9 K H1 a xs c)∧R (mB K a c) H1
theorem rp {X:Cx}{K:PySem.W.Frag}{es:List Expr}{kk:Nat}{tp:Pos}{a:Expr}{ta:TA}{p pos:Pos} (hg:Gl X "enumerate") (hm:X.mg "enumerate" = none) (ha:PA X [a] ta) (hs:starEach [a] X.env=[(false,eval a X.env)]:=by rfl) (ek:X.K=K:=by rfl) :
 PI X (.Tuple es kk tp) (.Call (.Name "enumerate" p) [a] [] pos) (vt K ta):=by
 subst ek
 intro pins s σ H R I h
 refine Call_ (hZ I hg hm boot_enumerate (PyProof.Rows.callWith_type1 (aA (ha pos pins s σ H _ I h) fun us s1 ⟨vs,H1,I1,r1,q1⟩=>?_) hs rfl))
 obtain ⟨a,c,rfl,⟨xs,hq⟩,q⟩:=q1
 obtain ⟨u,rfl,ru⟩:=r1.one
 obtain rfl:u=.ref a:=ru
 obtain ⟨its,rv,p⟩:=I1.seqC hq
 have d1:=p.lt
 refine oP p fun h' hE hI hk=>wpAny_pyIter_enum hE ?_
 have I2:aa X pins σ H1 { s1 with heap:=h',toks:=s1.toks }:=I1.kept hk
 refine ⟨s1.heap.objs.size+1,[s1.heap.objs.size+1,s1.heap.objs.size],_,_,H1,rfl,I2,oB a (s1.heap.objs.size+1) s1.heap.objs.size c (Nat.succ_ne_self _) (Nat.ne_of_lt (Nat.lt_succ_of_lt d1)) (Nat.ne_of_lt d1),⟨⟨_,hE⟩,hI⟩,fun b hb=>?_,q⟩
 have hb':b=s1.heap.objs.size+1∨b=s1.heap.objs.size:=by simpa using hb
 have hle:s1.heap.objs.size≤b:=by rcases hb' with rfl | rfl <;> trivial
 exact I1.fpOk hle (I1.hok.fresh hle)
section
variable {X:Cx}
end
end L2
namespace L2
open PySem PySem.Spec PyProof.Rows
inductive vY (x:V) (lo:Option Int) (hi:Option Int) (H:Hp) (Q:VK):Prop
 | mk (z:_) (h0:x=.str z) (h1:z.length≤10000) (h2:∀y,y.length≤z.length→(∀c∈y.cps.toList,c∈z.cps.toList)→Q (.str y) H)
def xw:V→Option Int→Option Int→Hp→VK→Prop:=fun x lo hi H Q=>vY  x lo hi H Q
theorem nS {v:Value}{o:Option Int} (h:IsPart v o):∃p:Option (Int×Tok),v=partValue p:=by
 cases h with
 | none=>exact ⟨none,rfl⟩
 | int i t=>exact ⟨some (i,t),rfl⟩
theorem iW {X:Cx}:qj X xw:=by
 intro pins s σ H x v vl vu lo hi sl Q I rx hs pl pu h
 obtain ⟨z,rfl,hz,q⟩:=h
 obtain ⟨t,rfl⟩:=rx
 obtain ⟨l,rfl⟩:=nS pl
 obtain ⟨u,rfl⟩:=nS pu
 refine ⟨"str",_,F.slot_str_getitem.lookup,typeIs_str _ _ _,?_⟩
 refine wpAny_getItem_str_slice (l:=l) (u:=u) (st:=none) hs rfl ?_
 unfold sliceMade
 by_cases hc:((Option.map (fun x:Int×Tok=>x.fst) none).getD 1==1 && (slicePicked z l u none).length==z.length)=true
 ·rw [if_pos hc]
  exact ⟨.str z,H,I,⟨()⟩,q z (Nat.le_refl _) fun c hc=>hc⟩
 ·rw [if_neg hc]
  have hl:((slicePicked z l u none).filterMap (fun x=>z.cps[x]?)).length≤z.length:=Nat.le_trans (List.length_filterMap_le _ _) (sliceIndices_le _ _ _)
  have hl':(⟨((slicePicked z l u none).filterMap (fun x=>z.cps[x]?)).toArray⟩:Str).length≤z.length:=by
   show ((slicePicked z l u none).filterMap (fun x=>z.cps[x]?)).toArray.size≤_
   rw [List.size_toArray];exact hl
  refine ⟨?_,.str ⟨_⟩,H,I.tok _,⟨()⟩,q _ hl' fun c hc=>?_⟩
  ·exact Nat.le_trans hl' (dL hz)
  ·have hc':c∈(slicePicked z l u none).filterMap (fun x=>z.cps[x]?):=by simpa using hc
   obtain ⟨i,_,e⟩:=List.mem_filterMap.mp hc'
   obtain ⟨hi,e2⟩:=Array.getElem?_eq_some_iff.mp e
   rw [←e2]
   simp
section
variable {z:Nat}{E:Addr→Prop}{H H':Hp}{n m k:Nat}{v:V}{xs ys:List V}
end
theorem ko (x:Str):S x.cps.toList=x:=by cases x;simp [S]
section
variable {X:Cx}
def cp (m:Nat) (x:Str):Prop:=x.length≤m∧∀c∈x.cps.toList,c<128
inductive tQ (x:V) (y:V) (H:Hp) (Q:VK):Prop
 | mk (a:_) (b:_) (m:_) (n:_) (h0:x=.str a) (h1:y=.str b) (h2:cp m a) (h3:cp n b) (h4:m+n≤10000) (h5:∀c,cp (m+n) c→Q (.str c) H)
def wV:R2:=fun x y H Q=>tQ  x y H Q
theorem bR:bZ X (binaryOp .Add) wV:=fun pins s σ H x y v u Q I rx ry ⟨a,b,m,n,e1,e2,ta,tb,hz,q⟩=>
 gZ pins s σ H x y v u Q I rx ry ⟨a.cps.toList,b.cps.toList,by rw [ko];exact e1,by rw [ko];exact e2,by
  have h1:a.cps.toList.length≤m:=ta.1
  have h2:b.cps.toList.length≤n:=tb.1
  trivial,q _ ⟨by
   rw [aY,List.length_append]
   have h1:a.cps.toList.length≤m:=ta.1
   have h2:b.cps.toList.length≤n:=tb.1
   trivial,fun c hc=>by
   rw [mw] at hc
   rcases List.mem_append.mp hc with h | h
   ·exact ta.2 c h
   ·exact tb.2 c h⟩⟩
end
end L2
namespace HT
open PySem PySem.Spec PyProof.Rows
section
variable {prog:Program}{w:World}{A:Around}{E:Value→Shared→Prop}{s:Shared}
end
end HT
namespace L2
open PySem PySem.Spec PyProof.Rows
section
variable {X:Cx}{K:PySem.W.Frag}
end
section
variable {prog:Program}{w:World}{A:Around}{R:Result→Shared→Prop}{it:Addr}{fp wr:List Addr}{G:Array GenState→Array GenState→Prop}{P:Nat→Value→Prop}{St:Nat→Shared→Prop}
end
section
variable {prog:Program}{w:World}{A:Around}{E:Value→Shared→Prop}{s:Shared}
end
section
variable {X:Cx}{K:PySem.W.Frag}{e:Expr}{te:TE}{p1 p2 p3 p4:Pos}
end
section
variable {X:Cx}{K:PySem.W.Frag}{o e:Expr}{es:List Expr}{to:TE}{t:TA}{name:Str}{apos cpos:Pos}{T id:String}{r:V→List V→Hp→VK→Prop}
theorem fz (pa:PlainAttrs T) (slot:Slot T name id) (hty:typeOf (.builtin id)=pure (.type "method_descriptor")) (hm:lu X id r) (ho:PE X o to) (ha:PA X (e :: es) t) (ek:X.K=K:=by rfl)
 (h1:attributeBase o name X.env (eval o X.env)=eval o X.env:=by rfl)
 (h2:((backTo cpos (starEach (e :: es) X.env)).all (fun x=>!x.1) && (backToKw cpos (keywordEach [] X.env)).all (fun x=>x.1.isSome) && decide ((e :: es).length+([]:List Keyword).length+(if ([]:List Keyword).isEmpty then 0 else 1)<30))=true:=by rfl)
 (h3:(apos.endLine==cpos.line)=true:=by rfl) (h4:starEach (e :: es) X.env=(false,eval e X.env) :: starEach es X.env:=by rfl) (h5:(backTo cpos (starEach es X.env)).any (·.1)=false:=by rfl) :
 PE X (.Call (.Attribute o name apos) (e :: es) [] cpos) (wZ K T r to t):=by
 subst ek
 exact wq pa slot hty hm ho ha h1 h2 h3 h4 h5
end
theorem qB {X:Cx}{K:PySem.W.Frag}{es:List Expr}{kk:Nat}{tp:Pos}{a b:Expr}{ta:TA}{p pos:Pos} (hg:Gl X "zip") (hm:X.mg "zip" = none) (ha:PA X [a,b] ta) (ek:X.K=K:=by rfl) (h1:starEach [a,b] X.env=[(false,eval a X.env),(false,eval b X.env)]:=by rfl) (h2:starEach [b] X.env=[(false,eval b X.env)]:=by rfl) :
 PI X (.Tuple es kk tp) (.Call (.Name "zip" p) [a,b] [] pos) (uk K ta):=by
 subst ek
 exact uR hg hm ha h1 h2
end L2
namespace L2
theorem dh {t u:TS}{D:c4}{σ:St}{H:Hp} (h:∀D':c4,(∀σ' H',u D σ' H'→D'.nx σ' H')→t D' σ H):ii t u D σ H:=h { D with nx:=u D } fun _ _ z=>z
theorem dj {t u:TS}{D:c4}{σ:St}{H:Hp} (h:∀D':c4,(∀σ' H',u D σ' H'→D'.nx σ' H')→(∀v H',D.rt v H'→D'.rt v H')→t D' σ H):ii t u D σ H:=h { D with nx:=u D } (fun _ _ z=>z) fun _ _ z=>z
theorem lS {t:TS}{D:c4}{σ:St}{H:Hp} (h:∀D':c4,(∀σ' H',D.nx σ' H'→D'.nx σ' H')→t D' σ H):t D σ H:=h D fun _ _ z=>z
end L2
namespace L2
open PySem PySem.Spec PyProof.Rows
def lR:PyData→Option (List PyData)
 | .list xs=>some xs
 | .tuple xs=>some xs
 | _=>none
theorem uG {e:PyData}{xs:List PyData}{n l:Nat} (h:Wt e n l) (s:lR e=some xs):aX fun m k=>f7 xs m k∧k+1=l:=by
 cases h <;> simp [lR] at s
 all_goals
  rename_i w
  subst s
  exact ⟨_,_,w,rfl⟩
section
variable {X:Cx}
inductive tG (x:V) (vs:List V) (H:Hp) (Q:VK):Prop
 | mk (y:V) (d e:PyData) (E F:Addr→Prop) (m n k l:Nat) (xs:List PyData) (h0:vs=[y]) (h1:cG E H y d) (h2:cG F H x e) (h3:Wt d m k) (h4:Wt e n l) (h5:l≤60) (h6:lR e=some xs) (h7:Q (.int ((xs.countP fun z=>PyData.eqv z d):Nat)) H)
def uX:V→List V→Hp→VK→Prop:=fun x vs H Q=>tG  x vs H Q
theorem qz {h:Heap}{vs:Array Value}{xs:List PyData}{as:List Addr}{d:PyData} (rs:ReadsAll h vs.toList xs as) (hc:PyData.canLayAll0 xs=true):vs.toList.countP (fun y=>PyData.eqv (PySem.SeqAt.readOf h y) d)=xs.countP fun z=>PyData.eqv z d:=by
 rw [←PySem.SeqAt.readsAll_map xs _ _ hc rs,List.countP_map]
 rfl
theorem pz (hu:X.A.units+64<cLine):lu X "list.count" (fun x vs H Q=>(aX fun a zs=>x=.ref a∧H a=some (.lst zs))∧uX x vs H Q):=by
 intro pins s σ H x vs v us Q I rx rv h
 obtain ⟨⟨a,zs,rfl,ha⟩,y,d,e,E,F,m,n,k,l,xs,rfl,hd,he,wd,we,hl,hs,q⟩:=h
 obtain ⟨u,rfl,ru⟩:=rv.one
 obtain ⟨as,ra⟩:=hd.reads I.hok ru
 obtain ⟨bs,rb⟩:=he.reads I.hok rx
 obtain ⟨m',k',wl,ek⟩:=uG we hs
 have dl:=wl.dep
 cases he with
 | lst h1 h2 h3=>
  simp [lR] at hs
  subst hs
  cases rb with
  | @list _ o vs n' _ _ g1 g2 g3 g4=>
   obtain ⟨oc,od,oo,os⟩:=o
   simp only at g2 g3
   subst g2 g3
   refine PySem.call_meets PySem.F.slot_list_count ⟨_,g1,rfl⟩ PySem.F.entry_list_count (PySem.F.args_list_count_2 _ _) (PySem.SeqAt.list_countAt _ vs n' od os u _) ⟨g1,PySem.SeqAt.items_eqAt g4 ra wl.can wd.can ?_,?_⟩
   ·trivial
   ·rw [qz g4 wl.can]
    exact ⟨.int _,H,I.tok _,⟨()⟩,q⟩
 | tup h1 h2=>rw [ha] at h1;cases h1
end
section
variable {K:PySem.W.Frag}{a a1 a2 D:Addr}{H1:Hp}{σc:St}{g:TG}{te:TE}{tt:TT}{Q:VK}{xs ys:List V}
theorem kK {α:Type} (f:Nat→α) (i:Nat):(List.range i).map f++[f i]=(List.range (i+1)).map f:=by
 rw [List.range_succ,List.map_append];rfl
theorem iH {α β:Type} (f:Nat→β) (h:α→β) (l:List α) (e:∀(i:Nat) (x:α),l[i]?=some x→f i=h x):(List.range l.length).map f=l.map h:=by
 apply List.ext_getElem?
 intro i
 rw [List.getElem?_map,List.getElem?_map]
 by_cases hi:i<l.length
 ·rw [List.getElem?_range hi,List.getElem?_eq_getElem hi]
  show some (f i)=some (h l[i])
  rw [e i l[i] (List.getElem?_eq_getElem hi)]
 ·rw [List.getElem?_eq_none (by simp;trivial),List.getElem?_eq_none (by trivial)];rfl
theorem o9 {J:It}{n:Nat} (f:Nat→V) (hz:n≤10000) (hD:H1 D=none) (hgo:∀i H',i<n→au H1 H'→J.go i H') (hst:∀H',au H1 H'→J.stop n H')
 (hs:∀i x H' H'' (R:VK),i<n→au H1 H'→J.yld i H' x H''→(∀H4,au H' H4→R (f i) H4)→g x σc H'' fun σ2 H2=>io σc σ2∧te σ2 H2 R)
 (hd:∀H',au H1 H'→H' D=some (.lst ((List.range n).map f))→Q (.ref D) H'):ki J σc g tT te D H1 Q:=by
 refine jc (n:=n) (fun i H' zs=>zs=(List.range i).map f∧H' D=some (.lst zs)∧au H1 H') (dL hz) ⟨rfl,aF,fy hD (au.refl _)⟩ ?_ ?_ ?_ ?_ ?_
 ·rintro i H' zs ⟨rfl,q,_⟩
  exact ⟨q,by simp⟩
 ·rintro i H' zs hi ⟨_,_,sm⟩
  exact hgo i H' hi sm
 ·rintro H' zs ⟨_,_,sm⟩
  exact hst H' sm
 ·rintro i H' zs x H'' hi ⟨rfl,q,sm⟩ y
  exact hs i x H' H'' _ hi sm y fun H4 s4=>⟨s4 _ _ q,kK f i,aF,fy hD (sm.trans s4)⟩
 ·rintro H' zs ⟨rfl,q,sm⟩
  exact hd H' sm q
end
end L2
namespace L2
end L2
namespace L2
open PySem PySem.Spec PyProof.Rows
def rh (x:Str):It:=⟨fun i _=>i<x.cps.size,fun i H v H'=>H'=H∧∃c,x.cps[i]?=some c∧v=.str ⟨#[c]⟩,fun i _=>i=x.cps.size⟩
theorem lv {P:Program}{w:World}{K:PySem.W.Frag}{tg:Expr}{x:Str}{t:Tok}{T:String} (it:Addr) (hT:["enumerate", "zip", "dict_itemiterator", "dict_reverseitemiterator", "odict_iterator", "itertools.zip_longest", "itertools.pairwise"].contains T=false)
 (W:∀A:Around,A.handled=none→Walks P w A it [it] [it] x.cps.size (SignAt x) (fun i h=>h.IsStrIter it T x t i)) (S:∀(A:Around) (i:Nat) (s:Shared) (Q:Value→Shared→Prop) (E:Value→Shared→Prop),s.heap.IsStrIter it T x t i→Q (.ref it) s→wpAny (model P w) A (pyIter (.ref it)) Q E s):kP P w K tg (rh x) [it] it (fun i h=>h.IsStrIter it T x t i) where
 mem:=by simp
 obj:=fun i h st b hb=>by
  obtain rfl:b=it:=by simpa using hb
  obtain ⟨o,e,c,d⟩:=st
  exact ⟨o,e,fun v z=>by rw [d] at z;cases z⟩
 keep:=fun i h h' st k=>by
  obtain ⟨o,e,r⟩:=st
  exact ⟨o,k it (by simp) o e,r⟩
 item:=by
  intro X hP hw hK hc i pins s σ H E I hf st hg
  subst hP hw hK
  obtain ⟨f0,f1,f2,f3,f4,f5⟩:=hf it (by simp)
  refine (W X.A (I.ok.hd hc)).item i s _ E hg st fun v h' tk pv st' kp=>?_
  obtain ⟨c,u,hcx,rfl⟩:=pv
  have I1:aa X pins σ H { s with heap:=h',toks:=tk }:=I.turned (t':=tk) (fun b o hb e=>kp b o (by simpa using hb) e) f0 f1 f3 f4 f5
  obtain ⟨o,e,cl,d⟩:=id st'
  exact ⟨(),oX (s:={ s with heap:=h',toks:=tk }) e cl d hT ⟨.str ⟨#[c]⟩,H,I1,⟨()⟩,⟨rfl,c,hcx,rfl⟩,st',fun b hb=>(hf b hb).1⟩⟩
 done:=by
  intro X hP hw hK hc i pins s σ H E I hf st hg
  subst hP hw hK
  obtain ⟨f0,f1,f2,f3,f4,f5⟩:=hf it (by simp)
  have hg':i=x.cps.size:=hg
  subst hg'
  exact (W X.A (I.ok.hd hc)).done s _ E st fun h' tk kp=>⟨rfl,I.turned (t':=tk) (fun b o hb e=>kp b o (by simpa using hb) e) f0 f1 f3 f4 f5⟩
 self:=fun A i s Q E st h=>S A i s Q E st h
section
variable {X:Cx}{tg:Expr}
def xl (tl:TE):TI:=fun σ H R=>tl σ H fun v H1=>∃x,v=.str x∧R (rh x) H1
theorem o4 {l:Expr}{tl:TE} (hl:PE X l tl):PI X tg l (xl tl):=by
 intro pins s σ H R I h
 refine aA (hl pins s σ H _ I h) fun v s1 ⟨y,H1,I1,r1,q1⟩=>?_
 obtain ⟨x,rfl,q⟩:=q1
 obtain ⟨t,rfl⟩:=r1
 have fp:∀b∈[s1.heap.objs.size],fS X pins H1 b:=fun b hb=>by
  obtain rfl:b=s1.heap.objs.size:=by simpa using hb
  exact I1.fpOk (Nat.le_refl _) (I1.hok.fresh (Nat.le_refl _))
 cases ha:x.cps.all (· < 128)
 ·refine wpAny_pyIter_wide ha ⟨s1.heap.objs.size,[s1.heap.objs.size],_,_,H1,rfl,I1.kept (t':=s1.toks) fun b o e=>Heap.get?_push_of_some _ e,lv (T := "str_iterator") (x:=x) (t:=t) _ (by decide) (fun A' hA=>Walks.strWide hA _ x t) (fun A i s Q E st h=>wpAny_pyIter_striter_wide st h),⟨_,Heap.get?_push_size _ rfl,rfl,rfl⟩,fp,q⟩
 ·refine wpAny_pyIter_ascii ha ⟨s1.heap.objs.size,[s1.heap.objs.size],_,_,H1,rfl,I1.kept (t':=s1.toks) fun b o e=>Heap.get?_push_of_some _ e,lv (T := "str_ascii_iterator") (x:=x) (t:=t) _ (by decide) (fun A' hA=>Walks.strAscii hA _ x t) (fun A i s Q E st h=>wpAny_pyIter_striter_ascii st h),⟨_,Heap.get?_push_size _ rfl,rfl,rfl⟩,fp,q⟩
theorem ly {D:Addr}{H1:Hp}{σc:St}{g:TG}{te:TE}{Q:VK}{l:List Nat} (f:Nat→V) (hz:l.length≤10000) (hD:H1 D=none)
 (hs:∀(i c:Nat) (H':Hp) (R:VK),l[i]?=some c→au H1 H'→(∀H4,au H' H4→R (f i) H4)→g (xJ [c]) σc H' fun σ2 H2=>io σc σ2∧te σ2 H2 R)
 (hd:∀H',au H1 H'→H' D=some (.lst ((List.range l.length).map f))→Q (.ref D) H'):ki (rh (S l)) σc g tT te D H1 Q:=by
 refine o9 (n:=l.length) f hz hD (fun i H' hi sm=>(by show i<(S l).cps.size;exact hi)) (fun H' sm=>(by show l.length=(S l).cps.size;rfl)) ?_ hd
 rintro i x H' H'' R hi sm ⟨rfl,c,ec,rfl⟩ k
 exact hs i c H'' R (by simpa [S] using ec) sm k
inductive vX (x:V) (y:V) (H:Hp) (Q:VK):Prop
 | mk (a b:Str) (h0:x=.str a) (h1:y=.str b) (h2:Q (.bl (!decide (b.cps.toList<a.cps.toList))) H)
def xK:R2:=fun x y H Q=>vX  x y H Q
theorem pi:bZ X (compareOp .LtE) xK:=by
 intro pins s σ H x y v u Q I rx ry h
 obtain ⟨a,b,rfl,rfl,q⟩:=h
 obtain ⟨t,rfl⟩:=rx
 obtain ⟨t',rfl⟩:=ry
 exact PySem.P.le_str ⟨.bl _,H,I,rfl,q⟩
inductive vS (x:V) (y:V) (H:Hp) (Q:VK):Prop
 | mk (a b:Str) (h0:x=.str b) (h1:y=.str a) (h2:Q (.bl (!(Builtin.Str.occurrences a b 0 a.length 1).isEmpty)) H)
def xf:R2:=fun x y H Q=>vS  x y H Q
theorem u6:bZ X (compareOp .In) xf:=by
 intro pins s σ H x y v u Q I rx ry h
 obtain ⟨a,b,rfl,rfl,q⟩:=h
 obtain ⟨t,rfl⟩:=rx
 obtain ⟨t',rfl⟩:=ry
 exact PySem.P.in_str ⟨.bl _,H,I,rfl,q⟩
inductive uq (xs:List V) (H:Hp) (Q:VK):Prop
 | mk (x:Str) (h0:xs=[.str x]) (h1:x.length≤10000) (h2:Q (.int x.length) H)
def vD:List V→Hp→VK→Prop:=fun xs H Q=>uq  xs H Q
theorem jf:bE X (.builtin "len") vD:=by
 intro pins s σ H xs us Q I r h
 obtain ⟨x,rfl,hz,q⟩:=h
 obtain ⟨u,rfl,t,rfl⟩:=gN r
 exact PySem.P.len_str (by trivial) ⟨.int _,H,I.tok _,⟨()⟩,q⟩
end
section
variable {X:Cx}{K:PySem.W.Frag}{o e:Expr}{es:List Expr}{to:TE}{t:TA}{name:Str}{apos cpos:Pos}{id:String}{r:V→List V→Hp→VK→Prop}
end
end L2
namespace L2
open PySem PyProof.Rows
def dF (X:Cx) (scope:Scope) (cl:List (Str×Addr)) (C:Addr) (N':List Str) (s:Shared) (H:Hp) (ex:List Addr) (pn:List (Addr×Obj)):Cx:=
 { mo X scope cl C N' s H ex pn with fn:=fun x=>scope.names.lookup x==some .cell }
def jU (esc:Scope) (N:List Str) (scope:Scope) (N':List Str) (L:Nat) (src:List Nat):Bool:=
 (scope.kind==.function) && scope.names.all (fun y=>(y.2 != .cell || scope.names.lookup y.1==some .cell) && (y.2 != .local || scope.names.lookup y.1==some .local) && (y.2 != .free || esc.names.lookup y.1==some .cell || esc.names.lookup y.1==some .free)) &&
  (N'.length==L+src.length) && (List.range src.length).all fun i=>match src[i]?,N'[L+i]? with
   | some j,some x=>(N[j]?==some x) && (scope.names.lookup x==some .free)
   | _,_=>false
structure nv (esc:Scope) (N:List Str) (scope:Scope) (N':List Str) (L:Nat) (src:List Nat):Prop where
 kind:scope.kind=.function
 cells:∀y∈scope.names,y.2=.cell→scope.names.lookup y.1=some .cell
 loc:∀y∈scope.names,y.2=.local→scope.names.lookup y.1=some .local
 free:∀y∈scope.names,y.2=.free→esc.names.lookup y.1=some .cell∨esc.names.lookup y.1=some .free
 len:N'.length=L+src.length
 frees:∀(i j:Nat),src[i]?=some j→∃x,N'[L+i]?=some x∧N[j]?=some x∧scope.names.lookup x=some .free
theorem oz {esc:Scope}{N:List Str}{scope:Scope}{N':List Str}{L:Nat}{src:List Nat} (h:jU esc N scope N' L src=true):nv esc N scope N' L src:=by
 unfold jU at h
 simp only [Bool.and_eq_true,List.all_eq_true] at h
 obtain ⟨⟨⟨h1,h2⟩,h3⟩,h4⟩:=h
 refine ⟨by simpa using h1,fun y hy e=>?_,fun y hy e=>?_,fun y hy e=>?_,by simpa using h3,fun i j e=>?_⟩
 ·have:=(h2 y hy).1.1
  rw [e] at this
  simpa using this
 ·have:=(h2 y hy).1.2
  rw [e] at this
  simpa using this
 ·have:=(h2 y hy).2
  rw [e] at this
  simpa using this
 ·have hi:i<src.length:=(List.getElem?_eq_some_iff.mp e).1
  have:=h4 i (List.mem_range.mpr hi)
  rw [e] at this
  cases q:N'[L+i]? with
  | none=>rw [q] at this;simp at this
  | some x=>
   rw [q] at this
   simp only [Bool.and_eq_true,beq_iff_eq] at this
   exact ⟨x,rfl,this.1,this.2⟩
theorem fx:∀(names:List (Str×NameKind)) (n:Nat) (acc acc':List (Str×Addr)),cellsFrom n names (acc++acc')=cellsFrom n names acc++acc'
 | [],_,_,_=>rfl
 | (name,kind) :: r,n,acc,acc'=>by
  unfold cellsFrom
  split
  ·exact fx r (n+1) ((name,n) :: acc) acc'
  ·exact fx r n acc acc'
theorem lQ (names:List (Str×NameKind)) (n:Nat) (acc:List (Str×Addr)):cellsFrom n names acc=cellsFrom n names []++acc:=fx names n [] acc
theorem fe {x:Str}{c:Addr}:∀(names:List (Str×NameKind)) (n:Nat) (acc:List (Str×Addr)),(x,c)∈cellsFrom n names acc→(x,NameKind.cell)∈names∨(x,c)∈acc
 | [],_,_,h=>.inr h
 | (name,kind) :: r,n,acc,h=>by
  unfold cellsFrom at h
  split at h
  ·rename_i hk
   rcases fe r (n+1) _ h with h | h
   ·exact .inl (List.mem_cons_of_mem _ h)
   ·rcases List.mem_cons.mp h with h | h
    ·injection h with h1 h2
     have hk':kind=.cell:=by simpa using hk
     rw [h1,hk'];exact .inl List.mem_cons_self
    ·exact .inr h
  ·rcases fe r n _ h with h | h
   ·exact .inl (List.mem_cons_of_mem _ h)
   ·exact .inr h
theorem fC {x:Str}:∀(names:List (Str×NameKind)) (n:Nat) (acc:List (Str×Addr)),(∃c,acc.lookup x=some c)→∃c,(cellsFrom n names acc).lookup x=some c
 | [],_,_,h=>h
 | (name,kind) :: r,n,acc,⟨c,h⟩=>by
  unfold cellsFrom
  split
  ·refine fC r (n+1) _ ?_
   rw [List.lookup_cons]
   cases hb:x==name with
   | true=>exact ⟨_,rfl⟩
   | false=>exact ⟨c,h⟩
  ·exact fC r n acc ⟨c,h⟩
theorem fR {x:Str}:∀(names:List (Str×NameKind)) (n:Nat) (acc:List (Str×Addr)),(x,NameKind.cell)∈names→∃c,(cellsFrom n names acc).lookup x=some c
 | (name,kind) :: r,n,acc,h=>by
  unfold cellsFrom
  rcases List.mem_cons.mp h with h | h
  ·injection h with h1 h2
   subst h1;subst h2
   rw [if_pos (show (NameKind.cell==NameKind.cell)=true from rfl)]
   exact fC r (n+1) _ ⟨n,by simp [List.lookup_cons]⟩
  ·split
   ·exact fR r (n+1) _ h
   ·exact fR r n acc h
theorem xA {M:Model}{A:Around}{E:Value→Shared→Prop}{s:Shared}{scope:Scope}{globals:Addr}{cl:List (Str×Addr)}{qual:Str}{env:Env}{Q:Env→Shared→Prop}
 (h:Q { scope:=scope,locals:=s.heap.objs.size,globals:=globals,cells:=cellsFrom (s.heap.objs.size+1) scope.names cl,qual:=qual,func:=none,code:=env.code,frame:=env.frame,builtins:=env.builtins }
  { s with heap:=pushCells (s.heap.push { cls:=.type "dict",data:=.dict #[] }) scope.names }) :
 wpAny M A (newFunctionEnv scope globals cl [] qual none .none (some env)) Q E s:=by
 simp only [newFunctionEnv,Option.isSome_some,if_true]
 refine wpAny_bind (wpAny_alloc ?_)
 refine wpAny_bind (wpAny_layCells _ (fun name kind cells=>by cases hkc:kind==NameKind.cell <;> simp [hkc]) _ _ _ _ ?_)
 rw [show ({ s with heap:=s.heap.push { cls:=.type "dict",data:=.dict #[] } }:Shared).heap.objs.size=s.heap.objs.size+1 from Heap.size_push ..]
 exact wpAny_bind (by rw [List.forIn_nil];exact wpAny_pure (wpAny_pure h))
section
variable {X:Cx}{elt tg iter:Expr}{ifs:List Expr}{scope:Scope}{pos:Pos}{N':List Str}{L:Nat}{src:List Nat}{wi:TI}{g:TG}{tt:TT}{te:TE}
theorem oZ (hc:X.calm=true) (ck:nv X.env.scope X.N scope N' L src) {cl:List (Str×Addr)}{pins:List (Addr×Obj)}{s:Shared}{σ:St}{H:Hp}{Q:VK} (I:aa X pins σ H s)
 (hsub:∀x c,cl.lookup x=some c→X.env.cells.lookup x=some c) (hhas:∀y∈scope.names,y.2=.free→∃c,cl.lookup y.1=some c)
 (hi:PI X tg iter wi) (hg:∀cl C s H ex pn,PG (dF X scope cl C N' s H ex pn) tg g) (hif:∀cl C s H ex pn,oO (dF X scope cl C N' s H ex pn) ifs tt)
 (he:∀cl C s H ex pn,PE (dF X scope cl C N' s H ex pn) elt te) (h:rR wi L src g tt te σ H Q) {RR:Value→Addr→Result→Shared→Prop}
 (hRR:∀D C H' f s' m,aa X pins σ H' s'→s'.heap.Ns C m→fS X pins H' C→Q (.ref D) H'→RR (.ref D) C (.ok f) s') :
 wpAny (model X.prog X.w) X.A (eval iter X.env) (fun x s₁=>wpAny (model X.prog X.w) X.A (pyIter x) (fun it s₂=>wpAny (model X.prog X.w) X.A (newList []) (fun acc s₃=>
  wpAny (model X.prog X.w) X.A (newFunctionEnv scope X.env.globals cl [] X.env.qual none .none (some X.env)) (fun cenv s₄=>
   codeAny (model X.prog X.w) X.A (.compStart (.ListComp elt [⟨tg,iter,ifs,0⟩] scope pos) 0 it acc { cenv with scope:=relabel scope X.env }) (RR acc cenv.locals) s₄) X.xe s₃) X.xe s₂) X.xe s₁) X.xe s:=by
 refine aA (hi pins s σ H _ I h) fun v s1 h1=>aA h1 fun itv s2 h2=>?_
 obtain ⟨it,fp,tn,J,H2,e,I2,T,st2,f2,q⟩:=h2
 subst e
 refine wpAny_newObj_type (xA ?_)
 dsimp only
 generalize hH2:s2.heap.push { cls:=.type "list",dict:=none,data:=.seq ([]:List Value).toArray }=hp2
 have hns₁:(pushCells (hp2.push { cls:=.type "dict",data:=.dict #[] }) scope.names).Ns hp2.objs.size fun _=>none:=(Heap.Ns.new hp2 (.type "dict")).keeps (pushCells_keeps _ _)
 have kp:∀b o,hp2.get? b=some o→(pushCells (hp2.push { cls:=.type "dict",data:=.dict #[] }) scope.names).get? b=some o:=fun b o e=>pushCells_keeps _ _ b o (Heap.get?_push_of_some _ e)
 have okc:=cellsFrom_ok scope.names (hp2.push { cls:=.type "dict",data:=.dict #[] }) (hp2.objs.size+1) [] ⟨fun _ _ hm=>(nomatch hm),List.Pairwise.nil⟩ (by rw [Heap.size_push];exact Nat.le_refl _)
 rw [Heap.size_push] at okc
 rw [lQ]
 have ncell:∀x c,(cellsFrom (hp2.objs.size+1) scope.names []).lookup x=some c→(x,NameKind.cell)∈scope.names:=fun x c e=>(fe _ _ _ (PySem.mem_of_lookup e)).elim id (fun z=>by cases z)
 have nhas:∀x,(x,NameKind.cell)∈scope.names→∃c,(cellsFrom (hp2.objs.size+1) scope.names []).lookup x=some c:=fun x h=>fR _ _ _ h
 generalize pushCells (hp2.push { cls:=.type "dict",data:=.dict #[] }) scope.names=h₁ at hns₁ kp okc ⊢
 generalize cellsFrom (hp2.objs.size+1) scope.names []=nw at okc ncell nhas ⊢
 have hC:hp2.objs.size=s2.heap.objs.size+1:=by rw [←hH2,Heap.size_push]
 have hDC:s2.heap.objs.size≠hp2.objs.size:=by rw [hC];exact Nat.ne_of_lt (Nat.lt_succ_self _)
 have hCle:s2.heap.objs.size≤hp2.objs.size:=by rw [hC];exact Nat.le_succ _
 have below:∀b,b<s2.heap.objs.size→b≠hp2.objs.size∧b≠s2.heap.objs.size:=fun b hb=>⟨by rw [hC];exact Nat.ne_of_lt (Nat.lt_succ_of_lt hb),Nat.ne_of_lt hb⟩
 have old:∀b o,s2.heap.get? b=some o→h₁.get? b=some o:=fun b o e=>kp b o (hH2▸Heap.get?_push_of_some _ e)
 have hacc:h₁.get? s2.heap.objs.size=some { cls:=.type "list",dict:=none,data:=.seq ([]:List Value).toArray }:=kp _ _ (hH2▸Heap.get?_push_size _ rfl)
 have hDn:H2 s2.heap.objs.size=none:=I2.fresh
 obtain ⟨W,⟨m0,w0⟩,turn⟩:=q _ hDn
 have fpo:∀b∈fp,∃o,s2.heap.get? b=some o∧∀v,o.data≠.cell v:=T.obj _ _ st2
 have fplt:∀b∈fp,b<s2.heap.objs.size:=fun b hb=>by obtain ⟨o,e,_⟩:=fpo b hb;exact Heap.lt_size e
 have hfrs:∀b∈fp,b∉dN X.stack:=fun b hb z=>by
  rcases List.mem_cons.mp (I2.stkSub b z) with z' | z'
  ·exact (f2 b hb).2.1 z'
  ·exact (f2 b hb).2.2.1 z'
 have bC:∀x c,(nw++cl).lookup x=some c→nw.lookup x=some c∨(nw.lookup x=none∧cl.lookup x=some c):=fun x c e=>by
  rw [List.lookup_append] at e
  cases q:nw.lookup x with
  | none=>rw [q] at e;exact .inr ⟨rfl,e⟩
  | some c'=>rw [q] at e;exact .inl e
 have nab:∀x c,nw.lookup x=some c→hp2.objs.size+1≤c:=fun x c e=>(okc.empty x c (PySem.mem_of_lookup e)).2
 have olt:∀x c,cl.lookup x=some c→c<s2.heap.objs.size:=fun x c e=>by
  obtain ⟨v,o,ho,_⟩:=I2.cell x c (hsub _ _ e)
  exact Heap.lt_size ho
 have n2o:∀x c y,nw.lookup x=some c→cl.lookup y=some c→False:=fun x c y e1 e2=>Nat.lt_irrefl c (Nat.lt_of_lt_of_le (olt y c e2) (Nat.le_trans hCle (Nat.le_of_succ_le (nab x c e1))))
 generalize hX:dF X scope (nw++cl) hp2.objs.size N' s2 H2 fp (X.pn++pins)=X'
 have ok':X'.Ok:=by
  subst hX
  refine ⟨I2.ok.mod,ck.kind,I2.ok.glob,I2.ok.blt,hCle,fun x y c e1 e2=>(bC x c e1).elim (fun g1=>(bC y c e2).elim (fun g2=>name_of_addr okc.apart (PySem.mem_of_lookup g1) (PySem.mem_of_lookup g2)) (fun g2=>(n2o x c y g1 g2.2).elim)) (fun g1=>(bC y c e2).elim (fun g2=>(n2o y c x g2 g1.2).elim) (fun g2=>I2.ok.inj x y c (hsub _ _ g1.2) (hsub _ _ g2.2))),fun x hx=>?_,fun x c z e=>?cab,I2.ok.hd,I2.ok.frames,.inl rfl,fun b hb=>⟨(below b (fplt b hb)).1,fun x c e=>(bC x c e).elim (fun g z=>Nat.lt_irrefl b (Nat.lt_of_lt_of_le (fplt b hb) (Nat.le_trans hCle (Nat.le_of_succ_le (z▸nab x c g))))) (fun g=>(f2 b hb).2.2.2.2.1 x c (hsub _ _ g.2))⟩,
   I2.bs,Nat.le_trans I2.ok.bsz I2.sz,fun b o e hb=>?_,hfrs,I2.stack,I2.stkFree⟩
  ·-- a name that is a cell or free
   have hx':(relabel scope X.env).names.lookup x=some .cell∨(relabel scope X.env).names.lookup x=some .free:=hx
   have key:∀(names:List (Str×NameKind)),
    ((names.map fun (n,k)=>if (k==NameKind.free && X.env.scope.kind==.function && X.env.kindOf n==some .cell) then (n,NameKind.cell) else (n,k)).lookup x=some .cell∨
     (names.map fun (n,k)=>if (k==NameKind.free && X.env.scope.kind==.function && X.env.kindOf n==some .cell) then (n,NameKind.cell) else (n,k)).lookup x=some .free)→∃y∈names,y.1=x∧(y.2=.free∨y.2=.cell):=by
    intro names
    induction names with
    | nil=>intro h;rcases h with h | h <;> simp at h
    | cons y r ih=>
     intro h
     obtain ⟨n,k⟩:=y
     by_cases hb:x=n
     ·subst hb
      refine ⟨(x,k),List.mem_cons_self,rfl,?_⟩
      by_cases hk:k=.free
      ·exact .inl hk
      ·have hkb:(k==NameKind.free)=false:=by simpa using hk
       right
       simp only [List.map_cons,hkb,Bool.false_and,Bool.false_eq_true,if_false,List.lookup_cons,beq_self_eq_true,if_true] at h
       rcases h with h | h
       ·exact Option.some.inj h
       ·exact absurd (Option.some.inj h) hk
     ·have hb':(x==n)=false:=by simpa using hb
      have h':((r.map fun (n,k)=>if (k==NameKind.free && X.env.scope.kind==.function && X.env.kindOf n==some .cell) then (n,NameKind.cell) else (n,k)).lookup x=some .cell∨
       (r.map fun (n,k)=>if (k==NameKind.free && X.env.scope.kind==.function && X.env.kindOf n==some .cell) then (n,NameKind.cell) else (n,k)).lookup x=some .free):=by
       rw [List.map_cons] at h
       dsimp only at h
       by_cases hcnd:(k==NameKind.free && X.env.scope.kind==.function && X.env.kindOf n==some .cell)=true
       ·rw [if_pos hcnd] at h
        simpa only [List.lookup_cons,hb'] using h
       ·rw [if_neg hcnd] at h
        simpa only [List.lookup_cons,hb'] using h
      obtain ⟨y,hy,e1,e2⟩:=ih h'
      exact ⟨y,List.mem_cons_of_mem _ hy,e1,e2⟩
   obtain ⟨y,hy,e1,e2⟩:=key scope.names hx'
   show ∃c,(nw++cl).lookup x=some c
   rw [List.lookup_append]
   cases q:nw.lookup x with
   | some c=>exact ⟨c,rfl⟩
   | none=>
    rcases e2 with e2 | e2
    ·obtain ⟨c,hc'⟩:=hhas y hy e2
     exact ⟨c,by rw [←e1,hc'];rfl⟩
    ·obtain ⟨c,hc'⟩:=nhas x (by obtain ⟨y1,y2⟩:=y;dsimp only at e1 e2;rw [←e1,←e2];exact hy)
     rw [q] at hc';cases hc'
  case cab=>
   have z':(scope.names.lookup x==some NameKind.cell)=true:=z
   obtain ⟨c',hc'⟩:=nhas x (PySem.mem_of_lookup (by simpa using z'))
   rcases bC x c e with g | g
   ·have:=nab x c g
    show s2.heap.objs.size≤c
    trivial
   ·rw [hc'] at g;cases g.1
  ·rcases (f2 b hb).2.2.2.1 with z | z
   ·exact I2.ok.noex b o e z
   ·exact absurd (Nat.lt_of_lt_of_le (Heap.lt_size e) (Nat.le_trans I2.ok.bsz z)) (Nat.lt_irrefl _)
 have stat:∀{H':Hp},(∀b∈fp,H' b=none)→∀b∈fp,fS X' [] H' b:=by
  subst hX
  intro H' hn b hb
  refine ⟨hn b hb,(below b (fplt b hb)).1,hfrs b hb,.inl hb,fun x c e=>(bC x c e).elim (fun g z=>Nat.lt_irrefl b (Nat.lt_of_lt_of_le (fplt b hb) (Nat.le_trans hCle (Nat.le_of_succ_le (z▸nab x c g))))) (fun g=>(f2 b hb).2.2.2.2.1 x c (hsub _ _ g.2)),fun p hp=>?_⟩
  have hp':p∈X.pn++pins:=by simpa [dF,mo] using hp
  exact (f2 b hb).2.2.2.2.2 p hp'
 have I1:aa X' [] (fh L src σ) (aI H2 s2.heap.objs.size (.lst [])) { s2 with heap:=h₁,toks:=s2.toks }:=by
  subst hX
  have up:∀b o,H2 b=some o→aI H2 s2.heap.objs.size (.lst []) b=some o:=fun b o e=>by rw [ap (ba e hDn)];exact e
  have upn:∀b,b<s2.heap.objs.size→H2 b=none→aI H2 s2.heap.objs.size (.lst []) b=none:=fun b hb e=>by rw [ap (Nat.ne_of_lt hb)];exact e
  refine ⟨ok',rfl,I2.bare,Un.laid old (Nat.le_refl _) hDn,⟨_,hns₁,fun i x v e1 e2 e3=>?_⟩,fun x c e=>?_,?_,fun x c e=>?_,fun p hp=>?_,I2.hok.laid old (Nat.le_refl _) ⟨Nat.zero_le _,[],0,.nil,hacc⟩,?_⟩
  ·-- the names of the def around
   have hiL:L≤i:=by
    by_cases hlt:i<L
    ·exfalso
     unfold fh at e2
     rw [List.getElem?_append_left (by simpa using hlt),List.getElem?_replicate,if_pos hlt] at e2
     cases e2
    ·trivial
   have e2':(src.map fun j=>(σ[j]?).join)[i - L]?=some (some v):=by
    unfold fh at e2
    rw [List.getElem?_append_right (by simpa using hiL),List.length_replicate] at e2
    exact e2
   rw [List.getElem?_map] at e2'
   cases hj:src[i - L]? with
   | none=>rw [hj] at e2';cases e2'
   | some j=>
    rw [hj] at e2'
    have e3':(σ[j]?).join=some v:=Option.some.inj e2'
    have hσ:σ[j]?=some (some v):=by
     cases q:σ[j]? with
     | none=>rw [q] at e3';cases e3'
     | some o=>rw [q] at e3';exact congrArg some e3'
    obtain ⟨x',g1,g2,g3⟩:=ck.frees (i - L) j hj
    have:L+(i - L)=i:=by trivial
    rw [this] at g1
    have ex:x'=x:=Option.some.inj (g1.symm.trans e1)
    subst ex
    have hfree:=ck.free _ (PySem.mem_of_lookup g3) rfl
    obtain ⟨m,hn,hl⟩:=I2.loc
    obtain ⟨u,r,l⟩:=hl j x' v g2 hσ (hfree.elim (fun z=>.inr (.inl z)) fun z=>.inr (.inr z))
    refine ⟨u,r,.inr ⟨?_,?_⟩⟩
    ·-- its kind in the block
     have key:∀(names:List (Str×NameKind)),names.lookup x'=some .free→
      ((names.map fun (n,k)=>if (k==NameKind.free && X.env.scope.kind==.function && X.env.kindOf n==some .cell) then (n,NameKind.cell) else (n,k)).lookup x'=some .cell∨
       (names.map fun (n,k)=>if (k==NameKind.free && X.env.scope.kind==.function && X.env.kindOf n==some .cell) then (n,NameKind.cell) else (n,k)).lookup x'=some .free):=by
      intro names
      induction names with
      | nil=>intro h;simp at h
      | cons y r ih=>
       intro h
       obtain ⟨n,k⟩:=y
       by_cases hb:x'=n
       ·subst hb
        simp only [List.lookup_cons,beq_self_eq_true,if_true] at h
        have hk:k=.free:=Option.some.inj h
        subst hk
        rw [List.map_cons]
        dsimp only
        by_cases hcnd:(NameKind.free==NameKind.free && X.env.scope.kind==.function && X.env.kindOf x'==some .cell)=true
        ·rw [if_pos hcnd];left;simp [List.lookup_cons]
        ·rw [if_neg hcnd];right;simp [List.lookup_cons]
       ·have hb':(x'==n)=false:=by simpa using hb
        have h':=ih (by simpa only [List.lookup_cons,hb'] using h)
        rw [List.map_cons]
        dsimp only
        by_cases hcnd:(k==NameKind.free && X.env.scope.kind==.function && X.env.kindOf n==some .cell)=true
        ·rw [if_pos hcnd];simpa only [List.lookup_cons,hb'] using h'
        ·rw [if_neg hcnd];simpa only [List.lookup_cons,hb'] using h'
     exact key scope.names g3
    ·obtain ⟨c,hcl⟩:=hhas _ (PySem.mem_of_lookup g3) rfl
     have hcx:=hsub _ _ hcl
     rcases l with ⟨k1,_⟩ | ⟨_,c',e4,z⟩
     ·exfalso
      have k1':X.env.scope.names.lookup x'=some .local:=k1
      rcases hfree with z | z
      ·rw [z] at k1';cases k1'
      ·rw [z] at k1';cases k1'
     ·rw [hcx] at e4
      cases e4
      obtain ⟨o,ho,hd⟩:=z
      refine ⟨c,?_,o,old _ _ ho,hd⟩
      show (nw++cl).lookup x'=some c
      rw [List.lookup_append]
      cases q:nw.lookup x' with
      | none=>exact hcl
      | some c'=>
       exfalso
       have:=ck.cells _ (ncell _ _ q) rfl
       dsimp only at this
       rw [g3] at this;cases this
  ·rcases bC x c e with g | g
   ·exact ⟨none,(okc.empty x c (PySem.mem_of_lookup g)).1⟩
   ·obtain ⟨v,o,ho,hd⟩:=I2.cell x c (hsub _ _ g.2)
    exact ⟨v,o,old _ _ ho,hd⟩
  ·show aI H2 s2.heap.objs.size (.lst []) hp2.objs.size=none
   rw [ap (Ne.symm hDC)]
   exact I2.hok.fresh hCle
  ·rcases bC x c e with g | g
   ·have:=nab x c g
    rw [ap (by intro z;rw [z] at this;trivial)]
    exact I2.hok.fresh (by trivial)
   ·obtain ⟨v,o,ho,hd⟩:=I2.cell x c (hsub _ _ g.2)
    exact upn c (Heap.lt_size ho) (I2.freeC x c (hsub _ _ g.2))
  ·have hp':p∈X.pn++pins:=by simpa [dF,mo] using hp
   obtain ⟨e,n,ne,nf,d⟩:=I2.pin p hp'
   have hlt:=Heap.lt_size e
   refine ⟨old _ _ e,upn _ hlt n,(below _ hlt).1,fun z=>?_,d⟩
   rcases List.mem_cons.mp (I2.stkSub _ z) with z' | z'
   ·exact ne z'
   ·exact nf z'
  ·show (fh L src σ).length=N'.length
   unfold fh
   rw [List.length_append,List.length_replicate,List.length_map,ck.len]
 have eA:X'.A=X.A:=by subst hX;rfl
 have eP:X'.prog=X.prog:=by subst hX;rfl
 have eW:X'.w=X.w:=by subst hX;rfl
 have eK:X'.K=X.K:=by subst hX;rfl
 have ec:X'.calm=true:=by subst hX;exact hc
 have exe:X'.xe=fun _ _=>False:=by subst hX;rfl
 have eE:X'.env=compEnvC scope (nw++cl) hp2.objs.size X.env:=by subst hX;rfl
 have hg':PG X' tg g:=by subst hX;exact hg _ _ _ _ _ _
 have hif':oO X' ifs tt:=by subst hX;exact hif _ _ _ _ _ _
 have he':PE X' elt te:=by subst hX;exact he _ _ _ _ _ _
 have aft:∀{H':Hp}{s':Shared},aa X' [] (fh L src σ) H' s'→aa X pins σ H' s'∧(∃m,s'.heap.Ns hp2.objs.size m)∧fS X pins H' hp2.objs.size:=by
  subst hX
  intro H' s' J
  refine ⟨I2.call' (ch:=fp) J.os J.base J.hok J.bare fun b hb=>⟨(f2 b hb).2.2.2.1,(f2 b hb).2.1,(f2 b hb).2.2.2.2.1,(f2 b hb).2.2.2.2.2⟩,?_,I2.fpOk hCle J.free⟩
  obtain ⟨m,hn,_⟩:=J.loc
  exact ⟨m,hn⟩
 have st1:tn 0 h₁:=T.keep _ _ _ st2 fun b hb o e=>old b o e
 have loop:∀s₃:Shared,s₃={ s2 with heap:=h₁,toks:=s2.toks }→
  codeAny (model X.prog X.w) X.A (.compLoop (.ListComp elt [⟨tg,iter,ifs,0⟩] scope pos) 0 (.ref it) (.ref s2.heap.objs.size) (compEnvC scope (nw++cl) hp2.objs.size X.env))
   (RR (.ref s2.heap.objs.size) hp2.objs.size) s₃:=by
  rintro s₃ rfl
  refine mX (fun n s'=>i6 fun i H' ys=>aa X' [] (fh L src σ) H' s'∧tn i s'.heap∧(∀b∈fp,H' b=none)∧W i n H' ys) ?_ m0
   ⟨0,_,[],I1,st1,fun b hb=>(by rw [ap (below b (fplt b hb)).2];exact (f2 b hb).1),w0⟩
  rintro n s3 ⟨i,H3,ys,I3,st3,fr3,w3⟩
  obtain ⟨hD,alt⟩:=turn i n H3 ys w3
  rcases alt with ⟨stop,qn⟩ | ⟨go,hlen,N,hN,step⟩
  ·have d:=T.done X' eP eW eK ec i [] s3 (fh L src σ) H3 (fun _ _=>False) I3 (stat fr3) st3 stop
   rw [eA] at d
   refine aA d fun r s4 ⟨hr,I4⟩=>?_
   subst hr
   obtain ⟨J,⟨m,hn⟩,fpC⟩:=aft I4
   exact hRR _ _ H3 .next s4 m J hn fpC qn
  ·have d:=T.item X' eP eW eK ec i [] s3 (fh L src σ) H3 (fun _ _=>False) I3 (stat fr3) st3 go
   rw [eA] at d
   refine aA d fun r s4 ⟨u,hr,h4⟩=>?_
   subst hr
   refine aA h4 fun _ s5 ⟨x,H5,I5,r5,y5,st5,fr5⟩=>?_
   have I5':=I5.pinned (stat fr5) (T.obj _ _ st5)
   have a1:=hg' _ s5 (fh L src σ) H5 x u _ I5' r5 (step x H5 y5)
   rw [eP,eW,eA,eE,exe] at a1
   refine aA a1 fun _ s6 ⟨σ6,H6,I6,bk,q6⟩=>?_
   have a2:=hif' _ s6 σ6 H6 _ I6 q6
   rw [eP,eW,eA,eE,exe] at a2
   refine aA a2 fun b s7 ⟨H7,I7,q7⟩=>?_
   have again:∀{H8:Hp}{s8:Shared}{ys':List V},aa X' ([]++ja fp s5.heap) σ6 H8 s8→N H8 ys'→∃m,m<n∧i6 fun i H' ys=>aa X' [] (fh L src σ) H' s8∧tn i s8.heap∧(∀b∈fp,H' b=none)∧W i m H' ys:=fun {H8 s8 ys'} I8 n8=>by
    obtain ⟨m',hm,w8⟩:=hN H8 ys' n8
    refine ⟨m',hm,i+1,H8,ys',(I8.unpinned).weak bk.1.symm bk.2,T.keep _ _ _ st5 fun b hb o e=>(I8.pin (b,o) (List.mem_append_right _ (List.mem_append_right _ (gj hb e)))).1,fun b hb=>?_,w8⟩
    obtain ⟨o,e,d⟩:=T.obj _ _ st5 b hb
    exact (I8.pin (b,o) (List.mem_append_right _ (List.mem_append_right _ (gj hb e)))).2.1
   cases b with
   | false=>
    rw [if_neg Bool.false_ne_true] at q7 ⊢
    exact again I7 q7
   | true=>
    rw [if_pos rfl] at q7 ⊢
    have a3:=he' _ s7 σ6 H7 _ I7 q7
    rw [eP,eW,eA,eE,exe] at a3
    refine aA a3 fun xv s8 ⟨y,H8,I8,r8,hD8,q8⟩=>?_
    have a4:=lg (X:=X') _ s8 σ6 H8 (.ref s2.heap.objs.size) [y] (.ref s2.heap.objs.size) [xv] (fun _ H'=>H'=aI H8 s2.heap.objs.size (.lst (ys++[y]))) I8 rfl (.cons r8 .nil) ⟨_,ys,y,rfl,rfl,hD8,hlen,rfl⟩
    rw [eP,eW,eA,exe] at a4
    refine aA a4 fun _ s9 ⟨_,H9,I9,_,e9⟩=>?_
    subst e9
    exact again I9 q8
 exact codeAny_compStart_list (loop _ rfl) (T.self _ 0 _ _ _ st1 (loop _ rfl))
theorem jY (hc:X.calm=true) (ck:jU X.env.scope X.N scope N' L src=true) (hi:PI X tg iter wi) (hg:∀cl C s H ex pn,PG (dF X scope cl C N' s H ex pn) tg g) (hif:∀cl C s H ex pn,oO (dF X scope cl C N' s H ex pn) ifs tt)
 (he:∀cl C s H ex pn,PE (dF X scope cl C N' s H ex pn) elt te) (hs:∀x,foldedSetIterable iter X.env x=pure x:=by intro _;rfl) :
 PE X (.ListComp elt [⟨tg,iter,ifs,0⟩] scope pos) (rR wi L src g tt te):=by
 intro pins s σ H Q I h
 have ck:=oz ck
 obtain ⟨cl,hclos,hsub,hhas⟩:=sk (scope:=scope) (env:=X.env) fun y hy e=>I.ok.has y.1 (ck.free y hy e)
 rw [eval_ListComp]
 refine wpAny_comprehension_free (use:=none) rfl hs hclos ck.kind ck.loc (oZ hc ck I hsub hhas hi hg hif he h (RR:=fun acc C=>compPost (model X.prog X.w) X.A X.xe none (EP X pins σ Q) acc C) ?_)
 intro D C H' f s' m J hn fpC q
 refine ⟨m,hn,fun h' hsb=>⟨.ref D,H',?_,rfl,q⟩⟩
 obtain ⟨f0,f1,f2,f3,f4,f5⟩:=fpC
 exact J.turned (t':=s'.toks) (fun b o hb e=>(hsb.2 b hb).trans e) f0 f1 f3 f4 f5
end
end L2
namespace HT
open PySem PySem.Spec PyProof.Rows
section
variable {prog:Program}{w:World}{A:Around}{E:Value→Shared→Prop}{s:Shared}
theorem qm (xs:Array Value):((List.range xs.size).filterMap fun (k:Nat)=>xs[(((xs.size:Int) - 1)+(k:Int)*(-1)).toNat]?).toArray=xs.toList.reverse.toArray:=by
 have e:((List.range xs.size).filterMap fun (k:Nat)=>xs[(((xs.size:Int) - 1)+(k:Int)*(-1)).toNat]?)=((List.range xs.size).map fun k=>xs.size - 1 - k).filterMap fun (k:Nat)=>xs[k]?:=by
  rw [List.filterMap_map]
  have f:(fun (k:Nat)=>xs[(((xs.size:Int) - 1)+(k:Int)*(-1)).toNat]?)=((fun k=>xs[k]?) ∘ fun k=>xs.size - 1 - k):=by
   funext k
   show _=xs[xs.size - 1 - k]?
   congr 1
   trivial
  rw [f]
 rw [e,PySem.W.krv_range,List.filterMap_reverse,PySem.W.krv_all]
theorem oV (n:Nat):Builtin.Slice.slicePlaces ((n:Int) - 1) (-1) (-1)=n:=by
 unfold Builtin.Slice.slicePlaces
 have h1:¬((-1:Int) > 0):=by decide
 simp only [h1,if_false]
 by_cases h:(n:Int) - 1 > -1
 ·simp only [h,if_true]
  rw [show (-(-1):Int)=1 by decide,Int.ediv_one]
  trivial
 ·simp only [h,if_false]
  trivial
theorem jP {sl:Addr}{vk:Value}{n:Nat}{R:Int×Int×Nat→Shared→Prop} (hs:s.heap.IsSliceOf sl .none .none vk) (pk:IsPart vk (some (-1))) (r:R (((n:Int) - 1),-1,n) s):wpAny (model prog w) A (Builtin.Slice.sliceApplied (.ref sl) (pure (n:Int))) R E s:=by
 obtain ⟨os,hos,hcs,hds⟩:=id hs
 unfold Builtin.Slice.sliceApplied Builtin.Slice.sliceFields
 refine wpAny_bind (wpAny_bind (wpAny_field hos hds (x:=.none) rfl (wpAny_bind (wpAny_field hos hds (x:=.none) rfl (wpAny_bind (wpAny_field hos hds (x:=vk) rfl (wpAny_pure ?_)))))))
 refine wpAny_bind (oK pk ?_)
 show wpAny _ _ (if ((-1:Int)==0)=true then _ else _) _ _ s
 rw [if_neg (by decide)]
 refine wpAny_bind (slicePart_none (wpAny_bind (slicePart_none (wpAny_bind (wpAny_pure ?_)))))
 show wpAny _ _ (pure (((n:Int) - 1),(-1:Int),Builtin.Slice.slicePlaces ((n:Int) - 1) (-1) (-1))) _ _ s
 rw [oV]
 exact wpAny_pure r
theorem getItem_tuple_rev {t sl:Addr}{items:Array Value}{vk:Value}{Q:Value→Shared→Prop} (ht:IsTup s.heap t items) (hs:s.heap.IsSliceOf sl .none .none vk) (pk:IsPart vk (some (-1)))
 (h:Q (.ref s.heap.objs.size) { s with heap:=s.heap.push { cls:=.type "tuple",data:=.seq items.toList.reverse.toArray } })
 (hsz:items.size≤sizeLine):wpAny (model prog w) A (getItem (.ref t) (.ref sl)) Q E s:=by
 have htake:sizeOk (.seq items.toList.reverse.toArray):=by
  show items.toList.reverse.toArray.size≤sizeLine
  rw [List.size_toArray,List.length_reverse,Array.length_toList]
  exact hsz
 obtain ⟨os,hos,hcs,hds⟩:=id hs
 have hTs:s.TypeIs (.ref sl) "slice" := ⟨os,hos,hcs⟩
 unfold getItem
 try with_reducible refine wpAny_holding ?_
 first | refine wpAny_bind (wpAny_pure ?_) | skip
 refine wpAny_bind (wpAny_sequenceKey ht.typeIs (by decide) ?_)
 refine wpAny_bind (wpAny_callSpecial?_slot (name:=Str.ofString "__getitem__") ht.typeIs PyProof.Rows.slot_tuple_getitem
  (wpAny_call_entry PyProof.Rows.slot_tuple_getitem ht.typeIs entry_tuple_getitem ?_ (args_tuple_getitem _ _)))
 show wpAny _ _ (Builtin.Tuple.tupleItemsOf (.ref t) >>= _) _ _ s
 refine wpAny_bind (tupleItemsOf_ ht ?_)
 refine wpAny_bind (wpAny_typeOf hTs ?_)
 rw [if_pos (by decide)]
 refine wpAny_bind (jP hs pk ?_)
 have hno:¬((((items.size:Int) - 1)==0 && (-1:Int)==1 && items.size==items.size)=true):=by
  intro q
  rw [Bool.and_eq_true,Bool.and_eq_true] at q
  exact absurd q.1.2 (by decide)
 show wpAny _ _ (if (((items.size:Int) - 1)==0 && (-1:Int)==1 && items.size==items.size)=true then _ else _) _ _ s
 rw [if_neg hno,qm]
 first
  | exact wpAny_bind (m:=Builtin.Tuple.tupleExact _) (wpAny_newObj_type (wpAny_pure ⟨_,rfl,wpAny_pure h⟩) htake)
  | exact wpAny_bind (m:=Builtin.Tuple.tupleExact _) (wpAny_newObj_type (wpAny_bind (wpAny_pure (wpAny_pure ⟨_,rfl,wpAny_pure h⟩))) htake)
end
end HT
namespace L2
open PySem PySem.Spec PyProof.Rows
section
variable {X:Cx}{K:PySem.W.Frag}
def Ob (c:Bool) (H:Hp) (a:Addr) (xs:List V):Prop:=H a=some (if c=true then .lst xs else .tup xs)
end
section
variable {X:Cx}{e:Expr}{te:TE}{st:Expr}{ts:TO}{p2 pos:Pos}
def wR:V→Hp→VK→Prop:=fun x H Q=>(aX fun a m=>x=.str a∧cp m a∧m≤10000∧∀c,cp m c→Q (.str c) H)∨
 i6 fun c a xs=>x=.ref a∧Ob c H a xs∧∀p H',au H H'→Ob c H' p xs.reverse→H p=none→Q (.ref p) H'
def wf (te:TE) (ts:TO):TE:=fun σ H Q=>te σ H fun x H1=>ts σ H1 fun k H2=>k=some (-1)∧wR x H2 Q
theorem sf (he:PE X e te) (hst:PO X (some st) ts):PE X (.Subscript e (.Slice none none (some st) p2) pos) (wf te ts):=by
 intro pins s σ H Q I h
 refine Subscript_ (aA (he pins s σ H _ I h) fun v s1 ⟨x,H1,I1,r1,q1⟩=>?_)
 refine wpAny_Slice ?_
 rw [evalPart_none]
 refine wpAny_pure (wpAny_pure (aA (hst pins s1 σ H1 _ I1 q1) fun vs s3 ⟨k,H3,I3,pk,q3⟩=>?_))
 obtain ⟨rfl,q3⟩:=q3
 have I4:aa X pins σ H3 { s3 with heap:=s3.heap.push { cls:=.type "slice",data:=.fields #[.none,.none,vs] } }:=I3.kept (t':=s3.toks) fun b ob q=>Heap.get?_push_of_some _ q
 rcases q3 with ⟨a,m,rfl,ta,hm,q⟩ | ⟨c,a,xs,rfl,hx,q⟩
 ·obtain ⟨t,rfl⟩:=r1
  obtain ⟨tk,ei⟩:∃(tk:Tok),vs=.int (-1) tk:=by
   cases pk with
   | int i t=>exact ⟨t,rfl⟩
  subst ei
  show wpAny (model X.prog X.w) X.A (subscriptTail e (.Slice none none (some st) p2) (.str a t) (.ref s3.heap.objs.size)) (EP X pins σ Q) X.xe { s3 with heap:=s3.heap.push { cls:=.type "slice",data:=.fields #[.none,.none,.int (-1) tk] } }
  refine tail_any (ops:=[.str a t,.ref s3.heap.objs.size]) (typeIs_str _ a t) F.slot_str_getitem.lookup ?_ (by with_unfolding_all rfl)
  refine wpAny_getItem_str_slice (l:=none) (u:=none) (st:=some (-1,tk)) ⟨_,Heap.get?_push_size _ rfl,rfl,rfl⟩ rfl ?_
  unfold sliceMade
  rw [if_neg (by intro z;rw [Bool.and_eq_true] at z;exact absurd z.1 (by show ¬(((-1:Int)==1)=true);decide))]
  have ep:slicePicked a none none (some (-1,tk))=(List.range a.length).reverse:=by
   show Builtin.Str.strSliceIndices none none (-1) a.length=_
   unfold Builtin.Str.strSliceIndices
   show sliceRange ((a.length:Int) - 1) (-1) (-1)=_
   rw [PySem.W.krv_sliceRange,PySem.W.krv_range]
  rw [ep]
  have er:((List.range a.length).reverse.filterMap fun x=>a.cps[x]?)=a.cps.toList.reverse:=by
   rw [List.filterMap_reverse]
   exact congrArg List.reverse (PySem.W.krv_all a.cps)
  rw [er]
  have hl:(⟨a.cps.toList.reverse.toArray⟩:Str).length=a.length:=by
   show a.cps.toList.reverse.toArray.size=_
   simp;rfl
  refine ⟨?_,.str ⟨_⟩,H3,I4.tok _,⟨()⟩,q _ ⟨by rw [hl];exact ta.1,fun c hc=>ta.2 c (by simpa using hc)⟩⟩
  show (⟨a.cps.toList.reverse.toArray⟩:Str).length≤_
  rw [hl]
  exact Nat.le_trans ta.1 (dL hm)
 ·cases r1
  cases c with
  | true=>
   obtain ⟨its,r,ht,hz⟩:=I4.list (aD.of hx)
   have hlen:=r.length
   show wpAny (model X.prog X.w) X.A (subscriptTail e (.Slice none none (some st) p2) (.ref a) (.ref s3.heap.objs.size)) (EP X pins σ Q) X.xe { s3 with heap:=s3.heap.push { cls:=.type "slice",data:=.fields #[.none,.none,vs] } }
   refine tail_any (ops:=[.ref a,.ref s3.heap.objs.size]) ht.isList.typeIs slot_list_getitem.lookup ?_ (by with_unfolding_all rfl)
   refine wpAny_getItem_list_slice ht.isList (Heap.IsSliceOf.new ..) .none .none pk (by decide) ?_ (by rw [List.size_toArray] <;> trivial)
   rw [PySem.W.krv_pick]
   have hf:=I4.hok.fresh (Nat.le_refl _)
   refine ⟨.ref (s3.heap.push { cls:=.type "slice",data:=.fields #[.none,.none,vs] }).objs.size,_,I4.laid (t':=s3.toks) (o:=.lst xs.reverse) (fun b ob q=>Heap.get?_push_of_some _ q) (Nat.le_refl _) ?_,rfl,q _ _ (au.new hf) aF hf⟩
   exact ⟨by rw [List.length_reverse];exact hz,_,0,r.rev,Heap.get?_push_size _ rfl⟩
  | false=>
   obtain ⟨its,r,ht,hz⟩:=I4.tuple (bq.of hx)
   have hlen:=r.length
   show wpAny (model X.prog X.w) X.A (subscriptTail e (.Slice none none (some st) p2) (.ref a) (.ref s3.heap.objs.size)) (EP X pins σ Q) X.xe { s3 with heap:=s3.heap.push { cls:=.type "slice",data:=.fields #[.none,.none,vs] } }
   refine tail_any (ops:=[.ref a,.ref s3.heap.objs.size]) ht.typeIs PyProof.Rows.slot_tuple_getitem.lookup ?_ (by with_unfolding_all rfl)
   have hf:=I4.hok.fresh (Nat.le_refl _)
   refine HT.getItem_tuple_rev ht (Heap.IsSliceOf.new ..) pk ?_ (by rw [List.size_toArray] <;> trivial)
   refine ⟨.ref (s3.heap.push { cls:=.type "slice",data:=.fields #[.none,.none,vs] }).objs.size,_,I4.laid (t':=s3.toks) (o:=.tup xs.reverse) (fun b ob q=>Heap.get?_push_of_some _ q) (Nat.le_refl _) ?_,rfl,q _ _ (au.new hf) aF hf⟩
   exact ⟨by rw [List.length_reverse];exact hz,_,r.rev,IsTup.new _ _,_,Heap.get?_push_size _ rfl,rfl⟩
end
section
variable {H H' H'':Hp}{z n k m:Nat}{v:V}{E:Addr→Prop}{b th th' p:Addr}{xs ys zs:List V}
end
section
variable {E:Addr→Prop}{z:Nat}{H0:Hp}{σ:St}{n k m:Nat}{te tb:TE}{ta:TA}{v:V}{i:Nat}{p:Addr}{xs:List V}{K:PySem.W.Frag}
end
section
variable {b th:Addr}{H0:Hp}{σ:St}{zs:List V}{ta:TA}{te:TE}{n i:Nat}{Q:VK}{K:PySem.W.Frag}
end
theorem b7 {te:TE}{i:Nat}{u:TS}{D:c4}{σ:St}{H:Hp} (h:∀Q:VK,(∀v H',u D (σ.set i (some v)) H'→Q v H')→te σ H Q):ii (qr te (lT i)) u D σ H:=h _ fun _ _ z=>z
theorem vo {ta:TA}{i j:Nat}{u:TS}{D:c4}{σ:St}{H:Hp} (h:∀Q:List V→Hp→Prop,(∀v w H',u D ((σ.set i (some v)).set j (some w)) H'→Q [v,w] H')→ta σ H Q):ii (tV i j ta) u D σ H:=h _ fun _ _ _ z=>⟨_,(),z⟩
theorem iR {te:TE}{D:c4}{σ:St}{H:Hp} (h:∀Q:VK,(∀v H',D.rt v H'→Q v H')→te σ H Q):u3 te D σ H:=h _ fun _ _ z=>z
theorem c8 {α:Type}{P:List α→Prop} (h:∀a,P [a]):∀us:List α,us.length=1→P us:=fun us hl=>by
 cases us with
 | nil=>cases hl
 | cons a r=>cases r with
  | nil=>exact h a
  | cons b r=>simp at hl
theorem dy {α:Type}{P:List α→Prop} (h:∀a b,P [a,b]):∀us:List α,us.length=2→P us:=fun us hl=>by
 cases us with
 | nil=>cases hl
 | cons a r=>exact c8 (P:=fun r=>P (a :: r)) (fun b=>h a b) r (by simpa using hl)
section
variable {X:Cx}{a:Expr}{ta:TA}{p p2 pos pos2:Pos}
end
section
variable {prog:Program}{w:World}{A:Around}{E:Value→Shared→Prop}{s:Shared}
variable {z TI TO i1 i2 l1 l2 T:Addr}{k:Nat}{xs ys:Array Value}{bb:Bool}{c1 c2:Bool}{oT:Obj}
end
section
variable {prog:Program}{w:World}{A:Around}{E:Value→Shared→Prop}{R:Result→Shared→Prop}
variable {z TI TO i1 i2 l1 l2 d:Addr}{xs ys:Array Value}{c1 c2:Bool}{ks:List eD}
end
section
variable {X:Cx}{K:PySem.W.Frag}{a b:Expr}{ta:TA}{p1 p2 p3 p4:Pos}
end
section
variable {X:Cx}
end
section
variable {prog:Program}{w:World}{A:Around}{E:Value→Shared→Prop}{s:Shared}
variable {n l1 l2 l3 T:Nat}{k:Nat}{xs ys zs:Array Value}{bb:Bool}{oT:Obj}
end
section
variable {prog:Program}{w:World}{A:Around}{E:Value→Shared→Prop}{s:Shared}
variable {n l1 l2 l3:Nat}{k:Nat}{xs ys zs:Array Value}
end
section
variable {prog:Program}{w:World}{A:Around}{E:Value→Shared→Prop}{R:Result→Shared→Prop}
variable {n l1 l2 l3:Nat}{xs ys zs:Array Value}
end
section
variable {prog:Program}{w:World}{A:Around}{E:Value→Shared→Prop}{s:Shared}
end
section
variable {X:Cx}{pins:List (Addr×Obj)}{σ:St}{H:Hp}{s:Shared}{h':Heap}
end
section
variable {X:Cx}{K:PySem.W.Frag}{a b c:Expr}{ta:TA}{p1 p2 p3 p4:Pos}
end
section
variable {prog:Program}{w:World}{A:Around}{E:Value→Shared→Prop}{s:Shared}
end
section
variable {prog:Program}{w:World}{A:Around}{E:Value→Shared→Prop}{R:Result→Shared→Prop}
variable {l it d:Nat}{vs:Array Value}{ks:List eD}{us:List Value}
end
section
variable {X:Cx}
end
section
variable {X:Cx}
end
end L2
namespace L2
open PySem PySem.Spec PyProof.Rows
section
variable {X:Cx}
end
section
variable {prog:Program}{w:World}{A:Around}{R:Result→Shared→Prop}{s:Shared}
end
section
variable {X:Cx}{kx vx tg iter:Expr}{ifs:List Expr}{scope:Scope}{pos:Pos}{N':List Str}{L:Nat}{src:List Nat}{wi:TI}{g:TG}{tt:TT}{tk tv:TE}
end
end L2
namespace KM
variable {ls:List (List Nat)}{es done:List Edge}{W u:List Nat→Rat}{S:List (List Nat)}{q:List Nat}{m:Rat}
end KM
namespace L2
open PySem PySem.Spec PyProof.Rows
section
variable {z:Nat}{E:Addr→Prop}{H H':Hp}{n m k:Nat}{v:V}{xs ys:List V}
end
section
variable {X:Cx}{K:PySem.W.Frag}
theorem qS {α:Type}{xs:List α}{r:Int} (h0:0≤r) (h1:r<xs.length):∃v,e8 xs r=some v∧v∈xs:=by
 obtain ⟨v,hv⟩:∃v,xs[r.toNat]?=some v:=⟨_,List.getElem?_eq_getElem (by trivial)⟩
 have:=fD hv
 rw [Int.toNat_of_nonneg h0] at this
 exact ⟨v,this,List.mem_of_getElem? hv⟩
end
def wa:TS:=fun _ _ _=>False
section
variable {X:Cx}
theorem sR {st:Stmt}:PS X st wa:=fun _ _ _ _ _ _ h=>h.elim
theorem nV:∀{ks:List Int}{its:List Value},aw (ks.map V.int) its→∃ps:List (Int×Tok),its=ps.map (fun p=>Value.int p.1 p.2)∧ks=ps.map (·.1)
 | [],_,.nil=>⟨[],rfl,rfl⟩
 | k :: ks,u :: us,.cons r t=>by
  obtain ⟨tk,rfl⟩:=r
  obtain ⟨ps,e1,e2⟩:=nV t
  exact ⟨(k,tk) :: ps,by rw [e1];rfl,by rw [e2];rfl⟩
end
end L2
namespace L2
open PySem
end L2
namespace L2
open PySem PySem.Spec PyProof.Rows
section
variable {prog:Program}{w:World}{A:Around}{E:Value→Shared→Prop}{hp:Heap}{gs:Array GenState}{dr:Drawn}{tk:Nat}{os:OsState}
variable {nm qn:Str}{C N:Addr}{bs bm bB:List Value}{hd:Bool}{sn:List Str}{sb:List Value}{ab:Bool}{cl:Option Bool}{dd:Option Addr}{k0 k1 k2 k3 k5:Option Value}{B nw ni:String}
end
end L2
namespace L2
open PySem PySem.Spec PyProof.Rows PySem.W
section
variable {prog:Program}{w:World}{A:Around}{E:Value→Shared→Prop}{s:Shared}{K:Frag}{x C:Addr}{ox:Obj}{od:Option Obj}{name:Str}{fill expr:Bool}
abbrev ig (K:Frag) (C:Addr):Bool:=findIn K (.ref C) "__getattribute__" == some (some (.builtin "BaseException.__getattribute__")) && findIn K (.ref C) "__getattr__" == some none && mroIn K C (.type "BaseException")==some true
theorem nG {K:Frag}{C:Addr} (h:ig K C=true):findIn K (.ref C) "__getattribute__" = some (some (.builtin "BaseException.__getattribute__"))∧findIn K (.ref C) "__getattr__" = some none∧mroIn K C (.type "BaseException")=some true:=by
 simp only [ig,Bool.and_eq_true,beq_iff_eq] at h
 exact ⟨h.1.1,h.1.2,h.2⟩
theorem pR {tk:Tok}{R:Result→Shared→Prop}{f:Builtin.ObjectAttr.Found} (X:K.In s.heap) (I:InstAt s.heap x ox C od) (g:ig K C=true) (hf:findObj K C od name=some f)
 (h:wpAny (model prog w) A.in1 (match f with | .value v=>ret v | .bind g a=>Builtin.ObjectAttr.bindTo g a (.ref x) (.ref C) | .missing=>unsupported "") (fun fin s'=>match fin with | .done (.ret v)=>R (.ok (.ret v)) s' | _=>False) (fun _ _=>False) s) (hm:f≠.missing) :
 codeAny (model prog w) A (.call (.builtin "BaseException.__getattribute__") ⟨[.ref x,.str name tk],[]⟩) R s:=by
 obtain ⟨g1,g2,g3⟩:=nG g
 have sub:Looks (model prog w) s.heap (isInstance (.ref x) (.type "BaseException")) true:=I.type.andThen (looks_mroIn X g3)
 refine codeAny_call_builtin PySem.F.attr_ValueError.ga.plain PySem.F.entry_bexc_ga (@check_slot (model prog w) _ _ s "BaseException.__getattribute__" "BaseException" "__getattribute__" (.ref x) [.str name tk] [] _ (by nofun) (by nofun) sub (PySem.F.args_bexc_ga _ _) ?_)
 have L1:=looks_find (M:=model prog w) X I hf
 have L0:=I.type (M:=model prog w)
 unfold Builtin.«object.__getattribute__»
 refine wpAny_bind (wpAny_pure (wpAny_bind (wpAny_pure (wpAny_bind (L0.here (wpAny_bind (L1.here ?_)))))))
 cases f with
 | missing=>exact absurd rfl hm
 | value v=>
  refine wpAny_mono h (fun fin s' z=>?_) fun _ _ z=>z.elim
  rcases fin with (_ | _ | _ | _) | _ <;> first | exact z | exact z.elim
 | bind g a=>
  refine wpAny_mono h (fun fin s' z=>?_) fun _ _ z=>z.elim
  rcases fin with (_ | _ | _ | _) | _ <;> first | exact z | exact z.elim
theorem oa {tk:Tok}{Q:Value→Shared→Prop}{f:Builtin.ObjectAttr.Found} (X:K.In s.heap) (I:InstAt s.heap x ox C od) (g:ig K C=true) (hf:findObj K C od name=some f) (hm:f≠.missing)
 (h:wpAny (model prog w) A.in1 (match f with | .value v=>ret v | .bind g a=>Builtin.ObjectAttr.bindTo g a (.ref x) (.ref C) | .missing=>unsupported "") (fun fin s'=>match fin with | .done (.ret v)=>wpAny (model prog w) A (handedOut v) Q E s' | _=>False) (fun _ _=>False) s) :
 wpAny (model prog w) A (getAttrBy (.ref x) (.str name tk) fill expr) Q E s:=by
 obtain ⟨g1,g2,g3⟩:=nG g
 have L0:=I.type (M:=model prog w)
 have L1:=looks_findIn (M:=model prog w) X g1
 have L2:=looks_findIn (M:=model prog w) X g2
 unfold getAttrBy
 refine wpAny_holding (wpAny_bind (L0.here (wpAny_bind (L1.here ?_))))
 dsimp only
 rw [show (onTheHeap (Value.ref C) && Value.builtin "BaseException.__getattribute__" == Value.builtin "object.__getattribute__")=false from by rw [show (Value.builtin "BaseException.__getattribute__" == Value.builtin "object.__getattribute__")=false from by nofun,Bool.and_false],if_neg (by decide)]
 unfold getAttrByItsOwn hookBefore
 rw [if_pos (show onTheHeap (Value.ref C)=true from rfl)]
 refine wpAny_bind (L2.here (wpAny_bind (wpAny_attempt (wpAny_holding ?_))))
 unfold callGetattribute
 rw [show (expr && onTheHeap (Value.builtin "BaseException.__getattribute__"))=false by cases expr <;> rfl,if_neg (by decide)]
 unfold boundAndCalled
 rw [PySem.F.attr_ValueError.ga.bind]
 refine wpAny_bind (wpAny_pure (wpAny_call (pR X I g hf (wpAny_mono h (fun fin s' z=>?_) fun _ _ z=>z) hm)))
 rcases fin with (_ | _ | _ | _) | _ <;> first | exact z | exact z.elim
theorem vI {v:Value}{Q:Value→Shared→Prop} (X:K.In s.heap) (I:InstAt s.heap x ox C od) (g:ig K C=true) (hf:findObj K C od name=some (.value v)) (hh:handedIn v=true) (h:Q v { s with toks:=s.toks+1 }) :
 wpAny (model prog w) A (getAttr (.ref x) name expr) Q E s:=by
 unfold getAttr
 refine wpAny_bind (wpAny_mkText (oa (s:={ s with toks:=s.toks+1 }) X I g hf (fun z=>nomatch z) (wpAny_pure ?_)))
 show wpAny _ _ (handedOut v) _ _ _
 rw [handedOut_of hh]
 exact wpAny_pure h
abbrev iE (K:Frag) (C:Addr):Bool:=ig K C && (clsIn K C).isSome && findIn K (.ref C) "__class__" == some (some (.builtin "object.__class__")) && specialIn K (.builtin "object.__class__") "__get__" == some (some (.builtin "getset_descriptor.__get__")) && takesIn K (.builtin "object.__class__")==some true && mroIn K C (.type "object")==some true
theorem jw {K:Frag}{C:Addr} (h:iE K C=true):ig K C=true∧(clsIn K C).isSome=true∧findIn K (.ref C) "__class__" = some (some (.builtin "object.__class__"))∧specialIn K (.builtin "object.__class__") "__get__" = some (some (.builtin "getset_descriptor.__get__"))∧takesIn K (.builtin "object.__class__")=some true∧mroIn K C (.type "object")=some true:=by
 unfold iE at h
 simp only [Bool.and_eq_true,beq_iff_eq] at h
 obtain ⟨⟨⟨⟨⟨a,b⟩,c⟩,d⟩,e⟩,f⟩:=h
 exact ⟨by unfold ig;simp only [Bool.and_eq_true,beq_iff_eq];exact a,b,c,d,e,f⟩
theorem oD (g:iE K C=true):findObj K C od "__class__" = some (.bind (.builtin "getset_descriptor.__get__") (.builtin "object.__class__")):=by
 obtain ⟨_,hc,ha,hg,ht,_⟩:=jw g
 obtain ⟨cd,hc⟩:=Option.isSome_iff_exists.mp hc
 unfold findObj
 rw [hc,Option.bind_some,ha,Option.bind_some]
 dsimp only
 rw [hg,Option.bind_some]
 dsimp only
 rw [ht,Option.bind_some]
theorem sI {Q:Option Value→Shared→Prop} (X:K.In s.heap) (I:InstAt s.heap x ox C od) (g:iE K C=true) (h:Q (some (.ref C)) { s with toks:=s.toks+1 }):wpAny (model prog w) A (getAttr? (.ref x) "__class__") Q E s:=by
 obtain ⟨g0,_,_,_,_,gm⟩:=jw g
 unfold getAttr? getAttrBy?
 refine wpAny_bind (wpAny_mkText (wpAny_bind (wpAny_attempt (oa (s:={ s with toks:=s.toks+1 }) X I g0 (oD g) (fun z=>nomatch z) ?_))))
 show wpAny _ _ (holding [_] (call _ _) >>= ret) _ _ _
 refine wpAny_bind (wpAny_holding (wpAny_call (class_get (s:={ s with toks:=s.toks+1 }) (ox:=ox) (od:=od) X I gm (wpAny_pure (handed_on rfl (wpAny_pure h))))))
theorem l6 (g:iE K C=true):KitX K (.ref x) (.ref C) (fun h=>aX fun ox od=>InstAt h x ox C od) where
 ty:=fun _ _ _ ⟨_,_,I⟩=>I.type
 it:=fun _ _ X _=>by
  obtain ⟨cd,hc⟩:=Option.isSome_iff_exists.mp (jw g).2.1
  unfold clsIn at hc
  split at hc
  ·rename_i ho
   intro A' Q' E' s' k q
   unfold isType loadHead
   exact wpAny_bind (wpAny_loadPart (k _ _ (X _ _ ho)) (wpAny_pure q))
  ·cases hc
 ne:=fun h tp dd its n sl X htp=>by
  obtain ⟨cd,hc⟩:=Option.isSome_iff_exists.mp (jw g).2.1
  refine Bool.eq_false_iff.mpr fun q=>?_
  obtain rfl:C=tp:=Value.ref.inj (beq_iff_eq.mp q)
  unfold clsIn at hc
  split at hc
  ·rename_i ho
   have z:=(X _ _ ho).symm.trans htp
   cases z
  ·cases hc
 ca:=fun X ⟨_,_,I⟩ k=>sI X I g k
end
end L2
namespace L2
open PySem PySem.Spec PyProof.Rows PySem.W PySem.Builtin.ObjectAttr
def lq:List Value→Bool
 | .ref _ :: r=>lq r
 | l=>l==[.type "ValueError",.type "Exception",.type "BaseException",.type "object"]
abbrev fT (K:Frag) (C:Addr) (name:Str):Bool:=(clsIn K C).any (fun cd=>lq cd.mro && cd.hasDict) && findIn K (.ref C) "__setattr__" == some (some (.builtin "object.__setattr__")) && takerIn K C name==some none && mroIn K C (.type "object")==some true
section
variable {prog:Program}{w:World}{A:Around}{E:Value→Shared→Prop}{s:Shared}{K:Frag}{x C:Addr}{ox:Obj}{name:Str}{v:Value}
end
abbrev rH:List Value:=[.type "ValueError",.type "Exception",.type "BaseException",.type "object"]
def rz (d:Data):Option ClassData:=match d with
 | .cls cd=>some cd
 | _=>none
theorem tD {d:Data}{cd:ClassData} (h:rz d=some cd):d=.cls cd:=by
 cases d with
 | cls c=>cases h;rfl
 | _=>cases h
theorem xN {α:Type}{ls:List α} (h:ls.length=6):xY fun a b c d e f=>ls=[a,b,c,d,e,f]:=by
 match ls,h with
 | [a,b,c,d,e,f],_=>exact ⟨a,b,c,d,e,f,rfl⟩
theorem xW {α:Type}{sl:Array α}{x:α} (h:sl.size=6) (k:sl[4]?=some x):rZ fun a b c d f=>sl=#[a,b,c,d,x,f]:=by
 obtain ⟨l⟩:=sl
 obtain ⟨a,b,c,d,e,f,rfl⟩:=xN (show l.length=6 from h)
 obtain rfl:e=x:=Option.some.inj k
 exact ⟨a,b,c,d,f,rfl⟩
def bt (K:Frag) (C:Addr) (ini:Option Value):Bool:=match K.lookup C with
 | none=>false
 | some o=>match rz o.data with
  | none=>false
  | some cd=>(o.cls==.type "type") && ((cd.mro.head?==some (.ref C)) && (!cd.hasDel && (tailIn K rH cd.mro.tail && (nsOkIn K cd.ns && (nsIn K cd.ns "__init__" == some ini && (o.slots.size==6 && o.slots[4]?==some (some (.builtin "ValueError.__new__"))))))))
theorem tZ {K:Frag}{h:Heap}{N:Addr}{mp:Str→Option Value}{n:Str}{v:Value} (X:K.In h) (G:h.Ns N mp) (e:nsIn K N n=some (some v)):mp n=some v:=by
 obtain ⟨ob,es,ep,ho,hd,_,f⟩:=G
 unfold nsIn at e
 split at e
 ·rename_i q
  have z:=X _ _ q
  rw [ho] at z
  cases z
  cases hd
  split at e
  ·rename_i he
   cases e
   rw [←f]
   unfold nsFind findBy
   rw [←Array.find?_toList,he];rfl
  ·split at e <;> cases e
 ·cases e
theorem rM {K:Frag}{h:Heap}{C:Addr}{ini:Option Value} (X:K.In h) (q:bt K C ini=true):∃nm qn N bs bm hd sn sb ab cl dd k0 k1 k2 k3 k5 mN,
 h.get? C=some (excClassObj nm qn C N bs bm hd sn sb ab cl dd k0 k1 k2 k3 k5 "ValueError.__new__")∧h.Ns N mN∧OwnTail h rH bm∧mN "__init__" = ini:=by
 unfold bt at q
 cases ho:K.lookup C with
 | none=>rw [ho] at q;cases q
 | some o=>
  rw [ho] at q
  dsimp only at q
  cases hc:rz o.data with
  | none=>rw [hc] at q;cases q
  | some cd=>
   rw [hc] at q
   dsimp only at q
   rw [Bool.and_eq_true,Bool.and_eq_true,Bool.and_eq_true,Bool.and_eq_true,Bool.and_eq_true,Bool.and_eq_true,Bool.and_eq_true,beq_iff_eq,beq_iff_eq,beq_iff_eq,beq_iff_eq,beq_iff_eq,Bool.not_eq_true'] at q
   obtain ⟨q1,q2,dl,tl,ok,hi,z1,z2⟩:=q
   obtain ⟨k0,k1,k2,k3,k5,e6⟩:=xW z1 z2
   have ed:=tD hc
   obtain ⟨oc,dd,od,sl⟩:=o
   dsimp only at q1 ed e6
   subst q1 ed e6
   obtain ⟨nm,bs,mro,ns,qn,hd,sn,sub,ab,col,del⟩:=cd
   dsimp only at q2 dl tl ok hi
   subst dl
   cases mro with
   | nil=>cases q2
   | cons m bm=>
    obtain rfl:m=.ref C:=Option.some.inj q2
    have nm1:h.Ns ns (h.nsMap ns):=.of_isNs (isNs_of_in X ok)
    refine ⟨nm,qn,ns,bs,bm,hd,sn,sub,ab,col,dd,k0,k1,k2,k3,k5,_,X _ _ ho,nm1,tail_of_in X tl,?_⟩
    cases ini with
    | none=>exact nsMap_none_of_in X ok hi
    | some v=>exact tZ X nm1 hi
section
variable {prog:Program}{w:World}{A:Around}{E:Value→Shared→Prop}{s:Shared}{K:Frag}{x C:Addr}{ox:Obj}{od:Option Obj}{a0:Value}
end
end L2
namespace L2
open PySem PySem.Spec PyProof.Rows
theorem aW.there {P:Program}{w:World}{H:Hp}{h:Heap}{a:Addr}{o:HO} (x:aW P w H h a o):∃u,h.get? a=some u:=by
 cases o with
 | lst xs=>obtain ⟨_,_,_,_,e⟩:=x;exact ⟨_,e⟩
 | tup xs=>obtain ⟨_,_,_,⟨_,e,_⟩,_⟩:=x;exact ⟨_,e⟩
 | dK kvs=>obtain ⟨_,_,_,_,o,_,_,e,_⟩:=x;exact ⟨_,e⟩
 | dT kvs=>obtain ⟨_,_,_,_,o,_,_,e,_⟩:=x;exact ⟨_,e⟩
 | set S n=>obtain ⟨o,_,_,_,e,_⟩:=x;exact ⟨_,e⟩
 | ins C dx fs=>obtain ⟨_,_,_,e,_⟩:=x;exact ⟨_,e⟩
 | own y=>obtain ⟨_,e⟩:=x;exact ⟨_,e⟩
 | xd fs=>obtain ⟨_,⟨_,_,_,e,_⟩,_⟩:=x;exact ⟨_,e⟩
 | rng lo hi=>obtain ⟨_,_,_,e⟩:=x;exact ⟨_,e⟩
 | frz ob u=>obtain ⟨e,_⟩:=x;exact ⟨_,e⟩
 | tbl ps=>exact ⟨_,show h.get? a=some _ from x⟩
 | met f y=>exact ⟨_,show h.get? a=some _ from x⟩
 | ext φ=>obtain ⟨_,e,_⟩:=x;exact e
theorem cg.none' {P:Program}{w:World}{H:Hp}{h:Heap}{a:Addr} (x:cg P w H h) (e:h.get? a=none):H a=none:=by
 cases q:H a with
 | none=>rfl
 | some u=>obtain ⟨o,z⟩:=(x a u q).there;rw [e] at z;cases z
section
variable {X:Cx}{pins:List (Addr×Obj)}{σ:St}{H:Hp}{s:Shared}{h':Heap}
theorem aa.laidN {a:Addr}{o:HO}{t':Nat} (I:aa X pins σ H s) (k:∀b u,s.heap.get? b=some u→h'.get? b=some u) (hn:s.heap.get? a=none) (new:aW X.prog X.w (aI H a o) h' a o) :
 aa X pins σ (aI H a o) { s with heap:=h',toks:=t' }:=by
 have hH:=I.hok.none' hn
 have ne:∀{b:Addr}{u:HO},H b=some u→b≠a:=fun q z=>by rw [z,hH] at q;cases q
 refine I.un ⟨fun b u q _ _ _=>k b u q,fun b u q _ _ _=>⟨u.slots,k b u q⟩,fun b u q n _=>?_,fun b u q _=>⟨u,k b u q⟩,fun b xs q=>?_,fun b u xs q=>?_,fun b ps q=>⟨#[],?_⟩⟩ fun b u e=>?_
 ·rw [ap (fun z=>by rw [z,hn] at q;cases q)];exact n
 ·rw [ap (ne q)];exact q
 ·rw [ap (ne q)];exact q
 ·rw [ap (ne q),q];simp
 ·by_cases hb:b=a
  ·subst hb;rw [aF] at e;cases e;exact new
  ·rw [ap hb] at e
   exact (I.hok b u e).stay (fun c v _ q=>k c v q) (fun c q=>by rw [ap (ne q)];exact q) fun c xs q=>by rw [ap (ne q)];exact q
end
def qP (x C:Addr) (dx:Option Addr) (h:Heap):Prop:=aX fun a0 sl=>h.get? x=some ⟨.ref C,dx,.fields #[a0,.none,.none,.none,.bool false,.none],sl⟩
def jT (x C:Addr) (dx:Option Addr):HO:=.ext (qP x C dx)
theorem sJ {P:Program}{w:World}{H:Hp}{h:Heap}{x C:Addr}{dx:Option Addr} (e:qP x C dx h):aW P w H h x (jT x C dx):=
 ⟨e,let ⟨_,_,q⟩:=e;⟨_,q⟩,fun h1 h2 ⟨a0,sl,q⟩ k=>⟨a0,sl,k _ q⟩⟩
theorem kU {P:Program}{w:World}{H:Hp}{h:Heap}{x C:Addr}{dx:Option Addr} (ok:cg P w H h) (e:H x=some (jT x C dx)):qP x C dx h:=(ok x _ e).1
section
variable {X:Cx}{C f:Addr}{x:Str}{p pos:Pos}{e:Expr}{es:List Expr}{t:TA}{k:Nat}{fd:FuncData}{ps:List Str}{sp:Sp}{E:XK}
def wg (C:Addr) (t:TA):TE:=fun σ H Q=>t σ H fun vs H1=>vs.length≤10000∧∀y H',Nw H1 y (jT y C none) H'→Q (.ref y) H'
theorem qR {pins:List (Addr×Obj)}{σ:St}{H:Hp}{s:Shared}{Q:VK}{us:List Value}{vs:List V} (q:bt X.K C none=true) (I:aa X pins σ H s) (r:aw vs us) (hl:vs.length≤10000)
 (h:∀y H',Nw H y (jT y C none) H'→Q (.ref y) H'):wpAny (model X.prog X.w) X.A (call (.ref C) us) (EP X pins σ Q) X.xe s:=by
 obtain ⟨nm,qn,N,bs,bm,hd,sn,sb,ab,cl,dd,k0,k1,k2,k3,k5,mN,eC,eN,T,eI⟩:=rM I.kIn q
 have FB:=PySem.F.excBase_ValueError
 obtain ⟨hp,gs,dr,tk,os⟩:=s
 refine wpAny_call_exc_subT FB T eC eN eI (fun h1 y m=>?_) (by rw [←r.length];exact dL hl)
 obtain ⟨a0,e1,_,_⟩:=m.there
 exact ⟨.ref y,_,I.laidN (t':=tk) m.keeps m.new (sJ ⟨_,_,e1⟩),rfl,h y _ (.mk' (I.hok.none' m.new))⟩
theorem tj (q:bt X.K C none=true) (kp:PySem.W.keepIn X.K (.ref C)=true) (hg:Gl X x) (hm:X.mg x=some (.ref C)) (ha:PA X (e :: es) t) (hdb:(x==("__debug__" : Str))=false:=by decide)
 (he:starEach (e :: es) X.env=(false,eval e X.env) :: starEach es X.env:=by rfl) (hpl:(backTo pos (starEach es X.env)).any (·.1)=false:=by rfl):PE X (.Call (.Name x p) (e :: es) [] pos) (wg C t):=by
 intro pins s σ H Q I h
 refine wpAny_Call_Name_kw (h8 I hg hm ?_ hdb)
 exact PySem.W.callWith_K (h₀:=X.base) I.ok.mod.kin kp (aA (ha pos pins s σ H _ I h) fun us s1 ⟨vs,H1,I1,r,hl,q1⟩=>⟨I1.kIn,qR q I1 r hl q1⟩) he hpl
theorem jV {H:Hp}{a:Addr}{o:HO} (h:H a=some o):aI H a o=H:=by
 funext b
 unfold aI
 split
 ·rename_i z;rw [z,h]
 ·rfl
abbrev ul (K:PySem.W.Frag) (B:Addr):Bool:=PySem.W.specialIn K (.ref B) "__getattribute__" == some (some (.builtin "type.__getattribute__")) && PySem.W.readsIn K B (.type "type") && (match PySem.W.findCls K (.ref B) (.type "type") "__init__" with | some (.val v)=>v==.builtin "ValueError.__init__" | _=>false)
abbrev eM (K:PySem.W.Frag) (C:Addr) (f:Str):Bool:=ig K C && (PySem.W.clsIn K C).any (·.hasDict) && PySem.W.findIn K (.ref C) f==some none
def wM (K:PySem.W.Frag) (ta:TE) (f:Str):TE:=fun σ H Q=>ta σ H fun y H1=>rZ fun a C dx fs v=>y=.ref a∧H1 a=some (jT a C (some dx))∧H1 dx=some (.xd fs)∧fs.lookup f=some v∧eM K C f=true∧Q v H1
theorem sQ {ta:TE}{f:Str} (he:PE X e ta) (hb:attributeBase e f X.env (eval e X.env)=eval e X.env):PE X (.Attribute e f pos) (wM X.K ta f):=by
 intro pins s σ H Q I h
 refine tN hb (aA (he pins s σ H _ I h) fun u s1 ⟨y,H1,I1,rx,a,C,dx,fs,v,ex,ea,ed,el,g,q⟩=>?_)
 subst ex
 obtain rfl:u=Value.ref a:=rx
 obtain ⟨a0,sl,e1⟩:=kU I1.hok ea
 obtain ⟨mA,n1,rl⟩:=(show aW X.prog X.w H1 s1.heap dx (.xd fs) from I1.hok dx _ ed)
 obtain ⟨od,e2,lk⟩:=lj n1
 have rv:=rl f
 rw [el] at rv
 cases em:mA f with
 | none=>rw [em] at rv;exact rv.elim
 | some uv=>
  rw [em] at rv
  unfold eM at g
  rw [Bool.and_eq_true,Bool.and_eq_true,beq_iff_eq] at g
  obtain ⟨⟨g1,g2⟩,g3⟩:=g
  obtain ⟨cd,hc,hd⟩:=PySem.W.any_some g2
  have J:PySem.W.InstAt s1.heap a ⟨.ref C,some dx,.fields #[a0,.none,.none,.none,.bool false,.none],sl⟩ C (some od):=⟨e1,rfl,rfl,e2⟩
  have fo:PySem.W.findObj X.K C (some od) f=some (.value uv):=by
   unfold PySem.W.findObj
   rw [hc,Option.bind_some,g3,Option.bind_some]
   simp only [Option.bind_some]
   unfold PySem.W.ownOf
   rw [hd,if_pos rfl]
   dsimp only
   rw [lk f,em]
   rfl
  exact vI I1.kIn J g1 fo (pP rv) ⟨v,H1,I1.tok _,rv,q⟩
theorem cC (hg:Gl X x) (hm:X.mg x=some (.ref C)) (hdb:(x==("__debug__" : Str))=false:=by decide):PE X (.Name x p) (tC (.ref C)):=fun pins s σ H Q I h=>h8 I hg hm ⟨.ref C,H,I,rfl,h⟩ hdb
def qW:V→Option Value
 | .ref a=>some (.ref a)
 | .ty T=>some (.type T)
 | _=>none
end
theorem i3:bootBuiltins "ValueError" = some (.type "ValueError"):=by nofun
def jt:Stmt→Nat→Stmt
 | .ClassDef _ _ _ body _ _ _ _ _ _ _,j=>body.getD j (.Pass ⟨0,0,0,0⟩)
 | _,_=>.Pass ⟨0,0,0,0⟩
def iA (K:PySem.W.Frag) (cs:List Addr) (g:Addr):Bool:=decide cs.Nodup && cs.all fun c=>iE K c && (PySem.W.kitOne K (.ref c) (.ref g)==some true && (PySem.W.kitOne K (.ref c) (.type "ValueError")==some true && cs.all fun d=>PySem.W.kitOne K (.ref c) (.ref d)==some (decide (c=d))))
theorem qA {K:PySem.W.Frag}{cs:List Addr}{g:Addr} (h:iA K cs g=true):cs.Nodup:=of_decide_eq_true (Bool.and_eq_true _ _▸h).1
theorem l7 {K:PySem.W.Frag}{cs:List Addr}{g c:Addr} (h:iA K cs g=true) (hc:c∈cs):iE K c=true∧PySem.W.kitOne K (.ref c) (.ref g)=some true∧PySem.W.kitOne K (.ref c) (.type "ValueError")=some true∧∀d∈cs,PySem.W.kitOne K (.ref c) (.ref d)=some (decide (c=d)):=by
 unfold iA at h
 rw [Bool.and_eq_true,List.all_eq_true] at h
 have z:=h.2 c hc
 obtain ⟨z1,z⟩:=Bool.and_eq_true_iff.mp z
 obtain ⟨z2,z⟩:=Bool.and_eq_true_iff.mp z
 obtain ⟨z3,z⟩:=Bool.and_eq_true_iff.mp z
 exact ⟨z1,beq_iff_eq.mp z2,beq_iff_eq.mp z3,fun d hd=>beq_iff_eq.mp (List.all_eq_true.mp z d hd)⟩
section
variable {X:Cx}
end
def i8 (h:Heap) (a T:Addr) (C:Value) (dx:Option Addr) (fl:Value):Prop:=
 mD fun vs sl oT ts=>h.get? a=some ⟨C,dx,.fields vs,sl⟩∧vs[1]?=some (.ref T)∧T≠a∧h.get? T=some oT∧oT.data=.fields ts∧ts[3]?=some fl
def Kp (h h':Heap) (bad fs:List Addr):Prop:=∀b o,b∉bad→h.get? b=some o→(∃sl,h'.get? b=some { o with slots:=sl })∧(b∉fs→h'.get? b=some o)
def ud (head:Value) (L:Addr) (pl:List Value):Obj:={ cls:=.type "traceback",dict:=none,data:=.fields ([head,.ref L,.none,rawInt L,.none]++(if pl.isEmpty then List.replicate 6 Value.none else pl)).toArray }
section
variable {M:Model}{A:Around}{E:Value→Shared→Prop}{s:Shared}{base:Heap}{env:Env}{outer:List Env}{L a T:Addr}{C head:Value}{dx:Option Addr}{vs:Array Value}{sl:Array (Option Value)}{hn:Bool}{Q:Unit→Shared→Prop}
theorem lp (hfr:A.frames=some (env :: outer)) (hl:s.heap.FunFrames base (env :: outer)) (hf:env.frame=some L) (he:s.heap.get? a=some ⟨C,dx,.fields vs,sl⟩) (hz:1<vs.size)
 (h:∀h' T,i8 h' a T C dx (rawInt L)→T=s.heap.objs.size→Kp s.heap h' [a] (dN (env :: outer))→Q () { s with heap:=h' }) :
 wpAny M A (do let f ←frameOf env;let pl ←entryPlaceOf L hn;let b ←EntryCells.newEntry head f .none (rawInt L) .none pl;setField (.ref a) 1 b) Q E s:=by
 have na:a∉dN (env :: outer):=fun z=>by
  obtain ⟨_,o,ho,q⟩:=hl.mem z
  rw [he] at ho
  cases ho
  exact q vs rfl
 refine wpAny_bind (wpAny_frameOf_fun hfr hl hf fun h1 s1=>wpAny_bind (wpAny_entryPlaceOf fun pl hp=>?_))
 have e1:h1.get? a=some ⟨C,dx,.fields vs,sl⟩:=(s1.2.1 a na).trans he
 unfold EntryCells.newEntry newFields
 refine wpAny_bind (wpAny_newObj_type ?_ (hp.sizeOk5 _ _ _ _ _))
 show wpAny M A (setField (.ref a) 1 (.ref h1.objs.size)) Q E { s with heap:=h1.push (ud head L pl) }
 have e2:=Heap.get?_push_of_some (h:=h1) (ud head L pl) e1
 have nT:h1.objs.size≠a:=Nat.ne_of_gt (Heap.lt_size e1)
 refine wpAny_setField e2 rfl hz (h _ h1.objs.size ⟨vs.setIfInBounds 1 (.ref h1.objs.size),sl,ud head L pl,_,?_,?_,nT,?_,rfl,?_⟩ s1.1 fun b o nb hb=>?_)
 ·exact Heap.get?_update_self _ e2 rfl
 ·simp [hz]
 ·rw [Heap.get?_update_other _ _ (Ne.symm nT)]
  exact Heap.get?_push_size h1 rfl
 ·rw [List.getElem?_toArray,List.getElem?_append_left (by show 3<5;decide)]
  rfl
 ·have nb':a≠b:=fun z=>nb (by simp [z])
  obtain ⟨sl',q⟩:=s1.2.2 b o hb
  refine ⟨⟨sl',?_⟩,fun nf=>?_⟩
  ·rw [Heap.get?_update_other _ _ nb']
   exact Heap.get?_push_of_some _ q
  ·rw [Heap.get?_update_other _ _ nb']
   exact Heap.get?_push_of_some _ ((s1.2.1 b nf).trans hb)
theorem oW (hfr:A.frames=some (env :: outer)) (hl:s.heap.FunFrames base (env :: outer)) (hf:env.frame=some L) (he:s.heap.get? a=some ⟨C,dx,.fields vs,sl⟩) (h1:vs[1]?=some .none)
 (h:∀h' T,i8 h' a T C dx (rawInt L)→T=s.heap.objs.size→Kp s.heap h' [a] (dN (env :: outer))→Q () { s with heap:=h' }):wpAny M A (noteFrame (.ref a) env) Q E s:=by
 unfold noteFrame
 simp only [hf]
 refine wpAny_bind (wpAny_field he rfl h1 ?_)
 rw [if_neg (by decide)]
 exact lp hfr hl hf he (Array.getElem?_eq_some_iff.mp h1).1 h
theorem qe (hfr:A.frames=some (env :: outer)) (hl:s.heap.FunFrames base (env :: outer)) (hf:env.frame=some L) (ht:i8 s.heap a T C dx .none)
 (h:∀h' T',i8 h' a T' C dx (rawInt L)→T'=s.heap.objs.size→Kp s.heap h' [a,T] (dN (env :: outer))→Q () { s with heap:=h' }):wpAny M A (noteFrame (.ref a) env) Q E s:=by
 obtain ⟨vs,sl,oT,ts,he,h1,ne,hT,hd,h3⟩:=ht
 unfold noteFrame
 simp only [hf]
 refine wpAny_bind (wpAny_field he rfl h1 ?_)
 rw [if_pos (show (Value.ref T != Value.none)=true by simp)]
 refine wpAny_bind (wpAny_field hT hd h3 ?_)
 rw [if_neg (show ¬((Value.none==rawInt L)=true) by simp [rawInt])]
 refine wpAny_bind (wpAny_setField hT hd (Array.getElem?_eq_some_iff.mp h3).1 ?_)
 have ot:∀b,b≠T→(s.heap.update T (Obj.mapFields (·.setIfInBounds 3 Value.none))).get? b=s.heap.get? b:=fun b nb=>Heap.get?_update_other _ _ (Ne.symm nb)
 have nr:∀b o,s.heap.get? b=some o→(∀vs,o.data≠.fields vs)→b≠T:=fun b o hb q z=>by
  rw [z,hT] at hb
  cases hb
  exact q ts hd
 refine lp hfr (hl.of_keeps fun b o hb q=>⟨o,(ot b (nr b o hb q)).trans hb,rfl⟩) hf ((ot a (Ne.symm ne)).trans he) (Array.getElem?_eq_some_iff.mp h1).1 fun h' T' t z k=>h h' T' t (z.trans (Heap.size_after_update ..)) fun b o nb hb=>?_
 have n1:b∉[a]:=fun z=>nb (by simp [List.mem_singleton.mp z])
 have n2:b≠T:=fun z=>nb (by simp [z])
 exact k b o n1 ((ot b n2).trans hb)
theorem kO {fl:Value} (ht:i8 s.heap a T C dx fl) (h:∀h',i8 h' a T C dx .none→Kp s.heap h' [T] []→Q () { s with heap:=h' }):wpAny M A (setFlight (.ref a) none) Q E s:=by
 obtain ⟨vs,sl,oT,ts,he,h1,ne,hT,hd,h3⟩:=ht
 unfold setFlight
 refine wpAny_bind (wpAny_field he rfl h1 ?_)
 rw [if_pos (show (Value.ref T != Value.none)=true by simp)]
 have z3:=(Array.getElem?_eq_some_iff.mp h3).1
 have dT:=Obj.data_mapFields hd (·.setIfInBounds 3 Value.none)
 refine wpAny_setField hT hd z3 (h _ ⟨vs,sl,_,_,?_,h1,ne,Heap.get?_update_self _ hT (Obj.isFreed_of_fields dT),dT,by simp [z3]⟩ fun b o nb hb=>?_)
 ·exact (Heap.get?_update_other _ _ ne).trans he
 ·have nb':T≠b:=fun z=>nb (by simp [z])
  have q:=(Heap.get?_update_other s.heap (Obj.mapFields (·.setIfInBounds 3 ((none:Option Addr).elim Value.none fun f=>rawInt f))) nb').trans hb
  exact ⟨⟨o.slots,q⟩,fun _=>q⟩
theorem Kp.trans0 {h h1 h2:Heap}{bad fs:List Addr}{T:Addr} (k:Kp h h1 bad fs) (k2:Kp h1 h2 [T] []) (n:h.objs.size≤T):Kp h h2 bad fs:=fun b o nb hb=>by
 have nT:b∉[T]:=fun z=>by
  have q:=Heap.lt_size hb
  rw [List.mem_singleton.mp z] at q
  exact absurd q (Nat.not_lt.mpr n)
 obtain ⟨⟨sl,q1⟩,q2⟩:=k b o nb hb
 exact ⟨⟨sl,(k2 b _ nT q1).2 (by simp)⟩,fun nf=>(k2 b _ nT (q2 nf)).2 (by simp)⟩
theorem ng (hfr:A.frames=some (env :: outer)) (hl:s.heap.FunFrames base (env :: outer)) (hf:env.frame=some L) (he:s.heap.get? a=some ⟨C,dx,.fields vs,sl⟩) (h1:vs[1]?=some .none)
 (h:∀h' T,i8 h' a T C dx .none→T=s.heap.objs.size→Kp s.heap h' [a] (dN (env :: outer))→Q () { s with heap:=h' }):wpAny M A (leaving env (.ref a)) Q E s:=by
 unfold leaving
 exact wpAny_bind (oW hfr hl hf he h1 fun h' T t z k=>kO t fun h2 t2 k2=>h h2 T t2 z (k.trans0 k2 (Nat.le_of_eq z.symm)))
end
def gT (x C:Addr) (dx:Option Addr):HO:=.ext fun h=>aX fun vs sl=>h.get? x=some ⟨.ref C,dx,.fields vs,sl⟩
theorem sN {P:Program}{w:World}{H:Hp}{h:Heap}{x C:Addr}{dx:Option Addr} (e:aX fun vs sl=>h.get? x=some ⟨.ref C,dx,.fields vs,sl⟩):aW P w H h x (gT x C dx):=
 ⟨e,let ⟨_,_,q⟩:=e;⟨_,q⟩,fun h1 h2 ⟨vs,sl,q⟩ k=>⟨vs,sl,k _ q⟩⟩
theorem mj {P:Program}{w:World}{H:Hp}{h:Heap}{x C:Addr}{dx:Option Addr} (ok:cg P w H h) (e:H x=some (gT x C dx)):aX fun vs sl=>h.get? x=some ⟨.ref C,dx,.fields vs,sl⟩:=(ok x _ e).1
theorem tH {fs ch:List Addr}{H:Hp}{h h':Heap}{a:Addr}{φ:Heap→Prop}{o:HO} (ea:H a=some (.ext φ)) (k:Kp h h' (a :: ch) fs) (th:∃u,h'.get? a=some u):Un fs ch H (aI H a o) h h':=by
 have ne:∀{b:Addr},H b=none→b≠a:=fun q z=>by rw [z,ea] at q;cases q
 have nc:∀{b:Addr},b≠a→b∉ch→b∉a :: ch:=fun n1 n2 z=>(List.mem_cons.mp z).elim n1 n2
 refine ⟨fun b u q n f x=>(k b u (nc (ne n) x) q).2 f,fun b u q n _ x=>(k b u (nc (ne n) x) q).1,fun b u q n _=>by rw [ap (ne n)];exact n,fun b u q x=>?_,fun b xs q=>?_,fun b u xs q=>?_,fun b ps q=>⟨#[],?_⟩⟩
 ·by_cases e:b=a
  ·rw [e];exact th
  ·obtain ⟨⟨sl,z⟩,_⟩:=k b u (nc e x) q
   exact ⟨_,z⟩
 ·rw [ap (fun z=>by rw [z,ea] at q;cases q)];exact q
 ·rw [ap (fun z=>by rw [z,ea] at q;cases q)];exact q
 ·rw [ap (fun z=>by rw [z,ea] at q;cases q),q];simp
theorem rj {P:Program}{w:World}{fs ch:List Addr}{H:Hp}{h h':Heap}{a:Addr}{φ:Heap→Prop}{o:HO} (ok:cg P w H h) (ea:H a=some (.ext φ)) (k:Kp h h' (a :: ch) fs) (ff:∀b∈fs,H b=none) (fc:∀b∈ch,H b=none)
 (nw:aW P w (aI H a o) h' a o):cg P w (aI H a o) h':=fun b u e=>by
 by_cases hb:b=a
 ·subst hb
  rw [aF] at e
  cases e
  exact nw
 ·rw [ap hb] at e
  refine (ok b u e).stay (fun c v cd q=>?_) (fun c q=>?_) fun c xs q=>?_
  ·have hc:H c≠none∧c≠a:=by
    rcases cd with rfl | cd
    ·exact ⟨by rw [e];simp,hb⟩
    ·exact ⟨by rw [cd];simp,fun z=>by rw [z,ea] at cd;cases cd⟩
   exact (k c v (fun z=>(List.mem_cons.mp z).elim hc.2 fun z=>hc.1 (fc c z)) q).2 fun z=>hc.1 (ff c z)
  ·rw [ap (fun z=>by rw [z,ea] at q;cases q)];exact q
  ·rw [ap (fun z=>by rw [z,ea] at q;cases q)];exact q
section
variable {X:Cx}{pins:List (Addr×Obj)}{σ:St}{H:Hp}{s:Shared}{h':Heap}{a T C:Addr}{dx:Option Addr}{φ:Heap→Prop}{ch:List Addr}{fl:Value}
theorem i8.there (t:i8 h' a T (.ref C) dx fl):aX fun vs sl=>h'.get? a=some ⟨.ref C,dx,.fields vs,sl⟩:=let ⟨vs,sl,_,_,e,_⟩:=t;⟨vs,sl,e⟩
theorem aa.noted (I:aa X pins σ H s) (ea:H a=some (.ext φ)) (k:Kp s.heap h' (a :: ch) (dN X.stack)) (t:aX fun vs sl=>h'.get? a=some ⟨.ref C,dx,.fields vs,sl⟩) (fc:∀b∈ch,H b=none)
 (hch:∀b∈ch,(b∈X.ex∨X.s₀.heap.objs.size≤b)∧b≠X.env.locals∧(∀x c,X.env.cells.lookup x=some c→c≠b)∧∀p∈X.pn++pins,p.1≠b):aa X pins σ (aI H a (gT a C dx)) { s with heap:=h' }:=
 I.call' (ch:=ch) rfl (tH ea k (let ⟨_,_,e⟩:=t;⟨_,e⟩)) (rj I.hok ea k I.stkFree fc (sN t)) I.bare hch
theorem aa.far (I:aa X pins σ H s) (n:s.heap.objs.size≤T):(T∈X.ex∨X.s₀.heap.objs.size≤T)∧T≠X.env.locals∧(∀x c,X.env.cells.lookup x=some c→c≠T)∧∀p∈X.pn++pins,p.1≠T:=by
 have lt:∀{b:Addr}{u:Obj},s.heap.get? b=some u→b≠T:=fun q z=>by
  have q':=Heap.lt_size q
  rw [z] at q'
  exact absurd q' (Nat.not_lt.mpr n)
 refine ⟨.inr (Nat.le_trans I.sz n),?_,fun x c e=>?_,fun p hp=>lt (I.pin p hp).1⟩
 ·obtain ⟨m,⟨o,es,ep,ho,_⟩,_⟩:=I.loc
  exact Ne.symm (lt ho)
 ·obtain ⟨v,q⟩:=I.cell x c e
  obtain ⟨o,ho,_⟩:=q
  exact lt ho
end
def mz (P:Program) (w:World):fO:=fun outer H s E e s'=>rZ fun a T C dx H'=>e=.ref a∧s'.os=s.os∧AllBare s'.gens∧Un (dN outer) [] H H' s.heap s'.heap∧cg P w H' s'.heap∧i8 s'.heap a T (.ref C) dx .none∧s.heap.objs.size≤T∧H' T=none∧H' a=some (gT a C dx)∧E (.ref C) dx H'
def pV (X:Cx) (E:XK):Prop:=∀pins σ H s a C dx,aa X pins σ H s→H a=some (jT a C dx)→E (.ref C) dx (aI H a (gT a C dx))→X.xe (.ref a) s
section
variable {P:Program}{w:World}{K:PySem.W.Frag}{mg:Str→Option Value}{base:Heap}{N:List Str}{qual:Str}{scope:Scope}{f:Addr}{cd:Value}{A:Around}{outer:List Env}{s:Shared}{H:Hp}{E:XK}
theorem tm:pV (iX (mz P w) P w K mg base N qual scope f cd A outer s H E) E:=by
 intro pins σ H1 s1 a C dx J ha hE
 obtain ⟨a0,sl,ea⟩:=kU J.hok ha
 refine ng (L:=s.heap.objs.size) J.ok.frames J.stack rfl ea rfl fun h' T' t' z k=>?_
 have J2:=J.noted ha (ch:=[]) k t'.there (fun b hb=>by cases hb) (fun b hb=>by cases hb)
 have nT:H1 T'=none:=J.hok.fresh (by rw [z];exact Nat.le_refl _)
 exact ⟨a,T',C,dx,(),J2.os,J2.bare,J2.base,J2.hok,t',by rw [z];exact J.sz,by rw [ap (fun q=>by rw [q,ha] at nT;cases nT)];exact nT,aF,hE⟩
end
section
variable {M:Model}{A:Around}{E:Value→Shared→Prop}{s:Shared}{env:Env}
theorem p8 {x:Sem Value}{Q:Flow→Shared→Prop} (hh:A.handled=none)
 (h:wpAny M A x (fun v s1=>∃e a0 dx sl nm q C N bs bm hd sn sb ab cl dd k0 k1 k2 k3 k5 nw,v=.ref e∧bm.contains (.type "BaseException")=true∧s1.heap.get? C=some (excClassObj nm q C N bs bm hd sn sb ab cl dd k0 k1 k2 k3 k5 nw)∧
  s1.heap.get? e=some ⟨.ref C,dx,.fields #[a0,.none,.none,.none,.bool false,.none],sl⟩∧E (.ref e) s1) E s):wpAny M A (raiseStmt env (some x) none) Q E s:=by
 unfold raiseStmt
 refine wpAny_bind (wpAny_mono h (fun v s1 h1=>?_) fun _ _ x=>x)
 obtain ⟨e,a0,dx,sl,nm,q,C,N,bs,bm,hd,sn,sb,ab,cl,dd,k0,k1,k2,k3,k5,nw,rfl,hb,hC,he,hE⟩:=h1
 have hcB:(Value.ref C :: bm).contains (.type "BaseException")=true:=by rw [List.contains_cons,hb,Bool.or_true]
 obtain ⟨hp,g,d,tk,os⟩:=s1
 repeat
  first
   | (with_reducible refine wpAny_isSubtype_exc hC ?_
      rw [hcB])
   | (with_reducible refine wpAny_loadPart_at hC ?_)
   | (with_reducible refine wpAny_loadPart_at he ?_)
   | wp_step
 exact wpAny_raiseNew_none hh hE
end
section
variable {X:Cx}{e:Expr}{te:TE}{pos:Pos}{E:XK}
def um (K:PySem.W.Frag) (E:XK) (te:TE):TS:=fun D σ H=>te σ H fun v H'=>mD fun a C dx ini=>v=.ref a∧H' a=some (jT a C dx)∧bt K C ini=true∧E (.ref C) dx (aI H' a (gT a C dx))
theorem qT (hc:X.calm=true) (hx:pV X E) (he:PE X e te):PS X (.Raise (some e) none pos) (um X.K E te):=by
 intro pins s σ H D I h
 rw [arm_exec_Raise]
 refine wpAny_bind (wpAny_standAt ?_)
 show wpAny _ _ (raiseStmt X.env (some (do let v ←eval e X.env;standAt pos;pure v)) none) _ _ _
 refine p8 (I.ok.hd hc) (wpAny_bind (aA (he pins s σ H _ I h) fun u s1 ⟨v,H1,I1,r,a,C,dx,ini,ev,ha,q,hE⟩=>wpAny_bind (wpAny_standAt (wpAny_pure ?_))))
 subst ev
 obtain rfl:u=Value.ref a:=r
 obtain ⟨nm,qn,N,bs,bm,hd,sn,sb,ab,cl,dd,k0,k1,k2,k3,k5,mN,eC,eN,T,_⟩:=rM I1.kIn q
 obtain ⟨a0,sl,ea⟩:=kU I1.hok ha
 exact ⟨a,a0,dx,sl,nm,qn,C,N,bs,bm,hd,sn,sb,ab,cl,dd,k0,k1,k2,k3,k5,(),T.hasType (by decide),eC,ea,hx pins σ H1 s1 a C dx I1 ha hE⟩
theorem PS.nox {st:Stmt}{t:TS} (h:PS X.nox st t):PS X st t:=fun pins s σ H D I hw=>wpAny_mono (h pins s σ H D (I.wish _) hw) (fun _ _ q=>q.unwish) fun _ _ z=>False.elim z
theorem gw.okX {P:Program}{w:World}{K:PySem.W.Frag}{mg:Str→Option Value}{base:Heap}{x qual:Str}{st:Stmt}{f:Addr}{fd:FuncData}{N ps:List Str}{k:Nat}{sp:Sp} (F:gw K x qual st f fd) (S:aQ N ps (ax st)) (len:∀vs H Q E,sp vs H Q E→vs.length=ps.length)
 (hbody:∀(cdv:Value) (A:Around) (outer:List Env) (s:Shared) (H:Hp) (vs:List V) (Q:VK) (E:XK),cM k (A.deeper (envOfC qual (ax st) s.heap.objs.size f cdv))→sp vs H Q E→
  ∃t,fZ (iX (mz P w) P w K mg base N qual (ax st) f cdv A outer s H E) (hV st) t∧t { nx:=fun _ H'=>Q .non H',rt:=Q } (fI N vs) H):bv P w K mg base (mz P w) (k+1) f fd ps sp:=by
 obtain ⟨oc,od,kV,doc,pm,an,cdv,ct,osl,rfl,lk,hcd⟩:=F.ex
 exact rP lk hcd S len fun A outer s H vs Q E hr hsp=>hbody cdv A outer s H vs Q E hr hsp
end
section
variable {X:Cx}{pins:List (Addr×Obj)}{σ σ':St}{H:Hp}{s:Shared}{h':Heap}
theorem aa.locs {m':Str→Option Value}{t':Nat} (I:aa X pins σ H s) (hs:Heap.SameBut X.env.locals s.heap h') (hn:h'.Ns X.env.locals m') (hl:∀(i:Nat) (x:Str) (v:V),X.N[i]?=some x→σ'[i]?=some (some v)→pJ X.env.scope x→∃u,aM v u∧uw X.env h' m' x u) (ln:σ'.length=X.N.length) :
 aa X pins σ' H { s with heap:=h',toks:=t' }:=by
 have ne:∀{b:Addr}{o:Obj},X.s₀.heap.get? b=some o→b≠X.env.locals:=fun e=>Nat.ne_of_lt (Nat.lt_of_lt_of_le (Heap.lt_size e) I.ok.above)
 refine ⟨I.ok,I.os,I.bare,⟨fun b o e n hb hx=>(hs.2 b (ne e)).trans (I.base.keep b o e n hb hx),fun b o e n hb hx=>?_,I.base.free,fun b o e hx=>?_,I.base.tups,I.base.frzs,I.base.tbls⟩,⟨m',hn,hl⟩,fun y c e=>?_,I.free,I.freeC,fun p hp=>?_,fun b ob e=>?_,ln⟩
 ·obtain ⟨sl,q⟩:=I.base.slot b o e n hb hx
  exact ⟨sl,(hs.2 b (ne e)).trans q⟩
 ·obtain ⟨o',q⟩:=I.base.there b o e hx
  exact ⟨o',(hs.2 b (ne e)).trans q⟩
 ·obtain ⟨w',z⟩:=I.cell y c e
  exact ⟨w',z.sameBut hs (I.cne y c e)⟩
 ·obtain ⟨e,n,ne,nf,d⟩:=I.pin p hp
  exact ⟨(hs.2 p.1 ne).trans e,n,ne,nf,d⟩
 ·refine (I.hok b ob e).stay (fun c w' hc q=>(hs.2 c fun z=>?_).trans q) (fun _ q=>q) fun _ _ q=>q
  subst z
  have hf:=I.free
  rcases hc with rfl | hc
  ·rw [hf] at e;cases e
  ·rw [hf] at hc;cases hc
theorem ju {M:Model}{A:Around}{E:Value→Shared→Prop}{i:Nat}{x:Str}{pos:Pos}{Q:Unit→Shared→Prop} (I:aa X pins σ H s) (hN:X.N.Nodup) (hi:X.N[i]?=some x) (hk:X.env.scope.names.lookup x=some .local)
 (h:∀s',aa X pins (σ.set i none) H s'→Q () s'):wpAny M A (do bindName X.env x .none;unbindBehindTheSuite X.env x pos) Q E s:=by
 have iσ:i<σ.length:=by rw [I.len];exact (List.getElem?_eq_some_iff.mp hi).1
 refine wpAny_bind (wpAny_bindName (fq (v:=.non) (u:=.none) I hN hi (.inl hk) rfl (fun s1 I1=>?_) (.inr hk)))
 obtain ⟨m,hn,hl⟩:=id I1.loc
 have kl:X.env.kindOf x=some .local:=hk
 have hc:(X.env.scope.kind==.class || (X.env.scope.kind==.module && X.env.locals != X.env.globals))=false:=by rw [I.ok.kind];rfl
 have mx:∃u,m x=some u:=by
  obtain ⟨u,_,q⟩:=hl i x .non hi (by rw [List.getElem?_set_self iσ]) (.inl hk)
  rcases q with ⟨_,e⟩ | ⟨k,_⟩
  ·exact ⟨u,e⟩
  ·rw [kl] at k
   rcases k with k | k <;> cases k
 unfold unbindBehindTheSuite
 refine wpAny_onRaise ?_
 unfold unbindName
 refine wpAny_bind (wpAny_point (wpAny_bind ?_))
 unfold deleteName
 simp only [kl,hc]
 rw [if_neg (by decide)]
 obtain ⟨u,mx⟩:=mx
 refine wpAny_bind (wpAny_nsDel_keeps hn fun h2 v2 n2 s2=>?_)
 simp only [mx,if_true,Option.isSome_some,Bool.not_true,Bool.false_eq_true,if_false]
 refine wpAny_pure (wpAny_point (h _ (I1.locs s2 n2 (fun j y v e1 e2 e3=>?_) (by simpa using I.len))))
 have hj:j≠i:=fun z=>by
  rw [z,List.getElem?_set_self iσ] at e2
  cases e2
 rw [List.getElem?_set_ne (Ne.symm hj)] at e2
 obtain ⟨u',r',q⟩:=hl j y v e1 (by rw [List.getElem?_set_ne (Ne.symm hj)];exact e2) e3
 refine ⟨u',r',?_⟩
 rcases q with ⟨k,e⟩ | ⟨k,c,e,z⟩
 ·refine .inl ⟨k,?_⟩
  have ny:y≠x:=fun e=>hj (jX hN e1 (e▸hi))
  simp [ny,e]
 ·exact .inr ⟨k,c,e,z.sameBut s2 (I1.cne y c e)⟩
end
def jx (CX:fO) (X:Cx) (EE:St→XK):Prop:=∀(pins:List (Addr×Obj)) (σ:St) (H:Hp) (s:Shared) (e:Value) (s':Shared),aa X pins σ H s→CX X.stack H s (EE σ) e s'→X.xe e s'
section
variable {X:Cx}{CX:fO}{k:Nat}{f:Addr}{fd:FuncData}{ps:List Str}{sp:Sp}{EE:St→XK}{x:Str}{p pos:Pos}{e:Expr}{es:List Expr}{t:TA}
def uM (sp:Sp) (EE:St→XK) (t:TA):TE:=fun σ H Q=>t σ H fun vs H1=>sp vs H1 Q (EE σ)
theorem qV (F:bv X.prog X.w X.K X.mg X.base CX k f fd ps sp) (hr:cM k X.A) (hg:Gl X x) (hm:X.mg x=some (.ref f)) (hk:PySem.W.keepIn X.K (.ref f)=true) (hb:dI X.K fd ps []) (hx:jx CX X EE)
 (ha:PA X (e :: es) t) (hdb:(x==("__debug__" : Str))=false:=by decide) (he:starEach (e :: es) X.env=(false,eval e X.env) :: starEach es X.env:=by rfl) (hpl:(backTo pos (starEach es X.env)).any (·.1)=false:=by rfl) :
 PE X (.Call (.Name x p) (e :: es) [] pos) (uM sp EE t):=by
 intro pins s σ H Q I h
 refine wpAny_Call_Name_kw (h8 I hg hm ?_ hdb)
 refine PySem.W.callWith_K (h₀:=X.base) I.ok.mod.kin hk (aA (ha pos pins s σ H _ I h) fun us s1 ⟨vs,H1,I1,r,q⟩=>⟨I1.kIn,?_⟩) he hpl
 have hl:us.length=ps.length:=by rw [←r.length];exact F.len _ _ _ _ q
 have hbb:=hb s1 us I1.kIn (by rw [List.append_nil];exact hl)
 rw [List.append_nil] at hbb
 refine wpAny_call (codeAny_mono (F.run X.A X.stack s1 H1 ⟨us,[]⟩ us vs Q (EE σ) hr I1.env0 hbb r q) fun rs s' hq=>?_)
 cases rs with
 | error z=>exact hx pins σ H1 s1 z s' I1 hq
 | ok fl=>
  cases fl with
  | ret u=>exact I1.after hq
  | next=>exact False.elim hq
  | brk=>exact False.elim hq
  | cont=>exact False.elim hq
end
abbrev Cx.tr (X:Cx) (pn:List (Addr×Obj)) (xe:Value→Shared→Prop):Cx:={ X with pn:=pn,xe:=xe }
abbrev Cx.hn (X:Cx) (A:Around):Cx:={ X with A:=A,calm:=false,xe:=fun _ _=>False }
section
variable {X:Cx}{pins pins' pn:List (Addr×Obj)}{σ:St}{H:Hp}{s:Shared}{xe:Value→Shared→Prop}
theorem Cx.Ok.tr (ok:X.Ok):(X.tr pn xe).Ok:=⟨ok.mod,ok.kind,ok.glob,ok.blt,ok.above,ok.inj,ok.has,ok.cab,ok.hd,ok.frames,ok.stk,ok.exf,ok.bs,ok.bsz,ok.noex,ok.exfs,ok.funs,ok.frf⟩
theorem Cx.Ok.untr (ok:(X.tr pn xe).Ok):X.Ok:=⟨ok.mod,ok.kind,ok.glob,ok.blt,ok.above,ok.inj,ok.has,ok.cab,ok.hd,ok.frames,ok.stk,ok.exf,ok.bs,ok.bsz,ok.noex,ok.exfs,ok.funs,ok.frf⟩
theorem aa.tr (I:aa X pins σ H s):aa (X.tr (X.pn++pins) xe) [] σ H s:=⟨I.ok.tr,I.os,I.bare,I.base,I.loc,I.cell,I.free,I.freeC,fun p hp=>I.pin p (by rw [List.append_nil] at hp;exact hp),I.hok,I.len⟩
theorem aa.untr (I:aa (X.tr (X.pn++pins) xe) pins' σ H s):aa X pins σ H s:=⟨I.ok.untr,I.os,I.bare,I.base,I.loc,I.cell,I.free,I.freeC,fun p hp=>I.pin p (List.mem_append_left _ hp),I.hok,I.len⟩
theorem Cx.Ok.hn {A:Around} (ok:X.Ok) (hA:A.frames=X.A.frames):(X.hn A).Ok:=⟨ok.mod,ok.kind,ok.glob,ok.blt,ok.above,ok.inj,ok.has,ok.cab,(fun z=>by cases z),hA.trans ok.frames,ok.stk,ok.exf,ok.bs,ok.bsz,ok.noex,ok.exfs,ok.funs,ok.frf⟩
theorem aa.hn {A:Around} (I:aa X pins σ H s) (hA:A.frames=X.A.frames):aa (X.hn A) pins σ H s:=⟨I.ok.hn hA,I.os,I.bare,I.base,I.loc,I.cell,I.free,I.freeC,I.pin,I.hok,I.len⟩
theorem aa.unhn {A:Around} (I:aa (X.hn A) pins σ H s) (ok:X.Ok):aa X pins σ H s:=⟨ok,I.os,I.bare,I.base,I.loc,I.cell,I.free,I.freeC,I.pin,I.hok,I.len⟩
end
theorem Kp.weak {h h':Heap}{bad bad' fs fs':List Addr} (k:Kp h h' bad fs) (hb:∀b∈bad,b∈bad') (hf:∀b∈fs,b∈fs'):Kp h h' bad' fs':=fun b o nb q=>
 ⟨(k b o (fun z=>nb (hb b z)) q).1,fun nf=>(k b o (fun z=>nb (hb b z)) q).2 fun z=>nf (hf b z)⟩
def oy (X:Cx) (EE:St→XK) (e:Value) (s:Shared):Prop:=∃pins σ H a T C dx,e=.ref a∧aa X pins σ H s∧i8 s.heap a T (.ref C) dx .none∧H T=none∧((T∈X.ex∨X.s₀.heap.objs.size≤T)∧T≠X.env.locals∧(∀x c,X.env.cells.lookup x=some c→c≠T)∧∀p∈X.pn++pins,p.1≠T)∧
 H a=some (gT a C dx)∧EE σ (.ref C) dx H
theorem vP {X:Cx}{EE:St→XK}{Y:Cx} (h:X.xe=oy Y EE) (hY:∀{pins σ H s},aa X pins σ H s→aa Y pins σ H s):jx (mz X.prog X.w) X EE:=by
 intro pins σ H s e s' I q
 obtain ⟨a,T,C,dx,H',rfl,os,bare,un,hok,t,n,hT,ha,hE⟩:=q
 have J:=I.call' (ch:=[]) os un hok bare (fun b z=>by cases z)
 rw [h]
 exact ⟨pins,σ,H',a,T,C,dx,rfl,hY J,t,hT,(hY I).far n,ha,hE⟩
def hD (i:Nat) (D:c4):c4:={ nx:=fun σ H=>D.nx (σ.set i none) H,rt:=D.rt,bk:=fun σ H=>D.bk (σ.set i none) H,ct:=fun σ H=>D.ct (σ.set i none) H }
def oF (K:PySem.W.Frag) (Cc:Addr) (i:Nat) (th:TS) (D:c4):St→XK:=fun σ cv dx H=>∀a C,cv=.ref C→H a=some (gT a C dx)→PySem.W.exmOne K (.ref C) (.ref Cc)=some true∧th (hD i D) (σ.set i (some (.ref a))) H
def xt (K:PySem.W.Frag) (Cc:Addr) (i:Nat) (tb:(St→XK)→TS) (th:TS):TS:=fun D σ H=>tb (oF K Cc i th D) D σ H
section
variable {X:Cx}{body suite:List Stmt}{b0:Stmt}{x n:Str}{hpos pos np:Pos}{tb:(St→XK)→TS}{th:TS}{Cc:Addr}{i:Nat}
theorem vd (hst:X.stack=X.env :: X.outer) (hfr:X.env.frame=some X.env.locals) (hN:X.N.Nodup) (hi:X.N[i]?=some n) (hk:X.env.scope.names.lookup n=some .local) (hg:Gl X x) (hm:X.mg x=some (.ref Cc))
 (hb:∀(EE:St→XK) (pn:List (Addr×Obj)) (xe:Value→Shared→Prop),jx (mz X.prog X.w) (X.tr pn xe) EE→fZ (X.tr pn xe) body (tb EE)) (hs:∀A:Around,fZ (X.hn A) (b0 :: suite) th) (hdb:(x==("__debug__" : Str))=false:=by decide) :
 PS X (.Try body [.ExceptHandler (some (.Name x np)) (some n) (b0 :: suite) hpos] [] [] pos) (xt X.K Cc i tb th):=by
 intro pins s σ H D I h
 refine wpAny_Try_except ?_
 have hx:jx (mz X.prog X.w) (X.tr (X.pn++pins) (oy (X.tr (X.pn++pins) fun _ _=>False) (oF X.K Cc i th D))) (oF X.K Cc i th D):=vP (X:=X.tr (X.pn++pins) (oy (X.tr (X.pn++pins) fun _ _=>False) (oF X.K Cc i th D))) rfl fun J=>J.wish _
 refine wpAny_mono (hb _ _ _ hx [] s σ H D I.tr h) (fun f s1 q=>?_) fun e s1 q=>?_
 ·cases f with
  | next=>obtain ⟨σ',H',J,q⟩:=q;exact wpAny_execs_nil ⟨σ',H',J.untr,q⟩
  | brk=>obtain ⟨σ',H',J,q⟩:=q;exact ⟨σ',H',J.untr,q⟩
  | cont=>obtain ⟨σ',H',J,q⟩:=q;exact ⟨σ',H',J.untr,q⟩
  | ret u=>obtain ⟨v,σ',H',J,r,q⟩:=q;exact ⟨v,σ',H',J.untr,r,q⟩
 ·obtain ⟨pins',σ',H',a,T,C,dx,rfl,J0,t,hT,far,ha,hE⟩:=q
  have J:aa X pins σ' H' s1:=J0.untr
  obtain ⟨hm',hth⟩:=hE a C rfl ha
  have st:∀{h2:Heap}{bad:List Addr},Kp s1.heap h2 bad (dN (X.env :: X.outer))→Kp s1.heap h2 bad (dN X.stack):=fun k=>by rw [hst];exact k
  refine qe (L:=X.env.locals) (J.ok.frames.trans (congrArg some hst)) (by have z:=J.stack;rw [hst] at z;exact z) hfr t fun h2 T2 t2 z2 k2=>?_
  have J2:=J.noted ha (ch:=[T]) (st k2) t2.there (fun b hb=>by rw [List.mem_singleton.mp hb];exact hT) (fun b hb=>by
   rw [List.mem_singleton.mp hb]
   exact ⟨far.1,far.2.1,far.2.2.1,fun p hp=>far.2.2.2 p (List.mem_append_left _ hp)⟩)
  rw [jV ha] at J2
  have n2:s1.heap.objs.size≤T2:=Nat.le_of_eq z2.symm
  have far0:=J.far n2
  have hT2:∀b∈[T2],H' b=none:=fun b hb=>by rw [List.mem_singleton.mp hb];exact J.hok.fresh n2
  have wk:∀{g g':Heap},Kp g g' [T2] []→Kp g g' [a,T2] (dN X.stack):=fun k=>k.weak (fun b hb=>List.mem_cons_of_mem _ hb) fun b hb=>by cases hb
  refine kO t2 fun h3 t3 k3=>?_
  have J3:=J2.noted ha (ch:=[T2]) (wk k3) t3.there hT2 (fun b hb=>by rw [List.mem_singleton.mp hb];exact far0)
  rw [jV ha] at J3
  refine wpAny_handleBy_cons (codeAny_handlers_test ?_) (by intro q;cases q)
  have J3h:=J3.hn (A:=X.A.mark (some (.ref a))) rfl
  refine h8 J3h hg hm ?_ hdb
  obtain ⟨vs,sl,ea⟩:=t3.there
  have LT:PySem.W.Looks (model X.prog X.w) h3 (typeOf (.ref a)) (.ref C):=(PySem.W.Looks.ld ea).andThen .now
  refine (PySem.W.exm_one J3.kIn LT hm').here ?_
  refine codeAny_handlers_suite_as (kO t3 fun h5 t5 k5=>?_)
  have J5:=J3.noted ha (ch:=[T2]) (wk k5) t5.there hT2 (fun b hb=>by rw [List.mem_singleton.mp hb];exact far0)
  rw [jV ha] at J5
  refine fq J5 hN hi (.inl hk) (v:=.ref a) (u:=.ref a) rfl (fun s6 J6=>?_) (.inr hk)
  refine wpAny_mono (hs _ pins s6 _ H' _ (J6.hn (A:=X.A.mark (some (.ref a))) rfl) hth) (fun f s7 q=>?_) fun _ _ z=>z.elim
  cases f with
  | next=>obtain ⟨σ7,H7,J7,q⟩:=q;exact ju (J7.unhn J.ok) hN hi hk fun s8 J8=>⟨_,_,J8,q⟩
  | brk=>obtain ⟨σ7,H7,J7,q⟩:=q;exact ju (J7.unhn J.ok) hN hi hk fun s8 J8=>⟨_,_,J8,q⟩
  | cont=>obtain ⟨σ7,H7,J7,q⟩:=q;exact ju (J7.unhn J.ok) hN hi hk fun s8 J8=>⟨_,_,J8,q⟩
  | ret u=>obtain ⟨v,σ7,H7,J7,r,q⟩:=q;exact ju (J7.unhn J.ok) hN hi hk fun s8 J8=>⟨v,_,_,J8,r,q⟩
end
section
variable {X:Cx}{C:Addr}{e:Expr}{pos:Pos}
end
theorem qw:∀{cs:List V}{cvs us:List Value},cs.map qW=cvs.map some→aw cs us→us=cvs:=by
 intro cs
 induction cs with
 | nil=>
  intro cvs us e r
  cases r
  cases cvs with
  | nil=>rfl
  | cons c l=>cases e
 | cons c l ih=>
  intro cvs us e r
  cases cvs with
  | nil=>cases e
  | cons d m=>
   cases r with
   | cons r1 r2=>
    injection e with e1 e2
    rw [ih e2 r2]
    congr 1
    cases c with
    | ref y=>cases e1;exact r1
    | ty T=>cases e1;exact r1
    | _=>cases e1
section
variable {X:Cx}
theorem lF {K:PySem.W.Frag}{t:Value}:∀{cs:List Value},(∀c∈cs,PySem.W.kitOne K t c=some false)→PySem.W.kitAny K t cs=some false
 | [],_=>rfl
 | c :: r,h=>by
  unfold PySem.W.kitAny
  rw [h c List.mem_cons_self]
  exact lF fun d hd=>h d (List.mem_cons_of_mem _ hd)
end
section
variable {X:Cx}
end
def gY:Nat→List Obj→PySem.W.Frag
 | _,[]=>[]
 | n,o :: r=>match o.data with
  | .freed=>gY (n+1) r
  | _=>(n,o) :: gY (n+1) r
def fragOf (h:Heap):PySem.W.Frag:=gY 0 h.objs.toList
theorem lr:∀(l:List Obj) (n a:Nat) (o:Obj),List.lookup a (gY n l)=some o→∃k,a=n+k∧l[k]?=some o∧o.data≠.freed
 | [],n,a,o,e=>nomatch e
 | p :: r,n,a,o,e=>by
  have step:List.lookup a (gY (n+1) r)=some o→∃k,a=n+k∧(p :: r)[k]?=some o∧o.data≠.freed:=fun e=>by
   obtain ⟨k,e1,e2,e3⟩:=lr r (n+1) a o e
   exact ⟨k+1,by trivial,by simpa using e2,e3⟩
  unfold gY at e
  split at e
  ·exact step e
  ·rename_i hf
   by_cases q:a=n
   ·subst q
    simp only [List.lookup_cons,beq_self_eq_true] at e
    cases e
    exact ⟨0,rfl,rfl,hf⟩
   ·have q':(a==n)=false:=by simpa using q
    simp only [List.lookup_cons,q'] at e
    exact step e
theorem o7 (h:Heap):PySem.W.Frag.In (fragOf h) h:=fun a o e=>by
 obtain ⟨k,e1,e2,e3⟩:=lr _ 0 a o e
 have e1':a=k:=e1.trans (Nat.zero_add k)
 subst e1'
 unfold Heap.get?
 have:h.objs[a]?=some o:=by simpa using e2
 rw [this]
 cases o with
 | mk c d x s=>
  cases x <;> first | rfl | exact absurd rfl e3
def dq:Option (Option Value)→Addr
 | some (some (.ref a))=>a
 | _=>0
def pD:Option (Option Value)→Bool
 | some (some (.ref _))=>true
 | _=>false
def qN:Option (Option Value)→Bool
 | some none=>true
 | _=>false
def qY:Option Bool→Bool
 | some true=>true
 | _=>false
theorem cf {v:Option (Option Value)} (e:pD v=true):v=some (some (.ref (dq v))):=by
 unfold pD at e;split at e
 ·rfl
 ·cases e
theorem bT {v:Option (Option Value)} (e:qN v=true):v=some none:=by
 unfold qN at e;split at e
 ·rfl
 ·cases e
theorem tL {v:Option Bool} (e:qY v=true):v=some true:=by
 unfold qY at e;split at e
 ·rfl
 ·cases e
def nJ (K:PySem.W.Frag) (v:Option (Option Value)):Obj:=(List.lookup (dq v) K).getD ⟨.none,none,.plain,#[]⟩
def xV:FuncData:=PySem.W.fnOf (PySem.Str.mk #[]) (PySem.Str.mk #[]) ⟨[],[],none,[],[],none,[]⟩ [] ⟨.function,[],false,false,[]⟩ .none .none .none .none none .none .none
def dP (K:PySem.W.Frag) (v:Option (Option Value)):FuncData:=match (nJ K v).data with
 | .func fd=>fd
 | _=>xV
def bare (fd:FuncData):FuncData:={ fd with kwdefaults:=.none,doc:=.none,pyModule:=.none,annotations:=none,code:=.none,closureTuple:=.none }
def dw (K:PySem.W.Frag) (v:Option (Option Value)) (q:Str):Option FuncData:=
 match pD v && PySem.W.codeIn K (dP K v).code q && PySem.W.keepIn K (.ref (dq v)) with
 | false=>none
 | true=>match List.lookup (dq v) K with
  | some ⟨_,_,.func fd,_⟩=>some (bare fd)
  | _=>none
theorem kY {K:PySem.W.Frag}{v:Option (Option Value)}{q:Str}{x:FuncData} (e:dw K v q=some x) :
 v=some (some (.ref (dq v)))∧PySem.W.codeIn K (dP K v).code q=true∧PySem.W.keepIn K (.ref (dq v))=true∧
  List.lookup (dq v) K=some ⟨(nJ K v).cls,(nJ K v).dict,.func (dP K v),(nJ K v).slots⟩∧bare (dP K v)=x:=by
 unfold dw at e
 cases h:(pD v && PySem.W.codeIn K (dP K v).code q && PySem.W.keepIn K (.ref (dq v))) with
 | false=>rw [h] at e;cases e
 | true=>
  rw [h] at e
  simp only [Bool.and_eq_true] at h
  refine ⟨cf h.1.1,h.1.2,h.2,?_⟩
  cases hl:List.lookup (dq v) K with
  | none=>rw [hl] at e;cases e
  | some o=>
   rw [hl] at e
   obtain ⟨c,d,x',s⟩:=o
   have eo:nJ K v=⟨c,d,x',s⟩:=by unfold nJ;rw [hl];rfl
   cases x' <;> first | cases e | skip
   rename_i fd
   have ef:dP K v=fd:=by unfold dP;rw [eo]
   rw [eo,ef]
   exact ⟨rfl,rfl⟩
def aG (K:PySem.W.Frag) (n:Str):Addr:=dq (PySem.W.nsIn K mainGlobals n)
def rG (K:PySem.W.Frag) (n:Str):Bool:=pD (PySem.W.nsIn K mainGlobals n)
def oG (K:PySem.W.Frag) (n:Str):Bool:=qN (PySem.W.nsIn K mainGlobals n)
def fG (K:PySem.W.Frag) (n:Str):Option FuncData:=dw K (PySem.W.nsIn K mainGlobals n) n
def dG (n q:Str) (st:Stmt):Option FuncData:=some (PySem.W.fnOf n q (kv st) (hV st) (ax st) .none .none .none .none none .none .none)
theorem ak {K:PySem.W.Frag}{v:Option (Option Value)}{q n:Str}{st:Stmt} (e:dw K v q=dG n q st):gw K n q st (dq v) (dP K v):=by
 have h:=kY e
 refine ⟨?_,h.2.2.1⟩
 obtain ⟨h1,h2,h3,h4,z⟩:=h
 refine ⟨_,_,(dP K v).kwdefaults,(dP K v).doc,(dP K v).pyModule,(dP K v).annotations,(dP K v).code,(dP K v).closureTuple,_,?_,h4,h2⟩
 clear h4 h2 h3 h1 e
 generalize dP K v=fd at z ⊢
 cases fd
 unfold bare PySem.W.fnOf at z
 cases z
 rfl
theorem bi {K:PySem.W.Frag}{v:Option (Option Value)}{q n:Str}{st:Stmt} (e:dw K v q=dG n q st):v=some (some (.ref (dq v))):=(kY e).1
theorem walk_ofY {l:PySem.W.OpenLaw}{n k:Nat}{q:Program}{loose:List Str}{XP:(Str→Option Value)→Heap→Prop}{d:DefRec}{CX:fO}{sp:PySem.W.Frag→Sp}{x:Str}{α:Type}{obs:PySem.W.Frag→α}{due:α}
 (hn:l.most=some n) (hn2:n≤sizeLine) (hdf:d.params.defaults=[]) (hr:cM k callerA)
 (F:∀(K:PySem.W.Frag) (w:World) (mg:Str→Option Value) (fa:Addr) (h:Heap),obs K=due→K.In h→h.Ns mainGlobals mg→mg d.name=some (.ref fa)→
  ∃fd:FuncData,(∀(s:Shared) (u:Value),BindsTo s fd ⟨[u],[]⟩ [(x,u)])∧
   ∀base:Heap,K.In base→base.Ns mainGlobals mg→bv l.prog w K mg base CX k fa fd [x] (sp K))
 (hsp:∀(K:PySem.W.Frag) (H:Hp) (a:Addr) (ns:List Int),ns.length≤n→kC H→aD K H a (ns.map V.int)→sp K [.ref a] H (fun v _=>v=.bl true) fun _ _ _=>False)
 (hCX:∀(H:Hp) (s:Shared) (e:Value) (s':Shared),CX [] H s (fun _ _ _=>False) e s'→False) :
 PySem.W.WalkX q loose XP (fun s=>obs (fragOf s.heap)) (fun _=>due) l.row.toRowW d [] (fun f vs=>PySem.call f vs):=by
 intro w s₀ s₁ mg mb G y a o pm cd doc dV kV ho hd hcd hD hmg hg args vals as' L hpre hlay hrd hwl hlo
 have kx:(fragOf s₀.heap).In s₁.heap:=fun b ob hb=>L.keeps b ob (o7 s₀.heap b ob hb)
 exact qq (K:=fun _=>fragOf s₀.heap) (YP:=fun w h=>(fragOf s₀.heap).In h) hn hn2 hdf hr (fun _ _ z=>z) (fun w mg fa h=>F (fragOf s₀.heap) w mg fa h y) hsp hCX w s₀ s₁ mg mb G kx a o pm cd doc dV kV ho hd hcd hD hmg hg args vals as' hpre hlay hrd hwl hlo
section
variable {X:Cx}
inductive uf (K:PySem.W.Frag) (xs:List V) (H:Hp) (Q:VK):Prop
 | mk (a:Addr) (i j:Int) (h0:xs=[.ref a]) (h1:bq K H a [.int i,.int j]) (h2:Q (.int (if j > i then j else i)) H)
def rO (K:PySem.W.Frag):List V→Hp→VK→Prop:=fun xs H Q=>uf K xs H Q
theorem pW (hc:X.calm=true):bE X (.builtin "max") (rO X.K):=by
 intro pins s σ H xs us Q I r h
 obtain ⟨a,i,j,rfl,ha,q⟩:=h
 obtain ⟨u,rfl,ru⟩:=gN r
 cases ru
 obtain ⟨its,rv,hl,_⟩:=I.tuple ha
 obtain ⟨ps,e1,e2⟩:=nV (ks:=[i,j]) rv
 obtain ⟨⟨x,t1⟩,⟨y,t2⟩,rfl⟩:aX fun p p'=>ps=[p,p']:=by
  match ps,e2 with
  | [p,p'],_=>exact ⟨p,p',rfl⟩
 have exi:i=x∧j=y:=by simpa using e2
 obtain ⟨rfl,rfl⟩:=exi
 have hi:s.heap.IsTuple a (intItems #[(i,t1),(j,t2)]):=by
  have h2:IsTup s.heap a (intItems #[(i,t1),(j,t2)]):=by rw [e1] at hl;simpa [intItems] using hl
  obtain ⟨o,a1,a2,n,a3⟩:=h2
  exact ⟨o,a1,a2,n,a3⟩
 have hlt:a<s.heap.objs.size:=by obtain ⟨_,e,_⟩:=hi;exact Heap.lt_size e
 refine call_max_walk (wpAny_pyIter_tuple hi ⟨_,_,_,_,_,_,(),Walks.tuple (A:=X.A.in1) (I.ok.hd hc) s.heap.objs.size a (Nat.ne_of_lt hlt) (intItems #[(i,t1),(j,t2)]),⟨⟨_,Heap.get?_push_size _ rfl,rfl,rfl⟩,hi.at fun o e=>Heap.get?_push_of_some _ e⟩,fun b hb=>?_,by simp [intItems],CmpOf.ints_gt (numAt #[(i,t1),(j,t2)]) (fun _ _=>intItems_at),fun v h' tk hP hk=>?_⟩)
 ·rw [Heap.size_push]
  have:b=s.heap.objs.size∨b=a:=by simpa using hb
  rcases this with rfl | rfl
  ·exact Nat.lt_succ_self _
  ·exact Nat.lt_succ_of_lt hlt
 ·have old:∀b o,s.heap.get? b=some o→h'.get? b=some o:=fun b o e=>hk b o (fun hm=>by
   have:b=s.heap.objs.size:=by simpa using hm
   exact absurd (Heap.lt_size e) (by rw [this];exact Nat.lt_irrefl _)) (Heap.get?_push_of_some _ e)
  have I':=I.kept (t':=tk) old
  have e0:argBest (fun i_1 j_1=>decide (numAt #[(i,t1),(j,t2)] i_1 > numAt #[(i,t1),(j,t2)] j_1)) ((intItems #[(i,t1),(j,t2)]).size - 1)=if j > i then 1 else 0:=by
   have sz:(intItems #[(i,t1),(j,t2)]).size - 1=1:=by simp [intItems]
   rw [sz]
   simp [argBest,numAt]
  rw [e0] at hP
  by_cases c:j > i
  ·rw [if_pos c] at hP q
   have:v=.int j t2:=by simpa [intItems] using hP.symm
   subst this
   exact ⟨.int j,H,I',⟨()⟩,q⟩
  ·rw [if_neg c] at hP q
   have:v=.int i t1:=by simpa [intItems] using hP.symm
   subst this
   exact ⟨.int i,H,I',⟨()⟩,q⟩
theorem uE {K:PySem.W.Frag} (hc:X.calm=true) (e:X.K=K:=by rfl):bE X (.builtin "max") (rO K):=by subst e;exact pW hc
end
end L2
namespace L2
open PySem PySem.Spec PySem.Calls PySem.W PyProof.Rows
section
variable {prog:Program}{w:World}{A:Around}{E:Value→Shared→Prop}{s:Shared}
end
section
variable {X:Cx}
end
section
open PySem.Builtin.Str (occurrences partsBetween)
variable {prog:Program}{w:World}{A:Around}{E:Value→Shared→Prop}{s:Shared}
theorem oH {x y:Str}{t u:Tok}{Q:Value→Shared→Prop} (hy:(y.length==0)=false) (hz:x.length+2≤sizeLine)
 (hq:∀(l:List (Str×Tok)) (k:Nat),l.map (·.1)=Txt.split x y→Q (.ref s.heap.objs.size) { s with heap:=s.heap.push { cls:=.type "list",data:=.seq (strValues l).toArray },toks:=k }) :
 wpAny (model prog w) A (call (.builtin "str.split") [.str x t,.str y u]) Q E s:=by
 cases h1:(decide (x.length<y.length) || decide (Builtin.Str.strKind x<Builtin.Str.strKind y))
 ·cases hf:(occurrences x y 0 x.length (x.length+1)).isEmpty
  ·have e:Txt.split x y=partsBetween x (occurrences x y 0 x.length (x.length+1)) y.length:=(if_neg (ne_true_of_eq_false h1)).trans (if_neg (ne_true_of_eq_false hf))
   refine call_meets PySem.F.slot_str_split (typeIs_str _ _ _) PySem.F.entry_str_split (PySem.F.args_str_split_2 _ _) (meets_str_split_sep x y t u h1 hy hf (by trivial) (by rw [←e];exact Nat.le_trans (split_le x y) hz)) ?_
   show wants Q E _ { s with toks:=_,heap:=s.heap.push { cls:=.type "list",data:=.seq (strsFrom s.toks (partsBetween x (occurrences x y 0 x.length (x.length+1)) y.length)).toArray } }
   rw [strsFrom_eq]
   exact hq (numbered s.toks _) _ ((numbered_texts _ _).trans e.symm)
  ·exact call_meets PySem.F.slot_str_split (typeIs_str _ _ _) PySem.F.entry_str_split (PySem.F.args_str_split_2 _ _) (meets_str_split_not_found x y t u h1 hy hf)
    (hq [(x,t)] s.toks ((if_neg (ne_true_of_eq_false h1)).trans (if_pos hf)).symm)
 ·exact call_meets PySem.F.slot_str_split (typeIs_str _ _ _) PySem.F.entry_str_split (PySem.F.args_str_split_2 _ _) (meets_str_split_cannot_occur x y t u h1)
   (hq [(x,t)] s.toks (if_pos h1).symm)
end
section
variable {X:Cx}
inductive ss (x:V) (vs:List V) (H:Hp) (Q:VK):Prop
 | mk (a b:Str) (h0:x=.str a) (h1:vs=[.str b]) (h2:(b.length==0)=false) (h3:a.length≤10000) (h4:∀l H',Nw H l (.lst ((Txt.split a b).map V.str)) H'→Q (.ref l) H')
def ux:V→List V→Hp→VK→Prop:=fun x vs H Q=>ss  x vs H Q
theorem j7:∀(l:List (Str×Tok)),aw ((l.map (·.1)).map V.str) (strValues l)
 | []=>.nil
 | (x,t) :: r=>.cons ⟨t,rfl⟩ (j7 r)
theorem rm:lu X "str.split" ux:=by
 intro pins s σ H x vs v us Q I rx rv h
 obtain ⟨a,b,rfl,rfl,hb,hz,q⟩:=h
 obtain ⟨t,rfl⟩:=rx
 obtain ⟨u,rfl,ru⟩:=rv.one
 obtain ⟨tu,rfl⟩:=ru
 have sz:20000≤sizeLine:=by decide
 refine oH hb (by trivial) fun l k e=>?_
 have le:((Txt.split a b).map V.str).length≤sizeLine:=by rw [List.length_map];have:=split_le a b;trivial
 have I2:=I.laid (a:=s.heap.objs.size) (o:=.lst ((Txt.split a b).map V.str)) (h':=s.heap.push { cls:=.type "list",data:=.seq (strValues l).toArray }) (t':=k) (fun _ _ e=>Heap.get?_push_of_some _ e) (Nat.le_refl _)
  (show aW X.prog X.w _ _ _ (.lst _) from ?_)
 ·exact ⟨.ref s.heap.objs.size,_,I2,rfl,q _ _ (.mk' I.fresh)⟩
 ·exact ⟨le,strValues l,0,e▸j7 l,Heap.get?_push_size _ rfl⟩
inductive qt (x:V) (vs:List V) (H:Hp) (Q:VK):Prop
 | mk (a b:Str) (h0:x=.str a) (h1:vs=[.str b]) (h2:Q (.bl (Txt.startswith a b)) H)
def sY:V→List V→Hp→VK→Prop:=fun x vs H Q=>qt  x vs H Q
theorem pX:lu X "str.startswith" sY:=by
 intro pins s σ H x vs v us Q I rx rv h
 obtain ⟨a,b,rfl,rfl,q⟩:=h
 obtain ⟨t,rfl⟩:=rx
 obtain ⟨u,rfl,ru⟩:=rv.one
 obtain ⟨tu,rfl⟩:=ru
 exact SC.startswith ⟨.bl _,H,I,rfl,q⟩
theorem o8 {prog:Program}{w:World}{A:Around}{E:Value→Shared→Prop}{s:Shared}{x y:Str}{t u:Tok}{Q:Value→Shared→Prop} (hy:(y.length==0)=false) (hz:x.length≤sizeLine)
 (h:∀ta tb tc k,Q (.ref s.heap.objs.size) { s with heap:=s.heap.push { cls:=.type "tuple",data:=.seq [.str (Txt.partition x y).1 ta,.str (Txt.partition x y).2.1 tb,.str (Txt.partition x y).2.2 tc].toArray },toks:=k }) :
 wpAny (model prog w) A (call (.builtin "str.partition") [.str x t,.str y u]) Q E s:=by
 refine call_meets PySem.F.slot_str_partition (typeIs_str _ _ _) PySem.F.entry_str_partition (PySem.F.args_str_partition_2 _ _) (meets_str_partition x y t u hy hz) ?_
 have h':=h
 unfold Txt.partition at h'
 revert h'
 cases PySem.Builtin.Str.occurrences x y 0 x.length 1 with
 | nil=>intro h';exact h' _ _ _ _
 | cons i r=>intro h';exact h' _ _ _ _
inductive vg (x:V) (vs:List V) (H:Hp) (Q:VK):Prop
 | mk (a b:Str) (h0:x=.str a) (h1:vs=[.str b]) (h2:(b.length==0)=false) (h3:a.length≤10000) (h4:∀l H',Nw H l (.tup [.str (Txt.partition a b).1,.str (Txt.partition a b).2.1,.str (Txt.partition a b).2.2]) H'→Q (.ref l) H')
def wB:V→List V→Hp→VK→Prop:=fun x vs H Q=>vg  x vs H Q
theorem nN:lu X "str.partition" wB:=by
 intro pins s σ H x vs v us Q I rx rv h
 obtain ⟨a,b,rfl,rfl,hb,hz,q⟩:=h
 obtain ⟨t,rfl⟩:=rx
 obtain ⟨u,rfl,ru⟩:=rv.one
 obtain ⟨tu,rfl⟩:=ru
 have sz:20000≤sizeLine:=by decide
 refine o8 hb (by trivial) fun ta tb tc k=>?_
 have I2:=I.laid (a:=s.heap.objs.size) (o:=.tup [.str (Txt.partition a b).1,.str (Txt.partition a b).2.1,.str (Txt.partition a b).2.2]) (t':=k) (fun _ _ e=>Heap.get?_push_of_some _ e) (Nat.le_refl _)
  (show aW X.prog X.w _ (s.heap.push { cls:=.type "tuple",data:=.seq [.str (Txt.partition a b).1 ta,.str (Txt.partition a b).2.1 tb,.str (Txt.partition a b).2.2 tc].toArray }) _ (.tup _) from
   ⟨by show 3≤sizeLine;trivial,_,.cons ⟨ta,rfl⟩ (.cons ⟨tb,rfl⟩ (.cons ⟨tc,rfl⟩ .nil)),IsTup.new _ _,_,Heap.get?_push_size _ rfl,rfl⟩)
 exact ⟨.ref s.heap.objs.size,_,I2,rfl,q _ _ (.mk' I.fresh)⟩
inductive ut (xs:List V) (H:Hp) (Q:VK):Prop
 | mk (a:Str) (n:Int) (h0:xs=[.str a]) (h1:PySem.intText? a=some n) (h2:a.length≤640) (h3:Q (.int n) H)
def rS:List V→Hp→VK→Prop:=fun xs H Q=>ut  xs H Q
theorem fP:bE X (.type "int") rS:=by
 intro pins s σ H xs us Q I r h
 obtain ⟨a,n,rfl,e,hl,q⟩:=h
 obtain ⟨u,rfl,ru⟩:=r.one
 obtain ⟨t,rfl⟩:=ru
 exact PySem.W.KIN.call_text e hl ⟨.int n,H,I.tok _,⟨()⟩,q⟩
end
end L2
namespace L2
open PySem PySem.Spec PyProof.Rows
section
variable {X:Cx}
inductive uy (K:PySem.W.Frag) (xs:List V) (H:Hp) (Q:VK):Prop
 | mk (a:_) (C:_) (c:_) (cv:_) (b:_) (h0:xs=[.ref a,c]) (h1:H a=some (gT a C none)) (h2:qW c=some cv) (h3:iE K C=true) (h4:PySem.W.kitOne K (.ref C) cv=some b) (h5:Q (.bl b) H)
def wL (K:PySem.W.Frag):List V→Hp→VK→Prop:=fun xs H Q=>uy K xs H Q
theorem fQ {K:PySem.W.Frag} (ek:X.K=K:=by rfl):bE X (.builtin "isinstance") (wL K):=by
 subst ek
 intro pins s σ H xs us Q I r h
 obtain ⟨a,C,c,cv,b,rfl,ha,hcv,g,ho,q⟩:=h
 obtain ⟨u,uc,rfl,ru,rc⟩:=kj r
 cases ru
 have ec:uc=cv:=by
  cases c with
  | ref y=>cases hcv;exact rc
  | ty T=>cases hcv;exact rc
  | _=>cases hcv
 subst ec
 have J:aX fun ox od=>PySem.W.InstAt s.heap a ox C od:=by
  obtain ⟨vs,sl,e1⟩:=mj I.hok ha
  exact ⟨_,none,e1,rfl,rfl,trivial⟩
 exact PySem.W.kia_one (l6 g) I.kIn J ho (fun z=>nomatch z) fun tk=>⟨.bl b,H,I.tok tk,rfl,q⟩
inductive sF (K:PySem.W.Frag) (xs:List V) (H:Hp) (Q:VK):Prop
 | mk (a:_) (C:_) (tp:_) (cs:_) (cvs:_) (b:_) (h0:xs=[.ref a,.ref tp]) (h1:H a=some (gT a C none)) (h2:H tp=some (.tup cs)) (h3:cs.map qW=cvs.map some) (h4:iE K C=true) (h5:PySem.W.kitAny K (.ref C) cvs=some b) (h6:Q (.bl b) H)
def tP (K:PySem.W.Frag):List V→Hp→VK→Prop:=fun xs H Q=>sF K xs H Q
theorem ib {K:PySem.W.Frag} (ek:X.K=K:=by rfl):bE X (.builtin "isinstance") (tP K):=by
 subst ek
 intro pins s σ H xs us Q I r h
 obtain ⟨a,C,tp,cs,cvs,b,rfl,ha,ht,hcs,g,ho,q⟩:=h
 obtain ⟨u,uc,rfl,ru,rc⟩:=kj r
 cases ru
 obtain rfl:uc=Value.ref tp:=rc
 obtain ⟨its,rv,⟨o,e1,e2,n,e3⟩,_⟩:=I.tuple (bq.of ht)
 have ei:=qw hcs rv
 subst ei
 obtain ⟨oc,od,odt,osl⟩:=o
 dsimp only at e2 e3
 subst e2 e3
 have J:aX fun ox od=>PySem.W.InstAt s.heap a ox C od:=by
  obtain ⟨vs,sl,e1⟩:=mj I.hok ha
  exact ⟨_,none,e1,rfl,rfl,trivial⟩
 exact PySem.W.kia_tup (l6 g) I.kIn J e1 ho (fun z=>nomatch z) fun tk=>⟨.bl b,H,I.tok tk,rfl,q⟩
end
section
variable {H H':Hp}{d p t q z:Addr}{v:V}{es:List Ent}{past:List RSt}{cur:RSt}{F:List Addr}
end
section
variable {p t q z p' t' q':Addr}{v v':V}
end
section
variable {C:Addr}{H H' H0 H1 H2:Hp}{r L d b:Addr}{F F' F0 F1 F2:List Addr}{past:List RSt}{cur:RSt}{N M:Nat}{E:Addr→Prop}
end
section
variable {X:Cx}{body suite:List Stmt}{b0:Stmt}{x:Str}{hpos pos np:Pos}{tb:(St→XK)→TS}{th:TS}{Cc:Addr}
end
section
variable {X:Cx}{CX:fO}{k:Nat}{f C:Addr}{fd:FuncData}{ps:List Str}{sp:Sp}{EE:St→XK}{m:Str}{pos apos:Pos}{e o:Expr}{es:List Expr}{ta:TE}{t:TA}
end
section
variable {C:Addr}{H H' H0:Hp}{P E:Addr→Prop}{xs:List PairAt}{N M:Nat}{x y:PairAt}{i:Nat}
end
section
variable {C:Addr}{H2 H H':Hp}{b s o nl:Addr}{ls:List (List Nat)}{xs:List PairAt}{N M:Nat}{t t':Int}{x y:PairAt}{i:Nat}
end
end L2
namespace L2
open PySem PySem.Spec PyProof.Rows PySem.NumText
theorem mC (x:Str):S x.cps.toList=x:=by
 obtain ⟨a⟩:=x
 simp [S]
def bC (c:Nat):List Nat→List (List Nat)
 | []=>[[]]
 | x :: xs=>if x=c then [] :: bC c xs else match bC c xs with
  | []=>[[x]]
  | p :: ps=>(x :: p) :: ps
def jn (c:Nat):List (List Nat)→List Nat
 | []=>[]
 | [p]=>p
 | p :: q :: ps=>p++c :: jn c (q :: ps)
theorem i4 (c:Nat):∀cs,bC c cs≠[]
 | []=>fun h=>nomatch h
 | x :: xs=>by
  unfold bC
  split
  ·exact fun h=>nomatch h
  ·split
   ·exact fun h=>nomatch h
   ·exact fun h=>nomatch h
theorem ft {c:Nat}:∀{a:List Nat},c∉a→bC c a=[a]
 | [],_=>rfl
 | x :: xs,h=>by
  have h1:¬x=c:=fun e=>h (by simp [e])
  have h2:c∉xs:=fun e=>h (by simp [e])
  unfold bC
  rw [if_neg h1,ft h2]
theorem hJ {c:Nat}{b:List Nat}:∀{a:List Nat},c∉a→bC c (a++c :: b)=a :: bC c b
 | [],_=>by show bC c (c :: b)=_;rw [bC,if_pos rfl]
 | x :: xs,h=>by
  have h1:¬x=c:=fun e=>h (by simp [e])
  have h2:c∉xs:=fun e=>h (by simp [e])
  show bC c (x :: (xs++c :: b))=_
  rw [bC,if_neg h1,hJ h2]
theorem o3 {c:Nat}:∀{ps:List (List Nat)},ps≠[]→(∀p∈ps,c∉p)→bC c (jn c ps)=ps
 | [],h,_=>absurd rfl h
 | [p],_,h=>ft (h p (by simp))
 | p :: q :: ps,_,h=>by
  show bC c (p++c :: jn c (q :: ps))=_
  rw [hJ (h p (by simp)),o3 (ps:=q :: ps) (by simp) fun r hr=>h r (List.mem_cons_of_mem _ hr)]
theorem lH (c:Nat):∀l:List Nat,cnt c l=(l.count c:Nat)
 | []=>rfl
 | x :: xs=>by
  rw [cnt_cons,lH c xs,List.count_cons]
  by_cases h:x=c
  ·simp [h];trivial
  ·simp [h]
theorem j3 (c:Nat):∀(ps:List (List Nat)),ps≠[]→(jn c ps).count c=(ps.length - 1)+(ps.map fun p=>p.count c).sum
 | [],h=>absurd rfl h
 | [p],_=>by simp [jn]
 | p :: q :: ps,_=>by
  show (p++c :: jn c (q :: ps)).count c=_
  rw [List.count_append,List.count_cons,j3 c (q :: ps) (by simp)]
  simp
  trivial
theorem mW:∀{l:List Nat},l.sum=0→∀x∈l,x=0
 | [],_,_,h=>nomatch h
 | y :: l,e,x,h=>by
  rw [List.sum_cons] at e
  rcases List.mem_cons.mp h with rfl | h
  ·trivial
  ·exact mW (by trivial) x h
theorem pE (c:Nat):∀ps:List (List Nat),Str.join (S [c]) (ps.map S)=S (jn c ps)
 | []=>rfl
 | [p]=>rfl
 | p :: q :: ps=>by
  show S p++S [c]++Str.join (S [c]) ((q :: ps).map S)=_
  rw [pE c (q :: ps),gM,gM]
  show _=S (p++c :: jn c (q :: ps))
  simp
theorem td (c:Nat) (cs:List Nat):Txt.split (S cs) (S [c])=(bC c cs).map S:=by
 have e:∃ps:List (List Nat),Txt.split (S cs) (S [c])=ps.map S:=⟨(Txt.split (S cs) (S [c])).map fun x=>x.cps.toList,by
  rw [List.map_map]
  exact (List.map_id _).symm.trans (List.map_congr_left fun x _=>(mC x).symm)⟩
 obtain ⟨ps,e⟩:=e
 have j:=StrLaws.join_split (S cs) (S [c])
 rw [e,pE] at j
 have j':jn c ps=cs:=lZ j
 have l:=split_len (S cs) c
 have l':((ps.length:Nat):Int)=1+((cs.count c:Nat):Int):=by
  rw [←lH]
  have:(Txt.split (S cs) ⟨#[c]⟩)=ps.map S:=e
  rw [this,List.length_map] at l
  have es:(S cs).cps.toList=cs:=by simp [S]
  rw [es] at l
  exact l
 have ne:ps≠[]:=fun h=>by rw [h] at l';simp at l';trivial
 have cj:=j3 c ps ne
 rw [j'] at cj
 have z:(ps.map fun p=>p.count c).sum=0:=by trivial
 rw [e,←j',o3 ne fun p hp h=>?_]
 have:=mW z _ (List.mem_map.mpr ⟨p,hp,rfl⟩)
 exact absurd h (List.count_eq_zero.mp this)
theorem jN (c:Nat) (cs:List Nat):(c∉cs∧Txt.partition (S cs) (S [c])=(S cs,S [],S []))∨aX fun a b=>cs=a++c :: b∧c∉a∧Txt.partition (S cs) (S [c])=(S a,S [c],S b):=by
 have sum:=StrLaws.partition_sum (S cs) (S [c])
 have at_:∀i,StrLaws.At (S cs) (S [c]) (S cs).length i↔cs[i]?=some c:=fun i=>by
  have hl:(S cs).length=cs.length:=by simp [S,Str.length]
  unfold StrLaws.At
  rw [StrLaws.subAt_eq]
  have e1:(S cs).cps.toList=cs:=by simp [S]
  have e2:(S [c]).cps.toList=[c]:=by simp [S]
  have e3:(S [c]).length=1:=by simp [S,Str.length]
  rw [e1,e2,e3,hl]
  constructor
  ·rintro ⟨h1,h2⟩
   have h3:=eq_of_beq h2
   have:((cs.drop i).take 1)[0]?=some c:=by rw [h3];rfl
   rw [List.getElem?_take_of_lt (by trivial),List.getElem?_drop] at this
   simpa using this
  ·intro h
   obtain ⟨h1,h2⟩:=List.getElem?_eq_some_iff.mp h
   refine ⟨by trivial,?_⟩
   rw [List.drop_eq_getElem_cons h1,h2]
   simp
 rcases partition_head (S cs) (S [c]) with ⟨e,no⟩ | ⟨i,e,hi,first⟩
 ·left
  have nc:c∉cs:=fun h=>by
   obtain ⟨i,hi⟩:=List.getElem?_of_mem h
   exact no i ((at_ i).mpr hi)
  refine ⟨nc,?_⟩
  revert e sum
  generalize Txt.partition (S cs) (S [c])=t
  obtain ⟨t1,t2,t3⟩:=t
  intro sum e
  have e':t1=S cs:=e
  subst e'
  have s2:S cs++t2++t3=S cs:=sum
  have l:=congrArg Str.length s2
  rw [Str.length_append,Str.length_append] at l
  have z:∀{x:Str},x.length=0→x=S []:=fun {x} h=>by
   rw [←mC x]
   have:x.cps.toList=[]:=by
    have:x.cps.toList.length=0:=by simpa [Str.length] using h
    exact List.eq_nil_of_length_eq_zero this
   rw [this]
  rw [z (show t2.length=0 by trivial),z (show t3.length=0 by trivial)]
 ·right
  have hi':=(at_ i).mp hi
  obtain ⟨h1,h2⟩:=List.getElem?_eq_some_iff.mp hi'
  have el:∀(p q:Nat),Builtin.Str.strSub (S cs) p q=S ((cs.drop p).take (q - p)):=fun p q=>by
   rw [←mC (Builtin.Str.strSub (S cs) p q),StrLaws.strSub_toList]
   simp [S]
  have occ:aX fun j r=>Builtin.Str.occurrences (S cs) (S [c]) 0 (S cs).length 1=j :: r:=by
   cases h:Builtin.Str.occurrences (S cs) (S [c]) 0 (S cs).length 1 with
   | cons j r=>exact ⟨j,r,rfl⟩
   | nil=>
    exfalso
    have:(Txt.partition (S cs) (S [c])).1=S cs:=by unfold Txt.partition;rw [h]
    rw [this,el] at e
    have:=congrArg List.length (lZ e)
    rw [List.length_take] at this
    simp at this
    trivial
  obtain ⟨j,r,ho⟩:=occ
  have ep:Txt.partition (S cs) (S [c])=(Builtin.Str.strSub (S cs) 0 j,S [c],Builtin.Str.strSub (S cs) (j+(S [c]).length) (S cs).length):=by unfold Txt.partition;rw [ho]
  rw [ep] at e sum
  have e1:(S [c]).length=1:=by simp [S,Str.length]
  have e2:(S cs).length=cs.length:=by simp [S,Str.length]
  refine ⟨cs.take i,cs.drop (i+1),?_,fun h=>?_,?_⟩
  ·rw [←h2,←List.drop_eq_getElem_cons h1,List.take_append_drop]
  ·obtain ⟨k,hk⟩:=List.getElem?_of_mem h
   have hlt:k<i:=by
    have:=(List.getElem?_eq_some_iff.mp hk).1
    rw [List.length_take] at this
    trivial
   rw [List.getElem?_take_of_lt hlt] at hk
   exact first k hlt ((at_ k).mpr hk)
  ·have e':Builtin.Str.strSub (S cs) 0 j=Builtin.Str.strSub (S cs) 0 i:=e
   have ta:Builtin.Str.strSub (S cs) 0 i=S (cs.take i):=by rw [el];simp
   have sum':Builtin.Str.strSub (S cs) 0 j++S [c]++Builtin.Str.strSub (S cs) (j+(S [c]).length) (S cs).length=S cs:=sum
   rw [e',ta] at sum'
   rw [ep,e',ta]
   congr 2
   rw [←mC (Builtin.Str.strSub (S cs) (j+(S [c]).length) (S cs).length),gM,gM] at sum'
   have s3:=lZ sum'
   rw [←mC (Builtin.Str.strSub (S cs) (j+(S [c]).length) (S cs).length)]
   congr 1
   have s4:cs.take i++[c]++cs.drop (i+1)=cs:=by
    rw [List.append_assoc]
    show cs.take i++c :: cs.drop (i+1)=cs
    rw [←h2,←List.drop_eq_getElem_cons h1,List.take_append_drop]
   exact List.append_cancel_left (s3.trans s4.symm)
def dg (n:Nat):List Nat:=(Nat.toDigits 10 n).map Char.toNat
theorem wW (d:Nat) (h:d<10):(Nat.digitChar d).toNat=48+d:=by
 obtain rfl | rfl | rfl | rfl | rfl | rfl | rfl | rfl | rfl | rfl:d=0∨d=1∨d=2∨d=3∨d=4∨d=5∨d=6∨d=7∨d=8∨d=9:=by trivial
 all_goals rfl
theorem gL {n:Nat} (h:n<10):dg n=[48+n]:=by
 unfold dg
 rw [Nat.toDigits_of_lt_base h,List.map_cons,wW n h]
 rfl
theorem kq {n:Nat} (h:10≤n):dg n=dg (n / 10)++[48+n % 10]:=by
 unfold dg
 rw [Nat.toDigits_of_base_le (by decide) h,List.map_append,List.map_cons,wW _ (Nat.mod_lt _ (by decide))]
 rfl
theorem eX {n k:Nat} (hk:0<k):(dg n).length≤k↔n<10 ^ k:=by
 unfold dg
 rw [List.length_map]
 exact Nat.length_toDigits_le_iff (by decide) hk
theorem vL (n:Nat):dg n≠[]:=by
 by_cases h:n<10
 ·rw [gL h];exact fun z=>nomatch z
 ·rw [kq (by trivial)];simp
theorem mi (n:Nat):AllDigits (dg n):=by
 induction n using Nat.strongRecOn with
 | _ n ih=>
  by_cases h:n<10
  ·rw [gL h]
   intro c hc
   rw [List.mem_singleton.mp hc]
   trivial
  ·rw [kq (by trivial)]
   intro c hc
   rcases List.mem_append.mp hc with q | q
   ·exact ih (n / 10) (by trivial) c q
   ·rw [List.mem_singleton.mp q]
    trivial
theorem vi (n:Nat):digitsVal (dg n)=n:=by
 induction n using Nat.strongRecOn with
 | _ n ih=>
  by_cases h:n<10
  ·rw [gL h]
   show 0*10+(48+n - 48)=n
   trivial
  ·have:=ih (n / 10) (by trivial)
   rw [kq (by trivial)]
   unfold digitsVal at this ⊢
   rw [List.foldl_append,this]
   show n / 10*10+(48+n % 10 - 48)=n
   trivial
theorem sL {n:Nat} (h:0<n):aX fun c r=>dg n=c :: r∧c≠48:=by
 induction n using Nat.strongRecOn with
 | _ n ih=>
  by_cases h1:n<10
  ·exact ⟨48+n,[],gL h1,by trivial⟩
  ·obtain ⟨c,r,e,hc⟩:=ih (n / 10) (by trivial) (by trivial)
   exact ⟨c,r++[48+n % 10],by rw [kq (by trivial),e];rfl,hc⟩
theorem oi (n:Nat):Str.ofString (toString (n:Int))=S (dg n):=by
 rw [Str.ofString_eq_toList]
 show (⟨((Nat.repr n).toList.map Char.toNat).toArray⟩:Str)=_
 rw [Nat.toList_repr]
 rfl
theorem sh (n:Nat) (h:0<n):Str.ofString (toString (-(n:Int)))=S (45 :: dg n):=by
 rw [toString_neg (by trivial),show (0 - -(n:Int))=(n:Int) by trivial,Str.ofString_eq_toList,String.toList_append]
 show (⟨(("-".toList++(Nat.repr n).toList).map Char.toNat).toArray⟩:Str)=_
 rw [Nat.toList_repr,List.map_append]
 rfl
end L2
namespace L2
open PySem PySem.Spec PyProof.Rows
section
variable {X:Cx}
abbrev TF:=Str→St→Hp→VK→Prop
def PF (X:Cx) (es:List Expr) (t:TF):Prop:=
 ∀(out:Str) (pins:List (Addr×Obj)) (s:Shared) (σ:St) (H:Hp) (Q:VK),aa X pins σ H s→t out σ H Q→wpAny (model X.prog X.w) X.A (joinParts out (evalEach es X.env)) (EP X pins σ Q) X.xe s
def xb:TF:=fun out _ H Q=>out.length≤10000∧Q (.str out) H
def xn (x:Str) (t:TF):TF:=fun out σ H Q=>(out++x).length≤10000∧t (out++x) σ H Q
def xH (te:TE) (t:TF):TF:=fun out σ H Q=>te σ H fun v H1=>∃y:Str,v=.str y∧(out++y).length≤10000∧t (out++y) σ H1 Q
def xZ (t:TF):TE:=fun σ H Q=>t Str.empty σ H Q
theorem vn:PF X [] xb:=by
 intro out pins s σ H Q I ⟨hz,q⟩
 have sz:20000≤sizeLine:=by decide
 exact joinParts_nil ⟨.str out,H,I.tok _,⟨()⟩,q⟩ (by trivial)
theorem u4 {x:Str}{es:List Expr}{t:TF}{j pos} (h:PF X es t):PF X (.Constant (.str x) j pos :: es) (xn x t):=by
 intro out pins s σ H Q I ⟨hz,q⟩
 have sz:20000≤sizeLine:=by decide
 exact joinParts_cons (Calls.Constant_str ⟨by trivial,h _ pins _ σ H Q (I.tok _) q⟩)
theorem pf {e:Expr}{es:List Expr}{te:TE}{t:TF}{pos} (he:PE X e te) (h:PF X es t):PF X (.FormattedValue e (-1) none pos :: es) (xH te t):=by
 intro out pins s σ H Q I q
 have sz:20000≤sizeLine:=by decide
 refine joinParts_cons (FormattedValue_plain (aA (he pins s σ H _ I q) fun v s1 ⟨x,H1,I1,r1,q1⟩=>?_))
 obtain ⟨y,rfl,hz,q2⟩:=q1
 obtain ⟨t',rfl⟩:=r1
 have:y.length≤10000:=by rw [Str.length_append] at hz;trivial
 exact formatField_str (fun t2 tk=>⟨by trivial,h _ pins _ σ H1 Q (I1.tok _) q2⟩) (by trivial)
theorem sU {a b:Expr}{es:List Expr}{t:TF}{pos} (h:PF X (a :: b :: es) t):PE X (.JoinedStr (a :: b :: es) pos) (xZ t):=by
 intro pins s σ H Q I q
 exact JoinedStr_many (h Str.empty pins s σ H Q I q)
end
end L2
namespace L2
open PySem PySem.Spec PyProof.Rows PySem.NumText
def d7 (cs:List Nat) (lo hi:Option Int):List Nat:=(cs.drop (lo.getD 0).toNat).take (min (hi.getD cs.length).toNat cs.length - (lo.getD 0).toNat)
inductive wc (x:V) (lo:Option Int) (hi:Option Int) (H:Hp) (Q:VK):Prop
 | mk (cs:List Nat) (h0:x=.str (S cs)) (h1:cs.length≤10000) (h2:0≤lo.getD 0) (h3:0≤hi.getD 0) (h4:Q (.str (S (d7 cs lo hi))) H)
def xP:V→Option Int→Option Int→Hp→VK→Prop:=fun x lo hi H Q=>wc  x lo hi H Q
theorem ke {cs:List Nat}:∀(n a:Nat),a+n≤cs.length→(((List.range n).map (a+·)).filterMap fun x=>cs[x]?)=(cs.drop a).take n
 | 0,a,_=>by simp
 | n+1,a,h=>by
  rw [List.range_succ,List.map_append,List.filterMap_append,ke n a (by trivial),List.map_cons,List.map_nil]
  have e:(List.filterMap (fun x=>cs[x]?) [a+n])=[cs[a+n]]:=by
   rw [List.filterMap_cons,List.getElem?_eq_getElem (by trivial)]
   rfl
  rw [e,List.take_add_one,List.getElem?_drop,List.getElem?_eq_getElem (by trivial)]
  rfl
theorem pO (lo hi:Option Int) (n:Nat) (h1:0≤lo.getD 0) (h2:0≤hi.getD 0) :
 Builtin.Str.strSliceIndices lo hi 1 n=(List.range (min (hi.getD n).toNat n - min (lo.getD 0).toNat n)).map (min (lo.getD 0).toNat n+·):=by
 rw [←sliceRange_one]
 unfold Builtin.Str.strSliceIndices
 show sliceRange _ _ 1=_
 congr 1
 ·cases lo with
  | none=>show (0:Int)=_;simp
  | some i=>
   have h1':0≤i:=h1
   show max 0 (min (if i<0 then i+(n:Int) else i) (n:Int))=((min i.toNat n:Nat):Int)
   rw [if_neg (by trivial)]
   trivial
 ·cases hi with
  | none=>show (n:Int)=((min ((n:Int)).toNat n:Nat):Int);trivial
  | some i=>
   have h2':0≤i:=h2
   show max 0 (min (if i<0 then i+(n:Int) else i) (n:Int))=((min i.toNat n:Nat):Int)
   rw [if_neg (by trivial)]
   trivial
theorem qX (cs:List Nat) (lo hi:Option Int) (h1:0≤lo.getD 0) (h2:0≤hi.getD 0) :
 ((Builtin.Str.strSliceIndices lo hi 1 cs.length).filterMap fun x=>cs[x]?)=d7 cs lo hi:=by
 rw [pO lo hi cs.length h1 h2]
 by_cases h:(lo.getD 0).toNat≤cs.length
 ·rw [Nat.min_eq_left h]
  by_cases h3:(lo.getD 0).toNat≤min (hi.getD cs.length).toNat cs.length
  ·rw [ke _ _ (by trivial)]
   rfl
  ·rw [Nat.sub_eq_zero_of_le (by trivial)]
   unfold d7
   rw [Nat.sub_eq_zero_of_le (by trivial)]
   simp
 ·rw [Nat.min_eq_right (by trivial),Nat.sub_eq_zero_of_le (by trivial)]
  unfold d7
  rw [List.drop_eq_nil_of_le (by trivial)]
  simp
theorem kJ {X:Cx}:qj X xP:=by
 intro pins s σ H x v vl vu lo hi sl Q I rx hs pl pu h
 obtain ⟨cs,rfl,hz,h1,h2,q⟩:=h
 obtain ⟨t,rfl⟩:=rx
 obtain ⟨l,el⟩:∃p:Option (Int×Tok),vl=partValue p∧p.map (·.1)=lo:=by
  cases pl with
  | none=>exact ⟨none,rfl,rfl⟩
  | int i t=>exact ⟨some (i,t),rfl,rfl⟩
 obtain ⟨u,eu⟩:∃p:Option (Int×Tok),vu=partValue p∧p.map (·.1)=hi:=by
  cases pu with
  | none=>exact ⟨none,rfl,rfl⟩
  | int i t=>exact ⟨some (i,t),rfl,rfl⟩
 obtain ⟨rfl,rfl⟩:=el
 obtain ⟨rfl,rfl⟩:=eu
 refine ⟨"str",_,F.slot_str_getitem.lookup,typeIs_str _ _ _,?_⟩
 refine wpAny_getItem_str_slice (l:=l) (u:=u) (st:=none) hs rfl ?_
 have ep:((slicePicked (S cs) l u none).filterMap fun x=>(S cs).cps[x]?)=d7 cs (l.map (·.1)) (u.map (·.1)):=by
  have:=qX cs _ _ h1 h2
  rw [←this]
  show List.filterMap _ (Builtin.Str.strSliceIndices _ _ 1 (S cs).length)=_
  rw [aY]
  congr 1
  funext x
  simp [S]
 have hl:=sliceIndices_le (l.map (·.1)) (u.map (·.1)) (S cs).length
 unfold sliceMade
 by_cases hc:((Option.map (fun x:Int×Tok=>x.fst) none).getD 1==1 && (slicePicked (S cs) l u none).length==(S cs).length)=true
 ·rw [if_pos hc]
  refine ⟨.str (S cs),H,I,⟨()⟩,?_⟩
  rw [Bool.and_eq_true] at hc
  have hc':(slicePicked (S cs) l u none).length=cs.length:=by rw [←aY cs];exact eq_of_beq hc.2
  have e:d7 cs (l.map fun p=>p.1) (u.map fun p=>p.1)=cs:=by
   have e2:slicePicked (S cs) l u none=_:=pO _ _ (S cs).length h1 h2
   rw [aY] at e2
   have:=congrArg List.length e2
   rw [hc',List.length_map,List.length_range] at this
   have e0:cs.length=0∨((l.map fun p:Int×Tok=>p.1).getD 0).toNat=0:=by trivial
   unfold d7
   rcases e0 with e0 | e0
   ·rw [List.eq_nil_of_length_eq_zero e0];simp
   ·rw [e0] at this ⊢
    rw [List.drop_zero,List.take_of_length_le (by trivial)]
  rw [e] at q
  exact q
 ·rw [if_neg hc,ep]
  refine ⟨?_,.str _,H,I.tok _,⟨()⟩,q⟩
  show (d7 cs _ _).toArray.size≤_
  rw [List.size_toArray]
  unfold d7
  rw [List.length_take,List.length_drop]
  exact Nat.le_trans (by trivial) (dL hz)
theorem u9 (cs:List Nat) (k:Nat):d7 cs none (some (k:Int))=cs.take k:=by
 unfold d7
 show (cs.drop 0).take (min k cs.length - 0)=_
 rw [List.drop_zero,Nat.sub_zero]
 by_cases h:k≤cs.length
 ·rw [Nat.min_eq_left h]
 ·rw [Nat.min_eq_right (by trivial),List.take_length,List.take_of_length_le (by trivial)]
theorem j5 (cs:List Nat) (k:Nat):d7 cs (some (k:Int)) none=cs.drop k:=by
 unfold d7
 show (cs.drop k).take (min ((cs.length:Int)).toNat cs.length - k)=_
 rw [List.take_of_length_le]
 rw [List.length_drop]
 trivial
def ci (c:Nat):Bool:=decide (48≤c) && decide (c≤57)
def cV (cs:List Nat):Bool:=(decide (1≤cs.length) && decide (cs.length≤40)) && cs.all ci && (cs==[48] || !(cs.head?==some 48))
def aZ (cs:List Nat):Option Nat:=if cV cs=true then some (digitsVal cs) else none
def bA (cs:List Nat):Option Int:=
 if cs.head?=some 45 then (match aZ (cs.drop 1) with | some 0=>none | some (n+1)=>some (-((n+1:Nat):Int)) | none=>none) else (aZ cs).map Int.ofNat
def cA (cs:List Nat):Option (Int×Int):=
 match bC 47 cs with
 | [t]=>(bA t).map fun n=>(n,1)
 | [t,b]=>match bA t,aZ b with
  | some n,some d=>if 2≤d∧Nat.gcd n.natAbs d=1 then some (n,(d:Int)) else none
  | _,_=>none
 | _=>none
theorem uO (cs:List Nat) (c:Nat):digitsVal (cs++[c])=digitsVal cs*10+(c - 48):=by
 unfold digitsVal
 rw [List.foldl_append]
 rfl
theorem rE:∀(n:Nat) {cs:List Nat},cs.length=n→AllDigits cs→cs≠[]→(cs=[48]∨cs.head?≠some 48)→dg (digitsVal cs)=cs:=by
 intro n
 induction n with
 | zero=>intro cs h _ ne;exact absurd (List.eq_nil_of_length_eq_zero h) ne
 | succ n ih=>
  intro cs hl hd ne h0
  obtain ⟨a,c,rfl⟩:aX fun a c=>cs=a++[c]:=⟨cs.dropLast,cs.getLast ne,(List.dropLast_concat_getLast ne).symm⟩
  have hc:=hd c (by simp)
  have ha:AllDigits a:=fun d h=>hd d (List.mem_append_left _ h)
  rw [uO]
  by_cases ea:a=[]
  ·subst ea
   show dg (0*10+(c - 48))=[c]
   rw [gL (by trivial)]
   congr 1
   trivial
  ·have hh:a.head?≠some 48:=by
    rcases h0 with h | h
    ·have:=congrArg List.length h
     simp at this
     exact absurd this ea
    ·intro z
     apply h
     cases a with
     | nil=>exact absurd rfl ea
     | cons x r=>exact z
   have:=ih (cs:=a) (by simpa using hl) ha ea (.inr hh)
   have pos:0<digitsVal a:=by
    apply Nat.pos_of_ne_zero
    intro z
    rw [z] at this
    rw [←this] at hh
    exact hh (by rw [gL (by decide)];rfl)
   rw [kq (by trivial),show (digitsVal a*10+(c - 48)) / 10=digitsVal a by trivial,this]
   congr 2
   trivial
theorem fA {cs:List Nat} (h:cV cs=true):dg (digitsVal cs)=cs∧AllDigits cs∧cs≠[]∧cs.length≤40:=by
 unfold cV at h
 rw [Bool.and_eq_true,Bool.and_eq_true,Bool.and_eq_true] at h
 obtain ⟨⟨⟨h1,h2⟩,h3⟩,h4⟩:=h
 have ad:AllDigits cs:=fun c hc=>by
  have:=List.all_eq_true.mp h3 c hc
  unfold ci at this
  rw [Bool.and_eq_true] at this
  exact ⟨of_decide_eq_true this.1,of_decide_eq_true this.2⟩
 have ne:cs≠[]:=fun z=>by rw [z] at h1;cases h1
 refine ⟨rE _ rfl ad ne ?_,ad,ne,of_decide_eq_true h2⟩
 rw [Bool.or_eq_true] at h4
 rcases h4 with h | h
 ·exact .inl (eq_of_beq h)
 ·right
  intro z
  rw [z] at h
  cases h
theorem si (n:Nat):cV (dg n)=decide (n<10 ^ 40):=by
 have ne:=vL n
 have l1:1≤(dg n).length:=List.length_pos_iff.mpr ne
 have al:(dg n).all ci=true:=List.all_eq_true.mpr fun c hc=>by
  have:=mi n c hc
  unfold ci
  rw [decide_eq_true this.1,decide_eq_true this.2]
  rfl
 have hd:(dg n==[48] || !((dg n).head?==some 48))=true:=by
  by_cases h:n=0
  ·subst h;decide +kernel
  ·obtain ⟨c,r,e,hc⟩:=sL (n:=n) (by trivial)
   rw [e]
   show (_ || !(some c==some 48))=true
   have:(some c==some 48)=false:=by simpa using hc
   rw [this]
   simp
 unfold cV
 rw [decide_eq_true l1,al,hd]
 have:=eX (n:=n) (k:=40) (by decide)
 by_cases h:n<10 ^ 40
 ·rw [decide_eq_true h,decide_eq_true (this.mpr h)];rfl
 ·rw [decide_eq_false h,decide_eq_false (fun z=>h (this.mp z))];rfl
theorem kG (n:Nat):aZ (dg n)=if n<10 ^ 40 then some n else none:=by
 unfold aZ
 rw [si,vi]
 by_cases h:n<10 ^ 40
 ·rw [if_pos h,if_pos (decide_eq_true h)]
 ·rw [if_neg h,if_neg (by simpa using h)]
theorem kZ {cs:List Nat} (h:cV cs=true):cs=[48]↔digitsVal cs=0:=by
 constructor
 ·rintro rfl;rfl
 ·intro z
  rw [←(fA h).1,z]
  exact gL (by decide)
theorem my {cs:List Nat} (h:cV cs=true):cs=[49]↔digitsVal cs=1:=by
 constructor
 ·rintro rfl;rfl
 ·intro z
  rw [←(fA h).1,z]
  exact gL (by decide)
theorem pG {cs:List Nat} (h:cV cs=true):47∉cs:=fun z=>by
 have:=(fA h).2.1 47 z
 trivial
def cb (n:Int):List Nat:=if n<0 then 45 :: dg n.natAbs else dg n.natAbs
def eQ (n d:Int):List Nat:=if d=1 then cb n else cb n++47 :: dg d.natAbs
theorem lW {n c:Nat} (h:c<48):c∉dg n:=fun z=>by
 have:=mi n c z
 trivial
theorem nW (n:Int):47∉cb n:=by
 unfold cb
 by_cases h:n<0
 ·rw [if_pos h]
  intro z
  rcases List.mem_cons.mp z with z | z
  ·cases z
  ·exact lW (by decide) z
 ·rw [if_neg h]
  exact lW (by decide)
theorem ma (n:Int):bA (cb n)=if n.natAbs<10 ^ 40 then some n else none:=by
 unfold bA cb
 by_cases h:n<0
 ·rw [if_pos h,if_pos (show (45 :: dg n.natAbs).head?=some 45 from rfl)]
  show (match aZ (dg n.natAbs) with | some 0=>none | some (n+1)=>some (-((n+1:Nat):Int)) | none=>none)=_
  rw [kG]
  by_cases h2:n.natAbs<10 ^ 40
  ·rw [if_pos h2,if_pos h2]
   obtain ⟨k,e⟩:∃k,n.natAbs=k+1:=⟨n.natAbs - 1,by trivial⟩
   rw [e]
   show some (-((k+1:Nat):Int))=some n
   congr 1
   trivial
  ·rw [if_neg h2,if_neg h2]
 ·rw [if_neg h]
  have:¬(dg n.natAbs).head?=some 45:=fun z=>by
   cases e:dg n.natAbs with
   | nil=>rw [e] at z;cases z
   | cons x r=>
    rw [e] at z
    cases z
    exact lW (n:=n.natAbs) (c:=45) (by decide) (by rw [e];simp)
  rw [if_neg this,kG]
  by_cases h2:n.natAbs<10 ^ 40
  ·rw [if_pos h2,if_pos h2]
   show some ((n.natAbs:Nat):Int)=some n
   congr 1
   trivial
  ·rw [if_neg h2,if_neg h2];rfl
theorem nu {n d:Int} (hd:1≤d) (hg:Int.gcd n d=1):cA (eQ n d)=if n.natAbs<10 ^ 40∧d<10 ^ 40 then some (n,d) else none:=by
 unfold cA eQ
 by_cases h1:d=1
 ·subst h1
  rw [if_pos rfl,ft (nW n)]
  show (bA (cb n)).map (fun n=>(n,(1:Int)))=_
  rw [ma]
  by_cases h:n.natAbs<10 ^ 40
  ·rw [if_pos h,if_pos ⟨h,by decide⟩];rfl
  ·rw [if_neg h,if_neg (fun z=>h z.1)];rfl
 ·rw [if_neg h1,hJ (nW n),ft (lW (by decide))]
  show (match bA (cb n),aZ (dg d.natAbs) with | some n,some d=>if 2≤d∧Nat.gcd n.natAbs d=1 then some (n,(d:Int)) else none | _,_=>none)=_
  rw [ma,kG]
  by_cases h:n.natAbs<10 ^ 40
  ·by_cases h2:d<10 ^ 40
   ·rw [if_pos h,if_pos (show d.natAbs<10 ^ 40 by trivial),if_pos ⟨h,h2⟩]
    show (if 2≤d.natAbs∧Nat.gcd n.natAbs d.natAbs=1 then some (n,((d.natAbs:Nat):Int)) else none)=_
    rw [if_pos ⟨by trivial,hg⟩,show ((d.natAbs:Nat):Int)=d by trivial]
   ·rw [if_pos h,if_neg (show ¬d.natAbs<10 ^ 40 by trivial),if_neg (fun z=>h2 z.2)]
  ·rw [if_neg h,if_neg (c:=n.natAbs<10 ^ 40∧d<10 ^ 40) (fun z=>h z.1)]
theorem qL {cs:List Nat} (h:47∉cs):cA cs=(bA cs).map fun n=>(n,1):=by
 unfold cA
 rw [ft h]
theorem tE {a b:List Nat} (h:47∉a):cA (a++47 :: b)=match bA a,aZ b with
 | some n,some d=>if 2≤d∧Nat.gcd n.natAbs d=1 then some (n,(d:Int)) else none
 | _,_=>none:=by
 unfold cA
 rw [hJ h]
 by_cases hb:47∈b
 ·have nb:aZ b=none:=by
   unfold aZ
   rw [if_neg (fun z=>pG z hb)]
  have:i6 fun p q r=>bC 47 b=p :: q :: r:=by
   have:=j3 47 (bC 47 b) (i4 47 b)
   cases e:bC 47 b with
   | nil=>exact absurd e (i4 47 b)
   | cons p r=>
    cases r with
    | cons q r=>exact ⟨p,q,r,rfl⟩
    | nil=>
     exfalso
     obtain ⟨c,d,rfl,hc⟩:aX fun c d=>b=c++47 :: d∧47∉c:=by
      clear e this nb
      induction b with
      | nil=>cases hb
      | cons x xs ih=>
       by_cases hx:x=47
       ·exact ⟨[],xs,by rw [hx];rfl,by simp⟩
       ·have hm:47∈xs:=by
         rcases List.mem_cons.mp hb with z | z
         ·exact absurd z.symm hx
         ·exact z
        obtain ⟨c,d,e,hc⟩:=ih hm
        exact ⟨x :: c,d,by rw [e];rfl,fun z=>by
         rcases List.mem_cons.mp z with z | z
         ·exact hx z.symm
         ·exact hc z⟩
     rw [hJ hc] at e
     have:=i4 47 d
     simp at e
     exact this e.2
  obtain ⟨p,q,r,e⟩:=this
  rw [e,nb]
  cases bA a <;> rfl
 ·rw [ft hb]
end L2
namespace L2
open PySem PySem.Spec PyProof.Rows PySem.NumText
theorem pc {K:PySem.W.Frag}{a:Addr}{c:Bool}{xs:List V}{g:TG}{tb:TS}{D:c4}{σ:St}{H:Hp} (Pv:Nat→St→Hp→Prop) (h0:Pv 0 σ H) (hl:∀i σ H,i≤xs.length→Pv i σ H→f9 K H a xs c)
 (hs:∀i x T σ H,xs[i]?=some x→H T=none→Pv i σ H→g (.ref T) σ (aI H T (.tup [.int (i:Int),x])) fun σ2 H2=>tb { D with nx:=Pv (i+1),ct:=Pv (i+1),bk:=D.nx } σ2 H2) (hd:∀σ H,Pv xs.length σ H→D.nx σ H) :
 ∃W:Nat→Nat→St→Hp→Prop,(∃m,W 0 m σ H)∧∀i m σ H,W i m σ H→
  ((mB K a c).stop i H∧D.nx σ H)∨((mB K a c).go i H∧∃N:St→Hp→Prop,(∀σ' H',N σ' H'→∃m',m'<m∧W (i+1) m' σ' H')∧∀x H',(mB K a c).yld i H x H'→g x σ H' fun σ2 H2=>tb { D with nx:=N,ct:=N,bk:=D.nx } σ2 H2):=by
 refine ⟨fun i m σ H=>m=xs.length - i∧i≤xs.length∧Pv i σ H,⟨xs.length,by simp,Nat.zero_le _,h0⟩,?_⟩
 rintro i m σ H ⟨rfl,hi,p⟩
 have q1:=hl i σ H hi p
 by_cases hlt:i<xs.length
 ·refine .inr ⟨⟨xs,xs[i],q1,by simp [hlt]⟩,Pv (i+1),fun σ' H' p'=>⟨xs.length - (i+1),by trivial,rfl,hlt,p'⟩,fun x H' y=>?_⟩
  obtain ⟨T,u,hT,rfl,rfl,e1⟩:=y
  exact hs i u T σ H (e1 xs q1) hT p
 ·have e:i=xs.length:=by trivial
  subst e
  exact .inl ⟨⟨xs,q1,rfl⟩,hd _ _ p⟩
theorem qk (c:Nat) (cs:List Nat):Txt.startswith (S cs) (S [c])=(cs.head?==some c):=by
 unfold Txt.startswith
 rw [StrLaws.subAt_eq,aY,aY,mw,mw,List.drop_zero]
 cases cs with
 | nil=>rfl
 | cons x r=>
  have:decide (0+[c].length≤(x :: r).length)=true:=decide_eq_true (by simp)
  rw [this]
  show ([x]==[c])=(some x==some c)
  by_cases h:x=c
  ·subst h;simp
  ·simp [h]
def gg (cs t sl b:List Nat):Prop:=t.length≤cs.length∧b.length≤cs.length∧((sl=[]∧cA cs=(bA t).map fun n=>(n,1))∨(sl=[47]∧cA cs=match bA t,aZ b with
 | some n,some d=>if 2≤d∧Nat.gcd n.natAbs d=1 then some (n,(d:Int)) else none
 | _,_=>none))
theorem uT (cs:List Nat):i6 fun t sl b=>Txt.partition (S cs) (S [47])=(S t,S sl,S b)∧gg cs t sl b:=by
 rcases jN 47 cs with ⟨h,e⟩ | ⟨a,b,rfl,h,e⟩
 ·exact ⟨cs,[],[],e,Nat.le_refl _,Nat.zero_le _,.inl ⟨rfl,qL h⟩⟩
 ·exact ⟨a,[47],b,e,by simp,by simp;trivial,.inr ⟨rfl,tE h⟩⟩
def pA (H H':Hp):Option (Int×Int)→V→Prop
 | some p,v=>∃a,v=.ref a∧H a=none∧H' a=some (.tup [.int p.1,.int p.2])
 | none,v=>v=.non
def oR:Bool→Option Nat→Option Int
 | false,some n=>some (n:Int)
 | true,some (n+1)=>some (-((n+1:Nat):Int))
 | _,_=>none
theorem pU (t:List Nat) {bl:Bool} (h:(t.head?==some 45)=bl):bA t=oR bl (aZ (if bl=true then t.drop 1 else t)):=by
 unfold bA
 cases bl with
 | true=>
  have h':t.head?=some 45:=eq_of_beq h
  rw [if_pos h',if_pos rfl]
  cases aZ (t.drop 1) with
  | none=>rfl
  | some n=>
   cases n with
   | zero=>rfl
   | succ n=>rfl
 | false=>
  have h':¬t.head?=some 45:=fun z=>by rw [z] at h;exact absurd h (by decide)
  rw [if_neg h',if_neg Bool.false_ne_true]
  cases aZ t with
  | none=>rfl
  | some n=>rfl
theorem gg.no {cs t sl b:List Nat} (h:gg cs t sl b) (z:bA t=none):cA cs=none:=by
 obtain ⟨_,_,⟨_,e⟩ | ⟨_,e⟩⟩:=h
 ·rw [e,z];rfl
 ·rw [e,z]
theorem gg.bare {cs t b:List Nat}{n:Int} (h:gg cs t [] b) (z:bA t=some n):cA cs=some (n,1):=by
 obtain ⟨_,_,⟨_,e⟩ | ⟨e,_⟩⟩:=h
 ·rw [e,z];rfl
 ·cases e
theorem gg.over {cs t b:List Nat}{n:Int} (h:gg cs t [47] b) (z:bA t=some n):cA cs=match aZ b with
 | some d=>if 2≤d∧Nat.gcd n.natAbs d=1 then some (n,(d:Int)) else none
 | none=>none:=by
 obtain ⟨_,_,⟨e,_⟩ | ⟨_,e⟩⟩:=h
 ·cases e
 ·rw [e,z]
  cases aZ b <;> rfl
theorem gg.sl {cs t sl b:List Nat} (h:gg cs t sl b):sl=[]∨sl=[47]:=by
 obtain ⟨_,_,⟨e,_⟩ | ⟨e,_⟩⟩:=h
 ·exact .inl e
 ·exact .inr e
theorem nI {cs:List Nat} (h:cV cs=true):aZ cs=some (digitsVal cs):=by unfold aZ;rw [if_pos h]
theorem og {cs:List Nat} (h:cV cs=false):aZ cs=none:=by unfold aZ;rw [h];rfl
theorem mr {ta tb:TT}{σ:St}{H:Hp}{R:Bool→Hp→Prop} (x y:Bool) (h1:∀R':Bool→Hp→Prop,R' x H→ta σ H R') (h2:∀R':Bool→Hp→Prop,R' y H→tb σ H R') (r:R (x && y) H):ug ta tb σ H R:=by
 refine h1 _ ?_
 cases x with
 | true=>exact ai (h2 _ r)
 | false=>exact aq r
theorem cX (i j:Int):decide (V.int i=V.int j)=decide (i=j):=decide_eq_decide.mpr ⟨fun z=>by injection z,fun z=>by rw [z]⟩
theorem hG {c:Nat}:∀{cs:List Nat}{p:List Nat},p∈bC c cs→p.length≤cs.length∧∀x∈p,x∈cs
 | [],p,h=>by
  have:p=[]:=by simpa [bC] using h
  subst this
  exact ⟨Nat.le_refl _,fun _ z=>z⟩
 | y :: ys,p,h=>by
  unfold bC at h
  by_cases e:y=c
  ·rw [if_pos e] at h
   rcases List.mem_cons.mp h with rfl | h
   ·exact ⟨Nat.zero_le _,fun _ z=>nomatch z⟩
   ·have:=hG h
    exact ⟨by have:=this.1;simp;trivial,fun x hx=>List.mem_cons_of_mem _ (this.2 x hx)⟩
  ·rw [if_neg e] at h
   cases es:bC c ys with
   | nil=>exact absurd es (i4 c ys)
   | cons q qs=>
    rw [es] at h
    rcases List.mem_cons.mp h with rfl | h
    ·have:=hG (show q∈bC c ys by rw [es];simp)
     exact ⟨by have:=this.1;simp;trivial,fun x hx=>by
      rcases List.mem_cons.mp hx with rfl | hx
      ·simp
      ·exact List.mem_cons_of_mem _ (this.2 x hx)⟩
    ·have:=hG (show p∈bC c ys by rw [es];exact List.mem_cons_of_mem _ h)
     exact ⟨by have:=this.1;simp;trivial,fun x hx=>List.mem_cons_of_mem _ (this.2 x hx)⟩
theorem o0 (a:List Nat) (c:Nat):(a.take 1==[c])=(a.head?==some c):=by
 cases a with
 | nil=>rfl
 | cons x r=>
  show ([x]==[c])=(some x==some c)
  by_cases h:x=c
  ·subst h;simp
  ·simp [h]
theorem rY {cs a:List Nat} (h:bC 47 cs=[a]):cA cs=(bA a).map fun n=>(n,1):=by unfold cA;rw [h]
theorem rN {cs a b:List Nat} (h:bC 47 cs=[a,b]):cA cs=match bA a,aZ b with
 | some n,some d=>if 2≤d∧Nat.gcd n.natAbs d=1 then some (n,(d:Int)) else none
 | _,_=>none:=by
 unfold cA
 rw [h]
 all_goals (show (match bA a,aZ b with | some n,some d=>if 2≤d∧Nat.gcd n.natAbs d=1 then some (n,(d:Int)) else none | _,_=>none)=_;cases bA a <;> cases aZ b <;> rfl)
theorem vJ {cs a b c:List Nat}{r:List (List Nat)} (h:bC 47 cs=a :: b :: c :: r):cA cs=none:=by unfold cA;rw [h]
theorem lU {ta tb:TT}{σ:St}{H:Hp}{R:Bool→Hp→Prop} (x y:Bool) (h1:∀R':Bool→Hp→Prop,R' x H→ta σ H R') (h2:x=false→∀R':Bool→Hp→Prop,R' y H→tb σ H R') (r:R (x || y) H):w5 ta tb σ H R:=by
 refine h1 _ ?_
 cases x with
 | true=>exact ai r
 | false=>exact aq (h2 rfl _ r)
end L2
set_option maxHeartbeats 4000000
open L2
local macro_rules | `(#[$n:num,$i:ident])=>`(@pw _ $n _ _ (Or.inl $i) (by rfl) (by decide) (by decide)) | `(#[$n:num,($i:ident)])=>`(@pw _ $n _ _ (Or.inr (Or.inl $i)) (by rfl) (by decide) (by decide))
local macro_rules | `(#[$n:num,()])=>`(@pw _ $n _ _ (Or.inl (by kernel_rfl)) (by rfl) (by decide) (by decide)) | `(#[$n:num,0])=>`(@pw _ $n _ _ (Or.inr (Or.inl (by kernel_rfl))) (by rfl) (by decide) (by decide)) | `(#[$n:num,1])=>`(@pw _ $n _ _ (Or.inr (Or.inr (by kernel_rfl))) (by rfl) (by decide) (by decide))
local macro_rules | `(#[()])=>`(@aS _ _ _ _) | `(#[(),()])=>`(@fL _ _ (by decide) (by decide))
local macro_rules | `(#[[$a]])=>`(@ur _ _ _ _ _ $a (@b4 _) rfl) | `(#[[$a,$b,*]])=>`(@ur _ _ _ _ _ $a #[[$b,*]] rfl)
local macro_rules | `(#[$a[$b]])=>`(@dE _ _ _ _ _ _ _ (@wE _ ($(Lean.mkIdent `K)) (by rfl)) $a $b (fun _ _=>rfl)) | `(#[$a[$b]!])=>`(@dE _ _ _ _ _ _ _ (@wI _ ($(Lean.mkIdent `K)) (by rfl)) $a $b (fun _ _=>rfl))
local macro_rules | `(#[$g:ident,$k:ident,$t:term,$a:term])=>`(@gl _ _ _ _ _ _ _ _ _ _ _ _ _ _ _ _ $g ($(Lean.mkIdent `hr).mono (by decide)) $k ($t).m ($t).F.kp ($t).B .nil (@jm _) $a (by decide) (by rfl) (by rfl))
local macro_rules | `(#[$g:ident,(),$t:term,$a:term])=>`(@gl _ _ _ _ _ _ _ _ _ _ _ _ _ _ _ _ $g ($(Lean.mkIdent `hr).mono (by decide)) (by show _=_;kernel_rfl) ($t).m ($t).F.kp ($t).B .nil (@jm _) $a (by decide) (by rfl) (by rfl))
local macro_rules | `(#[$n:num,$s:term,$i:ident,$v:term])=>`(@kg _ _ ($n) _ _ _ _ $s rfl (Or.inl $i) $v (by rfl) (by first | exact .inl rfl | exact .inr rfl | assumption))
local macro_rules | `(#[$n:num,$s:term,$i:ident])=>`(@ic _ _ ($n) _ $s rfl (Or.inl $i) (by first | exact .inl rfl | exact .inr rfl | assumption)) | `(#[$n:num,(),()])=>`(@ic _ _ ($n) _ (@pL _ (by kernel_rfl)) rfl (Or.inl (by kernel_rfl)) (by first | exact .inl rfl | exact .inr rfl | assumption))
local macro_rules | `(#[(),(),$a,$b,$c,$d,$e])=>`(@cP _ _ _ _ _ _ _ _ _ $a $b $c $d $e (by decide) (by decide) (by rfl) (by rfl))
local macro_rules | `(#[$a :: $b])=>`(@cw _ _ _ _ _ $a $b)
local macro_rules | `(#[$f:ident $n:num $a*])=>do
 let us ←(Array.range n.getNat).mapM fun _=>`(_)
 `(@$f $us* $a*)
local macro_rules | `(#[($f:ident)])=>`($f ($(Lean.mkIdent `P):ident:=$(Lean.mkIdent `P)) ($(Lean.mkIdent `w):ident:=$(Lean.mkIdent `w)) ($(Lean.mkIdent `base):ident:=$(Lean.mkIdent `base)) $(Lean.mkIdent `T))
namespace K65
open PySem L2
def b6 (i:Nat):Stmt:=PySem.Challenge.pw_gainroads_k65_fractions_as_texts.main.body.getD i (.Pass ⟨0,0,0,0⟩)
abbrev gR:Stmt:=b6 17
abbrev d9:Stmt:=b6 18
abbrev fU:Stmt:=b6 19
abbrev gy:Stmt:=b6 20
abbrev f8:Stmt:=b6 21
abbrev lC:Stmt:=b6 23
abbrev mO:Stmt:=b6 24
abbrev bY:Stmt:=b6 26
abbrev bu:Stmt:=b6 27
abbrev b8:Stmt:=b6 28
abbrev ay:Stmt:=b6 29
abbrev bK:Stmt:=b6 30
abbrev g9:Stmt:=b6 31
abbrev j6:Stmt:=b6 32
abbrev ix:Stmt:=b6 33
abbrev kw:Stmt:=b6 35
abbrev j4:Stmt:=b6 36
abbrev bW:Stmt:=b6 37
abbrev dA:Stmt:=b6 38
abbrev dQ:Stmt:=b6 39
abbrev b9:Stmt:=b6 40
abbrev bx:Stmt:=b6 41
abbrev aj:Stmt:=b6 42
abbrev bM:Stmt:=b6 43
abbrev aN:Stmt:=b6 44
abbrev aK:Stmt:=b6 45
abbrev b3:Stmt:=b6 46
abbrev bc:Stmt:=b6 47
abbrev gI:Stmt:=jt (b6 10) 0
abbrev f6:Stmt:=jt (b6 11) 0
abbrev iI:Stmt:=jt (b6 12) 0
abbrev gK:Stmt:=jt (b6 13) 0
abbrev gX:Stmt:=jt (b6 14) 0
abbrev gz:Stmt:=jt (b6 15) 0
theorem mH:aQ ["thing"] ["thing"] (ax gR):=⟨rfl,rfl,rfl,by nofun,rfl,by nofun,by nofun⟩
theorem gc:aQ ["n", "d"] ["n", "d"] (ax d9):=⟨rfl,rfl,rfl,by nofun,rfl,by nofun,by nofun⟩
theorem fm:aQ ["thing", "n", "d"] ["thing"] (ax fU):=⟨rfl,rfl,rfl,by nofun,rfl,by nofun,by nofun⟩
theorem dY:aQ ["number", "pieces", "piece"] ["number"] (ax bY):=⟨rfl,rfl,rfl,by nofun,rfl,by nofun,by nofun⟩
theorem d8:aQ ["one", "sign", "whole"] ["one"] (ax bu):=⟨rfl,rfl,rfl,by nofun,rfl,by nofun,by nofun⟩
theorem kR:aQ ["text", "most"] ["text", "most"] (ax b8):=⟨rfl,rfl,rfl,by nofun,rfl,by nofun,by nofun⟩
theorem aV:aQ ["text", "top", "slash", "bottom", "below", "figures", "n", "one"] ["text"] (ax ay):=⟨rfl,rfl,rfl,by nofun,rfl,by nofun,by nofun⟩
theorem gx:aQ ["text", "one"] ["text"] (ax bK):=⟨rfl,rfl,rfl,by nofun,rfl,by nofun,by nofun⟩
theorem nk:aQ ["text", "places", "ties", "at", "row", "words", "tie"] ["text"] (ax ix):=⟨rfl,rfl,rfl,by nofun,rfl,by nofun,by nofun⟩
theorem j1:aQ ["_law_script", "_law_k", "_law_cell"] ["_law_script", "_law_k"] (ax kw):=⟨rfl,rfl,rfl,by nofun,rfl,by nofun,by nofun⟩
theorem iY:aQ ["_law_box_here", "_law_many", "_law_found", "_law_once"] ["_law_box_here", "_law_many"] (ax j4):=⟨rfl,rfl,rfl,by nofun,rfl,by nofun,by nofun⟩
theorem fF:aQ ["_law_script", "_law_many", "_law_cells", "_law_k", "_law_cell"] ["_law_script", "_law_many"] (ax bW):=⟨rfl,rfl,rfl,by nofun,rfl,by nofun,by nofun⟩
theorem gH:aQ ["_law_n", "_law_d", "_law_one", "_law_other"] ["_law_n", "_law_d"] (ax dA):=⟨rfl,rfl,rfl,by nofun,rfl,by nofun,by nofun⟩
theorem mQ:aQ ["_law_one"] ["_law_one"] (ax dQ):=⟨rfl,rfl,rfl,by nofun,rfl,by nofun,by nofun⟩
theorem kT:aQ ["_law_text"] ["_law_text"] (ax b9):=⟨rfl,rfl,rfl,by nofun,rfl,by nofun,by nofun⟩
theorem dX:aQ ["_law_text", "_law_parts", "_law_below", "_law_n", "_law_d"] ["_law_text"] (ax bx):=⟨rfl,rfl,rfl,by nofun,rfl,by nofun,by nofun⟩
theorem bN:aQ ["_law_which", "_law_thing", "_law_found", "_law_caught", "error", "_law_others", "_law_kinds"] ["_law_which", "_law_thing"] (ax aj):=⟨rfl,rfl,rfl,by nofun,rfl,by nofun,by nofun⟩
theorem lz:aQ ["_law_found", "_law_due"] ["_law_found", "_law_due"] (ax bM):=⟨rfl,rfl,rfl,by nofun,rfl,by nofun,by nofun⟩
theorem cU:aQ ["_law_box_here", "_law_way", "_law_high", "_law_low", "_law_figures"] ["_law_box_here"] (ax aN):=⟨rfl,rfl,rfl,by nofun,rfl,by nofun,by nofun⟩
theorem cr:aQ ["_law_box_here", "_law_text", "_law_way", "_law_at", "_law_sign", "_law_top", "_law_stroke", "_law_bottom"] ["_law_box_here", "_law_text"] (ax aK):=⟨rfl,rfl,rfl,by nofun,rfl,by nofun,by nofun⟩
theorem km:aQ ["_law_one", "_law_text"] ["_law_one"] (ax b3):=⟨rfl,rfl,rfl,by nofun,rfl,by nofun,by nofun⟩
theorem cF:aQ ["_law_script", "_law_cells", "_law_k", "_law_box_here", "_law_turn", "_law_one", "_law_great", "_law_text", "_law_texts", "_law_again", "_law_bent", "_law_due"] ["_law_script"] (ax bc):=⟨rfl,rfl,rfl,by nofun,rfl,by nofun,by nofun⟩
end K65
namespace K65
open PySem L2
set_option genInjectivity false in
set_option genSizeOf false in
structure Df (K:PySem.W.Frag) (mg:Str→Option Value) (x:Str) (st:Stmt) (ps:List Str) where
 f:Addr
 d:FuncData
 m:mg x=some (.ref f)
 F:gw K x x st f d
 B:dI K d ps []
set_option genInjectivity false in
set_option genSizeOf false in
structure Txt (K:PySem.W.Frag) (mg:Str→Option Value) where
 b_ValueError:mg "ValueError" = none
 b_abs:mg "abs" = none
 b_all:mg "all" = none
 b_bool:mg "bool" = none
 b_divmod:mg "divmod" = none
 b_enumerate:mg "enumerate" = none
 b_int:mg "int" = none
 b_isinstance:mg "isinstance" = none
 b_len:mg "len" = none
 b_list:mg "list" = none
 b_max:mg "max" = none
 b_range:mg "range" = none
 b_str:mg "str" = none
 b_tuple:mg "tuple" = none
 b_zip:mg "zip" = none
 is_number_:Df K mg "is_number" gR ["thing"]
 common_divisor_:Df K mg "common_divisor" d9 ["n", "d"]
 is_fraction_:Df K mg "is_fraction" fU ["thing"]
 is_from_nought_:Df K mg "is_from_nought" gy ["thing"]
 is_above_nought_:Df K mg "is_above_nought" f8 ["thing"]
 is_name_:Df K mg "is_name" lC ["thing"]
 is_tie_:Df K mg "is_tie" mO ["places", "thing"]
 figures_of_:Df K mg "figures_of" bY ["number"]
 fraction_text_:Df K mg "fraction_text" bu ["one"]
 are_figures_:Df K mg "are_figures" b8 ["text", "most"]
 fraction_or_none_:Df K mg "fraction_or_none" ay ["text"]
 fraction_from_:Df K mg "fraction_from" bK ["text"]
 is_place_row_:Df K mg "is_place_row" g9 ["words"]
 tie_from_:Df K mg "tie_from" j6 ["words"]
 net_from_:Df K mg "net_from" ix ["text"]
 l_box_:Df K mg "_law_box" kw ["_law_script", "_law_k"]
 l_take_:Df K mg "_law_take" j4 ["_law_box_here", "_law_many"]
 l_folded_:Df K mg "_law_folded" bW ["_law_script", "_law_many"]
 l_frac_:Df K mg "_law_frac" dA ["_law_n", "_law_d"]
 l_word_of_:Df K mg "_law_word_of" dQ ["_law_one"]
 l_number_of_:Df K mg "_law_number_of" b9 ["_law_text"]
 l_one_in_:Df K mg "_law_one_in" bx ["_law_text"]
 l_all_told_:Df K mg "_law_all_told" aj ["_law_which", "_law_thing"]
 l_same_:Df K mg "_law_same" bM ["_law_found", "_law_due"]
 l_any_fraction_:Df K mg "_law_any_fraction" aN ["_law_box_here"]
 l_bent_text_:Df K mg "_law_bent_text" aK ["_law_box_here", "_law_text"]
 l_right_:Df K mg "_law_right" b3 ["_law_one"]
 law_:Df K mg "law" bc ["_law_script"]
 f_Gaining__init:Addr
 d_Gaining__init:FuncData
 F_Gaining__init:gw K "__init__" "Gaining.__init__" gI f_Gaining__init d_Gaining__init
 B_Gaining__init:dI K d_Gaining__init ["self", "ties"] []
 f_NotSoMuch__init:Addr
 d_NotSoMuch__init:FuncData
 F_NotSoMuch__init:gw K "__init__" "NotSoMuch.__init__" f6 f_NotSoMuch__init d_NotSoMuch__init
 B_NotSoMuch__init:dI K d_NotSoMuch__init ["self", "most"] []
 f_Short__init:Addr
 d_Short__init:FuncData
 F_Short__init:gw K "__init__" "Short.__init__" iI f_Short__init d_Short__init
 B_Short__init:dI K d_Short__init ["self", "share"] []
 f_Lacking__init:Addr
 d_Lacking__init:FuncData
 F_Lacking__init:gw K "__init__" "Lacking.__init__" gK f_Lacking__init d_Lacking__init
 B_Lacking__init:dI K d_Lacking__init ["self", "place"] []
 f_BadRow__init:Addr
 d_BadRow__init:FuncData
 F_BadRow__init:gw K "__init__" "BadRow.__init__" gX f_BadRow__init d_BadRow__init
 B_BadRow__init:dI K d_BadRow__init ["self", "row"] []
 f_BadSheet__init:Addr
 d_BadSheet__init:FuncData
 F_BadSheet__init:gw K "__init__" "BadSheet.__init__" gz f_BadSheet__init d_BadSheet__init
 B_BadSheet__init:dI K d_BadSheet__init ["self", "row"] []
 x_GainError:Addr
 m_GainError:mg "GainError" = some (.ref x_GainError)
 k_GainError:PySem.W.keepIn K (.ref x_GainError)=true
 xb_GainError:ul K x_GainError=true
 x_BadNumber:Addr
 m_BadNumber:mg "BadNumber" = some (.ref x_BadNumber)
 k_BadNumber:PySem.W.keepIn K (.ref x_BadNumber)=true
 q_BadNumber:bt K x_BadNumber (none)=true
 x_Taken:Addr
 m_Taken:mg "Taken" = some (.ref x_Taken)
 k_Taken:PySem.W.keepIn K (.ref x_Taken)=true
 q_Taken:bt K x_Taken (none)=true
 x_NoPlace:Addr
 m_NoPlace:mg "NoPlace" = some (.ref x_NoPlace)
 k_NoPlace:PySem.W.keepIn K (.ref x_NoPlace)=true
 q_NoPlace:bt K x_NoPlace (none)=true
 x_NoTie:Addr
 m_NoTie:mg "NoTie" = some (.ref x_NoTie)
 k_NoTie:PySem.W.keepIn K (.ref x_NoTie)=true
 q_NoTie:bt K x_NoTie (none)=true
 x_AsItIs:Addr
 m_AsItIs:mg "AsItIs" = some (.ref x_AsItIs)
 k_AsItIs:PySem.W.keepIn K (.ref x_AsItIs)=true
 q_AsItIs:bt K x_AsItIs (none)=true
 x_NoEnds:Addr
 m_NoEnds:mg "NoEnds" = some (.ref x_NoEnds)
 k_NoEnds:PySem.W.keepIn K (.ref x_NoEnds)=true
 q_NoEnds:bt K x_NoEnds (none)=true
 x_Over:Addr
 m_Over:mg "Over" = some (.ref x_Over)
 k_Over:PySem.W.keepIn K (.ref x_Over)=true
 q_Over:bt K x_Over (none)=true
 x_TooMuch:Addr
 m_TooMuch:mg "TooMuch" = some (.ref x_TooMuch)
 k_TooMuch:PySem.W.keepIn K (.ref x_TooMuch)=true
 q_TooMuch:bt K x_TooMuch (none)=true
 x_Gaining:Addr
 m_Gaining:mg "Gaining" = some (.ref x_Gaining)
 k_Gaining:PySem.W.keepIn K (.ref x_Gaining)=true
 fn_Gaining:PySem.W.isFn K (.ref f_Gaining__init)=true
 st_Gaining:fT K x_Gaining "ties" = true
 fd_Gaining:eM K x_Gaining "ties" = true
 q_Gaining:bt K x_Gaining (some (.ref f_Gaining__init))=true
 x_NotSoMuch:Addr
 m_NotSoMuch:mg "NotSoMuch" = some (.ref x_NotSoMuch)
 k_NotSoMuch:PySem.W.keepIn K (.ref x_NotSoMuch)=true
 fn_NotSoMuch:PySem.W.isFn K (.ref f_NotSoMuch__init)=true
 st_NotSoMuch:fT K x_NotSoMuch "most" = true
 fd_NotSoMuch:eM K x_NotSoMuch "most" = true
 q_NotSoMuch:bt K x_NotSoMuch (some (.ref f_NotSoMuch__init))=true
 x_Short:Addr
 m_Short:mg "Short" = some (.ref x_Short)
 k_Short:PySem.W.keepIn K (.ref x_Short)=true
 fn_Short:PySem.W.isFn K (.ref f_Short__init)=true
 st_Short:fT K x_Short "share" = true
 fd_Short:eM K x_Short "share" = true
 q_Short:bt K x_Short (some (.ref f_Short__init))=true
 x_Lacking:Addr
 m_Lacking:mg "Lacking" = some (.ref x_Lacking)
 k_Lacking:PySem.W.keepIn K (.ref x_Lacking)=true
 fn_Lacking:PySem.W.isFn K (.ref f_Lacking__init)=true
 st_Lacking:fT K x_Lacking "place" = true
 fd_Lacking:eM K x_Lacking "place" = true
 q_Lacking:bt K x_Lacking (some (.ref f_Lacking__init))=true
 x_BadRow:Addr
 m_BadRow:mg "BadRow" = some (.ref x_BadRow)
 k_BadRow:PySem.W.keepIn K (.ref x_BadRow)=true
 fn_BadRow:PySem.W.isFn K (.ref f_BadRow__init)=true
 st_BadRow:fT K x_BadRow "row" = true
 fd_BadRow:eM K x_BadRow "row" = true
 q_BadRow:bt K x_BadRow (some (.ref f_BadRow__init))=true
 x_BadSheet:Addr
 m_BadSheet:mg "BadSheet" = some (.ref x_BadSheet)
 k_BadSheet:PySem.W.keepIn K (.ref x_BadSheet)=true
 fn_BadSheet:PySem.W.isFn K (.ref f_BadSheet__init)=true
 st_BadSheet:fT K x_BadSheet "row" = true
 fd_BadSheet:eM K x_BadSheet "row" = true
 q_BadSheet:bt K x_BadSheet (some (.ref f_BadSheet__init))=true
 em_BadNumber_GainError:PySem.W.exmOne K (.ref x_BadNumber) (.ref x_GainError)=some true
 kin:iA K [x_BadNumber,x_Taken,x_NoPlace,x_NoTie,x_AsItIs,x_NoEnds,x_Over,x_TooMuch,x_Gaining,x_NotSoMuch,x_Short,x_Lacking,x_BadRow,x_BadSheet] x_GainError=true
end K65
namespace K65
open PySem L2
abbrev av (s:Stmt) (x:Str):Prop:=(ax s).names.lookup x=some NameKind.local
abbrev ar (s:Stmt) (x:Str):Prop:=(ax s).names.lookup x=some NameKind.globalImplicit
theorem cx:av bY "number" := by nofun
theorem di:av bY "pieces" := by nofun
theorem iV:av bY "piece" := by nofun
theorem iK:ar bY "divmod" := by nofun
theorem j2:ar bY "str" := by nofun
theorem cy:av bu "one" := by nofun
theorem eU:av bu "sign" := by nofun
theorem cW:av bu "whole" := by nofun
theorem dc:ar bu "figures_of" := by nofun
theorem iP:ar bu "abs" := by nofun
theorem cJ:av b8 "text" := by nofun
theorem i7:av b8 "most" := by nofun
theorem jJ:ar b8 "len" := by nofun
theorem jz:ar b8 "all" := by nofun
theorem gF:av ay "text" := by nofun
theorem bX:av ay "top" := by nofun
theorem dz:av ay "slash" := by nofun
theorem bF:av ay "bottom" := by nofun
theorem bL:av ay "below" := by nofun
theorem bd:av ay "figures" := by nofun
theorem da:av ay "n" := by nofun
theorem cN:av ay "one" := by nofun
theorem cI:ar ay "are_figures" := by nofun
theorem cQ:ar ay "int" := by nofun
theorem eV:ar ay "is_fraction" := by nofun
theorem il:av bK "text" := by nofun
theorem dk:av bK "one" := by nofun
theorem d6:ar bK "fraction_or_none" := by nofun
theorem gk:ar bK "BadNumber" := by nofun
theorem fi:av bW "_law_script" := by nofun
theorem cT:av bW "_law_many" := by nofun
theorem cH:av bW "_law_cells" := by nofun
theorem dH:av bW "_law_k" := by nofun
theorem gb:av bW "_law_cell" := by nofun
theorem kh:ar bW "list" := by nofun
theorem ij:ar bW "enumerate" := by nofun
theorem jb:av dA "_law_n" := by nofun
theorem gr:av dA "_law_d" := by nofun
theorem bP:av dA "_law_one" := by nofun
theorem cu:av dA "_law_other" := by nofun
theorem jl:ar dA "abs" := by nofun
theorem cR:av dQ "_law_one" := by nofun
theorem eZ:ar dQ "str" := by nofun
theorem bH:av b9 "_law_text" := by nofun
theorem jB:ar b9 "len" := by nofun
theorem jA:ar b9 "all" := by nofun
theorem jH:ar b9 "int" := by nofun
theorem jF:av bx "_law_text" := by nofun
theorem bp:av bx "_law_parts" := by nofun
theorem cD:av bx "_law_below" := by nofun
theorem bU:av bx "_law_n" := by nofun
theorem bQ:av bx "_law_d" := by nofun
theorem dU:ar bx "_law_number_of" := by nofun
theorem kB:ar bx "int" := by nofun
theorem fB:ar bx "len" := by nofun
theorem jC:ar bx "_law_frac" := by nofun
theorem iz:av aj "_law_which" := by nofun
theorem fb:av aj "_law_thing" := by nofun
theorem c6:av aj "_law_found" := by nofun
theorem aH:av aj "_law_caught" := by nofun
theorem fJ:av aj "error" := by nofun
theorem eH:av aj "_law_others" := by nofun
theorem c9:av aj "_law_kinds" := by nofun
theorem fV:ar aj "fraction_from" := by nofun
theorem ie:ar aj "net_from" := by nofun
theorem gQ:ar aj "GainError" := by nofun
theorem br:ar aj "isinstance" := by nofun
theorem je:ar aj "Taken" := by nofun
theorem iu:ar aj "NoPlace" := by nofun
theorem jk:ar aj "NoTie" := by nofun
theorem iM:ar aj "AsItIs" := by nofun
theorem iJ:ar aj "NoEnds" := by nofun
theorem jD:ar aj "Over" := by nofun
theorem iw:ar aj "TooMuch" := by nofun
theorem iF:ar aj "Gaining" := by nofun
theorem gW:ar aj "NotSoMuch" := by nofun
theorem i0:ar aj "Short" := by nofun
theorem ip:ar aj "Lacking" := by nofun
theorem g6:ar aj "BadSheet" := by nofun
theorem gG:ar aj "ValueError" := by nofun
theorem gU:ar aj "BadNumber" := by nofun
theorem iQ:ar aj "BadRow" := by nofun
theorem aL:av bM "_law_found" := by nofun
theorem aR:av bM "_law_due" := by nofun
theorem aB:ar bM "isinstance" := by nofun
theorem fY:ar bM "list" := by nofun
theorem fj:ar bM "tuple" := by nofun
theorem jh:ar bM "len" := by nofun
theorem mt:ar bM "all" := by nofun
theorem mI:ar bM "zip" := by nofun
theorem gB:ar bM "str" := by nofun
theorem fX:ar bM "bool" := by nofun
theorem mL:ar bM "int" := by nofun
theorem az:av aN "_law_box_here" := by nofun
theorem be:av aN "_law_way" := by nofun
theorem dM:av aN "_law_high" := by nofun
theorem dS:av aN "_law_low" := by nofun
theorem df:av aN "_law_figures" := by nofun
theorem aE:ar aN "_law_take" := by nofun
theorem cB:ar aN "_law_frac" := by nofun
theorem iD:ar aN "int" := by nofun
theorem bo:av aK "_law_box_here" := by nofun
theorem aJ:av aK "_law_text" := by nofun
theorem aP:av aK "_law_way" := by nofun
theorem bj:av aK "_law_at" := by nofun
theorem db:av aK "_law_sign" := by nofun
theorem dm:av aK "_law_top" := by nofun
theorem cO:av aK "_law_stroke" := by nofun
theorem cL:av aK "_law_bottom" := by nofun
theorem bI:ar aK "_law_take" := by nofun
theorem jI:ar aK "len" := by nofun
theorem jE:ar aK "int" := by nofun
theorem eT:av b3 "_law_one" := by nofun
theorem c7:av b3 "_law_text" := by nofun
theorem gE:ar b3 "fraction_text" := by nofun
theorem im:ar b3 "isinstance" := by nofun
theorem lO:ar b3 "str" := by nofun
theorem iN:ar b3 "_law_word_of" := by nofun
theorem jO:ar b3 "_law_same" := by nofun
theorem iq:ar b3 "_law_all_told" := by nofun
theorem kI:av bc "_law_script" := by nofun
theorem fW:av bc "_law_cells" := by nofun
theorem lD:av bc "_law_k" := by nofun
theorem bS:av bc "_law_box_here" := by nofun
theorem ji:av bc "_law_turn" := by nofun
theorem gO:av bc "_law_one" := by nofun
theorem d5:av bc "_law_great" := by nofun
theorem c5:av bc "_law_text" := by nofun
theorem dZ:av bc "_law_texts" := by nofun
theorem lP:av bc "_law_again" := by nofun
theorem dC:av bc "_law_bent" := by nofun
theorem gP:av bc "_law_due" := by nofun
theorem kQ:ar bc "_law_folded" := by nofun
theorem gS:ar bc "range" := by nofun
theorem lB:ar bc "max" := by nofun
theorem qi:ar bc "len" := by nofun
theorem nj:ar bc "_law_box" := by nofun
theorem iy:ar bc "_law_any_fraction" := by nofun
theorem lL:ar bc "_law_right" := by nofun
theorem mm:ar bc "_law_frac" := by nofun
theorem jd:ar bc "_law_take" := by nofun
theorem gJ:ar bc "_law_word_of" := by nofun
theorem iO:ar bc "fraction_text" := by nofun
theorem gp:ar bc "_law_all_told" := by nofun
theorem gf:ar bc "_law_bent_text" := by nofun
theorem kL:ar bc "_law_one_in" := by nofun
theorem mf:ar bc "_law_same" := by nofun
end K65
namespace L2
open PySem PySem.Spec PySem.Calls PyProof.Rows
def topRunT (tb:String→Option Builtin) (p:Program) (w:World) (n₀:Nat) (ann:Option Value):Nat→PySem.W.SharedT→Thread→Option PySem.W.SharedT
 | 0,_,_=>none
 | n+1,s,t=>match PySem.W.through t with
  | true=>some s
  | false=>match PySem.W.stepOk n₀ ann t with
   | false=>none
   | true=>match PySem.W.stepT (denote tb) p w s t with
    | some (s',t')=>topRunT tb p w n₀ ann n s' t'
    | none=>none
theorem k8 {tb:String→Option Builtin}{p:Program}{w:World}{n₀:Nat}{ann:Option Value}:∀{n:Nat}{s s':PySem.W.SharedT}{t:Thread},topRunT tb p w n₀ ann n s t=some s'→PySem.W.topRun tb p w n₀ ann n s.abs t=some s'.abs
 | 0,_,_,_,h=>by cases h
 | n+1,s,s',t,h=>by
  unfold topRunT at h
  unfold PySem.W.topRun
  cases he:PySem.W.through t with
  | true=>rw [he] at h;cases h;rfl
  | false=>
   rw [he] at h
   cases hk:PySem.W.stepOk n₀ ann t with
   | false=>rw [hk] at h;cases h
   | true=>
    rw [hk] at h
    cases hs:PySem.W.stepT (denote tb) p w s t with
    | none=>rw [hs] at h;cases h
    | some r=>obtain ⟨s₂,t₂⟩:=r;rw [hs] at h;rw [PySem.W.stepT_spec hs];exact k8 h
open PySem.W in
noncomputable def vR (P:Params):BT:=.node (boot_o_0 P) (.node (boot_o_1 P) (.node (boot_o_3 P) (.node (boot_o_7 P) .nil .nil) .nil) (.node (boot_o_5 P) (.node (boot_o_9 P) .nil .nil) .nil)) (.node (boot_o_2 P) (.node (boot_o_4 P) (.node (boot_o_8 P) .nil .nil) .nil) (.node (boot_o_6 P) (.node (boot_o_10 P) .nil .nil) .nil))
noncomputable def bootS (w:World) (os:OsState):PySem.W.SharedT:=⟨vR w.params,11,{},#[],PySem.W.boot_drawn,PySem.W.boot_toks,os⟩
theorem pb (w:World):((PySem.W.boot_heap w.params).isNs mainGlobals,(PySem.W.boot_heap w.params).objs.size,(PySem.W.boot_heap w.params).nsMap mainGlobals "__annotations__")=(true,11,some (.ref 6)):=by kernel_rfl
noncomputable def looks {α:Type} (p q:Program) (Xt:Shared→Bool) (Yf:Shared→α) (w:World) (s:Shared):=
 (PySem.W.staticsOk (importedModules p.main.body) (PySem.W.boot_heap w.params) s.heap && PySem.W.namesBound p s.heap && PySem.W.gensDone s && PySem.W.laidKept (PySem.W.boot_heap w.params) s.heap,PySem.W.openSeen q [] (importedModules p.main.body) Xt true s,Yf s)
theorem left_tree {p q:Program}{Xt:Shared→Bool}{α:Type}{Yf:Shared→α}{Ya:α}{N:Nat}
 (e:PySem.W.opening p=PySem.W.plainProg p.main.scope.names) (hN:Nat.ble 600 N=true) (f:∀s,PySem.fenceModules? p s=some s)
 (run:∀(w:World) (os:OsState),(topRunT treeTable p w 11 (some (.ref 6)) N (bootS w os) (PySem.W.topStub p)).map (fun s=>looks p q Xt Yf w s.abs)=some (true,PySem.W.openGood q [],Ya)) :
 PySem.W.LeftO p q [] Xt Yf (fun _=>Ya) N:=fun w=>by
 obtain ⟨⟨h,gs,d,k,os⟩,ef,ev⟩:=Option.map_eq_some_iff.mp (PySem.W.boot_open e hN f w)
 obtain ⟨rfl,rfl,rfl,rfl⟩:h=PySem.W.boot_heap w.params∧gs=#[]∧d=PySem.W.boot_drawn∧k=PySem.W.boot_toks:=by simpa using ev
 obtain ⟨st,er,el⟩:=Option.map_eq_some_iff.mp (run w os)
 have r:=k8 er
 have e0:(bootS w os).abs=⟨PySem.W.boot_heap w.params,#[],PySem.W.boot_drawn,PySem.W.boot_toks,os⟩:=rfl
 rw [e0] at r
 obtain ⟨z1,z2,z3⟩:_∧_∧_:=by simpa only [Prod.mk.injEq] using pb w
 obtain ⟨l1,l2,l3⟩:_∧_∧_:=by simpa only [looks,Prod.mk.injEq] using el
 have t:PySem.W.topFrom treeTable p w N ⟨PySem.W.boot_heap w.params,#[],PySem.W.boot_drawn,PySem.W.boot_toks,os⟩=some st.abs:=by
  unfold PySem.W.topFrom
  dsimp only
  rw [z1,z2,z3,r]
  show (match PySem.W.staticsOk (importedModules p.main.body) (PySem.W.boot_heap w.params) st.abs.heap && PySem.W.namesBound p st.abs.heap && PySem.W.gensDone st.abs && PySem.W.laidKept (PySem.W.boot_heap w.params) st.abs.heap with | true=>_ | false=>_)=_
  rw [l1]
 unfold PySem.W.openEnds
 rw [ef]
 show (PySem.W.topFrom treeTable p w N _).map _=_
 rw [t]
 exact congrArg some (Prod.ext l2 l3)
theorem left_of2 {α β:Type}{f f':World→β→α}{g g':α} (ef:f=f') (eg:g=g') (h:∀w os,f' w os=g') (w:World) (os:β):f w os=g:=by
 rw [ef,eg];exact h w os
end L2
namespace K65
open PySem L2
def qv:Program:=PySem.W.view PySem.Challenge.pw_gainroads_k65_fractions_as_texts [1,2,3,4,5,6,7,8,9,10,11,12,13,14,15,17,18,19,20,21,23,24,26,27,28,29,30,31,32,33,35,36,37,38,39,40,41,42,43,44,45,46,47]
def obs (K:PySem.W.Frag):List (Option FuncData)×List Bool:=([fG K "is_number",
 fG K "common_divisor",
 fG K "is_fraction",
 fG K "is_from_nought",
 fG K "is_above_nought",
 fG K "is_name",
 fG K "is_tie",
 fG K "figures_of",
 fG K "fraction_text",
 fG K "are_figures",
 fG K "fraction_or_none",
 fG K "fraction_from",
 fG K "is_place_row",
 fG K "tie_from",
 fG K "net_from",
 fG K "_law_box",
 fG K "_law_take",
 fG K "_law_folded",
 fG K "_law_frac",
 fG K "_law_word_of",
 fG K "_law_number_of",
 fG K "_law_one_in",
 fG K "_law_all_told",
 fG K "_law_same",
 fG K "_law_any_fraction",
 fG K "_law_bent_text",
 fG K "_law_right",
 fG K "law",
 dw K (PySem.W.findIn K (.ref (aG K "Gaining")) "__init__") "Gaining.__init__",
 dw K (PySem.W.findIn K (.ref (aG K "NotSoMuch")) "__init__") "NotSoMuch.__init__",
 dw K (PySem.W.findIn K (.ref (aG K "Short")) "__init__") "Short.__init__",
 dw K (PySem.W.findIn K (.ref (aG K "Lacking")) "__init__") "Lacking.__init__",
 dw K (PySem.W.findIn K (.ref (aG K "BadRow")) "__init__") "BadRow.__init__",
 dw K (PySem.W.findIn K (.ref (aG K "BadSheet")) "__init__") "BadSheet.__init__"],
 [rG K "GainError",
 rG K "BadNumber",
 rG K "Taken",
 rG K "NoPlace",
 rG K "NoTie",
 rG K "AsItIs",
 rG K "NoEnds",
 rG K "Over",
 rG K "TooMuch",
 rG K "Gaining",
 rG K "NotSoMuch",
 rG K "Short",
 rG K "Lacking",
 rG K "BadRow",
 rG K "BadSheet",
 PySem.W.keepIn K (.ref (aG K "GainError")),
 ul K (aG K "GainError"),
 PySem.W.keepIn K (.ref (aG K "BadNumber")),
 bt K (aG K "BadNumber") (none),
 PySem.W.keepIn K (.ref (aG K "Taken")),
 bt K (aG K "Taken") (none),
 PySem.W.keepIn K (.ref (aG K "NoPlace")),
 bt K (aG K "NoPlace") (none),
 PySem.W.keepIn K (.ref (aG K "NoTie")),
 bt K (aG K "NoTie") (none),
 PySem.W.keepIn K (.ref (aG K "AsItIs")),
 bt K (aG K "AsItIs") (none),
 PySem.W.keepIn K (.ref (aG K "NoEnds")),
 bt K (aG K "NoEnds") (none),
 PySem.W.keepIn K (.ref (aG K "Over")),
 bt K (aG K "Over") (none),
 PySem.W.keepIn K (.ref (aG K "TooMuch")),
 bt K (aG K "TooMuch") (none),
 PySem.W.keepIn K (.ref (aG K "Gaining")),
 PySem.W.isFn K (.ref (dq (PySem.W.findIn K (.ref (aG K "Gaining")) "__init__"))),
 fT K (aG K "Gaining") "ties",
 eM K (aG K "Gaining") "ties",
 bt K (aG K "Gaining") (some (.ref (dq (PySem.W.findIn K (.ref (aG K "Gaining")) "__init__")))),
 PySem.W.keepIn K (.ref (aG K "NotSoMuch")),
 PySem.W.isFn K (.ref (dq (PySem.W.findIn K (.ref (aG K "NotSoMuch")) "__init__"))),
 fT K (aG K "NotSoMuch") "most",
 eM K (aG K "NotSoMuch") "most",
 bt K (aG K "NotSoMuch") (some (.ref (dq (PySem.W.findIn K (.ref (aG K "NotSoMuch")) "__init__")))),
 PySem.W.keepIn K (.ref (aG K "Short")),
 PySem.W.isFn K (.ref (dq (PySem.W.findIn K (.ref (aG K "Short")) "__init__"))),
 fT K (aG K "Short") "share",
 eM K (aG K "Short") "share",
 bt K (aG K "Short") (some (.ref (dq (PySem.W.findIn K (.ref (aG K "Short")) "__init__")))),
 PySem.W.keepIn K (.ref (aG K "Lacking")),
 PySem.W.isFn K (.ref (dq (PySem.W.findIn K (.ref (aG K "Lacking")) "__init__"))),
 fT K (aG K "Lacking") "place",
 eM K (aG K "Lacking") "place",
 bt K (aG K "Lacking") (some (.ref (dq (PySem.W.findIn K (.ref (aG K "Lacking")) "__init__")))),
 PySem.W.keepIn K (.ref (aG K "BadRow")),
 PySem.W.isFn K (.ref (dq (PySem.W.findIn K (.ref (aG K "BadRow")) "__init__"))),
 fT K (aG K "BadRow") "row",
 eM K (aG K "BadRow") "row",
 bt K (aG K "BadRow") (some (.ref (dq (PySem.W.findIn K (.ref (aG K "BadRow")) "__init__")))),
 PySem.W.keepIn K (.ref (aG K "BadSheet")),
 PySem.W.isFn K (.ref (dq (PySem.W.findIn K (.ref (aG K "BadSheet")) "__init__"))),
 fT K (aG K "BadSheet") "row",
 eM K (aG K "BadSheet") "row",
 bt K (aG K "BadSheet") (some (.ref (dq (PySem.W.findIn K (.ref (aG K "BadSheet")) "__init__")))),
 qY (PySem.W.exmOne K (.ref (aG K "BadNumber")) (.ref (aG K "GainError"))),
 iA K [(aG K "BadNumber"),(aG K "Taken"),(aG K "NoPlace"),(aG K "NoTie"),(aG K "AsItIs"),(aG K "NoEnds"),(aG K "Over"),(aG K "TooMuch"),(aG K "Gaining"),(aG K "NotSoMuch"),(aG K "Short"),(aG K "Lacking"),(aG K "BadRow"),(aG K "BadSheet")] (aG K "GainError"),
 oG K "ValueError",
 oG K "abs",
 oG K "all",
 oG K "bool",
 oG K "divmod",
 oG K "enumerate",
 oG K "int",
 oG K "isinstance",
 oG K "len",
 oG K "list",
 oG K "max",
 oG K "range",
 oG K "str",
 oG K "tuple",
 oG K "zip"])
def due:List (Option FuncData)×List Bool:=([dG "is_number" "is_number" gR,
 dG "common_divisor" "common_divisor" d9,
 dG "is_fraction" "is_fraction" fU,
 dG "is_from_nought" "is_from_nought" gy,
 dG "is_above_nought" "is_above_nought" f8,
 dG "is_name" "is_name" lC,
 dG "is_tie" "is_tie" mO,
 dG "figures_of" "figures_of" bY,
 dG "fraction_text" "fraction_text" bu,
 dG "are_figures" "are_figures" b8,
 dG "fraction_or_none" "fraction_or_none" ay,
 dG "fraction_from" "fraction_from" bK,
 dG "is_place_row" "is_place_row" g9,
 dG "tie_from" "tie_from" j6,
 dG "net_from" "net_from" ix,
 dG "_law_box" "_law_box" kw,
 dG "_law_take" "_law_take" j4,
 dG "_law_folded" "_law_folded" bW,
 dG "_law_frac" "_law_frac" dA,
 dG "_law_word_of" "_law_word_of" dQ,
 dG "_law_number_of" "_law_number_of" b9,
 dG "_law_one_in" "_law_one_in" bx,
 dG "_law_all_told" "_law_all_told" aj,
 dG "_law_same" "_law_same" bM,
 dG "_law_any_fraction" "_law_any_fraction" aN,
 dG "_law_bent_text" "_law_bent_text" aK,
 dG "_law_right" "_law_right" b3,
 dG "law" "law" bc,
 dG "__init__" "Gaining.__init__" gI,
 dG "__init__" "NotSoMuch.__init__" f6,
 dG "__init__" "Short.__init__" iI,
 dG "__init__" "Lacking.__init__" gK,
 dG "__init__" "BadRow.__init__" gX,
 dG "__init__" "BadSheet.__init__" gz],List.replicate 80 true)
end K65
def L2.Xt (s:PySem.Shared):Bool:=PySem.W.xlAt K65.qv [] s && PySem.W.recOk [] s
def L2.Yf (s:PySem.Shared):=K65.obs (L2.fragOf s.heap)
noncomputable def L2.lhs (w:PySem.World) (os:PySem.OsState):=(L2.topRunT PySem.treeTable PySem.Challenge.pw_gainroads_k65_fractions_as_texts w 11 (some (.ref 6)) 8674 (L2.bootS w os) (PySem.W.topStub PySem.Challenge.pw_gainroads_k65_fractions_as_texts)).map fun s=>L2.looks PySem.Challenge.pw_gainroads_k65_fractions_as_texts K65.qv L2.Xt L2.Yf w s.abs
noncomputable def L2.rhs:=some (true,PySem.W.openGood K65.qv [],K65.due)
theorem L2.lhs0:L2.lhs=L2.lhs:=rfl
theorem L2.rhs0:L2.rhs=L2.rhs:=rfl
name_quick lhsQ for L2.lhs by L2.lhs0
name_quick rhsQ for L2.rhs by L2.rhs0
theorem L2.left:∀w os,L2.lhs w os=L2.rhs:=L2.left_of2 PySem.W.Fast.lhsQ_eq PySem.W.Fast.rhsQ_eq (fun w os=>by kernel_rfl)
namespace K65
open PySem L2
section
variable {P:Program}{w:World}{K:PySem.W.Frag}{mg:Str→Option Value}{base:Heap}
inductive uD (vs:List V) (H:Hp) (Q:VK):Prop
 | mk (x:V) (d:PyData) (E:Addr→Prop) (h0:vs=[x]) (h1:cG E H x d) (h2:Q (.bl (rB d)) H)
def vH:Sp:=fun vs H Q _=>uD  vs H Q
theorem mq (T:Txt K mg):bv P w K mg base CX0 1 T.is_number_.f T.is_number_.d ["thing"] vH:=by
 refine T.is_number_.F.ok mH (fun vs H Q E h=>?_) (fun cdv A outer s H vs Q E hr h=>?_)
 ·obtain ⟨x,d,F,rfl,_⟩:=h
  rfl
 ·obtain ⟨x,d,F,rfl,hx,k⟩:=h
  refine ⟨_,(ae (ao (gq (cP fH (by rfl) T.b_isinstance ag (aT (pv 0) (aT (cz rfl T.b_int bG) b4))) (gv (pI (cP fH (by rfl) T.b_isinstance ag (aT (pv 0) (aT (cz rfl T.b_bool eY) b4)))))))),?_⟩
  refine ⟨(),_,_,_,(),hx.ty,oq d,(),?_⟩
  have rest:∀b,rB d=!b→nQ d=b→rC (rT (fun xs H Q=>mD fun x T t b=>xs=[x,.ty T]∧dB K H x t∧PySem.W.kitOne K t (.type T)=some b∧Q (.bl b) H) (j9 (mv 0) (j9 (tC (.ty "bool")) qK))) (fI ["thing"] [x]) H Q:=fun b e1 e2=>by
   refine ⟨(),_,_,_,(),hx.ty,gA d,(),?_⟩
   rw [e2,←e1]
   exact k
  cases d with
  | int i=>exact ai (rest false rfl rfl)
  | bool b=>exact ai (rest true rfl rfl)
  | none=>exact aq k
  | str _=>exact aq k
  | list _=>exact aq k
  | tuple _=>exact aq k
  | dict _=>exact aq k
inductive vh (vs:List V) (H:Hp) (Q:VK):Prop
 | mk (n d:Int) (h0:vs=[.int n,.int d]) (h1:Q (.int (Int.gcd n d:Nat)) H)
def wK:Sp:=fun vs H Q _=>vh  vs H Q
theorem jG (T:Txt K mg):bv P w K mg base CX0 1 T.common_divisor_.f T.common_divisor_.d ["n", "d"] wK:=by
 refine T.common_divisor_.F.ok gc (fun vs H Q E h=>?_) (fun cdv A outer s H vs Q E hr h=>?_)
 ·obtain ⟨n,d,rfl,_⟩:=h
  rfl
 ·obtain ⟨n,d,rfl,k⟩:=h
  refine ⟨_,(cw (jS PassesOwn.never (am gh (pv 1) aS (fL _)) (ae (iT (i:=0) (j:=1) rfl gc.nd rfl rfl (by decide) rfl rfl (aT (pv 1) (aT (af sj (pv 0) (pv 1)) b4)) rfl)))
   (ae (ao (cP fk (by rfl) T.b_abs dJ (aT (pv 0) b4))))),?_⟩
  refine ⟨fun m σ H'=>∃a b:Int,σ=[some (.int a),some (.int b)]∧H'=H∧Int.gcd a b=Int.gcd n d∧m=b.natAbs,⟨_,n,d,rfl,rfl,rfl,rfl⟩,?_⟩
  rintro m σ H' ⟨a,b,rfl,rfl,hg,rfl⟩
  refine ⟨(),rfl,(),?_⟩
  by_cases hb:b=0
  ·subst hb
   refine aq ?_
   refine ⟨(),(),?_⟩
   rw [←KM.gcd_zero_abs,hg]
   exact k
  ·have e:(!decide (V.int b=V.int 0))=true:=by
    rw [decide_eq_false (fun z=>hb (by injection z))];rfl
   rw [e]
   refine ai ⟨fun σ' H''=>∃a' b':Int,σ'=[some (.int a'),some (.int b')]∧H''=H'∧Int.gcd a' b'=Int.gcd n d∧b'.natAbs<b.natAbs,?_,?_⟩
   ·rintro σ' H'' ⟨a',b',rfl,rfl,h1,h2⟩
    exact ⟨_,h2,a',b',rfl,rfl,h1,rfl⟩
   ·refine ⟨(),(),(),_,(),rfl,hb,_,(),?_⟩
    exact ⟨b,a.fmod b,rfl,rfl,(KM.gcd_fmod a b).trans hg,KM.fmod_natAbs_lt a b hb⟩
def mE:PyData→Bool
 | .tuple [.int n,.int d]=>decide (1≤d) && decide (Int.gcd n d=1)
 | _=>false
inductive wx (vs:List V) (H:Hp) (Q:VK):Prop
 | mk (x:V) (d:PyData) (E:Addr→Prop) (h0:vs=[x]) (h1:cG E H x d) (h2:Q (.bl (mE d)) H)
def xu:Sp:=fun vs H Q _=>wx  vs H Q
theorem ku (T:Txt K mg):bv P w K mg base CX0 2 T.is_fraction_.f T.is_fraction_.d ["thing"] xu:=by
 have G_is_number:=#[(mq)]
 have G_common_divisor:=#[(jG)]
 refine T.is_fraction_.F.ok fm (fun vs H Q E h=>?_) (fun cdv A outer s H vs Q E hr h=>?_)
 ·obtain ⟨x,d,F,rfl,_⟩:=h
  rfl
 ·obtain ⟨x,d,F,rfl,hx,k⟩:=h
  refine ⟨_,(cw (aU (PW.pt (cS (cZ (bn (cP fH (by rfl) T.b_isinstance ag (aT (pv 0) (aT (cz rfl T.b_tuple d0) b4))))) (cY (am gh (cP gD (by rfl) T.b_len bJ (aT (pv 0) b4)) aS (fL _))))) (ae (ao eS)) aC)
   (cw (fM (pv 0) (mn rfl (bf (ic (i:=1) fm.nd rfl (Or.inl rfl)) (bf (ic (i:=2) fm.nd rfl (Or.inl rfl)) eh))))
   (cw (aU (PW.pt (cS (cZ (bn (gl G_is_number (hr.mono (by decide)) rfl T.is_number_.m T.is_number_.F.kp T.is_number_.B .nil jm (aT (pv 1) b4)))) (cY (cZ (bn (gl G_is_number (hr.mono (by decide)) rfl T.is_number_.m T.is_number_.F.kp T.is_number_.B .nil jm (aT (pv 2) b4))))))) (ae (ao eS)) aC)
   (ae (ao (gq (cq lX (pv 2) aS (fL _)) (gv (cq bg (gl G_common_divisor (hr.mono (by decide)) rfl T.common_divisor_.m T.common_divisor_.F.kp T.common_divisor_.B .nil jm (aT (pv 1) (aT (pv 2) b4))) aS (fL _))))))))),?_⟩
  refine ⟨(),_,_,_,(),hx.ty,eJ d,(),?_⟩
  cases hx with
  | non=>exact ai (ai k)
  | bl b=>exact ai (ai k)
  | int i=>exact ai (ai k)
  | str y=>exact ai (ai k)
  | lst h ne r=>exact ai (ai k)
  | @tup a xs ds h r=>
   refine aq ?_
   refine ⟨(),_,xs,rfl,.inr (bq.of h),rfl,(),?_⟩
   have hl:=r.length
   by_cases h2:xs.length=2
   ·have e:(!decide (V.int (xs.length:Int)=V.int 2))=false:=by
     rw [h2];rfl
    rw [e]
    refine aq ?_
    obtain ⟨v1,v2,rfl⟩:aX fun v1 v2=>xs=[v1,v2]:=dy (P:=fun l=>aX fun v1 v2=>l=[v1,v2]) (fun a b=>⟨a,b,rfl⟩) _ h2
    cases r with
    | @cons _ _ d1 _ r1 r=>
    cases r with
    | @cons _ _ d2 _ r2 r=>
    cases r
    refine ⟨(),a,[v1,v2],rfl,bq.of h,rfl,v1,[v2],rfl,v2,[],rfl,rfl,?_⟩
    refine ⟨(),v1,d1,F,rfl,r1,(),?_⟩
    cases r1 with
    | non=>exact ai (ai k)
    | bl b=>exact ai (ai k)
    | str y=>exact ai (ai k)
    | lst _ _ _=>exact ai (ai k)
    | tup _ _=>exact ai (ai k)
    | int n=>
     refine aq ?_
     refine ⟨(),v2,d2,F,rfl,r2,(),?_⟩
     cases r2 with
     | non=>exact ai k
     | bl b=>exact ai k
     | str y=>exact ai k
     | lst _ _ _=>exact ai k
     | tup _ _=>exact ai k
     | int de=>
      refine aq ?_
      refine ⟨(),_,(),rfl,(),?_⟩
      by_cases he:1≤de
      ·rw [decide_eq_true he]
       refine ai ?_
       refine ⟨(),(),n,de,rfl,rfl,?_⟩
       have q:mE (.tuple [.int n,.int de])=decide (V.int ((Int.gcd n de:Nat):Int)=V.int 1):=by
        show (decide (1≤de) && decide (Int.gcd n de=1))=_
        rw [decide_eq_true he,Bool.true_and]
        by_cases g:Int.gcd n de=1
        ·rw [g];rfl
        ·rw [decide_eq_false g,decide_eq_false]
         intro z
         injection z with z
         exact g (by trivial)
       rw [←q]
       exact k
      ·rw [decide_eq_false he]
       refine aq ?_
       have q:mE (.tuple [.int n,.int de])=false:=by
        show (decide (1≤de) && decide (Int.gcd n de=1))=_
        rw [decide_eq_false he,Bool.false_and]
       rw [←q]
       exact k
   ·have e:(!decide (V.int (xs.length:Int)=V.int 2))=true:=by
     rw [decide_eq_false]
     ·rfl
     ·intro z
      injection z with z
      exact h2 (by trivial)
    rw [e]
    refine ai ?_
    have q:mE (.tuple ds)=false:=by
     unfold mE
     split
     ·rename_i z
      injection z with z
      subst z
      simp at hl
      exact absurd hl h2
     ·rfl
    rw [←q]
    exact k
end
end K65
namespace K65
open PySem L2
section
variable {P:Program}{w:World}{K:PySem.W.Frag}{mg:Str→Option Value}{base:Heap}
theorem uI (T:Txt K mg):bv P w K mg base CX0 1 T.l_box_.f T.l_box_.d ["_law_script", "_law_k"] (vC K):=by
 refine T.l_box_.F.ok j1 (fun vs H Q E h=>?_) (fun cdv A outer s H vs Q E hr h=>?_)
 ·obtain ⟨a,ms,k,rfl,_⟩:=h
  rfl
 ·obtain ⟨a,ms,k,rfl,hS,hk0,hk1,kk⟩:=h
  refine ⟨_,(cw (kg (i:=2) j1.nd rfl (Or.inl rfl) aS)
   (cw (aU (am oC (pv 1) (cP gD (by rfl) T.b_len bJ (aT (pv 0) b4)) (fL _)) (ae (kg (i:=2) j1.nd rfl (Or.inl rfl) (dE fK (pv 0) (pv 1) (fun _ _=>rfl)))) aC)
   (ae (ao (vp (aT (af eO (cP fk (by rfl) T.b_abs dJ (aT (pv 2) b4)) (bD i9 (by rfl) T.b_int bG (aT (cq lX (cP fk (by rfl) T.b_abs dJ (aT (pv 2) b4)) (af c3 aS aS) (fL _)) b4))) (aT (af fN (af ce (pv 2) (af eO (af eO aS (pv 1)) (pv 1))) aS) (aT aS b4)))))))),?_⟩
  refine ⟨(),(),a,(),.inl hS,_,(),rfl,(),?_⟩
  refine qZ (fun h=>?_) (fun h=>?_)
  case' refine_1=>
   have hlt:k.toNat<ms.length:=by
    have h':=of_decide_eq_true h
    rw [List.length_map] at h'
    trivial
   refine ⟨(),(),.inl ⟨a,_,_,V.int ms[k.toNat],rfl,rfl,hS,?_,?_⟩⟩
   ·exact sG hk0 hlt
  all_goals
   refine ⟨(),(),(),(),_,(),rfl,⟨by decide,by decide,by decide⟩,_,(),rfl,.inr ⟨(),_,(),rfl,.inr ?_,(),(),_,(),rfl,.inr ⟨by trivial,by trivial⟩,(),_,(),rfl,.inr ⟨by trivial,by trivial⟩,_,(),rfl,_,(),rfl,?_,?_,fun p hp=>kk p _ hp (au.new hp) ⟨_,_,aF,?_,?_,?_⟩⟩⟩
   ·exact x0 _
   ·show (0:Int)<2147483647;decide
   ·show 3≤sizeLine;decide
   ·exact wC _ (mV _)
   ·exact Int.emod_nonneg _ (by decide)
   ·exact Int.emod_lt_of_pos _ (by decide)
end
end K65
namespace K65
open PySem L2
section
variable {P:Program}{w:World}{K:PySem.W.Frag}{mg:Str→Option Value}{base:Heap}
theorem kH (T:Txt K mg):bv P w K mg base CX0 1 T.l_take_.f T.l_take_.d ["_law_box_here", "_law_many"] uQ:=by
 refine T.l_take_.F.ok iY (fun vs H Q E h=>?_) (fun cdv A outer s H vs Q E hr h=>?_)
 ·obtain ⟨b,many,t,rfl,_⟩:=h
  rfl
 ·obtain ⟨b,many,t,rfl,⟨c,x,hb,hc,hx0,hx1⟩,hm0,hm1,ht0,ht1,kk⟩:=h
  refine ⟨_,(cw (aU (am jv (dE fK (pv 0) aS (fun _ _=>rfl)) aS (fL _)) (cw (fM (cP mZ (by rfl) T.b_divmod iG (aT (dE fK (pv 0) aS (fun _ _=>rfl)) (aT (pv 1) b4))) (mn rfl (bf (ml (pv 0) aS jQ) (bf (ic (i:=2) iY.nd rfl (Or.inl rfl)) eh))))
   (ae (ao (pv 2)))) aC)
   (cw (fM (af ce (dE fK (pv 0) aS (fun _ _=>rfl)) aS) (ml (pv 0) aS jQ))
   (cw (kg (i:=3) iY.nd rfl (Or.inl rfl) (af fN (af c3 (af ce (dE fK (pv 0) aS (fun _ _=>rfl)) (af eO aS (dE fK (pv 0) aS (fun _ _=>rfl)))) aS) aS))
   (ae (ao (af fN (af tJ (af fN (af ce (af eO (pv 3) aS) (af eO (af eO (dE fK (pv 0) aS (fun _ _=>rfl)) (dE fK (pv 0) aS (fun _ _=>rfl))) aS)) aS) aS) (pv 1))))))),?_⟩
  refine ⟨(),.inl ⟨b,_,_,(),rfl,aD.of hb,rfl,_,(),rfl,(),?_⟩⟩
  refine qZ (fun h=>?_) (fun h=>?_)
  ·refine ⟨(),.inl ⟨b,_,_,(),rfl,aD.of hb,rfl,(),_,(),⟨hm0,hm1⟩,fun p hp=>⟨p,(),bq.of aF,rfl,_,(),(),b,[.int c,.int x,.int t],_,0,rfl,rfl,?_,rfl,_,(),rfl,(),?_⟩⟩⟩
   ·rw [ap (ba hb hp)];exact hb
   ·have hb':aI H p (.tup [.int (c / many),.int (c % many)]) b=some (.lst [.int c,.int x,.int t]):=by rw [ap (ba hb hp)];exact hb
    exact kk _ t _ (Int.emod_nonneg _ (Int.ne_of_gt hm0)) (Int.emod_lt_of_pos _ hm0) (Int.le_refl _) (by trivial) (lG (au.new hp) hb') ⟨_,_,aF,Int.ediv_nonneg hc (Int.le_of_lt hm0),hx0,hx1⟩
  ·refine ⟨(),.inl ⟨b,_,_,(),rfl,aD.of hb,rfl,_,(),rfl,(),b,_,_,2,rfl,rfl,hb,rfl,?_⟩⟩
   refine ⟨(),.inl ⟨b,_,_,(),rfl,aD.of aF,rfl,(),.inl ⟨b,_,_,(),rfl,aD.of aF,rfl,_,(),rfl,.inl ⟨by decide,by decide⟩,_,(),rfl,_,(),rfl,⟨by decide,by decide,?_⟩,_,(),rfl,?_,?_⟩⟩⟩
   ·have:(x+39373*(t+1)).natAbs<2 ^ 64:=by trivial
    exact this
   ·show (0:Int)<2147483647;decide
   have ho0:0≤(x+39373*(t+1)) ^ (5:Int).toNat % 2147483647:=Int.emod_nonneg _ (by decide)
   have ho1:(x+39373*(t+1)) ^ (5:Int).toNat % 2147483647<2147483647:=Int.emod_lt_of_pos _ (by decide)
   generalize (x+39373*(t+1)) ^ (5:Int).toNat % 2147483647=on at ho0 ho1 ⊢
   refine ⟨(),_,(),rfl,.inr ⟨by decide,by decide⟩,(),.inl ⟨b,_,_,(),rfl,aD.of aF,rfl,(),.inl ⟨b,_,_,(),rfl,aD.of aF,rfl,_,(),rfl,.inl ⟨?_,?_⟩,_,(),rfl,.inr ⟨by decide,by decide⟩,_,(),rfl,_,(),rfl,?_,_,(),rfl,⟨by decide,by decide⟩,(),_,(),rfl,hm0,?_⟩⟩⟩
   ·show -(2 ^ 64)<t+1;trivial
   ·show t+1<2 ^ 64;trivial
   ·show (0:Int)<2147483629;decide
   ·exact kk _ (t+1) _ (Int.emod_nonneg _ (Int.ne_of_gt hm0)) (Int.emod_lt_of_pos _ hm0) (by trivial) (Int.le_refl _) (lG (au.refl H) hb) ⟨c,x,aF,hc,hx0,hx1⟩
end
end K65
namespace K65
open PySem L2
section
variable {P:Program}{w:World}{K:PySem.W.Frag}{mg:Str→Option Value}{base:Heap}
theorem om {n d:Int} (hd:d≠0) (h:d.natAbs.log2<9000):oM n ((Int.gcd n d:Nat):Int):=by
 have g0:=KM.gcd_pos (n:=n) hd
 refine ⟨by trivial,?_⟩
 have h1:Int.gcd n d≤d.natAbs:=Nat.le_of_dvd (by trivial) (by
  have:((Int.gcd n d:Nat):Int) ∣ d:=Int.gcd_dvd_right ..
  exact Int.ofNat_dvd_left.mp this)
 have h2:d.natAbs<2 ^ 9000:=(Nat.log2_lt (by trivial)).mp h
 rw [Int.natAbs_natCast]
 exact (Nat.log2_lt (by trivial)).mpr (Nat.lt_of_le_of_lt h1 h2)
inductive so (vs:List V) (H:Hp) (Q:VK):Prop
 | mk (n d:Int) (h0:vs=[.int n,.int d]) (h1:0<d) (h2:Sz 9000 d) (h3:∀p H',Nw H p (fr (KM.low n d)) H'→Q (.ref p) H')
def t9:Sp:=fun vs H Q _=>so  vs H Q
theorem kX (T:Txt K mg):bv P w K mg base CX0 1 T.l_frac_.f T.l_frac_.d ["_law_n", "_law_d"] t9:=by
 refine T.l_frac_.F.ok gH (fun vs H Q E h=>?_) (fun cdv A outer s H vs Q E hr h=>?_)
 ·obtain ⟨n,d,rfl,_⟩:=h
  rfl
 ·obtain ⟨n,d,rfl,hd,hs,k⟩:=h
  have hl:=hs.log (Int.ne_of_gt hd)
  refine ⟨_,#[#[iT 2 (2) (3) _ _ _ _ _ _ _ _ _ _ _ rfl gH.nd rfl rfl (by decide) bP cu #[[#[(),(),(@fk _),jl,T.b_abs,(@dJ),#[[#[0,jb]]]],#[(),(),(@fk _),jl,T.b_abs,(@dJ),#[[#[1,gr]]]]]] (by kernel_rfl) (by rfl)] :: #[#[jS 6 PassesOwn.never #[am 8 (@jv _) #[3,cu] #[()] #[(),()]] #[ae 3 #[iT 2 (2) (3) _ _ _ _ _ _ _ _ _ _ _ rfl gH.nd rfl rfl (by decide) bP cu #[[#[3,cu],#[af 8 (@fN _) #[2,bP] #[3,cu]]]] (by kernel_rfl) (by rfl)]]] :: #[#[2,gH.nd,bP,#[af 8 (@eO _) #[2,bP] #[bz 8 #[am 8 (@jv _) #[1,gr] #[()] #[(),()]] #[()] #[jr 6 (@hW _) #[()]]]]] :: #[ae 3 #[ao 4 #[bh 5 #[[#[af 8 (@mT _) #[0,jb] #[2,bP]],#[af 8 (@mT _) #[1,gr] #[2,bP]]]]]]]]]],?_⟩
  refine ⟨(),(),(),(),_,(),?_⟩
  refine ⟨fun m σ H'=>∃a b:Int,σ=[some (.int n),some (.int d),some (.int a),some (.int b)]∧H'=H∧0≤a∧0≤b∧Int.gcd a b=Int.gcd n d∧m=b.natAbs,⟨_,_,(),rfl,mV n,mV d,KM.gcd_abs n d,rfl⟩,?_⟩
  rintro m σ H' ⟨a,b,rfl,rfl,ha,hb,hg,rfl⟩
  refine ⟨(),_,(),rfl,(),?_⟩
  by_cases hb0:0<b
  ·rw [decide_eq_true hb0]
   refine ai ⟨fun σ' H''=>∃a' b':Int,σ'=[some (.int n),some (.int d),some (.int a'),some (.int b')]∧H''=H'∧0≤a'∧0≤b'∧Int.gcd a' b'=Int.gcd n d∧b'.natAbs<b.natAbs,?_,?_⟩
   ·rintro σ' H'' ⟨a',b',rfl,rfl,h0,h1,h2,h3⟩
    exact ⟨_,h3,a',b',rfl,rfl,h0,h1,h2,rfl⟩
   ·refine ⟨(),(),(),_,(),rfl,hb0,_,(),?_⟩
    have q0:=Int.emod_nonneg a (Int.ne_of_gt hb0)
    have q1:=Int.emod_lt_of_pos a hb0
    exact ⟨b,a % b,rfl,rfl,hb,q0,(KM.gcd_emod a b).trans hg,by trivial⟩
  ·have hb1:b=0:=by trivial
   subst hb1
   rw [decide_eq_false hb0]
   refine aq ?_
   have eg:a=((Int.gcd n d:Nat):Int):=by
    rw [←hg,KM.gcd_zero_abs,if_neg (by trivial)]
   have c1:=om (n:=n) (Int.ne_of_gt hd) hl
   have c2:=om (n:=d) (d:=d) (Int.ne_of_gt hd) hl
   rw [←eg] at c1
   refine ⟨(),(),_,(),rfl,(),?_⟩
   rw [decide_eq_true hd]
   refine ai ⟨_,(),rfl,.inr ⟨by decide,by decide⟩,?_⟩
   show lT 2 (V.int (a*1)) _ _ _
   rw [Int.mul_one]
   refine ⟨(),(),_,(),rfl,c1,(),(),_,(),rfl,⟨c1.1,c1.2⟩,(by show 2≤10000;decide),fun p H2 n2=>k p H2 ?_⟩
   unfold KM.low
   rw [if_pos hd,←eg]
   exact n2
end
end K65
namespace K65
open PySem L2
section
variable {P:Program}{w:World}{K:PySem.W.Frag}{mg:Str→Option Value}{base:Heap}
inductive rn (K:PySem.W.Frag) (vs:List V) (H:Hp) (Q:VK):Prop
 | mk (a:Addr) (ns:List Int) (many:Nat) (h0:vs=[.ref a,.int many]) (h1:aD K H a (ns.map V.int)) (h2:ns.length≤63) (h3:2≤many) (h4:many≤63) (h5:∀p ms H',H p=none→au H H'→H' p=some (.lst ((ms:List Int).map V.int))→ms.length≤many→Q (.ref p) H')
def tM (K:PySem.W.Frag):Sp:=fun vs H Q _=>rn K vs H Q
theorem qO {ns:List Int}{m:Nat}{hi:Option Int}:∃cs:List Int,ir (ns.map V.int) (some (m:Int)) hi=cs.map V.int∧cs.length≤ns.length - m∧(cs≠[]→m<ns.length):=by
 refine ⟨(ns.drop (min m ns.length)).take (HT.sIx ns.length ns.length hi - min m ns.length),?_,?_,fun z=>?_⟩
 ·unfold ir
  rw [List.length_map,HT.sIx_nat,List.map_take,List.map_drop]
 ·refine Nat.le_trans (List.length_take_le' ..) ?_
  rw [List.length_drop]
  have:=Nat.le_total m ns.length
  trivial
 ·refine Nat.lt_of_not_le fun y=>z ?_
  rw [Nat.min_eq_right y,List.drop_length,List.take_nil]
theorem pC (T:Txt K mg):bv P w K mg base CX0 1 T.l_folded_.f T.l_folded_.d ["_law_script", "_law_many"] (tM K):=by
 refine T.l_folded_.F.ok fF (fun vs H Q E h=>?_) (fun cdv A outer s H vs Q E hr h=>?_)
 ·obtain ⟨a,ns,many,rfl,_⟩:=h
  rfl
 ·obtain ⟨a,ns,many,rfl,hS,hn,hm0,hm1,kk⟩:=h
  refine ⟨_,#[#[2,fF.nd,cH,#[bD 9 (@lN _ (K) (by rfl)) kh T.b_list (@e7) #[[#[cK 10 (@mF _ (K) (by rfl)) #[0,fi] (@ej _) #[b5 3 #[1,cT]]]]] (by decide) (by decide) (by rfl) (by rfl)]] :: #[#[jj 8 PassesOwn.never rfl (@rp _ (K) _ _ _ _ _ _ _ ij T.b_enumerate #[[#[cK 10 (@mF _ (K) (by rfl)) #[0,fi] #[b5 3 #[1,cT]] #[b5 3 #[()]]]]] (by rfl) (by rfl)) (@fw _ (K) _ _ _ _ (2) rfl #[bf 5 #[3,fF.nd,dH] #[bf 5 #[4,fF.nd,gb] (@eh _) (by rfl)] (by rfl)] (by rfl) (by rfl) (by rfl)) #[ae 3 #[fM 6 #[af 8 (@ce _) #[#[2,cH][#[af 8 (@fN _) #[3,dH] #[1,cT]]]!] #[af 8 (@eO _) #[4,gb] #[af 8 (@ce _) #[3,dH] #[()]]]] #[ml 7 #[2,cH] #[af 8 (@fN _) #[3,dH] #[1,cT]] (@pY _) (by intro _;rfl)] (by rfl) (by rfl) (by rfl)]] (by intro _;rfl)] :: #[ae 3 #[ao 4 #[2,cH]]]]],?_⟩
  refine b7 fun Q1 nA1=>⟨(),(),(),a,(),hS,fun p1 H1 n1=>⟨p1,(),.inl (aD.of n1.at'),fun p2 H2 n2=>nA1 _ _ ?_⟩⟩
  have h2:=n2.at'
  rw [qg (Int.natCast_nonneg _),Int.toNat_natCast,←List.map_take] at h2
  have s2:=n1.sm.trans n2.sm
  have f2:H p2=none:=n1.sm.free n2.fr
  refine dh fun DA nA=>⟨(),(),(),(),a,(),s2.seq hS,fun p3 H3 n3=>?_⟩
  obtain ⟨cs,ec,lc,mc⟩:=qO (ns:=ns) (m:=many) (hi:=some 63)
  have h3:=n3.at'
  rw [ec] at h3
  have n32:p3≠p2:=fun z=>by have:=n3.fr;rw [z,h2] at this;cases this
  refine ⟨p3,true,rfl,⟨_,aD.of h3⟩,pc (xs:=cs.map V.int) (fun i σ H'=>i6 fun (ms:List Int) (v3 v4:Option V)=>σ=[some (.ref a),some (.int (many:Int)),some (.ref p2),v3,v4]∧ms.length=(ns.take many).length∧H' p2=some (.lst (ms.map V.int))∧∀b o,b≠p2→H3 b=some o→H' b=some o) ⟨_,_,(),rfl,n3.sm _ _ h2,fun _ _ _ h=>h⟩ ?_ ?_ ?_⟩
  ·rintro i σ H' _ ⟨ms,v3,v4,rfl,_,_,ol⟩
   exact aD.of (ol _ _ n32 h3)
  ·rintro i x T' σ J0 hx hT ⟨ms,v3,v4,rfl,lm,hp,ol⟩
   have nT:Nw J0 T' (.tup [.int (i:Int),x]) (aI J0 T' (.tup [.int (i:Int),x])):=.mk' hT
   generalize aI J0 T' (.tup [.int (i:Int),x])=J1 at nT ⊢
   rw [List.getElem?_map] at hx
   obtain ⟨c,ec',rfl⟩:=Option.map_eq_some_iff.mp hx
   have hml:=mc (fun z=>by rw [z] at ec';cases ec')
   have hi:=(List.getElem?_eq_some_iff.mp ec').1
   rw [List.length_take] at lm
   have hj:i % many<ms.length:=by
    rw [lm,Nat.min_eq_left (Nat.le_of_lt hml)];exact Nat.mod_lt _ (by trivial)
   have eI:(i:Int) % (many:Int)=((i % many:Nat):Int):=rfl
   have e1:(ms.map V.int)[i % many]?=some (.int ms[i % many]):=by rw [List.getElem?_map,List.getElem?_eq_getElem hj];rfl
   have hp1:=nT.sm _ _ hp
   refine ⟨T',(),bq.of nT.at',rfl,_,(),_,(),rfl,?_⟩
   dsimp only
   refine ⟨(),(),(),_,(),rfl,(by show (0:Int)<(many:Int);trivial),p2,_,_,(),rfl,aD.of hp1,by show e8 _ ((i:Int) % (many:Int))=_;rw [eI];exact fD e1,?_⟩
   refine ⟨(),(),_,(),rfl,_,(),rfl,.inr ⟨by trivial,by trivial⟩,_,(),rfl,?_⟩
   refine ⟨(),(),(),_,(),rfl,(by show (0:Int)<(many:Int);trivial),p2,_,_,i % many,rfl,rfl,hp1,?_,fun J2 c2=>?_⟩
   ·show jK _ ((i:Int) % (many:Int))=_
    rw [eI]
    unfold jK
    rw [if_pos (Int.natCast_nonneg _),List.length_map,if_pos (by trivial),Int.toNat_natCast]
   ·refine ⟨ms.set (i % many) (ms[i % many]+c*((i:Int)+2)),_,(),by rw [List.length_set,lm,List.length_take],by rw [c2.at',List.map_set],fun b o ne h=>c2.ol b o ne (nT.sm _ _ (ol b o ne h))⟩
  ·rintro σ J ⟨ms,v3,v4,rfl,lm,hp,ol⟩
   refine nA _ _ ⟨(),kk p2 ms J f2 (fun b o h=>ol b o (fun z=>by rw [z,f2] at h;cases h) (n3.sm _ _ (s2 _ _ h))) hp ?_⟩
   rw [lm,List.length_take];exact Nat.min_le_left ..
end
end K65
namespace K65
open PySem L2
section
variable {P:Program}{w:World}{K:PySem.W.Frag}{mg:Str→Option Value}{base:Heap}
theorem li (T:Txt K mg):∀n,bv P w K mg base CX0 (n+1) T.l_same_.f T.l_same_.d ["_law_found", "_law_due"] (uF n):=by
 intro n
 induction n with
 | zero=>
  refine T.l_same_.F.ok lz (fun vs H Q E h=>?_) (fun cdv A outer s H vs Q E hr h=>?_)
  ·obtain ⟨_,_,_,_,_,_,_,z,_⟩:=h
   exact z.elim
  ·obtain ⟨_,_,_,_,_,_,_,z,_⟩:=h
   exact z.elim
 | succ n G_l_same=>
 refine T.l_same_.F.ok lz (fun vs H Q E h=>?_) (fun cdv A outer s H vs Q E hr h=>?_)
 ·obtain ⟨x,y,d,E,rfl,_⟩:=h
  rfl
 ·obtain ⟨x,y,d,E',rfl,hx,hy,hd,k⟩:=h
  refine ⟨_,#[#[aU 8 #[bn 3 #[(),(),(@pS _ (K) (by rfl)),aB,T.b_isinstance,(@ag),#[[#[1,aR],#[bh 5 #[[#[cz 4 fY T.b_list (@e7) (by decide) (by decide)],#[cz 4 fj T.b_tuple (@d0) (by decide) (by decide)]]]]]]] (by intro _;rfl)] #[#[aU 8 #[PW.pt 3 #[cS 7 #[am 8 (@gh _) #[(),(),(@cc _ (K) (by rfl)),aB,T.b_isinstance,(@ag),#[[#[0,aL],#[cz 4 fY T.b_list (@e7) (by decide) (by decide)]]]] #[(),(),(@cc _ (K) (by rfl)),aB,T.b_isinstance,(@ag),#[[#[1,aR],#[cz 4 fY T.b_list (@e7) (by decide) (by decide)]]]] #[(),()]] #[cY 4 #[am 8 (@gh _) #[(),(),(@cc _ (K) (by rfl)),aB,T.b_isinstance,(@ag),#[[#[0,aL],#[cz 4 fj T.b_tuple (@d0) (by decide) (by decide)]]]] #[(),(),(@cc _ (K) (by rfl)),aB,T.b_isinstance,(@ag),#[[#[1,aR],#[cz 4 fj T.b_tuple (@d0) (by decide) (by decide)]]]] #[(),()]]]]] #[ae 3 #[ao 4 #[eS 4]]] (@aC _)] :: #[ae 3 #[ao 4 #[gq 7 #[cq 8 (@bg _) #[(),(),(@jq _ (K) (by rfl)),jh,T.b_len,(@bJ),#[[#[0,aL]]]] #[(),(),(@jq _ (K) (by rfl)),jh,T.b_len,(@bJ),#[[#[1,aR]]]] #[(),()]] #[gv 5 #[(),(),(@oQ _ (K) rfl (by rfl)),mt,T.b_all,(@iB),#[[#[jY 7 (["_law_one", "_law_other"]) (2) ([]) _ _ _ _ rfl (by kernel_rfl) (@qB _ (K) _ _ _ _ _ _ _ _ mI T.b_zip #[[#[0,aL],#[1,aR]]] (by rfl) (by rfl) (by rfl)) (fun _ _ _ _ _ _=>(@fw _ (K) _ _ _ _ (2) rfl #[bf 5 #[0,(),()] #[bf 5 #[1,(),()] (@eh _) (by rfl)] (by rfl)] (by rfl) (by rfl) (by rfl))) (fun _ _ _ _ _ _=>@jW _) (fun _ _ _ _ _ _=>#[gl 16 G_l_same (hr.mono (by trivial)) (by show _=_;kernel_rfl) T.l_same_.m T.l_same_.F.kp T.l_same_.B .nil (@jm _) #[[#[0,()],#[1,()]]] (by decide) (by rfl) (by rfl)]) (by intro _;rfl)]]]]]]]]] (@aC _)] :: #[#[aU 8 #[PW.pt 3 #[cS 7 #[am 8 (@hU _) #[1,aR] #[bw 3] #[(),()]] #[cY 4 #[bn 3 #[(),(),(@cc _ (K) (by rfl)),aB,T.b_isinstance,(@ag),#[[#[1,aR],#[cz 4 gB T.b_str (@cn) (by decide) (by decide)]]]] (by intro _;rfl)]]]] #[ae 3 #[ao 4 #[gq 7 #[cq 8 (@bg _) #[0,aL] #[1,aR] #[(),()]] #[gv 5 #[cq 8 (@bg _) #[(),(),(@cc _ (K) (by rfl)),aB,T.b_isinstance,(@ag),#[[#[0,aL],#[cz 4 gB T.b_str (@cn) (by decide) (by decide)]]]] #[(),(),(@cc _ (K) (by rfl)),aB,T.b_isinstance,(@ag),#[[#[1,aR],#[cz 4 gB T.b_str (@cn) (by decide) (by decide)]]]] #[(),()]]]]]] (@aC _)] :: #[#[aU 8 #[bn 3 #[(),(),(@cc _ (K) (by rfl)),aB,T.b_isinstance,(@ag),#[[#[1,aR],#[cz 4 fX T.b_bool (@eY) (by decide) (by decide)]]]] (by intro _;rfl)] #[ae 3 #[ao 4 #[gq 7 #[(),(),(@cc _ (K) (by rfl)),aB,T.b_isinstance,(@ag),#[[#[0,aL],#[cz 4 fX T.b_bool (@eY) (by decide) (by decide)]]]] #[gv 5 #[cq 8 (@bg _) #[0,aL] #[1,aR] #[(),()]]]]]] (@aC _)] :: #[ae 3 #[ao 4 #[gq 7 #[(),(),(@cc _ (K) (by rfl)),aB,T.b_isinstance,(@ag),#[[#[0,aL],#[cz 4 mL T.b_int (@bG) (by decide) (by decide)]]]] #[gq 7 #[pI 4 #[(),(),(@cc _ (K) (by rfl)),aB,T.b_isinstance,(@ag),#[[#[0,aL],#[cz 4 fX T.b_bool (@eY) (by decide) (by decide)]]]]] #[gv 5 #[cq 8 (@bg _) #[0,aL] #[1,aR] #[(),()]]]]]]]]]],?_⟩
  refine ⟨(),(by show 2≤10000;decide),fun p H1 n1=>⟨y,p,d,E',rfl,hy.mono n1.sm.toE,bq.of n1.at',(),?_⟩⟩
  have s1:=n1.sm
  have hx1:=hx.mono s1.toE
  have hy1:=hy.mono s1.toE
  have k1:=k H1 s1
  have hx2:=hx1
  have hy2:=hy1
  cases hx1 with
  | non=>
   cases hy1
   refine aq ⟨(),rfl,(),ai (ai ?_)⟩
   exact ⟨(),(),rfl,(),lY ⟨(),_,_,_,(),hx2.ty,eG _,(),_,_,_,(),hy2.ty,eG _,rfl,js k1⟩⟩
  | str z=>
   cases hy1
   refine aq ⟨(),rfl,(),aq ⟨(),_,_,_,(),hy2.ty,eG _,(),ai ?_⟩⟩
   exact ⟨(),(),rfl,(),lY ⟨(),_,_,_,(),hx2.ty,eG _,(),_,_,_,(),hy2.ty,eG _,rfl,js k1⟩⟩
  | bl b=>
   cases hy1
   refine aq ⟨(),rfl,(),aq ⟨(),_,_,_,(),hy2.ty,eG _,(),aq ⟨(),_,_,_,(),hy2.ty,gA _,(),ai ?_⟩⟩⟩
   exact ⟨(),_,_,_,(),hx2.ty,gA _,(),ai ⟨(),(),rfl,js k1⟩⟩
  | int i=>
   cases hy1
   refine aq ⟨(),rfl,(),aq ⟨(),_,_,_,(),hy2.ty,eG _,(),aq ⟨(),_,_,_,(),hy2.ty,gA _,(),aq ?_⟩⟩⟩
   exact ⟨(),_,_,_,(),hx2.ty,oq _,(),ai ⟨(),_,_,_,(),hx2.ty,gA _,(),(),ai ⟨(),(),rfl,js k1⟩⟩⟩
  | @lst a1 xs ds h1 ne1 r1=>
   cases hy1 with
   | @lst a2 ys _ h2 ne2 r2=>
   refine ai ⟨(),_,_,_,(),hx2.ty,gu _,(),_,_,_,(),hy2.ty,gu _,rfl,(),jp ⟨(),_,_,_,(),hx2.ty,eJ _,(),_,_,_,(),hy2.ty,eJ _,rfl,(),jp ?_⟩⟩
   have el:xs.length=ys.length:=r1.length.trans r2.length.symm
   have ed:=r2.length
   refine ⟨(),a1,xs,rfl,.inl (aD.of h1),(),a2,ys,rfl,.inl (aD.of h2),rfl,(),?_⟩
   rw [el]
   refine lY ⟨(),(),a1,a2,true,true,rfl,⟨xs,aD.of h1⟩,⟨ys,aD.of h2⟩,fun D hD=>jc (n:=ys.length) (rW H1 D) ?_ ⟨rfl,aF,fy hD (au.refl _)⟩ ?_ ?_ ?_ ?_ ?_⟩
   ·rw [sizeLine_eq]
    have:=hd.1
    trivial
   ·rintro i H' zs ⟨rfl,q1,_⟩
    exact ⟨q1,by rw [List.length_map,List.length_replicate];exact Nat.le_refl _⟩
   ·rintro i H' zs hi ⟨_,_,q⟩
    exact ⟨xs,ys,xs[i],ys[i],aD.of (q _ _ h1),aD.of (q _ _ h2),by simp [el,hi],by simp [hi]⟩
   ·rintro H' zs ⟨_,_,q⟩
    exact ⟨xs,ys,aD.of (q _ _ h1),aD.of (q _ _ h2),.inl el⟩
   ·rintro i H' zs x H'' hi ⟨rfl,q1,q⟩ ⟨t,u,v,ht,rfl,rfl,e1,e2⟩
    have e1':=e1 xs (aD.of (q _ _ h1))
    have e2':=e2 ys (aD.of (q _ _ h2))
    obtain ⟨du,f1,g1⟩:=r1.get e1'
    obtain ⟨dv,f2,g2⟩:=r2.get e2'
    rw [f1] at f2
    cases f2
    have st:=q.trans (au.new (o:=.tup [u,v]) ht)
    refine ⟨t,(),bq.of aF,rfl,_,(),_,(),rfl,rX,(),(),u,v,du,E',rfl,g1.mono st.toE,g2.mono st.toE,hd.2 du (List.mem_of_getElem? f1),fun H3 s3=>?_⟩
    have qD:H3 D=some (.lst ((List.replicate i true).map V.bl)):=s3 _ _ (au.new (o:=.tup [u,v]) ht _ _ q1)
    exact ⟨qD,mP i,aF,fy hD (st.trans s3)⟩
   ·rintro H' zs ⟨rfl,q1,q⟩
    refine ⟨D,List.replicate ys.length true,rfl,aD.of q1,?_⟩
    rw [nM]
    exact k H' (s1.trans q)
  | @tup a1 xs ds h1 r1=>
   cases hy1 with
   | @tup a2 ys _ h2 r2=>
   refine ai ⟨(),_,_,_,(),hx2.ty,gu _,(),_,_,_,(),hy2.ty,gu _,rfl,(),jp ⟨(),_,_,_,(),hx2.ty,eJ _,(),_,_,_,(),hy2.ty,eJ _,rfl,(),jp ?_⟩⟩
   have el:xs.length=ys.length:=r1.length.trans r2.length.symm
   have ed:=r2.length
   refine ⟨(),a1,xs,rfl,.inr (bq.of h1),(),a2,ys,rfl,.inr (bq.of h2),rfl,(),?_⟩
   rw [el]
   refine lY ⟨(),(),a1,a2,false,false,rfl,⟨xs,bq.of h1⟩,⟨ys,bq.of h2⟩,fun D hD=>jc (n:=ys.length) (rW H1 D) ?_ ⟨rfl,aF,fy hD (au.refl _)⟩ ?_ ?_ ?_ ?_ ?_⟩
   ·rw [sizeLine_eq]
    have:=hd.1
    trivial
   ·rintro i H' zs ⟨rfl,q1,_⟩
    exact ⟨q1,by rw [List.length_map,List.length_replicate];exact Nat.le_refl _⟩
   ·rintro i H' zs hi ⟨_,_,q⟩
    exact ⟨xs,ys,xs[i],ys[i],bq.of (q _ _ h1),bq.of (q _ _ h2),by simp [el,hi],by simp [hi]⟩
   ·rintro H' zs ⟨_,_,q⟩
    exact ⟨xs,ys,bq.of (q _ _ h1),bq.of (q _ _ h2),.inl el⟩
   ·rintro i H' zs x H'' hi ⟨rfl,q1,q⟩ ⟨t,u,v,ht,rfl,rfl,e1,e2⟩
    have e1':=e1 xs (bq.of (q _ _ h1))
    have e2':=e2 ys (bq.of (q _ _ h2))
    obtain ⟨du,f1,g1⟩:=r1.get e1'
    obtain ⟨dv,f2,g2⟩:=r2.get e2'
    rw [f1] at f2
    cases f2
    have st:=q.trans (au.new (o:=.tup [u,v]) ht)
    refine ⟨t,(),bq.of aF,rfl,_,(),_,(),rfl,rX,(),(),u,v,du,E',rfl,g1.mono st.toE,g2.mono st.toE,hd.2 du (List.mem_of_getElem? f1),fun H3 s3=>?_⟩
    have qD:H3 D=some (.lst ((List.replicate i true).map V.bl)):=s3 _ _ (au.new (o:=.tup [u,v]) ht _ _ q1)
    exact ⟨qD,mP i,aF,fy hD (st.trans s3)⟩
   ·rintro H' zs ⟨rfl,q1,q⟩
    refine ⟨D,List.replicate ys.length true,rfl,aD.of q1,?_⟩
    rw [nM]
    exact k H' (s1.trans q)
end
end K65
namespace K65
open PySem L2
section
variable {P:Program}{w:World}{K:PySem.W.Frag}{mg:Str→Option Value}{base:Heap}
inductive uB (vs:List V) (H:Hp) (Q:VK):Prop
 | mk (n:Nat) (h0:vs=[.int n]) (h1:n<10 ^ 64) (h2:∀H',au H H'→Q (.str (S (dg n))) H')
def wT:Sp:=fun vs H Q _=>uB  vs H Q
theorem lK (T:Txt K mg):bv P w K mg base CX0 1 T.figures_of_.f T.figures_of_.d ["number"] wT:=by
 refine T.figures_of_.F.ok dY (fun vs H Q E h=>?_) (fun cdv A outer s H vs Q E hr h=>?_)
 ·obtain ⟨n,rfl,_⟩:=h
  rfl
 ·obtain ⟨n,rfl,hn,k⟩:=h
  refine ⟨_,#[#[1,dY.nd,di,#[fu 4 (@b4 _)]] :: #[#[jS 6 PassesOwn.never #[am 8 (@lX _) #[0,cx] #[af 8 (@c3 _) #[()] #[()]] #[(),()]] #[#[fM 6 #[(),(),(@m9 _),iK,T.b_divmod,(@iG),#[[#[0,cx],#[af 8 (@c3 _) #[()] #[()]]]]] (@fw _ (K) _ _ _ _ (2) rfl #[bf 5 #[0,dY.nd,cx] #[bf 5 #[2,dY.nd,iV] (@eh _) (by rfl)] (by rfl)] (by rfl) (by rfl) (by rfl)) (by rfl) (by rfl) (by rfl)] :: #[ae 3 #[sR 2]]]] :: #[#[tI 4 (@fz _ (K) _ _ _ _ _ _ _ _ _ _ _ PySem.F.plainAttrs_list PySem.F.slot_list_append PySem.F.type_list_append (@oA _) #[1,di] #[[#[bD 9 (@eL _) j2 T.b_str (@cn) #[[#[0,cx]]] (by decide) (by decide) (by rfl) (by rfl)]]] (by rfl) (by rfl) (by rfl) (by rfl) (by rfl) (by rfl)) (by rfl)] :: #[ae 3 #[ao 4 (@fz _ (K) _ _ _ _ _ _ _ _ _ _ _ PySem.F.plainAttrs_str PySem.F.slot_str_join PySem.F.type_str_join (@sr _ (K) (by rfl)) #[ah 4] #[[#[sA 8 #[1,di] #[b5 3 #[jr 6 (@hW _) #[()]]] (by rfl)]]] (by rfl) (by rfl) (by rfl) (by rfl) (by rfl) (by rfl))]]]]],?_⟩
  refine b7 fun Q1 nA1=>⟨(by show 0≤10000;decide),fun p H1 n1=>nA1 _ _ ?_⟩
  refine dh fun D2 nA2=>?_
  refine ⟨fun m σ H'=>m=0∧σ=[some (.int n),some (.ref p),none]∧H'=H1,⟨(),rfl,rfl⟩,?_⟩
  rintro m σ H' ⟨rfl,rfl,rfl⟩
  refine ⟨(),_,(),rfl,⟨by decide,by decide,by decide⟩,_,(),rfl,(),?_⟩
  have e:decide ((10:Int) ^ (64:Int).toNat≤(n:Int))=false:=decide_eq_false (by
   have:((10:Int) ^ (64:Int).toNat)=((10 ^ 64:Nat):Int):=by nofun
   rw [this]
   trivial)
  rw [e]
  refine aq (nA2 _ _ ?_)
  have hl:(n:Int).natAbs.log2<1920:=by
   rw [Int.natAbs_natCast]
   by_cases z:n=0
   ·rw [z];decide
   ·exact (Nat.log2_lt z).mpr (Nat.lt_trans hn (by nofun))
  refine dh fun D3 nA3=>⟨(),.inl ⟨rfl,_,aD.of n1.at'⟩,(),(),hl,p,[],(),rfl,n1.at',(by show 0≤10000;decide),fun H2 c2=>nA3 _ _ ?_⟩
  refine iR fun Q4 nA4=>?_
  have h2:H2 p=some (.lst [.str (S (dg n))]):=by
   rw [←oi]
   exact c2.at'
  refine ⟨rfl,(),(),(),rfl,p,(),aD.of h2,fun q H3 n3=>?_⟩
  refine ⟨q,[dg n],rfl,rfl,aD.of n3.at',?_,?_⟩
  ·have:(dg n).length≤64:=(eX (by decide)).mpr hn
   show (dg n).length+0≤10000
   trivial
  ·refine nA4 _ _ ?_
   rw [show [dg n].flatten=dg n from List.append_nil _]
   refine k H3 (au.trans (fun a o e=>?_) n3.sm)
   have:=n1.sm a o e
   exact c2.ol a _ (fun z=>by rw [z] at e;rw [n1.fr] at e;cases e) this
inductive uh (vs:List V) (H:Hp) (Q:VK):Prop
 | mk (p:Addr) (n d:Int) (h0:vs=[.ref p]) (h1:H p=some (.tup [.int n,.int d])) (h2:n.natAbs<10 ^ 64) (h3:1≤d) (h4:d<10 ^ 64) (h5:∀H',au H H'→Q (.str (S (eQ n d))) H')
def rJ:Sp:=fun vs H Q _=>uh  vs H Q
theorem gC (T:Txt K mg):bv P w K mg base CX0 2 T.fraction_text_.f T.fraction_text_.d ["one"] rJ:=by
 have G_figures_of:=#[(lK)]
 refine T.fraction_text_.F.ok d8 (fun vs H Q E h=>?_) (fun cdv A outer s H vs Q E hr h=>?_)
 ·obtain ⟨p,n,d,rfl,_⟩:=h
  rfl
 ·obtain ⟨p,n,d,rfl,hp,hn,hd0,hd1,k⟩:=h
  refine ⟨_,#[#[1,d8.nd,eU,#[bz 8 #[am 8 (@oC _) #[#[0,cy][#[()]]] #[()] #[(),()]] #[ah 4] #[ah 4]]] :: #[#[2,d8.nd,cW,#[af 8 (@gZ _) #[1,eU] #[G_figures_of,dc,T.figures_of_,#[[#[(),(),(@fk _),iP,T.b_abs,(@dJ),#[[#[#[0,cy][#[()]]]]]]]]]]] :: #[ae 3 #[ao 4 #[bz 8 #[am 8 (@bg _) #[#[0,cy][#[()]]] #[()] #[(),()]] #[2,cW] #[sU 6 #[pf 6 #[2,cW] #[u4 6 #[pf 6 #[G_figures_of,dc,T.figures_of_,#[[#[#[0,cy][#[()]]]]]] (@vn _)]]]]]]]]],?_⟩
  have e0:e8 [V.int n,V.int d] 0=some (.int n):=rfl
  have e1:e8 [V.int n,V.int d] 1=some (.int d):=rfl
  refine b7 fun Q1 nA1=>⟨(),p,_,0,(),rfl,bq.of hp,e0,_,(),rfl,(),?_⟩
  have fin:∀sg:List Nat,cb n=sg++dg n.natAbs→sg.length≤1→Q1 (.str (S sg)) H:=fun sg es ls=>by
   refine nA1 _ _ ?_
   refine b7 fun Q2 nA2=>⟨(),(),p,_,0,(),rfl,bq.of hp,e0,(),n.natAbs,(by rw [List.append_nil];congr 2;split <;> trivial),hn,fun H2 s2=>⟨sg,dg n.natAbs,rfl,rfl,?_,nA2 _ _ ?_⟩⟩
   ·have:(dg n.natAbs).length≤64:=(eX (by decide)).mpr hn
    trivial
   have lw:(cb n).length≤65:=by
    have:(dg n.natAbs).length≤64:=(eX (by decide)).mpr hn
    rw [es,List.length_append]
    trivial
   rw [←es]
   have hp2:=s2 _ _ hp
   refine iR fun Q3 nA3=>⟨(),p,_,1,(),rfl,bq.of hp2,e1,rfl,(),?_⟩
   by_cases h1:d=1
   ·subst h1
    refine ai ⟨(),nA3 _ _ ?_⟩
    exact k H2 s2
   ·rw [decide_eq_false (fun z=>h1 (by injection z))]
    have ld:(dg d.natAbs).length≤64:=(eX (by decide)).mpr (by trivial)
    have es2:∀a b:List Nat,S a++S b=S (a++b):=fun a b=>gM a b
    have el:(Str.ofString "/")=S [47]:=by nofun
    refine aq ⟨(),S (cb n),rfl,?_,?_,(),p,_,1,(),rfl,bq.of hp2,e1,d.natAbs,?_,by trivial,fun H3 s3=>⟨(),?_,?_,nA3 _ _ ?_⟩⟩
    ·rw [show Str.empty=S [] from rfl,es2,aY,List.length_append]
     show 0+_≤10000
     trivial
    ·rw [show Str.empty=S [] from rfl,es2,el,es2,aY,List.length_append,List.length_append]
     show 0+_+1≤10000
     trivial
    ·rw [List.append_nil]
     congr 2
     trivial
    ·rw [show Str.empty=S [] from rfl,es2,el,es2,es2,aY,List.length_append,List.length_append,List.length_append]
     show 0+_+1+_≤10000
     trivial
    ·rw [show Str.empty=S [] from rfl,es2,el,es2,es2,aY,List.length_append,List.length_append,List.length_append]
     show 0+_+1+_≤10000
     trivial
    ·have:=k H3 (s2.trans s3)
     rw [show Str.empty=S [] from rfl,es2,el,es2,es2,show []++cb n++[47]++dg d.natAbs=eQ n d by
      unfold eQ
      rw [if_neg h1,List.nil_append,List.append_assoc]
      rfl]
     exact this
  by_cases h:n<0
  ·rw [decide_eq_true h]
   refine ai ?_
   have:=fin [45] (by unfold cb;rw [if_pos h];rfl) (by decide)
   exact this
  ·rw [decide_eq_false h]
   refine aq ?_
   have:=fin [] (by unfold cb;rw [if_neg h];rfl) (by decide)
   exact this
end
end K65
namespace K65
open PySem L2 PySem.NumText
section
variable {P:Program}{w:World}{K:PySem.W.Frag}{mg:Str→Option Value}{base:Heap}
theorem pH (a b:Nat):decide ([a] < [b])=decide (a<b):=by
 by_cases h:a<b
 ·rw [decide_eq_true h];exact decide_eq_true (List.Lex.rel h)
 ·rw [decide_eq_false h]
  apply decide_eq_false
  intro z
  cases z with
  | rel q=>exact h q
  | cons q=>cases q
theorem xi (c:Nat):(!decide ((S [c]).cps.toList<(Str.ofString "0").cps.toList))=decide (48≤c):=by
 have e:(Str.ofString "0").cps.toList=[48]:=by nofun
 rw [e]
 show (!decide ([c] < [48]))=_
 rw [pH]
 by_cases h:c<48
 ·rw [decide_eq_true h,decide_eq_false (by trivial)];rfl
 ·rw [decide_eq_false h,decide_eq_true (by trivial)];rfl
theorem xz (c:Nat):(!decide ((Str.ofString "9").cps.toList<(S [c]).cps.toList))=decide (c≤57):=by
 have e:(Str.ofString "9").cps.toList=[57]:=by nofun
 rw [e]
 show (!decide ([57] < [c]))=_
 rw [pH]
 by_cases h:57<c
 ·rw [decide_eq_true h,decide_eq_false (by trivial)];rfl
 ·rw [decide_eq_false h,decide_eq_true (by trivial)];rfl
inductive tW (vs:List V) (H:Hp) (Q:VK):Prop
 | mk (cs:List Nat) (h0:vs=[.str (S cs),.int 40]) (h1:cs.length≤10000) (h2:∀H',au H H'→Q (.bl (cV cs)) H')
def wH:Sp:=fun vs H Q _=>tW  vs H Q
theorem ik {cs:List Nat} (h:¬(1≤cs.length∧cs.length≤40)):cV cs=false:=by
 unfold cV
 by_cases h1:1≤cs.length
 ·rw [decide_eq_false (fun z=>h ⟨h1,z⟩),Bool.and_false,Bool.false_and,Bool.false_and]
 ·rw [decide_eq_false h1,Bool.false_and,Bool.false_and,Bool.false_and]
theorem nY {cs:List Nat} (h1:1≤cs.length) (h2:cs.length≤40):cV cs=(cs.all ci && (cs==[48] || !(cs.head?==some 48))):=by
 unfold cV
 rw [decide_eq_true h1,decide_eq_true h2]
 rfl
theorem eF (a b:List Nat):decide (V.str (S a)=V.str (S b))=(a==b):=by
 by_cases h:a=b
 ·rw [h,decide_eq_true rfl];simp
 ·rw [decide_eq_false (fun z=>h (lZ (by injection z)))]
  simpa using h
theorem s0:(Str.ofString "0")=S [48]:=by nofun
theorem kS (T:Txt K mg):bv P w K mg base CX0 1 T.are_figures_.f T.are_figures_.d ["text", "most"] wH:=by
 refine T.are_figures_.F.ok kR (fun vs H Q E h=>?_) (fun cdv A outer s H vs Q E hr h=>?_)
 ·obtain ⟨cs,rfl,_⟩:=h
  rfl
 ·obtain ⟨cs,rfl,hz,k⟩:=h
  refine ⟨_,#[#[aU 8 #[PW.pt 3 #[cS 7 #[cZ 4 #[mY 12 (@lV _) (@lV _) #[()] #[(),(),(@jf _),jJ,T.b_len,(@bJ),#[[#[0,cJ]]]] #[1,i7] (by with_unfolding_all rfl)]] #[cY 4 #[cZ 4 #[bn 3 #[(),(),(@oQ _ (K) rfl (by rfl)),jz,T.b_all,(@iB),#[[#[jY 7 (["sign"]) (1) ([]) _ _ _ _ rfl (by kernel_rfl) #[o4 4 #[0,cJ]] (fun _ _ _ _ _ _=>#[0,(),()]) (fun _ _ _ _ _ _=>@jW _) (fun _ _ _ _ _ _=>#[qC 12 (@pi _) (@pi _) #[ah 4] #[0,()] #[ah 4] (by with_unfolding_all rfl)]) (by intro _;rfl)]]]] (by intro _;rfl)]]]]] #[ae 3 #[ao 4 #[eS 4]]] (@aC _)] :: #[ae 3 #[ao 4 #[vV 7 #[cq 8 (@bg _) #[0,cJ] #[ah 4] #[(),()]] #[gv 5 #[cq 8 (@gh _) #[dE 7 (@kd _) #[0,cJ] #[()] (fun _ _=>rfl)] #[ah 4] #[(),()]]]]]]],?_⟩
  have k0:=k H (au.refl _)
  refine dj fun D1 nD1 rD1=>⟨(),S cs,rfl,by rw [aY];exact hz,_,(),rfl,(),?_⟩
  rw [aY]
  by_cases h1:1≤cs.length
  case neg=>
   rw [ik (fun z=>h1 z.1)] at k0
   rw [decide_eq_false (by trivial)]
   exact aq ⟨(),ai (rD1 _ _ k0)⟩
  rw [decide_eq_true (by trivial)]
  refine ai ⟨(),_,(),rfl,(),?_⟩
  by_cases h2:cs.length≤40
  case neg=>
   rw [ik (fun z=>h2 z.2)] at k0
   rw [decide_eq_false (by trivial)]
   exact ai (rD1 _ _ k0)
  rw [decide_eq_true (by trivial)]
  refine aq ?_
  refine ⟨(),S cs,rfl,fun D hD=>ly (l:=cs) (fun i=>.bl (ci ((cs[i]?).getD 0))) (by trivial) hD ?_ ?_⟩
  ·intro i c H' R hc sm kk
   rw [hc] at kk
   refine ⟨r6,(),_,(),rfl,(),?_⟩
   rw [xi]
   have k1:=kk H' (au.refl _)
   simp only [Option.getD_some] at k1
   unfold ci at k1
   by_cases q1:48≤c
   ·rw [decide_eq_true q1,Bool.true_and] at k1
    rw [decide_eq_true q1]
    refine ai ⟨_,(),rfl,?_⟩
    rw [xz];exact k1
   ·rw [decide_eq_false q1,Bool.false_and] at k1
    rw [decide_eq_false q1]
    exact aq k1
  ·intro H1 s1 hD1
   rw [iH (fun i=>V.bl (ci ((cs[i]?).getD 0))) (fun c=>V.bl (ci c)) cs (fun i x e=>by rw [e];rfl)] at hD1
   have e3:cs.map (fun c=>V.bl (ci c))=(cs.map ci).map V.bl:=by rw [List.map_map];rfl
   rw [e3] at hD1
   refine ⟨D,(),aD.of hD1,?_⟩
   have k1:=k H1 s1
   rw [nY h1 h2] at k1
   rw [show (cs.map ci).all id=cs.all ci by rw [List.all_map];rfl]
   cases ha:cs.all ci with
   | false=>
    rw [ha] at k1
    exact ⟨(),ai (rD1 _ _ k1)⟩
   | true=>
    rw [ha] at k1
    refine ⟨(),aq (nD1 _ _ ?_)⟩
    rw [Bool.true_and] at k1
    refine ⟨(),rfl,(),?_⟩
    rw [s0,eF]
    cases hb:(cs==[48]) with
    | true=>rw [hb] at k1;exact ai k1
    | false=>
     rw [hb] at k1
     obtain ⟨c,r,rfl⟩:aX fun c r=>cs=c :: r:=by
      cases cs with
      | nil=>exact absurd h1 (by decide)
      | cons c r=>exact ⟨c,r,rfl⟩
     refine aq ⟨(),_,0,c,rfl,rfl,?_,fD (j:=0) rfl,rfl,?_⟩
     ·exact dL (by rw [aY];exact hz)
     ·have:decide (V.str ⟨#[c]⟩=V.str (S [48]))=(some c==some 48):=by
       rw [show (⟨#[c]⟩:Str)=S [c] from rfl,eF]
       by_cases q:c=48
       ·subst q;rfl
       ·simp [q]
      rw [this]
      exact k1
theorem wD {c:Nat} (h:c<128):(!(Builtin.Str.occurrences (Str.ofString "0123456789") (S [c]) 0 (Str.ofString "0123456789").length 1).isEmpty)=ci c:=by
 have:=(List.all_eq_true.mp (show (List.range 128).all (fun c=>(!(Builtin.Str.occurrences (Str.ofString "0123456789") (S [c]) 0 (Str.ofString "0123456789").length 1).isEmpty)==ci c)=true by nofun)) c (List.mem_range.mpr h)
 exact eq_of_beq this
def vN:Option Nat→V
 | some n=>.int n
 | none=>.non
inductive vK (vs:List V) (H:Hp) (Q:VK):Prop
 | mk (cs:List Nat) (h0:vs=[.str (S cs)]) (h1:cs.length≤10000) (h2:(∀c∈cs,c<128)) (h3:∀H',au H H'→Q (vN (aZ cs)) H')
def xG:Sp:=fun vs H Q _=>vK  vs H Q
theorem me (T:Txt K mg):bv P w K mg base CX0 1 T.l_number_of_.f T.l_number_of_.d ["_law_text"] xG:=by
 refine T.l_number_of_.F.ok kT (fun vs H Q E h=>?_) (fun cdv A outer s H vs Q E hr h=>?_)
 ·obtain ⟨cs,rfl,_⟩:=h
  rfl
 ·obtain ⟨cs,rfl,hz,ha,k⟩:=h
  refine ⟨_,#[#[aU 8 #[PW.pt 3 #[cS 7 #[cZ 4 #[mY 12 (@lV _) (@lV _) #[()] #[(),(),(@jf _),jB,T.b_len,(@bJ),#[[#[0,bH]]]] #[()] (by with_unfolding_all rfl)]] #[cY 4 #[cZ 4 #[bn 3 #[(),(),(@oQ _ (K) rfl (by rfl)),jA,T.b_all,(@iB),#[[#[jY 7 (["_law_sign"]) (1) ([]) _ _ _ _ rfl (by kernel_rfl) #[o4 4 #[0,bH]] (fun _ _ _ _ _ _=>#[0,(),()]) (fun _ _ _ _ _ _=>@jW _) (fun _ _ _ _ _ _=>#[cq 8 (@u6 _) #[0,()] #[ah 4] rfl]) (by intro _;rfl)]]]] (by intro _;rfl)]]]]] #[ae 3 #[ao 4 #[bw 3]]] (@aC _)] :: #[ae 3 #[ao 4 #[bz 8 #[PW.pt 3 #[cS 7 #[am 8 (@bg _) #[0,bH] #[ah 4] #[(),()]] #[cY 4 #[am 8 (@gh _) #[dE 7 (@kd _) #[0,bH] #[()] (fun _ _=>rfl)] #[ah 4] #[(),()]]]]] #[bD 9 (@fP _) jH T.b_int (@bG) #[[#[0,bH]]] (by decide) (by decide) (by rfl) (by rfl)] #[bw 3]]]]],?_⟩
  have k0:=k H (au.refl _)
  have no:cV cs=false→aZ cs=none:=fun z=>by unfold aZ;rw [z];rfl
  refine dj fun D1 nD1 rD1=>⟨(),S cs,rfl,by rw [aY];exact hz,_,(),rfl,(),?_⟩
  rw [aY]
  by_cases h1:1≤cs.length
  case neg=>
   rw [no (ik (fun z=>h1 z.1))] at k0
   rw [decide_eq_false (by trivial)]
   exact aq ⟨(),ai (rD1 _ _ k0)⟩
  rw [decide_eq_true (by trivial)]
  refine ai ⟨_,(),rfl,(),?_⟩
  by_cases h2:cs.length≤40
  case neg=>
   rw [no (ik (fun z=>h2 z.2))] at k0
   rw [decide_eq_false (by trivial)]
   exact ai (rD1 _ _ k0)
  rw [decide_eq_true (by trivial)]
  refine aq ?_
  refine ⟨(),S cs,rfl,fun D hD=>ly (l:=cs) (fun i=>.bl (ci ((cs[i]?).getD 0))) (by trivial) hD ?_ ?_⟩
  ·intro i c H' R hc sm kk
   rw [hc] at kk
   refine ⟨r6,(),_,(),rfl,?_⟩
   have k1:=kk H' (au.refl _)
   simp only [Option.getD_some] at k1
   rw [wD (ha c (List.mem_of_getElem? hc))]
   exact k1
  ·intro H1 s1 hD1
   rw [iH (fun i=>V.bl (ci ((cs[i]?).getD 0))) (fun c=>V.bl (ci c)) cs (fun i x e=>by rw [e];rfl)] at hD1
   have e3:cs.map (fun c=>V.bl (ci c))=(cs.map ci).map V.bl:=by rw [List.map_map];rfl
   rw [e3] at hD1
   refine ⟨D,(),aD.of hD1,?_⟩
   have k1:=k H1 s1
   have ei:=nY h1 h2
   rw [show (cs.map ci).all id=cs.all ci by rw [List.all_map];rfl]
   cases hb:cs.all ci with
   | false=>
    rw [hb,Bool.false_and] at ei
    rw [no ei] at k1
    exact ⟨(),ai (rD1 _ _ k1)⟩
   | true=>
    rw [hb,Bool.true_and] at ei
    refine ⟨(),aq (nD1 _ _ ?_)⟩
    refine iR fun Q5 nA5=>?_
    have yes:cV cs=true→rT rS (j9 (mv 0) qK) [some (V.str (S cs))] H1 Q5:=fun z=>by
     have fd:=fA z
     rw [show aZ cs=some (digitsVal cs) by unfold aZ;rw [if_pos z]] at k1
     refine ⟨(),S cs,digitsVal cs,rfl,intText_digits fd.2.1 fd.2.2.1 (by rw [aY];have:=fd.2.2.2;trivial),by rw [aY];have:=fd.2.2.2;trivial,nA5 _ _ k1⟩
    refine ⟨(),rfl,(),?_⟩
    rw [s0,eF]
    cases hc:(cs==[48]) with
    | true=>
     rw [hc] at ei
     exact ai (ai (yes ei))
    | false=>
     rw [hc,Bool.false_or] at ei
     obtain ⟨c,r,rfl⟩:aX fun c r=>cs=c :: r:=by
      cases cs with
      | nil=>exact absurd h1 (by decide)
      | cons c r=>exact ⟨c,r,rfl⟩
     refine aq ⟨(),_,0,c,rfl,rfl,?_,fD (j:=0) rfl,rfl,(),?_⟩
     ·exact dL (by rw [aY];exact hz)
     ·have:decide (V.str ⟨#[c]⟩=V.str (S [48]))=(some c==some 48):=by
       rw [show (⟨#[c]⟩:Str)=S [c] from rfl,eF]
       by_cases q:c=48
       ·subst q;rfl
       ·simp [q]
      rw [this]
      rw [show (c :: r).head?=some c from rfl] at ei
      cases hd:(some c==some 48) with
      | true=>
       rw [hd] at ei
       rw [no ei] at k1
       exact aq (nA5 _ _ k1)
      | false=>
       rw [hd] at ei
       exact ai (yes ei)
end
end K65
namespace K65
open PySem L2 PySem.NumText
section
variable {P:Program}{w:World}{K:PySem.W.Frag}{mg:Str→Option Value}{base:Heap}
inductive uN (vs:List V) (H:Hp) (Q:VK):Prop
 | mk (cs:List Nat) (h0:vs=[.str (S cs)]) (h1:cs.length≤10000) (h2:∀v H',au H H'→pA H H' (cA cs) v→Q v H')
def vT:Sp:=fun vs H Q _=>uN  vs H Q
theorem iL (T:Txt K mg):bv P w K mg base CX0 3 T.fraction_or_none_.f T.fraction_or_none_.d ["text"] vT:=by
 have G_are_figures:=#[(kS)]
 have G_is_fraction:=#[(ku)]
 refine T.fraction_or_none_.F.ok aV (fun vs H Q E h=>?_) (fun cdv A outer s H vs Q E hr h=>?_)
 ·obtain ⟨cs,rfl,_⟩:=h
  rfl
 ·obtain ⟨cs,rfl,hz,k⟩:=h
  refine ⟨_,#[#[fM 6 (@fz _ (K) _ _ _ _ _ _ _ _ _ _ _ PySem.F.plainAttrs_str PySem.F.slot_str_partition PySem.F.type_str_partition (@nN _) #[0,gF] #[[#[ah 4]]] (by rfl) (by rfl) (by rfl) (by rfl) (by rfl) (by rfl)) (@fw _ (K) _ _ _ _ (3) rfl #[bf 5 #[1,aV.nd,bX] #[bf 5 #[2,aV.nd,dz] #[bf 5 #[3,aV.nd,bF] (@eh _) (by rfl)] (by rfl)] (by rfl)] (by rfl) (by rfl) (by rfl)) (by rfl) (by rfl) (by rfl)] :: #[#[4,aV.nd,bL,(@fz _ (K) _ _ _ _ _ _ _ _ _ _ _ PySem.F.plainAttrs_str PySem.F.slot_str_startswith PySem.F.type_str_startswith (@pX _) #[1,bX] #[[#[ah 4]]] (by rfl) (by rfl) (by rfl) (by rfl) (by rfl) (by rfl))] :: #[#[5,aV.nd,bd,#[bz 8 #[bn 3 #[4,bL] (by intro _;rfl)] #[cK 10 (@kJ _) #[1,bX] #[b5 3 #[()]] (@ej _)] #[1,bX]]] :: #[#[aU 8 #[PW.pt 3 #[cS 7 #[cZ 4 #[bn 3 #[G_are_figures,cI,T.are_figures_,#[[#[5,bd],#[()]]]] (by intro _;rfl)]] #[cY 4 #[PW.pt 3 #[ka 7 #[bn 3 #[4,bL] (by intro _;rfl)] #[jy 4 #[am 8 (@bg _) #[5,bd] #[ah 4] #[(),()]]]]]]]] #[ae 3 #[ao 4 #[bw 3]]] (@aC _)] :: #[#[6,aV.nd,da,#[bz 8 #[bn 3 #[4,bL] (by intro _;rfl)] #[jr 6 (@hW _) #[bD 9 (@fP _) cQ T.b_int (@bG) #[[#[5,bd]]] (by decide) (by decide) (by rfl) (by rfl)]] #[bD 9 (@fP _) cQ T.b_int (@bG) #[[#[5,bd]]] (by decide) (by decide) (by rfl) (by rfl)]]] :: #[#[aU 8 #[am 8 (@bg _) #[2,dz] #[ah 4] #[(),()]] #[ae 3 #[ao 4 #[bh 5 #[[#[6,da],#[()]]]]]] (@aC _)] :: #[#[aU 8 #[PW.pt 3 #[cS 7 #[cZ 4 #[bn 3 #[G_are_figures,cI,T.are_figures_,#[[#[3,bF],#[()]]]] (by intro _;rfl)]] #[cY 4 #[am 8 (@bg _) #[3,bF] #[ah 4] #[(),()]]]]] #[ae 3 #[ao 4 #[bw 3]]] (@aC _)] :: #[#[7,aV.nd,cN,#[bh 5 #[[#[6,da],#[bD 9 (@fP _) cQ T.b_int (@bG) #[[#[3,bF]]] (by decide) (by decide) (by rfl) (by rfl)]]]]] :: #[ae 3 #[ao 4 #[bz 8 #[bn 3 #[G_is_fraction,eV,T.is_fraction_,#[[#[7,cN]]]] (by intro _;rfl)] #[7,cN] #[bw 3]]]]]]]]]]]],?_⟩
  have el:(Str.ofString "/")=S [47]:=by nofun
  have em:(Str.ofString "-")=S [45]:=by nofun
  refine dh fun D1 nD1=>⟨(),rfl,S cs,(),rfl,by nofun,by rw [aY];exact hz,fun l H1 n1=>?_⟩
  rw [el] at n1
  obtain ⟨t,sl,b,ep,hc⟩:=uT cs
  obtain ⟨lt,lb,_⟩:=id hc
  rw [ep] at n1
  refine ⟨l,(),bq.of n1.at',rfl,_,(),_,(),_,(),rfl,nD1 _ _ ?_⟩
  have s1:=n1.sm
  refine b7 fun Q2 nA2=>⟨(),rfl,S t,(),rfl,nA2 _ _ ?_⟩
  rw [em,qk]
  clear nA2 Q2 nD1 D1
  have et:∀bl,(t.head?==some 45)=bl→bA t=oR bl (aZ (if bl=true then t.drop 1 else t)):=fun bl h=>pU t h
  revert et
  generalize (t.head?==some 45)=bl
  intro et
  have et:=et bl rfl
  refine b7 fun Q3 nA3=>⟨(),(),?_⟩
  have fin:∀fg:List Nat,bA t=oR bl (aZ fg)→fg.length≤10000→Q3 (.str (S fg)) H1:=fun fg etp lf=>by
   refine nA3 _ _ ?_
   clear nA3 Q3 et
   have e0:(Str.ofString "0")=S [48]:=s0
   refine dj fun D4 nD4 rD4=>⟨(),fg,rfl,lf,fun H2 s2=>⟨(),?_⟩⟩
   cases hf:cV fg with
   | false=>
    rw [og hf] at etp
    refine ai (rD4 _ _ (k .non H2 (s1.trans s2) ?_))
    rw [hc.no (by rw [etp];cases bl <;> rfl)]
    rfl
   | true=>
   rw [nI hf] at etp
   have fd:=fA hf
   have it:intText? (S fg)=some ((digitsVal fg:Nat):Int):=intText_digits fd.2.1 fd.2.2.1 (by rw [aY];have:=fd.2.2.2;trivial)
   have l640:(S fg).length≤640:=by rw [aY];have:=fd.2.2.2;trivial
   refine aq ?_
   refine mr bl (fg==[48]) (fun R' r=>⟨(),(),r⟩) (fun R' r=>⟨(),rfl,(),by rw [e0,eF];exact r⟩) ?_
   cases hb:(bl && (fg==[48])) with
   | true=>
    rw [Bool.and_eq_true] at hb
    have z0:=(kZ hf).mp (eq_of_beq hb.2)
    rw [z0,hb.1] at etp
    refine ai (rD4 _ _ (k .non H2 (s1.trans s2) ?_))
    rw [hc.no etp]
    rfl
   | false=>
   refine aq (nD4 _ _ ?_)
   obtain ⟨nn,en,ev⟩:∃nn:Int,bA t=some nn∧nn=(if bl=true then -((digitsVal fg:Nat):Int) else ((digitsVal fg:Nat):Int)):=by
    cases bl with
    | false=>exact ⟨_,etp,rfl⟩
    | true=>
     rw [Bool.true_and] at hb
     cases ed:digitsVal fg with
     | zero=>rw [(kZ hf).mpr ed] at hb;exact absurd hb (by decide)
     | succ m=>rw [ed] at etp;exact ⟨_,etp,rfl⟩
   clear nD4 rD4 D4 hb
   refine b7 fun Q5 nA5=>⟨(),(),?_⟩
   suffices f5:Q5 (.int nn) H2 by
    cases bl with
    | true=>rw [if_pos rfl] at ev;rw [ev] at f5;exact ai ⟨_,rfl,S fg,_,rfl,it,l640,_,rfl,f5⟩
    | false=>rw [if_neg Bool.false_ne_true] at ev;rw [ev] at f5;exact aq ⟨_,rfl,S fg,_,rfl,it,l640,f5⟩
   refine nA5 _ _ ?_
   clear nA5 Q5 ev it l640 fd
   have s12:=s1.trans s2
   refine dj fun D6 nD6 rD6=>⟨(),rfl,(),?_⟩
   have ee:(Str.ofString "")=S []:=rq
   rw [ee]
   show if decide (V.str (S sl)=V.str (S []))=true then _ else _
   rw [eF]
   rcases hc.sl with rfl | rfl
   ·refine ai ⟨(),(by show 2≤10000;decide),fun q H3 n3=>rD6 _ _ (k _ H3 (s12.trans n3.sm) ?_)⟩
    rw [hc.bare en]
    exact ⟨q,rfl,s12.free n3.fr,n3.at'⟩
   refine aq (nD6 _ _ ?_)
   have eo:=hc.over en
   clear nD6 rD6 D6
   refine dj fun D7 nD7 rD7=>⟨(),b,rfl,by trivial,fun H3 s3=>⟨(),?_⟩⟩
   have s13:=s12.trans s3
   cases hg:cV b with
   | false=>
    rw [og hg] at eo
    refine ai (rD7 _ _ (k .non H3 s13 ?_))
    rw [eo]
    rfl
   | true=>
   rw [nI hg] at eo
   have fd:=fA hg
   have it:intText? (S b)=some ((digitsVal b:Nat):Int):=intText_digits fd.2.1 fd.2.2.1 (by rw [aY];have:=fd.2.2.2;trivial)
   have l640:(S b).length≤640:=by rw [aY];have:=fd.2.2.2;trivial
   refine aq ⟨(),rfl,(),?_⟩
   have e1:(Str.ofString "1")=S [49]:=by nofun
   rw [e1]
   show if decide (V.str (S b)=V.str (S [49]))=true then _ else _
   rw [eF]
   cases h9:(b==[49]) with
   | true=>
    have z1:=(my hg).mp (eq_of_beq h9)
    refine ai (rD7 _ _ (k .non H3 s13 ?_))
    rw [eo]
    show pA _ _ (if 2≤digitsVal b∧_ then _ else _) _
    rw [if_neg (fun z=>by trivial)]
    rfl
   | false=>
   refine aq (nD7 _ _ ?_)
   have n1':digitsVal b≠1:=fun z=>by rw [(my hg).mpr z] at h9;exact absurd h9 (by decide)
   refine b7 fun Q8 nA8=>⟨(),(),S b,(),it,l640,(by show 2≤10000;decide),fun q H4 n4=>nA8 _ _ ?_⟩
   have s14:=s13.trans n4.sm
   refine iR fun Q9 nA9=>⟨(),_,.tuple [.int nn,.int (digitsVal b:Nat)],fun _=>True,rfl,.tup n4.at' (.cons (.int _) (.cons (.int _) .nil)),(),?_⟩
   show if (decide ((1:Int)≤((digitsVal b:Nat):Int)) && decide (Int.gcd nn ((digitsVal b:Nat):Int)=1))=true then _ else _
   have eg:Int.gcd nn ((digitsVal b:Nat):Int)=Nat.gcd nn.natAbs (digitsVal b):=rfl
   rw [eg]
   by_cases g1:2≤digitsVal b∧Nat.gcd nn.natAbs (digitsVal b)=1
   ·rw [decide_eq_true (by trivial),decide_eq_true g1.2]
    refine ai ⟨(),nA9 _ _ (k _ H4 s14 ?_)⟩
    rw [eo]
    show pA _ _ (if 2≤digitsVal b∧Nat.gcd nn.natAbs (digitsVal b)=1 then _ else _) _
    rw [if_pos g1]
    exact ⟨q,rfl,s13.free n4.fr,n4.at'⟩
   ·have:(decide ((1:Int)≤((digitsVal b:Nat):Int)) && decide (Nat.gcd nn.natAbs (digitsVal b)=1))=false:=by
     by_cases g0:digitsVal b=0
     ·rw [decide_eq_false (by trivial)];rfl
     ·rw [decide_eq_false (p:=Nat.gcd nn.natAbs (digitsVal b)=1) (fun z=>g1 ⟨by trivial,z⟩),Bool.and_false]
    rw [this]
    refine aq (nA9 _ _ (k _ H4 s14 ?_))
    rw [eo]
    show pA _ _ (if 2≤digitsVal b∧Nat.gcd nn.natAbs (digitsVal b)=1 then _ else _) _
    rw [if_neg g1]
    rfl
  cases bl with
  | true=>
   rw [if_pos rfl] at et
   refine ai ⟨(),(),t,rfl,by trivial,by decide,by decide,?_⟩
   have:=fin (t.drop 1) et (by rw [List.length_drop];trivial)
   rw [←j5] at this
   exact this
  | false=>
   rw [if_neg Bool.false_ne_true] at et
   exact aq ⟨(),fin t et (by trivial)⟩
end
end K65
namespace K65
open PySem L2 PySem.NumText
section
variable {P:Program}{w:World}{K:PySem.W.Frag}{mg:Str→Option Value}{base:Heap}
inductive wF (vs:List V) (H:Hp) (Q:VK):Prop
 | mk (cs:List Nat) (h0:vs=[.str (S cs)]) (h1:cs.length≤9000) (h2:(∀c∈cs,c<128)) (h3:∀v H',au H H'→pA H H' (cA cs) v→Q v H')
def xx:Sp:=fun vs H Q _=>wF  vs H Q
def t1 (m:Nat) (o dO:Option Nat):Bool:=decide (2<m) || (decide (vN o=.non) || (decide (vN dO=.non) || decide (vN dO=.int 0)))
theorem pe (o:Option Nat):decide (vN o=.non)=o.isNone:=by
 cases o with
 | none=>rfl
 | some n=>exact decide_eq_false (fun z=>nomatch z)
theorem mU (n k:Nat):decide (vN (some n)=.int k)=decide (n=k):=decide_eq_decide.mpr ⟨fun z=>by injection z with z;trivial,fun z=>by rw [z];rfl⟩
theorem qH (m:Nat) (o dO:Option Nat):(t1 m o dO=true∧(o=none∨dO=none∨2<m∨dO=some 0∨m=2∧dO=some 1))∨(t1 m o dO=false∧aX fun n d=>o=some n∧dO=some d∧d≠0∧m≤2):=by
 unfold t1
 by_cases h:2<m
 ·rw [decide_eq_true h];exact .inl ⟨rfl,.inr (.inr (.inl h))⟩
 rw [decide_eq_false h,Bool.false_or,pe,pe]
 cases o with
 | none=>exact .inl ⟨rfl,.inl rfl⟩
 | some n=>
  cases dO with
  | none=>exact .inl ⟨rfl,.inr (.inl rfl)⟩
  | some d=>
   have:=mU d 0
   rw [show decide (vN (some d)=V.int 0)=decide (d=0) from this]
   by_cases z:d=0
   ·subst z;exact .inl ⟨rfl,.inr (.inr (.inr (.inl rfl)))⟩
   ·rw [decide_eq_false z];exact .inr ⟨rfl,n,d,rfl,rfl,z,by trivial⟩
theorem tf {n e:Int} (h:1≤e):PyData.eqv (nL (KM.low n e)) (.tuple [.int n,.int e])=decide (Int.gcd n e=1):=by
 have e1:PyData.eqv (nL (KM.low n e)) (.tuple [.int n,.int e])=((KM.low n e).1==n && ((KM.low n e).2==e && true)):=by
  simp [PyData.eqv,PyData.eqvAll]
 rw [e1]
 obtain ⟨_,_,c,_⟩:=KM.low_spec n e (by trivial)
 by_cases g:Int.gcd n e=1
 ·rw [KM.low_self h g,g];simp
 ·rw [decide_eq_false g]
  by_cases q1:(KM.low n e).1=n
  ·by_cases q2:(KM.low n e).2=e
   ·rw [q1,q2] at c;exact absurd c g
   ·simp [q2]
  ·simp [q1]
theorem nK {cs:List Nat}{n:Nat} (h:aZ cs=some n):n<10 ^ 40:=by
 unfold aZ at h
 by_cases f:cV cs=true
 ·rw [if_pos f] at h
  cases h
  have:=fA f
  exact (eX (by decide)).mp (by rw [this.1];exact this.2.2.2)
 ·rw [if_neg f] at h;cases h
theorem qh (T:Txt K mg):bv P w K mg base CX0 2 T.l_one_in_.f T.l_one_in_.d ["_law_text"] xx:=by
 have G_l_number_of:=#[(me)]
 have G_l_frac:=#[(kX)]
 refine T.l_one_in_.F.ok dX (fun vs H Q E h=>?_) (fun cdv A outer s H vs Q E hr h=>?_)
 ·obtain ⟨cs,rfl,_⟩:=h
  rfl
 ·obtain ⟨cs,rfl,hz,ha,k⟩:=h
  refine ⟨_,#[#[1,dX.nd,bp,(@fz _ (K) _ _ _ _ _ _ _ _ _ _ _ PySem.F.plainAttrs_str PySem.F.slot_str_split PySem.F.type_str_split (@rm _) #[0,jF] #[[#[ah 4]]] (by rfl) (by rfl) (by rfl) (by rfl) (by rfl) (by rfl))] :: #[#[2,dX.nd,cD,#[cq 8 (@bg _) #[cK 10 (@kJ _) #[#[1,bp][#[()]]!] (@ej _) #[b5 3 #[()]]] #[ah 4] #[(),()]]] :: #[#[3,dX.nd,bU,#[G_l_number_of,dU,T.l_number_of_,#[[#[cK 10 (@kJ _) #[#[1,bp][#[()]]!] #[b5 3 #[bD 9 (@i9 _) kB T.b_int (@bG) #[[#[2,cD]]] (by decide) (by decide) (by rfl) (by rfl)]] (@ej _)]]]]] :: #[#[4,dX.nd,bQ,#[bz 8 #[am 8 (@jv _) #[(),(),(@jq _ (K) (by rfl)),fB,T.b_len,(@bJ),#[[#[1,bp]]]] #[()] #[(),()]] #[G_l_number_of,dU,T.l_number_of_,#[[#[#[1,bp][#[()]]!]]]] #[()]]] :: #[#[aU 8 #[PW.pt 3 #[cS 7 #[am 8 (@jv _) #[(),(),(@jq _ (K) (by rfl)),fB,T.b_len,(@bJ),#[[#[1,bp]]]] #[()] #[(),()]] #[cS 7 #[am 8 (@hU _) #[3,bU] #[bw 3] #[(),()]] #[cS 7 #[am 8 (@hU _) #[4,bQ] #[bw 3] #[(),()]] #[cY 4 #[am 8 (@bg _) #[4,bQ] #[()] #[(),()]]]]]]] #[ae 3 #[ao 4 #[bw 3]]] (@aC _)] :: #[#[aU 8 #[PW.pt 3 #[cS 7 #[PW.pt 3 #[ka 7 #[am 8 (@bg _) #[(),(),(@jq _ (K) (by rfl)),fB,T.b_len,(@bJ),#[[#[1,bp]]]] #[()] #[(),()]] #[jy 4 #[am 8 (@bg _) #[4,bQ] #[()] #[(),()]]]]] #[cY 4 #[PW.pt 3 #[ka 7 #[bn 3 #[2,cD] (by intro _;rfl)] #[jy 4 #[am 8 (@bg _) #[3,bU] #[()] #[(),()]]]]]]]] #[ae 3 #[ao 4 #[bw 3]]] (@aC _)] :: #[ae 3 #[ao 4 #[bz 8 #[am 8 (@ua _ hr.units) #[G_l_frac,jC,T.l_frac_,#[[#[3,bU],#[4,bQ]]]] #[bh 5 #[[#[3,bU],#[4,bQ]]]] #[(),()]] #[bh 5 #[[#[bz 8 #[bn 3 #[2,cD] (by intro _;rfl)] #[jr 6 (@hW _) #[3,bU]] #[3,bU]],#[4,bQ]]]] #[bw 3]]]]]]]]]],?_⟩
  have el:(Str.ofString "/")=S [47]:=by nofun
  have em:(Str.ofString "-")=S [45]:=by nofun
  refine b7 fun Q1 nA1=>⟨(),rfl,S cs,(),rfl,by nofun,by rw [aY];trivial,fun l H1 m1=>nA1 _ _ ?_⟩
  rw [el,td,List.map_map] at m1
  obtain ⟨a,r,er⟩:aX fun a r=>bC 47 cs=a :: r:=by
   cases e:bC 47 cs with
   | nil=>exact absurd e (i4 47 cs)
   | cons a r=>exact ⟨a,r,rfl⟩
  have la:=hG (show a∈bC 47 cs by rw [er];simp)
  have h1:=m1.at'
  rw [er] at h1
  have s1:=m1.sm
  have at0:e8 ((a :: r).map (V.str ∘ S)) 0=some (.str (S a)):=fD (j:=0) rfl
  refine b7 fun Q2 nA2=>⟨(),l,_,0,(),rfl,aD.of h1,at0,(),a,rfl,by trivial,by decide,by decide,rfl,nA2 _ _ ?_⟩
  rw [em,show d7 a none (some 1)=a.take 1 from u9 a 1,eF,o0]
  have et:∀bl,(a.head?==some 45)=bl→bA a=oR bl (aZ (if bl=true then a.drop 1 else a)):=fun bl h=>pU a h
  revert et
  generalize (a.head?==some 45)=bl
  intro et
  have et:=et bl rfl
  have ef:(if bl=true then a.drop 1 else a)=a.drop (if bl=true then 1 else 0):=by cases bl <;> simp
  rw [ef] at et
  clear nA2 Q2 nA1 Q1
  refine b7 fun Q3 nA3=>⟨(),l,_,0,(),rfl,aD.of h1,at0,(),.inr ⟨bl,rfl,(),a,rfl,by trivial,?_,by decide,a.drop (if bl=true then 1 else 0),?_,?_,?_,fun H3 s3=>nA3 _ _ ?_⟩⟩
  ·cases bl <;> decide
  ·have:d7 a (some (if bl=true then 1 else 0)) none=a.drop (if bl=true then 1 else 0):=by
    cases bl
    ·exact j5 a 0
    ·exact j5 a 1
   rw [this]
   rfl
  ·rw [List.length_drop];trivial
  ·exact fun c hc=>ha c (la.2 c (List.mem_of_mem_drop hc))
  have h3:=s3 _ _ h1
  have s13:=s1.trans s3
  generalize a.drop (if bl=true then 1 else 0)=fg at et
  refine b7 fun Q4 nA4=>⟨(),l,(),.inl (aD.of h3),_,(),rfl,(),?_⟩
  have fno:aZ fg=none→bA a=none:=fun z=>by rw [et,z];cases bl <;> rfl
  have tail:∀(m:Nat) (dO:Option Nat) (H4:Hp),au H3 H4→m=r.length+1→(∀d,dO=some d→d<10 ^ 40)→(bA a=none∨dO=none∨2<m∨dO=some 0∨m=2∧dO=some 1→cA cs=none)→
   (∀d n,dO=some d→bA a=some n→m≤2→d≠0→¬(m=2∧d=1)→cA cs=if Nat.gcd n.natAbs d=1 then some (n,(d:Int)) else none)→Q4 (vN dO) H4:=by
   intro m dO H4 s4 em hd1 hno hyes
   refine nA4 _ _ ?_
   have h4:=s4 _ _ h3
   have s14:=s13.trans s4
   have lm:((List.map (V.str ∘ S) (a :: r)).length:Nat)=m:=by rw [em];simp
   refine dj fun D5 nD5 rD5=>?_
   refine lU (decide (2<m)) (decide (vN (aZ fg)=.non) || (decide (vN dO=.non) || decide (vN dO=.int 0))) (fun R' q=>⟨(),l,(),.inl (aD.of h4),_,(),rfl,(),?_⟩)
    (fun _ R' q=>lU (decide (vN (aZ fg)=.non)) _ (fun R' q=>⟨(),rfl,(),q⟩) (fun _ R' q=>lU (decide (vN dO=.non)) (decide (vN dO=.int 0)) (fun R' q=>⟨(),rfl,(),q⟩) (fun hne R' q=>⟨(),?_,(),q⟩) q) q) ?_
   ·rw [lm]
    rw [show decide ((2:Int)<(m:Int))=decide (2<m) from decide_eq_decide.mpr (by trivial)]
    exact q
   ·cases dO with
    | none=>exact absurd hne (by decide)
    | some d=>rfl
   show if t1 m (aZ fg) dO=true then _ else _
   rcases qH m (aZ fg) dO with ⟨e,z⟩ | ⟨e,n,d,en,rfl,hd0,hm⟩
   ·rw [e]
    refine ai (rD5 _ _ (k .non H4 s14 ?_))
    rw [hno (z.imp_left fno)]
    rfl
   rw [e,en]
   refine aq (nD5 _ _ ?_)
   clear nD5 rD5 D5
   refine dj fun D6 nD6 rD6=>?_
   refine lU (decide (m=2) && decide (d=1)) (bl && decide (n=0)) (fun R' q=>mr (decide (m=2)) (decide (d=1)) (fun R' q=>⟨(),l,(),.inl (aD.of h4),rfl,(),?_⟩) (fun R' q=>⟨(),rfl,(),?_⟩) q)
    (fun _ R' q=>mr bl (decide (n=0)) (fun R' q=>⟨(),(),q⟩) (fun R' q=>⟨(),rfl,(),?_⟩) q) ?_
   ·rw [lm,cX,show decide ((m:Int)=2)=decide (m=2) from decide_eq_decide.mpr (by trivial)];exact q
   ·rw [show decide (vN (some d)=V.int 1)=decide (d=1) from mU d 1];exact q
   ·rw [show decide (vN (some n)=V.int 0)=decide (n=0) from mU n 0];exact q
   rw [en] at et
   cases hq:(decide (m=2) && decide (d=1)) || (bl && decide (n=0)) with
   | true=>
    refine ai (rD6 _ _ (k .non H4 s14 ?_))
    rw [Bool.or_eq_true,Bool.and_eq_true,Bool.and_eq_true] at hq
    have:cA cs=none:=by
     rcases hq with ⟨z1,z2⟩ | ⟨z1,z2⟩
     ·have:=of_decide_eq_true z2
      subst this
      exact hno (.inr (.inr (.inr (.inr ⟨of_decide_eq_true z1,rfl⟩))))
     ·have:=of_decide_eq_true z2
      subst this
      rw [z1] at et
      exact hno (.inl et)
    rw [this]
    rfl
   | false=>
   refine aq (nD6 _ _ ?_)
   clear nD6 rD6 D6
   rw [Bool.or_eq_false_iff] at hq
   obtain ⟨nn,e1,e2⟩:∃nn:Int,bA a=some nn∧nn=(if bl=true then -(n:Int) else (n:Int)):=by
    cases bl with
    | false=>exact ⟨_,et,rfl⟩
    | true=>
     cases n with
     | zero=>exact absurd hq.2 (by decide)
     | succ n=>exact ⟨_,et,rfl⟩
   have hy:=hyes d nn rfl e1 hm hd0 (fun z=>by rw [decide_eq_true z.1,decide_eq_true z.2] at hq;exact absurd hq.1 (by decide))
   have en2:nn.natAbs=n:=by rw [e2];cases bl <;> simp
   have n40:n<10 ^ 40:=nK en
   have d40:d<10 ^ 40:=hd1 d rfl
   have szn:Sz 200 (n:Int):=by
    show (n:Int).natAbs<2 ^ 200
    rw [Int.natAbs_natCast]
    exact Nat.lt_trans n40 (by nofun)
   have szd:Sz 200 (d:Int):=by
    show (d:Int).natAbs<2 ^ 200
    rw [Int.natAbs_natCast]
    exact Nat.lt_trans d40 (by nofun)
   refine iR fun Q7 nA7=>⟨(),(),n,d,rfl,by trivial,szd.mono (by decide),fun p H5 n5=>⟨(),(),(by show 2≤10000;decide),fun q H6 n6=>?_⟩⟩
   have s16:=(s14.trans n5.sm).trans n6.sm
   refine ⟨nL (KM.low n d),.tuple [.int n,.int d],ED,ED,3,3,1,1,o5 (n6.sm _ _ n5.at'),o5 (p:=((n:Int),(d:Int))) n6.at',vA (Fb.low szn szd (by trivial)) (by decide),.tuple (.cons (.int (szn.mono (by decide))) (.cons (.int (szd.mono (by decide))) .nil)),by decide,(),?_⟩
   rw [if_neg Bool.false_ne_true,tf (by trivial)]
   rw [en2] at hy
   by_cases g:Nat.gcd n d=1
   ·rw [if_pos g] at hy
    rw [decide_eq_true (show Int.gcd n d=1 from g)]
    refine ai ⟨(),(),?_⟩
    have ff:∀H7 q',Nw H6 q' (.tup [.int nn,.int d]) H7→Q7 (.ref q') H7:=fun H7 q' n7=>nA7 _ _ (k _ H7 (s16.trans n7.sm) (by rw [hy];exact ⟨q',rfl,s16.free n7.fr,n7.at'⟩))
    cases bl with
    | true=>rw [if_pos rfl] at e2;subst e2;exact ai ⟨_,rfl,_,rfl,_,rfl,(by show 2≤10000;decide),fun q' H7 n7=>ff H7 q' n7⟩
    | false=>rw [if_neg Bool.false_ne_true] at e2;subst e2;exact aq ⟨_,rfl,_,rfl,(by show 2≤10000;decide),fun q' H7 n7=>ff H7 q' n7⟩
   ·rw [if_neg g] at hy
    rw [decide_eq_false (show ¬Int.gcd n d=1 from g)]
    refine aq (nA7 _ _ (k _ H6 s16 ?_))
    rw [hy]
    rfl
  cases r with
  | nil=>
   refine aq ?_
   refine tail 1 (some 1) H3 (au.refl _) rfl (fun d z=>by cases z;decide +kernel) ?_ ?_
   ·intro z
    rw [rY er]
    rcases z with z | z | z | z | z
    ·rw [z];rfl
    ·cases z
    ·trivial
    ·cases z
    ·trivial
   ·intro d n e1 e2 _ _ _
    cases e1
    rw [rY er,e2]
    rw [if_pos (Nat.gcd_one_right _)]
    rfl
  | cons b r'=>
   have lb:=hG (show b∈bC 47 cs by rw [er];simp)
   have at1:e8 ((a :: b :: r').map (V.str ∘ S)) 1=some (.str (S b)):=fD (j:=1) rfl
   have gt:decide ((1:Int)<(((a :: b :: r').map (V.str ∘ S)).length:Nat))=true:=decide_eq_true (by simp;trivial)
   rw [gt]
   refine ai ⟨(),l,_,1,(),rfl,aD.of h3,at1,b,rfl,by trivial,fun c hc=>ha c (lb.2 c hc),fun H4 s4=>?_⟩
   refine tail _ (aZ b) H4 s4 rfl (fun d z=>nK z) ?_ ?_
   ·intro z
    cases r' with
    | cons c r''=>exact vJ er
    | nil=>
     rw [rN er]
     rcases z with z | z | z | z | z
     ·rw [z]
     ·rw [z];cases bA a <;> rfl
     ·exact absurd z (by simp)
     ·rw [z]
      cases bA a with
      | none=>rfl
      | some n=>exact if_neg (fun z=>by trivial)
     ·rw [z.2]
      cases bA a with
      | none=>rfl
      | some n=>exact if_neg (fun z=>by trivial)
   ·intro d n e1 e2 e3 e4 e5
    cases r' with
    | cons c r''=>exact absurd e3 (by simp)
    | nil=>
     rw [rN er,e1,e2]
     show (if 2≤d∧_ then _ else _)=_
     by_cases g:Nat.gcd n.natAbs d=1
     ·rw [if_pos g,if_pos ⟨by have:d≠1:=fun z=>e5 ⟨rfl,z⟩;trivial,g⟩]
     ·rw [if_neg g,if_neg (fun z=>g z.2)]
end
end K65
namespace K65
open PySem L2 PySem.NumText
section
variable {P:Program}{w:World}{K:PySem.W.Frag}{mg:Str→Option Value}{base:Heap}
theorem u7 {H H1:Hp}{a:Addr}{o:HO} (s:au H H1) (h:H a=none):au H (aI H1 a o):=fun b u e=>by
 rw [ap (fun z=>by rw [z,h] at e;cases e)]
 exact s b u e
inductive sB (c:Addr) (vs:List V) (H:Hp) (Q:VK) (E:XK):Prop
 | mk (cs:List Nat) (h0:vs=[.str (S cs)]) (h1:cs.length≤10000) (h2:(∀p,cA cs=some p→∀a H',au H H'→H' a=some (.tup [.int p.1,.int p.2])→Q (.ref a) H')) (h3:(cA cs=none→∀H',au H H'→E (.ref c) none H'))
def u8 (c:Addr):Sp:=fun vs H Q E=>sB c vs H Q E
theorem jZ (T:Txt K mg):bv P w K mg base (mz P w) 4 T.fraction_from_.f T.fraction_from_.d ["text"] (u8 T.x_BadNumber):=by
 have G_fraction_or_none:=#[(iL)]
 refine T.fraction_from_.F.okX gx (fun vs H Q E h=>?_) (fun cdv A outer s H vs Q E hr h=>?_)
 ·obtain ⟨cs,rfl,_⟩:=h
  rfl
 ·obtain ⟨cs,rfl,hz,k1,k2⟩:=h
  refine ⟨_,#[#[PS.nox 3 #[1,gx.nd,dk,#[G_fraction_or_none,d6,T.fraction_or_none_,#[[#[0,il]]]]]] :: #[#[aU 8 #[am 8 (@hU _) #[1,dk] #[bw 3] #[(),()]] #[ae 3 #[qT 5 rfl #[tm 15] #[tj 8 T.q_BadNumber T.k_BadNumber gk T.m_BadNumber #[[#[ah 4]]] (by decide) (by rfl) (by rfl)]]] (@aC _)] :: #[ae 3 #[PS.nox 3 #[ao 4 #[1,dk]]]]]],?_⟩
  refine b7 fun Q1 nA1=>⟨(),cs,rfl,hz,fun v H1 s1 fv=>nA1 _ _ ?_⟩
  refine dh fun D2 nD2=>⟨(),rfl,(),?_⟩
  cases hf:cA cs with
  | none=>
   rw [hf] at fv
   have:v=.non:=fv
   subst this
   exact ai ⟨(by show 1≤10000;decide),fun y H2 m2=>⟨y,T.x_BadNumber,none,(),m2.at',T.q_BadNumber,k2 hf _ (u7 (s1.trans m2.sm) (s1.free m2.fr))⟩⟩
  | some p=>
   rw [hf] at fv
   obtain ⟨a,rfl,_,h⟩:=fv
   exact aq (nD2 _ _ ⟨(),k1 p hf a H1 s1 h⟩)
theorem nq (T:Txt K mg):bv P w K mg base CX0 3 T.net_from_.f T.net_from_.d ["text"] (fun _ _ _ _=>False):=
 T.net_from_.F.ok nk (fun _ _ _ _ h=>h.elim) (fun _ _ _ _ _ _ _ _ _ h=>h.elim)
abbrev jo (T:Txt K mg):List Addr:=[T.x_BadNumber,T.x_Taken,T.x_NoPlace,T.x_NoTie,T.x_AsItIs,T.x_NoEnds,T.x_Over,T.x_TooMuch,T.x_Gaining,T.x_NotSoMuch,T.x_Short,T.x_Lacking,T.x_BadRow,T.x_BadSheet]
theorem l0 (T:Txt K mg) {j:Nat}{d:Addr} (hj:(jo T)[j]?=some d):PySem.W.kitOne K (.ref T.x_BadNumber) (.ref d)=some (decide (0=j)):=by
 have kn:iA K (jo T) T.x_GainError=true:=T.kin
 have c0:(jo T)[0]?=some T.x_BadNumber:=rfl
 rw [(l7 kn (List.mem_of_getElem? c0)).2.2.2 d (List.mem_of_getElem? hj)]
 congr 1
 rw [decide_eq_decide]
 constructor
 ·intro e
  obtain ⟨h1,e1⟩:=List.getElem?_eq_some_iff.mp c0
  obtain ⟨h2,e2⟩:=List.getElem?_eq_some_iff.mp hj
  exact p6 (qA kn) h1 h2 (by rw [e1,e2,e])
 ·rintro rfl
  rw [c0] at hj
  exact Option.some.inj hj
theorem oY (T:Txt K mg) {l:List Addr} (h:∀d∈l,∃j,j≠0∧(jo T)[j]?=some d):PySem.W.kitAny K (.ref T.x_BadNumber) (l.map Value.ref)=some false:=
 lF fun c hc=>by
  obtain ⟨d,hd,rfl⟩:=List.mem_map.mp hc
  obtain ⟨j,j0,hj⟩:=h d hd
  rw [l0 T hj,decide_eq_false (fun z=>j0 z.symm)]
def eR:Option (Int×Int)→PyData
 | some p=>.tuple [.str "told",nL p]
 | none=>.tuple [.str "number",.none]
inductive sT (vs:List V) (H:Hp) (Q:VK):Prop
 | mk (cs:List Nat) (h0:vs=[.str "one",.str (S cs)]) (h1:cs.length≤10000) (h2:∀u H',au H H'→cG ED H' u (eR (cA cs))→Q u H')
def uP:Sp:=fun vs H Q _=>sT  vs H Q
theorem jL (T:Txt K mg):bv P w K mg base CX0 5 T.l_all_told_.f T.l_all_told_.d ["_law_which", "_law_thing"] uP:=by
 have G_fraction_from:=#[(jZ)]
 have G_net_from:=#[(nq)]
 refine T.l_all_told_.F.ok bN (fun vs H Q E h=>?_) (fun cdv A outer s H vs Q E hr h=>?_)
 ·obtain ⟨cs,rfl,_⟩:=h
  rfl
 ·obtain ⟨cs,rfl,hz,k⟩:=h
  refine ⟨_,#[#[fM 6 #[bh 5 #[[#[bw 3],#[bw 3]]]] (@fw _ (K) _ _ _ _ (2) rfl #[bf 5 #[2,bN.nd,c6] #[bf 5 #[3,bN.nd,aH] (@eh _) (by rfl)] (by rfl)] (by rfl) (by rfl) (by rfl)) (by rfl) (by rfl) (by rfl)] :: #[#[vd 12 (4) rfl rfl bN.nd rfl fJ gQ T.m_GainError (fun EE pn xe hx=>#[ae 3 #[2,bN.nd,c6,#[bz 8 #[am 8 (@bg _) #[0,iz] #[ah 4] #[(),()]] #[qV 14 G_fraction_from (hr.mono (by decide)) fV T.fraction_from_.m T.fraction_from_.F.kp T.fraction_from_.B hx #[[#[1,fb]]] (by decide) (by rfl) (by rfl)] #[G_net_from,ie,T.net_from_,#[[#[1,fb]]]]]]]) (fun _=>#[ae 3 #[3,bN.nd,aH,#[4,fJ]]]) (by decide)] :: #[#[aU 8 #[am 8 (@hU _) #[3,aH] #[bw 3] #[(),()]] #[ae 3 #[ao 4 #[bh 5 #[[#[ah 4],#[2,c6]]]]]] (@aC _)] :: #[#[5,bN.nd,eH,#[(),(),(@ib _ (K) (by rfl)),br,T.b_isinstance,(@ag),#[[#[3,aH],#[bh 5 #[[#[cC 4 je T.m_Taken (by decide)],#[cC 4 iu T.m_NoPlace (by decide)],#[cC 4 jk T.m_NoTie (by decide)],#[cC 4 iM T.m_AsItIs (by decide)],#[cC 4 iJ T.m_NoEnds (by decide)],#[cC 4 jD T.m_Over (by decide)],#[cC 4 iw T.m_TooMuch (by decide)],#[cC 4 iF T.m_Gaining (by decide)],#[cC 4 gW T.m_NotSoMuch (by decide)],#[cC 4 i0 T.m_Short (by decide)]]]]]]]] :: #[#[aU 8 #[PW.pt 3 #[cS 7 #[bn 3 #[5,eH] (by intro _;rfl)] #[cS 7 #[bn 3 #[(),(),(@ib _ (K) (by rfl)),br,T.b_isinstance,(@ag),#[[#[3,aH],#[bh 5 #[[#[cC 4 ip T.m_Lacking (by decide)],#[cC 4 g6 T.m_BadSheet (by decide)]]]]]]] (by intro _;rfl)] #[cY 4 #[cZ 4 #[bn 3 #[(),(),(@fQ _ (K) (by rfl)),br,T.b_isinstance,(@ag),#[[#[3,aH],#[cz 4 gG T.b_ValueError (@i3) (by decide) (by decide)]]]] (by intro _;rfl)]]]]]] #[ae 3 #[ao 4 #[bh 5 #[[#[ah 4],#[bw 3]]]]]] (@aC _)] :: #[#[6,bN.nd,c9,#[fu 4 #[[#[(),(),(@fQ _ (K) (by rfl)),br,T.b_isinstance,(@ag),#[[#[3,aH],#[cC 4 gU T.m_BadNumber (by decide)]]]],#[(),(),(@fQ _ (K) (by rfl)),br,T.b_isinstance,(@ag),#[[#[3,aH],#[cC 4 iQ T.m_BadRow (by decide)]]]]]]]] :: #[#[aU 8 #[am 8 (@gh _) (@fz _ (K) _ _ _ _ _ _ _ _ _ _ _ PySem.F.plainAttrs_list PySem.F.slot_list_count PySem.F.type_list_count (@pz _ hr.units) #[6,c9] #[[#[eS 4]]] (by rfl) (by rfl) (by rfl) (by rfl) (by rfl) (by rfl)) #[()] #[(),()]] #[ae 3 #[ao 4 #[bh 5 #[[#[ah 4],#[bw 3]]]]]] (@aC _)] :: #[ae 3 #[ao 4 #[bz 8 #[bn 3 #[#[6,c9][#[()]]!] (by intro _;rfl)] #[bh 5 #[[#[ah 4],#[bw 3]]]] #[bh 5 #[[#[ah 4],#[sQ 5 #[3,aH] rfl]]]]]]]]]]]]]],?_⟩
  refine dh fun D0 n0=>⟨(by show 2≤10000;decide),fun t0 H0 m0=>⟨t0,(),bq.of m0.at',rfl,_,(),_,(),rfl,n0 _ _ ?_⟩⟩
  refine dh fun DA nA=>?_
  refine ⟨(),rfl,(),?_⟩
  rw [decide_eq_true rfl]
  refine ai ⟨(),cs,rfl,hz,fun p e a H1 s1 h1=>nA _ _ ?_,fun e H1 s1=>?_⟩
  ·refine dj fun DB nB eB=>⟨(),rfl,(),ai ⟨(),(by show 2≤10000;decide),fun p2 H2 m2=>eB _ _ ?_⟩⟩
   refine k _ _ ((m0.sm.trans s1).trans m2.sm) ?_
   rw [e]
   exact .tup m2.at' (.cons (.str _) (.cons (o5 (m2.sm _ _ h1)) .nil))
  ·intro a' C' eC ha'
   cases eC
   have kn:iA K (jo T) T.x_GainError=true:=T.kin
   obtain ⟨q1,_,q3,_⟩:=l7 kn (List.mem_of_getElem? (show (jo T)[0]?=some T.x_BadNumber from rfl))
   refine ⟨T.em_BadNumber_GainError,⟨(),nA _ _ ?_⟩⟩
   refine dh fun DB nB=>⟨(),rfl,(),aq (nB _ _ ?_)⟩
   have no10:=oY T (l:=[T.x_Taken,T.x_NoPlace,T.x_NoTie,T.x_AsItIs,T.x_NoEnds,T.x_Over,T.x_TooMuch,T.x_Gaining,T.x_NotSoMuch,T.x_Short]) (fun d hd=>by
    rcases List.mem_cons.mp hd with rfl | hd
    ·exact ⟨1,by decide,rfl⟩
    rcases List.mem_cons.mp hd with rfl | hd
    ·exact ⟨2,by decide,rfl⟩
    rcases List.mem_cons.mp hd with rfl | hd
    ·exact ⟨3,by decide,rfl⟩
    rcases List.mem_cons.mp hd with rfl | hd
    ·exact ⟨4,by decide,rfl⟩
    rcases List.mem_cons.mp hd with rfl | hd
    ·exact ⟨5,by decide,rfl⟩
    rcases List.mem_cons.mp hd with rfl | hd
    ·exact ⟨6,by decide,rfl⟩
    rcases List.mem_cons.mp hd with rfl | hd
    ·exact ⟨7,by decide,rfl⟩
    rcases List.mem_cons.mp hd with rfl | hd
    ·exact ⟨8,by decide,rfl⟩
    rcases List.mem_cons.mp hd with rfl | hd
    ·exact ⟨9,by decide,rfl⟩
    rcases List.mem_cons.mp hd with rfl | hd
    ·exact ⟨10,by decide,rfl⟩
    ·cases hd)
   have no2:=oY T (l:=[T.x_Lacking,T.x_BadSheet]) (fun d hd=>by
    rcases List.mem_cons.mp hd with rfl | hd
    ·exact ⟨11,by decide,rfl⟩
    rcases List.mem_cons.mp hd with rfl | hd
    ·exact ⟨13,by decide,rfl⟩
    ·cases hd)
   refine b7 fun Q3 n3=>⟨(),(by show 10≤10000;decide),fun tq H3 m3=>⟨a',T.x_BadNumber,tq,_,_,(),m3.sm _ _ ha',m3.at',rfl,q1,no10,n3 _ _ ?_⟩⟩
   have ha3:=m3.sm _ _ ha'
   refine dh fun DC nC=>⟨(),(),aq ⟨(),(by show 2≤10000;decide),fun t4 H4 m4=>⟨a',T.x_BadNumber,t4,_,_,(),m4.sm _ _ ha3,m4.at',rfl,q1,no2,(),aq ⟨(),a',T.x_BadNumber,_,_,(),m4.sm _ _ ha3,rfl,q1,q3,(),aq (nC _ _ ?_)⟩⟩⟩⟩
   have ha4:=m4.sm _ _ ha3
   refine b7 fun Q5 n5=>⟨(),a',T.x_BadNumber,_,_,(),ha4,rfl,q1,l0 T (j:=0) rfl,(),a',T.x_BadNumber,_,_,(),ha4,rfl,q1,l0 T (j:=12) rfl,(by show 2≤10000;decide),fun l5 H5 m5=>n5 _ _ ?_⟩
   have h5:H5 l5=some (.lst ([true,false].map V.bl)):=m5.at'
   refine dh fun DE nE=>⟨(),.inl ⟨rfl,_,aD.of h5⟩,⟨l5,(),h5⟩,.bl true,.bool true,.list ([true,false].map .bool),ED,(fun _=>False),_,_,0,_,(),.bl _,.lst h5 (fun z=>z) (.cons (.bl _) (.cons (.bl _) .nil)),.bl _,Wt.list (k:=0) (.cons (.bl _) (.cons (.bl _) .nil)),by decide,rfl,rfl,(),?_⟩
   rw [show ([true,false].map PyData.bool).countP (fun z=>PyData.eqv z (.bool true))=1 from rfl]
   refine aq (nE _ _ ?_)
   refine iR fun Q6 n6=>⟨(),l5,_,0,(),rfl,aD.of h5,rfl,(),ai ⟨(by show 2≤10000;decide),fun p7 H7 m7=>n6 _ _ ?_⟩⟩
   refine k _ _ (((((m0.sm.trans s1).trans m3.sm).trans m4.sm).trans m5.sm).trans m7.sm) ?_
   rw [e]
   exact .tup m7.at' (.cons (.str _) (.cons .non .nil))
end
end K65
namespace K65
open PySem L2 PySem.NumText
section
variable {P:Program}{w:World}{K:PySem.W.Frag}{mg:Str→Option Value}{base:Heap}
theorem kM (n:Int):Str.ofString (toString n)=S (cb n):=by
 unfold cb
 by_cases h:n<0
 ·rw [if_pos h]
  obtain ⟨m,rfl⟩:∃m:Nat,n=-(m:Int):=⟨n.natAbs,by trivial⟩
  rw [sh m (by trivial)]
  rw [show (-(m:Int)).natAbs=m by trivial]
 ·rw [if_neg h]
  obtain ⟨m,rfl⟩:∃m:Nat,n=(m:Int):=⟨n.natAbs,by trivial⟩
  rw [oi m,Int.natAbs_natCast]
theorem mS {n:Int} (h:n.natAbs<10 ^ 64):n.natAbs.log2<1920:=by
 by_cases z:n.natAbs=0
 ·rw [z];decide
 ·exact (Nat.log2_lt z).mpr (Nat.lt_trans h (by nofun))
theorem jR {n:Int} (h:n.natAbs<10 ^ 64):(cb n).length≤65:=by
 have:(dg n.natAbs).length≤64:=(eX (by decide)).mpr h
 unfold cb
 split
 ·rw [List.length_cons];trivial
 ·trivial
theorem kc (T:Txt K mg):bv P w K mg base CX0 1 T.l_word_of_.f T.l_word_of_.d ["_law_one"] rJ:=by
 refine T.l_word_of_.F.ok mQ (fun vs H Q E h=>?_) (fun cdv A outer s H vs Q E hr h=>?_)
 ·obtain ⟨p,n,d,rfl,_⟩:=h
  rfl
 ·obtain ⟨p,n,d,rfl,hp,hn,hd0,hd1,k⟩:=h
  refine ⟨_,#[ae 3 #[ao 4 #[bz 8 #[am 8 (@bg _) #[#[0,cR][#[()]]] #[()] #[(),()]] #[bD 9 (@eL _) eZ T.b_str (@cn) #[[#[#[0,cR][#[()]]]]] (by decide) (by decide) (by rfl) (by rfl)] #[af 8 (@gZ _) #[af 8 (@gZ _) #[bD 9 (@eL _) eZ T.b_str (@cn) #[[#[#[0,cR][#[()]]]]] (by decide) (by decide) (by rfl) (by rfl)] #[ah 4]] #[bD 9 (@eL _) eZ T.b_str (@cn) #[[#[#[0,cR][#[()]]]]] (by decide) (by decide) (by rfl) (by rfl)]]]]],?_⟩
  have e0:e8 [V.int n,V.int d] 0=some (.int n):=rfl
  have e1:e8 [V.int n,V.int d] 1=some (.int d):=rfl
  have k0:=k H (au.refl _)
  unfold eQ at k0
  have el:(Str.ofString "/")=S [47]:=by nofun
  have ed:d.natAbs<10 ^ 64:=by trivial
  have edw:cb d=dg d.natAbs:=by unfold cb;rw [if_neg (by trivial)]
  refine ⟨(),p,_,1,(),rfl,bq.of hp,e1,rfl,(),?_⟩
  rw [cX]
  by_cases h1:d=1
  ·rw [decide_eq_true h1]
   rw [if_pos h1,←kM] at k0
   exact ai ⟨(),p,_,0,(),rfl,bq.of hp,e0,(),mS hn,k0⟩
  ·rw [decide_eq_false h1]
   rw [if_neg h1] at k0
   have l1:=jR hn
   have l2:=jR ed
   refine aq ⟨(),p,_,0,(),rfl,bq.of hp,e0,(),mS hn,cb n,[47],?_,?_,?_,(),p,_,1,(),rfl,bq.of hp,e1,(),mS ed,cb n++[47],cb d,rfl,?_,?_,?_⟩
   ·exact congrArg V.str (kM n)
   ·rw [←el]
   ·show _+1≤10000
    trivial
   ·exact congrArg V.str (kM d)
   ·rw [List.length_append]
    show _+1+_≤10000
    trivial
   ·rw [edw,List.append_assoc]
    exact k0
end
end K65
namespace K65
open PySem L2 PySem.NumText
set_option maxHeartbeats 4000000
section
variable {P:Program}{w:World}{K:PySem.W.Frag}{mg:Str→Option Value}{base:Heap}
inductive u0 (vs:List V) (H:Hp) (Q:VK):Prop
 | mk (b:Addr) (t:Int) (h0:vs=[.ref b]) (h1:Bx H b t) (h2:0≤t) (h3:t≤900000) (h4:∀p (n d t':Int) H',cm (Eb b) H H'→H' p=some (.tup [.int n,.int d])→Bx H' b t'→t≤t'→t'≤t+3→1≤d→Int.gcd n d=1→n.natAbs<10 ^ 40→d<10 ^ 40→Q (.ref p) H')
def vF:Sp:=fun vs H Q _=>u0  vs H Q
theorem pQ {n d:Int}{m:Nat} (hd:1≤d) (h1:n.natAbs<m) (h2:d<m):1≤(KM.low n d).2∧Int.gcd (KM.low n d).1 (KM.low n d).2=1∧(KM.low n d).1.natAbs<m∧(KM.low n d).2<m:=by
 obtain ⟨a,_,c,e,f⟩:=KM.low_spec n d (by trivial)
 exact ⟨a,c,by trivial,by trivial⟩
theorem rK (k:Nat):(List.replicate k [48]).flatten=List.replicate k 48:=by
 induction k with
 | zero=>rfl
 | succ k ih=>rw [List.replicate_succ,List.flatten_cons,ih];rfl
theorem kf (T:Txt K mg):bv P w K mg base CX0 2 T.l_any_fraction_.f T.l_any_fraction_.d ["_law_box_here"] vF:=by
 have G_l_take:=#[(kH)]
 have G_l_frac:=#[(kX)]
 refine T.l_any_fraction_.F.ok cU (fun vs H Q E h=>?_) (fun cdv A outer s H vs Q E hr h=>?_)
 ·obtain ⟨b,t,rfl,_⟩:=h
  rfl
 ·obtain ⟨b,t,rfl,B,ht0,ht1,k⟩:=h
  refine ⟨_,#[#[1,cU.nd,be,#[G_l_take,aE,T.l_take_,#[[#[0,az],#[()]]]]] :: #[#[aU 8 #[am 8 (@bg _) #[1,be] #[()] #[(),()]] #[ae 3 #[ao 4 #[bh 5 #[[#[af 8 (@dW _) #[G_l_take,aE,T.l_take_,#[[#[0,az],#[()]]]] #[()]],#[()]]]]]] (@aC _)] :: #[#[aU 8 #[am 8 (@bg _) #[1,be] #[()] #[(),()]] #[ae 3 #[ao 4 #[G_l_frac,cB,T.l_frac_,#[[#[af 8 (@dW _) #[G_l_take,aE,T.l_take_,#[[#[0,az],#[()]]]] #[()]],#[af 8 (@ce _) #[()] #[G_l_take,aE,T.l_take_,#[[#[0,az],#[()]]]]]]]]]] (@aC _)] :: #[#[aU 8 #[am 8 (@bg _) #[1,be] #[()] #[(),()]] #[#[iT 2 (2) (3) _ _ _ _ _ _ _ _ _ _ _ rfl cU.nd rfl rfl (by decide) dM dS #[[#[af 8 (@dW _) #[af 8 (@dW _) #[af 8 (@c3 _) #[()] #[()]] #[()]] #[G_l_take,aE,T.l_take_,#[[#[0,az],#[()]]]]],#[af 8 (@dW _) #[af 8 (@dW _) #[af 8 (@c3 _) #[()] #[()]] #[()]] #[G_l_take,aE,T.l_take_,#[[#[0,az],#[()]]]]]]] (by kernel_rfl) (by rfl)] :: #[ae 3 #[ao 4 #[G_l_frac,cB,T.l_frac_,#[[#[2,dM],#[3,dS]]]]]]] (@aC _)] :: #[#[aU 8 #[am 8 (@bg _) #[1,be] #[()] #[(),()]] #[ae 3 #[ao 4 #[bh 5 #[[#[jr 6 (@hW _) #[bD 9 (@fP _) iD T.b_int (@bG) #[[#[af 8 (@gZ _) #[ah 4] #[af 8 (@kW _) #[ah 4] #[af 8 (@ce _) #[()] #[G_l_take,aE,T.l_take_,#[[#[0,az],#[()]]]]]]]]] (by decide) (by decide) (by rfl) (by rfl)]],#[()]]]]]] (@aC _)] :: #[#[4,cU.nd,df,#[G_l_take,aE,T.l_take_,#[[#[0,az],#[af 8 (@c3 _) #[()] #[()]]]]]] :: #[ae 3 #[ao 4 #[G_l_frac,cB,T.l_frac_,#[[#[af 8 (@dW _) #[4,df] #[af 8 (@c3 _) #[()] #[()]]],#[af 8 (@ce _) #[()] #[G_l_take,aE,T.l_take_,#[[#[0,az],#[#[fu 4 #[[#[()],#[af 8 (@c3 _) #[()] #[()]]]]][#[af 8 (@dW _) #[1,be] #[()]]]!]]]]]]]]]]]]]]]],?_⟩
  have p40:((10:Int) ^ (40:Int).toNat)=((10 ^ 40:Nat):Int):=by nofun
  have p39:((10:Int) ^ (39:Int).toNat)=((10 ^ 39:Nat):Int):=by nofun
  have q40:(10 ^ 40:Nat)=10*10 ^ 39:=by nofun
  have q39:100≤(10 ^ 39:Nat):=by nofun
  generalize (10 ^ 39:Nat)=N39 at p39 q40 q39
  have sz9:∀d:Int,1≤d→d<((10 ^ 40:Nat):Int)→Sz 9000 d:=fun d h1 h2=>by
   have:(10 ^ 40:Nat)<2 ^ 200:=by nofun
   exact (show Sz 200 d from by show d.natAbs<2 ^ 200;trivial).mono (by decide)
  have fin:∀(n d t1:Int) (H1:Hp),cm (Eb b) H H1→Bx H1 b t1→t≤t1→t1≤t+3→1≤d→n.natAbs<10 ^ 40→d<((10 ^ 40:Nat):Int)→∀p H2,Nw H1 p (fr (KM.low n d)) H2→Q (.ref p) H2:=by
   intro n d t1 H1 s1 B1 a1 a2 hd hn hd' p H2 n2
   obtain ⟨l1,l2,l3,l4⟩:=pQ (m:=10 ^ 40) hd hn hd'
   exact k p _ _ t1 H2 (s1.trans n2.sm.toE) n2.at' (B1.same n2.sm) a1 a2 l1 l2 l3 l4
  refine b7 fun Q1 nA1=>⟨(),b,6,t,rfl,B,by decide,by decide,ht0,by trivial,fun v t1 H1 w0 w1 a1 a2 s1 B1=>nA1 _ _ ?_⟩
  refine dj fun D1 nD1 rD1=>⟨(),rfl,(),?_⟩
  rw [cX]
  by_cases v0:v=0
  ·rw [decide_eq_true v0]
   refine ai ⟨(),b,21,t1,rfl,B1,by decide,by decide,by trivial,by trivial,fun f t2 H2 f0 f1 b1 b2 s2 B2=>⟨_,(),rfl,(by show 2≤10000;decide),fun p H3 n3=>rD1 _ _ ?_⟩⟩
   exact k p _ _ t2 H3 ((s1.trans s2).trans n3.sm.toE) n3.at' (B2.same n3.sm) (by trivial) (by trivial) (by decide) (Int.gcd_one_right _) (by trivial) (by nofun)
  rw [decide_eq_false v0]
  refine aq (nD1 _ _ ?_)
  clear nD1 rD1 D1
  refine dj fun D1 nD1 rD1=>⟨(),rfl,(),?_⟩
  rw [cX]
  by_cases v1:v=1
  ·rw [decide_eq_true v1]
   refine ai ⟨(),b,41,t1,rfl,B1,by decide,by decide,by trivial,by trivial,fun f t2 H2 f0 f1 b1 b2 s2 B2=>⟨_,(),rfl,(),b,12,t2,rfl,B2,by decide,by decide,by trivial,by trivial,fun g t3 H3 g0 g1 c1 c2 s3 B3=>⟨_,(),rfl,_,(),by trivial,sz9 _ (by trivial) (by trivial),fun p H4 n4=>rD1 _ _ ?_⟩⟩⟩
   exact fin _ _ t3 H3 ((s1.trans s2).trans s3) B3 (by trivial) (by trivial) (by trivial) (by trivial) (by trivial) p H4 n4
  rw [decide_eq_false v1]
  refine aq (nD1 _ _ ?_)
  clear nD1 rD1 D1
  refine dj fun D1 nD1 rD1=>⟨(),rfl,(),?_⟩
  rw [cX]
  by_cases v2:v=2
  ·rw [decide_eq_true v2]
   refine ai (vo fun Q2 nP=>⟨_,(),rfl,⟨by decide,by decide,by decide⟩,_,(),rfl,(),b,9,t1,rfl,B1,by decide,by decide,by trivial,by trivial,fun f t2 H2 f0 f1 b1 b2 s2 B2=>⟨_,(),rfl,_,(),rfl,⟨by decide,by decide,by decide⟩,_,(),rfl,(),b,9,t2,rfl,B2,by decide,by decide,by trivial,by trivial,fun g t3 H3 g0 g1 c1 c2 s3 B3=>⟨_,(),rfl,nP _ _ _ ?_⟩⟩⟩)
   rw [p40]
   refine ⟨(),(),_,(),by trivial,sz9 _ (by trivial) (by trivial),fun p H4 n4=>rD1 _ _ ?_⟩
   exact fin _ _ t3 H3 ((s1.trans s2).trans s3) B3 (by trivial) (by trivial) (by trivial) (by trivial) (by trivial) p H4 n4
  rw [decide_eq_false v2]
  refine aq (nD1 _ _ ?_)
  clear nD1 rD1 D1
  refine dj fun D1 nD1 rD1=>⟨(),rfl,(),?_⟩
  rw [cX]
  by_cases v3:v=3
  ·rw [decide_eq_true v3]
   have e0:(Str.ofString "0")=S [48]:=by nofun
   have e1:(Str.ofString "1")=S [49]:=by nofun
   refine ai ⟨(),b,39,t1,rfl,B1,by decide,by decide,by trivial,by trivial,fun f t2 H2 f0 f1 b1 b2 s2 B2=>⟨_,(),rfl,[48],_,by rw [e0],rfl,by trivial,by trivial,by decide,[49],_,by rw [e1],rfl,?_,?_⟩⟩
   ·rw [rK,List.length_replicate]
    show 1+_≤10000
    trivial
   rw [rK]
   have ad:AllDigits ([49]++List.replicate (1+f).toNat 48):=fun c hc=>by
    rcases List.mem_append.mp hc with z | z
    ·rw [List.mem_singleton.mp z];decide
    ·rw [List.eq_of_mem_replicate z];decide
   have ne:[49]++List.replicate (1+f).toNat 48≠[]:=by simp
   have ll:([49]++List.replicate (1+f).toNat 48).length≤40:=by
    rw [List.length_append,List.length_replicate]
    show 1+_≤40
    trivial
   have dgv:=rE _ rfl ad ne (.inr (by simp))
   have lt:digitsVal ([49]++List.replicate (1+f).toNat 48)<10 ^ 40:=(eX (by decide)).mp (by rw [dgv];exact ll)
   refine ⟨_,(),intText_digits ad ne (by rw [aY];trivial),by rw [aY];trivial,(),(by show 2≤10000;decide),fun p H3 n3=>rD1 _ _ ?_⟩
   exact k p _ _ t2 H3 ((s1.trans s2).trans n3.sm.toE) n3.at' (B2.same n3.sm) (by trivial) (by trivial) (by decide) (Int.gcd_one_right _) (by rw [Int.natAbs_neg,Int.natAbs_natCast];exact lt) (by nofun)
  rw [decide_eq_false v3]
  refine aq (nD1 _ _ ?_)
  clear nD1 rD1 D1
  have l40:(10 ^ 40:Nat).log2<9000:=by nofun
  refine b7 fun Q2 nA2=>⟨(),_,(),rfl,⟨by decide,by decide,by decide⟩,b,_,t1,rfl,B1,by rw [p40];trivial,by rw [p40,Int.natAbs_natCast];exact l40,by trivial,by trivial,fun f t2 H2 f0 f1 b1 b2 s2 B2=>nA2 _ _ ?_⟩
  rw [p40] at f1
  refine iR fun Q3 nA3=>⟨(),_,(),rfl,⟨by decide,by decide,by decide⟩,_,(),rfl,(),_,(),rfl,⟨by decide,by decide,by decide⟩,(by show 2≤10000;decide),fun l H3 n3=>?_⟩
  rw [p39]
  obtain ⟨m,em,m1,m2⟩:∃m:Int,e8 [V.int 60,V.int ((10:Int) ^ (39:Int).toNat)] (v - 4)=some (.int m)∧1≤m∧m≤(N39:Int):=by
   rcases (show v=4∨v=5 by trivial) with rfl | rfl
   ·exact ⟨60,rfl,by decide,by trivial⟩
   ·exact ⟨(),by rw [p39];trivial,by rw [p39];trivial⟩
  refine ⟨(),_,(),rfl,l,_,_,(),rfl,aD.of n3.at',em,b,m,t2,rfl,B2.same n3.sm,by trivial,?_,by trivial,by trivial,fun g t3 H4 g0 g1 c1 c2 s4 B4=>⟨_,(),rfl,_,(),by trivial,sz9 _ (by trivial) (by trivial),fun p H5 n5=>nA3 _ _ ?_⟩⟩
  ·exact (Nat.log2_lt (by trivial)).mpr (Nat.lt_trans (show m.natAbs<10 ^ 40 by trivial) (by nofun))
  exact fin _ _ t3 H4 (((s1.trans s2).trans n3.sm.toE).trans s4) B4 (by trivial) (by trivial) (by trivial) (by trivial) (by trivial) p H5 n5
end
end K65
namespace K65
open PySem L2 PySem.NumText
set_option maxHeartbeats 4000000
section
variable {P:Program}{w:World}{K:PySem.W.Frag}{mg:Str→Option Value}{base:Heap}
inductive sK (vs:List V) (H:Hp) (Q:VK):Prop
 | mk (b:Addr) (x:Str) (m:Nat) (t:Int) (h0:vs=[.ref b,.str x]) (h1:cp m x) (h2:m≤1000) (h3:Bx H b t) (h4:0≤t) (h5:t≤900000) (h6:∀y t' H',cm (Eb b) H H'→Bx H' b t'→t≤t'→t'≤t+4→cp (3*m+100) y→Q (.str y) H')
def uz:Sp:=fun vs H Q _=>sK  vs H Q
theorem ia {m:Nat}{z y:Str} (h:cp m z) (l:y.length≤z.length) (e:∀c∈y.cps.toList,c∈z.cps.toList):cp m y:=⟨Nat.le_trans l h.1,fun c hc=>h.2 c (e c hc)⟩
theorem dR {m n:Nat}{z:Str} (h:cp m z) (l:m≤n):cp n z:=⟨Nat.le_trans h.1 l,h.2⟩
theorem fE {m:Nat}{cs:List Nat} (h:cs.length≤m) (e:∀c∈cs,c<128):cp m (S cs):=⟨by rw [aY];exact h,e⟩
theorem xE (k c:Nat):(List.replicate k [c]).flatten=List.replicate k c:=by
 induction k with
 | zero=>rfl
 | succ k ih=>rw [List.replicate_succ,List.flatten_cons,ih];rfl
theorem nR {k c:Nat} (hc:c<128):cp k (S (List.replicate k [c]).flatten):=by
 rw [xE]
 exact fE (by rw [List.length_replicate];exact Nat.le_refl _) fun d hd=>by rw [List.eq_of_mem_replicate hd];exact hc
theorem rk {m:Nat}{x:Str} (h:cp m x):cp m (Txt.partition x (S [47])).1∧cp m (Txt.partition x (S [47])).2.1∧cp m (Txt.partition x (S [47])).2.2:=by
 obtain ⟨cs,rfl⟩:∃cs,x=S cs:=⟨_,(ko x).symm⟩
 have hl:cs.length≤m:=by have:=h.1;rwa [aY] at this
 have ha:∀c∈cs,c<128:=h.2
 rcases jN 47 cs with ⟨_,e⟩ | ⟨a,b,rfl,_,e⟩
 ·rw [e]
  exact ⟨h,fE (Nat.zero_le _) (fun _ z=>nomatch z),fE (Nat.zero_le _) (fun _ z=>nomatch z)⟩
 ·rw [e]
  rw [List.length_append,List.length_cons] at hl
  exact ⟨fE (by trivial) fun c hc=>ha c (by simp [hc]),fE (by show 1≤m;trivial) fun c hc=>by rw [List.mem_singleton.mp hc];decide,fE (by trivial) fun c hc=>ha c (by simp [hc])⟩
theorem md (T:Txt K mg):bv P w K mg base CX0 2 T.l_bent_text_.f T.l_bent_text_.d ["_law_box_here", "_law_text"] uz:=by
 have G_l_take:=#[(kH)]
 refine T.l_bent_text_.F.ok cr (fun vs H Q E h=>?_) (fun cdv A outer s H vs Q E hr h=>?_)
 ·obtain ⟨b,x,m,t,rfl,_⟩:=h
  rfl
 ·obtain ⟨b,x,m,t,rfl,tx,hm,B,ht0,ht1,k⟩:=h
  refine ⟨_,#[#[iT 2 (2) (3) _ _ _ _ _ _ _ _ _ _ _ rfl cr.nd rfl rfl (by decide) aP bj #[[#[G_l_take,bI,T.l_take_,#[[#[0,bo],#[()]]]],#[G_l_take,bI,T.l_take_,#[[#[0,bo],#[af 8 (@ce _) #[(),(),(@jf _),jI,T.b_len,(@bJ),#[[#[1,aJ]]]] #[()]]]]]]] (by kernel_rfl) (by rfl)] :: #[#[4,cr.nd,db,#[dE 7 (@kd _) #[ah 4] #[G_l_take,bI,T.l_take_,#[[#[0,bo],#[()]]]] (fun _ _=>rfl)]] :: #[#[aU 8 #[am 8 (@oC _) #[2,aP] #[()] #[(),()]] #[ae 3 #[ao 4 #[af 8 (@bR _) #[af 8 (@bR _) #[cK 10 (@iW _) #[1,aJ] (@ej _) #[b5 3 #[3,bj]]] #[#[fu 4 #[[#[4,db],#[ah 4],#[4,db]]]][#[2,aP]]!]] #[cK 10 (@iW _) #[1,aJ] #[b5 3 #[af 8 (@ce _) #[3,bj] #[bD 9 (@i9 _) jE T.b_int (@bG) #[[#[cq 8 (@jv _) #[2,aP] #[()] #[(),()]]]] (by decide) (by decide) (by rfl) (by rfl)]]] (@ej _)]]]] (@aC _)] :: #[#[aU 8 #[am 8 (@bg _) #[2,aP] #[()] #[(),()]] #[ae 3 #[ao 4 #[af 8 (@bR _) #[1,aJ] #[ah 4]]]] (@aC _)] :: #[#[aU 8 #[am 8 (@bg _) #[2,aP] #[()] #[(),()]] #[ae 3 #[ao 4 #[af 8 (@bR _) #[ah 4] #[1,aJ]]]] (@aC _)] :: #[#[aU 8 #[am 8 (@bg _) #[2,aP] #[()] #[(),()]] #[ae 3 #[ao 4 #[af 8 (@bR _) #[af 8 (@bR _) #[cK 10 (@iW _) #[1,aJ] (@ej _) #[b5 3 #[3,bj]]] #[sf 7 #[cK 10 (@iW _) #[1,aJ] #[b5 3 #[3,bj]] #[b5 3 #[af 8 (@ce _) #[3,bj] #[()]]]] #[b5 3 #[jr 6 (@hW _) #[()]]]]] #[cK 10 (@iW _) #[1,aJ] #[b5 3 #[af 8 (@ce _) #[3,bj] #[()]]] (@ej _)]]]] (@aC _)] :: #[#[fM 6 (@fz _ (K) _ _ _ _ _ _ _ _ _ _ _ PySem.F.plainAttrs_str PySem.F.slot_str_partition PySem.F.type_str_partition (@nN _) #[1,aJ] #[[#[ah 4]]] (by rfl) (by rfl) (by rfl) (by rfl) (by rfl) (by rfl)) (@fw _ (K) _ _ _ _ (3) rfl #[bf 5 #[5,cr.nd,dm] #[bf 5 #[6,cr.nd,cO] #[bf 5 #[7,cr.nd,cL] (@eh _) (by rfl)] (by rfl)] (by rfl)] (by rfl) (by rfl) (by rfl)) (by rfl) (by rfl) (by rfl)] :: #[#[aU 8 #[am 8 (@bg _) #[2,aP] #[()] #[(),()]] #[ae 3 #[ao 4 #[af 8 (@bR _) #[af 8 (@bR _) #[5,dm] #[ah 4]] #[bz 8 #[am 8 (@bg _) #[6,cO] #[ah 4] #[(),()]] #[af 8 (@bR _) #[7,cL] #[ah 4]] #[ah 4]]]]] (@aC _)] :: #[#[aU 8 #[am 8 (@bg _) #[2,aP] #[()] #[(),()]] #[ae 3 #[ao 4 #[af 8 (@bR _) #[af 8 (@bR _) #[af 8 (@kW _) #[ah 4] #[af 8 (@ce _) #[()] #[G_l_take,bI,T.l_take_,#[[#[0,bo],#[()]]]]]] #[6,cO]] #[7,cL]]]] (@aC _)] :: #[ae 3 #[ao 4 #[af 8 (@bR _) #[af 8 (@bR _) #[5,dm] #[ah 4]] #[af 8 (@kW _) #[ah 4] #[af 8 (@ce _) #[()] #[G_l_take,bI,T.l_take_,#[[#[0,bo],#[()]]]]]]]]]]]]]]]]]],?_⟩
  have lx:=tx.1
  have lx':x.length≤10000:=by trivial
  refine vo fun Q1 nP=>⟨(),b,9,t,rfl,B,by decide,by decide,ht0,by trivial,fun v t1 H1 w0 w1 a1 a2 s1 B1=>⟨(),(),x,rfl,lx',_,(),rfl,b,_,t1,rfl,B1,by trivial,?_,by trivial,by trivial,fun at_ t2 H2 f0 f1 b1 b2 s2 B2=>nP _ _ _ ?_⟩⟩
  ·exact (Nat.log2_lt (by trivial)).mpr (Nat.lt_trans (show ((x.length:Int)+1).natAbs<2 ^ 20 by trivial) (by nofun))
  obtain ⟨cs17,es,hs,h17⟩:∃cs:List Nat,(Str.ofString "0123456789/-+ ._a")=S cs∧cs.length=17∧cs.all (· < 128)=true:=⟨[48,49,50,51,52,53,54,55,56,57,47,45,43,32,46,95,97],by nofun,rfl,by decide⟩
  refine b7 fun Q2 nA2=>⟨(),b,17,t2,rfl,B2,by decide,by decide,by trivial,by trivial,fun g t3 H3 g0 g1 c1 c2 s3 B3=>?_⟩
  obtain ⟨c,ec,hc⟩:=qS (xs:=cs17) (r:=g) g0 (by trivial)
  have c128:c<128:=by simpa using List.all_eq_true.mp h17 c hc
  refine ⟨_,_,c,rfl,rfl,?_,?_,nA2 _ _ ?_⟩
  ·decide +kernel
  ·rw [es];exact ec
  have tc:cp 1 (⟨#[c]⟩:Str):=fE (cs:=[c]) (by simp) fun d hd=>by rw [List.mem_singleton.mp hd];exact c128
  have s03:=(s1.trans s2).trans s3
  have k3:∀y,cp (3*m+100) y→∀H',au H3 H'→Q (.str y) H':=fun y ty H' s'=>k y t3 H' (s03.trans s'.toE) (B3.same s') (by trivial) (by trivial) ty
  refine dj fun D1 nD1 rD1=>⟨(),_,(),rfl,(),?_⟩
  by_cases v3:v<3
  ·rw [decide_eq_true v3]
   refine ai ⟨(),(),(),x,rfl,lx',fun y1 l1 e1=>⟨(),(),(by show 3≤10000;decide),fun l H4 n4=>?_⟩⟩
   have ty1:=ia tx l1 e1
   obtain ⟨sg,esg,tsg⟩:∃sg:Str,e8 [V.str ⟨#[c]⟩,V.str (Str.ofString ""),V.str ⟨#[c]⟩] v=some (.str sg)∧cp 1 sg:=by
    rcases (show v=0∨v=1∨v=2 by trivial) with rfl | rfl | rfl
    ·exact ⟨(),tc⟩
    ·exact ⟨(),by decide,fun d hd=>nomatch (show d∈([]:List Nat) from hd)⟩
    ·exact ⟨(),tc⟩
   refine ⟨(),l,_,_,(),rfl,aD.of n4.at',esg,y1,sg,m,1,rfl,rfl,ty1,tsg,by trivial,fun z1 tz1=>?_⟩
   refine ⟨(),(),(),_,(),rfl,.inr ⟨(),_,(),rfl,(),x,rfl,lx',fun y2 l2 e2=>⟨z1,y2,m+1,m,rfl,rfl,tz1,ia tx l2 e2,by trivial,fun z2 tz2=>rD1 _ _ (k3 z2 (dR tz2 (by trivial)) H4 n4.sm)⟩⟩⟩
  rw [decide_eq_false v3]
  refine aq (nD1 _ _ ?_)
  clear nD1 rD1 D1
  have fh:∀(z:Str) (cs:List Nat),z=S cs→cs.length≤2→cs.all (· < 128)=true→cp 2 z:=fun z cs e l h=>by rw [e];exact fE l fun d hd=>by simpa using List.all_eq_true.mp h d hd
  have s1_:cp 2 (Str.ofString "/1"):=fh _ [47,49] (by nofun) (by decide) (by decide)
  have s0_:cp 2 (Str.ofString "0"):=fh _ [48] (by nofun) (by decide) (by decide)
  have s0l:cp 2 (Str.ofString "0/"):=fh _ [48,47] (by nofun) (by decide) (by decide)
  have s10:cp 2 (Str.ofString "10"):=fh _ [49,48] (by nofun) (by decide) (by decide)
  have sl_:cp 2 (Str.ofString "/"):=fh _ [47] (by nofun) (by decide) (by decide)
  refine dj fun D1 nD1 rD1=>⟨(),rfl,(),?_⟩
  rw [cX]
  by_cases v4:v=3
  ·rw [decide_eq_true v4]
   exact ai ⟨(),x,_,m,2,rfl,rfl,tx,s1_,by trivial,fun z tz=>rD1 _ _ (k3 z (dR tz (by trivial)) H3 (au.refl _))⟩
  rw [decide_eq_false v4]
  refine aq (nD1 _ _ ?_)
  clear nD1 rD1 D1
  refine dj fun D1 nD1 rD1=>⟨(),rfl,(),?_⟩
  rw [cX]
  by_cases v5:v=4
  ·rw [decide_eq_true v5]
   exact ai ⟨(),_,x,2,m,rfl,rfl,s0_,tx,by trivial,fun z tz=>rD1 _ _ (k3 z (dR tz (by trivial)) H3 (au.refl _))⟩
  rw [decide_eq_false v5]
  refine aq (nD1 _ _ ?_)
  clear nD1 rD1 D1
  refine dj fun D1 nD1 rD1=>⟨(),rfl,(),?_⟩
  rw [cX]
  by_cases v6:v=5
  ·rw [decide_eq_true v6]
   exact ai ⟨(),(),(),x,rfl,lx',fun y1 l1 e1=>⟨(),(),(),(),_,(),rfl,(),x,rfl,lx',fun y2 l2 e2=>⟨(),(),rfl,.inl ⟨y2,m,rfl,ia tx l2 e2,by trivial,fun y3 ty3=>⟨y1,y3,m,m,rfl,rfl,ia tx l1 e1,ty3,by trivial,fun z1 tz1=>⟨(),(),_,(),rfl,(),x,rfl,lx',fun y4 l4 e4=>⟨z1,y4,m+m,m,rfl,rfl,tz1,ia tx l4 e4,by trivial,fun z2 tz2=>rD1 _ _ (k3 z2 (dR tz2 (by trivial)) H3 (au.refl _))⟩⟩⟩⟩⟩⟩⟩
  rw [decide_eq_false v6]
  refine aq (nD1 _ _ ?_)
  clear nD1 rD1 D1
  have el:(Str.ofString "/")=S [47]:=by nofun
  refine dh fun D1 nD1=>⟨(),rfl,x,(),rfl,by nofun,lx',fun l H4 n4=>?_⟩
  rw [el] at n4
  obtain ⟨p1,p2,p3⟩:=rk tx
  refine ⟨l,(),bq.of n4.at',rfl,_,(),_,(),_,(),rfl,nD1 _ _ ?_⟩
  clear nD1 D1
  have s4:=n4.sm
  refine dj fun D1 nD1 rD1=>⟨(),rfl,(),?_⟩
  rw [cX]
  by_cases v7:v=6
  ·rw [decide_eq_true v7]
   refine ai ⟨(),_,_,m,2,rfl,rfl,p1,s0l,by trivial,fun z1 tz1=>⟨(),rfl,(),qZ (fun _=>⟨(),_,_,m,2,rfl,rfl,p3,s0_,by trivial,fun z2 tz2=>⟨z1,z2,m+2,m+2,rfl,rfl,tz1,tz2,by trivial,fun z3 tz3=>rD1 _ _ (k3 z3 (dR tz3 (by trivial)) H4 s4)⟩⟩) fun _=>⟨z1,_,m+2,2,rfl,rfl,tz1,s10,by trivial,fun z3 tz3=>rD1 _ _ (k3 z3 (dR tz3 (by trivial)) H4 s4)⟩⟩⟩
  rw [decide_eq_false v7]
  refine aq (nD1 _ _ ?_)
  clear nD1 rD1 D1
  have e1:(Str.ofString "1")=S [49]:=by nofun
  have e9:(Str.ofString "9")=S [57]:=by nofun
  have B4:=B3.same s4
  have k5:∀y t5 H5,cm (Eb b) H4 H5→Bx H5 b t5→t3≤t5→t5≤t3+1→cp (3*m+100) y→Q (.str y) H5:=fun y t5 H5 s5 B5 u1 u2 ty=>k y t5 H5 ((s03.trans s4.toE).trans s5) B5 (by trivial) (by trivial) ty
  refine dj fun D1 nD1 rD1=>⟨(),rfl,(),?_⟩
  rw [cX]
  by_cases v8:v=7
  ·rw [decide_eq_true v8]
   refine ai ⟨(),b,3,t3,rfl,B4,by decide,by decide,by trivial,by trivial,fun h t5 H5 h0 h1 u1 u2 s5 B5=>⟨_,(),rfl,[49],_,by rw [e1],rfl,by trivial,by trivial,by decide,?_⟩⟩
   have tr:cp 41 (S (List.replicate (39+h).toNat [49]).flatten):=dR (nR (by decide)) (by trivial)
   exact ⟨(),_,_,41,m,rfl,rfl,tr,p2,by trivial,fun z1 tz1=>⟨(),z1,_,41+m,m,rfl,rfl,tz1,p3,by trivial,fun z2 tz2=>rD1 _ _ (k5 z2 t5 H5 s5 B5 u1 u2 (dR tz2 (by trivial)))⟩⟩
  rw [decide_eq_false v8]
  refine aq (nD1 _ _ ?_)
  clear nD1 rD1 D1
  refine iR fun Q9 nA9=>⟨(),_,_,m,2,rfl,rfl,p1,sl_,by trivial,fun z1 tz1=>⟨(),b,3,t3,rfl,B4,by decide,by decide,by trivial,by trivial,fun h t5 H5 h0 h1 u1 u2 s5 B5=>⟨_,(),rfl,[57],_,by rw [e9],rfl,by trivial,by trivial,by decide,?_⟩⟩⟩
  have tr:cp 41 (S (List.replicate (39+h).toNat [57]).flatten):=dR (nR (by decide)) (by trivial)
  exact ⟨z1,_,m+2,41,rfl,rfl,tz1,tr,by trivial,fun z2 tz2=>nA9 _ _ (k5 z2 t5 H5 s5 B5 u1 u2 (dR tz2 (by trivial)))⟩
end
end K65
namespace K65
open PySem L2 PySem.NumText
section
variable {P:Program}{w:World}{K:PySem.W.Frag}{mg:Str→Option Value}{base:Heap}
theorem kE (o:Option (Int×Int)):Dp 3 (eR o):=by
 cases o with
 | none=>exact ⟨by decide,fun d hd=>by
  rcases List.mem_cons.mp hd with rfl | hd
  ·exact trivial
  rcases List.mem_cons.mp hd with rfl | hd
  ·exact trivial
  ·cases hd⟩
 | some p=>exact ⟨by show 2≤1000;decide,fun d hd=>by
  rcases List.mem_cons.mp hd with rfl | hd
  ·exact trivial
  rcases List.mem_cons.mp hd with rfl | hd
  ·exact ⟨by show 2≤1000;decide,fun d hd=>by
    rcases List.mem_cons.mp hd with rfl | hd
    ·exact trivial
    rcases List.mem_cons.mp hd with rfl | hd
    ·exact trivial
    ·cases hd⟩
  ·cases hd⟩
theorem kA {n d:Int} (hn:n.natAbs<10 ^ 64) (hd:d.natAbs<10 ^ 64):(eQ n d).length≤130:=by
 have l1:=jR hn
 have l2:(dg d.natAbs).length≤64:=(eX (by decide)).mpr hd
 unfold eQ
 split
 ·trivial
 ·rw [List.length_append,List.length_cons];trivial
inductive qM (vs:List V) (H:Hp) (Q:VK):Prop
 | mk (p:Addr) (n d:Int) (h0:vs=[.ref p]) (h1:H p=some (.tup [.int n,.int d])) (h2:1≤d) (h3:Int.gcd n d=1) (h4:n.natAbs<10 ^ 40) (h5:d<10 ^ 40) (h6:∀H',au H H'→Q (.bl true) H')
def tF:Sp:=fun vs H Q _=>qM  vs H Q
theorem rA (T:Txt K mg):bv P w K mg base CX0 6 T.l_right_.f T.l_right_.d ["_law_one"] tF:=by
 have G_fraction_text:=#[(gC)]
 have G_l_word_of:=#[(kc)]
 have G_l_all_told:=#[(jL)]
 have G_l_same:=li (P:=P) (w:=w) (base:=base) T 3
 refine T.l_right_.F.ok km (fun vs H Q E h=>?_) (fun cdv A outer s H vs Q E hr h=>?_)
 ·obtain ⟨p,n,d,rfl,_⟩:=h
  rfl
 ·obtain ⟨p,n,d,rfl,hp,hd0,hg,hn,hd1,k⟩:=h
  refine ⟨_,#[#[1,km.nd,c7,#[G_fraction_text,gE,T.fraction_text_,#[[#[0,eT]]]]] :: #[#[aU 8 #[PW.pt 3 #[cS 7 #[cZ 4 #[bn 3 #[(),(),(@cc _ (K) (by rfl)),im,T.b_isinstance,(@ag),#[[#[1,c7],#[cz 4 lO T.b_str (@cn) (by decide) (by decide)]]]] (by intro _;rfl)]] #[cY 4 #[am 8 (@gh _) #[1,c7] #[G_l_word_of,iN,T.l_word_of_,#[[#[0,eT]]]] #[(),()]]]]] #[ae 3 #[ao 4 #[eS 4]]] (@aC _)] :: #[ae 3 #[ao 4 #[G_l_same,jO,T.l_same_,#[[#[G_l_all_told,iq,T.l_all_told_,#[[#[ah 4],#[1,c7]]]],#[bh 5 #[[#[ah 4],#[0,eT]]]]]]]]]]],?_⟩
  have n64:n.natAbs<10 ^ 64:=Nat.lt_trans hn (by nofun)
  have d64:d<10 ^ 64:=Int.lt_trans hd1 (by nofun)
  have lw:=kA (n:=n) (d:=d) n64 (by trivial)
  refine b7 fun Q1 nA1=>⟨(),p,n,d,rfl,hp,n64,hd0,d64,fun H1 s1=>nA1 _ _ ?_⟩
  have hp1:=s1 _ _ hp
  refine dh fun D2 nD2=>⟨(),_,_,_,(),dB.str _,eG (.str (S (eQ n d))),(),aq ?_⟩
  refine ⟨(),(),p,n,d,rfl,hp1,n64,hd0,d64,fun H2 s2=>⟨rfl,(),?_⟩⟩
  rw [decide_eq_true rfl]
  refine aq (nD2 _ _ ?_)
  have hp2:=s2 _ _ hp1
  refine ⟨(),eQ n d,rfl,by trivial,fun u H3 s3 du=>⟨(),(by show 2≤10000;decide),fun q H4 n4=>?_⟩⟩
  have ef:cA (eQ n d)=some (n,d):=by rw [nu hd0 hg,if_pos ⟨hn,hd1⟩]
  rw [ef] at du
  refine ⟨u,_,eR (some (n,d)),ED,rfl,du.mono n4.sm.toE,.tup n4.at' (.cons (.str _) (.cons (o5 (p:=(n,d)) ((s3.trans n4.sm) _ _ hp2)) .nil)),kE _,fun H5 s5=>k H5 ((((s1.trans s2).trans s3).trans n4.sm).trans s5)⟩
end
end K65
namespace K65
open PySem L2 PySem.NumText
set_option maxHeartbeats 8000000
section
variable {P:Program}{w:World}{K:PySem.W.Frag}{mg:Str→Option Value}{base:Heap}
theorem oj:Wt (eR none) 3 1:=.tuple (k:=0) (.cons (.str ⟨by nofun,by nofun⟩) (.cons .non .nil))
theorem sD (n d:Int):∀c∈eQ n d,c<128:=by
 have a1:∀m c,c∈dg m→c<128:=fun m c h=>by have:=mi m c h;trivial
 have a2:∀c∈cb n,c<128:=fun c h=>by
  unfold cb at h
  split at h
  ·rcases List.mem_cons.mp h with rfl | h
   ·decide
   ·exact a1 _ c h
  ·exact a1 _ c h
 intro c h
 unfold eQ at h
 split at h
 ·exact a2 c h
 ·rcases List.mem_append.mp h with h | h
  ·exact a2 c h
  ·rcases List.mem_cons.mp h with rfl | h
   ·decide
   ·exact a1 _ c h
def TX (H:Hp) (L:Addr) (n:Nat):Prop:=∃css:List (List Nat),H L=some (.lst (css.map fun c=>V.str (S c)))∧css.length≤n∧∀c∈css,c.length≤9000∧∀x∈c,x<128
def vM:List (List Nat):=[[],[45],[47],[49,47],[47,50],[45,45,49],[49,47,45,50],[48,47,53],[45,48],[49,47,48],[49,32,47,50],[50,47,50],[49,47,50,47,51]]
inductive tO (K:PySem.W.Frag) (vs:List V) (H:Hp) (Q:VK):Prop
 | mk (a:Addr) (ns:List Int) (h0:vs=[.ref a]) (h1:aD K H a (ns.map V.int)) (h2:ns.length≤63) (h3:∀H',Q (.bl true) H')
def spLaw (K:PySem.W.Frag):Sp:=fun vs H Q _=>tO K vs H Q
theorem law_start {H:Hp}{a:Addr}{ns:List Int} (hl:ns.length≤63) (_:kC H) (hS:aD K H a (ns.map V.int)):spLaw K [.ref a] H (fun v _=>v=.bl true) fun _ _ _=>False:=
 ⟨a,ns,rfl,hS,hl,fun _=>rfl⟩
theorem law_ok (T:Txt K mg):bv P w K mg base CX0 40 T.law_.f T.law_.d ["_law_script"] (spLaw K):=by
 have G_l_folded:=#[(pC)]
 have G_l_box:=#[(uI)]
 have G_l_any_fraction:=#[(kf)]
 have G_l_right:=#[(rA)]
 have G_l_frac:=#[(kX)]
 have G_l_take:=#[(kH)]
 have G_l_word_of:=#[(kc)]
 have G_fraction_text:=#[(gC)]
 have G_l_all_told:=#[(jL)]
 have G_l_bent_text:=#[(md)]
 have G_l_one_in:=#[(qh)]
 have G_l_same:=li (P:=P) (w:=w) (base:=base) T 3
 refine T.law_.F.ok cF (fun vs H Q E h=>?_) (fun cdv A outer s H vs Q E hr h=>?_)
 ·obtain ⟨a,ns,rfl,_⟩:=h
  rfl
 ·obtain ⟨a,ns,rfl,hS,hn,k⟩:=h
  refine ⟨_,#[#[1,cF.nd,fW,#[G_l_folded,kQ,T.l_folded_,#[[#[0,kI],#[()]]]]] :: #[#[jj 8 PassesOwn.never rfl #[iZ 6 gS T.b_range #[[#[(),(),(@qf _ rfl),lB,T.b_max,(@kr),#[[#[()],#[(),(),(@jq _ (K) (by rfl)),qi,T.b_len,(@bJ),#[[#[1,fW]]]]]]]]] (by rfl)] #[2,cF.nd,lD] #[#[3,cF.nd,bS,#[G_l_box,nj,T.l_box_,#[[#[1,fW],#[2,lD]]]]] :: #[ae 3 #[jj 8 PassesOwn.never rfl #[iZ 6 gS T.b_range #[[#[()]]] (by rfl)] #[4,cF.nd,ji] #[#[5,cF.nd,gO,#[G_l_any_fraction,iy,T.l_any_fraction_,#[[#[3,bS]]]]] :: #[#[aU 8 #[cZ 4 #[bn 3 #[G_l_right,lL,T.l_right_,#[[#[5,gO]]]] (by intro _;rfl)]] #[ae 3 #[ao 4 #[eS 4]]] (@aC _)] :: #[#[6,cF.nd,d5,#[G_l_frac,mm,T.l_frac_,#[[#[af 8 (@ce _) #[af 8 (@c3 _) #[()] #[()]] #[G_l_take,jd,T.l_take_,#[[#[3,bS],#[af 8 (@c3 _) #[()] #[()]]]]]],#[#[fu 4 #[[#[()],#[af 8 (@dW _) #[af 8 (@dW _) #[af 8 (@c3 _) #[()] #[()]] #[()]] #[G_l_take,jd,T.l_take_,#[[#[3,bS],#[()]]]]]]]][#[af 8 (@fN _) #[4,ji] #[()]]]!]]]]] :: #[#[7,cF.nd,c5,#[G_l_word_of,gJ,T.l_word_of_,#[[#[6,d5]]]]] :: #[#[aU 8 #[am 8 (@gh _) #[G_fraction_text,iO,T.fraction_text_,#[[#[6,d5]]]] #[7,c5] #[(),()]] #[ae 3 #[ao 4 #[eS 4]]] (@aC _)] :: #[#[aU 8 #[PW.pt 3 #[ka 7 #[am 8 (@lX _) #[(),(),(@uE _ (K) rfl (by rfl)),lB,T.b_max,(@kr),#[[#[6,d5]]]] #[af 8 (@c3 _) #[()] #[()]] #[(),()]] #[jy 4 #[am 8 (@vw _ hr.units) #[G_l_all_told,gp,T.l_all_told_,#[[#[ah 4],#[7,c5]]]] #[bh 5 #[[#[ah 4],#[bw 3]]]] #[(),()]]]]] #[ae 3 #[ao 4 #[eS 4]]] (@aC _)] :: #[#[8,cF.nd,dZ,#[fu 4 #[[#[ah 4],#[ah 4],#[ah 4],#[ah 4],#[ah 4],#[ah 4],#[ah 4],#[ah 4],#[ah 4],#[ah 4],#[ah 4],#[ah 4],#[ah 4]]]]] :: #[#[jj 8 PassesOwn.never rfl #[iZ 6 gS T.b_range #[[#[()]]] (by rfl)] #[9,cF.nd,lP] #[#[10,cF.nd,dC,#[G_l_bent_text,gf,T.l_bent_text_,#[[#[3,bS],#[G_l_word_of,gJ,T.l_word_of_,#[[#[5,gO]]]]]]]] :: #[ae 3 #[8,cF.nd,dZ,#[af 8 (@tw _) #[8,dZ] #[fu 4 #[[#[af 8 (@bR _) #[10,dC] #[ah 4]],#[af 8 (@bR _) #[ah 4] #[10,dC]],#[10,dC],#[G_l_bent_text,gf,T.l_bent_text_,#[[#[3,bS],#[10,dC]]]]]]]]]]] (by intro _;rfl)] :: #[ae 3 #[jj 8 PassesOwn.never rfl (@pF _ (K) _ _ _ #[8,dZ] (by rfl)) #[7,cF.nd,c5] #[#[11,cF.nd,gP,#[G_l_one_in,kL,T.l_one_in_,#[[#[7,c5]]]]] :: #[ae 3 #[aU 8 #[cZ 4 #[bn 3 #[G_l_same,mf,T.l_same_,#[[#[G_l_all_told,gp,T.l_all_told_,#[[#[ah 4],#[7,c5]]]],#[bz 8 #[am 8 (@hU _) #[11,gP] #[bw 3] #[(),()]] #[bh 5 #[[#[ah 4],#[bw 3]]]] #[bh 5 #[[#[ah 4],#[11,gP]]]]]]]] (by intro _;rfl)]] #[ae 3 #[ao 4 #[eS 4]]] (@aC _)]]] (by intro _;rfl)]]]]]]]]]] (by intro _;rfl)]]] (by intro _;rfl)] :: #[ae 3 #[ao 4 #[eS 4]]]]],?_⟩
  refine dh fun DA nA=>?_
  refine ⟨(),a,ns,6,rfl,hS,hn,by decide,by decide,fun p ms H1 hp s1 hp1 hm4=>?_⟩
  refine nA _ _ ?_
  have hmx:0≤(if ((ms.map V.int).length:Int) > 2 then ((ms.map V.int).length:Int) else 2)∧(if ((ms.map V.int).length:Int) > 2 then ((ms.map V.int).length:Int) else 2)≤63:=by
   rw [List.length_map]
   split <;> trivial
  refine ⟨(),p,(),.inl (aD.of hp1),_,(),(),by trivial,by trivial,?_⟩
  generalize (if ((ms.map V.int).length:Int) > 2 then ((ms.map V.int).length:Int) else 2)=mx at hmx
  refine i5 (fun i σ H'=>xL fun v2 v3 v4 v5 v6 v7 v8 v9 v10 v11=>σ=[some (.ref a),some (.ref p),v2,v3,v4,v5,v6,v7,v8,v9,v10,v11]∧H' p=some (.lst (ms.map V.int))) ⟨_,_,_,_,_,_,_,_,_,(),hp1⟩ ?_ ?_
  case refine_2=>
   rintro σ H' ⟨v2,v3,v4,v5,v6,v7,v8,v9,v10,v11,rfl,_⟩
   exact k _
  rintro i σ H2 hi ⟨v2,v3,v4,v5,v6,v7,v8,v9,v10,v11,rfl,hp2⟩
  refine lS (t:=ii _ _) fun DB nB=>?_
  refine dh fun DC nC=>?_
  refine ⟨(),(),p,ms,(),aD.of hp2,by trivial,by trivial,fun b H3 hb s3 B3=>?_⟩
  refine nC _ _ ?_
  have npb:¬p=b:=fun z=>by rw [z,hb] at hp2;cases hp2
  have hp3:=s3 _ _ hp2
  refine ⟨4,rfl,by decide,by decide,i5 (fun i' σ H'=>w6 fun (v4 v5 v6 v7 v8 v9 v10 v11:Option V) (t':Int)=>σ=[some (.ref a),some (.ref p),some (.int (0+(i:Int))),some (.ref b),v4,v5,v6,v7,v8,v9,v10,v11]∧Bx H' b t'∧0≤t'∧t'≤1000*i'∧cm (Eb b) H3 H') ⟨_,_,_,_,_,_,_,_,0,rfl,B3,by decide,by trivial,cm.refl _⟩ ?_ ?_⟩
  case refine_2=>
   rintro σ H' ⟨v4,v5,v6,v7,v8,v9,v10,v11,t',rfl,_,_,_,sE⟩
   exact nB _ _ ⟨_,_,_,_,_,_,_,_,_,(),sE.old p _ npb hp3⟩
  rintro i' σ H4 hi' ⟨v4,v5,v6,v7,v8,v9,v10,v11,t4,rfl,B4,h40,h41,sE4⟩
  refine lS (t:=ii _ _) fun DD nD=>?_
  refine b7 fun Q5 nA5=>⟨(),b,t4,rfl,B4,by trivial,by trivial,fun o n d t5 H5 s5 ho B5 h5a h5b hd0 hg hn40 hd40=>nA5 _ _ ?_⟩
  have nob:¬o=b:=fun z=>by obtain ⟨c,x,e,_⟩:=B5;rw [z,e] at ho;cases ho
  refine dh fun D6 nD6=>⟨(),o,n,d,rfl,ho,hd0,hg,hn40,hd40,fun H6 s6=>⟨(),aq (nD6 _ _ ?_)⟩⟩
  have B6:=B5.same s6
  have ho6:=s6 _ _ ho
  have p59:((10:Int) ^ (59:Int).toNat)=((10 ^ 59:Nat):Int):=by nofun
  have q59:1000≤(10 ^ 59:Nat)∧2*(10 ^ 59:Nat)≤10 ^ 60∧(10 ^ 60:Nat)<10 ^ 64∧(10 ^ 60:Nat)<2 ^ 200:=by nofun
  have l59:(10 ^ 59:Nat).log2<9000:=by nofun
  refine b7 fun Q7 nA7=>⟨_,(),rfl,⟨by decide,by decide,by decide⟩,(),_,(),rfl,⟨by decide,by decide,by decide⟩,b,_,t5,rfl,B6,by rw [p59];trivial,by rw [p59,Int.natAbs_natCast];exact l59,by trivial,by trivial,fun f t7 H7 f0 f1 b1 b2 s7 B7=>⟨_,(),rfl,_,(),rfl,⟨by decide,by decide,by decide⟩,_,(),rfl,(),b,99,t7,rfl,B7,by decide,by decide,by trivial,by trivial,fun g t8 H8 g0 g1 c1 c2 s8 B8=>⟨_,(),rfl,(by show 2≤10000;decide),fun l H9 n9=>?_⟩⟩⟩
  rw [p59] at f1
  obtain ⟨dd,ed,dd1,dd2⟩:∃dd:Int,e8 [V.int 1,V.int ((10:Int) ^ (59:Int).toNat - 1 - g)] ((0+(i':Int)) % 2)=some (.int dd)∧1≤dd∧dd<((10 ^ 59:Nat):Int):=by
   rcases (show (0+(i':Int)) % 2=0∨(0+(i':Int)) % 2=1 by trivial) with e | e
   ·rw [e];exact ⟨1,rfl,by decide,by trivial⟩
   ·rw [e];exact ⟨(),by rw [p59];trivial,by rw [p59];trivial⟩
  refine ⟨(),_,(),rfl,(by show (0:Int)<2;decide),l,_,_,(),rfl,aD.of n9.at',ed,_,(),by trivial,?_,fun q H10 n10=>nA7 _ _ ?_⟩
  ·exact (show Sz 200 dd from by show dd.natAbs<2 ^ 200;trivial).mono (by decide)
  obtain ⟨l1,l2,l3,l4⟩:=pQ (n:=(10:Int) ^ (59:Int).toNat+f) (d:=dd) (m:=10 ^ 60) dd1 (by rw [p59];trivial) (by trivial)
  have hq10:=n10.at'
  unfold fr at hq10
  generalize (KM.low ((10:Int) ^ (59:Int).toNat+f) dd).1=gn at l2 l3 hq10
  generalize (KM.low ((10:Int) ^ (59:Int).toNat+f) dd).2=gd at l1 l2 l4 hq10
  have gn64:gn.natAbs<10 ^ 64:=by trivial
  have gd64:gd<10 ^ 64:=by
   have:((10:Int) ^ 64)=((10 ^ 64:Nat):Int):=by nofun
   trivial
  have lw:=kA (n:=gn) (d:=gd) gn64 (by trivial)
  have s510:cm (Eb b) H5 H10:=(((s6.toE.trans s7).trans s8).trans n9.sm.toE).trans n10.sm.toE
  have B10:=(B8.same n9.sm).same n10.sm
  clear nA7 Q7
  refine b7 fun Q8 nA8=>⟨(),q,gn,gd,rfl,hq10,gn64,l1,gd64,fun H11 s11=>nA8 _ _ ?_⟩
  have hq11:=s11 _ _ hq10
  refine dh fun D9 nD9=>⟨(),q,gn,gd,rfl,hq11,gn64,l1,gd64,fun H12 s12=>⟨(),rfl,(),?_⟩⟩
  rw [decide_eq_true rfl]
  refine aq (nD9 _ _ ?_)
  have hq12:=s12 _ _ hq11
  have s102:=s11.trans s12
  have p40:((10:Int) ^ (40:Int).toNat)=((10 ^ 40:Nat):Int):=by nofun
  refine dh fun D10 nD10=>?_
  have go:∀H13,au H12 H13→D10.nx [some (.ref a),some (.ref p),some (.int (0+(i:Int))),some (.ref b),some (.int (0+(i':Int))),some (.ref o),some (.ref q),some (.str (S (eQ gn gd))),v8,v9,v10,v11] H13:=by
   intro H13 s13
   refine nD10 _ _ ?_
   refine b7 fun Q11 nA11=>⟨(by show 13≤10000;decide),fun L H14 n14=>nA11 _ _ ?_⟩
   have tx14:TX H14 L 13:=⟨vM,by rw [n14.at'];exact congrArg (fun z=>some (HO.lst z)) (by nofun),by decide,by decide⟩
   have s1014:=(s102.trans s13).trans n14.sm
   refine dh fun D12 nD12=>⟨12,rfl,by decide,by decide,i5 (fun j σ H'=>mD fun (v9 v10:Option V) (L:Addr) (t':Int)=>σ=[some (.ref a),some (.ref p),some (.int (0+(i:Int))),some (.ref b),some (.int (0+(i':Int))),some (.ref o),some (.ref q),some (.str (S (eQ gn gd))),some (.ref L),v9,v10,v11]∧TX H' L (13+4*j)∧Bx H' b t'∧t8≤t'∧t'≤t8+8*j∧cm (Eb b) H10 H') ⟨_,_,L,t8,rfl,tx14,B10.same s1014,by trivial,by trivial,s1014.toE⟩ ?_ ?_⟩
   case refine_2=>
    rintro σ H' ⟨v9,v10,L',t',rfl,tx',B',u1,u2,s'⟩
    refine nD12 _ _ ?_
    obtain ⟨css,hL,lc,pl⟩:=tx'
    refine ⟨(),L',rfl,⟨_,aD.of hL⟩,qI (xs:=css.map fun c=>V.str (S c)) (fun j σ H''=>aX fun (v7 v11:Option V)=>σ=[some (.ref a),some (.ref p),some (.int (0+(i:Int))),some (.ref b),some (.int (0+(i':Int))),some (.ref o),some (.ref q),v7,some (.ref L'),v9,v10,v11]∧au H' H'') ⟨_,(),au.refl _⟩ ?_ ?_ ?_⟩
    ·rintro j σ H'' _ ⟨_,_,_,sm⟩
     exact aD.of (sm _ _ hL)
    case refine_3=>
     rintro σ H'' ⟨v7,v11,rfl,sm⟩
     exact nD _ _ ⟨_,_,_,_,_,_,_,_,t',rfl,B'.same sm,by trivial,by trivial,((((sE4.trans s5).trans s510).trans s').trans sm.toE)⟩
    rintro j x σ H'' ex ⟨v7,v11,rfl,sm⟩
    obtain ⟨c,hc,rfl⟩:∃c∈css,V.str (S c)=x:=by simpa using List.mem_of_getElem? ex
    obtain ⟨lc9,ac⟩:=pl c hc
    refine lS (t:=ii _ _) fun DF nF=>?_
    refine b7 fun Q14 nA14=>⟨(),c,rfl,lc9,ac,fun v Hx sx fv=>nA14 _ _ ?_⟩
    refine ⟨(),c,rfl,by trivial,fun u Hy sy du=>⟨(),rfl,(),?_⟩⟩
    have fin:∀r Hz,au Hy Hz→cG ED Hz (.ref r) (eR (cA c))→True:=fun _ _ _ _=>trivial
    cases hf:cA c with
    | none=>
     rw [hf] at fv du
     have:v=.non:=fv
     subst this
     refine ai ⟨(by show 2≤10000;decide),fun r Hz nz=>⟨u,_,eR none,ED,rfl,du.mono nz.sm.toE,.tup nz.at' (.cons (.str _) (.cons .non .nil)),kE _,fun Hw sw=>⟨(),aq (nF _ _ ⟨_,(),(((sm.trans sx).trans sy).trans nz.sm).trans sw⟩)⟩⟩⟩
    | some pp=>
     rw [hf] at fv du
     obtain ⟨e,rfl,_,he⟩:=fv
     refine aq ⟨(),(by show 2≤10000;decide),fun r Hz nz=>⟨u,_,eR (some pp),ED,rfl,du.mono nz.sm.toE,.tup nz.at' (.cons (.str _) (.cons (o5 ((sy.trans nz.sm) _ _ he)) .nil)),kE _,fun Hw sw=>⟨(),aq (nF _ _ ⟨_,(),(((sm.trans sx).trans sy).trans nz.sm).trans sw⟩)⟩⟩⟩
   rintro j σ H' hj ⟨v9,v10,L',t',rfl,⟨css,hL,lc,pl⟩,B',u1,u2,s'⟩
   refine lS (t:=ii _ _) fun DE nE=>?_
   have ho':H' o=some (.tup [.int n,.int d]):=s'.old o _ nob (s510.old o _ nob ho)
   have n64:n.natAbs<10 ^ 64:=Nat.lt_trans hn40 (by nofun)
   have d64:d<10 ^ 64:=Int.lt_trans hd40 (by nofun)
   have txw:cp 130 (S (eQ n d)):=fE (kA n64 (by trivial)) (sD n d)
   have nLb:¬L'=b:=fun z=>by
    obtain ⟨c,x,e,_⟩:=B'
    rw [z,e] at hL
    cases css with
    | nil=>cases hL
    | cons y r=>cases hL
   have tnl:cp 2 (Str.ofString "\n"):=by
    rw [show (Str.ofString "\n")=S [10] by nofun]
    exact fE (by decide) (by decide)
   refine b7 fun Q13 nA13=>⟨(),(),o,n,d,rfl,ho',n64,hd0,d64,fun Ha sa=>⟨b,S (eQ n d),130,t',rfl,txw,by decide,B'.same sa,by trivial,by trivial,fun y1 t1 Hb sb Bb w1 w2 ty1=>nA13 _ _ ?_⟩⟩
   refine ⟨(),(),y1,_,490,2,rfl,rfl,ty1,tnl,by trivial,fun z1 tz1=>⟨(),_,y1,2,490,rfl,rfl,tnl,ty1,by trivial,fun z2 tz2=>⟨(),(),(),b,y1,490,t1,rfl,ty1,by decide,Bb,by trivial,by trivial,fun y2 t2 Hc sc Bc w3 w4 ty2=>⟨(by show 4≤10000;decide),fun LL Hd nd=>⟨L',LL,_,(),rfl,nd.sm _ _ (sc.old L' _ nLb (sb.old L' _ nLb (sa _ _ hL))),nd.at',?_,fun L2 He ne=>nE _ _ ?_⟩⟩⟩⟩⟩
   ·rw [List.length_map]
    show _+4≤10000
    trivial
   refine ⟨_,_,L2,t2,rfl,⟨css++[z1.cps.toList,z2.cps.toList,y1.cps.toList,y2.cps.toList],?_,?_,?_⟩,(Bc.same nd.sm).same ne.sm,by trivial,by trivial,((((s'.trans sa.toE).trans sb).trans sc).trans nd.sm.toE).trans ne.sm.toE⟩
   ·rw [ne.at',List.map_append]
    simp only [List.map_cons,List.map_nil,ko]
   ·rw [List.length_append]
    show _+4≤_
    trivial
   ·intro c hc
    rcases List.mem_append.mp hc with h | h
    ·exact pl c h
    ·have tk:∀(z:Str) (m:Nat),cp m z→m≤9000→z.cps.toList.length≤9000∧∀x∈z.cps.toList,x<128:=fun z m h l=>⟨Nat.le_trans h.1 l,h.2⟩
     rcases List.mem_cons.mp h with rfl | h
     ·exact tk _ _ tz1 (by decide)
     rcases List.mem_cons.mp h with rfl | h
     ·exact tk _ _ tz2 (by decide)
     rcases List.mem_cons.mp h with rfl | h
     ·exact tk _ _ ty1 (by decide)
     rcases List.mem_cons.mp h with rfl | h
     ·exact tk _ _ ty2 (by decide)
     ·cases h
  refine ⟨(),q,gn,gd,rfl,bq.of hq12,_,(),rfl,⟨by decide,by decide,by decide⟩,_,(),rfl,(),?_⟩
  rw [p40]
  by_cases hm:((10 ^ 40:Nat):Int)≤(if gd > gn then gd else gn)
  ·rw [decide_eq_true hm]
   have ef:cA (eQ gn gd)=none:=by
    rw [nu l1 l2,if_neg]
    intro z
    have z2:gd<((10 ^ 40:Nat):Int):=z.2
    split at hm <;> trivial
   refine ai ⟨(),eQ gn gd,rfl,by trivial,fun u H13 s13 du=>⟨(by show 2≤10000;decide),fun r H14 n14=>?_⟩⟩
   rw [ef] at du
   refine ⟨eR none,eR none,ED,ED,3,3,1,1,du.mono n14.sm.toE,.tup n14.at' (.cons (.str _) (.cons .non .nil)),?_,?_,by decide,(),?_⟩
   ·exact oj
   ·exact oj
   rw [if_pos rfl,show PyData.eqv (eR none) (eR none)=true by nofun]
   exact aq (go _ (s13.trans n14.sm))
  ·rw [decide_eq_false hm]
   exact aq (aq (go H12 (au.refl _)))
end
end K65
namespace K65
open PySem L2
set_option maxHeartbeats 0 in
theorem txt_of {K:PySem.W.Frag}{h:Heap}{mg:Str→Option Value} (y:obs K=due) (X:K.In h) (G:h.Ns mainGlobals mg):∃T:Txt K mg,∀(s:Shared) (u:Value),BindsTo s T.law_.d ⟨[u],[]⟩ [("_law_script",u)]:=by
 have e:∀i,(obs K).1.getD i none=due.1.getD i none:=fun i=>by rw [y]
 have b:∀i,(obs K).2.getD i true=due.2.getD i true:=fun i=>by rw [y]
 refine ⟨{
  b_ValueError:=PySem.W.mg_none_of X G (bT (b 65)),
  b_abs:=PySem.W.mg_none_of X G (bT (b 66)),
  b_all:=PySem.W.mg_none_of X G (bT (b 67)),
  b_bool:=PySem.W.mg_none_of X G (bT (b 68)),
  b_divmod:=PySem.W.mg_none_of X G (bT (b 69)),
  b_enumerate:=PySem.W.mg_none_of X G (bT (b 70)),
  b_int:=PySem.W.mg_none_of X G (bT (b 71)),
  b_isinstance:=PySem.W.mg_none_of X G (bT (b 72)),
  b_len:=PySem.W.mg_none_of X G (bT (b 73)),
  b_list:=PySem.W.mg_none_of X G (bT (b 74)),
  b_max:=PySem.W.mg_none_of X G (bT (b 75)),
  b_range:=PySem.W.mg_none_of X G (bT (b 76)),
  b_str:=PySem.W.mg_none_of X G (bT (b 77)),
  b_tuple:=PySem.W.mg_none_of X G (bT (b 78)),
  b_zip:=PySem.W.mg_none_of X G (bT (b 79)),
  is_number_:=⟨_,_,PySem.W.mg_of X G (bi (e 0)),ak (e 0),(ak (e 0)).binds (ps:=["thing"]) fun _ _ _ _ _ _=>c8 (fun _=>rfl)⟩,
  common_divisor_:=⟨_,_,PySem.W.mg_of X G (bi (e 1)),ak (e 1),(ak (e 1)).binds (ps:=["n", "d"]) fun _ _ _ _ _ _=>dy (fun _ _=>rfl)⟩,
  is_fraction_:=⟨_,_,PySem.W.mg_of X G (bi (e 2)),ak (e 2),(ak (e 2)).binds (ps:=["thing"]) fun _ _ _ _ _ _=>c8 (fun _=>rfl)⟩,
  is_from_nought_:=⟨_,_,PySem.W.mg_of X G (bi (e 3)),ak (e 3),(ak (e 3)).binds (ps:=["thing"]) fun _ _ _ _ _ _=>c8 (fun _=>rfl)⟩,
  is_above_nought_:=⟨_,_,PySem.W.mg_of X G (bi (e 4)),ak (e 4),(ak (e 4)).binds (ps:=["thing"]) fun _ _ _ _ _ _=>c8 (fun _=>rfl)⟩,
  is_name_:=⟨_,_,PySem.W.mg_of X G (bi (e 5)),ak (e 5),(ak (e 5)).binds (ps:=["thing"]) fun _ _ _ _ _ _=>c8 (fun _=>rfl)⟩,
  is_tie_:=⟨_,_,PySem.W.mg_of X G (bi (e 6)),ak (e 6),(ak (e 6)).binds (ps:=["places", "thing"]) fun _ _ _ _ _ _=>dy (fun _ _=>rfl)⟩,
  figures_of_:=⟨_,_,PySem.W.mg_of X G (bi (e 7)),ak (e 7),(ak (e 7)).binds (ps:=["number"]) fun _ _ _ _ _ _=>c8 (fun _=>rfl)⟩,
  fraction_text_:=⟨_,_,PySem.W.mg_of X G (bi (e 8)),ak (e 8),(ak (e 8)).binds (ps:=["one"]) fun _ _ _ _ _ _=>c8 (fun _=>rfl)⟩,
  are_figures_:=⟨_,_,PySem.W.mg_of X G (bi (e 9)),ak (e 9),(ak (e 9)).binds (ps:=["text", "most"]) fun _ _ _ _ _ _=>dy (fun _ _=>rfl)⟩,
  fraction_or_none_:=⟨_,_,PySem.W.mg_of X G (bi (e 10)),ak (e 10),(ak (e 10)).binds (ps:=["text"]) fun _ _ _ _ _ _=>c8 (fun _=>rfl)⟩,
  fraction_from_:=⟨_,_,PySem.W.mg_of X G (bi (e 11)),ak (e 11),(ak (e 11)).binds (ps:=["text"]) fun _ _ _ _ _ _=>c8 (fun _=>rfl)⟩,
  is_place_row_:=⟨_,_,PySem.W.mg_of X G (bi (e 12)),ak (e 12),(ak (e 12)).binds (ps:=["words"]) fun _ _ _ _ _ _=>c8 (fun _=>rfl)⟩,
  tie_from_:=⟨_,_,PySem.W.mg_of X G (bi (e 13)),ak (e 13),(ak (e 13)).binds (ps:=["words"]) fun _ _ _ _ _ _=>c8 (fun _=>rfl)⟩,
  net_from_:=⟨_,_,PySem.W.mg_of X G (bi (e 14)),ak (e 14),(ak (e 14)).binds (ps:=["text"]) fun _ _ _ _ _ _=>c8 (fun _=>rfl)⟩,
  l_box_:=⟨_,_,PySem.W.mg_of X G (bi (e 15)),ak (e 15),(ak (e 15)).binds (ps:=["_law_script", "_law_k"]) fun _ _ _ _ _ _=>dy (fun _ _=>rfl)⟩,
  l_take_:=⟨_,_,PySem.W.mg_of X G (bi (e 16)),ak (e 16),(ak (e 16)).binds (ps:=["_law_box_here", "_law_many"]) fun _ _ _ _ _ _=>dy (fun _ _=>rfl)⟩,
  l_folded_:=⟨_,_,PySem.W.mg_of X G (bi (e 17)),ak (e 17),(ak (e 17)).binds (ps:=["_law_script", "_law_many"]) fun _ _ _ _ _ _=>dy (fun _ _=>rfl)⟩,
  l_frac_:=⟨_,_,PySem.W.mg_of X G (bi (e 18)),ak (e 18),(ak (e 18)).binds (ps:=["_law_n", "_law_d"]) fun _ _ _ _ _ _=>dy (fun _ _=>rfl)⟩,
  l_word_of_:=⟨_,_,PySem.W.mg_of X G (bi (e 19)),ak (e 19),(ak (e 19)).binds (ps:=["_law_one"]) fun _ _ _ _ _ _=>c8 (fun _=>rfl)⟩,
  l_number_of_:=⟨_,_,PySem.W.mg_of X G (bi (e 20)),ak (e 20),(ak (e 20)).binds (ps:=["_law_text"]) fun _ _ _ _ _ _=>c8 (fun _=>rfl)⟩,
  l_one_in_:=⟨_,_,PySem.W.mg_of X G (bi (e 21)),ak (e 21),(ak (e 21)).binds (ps:=["_law_text"]) fun _ _ _ _ _ _=>c8 (fun _=>rfl)⟩,
  l_all_told_:=⟨_,_,PySem.W.mg_of X G (bi (e 22)),ak (e 22),(ak (e 22)).binds (ps:=["_law_which", "_law_thing"]) fun _ _ _ _ _ _=>dy (fun _ _=>rfl)⟩,
  l_same_:=⟨_,_,PySem.W.mg_of X G (bi (e 23)),ak (e 23),(ak (e 23)).binds (ps:=["_law_found", "_law_due"]) fun _ _ _ _ _ _=>dy (fun _ _=>rfl)⟩,
  l_any_fraction_:=⟨_,_,PySem.W.mg_of X G (bi (e 24)),ak (e 24),(ak (e 24)).binds (ps:=["_law_box_here"]) fun _ _ _ _ _ _=>c8 (fun _=>rfl)⟩,
  l_bent_text_:=⟨_,_,PySem.W.mg_of X G (bi (e 25)),ak (e 25),(ak (e 25)).binds (ps:=["_law_box_here", "_law_text"]) fun _ _ _ _ _ _=>dy (fun _ _=>rfl)⟩,
  l_right_:=⟨_,_,PySem.W.mg_of X G (bi (e 26)),ak (e 26),(ak (e 26)).binds (ps:=["_law_one"]) fun _ _ _ _ _ _=>c8 (fun _=>rfl)⟩,
  law_:=⟨_,_,PySem.W.mg_of X G (bi (e 27)),ak (e 27),(ak (e 27)).binds (ps:=["_law_script"]) fun _ _ _ _ _ _=>c8 (fun _=>rfl)⟩,
  f_Gaining__init:=_,d_Gaining__init:=_,F_Gaining__init:=ak (e 28),B_Gaining__init:=(ak (e 28)).binds (ps:=["self", "ties"]) fun _ _ _ _ _ _=>dy (fun _ _=>rfl),
  f_NotSoMuch__init:=_,d_NotSoMuch__init:=_,F_NotSoMuch__init:=ak (e 29),B_NotSoMuch__init:=(ak (e 29)).binds (ps:=["self", "most"]) fun _ _ _ _ _ _=>dy (fun _ _=>rfl),
  f_Short__init:=_,d_Short__init:=_,F_Short__init:=ak (e 30),B_Short__init:=(ak (e 30)).binds (ps:=["self", "share"]) fun _ _ _ _ _ _=>dy (fun _ _=>rfl),
  f_Lacking__init:=_,d_Lacking__init:=_,F_Lacking__init:=ak (e 31),B_Lacking__init:=(ak (e 31)).binds (ps:=["self", "place"]) fun _ _ _ _ _ _=>dy (fun _ _=>rfl),
  f_BadRow__init:=_,d_BadRow__init:=_,F_BadRow__init:=ak (e 32),B_BadRow__init:=(ak (e 32)).binds (ps:=["self", "row"]) fun _ _ _ _ _ _=>dy (fun _ _=>rfl),
  f_BadSheet__init:=_,d_BadSheet__init:=_,F_BadSheet__init:=ak (e 33),B_BadSheet__init:=(ak (e 33)).binds (ps:=["self", "row"]) fun _ _ _ _ _ _=>dy (fun _ _=>rfl),
  x_GainError:=_,m_GainError:=PySem.W.mg_of X G (cf (b 0)),k_GainError:=(b 15),xb_GainError:=(b 16),
  x_BadNumber:=_,m_BadNumber:=PySem.W.mg_of X G (cf (b 1)),k_BadNumber:=(b 17),q_BadNumber:=(b 18),
  x_Taken:=_,m_Taken:=PySem.W.mg_of X G (cf (b 2)),k_Taken:=(b 19),q_Taken:=(b 20),
  x_NoPlace:=_,m_NoPlace:=PySem.W.mg_of X G (cf (b 3)),k_NoPlace:=(b 21),q_NoPlace:=(b 22),
  x_NoTie:=_,m_NoTie:=PySem.W.mg_of X G (cf (b 4)),k_NoTie:=(b 23),q_NoTie:=(b 24),
  x_AsItIs:=_,m_AsItIs:=PySem.W.mg_of X G (cf (b 5)),k_AsItIs:=(b 25),q_AsItIs:=(b 26),
  x_NoEnds:=_,m_NoEnds:=PySem.W.mg_of X G (cf (b 6)),k_NoEnds:=(b 27),q_NoEnds:=(b 28),
  x_Over:=_,m_Over:=PySem.W.mg_of X G (cf (b 7)),k_Over:=(b 29),q_Over:=(b 30),
  x_TooMuch:=_,m_TooMuch:=PySem.W.mg_of X G (cf (b 8)),k_TooMuch:=(b 31),q_TooMuch:=(b 32),
  x_Gaining:=_,m_Gaining:=PySem.W.mg_of X G (cf (b 9)),k_Gaining:=(b 33),fn_Gaining:=(b 34),st_Gaining:=(b 35),fd_Gaining:=(b 36),q_Gaining:=(b 37),
  x_NotSoMuch:=_,m_NotSoMuch:=PySem.W.mg_of X G (cf (b 10)),k_NotSoMuch:=(b 38),fn_NotSoMuch:=(b 39),st_NotSoMuch:=(b 40),fd_NotSoMuch:=(b 41),q_NotSoMuch:=(b 42),
  x_Short:=_,m_Short:=PySem.W.mg_of X G (cf (b 11)),k_Short:=(b 43),fn_Short:=(b 44),st_Short:=(b 45),fd_Short:=(b 46),q_Short:=(b 47),
  x_Lacking:=_,m_Lacking:=PySem.W.mg_of X G (cf (b 12)),k_Lacking:=(b 48),fn_Lacking:=(b 49),st_Lacking:=(b 50),fd_Lacking:=(b 51),q_Lacking:=(b 52),
  x_BadRow:=_,m_BadRow:=PySem.W.mg_of X G (cf (b 13)),k_BadRow:=(b 53),fn_BadRow:=(b 54),st_BadRow:=(b 55),fd_BadRow:=(b 56),q_BadRow:=(b 57),
  x_BadSheet:=_,m_BadSheet:=PySem.W.mg_of X G (cf (b 14)),k_BadSheet:=(b 58),fn_BadSheet:=(b 59),st_BadSheet:=(b 60),fd_BadSheet:=(b 61),q_BadSheet:=(b 62),
  em_BadNumber_GainError:=(tL (b 63)),
  kin:=(b 64) },fun s u=>?_⟩
 obtain ⟨_,_,_,_,_,_,_,_,_,z,_⟩:=(ak (e 27):gw K "law" "law" bc _ _).ex
 show BindsTo s (dP K (PySem.W.nsIn K mainGlobals "law")) _ _
 rw [z]
 exact .of_eq rfl
end K65
open PySem PySem.W PyProof.Rows
set_option maxRecDepth 100000 in
set_option maxHeartbeats 0 in
theorem PySem.Challenge.cw_gainroads_k65_fractions_as_texts_holds : PySem.Challenge.rw_gainroads_k65_fractions_as_texts.Holds := by
 w_on;o_law
 refine holds_openX (q:=K65.qv) (loose:=[]) (Xt:=L2.Xt) (XP:=XL K65.qv []) (Yf:=L2.Yf) (Ya:=fun _=>K65.due) (N:=8674) (L2.left_tree rfl rfl (fun _=>rfl) L2.left) (fun s e=>xl_of s (Bool.and_eq_true_iff.mp e).1) XL.keeps (by rfl) (by rfl) (by rfl) (fun s e=>recFacts_of (Bool.and_eq_true_iff.mp e).2) (by rfl) (by first | assumption | decide +kernel) (by nofun) ⟨rfl,rfl,rfl,rfl,rfl,by nofun⟩ ?hw ?hc
 case hw=>w_witness2
 refine L2.walk_ofY (obs:=K65.obs) (due:=K65.due) (l:=PySem.Challenge.rw_gainroads_k65_fractions_as_texts) (n:=63) (k:=40) (x := "_law_script") (CX:=L2.CX0) (sp:=K65.spLaw) rfl (by decide) rfl ⟨rfl,by decide,by decide,rfl⟩ ?F ?S ?C
 case F=>
  intro K w mg fa h y KX G hmg
  obtain ⟨T,hb⟩:=K65.txt_of y KX G
  have e0:=hmg.symm.trans T.law_.m
  cases e0
  exact ⟨T.law_.d,hb,fun base kb nb=>K65.law_ok T⟩
 case S=>exact fun K H a ns hl hO hS=>K65.law_start hl hO hS
 case C=>exact fun _ _ _ _ z=>z
