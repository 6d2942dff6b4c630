import PyProof.Rows.All
import Wide.All
import OpenK.AllK
import Wide.FinOn
import Lean
import PyProof.EqAt
import PyProof.EqKinds
import PyProof.TupleCall
import PyProof.CompFree
import PyProof.CompMap
import KE.LcSums
import PyProof.ZipIter
import PyProof.Draws
import KE.KRevSl
import KE.KListMore
import PyProof.Rows.StrJoin2
import PyProof.Rows.StrFin3
import PyProof.StrOps2
import PyProof.NeData
import PyProof.P3Eq
import PyProof.StrLawsRepr
import PyProof.ReprLen
import PyProof.Rows.IntBool
import PyProof.SliceStr2
import PyProof.P3In
import PyProof.Rows.StrLen
import KE.KStrOpen
import PyProof.FitsInt
import PyProof.Rows.ReprOcc
import PyProof.ListRange
import PyProof.AttrMissHeap
import PyProof.FactsAll.zip
import PyProof.FactsAll.tuple_3
import KE.KDictOf
import PyProof.SeqRoads2
import PyProof.DictCompW
import PyProof.Rows.StrInSeq3
import OpenK.KOwn
import KE.KIsAll
import KE.KTryMore
import PyProof.StationsW
import PyProof.RulesAs
import PyProof.NsDelKeeps
import KE.KDictSum
import KE.KIntText
import PyProof.StrCalls2
import PyProof.Rows.StrItems
import PyProof.DictUpdate
import PyProof.Rows.StrSplitCount
import PyProof.Rows.StrFirst
import PyProof.Rows.StrLawsPart
import PyProof.Rows.StrDigitsNeg
import KE.IntTextLaws
import PyProof.Rows.FStr
import PyProof.SeqRoads
import PyProof.Rows.SeqMore
import PySem.Challenge.RW_gainroads_k66_nets_as_texts
set_option Elab.async false
set_option linter.all false
set_option maxRecDepth 100000
local macro_rules | `(tactic| nofun)=>`(tactic| decide +kernel)
local macro_rules | `(⟨$xs,*⟩)=>do
 let es:=xs.getElems
 unless es.any (fun e=>match e with | `(())=>true | _=>false) do Lean.Macro.throwUnsupported
 let mut o:=#[]
 for e in es do
  match e with
  | `(())=>o:=(o.push (←`(_))).push (←`(rfl))
  | _=>o:=o.push e
 `(⟨$o,*⟩)
set_option genSizeOf false
set_option genInjectivity false
namespace L2
inductive aV {α0 α1:Type} (p:α0→α1→Prop):Prop
 | mk (a0:α0) (a1:α1) (h:p a0 a1)
inductive gf {α0 α1 α2:Type} (p:α0→α1→α2→Prop):Prop
 | mk (a0:α0) (a1:α1) (a2:α2) (h:p a0 a1 a2)
inductive mf {α0 α1 α2 α3:Type} (p:α0→α1→α2→α3→Prop):Prop
 | mk (a0:α0) (a1:α1) (a2:α2) (a3:α3) (h:p a0 a1 a2 a3)
inductive xw {α0 α1 α2 α3 α4:Type} (p:α0→α1→α2→α3→α4→Prop):Prop
 | mk (a0:α0) (a1:α1) (a2:α2) (a3:α3) (a4:α4) (h:p a0 a1 a2 a3 a4)
inductive xq {α0 α1 α2 α3 α4 α5:Type} (p:α0→α1→α2→α3→α4→α5→Prop):Prop
 | mk (a0:α0) (a1:α1) (a2:α2) (a3:α3) (a4:α4) (a5:α5) (h:p a0 a1 a2 a3 a4 a5)
inductive HK {α0 α1 α2 α3 α4 α5 α6:Type} (p:α0→α1→α2→α3→α4→α5→α6→Prop):Prop
 | mk (a0:α0) (a1:α1) (a2:α2) (a3:α3) (a4:α4) (a5:α5) (a6:α6) (h:p a0 a1 a2 a3 a4 a5 a6)
inductive EN {α0 α1 α2 α3 α4 α5 α6 α7 α8:Type} (p:α0→α1→α2→α3→α4→α5→α6→α7→α8→Prop):Prop
 | mk (a0:α0) (a1:α1) (a2:α2) (a3:α3) (a4:α4) (a5:α5) (a6:α6) (a7:α7) (a8:α8) (h:p a0 a1 a2 a3 a4 a5 a6 a7 a8)
end L2
set_option genSizeOf true
set_option genInjectivity true
local macro_rules | `(tactic| trivial)=>`(tactic| first | lia | omega)
namespace L2
open PySem PySem.Spec PyProof.Rows
abbrev bz:=Sum Int Str
def fH:bz→Value→Bool
 | .inl k,v=>Value.isInt k v
 | .inr x,v=>Value.isStrOf x v
def HW (w:World):bz→Int
 | .inl k=>hashInt k
 | .inr x=>hashStr w x
theorem cH:∀{k:bz}{v:Value},fH k v=true→(aV fun i t=>k=Sum.inl i∧v=Value.int i t)∨(aV fun x t=>k=Sum.inr x∧v=Value.str x t)
 | .inl i,v,h=>by
  obtain ⟨t,e⟩:=Value.isInt_shape (k:=i) (v:=v) h
  exact .inl ⟨i,t,rfl,e⟩
 | .inr x,v,h=>by
  obtain ⟨t,e⟩:=Value.isStrOf_shape (x:=x) (v:=v) h
  exact .inr ⟨x,t,rfl,e⟩
theorem zM (i:Int) (t:Tok):fH (.inl i) (.int i t)=true:=by simp [fH,Value.isInt]
theorem yL (x:Str) (t:Tok):fH (.inr x) (.str x t)=true:=by simp [fH,Value.isStrOf]
theorem Fg (a b:Int):decide ((Sum.inl a:bz)=Sum.inl b)=(a==b):=by
 by_cases e:a=b
 ·subst e;simp
 ·have h:¬(Sum.inl a:bz)=Sum.inl b:=fun q=>e (Sum.inl.inj q)
  rw [decide_eq_false h]
  exact (beq_eq_false_iff_ne.mpr e).symm
theorem DY (a b:Str):decide ((Sum.inr a:bz)=Sum.inr b)=decide (a=b):=by
 by_cases e:a=b
 ·subst e;simp
 ·have h:¬(Sum.inr a:bz)=Sum.inr b:=fun q=>e (Sum.inr.inj q)
  rw [decide_eq_false h,decide_eq_false e]
theorem Ei (a:Int) (b:Str):decide ((Sum.inl a:bz)=Sum.inr b)=false:=decide_eq_false (fun q=>nomatch q)
theorem Fu (a:Str) (b:Int):decide ((Sum.inr a:bz)=Sum.inl b)=false:=decide_eq_false (fun q=>nomatch q)
def cV (prog:Program) (w:World):PySem.KeyKind prog w bz where
 is:=fH
 hash:=HW w
 inj:=fun v a b ha hb=>by
  rcases cH ha with ⟨i,t,rfl,rfl⟩ | ⟨x,t,rfl,rfl⟩
  ·rcases cH hb with ⟨j,u,rfl,e⟩ | ⟨y,u,rfl,e⟩
   ·injection e with e1 _;rw [e1]
   ·exact nomatch e
  ·rcases cH hb with ⟨j,u,rfl,e⟩ | ⟨y,u,rfl,e⟩
   ·exact nomatch e
   ·injection e with e1 _;rw [e1]
 byValue:=fun k v h=>by
  rcases cH h with ⟨i,t,rfl,rfl⟩ | ⟨x,t,rfl,rfl⟩ <;> rfl
 pyHash:=fun hv h=>by
  rcases cH hv with ⟨i,t,rfl,rfl⟩ | ⟨x,t,rfl,rfl⟩
  ·exact wpAny_pyHash_int h
  ·exact wpAny_pyHash_str h
 eqBool:=fun hu hv h=>by
  rcases cH hu with ⟨i,t,rfl,rfl⟩ | ⟨x,t,rfl,rfl⟩
  ·rcases cH hv with ⟨j,u,rfl,rfl⟩ | ⟨y,u,rfl,rfl⟩
   ·rw [Fg] at h;exact wpAny_eqBool_int h
   ·rw [Ei] at h;exact SeqAt.EqAt.int_str i t y u _ _ _ _ h
  ·rcases cH hv with ⟨j,u,rfl,rfl⟩ | ⟨y,u,rfl,rfl⟩
   ·rw [Fu] at h;exact SeqAt.EqAt.str_int x t j u _ _ _ _ h
   ·rw [DY] at h;exact wpAny_eqBool_str h
 «strs»:=fun k x t v h=>by
  rcases cH h with ⟨i,u,rfl,e⟩ | ⟨y,u,rfl,e⟩
  ·exact nomatch e
  ·injection e with e1 _
   subst e1
   cases v <;> rfl
inductive V where
 | non | bl (b:Bool) | int (i:Int) | str (x:Str) | byt (b:Array UInt8) | flt (b:UInt64) | ref (a:Addr) | ty (n:String)
 deriving DecidableEq
def aO:V→Value→Prop
 | .non,u=>u=Value.none
 | .bl b,u=>u=Value.bool b
 | .int i,u=>∃t,u=Value.int i t
 | .str x,u=>∃t,u=Value.str x t
 | .byt b,u=>∃t,u=Value.bytes b t
 | .flt b,u=>∃t,u=Value.float b t
 | .ref a,u=>u=Value.ref a
 | .ty n,u=>u=Value.type n
abbrev aC:List V→List Value→Prop:=Paired aO
theorem aC.length {xs:List V}{us:List Value} (r:aC xs us):xs.length=us.length:=Paired.length r
theorem aC.get:∀{xs:List V}{us:List Value}{i:Nat}{x:V},aC xs us→xs[i]?=some x→∃u,us[i]?=some u∧aO x u
 | _,_,_,_,.nil,e=>by simp at e
 | _,_,0,_,.cons r _,e=>by simp at e;subst e;exact ⟨_,rfl,r⟩
 | _,_,i+1,x,.cons _ t,e=>by
  obtain ⟨u,h1,h2⟩:=aC.get (i:=i) (x:=x) t (by simpa using e)
  exact ⟨u,by simpa using h1,h2⟩
theorem aC.set {x:V}{u:Value} (r:aO x u):∀{xs:List V}{us:List Value} (i:Nat),aC xs us→aC (xs.set i x) (us.set i u)
 | _,_,_,.nil=>.nil
 | _,_,0,.cons _ t=>.cons r t
 | _,_,i+1,.cons q t=>.cons q (aC.set r i t)
theorem aC.append:∀{xs ys:List V}{us ws:List Value},aC xs us→aC ys ws→aC (xs++ys) (us++ws)
 | _,_,_,_,.nil,s=>s
 | _,_,_,_,.cons r t,s=>.cons r (aC.append t s)
theorem aC.take:∀{xs:List V}{us:List Value} (n:Nat),aC xs us→aC (xs.take n) (us.take n)
 | _,_,0,_=>.nil
 | _,_,_+1,.nil=>.nil
 | _,_,n+1,.cons r t=>.cons r (aC.take n t)
theorem aC.drop:∀{xs:List V}{us:List Value} (n:Nat),aC xs us→aC (xs.drop n) (us.drop n)
 | _,_,0,r=>r
 | _,_,_+1,.nil=>.nil
 | _,_,n+1,.cons _ t=>aC.drop n t
def qN:Option V→Option Value→Prop
 | some v,some u=>aO v u
 | none,none=>True
 | _,_=>False
def KV {κ:Type}:List (κ×V)→List (κ×Value)→Prop:=Paired fun (p:κ×V) (q:κ×Value)=>p.1=q.1∧aO p.2 q.2
def kV:bz→V
 | .inl i=>.int i
 | .inr x=>.str x
inductive HO where
 | lst (xs:List V)
 | tup (xs:List V)
 | dK (kvs:List (bz×V)) | dT (kvs:List (List bz×V))
 | set (S:Int→Bool) (n:Nat)
 | ins (C dx:Addr) (fs:List (Str×V))
 | own (x:Addr)
 | xd (fs:List (Str×V))
 | met (f x:Addr)
 | rng (lo hi:Int)
 | frz (o:Obj) (u:HO)
 | tbl (ps:Array Value)
 | ext (φ:Heap→Prop)
abbrev Hp:=Addr→Option HO
def aL (H:Hp) (a:Addr) (o:HO):Hp:=fun b=>if b=a then some o else H b
theorem ai {H:Hp}{a:Addr}{o:HO}:aL H a o a=some o:=by unfold aL;rw [if_pos rfl]
theorem am {H:Hp}{a b:Addr}{o:HO} (h:b≠a):aL H a o b=H b:=by unfold aL;rw [if_neg h]
theorem yH {H:Hp}{a b:Addr}{o u:HO} (h:H a=some o) (h':H b=some u) (d:o≠u):a≠b:=by
 intro e;subst e;rw [h] at h';exact d (Option.some.inj h')
theorem aS {H:Hp}{a b:Addr}{o:HO} (h:H a=some o) (h':H b=none):a≠b:=by
 intro e;subst e;rw [h] at h';cases h'
section
variable (P:Program) (w:World)
def bc (H:Hp) (h:Heap) (a:Addr):HO→Prop
 | .lst xs=>xs.length≤sizeLine∧aV fun (its:List Value) (n:Nat)=>aC xs its∧h.get? a=some { cls:=.type "list",data:=.seq its.toArray n }
 | .tup xs=>xs.length≤sizeLine∧∃its:List Value,aC xs its∧IsTup h a its.toArray∧∃o,h.get? a=some o∧o.dict=none
 | .dK kvs=>kvs.length≤sizeLine∧(a==sysModules)=false∧∃vs,KV kvs vs∧h.DictOf (cV P w) a vs
 | .dT kvs=>kvs.length≤sizeLine∧(a==sysModules)=false∧∃xs:List (List bz×Addr×Value),
  Paired (fun (p:List bz×V) (q:List bz×Addr×Value)=>p.1=q.1∧H q.2.1=some (.tup (p.1.map kV))∧aO p.2 q.2.2) kvs xs∧
  gf fun o es ep=>h.get? a=some o∧o.ExactDict∧o.data=.dict es ep∧es.toList=xs.map (entryOfKey (tupleKind (cV P w)))∧(xs.map (·.1)).Nodup
 | .set S n=>h.SetOf (intKind P w) a S n
 | .ins C dx fs=>H dx=some (.own a)∧fs.length≤1000∧dx≠a∧h.get? a=some (PySem.W.instObj C dx)∧
  ∃mA,h.Ns1 dx mA∧(∀f,qN (fs.lookup f) (mA f))∧PySem.Within mA (fs.map (·.1))
 | .own _=>∃o,h.get? a=some o
 | .xd fs=>∃mA,h.Ns1 a mA∧∀f,qN (fs.lookup f) (mA f)
 | .rng lo hi=>gf fun t u v=>h.get? a=some { cls:=.type "range",data:=.fields #[.int lo t,.int hi u,.int 1 v] }
 | .frz o u=>h.get? a=some o∧bc H h a u
 | .tbl ps=>h.get? a=some { cls:=.none,data:=.fields ps }
 | .met f x=>h.get? a=some (PySem.W.methodObj (.ref f) (.ref x))
 | .ext φ=>φ h∧(∃o,h.get? a=some o)∧∀h1 h2:Heap,φ h1→(∀o,h1.get? a=some o→h2.get? a=some o)→φ h2
def dc (H:Hp) (h:Heap):Prop:=∀a o,H a=some o→bc P w H h a o
end
section
variable {P:Program}{w:World}{H H':Hp}{h h':Heap}{a:Addr}{o:HO}
theorem bc.lt (x:bc P w H h a o):a<h.objs.size:=by
 cases o with
 | lst xs=>obtain ⟨_,_,_,_,e⟩:=x;exact Heap.lt_size e
 | tup xs=>obtain ⟨_,_,_,p,_⟩:=x;exact p.lt
 | dK kvs=>obtain ⟨_,_,_,_,o,_,_,e,_⟩:=x;exact Heap.lt_size e
 | dT kvs=>obtain ⟨_,_,_,_,o,_,_,e,_⟩:=x;exact Heap.lt_size e
 | set S n=>obtain ⟨o,_,_,_,e,_⟩:=x;exact Heap.lt_size e
 | ins C dx fs=>obtain ⟨_,_,_,e,_⟩:=x;exact Heap.lt_size e
 | own y=>obtain ⟨_,e⟩:=x;exact Heap.lt_size e
 | xd fs=>obtain ⟨_,⟨_,_,_,e,_⟩,_⟩:=x;exact Heap.lt_size e
 | rng lo hi=>obtain ⟨_,_,_,e⟩:=x;exact Heap.lt_size e
 | frz ob u=>obtain ⟨e,_⟩:=x;exact Heap.lt_size e
 | tbl ps=>exact Heap.lt_size (show h.get? a=some _ from x)
 | met f y=>exact Heap.lt_size (show h.get? a=some _ from x)
 | ext φ=>obtain ⟨_,⟨_,e⟩,_⟩:=x;exact Heap.lt_size e
theorem Paired.mapP {α β:Type}{F G:α→β→Prop}:∀{l₁:List α}{l₂:List β},Paired F l₁ l₂→(∀a b,F a b→G a b)→Paired G l₁ l₂
 | _,_,.nil,_=>.nil
 | _,_,.cons r t,f=>.cons (f _ _ r) (Paired.mapP t f)
theorem bc.stay (x:bc P w H h a o) (k:∀b u,(b=a∨H b=some (.own a))→h.get? b=some u→h'.get? b=some u)
 (ho:∀b,H b=some (.own a)→H' b=some (.own a)) (ht:∀b xs,H b=some (.tup xs)→H' b=some (.tup xs)):bc P w H' h' a o:=by
 induction o with
 | lst xs=>obtain ⟨z,its,n,r,e⟩:=x;exact ⟨z,its,n,r,k _ _ (.inl rfl) e⟩
 | tup xs=>obtain ⟨z,its,r,⟨ob,e,c⟩,od,e',c'⟩:=x;exact ⟨z,its,r,⟨ob,k _ _ (.inl rfl) e,c⟩,od,k _ _ (.inl rfl) e',c'⟩
 | dK kvs=>obtain ⟨z,y,vs,r,ob,es,ep,e,c⟩:=x;exact ⟨z,y,vs,r,ob,es,ep,k _ _ (.inl rfl) e,c⟩
 | dT kvs=>
  obtain ⟨z,y,xs,r,ob,es,ep,e,c⟩:=x
  exact ⟨z,y,xs,Paired.mapP r fun p q z=>⟨z.1,ht _ _ z.2.1,z.2.2⟩,ob,es,ep,k _ _ (.inl rfl) e,c⟩
 | set S n=>obtain ⟨ob,es,ep,t,e,c⟩:=x;exact ⟨ob,es,ep,t,k _ _ (.inl rfl) e,c⟩
 | ins C dx fs=>
  obtain ⟨d,z,ne,e,mA,⟨od,es,ep,e2,c⟩,r⟩:=x
  exact ⟨ho _ d,z,ne,k _ _ (.inl rfl) e,mA,⟨od,es,ep,k _ _ (.inr d) e2,c⟩,r⟩
 | own y=>obtain ⟨ob,e⟩:=x;exact ⟨ob,k _ _ (.inl rfl) e⟩
 | xd fs=>obtain ⟨mA,⟨od,es,ep,e,c⟩,r⟩:=x;exact ⟨mA,⟨od,es,ep,k _ _ (.inl rfl) e,c⟩,r⟩
 | rng lo hi=>obtain ⟨t,u,v,e⟩:=x;exact ⟨t,u,v,k _ _ (.inl rfl) e⟩
 | frz ob u ih=>obtain ⟨e,q⟩:=x;exact ⟨k _ _ (.inl rfl) e,ih q⟩
 | tbl ps=>
  have e:h.get? a=some { cls:=.none,data:=.fields ps }:=x
  show h'.get? a=some { cls:=.none,data:=.fields ps }
  exact k a _ (.inl rfl) e
 | met f y=>
  have e:h.get? a=some (PySem.W.methodObj (.ref f) (.ref y)):=x
  show h'.get? a=some (PySem.W.methodObj (.ref f) (.ref y))
  exact k a _ (.inl rfl) e
 | ext φ=>obtain ⟨p,⟨o,e⟩,st⟩:=x;exact ⟨st _ _ p fun o q=>k _ _ (.inl rfl) q,⟨o,k _ _ (.inl rfl) e⟩,st⟩
theorem dc.lt (x:dc P w H h) (e:H a=some o):a<h.objs.size:=(x a o e).lt
theorem dc.fresh (x:dc P w H h) (e:h.objs.size≤a):H a=none:=by
 cases q:H a with
 | none=>rfl
 | some u=>exact absurd (Nat.lt_of_lt_of_le (x.lt q) e) (Nat.lt_irrefl _)
theorem dc.kept (x:dc P w H h) (k:∀b u,h.get? b=some u→h'.get? b=some u):dc P w H h':=fun a o e=>
 (x a o e).stay (fun b u _ q=>k b u q) (fun _ q=>q) fun _ _ q=>q
theorem dc.laid (x:dc P w H h) (k:∀b u,h.get? b=some u→h'.get? b=some u) (hp:h.objs.size≤a) (new:bc P w (aL H a o) h' a o):dc P w (aL H a o) h':=fun b u e=>by
 have hn:=x.fresh hp
 by_cases hb:b=a
 ·subst hb;rw [ai] at e;cases e;exact new
 ·rw [am hb] at e
  exact (x b u e).stay (fun c v _ q=>k c v q) (fun c q=>by rw [am (aS q hn)];exact q) fun c xs q=>by rw [am (aS q hn)];exact q
end
def Rd (H:Hp) (a:Addr) (u:HO):Prop:=H a=some u∨∃o,H a=some (.frz o u)
theorem Rd.ok {P:Program}{w:World}{H:Hp}{h:Heap}{a:Addr}{u:HO} (r:Rd H a u) (x:dc P w H h):bc P w H h a u:=by
 rcases r with r | ⟨o,r⟩
 ·exact x a u r
 ·obtain ⟨_,q⟩:=x a _ r
  exact q
def BY:Option HO→Prop
 | some (.lst _)=>True
 | some (.dK _)=>True
 | some (.dT _)=>True
 | some (.set _ _)=>True
 | some (.ins _ _ _)=>True
 | some (.ext _)=>True
 | _=>False
section
variable {P:Program}{w:World}{H:Hp}{h h':Heap}{x e:Addr}{o':HO}
theorem dc.write (ok:dc P w H h) (mu:BY (H x)) (he:e=x∨H e=some (.own x)) (k:∀b u,b≠e→h.get? b=some u→h'.get? b=some u) (heo:∃u,h'.get? e=some u)
 (new:bc P w (aL H x o') h' x o'):dc P w (aL H x o') h':=fun b u q=>by
 have nown:∀c y,H c=some (.own y)→c≠x:=fun c y r z=>by subst z;rw [r] at mu;exact mu
 have ntup:∀c xs,H c=some (.tup xs)→c≠x:=fun c xs r z=>by subst z;rw [r] at mu;exact mu
 by_cases hb:b=x
 ·subst hb;rw [ai] at q;cases q;exact new
 ·rw [am hb] at q
  by_cases hbe:b=e
  ·have q':H b=some (.own x):=by
    rcases he with z | z
    ·exact absurd (hbe.trans z) hb
    ·rw [hbe];exact z
   rw [q] at q';cases q'
   obtain ⟨v,hv⟩:=heo
   exact ⟨v,by rw [hbe];exact hv⟩
  ·refine (ok b u q).stay (fun c v hc r=>k c v ?_ r) (fun c r=>by rw [am (nown c b r)];exact r) fun c xs r=>by rw [am (ntup c xs r)];exact r
   rcases hc with rfl | hc
   ·exact hbe
   ·rintro rfl
    rcases he with z | z
    ·exact nown c b hc z
    ·rw [hc] at z;cases z;exact hb rfl
end
structure Un (fs ex:List Addr) (H H':Hp) (h h':Heap):Prop where
 keep:∀b o,h.get? b=some o→H b=none→b∉fs→b∉ex→h'.get? b=some o
 slot:∀b o,h.get? b=some o→H b=none→b∈fs→b∉ex→∃sl,h'.get? b=some { o with slots:=sl }
 free:∀b o,h.get? b=some o→H b=none→b∉ex→H' b=none
 there:∀b o,h.get? b=some o→b∉ex→∃o',h'.get? b=some o'
 tups:∀b xs,H b=some (.tup xs)→H' b=some (.tup xs)
 frzs:∀b o u,H b=some (.frz o u)→H' b=some (.frz o u)
 tbls:∀b ps,H b=some (.tbl ps)→∃more,H' b=some (.tbl (ps++more))
section
variable {fs fs' ex ex':List Addr}{H H1 H2:Hp}{h h1 h2 h':Heap}{a x e:Addr}{o:HO}
theorem Un.any (u:Un fs ex H H1 h h1) {b:Addr}{ob:Obj} (q:h.get? b=some ob) (n:H b=none) (hx:b∉ex):∃sl,h1.get? b=some { ob with slots:=sl }:=by
 by_cases hb:b∈fs
 ·exact u.slot b ob q n hb hx
 ·exact ⟨ob.slots,u.keep b ob q n hb hx⟩
theorem Un.kept (k:∀b u,h.get? b=some u→h'.get? b=some u):Un fs ex H H h h':=
 ⟨fun b ob q _ _ _=>k b ob q,fun b ob q _ _ _=>⟨ob.slots,k b ob q⟩,fun _ _ _ n _=>n,fun b ob q _=>⟨ob,k b ob q⟩,fun _ _ q=>q,fun _ _ _ q=>q,fun _ ps q=>⟨#[],by rw [q];simp⟩⟩
theorem Un.refl:Un fs ex H H h h:=Un.kept fun _ _ q=>q
theorem Un.laid (k:∀b u,h.get? b=some u→h'.get? b=some u) (hp:h.objs.size≤a) (hn:H a=none):Un fs ex H (aL H a o) h h' where
 keep:=fun b u q _ _ _=>k b u q
 slot:=fun b u q _ _ _=>⟨u.slots,k b u q⟩
 free:=fun b u q n _=>by rw [am (Nat.ne_of_lt (Nat.lt_of_lt_of_le (Heap.lt_size q) hp))];exact n
 there:=fun b u q _=>⟨u,k b u q⟩
 tups:=fun b xs q=>by rw [am (aS q hn)];exact q
 frzs:=fun b u xs q=>by rw [am (aS q hn)];exact q
 tbls:=fun b ps q=>⟨#[],by rw [am (aS q hn),q];simp⟩
theorem Un.write (mu:BY (H x)) (he:e=x∨H e=some (.own x)) (k:∀b u,b≠e→h.get? b=some u→h'.get? b=some u) (heo:∃u,h'.get? e=some u):Un fs ex H (aL H x o) h h':=by
 have hx:∀b,H b=none→b≠x:=fun b n z=>by subst z;rw [n] at mu;exact mu
 have hb:∀b,H b=none→b≠e:=fun b n z=>by
  subst z
  rcases he with r | r
  ·exact hx b n r
  ·rw [n] at r;cases r
 have hm:∀b u,H b=some u→¬BY (some u)→b≠x:=fun b u q nm z=>by subst z;rw [q] at mu;exact nm mu
 refine ⟨fun b u q n _ _=>k b u (hb b n) q,fun b u q n _ _=>⟨u.slots,k b u (hb b n) q⟩,fun b u q n _=>by rw [am (hx b n)];exact n,fun b u q _=>?_,
  fun b xs q=>by rw [am (hm b _ q fun z=>z)];exact q,fun b u xs q=>by rw [am (hm b _ q fun z=>z)];exact q,fun b ps q=>⟨#[],by rw [am (hm b _ q fun z=>z),q];simp⟩⟩
 by_cases hbe:b=e
 ·subst hbe;exact heo
 ·exact ⟨u,k b u hbe q⟩
end
def Cb (h:Heap) (H:Hp):List Addr:=(List.range h.objs.size).filter fun a=>(H a).isSome
def nv (h:Heap) (H:Hp):Heap:=PySem.W.hideAll h (Cb h H)
theorem Ap (h:Heap) (H:Hp):(nv h H).objs.size=h.objs.size:=PySem.W.hideAll_size _ _
theorem Ay {h:Heap}{H:Hp}{b:Addr}{o:Obj} (e:h.get? b=some o) (n:H b=none):(nv h H).get? b=some o:=
 PySem.W.hideAll_get _ e fun hm=>by
  have q:(H b).isSome=true:=(List.mem_filter.mp hm).2
  rw [n] at q;simp at q
theorem C7 {h:Heap}{H:Hp}{b:Addr}{o:Obj} (e:(nv h H).get? b=some o):h.get? b=some o∧H b=none:=by
 have e':h.get? b=some o:=PySem.W.of_hideAll (Cb h H) e
 refine ⟨e',?_⟩
 cases q:H b with
 | none=>rfl
 | some x=>
  have hm:b∈Cb h H:=List.mem_filter.mpr ⟨List.mem_range.mpr (Heap.lt_size e'),by simp [q]⟩
  have z:(nv h H).get? b=none:=PySem.W.hideAll_none (Cb h H) hm
  rw [z] at e;cases e
structure Mod (K:PySem.W.Frag) (mg:Str→Option Value) (base:Heap):Prop where
 kin:K.In base
 glob:base.Ns mainGlobals mg
 blt:∃mb,base.Ns builtinsNs mb∧∀x:Str,x≠"__name__"→mb x=bootBuiltins x
 nolimit:base.NoLimit
structure Cx where
 prog:Program
 w:World
 K:PySem.W.Frag
 mg:Str→Option Value
 base:Heap
 A:Around
 N:List Str
 s₀:Shared
 H₀:Hp
 env:Env
 outer:List Env
 stack:List Env
 ex:List Addr
 fn:Str→Bool
 calm:Bool
 pn:List (Addr×Obj)
 xe:Value→Shared→Prop
def gU (l:List Env):List Addr:=l.filterMap (·.frame)
abbrev Cx.fs (X:Cx):List Addr:=gU X.outer
def xk (sc:Scope) (x:Str):Prop:=sc.names.lookup x=some .local∨sc.names.lookup x=some .cell∨sc.names.lookup x=some .free
def zW (sc:Scope) (x:Str):Prop:=sc.names.lookup x=some .local∨sc.names.lookup x=some .cell
def Eh (env:Env) (h:Heap) (m:Str→Option Value) (x:Str) (u:Value):Prop:=
 (env.kindOf x=some .local∧m x=some u)∨((env.kindOf x=some .cell∨env.kindOf x=some .free)∧∃c,env.cells.lookup x=some c∧h.IsCell c (some u))
structure Cx.Ok (X:Cx):Prop where
 mod:Mod X.K X.mg X.base
 kind:X.env.scope.kind=.function
 glob:X.env.globals=mainGlobals
 blt:X.env.builtins=builtinsNs
 above:X.s₀.heap.objs.size≤X.env.locals
 inj:∀x y c,X.env.cells.lookup x=some c→X.env.cells.lookup y=some c→x=y
 has:∀x,(X.env.kindOf x=some .cell∨X.env.kindOf x=some .free)→∃c,X.env.cells.lookup x=some c
 cab:∀x c,X.fn x=true→X.env.cells.lookup x=some c→X.s₀.heap.objs.size≤c
 hd:X.calm=true→X.A.handled=none
 frames:X.A.frames=some X.stack
 stk:X.stack=X.outer∨(X.stack=X.env :: X.outer∧X.env.frame=some X.env.locals)
 exf:∀b∈X.ex,b≠X.env.locals∧∀x c,X.env.cells.lookup x=some c→c≠b
 bs:∀b o,X.base.get? b=some o→X.s₀.heap.get? b=some o∧X.H₀ b=none
 bsz:X.base.objs.size≤X.s₀.heap.objs.size
 noex:∀b o,X.base.get? b=some o→b∉X.ex
 exfs:∀b∈X.ex,b∉X.fs
 funs:X.s₀.heap.FunFrames X.base X.outer
 frf:∀b∈X.fs,X.H₀ b=none
structure aa (X:Cx) (pins:List (Addr×Obj)) (σ:List (Option V)) (H:Hp) (s:Shared):Prop where
 ok:X.Ok
 os:s.os=X.s₀.os
 bare:AllBare s.gens
 base:Un X.fs X.ex X.H₀ H X.s₀.heap s.heap
 loc:∃m,s.heap.Ns X.env.locals m∧∀(i:Nat) (x:Str) (v:V),X.N[i]?=some x→σ[i]?=some (some v)→xk X.env.scope x→∃u,aO v u∧Eh X.env s.heap m x u
 cell:∀x c,X.env.cells.lookup x=some c→∃v,s.heap.IsCell c v
 free:H X.env.locals=none
 freeC:∀x c,X.env.cells.lookup x=some c→H c=none
 pin:∀p∈X.pn++pins,s.heap.get? p.1=some p.2∧H p.1=none∧p.1≠X.env.locals∧p.1∉X.fs∧∀v,p.2.data≠.cell v
 hok:dc X.prog X.w H s.heap
 len:σ.length=X.N.length
section
variable {X:Cx}{pins:List (Addr×Obj)}{σ:List (Option V)}{H H':Hp}{s:Shared}{h':Heap}
theorem Cx.Ok.nofr (ok:X.Ok) {b:Addr}{o:Obj} (e:X.base.get? b=some o):b∉X.fs:=fun hb=>by
 have:=(ok.funs.mem hb).1
 rw [e] at this;cases this
theorem aa.bs (I:aa X pins σ H s):∀b o,X.base.get? b=some o→s.heap.get? b=some o∧H b=none:=fun b o e=>
 ⟨I.base.keep b o (I.ok.bs b o e).1 (I.ok.bs b o e).2 (I.ok.nofr e) (I.ok.noex b o e),I.base.free b o (I.ok.bs b o e).1 (I.ok.bs b o e).2 (I.ok.noex b o e)⟩
theorem aa.bk (I:aa X pins σ H s):∀b o,X.base.get? b=some o→s.heap.get? b=some o:=fun b o e=>(I.bs b o e).1
theorem aa.mod (I:aa X pins σ H s):Mod X.K X.mg X.base:=I.ok.mod
theorem aa.kIn (I:aa X pins σ H s):X.K.In s.heap:=I.ok.mod.kin.keeps I.bk
theorem aa.lt (I:aa X pins σ H s):X.env.locals<s.heap.objs.size:=let ⟨_,hn,_⟩:=I.loc;hn.lt
theorem aa.sz (I:aa X pins σ H s):X.s₀.heap.objs.size≤s.heap.objs.size:=Nat.le_trans I.ok.above (Nat.le_of_lt I.lt)
theorem aa.nofs (I:aa X pins σ H s) {a:Addr} (h:s.heap.objs.size≤a):a∉X.fs:=fun hb=>by
 obtain ⟨_,o,ho,_⟩:=I.ok.funs.mem hb
 exact absurd (Nat.lt_of_lt_of_le (Heap.lt_size ho) (Nat.le_trans I.sz h)) (Nat.lt_irrefl _)
theorem aa.cne (I:aa X pins σ H s):∀x c,X.env.cells.lookup x=some c→c≠X.env.locals:=fun x c e z=>by
 obtain ⟨v,o,ho,hd⟩:=I.cell x c e
 obtain ⟨m,⟨o',es,ep,ho',hd',_⟩,_⟩:=I.loc
 rw [z,ho'] at ho;cases ho;rw [hd'] at hd;cases hd
theorem aa.funs (I:aa X pins σ H s):s.heap.FunFrames X.base X.outer:=by
 have all:∀(l:List Env),(∀b∈gU l,b∈X.fs)→X.s₀.heap.FunFrames X.base l→s.heap.FunFrames X.base l:=by
  intro l
  induction l with
  | nil=>intro _ _;trivial
  | cons env r ih=>
   intro hs hl
   obtain ⟨hk,⟨L,o,hf,hn,ho,hd⟩,hr⟩:=hl
   have hL:L∈X.fs:=hs L (by unfold gU;rw [List.filterMap_cons,hf];exact List.mem_cons_self)
   obtain ⟨sl,e⟩:=I.base.slot L o ho (I.ok.frf L hL) hL fun z=>I.ok.exfs L z hL
   exact ⟨hk,⟨L,_,hf,hn,e,hd⟩,ih (fun b hb=>hs b (by unfold gU;rw [List.filterMap_cons,hf];exact List.mem_cons_of_mem _ hb)) hr⟩
 exact all X.outer (fun _ hb=>hb) I.ok.funs
theorem aa.stack (I:aa X pins σ H s):s.heap.FunFrames X.base X.stack:=by
 rcases I.ok.stk with e | ⟨e,hf⟩
 ·rw [e];exact I.funs
 ·rw [e]
  obtain ⟨m,hn,_⟩:=I.loc
  refine .cons (by rw [I.ok.kind];decide) hf hn ?_ I.funs
  exact Heap.get?_none_of_le (Nat.le_trans I.ok.bsz I.ok.above)
theorem aa.stkSub (I:aa X pins σ H s):∀b∈gU X.stack,b∈X.env.locals :: X.fs:=fun b hb=>by
 rcases I.ok.stk with e | ⟨e,hf⟩
 ·rw [e] at hb;exact List.mem_cons_of_mem _ hb
 ·rw [e] at hb
  unfold gU at hb
  rw [List.filterMap_cons,hf] at hb
  exact hb
theorem aa.stkFree (I:aa X pins σ H s):∀b∈gU X.stack,H b=none:=fun b hb=>by
 rcases List.mem_cons.mp (I.stkSub b hb) with e | hb
 ·rw [e];exact I.free
 ·obtain ⟨_,o,ho,_⟩:=I.ok.funs.mem hb
  exact I.base.free b o ho (I.ok.frf b hb) fun z=>I.ok.exfs b z hb
theorem aa.step {g':Array GenState}{t':Nat}{d':Drawn}{ch:List Addr} (I:aa X pins σ H s)
 (hch:∀b∈ch,(b∈X.ex∨X.s₀.heap.objs.size≤b)∧b≠X.env.locals∧(∀x c,X.env.cells.lookup x=some c→c≠b)∧∀p∈X.pn++pins,p.1≠b)
 (keep:∀b o,b≠X.env.locals→b∉X.fs→b∉ch→s.heap.get? b=some o→H b=none→h'.get? b=some o)
 (slot:∀b o,b≠X.env.locals→b∈X.fs→b∉ch→s.heap.get? b=some o→H b=none→∃sl,h'.get? b=some { o with slots:=sl }) (free:∀b o,b∉ch→s.heap.get? b=some o→H b=none→H' b=none)
 (there:∀b o,b∉ch→s.heap.get? b=some o→∃o',h'.get? b=some o')
 (tups:∀b xs,H b=some (.tup xs)→H' b=some (.tup xs)) (frzs:∀b o u,H b=some (.frz o u)→H' b=some (.frz o u)) (tbls:∀b ps,H b=some (.tbl ps)→∃more,H' b=some (.tbl (ps++more)))
 (ns:∀m,s.heap.Ns X.env.locals m→h'.Ns X.env.locals m) (hok:dc X.prog X.w H' h') (hg:AllBare g') :
 aa X pins σ H' { s with heap:=h',gens:=g',drawn:=d',toks:=t' }:=by
 have neL:∀b o,X.s₀.heap.get? b=some o→b≠X.env.locals:=fun b o e=>Nat.ne_of_lt (Nat.lt_of_lt_of_le (Heap.lt_size e) I.ok.above)
 have neC:∀b o,X.s₀.heap.get? b=some o→b∉X.ex→b∉ch:=fun b o e hx hb=>by
  rcases (hch b hb).1 with z | z
  ·exact hx z
  ·exact absurd (Nat.lt_of_lt_of_le (Heap.lt_size e) z) (Nat.lt_irrefl _)
 have cellK:∀x c,X.env.cells.lookup x=some c→∀v,s.heap.IsCell c v→h'.IsCell c v:=fun x c e v ⟨o,ho,hd⟩=>by
  have nch:c∉ch:=fun z=>(hch c z).2.2.1 x c e rfl
  by_cases hc:c∈X.fs
  ·obtain ⟨sl,q⟩:=slot c o (I.cne x c e) hc nch ho (I.freeC x c e)
   exact ⟨_,q,hd⟩
  ·exact ⟨o,keep c o (I.cne x c e) hc nch ho (I.freeC x c e),hd⟩
 refine ⟨I.ok,I.os,hg,⟨fun b o e n hb hx=>?_,fun b o e n hb hx=>?_,fun b o e n hx=>?_,fun b o e hx=>?_,fun b xs e=>tups b xs (I.base.tups b xs e),fun b o xs e=>frzs b o xs (I.base.frzs b o xs e),fun b ps e=>?_⟩,?_,fun x c e=>?_,?_,fun x c e=>?_,fun p hp=>?_,hok,I.len⟩
 ·exact keep b o (neL b o e) hb (neC b o e hx) (I.base.keep b o e n hb hx) (I.base.free b o e n hx)
 ·obtain ⟨sl,e1⟩:=I.base.slot b o e n hb hx
  obtain ⟨sl',e2⟩:=slot b _ (neL b o e) hb (neC b o e hx) e1 (I.base.free b o e n hx)
  exact ⟨sl',e2⟩
 ·obtain ⟨o',e1⟩:=I.base.there b o e hx
  exact free b o' (neC b o e hx) e1 (I.base.free b o e n hx)
 ·obtain ⟨o',e1⟩:=I.base.there b o e hx
  exact there b o' (neC b o e hx) e1
 ·obtain ⟨m1,e1⟩:=I.base.tbls b ps e
  obtain ⟨m2,e2⟩:=tbls b _ e1
  exact ⟨m1++m2,by rw [e2,Array.append_assoc]⟩
 ·obtain ⟨m,hn,hl⟩:=I.loc
  refine ⟨m,ns m hn,fun i x v e1 e2 e3=>?_⟩
  obtain ⟨u,r,l⟩:=hl i x v e1 e2 e3
  refine ⟨u,r,?_⟩
  rcases l with l | ⟨k,c,e,z⟩
  ·exact .inl l
  ·exact .inr ⟨k,c,e,cellK x c e _ z⟩
 ·obtain ⟨v,z⟩:=I.cell x c e
  exact ⟨v,cellK x c e v z⟩
 ·obtain ⟨m,⟨o,_,_,ho,_⟩,_⟩:=I.loc
  exact free _ o (fun z=>(hch _ z).2.1 rfl) ho I.free
 ·obtain ⟨v,o,ho,hd⟩:=I.cell x c e
  exact free c o (fun z=>(hch c z).2.2.1 x c e rfl) ho (I.freeC x c e)
 ·obtain ⟨e,n,ne,nf,d⟩:=I.pin p hp
  have nch:p.1∉ch:=fun z=>(hch p.1 z).2.2.2 p hp rfl
  exact ⟨keep p.1 p.2 ne nf nch e n,free p.1 p.2 nch e n,ne,nf,d⟩
theorem aa.un {t':Nat} (I:aa X pins σ H s) (u:Un X.fs [] H H' s.heap h') (hok:dc X.prog X.w H' h'):aa X pins σ H' { s with heap:=h',toks:=t' }:=by
 obtain ⟨m,⟨o,es,ep,ho,r⟩,_⟩:=id I.loc
 obtain ⟨sl,hL⟩:=u.any ho I.free (by simp)
 exact I.step (g':=s.gens) (d':=s.drawn) (ch:=[]) (fun _ z=>nomatch z) (fun b o _ hb _ e n=>u.keep b o e n hb (by simp)) (fun b o _ hb _ e n=>u.slot b o e n hb (by simp)) (fun b o _ e n=>u.free b o e n (by simp)) (fun b o _ e=>u.there b o e (by simp)) u.tups u.frzs u.tbls (fun m' hm=>by
  obtain ⟨o',es',ep',ho',r'⟩:=hm
  rw [ho] at ho';cases ho'
  exact ⟨_,es',ep',hL,r'⟩) hok I.bare
theorem aa.call {g':Array GenState}{t':Nat}{d':Drawn}{ch:List Addr} (I:aa X pins σ H s) (u:Un (gU X.stack) ch H H' s.heap h') (hok:dc X.prog X.w H' h') (hg:AllBare g')
 (hch:∀b∈ch,(b∈X.ex∨X.s₀.heap.objs.size≤b)∧b≠X.env.locals∧(∀x c,X.env.cells.lookup x=some c→c≠b)∧∀p∈X.pn++pins,p.1≠b) :
 aa X pins σ H' { s with heap:=h',gens:=g',drawn:=d',toks:=t' }:=by
 obtain ⟨m,⟨o,es,ep,ho,r⟩,_⟩:=id I.loc
 obtain ⟨sl,hL⟩:=u.any ho I.free fun z=>(hch _ z).2.1 rfl
 exact I.step (ch:=ch) hch (fun b o hL hb hc e n=>u.keep b o e n (fun z=>(List.mem_cons.mp (I.stkSub b z)).elim hL hb) hc) (fun b o _ _ hc e n=>u.any e n hc) (fun b o hc e n=>u.free b o e n hc) (fun b o hc e=>u.there b o e hc) u.tups u.frzs u.tbls (fun m' hm=>by
  obtain ⟨o',es',ep',ho',r'⟩:=hm
  rw [ho] at ho';cases ho'
  exact ⟨_,es',ep',hL,r'⟩) hok hg
theorem aa.turned {t':Nat}{it:Addr} (I:aa X pins σ H s) (k:∀b o,b≠it→s.heap.get? b=some o→h'.get? b=some o) (hn:H it=none) (hL:it≠X.env.locals)
 (h1:it∈X.ex∨X.s₀.heap.objs.size≤it) (h2:∀x c,X.env.cells.lookup x=some c→c≠it) (h3:∀p∈X.pn++pins,p.1≠it):aa X pins σ H { s with heap:=h',toks:=t' }:=by
 have nit:∀b u,H b=some u→b≠it:=fun b u e z=>by rw [z,hn] at e;cases e
 refine I.step (g':=s.gens) (d':=s.drawn) (ch:=[it]) (fun b hb=>?_) (fun b o _ _ hc e _=>k b o (fun z=>hc (by simp [z])) e) (fun b o _ _ hc e _=>⟨o.slots,k b o (fun z=>hc (by simp [z])) e⟩) (fun _ _ _ _ n=>n)
  (fun b o hc e=>⟨o,k b o (fun z=>hc (by simp [z])) e⟩) (fun _ _ e=>e) (fun _ _ _ e=>e) (fun b ps e=>⟨#[],by rw [e];simp⟩) (fun m hm=>?_) (fun b u e=>?_) I.bare
 ·have e:b=it:=by simpa using hb
  subst e
  exact ⟨h1,hL,h2,h3⟩
 ·obtain ⟨o,es,ep,ho,r⟩:=hm
  exact ⟨o,es,ep,k _ o (Ne.symm hL) ho,r⟩
 ·refine (I.hok b u e).stay (fun c v hc q=>k c v ?_ q) (fun _ q=>q) fun _ _ q=>q
  rcases hc with z | z
  ·rw [z];exact nit b u e
  ·exact nit c _ z
theorem aa.tok (I:aa X pins σ H s) (t:Nat):aa X pins σ H { s with toks:=t }:=I.un (h':=s.heap) (t':=t) Un.refl I.hok
theorem aa.kept {t':Nat} (I:aa X pins σ H s) (k:∀b u,s.heap.get? b=some u→h'.get? b=some u):aa X pins σ H { s with heap:=h',toks:=t' }:=I.un (Un.kept k) (I.hok.kept k)
theorem aa.laid {a:Addr}{o:HO}{t':Nat} (I:aa X pins σ H s) (k:∀b u,s.heap.get? b=some u→h'.get? b=some u) (hp:s.heap.objs.size≤a) (new:bc X.prog X.w (aL H a o) h' a o) :
 aa X pins σ (aL H a o) { s with heap:=h',toks:=t' }:=I.un (Un.laid k hp (I.hok.fresh hp)) (I.hok.laid k hp new)
theorem aa.write {x e:Addr}{o:HO}{t':Nat} (I:aa X pins σ H s) (mu:BY (H x)) (he:e=x∨H e=some (.own x)) (k:∀b u,b≠e→s.heap.get? b=some u→h'.get? b=some u) (heo:∃u,h'.get? e=some u)
 (new:bc X.prog X.w (aL H x o) h' x o):aa X pins σ (aL H x o) { s with heap:=h',toks:=t' }:=I.un (Un.write mu he k heo) (I.hok.write mu he k heo new)
theorem aa.weak {σ':List (Option V)} (I:aa X pins σ H s) (hl:σ'.length=σ.length) (w:∀(i:Nat) v,σ'[i]?=some (some v)→σ[i]?=some (some v)):aa X pins σ' H s:=
 ⟨I.ok,I.os,I.bare,I.base,let ⟨m,hn,hl'⟩:=I.loc;⟨m,hn,fun i x v e1 e2 e3=>hl' i x v e1 (w i v e2) e3⟩,I.cell,I.free,I.freeC,I.pin,I.hok,hl.trans I.len⟩
theorem aa.pins_of {pins':List (Addr×Obj)} (I:aa X pins σ H s) (h:∀p∈pins',s.heap.get? p.1=some p.2∧H p.1=none∧p.1≠X.env.locals∧p.1∉X.fs∧∀v,p.2.data≠.cell v):aa X pins' σ H s:=
 ⟨I.ok,I.os,I.bare,I.base,I.loc,I.cell,I.free,I.freeC,fun p hp=>(List.mem_append.mp hp).elim (fun z=>I.pin p (List.mem_append_left _ z)) (h p),I.hok,I.len⟩
theorem qF {N:List Str} (hN:N.Nodup) {i j:Nat}{x:Str} (a:N[i]?=some x) (b:N[j]?=some x):i=j:=by
 obtain ⟨h1,e1⟩:=List.getElem?_eq_some_iff.mp a
 obtain ⟨h2,e2⟩:=List.getElem?_eq_some_iff.mp b
 exact (List.getElem_inj hN).mp (e1.trans e2.symm)
theorem uk {M:Model}{A:Around}{E:Value→Shared→Prop}{i:Nat}{x:Str}{v:V}{u:Value}{Q:Unit→Shared→Prop} (I:aa X pins σ H s) (hN:X.N.Nodup) (hi:X.N[i]?=some x) (hx:zW X.env.scope x) (r:aO v u)
 (h:∀s',aa X pins (σ.set i (some v)) H s'→(∃a,Heap.SameBut a s.heap s'.heap∧(a=X.env.locals∨X.env.cells.lookup x=some a))→Q () s') (hf:X.fn x=true∨X.env.scope.names.lookup x=some .local:=by first | exact .inl rfl | exact .inr rfl | assumption):wpAny M A (storeName X.env x u) Q E s:=by
 obtain ⟨m,hn,hl⟩:=id I.loc
 have hcls:(X.env.scope.kind==.class || (X.env.scope.kind==.module && X.env.locals != X.env.globals))=false:=by rw [I.ok.kind];rfl
 have hiσ:i<σ.length:=by rw [I.len];exact (List.getElem?_eq_some_iff.mp hi).1
 have cne:=I.cne
 have tracked:∀{a:Addr}{h':Heap},(∃o,s.heap.get? a=some o∧H a=none)→Heap.SameBut a s.heap h'→dc X.prog X.w H h':=fun {a h'} ha hs b ob e=>by
  obtain ⟨_,_,hfree⟩:=ha
  refine (I.hok b ob e).stay (fun c w' hc q=>(hs.2 c ?_).trans q) (fun _ q=>q) fun _ _ q=>q
  rintro rfl
  rcases hc with rfl | hc
  ·rw [hfree] at e;cases e
  ·rw [hfree] at hc;cases hc
 rcases hx with hk | hk
 ·refine wpAny_storeName_local hk hn (fun h' hn' hs=>?_) hcls
  obtain ⟨oL,_,_,hoL,_⟩:=id hn
  refine h _ ⟨I.ok,I.os,I.bare,⟨fun b o e n hb hx=>?_,fun b o e n hb hx=>?_,I.base.free,fun b o e hx=>?_,I.base.tups,I.base.frzs,I.base.tbls⟩,⟨_,hn',fun j y v' e1 e2 e3=>?_⟩,fun y c e=>?_,I.free,I.freeC,fun p hp=>?_,tracked ⟨oL,hoL,I.free⟩ hs,by simpa using I.len⟩ ⟨_,hs,.inl rfl⟩
  ·exact (hs.2 b (Nat.ne_of_lt (Nat.lt_of_lt_of_le (Heap.lt_size e) I.ok.above))).trans (I.base.keep b o e n hb hx)
  ·obtain ⟨sl,e1⟩:=I.base.slot b o e n hb hx
   exact ⟨sl,(hs.2 b (Nat.ne_of_lt (Nat.lt_of_lt_of_le (Heap.lt_size e) I.ok.above))).trans e1⟩
  ·obtain ⟨o',e1⟩:=I.base.there b o e hx
   exact ⟨o',(hs.2 b (Nat.ne_of_lt (Nat.lt_of_lt_of_le (Heap.lt_size e) I.ok.above))).trans e1⟩
  ·by_cases hj:j=i
   ·subst hj
    rw [hi] at e1;cases e1
    rw [List.getElem?_set_self hiσ] at e2
    cases e2
    exact ⟨u,r,.inl ⟨hk,by simp⟩⟩
   ·rw [List.getElem?_set_ne (Ne.symm hj)] at e2
    obtain ⟨u',r',q⟩:=hl j y v' e1 e2 e3
    refine ⟨u',r',?_⟩
    rcases q with ⟨k,e⟩ | ⟨k,c,e,z⟩
    ·refine .inl ⟨k,?_⟩
     have:y≠x:=fun e=>hj (qF hN e1 (e▸hi))
     simp [this,e]
    ·exact .inr ⟨k,c,e,z.sameBut hs (cne y c e)⟩
  ·obtain ⟨w',z⟩:=I.cell y c e
   exact ⟨w',z.sameBut hs (cne y c e)⟩
  ·obtain ⟨e,n,ne,nf,d⟩:=I.pin p hp
   exact ⟨(hs.2 p.1 ne).trans e,n,ne,nf,d⟩
 ·have hfn:X.fn x=true:=by
   rcases hf with z | z
   ·exact z
   ·rw [z] at hk;cases hk
  obtain ⟨c,hc⟩:=I.ok.has x (.inl hk)
  obtain ⟨w',z⟩:=I.cell x c hc
  refine wpAny_storeName_cell I.ok.kind hk hc z (fun h' hc' hs=>?_)
  obtain ⟨oc,hoc,hocd⟩:=id z
  refine h { s with heap:=h' } ⟨I.ok,I.os,I.bare,⟨fun b o e n hb hx=>?_,fun b o e n hb hx=>?_,I.base.free,fun b o e hx=>?_,I.base.tups,I.base.frzs,I.base.tbls⟩,⟨m,hn.sameBut hs (Ne.symm (cne x c hc)),fun j y v' e1 e2 e3=>?_⟩,fun y c' e=>?_,I.free,I.freeC,fun p hp=>?_,tracked ⟨oc,hoc,I.freeC x c hc⟩ hs,by simpa using I.len⟩ ⟨c,hs,.inr hc⟩
  ·exact (hs.2 b (Nat.ne_of_lt (Nat.lt_of_lt_of_le (Heap.lt_size e) (I.ok.cab x c hfn hc)))).trans (I.base.keep b o e n hb hx)
  ·obtain ⟨sl,e1⟩:=I.base.slot b o e n hb hx
   exact ⟨sl,(hs.2 b (Nat.ne_of_lt (Nat.lt_of_lt_of_le (Heap.lt_size e) (I.ok.cab x c hfn hc)))).trans e1⟩
  ·obtain ⟨o',e1⟩:=I.base.there b o e hx
   exact ⟨o',(hs.2 b (Nat.ne_of_lt (Nat.lt_of_lt_of_le (Heap.lt_size e) (I.ok.cab x c hfn hc)))).trans e1⟩
  ·by_cases hj:j=i
   ·subst hj
    rw [hi] at e1;cases e1
    rw [List.getElem?_set_self hiσ] at e2
    cases e2
    exact ⟨u,r,.inr ⟨.inl hk,c,hc,hc'⟩⟩
   ·rw [List.getElem?_set_ne (Ne.symm hj)] at e2
    obtain ⟨u',r',q⟩:=hl j y v' e1 e2 e3
    refine ⟨u',r',?_⟩
    rcases q with q | ⟨k,c',e,z'⟩
    ·exact .inl q
    ·refine .inr ⟨k,c',e,z'.sameBut hs ?_⟩
     rintro rfl
     exact hj (qF hN e1 (I.ok.inj _ _ _ e hc▸hi))
  ·by_cases hcc:c'=c
   ·subst hcc;exact ⟨_,hc'⟩
   ·obtain ⟨w2,z2⟩:=I.cell y c' e
    exact ⟨w2,z2.sameBut hs hcc⟩
  ·obtain ⟨e,n,ne,nf,d⟩:=I.pin p hp
   refine ⟨(hs.2 p.1 ?_).trans e,n,ne,nf,d⟩
   intro q
   rw [q,hoc] at e
   have q':oc=p.2:=Option.some.inj e
   exact d w' (by rw [←q'];exact hocd)
theorem ij {M:Model}{A:Around}{E:Value→Shared→Prop}{i:Nat}{x:Str}{v:V}{u:Value}{Q:Unit→Shared→Prop} (I:aa X pins σ H s) (hN:X.N.Nodup) (hi:X.N[i]?=some x) (hx:zW X.env.scope x) (r:aO v u)
 (h:∀s',aa X pins (σ.set i (some v)) H s'→Q () s') (hf:X.fn x=true∨X.env.scope.names.lookup x=some .local:=by first | exact .inl rfl | exact .inr rfl | assumption):wpAny M A (storeName X.env x u) Q E s:=
 uk I hN hi hx r (fun s' I' _=>h s' I') hf
theorem aa.call' {s':Shared}{ch:List Addr} (I:aa X pins σ H s) (ho:s'.os=s.os) (u:Un (gU X.stack) ch H H' s.heap s'.heap) (hok:dc X.prog X.w H' s'.heap) (hg:AllBare s'.gens)
 (hch:∀b∈ch,(b∈X.ex∨X.s₀.heap.objs.size≤b)∧b≠X.env.locals∧(∀x c,X.env.cells.lookup x=some c→c≠b)∧∀p∈X.pn++pins,p.1≠b):aa X pins σ H' s':=by
 obtain ⟨h',g',d',t',o'⟩:=s'
 have e:o'=s.os:=ho
 subst e
 exact I.call (g':=g') (t':=t') (d':=d') u hok hg hch
end
abbrev XK:=Value→Option Addr→Hp→Prop
abbrev St:=List (Option V)
abbrev VK:=V→Hp→Prop
abbrev TE:=St→Hp→VK→Prop
abbrev TT:=St→Hp→(Bool→Hp→Prop)→Prop
abbrev TA:=St→Hp→(List V→Hp→Prop)→Prop
structure dY where
 nx:St→Hp→Prop
 rt:VK
 bk:St→Hp→Prop:=fun _ _=>False
 ct:St→Hp→Prop:=fun _ _=>False
abbrev TS:=dY→St→Hp→Prop
inductive EP (X:Cx) (pins:List (Addr×Obj)) (σ:St) (Q:VK) (u:Value) (s':Shared):Prop
 | mk (v:_) (H':_) (h0:aa X pins σ H' s') (h1:aO v u) (h2:Q v H')
def TP (X:Cx) (pins:List (Addr×Obj)) (σ:St) (Q:Bool→Hp→Prop) (b:Bool) (s':Shared):Prop:=∃H',aa X pins σ H' s'∧Q b H'
inductive AP (X:Cx) (pins:List (Addr×Obj)) (σ:St) (Q:List V→Hp→Prop) (us:List Value) (s':Shared):Prop
 | mk (vs:_) (H':_) (h0:aa X pins σ H' s') (h1:aC vs us) (h2:Q vs H')
def SP (X:Cx) (pins:List (Addr×Obj)) (D:dY) (f:Flow) (s':Shared):Prop:=
 match f with
 | .next=>∃σ' H',aa X pins σ' H' s'∧D.nx σ' H'
 | .brk=>∃σ' H',aa X pins σ' H' s'∧D.bk σ' H'
 | .cont=>∃σ' H',aa X pins σ' H' s'∧D.ct σ' H'
 | .ret u=>∃v σ' H',aa X pins σ' H' s'∧aO v u∧D.rt v H'
def PE (X:Cx) (e:Expr) (t:TE):Prop:=
 ∀(pins:List (Addr×Obj)) (s:Shared) (σ:St) (H:Hp) (Q:VK),aa X pins σ H s→t σ H Q→wpAny (model X.prog X.w) X.A (eval e X.env) (EP X pins σ Q) X.xe s
def PT (X:Cx) (e:Expr) (t:TT):Prop:=
 ∀(pins:List (Addr×Obj)) (s:Shared) (σ:St) (H:Hp) (Q:Bool→Hp→Prop),aa X pins σ H s→t σ H Q→wpAny (model X.prog X.w) X.A (isTrue e X.env (eval e X.env)) (TP X pins σ Q) X.xe s
def PW (X:Cx) (e:Expr) (t:TT):Prop:=
 ∀(whole:Sem Value) (pins:List (Addr×Obj)) (s:Shared) (σ:St) (H:Hp) (Q:Bool→Hp→Prop),aa X pins σ H s→t σ H Q→wpAny (model X.prog X.w) X.A (isTrue e X.env whole) (TP X pins σ Q) X.xe s
theorem PW.pt {X:Cx}{e:Expr}{t:TT} (h:PW X e t):PT X e t:=h _
def PA (X:Cx) (es:List Expr) (t:TA):Prop:=
 ∀(pos:Pos) (pins:List (Addr×Obj)) (s:Shared) (σ:St) (H:Hp) (Q:List V→Hp→Prop),aa X pins σ H s→t σ H Q→wpAny (model X.prog X.w) X.A (spliced (backTo pos (starEach es X.env))) (AP X pins σ Q) X.xe s
def PS (X:Cx) (st:Stmt) (t:TS):Prop:=
 ∀(pins:List (Addr×Obj)) (s:Shared) (σ:St) (H:Hp) (D:dY),aa X pins σ H s→t D σ H→wpAny (model X.prog X.w) X.A (exec st X.env) (SP X pins D) X.xe s
def j8 (X:Cx) (st:List Stmt) (t:TS):Prop:=
 ∀(pins:List (Addr×Obj)) (s:Shared) (σ:St) (H:Hp) (D:dY),aa X pins σ H s→t D σ H→wpAny (model X.prog X.w) X.A (execs st X.env) (SP X pins D) X.xe s
theorem aK {α:Type}{t:Sem α}{Q Q':α→Shared→Prop}{M:Model}{A:Around}{E:Value→Shared→Prop}{s:Shared} (h:wpAny M A t Q E s) (hQ:∀a s,Q a s→Q' a s):wpAny M A t Q' E s:=wpAny_mono h hQ fun _ _ x=>x
section
variable {X:Cx}
inductive Gp (i:Nat) (σ:St) (H:Hp) (Q:VK):Prop
 | mk (v:_) (h0:σ[i]?=some (some v)) (h1:Q v H)
def yy (i:Nat):TE:=fun σ H Q=>Gp i σ H Q
def tC (v:V):TE:=fun _ H Q=>Q v H
theorem zT {i:Nat}{x:Str}{pos:Pos} (hN:X.N[i]?=some x) (hv:xk X.env.scope x) (hd:(x==("__debug__" : Str))=false:=by decide) (hcd:(x==("__classdict__" : Str))=false:=by decide):PE X (.Name x pos) (yy i):=by
 intro pins s σ H Q I h
 obtain ⟨v,e,h⟩:=h
 obtain ⟨m,hn,hl⟩:=I.loc
 obtain ⟨u,r,l⟩:=hl i x v hN e hv
 have fin:EP X pins σ Q u s:=⟨v,H,I,r,h⟩
 rcases l with ⟨hk,hm⟩ | ⟨hk,c,hc,hcell⟩
 ·exact wpAny_Name (wpAny_loadName_local I.ok.kind hk hn hm fin) hd
 ·rcases hk with hk | hk
  ·exact wpAny_Name (wpAny_loadName_cell I.ok.kind hk hc hcell fin) hd
  ·exact wpAny_Name (wpAny_loadName_free I.ok.kind hk hc hcell fin hcd) hd
theorem bj {i j pos}:PE X (.Constant (.int i) j pos) (tC (.int i)):=fun _ _ _ H _ I h=>wpAny_Constant_int ⟨.int i,H,I.tok _,⟨()⟩,h⟩
theorem dO {b j pos}:PE X (.Constant (.bool b) j pos) (tC (.bl b)):=fun _ _ _ H _ I h=>Constant_bool ⟨.bl b,H,I,rfl,h⟩
theorem gE {j pos}:PE X (.Constant .none j pos) (tC .non):=fun _ _ _ H _ I h=>Constant_none ⟨.non,H,I,rfl,h⟩
theorem aN {x j pos}:PE X (.Constant (.str x) j pos) (tC (.str x)):=fun _ _ _ H _ I h=>Calls.Constant_str ⟨.str x,H,I.tok _,⟨()⟩,h⟩
def Gl (X:Cx) (x:Str):Prop:=X.env.kindOf x=some .globalImplicit
theorem km {E:Value→Shared→Prop}{pins:List (Addr×Obj)}{s:Shared}{σ:St}{H:Hp}{x:Str}{u:Value}{pos:Pos}{Q:Value→Shared→Prop} (I:aa X pins σ H s) (hg:Gl X x) (hm:X.mg x=some u) (h:Q u s)
 (hd:(x==("__debug__" : Str))=false:=by decide):wpAny (model X.prog X.w) X.A (eval (.Name x pos) X.env) Q E s:=
 Calls.Name_function_global I.ok.kind hg (Calls.loadGlobal_global (by rw [I.ok.glob];exact I.mod.glob.keeps I.bk) hm h) hd
theorem gy {E:Value→Shared→Prop}{pins:List (Addr×Obj)}{s:Shared}{σ:St}{H:Hp}{x:Str}{u:Value}{pos:Pos}{Q:Value→Shared→Prop} (I:aa X pins σ H s) (hg:Gl X x) (hm:X.mg x=none) (hv:bootBuiltins x=some u) (h:Q u s)
 (hn:x≠"__name__" := by decide) (hd:(x==("__debug__" : Str))=false:=by decide):wpAny (model X.prog X.w) X.A (eval (.Name x pos) X.env) Q E s:=by
 obtain ⟨mb,h1,h2⟩:=I.mod.blt
 exact Calls.Name_function_global I.ok.kind hg (Calls.loadGlobal_builtin (by rw [I.ok.glob];exact I.mod.glob.keeps I.bk) hm (by rw [I.ok.blt];exact h1.keeps I.bk) ((h2 x hn).trans hv) h) hd
theorem Cn {x:Str}{v:V}{u:Value}{pos:Pos} (hg:Gl X x) (hm:X.mg x=none) (hv:bootBuiltins x=some u) (r:aO v u) (hn:x≠"__name__" := by decide) (hd:(x==("__debug__" : Str))=false:=by decide):PE X (.Name x pos) (tC v):=
 fun _ _ _ H _ I h=>gy I hg hm hv ⟨v,H,I,r,h⟩ hn hd
variable {a b:Expr}{ta tb:TE}{pos:Pos}
inductive ss (x:V) (P:Bool→Prop):Prop
 | mk (c:Bool) (e:x=.bl c) (h:P c)
inductive EY (x:V) (P:Int→Prop):Prop
 | mk (c:Int) (e:x=.int c) (h:P c)
def tB (t:TE):TT:=fun σ H Q=>t σ H fun x H1=>ss x fun c=>Q c H1
theorem bn {e:Expr}{t:TE} (h:PE X e t) (he:∀whole,isTrue e X.env whole=(do let v ←whole;standAt e.pos;holding [v] (truthy v)):=by intro _;rfl):PT X e (tB t):=by
 intro pins s σ H Q I hw
 refine isTrue_plain (aK (h pins s σ H _ I hw) fun v s1 ⟨x,H1,I1,r1,q1⟩=>?_) (he _)
 obtain ⟨d,rfl,q⟩:=q1
 cases r1
 exact wpAny_truthy_bool ⟨H1,I1,q⟩
variable {tA tB':TT}{rest:List Expr}
def yz (t u:TT):TT:=fun σ H Q=>t σ H fun c H1=>if c=true then u σ H1 Q else Q false H1
def Ja (t u:TT):TT:=fun σ H Q=>t σ H fun c H1=>if c=true then Q true H1 else u σ H1 Q
def Ih (t:TT):TT:=fun σ H Q=>t σ H fun c H1=>Q (!c) H1
theorem sq (ha:PT X a tA):PW X (.BoolOp .And [a] pos) tA:=by
 intro wh pins s σ H Q I h
 refine isTrue_and (aK (ha pins s σ H Q I h) fun c s1 e=>?_)
 cases c with
 | true=>exact isTrue_and_nil e
 | false=>exact e
theorem dj (ha:PT X a tA):PW X (.BoolOp .Or [a] pos) tA:=by
 intro wh pins s σ H Q I h
 refine isTrue_or (aK (ha pins s σ H Q I h) fun c s1 e=>?_)
 cases c with
 | false=>exact isTrue_or_nil e
 | true=>exact e
theorem rD (ha:PT X a tA) (hb:PW X (.BoolOp .And (b :: rest) pos) tB'):PW X (.BoolOp .And (a :: b :: rest) pos) (yz tA tB'):=by
 intro wh pins s σ H Q I h
 refine isTrue_and (aK (ha pins s σ H _ I h) fun c s1 ⟨H1,I1,q1⟩=>?_)
 cases c with
 | true=>exact hb wh pins s1 σ H1 Q I1 q1
 | false=>exact ⟨H1,I1,q1⟩
theorem dm (ha:PT X a tA) (hb:PW X (.BoolOp .Or (b :: rest) pos) tB'):PW X (.BoolOp .Or (a :: b :: rest) pos) (Ja tA tB'):=by
 intro wh pins s σ H Q I h
 refine isTrue_or (aK (ha pins s σ H _ I h) fun c s1 ⟨H1,I1,q1⟩=>?_)
 cases c with
 | true=>exact ⟨H1,I1,q1⟩
 | false=>exact hb wh pins s1 σ H1 Q I1 q1
theorem ci (ha:PT X a tA):PT X (.UnaryOp .Not a pos) (Ih tA):=by
 intro pins s σ H Q I h
 exact isTrue_not (ha pins s σ H (fun c H1=>Q (!c) H1) I h)
def Gj (ta tb:TE):TE:=fun σ H Q=>ta σ H fun x H1=>ss x fun c=>if c=true then tb σ H1 Q else Q (.bl false) H1
def IG (ta tb:TE):TE:=fun σ H Q=>ta σ H fun x H1=>ss x fun c=>if c=true then Q (.bl true) H1 else tb σ H1 Q
def BM (ta:TE):TE:=fun σ H Q=>ta σ H fun x H1=>ss x fun c=>Q (.bl (!c)) H1
theorem gl {op}{t:TE} (h:PE X a t):PE X (.BoolOp op [a] pos) t:=fun pins s σ H Q I hw=>BoolOp_one (h pins s σ H Q I hw)
theorem fk (ha:PE X a ta) (hb:PE X (.BoolOp .And (b :: rest) pos) tb):PE X (.BoolOp .And (a :: b :: rest) pos) (Gj ta tb):=by
 intro pins s σ H Q I h
 refine BoolOp_and (aK (ha pins s σ H _ I h) fun v s1 ⟨x,H1,I1,r1,q1⟩=>?_)
 obtain ⟨c,rfl,q1⟩:=q1
 cases r1
 refine wpAny_truthy_bool ?_
 cases c with
 | true=>exact hb pins s1 σ H1 Q I1 q1
 | false=>exact ⟨.bl false,H1,I1,rfl,q1⟩
theorem Gk (ha:PE X a ta) (hb:PE X (.BoolOp .Or (b :: rest) pos) tb):PE X (.BoolOp .Or (a :: b :: rest) pos) (IG ta tb):=by
 intro pins s σ H Q I h
 refine BoolOp_or (aK (ha pins s σ H _ I h) fun v s1 ⟨x,H1,I1,r1,q1⟩=>?_)
 obtain ⟨c,rfl,q1⟩:=q1
 cases r1
 refine wpAny_truthy_bool ?_
 cases c with
 | false=>exact hb pins s1 σ H1 Q I1 q1
 | true=>exact ⟨.bl true,H1,I1,rfl,q1⟩
theorem Ae (ha:PE X a ta):PE X (.UnaryOp .Not a pos) (BM ta):=by
 intro pins s σ H Q I h
 refine UnaryOp_ (aK (ha pins s σ H _ I h) fun v s1 ⟨x,H1,I1,r1,q1⟩=>?_)
 obtain ⟨c,rfl,q1⟩:=q1
 cases r1
 exact not_of (wpAny_truthy_bool ⟨.bl (!c),H1,I1,rfl,q1⟩)
def IS (t:TT) (ta tb:TE):TE:=fun σ H Q=>t σ H fun c H1=>if c=true then ta σ H1 Q else tb σ H1 Q
theorem bT {c:Expr} (hc:PT X c tA) (ha:PE X a ta) (hb:PE X b tb):PE X (.IfExp c a b pos) (IS tA ta tb):=by
 intro pins s σ H Q I h
 refine wpAny_IfExp (aK (hc pins s σ H _ I h) fun d s1 ⟨H1,I1,q1⟩=>?_)
 cases d with
 | true=>exact ha pins s1 σ H1 Q I1 q1
 | false=>exact hb pins s1 σ H1 Q I1 q1
end
def ar (K:PySem.W.Frag) (H:Hp) (a:Addr) (xs:List V):Prop:=
 Rd H a (.lst xs)∨
  gf fun (o:Obj) (its:Array Value) (n:Nat)=>K.lookup a=some o∧o.cls=.type "list"∧o.dict=none∧o.data=.seq its n∧its.size≤sizeLine∧aC xs its.toList
def au (K:PySem.W.Frag) (H:Hp) (a:Addr) (xs:List V):Prop:=
 Rd H a (.tup xs)∨
  gf fun (o:Obj) (its:Array Value) (n:Nat)=>K.lookup a=some o∧o.cls=.type "tuple"∧o.data=.seq its n∧its.size≤sizeLine∧aC xs its.toList
def Ig:Value→Option V
 | .none=>some .non
 | .bool b=>some (.bl b)
 | .int i _=>some (.int i)
 | .str x _=>some (.str x)
 | .bytes b _=>some (.byt b)
 | .float b _=>some (.flt b)
 | .ref a=>some (.ref a)
 | .type n=>some (.ty n)
 | _=>none
theorem aO.abs {x:V}{u:Value} (r:aO x u):Ig u=some x:=by
 cases x with
 | non=>cases r;rfl
 | bl _=>cases r;rfl
 | int _=>obtain ⟨t,rfl⟩:=r;rfl
 | str _=>obtain ⟨t,rfl⟩:=r;rfl
 | byt _=>obtain ⟨t,rfl⟩:=r;rfl
 | flt _=>obtain ⟨t,rfl⟩:=r;rfl
 | ref _=>cases r;rfl
 | ty _=>cases r;rfl
theorem aO.inj {x y:V}{u:Value} (r:aO x u) (q:aO y u):x=y:=Option.some.inj (r.abs.symm.trans q.abs)
theorem aC.inj:∀{xs ys:List V}{us:List Value},aC xs us→aC ys us→xs=ys
 | _,_,_,.nil,.nil=>rfl
 | _,_,_,.cons r t,.cons r' t'=>by rw [r.inj r',aC.inj t t']
section
variable {X:Cx}{pins:List (Addr×Obj)}{σ:St}{H:Hp}{s:Shared}{a:Addr}{xs ys:List V}
theorem ar.of {K:PySem.W.Frag} (h:H a=some (.lst xs)):ar K H a xs:=.inl (.inl h)
theorem au.of {K:PySem.W.Frag} (h:H a=some (.tup xs)):au K H a xs:=.inl (.inl h)
theorem aa.list (I:aa X pins σ H s) (h:ar X.K H a xs):∃its:List Value,aC xs its∧PlainL s.heap a its.toArray∧xs.length≤sizeLine:=by
 rcases h with h | ⟨o,its,n,hk,hc,hd,hs,hz,r⟩
 ·obtain ⟨z,its,n,r,e⟩:=h.ok I.hok
  exact ⟨its,r,⟨_,n,e,rfl,rfl,rfl⟩,z⟩
 ·refine ⟨its.toList,r,⟨o,n,I.kIn a o hk,hc,hd,by simpa using hs⟩,?_⟩
  have e:=r.length
  simp only [Array.length_toList] at e
  trivial
theorem aa.tuple (I:aa X pins σ H s) (h:au X.K H a xs):∃its:List Value,aC xs its∧IsTup s.heap a its.toArray∧xs.length≤sizeLine:=by
 rcases h with h | ⟨o,its,n,hk,hc,hs,hz,r⟩
 ·obtain ⟨z,its,r,p,_⟩:=h.ok I.hok
  exact ⟨its,r,p,z⟩
 ·refine ⟨its.toList,r,⟨o,I.kIn a o hk,hc,n,by simpa using hs⟩,?_⟩
  have e:=r.length
  simp only [Array.length_toList] at e
  trivial
theorem aa.list_inj (I:aa X pins σ H s) (h:ar X.K H a xs) (h':ar X.K H a ys):xs=ys:=by
 obtain ⟨its,r,⟨o,n,e,_,_,d⟩,_⟩:=I.list h
 obtain ⟨its',r',⟨o',n',e',_,_,d'⟩,_⟩:=I.list h'
 rw [e] at e';cases e'
 rw [d] at d'
 injection d' with d1 _
 have:its=its':=by simpa using congrArg Array.toList d1
 subst this
 exact r.inj r'
theorem aa.tuple_inj (I:aa X pins σ H s) (h:au X.K H a xs) (h':au X.K H a ys):xs=ys:=by
 obtain ⟨its,r,⟨o,e,_,n,d⟩,_⟩:=I.tuple h
 obtain ⟨its',r',⟨o',e',_,n',d'⟩,_⟩:=I.tuple h'
 rw [e] at e';cases e'
 rw [d] at d'
 injection d' with d1 _
 have:its=its':=by simpa using congrArg Array.toList d1
 subst this
 exact r.inj r'
end
abbrev Cx.wish (X:Cx) (E:Value→Shared→Prop):Cx:={ X with xe:=E }
abbrev Cx.nox (X:Cx):Cx:=X.wish fun _ _=>False
theorem Cx.Ok.wish {X:Cx} (ok:X.Ok) (E:Value→Shared→Prop):(X.wish E).Ok:=
 ⟨ok.mod,ok.kind,ok.glob,ok.blt,ok.above,ok.inj,ok.has,ok.cab,ok.hd,ok.frames,ok.stk,ok.exf,ok.bs,ok.bsz,ok.noex,ok.exfs,ok.funs,ok.frf⟩
theorem Cx.Ok.unwish {X:Cx}{E:Value→Shared→Prop} (ok:(X.wish E).Ok):X.Ok:=
 ⟨ok.mod,ok.kind,ok.glob,ok.blt,ok.above,ok.inj,ok.has,ok.cab,ok.hd,ok.frames,ok.stk,ok.exf,ok.bs,ok.bsz,ok.noex,ok.exfs,ok.funs,ok.frf⟩
section
variable {X:Cx}{pins:List (Addr×Obj)}{σ:St}{H:Hp}{s:Shared}{E:Value→Shared→Prop}
theorem aa.wish (I:aa X pins σ H s) (E:Value→Shared→Prop):aa (X.wish E) pins σ H s:=⟨I.ok.wish E,I.os,I.bare,I.base,I.loc,I.cell,I.free,I.freeC,I.pin,I.hok,I.len⟩
theorem aa.unwish (I:aa (X.wish E) pins σ H s):aa X pins σ H s:=⟨I.ok.unwish,I.os,I.bare,I.base,I.loc,I.cell,I.free,I.freeC,I.pin,I.hok,I.len⟩
theorem SP.unwish {D:dY}{f:Flow}{s':Shared} (h:SP (X.wish E) pins D f s'):SP X pins D f s':=by
 cases f with
 | next=>obtain ⟨σ',H',I,q⟩:=h;exact ⟨σ',H',I.unwish,q⟩
 | brk=>obtain ⟨σ',H',I,q⟩:=h;exact ⟨σ',H',I.unwish,q⟩
 | cont=>obtain ⟨σ',H',I,q⟩:=h;exact ⟨σ',H',I.unwish,q⟩
 | ret u=>obtain ⟨v,σ',H',I,r,q⟩:=h;exact ⟨v,σ',H',I.unwish,r,q⟩
theorem j8.nox {st:List Stmt}{t:TS} (h:j8 X.nox st t):j8 X st t:=fun pins s σ H D I hw=>
 wpAny_mono (h pins s σ H D (I.wish _) hw) (fun _ _ q=>q.unwish) fun _ _ z=>False.elim z
end
section
variable {X:Cx}{st:Stmt}{rest:List Stmt}{t u:TS}{e:Expr}{te:TE}{pos:Pos}
def Hv:TS:=fun D σ H=>D.nx σ H
def kq (t u:TS):TS:=fun D σ H=>t { D with nx:=u D } σ H
theorem aQ:j8 X [] Hv:=fun _ _ σ H _ I h=>wpAny_execs_nil ⟨σ,H,I,h⟩
theorem cD (h1:PS X st t) (h2:j8 X rest u):j8 X (st :: rest) (kq t u):=by
 intro pins s σ H D I h
 refine wpAny_execs_cons (aK (h1 pins s σ H { D with nx:=u D } I h) fun f s1 q=>?_)
 cases f with
 | next=>
  obtain ⟨σ',H',I',q⟩:=q
  exact h2 pins s1 σ' H' D I' q
 | ret v=>exact q
 | brk=>exact q
 | cont=>exact q
theorem ac (h1:PS X st t):j8 X [st] t:=by
 intro pins s σ H D I h
 refine wpAny_execs_cons (aK (h1 pins s σ H D I h) fun f s1 q=>?_)
 cases f with
 | next=>exact wpAny_execs_nil q
 | ret v=>exact q
 | brk=>exact q
 | cont=>exact q
theorem aa.quiet {pins:List (Addr×Obj)}{σ:St}{H:Hp}{s:Shared} (I:aa X pins σ H s):interactive X.env=false:=by simp [interactive,I.ok.kind]
def Ce (te:TE):TS:=fun D σ H=>te σ H fun _ H1=>D.nx σ H1
theorem jv (he:PE X e te) (hs:swapsWith e none pos.line X.env=pure false:=by rfl):PS X (.Expr e pos) (Ce te):=by
 intro pins s σ H D I h
 exact wpAny_Expr_any (aK (he pins s σ H _ I h) fun v s1 ⟨x,H1,I1,r1,q1⟩=>⟨σ,H1,I1,q1⟩) I.quiet hs
def DQ (te:TE):TS:=fun D σ H=>te σ H D.rt
theorem aq (he:PE X e te):PS X (.Return (some e) pos) (DQ te):=by
 intro pins s σ H D I h
 exact wpAny_Return_some (aK (he pins s σ H _ I h) fun v s1 ⟨x,H1,I1,r1,q1⟩=>⟨x,σ,H1,I1,r1,q1⟩)
def Ip (c:TT) (t u:TS):TS:=fun D σ H=>c σ H fun b H1=>if b=true then t D σ H1 else u D σ H1
theorem bt {c:Expr}{a b:List Stmt}{tc:TT} (hc:PT X c tc) (ha:j8 X a t) (hb:j8 X b u):PS X (.If c a b pos) (Ip tc t u):=by
 intro pins s σ H D I h
 refine wpAny_If (aK (hc pins s σ H _ I h) fun d s1 ⟨H1,I1,q1⟩=>?_)
 cases d with
 | true=>exact ha pins s1 σ H1 D I1 q1
 | false=>exact hb pins s1 σ H1 D I1 q1
end
abbrev TG:=V→St→Hp→(St→Hp→Prop)→Prop
abbrev qq:=List V→St→Hp→(St→Hp→Prop)→Prop
def PG (X:Cx) (target:Expr) (t:TG):Prop:=
 ∀(pins:List (Addr×Obj)) (s:Shared) (σ:St) (H:Hp) (v:V) (u:Value) (Q:St→Hp→Prop),aa X pins σ H s→aO v u→t v σ H Q→
   wpAny (model X.prog X.w) X.A (assign target X.env u) (fun _ s'=>∃σ' H',aa X pins σ' H' s'∧Q σ' H') X.xe s
def yY (X:Cx) (ts:List Expr) (t:qq):Prop:=
 ∀(pins:List (Addr×Obj)) (s:Shared) (σ:St) (H:Hp) (vs:List V) (us:List Value) (Q:St→Hp→Prop),aa X pins σ H s→aC vs us→t vs σ H Q→
   wpAny (model X.prog X.w) X.A (assignInOrder ((assignEach ts X.env).map (·.2)) us) (fun _ s'=>∃σ' H',aa X pins σ' H' s'∧Q σ' H') X.xe s
abbrev AK:=V→V→V→Hp→(Hp→Prop)→Prop
def AB (X:Cx) (t:AK):Prop:=
 ∀(pins:List (Addr×Obj)) (s:Shared) (σ:St) (H:Hp) (o i v:V) (ov iv u:Value) (Q:Hp→Prop),aa X pins σ H s→aO o ov→aO i iv→aO v u→t o i v H Q→
   wpAny (model X.prog X.w) X.A (setItem ov iv u) (fun _ s'=>∃H',aa X pins σ H' s'∧Q H') X.xe s
abbrev Cf:=V→V→Hp→VK→Prop
def HG (X:Cx) (op:Operator) (t:Cf):Prop:=
 ∀(pins:List (Addr×Obj)) (s:Shared) (σ:St) (H:Hp) (x y:V) (v u:Value) (Q:VK),aa X pins σ H s→aO x v→aO y u→t x y H Q→
   wpAny (model X.prog X.w) X.A (inplaceOp op v u) (EP X pins σ Q) X.xe s
section
variable {X:Cx}{pos:Pos}
def rW (i:Nat):TG:=fun v σ H Q=>Q (σ.set i (some v)) H
theorem dC {i:Nat}{x:Str} (hN:X.N.Nodup) (hi:X.N[i]?=some x) (hx:zW X.env.scope x) (hf:X.fn x=true∨X.env.scope.names.lookup x=some .local:=by first | exact .inl rfl | exact .inr rfl | assumption):PG X (.Name x pos) (rW i):=by
 intro pins s σ H v u Q I r h
 exact wpAny_assign_Name (ij I hN hi hx r (fun s' I'=>⟨_,H,I',h⟩) hf)
def Ir:qq:=fun vs σ H Q=>vs=[]∧Q σ H
inductive EX (t:TG) (u:qq) (vs:List V) (σ:St) (H:Hp) (Q:St→Hp→Prop):Prop
 | mk (v:_) (r:_) (h0:vs=v :: r) (h1:t v σ H fun σ' H'=>u r σ' H' Q)
def F8 (t:TG) (u:qq):qq:=fun vs σ H Q=>EX t u vs σ H Q
theorem cA:yY X [] Ir:=by
 intro pins s σ H vs us Q I r h
 obtain ⟨e,h⟩:=h
 subst e
 cases r
 exact assignInOrder_nil ⟨σ,H,I,h⟩
theorem aD {e:Expr}{es:List Expr}{t:TG}{u:qq} (h1:PG X e t) (h2:yY X es u)
 (hs:(assignEach (e :: es) X.env).map (·.2)=assign e X.env :: (assignEach es X.env).map (·.2):=by rfl):yY X (e :: es) (F8 t u):=by
 intro pins s σ H vs us Q I r h
 obtain ⟨v,vr,e1,h⟩:=h
 subst e1
 cases r with
 | cons r rr=>
  rw [hs]
  refine assignInOrder_cons (aK (h1 pins s σ H _ _ _ I r h) fun _ s1 ⟨σ1,H1,I1,q1⟩=>?_)
  exact h2 pins s1 σ1 H1 _ _ Q I1 rr q1
inductive GS (K:PySem.W.Frag) (n:Nat) (t:qq) (v:V) (σ:St) (H:Hp) (Q:St→Hp→Prop):Prop
 | mk (a:_) (xs:_) (h0:v=.ref a) (h1:au K H a xs) (h2:xs.length=n) (h3:t xs σ H Q)
def EH (K:PySem.W.Frag) (n:Nat) (t:qq):TG:=fun v σ H Q=>GS K n t v σ H Q
theorem rm {es:List Expr}{k:Nat}{t:qq}{n:Nat} (hc:X.calm=true) (h:yY X es t)
 (hn:(assignEach es X.env).length=n:=by rfl) (hst:(assignEach es X.env).findIdx? (·.1)=none:=by rfl):PG X (.Tuple es k pos) (EH X.K n t):=by
 intro pins s σ H v u Q I r hw
 obtain ⟨a,xs,e1,hq,hl,hw⟩:=hw
 subst e1
 cases r
 obtain ⟨its,rv,ht,hz⟩:=I.tuple hq
 refine assign_Tuple_tuple (I.ok.hd hc) ht (by simp [hn,←hl,rv.length]) hst fun h' hx=>?_
 have I1:aa X pins σ H { s with heap:=h' }:=I.kept (t':=s.toks) fun b o e=>hx b o (Nat.ne_of_lt (Heap.lt_size e)) e
 exact h pins _ σ H xs _ Q I1 (by simpa using rv) hw
def Ix (to ti:TE) (t:AK):TG:=fun v σ H Q=>to σ H fun o H1=>ti σ H1 fun i H2=>t o i v H2 fun H3=>Q σ H3
theorem rC {o i:Expr}{to ti:TE}{t:AK} (ho:PE X o to) (hi:PE X i ti) (hs:AB X t)
 (ha:∀v,assign (.Subscript o i pos) X.env v=(do
  let ov ←holding [v] (eval o X.env)
  let iv ←holding [v,ov] (eval i X.env)
  standAt pos
  holding [v,ov,iv] (setItem ov iv v)
  release [v,ov,iv] []):=by intro _;rfl):PG X (.Subscript o i pos) (Ix to ti t):=by
 intro pins s σ H v u Q I r h
 rw [ha]
 refine wpAny_bind (wpAny_holding (aK (ho pins s σ H _ I h) fun ov s1 ⟨x,H1,I1,r1,q1⟩=>?_))
 refine wpAny_bind (wpAny_holding (aK (hi pins s1 σ H1 _ I1 q1) fun iv s2 ⟨y,H2,I2,r2,q2⟩=>?_))
 refine wpAny_bind (wpAny_standAt (wpAny_bind (wpAny_holding (aK (hs pins s2 σ H2 x y v ov iv u _ I2 r1 r2 r q2) fun _ s3 ⟨H3,I3,q3⟩=>?_))))
 exact wpAny_release ⟨σ,H3,I3,q3⟩
def x3 (te:TE) (g:TG):TS:=fun D σ H=>te σ H fun x H1=>g x σ H1 D.nx
theorem eG {tg e:Expr}{te:TE}{g:TG} (he:PE X e te) (hg:PG X tg g) (hs:swapsWithSole [tg] e pos.line X.env=pure false:=by rfl) (hw:swappedStores [tg] e X.env=pure none:=by rfl)
 (h1:(assignEach [tg] X.env).map (·.2)=[assign tg X.env]:=by rfl):PS X (.Assign [tg] e pos) (x3 te g):=by
 intro pins s σ H D I h
 refine wpAny_Assign_stores (aK (he pins s σ H _ I h) fun v s1 ⟨x,H1,I1,r1,q1⟩=>?_) hs hw
 rw [h1]
 exact aK (hg pins s1 σ H1 x v _ I1 r1 q1) fun _ s2 q=>q
theorem jH {i:Nat}{x:Str}{e:Expr}{te:TE}{pos':Pos} (hN:X.N.Nodup) (hi:X.N[i]?=some x) (hx:zW X.env.scope x) (he:PE X e te) (hs:swapsWith e (some (.Name x pos')) pos.line X.env=pure false:=by rfl) (hf:X.fn x=true∨X.env.scope.names.lookup x=some .local:=by first | exact .inl rfl | exact .inr rfl | assumption) :
 PS X (.Assign [.Name x pos'] e pos) (x3 te (rW i)):=by
 intro pins s σ H D I h
 refine wpAny_Assign_Name (aK (he pins s σ H _ I h) fun v s1 ⟨y,H1,I1,r1,q1⟩=>?_) hs
 exact ij I1 hN hi hx r1 (fun s2 I2=>⟨_,H1,I2,q1⟩) hf
def Et (i j:Nat) (ta:TA):TS:=fun D σ H=>ta σ H fun vs H1=>aV fun v w=>vs=[v,w]∧D.nx ((σ.set i (some v)).set j (some w)) H1
theorem pf {i j:Nat}{x y:Str}{a b:Expr}{ta:TA}{px py pt:Pos}{kt k2 pt2} (hc:X.calm=true) (hN:X.N.Nodup) (hi:X.N[i]?=some x) (hj:X.N[j]?=some y) (hij:i≠j)
 (hx:X.env.scope.names.lookup x=some .local) (hy:X.env.scope.names.lookup y=some .local) (ha:PA X [a,b] ta)
 (hw:swappedStores [.Tuple [.Name x px,.Name y py] kt pt] (.Tuple [a,b] k2 pt2) X.env=pure (some [x,y]))
 (hs:swapsWithSole [.Tuple [.Name x px,.Name y py] kt pt] (.Tuple [a,b] k2 pt2) pos.line X.env=pure false:=by rfl) :
 PS X (.Assign [.Tuple [.Name x px,.Name y py] kt pt] (.Tuple [a,b] k2 pt2) pos) (Et i j ta):=by
 intro pins s σ H D I h
 rw [exec_Assign_arm]
 refine wpAny_bind (wpAny_standAt ?_)
 rw [hs]
 refine wpAny_bind (wpAny_pure ?_)
 rw [if_neg (by decide)]
 refine wpAny_bind (Tuple_ (aK (ha _ pins s σ H _ I h) fun us s1 ⟨vs,H1,I1,r1,q1⟩=>?_))
 obtain ⟨v,w,e1,q1⟩:=q1
 subst e1
 obtain ⟨u1,u2,rfl,rv,rw'⟩:aV fun u1 u2=>us=[u1,u2]∧aO v u1∧aO w u2:=by
  cases r1 with
  | cons p q=>
   cases q with
   | cons p' q'=>
    cases q'
    exact ⟨_,(),p,p'⟩
 refine wpAny_newObj_type ?_ (by show 2≤sizeLine;decide)
 have I2:aa X pins σ H1 { s1 with heap:=s1.heap.push { cls:=.type "tuple",data:=.seq [u1,u2].toArray } }:=I1.kept (t':=s1.toks) fun b o e=>Heap.get?_push_of_some _ e
 rw [hw]
 refine wpAny_bind (wpAny_pure ?_)
 show wpAny (model X.prog X.w) X.A (do rule "assign.swapped-stores";let items ←unpackItems (.ref s1.heap.objs.size) 2 none;assignInOrder [fun v=>bindName X.env y v,fun v=>bindName X.env x v] items.reverse;pure Flow.next) _ _ _
 refine wpAny_bind (wpAny_rule (wpAny_bind (unpackItems_tuple (items:=#[u1,u2]) (I.ok.hd hc) (IsTup.new s1.heap _) fun h' hx'=>?_)))
 have I3:=I2.kept (h':=h') (t':=s1.toks) fun b o e=>hx' b o (Nat.ne_of_lt (Heap.lt_size e)) e
 show wpAny _ _ (assignInOrder [fun v=>bindName X.env y v,fun v=>bindName X.env x v] [u2,u1] >>= fun _=>pure Flow.next) _ _ _
 refine wpAny_bind (assignInOrder_cons (wpAny_bindName (ij I3 hN hj (.inl hy) rw' (fun s2 I4=>?_) (.inr hy))))
 refine assignInOrder_cons (wpAny_bindName (ij I4 hN hi (.inl hx) rv (fun s3 I5=>assignInOrder_nil (wpAny_pure ?_)) (.inr hx)))
 rw [List.set_comm _ _ (Ne.symm hij)] at I5
 exact ⟨_,H1,I5,q1⟩
def Ie (i:Nat) (te:TE) (ti:Cf):TS:=fun D σ H=>∃x,σ[i]?=some (some x)∧te σ H fun y H1=>ti x y H1 fun z H2=>D.nx (σ.set i (some z)) H2
theorem zI {i:Nat}{x:Str}{e:Expr}{te:TE}{op:Operator}{ti:Cf}{pos':Pos} (hN:X.N.Nodup) (hi:X.N[i]?=some x) (hx:zW X.env.scope x) (he:PE X e te) (ho:HG X op ti) (hf:X.fn x=true∨X.env.scope.names.lookup x=some .local:=by first | exact .inl rfl | exact .inr rfl | assumption) :
 PS X (.AugAssign (.Name x pos') op e pos) (Ie i te ti):=by
 intro pins s σ H D I h
 obtain ⟨v,e1,h⟩:=h
 obtain ⟨m,hn,hl⟩:=I.loc
 have vis:xk X.env.scope x:=by rcases hx with k | k;exact .inl k;exact .inr (.inl k)
 obtain ⟨u,r,l⟩:=hl i x v hi e1 vis
 refine wpAny_AugAssign_Name ?_
 have go:wpAny (model X.prog X.w) X.A (eval e X.env) (fun w s₂=>wpAny (model X.prog X.w) X.A (inplaceOp op u w) (fun r s₃=>wpAny (model X.prog X.w) X.A (storeName X.env x r) (fun _=>SP X pins D .next) X.xe s₃) X.xe s₂) X.xe s:=by
  refine aK (he pins s σ H _ I h) fun w s1 ⟨y,H1,I1,r1,q1⟩=>?_
  refine aK (ho pins s1 σ H1 v y u w _ I1 r r1 q1) fun z s2 ⟨zv,H2,I2,r2,q2⟩=>?_
  exact ij I2 hN hi hx r2 (fun s3 I3=>⟨_,H2,I3,q2⟩) hf
 rcases l with ⟨hk,hm⟩ | ⟨hk,c,hc,hcell⟩
 ·exact wpAny_loadName_local I.ok.kind hk hn hm go
 ·rcases hk with hk | hk
  ·exact wpAny_loadName_cell I.ok.kind hk hc hcell go
  ·rcases hx with k | k
   ·have:X.env.scope.names.lookup x=some .free:=hk
    rw [k] at this;cases this
   ·have:X.env.scope.names.lookup x=some .free:=hk
    rw [k] at this;cases this
end
section
variable {X:Cx}{pos:Pos}
def FM (c:TT) (tb:TS):TS:=fun D σ H=>∃W:Nat→St→Hp→Prop,(∃m,W m σ H)∧∀m σ H,W m σ H→
 c σ H fun b H1=>if b=true then ∃N:St→Hp→Prop,(∀σ' H',N σ' H'→∃m',m'<m∧W m' σ' H')∧tb { D with nx:=N,ct:=N,bk:=D.nx } σ H1 else D.nx σ H1
theorem qQ {c:Expr}{body:List Stmt}{tc:TT}{tb:TS} (hp:PassesOwn (model X.prog X.w) X.A X.env X.xe) (hc:PT X c tc) (hb:j8 X body tb):PS X (.While c body [] pos) (FM tc tb):=by
 intro pins s σ H D I h
 obtain ⟨W,⟨m0,w0⟩,turn⟩:=h
 refine wpAny_While (codeAny_whileLoop (fun n s'=>∃σ' H',aa X pins σ' H' s'∧W n σ' H') ?_ m0 ⟨σ,H,I,w0⟩)
 rintro n s1 ⟨σ1,H1,I1,w1⟩
 refine wpAny_passesOwn hp (aK (hc pins s1 σ1 H1 _ I1 (turn n σ1 H1 w1)) fun b s2 ⟨H2,I2,q2⟩=>?_)
 cases b with
 | true=>
  obtain ⟨N,hN,q2⟩:=q2
  rw [if_pos rfl]
  refine wpAny_passesOwn hp (aK (hb pins s2 σ1 H2 _ I2 q2) fun f s3 q3=>?_)
  cases f with
  | next=>
   obtain ⟨σ3,H3,I3,n3⟩:=q3
   obtain ⟨m',hm,w3⟩:=hN σ3 H3 n3
   exact ⟨m',hm,σ3,H3,I3,w3⟩
  | cont=>
   obtain ⟨σ3,H3,I3,n3⟩:=q3
   obtain ⟨m',hm,w3⟩:=hN σ3 H3 n3
   exact ⟨m',hm,σ3,H3,I3,w3⟩
  | brk=>exact q3
  | ret v=>exact q3
 | false=>
  rw [if_neg Bool.false_ne_true]
  exact wpAny_execs_nil ⟨σ1,H2,I2,q2⟩
end
structure It where
 go:Nat→Hp→Prop
 yld:Nat→Hp→V→Hp→Prop
 stop:Nat→Hp→Prop
def jP (X:Cx) (pins:List (Addr×Obj)) (H:Hp) (b:Addr):Prop:=
 H b=none∧b≠X.env.locals∧b∉X.fs∧(b∈X.ex∨X.s₀.heap.objs.size≤b)∧(∀x c,X.env.cells.lookup x=some c→c≠b)∧∀p∈X.pn++pins,p.1≠b
theorem aa.fpOk {X:Cx}{pins:List (Addr×Obj)}{σ:St}{H H':Hp}{s:Shared}{b:Addr} (I:aa X pins σ H s) (hb:s.heap.objs.size≤b) (hn:H' b=none):jP X pins H' b:=by
 refine ⟨hn,Nat.ne_of_gt (Nat.lt_of_lt_of_le I.lt hb),I.nofs hb,.inr (Nat.le_trans I.sz hb),fun x c e z=>?_,fun p hp z=>?_⟩
 ·obtain ⟨v,q⟩:=I.cell x c e
  exact absurd (Nat.lt_of_lt_of_le q.lt (by rw [z];exact hb)) (Nat.lt_irrefl _)
 ·exact absurd (Nat.lt_of_lt_of_le (Heap.lt_size (I.pin p hp).1) (by rw [z];exact hb)) (Nat.lt_irrefl _)
structure oN (P:Program) (w:World) (K:PySem.W.Frag) (tg:Expr) (J:It) (fp:List Addr) (it:Addr) (tn:Nat→Heap→Prop):Prop where
 mem:it∈fp
 obj:∀i h,tn i h→∀b∈fp,∃o,h.get? b=some o∧∀v,o.data≠.cell v
 keep:∀i h h',tn i h→(∀b∈fp,∀o,h.get? b=some o→h'.get? b=some o)→tn i h'
 item:∀(X:Cx),X.prog=P→X.w=w→X.K=K→X.calm=true→∀(i:Nat) (pins:List (Addr×Obj)) (s:Shared) (σ:St) (H:Hp) (E:Value→Shared→Prop),aa X pins σ H s→(∀b∈fp,jP X pins H b)→tn i s.heap→J.go i H→
  wpAny (model P w) X.A (pyNext (.ref it)) (fun r s1=>∃u,r=some u∧
   wpAny (model P w) X.A (letOwnedTupleGo tg (.ref it) u) (fun _ s2=>aV fun x H'=>aa X pins σ H' s2∧aO x u∧J.yld i H x H'∧tn (i+1) s2.heap∧∀b∈fp,H' b=none) E s1) E s
 done:∀(X:Cx),X.prog=P→X.w=w→X.K=K→X.calm=true→∀(i:Nat) (pins:List (Addr×Obj)) (s:Shared) (σ:St) (H:Hp) (E:Value→Shared→Prop),aa X pins σ H s→(∀b∈fp,jP X pins H b)→tn i s.heap→J.stop i H→
  wpAny (model P w) X.A (pyNext (.ref it)) (fun r s1=>r=none∧aa X pins σ H s1) E s
 self:∀(A:Around) (i:Nat) (s:Shared) (Q:Value→Shared→Prop) (E:Value→Shared→Prop),tn i s.heap→Q (.ref it) s→wpAny (model P w) A (pyIter (.ref it)) Q E s
abbrev TI:=St→Hp→(It→Hp→Prop)→Prop
def HN (X:Cx) (pins:List (Addr×Obj)) (σ:St) (tg:Expr) (R:It→Hp→Prop) (itv:Value) (s2:Shared):Prop:=
 xw fun (it:Addr) (fp:List Addr) (tn:Nat→Heap→Prop) (J:It) (H':Hp)=>itv=.ref it∧aa X pins σ H' s2∧oN X.prog X.w X.K tg J fp it tn∧tn 0 s2.heap∧(∀b∈fp,jP X pins H' b)∧R J H'
def PI (X:Cx) (tg iter:Expr) (wi:TI):Prop:=
 ∀(pins:List (Addr×Obj)) (s:Shared) (σ:St) (H:Hp) (R:It→Hp→Prop),aa X pins σ H s→wi σ H R→
   wpAny (model X.prog X.w) X.A (eval iter X.env) (fun v s1=>wpAny (model X.prog X.w) X.A (pyIter v) (HN X pins σ tg R) X.xe s1) X.xe s
theorem uY {M:Model}{A:Around}{E:Value→Shared→Prop}{s:Shared}{tg:Expr}{it:Addr}{u:Value}{o:Obj}{n:String}{vs:Array Value}{Q:Unit→Shared→Prop} (ho:s.heap.get? it=some o) (hc:o.cls=.type n) (hd:o.data=.fields vs)
 (hn:["enumerate", "zip", "dict_itemiterator", "dict_reverseitemiterator", "odict_iterator", "itertools.zip_longest", "itertools.pairwise"].contains n=false) (hQ:Q () s):wpAny M A (letOwnedTupleGo tg (.ref it) u) Q E s:=by
 unfold letOwnedTupleGo
 cases tg <;> first
  | exact wpAny_pure hQ
  | (cases u <;> first
   | exact wpAny_pure hQ
   | (refine wpAny_bind (wpAny_load ho ?_)
      rw [hc,hd]
      show wpAny M A (if (["enumerate", "zip", "dict_itemiterator", "dict_reverseitemiterator", "odict_iterator", "itertools.zip_longest", "itertools.pairwise"].contains n && vs[0]?==some (rawInt _))=true then _ else _) Q E s
      rw [if_neg (by intro h;rw [hn,Bool.false_and] at h;cases h)]
      exact wpAny_pure hQ))
def xf (K:PySem.W.Frag) (a:Addr):It:=
 ⟨fun i H=>aV fun xs x=>ar K H a xs∧xs[i]?=some x,fun i H x H'=>H'=H∧∀xs,ar K H a xs→xs[i]?=some x,fun i H=>∃xs,ar K H a xs∧xs.length≤i⟩
def w9 (K:PySem.W.Frag) (a:Addr):It:=
 ⟨fun i H=>aV fun xs x=>au K H a xs∧xs[i]?=some x,fun i H x H'=>H'=H∧∀xs,au K H a xs→xs[i]?=some x,fun i H=>∃xs,au K H a xs∧xs.length≤i⟩
def xu (lo:Int) (n:Nat):It:=⟨fun i _=>i<n,fun i H x H'=>H'=H∧x=.int (lo+i),fun i _=>n≤i⟩
theorem yV {P:Program}{w:World}{K:PySem.W.Frag}{tg:Expr} (a it:Addr):oN P w K tg (xf K a) [it] it (fun i h=>h.IsListIter it a i) where
 mem:=by simp
 obj:=fun i h st b hb=>by
  have e:b=it:=by simpa using hb
  subst e
  obtain ⟨o,e,c,d⟩:=st
  exact ⟨o,e,fun v z=>by rw [d] at z;cases z⟩
 keep:=fun i h h' st k=>st.at fun o e=>k it (by simp) o e
 item:=by
  intro X hP hw hK hc i pins s σ H E I hf st hg
  subst hP hw hK
  obtain ⟨xs,x,hq,hx⟩:=hg
  obtain ⟨its,rv,p,hz⟩:=I.list hq
  obtain ⟨u,hu,ru⟩:=rv.get hx
  obtain ⟨f0,f1,f2,f3,f4,f5⟩:=hf it (by simp)
  refine wpAny_pyNext_list_item st p.isList (x:=u) (by simpa using hu) fun h' st' sb=>?_
  have I1:aa X pins σ H { s with heap:=h' }:=I.turned (t':=s.toks) (fun b o hb e=>(sb.2 b hb).trans e) f0 f1 f3 f4 f5
  obtain ⟨o,e,c,d⟩:=id st'
  exact ⟨u,rfl,uY (s:={ s with heap:=h' }) e c d (by decide) ⟨x,H,I1,ru,⟨rfl,fun ys hy=>by rw [I.list_inj hy hq];exact hx⟩,st',fun b hb=>(hf b hb).1⟩⟩
 done:=by
  intro X hP hw hK hc i pins s σ H E I hf st hg
  subst hP hw hK
  obtain ⟨xs,hq,hx⟩:=hg
  obtain ⟨its,rv,p,hz⟩:=I.list hq
  obtain ⟨f0,f1,f2,f3,f4,f5⟩:=hf it (by simp)
  have hl:=rv.length
  exact wpAny_pyNext_list_end (I.ok.hd hc) st p.isList (by simp;trivial) fun h' eb=>⟨rfl,I.turned (t':=s.toks) (fun b o hb e=>eb b o hb e) f0 f1 f3 f4 f5⟩
 self:=fun _ _ _ _ _ st h=>wpAny_pyIter_listiter st h
theorem xY {P:Program}{w:World}{K:PySem.W.Frag}{tg:Expr} (a it:Addr):oN P w K tg (w9 K a) [it] it (fun i h=>h.IsTupleIter it a i) where
 mem:=by simp
 obj:=fun i h st b hb=>by
  have e:b=it:=by simpa using hb
  subst e
  obtain ⟨o,e,c,d⟩:=st
  exact ⟨o,e,fun v z=>by rw [d] at z;cases z⟩
 keep:=fun i h h' st k=>st.at fun o e=>k it (by simp) o e
 item:=by
  intro X hP hw hK hc i pins s σ H E I hf st hg
  subst hP hw hK
  obtain ⟨xs,x,hq,hx⟩:=hg
  obtain ⟨its,rv,p,hz⟩:=I.tuple hq
  obtain ⟨u,hu,ru⟩:=rv.get hx
  obtain ⟨f0,f1,f2,f3,f4,f5⟩:=hf it (by simp)
  refine wpAny_pyNext_tuple_item st (show s.heap.IsTuple a its.toArray from p) (x:=u) (by simpa using hu) fun h' st' sb=>?_
  have I1:aa X pins σ H { s with heap:=h' }:=I.turned (t':=s.toks) (fun b o hb e=>(sb.2 b hb).trans e) f0 f1 f3 f4 f5
  obtain ⟨o,e,c,d⟩:=id st'
  exact ⟨u,rfl,uY (s:={ s with heap:=h' }) e c d (by decide) ⟨x,H,I1,ru,⟨rfl,fun ys hy=>by rw [I.tuple_inj hy hq];exact hx⟩,st',fun b hb=>(hf b hb).1⟩⟩
 done:=by
  intro X hP hw hK hc i pins s σ H E I hf st hg
  subst hP hw hK
  obtain ⟨xs,hq,hx⟩:=hg
  obtain ⟨its,rv,p,hz⟩:=I.tuple hq
  obtain ⟨f0,f1,f2,f3,f4,f5⟩:=hf it (by simp)
  have hl:=rv.length
  exact wpAny_pyNext_tuple_end (I.ok.hd hc) st (show s.heap.IsTuple a its.toArray from p) (by simp;trivial) fun h' eb=>⟨rfl,I.turned (t':=s.toks) (fun b o hb e=>eb b o hb e) f0 f1 f3 f4 f5⟩
 self:=fun _ _ _ _ _ st h=>wpAny_pyIter_tupleiter st h
theorem xZ {P:Program}{w:World}{K:PySem.W.Frag}{tg:Expr} (it:Addr) (lo:Int) (n:Nat):oN P w K tg (xu lo n) [it] it (fun i h=>IsRangeIter h it (lo+(i:Nat)*1) ((n:Int) - (i:Nat)) 1) where
 mem:=by simp
 obj:=fun i h st b hb=>by
  have e:b=it:=by simpa using hb
  subst e
  exact ⟨_,st,fun v z=>by
   have z':Data.fields _=Data.cell v:=z
   cases z'⟩
 keep:=fun i h h' st k=>k it (by simp) _ st
 item:=by
  intro X hP hw hK hc i pins s σ H E I hf st hg
  subst hP hw hK
  obtain ⟨f0,f1,f2,f3,f4,f5⟩:=hf it (by simp)
  have W:=Walks.range (prog:=X.prog) (w:=X.w) (I.ok.hd hc) it lo 1 n
  refine W.item i s _ _ hg st fun v h' tk hv st' kk=>?_
  obtain ⟨t,rfl⟩:=hv
  have I1:aa X pins σ H { s with heap:=h',toks:=tk }:=I.turned (fun b o hb e=>kk b o (by simpa using hb) e) f0 f1 f3 f4 f5
  refine ⟨(),uY (s:={ s with heap:=h',toks:=tk }) (n := "range_iterator") st' rfl rfl (by decide) ⟨.int (lo+i),H,I1,⟨t,?_⟩,⟨rfl,rfl⟩,st',fun b hb=>(hf b hb).1⟩⟩
  rw [Int.mul_one]
 done:=by
  intro X hP hw hK hc i pins s σ H E I hf st hg
  subst hP hw hK
  obtain ⟨f0,f1,f2,f3,f4,f5⟩:=hf it (by simp)
  exact wpAny_pyNext_range_end (I.ok.hd hc) st (by have:n≤i:=hg;trivial) fun h' eb=>⟨rfl,I.turned (t':=s.toks) (fun b o hb e=>eb b o hb e) f0 f1 f3 f4 f5⟩
 self:=fun _ _ _ _ _ st h=>wpAny_pyIter_rangeiter st h
section
variable {X:Cx}{tg:Expr}
def Ca (K:PySem.W.Frag) (tl:TE):TI:=fun σ H R=>tl σ H fun x H1=>∃a,x=.ref a∧(∃xs,ar K H1 a xs)∧R (xf K a) H1
def FW (K:PySem.W.Frag) (tl:TE):TI:=fun σ H R=>tl σ H fun x H1=>∃a,x=.ref a∧(∃xs,au K H1 a xs)∧R (w9 K a) H1
theorem C2 {l:Expr}{tl:TE} (hl:PE X l tl):PI X tg l (Ca X.K tl):=by
 intro pins s σ H R I h
 refine aK (hl pins s σ H _ I h) fun v s1 ⟨x,H1,I1,r1,q1⟩=>?_
 obtain ⟨a,e,⟨xs,hq⟩,q⟩:=q1
 subst e
 cases r1
 obtain ⟨its,rv,p,hz⟩:=I1.list hq
 refine wpAny_pyIter_list p.isList ?_
 refine ⟨s1.heap.objs.size,[s1.heap.objs.size],_,_,H1,rfl,I1.kept (t':=s1.toks) fun b o e=>Heap.get?_push_of_some _ e,yV a _,⟨_,Heap.get?_push_size _ rfl,rfl,rfl⟩,fun b hb=>?_,q⟩
 have e:b=s1.heap.objs.size:=by simpa using hb
 subst e
 exact I1.fpOk (Nat.le_refl _) (I1.hok.fresh (Nat.le_refl _))
theorem EK {l:Expr}{tl:TE} (hl:PE X l tl):PI X tg l (FW X.K tl):=by
 intro pins s σ H R I h
 refine aK (hl pins s σ H _ I h) fun v s1 ⟨x,H1,I1,r1,q1⟩=>?_
 obtain ⟨a,e,⟨xs,hq⟩,q⟩:=q1
 subst e
 cases r1
 obtain ⟨its,rv,p,hz⟩:=I1.tuple hq
 refine wpAny_pyIter_tuple (show s1.heap.IsTuple a its.toArray from p) ?_
 refine ⟨s1.heap.objs.size,[s1.heap.objs.size],_,_,H1,rfl,I1.kept (t':=s1.toks) fun b o e=>Heap.get?_push_of_some _ e,xY a _,⟨_,Heap.get?_push_size _ rfl,rfl,rfl⟩,fun b hb=>?_,q⟩
 have e:b=s1.heap.objs.size:=by simpa using hb
 subst e
 exact I1.fpOk (Nat.le_refl _) (I1.hok.fresh (Nat.le_refl _))
theorem Bh {pins:List (Addr×Obj)}{σ:St}{H:Hp}{s:Shared}{R:It→Hp→Prop}{E:Value→Shared→Prop}{lo hi:Int}{t u v:Tok}{tk:Nat} (I:aa X pins σ H s) (h1:-(2 ^ 62)≤lo) (h2:lo<2 ^ 62) (h3:-(2 ^ 62)≤hi) (h4:hi<2 ^ 62)
 (q:R (xu lo (hi - lo).toNat) H):wpAny (model X.prog X.w) X.A (pyIter (.ref s.heap.objs.size)) (HN X pins σ tg R) E { s with heap:=s.heap.push { cls:=.type "range",data:=.fields #[.int lo t,.int hi u,.int 1 v] },toks:=tk }:=by
 refine wpAny_pyIter_range (IsRange.new ..) (small_one h1 h2 h3 h4) ?_
 have I1:aa X pins σ H { s with heap:=s.heap.push { cls:=.type "range",data:=.fields #[.int lo t,.int hi u,.int 1 v] },toks:=tk }:=I.kept fun b o e=>Heap.get?_push_of_some _ e
 refine ⟨(s.heap.push { cls:=.type "range",data:=.fields #[.int lo t,.int hi u,.int 1 v] }).objs.size,[(s.heap.push { cls:=.type "range",data:=.fields #[.int lo t,.int hi u,.int 1 v] }).objs.size],_,_,H,rfl,
  I1.kept (t':=tk) fun b o e=>Heap.get?_push_of_some _ e,xZ _ lo (hi - lo).toNat,?_,fun b hb=>?_,q⟩
 ·have e1:lo+((0:Nat):Int)*1=lo:=by simp
  have e2:(((hi - lo).toNat:Nat):Int) - ((0:Nat):Int)=Builtin.Range.rangeSize lo hi 1:=by rw [rangeSize_one];split <;> trivial
  show IsRangeIter _ _ (lo+((0:Nat):Int)*1) ((((hi - lo).toNat:Nat):Int) - ((0:Nat):Int)) 1
  rw [e1,e2]
  exact Heap.get?_push_size _ rfl
 ·have e:b=(s.heap.push { cls:=.type "range",data:=.fields #[.int lo t,.int hi u,.int 1 v] }).objs.size:=by simpa using hb
  subst e
  exact I1.fpOk (Nat.le_refl _) (I1.hok.fresh (Nat.le_refl _))
def FZ (ta:TA):TI:=fun σ H R=>ta σ H fun vs H1=>∃j:Int,vs=[.int j]∧-(2 ^ 62)≤j∧j<2 ^ 62∧R (xu 0 j.toNat) H1
theorem dy {a:Expr}{ta:TA}{p pos:Pos} (hg:Gl X "range") (hm:X.mg "range" = none) (ha:PA X [a] ta) (hs:starEach [a] X.env=[(false,eval a X.env)]:=by rfl):PI X tg (.Call (.Name "range" p) [a] [] pos) (FZ ta):=by
 intro pins s σ H R I h
 refine Call_ (gy I hg hm boot_range (PyProof.Rows.callWith_type1 (aK (ha pos pins s σ H _ I h) fun us s1 ⟨vs,H1,I1,r1,q1⟩=>?_) hs rfl))
 obtain ⟨j,e,q1,q2,q⟩:=q1
 subst e
 cases r1 with
 | cons r rr=>
  cases rr
  obtain ⟨t,rfl⟩:=r
  exact call_range_1 (Bh I1 (by trivial) (by trivial) q1 q2 (by simpa using q))
def Io (wi:TI) (g:TG) (tb:TS):TS:=fun D σ H=>wi σ H fun J H1=>∃W:Nat→Nat→St→Hp→Prop,(∃m,W 0 m σ H1)∧∀i m σ H,W i m σ H→
 (J.stop i H∧D.nx σ H)∨(J.go i H∧∃N:St→Hp→Prop,(∀σ' H',N σ' H'→∃m',m'<m∧W (i+1) m' σ' H')∧∀x H',J.yld i H x H'→g x σ H' fun σ2 H2=>tb { D with nx:=N,ct:=N,bk:=D.nx } σ2 H2)
def pj (fp:List Addr) (h:Heap):List (Addr×Obj):=fp.filterMap fun b=>(h.get? b).map fun o=>(b,o)
theorem ke {fp:List Addr}{h:Heap}{b:Addr}{o:Obj} (hb:b∈fp) (e:h.get? b=some o):(b,o)∈pj fp h:=List.mem_filterMap.mpr ⟨b,hb,by rw [e];rfl⟩
theorem Ak {fp:List Addr}{h:Heap}{p:Addr×Obj} (hp:p∈pj fp h):p.1∈fp∧h.get? p.1=some p.2:=by
 obtain ⟨b,hb,e⟩:=List.mem_filterMap.mp hp
 cases q:h.get? b with
 | none=>rw [q] at e;cases e
 | some o=>
  rw [q] at e
  have e':(b,o)=p:=Option.some.inj e
  subst e'
  exact ⟨hb,q⟩
theorem aa.pinned {pins:List (Addr×Obj)}{σ:St}{H:Hp}{s:Shared}{fp:List Addr} (I:aa X pins σ H s) (hf:∀b∈fp,jP X pins H b) (ho:∀b∈fp,∃o,s.heap.get? b=some o∧∀v,o.data≠.cell v):aa X (pins++pj fp s.heap) σ H s:=
 I.pins_of fun p hp=>(List.mem_append.mp hp).elim (fun z=>I.pin p (List.mem_append_right _ z)) fun z=>by
  obtain ⟨hb,e⟩:=Ak z
  obtain ⟨f0,f1,f2,_⟩:=hf p.1 hb
  obtain ⟨o,e',d⟩:=ho p.1 hb
  rw [e] at e';cases e'
  exact ⟨e,f0,f1,f2,d⟩
theorem aa.unpinned {pins pl:List (Addr×Obj)}{σ:St}{H:Hp}{s:Shared} (I:aa X (pins++pl) σ H s):aa X pins σ H s:=I.pins_of fun p hp=>I.pin p (List.mem_append_right _ (List.mem_append_left _ hp))
theorem iZ {iter:Expr}{body:List Stmt}{wi:TI}{g:TG}{tb:TS}{pos:Pos} (hp:PassesOwn (model X.prog X.w) X.A X.env X.xe) (hc:X.calm=true) (hi:PI X tg iter wi) (hg:PG X tg g) (hb:j8 X body tb)
 (hs:∀x,foldedSetIterable iter X.env x=pure x:=by intro _;rfl):PS X (.For tg iter body [] pos) (Io wi g tb):=by
 intro pins s σ H D I h
 refine wpAny_For (aK (hi pins s σ H _ I h) fun v s1 h1=>aK h1 fun itv s2 h2=>?_) hs
 obtain ⟨it,fp,tn,J,H2,e,I2,T,st2,f2,W,⟨m0,w0⟩,turn⟩:=h2
 subst e
 have stat:∀{H':Hp},(∀b∈fp,H' b=none)→∀b∈fp,jP X pins H' b:=fun hn b hb=>⟨hn b hb,(f2 b hb).2⟩
 refine codeAny_forLoop_any (fun n s'=>∃i σ' H',aa X pins σ' H' s'∧tn i s'.heap∧(∀b∈fp,H' b=none)∧W i n σ' H') ?_ m0 ⟨0,σ,H2,I2,st2,fun b hb=>(f2 b hb).1,w0⟩
 rintro n s3 ⟨i,σ3,H3,I3,st3,fr3,w3⟩
 rcases turn i n σ3 H3 w3 with ⟨stop,qn⟩ | ⟨go,N,hN,step⟩
 ·refine wpAny_passesOwn hp (aK (T.done X rfl rfl rfl hc i pins s3 σ3 H3 X.xe I3 (stat fr3) st3 stop) fun r s4 ⟨hr,I4⟩=>?_)
  subst hr
  exact wpAny_execs_nil ⟨σ3,H3,I4,qn⟩
 ·refine wpAny_passesOwn hp (aK (T.item X rfl rfl rfl hc i pins s3 σ3 H3 X.xe I3 (stat fr3) st3 go) fun r s4 ⟨u,hr,h4⟩=>?_)
  subst hr
  refine wpAny_passesOwn hp (aK h4 fun _ s5 ⟨x,H5,I5,r5,y5,st5,fr5⟩=>?_)
  have I5':=I5.pinned (stat fr5) (T.obj _ _ st5)
  refine wpAny_passesOwn hp (aK (hg _ s5 σ3 H5 x u _ I5' r5 (step x H5 y5)) fun _ s6 ⟨σ6,H6,I6,q6⟩=>?_)
  refine wpAny_passesOwn hp (aK (hb _ s6 σ6 H6 _ I6 q6) fun f s7 q7=>?_)
  have again:∀{σ7:St}{H7:Hp},aa X (pins++pj fp s5.heap) σ7 H7 s7→N σ7 H7→∃m,m<n∧∃i σ' H',aa X pins σ' H' s7∧tn i s7.heap∧(∀b∈fp,H' b=none)∧W i m σ' H':=fun {σ7 H7} I7 n7=>by
   obtain ⟨m',hm,w7⟩:=hN σ7 H7 n7
   refine ⟨m',hm,i+1,σ7,H7,I7.unpinned,T.keep _ _ _ st5 fun b hb o e=>(I7.pin (b,o) (List.mem_append_right _ (List.mem_append_right _ (ke hb e)))).1,fun b hb=>?_,w7⟩
   obtain ⟨o,e,d⟩:=T.obj _ _ st5 b hb
   exact (I7.pin (b,o) (List.mem_append_right _ (List.mem_append_right _ (ke hb e)))).2.1
  cases f with
  | next=>obtain ⟨σ7,H7,I7,n7⟩:=q7;exact again I7 n7
  | cont=>obtain ⟨σ7,H7,I7,n7⟩:=q7;exact again I7 n7
  | brk=>obtain ⟨σ7,H7,I7,q7⟩:=q7;exact ⟨σ7,H7,I7.unpinned,q7⟩
  | ret v=>obtain ⟨x7,σ7,H7,I7,r7,q7⟩:=q7;exact ⟨x7,σ7,H7,I7.unpinned,r7,q7⟩
end
theorem Bf {K:PySem.W.Frag}{a:Addr}{xs:List V}{g:TG}{tb:TS}{D:dY}{σ:St}{H:Hp} (Pv:Nat→St→Hp→Prop) (h0:Pv 0 σ H) (hl:∀i σ H,i≤xs.length→Pv i σ H→ar K H a xs)
 (hs:∀i x σ H,xs[i]?=some x→Pv i σ H→g x σ H fun σ2 H2=>tb { D with nx:=Pv (i+1),ct:=Pv (i+1),bk:=D.nx } σ2 H2) (hd:∀σ H,Pv xs.length σ H→D.nx σ H) :
 ∃W:Nat→Nat→St→Hp→Prop,(∃m,W 0 m σ H)∧∀i m σ H,W i m σ H→
  ((xf K a).stop i H∧D.nx σ H)∨((xf K a).go i H∧∃N:St→Hp→Prop,(∀σ' H',N σ' H'→∃m',m'<m∧W (i+1) m' σ' H')∧∀x H',(xf K a).yld i H x H'→g x σ H' fun σ2 H2=>tb { D with nx:=N,ct:=N,bk:=D.nx } σ2 H2):=by
 refine ⟨fun i m σ H=>m=xs.length - i∧i≤xs.length∧Pv i σ H,⟨xs.length,by simp,Nat.zero_le _,h0⟩,?_⟩
 rintro i m σ H ⟨rfl,hi,p⟩
 have q:=hl i σ H hi p
 by_cases hlt:i<xs.length
 ·refine .inr ⟨⟨xs,xs[i],q,by simp [hlt]⟩,Pv (i+1),fun σ' H' p'=>⟨xs.length - (i+1),by trivial,rfl,hlt,p'⟩,fun x H' y=>?_⟩
  obtain ⟨e,y⟩:=y
  subst e
  exact hs i x σ _ (y xs q) p
 ·have e:i=xs.length:=by trivial
  subst e
  exact .inl ⟨⟨xs,q,Nat.le_refl _⟩,hd σ H p⟩
theorem xS {K:PySem.W.Frag}{a:Addr}{xs:List V}{g:TG}{tb:TS}{D:dY}{σ:St}{H:Hp} (Pv:Nat→St→Hp→Prop) (h0:Pv 0 σ H) (hl:∀i σ H,i≤xs.length→Pv i σ H→au K H a xs)
 (hs:∀i x σ H,xs[i]?=some x→Pv i σ H→g x σ H fun σ2 H2=>tb { D with nx:=Pv (i+1),ct:=Pv (i+1),bk:=D.nx } σ2 H2) (hd:∀σ H,Pv xs.length σ H→D.nx σ H) :
 ∃W:Nat→Nat→St→Hp→Prop,(∃m,W 0 m σ H)∧∀i m σ H,W i m σ H→
  ((w9 K a).stop i H∧D.nx σ H)∨((w9 K a).go i H∧∃N:St→Hp→Prop,(∀σ' H',N σ' H'→∃m',m'<m∧W (i+1) m' σ' H')∧∀x H',(w9 K a).yld i H x H'→g x σ H' fun σ2 H2=>tb { D with nx:=N,ct:=N,bk:=D.nx } σ2 H2):=by
 refine ⟨fun i m σ H=>m=xs.length - i∧i≤xs.length∧Pv i σ H,⟨xs.length,by simp,Nat.zero_le _,h0⟩,?_⟩
 rintro i m σ H ⟨rfl,hi,p⟩
 have q:=hl i σ H hi p
 by_cases hlt:i<xs.length
 ·refine .inr ⟨⟨xs,xs[i],q,by simp [hlt]⟩,Pv (i+1),fun σ' H' p'=>⟨xs.length - (i+1),by trivial,rfl,hlt,p'⟩,fun x H' y=>?_⟩
  obtain ⟨e,y⟩:=y
  subst e
  exact hs i x σ _ (y xs q) p
 ·have e:i=xs.length:=by trivial
  subst e
  exact .inl ⟨⟨xs,q,Nat.le_refl _⟩,hd σ H p⟩
theorem lD {lo:Int}{n:Nat}{g:TG}{tb:TS}{D:dY}{σ:St}{H:Hp} (Pv:Nat→St→Hp→Prop) (h0:Pv 0 σ H)
 (hs:∀i σ H,i<n→Pv i σ H→g (.int (lo+i)) σ H fun σ2 H2=>tb { D with nx:=Pv (i+1),ct:=Pv (i+1),bk:=D.nx } σ2 H2) (hd:∀σ H,Pv n σ H→D.nx σ H) :
 ∃W:Nat→Nat→St→Hp→Prop,(∃m,W 0 m σ H)∧∀i m σ H,W i m σ H→
  ((xu lo n).stop i H∧D.nx σ H)∨((xu lo n).go i H∧∃N:St→Hp→Prop,(∀σ' H',N σ' H'→∃m',m'<m∧W (i+1) m' σ' H')∧∀x H',(xu lo n).yld i H x H'→g x σ H' fun σ2 H2=>tb { D with nx:=N,ct:=N,bk:=D.nx } σ2 H2):=by
 refine ⟨fun i m σ H=>m=n - i∧i≤n∧Pv i σ H,⟨n,by simp,Nat.zero_le _,h0⟩,?_⟩
 rintro i m σ H ⟨rfl,hi,p⟩
 by_cases hlt:i<n
 ·refine .inr ⟨hlt,Pv (i+1),fun σ' H' p'=>⟨n - (i+1),by trivial,rfl,hlt,p'⟩,fun x H' y=>?_⟩
  obtain ⟨e,y⟩:=y
  subst e y
  exact hs i σ _ hlt p
 ·have e:i=n:=by trivial
  subst e
  exact .inl ⟨Nat.le_refl _,hd σ H p⟩
abbrev R2:=V→V→Hp→VK→Prop
def b8 (X:Cx) (f:Value→Value→Sem Value) (r:R2):Prop:=
 ∀(pins:List (Addr×Obj)) (s:Shared) (σ:St) (H:Hp) (x y:V) (v u:Value) (Q:VK),aa X pins σ H s→aO x v→aO y u→r x y H Q→
   wpAny (model X.prog X.w) X.A (f v u) (EP X pins σ Q) X.xe s
def Es (X:Cx) (f:Value→Sem Value) (r:V→Hp→VK→Prop):Prop:=
 ∀(pins:List (Addr×Obj)) (s:Shared) (σ:St) (H:Hp) (x:V) (v:Value) (Q:VK),aa X pins σ H s→aO x v→r x H Q→
   wpAny (model X.prog X.w) X.A (f v) (EP X pins σ Q) X.xe s
def bU (X:Cx) (f:Value) (r:List V→Hp→VK→Prop):Prop:=
 ∀(pins:List (Addr×Obj)) (s:Shared) (σ:St) (H:Hp) (xs:List V) (us:List Value) (Q:VK),aa X pins σ H s→aC xs us→r xs H Q→
   wpAny (model X.prog X.w) X.A (call f us) (EP X pins σ Q) X.xe s
def BI (r:R2) (ta tb:TE):TE:=fun σ H Q=>ta σ H fun x H1=>tb σ H1 fun y H2=>r x y H2 Q
def IT (r:V→Hp→VK→Prop) (ta:TE):TE:=fun σ H Q=>ta σ H fun x H1=>r x H1 Q
inductive IO (C:Int→Int→Prop) (g:Int→Int→V) (x:V) (y:V) (H:Hp) (Q:VK):Prop
 | mk (i:_) (j:_) (h0:x=.int i) (h1:y=.int j) (h2:C i j) (h3:Q (g i j) H)
def rI (C:Int→Int→Prop) (g:Int→Int→V):R2:=fun x y H Q=>IO C g x y H Q
inductive HY (g:Int→Int→V) (x:V) (y:V) (H:Hp) (Q:VK):Prop
 | mk (i:_) (j:_) (h0:x=.int i) (h1:y=.int j) (h2:Q (g i j) H)
def ut (g:Int→Int→V):R2:=fun x y H Q=>HY g x y H Q
def rU (g:Int→V):V→Hp→VK→Prop:=fun x H Q=>EY x fun i=>Q (g i) H
section
variable {X:Cx}{a b c:Expr}{ta tb tc:TE}{pos:Pos}
theorem Bk (ha:PE X a ta) (hb:PE X b tb) {pins:List (Addr×Obj)}{s:Shared}{σ:St}{H:Hp}{R:V→V→Hp→Prop} (I:aa X pins σ H s)
 (h:ta σ H fun x H1=>tb σ H1 fun y H2=>R x y H2) {Q:Value→Shared→Prop}{f:Value→Value→Sem Value}
 (hf:∀v u s2 x y H2,aa X pins σ H2 s2→aO x v→aO y u→R x y H2→wpAny (model X.prog X.w) X.A (f v u) Q X.xe s2) :
 wpAny (model X.prog X.w) X.A (eval a X.env) (fun v s₁=>wpAny (model X.prog X.w) X.A (eval b X.env) (fun u s₂=>wpAny (model X.prog X.w) X.A (f v u) Q X.xe s₂) X.xe s₁) X.xe s:=by
 refine aK (ha pins s σ H _ I h) fun v s1 ⟨x,H1,I1,r1,q1⟩=>?_
 refine aK (hb pins s1 σ H1 _ I1 q1) fun u s2 ⟨y,H2,I2,r2,q2⟩=>?_
 exact hf v u s2 x y H2 I2 r1 r2 q2
theorem ag {op:Operator}{r:R2} (ho:b8 X (binaryOp op) r) (ha:PE X a ta) (hb:PE X b tb):PE X (.BinOp a op b pos) (BI r ta tb):=by
 intro pins s σ H Q I h
 exact wpAny_BinOp (Bk ha hb I h fun v u s2 x y H2 I2 rx ry q=>ho pins s2 σ H2 x y v u Q I2 rx ry q)
theorem uU {op:UnaryOp}{r:V→Hp→VK→Prop} (ho:Es X (unaryOp op) r) (ha:PE X a ta):PE X (.UnaryOp op a pos) (IT r ta):=by
 intro pins s σ H Q I h
 exact UnaryOp_ (aK (ha pins s σ H _ I h) fun v s1 ⟨x,H1,I1,r1,q1⟩=>ho pins s1 σ H1 x v Q I1 r1 q1)
theorem u0 {f:Value→Value→Sem Value}{C:Int→Int→Prop}{g:Int→Int→Int}
 (rule:∀(i j:Int) (t u:Tok) (s:Shared) (Q:Value→Shared→Prop) (E:Value→Shared→Prop),C i j→Q (.int (g i j) s.toks) { s with toks:=s.toks+1 }→wpAny (model X.prog X.w) X.A (f (.int i t) (.int j u)) Q E s) :
 b8 X f (rI C fun i j=>.int (g i j)):=by
 intro pins s σ H x y v u Q I rx ry h
 obtain ⟨i,j,rfl,rfl,hc,q⟩:=h
 obtain ⟨t,rfl⟩:=rx
 obtain ⟨t',rfl⟩:=ry
 exact rule i j t t' s _ _ hc ⟨.int (g i j),H,I.tok _,⟨()⟩,q⟩
theorem Fy {f:Value→Value→Sem Value}{g:Int→Int→Int}
 (rule:∀(i j:Int) (t u:Tok) (s:Shared) (Q:Value→Shared→Prop) (E:Value→Shared→Prop),Q (.int (g i j) s.toks) { s with toks:=s.toks+1 }→wpAny (model X.prog X.w) X.A (f (.int i t) (.int j u)) Q E s) :
 b8 X f (ut fun i j=>.int (g i j)):=by
 intro pins s σ H x y v u Q I rx ry h
 obtain ⟨i,j,rfl,rfl,q⟩:=h
 obtain ⟨t,rfl⟩:=rx
 obtain ⟨t',rfl⟩:=ry
 exact rule i j t t' s _ _ ⟨.int (g i j),H,I.tok _,⟨()⟩,q⟩
theorem xV {f:Value→Value→Sem Value}{g:Int→Int→Bool}
 (rule:∀(i j:Int) (t u:Tok) (s:Shared) (Q:Value→Shared→Prop) (E:Value→Shared→Prop),Q (.bool (g i j)) s→wpAny (model X.prog X.w) X.A (f (.int i t) (.int j u)) Q E s) :
 b8 X f (ut fun i j=>.bl (g i j)):=by
 intro pins s σ H x y v u Q I rx ry h
 obtain ⟨i,j,rfl,rfl,q⟩:=h
 obtain ⟨t,rfl⟩:=rx
 obtain ⟨t',rfl⟩:=ry
 exact rule i j t t' s _ _ ⟨.bl (g i j),H,I,rfl,q⟩
def Ey (i j:Int):Prop:=0<j∧j<1073741824
def Ib (i j:Int):Prop:=0≤j∧j≤1000000∧i.natAbs<2 ^ 64
def Az (i j:Int):Prop:=(-(2 ^ 64)<i∧i<2 ^ 64)∨(-(2 ^ 64)<j∧j<2 ^ 64)
theorem Az.ok {i j:Int} (h:Az i j):IntMulOk i j:=by
 rcases h with ⟨h1,h2⟩ | ⟨h1,h2⟩
 ·exact .of_left (intBits_le_64 h1 h2)
 ·exact .of_right (intBits_le_64 h1 h2)
theorem bw:b8 X (binaryOp .Add) (ut fun i j=>.int (i+j)):=Fy fun _ _ _ _ _ _ _ q=>add_int q
theorem jF:b8 X (binaryOp .Sub) (ut fun i j=>.int (i - j)):=Fy fun _ _ _ _ _ _ _ q=>sub_int q
theorem ft:b8 X (binaryOp .Mult) (rI Az fun i j=>.int (i*j)):=u0 fun _ _ _ _ _ _ _ hc q=>mul_int q hc.ok
theorem xz:b8 X (binaryOp .FloorDiv) (rI Ey fun i j=>.int (i / j)):=u0 fun i j _ _ _ _ _ hc q=>by
 have h1:(0:Int)<j:=hc.1
 have h2:j<1073741824:=hc.2
 exact floordiv_int (by trivial) (by rw [Int.fdiv_eq_ediv_of_nonneg i (by trivial)];exact q) (.inl (PyProof.noPylong_small (by trivial)))
theorem fP:b8 X (binaryOp .Mod) (rI (fun _ j=>0<j) fun i j=>.int (i % j)):=u0 fun i j _ _ _ _ _ hc q=>by
 have h1:(0:Int)<j:=hc
 exact mod_int' (by trivial) (by rw [Int.fmod_eq_emod_of_nonneg i (by trivial)];exact q)
theorem CP:b8 X (binaryOp .Mod) (rI (fun _ j=>j≠0) fun i j=>.int (i.fmod j)):=u0 fun _ _ _ _ _ _ _ hc q=>mod_int' hc q
theorem kD:b8 X (binaryOp .Pow) (rI Ib fun i j=>.int (i ^ j.toNat)):=u0 fun _ _ _ _ _ _ _ hc q=>pow_int_small hc.1 hc.2.1 hc.2.2 q
theorem IM {f:Value→Sem Value}{g:Int→Int}
 (rule:∀(i:Int) (t:Tok) (s:Shared) (Q:Value→Shared→Prop) (E:Value→Shared→Prop),Q (.int (g i) s.toks) { s with toks:=s.toks+1 }→wpAny (model X.prog X.w) X.A (f (.int i t)) Q E s) :
 Es X f (rU fun i=>.int (g i)):=by
 intro pins s σ H x v Q I rx h
 obtain ⟨i,rfl,q⟩:=h
 obtain ⟨t,rfl⟩:=rx
 exact rule i t s _ _ ⟨.int (g i),H,I.tok _,⟨()⟩,q⟩
theorem rZ:Es X (unaryOp .USub) (rU fun i=>.int (-i)):=IM fun _ _ _ _ _ q=>neg_int q
end
def Fh:V→V→Bool
 | .non,.non=>true | .non,.int _=>true | .int _,.non=>true | .non,.bl _=>true | .bl _,.non=>true | .non,.str _=>true | .str _,.non=>true
 | .int _,.int _=>true | .bl _,.bl _=>true | .str _,.str _=>true | .byt _,.byt _=>true
 | .int _,.str _=>true | .str _,.int _=>true | .bl _,.str _=>true | .str _,.bl _=>true
 | _,_=>false
def IU:R2:=fun x y H Q=>Fh x y=true∧Q (.bl (decide (x=y))) H
def IQ:R2:=fun x y H Q=>Fh x y=true∧Q (.bl (!decide (x=y))) H
theorem xT {i j:Int}:decide (V.int i=V.int j)=(i==j):=by
 rw [Bool.eq_iff_iff]
 simp
theorem zH {i j:Bool}:decide (V.bl i=V.bl j)=(i==j):=by
 rw [Bool.eq_iff_iff]
 simp
theorem xr {i j:Str}:decide (V.str i=V.str j)=(i==j):=by
 rw [Bool.eq_iff_iff]
 simp
theorem w6 {i j:Array UInt8}:decide (V.byt i=V.byt j)=(i.toList==j.toList):=by
 rw [Bool.eq_iff_iff]
 cases i
 cases j
 simp
section
variable {X:Cx}{a b c:Expr}{ta tb tc:TE}{pos:Pos}
theorem bf {pins:List (Addr×Obj)}{σ:St}{H:Hp}{s:Shared}{Q:VK}{k k':Bool} (I:aa X pins σ H s) (q:Q (.bl k) H) (e:k=k'):EP X pins σ Q (.bool k') s:=by
 subst e
 exact ⟨.bl k,H,I,rfl,q⟩
theorem bI:b8 X (compareOp .Eq) IU:=by
 intro pins s σ H x y v u Q I rx ry h
 obtain ⟨hs,q⟩:=h
 cases x with
 | non=>
  cases rx
  cases y with
  | non=>cases ry;exact PySem.EqNone.eq_none_none (bf I q (by simp))
  | bl j=>cases ry;exact PySem.EqNone.eq_none_bool (bf I q (by simp))
  | int j=>obtain ⟨t',rfl⟩:=ry;exact PySem.EqNone.eq_none_int (bf I q (by simp))
  | str j=>obtain ⟨t',rfl⟩:=ry;exact PySem.EqNone.eq_none_str (bf I q (by simp))
  | _=>exact absurd (show false=true from hs) Bool.false_ne_true
 | bl i=>
  cases rx
  cases y with
  | non=>cases ry;exact PySem.EqNone.eq_bool_none (bf I q (by simp))
  | bl j=>cases ry;exact eq_bool (bf I q zH)
  | str j=>obtain ⟨t',rfl⟩:=ry;exact PySem.EqMixed.eq_bool_str (bf I q (by simp))
  | _=>exact absurd (show false=true from hs) Bool.false_ne_true
 | int i=>
  obtain ⟨t,rfl⟩:=rx
  cases y with
  | non=>cases ry;exact PySem.EqNone.eq_int_none (bf I q (by simp))
  | int j=>obtain ⟨t',rfl⟩:=ry;exact eq_int (bf I q xT)
  | str j=>obtain ⟨t',rfl⟩:=ry;exact PySem.EqMixed.eq_int_str (bf I q (by simp))
  | _=>exact absurd (show false=true from hs) Bool.false_ne_true
 | str i=>
  obtain ⟨t,rfl⟩:=rx
  cases y with
  | non=>cases ry;exact PySem.EqNone.eq_str_none (bf I q (by simp))
  | bl j=>cases ry;exact PySem.EqMixed.eq_str_bool (bf I q (by simp))
  | int j=>obtain ⟨t',rfl⟩:=ry;exact PySem.EqMixed.eq_str_int (bf I q (by simp))
  | str j=>obtain ⟨t',rfl⟩:=ry;exact eq_str (bf I q xr)
  | _=>exact absurd (show false=true from hs) Bool.false_ne_true
 | byt i=>
  obtain ⟨t,rfl⟩:=rx
  cases y with
  | byt j=>obtain ⟨t',rfl⟩:=ry;exact PySem.W.eq_bytes (bf I q w6)
  | _=>exact absurd (show false=true from hs) Bool.false_ne_true
 | _=>cases y <;> exact absurd (show false=true from hs) Bool.false_ne_true
theorem hV:b8 X (compareOp .NotEq) IQ:=by
 intro pins s σ H x y v u Q I rx ry h
 obtain ⟨hs,q⟩:=h
 cases x with
 | non=>
  cases rx
  cases y with
  | non=>cases ry;exact PySem.EqNone.ne_none_none (bf I q (by simp))
  | bl j=>cases ry;exact PySem.EqNone.ne_none_bool (bf I q (by simp))
  | int j=>obtain ⟨t',rfl⟩:=ry;exact PySem.EqNone.ne_none_int (bf I q (by simp))
  | str j=>obtain ⟨t',rfl⟩:=ry;exact PySem.EqNone.ne_none_str (bf I q (by simp))
  | _=>exact absurd (show false=true from hs) Bool.false_ne_true
 | bl i=>
  cases rx
  cases y with
  | non=>cases ry;exact PySem.EqNone.ne_bool_none (bf I q (by simp))
  | bl j=>cases ry;exact ne_bool (bf I q (congrArg not zH))
  | str j=>obtain ⟨t',rfl⟩:=ry;exact PySem.EqMixed.ne_bool_str (bf I q (by simp))
  | _=>exact absurd (show false=true from hs) Bool.false_ne_true
 | int i=>
  obtain ⟨t,rfl⟩:=rx
  cases y with
  | non=>cases ry;exact PySem.EqNone.ne_int_none (bf I q (by simp))
  | int j=>obtain ⟨t',rfl⟩:=ry;exact ne_int (bf I q (congrArg not xT))
  | str j=>obtain ⟨t',rfl⟩:=ry;exact PySem.EqMixed.ne_int_str (bf I q (by simp))
  | _=>exact absurd (show false=true from hs) Bool.false_ne_true
 | str i=>
  obtain ⟨t,rfl⟩:=rx
  cases y with
  | non=>cases ry;exact PySem.EqNone.ne_str_none (bf I q (by simp))
  | bl j=>cases ry;exact PySem.EqMixed.ne_str_bool (bf I q (by simp))
  | int j=>obtain ⟨t',rfl⟩:=ry;exact PySem.EqMixed.ne_str_int (bf I q (by simp))
  | str j=>obtain ⟨t',rfl⟩:=ry;exact ne_str (bf I q (congrArg not xr))
  | _=>exact absurd (show false=true from hs) Bool.false_ne_true
 | byt i=>
  obtain ⟨t,rfl⟩:=rx
  cases y with
  | byt j=>obtain ⟨t',rfl⟩:=ry;exact PySem.W.ne_bytes (bf I q (congrArg not w6))
  | _=>exact absurd (show false=true from hs) Bool.false_ne_true
 | _=>cases y <;> exact absurd (show false=true from hs) Bool.false_ne_true
theorem pL:b8 X (compareOp .Lt) (ut fun i j=>.bl (decide (i<j))):=xV fun _ _ _ _ _ _ _ q=>lt_int q
theorem uR:b8 X (compareOp .LtE) (ut fun i j=>.bl (decide (i≤j))):=xV fun _ _ _ _ _ _ _ q=>le_int q
theorem rB:b8 X (compareOp .Gt) (ut fun i j=>.bl (decide (j<i))):=xV fun _ _ _ _ _ _ _ q=>gt_int q
theorem uV:b8 X (compareOp .GtE) (ut fun i j=>.bl (decide (j≤i))):=xV fun _ _ _ _ _ _ _ q=>ge_int q
theorem zb:b8 X (compareOp .Is) (fun x y H Q=>y=.non∧Q (.bl (decide (x=.non))) H):=by
 intro pins s σ H x y v u Q I rx ry h
 obtain ⟨rfl,q⟩:=h
 cases ry
 refine is_none_gen (bf I q ?_)
 cases x <;> first
  | (cases rx;rfl)
  | (obtain ⟨t,rfl⟩:=rx;rfl)
theorem jJ (b:Expr) {op:CmpOp} (h:op≠.In:=by decide) (h2:op≠.NotIn:=by decide):behindInMarks op b=false:=by
 have e1:(op==CmpOp.In)=false:=by cases op <;> first | rfl | exact absurd rfl h
 have e2:(op==CmpOp.NotIn)=false:=by cases op <;> first | rfl | exact absurd rfl h2
 cases b <;> simp [behindInMarks,e1,e2]
theorem bY {op:CmpOp}{r:R2} (ho:b8 X (compareOp op) r) (ha:PE X a ta) (hb:PE X b tb) (hm:behindInMarks op b=false):PE X (.Compare a [op] [b] pos) (BI r ta tb):=by
 intro pins s σ H Q I h
 exact wpAny_Compare1 (Bk ha hb I h fun v u s2 x y H2 I2 rx ry q=>ho pins s2 σ H2 x y v u Q I2 rx ry q) hm
def Ci (t:TE):TT:=fun σ H Q=>t σ H fun x H'=>ss x fun k=>Q k H'
theorem aE {op:CmpOp}{r:R2} (ho:b8 X (compareOp op) r) (ha:PE X a ta) (hb:PE X b tb) (hm:behindInMarks op b=false):PT X (.Compare a [op] [b] pos) (Ci (BI r ta tb)):=by
 intro pins s σ H Q I h
 refine wpAny_isTrue_Compare1 (aK (ha pins s σ H _ I h) fun v s1 ⟨x,H1,I1,r1,q1⟩=>aK (hb pins s1 σ H1 _ I1 q1) fun u s2 ⟨y,H2,I2,r2,q2⟩=>
  aK (ho pins s2 σ H2 x y v u _ I2 r1 r2 q2) fun c s3 ⟨z,H3,I3,r3,k,e,q3⟩=>?_) hm
 subst e
 cases r3
 exact wpAny_truthy_bool ⟨H3,I3,q3⟩
def An (r r':R2) (ta tb tc:TE):TE:=fun σ H Q=>ta σ H fun x H1=>tb σ H1 fun y H2=>r x y H2 fun z H3=>ss z fun k=>
 (if k=true then tc σ H3 fun w' H4=>r' y w' H4 Q else Q (.bl false) H3)
theorem wK {op op':CmpOp}{r r':R2} (ho:b8 X (compareOp op) r) (ho':b8 X (compareOp op') r') (ha:PE X a ta) (hb:PE X b tb) (hc:PE X c tc)
 (hm:lastMarks [op,op'] [b,c]=false:=by with_unfolding_all rfl):PE X (.Compare a [op,op'] [b,c] pos) (An r r' ta tb tc):=by
 intro pins s σ H Q I h
 refine Compare_chain (aK (ha pins s σ H _ I h) fun v s1 ⟨x,H1,I1,r1,q1⟩=>chain_link (aK (hb pins s1 σ H1 _ I1 q1) fun u s2 ⟨y,H2,I2,r2,q2⟩=>
  aK (ho pins s2 σ H2 x y v u _ I2 r1 r2 q2) fun d s3 ⟨z,H3,I3,r3,k,e,q3⟩=>?_)) hm
 subst e
 cases r3
 refine wpAny_truthy_bool ?_
 cases k with
 | false=>exact ite_ff ⟨.bl false,H3,I3,rfl,q3⟩
 | true=>exact ite_tt (chain_last (aK (hc pins s3 σ H3 _ I3 q3) fun w' s4 ⟨z',H4,I4,r4,q4⟩=>ho' pins s4 σ H4 y z' u w' Q I4 r2 r4 q4))
theorem wj {op op':CmpOp}{r r':R2} (ho:b8 X (compareOp op) r) (ho':b8 X (compareOp op') r') (ha:PE X a ta) (hb:PE X b tb) (hc:PE X c tc)
 (hm:lastMarks [op,op'] [b,c]=false:=by with_unfolding_all rfl):PT X (.Compare a [op,op'] [b,c] pos) (Ci (An r r' ta tb tc)):=by
 intro pins s σ H Q I h
 refine isTrue_chain (aK (ha pins s σ H _ I h) fun v s1 ⟨x,H1,I1,r1,q1⟩=>test_link (aK (hb pins s1 σ H1 _ I1 q1) fun u s2 ⟨y,H2,I2,r2,q2⟩=>
  aK (ho pins s2 σ H2 x y v u _ I2 r1 r2 q2) fun d s3 ⟨z,H3,I3,r3,k,e,q3⟩=>?_)) hm
 subst e
 cases r3
 refine wpAny_truthy_bool ?_
 cases k with
 | false=>
  obtain ⟨k',e',q'⟩:=q3
  cases e'
  exact ite_ff ⟨H3,I3,q'⟩
 | true=>
  refine ite_tt (test_last (aK (hc pins s3 σ H3 _ I3 q3) fun w' s4 ⟨z',H4,I4,r4,q4⟩=>aK (ho' pins s4 σ H4 y z' u w' _ I4 r2 r4 q4) fun d' s5 ⟨z2,H5,I5,r5,k2,e2,q5⟩=>?_))
  subst e2
  cases r5
  exact wpAny_truthy_bool ⟨H5,I5,q5⟩
theorem oO:(sizeLine:Nat)<2 ^ 63:=by rw [sizeLine_eq];decide
theorem x9:b8 X (binaryOp .Add) (fun x y H Q=>aV fun i j=>x=.str i∧y=.str j∧i.length+j.length≤sizeLine∧Q (.str (i++j)) H):=by
 intro pins s σ H x y v u Q I rx ry h
 obtain ⟨i,j,rfl,rfl,hz,q⟩:=h
 obtain ⟨t,rfl⟩:=rx
 obtain ⟨t',rfl⟩:=ry
 exact add_str (fun t' tk=>⟨.str (i++j),H,I.tok _,⟨()⟩,q⟩) hz
theorem kf {x:V}{us:List Value} (r:aC [x] us):∃u,us=[u]∧aO x u:=by
 cases r with
 | cons r1 r2=>cases r2;exact ⟨_,rfl,r1⟩
theorem pE {x y:V}{us:List Value} (r:aC [x,y] us):aV fun u w'=>us=[u,w']∧aO x u∧aO y w':=by
 cases r with
 | cons r1 r2=>
  cases r2 with
  | cons r3 r4=>cases r4;exact ⟨_,_,rfl,r1,r3⟩
theorem jj:bU X (.builtin "abs") (fun xs H Q=>∃i,xs=[.int i]∧Q (.int (if i<0 then -i else i)) H):=by
 intro pins s σ H xs us Q I r h
 obtain ⟨i,rfl,q⟩:=h
 obtain ⟨u,rfl,t,rfl⟩:=kf r
 exact call_abs_int fun u tk=>⟨.int (if i<0 then -i else i),H,I.tok _,⟨()⟩,q⟩
theorem tU (hc:X.calm=true):bU X (.builtin "max") (fun xs H Q=>aV fun i j=>xs=[.int i,.int j]∧Q (.int (if j > i then j else i)) H):=by
 intro pins s σ H xs us Q I r h
 obtain ⟨i,j,rfl,q⟩:=h
 obtain ⟨u,w',rfl,⟨t,rfl⟩,⟨t',rfl⟩⟩:=pE r
 refine max_two_ints (I.ok.hd hc) fun h' tk k=>⟨_,H,I.kept k,?_,q⟩
 by_cases hj:j > i
 ·rw [if_pos hj,if_pos hj];exact ⟨()⟩
 ·rw [if_neg hj,if_neg hj];exact ⟨()⟩
theorem oX:bU X (.type "int") (fun xs H Q=>(∃i,xs=[.int i]∧Q (.int i) H)∨∃k,xs=[.bl k]∧Q (.int (if k then 1 else 0)) H):=by
 intro pins s σ H xs us Q I r h
 rcases h with ⟨i,rfl,q⟩ | ⟨k,rfl,q⟩
 ·obtain ⟨u,rfl,t,rfl⟩:=kf r
  exact call_int_int ⟨.int i,H,I,⟨()⟩,q⟩
 ·obtain ⟨u,rfl,r1⟩:=kf r
  cases r1
  exact call_int_bool ⟨.int (if k then 1 else 0),H,I.tok _,⟨()⟩,q⟩
theorem iS:bU X (.type "str") (fun xs H Q=>∃i,xs=[.int i]∧i.natAbs.log2<1920∧Q (.str (toString i)) H):=by
 intro pins s σ H xs us Q I r h
 obtain ⟨i,rfl,hz,q⟩:=h
 obtain ⟨u,rfl,t,rfl⟩:=kf r
 exact PySem.P.str_of_int hz ⟨.str _,H,I.tok _,⟨()⟩,q⟩
theorem wV:bU X (.builtin "divmod") (fun xs H Q=>aV fun i j=>xs=[.int i,.int j]∧Ey i j∧∀p,H p=none→Q (.ref p) (aL H p (.tup [.int (i / j),.int (i % j)]))):=by
 intro pins s σ H xs us Q I r h
 obtain ⟨i,j,rfl,⟨h1,h2⟩,q⟩:=h
 obtain ⟨u,w',rfl,⟨t,rfl⟩,⟨t',rfl⟩⟩:=pE r
 refine divmod_int (by trivial) ?_ (.inl (PyProof.noPylong_small (by trivial)))
 rw [Int.fdiv_eq_ediv_of_nonneg i (by trivial),Int.fmod_eq_emod_of_nonneg i (by trivial)]
 have hn:H s.heap.objs.size=none:=I.hok.fresh (Nat.le_refl _)
 refine ⟨.ref s.heap.objs.size,_,?_,rfl,q _ hn⟩
 refine I.laid (fun b o e=>Heap.get?_push_of_some _ e) (Nat.le_refl _) ⟨by simp only [List.length_cons,List.length_nil];rw [sizeLine_eq];decide,[.int (i / j) s.toks,.int (i % j) (s.toks+1)],.cons ⟨()⟩ (.cons ⟨()⟩ .nil),?_⟩
 exact ⟨⟨_,Heap.get?_push_size s.heap rfl,rfl,0,rfl⟩,_,Heap.get?_push_size s.heap rfl,rfl⟩
end
structure AL (h:Heap) (x dx C:Addr) (mA:Str→Option Value):Prop where
 obj:h.get? x=some (PySem.W.instObj C dx)
 ns:h.Ns1 dx mA
 ne:dx≠x
theorem tM {h:Heap}{dx:Addr}{mA:Str→Option Value} (n:h.Ns1 dx mA):∃od,h.get? dx=some od∧∀name,PySem.W.lookIn name od=some (mA name):=by
 obtain ⟨o,es,ep,ho,hd,hk,_,hm⟩:=n
 refine ⟨o,ho,fun name=>?_⟩
 have e:=hm name
 unfold nsFind findBy at e
 rw [←Array.find?_toList] at e
 unfold PySem.W.lookIn
 rw [hd]
 dsimp only
 split
 ·rename_i y q
  rw [q] at e
  exact congrArg some e
 ·rename_i q
  rw [q] at e
  have a:es.toList.any (·.refKey)=false:=by
   rw [List.any_eq_false]
   intro y hy
   obtain ⟨z,t,hkey⟩:=hk y (Array.mem_toList_iff.mp hy)
   simp [DictEntry.refKey,hkey]
  have a':¬es.toList.any (·.refKey)=true:=by rw [a];exact Bool.false_ne_true
  rw [if_neg a']
  exact congrArg some e
theorem AL.look {h:Heap}{x dx C:Addr}{mA:Str→Option Value} (I:AL h x dx C mA):∃od,PySem.W.InstAt h x (PySem.W.instObj C dx) C (some od)∧∀name,PySem.W.lookIn name od=some (mA name):=
 let ⟨od,ho,hl⟩:=tM I.ns
 ⟨od,⟨I.obj,rfl,rfl,ho⟩,hl⟩
section
variable {prog:Program}{w:World}{A:Around}{E:Value→Shared→Prop}{s:Shared}{K:PySem.W.Frag}{x dx C f:Addr}{mA:Str→Option Value}{name:Str}{v:Value}
end
theorem qN.some_of {v:V}{o:Option Value} (r:qN (some v) o):∃u,o=some u∧aO v u:=by
 cases o with
 | none=>exact (show False from r).elim
 | some u=>exact ⟨u,rfl,r⟩
theorem zi {v:V}{u:Value} (r:aO v u):PySem.W.handedIn u=true:=by
 cases v with
 | non=>cases (show u=Value.none from r);rfl
 | bl b=>cases (show u=Value.bool b from r);rfl
 | int i=>obtain ⟨t,e⟩:=(show ∃t,u=Value.int i t from r);cases e;rfl
 | str x=>obtain ⟨t,e⟩:=(show ∃t,u=Value.str x t from r);cases e;rfl
 | byt b=>obtain ⟨t,e⟩:=(show ∃t,u=Value.bytes b t from r);cases e;rfl
 | flt b=>obtain ⟨t,e⟩:=(show ∃t,u=Value.float b t from r);cases e;rfl
 | ref a=>cases (show u=Value.ref a from r);rfl
 | ty n=>cases (show u=Value.type n from r);rfl
section
variable {P:Program}{w:World}{H H':Hp}{h h':Heap}{a C dx:Addr}{fs fs':List (Str×V)}
theorem CO (hok:dc P w H h) (e:H a=some (.ins C dx fs)):∃mA,AL h a dx C mA∧(∀f,qN (fs.lookup f) (mA f))∧PySem.Within mA (fs.map (·.1))∧fs.length≤1000∧H dx=some (.own a):=by
 obtain ⟨d,z,ne,ob,mA,n,r,q⟩:=(show bc P w H h a (.ins C dx fs) from hok a _ e)
 exact ⟨mA,⟨ob,n,ne⟩,r,q,z,d⟩
end
structure FH (K:PySem.W.Frag) (C:Addr):Prop where
 pg:PySem.W.plainGet K C Str.empty=true
 hd:PySem.W.hasDictIn K C=true
 po:PySem.W.plainOver K C=true
 sa:PySem.W.findIn K (.ref C) "__setattr__" = some (some (.builtin "object.__setattr__"))
theorem FH.get {K:PySem.W.Frag}{C:Addr} (c:FH K C) (f:Str):PySem.W.plainGet K C f=true:=c.pg
section
variable {X:Cx}{pins:List (Addr×Obj)}{σ:St}{H:Hp}{s:Shared}{a C dx:Addr}{fs:List (Str×V)}{f:Str}{v:V}{A:Around}{E:Value→Shared→Prop}
theorem CL {prog:Program}{w:World}{env:Env}{e:Expr}{f:Str}{pos:Pos}{s:Shared}{Q:Value→Shared→Prop} (hb:attributeBase e f env (eval e env)=eval e env)
 (h:wpAny (model prog w) A (eval e env) (fun o s₁=>wpAny (model prog w) A (getAttr o f true) Q E s₁) E s):wpAny (model prog w) A (eval (.Attribute e f pos) env) Q E s:=
 Attribute_any_ h (by rw [arm_eval_Attribute,hb])
end
section
variable {X:Cx}{o e value:Expr}{f:Str}{pos pos' tpos:Pos}{ta tv:TE}
end
section
variable {X:Cx}{pins:List (Addr×Obj)}{σ:St}{H:Hp}{s:Shared}{A:Around}{E:Value→Shared→Prop}{Q:Value→Shared→Prop}{c:Value}{b:Bool}
inductive fX (K:PySem.W.Frag) (H:Hp):V→Value→Prop where
 | non:fX K H .non (.type "NoneType")
 | bl (x:Bool):fX K H (.bl x) (.type "bool")
 | int (i:Int):fX K H (.int i) (.type "int")
 | str (x:Str):fX K H (.str x) (.type "str")
 | flt (x:UInt64):fX K H (.flt x) (.type "float")
 | lst {a:Addr}{xs:List V} (e:H a=some (.lst xs)):fX K H (.ref a) (.type "list")
 | frz {a:Addr}{o:Obj}{xs:List V} (e:H a=some (.frz o (.lst xs))):fX K H (.ref a) (.type "list")
 | tup {a:Addr}{xs:List V} (e:H a=some (.tup xs)):fX K H (.ref a) (.type "tuple")
 | dK {a:Addr}{kvs:List (bz×V)} (e:H a=some (.dK kvs)):fX K H (.ref a) (.type "dict")
 | dT {a:Addr}{kvs:List (List bz×V)} (e:H a=some (.dT kvs)):fX K H (.ref a) (.type "dict")
 | ins {a C dx:Addr}{fs:List (Str×V)} (e:H a=some (.ins C dx fs)) (cl:FH K C) (ha:PySem.W.findIn K (.ref C) "__class__" = some (some (.builtin "object.__class__")))
  (hn:PySem.W.specialIn K (.builtin "object.__class__") "__get__" = some (some (.builtin "getset_descriptor.__get__"))) (htk:PySem.W.takesIn K (.builtin "object.__class__")=some true)
  (hm:PySem.W.mroIn K C (.type "object")=some true):fX K H (.ref a) (.ref C)
theorem yT {x:V}{u t:Value} (I:aa X pins σ H s) (rx:aO x u) (ty:fX X.K H x t) (e:PySem.W.kitOne X.K t c=some b) (h:∀tk,Q (.bool b) { s with toks:=tk }) :
 wpAny (model X.prog X.w) A (call (.builtin "isinstance") [u,c]) Q E s:=by
 cases ty with
 | non=>cases (show u=Value.none from rx);exact PySem.W.kia_one PySem.W.kitx_none I.kIn True.intro e (fun z=>nomatch z) h
 | bl y=>cases (show u=Value.bool y from rx);exact PySem.W.kia_one PySem.W.kitx_bool I.kIn True.intro e (fun z=>nomatch z) h
 | int i=>obtain ⟨t,q⟩:=(show ∃t,u=Value.int i t from rx);cases q;exact PySem.W.kia_one PySem.W.kitx_int I.kIn True.intro e (fun z=>nomatch z) h
 | str y=>obtain ⟨t,q⟩:=(show ∃t,u=Value.str y t from rx);cases q;exact PySem.W.kia_one PySem.W.kitx_str I.kIn True.intro e (fun z=>nomatch z) h
 | flt y=>obtain ⟨t,q⟩:=(show ∃t,u=Value.float y t from rx);cases q;exact PySem.W.kia_one PySem.W.kitx_float I.kIn True.intro e (fun z=>nomatch z) h
 | @lst a xs ea=>
  cases (show u=Value.ref a from rx)
  obtain ⟨_,_,n,_,h1⟩:=(show bc X.prog X.w H s.heap a (.lst xs) from I.hok a _ ea)
  exact PySem.W.kia_one PySem.W.kitx_list I.kIn ⟨_,h1,rfl⟩ e (fun z=>nomatch z) h
 | @frz a ob xs ea=>
  cases (show u=Value.ref a from rx)
  obtain ⟨_,_,_,n,_,h1⟩:=(show bc X.prog X.w H s.heap a (.frz ob (.lst xs)) from I.hok a _ ea)
  exact PySem.W.kia_one PySem.W.kitx_list I.kIn ⟨_,h1,rfl⟩ e (fun z=>nomatch z) h
 | @tup a xs ea=>
  cases (show u=Value.ref a from rx)
  obtain ⟨_,_,_,p,_⟩:=(show bc X.prog X.w H s.heap a (.tup xs) from I.hok a _ ea)
  obtain ⟨o,h1,h2,_⟩:=p
  exact PySem.W.kia_one PySem.W.kitx_tuple I.kIn ⟨o,h1,h2⟩ e (fun z=>nomatch z) h
 | @dK a kvs ea=>
  cases (show u=Value.ref a from rx)
  obtain ⟨_,_,vs,_,p⟩:=(show bc X.prog X.w H s.heap a (.dK kvs) from I.hok a _ ea)
  obtain ⟨o,es,ep,h1,h2,_⟩:=p
  exact PySem.W.kia_one PySem.W.kitx_dict I.kIn ⟨o,h1,h2.1⟩ e (fun z=>nomatch z) h
 | @dT a kvs ea=>
  cases (show u=Value.ref a from rx)
  obtain ⟨_,_,xs,_,o,es,ep,h1,h2,_⟩:=(show bc X.prog X.w H s.heap a (.dT kvs) from I.hok a _ ea)
  exact PySem.W.kia_one PySem.W.kitx_dict I.kIn ⟨o,h1,h2.1⟩ e (fun z=>nomatch z) h
 | @ins a C dx fs ea cl ha hn htk hm=>
  cases (show u=Value.ref a from rx)
  obtain ⟨mA,O,_⟩:=CO I.hok ea
  obtain ⟨od,J,_⟩:=O.look
  exact PySem.W.kia_one (PySem.W.kitx_own (cl.get _) cl.hd ha hn htk hm) I.kIn J e (fun z=>nomatch z) h
end
structure cy (k:Nat) (A:Around):Prop where
 hd:A.handled=none
 dp:A.depth+3*k+5<recursionLimit
 un:A.units+16*k+200<cLine
 gd:A.guards=some []
theorem cy.mono {j k:Nat}{A:Around} (r:cy k A) (h:j≤k):cy j A:=⟨r.hd,by have:=r.dp;trivial,by have:=r.un;trivial,r.gd⟩
theorem cy.deeper {k:Nat}{A:Around} (r:cy (k+1) A) (env:Env):cy k (A.deeper env):=
 ⟨r.hd,by have:=r.dp;show A.depth+1+3*k+5<_;trivial,by have:=r.un;show A.units+3+16*k+200<_;trivial,r.gd⟩
theorem yC {A:Around}{C:Addr}{us:List Value}{kw:List (Str×Value)}:(A.under (.builtin "type.__call__" ⟨.ref C :: us,kw⟩)).depth=A.depth+1:=by
 first | rfl | simp [Around.under,Code.weight,Code.isCreation,Code.isGuard,Code.isCaller,Code.frames,Code.isFrame,guardIds]
theorem yA {A:Around}{C:Addr}{us:List Value}{kw:List (Str×Value)}:(A.under (.builtin "type.__call__" ⟨.ref C :: us,kw⟩)).units=A.units+1:=by
 first | rfl | simp [Around.under,Code.cUnits,Code.frames,Code.isFrame]
theorem cy.make {k:Nat}{A:Around} (r:cy (k+1) A) (C:Addr) (us:List Value) (kw:List (Str×Value)):cy k (A.under (.builtin "type.__call__" ⟨.ref C :: us,kw⟩)):=
 ⟨r.hd,by have:=r.dp;rw [yC];trivial,by have:=r.un;rw [yA];trivial,r.gd⟩
theorem cy.depth {k:Nat}{A:Around} (r:cy k A):A.depth<recursionLimit:=by have:=r.dp;trivial
theorem cy.units {k:Nat}{A:Around} (r:cy k A):A.units+64<cLine:=by have:=r.un;trivial
def Fn:TA:=fun _ H Q=>Q [] H
def uQ (ta:TE) (tr:TA):TA:=fun σ H Q=>ta σ H fun x H1=>tr σ H1 fun xs H2=>Q (x :: xs) H2
section
variable {X:Cx}{e:Expr}{es:List Expr}{te:TE}{t:TA}{pos:Pos}
theorem bE:PA X [] Fn:=fun _ _ _ _ H Q I h=>Calls.spliced_nil ⟨[],H,I,.nil,h⟩
theorem br (ha:PE X e te) (hr:PA X es t) (hs:starEach (e :: es) X.env=(false,eval e X.env) :: starEach es X.env:=by rfl):PA X (e :: es) (uQ te t):=by
 intro pos pins s σ H Q I h
 rw [hs]
 show wpAny _ _ (spliced ((false,eval e X.env) :: backTo pos (starEach es X.env))) _ _ s
 refine Calls.spliced_cons (aK (ha pins s σ H _ I h) fun u s1 ⟨x,H1,I1,r1,q1⟩=>?_)
 exact aK (hr pos pins s1 σ H1 _ I1 q1) fun us s2 ⟨xs,H2,I2,r2,q2⟩=>⟨x :: xs,H2,I2,.cons r1 r2,q2⟩
def Iq (t:TA):TE:=fun σ H Q=>t σ H fun xs H1=>xs.length≤sizeLine∧∀p,H1 p=none→Q (.ref p) (aL H1 p (.lst xs))
theorem Ff (h:PA X es t):PE X (.List es pos) (Iq t):=by
 intro pins s σ H Q I hq
 refine wpAny_List_spliced (aK (h pos pins s σ H _ I hq) fun us s1 ⟨xs,H1,I1,r,z,q⟩=>⟨by rw [←r.length];exact z,?_⟩)
 have hf:H1 s1.heap.objs.size=none:=I1.hok.fresh (Nat.le_refl _)
 refine ⟨.ref s1.heap.objs.size,aL H1 s1.heap.objs.size (.lst xs),I1.laid (t':=s1.toks) (fun b u e=>Heap.get?_push_of_some _ e) (Nat.le_refl _) ?_,rfl,q _ hf⟩
 exact ⟨z,us,0,r,Heap.get?_push_size _ rfl⟩
end
abbrev Sp:=List V→Hp→VK→XK→Prop
abbrev jL:=List Env→Hp→Shared→XK→Value→Shared→Prop
structure qO (P:Program) (w:World) (K:PySem.W.Frag) (mg:Str→Option Value) (base:Heap) (A:Around) (outer:List Env) (s:Shared) (H:Hp):Prop where
 frames:A.frames=some outer
 mod:Mod K mg base
 bs:∀b o,base.get? b=some o→s.heap.get? b=some o∧H b=none
 bsz:base.objs.size≤s.heap.objs.size
 funs:s.heap.FunFrames base outer
 frf:∀b∈gU outer,H b=none
 hok:dc P w H s.heap
 bare:AllBare s.gens
def CE (outer:List Env) (P:Program) (w:World) (H:Hp) (s:Shared) (Q:VK) (u:Value) (s':Shared):Prop:=
 aV fun v H'=>s'.os=s.os∧AllBare s'.gens∧Un (gU outer) [] H H' s.heap s'.heap∧dc P w H' s'.heap∧aO v u∧Q v H'
def CR (CX:jL) (outer:List Env) (P:Program) (w:World) (H:Hp) (s:Shared) (Q:VK) (E:XK) (r:Result) (s':Shared):Prop:=
 match r with
 | .ok (.ret u)=>CE outer P w H s Q u s'
 | .ok _=>False
 | .error e=>CX outer H s E e s'
structure aZ (P:Program) (w:World) (K:PySem.W.Frag) (mg:Str→Option Value) (base:Heap) (CX:jL) (k:Nat) (f:Addr) (fd:FuncData) (ps:List Str) (sp:Sp):Prop where
 len:∀vs H Q E,sp vs H Q E→vs.length=ps.length
 run:∀(A:Around) (outer:List Env) (s:Shared) (H:Hp) (args:Args) (us:List Value) (vs:List V) (Q:VK) (E:XK),cy k A→qO P w K mg base A outer s H→BindsTo s fd args (ps.zip us)→aC vs us→sp vs H Q E→
  codeAny (model P w) A (.call (.ref f) args) (CR CX outer P w H s Q E) s
theorem qO.make {P:Program}{w:World}{K:PySem.W.Frag}{mg:Str→Option Value}{base:Heap}{A:Around}{outer:List Env}{s:Shared}{H:Hp} (e:qO P w K mg base A outer s H) (C:Addr) (us:List Value) (kw:List (Str×Value)) :
 qO P w K mg base (A.under (.builtin "type.__call__" ⟨.ref C :: us,kw⟩)) outer s H:=⟨by first | exact e.frames | (simpa [Around.under,Code.envs,Code.isFrame,pushEnvs] using e.frames),e.mod,e.bs,e.bsz,e.funs,e.frf,e.hok,e.bare⟩
section
variable {X:Cx}{pins:List (Addr×Obj)}{σ:St}{H:Hp}{s s':Shared}
theorem aa.env0 (I:aa X pins σ H s):qO X.prog X.w X.K X.mg X.base X.A X.stack s H:=
 ⟨I.ok.frames,I.ok.mod,I.bs,Nat.le_trans I.ok.bsz I.sz,I.stack,I.stkFree,I.hok,I.bare⟩
theorem aa.after {Q:VK}{u:Value} (I:aa X pins σ H s) (h:CE X.stack X.prog X.w H s Q u s'):EP X pins σ Q u s':=by
 obtain ⟨v,H',os,bare,un,hok,r,q⟩:=h
 obtain ⟨hh,g,d,t,os'⟩:=s'
 obtain rfl:os'=s.os:=os
 exact ⟨v,H',I.call (h':=hh) (g':=g) (d':=d) (t':=t) (ch:=[]) un hok bare (fun b z=>absurd z (by simp)),r,q⟩
end
def Gn (sp:Sp) (dvs:List V) (E:XK) (t:TA):TE:=fun σ H Q=>t σ H fun vs H1=>sp (vs++dvs) H1 Q E
def fM (K:PySem.W.Frag) (fd:FuncData) (ps:List Str) (ds:List Value):Prop:=
 ∀(s:Shared) (us:List Value),K.In s.heap→(us++ds).length=ps.length→BindsTo s fd ⟨us,[]⟩ (ps.zip (us++ds))
theorem fM.all {K:PySem.W.Frag}{fd:FuncData}{ps:List Str} (h:∀us:List Value,us.length=ps.length→bindArgs fd ⟨us,[]⟩=pure (ps.zip us)):fM K fd ps []:=fun s us _ hl=>by
 rw [List.append_nil] at hl ⊢
 exact .of_eq (h us hl)
def vH (CX:jL) (X:Cx) (E:XK):Prop:=∀(pins:List (Addr×Obj)) (σ:St) (H:Hp) (s:Shared) (e:Value) (s':Shared),aa X pins σ H s→CX X.stack H s E e s'→X.xe e s'
section
variable {X:Cx}{CX:jL}{k:Nat}{f C:Addr}{fd:FuncData}{ps:List Str}{sp:Sp}{dvs:List V}{ds:List Value}{E:XK}{x m:Str}{p pos apos:Pos}{e o:Expr}{es:List Expr}{ta:TE}{t:TA}
theorem Fl {pins:List (Addr×Obj)}{σ:St}{H:Hp}{s:Shared}{Q:VK}{us:List Value}{vs:List V} (F:aZ X.prog X.w X.K X.mg X.base CX k f fd ps sp) (hr:cy k X.A) (hb:fM X.K fd ps ds) (hd:aC dvs ds) (hx:vH CX X E)
 (I:aa X pins σ H s) (r:aC vs us) (h:sp (vs++dvs) H Q E):wpAny (model X.prog X.w) X.A (call (.ref f) us) (EP X pins σ Q) X.xe s:=by
 have r2:aC (vs++dvs) (us++ds):=r.append hd
 have hl:(us++ds).length=ps.length:=by rw [←r2.length];exact F.len _ _ _ _ h
 refine wpAny_call (codeAny_mono (F.run X.A X.stack s H ⟨us,[]⟩ (us++ds) (vs++dvs) Q E hr I.env0 (hb s us I.kIn hl) r2 h) fun r s' hq=>?_)
 cases r with
 | error e=>exact hx pins σ H s e s' I hq
 | ok fl=>
  cases fl with
  | ret u=>exact I.after hq
  | next=>exact False.elim hq
  | brk=>exact False.elim hq
  | cont=>exact False.elim hq
theorem ko (F:aZ X.prog X.w X.K X.mg X.base CX k f fd ps sp) (hr:cy k X.A) (hg:Gl X x) (hm:X.mg x=some (.ref f)) (hk:PySem.W.keepIn X.K (.ref f)=true) (hb:fM X.K fd ps ds) (hd:aC dvs ds) (hx:vH CX X E)
 (ha:PA X (e :: es) t) (hdb:(x==("__debug__" : Str))=false:=by decide) (he:starEach (e :: es) X.env=(false,eval e X.env) :: starEach es X.env:=by rfl) (hpl:(backTo pos (starEach es X.env)).any (·.1)=false:=by rfl) :
 PE X (.Call (.Name x p) (e :: es) [] pos) (Gn sp dvs E t):=by
 intro pins s σ H Q I h
 refine wpAny_Call_Name_kw (km I hg hm ?_ hdb)
 refine PySem.W.callWith_K (h₀:=X.base) I.ok.mod.kin hk (aK (ha pos pins s σ H _ I h) fun us s1 ⟨vs,H1,I1,r,q⟩=>⟨I1.kIn,?_⟩) he hpl
 exact Fl F hr hb hd hx I1 r q
end
section
variable {X:Cx}{CX:jL}{k:Nat}{f C:Addr}{fd:FuncData}{ps ks:List Str}{sp:Sp}{E:XK}{x m:Str}{p pos apos kpos:Pos}{e o:Expr}{es:List Expr}{kws:List Keyword}{te ta:TE}{t tk:TA}{nm:Option Str}
variable {g:List Value→List Value→List Value}{gV:List V→List V→List V}
end
structure aF (N P:List Str) (sc:Scope):Prop where
 kind:sc.kind=.function
 co:sc.isCoroutine=false
 gen:sc.isGenerator=false
 nd:N.Nodup
 pre:N.take P.length=P
 par:∀x∈P,sc.names.lookup x=some .local∨sc.names.lookup x=some .cell
 nofree:∀y∈sc.names,y.2≠.free
theorem uf {kindOf:Str→Option NameKind}{x:Str}:∀{binds:List (Str×Value)}{m:Str→Option Value},(∀v,(x,v)∉binds)→bindL kindOf binds m x=m x
 | [],_,_=>rfl
 | (n,v) :: r,m,h=>by
  unfold bindL
  rw [uf fun w hw=>h w (List.mem_cons_of_mem _ hw)]
  split
  ·have:x≠n:=by rintro rfl;exact h v List.mem_cons_self
   simp [this]
  ·rfl
theorem ug {kindOf:Str→Option NameKind}{x:Str}:∀{binds:List (Str×Value)}{m:Str→Option Value},(∀v,(x,v)∉binds)→bindC kindOf binds m x=m x
 | [],_,_=>rfl
 | (n,v) :: r,m,h=>by
  unfold bindC
  rw [ug fun w hw=>h w (List.mem_cons_of_mem _ hw)]
  split
  ·rfl
  ·have:x≠n:=by rintro rfl;exact h v List.mem_cons_self
   simp [this]
theorem tQ {kindOf:Str→Option NameKind}{x:Str}{v:Value}:∀{P:List Str}{vs:List Value}{i:Nat}{m:Str→Option Value},P.Nodup→P[i]?=some x→vs[i]?=some v→kindOf x=some .local→
 bindL kindOf (P.zip vs) m x=some v
 | [],_,_,_,_,h,_,_=>by simp at h
 | _ :: _,[],_,_,_,_,h,_=>by simp at h
 | p :: P,w :: vs,0,m,nd,h1,h2,hk=>by
  simp at h1 h2;subst h1;subst h2
  show bindL kindOf ((p,w) :: P.zip vs) m p=_
  unfold bindL
  rw [uf fun v hv=>(List.nodup_cons.mp nd).1 (List.of_mem_zip hv).1,if_pos hk]
  simp
 | p :: P,w :: vs,i+1,m,nd,h1,h2,hk=>by
  show bindL kindOf ((p,w) :: P.zip vs) m x=_
  unfold bindL
  exact tQ (i:=i) (List.nodup_cons.mp nd).2 (by simpa using h1) (by simpa using h2) hk
theorem tK {kindOf:Str→Option NameKind}{x:Str}{v:Value}:∀{P:List Str}{vs:List Value}{i:Nat}{m:Str→Option Value},P.Nodup→P[i]?=some x→vs[i]?=some v→kindOf x≠some .local→
 bindC kindOf (P.zip vs) m x=some v
 | [],_,_,_,_,h,_,_=>by simp at h
 | _ :: _,[],_,_,_,_,h,_=>by simp at h
 | p :: P,w :: vs,0,m,nd,h1,h2,hk=>by
  simp at h1 h2;subst h1;subst h2
  show bindC kindOf ((p,w) :: P.zip vs) m p=_
  unfold bindC
  rw [ug fun v hv=>(List.nodup_cons.mp nd).1 (List.of_mem_zip hv).1,if_neg hk]
  simp
 | p :: P,w :: vs,i+1,m,nd,h1,h2,hk=>by
  show bindC kindOf ((p,w) :: P.zip vs) m x=_
  unfold bindC
  exact tK (i:=i) (List.nodup_cons.mp nd).2 (by simpa using h1) (by simpa using h2) hk
def jB (N:List Str) (vs:List V):St:=vs.map some++List.replicate (N.length - vs.length) none
def oC (CX:jL) (P:Program) (w:World) (K:PySem.W.Frag) (mg:Str→Option Value) (base:Heap) (N:List Str) (qual:Str) (scope:Scope) (f:Addr) (cd:Value) (A:Around) (outer:List Env) (s:Shared) (H:Hp) (E:XK):Cx where
 prog:=P
 w:=w
 K:=K
 mg:=mg
 base:=base
 A:=A.deeper (envOfC qual scope s.heap.objs.size f cd)
 N:=N
 s₀:=s
 H₀:=H
 env:=envOfC qual scope s.heap.objs.size f cd
 outer:=outer
 stack:=envOfC qual scope s.heap.objs.size f cd :: outer
 ex:=[]
 calm:=true
 fn:=fun _=>true
 pn:=[]
 xe:=fun e s'=>wpAny (model P w) (A.deeper (envOfC qual scope s.heap.objs.size f cd)) (leaving (envOfC qual scope s.heap.objs.size f cd) e) (fun _ s''=>CX outer H s E e s'') (fun e' s''=>CX outer H s E e' s'') s'
theorem vY {sc:Scope}{n:Nat}{x:Str} (h:sc.names.lookup x=some .cell):∃c,(cellsFrom n sc.names []).lookup x=some c:=by
 have q:=PySem.W.cellsFrom_some sc.names n [] (.inl h)
 exact Option.isSome_iff_exists.mp q
theorem yX {CX:jL}{P:Program}{w:World}{K:PySem.W.Frag}{mg:Str→Option Value}{base:Heap}{N ps:List Str}{qual:Str}{scope:Scope}{f:Addr}{cd:Value}{A:Around}{outer:List Env}{s s1:Shared}{H:Hp}{E:XK}{us:List Value}{vs:List V}
 (S:aF N ps scope) (hd:A.handled=none) (e0:qO P w K mg base A outer s H) (hl:vs.length=ps.length) (r:aC vs us)
 (x:InCallC s s.heap.objs.size (bindL (envOfC qual scope s.heap.objs.size f cd).kindOf (ps.zip us) fun _=>none) (cellsFrom (s.heap.objs.size+1) scope.names []) (bindC (envOfC qual scope s.heap.objs.size f cd).kindOf (ps.zip us) fun _=>none) s1) :
 aa (oC CX P w K mg base N qual scope f cd A outer s H E) [] (jB N vs) H s1:=by
 have hpl:ps.length≤N.length:=by have:=congrArg List.length S.pre;rw [List.length_take] at this;trivial
 obtain ⟨h1,tk,rfl,hk⟩:=x.done
 have noA:∀b:Addr,b∉(oC CX P w K mg base N qual scope f cd A outer s H E).ex:=fun b z=>absurd (show b∈([]:List Addr) from z) (by simp)
 refine ⟨⟨e0.mod,S.kind,rfl,rfl,Nat.le_refl _,fun y z c h1 h2=>?_,fun y hy=>?_,fun y c _ h=>?_,fun _=>hd,Around.frames_deeper e0.frames,.inr ⟨rfl,rfl⟩,fun b z=>absurd z (noA b),e0.bs,e0.bsz,fun b _ _=>noA b,fun b z=>absurd z (noA b),e0.funs,e0.frf⟩,
  rfl,e0.bare,Un.kept hk,⟨_,x.toInCall.ns,fun i y v h1 h2 h3=>?_⟩,fun y c h=>⟨_,x.cell y c h⟩,e0.hok.fresh (Nat.le_refl _),fun y c h=>?_,fun p hp=>absurd (show p∈([]:List (Addr×Obj)) from hp) (by simp),e0.hok.kept hk,?_⟩
 ·exact name_of_addr x.apart (PySem.mem_of_lookup h1) (PySem.mem_of_lookup h2)
 ·have hy:scope.names.lookup y=some .cell∨scope.names.lookup y=some .free:=hy
  rcases hy with hy | hy
  ·exact vY hy
  ·exact absurd rfl (S.nofree _ (PySem.mem_of_lookup hy))
 ·exact Nat.le_of_lt (x.above y c (PySem.mem_of_lookup h))
 ·have hi:i<vs.length:=by
   unfold jB at h2
   by_cases hi:i<vs.length
   ·exact hi
   ·rw [List.getElem?_append_right (by simpa using hi)] at h2
    rw [List.getElem?_replicate] at h2
    split at h2 <;> cases h2
  have ha:vs[i]?=some v:=by
   unfold jB at h2
   rw [List.getElem?_append_left (by simpa using hi),List.getElem?_map] at h2
   cases e:vs[i]? with
   | none=>rw [e] at h2;cases h2
   | some a=>rw [e] at h2;cases h2;rfl
  obtain ⟨u,hu,rv⟩:=r.get ha
  have hp:ps[i]?=some y:=by
   rw [←S.pre,List.getElem?_take_of_lt (by trivial)];exact h1
  have ndP:ps.Nodup:=by rw [←S.pre];exact S.nd.sublist (List.take_sublist _ _)
  refine ⟨u,rv,?_⟩
  rcases S.par y (List.mem_of_getElem? hp) with k | k
  ·exact .inl ⟨k,tQ ndP hp hu k⟩
  ·obtain ⟨c,e⟩:=vY (n:=s.heap.objs.size+1) k
   refine .inr ⟨.inl k,c,e,?_⟩
   have q:=x.cell y c e
   rw [tK ndP hp hu (by show scope.names.lookup y≠_;rw [k];decide)] at q
   exact q
 ·exact e0.hok.fresh (Nat.le_of_lt (x.above y c (PySem.mem_of_lookup h)))
 ·unfold jB
  show _=N.length
  rw [List.length_append,List.length_map,List.length_replicate]
  trivial
theorem BC {CX:jL}{P:Program}{w:World}{K:PySem.W.Frag}{mg:Str→Option Value}{base:Heap}{k:Nat}{f:Addr}{name qual:Str}{params:Arguments}{body:List Stmt}{scope:Scope}{dV kV doc pm cdv ct oc:Value}{an od:Option Addr}
 {osl:Array (Option Value)}{N ps:List Str}{sp:Sp} (lk:K.lookup f=some ⟨oc,od,.func (PySem.W.fnOf name qual params body scope dV kV doc pm an cdv ct),osl⟩) (hcd:PySem.W.codeIn K cdv qual=true) (S:aF N ps scope)
 (len:∀vs H Q E,sp vs H Q E→vs.length=ps.length)
 (hbody:∀(A:Around) (outer:List Env) (s:Shared) (H:Hp) (vs:List V) (Q:VK) (E:XK),cy k (A.deeper (envOfC qual scope s.heap.objs.size f cdv))→sp vs H Q E→
  ∃t,j8 (oC CX P w K mg base N qual scope f cdv A outer s H E) body t∧t { nx:=fun _ H'=>Q .non H',rt:=Q } (jB N vs) H) :
 aZ P w K mg base CX (k+1) f (PySem.W.fnOf name qual params body scope dV kV doc pm an cdv ct) ps sp:=by
 refine ⟨len,fun A outer s H args us vs Q E hr e0 hb r hsp=>?_⟩
 have hl:=len _ _ _ _ hsp
 have KX:K.In s.heap:=e0.mod.kin.keeps fun b o e=>(e0.bs b o e).1
 have lim:s.heap.NoLimit:=e0.mod.nolimit.keeps fun b o e=>(e0.bs b o e).1
 have hkind:∀y∈ps.zip us,scope.names.lookup y.1=some .local∨(scope.names.lookup y.1=some .cell∧((cellsFrom (s.heap.objs.size+1) scope.names []).lookup y.1).isSome=true):=fun ⟨n,v⟩ hy=>by
  rcases S.par n (List.of_mem_zip hy).1 with q | q
  ·exact .inl q
  ·exact .inr ⟨q,PySem.W.cellsFrom_some _ _ _ (.inl q)⟩
 refine codeAny_call_function hr.depth (KX _ _ lk) rfl S.co S.gen rfl (PySem.W.codeRec_of KX hcd) (hb _ _ _ _ ?_)
 refine wpAny_newFunctionEnv_cells S.kind hkind fun env he s1 x=>?_
 subst he
 refine ⟨lim.keeps x.toInCall.keep,codeAny_func ?_⟩
 obtain ⟨t,ht,hq⟩:=hbody A outer s H vs Q E (hr.deeper _) hsp
 have I:aa (oC CX P w K mg base N qual scope f cdv A outer s H E) [] (jB N vs) H s1:=yX S hr.hd e0 hl r x
 refine wpAny_mono (ht [] s1 (jB N vs) H _ I hq) (fun fl s' hs=>?_) fun e s' hs=>hs
 have fin:∀{σ':St}{H':Hp}{v:V}{u:Value},aa (oC CX P w K mg base N qual scope f cdv A outer s H E) [] σ' H' s'→aO v u→Q v H'→CE outer P w H s Q u s':=
  fun {σ' H' v u} J rv q=>⟨v,H',J.os,J.bare,J.base,J.hok,rv,q⟩
 cases fl with
 | ret u=>
  obtain ⟨v,σ',H',J,rv,q⟩:=hs
  exact fin J rv q
 | next=>
  obtain ⟨σ',H',J,q⟩:=hs
  exact fin (v:=V.non) (u:=Value.none) J rfl q
 | brk=>
  obtain ⟨_,_,_,q⟩:=hs
  exact False.elim q
 | cont=>
  obtain ⟨_,_,_,q⟩:=hs
  exact False.elim q
end L2
namespace L2
open PySem PySem.Spec PyProof.Rows
section
variable {X:Cx}{x:Str}{p pos:Pos}{e:Expr}{es:List Expr}{t:TA}{id T:String}{r:List V→Hp→VK→Prop}
def Ea (r:List V→Hp→VK→Prop) (t:TA):TE:=fun σ H Q=>t σ H fun vs H1=>r vs H1 Q
theorem eV (hc:bU X (.builtin id) r) (hg:Gl X x) (hm:X.mg x=none) (hv:bootBuiltins x=some (.builtin id)) (ha:PA X (e :: es) t) (hn:x≠"__name__" := by decide) (hdb:(x==("__debug__" : Str))=false:=by decide)
 (he:starEach (e :: es) X.env=(false,eval e X.env) :: starEach es X.env:=by rfl) (hpl:(backTo pos (starEach es X.env)).any (·.1)=false:=by rfl):PE X (.Call (.Name x p) (e :: es) [] pos) (Ea r t):=by
 intro pins s σ H Q I h
 refine wpAny_Call_Name_kw (gy I hg hm hv ?_ hn hdb)
 exact PyProof.Rows.callWith_builtin1 (aK (ha pos pins s σ H _ I h) fun us s1 ⟨vs,H1,I1,r1,q1⟩=>hc pins s1 σ H1 vs us Q I1 r1 q1) he hpl
theorem be (hc:bU X (.type T) r) (hg:Gl X x) (hm:X.mg x=none) (hv:bootBuiltins x=some (.type T)) (ha:PA X (e :: es) t) (hn:x≠"__name__" := by decide) (hdb:(x==("__debug__" : Str))=false:=by decide)
 (he:starEach (e :: es) X.env=(false,eval e X.env) :: starEach es X.env:=by rfl) (hpl:(backTo pos (starEach es X.env)).any (·.1)=false:=by rfl):PE X (.Call (.Name x p) (e :: es) [] pos) (Ea r t):=by
 intro pins s σ H Q I h
 refine wpAny_Call_Name_kw (gy I hg hm hv ?_ hn hdb)
 exact PyProof.Rows.callWith_type1 (aK (ha pos pins s σ H _ I h) fun us s1 ⟨vs,H1,I1,r1,q1⟩=>hc pins s1 σ H1 vs us Q I1 r1 q1) he hpl
end
end L2
namespace HT
open PySem PyProof.Rows
section
open PySem.SeqAt
open PySem.AutoSeq1 (wpAny_loadPart')
open PySem.MeetsSeq PySem.MeetsSeq2 PySem.MeetsSeq3
end
section
variable {prog:Program}{w:World}{A:Around}{E:Value→Shared→Prop}{s:Shared}
theorem cat_tup {t b:Addr}{vs ws:List Value}{Q:Value→Shared→Prop} (ht:IsTup s.heap t vs.toArray) (hb:IsTup s.heap b ws.toArray) (hv:vs≠[])
 (h1:ws=[]→Q (.ref t) s) (h2:ws≠[]→Q (.ref s.heap.objs.size) { s with heap:=s.heap.push { cls:=.type "tuple",data:=.seq (vs++ws).toArray } })
 (hsz:vs.length+ws.length≤sizeLine):wpAny (model prog w) A (binaryOp .Add (.ref t) (.ref b)) Q E s:=by
 obtain ⟨⟨cls,dd,data,sl⟩,ho,hc,n,hd⟩:=id ht
 obtain ⟨⟨cls2,dd2,data2,sl2⟩,ho2,hc2,n2,hd2⟩:=id hb
 simp only at hc hd hc2 hd2
 subst hc hd hc2 hd2
 have e:vs.toArray++ws.toArray=(vs++ws).toArray:=by simp
 by_cases hw:ws=[]
 ·exact concat_meets ⟨_,ho,rfl⟩ ⟨_,ho2,rfl⟩ noFill_tuple_add seq_tuple_add PySem.F.slot_tuple_add PySem.F.entry_tuple_add (PySem.F.args_tuple_add_2 _ _)
   (tuple_addW1 t b vs.toArray ws.toArray n n2 dd dd2 sl sl2 (by simpa using hv) (by simp [hw])) ⟨ho,ho2,h1 hw⟩
 ·refine concat_meets ⟨_,ho,rfl⟩ ⟨_,ho2,rfl⟩ noFill_tuple_add seq_tuple_add PySem.F.slot_tuple_add PySem.F.entry_tuple_add (PySem.F.args_tuple_add_2 _ _)
   (tuple_addW2 t b vs.toArray ws.toArray n n2 dd dd2 sl sl2 (by simpa using hv) (by simpa using hw) (by rw [List.size_toArray,List.size_toArray];exact hsz)) ⟨ho,ho2,?_⟩
  rw [e]
  exact h2 hw
def sIx (n d:Nat):Option Int→Nat
 | none=>d
 | some v=>if v<0 then (v+(n:Int)).toNat else min v.toNat n
theorem sIx_none (n d:Nat):sIx n d none=d:=rfl
theorem sIx_nat (n d k:Nat):sIx n d (some (k:Int))=min k n:=by
 show (if (k:Int)<0 then ((k:Int)+(n:Int)).toNat else min (k:Int).toNat n)=min k n
 rw [if_neg (by trivial),Int.toNat_natCast]
theorem FU (n d:Nat) (hd:d≤n) (o:Option Int):sIx n d o≤n:=by
 cases o with
 | none=>exact hd
 | some v=>
  show (if v<0 then (v+(n:Int)).toNat else min v.toNat n)≤n
  by_cases hv:v<0
  ·rw [if_pos hv];trivial
  ·rw [if_neg hv];exact Nat.min_le_right _ _
theorem xF (v:Int) (n d:Nat):(if v<0 then max (v+(n:Int)) 0 else min v (n:Int))=((sIx n d (some v):Nat):Int):=by
 show (if v<0 then max (v+(n:Int)) 0 else min v (n:Int))=(((if v<0 then (v+(n:Int)).toNat else min v.toNat n):Nat):Int)
 by_cases hv:v<0
 ·simp only [if_pos hv];trivial
 ·simp only [if_neg hv];trivial
theorem yg (lo hi:Option Int) (n:Nat):Builtin.Slice.sliceAdjust lo hi 1 (n:Int)=(((sIx n 0 lo:Nat):Int),((sIx n n hi:Nat):Int)):=by
 have h1:¬((1:Int)<0):=by trivial
 unfold Builtin.Slice.sliceAdjust
 simp only [h1,if_false]
 refine Prod.ext ?_ ?_
 ·cases lo with
  | none=>rfl
  | some v=>exact xF v n 0
 ·cases hi with
  | none=>rfl
  | some v=>exact xF v n n
theorem yq (i j:Nat):Builtin.Slice.slicePlaces (i:Int) (j:Int) 1=j - i:=by
 unfold Builtin.Slice.slicePlaces
 have h1:(1:Int) > 0:=by trivial
 simp only [h1,if_true,Int.ediv_one]
 split <;> trivial
theorem mG {v:Value}{o:Option Int}{Q:Option Int→Shared→Prop} (p:IsPart v o) (h:Q o s):wpAny (model prog w) A (Builtin.Slice.slicePartIndex v) Q E s:=by
 cases p with
 | none=>exact slicePart_none h
 | int i t=>exact slicePart_int h
theorem kR {sl:Addr}{vl vu:Value}{lo hi:Option Int}{n:Nat}{Q:Int×Int×Nat→Shared→Prop} (hs:s.heap.IsSliceOf sl vl vu .none) (pl:IsPart vl lo) (pu:IsPart vu hi)
 (h:Q (((sIx n 0 lo:Nat):Int),1,sIx n n hi - sIx n 0 lo) s):wpAny (model prog w) A (Builtin.Slice.sliceApplied (.ref sl) (pure (n:Int))) Q E s:=by
 obtain ⟨os,hos,hcs,hds⟩:=id hs
 unfold Builtin.Slice.sliceApplied Builtin.Slice.sliceFields
 refine wpAny_bind (wpAny_bind (wpAny_field hos hds (x:=vl) rfl (wpAny_bind (wpAny_field hos hds (x:=vu) rfl (wpAny_bind (wpAny_field hos hds (x:=.none) rfl (wpAny_pure ?_)))))))
 refine wpAny_bind (slicePart_none ?_)
 show wpAny _ _ (if ((1:Int)==0)=true then _ else _) _ _ s
 rw [if_neg (by decide)]
 refine wpAny_bind (mG pl (wpAny_bind (mG pu (wpAny_bind (wpAny_pure ?_)))))
 show wpAny _ _ (match Builtin.Slice.sliceAdjust lo hi 1 (n:Int) with | (lo,hi)=>pure (lo,(1:Int),Builtin.Slice.slicePlaces lo hi 1)) _ _ s
 rw [yg lo hi n]
 show wpAny _ _ (pure (((sIx n 0 lo:Nat):Int),(1:Int),Builtin.Slice.slicePlaces ((sIx n 0 lo:Nat):Int) ((sIx n n hi:Nat):Int) 1)) _ _ s
 rw [yq]
 exact wpAny_pure h
theorem AE (xs:Array Value) (i k:Nat):((List.range k).filterMap fun (m:Nat)=>xs[((i:Int)+(m:Int)*1).toNat]?).toArray=((xs.toList.drop i).take k).toArray:=by
 have e:(fun (m:Nat)=>xs[((i:Int)+(m:Int)*1).toNat]?)=fun m=>xs[i+m]?:=by
  funext m
  have:((i:Int)+(m:Int)*1).toNat=i+m:=by trivial
  rw [this]
 rw [e]
 have:=pick_run xs i k
 rw [List.filterMap_map] at this
 have e2:((fun x=>xs[x]?) ∘ fun x=>i+x)=fun m=>xs[i+m]?:=rfl
 rw [e2] at this
 rw [this]
theorem getItem_tuple_cut {t sl:Addr}{items:Array Value}{vl vu:Value}{lo hi:Option Int}{Q:Value→Shared→Prop} (ht:IsTup s.heap t items) (hs:s.heap.IsSliceOf sl vl vu .none) (pl:IsPart vl lo) (pu:IsPart vu hi)
 (hw:¬(sIx items.size 0 lo=0∧sIx items.size items.size hi=items.size))
 (h:Q (.ref s.heap.objs.size) { s with heap:=s.heap.push { cls:=.type "tuple",data:=.seq ((items.toList.drop (sIx items.size 0 lo)).take (sIx items.size items.size hi - sIx items.size 0 lo)).toArray } })
 (hsz:items.size≤sizeLine):wpAny (model prog w) A (getItem (.ref t) (.ref sl)) Q E s:=by
 have htake:sizeOk (.seq ((items.toList.drop (sIx items.size 0 lo)).take (sIx items.size items.size hi - sIx items.size 0 lo)).toArray):=by
  show ((items.toList.drop (sIx items.size 0 lo)).take (sIx items.size items.size hi - sIx items.size 0 lo)).toArray.size≤sizeLine
  rw [List.size_toArray,List.length_take,List.length_drop,Array.length_toList]
  exact Nat.le_trans (Nat.min_le_right ..) (Nat.le_trans (Nat.sub_le ..) hsz)
 have hj:sIx items.size items.size hi≤items.size:=FU _ _ (Nat.le_refl _) hi
 obtain ⟨os,hos,hcs,hds⟩:=id hs
 have hTs:s.TypeIs (.ref sl) "slice" := ⟨os,hos,hcs⟩
 unfold getItem
 try with_reducible refine wpAny_holding ?_
 first | refine wpAny_bind (wpAny_pure ?_) | skip
 refine wpAny_bind (wpAny_sequenceKey ht.typeIs (by decide) ?_)
 refine wpAny_bind (wpAny_callSpecial?_slot (name:=Str.ofString "__getitem__") ht.typeIs PyProof.Rows.slot_tuple_getitem
  (wpAny_call_entry PyProof.Rows.slot_tuple_getitem ht.typeIs entry_tuple_getitem ?_ (args_tuple_getitem _ _)))
 show wpAny _ _ (Builtin.Tuple.tupleItemsOf (.ref t) >>= _) _ _ s
 refine wpAny_bind (tupleItemsOf_ ht ?_)
 refine wpAny_bind (wpAny_typeOf hTs ?_)
 rw [if_pos (by decide)]
 refine wpAny_bind (kR hs pl pu ?_)
 have hno:¬((((sIx items.size 0 lo:Nat):Int)==0 && (1:Int)==1 && (sIx items.size items.size hi - sIx items.size 0 lo)==items.size)=true):=by
  intro q
  rw [Bool.and_eq_true,Bool.and_eq_true] at q
  have q1:((sIx items.size 0 lo:Nat):Int)=0:=eq_of_beq q.1.1
  have q2:sIx items.size items.size hi - sIx items.size 0 lo=items.size:=eq_of_beq q.2
  exact hw ⟨by trivial,by trivial⟩
 show wpAny _ _ (if (((sIx items.size 0 lo:Nat):Int)==0 && (1:Int)==1 && (sIx items.size items.size hi - sIx items.size 0 lo)==items.size)=true then _ else _) _ _ s
 rw [if_neg hno,AE]
 first
  | exact wpAny_bind (m:=Builtin.Tuple.tupleExact _) (wpAny_newObj_type (wpAny_pure ⟨_,rfl,wpAny_pure h⟩) htake)
  | exact wpAny_bind (m:=Builtin.Tuple.tupleExact _) (wpAny_newObj_type (wpAny_bind (wpAny_pure (wpAny_pure ⟨_,rfl,wpAny_pure h⟩))) htake)
  | exact wpAny_bind (wpAny_bind (m:=Builtin.Tuple.tupleExact _) (wpAny_newObj_type (wpAny_pure (wpAny_pure ⟨_,rfl,wpAny_pure h⟩)) htake))
  | exact wpAny_bind (wpAny_bind (m:=Builtin.Tuple.tupleExact _) (wpAny_newObj_type (wpAny_pure ⟨_,rfl,wpAny_pure h⟩) htake))
end
end HT
namespace L2
open PySem PySem.Spec PyProof.Rows
abbrev TO:=St→Hp→(Option Int→Hp→Prop)→Prop
def PO (X:Cx) (e:Option Expr) (t:TO):Prop:=
 ∀(pins:List (Addr×Obj)) (s:Shared) (σ:St) (H:Hp) (Q:Option Int→Hp→Prop),aa X pins σ H s→t σ H Q→
   wpAny (model X.prog X.w) X.A (evalPart e X.env) (fun u s'=>aV fun o H'=>aa X pins σ H' s'∧IsPart u o∧Q o H') X.xe s
def Dd:TO:=fun _ H Q=>Q none H
def Hw (t:TE):TO:=fun σ H Q=>t σ H fun x H1=>EY x fun i=>Q (some i) H1
section
variable {X:Cx}{e:Expr}{te:TE}{lo hi:Option Expr}{tl th:TO}{pos p2:Pos}
theorem iw:PO X none Dd:=by
 intro pins s σ H Q I h
 rw [evalPart_none]
 exact wpAny_pure ⟨none,H,I,.none,h⟩
theorem d9 (h:PE X e te):PO X (some e) (Hw te):=by
 intro pins s σ H Q I hw
 rw [evalPart_some]
 refine aK (h pins s σ H _ I hw) fun u s1 ⟨x,H1,I1,r1,q1⟩=>?_
 obtain ⟨i,rfl,q⟩:=q1
 obtain ⟨t,rfl⟩:=r1
 exact ⟨some i,H1,I1,.int i t,q⟩
def xN (X:Cx) (r:V→Option Int→Option Int→Hp→VK→Prop):Prop:=
 ∀(pins:List (Addr×Obj)) (s:Shared) (σ:St) (H:Hp) (x:V) (v vl vu:Value) (lo hi:Option Int) (sl:Addr) (Q:VK),aa X pins σ H s→aO x v→s.heap.IsSliceOf sl vl vu .none→IsPart vl lo→IsPart vu hi→r x lo hi H Q→
   aV fun T id=>typeLookup (.type T) "__getitem__" = pure (some (.builtin id))∧s.TypeIs v T∧wpAny (model X.prog X.w) X.A (getItem v (.ref sl)) (EP X pins σ Q) X.xe s
def I0 (r:V→Option Int→Option Int→Hp→VK→Prop) (te:TE) (tl th:TO):TE:=fun σ H Q=>te σ H fun x H1=>tl σ H1 fun l H2=>th σ H2 fun u H3=>r x l u H3 Q
theorem fO {r:V→Option Int→Option Int→Hp→VK→Prop} (hr:xN X r) (he:PE X e te) (hl:PO X lo tl) (hu:PO X hi th):PE X (.Subscript e (.Slice lo hi none p2) pos) (I0 r te tl th):=by
 intro pins s σ H Q I h
 refine Subscript_ (aK (he pins s σ H _ I h) fun v s1 ⟨x,H1,I1,r1,q1⟩=>?_)
 refine wpAny_Slice (aK (hl pins s1 σ H1 _ I1 q1) fun vl s2 ⟨l,H2,I2,pl,q2⟩=>aK (hu pins s2 σ H2 _ I2 q2) fun vu s3 ⟨u,H3,I3,pu,q3⟩=>?_)
 rw [evalPart_none]
 refine wpAny_pure ?_
 have I4:aa X pins σ H3 { s3 with heap:=s3.heap.push { cls:=.type "slice",data:=.fields #[vl,vu,.none] } }:=I3.kept (t':=s3.toks) fun b ob q=>Heap.get?_push_of_some _ q
 obtain ⟨T,id,hT,ht,hg⟩:=hr pins { s3 with heap:=s3.heap.push { cls:=.type "slice",data:=.fields #[vl,vu,.none] } } σ H3 x v vl vu l u s3.heap.objs.size Q I4 r1 (Heap.IsSliceOf.new ..) pl pu q3
 show wpAny (model X.prog X.w) X.A (subscriptTail e (.Slice lo hi none p2) v (.ref s3.heap.objs.size)) (EP X pins σ Q) X.xe { s3 with heap:=s3.heap.push { cls:=.type "slice",data:=.fields #[vl,vu,.none] } }
 exact tail_any (ops:=[.ref s3.heap.objs.size,v]) ht hT hg (by with_unfolding_all rfl)
def gW (xs:List V) (lo hi:Option Int):List V:=(xs.drop (HT.sIx xs.length 0 lo)).take (HT.sIx xs.length xs.length hi - HT.sIx xs.length 0 lo)
theorem qo (xs:List V) (lo hi:Option Int):(gW xs lo hi).length≤xs.length:=by
 unfold gW
 rw [List.length_take,List.length_drop]
 exact Nat.le_trans (Nat.min_le_right ..) (Nat.sub_le ..)
inductive Hs (K:PySem.W.Frag) (x:V) (lo:Option Int) (hi:Option Int) (H:Hp) (Q:VK):Prop
 | mk (a:_) (xs:_) (h0:x=.ref a) (h1:au K H a xs) (h2:¬(HT.sIx xs.length 0 lo=0∧HT.sIx xs.length xs.length hi=xs.length)) (h3:∀p,H p=none→Q (.ref p) (aL H p (.tup (gW xs lo hi))))
def Il (K:PySem.W.Frag):V→Option Int→Option Int→Hp→VK→Prop:=fun x lo hi H Q=>Hs K x lo hi H Q
theorem FG:xN X (Il X.K):=by
 intro pins s σ H x v vl vu lo hi sl Q I rx hs pl pu h
 obtain ⟨a,xs,rfl,hx,hw,q⟩:=h
 cases rx
 obtain ⟨its,r,ht,hz⟩:=I.tuple hx
 have hlen:its.toArray.size=xs.length:=by rw [List.size_toArray];exact r.length.symm
 refine ⟨"tuple",_,PyProof.Rows.slot_tuple_getitem.lookup,ht.typeIs,?_⟩
 refine HT.getItem_tuple_cut ht hs pl pu (by rw [hlen];exact hw) ?_ (by rw [hlen];exact hz)
 rw [hlen]
 refine ⟨.ref s.heap.objs.size,_,I.laid (t':=s.toks) (o:=.tup (gW xs lo hi)) (fun b ob q=>Heap.get?_push_of_some _ q) (Nat.le_refl _) ?_,rfl,q _ (I.hok.fresh (Nat.le_refl _))⟩
 exact ⟨Nat.le_trans (qo xs lo hi) hz,_,(r.drop (HT.sIx xs.length 0 lo)).take (HT.sIx xs.length xs.length hi - HT.sIx xs.length 0 lo),IsTup.new _ _,_,Heap.get?_push_size _ rfl,rfl⟩
inductive Fm (K:PySem.W.Frag) (x:V) (y:V) (H:Hp) (Q:VK):Prop
 | mk (a:_) (b:_) (xs:_) (ys:_) (h0:x=.ref a) (h1:y=.ref b) (h2:au K H a xs) (h3:au K H b ys) (h4:xs≠[]) (h5:xs.length+ys.length≤sizeLine) (h6:(ys=[]→Q (.ref a) H)) (h7:(ys≠[]→∀p,H p=none→Q (.ref p) (aL H p (.tup (xs++ys)))))
def Gd (K:PySem.W.Frag):R2:=fun x y H Q=>Fm K x y H Q
theorem aC.nil_iff {xs:List V}{us:List Value} (r:aC xs us):us=[]↔xs=[]:=by
 cases r with
 | nil=>simp
 | cons _ _=>simp
theorem C8:b8 X (binaryOp .Add) (Gd X.K):=by
 intro pins s σ H x y v u Q I rx ry h
 obtain ⟨a,b,xs,ys,rfl,rfl,ha,hb,hx,hz,q1,q2⟩:=h
 cases rx
 cases ry
 obtain ⟨its,r1,p1,_⟩:=I.tuple ha
 obtain ⟨its2,r2,p2,_⟩:=I.tuple hb
 refine HT.cat_tup p1 p2 (fun z=>hx (r1.nil_iff.mp z)) (fun z=>⟨.ref a,H,I,rfl,q1 (r2.nil_iff.mp z)⟩) (fun z=>?_) (by rw [←r1.length,←r2.length];exact hz)
 refine ⟨.ref s.heap.objs.size,_,I.laid (t':=s.toks) (o:=.tup (xs++ys)) (fun b ob q=>Heap.get?_push_of_some _ q) (Nat.le_refl _) ?_,rfl,q2 (fun w=>z (r2.nil_iff.mpr w)) _ (I.hok.fresh (Nat.le_refl _))⟩
 exact ⟨by rw [List.length_append];exact hz,_,r1.append r2,IsTup.new _ _,_,Heap.get?_push_size _ rfl,rfl⟩
end
def re (n:Nat) (i:Int):Option Nat:=if 0≤i then (if i<n then some i.toNat else none) else if -(n:Int)≤i then some (i+n).toNat else none
def gk {α:Type} (xs:List α) (i:Int):Option α:=(re xs.length i).bind fun j=>xs[j]?
theorem xo {n:Nat}{i:Int}{j:Nat} (h:re n i=some j):seqIndex? i n=some j∧j<n∧-(n:Int)≤i∧i<n:=by
 unfold re at h
 by_cases h0:0≤i
 ·rw [if_pos h0] at h
  by_cases h1:i<n
  ·rw [if_pos h1] at h
   have e:i.toNat=j:=Option.some.inj h
   exact ⟨by rw [seqIndex_of h0 h1,e],by trivial,by trivial,h1⟩
  ·rw [if_neg h1] at h;cases h
 ·rw [if_neg h0] at h
  by_cases h1:-(n:Int)≤i
  ·rw [if_pos h1] at h
   have e:(i+n).toNat=j:=Option.some.inj h
   exact ⟨by rw [seqIndex_neg (by trivial) h1,e],by trivial,h1,by trivial⟩
  ·rw [if_neg h1] at h;cases h
theorem tw {α:Type}{xs:List α}{i:Int}{v:α} (h:gk xs i=some v):∃j,seqIndex? i xs.length=some j∧xs[j]?=some v∧j<xs.length∧-(xs.length:Int)≤i∧i<xs.length:=by
 unfold gk at h
 cases e:re xs.length i with
 | none=>rw [e] at h;cases h
 | some j=>
  rw [e] at h
  obtain ⟨h1,h2,h3,h4⟩:=xo e
  exact ⟨j,h1,h,h2,h3,h4⟩
theorem pH {α:Type}{xs:List α}{j:Nat}{v:α} (h:xs[j]?=some v):gk xs (j:Int)=some v:=by
 have hj:j<xs.length:=(List.getElem?_eq_some_iff.mp h).1
 have e:re xs.length (j:Int)=some j:=by
  unfold re
  rw [if_pos (by trivial),if_pos (by trivial)];simp
 unfold gk;rw [e];exact h
def Cl (b:Expr):Prop:=∀o i,subscripted b false o i=operate [o,i] (getItem o i)
def nG (X:Cx) (r:R2):Prop:=
 ∀(value slice:Expr) (pins:List (Addr×Obj)) (s:Shared) (σ:St) (H:Hp) (x y:V) (v u:Value) (Q:VK),aa X pins σ H s→aO x v→aO y u→r x y H Q→
   subscripted slice false v u=operate [v,u] (getItem v u)→wpAny (model X.prog X.w) X.A (subscriptTail value slice v u) (EP X pins σ Q) X.xe s
def sf (X:Cx) (id:String) (r:V→List V→Hp→VK→Prop):Prop:=
 ∀(pins:List (Addr×Obj)) (s:Shared) (σ:St) (H:Hp) (x:V) (xs:List V) (v:Value) (us:List Value) (Q:VK),aa X pins σ H s→aO x v→aC xs us→r x xs H Q→
   wpAny (model X.prog X.w) X.A (call (.builtin id) (v :: us)) (EP X pins σ Q) X.xe s
section
variable {X:Cx}{a b:Expr}{ta tb:TE}{pos:Pos}
theorem nG.or {r r':R2} (h:nG X r) (h':nG X r'):nG X (fun x y H Q=>r x y H Q∨r' x y H Q):=by
 intro value slice pins s σ H x y v u Q I rx ry q hs
 rcases q with q | q
 ·exact h value slice pins s σ H x y v u Q I rx ry q hs
 ·exact h' value slice pins s σ H x y v u Q I rx ry q hs
theorem eL {r:R2} (hr:nG X r) (ha:PE X a ta) (hb:PE X b tb) (hs:Cl b):PE X (.Subscript a b pos) (BI r ta tb):=by
 intro pins s σ H Q I h
 exact Subscript_ (Bk ha hb I h fun v u s2 x y H2 I2 rx ry q=>hr a b pins s2 σ H2 x y v u Q I2 rx ry q (hs _ _))
inductive HD (K:PySem.W.Frag) (x:V) (y:V) (H:Hp) (Q:VK):Prop
 | mk (p:_) (xs:_) (i:_) (v:_) (h0:x=.ref p) (h1:y=.int i) (h2:ar K H p xs) (h3:gk xs i=some v) (h4:Q v H)
def Bq (K:PySem.W.Frag):R2:=fun x y H Q=>HD K x y H Q
inductive Go (K:PySem.W.Frag) (x:V) (y:V) (H:Hp) (Q:VK):Prop
 | mk (p:_) (xs:_) (i:_) (v:_) (h0:x=.ref p) (h1:y=.int i) (h2:au K H p xs) (h3:gk xs i=some v) (h4:Q v H)
def BB (K:PySem.W.Frag):R2:=fun x y H Q=>Go K x y H Q
inductive Gz (x:V) (y:V) (H:Hp) (Q:VK):Prop
 | mk (z:_) (i:_) (c:_) (h0:x=.str z) (h1:y=.int i) (h2:z.length≤sizeLine) (h3:gk z.cps.toList i=some c) (h4:Q (.str ⟨#[c]⟩) H)
def DX:R2:=fun x y H Q=>Gz  x y H Q
theorem xh:nG X (Bq X.K):=by
 intro value slice pins s σ H x y v u Q I rx ry h hs
 obtain ⟨p,xs,i,z,rfl,rfl,hq,he,q⟩:=h
 cases rx
 obtain ⟨t,rfl⟩:=ry
 obtain ⟨its,r,pl,hz⟩:=I.list hq
 obtain ⟨j,h1,h2,h3,h4,h5⟩:=tw he
 obtain ⟨w,ew,rw'⟩:=r.get h2
 have hl:=r.length
 have hn:=oO
 have fin:EP X pins σ Q w s:=⟨z,H,I,rw',q⟩
 by_cases h0:0≤i
 ·have hj:i.toNat=j:=by
   rw [seqIndex_of h0 h5] at h1
   exact Option.some.inj h1
  exact item_listR pl.isList h0 (by trivial) (by rw [hj];simpa using ew) fin hs
 ·have hj:(i+(its.toArray.size:Int)).toNat=j:=by
   rw [seqIndex_neg (by trivial) h4] at h1
   rw [List.size_toArray,←hl]
   exact Option.some.inj h1
  exact subscriptTail_builtinR (x:=w) pl.isList.typeIs slot_list_getitem.lookup
   (wpAny_getItem_list_neg (Q:=fun r s'=>r=w∧EP X pins σ Q r s') pl.isList (by trivial) (by rw [List.size_toArray] <;> trivial) (by trivial) (by rw [hj];simpa using ew) ⟨rfl,fin⟩) hs
theorem zd:nG X (BB X.K):=by
 intro value slice pins s σ H x y v u Q I rx ry h hs
 obtain ⟨p,xs,i,z,rfl,rfl,hq,he,q⟩:=h
 cases rx
 obtain ⟨t,rfl⟩:=ry
 obtain ⟨its,r,pl,hz⟩:=I.tuple hq
 obtain ⟨j,h1,h2,h3,h4,h5⟩:=tw he
 obtain ⟨w,ew,rw'⟩:=r.get h2
 have hl:=r.length
 have hn:=oO
 have fin:EP X pins σ Q w s:=⟨z,H,I,rw',q⟩
 exact subscriptTail_builtinR (x:=w) pl.typeIs slot_tuple_getitem.lookup
  (getItem_tuple (j:=j) (Q:=fun r s'=>r=w∧EP X pins σ Q r s') pl (by trivial) (by trivial) (by rw [List.size_toArray,←hl];exact h1) (by simpa using ew) ⟨rfl,fin⟩) hs
theorem oE:nG X DX:=by
 intro value slice pins s σ H x y v u Q I rx ry h hs
 obtain ⟨z,i,c,rfl,rfl,hz,he,q⟩:=h
 obtain ⟨t,rfl⟩:=rx
 obtain ⟨t',rfl⟩:=ry
 obtain ⟨j,h1,h2,h3,h4,h5⟩:=tw he
 have hl:z.cps.toList.length=z.length:=by simp [Str.length]
 rw [hl] at h1 h4 h5
 have hn:=oO
 exact tail_any (typeIs_str s z t) slot_str_getitem.lookup (getItem_str (c:=c) (by
  have e1:decide (i < -(2 ^ 63:Int))=false:=decide_eq_false (by trivial)
  have e2:decide (i≥2 ^ 63)=false:=decide_eq_false (by trivial)
  rw [e1,e2,Bool.or_false]) (by rw [h1];simpa using h2) ⟨.str ⟨#[c]⟩,H,I.tok _,⟨()⟩,q⟩) hs
def Jb (K:PySem.W.Frag):R2:=fun x y H Q=>Bq K x y H Q∨BB K x y H Q∨DX x y H Q
theorem iG:nG X (Jb X.K):=xh.or (zd.or oE)
theorem yp (its:List Value) (n j:Nat) (u:Value):Obj.mapSeq (·.setIfInBounds j u) { cls:=.type "list",data:=.seq its.toArray n }={ cls:=.type "list",data:=.seq (its.set j u).toArray n }:=by
 simp [Obj.mapSeq]
theorem aa.lst {pins:List (Addr×Obj)}{σ:St}{H:Hp}{s:Shared}{p:Addr}{xs:List V} (I:aa X pins σ H s) (h:H p=some (.lst xs)) :
 aV fun (its:List Value) (n:Nat)=>aC xs its∧s.heap.get? p=some { cls:=.type "list",data:=.seq its.toArray n }∧xs.length≤sizeLine:=by
 obtain ⟨z,its,n,r,e⟩:=I.hok p _ h
 exact ⟨its,n,r,e,z⟩
theorem aa.lstUpd {pins:List (Addr×Obj)}{σ:St}{H:Hp}{s:Shared}{p:Addr}{xs ys:List V}{its its':List Value}{n n':Nat}{f:Obj→Obj} (I:aa X pins σ H s) (h:H p=some (.lst xs))
 (ho:s.heap.get? p=some { cls:=.type "list",data:=.seq its.toArray n }) (hf:f { cls:=.type "list",data:=.seq its.toArray n }={ cls:=.type "list",data:=.seq its'.toArray n' }) (r:aC ys its') (hz:ys.length≤sizeLine) (t:Nat) :
 aa X pins σ (aL H p (.lst ys)) { s with heap:=s.heap.update p f,toks:=t }:=by
 have e:(s.heap.update p f).get? p=some { cls:=.type "list",data:=.seq its'.toArray n' }:=by
  rw [Heap.get?_update_self f ho (by rw [hf] <;> rfl),hf]
 refine I.write (x:=p) (e:=p) (by rw [h];trivial) (.inl rfl) (fun b u hb q=>(Heap.get?_update_other _ _ (Ne.symm hb)).trans q) ⟨_,e⟩ ?_
 exact ⟨hz,its',n',r,e⟩
inductive Fa (o:V) (i:V) (v:V) (H:Hp) (Q:(Hp→Prop)):Prop
 | mk (p:_) (xs:_) (k:_) (j:_) (h0:o=.ref p) (h1:i=.int k) (h2:H p=some (.lst xs)) (h3:re xs.length k=some j) (h4:Q (aL H p (.lst (xs.set j v))))
def Hk:V→V→V→Hp→(Hp→Prop)→Prop:=fun o i v H Q=>Fa  o i v H Q
theorem mU:AB X Hk:=by
 intro pins s σ H o i v ov iv u Q I ro ri rv h
 obtain ⟨p,xs,k,j,rfl,rfl,hp,hj,q⟩:=h
 cases ro
 obtain ⟨t,rfl⟩:=ri
 obtain ⟨its,n,r,ho,hz⟩:=I.lst hp
 obtain ⟨h1,h2,h3,h4⟩:=xo hj
 have hl:=r.length
 have hn:=oO
 have I':aa X pins σ (aL H p (.lst (xs.set j v))) { s with heap:=s.heap.update p (Obj.mapSeq (·.setIfInBounds j u)) }:=
  I.lstUpd hp ho (yp its n j u) (r.set rv j) (by rw [List.length_set];exact hz) s.toks
 by_cases h0:0≤k
 ·have hk:k.toNat=j:=by
   rw [seqIndex_of h0 h4] at h1
   exact Option.some.inj h1
  exact PySem.W.ki_setAt ho h0 (by trivial) (by rw [List.size_toArray,←hl];exact h4) (by rw [hk];exact ⟨_,I',q⟩)
 ·have hk:(k+(its.toArray.size:Int)).toNat=j:=by
   rw [seqIndex_neg (by trivial) h3] at h1
   rw [List.size_toArray,←hl]
   exact Option.some.inj h1
  exact PySem.W.ki_setBack ho (by trivial) (by rw [List.size_toArray,←hl];exact h3) (by trivial) (by rw [hk];exact ⟨_,I',q⟩)
theorem vf (lo hi:Option Int) (n:Nat):(sliceBounds lo hi none n).1=((HT.sIx n 0 lo:Nat):Int)∧(sliceBounds lo hi none n).2.1=((HT.sIx n n hi:Nat):Int)∧(sliceBounds lo hi none n).2.2=1:=by
 refine ⟨?_,?_,rfl⟩
 ·cases lo with
  | none=>simp [sliceBounds,HT.sIx]
  | some i=>
   simp only [sliceBounds,HT.sIx,Option.getD_none,show (1:Int) > 0 by decide,if_true]
   by_cases h:i<0
   ·simp only [h,if_true] <;> trivial
   ·simp only [h,if_false] <;> trivial
 ·cases hi with
  | none=>simp [sliceBounds,HT.sIx]
  | some i=>
   simp only [sliceBounds,HT.sIx,Option.getD_none,show (1:Int) > 0 by decide,if_true]
   by_cases h:i<0
   ·simp only [h,if_true] <;> trivial
   ·simp only [h,if_false] <;> trivial
theorem uI (its:List Value) (lo hi:Option Int):slicePick its.toArray lo hi none=((its.drop (HT.sIx its.length 0 lo)).take (HT.sIx its.length its.length hi - HT.sIx its.length 0 lo)).toArray:=by
 obtain ⟨h1,h2,h3⟩:=vf lo hi its.toArray.size
 unfold slicePick
 rw [h1,h2,h3]
 simp only [sliceRange_one,pick_run,List.size_toArray] <;> rfl
inductive GF (K:PySem.W.Frag) (x:V) (lo:Option Int) (hi:Option Int) (H:Hp) (Q:VK):Prop
 | mk (a:_) (xs:_) (h0:x=.ref a) (h1:ar K H a xs) (h2:∀p,H p=none→Q (.ref p) (aL H p (.lst (gW xs lo hi))))
def Ic (K:PySem.W.Frag):V→Option Int→Option Int→Hp→VK→Prop:=fun x lo hi H Q=>GF K x lo hi H Q
theorem su:xN X (Ic X.K):=by
 intro pins s σ H x v vl vu lo hi sl Q I rx hs pl pu h
 obtain ⟨a,xs,rfl,hx,q⟩:=h
 cases rx
 obtain ⟨its,r,ht,hz⟩:=I.list hx
 have hlen:=r.length
 refine ⟨"list",_,slot_list_getitem.lookup,ht.isList.typeIs,?_⟩
 refine wpAny_getItem_list_slice ht.isList hs pl pu .none (by simp) ?_ (by rw [List.size_toArray] <;> trivial)
 rw [uI,←hlen]
 refine ⟨.ref s.heap.objs.size,_,I.laid (t':=s.toks) (o:=.lst (gW xs lo hi)) (fun b ob q=>Heap.get?_push_of_some _ q) (Nat.le_refl _) ?_,rfl,q _ (I.hok.fresh (Nat.le_refl _))⟩
 exact ⟨Nat.le_trans (qo xs lo hi) hz,_,0,(r.drop (HT.sIx xs.length 0 lo)).take (HT.sIx xs.length xs.length hi - HT.sIx xs.length 0 lo),Heap.get?_push_size _ rfl⟩
def kc:V→Bool
 | .non=>true
 | .bl _=>true
 | .int _=>true
 | .str _=>true
 | _=>false
def rY:V→V→Bool
 | .non,.non=>true
 | .bl a,.bl b=>a==b
 | .bl a,.int b=>(if a then 1 else 0)==b
 | .int a,.bl b=>a==(if b then 1 else 0)
 | .int a,.int b=>a==b
 | .str a,.str b=>a==b
 | _,_=>false
theorem FC {A:Around}{s:Shared}{y x:V}{u v:Value} (ry:aO y u) (rx:aO x v) (fy:kc y=true) (fx:kc x=true):SeqAt.EqAt A s u v (rY y x):=by
 cases y with
 | non=>
  cases ry
  cases x with
  | non=>cases rx;exact SeqAt.EqAt.same _
  | bl b=>cases rx;exact SeqAt.EqAt.none_bool b
  | int b=>obtain ⟨t,rfl⟩:=rx;exact SeqAt.EqAt.none_int b t
  | str b=>obtain ⟨t,rfl⟩:=rx;exact SeqAt.EqAt.none_str b t
  | _=>exact absurd (show false=true from fx) Bool.false_ne_true
 | bl a=>
  cases ry
  cases x with
  | non=>cases rx;exact SeqAt.EqAt.bool_none a
  | bl b=>cases rx;exact SeqAt.EqAt.bool_bool a b
  | int b=>obtain ⟨t,rfl⟩:=rx;exact SeqAt.EqAt.bool_int a b t
  | str b=>obtain ⟨t,rfl⟩:=rx;exact SeqAt.EqAt.bool_str a b t
  | _=>exact absurd (show false=true from fx) Bool.false_ne_true
 | int a=>
  obtain ⟨t',rfl⟩:=ry
  cases x with
  | non=>cases rx;exact SeqAt.EqAt.int_none a t'
  | bl b=>cases rx;exact SeqAt.EqAt.int_bool a t' b
  | int b=>obtain ⟨t,rfl⟩:=rx;exact SeqAt.EqAt.int_int a t' b t
  | str b=>obtain ⟨t,rfl⟩:=rx;exact SeqAt.EqAt.int_str a t' b t
  | _=>exact absurd (show false=true from fx) Bool.false_ne_true
 | str a=>
  obtain ⟨t',rfl⟩:=ry
  cases x with
  | non=>cases rx;exact SeqAt.EqAt.str_none a t'
  | bl b=>cases rx;exact SeqAt.EqAt.str_bool a t' b
  | int b=>obtain ⟨t,rfl⟩:=rx;exact SeqAt.EqAt.str_int a t' b t
  | str b=>obtain ⟨t,rfl⟩:=rx;exact SeqAt.EqAt.str_str a t' b t
  | _=>exact absurd (show false=true from fx) Bool.false_ne_true
 | _=>exact absurd (show false=true from fy) Bool.false_ne_true
def rz (x:V) (u:Value):Bool:=match u with
 | .none=>rY .non x
 | .bool b=>rY (.bl b) x
 | .int i _=>rY (.int i) x
 | .str z _=>rY (.str z) x
 | _=>false
theorem yW {x y:V}{u:Value} (r:aO y u) (f:kc y=true):rz x u=rY y x:=by
 cases y with
 | non=>cases r;rfl
 | bl b=>cases r;rfl
 | int i=>obtain ⟨t,rfl⟩:=r;rfl
 | str z=>obtain ⟨t,rfl⟩:=r;rfl
 | _=>exact absurd (show false=true from f) Bool.false_ne_true
theorem sy {x:V}:∀{xs:List V}{us:List Value},aC xs us→xs.all kc=true→us.any (rz x)=xs.any fun y=>rY y x
 | _,_,.nil,_=>rfl
 | y :: xs,u :: us,.cons r t,f=>by
  rw [List.all_cons,Bool.and_eq_true] at f
  rw [List.any_cons,List.any_cons,yW r f.1,sy t f.2]
theorem qI {A:Around}{s:Shared}{x:V}{v:Value} (rx:aO x v) (fx:kc x=true):∀{xs:List V}{us:List Value},aC xs us→xs.all kc=true→∀u∈us,SeqAt.EqAt A s u v (rz x u)
 | _,_,.nil,_=>fun u hu=>by cases hu
 | y :: xs,u :: us,.cons r t,f=>fun u' hu=>by
  rw [List.all_cons,Bool.and_eq_true] at f
  rcases List.mem_cons.mp hu with rfl | hu
  ·rw [yW r f.1];exact FC r rx f.1 fx
  ·exact qI rx fx t f.2 u' hu
def BO (x:V) (xs:List V):Bool:=xs.any fun y=>rY y x
inductive HU (K:PySem.W.Frag) (neg:Bool) (x:V) (y:V) (H:Hp) (Q:VK):Prop
 | mk (p:_) (xs:_) (h0:y=.ref p) (h1:(ar K H p xs∨au K H p xs)) (h2:kc x=true) (h3:xs.all kc=true) (h4:Q (.bl (if neg then !BO x xs else BO x xs)) H)
def HH (K:PySem.W.Frag) (neg:Bool):R2:=fun x y H Q=>HU K neg x y H Q
theorem vn:b8 X (compareOp .NotIn) (HH X.K true):=by
 intro pins s σ H x y v u Q I rx ry h
 obtain ⟨p,xs,rfl,hq,fx,fs,q⟩:=h
 cases ry
 rcases hq with hq | hq
 ·obtain ⟨its,r,pl,hz⟩:=I.list hq
  refine SeqAt.notIn_listAt (rz x) pl.isList (fun w hw=>qI rx fx r fs w (by simpa using hw)) ⟨.bl _,H,I,rfl,?_⟩
  rw [show its.toArray.any (rz x)=its.any (rz x) by simp,sy r fs]
  exact q
 ·obtain ⟨its,r,pl,hz⟩:=I.tuple hq
  refine SeqAt.notIn_tupleAt (rz x) pl (fun w hw=>qI rx fx r fs w (by simpa using hw)) ⟨.bl _,H,I,rfl,?_⟩
  rw [show its.toArray.any (rz x)=its.any (rz x) by simp,sy r fs]
  exact q
theorem kM:bU X (.builtin "len") (fun xs H Q=>aV fun p ys=>xs=[.ref p]∧(ar X.K H p ys∨au X.K H p ys)∧Q (.int ys.length) H):=by
 intro pins s σ H xs us Q I r h
 obtain ⟨p,ys,rfl,hq,q⟩:=h
 obtain ⟨u,rfl,rx⟩:=kf r
 cases rx
 have hn:=oO
 rcases hq with hq | hq
 ·obtain ⟨its,r',pl,hz⟩:=I.list hq
  have hlen:=r'.length
  exact Calls.call_len_list pl.isList (by simp only [List.size_toArray] <;> trivial) ⟨.int ys.length,H,I.tok _,⟨s.toks+1,by rw [List.size_toArray,hlen]⟩,q⟩
 ·obtain ⟨its,r',pl,hz⟩:=I.tuple hq
  have hlen:=r'.length
  exact len_tuple pl (by simp only [List.size_toArray] <;> trivial) ⟨.int ys.length,H,I.tok _,⟨s.toks+1,by rw [List.size_toArray,hlen]⟩,q⟩
theorem vm:bU X (.type "list") (fun xs H Q=>aV fun p ys=>xs=[.ref p]∧(ar X.K H p ys∨au X.K H p ys)∧∀l,H l=none→Q (.ref l) (aL H l (.lst ys))):=by
 intro pins s σ H xs us Q I r h
 obtain ⟨p,ys,rfl,hq,q⟩:=h
 obtain ⟨u,rfl,rx⟩:=kf r
 cases rx
 have fin:∀(its:List Value),aC ys its→ys.length≤sizeLine→∀(h':Heap) (c':Nat),(∀b o',s.heap.get? b=some o'→h'.get? b=some o')→
  h'.get? s.heap.objs.size=some { cls:=.type "list",dict:=none,data:=.seq its.toArray c',slots:=#[] }→EP X pins σ Q (.ref s.heap.objs.size) { s with heap:=h' }:=fun its r' hz h' c' kp e=>
  ⟨.ref s.heap.objs.size,_,I.laid (t':=s.toks) kp (Nat.le_refl _) (show bc X.prog X.w _ h' _ (.lst ys) from ⟨hz,its,c',r',e⟩),rfl,q _ (I.hok.fresh (Nat.le_refl _))⟩
 rcases hq with hq | hq
 ·obtain ⟨its,r',pl,hz⟩:=I.list hq
  have hlen:=r'.length
  obtain ⟨o,ho,hc,n,hd⟩:=pl.isList
  exact call_list_seq p (.inl rfl) ho hc hd (fun h' c' kp e=>fin its r' hz h' c' kp e) (by simp only [List.size_toArray] <;> trivial)
 ·obtain ⟨its,r',pl,hz⟩:=I.tuple hq
  have hlen:=r'.length
  obtain ⟨o,ho,hc,n,hd⟩:=pl
  exact call_list_seq p (.inr rfl) ho hc hd (fun h' c' kp e=>fin its r' hz h' c' kp e) (by simp only [List.size_toArray] <;> trivial)
theorem uO:bU X (.type "tuple") (fun xs H Q=>aV fun p ys=>xs=[.ref p]∧((ar X.K H p ys∧∀l,H l=none→Q (.ref l) (aL H l (.tup ys)))∨(au X.K H p ys∧Q (.ref p) H))):=by
 intro pins s σ H xs us Q I r h
 obtain ⟨p,ys,rfl,h⟩:=h
 obtain ⟨u,rfl,rx⟩:=kf r
 cases rx
 rcases h with ⟨hq,q⟩ | ⟨hq,q⟩
 ·obtain ⟨its,r',pl,hz⟩:=I.list hq
  have hlen:=r'.length
  refine call_tuple_list pl.isList (fun h' kp=>?_) (by simp only [List.size_toArray] <;> trivial)
  have I1:aa X pins σ H { s with heap:=h' }:=I.kept (t':=s.toks) kp
  have I2:aa X pins σ (aL H h'.objs.size (.tup ys)) { s with heap:=h'.push { cls:=.type "tuple",data:=.seq its.toArray } }:=
   I1.laid (t':=s.toks) (fun b o e=>Heap.get?_push_of_some _ e) (Nat.le_refl _) (show bc X.prog X.w _ _ _ (.tup ys) from ⟨hz,its,r',IsTup.new _ _,_,Heap.get?_push_size _ rfl,rfl⟩)
  exact ⟨.ref h'.objs.size,_,I2,rfl,q _ (I1.hok.fresh (Nat.le_refl _))⟩
 ·obtain ⟨its,r',pl,hz⟩:=I.tuple hq
  exact call_tuple_same pl ⟨.ref p,H,I,rfl,q⟩
def HL (K:PySem.W.Frag) (T:String) (x:V) (H:Hp):Prop:=match x with
 | .str _=>T = "str"
 | .int _=>T = "int"
 | .ref p=>(T = "list"∧∃xs,ar K H p xs)∨(T = "tuple"∧∃o,K.lookup p=some o∧o.cls=.type "tuple"∧o.dict=none)∨
  (T = "dict"∧((∃kvs,H p=some (.dK kvs))∨∃kvs,H p=some (.dT kvs)))∨(T = "set"∧aV fun S n=>H p=some (.set S n))
 | _=>False
theorem Fo {pins:List (Addr×Obj)}{σ:St}{H:Hp}{s:Shared}{T:String}{x:V}{v:Value} (I:aa X pins σ H s) (r:aO x v) (ty:HL X.K T x H) :
 s.TypeIs v T∧∀a,v=.ref a→∃ob,s.heap.get? a=some ob∧ob.dict=none:=by
 cases x with
 | str z=>
  obtain ⟨t,rfl⟩:=r
  cases (show T = "str" from ty)
  exact ⟨typeIs_str s z t,fun _ e=>nomatch e⟩
 | int i=>
  obtain ⟨t,rfl⟩:=r
  cases (show T = "int" from ty)
  exact ⟨typeIs_int s i t,fun _ e=>nomatch e⟩
 | ref p=>
  cases r
  rcases ty with ⟨rfl,xs,hq⟩ | ⟨rfl,o,hk,hc,hd⟩ | ⟨rfl,hk⟩ | ⟨rfl,S,n,hk⟩
  ·obtain ⟨its,_,pl,_⟩:=I.list hq
   refine ⟨pl.isList.typeIs,fun a e=>?_⟩
   cases e
   obtain ⟨o,n,e,c,hd,_⟩:=pl
   exact ⟨o,e,hd⟩
  ·refine ⟨⟨o,I.kIn p o hk,hc⟩,fun a e=>?_⟩
   cases e
   exact ⟨o,I.kIn _ o hk,hd⟩
  ·have z:∃o,s.heap.get? p=some o∧o.ExactDict:=by
    rcases hk with ⟨kvs,hk⟩ | ⟨kvs,hk⟩
    ·obtain ⟨_,_,_,_,o,_,_,e,ex,_⟩:=I.hok p _ hk
     exact ⟨o,e,ex⟩
    ·obtain ⟨_,_,_,_,o,_,_,e,ex,_⟩:=I.hok p _ hk
     exact ⟨o,e,ex⟩
   obtain ⟨o,e,ex⟩:=z
   refine ⟨⟨o,e,ex.1⟩,fun a e2=>?_⟩
   cases e2
   exact ⟨o,e,ex.2.1⟩
  ·obtain ⟨o,_,_,_,e,ex,_⟩:=I.hok p _ hk
   refine ⟨⟨o,e,ex.1⟩,fun a e2=>?_⟩
   cases e2
   exact ⟨o,e,ex.2.1⟩
 | _=>exact False.elim ty
def HF (K:PySem.W.Frag) (T:String) (r:V→List V→Hp→VK→Prop) (to:TE) (t:TA):TE:=fun σ H Q=>to σ H fun x H1=>HL K T x H1∧t σ H1 fun xs H2=>r x xs H2 Q
variable {o e:Expr}{es:List Expr}{to:TE}{t:TA}{name:Str}{apos cpos:Pos}{T id:String}{r:V→List V→Hp→VK→Prop}
theorem Ho (pa:PlainAttrs T) (slot:Slot T name id) (hty:typeOf (.builtin id)=pure (.type "method_descriptor")) (hm:sf X id r) (ho:PE X o to) (ha:PA X (e :: es) t)
 (hbase:attributeBase o name X.env (eval o X.env)=eval o X.env:=by rfl)
 (hfew:((backTo cpos (starEach (e :: es) X.env)).all (fun x=>!x.1) && (backToKw cpos (keywordEach [] X.env)).all (fun x=>x.1.isSome)
  && decide ((e :: es).length+([]:List Keyword).length+(if ([]:List Keyword).isEmpty then 0 else 1)<30))=true:=by rfl)
 (hline:(apos.endLine==cpos.line)=true:=by rfl) (hs:starEach (e :: es) X.env=(false,eval e X.env) :: starEach es X.env:=by rfl) (hplain:(backTo cpos (starEach es X.env)).any (·.1)=false:=by rfl) :
 PE X (.Call (.Attribute o name apos) (e :: es) [] cpos) (HF X.K T r to t):=by
 intro pins s σ H Q I h
 refine wpAny_Call_method_late hbase hfew hline rfl (aK (ho pins s σ H _ I h) fun v s1 ⟨x,H1,I1,r1,ty,q1⟩=>?_)
 obtain ⟨h1,h2⟩:=Fo I1 r1 ty
 refine ⟨T,id,pa,slot,hty,h1,h2,?_⟩
 have hA:=ha cpos pins s1 σ H1 _ I1 q1
 rw [hs] at hA ⊢
 refine Calls.callWith_builtin (by show (false || (backTo cpos (starEach es X.env)).any (·.1))=false;rw [hplain] <;> rfl) (Calls.evalArgs_plain ?_)
 exact aK hA fun us s2 ⟨vs,H2,I2,r2,q2⟩=>hm pins s2 σ H2 x vs v us Q I2 r1 r2 q2
/- xs.append(e), list.index on a module's tuple .. are sf facts of 06m -/
end
end L2
namespace L2
open PySem PySem.Spec PyProof.Rows
def ES (X:Cx) (id:String) (r:V→List V→Hp→VK→Prop):Prop:=
 ∀(pins:List (Addr×Obj)) (s:Shared) (σ:St) (H:Hp) (x:V) (xs:List V) (v:Value) (us:List Value) (Q:VK),aa X pins σ H s→aO x v→aC xs us→r x xs H Q→
   wpAny (model X.prog X.w) X.A (call (.builtin id) (v :: us)) (EP X pins σ Q) X.xe s
theorem Paired.un {α β:Type}{R:α→β→Prop}{x:α}{xs:List α}{us:List β} (h:Paired R (x :: xs) us):aV fun u vs=>us=u :: vs∧R x u∧Paired R xs vs:=by
 cases h with
 | cons r q=>exact ⟨_,_,rfl,r,q⟩
theorem Paired.un0 {α β:Type}{R:α→β→Prop}{us:List β} (h:Paired R [] us):us=[]:=by
 cases h with
 | nil=>rfl
theorem aC.one {x:V}{us:List Value} (h:aC [x] us):∃u,us=[u]∧aO x u:=by
 obtain ⟨u,vs,rfl,r,q⟩:=Paired.un h
 rw [Paired.un0 q]
 exact ⟨u,rfl,r⟩
theorem aC.two {x y:V}{us:List Value} (h:aC [x,y] us):aV fun u v=>us=[u,v]∧aO x u∧aO y v:=by
 obtain ⟨u,vs,rfl,r,q⟩:=Paired.un h
 obtain ⟨v,rfl,q2⟩:=aC.one q
 exact ⟨u,v,rfl,r,q2⟩
theorem aC.rep {xs:List V}{us:List Value} (h:aC xs us):∀k:Nat,aC (List.replicate k xs).flatten (List.replicate k us).flatten
 | 0=>.nil
 | k+1=>by
  rw [List.replicate_succ,List.replicate_succ,List.flatten_cons,List.flatten_cons]
  exact aC.append h (aC.rep h k)
theorem tS (its:List Value):∀(k:Nat) (acc:List Value),
 List.foldl (fun x1 x2=>x1++x2) acc.toArray (List.replicate k its.toArray)=(acc++(List.replicate k its).flatten).toArray
 | 0,acc=>by simp
 | k+1,acc=>by
  have e:acc.toArray++its.toArray=(acc++its).toArray:=by simp
  have e2:(acc++its)++(List.replicate k its).flatten=acc++(List.replicate (k+1) its).flatten:=by
   rw [List.replicate_succ,List.flatten_cons,List.append_assoc]
  rw [←e2,←tS its k (acc++its),←e,List.replicate_succ,List.foldl_cons]
section
variable {X:Cx}{pins:List (Addr×Obj)}{σ:St}{H:Hp}{s:Shared}{l b:Addr}{xs ys zs:List V}
theorem aa.lset {its its':List Value}{n:Nat}{f:Array Value→Array Value}{t':Nat} (I:aa X pins σ H s) (hH:H l=some (.lst xs))
 (e:s.heap.get? l=some { cls:=.type "list",data:=.seq its.toArray n }) (hf:f its.toArray=its'.toArray) (hv:aC ys its') (hz:ys.length≤sizeLine) :
 aa X pins σ (aL H l (.lst ys)) { s with heap:=s.heap.update l (Obj.mapSeq f),toks:=t' }:=by
 have q:=PySem.IsL.update e f
 rw [hf] at q
 refine I.write (x:=l) (e:=l) (by rw [hH];exact trivial) (.inl rfl) (fun b' u hb hu=>(Heap.get?_update_other s.heap (Obj.mapSeq f) (Ne.symm hb)).trans hu) ⟨_,q⟩ ?_
 exact ⟨hz,its',_,hv,q⟩
theorem aa.lnew {its:List Value}{t':Nat} (I:aa X pins σ H s) (hv:aC ys its) (hz:ys.length≤sizeLine) :
 aa X pins σ (aL H s.heap.objs.size (.lst ys)) { s with heap:=s.heap.push { cls:=.type "list",data:=.seq its.toArray },toks:=t' }:=
 I.laid (fun _ _ q=>Heap.get?_push_of_some _ q) (Nat.le_refl _) ⟨hz,its,0,hv,Heap.get?_push_size _ rfl⟩
theorem aa.fresh (I:aa X pins σ H s):H s.heap.objs.size=none:=I.hok.fresh (Nat.le_refl _)
theorem aa.lstM (I:aa X pins σ H s) (hH:H l=some (.lst xs)):xs.length≤sizeLine∧aV fun (its:List Value) (n:Nat)=>aC xs its∧xs.length=its.length∧s.heap.get? l=some { cls:=.type "list",data:=.seq its.toArray n }:=by
 obtain ⟨z,its,n,r,e⟩:=I.hok l _ hH
 exact ⟨z,its,n,r,r.length,e⟩
theorem AA {n:Nat} (h:n≤sizeLine):Builtin.List.listTooLong n=false:=by
 unfold Builtin.List.listTooLong
 exact decide_eq_false (by trivial)
end
section
variable {X:Cx}
inductive AN (x:V) (vs:List V) (H:Hp) (Q:VK):Prop
 | mk (l:_) (xs:_) (y:_) (h0:x=.ref l) (h1:vs=[y]) (h2:H l=some (.lst xs)) (h3:xs.length<sizeLine) (h4:Q .non (aL H l (.lst (xs++[y]))))
def DG:V→List V→Hp→VK→Prop:=fun x vs H Q=>AN  x vs H Q
theorem ud:ES X "list.append" DG:=by
 intro pins s σ H x vs v us Q I rx rv h
 obtain ⟨l,xs,y,rfl,rfl,hH,hz,q⟩:=h
 cases rx
 obtain ⟨u,rfl,ru⟩:=rv.one
 obtain ⟨z,its,n,r,hl,e⟩:=I.lstM hH
 refine call_meets F.slot_list_append ⟨_,e,rfl⟩ F.entry_list_append (F.args_list_append_2 _ _) (PySem.list_append l its.toArray n u (by rw [List.size_toArray];trivial)) ⟨e,?_⟩
 refine ⟨.non,_,I.lset (its':=its++[u]) hH e (by simp) (r.append (.cons ru .nil)) ?_,rfl,q⟩
 rw [List.length_append,List.length_singleton]
 trivial
inductive GW (x:V) (y:V) (H:Hp) (Q:VK):Prop
 | mk (l:_) (b:_) (xs:_) (zs:_) (h0:x=.ref l) (h1:y=.ref b) (h2:H l=some (.lst xs)) (h3:H b=some (.lst zs)) (h4:xs.length+zs.length≤sizeLine) (h5:∀p,H p=none→Q (.ref p) (aL H p (.lst (xs++zs))))
def Ik:R2:=fun x y H Q=>GW  x y H Q
theorem Fd:b8 X (binaryOp .Add) Ik:=by
 intro pins s σ H x y v u Q I rx ry h
 obtain ⟨l,b,xs,zs,rfl,rfl,hH,hB,hz,q⟩:=h
 cases rx
 cases ry
 obtain ⟨z,its,n,r,hl,e⟩:=I.lstM hH
 obtain ⟨z2,its2,n2,r2,hl2,e2⟩:=I.lstM hB
 refine PySem.P.add_list e e2 ?_ (by rw [List.size_toArray,List.size_toArray];trivial)
 have ea:its.toArray++its2.toArray=(its++its2).toArray:=by simp
 rw [ea]
 exact ⟨.ref _,_,I.lnew (t':=s.toks) (r.append r2) (by rw [List.length_append];trivial),rfl,q _ I.fresh⟩
inductive GJ (x:V) (y:V) (H:Hp) (Q:VK):Prop
 | mk (l:_) (k:_) (xs:_) (h0:x=.ref l) (h1:y=.int k) (h2:H l=some (.lst xs)) (h3:-(2 ^ 63)≤k) (h4:k<2 ^ 63) (h5:xs.length*k.toNat≤sizeLine) (h6:∀p,H p=none→Q (.ref p) (aL H p (.lst (List.replicate k.toNat xs).flatten)))
def IJ:R2:=fun x y H Q=>GJ  x y H Q
theorem xE {α:Type} (xs:List α) (k:Nat):(List.replicate k xs).flatten.length=k*xs.length:=by
 induction k with
 | zero=>simp
 | succ k ih=>rw [List.replicate_succ,List.flatten_cons,List.length_append,ih,Nat.succ_mul,Nat.add_comm]
theorem EA:b8 X (binaryOp .Mult) IJ:=by
 intro pins s σ H x y v u Q I rx ry h
 obtain ⟨l,k,xs,rfl,rfl,hH,h1,h2,hz,q⟩:=h
 cases rx
 obtain ⟨t,rfl⟩:=ry
 obtain ⟨z,its,n,r,hl,e⟩:=I.lstM hH
 have hlen:its.toArray.size*k.toNat≤sizeLine:=by rw [List.size_toArray,←hl];exact hz
 have hcap:¬its.toArray.size*k.toNat > (2 ^ 63 - 1) / 8:=by
  have:(sizeLine:Nat)≤(2 ^ 63 - 1) / 8:=by decide
  trivial
 have hfit:¬(!Builtin.List.listFitsIndex k)=true:=by
  rw [fitsIndex_both h1 h2]
  exact Bool.false_ne_true
 have hlong:¬Builtin.List.listTooLong (its.toArray.size*k.toNat)=true:=by
  rw [AA hlen]
  exact Bool.false_ne_true
 have hnew:List.foldl (fun x1 x2=>x1++x2) #[] (List.replicate (if its.toArray.isEmpty=true then 0 else k.toNat) its.toArray)=(List.replicate k.toNat its).flatten.toArray:=by
  have f0:∀m:Nat,List.foldl (fun x1 x2=>x1++x2) #[] (List.replicate m its.toArray)=(List.replicate m its).flatten.toArray:=fun m=>by
   have:=tS its m []
   rw [List.nil_append] at this
   exact this
  rw [f0]
  cases its with
  | nil=>simp
  | cons a r'=>rw [if_neg (by simp)]
 refine wpAny_binaryOp_repeat_ref (T := "list") (U := "int") (by decide) ⟨_,e,rfl⟩ (fun s'=>typeIs_int s' k t) noFill_list_mul F.fills_int_mul F.slot_int_rmul repeat_list F.slot_int_index.lookup
  (call_meets F.slot_int_rmul (typeIs_int s k t) F.entry_int_rmul (F.args_int_rmul_2 _ _) (int___rmul___int_list k t l its.toArray n)
   ⟨e,rfl,⟨_,e,rfl⟩,call_meets F.slot_list_mul ⟨_,e,rfl⟩ F.entry_list_mul (F.args_list_mul_2 _ _) (AutoListH.list___mul___list_int_3 l its.toArray n k t hfit hcap hlong) ⟨e,?_⟩⟩)
 rw [hnew]
 exact ⟨.ref _,_,I.lnew (t':=s.toks) (r.rep k.toNat) (by rw [xE,Nat.mul_comm];exact hz),rfl,q _ I.fresh⟩
end
section
variable {prog:Program}{w:World}{A:Around}{E:Value→Shared→Prop}{s:Shared}
set_option maxRecDepth 100000 in
end
section
variable {X:Cx}
end
end L2
namespace Att
open PySem PySem.W PySem.Calls PyProof.Rows
theorem qW {P:Params}{h:Heap}:∀(ns:List Int) (vs:List Value),WellAll P h vs (ns.map WData.int)→IntsAre vs ns:=by
 intro ns
 induction ns with
 | nil=>
  intro vs w
  rw [List.map_nil] at w
  cases w
  exact .nil
 | cons n ns ih=>
  intro vs w
  rw [List.map_cons] at w
  cases w with
  | cons a b=>
   cases a
   exact .cons _ _ (ih _ b)
theorem Ao {l:OpenLaw}{n:Nat} (hn:l.most=some n) {P:Params}{h:Heap}{args:List WData}{vals:List Value}
 (hpre:l.row.toRowW.claim.pre args=true) (hwl:WellAll P h vals args) :
 ∃a vs ns,vals=[Value.ref a]∧args=[WData.list (ns.map WData.int)]∧h.get? a=some { cls:=.type "list",data:=.seq vs.toArray }∧IntsAre vs ns∧ns.length≤n:=by
 have hsh:WShape.hasAll [] args [.list .int]=true:=(pre_splitW hpre).1
 have hc:l.pre.holds [] { args:=args }=true:=(pre_splitW hpre).2
 obtain ⟨d,r,rfl,h1,h2⟩:=hasAllW_cons hsh
 obtain rfl:=hasAllW_nil h2
 obtain ⟨xs,rfl,h3⟩:=hasW_list h1
 obtain ⟨ns,rfl⟩:=items_int h3
 have hlen:ns.length≤n:=by
  unfold OpenLaw.pre at hc
  have h4:(WTm.not (.lt (.lit (.int (n:Int))) (.len (.arg 0)))).holds [] { args:=[.list (ns.map .int)] }=true:=by
   have h4:=(holds_andW hc).1
   rw [hn] at h4
   exact h4
  have h5:=condW_of h4 (w_not (w_lt w_lit (w_len_list (w_arg rfl))))
  rw [List.length_map] at h5
  refine Nat.le_of_not_lt fun q=>?_
  have q':(n:Int)<((ns.length:Nat):Int):=by trivial
  first
   | (rw [decide_eq_true q'] at h5;exact absurd h5 (by decide))
   | (simp at h5;trivial)
 cases hwl with
 | cons w1 w2=>
  cases w2
  cases w1 with
  | list ho hall=>exact ⟨_,_,ns,rfl,rfl,ho,qW ns _ hall,hlen⟩
theorem zJ (l:OpenLaw) (args:List WData):l.row.toRowW.claim.post args (.bool true) args=true:=
 postW_of (r:=l.row.toRowW) (X:=(true==true))
  (show WShape.has [] (.bool true) .bool=true by first | rfl | decide | simp [WShape.has,WShape.arms,WShape.armsAll])
  (show (WTm.eq .res (.lit (.bool true))).value [] { args:=args,res:=some (.bool true),after:=args }=some (.bool (true==true)) from w_eq_bool (w_res rfl) w_lit) rfl
theorem attach_call {l:OpenLaw}{n:Nat}{q:Program}{loose:List Str}{XP:(Str→Option Value)→Heap→Prop}{YP:World→Heap→Prop}{d:DefRec}
 (hn:l.most=some n) (hdf:d.params.defaults=[])
 (call:∀(w:World) (s₀ s₁:Shared) (mg mb:Str→Option Value) (fa:Addr) (o:Obj) (pm cd doc:Value) (a:Addr) (vs:List Value) (ns:List Int),
  Ground q loose [] XP w s₀ mg mb s₁.heap→YP w s₁.heap→
  s₁.heap.get? fa=some o→o.data=.func (docDef d.name d.params d.body d.scope pm cd doc)→s₁.heap.CodeRec cd d.name→mg d.name=some (.ref fa)→
  s₁.heap.get? a=some { cls:=.type "list",data:=.seq vs.toArray }→IntsAre vs ns→ns.length≤n→s₁.gens=#[]→
  codeAny (model l.prog w) callerA (.call (.ref fa) ⟨[.ref a],[]⟩) (fun r s'=>r=.ok (.ret (.bool true))∧OldK s₁.heap s'.heap∧s'.os=s₁.os∧AllBare s'.gens) s₁) :
 WalkO q loose XP YP l.row.toRowW d [] (fun f vs=>PySem.call f vs):=by
 intro w s₀ s₁ mg mb G Y fa o pm cd doc dV kV ho hd hcd hD hmg hg args vals as hpre hlay hrd hwl hlo
 obtain rfl:dV=.none:=Dflts.none hD hdf
 obtain rfl:kV=.none:=Dflts.noKw hD
 obtain ⟨a,vs,ns,rfl,rfl,hobj,hints,hlen⟩:=Ao hn hpre hwl
 refine enter_call (codeAny_mono (call w s₀ s₁ mg mb fa o pm cd doc a vs ns G Y ho (fd_plain hd) hcd hmg hobj hints hlen hg) fun r s' hq=>?_)
 obtain ⟨rfl,h2,h3,h4⟩:=hq
 exact ⟨.inl ⟨.bool true,.bool true,[],rfl,fun _=>rfl,.bool true,zJ l _,fun _=>⟨List.Pairwise.nil,fun _ hm=>(nomatch hm)⟩⟩,h2,h3,h4⟩
section
variable {prog:Program}{w:World}{A:Around}{E:Value→Shared→Prop}{s:Shared}{K:Frag}
end
end Att
namespace L2
open PySem PySem.Spec PyProof.Rows
theorem tI:∀{vs:List Value}{ns:List Int},IntsAre vs ns→aC (ns.map V.int) vs
 | _,_,.nil=>.nil
 | _,_,.cons n t h=>.cons ⟨t,rfl⟩ (tI h)
def sR (H:Hp):Prop:=∀b,H b=none∨aV fun o xs=>H b=some (.frz o (.lst xs))
theorem A5 {P:Program}{w:World}{K:PySem.W.Frag}{mg mb:Str→Option Value}{CX:jL}{k:Nat}{fa a:Addr}{fd:FuncData}{x:Str}{sp:Sp}{s₁:Shared}{vs:List Value}{ns:List Int}
 (KX:K.In s₁.heap) (hns:s₁.heap.Ns mainGlobals mg) (hb:s₁.heap.Ns builtinsNs mb) (hbb:∀x:Str,x≠"__name__"→mb x=bootBuiltins x) (hlim:s₁.heap.NoLimit) (hg:s₁.gens=#[])
 (ha:s₁.heap.get? a=some { cls:=.type "list",data:=.seq vs.toArray }) (hi:IntsAre vs ns) (hl:ns.length≤sizeLine) (hr:cy k callerA)
 (F:∀base:Heap,K.In base→base.Ns mainGlobals mg→aZ P w K mg base CX k fa fd [x] sp) (hbind:∀(s:Shared) (u:Value),BindsTo s fd ⟨[u],[]⟩ [(x,u)])
 (hsp:∀H:Hp,sR H→ar K H a (ns.map V.int)→sp [.ref a] H (fun v _=>v=.bl true) fun _ _ _=>False)
 (hCX:∀H e s',CX [] H s₁ (fun _ _ _=>False) e s'→False) :
 codeAny (model P w) callerA (.call (.ref fa) ⟨[.ref a],[]⟩) (fun r s'=>r=.ok (.ret (.bool true))∧OldK s₁.heap s'.heap∧s'.os=s₁.os∧AllBare s'.gens) s₁:=by
 have rv:=tI hi
 have lenV:=hi.length
 have core:∀H:Hp,sR H→ar K H a (ns.map V.int)→dc P w H s₁.heap→(∀b,H b≠none→b=a)→(H a≠none→K.lookup a=none)→
  codeAny (model P w) callerA (.call (.ref fa) ⟨[.ref a],[]⟩) (fun r s'=>r=.ok (.ret (.bool true))∧OldK s₁.heap s'.heap∧s'.os=s₁.os∧AllBare s'.gens) s₁:=by
  intro H hO hS hok hA hK
  have base_of:∀{b:Addr}{o:Obj},s₁.heap.get? b=some o→H b=none→(nv s₁.heap H).get? b=some o:=fun e n=>Ay e n
  have noA:∀{b:Addr}{o:Obj}{es:Array DictEntry}{ep:Nat},s₁.heap.get? b=some o→o.data=.dict es ep→H b=none:=fun {b o es ep} e d=>by
   cases q:H b with
   | none=>rfl
   | some u=>
    have e':b=a:=hA b (by rw [q];simp)
    subst e'
    rw [ha] at e;cases e
    have d':Data.seq vs.toArray _=Data.dict es ep:=d
    cases d'
  have nsK:∀{b:Addr}{m:Str→Option Value},s₁.heap.Ns b m→(nv s₁.heap H).Ns b m:=fun {b m} ⟨o,es,ep,e,d,r⟩=>⟨o,es,ep,base_of e (noA e d),d,r⟩
  have hKb:K.In (nv s₁.heap H):=fun b o e=>base_of (KX b o e) (by
   cases q:H b with
   | none=>rfl
   | some u=>
    have e':b=a:=hA b (by rw [q];simp)
    subst e'
    rw [hK (by rw [q];simp)] at e;cases e)
  have hM:Mod K mg (nv s₁.heap H):=⟨hKb,nsK hns,⟨mb,nsK hb,hbb⟩,let ⟨mc,h1,h2⟩:=hlim;⟨mc,nsK h1,h2⟩⟩
  have e0:qO P w K mg (nv s₁.heap H) callerA [] s₁ H:=⟨rfl,hM,fun b o e=>C7 e,Nat.le_of_eq (Ap _ _),trivial,fun b hb=>absurd (show b∈([]:List Addr) from hb) (by simp),hok,.of_eq hg⟩
  refine codeAny_mono ((F _ hKb (nsK hns)).run callerA [] s₁ H ⟨[.ref a],[]⟩ [.ref a] [.ref a] _ _ hr e0 (hbind s₁ (.ref a)) (.cons rfl .nil) (hsp H hO hS)) fun r s' h=>?_
  cases r with
  | error e=>exact (hCX H e s' h).elim
  | ok fl=>
   cases fl with
   | next=>exact False.elim h
   | brk=>exact False.elim h
   | cont=>exact False.elim h
   | ret u=>
    obtain ⟨v,H',os,bare,un,hok',r',q⟩:=h
    have q':v=.bl true:=q
    subst q'
    obtain rfl:u=Value.bool true:=r'
    refine ⟨rfl,OldK.of_keep fun b o e=>?_,os,bare⟩
    cases q:H b with
    | none=>exact un.keep b o e q (by intro z;exact absurd (show b∈([]:List Addr) from z) (by simp)) (by simp)
    | some u=>
     rcases hO b with z | ⟨ob,xs,z⟩
     ·rw [q] at z;cases z
     ·have z2:=un.frzs b ob _ z
      obtain ⟨e1,_⟩:=hok b _ z
      obtain ⟨e2,_⟩:=hok' b _ z2
      rw [e] at e1;cases e1
      exact e2
 cases hk:K.lookup a with
 | some o=>
  have e:=KX a o hk
  rw [ha] at e
  cases e
  refine core (fun _=>none) (fun _=>.inl rfl) (.inr ⟨_,vs.toArray,_,hk,rfl,rfl,rfl,by rw [List.size_toArray,lenV];exact hl,by simpa using rv⟩) (fun b u z=>by have z':(none:Option HO)=some u:=z;cases z') (fun b z=>absurd rfl z) fun z=>absurd rfl z
 | none=>
  refine core (fun b=>if b=a then some (.frz { cls:=.type "list",data:=.seq vs.toArray } (.lst (ns.map V.int))) else none) (fun b=>?_) (.inl (.inr ⟨{ cls:=.type "list",data:=.seq vs.toArray },if_pos rfl⟩)) (fun b u z=>?_) (fun b z=>?_) fun _=>hk
  ·by_cases hb:b=a
   ·exact .inr ⟨_,_,if_pos hb⟩
   ·exact .inl (if_neg hb)
  ·by_cases hb:b=a
   ·have z':=(if_pos hb).symm.trans z
    cases z'
    subst hb
    exact ⟨ha,by rw [List.length_map];exact hl,vs,_,rv,ha⟩
   ·have z':=(if_neg hb).symm.trans z
    cases z'
  ·by_cases hb:b=a
   ·exact hb
   ·exact absurd (if_neg hb) z
theorem walk_of {l:PySem.W.OpenLaw}{n k:Nat}{q:Program}{loose:List Str}{XP:(Str→Option Value)→Heap→Prop}{YP:World→Heap→Prop}{d:DefRec}{K:Params→PySem.W.Frag}{CX:World→jL}{sp:World→Sp}{x:Str}
 (hn:l.most=some n) (hn2:n≤sizeLine) (hdf:d.params.defaults=[]) (hr:cy k callerA)
 (hY:∀(w:World) (h:Heap),YP w h→(K w.params).In h)
 (F:∀(w:World) (mg:Str→Option Value) (fa:Addr) (h:Heap),(K w.params).In h→h.Ns mainGlobals mg→mg d.name=some (.ref fa)→
  ∃fd:FuncData,(∀(s:Shared) (u:Value),BindsTo s fd ⟨[u],[]⟩ [(x,u)])∧
   ∀base:Heap,(K w.params).In base→base.Ns mainGlobals mg→aZ l.prog w (K w.params) mg base (CX w) k fa fd [x] (sp w))
 (hsp:∀(w:World) (H:Hp) (a:Addr) (ns:List Int),ns.length≤n→sR H→ar (K w.params) H a (ns.map V.int)→sp w [.ref a] H (fun v _=>v=.bl true) fun _ _ _=>False)
 (hCX:∀(w:World) (H:Hp) (s:Shared) (e:Value) (s':Shared),CX w [] H s (fun _ _ _=>False) e s'→False) :
 PySem.W.WalkO q loose XP YP l.row.toRowW d [] (fun f vs=>PySem.call f vs):=by
 refine Att.attach_call hn hdf fun w s₀ s₁ mg mb fa o pm cd doc a vs ns G Y ho hd hcd hmg hobj hints hlen hg=>?_
 have KX:=hY w _ Y
 obtain ⟨fd,hb,hF⟩:=F w mg fa _ KX G.T.g hmg
 exact A5 KX G.T.g G.T.b G.T.builtins G.T.nolimit hg hobj hints (Nat.le_trans hlen hn2) hr hF hb (fun H hO hS=>hsp w H a ns hlen hO hS) fun H e s'=>hCX w H s₁ e s'
theorem Bi {l:PySem.W.OpenLaw}{n k:Nat}{q:Program}{loose:List Str}{XP:(Str→Option Value)→Heap→Prop}{YP:World→Heap→Prop}{d:DefRec}{K:Params→PySem.W.Frag}{CX:jL}{sp:PySem.W.Frag→Sp}{x:Str}
 (hn:l.most=some n) (hn2:n≤sizeLine) (hdf:d.params.defaults=[]) (hr:cy k callerA)
 (hY:∀(w:World) (h:Heap),YP w h→(K w.params).In h)
 (F:∀(w:World) (mg:Str→Option Value) (fa:Addr) (h:Heap),(K w.params).In h→h.Ns mainGlobals mg→mg d.name=some (.ref fa)→
  ∃fd:FuncData,(∀(s:Shared) (u:Value),BindsTo s fd ⟨[u],[]⟩ [(x,u)])∧
   ∀base:Heap,(K w.params).In base→base.Ns mainGlobals mg→aZ l.prog w (K w.params) mg base CX k fa fd [x] (sp (K w.params)))
 (hsp:∀(K:PySem.W.Frag) (H:Hp) (a:Addr) (ns:List Int),ns.length≤n→sR H→ar K H a (ns.map V.int)→sp K [.ref a] H (fun v _=>v=.bl true) fun _ _ _=>False)
 (hCX:∀(H:Hp) (s:Shared) (e:Value) (s':Shared),CX [] H s (fun _ _ _=>False) e s'→False) :
 PySem.W.WalkO q loose XP YP l.row.toRowW d [] (fun f vs=>PySem.call f vs):=
 walk_of (K:=K) (CX:=fun _=>CX) (sp:=fun w=>sp (K w.params)) hn hn2 hdf hr hY F (fun w H a ns h1 h2 h3=>hsp (K w.params) H a ns h1 h2 h3) fun _ H s e s'=>hCX H s e s'
end L2
/- THE LAST THEOREM (shape; LID, My.* are yours):
 My.Adr: a structure of the addresses that your layer names (classes, functions); My.Txt K t: a structure (Prop) of the equations over K;
 My.txt_mk : {K} {implicit addresses ..} (e1 : nsIn K mainGlobals "law" = some (some (.ref f))) (e2 : K.lookup f = some ⟨oc, od, .func (fnOf "law" "law" params body scope dV kV doc pm an cdv ct), sl⟩) (e3 : codeIn K cdv "law" = true) .. : ∃ t, My.Txt K t
set_option maxRecDepth 100000 in
set_option maxHeartbeats 0 in
theorem PySem.Challenge.cw_LID_holds : PySem.Challenge.rw_LID.Holds := by
 w_on; o_law; k_head; (case hw => w_witness2)
 k_fill
 refine L2.walk_of (l := PySem.Challenge.rw_LID) (n := 63) (k := 40) (x := "script") (CX := fun w => ..) (sp := fun _ => My.sp_law) rfl (by decide) rfl ⟨rfl, by decide, by decide⟩ (fun w h Y => PySem.W.kIn_of Y) ?F ?S ?C
 case F =>
  intro w mg fa h KX G hmg
  have T : ∃ t, My.Txt (L2.KOf KX) t := by
   dsimp only [L2.KOf]                          -- K must stand as «<heap const> w.params» for k_is
   refine' My.txt_mk ?e1 ?e2 ?e3 ..
   (case e1 => PySem.W.k_is)                    -- in the order: a name -> its address -> its object -> its parts
   (case e2 => PySem.W.k_is)
   ..
  obtain ⟨t, T⟩ := T
  have e0 := hmg.symm.trans (PySem.W.mg_of KX G T.law)
  cases e0                                       -- fa is the law's own address
  exact ⟨_, fun s u => .of_eq rfl, fun base kb nb => My.law_fn T kb nb⟩     -- if «.of_eq rfl» comes too early: refine' ⟨_, ?b, fun base kb nb => My.law_fn T kb nb⟩; exact fun s u => .of_eq rfl
 case S => exact fun w H a ns hl hO hS => ..
 case C => exact ..
(the tactic k_is has no namespace: write k_is) -/
namespace L2
open PySem PySem.Spec PyProof.Rows
def sL (s:Stmt):Arguments:=match s with
 | .FunctionDef _ a _ _ _ _ _ _ _ _=>a
 | _=>{ posonlyargs:=[],args:=[],vararg:=none,kwonlyargs:=[],kw_defaults:=[],kwarg:=none,defaults:=[] }
def mh (s:Stmt):List Stmt:=match s with
 | .FunctionDef _ _ b _ _ _ _ _ _ _=>b
 | _=>[]
def ap (s:Stmt):Scope:=match s with
 | .FunctionDef _ _ _ _ _ _ sc _ _ _=>sc
 | _=>{ kind:=.function,names:=[],isGenerator:=false,isCoroutine:=false }
abbrev CX0:jL:=fun _ _ _ _ _ _=>False
abbrev E0:XK:=fun _ _ _=>False
theorem pR {X:Cx}:vH CX0 X E0:=fun _ _ _ _ _ _ _ h=>h.elim
structure kK (K:PySem.W.Frag) (x qual:Str) (st:Stmt) (f:Addr) (fd:FuncData):Prop where
 ex:EN fun (oc:Value) (od:Option Addr) (kV doc pm:Value) (an:Option Addr) (cdv ct:Value) (osl:Array (Option Value))=>
  fd=PySem.W.fnOf x qual (sL st) (mh st) (ap st) .none kV doc pm an cdv ct∧K.lookup f=some ⟨oc,od,.func fd,osl⟩∧PySem.W.codeIn K cdv qual=true
 kp:PySem.W.keepIn K (.ref f)=true
section
variable {P:Program}{w:World}{K:PySem.W.Frag}{mg:Str→Option Value}{base:Heap}
theorem kK.ok {x qual:Str}{st:Stmt}{f:Addr}{fd:FuncData}{N ps:List Str}{k:Nat}{sp:Sp} (F:kK K x qual st f fd) (S:aF N ps (ap st)) (len:∀vs H Q E,sp vs H Q E→vs.length=ps.length)
 (hbody:∀(cdv:Value) (A:Around) (outer:List Env) (s:Shared) (H:Hp) (vs:List V) (Q:VK) (E:XK),cy k (A.deeper (envOfC qual (ap st) s.heap.objs.size f cdv))→sp vs H Q E→
  ∃t,j8 (oC CX0 P w K mg base N qual (ap st) f cdv A outer s H E).nox (mh st) t∧t { nx:=fun _ H'=>Q .non H',rt:=Q } (jB N vs) H):aZ P w K mg base CX0 (k+1) f fd ps sp:=by
 obtain ⟨oc,od,kV,doc,pm,an,cdv,ct,osl,rfl,lk,hcd⟩:=F.ex
 refine BC lk hcd S len fun A outer s H vs Q E hr hsp=>?_
 obtain ⟨t,h,q⟩:=hbody cdv A outer s H vs Q E hr hsp
 exact ⟨t,h.nox,q⟩
theorem kK.binds {x qual:Str}{st:Stmt}{f:Addr}{fd:FuncData}{ps:List Str} (F:kK K x qual st f fd)
 (h:∀(kV doc pm:Value) (an:Option Addr) (cdv ct:Value) (us:List Value),us.length=ps.length→bindArgs (PySem.W.fnOf x qual (sL st) (mh st) (ap st) .none kV doc pm an cdv ct) ⟨us,[]⟩=pure (ps.zip us)):fM K fd ps []:=by
 obtain ⟨oc,od,kV,doc,pm,an,cdv,ct,osl,rfl,lk,hcd⟩:=F.ex
 exact .all (h kV doc pm an cdv ct)
end
section
variable {X:Cx}
theorem pv (i:Nat) {x:Str}{pos:Pos} (hN:X.N[i]?=some x:=by rfl) (hv:xk X.env.scope x:=by first | exact Or.inl rfl | exact Or.inr (Or.inl rfl) | exact Or.inr (Or.inr rfl)) (hd:(x==("__debug__" : Str))=false:=by decide)
 (hcd:(x==("__classdict__" : Str))=false:=by decide):PE X (.Name x pos) (yy i):=zT hN hv hd hcd
end
theorem ay {A B:Prop} (h:B):if false=true then A else B:=by
 rw [if_neg Bool.false_ne_true]
 exact h
theorem aA {A B:Prop} (h:A):if true=true then A else B:=by
 rw [if_pos rfl]
 exact h
theorem kU {c A B:Prop} [Decidable c] (h1:c→A) (h2:¬c→B):if c then A else B:=by
 by_cases h:c
 ·rw [if_pos h]
  exact h1 h
 ·rw [if_neg h]
  exact h2 h
def ae (H H':Hp):Prop:=∀b o,H b=some o→H' b=some o
theorem ae.refl (H:Hp):ae H H:=fun _ _ h=>h
theorem ae.trans {H H1 H2:Hp} (a:ae H H1) (b:ae H1 H2):ae H H2:=fun c o h=>b c o (a c o h)
theorem ae.free {H H':Hp} (e:ae H H') {l:Addr} (h:H' l=Option.none):H l=Option.none:=by
 cases q:H l with
 | none=>rfl
 | some o=>
  rw [e l o q] at h
  cases h
theorem ae.seq {K:PySem.W.Frag}{H H':Hp}{a:Addr}{xs:List V} (e:ae H H') (h:ar K H a xs):ar K H' a xs:=by
 rcases h with (h | ⟨o,h⟩) | h
 ·exact .inl (.inl (e _ _ h))
 ·exact .inl (.inr ⟨o,e _ _ h⟩)
 ·exact .inr h
end L2
namespace L2
open PySem
theorem xL {scope:Scope}{env:Env} (h:∀y∈scope.names,y.2=.free→∃c,env.cells.lookup y.1=some c) :
 ∃cl,closureFor scope env=pure cl∧(∀x c,cl.lookup x=some c→env.cells.lookup x=some c)∧(∀y∈scope.names,y.2=.free→∃c,cl.lookup y.1=some c):=by
 have go:∀(names:List (Str×NameKind)) (acc:List (Str×Addr)),(∀y∈names,y.2=.free→∃c,env.cells.lookup y.1=some c)→(∀x c,acc.lookup x=some c→env.cells.lookup x=some c)→
  ∃cl,(forIn names acc (fun (x:Str×NameKind) (cs:List (Str×Addr))=>match x with
   | (name,kind)=>if (kind==.free)=true then (do let a ←cellOf env name;pure (ForInStep.yield ((name,a) :: cs))) else pure (ForInStep.yield cs)):Sem (List (Str×Addr)))=pure cl∧
   (∀x c,cl.lookup x=some c→env.cells.lookup x=some c)∧(∀y∈names,y.2=.free→∃c,cl.lookup y.1=some c)∧(∀x c,acc.lookup x=some c→∃c',cl.lookup x=some c'):=by
  intro names
  induction names with
  | nil=>intro acc _ ha;exact ⟨acc,rfl,ha,fun y hy=>(by cases hy),fun x c e=>⟨c,e⟩⟩
  | cons x r ih=>
   intro acc hn ha
   obtain ⟨name,kind⟩:=x
   rw [List.forIn_cons]
   by_cases hk:kind=.free
   ·subst hk
    obtain ⟨c,hc⟩:=hn (name,.free) List.mem_cons_self rfl
    have e:cellOf env name=pure c:=by unfold cellOf;rw [hc]
    obtain ⟨cl,e1,e2,e3,e4⟩:=ih ((name,c) :: acc) (fun y hy=>hn y (List.mem_cons_of_mem _ hy)) (fun x c' hx=>by
     rw [List.lookup_cons] at hx
     split at hx
     ·rename_i hb
      have:x=name:=by simpa using hb
      subst this
      cases hx;exact hc
     ·exact ha x c' hx)
    refine ⟨cl,?_,e2,fun y hy hf=>?_,fun x c' hx=>?_⟩
    ·simp only [beq_self_eq_true,if_true]
     rw [e,pure_bind,pure_bind]
     exact e1
    ·rcases List.mem_cons.mp hy with rfl | hy
     ·exact e4 name c (by simp)
     ·exact e3 y hy hf
    ·by_cases hb:(x==name)=true
     ·have:x=name:=by simpa using hb
      subst this
      exact e4 x c (by simp)
     ·exact e4 x c' (by rw [List.lookup_cons];simp only [Bool.not_eq_true] at hb;rw [hb];exact hx)
   ·have hb:(kind==NameKind.free)=false:=by simpa using hk
    obtain ⟨cl,e1,e2,e3,e4⟩:=ih acc (fun y hy=>hn y (List.mem_cons_of_mem _ hy)) ha
    refine ⟨cl,?_,e2,fun y hy hf=>?_,e4⟩
    ·simp only [hb,Bool.false_eq_true,if_false]
     rw [pure_bind]
     exact e1
    ·rcases List.mem_cons.mp hy with rfl | hy
     ·exact absurd hf hk
     ·exact e3 y hy hf
 obtain ⟨cl,e1,e2,e3,_⟩:=go scope.names [] h (fun x c e=>by simp at e)
 refine ⟨cl,?_,e2,e3⟩
 unfold closureFor
 show (forIn scope.names _ _ >>= fun cs=>pure cs)=_
 rw [bind_pure]
 exact e1
section
variable {prog:Program}{w:World}{A:Around}{R:Result→Shared→Prop}{s:Shared}
theorem vL {elt target iter:Expr}{ifs:List Expr}{scope:Scope}{pos:Pos}{it acc:Value}{env:Env} (I:Nat→Shared→Prop)
 (turn:∀n s,I n s→wpAny (model prog w) A (pyNext it) (fun r s₁=>match r with
  | none=>R (.ok .next) s₁
  | some v=>wpAny (model prog w) A (letOwnedTupleGo target it v) (fun _ s₁'=>wpAny (model prog w) A (assign target env v) (fun _ s₂=>
   wpAny (model prog w) A (forIn ifs true fun c r=>if r=true then do let ok ←isTrue c env (eval c env);pure (ForInStep.yield ok) else pure (ForInStep.yield r)) (fun ok s₃=>
    if ok=true then wpAny (model prog w) A (eval elt env) (fun x s₄=>
     wpAny (model prog w) A (call (.builtin "list.append") [acc,x]) (fun _ s₅=>∃m,m<n∧I m s₅) (fun _ _=>False) s₄) (fun _ _=>False) s₃
    else ∃m,m<n∧I m s₃) (fun _ _=>False) s₂) (fun _ _=>False) s₁') (fun _ _=>False) s₁) (fun _ _=>False) s)
 (n:Nat) (h:I n s) :
 codeAny (model prog w) A (.compLoop (.ListComp elt [⟨target,iter,ifs,0⟩] scope pos) 0 it acc env) R s:=by
 refine codeAny_loop rfl I (fun n s hI=>?_) n h
 show wpAny _ A ((compTurn (.ListComp elt [⟨target,iter,ifs,0⟩] scope pos) 0 it acc env).onRaise (fun x=>do noteFrame x env;theTreesLotGoes x)) _ _ s
 refine wpAny_noted ?_
 rw [compTurn_list]
 refine wpAny_bind (wpAny_standAt (wpAny_bind (wpAny_mono (turn n s hI) (fun r s₁ h₁=>?_) fun _ _ h'=>h'.elim)))
 cases r with
 | none=>exact wpAny_pure h₁
 | some v=>
  refine wpAny_bind (wpAny_mono h₁ (fun _ s₁' h₁'=>?_) fun _ _ h'=>h'.elim)
  refine wpAny_bind (wpAny_mono h₁' (fun _ s₂ h₂=>wpAny_bind (wpAny_mono h₂ (fun ok s₃ h₃=>?_) fun _ _ h'=>h'.elim)) fun _ _ h'=>h'.elim)
  cases ok with
  | false=>exact wpAny_pure ⟨rfl,h₃⟩
  | true=>
   exact wpAny_bind (wpAny_bind (wpAny_mono h₃ (fun x s₄ h₄=>wpAny_bind (wpAny_mono h₄ (fun _ s₅ h₅=>wpAny_pure (wpAny_pure ⟨rfl,h₅⟩)) fun _ _ h'=>h'.elim)) fun _ _ h'=>h'.elim))
end
end L2
namespace L2
open PySem PySem.Spec PyProof.Rows
section
variable {X:Cx}
theorem jA:bU X (.builtin "isinstance") (fun xs H Q=>mf fun x T t b=>xs=[x,.ty T]∧fX X.K H x t∧PySem.W.kitOne X.K t (.type T)=some b∧Q (.bl b) H):=by
 intro pins s σ H xs us Q I r h
 obtain ⟨x,T,t,b,rfl,ty,e,q⟩:=h
 obtain ⟨u,c,rfl,ru,rc⟩:=r.two
 obtain rfl:c=Value.type T:=rc
 exact yT I ru ty e fun tk=>⟨.bl b,H,I.tok tk,rfl,q⟩
end
def vg (X:Cx) (scope:Scope) (cl:List (Str×Addr)) (C:Addr) (N':List Str) (s:Shared) (H:Hp) (ex:List Addr) (pn:List (Addr×Obj)):Cx:=
 { X with N:=N',s₀:=s,H₀:=H,env:=compEnvC scope cl C X.env,outer:=X.stack,ex:=ex,fn:=fun _=>false,pn:=pn,xe:=fun _ _=>False }
def nz (L:Nat) (src:List Nat) (σ:St):St:=List.replicate L none++src.map fun j=>(σ[j]?).join
def jY (σ σ':St):Prop:=σ'.length=σ.length∧∀(i:Nat) v,σ[i]?=some (some v)→σ'[i]?=some (some v)
theorem dW {x:V}{r:St}:jY (none :: r) (some x :: r):=⟨rfl,fun i v e=>by
 cases i with
 | zero=>simp at e
 | succ i=>simpa using e⟩
theorem B8 {x y:V}{r:St}:jY (none :: none :: r) (some x :: some y :: r):=⟨rfl,fun i v e=>by
 cases i with
 | zero=>simp at e
 | succ i=>
  cases i with
  | zero=>simp at e
  | succ i=>simpa using e⟩
def wm (X:Cx) (ifs:List Expr) (t:TT):Prop:=
 ∀(pins:List (Addr×Obj)) (s:Shared) (σ:St) (H:Hp) (Q:Bool→Hp→Prop),aa X pins σ H s→t σ H Q→
   wpAny (model X.prog X.w) X.A (forIn ifs true fun c r=>if r=true then do let ok ←isTrue c X.env (eval c X.env);pure (ForInStep.yield ok) else pure (ForInStep.yield r)) (TP X pins σ Q) X.xe s
def tT:TT:=fun _ H Q=>Q true H
theorem bO {X:Cx}:wm X [] tT:=fun _ _ _ H _ I h=>wpAny_pure ⟨H,I,h⟩
def lA (J:It) (σc:St) (g:TG) (tt:TT) (te:TE) (D:Addr) (H1:Hp) (Q:VK):Prop:=
 ∃W:Nat→Nat→Hp→List V→Prop,(∃m,W 0 m (aL H1 D (.lst [])) [])∧∀i m H ys,W i m H ys→H D=some (.lst ys)∧
  ((J.stop i H∧Q (.ref D) H)∨(J.go i H∧ys.length<sizeLine∧∃N:Hp→List V→Prop,(∀H' ys',N H' ys'→∃m',m'<m∧W (i+1) m' H' ys')∧
    ∀x H',J.yld i H x H'→g x σc H' fun σ2 H2=>jY σc σ2∧tt σ2 H2 fun b H3=>if b=true then te σ2 H3 fun y H4=>H4 D=some (.lst ys)∧N (aL H4 D (.lst (ys++[y]))) (ys++[y]) else N H3 ys))
def yh (wi:TI) (L:Nat) (src:List Nat) (g:TG) (tt:TT) (te:TE):TE:=fun σ H Q=>wi σ H fun J H1=>∀D,H1 D=none→lA J (nz L src σ) g tt te D H1 Q
section
variable {X:Cx}{elt tg iter:Expr}{ifs:List Expr}{scope:Scope}{pos:Pos}{N':List Str}{L:Nat}{src:List Nat}{wi:TI}{g:TG}{tt:TT}{te:TE}
end
theorem y4 {J:It}{n:Nat}{H1:Hp}{D:Addr}{σc:St}{g:TG}{tt:TT}{te:TE}{Q:VK} (Pv:Nat→Hp→List V→Prop) (hz:n≤sizeLine) (h0:Pv 0 (aL H1 D (.lst [])) [])
 (hD:∀i H ys,Pv i H ys→H D=some (.lst ys)∧ys.length≤i)
 (hgo:∀i H ys,i<n→Pv i H ys→J.go i H) (hst:∀H ys,Pv n H ys→J.stop n H)
 (hs:∀i H ys x H',i<n→Pv i H ys→J.yld i H x H'→g x σc H' fun σ2 H2=>jY σc σ2∧tt σ2 H2 fun b H3=>if b=true then te σ2 H3 fun y H4=>H4 D=some (.lst ys)∧Pv (i+1) (aL H4 D (.lst (ys++[y]))) (ys++[y]) else Pv (i+1) H3 ys)
 (hd:∀H ys,Pv n H ys→Q (.ref D) H):lA J σc g tt te D H1 Q:=by
 refine ⟨fun i m H ys=>m=n - i∧i≤n∧Pv i H ys,⟨n,by simp,Nat.zero_le _,h0⟩,?_⟩
 rintro i m H ys ⟨rfl,hi,p⟩
 obtain ⟨q1,q2⟩:=hD i H ys p
 refine ⟨q1,?_⟩
 by_cases hlt:i<n
 ·exact .inr ⟨hgo i H ys hlt p,by trivial,Pv (i+1),fun H' ys' p'=>⟨n - (i+1),by trivial,rfl,hlt,p'⟩,fun x H' y=>hs i H ys x H' hlt p y⟩
 ·have e:i=n:=by trivial
  subst e
  exact .inl ⟨hst H ys p,hd H ys p⟩
theorem dq {J:It}{n:Nat}{H1:Hp}{D:Addr}{σc:St}{g:TG}{te:TE}{Q:VK} (Pv:Nat→Hp→List V→Prop) (hz:n≤sizeLine) (h0:Pv 0 (aL H1 D (.lst [])) [])
 (hD:∀i H ys,Pv i H ys→H D=some (.lst ys)∧ys.length≤i)
 (hgo:∀i H ys,i<n→Pv i H ys→J.go i H) (hst:∀H ys,Pv n H ys→J.stop n H)
 (hs:∀i H ys x H',i<n→Pv i H ys→J.yld i H x H'→g x σc H' fun σ2 H2=>jY σc σ2∧te σ2 H2 fun y H4=>H4 D=some (.lst ys)∧Pv (i+1) (aL H4 D (.lst (ys++[y]))) (ys++[y]))
 (hd:∀H ys,Pv n H ys→Q (.ref D) H):lA J σc g tT te D H1 Q:=by
 refine y4 Pv hz h0 hD hgo hst (fun i H ys x H' hi p y=>?_) hd
 have e:=hs i H ys x H' hi p y
 have q:(fun (σ2:St) (H2:Hp)=>jY σc σ2∧tT σ2 H2 fun b H3=>if b=true then te σ2 H3 fun y H4=>H4 D=some (.lst ys)∧Pv (i+1) (aL H4 D (.lst (ys++[y]))) (ys++[y]) else Pv (i+1) H3 ys) =
  (fun σ2 H2=>jY σc σ2∧te σ2 H2 fun y H4=>H4 D=some (.lst ys)∧Pv (i+1) (aL H4 D (.lst (ys++[y]))) (ys++[y])):=by
  funext σ2 H2
  unfold tT
  dsimp only
  rw [if_pos rfl]
 rw [q]
 exact e
section
variable {X:Cx}{pins:List (Addr×Obj)}{σ:St}{H:Hp}{s:Shared}{h':Heap}
theorem aa.turnedNew {t':Nat}{ch:List Addr}{T:Addr}{o:HO} (I:aa X pins σ H s) (hf:∀b∈ch,jP X pins H b) (k:∀b u,b∉ch→s.heap.get? b=some u→h'.get? b=some u)
 (hT:s.heap.objs.size≤T) (new:bc X.prog X.w (aL H T o) h' T o):aa X pins σ (aL H T o) { s with heap:=h',toks:=t' }:=by
 have hn:H T=none:=I.hok.fresh hT
 refine I.step (g':=s.gens) (d':=s.drawn) (ch:=ch) (fun b hb=>?_) (fun b o _ _ hc e _=>k b o hc e) (fun b o _ _ hc e _=>⟨o.slots,k b o hc e⟩) (fun b o hc e n=>?_)
  (fun b o hc e=>⟨o,k b o hc e⟩) (fun b xs e=>?_) (fun b o u e=>?_) (fun b ps e=>?_) (fun m hm=>?_) (fun b u e=>?_) I.bare
 ·obtain ⟨f0,f1,f2,f3,f4,f5⟩:=hf b hb
  exact ⟨f3,f1,f4,f5⟩
 ·rw [am (Nat.ne_of_lt (Nat.lt_of_lt_of_le (Heap.lt_size e) hT))];exact n
 ·rw [am (aS e hn)];exact e
 ·rw [am (aS e hn)];exact e
 ·exact ⟨#[],by rw [am (aS e hn),e];simp⟩
 ·obtain ⟨o,es,ep,ho,r⟩:=hm
  exact ⟨o,es,ep,k _ o (fun z=>(hf _ z).2.1 rfl) ho,r⟩
 ·by_cases hb:b=T
  ·subst hb;rw [ai] at e;cases e;exact new
  ·rw [am hb] at e
   refine (I.hok b u e).stay (fun c v hc q=>k c v (fun z=>?_) q) (fun c q=>by rw [am (aS q hn)];exact q) fun c xs q=>by rw [am (aS q hn)];exact q
   have hcn:=(hf c z).1
   rcases hc with rfl | hc
   ·rw [e] at hcn;cases hcn
   ·rw [hc] at hcn;cases hcn
end
section
variable {X:Cx}
theorem zw {bs:List Bool}{us:List Value} (r:aC (bs.map V.bl) us) {i:Nat}{v:Value} (e:us[i]?=some v):∃b,bs[i]?=some b∧v=.bool b:=by
 have hl:=r.length
 rw [List.length_map] at hl
 have hi:i<us.length:=(List.getElem?_eq_some_iff.mp e).1
 have hb:bs[i]?=some bs[i]:=by simp [hl,hi]
 obtain ⟨u,h1,h2⟩:=r.get (i:=i) (x:=.bl bs[i]) (by rw [List.getElem?_map,hb];rfl)
 rw [e] at h1
 cases h1
 exact ⟨_,hb,h2⟩
theorem CC {s:Shared}{h':Heap}{o:Obj} (hk:∀b x,b∉[s.heap.objs.size]→(s.heap.push o).get? b=some x→h'.get? b=some x):∀b x,s.heap.get? b=some x→h'.get? b=some x:=
 fun b x e=>hk b x (fun hm=>by rw [List.mem_singleton.mp hm] at e;exact Nat.lt_irrefl _ (Heap.lt_size e)) (Heap.get?_push_of_some _ e)
theorem AW (hc:X.calm=true):bU X (.builtin "all") (fun xs H Q=>aV fun (l:Addr) (bs:List Bool)=>xs=[.ref l]∧ar X.K H l (bs.map V.bl)∧Q (.bl (bs.all id)) H):=by
 intro pins s σ H xs us Q I r h
 obtain ⟨l,bs,rfl,hq,q⟩:=h
 obtain ⟨u,rfl,ru⟩:=r.one
 obtain rfl:u=.ref l:=ru
 obtain ⟨its,rv,p,hz⟩:=I.list hq
 have hl:=p.isList
 have hlt:l<s.heap.objs.size:=by obtain ⟨_,e,_⟩:=hl;exact Heap.lt_size e
 refine call_all_walk (wpAny_pyIter_list hl ?_)
 refine ⟨s.heap.objs.size,[s.heap.objs.size,l],[s.heap.objs.size],its.toArray.size,_,_,fun i=>(bs[i]?).getD true,rfl,Walks.list (A:=X.A.in1) (I.ok.hd hc) _ l (Nat.ne_of_lt hlt) its.toArray,
  ⟨⟨_,Heap.get?_push_size _ rfl,rfl,rfl⟩,hl.push _⟩,fun i v s' Q' E' hP hQ=>?_,fun h' tk hk=>?_⟩
 ·obtain ⟨b,e,rfl⟩:=zw rv (i:=i) (v:=v) (by simpa using hP)
  simp only [e,Option.getD_some] at hQ
  exact wpAny_truthy_bool hQ
 ·have e:((List.range its.toArray.size).all fun i=>(bs[i]?).getD true)=bs.all id:=by
   rw [List.size_toArray,←rv.length,List.length_map];exact LSm.range_all bs
  rw [e]
  exact ⟨.bl _,H,I.kept (CC hk),rfl,q⟩
end
def HP (K:PySem.W.Frag) (a:Addr):It:=
 ⟨fun i H=>aV fun xs x=>ar K H a xs∧xs[i]?=some x,fun i H v H'=>aV fun T x=>H T=none∧v=.ref T∧H'=aL H T (.tup [.int (i:Int),x])∧∀xs,ar K H a xs→xs[i]?=some x,fun i H=>∃xs,ar K H a xs∧xs.length≤i⟩
theorem zG {P:Program}{w:World}{K:PySem.W.Frag}{es:List Expr}{kk:Nat}{pos:Pos} (a e it:Addr) (hne:e≠it) :
 oN P w K (.Tuple es kk pos) (HP K a) [e,it] e (fun i h=>(∃old,IsEnum h e it i old)∧h.IsListIter it a i) where
 mem:=by simp
 obj:=fun i h st b hb=>by
  obtain ⟨⟨old,he⟩,o,e1,c,d⟩:=st
  have hb':b=e∨b=it:=by simpa using hb
  rcases hb' with rfl | rfl
  ·exact ⟨_,he,fun v z=>by
    have z':Data.fields _=Data.cell v:=z
    cases z'⟩
  ·exact ⟨o,e1,fun v z=>by rw [d] at z;cases z⟩
 keep:=fun i h h' st k=>by
  obtain ⟨⟨old,he⟩,hi⟩:=st
  exact ⟨⟨old,k e (by simp) _ he⟩,hi.at fun o q=>k it (by simp) o q⟩
 item:=by
  intro X hP hw hK hc i pins s σ H E I hf st hg
  subst hP hw hK
  obtain ⟨⟨old,he⟩,hit⟩:=st
  obtain ⟨xs,x,hq,hx⟩:=hg
  obtain ⟨its,rv,p,hz⟩:=I.list hq
  obtain ⟨u,hu,ru⟩:=rv.get hx
  have hnT:H s.heap.objs.size=none:=I.fresh
  refine wpAny_pyNext_enum_item he hit p.isList (x:=u) (by simpa using hu) hne fun h' ho hit' hT hsz hk=>?_
  refine ⟨(),wpAny_letOwnedTupleGo_enum (s:={ s with heap:=h',toks:=s.toks+1 }) ho fun h'' he'' hs''=>?_⟩
  have helt:e<s.heap.objs.size:=Heap.lt_size he
  have hilt:it<s.heap.objs.size:=by obtain ⟨_,y,_⟩:=hit;exact Heap.lt_size y
  have hT'':h''.get? s.heap.objs.size=some { cls:=.type "tuple",data:=.seq #[.int i s.toks,u] }:=(hs''.2 _ (Nat.ne_of_gt helt)).trans hT
  refine ⟨.ref s.heap.objs.size,aL H s.heap.objs.size (.tup [.int (i:Int),x]),I.turnedNew (ch:=[e,it]) (t':=s.toks+1) hf (fun b o hb q=>?_) (Nat.le_refl _) ?_,rfl,⟨_,x,hnT,rfl,rfl,fun ys hy=>by rw [I.list_inj hy hq];exact hx⟩,⟨⟨u,?_⟩,hit'.extBut hs''.extBut (Ne.symm hne)⟩,fun b hb=>?_⟩
  ·have h1:b≠e:=fun z=>hb (by simp [z])
   have h2:b≠it:=fun z=>hb (by simp [z])
   exact (hs''.2 b h1).trans (hk b o h1 h2 q)
  ·exact ⟨by show 2≤sizeLine;decide,[.int i s.toks,u],.cons ⟨()⟩ (.cons ru .nil),⟨_,hT'',rfl,()⟩,_,hT'',rfl⟩
  ·simpa using he''
  ·have hb':b=e∨b=it:=by simpa using hb
   have hlt:b<s.heap.objs.size:=by rcases hb' with rfl | rfl <;> assumption
   rw [am (Nat.ne_of_lt hlt)]
   exact (hf b hb).1
 done:=by
  intro X hP hw hK hc i pins s σ H E I hf st hg
  subst hP hw hK
  obtain ⟨⟨old,he⟩,hit⟩:=st
  obtain ⟨xs,hq,hx⟩:=hg
  obtain ⟨its,rv,p,hz⟩:=I.list hq
  obtain ⟨f0,f1,f2,f3,f4,f5⟩:=hf it (by simp)
  have hl:=rv.length
  exact wpAny_pyNext_enum_end (I.ok.hd hc) he hit p.isList (by simp;trivial) fun h' eb=>⟨rfl,I.turned (t':=s.toks) (fun b o hb e=>eb b o hb e) f0 f1 f3 f4 f5⟩
 self:=fun _ _ _ _ _ st h=>by
  obtain ⟨⟨old,he⟩,_⟩:=st
  exact wpAny_pyIter_enum he h
def Gw (K:PySem.W.Frag) (ta:TA):TI:=fun σ H R=>ta σ H fun vs H1=>∃a,vs=[.ref a]∧(∃xs,ar K H1 a xs)∧R (HP K a) H1
theorem Dx {X:Cx}{es:List Expr}{kk:Nat}{tp:Pos}{a:Expr}{ta:TA}{p pos:Pos} (hg:Gl X "enumerate") (hm:X.mg "enumerate" = none) (ha:PA X [a] ta) (hs:starEach [a] X.env=[(false,eval a X.env)]:=by rfl) :
 PI X (.Tuple es kk tp) (.Call (.Name "enumerate" p) [a] [] pos) (Gw X.K ta):=by
 intro pins s σ H R I h
 refine Call_ (gy I hg hm boot_enumerate (PyProof.Rows.callWith_type1 (aK (ha pos pins s σ H _ I h) fun us s1 ⟨vs,H1,I1,r1,q1⟩=>?_) hs rfl))
 obtain ⟨a,rfl,⟨xs,hq⟩,q⟩:=q1
 obtain ⟨u,rfl,ru⟩:=r1.one
 obtain rfl:u=.ref a:=ru
 obtain ⟨its,rv,p,hz⟩:=I1.list hq
 refine call_enumerate_list p.isList fun h' hE hI hsz hk=>wpAny_pyIter_enum hE ?_
 have I2:aa X pins σ H1 { s1 with heap:=h',toks:=s1.toks }:=I1.kept hk
 refine ⟨s1.heap.objs.size+1,[s1.heap.objs.size+1,s1.heap.objs.size],_,_,H1,rfl,I2,zG a (s1.heap.objs.size+1) s1.heap.objs.size (Nat.succ_ne_self _),⟨⟨_,hE⟩,hI⟩,fun b hb=>?_,q⟩
 have hb':b=s1.heap.objs.size+1∨b=s1.heap.objs.size:=by simpa using hb
 have hle:s1.heap.objs.size≤b:=by rcases hb' with rfl | rfl <;> trivial
 exact I1.fpOk hle (I1.hok.fresh hle)
end L2
namespace L2
open PySem PySem.Spec PyProof.Rows
theorem aR:bootBuiltins "len" = some (.builtin "len"):=by nofun
theorem gQ:bootBuiltins "abs" = some (.builtin "abs"):=by nofun
theorem rd:bootBuiltins "max" = some (.builtin "max"):=by nofun
theorem iK:bootBuiltins "all" = some (.builtin "all"):=by nofun
theorem nS:bootBuiltins "divmod" = some (.builtin "divmod"):=by nofun
theorem aj:bootBuiltins "isinstance" = some (.builtin "isinstance"):=by nofun
theorem dn:bootBuiltins "int" = some (.type "int"):=by nofun
theorem iN:bootBuiltins "bool" = some (.type "bool"):=by nofun
theorem bZ:bootBuiltins "str" = some (.type "str"):=by nofun
theorem gH:bootBuiltins "list" = some (.type "list"):=by nofun
theorem ba:bootBuiltins "tuple" = some (.type "tuple"):=by nofun
theorem cr {X:Cx}{x:Str}{T:String}{pos:Pos} (hg:Gl X x) (hm:X.mg x=none) (hv:bootBuiltins x=some (.type T)) (hn:x≠"__name__" := by decide) (hd:(x==("__debug__" : Str))=false:=by decide):PE X (.Name x pos) (tC (.ty T)):=
 Cn (v:=.ty T) hg hm hv rfl hn hd
mutual
inductive bh (E:Addr→Prop) (H:Hp):V→PyData→Prop
 | non:bh E H .non .none
 | bl (b:Bool):bh E H (.bl b) (.bool b)
 | int (i:Int):bh E H (.int i) (.int i)
 | str (x:Str):bh E H (.str x) (.str x)
 | lst {a:Addr}{xs:List V}{ds:List PyData} (h:H a=some (.lst xs)) (ne:¬E a) (r:aI E H xs ds):bh E H (.ref a) (.list ds)
 | tup {a:Addr}{xs:List V}{ds:List PyData} (h:H a=some (.tup xs)) (r:aI E H xs ds):bh E H (.ref a) (.tuple ds)
inductive aI (E:Addr→Prop) (H:Hp):List V→List PyData→Prop
 | nil:aI E H [] []
 | cons {x:V}{xs:List V}{d:PyData}{ds:List PyData} (h:bh E H x d) (r:aI E H xs ds):aI E H (x :: xs) (d :: ds)
end
structure aJ (E:Addr→Prop) (H H':Hp):Prop where
 old:∀a o,¬E a→H a=some o→H' a=some o
 tup:∀a xs,H a=some (.tup xs)→H' a=some (.tup xs)
mutual
theorem bh.mono {E:Addr→Prop}{H H':Hp} (k:aJ E H H'):∀{v:V}{d:PyData},bh E H v d→bh E H' v d
 | _,_,.non=>.non
 | _,_,.bl b=>.bl b
 | _,_,.int i=>.int i
 | _,_,.str x=>.str x
 | _,_,.lst h ne r=>.lst (k.old _ _ ne h) ne (aI.mono k r)
 | _,_,.tup h r=>.tup (k.tup _ _ h) (aI.mono k r)
theorem aI.mono {E:Addr→Prop}{H H':Hp} (k:aJ E H H'):∀{vs:List V}{ds:List PyData},aI E H vs ds→aI E H' vs ds
 | _,_,.nil=>.nil
 | _,_,.cons h r=>.cons (bh.mono k h) (aI.mono k r)
end
theorem aJ.refl {E:Addr→Prop} (H:Hp):aJ E H H:=⟨fun _ _ _ h=>h,fun _ _ h=>h⟩
theorem aJ.trans {E:Addr→Prop}{H H1 H2:Hp} (a:aJ E H H1) (b:aJ E H1 H2):aJ E H H2:=⟨fun c o n h=>b.old c o n (a.old c o n h),fun c xs h=>b.tup c xs (a.tup c xs h)⟩
theorem ae.toE {E:Addr→Prop}{H H':Hp} (a:ae H H'):aJ E H H':=⟨fun c o _ h=>a c o h,fun c xs h=>a c _ h⟩
theorem ae.new {H:Hp}{p:Addr}{o:HO} (h:H p=none):ae H (aL H p o):=fun b u e=>by rw [am (aS e h)];exact e
theorem aI.length {E:Addr→Prop}{H:Hp}:∀{vs:List V}{ds:List PyData},aI E H vs ds→vs.length=ds.length
 | _,_,.nil=>rfl
 | _,_,.cons _ r=>by simp [aI.length r]
theorem aI.get {E:Addr→Prop}{H:Hp}:∀{vs:List V}{ds:List PyData}{i:Nat}{v:V},aI E H vs ds→vs[i]?=some v→∃d,ds[i]?=some d∧bh E H v d
 | _,_,_,_,.nil,e=>by simp at e
 | _,_,0,_,.cons h _,e=>by simp at e;subst e;exact ⟨_,rfl,h⟩
 | _,_,i+1,v,.cons _ r,e=>by
  obtain ⟨d,h1,h2⟩:=aI.get (i:=i) (v:=v) r (by simpa using e)
  exact ⟨d,by simpa using h1,h2⟩
theorem aI.append {E:Addr→Prop}{H:Hp}:∀{vs ws:List V}{ds es:List PyData},aI E H vs ds→aI E H ws es→aI E H (vs++ws) (ds++es)
 | _,_,_,_,.nil,s=>s
 | _,_,_,_,.cons h r,s=>.cons h (aI.append r s)
mutual
theorem bh.reads {E:Addr→Prop}{P:Program}{w:World}{H:Hp}{h:Heap} (ok:dc P w H h):∀{v:V}{d:PyData},bh E H v d→∀{u:Value},aO v u→∃as,Reads h u d as
 | _,_,.non,u,r=>by obtain rfl:u=.none:=r;exact ⟨_,.none⟩
 | _,_,.bl b,u,r=>by obtain rfl:u=.bool b:=r;exact ⟨_,.bool b⟩
 | _,_,.int i,u,r=>by obtain ⟨t,rfl⟩:=r;exact ⟨_,.int i t⟩
 | _,_,.str x,u,r=>by obtain ⟨t,rfl⟩:=r;exact ⟨_,.str x t⟩
 | _,_,.lst (a:=a) (xs:=xs) e _ q,u,r=>by
  obtain rfl:u=.ref a:=r
  obtain ⟨_,its,n,rv,e1⟩:=(show bc P w H h a (.lst xs) from ok a _ e)
  obtain ⟨as,ra⟩:=aI.reads ok q rv
  exact ⟨_,.list e1 rfl rfl (by simpa using ra)⟩
 | _,_,.tup (a:=a) (xs:=xs) e q,u,r=>by
  obtain rfl:u=.ref a:=r
  obtain ⟨_,its,rv,⟨o,e1,c,n,dd⟩,_⟩:=(show bc P w H h a (.tup xs) from ok a _ e)
  obtain ⟨as,ra⟩:=aI.reads ok q rv
  exact ⟨_,.tuple e1 c dd (by simpa using ra)⟩
theorem aI.reads {E:Addr→Prop}{P:Program}{w:World}{H:Hp}{h:Heap} (ok:dc P w H h):∀{vs:List V}{ds:List PyData},aI E H vs ds→∀{us:List Value},aC vs us→∃as,ReadsAll h us ds as
 | _,_,.nil,us,r=>by cases r;exact ⟨_,.nil⟩
 | _,_,.cons q qs,us,r=>by
  cases r with
  | cons r1 rr=>
   obtain ⟨as,h1⟩:=bh.reads ok q r1
   obtain ⟨bs,h2⟩:=aI.reads ok qs rr
   exact ⟨_,.cons h1 h2⟩
end
section
variable {X:Cx}
theorem uF {k:Nat} (hr:cy k X.A):bU X (.type "str") (fun xs H Q=>gf fun (a:Addr) (d:PyData) (E:Addr→Prop)=>xs=[.ref a]∧bh E H (.ref a) d∧d.showable=true∧d.hasDict=false∧d.depth≤50∧d.shown.length≤sizeLine∧Q (.str d.shown) H):=by
 intro pins s σ H xs us Q I r h
 obtain ⟨a,d,E,rfl,hd,h1,h2,h3,h4,q⟩:=h
 obtain ⟨u,rfl,ru⟩:=r.one
 obtain rfl:u=.ref a:=ru
 obtain ⟨as,rr⟩:=hd.reads I.hok (u:=.ref a) rfl
 refine str_of_reads rr h1 (PyData.noDict_hsm h2) hr.gd (by have:=hr.units;trivial) (fun _ _ e=>e) (fun h' u tk hk=>?_) h4
 exact ⟨.str _,H,I.kept hk,⟨()⟩,q⟩
def yD (_ j:Int):Prop:=0<j∧j.natAbs.log2<9000
theorem vz:b8 X (binaryOp .FloorDiv) (rI yD fun i j=>.int (i / j)):=u0 fun i j _ _ _ _ _ hc q=>by
 rw [←Int.fdiv_eq_ediv_of_nonneg _ (Int.le_of_lt hc.1)] at q
 exact floordiv_int (Int.ne_of_gt hc.1) q (.inl (PyProof.noPylong_of_log2 hc.2))
end
end L2
namespace L2
open PySem PySem.Spec PyProof.Rows
def vv:PyData→String
 | .none => "NoneType"
 | .bool _ => "bool"
 | .int _ => "int"
 | .str _ => "str"
 | .list _ => "list"
 | .tuple _ => "tuple"
 | .dict _ => "dict"
theorem bh.ty {K:PySem.W.Frag}{E:Addr→Prop}{H:Hp}{v:V}{d:PyData} (h:bh E H v d):fX K H v (.type (vv d)):=by
 cases h with
 | non=>exact .non
 | bl b=>exact .bl b
 | int i=>exact .int i
 | str x=>exact .str x
 | lst h ne r=>exact .lst h
 | tup h r=>exact .tup h
def EC:PyData→Bool
 | .int _=>true
 | .bool _=>true
 | _=>false
def BP:PyData→Bool
 | .int _=>true
 | _=>false
def xR:PyData→Bool
 | .bool _=>true
 | _=>false
def EZ:PyData→Bool
 | .tuple _=>true
 | _=>false
def DU:PyData→Bool
 | .list _=>true
 | _=>false
def Eu:PyData→Bool
 | .str _=>true
 | _=>false
theorem xG {K:PySem.W.Frag} (d:PyData):PySem.W.kitOne K (.type (vv d)) (.type "int")=some (EC d):=by cases d <;> rfl
theorem kN {K:PySem.W.Frag} (d:PyData):PySem.W.kitOne K (.type (vv d)) (.type "bool")=some (xR d):=by cases d <;> rfl
theorem cR {K:PySem.W.Frag} (d:PyData):PySem.W.kitOne K (.type (vv d)) (.type "tuple")=some (EZ d):=by cases d <;> rfl
theorem kT {K:PySem.W.Frag} (d:PyData):PySem.W.kitOne K (.type (vv d)) (.type "list")=some (DU d):=by cases d <;> rfl
theorem gL {K:PySem.W.Frag} (d:PyData):PySem.W.kitOne K (.type (vv d)) (.type "str")=some (Eu d):=by cases d <;> rfl
inductive Ge (K:PySem.W.Frag) (xs:List V) (H:Hp) (Q:VK):Prop
 | mk (x:_) (T:_) (t:_) (b:_) (h0:xs=[x,.ty T]) (h1:fX K H x t) (h2:PySem.W.kitOne K t (.type T)=some b) (h3:Q (.bl b) H)
def IK (K:PySem.W.Frag):List V→Hp→VK→Prop:=fun xs H Q=>Ge K xs H Q
section
variable {X:Cx}
theorem ww:bU X (.builtin "divmod") (fun xs H Q=>aV fun i j=>xs=[.int i,.int j]∧yD i j∧∀p,H p=none→Q (.ref p) (aL H p (.tup [.int (i / j),.int (i % j)]))):=by
 intro pins s σ H xs us Q I r h
 obtain ⟨i,j,rfl,⟨h1,h2⟩,q⟩:=h
 obtain ⟨u,w',rfl,⟨t,rfl⟩,⟨t',rfl⟩⟩:=pE r
 refine divmod_int (by trivial) ?_ (.inl (PyProof.noPylong_of_log2 h2))
 rw [Int.fdiv_eq_ediv_of_nonneg i (by trivial),Int.fmod_eq_emod_of_nonneg i (by trivial)]
 have hn:H s.heap.objs.size=none:=I.hok.fresh (Nat.le_refl _)
 refine ⟨.ref s.heap.objs.size,_,?_,rfl,q _ hn⟩
 refine I.laid (fun b o e=>Heap.get?_push_of_some _ e) (Nat.le_refl _) ⟨by simp only [List.length_cons,List.length_nil];rw [sizeLine_eq];decide,[.int (i / j) s.toks,.int (i % j) (s.toks+1)],.cons ⟨()⟩ (.cons ⟨()⟩ .nil),?_⟩
 exact ⟨⟨_,Heap.get?_push_size s.heap rfl,rfl,0,rfl⟩,_,Heap.get?_push_size s.heap rfl,rfl⟩
end
theorem IY (c:Bool):-(2 ^ 64)<(if c=true then (1:Int) else 0)∧(if c=true then (1:Int) else 0)<2 ^ 64:=by cases c <;> decide
theorem vE (x:Int):0≤(if x<0 then -x else x):=by split <;> trivial
theorem GE {x:Int} (c:Bool) (h:0≤x):0≤x*(if c=true then (1:Int) else 0):=by cases c <;> simp [h]
theorem xO {ms:List Int}{k:Int} (h0:0≤k) (h:k.toNat<ms.length):gk (ms.map V.int) k=some (V.int ms[k.toNat]):=by
 have q:=pH (xs:=ms.map V.int) (j:=k.toNat) (v:=V.int ms[k.toNat]) (by rw [List.getElem?_map];simp [h])
 rwa [Int.toNat_of_nonneg h0] at q
inductive Bx (H:Hp) (b:Addr) (t:Int):Prop
 | mk (c x:Int) (h0:H b=some (.lst [.int c,.int x,.int t])) (h1:0≤c) (h2:0≤x) (h3:x<2147483647)
abbrev Eb (b:Addr):Addr→Prop:=fun a=>a=b
theorem Bx.same {H H':Hp}{b:Addr}{t:Int} (h:Bx H b t) (k:ae H H'):Bx H' b t:=by
 obtain ⟨c,x,e,r,r2,r3⟩:=h
 exact ⟨c,x,k _ _ e,r,r2,r3⟩
theorem ue {H H1:Hp}{b:Addr}{xs:List V}{o:HO} (k:ae H H1) (hb:H1 b=some (.lst xs)):aJ (Eb b) H (aL H1 b o):=
 ⟨fun a u n h=>by rw [am n];exact k a u h,fun a ys h=>by
  have e:=k a _ h
  rw [am (yH e hb (by intro z;cases z))];exact e⟩
inductive Fi (K:PySem.W.Frag) (vs:List V) (H:Hp) (Q:VK):Prop
 | mk (a:Addr) (ms:List Int) (k:Int) (h0:vs=[.ref a,.int k]) (h1:ar K H a (ms.map V.int)) (h2:0≤k) (h3:k≤63) (h4:∀p H',H p=none→ae H H'→Bx H' p 0→Q (.ref p) H')
def Hl (K:PySem.W.Frag):Sp:=fun vs H Q _=>Fi K vs H Q
inductive Dk (vs:List V) (H:Hp) (Q:VK):Prop
 | mk (b:Addr) (many t:Int) (h0:vs=[.ref b,.int many]) (h1:Bx H b t) (h2:0<many) (h3:many.natAbs.log2<9000) (h4:0≤t) (h5:t≤1000000) (h6:∀r t' H',0≤r→r<many→t≤t'→t'≤t+1→aJ (Eb b) H H'→Bx H' b t'→Q (.int r) H')
def Ft:Sp:=fun vs H Q _=>Dk  vs H Q
def wo:List Str→Bool
 | []=>true
 | x :: r=>!r.contains x && wo r
theorem As:∀l:List Str,wo l=true→l.Nodup
 | [],_=>List.nodup_nil
 | x :: r,h=>by
  unfold wo at h
  simp only [Bool.and_eq_true,Bool.not_eq_true',List.contains_eq_mem,decide_eq_false_iff_not] at h
  exact List.nodup_cons.mpr ⟨h.1,As r h.2⟩
inductive HB (K:PySem.W.Frag) (xs:List V) (H:Hp) (Q:VK):Prop
 | mk (p:_) (ys:_) (h0:xs=[.ref p]) (h1:(ar K H p ys∨au K H p ys)) (h2:Q (.int ys.length) H)
def IH (K:PySem.W.Frag):List V→Hp→VK→Prop:=fun xs H Q=>HB K xs H Q
section
variable {X:Cx}{K:PySem.W.Frag}
theorem bN (e:X.K=K:=by rfl):bU X (.builtin "isinstance") (IK K):=by subst e;exact fun pins s σ H xs us Q I r ⟨x,T,t,b,h1,h2,h3,q⟩=>jA pins s σ H xs us Q I r ⟨x,T,t,b,h1,h2,h3,q⟩
theorem dQ (e:X.K=K:=by rfl):bU X (.builtin "len") (IH K):=by subst e;exact fun pins s σ H xs us Q I r ⟨p,ys,h1,h2,q⟩=>kM pins s σ H xs us Q I r ⟨p,ys,h1,h2,q⟩
theorem Hg (e:X.K=K:=by rfl):nG X (Bq K):=by subst e;exact xh
theorem GU (e:X.K=K:=by rfl):nG X (BB K):=by subst e;exact zd
theorem sY (e:X.K=K:=by rfl):b8 X (compareOp .NotIn) (HH K true):=by subst e;exact vn
inductive Hr (K:PySem.W.Frag) (xs:List V) (H:Hp) (Q:VK):Prop
 | mk (l:Addr) (bs:List Bool) (h0:xs=[.ref l]) (h1:ar K H l (bs.map V.bl)) (h2:Q (.bl (bs.all id)) H)
def Id (K:PySem.W.Frag):List V→Hp→VK→Prop:=fun xs H Q=>Hr K xs H Q
theorem q9 (hc:X.calm=true) (e:X.K=K:=by rfl):bU X (.builtin "all") (Id K):=by subst e;exact fun pins s σ H xs us Q I r ⟨l,bs,h1,h2,q⟩=>AW hc pins s σ H xs us Q I r ⟨l,bs,h1,h2,q⟩
theorem c6 {pos:Pos}{es:List Expr}{k:Nat}{t:qq}{n:Nat} (hc:X.calm=true) (h:yY X es t) (e:X.K=K:=by rfl)
 (hn:(assignEach es X.env).length=n:=by rfl) (hst:(assignEach es X.env).findIdx? (·.1)=none:=by rfl):PG X (.Tuple es k pos) (EH K n t):=by
 subst e;exact rm hc h hn hst
theorem tY {tg l:Expr}{tl:TE} (hl:PE X l tl) (e:X.K=K:=by rfl):PI X tg l (Ca K tl):=by subst e;exact C2 hl
theorem fK {tg l:Expr}{tl:TE} (hl:PE X l tl) (e:X.K=K:=by rfl):PI X tg l (FW K tl):=by subst e;exact EK hl
end
end L2
namespace L2
open PySem PySem.Spec PyProof.Rows
def pM:Expr→Bool
 | .Starred ..=>false
 | _=>true
theorem oM {e:Expr}{es:List Expr}{env:Env} (h:pM e=true):starEach (e :: es) env=(false,eval e env) :: starEach es env:=by
 cases e <;> first | rfl | (simp [pM] at h)
section
variable {X:Cx}{e:Expr}{es:List Expr}{te:TE}{t:TA}
theorem Av (ha:PE X e te) (hr:PA X es t) (hs:pM e=true:=by rfl):PA X (e :: es) (uQ te t):=br ha hr (oM hs)
theorem pw (i:Nat) {x:Str}{pos:Pos} (hv:xk X.env.scope x) (hN:X.N[i]?=some x:=by rfl) (hd:(x==("__debug__" : Str))=false:=by decide) (hcd:(x==("__classdict__" : Str))=false:=by decide):PE X (.Name x pos) (yy i):=zT hN hv hd hcd
end
end L2
namespace KM
theorem gcd_fmod (n d:Int):Int.gcd d (n.fmod d)=Int.gcd n d:=by
 apply Nat.dvd_antisymm
 ·apply Int.dvd_gcd
  ·have h1:((Int.gcd d (n.fmod d):Nat):Int) ∣ d:=Int.gcd_dvd_left ..
   have h2:((Int.gcd d (n.fmod d):Nat):Int) ∣ n.fmod d:=Int.gcd_dvd_right ..
   have h3:=Int.dvd_add h2 (Int.dvd_mul_of_dvd_left (c:=n.fdiv d) h1)
   rw [Int.fmod_add_mul_fdiv] at h3
   exact h3
  ·exact Int.gcd_dvd_left ..
 ·apply Int.dvd_gcd
  ·exact Int.gcd_dvd_right ..
  ·rw [Int.fmod_def]
   exact Int.dvd_sub (Int.gcd_dvd_left ..) (Int.dvd_mul_of_dvd_left (Int.gcd_dvd_right ..))
theorem fmod_natAbs_lt (n d:Int) (h:d≠0):(n.fmod d).natAbs<d.natAbs:=by
 rcases Int.lt_trichotomy d 0 with hd | hd | hd
 ·have e:n.fmod d=-((-n).fmod (-d)):=by
   rw [Int.fmod_def,Int.fmod_def]
   have:(-n).fdiv (-d)=n.fdiv d:=Int.neg_fdiv_neg n d
   rw [this,Int.neg_mul];trivial
  have h1:=Int.fmod_nonneg_of_pos (-n) (b:=-d) (by trivial)
  have h2:=Int.fmod_lt_of_pos (-n) (b:=-d) (by trivial)
  trivial
 ·exact absurd hd h
 ·have h1:=Int.fmod_nonneg_of_pos n hd
  have h2:=Int.fmod_lt_of_pos n hd
  trivial
theorem gcd_zero_abs (n:Int):((Int.gcd n 0:Nat):Int)=if n<0 then -n else n:=by
 rw [Int.gcd_zero_right]
 split <;> trivial
theorem gcd_emod (n d:Int):Int.gcd d (n % d)=Int.gcd n d:=by
 by_cases h:d=0
 ·subst h;rw [Int.emod_zero,Int.gcd_comm]
 ·apply Nat.dvd_antisymm
  ·apply Int.dvd_gcd
   ·have h1:((Int.gcd d (n % d):Nat):Int) ∣ d:=Int.gcd_dvd_left ..
    have h2:((Int.gcd d (n % d):Nat):Int) ∣ n % d:=Int.gcd_dvd_right ..
    have h3:=Int.dvd_add h2 (Int.dvd_mul_of_dvd_left (c:=n / d) h1)
    rw [Int.emod_add_mul_ediv] at h3
    exact h3
   ·exact Int.gcd_dvd_left ..
  ·apply Int.dvd_gcd
   ·exact Int.gcd_dvd_right ..
   ·rw [Int.emod_def]
    exact Int.dvd_sub (Int.gcd_dvd_left ..) (Int.dvd_mul_of_dvd_left (Int.gcd_dvd_right ..))
end KM
namespace KM
def low (n d:Int):Int×Int:=if 0<d then (n / (Int.gcd n d:Nat),d / (Int.gcd n d:Nat)) else (-n / (Int.gcd n d:Nat),-d / (Int.gcd n d:Nat))
theorem gcd_pos {n d:Int} (h:d≠0):0<Int.gcd n d:=by
 apply Nat.pos_of_ne_zero
 intro e
 exact h (Int.gcd_eq_zero_iff.mp e).2
theorem gcd_abs (n d:Int):Int.gcd (if n<0 then -n else n) (if d<0 then -d else d)=Int.gcd n d:=by
 split <;> split <;> simp [Int.gcd_neg,Int.neg_gcd]
theorem low_spec (n d:Int) (h:d≠0):1≤(low n d).2∧(low n d).1*d=n*(low n d).2∧Int.gcd (low n d).1 (low n d).2=1∧(low n d).1.natAbs≤n.natAbs∧(low n d).2.natAbs≤d.natAbs:=by
 have g0:=gcd_pos (n:=n) h
 have gi:((Int.gcd n d:Nat):Int)≠0:=by trivial
 have d1:((Int.gcd n d:Nat):Int) ∣ n:=Int.gcd_dvd_left ..
 have d2:((Int.gcd n d:Nat):Int) ∣ d:=Int.gcd_dvd_right ..
 obtain ⟨a,ha⟩:=d1
 obtain ⟨b,hb⟩:=d2
 have ea:n / ((Int.gcd n d:Nat):Int)=a:=by
  conv=>lhs;lhs;rw [ha]
  exact Int.mul_ediv_cancel_left _ gi
 have eb:d / ((Int.gcd n d:Nat):Int)=b:=by
  conv=>lhs;lhs;rw [hb]
  exact Int.mul_ediv_cancel_left _ gi
 have ena:-n / ((Int.gcd n d:Nat):Int)=-a:=by
  have:-n=((Int.gcd n d:Nat):Int)*(-a):=by rw [Int.mul_neg];trivial
  rw [this]
  exact Int.mul_ediv_cancel_left _ gi
 have enb:-d / ((Int.gcd n d:Nat):Int)=-b:=by
  have:-d=((Int.gcd n d:Nat):Int)*(-b):=by rw [Int.mul_neg];trivial
  rw [this]
  exact Int.mul_ediv_cancel_left _ gi
 have hco:Int.gcd a b=1:=by
  have:=Int.gcd_ediv_gcd_ediv_gcd (i:=n) (j:=d) g0
  rw [ea,eb] at this
  exact this
 have hgp:(0:Int)<((Int.gcd n d:Nat):Int):=by trivial
 have habs:n.natAbs=Int.gcd n d*a.natAbs:=by
  conv=>lhs;rw [ha]
  rw [Int.natAbs_mul];rfl
 have hbbs:d.natAbs=Int.gcd n d*b.natAbs:=by
  conv=>lhs;rw [hb]
  rw [Int.natAbs_mul];rfl
 have la:a.natAbs≤n.natAbs:=by rw [habs];exact Nat.le_mul_of_pos_left _ g0
 have lb:b.natAbs≤d.natAbs:=by rw [hbbs];exact Nat.le_mul_of_pos_left _ g0
 have hab:a*d=n*b:=by
  generalize ((Int.gcd n d:Nat):Int)=g at ha hb
  subst ha hb
  rw [Int.mul_comm g a,Int.mul_assoc]
 unfold low
 split
 ·rename_i hd
  refine ⟨?_,?_,?_,?_,?_⟩
  ·show 1≤d / _
   rw [eb]
   have:0<b:=by
    apply Int.pos_of_mul_pos_right (a:=((Int.gcd n d:Nat):Int)) _ hgp
    rw [←hb];exact hd
   trivial
  ·show n / _*d=n*(d / _)
   rw [ea,eb];exact hab
  ·show Int.gcd (n / _) (d / _)=1
   rw [ea,eb];exact hco
  ·show (n / _).natAbs≤_
   rw [ea];exact la
  ·show (d / _).natAbs≤_
   rw [eb];exact lb
 ·rename_i hd
  refine ⟨?_,?_,?_,?_,?_⟩
  ·show 1≤-d / _
   rw [enb]
   have:0 < -b:=by
    apply Int.pos_of_mul_pos_right (a:=((Int.gcd n d:Nat):Int)) _ hgp
    rw [Int.mul_neg,←hb];trivial
   trivial
  ·show -n / _*d=n*(-d / _)
   rw [ena,enb,Int.neg_mul,Int.mul_neg,hab]
  ·show Int.gcd (-n / _) (-d / _)=1
   rw [ena,enb,Int.gcd_neg,Int.neg_gcd];exact hco
  ·show (-n / _).natAbs≤_
   rw [ena,Int.natAbs_neg];exact la
  ·show (-d / _).natAbs≤_
   rw [enb,Int.natAbs_neg];exact lb
end KM
namespace KM
section
variable {p0 p1 q0 q1:Int}
end
end KM
namespace KM
abbrev Fra:=Int×Int
theorem low_sgn {n d:Int} (hd:0<d):(0<(low n d).1↔0<n)∧((low n d).1<0↔n<0):=by
 obtain ⟨h1,h2,_,_,_⟩:=low_spec n d (by trivial)
 generalize low n d=z at *
 obtain ⟨x,y⟩:=z
 dsimp only at *
 have hy:0<y:=by trivial
 constructor
 ·constructor
  ·intro h
   have:0<x*d:=Int.mul_pos h hd
   rw [h2] at this
   exact Int.pos_of_mul_pos_left this hy
  ·intro h
   have:0<n*y:=Int.mul_pos h hy
   rw [←h2] at this
   exact Int.pos_of_mul_pos_left this hd
 ·constructor
  ·intro h
   have:x*d<0:=Int.mul_neg_of_neg_of_pos h hd
   rw [h2] at this
   apply Decidable.byContradiction
   intro hn
   have:=Int.mul_nonneg (show 0≤n by trivial) (show 0≤y by trivial)
   trivial
  ·intro h
   have:n*y<0:=Int.mul_neg_of_neg_of_pos h hy
   rw [←h2] at this
   apply Decidable.byContradiction
   intro hn
   have:=Int.mul_nonneg (show 0≤x by trivial) (show 0≤d by trivial)
   trivial
end KM
namespace KM
def lTim (p q:Fra):Fra:=low (p.1*q.1) (p.2*q.2)
end KM
namespace L2
open PySem PySem.Spec PyProof.Rows
section
variable {prog:Program}{w:World}{A:Around}{E:Value→Shared→Prop}{s:Shared}
theorem yn {it t:Addr}{i:Nat}{its:Array Value}{x:Value}{Q:Value→Shared→Prop} (hit:s.heap.IsTupleIter it t i) (ht:s.heap.IsTuple t its) (hx:its[i]?=some x)
 (q:∀h',h'.IsTupleIter it t (i+1)→Heap.SameBut it s.heap h'→Q x { s with heap:=h' }):wpAny (model prog w) A (Builtin.SmallTypes.nextOf (.ref it)) Q E s:=by
 obtain ⟨o,e1,e2,e3⟩:=id hit;obtain ⟨u,e4,_,k,e5⟩:=ht;unfold Builtin.SmallTypes.nextOf
 refine wpAny_bind (wpAny_callSpecial?_slot (name:=Str.ofString "__next__") hit.typeIs F.slot_tuple_iterator_next (wpAny_call_entry F.slot_tuple_iterator_next hit.typeIs F.entry_tuple_iterator_next ?_ (F.args_tuple_iterator_next_1 _)))
 show wpAny _ _ (field (.ref it) 0 >>= _) _ _ s;refine wpAny_bind (wpAny_field e1 e3 (x:=.ref t) rfl ?_)
 show wpAny _ _ (if (Value.ref t==Value.none)=true then _ else _) _ _ s;rw [if_neg (show ¬((Value.ref t==Value.none)=true) from Bool.false_ne_true)]
 show wpAny _ _ (field (.ref it) 1 >>= _) _ _ s;refine wpAny_bind (wpAny_field e1 e3 (x:=.int i 0) rfl ?_)
 show wpAny _ _ (seqItems? (.ref t) >>= _) _ _ s;refine wpAny_bind (wpAny_seqItems e4 e5 ?_)
 simp only [Int.toNat_natCast,hx];refine wpAny_bind (wpAny_setField e1 e3 (by simp) (wpAny_pure ⟨x,rfl,wpAny_pure (q _ ?_ (Heap.SameBut.update ..))⟩))
 exact ⟨_,Heap.get?_update_self _ e1 (Obj.isFreed_of_fields (Obj.data_mapFields e3 _)),(Obj.cls_mapFields ..).trans e2,by rw [Obj.data_mapFields e3];simp [rawInt]⟩
theorem uL {it t:Addr}{i:Nat}{its:Array Value}{Q:Value→Shared→Prop} (hh:A.handled=none) (hit:s.heap.IsTupleIter it t i) (ht:s.heap.IsTuple t its) (hx:its[i]?=none)
 (q:∀h' e,Heap.ExtBut it s.heap h'→(∃o,h'.get? e=some o∧o.cls=.type "StopIteration")→E (.ref e) { s with heap:=h' }):wpAny (model prog w) A (Builtin.SmallTypes.nextOf (.ref it)) Q E s:=by
 obtain ⟨o,e1,e2,e3⟩:=id hit;obtain ⟨u,e4,_,k,e5⟩:=ht;unfold Builtin.SmallTypes.nextOf
 refine wpAny_bind (wpAny_callSpecial?_slot (name:=Str.ofString "__next__") hit.typeIs F.slot_tuple_iterator_next (wpAny_call_entry F.slot_tuple_iterator_next hit.typeIs F.entry_tuple_iterator_next ?_ (F.args_tuple_iterator_next_1 _)))
 show wpAny _ _ (field (.ref it) 0 >>= _) _ _ s;refine wpAny_bind (wpAny_field e1 e3 (x:=.ref t) rfl ?_)
 show wpAny _ _ (if (Value.ref t==Value.none)=true then _ else _) _ _ s;rw [if_neg (show ¬((Value.ref t==Value.none)=true) from Bool.false_ne_true)]
 show wpAny _ _ (field (.ref it) 1 >>= _) _ _ s;refine wpAny_bind (wpAny_field e1 e3 (x:=.int i 0) rfl ?_)
 show wpAny _ _ (seqItems? (.ref t) >>= _) _ _ s;refine wpAny_bind (wpAny_seqItems e4 e5 ?_)
 simp only [Int.toNat_natCast,hx];refine wpAny_bind (wpAny_rule (wpAny_bind (wpAny_setField e1 e3 (by simp) ?_)))
 show wpAny _ _ (newExc (.type "StopIteration") [] >>= _) _ _ _;refine wpAny_bind ?_;simp only [newExc,newTuple]
 refine wpAny_bind (wpAny_newObj_type ?_ (by size_fits));refine wpAny_bind (m:=firstArgMember _ _) (wpAny_of_eq (a:=Value.none) (by first | rfl | (simp only [firstArgMember];rfl)) ?_);refine wpAny_newObj_type ?_ (by size_fits)
 simp only [raiseNew];refine wpAny_bind (wpAny_handled ?_);first | rw [show A.in1.handled=none from hh] | rw [hh]
 refine wpAny_bind (wpAny_pure (wpAny_throw ?_));exact q _ _ (((Heap.SameBut.update ..).extBut.push _).push _) ⟨_,Heap.get?_push_size _ rfl,rfl⟩
end
def bP (h:Heap) (l:Addr) (its:Array Value):Bool→Prop
 | true=>h.IsList l its
 | false=>h.IsTuple l its
def bK (h:Heap) (it l:Addr) (i:Nat):Bool→Prop
 | true=>h.IsListIter it l i
 | false=>h.IsTupleIter it l i
theorem bP.at {h h':Heap}{l:Addr}{its:Array Value}:∀{b:Bool},bP h l its b→(∀o,h.get? l=some o→h'.get? l=some o)→bP h' l its b
 | true,q,k=>Heap.IsList.at q k
 | false,q,k=>Heap.IsTuple.at q k
theorem bK.at {h h':Heap}{it l:Addr}{i:Nat}:∀{b:Bool},bK h it l i b→(∀o,h.get? it=some o→h'.get? it=some o)→bK h' it l i b
 | true,q,k=>Heap.IsListIter.at q k
 | false,q,k=>Heap.IsTupleIter.at q k
theorem bP.lt {h:Heap}{l:Addr}{its:Array Value}:∀{b:Bool},bP h l its b→l<h.objs.size
 | true,⟨_,e,_⟩=>Heap.lt_size e
 | false,⟨_,e,_⟩=>Heap.lt_size e
theorem bK.some {h:Heap}{it l:Addr}{i:Nat}:∀{b:Bool},bK h it l i b→∃o,h.get? it=some o∧∀v,o.data≠.cell v
 | true,⟨o,e,_,d⟩=>⟨o,e,fun v z=>by rw [d] at z;cases z⟩
 | false,⟨o,e,_,d⟩=>⟨o,e,fun v z=>by rw [d] at z;cases z⟩
theorem fh {prog:Program}{w:World}{A:Around} (hh:A.handled=none) (it l:Addr) (hne:l≠it) (its:Array Value):∀b:Bool,
 Draws prog w A it [it,l] its.size (fun i v=>its[i]?=some v) (fun i h=>bK h it l i b∧bP h l its b)
 | true=>Draws.list hh it l hne its
 | false=>{
  live:=fun _ _ st=>let ⟨o,ho,_⟩:=st.1;⟨o,ho⟩
  frame:=fun _ _ _ st hk=>⟨Heap.IsTupleIter.at st.1 fun o e=>hk it (by simp) o e,Heap.IsTuple.at st.2 fun o e=>hk l (by simp) o e⟩
  item:=fun i s Q E hi st q=>yn st.1 st.2 (x:=its[i]) (by simp [hi]) fun h' it' same=>q _ h' s.toks (by simp [hi]) ⟨it',Heap.IsTuple.extBut st.2 same.extBut hne⟩ same
  done:=fun s Q E st q=>uL hh st.1 st.2 (by simp) q }
structure oW (z TI TO i1 i2:Addr):Prop where
 a1:TI≠z
 a2:TO≠z
 a3:i1≠z
 a4:i2≠z
 a5:TI≠TO
 a6:TI≠i1
 a7:TI≠i2
 a8:TO≠i1
 a9:TO≠i2
 a0:i1≠i2
section
variable {prog:Program}{w:World}{A:Around}{E:Value→Shared→Prop}{s:Shared}
variable {z TI TO i1 i2 l1 l2:Addr}{k:Nat}{xs ys:Array Value}{a b:Value}{c1 c2:Bool}
theorem Cw {x y:Value}{Q:Value→Shared→Prop} (D:oW z TI TO i1 i2) (n1:∀c,c=l1∨c=l2→c≠z∧c≠TO∧c≠i1∧c≠i2)
 (hz:IsZip s.heap z TI TO .none) (hTI:IsPair s.heap TI (.ref i1) (.ref i2)) (hTO:IsPair s.heap TO a b) (hh:A.handled=none)
 (h1:bK s.heap i1 l1 k c1) (h2:bK s.heap i2 l2 k c2) (q1:bP s.heap l1 xs c1) (q2:bP s.heap l2 ys c2) (hx:xs[k]?=some x) (hy:ys[k]?=some y)
 (hQ:∀h' tk,IsZip h' z TI TO (rawInt s.heap.objs.size)→IsPair h' TO x y→bK h' i1 l1 (k+1) c1→bK h' i2 l2 (k+1) c2→IsPair h' s.heap.objs.size x y→h'.objs.size=s.heap.objs.size+1→
  (∀c o,c≠z→c≠TO→c≠i1→c≠i2→s.heap.get? c=some o→h'.get? c=some o)→Q (.ref s.heap.objs.size) { s with heap:=h',toks:=tk }) :
 wpAny (model prog w) A (Builtin.«zip.__next__» ⟨[.ref z],[]⟩) (fun fin s'=>∃v,fin=.done (.ret v)∧Q v s') E s:=by
 obtain ⟨m1,m2,m3,m4⟩:=n1 l1 (.inl rfl)
 obtain ⟨m5,m6,m7,m8⟩:=n1 l2 (.inr rfl)
 have kx:k<xs.size:=(Array.getElem?_eq_some_iff.mp hx).1
 have ky:k<ys.size:=(Array.getElem?_eq_some_iff.mp hy).1
 have D1:=fh (prog:=prog) (w:=w) hh i1 l1 m3 xs c1
 have D2:=fh (prog:=prog) (w:=w) hh i2 l2 m8 ys c2
 show wpAny _ _ (field (.ref z) 2 >>= _) _ _ _;refine wpAny_bind (wpAny_field hz rfl (x:=.bool false) rfl ?_)
 show wpAny _ _ (field (.ref z) 3 >>= _) _ _ _;refine wpAny_bind (wpAny_field hz rfl (x:=.ref TI) rfl (wpAny_bind (wpAny_seqItems hTI rfl ?_)))
 show wpAny _ _ (Builtin.SmallTypes.ownedTupleIsFree (.ref z) >>= _) _ _ _;refine wpAny_bind ?_;unfold Builtin.SmallTypes.ownedTupleIsFree
 refine wpAny_bind (wpAny_field hz rfl (x:=.none) rfl (wpAny_pure ?_));simp only [if_true]
 refine wpAny_bind (wpAny_rule (wpAny_bind (wpAny_field hz rfl (x:=.ref TO) rfl (wpAny_bind (wpAny_setField_rec hz (by simp) fun g1 z1 t1=>?_)))))
 replace z1:IsZip g1 z TI TO .ellipsis:=z1
 refine wpAny_bind ?_;simp only [List.zipIdx_cons,List.zipIdx_nil,List.forIn_cons,List.forIn_nil];refine wpAny_bind (wpAny_bind (wpAny_onRaise ?_))
 show wpAny _ _ (Builtin.SmallTypes.nextOf (.ref i1) >>= _) _ _ _
 refine wpAny_bind (D1.item k _ _ _ kx ⟨h1.at fun o e=>t1.extBut _ _ D.a3 e,q1.at fun o e=>t1.extBut _ _ m1 e⟩ fun x' g2 tk2 p1 st1 t2=>wpAny_pure ?_)
 have ex:x=x':=Option.some.inj (hx.symm.trans p1)
 subst ex
 have TO2:IsPair g2 TO a b:=t2.extBut _ _ D.a8 (t1.extBut _ _ D.a2 hTO)
 refine wpAny_bind (wpAny_seqItems TO2 rfl (wpAny_bind (wpAny_updateSeq_pair TO2 fun g3 TO3 t3=>?_)))
 replace TO3:IsPair g3 TO x b:=TO3
 refine wpAny_bind (wpAny_letGo (wpAny_pure ?_));refine wpAny_bind (wpAny_bind (wpAny_onRaise ?_));show wpAny _ _ (Builtin.SmallTypes.nextOf (.ref i2) >>= _) _ _ _
 refine wpAny_bind (D2.item k _ _ _ ky ⟨h2.at fun o e=>t3.extBut _ _ D.a9.symm (t2.extBut _ _ D.a0.symm (t1.extBut _ _ D.a4 e)),q2.at fun o e=>t3.extBut _ _ m6 (t2.extBut _ _ m7 (t1.extBut _ _ m5 e))⟩ fun y' g4 tk4 p2 st2 t4=>wpAny_pure ?_)
 have ey:y=y':=Option.some.inj (hy.symm.trans p2)
 subst ey
 have TO4:IsPair g4 TO x b:=t4.extBut _ _ D.a9 TO3
 refine wpAny_bind (wpAny_seqItems TO4 rfl (wpAny_bind (wpAny_updateSeq_pair TO4 fun g5 TO5 t5=>?_)))
 replace TO5:IsPair g5 TO x y:=TO5
 refine wpAny_bind (wpAny_letGo (wpAny_pure (wpAny_pure ?_)));refine wpAny_bind (wpAny_seqItems TO5 rfl (wpAny_bind (wpAny_newTuple ?_)))
 have sz:g5.objs.size=s.heap.objs.size:=by rw [t5.1,t4.1,t3.1,t2.1,t1.1]
 have z5:IsZip g5 z TI TO .ellipsis:=t5.extBut _ _ D.a2.symm (t4.extBut _ _ D.a4.symm (t3.extBut _ _ D.a2.symm (t2.extBut _ _ D.a3.symm z1)))
 have keep:∀c o,c≠z→c≠TO→c≠i1→c≠i2→s.heap.get? c=some o→g5.get? c=some o:=fun c o d1 d2 d3 d4 e=>t5.extBut _ _ d2 (t4.extBut _ _ d4 (t3.extBut _ _ d2 (t2.extBut _ _ d3 (t1.extBut _ _ d1 e))))
 have it1:bK g5 i1 l1 (k+1) c1:=st1.1.at fun o e=>t5.extBut _ _ D.a8.symm (t4.extBut _ _ D.a0 (t3.extBut _ _ D.a8.symm e))
 have it2:bK g5 i2 l2 (k+1) c2:=st2.1.at fun o e=>t5.extBut _ _ D.a9.symm e
 have zlt:z<g5.objs.size:=Heap.lt_size z5
 show wpAny _ _ (Builtin.SmallTypes.ownedTupleHandOut (.ref z) (.ref g5.objs.size) >>= _) _ _ _;refine wpAny_bind ?_;unfold Builtin.SmallTypes.ownedTupleHandOut
 have z6:IsZip (g5.push { cls:=.type "tuple",data:=.seq #[x,y] }) z TI TO .ellipsis:=Heap.get?_push_of_some _ z5
 refine wpAny_bind (wpAny_setField_rec z6 (by simp) fun g7 z7 t7=>?_)
 replace z7:IsZip g7 z TI TO (rawInt g5.objs.size):=z7
 refine wpAny_setField_rec z7 (by simp) fun g8 z8 t8=>?_
 replace z8:IsZip g8 z TI TO (rawInt g5.objs.size):=z8
 have up:∀c o,c≠z→g5.get? c=some o→g8.get? c=some o:=fun c o d e=>t8.extBut _ _ d (t7.extBut _ _ d (Heap.get?_push_of_some _ e))
 have T8:IsPair g8 g5.objs.size x y:=t8.extBut _ _ (Nat.ne_of_gt zlt) (t7.extBut _ _ (Nat.ne_of_gt zlt) (Heap.get?_push_size _ rfl))
 have s8:g8.objs.size=g5.objs.size+1:=by rw [t8.1,t7.1,Heap.size_push]
 rw [sz] at z8 T8 s8
 refine wpAny_pure ⟨(),?_⟩;show Q (.ref g5.objs.size) _;rw [sz]
 exact hQ g8 _ z8 (up _ _ D.a2 TO5) (it1.at fun o e=>up _ o D.a3 e) (it2.at fun o e=>up _ o D.a4 e) T8 s8 fun c o d1 d2 d3 d4 e=>up c o d1 (keep c o d1 d2 d3 d4 e)
theorem Ev {Q:Fin→Shared→Prop} (hh:A.handled=none) (D:oW z TI TO i1 i2) (n1:∀c,c=l1∨c=l2→c≠z∧c≠TO∧c≠i1∧c≠i2)
 (hz:IsZip s.heap z TI TO .none) (hTI:IsPair s.heap TI (.ref i1) (.ref i2)) (hTO:IsPair s.heap TO a b)
 (h1:bK s.heap i1 l1 k c1) (h2:bK s.heap i2 l2 k c2) (q1:bP s.heap l1 xs c1) (q2:bP s.heap l2 ys c2) (hend:xs.size=k∨(k<xs.size∧ys.size=k))
 (hE:∀h' e tk,(∀c o,c≠z→c≠TO→c≠i1→c≠i2→s.heap.get? c=some o→h'.get? c=some o)→(∃o,h'.get? e=some o∧o.cls=.type "StopIteration")→E (.ref e) { s with heap:=h',toks:=tk }) :
 wpAny (model prog w) A (Builtin.«zip.__next__» ⟨[.ref z],[]⟩) Q E s:=by
 obtain ⟨m1,m2,m3,m4⟩:=n1 l1 (.inl rfl)
 obtain ⟨m5,m6,m7,m8⟩:=n1 l2 (.inr rfl)
 have D1:=fh (prog:=prog) (w:=w) hh i1 l1 m3 xs c1
 have D2:=fh (prog:=prog) (w:=w) hh i2 l2 m8 ys c2
 show wpAny _ _ (field (.ref z) 2 >>= _) _ _ _;refine wpAny_bind (wpAny_field hz rfl (x:=.bool false) rfl ?_)
 show wpAny _ _ (field (.ref z) 3 >>= _) _ _ _;refine wpAny_bind (wpAny_field hz rfl (x:=.ref TI) rfl (wpAny_bind (wpAny_seqItems hTI rfl ?_)))
 show wpAny _ _ (Builtin.SmallTypes.ownedTupleIsFree (.ref z) >>= _) _ _ _;refine wpAny_bind ?_;unfold Builtin.SmallTypes.ownedTupleIsFree
 refine wpAny_bind (wpAny_field hz rfl (x:=.none) rfl (wpAny_pure ?_));simp only [if_true]
 refine wpAny_bind (wpAny_rule (wpAny_bind (wpAny_field hz rfl (x:=.ref TO) rfl (wpAny_bind (wpAny_setField_rec hz (by simp) fun g1 z1 t1=>?_)))))
 replace z1:IsZip g1 z TI TO .ellipsis:=z1
 refine wpAny_bind ?_;simp only [List.zipIdx_cons,List.zipIdx_nil,List.forIn_cons,List.forIn_nil];refine wpAny_bind (wpAny_bind (wpAny_onRaise ?_))
 show wpAny _ _ (Builtin.SmallTypes.nextOf (.ref i1) >>= _) _ _ _
 have st0:bK g1 i1 l1 k c1∧bP g1 l1 xs c1:=⟨h1.at fun o e=>t1.extBut _ _ D.a3 e,q1.at fun o e=>t1.extBut _ _ m1 e⟩
 rcases hend with hk | ⟨kx,hk⟩
 ·refine wpAny_bind (D1.done _ _ _ (by rw [hk];exact st0) fun g2 e t2 he=>?_)
  obtain ⟨oe,e1,e2⟩:=he
  have z2:IsZip g2 z TI TO .ellipsis:=t2 _ _ D.a3.symm z1
  have ez:e≠z:=fun q=>by subst q;rw [z2] at e1;cases e1;simp at e2
  exact wpAny_setField_rec z2 (by simp) fun g3 _ t3=>hE g3 e _ (fun c o d1 _ d3 _ q=>t3.extBut _ _ d1 (t2 _ _ d3 (t1.extBut _ _ d1 q))) ⟨oe,t3.extBut _ _ ez e1,e2⟩
 ·refine wpAny_bind (D1.item k _ _ _ kx st0 fun x g2 tk2 p1 st1 t2=>wpAny_pure ?_)
  have TO2:IsPair g2 TO a b:=t2.extBut _ _ D.a8 (t1.extBut _ _ D.a2 hTO)
  refine wpAny_bind (wpAny_seqItems TO2 rfl (wpAny_bind (wpAny_updateSeq_pair TO2 fun g3 TO3 t3=>?_)))
  refine wpAny_bind (wpAny_letGo (wpAny_pure ?_));refine wpAny_bind (wpAny_bind (wpAny_onRaise ?_));show wpAny _ _ (Builtin.SmallTypes.nextOf (.ref i2) >>= _) _ _ _
  have st2:bK g3 i2 l2 k c2∧bP g3 l2 ys c2:=⟨h2.at fun o e=>t3.extBut _ _ D.a9.symm (t2.extBut _ _ D.a0.symm (t1.extBut _ _ D.a4 e)),q2.at fun o e=>t3.extBut _ _ m6 (t2.extBut _ _ m7 (t1.extBut _ _ m5 e))⟩
  refine wpAny_bind (D2.done _ _ _ (by rw [hk];exact st2) fun g4 e t4 he=>?_)
  obtain ⟨oe,e1,e2⟩:=he
  have z4:IsZip g4 z TI TO .ellipsis:=t4 _ _ D.a4.symm (t3.extBut _ _ D.a2.symm (t2.extBut _ _ D.a3.symm z1))
  have ez:e≠z:=fun q=>by subst q;rw [z4] at e1;cases e1;simp at e2
  exact wpAny_setField_rec z4 (by simp) fun g5 _ t5=>hE g5 e _ (fun c o d1 d2 d3 d4 q=>t5.extBut _ _ d1 (t4 _ _ d4 (t3.extBut _ _ d2 (t2.extBut _ _ d3 (t1.extBut _ _ d1 q))))) ⟨oe,t5.extBut _ _ ez e1,e2⟩
end
def Ez:Bool→String
 | true => "list_iterator"
 | false => "tuple_iterator"
abbrev zA (h:Heap) (l1:Addr) (c1:Bool):Heap:=h.push { cls:=.type (Ez c1),data:=.fields #[.ref l1,.int 0 0] }
abbrev zB (h:Heap) (l1 l2:Addr) (c1 c2:Bool):Heap:=(zA h l1 c1).push { cls:=.type (Ez c2),data:=.fields #[.ref l2,.int 0 0] }
abbrev zC (h:Heap) (l1 l2:Addr) (c1 c2:Bool):Heap:=(zB h l1 l2 c1 c2).push { cls:=.type "tuple",data:=.seq #[.ref h.objs.size,.ref (zA h l1 c1).objs.size] }
abbrev zD (h:Heap) (l1 l2:Addr) (c1 c2:Bool):Heap:=(zC h l1 l2 c1 c2).push { cls:=.type "tuple",data:=.seq #[.none,.none] }
abbrev zE (h:Heap) (l1 l2:Addr) (c1 c2:Bool):Heap:=(zD h l1 l2 c1 c2).push { cls:=.type "zip",data:=.fields #[.none,.bool false,.bool false,.ref (zB h l1 l2 c1 c2).objs.size,.ref (zC h l1 l2 c1 c2).objs.size] }
set_option maxHeartbeats 8000000 in
theorem FQ (l1 l2:Addr) (xs ys:Array Value) (c1 c2:Bool) :
 Meets (Builtin.«zip.__new__» ⟨[.type "zip",.ref l1,.ref l2],[]⟩) (fun _ R s=>bP s.heap l1 xs c1∧bP s.heap l2 ys c2∧R (.ok (.ret (.ref (zD s.heap l1 l2 c1 c2).objs.size))) { s with heap:=zE s.heap l1 l2 c1 c2 }):=
 .of_wp fun prog w A R s h=>by
  obtain ⟨hp,g,d,tk,os⟩:=s;obtain ⟨q1,q2,h⟩:=h
  have hsub:=sub_zip
  have L2':bP (Shared.heap ⟨zA hp l1 c1,g,d,tk,os⟩) l2 ys c2:=bP.at q2 fun o e=>Heap.get?_push_of_some _ e
  cases c1 <;> cases c2
  ·have g1:Heap.IsTuple (Shared.heap ⟨hp,g,d,tk,os⟩) l1 xs:=q1
   have g2:Heap.IsTuple (Shared.heap ⟨hp.push { cls:=.type "tuple_iterator",data:=.fields #[.ref l1,.int 0 0] },g,d,tk,os⟩) l2 ys:=L2'
   wp_walk using wpAny_pyIter_tuple g1,wpAny_pyIter_tuple g2
   exact ⟨(),h⟩
  ·have g1:Heap.IsTuple (Shared.heap ⟨hp,g,d,tk,os⟩) l1 xs:=q1
   have g2:Heap.IsList (Shared.heap ⟨hp.push { cls:=.type "tuple_iterator",data:=.fields #[.ref l1,.int 0 0] },g,d,tk,os⟩) l2 ys:=L2'
   wp_walk using wpAny_pyIter_tuple g1,wpAny_pyIter_list g2
   exact ⟨(),h⟩
  ·have g1:Heap.IsList (Shared.heap ⟨hp,g,d,tk,os⟩) l1 xs:=q1
   have g2:Heap.IsTuple (Shared.heap ⟨hp.push { cls:=.type "list_iterator",data:=.fields #[.ref l1,.int 0 0] },g,d,tk,os⟩) l2 ys:=L2'
   wp_walk using wpAny_pyIter_list g1,wpAny_pyIter_tuple g2
   exact ⟨(),h⟩
  ·have g1:Heap.IsList (Shared.heap ⟨hp,g,d,tk,os⟩) l1 xs:=q1
   have g2:Heap.IsList (Shared.heap ⟨hp.push { cls:=.type "list_iterator",data:=.fields #[.ref l1,.int 0 0] },g,d,tk,os⟩) l2 ys:=L2'
   wp_walk using wpAny_pyIter_list g1,wpAny_pyIter_list g2
   exact ⟨(),h⟩
theorem xj {h:Heap}{it l:Addr}:∀{c:Bool},h.get? it=some { cls:=.type (Ez c),data:=.fields #[.ref l,.int 0 0] }→bK h it l 0 c
 | true,e=>⟨_,e,rfl,rfl⟩
 | false,e=>⟨_,e,rfl,rfl⟩
section
variable {prog:Program}{w:World}{A:Around}{E:Value→Shared→Prop}{s:Shared}
theorem Ac {l1 l2:Addr}{xs ys:Array Value}{c1 c2:Bool}{Q:Value→Shared→Prop} (q1:bP s.heap l1 xs c1) (q2:bP s.heap l2 ys c2)
 (h:∀h',IsZip h' (s.heap.objs.size+4) (s.heap.objs.size+2) (s.heap.objs.size+3) .none→IsPair h' (s.heap.objs.size+2) (.ref s.heap.objs.size) (.ref (s.heap.objs.size+1))→
  IsPair h' (s.heap.objs.size+3) .none .none→bK h' s.heap.objs.size l1 0 c1→bK h' (s.heap.objs.size+1) l2 0 c2→
  (∀c o,s.heap.get? c=some o→h'.get? c=some o)→Q (.ref (s.heap.objs.size+4)) { s with heap:=h' }) :
 wpAny (model prog w) A (call (.type "zip") [.ref l1,.ref l2]) Q E s:=by
 refine callType_new F.called_zip (by decide) (F.typeCall_zip_2 _ _) (F.newCall_zip_2 _ _) (fun obj=>F.args_object_init_3 obj _ _) F.entry_zip_new (FQ l1 l2 xs ys c1 c2) ⟨q1,q2,?_⟩
 have s1:(zA s.heap l1 c1).objs.size=s.heap.objs.size+1:=Heap.size_push ..
 have s2:(zB s.heap l1 l2 c1 c2).objs.size=s.heap.objs.size+2:=by rw [Heap.size_push,s1]
 have s3:(zC s.heap l1 l2 c1 c2).objs.size=s.heap.objs.size+3:=by rw [Heap.size_push,s2]
 have s4:(zD s.heap l1 l2 c1 c2).objs.size=s.heap.objs.size+4:=by rw [Heap.size_push,s3]
 have g5:(zE s.heap l1 l2 c1 c2).get? (zD s.heap l1 l2 c1 c2).objs.size=some _:=Heap.get?_push_size _ rfl
 have g4:(zE s.heap l1 l2 c1 c2).get? (zC s.heap l1 l2 c1 c2).objs.size=some _:=Heap.get?_push_of_some _ (Heap.get?_push_size _ rfl)
 have g3:(zE s.heap l1 l2 c1 c2).get? (zB s.heap l1 l2 c1 c2).objs.size=some _:=Heap.get?_push_of_some _ (Heap.get?_push_of_some _ (Heap.get?_push_size _ rfl))
 have g2:(zE s.heap l1 l2 c1 c2).get? (zA s.heap l1 c1).objs.size=some _:=Heap.get?_push_of_some _ (Heap.get?_push_of_some _ (Heap.get?_push_of_some _ (Heap.get?_push_size _ rfl)))
 have g1:(zE s.heap l1 l2 c1 c2).get? s.heap.objs.size=some _:=Heap.get?_push_of_some _ (Heap.get?_push_of_some _ (Heap.get?_push_of_some _ (Heap.get?_push_of_some _ (Heap.get?_push_size _ rfl))))
 show _∧_
 rw [s2,s3,s4] at g5
 rw [s1,s2] at g3
 rw [s3] at g4
 rw [s1] at g2
 rw [s4]
 exact ⟨⟨_,g5,rfl⟩,h _ g5 g3 g4 (xj g1) (xj g2) fun c o x=>Heap.get?_push_of_some _ (Heap.get?_push_of_some _ (Heap.get?_push_of_some _ (Heap.get?_push_of_some _ (Heap.get?_push_of_some _ x))))⟩
theorem sO {z TI TO i1 i2 l1 l2:Addr}{k:Nat}{xs ys:Array Value}{a b x y:Value}{c1 c2:Bool}{Q:Option Value→Shared→Prop} (D:oW z TI TO i1 i2) (n1:∀c,c=l1∨c=l2→c≠z∧c≠TO∧c≠i1∧c≠i2)
 (hz:IsZip s.heap z TI TO .none) (hTI:IsPair s.heap TI (.ref i1) (.ref i2)) (hTO:IsPair s.heap TO a b) (hh:A.handled=none)
 (h1:bK s.heap i1 l1 k c1) (h2:bK s.heap i2 l2 k c2) (q1:bP s.heap l1 xs c1) (q2:bP s.heap l2 ys c2) (hx:xs[k]?=some x) (hy:ys[k]?=some y)
 (hQ:∀h' tk,IsZip h' z TI TO (rawInt s.heap.objs.size)→IsPair h' TO x y→bK h' i1 l1 (k+1) c1→bK h' i2 l2 (k+1) c2→IsPair h' s.heap.objs.size x y→h'.objs.size=s.heap.objs.size+1→
  (∀c o,c≠z→c≠TO→c≠i1→c≠i2→s.heap.get? c=some o→h'.get? c=some o)→Q (some (.ref s.heap.objs.size)) { s with heap:=h',toks:=tk }) :
 wpAny (model prog w) A (pyNext (.ref z)) Q E s:=by
 have hT:s.TypeIs (.ref z) "zip" := ⟨_,hz,rfl⟩
 unfold pyNext
 exact wpAny_bind (wpAny_attempt (wpAny_callSpecial?_slot (name:=Str.ofString "__next__") hT F.slot_zip_next (wpAny_call_entry F.slot_zip_next hT F.entry_zip_next
  (Cw D n1 hz hTI hTO hh h1 h2 q1 q2 hx hy fun h' tk a1 a2 a3 a4 a5 a6 a7=>wpAny_pure (hQ h' tk a1 a2 a3 a4 a5 a6 a7)) (F.args_zip_next_1 _))))
theorem uN {z TI TO i1 i2 l1 l2:Addr}{k:Nat}{xs ys:Array Value}{a b:Value}{c1 c2:Bool}{Q:Option Value→Shared→Prop} (hh:A.handled=none) (D:oW z TI TO i1 i2) (n1:∀c,c=l1∨c=l2→c≠z∧c≠TO∧c≠i1∧c≠i2)
 (hz:IsZip s.heap z TI TO .none) (hTI:IsPair s.heap TI (.ref i1) (.ref i2)) (hTO:IsPair s.heap TO a b)
 (h1:bK s.heap i1 l1 k c1) (h2:bK s.heap i2 l2 k c2) (q1:bP s.heap l1 xs c1) (q2:bP s.heap l2 ys c2) (hend:xs.size=k∨(k<xs.size∧ys.size=k))
 (hQ:∀h' tk,(∀c o,c≠z→c≠TO→c≠i1→c≠i2→s.heap.get? c=some o→h'.get? c=some o)→Q none { s with heap:=h',toks:=tk }):wpAny (model prog w) A (pyNext (.ref z)) Q E s:=by
 have hT:s.TypeIs (.ref z) "zip" := ⟨_,hz,rfl⟩
 unfold pyNext
 refine wpAny_bind (wpAny_attempt (wpAny_callSpecial?_slot (name:=Str.ofString "__next__") hT F.slot_zip_next (wpAny_call_entry F.slot_zip_next hT F.entry_zip_next
  (Ev hh D n1 hz hTI hTO h1 h2 q1 q2 hend fun h' e tk hk he=>?_) (F.args_zip_next_1 _))))
 obtain ⟨o,ho,hc⟩:=he
 refine wpAny_bind (wpAny_isInstance (T := "StopIteration") (b:=true) ⟨o,ho,hc⟩ isSubtype_stop (wpAny_pure (hQ _ tk hk)))
end
theorem aa.turnedL {X:Cx}{pins:List (Addr×Obj)}{σ:St}{H:Hp}{s:Shared}{h':Heap}{t':Nat}{ch:List Addr} (I:aa X pins σ H s) (hf:∀b∈ch,jP X pins H b) (k:∀b u,b∉ch→s.heap.get? b=some u→h'.get? b=some u) :
 aa X pins σ H { s with heap:=h',toks:=t' }:=by
 refine I.step (g':=s.gens) (d':=s.drawn) (ch:=ch) (fun b hb=>?_) (fun b o _ _ hc e _=>k b o hc e) (fun b o _ _ hc e _=>⟨o.slots,k b o hc e⟩) (fun _ _ _ _ n=>n)
  (fun b o hc e=>⟨o,k b o hc e⟩) (fun _ _ e=>e) (fun _ _ _ e=>e) (fun b ps e=>⟨#[],by rw [e];simp⟩) (fun m hm=>?_) (fun b u e=>?_) I.bare
 ·obtain ⟨f0,f1,f2,f3,f4,f5⟩:=hf b hb
  exact ⟨f3,f1,f4,f5⟩
 ·obtain ⟨o,es,ep,ho,r⟩:=hm
  exact ⟨o,es,ep,k _ o (fun z=>(hf _ z).2.1 rfl) ho,r⟩
 ·refine (I.hok b u e).stay (fun c v hc q=>k c v (fun z=>?_) q) (fun _ q=>q) fun _ _ q=>q
  have hcn:=(hf c z).1
  rcases hc with rfl | hc
  ·rw [e] at hcn;cases hcn
  ·rw [hc] at hcn;cases hcn
def j0 (K:PySem.W.Frag) (H:Hp) (a:Addr) (xs:List V):Bool→Prop
 | true=>ar K H a xs
 | false=>au K H a xs
theorem aa.seqC {X:Cx}{pins:List (Addr×Obj)}{σ:St}{H:Hp}{s:Shared}{a:Addr}{xs:List V} (I:aa X pins σ H s):∀{c:Bool},j0 X.K H a xs c→∃its:List Value,aC xs its∧bP s.heap a its.toArray c
 | true,q=>let ⟨its,rv,p,_⟩:=I.list q;⟨its,rv,p.isList⟩
 | false,q=>let ⟨its,rv,p,_⟩:=I.tuple q;⟨its,rv,p⟩
theorem aa.seqC_inj {X:Cx}{pins:List (Addr×Obj)}{σ:St}{H:Hp}{s:Shared}{a:Addr}{xs ys:List V} (I:aa X pins σ H s):∀{c:Bool},j0 X.K H a xs c→j0 X.K H a ys c→xs=ys
 | true,p,q=>I.list_inj p q
 | false,p,q=>I.tuple_inj p q
def HQ (K:PySem.W.Frag) (a1 a2:Addr) (c1 c2:Bool):It:=
 ⟨fun i H=>mf fun xs ys x y=>j0 K H a1 xs c1∧j0 K H a2 ys c2∧xs[i]?=some x∧ys[i]?=some y,
  fun i H v H'=>gf fun T x y=>H T=none∧v=.ref T∧H'=aL H T (.tup [x,y])∧(∀xs,j0 K H a1 xs c1→xs[i]?=some x)∧(∀ys,j0 K H a2 ys c2→ys[i]?=some y),
  fun i H=>aV fun xs ys=>j0 K H a1 xs c1∧j0 K H a2 ys c2∧(xs.length=i∨(i<xs.length∧ys.length=i))⟩
theorem BA {P:Program}{w:World}{K:PySem.W.Frag}{es:List Expr}{kk:Nat}{pos:Pos} (a1 a2 z TI TO i1 i2:Addr) (c1 c2:Bool) (D:oW z TI TO i1 i2) (n1:∀c,c=a1∨c=a2→c≠z∧c≠TO∧c≠i1∧c≠i2) :
 oN P w K (.Tuple es kk pos) (HQ K a1 a2 c1 c2) [z,TO,i1,i2,TI] z (fun i h=>IsZip h z TI TO .none∧IsPair h TI (.ref i1) (.ref i2)∧(aV fun a b=>IsPair h TO a b)∧bK h i1 a1 i c1∧bK h i2 a2 i c2) where
 mem:=by simp
 obj:=fun i h st b hb=>by
  obtain ⟨hz,hTI,⟨a,b',hTO⟩,h1,h2⟩:=st
  have hb':b=z∨b=TO∨b=i1∨b=i2∨b=TI:=by simpa using hb
  rcases hb' with rfl | rfl | rfl | rfl | rfl
  ·exact ⟨_,hz,fun v q=>by have q':Data.fields _=Data.cell v:=q;cases q'⟩
  ·exact ⟨_,hTO,fun v q=>by have q':Data.seq _ _=Data.cell v:=q;cases q'⟩
  ·exact h1.some
  ·exact h2.some
  ·exact ⟨_,hTI,fun v q=>by have q':Data.seq _ _=Data.cell v:=q;cases q'⟩
 keep:=fun i h h' st k=>by
  obtain ⟨hz,hTI,⟨a,b',hTO⟩,h1,h2⟩:=st
  exact ⟨k z (by simp) _ hz,k TI (by simp) _ hTI,⟨a,b',k TO (by simp) _ hTO⟩,h1.at fun o q=>k i1 (by simp) o q,h2.at fun o q=>k i2 (by simp) o q⟩
 item:=by
  intro X hP hw hK hc i pins s σ H E I hf st hg
  subst hP hw hK
  obtain ⟨hz,hTI,⟨a,b',hTO⟩,h1,h2⟩:=st
  obtain ⟨xs,ys,x,y,p1,p2,hx,hy⟩:=hg
  obtain ⟨its1,rv1,k1⟩:=I.seqC p1
  obtain ⟨its2,rv2,k2⟩:=I.seqC p2
  obtain ⟨u,hu,ru⟩:=rv1.get hx
  obtain ⟨v,hv,rw'⟩:=rv2.get hy
  have hnT:H s.heap.objs.size=none:=I.fresh
  refine sO D n1 hz hTI hTO (I.ok.hd hc) h1 h2 k1 k2 (x:=u) (y:=v) (by simpa using hu) (by simpa using hv) fun h' tk zo TO' t1 t2 T' sz keep=>?_
  refine ⟨(),wpAny_letOwnedTupleGo_zip (s:={ s with heap:=h',toks:=tk }) zo fun h2' z2 s2=>?_⟩
  have zlt:z<s.heap.objs.size:=Heap.lt_size hz
  have TOlt:TO<s.heap.objs.size:=Heap.lt_size hTO
  have TIlt:TI<s.heap.objs.size:=Heap.lt_size hTI
  have i1lt:i1<s.heap.objs.size:=let ⟨_,e,_⟩:=h1.some;Heap.lt_size e
  have i2lt:i2<s.heap.objs.size:=let ⟨_,e,_⟩:=h2.some;Heap.lt_size e
  have hT2:h2'.get? s.heap.objs.size=some { cls:=.type "tuple",data:=.seq #[u,v] }:=(s2.2 _ (Nat.ne_of_gt zlt)).trans T'
  refine ⟨.ref s.heap.objs.size,aL H s.heap.objs.size (.tup [x,y]),I.turnedNew (ch:=[z,TO,i1,i2,TI]) (t':=tk) hf (fun b o hb q=>?_) (Nat.le_refl _) ?_,rfl,
   ⟨_,x,y,hnT,rfl,rfl,fun zs hs=>by rw [I.seqC_inj hs p1];exact hx,fun zs hs=>by rw [I.seqC_inj hs p2];exact hy⟩,⟨z2,(s2.2 _ D.a1).trans (keep _ _ D.a1 D.a5 D.a6 D.a7 hTI),⟨_,_,(s2.2 _ D.a2).trans TO'⟩,t1.at fun o e=>(s2.2 _ D.a3).trans e,t2.at fun o e=>(s2.2 _ D.a4).trans e⟩,fun b hb=>?_⟩
  ·have e1:b≠z:=fun q=>hb (by simp [q])
   have e2:b≠TO:=fun q=>hb (by simp [q])
   have e3:b≠i1:=fun q=>hb (by simp [q])
   have e4:b≠i2:=fun q=>hb (by simp [q])
   exact (s2.2 b e1).trans (keep b o e1 e2 e3 e4 q)
  ·exact ⟨by show 2≤sizeLine;decide,[u,v],.cons ru (.cons rw' .nil),⟨_,hT2,rfl,()⟩,_,hT2,rfl⟩
  ·have hb':b=z∨b=TO∨b=i1∨b=i2∨b=TI:=by simpa using hb
   have hlt:b<s.heap.objs.size:=by rcases hb' with rfl | rfl | rfl | rfl | rfl <;> assumption
   rw [am (Nat.ne_of_lt hlt)]
   exact (hf b hb).1
 done:=by
  intro X hP hw hK hc i pins s σ H E I hf st hg
  subst hP hw hK
  obtain ⟨hz,hTI,⟨a,b',hTO⟩,h1,h2⟩:=st
  obtain ⟨xs,ys,p1,p2,hl⟩:=hg
  obtain ⟨its1,rv1,k1⟩:=I.seqC p1
  obtain ⟨its2,rv2,k2⟩:=I.seqC p2
  have l1:=rv1.length
  have l2:=rv2.length
  refine uN (I.ok.hd hc) D n1 hz hTI hTO h1 h2 k1 k2 (by simp;trivial) fun h' tk keep=>⟨rfl,I.turnedL (ch:=[z,TO,i1,i2,TI]) (t':=tk) hf fun b o hb q=>?_⟩
  exact keep b o (fun q=>hb (by simp [q])) (fun q=>hb (by simp [q])) (fun q=>hb (by simp [q])) (fun q=>hb (by simp [q])) q
 self:=fun _ _ _ _ _ st h=>wpAny_pyIter_zip st.1 h
def E8 (K:PySem.W.Frag) (ta:TA):TI:=fun σ H R=>ta σ H fun vs H1=>mf fun a1 a2 c1 c2=>vs=[.ref a1,.ref a2]∧(∃xs,j0 K H1 a1 xs c1)∧(∃ys,j0 K H1 a2 ys c2)∧R (HQ K a1 a2 c1 c2) H1
theorem wL:bootBuiltins "zip" = some (.type "zip"):=by nofun
theorem EF {X:Cx}{es:List Expr}{kk:Nat}{tp:Pos}{a b:Expr}{ta:TA}{p pos:Pos} (hg:Gl X "zip") (hm:X.mg "zip" = none) (ha:PA X [a,b] ta) (hs:starEach [a,b] X.env=[(false,eval a X.env),(false,eval b X.env)]:=by rfl) (hs2:starEach [b] X.env=[(false,eval b X.env)]:=by rfl) :
 PI X (.Tuple es kk tp) (.Call (.Name "zip" p) [a,b] [] pos) (E8 X.K ta):=by
 intro pins s σ H R I h
 refine Call_ (gy I hg hm wL (PyProof.Rows.callWith_type1 (aK (ha pos pins s σ H _ I h) fun us s1 ⟨vs,H1,I1,r1,q1⟩=>?_) (by rw [hs,hs2]) (by rw [hs2];rfl)))
 obtain ⟨a1,a2,c1,c2,rfl,⟨xs,p1⟩,⟨ys,p2⟩,q⟩:=q1
 obtain ⟨u1,u2,rfl,ru1,ru2⟩:=r1.two
 obtain rfl:u1=.ref a1:=ru1
 obtain rfl:u2=.ref a2:=ru2
 obtain ⟨its1,rv1,k1⟩:=I1.seqC p1
 obtain ⟨its2,rv2,k2⟩:=I1.seqC p2
 have d1:=k1.lt
 have d2:=k2.lt
 refine Ac k1 k2 fun h' hz hTI hTO t1 t2 hk=>wpAny_pyIter_zip hz ?_
 have I2:aa X pins σ H1 { s1 with heap:=h',toks:=s1.toks }:=I1.kept hk
 refine ⟨s1.heap.objs.size+4,[s1.heap.objs.size+4,s1.heap.objs.size+3,s1.heap.objs.size,s1.heap.objs.size+1,s1.heap.objs.size+2],_,_,H1,rfl,I2,BA a1 a2 (s1.heap.objs.size+4) (s1.heap.objs.size+2) (s1.heap.objs.size+3) s1.heap.objs.size (s1.heap.objs.size+1) c1 c2
  ⟨by simp,by simp,Nat.ne_of_lt (by simp),by simp,by simp,Nat.ne_of_gt (by simp),by simp,Nat.ne_of_gt (by simp),by simp,Nat.ne_of_lt (by simp)⟩ (fun c hc=>?_),⟨hz,hTI,⟨_,_,hTO⟩,t1,t2⟩,fun b hb=>?_,q⟩
 ·have:c<s1.heap.objs.size:=by rcases hc with rfl | rfl <;> assumption
  exact ⟨Nat.ne_of_lt (Nat.lt_of_lt_of_le this (Nat.le_add_right _ _)),Nat.ne_of_lt (Nat.lt_of_lt_of_le this (Nat.le_add_right _ _)),Nat.ne_of_lt this,Nat.ne_of_lt (Nat.lt_of_lt_of_le this (Nat.le_add_right _ _))⟩
 ·have hb':b=s1.heap.objs.size+4∨b=s1.heap.objs.size+3∨b=s1.heap.objs.size∨b=s1.heap.objs.size+1∨b=s1.heap.objs.size+2:=by simpa using hb
  have hle:s1.heap.objs.size≤b:=by rcases hb' with rfl | rfl | rfl | rfl | rfl <;> trivial
  exact I1.fpOk hle (I1.hok.fresh hle)
def wa:PyData→Bool
 | .list _=>true
 | .tuple _=>true
 | _=>false
theorem gO {K:PySem.W.Frag} (d:PyData):PySem.W.kitAny K (.type (vv d)) [.type "list",.type "tuple"]=some (wa d):=by
 unfold PySem.W.kitAny PySem.W.kitAny PySem.W.kitAny
 rw [kT,cR]
 cases d <;> rfl
inductive DP (K:PySem.W.Frag) (xs:List V) (H:Hp) (Q:VK):Prop
 | mk (x:V) (p:Addr) (d:PyData) (E:Addr→Prop) (h0:xs=[x,.ref p]) (h1:bh E H x d) (h2:au K H p [.ty "list",.ty "tuple"]) (h3:Q (.bl (wa d)) H)
def BV (K:PySem.W.Frag):List V→Hp→VK→Prop:=fun xs H Q=>DP K xs H Q
section
variable {X:Cx}{K:PySem.W.Frag}
theorem vN:bU X (.builtin "isinstance") (BV X.K):=by
 intro pins s σ H xs us Q I r h
 obtain ⟨x,p,d,E,rfl,hx,hp,q⟩:=h
 obtain ⟨u,c,rfl,ru,rc⟩:=r.two
 obtain rfl:c=Value.ref p:=rc
 obtain ⟨its,rv,⟨o,e1,e2,n,e3⟩,_⟩:=I.tuple hp
 obtain ⟨u1,u2,rfl,r1,r2⟩:=rv.two
 obtain rfl:u1=Value.type "list" := r1
 obtain rfl:u2=Value.type "tuple" := r2
 have q':∀tk,EP X pins σ Q (.bool (wa d)) { s with toks:=tk }:=fun tk=>⟨.bl _,H,I.tok tk,rfl,q⟩
 obtain ⟨oc,od,odt,osl⟩:=o
 dsimp only at e2 e3
 subst e2 e3
 cases hx with
 | non=>cases (show u=Value.none from ru);exact PySem.W.kia_tup PySem.W.kitx_none I.kIn True.intro e1 (gO .none) (fun z=>nomatch z) q'
 | bl y=>cases (show u=Value.bool y from ru);exact PySem.W.kia_tup PySem.W.kitx_bool I.kIn True.intro e1 (gO (.bool y)) (fun z=>nomatch z) q'
 | int i=>obtain ⟨t,w⟩:=(show ∃t,u=Value.int i t from ru);cases w;exact PySem.W.kia_tup PySem.W.kitx_int I.kIn True.intro e1 (gO (.int i)) (fun z=>nomatch z) q'
 | str y=>obtain ⟨t,w⟩:=(show ∃t,u=Value.str y t from ru);cases w;exact PySem.W.kia_tup PySem.W.kitx_str I.kIn True.intro e1 (gO (.str y)) (fun z=>nomatch z) q'
 | @lst a xs ds ea _ _=>
  cases (show u=Value.ref a from ru)
  obtain ⟨_,_,m,_,h1⟩:=(show bc X.prog X.w H s.heap a (.lst xs) from I.hok a _ ea)
  exact PySem.W.kia_tup PySem.W.kitx_list I.kIn ⟨_,h1,rfl⟩ e1 (gO (.list ds)) (fun z=>nomatch z) q'
 | @tup a xs ds ea _=>
  cases (show u=Value.ref a from ru)
  obtain ⟨_,_,_,p,_⟩:=(show bc X.prog X.w H s.heap a (.tup xs) from I.hok a _ ea)
  obtain ⟨o,h1,h2,_⟩:=p
  exact PySem.W.kia_tup PySem.W.kitx_tuple I.kIn ⟨o,h1,h2⟩ e1 (gO (.tuple ds)) (fun z=>nomatch z) q'
theorem yU (e:X.K=K:=by rfl):bU X (.builtin "isinstance") (BV K):=by subst e;exact vN
end
def Sz (m:Nat) (i:Int):Prop:=i.natAbs<2 ^ m
theorem Sz.mono {m n:Nat}{i:Int} (h:Sz m i) (k:m≤n):Sz n i:=Nat.lt_of_lt_of_le h (Nat.pow_le_pow_right (by decide) k)
theorem Sz.mul {m n:Nat}{i j:Int} (h:Sz m i) (k:Sz n j):Sz (m+n) (i*j):=by
 unfold Sz at *
 rw [Int.natAbs_mul,Nat.pow_add]
 exact Nat.mul_lt_mul'' h k
theorem Sz.le {m:Nat}{i j:Int} (h:Sz m j) (k:i.natAbs≤j.natAbs):Sz m i:=Nat.lt_of_le_of_lt k h
theorem Sz.log {m:Nat}{i:Int} (h:Sz m i) (h0:i≠0):i.natAbs.log2<m:=(Nat.log2_lt (by trivial)).mpr h
theorem Sz.bits {m:Nat}{i:Int} (h:Sz m i):Builtin.Int.intBits i≤m:=by
 unfold Builtin.Int.intBits
 by_cases h0:i=0
 ·subst h0;exact Nat.zero_le _
 ·have:=h.log h0
  rw [if_neg (by simpa using h0)]
  trivial
def B0 (i j:Int):Prop:=aV fun m n=>Sz m i∧Sz n j∧m+n≤134217728
section
variable {X:Cx}
theorem pF:b8 X (binaryOp .Mult) (rI B0 fun i j=>.int (i*j)):=u0 fun _ _ _ _ _ _ _ hc q=>by
 obtain ⟨m,n,h1,h2,h3⟩:=hc
 exact mul_int q (PyProof.Rows.mulOk_of_bits h1.bits h2.bits h3)
end
def Dp:Nat→PyData→Prop
 | 0,_=>False
 | n+1,.list xs=>xs.length≤1000∧∀x∈xs,Dp n x
 | n+1,.tuple xs=>xs.length≤1000∧∀x∈xs,Dp n x
 | _+1,_=>True
inductive CD (n:Nat) (vs:List V) (H:Hp) (Q:VK):Prop
 | mk (x y:V) (d:PyData) (E:Addr→Prop) (h0:vs=[x,y]) (h1:bh E H x d) (h2:bh E H y d) (h3:Dp n d) (h4:∀H',ae H H'→Q (.bl true) H')
def Fq (n:Nat):Sp:=fun vs H Q _=>CD n vs H Q
theorem cE {H H':Hp}{D:Addr}{o:HO} (hD:H D=none) (k:ae H H'):ae H (aL H' D o):=fun b u e=>by
 rw [am (aS e hD)];exact k b u e
theorem aJ.free {b p:Addr}{H H9:Hp}{t9:Int} (s:aJ (Eb b) H H9) (B:Bx H9 b t9) (h:H9 p=none):H p=none:=by
 cases e:H p with
 | none=>rfl
 | some o=>
  by_cases hb:p=b
  ·obtain ⟨c,x,eb,_⟩:=B
   rw [←hb,h] at eb;cases eb
  ·rw [s.old p o hb e] at h;cases h
theorem pQ {Q:VK}{H:Hp}{x:V} (h:Q (.bl true) H):Q (.bl (decide (x=x))) H:=by rw [decide_eq_true rfl];exact h
theorem pK (n:Nat):(List.replicate n true).all id=true:=by
 induction n with
 | zero=>rfl
 | succ n ih=>rw [List.replicate_succ,List.all_cons,ih];rfl
theorem vQ (n:Nat):(List.replicate n true).map V.bl++[V.bl true]=(List.replicate (n+1) true).map V.bl:=by
 rw [List.replicate_succ',List.map_append];rfl
def BZ (H1:Hp) (D:Addr) (i:Nat) (H':Hp) (ys:List V):Prop:=ys=(List.replicate i true).map V.bl∧H' D=some (.lst ys)∧ae H1 H'
theorem pS {x:V}{A B:Prop} (h:B):if (!decide (x=x))=true then A else B:=by rw [decide_eq_true rfl];exact ay h
theorem uT {x:V}{A B:Prop} (h:A):if decide (x=x)=true then A else B:=by rw [decide_eq_true rfl];exact aA h
abbrev fr (z:Int×Int):HO:=.tup [.int z.1,.int z.2]
theorem yf {i j:Int} (h1:Sz 4000 i) (h2:Sz 4000 j):B0 i j:=⟨4000,4000,h1,h2,by decide⟩
theorem BR {i j:Int} (h1:Sz 4000 i) (h2:Sz 4000 j):Sz 9000 (i*j):=(h1.mul h2).mono (by decide)
structure Fb (b:Nat) (n d:Int):Prop where
 sn:Sz b n
 sd:Sz b d
 pos:1≤d
 co:Int.gcd n d=1
theorem Fb.low {b:Nat}{n d:Int} (h1:Sz b n) (h2:Sz b d) (hd:d≠0):Fb b (KM.low n d).1 (KM.low n d).2:=by
 obtain ⟨a,_,c,e,f⟩:=KM.low_spec n d hd
 exact ⟨h1.le e,h2.le f,a,c⟩
structure Nw (H:Hp) (p:Addr) (o:HO) (H':Hp):Prop where
 fr:H p=none
 sm:ae H H'
 at':H' p=some o
theorem Nw.mk' {H:Hp}{p:Addr}{o:HO} (h:H p=none):Nw H p o (aL H p o):=⟨h,ae.new h,ai⟩
section
variable {X:Cx}{es:List Expr}{t:TA}{pos:Pos}{K:PySem.W.Frag}
def GM (t:TA):TE:=fun σ H Q=>t σ H fun xs H1=>xs.length≤10000∧∀p H',Nw H1 p (.tup xs) H'→Q (.ref p) H'
def Gm (t:TA):TE:=fun σ H Q=>t σ H fun xs H1=>xs.length≤10000∧∀p H',Nw H1 p (.lst xs) H'→Q (.ref p) H'
theorem eJ {n:Nat} (h:n≤10000):n≤sizeLine:=by rw [sizeLine_eq];trivial
theorem av {x1} (h:PA X es t):PE X (.Tuple es x1 pos) (GM t):=by
 intro pins s σ H Q I hq
 refine wpAny_Tuple_spliced (aK (h pos pins s σ H _ I hq) fun us s1 ⟨xs,H1,I1,r,z',q⟩=>⟨by rw [←r.length];exact eJ z',?_⟩)
 have z:=eJ z'
 have hf:H1 s1.heap.objs.size=none:=I1.hok.fresh (Nat.le_refl _)
 refine ⟨.ref s1.heap.objs.size,aL H1 s1.heap.objs.size (.tup xs),I1.laid (t':=s1.toks) (fun b u e=>Heap.get?_push_of_some _ e) (Nat.le_refl _) ?_,rfl,q _ _ (.mk' hf)⟩
 exact ⟨z,us,r,⟨_,Heap.get?_push_size _ rfl,rfl,()⟩,_,Heap.get?_push_size _ rfl,rfl⟩
theorem dz (h:PA X es t):PE X (.List es pos) (Gm t):=by
 intro pins s σ H Q I hq
 refine wpAny_List_spliced (aK (h pos pins s σ H _ I hq) fun us s1 ⟨xs,H1,I1,r,z',q⟩=>⟨by rw [←r.length];exact eJ z',?_⟩)
 have z:=eJ z'
 have hf:H1 s1.heap.objs.size=none:=I1.hok.fresh (Nat.le_refl _)
 refine ⟨.ref s1.heap.objs.size,aL H1 s1.heap.objs.size (.lst xs),I1.laid (t':=s1.toks) (fun b u e=>Heap.get?_push_of_some _ e) (Nat.le_refl _) ?_,rfl,q _ _ (.mk' hf)⟩
 exact ⟨z,us,0,r,Heap.get?_push_size _ rfl⟩
inductive FF (x:V) (y:V) (H:Hp) (Q:VK):Prop
 | mk (l:_) (b:_) (xs:_) (zs:_) (h0:x=.ref l) (h1:y=.ref b) (h2:H l=some (.lst xs)) (h3:H b=some (.lst zs)) (h4:xs.length+zs.length≤10000) (h5:∀p H',Nw H p (.lst (xs++zs)) H'→Q (.ref p) H')
def GK:R2:=fun x y H Q=>FF  x y H Q
theorem pI:b8 X (binaryOp .Add) GK:=fun pins s σ H x y v u Q I rx ry ⟨l,b,xs,zs,e1,e2,h1,h2,hz,q⟩=>
 Fd pins s σ H x y v u Q I rx ry ⟨l,b,xs,zs,e1,e2,h1,h2,eJ hz,fun p hp=>q p _ (.mk' hp)⟩
inductive FX (K:PySem.W.Frag) (x:V) (lo:Option Int) (hi:Option Int) (H:Hp) (Q:VK):Prop
 | mk (a:_) (xs:_) (h0:x=.ref a) (h1:ar K H a xs) (h2:∀p H',Nw H p (.lst (gW xs lo hi)) H'→Q (.ref p) H')
def HX (K:PySem.W.Frag):V→Option Int→Option Int→Hp→VK→Prop:=fun x lo hi H Q=>FX K x lo hi H Q
theorem mJ (e:X.K=K:=by rfl):xN X (HX K):=by
 subst e
 exact fun pins s σ H x v vl vu lo hi sl Q I rx hs pl pu ⟨a,xs,e,h,q⟩=>su pins s σ H x v vl vu lo hi sl Q I rx hs pl pu ⟨a,xs,e,h,fun p hp=>q p _ (.mk' hp)⟩
inductive Fp (x:V) (y:V) (H:Hp) (Q:VK):Prop
 | mk (l:_) (k:_) (xs:_) (h0:x=.ref l) (h1:y=.int k) (h2:H l=some (.lst xs)) (h3:-(2 ^ 63)≤k) (h4:k<2 ^ 63) (h5:xs.length*k.toNat≤10000) (h6:∀p H',Nw H p (.lst (List.replicate k.toNat xs).flatten) H'→Q (.ref p) H')
def Hy:R2:=fun x y H Q=>Fp  x y H Q
theorem Ct:b8 X (binaryOp .Mult) Hy:=fun pins s σ H x y v u Q I rx ry ⟨l,k,xs,e1,e2,h1,h2,h3,hz,q⟩=>
 EA pins s σ H x y v u Q I rx ry ⟨l,k,xs,e1,e2,h1,h2,h3,eJ hz,fun p hp=>q p _ (.mk' hp)⟩
inductive Bz (K:PySem.W.Frag) (xs:List V) (H:Hp) (Q:VK):Prop
 | mk (p:_) (ys:_) (h0:xs=[.ref p]) (h1:ar K H p ys) (h2:∀l H',Nw H l (.tup ys) H'→Q (.ref l) H')
def DD (K:PySem.W.Frag):List V→Hp→VK→Prop:=fun xs H Q=>Bz K xs H Q
theorem cB (e:X.K=K:=by rfl):bU X (.type "tuple") (DD K):=by
 subst e
 exact fun pins s σ H xs us Q I r ⟨p,ys,e,h,q⟩=>uO pins s σ H xs us Q I r ⟨p,ys,e,.inl ⟨h,fun l hl=>q l _ (.mk' hl)⟩⟩
end
structure Ch (H:Hp) (p:Addr) (xs:List V) (H':Hp):Prop where
 at':H' p=some (.lst xs)
 ol:∀a o,a≠p→H a=some o→H' a=some o
 fre:∀a,a≠p→H a=none→H' a=none
theorem Ch.mk' {H:Hp}{p:Addr}{xs:List V}:Ch H p xs (aL H p (.lst xs)):=⟨ai,fun a o n h=>by rw [am n];exact h,fun a n h=>by rw [am n];exact h⟩
theorem Ch.tup {H H':Hp}{p a:Addr}{xs ys zs:List V} (c:Ch H p xs H') (h:H a=some (.tup ys)) (hp:H p=some (.lst zs)):H' a=some (.tup ys):=c.ol a _ (yH h hp (by intro z;cases z)) h
section
variable {X:Cx}
inductive FE (o:V) (i:V) (v:V) (H:Hp) (Q:(Hp→Prop)):Prop
 | mk (p:_) (xs:_) (k:_) (j:_) (h0:o=.ref p) (h1:i=.int k) (h2:H p=some (.lst xs)) (h3:re xs.length k=some j) (h4:∀H',Ch H p (xs.set j v) H'→Q H')
def Gs:V→V→V→Hp→(Hp→Prop)→Prop:=fun o i v H Q=>FE  o i v H Q
theorem zY:AB X Gs:=fun pins s σ H o i v ov iv u Q I ro ri rv ⟨p,xs,k,j,e1,e2,h,hj,q⟩=>mU pins s σ H o i v ov iv u Q I ro ri rv ⟨p,xs,k,j,e1,e2,h,hj,q _ .mk'⟩
inductive Ex (x:V) (vs:List V) (H:Hp) (Q:VK):Prop
 | mk (l:_) (xs:_) (y:_) (h0:x=.ref l) (h1:vs=[y]) (h2:H l=some (.lst xs)) (h3:xs.length≤10000) (h4:∀H',Ch H l (xs++[y]) H'→Q .non H')
def Gv:V→List V→Hp→VK→Prop:=fun x vs H Q=>Ex  x vs H Q
theorem iA:ES X "list.append" Gv:=fun pins s σ H x vs v us Q I rx rv ⟨l,xs,y,e1,e2,h,hz,q⟩=>ud pins s σ H x vs v us Q I rx rv ⟨l,xs,y,e1,e2,h,(by rw [sizeLine_eq];trivial),q _ .mk'⟩
end
theorem Fb.small {b:Nat}{n d:Int} (h1:n.natAbs<2 ^ b) (h2:d.natAbs<2 ^ b) (h3:1≤d) (h4:Int.gcd n d=1):Fb b n d:=⟨h1,h2,h3,h4⟩
theorem Bx.ch {H H':Hp}{b p:Addr}{t:Int}{xs:List V} (h:Bx H b t) (k:Ch H p xs H') (ne:b≠p):Bx H' b t:=by
 obtain ⟨c,x,e,q,q2,q3⟩:=h
 exact ⟨c,x,k.ol b _ ne e,q,q2,q3⟩
theorem Bx.ne {H:Hp}{b p:Addr}{t:Int} (h:Bx H b t) (hp:H p=none):b≠p:=fun z=>by
 obtain ⟨c,x,e,_⟩:=h
 rw [z,hp] at e;cases e
section
variable {X:Cx}{e:Expr}{te:TE}{st:Expr}{ts:TO}{p2 pos:Pos}{K:PySem.W.Frag}
theorem aC.rev {xs:List V}{us:List Value} (h:aC xs us):aC xs.reverse us.reverse:=by
 induction h with
 | nil=>exact .nil
 | cons h _ ih=>rw [List.reverse_cons,List.reverse_cons];exact ih.append (.cons h .nil)
def FY (K:PySem.W.Frag) (te:TE) (ts:TO):TE:=fun σ H Q=>te σ H fun x H1=>ts σ H1 fun k H2=>k=some (-1)∧aV fun a xs=>x=.ref a∧ar K H2 a xs∧∀p H',Nw H2 p (.lst xs.reverse) H'→Q (.ref p) H'
theorem C6 (he:PE X e te) (hst:PO X (some st) ts) (ek:X.K=K:=by rfl):PE X (.Subscript e (.Slice none none (some st) p2) pos) (FY K te ts):=by
 subst ek
 intro pins s σ H Q I h
 refine Subscript_ (aK (he pins s σ H _ I h) fun v s1 ⟨x,H1,I1,r1,q1⟩=>?_)
 refine wpAny_Slice ?_
 rw [evalPart_none]
 refine wpAny_pure (wpAny_pure (aK (hst pins s1 σ H1 _ I1 q1) fun vs s3 ⟨k,H3,I3,pk,q3⟩=>?_))
 obtain ⟨rfl,a,xs,rfl,hx,q⟩:=q3
 cases r1
 have I4:aa X pins σ H3 { s3 with heap:=s3.heap.push { cls:=.type "slice",data:=.fields #[.none,.none,vs] } }:=I3.kept (t':=s3.toks) fun b ob q=>Heap.get?_push_of_some _ q
 obtain ⟨its,r,ht,hz⟩:=I4.list hx
 have hlen:=r.length
 show wpAny (model X.prog X.w) X.A (subscriptTail e (.Slice none none (some st) p2) (.ref a) (.ref s3.heap.objs.size)) (EP X pins σ Q) X.xe { s3 with heap:=s3.heap.push { cls:=.type "slice",data:=.fields #[.none,.none,vs] } }
 refine tail_any (ops:=[.ref a,.ref s3.heap.objs.size]) ht.isList.typeIs slot_list_getitem.lookup ?_ (by with_unfolding_all rfl)
 refine wpAny_getItem_list_slice ht.isList (Heap.IsSliceOf.new ..) .none .none pk (by decide) ?_ (by rw [List.size_toArray] <;> trivial)
 rw [PySem.W.krv_pick]
 refine ⟨.ref (s3.heap.push { cls:=.type "slice",data:=.fields #[.none,.none,vs] }).objs.size,_,I4.laid (t':=s3.toks) (o:=.lst xs.reverse) (fun b ob q=>Heap.get?_push_of_some _ q) (Nat.le_refl _) ?_,rfl,q _ _ (.mk' (I4.hok.fresh (Nat.le_refl _)))⟩
 exact ⟨by rw [List.length_reverse];exact hz,_,0,r.rev,Heap.get?_push_size _ rfl⟩
inductive ER (x:V) (vs:List V) (H:Hp) (Q:VK):Prop
 | mk (l:_) (xs:_) (k:_) (y:_) (h0:x=.ref l) (h1:vs=[.int k,y]) (h2:H l=some (.lst xs)) (h3:0≤k) (h4:k≤xs.length) (h5:xs.length≤10000) (h6:∀H',Ch H l (xs.take k.toNat++y :: xs.drop k.toNat) H'→Q .non H')
def GO:V→List V→Hp→VK→Prop:=fun x vs H Q=>ER  x vs H Q
theorem x6:ES X "list.insert" GO:=by
 intro pins s σ H x vs v us Q I rx rv h
 obtain ⟨l,xs,k,y,rfl,rfl,hH,h0,h1,hz,q⟩:=h
 cases rx
 obtain ⟨u1,u2,rfl,r1,r2⟩:=rv.two
 obtain ⟨t1,rfl⟩:=r1
 obtain ⟨z,its,n,r,hl,e⟩:=I.lstM hH
 have hf:Builtin.List.listFitsIndex k=true:=by
  unfold Builtin.List.listFitsIndex
  simp
  trivial
 refine call_meets F.slot_list_insert ⟨_,e,rfl⟩ F.entry_list_insert (F.args_list_insert_3 _ _ _) (AutoSeq1.list_insert_list_int_val_1 l its.toArray n k t1 u2 (by simp [hf]) (by rw [List.size_toArray];trivial)) ⟨e,?_⟩
 refine ⟨.non,_,I.lset (its':=its.take k.toNat++u2 :: its.drop k.toNat) hH e ?_ ((r.take k.toNat).append (.cons r2 (r.drop k.toNat))) ?_,rfl,q _ .mk'⟩
 ·have hk:¬k<0:=by trivial
  have hm:min k.toNat its.length=k.toNat:=by trivial
  simp only [if_neg hk,List.size_toArray,hm]
  apply Array.ext'
  simp
  exact List.take_of_length_le (by rw [List.length_drop];trivial)
 ·rw [List.length_append,List.length_cons,List.length_take,List.length_drop,sizeLine_eq]
  trivial
end
def S (l:List Nat):Str:=⟨l.toArray⟩
theorem nt {a b:List Nat} (h:S a=S b):a=b:=by
 have:a.toArray=b.toArray:=by injection h
 simpa using this
theorem bM (a b:List Nat):S a++S b=S (a++b):=by
 show (⟨a.toArray++b.toArray⟩:Str)=⟨(a++b).toArray⟩
 simp
theorem bu (a:List Nat):(S a).length=a.length:=by
 show a.toArray.size=_
 simp
theorem sh (a:List Nat):(S a).cps.toList=a:=rfl
theorem zP (k:Nat) (l:List Nat):∀acc:List Nat,(List.replicate k l.toArray).foldl (·++·) acc.toArray=(acc++(List.replicate k l).flatten).toArray:=by
 induction k with
 | zero=>intro acc;simp
 | succ k ih=>
  intro acc
  rw [List.replicate_succ,List.foldl_cons,List.replicate_succ,List.flatten_cons]
  have:acc.toArray++l.toArray=(acc++l).toArray:=by simp
  rw [this,ih,List.append_assoc]
theorem ub:∀ls:List (List Nat),Str.join (S []) (ls.map S)=S ls.flatten
 | []=>rfl
 | [a]=>by
  show S a=S (a++[])
  rw [List.append_nil]
 | a :: b :: r=>by
  have e:Str.join (S []) ((a :: b :: r).map S)=S a++S []++Str.join (S []) ((b :: r).map S):=rfl
  rw [e,ub (b :: r),bM,bM,List.append_nil]
  rfl
section
variable {X:Cx}{K:PySem.W.Frag}
inductive Ec (x:V) (y:V) (H:Hp) (Q:VK):Prop
 | mk (l:_) (n:_) (h0:x=.str (S l)) (h1:y=.int n) (h2:1≤n) (h3:n≤1000) (h4:l.length≤100) (h5:Q (.str (S (List.replicate n.toNat l).flatten)) H)
def Hm:R2:=fun x y H Q=>Ec  x y H Q
theorem sw:b8 X (binaryOp .Mult) Hm:=by
 intro pins s σ H x y v u Q I rx ry h
 obtain ⟨l,n,rfl,rfl,h1,h2,h3,q⟩:=h
 obtain ⟨t,rfl⟩:=rx
 obtain ⟨t',rfl⟩:=ry
 have hlen:(S l).length=l.length:=bu l
 have hmul:l.length*n.toNat≤100*1000:=Nat.mul_le_mul h3 (by trivial)
 refine PySem.P.mul_str ?_ ?_ ?_ ?_
 ·rw [decide_eq_false (by trivial),decide_eq_false (by trivial)];rfl
 ·intro _ _
  rw [hlen]
  have:(100:Int)<(2 ^ 63 - 1) / n:=by
   have:(100+1)*n≤2 ^ 63 - 1:=by trivial
   have:=(Int.le_ediv_iff_mul_le (by trivial:0<n)).mpr this
   trivial
  trivial
 ·intro _ _
  rw [hlen]
  unfold Builtin.Str.tooLong
  rw [decide_eq_false]
  rw [sizeLine_eq]
  trivial
 ·rw [if_neg (by trivial)]
  by_cases hn:(n==1 || (S l).length==0)=true
  ·rw [if_pos hn]
   refine ⟨.str (S l),H,I,⟨t,rfl⟩,?_⟩
   have e:(List.replicate n.toNat l).flatten=l:=by
    rw [hlen] at hn
    have hn':n=1∨l.length=0:=by simpa using hn
    rcases hn' with rfl | hn'
    ·simp
    ·have:l=[]:=List.eq_nil_of_length_eq_zero hn'
     subst this
     simp
   rw [e] at q
   exact q
  ·rw [if_neg hn]
   have e:(⟨(List.replicate n.toNat (S l).cps).foldl (·++·) #[]⟩:Str)=S (List.replicate n.toNat l).flatten:=by
    have e:=zP n.toNat l []
    rw [List.nil_append] at e
    exact congrArg Str.mk e
   rw [e]
   refine ⟨?_,.str (S (List.replicate n.toNat l).flatten),H,I.tok _,⟨()⟩,q⟩
   rw [bu,xE,sizeLine_eq,Nat.mul_comm]
   trivial
inductive EJ (K:PySem.W.Frag) (x:V) (vs:List V) (H:Hp) (Q:VK):Prop
 | mk (a:_) (ls:_) (h0:x=.str (S [])) (h1:vs=[.ref a]) (h2:ar K H a ((ls:List (List Nat)).map fun l=>V.str (S l))) (h3:(ls.map (·.length)).sum≤10000) (h4:Q (.str (S ls.flatten)) H)
def G0 (K:PySem.W.Frag):V→List V→Hp→VK→Prop:=fun x vs H Q=>EJ K x vs H Q
theorem tL {ls:List (List Nat)}:∀{us:List Value},aC (ls.map fun l=>V.str (S l)) us→StrsAre us (ls.map S):=by
 induction ls with
 | nil=>intro us h;cases h;exact .nil
 | cons l r ih=>
  intro us h
  cases h with
  | cons h t=>
   obtain ⟨tk,rfl⟩:=h
   exact .cons _ _ (ih t)
theorem xP (ek:X.K=K:=by rfl):sf X "str.join" (G0 K):=by
 subst ek
 intro pins s σ H x vs v us Q I rx rv h
 obtain ⟨a,ls,rfl,rfl,hS,hz,q⟩:=h
 obtain ⟨t,rfl⟩:=rx
 obtain ⟨u,rfl,ru⟩:=rv.one
 obtain rfl:u=Value.ref a:=ru
 obtain ⟨its,r,ht,_⟩:=I.list hS
 have e1:((ls.map S).map (·.length)).sum=(ls.map (·.length)).sum:=by
  rw [List.map_map]
  congr 1
 refine join_list (ys:=ls.map S) ht.isList (by simpa using tL r) ?_ fun t' k=>?_
 ·rw [e1,show (S []).length=0 from rfl]
  trivial
 ·have:=join_plain_closes (S []) (ls.map S)
  rw [eq_of_beq this,ub]
  exact ⟨.str (S ls.flatten),H,I.tok k,⟨()⟩,q⟩
inductive Fk (x:V) (y:V) (H:Hp) (Q:VK):Prop
 | mk (a:_) (b:_) (h0:x=.str (S a)) (h1:y=.str (S b)) (h2:a.length+b.length≤10000) (h3:Q (.str (S (a++b))) H)
def Gx:R2:=fun x y H Q=>Fk  x y H Q
theorem iu:b8 X (binaryOp .Add) Gx:=fun pins s σ H x y v u Q I rx ry ⟨a,b,e1,e2,hz,q⟩=>
 x9 pins s σ H x y v u Q I rx ry ⟨S a,S b,e1,e2,by rw [bu,bu];exact eJ hz,by rw [bM];exact q⟩
end
theorem yI:Str.ofString "abcdefghijklmnopqrstuvwxyz" = S ((List.range 26).map (97+·)):=by nofun
theorem wf:Str.ofString "" = S []:=by nofun
theorem oH {i:Int} (h0:-26≤i) (h1:i<26):gk ((Str.ofString "abcdefghijklmnopqrstuvwxyz").cps.toList) i=some (97+(i % 26).toNat):=by
 rw [yI,sh]
 have:∀k:Fin 52,gk ((List.range 26).map (97+·)) ((k.val:Int) - 26)=some (97+(((k.val:Int) - 26) % 26).toNat):=by nofun
 have e:=this ⟨(i+26).toNat,by trivial⟩
 simp only at e
 rw [show (((i+26).toNat:Nat):Int) - 26=i by trivial] at e
 exact e
theorem EB {f:Int}{j k:Nat} (hj:j<26) (hk:k<26) (h:(f+11*(j:Int)) % 26=(f+11*(k:Int)) % 26):j=k:=by trivial
structure hU (l:List Nat):Prop where
 lo:1≤l.length
 hi:l.length≤8
 az:∀c∈l,97≤c∧c≤122
abbrev ao (l:List Nat):V:=.str (S l)
def nm (c k:Nat):List Nat:=List.replicate (1+k) c
theorem mO (n c:Nat):(List.replicate n [c]).flatten=List.replicate n c:=by
 induction n with
 | zero=>rfl
 | succ n ih=>rw [List.replicate_succ,List.flatten_cons,ih,List.replicate_succ];rfl
theorem Gf {c k:Nat} (hk:k<8) (h1:97≤c) (h2:c≤122):hU (nm c k):=⟨by simp [nm],by simp [nm];trivial,fun d hd=>by
 have:=List.eq_of_mem_replicate hd
 trivial⟩
theorem lh {xs:List V}{m:Int} (h:0≤m):gW xs none (some m)=xs.take m.toNat:=by
 unfold gW
 have e:m=((m.toNat:Nat):Int):=by trivial
 rw [HT.sIx_none,e,HT.sIx_nat]
 simp only [Int.toNat_natCast,List.drop_zero,Nat.sub_zero]
 by_cases hm:m.toNat≤xs.length
 ·rw [Nat.min_eq_left hm]
 ·rw [Nat.min_eq_right (by trivial),List.take_of_length_le (Nat.le_refl _),List.take_of_length_le (by trivial)]
theorem wU {ls:List (List Nat)}{f:Int} (hl:ls.length≤26) (h:∀(j:Nat) (l:List Nat),ls[j]?=some l→l.head?=some (97+((f+11*(j:Int)) % 26).toNat)):ls.Nodup:=by
 rw [List.nodup_iff_pairwise_ne,List.pairwise_iff_getElem]
 intro i j hi hj hij e
 have h1:=h i ls[i] (List.getElem?_eq_getElem hi)
 have h2:=h j ls[j] (List.getElem?_eq_getElem hj)
 rw [e,h2] at h1
 injection h1 with h1
 have a1:=Int.emod_nonneg (f+11*(i:Int)) (by decide:(26:Int)≠0)
 have a2:=Int.emod_nonneg (f+11*(j:Int)) (by decide:(26:Int)≠0)
 have:=EB (f:=f) (j:=i) (k:=j) (by trivial) (by trivial) (by trivial)
 trivial
theorem aJ.ch {b D:Addr}{H H1 H2:Hp}{xs:List V} (s:aJ (Eb b) H H1) (c:Ch H1 D xs H2) (hD:H D=none):aJ (Eb b) H H2:=
 ⟨fun a u ne h=>c.ol a u (aS h hD) (s.old a u ne h),fun a us h=>c.ol a _ (aS h hD) (s.tup a us h)⟩
theorem aJ.up {b D:Addr}{H H1:Hp}{o:HO} (s:aJ (Eb b) H H1) (hD:H D=none):aJ (Eb b) H (aL H1 D o):=
 ⟨fun a u ne h=>by rw [am (aS h hD)];exact s.old a u ne h,fun a us h=>by rw [am (aS h hD)];exact s.tup a us h⟩
def HR (x:Str):Prop:=x.length≤300∧∀c∈x.cps.toList,c<128
mutual
inductive Wt:PyData→Nat→Nat→Prop
 | non {k:Nat}:Wt .none 1 k
 | bl (b:Bool) {k:Nat}:Wt (.bool b) 1 k
 | int {i:Int} (h:Sz 1900 i) {k:Nat}:Wt (.int i) 1 k
 | str {x:Str} (h:HR x) {k:Nat}:Wt (.str x) 1 k
 | list {xs:List PyData}{n k:Nat} (h:da xs n k):Wt (.list xs) (n+1) (k+1)
 | tuple {xs:List PyData}{n k:Nat} (h:da xs n k):Wt (.tuple xs) (n+1) (k+1)
inductive da:List PyData→Nat→Nat→Prop
 | nil {k:Nat}:da [] 0 k
 | cons {x:PyData}{xs:List PyData}{m n k:Nat} (h:Wt x m k) (r:da xs n k):da (x :: xs) (m+n) k
end
theorem Wt.pos {d:PyData}{n k:Nat} (h:Wt d n k):1≤n:=by cases h <;> trivial
mutual
theorem Wt.dep:∀{d:PyData}{n k:Nat},Wt d n k→d.depth≤k
 | _,_,_,.non=>by simp [PyData.depth]
 | _,_,_,.bl b=>by simp [PyData.depth]
 | _,_,_,.int h=>by simp [PyData.depth]
 | _,_,_,.str h=>by simp [PyData.depth]
 | _,_,_,.list h=>by simp only [PyData.depth];exact Nat.succ_le_succ (da.dep h)
 | _,_,_,.tuple h=>by simp only [PyData.depth];exact Nat.succ_le_succ (da.dep h)
theorem da.dep:∀{ds:List PyData}{n k:Nat},da ds n k→PyData.depthAll ds≤k
 | _,_,_,.nil=>by simp [PyData.depthAll]
 | _,_,_,.cons h r=>by simp only [PyData.depthAll];exact Nat.max_le.mpr ⟨Wt.dep h,da.dep r⟩
end
mutual
theorem Wt.sho:∀{d:PyData}{n k:Nat},Wt d n k→d.showable=true
 | _,_,_,.non=>by simp [PyData.showable]
 | _,_,_,.bl b=>by simp [PyData.showable]
 | _,_,_,.int (i:=i) h=>by
  simp only [PyData.showable,decide_eq_true_iff]
  by_cases h0:i=0
  ·subst h0;decide
  ·exact Nat.lt_trans (h.log h0) (by decide)
 | _,_,_,.str h=>by simp [PyData.showable]
 | _,_,_,.list h=>by simp only [PyData.showable];exact da.sho h
 | _,_,_,.tuple h=>by simp only [PyData.showable];exact da.sho h
theorem da.sho:∀{ds:List PyData}{n k:Nat},da ds n k→PyData.showableAll ds=true
 | _,_,_,.nil=>by simp [PyData.showableAll]
 | _,_,_,.cons h r=>by simp only [PyData.showableAll,Bool.and_eq_true];exact ⟨Wt.sho h,da.sho r⟩
end
mutual
theorem Wt.nod:∀{d:PyData}{n k:Nat},Wt d n k→d.hasDict=false
 | _,_,_,.non=>by simp [PyData.hasDict]
 | _,_,_,.bl b=>by simp [PyData.hasDict]
 | _,_,_,.int h=>by simp [PyData.hasDict]
 | _,_,_,.str h=>by simp [PyData.hasDict]
 | _,_,_,.list h=>by simp only [PyData.hasDict];exact da.nod h
 | _,_,_,.tuple h=>by simp only [PyData.hasDict];exact da.nod h
theorem da.nod:∀{ds:List PyData}{n k:Nat},da ds n k→PyData.hasDictAll ds=false
 | _,_,_,.nil=>by simp [PyData.hasDictAll]
 | _,_,_,.cons h r=>by simp only [PyData.hasDictAll,Bool.or_eq_false_iff];exact ⟨Wt.nod h,da.nod r⟩
end
mutual
theorem Wt.len:∀{d:PyData}{n k:Nat},Wt d n k→d.shown.length+2≤3010*n
 | _,_,_,.non=>by
  rw [PyData.shown]
  decide +kernel
 | _,_,_,.bl b=>by
  rw [PyData.shown]
  cases b <;> decide +kernel
 | _,_,_,.int (i:=i) h=>by
  rw [PyData.shown]
  have hl:i.natAbs.log2<1920:=by
   by_cases h0:i=0
   ·subst h0;decide
   ·exact Nat.lt_trans (h.log h0) (by decide)
  have:=int_text_len_1921 hl
  trivial
 | _,_,_,.str (x:=x) h=>by
  rw [PyData.shown]
  have:=PySem.StrLaws.reprText_len x (fun c hc=>Nat.lt_trans (h.2 c hc) (by decide))
  have:=h.1
  trivial
 | _,_,_,.list (xs:=xs) (n:=n) h=>by
  rw [PyData.shown]
  have h1:=listText_len_le (PyData.shownAll xs)
  have h2:=da.len h
  trivial
 | _,_,_,.tuple (xs:=xs) (n:=n) h=>by
  rw [PyData.shown]
  have h1:=tupleText_len_le (PyData.shownAll xs)
  have h2:=da.len h
  trivial
theorem da.len:∀{ds:List PyData}{n k:Nat},da ds n k→((PyData.shownAll ds).map (·.length)).sum+2*(PyData.shownAll ds).length≤3010*n
 | _,_,_,.nil=>by simp [PyData.shownAll]
 | _,_,_,.cons (x:=x) (xs:=xs) (m:=m) (n:=n) h r=>by
  rw [PyData.shownAll,List.map_cons,List.sum_cons,List.length_cons]
  have h1:=Wt.len h
  have h2:=da.len r
  have h3:=h.pos
  trivial
end
end L2
namespace L2
open PySem PySem.Spec PyProof.Rows
mutual
theorem Wt.can:∀{d:PyData}{n k:Nat},Wt d n k→d.canLay0=true
 | _,_,_,.non=>by simp [PyData.canLay0]
 | _,_,_,.bl b=>by simp [PyData.canLay0]
 | _,_,_,.int h=>by simp [PyData.canLay0]
 | _,_,_,.str (x:=x) h=>by
  simp only [PyData.canLay0]
  unfold PySem.PyData.strOk
  rw [Array.all_eq_true]
  intro i hi
  have:=h.2 x.cps[i] (by simp)
  simp
  trivial
 | _,_,_,.list h=>by simp only [PyData.canLay0];exact da.can h
 | _,_,_,.tuple h=>by simp only [PyData.canLay0];exact da.can h
theorem da.can:∀{ds:List PyData}{n k:Nat},da ds n k→PyData.canLayAll0 ds=true
 | _,_,_,.nil=>by simp [PyData.canLayAll0]
 | _,_,_,.cons h r=>by simp only [PyData.canLayAll0,Bool.and_eq_true];exact ⟨Wt.can h,da.can r⟩
end
section
variable {X:Cx}
inductive Ep (xs:List V) (H:Hp) (Q:VK):Prop
 | mk (a:Addr) (d:PyData) (E:Addr→Prop) (n k:Nat) (h0:xs=[.ref a]) (h1:bh E H (.ref a) d) (h2:Wt d n k) (h3:n≤5500) (h4:k≤50) (h5:Q (.str d.shown) H)
def Ga:List V→Hp→VK→Prop:=fun xs H Q=>Ep  xs H Q
theorem tH {k:Nat} (hr:cy k X.A):bU X (.type "str") Ga:=fun pins s σ H xs us Q I r ⟨a,d,E,n,k,e,hd,w,hn,hk,q⟩=>
 uF hr pins s σ H xs us Q I r ⟨a,d,E,e,hd,w.sho,w.nod,by have:=w.dep;trivial,by have:=w.len;rw [sizeLine_eq];trivial,q⟩
end
abbrev ED:Addr→Prop:=fun _=>True
abbrev rH (p:KM.Fra):PyData:=.tuple [.int p.1,.int p.2]
structure aU where
 bg:List Nat
 en:List Nat
 most:KM.Fra
 gain:KM.Fra
 price:KM.Fra
abbrev lQ (t:aU):PyData:=.tuple [.str (S t.bg),.str (S t.en),rH t.most,rH t.gain,rH t.price]
abbrev fC (ls:List (List Nat)) (ts:List aU):PyData:=.tuple [.tuple (ls.map fun l=>.str (S l)),.tuple (ts.map lQ)]
theorem rR {H:Hp}{o:Addr}{p:KM.Fra} (h:H o=some (.tup [.int p.1,.int p.2])):bh ED H (.ref o) (rH p):=.tup h (.cons (.int _) (.cons (.int _) .nil))
theorem ki {E:Addr→Prop}{H:Hp}{v:V}{p:KM.Fra} (h:bh E H v (rH p)):∃o,v=.ref o∧H o=some (.tup [.int p.1,.int p.2]):=by
 cases h with
 | @tup a xs _ h r=>
  cases r with
  | cons h1 r=>
  cases r with
  | cons h2 r=>
  cases r
  cases h1
  cases h2
  exact ⟨a,rfl,h⟩
theorem bh.tupS {E F:Addr→Prop}{H H':Hp}{v:V}{d:PyData} (h:bh ED H v d) (k:aJ E H H'):bh ED H' v d:=h.mono ⟨fun _ _ n _=>absurd trivial n,k.tup⟩
theorem aI.tupS {E:Addr→Prop}{H H':Hp}{v:List V}{d:List PyData} (h:aI ED H v d) (k:aJ E H H'):aI ED H' v d:=h.mono ⟨fun _ _ n _=>absurd trivial n,k.tup⟩
theorem bh.tupC {H H':Hp}{v:V}{d:PyData}{p:Addr}{xs ys:List V} (h:bh ED H v d) (k:Ch H p xs H') (hp:H p=some (.lst ys)):bh ED H' v d:=h.mono ⟨fun _ _ n _=>absurd trivial n,fun _ _ e=>k.tup e hp⟩
theorem zh {H:Hp}:∀ls:List (List Nat),aI ED H (ls.map ao) (ls.map fun l=>.str (S l))
 | []=>.nil
 | _ :: r=>.cons (.str _) (zh r)
theorem tD {α:Type}{f:α→PyData}{m k:Nat}:∀{xs:List α},(∀x∈xs,Wt (f x) m k)→da (xs.map f) (m*xs.length) k
 | [],_=>.nil
 | x :: r,h=>by
  have e:m*(x :: r).length=m+m*r.length:=by rw [List.length_cons,Nat.mul_succ,Nat.add_comm]
  rw [e]
  exact .cons (h x (by simp)) (tD fun y hy=>h y (List.mem_cons_of_mem _ hy))
end L2
namespace L2
open PySem PySem.Spec PyProof.Rows
theorem Dn {n d:Int} (hn:1≤n) (hn2:n≤60) (hd:1≤d) (hd2:d≤60):Fb 6 (KM.low n d).1 (KM.low n d).2∧1≤(KM.low n d).1:=by
 have a:Sz 6 n:=by show n.natAbs<64;trivial
 have b:Sz 6 d:=by show d.natAbs<64;trivial
 refine ⟨Fb.low a b (by trivial),?_⟩
 have:=(KM.low_sgn (n:=n) (d:=d) (by trivial)).1.mpr (by trivial)
 trivial
theorem HI {c:Bool}{a b:Int}{σ:St}{H:Hp}{Q:VK} (h:Q (.int (if c=true then a else b)) H):if c=true then tC (.int a) σ H Q else tC (.int b) σ H Q:=by
 cases c with
 | true=>exact aA h
 | false=>exact ay h
theorem kJ {m:Int} (h0:0<m) (h1:m<1099511627776):m.natAbs.log2<9000:=by
 have a:Sz 40 m:=by show m.natAbs<1099511627776;trivial
 exact Nat.lt_trans (a.log (by trivial)) (by decide)
theorem xK {n f r:Int} (h0:0≤f) (h1:f<n) (r0:0≤r) (r1:r<n - 1):0≤(f+1+r) % n∧(f+1+r) % n<n∧(f+1+r) % n≠f:=by
 have hn:0<n:=by trivial
 refine ⟨Int.emod_nonneg _ (by trivial),Int.emod_lt_of_pos _ hn,?_⟩
 by_cases h:f+1+r<n
 ·rw [Int.emod_eq_of_lt (by trivial) h];trivial
 ·have e:(f+1+r) % n=f+1+r - n:=by
   have h2:(f+1+r) % n=(f+1+r - n) % n:=by rw [Int.sub_emod_right]
   rw [h2,Int.emod_eq_of_lt (by trivial) (by trivial)]
  rw [e];trivial
theorem l8 {α:Type}{xs:List α}{k:Int}{f:α→V} (h0:0≤k) (h:k.toNat<xs.length):gk (xs.map f) k=some (f xs[k.toNat]):=by
 have q:=pH (xs:=xs.map f) (j:=k.toNat) (v:=f xs[k.toNat]) (by rw [List.getElem?_map];simp [h])
 rwa [Int.toNat_of_nonneg h0] at q
end L2
namespace L2
theorem iq {α:Type}{ls:List α} (h:ls.Nodup) {i j:Nat} (hi:i<ls.length) (hj:j<ls.length) (e:ls[i]=ls[j]):i=j:=by
 have p:=List.pairwise_iff_getElem.mp h
 rcases Nat.lt_trichotomy i j with q | q | q
 ·exact absurd e (p i j hi hj q)
 ·exact q
 ·exact absurd e.symm (p j i hj hi q)
end L2
namespace L2
open PySem PySem.Spec PyProof.Rows
theorem Fc {c:Bool}{ta tb:TE}{σ:St}{H:Hp}{Q:VK} (I:V→Hp→Prop) (rest:∀v H',I v H'→Q v H') (h1:c=true→(∀v H',I v H'→Q v H')→ta σ H Q) (h2:c=false→(∀v H',I v H'→Q v H')→tb σ H Q) :
 if c=true then ta σ H Q else tb σ H Q:=by
 cases c with
 | true=>exact aA (h1 rfl rest)
 | false=>exact ay (h2 rfl rest)
end L2
namespace L2
end L2
namespace L2
open PySem PySem.Spec PyProof.Rows
theorem aI.take {E:Addr→Prop}{H:Hp}:∀{xs:List V}{ds:List PyData} (n:Nat),aI E H xs ds→aI E H (xs.take n) (ds.take n)
 | _,_,0,_=>by simp;exact .nil
 | _,_,_+1,.nil=>by simp;exact .nil
 | _,_,n+1,.cons h r=>by simp;exact .cons h (aI.take n r)
end L2
namespace L2
open PySem PySem.Spec PyProof.Rows
open AutoSeq1 (wpAny_loadPart')
set_option maxHeartbeats 4000000 in
theorem Bm (l:Addr) (its:Array Value) (n:Nat) (dct:Option Addr) (sl:Array (Option Value)) :
 Meets (Builtin.«enumerate.__new__» ⟨[.type "enumerate",.ref l],[]⟩) (fun _ R s=>s.heap.get? l=some { cls:=.type "tuple",dict:=dct,data:=.seq its n,slots:=sl }∧
  R (.ok (.ret (.ref (s.heap.push { cls:=.type "tuple_iterator",data:=.fields #[.ref l,.int 0 0] }).objs.size))) { s with heap:=(s.heap.push { cls:=.type "tuple_iterator",data:=.fields #[.ref l,.int 0 0] }).push { cls:=.type "enumerate",data:=.fields #[.none,.bool false,.ref s.heap.objs.size,rawInt 0,.none,.none] } }):=
 .of_wp fun prog w A R s h=>by
  obtain ⟨hp,g,d,tk,os⟩:=s;obtain ⟨hl,h⟩:=h;have hsub:=sub_enumerate
  have hT:Heap.IsTuple (Shared.heap ⟨hp,g,d,tk,os⟩) l its:=⟨_,hl,rfl,n,rfl⟩
  wp_walk using wpAny_loadPart' hl
  refine wpAny_stack_any fun st=>wpAny_pure ?_;split
  ·rename_i c _ _ _ _ _;cases (c==Value.type "enumerate")
   ·wp_walk using wpAny_loadPart' hl,wpAny_pyIter_tuple hT
    exact ⟨(),h⟩
   ·wp_walk using wpAny_loadPart' hl,wpAny_pyIter_tuple hT
    exact ⟨(),h⟩
  ·wp_walk using wpAny_loadPart' hl,wpAny_pyIter_tuple hT
   exact ⟨(),h⟩
section
variable {prog:Program}{w:World}{A:Around}{E:Value→Shared→Prop}{s:Shared}
theorem x8 {l:Addr}{its:Array Value}{Q:Value→Shared→Prop}:∀{c:Bool},bP s.heap l its c→
 (∀h',IsEnum h' (s.heap.objs.size+1) s.heap.objs.size 0 .none→bK h' s.heap.objs.size l 0 c→(∀b o,s.heap.get? b=some o→h'.get? b=some o)→Q (.ref (s.heap.objs.size+1)) { s with heap:=h' })→
 wpAny (model prog w) A (call (.type "enumerate") [.ref l]) Q E s
 | true,q,h=>call_enumerate_list q fun h' a b _ k=>h h' a b k
 | false,q,h=>by
  obtain ⟨⟨c,dct,dt,sl⟩,hl,hc,n,hd⟩:=q
  dsimp only at hc hd
  subst hc hd
  refine callType_new F.called_enumerate (by decide) (F.typeCall_enumerate_1 _) (F.newCall_enumerate_1 _) (fun obj=>F.args_object_init_2 obj _) F.entry_enumerate_new (Bm l its n dct sl) ⟨hl,?_⟩
  have hz:(s.heap.push { cls:=.type "tuple_iterator",data:=.fields #[.ref l,.int 0 0] }).objs.size=s.heap.objs.size+1:=Heap.size_push ..
  show _∧_
  rw [hz]
  have he:IsEnum ((s.heap.push { cls:=.type "tuple_iterator",data:=.fields #[.ref l,.int 0 0] }).push { cls:=.type "enumerate",data:=.fields #[.none,.bool false,.ref s.heap.objs.size,rawInt 0,.none,.none] }) (s.heap.objs.size+1) s.heap.objs.size 0 .none:=by
   rw [←hz];exact Heap.get?_push_size _ rfl
  exact ⟨⟨_,he,rfl⟩,h _ he ⟨_,Heap.get?_push_of_some _ (Heap.get?_push_size _ rfl),rfl,rfl⟩ fun b o e=>Heap.get?_push_of_some _ (Heap.get?_push_of_some _ e)⟩
end
def vM (K:PySem.W.Frag) (a:Addr) (c:Bool):It:=
 ⟨fun i H=>aV fun xs x=>j0 K H a xs c∧xs[i]?=some x,fun i H v H'=>aV fun T x=>H T=none∧v=.ref T∧H'=aL H T (.tup [.int (i:Int),x])∧∀xs,j0 K H a xs c→xs[i]?=some x,fun i H=>∃xs,j0 K H a xs c∧xs.length=i⟩
theorem x4 {P:Program}{w:World}{K:PySem.W.Frag}{es:List Expr}{kk:Nat}{pos:Pos} (a e it:Addr) (c:Bool) (hne:e≠it) (hae:a≠e) (hai:a≠it) :
 oN P w K (.Tuple es kk pos) (vM K a c) [e,it] e (fun i h=>(∃old,IsEnum h e it i old)∧bK h it a i c) where
 mem:=by simp
 obj:=fun i h st b hb=>by
  obtain ⟨⟨old,he⟩,hi⟩:=st
  have hb':b=e∨b=it:=by simpa using hb
  rcases hb' with rfl | rfl
  ·exact ⟨_,he,fun v z=>by have z':Data.fields _=Data.cell v:=z;cases z'⟩
  ·exact hi.some
 keep:=fun i h h' st k=>by
  obtain ⟨⟨old,he⟩,hi⟩:=st
  exact ⟨⟨old,k e (by simp) _ he⟩,hi.at fun o q=>k it (by simp) o q⟩
 item:=by
  intro X hP hw hK hc i pins s σ H E I hf st hg
  subst hP hw hK
  obtain ⟨⟨old,he⟩,hit⟩:=st
  obtain ⟨xs,x,hq,hx⟩:=hg
  obtain ⟨its,rv,p⟩:=I.seqC hq
  obtain ⟨u,hu,ru⟩:=rv.get hx
  have hnT:H s.heap.objs.size=none:=I.fresh
  have hiu:i<its.length:=(List.getElem?_eq_some_iff.mp hu).1
  have D:=fh (prog:=X.prog) (w:=X.w) (A:=X.A.in1) (I.ok.hd hc) it a hai its.toArray c
  refine wpAny_pyNext_enum_itemD D he ⟨hit,p⟩ (by simpa using hiu) hne (by simp;exact ⟨hne,Ne.symm hae⟩) fun u' h' tk hP ho st' hT hsz hk=>?_
  have eu:u=u':=by
   have:its.toArray[i]?=some u':=hP
   rw [List.getElem?_toArray,hu] at this
   exact Option.some.inj this
  subst eu
  refine ⟨(),wpAny_letOwnedTupleGo_enum (s:={ s with heap:=h',toks:=tk+1 }) ho fun h'' he'' hs''=>?_⟩
  have helt:e<s.heap.objs.size:=Heap.lt_size he
  have hilt:it<s.heap.objs.size:=let ⟨_,y,_⟩:=hit.some;Heap.lt_size y
  have hT'':h''.get? s.heap.objs.size=some { cls:=.type "tuple",data:=.seq #[.int i tk,u] }:=(hs''.2 _ (Nat.ne_of_gt helt)).trans hT
  refine ⟨.ref s.heap.objs.size,aL H s.heap.objs.size (.tup [.int (i:Int),x]),I.turnedNew (ch:=[e,it]) (t':=tk+1) hf (fun b o hb q=>?_) (Nat.le_refl _) ?_,rfl,⟨_,x,hnT,rfl,rfl,fun ys hy=>by rw [I.seqC_inj hy hq];exact hx⟩,⟨⟨u,?_⟩,st'.1.at fun o q=>(hs''.2 _ (Ne.symm hne)).trans q⟩,fun b hb=>?_⟩
  ·have h1:b≠e:=fun z=>hb (by simp [z])
   have h2:b≠it:=fun z=>hb (by simp [z])
   exact (hs''.2 b h1).trans (hk b o h1 h2 q)
  ·exact ⟨by show 2≤sizeLine;decide,[.int i tk,u],.cons ⟨()⟩ (.cons ru .nil),⟨_,hT'',rfl,()⟩,_,hT'',rfl⟩
  ·simpa using he''
  ·have hb':b=e∨b=it:=by simpa using hb
   have hlt:b<s.heap.objs.size:=by rcases hb' with rfl | rfl <;> assumption
   rw [am (Nat.ne_of_lt hlt)]
   exact (hf b hb).1
 done:=by
  intro X hP hw hK hc i pins s σ H E I hf st hg
  subst hP hw hK
  obtain ⟨⟨old,he⟩,hit⟩:=st
  obtain ⟨xs,hq,hx⟩:=hg
  obtain ⟨its,rv,p⟩:=I.seqC hq
  have hl:=rv.length
  have D:=fh (prog:=X.prog) (w:=X.w) (A:=X.A.in1) (I.ok.hd hc) it a hai its.toArray c
  have ei:i=its.toArray.size:=by simp;trivial
  refine wpAny_pyNext_enum_endD D he (by rw [ei] at hit;exact ⟨hit,p⟩) fun h' eb=>⟨rfl,I.turnedL (ch:=[e,it]) (t':=s.toks) hf fun b o hb q=>eb b o (fun z=>hb (by simp [z])) q⟩
 self:=fun _ _ _ _ _ st h=>by
  obtain ⟨⟨old,he⟩,_⟩:=st
  exact wpAny_pyIter_enum he h
def EW (K:PySem.W.Frag) (ta:TA):TI:=fun σ H R=>ta σ H fun vs H1=>aV fun a c=>vs=[.ref a]∧(∃xs,j0 K H1 a xs c)∧R (vM K a c) H1
theorem AG {X:Cx}{K:PySem.W.Frag}{es:List Expr}{kk:Nat}{tp:Pos}{a:Expr}{ta:TA}{p pos:Pos} (hg:Gl X "enumerate") (hm:X.mg "enumerate" = none) (ha:PA X [a] ta) (hs:starEach [a] X.env=[(false,eval a X.env)]:=by rfl) (ek:X.K=K:=by rfl) :
 PI X (.Tuple es kk tp) (.Call (.Name "enumerate" p) [a] [] pos) (EW K ta):=by
 subst ek
 intro pins s σ H R I h
 refine Call_ (gy I hg hm boot_enumerate (PyProof.Rows.callWith_type1 (aK (ha pos pins s σ H _ I h) fun us s1 ⟨vs,H1,I1,r1,q1⟩=>?_) hs rfl))
 obtain ⟨a,c,rfl,⟨xs,hq⟩,q⟩:=q1
 obtain ⟨u,rfl,ru⟩:=r1.one
 obtain rfl:u=.ref a:=ru
 obtain ⟨its,rv,p⟩:=I1.seqC hq
 have d1:=p.lt
 refine x8 p fun h' hE hI hk=>wpAny_pyIter_enum hE ?_
 have I2:aa X pins σ H1 { s1 with heap:=h',toks:=s1.toks }:=I1.kept hk
 refine ⟨s1.heap.objs.size+1,[s1.heap.objs.size+1,s1.heap.objs.size],_,_,H1,rfl,I2,x4 a (s1.heap.objs.size+1) s1.heap.objs.size c (Nat.succ_ne_self _) (Nat.ne_of_lt (Nat.lt_succ_of_lt d1)) (Nat.ne_of_lt d1),⟨⟨_,hE⟩,hI⟩,fun b hb=>?_,q⟩
 have hb':b=s1.heap.objs.size+1∨b=s1.heap.objs.size:=by simpa using hb
 have hle:s1.heap.objs.size≤b:=by rcases hb' with rfl | rfl <;> trivial
 exact I1.fpOk hle (I1.hok.fresh hle)
section
variable {X:Cx}
end
end L2
namespace L2
open PySem PySem.Spec PyProof.Rows
theorem aI.drop {E:Addr→Prop}{H:Hp}:∀{xs:List V}{ds:List PyData} (n:Nat),aI E H xs ds→aI E H (xs.drop n) (ds.drop n)
 | _,_,0,h=>by simpa using h
 | _,_,_+1,.nil=>by simp;exact .nil
 | _,_,n+1,.cons h r=>by simp;exact aI.drop n r
section
variable {z:Nat}{E:Addr→Prop}{H H':Hp}{n m k:Nat}{v:V}{xs ys:List V}
theorem rj:gW xs (some 1) none=xs.drop 1:=by
 unfold gW
 rw [HT.sIx_none,show (1:Int)=((1:Nat):Int) from rfl,HT.sIx_nat]
 cases xs with
 | nil=>simp
 | cons x r=>simp
end
section
variable {X:Cx}
def HJ (m:Nat) (x:Str):Prop:=x.length≤m∧∀c∈x.cps.toList,c<128
end
end L2
namespace HT
open PySem PySem.Spec PyProof.Rows
section
variable {prog:Program}{w:World}{A:Around}{E:Value→Shared→Prop}{s:Shared}
theorem getItem_tuple_whole {t sl:Addr}{items:Array Value}{vl vu:Value}{lo hi:Option Int}{Q:Value→Shared→Prop} (ht:IsTup s.heap t items) (hs:s.heap.IsSliceOf sl vl vu .none) (pl:IsPart vl lo) (pu:IsPart vu hi)
 (h1:sIx items.size 0 lo=0) (h2:sIx items.size items.size hi=items.size) (h:Q (.ref t) s):wpAny (model prog w) A (getItem (.ref t) (.ref sl)) Q E s:=by
 obtain ⟨os,hos,hcs,hds⟩:=id hs
 have hTs:s.TypeIs (.ref sl) "slice" := ⟨os,hos,hcs⟩
 unfold getItem
 try with_reducible refine wpAny_holding ?_
 first | refine wpAny_bind (wpAny_pure ?_) | skip
 refine wpAny_bind (wpAny_sequenceKey ht.typeIs (by decide) ?_)
 refine wpAny_bind (wpAny_callSpecial?_slot (name:=Str.ofString "__getitem__") ht.typeIs PyProof.Rows.slot_tuple_getitem
  (wpAny_call_entry PyProof.Rows.slot_tuple_getitem ht.typeIs entry_tuple_getitem ?_ (args_tuple_getitem _ _)))
 show wpAny _ _ (Builtin.Tuple.tupleItemsOf (.ref t) >>= _) _ _ s
 refine wpAny_bind (tupleItemsOf_ ht ?_)
 refine wpAny_bind (wpAny_typeOf hTs ?_)
 rw [if_pos (by decide)]
 refine wpAny_bind (kR hs pl pu ?_)
 have hyes:((((sIx items.size 0 lo:Nat):Int)==0 && (1:Int)==1 && (sIx items.size items.size hi - sIx items.size 0 lo)==items.size)=true):=by
  rw [h1,h2];simp
 show wpAny _ _ (if (((sIx items.size 0 lo:Nat):Int)==0 && (1:Int)==1 && (sIx items.size items.size hi - sIx items.size 0 lo)==items.size)=true then _ else _) _ _ s
 rw [if_pos hyes]
 refine wpAny_bind (m:=Builtin.Tuple.tupleIsExact _) (wpAny_bind (wpAny_typeOf ht.typeIs (wpAny_pure ?_)))
 rw [if_pos (by decide)]
 exact wpAny_bind (wpAny_rule (wpAny_pure ⟨(),wpAny_pure h⟩))
end
end HT
namespace L2
open PySem PySem.Spec PyProof.Rows
section
variable {X:Cx}{K:PySem.W.Frag}
inductive E5 (x:V) (y:V) (H:Hp) (Q:VK):Prop
 | mk (b c:Bool) (h0:x=.bl b) (h1:y=.bl c) (h2:Q (.bl (!(b==c))) H)
def Hh:R2:=fun x y H Q=>E5  x y H Q
theorem Ds:b8 X (compareOp .IsNot) Hh:=by
 intro pins s σ H x y v u Q I rx ry h
 obtain ⟨b,c,rfl,rfl,q⟩:=h
 cases (show v=Value.bool b from rx)
 cases (show u=Value.bool c from ry)
 refine wpAny_isNot_plain rfl (bf I q ?_)
 cases b <;> cases c <;> rfl
inductive E1 (K:PySem.W.Frag) (x:V) (lo:Option Int) (hi:Option Int) (H:Hp) (Q:VK):Prop
 | mk (a:_) (xs:_) (h0:x=.ref a) (h1:au K H a xs) (h2:H a=some (.tup xs)) (h3:∀p H',ae H H'→H' p=some (.tup (gW xs lo hi))→Q (.ref p) H')
def Gy (K:PySem.W.Frag):V→Option Int→Option Int→Hp→VK→Prop:=fun x lo hi H Q=>E1 K x lo hi H Q
theorem xi (e:X.K=K:=by rfl):xN X (Gy K):=by
 subst e
 intro pins s σ H x v vl vu lo hi sl Q I rx hs pl pu h
 obtain ⟨a,xs,rfl,hx,ha,q⟩:=h
 by_cases hw:HT.sIx xs.length 0 lo=0∧HT.sIx xs.length xs.length hi=xs.length
 ·cases rx
  obtain ⟨its,r,ht,hz⟩:=I.tuple hx
  have hlen:its.toArray.size=xs.length:=by rw [List.size_toArray];exact r.length.symm
  refine ⟨"tuple",_,PyProof.Rows.slot_tuple_getitem.lookup,ht.typeIs,?_⟩
  refine HT.getItem_tuple_whole ht hs pl pu (by rw [hlen];exact hw.1) (by rw [hlen];exact hw.2) ⟨.ref a,H,I,rfl,q a H (ae.refl _) ?_⟩
  have:gW xs lo hi=xs:=by
   unfold gW
   rw [hw.1,hw.2,List.drop_zero,Nat.sub_zero,List.take_length]
  rw [this];exact ha
 ·exact FG pins s σ H _ v vl vu lo hi sl Q I rx hs pl pu ⟨a,xs,rfl,hx,hw,fun p hp=>q p _ (ae.new hp) ai⟩
end
theorem sI {α:Type}{p:List α→Prop} (h0:p []) (h1:∀l a,p l→p (l++[a])) (l:List α):p l:=by
 have:∀r:List α,p r.reverse:=fun r=>by
  induction r with
  | nil=>exact h0
  | cons a r ih=>rw [List.reverse_cons];exact h1 _ _ ih
 have h:=this l.reverse
 rwa [List.reverse_reverse] at h
def io (ks:List bz):List bz:=ks.foldl (fun σ k=>if σ.any (fun x=>decide (x=k)) then σ else σ++[k]) []
theorem jM (ks:List bz) (k:bz):io (ks++[k])=if (io ks).any (fun x=>decide (x=k)) then io ks else io ks++[k]:=by
 unfold io
 rw [List.foldl_append]
 rfl
theorem qT:∀(ks:List bz),(io ks).length≤ks.length:=by
 intro ks
 induction ks using sI with
 | h0=>exact Nat.le_refl _
 | h1 ks k ih=>
  rw [jM,List.length_append]
  split
  ·simp;trivial
  ·rw [List.length_append];simp;trivial
theorem vR (ks:List bz):∀j,j∈io ks↔j∈ks:=by
 induction ks using sI with
 | h0=>exact fun j=>Iff.rfl
 | h1 ks k ih=>
  intro j
  rw [jM,List.mem_append,List.mem_singleton]
  split
  ·rename_i h
   rw [ih]
   constructor
   ·exact .inl
   ·rintro (z | z)
    ·exact z
    ·obtain ⟨x,hx,e⟩:=List.any_eq_true.mp h
     rw [z,←ih,←of_decide_eq_true e];exact hx
  ·rw [List.mem_append,List.mem_singleton,ih]
theorem yx (ks:List bz):(io ks).length=ks.length↔ks.Nodup:=by
 induction ks using sI with
 | h0=>exact ⟨fun _=>List.nodup_nil,fun _=>rfl⟩
 | h1 ks k ih=>
  rw [jM,List.length_append,List.nodup_append]
  have ol:=qT ks
  by_cases h:(io ks).any (fun x=>decide (x=k))=true
  ·rw [if_pos h]
   obtain ⟨x,hx,e⟩:=List.any_eq_true.mp h
   have hk:k∈ks:=by rw [←of_decide_eq_true e];exact (vR ks x).mp hx
   constructor
   ·intro z;simp at z;trivial
   ·intro z;exact absurd rfl (z.2.2 k hk k (by simp))
  ·rw [if_neg h,List.length_append]
   have hk:k∉ks:=fun z=>h (List.any_eq_true.mpr ⟨k,(vR ks k).mpr z,by simp⟩)
   constructor
   ·intro z
    refine ⟨ih.mp (by simpa using z),by simp,fun a ha b hb e=>?_⟩
    rw [List.mem_singleton] at hb
    rw [←hb,←e] at hk
    exact hk ha
   ·intro z
    rw [ih.mpr z.1]
def mw:bz→V
 | .inl i=>.int i
 | .inr x=>.str x
theorem sQ {k:bz}{u:Value} (h:aO (mw k) u):fH k u=true∧u.scannable=true:=by
 cases k with
 | inl i=>obtain ⟨t,rfl⟩:=h;exact ⟨zM i t,rfl⟩
 | inr x=>obtain ⟨t,rfl⟩:=h;exact ⟨yL x t,rfl⟩
section
variable {prog:Program}{w:World}{A:Around}{R:Result→Shared→Prop}{it:Addr}{fp wr:List Addr}{G:Array GenState→Array GenState→Prop}{P:Nat→Value→Prop}{St:Nat→Shared→Prop}
abbrev fS (prog:Program) (w:World) (h:Heap) (a:Addr) (ks:List bz):Prop:=h.SetOf (cV prog w) a (fun j=>(io ks).any (fun x=>decide (x=j))) (io ks).length
theorem rF {h h':Heap}{a:Addr}{ks:List bz} (H:fS prog w h a ks) (k:∀o,h.get? a=some o→h'.get? a=some o):fS prog w h' a ks:=
 let ⟨o,es,ep,t,ho,r⟩:=H
 ⟨o,es,ep,t,k o ho,r⟩
theorem Dv {h:Heap}{a:Addr}{f g:bz→Bool}{n m:Nat} (H:h.SetOf (cV prog w) a f n) (e:∀k,f k=g k) (en:n=m):h.SetOf (cV prog w) a g m:=by
 cases en
 cases (funext e:f=g)
 exact H
theorem vW {ks:List bz} (W:WalksS prog w A.in1 it fp wr G ks.length P St) {a:Addr} (ha:a∉fp) (hv:∀i v,P i v→∀k,ks[i]?=some k→fH k v=true∧v.scannable=true) (hb:ks.length+1<scanBound) :
 ∀(r i:Nat) (s:Shared),ks.length - i=r→i≤ks.length→St i s→fS prog w s.heap a (ks.take i)→
   (∀s',Moved (a :: wr) G s s'→fS prog w s'.heap a ks→R (.ok (.ret .none)) s')→codeAny (model prog w) A (.builtin "set.update.loop" ⟨[.ref a,.ref it],[]⟩) R s:=by
 have nw:a∉wr:=fun z=>ha (W.sub _ z)
 have up:∀b∈wr,b∈a :: wr:=fun b z=>List.mem_cons_of_mem _ z
 intro r
 induction r with
 | zero=>
  intro i s hr hi st hS hR
  have e:i=ks.length:=by trivial
  rw [e] at st hS
  rw [List.take_length] at hS
  refine codeAny_builtin F.entry_set_update_loop ?_
  rw [A.under_plainId F.plain_set_update_loop]
  show wpAny _ _ (pyNext (Value.ref it) >>= _) _ _ _
  refine wpAny_bind (W.done s _ _ st fun s' m=>?_)
  show wpAny _ _ (ret .none) _ _ _
  exact wpAny_pure (hR s' (m.mono up) (rF hS fun o ho=>m.heap a o nw ho))
 | succ r ih=>
  intro i s hr hi st hS hR
  have lt:i<ks.length:=by trivial
  refine codeAny_builtin F.entry_set_update_loop ?_
  rw [A.under_plainId F.plain_set_update_loop]
  show wpAny _ _ (pyNext (Value.ref it) >>= _) _ _ _
  refine wpAny_bind (W.item i s _ _ lt st fun v s' pv st' m=>?_)
  obtain ⟨kv,sv⟩:=hv i v pv ks[i] (List.getElem?_eq_getElem lt)
  have hS':fS prog w s'.heap a (ks.take i):=rF hS fun o ho=>m.heap a o nw ho
  have l1:(io (ks.take i)).length+1<scanBound:=by
   have:=qT (ks.take i)
   rw [List.length_take] at this
   trivial
  show wpAny _ _ (holding [v] (setAdd a v) >>= _) _ _ _
  refine wpAny_bind (wpAny_holding ?_)
  unfold setAdd
  refine wpAny_holding (wpAny_bind ((cV prog w).pyHash (k:=ks[i]) kv (wpAny_setAddHashed_of (knd:=cV prog w) (s:={ s' with toks:=s'.toks+1 }) kv sv hS' l1 fun h2 sb hS2=>?_)))
  have nx:fS prog w h2 a (ks.take (i+1)):=by
   rw [List.take_succ_eq_append_getElem lt]
   refine Dv hS2 (fun j=>?_) ?_
   ·rw [jM]
    split
    ·rename_i z
     by_cases q:j=ks[i]
     ·subst q;rw [z];rfl
     ·rw [decide_eq_false q,Bool.or_false]
    ·rw [List.any_append]
     congr 1
     rw [List.any_cons,List.any_nil,Bool.or_false]
     by_cases q:j=ks[i]
     ·rw [decide_eq_true q,decide_eq_true q.symm]
     ·rw [decide_eq_false q,decide_eq_false (Ne.symm q)]
   ·rw [jM]
    split
    ·rfl
    ·rw [List.length_append];rfl
  refine wpAny_pure ⟨plainId_quiet F.plain_set_update_loop _,ih (i+1) _ (by trivial) lt (W.frame _ s' _ _ st' (Nat.le_succ _) fun b z o e=>?_) nx fun s2 m2 hS3=>?_⟩
  ·rw [sb.2 b (fun q=>ha (q▸z))];exact e
  ·refine hR s2 (.trans W.gtrans ((m.mono up).then_heap (Nat.le_succ _) fun b o z e=>?_) m2) hS3
   rw [sb.2 b (fun q=>z (q▸List.mem_cons_self))];exact e
end
theorem wQ:isSubtype (.type "tuple") (.type "set")=pure false:=by
 rw [isSubtype_type]
 kernel_rfl
theorem wp:isSubtype (.type "tuple") (.type "frozenset")=pure false:=by
 rw [isSubtype_type]
 kernel_rfl
section
variable {prog:Program}{w:World}{A:Around}{E:Value→Shared→Prop}{s:Shared}
abbrev fu (led:Bool):Obj:={ cls:=.type "set",dict:=none,data:=.set #[] 0 (.fresh 0 0 led) }
theorem wH {h:Heap}{a:Addr}{led:Bool} (e:h.get? a=some (fu led)):fS prog w h a []:=
 ⟨_,#[],0,_,e,⟨rfl,rfl,rfl⟩,rfl,fun x hx=>(by simp at hx),fun k=>(by simp [io]),by decide,by rfl,rfl⟩
set_option maxHeartbeats 4000000 in
theorem yQ {l:Addr}{vs:List Value}{ks:List bz}{led:Bool}{c:Bool} (hh:A.handled=none) (hl:if c=true then s.heap.IsList l vs.toArray else s.heap.IsTuple l vs.toArray) (hn:vs.length=ks.length)
 (hk:∀(i:Nat) v,vs[i]?=some v→∀k,ks[i]?=some k→fH k v=true∧v.scannable=true) (hb:ks.length+1<scanBound) {R:Fin→Shared→Prop}
 (h:∀h' tk,fS prog w h' s.heap.objs.size ks→(∀b o,b<s.heap.objs.size→s.heap.get? b=some o→h'.get? b=some o)→R (.done (.ret .none)) { s with heap:=h',toks:=tk }) :
 wpAny (model prog w) A (Builtin.«set.__init__» ⟨[.ref s.heap.objs.size,.ref l],[]⟩) R E { s with heap:=s.heap.push (fu led) }:=by
 have hS:(s.heap.push (fu led)).get? s.heap.objs.size=some (fu led):=Heap.get?_push_size _ rfl
 have hT:Shared.TypeIs { s with heap:=s.heap.push (fu led) } (.ref s.heap.objs.size) "set" := ⟨_,hS,rfl⟩
 have vget:∀(i:Nat) v,vs.toArray[i]?=some v→∀k,ks[i]?=some k→fH k v=true∧v.scannable=true:=fun i v e=>hk i v (by simpa using e)
 have sz:vs.toArray.size=ks.length:=by rw [List.size_toArray];exact hn
 have hS2:∀o:Obj,((s.heap.push (fu led)).push o).get? s.heap.objs.size=some (fu led):=fun o=>Heap.get?_push_of_some _ hS
 have lS:∀{x:Obj},s.heap.get? l=some x→l<s.heap.objs.size:=fun e=>Heap.lt_size e
 have neI:s.heap.objs.size≠(s.heap.push (fu led)).objs.size:=by rw [Heap.size_push];trivial
 have fin:∀(s':Shared) (o:Obj),Moved (s.heap.objs.size :: [(s.heap.push (fu led)).objs.size]) (fun a b=>b=a) { s with heap:=(s.heap.push (fu led)).push o } s'→fS prog w s'.heap s.heap.objs.size ks→R (.done (.ret .none)) s':=fun s' o m q=>by
  obtain ⟨h',g',d',tk',os'⟩:=s'
  cases (show g'=s.gens from m.gens)
  cases (show d'=s.drawn from m.drawn)
  cases (show os'=s.os from m.os)
  refine h h' tk' q fun b o hb e=>m.heap b o (fun z=>?_) (Heap.get?_push_of_some _ (Heap.get?_push_of_some _ e))
  rw [Heap.size_push] at z
  have z':b=s.heap.objs.size∨b=s.heap.objs.size+1:=by simpa using z
  have hb':(b:Nat)<s.heap.objs.size:=hb
  rcases z' with z' | z'
  ·exact absurd z' (Nat.ne_of_lt hb')
  ·exact absurd z' (Nat.ne_of_lt (Nat.lt_succ_of_lt hb'))
 cases c with
 | true=>
  have hl':s.heap.IsList l vs.toArray:=hl
  obtain ⟨⟨oc,od,oo,os⟩,e1,rfl,n,rfl⟩:=hl'
  have e2:(s.heap.push (fu led)).get? l=some ⟨.type "list",od,.seq vs.toArray n,os⟩:=Heap.get?_push_of_some _ e1
  have q1:=PySem.F.sub_list_set
  have q2:=PySem.F.sub_list_frozenset
  have q3:(Value.type "list" == Value.type "dict")=false:=by decide
  have l1:(s.heap.push (fu led)).IsList l vs.toArray:=⟨_,e2,rfl,n,rfl⟩
  unfold Builtin.«set.__init__» noKeywords Builtin.Frozenset.updateFrom
  generalize hPI:pyIter=PI
  wp_walk
  subst hPI
  have ll:=lS e1
  refine wpAny_pyIter_list l1 (wpAny_bind (wpAny_runValue ?_))
  have ne1:l≠(s.heap.push (fu led)).objs.size:=by rw [Heap.size_push];exact Nat.ne_of_lt (Nat.lt_succ_of_lt ll)
  refine vW (a:=s.heap.objs.size) (ks:=ks) (sz▸(Walks.list (by simpa using hh) _ l ne1 vs.toArray).toS) ?_ vget hb (ks.length - 0) 0 _ rfl (Nat.zero_le _) ⟨⟨_,Heap.get?_push_size _ rfl,rfl,rfl⟩,l1.push _⟩ (wH (hS2 _)) fun s' m q=>?_
  ·intro z
   have z':s.heap.objs.size=(s.heap.push (fu led)).objs.size∨s.heap.objs.size=l:=by simpa using z
   rcases z' with z' | z'
   ·exact neI z'
   ·exact absurd z' (Nat.ne_of_gt ll)
  ·exact wpAny_pure (wpAny_pure (fin s' _ m q))
 | false=>
  have hl':s.heap.IsTuple l vs.toArray:=hl
  obtain ⟨⟨oc,od,oo,os⟩,e1,rfl,n,rfl⟩:=hl'
  have e2:(s.heap.push (fu led)).get? l=some ⟨.type "tuple",od,.seq vs.toArray n,os⟩:=Heap.get?_push_of_some _ e1
  have q1:=wQ
  have q2:=wp
  have q3:(Value.type "tuple" == Value.type "dict")=false:=by decide
  have l1:(s.heap.push (fu led)).IsTuple l vs.toArray:=⟨_,e2,rfl,n,rfl⟩
  unfold Builtin.«set.__init__» noKeywords Builtin.Frozenset.updateFrom
  generalize hPI:pyIter=PI
  wp_walk
  subst hPI
  have ll:=lS e1
  refine wpAny_pyIter_tuple l1 (wpAny_bind (wpAny_runValue ?_))
  have ne1:l≠(s.heap.push (fu led)).objs.size:=by rw [Heap.size_push];exact Nat.ne_of_lt (Nat.lt_succ_of_lt ll)
  refine vW (a:=s.heap.objs.size) (ks:=ks) (sz▸(Walks.tuple (by simpa using hh) _ l ne1 vs.toArray).toS) ?_ vget hb (ks.length - 0) 0 _ rfl (Nat.zero_le _) ⟨⟨_,Heap.get?_push_size _ rfl,rfl,rfl⟩,l1.at fun o e=>Heap.get?_push_of_some _ e⟩ (wH (hS2 _)) fun s' m q=>?_
  ·intro z
   have z':s.heap.objs.size=(s.heap.push (fu led)).objs.size∨s.heap.objs.size=l:=by simpa using z
   rcases z' with z' | z'
   ·exact neI z'
   ·exact absurd z' (Nat.ne_of_gt ll)
  ·exact wpAny_pure (wpAny_pure (fin s' _ m q))
set_option maxHeartbeats 4000000 in
theorem zk {l:Addr}{vs:List Value}{ks:List bz}{c:Bool}{Q:Value→Shared→Prop} (hh:A.handled=none) (hl:if c=true then s.heap.IsList l vs.toArray else s.heap.IsTuple l vs.toArray) (hn:vs.length=ks.length)
 (hk:∀(i:Nat) v,vs[i]?=some v→∀k,ks[i]?=some k→fH k v=true∧v.scannable=true) (hb:ks.length+1<scanBound)
 (h:∀h' tk,fS prog w h' s.heap.objs.size ks→(∀b o,b<s.heap.objs.size→s.heap.get? b=some o→h'.get? b=some o)→Q (.ref s.heap.objs.size) { s with heap:=h',toks:=tk }) :
 wpAny (model prog w) A (call (.type "set") [.ref l]) Q E s:=by
 have T:=PySem.F.called_set
 obtain ⟨_,_,t0⟩:=T.mro
 have t1:=T.notType
 have t2:=T.canCreate
 have t3:=T.made
 have t4:=T.sub
 have t5:=PySem.F.typeCall_set_1 (.ref l)
 refine wpAny_call (codeAny_of_tree ?_)
 show wpAny _ _ (callAny (Value.type "set") _) _ _ s
 refine wpAny_pure ⟨Code.quiet_builtin _ (by nofun),codeAny_builtin PySem.F.entry_type_call ?_⟩
 rw [A.under_plain (weight_type_call_type "set" [Value.ref l] []) rfl]
 repeat (any_goals first | assumption | wp_step)
 refine codeAny_mono (code_set_new_1 (.ref l) (E:=E) (Q₁:=fun v s1=>∃led,v=.ref s.heap.objs.size∧s1={ s with heap:=s.heap.push (fu led) }) fun led=>⟨led,rfl,rfl⟩) fun r s1 hr=>?_
 cases r with
 | error e=>exact hr
 | ok f=>
  cases f with
  | ret v=>
   obtain ⟨led,rfl,rfl⟩:=hr
   have hT:Shared.TypeIs { s with heap:=s.heap.push (fu led) } (.ref s.heap.objs.size) "set" := ⟨_,Heap.get?_push_size _ rfl,rfl⟩
   have t6:=T.init.lookup
   have t7:=T.init.bind (.ref s.heap.objs.size)
   repeat (any_goals first | assumption | wp_step)
   refine codeAny_mono (codeAny_call_builtin (R:=wants (fun v s2=>v=.none∧aV fun h' tk=>s2={ s with heap:=h',toks:=tk }∧fS prog w h' s.heap.objs.size ks∧∀b o,b<s.heap.objs.size→s.heap.get? b=some o→h'.get? b=some o) E) T.init.plain PySem.F.entry_set_init (check_set_init_1 hT ?_)) fun r2 s2 hr2=>?_
   ·exact yQ (by simpa using hh) hl hn hk hb fun h' tk q kp=>⟨rfl,h',tk,rfl,q,kp⟩
   ·cases r2 with
    | error e=>exact hr2
    | ok f=>
     cases f with
     | ret v=>
      obtain ⟨rfl,h',tk,rfl,q,kp⟩:=hr2
      repeat (any_goals first | assumption | wp_step)
      exact h _ _ q kp
     | _=>exact hr2.elim
  | _=>exact hr.elim
end
theorem wZ:bootBuiltins "set" = some (.type "set"):=by nofun
def xm (K:PySem.W.Frag) (x:V) (H:Hp) (Q:VK):Prop:=aV fun a ks=>x=.ref a∧(ar K H a (ks.map mw)∨au K H a (ks.map mw))∧ks.length≤4000∧Q (.int ((io ks).length:Nat)) H
def CA (K:PySem.W.Frag) (te:TE):TE:=fun σ H Q=>te σ H fun x H1=>xm K x H1 Q
section
variable {X:Cx}{K:PySem.W.Frag}{e:Expr}{te:TE}{p1 p2 p3 p4:Pos}
theorem tJ:∀{ks:List bz}{us:List Value},aC (ks.map mw) us→us.length=ks.length∧∀(i:Nat) v,us[i]?=some v→∀k,ks[i]?=some k→fH k v=true∧v.scannable=true
 | [],_,.nil=>⟨rfl,fun i v e=>by simp at e⟩
 | k :: r,_,.cons h t=>by
  obtain ⟨a,b⟩:=tJ (ks:=r) t
  refine ⟨by simp [a],fun i v e j f=>?_⟩
  cases i with
  | zero=>
   simp at e f
   subst e f
   exact sQ h
  | succ i=>exact b i v (by simpa using e) j (by simpa using f)
theorem A6 {A:Around}{E:Value→Shared→Prop}{s:Shared}{prog:Program}{w:World}{a:Addr}{ks:List bz}{Q:Value→Shared→Prop} (H:fS prog w s.heap a ks) (hb:ks.length≤4000) (h:Q (.int ((io ks).length:Nat) (s.toks+1)) { s with toks:=s.toks+1+1 }) :
 wpAny (model prog w) A (call (.builtin "len") [.ref a]) Q E s:=by
 obtain ⟨o,es,ep,t,ho,hx,hd,_,_,hlt,hf,hn⟩:=H
 have:=qT ks
 refine PySem.call_len_set ho hx hd hf (by trivial) ?_
 rw [hn];exact h
theorem zc (he:PE X e te) (hc:X.calm=true) (hg1:Gl X "len") (hm1:X.mg "len" = none) (hg2:Gl X "set") (hm2:X.mg "set" = none) (ek:X.K=K:=by rfl) (hs:pM e=true:=by rfl) :
 PE X (.Call (.Name "len" p1) [.Call (.Name "set" p2) [e] [] p3] [] p4) (CA K te):=by
 subst ek
 intro pins s σ H Q I h
 refine wpAny_Call_Name_kw (gy I hg1 hm1 aR ?_ (by decide) (by decide))
 refine PyProof.Rows.callWith_builtin1 ?_ (oM rfl) rfl
 refine Calls.spliced_cons ?_
 refine wpAny_Call_Name_kw (gy I hg2 hm2 wZ ?_ (by decide) (by decide))
 refine PyProof.Rows.callWith_type1 ?_ (oM hs) rfl
 refine aK (Av he bE hs p3 pins s σ H (fun xs H1=>match xs with | [x]=>xm X.K x H1 Q | _=>False) I h) fun us s1 ⟨vs,H1,I1,r1,q1⟩=>?_
 match vs,r1,q1 with
 | [x],r1,q1=>
 obtain ⟨u,rfl,ru⟩:=kf r1
 obtain ⟨a,ks,rfl,hq,hz,q⟩:=q1
 cases ru
 have go:∀(its:List Value) (c:Bool),aC (ks.map mw) its→(if c=true then s1.heap.IsList a its.toArray else s1.heap.IsTuple a its.toArray)→wpAny (model X.prog X.w) X.A (call (.type "set") [.ref a]) (fun v s2=>wpAny (model X.prog X.w) X.A (call (.builtin "len") [v]) (EP X pins σ Q) X.xe s2) X.xe s1:=fun its c rv hl=>by
  obtain ⟨z1,z2⟩:=tJ rv
  refine zk (I1.ok.hd hc) hl z1 z2 (by show ks.length+1<4096;trivial) fun h' tk S kp=>?_
  have I2:aa X pins σ H1 { s1 with heap:=h',toks:=tk }:=I1.kept fun b o e=>kp b o (Heap.lt_size e) e
  exact A6 (s:={ s1 with heap:=h',toks:=tk }) S hz ⟨.int _,H1,I2.tok _,⟨()⟩,q⟩
 have fin:=fun (v:Value) (s2:Shared) (z:wpAny (model X.prog X.w) X.A (call (.builtin "len") [v]) (EP X pins σ Q) X.xe s2)=>(Calls.spliced_nil z:wpAny (model X.prog X.w) X.A (spliced []) (fun vs s3=>wpAny (model X.prog X.w) X.A (call (.builtin "len") (v :: vs)) (EP X pins σ Q) X.xe s3) X.xe s2)
 rcases hq with hq | hq
 ·obtain ⟨its,rv,p,_⟩:=I1.list hq
  exact aK (go its true rv p.isList) fun v s2 z=>fin v s2 z
 ·obtain ⟨its,rv,p,_⟩:=I1.tuple hq
  exact aK (go its false rv p) fun v s2 z=>fin v s2 z
end
section
variable {X:Cx}{K:PySem.W.Frag}{o e:Expr}{es:List Expr}{to:TE}{t:TA}{name:Str}{apos cpos:Pos}{T id:String}{r:V→List V→Hp→VK→Prop}
theorem cu (pa:PlainAttrs T) (slot:Slot T name id) (hty:typeOf (.builtin id)=pure (.type "method_descriptor")) (hm:sf X id r) (ho:PE X o to) (ha:PA X (e :: es) t) (ek:X.K=K:=by rfl)
 (h1:attributeBase o name X.env (eval o X.env)=eval o X.env:=by rfl)
 (h2:((backTo cpos (starEach (e :: es) X.env)).all (fun x=>!x.1) && (backToKw cpos (keywordEach [] X.env)).all (fun x=>x.1.isSome) && decide ((e :: es).length+([]:List Keyword).length+(if ([]:List Keyword).isEmpty then 0 else 1)<30))=true:=by rfl)
 (h3:(apos.endLine==cpos.line)=true:=by rfl) (h4:starEach (e :: es) X.env=(false,eval e X.env) :: starEach es X.env:=by rfl) (h5:(backTo cpos (starEach es X.env)).any (·.1)=false:=by rfl) :
 PE X (.Call (.Attribute o name apos) (e :: es) [] cpos) (HF K T r to t):=by
 subst ek
 exact Ho pa slot hty hm ho ha h1 h2 h3 h4 h5
end
theorem Bn {X:Cx}{K:PySem.W.Frag}{es:List Expr}{kk:Nat}{tp:Pos}{a b:Expr}{ta:TA}{p pos:Pos} (hg:Gl X "zip") (hm:X.mg "zip" = none) (ha:PA X [a,b] ta) (ek:X.K=K:=by rfl) (h1:starEach [a,b] X.env=[(false,eval a X.env),(false,eval b X.env)]:=by rfl) (h2:starEach [b] X.env=[(false,eval b X.env)]:=by rfl) :
 PI X (.Tuple es kk tp) (.Call (.Name "zip" p) [a,b] [] pos) (E8 K ta):=by
 subst ek
 exact EF hg hm ha h1 h2
end L2
namespace L2
theorem fe {t u:TS}{D:dY}{σ:St}{H:Hp} (h:∀D':dY,(∀σ' H',u D σ' H'→D'.nx σ' H')→t D' σ H):kq t u D σ H:=h { D with nx:=u D } fun _ _ z=>z
theorem mW {t u:TS}{D:dY}{σ:St}{H:Hp} (h:∀D':dY,(∀σ' H',u D σ' H'→D'.nx σ' H')→(∀v H',D.rt v H'→D'.rt v H')→t D' σ H):kq t u D σ H:=h { D with nx:=u D } (fun _ _ z=>z) fun _ _ z=>z
theorem pJ {t:TS}{D:dY}{σ:St}{H:Hp} (h:∀D':dY,(∀σ' H',D.nx σ' H'→D'.nx σ' H')→t D' σ H):t D σ H:=h D fun _ _ z=>z
end L2
namespace L2
open PySem PySem.Spec PyProof.Rows
def uS:PyData→Option (List PyData)
 | .list xs=>some xs
 | .tuple xs=>some xs
 | _=>none
theorem EV {e:PyData}{xs:List PyData}{n l:Nat} (h:Wt e n l) (s:uS e=some xs):aV fun m k=>da xs m k∧k+1=l:=by
 cases h <;> simp [uS] at s
 all_goals
  rename_i w
  subst s
  exact ⟨_,_,w,rfl⟩
section
variable {X:Cx}
inductive Dt (x:V) (vs:List V) (H:Hp) (Q:VK):Prop
 | mk (y:V) (d e:PyData) (E F:Addr→Prop) (m n k l:Nat) (xs:List PyData) (h0:vs=[y]) (h1:bh E H y d) (h2:bh F H x e) (h3:Wt d m k) (h4:Wt e n l) (h5:l≤60) (h6:uS e=some xs) (h7:Q (.int ((xs.countP fun z=>PyData.eqv z d):Nat)) H)
def FP:V→List V→Hp→VK→Prop:=fun x vs H Q=>Dt  x vs H Q
theorem AO {h:Heap}{vs:Array Value}{xs:List PyData}{as:List Addr}{d:PyData} (rs:ReadsAll h vs.toList xs as) (hc:PyData.canLayAll0 xs=true):vs.toList.countP (fun y=>PyData.eqv (PySem.SeqAt.readOf h y) d)=xs.countP fun z=>PyData.eqv z d:=by
 rw [←PySem.SeqAt.readsAll_map xs _ _ hc rs,List.countP_map]
 rfl
theorem Al (hu:X.A.units+64<cLine):sf X "list.count" (fun x vs H Q=>(aV fun a zs=>x=.ref a∧H a=some (.lst zs))∧FP x vs H Q):=by
 intro pins s σ H x vs v us Q I rx rv h
 obtain ⟨⟨a,zs,rfl,ha⟩,y,d,e,E,F,m,n,k,l,xs,rfl,hd,he,wd,we,hl,hs,q⟩:=h
 obtain ⟨u,rfl,ru⟩:=rv.one
 obtain ⟨as,ra⟩:=hd.reads I.hok ru
 obtain ⟨bs,rb⟩:=he.reads I.hok rx
 obtain ⟨m',k',wl,ek⟩:=EV we hs
 have dl:=wl.dep
 cases he with
 | lst h1 h2 h3=>
  simp [uS] at hs
  subst hs
  cases rb with
  | @list _ o vs n' _ _ g1 g2 g3 g4=>
   obtain ⟨oc,od,oo,os⟩:=o
   simp only at g2 g3
   subst g2 g3
   refine PySem.call_meets PySem.F.slot_list_count ⟨_,g1,rfl⟩ PySem.F.entry_list_count (PySem.F.args_list_count_2 _ _) (PySem.SeqAt.list_countAt _ vs n' od os u _) ⟨g1,PySem.SeqAt.items_eqAt g4 ra wl.can wd.can ?_,?_⟩
   ·trivial
   ·rw [AO g4 wl.can]
    exact ⟨.int _,H,I.tok _,⟨()⟩,q⟩
 | tup h1 h2=>rw [ha] at h1;cases h1
end
section
variable {K:PySem.W.Frag}{a a1 a2 D:Addr}{H1:Hp}{σc:St}{g:TG}{te:TE}{tt:TT}{Q:VK}{xs ys:List V}
theorem sZ {α:Type} (f:Nat→α) (i:Nat):(List.range i).map f++[f i]=(List.range (i+1)).map f:=by
 rw [List.range_succ,List.map_append];rfl
theorem fQ {α β:Type} (f:Nat→β) (h:α→β) (l:List α) (e:∀(i:Nat) (x:α),l[i]?=some x→f i=h x):(List.range l.length).map f=l.map h:=by
 apply List.ext_getElem?
 intro i
 rw [List.getElem?_map,List.getElem?_map]
 by_cases hi:i<l.length
 ·rw [List.getElem?_range hi,List.getElem?_eq_getElem hi]
  show some (f i)=some (h l[i])
  rw [e i l[i] (List.getElem?_eq_getElem hi)]
 ·rw [List.getElem?_eq_none (by simp;trivial),List.getElem?_eq_none (by trivial)];rfl
theorem o5 {J:It}{n:Nat} (f:Nat→V) (hz:n≤10000) (hD:H1 D=none) (hgo:∀i H',i<n→ae H1 H'→J.go i H') (hst:∀H',ae H1 H'→J.stop n H')
 (hs:∀i x H' H'' (R:VK),i<n→ae H1 H'→J.yld i H' x H''→(∀H4,ae H' H4→R (f i) H4)→g x σc H'' fun σ2 H2=>jY σc σ2∧te σ2 H2 R)
 (hd:∀H',ae H1 H'→H' D=some (.lst ((List.range n).map f))→Q (.ref D) H'):lA J σc g tT te D H1 Q:=by
 refine dq (n:=n) (fun i H' zs=>zs=(List.range i).map f∧H' D=some (.lst zs)∧ae H1 H') (eJ hz) ⟨rfl,ai,cE hD (ae.refl _)⟩ ?_ ?_ ?_ ?_ ?_
 ·rintro i H' zs ⟨rfl,q,_⟩
  exact ⟨q,by simp⟩
 ·rintro i H' zs hi ⟨_,_,sm⟩
  exact hgo i H' hi sm
 ·rintro H' zs ⟨_,_,sm⟩
  exact hst H' sm
 ·rintro i H' zs x H'' hi ⟨rfl,q,sm⟩ y
  exact hs i x H' H'' _ hi sm y fun H4 s4=>⟨s4 _ _ q,sZ f i,ai,cE hD (sm.trans s4)⟩
 ·rintro H' zs ⟨rfl,q,sm⟩
  exact hd H' sm q
theorem ir (f:Nat→V) (hz:xs.length≤10000) (hD:H1 D=none) (ha:H1 a=some (.tup xs))
 (hs:∀i x H' (R:VK),xs[i]?=some x→ae H1 H'→(∀H4,ae H' H4→R (f i) H4)→g x σc H' fun σ2 H2=>jY σc σ2∧te σ2 H2 R)
 (hd:∀H',ae H1 H'→H' D=some (.lst ((List.range xs.length).map f))→Q (.ref D) H'):lA (w9 K a) σc g tT te D H1 Q:=by
 refine o5 (n:=xs.length) f hz hD (fun i H' hi sm=>⟨xs,xs[i],au.of (sm _ _ ha),by simp [hi]⟩) (fun H' sm=>⟨xs,au.of (sm _ _ ha),Nat.le_refl _⟩) ?_ hd
 rintro i x H' H'' R hi sm ⟨rfl,ex⟩ k
 exact hs i x H'' R (ex _ (au.of (sm _ _ ha))) sm k
end
end L2
namespace L2
theorem yE {t u:TS}{D:dY}{σ:St}{H:Hp} (I:St→Hp→Prop) (rest:∀σ' H',I σ' H'→u D σ' H') (h:(∀σ' H',I σ' H'→u D σ' H')→t { D with nx:=u D } σ H):kq t u D σ H:=h rest
end L2
namespace L2
open PySem PySem.Spec PyProof.Rows
def A1 (x:Str):It:=⟨fun i _=>i<x.cps.size,fun i H v H'=>H'=H∧∃c,x.cps[i]?=some c∧v=.str ⟨#[c]⟩,fun i _=>i=x.cps.size⟩
theorem tP {P:Program}{w:World}{K:PySem.W.Frag}{tg:Expr}{x:Str}{t:Tok}{T:String} (it:Addr) (hT:["enumerate", "zip", "dict_itemiterator", "dict_reverseitemiterator", "odict_iterator", "itertools.zip_longest", "itertools.pairwise"].contains T=false)
 (W:∀A:Around,A.handled=none→Walks P w A it [it] [it] x.cps.size (SignAt x) (fun i h=>h.IsStrIter it T x t i)) (S:∀(A:Around) (i:Nat) (s:Shared) (Q:Value→Shared→Prop) (E:Value→Shared→Prop),s.heap.IsStrIter it T x t i→Q (.ref it) s→wpAny (model P w) A (pyIter (.ref it)) Q E s):oN P w K tg (A1 x) [it] it (fun i h=>h.IsStrIter it T x t i) where
 mem:=by simp
 obj:=fun i h st b hb=>by
  obtain rfl:b=it:=by simpa using hb
  obtain ⟨o,e,c,d⟩:=st
  exact ⟨o,e,fun v z=>by rw [d] at z;cases z⟩
 keep:=fun i h h' st k=>by
  obtain ⟨o,e,r⟩:=st
  exact ⟨o,k it (by simp) o e,r⟩
 item:=by
  intro X hP hw hK hc i pins s σ H E I hf st hg
  subst hP hw hK
  obtain ⟨f0,f1,f2,f3,f4,f5⟩:=hf it (by simp)
  refine (W X.A (I.ok.hd hc)).item i s _ E hg st fun v h' tk pv st' kp=>?_
  obtain ⟨c,u,hcx,rfl⟩:=pv
  have I1:aa X pins σ H { s with heap:=h',toks:=tk }:=I.turned (t':=tk) (fun b o hb e=>kp b o (by simpa using hb) e) f0 f1 f3 f4 f5
  obtain ⟨o,e,cl,d⟩:=id st'
  exact ⟨(),uY (s:={ s with heap:=h',toks:=tk }) e cl d hT ⟨.str ⟨#[c]⟩,H,I1,⟨()⟩,⟨rfl,c,hcx,rfl⟩,st',fun b hb=>(hf b hb).1⟩⟩
 done:=by
  intro X hP hw hK hc i pins s σ H E I hf st hg
  subst hP hw hK
  obtain ⟨f0,f1,f2,f3,f4,f5⟩:=hf it (by simp)
  have hg':i=x.cps.size:=hg
  subst hg'
  exact (W X.A (I.ok.hd hc)).done s _ E st fun h' tk kp=>⟨rfl,I.turned (t':=tk) (fun b o hb e=>kp b o (by simpa using hb) e) f0 f1 f3 f4 f5⟩
 self:=fun A i s Q E st h=>S A i s Q E st h
section
variable {X:Cx}{tg:Expr}
def Iv (tl:TE):TI:=fun σ H R=>tl σ H fun v H1=>∃x,v=.str x∧R (A1 x) H1
theorem y7 {l:Expr}{tl:TE} (hl:PE X l tl):PI X tg l (Iv tl):=by
 intro pins s σ H R I h
 refine aK (hl pins s σ H _ I h) fun v s1 ⟨y,H1,I1,r1,q1⟩=>?_
 obtain ⟨x,rfl,q⟩:=q1
 obtain ⟨t,rfl⟩:=r1
 have fp:∀b∈[s1.heap.objs.size],jP X pins H1 b:=fun b hb=>by
  obtain rfl:b=s1.heap.objs.size:=by simpa using hb
  exact I1.fpOk (Nat.le_refl _) (I1.hok.fresh (Nat.le_refl _))
 cases ha:x.cps.all (· < 128)
 ·refine wpAny_pyIter_wide ha ⟨s1.heap.objs.size,[s1.heap.objs.size],_,_,H1,rfl,I1.kept (t':=s1.toks) fun b o e=>Heap.get?_push_of_some _ e,tP (T := "str_iterator") (x:=x) (t:=t) _ (by decide) (fun A' hA=>Walks.strWide hA _ x t) (fun A i s Q E st h=>wpAny_pyIter_striter_wide st h),⟨_,Heap.get?_push_size _ rfl,rfl,rfl⟩,fp,q⟩
 ·refine wpAny_pyIter_ascii ha ⟨s1.heap.objs.size,[s1.heap.objs.size],_,_,H1,rfl,I1.kept (t':=s1.toks) fun b o e=>Heap.get?_push_of_some _ e,tP (T := "str_ascii_iterator") (x:=x) (t:=t) _ (by decide) (fun A' hA=>Walks.strAscii hA _ x t) (fun A i s Q E st h=>wpAny_pyIter_striter_ascii st h),⟨_,Heap.get?_push_size _ rfl,rfl,rfl⟩,fp,q⟩
theorem uh {D:Addr}{H1:Hp}{σc:St}{g:TG}{te:TE}{Q:VK}{l:List Nat} (f:Nat→V) (hz:l.length≤10000) (hD:H1 D=none)
 (hs:∀(i c:Nat) (H':Hp) (R:VK),l[i]?=some c→ae H1 H'→(∀H4,ae H' H4→R (f i) H4)→g (ao [c]) σc H' fun σ2 H2=>jY σc σ2∧te σ2 H2 R)
 (hd:∀H',ae H1 H'→H' D=some (.lst ((List.range l.length).map f))→Q (.ref D) H'):lA (A1 (S l)) σc g tT te D H1 Q:=by
 refine o5 (n:=l.length) f hz hD (fun i H' hi sm=>(by show i<(S l).cps.size;exact hi)) (fun H' sm=>(by show l.length=(S l).cps.size;rfl)) ?_ hd
 rintro i x H' H'' R hi sm ⟨rfl,c,ec,rfl⟩ k
 exact hs i c H'' R (by simpa [S] using ec) sm k
inductive GC (x:V) (y:V) (H:Hp) (Q:VK):Prop
 | mk (a b:Str) (h0:x=.str a) (h1:y=.str b) (h2:Q (.bl (!decide (b.cps.toList<a.cps.toList))) H)
def Iz:R2:=fun x y H Q=>GC  x y H Q
theorem rA:b8 X (compareOp .LtE) Iz:=by
 intro pins s σ H x y v u Q I rx ry h
 obtain ⟨a,b,rfl,rfl,q⟩:=h
 obtain ⟨t,rfl⟩:=rx
 obtain ⟨t',rfl⟩:=ry
 exact PySem.P.le_str ⟨.bl _,H,I,rfl,q⟩
inductive Em (xs:List V) (H:Hp) (Q:VK):Prop
 | mk (x:Str) (h0:xs=[.str x]) (h1:x.length≤10000) (h2:Q (.int x.length) H)
def Hj:List V→Hp→VK→Prop:=fun xs H Q=>Em  xs H Q
theorem tW:bU X (.builtin "len") Hj:=by
 intro pins s σ H xs us Q I r h
 obtain ⟨x,rfl,hz,q⟩:=h
 obtain ⟨u,rfl,t,rfl⟩:=kf r
 exact PySem.P.len_str (by trivial) ⟨.int _,H,I.tok _,⟨()⟩,q⟩
inductive C5 (K:PySem.W.Frag) (x:V) (y:V) (H:Hp) (Q:VK):Prop
 | mk (a:_) (b:_) (xs:_) (ys:_) (h0:x=.ref a) (h1:y=.ref b) (h2:au K H a xs) (h3:H a=some (.tup xs)) (h4:au K H b ys) (h5:xs≠[]) (h6:xs.length+ys.length≤10000) (h7:∀p H',ae H H'→H' p=some (.tup (xs++ys))→Q (.ref p) H')
def DT (K:PySem.W.Frag):R2:=fun x y H Q=>C5 K x y H Q
theorem A7 {K:PySem.W.Frag} (e:X.K=K:=by rfl):b8 X (binaryOp .Add) (DT K):=by
 subst e
 intro pins s σ H x y v u Q I rx ry h
 obtain ⟨a,b,xs,ys,e1,e2,ha,ha',hb,hx,hz,q⟩:=h
 refine C8 pins s σ H x y v u Q I rx ry ⟨a,b,xs,ys,e1,e2,ha,hb,hx,eJ hz,fun z=>?_,fun z p hp=>q p _ (ae.new hp) ai⟩
 refine q a H (ae.refl _) ?_
 rw [z,List.append_nil];exact ha'
end
section
variable {X:Cx}{K:PySem.W.Frag}{o e:Expr}{es:List Expr}{to:TE}{t:TA}{name:Str}{apos cpos:Pos}{id:String}{r:V→List V→Hp→VK→Prop}
end
end L2
namespace L2
open PySem PyProof.Rows
def d8 (X:Cx) (scope:Scope) (cl:List (Str×Addr)) (C:Addr) (N':List Str) (s:Shared) (H:Hp) (ex:List Addr) (pn:List (Addr×Obj)):Cx:=
 { vg X scope cl C N' s H ex pn with fn:=fun x=>scope.names.lookup x==some .cell }
def mH (esc:Scope) (N:List Str) (scope:Scope) (N':List Str) (L:Nat) (src:List Nat):Bool:=
 (scope.kind==.function) && scope.names.all (fun y=>(y.2 != .cell || scope.names.lookup y.1==some .cell) && (y.2 != .local || scope.names.lookup y.1==some .local) && (y.2 != .free || esc.names.lookup y.1==some .cell || esc.names.lookup y.1==some .free)) &&
  (N'.length==L+src.length) && (List.range src.length).all fun i=>match src[i]?,N'[L+i]? with
   | some j,some x=>(N[j]?==some x) && (scope.names.lookup x==some .free)
   | _,_=>false
structure xH (esc:Scope) (N:List Str) (scope:Scope) (N':List Str) (L:Nat) (src:List Nat):Prop where
 kind:scope.kind=.function
 cells:∀y∈scope.names,y.2=.cell→scope.names.lookup y.1=some .cell
 loc:∀y∈scope.names,y.2=.local→scope.names.lookup y.1=some .local
 free:∀y∈scope.names,y.2=.free→esc.names.lookup y.1=some .cell∨esc.names.lookup y.1=some .free
 len:N'.length=L+src.length
 frees:∀(i j:Nat),src[i]?=some j→∃x,N'[L+i]?=some x∧N[j]?=some x∧scope.names.lookup x=some .free
theorem rK {esc:Scope}{N:List Str}{scope:Scope}{N':List Str}{L:Nat}{src:List Nat} (h:mH esc N scope N' L src=true):xH esc N scope N' L src:=by
 unfold mH at h
 simp only [Bool.and_eq_true,List.all_eq_true] at h
 obtain ⟨⟨⟨h1,h2⟩,h3⟩,h4⟩:=h
 refine ⟨by simpa using h1,fun y hy e=>?_,fun y hy e=>?_,fun y hy e=>?_,by simpa using h3,fun i j e=>?_⟩
 ·have:=(h2 y hy).1.1
  rw [e] at this
  simpa using this
 ·have:=(h2 y hy).1.2
  rw [e] at this
  simpa using this
 ·have:=(h2 y hy).2
  rw [e] at this
  simpa using this
 ·have hi:i<src.length:=(List.getElem?_eq_some_iff.mp e).1
  have:=h4 i (List.mem_range.mpr hi)
  rw [e] at this
  cases q:N'[L+i]? with
  | none=>rw [q] at this;simp at this
  | some x=>
   rw [q] at this
   simp only [Bool.and_eq_true,beq_iff_eq] at this
   exact ⟨x,rfl,this.1,this.2⟩
theorem jq:∀(names:List (Str×NameKind)) (n:Nat) (acc acc':List (Str×Addr)),cellsFrom n names (acc++acc')=cellsFrom n names acc++acc'
 | [],_,_,_=>rfl
 | (name,kind) :: r,n,acc,acc'=>by
  unfold cellsFrom
  split
  ·exact jq r (n+1) ((name,n) :: acc) acc'
  ·exact jq r n acc acc'
theorem uD (names:List (Str×NameKind)) (n:Nat) (acc:List (Str×Addr)):cellsFrom n names acc=cellsFrom n names []++acc:=jq names n [] acc
theorem iX {x:Str}{c:Addr}:∀(names:List (Str×NameKind)) (n:Nat) (acc:List (Str×Addr)),(x,c)∈cellsFrom n names acc→(x,NameKind.cell)∈names∨(x,c)∈acc
 | [],_,_,h=>.inr h
 | (name,kind) :: r,n,acc,h=>by
  unfold cellsFrom at h
  split at h
  ·rename_i hk
   rcases iX r (n+1) _ h with h | h
   ·exact .inl (List.mem_cons_of_mem _ h)
   ·rcases List.mem_cons.mp h with h | h
    ·injection h with h1 h2
     have hk':kind=.cell:=by simpa using hk
     rw [h1,hk'];exact .inl List.mem_cons_self
    ·exact .inr h
  ·rcases iX r n _ h with h | h
   ·exact .inl (List.mem_cons_of_mem _ h)
   ·exact .inr h
theorem jp {x:Str}:∀(names:List (Str×NameKind)) (n:Nat) (acc:List (Str×Addr)),(∃c,acc.lookup x=some c)→∃c,(cellsFrom n names acc).lookup x=some c
 | [],_,_,h=>h
 | (name,kind) :: r,n,acc,⟨c,h⟩=>by
  unfold cellsFrom
  split
  ·refine jp r (n+1) _ ?_
   rw [List.lookup_cons]
   cases hb:x==name with
   | true=>exact ⟨_,rfl⟩
   | false=>exact ⟨c,h⟩
  ·exact jp r n acc ⟨c,h⟩
theorem jR {x:Str}:∀(names:List (Str×NameKind)) (n:Nat) (acc:List (Str×Addr)),(x,NameKind.cell)∈names→∃c,(cellsFrom n names acc).lookup x=some c
 | (name,kind) :: r,n,acc,h=>by
  unfold cellsFrom
  rcases List.mem_cons.mp h with h | h
  ·injection h with h1 h2
   subst h1;subst h2
   rw [if_pos (show (NameKind.cell==NameKind.cell)=true from rfl)]
   exact jp r (n+1) _ ⟨n,by simp [List.lookup_cons]⟩
  ·split
   ·exact jR r (n+1) _ h
   ·exact jR r n acc h
theorem Ij {M:Model}{A:Around}{E:Value→Shared→Prop}{s:Shared}{scope:Scope}{globals:Addr}{cl:List (Str×Addr)}{qual:Str}{env:Env}{Q:Env→Shared→Prop}
 (h:Q { scope:=scope,locals:=s.heap.objs.size,globals:=globals,cells:=cellsFrom (s.heap.objs.size+1) scope.names cl,qual:=qual,func:=none,code:=env.code,frame:=env.frame,builtins:=env.builtins }
  { s with heap:=pushCells (s.heap.push { cls:=.type "dict",data:=.dict #[] }) scope.names }) :
 wpAny M A (newFunctionEnv scope globals cl [] qual none .none (some env)) Q E s:=by
 simp only [newFunctionEnv,Option.isSome_some,if_true]
 refine wpAny_bind (wpAny_alloc ?_)
 refine wpAny_bind (wpAny_layCells _ (fun name kind cells=>by cases hkc:kind==NameKind.cell <;> simp [hkc]) _ _ _ _ ?_)
 rw [show ({ s with heap:=s.heap.push { cls:=.type "dict",data:=.dict #[] } }:Shared).heap.objs.size=s.heap.objs.size+1 from Heap.size_push ..]
 exact wpAny_bind (by rw [List.forIn_nil];exact wpAny_pure (wpAny_pure h))
section
variable {X:Cx}{elt tg iter:Expr}{ifs:List Expr}{scope:Scope}{pos:Pos}{N':List Str}{L:Nat}{src:List Nat}{wi:TI}{g:TG}{tt:TT}{te:TE}
theorem tZ (hc:X.calm=true) (ck:xH X.env.scope X.N scope N' L src) {cl:List (Str×Addr)}{pins:List (Addr×Obj)}{s:Shared}{σ:St}{H:Hp}{Q:VK} (I:aa X pins σ H s)
 (hsub:∀x c,cl.lookup x=some c→X.env.cells.lookup x=some c) (hhas:∀y∈scope.names,y.2=.free→∃c,cl.lookup y.1=some c)
 (hi:PI X tg iter wi) (hg:∀cl C s H ex pn,PG (d8 X scope cl C N' s H ex pn) tg g) (hif:∀cl C s H ex pn,wm (d8 X scope cl C N' s H ex pn) ifs tt)
 (he:∀cl C s H ex pn,PE (d8 X scope cl C N' s H ex pn) elt te) (h:yh wi L src g tt te σ H Q) {RR:Value→Addr→Result→Shared→Prop}
 (hRR:∀D C H' f s' m,aa X pins σ H' s'→s'.heap.Ns C m→jP X pins H' C→Q (.ref D) H'→RR (.ref D) C (.ok f) s') :
 wpAny (model X.prog X.w) X.A (eval iter X.env) (fun x s₁=>wpAny (model X.prog X.w) X.A (pyIter x) (fun it s₂=>wpAny (model X.prog X.w) X.A (newList []) (fun acc s₃=>
  wpAny (model X.prog X.w) X.A (newFunctionEnv scope X.env.globals cl [] X.env.qual none .none (some X.env)) (fun cenv s₄=>
   codeAny (model X.prog X.w) X.A (.compStart (.ListComp elt [⟨tg,iter,ifs,0⟩] scope pos) 0 it acc { cenv with scope:=relabel scope X.env }) (RR acc cenv.locals) s₄) X.xe s₃) X.xe s₂) X.xe s₁) X.xe s:=by
 refine aK (hi pins s σ H _ I h) fun v s1 h1=>aK h1 fun itv s2 h2=>?_
 obtain ⟨it,fp,tn,J,H2,e,I2,T,st2,f2,q⟩:=h2
 subst e
 refine wpAny_newObj_type (Ij ?_)
 dsimp only
 generalize hH2:s2.heap.push { cls:=.type "list",dict:=none,data:=.seq ([]:List Value).toArray }=hp2
 have hns₁:(pushCells (hp2.push { cls:=.type "dict",data:=.dict #[] }) scope.names).Ns hp2.objs.size fun _=>none:=(Heap.Ns.new hp2 (.type "dict")).keeps (pushCells_keeps _ _)
 have kp:∀b o,hp2.get? b=some o→(pushCells (hp2.push { cls:=.type "dict",data:=.dict #[] }) scope.names).get? b=some o:=fun b o e=>pushCells_keeps _ _ b o (Heap.get?_push_of_some _ e)
 have okc:=cellsFrom_ok scope.names (hp2.push { cls:=.type "dict",data:=.dict #[] }) (hp2.objs.size+1) [] ⟨fun _ _ hm=>(nomatch hm),List.Pairwise.nil⟩ (by rw [Heap.size_push];exact Nat.le_refl _)
 rw [Heap.size_push] at okc
 rw [uD]
 have ncell:∀x c,(cellsFrom (hp2.objs.size+1) scope.names []).lookup x=some c→(x,NameKind.cell)∈scope.names:=fun x c e=>(iX _ _ _ (PySem.mem_of_lookup e)).elim id (fun z=>by cases z)
 have nhas:∀x,(x,NameKind.cell)∈scope.names→∃c,(cellsFrom (hp2.objs.size+1) scope.names []).lookup x=some c:=fun x h=>jR _ _ _ h
 generalize pushCells (hp2.push { cls:=.type "dict",data:=.dict #[] }) scope.names=h₁ at hns₁ kp okc ⊢
 generalize cellsFrom (hp2.objs.size+1) scope.names []=nw at okc ncell nhas ⊢
 have hC:hp2.objs.size=s2.heap.objs.size+1:=by rw [←hH2,Heap.size_push]
 have hDC:s2.heap.objs.size≠hp2.objs.size:=by rw [hC];exact Nat.ne_of_lt (Nat.lt_succ_self _)
 have hCle:s2.heap.objs.size≤hp2.objs.size:=by rw [hC];exact Nat.le_succ _
 have below:∀b,b<s2.heap.objs.size→b≠hp2.objs.size∧b≠s2.heap.objs.size:=fun b hb=>⟨by rw [hC];exact Nat.ne_of_lt (Nat.lt_succ_of_lt hb),Nat.ne_of_lt hb⟩
 have old:∀b o,s2.heap.get? b=some o→h₁.get? b=some o:=fun b o e=>kp b o (hH2▸Heap.get?_push_of_some _ e)
 have hacc:h₁.get? s2.heap.objs.size=some { cls:=.type "list",dict:=none,data:=.seq ([]:List Value).toArray }:=kp _ _ (hH2▸Heap.get?_push_size _ rfl)
 have hDn:H2 s2.heap.objs.size=none:=I2.fresh
 obtain ⟨W,⟨m0,w0⟩,turn⟩:=q _ hDn
 have fpo:∀b∈fp,∃o,s2.heap.get? b=some o∧∀v,o.data≠.cell v:=T.obj _ _ st2
 have fplt:∀b∈fp,b<s2.heap.objs.size:=fun b hb=>by obtain ⟨o,e,_⟩:=fpo b hb;exact Heap.lt_size e
 have hfrs:∀b∈fp,b∉gU X.stack:=fun b hb z=>by
  rcases List.mem_cons.mp (I2.stkSub b z) with z' | z'
  ·exact (f2 b hb).2.1 z'
  ·exact (f2 b hb).2.2.1 z'
 have bD:∀x c,(nw++cl).lookup x=some c→nw.lookup x=some c∨(nw.lookup x=none∧cl.lookup x=some c):=fun x c e=>by
  rw [List.lookup_append] at e
  cases q:nw.lookup x with
  | none=>rw [q] at e;exact .inr ⟨rfl,e⟩
  | some c'=>rw [q] at e;exact .inl e
 have nab:∀x c,nw.lookup x=some c→hp2.objs.size+1≤c:=fun x c e=>(okc.empty x c (PySem.mem_of_lookup e)).2
 have olt:∀x c,cl.lookup x=some c→c<s2.heap.objs.size:=fun x c e=>by
  obtain ⟨v,o,ho,_⟩:=I2.cell x c (hsub _ _ e)
  exact Heap.lt_size ho
 have n2o:∀x c y,nw.lookup x=some c→cl.lookup y=some c→False:=fun x c y e1 e2=>Nat.lt_irrefl c (Nat.lt_of_lt_of_le (olt y c e2) (Nat.le_trans hCle (Nat.le_of_succ_le (nab x c e1))))
 generalize hX:d8 X scope (nw++cl) hp2.objs.size N' s2 H2 fp (X.pn++pins)=X'
 have ok':X'.Ok:=by
  subst hX
  refine ⟨I2.ok.mod,ck.kind,I2.ok.glob,I2.ok.blt,hCle,fun x y c e1 e2=>(bD x c e1).elim (fun g1=>(bD y c e2).elim (fun g2=>name_of_addr okc.apart (PySem.mem_of_lookup g1) (PySem.mem_of_lookup g2)) (fun g2=>(n2o x c y g1 g2.2).elim)) (fun g1=>(bD y c e2).elim (fun g2=>(n2o y c x g2 g1.2).elim) (fun g2=>I2.ok.inj x y c (hsub _ _ g1.2) (hsub _ _ g2.2))),fun x hx=>?_,fun x c z e=>?cab,I2.ok.hd,I2.ok.frames,.inl rfl,fun b hb=>⟨(below b (fplt b hb)).1,fun x c e=>(bD x c e).elim (fun g z=>Nat.lt_irrefl b (Nat.lt_of_lt_of_le (fplt b hb) (Nat.le_trans hCle (Nat.le_of_succ_le (z▸nab x c g))))) (fun g=>(f2 b hb).2.2.2.2.1 x c (hsub _ _ g.2))⟩,
   I2.bs,Nat.le_trans I2.ok.bsz I2.sz,fun b o e hb=>?_,hfrs,I2.stack,I2.stkFree⟩
  ·-- a name that is a cell or free
   have hx':(relabel scope X.env).names.lookup x=some .cell∨(relabel scope X.env).names.lookup x=some .free:=hx
   have key:∀(names:List (Str×NameKind)),
    ((names.map fun (n,k)=>if (k==NameKind.free && X.env.scope.kind==.function && X.env.kindOf n==some .cell) then (n,NameKind.cell) else (n,k)).lookup x=some .cell∨
     (names.map fun (n,k)=>if (k==NameKind.free && X.env.scope.kind==.function && X.env.kindOf n==some .cell) then (n,NameKind.cell) else (n,k)).lookup x=some .free)→∃y∈names,y.1=x∧(y.2=.free∨y.2=.cell):=by
    intro names
    induction names with
    | nil=>intro h;rcases h with h | h <;> simp at h
    | cons y r ih=>
     intro h
     obtain ⟨n,k⟩:=y
     by_cases hb:x=n
     ·subst hb
      refine ⟨(x,k),List.mem_cons_self,rfl,?_⟩
      by_cases hk:k=.free
      ·exact .inl hk
      ·have hkb:(k==NameKind.free)=false:=by simpa using hk
       right
       simp only [List.map_cons,hkb,Bool.false_and,Bool.false_eq_true,if_false,List.lookup_cons,beq_self_eq_true,if_true] at h
       rcases h with h | h
       ·exact Option.some.inj h
       ·exact absurd (Option.some.inj h) hk
     ·have hb':(x==n)=false:=by simpa using hb
      have h':((r.map fun (n,k)=>if (k==NameKind.free && X.env.scope.kind==.function && X.env.kindOf n==some .cell) then (n,NameKind.cell) else (n,k)).lookup x=some .cell∨
       (r.map fun (n,k)=>if (k==NameKind.free && X.env.scope.kind==.function && X.env.kindOf n==some .cell) then (n,NameKind.cell) else (n,k)).lookup x=some .free):=by
       rw [List.map_cons] at h
       dsimp only at h
       by_cases hcnd:(k==NameKind.free && X.env.scope.kind==.function && X.env.kindOf n==some .cell)=true
       ·rw [if_pos hcnd] at h
        simpa only [List.lookup_cons,hb'] using h
       ·rw [if_neg hcnd] at h
        simpa only [List.lookup_cons,hb'] using h
      obtain ⟨y,hy,e1,e2⟩:=ih h'
      exact ⟨y,List.mem_cons_of_mem _ hy,e1,e2⟩
   obtain ⟨y,hy,e1,e2⟩:=key scope.names hx'
   show ∃c,(nw++cl).lookup x=some c
   rw [List.lookup_append]
   cases q:nw.lookup x with
   | some c=>exact ⟨c,rfl⟩
   | none=>
    rcases e2 with e2 | e2
    ·obtain ⟨c,hc'⟩:=hhas y hy e2
     exact ⟨c,by rw [←e1,hc'];rfl⟩
    ·obtain ⟨c,hc'⟩:=nhas x (by obtain ⟨y1,y2⟩:=y;dsimp only at e1 e2;rw [←e1,←e2];exact hy)
     rw [q] at hc';cases hc'
  case cab=>
   have z':(scope.names.lookup x==some NameKind.cell)=true:=z
   obtain ⟨c',hc'⟩:=nhas x (PySem.mem_of_lookup (by simpa using z'))
   rcases bD x c e with g | g
   ·have:=nab x c g
    show s2.heap.objs.size≤c
    trivial
   ·rw [hc'] at g;cases g.1
  ·rcases (f2 b hb).2.2.2.1 with z | z
   ·exact I2.ok.noex b o e z
   ·exact absurd (Nat.lt_of_lt_of_le (Heap.lt_size e) (Nat.le_trans I2.ok.bsz z)) (Nat.lt_irrefl _)
 have stat:∀{H':Hp},(∀b∈fp,H' b=none)→∀b∈fp,jP X' [] H' b:=by
  subst hX
  intro H' hn b hb
  refine ⟨hn b hb,(below b (fplt b hb)).1,hfrs b hb,.inl hb,fun x c e=>(bD x c e).elim (fun g z=>Nat.lt_irrefl b (Nat.lt_of_lt_of_le (fplt b hb) (Nat.le_trans hCle (Nat.le_of_succ_le (z▸nab x c g))))) (fun g=>(f2 b hb).2.2.2.2.1 x c (hsub _ _ g.2)),fun p hp=>?_⟩
  have hp':p∈X.pn++pins:=by simpa [d8,vg] using hp
  exact (f2 b hb).2.2.2.2.2 p hp'
 have I1:aa X' [] (nz L src σ) (aL H2 s2.heap.objs.size (.lst [])) { s2 with heap:=h₁,toks:=s2.toks }:=by
  subst hX
  have up:∀b o,H2 b=some o→aL H2 s2.heap.objs.size (.lst []) b=some o:=fun b o e=>by rw [am (aS e hDn)];exact e
  have upn:∀b,b<s2.heap.objs.size→H2 b=none→aL H2 s2.heap.objs.size (.lst []) b=none:=fun b hb e=>by rw [am (Nat.ne_of_lt hb)];exact e
  refine ⟨ok',rfl,I2.bare,Un.laid old (Nat.le_refl _) hDn,⟨_,hns₁,fun i x v e1 e2 e3=>?_⟩,fun x c e=>?_,?_,fun x c e=>?_,fun p hp=>?_,I2.hok.laid old (Nat.le_refl _) ⟨Nat.zero_le _,[],0,.nil,hacc⟩,?_⟩
  ·-- the names of the def around
   have hiL:L≤i:=by
    by_cases hlt:i<L
    ·exfalso
     unfold nz at e2
     rw [List.getElem?_append_left (by simpa using hlt),List.getElem?_replicate,if_pos hlt] at e2
     cases e2
    ·trivial
   have e2':(src.map fun j=>(σ[j]?).join)[i - L]?=some (some v):=by
    unfold nz at e2
    rw [List.getElem?_append_right (by simpa using hiL),List.length_replicate] at e2
    exact e2
   rw [List.getElem?_map] at e2'
   cases hj:src[i - L]? with
   | none=>rw [hj] at e2';cases e2'
   | some j=>
    rw [hj] at e2'
    have e3':(σ[j]?).join=some v:=Option.some.inj e2'
    have hσ:σ[j]?=some (some v):=by
     cases q:σ[j]? with
     | none=>rw [q] at e3';cases e3'
     | some o=>rw [q] at e3';exact congrArg some e3'
    obtain ⟨x',g1,g2,g3⟩:=ck.frees (i - L) j hj
    have:L+(i - L)=i:=by trivial
    rw [this] at g1
    have ex:x'=x:=Option.some.inj (g1.symm.trans e1)
    subst ex
    have hfree:=ck.free _ (PySem.mem_of_lookup g3) rfl
    obtain ⟨m,hn,hl⟩:=I2.loc
    obtain ⟨u,r,l⟩:=hl j x' v g2 hσ (hfree.elim (fun z=>.inr (.inl z)) fun z=>.inr (.inr z))
    refine ⟨u,r,.inr ⟨?_,?_⟩⟩
    ·-- its kind in the block
     have key:∀(names:List (Str×NameKind)),names.lookup x'=some .free→
      ((names.map fun (n,k)=>if (k==NameKind.free && X.env.scope.kind==.function && X.env.kindOf n==some .cell) then (n,NameKind.cell) else (n,k)).lookup x'=some .cell∨
       (names.map fun (n,k)=>if (k==NameKind.free && X.env.scope.kind==.function && X.env.kindOf n==some .cell) then (n,NameKind.cell) else (n,k)).lookup x'=some .free):=by
      intro names
      induction names with
      | nil=>intro h;simp at h
      | cons y r ih=>
       intro h
       obtain ⟨n,k⟩:=y
       by_cases hb:x'=n
       ·subst hb
        simp only [List.lookup_cons,beq_self_eq_true,if_true] at h
        have hk:k=.free:=Option.some.inj h
        subst hk
        rw [List.map_cons]
        dsimp only
        by_cases hcnd:(NameKind.free==NameKind.free && X.env.scope.kind==.function && X.env.kindOf x'==some .cell)=true
        ·rw [if_pos hcnd];left;simp [List.lookup_cons]
        ·rw [if_neg hcnd];right;simp [List.lookup_cons]
       ·have hb':(x'==n)=false:=by simpa using hb
        have h':=ih (by simpa only [List.lookup_cons,hb'] using h)
        rw [List.map_cons]
        dsimp only
        by_cases hcnd:(k==NameKind.free && X.env.scope.kind==.function && X.env.kindOf n==some .cell)=true
        ·rw [if_pos hcnd];simpa only [List.lookup_cons,hb'] using h'
        ·rw [if_neg hcnd];simpa only [List.lookup_cons,hb'] using h'
     exact key scope.names g3
    ·obtain ⟨c,hcl⟩:=hhas _ (PySem.mem_of_lookup g3) rfl
     have hcx:=hsub _ _ hcl
     rcases l with ⟨k1,_⟩ | ⟨_,c',e4,z⟩
     ·exfalso
      have k1':X.env.scope.names.lookup x'=some .local:=k1
      rcases hfree with z | z
      ·rw [z] at k1';cases k1'
      ·rw [z] at k1';cases k1'
     ·rw [hcx] at e4
      cases e4
      obtain ⟨o,ho,hd⟩:=z
      refine ⟨c,?_,o,old _ _ ho,hd⟩
      show (nw++cl).lookup x'=some c
      rw [List.lookup_append]
      cases q:nw.lookup x' with
      | none=>exact hcl
      | some c'=>
       exfalso
       have:=ck.cells _ (ncell _ _ q) rfl
       dsimp only at this
       rw [g3] at this;cases this
  ·rcases bD x c e with g | g
   ·exact ⟨none,(okc.empty x c (PySem.mem_of_lookup g)).1⟩
   ·obtain ⟨v,o,ho,hd⟩:=I2.cell x c (hsub _ _ g.2)
    exact ⟨v,o,old _ _ ho,hd⟩
  ·show aL H2 s2.heap.objs.size (.lst []) hp2.objs.size=none
   rw [am (Ne.symm hDC)]
   exact I2.hok.fresh hCle
  ·rcases bD x c e with g | g
   ·have:=nab x c g
    rw [am (by intro z;rw [z] at this;trivial)]
    exact I2.hok.fresh (by trivial)
   ·obtain ⟨v,o,ho,hd⟩:=I2.cell x c (hsub _ _ g.2)
    exact upn c (Heap.lt_size ho) (I2.freeC x c (hsub _ _ g.2))
  ·have hp':p∈X.pn++pins:=by simpa [d8,vg] using hp
   obtain ⟨e,n,ne,nf,d⟩:=I2.pin p hp'
   have hlt:=Heap.lt_size e
   refine ⟨old _ _ e,upn _ hlt n,(below _ hlt).1,fun z=>?_,d⟩
   rcases List.mem_cons.mp (I2.stkSub _ z) with z' | z'
   ·exact ne z'
   ·exact nf z'
  ·show (nz L src σ).length=N'.length
   unfold nz
   rw [List.length_append,List.length_replicate,List.length_map,ck.len]
 have eA:X'.A=X.A:=by subst hX;rfl
 have eP:X'.prog=X.prog:=by subst hX;rfl
 have eW:X'.w=X.w:=by subst hX;rfl
 have eK:X'.K=X.K:=by subst hX;rfl
 have ec:X'.calm=true:=by subst hX;exact hc
 have exe:X'.xe=fun _ _=>False:=by subst hX;rfl
 have eE:X'.env=compEnvC scope (nw++cl) hp2.objs.size X.env:=by subst hX;rfl
 have hg':PG X' tg g:=by subst hX;exact hg _ _ _ _ _ _
 have hif':wm X' ifs tt:=by subst hX;exact hif _ _ _ _ _ _
 have he':PE X' elt te:=by subst hX;exact he _ _ _ _ _ _
 have aft:∀{H':Hp}{s':Shared},aa X' [] (nz L src σ) H' s'→aa X pins σ H' s'∧(∃m,s'.heap.Ns hp2.objs.size m)∧jP X pins H' hp2.objs.size:=by
  subst hX
  intro H' s' J
  refine ⟨I2.call' (ch:=fp) J.os J.base J.hok J.bare fun b hb=>⟨(f2 b hb).2.2.2.1,(f2 b hb).2.1,(f2 b hb).2.2.2.2.1,(f2 b hb).2.2.2.2.2⟩,?_,I2.fpOk hCle J.free⟩
  obtain ⟨m,hn,_⟩:=J.loc
  exact ⟨m,hn⟩
 have st1:tn 0 h₁:=T.keep _ _ _ st2 fun b hb o e=>old b o e
 have loop:∀s₃:Shared,s₃={ s2 with heap:=h₁,toks:=s2.toks }→
  codeAny (model X.prog X.w) X.A (.compLoop (.ListComp elt [⟨tg,iter,ifs,0⟩] scope pos) 0 (.ref it) (.ref s2.heap.objs.size) (compEnvC scope (nw++cl) hp2.objs.size X.env))
   (RR (.ref s2.heap.objs.size) hp2.objs.size) s₃:=by
  rintro s₃ rfl
  refine vL (fun n s'=>gf fun i H' ys=>aa X' [] (nz L src σ) H' s'∧tn i s'.heap∧(∀b∈fp,H' b=none)∧W i n H' ys) ?_ m0
   ⟨0,_,[],I1,st1,fun b hb=>(by rw [am (below b (fplt b hb)).2];exact (f2 b hb).1),w0⟩
  rintro n s3 ⟨i,H3,ys,I3,st3,fr3,w3⟩
  obtain ⟨hD,alt⟩:=turn i n H3 ys w3
  rcases alt with ⟨stop,qn⟩ | ⟨go,hlen,N,hN,step⟩
  ·have d:=T.done X' eP eW eK ec i [] s3 (nz L src σ) H3 (fun _ _=>False) I3 (stat fr3) st3 stop
   rw [eA] at d
   refine aK d fun r s4 ⟨hr,I4⟩=>?_
   subst hr
   obtain ⟨J,⟨m,hn⟩,fpC⟩:=aft I4
   exact hRR _ _ H3 .next s4 m J hn fpC qn
  ·have d:=T.item X' eP eW eK ec i [] s3 (nz L src σ) H3 (fun _ _=>False) I3 (stat fr3) st3 go
   rw [eA] at d
   refine aK d fun r s4 ⟨u,hr,h4⟩=>?_
   subst hr
   refine aK h4 fun _ s5 ⟨x,H5,I5,r5,y5,st5,fr5⟩=>?_
   have I5':=I5.pinned (stat fr5) (T.obj _ _ st5)
   have a1:=hg' _ s5 (nz L src σ) H5 x u _ I5' r5 (step x H5 y5)
   rw [eP,eW,eA,eE,exe] at a1
   refine aK a1 fun _ s6 ⟨σ6,H6,I6,bk,q6⟩=>?_
   have a2:=hif' _ s6 σ6 H6 _ I6 q6
   rw [eP,eW,eA,eE,exe] at a2
   refine aK a2 fun b s7 ⟨H7,I7,q7⟩=>?_
   have again:∀{H8:Hp}{s8:Shared}{ys':List V},aa X' ([]++pj fp s5.heap) σ6 H8 s8→N H8 ys'→∃m,m<n∧gf fun i H' ys=>aa X' [] (nz L src σ) H' s8∧tn i s8.heap∧(∀b∈fp,H' b=none)∧W i m H' ys:=fun {H8 s8 ys'} I8 n8=>by
    obtain ⟨m',hm,w8⟩:=hN H8 ys' n8
    refine ⟨m',hm,i+1,H8,ys',(I8.unpinned).weak bk.1.symm bk.2,T.keep _ _ _ st5 fun b hb o e=>(I8.pin (b,o) (List.mem_append_right _ (List.mem_append_right _ (ke hb e)))).1,fun b hb=>?_,w8⟩
    obtain ⟨o,e,d⟩:=T.obj _ _ st5 b hb
    exact (I8.pin (b,o) (List.mem_append_right _ (List.mem_append_right _ (ke hb e)))).2.1
   cases b with
   | false=>
    rw [if_neg Bool.false_ne_true] at q7 ⊢
    exact again I7 q7
   | true=>
    rw [if_pos rfl] at q7 ⊢
    have a3:=he' _ s7 σ6 H7 _ I7 q7
    rw [eP,eW,eA,eE,exe] at a3
    refine aK a3 fun xv s8 ⟨y,H8,I8,r8,hD8,q8⟩=>?_
    have a4:=ud (X:=X') _ s8 σ6 H8 (.ref s2.heap.objs.size) [y] (.ref s2.heap.objs.size) [xv] (fun _ H'=>H'=aL H8 s2.heap.objs.size (.lst (ys++[y]))) I8 rfl (.cons r8 .nil) ⟨_,ys,y,rfl,rfl,hD8,hlen,rfl⟩
    rw [eP,eW,eA,exe] at a4
    refine aK a4 fun _ s9 ⟨_,H9,I9,_,e9⟩=>?_
    subst e9
    exact again I9 q8
 exact codeAny_compStart_list (loop _ rfl) (T.self _ 0 _ _ _ st1 (loop _ rfl))
theorem cg (hc:X.calm=true) (ck:mH X.env.scope X.N scope N' L src=true) (hi:PI X tg iter wi) (hg:∀cl C s H ex pn,PG (d8 X scope cl C N' s H ex pn) tg g) (hif:∀cl C s H ex pn,wm (d8 X scope cl C N' s H ex pn) ifs tt)
 (he:∀cl C s H ex pn,PE (d8 X scope cl C N' s H ex pn) elt te) (hs:∀x,foldedSetIterable iter X.env x=pure x:=by intro _;rfl) :
 PE X (.ListComp elt [⟨tg,iter,ifs,0⟩] scope pos) (yh wi L src g tt te):=by
 intro pins s σ H Q I h
 have ck:=rK ck
 obtain ⟨cl,hclos,hsub,hhas⟩:=xL (scope:=scope) (env:=X.env) fun y hy e=>I.ok.has y.1 (ck.free y hy e)
 rw [eval_ListComp]
 refine wpAny_comprehension_free (use:=none) rfl hs hclos ck.kind ck.loc (tZ hc ck I hsub hhas hi hg hif he h (RR:=fun acc C=>compPost (model X.prog X.w) X.A X.xe none (EP X pins σ Q) acc C) ?_)
 intro D C H' f s' m J hn fpC q
 refine ⟨m,hn,fun h' hsb=>⟨.ref D,H',?_,rfl,q⟩⟩
 obtain ⟨f0,f1,f2,f3,f4,f5⟩:=fpC
 exact J.turned (t':=s'.toks) (fun b o hb e=>(hsb.2 b hb).trans e) f0 f1 f3 f4 f5
theorem lO {j:Nat}{y:Str}{py spos:Pos} (hN:X.N.Nodup) (hj:X.N[j]?=some y) (hy:X.env.scope.names.lookup y=some .local) (hsw:swapsWith (.ListComp elt [⟨tg,iter,ifs,0⟩] scope pos) (some (.Name y py)) spos.line X.env=pure true)
 (hc:X.calm=true) (ck:mH X.env.scope X.N scope N' L src=true) (hi:PI X tg iter wi) (hg:∀cl C s H ex pn,PG (d8 X scope cl C N' s H ex pn) tg g) (hif:∀cl C s H ex pn,wm (d8 X scope cl C N' s H ex pn) ifs tt)
 (he:∀cl C s H ex pn,PE (d8 X scope cl C N' s H ex pn) elt te) (hs:∀x,foldedSetIterable iter X.env x=pure x:=by intro _;rfl) :
 PS X (.Assign [.Name y py] (.ListComp elt [⟨tg,iter,ifs,0⟩] scope pos) spos) (x3 (yh wi L src g tt te) (rW j)):=by
 intro pins s σ H D I h
 have ck:=rK ck
 obtain ⟨cl,hclos,hsub,hhas⟩:=xL (scope:=scope) (env:=X.env) fun y hy e=>I.ok.has y.1 (ck.free y hy e)
 rw [exec_Assign_Name_used _ _ _ _ hsw]
 refine wpAny_bind (wpAny_standAt (wpAny_bind ?_))
 show wpAny _ X.A (do let _ ←comprehension (.ListComp elt [⟨tg,iter,ifs,0⟩] scope pos) scope X.env _ (newList []) false (eval iter X.env) (some (assign (.Name y py) X.env))) _ _ s
 refine wpAny_bind (wpAny_mono (wpAny_comprehension_free (use:=some (assign (.Name y py) X.env)) (Q:=fun _ s'=>SP X pins D .next s') rfl hs hclos ck.kind ck.loc
  (tZ hc ck I hsub hhas hi hg hif he h (RR:=fun acc C=>compPost (model X.prog X.w) X.A X.xe (some (assign (.Name y py) X.env)) (fun _ s'=>SP X pins D .next s') acc C) ?_)) (fun _ s' hq=>wpAny_pure (wpAny_pure hq)) fun _ _ e=>e)
 intro L' C H' f s' m J hn fpC q
 show wpAny _ X.A (assign (.Name y py) X.env (.ref L')) _ _ _
 refine wpAny_assign_Name (uk J hN hj (.inl hy) (v:=.ref L') rfl (fun s2 J2 hsb=>?_) (.inr hy))
 obtain ⟨f0,f1,f2,f3,f4,f5⟩:=fpC
 obtain ⟨a,hsb,ha⟩:=hsb
 have hCa:C≠a:=by
  rcases ha with rfl | ha
  ·exact f1
  ·exact fun z=>f4 _ _ ha z.symm
 refine ⟨m,hn.sameBut hsb hCa,fun h' hsb'=>⟨_,H',?_,q⟩⟩
 exact J2.turned (t':=s2.toks) (fun b o hb e=>(hsb'.2 b hb).trans e) f0 f1 f3 f4 f5
end
end L2
namespace HT
open PySem PySem.Spec PyProof.Rows
section
variable {prog:Program}{w:World}{A:Around}{E:Value→Shared→Prop}{s:Shared}
theorem Ax (xs:Array Value):((List.range xs.size).filterMap fun (k:Nat)=>xs[(((xs.size:Int) - 1)+(k:Int)*(-1)).toNat]?).toArray=xs.toList.reverse.toArray:=by
 have e:((List.range xs.size).filterMap fun (k:Nat)=>xs[(((xs.size:Int) - 1)+(k:Int)*(-1)).toNat]?)=((List.range xs.size).map fun k=>xs.size - 1 - k).filterMap fun (k:Nat)=>xs[k]?:=by
  rw [List.filterMap_map]
  have f:(fun (k:Nat)=>xs[(((xs.size:Int) - 1)+(k:Int)*(-1)).toNat]?)=((fun k=>xs[k]?) ∘ fun k=>xs.size - 1 - k):=by
   funext k
   show _=xs[xs.size - 1 - k]?
   congr 1
   trivial
  rw [f]
 rw [e,PySem.W.krv_range,List.filterMap_reverse,PySem.W.krv_all]
theorem yd (n:Nat):Builtin.Slice.slicePlaces ((n:Int) - 1) (-1) (-1)=n:=by
 unfold Builtin.Slice.slicePlaces
 have h1:¬((-1:Int) > 0):=by decide
 simp only [h1,if_false]
 by_cases h:(n:Int) - 1 > -1
 ·simp only [h,if_true]
  rw [show (-(-1):Int)=1 by decide,Int.ediv_one]
  trivial
 ·simp only [h,if_false]
  trivial
theorem qP {sl:Addr}{vk:Value}{n:Nat}{R:Int×Int×Nat→Shared→Prop} (hs:s.heap.IsSliceOf sl .none .none vk) (pk:IsPart vk (some (-1))) (r:R (((n:Int) - 1),-1,n) s):wpAny (model prog w) A (Builtin.Slice.sliceApplied (.ref sl) (pure (n:Int))) R E s:=by
 obtain ⟨os,hos,hcs,hds⟩:=id hs
 unfold Builtin.Slice.sliceApplied Builtin.Slice.sliceFields
 refine wpAny_bind (wpAny_bind (wpAny_field hos hds (x:=.none) rfl (wpAny_bind (wpAny_field hos hds (x:=.none) rfl (wpAny_bind (wpAny_field hos hds (x:=vk) rfl (wpAny_pure ?_)))))))
 refine wpAny_bind (mG pk ?_)
 show wpAny _ _ (if ((-1:Int)==0)=true then _ else _) _ _ s
 rw [if_neg (by decide)]
 refine wpAny_bind (slicePart_none (wpAny_bind (slicePart_none (wpAny_bind (wpAny_pure ?_)))))
 show wpAny _ _ (pure (((n:Int) - 1),(-1:Int),Builtin.Slice.slicePlaces ((n:Int) - 1) (-1) (-1))) _ _ s
 rw [yd]
 exact wpAny_pure r
theorem getItem_tuple_rev {t sl:Addr}{items:Array Value}{vk:Value}{Q:Value→Shared→Prop} (ht:IsTup s.heap t items) (hs:s.heap.IsSliceOf sl .none .none vk) (pk:IsPart vk (some (-1)))
 (h:Q (.ref s.heap.objs.size) { s with heap:=s.heap.push { cls:=.type "tuple",data:=.seq items.toList.reverse.toArray } })
 (hsz:items.size≤sizeLine):wpAny (model prog w) A (getItem (.ref t) (.ref sl)) Q E s:=by
 have htake:sizeOk (.seq items.toList.reverse.toArray):=by
  show items.toList.reverse.toArray.size≤sizeLine
  rw [List.size_toArray,List.length_reverse,Array.length_toList]
  exact hsz
 obtain ⟨os,hos,hcs,hds⟩:=id hs
 have hTs:s.TypeIs (.ref sl) "slice" := ⟨os,hos,hcs⟩
 unfold getItem
 try with_reducible refine wpAny_holding ?_
 first | refine wpAny_bind (wpAny_pure ?_) | skip
 refine wpAny_bind (wpAny_sequenceKey ht.typeIs (by decide) ?_)
 refine wpAny_bind (wpAny_callSpecial?_slot (name:=Str.ofString "__getitem__") ht.typeIs PyProof.Rows.slot_tuple_getitem
  (wpAny_call_entry PyProof.Rows.slot_tuple_getitem ht.typeIs entry_tuple_getitem ?_ (args_tuple_getitem _ _)))
 show wpAny _ _ (Builtin.Tuple.tupleItemsOf (.ref t) >>= _) _ _ s
 refine wpAny_bind (tupleItemsOf_ ht ?_)
 refine wpAny_bind (wpAny_typeOf hTs ?_)
 rw [if_pos (by decide)]
 refine wpAny_bind (qP hs pk ?_)
 have hno:¬((((items.size:Int) - 1)==0 && (-1:Int)==1 && items.size==items.size)=true):=by
  intro q
  rw [Bool.and_eq_true,Bool.and_eq_true] at q
  exact absurd q.1.2 (by decide)
 show wpAny _ _ (if (((items.size:Int) - 1)==0 && (-1:Int)==1 && items.size==items.size)=true then _ else _) _ _ s
 rw [if_neg hno,Ax]
 first
  | exact wpAny_bind (m:=Builtin.Tuple.tupleExact _) (wpAny_newObj_type (wpAny_pure ⟨_,rfl,wpAny_pure h⟩) htake)
  | exact wpAny_bind (m:=Builtin.Tuple.tupleExact _) (wpAny_newObj_type (wpAny_bind (wpAny_pure (wpAny_pure ⟨_,rfl,wpAny_pure h⟩))) htake)
end
end HT
namespace L2
open PySem PySem.Spec PyProof.Rows
section
variable {X:Cx}{K:PySem.W.Frag}
def Ob (c:Bool) (H:Hp) (a:Addr) (xs:List V):Prop:=H a=some (if c=true then .lst xs else .tup xs)
end
section
variable {X:Cx}{e:Expr}{te:TE}{st:Expr}{ts:TO}{p2 pos:Pos}
def Hn:V→Hp→VK→Prop:=fun x H Q=>(aV fun a m=>x=.str a∧HJ m a∧m≤10000∧∀c,HJ m c→Q (.str c) H)∨
 gf fun c a xs=>x=.ref a∧Ob c H a xs∧∀p H',ae H H'→Ob c H' p xs.reverse→H p=none→Q (.ref p) H'
def Hz (te:TE) (ts:TO):TE:=fun σ H Q=>te σ H fun x H1=>ts σ H1 fun k H2=>k=some (-1)∧Hn x H2 Q
theorem DF (he:PE X e te) (hst:PO X (some st) ts):PE X (.Subscript e (.Slice none none (some st) p2) pos) (Hz te ts):=by
 intro pins s σ H Q I h
 refine Subscript_ (aK (he pins s σ H _ I h) fun v s1 ⟨x,H1,I1,r1,q1⟩=>?_)
 refine wpAny_Slice ?_
 rw [evalPart_none]
 refine wpAny_pure (wpAny_pure (aK (hst pins s1 σ H1 _ I1 q1) fun vs s3 ⟨k,H3,I3,pk,q3⟩=>?_))
 obtain ⟨rfl,q3⟩:=q3
 have I4:aa X pins σ H3 { s3 with heap:=s3.heap.push { cls:=.type "slice",data:=.fields #[.none,.none,vs] } }:=I3.kept (t':=s3.toks) fun b ob q=>Heap.get?_push_of_some _ q
 rcases q3 with ⟨a,m,rfl,ta,hm,q⟩ | ⟨c,a,xs,rfl,hx,q⟩
 ·obtain ⟨t,rfl⟩:=r1
  obtain ⟨tk,ei⟩:∃(tk:Tok),vs=.int (-1) tk:=by
   cases pk with
   | int i t=>exact ⟨t,rfl⟩
  subst ei
  show wpAny (model X.prog X.w) X.A (subscriptTail e (.Slice none none (some st) p2) (.str a t) (.ref s3.heap.objs.size)) (EP X pins σ Q) X.xe { s3 with heap:=s3.heap.push { cls:=.type "slice",data:=.fields #[.none,.none,.int (-1) tk] } }
  refine tail_any (ops:=[.str a t,.ref s3.heap.objs.size]) (typeIs_str _ a t) F.slot_str_getitem.lookup ?_ (by with_unfolding_all rfl)
  refine wpAny_getItem_str_slice (l:=none) (u:=none) (st:=some (-1,tk)) ⟨_,Heap.get?_push_size _ rfl,rfl,rfl⟩ rfl ?_
  unfold sliceMade
  rw [if_neg (by intro z;rw [Bool.and_eq_true] at z;exact absurd z.1 (by show ¬(((-1:Int)==1)=true);decide))]
  have ep:slicePicked a none none (some (-1,tk))=(List.range a.length).reverse:=by
   show Builtin.Str.strSliceIndices none none (-1) a.length=_
   unfold Builtin.Str.strSliceIndices
   show sliceRange ((a.length:Int) - 1) (-1) (-1)=_
   rw [PySem.W.krv_sliceRange,PySem.W.krv_range]
  rw [ep]
  have er:((List.range a.length).reverse.filterMap fun x=>a.cps[x]?)=a.cps.toList.reverse:=by
   rw [List.filterMap_reverse]
   exact congrArg List.reverse (PySem.W.krv_all a.cps)
  rw [er]
  have hl:(⟨a.cps.toList.reverse.toArray⟩:Str).length=a.length:=by
   show a.cps.toList.reverse.toArray.size=_
   simp;rfl
  refine ⟨?_,.str ⟨_⟩,H3,I4.tok _,⟨()⟩,q _ ⟨by rw [hl];exact ta.1,fun c hc=>ta.2 c (by simpa using hc)⟩⟩
  show (⟨a.cps.toList.reverse.toArray⟩:Str).length≤_
  rw [hl]
  exact Nat.le_trans ta.1 (eJ hm)
 ·cases r1
  cases c with
  | true=>
   obtain ⟨its,r,ht,hz⟩:=I4.list (ar.of hx)
   have hlen:=r.length
   show wpAny (model X.prog X.w) X.A (subscriptTail e (.Slice none none (some st) p2) (.ref a) (.ref s3.heap.objs.size)) (EP X pins σ Q) X.xe { s3 with heap:=s3.heap.push { cls:=.type "slice",data:=.fields #[.none,.none,vs] } }
   refine tail_any (ops:=[.ref a,.ref s3.heap.objs.size]) ht.isList.typeIs slot_list_getitem.lookup ?_ (by with_unfolding_all rfl)
   refine wpAny_getItem_list_slice ht.isList (Heap.IsSliceOf.new ..) .none .none pk (by decide) ?_ (by rw [List.size_toArray] <;> trivial)
   rw [PySem.W.krv_pick]
   have hf:=I4.hok.fresh (Nat.le_refl _)
   refine ⟨.ref (s3.heap.push { cls:=.type "slice",data:=.fields #[.none,.none,vs] }).objs.size,_,I4.laid (t':=s3.toks) (o:=.lst xs.reverse) (fun b ob q=>Heap.get?_push_of_some _ q) (Nat.le_refl _) ?_,rfl,q _ _ (ae.new hf) ai hf⟩
   exact ⟨by rw [List.length_reverse];exact hz,_,0,r.rev,Heap.get?_push_size _ rfl⟩
  | false=>
   obtain ⟨its,r,ht,hz⟩:=I4.tuple (au.of hx)
   have hlen:=r.length
   show wpAny (model X.prog X.w) X.A (subscriptTail e (.Slice none none (some st) p2) (.ref a) (.ref s3.heap.objs.size)) (EP X pins σ Q) X.xe { s3 with heap:=s3.heap.push { cls:=.type "slice",data:=.fields #[.none,.none,vs] } }
   refine tail_any (ops:=[.ref a,.ref s3.heap.objs.size]) ht.typeIs PyProof.Rows.slot_tuple_getitem.lookup ?_ (by with_unfolding_all rfl)
   have hf:=I4.hok.fresh (Nat.le_refl _)
   refine HT.getItem_tuple_rev ht (Heap.IsSliceOf.new ..) pk ?_ (by rw [List.size_toArray] <;> trivial)
   refine ⟨.ref (s3.heap.push { cls:=.type "slice",data:=.fields #[.none,.none,vs] }).objs.size,_,I4.laid (t':=s3.toks) (o:=.tup xs.reverse) (fun b ob q=>Heap.get?_push_of_some _ q) (Nat.le_refl _) ?_,rfl,q _ _ (ae.new hf) ai hf⟩
   exact ⟨by rw [List.length_reverse];exact hz,_,r.rev,IsTup.new _ _,_,Heap.get?_push_size _ rfl,rfl⟩
end
section
variable {H H' H'':Hp}{z n k m:Nat}{v:V}{E:Addr→Prop}{b th th' p:Addr}{xs ys zs:List V}
end
section
variable {E:Addr→Prop}{z:Nat}{H0:Hp}{σ:St}{n k m:Nat}{te tb:TE}{ta:TA}{v:V}{i:Nat}{p:Addr}{xs:List V}{K:PySem.W.Frag}
end
section
variable {b th:Addr}{H0:Hp}{σ:St}{zs:List V}{ta:TA}{te:TE}{n i:Nat}{Q:VK}{K:PySem.W.Frag}
end
theorem bF {te:TE}{i:Nat}{u:TS}{D:dY}{σ:St}{H:Hp} (h:∀Q:VK,(∀v H',u D (σ.set i (some v)) H'→Q v H')→te σ H Q):kq (x3 te (rW i)) u D σ H:=h _ fun _ _ z=>z
theorem Ej {ta:TA}{i j:Nat}{u:TS}{D:dY}{σ:St}{H:Hp} (h:∀Q:List V→Hp→Prop,(∀v w H',u D ((σ.set i (some v)).set j (some w)) H'→Q [v,w] H')→ta σ H Q):kq (Et i j ta) u D σ H:=h _ fun _ _ _ z=>⟨_,(),z⟩
theorem mE {te:TE}{D:dY}{σ:St}{H:Hp} (h:∀Q:VK,(∀v H',D.rt v H'→Q v H')→te σ H Q):DQ te D σ H:=h _ fun _ _ z=>z
theorem cY {α:Type}{P:List α→Prop} (h:∀a,P [a]):∀us:List α,us.length=1→P us:=fun us hl=>by
 cases us with
 | nil=>cases hl
 | cons a r=>cases r with
  | nil=>exact h a
  | cons b r=>simp at hl
theorem eX {α:Type}{P:List α→Prop} (h:∀a b,P [a,b]):∀us:List α,us.length=2→P us:=fun us hl=>by
 cases us with
 | nil=>cases hl
 | cons a r=>exact cY (P:=fun r=>P (a :: r)) (fun b=>h a b) r (by simpa using hl)
theorem Iw {α:Type}{P:List α→Prop} (h:∀a b c,P [a,b,c]):∀us:List α,us.length=3→P us:=fun us hl=>by
 cases us with
 | nil=>cases hl
 | cons a r=>exact eX (P:=fun r=>P (a :: r)) (fun b c=>h a b c) r (by simpa using hl)
theorem vA:∀{xs:List V}{us:List Value},xs.length=us.length→(∀(i:Nat) x u,xs[i]?=some x→us[i]?=some u→aO x u)→aC xs us
 | [],[],_,_=>.nil
 | x :: xs,u :: us,hl,h=>.cons (h 0 x u rfl rfl) (vA (by simpa using hl) fun i y w e1 e2=>h (i+1) y w e1 e2)
section
variable {X:Cx}{a:Expr}{ta:TA}{p p2 pos pos2:Pos}
end
abbrev jC (h:Heap) (z TI TO:Addr) (f0:Value) (b:Bool):Prop:=h.get? z=some { cls:=.type "zip",dict:=none,data:=.fields #[f0,.bool b,.bool false,.ref TI,.ref TO],slots:=#[] }
theorem wY {M:Model}{A:Around}{E:Value→Shared→Prop}{s:Shared}{a:Addr}{o:Obj}{Q:Option Obj→Shared→Prop} (e:s.heap.get? a=some o) (h:Q (some o) s):wpAny M A (loadIfAlive a) Q E s:=fun Γ p hΓ=>by
 unfold loadIfAlive
 rw [Sem.wp_loadIfAlive,e]
 exact h
section
variable {prog:Program}{w:World}{A:Around}{E:Value→Shared→Prop}{s:Shared}
variable {z TI TO i1 i2 l1 l2 T:Addr}{k:Nat}{xs ys:Array Value}{bb:Bool}{c1 c2:Bool}{oT:Obj}
theorem xD {Q:Bool→Shared→Prop} (hz:jC s.heap z TI TO (rawInt T) bb) (hT:s.heap.get? T=some oT)
 (h:∀h',jC h' z TI TO (rawInt T) true→Heap.SameBut z s.heap h'→Q false { s with heap:=h' }):wpAny (model prog w) A (Builtin.SmallTypes.ownedTupleIsFree (.ref z)) Q E s:=by
 unfold Builtin.SmallTypes.ownedTupleIsFree
 refine wpAny_bind (wpAny_field hz rfl (x:=rawInt T) rfl ?_)
 show wpAny _ _ (loadIfAlive ((T:Int).toNat) >>= _) _ _ _
 refine wpAny_bind (wY (a:=(T:Int).toNat) (by rw [Int.toNat_natCast];exact hT) ?_)
 simp only [Option.isNone_some,Bool.false_eq_true,if_false]
 refine wpAny_bind (wpAny_field hz rfl (x:=.bool bb) rfl ?_)
 cases bb with
 | true=>exact wpAny_pure (h s.heap hz (Heap.SameBut.refl ..))
 | false=>
  refine wpAny_bind (wpAny_setField_rec hz (by simp) fun h' e sb=>wpAny_pure (h h' e sb))
end
theorem gY:entryFor table "dict.update.loop" = some Builtin.«dict.update.loop»:=entryFor_of_tree (by kernel_rfl)
theorem cJ:plainId "dict.update.loop" = true:=by nofun
theorem yG {kvs:List (bz×Value)}{k:bz}{v:Value} (h:k∉kvs.map (·.1)):stored kvs k v=kvs++[(k,v)]:=by
 unfold stored
 rw [if_neg]
 intro z
 obtain ⟨x,hx,e⟩:=List.any_eq_true.mp z
 exact h (by rw [←of_decide_eq_true e];exact List.mem_map_of_mem hx)
theorem vC {α β:Type}:∀{ks:List α}{us:List β},ks.length=us.length→(ks.zip us).map (·.1)=ks
 | [],[],_=>rfl
 | k :: ks,u :: us,h=>by simp [vC (ks:=ks) (us:=us) (by simpa using h)]
section
variable {prog:Program}{w:World}{A:Around}{E:Value→Shared→Prop}{R:Result→Shared→Prop}
variable {z TI TO i1 i2 l1 l2 d:Addr}{xs ys:Array Value}{c1 c2:Bool}{ks:List bz}
end
theorem vj:bootBuiltins "dict" = some (.type "dict"):=by nofun
theorem zN:∀{ks:List bz}{ys:List V}{us:List Value},aC ys us→KV (ks.zip ys) (ks.zip us)
 | [],_,_,_=>.nil
 | _ :: _,_,_,.nil=>.nil
 | k :: ks,_,_,.cons r t=>.cons ⟨rfl,r⟩ (zN t)
section
variable {X:Cx}{K:PySem.W.Frag}{a b:Expr}{ta:TA}{p1 p2 p3 p4:Pos}
def valD (kvs:List (bz×V)) (k:bz):Option V:=(kvs.find? fun kv=>decide (kv.1=k)).map (·.2)
theorem KV.valD:∀{kvs:List (bz×V)}{vs:List (bz×Value)} (r:KV kvs vs) (k:bz),qN (valD kvs k) (valueAt vs k)
 | _,_,.nil,_=>trivial
 | p :: ps,q :: qs,.cons h t,k=>by
  obtain ⟨h1,h2⟩:=h
  by_cases e:p.1=k
  ·have e':q.1=k:=h1.symm.trans e
   have b1:L2.valD (p :: ps) k=some p.2:=by simp [L2.valD,List.find?_cons,e]
   have b2:valueAt (q :: qs) k=some q.2:=by simp [valueAt,List.find?_cons,e']
   rw [b1,b2];exact h2
  ·have e':¬q.1=k:=fun z=>e (h1.trans z)
   have b1:L2.valD (p :: ps) k=L2.valD ps k:=by simp [L2.valD,List.find?_cons,e]
   have b2:valueAt (q :: qs) k=valueAt qs k:=by simp [valueAt,List.find?_cons,e']
   rw [b1,b2];exact KV.valD t k
inductive GX (x:V) (y:V) (H:Hp) (Q:VK):Prop
 | mk (d:Addr) (kvs:List (bz×V)) (k:bz) (v:V) (h0:x=.ref d) (h1:y=mw k) (h2:H d=some (.dK kvs)) (h3:valD kvs k=some v) (h4:Q v H)
def Ii:R2:=fun x y H Q=>GX  x y H Q
theorem y3 {P:Program}{w:World}{k:bz}{u:Value} (r:aO (mw k) u):(cV P w).is k u=true:=(sQ r).1
theorem xg:nG X Ii:=by
 intro value slice pins s σ H x y v u Q I rx ry h hs
 obtain ⟨d,kvs,k,z,rfl,rfl,hd,he,q⟩:=h
 cases rx
 obtain ⟨_,_,vs,rel,dd⟩:=(show bc X.prog X.w H s.heap d (.dK kvs) from I.hok d _ hd)
 have hv:=rel.valD k
 rw [he] at hv
 obtain ⟨w',hw,rw'⟩:=qN.some_of hv
 exact subscriptTail_builtinR (x:=w') dd.typeIs PySem.F.slot_dict_getitem.lookup (wpAny_getItem_of (y3 ry) dd.mapOf hw ⟨rfl,z,H,I.tok _,rw',q⟩) hs
theorem va:∀{ks:List bz}{ys:List V}{i:Nat}{k:bz}{y:V},ks.Nodup→ks[i]?=some k→ys[i]?=some y→valD (ks.zip ys) k=some y
 | [],_,_,_,_,_,h,_=>by simp at h
 | _ :: _,[],_,_,_,_,_,h=>by simp at h
 | k0 :: ks,y0 :: ys,0,k,y,_,h1,h2=>by
  simp at h1 h2
  subst h1 h2
  simp [valD]
 | k0 :: ks,y0 :: ys,i+1,k,y,nd,h1,h2=>by
  simp only [List.getElem?_cons_succ] at h1 h2
  have ne:¬k0=k:=fun z=>by
   rw [z] at nd
   exact (List.nodup_cons.mp nd).1 (List.mem_of_getElem? h1)
  have b1:valD ((k0 :: ks).zip (y0 :: ys)) k=valD (ks.zip ys) k:=by simp [valD,List.find?_cons,ne]
  rw [b1]
  exact va (List.nodup_cons.mp nd).2 h1 h2
end
section
variable {X:Cx}
end
theorem aH {a b:Nat} (h:a≠b):@Ne Addr a b:=h
abbrev cp (h:Heap) (T:Addr) (a b c:Value):Prop:=h.get? T=some { cls:=.type "tuple",data:=.seq #[a,b,c] }
section
variable {prog:Program}{w:World}{A:Around}{E:Value→Shared→Prop}{s:Shared}
theorem m9 {T:Addr}{a b c x:Value}{k:Nat}{Q:Unit→Shared→Prop} (hT:cp s.heap T a b c)
 (h:∀h',h'.get? T=some { cls:=.type "tuple",data:=.seq ((#[a,b,c]:Array Value).setIfInBounds k x) }→Heap.SameBut T s.heap h'→Q () { s with heap:=h' }) :
 wpAny (model prog w) A (updateSeq T (·.setIfInBounds k x)) Q E s:=by
 refine wpAny_updateSeq hT rfl (h _ ?_ (Heap.SameBut.update ..))
 rw [Heap.get?_update_self _ hT rfl]
 simp [Obj.mapSeq]
variable {n l1 l2 l3 T:Nat}{k:Nat}{xs ys zs:Array Value}{bb:Bool}{oT:Obj}
set_option maxHeartbeats 1000000 in
theorem AT {a b c x y v:Value}{Q:Value→Shared→Prop} (hl:l1<n∧l2<n∧l3<n)
 (hz:IsZip s.heap (n+5) (n+3) (n+4) .none) (hTI:cp s.heap (n+3) (.ref n) (.ref (n+1)) (.ref (n+2))) (hTO:cp s.heap (n+4) a b c) (hh:A.handled=none)
 (h1:bK s.heap n l1 k true) (h2:bK s.heap (n+1) l2 k true) (h3:bK s.heap (n+2) l3 k true) (q1:bP s.heap l1 xs true) (q2:bP s.heap l2 ys true) (q3:bP s.heap l3 zs true) (hx:xs[k]?=some x) (hy:ys[k]?=some y) (hv:zs[k]?=some v)
 (hQ:∀h' tk,IsZip h' (n+5) (n+3) (n+4) (rawInt s.heap.objs.size)→bK h' n l1 (k+1) true→bK h' (n+1) l2 (k+1) true→bK h' (n+2) l3 (k+1) true→cp h' s.heap.objs.size x y v→h'.objs.size=s.heap.objs.size+1→
  (∀(c:Nat) o,c≠n+5→c≠n+4→c≠n→c≠n+1→c≠n+2→s.heap.get? c=some o→h'.get? c=some o)→Q (.ref s.heap.objs.size) { s with heap:=h',toks:=tk }) :
 wpAny (model prog w) A (Builtin.«zip.__next__» ⟨[.ref (n+5)],[]⟩) (fun fin s'=>∃v,fin=.done (.ret v)∧Q v s') E s:=by
 obtain ⟨m1,m2,m3⟩:=hl
 have kx:k<xs.size:=(Array.getElem?_eq_some_iff.mp hx).1
 have ky:k<ys.size:=(Array.getElem?_eq_some_iff.mp hy).1
 have kv:k<zs.size:=(Array.getElem?_eq_some_iff.mp hv).1
 have D1:=fh (prog:=prog) (w:=w) hh n l1 (aH (by trivial)) xs true
 have D2:=fh (prog:=prog) (w:=w) hh (n+1) l2 (aH (by trivial)) ys true
 have D3:=fh (prog:=prog) (w:=w) hh (n+2) l3 (aH (by trivial)) zs true
 show wpAny _ _ (field (.ref (n+5)) 2 >>= _) _ _ _;refine wpAny_bind (wpAny_field hz rfl (x:=.bool false) rfl ?_)
 show wpAny _ _ (field (.ref (n+5)) 3 >>= _) _ _ _;refine wpAny_bind (wpAny_field hz rfl (x:=.ref (n+3)) rfl (wpAny_bind (wpAny_seqItems hTI rfl ?_)))
 show wpAny _ _ (Builtin.SmallTypes.ownedTupleIsFree (.ref (n+5)) >>= _) _ _ _;refine wpAny_bind ?_;unfold Builtin.SmallTypes.ownedTupleIsFree
 refine wpAny_bind (wpAny_field hz rfl (x:=.none) rfl (wpAny_pure ?_));simp only [if_true]
 refine wpAny_bind (wpAny_rule (wpAny_bind (wpAny_field hz rfl (x:=.ref (n+4)) rfl (wpAny_bind (wpAny_setField_rec hz (by simp) fun g1 z1 t1=>?_)))))
 replace z1:IsZip g1 (n+5) (n+3) (n+4) .ellipsis:=z1
 refine wpAny_bind ?_;simp only [List.zipIdx_cons,List.zipIdx_nil,List.forIn_cons,List.forIn_nil];refine wpAny_bind (wpAny_bind (wpAny_onRaise ?_))
 show wpAny _ _ (Builtin.SmallTypes.nextOf (.ref n) >>= _) _ _ _
 refine wpAny_bind (D1.item k _ _ _ kx ⟨h1.at fun o e=>t1.extBut _ _ (aH (by trivial)) e,q1.at fun o e=>t1.extBut _ _ (aH (by trivial)) e⟩ fun x' g2 tk2 p1 st1 t2=>wpAny_pure ?_)
 have ex:x=x':=Option.some.inj (hx.symm.trans p1)
 subst ex
 have TO2:cp g2 (n+4) a b c:=t2.extBut _ _ (aH (by trivial)) (t1.extBut _ _ (aH (by trivial)) hTO)
 refine wpAny_bind (wpAny_seqItems TO2 rfl (wpAny_bind (m9 TO2 fun g3 TO3 t3=>?_)))
 replace TO3:cp g3 (n+4) x b c:=TO3
 refine wpAny_bind (wpAny_letGo (wpAny_pure ?_));refine wpAny_bind (wpAny_bind (wpAny_onRaise ?_));show wpAny _ _ (Builtin.SmallTypes.nextOf (.ref (n+1)) >>= _) _ _ _
 refine wpAny_bind (D2.item k _ _ _ ky ⟨h2.at fun o e=>t3.extBut _ _ (aH (by trivial)) (t2.extBut _ _ (aH (by trivial)) (t1.extBut _ _ (aH (by trivial)) e)),q2.at fun o e=>t3.extBut _ _ (aH (by trivial)) (t2.extBut _ _ (aH (by trivial)) (t1.extBut _ _ (aH (by trivial)) e))⟩ fun y' g4 tk4 p2 st2 t4=>wpAny_pure ?_)
 have ey:y=y':=Option.some.inj (hy.symm.trans p2)
 subst ey
 have TO4:cp g4 (n+4) x b c:=t4.extBut _ _ (aH (by trivial)) TO3
 refine wpAny_bind (wpAny_seqItems TO4 rfl (wpAny_bind (m9 TO4 fun g5 TO5 t5=>?_)))
 replace TO5:cp g5 (n+4) x y c:=TO5
 refine wpAny_bind (wpAny_letGo (wpAny_pure ?_));refine wpAny_bind (wpAny_bind (wpAny_onRaise ?_));show wpAny _ _ (Builtin.SmallTypes.nextOf (.ref (n+2)) >>= _) _ _ _
 refine wpAny_bind (D3.item k _ _ _ kv ⟨h3.at fun o e=>t5.extBut _ _ (aH (by trivial)) (t4.extBut _ _ (aH (by trivial)) (t3.extBut _ _ (aH (by trivial)) (t2.extBut _ _ (aH (by trivial)) (t1.extBut _ _ (aH (by trivial)) e)))),q3.at fun o e=>t5.extBut _ _ (aH (by trivial)) (t4.extBut _ _ (aH (by trivial)) (t3.extBut _ _ (aH (by trivial)) (t2.extBut _ _ (aH (by trivial)) (t1.extBut _ _ (aH (by trivial)) e))))⟩ fun v' g6 tk6 p3 st3 t6=>wpAny_pure ?_)
 have ev:v=v':=Option.some.inj (hv.symm.trans p3)
 subst ev
 have TO6:cp g6 (n+4) x y c:=t6.extBut _ _ (aH (by trivial)) TO5
 refine wpAny_bind (wpAny_seqItems TO6 rfl (wpAny_bind (m9 TO6 fun g7 TO7 t7=>?_)))
 replace TO7:cp g7 (n+4) x y v:=TO7
 refine wpAny_bind (wpAny_letGo (wpAny_pure (wpAny_pure ?_)));refine wpAny_bind (wpAny_seqItems TO7 rfl (wpAny_bind (wpAny_newTuple ?_)))
 have sz:g7.objs.size=s.heap.objs.size:=by rw [t7.1,t6.1,t5.1,t4.1,t3.1,t2.1,t1.1]
 have keep:∀(c:Nat) o,c≠n+5→c≠n+4→c≠n→c≠n+1→c≠n+2→s.heap.get? c=some o→g7.get? c=some o:=fun c o d1 d2 d3 d4 d5 e=>t7.extBut _ _ d2 (t6.extBut _ _ d5 (t5.extBut _ _ d2 (t4.extBut _ _ d4 (t3.extBut _ _ d2 (t2.extBut _ _ d3 (t1.extBut _ _ d1 e))))))
 have z7:IsZip g7 (n+5) (n+3) (n+4) .ellipsis:=t7.extBut _ _ (aH (by trivial)) (t6.extBut _ _ (aH (by trivial)) (t5.extBut _ _ (aH (by trivial)) (t4.extBut _ _ (aH (by trivial)) (t3.extBut _ _ (aH (by trivial)) (t2.extBut _ _ (aH (by trivial)) z1)))))
 have it1:bK g7 n l1 (k+1) true:=st1.1.at fun o e=>t7.extBut _ _ (aH (by trivial)) (t6.extBut _ _ (aH (by trivial)) (t5.extBut _ _ (aH (by trivial)) (t4.extBut _ _ (aH (by trivial)) (t3.extBut _ _ (aH (by trivial)) e))))
 have it2:bK g7 (n+1) l2 (k+1) true:=st2.1.at fun o e=>t7.extBut _ _ (aH (by trivial)) (t6.extBut _ _ (aH (by trivial)) (t5.extBut _ _ (aH (by trivial)) e))
 have it3:bK g7 (n+2) l3 (k+1) true:=st3.1.at fun o e=>t7.extBut _ _ (aH (by trivial)) e
 have zlt:n+5<g7.objs.size:=Heap.lt_size z7
 show wpAny _ _ (Builtin.SmallTypes.ownedTupleHandOut (.ref (n+5)) (.ref g7.objs.size) >>= _) _ _ _;refine wpAny_bind ?_;unfold Builtin.SmallTypes.ownedTupleHandOut
 have z8:IsZip (g7.push { cls:=.type "tuple",data:=.seq #[x,y,v] }) (n+5) (n+3) (n+4) .ellipsis:=Heap.get?_push_of_some _ z7
 refine wpAny_bind (wpAny_setField_rec z8 (by simp) fun g9 z9 t9=>?_)
 replace z9:IsZip g9 (n+5) (n+3) (n+4) (rawInt g7.objs.size):=z9
 refine wpAny_setField_rec z9 (by simp) fun gA zA tA=>?_
 replace zA:IsZip gA (n+5) (n+3) (n+4) (rawInt g7.objs.size):=zA
 have up:∀(c:Nat) o,c≠n+5→g7.get? c=some o→gA.get? c=some o:=fun c o d e=>tA.extBut _ _ d (t9.extBut _ _ d (Heap.get?_push_of_some _ e))
 have TA:cp gA g7.objs.size x y v:=tA.extBut _ _ (Nat.ne_of_gt zlt) (t9.extBut _ _ (Nat.ne_of_gt zlt) (Heap.get?_push_size _ rfl))
 have sA:gA.objs.size=g7.objs.size+1:=by rw [tA.1,t9.1,Heap.size_push]
 rw [sz] at zA TA sA
 refine wpAny_pure ⟨(),?_⟩;show Q (.ref g7.objs.size) _;rw [sz]
 exact hQ gA _ zA (it1.at fun o e=>up _ o (aH (by trivial)) e) (it2.at fun o e=>up _ o (aH (by trivial)) e) (it3.at fun o e=>up _ o (aH (by trivial)) e) TA sA fun c o d1 d2 d3 d4 d5 e=>up c o d1 (keep c o d1 d2 d3 d4 d5 e)
theorem zQ {x y v:Value}{Q:Value→Shared→Prop} (hl:l1<n∧l2<n∧l3<n)
 (hz:jC s.heap (n+5) (n+3) (n+4) (rawInt T) bb) (hT:s.heap.get? T=some oT) (hTI:cp s.heap (n+3) (.ref n) (.ref (n+1)) (.ref (n+2))) (hh:A.handled=none)
 (h1:bK s.heap n l1 k true) (h2:bK s.heap (n+1) l2 k true) (h3:bK s.heap (n+2) l3 k true) (q1:bP s.heap l1 xs true) (q2:bP s.heap l2 ys true) (q3:bP s.heap l3 zs true) (hx:xs[k]?=some x) (hy:ys[k]?=some y) (hv:zs[k]?=some v)
 (hQ:∀h' tk,jC h' (n+5) (n+3) (n+4) (rawInt T) true→bK h' n l1 (k+1) true→bK h' (n+1) l2 (k+1) true→bK h' (n+2) l3 (k+1) true→cp h' s.heap.objs.size x y v→h'.objs.size=s.heap.objs.size+1→
  (∀(c:Nat) o,c≠n+5→c≠n→c≠n+1→c≠n+2→s.heap.get? c=some o→h'.get? c=some o)→Q (.ref s.heap.objs.size) { s with heap:=h',toks:=tk }) :
 wpAny (model prog w) A (Builtin.«zip.__next__» ⟨[.ref (n+5)],[]⟩) (fun fin s'=>∃v,fin=.done (.ret v)∧Q v s') E s:=by
 obtain ⟨m1,m2,m3⟩:=hl
 have kx:k<xs.size:=(Array.getElem?_eq_some_iff.mp hx).1
 have ky:k<ys.size:=(Array.getElem?_eq_some_iff.mp hy).1
 have kv:k<zs.size:=(Array.getElem?_eq_some_iff.mp hv).1
 have D1:=fh (prog:=prog) (w:=w) hh n l1 (aH (by trivial)) xs true
 have D2:=fh (prog:=prog) (w:=w) hh (n+1) l2 (aH (by trivial)) ys true
 have D3:=fh (prog:=prog) (w:=w) hh (n+2) l3 (aH (by trivial)) zs true
 show wpAny _ _ (field (.ref (n+5)) 2 >>= _) _ _ _;refine wpAny_bind (wpAny_field hz rfl (x:=.bool false) rfl ?_)
 show wpAny _ _ (field (.ref (n+5)) 3 >>= _) _ _ _;refine wpAny_bind (wpAny_field hz rfl (x:=.ref (n+3)) rfl (wpAny_bind (wpAny_seqItems hTI rfl ?_)))
 show wpAny _ _ (Builtin.SmallTypes.ownedTupleIsFree (.ref (n+5)) >>= _) _ _ _
 refine wpAny_bind (xD hz hT fun g1 z1 t1=>?_)
 simp only [Bool.false_eq_true,if_false]
 refine wpAny_bind ?_
 rw [←Array.forIn_toList]
 simp only [List.forIn_cons,List.forIn_nil]
 refine wpAny_bind (wpAny_bind (wpAny_holding ?_))
 show wpAny _ _ (Builtin.SmallTypes.nextOf (.ref n) >>= _) _ _ _
 refine wpAny_bind (D1.item k _ _ _ kx ⟨h1.at fun o e=>t1.extBut _ _ (aH (by trivial)) e,q1.at fun o e=>t1.extBut _ _ (aH (by trivial)) e⟩ fun x' g2 tk2 p1 st1 t2=>wpAny_pure ?_)
 have ex:x=x':=Option.some.inj (hx.symm.trans p1)
 subst ex
 refine wpAny_pure ?_
 refine wpAny_bind (wpAny_bind (wpAny_holding ?_))
 show wpAny _ _ (Builtin.SmallTypes.nextOf (.ref (n+1)) >>= _) _ _ _
 refine wpAny_bind (D2.item k _ _ _ ky ⟨h2.at fun o e=>t2.extBut _ _ (aH (by trivial)) (t1.extBut _ _ (aH (by trivial)) e),q2.at fun o e=>t2.extBut _ _ (aH (by trivial)) (t1.extBut _ _ (aH (by trivial)) e)⟩ fun y' g4 tk4 p2 st2 t4=>wpAny_pure ?_)
 have ey:y=y':=Option.some.inj (hy.symm.trans p2)
 subst ey
 refine wpAny_pure ?_
 refine wpAny_bind (wpAny_bind (wpAny_holding ?_))
 show wpAny _ _ (Builtin.SmallTypes.nextOf (.ref (n+2)) >>= _) _ _ _
 refine wpAny_bind (D3.item k _ _ _ kv ⟨h3.at fun o e=>t4.extBut _ _ (aH (by trivial)) (t2.extBut _ _ (aH (by trivial)) (t1.extBut _ _ (aH (by trivial)) e)),q3.at fun o e=>t4.extBut _ _ (aH (by trivial)) (t2.extBut _ _ (aH (by trivial)) (t1.extBut _ _ (aH (by trivial)) e))⟩ fun v' g6 tk6 p3 st3 t6=>wpAny_pure ?_)
 have ev:v=v':=Option.some.inj (hv.symm.trans p3)
 subst ev
 refine wpAny_pure (wpAny_pure ?_)
 refine wpAny_bind (wpAny_newTuple ?_ (by show 3≤sizeLine;rw [sizeLine_eq];decide))
 have sz:g6.objs.size=s.heap.objs.size:=by rw [t6.1,t4.1,t2.1,t1.1]
 have z6:jC g6 (n+5) (n+3) (n+4) (rawInt T) true:=t6.extBut _ _ (aH (by trivial)) (t4.extBut _ _ (aH (by trivial)) (t2.extBut _ _ (aH (by trivial)) z1))
 refine wpAny_pure ⟨(),?_⟩
 show Q (.ref g6.objs.size) _
 have pu:cp (g6.push { cls:=.type "tuple",data:=.seq #[x,y,v] }) g6.objs.size x y v:=Heap.get?_push_size _ rfl
 have ps:(g6.push { cls:=.type "tuple",data:=.seq #[x,y,v] }).objs.size=s.heap.objs.size+1:=by rw [Heap.size_push,sz]
 rw [sz] at pu ⊢
 exact hQ _ _ (Heap.get?_push_of_some _ z6) ((st1.1.at fun o e=>t6.extBut _ _ (aH (by trivial)) (t4.extBut _ _ (aH (by trivial)) e)).at fun o e=>Heap.get?_push_of_some _ e) ((st2.1.at fun o e=>t6.extBut _ _ (aH (by trivial)) e).at fun o e=>Heap.get?_push_of_some _ e) (st3.1.at fun o e=>Heap.get?_push_of_some _ e) pu ps
  fun c o d1 d3 d4 d5 e=>Heap.get?_push_of_some _ (t6.extBut _ _ d5 (t4.extBut _ _ d4 (t2.extBut _ _ d3 (t1.extBut _ _ d1 e))))
theorem Dj {Q:Fin→Shared→Prop} (hh:A.handled=none) (hl:l1<n) {f0:Value} (hz:jC s.heap (n+5) (n+3) (n+4) f0 bb) (hf:(f0=.none∧bb=false)∨∃T:Nat,f0=rawInt T∧∃o,s.heap.get? T=some o) (hTI:cp s.heap (n+3) (.ref n) (.ref (n+1)) (.ref (n+2)))
 (h1:bK s.heap n l1 k true) (q1:bP s.heap l1 xs true) (hend:xs.size=k)
 (hE:∀h' e tk,(∀(c:Nat) o,c≠n+5→c≠n→s.heap.get? c=some o→h'.get? c=some o)→(∃o,h'.get? e=some o∧o.cls=.type "StopIteration")→E (.ref e) { s with heap:=h',toks:=tk }) :
 wpAny (model prog w) A (Builtin.«zip.__next__» ⟨[.ref (n+5)],[]⟩) Q E s:=by
 have D1:=fh (prog:=prog) (w:=w) hh n l1 (aH (by trivial)) xs true
 show wpAny _ _ (field (.ref (n+5)) 2 >>= _) _ _ _;refine wpAny_bind (wpAny_field hz rfl (x:=.bool false) rfl ?_)
 show wpAny _ _ (field (.ref (n+5)) 3 >>= _) _ _ _;refine wpAny_bind (wpAny_field hz rfl (x:=.ref (n+3)) rfl (wpAny_bind (wpAny_seqItems hTI rfl ?_)))
 show wpAny _ _ (Builtin.SmallTypes.ownedTupleIsFree (.ref (n+5)) >>= _) _ _ _
 rcases hf with ⟨rfl,rfl⟩ | ⟨T,rfl,oT,hT⟩
 ·refine wpAny_bind ?_;unfold Builtin.SmallTypes.ownedTupleIsFree
  refine wpAny_bind (wpAny_field hz rfl (x:=.none) rfl (wpAny_pure ?_));simp only [if_true]
  refine wpAny_bind (wpAny_rule (wpAny_bind (wpAny_field hz rfl (x:=.ref (n+4)) rfl (wpAny_bind (wpAny_setField_rec hz (by simp) fun g1 z1 t1=>?_)))))
  replace z1:IsZip g1 (n+5) (n+3) (n+4) .ellipsis:=z1
  refine wpAny_bind ?_;simp only [List.zipIdx_cons,List.zipIdx_nil,List.forIn_cons,List.forIn_nil];refine wpAny_bind (wpAny_bind (wpAny_onRaise ?_))
  show wpAny _ _ (Builtin.SmallTypes.nextOf (.ref n) >>= _) _ _ _
  have st0:bK g1 n l1 k true∧bP g1 l1 xs true:=⟨h1.at fun o e=>t1.extBut _ _ (aH (by trivial)) e,q1.at fun o e=>t1.extBut _ _ (aH (by trivial)) e⟩
  refine wpAny_bind (D1.done _ _ _ (by rw [hend];exact st0) fun g2 e t2 he=>?_)
  obtain ⟨oe,e1,e2⟩:=he
  have z2:IsZip g2 (n+5) (n+3) (n+4) .ellipsis:=t2 _ _ (aH (by trivial)) z1
  have ez:e≠n+5:=fun q=>by subst q;rw [z2] at e1;cases e1;simp at e2
  exact wpAny_setField_rec z2 (by simp) fun g3 _ t3=>hE g3 e _ (fun c o d1 d3 q=>t3.extBut _ _ d1 (t2 _ _ d3 (t1.extBut _ _ d1 q))) ⟨oe,t3.extBut _ _ ez e1,e2⟩
 ·refine wpAny_bind (xD hz hT fun g1 z1 t1=>?_)
  simp only [Bool.false_eq_true,if_false]
  refine wpAny_bind ?_
  rw [←Array.forIn_toList]
  simp only [List.forIn_cons,List.forIn_nil]
  refine wpAny_bind (wpAny_bind (wpAny_holding ?_))
  show wpAny _ _ (Builtin.SmallTypes.nextOf (.ref n) >>= _) _ _ _
  have st0:bK g1 n l1 k true∧bP g1 l1 xs true:=⟨h1.at fun o e=>t1.extBut _ _ (aH (by trivial)) e,q1.at fun o e=>t1.extBut _ _ (aH (by trivial)) e⟩
  refine wpAny_bind (D1.done _ _ _ (by rw [hend];exact st0) fun g2 e t2 he=>?_)
  exact hE g2 e _ (fun c o d1 d3 q=>t2 _ _ d3 (t1.extBut _ _ d1 q)) he
end
structure Z3 (h:Heap) (n l1 l2 l3:Nat) (xs ys zs:Array Value) (k:Nat):Prop where
 z:(IsZip h (n+5) (n+3) (n+4) .none∧gf fun a b c=>cp h (n+4) a b c)∨gf fun (T:Nat) (o:Obj) (bb:Bool)=>jC h (n+5) (n+3) (n+4) (rawInt T) bb∧h.get? T=some o∧n+6<T
 t:cp h (n+3) (.ref n) (.ref (n+1)) (.ref (n+2))
 a:bK h n l1 k true
 b:bK h (n+1) l2 k true
 c:bK h (n+2) l3 k true
 d:bP h l1 xs true
 e:bP h l2 ys true
 f:bP h l3 zs true
section
variable {prog:Program}{w:World}{A:Around}{E:Value→Shared→Prop}{s:Shared}
variable {n l1 l2 l3:Nat}{k:Nat}{xs ys zs:Array Value}
theorem Z3.keep {h h':Heap} (st:Z3 h n l1 l2 l3 xs ys zs k) (hl:l1<n∧l2<n∧l3<n) (kp:∀(c:Nat) o,c≠n+6→h.get? c=some o→h'.get? c=some o):Z3 h' n l1 l2 l3 xs ys zs k:=by
 refine ⟨?_,kp _ _ (by trivial) st.t,st.a.at fun o e=>kp _ o (by trivial) e,st.b.at fun o e=>kp _ o (by trivial) e,st.c.at fun o e=>kp _ o (by trivial) e,st.d.at fun o e=>kp _ o (by trivial) e,st.e.at fun o e=>kp _ o (by trivial) e,st.f.at fun o e=>kp _ o (by trivial) e⟩
 rcases st.z with ⟨h1,a,b,c,h2⟩ | ⟨T,o,bb,h1,h2,h3⟩
 ·exact .inl ⟨kp _ _ (by trivial) h1,a,b,c,kp _ _ (by trivial) h2⟩
 ·exact .inr ⟨T,o,bb,kp _ _ (by trivial) h1,kp _ _ (by trivial) h2,h3⟩
theorem zF {x y v:Value}{Q:Option Value→Shared→Prop} (hl:l1<n∧l2<n∧l3<n) (hsz:n+6<s.heap.objs.size)
 (st:Z3 s.heap n l1 l2 l3 xs ys zs k) (hh:A.handled=none) (hx:xs[k]?=some x) (hy:ys[k]?=some y) (hv:zs[k]?=some v)
 (hQ:∀h' tk,Z3 h' n l1 l2 l3 xs ys zs (k+1)→cp h' s.heap.objs.size x y v→h'.objs.size=s.heap.objs.size+1→(∀(c:Nat) o,c≠n+5→c≠n+4→c≠n→c≠n+1→c≠n+2→s.heap.get? c=some o→h'.get? c=some o)→Q (some (.ref s.heap.objs.size)) { s with heap:=h',toks:=tk }) :
 wpAny (model prog w) A (pyNext (.ref (n+5))) Q E s:=by
 rcases st.z with ⟨hz,a,b,c,hTO⟩ | ⟨T,o,bb,hz,hT,hn⟩
 ·have hT':s.TypeIs (.ref (n+5)) "zip" := ⟨_,hz,rfl⟩
  unfold pyNext
  refine wpAny_bind (wpAny_attempt (wpAny_callSpecial?_slot (name:=Str.ofString "__next__") hT' F.slot_zip_next (wpAny_call_entry F.slot_zip_next hT' F.entry_zip_next
   (AT hl hz st.t hTO hh st.a st.b st.c st.d st.e st.f hx hy hv fun h' tk zo t1 t2 t3 T' sz keep=>wpAny_pure ?_) (F.args_zip_next_1 _))))
  refine hQ h' tk ⟨.inr ⟨s.heap.objs.size,_,false,zo,T',hsz⟩,keep _ _ (by trivial) (by trivial) (by trivial) (by trivial) (by trivial) st.t,t1,t2,t3,st.d.at fun o e=>keep _ o (by trivial) (by trivial) (by trivial) (by trivial) (by trivial) e,st.e.at fun o e=>keep _ o (by trivial) (by trivial) (by trivial) (by trivial) (by trivial) e,st.f.at fun o e=>keep _ o (by trivial) (by trivial) (by trivial) (by trivial) (by trivial) e⟩ T' sz keep
 ·have hT':s.TypeIs (.ref (n+5)) "zip" := ⟨_,hz,rfl⟩
  unfold pyNext
  refine wpAny_bind (wpAny_attempt (wpAny_callSpecial?_slot (name:=Str.ofString "__next__") hT' F.slot_zip_next (wpAny_call_entry F.slot_zip_next hT' F.entry_zip_next
   (zQ hl hz hT st.t hh st.a st.b st.c st.d st.e st.f hx hy hv fun h' tk zo t1 t2 t3 T' sz keep=>wpAny_pure ?_) (F.args_zip_next_1 _))))
  refine hQ h' tk ⟨.inr ⟨T,o,true,zo,keep _ _ (by trivial) (by trivial) (by trivial) (by trivial) hT,hn⟩,keep _ _ (by trivial) (by trivial) (by trivial) (by trivial) st.t,t1,t2,t3,st.d.at fun o e=>keep _ o (by trivial) (by trivial) (by trivial) (by trivial) e,st.e.at fun o e=>keep _ o (by trivial) (by trivial) (by trivial) (by trivial) e,st.f.at fun o e=>keep _ o (by trivial) (by trivial) (by trivial) (by trivial) e⟩ T' sz fun c o d1 _ d3 d4 d5 e=>keep c o d1 d3 d4 d5 e
theorem Au {Q:Option Value→Shared→Prop} (hl:l1<n∧l2<n∧l3<n) (st:Z3 s.heap n l1 l2 l3 xs ys zs k) (hh:A.handled=none) (hend:xs.size=k)
 (hQ:∀h' tk,(∀(c:Nat) o,c≠n+5→c≠n→s.heap.get? c=some o→h'.get? c=some o)→Q none { s with heap:=h',toks:=tk }) :
 wpAny (model prog w) A (pyNext (.ref (n+5))) Q E s:=by
 obtain ⟨f0,bb,hz,hf⟩:aV fun f0 bb=>jC s.heap (n+5) (n+3) (n+4) f0 bb∧((f0=.none∧bb=false)∨∃T:Nat,f0=rawInt T∧∃o,s.heap.get? T=some o):=by
  rcases st.z with ⟨hz,_⟩ | ⟨T,o,bb,hz,hT,hn⟩
  ·exact ⟨_,_,hz,.inl ⟨rfl,rfl⟩⟩
  ·exact ⟨_,_,hz,.inr ⟨T,rfl,o,hT⟩⟩
 have hT':s.TypeIs (.ref (n+5)) "zip" := ⟨_,hz,rfl⟩
 unfold pyNext
 refine wpAny_bind (wpAny_attempt (wpAny_callSpecial?_slot (name:=Str.ofString "__next__") hT' F.slot_zip_next (wpAny_call_entry F.slot_zip_next hT' F.entry_zip_next
  (Dj hh hl.1 hz hf st.t st.a st.d hend fun h' e tk hk he=>?_) (F.args_zip_next_1 _))))
 obtain ⟨o,ho,hc⟩:=he
 exact wpAny_bind (wpAny_isInstance (T := "StopIteration") (b:=true) ⟨o,ho,hc⟩ isSubtype_stop (wpAny_pure (hQ _ tk hk)))
end
section
variable {prog:Program}{w:World}{A:Around}{E:Value→Shared→Prop}{R:Result→Shared→Prop}
variable {n l1 l2 l3:Nat}{xs ys zs:Array Value}
def yK (h:Heap) (ts:List Nat) (xs ys zs:Array Value):Prop:=∀(i:Nat) t,ts[i]?=some t→gf fun x y v=>xs[i]?=some x∧ys[i]?=some y∧zs[i]?=some v∧cp h t x y v
theorem zK (hl:l1<n∧l2<n∧l3<n) (hh:A.handled=none) (ly:ys.size=xs.size) (lz:zs.size=xs.size) (hz:xs.size≤4000) :
 ∀(r i:Nat) (ts:List Nat) (c:Nat) (s:Shared),xs.size - i=r→i≤xs.size→Z3 s.heap n l1 l2 l3 xs ys zs i→n+6<s.heap.objs.size→ts.length=i→(∀t∈ts,n+6<t)→ts.Nodup→yK s.heap ts xs ys zs→
   s.heap.get? (n+6)=some { cls:=.type "list",data:=.seq (ts.map Value.ref).toArray c }→
   (∀h' tk ts' c',ts'.length=xs.size→(∀t∈ts',n+6<t)→ts'.Nodup→yK h' ts' xs ys zs→h'.get? (n+6)=some { cls:=.type "list",data:=.seq (ts'.map Value.ref).toArray c' }→(∀(c:Nat) o,c<n→s.heap.get? c=some o→h'.get? c=some o)→(∀t∈ts',t∉ts→s.heap.get? t=none)→R (.ok (.ret .none)) { s with heap:=h',toks:=tk })→
   codeAny (model prog w) A (.builtin "list.extend.loop" ⟨[.ref (n+6),.ref (n+5),.none],[]⟩) R s:=by
 intro r
 induction r with
 | zero=>
  intro i ts c s hr hi st hs lt ht nd tr hS hR
  have e:i=xs.size:=by trivial
  refine codeAny_builtin F.entry_extend_loop ?_
  rw [A.under_plainId F.plain_extend_loop]
  show wpAny _ _ (pyNext (Value.ref (n+5)) >>= _) _ _ _
  refine wpAny_bind (Au hl st (by simpa using hh) e.symm fun h' tk keep=>?_)
  refine wpAny_pure (hR h' tk ts c (by trivial) ht nd (fun j t hj=>?_) (keep _ _ (by trivial) (by trivial) hS) (fun b o hb q=>keep b o (by trivial) (by trivial) q) fun t h1 h2=>absurd h1 h2)
  obtain ⟨x,y,v,a1,a2,a3,a4⟩:=tr j t hj
  have:=ht t (List.mem_of_getElem? hj)
  exact ⟨x,y,v,a1,a2,a3,keep _ _ (by trivial) (by trivial) a4⟩
 | succ r ih=>
  intro i ts c s hr hi st hs lt ht nd tr hS hR
  have lt':i<xs.size:=by trivial
  have hx:xs[i]?=some xs[i]:=Array.getElem?_eq_getElem (by trivial)
  have hy:ys[i]?=some ys[i]:=Array.getElem?_eq_getElem (by trivial)
  have hv:zs[i]?=some zs[i]:=Array.getElem?_eq_getElem (by trivial)
  refine codeAny_builtin F.entry_extend_loop ?_
  rw [A.under_plainId F.plain_extend_loop]
  show wpAny _ _ (pyNext (Value.ref (n+5)) >>= _) _ _ _
  refine wpAny_bind (zF hl hs st (by simpa using hh) hx hy hv fun h' tk st' T' sz keep=>?_)
  have hS':=keep _ _ (by trivial) (by trivial) (by trivial) (by trivial) (by trivial) hS
  show wpAny _ _ (updateSeq (n+6) (·.push (.ref s.heap.objs.size)) >>= _) _ _ _
  refine wpAny_bind (wpAny_updateSeq (s:={ s with heap:=h',toks:=tk }) hS' rfl ?_)
  have e2:=Heap.get?_update_self (Obj.mapSeq (·.push (Value.ref s.heap.objs.size))) hS' rfl
  obtain ⟨c2,e3⟩:∃c2,(h'.update (n+6) (Obj.mapSeq (·.push (Value.ref s.heap.objs.size)))).get? (n+6)=some { cls:=.type "list",data:=.seq ((ts++[s.heap.objs.size]).map Value.ref).toArray c2 }:=by
   rw [e2]
   simp only [Obj.mapSeq,List.map_append,List.map_cons,List.map_nil,List.push_toArray]
   exact ⟨()⟩
  have oth:∀(b:Nat) o,b≠n+6→h'.get? b=some o→(h'.update (n+6) (Obj.mapSeq (·.push (Value.ref s.heap.objs.size)))).get? b=some o:=fun b o hb q=>(Heap.get?_update_other _ _ (aH (Ne.symm hb))).trans q
  have fr:s.heap.get? s.heap.objs.size=none:=Heap.get?_none_of_le (Nat.le_refl _)
  have old:∀t∈ts,t<s.heap.objs.size:=fun t hm=>by
   obtain ⟨j,hj⟩:=List.getElem?_of_mem hm
   obtain ⟨_,_,_,_,_,_,a4⟩:=tr j t hj
   exact Heap.lt_size a4
  refine wpAny_pure ⟨plainId_quiet F.plain_extend_loop _,ih (i+1) (ts++[s.heap.objs.size]) c2 _ (by trivial) (by trivial) (st'.keep hl oth) (by show n+6<(h'.update _ _).objs.size;rw [Heap.size_update,sz];trivial) (by rw [List.length_append,lt];rfl) (fun t hm=>?_) (List.nodup_append.mpr ⟨nd,by simp,fun a ha b hb e=>?_⟩) (fun j t hj=>?_) e3 fun h3 tk3 ts3 c3 l3' g3 n3 tr3 e4 k3 f3=>hR h3 tk3 ts3 c3 l3' g3 n3 tr3 e4 (fun b o hb q=>k3 b o hb (oth b o (by trivial) (keep b o (by trivial) (by trivial) (by trivial) (by trivial) (by trivial) q))) fun t h1 h2=>?_⟩
  ·rcases List.mem_append.mp hm with hm | hm
   ·exact ht t hm
   ·rw [List.mem_singleton.mp hm];exact hs
  ·rw [List.mem_singleton] at hb
   have:=old a ha
   rw [e,hb] at this
   exact absurd this (Nat.lt_irrefl _)
  ·by_cases hjl:j<ts.length
   ·rw [List.getElem?_append_left hjl] at hj
    obtain ⟨x,y,v,a1,a2,a3,a4⟩:=tr j t hj
    have:=ht t (List.mem_of_getElem? hj)
    exact ⟨x,y,v,a1,a2,a3,oth _ _ (by trivial) (keep _ _ (by trivial) (by trivial) (by trivial) (by trivial) (by trivial) a4)⟩
   ·have ej:j=i:=by
     have:=(List.getElem?_eq_some_iff.mp hj).1
     rw [List.length_append] at this
     simp at this
     trivial
    subst ej
    rw [List.getElem?_append_right (by trivial),lt,Nat.sub_self] at hj
    simp at hj
    subst hj
    exact ⟨_,_,_,hx,hy,hv,oth _ _ (by trivial) T'⟩
  ·by_cases hm:t=s.heap.objs.size
   ·rw [hm];exact fr
   ·have q:=f3 t h1 (fun z=>by
     rcases List.mem_append.mp z with z | z
     ·exact h2 z
     ·exact hm (List.mem_singleton.mp z))
    cases e:s.heap.get? t with
    | none=>rfl
    | some o=>
     have hlt:=Heap.lt_size e
     have g:=g3 t h1
     have:=oth t o (by trivial) (keep t o (by trivial) (by trivial) (by trivial) (by trivial) (by trivial) e)
     rw [show (h'.update (n+6) (Obj.mapSeq (·.push (Value.ref s.heap.objs.size)))).get? t=none from q] at this
     cases this
end
theorem vS:typeLookup (.type "zip") "__len__" = pure none:=am_miss_of_fast (by kernel_rfl)
theorem uC:typeLookup (.type "zip") "__length_hint__" = pure none:=am_miss_of_fast (by kernel_rfl)
theorem tE (a b c:Value):checkTypeCall "zip" ⟨[a,b,c],[]⟩=pure ():=by kernel_rfl
theorem uM (a b c:Value):checkBuiltinCall "zip.__new__" ⟨[.type "zip",a,b,c],[]⟩=pure ():=by kernel_rfl
theorem pC (a b c d:Value):argsOk "object.__init__" ⟨[a,b,c,d],[]⟩:=by
 unfold argsOk;rw [signature?_of (id := "object.__init__") (n:=['_','_','t','i','n','i','_','_']) (o:=['t','c','e','j','b','o']) (by kernel_rfl) F.owner_object];kernel_rfl
abbrev xA (h:Heap) (l1:Addr):Heap:=h.push { cls:=.type "list_iterator",data:=.fields #[.ref l1,.int 0 0] }
abbrev xU (h:Heap) (l1 l2:Addr):Heap:=(xA h l1).push { cls:=.type "list_iterator",data:=.fields #[.ref l2,.int 0 0] }
abbrev BS (h:Heap) (l1 l2 l3:Addr):Heap:=(xU h l1 l2).push { cls:=.type "list_iterator",data:=.fields #[.ref l3,.int 0 0] }
abbrev Cd (h:Heap) (l1 l2 l3:Addr):Heap:=(BS h l1 l2 l3).push { cls:=.type "tuple",data:=.seq #[.ref h.objs.size,.ref (xA h l1).objs.size,.ref (xU h l1 l2).objs.size] }
abbrev Cg (h:Heap) (l1 l2 l3:Addr):Heap:=(Cd h l1 l2 l3).push { cls:=.type "tuple",data:=.seq #[.none,.none,.none] }
abbrev rh (h:Heap) (l1 l2 l3:Addr):Heap:=(Cg h l1 l2 l3).push { cls:=.type "zip",data:=.fields #[.none,.bool false,.bool false,.ref (BS h l1 l2 l3).objs.size,.ref (Cd h l1 l2 l3).objs.size] }
set_option maxHeartbeats 8000000 in
theorem CQ (l1 l2 l3:Addr) (xs ys zs:Array Value) :
 Meets (Builtin.«zip.__new__» ⟨[.type "zip",.ref l1,.ref l2,.ref l3],[]⟩) (fun _ R s=>bP s.heap l1 xs true∧bP s.heap l2 ys true∧bP s.heap l3 zs true∧R (.ok (.ret (.ref (Cg s.heap l1 l2 l3).objs.size))) { s with heap:=rh s.heap l1 l2 l3 }):=
 .of_wp fun prog w A R s h=>by
  obtain ⟨hp,g,d,tk,os⟩:=s;obtain ⟨q1,q2,q3,h⟩:=h
  have hsub:=sub_zip
  have L2':bP (Shared.heap ⟨xA hp l1,g,d,tk,os⟩) l2 ys true:=bP.at q2 fun o e=>Heap.get?_push_of_some _ e
  have L3':bP (Shared.heap ⟨xU hp l1 l2,g,d,tk,os⟩) l3 zs true:=bP.at q3 fun o e=>Heap.get?_push_of_some _ (Heap.get?_push_of_some _ e)
  have g1:Heap.IsList (Shared.heap ⟨hp,g,d,tk,os⟩) l1 xs:=q1
  have g2:Heap.IsList (Shared.heap ⟨xA hp l1,g,d,tk,os⟩) l2 ys:=L2'
  have g3:Heap.IsList (Shared.heap ⟨xU hp l1 l2,g,d,tk,os⟩) l3 zs:=L3'
  wp_walk using wpAny_pyIter_list g1,wpAny_pyIter_list g2,wpAny_pyIter_list g3
  exact ⟨(),h⟩
section
variable {prog:Program}{w:World}{A:Around}{E:Value→Shared→Prop}{s:Shared}
theorem Af {l1 l2 l3:Addr}{xs ys zs:Array Value}{Q:Value→Shared→Prop} (q1:bP s.heap l1 xs true) (q2:bP s.heap l2 ys true) (q3:bP s.heap l3 zs true)
 (h:∀h',Z3 h' s.heap.objs.size l1 l2 l3 xs ys zs 0→h'.objs.size=s.heap.objs.size+6→(∀c o,s.heap.get? c=some o→h'.get? c=some o)→IsZip h' (s.heap.objs.size+5) (s.heap.objs.size+3) (s.heap.objs.size+4) .none→Q (.ref (s.heap.objs.size+5)) { s with heap:=h' }) :
 wpAny (model prog w) A (call (.type "zip") [.ref l1,.ref l2,.ref l3]) Q E s:=by
 refine callType_new F.called_zip (by decide) (tE _ _ _) (uM _ _ _) (fun obj=>pC obj _ _ _) F.entry_zip_new (CQ l1 l2 l3 xs ys zs) ⟨q1,q2,q3,?_⟩
 have s1:(xA s.heap l1).objs.size=s.heap.objs.size+1:=Heap.size_push ..
 have s2:(xU s.heap l1 l2).objs.size=s.heap.objs.size+2:=by rw [Heap.size_push,s1]
 have s3:(BS s.heap l1 l2 l3).objs.size=s.heap.objs.size+3:=by rw [Heap.size_push,s2]
 have s4:(Cd s.heap l1 l2 l3).objs.size=s.heap.objs.size+4:=by rw [Heap.size_push,s3]
 have s5:(Cg s.heap l1 l2 l3).objs.size=s.heap.objs.size+5:=by rw [Heap.size_push,s4]
 have s6:(rh s.heap l1 l2 l3).objs.size=s.heap.objs.size+6:=by rw [Heap.size_push,s5]
 have g6:(rh s.heap l1 l2 l3).get? (Cg s.heap l1 l2 l3).objs.size=some _:=Heap.get?_push_size _ rfl
 have g5:(rh s.heap l1 l2 l3).get? (Cd s.heap l1 l2 l3).objs.size=some _:=Heap.get?_push_of_some _ (Heap.get?_push_size _ rfl)
 have g4:(rh s.heap l1 l2 l3).get? (BS s.heap l1 l2 l3).objs.size=some _:=Heap.get?_push_of_some _ (Heap.get?_push_of_some _ (Heap.get?_push_size _ rfl))
 have g3:(rh s.heap l1 l2 l3).get? (xU s.heap l1 l2).objs.size=some _:=Heap.get?_push_of_some _ (Heap.get?_push_of_some _ (Heap.get?_push_of_some _ (Heap.get?_push_size _ rfl)))
 have g2:(rh s.heap l1 l2 l3).get? (xA s.heap l1).objs.size=some _:=Heap.get?_push_of_some _ (Heap.get?_push_of_some _ (Heap.get?_push_of_some _ (Heap.get?_push_of_some _ (Heap.get?_push_size _ rfl))))
 have g1:(rh s.heap l1 l2 l3).get? s.heap.objs.size=some _:=Heap.get?_push_of_some _ (Heap.get?_push_of_some _ (Heap.get?_push_of_some _ (Heap.get?_push_of_some _ (Heap.get?_push_of_some _ (Heap.get?_push_size _ rfl)))))
 have up:∀c o,s.heap.get? c=some o→(rh s.heap l1 l2 l3).get? c=some o:=fun c o x=>Heap.get?_push_of_some _ (Heap.get?_push_of_some _ (Heap.get?_push_of_some _ (Heap.get?_push_of_some _ (Heap.get?_push_of_some _ (Heap.get?_push_of_some _ x)))))
 show _∧_
 rw [s3,s4,s5] at g6
 rw [s1,s2,s3] at g4
 rw [s4] at g5
 rw [s2] at g3
 rw [s1] at g2
 rw [s5]
 exact ⟨⟨_,g6,rfl⟩,h _ ⟨.inl ⟨g6,_,_,_,g5⟩,g4,⟨_,g1,rfl,rfl⟩,⟨_,g2,rfl,rfl⟩,⟨_,g3,rfl,rfl⟩,q1.at fun o e=>up _ o e,q2.at fun o e=>up _ o e,q3.at fun o e=>up _ o e⟩ s6 up g6⟩
set_option maxHeartbeats 1000000 in
theorem uA {n l1 l2 l3:Nat}{xs ys zs:Array Value}{Q:Value→Shared→Prop} (hl:l1<n∧l2<n∧l3<n) (st:Z3 s.heap n l1 l2 l3 xs ys zs 0) (hz:IsZip s.heap (n+5) (n+3) (n+4) .none) (hs:s.heap.objs.size=n+6) (hh:A.handled=none) (ly:ys.size=xs.size) (lz:zs.size=xs.size) (h4:xs.size≤4000)
 (h:∀h' tk ts' c',ts'.length=xs.size→(∀t∈ts',n+6<t)→ts'.Nodup→yK h' ts' xs ys zs→h'.get? (n+6)=some { cls:=.type "list",data:=.seq (ts'.map Value.ref).toArray c' }→(∀(c:Nat) o,c<n→s.heap.get? c=some o→h'.get? c=some o)→Q (.ref (n+6)) { s with heap:=h',toks:=tk }) :
 wpAny (model prog w) A (call (.type "list") [.ref (n+5)]) Q E s:=by
 refine callType_codes (Q₁:=fun obj s₁=>obj=.ref s.heap.objs.size∧s₁={ s with heap:=s.heap.push { cls:=.type "list",data:=.seq #[] } }) F.called_list (F.typeCall_list_1 _) F.entry_list_init (code_list_new _ ⟨rfl,rfl⟩) fun obj s₁ h₁=>?_
 obtain ⟨rfl,rfl⟩:=h₁
 have hS:(s.heap.push { cls:=.type "list",data:=.seq #[] }).get? (n+6)=some { cls:=.type "list",data:=.seq #[] }:=by rw [←hs];exact Heap.get?_push_size _ rfl
 rw [hs]
 refine ⟨⟨_,hS,rfl⟩,F.args_list_init_2 _ _,?_⟩
 have st1:Z3 (s.heap.push { cls:=.type "list",data:=.seq #[] }) n l1 l2 l3 xs ys zs 0:=st.keep hl fun c o _ e=>Heap.get?_push_of_some _ e
 show wpAny _ _ (do let old ←Builtin.List.listItems (.ref (n+6));Builtin.List.listUpdate (.ref (n+6)) (fun _=>#[]);letGo old.toList.reverse;Builtin.List.listExtendWith (.ref (n+6)) (.ref (n+5)) .none) _ _ _
 refine wpAny_bind ?_
 unfold Builtin.List.listItems
 refine wpAny_bind (wpAny_seqItems hS rfl (wpAny_pure ?_))
 show wpAny _ _ (updateSeq (n+6) (fun _=>#[]) >>= fun _=>letGo (#[]:Array Value).toList.reverse >>= fun _=>Builtin.List.listExtendWith (.ref (n+6)) (.ref (n+5)) .none) _ _ _
 refine wpAny_bind (wpAny_updateSeq hS rfl ?_)
 have hS₂:=Heap.get?_update_self (Obj.mapSeq (fun _=>(#[]:Array Value))) hS rfl
 have oth:∀(b:Nat) o,b≠n+6→(s.heap.push { cls:=.type "list",data:=.seq #[] }).get? b=some o→((s.heap.push { cls:=.type "list",data:=.seq #[] }).update (n+6) (Obj.mapSeq (fun _=>(#[]:Array Value)))).get? b=some o:=
  fun b o hb e=>(Heap.get?_update_other _ _ (aH (Ne.symm hb))).trans e
 refine wpAny_bind (wpAny_letGo ?_)
 have st2:=st1.keep hl oth
 have hz2:=oth _ _ (by trivial) (Heap.get?_push_of_some { cls:=.type "list",data:=.seq #[] } hz)
 unfold Builtin.List.listExtendWith
 refine wpAny_bind (wpAny_typeOf (T := "zip") ⟨_,hz2,rfl⟩ ?_)
 have h1:Builtin.List.listSameRef (.ref (n+6)) (.ref (n+5))=false:=by simp [Builtin.List.listSameRef]
 have h2:(Value.type "zip" == Value.type "list")=false:=by decide
 have h3:(Value.type "zip" == Value.type "tuple")=false:=by decide
 simp only [h1,h2,h3,Bool.or_false,Bool.false_eq_true,if_false]
 refine wpAny_bind (wpAny_pyIter_zip hz2 ?_)
 refine wpAny_bind (wpAny_holding ?_)
 unfold Builtin.List.listLengthHint
 refine wpAny_bind (wpAny_specialOf (T := "zip") ⟨_,hz2,rfl⟩ vS ?_)
 refine wpAny_ite_split (fun hab=>absurd hab (by decide)) (fun _=>?_)
 refine wpAny_ite_split (fun hab=>absurd hab (by decide)) (fun _=>?_)
 refine wpAny_bind (wpAny_specialOf (T := "zip") ⟨_,hz2,rfl⟩ uC ?_)
 refine wpAny_pure ?_
 simp only [Bool.true_or,if_true]
 refine wpAny_bind (wpAny_rule ?_)
 refine wpAny_bind ?_
 show wpAny _ _ (updateSeq (n+6) (·.push .none) >>= fun _=>updateSeq (n+6) (·.pop)) _ _ _
 refine wpAny_bind (wpAny_updateSeq hS₂ rfl ?_)
 have hS₃:=Heap.get?_update_self (Obj.mapSeq (·.push Value.none)) hS₂ rfl
 refine wpAny_updateSeq (hz:=by seq_fits) hS₃ rfl ?_
 have hS₄:=Heap.get?_update_self (Obj.mapSeq (·.pop)) hS₃ rfl
 obtain ⟨c4,e4⟩:∃c4,((((s.heap.push { cls:=.type "list",data:=.seq #[] }).update (n+6) (Obj.mapSeq (fun _=>(#[]:Array Value)))).update (n+6) (Obj.mapSeq (·.push Value.none))).update (n+6) (Obj.mapSeq (·.pop))).get? (n+6)=some { cls:=.type "list",data:=.seq (([]:List Nat).map Value.ref).toArray c4 }:=by
  rw [hS₄]
  simp only [Obj.mapSeq,List.map_nil]
  exact ⟨()⟩
 have oth4:∀(b:Nat) o,b≠n+6→(s.heap.push { cls:=.type "list",data:=.seq #[] }).get? b=some o→((((s.heap.push { cls:=.type "list",data:=.seq #[] }).update (n+6) (Obj.mapSeq (fun _=>(#[]:Array Value)))).update (n+6) (Obj.mapSeq (·.push Value.none))).update (n+6) (Obj.mapSeq (·.pop))).get? b=some o:=
  fun b o hb e=>(Heap.get?_update_other _ _ (aH (Ne.symm hb))).trans ((Heap.get?_update_other _ _ (aH (Ne.symm hb))).trans (oth b o hb e))
 refine wpAny_pure ⟨plainId_quiet F.plain_extend_loop _,?_⟩
 refine zK hl (by simpa using hh) ly lz h4 xs.size 0 [] c4 _ rfl (Nat.zero_le _) (st1.keep hl oth4) (by show n+6<Array.size _;rw [Heap.size_update,Heap.size_update,Heap.size_update,Heap.size_push,hs];trivial) rfl (fun t ht=>(by cases ht)) List.nodup_nil (fun j t hj=>(by simp at hj)) e4 fun h' tk ts' c' l g nd tr e k f=>?_
 exact ⟨rfl,h h' tk ts' c' l g nd tr e fun c o hc q=>k c o hc (oth4 c o (by trivial) (Heap.get?_push_of_some _ q))⟩
end
def tO (H:Hp) (N:Addr→Option HO):Hp:=fun b=>match N b with | some o=>some o | none=>H b
theorem qx {H:Hp}{N:Addr→Option HO}{b:Addr}{o:HO} (h:N b=some o):tO H N b=some o:=by unfold tO;rw [h]
theorem mX {H:Hp}{N:Addr→Option HO}{b:Addr} (h:N b=none):tO H N b=H b:=by unfold tO;rw [h]
section
variable {X:Cx}{pins:List (Addr×Obj)}{σ:St}{H:Hp}{s:Shared}{h':Heap}
theorem aa.many {t':Nat}{N:Addr→Option HO} (I:aa X pins σ H s) (k:∀b u,s.heap.get? b=some u→h'.get? b=some u)
 (hN:∀b o,N b=some o→s.heap.objs.size≤b) (new:∀b o,N b=some o→bc X.prog X.w (tO H N) h' b o):aa X pins σ (tO H N) { s with heap:=h',toks:=t' }:=by
 have old:∀b,b<s.heap.objs.size→N b=none:=fun b hb=>by
  cases e:N b with
  | none=>rfl
  | some o=>exact absurd (Nat.lt_of_lt_of_le hb (hN b o e)) (Nat.lt_irrefl _)
 have hs:∀b u,H b=some u→tO H N b=some u:=fun b u e=>by rw [mX (old b (I.hok.lt e))];exact e
 refine I.step (g':=s.gens) (d':=s.drawn) (ch:=[]) (fun b hb=>(by cases hb)) (fun b o _ _ _ e _=>k b o e) (fun b o _ _ _ e _=>⟨o.slots,k b o e⟩) (fun b o _ e n=>?_)
  (fun b o _ e=>⟨o,k b o e⟩) (fun b xs e=>hs b _ e) (fun b o u e=>hs b _ e) (fun b ps e=>⟨#[],by rw [hs b _ e];simp⟩) (fun m hm=>?_) (fun b u e=>?_) I.bare
 ·rw [mX (old b (Heap.lt_size e))];exact n
 ·obtain ⟨o,es,ep,ho,r⟩:=hm
  exact ⟨o,es,ep,k _ o ho,r⟩
 ·cases hb:N b with
  | some o=>
   rw [qx hb] at e
   cases e
   exact new b _ hb
  | none=>
   rw [mX hb] at e
   exact (I.hok b u e).stay (fun c v hc q=>k c v q) (fun c q=>hs c _ q) fun c xs q=>hs c _ q
end
def Du (K:PySem.W.Frag) (ta:TA):TE:=fun σ H Q=>ta σ H fun vs H1=>xq fun (a1 a2 a3:Addr) (xs ys zs:List V)=>vs=[.ref a1,.ref a2,.ref a3]∧ar K H1 a1 xs∧ar K H1 a2 ys∧ar K H1 a3 zs∧ys.length=xs.length∧zs.length=xs.length∧xs.length≤4000∧
 ∀(l:Addr) (ts:List Addr) (H':Hp),ae H1 H'→H1 l=none→H' l=some (.lst (ts.map V.ref))→ts.length=xs.length→(∀(i:Nat) t,ts[i]?=some t→gf fun x y z=>xs[i]?=some x∧ys[i]?=some y∧zs[i]?=some z∧H' t=some (.tup [x,y,z]))→Q (.ref l) H'
section
variable {X:Cx}{K:PySem.W.Frag}{a b c:Expr}{ta:TA}{p1 p2 p3 p4:Pos}
theorem Am (hc:X.calm=true) (hg1:Gl X "list") (hm1:X.mg "list" = none) (hg2:Gl X "zip") (hm2:X.mg "zip" = none) (ha:PA X [a,b,c] ta) (ek:X.K=K:=by rfl) (hs:starEach [a,b,c] X.env=[(false,eval a X.env),(false,eval b X.env),(false,eval c X.env)]:=by rfl) (hs2:starEach [b,c] X.env=[(false,eval b X.env),(false,eval c X.env)]:=by rfl)
 (hs3:starEach [Expr.Call (.Name "zip" p2) [a,b,c] [] p3] X.env=[(false,eval (Expr.Call (.Name "zip" p2) [a,b,c] [] p3) X.env)]:=by rfl) :
 PE X (.Call (.Name "list" p1) [.Call (.Name "zip" p2) [a,b,c] [] p3] [] p4) (Du K ta):=by
 subst ek
 intro pins s σ H Q I h
 refine wpAny_Call_Name_kw (gy I hg1 hm1 gH ?_ (by decide) (by decide))
 refine PyProof.Rows.callWith_type1 ?_ hs3 rfl
 rw [hs3]
 show wpAny _ _ (spliced ((false,eval (Expr.Call (.Name "zip" p2) [a,b,c] [] p3) X.env) :: [])) _ _ s
 refine Calls.spliced_cons ?_
 refine Call_ (gy I hg2 hm2 wL (PyProof.Rows.callWith_type1 (aK (ha p3 pins s σ H _ I h) fun us s1 ⟨vs,H1,I1,r1,q1⟩=>?_) (by rw [hs,hs2]) (by rw [hs2];rfl)))
 obtain ⟨a1,a2,a3,xs,ys,zs,rfl,p1,p2,p3,ly,lz,h4,q⟩:=q1
 obtain ⟨u1,u2,u3,rfl,ru1,ru2,ru3⟩:gf fun u1 u2 u3=>us=[u1,u2,u3]∧aO (.ref a1) u1∧aO (.ref a2) u2∧aO (.ref a3) u3:=by
  cases r1 with
  | cons r1 r=>
  cases r with
  | cons r2 r=>
  cases r with
  | cons r3 r=>
  cases r
  exact ⟨_,_,(),r1,r2,r3⟩
 obtain rfl:u1=.ref a1:=ru1
 obtain rfl:u2=.ref a2:=ru2
 obtain rfl:u3=.ref a3:=ru3
 obtain ⟨its1,rv1,k1⟩:=I1.seqC (c:=true) p1
 obtain ⟨its2,rv2,k2⟩:=I1.seqC (c:=true) p2
 obtain ⟨its3,rv3,k3⟩:=I1.seqC (c:=true) p3
 have d1:=k1.lt
 have d2:=k2.lt
 have d3:=k3.lt
 have l1:=rv1.length
 have l2:=rv2.length
 have l3:=rv3.length
 refine Af k1 k2 k3 fun h' st sz hk hz=>Calls.spliced_nil ?_
 refine uA (s:={ s1 with heap:=h' }) ⟨d1,d2,d3⟩ st hz sz (I1.ok.hd hc) (by simp;trivial) (by simp;trivial) (by simp;trivial) fun h2 tk ts c' lt gt nd tr hL kp=>?_
 have lts:ts.length=xs.length:=by rw [lt];simp [l1]
 let N:Addr→Option HO:=fun b=>if b=s1.heap.objs.size+6 then some (.lst (ts.map V.ref)) else if b∈ts then some (.tup [xs.getD (ts.idxOf b) .non,ys.getD (ts.idxOf b) .non,zs.getD (ts.idxOf b) .non]) else none
 have N6:N (s1.heap.objs.size+6)=some (.lst (ts.map V.ref)):=if_pos rfl
 have Nt:∀(i:Nat) t,ts[i]?=some t→N t=some (.tup [xs.getD i .non,ys.getD i .non,zs.getD i .non]):=fun i t hi=>by
  have hm:=List.mem_of_getElem? hi
  have hix:ts.idxOf t=i:=by
   obtain ⟨hj,e⟩:=List.getElem?_eq_some_iff.mp hi
   have h1:ts.idxOf t<ts.length:=List.idxOf_lt_length_of_mem hm
   exact iq nd h1 hj (by rw [List.getElem_idxOf h1,e])
  show (if _ then _ else _)=_
  rw [if_neg (fun z=>absurd (gt t hm) (by rw [z];exact Nat.lt_irrefl _)),if_pos hm,hix]
 have k9:∀b u,s1.heap.get? b=some u→h2.get? b=some u:=fun b u e=>kp b u (Heap.lt_size e) (hk b u e)
 have vals:∀ts:List Nat,aC (ts.map V.ref) (ts.map Value.ref):=fun ts=>by
  induction ts with
  | nil=>exact .nil
  | cons t r ih=>exact .cons rfl ih
 have get':∀{xs:List V}{i:Nat},i<xs.length→xs[i]?=some (xs.getD i .non):=fun {xs i} hi=>by simp [List.getElem?_eq_getElem hi]
 have I3:=I1.many (h':=h2) (t':=tk) (N:=N) k9 (fun b o e=>?_) (fun b o e=>?_)
 ·refine ⟨.ref (s1.heap.objs.size+6),tO H1 N,I3,rfl,q _ ts _ (fun b u e=>?_) (I1.hok.fresh (Nat.le_add_right _ _)) (qx N6) lts fun i t hi=>?_⟩
  ·rw [mX]
   ·exact e
   ·have:=I1.hok.lt e
    show (if _ then _ else _)=_
    rw [if_neg (fun z=>absurd this (by rw [z];exact Nat.not_lt.mpr (Nat.le_add_right _ _))),if_neg fun hm=>?_]
    exact absurd this (Nat.not_lt.mpr (Nat.le_trans (Nat.le_add_right _ _) (Nat.le_of_lt (gt b hm))))
  ·have hi':i<xs.length:=by rw [←lts];exact (List.getElem?_eq_some_iff.mp hi).1
   exact ⟨_,_,_,get' hi',get' (by trivial),get' (by trivial),qx (Nt i t hi)⟩
 ·by_cases h6:b=s1.heap.objs.size+6
  ·rw [h6];exact Nat.le_add_right _ _
  ·have e':(if b∈ts then some (HO.tup [xs.getD (ts.idxOf b) .non,ys.getD (ts.idxOf b) .non,zs.getD (ts.idxOf b) .non]) else none)=some o:=by rw [←e];exact (if_neg h6).symm
   by_cases hm:b∈ts
   ·exact Nat.le_trans (Nat.le_add_right _ _) (Nat.le_of_lt (gt b hm))
   ·rw [if_neg hm] at e';cases e'
 ·by_cases h6:b=s1.heap.objs.size+6
  ·subst h6
   rw [N6] at e
   cases e
   exact ⟨by rw [List.length_map,lts,sizeLine_eq];trivial,ts.map Value.ref,c',vals ts,hL⟩
  ·have e':(if b∈ts then some (HO.tup [xs.getD (ts.idxOf b) .non,ys.getD (ts.idxOf b) .non,zs.getD (ts.idxOf b) .non]) else none)=some o:=by rw [←e];exact (if_neg h6).symm
   by_cases hm:b∈ts
   ·rw [if_pos hm] at e'
    cases e'
    have h1:ts.idxOf b<ts.length:=List.idxOf_lt_length_of_mem hm
    obtain ⟨x,y,v,a1,a2,a3,a4⟩:=tr (ts.idxOf b) b (by rw [List.getElem?_eq_getElem h1,List.getElem_idxOf h1])
    obtain ⟨x',ex,rx⟩:=rv1.get (get' (xs:=xs) (i:=ts.idxOf b) (by trivial))
    obtain ⟨y',ey,ry⟩:=rv2.get (get' (xs:=ys) (i:=ts.idxOf b) (by trivial))
    obtain ⟨v',ev,rv⟩:=rv3.get (get' (xs:=zs) (i:=ts.idxOf b) (by trivial))
    have b1:x'=x:=Option.some.inj (ex.symm.trans (by simpa using a1))
    have b2:y'=y:=Option.some.inj (ey.symm.trans (by simpa using a2))
    have b3:v'=v:=Option.some.inj (ev.symm.trans (by simpa using a3))
    subst b1 b2 b3
    exact ⟨by show 3≤sizeLine;rw [sizeLine_eq];decide,[x',y',v'],.cons rx (.cons ry (.cons rv .nil)),⟨_,a4,rfl,()⟩,_,a4,rfl⟩
   ·rw [if_neg hm] at e';cases e'
end
theorem sN:typeLookup (.type "list") "keys" = pure none:=am_miss_of_fast (by kernel_rfl)
section
variable {prog:Program}{w:World}{A:Around}{E:Value→Shared→Prop}{s:Shared}
theorem qh {a:Addr}{xs:Array Value}{k:Nat}{name:Str}{Q:Option Value→Shared→Prop} (hmiss:typeLookup (.type "list") name=pure none) (hname:(["__module__", "__name__", "__qualname__", "__doc__", "__annotations__"]:List Str).contains name=false) (hsz:name.length+100≤sizeLine)
 (hx:s.heap.get? a=some { cls:=.type "list",dict:=none,data:=.seq xs k,slots:=#[] }) (hA:A.handled=none)
 (h:∀h' tk,(∀b o,s.heap.get? b=some o→h'.get? b=some o)→Q none { s with heap:=h',toks:=tk }) :
 wpAny (model prog w) A (getAttr? (.ref a) name) Q E s:=by
 obtain ⟨hp,g,d,tk,os⟩:=s
 have hT:∀tk',(⟨hp,g,d,tk',os⟩:Shared).TypeIs (.ref a) "list" := fun _=>⟨_,hx,rfl⟩
 have f1:=sub_AttributeError
 have f3:=F.slot_list_getattribute.lookup
 have f4:=F.slot_list_getattribute.bind (.ref a)
 have f5:=am_list_getattr_none
 unfold getAttr? getAttrBy? getAttrBy
 repeat (any_goals (first | assumption | exact hT _ | ((with_reducible show wpAny _ _ (call (Value.builtin "list.__getattribute__") _ _) _ _ _);refine call_meets F.slot_list_getattribute (hT _) am_entry_list_getattribute (F.args_list_getattribute_2 _ _) (meets_getattribute_miss_list a xs k #[] name _ hmiss hname hsz) ⟨hx,hA,fun h' tk' e hx'=>?_⟩) | wp_step))
 obtain ⟨t',u',he⟩:=hx'.there
 show wpAny _ _ (getattributeRaised _ _ _ _ _ _ _) _ _ _
 unfold getattributeRaised
 repeat (any_goals (first | assumption | wp_step))
 exact h _ _ hx'.keeps
end
section
variable {prog:Program}{w:World}{A:Around}{E:Value→Shared→Prop}{R:Result→Shared→Prop}
variable {l it d:Nat}{vs:Array Value}{ks:List bz}{us:List Value}
def IZ (h:Heap) (vs:Array Value) (ks:List bz) (us:List Value) (it d:Nat):Prop:=∀(i:Nat),i<ks.length→xq fun (T:Nat) (x y:Value) (c:Nat) (sl:Array (Option Value)) (dd:Option Addr)=>vs[i]?=some (.ref T)∧h.get? T=some ⟨.type "tuple",dd,.seq #[x,y] c,sl⟩∧us[i]?=some y∧(∀k,ks[i]?=some k→fH k x=true)∧T≠it∧T≠d
theorem yr (n1:l≠it∧l≠d∧it≠d) (hh:A.handled=none) (lv:vs.size=ks.length) (lu:us.length=ks.length) (nd:ks.Nodup) (hz:ks.length≤4000) :
 ∀(r i:Nat) (tk0:Tok) (s:Shared),ks.length - i=r→i≤ks.length→s.heap.IsListIter it l i→s.heap.IsList l vs→IZ s.heap vs ks us it d→s.heap.DictOf (cV prog w) d ((ks.zip us).take i)→
   (∀h' tk,h'.DictOf (cV prog w) d (ks.zip us)→(∀(c:Nat) o,c≠it→c≠d→s.heap.get? c=some o→h'.get? c=some o)→R (.ok (.ret .none)) { s with heap:=h',toks:=tk })→
   codeAny (model prog w) A (.builtin "dict.update.loop" ⟨[.ref d,.ref it,.int (i:Nat) tk0,.none],[]⟩) R s:=by
 have W:=(Walks.list (prog:=prog) (w:=w) (A:=A.in1) hh it l n1.1 vs)
 intro r
 induction r with
 | zero=>
  intro i tk0 s hr hi st hl pr hD hR
  have e:i=ks.length:=by trivial
  have lz:(ks.zip us).length=ks.length:=by simp [lu]
  rw [e,←lz,List.take_length] at hD
  refine codeAny_builtin gY ?_
  rw [A.under_plainId cJ]
  show wpAny _ _ (pyNext (Value.ref it) >>= _) _ _ _
  refine wpAny_bind (W.done s _ _ (by rw [lv,←e];exact ⟨st,hl⟩) fun h' tk keep=>?_)
  show wpAny _ _ (Builtin.Dict.addKeywords d [] >>= _) _ _ _
  refine wpAny_bind (wpAny_pure (wpAny_pure ?_))
  obtain ⟨o,es,ep,ho,q⟩:=hD
  have kp:∀(c:Nat) o,c≠it→s.heap.get? c=some o→h'.get? c=some o:=fun c o hc e=>keep c o (by simpa using hc) e
  exact hR h' tk ⟨o,es,ep,kp d o (Ne.symm n1.2.2) ho,q⟩ fun c o d1 _ e=>kp c o d1 e
 | succ r ih=>
  intro i tk0 s hr hi st hl pr hD hR
  have lt:i<ks.length:=by trivial
  obtain ⟨T,x,y,c,sl,dd,e1,e2,e3,e4,e5,e6⟩:=pr i lt
  have kv:=e4 ks[i] (List.getElem?_eq_getElem lt)
  refine codeAny_builtin gY ?_
  rw [A.under_plainId cJ]
  show wpAny _ _ (pyNext (Value.ref it) >>= _) _ _ _
  refine wpAny_bind (W.item i s _ _ (by trivial) ⟨st,hl⟩ fun v h' tk pv st' keep=>?_)
  obtain rfl:v=.ref T:=Option.some.inj ((show vs[i]?=some v from pv).symm.trans e1)
  have kp:∀(c:Nat) o,c≠it→s.heap.get? c=some o→h'.get? c=some o:=fun c o hc e=>keep c o (by simpa using hc) e
  have hD':h'.DictOf (cV prog w) d ((ks.zip us).take i):=let ⟨o,es,ep,ho,q⟩:=hD;⟨o,es,ep,kp d o (Ne.symm n1.2.2) ho,q⟩
  have T':=kp T _ e5 e2
  refine wpAny_bind (wpAny_holding (wpAny_bind (wpAny_tryCatch ?_)))
  unfold Builtin.Dict.pairItems
  refine wpAny_bind (wpAny_typeOf (show Shared.TypeIs { s with heap:=h',toks:=tk } (.ref T) "tuple" from ⟨_,T',rfl⟩) ?_)
  rw [if_pos (by decide)]
  refine wpAny_bind (wpAny_seqItems T' rfl (wpAny_pure ?_))
  show wpAny _ _ (holding [x,y] (dictSet d x y)) _ _ _
  have hu:us[i]'(by trivial)=y:=(List.getElem?_eq_some_iff.mp e3).2
  have nk:ks[i]∉((ks.zip us).take i).map (·.1):=by
   rw [List.map_take,vC (by simp [lu])]
   intro q
   obtain ⟨j,hj,e⟩:=List.getElem_of_mem q
   rw [List.length_take] at hj
   rw [List.getElem_take] at e
   have:=iq nd (by trivial) lt e
   trivial
  have lz:((ks.zip us).take i).length≤sizeLine:=by rw [List.length_take,sizeLine_eq];simp;trivial
  refine wpAny_holding (wpAny_dictSet_pairs (k:=ks[i]) kv hD' (hsz:=lz) fun h2 hD2 sb=>?_)
  rw [yG nk] at hD2
  have nx:h2.DictOf (cV prog w) d ((ks.zip us).take (i+1)):=by
   rw [List.take_succ_eq_append_getElem (by simp [lu];trivial)]
   simpa [hu] using hD2
  have k2:∀(c:Nat) o,c≠d→h'.get? c=some o→h2.get? c=some o:=fun c o hc e=>(sb.2 c hc).trans e
  refine wpAny_pure ⟨plainId_quiet cJ _,?_⟩
  have e9:((i:Nat):Int)+1=((i+1:Nat):Int):=by trivial
  show codeAny _ _ (.builtin "dict.update.loop" ⟨[.ref d,.ref it,.int ((i:Nat)+1) 0,.none],[]⟩) _ _
  rw [e9]
  refine ih (i+1) 0 _ (by trivial) lt ?_ ?_ (fun j hj=>?_) nx fun h3 tk3 hD3 k3=>hR h3 tk3 hD3 fun c o a1 a2 e=>k3 c o a1 a2 (k2 c o a2 (kp c o a1 e))
  ·obtain ⟨o,ho,q⟩:=st'.1
   exact ⟨o,k2 _ _ n1.2.2 ho,q⟩
  ·obtain ⟨o,ho,q⟩:=st'.2
   exact ⟨o,k2 _ _ n1.2.1 ho,q⟩
  ·obtain ⟨T,x,y,c,sl,dd,e1,e2,e3,e4,e5,e6⟩:=pr j hj
   exact ⟨T,x,y,c,sl,dd,e1,k2 _ _ e6 (kp _ _ e5 e2),e3,e4,e5,e6⟩
set_option maxHeartbeats 1000000 in
theorem u9 {s:Shared}{Q:Value→Shared→Prop}{c0:Nat} (hl:s.heap.get? l=some { cls:=.type "list",dict:=none,data:=.seq vs c0,slots:=#[] })
 (hh:A.handled=none) (lv:vs.size=ks.length) (lu:us.length=ks.length) (nd:ks.Nodup) (hz:ks.length≤4000)
 (pr:∀(i:Nat),i<ks.length→xq fun (T:Nat) (x y:Value) (c:Nat) (sl:Array (Option Value)) (dd:Option Addr)=>vs[i]?=some (.ref T)∧s.heap.get? T=some ⟨.type "tuple",dd,.seq #[x,y] c,sl⟩∧us[i]?=some y∧(∀k,ks[i]?=some k→fH k x=true))
 (h:∀h' tk,h'.DictOf (cV prog w) s.heap.objs.size (ks.zip us)→(∀c o,s.heap.get? c=some o→h'.get? c=some o)→Q (.ref s.heap.objs.size) { s with heap:=h',toks:=tk }) :
 wpAny (model prog w) A (call (.type "dict") [.ref l]) Q E s:=by
 refine callType_codes (Q₁:=fun obj s₁=>obj=.ref s.heap.objs.size∧s₁={ s with heap:=s.heap.push { cls:=.type "dict",data:=.dict #[] } }) F.kt_called_dict (F.kt_typeCall_dict_1 _) F.entry_dict_init (kt_code_dict_new _ ⟨rfl,rfl⟩) ?_
 rintro obj s₁ ⟨rfl,rfl⟩
 have hnew:(s.heap.push { cls:=.type "dict",data:=.dict #[] }).DictOf (cV prog w) s.heap.objs.size []:=Heap.DictOf.new s.heap
 have up:∀c o,s.heap.get? c=some o→(s.heap.push { cls:=.type "dict",data:=.dict #[] }).get? c=some o:=fun c o e=>Heap.get?_push_of_some _ e
 have ne:∀c o,s.heap.get? c=some o→c≠s.heap.objs.size:=fun c o e=>Nat.ne_of_lt (Heap.lt_size e)
 have hl':=up _ _ hl
 refine ⟨hnew.typeIs,F.args_dict_init_2 _ _,?_⟩
 unfold Builtin.«dict.__init__»
 refine wpAny_bind ?_
 unfold Builtin.Dict.selfAndRest
 refine wpAny_bind (wpAny_notOrdered_dict hnew.typeIs ?_)
 show wpAny _ _ (pure (s.heap.objs.size,[Value.ref l])) _ _ _
 refine wpAny_pure ?_
 show wpAny _ _ (Builtin.Dict.updateFrom "dict.__init__" s.heap.objs.size (.ref l) [] .none) _ _ _
 unfold Builtin.Dict.updateFrom
 refine wpAny_bind (wpAny_typeOf (T := "list") ⟨_,hl',rfl⟩ ?_)
 rw [if_pos (by decide)]
 refine wpAny_bind (qh sN (by nofun) (by rw [sizeLine_eq];decide) hl' (by simpa using hh) fun g1 tk1 k1=>?_)
 simp only [Option.isNone_none,if_true]
 refine wpAny_bind (wpAny_rule ?_)
 have l1:g1.IsList l vs:=⟨_,k1 _ _ hl',rfl,()⟩
 refine wpAny_bind (wpAny_pyIter_list l1 ?_)
 have kk:∀c o,s.heap.get? c=some o→g1.get? c=some o:=fun c o e=>k1 _ _ (up _ _ e)
 have pu:∀(ob:Obj) c o,g1.get? c=some o→(g1.push ob).get? c=some o:=fun ob c o e=>Heap.get?_push_of_some _ e
 obtain ⟨on,es,ep,hon,qn⟩:=hnew
 have hon1:=k1 _ _ hon
 have dlt:s.heap.objs.size<g1.objs.size:=Heap.lt_size hon1
 have llt:l<s.heap.objs.size:=Heap.lt_size hl
 refine wpAny_pure ⟨plainId_quiet cJ _,?_⟩
 refine yr (ks:=ks) (us:=us) (vs:=vs) (l:=l) (it:=g1.objs.size) (d:=s.heap.objs.size) ⟨Nat.ne_of_lt (Nat.lt_trans llt dlt),Nat.ne_of_lt llt,Nat.ne_of_gt dlt⟩ (by simpa using hh) lv lu nd hz ks.length 0 0 _ rfl (Nat.zero_le _) ⟨_,Heap.get?_push_size _ rfl,rfl,rfl⟩ (l1.push _) (fun i hi=>?_) ⟨on,es,ep,pu _ _ _ hon1,qn⟩ fun h' tk hD keep=>?_
 ·obtain ⟨T,x,y,c,sl,dd,e1,e2,e3,e4⟩:=pr i hi
  have tlt:=Heap.lt_size e2
  exact ⟨T,x,y,c,sl,dd,e1,pu _ _ _ (kk _ _ e2),e3,e4,Nat.ne_of_lt (Nat.lt_trans tlt dlt),Nat.ne_of_lt tlt⟩
 ·exact ⟨rfl,h h' tk hD fun c o e=>keep c o (Nat.ne_of_lt (Nat.lt_trans (Heap.lt_size e) dlt)) (ne _ _ e) (pu _ _ _ (kk _ _ e))⟩
end
section
variable {X:Cx}
inductive Dl (vs:List V) (H:Hp) (Q:VK):Prop
 | mk (l:Addr) (ts:List Addr) (ks:List bz) (ys:List V) (h0:vs=[.ref l]) (h1:H l=some (.lst (ts.map V.ref))) (h2:ts.length=ks.length) (h3:ys.length=ks.length) (h4:ks.Nodup) (h5:ks.length≤4000) (h6:(∀(i:Nat) t,ts[i]?=some t→aV fun k y=>ks[i]?=some k∧ys[i]?=some y∧H t=some (.tup [mw k,y]))) (h7:∀p H',Nw H p (.dK (ks.zip ys)) H'→Q (.ref p) H')
def FA:List V→Hp→VK→Prop:=fun vs H Q=>Dl  vs H Q
theorem vp {k k':Value}{d d':Option Addr}{x y x' y':Value}{n n':Nat}{s s':Array (Option Value)} (h:(⟨k,d,.seq #[x,y] n,s⟩:Obj)=⟨k',d',.seq #[x',y'] n',s'⟩):y=y':=by
 simp only [Obj.mk.injEq,Data.seq.injEq] at h
 have a:=h.2.2.1.1
 simp at a
 exact a.2
theorem sj {α:Type}{p:Nat→α→Prop}:∀n,(∀i,i<n→∃a,p i a)→∃as:List α,as.length=n∧∀(i:Nat) a,as[i]?=some a→p i a
 | 0,_=>⟨[],rfl,fun i a h=>by simp at h⟩
 | n+1,h=>by
  obtain ⟨as,l,q⟩:=sj n fun i hi=>h i (by trivial)
  obtain ⟨a,ha⟩:=h n (by trivial)
  refine ⟨as++[a],by rw [List.length_append,l];rfl,fun i b hb=>?_⟩
  by_cases c:i<n
  ·rw [List.getElem?_append_left (by trivial)] at hb
   exact q i b hb
  ·have hlt:=(List.getElem?_eq_some_iff.mp hb).1
   rw [List.length_append] at hlt
   simp at hlt
   obtain rfl:i=n:=by trivial
   rw [List.getElem?_append_right (by trivial),l,Nat.sub_self] at hb
   obtain rfl:a=b:=Option.some.inj hb
   exact ha
theorem yb (hc:X.calm=true):bU X (.type "dict") FA:=by
 intro pins s σ H xs us Q I r h
 obtain ⟨l,ts,ks,ys,rfl,hl,lt,ly,nd,h4,hp,q⟩:=h
 obtain ⟨u,rfl,ru⟩:=r.one
 obtain rfl:u=.ref l:=ru
 obtain ⟨z,its,n,rv,hlen,e⟩:=I.lstM hl
 rw [List.length_map] at hlen
 have isT:∀(i:Nat) t,ts[i]?=some t→its[i]?=some (.ref t):=fun i t hi=>by
  obtain ⟨w,hw,rw'⟩:=rv.get (show (ts.map V.ref)[i]?=some (V.ref t) by rw [List.getElem?_map,hi];rfl)
  obtain rfl:w=.ref t:=rw'
  exact hw
 have per:∀i,i<ks.length→xq fun (T:Nat) (x y:Value) (c:Nat) (sl:Array (Option Value)) (dd:Option Addr)=>its[i]?=some (.ref T)∧s.heap.get? T=some ⟨.type "tuple",dd,.seq #[x,y] c,sl⟩∧(∃yv,ys[i]?=some yv∧aO yv y)∧(∀k,ks[i]?=some k→fH k x=true):=fun i hi=>by
  have ht:=List.getElem?_eq_getElem (show i<ts.length by trivial)
  obtain ⟨k,y,hk,hy,hT⟩:=hp i _ ht
  obtain ⟨_,us,rus,⟨ob,g1,g2,c,g3⟩,_⟩:=(show bc X.prog X.w H s.heap ts[i] (.tup [mw k,y]) from I.hok _ _ hT)
  obtain ⟨a,b,rfl,ra,rb⟩:=rus.two
  obtain ⟨oc,od,oo,osl⟩:=ob
  simp only at g2 g3
  subst g2 g3
  exact ⟨ts[i],a,b,c,osl,od,isT i _ ht,g1,⟨y,hy,rb⟩,fun k' hk'=>by rw [hk] at hk';cases hk';exact (sQ ra).1⟩
 have vals:∃us':List Value,us'.length=ks.length∧aC ys us'∧∀i (hi:i<ks.length) (T:Nat) (x y:Value) (c:Nat) (sl:Array (Option Value)) (dd:Option Addr),its[i]?=some (.ref T)→s.heap.get? T=some ⟨.type "tuple",dd,.seq #[x,y] c,sl⟩→us'[i]?=some y:=by
  obtain ⟨us',l1,h1⟩:=sj (p:=fun i y=>∀(T:Nat) (x y':Value) (c:Nat) (sl:Array (Option Value)) (dd:Option Addr),its[i]?=some (.ref T)→s.heap.get? T=some ⟨.type "tuple",dd,.seq #[x,y'] c,sl⟩→y'=y∧∃yv,ys[i]?=some yv∧aO yv y') ks.length fun i hi=>by
   obtain ⟨T,x,y,c,sl,dd,e1,e2,e3,e4⟩:=per i hi
   refine ⟨y,fun T' x' y' c' sl' dd' f1 f2=>?_⟩
   have eT:=Option.some.inj (e1.symm.trans f1)
   injection eT with eT
   have f3:s.heap.get? T=_:=(congrArg s.heap.get? eT).trans f2
   have ey:=vp (Option.some.inj (e2.symm.trans f3))
   subst ey
   exact ⟨rfl,e3⟩
  refine ⟨us',l1,?_,fun i hi T x y c sl dd e1 e2=>?_⟩
  ·refine vA (by trivial) fun i yv u e1 e2=>?_
   have hi:i<ks.length:=by rw [←l1];exact (List.getElem?_eq_some_iff.mp e2).1
   obtain ⟨T,x,y,c,sl,dd,g1,g2,g3,g4⟩:=per i hi
   obtain ⟨q1,yv',q2,q3⟩:=h1 i u e2 T x y c sl dd g1 g2
   rw [e1] at q2
   cases q2
   rw [←q1]
   exact q3
  ·obtain ⟨u,hu⟩:∃u,us'[i]?=some u:=⟨_,List.getElem?_eq_getElem (by trivial)⟩
   rw [hu,(h1 i u hu T x y c sl dd e1 e2).1]
 obtain ⟨us',lu,rus,hus⟩:=vals
 refine u9 (E:=X.xe) (ks:=ks) (us:=us') (vs:=its.toArray) (l:=l) e (I.ok.hd hc) (by simp;trivial) lu nd h4 (fun i hi=>?_) fun h' tk hD kp=>?_
 ·obtain ⟨T,x,y,c,sl,dd,e1,e2,_,e4⟩:=per i hi
  exact ⟨T,x,y,c,sl,dd,by simpa using e1,e2,hus i hi T x y c sl dd e1 e2,e4⟩
 ·have big:sysModules<s.heap.objs.size:=by
   have e:mainGlobals<s.heap.objs.size:=(I.mod.glob.keeps I.bk).lt
   exact Nat.lt_trans (by decide) e
  exact ⟨.ref _,_,I.laid (t':=tk) kp (Nat.le_refl _) (show bc X.prog X.w _ h' _ (.dK (ks.zip ys)) from ⟨by rw [sizeLine_eq];simp;trivial,beq_eq_false_iff_ne.mpr (Ne.symm (Nat.ne_of_lt big)),ks.zip us',zN rus,hD⟩),rfl,q _ _ (.mk' (I.hok.fresh (Nat.le_refl _)))⟩
end
section
variable {X:Cx}
end
structure Gb (a b:Nat) (p:KM.Fra):Prop where
 n:Sz a p.1
 d:Sz b p.2
 pos:1≤p.2
theorem rV {a b:Nat}{n d:Int} (hn:Sz a n) (hd:Sz b d) (h0:0<d):Gb a b (KM.low n d):=by
 have:=KM.low_spec n d (by trivial)
 exact ⟨hn.le this.2.2.2.1,hd.le this.2.2.2.2,this.1⟩
def ik (p q:KM.Fra):KM.Fra:=KM.low (p.1*q.2) (p.2*q.1)
theorem Gb.ovr {a b c d e f:Nat}{p q:KM.Fra} (h:Gb a b p) (k:Gb c d q) (hq:1≤q.1) (h1:a+d≤e) (h3:b+c≤f):Gb e f (ik p q):=
 rV ((h.n.mul k.d).mono h1) ((h.d.mul k.n).mono h3) (Int.mul_pos (by have:=h.pos;trivial) (by trivial))
theorem Dr {p q:KM.Fra} (h:1≤p.1) (h':1≤p.2) (k:1≤q.1) (k':1≤q.2):1≤(ik p q).1:=(KM.low_sgn (Int.mul_pos (by trivial) (by trivial))).1.mpr (Int.mul_pos (by trivial) (by trivial))
end L2
namespace L2
open PySem PySem.Spec PyProof.Rows
section
variable {X:Cx}
end
section
variable {prog:Program}{w:World}{A:Around}{R:Result→Shared→Prop}{s:Shared}
end
section
variable {X:Cx}{kx vx tg iter:Expr}{ifs:List Expr}{scope:Scope}{pos:Pos}{N':List Str}{L:Nat}{src:List Nat}{wi:TI}{g:TG}{tt:TT}{tk tv:TE}
end
end L2
namespace KM
variable {ls:List (List Nat)}{es done:List Edge}{W u:List Nat→Rat}{S:List (List Nat)}{q:List Nat}{m:Rat}
end KM
namespace L2
open PySem PySem.Spec PyProof.Rows
section
variable {z:Nat}{E:Addr→Prop}{H H':Hp}{n m k:Nat}{v:V}{xs ys:List V}
end
section
variable {X:Cx}{K:PySem.W.Frag}
end
def HC:TS:=fun _ _ _=>False
section
variable {X:Cx}
theorem CV {st:Stmt}:PS X st HC:=fun _ _ _ _ _ _ h=>h.elim
end
end L2
namespace L2
open PySem
end L2
namespace L2
open PySem PySem.Spec PyProof.Rows
section
variable {prog:Program}{w:World}{A:Around}{E:Value→Shared→Prop}{hp:Heap}{gs:Array GenState}{dr:Drawn}{tk:Nat}{os:OsState}
variable {nm qn:Str}{C N:Addr}{bs bm bB:List Value}{hd:Bool}{sn:List Str}{sb:List Value}{ab:Bool}{cl:Option Bool}{dd:Option Addr}{k0 k1 k2 k3 k5:Option Value}{B nw ni:String}
theorem yw (FB:ExcBaseFacts B nw ni bB) (T:OwnTail hp bB bm) {mN:Str→Option Value}{us:List Value}{fI:Addr}{oI:Obj}{R:Fin→Shared→Prop}
 (eC:hp.get? C=some (excClassObj nm qn C N bs bm hd sn sb ab cl dd k0 k1 k2 k3 k5 nw)) (eN:hp.Ns N mN) (eI:mN "__init__" = some (.ref fI)) (ef:hp.get? fI=some oI) (ec:oI.cls=.type "function") (lu:us.length≤sizeLine)
 (go:∀h1 x,Heap.MadeExcOf hp h1 x (.ref C) us→wpAny (model prog w) A (call (.ref fI) (.ref x :: us)) (fun r s1=>r=.none∧R (.done (.ret (.ref x))) s1) E ⟨h1,gs,dr,tk,os⟩) :
 wpAny (model prog w) A (Builtin.«type.__call__» ⟨.ref C :: us,[]⟩) R E ⟨hp,gs,dr,tk,os⟩:=by
 repeat (first | with_reducible refine wpAny_madeBy_exc eC ?_ | with_reducible refine wpAny_loadPart_at eC ?_ | wp_step)
 refine codeAny_call_builtin_code (Code.quiet_builtin _ FB.quiet) (wpAny_check_new_subT FB T eC ?_)
 refine codeAny_exc_new_subT FB T eC ?_ lu
 show wpAny _ _ _ _ _ _
 have up:∀b o,hp.get? b=some o→((hp.push { cls:=.type "tuple",data:=.seq us.toArray }).push { cls:=.ref C,data:=.fields #[.ref hp.objs.size,.none,.none,.none,.bool false,.none] }).get? b=some o:=fun b o e=>Heap.get?_push_of_some _ (Heap.get?_push_of_some _ e)
 have at1:((hp.push { cls:=.type "tuple",data:=.seq us.toArray }).push { cls:=.ref C,data:=.fields #[.ref hp.objs.size,.none,.none,.none,.bool false,.none] }).get? (hp.objs.size+1)=some { cls:=.ref C,data:=.fields #[.ref hp.objs.size,.none,.none,.none,.bool false,.none] }:=by heap_get
 have me:Heap.MadeExcOf hp ((hp.push { cls:=.type "tuple",data:=.seq us.toArray }).push { cls:=.ref C,data:=.fields #[.ref hp.objs.size,.none,.none,.none,.bool false,.none] }) (hp.objs.size+1) (.ref C) us:=
  ⟨up,Heap.get?_none_of_le (Nat.le_succ _),hp.objs.size,at1,Heap.get?_none_of_le (Nat.le_refl _),Heap.get?_push_of_some _ (Heap.get?_push_at rfl rfl)⟩
 have cc:(Value.ref C :: bm).contains (.ref C)=true:=by simp
 have f1:=up _ _ ef
 unfold isInstance
 repeat (first | with_reducible refine wpAny_loadPart_at at1 ?_ | (with_reducible refine wpAny_isSubtype_exc (up _ _ eC) ?_;rw [cc]) | wp_step)
 show wpAny _ _ (typeLookup (.ref C) _) _ _ _
 refine wpAny_typeLookup_tail (up _ _ eC) (eN.keeps up) (T.keeps up) FB.mroIs FB.init.lookup ?_
 rw [eI]
 refine wpAny_holding (wpAny_bind ?_)
 unfold bindSpecial
 refine wpAny_bind (wpAny_typeOf (T := "function") ⟨_,f1,ec⟩ ?_)
 rw [if_pos (by decide)]
 refine wpAny_pure (wpAny_bind (wpAny_mono (go _ _ me) (fun r s1 hr=>?_) fun _ _ z=>z))
 obtain ⟨rfl,hR⟩:=hr
 wp_walk
 exact hR
theorem Aa (FB:ExcBaseFacts B nw ni bB) (T:OwnTail hp bB bm) {mN:Str→Option Value}{us:List Value}{fI:Addr}{oI:Obj}{R:Value→Shared→Prop}
 (eC:hp.get? C=some (excClassObj nm qn C N bs bm hd sn sb ab cl dd k0 k1 k2 k3 k5 nw)) (eN:hp.Ns N mN) (eI:mN "__init__" = some (.ref fI)) (ef:hp.get? fI=some oI) (ec:oI.cls=.type "function") (lu:us.length≤sizeLine)
 (go:∀h1 x,Heap.MadeExcOf hp h1 x (.ref C) us→wpAny (model prog w) (A.under (.builtin "type.__call__" ⟨.ref C :: us,[]⟩)) (call (.ref fI) (.ref x :: us)) (fun r s1=>r=.none∧R (.ref x) s1) E ⟨h1,gs,dr,tk,os⟩) :
 wpAny (model prog w) A (call (.ref C) us) R E ⟨hp,gs,dr,tk,os⟩:=by
 have l1:=tc_lookup
 have l2:=tc_bind (.ref C)
 have ty:(⟨hp,gs,dr,tk,os⟩:Shared).TypeIs (.ref C) "type" := ⟨_,eC,rfl⟩
 refine wpAny_call (codeAny_of_tree ?_)
 show wpAny _ _ (callAny (.ref C) _) _ _ _
 repeat (any_goals (first | assumption | with_reducible refine wpAny_loadPart_at eC ?_ | wp_step))
 exact ⟨rfl,codeAny_call_builtin_at (Code.quiet_builtin _ (by nofun)) entry_typeCall (wpAny_check_type_call_sub eC (yw FB T eC eN eI ef ec lu fun h1 x m=>go h1 x m))⟩
end
end L2
namespace L2
open PySem PySem.Spec PyProof.Rows PySem.W
section
variable {prog:Program}{w:World}{A:Around}{E:Value→Shared→Prop}{s:Shared}{K:Frag}{x C:Addr}{ox:Obj}{od:Option Obj}{name:Str}{fill expr:Bool}
abbrev mK (K:Frag) (C:Addr):Bool:=findIn K (.ref C) "__getattribute__" == some (some (.builtin "BaseException.__getattribute__")) && findIn K (.ref C) "__getattr__" == some none && mroIn K C (.type "BaseException")==some true
theorem xn {K:Frag}{C:Addr} (h:mK K C=true):findIn K (.ref C) "__getattribute__" = some (some (.builtin "BaseException.__getattribute__"))∧findIn K (.ref C) "__getattr__" = some none∧mroIn K C (.type "BaseException")=some true:=by
 simp only [mK,Bool.and_eq_true,beq_iff_eq] at h
 exact ⟨h.1.1,h.1.2,h.2⟩
theorem yZ {tk:Tok}{R:Result→Shared→Prop}{f:Builtin.ObjectAttr.Found} (X:K.In s.heap) (I:InstAt s.heap x ox C od) (g:mK K C=true) (hf:findObj K C od name=some f)
 (h:wpAny (model prog w) A.in1 (match f with | .value v=>ret v | .bind g a=>Builtin.ObjectAttr.bindTo g a (.ref x) (.ref C) | .missing=>unsupported "") (fun fin s'=>match fin with | .done (.ret v)=>R (.ok (.ret v)) s' | _=>False) (fun _ _=>False) s) (hm:f≠.missing) :
 codeAny (model prog w) A (.call (.builtin "BaseException.__getattribute__") ⟨[.ref x,.str name tk],[]⟩) R s:=by
 obtain ⟨g1,g2,g3⟩:=xn g
 have sub:Looks (model prog w) s.heap (isInstance (.ref x) (.type "BaseException")) true:=I.type.andThen (looks_mroIn X g3)
 refine codeAny_call_builtin PySem.F.attr_ValueError.ga.plain PySem.F.entry_bexc_ga (@check_slot (model prog w) _ _ s "BaseException.__getattribute__" "BaseException" "__getattribute__" (.ref x) [.str name tk] [] _ (by nofun) (by nofun) sub (PySem.F.args_bexc_ga _ _) ?_)
 have L1:=looks_find (M:=model prog w) X I hf
 have L0:=I.type (M:=model prog w)
 unfold Builtin.«object.__getattribute__»
 refine wpAny_bind (wpAny_pure (wpAny_bind (wpAny_pure (wpAny_bind (L0.here (wpAny_bind (L1.here ?_)))))))
 cases f with
 | missing=>exact absurd rfl hm
 | value v=>
  refine wpAny_mono h (fun fin s' z=>?_) fun _ _ z=>z.elim
  rcases fin with (_ | _ | _ | _) | _ <;> first | exact z | exact z.elim
 | bind g a=>
  refine wpAny_mono h (fun fin s' z=>?_) fun _ _ z=>z.elim
  rcases fin with (_ | _ | _ | _) | _ <;> first | exact z | exact z.elim
theorem xI {tk:Tok}{Q:Value→Shared→Prop}{f:Builtin.ObjectAttr.Found} (X:K.In s.heap) (I:InstAt s.heap x ox C od) (g:mK K C=true) (hf:findObj K C od name=some f) (hm:f≠.missing)
 (h:wpAny (model prog w) A.in1 (match f with | .value v=>ret v | .bind g a=>Builtin.ObjectAttr.bindTo g a (.ref x) (.ref C) | .missing=>unsupported "") (fun fin s'=>match fin with | .done (.ret v)=>wpAny (model prog w) A (handedOut v) Q E s' | _=>False) (fun _ _=>False) s) :
 wpAny (model prog w) A (getAttrBy (.ref x) (.str name tk) fill expr) Q E s:=by
 obtain ⟨g1,g2,g3⟩:=xn g
 have L0:=I.type (M:=model prog w)
 have L1:=looks_findIn (M:=model prog w) X g1
 have L2:=looks_findIn (M:=model prog w) X g2
 unfold getAttrBy
 refine wpAny_holding (wpAny_bind (L0.here (wpAny_bind (L1.here ?_))))
 dsimp only
 rw [show (onTheHeap (Value.ref C) && Value.builtin "BaseException.__getattribute__" == Value.builtin "object.__getattribute__")=false from by rw [show (Value.builtin "BaseException.__getattribute__" == Value.builtin "object.__getattribute__")=false from by nofun,Bool.and_false],if_neg (by decide)]
 unfold getAttrByItsOwn hookBefore
 rw [if_pos (show onTheHeap (Value.ref C)=true from rfl)]
 refine wpAny_bind (L2.here (wpAny_bind (wpAny_attempt (wpAny_holding ?_))))
 unfold callGetattribute
 rw [show (expr && onTheHeap (Value.builtin "BaseException.__getattribute__"))=false by cases expr <;> rfl,if_neg (by decide)]
 unfold boundAndCalled
 rw [PySem.F.attr_ValueError.ga.bind]
 refine wpAny_bind (wpAny_pure (wpAny_call (yZ X I g hf (wpAny_mono h (fun fin s' z=>?_) fun _ _ z=>z) hm)))
 rcases fin with (_ | _ | _ | _) | _ <;> first | exact z | exact z.elim
theorem GG {v:Value}{Q:Value→Shared→Prop} (X:K.In s.heap) (I:InstAt s.heap x ox C od) (g:mK K C=true) (hf:findObj K C od name=some (.value v)) (hh:handedIn v=true) (h:Q v { s with toks:=s.toks+1 }) :
 wpAny (model prog w) A (getAttr (.ref x) name expr) Q E s:=by
 unfold getAttr
 refine wpAny_bind (wpAny_mkText (xI (s:={ s with toks:=s.toks+1 }) X I g hf (fun z=>nomatch z) (wpAny_pure ?_)))
 show wpAny _ _ (handedOut v) _ _ _
 rw [handedOut_of hh]
 exact wpAny_pure h
abbrev mP (K:Frag) (C:Addr):Bool:=mK K C && (clsIn K C).isSome && findIn K (.ref C) "__class__" == some (some (.builtin "object.__class__")) && specialIn K (.builtin "object.__class__") "__get__" == some (some (.builtin "getset_descriptor.__get__")) && takesIn K (.builtin "object.__class__")==some true && mroIn K C (.type "object")==some true
theorem pW {K:Frag}{C:Addr} (h:mP K C=true):mK K C=true∧(clsIn K C).isSome=true∧findIn K (.ref C) "__class__" = some (some (.builtin "object.__class__"))∧specialIn K (.builtin "object.__class__") "__get__" = some (some (.builtin "getset_descriptor.__get__"))∧takesIn K (.builtin "object.__class__")=some true∧mroIn K C (.type "object")=some true:=by
 unfold mP at h
 simp only [Bool.and_eq_true,beq_iff_eq] at h
 obtain ⟨⟨⟨⟨⟨a,b⟩,c⟩,d⟩,e⟩,f⟩:=h
 exact ⟨by unfold mK;simp only [Bool.and_eq_true,beq_iff_eq];exact a,b,c,d,e,f⟩
theorem xW (g:mP K C=true):findObj K C od "__class__" = some (.bind (.builtin "getset_descriptor.__get__") (.builtin "object.__class__")):=by
 obtain ⟨_,hc,ha,hg,ht,_⟩:=pW g
 obtain ⟨cd,hc⟩:=Option.isSome_iff_exists.mp hc
 unfold findObj
 rw [hc,Option.bind_some,ha,Option.bind_some]
 dsimp only
 rw [hg,Option.bind_some]
 dsimp only
 rw [ht,Option.bind_some]
theorem DO {Q:Option Value→Shared→Prop} (X:K.In s.heap) (I:InstAt s.heap x ox C od) (g:mP K C=true) (h:Q (some (.ref C)) { s with toks:=s.toks+1 }):wpAny (model prog w) A (getAttr? (.ref x) "__class__") Q E s:=by
 obtain ⟨g0,_,_,_,_,gm⟩:=pW g
 unfold getAttr? getAttrBy?
 refine wpAny_bind (wpAny_mkText (wpAny_bind (wpAny_attempt (xI (s:={ s with toks:=s.toks+1 }) X I g0 (xW g) (fun z=>nomatch z) ?_))))
 show wpAny _ _ (holding [_] (call _ _) >>= ret) _ _ _
 refine wpAny_bind (wpAny_holding (wpAny_call (class_get (s:={ s with toks:=s.toks+1 }) (ox:=ox) (od:=od) X I gm (wpAny_pure (handed_on rfl (wpAny_pure h))))))
theorem vO (g:mP K C=true):KitX K (.ref x) (.ref C) (fun h=>aV fun ox od=>InstAt h x ox C od) where
 ty:=fun _ _ _ ⟨_,_,I⟩=>I.type
 it:=fun _ _ X _=>by
  obtain ⟨cd,hc⟩:=Option.isSome_iff_exists.mp (pW g).2.1
  unfold clsIn at hc
  split at hc
  ·rename_i ho
   intro A' Q' E' s' k q
   unfold isType loadHead
   exact wpAny_bind (wpAny_loadPart (k _ _ (X _ _ ho)) (wpAny_pure q))
  ·cases hc
 ne:=fun h tp dd its n sl X htp=>by
  obtain ⟨cd,hc⟩:=Option.isSome_iff_exists.mp (pW g).2.1
  refine Bool.eq_false_iff.mpr fun q=>?_
  obtain rfl:C=tp:=Value.ref.inj (beq_iff_eq.mp q)
  unfold clsIn at hc
  split at hc
  ·rename_i ho
   have z:=(X _ _ ho).symm.trans htp
   cases z
  ·cases hc
 ca:=fun X ⟨_,_,I⟩ k=>DO X I g k
end
end L2
namespace L2
open PySem PySem.Spec PyProof.Rows PySem.W PySem.Builtin.ObjectAttr
def pe:List Value→Bool
 | .ref _ :: r=>pe r
 | l=>l==[.type "ValueError",.type "Exception",.type "BaseException",.type "object"]
theorem fw (self:Value):refuseLoop self "__setattr__" [.type "ValueError",.type "Exception",.type "BaseException",.type "object"]=pure ():=by kernel_rfl
theorem rX (self:Value):∀{l:List Value},pe l=true→refuseLoop self "__setattr__" l=pure ()
 | .ref c :: r,e=>by rw [refuseLoop_ref];exact rX self e
 | [],e=>by cases beq_iff_eq.mp (show (([]:List Value)==_)=true from e)
 | .none :: r,e=>by rw [beq_iff_eq.mp (show (_==_)=true from e)];exact fw self
 | .bool _ :: r,e=>by rw [beq_iff_eq.mp (show (_==_)=true from e)];exact fw self
 | .int _ _ :: r,e=>by rw [beq_iff_eq.mp (show (_==_)=true from e)];exact fw self
 | .float _ _ :: r,e=>by rw [beq_iff_eq.mp (show (_==_)=true from e)];exact fw self
 | .str _ _ :: r,e=>by rw [beq_iff_eq.mp (show (_==_)=true from e)];exact fw self
 | .bytes _ _ :: r,e=>by rw [beq_iff_eq.mp (show (_==_)=true from e)];exact fw self
 | .type _ :: r,e=>by rw [beq_iff_eq.mp (show (_==_)=true from e)];exact fw self
 | .builtin _ :: r,e=>by rw [beq_iff_eq.mp (show (_==_)=true from e)];exact fw self
abbrev f7 (K:Frag) (C:Addr) (name:Str):Bool:=(clsIn K C).any (fun cd=>pe cd.mro && cd.hasDict) && findIn K (.ref C) "__setattr__" == some (some (.builtin "object.__setattr__")) && takerIn K C name==some none && mroIn K C (.type "object")==some true
theorem yS {h:Heap}{a:Addr}{name:Str}{v:Value} (n:h.Ns1 a fun y=>if y=name then some v else none):∃o,h.get? a=some o∧o.data.pastItsLine=none:=by
 obtain ⟨o,es,ep,e,d,sk,uq,f⟩:=n
 refine ⟨o,e,?_⟩
 rw [d]
 refine pastItsLine_dict ?_
 have key:∀x∈es,∃t,x.key=.str name t:=fun x hx=>by
  obtain ⟨m,t,hm⟩:=sk x hx
  have q:=f m
  by_cases c:m=name
  ·exact ⟨t,by rw [hm,c]⟩
  ·dsimp only at q
   rw [if_neg c] at q
   simp only [nsFind,findBy,Option.map_eq_none_iff,Array.find?_eq_none] at q
   have:=q x hx
   rw [hm] at this
   simp [Value.isStr] at this
 have small:es.toList.length≤1:=by
  unfold UniqKeys at uq
  cases el:es.toList with
  | nil=>simp
  | cons x r=>
   cases r with
   | nil=>simp
   | cons y r=>
    rw [el] at uq
    obtain ⟨t1,k1⟩:=key x (Array.mem_toList_iff.mp (by rw [el];simp))
    obtain ⟨t2,k2⟩:=key y (Array.mem_toList_iff.mp (by rw [el];simp))
    exfalso
    exact (List.pairwise_cons.mp uq).1 y (by simp) name (by rw [k1];simp [Value.isStr]) (by rw [k2];simp [Value.isStr])
 rw [Array.length_toList] at small
 rw [sizeLine_eq]
 trivial
section
variable {prog:Program}{w:World}{A:Around}{E:Value→Shared→Prop}{s:Shared}{K:Frag}{x C:Addr}{ox:Obj}{name:Str}{v:Value}
abbrev pT:Obj:={ cls:=.type "dict",data:=.dict #[] }
theorem Gu {tk:Tok}{R:Result→Shared→Prop} (X:K.In s.heap) (I:InstAt s.heap x ox C none) {vs:Array Value} (hf:ox.data=.fields vs) (g:f7 K C name=true)
 (h:∀h' tk',h'.Ns1 s.heap.objs.size (fun y=>if y=name then some v else none)→h'.get? x=some { ox with dict:=some s.heap.objs.size }→(∀b o,b≠x→s.heap.get? b=some o→h'.get? b=some o)→R (.ok (.ret .none)) { s with heap:=h',toks:=tk' }) :
 codeAny (model prog w) A (.call (.builtin "object.__setattr__") ⟨[.ref x,.str name tk,v],[]⟩) R s:=by
 have SF:=PySem.F.store_object
 unfold f7 at g
 simp only [Bool.and_eq_true,beq_iff_eq] at g
 obtain ⟨⟨⟨g1,g2⟩,g3⟩,g4⟩:=g
 obtain ⟨cd,hc,hp⟩:=any_some g1
 rw [Bool.and_eq_true] at hp
 have sub:Looks (model prog w) s.heap (isInstance (.ref x) (.type "object")) true:=I.type.andThen (looks_mroIn X g4)
 refine codeAny_call_builtin SF.slot.plain SF.entry (@check_slot (model prog w) _ _ s "object.__setattr__" "object" "__setattr__" (.ref x) [.str name tk,v] [] _ SF.kind SF.split sub (SF.args (.ref x) (.str name tk) v) ?_)
 obtain ⟨attr,ha,hr⟩:=Option.bind_eq_some_iff.mp g3
 have lm:Looks (model prog w) s.heap (mroOf (.ref C)) cd.mro:=(looks_clsIn X hc).andThen .now
 have lt:Looks (model prog w) s.heap (storeTaker? attr) none:=by
  cases attr with
  | none=>exact .now
  | some a=>
   obtain ⟨b,hb,e⟩:=Option.map_eq_some_iff.mp hr
   refine (looks_takesIn X hb).andThen ?_
   cases b with
   | true=>cases e
   | false=>exact .now
 rw [osa_eq,refuse_eq]
 refine wpAny_bind (wpAny_bind (I.type.here (wpAny_bind (lm.here ?_))))
 rw [rX _ hp.1]
 refine wpAny_pure (wpAny_bind (I.type.here (wpAny_bind ((looks_findIn X ha).here (wpAny_bind (lt.here ?_))))))
 obtain ⟨hx,hcl,hn,hd⟩:=I
 obtain ⟨oc,odi,oda,osl⟩:=ox
 dsimp only at hcl hd hn hf
 subst hcl hf
 have e0:odi=none:=by
  cases odi with
  | none=>rfl
  | some d=>exact hd.elim
 subst e0
 refine wpAny_bind (wpAny_pure (wpAny_bind (wpAny_bind (wpAny_loadPart hx (wpAny_bind ((looks_clsIn X hc).here ?_))))))
 rw [hp.2,if_neg (by decide)]
 show wpAny _ _ (alloc pT >>= fun d=>update x (fun o=>{ o with dict:=some d }) >>= fun _=>dictMade (.ref C) x d) _ _ _
 refine wpAny_bind (wpAny_alloc (wpAny_bind ?_))
 have lx:x<s.heap.objs.size:=Heap.lt_size hx
 have hx1:(s.heap.push pT).get? x=some ⟨.ref C,none,.fields vs,osl⟩:=Heap.get?_push_of_some _ hx
 have nd:s.heap.objs.size≠x:=Nat.ne_of_gt lx
 have hd1:((s.heap.push pT).update x fun o=>{ o with dict:=some s.heap.objs.size }).get? s.heap.objs.size=some pT:=by
  rw [Heap.get?_update_other _ _ (Ne.symm nd)]
  exact Heap.get?_push_size _ rfl
 refine wpAny_update hx1 ?_
 refine wpAny_pure ?_
 show wpAny _ _ (storeInDict s.heap.objs.size (.str name tk) name v) _ _ _
 have n0:((s.heap.push pT).update x fun o=>{ o with dict:=some s.heap.objs.size }).Ns1 s.heap.objs.size (fun _=>none):=Heap.Ns1.of_empty ⟨pT,#[],_,hd1,rfl,(fun e he=>absurd he (by simp)),fun _=>rfl⟩
 unfold storeInDict
 refine wpAny_bind (wpAny_pure (wpAny_bind (wpAny_nsSet1 n0 fun h2 n2 sb=>wpAny_bind ?_)))
 obtain ⟨o2,e2,p2⟩:=yS n2
 refine wpAny_lookBehind e2 p2 (wpAny_pure ?_)
 refine h h2 _ n2 ?_ fun b o nb hb=>?_
 ·rw [sb.2 x (Ne.symm nd)]
  exact Heap.get?_update_self _ hx1 rfl
 ·rw [sb.2 b (Nat.ne_of_lt (Heap.lt_size hb)),Heap.get?_update_other _ _ (Ne.symm nb)]
  exact Heap.get?_push_of_some _ hb
theorem GY {Q:Unit→Shared→Prop} (X:K.In s.heap) (I:InstAt s.heap x ox C none) {vs:Array Value} (hf:ox.data=.fields vs) (g:f7 K C name=true)
 (h:∀h' tk',h'.Ns1 s.heap.objs.size (fun y=>if y=name then some v else none)→h'.get? x=some { ox with dict:=some s.heap.objs.size }→(∀b o,b≠x→s.heap.get? b=some o→h'.get? b=some o)→Q () { s with heap:=h',toks:=tk' }) :
 wpAny (model prog w) A (setAttr (.ref x) name v) Q E s:=by
 have g2:findIn K (.ref C) "__setattr__" = some (some (.builtin "object.__setattr__")):=by
  unfold f7 at g
  simp only [Bool.and_eq_true,beq_iff_eq] at g
  exact g.1.1.2
 exact set_plain X I g2 (Gu (s:={ s with toks:=s.toks+1 }) X I hf g fun h' tk' a b c=>h h' tk' a b c)
end
abbrev BU:List Value:=[.type "ValueError",.type "Exception",.type "BaseException",.type "object"]
def AZ (d:Data):Option ClassData:=match d with
 | .cls cd=>some cd
 | _=>none
theorem De {d:Data}{cd:ClassData} (h:AZ d=some cd):d=.cls cd:=by
 cases d with
 | cls c=>cases h;rfl
 | _=>cases h
theorem IB {α:Type}{ls:List α} (h:ls.length=6):xq fun a b c d e f=>ls=[a,b,c,d,e,f]:=by
 match ls,h with
 | [a,b,c,d,e,f],_=>exact ⟨a,b,c,d,e,f,rfl⟩
theorem IN {α:Type}{sl:Array α}{x:α} (h:sl.size=6) (k:sl[4]?=some x):xw fun a b c d f=>sl=#[a,b,c,d,x,f]:=by
 obtain ⟨l⟩:=sl
 obtain ⟨a,b,c,d,e,f,rfl⟩:=IB (show l.length=6 from h)
 obtain rfl:e=x:=Option.some.inj k
 exact ⟨a,b,c,d,f,rfl⟩
def bL (K:Frag) (C:Addr) (ini:Option Value):Bool:=match K.lookup C with
 | none=>false
 | some o=>match AZ o.data with
  | none=>false
  | some cd=>(o.cls==.type "type") && ((cd.mro.head?==some (.ref C)) && (!cd.hasDel && (tailIn K BU cd.mro.tail && (nsOkIn K cd.ns && (nsIn K cd.ns "__init__" == some ini && (o.slots.size==6 && o.slots[4]?==some (some (.builtin "ValueError.__new__"))))))))
theorem EM {K:Frag}{h:Heap}{N:Addr}{mp:Str→Option Value}{n:Str}{v:Value} (X:K.In h) (G:h.Ns N mp) (e:nsIn K N n=some (some v)):mp n=some v:=by
 obtain ⟨ob,es,ep,ho,hd,_,f⟩:=G
 unfold nsIn at e
 split at e
 ·rename_i q
  have z:=X _ _ q
  rw [ho] at z
  cases z
  cases hd
  split at e
  ·rename_i he
   cases e
   rw [←f]
   unfold nsFind findBy
   rw [←Array.find?_toList,he];rfl
  ·split at e <;> cases e
 ·cases e
theorem ya {K:Frag}{h:Heap}{C:Addr}{ini:Option Value} (X:K.In h) (q:bL K C ini=true):∃nm qn N bs bm hd sn sb ab cl dd k0 k1 k2 k3 k5 mN,
 h.get? C=some (excClassObj nm qn C N bs bm hd sn sb ab cl dd k0 k1 k2 k3 k5 "ValueError.__new__")∧h.Ns N mN∧OwnTail h BU bm∧mN "__init__" = ini:=by
 unfold bL at q
 cases ho:K.lookup C with
 | none=>rw [ho] at q;cases q
 | some o=>
  rw [ho] at q
  dsimp only at q
  cases hc:AZ o.data with
  | none=>rw [hc] at q;cases q
  | some cd=>
   rw [hc] at q
   dsimp only at q
   rw [Bool.and_eq_true,Bool.and_eq_true,Bool.and_eq_true,Bool.and_eq_true,Bool.and_eq_true,Bool.and_eq_true,Bool.and_eq_true,beq_iff_eq,beq_iff_eq,beq_iff_eq,beq_iff_eq,beq_iff_eq,Bool.not_eq_true'] at q
   obtain ⟨q1,q2,dl,tl,ok,hi,z1,z2⟩:=q
   obtain ⟨k0,k1,k2,k3,k5,e6⟩:=IN z1 z2
   have ed:=De hc
   obtain ⟨oc,dd,od,sl⟩:=o
   dsimp only at q1 ed e6
   subst q1 ed e6
   obtain ⟨nm,bs,mro,ns,qn,hd,sn,sub,ab,col,del⟩:=cd
   dsimp only at q2 dl tl ok hi
   subst dl
   cases mro with
   | nil=>cases q2
   | cons m bm=>
    obtain rfl:m=.ref C:=Option.some.inj q2
    have nm1:h.Ns ns (h.nsMap ns):=.of_isNs (isNs_of_in X ok)
    refine ⟨nm,qn,ns,bs,bm,hd,sn,sub,ab,col,dd,k0,k1,k2,k3,k5,_,X _ _ ho,nm1,tail_of_in X tl,?_⟩
    cases ini with
    | none=>exact nsMap_none_of_in X ok hi
    | some v=>exact EM X nm1 hi
section
variable {prog:Program}{w:World}{A:Around}{E:Value→Shared→Prop}{s:Shared}{K:Frag}{x C:Addr}{ox:Obj}{od:Option Obj}{a0:Value}
theorem FT {u:Value}{Q:Value→Shared→Prop}{ini:Option Value} (X:K.In s.heap) (I:InstAt s.heap x ox C od) (hf:ox.data=.fields #[a0,.none,.none,.none,.bool false,.none]) (hm:bL K C ini=true)
 (h:∀h',h'.get? x=some { ox with data:=.fields #[.ref s.heap.objs.size,.none,.none,.none,.bool false,.none] }→(∀b o,b≠x→s.heap.get? b=some o→h'.get? b=some o)→Q .none { s with heap:=h' }) :
 wpAny (model prog w) A (call (.builtin "ValueError.__init__") [.ref x,u]) Q E s:=by
 have FB:=PySem.F.excBase_ValueError
 obtain ⟨nm,qn,N,bs,bm,hd,sn,sb,ab,cl,dd,k0,k1,k2,k3,k5,mN,eC,eN,T,_⟩:=ya X hm
 have hx:=I.at_
 have hc:=I.cls
 obtain ⟨oc,odi,oda,osl⟩:=ox
 dsimp only at hf hc hx
 subst hf hc
 obtain ⟨hp,gs,dr,tk,os⟩:=s
 dsimp only at eC eN T hx
 refine wpAny_call (codeAny_call_builtin FB.init.plain FB.initEntry (wpAny_check_init_subT FB T eC hx rfl ?_))
 have lx:x<hp.objs.size:=Heap.lt_size hx
 have hx1:(hp.push { cls:=.type "tuple",data:=.seq #[u] }).get? x=some ⟨.ref C,odi,.fields #[a0,.none,.none,.none,.bool false,.none],osl⟩:=Heap.get?_push_of_some _ hx
 unfold Builtin.«BaseException.__init__»
 refine wpAny_bind (wpAny_newTuple (wpAny_bind ?_))
 unfold Builtin.BaseException.bexcPut
 refine wpAny_bind (wpAny_field hx1 rfl rfl (wpAny_bind (wpAny_setField hx1 rfl (by show 0<6;decide) ?_)))
 have fin:wpAny (model prog w) A.in1 (ret .none) (fun fin s'=>match fin with | .done f=>(match Except.ok f with | Except.ok (Flow.ret v)=>Q v s' | Except.ok _=>False | Except.error e=>E e s') | .again c'=>False) (fun e s'=>E e s') ⟨(hp.push { cls:=.type "tuple",data:=.seq #[u] }).update x (Obj.mapFields (·.setIfInBounds 0 (.ref hp.objs.size))),gs,dr,tk,os⟩:=by
  refine wpAny_pure (h _ ?_ fun b o nb hb=>?_)
  ·exact Heap.get?_update_self _ hx1 rfl
  ·rw [Heap.get?_update_other _ _ (Ne.symm nb)]
   exact Heap.get?_push_of_some _ hb
 have fin2:=wpAny_mono fin (Q':=fun fin s'=>match fin with | .done f=>(match (Except.ok f:Result) with | Except.ok (Flow.ret v)=>Q v s' | Except.ok _=>False | Except.error e=>E e s') | .again c'=>c'.quiet=true∧codeAny (model prog w) A c' (fun r s'=>match r with | Except.ok (Flow.ret v)=>Q v s' | Except.ok _=>False | Except.error e=>E e s') s') (fun f s' z=>by
  cases f with
  | done f=>exact z
  | again c=>exact z.elim) fun _ _ z=>z
 split
 ·exact wpAny_letGo fin2
 ·exact wpAny_pure fin2
end
end L2
namespace L2
open PySem PySem.Spec PyProof.Rows
theorem bc.there {P:Program}{w:World}{H:Hp}{h:Heap}{a:Addr}{o:HO} (x:bc P w H h a o):∃u,h.get? a=some u:=by
 cases o with
 | lst xs=>obtain ⟨_,_,_,_,e⟩:=x;exact ⟨_,e⟩
 | tup xs=>obtain ⟨_,_,_,⟨_,e,_⟩,_⟩:=x;exact ⟨_,e⟩
 | dK kvs=>obtain ⟨_,_,_,_,o,_,_,e,_⟩:=x;exact ⟨_,e⟩
 | dT kvs=>obtain ⟨_,_,_,_,o,_,_,e,_⟩:=x;exact ⟨_,e⟩
 | set S n=>obtain ⟨o,_,_,_,e,_⟩:=x;exact ⟨_,e⟩
 | ins C dx fs=>obtain ⟨_,_,_,e,_⟩:=x;exact ⟨_,e⟩
 | own y=>obtain ⟨_,e⟩:=x;exact ⟨_,e⟩
 | xd fs=>obtain ⟨_,⟨_,_,_,e,_⟩,_⟩:=x;exact ⟨_,e⟩
 | rng lo hi=>obtain ⟨_,_,_,e⟩:=x;exact ⟨_,e⟩
 | frz ob u=>obtain ⟨e,_⟩:=x;exact ⟨_,e⟩
 | tbl ps=>exact ⟨_,show h.get? a=some _ from x⟩
 | met f y=>exact ⟨_,show h.get? a=some _ from x⟩
 | ext φ=>obtain ⟨_,e,_⟩:=x;exact e
theorem dc.none' {P:Program}{w:World}{H:Hp}{h:Heap}{a:Addr} (x:dc P w H h) (e:h.get? a=none):H a=none:=by
 cases q:H a with
 | none=>rfl
 | some u=>obtain ⟨o,z⟩:=(x a u q).there;rw [e] at z;cases z
section
variable {X:Cx}{pins:List (Addr×Obj)}{σ:St}{H:Hp}{s:Shared}{h':Heap}
theorem aa.laidN {a:Addr}{o:HO}{t':Nat} (I:aa X pins σ H s) (k:∀b u,s.heap.get? b=some u→h'.get? b=some u) (hn:s.heap.get? a=none) (new:bc X.prog X.w (aL H a o) h' a o) :
 aa X pins σ (aL H a o) { s with heap:=h',toks:=t' }:=by
 have hH:=I.hok.none' hn
 have ne:∀{b:Addr}{u:HO},H b=some u→b≠a:=fun q z=>by rw [z,hH] at q;cases q
 refine I.un ⟨fun b u q _ _ _=>k b u q,fun b u q _ _ _=>⟨u.slots,k b u q⟩,fun b u q n _=>?_,fun b u q _=>⟨u,k b u q⟩,fun b xs q=>?_,fun b u xs q=>?_,fun b ps q=>⟨#[],?_⟩⟩ fun b u e=>?_
 ·rw [am (fun z=>by rw [z,hn] at q;cases q)];exact n
 ·rw [am (ne q)];exact q
 ·rw [am (ne q)];exact q
 ·rw [am (ne q),q];simp
 ·by_cases hb:b=a
  ·subst hb;rw [ai] at e;cases e;exact new
  ·rw [am hb] at e
   exact (I.hok b u e).stay (fun c v _ q=>k c v q) (fun c q=>by rw [am (ne q)];exact q) fun c xs q=>by rw [am (ne q)];exact q
end
def tm (x C:Addr) (dx:Option Addr) (h:Heap):Prop:=aV fun a0 sl=>h.get? x=some ⟨.ref C,dx,.fields #[a0,.none,.none,.none,.bool false,.none],sl⟩
def fE (x C:Addr) (dx:Option Addr):HO:=.ext (tm x C dx)
theorem xM {P:Program}{w:World}{H:Hp}{h:Heap}{x C:Addr}{dx:Option Addr} (e:tm x C dx h):bc P w H h x (fE x C dx):=
 ⟨e,let ⟨_,_,q⟩:=e;⟨_,q⟩,fun h1 h2 ⟨a0,sl,q⟩ k=>⟨a0,sl,k _ q⟩⟩
theorem pO {P:Program}{w:World}{H:Hp}{h:Heap}{x C:Addr}{dx:Option Addr} (ok:dc P w H h) (e:H x=some (fE x C dx)):tm x C dx h:=(ok x _ e).1
section
variable {X:Cx}{C f:Addr}{x:Str}{p pos:Pos}{e:Expr}{es:List Expr}{t:TA}{k:Nat}{fd:FuncData}{ps:List Str}{sp:Sp}{E:XK}
def HE (C:Addr) (sp:Sp) (t:TA):TE:=fun σ H Q=>t σ H fun vs H1=>vs.length≤10000∧∀y H',Nw H1 y (fE y C none) H'→sp (.ref y :: vs) H' (fun v H2=>v=.non∧Q (.ref y) H2) E0
theorem Ed {K:PySem.W.Frag}{h:Heap}{f:Addr} (KX:K.In h) (q:PySem.W.isFn K (.ref f)=true):∃o,h.get? f=some o∧o.cls=.type "function" := by
 unfold PySem.W.isFn at q
 rw [beq_iff_eq] at q
 unfold PySem.W.typeIn at q
 obtain ⟨o,e,z⟩:=Option.map_eq_some_iff.mp q
 exact ⟨o,KX _ _ e,z⟩
theorem Bv {pins:List (Addr×Obj)}{σ:St}{H:Hp}{s:Shared}{Q:VK}{us:List Value}{vs:List V} (q:bL X.K C (some (.ref f))=true) (fn:PySem.W.isFn X.K (.ref f)=true) (F:aZ X.prog X.w X.K X.mg X.base CX0 k f fd ps sp) (hr:cy (k+1) X.A) (hb:fM X.K fd ps [])
 (I:aa X pins σ H s) (r:aC vs us) (hl:vs.length≤10000) (h:∀y H',Nw H y (fE y C none) H'→sp (.ref y :: vs) H' (fun v H2=>v=.non∧Q (.ref y) H2) E0):wpAny (model X.prog X.w) X.A (call (.ref C) us) (EP X pins σ Q) X.xe s:=by
 obtain ⟨nm,qn,N,bs,bm,hd,sn,sb,ab,cl,dd,k0,k1,k2,k3,k5,mN,eC,eN,T,eI⟩:=ya I.kIn q
 obtain ⟨oI,ef,ec⟩:=Ed I.kIn fn
 have FB:=PySem.F.excBase_ValueError
 obtain ⟨hp,gs,dr,tk,os⟩:=s
 refine Aa FB T eC eN eI ef ec (by rw [←r.length];exact eJ hl) fun h1 y m=>?_
 obtain ⟨a0,e1,_,_⟩:=m.there
 have I2:=I.laidN (t':=tk) m.keeps m.new (xM (H:=aL H y (fE y C none)) ⟨_,_,e1⟩)
 have hq:=h y _ (.mk' (I.hok.none' m.new))
 have r2:aC (V.ref y :: vs) (Value.ref y :: us):=.cons rfl r
 have ln:(Value.ref y :: us).length=ps.length:=by rw [←r2.length];exact F.len _ _ _ _ hq
 have hbb:=hb _ (Value.ref y :: us) I2.kIn (by rw [List.append_nil];exact ln)
 rw [List.append_nil] at hbb
 refine wpAny_call (codeAny_mono (F.run _ X.stack _ _ ⟨Value.ref y :: us,[]⟩ (Value.ref y :: us) _ _ E0 (hr.make C us []) (I2.env0.make C us []) hbb r2 hq) fun rs s' hq'=>?_)
 cases rs with
 | error z=>exact hq'.elim
 | ok fl=>
  cases fl with
  | ret u=>
   obtain ⟨v,H',I3,rv,ev,q3⟩:=I2.after hq'
   subst ev
   exact ⟨rv,⟨V.ref y,H',I3,rfl,q3⟩⟩
  | next=>exact False.elim hq'
  | brk=>exact False.elim hq'
  | cont=>exact False.elim hq'
theorem Da (q:bL X.K C (some (.ref f))=true) (fn:PySem.W.isFn X.K (.ref f)=true) (kp:PySem.W.keepIn X.K (.ref C)=true) (F:aZ X.prog X.w X.K X.mg X.base CX0 k f fd ps sp) (hr:cy (k+1) X.A) (hb:fM X.K fd ps []) (hg:Gl X x) (hm:X.mg x=some (.ref C))
 (ha:PA X (e :: es) t) (hdb:(x==("__debug__" : Str))=false:=by decide) (he:starEach (e :: es) X.env=(false,eval e X.env) :: starEach es X.env:=by rfl) (hpl:(backTo pos (starEach es X.env)).any (·.1)=false:=by rfl):PE X (.Call (.Name x p) (e :: es) [] pos) (HE C sp t):=by
 intro pins s σ H Q I h
 refine wpAny_Call_Name_kw (km I hg hm ?_ hdb)
 exact PySem.W.callWith_K (h₀:=X.base) I.ok.mod.kin kp (aK (ha pos pins s σ H _ I h) fun us s1 ⟨vs,H1,I1,r,hl,q1⟩=>⟨I1.kIn,Bv q fn F hr hb I1 r hl q1⟩) he hpl
theorem vt {h:Heap}{y C:Addr} (e:tm y C none h):aV fun ox a0=>PySem.W.InstAt h y ox C none∧ox.data=.fields #[a0,.none,.none,.none,.bool false,.none]:=by
 obtain ⟨a0,sl,q⟩:=e
 exact ⟨_,a0,⟨q,rfl,rfl,trivial⟩,rfl⟩
theorem aa.exc {pins:List (Addr×Obj)}{σ:St}{H:Hp}{s:Shared}{h':Heap}{y C:Addr}{dx:Option Addr}{t':Nat} (I:aa X pins σ H s) (e:H y=some (fE y C dx)) (k:∀b o,b≠y→s.heap.get? b=some o→h'.get? b=some o) {dx':Option Addr} (n:tm y C dx' h'):aa X pins σ (aL H y (fE y C dx')) { s with heap:=h',toks:=t' }:=
 I.write (x:=y) (e:=y) (by rw [e];exact trivial) (.inl rfl) k (let ⟨_,_,q⟩:=n;⟨_,q⟩) (xM n)
theorem mM {H:Hp}{a:Addr}{o:HO} (h:H a=some o):aL H a o=H:=by
 funext b
 unfold aL
 split
 ·rename_i z;rw [z,h]
 ·rfl
abbrev yJ (K:PySem.W.Frag) (B:Addr):Bool:=PySem.W.specialIn K (.ref B) "__getattribute__" == some (some (.builtin "type.__getattribute__")) && PySem.W.readsIn K B (.type "type") && (match PySem.W.findCls K (.ref B) (.type "type") "__init__" with | some (.val v)=>v==.builtin "ValueError.__init__" | _=>false)
def Fx (K:PySem.W.Frag) (t:TA):TE:=fun σ H Q=>t σ H fun vs H1=>mf fun y u C ini=>vs=[.ref y,u]∧H1 y=some (fE y C none)∧bL K C ini=true∧Q .non H1
theorem AX {B:Addr}{pl:Sem Bool}{apos:Pos} (q:yJ X.K B=true) (hg:Gl X x) (hm:X.mg x=some (.ref B)) (ha:PA X (e :: es) t) (hdb:(x==("__debug__" : Str))=false:=by decide)
 (hst:starEach (e :: es) X.env=(false,eval e X.env) :: starEach es X.env:=by rfl) (hpl:(backTo pos (starEach es X.env)).any (·.1)=false:=by rfl)
 (ht:eval (.Call (.Attribute (.Name x p) "__init__" apos) (e :: es) [] pos) X.env=(do
  let ov ←eval (.Name x p) X.env
  standAt apos.atName
  let (f,first) ←holding [ov] (getMethod ov "__init__" pl)
  callWith pos f first (backTo pos (starEach (e :: es) X.env)) (backToKw pos (keywordEach [] X.env))):=by rfl) :
 PE X (.Call (.Attribute (.Name x p) "__init__" apos) (e :: es) [] pos) (Fx X.K t):=by
 intro pins s σ H Q I h
 unfold yJ at q
 rw [Bool.and_eq_true,Bool.and_eq_true,beq_iff_eq] at q
 obtain ⟨⟨q1,q2⟩,q3⟩:=q
 refine PySem.W.methodCall_KW (pl:=pl) (km I hg hm ?_ hdb) ht
 cases e3:PySem.W.findCls X.K (.ref B) (.type "type") "__init__" with
 | none=>rw [e3] at q3;cases q3
 | some r=>
  cases r with
  | get g a o tp=>rw [e3] at q3;cases q3
  | val v=>
   rw [e3] at q3
   obtain rfl:=beq_iff_eq.mp (show (v==Value.builtin "ValueError.__init__")=true from q3)
   refine PySem.W.method_cls I.kIn q1 (PySem.W.cls_value I.kIn q2 e3 rfl ?_)
   have I1:aa X pins σ H { s with toks:=s.toks+1 }:=I.tok _
   refine PyProof.Rows.callWith_builtin1 (aK (ha pos pins _ σ H _ I1 h) fun us s1 ⟨vs,H1,I2,r,q4⟩=>?_) hst hpl
   obtain ⟨y,u,C,ini,rfl,hy,hC,k⟩:=q4
   obtain ⟨uy,uu,rfl,r1,r2⟩:=pE r
   cases r1
   obtain ⟨ox,a0,J,hf⟩:=vt (pO I2.hok hy)
   refine FT I2.kIn J hf hC fun h' e1 kp=>?_
   have I3:=I2.exc (t':=s1.toks) hy kp (dx':=none) ⟨_,ox.slots,by
    rw [e1,J.cls]
    have:ox.dict=none:=by
     have z:=J.dict
     cases q:ox.dict with
     | none=>rfl
     | some d=>rw [q] at z;exact z.elim
    rw [this]⟩
   rw [mM hy] at I3
   exact ⟨.non,H1,I3,rfl,k⟩
abbrev iH (K:PySem.W.Frag) (C:Addr) (f:Str):Bool:=mK K C && (PySem.W.clsIn K C).any (·.hasDict) && PySem.W.findIn K (.ref C) f==some none
def GP (K:PySem.W.Frag) (ta tv:TE) (f:Str):TS:=fun D σ H=>tv σ H fun v H1=>ta σ H1 fun y H2=>aV fun a C=>y=.ref a∧H2 a=some (fE a C none)∧f7 K C f=true∧∀dx H',H2 dx=none→dx≠a→H'=aL (aL H2 dx (.xd [(f,v)])) a (fE a C (some dx))→D.nx σ H'
theorem C1 {o value:Expr}{ta tv:TE}{f:Str}{pos':Pos} (ha:PE X o ta) (hv:PE X value tv) (hs:swapsWith value (some (.Attribute o f pos')) pos.line X.env=pure false):PS X (.Assign [.Attribute o f pos'] value pos) (GP X.K ta tv f):=by
 intro pins s σ H D I h
 refine plainObj_wpAny_Assign_Attribute (aK (hv pins s σ H _ I h) fun u s1 ⟨v,H1,I1,ry,q⟩=>aK (ha pins s1 σ H1 _ I1 q) fun ov s2 ⟨y,H2,I2,rx,a,C,ex,ea,g,q2⟩=>?_) hs
 subst ex
 obtain rfl:ov=Value.ref a:=rx
 obtain ⟨ox,a0,J,hf⟩:=vt (pO I2.hok ea)
 refine GY I2.kIn J hf g fun h' tk n1 e1 kp=>?_
 have nd:s2.heap.get? s2.heap.objs.size=none:=Heap.get?_none_of_le (Nat.le_refl _)
 have na:s2.heap.objs.size≠a:=Nat.ne_of_gt (Heap.lt_size J.at_)
 have fr:H2 s2.heap.objs.size=none:=I2.hok.fresh (Nat.le_refl _)
 have ne:tm a C (some s2.heap.objs.size) h':=⟨a0,ox.slots,by rw [e1,J.cls,hf]⟩
 obtain ⟨od,es,ep,h1,h2⟩:=id n1
 have h3:(s2.heap.push od).get? s2.heap.objs.size=some od:=Heap.get?_push_size _ (Heap.get?_some_iff.mp h1).2
 have I3:aa X pins σ (aL H2 s2.heap.objs.size (.xd [(f,v)])) { s2 with heap:=s2.heap.push od,toks:=tk }:=I2.laid (fun b o z=>Heap.get?_push_of_some _ z) (Nat.le_refl _) (show bc X.prog X.w _ _ _ (.xd [(f,v)]) from ⟨_,n1.at fun o z=>by rw [h1] at z;cases z;exact h3,fun y=>by
  by_cases c:y=f
  ·subst c
   rw [if_pos rfl]
   simp only [List.lookup,beq_self_eq_true]
   exact ry
  ·rw [if_neg c]
   have:(y==f)=false:=beq_eq_false_iff_ne.mpr c
   simp only [List.lookup,this]
   exact trivial⟩)
 have ea3:aL H2 s2.heap.objs.size (.xd [(f,v)]) a=some (fE a C none):=by rw [am (Ne.symm na)];exact ea
 have I4:=I3.exc (t':=tk) (h':=h') ea3 (fun b o nb z=>by
  by_cases c:b=s2.heap.objs.size
  ·subst c
   rw [h3] at z
   cases z
   exact h1
  ·rw [Heap.get?_push_ne _ _ _ c] at z
   exact kp b o nb z) ne
 exact ⟨σ,_,I4,q2 _ _ fr na rfl⟩
theorem eM (hg:Gl X x) (hm:X.mg x=some (.ref C)) (hdb:(x==("__debug__" : Str))=false:=by decide):PE X (.Name x p) (tC (.ref C)):=fun pins s σ H Q I h=>km I hg hm ⟨.ref C,H,I,rfl,h⟩ hdb
def AM:V→Option Value
 | .ref a=>some (.ref a)
 | .ty T=>some (.type T)
 | _=>none
def IX (H:Hp) (a C:Addr) (fs:List (Str×V)):Prop:=(fs=[]∧H a=some (fE a C none))∨∃dx,H a=some (fE a C (some dx))∧H dx=some (.xd fs)
end
theorem oR:bootBuiltins "ValueError" = some (.type "ValueError"):=by nofun
def pU:Stmt→Nat→Stmt
 | .ClassDef _ _ _ body _ _ _ _ _ _ _,j=>body.getD j (.Pass ⟨0,0,0,0⟩)
 | _,_=>.Pass ⟨0,0,0,0⟩
def mL (K:PySem.W.Frag) (cs:List Addr) (g:Addr):Bool:=decide cs.Nodup && cs.all fun c=>mP K c && (PySem.W.kitOne K (.ref c) (.ref g)==some true && (PySem.W.kitOne K (.ref c) (.type "ValueError")==some true && cs.all fun d=>PySem.W.kitOne K (.ref c) (.ref d)==some (decide (c=d))))
theorem Bo {K:PySem.W.Frag}{cs:List Addr}{g:Addr} (h:mL K cs g=true):cs.Nodup:=of_decide_eq_true (Bool.and_eq_true _ _▸h).1
theorem vI {K:PySem.W.Frag}{cs:List Addr}{g c:Addr} (h:mL K cs g=true) (hc:c∈cs):mP K c=true∧PySem.W.kitOne K (.ref c) (.ref g)=some true∧PySem.W.kitOne K (.ref c) (.type "ValueError")=some true∧∀d∈cs,PySem.W.kitOne K (.ref c) (.ref d)=some (decide (c=d)):=by
 unfold mL at h
 rw [Bool.and_eq_true,List.all_eq_true] at h
 have z:=h.2 c hc
 obtain ⟨z1,z⟩:=Bool.and_eq_true_iff.mp z
 obtain ⟨z2,z⟩:=Bool.and_eq_true_iff.mp z
 obtain ⟨z3,z⟩:=Bool.and_eq_true_iff.mp z
 exact ⟨z1,beq_iff_eq.mp z2,beq_iff_eq.mp z3,fun d hd=>beq_iff_eq.mp (List.all_eq_true.mp z d hd)⟩
section
variable {X:Cx}
end
def pp (h:Heap) (a T:Addr) (C:Value) (dx:Option Addr) (fl:Value):Prop:=
 mf fun vs sl oT ts=>h.get? a=some ⟨C,dx,.fields vs,sl⟩∧vs[1]?=some (.ref T)∧T≠a∧h.get? T=some oT∧oT.data=.fields ts∧ts[3]?=some fl
def Kp (h h':Heap) (bad fs:List Addr):Prop:=∀b o,b∉bad→h.get? b=some o→(∃sl,h'.get? b=some { o with slots:=sl })∧(b∉fs→h'.get? b=some o)
def Fs (head:Value) (L:Addr) (pl:List Value):Obj:={ cls:=.type "traceback",dict:=none,data:=.fields ([head,.ref L,.none,rawInt L,.none]++(if pl.isEmpty then List.replicate 6 Value.none else pl)).toArray }
section
variable {M:Model}{A:Around}{E:Value→Shared→Prop}{s:Shared}{base:Heap}{env:Env}{outer:List Env}{L a T:Addr}{C head:Value}{dx:Option Addr}{vs:Array Value}{sl:Array (Option Value)}{hn:Bool}{Q:Unit→Shared→Prop}
theorem tR (hfr:A.frames=some (env :: outer)) (hl:s.heap.FunFrames base (env :: outer)) (hf:env.frame=some L) (he:s.heap.get? a=some ⟨C,dx,.fields vs,sl⟩) (hz:1<vs.size)
 (h:∀h' T,pp h' a T C dx (rawInt L)→T=s.heap.objs.size→Kp s.heap h' [a] (gU (env :: outer))→Q () { s with heap:=h' }) :
 wpAny M A (do let f ←frameOf env;let pl ←entryPlaceOf L hn;let b ←EntryCells.newEntry head f .none (rawInt L) .none pl;setField (.ref a) 1 b) Q E s:=by
 have na:a∉gU (env :: outer):=fun z=>by
  obtain ⟨_,o,ho,q⟩:=hl.mem z
  rw [he] at ho
  cases ho
  exact q vs rfl
 refine wpAny_bind (wpAny_frameOf_fun hfr hl hf fun h1 s1=>wpAny_bind (wpAny_entryPlaceOf fun pl hp=>?_))
 have e1:h1.get? a=some ⟨C,dx,.fields vs,sl⟩:=(s1.2.1 a na).trans he
 unfold EntryCells.newEntry newFields
 refine wpAny_bind (wpAny_newObj_type ?_ (hp.sizeOk5 _ _ _ _ _))
 show wpAny M A (setField (.ref a) 1 (.ref h1.objs.size)) Q E { s with heap:=h1.push (Fs head L pl) }
 have e2:=Heap.get?_push_of_some (h:=h1) (Fs head L pl) e1
 have nT:h1.objs.size≠a:=Nat.ne_of_gt (Heap.lt_size e1)
 refine wpAny_setField e2 rfl hz (h _ h1.objs.size ⟨vs.setIfInBounds 1 (.ref h1.objs.size),sl,Fs head L pl,_,?_,?_,nT,?_,rfl,?_⟩ s1.1 fun b o nb hb=>?_)
 ·exact Heap.get?_update_self _ e2 rfl
 ·simp [hz]
 ·rw [Heap.get?_update_other _ _ (Ne.symm nT)]
  exact Heap.get?_push_size h1 rfl
 ·rw [List.getElem?_toArray,List.getElem?_append_left (by show 3<5;decide)]
  rfl
 ·have nb':a≠b:=fun z=>nb (by simp [z])
  obtain ⟨sl',q⟩:=s1.2.2 b o hb
  refine ⟨⟨sl',?_⟩,fun nf=>?_⟩
  ·rw [Heap.get?_update_other _ _ nb']
   exact Heap.get?_push_of_some _ q
  ·rw [Heap.get?_update_other _ _ nb']
   exact Heap.get?_push_of_some _ ((s1.2.1 b nf).trans hb)
theorem yo (hfr:A.frames=some (env :: outer)) (hl:s.heap.FunFrames base (env :: outer)) (hf:env.frame=some L) (he:s.heap.get? a=some ⟨C,dx,.fields vs,sl⟩) (h1:vs[1]?=some .none)
 (h:∀h' T,pp h' a T C dx (rawInt L)→T=s.heap.objs.size→Kp s.heap h' [a] (gU (env :: outer))→Q () { s with heap:=h' }):wpAny M A (noteFrame (.ref a) env) Q E s:=by
 unfold noteFrame
 simp only [hf]
 refine wpAny_bind (wpAny_field he rfl h1 ?_)
 rw [if_neg (by decide)]
 exact tR hfr hl hf he (Array.getElem?_eq_some_iff.mp h1).1 h
theorem Ah (hfr:A.frames=some (env :: outer)) (hl:s.heap.FunFrames base (env :: outer)) (hf:env.frame=some L) (ht:pp s.heap a T C dx .none)
 (h:∀h' T',pp h' a T' C dx (rawInt L)→T'=s.heap.objs.size→Kp s.heap h' [a,T] (gU (env :: outer))→Q () { s with heap:=h' }):wpAny M A (noteFrame (.ref a) env) Q E s:=by
 obtain ⟨vs,sl,oT,ts,he,h1,ne,hT,hd,h3⟩:=ht
 unfold noteFrame
 simp only [hf]
 refine wpAny_bind (wpAny_field he rfl h1 ?_)
 rw [if_pos (show (Value.ref T != Value.none)=true by simp)]
 refine wpAny_bind (wpAny_field hT hd h3 ?_)
 rw [if_neg (show ¬((Value.none==rawInt L)=true) by simp [rawInt])]
 refine wpAny_bind (wpAny_setField hT hd (Array.getElem?_eq_some_iff.mp h3).1 ?_)
 have ot:∀b,b≠T→(s.heap.update T (Obj.mapFields (·.setIfInBounds 3 Value.none))).get? b=s.heap.get? b:=fun b nb=>Heap.get?_update_other _ _ (Ne.symm nb)
 have nr:∀b o,s.heap.get? b=some o→(∀vs,o.data≠.fields vs)→b≠T:=fun b o hb q z=>by
  rw [z,hT] at hb
  cases hb
  exact q ts hd
 refine tR hfr (hl.of_keeps fun b o hb q=>⟨o,(ot b (nr b o hb q)).trans hb,rfl⟩) hf ((ot a (Ne.symm ne)).trans he) (Array.getElem?_eq_some_iff.mp h1).1 fun h' T' t z k=>h h' T' t (z.trans (Heap.size_after_update ..)) fun b o nb hb=>?_
 have n1:b∉[a]:=fun z=>nb (by simp [List.mem_singleton.mp z])
 have n2:b≠T:=fun z=>nb (by simp [z])
 exact k b o n1 ((ot b n2).trans hb)
theorem sx {fl:Value} (ht:pp s.heap a T C dx fl) (h:∀h',pp h' a T C dx .none→Kp s.heap h' [T] []→Q () { s with heap:=h' }):wpAny M A (setFlight (.ref a) none) Q E s:=by
 obtain ⟨vs,sl,oT,ts,he,h1,ne,hT,hd,h3⟩:=ht
 unfold setFlight
 refine wpAny_bind (wpAny_field he rfl h1 ?_)
 rw [if_pos (show (Value.ref T != Value.none)=true by simp)]
 have z3:=(Array.getElem?_eq_some_iff.mp h3).1
 have dT:=Obj.data_mapFields hd (·.setIfInBounds 3 Value.none)
 refine wpAny_setField hT hd z3 (h _ ⟨vs,sl,_,_,?_,h1,ne,Heap.get?_update_self _ hT (Obj.isFreed_of_fields dT),dT,by simp [z3]⟩ fun b o nb hb=>?_)
 ·exact (Heap.get?_update_other _ _ ne).trans he
 ·have nb':T≠b:=fun z=>nb (by simp [z])
  have q:=(Heap.get?_update_other s.heap (Obj.mapFields (·.setIfInBounds 3 ((none:Option Addr).elim Value.none fun f=>rawInt f))) nb').trans hb
  exact ⟨⟨o.slots,q⟩,fun _=>q⟩
theorem Kp.trans0 {h h1 h2:Heap}{bad fs:List Addr}{T:Addr} (k:Kp h h1 bad fs) (k2:Kp h1 h2 [T] []) (n:h.objs.size≤T):Kp h h2 bad fs:=fun b o nb hb=>by
 have nT:b∉[T]:=fun z=>by
  have q:=Heap.lt_size hb
  rw [List.mem_singleton.mp z] at q
  exact absurd q (Nat.not_lt.mpr n)
 obtain ⟨⟨sl,q1⟩,q2⟩:=k b o nb hb
 exact ⟨⟨sl,(k2 b _ nT q1).2 (by simp)⟩,fun nf=>(k2 b _ nT (q2 nf)).2 (by simp)⟩
theorem wT (hfr:A.frames=some (env :: outer)) (hl:s.heap.FunFrames base (env :: outer)) (hf:env.frame=some L) (he:s.heap.get? a=some ⟨C,dx,.fields vs,sl⟩) (h1:vs[1]?=some .none)
 (h:∀h' T,pp h' a T C dx .none→T=s.heap.objs.size→Kp s.heap h' [a] (gU (env :: outer))→Q () { s with heap:=h' }):wpAny M A (leaving env (.ref a)) Q E s:=by
 unfold leaving
 exact wpAny_bind (yo hfr hl hf he h1 fun h' T t z k=>sx t fun h2 t2 k2=>h h2 T t2 z (k.trans0 k2 (Nat.le_of_eq z.symm)))
end
def jW (x C:Addr) (dx:Option Addr):HO:=.ext fun h=>aV fun vs sl=>h.get? x=some ⟨.ref C,dx,.fields vs,sl⟩
theorem Cu {P:Program}{w:World}{H:Hp}{h:Heap}{x C:Addr}{dx:Option Addr} (e:aV fun vs sl=>h.get? x=some ⟨.ref C,dx,.fields vs,sl⟩):bc P w H h x (jW x C dx):=
 ⟨e,let ⟨_,_,q⟩:=e;⟨_,q⟩,fun h1 h2 ⟨vs,sl,q⟩ k=>⟨vs,sl,k _ q⟩⟩
theorem qH {P:Program}{w:World}{H:Hp}{h:Heap}{x C:Addr}{dx:Option Addr} (ok:dc P w H h) (e:H x=some (jW x C dx)):aV fun vs sl=>h.get? x=some ⟨.ref C,dx,.fields vs,sl⟩:=(ok x _ e).1
theorem CF {fs ch:List Addr}{H:Hp}{h h':Heap}{a:Addr}{φ:Heap→Prop}{o:HO} (ea:H a=some (.ext φ)) (k:Kp h h' (a :: ch) fs) (th:∃u,h'.get? a=some u):Un fs ch H (aL H a o) h h':=by
 have ne:∀{b:Addr},H b=none→b≠a:=fun q z=>by rw [z,ea] at q;cases q
 have nc:∀{b:Addr},b≠a→b∉ch→b∉a :: ch:=fun n1 n2 z=>(List.mem_cons.mp z).elim n1 n2
 refine ⟨fun b u q n f x=>(k b u (nc (ne n) x) q).2 f,fun b u q n _ x=>(k b u (nc (ne n) x) q).1,fun b u q n _=>by rw [am (ne n)];exact n,fun b u q x=>?_,fun b xs q=>?_,fun b u xs q=>?_,fun b ps q=>⟨#[],?_⟩⟩
 ·by_cases e:b=a
  ·rw [e];exact th
  ·obtain ⟨⟨sl,z⟩,_⟩:=k b u (nc e x) q
   exact ⟨_,z⟩
 ·rw [am (fun z=>by rw [z,ea] at q;cases q)];exact q
 ·rw [am (fun z=>by rw [z,ea] at q;cases q)];exact q
 ·rw [am (fun z=>by rw [z,ea] at q;cases q),q];simp
theorem A3 {P:Program}{w:World}{fs ch:List Addr}{H:Hp}{h h':Heap}{a:Addr}{φ:Heap→Prop}{o:HO} (ok:dc P w H h) (ea:H a=some (.ext φ)) (k:Kp h h' (a :: ch) fs) (ff:∀b∈fs,H b=none) (fc:∀b∈ch,H b=none)
 (nw:bc P w (aL H a o) h' a o):dc P w (aL H a o) h':=fun b u e=>by
 by_cases hb:b=a
 ·subst hb
  rw [ai] at e
  cases e
  exact nw
 ·rw [am hb] at e
  refine (ok b u e).stay (fun c v cd q=>?_) (fun c q=>?_) fun c xs q=>?_
  ·have hc:H c≠none∧c≠a:=by
    rcases cd with rfl | cd
    ·exact ⟨by rw [e];simp,hb⟩
    ·exact ⟨by rw [cd];simp,fun z=>by rw [z,ea] at cd;cases cd⟩
   exact (k c v (fun z=>(List.mem_cons.mp z).elim hc.2 fun z=>hc.1 (fc c z)) q).2 fun z=>hc.1 (ff c z)
  ·rw [am (fun z=>by rw [z,ea] at q;cases q)];exact q
  ·rw [am (fun z=>by rw [z,ea] at q;cases q)];exact q
section
variable {X:Cx}{pins:List (Addr×Obj)}{σ:St}{H:Hp}{s:Shared}{h':Heap}{a T C:Addr}{dx:Option Addr}{φ:Heap→Prop}{ch:List Addr}{fl:Value}
theorem pp.there (t:pp h' a T (.ref C) dx fl):aV fun vs sl=>h'.get? a=some ⟨.ref C,dx,.fields vs,sl⟩:=let ⟨vs,sl,_,_,e,_⟩:=t;⟨vs,sl,e⟩
theorem aa.noted (I:aa X pins σ H s) (ea:H a=some (.ext φ)) (k:Kp s.heap h' (a :: ch) (gU X.stack)) (t:aV fun vs sl=>h'.get? a=some ⟨.ref C,dx,.fields vs,sl⟩) (fc:∀b∈ch,H b=none)
 (hch:∀b∈ch,(b∈X.ex∨X.s₀.heap.objs.size≤b)∧b≠X.env.locals∧(∀x c,X.env.cells.lookup x=some c→c≠b)∧∀p∈X.pn++pins,p.1≠b):aa X pins σ (aL H a (jW a C dx)) { s with heap:=h' }:=
 I.call' (ch:=ch) rfl (CF ea k (let ⟨_,_,e⟩:=t;⟨_,e⟩)) (A3 I.hok ea k I.stkFree fc (Cu t)) I.bare hch
theorem aa.far (I:aa X pins σ H s) (n:s.heap.objs.size≤T):(T∈X.ex∨X.s₀.heap.objs.size≤T)∧T≠X.env.locals∧(∀x c,X.env.cells.lookup x=some c→c≠T)∧∀p∈X.pn++pins,p.1≠T:=by
 have lt:∀{b:Addr}{u:Obj},s.heap.get? b=some u→b≠T:=fun q z=>by
  have q':=Heap.lt_size q
  rw [z] at q'
  exact absurd q' (Nat.not_lt.mpr n)
 refine ⟨.inr (Nat.le_trans I.sz n),?_,fun x c e=>?_,fun p hp=>lt (I.pin p hp).1⟩
 ·obtain ⟨m,⟨o,es,ep,ho,_⟩,_⟩:=I.loc
  exact Ne.symm (lt ho)
 ·obtain ⟨v,q⟩:=I.cell x c e
  obtain ⟨o,ho,_⟩:=q
  exact lt ho
end
def wb (P:Program) (w:World):jL:=fun outer H s E e s'=>xw fun a T C dx H'=>e=.ref a∧s'.os=s.os∧AllBare s'.gens∧Un (gU outer) [] H H' s.heap s'.heap∧dc P w H' s'.heap∧pp s'.heap a T (.ref C) dx .none∧s.heap.objs.size≤T∧H' T=none∧H' a=some (jW a C dx)∧E (.ref C) dx H'
def zr (X:Cx) (E:XK):Prop:=∀pins σ H s a C dx,aa X pins σ H s→H a=some (fE a C dx)→E (.ref C) dx (aL H a (jW a C dx))→X.xe (.ref a) s
section
variable {P:Program}{w:World}{K:PySem.W.Frag}{mg:Str→Option Value}{base:Heap}{N:List Str}{qual:Str}{scope:Scope}{f:Addr}{cd:Value}{A:Around}{outer:List Env}{s:Shared}{H:Hp}{E:XK}
theorem Di:zr (oC (wb P w) P w K mg base N qual scope f cd A outer s H E) E:=by
 intro pins σ H1 s1 a C dx J ha hE
 obtain ⟨a0,sl,ea⟩:=pO J.hok ha
 refine wT (L:=s.heap.objs.size) J.ok.frames J.stack rfl ea rfl fun h' T' t' z k=>?_
 have J2:=J.noted ha (ch:=[]) k t'.there (fun b hb=>by cases hb) (fun b hb=>by cases hb)
 have nT:H1 T'=none:=J.hok.fresh (by rw [z];exact Nat.le_refl _)
 exact ⟨a,T',C,dx,(),J2.os,J2.bare,J2.base,J2.hok,t',by rw [z];exact J.sz,by rw [am (fun q=>by rw [q,ha] at nT;cases nT)];exact nT,ai,hE⟩
end
section
variable {M:Model}{A:Around}{E:Value→Shared→Prop}{s:Shared}{env:Env}
theorem zf {x:Sem Value}{Q:Flow→Shared→Prop} (hh:A.handled=none)
 (h:wpAny M A x (fun v s1=>∃e a0 dx sl nm q C N bs bm hd sn sb ab cl dd k0 k1 k2 k3 k5 nw,v=.ref e∧bm.contains (.type "BaseException")=true∧s1.heap.get? C=some (excClassObj nm q C N bs bm hd sn sb ab cl dd k0 k1 k2 k3 k5 nw)∧
  s1.heap.get? e=some ⟨.ref C,dx,.fields #[a0,.none,.none,.none,.bool false,.none],sl⟩∧E (.ref e) s1) E s):wpAny M A (raiseStmt env (some x) none) Q E s:=by
 unfold raiseStmt
 refine wpAny_bind (wpAny_mono h (fun v s1 h1=>?_) fun _ _ x=>x)
 obtain ⟨e,a0,dx,sl,nm,q,C,N,bs,bm,hd,sn,sb,ab,cl,dd,k0,k1,k2,k3,k5,nw,rfl,hb,hC,he,hE⟩:=h1
 have hcB:(Value.ref C :: bm).contains (.type "BaseException")=true:=by rw [List.contains_cons,hb,Bool.or_true]
 obtain ⟨hp,g,d,tk,os⟩:=s1
 repeat
  first
   | (with_reducible refine wpAny_isSubtype_exc hC ?_
      rw [hcB])
   | (with_reducible refine wpAny_loadPart_at hC ?_)
   | (with_reducible refine wpAny_loadPart_at he ?_)
   | wp_step
 exact wpAny_raiseNew_none hh hE
end
section
variable {X:Cx}{e:Expr}{te:TE}{pos:Pos}{E:XK}
def DV (K:PySem.W.Frag) (E:XK) (te:TE):TS:=fun D σ H=>te σ H fun v H'=>mf fun a C dx ini=>v=.ref a∧H' a=some (fE a C dx)∧bL K C ini=true∧E (.ref C) dx (aL H' a (jW a C dx))
theorem Be (hc:X.calm=true) (hx:zr X E) (he:PE X e te):PS X (.Raise (some e) none pos) (DV X.K E te):=by
 intro pins s σ H D I h
 rw [arm_exec_Raise]
 refine wpAny_bind (wpAny_standAt ?_)
 show wpAny _ _ (raiseStmt X.env (some (do let v ←eval e X.env;standAt pos;pure v)) none) _ _ _
 refine zf (I.ok.hd hc) (wpAny_bind (aK (he pins s σ H _ I h) fun u s1 ⟨v,H1,I1,r,a,C,dx,ini,ev,ha,q,hE⟩=>wpAny_bind (wpAny_standAt (wpAny_pure ?_))))
 subst ev
 obtain rfl:u=Value.ref a:=r
 obtain ⟨nm,qn,N,bs,bm,hd,sn,sb,ab,cl,dd,k0,k1,k2,k3,k5,mN,eC,eN,T,_⟩:=ya I1.kIn q
 obtain ⟨a0,sl,ea⟩:=pO I1.hok ha
 exact ⟨a,a0,dx,sl,nm,qn,C,N,bs,bm,hd,sn,sb,ab,cl,dd,k0,k1,k2,k3,k5,(),T.hasType (by decide),eC,ea,hx pins σ H1 s1 a C dx I1 ha hE⟩
theorem PS.nox {st:Stmt}{t:TS} (h:PS X.nox st t):PS X st t:=fun pins s σ H D I hw=>wpAny_mono (h pins s σ H D (I.wish _) hw) (fun _ _ q=>q.unwish) fun _ _ z=>False.elim z
theorem kK.okX {P:Program}{w:World}{K:PySem.W.Frag}{mg:Str→Option Value}{base:Heap}{x qual:Str}{st:Stmt}{f:Addr}{fd:FuncData}{N ps:List Str}{k:Nat}{sp:Sp} (F:kK K x qual st f fd) (S:aF N ps (ap st)) (len:∀vs H Q E,sp vs H Q E→vs.length=ps.length)
 (hbody:∀(cdv:Value) (A:Around) (outer:List Env) (s:Shared) (H:Hp) (vs:List V) (Q:VK) (E:XK),cy k (A.deeper (envOfC qual (ap st) s.heap.objs.size f cdv))→sp vs H Q E→
  ∃t,j8 (oC (wb P w) P w K mg base N qual (ap st) f cdv A outer s H E) (mh st) t∧t { nx:=fun _ H'=>Q .non H',rt:=Q } (jB N vs) H):aZ P w K mg base (wb P w) (k+1) f fd ps sp:=by
 obtain ⟨oc,od,kV,doc,pm,an,cdv,ct,osl,rfl,lk,hcd⟩:=F.ex
 exact BC lk hcd S len fun A outer s H vs Q E hr hsp=>hbody cdv A outer s H vs Q E hr hsp
end
section
variable {X:Cx}{pins:List (Addr×Obj)}{σ σ':St}{H:Hp}{s:Shared}{h':Heap}
theorem aa.locs {m':Str→Option Value}{t':Nat} (I:aa X pins σ H s) (hs:Heap.SameBut X.env.locals s.heap h') (hn:h'.Ns X.env.locals m') (hl:∀(i:Nat) (x:Str) (v:V),X.N[i]?=some x→σ'[i]?=some (some v)→xk X.env.scope x→∃u,aO v u∧Eh X.env h' m' x u) (ln:σ'.length=X.N.length) :
 aa X pins σ' H { s with heap:=h',toks:=t' }:=by
 have ne:∀{b:Addr}{o:Obj},X.s₀.heap.get? b=some o→b≠X.env.locals:=fun e=>Nat.ne_of_lt (Nat.lt_of_lt_of_le (Heap.lt_size e) I.ok.above)
 refine ⟨I.ok,I.os,I.bare,⟨fun b o e n hb hx=>(hs.2 b (ne e)).trans (I.base.keep b o e n hb hx),fun b o e n hb hx=>?_,I.base.free,fun b o e hx=>?_,I.base.tups,I.base.frzs,I.base.tbls⟩,⟨m',hn,hl⟩,fun y c e=>?_,I.free,I.freeC,fun p hp=>?_,fun b ob e=>?_,ln⟩
 ·obtain ⟨sl,q⟩:=I.base.slot b o e n hb hx
  exact ⟨sl,(hs.2 b (ne e)).trans q⟩
 ·obtain ⟨o',q⟩:=I.base.there b o e hx
  exact ⟨o',(hs.2 b (ne e)).trans q⟩
 ·obtain ⟨w',z⟩:=I.cell y c e
  exact ⟨w',z.sameBut hs (I.cne y c e)⟩
 ·obtain ⟨e,n,ne,nf,d⟩:=I.pin p hp
  exact ⟨(hs.2 p.1 ne).trans e,n,ne,nf,d⟩
 ·refine (I.hok b ob e).stay (fun c w' hc q=>(hs.2 c fun z=>?_).trans q) (fun _ q=>q) fun _ _ q=>q
  subst z
  have hf:=I.free
  rcases hc with rfl | hc
  ·rw [hf] at e;cases e
  ·rw [hf] at hc;cases hc
theorem pX {M:Model}{A:Around}{E:Value→Shared→Prop}{i:Nat}{x:Str}{pos:Pos}{Q:Unit→Shared→Prop} (I:aa X pins σ H s) (hN:X.N.Nodup) (hi:X.N[i]?=some x) (hk:X.env.scope.names.lookup x=some .local)
 (h:∀s',aa X pins (σ.set i none) H s'→Q () s'):wpAny M A (do bindName X.env x .none;unbindBehindTheSuite X.env x pos) Q E s:=by
 have iσ:i<σ.length:=by rw [I.len];exact (List.getElem?_eq_some_iff.mp hi).1
 refine wpAny_bind (wpAny_bindName (ij (v:=.non) (u:=.none) I hN hi (.inl hk) rfl (fun s1 I1=>?_) (.inr hk)))
 obtain ⟨m,hn,hl⟩:=id I1.loc
 have kl:X.env.kindOf x=some .local:=hk
 have hc:(X.env.scope.kind==.class || (X.env.scope.kind==.module && X.env.locals != X.env.globals))=false:=by rw [I.ok.kind];rfl
 have mx:∃u,m x=some u:=by
  obtain ⟨u,_,q⟩:=hl i x .non hi (by rw [List.getElem?_set_self iσ]) (.inl hk)
  rcases q with ⟨_,e⟩ | ⟨k,_⟩
  ·exact ⟨u,e⟩
  ·rw [kl] at k
   rcases k with k | k <;> cases k
 unfold unbindBehindTheSuite
 refine wpAny_onRaise ?_
 unfold unbindName
 refine wpAny_bind (wpAny_point (wpAny_bind ?_))
 unfold deleteName
 simp only [kl,hc]
 rw [if_neg (by decide)]
 obtain ⟨u,mx⟩:=mx
 refine wpAny_bind (wpAny_nsDel_keeps hn fun h2 v2 n2 s2=>?_)
 simp only [mx,if_true,Option.isSome_some,Bool.not_true,Bool.false_eq_true,if_false]
 refine wpAny_pure (wpAny_point (h _ (I1.locs s2 n2 (fun j y v e1 e2 e3=>?_) (by simpa using I.len))))
 have hj:j≠i:=fun z=>by
  rw [z,List.getElem?_set_self iσ] at e2
  cases e2
 rw [List.getElem?_set_ne (Ne.symm hj)] at e2
 obtain ⟨u',r',q⟩:=hl j y v e1 (by rw [List.getElem?_set_ne (Ne.symm hj)];exact e2) e3
 refine ⟨u',r',?_⟩
 rcases q with ⟨k,e⟩ | ⟨k,c,e,z⟩
 ·refine .inl ⟨k,?_⟩
  have ny:y≠x:=fun e=>hj (qF hN e1 (e▸hi))
  simp [ny,e]
 ·exact .inr ⟨k,c,e,z.sameBut s2 (I1.cne y c e)⟩
end
def pN (CX:jL) (X:Cx) (EE:St→XK):Prop:=∀(pins:List (Addr×Obj)) (σ:St) (H:Hp) (s:Shared) (e:Value) (s':Shared),aa X pins σ H s→CX X.stack H s (EE σ) e s'→X.xe e s'
section
variable {X:Cx}{CX:jL}{k:Nat}{f:Addr}{fd:FuncData}{ps:List Str}{sp:Sp}{EE:St→XK}{x:Str}{p pos:Pos}{e:Expr}{es:List Expr}{t:TA}
def E7 (sp:Sp) (EE:St→XK) (t:TA):TE:=fun σ H Q=>t σ H fun vs H1=>sp vs H1 Q (EE σ)
theorem A9 (F:aZ X.prog X.w X.K X.mg X.base CX k f fd ps sp) (hr:cy k X.A) (hg:Gl X x) (hm:X.mg x=some (.ref f)) (hk:PySem.W.keepIn X.K (.ref f)=true) (hb:fM X.K fd ps []) (hx:pN CX X EE)
 (ha:PA X (e :: es) t) (hdb:(x==("__debug__" : Str))=false:=by decide) (he:starEach (e :: es) X.env=(false,eval e X.env) :: starEach es X.env:=by rfl) (hpl:(backTo pos (starEach es X.env)).any (·.1)=false:=by rfl) :
 PE X (.Call (.Name x p) (e :: es) [] pos) (E7 sp EE t):=by
 intro pins s σ H Q I h
 refine wpAny_Call_Name_kw (km I hg hm ?_ hdb)
 refine PySem.W.callWith_K (h₀:=X.base) I.ok.mod.kin hk (aK (ha pos pins s σ H _ I h) fun us s1 ⟨vs,H1,I1,r,q⟩=>⟨I1.kIn,?_⟩) he hpl
 have hl:us.length=ps.length:=by rw [←r.length];exact F.len _ _ _ _ q
 have hbb:=hb s1 us I1.kIn (by rw [List.append_nil];exact hl)
 rw [List.append_nil] at hbb
 refine wpAny_call (codeAny_mono (F.run X.A X.stack s1 H1 ⟨us,[]⟩ us vs Q (EE σ) hr I1.env0 hbb r q) fun rs s' hq=>?_)
 cases rs with
 | error z=>exact hx pins σ H1 s1 z s' I1 hq
 | ok fl=>
  cases fl with
  | ret u=>exact I1.after hq
  | next=>exact False.elim hq
  | brk=>exact False.elim hq
  | cont=>exact False.elim hq
end
abbrev Cx.tr (X:Cx) (pn:List (Addr×Obj)) (xe:Value→Shared→Prop):Cx:={ X with pn:=pn,xe:=xe }
abbrev Cx.hn (X:Cx) (A:Around):Cx:={ X with A:=A,calm:=false,xe:=fun _ _=>False }
section
variable {X:Cx}{pins pins' pn:List (Addr×Obj)}{σ:St}{H:Hp}{s:Shared}{xe:Value→Shared→Prop}
theorem Cx.Ok.tr (ok:X.Ok):(X.tr pn xe).Ok:=⟨ok.mod,ok.kind,ok.glob,ok.blt,ok.above,ok.inj,ok.has,ok.cab,ok.hd,ok.frames,ok.stk,ok.exf,ok.bs,ok.bsz,ok.noex,ok.exfs,ok.funs,ok.frf⟩
theorem Cx.Ok.untr (ok:(X.tr pn xe).Ok):X.Ok:=⟨ok.mod,ok.kind,ok.glob,ok.blt,ok.above,ok.inj,ok.has,ok.cab,ok.hd,ok.frames,ok.stk,ok.exf,ok.bs,ok.bsz,ok.noex,ok.exfs,ok.funs,ok.frf⟩
theorem aa.tr (I:aa X pins σ H s):aa (X.tr (X.pn++pins) xe) [] σ H s:=⟨I.ok.tr,I.os,I.bare,I.base,I.loc,I.cell,I.free,I.freeC,fun p hp=>I.pin p (by rw [List.append_nil] at hp;exact hp),I.hok,I.len⟩
theorem aa.untr (I:aa (X.tr (X.pn++pins) xe) pins' σ H s):aa X pins σ H s:=⟨I.ok.untr,I.os,I.bare,I.base,I.loc,I.cell,I.free,I.freeC,fun p hp=>I.pin p (List.mem_append_left _ hp),I.hok,I.len⟩
theorem Cx.Ok.hn {A:Around} (ok:X.Ok) (hA:A.frames=X.A.frames):(X.hn A).Ok:=⟨ok.mod,ok.kind,ok.glob,ok.blt,ok.above,ok.inj,ok.has,ok.cab,(fun z=>by cases z),hA.trans ok.frames,ok.stk,ok.exf,ok.bs,ok.bsz,ok.noex,ok.exfs,ok.funs,ok.frf⟩
theorem aa.hn {A:Around} (I:aa X pins σ H s) (hA:A.frames=X.A.frames):aa (X.hn A) pins σ H s:=⟨I.ok.hn hA,I.os,I.bare,I.base,I.loc,I.cell,I.free,I.freeC,I.pin,I.hok,I.len⟩
theorem aa.unhn {A:Around} (I:aa (X.hn A) pins σ H s) (ok:X.Ok):aa X pins σ H s:=⟨ok,I.os,I.bare,I.base,I.loc,I.cell,I.free,I.freeC,I.pin,I.hok,I.len⟩
end
theorem Kp.weak {h h':Heap}{bad bad' fs fs':List Addr} (k:Kp h h' bad fs) (hb:∀b∈bad,b∈bad') (hf:∀b∈fs,b∈fs'):Kp h h' bad' fs':=fun b o nb q=>
 ⟨(k b o (fun z=>nb (hb b z)) q).1,fun nf=>(k b o (fun z=>nb (hb b z)) q).2 fun z=>nf (hf b z)⟩
def yj (X:Cx) (EE:St→XK) (e:Value) (s:Shared):Prop:=∃pins σ H a T C dx,e=.ref a∧aa X pins σ H s∧pp s.heap a T (.ref C) dx .none∧H T=none∧((T∈X.ex∨X.s₀.heap.objs.size≤T)∧T≠X.env.locals∧(∀x c,X.env.cells.lookup x=some c→c≠T)∧∀p∈X.pn++pins,p.1≠T)∧
 H a=some (jW a C dx)∧EE σ (.ref C) dx H
theorem GQ {X:Cx}{EE:St→XK}{Y:Cx} (h:X.xe=yj Y EE) (hY:∀{pins σ H s},aa X pins σ H s→aa Y pins σ H s):pN (wb X.prog X.w) X EE:=by
 intro pins σ H s e s' I q
 obtain ⟨a,T,C,dx,H',rfl,os,bare,un,hok,t,n,hT,ha,hE⟩:=q
 have J:=I.call' (ch:=[]) os un hok bare (fun b z=>by cases z)
 rw [h]
 exact ⟨pins,σ,H',a,T,C,dx,rfl,hY J,t,hT,(hY I).far n,ha,hE⟩
def hD (i:Nat) (D:dY):dY:={ nx:=fun σ H=>D.nx (σ.set i none) H,rt:=D.rt,bk:=fun σ H=>D.bk (σ.set i none) H,ct:=fun σ H=>D.ct (σ.set i none) H }
def x5 (K:PySem.W.Frag) (Cc:Addr) (i:Nat) (th:TS) (D:dY):St→XK:=fun σ cv dx H=>∀a C,cv=.ref C→H a=some (jW a C dx)→PySem.W.exmOne K (.ref C) (.ref Cc)=some true∧th (hD i D) (σ.set i (some (.ref a))) H
def ID (K:PySem.W.Frag) (Cc:Addr) (i:Nat) (tb:(St→XK)→TS) (th:TS):TS:=fun D σ H=>tb (x5 K Cc i th D) D σ H
section
variable {X:Cx}{body suite:List Stmt}{b0:Stmt}{x n:Str}{hpos pos np:Pos}{tb:(St→XK)→TS}{th:TS}{Cc:Addr}{i:Nat}
theorem FK (hst:X.stack=X.env :: X.outer) (hfr:X.env.frame=some X.env.locals) (hN:X.N.Nodup) (hi:X.N[i]?=some n) (hk:X.env.scope.names.lookup n=some .local) (hg:Gl X x) (hm:X.mg x=some (.ref Cc))
 (hb:∀(EE:St→XK) (pn:List (Addr×Obj)) (xe:Value→Shared→Prop),pN (wb X.prog X.w) (X.tr pn xe) EE→j8 (X.tr pn xe) body (tb EE)) (hs:∀A:Around,j8 (X.hn A) (b0 :: suite) th) (hdb:(x==("__debug__" : Str))=false:=by decide) :
 PS X (.Try body [.ExceptHandler (some (.Name x np)) (some n) (b0 :: suite) hpos] [] [] pos) (ID X.K Cc i tb th):=by
 intro pins s σ H D I h
 refine wpAny_Try_except ?_
 have hx:pN (wb X.prog X.w) (X.tr (X.pn++pins) (yj (X.tr (X.pn++pins) fun _ _=>False) (x5 X.K Cc i th D))) (x5 X.K Cc i th D):=GQ (X:=X.tr (X.pn++pins) (yj (X.tr (X.pn++pins) fun _ _=>False) (x5 X.K Cc i th D))) rfl fun J=>J.wish _
 refine wpAny_mono (hb _ _ _ hx [] s σ H D I.tr h) (fun f s1 q=>?_) fun e s1 q=>?_
 ·cases f with
  | next=>obtain ⟨σ',H',J,q⟩:=q;exact wpAny_execs_nil ⟨σ',H',J.untr,q⟩
  | brk=>obtain ⟨σ',H',J,q⟩:=q;exact ⟨σ',H',J.untr,q⟩
  | cont=>obtain ⟨σ',H',J,q⟩:=q;exact ⟨σ',H',J.untr,q⟩
  | ret u=>obtain ⟨v,σ',H',J,r,q⟩:=q;exact ⟨v,σ',H',J.untr,r,q⟩
 ·obtain ⟨pins',σ',H',a,T,C,dx,rfl,J0,t,hT,far,ha,hE⟩:=q
  have J:aa X pins σ' H' s1:=J0.untr
  obtain ⟨hm',hth⟩:=hE a C rfl ha
  have st:∀{h2:Heap}{bad:List Addr},Kp s1.heap h2 bad (gU (X.env :: X.outer))→Kp s1.heap h2 bad (gU X.stack):=fun k=>by rw [hst];exact k
  refine Ah (L:=X.env.locals) (J.ok.frames.trans (congrArg some hst)) (by have z:=J.stack;rw [hst] at z;exact z) hfr t fun h2 T2 t2 z2 k2=>?_
  have J2:=J.noted ha (ch:=[T]) (st k2) t2.there (fun b hb=>by rw [List.mem_singleton.mp hb];exact hT) (fun b hb=>by
   rw [List.mem_singleton.mp hb]
   exact ⟨far.1,far.2.1,far.2.2.1,fun p hp=>far.2.2.2 p (List.mem_append_left _ hp)⟩)
  rw [mM ha] at J2
  have n2:s1.heap.objs.size≤T2:=Nat.le_of_eq z2.symm
  have far0:=J.far n2
  have hT2:∀b∈[T2],H' b=none:=fun b hb=>by rw [List.mem_singleton.mp hb];exact J.hok.fresh n2
  have wk:∀{g g':Heap},Kp g g' [T2] []→Kp g g' [a,T2] (gU X.stack):=fun k=>k.weak (fun b hb=>List.mem_cons_of_mem _ hb) fun b hb=>by cases hb
  refine sx t2 fun h3 t3 k3=>?_
  have J3:=J2.noted ha (ch:=[T2]) (wk k3) t3.there hT2 (fun b hb=>by rw [List.mem_singleton.mp hb];exact far0)
  rw [mM ha] at J3
  refine wpAny_handleBy_cons (codeAny_handlers_test ?_) (by intro q;cases q)
  have J3h:=J3.hn (A:=X.A.mark (some (.ref a))) rfl
  refine km J3h hg hm ?_ hdb
  obtain ⟨vs,sl,ea⟩:=t3.there
  have LT:PySem.W.Looks (model X.prog X.w) h3 (typeOf (.ref a)) (.ref C):=(PySem.W.Looks.ld ea).andThen .now
  refine (PySem.W.exm_one J3.kIn LT hm').here ?_
  refine codeAny_handlers_suite_as (sx t3 fun h5 t5 k5=>?_)
  have J5:=J3.noted ha (ch:=[T2]) (wk k5) t5.there hT2 (fun b hb=>by rw [List.mem_singleton.mp hb];exact far0)
  rw [mM ha] at J5
  refine ij J5 hN hi (.inl hk) (v:=.ref a) (u:=.ref a) rfl (fun s6 J6=>?_) (.inr hk)
  refine wpAny_mono (hs _ pins s6 _ H' _ (J6.hn (A:=X.A.mark (some (.ref a))) rfl) hth) (fun f s7 q=>?_) fun _ _ z=>z.elim
  cases f with
  | next=>obtain ⟨σ7,H7,J7,q⟩:=q;exact pX (J7.unhn J.ok) hN hi hk fun s8 J8=>⟨_,_,J8,q⟩
  | brk=>obtain ⟨σ7,H7,J7,q⟩:=q;exact pX (J7.unhn J.ok) hN hi hk fun s8 J8=>⟨_,_,J8,q⟩
  | cont=>obtain ⟨σ7,H7,J7,q⟩:=q;exact pX (J7.unhn J.ok) hN hi hk fun s8 J8=>⟨_,_,J8,q⟩
  | ret u=>obtain ⟨v,σ7,H7,J7,r,q⟩:=q;exact pX (J7.unhn J.ok) hN hi hk fun s8 J8=>⟨v,_,_,J8,r,q⟩
end
section
variable {X:Cx}{C:Addr}{e:Expr}{pos:Pos}
def BQ (K:PySem.W.Frag) (ta:TE) (f:Str):TE:=fun σ H Q=>ta σ H fun y H1=>xw fun a C dx fs v=>y=.ref a∧H1 a=some (jW a C (some dx))∧H1 dx=some (.xd fs)∧fs.lookup f=some v∧iH K C f=true∧Q v H1
theorem CK {ta:TE}{f:Str} (he:PE X e ta) (hb:attributeBase e f X.env (eval e X.env)=eval e X.env):PE X (.Attribute e f pos) (BQ X.K ta f):=by
 intro pins s σ H Q I h
 refine CL hb (aK (he pins s σ H _ I h) fun u s1 ⟨y,H1,I1,rx,a,C,dx,fs,v,ex,ea,ed,el,g,q⟩=>?_)
 subst ex
 obtain rfl:u=Value.ref a:=rx
 obtain ⟨vs,sl,e1⟩:=qH I1.hok ea
 obtain ⟨mA,n1,rl⟩:=(show bc X.prog X.w H1 s1.heap dx (.xd fs) from I1.hok dx _ ed)
 obtain ⟨od,e2,lk⟩:=tM n1
 have rv:=rl f
 rw [el] at rv
 cases em:mA f with
 | none=>rw [em] at rv;exact rv.elim
 | some uv=>
  rw [em] at rv
  unfold iH at g
  rw [Bool.and_eq_true,Bool.and_eq_true,beq_iff_eq] at g
  obtain ⟨⟨g1,g2⟩,g3⟩:=g
  obtain ⟨cd,hc,hd⟩:=PySem.W.any_some g2
  have J:PySem.W.InstAt s1.heap a ⟨.ref C,some dx,.fields vs,sl⟩ C (some od):=⟨e1,rfl,rfl,e2⟩
  have fo:PySem.W.findObj X.K C (some od) f=some (.value uv):=by
   unfold PySem.W.findObj
   rw [hc,Option.bind_some,g3,Option.bind_some]
   simp only [Option.bind_some]
   unfold PySem.W.ownOf
   rw [hd,if_pos rfl]
   dsimp only
   rw [lk f,em]
   rfl
  exact GG I1.kIn J g1 fo (zi rv) ⟨v,H1,I1.tok _,rv,q⟩
inductive Gq (K:PySem.W.Frag) (xs:List V) (H:Hp) (Q:VK):Prop
 | mk (a:_) (C:_) (dx:_) (c:_) (cv:_) (b:_) (h0:xs=[.ref a,c]) (h1:(H a=some (jW a C (some dx))∧∃fs,H dx=some (.xd fs))) (h2:AM c=some cv) (h3:mP K C=true) (h4:PySem.W.kitOne K (.ref C) cv=some b) (h5:Q (.bl b) H)
def HZ (K:PySem.W.Frag):List V→Hp→VK→Prop:=fun xs H Q=>Gq K xs H Q
theorem kQ {K:PySem.W.Frag} (ek:X.K=K:=by rfl):bU X (.builtin "isinstance") (HZ K):=by
 subst ek
 intro pins s σ H xs us Q I r h
 obtain ⟨a,C,dx,c,cv,b,rfl,⟨ha,fs,hd⟩,hcv,g,ho,q⟩:=h
 obtain ⟨u,uc,rfl,ru,rc⟩:=pE r
 cases ru
 have ec:uc=cv:=by
  cases c with
  | ref y=>cases hcv;exact rc
  | ty T=>cases hcv;exact rc
  | _=>cases hcv
 subst ec
 have J:aV fun ox od=>PySem.W.InstAt s.heap a ox C od:=by
  obtain ⟨vs,sl,e1⟩:=qH I.hok ha
  obtain ⟨od,e2⟩:=(I.hok dx _ hd).there
  exact ⟨_,some od,e1,rfl,rfl,e2⟩
 exact PySem.W.kia_one (vO g) I.kIn J ho (fun z=>nomatch z) fun tk=>⟨.bl b,H,I.tok tk,rfl,q⟩
end
theorem AV:∀{cs:List V}{cvs us:List Value},cs.map AM=cvs.map some→aC cs us→us=cvs:=by
 intro cs
 induction cs with
 | nil=>
  intro cvs us e r
  cases r
  cases cvs with
  | nil=>rfl
  | cons c l=>cases e
 | cons c l ih=>
  intro cvs us e r
  cases cvs with
  | nil=>cases e
  | cons d m=>
   cases r with
   | cons r1 r2=>
    injection e with e1 e2
    rw [ih e2 r2]
    congr 1
    cases c with
    | ref y=>cases e1;exact r1
    | ty T=>cases e1;exact r1
    | _=>cases e1
section
variable {X:Cx}
inductive FS (K:PySem.W.Frag) (xs:List V) (H:Hp) (Q:VK):Prop
 | mk (a:_) (C:_) (dx:_) (tp:_) (cs:_) (cvs:_) (b:_) (h0:xs=[.ref a,.ref tp]) (h1:(H a=some (jW a C (some dx))∧∃fs,H dx=some (.xd fs))) (h2:H tp=some (.tup cs)) (h3:cs.map AM=cvs.map some) (h4:mP K C=true) (h5:PySem.W.kitAny K (.ref C) cvs=some b) (h6:Q (.bl b) H)
def G8 (K:PySem.W.Frag):List V→Hp→VK→Prop:=fun xs H Q=>FS K xs H Q
theorem nN {K:PySem.W.Frag} (ek:X.K=K:=by rfl):bU X (.builtin "isinstance") (G8 K):=by
 subst ek
 intro pins s σ H xs us Q I r h
 obtain ⟨a,C,dx,tp,cs,cvs,b,rfl,⟨ha,fs,hd⟩,ht,hcs,g,ho,q⟩:=h
 obtain ⟨u,uc,rfl,ru,rc⟩:=pE r
 cases ru
 obtain rfl:uc=Value.ref tp:=rc
 obtain ⟨its,rv,⟨o,e1,e2,n,e3⟩,_⟩:=I.tuple (au.of ht)
 have ei:=AV hcs rv
 subst ei
 obtain ⟨oc,od,odt,osl⟩:=o
 dsimp only at e2 e3
 subst e2 e3
 have J:aV fun ox od=>PySem.W.InstAt s.heap a ox C od:=by
  obtain ⟨vs,sl,e1⟩:=qH I.hok ha
  obtain ⟨od,e2⟩:=(I.hok dx _ hd).there
  exact ⟨_,some od,e1,rfl,rfl,e2⟩
 exact PySem.W.kia_tup (vO g) I.kIn J e1 ho (fun z=>nomatch z) fun tk=>⟨.bl b,H,I.tok tk,rfl,q⟩
theorem za {K:PySem.W.Frag}{e:Expr}{ta:TE}{f:Str}{pos:Pos} (he:PE X e ta) (ek:X.K=K:=by rfl) (hb:attributeBase e f X.env (eval e X.env)=eval e X.env:=by rfl):PE X (.Attribute e f pos) (BQ K ta f):=by
 subst ek
 exact CK he hb
theorem um {K:PySem.W.Frag}{t:Value}:∀{cs:List Value},(∀c∈cs,PySem.W.kitOne K t c=some false)→PySem.W.kitAny K t cs=some false
 | [],_=>rfl
 | c :: r,h=>by
  unfold PySem.W.kitAny
  rw [h c List.mem_cons_self]
  exact um fun d hd=>h d (List.mem_cons_of_mem _ hd)
end
section
variable {X:Cx}
end
def mo:Nat→List Obj→PySem.W.Frag
 | _,[]=>[]
 | n,o :: r=>match o.data with
  | .freed=>mo (n+1) r
  | _=>(n,o) :: mo (n+1) r
def fragOf (h:Heap):PySem.W.Frag:=mo 0 h.objs.toList
theorem uj:∀(l:List Obj) (n a:Nat) (o:Obj),List.lookup a (mo n l)=some o→∃k,a=n+k∧l[k]?=some o∧o.data≠.freed
 | [],n,a,o,e=>nomatch e
 | p :: r,n,a,o,e=>by
  have step:List.lookup a (mo (n+1) r)=some o→∃k,a=n+k∧(p :: r)[k]?=some o∧o.data≠.freed:=fun e=>by
   obtain ⟨k,e1,e2,e3⟩:=uj r (n+1) a o e
   exact ⟨k+1,by trivial,by simpa using e2,e3⟩
  unfold mo at e
  split at e
  ·exact step e
  ·rename_i hf
   by_cases q:a=n
   ·subst q
    simp only [List.lookup_cons,beq_self_eq_true] at e
    cases e
    exact ⟨0,rfl,rfl,hf⟩
   ·have q':(a==n)=false:=by simpa using q
    simp only [List.lookup_cons,q'] at e
    exact step e
theorem zz (h:Heap):PySem.W.Frag.In (fragOf h) h:=fun a o e=>by
 obtain ⟨k,e1,e2,e3⟩:=uj _ 0 a o e
 have e1':a=k:=e1.trans (Nat.zero_add k)
 subst e1'
 unfold Heap.get?
 have:h.objs[a]?=some o:=by simpa using e2
 rw [this]
 cases o with
 | mk c d x s=>
  cases x <;> first | rfl | exact absurd rfl e3
def gh:Option (Option Value)→Addr
 | some (some (.ref a))=>a
 | _=>0
def zn:Option (Option Value)→Bool
 | some (some (.ref _))=>true
 | _=>false
def By:Option (Option Value)→Bool
 | some none=>true
 | _=>false
def A8:Option Bool→Bool
 | some true=>true
 | _=>false
theorem db {v:Option (Option Value)} (e:zn v=true):v=some (some (.ref (gh v))):=by
 unfold zn at e;split at e
 ·rfl
 ·cases e
theorem cb {v:Option (Option Value)} (e:By v=true):v=some none:=by
 unfold By at e;split at e
 ·rfl
 ·cases e
theorem Cv {v:Option Bool} (e:A8 v=true):v=some true:=by
 unfold A8 at e;split at e
 ·rfl
 ·cases e
def xb (K:PySem.W.Frag) (v:Option (Option Value)):Obj:=(List.lookup (gh v) K).getD ⟨.none,none,.plain,#[]⟩
def IR:FuncData:=PySem.W.fnOf (PySem.Str.mk #[]) (PySem.Str.mk #[]) ⟨[],[],none,[],[],none,[]⟩ [] ⟨.function,[],false,false,[]⟩ .none .none .none .none none .none .none
def gX (K:PySem.W.Frag) (v:Option (Option Value)):FuncData:=match (xb K v).data with
 | .func fd=>fd
 | _=>IR
def bare (fd:FuncData):FuncData:={ fd with kwdefaults:=.none,doc:=.none,pyModule:=.none,annotations:=none,code:=.none,closureTuple:=.none }
def gB (K:PySem.W.Frag) (v:Option (Option Value)) (q:Str):Option FuncData:=
 match zn v && PySem.W.codeIn K (gX K v).code q && PySem.W.keepIn K (.ref (gh v)) with
 | false=>none
 | true=>match List.lookup (gh v) K with
  | some ⟨_,_,.func fd,_⟩=>some (bare fd)
  | _=>none
theorem ua {K:PySem.W.Frag}{v:Option (Option Value)}{q:Str}{x:FuncData} (e:gB K v q=some x) :
 v=some (some (.ref (gh v)))∧PySem.W.codeIn K (gX K v).code q=true∧PySem.W.keepIn K (.ref (gh v))=true∧
  List.lookup (gh v) K=some ⟨(xb K v).cls,(xb K v).dict,.func (gX K v),(xb K v).slots⟩∧bare (gX K v)=x:=by
 unfold gB at e
 cases h:(zn v && PySem.W.codeIn K (gX K v).code q && PySem.W.keepIn K (.ref (gh v))) with
 | false=>rw [h] at e;cases e
 | true=>
  rw [h] at e
  simp only [Bool.and_eq_true] at h
  refine ⟨db h.1.1,h.1.2,h.2,?_⟩
  cases hl:List.lookup (gh v) K with
  | none=>rw [hl] at e;cases e
  | some o=>
   rw [hl] at e
   obtain ⟨c,d,x',s⟩:=o
   have eo:xb K v=⟨c,d,x',s⟩:=by unfold xb;rw [hl];rfl
   cases x' <;> first | cases e | skip
   rename_i fd
   have ef:gX K v=fd:=by unfold gX;rw [eo]
   rw [eo,ef]
   exact ⟨rfl,rfl⟩
def aG (K:PySem.W.Frag) (n:Str):Addr:=gh (PySem.W.nsIn K mainGlobals n)
def rG (K:PySem.W.Frag) (n:Str):Bool:=zn (PySem.W.nsIn K mainGlobals n)
def oG (K:PySem.W.Frag) (n:Str):Bool:=By (PySem.W.nsIn K mainGlobals n)
def fG (K:PySem.W.Frag) (n:Str):Option FuncData:=gB K (PySem.W.nsIn K mainGlobals n) n
def dG (n q:Str) (st:Stmt):Option FuncData:=some (PySem.W.fnOf n q (sL st) (mh st) (ap st) .none .none .none .none none .none .none)
theorem ak {K:PySem.W.Frag}{v:Option (Option Value)}{q n:Str}{st:Stmt} (e:gB K v q=dG n q st):kK K n q st (gh v) (gX K v):=by
 have h:=ua e
 refine ⟨?_,h.2.2.1⟩
 obtain ⟨h1,h2,h3,h4,z⟩:=h
 refine ⟨_,_,(gX K v).kwdefaults,(gX K v).doc,(gX K v).pyModule,(gX K v).annotations,(gX K v).code,(gX K v).closureTuple,_,?_,h4,h2⟩
 clear h4 h2 h3 h1 e
 generalize gX K v=fd at z ⊢
 cases fd
 unfold bare PySem.W.fnOf at z
 cases z
 rfl
theorem bi {K:PySem.W.Frag}{v:Option (Option Value)}{q n:Str}{st:Stmt} (e:gB K v q=dG n q st):v=some (some (.ref (gh v))):=(ua e).1
theorem walk_ofY {l:PySem.W.OpenLaw}{n k:Nat}{q:Program}{loose:List Str}{XP:(Str→Option Value)→Heap→Prop}{d:DefRec}{CX:jL}{sp:PySem.W.Frag→Sp}{x:Str}{α:Type}{obs:PySem.W.Frag→α}{due:α}
 (hn:l.most=some n) (hn2:n≤sizeLine) (hdf:d.params.defaults=[]) (hr:cy k callerA)
 (F:∀(K:PySem.W.Frag) (w:World) (mg:Str→Option Value) (fa:Addr) (h:Heap),obs K=due→K.In h→h.Ns mainGlobals mg→mg d.name=some (.ref fa)→
  ∃fd:FuncData,(∀(s:Shared) (u:Value),BindsTo s fd ⟨[u],[]⟩ [(x,u)])∧
   ∀base:Heap,K.In base→base.Ns mainGlobals mg→aZ l.prog w K mg base CX k fa fd [x] (sp K))
 (hsp:∀(K:PySem.W.Frag) (H:Hp) (a:Addr) (ns:List Int),ns.length≤n→sR H→ar K H a (ns.map V.int)→sp K [.ref a] H (fun v _=>v=.bl true) fun _ _ _=>False)
 (hCX:∀(H:Hp) (s:Shared) (e:Value) (s':Shared),CX [] H s (fun _ _ _=>False) e s'→False) :
 PySem.W.WalkX q loose XP (fun s=>obs (fragOf s.heap)) (fun _=>due) l.row.toRowW d [] (fun f vs=>PySem.call f vs):=by
 intro w s₀ s₁ mg mb G y a o pm cd doc dV kV ho hd hcd hD hmg hg args vals as' L hpre hlay hrd hwl hlo
 have kx:(fragOf s₀.heap).In s₁.heap:=fun b ob hb=>L.keeps b ob (zz s₀.heap b ob hb)
 exact Bi (K:=fun _=>fragOf s₀.heap) (YP:=fun w h=>(fragOf s₀.heap).In h) hn hn2 hdf hr (fun _ _ z=>z) (fun w mg fa h=>F (fragOf s₀.heap) w mg fa h y) hsp hCX w s₀ s₁ mg mb G kx a o pm cd doc dV kV ho hd hcd hD hmg hg args vals as' hpre hlay hrd hwl hlo
section
variable {X:Cx}
inductive CJ (x:V) (y:V) (H:Hp) (Q:VK):Prop
 | mk (a:_) (b:_) (xs:_) (ys:_) (h0:x=.ref a) (h1:y=.ref b) (h2:H a=some (.tup xs)) (h3:H b=some (.tup ys)) (h4:xs.length+ys.length≤10000) (h5:∀p H',ae H H'→H' p=some (.tup (xs++ys))→Q (.ref p) H')
def EG:R2:=fun x y H Q=>CJ  x y H Q
theorem wq:b8 X (binaryOp .Add) EG:=by
 intro pins s σ H x y v u Q I rx ry h
 obtain ⟨a,b,xs,ys,rfl,rfl,ha,hb,hz,q⟩:=h
 by_cases hx:xs=[]
 ·subst hx
  cases rx
  cases ry
  obtain ⟨its,r1,p1,_⟩:=I.tuple (au.of (K:=X.K) ha)
  obtain ⟨its2,r2,p2,_⟩:=I.tuple (au.of (K:=X.K) hb)
  cases r1
  obtain ⟨⟨cls,dd,data,sl⟩,ho,hc,n,hd⟩:=id p1
  obtain ⟨⟨cls2,dd2,data2,sl2⟩,ho2,hc2,n2,hd2⟩:=id p2
  simp only at hc hd hc2 hd2
  subst hc hd hc2 hd2
  exact concat_meets ⟨_,ho,rfl⟩ ⟨_,ho2,rfl⟩ noFill_tuple_add seq_tuple_add PySem.F.slot_tuple_add PySem.F.entry_tuple_add (PySem.F.args_tuple_add_2 _ _)
   (tuple_addW0 a b _ _ n n2 dd dd2 sl sl2 (by simp)) ⟨ho,ho2,⟨.ref b,H,I,rfl,q b H (ae.refl _) hb⟩⟩
 ·exact A7 (K:=X.K) rfl pins s σ H _ _ v u Q I rx ry ⟨a,b,xs,ys,rfl,rfl,au.of ha,ha,au.of hb,hx,hz,q⟩
end
end L2
namespace L2
open PySem PySem.Spec PySem.Calls PySem.W PyProof.Rows
section
variable {prog:Program}{w:World}{A:Around}{E:Value→Shared→Prop}{s:Shared}
end
section
variable {X:Cx}
end
section
open PySem.Builtin.Str (occurrences partsBetween)
variable {prog:Program}{w:World}{A:Around}{E:Value→Shared→Prop}{s:Shared}
theorem x0 {x y:Str}{t u:Tok}{Q:Value→Shared→Prop} (hy:(y.length==0)=false) (hz:x.length+2≤sizeLine)
 (hq:∀(l:List (Str×Tok)) (k:Nat),l.map (·.1)=Txt.split x y→Q (.ref s.heap.objs.size) { s with heap:=s.heap.push { cls:=.type "list",data:=.seq (strValues l).toArray },toks:=k }) :
 wpAny (model prog w) A (call (.builtin "str.split") [.str x t,.str y u]) Q E s:=by
 cases h1:(decide (x.length<y.length) || decide (Builtin.Str.strKind x<Builtin.Str.strKind y))
 ·cases hf:(occurrences x y 0 x.length (x.length+1)).isEmpty
  ·have e:Txt.split x y=partsBetween x (occurrences x y 0 x.length (x.length+1)) y.length:=(if_neg (ne_true_of_eq_false h1)).trans (if_neg (ne_true_of_eq_false hf))
   refine call_meets PySem.F.slot_str_split (typeIs_str _ _ _) PySem.F.entry_str_split (PySem.F.args_str_split_2 _ _) (meets_str_split_sep x y t u h1 hy hf (by trivial) (by rw [←e];exact Nat.le_trans (split_le x y) hz)) ?_
   show wants Q E _ { s with toks:=_,heap:=s.heap.push { cls:=.type "list",data:=.seq (strsFrom s.toks (partsBetween x (occurrences x y 0 x.length (x.length+1)) y.length)).toArray } }
   rw [strsFrom_eq]
   exact hq (numbered s.toks _) _ ((numbered_texts _ _).trans e.symm)
  ·exact call_meets PySem.F.slot_str_split (typeIs_str _ _ _) PySem.F.entry_str_split (PySem.F.args_str_split_2 _ _) (meets_str_split_not_found x y t u h1 hy hf)
    (hq [(x,t)] s.toks ((if_neg (ne_true_of_eq_false h1)).trans (if_pos hf)).symm)
 ·exact call_meets PySem.F.slot_str_split (typeIs_str _ _ _) PySem.F.entry_str_split (PySem.F.args_str_split_2 _ _) (meets_str_split_cannot_occur x y t u h1)
   (hq [(x,t)] s.toks (if_pos h1).symm)
end
section
variable {X:Cx}
theorem rT:∀(l:List (Str×Tok)),aC ((l.map (·.1)).map V.str) (strValues l)
 | []=>.nil
 | (x,t) :: r=>.cons ⟨t,rfl⟩ (rT r)
inductive A2 (x:V) (vs:List V) (H:Hp) (Q:VK):Prop
 | mk (a b:Str) (h0:x=.str a) (h1:vs=[.str b]) (h2:Q (.bl (Txt.startswith a b)) H)
def Cy:V→List V→Hp→VK→Prop:=fun x vs H Q=>A2  x vs H Q
theorem zt:sf X "str.startswith" Cy:=by
 intro pins s σ H x vs v us Q I rx rv h
 obtain ⟨a,b,rfl,rfl,q⟩:=h
 obtain ⟨t,rfl⟩:=rx
 obtain ⟨u,rfl,ru⟩:=rv.one
 obtain ⟨tu,rfl⟩:=ru
 exact SC.startswith ⟨.bl _,H,I,rfl,q⟩
theorem zU {prog:Program}{w:World}{A:Around}{E:Value→Shared→Prop}{s:Shared}{x y:Str}{t u:Tok}{Q:Value→Shared→Prop} (hy:(y.length==0)=false) (hz:x.length≤sizeLine)
 (h:∀ta tb tc k,Q (.ref s.heap.objs.size) { s with heap:=s.heap.push { cls:=.type "tuple",data:=.seq [.str (Txt.partition x y).1 ta,.str (Txt.partition x y).2.1 tb,.str (Txt.partition x y).2.2 tc].toArray },toks:=k }) :
 wpAny (model prog w) A (call (.builtin "str.partition") [.str x t,.str y u]) Q E s:=by
 refine call_meets PySem.F.slot_str_partition (typeIs_str _ _ _) PySem.F.entry_str_partition (PySem.F.args_str_partition_2 _ _) (meets_str_partition x y t u hy hz) ?_
 have h':=h
 unfold Txt.partition at h'
 revert h'
 cases PySem.Builtin.Str.occurrences x y 0 x.length 1 with
 | nil=>intro h';exact h' _ _ _ _
 | cons i r=>intro h';exact h' _ _ _ _
inductive FI (x:V) (vs:List V) (H:Hp) (Q:VK):Prop
 | mk (a b:Str) (h0:x=.str a) (h1:vs=[.str b]) (h2:(b.length==0)=false) (h3:a.length≤10000) (h4:∀l H',Nw H l (.tup [.str (Txt.partition a b).1,.str (Txt.partition a b).2.1,.str (Txt.partition a b).2.2]) H'→Q (.ref l) H')
def G9:V→List V→Hp→VK→Prop:=fun x vs H Q=>FI  x vs H Q
theorem Dg:sf X "str.partition" G9:=by
 intro pins s σ H x vs v us Q I rx rv h
 obtain ⟨a,b,rfl,rfl,hb,hz,q⟩:=h
 obtain ⟨t,rfl⟩:=rx
 obtain ⟨u,rfl,ru⟩:=rv.one
 obtain ⟨tu,rfl⟩:=ru
 have sz:20000≤sizeLine:=by decide
 refine zU hb (by trivial) fun ta tb tc k=>?_
 have I2:=I.laid (a:=s.heap.objs.size) (o:=.tup [.str (Txt.partition a b).1,.str (Txt.partition a b).2.1,.str (Txt.partition a b).2.2]) (t':=k) (fun _ _ e=>Heap.get?_push_of_some _ e) (Nat.le_refl _)
  (show bc X.prog X.w _ (s.heap.push { cls:=.type "tuple",data:=.seq [.str (Txt.partition a b).1 ta,.str (Txt.partition a b).2.1 tb,.str (Txt.partition a b).2.2 tc].toArray }) _ (.tup _) from
   ⟨by show 3≤sizeLine;trivial,_,.cons ⟨ta,rfl⟩ (.cons ⟨tb,rfl⟩ (.cons ⟨tc,rfl⟩ .nil)),IsTup.new _ _,_,Heap.get?_push_size _ rfl,rfl⟩)
 exact ⟨.ref s.heap.objs.size,_,I2,rfl,q _ _ (.mk' I.fresh)⟩
inductive FJ (xs:List V) (H:Hp) (Q:VK):Prop
 | mk (a:Str) (n:Int) (h0:xs=[.str a]) (h1:PySem.intText? a=some n) (h2:a.length≤640) (h3:Q (.int n) H)
def Gi:List V→Hp→VK→Prop:=fun xs H Q=>FJ  xs H Q
theorem pq:bU X (.type "int") Gi:=by
 intro pins s σ H xs us Q I r h
 obtain ⟨a,n,rfl,e,hl,q⟩:=h
 obtain ⟨u,rfl,ru⟩:=r.one
 obtain ⟨t,rfl⟩:=ru
 exact PySem.W.KIN.call_text e hl ⟨.int n,H,I.tok _,⟨()⟩,q⟩
end
end L2
namespace L2
open PySem PySem.Spec PyProof.Rows
section
variable {X:Cx}
end
theorem ye {D:Addr}{H1:Hp}{σc:St}{g:TG}{te:TE}{Q:VK}{J:It}{n:Nat} (F:Nat→PyData) (hz:n≤10000) (hD:H1 D=none) (hgo:∀i H',i<n→ae H1 H'→J.go i H') (hst:∀H',ae H1 H'→J.stop n H')
 (hs:∀i x H' H'' (R:VK),i<n→ae H1 H'→J.yld i H' x H''→(∀v H4,ae H' H4→bh ED H4 v (F i)→R v H4)→g x σc H'' fun σ2 H2=>jY σc σ2∧te σ2 H2 R)
 (hd:∀zs H',ae H1 H'→H' D=some (.lst zs)→aI ED H' zs ((List.range n).map F)→Q (.ref D) H'):lA J σc g tT te D H1 Q:=by
 refine dq (n:=n) (fun i H' zs=>H' D=some (.lst zs)∧ae H1 H'∧aI ED H' zs ((List.range i).map F)) (eJ hz) ⟨ai,cE hD (ae.refl _),.nil⟩ ?_ ?_ ?_ ?_ ?_
 ·rintro i H' zs ⟨q,_,ia⟩
  exact ⟨q,by rw [ia.length];simp⟩
 ·rintro i H' zs hi ⟨_,sm,_⟩
  exact hgo i H' hi sm
 ·rintro H' zs ⟨_,sm,_⟩
  exact hst H' sm
 ·rintro i H' zs x H'' hi ⟨q,sm,ia⟩ y
  refine hs i x H' H'' _ hi sm y fun v H4 s4 dv=>?_
  have q4:=s4 _ _ q
  have tp:∀a us,H4 a=some (.tup us)→aL H4 D (.lst (zs++[v])) a=some (.tup us):=fun a us e=>by
   rw [am (yH e q4 (by intro z;cases z))];exact e
  refine ⟨q4,ai,cE hD (sm.trans s4),?_⟩
  rw [List.range_succ,List.map_append]
  exact ((ia.mono s4.toE).mono ⟨fun _ _ n _=>absurd trivial n,tp⟩).append (.cons (dv.mono ⟨fun _ _ n _=>absurd trivial n,tp⟩) .nil)
 ·rintro H' zs ⟨q,sm,ia⟩
  exact hd zs H' sm q ia
section
variable {H H':Hp}{d p t q z:Addr}{v:V}{es:List Ent}{past:List RSt}{cur:RSt}{F:List Addr}
end
section
variable {p t q z p' t' q':Addr}{v v':V}
end
section
variable {C:Addr}{H H' H0 H1 H2:Hp}{r L d b:Addr}{F F' F0 F1 F2:List Addr}{past:List RSt}{cur:RSt}{N M:Nat}{E:Addr→Prop}
end
section
variable {X:Cx}{body suite:List Stmt}{b0:Stmt}{x:Str}{hpos pos np:Pos}{tb:(St→XK)→TS}{th:TS}{Cc:Addr}
end
section
variable {X:Cx}{CX:jL}{k:Nat}{f C:Addr}{fd:FuncData}{ps:List Str}{sp:Sp}{EE:St→XK}{m:Str}{pos apos:Pos}{e o:Expr}{es:List Expr}{ta:TE}{t:TA}
end
section
variable {C:Addr}{H H' H0:Hp}{P E:Addr→Prop}{xs:List PairAt}{N M:Nat}{x y:PairAt}{i:Nat}
end
section
variable {C:Addr}{H2 H H':Hp}{b s o nl:Addr}{ls:List (List Nat)}{xs:List PairAt}{N M:Nat}{t t':Int}{x y:PairAt}{i:Nat}
end
end L2
namespace L2
open PySem PySem.Spec PyProof.Rows PySem.NumText
theorem wx (x:Str):S x.cps.toList=x:=by
 obtain ⟨a⟩:=x
 simp [S]
def bD (c:Nat):List Nat→List (List Nat)
 | []=>[[]]
 | x :: xs=>if x=c then [] :: bD c xs else match bD c xs with
  | []=>[[x]]
  | p :: ps=>(x :: p) :: ps
def jn (c:Nat):List (List Nat)→List Nat
 | []=>[]
 | [p]=>p
 | p :: q :: ps=>p++c :: jn c (q :: ps)
theorem qX (c:Nat):∀cs,bD c cs≠[]
 | []=>fun h=>nomatch h
 | x :: xs=>by
  unfold bD
  split
  ·exact fun h=>nomatch h
  ·split
   ·exact fun h=>nomatch h
   ·exact fun h=>nomatch h
theorem ie {c:Nat}:∀{a:List Nat},c∉a→bD c a=[a]
 | [],_=>rfl
 | x :: xs,h=>by
  have h1:¬x=c:=fun e=>h (by simp [e])
  have h2:c∉xs:=fun e=>h (by simp [e])
  unfold bD
  rw [if_neg h1,ie h2]
theorem kj {c:Nat}{b:List Nat}:∀{a:List Nat},c∉a→bD c (a++c :: b)=a :: bD c b
 | [],_=>by show bD c (c :: b)=_;rw [bD,if_pos rfl]
 | x :: xs,h=>by
  have h1:¬x=c:=fun e=>h (by simp [e])
  have h2:c∉xs:=fun e=>h (by simp [e])
  show bD c (x :: (xs++c :: b))=_
  rw [bD,if_neg h1,kj h2]
theorem qV {c:Nat}:∀{ps:List (List Nat)},ps≠[]→(∀p∈ps,c∉p)→bD c (jn c ps)=ps
 | [],h,_=>absurd rfl h
 | [p],_,h=>ie (h p (by simp))
 | p :: q :: ps,_,h=>by
  show bD c (p++c :: jn c (q :: ps))=_
  rw [kj (h p (by simp)),qV (ps:=q :: ps) (by simp) fun r hr=>h r (List.mem_cons_of_mem _ hr)]
theorem ux (c:Nat):∀l:List Nat,cnt c l=(l.count c:Nat)
 | []=>rfl
 | x :: xs=>by
  rw [cnt_cons,ux c xs,List.count_cons]
  by_cases h:x=c
  ·simp [h];trivial
  ·simp [h]
theorem qS (c:Nat):∀(ps:List (List Nat)),ps≠[]→(jn c ps).count c=(ps.length - 1)+(ps.map fun p=>p.count c).sum
 | [],h=>absurd rfl h
 | [p],_=>by simp [jn]
 | p :: q :: ps,_=>by
  show (p++c :: jn c (q :: ps)).count c=_
  rw [List.count_append,List.count_cons,qS c (q :: ps) (by simp)]
  simp
  trivial
theorem wc:∀{l:List Nat},l.sum=0→∀x∈l,x=0
 | [],_,_,h=>nomatch h
 | y :: l,e,x,h=>by
  rw [List.sum_cons] at e
  rcases List.mem_cons.mp h with rfl | h
  ·trivial
  ·exact wc (by trivial) x h
theorem ve (c:Nat):∀ps:List (List Nat),Str.join (S [c]) (ps.map S)=S (jn c ps)
 | []=>rfl
 | [p]=>rfl
 | p :: q :: ps=>by
  show S p++S [c]++Str.join (S [c]) ((q :: ps).map S)=_
  rw [ve c (q :: ps),bM,bM]
  show _=S (p++c :: jn c (q :: ps))
  simp
theorem C0 (c:Nat) (cs:List Nat):Txt.split (S cs) (S [c])=(bD c cs).map S:=by
 have e:∃ps:List (List Nat),Txt.split (S cs) (S [c])=ps.map S:=⟨(Txt.split (S cs) (S [c])).map fun x=>x.cps.toList,by
  rw [List.map_map]
  exact (List.map_id _).symm.trans (List.map_congr_left fun x _=>(wx x).symm)⟩
 obtain ⟨ps,e⟩:=e
 have j:=StrLaws.join_split (S cs) (S [c])
 rw [e,ve] at j
 have j':jn c ps=cs:=nt j
 have l:=split_len (S cs) c
 have l':((ps.length:Nat):Int)=1+((cs.count c:Nat):Int):=by
  rw [←ux]
  have:(Txt.split (S cs) ⟨#[c]⟩)=ps.map S:=e
  rw [this,List.length_map] at l
  have es:(S cs).cps.toList=cs:=by simp [S]
  rw [es] at l
  exact l
 have ne:ps≠[]:=fun h=>by rw [h] at l';simp at l';trivial
 have cj:=qS c ps ne
 rw [j'] at cj
 have z:(ps.map fun p=>p.count c).sum=0:=by trivial
 rw [e,←j',qV ne fun p hp h=>?_]
 have:=wc z _ (List.mem_map.mpr ⟨p,hp,rfl⟩)
 exact absurd h (List.count_eq_zero.mp this)
theorem wW (c:Nat) (cs:List Nat):(c∉cs∧Txt.partition (S cs) (S [c])=(S cs,S [],S []))∨aV fun a b=>cs=a++c :: b∧c∉a∧Txt.partition (S cs) (S [c])=(S a,S [c],S b):=by
 have sum:=StrLaws.partition_sum (S cs) (S [c])
 have at_:∀i,StrLaws.At (S cs) (S [c]) (S cs).length i↔cs[i]?=some c:=fun i=>by
  have hl:(S cs).length=cs.length:=by simp [S,Str.length]
  unfold StrLaws.At
  rw [StrLaws.subAt_eq]
  have e1:(S cs).cps.toList=cs:=by simp [S]
  have e2:(S [c]).cps.toList=[c]:=by simp [S]
  have e3:(S [c]).length=1:=by simp [S,Str.length]
  rw [e1,e2,e3,hl]
  constructor
  ·rintro ⟨h1,h2⟩
   have h3:=eq_of_beq h2
   have:((cs.drop i).take 1)[0]?=some c:=by rw [h3];rfl
   rw [List.getElem?_take_of_lt (by trivial),List.getElem?_drop] at this
   simpa using this
  ·intro h
   obtain ⟨h1,h2⟩:=List.getElem?_eq_some_iff.mp h
   refine ⟨by trivial,?_⟩
   rw [List.drop_eq_getElem_cons h1,h2]
   simp
 rcases partition_head (S cs) (S [c]) with ⟨e,no⟩ | ⟨i,e,hi,first⟩
 ·left
  have nc:c∉cs:=fun h=>by
   obtain ⟨i,hi⟩:=List.getElem?_of_mem h
   exact no i ((at_ i).mpr hi)
  refine ⟨nc,?_⟩
  revert e sum
  generalize Txt.partition (S cs) (S [c])=t
  obtain ⟨t1,t2,t3⟩:=t
  intro sum e
  have e':t1=S cs:=e
  subst e'
  have s2:S cs++t2++t3=S cs:=sum
  have l:=congrArg Str.length s2
  rw [Str.length_append,Str.length_append] at l
  have z:∀{x:Str},x.length=0→x=S []:=fun {x} h=>by
   rw [←wx x]
   have:x.cps.toList=[]:=by
    have:x.cps.toList.length=0:=by simpa [Str.length] using h
    exact List.eq_nil_of_length_eq_zero this
   rw [this]
  rw [z (show t2.length=0 by trivial),z (show t3.length=0 by trivial)]
 ·right
  have hi':=(at_ i).mp hi
  obtain ⟨h1,h2⟩:=List.getElem?_eq_some_iff.mp hi'
  have el:∀(p q:Nat),Builtin.Str.strSub (S cs) p q=S ((cs.drop p).take (q - p)):=fun p q=>by
   rw [←wx (Builtin.Str.strSub (S cs) p q),StrLaws.strSub_toList]
   simp [S]
  have occ:aV fun j r=>Builtin.Str.occurrences (S cs) (S [c]) 0 (S cs).length 1=j :: r:=by
   cases h:Builtin.Str.occurrences (S cs) (S [c]) 0 (S cs).length 1 with
   | cons j r=>exact ⟨j,r,rfl⟩
   | nil=>
    exfalso
    have:(Txt.partition (S cs) (S [c])).1=S cs:=by unfold Txt.partition;rw [h]
    rw [this,el] at e
    have:=congrArg List.length (nt e)
    rw [List.length_take] at this
    simp at this
    trivial
  obtain ⟨j,r,ho⟩:=occ
  have ep:Txt.partition (S cs) (S [c])=(Builtin.Str.strSub (S cs) 0 j,S [c],Builtin.Str.strSub (S cs) (j+(S [c]).length) (S cs).length):=by unfold Txt.partition;rw [ho]
  rw [ep] at e sum
  have e1:(S [c]).length=1:=by simp [S,Str.length]
  have e2:(S cs).length=cs.length:=by simp [S,Str.length]
  refine ⟨cs.take i,cs.drop (i+1),?_,fun h=>?_,?_⟩
  ·rw [←h2,←List.drop_eq_getElem_cons h1,List.take_append_drop]
  ·obtain ⟨k,hk⟩:=List.getElem?_of_mem h
   have hlt:k<i:=by
    have:=(List.getElem?_eq_some_iff.mp hk).1
    rw [List.length_take] at this
    trivial
   rw [List.getElem?_take_of_lt hlt] at hk
   exact first k hlt ((at_ k).mpr hk)
  ·have e':Builtin.Str.strSub (S cs) 0 j=Builtin.Str.strSub (S cs) 0 i:=e
   have ta:Builtin.Str.strSub (S cs) 0 i=S (cs.take i):=by rw [el];simp
   have sum':Builtin.Str.strSub (S cs) 0 j++S [c]++Builtin.Str.strSub (S cs) (j+(S [c]).length) (S cs).length=S cs:=sum
   rw [e',ta] at sum'
   rw [ep,e',ta]
   congr 2
   rw [←wx (Builtin.Str.strSub (S cs) (j+(S [c]).length) (S cs).length),bM,bM] at sum'
   have s3:=nt sum'
   rw [←wx (Builtin.Str.strSub (S cs) (j+(S [c]).length) (S cs).length)]
   congr 1
   have s4:cs.take i++[c]++cs.drop (i+1)=cs:=by
    rw [List.append_assoc]
    show cs.take i++c :: cs.drop (i+1)=cs
    rw [←h2,←List.drop_eq_getElem_cons h1,List.take_append_drop]
   exact List.append_cancel_left (s3.trans s4.symm)
def dg (n:Nat):List Nat:=(Nat.toDigits 10 n).map Char.toNat
theorem HM (d:Nat) (h:d<10):(Nat.digitChar d).toNat=48+d:=by
 obtain rfl | rfl | rfl | rfl | rfl | rfl | rfl | rfl | rfl | rfl:d=0∨d=1∨d=2∨d=3∨d=4∨d=5∨d=6∨d=7∨d=8∨d=9:=by trivial
 all_goals rfl
theorem k7 {n:Nat} (h:n<10):dg n=[48+n]:=by
 unfold dg
 rw [Nat.toDigits_of_lt_base h,List.map_cons,HM n h]
 rfl
theorem rk {n:Nat} (h:10≤n):dg n=dg (n / 10)++[48+n % 10]:=by
 unfold dg
 rw [Nat.toDigits_of_base_le (by decide) h,List.map_append,List.map_cons,HM _ (Nat.mod_lt _ (by decide))]
 rfl
theorem kB {n k:Nat} (hk:0<k):(dg n).length≤k↔n<10 ^ k:=by
 unfold dg
 rw [List.length_map]
 exact Nat.length_toDigits_le_iff (by decide) hk
theorem Hu (n:Nat):dg n≠[]:=by
 by_cases h:n<10
 ·rw [k7 h];exact fun z=>nomatch z
 ·rw [rk (by trivial)];simp
theorem zx (n:Nat):AllDigits (dg n):=by
 induction n using Nat.strongRecOn with
 | _ n ih=>
  by_cases h:n<10
  ·rw [k7 h]
   intro c hc
   rw [List.mem_singleton.mp hc]
   trivial
  ·rw [rk (by trivial)]
   intro c hc
   rcases List.mem_append.mp hc with q | q
   ·exact ih (n / 10) (by trivial) c q
   ·rw [List.mem_singleton.mp q]
    trivial
theorem FL (n:Nat):digitsVal (dg n)=n:=by
 induction n using Nat.strongRecOn with
 | _ n ih=>
  by_cases h:n<10
  ·rw [k7 h]
   show 0*10+(48+n - 48)=n
   trivial
  ·have:=ih (n / 10) (by trivial)
   rw [rk (by trivial)]
   unfold digitsVal at this ⊢
   rw [List.foldl_append,this]
   show n / 10*10+(48+n % 10 - 48)=n
   trivial
theorem C3 {n:Nat} (h:0<n):aV fun c r=>dg n=c :: r∧c≠48:=by
 induction n using Nat.strongRecOn with
 | _ n ih=>
  by_cases h1:n<10
  ·exact ⟨48+n,[],k7 h1,by trivial⟩
  ·obtain ⟨c,r,e,hc⟩:=ih (n / 10) (by trivial) (by trivial)
   exact ⟨c,r++[48+n % 10],by rw [rk (by trivial),e];rfl,hc⟩
theorem xl (n:Nat):Str.ofString (toString (n:Int))=S (dg n):=by
 rw [Str.ofString_eq_toList]
 show (⟨((Nat.repr n).toList.map Char.toNat).toArray⟩:Str)=_
 rw [Nat.toList_repr]
 rfl
theorem Cj (n:Nat) (h:0<n):Str.ofString (toString (-(n:Int)))=S (45 :: dg n):=by
 rw [toString_neg (by trivial),show (0 - -(n:Int))=(n:Int) by trivial,Str.ofString_eq_toList,String.toList_append]
 show (⟨(("-".toList++(Nat.repr n).toList).map Char.toNat).toArray⟩:Str)=_
 rw [Nat.toList_repr,List.map_append]
 rfl
end L2
namespace L2
open PySem PySem.Spec PyProof.Rows
section
variable {X:Cx}
abbrev TF:=Str→St→Hp→VK→Prop
def PF (X:Cx) (es:List Expr) (t:TF):Prop:=
 ∀(out:Str) (pins:List (Addr×Obj)) (s:Shared) (σ:St) (H:Hp) (Q:VK),aa X pins σ H s→t out σ H Q→wpAny (model X.prog X.w) X.A (joinParts out (evalEach es X.env)) (EP X pins σ Q) X.xe s
def IF:TF:=fun out _ H Q=>out.length≤10000∧Q (.str out) H
def Iy (x:Str) (t:TF):TF:=fun out σ H Q=>(out++x).length≤10000∧t (out++x) σ H Q
def Ia (te:TE) (t:TF):TF:=fun out σ H Q=>te σ H fun v H1=>∃y:Str,v=.str y∧(out++y).length≤10000∧t (out++y) σ H1 Q
def IL (t:TF):TE:=fun σ H Q=>t Str.empty σ H Q
theorem uZ:PF X [] IF:=by
 intro out pins s σ H Q I ⟨hz,q⟩
 have sz:20000≤sizeLine:=by decide
 exact joinParts_nil ⟨.str out,H,I.tok _,⟨()⟩,q⟩ (by trivial)
theorem kH {x:Str}{es:List Expr}{t:TF}{j pos} (h:PF X es t):PF X (.Constant (.str x) j pos :: es) (Iy x t):=by
 intro out pins s σ H Q I ⟨hz,q⟩
 have sz:20000≤sizeLine:=by decide
 exact joinParts_cons (Calls.Constant_str ⟨by trivial,h _ pins _ σ H Q (I.tok _) q⟩)
theorem jD {e:Expr}{es:List Expr}{te:TE}{t:TF}{pos} (he:PE X e te) (h:PF X es t):PF X (.FormattedValue e (-1) none pos :: es) (Ia te t):=by
 intro out pins s σ H Q I q
 have sz:20000≤sizeLine:=by decide
 refine joinParts_cons (FormattedValue_plain (aK (he pins s σ H _ I q) fun v s1 ⟨x,H1,I1,r1,q1⟩=>?_))
 obtain ⟨y,rfl,hz,q2⟩:=q1
 obtain ⟨t',rfl⟩:=r1
 have:y.length≤10000:=by rw [Str.length_append] at hz;trivial
 exact formatField_str (fun t2 tk=>⟨by trivial,h _ pins _ σ H1 Q (I1.tok _) q2⟩) (by trivial)
theorem sr {a b:Expr}{es:List Expr}{t:TF}{pos} (h:PF X (a :: b :: es) t):PE X (.JoinedStr (a :: b :: es) pos) (IL t):=by
 intro pins s σ H Q I q
 exact JoinedStr_many (h Str.empty pins s σ H Q I q)
end
end L2
namespace L2
open PySem PySem.Spec PyProof.Rows PySem.NumText
def kA (cs:List Nat) (lo hi:Option Int):List Nat:=(cs.drop (lo.getD 0).toNat).take (min (hi.getD cs.length).toNat cs.length - (lo.getD 0).toNat)
inductive GD (x:V) (lo:Option Int) (hi:Option Int) (H:Hp) (Q:VK):Prop
 | mk (cs:List Nat) (h0:x=.str (S cs)) (h1:cs.length≤10000) (h2:0≤lo.getD 0) (h3:0≤hi.getD 0) (h4:Q (.str (S (kA cs lo hi))) H)
def II:V→Option Int→Option Int→Hp→VK→Prop:=fun x lo hi H Q=>GD  x lo hi H Q
theorem se {cs:List Nat}:∀(n a:Nat),a+n≤cs.length→(((List.range n).map (a+·)).filterMap fun x=>cs[x]?)=(cs.drop a).take n
 | 0,a,_=>by simp
 | n+1,a,h=>by
  rw [List.range_succ,List.map_append,List.filterMap_append,se n a (by trivial),List.map_cons,List.map_nil]
  have e:(List.filterMap (fun x=>cs[x]?) [a+n])=[cs[a+n]]:=by
   rw [List.filterMap_cons,List.getElem?_eq_getElem (by trivial)]
   rfl
  rw [e,List.take_add_one,List.getElem?_drop,List.getElem?_eq_getElem (by trivial)]
  rfl
theorem yM (lo hi:Option Int) (n:Nat) (h1:0≤lo.getD 0) (h2:0≤hi.getD 0) :
 Builtin.Str.strSliceIndices lo hi 1 n=(List.range (min (hi.getD n).toNat n - min (lo.getD 0).toNat n)).map (min (lo.getD 0).toNat n+·):=by
 rw [←sliceRange_one]
 unfold Builtin.Str.strSliceIndices
 show sliceRange _ _ 1=_
 congr 1
 ·cases lo with
  | none=>show (0:Int)=_;simp
  | some i=>
   have h1':0≤i:=h1
   show max 0 (min (if i<0 then i+(n:Int) else i) (n:Int))=((min i.toNat n:Nat):Int)
   rw [if_neg (by trivial)]
   trivial
 ·cases hi with
  | none=>show (n:Int)=((min ((n:Int)).toNat n:Nat):Int);trivial
  | some i=>
   have h2':0≤i:=h2
   show max 0 (min (if i<0 then i+(n:Int) else i) (n:Int))=((min i.toNat n:Nat):Int)
   rw [if_neg (by trivial)]
   trivial
theorem Br (cs:List Nat) (lo hi:Option Int) (h1:0≤lo.getD 0) (h2:0≤hi.getD 0) :
 ((Builtin.Str.strSliceIndices lo hi 1 cs.length).filterMap fun x=>cs[x]?)=kA cs lo hi:=by
 rw [yM lo hi cs.length h1 h2]
 by_cases h:(lo.getD 0).toNat≤cs.length
 ·rw [Nat.min_eq_left h]
  by_cases h3:(lo.getD 0).toNat≤min (hi.getD cs.length).toNat cs.length
  ·rw [se _ _ (by trivial)]
   rfl
  ·rw [Nat.sub_eq_zero_of_le (by trivial)]
   unfold kA
   rw [Nat.sub_eq_zero_of_le (by trivial)]
   simp
 ·rw [Nat.min_eq_right (by trivial),Nat.sub_eq_zero_of_le (by trivial)]
  unfold kA
  rw [List.drop_eq_nil_of_le (by trivial)]
  simp
theorem DN {X:Cx}:xN X II:=by
 intro pins s σ H x v vl vu lo hi sl Q I rx hs pl pu h
 obtain ⟨cs,rfl,hz,h1,h2,q⟩:=h
 obtain ⟨t,rfl⟩:=rx
 obtain ⟨l,el⟩:∃p:Option (Int×Tok),vl=partValue p∧p.map (·.1)=lo:=by
  cases pl with
  | none=>exact ⟨none,rfl,rfl⟩
  | int i t=>exact ⟨some (i,t),rfl,rfl⟩
 obtain ⟨u,eu⟩:∃p:Option (Int×Tok),vu=partValue p∧p.map (·.1)=hi:=by
  cases pu with
  | none=>exact ⟨none,rfl,rfl⟩
  | int i t=>exact ⟨some (i,t),rfl,rfl⟩
 obtain ⟨rfl,rfl⟩:=el
 obtain ⟨rfl,rfl⟩:=eu
 refine ⟨"str",_,F.slot_str_getitem.lookup,typeIs_str _ _ _,?_⟩
 refine wpAny_getItem_str_slice (l:=l) (u:=u) (st:=none) hs rfl ?_
 have ep:((slicePicked (S cs) l u none).filterMap fun x=>(S cs).cps[x]?)=kA cs (l.map (·.1)) (u.map (·.1)):=by
  have:=Br cs _ _ h1 h2
  rw [←this]
  show List.filterMap _ (Builtin.Str.strSliceIndices _ _ 1 (S cs).length)=_
  rw [bu]
  congr 1
  funext x
  simp [S]
 have hl:=sliceIndices_le (l.map (·.1)) (u.map (·.1)) (S cs).length
 unfold sliceMade
 by_cases hc:((Option.map (fun x:Int×Tok=>x.fst) none).getD 1==1 && (slicePicked (S cs) l u none).length==(S cs).length)=true
 ·rw [if_pos hc]
  refine ⟨.str (S cs),H,I,⟨()⟩,?_⟩
  rw [Bool.and_eq_true] at hc
  have hc':(slicePicked (S cs) l u none).length=cs.length:=by rw [←bu cs];exact eq_of_beq hc.2
  have e:kA cs (l.map fun p=>p.1) (u.map fun p=>p.1)=cs:=by
   have e2:slicePicked (S cs) l u none=_:=yM _ _ (S cs).length h1 h2
   rw [bu] at e2
   have:=congrArg List.length e2
   rw [hc',List.length_map,List.length_range] at this
   have e0:cs.length=0∨((l.map fun p:Int×Tok=>p.1).getD 0).toNat=0:=by trivial
   unfold kA
   rcases e0 with e0 | e0
   ·rw [List.eq_nil_of_length_eq_zero e0];simp
   ·rw [e0] at this ⊢
    rw [List.drop_zero,List.take_of_length_le (by trivial)]
  rw [e] at q
  exact q
 ·rw [if_neg hc,ep]
  refine ⟨?_,.str _,H,I.tok _,⟨()⟩,q⟩
  show (kA cs _ _).toArray.size≤_
  rw [List.size_toArray]
  unfold kA
  rw [List.length_take,List.length_drop]
  exact Nat.le_trans (by trivial) (eJ hz)
theorem Bj (cs:List Nat) (k:Nat):kA cs (some (k:Int)) none=cs.drop k:=by
 unfold kA
 show (cs.drop k).take (min ((cs.length:Int)).toNat cs.length - k)=_
 rw [List.take_of_length_le]
 rw [List.length_drop]
 trivial
def iU (c:Nat):Bool:=decide (48≤c) && decide (c≤57)
def gw (cs:List Nat):Bool:=(decide (1≤cs.length) && decide (cs.length≤40)) && cs.all iU && (cs==[48] || !(cs.head?==some 48))
def dE (cs:List Nat):Option Nat:=if gw cs=true then some (digitsVal cs) else none
def eY (cs:List Nat):Option Int:=
 if cs.head?=some 45 then (match dE (cs.drop 1) with | some 0=>none | some (n+1)=>some (-((n+1:Nat):Int)) | none=>none) else (dE cs).map Int.ofNat
def b9 (cs:List Nat):Option (Int×Int):=
 match bD 47 cs with
 | [t]=>(eY t).map fun n=>(n,1)
 | [t,b]=>match eY t,dE b with
  | some n,some d=>if 2≤d∧Nat.gcd n.natAbs d=1 then some (n,(d:Int)) else none
  | _,_=>none
 | _=>none
theorem Fz (cs:List Nat) (c:Nat):digitsVal (cs++[c])=digitsVal cs*10+(c - 48):=by
 unfold digitsVal
 rw [List.foldl_append]
 rfl
theorem F6:∀(n:Nat) {cs:List Nat},cs.length=n→AllDigits cs→cs≠[]→(cs=[48]∨cs.head?≠some 48)→dg (digitsVal cs)=cs:=by
 intro n
 induction n with
 | zero=>intro cs h _ ne;exact absurd (List.eq_nil_of_length_eq_zero h) ne
 | succ n ih=>
  intro cs hl hd ne h0
  obtain ⟨a,c,rfl⟩:aV fun a c=>cs=a++[c]:=⟨cs.dropLast,cs.getLast ne,(List.dropLast_concat_getLast ne).symm⟩
  have hc:=hd c (by simp)
  have ha:AllDigits a:=fun d h=>hd d (List.mem_append_left _ h)
  rw [Fz]
  by_cases ea:a=[]
  ·subst ea
   show dg (0*10+(c - 48))=[c]
   rw [k7 (by trivial)]
   congr 1
   trivial
  ·have hh:a.head?≠some 48:=by
    rcases h0 with h | h
    ·have:=congrArg List.length h
     simp at this
     exact absurd this ea
    ·intro z
     apply h
     cases a with
     | nil=>exact absurd rfl ea
     | cons x r=>exact z
   have:=ih (cs:=a) (by simpa using hl) ha ea (.inr hh)
   have pos:0<digitsVal a:=by
    apply Nat.pos_of_ne_zero
    intro z
    rw [z] at this
    rw [←this] at hh
    exact hh (by rw [k7 (by decide)];rfl)
   rw [rk (by trivial),show (digitsVal a*10+(c - 48)) / 10=digitsVal a by trivial,this]
   congr 2
   trivial
theorem lX {cs:List Nat} (h:gw cs=true):dg (digitsVal cs)=cs∧AllDigits cs∧cs≠[]∧cs.length≤40:=by
 unfold gw at h
 rw [Bool.and_eq_true,Bool.and_eq_true,Bool.and_eq_true] at h
 obtain ⟨⟨⟨h1,h2⟩,h3⟩,h4⟩:=h
 have ad:AllDigits cs:=fun c hc=>by
  have:=List.all_eq_true.mp h3 c hc
  unfold iU at this
  rw [Bool.and_eq_true] at this
  exact ⟨of_decide_eq_true this.1,of_decide_eq_true this.2⟩
 have ne:cs≠[]:=fun z=>by rw [z] at h1;cases h1
 refine ⟨F6 _ rfl ad ne ?_,ad,ne,of_decide_eq_true h2⟩
 rw [Bool.or_eq_true] at h4
 rcases h4 with h | h
 ·exact .inl (eq_of_beq h)
 ·right
  intro z
  rw [z] at h
  cases h
theorem CZ (n:Nat):gw (dg n)=decide (n<10 ^ 40):=by
 have ne:=Hu n
 have l1:1≤(dg n).length:=List.length_pos_iff.mpr ne
 have al:(dg n).all iU=true:=List.all_eq_true.mpr fun c hc=>by
  have:=zx n c hc
  unfold iU
  rw [decide_eq_true this.1,decide_eq_true this.2]
  rfl
 have hd:(dg n==[48] || !((dg n).head?==some 48))=true:=by
  by_cases h:n=0
  ·subst h;decide +kernel
  ·obtain ⟨c,r,e,hc⟩:=C3 (n:=n) (by trivial)
   rw [e]
   show (_ || !(some c==some 48))=true
   have:(some c==some 48)=false:=by simpa using hc
   rw [this]
   simp
 unfold gw
 rw [decide_eq_true l1,al,hd]
 have:=kB (n:=n) (k:=40) (by decide)
 by_cases h:n<10 ^ 40
 ·rw [decide_eq_true h,decide_eq_true (this.mpr h)];rfl
 ·rw [decide_eq_false h,decide_eq_false (fun z=>h (this.mp z))];rfl
theorem sV (n:Nat):dE (dg n)=if n<10 ^ 40 then some n else none:=by
 unfold dE
 rw [CZ,FL]
 by_cases h:n<10 ^ 40
 ·rw [if_pos h,if_pos (decide_eq_true h)]
 ·rw [if_neg h,if_neg (by simpa using h)]
theorem tX {cs:List Nat} (h:gw cs=true):cs=[48]↔digitsVal cs=0:=by
 constructor
 ·rintro rfl;rfl
 ·intro z
  rw [←(lX h).1,z]
  exact k7 (by decide)
theorem vF {cs:List Nat} (h:gw cs=true):cs=[49]↔digitsVal cs=1:=by
 constructor
 ·rintro rfl;rfl
 ·intro z
  rw [←(lX h).1,z]
  exact k7 (by decide)
theorem yR {cs:List Nat} (h:gw cs=true):47∉cs:=fun z=>by
 have:=(lX h).2.1 47 z
 trivial
def cF (n:Int):List Nat:=if n<0 then 45 :: dg n.natAbs else dg n.natAbs
def cU (n d:Int):List Nat:=if d=1 then cF n else cF n++47 :: dg d.natAbs
theorem lc {n c:Nat} (h:c<48):c∉dg n:=fun z=>by
 have:=zx n c z
 trivial
theorem xy (n:Int):47∉cF n:=by
 unfold cF
 by_cases h:n<0
 ·rw [if_pos h]
  intro z
  rcases List.mem_cons.mp z with z | z
  ·cases z
  ·exact lc (by decide) z
 ·rw [if_neg h]
  exact lc (by decide)
theorem vi (n:Int):eY (cF n)=if n.natAbs<10 ^ 40 then some n else none:=by
 unfold eY cF
 by_cases h:n<0
 ·rw [if_pos h,if_pos (show (45 :: dg n.natAbs).head?=some 45 from rfl)]
  show (match dE (dg n.natAbs) with | some 0=>none | some (n+1)=>some (-((n+1:Nat):Int)) | none=>none)=_
  rw [sV]
  by_cases h2:n.natAbs<10 ^ 40
  ·rw [if_pos h2,if_pos h2]
   obtain ⟨k,e⟩:∃k,n.natAbs=k+1:=⟨n.natAbs - 1,by trivial⟩
   rw [e]
   show some (-((k+1:Nat):Int))=some n
   congr 1
   trivial
  ·rw [if_neg h2,if_neg h2]
 ·rw [if_neg h]
  have:¬(dg n.natAbs).head?=some 45:=fun z=>by
   cases e:dg n.natAbs with
   | nil=>rw [e] at z;cases z
   | cons x r=>
    rw [e] at z
    cases z
    exact lc (n:=n.natAbs) (c:=45) (by decide) (by rw [e];simp)
  rw [if_neg this,sV]
  by_cases h2:n.natAbs<10 ^ 40
  ·rw [if_pos h2,if_pos h2]
   show some ((n.natAbs:Nat):Int)=some n
   congr 1
   trivial
  ·rw [if_neg h2,if_neg h2];rfl
theorem CI {n d:Int} (hd:1≤d) (hg:Int.gcd n d=1):b9 (cU n d)=if n.natAbs<10 ^ 40∧d<10 ^ 40 then some (n,d) else none:=by
 unfold b9 cU
 by_cases h1:d=1
 ·subst h1
  rw [if_pos rfl,ie (xy n)]
  show (eY (cF n)).map (fun n=>(n,(1:Int)))=_
  rw [vi]
  by_cases h:n.natAbs<10 ^ 40
  ·rw [if_pos h,if_pos ⟨h,by decide⟩];rfl
  ·rw [if_neg h,if_neg (fun z=>h z.1)];rfl
 ·rw [if_neg h1,kj (xy n),ie (lc (by decide))]
  show (match eY (cF n),dE (dg d.natAbs) with | some n,some d=>if 2≤d∧Nat.gcd n.natAbs d=1 then some (n,(d:Int)) else none | _,_=>none)=_
  rw [vi,sV]
  by_cases h:n.natAbs<10 ^ 40
  ·by_cases h2:d<10 ^ 40
   ·rw [if_pos h,if_pos (show d.natAbs<10 ^ 40 by trivial),if_pos ⟨h,h2⟩]
    show (if 2≤d.natAbs∧Nat.gcd n.natAbs d.natAbs=1 then some (n,((d.natAbs:Nat):Int)) else none)=_
    rw [if_pos ⟨by trivial,hg⟩,show ((d.natAbs:Nat):Int)=d by trivial]
   ·rw [if_pos h,if_neg (show ¬d.natAbs<10 ^ 40 by trivial),if_neg (fun z=>h2 z.2)]
  ·rw [if_neg h,if_neg (c:=n.natAbs<10 ^ 40∧d<10 ^ 40) (fun z=>h z.1)]
theorem AU {cs:List Nat} (h:47∉cs):b9 cs=(eY cs).map fun n=>(n,1):=by
 unfold b9
 rw [ie h]
theorem Dz {a b:List Nat} (h:47∉a):b9 (a++47 :: b)=match eY a,dE b with
 | some n,some d=>if 2≤d∧Nat.gcd n.natAbs d=1 then some (n,(d:Int)) else none
 | _,_=>none:=by
 unfold b9
 rw [kj h]
 by_cases hb:47∈b
 ·have nb:dE b=none:=by
   unfold dE
   rw [if_neg (fun z=>yR z hb)]
  have:gf fun p q r=>bD 47 b=p :: q :: r:=by
   have:=qS 47 (bD 47 b) (qX 47 b)
   cases e:bD 47 b with
   | nil=>exact absurd e (qX 47 b)
   | cons p r=>
    cases r with
    | cons q r=>exact ⟨p,q,r,rfl⟩
    | nil=>
     exfalso
     obtain ⟨c,d,rfl,hc⟩:aV fun c d=>b=c++47 :: d∧47∉c:=by
      clear e this nb
      induction b with
      | nil=>cases hb
      | cons x xs ih=>
       by_cases hx:x=47
       ·exact ⟨[],xs,by rw [hx];rfl,by simp⟩
       ·have hm:47∈xs:=by
         rcases List.mem_cons.mp hb with z | z
         ·exact absurd z.symm hx
         ·exact z
        obtain ⟨c,d,e,hc⟩:=ih hm
        exact ⟨x :: c,d,by rw [e];rfl,fun z=>by
         rcases List.mem_cons.mp z with z | z
         ·exact hx z.symm
         ·exact hc z⟩
     rw [kj hc] at e
     have:=qX 47 d
     simp at e
     exact this e.2
  obtain ⟨p,q,r,e⟩:=this
  rw [e,nb]
  cases eY a <;> rfl
 ·rw [ie hb]
theorem zg {K:PySem.W.Frag}{a:Addr}{c:Bool}{xs:List V}{g:TG}{tb:TS}{D:dY}{σ:St}{H:Hp} (Pv:Nat→St→Hp→Prop) (h0:Pv 0 σ H) (hl:∀i σ H,i≤xs.length→Pv i σ H→j0 K H a xs c)
 (hs:∀i x T σ H,xs[i]?=some x→H T=none→Pv i σ H→g (.ref T) σ (aL H T (.tup [.int (i:Int),x])) fun σ2 H2=>tb { D with nx:=Pv (i+1),ct:=Pv (i+1),bk:=D.nx } σ2 H2) (hd:∀σ H,Pv xs.length σ H→D.nx σ H) :
 ∃W:Nat→Nat→St→Hp→Prop,(∃m,W 0 m σ H)∧∀i m σ H,W i m σ H→
  ((vM K a c).stop i H∧D.nx σ H)∨((vM K a c).go i H∧∃N:St→Hp→Prop,(∀σ' H',N σ' H'→∃m',m'<m∧W (i+1) m' σ' H')∧∀x H',(vM K a c).yld i H x H'→g x σ H' fun σ2 H2=>tb { D with nx:=N,ct:=N,bk:=D.nx } σ2 H2):=by
 refine ⟨fun i m σ H=>m=xs.length - i∧i≤xs.length∧Pv i σ H,⟨xs.length,by simp,Nat.zero_le _,h0⟩,?_⟩
 rintro i m σ H ⟨rfl,hi,p⟩
 have q1:=hl i σ H hi p
 by_cases hlt:i<xs.length
 ·refine .inr ⟨⟨xs,xs[i],q1,by simp [hlt]⟩,Pv (i+1),fun σ' H' p'=>⟨xs.length - (i+1),by trivial,rfl,hlt,p'⟩,fun x H' y=>?_⟩
  obtain ⟨T,u,hT,rfl,rfl,e1⟩:=y
  exact hs i u T σ H (e1 xs q1) hT p
 ·have e:i=xs.length:=by trivial
  subst e
  exact .inl ⟨⟨xs,q1,rfl⟩,hd _ _ p⟩
theorem AQ (c:Nat) (cs:List Nat):Txt.startswith (S cs) (S [c])=(cs.head?==some c):=by
 unfold Txt.startswith
 rw [StrLaws.subAt_eq,bu,bu,sh,sh,List.drop_zero]
 cases cs with
 | nil=>rfl
 | cons x r=>
  have:decide (0+[c].length≤(x :: r).length)=true:=decide_eq_true (by simp)
  rw [this]
  show ([x]==[c])=(some x==some c)
  by_cases h:x=c
  ·subst h;simp
  ·simp [h]
def kd (cs t sl b:List Nat):Prop:=t.length≤cs.length∧b.length≤cs.length∧((sl=[]∧b9 cs=(eY t).map fun n=>(n,1))∨(sl=[47]∧b9 cs=match eY t,dE b with
 | some n,some d=>if 2≤d∧Nat.gcd n.natAbs d=1 then some (n,(d:Int)) else none
 | _,_=>none))
theorem Ee (cs:List Nat):gf fun t sl b=>Txt.partition (S cs) (S [47])=(S t,S sl,S b)∧kd cs t sl b:=by
 rcases wW 47 cs with ⟨h,e⟩ | ⟨a,b,rfl,h,e⟩
 ·exact ⟨cs,[],[],e,Nat.le_refl _,Nat.zero_le _,.inl ⟨rfl,AU h⟩⟩
 ·exact ⟨a,[47],b,e,by simp,by simp;trivial,.inr ⟨rfl,Dz h⟩⟩
def zR (H H':Hp):Option (Int×Int)→V→Prop
 | some p,v=>∃a,v=.ref a∧H a=none∧H' a=some (.tup [.int p.1,.int p.2])
 | none,v=>v=.non
def AY:Bool→Option Nat→Option Int
 | false,some n=>some (n:Int)
 | true,some (n+1)=>some (-((n+1:Nat):Int))
 | _,_=>none
theorem Fj (t:List Nat) {bl:Bool} (h:(t.head?==some 45)=bl):eY t=AY bl (dE (if bl=true then t.drop 1 else t)):=by
 unfold eY
 cases bl with
 | true=>
  have h':t.head?=some 45:=eq_of_beq h
  rw [if_pos h',if_pos rfl]
  cases dE (t.drop 1) with
  | none=>rfl
  | some n=>
   cases n with
   | zero=>rfl
   | succ n=>rfl
 | false=>
  have h':¬t.head?=some 45:=fun z=>by rw [z] at h;exact absurd h (by decide)
  rw [if_neg h',if_neg Bool.false_ne_true]
  cases dE t with
  | none=>rfl
  | some n=>rfl
theorem kd.no {cs t sl b:List Nat} (h:kd cs t sl b) (z:eY t=none):b9 cs=none:=by
 obtain ⟨_,_,⟨_,e⟩ | ⟨_,e⟩⟩:=h
 ·rw [e,z];rfl
 ·rw [e,z]
theorem kd.bare {cs t b:List Nat}{n:Int} (h:kd cs t [] b) (z:eY t=some n):b9 cs=some (n,1):=by
 obtain ⟨_,_,⟨_,e⟩ | ⟨e,_⟩⟩:=h
 ·rw [e,z];rfl
 ·cases e
theorem kd.over {cs t b:List Nat}{n:Int} (h:kd cs t [47] b) (z:eY t=some n):b9 cs=match dE b with
 | some d=>if 2≤d∧Nat.gcd n.natAbs d=1 then some (n,(d:Int)) else none
 | none=>none:=by
 obtain ⟨_,_,⟨e,_⟩ | ⟨_,e⟩⟩:=h
 ·cases e
 ·rw [e,z]
  cases dE b <;> rfl
theorem kd.sl {cs t sl b:List Nat} (h:kd cs t sl b):sl=[]∨sl=[47]:=by
 obtain ⟨_,_,⟨e,_⟩ | ⟨e,_⟩⟩:=h
 ·exact .inl e
 ·exact .inr e
theorem xJ {cs:List Nat} (h:gw cs=true):dE cs=some (digitsVal cs):=by unfold dE;rw [if_pos h]
theorem xC {cs:List Nat} (h:gw cs=false):dE cs=none:=by unfold dE;rw [h];rfl
theorem DR {ta tb:TT}{σ:St}{H:Hp}{R:Bool→Hp→Prop} (x y:Bool) (h1:∀R':Bool→Hp→Prop,R' x H→ta σ H R') (h2:∀R':Bool→Hp→Prop,R' y H→tb σ H R') (r:R (x && y) H):yz ta tb σ H R:=by
 refine h1 _ ?_
 cases x with
 | true=>exact aA (h2 _ r)
 | false=>exact ay r
theorem pP (i j:Int):decide (V.int i=V.int j)=decide (i=j):=decide_eq_decide.mpr ⟨fun z=>by injection z,fun z=>by rw [z]⟩
theorem pD {c:Nat}:∀{cs:List Nat}{p:List Nat},p∈bD c cs→p.length≤cs.length∧∀x∈p,x∈cs
 | [],p,h=>by
  have:p=[]:=by simpa [bD] using h
  subst this
  exact ⟨Nat.le_refl _,fun _ z=>z⟩
 | y :: ys,p,h=>by
  unfold bD at h
  by_cases e:y=c
  ·rw [if_pos e] at h
   rcases List.mem_cons.mp h with rfl | h
   ·exact ⟨Nat.zero_le _,fun _ z=>nomatch z⟩
   ·have:=pD h
    exact ⟨by have:=this.1;simp;trivial,fun x hx=>List.mem_cons_of_mem _ (this.2 x hx)⟩
  ·rw [if_neg e] at h
   cases es:bD c ys with
   | nil=>exact absurd es (qX c ys)
   | cons q qs=>
    rw [es] at h
    rcases List.mem_cons.mp h with rfl | h
    ·have:=pD (show q∈bD c ys by rw [es];simp)
     exact ⟨by have:=this.1;simp;trivial,fun x hx=>by
      rcases List.mem_cons.mp hx with rfl | hx
      ·simp
      ·exact List.mem_cons_of_mem _ (this.2 x hx)⟩
    ·have:=pD (show p∈bD c ys by rw [es];exact List.mem_cons_of_mem _ h)
     exact ⟨by have:=this.1;simp;trivial,fun x hx=>List.mem_cons_of_mem _ (this.2 x hx)⟩
section
variable {X:Cx}
def IE:Cf:=fun x y H Q=>mf fun a b xs ys=>x=.ref a∧y=.ref b∧H a=some (.tup xs)∧H b=some (.tup ys)∧ys≠[]∧xs.length+ys.length≤10000∧∀p H',ae H H'→H' p=some (.tup (xs++ys))→Q (.ref p) H'
theorem Dy:typeLookup (.type "tuple") (dunderI "add")=pure none:=by rw [typeLookup_type,builtinLookup_eq_fast];kernel_rfl
theorem xB:HG X .Add IE:=by
 intro pins s σ H x y v u Q I rx ry h
 obtain ⟨a,b,xs,ys,rfl,rfl,ha,hb,hy,hz,q⟩:=h
 cases rx
 cases ry
 obtain ⟨its,r1,p1,_⟩:=I.tuple (au.of (K:=X.K) ha)
 obtain ⟨its2,r2,p2,_⟩:=I.tuple (au.of (K:=X.K) hb)
 have l1:=r1.length
 have l2:=r2.length
 obtain ⟨⟨cls,dd,data,sl⟩,ho,hc,n,hd⟩:=id p1
 obtain ⟨⟨cls2,dd2,data2,sl2⟩,ho2,hc2,n2,hd2⟩:=id p2
 simp only at hc hd hc2 hd2
 subst hc hd hc2 hd2
 refine wpAny_inplaceOp_concat ⟨_,ho,rfl⟩ ⟨_,ho2,rfl⟩ Dy noFill_tuple_add seq_tuple_add ?_
 have sz:20000≤sizeLine:=by decide
 by_cases hx:xs=[]
 ·subst hx
  cases r1
  exact call_meets PySem.F.slot_tuple_add ⟨_,ho,rfl⟩ PySem.F.entry_tuple_add (PySem.F.args_tuple_add_2 _ _)
   (tuple_addW0 a b _ _ n n2 dd dd2 sl sl2 (by simp)) ⟨ho,ho2,⟨.ref b,H,I,rfl,q b H (ae.refl _) hb⟩⟩
 ·have nx:¬its.toArray.isEmpty=true:=fun z=>hx (r1.nil_iff.mp (by simpa using z))
  have ny:¬its2.toArray.isEmpty=true:=fun z=>hy (r2.nil_iff.mp (by simpa using z))
  refine call_meets PySem.F.slot_tuple_add ⟨_,ho,rfl⟩ PySem.F.entry_tuple_add (PySem.F.args_tuple_add_2 _ _)
   (tuple_addW2 a b _ _ n n2 dd dd2 sl sl2 nx ny (by rw [List.size_toArray,List.size_toArray];trivial)) ⟨ho,ho2,?_⟩
  have I2:=I.laid (t':=s.toks) (a:=s.heap.objs.size) (o:=.tup (xs++ys)) (h':=s.heap.push { cls:=.type "tuple",data:=.seq (its.toArray++its2.toArray) }) (fun b ob q=>Heap.get?_push_of_some _ q) (Nat.le_refl _)
   (show bc X.prog X.w _ _ _ (.tup _) from ⟨by rw [List.length_append];trivial,its++its2,r1.append r2,by
    have e:(its.toArray++its2.toArray)=(its++its2).toArray:=by simp
    rw [e]
    exact IsTup.new _ _,_,Heap.get?_push_size _ rfl,rfl⟩)
  exact ⟨.ref s.heap.objs.size,_,I2,rfl,q _ _ (ae.new I.fresh) ai⟩
inductive CB (K:PySem.W.Frag) (x:V) (vs:List V) (H:Hp) (Q:VK):Prop
 | mk (a:Addr) (c:Nat) (ls:List (List Nat)) (h0:x=.str (S [c])) (h1:vs=[.ref a]) (h2:ar K H a (ls.map fun l=>V.str (S l))) (h3:(ls.map (·.length)).sum+ls.length≤1000000) (h4:Q (.str (S (jn c ls))) H)
def Ek (K:PySem.W.Frag):V→List V→Hp→VK→Prop:=fun x vs H Q=>CB K x vs H Q
theorem qz {K:PySem.W.Frag} (ek:X.K=K:=by rfl):sf X "str.join" (Ek K):=by
 subst ek
 intro pins s σ H x vs v us Q I rx rv h
 obtain ⟨a,c,ls,rfl,rfl,hS,hz,q⟩:=h
 obtain ⟨t,rfl⟩:=rx
 obtain ⟨u,rfl,ru⟩:=rv.one
 obtain rfl:u=Value.ref a:=ru
 obtain ⟨its,r,ht,_⟩:=I.list hS
 have e1:((ls.map S).map (·.length)).sum=(ls.map (·.length)).sum:=by
  rw [List.map_map]
  congr 1
 refine join_list (ys:=ls.map S) ht.isList (by simpa using tL r) ?_ fun t' k=>?_
 ·rw [e1,show (S [c]).length=1 from rfl,List.length_map]
  trivial
 ·have:=join_plain_closes (S [c]) (ls.map S)
  rw [eq_of_beq this,ve]
  exact ⟨.str (S (jn c ls)),H,I.tok k,⟨()⟩,q⟩
inductive Bl (x:V) (vs:List V) (H:Hp) (Q:VK):Prop
 | mk (cs:List Nat) (c:Nat) (h0:x=.str (S cs)) (h1:vs=[.str (S [c])]) (h2:cs.length≤1000000) (h3:∀l H',Nw H l (.lst ((bD c cs).map fun p=>V.str (S p))) H'→Q (.ref l) H')
def Cs:V→List V→Hp→VK→Prop:=fun x vs H Q=>Bl  x vs H Q
theorem ui:sf X "str.split" Cs:=by
 intro pins s σ H x vs v us Q I rx rv h
 obtain ⟨cs,c,rfl,rfl,hz,q⟩:=h
 obtain ⟨t,rfl⟩:=rx
 obtain ⟨u,rfl,ru⟩:=rv.one
 obtain ⟨tu,rfl⟩:=ru
 have sz:2000000≤sizeLine:=by decide
 have hl:(S cs).length=cs.length:=bu cs
 refine x0 (by rfl) (by trivial) fun l k e=>?_
 have le:((Txt.split (S cs) (S [c])).map V.str).length≤sizeLine:=by rw [List.length_map];have:=split_le (S cs) (S [c]);trivial
 have I2:=I.laid (a:=s.heap.objs.size) (o:=.lst ((Txt.split (S cs) (S [c])).map V.str)) (h':=s.heap.push { cls:=.type "list",data:=.seq (strValues l).toArray }) (t':=k) (fun _ _ e=>Heap.get?_push_of_some _ e) (Nat.le_refl _)
  (show bc X.prog X.w _ _ _ (.lst _) from ⟨le,strValues l,0,e▸rT l,Heap.get?_push_size _ rfl⟩)
 have N:Nw H s.heap.objs.size (.lst ((Txt.split (S cs) (S [c])).map V.str)) _:=.mk' I.fresh
 have q':=q s.heap.objs.size (aL H s.heap.objs.size (.lst ((Txt.split (S cs) (S [c])).map V.str)))
 rw [C0,List.map_map] at q' N I2
 exact ⟨.ref s.heap.objs.size,_,I2,rfl,q' N⟩
end
def oF (c:Nat):Bool:=decide (97≤c) && decide (c≤122)
def nF (cs:List Nat):Bool:=(decide (1≤cs.length) && decide (cs.length≤8)) && cs.all oF
theorem pz (a b:Nat):decide ([a] < [b])=decide (a<b):=by
 by_cases h:a<b
 ·rw [decide_eq_true h];exact decide_eq_true (List.Lex.rel h)
 ·rw [decide_eq_false h]
  apply decide_eq_false
  intro z
  cases z with
  | rel q=>exact h q
  | cons q=>cases q
theorem Im (c:Nat):(!decide ((S [c]).cps.toList<(Str.ofString "a").cps.toList))=decide (97≤c):=by
 have e:(Str.ofString "a").cps.toList=[97]:=by nofun
 rw [e]
 show (!decide ([c] < [97]))=_
 rw [pz]
 by_cases h:c<97
 ·rw [decide_eq_true h,decide_eq_false (by trivial)];rfl
 ·rw [decide_eq_false h,decide_eq_true (by trivial)];rfl
theorem HS (c:Nat):(!decide ((Str.ofString "z").cps.toList<(S [c]).cps.toList))=decide (c≤122):=by
 have e:(Str.ofString "z").cps.toList=[122]:=by nofun
 rw [e]
 show (!decide ([122] < [c]))=_
 rw [pz]
 by_cases h:122<c
 ·rw [decide_eq_true h,decide_eq_false (by trivial)];rfl
 ·rw [decide_eq_false h,decide_eq_true (by trivial)];rfl
theorem xt {x:List Nat} (h:¬(1≤x.length∧x.length≤8)):nF x=false:=by
 show ((decide (1≤x.length) && decide (x.length≤8)) && _)=false
 by_cases h1:1≤x.length
 ·rw [decide_eq_false (fun z=>h ⟨h1,z⟩),Bool.and_false,Bool.false_and]
 ·rw [decide_eq_false h1,Bool.false_and,Bool.false_and]
theorem xa {x:List Nat} (h1:1≤x.length) (h2:x.length≤8):nF x=x.all oF:=by
 show ((decide (1≤x.length) && decide (x.length≤8)) && _)=_
 rw [decide_eq_true h1,decide_eq_true h2];rfl
theorem BE {l:List Nat} (h:hU l):nF l=true:=by
 rw [xa h.lo h.hi,List.all_eq_true]
 intro c hc
 have:=h.az c hc
 unfold oF
 rw [decide_eq_true this.1,decide_eq_true this.2];rfl
def b6:List Nat:=[112,108,97,99,101]
def d7:List Nat:=[116,105,101]
def kL:Option (Int×Int)→PyData
 | some p=>rH p
 | none=>.none
def o8 (m g p:Int×Int):Bool:=decide (0≤m.1) && decide (0<g.1) && decide (0≤p.1)
def o9:Option (Int×Int)→Option (Int×Int)→Option (Int×Int)→List Nat→List Nat→Option aU
 | some m,some g,some p,a,b=>if o8 m g p=true then some ⟨a,b,m,g,p⟩ else none
 | _,_,_,_,_=>none
def mY (ls:List (List Nat)) (a b:List Nat):Bool:=ls.contains a && ls.contains b && !(a==b)
def mD (ls:List (List Nat)):List (List Nat)→Option aU
 | [t,a,b,x,y,z]=>if t=d7 then (if mY ls a b=true then o9 (b9 x) (b9 y) (b9 z) a b else none) else none
 | _=>none
def pB:List (List Nat)→PyData
 | [t,a,b,x,y,z]=>if t=d7 then .tuple [.str (S a),.str (S b),kL (b9 x),kL (b9 y),kL (b9 z)] else .none
 | _=>.none
def u8 (ls:List (List Nat)) (ts:List aU):List (List Nat)→Option (List Nat)
 | [t,a]=>if t=b6∧nF a=true∧ls.contains a=false∧ts=[] then some a else none
 | _=>none
theorem El {α:Type}{l:List α} (h:l.length=6):xq fun a b c d e f=>l=[a,b,c,d,e,f]:=by
 match l,h with
 | [a,b,c,d,e,f],_=>exact ⟨a,b,c,d,e,f,rfl⟩
theorem uX (ls:List (List Nat)) (t a b x y z:List Nat):mD ls [t,a,b,x,y,z]=if t=d7 then (if mY ls a b=true then o9 (b9 x) (b9 y) (b9 z) a b else none) else none:=rfl
theorem pG (t a b x y z:List Nat):pB [t,a,b,x,y,z]=if t=d7 then .tuple [.str (S a),.str (S b),kL (b9 x),kL (b9 y),kL (b9 z)] else .none:=rfl
theorem Bs (ls:List (List Nat)) (ts:List aU) (t a:List Nat):u8 ls ts [t,a]=if t=b6∧nF a=true∧ls.contains a=false∧ts=[] then some a else none:=rfl
theorem xQ {ls:List (List Nat)}{ws:List (List Nat)} (h:ws.length≠6):mD ls ws=none:=by
 unfold mD
 split
 ·exact absurd rfl h
 ·rfl
theorem xp {ws:List (List Nat)} (h:ws.length≠6):pB ws=.none:=by
 unfold pB
 split
 ·exact absurd rfl h
 ·rfl
theorem wC {ls:List (List Nat)}{ts:List aU}{ws:List (List Nat)} (h:ws.length≠2):u8 ls ts ws=none:=by
 unfold u8
 split
 ·exact absurd rfl h
 ·rfl
inductive HV where
 | no
 | pl (w:List Nat)
 | ti (t:aU)
def mZ (ls:List (List Nat)) (ts:List aU) (ws:List (List Nat)):HV:=
 match u8 ls ts ws with
 | some w=>.pl w
 | none=>match mD ls ws with
  | some t=>.ti t
  | none=>.no
inductive y9 where
 | net (ls:List (List Nat)) (ts:List aU)
 | bad (i:Nat)
def cq:List (List Nat)→List aU→Nat→List (List Nat)→y9
 | ls,ts,_,[]=>.net ls ts
 | ls,ts,i,r :: rs=>match mZ ls ts (bD 32 r) with
  | .no=>.bad i
  | .pl w=>cq (ls++[w]) ts (i+1) rs
  | .ti t=>cq ls (ts++[t]) (i+1) rs
def yi:y9→PyData
 | .net ls ts=>.tuple [.str "told",fC ls ts]
 | .bad i=>.tuple [.str "row",.int (i:Int)]
theorem AH {ls:List (List Nat)}{ws:List (List Nat)}{t:aU} (h:mD ls ws=some t):pB ws=lQ t∧mY ls t.bg t.en=true:=by
 by_cases h6:ws.length=6
 ·obtain ⟨a,b,c,x,y,z,rfl⟩:=El h6
  rw [uX] at h
  rw [pG]
  by_cases ht:a=d7
  ·rw [if_pos ht] at h ⊢
   by_cases he:mY ls b c=true
   ·rw [if_pos he] at h
    revert h
    cases b9 x with
    | none=>intro h;cases h
    | some m=>
    cases b9 y with
    | none=>intro h;cases h
    | some g=>
    cases b9 z with
    | none=>intro h;cases h
    | some p=>
    intro h
    by_cases hs:o8 m g p=true
    ·rw [show o9 (some m) (some g) (some p) b c=_ from if_pos hs] at h
     cases h
     exact ⟨rfl,he⟩
    ·rw [show o9 (some m) (some g) (some p) b c=_ from if_neg hs] at h
     cases h
   ·rw [if_neg he] at h;cases h
  ·rw [if_neg ht] at h;cases h
 ·rw [xQ h6] at h;cases h
theorem Cz {r:y9} (h:∀ls ts,r=.net ls ts→ls.length≤1000∧ts.length≤1000):Dp 6 (yi r):=by
 have two:∀{n:Nat}{a b:PyData},Dp n a→Dp n b→Dp (n+1) (.tuple [a,b]):=fun ha hb=>⟨(by show 2≤1000;decide),fun d hd=>by
  rcases List.mem_cons.mp hd with rfl | hd
  ·exact ha
  rcases List.mem_cons.mp hd with rfl | hd
  ·exact hb
  ·cases hd⟩
 cases r with
 | bad i=>exact two trivial trivial
 | net ls ts=>
  obtain ⟨h1,h2⟩:=h ls ts rfl
  refine two trivial (two ⟨by rw [List.length_map];exact h1,fun d hd=>?_⟩ ⟨by rw [List.length_map];exact h2,fun d hd=>?_⟩)
  ·obtain ⟨l,_,rfl⟩:=List.mem_map.mp hd
   trivial
  ·obtain ⟨t,_,rfl⟩:=List.mem_map.mp hd
   refine ⟨(by show 5≤1000;decide),fun d hd=>?_⟩
   rcases List.mem_cons.mp hd with rfl | hd
   ·trivial
   rcases List.mem_cons.mp hd with rfl | hd
   ·trivial
   rcases List.mem_cons.mp hd with rfl | hd
   ·exact two trivial trivial
   rcases List.mem_cons.mp hd with rfl | hd
   ·exact two trivial trivial
   rcases List.mem_cons.mp hd with rfl | hd
   ·exact two trivial trivial
   ·cases hd
theorem yB {K:PySem.W.Frag}{D a:Addr}{xs:List V}{H1:Hp}{σc:St}{g:TG}{te:TE}{Q:VK} (F:Nat→PyData) (hz:xs.length≤10000) (hD:H1 D=none) (ha:H1 a=some (.lst xs))
 (hs:∀i x H' (R:VK),xs[i]?=some x→ae H1 H'→(∀v H4,ae H' H4→bh ED H4 v (F i)→R v H4)→g x σc H' fun σ2 H2=>jY σc σ2∧te σ2 H2 R)
 (hd:∀zs H',ae H1 H'→H' D=some (.lst zs)→aI ED H' zs ((List.range xs.length).map F)→Q (.ref D) H'):lA (xf K a) σc g tT te D H1 Q:=by
 refine ye (n:=xs.length) F hz hD (fun i H' hi sm=>⟨xs,xs[i],ar.of (sm _ _ ha),by simp [hi]⟩) (fun H' sm=>⟨xs,ar.of (sm _ _ ha),Nat.le_refl _⟩) ?_ hd
 rintro i x H' H'' R hi sm ⟨rfl,ex⟩ k
 exact hs i x H'' R (ex _ (ar.of (sm _ _ ha))) sm k
theorem rQ {cs:List Nat}{p:Int×Int} (h:b9 cs=some p):1≤p.2∧Int.gcd p.1 p.2=1:=by
 unfold b9 at h
 split at h
 ·next t e=>
  cases ht:eY t with
  | none=>rw [ht] at h;cases h
  | some n=>rw [ht] at h;cases h;exact ⟨by show (1:Int)≤1;decide,by show Nat.gcd _ 1=1;simp⟩
 ·next t b e=>
  cases ht:eY t with
  | none=>rw [ht] at h;cases h
  | some n=>
  cases hb:dE b with
  | none=>rw [ht,hb] at h;cases h
  | some d=>
   rw [ht,hb] at h
   by_cases c:2≤d∧Nat.gcd n.natAbs d=1
   ·have h':(some (n,(d:Int)):Option (Int×Int))=some p:=by rw [←h];exact (if_pos c).symm
    cases h'
    exact ⟨by show (1:Int)≤(d:Int);trivial,c.2⟩
   ·have h':(none:Option (Int×Int))=some p:=by rw [←h];exact (if_neg c).symm
    cases h'
 ·cases h
def rO:Option (Int×Int)→Bool
 | some p=>decide (0≤p.1)
 | none=>false
def xX:Option (Int×Int)→Bool
 | some p=>decide (0<p.1)
 | none=>false
theorem AR (x y z:Option (Int×Int)) (a b:List Nat):(o9 x y z a b).isSome=(rO x && xX y && rO z):=by
 cases x with
 | none=>rfl
 | some m=>
 cases y with
 | none=>rw [show xX none=false from rfl,Bool.and_false,Bool.false_and];rfl
 | some g=>
 cases z with
 | none=>rw [show rO none=false from rfl,Bool.and_false];rfl
 | some p=>
  show (if o8 m g p=true then some (⟨a,b,m,g,p⟩:aU) else none).isSome=o8 m g p
  cases o8 m g p <;> rfl
theorem wJ (c:Nat):∀ps:List (List Nat),(jn c ps).length≤(ps.map (·.length)).sum+ps.length
 | []=>by simp [jn]
 | [p]=>by simp [jn]
 | p :: q :: ps=>by
  have:=wJ c (q :: ps)
  show (p++c :: jn c (q :: ps)).length≤_
  rw [List.length_append,List.length_cons,List.map_cons,List.sum_cons,List.length_cons]
  trivial
theorem zS {c x:Nat}:∀{ps:List (List Nat)},x∈jn c ps→x=c∨∃p∈ps,x∈p
 | [],h=>by cases h
 | [p],h=>.inr ⟨p,by simp,h⟩
 | p :: q :: ps,h=>by
  rcases List.mem_append.mp (show x∈p++c :: jn c (q :: ps) from h) with h | h
  ·exact .inr ⟨p,by simp,h⟩
  rcases List.mem_cons.mp h with h | h
  ·exact .inl h
  rcases zS h with h | ⟨r,hr,h⟩
  ·exact .inl h
  ·exact .inr ⟨r,List.mem_cons_of_mem _ hr,h⟩
theorem wF {ps:List (List Nat)}{m:Nat} (h:∀p∈ps,p.length≤m):(ps.map (·.length)).sum≤ps.length*m:=by
 induction ps with
 | nil=>simp
 | cons p r ih=>
  have h1:=h p (by simp)
  have h2:=ih fun q hq=>h q (List.mem_cons_of_mem _ hq)
  rw [List.map_cons,List.sum_cons,List.length_cons,Nat.add_mul]
  trivial
end L2
namespace L2
open PySem PySem.Spec PyProof.Rows PySem.NumText
section
variable {X:Cx}
inductive Dm (x:V) (y:V) (H:Hp) (Q:VK):Prop
 | mk (l:_) (n:_) (h0:x=.str (S l)) (h1:y=.int n) (h2:0≤n) (h3:n≤1000) (h4:l.length≤100) (h5:Q (.str (S (List.replicate n.toNat l).flatten)) H)
def Eg:R2:=fun x y H Q=>Dm  x y H Q
theorem wB:b8 X (binaryOp .Mult) Eg:=by
 intro pins s σ H x y v u Q I rx ry h
 obtain ⟨l,n,e1,e2,h1,h2,h3,q⟩:=h
 by_cases h0:1≤n
 ·exact sw pins s σ H x y v u Q I rx ry ⟨l,n,e1,e2,h0,h2,h3,q⟩
 have:n=0:=by trivial
 subst this e1 e2
 obtain ⟨t,rfl⟩:=rx
 obtain ⟨t',rfl⟩:=ry
 exact PySem.P.mul_str_none (by decide) (by decide) ⟨.str (S []),H,I.tok _,⟨()⟩,q⟩
end
end L2
set_option maxHeartbeats 4000000
open L2
local macro_rules | `(#[$n:num,$i:ident])=>`(@pw _ $n _ _ (Or.inl $i) (by rfl) (by decide) (by decide)) | `(#[$n:num,($i:ident)])=>`(@pw _ $n _ _ (Or.inr (Or.inl $i)) (by rfl) (by decide) (by decide))
local macro_rules | `(#[$n:num,()])=>`(@pw _ $n _ _ (Or.inl (by kernel_rfl)) (by rfl) (by decide) (by decide)) | `(#[$n:num,0])=>`(@pw _ $n _ _ (Or.inr (Or.inl (by kernel_rfl))) (by rfl) (by decide) (by decide)) | `(#[$n:num,1])=>`(@pw _ $n _ _ (Or.inr (Or.inr (by kernel_rfl))) (by rfl) (by decide) (by decide))
local macro_rules | `(#[()])=>`(@bj _ _ _ _) | `(#[(),()])=>`(@jJ _ _ (by decide) (by decide))
local macro_rules | `(#[[$a]])=>`(@Av _ _ _ _ _ $a (@bE _) rfl) | `(#[[$a,$b,*]])=>`(@Av _ _ _ _ _ $a #[[$b,*]] rfl)
local macro_rules | `(#[$a[$b]])=>`(@eL _ _ _ _ _ _ _ (@GU _ ($(Lean.mkIdent `K)) (by rfl)) $a $b (fun _ _=>rfl)) | `(#[$a[$b]!])=>`(@eL _ _ _ _ _ _ _ (@Hg _ ($(Lean.mkIdent `K)) (by rfl)) $a $b (fun _ _=>rfl))
local macro_rules | `(#[$g:ident,$k:ident,$t:term,$a:term])=>`(@ko _ _ _ _ _ _ _ _ _ _ _ _ _ _ _ _ $g ($(Lean.mkIdent `hr).mono (by decide)) $k ($t).m ($t).F.kp ($t).B .nil (@pR _) $a (by decide) (by rfl) (by rfl))
local macro_rules | `(#[$g:ident,(),$t:term,$a:term])=>`(@ko _ _ _ _ _ _ _ _ _ _ _ _ _ _ _ _ $g ($(Lean.mkIdent `hr).mono (by decide)) (by show _=_;kernel_rfl) ($t).m ($t).F.kp ($t).B .nil (@pR _) $a (by decide) (by rfl) (by rfl))
local macro_rules | `(#[$n:num,$s:term,$i:ident,$v:term])=>`(@jH _ _ ($n) _ _ _ _ $s rfl (Or.inl $i) $v (by rfl) (by first | exact .inl rfl | exact .inr rfl | assumption))
local macro_rules | `(#[$n:num,$s:term,$i:ident])=>`(@dC _ _ ($n) _ $s rfl (Or.inl $i) (by first | exact .inl rfl | exact .inr rfl | assumption)) | `(#[$n:num,(),()])=>`(@dC _ _ ($n) _ (@As _ (by kernel_rfl)) rfl (Or.inl (by kernel_rfl)) (by first | exact .inl rfl | exact .inr rfl | assumption))
local macro_rules | `(#[(),(),$a,$b,$c,$d,$e])=>`(@eV _ _ _ _ _ _ _ _ _ $a $b $c $d $e (by decide) (by decide) (by rfl) (by rfl))
local macro_rules | `(#[$a :: $b])=>`(@cD _ _ _ _ _ $a $b)
local macro_rules | `(#[$f:ident $n:num $a*])=>do
 let us ←(Array.range n.getNat).mapM fun _=>`(_)
 `(@$f $us* $a*)
local macro_rules | `(#[($f:ident)])=>`($f ($(Lean.mkIdent `P):ident:=$(Lean.mkIdent `P)) ($(Lean.mkIdent `w):ident:=$(Lean.mkIdent `w)) ($(Lean.mkIdent `base):ident:=$(Lean.mkIdent `base)) $(Lean.mkIdent `T))
namespace K66
open PySem L2
def bW (i:Nat):Stmt:=PySem.Challenge.pw_gainroads_k66_nets_as_texts.main.body.getD i (.Pass ⟨0,0,0,0⟩)
abbrev lK:Stmt:=bW 17
abbrev im:Stmt:=bW 18
abbrev jN:Stmt:=bW 19
abbrev dI:Stmt:=bW 20
abbrev dh:Stmt:=bW 21
abbrev fz:Stmt:=bW 23
abbrev cK:Stmt:=bW 24
abbrev b7:Stmt:=bW 25
abbrev dD:Stmt:=bW 26
abbrev cS:Stmt:=bW 28
abbrev bV:Stmt:=bW 29
abbrev c8:Stmt:=bW 30
abbrev aM:Stmt:=bW 31
abbrev iQ:Stmt:=bW 32
abbrev dw:Stmt:=bW 33
abbrev kg:Stmt:=bW 34
abbrev dA:Stmt:=bW 35
abbrev gN:Stmt:=bW 36
abbrev bC:Stmt:=bW 37
abbrev tx:Stmt:=bW 39
abbrev qU:Stmt:=bW 40
abbrev mT:Stmt:=bW 41
abbrev gD:Stmt:=bW 42
abbrev fV:Stmt:=bW 43
abbrev jm:Stmt:=bW 44
abbrev bp:Stmt:=bW 45
abbrev cO:Stmt:=bW 46
abbrev dJ:Stmt:=bW 47
abbrev cZ:Stmt:=bW 48
abbrev aY:Stmt:=bW 49
abbrev aB:Stmt:=bW 50
abbrev hJ:Stmt:=bW 51
abbrev fU:Stmt:=bW 52
abbrev aw:Stmt:=bW 53
abbrev cn:Stmt:=bW 54
abbrev aT:Stmt:=bW 55
abbrev bJ:Stmt:=bW 56
abbrev dP:Stmt:=bW 57
abbrev lj:Stmt:=pU (bW 10) 0
abbrev j9:Stmt:=pU (bW 11) 0
abbrev nQ:Stmt:=pU (bW 12) 0
abbrev lE:Stmt:=pU (bW 13) 0
abbrev dB:Stmt:=pU (bW 14) 0
abbrev ku:Stmt:=pU (bW 15) 0
theorem vw:aF ["thing"] ["thing"] (ap lK):=⟨rfl,rfl,rfl,by nofun,rfl,by nofun,by nofun⟩
theorem j5:aF ["n", "d"] ["n", "d"] (ap im):=⟨rfl,rfl,rfl,by nofun,rfl,by nofun,by nofun⟩
theorem jr:aF ["thing", "n", "d"] ["thing"] (ap jN):=⟨rfl,rfl,rfl,by nofun,rfl,by nofun,by nofun⟩
theorem qc:aF ["thing"] ["thing"] (ap dI):=⟨rfl,rfl,rfl,by nofun,rfl,by nofun,by nofun⟩
theorem oK:aF ["thing"] ["thing"] (ap dh):=⟨rfl,rfl,rfl,by nofun,rfl,by nofun,by nofun⟩
theorem yc:aF ["thing"] ["thing"] (ap fz):=⟨rfl,rfl,rfl,by nofun,rfl,by nofun,by nofun⟩
theorem wE:aF ["thing"] ["thing"] (ap cK):=⟨rfl,rfl,rfl,by nofun,rfl,by nofun,by nofun⟩
theorem ip:aF ["places", "thing", "begin", "end", "most", "gain", "price"] ["places", "thing"] (ap b7):=⟨rfl,rfl,rfl,by nofun,rfl,by nofun,by nofun⟩
theorem oZ:aF ["thing", "places", "ties"] ["thing"] (ap dD):=⟨rfl,rfl,rfl,by nofun,rfl,by nofun,by nofun⟩
theorem hZ:aF ["number", "pieces", "piece"] ["number"] (ap cS):=⟨rfl,rfl,rfl,by nofun,rfl,by nofun,by nofun⟩
theorem ig:aF ["one", "sign", "whole"] ["one"] (ap bV):=⟨rfl,rfl,rfl,by nofun,rfl,by nofun,by nofun⟩
theorem tG:aF ["text", "most"] ["text", "most"] (ap c8):=⟨rfl,rfl,rfl,by nofun,rfl,by nofun,by nofun⟩
theorem bA:aF ["text", "top", "slash", "bottom", "below", "figures", "n", "one"] ["text"] (ap aM):=⟨rfl,rfl,rfl,by nofun,rfl,by nofun,by nofun⟩
theorem qC:aF ["text", "one"] ["text"] (ap iQ):=⟨rfl,rfl,rfl,by nofun,rfl,by nofun,by nofun⟩
theorem gP:aF ["tie", "begin", "end", "most", "gain", "price"] ["tie"] (ap dw):=⟨rfl,rfl,rfl,by nofun,rfl,by nofun,by nofun⟩
theorem wM:aF ["net"] ["net"] (ap kg):=⟨rfl,rfl,rfl,by nofun,rfl,by nofun,by nofun⟩
theorem rJ:aF ["words"] ["words"] (ap dA):=⟨rfl,rfl,rfl,by nofun,rfl,by nofun,by nofun⟩
theorem wS:aF ["words"] ["words"] (ap gN):=⟨rfl,rfl,rfl,by nofun,rfl,by nofun,by nofun⟩
theorem cM:aF ["text", "places", "ties", "at", "row", "words", "tie"] ["text"] (ap bC):=⟨rfl,rfl,rfl,by nofun,rfl,by nofun,by nofun⟩
theorem qt:aF ["_law_script", "_law_k", "_law_cell"] ["_law_script", "_law_k"] (ap tx):=⟨rfl,rfl,rfl,by nofun,rfl,by nofun,by nofun⟩
theorem pb:aF ["_law_box_here", "_law_many", "_law_found", "_law_once"] ["_law_box_here", "_law_many"] (ap qU):=⟨rfl,rfl,rfl,by nofun,rfl,by nofun,by nofun⟩
theorem jz:aF ["_law_script", "_law_many", "_law_cells", "_law_k", "_law_cell"] ["_law_script", "_law_many"] (ap mT):=⟨rfl,rfl,rfl,by nofun,rfl,by nofun,by nofun⟩
theorem lB:aF ["_law_n", "_law_d", "_law_one", "_law_other"] ["_law_n", "_law_d"] (ap gD):=⟨rfl,rfl,rfl,by nofun,rfl,by nofun,by nofun⟩
theorem vy:aF ["_law_one", "_law_other"] ["_law_one", "_law_other"] (ap fV):=⟨rfl,rfl,rfl,by nofun,rfl,by nofun,by nofun⟩
theorem ze:aF ["_law_one", "_law_other"] ["_law_one", "_law_other"] (ap jm):=⟨rfl,rfl,rfl,by nofun,rfl,by nofun,by nofun⟩
theorem cX:aF ["_law_box_here", "_law_many", "_law_letters", "_law_first", "_law_rest", "_law_behind", "_law_sign", "_law_other"] ["_law_box_here", "_law_many"] (ap bp):=⟨rfl,rfl,rfl,by nofun,rfl,by nofun,by nofun⟩
theorem jS:aF ["_law_box_here", "_law_way", "_law_top"] ["_law_box_here"] (ap cO):=⟨rfl,rfl,rfl,by nofun,rfl,by nofun,by nofun⟩
theorem nU:aF ["_law_box_here", "_law_way"] ["_law_box_here"] (ap dJ):=⟨rfl,rfl,rfl,by nofun,rfl,by nofun,by nofun⟩
theorem lZ:aF ["_law_box_here", "_law_way"] ["_law_box_here"] (ap cZ):=⟨rfl,rfl,rfl,by nofun,rfl,by nofun,by nofun⟩
theorem cP:aF ["_law_box_here", "_law_places", "_law_many", "_law_first", "_law_a", "_law_b", "_law_more", "_law_gains", "_law_spots"] ["_law_box_here", "_law_places"] (ap aY):=⟨rfl,rfl,rfl,by nofun,rfl,by nofun,by nofun⟩
theorem aX:aF ["_law_box_here", "_law_most_places", "_law_most_ties", "_law_way", "_law_great", "_law_places", "_law_many", "_law_some", "_law_worths", "_law_ends", "_law_turn", "_law_at", "_law_begin", "_law_end", "_law_gain", "_law_less", "_law_ties", "_law_top"] ["_law_box_here", "_law_most_places", "_law_most_ties"] (ap aB):=⟨rfl,rfl,rfl,by nofun,rfl,by nofun,by nofun⟩
theorem wu:aF ["_law_one"] ["_law_one"] (ap hJ):=⟨rfl,rfl,rfl,by nofun,rfl,by nofun,by nofun⟩
theorem kF:aF ["_law_net", "_law_rows", "_law_tie"] ["_law_net"] (ap fU):=⟨rfl,rfl,rfl,by nofun,rfl,by nofun,by nofun⟩
theorem cx:aF ["_law_which", "_law_thing", "_law_found", "_law_caught", "error", "_law_others", "_law_kinds"] ["_law_which", "_law_thing"] (ap aw):=⟨rfl,rfl,rfl,by nofun,rfl,by nofun,by nofun⟩
theorem tV:aF ["_law_found", "_law_due"] ["_law_found", "_law_due"] (ap cn):=⟨rfl,rfl,rfl,by nofun,rfl,by nofun,by nofun⟩
theorem bR:aF ["_law_box_here", "_law_many", "_law_letters", "_law_places", "_law_ties", "_law_turn", "_law_at", "_law_end", "_law_parts"] ["_law_box_here"] (ap aT):=⟨rfl,rfl,rfl,by nofun,rfl,by nofun,by nofun⟩
theorem iI:aF ["_law_net", "_law_written", "_law_again", "_law_text", "_law_turned_net"] ["_law_net"] (ap bJ):=⟨rfl,rfl,rfl,by nofun,rfl,by nofun,by nofun⟩
theorem lV:aF ["_law_script", "_law_cells", "_law_k", "_law_box_here", "_law_net", "_law_one"] ["_law_script"] (ap dP):=⟨rfl,rfl,rfl,by nofun,rfl,by nofun,by nofun⟩
theorem rS:aF ["self", "row"] ["self", "row"] (ap dB):=⟨rfl,rfl,rfl,by nofun,rfl,by nofun,by nofun⟩
end K66
namespace K66
open PySem L2
set_option genInjectivity false in
set_option genSizeOf false in
structure Df (K:PySem.W.Frag) (mg:Str→Option Value) (x:Str) (st:Stmt) (ps:List Str) where
 f:Addr
 d:FuncData
 m:mg x=some (.ref f)
 F:kK K x x st f d
 B:fM K d ps []
set_option genInjectivity false in
set_option genSizeOf false in
structure Txt (K:PySem.W.Frag) (mg:Str→Option Value) where
 b_ValueError:mg "ValueError" = none
 b_abs:mg "abs" = none
 b_all:mg "all" = none
 b_bool:mg "bool" = none
 b_dict:mg "dict" = none
 b_divmod:mg "divmod" = none
 b_enumerate:mg "enumerate" = none
 b_int:mg "int" = none
 b_isinstance:mg "isinstance" = none
 b_len:mg "len" = none
 b_list:mg "list" = none
 b_max:mg "max" = none
 b_range:mg "range" = none
 b_set:mg "set" = none
 b_str:mg "str" = none
 b_tuple:mg "tuple" = none
 b_zip:mg "zip" = none
 is_number_:Df K mg "is_number" lK ["thing"]
 common_divisor_:Df K mg "common_divisor" im ["n", "d"]
 is_fraction_:Df K mg "is_fraction" jN ["thing"]
 is_from_nought_:Df K mg "is_from_nought" dI ["thing"]
 is_above_nought_:Df K mg "is_above_nought" dh ["thing"]
 is_name_:Df K mg "is_name" fz ["thing"]
 are_names_:Df K mg "are_names" cK ["thing"]
 is_tie_:Df K mg "is_tie" b7 ["places", "thing"]
 is_net_:Df K mg "is_net" dD ["thing"]
 figures_of_:Df K mg "figures_of" cS ["number"]
 fraction_text_:Df K mg "fraction_text" bV ["one"]
 are_figures_:Df K mg "are_figures" c8 ["text", "most"]
 fraction_or_none_:Df K mg "fraction_or_none" aM ["text"]
 fraction_from_:Df K mg "fraction_from" iQ ["text"]
 tie_row_:Df K mg "tie_row" dw ["tie"]
 net_text_:Df K mg "net_text" kg ["net"]
 is_place_row_:Df K mg "is_place_row" dA ["words"]
 tie_from_:Df K mg "tie_from" gN ["words"]
 net_from_:Df K mg "net_from" bC ["text"]
 l_box_:Df K mg "_law_box" tx ["_law_script", "_law_k"]
 l_take_:Df K mg "_law_take" qU ["_law_box_here", "_law_many"]
 l_folded_:Df K mg "_law_folded" mT ["_law_script", "_law_many"]
 l_frac_:Df K mg "_law_frac" gD ["_law_n", "_law_d"]
 l_product_:Df K mg "_law_product" fV ["_law_one", "_law_other"]
 l_over_:Df K mg "_law_over" jm ["_law_one", "_law_other"]
 l_names_by_:Df K mg "_law_names_by" bp ["_law_box_here", "_law_many"]
 l_any_gain_:Df K mg "_law_any_gain" cO ["_law_box_here"]
 l_any_much_:Df K mg "_law_any_much" dJ ["_law_box_here"]
 l_any_price_:Df K mg "_law_any_price" cZ ["_law_box_here"]
 l_planted_:Df K mg "_law_planted" aY ["_law_box_here", "_law_places"]
 l_net_by_:Df K mg "_law_net_by" aB ["_law_box_here", "_law_most_places", "_law_most_ties"]
 l_word_of_:Df K mg "_law_word_of" hJ ["_law_one"]
 l_text_of_:Df K mg "_law_text_of" fU ["_law_net"]
 l_all_told_:Df K mg "_law_all_told" aw ["_law_which", "_law_thing"]
 l_same_:Df K mg "_law_same" cn ["_law_found", "_law_due"]
 l_great_net_:Df K mg "_law_great_net" aT ["_law_box_here"]
 l_right_:Df K mg "_law_right" bJ ["_law_net"]
 law_:Df K mg "law" dP ["_law_script"]
 f_Gaining__init:Addr
 d_Gaining__init:FuncData
 F_Gaining__init:kK K "__init__" "Gaining.__init__" lj f_Gaining__init d_Gaining__init
 B_Gaining__init:fM K d_Gaining__init ["self", "ties"] []
 f_NotSoMuch__init:Addr
 d_NotSoMuch__init:FuncData
 F_NotSoMuch__init:kK K "__init__" "NotSoMuch.__init__" j9 f_NotSoMuch__init d_NotSoMuch__init
 B_NotSoMuch__init:fM K d_NotSoMuch__init ["self", "most"] []
 f_Short__init:Addr
 d_Short__init:FuncData
 F_Short__init:kK K "__init__" "Short.__init__" nQ f_Short__init d_Short__init
 B_Short__init:fM K d_Short__init ["self", "share"] []
 f_Lacking__init:Addr
 d_Lacking__init:FuncData
 F_Lacking__init:kK K "__init__" "Lacking.__init__" lE f_Lacking__init d_Lacking__init
 B_Lacking__init:fM K d_Lacking__init ["self", "place"] []
 f_BadRow__init:Addr
 d_BadRow__init:FuncData
 F_BadRow__init:kK K "__init__" "BadRow.__init__" dB f_BadRow__init d_BadRow__init
 B_BadRow__init:fM K d_BadRow__init ["self", "row"] []
 f_BadSheet__init:Addr
 d_BadSheet__init:FuncData
 F_BadSheet__init:kK K "__init__" "BadSheet.__init__" ku f_BadSheet__init d_BadSheet__init
 B_BadSheet__init:fM K d_BadSheet__init ["self", "row"] []
 x_GainError:Addr
 m_GainError:mg "GainError" = some (.ref x_GainError)
 k_GainError:PySem.W.keepIn K (.ref x_GainError)=true
 xb_GainError:yJ K x_GainError=true
 x_BadNumber:Addr
 m_BadNumber:mg "BadNumber" = some (.ref x_BadNumber)
 k_BadNumber:PySem.W.keepIn K (.ref x_BadNumber)=true
 q_BadNumber:bL K x_BadNumber (none)=true
 x_Taken:Addr
 m_Taken:mg "Taken" = some (.ref x_Taken)
 k_Taken:PySem.W.keepIn K (.ref x_Taken)=true
 q_Taken:bL K x_Taken (none)=true
 x_NoPlace:Addr
 m_NoPlace:mg "NoPlace" = some (.ref x_NoPlace)
 k_NoPlace:PySem.W.keepIn K (.ref x_NoPlace)=true
 q_NoPlace:bL K x_NoPlace (none)=true
 x_NoTie:Addr
 m_NoTie:mg "NoTie" = some (.ref x_NoTie)
 k_NoTie:PySem.W.keepIn K (.ref x_NoTie)=true
 q_NoTie:bL K x_NoTie (none)=true
 x_AsItIs:Addr
 m_AsItIs:mg "AsItIs" = some (.ref x_AsItIs)
 k_AsItIs:PySem.W.keepIn K (.ref x_AsItIs)=true
 q_AsItIs:bL K x_AsItIs (none)=true
 x_NoEnds:Addr
 m_NoEnds:mg "NoEnds" = some (.ref x_NoEnds)
 k_NoEnds:PySem.W.keepIn K (.ref x_NoEnds)=true
 q_NoEnds:bL K x_NoEnds (none)=true
 x_Over:Addr
 m_Over:mg "Over" = some (.ref x_Over)
 k_Over:PySem.W.keepIn K (.ref x_Over)=true
 q_Over:bL K x_Over (none)=true
 x_TooMuch:Addr
 m_TooMuch:mg "TooMuch" = some (.ref x_TooMuch)
 k_TooMuch:PySem.W.keepIn K (.ref x_TooMuch)=true
 q_TooMuch:bL K x_TooMuch (none)=true
 x_Gaining:Addr
 m_Gaining:mg "Gaining" = some (.ref x_Gaining)
 k_Gaining:PySem.W.keepIn K (.ref x_Gaining)=true
 fn_Gaining:PySem.W.isFn K (.ref f_Gaining__init)=true
 st_Gaining:f7 K x_Gaining "ties" = true
 fd_Gaining:iH K x_Gaining "ties" = true
 q_Gaining:bL K x_Gaining (some (.ref f_Gaining__init))=true
 x_NotSoMuch:Addr
 m_NotSoMuch:mg "NotSoMuch" = some (.ref x_NotSoMuch)
 k_NotSoMuch:PySem.W.keepIn K (.ref x_NotSoMuch)=true
 fn_NotSoMuch:PySem.W.isFn K (.ref f_NotSoMuch__init)=true
 st_NotSoMuch:f7 K x_NotSoMuch "most" = true
 fd_NotSoMuch:iH K x_NotSoMuch "most" = true
 q_NotSoMuch:bL K x_NotSoMuch (some (.ref f_NotSoMuch__init))=true
 x_Short:Addr
 m_Short:mg "Short" = some (.ref x_Short)
 k_Short:PySem.W.keepIn K (.ref x_Short)=true
 fn_Short:PySem.W.isFn K (.ref f_Short__init)=true
 st_Short:f7 K x_Short "share" = true
 fd_Short:iH K x_Short "share" = true
 q_Short:bL K x_Short (some (.ref f_Short__init))=true
 x_Lacking:Addr
 m_Lacking:mg "Lacking" = some (.ref x_Lacking)
 k_Lacking:PySem.W.keepIn K (.ref x_Lacking)=true
 fn_Lacking:PySem.W.isFn K (.ref f_Lacking__init)=true
 st_Lacking:f7 K x_Lacking "place" = true
 fd_Lacking:iH K x_Lacking "place" = true
 q_Lacking:bL K x_Lacking (some (.ref f_Lacking__init))=true
 x_BadRow:Addr
 m_BadRow:mg "BadRow" = some (.ref x_BadRow)
 k_BadRow:PySem.W.keepIn K (.ref x_BadRow)=true
 fn_BadRow:PySem.W.isFn K (.ref f_BadRow__init)=true
 st_BadRow:f7 K x_BadRow "row" = true
 fd_BadRow:iH K x_BadRow "row" = true
 q_BadRow:bL K x_BadRow (some (.ref f_BadRow__init))=true
 x_BadSheet:Addr
 m_BadSheet:mg "BadSheet" = some (.ref x_BadSheet)
 k_BadSheet:PySem.W.keepIn K (.ref x_BadSheet)=true
 fn_BadSheet:PySem.W.isFn K (.ref f_BadSheet__init)=true
 st_BadSheet:f7 K x_BadSheet "row" = true
 fd_BadSheet:iH K x_BadSheet "row" = true
 q_BadSheet:bL K x_BadSheet (some (.ref f_BadSheet__init))=true
 em_BadRow_GainError:PySem.W.exmOne K (.ref x_BadRow) (.ref x_GainError)=some true
 kin:mL K [x_BadNumber,x_Taken,x_NoPlace,x_NoTie,x_AsItIs,x_NoEnds,x_Over,x_TooMuch,x_Gaining,x_NotSoMuch,x_Short,x_Lacking,x_BadRow,x_BadSheet] x_GainError=true
end K66
namespace K66
open PySem L2
abbrev ah (s:Stmt) (x:Str):Prop:=(ap s).names.lookup x=some NameKind.local
abbrev af (s:Stmt) (x:Str):Prop:=(ap s).names.lookup x=some NameKind.globalImplicit
abbrev jk (s:Stmt) (x:Str):Prop:=(ap s).names.lookup x=some NameKind.cell
theorem gZ:ah dI "thing" := by nofun
theorem jt:af dI "is_fraction" := by nofun
theorem gT:ah dh "thing" := by nofun
theorem i0:af dh "is_fraction" := by nofun
theorem iz:ah fz "thing" := by nofun
theorem mS:af fz "isinstance" := by nofun
theorem uJ:af fz "str" := by nofun
theorem uB:af fz "len" := by nofun
theorem uK:af fz "all" := by nofun
theorem df:ah cK "thing" := by nofun
theorem lG:af cK "isinstance" := by nofun
theorem qj:af cK "tuple" := by nofun
theorem iC:af cK "len" := by nofun
theorem rP:af cK "all" := by nofun
theorem rL:af cK "set" := by nofun
theorem li:ah b7 "places" := by nofun
theorem ju:ah b7 "thing" := by nofun
theorem jg:ah b7 "begin" := by nofun
theorem kW:ah b7 "end" := by nofun
theorem nO:ah b7 "most" := by nofun
theorem nR:ah b7 "gain" := by nofun
theorem l6:ah b7 "price" := by nofun
theorem nZ:af b7 "isinstance" := by nofun
theorem sD:af b7 "tuple" := by nofun
theorem vX:af b7 "len" := by nofun
theorem gS:af b7 "is_from_nought" := by nofun
theorem kS:af b7 "is_above_nought" := by nofun
theorem jf:ah dD "thing" := by nofun
theorem k6:jk dD "places" := by nofun
theorem jQ:ah dD "ties" := by nofun
theorem i8:af dD "isinstance" := by nofun
theorem mj:af dD "tuple" := by nofun
theorem vP:af dD "len" := by nofun
theorem oS:af dD "are_names" := by nofun
theorem vc:af dD "all" := by nofun
theorem dN:ah cS "number" := by nofun
theorem f8:ah cS "pieces" := by nofun
theorem oU:ah cS "piece" := by nofun
theorem oq:af cS "divmod" := by nofun
theorem qB:af cS "str" := by nofun
theorem dU:ah bV "one" := by nofun
theorem iY:ah bV "sign" := by nofun
theorem fj:ah bV "whole" := by nofun
theorem fR:af bV "figures_of" := by nofun
theorem ow:af bV "abs" := by nofun
theorem eH:ah c8 "text" := by nofun
theorem o0:ah c8 "most" := by nofun
theorem qd:af c8 "len" := by nofun
theorem pY:af c8 "all" := by nofun
theorem k4:ah aM "text" := by nofun
theorem cG:ah aM "top" := by nofun
theorem gK:ah aM "slash" := by nofun
theorem ce:ah aM "bottom" := by nofun
theorem cm:ah aM "below" := by nofun
theorem bH:ah aM "figures" := by nofun
theorem fB:ah aM "n" := by nofun
theorem eQ:ah aM "one" := by nofun
theorem eh:af aM "are_figures" := by nofun
theorem eU:af aM "int" := by nofun
theorem iD:af aM "is_fraction" := by nofun
theorem uG:ah dw "tie" := by nofun
theorem k8:ah dw "begin" := by nofun
theorem nL:ah dw "end" := by nofun
theorem md:ah dw "most" := by nofun
theorem mr:ah dw "gain" := by nofun
theorem lq:ah dw "price" := by nofun
theorem d6:af dw "fraction_text" := by nofun
theorem mm:ah kg "net" := by nofun
theorem fF:ah dA "words" := by nofun
theorem oP:af dA "len" := by nofun
theorem lM:af dA "is_name" := by nofun
theorem dM:ah gN "words" := by nofun
theorem sX:af gN "len" := by nofun
theorem qK:af gN "tuple" := by nofun
theorem rE:ah bC "text" := by nofun
theorem c9:ah bC "places" := by nofun
theorem gj:ah bC "ties" := by nofun
theorem nV:ah bC "at" := by nofun
theorem mv:ah bC "row" := by nofun
theorem dF:ah bC "words" := by nofun
theorem jh:ah bC "tie" := by nofun
theorem my:af bC "enumerate" := by nofun
theorem nX:af bC "tie_from" := by nofun
theorem kX:af bC "is_place_row" := by nofun
theorem tj:af bC "len" := by nofun
theorem qg:af bC "is_tie" := by nofun
theorem p6:af bC "BadRow" := by nofun
theorem oQ:ah gD "_law_n" := by nofun
theorem kG:ah gD "_law_d" := by nofun
theorem cC:ah gD "_law_one" := by nofun
theorem dH:ah gD "_law_other" := by nofun
theorem oD:af gD "abs" := by nofun
theorem jZ:ah fV "_law_one" := by nofun
theorem i7:ah fV "_law_other" := by nofun
theorem ph:af fV "_law_frac" := by nofun
theorem l0:ah jm "_law_one" := by nofun
theorem kE:ah jm "_law_other" := by nofun
theorem rN:af jm "_law_frac" := by nofun
theorem dX:jk bp "_law_box_here" := by nofun
theorem ja:ah bp "_law_many" := by nofun
theorem lR:jk bp "_law_letters" := by nofun
theorem iB:jk bp "_law_first" := by nofun
theorem i3:ah bp "_law_rest" := by nofun
theorem mq:jk bp "_law_behind" := by nofun
theorem ou:jk bp "_law_sign" := by nofun
theorem mV:jk bp "_law_other" := by nofun
theorem fZ:af bp "_law_take" := by nofun
theorem gq:af bp "range" := by nofun
theorem qM:af bp "int" := by nofun
theorem jK:af bp "tuple" := by nofun
theorem dZ:ah cO "_law_box_here" := by nofun
theorem eF:ah cO "_law_way" := by nofun
theorem jI:ah cO "_law_top" := by nofun
theorem gb:af cO "_law_take" := by nofun
theorem oa:af cO "_law_frac" := by nofun
theorem gR:ah dJ "_law_box_here" := by nofun
theorem eO:ah dJ "_law_way" := by nofun
theorem jb:af dJ "_law_take" := by nofun
theorem oy:af dJ "_law_frac" := by nofun
theorem gF:ah cZ "_law_box_here" := by nofun
theorem fY:ah cZ "_law_way" := by nofun
theorem iR:af cZ "_law_take" := by nofun
theorem mF:af cZ "_law_frac" := by nofun
theorem b5:ah aY "_law_box_here" := by nofun
theorem iJ:jk aY "_law_places" := by nofun
theorem gJ:ah aY "_law_many" := by nofun
theorem oz:jk aY "_law_first" := by nofun
theorem iF:ah aY "_law_a" := by nofun
theorem iE:ah aY "_law_b" := by nofun
theorem gG:ah aY "_law_more" := by nofun
theorem i4:ah aY "_law_gains" := by nofun
theorem dS:ah aY "_law_spots" := by nofun
theorem cN:af aY "_law_take" := by nofun
theorem lC:af aY "len" := by nofun
theorem jG:af aY "_law_frac" := by nofun
theorem p5:af aY "range" := by nofun
theorem qE:af aY "list" := by nofun
theorem rM:af aY "zip" := by nofun
theorem ax:jk aB "_law_box_here" := by nofun
theorem kC:ah aB "_law_most_places" := by nofun
theorem lN:ah aB "_law_most_ties" := by nofun
theorem ii:ah aB "_law_way" := by nofun
theorem gC:ah aB "_law_great" := by nofun
theorem bq:ah aB "_law_places" := by nofun
theorem ka:ah aB "_law_many" := by nofun
theorem qe:jk aB "_law_some" := by nofun
theorem fW:ah aB "_law_worths" := by nofun
theorem fb:ah aB "_law_ends" := by nofun
theorem qf:ah aB "_law_turn" := by nofun
theorem iO:ah aB "_law_at" := by nofun
theorem cQ:ah aB "_law_begin" := by nofun
theorem dL:ah aB "_law_end" := by nofun
theorem di:ah aB "_law_gain" := by nofun
theorem j7:ah aB "_law_less" := by nofun
theorem cw:ah aB "_law_ties" := by nofun
theorem kP:ah aB "_law_top" := by nofun
theorem bd:af aB "_law_take" := by nofun
theorem ma:af aB "_law_names_by" := by nofun
theorem rn:af aB "dict" := by nofun
theorem mC:af aB "_law_planted" := by nofun
theorem qR:af aB "range" := by nofun
theorem fi:af aB "len" := by nofun
theorem lY:af aB "_law_any_gain" := by nofun
theorem ng:af aB "_law_product" := by nofun
theorem qb:af aB "_law_over" := by nofun
theorem lW:af aB "_law_any_much" := by nofun
theorem lH:af aB "_law_any_price" := by nofun
theorem qJ:af aB "tuple" := by nofun
theorem e8:ah hJ "_law_one" := by nofun
theorem iW:af hJ "str" := by nofun
theorem j6:ah fU "_law_net" := by nofun
theorem gu:ah fU "_law_rows" := by nofun
theorem eZ:ah fU "_law_tie" := by nofun
theorem mQ:ah aw "_law_which" := by nofun
theorem iV:ah aw "_law_thing" := by nofun
theorem fD:ah aw "_law_found" := by nofun
theorem aW:ah aw "_law_caught" := by nofun
theorem jE:ah aw "error" := by nofun
theorem iy:ah aw "_law_others" := by nofun
theorem fN:ah aw "_law_kinds" := by nofun
theorem jU:af aw "fraction_from" := by nofun
theorem l7:af aw "net_from" := by nofun
theorem lJ:af aw "GainError" := by nofun
theorem bS:af aw "isinstance" := by nofun
theorem pi:af aw "Taken" := by nofun
theorem nq:af aw "NoPlace" := by nofun
theorem oB:af aw "NoTie" := by nofun
theorem nY:af aw "AsItIs" := by nofun
theorem oj:af aw "NoEnds" := by nofun
theorem qm:af aw "Over" := by nofun
theorem mR:af aw "TooMuch" := by nofun
theorem nh:af aw "Gaining" := by nofun
theorem lF:af aw "NotSoMuch" := by nofun
theorem oY:af aw "Short" := by nofun
theorem nu:af aw "Lacking" := by nofun
theorem lU:af aw "BadSheet" := by nofun
theorem kY:af aw "ValueError" := by nofun
theorem lI:af aw "BadNumber" := by nofun
theorem oh:af aw "BadRow" := by nofun
theorem bo:ah cn "_law_found" := by nofun
theorem bv:ah cn "_law_due" := by nofun
theorem aP:af cn "isinstance" := by nofun
theorem jT:af cn "list" := by nofun
theorem jx:af cn "tuple" := by nofun
theorem pA:af cn "len" := by nofun
theorem wA:af cn "all" := by nofun
theorem vq:af cn "zip" := by nofun
theorem kz:af cn "str" := by nofun
theorem jO:af cn "bool" := by nofun
theorem vb:af cn "int" := by nofun
theorem cf:jk aT "_law_box_here" := by nofun
theorem bQ:ah aT "_law_many" := by nofun
theorem kZ:jk aT "_law_letters" := by nofun
theorem cI:ah aT "_law_places" := by nofun
theorem fA:ah aT "_law_ties" := by nofun
theorem mB:ah aT "_law_turn" := by nofun
theorem gI:ah aT "_law_at" := by nofun
theorem i5:ah aT "_law_end" := by nofun
theorem cW:ah aT "_law_parts" := by nofun
theorem dk:af aT "_law_take" := by nofun
theorem f9:af aT "tuple" := by nofun
theorem f6:af aT "range" := by nofun
theorem p8:af aT "int" := by nofun
theorem qi:af aT "max" := by nofun
theorem bX:ah bJ "_law_net" := by nofun
theorem jd:ah bJ "_law_written" := by nofun
theorem ql:ah bJ "_law_again" := by nofun
theorem fJ:ah bJ "_law_text" := by nofun
theorem eS:ah bJ "_law_turned_net" := by nofun
theorem qG:af bJ "is_net" := by nofun
theorem jX:af bJ "str" := by nofun
theorem qY:af bJ "range" := by nofun
theorem oJ:af bJ "net_text" := by nofun
theorem mI:af bJ "isinstance" := by nofun
theorem je:af bJ "_law_text_of" := by nofun
theorem kO:af bJ "_law_same" := by nofun
theorem iM:af bJ "_law_all_told" := by nofun
theorem sP:ah dP "_law_script" := by nofun
theorem jV:ah dP "_law_cells" := by nofun
theorem ul:ah dP "_law_k" := by nofun
theorem ib:ah dP "_law_box_here" := by nofun
theorem jy:ah dP "_law_net" := by nofun
theorem qp:ah dP "_law_one" := by nofun
theorem sM:af dP "_law_folded" := by nofun
theorem wN:af dP "range" := by nofun
theorem zV:af dP "max" := by nofun
theorem Ar:af dP "len" := by nofun
theorem wO:af dP "_law_box" := by nofun
theorem sC:af dP "_law_net_by" := by nofun
theorem qa:af dP "_law_great_net" := by nofun
theorem uP:af dP "_law_right" := by nofun
theorem i9:ah dB "self" := by nofun
theorem oA:ah dB "row" := by nofun
theorem kr:af dB "GainError" := by nofun
end K66
namespace L2
open PySem PySem.Spec PySem.Calls PyProof.Rows
def topRunT (tb:String→Option Builtin) (p:Program) (w:World) (n₀:Nat) (ann:Option Value):Nat→PySem.W.SharedT→Thread→Option PySem.W.SharedT
 | 0,_,_=>none
 | n+1,s,t=>match PySem.W.through t with
  | true=>some s
  | false=>match PySem.W.stepOk n₀ ann t with
   | false=>none
   | true=>match PySem.W.stepT (denote tb) p w s t with
    | some (s',t')=>topRunT tb p w n₀ ann n s' t'
    | none=>none
theorem uo {tb:String→Option Builtin}{p:Program}{w:World}{n₀:Nat}{ann:Option Value}:∀{n:Nat}{s s':PySem.W.SharedT}{t:Thread},topRunT tb p w n₀ ann n s t=some s'→PySem.W.topRun tb p w n₀ ann n s.abs t=some s'.abs
 | 0,_,_,_,h=>by cases h
 | n+1,s,s',t,h=>by
  unfold topRunT at h
  unfold PySem.W.topRun
  cases he:PySem.W.through t with
  | true=>rw [he] at h;cases h;rfl
  | false=>
   rw [he] at h
   cases hk:PySem.W.stepOk n₀ ann t with
   | false=>rw [hk] at h;cases h
   | true=>
    rw [hk] at h
    cases hs:PySem.W.stepT (denote tb) p w s t with
    | none=>rw [hs] at h;cases h
    | some r=>obtain ⟨s₂,t₂⟩:=r;rw [hs] at h;rw [PySem.W.stepT_spec hs];exact uo h
open PySem.W in
noncomputable def Hq (P:Params):BT:=.node (boot_o_0 P) (.node (boot_o_1 P) (.node (boot_o_3 P) (.node (boot_o_7 P) .nil .nil) .nil) (.node (boot_o_5 P) (.node (boot_o_9 P) .nil .nil) .nil)) (.node (boot_o_2 P) (.node (boot_o_4 P) (.node (boot_o_8 P) .nil .nil) .nil) (.node (boot_o_6 P) (.node (boot_o_10 P) .nil .nil) .nil))
noncomputable def bootS (w:World) (os:OsState):PySem.W.SharedT:=⟨Hq w.params,11,{},#[],PySem.W.boot_drawn,PySem.W.boot_toks,os⟩
theorem zO (w:World):((PySem.W.boot_heap w.params).isNs mainGlobals,(PySem.W.boot_heap w.params).objs.size,(PySem.W.boot_heap w.params).nsMap mainGlobals "__annotations__")=(true,11,some (.ref 6)):=by kernel_rfl
noncomputable def looks {α:Type} (p q:Program) (Xt:Shared→Bool) (Yf:Shared→α) (w:World) (s:Shared):=
 (PySem.W.staticsOk (importedModules p.main.body) (PySem.W.boot_heap w.params) s.heap && PySem.W.namesBound p s.heap && PySem.W.gensDone s && PySem.W.laidKept (PySem.W.boot_heap w.params) s.heap,PySem.W.openSeen q [] (importedModules p.main.body) Xt true s,Yf s)
theorem left_tree {p q:Program}{Xt:Shared→Bool}{α:Type}{Yf:Shared→α}{Ya:α}{N:Nat}
 (e:PySem.W.opening p=PySem.W.plainProg p.main.scope.names) (hN:Nat.ble 600 N=true) (f:∀s,PySem.fenceModules? p s=some s)
 (run:∀(w:World) (os:OsState),(topRunT treeTable p w 11 (some (.ref 6)) N (bootS w os) (PySem.W.topStub p)).map (fun s=>looks p q Xt Yf w s.abs)=some (true,PySem.W.openGood q [],Ya)) :
 PySem.W.LeftO p q [] Xt Yf (fun _=>Ya) N:=fun w=>by
 obtain ⟨⟨h,gs,d,k,os⟩,ef,ev⟩:=Option.map_eq_some_iff.mp (PySem.W.boot_open e hN f w)
 obtain ⟨rfl,rfl,rfl,rfl⟩:h=PySem.W.boot_heap w.params∧gs=#[]∧d=PySem.W.boot_drawn∧k=PySem.W.boot_toks:=by simpa using ev
 obtain ⟨st,er,el⟩:=Option.map_eq_some_iff.mp (run w os)
 have r:=uo er
 have e0:(bootS w os).abs=⟨PySem.W.boot_heap w.params,#[],PySem.W.boot_drawn,PySem.W.boot_toks,os⟩:=rfl
 rw [e0] at r
 obtain ⟨z1,z2,z3⟩:_∧_∧_:=by simpa only [Prod.mk.injEq] using zO w
 obtain ⟨l1,l2,l3⟩:_∧_∧_:=by simpa only [looks,Prod.mk.injEq] using el
 have t:PySem.W.topFrom treeTable p w N ⟨PySem.W.boot_heap w.params,#[],PySem.W.boot_drawn,PySem.W.boot_toks,os⟩=some st.abs:=by
  unfold PySem.W.topFrom
  dsimp only
  rw [z1,z2,z3,r]
  show (match PySem.W.staticsOk (importedModules p.main.body) (PySem.W.boot_heap w.params) st.abs.heap && PySem.W.namesBound p st.abs.heap && PySem.W.gensDone st.abs && PySem.W.laidKept (PySem.W.boot_heap w.params) st.abs.heap with | true=>_ | false=>_)=_
  rw [l1]
 unfold PySem.W.openEnds
 rw [ef]
 show (PySem.W.topFrom treeTable p w N _).map _=_
 rw [t]
 exact congrArg some (Prod.ext l2 l3)
theorem left_of2 {α β:Type}{f f':World→β→α}{g g':α} (ef:f=f') (eg:g=g') (h:∀w os,f' w os=g') (w:World) (os:β):f w os=g:=by
 rw [ef,eg];exact h w os
end L2
namespace K66
open PySem L2
def qv:Program:=PySem.W.view PySem.Challenge.pw_gainroads_k66_nets_as_texts [1,2,3,4,5,6,7,8,9,10,11,12,13,14,15,17,18,19,20,21,23,24,25,26,28,29,30,31,32,33,34,35,36,37,39,40,41,42,43,44,45,46,47,48,49,50,51,52,53,54,55,56,57]
def obs (K:PySem.W.Frag):List (Option FuncData)×List Bool:=([fG K "is_number",
 fG K "common_divisor",
 fG K "is_fraction",
 fG K "is_from_nought",
 fG K "is_above_nought",
 fG K "is_name",
 fG K "are_names",
 fG K "is_tie",
 fG K "is_net",
 fG K "figures_of",
 fG K "fraction_text",
 fG K "are_figures",
 fG K "fraction_or_none",
 fG K "fraction_from",
 fG K "tie_row",
 fG K "net_text",
 fG K "is_place_row",
 fG K "tie_from",
 fG K "net_from",
 fG K "_law_box",
 fG K "_law_take",
 fG K "_law_folded",
 fG K "_law_frac",
 fG K "_law_product",
 fG K "_law_over",
 fG K "_law_names_by",
 fG K "_law_any_gain",
 fG K "_law_any_much",
 fG K "_law_any_price",
 fG K "_law_planted",
 fG K "_law_net_by",
 fG K "_law_word_of",
 fG K "_law_text_of",
 fG K "_law_all_told",
 fG K "_law_same",
 fG K "_law_great_net",
 fG K "_law_right",
 fG K "law",
 gB K (PySem.W.findIn K (.ref (aG K "Gaining")) "__init__") "Gaining.__init__",
 gB K (PySem.W.findIn K (.ref (aG K "NotSoMuch")) "__init__") "NotSoMuch.__init__",
 gB K (PySem.W.findIn K (.ref (aG K "Short")) "__init__") "Short.__init__",
 gB K (PySem.W.findIn K (.ref (aG K "Lacking")) "__init__") "Lacking.__init__",
 gB K (PySem.W.findIn K (.ref (aG K "BadRow")) "__init__") "BadRow.__init__",
 gB K (PySem.W.findIn K (.ref (aG K "BadSheet")) "__init__") "BadSheet.__init__"],
 [rG K "GainError",
 rG K "BadNumber",
 rG K "Taken",
 rG K "NoPlace",
 rG K "NoTie",
 rG K "AsItIs",
 rG K "NoEnds",
 rG K "Over",
 rG K "TooMuch",
 rG K "Gaining",
 rG K "NotSoMuch",
 rG K "Short",
 rG K "Lacking",
 rG K "BadRow",
 rG K "BadSheet",
 PySem.W.keepIn K (.ref (aG K "GainError")),
 yJ K (aG K "GainError"),
 PySem.W.keepIn K (.ref (aG K "BadNumber")),
 bL K (aG K "BadNumber") (none),
 PySem.W.keepIn K (.ref (aG K "Taken")),
 bL K (aG K "Taken") (none),
 PySem.W.keepIn K (.ref (aG K "NoPlace")),
 bL K (aG K "NoPlace") (none),
 PySem.W.keepIn K (.ref (aG K "NoTie")),
 bL K (aG K "NoTie") (none),
 PySem.W.keepIn K (.ref (aG K "AsItIs")),
 bL K (aG K "AsItIs") (none),
 PySem.W.keepIn K (.ref (aG K "NoEnds")),
 bL K (aG K "NoEnds") (none),
 PySem.W.keepIn K (.ref (aG K "Over")),
 bL K (aG K "Over") (none),
 PySem.W.keepIn K (.ref (aG K "TooMuch")),
 bL K (aG K "TooMuch") (none),
 PySem.W.keepIn K (.ref (aG K "Gaining")),
 PySem.W.isFn K (.ref (gh (PySem.W.findIn K (.ref (aG K "Gaining")) "__init__"))),
 f7 K (aG K "Gaining") "ties",
 iH K (aG K "Gaining") "ties",
 bL K (aG K "Gaining") (some (.ref (gh (PySem.W.findIn K (.ref (aG K "Gaining")) "__init__")))),
 PySem.W.keepIn K (.ref (aG K "NotSoMuch")),
 PySem.W.isFn K (.ref (gh (PySem.W.findIn K (.ref (aG K "NotSoMuch")) "__init__"))),
 f7 K (aG K "NotSoMuch") "most",
 iH K (aG K "NotSoMuch") "most",
 bL K (aG K "NotSoMuch") (some (.ref (gh (PySem.W.findIn K (.ref (aG K "NotSoMuch")) "__init__")))),
 PySem.W.keepIn K (.ref (aG K "Short")),
 PySem.W.isFn K (.ref (gh (PySem.W.findIn K (.ref (aG K "Short")) "__init__"))),
 f7 K (aG K "Short") "share",
 iH K (aG K "Short") "share",
 bL K (aG K "Short") (some (.ref (gh (PySem.W.findIn K (.ref (aG K "Short")) "__init__")))),
 PySem.W.keepIn K (.ref (aG K "Lacking")),
 PySem.W.isFn K (.ref (gh (PySem.W.findIn K (.ref (aG K "Lacking")) "__init__"))),
 f7 K (aG K "Lacking") "place",
 iH K (aG K "Lacking") "place",
 bL K (aG K "Lacking") (some (.ref (gh (PySem.W.findIn K (.ref (aG K "Lacking")) "__init__")))),
 PySem.W.keepIn K (.ref (aG K "BadRow")),
 PySem.W.isFn K (.ref (gh (PySem.W.findIn K (.ref (aG K "BadRow")) "__init__"))),
 f7 K (aG K "BadRow") "row",
 iH K (aG K "BadRow") "row",
 bL K (aG K "BadRow") (some (.ref (gh (PySem.W.findIn K (.ref (aG K "BadRow")) "__init__")))),
 PySem.W.keepIn K (.ref (aG K "BadSheet")),
 PySem.W.isFn K (.ref (gh (PySem.W.findIn K (.ref (aG K "BadSheet")) "__init__"))),
 f7 K (aG K "BadSheet") "row",
 iH K (aG K "BadSheet") "row",
 bL K (aG K "BadSheet") (some (.ref (gh (PySem.W.findIn K (.ref (aG K "BadSheet")) "__init__")))),
 A8 (PySem.W.exmOne K (.ref (aG K "BadRow")) (.ref (aG K "GainError"))),
 mL K [(aG K "BadNumber"),(aG K "Taken"),(aG K "NoPlace"),(aG K "NoTie"),(aG K "AsItIs"),(aG K "NoEnds"),(aG K "Over"),(aG K "TooMuch"),(aG K "Gaining"),(aG K "NotSoMuch"),(aG K "Short"),(aG K "Lacking"),(aG K "BadRow"),(aG K "BadSheet")] (aG K "GainError"),
 oG K "ValueError",
 oG K "abs",
 oG K "all",
 oG K "bool",
 oG K "dict",
 oG K "divmod",
 oG K "enumerate",
 oG K "int",
 oG K "isinstance",
 oG K "len",
 oG K "list",
 oG K "max",
 oG K "range",
 oG K "set",
 oG K "str",
 oG K "tuple",
 oG K "zip"])
def due:List (Option FuncData)×List Bool:=([dG "is_number" "is_number" lK,
 dG "common_divisor" "common_divisor" im,
 dG "is_fraction" "is_fraction" jN,
 dG "is_from_nought" "is_from_nought" dI,
 dG "is_above_nought" "is_above_nought" dh,
 dG "is_name" "is_name" fz,
 dG "are_names" "are_names" cK,
 dG "is_tie" "is_tie" b7,
 dG "is_net" "is_net" dD,
 dG "figures_of" "figures_of" cS,
 dG "fraction_text" "fraction_text" bV,
 dG "are_figures" "are_figures" c8,
 dG "fraction_or_none" "fraction_or_none" aM,
 dG "fraction_from" "fraction_from" iQ,
 dG "tie_row" "tie_row" dw,
 dG "net_text" "net_text" kg,
 dG "is_place_row" "is_place_row" dA,
 dG "tie_from" "tie_from" gN,
 dG "net_from" "net_from" bC,
 dG "_law_box" "_law_box" tx,
 dG "_law_take" "_law_take" qU,
 dG "_law_folded" "_law_folded" mT,
 dG "_law_frac" "_law_frac" gD,
 dG "_law_product" "_law_product" fV,
 dG "_law_over" "_law_over" jm,
 dG "_law_names_by" "_law_names_by" bp,
 dG "_law_any_gain" "_law_any_gain" cO,
 dG "_law_any_much" "_law_any_much" dJ,
 dG "_law_any_price" "_law_any_price" cZ,
 dG "_law_planted" "_law_planted" aY,
 dG "_law_net_by" "_law_net_by" aB,
 dG "_law_word_of" "_law_word_of" hJ,
 dG "_law_text_of" "_law_text_of" fU,
 dG "_law_all_told" "_law_all_told" aw,
 dG "_law_same" "_law_same" cn,
 dG "_law_great_net" "_law_great_net" aT,
 dG "_law_right" "_law_right" bJ,
 dG "law" "law" dP,
 dG "__init__" "Gaining.__init__" lj,
 dG "__init__" "NotSoMuch.__init__" j9,
 dG "__init__" "Short.__init__" nQ,
 dG "__init__" "Lacking.__init__" lE,
 dG "__init__" "BadRow.__init__" dB,
 dG "__init__" "BadSheet.__init__" ku],List.replicate 82 true)
end K66
def L2.Xt (s:PySem.Shared):Bool:=PySem.W.xlAt K66.qv [] s && PySem.W.recOk [] s
def L2.Yf (s:PySem.Shared):=K66.obs (L2.fragOf s.heap)
noncomputable def L2.lhs (w:PySem.World) (os:PySem.OsState):=(L2.topRunT PySem.treeTable PySem.Challenge.pw_gainroads_k66_nets_as_texts w 11 (some (.ref 6)) 9198 (L2.bootS w os) (PySem.W.topStub PySem.Challenge.pw_gainroads_k66_nets_as_texts)).map fun s=>L2.looks PySem.Challenge.pw_gainroads_k66_nets_as_texts K66.qv L2.Xt L2.Yf w s.abs
noncomputable def L2.rhs:=some (true,PySem.W.openGood K66.qv [],K66.due)
theorem L2.lhs0:L2.lhs=L2.lhs:=rfl
theorem L2.rhs0:L2.rhs=L2.rhs:=rfl
name_quick lhsQ for L2.lhs by L2.lhs0
name_quick rhsQ for L2.rhs by L2.rhs0
theorem L2.left:∀w os,L2.lhs w os=L2.rhs:=L2.left_of2 PySem.W.Fast.lhsQ_eq PySem.W.Fast.rhsQ_eq (fun w os=>by kernel_rfl)
namespace K66
open PySem L2
section
variable {P:Program}{w:World}{K:PySem.W.Frag}{mg:Str→Option Value}{base:Heap}
inductive EU (vs:List V) (H:Hp) (Q:VK):Prop
 | mk (x:V) (d:PyData) (E:Addr→Prop) (h0:vs=[x]) (h1:bh E H x d) (h2:Q (.bl (BP d)) H)
def GR:Sp:=fun vs H Q _=>EU  vs H Q
theorem wG (T:Txt K mg):aZ P w K mg base CX0 1 T.is_number_.f T.is_number_.d ["thing"] GR:=by
 refine T.is_number_.F.ok vw (fun vs H Q E h=>?_) (fun cdv A outer s H vs Q E hr h=>?_)
 ·obtain ⟨x,d,F,rfl,_⟩:=h
  rfl
 ·obtain ⟨x,d,F,rfl,hx,k⟩:=h
  refine ⟨_,(ac (aq (fk (eV jA (by rfl) T.b_isinstance aj (br (pv 0) (br (cr rfl T.b_int dn) bE))) (gl (Ae (eV jA (by rfl) T.b_isinstance aj (br (pv 0) (br (cr rfl T.b_bool iN) bE)))))))),?_⟩
  refine ⟨(),_,_,_,(),hx.ty,xG d,(),?_⟩
  have rest:∀b,BP d=!b→xR d=b→BM (Ea (fun xs H Q=>mf fun x T t b=>xs=[x,.ty T]∧fX K H x t∧PySem.W.kitOne K t (.type T)=some b∧Q (.bl b) H) (uQ (yy 0) (uQ (tC (.ty "bool")) Fn))) (jB ["thing"] [x]) H Q:=fun b e1 e2=>by
   refine ⟨(),_,_,_,(),hx.ty,kN d,(),?_⟩
   rw [e2,←e1]
   exact k
  cases d with
  | int i=>exact aA (rest false rfl rfl)
  | bool b=>exact aA (rest true rfl rfl)
  | none=>exact ay k
  | str _=>exact ay k
  | list _=>exact ay k
  | tuple _=>exact ay k
  | dict _=>exact ay k
inductive FN (vs:List V) (H:Hp) (Q:VK):Prop
 | mk (n d:Int) (h0:vs=[.int n,.int d]) (h1:Q (.int (Int.gcd n d:Nat)) H)
def Hx:Sp:=fun vs H Q _=>FN  vs H Q
theorem p9 (T:Txt K mg):aZ P w K mg base CX0 1 T.common_divisor_.f T.common_divisor_.d ["n", "d"] Hx:=by
 refine T.common_divisor_.F.ok j5 (fun vs H Q E h=>?_) (fun cdv A outer s H vs Q E hr h=>?_)
 ·obtain ⟨n,d,rfl,_⟩:=h
  rfl
 ·obtain ⟨n,d,rfl,k⟩:=h
  refine ⟨_,(cD (qQ PassesOwn.never (aE hV (pv 1) bj (jJ _)) (ac (pf (i:=0) (j:=1) rfl j5.nd rfl rfl (by decide) rfl rfl (br (pv 1) (br (ag CP (pv 0) (pv 1)) bE)) rfl)))
   (ac (aq (eV jj (by rfl) T.b_abs gQ (br (pv 0) bE))))),?_⟩
  refine ⟨fun m σ H'=>∃a b:Int,σ=[some (.int a),some (.int b)]∧H'=H∧Int.gcd a b=Int.gcd n d∧m=b.natAbs,⟨_,n,d,rfl,rfl,rfl,rfl⟩,?_⟩
  rintro m σ H' ⟨a,b,rfl,rfl,hg,rfl⟩
  refine ⟨(),rfl,(),?_⟩
  by_cases hb:b=0
  ·subst hb
   refine ay ?_
   refine ⟨(),(),?_⟩
   rw [←KM.gcd_zero_abs,hg]
   exact k
  ·have e:(!decide (V.int b=V.int 0))=true:=by
    rw [decide_eq_false (fun z=>hb (by injection z))];rfl
   rw [e]
   refine aA ⟨fun σ' H''=>∃a' b':Int,σ'=[some (.int a'),some (.int b')]∧H''=H'∧Int.gcd a' b'=Int.gcd n d∧b'.natAbs<b.natAbs,?_,?_⟩
   ·rintro σ' H'' ⟨a',b',rfl,rfl,h1,h2⟩
    exact ⟨_,h2,a',b',rfl,rfl,h1,rfl⟩
   ·refine ⟨(),(),(),_,(),rfl,hb,_,(),?_⟩
    exact ⟨b,a.fmod b,rfl,rfl,(KM.gcd_fmod a b).trans hg,KM.fmod_natAbs_lt a b hb⟩
def oV:PyData→Bool
 | .tuple [.int n,.int d]=>decide (1≤d) && decide (Int.gcd n d=1)
 | _=>false
inductive GV (vs:List V) (H:Hp) (Q:VK):Prop
 | mk (x:V) (d:PyData) (E:Addr→Prop) (h0:vs=[x]) (h1:bh E H x d) (h2:Q (.bl (oV d)) H)
def Iu:Sp:=fun vs H Q _=>GV  vs H Q
theorem jw (T:Txt K mg):aZ P w K mg base CX0 2 T.is_fraction_.f T.is_fraction_.d ["thing"] Iu:=by
 have G_is_number:=#[(wG)]
 have G_common_divisor:=#[(p9)]
 refine T.is_fraction_.F.ok jr (fun vs H Q E h=>?_) (fun cdv A outer s H vs Q E hr h=>?_)
 ·obtain ⟨x,d,F,rfl,_⟩:=h
  rfl
 ·obtain ⟨x,d,F,rfl,hx,k⟩:=h
  refine ⟨_,(cD (bt (PW.pt (dm (ci (bn (eV jA (by rfl) T.b_isinstance aj (br (pv 0) (br (cr rfl T.b_tuple ba) bE))))) (dj (aE hV (eV kM (by rfl) T.b_len aR (br (pv 0) bE)) bj (jJ _))))) (ac (aq dO)) aQ)
   (cD (eG (pv 0) (rm rfl (aD (dC (i:=1) jr.nd rfl (Or.inl rfl)) (aD (dC (i:=2) jr.nd rfl (Or.inl rfl)) cA))))
   (cD (bt (PW.pt (dm (ci (bn (ko G_is_number (hr.mono (by decide)) rfl T.is_number_.m T.is_number_.F.kp T.is_number_.B .nil pR (br (pv 1) bE)))) (dj (ci (bn (ko G_is_number (hr.mono (by decide)) rfl T.is_number_.m T.is_number_.F.kp T.is_number_.B .nil pR (br (pv 2) bE))))))) (ac (aq dO)) aQ)
   (ac (aq (fk (bY uV (pv 2) bj (jJ _)) (gl (bY bI (ko G_common_divisor (hr.mono (by decide)) rfl T.common_divisor_.m T.common_divisor_.F.kp T.common_divisor_.B .nil pR (br (pv 1) (br (pv 2) bE))) bj (jJ _))))))))),?_⟩
  refine ⟨(),_,_,_,(),hx.ty,cR d,(),?_⟩
  cases hx with
  | non=>exact aA (aA k)
  | bl b=>exact aA (aA k)
  | int i=>exact aA (aA k)
  | str y=>exact aA (aA k)
  | lst h ne r=>exact aA (aA k)
  | @tup a xs ds h r=>
   refine ay ?_
   refine ⟨(),_,xs,rfl,.inr (au.of h),rfl,(),?_⟩
   have hl:=r.length
   by_cases h2:xs.length=2
   ·have e:(!decide (V.int (xs.length:Int)=V.int 2))=false:=by
     rw [h2];rfl
    rw [e]
    refine ay ?_
    obtain ⟨v1,v2,rfl⟩:aV fun v1 v2=>xs=[v1,v2]:=eX (P:=fun l=>aV fun v1 v2=>l=[v1,v2]) (fun a b=>⟨a,b,rfl⟩) _ h2
    cases r with
    | @cons _ _ d1 _ r1 r=>
    cases r with
    | @cons _ _ d2 _ r2 r=>
    cases r
    refine ⟨(),a,[v1,v2],rfl,au.of h,rfl,v1,[v2],rfl,v2,[],rfl,rfl,?_⟩
    refine ⟨(),v1,d1,F,rfl,r1,(),?_⟩
    cases r1 with
    | non=>exact aA (aA k)
    | bl b=>exact aA (aA k)
    | str y=>exact aA (aA k)
    | lst _ _ _=>exact aA (aA k)
    | tup _ _=>exact aA (aA k)
    | int n=>
     refine ay ?_
     refine ⟨(),v2,d2,F,rfl,r2,(),?_⟩
     cases r2 with
     | non=>exact aA k
     | bl b=>exact aA k
     | str y=>exact aA k
     | lst _ _ _=>exact aA k
     | tup _ _=>exact aA k
     | int de=>
      refine ay ?_
      refine ⟨(),_,(),rfl,(),?_⟩
      by_cases he:1≤de
      ·rw [decide_eq_true he]
       refine aA ?_
       refine ⟨(),(),n,de,rfl,rfl,?_⟩
       have q:oV (.tuple [.int n,.int de])=decide (V.int ((Int.gcd n de:Nat):Int)=V.int 1):=by
        show (decide (1≤de) && decide (Int.gcd n de=1))=_
        rw [decide_eq_true he,Bool.true_and]
        by_cases g:Int.gcd n de=1
        ·rw [g];rfl
        ·rw [decide_eq_false g,decide_eq_false]
         intro z
         injection z with z
         exact g (by trivial)
       rw [←q]
       exact k
      ·rw [decide_eq_false he]
       refine ay ?_
       have q:oV (.tuple [.int n,.int de])=false:=by
        show (decide (1≤de) && decide (Int.gcd n de=1))=_
        rw [decide_eq_false he,Bool.false_and]
       rw [←q]
       exact k
   ·have e:(!decide (V.int (xs.length:Int)=V.int 2))=true:=by
     rw [decide_eq_false]
     ·rfl
     ·intro z
      injection z with z
      exact h2 (by trivial)
    rw [e]
    refine aA ?_
    have q:oV (.tuple ds)=false:=by
     unfold oV
     split
     ·rename_i z
      injection z with z
      subst z
      simp at hl
      exact absurd hl h2
     ·rfl
    rw [←q]
    exact k
end
end K66
namespace K66
open PySem L2
section
variable {P:Program}{w:World}{K:PySem.W.Frag}{mg:Str→Option Value}{base:Heap}
theorem D9 (T:Txt K mg):aZ P w K mg base CX0 1 T.l_box_.f T.l_box_.d ["_law_script", "_law_k"] (Hl K):=by
 refine T.l_box_.F.ok qt (fun vs H Q E h=>?_) (fun cdv A outer s H vs Q E hr h=>?_)
 ·obtain ⟨a,ms,k,rfl,_⟩:=h
  rfl
 ·obtain ⟨a,ms,k,rfl,hS,hk0,hk1,kk⟩:=h
  refine ⟨_,(cD (jH (i:=2) qt.nd rfl (Or.inl rfl) bj)
   (cD (bt (aE pL (pv 1) (eV kM (by rfl) T.b_len aR (br (pv 0) bE)) (jJ _)) (ac (jH (i:=2) qt.nd rfl (Or.inl rfl) (eL iG (pv 0) (pv 1) (fun _ _=>rfl)))) aQ)
   (ac (aq (Ff (br (ag ft (eV jj (by rfl) T.b_abs gQ (br (pv 2) bE)) (be oX (by rfl) T.b_int dn (br (bY uV (eV jj (by rfl) T.b_abs gQ (br (pv 2) bE)) (ag kD bj bj) (jJ _)) bE))) (br (ag fP (ag bw (pv 2) (ag ft (ag ft bj (pv 1)) (pv 1))) bj) (br bj bE)))))))),?_⟩
  refine ⟨(),(),a,(),.inl hS,_,(),rfl,(),?_⟩
  refine kU (fun h=>?_) (fun h=>?_)
  case' refine_1=>
   have hlt:k.toNat<ms.length:=by
    have h':=of_decide_eq_true h
    rw [List.length_map] at h'
    trivial
   refine ⟨(),(),.inl ⟨a,_,_,V.int ms[k.toNat],rfl,rfl,hS,?_,?_⟩⟩
   ·exact xO hk0 hlt
  all_goals
   refine ⟨(),(),(),(),_,(),rfl,⟨by decide,by decide,by decide⟩,_,(),rfl,.inr ⟨(),_,(),rfl,.inr ?_,(),(),_,(),rfl,.inr ⟨by trivial,by trivial⟩,(),_,(),rfl,.inr ⟨by trivial,by trivial⟩,_,(),rfl,_,(),rfl,?_,?_,fun p hp=>kk p _ hp (ae.new hp) ⟨_,_,ai,?_,?_,?_⟩⟩⟩
   ·exact IY _
   ·show (0:Int)<2147483647;decide
   ·show 3≤sizeLine;decide
   ·exact GE _ (vE _)
   ·exact Int.emod_nonneg _ (by decide)
   ·exact Int.emod_lt_of_pos _ (by decide)
end
end K66
namespace K66
open PySem L2
section
variable {P:Program}{w:World}{K:PySem.W.Frag}{mg:Str→Option Value}{base:Heap}
theorem jo (T:Txt K mg):aZ P w K mg base CX0 1 T.l_take_.f T.l_take_.d ["_law_box_here", "_law_many"] Ft:=by
 refine T.l_take_.F.ok pb (fun vs H Q E h=>?_) (fun cdv A outer s H vs Q E hr h=>?_)
 ·obtain ⟨b,many,t,rfl,_⟩:=h
  rfl
 ·obtain ⟨b,many,t,rfl,⟨c,x,hb,hc,hx0,hx1⟩,hm0,hm1,ht0,ht1,kk⟩:=h
  refine ⟨_,(cD (bt (aE rB (eL iG (pv 0) bj (fun _ _=>rfl)) bj (jJ _)) (cD (eG (eV ww (by rfl) T.b_divmod nS (br (eL iG (pv 0) bj (fun _ _=>rfl)) (br (pv 1) bE))) (rm rfl (aD (rC (pv 0) bj mU) (aD (dC (i:=2) pb.nd rfl (Or.inl rfl)) cA))))
   (ac (aq (pv 2)))) aQ)
   (cD (eG (ag bw (eL iG (pv 0) bj (fun _ _=>rfl)) bj) (rC (pv 0) bj mU))
   (cD (jH (i:=3) pb.nd rfl (Or.inl rfl) (ag fP (ag kD (ag bw (eL iG (pv 0) bj (fun _ _=>rfl)) (ag ft bj (eL iG (pv 0) bj (fun _ _=>rfl)))) bj) bj))
   (ac (aq (ag fP (ag xz (ag fP (ag bw (ag ft (pv 3) bj) (ag ft (ag ft (eL iG (pv 0) bj (fun _ _=>rfl)) (eL iG (pv 0) bj (fun _ _=>rfl))) bj)) bj) bj) (pv 1))))))),?_⟩
  refine ⟨(),.inl ⟨b,_,_,(),rfl,ar.of hb,rfl,_,(),rfl,(),?_⟩⟩
  refine kU (fun h=>?_) (fun h=>?_)
  ·refine ⟨(),.inl ⟨b,_,_,(),rfl,ar.of hb,rfl,(),_,(),⟨hm0,hm1⟩,fun p hp=>⟨p,(),au.of ai,rfl,_,(),(),b,[.int c,.int x,.int t],_,0,rfl,rfl,?_,rfl,_,(),rfl,(),?_⟩⟩⟩
   ·rw [am (aS hb hp)];exact hb
   ·have hb':aL H p (.tup [.int (c / many),.int (c % many)]) b=some (.lst [.int c,.int x,.int t]):=by rw [am (aS hb hp)];exact hb
    exact kk _ t _ (Int.emod_nonneg _ (Int.ne_of_gt hm0)) (Int.emod_lt_of_pos _ hm0) (Int.le_refl _) (by trivial) (ue (ae.new hp) hb') ⟨_,_,ai,Int.ediv_nonneg hc (Int.le_of_lt hm0),hx0,hx1⟩
  ·refine ⟨(),.inl ⟨b,_,_,(),rfl,ar.of hb,rfl,_,(),rfl,(),b,_,_,2,rfl,rfl,hb,rfl,?_⟩⟩
   refine ⟨(),.inl ⟨b,_,_,(),rfl,ar.of ai,rfl,(),.inl ⟨b,_,_,(),rfl,ar.of ai,rfl,_,(),rfl,.inl ⟨by decide,by decide⟩,_,(),rfl,_,(),rfl,⟨by decide,by decide,?_⟩,_,(),rfl,?_,?_⟩⟩⟩
   ·have:(x+39373*(t+1)).natAbs<2 ^ 64:=by trivial
    exact this
   ·show (0:Int)<2147483647;decide
   have ho0:0≤(x+39373*(t+1)) ^ (5:Int).toNat % 2147483647:=Int.emod_nonneg _ (by decide)
   have ho1:(x+39373*(t+1)) ^ (5:Int).toNat % 2147483647<2147483647:=Int.emod_lt_of_pos _ (by decide)
   generalize (x+39373*(t+1)) ^ (5:Int).toNat % 2147483647=on at ho0 ho1 ⊢
   refine ⟨(),_,(),rfl,.inr ⟨by decide,by decide⟩,(),.inl ⟨b,_,_,(),rfl,ar.of ai,rfl,(),.inl ⟨b,_,_,(),rfl,ar.of ai,rfl,_,(),rfl,.inl ⟨?_,?_⟩,_,(),rfl,.inr ⟨by decide,by decide⟩,_,(),rfl,_,(),rfl,?_,_,(),rfl,⟨by decide,by decide⟩,(),_,(),rfl,hm0,?_⟩⟩⟩
   ·show -(2 ^ 64)<t+1;trivial
   ·show t+1<2 ^ 64;trivial
   ·show (0:Int)<2147483629;decide
   ·exact kk _ (t+1) _ (Int.emod_nonneg _ (Int.ne_of_gt hm0)) (Int.emod_lt_of_pos _ hm0) (by trivial) (Int.le_refl _) (ue (ae.refl H) hb) ⟨c,x,ai,hc,hx0,hx1⟩
end
end K66
namespace K66
open PySem L2
section
variable {P:Program}{w:World}{K:PySem.W.Frag}{mg:Str→Option Value}{base:Heap}
inductive AD (K:PySem.W.Frag) (vs:List V) (H:Hp) (Q:VK):Prop
 | mk (a:Addr) (ns:List Int) (many:Int) (h0:vs=[.ref a,.int many]) (h1:ar K H a (ns.map V.int)) (h2:ns.length≤63) (h3:2≤many) (h4:many≤63) (h5:∀p ms H',H p=none→ae H H'→H' p=some (.lst ((ms:List Int).map V.int))→(ms.length:Int)≤many→Q (.ref p) H')
def CG (K:PySem.W.Frag):Sp:=fun vs H Q _=>AD K vs H Q
theorem zX (T:Txt K mg):aZ P w K mg base CX0 1 T.l_folded_.f T.l_folded_.d ["_law_script", "_law_many"] (CG K):=by
 refine T.l_folded_.F.ok jz (fun vs H Q E h=>?_) (fun cdv A outer s H vs Q E hr h=>?_)
 ·obtain ⟨a,ns,many,rfl,_⟩:=h
  rfl
 ·obtain ⟨a,ns,many,rfl,hS,hn,hm0,hm1,kk⟩:=h
  refine ⟨_,(cD (jH (i:=2) jz.nd rfl (Or.inl rfl) (be vm (by rfl) T.b_list gH (br (fO su (pv 0) iw (d9 (pv 1))) bE)))
   (cD (iZ PassesOwn.never rfl (Dx rfl T.b_enumerate (br (fO su (pv 0) (d9 (pv 1)) (d9 bj)) bE)) (rm rfl (aD (dC (i:=3) jz.nd rfl (Or.inl rfl)) (aD (dC (i:=4) jz.nd rfl (Or.inl rfl)) cA))) (ac (eG (ag bw (eL iG (pv 2) (ag fP (pv 3) (pv 1)) (fun _ _=>rfl)) (ag ft (pv 4) (ag bw (pv 3) bj))) (rC (pv 2) (ag fP (pv 3) (pv 1)) mU))))
   (ac (aq (pv 2))))),?_⟩
  have cutE:∀(lo hi:Option Int),∃cs:List Int,gW (ns.map V.int) lo hi=cs.map V.int∧cs.length≤ns.length∧cs=(ns.drop (HT.sIx ns.length 0 lo)).take (HT.sIx ns.length ns.length hi - HT.sIx ns.length 0 lo):=fun lo hi=>by
   refine ⟨(ns.drop (HT.sIx ns.length 0 lo)).take (HT.sIx ns.length ns.length hi - HT.sIx ns.length 0 lo),?_,?_,rfl⟩
   ·unfold gW
    rw [List.length_map,List.map_take,List.map_drop]
   ·rw [List.length_take,List.length_drop];trivial
  obtain ⟨c1,e1,l1,q1⟩:=cutE none (some many)
  obtain ⟨c2,e2,l2,q2⟩:=cutE (some many) (some 63)
  have em:many=((many.toNat:Nat):Int):=by trivial
  have l1m:c1.length=min many.toNat ns.length:=by
   rw [q1,em,HT.sIx_nat,HT.sIx_none,List.length_take,List.length_drop]
   simp only [Int.toNat_natCast]
   trivial
  have l2m:c2.length≤ns.length - many.toNat:=by
   rw [q2,em,HT.sIx_nat,List.length_take,List.length_drop]
   simp only [Int.toNat_natCast]
   trivial
  refine ⟨(),(),(),a,(),hS,fun p1 hp1=>⟨p1,(),.inl (ar.of ai),fun p2 hp2=>?_⟩⟩
  rw [e1] at hp2 ⊢
  have n12:p2≠p1:=fun z=>by rw [z,ai] at hp2;cases hp2
  have s2:ae H (aL (aL H p1 (.lst (c1.map V.int))) p2 (.lst (c1.map V.int))):=(ae.new hp1).trans (ae.new hp2)
  refine ⟨(),(),(),(),a,(),s2.seq hS,fun p3 hp3=>⟨p3,rfl,⟨_,ar.of ai⟩,?_⟩⟩
  rw [e2]
  have s3:=s2.trans (ae.new (o:=.lst (c2.map V.int)) hp3)
  have n23:p2≠p3:=fun z=>by rw [←z,ai] at hp3;cases hp3
  refine ⟨fun i m σ H'=>m=c2.length - i∧i≤c2.length∧gf fun (ms:List Int) (v3 v4:Option V)=>σ=[some (.ref a),some (.int many),some (.ref p2),v3,v4]∧ms.length=c1.length∧H' p2=some (.lst (ms.map V.int))∧H' p3=some (.lst (c2.map V.int))∧(∀b o,b≠p2→H b=some o→H' b=some o),⟨(),Nat.zero_le _,c1,none,none,rfl,rfl,?_,ai,fun b o _ h=>s3 b o h⟩,?_⟩
  ·rw [am n23];exact ai
  rintro i m σ H' ⟨rfl,hi,ms,v3,v4,rfl,hms,h2,h3,hk⟩
  by_cases hlt:i<c2.length
  ·refine .inr ⟨⟨c2.map V.int,V.int c2[i],ar.of h3,by rw [List.getElem?_map];simp [hlt]⟩,_,fun σ' H'' z=>z,?_⟩
   rintro x H'' ⟨t,y,ht,rfl,rfl,hy⟩
   have hy':=hy _ (ar.of h3)
   rw [List.getElem?_map,List.getElem?_eq_getElem hlt] at hy'
   obtain rfl:V.int c2[i]=y:=Option.some.inj hy'
   have nt2:p2≠t:=aS h2 ht
   have nt3:p3≠t:=aS h3 ht
   have hlen:many.toNat<ns.length:=by trivial
   have hmod0:0≤(i:Int) % many:=Int.emod_nonneg _ (by trivial)
   have hmod1:(i:Int) % many<many:=Int.emod_lt_of_pos _ (by trivial)
   have hixlt:((i:Int) % many).toNat<ms.length:=by trivial
   refine ⟨t,(),au.of ai,rfl,_,(),_,(),rfl,(),(),(),_,(),rfl,(by show (0:Int)<many;trivial),.inl ⟨p2,ms.map V.int,_,V.int ms[((i:Int) % many).toNat],rfl,rfl,ar.of (by rw [am nt2];exact h2),xO hmod0 hixlt,(),(),_,(),rfl,_,(),rfl,.inr ⟨?_,?_⟩,_,(),rfl,(),(),(),_,(),rfl,(by show (0:Int)<many;trivial),p2,ms.map V.int,_,((i:Int) % many).toNat,rfl,rfl,(by rw [am nt2];exact h2),?_,?_⟩⟩
   ·trivial
   ·trivial
   ·unfold re
    rw [if_pos hmod0,List.length_map,if_pos (by trivial)]
   ·refine ⟨c2.length - (i+1),by trivial,rfl,hlt,ms.set ((i:Int) % many).toNat (ms[((i:Int) % many).toNat]+c2[i]*((i:Int)+2)),_,(),by rw [List.length_set];exact hms,?_,?_,fun b o hb h=>?_⟩
    ·rw [ai,List.map_set]
    ·rw [am (Ne.symm n23),am nt3];exact h3
    ·have:=hk b o hb h
     rw [am hb,am (aS this ht)]
     exact this
  ·refine .inl ⟨⟨_,ar.of h3,by rw [List.length_map];trivial⟩,?_⟩
   have hp2':H p2=none:=by
    rw [am n12] at hp2
    exact hp2
   have sH:ae H H':=fun b o h=>hk b o (aS h hp2') h
   exact ⟨(),kk p2 ms H' hp2' sH h2 (by trivial)⟩
end
end K66
namespace K66
open PySem L2
section
variable {P:Program}{w:World}{K:PySem.W.Frag}{mg:Str→Option Value}{base:Heap}
theorem Ad (T:Txt K mg):∀n,aZ P w K mg base CX0 (n+1) T.l_same_.f T.l_same_.d ["_law_found", "_law_due"] (Fq n):=by
 intro n
 induction n with
 | zero=>
  refine T.l_same_.F.ok tV (fun vs H Q E h=>?_) (fun cdv A outer s H vs Q E hr h=>?_)
  ·obtain ⟨_,_,_,_,_,_,_,z,_⟩:=h
   exact z.elim
  ·obtain ⟨_,_,_,_,_,_,_,z,_⟩:=h
   exact z.elim
 | succ n G_l_same=>
 refine T.l_same_.F.ok tV (fun vs H Q E h=>?_) (fun cdv A outer s H vs Q E hr h=>?_)
 ·obtain ⟨x,y,d,E,rfl,_⟩:=h
  rfl
 ·obtain ⟨x,y,d,E',rfl,hx,hy,hd,k⟩:=h
  refine ⟨_,#[#[bt 8 #[bn 3 #[(),(),(@yU _ (K) (by rfl)),aP,T.b_isinstance,(@aj),#[[#[1,bv],#[av 5 #[[#[cr 4 jT T.b_list (@gH) (by decide) (by decide)],#[cr 4 jx T.b_tuple (@ba) (by decide) (by decide)]]]]]]] (by intro _;rfl)] #[#[bt 8 #[PW.pt 3 #[dm 7 #[aE 8 (@hV _) #[(),(),(@bN _ (K) (by rfl)),aP,T.b_isinstance,(@aj),#[[#[0,bo],#[cr 4 jT T.b_list (@gH) (by decide) (by decide)]]]] #[(),(),(@bN _ (K) (by rfl)),aP,T.b_isinstance,(@aj),#[[#[1,bv],#[cr 4 jT T.b_list (@gH) (by decide) (by decide)]]]] #[(),()]] #[dj 4 #[aE 8 (@hV _) #[(),(),(@bN _ (K) (by rfl)),aP,T.b_isinstance,(@aj),#[[#[0,bo],#[cr 4 jx T.b_tuple (@ba) (by decide) (by decide)]]]] #[(),(),(@bN _ (K) (by rfl)),aP,T.b_isinstance,(@aj),#[[#[1,bv],#[cr 4 jx T.b_tuple (@ba) (by decide) (by decide)]]]] #[(),()]]]]] #[ac 3 #[aq 4 #[dO 4]]] (@aQ _)] :: #[ac 3 #[aq 4 #[fk 7 #[bY 8 (@bI _) #[(),(),(@dQ _ (K) (by rfl)),pA,T.b_len,(@aR),#[[#[0,bo]]]] #[(),(),(@dQ _ (K) (by rfl)),pA,T.b_len,(@aR),#[[#[1,bv]]]] #[(),()]] #[gl 5 #[(),(),(@q9 _ (K) rfl (by rfl)),wA,T.b_all,(@iK),#[[#[cg 7 (["_law_one", "_law_other"]) (2) ([]) _ _ _ _ rfl (by kernel_rfl) (@Bn _ (K) _ _ _ _ _ _ _ _ vq T.b_zip #[[#[0,bo],#[1,bv]]] (by rfl) (by rfl) (by rfl)) (fun _ _ _ _ _ _=>(@c6 _ (K) _ _ _ _ (2) rfl #[aD 5 #[0,(),()] #[aD 5 #[1,(),()] (@cA _) (by rfl)] (by rfl)] (by rfl) (by rfl) (by rfl))) (fun _ _ _ _ _ _=>@bO _) (fun _ _ _ _ _ _=>#[ko 16 G_l_same (hr.mono (by trivial)) (by show _=_;kernel_rfl) T.l_same_.m T.l_same_.F.kp T.l_same_.B .nil (@pR _) #[[#[0,()],#[1,()]]] (by decide) (by rfl) (by rfl)]) (by intro _;rfl)]]]]]]]]] (@aQ _)] :: #[#[bt 8 #[PW.pt 3 #[dm 7 #[aE 8 (@zb _) #[1,bv] #[gE 3] #[(),()]] #[dj 4 #[bn 3 #[(),(),(@bN _ (K) (by rfl)),aP,T.b_isinstance,(@aj),#[[#[1,bv],#[cr 4 kz T.b_str (@bZ) (by decide) (by decide)]]]] (by intro _;rfl)]]]] #[ac 3 #[aq 4 #[fk 7 #[bY 8 (@bI _) #[0,bo] #[1,bv] #[(),()]] #[gl 5 #[bY 8 (@bI _) #[(),(),(@bN _ (K) (by rfl)),aP,T.b_isinstance,(@aj),#[[#[0,bo],#[cr 4 kz T.b_str (@bZ) (by decide) (by decide)]]]] #[(),(),(@bN _ (K) (by rfl)),aP,T.b_isinstance,(@aj),#[[#[1,bv],#[cr 4 kz T.b_str (@bZ) (by decide) (by decide)]]]] #[(),()]]]]]] (@aQ _)] :: #[#[bt 8 #[bn 3 #[(),(),(@bN _ (K) (by rfl)),aP,T.b_isinstance,(@aj),#[[#[1,bv],#[cr 4 jO T.b_bool (@iN) (by decide) (by decide)]]]] (by intro _;rfl)] #[ac 3 #[aq 4 #[fk 7 #[(),(),(@bN _ (K) (by rfl)),aP,T.b_isinstance,(@aj),#[[#[0,bo],#[cr 4 jO T.b_bool (@iN) (by decide) (by decide)]]]] #[gl 5 #[bY 8 (@bI _) #[0,bo] #[1,bv] #[(),()]]]]]] (@aQ _)] :: #[ac 3 #[aq 4 #[fk 7 #[(),(),(@bN _ (K) (by rfl)),aP,T.b_isinstance,(@aj),#[[#[0,bo],#[cr 4 vb T.b_int (@dn) (by decide) (by decide)]]]] #[fk 7 #[Ae 4 #[(),(),(@bN _ (K) (by rfl)),aP,T.b_isinstance,(@aj),#[[#[0,bo],#[cr 4 jO T.b_bool (@iN) (by decide) (by decide)]]]]] #[gl 5 #[bY 8 (@bI _) #[0,bo] #[1,bv] #[(),()]]]]]]]]]],?_⟩
  refine ⟨(),(by show 2≤10000;decide),fun p H1 n1=>⟨y,p,d,E',rfl,hy.mono n1.sm.toE,au.of n1.at',(),?_⟩⟩
  have s1:=n1.sm
  have hx1:=hx.mono s1.toE
  have hy1:=hy.mono s1.toE
  have k1:=k H1 s1
  have hx2:=hx1
  have hy2:=hy1
  cases hx1 with
  | non=>
   cases hy1
   refine ay ⟨(),rfl,(),aA (aA ?_)⟩
   exact ⟨(),(),rfl,(),uT ⟨(),_,_,_,(),hx2.ty,gL _,(),_,_,_,(),hy2.ty,gL _,rfl,pQ k1⟩⟩
  | str z=>
   cases hy1
   refine ay ⟨(),rfl,(),ay ⟨(),_,_,_,(),hy2.ty,gL _,(),aA ?_⟩⟩
   exact ⟨(),(),rfl,(),uT ⟨(),_,_,_,(),hx2.ty,gL _,(),_,_,_,(),hy2.ty,gL _,rfl,pQ k1⟩⟩
  | bl b=>
   cases hy1
   refine ay ⟨(),rfl,(),ay ⟨(),_,_,_,(),hy2.ty,gL _,(),ay ⟨(),_,_,_,(),hy2.ty,kN _,(),aA ?_⟩⟩⟩
   exact ⟨(),_,_,_,(),hx2.ty,kN _,(),aA ⟨(),(),rfl,pQ k1⟩⟩
  | int i=>
   cases hy1
   refine ay ⟨(),rfl,(),ay ⟨(),_,_,_,(),hy2.ty,gL _,(),ay ⟨(),_,_,_,(),hy2.ty,kN _,(),ay ?_⟩⟩⟩
   exact ⟨(),_,_,_,(),hx2.ty,xG _,(),aA ⟨(),_,_,_,(),hx2.ty,kN _,(),(),aA ⟨(),(),rfl,pQ k1⟩⟩⟩
  | @lst a1 xs ds h1 ne1 r1=>
   cases hy1 with
   | @lst a2 ys _ h2 ne2 r2=>
   refine aA ⟨(),_,_,_,(),hx2.ty,kT _,(),_,_,_,(),hy2.ty,kT _,rfl,(),pS ⟨(),_,_,_,(),hx2.ty,cR _,(),_,_,_,(),hy2.ty,cR _,rfl,(),pS ?_⟩⟩
   have el:xs.length=ys.length:=r1.length.trans r2.length.symm
   have ed:=r2.length
   refine ⟨(),a1,xs,rfl,.inl (ar.of h1),(),a2,ys,rfl,.inl (ar.of h2),rfl,(),?_⟩
   rw [el]
   refine uT ⟨(),(),a1,a2,true,true,rfl,⟨xs,ar.of h1⟩,⟨ys,ar.of h2⟩,fun D hD=>dq (n:=ys.length) (BZ H1 D) ?_ ⟨rfl,ai,cE hD (ae.refl _)⟩ ?_ ?_ ?_ ?_ ?_⟩
   ·rw [sizeLine_eq]
    have:=hd.1
    trivial
   ·rintro i H' zs ⟨rfl,q1,_⟩
    exact ⟨q1,by rw [List.length_map,List.length_replicate];exact Nat.le_refl _⟩
   ·rintro i H' zs hi ⟨_,_,q⟩
    exact ⟨xs,ys,xs[i],ys[i],ar.of (q _ _ h1),ar.of (q _ _ h2),by simp [el,hi],by simp [hi]⟩
   ·rintro H' zs ⟨_,_,q⟩
    exact ⟨xs,ys,ar.of (q _ _ h1),ar.of (q _ _ h2),.inl el⟩
   ·rintro i H' zs x H'' hi ⟨rfl,q1,q⟩ ⟨t,u,v,ht,rfl,rfl,e1,e2⟩
    have e1':=e1 xs (ar.of (q _ _ h1))
    have e2':=e2 ys (ar.of (q _ _ h2))
    obtain ⟨du,f1,g1⟩:=r1.get e1'
    obtain ⟨dv,f2,g2⟩:=r2.get e2'
    rw [f1] at f2
    cases f2
    have st:=q.trans (ae.new (o:=.tup [u,v]) ht)
    refine ⟨t,(),au.of ai,rfl,_,(),_,(),rfl,B8,(),(),u,v,du,E',rfl,g1.mono st.toE,g2.mono st.toE,hd.2 du (List.mem_of_getElem? f1),fun H3 s3=>?_⟩
    have qD:H3 D=some (.lst ((List.replicate i true).map V.bl)):=s3 _ _ (ae.new (o:=.tup [u,v]) ht _ _ q1)
    exact ⟨qD,vQ i,ai,cE hD (st.trans s3)⟩
   ·rintro H' zs ⟨rfl,q1,q⟩
    refine ⟨D,List.replicate ys.length true,rfl,ar.of q1,?_⟩
    rw [pK]
    exact k H' (s1.trans q)
  | @tup a1 xs ds h1 r1=>
   cases hy1 with
   | @tup a2 ys _ h2 r2=>
   refine aA ⟨(),_,_,_,(),hx2.ty,kT _,(),_,_,_,(),hy2.ty,kT _,rfl,(),pS ⟨(),_,_,_,(),hx2.ty,cR _,(),_,_,_,(),hy2.ty,cR _,rfl,(),pS ?_⟩⟩
   have el:xs.length=ys.length:=r1.length.trans r2.length.symm
   have ed:=r2.length
   refine ⟨(),a1,xs,rfl,.inr (au.of h1),(),a2,ys,rfl,.inr (au.of h2),rfl,(),?_⟩
   rw [el]
   refine uT ⟨(),(),a1,a2,false,false,rfl,⟨xs,au.of h1⟩,⟨ys,au.of h2⟩,fun D hD=>dq (n:=ys.length) (BZ H1 D) ?_ ⟨rfl,ai,cE hD (ae.refl _)⟩ ?_ ?_ ?_ ?_ ?_⟩
   ·rw [sizeLine_eq]
    have:=hd.1
    trivial
   ·rintro i H' zs ⟨rfl,q1,_⟩
    exact ⟨q1,by rw [List.length_map,List.length_replicate];exact Nat.le_refl _⟩
   ·rintro i H' zs hi ⟨_,_,q⟩
    exact ⟨xs,ys,xs[i],ys[i],au.of (q _ _ h1),au.of (q _ _ h2),by simp [el,hi],by simp [hi]⟩
   ·rintro H' zs ⟨_,_,q⟩
    exact ⟨xs,ys,au.of (q _ _ h1),au.of (q _ _ h2),.inl el⟩
   ·rintro i H' zs x H'' hi ⟨rfl,q1,q⟩ ⟨t,u,v,ht,rfl,rfl,e1,e2⟩
    have e1':=e1 xs (au.of (q _ _ h1))
    have e2':=e2 ys (au.of (q _ _ h2))
    obtain ⟨du,f1,g1⟩:=r1.get e1'
    obtain ⟨dv,f2,g2⟩:=r2.get e2'
    rw [f1] at f2
    cases f2
    have st:=q.trans (ae.new (o:=.tup [u,v]) ht)
    refine ⟨t,(),au.of ai,rfl,_,(),_,(),rfl,B8,(),(),u,v,du,E',rfl,g1.mono st.toE,g2.mono st.toE,hd.2 du (List.mem_of_getElem? f1),fun H3 s3=>?_⟩
    have qD:H3 D=some (.lst ((List.replicate i true).map V.bl)):=s3 _ _ (ae.new (o:=.tup [u,v]) ht _ _ q1)
    exact ⟨qD,vQ i,ai,cE hD (st.trans s3)⟩
   ·rintro H' zs ⟨rfl,q1,q⟩
    refine ⟨D,List.replicate ys.length true,rfl,ar.of q1,?_⟩
    rw [pK]
    exact k H' (s1.trans q)
end
end K66
namespace K66
open PySem L2
section
variable {P:Program}{w:World}{K:PySem.W.Frag}{mg:Str→Option Value}{base:Heap}
end
end K66
namespace K66
open PySem L2
section
variable {P:Program}{w:World}{K:PySem.W.Frag}{mg:Str→Option Value}{base:Heap}
theorem xx {n d:Int} (hd:d≠0) (h:d.natAbs.log2<9000):yD n ((Int.gcd n d:Nat):Int):=by
 have g0:=KM.gcd_pos (n:=n) hd
 refine ⟨by trivial,?_⟩
 have h1:Int.gcd n d≤d.natAbs:=Nat.le_of_dvd (by trivial) (by
  have:((Int.gcd n d:Nat):Int) ∣ d:=Int.gcd_dvd_right ..
  exact Int.ofNat_dvd_left.mp this)
 have h2:d.natAbs<2 ^ 9000:=(Nat.log2_lt (by trivial)).mp h
 rw [Int.natAbs_natCast]
 exact (Nat.log2_lt (by trivial)).mpr (Nat.lt_of_le_of_lt h1 h2)
inductive Dh (vs:List V) (H:Hp) (Q:VK):Prop
 | mk (n d:Int) (h0:vs=[.int n,.int d]) (h1:0<d) (h2:Sz 9000 d) (h3:∀p H',Nw H p (fr (KM.low n d)) H'→Q (.ref p) H')
def DW:Sp:=fun vs H Q _=>Dh  vs H Q
theorem ji (T:Txt K mg):aZ P w K mg base CX0 1 T.l_frac_.f T.l_frac_.d ["_law_n", "_law_d"] DW:=by
 refine T.l_frac_.F.ok lB (fun vs H Q E h=>?_) (fun cdv A outer s H vs Q E hr h=>?_)
 ·obtain ⟨n,d,rfl,_⟩:=h
  rfl
 ·obtain ⟨n,d,rfl,hd,hs,k⟩:=h
  have hl:=hs.log (Int.ne_of_gt hd)
  refine ⟨_,#[#[pf 2 (2) (3) _ _ _ _ _ _ _ _ _ _ _ rfl lB.nd rfl rfl (by decide) cC dH #[[#[(),(),(@jj _),oD,T.b_abs,(@gQ),#[[#[0,oQ]]]],#[(),(),(@jj _),oD,T.b_abs,(@gQ),#[[#[1,kG]]]]]] (by kernel_rfl) (by rfl)] :: #[#[qQ 6 PassesOwn.never #[aE 8 (@rB _) #[3,dH] #[()] #[(),()]] #[ac 3 #[pf 2 (2) (3) _ _ _ _ _ _ _ _ _ _ _ rfl lB.nd rfl rfl (by decide) cC dH #[[#[3,dH],#[ag 8 (@fP _) #[2,cC] #[3,dH]]]] (by kernel_rfl) (by rfl)]]] :: #[#[2,lB.nd,cC,#[ag 8 (@ft _) #[2,cC] #[bT 8 #[aE 8 (@rB _) #[1,kG] #[()] #[(),()]] #[()] #[uU 6 (@rZ _) #[()]]]]] :: #[ac 3 #[aq 4 #[av 5 #[[#[ag 8 (@vz _) #[0,oQ] #[2,cC]],#[ag 8 (@vz _) #[1,kG] #[2,cC]]]]]]]]]],?_⟩
  refine ⟨(),(),(),(),_,(),?_⟩
  refine ⟨fun m σ H'=>∃a b:Int,σ=[some (.int n),some (.int d),some (.int a),some (.int b)]∧H'=H∧0≤a∧0≤b∧Int.gcd a b=Int.gcd n d∧m=b.natAbs,⟨_,_,(),rfl,vE n,vE d,KM.gcd_abs n d,rfl⟩,?_⟩
  rintro m σ H' ⟨a,b,rfl,rfl,ha,hb,hg,rfl⟩
  refine ⟨(),_,(),rfl,(),?_⟩
  by_cases hb0:0<b
  ·rw [decide_eq_true hb0]
   refine aA ⟨fun σ' H''=>∃a' b':Int,σ'=[some (.int n),some (.int d),some (.int a'),some (.int b')]∧H''=H'∧0≤a'∧0≤b'∧Int.gcd a' b'=Int.gcd n d∧b'.natAbs<b.natAbs,?_,?_⟩
   ·rintro σ' H'' ⟨a',b',rfl,rfl,h0,h1,h2,h3⟩
    exact ⟨_,h3,a',b',rfl,rfl,h0,h1,h2,rfl⟩
   ·refine ⟨(),(),(),_,(),rfl,hb0,_,(),?_⟩
    have q0:=Int.emod_nonneg a (Int.ne_of_gt hb0)
    have q1:=Int.emod_lt_of_pos a hb0
    exact ⟨b,a % b,rfl,rfl,hb,q0,(KM.gcd_emod a b).trans hg,by trivial⟩
  ·have hb1:b=0:=by trivial
   subst hb1
   rw [decide_eq_false hb0]
   refine ay ?_
   have eg:a=((Int.gcd n d:Nat):Int):=by
    rw [←hg,KM.gcd_zero_abs,if_neg (by trivial)]
   have c1:=xx (n:=n) (Int.ne_of_gt hd) hl
   have c2:=xx (n:=d) (d:=d) (Int.ne_of_gt hd) hl
   rw [←eg] at c1
   refine ⟨(),(),_,(),rfl,(),?_⟩
   rw [decide_eq_true hd]
   refine aA ⟨_,(),rfl,.inr ⟨by decide,by decide⟩,?_⟩
   show rW 2 (V.int (a*1)) _ _ _
   rw [Int.mul_one]
   refine ⟨(),(),_,(),rfl,c1,(),(),_,(),rfl,⟨c1.1,c1.2⟩,(by show 2≤10000;decide),fun p H2 n2=>k p H2 ?_⟩
   unfold KM.low
   rw [if_pos hd,←eg]
   exact n2
end
end K66
namespace K66
open PySem L2
section
variable {P:Program}{w:World}{K:PySem.W.Frag}{mg:Str→Option Value}{base:Heap}
inductive EI (vs:List V) (H:Hp) (Q:VK):Prop
 | mk (b:Addr) (t:Int) (h0:vs=[.ref b]) (h1:Bx H b t) (h2:0≤t) (h3:t≤900000) (h4:∀o n d t' H',aJ (Eb b) H H'→H' o=some (.tup [.int n,.int d])→Fb 6 n d→1≤n→Int.gcd n d=1→Bx H' b t'→t≤t'→t'≤t+6→Q (.ref o) H')
def Gc:Sp:=fun vs H Q _=>EI  vs H Q
theorem uE (T:Txt K mg):aZ P w K mg base CX0 2 T.l_any_gain_.f T.l_any_gain_.d ["_law_box_here"] Gc:=by
 have G_l_take:=#[(jo)]
 have G_l_frac:=#[(ji)]
 refine T.l_any_gain_.F.ok jS (fun vs H Q E h=>?_) (fun cdv A outer s H vs Q E hr h=>?_)
 ·obtain ⟨b,t,rfl,_⟩:=h
  rfl
 ·obtain ⟨b,t,rfl,B,ht0,ht1,k⟩:=h
  refine ⟨_,#[#[1,jS.nd,eF,#[G_l_take,gb,T.l_take_,#[[#[0,dZ],#[()]]]]] :: #[#[bt 8 #[aE 8 (@pL _) #[1,eF] #[()] #[(),()]] #[ac 3 #[aq 4 #[av 5 #[[#[()],#[()]]]]]] (@aQ _)] :: #[#[2,jS.nd,jI,#[ag 8 (@bw _) #[()] #[G_l_take,gb,T.l_take_,#[[#[0,dZ],#[bT 8 #[aE 8 (@bI _) #[1,eF] #[()] #[(),()]] #[()] #[()]]]]]]] :: #[ac 3 #[aq 4 #[G_l_frac,oa,T.l_frac_,#[[#[2,jI],#[ag 8 (@bw _) #[()] #[G_l_take,gb,T.l_take_,#[[#[0,dZ],#[bT 8 #[aE 8 (@bI _) #[1,eF] #[()] #[(),()]] #[()] #[()]]]]]]]]]]]]]],?_⟩
  refine ⟨(),b,8,t,rfl,B,by decide,by decide,ht0,by trivial,fun wy t1 H1 w0 w1 h1a h1b s1 B1=>?_⟩
  refine ⟨(),_,(),rfl,(),kU (fun c=>?_) (fun c=>?_)⟩
  ·exact ⟨(by show 2≤10000;decide),fun o H2 n2=>k o _ _ t1 H2 (s1.trans n2.sm.toE) n2.at' (Fb.small (by decide) (by decide) (by decide) (by decide)) (by decide) (by decide) (B1.same n2.sm) (by trivial) (by trivial)⟩
  have hw:0<(if decide (V.int wy=V.int 7)=true then (60:Int) else 12)∧(if decide (V.int wy=V.int 7)=true then (60:Int) else 12)≤60:=by split <;> decide
  refine ⟨(),(),rfl,(),HI ?_⟩
  refine ⟨b,_,t1,rfl,B1,hw.1,kJ hw.1 (by trivial),by trivial,by trivial,fun r2 t2 H2 a20 a21 _ _ s2 B2=>⟨_,(),rfl,(),(),(),rfl,(),HI ?_⟩⟩
  refine ⟨b,_,t2,rfl,B2,hw.1,kJ hw.1 (by trivial),by trivial,by trivial,fun r3 t3 H3 a30 a31 _ _ s3 B3=>⟨_,(),rfl,?_⟩⟩
  have f:=Dn (n:=1+r2) (d:=1+r3) (by trivial) (by trivial) (by trivial) (by trivial)
  exact ⟨_,(),by trivial,Sz.mono (m:=40) (by show (1+r3).natAbs<1099511627776;trivial) (by decide),fun o H4 n4=>k o _ _ t3 H4 (((s1.trans s2).trans s3).trans n4.sm.toE) n4.at' f.1 f.2 (KM.low_spec _ _ (by trivial)).2.2.1 (B3.same n4.sm) (by trivial) (by trivial)⟩
end
end K66
namespace K66
open PySem L2
def nD (d1 d2 k:Nat):List Nat:=if k<8 then nm d1 k else List.replicate (k - 7) d2++[d1]
theorem zj {d1 d2:Nat} (hd:d1≠d2) {n:Nat} (hn:n≤10):((List.range n).map (nD d1 d2)).Nodup:=by
 have all:∀a b:Nat,a<10→b<10→nD d1 d2 a=nD d1 d2 b→a=b:=fun a b ha hb h=>by
  have hl:=congrArg List.length h
  have hh:=congrArg List.head? h
  unfold nD nm at hl hh
  have r:∀m x:Nat,0<m→(List.replicate m x).head?=some x:=fun m x hm=>by
   cases m with
   | zero=>trivial
   | succ m=>rfl
  have r2:∀(m x:Nat) (l:List Nat),0<m→(List.replicate m x++l).head?=some x:=fun m x l hm=>by
   cases m with
   | zero=>trivial
   | succ m=>rfl
  by_cases c1:a<8 <;> by_cases c2:b<8
  ·simp [c1,c2] at hl;exact hl
  ·rw [if_pos c1,if_neg c2,r _ _ (by trivial),r2 _ _ _ (by trivial)] at hh
   exact absurd (Option.some.inj hh) hd
  ·rw [if_neg c1,if_pos c2,r _ _ (by trivial),r2 _ _ _ (by trivial)] at hh
   exact absurd (Option.some.inj hh).symm hd
  ·simp [c1,c2] at hl;trivial
 rw [List.nodup_iff_pairwise_ne,List.pairwise_map]
 refine List.Pairwise.imp_of_mem (fun {a b} ha hb hab z=>?_) (List.nodup_iff_pairwise_ne.mp List.nodup_range)
 exact hab (all a b (by have:=List.mem_range.mp ha;trivial) (by have:=List.mem_range.mp hb;trivial) z)
theorem E3 {d1 d2 k:Nat} (hk:k<10) (h1:97≤d1) (h2:d1≤122) (h3:97≤d2) (h4:d2≤122):hU (nD d1 d2 k):=by
 unfold nD
 by_cases c:k<8
 ·rw [if_pos c];exact Gf c h1 h2
 ·rw [if_neg c]
  refine ⟨by simp,by simp;trivial,fun x hx=>?_⟩
  rcases List.mem_append.mp hx with q | q
  ·rw [(List.mem_replicate.mp q).2];exact ⟨h3,h4⟩
  ·rw [List.mem_singleton.mp q];exact ⟨h1,h2⟩
section
variable {P:Program}{w:World}{K:PySem.W.Frag}{mg:Str→Option Value}{base:Heap}
inductive y6 (vs:List V) (H:Hp) (Q:VK):Prop
 | mk (b:Addr) (many t:Int) (h0:vs=[.ref b,.int many]) (h1:Bx H b t) (h2:0≤t) (h3:t≤900000) (h4:1≤many) (h5:many≤10) (h6:∀q ls t' H',aJ (Eb b) H H'→H' q=some (.tup ((ls:List (List Nat)).map ao))→ls.length=many.toNat→ls.Nodup→(∀l∈ls,hU l)→Bx H' b t'→t≤t'→t'≤t+12→Q (.ref q) H')
def Bd:Sp:=fun vs H Q _=>y6  vs H Q
theorem w4 (T:Txt K mg):aZ P w K mg base CX0 2 T.l_names_by_.f T.l_names_by_.d ["_law_box_here", "_law_many"] Bd:=by
 have G_l_take:=#[(jo)]
 refine T.l_names_by_.F.ok cX (fun vs H Q E h=>?_) (fun cdv A outer s H vs Q E hr h=>?_)
 ·obtain ⟨b,many,t,rfl,_⟩:=h
  rfl
 ·obtain ⟨b,many,t,rfl,B,ht0,ht1,hm1,hm2,k⟩:=h
  refine ⟨_,#[#[eG 6 #[av 5 #[[#[aN 4],#[G_l_take,fZ,T.l_take_,#[[#[0,(dX)],#[()]]]],#[G_l_take,fZ,T.l_take_,#[[#[0,(dX)],#[()]]]]]]] (@c6 _ (K) _ _ _ _ (3) rfl #[aD 5 #[dC 2 (2) _ cX.nd rfl (Or.inr lR) (by first | exact .inl rfl | exact .inr rfl | assumption)] #[aD 5 #[dC 2 (3) _ cX.nd rfl (Or.inr iB) (by first | exact .inl rfl | exact .inr rfl | assumption)] #[aD 5 #[4,cX.nd,i3] (@cA _) (by rfl)] (by rfl)] (by rfl)] (by rfl) (by rfl) (by rfl)) (by rfl) (by rfl) (by rfl)] :: #[#[jH 2 (5) _ _ _ _ cX.nd rfl (Or.inr mq) (@cu _ (K) _ _ _ _ _ _ _ _ _ _ _ PySem.F.plainAttrs_str PySem.F.slot_str_join PySem.F.type_str_join (@xP _ (K) (by rfl)) #[aN 4] #[[#[cg 7 (["_law_k", "_law_box_here", "_law_letters"]) (1) ([0,2]) _ _ _ _ rfl (by kernel_rfl) #[dy 6 gq T.b_range #[[#[4,i3]]] (by rfl)] (fun _ _ _ _ _ _=>#[0,(),()]) (fun _ _ _ _ _ _=>@bO _) (fun _ _ _ _ _ _=>#[eL 7 (@oE _) #[2,0] #[G_l_take,(),T.l_take_,#[[#[1,0],#[()]]]] (fun _ _=>rfl)]) (by intro _;rfl)]]] (by rfl) (by rfl) (by rfl) (by rfl) (by rfl) (by rfl)) (by rfl) (by first | exact .inl rfl | exact .inr rfl | assumption)] :: #[#[bt 8 #[aE 8 (@bI _) #[G_l_take,fZ,T.l_take_,#[[#[0,(dX)],#[()]]]] #[()] #[(),()]] #[#[eG 6 #[#[dz 4 #[[#[av 5 #[[#[aN 4],#[aN 4]]]],#[av 5 #[[#[aN 4],#[aN 4]]]]]]][#[be 9 (@oX _) qM T.b_int (@dn) #[[#[bY 8 (@bI _) #[3,(iB)] #[()] #[(),()]]]] (by decide) (by decide) (by rfl) (by rfl)]]!] (@c6 _ (K) _ _ _ _ (2) rfl #[aD 5 #[dC 2 (6) _ cX.nd rfl (Or.inr ou) (by first | exact .inl rfl | exact .inr rfl | assumption)] #[aD 5 #[dC 2 (7) _ cX.nd rfl (Or.inr mV) (by first | exact .inl rfl | exact .inr rfl | assumption)] (@cA _) (by rfl)] (by rfl)] (by rfl) (by rfl) (by rfl)) (by rfl) (by rfl) (by rfl)] :: #[ac 3 #[aq 4 #[be 9 (@cB _ (K) (by rfl)) jK T.b_tuple (@ba) #[[#[cg 7 (["_law_k", "_law_other", "_law_sign"]) (1) ([7,6]) _ _ _ _ rfl (by kernel_rfl) #[dy 6 gq T.b_range #[[#[1,ja]]] (by rfl)] (fun _ _ _ _ _ _=>#[0,(),()]) (fun _ _ _ _ _ _=>@bO _) (fun _ _ _ _ _ _=>#[bT 8 #[aE 8 (@pL _) #[0,()] #[()] #[(),()]] #[ag 8 (@sw _) #[2,0] #[ag 8 (@bw _) #[0,()] #[()]]] #[ag 8 (@iu _) #[ag 8 (@sw _) #[1,0] #[ag 8 (@jF _) #[0,()] #[()]]] #[2,0]]]) (by intro _;rfl)]]] (by decide) (by decide) (by rfl) (by rfl)]]]] (@aQ _)] :: #[ac 3 #[aq 4 #[be 9 (@cB _ (K) (by rfl)) jK T.b_tuple (@ba) #[[#[cg 7 (["_law_k", "_law_behind", "_law_first", "_law_letters"]) (1) ([5,3,2]) _ _ _ _ rfl (by kernel_rfl) #[dy 6 gq T.b_range #[[#[1,ja]]] (by rfl)] (fun _ _ _ _ _ _=>#[0,(),()]) (fun _ _ _ _ _ _=>@bO _) (fun _ _ _ _ _ _=>#[ag 8 (@iu _) #[eL 7 (@oE _) #[3,0] #[ag 8 (@fP _) #[ag 8 (@bw _) #[2,0] #[ag 8 (@ft _) #[()] #[0,()]]] #[()]] (fun _ _=>rfl)] #[1,0]]) (by intro _;rfl)]]] (by decide) (by decide) (by rfl) (by rfl)]]]]]],?_⟩
  have hz:(Str.ofString "abcdefghijklmnopqrstuvwxyz").length≤sizeLine:=by nofun
  refine ⟨(),b,26,t,rfl,B,by decide,by decide,ht0,by trivial,fun f t1 H1 f0 f1 h1a h1b s1 B1=>⟨(),b,8,t1,rfl,B1,by decide,by decide,by trivial,by trivial,fun r t2 H2 r0 r1 h2a h2b s2 B2=>⟨(by show 3≤10000;decide),fun q H3 n3=>⟨q,(),au.of n3.at',rfl,_,(),_,(),_,(),rfl,?_⟩⟩⟩⟩
  have B3:=B2.same n3.sm
  have s03:=(s1.trans s2).trans n3.sm.toE
  refine ⟨rfl,(),(),by trivial,by trivial,fun D2 hD2=>dq (n:=r.toNat) (fun i H' ys=>aV fun (cs:List Nat) (t':Int)=>ys=cs.map (fun c=>ao [c])∧H' D2=some (.lst ys)∧cs.length=i∧(∀c∈cs,97≤c∧c≤122)∧Bx H' b t'∧t2≤t'∧t'≤t2+i∧aJ (Eb b) H3 H') ?_ ?_ ?_ ?_ ?_ ?_ ?_⟩
  ·rw [sizeLine_eq];trivial
  ·exact ⟨[],t2,rfl,ai,rfl,fun c h=>(by cases h),B3.same (ae.new hD2),by trivial,by trivial,(ae.new hD2).toE⟩
  ·rintro i' H'' ys ⟨cs,t7,rfl,e,rfl,_⟩
   exact ⟨e,by simp⟩
  ·intro i' H'' ys hi' _
   exact hi'
  ·intro H'' ys _
   exact Nat.le_refl _
  ·have nD2:¬D2=b:=fun z=>B3.ne hD2 z.symm
   rintro i' Ha ys x Hb hi' ⟨cs,t7,rfl,g1,g2,g3,g4,g5,g6,g7⟩ ⟨rfl,rfl⟩
   refine ⟨dW,(),(),b,26,t7,rfl,g4,by decide,by decide,by trivial,by trivial,fun r8 t8 Hc r80 r81 _ _ jc Cc=>⟨_,_,(),rfl,hz,oH (by trivial) (by trivial),?_⟩⟩
   have eD:=jc.old D2 _ nD2 g1
   refine ⟨eD,cs++[97+(r8 % 26).toNat],t8,by rw [List.map_append];rfl,ai,by rw [List.length_append,g2];rfl,fun c hc=>?_,?_,by trivial,by trivial,(g7.trans jc).up hD2⟩
   ·rcases List.mem_append.mp hc with h | h
    ·exact g3 c h
    ·rw [List.mem_singleton.mp h];trivial
   ·have c':Ch Hc D2 (cs.map (fun c=>ao [c])++[ao [97+(r8 % 26).toNat]]) _:=Ch.mk'
    exact Cc.ch c' (Ne.symm nD2)
  rintro J4 ys ⟨cs,t7,rfl,g1,g2,g3,C4,g5,g6,j4⟩
  refine ⟨D2,cs.map (fun c=>[c]),?_,rfl,ar.of (by rw [g1,List.map_map];rfl),?_,?_⟩
  ·rw [show (Str.ofString "")=S [] from wf]
  ·rw [List.map_map]
   have:(cs.map ((fun l:List Nat=>l.length) ∘ fun c=>[c])).sum=cs.length:=by
    clear g1 g2 g3 j4
    induction cs with
    | nil=>rfl
    | cons c r ih=>simp at ih ⊢;trivial
   rw [this];trivial
  have fl:(cs.map (fun c=>[c])).flatten=cs:=by
   clear g1 g2 g3 j4
   induction cs with
   | nil=>rfl
   | cons c r ih=>rw [List.map_cons,List.flatten_cons,ih];rfl
  rw [fl]
  have s04:=s03.trans j4
  refine ⟨(),b,4,t7,rfl,C4,by decide,by decide,by trivial,by trivial,fun r9 t9 H9 r90 r91 _ _ s9 B9=>⟨rfl,(),?_⟩⟩
  have s09:=s04.trans s9
  refine kU (fun c1=>?_) (fun c1=>?_)
  ·-- rows of one letter
   refine ⟨(by show 2≤10000;decide),fun u1 J1 e1=>⟨(by show 2≤10000;decide),fun u2 J2 e2=>⟨(by show 2≤10000;decide),fun u3 J3 e3=>⟨(),rfl,.inr ⟨(),?_⟩⟩⟩⟩⟩
   have ea:Str.ofString "a" = S [97]:=by nofun
   have ez:Str.ofString "z" = S [122]:=by nofun
   generalize decide (V.int f=V.int 25)=cc
   obtain ⟨u,d1,d2,eu,hu,hd⟩:gf fun u d1 d2=>gk [V.ref u1,V.ref u2] (if cc=true then 1 else 0)=some (.ref u)∧J3 u=some (.tup [ao [d1],ao [d2]])∧97≤d1∧d1≤122∧d1≠d2∧97≤d2∧d2≤122:=by
    cases cc with
    | true=>exact ⟨u2,122,97,rfl,by rw [e3.sm _ _ e2.at',ea,ez],by decide,by decide,by decide,by decide,by decide⟩
    | false=>exact ⟨u1,97,122,rfl,by rw [e3.sm _ _ (e2.sm _ _ e1.at'),ea,ez],by decide,by decide,by decide,by decide,by decide⟩
   refine ⟨u3,_,_,(),rfl,ar.of e3.at',eu,u,(),au.of hu,rfl,_,(),_,(),rfl,?_⟩
   have sJ:=((e1.sm.trans e2.sm).trans e3.sm)
   have BJ:=B9.same sJ
   refine ⟨(),(),by trivial,by trivial,fun D hD=>dq (n:=many.toNat) (fun i H' ys=>ys=(List.range i).map (fun k=>ao (nD d1 d2 k))∧H' D=some (.lst ys)∧ae J3 H') ?_ ⟨rfl,ai,cE hD (ae.refl _)⟩ ?_ ?_ ?_ ?_ ?_⟩
   ·rw [sizeLine_eq];trivial
   ·rintro i H' ys ⟨rfl,e,_⟩
    exact ⟨e,by simp⟩
   ·intro i H' ys hi _
    exact hi
   ·intro H' ys _
    exact Nat.le_refl _
   ·rintro i H' ys x H'' hi ⟨g1,g2,g3⟩ ⟨rfl,rfl⟩
    refine ⟨dW,(),_,(),rfl,(),kU (fun z=>?_) (fun z=>?_)⟩
    ·have hi8 : i < 8 := by have:(0:Int)+(i:Int)<8:=of_decide_eq_true z
                            trivial
     refine ⟨(),(),_,(),rfl,[d1],(),rfl,by trivial,by trivial,(by show 1≤100;decide),?_⟩
     have en:(List.replicate (0+(i:Int)+1).toNat [d1]).flatten=nD d1 d2 i:=by
      rw [mO]
      unfold nD nm
      rw [if_pos hi8]
      congr 1
      trivial
     rw [en]
     refine ⟨g2,?_,ai,cE hD g3⟩
     rw [g1,List.range_succ,List.map_append];rfl
    ·have hi8:¬i<8:=fun q=>z (decide_eq_true (show (0:Int)+(i:Int)<8 by trivial))
     refine ⟨(),(),_,(),rfl,[d2],(),rfl,by trivial,by trivial,(by show 1≤100;decide),(),_,(),rfl,?_,?_⟩
     ·rw [mO,List.length_replicate];simp;trivial
     have en:(List.replicate (0+(i:Int) - 7).toNat [d2]).flatten++[d1]=nD d1 d2 i:=by
      rw [mO]
      unfold nD
      rw [if_neg hi8]
      congr 2
      trivial
     rw [en]
     refine ⟨g2,?_,ai,cE hD g3⟩
     rw [g1,List.range_succ,List.map_append];rfl
   rintro H4 ys1 ⟨ey1,eD1,s4⟩
   subst ey1
   refine ⟨D,(),ar.of eD1,fun q5 H5 n5=>k q5 ((List.range many.toNat).map (nD d1 d2)) t9 H5 (((s09.trans sJ.toE).trans s4.toE).trans n5.sm.toE) ?_ (by simp) (zj hd.2.2.1 (by trivial)) ?_ ((BJ.same s4).same n5.sm) (by trivial) (by trivial)⟩
   ·rw [n5.at',List.map_map];rfl
   ·intro l hl
    obtain ⟨j,hj,rfl⟩:=List.mem_map.mp hl
    exact E3 (by have:=List.mem_range.mp hj;trivial) hd.1 hd.2.1 hd.2.2.2.1 hd.2.2.2.2
  ·-- letters of eleven steps
   refine ⟨(),(),by trivial,by trivial,fun D hD=>dq (n:=many.toNat) (fun i H' ys=>ys=(List.range i).map (fun (k:Nat)=>ao ((97+((f+11*(k:Int)) % 26).toNat) :: cs))∧H' D=some (.lst ys)∧ae H9 H') ?_ ⟨rfl,ai,cE hD (ae.refl _)⟩ ?_ ?_ ?_ ?_ ?_⟩
   ·rw [sizeLine_eq];trivial
   ·rintro i H' ys ⟨rfl,e,_⟩
    exact ⟨e,by simp⟩
   ·intro i H' ys hi _
    exact hi
   ·intro H' ys _
    exact Nat.le_refl _
   ·rintro i H' ys x H'' hi ⟨g1',g2',g3'⟩ ⟨rfl,rfl⟩
    refine ⟨dW,(),(),(),_,(),rfl,.inl ⟨by decide,by decide⟩,_,(),rfl,_,(),rfl,(by show (0:Int)<26;decide),_,_,(),rfl,hz,oH (by trivial) (by trivial),(),[97+(((f+11*(0+(i:Int))) % 26) % 26).toNat],cs,rfl,rfl,?_,?_⟩
    ·simp;trivial
    refine ⟨g2',?_,ai,cE hD g3'⟩
    rw [g1',List.range_succ,List.map_append]
    congr 1
    show [ao ([97+(((f+11*(0+(i:Int))) % 26) % 26).toNat]++cs)]=[ao ((97+((f+11*(i:Int)) % 26).toNat) :: cs)]
    have:(((f+11*(0+(i:Int))) % 26) % 26).toNat=((f+11*(i:Int)) % 26).toNat:=by trivial
    rw [this];rfl
   rintro H4 ys1 ⟨ey1,eD1,s4⟩
   subst ey1
   refine ⟨D,(),ar.of eD1,fun q5 H5 n5=>k q5 ((List.range many.toNat).map (fun (k:Nat)=>(97+((f+11*(k:Int)) % 26).toNat) :: cs)) t9 H5 ((s09.trans s4.toE).trans n5.sm.toE) ?_ (by simp) (wU (f:=f) (by simp;trivial) ?_) ?_ ((B9.same s4).same n5.sm) (by trivial) (by trivial)⟩
   ·rw [n5.at',List.map_map];rfl
   ·intro j l hl
    rw [List.getElem?_map] at hl
    obtain ⟨j',hj',rfl⟩:=Option.map_eq_some_iff.mp hl
    obtain ⟨hlt,ej⟩:=List.getElem?_eq_some_iff.mp hj'
    rw [List.getElem_range] at ej
    subst ej
    rfl
   ·intro l hl
    obtain ⟨j,hj,rfl⟩:=List.mem_map.mp hl
    refine ⟨by simp,by simp;trivial,fun c hc=>?_⟩
    rcases List.mem_cons.mp hc with h | h
    ·rw [h];trivial
    ·exact g3 c h
end
end K66
namespace K66
open PySem L2
section
variable {P:Program}{w:World}{K:PySem.W.Frag}{mg:Str→Option Value}{base:Heap}
inductive F5 (g:KM.Fra→KM.Fra→KM.Fra) (z:Bool) (vs:List V) (H:Hp) (Q:VK):Prop
 | mk (a b:Addr) (p q:KM.Fra) (c1 d1 c2 d2:Nat) (h0:vs=[.ref a,.ref b]) (h1:H a=some (fr p)) (h2:H b=some (fr q)) (h3:Gb c1 d1 p) (h4:Gb c2 d2 q) (h5:c1≤4000) (h6:d1≤4000) (h7:c2≤4000) (h8:d2≤4000) (h9:(z=true→1≤q.1)) (h10:∀o H',Nw H o (fr (g p q)) H'→Q (.ref o) H')
def E9 (g:KM.Fra→KM.Fra→KM.Fra) (z:Bool):Sp:=fun vs H Q _=>F5 g z vs H Q
theorem vV (T:Txt K mg):aZ P w K mg base CX0 2 T.l_product_.f T.l_product_.d ["_law_one", "_law_other"] (E9 KM.lTim false):=by
 have G_l_frac:=#[(ji)]
 refine T.l_product_.F.ok vy (fun vs H Q E h=>?_) (fun cdv A outer s H vs Q E hr h=>?_)
 ·obtain ⟨a,b,p,q,c1,d1,c2,d2,rfl,_⟩:=h
  rfl
 ·obtain ⟨a,b,p,q,c1,d1,c2,d2,rfl,ha,hb,fp,fq,h1,h2,h3,h4,_,k⟩:=h
  obtain ⟨z1,z2,z3,z4⟩:Sz 4000 p.1∧Sz 4000 p.2∧Sz 4000 q.1∧Sz 4000 q.2:=⟨fp.n.mono h1,fp.d.mono h2,fq.n.mono h3,fq.d.mono h4⟩
  refine ⟨_,#[ac 3 #[aq 4 #[G_l_frac,ph,T.l_frac_,#[[#[ag 8 (@pF _) #[#[0,jZ][#[()]]] #[#[1,i7][#[()]]]],#[ag 8 (@pF _) #[#[0,jZ][#[()]]] #[#[1,i7][#[()]]]]]]]]],?_⟩
  exact ⟨(),a,_,_,(),rfl,au.of ha,rfl,(),b,_,_,(),rfl,au.of hb,rfl,_,(),rfl,yf z1 z3,
   _,rfl,a,_,_,_,rfl,rfl,au.of ha,rfl,_,rfl,b,_,_,_,rfl,rfl,au.of hb,rfl,_,_,rfl,rfl,yf z2 z4,_,_,rfl,Int.mul_pos (by have:=fp.pos;trivial) (by have:=fq.pos;trivial),BR z2 z4,fun o H' n=>k o H' n⟩
theorem yP (T:Txt K mg):aZ P w K mg base CX0 2 T.l_over_.f T.l_over_.d ["_law_one", "_law_other"] (E9 ik true):=by
 have G_l_frac:=#[(ji)]
 refine T.l_over_.F.ok ze (fun vs H Q E h=>?_) (fun cdv A outer s H vs Q E hr h=>?_)
 ·obtain ⟨a,b,p,q,c1,d1,c2,d2,rfl,_⟩:=h
  rfl
 ·obtain ⟨a,b,p,q,c1,d1,c2,d2,rfl,ha,hb,fp,fq,h1,h2,h3,h4,hz,k⟩:=h
  have hq:=hz rfl
  obtain ⟨z1,z2,z3,z4⟩:Sz 4000 p.1∧Sz 4000 p.2∧Sz 4000 q.1∧Sz 4000 q.2:=⟨fp.n.mono h1,fp.d.mono h2,fq.n.mono h3,fq.d.mono h4⟩
  refine ⟨_,#[ac 3 #[aq 4 #[G_l_frac,rN,T.l_frac_,#[[#[ag 8 (@pF _) #[#[0,l0][#[()]]] #[#[1,kE][#[()]]]],#[ag 8 (@pF _) #[#[0,l0][#[()]]] #[#[1,kE][#[()]]]]]]]]],?_⟩
  exact ⟨(),a,_,_,(),rfl,au.of ha,rfl,(),b,_,_,(),rfl,au.of hb,rfl,_,(),rfl,yf z1 z4,
   _,rfl,a,_,_,_,rfl,rfl,au.of ha,rfl,_,rfl,b,_,_,_,rfl,rfl,au.of hb,rfl,_,_,rfl,rfl,yf z2 z3,_,_,rfl,Int.mul_pos (by have:=fp.pos;trivial) (by trivial),BR z2 z3,fun o H' n=>k o H' n⟩
end
end K66
namespace K66
open PySem L2
set_option maxHeartbeats 4000000
theorem kI {E:Addr→Prop}{H:Hp}{v:V}{ls:List (List Nat)}{ts:List aU} (h:bh E H v (fC ls ts)):mf fun a p q ys=>v=.ref a∧H a=some (.tup [.ref p,.ref q])∧H p=some (.tup (ls.map ao))∧H q=some (.tup ys)∧aI E H ys (ts.map lQ):=by
 have sall:∀{ls:List (List Nat)}{xs:List V},aI E H xs (ls.map fun l=>PyData.str (S l))→xs=ls.map ao:=by
  intro ls
  induction ls with
  | nil=>intro xs h;cases h;rfl
  | cons l r ih=>
   intro xs h
   cases h with
   | cons h1 h2=>cases h1;rw [ih h2];rfl
 cases h with
 | @tup a xs _ h r=>
  cases r with
  | cons h1 r=>
  cases r with
  | cons h2 r=>
  cases r
  cases h1 with
  | @tup p ps _ hp rp=>
  cases h2 with
  | @tup q ys _ hq rq=>
   have e:=sall rp
   subst e
   exact ⟨a,p,q,ys,rfl,h,hp,hq,rq⟩
theorem v0 {E:Addr→Prop}{H:Hp}{v:V}{t:aU} (h:bh E H v (lQ t)):mf fun a om og op=>v=.ref a∧H a=some (.tup [.str (S t.bg),.str (S t.en),.ref om,.ref og,.ref op])∧H om=some (fr t.most)∧H og=some (fr t.gain)∧H op=some (fr t.price):=by
 cases h with
 | @tup a xs _ h r=>
  cases r with
  | @cons u1 _ _ _ h1 r=>
  cases r with
  | @cons u2 _ _ _ h2 r=>
  cases r with
  | @cons u3 _ _ _ h3 r=>
  cases r with
  | @cons u4 _ _ _ h4 r=>
  cases r with
  | @cons u5 _ _ _ h5 r=>
  cases r
  cases h1
  cases h2
  obtain ⟨om,rfl,ho⟩:=ki h3
  obtain ⟨og,rfl,hg⟩:=ki h4
  obtain ⟨op,rfl,hp⟩:=ki h5
  exact ⟨a,om,og,op,rfl,h,ho,hg,hp⟩
theorem qA {H H':Hp}{D:Addr}{ys zs:List V}{ds:List PyData}{v:V}{d:PyData} (c:Ch H D zs H') (hD:H D=some (.lst ys)) (i:aI ED H ys ds) (iv:bh ED H v d):aI ED H' (ys++[v]) (ds++[d]):=
 (i.mono ⟨fun _ _ n _=>absurd trivial n,fun _ _ e=>c.tup e hD⟩).append (.cons (iv.tupC c hD) .nil)
structure IV (ls:List (List Nat)) (t:aU):Prop where
 b:t.bg∈ls
 e:t.en∈ls
 ne:t.bg≠t.en
 fm:Gb 20 3 t.most
 fg:Gb 6 6 t.gain
 g1:1≤t.gain.1
 fp:Gb 24 24 t.price
 m0:0≤t.most.1
 mc:Int.gcd t.most.1 t.most.2=1
section
variable {P:Program}{w:World}{K:PySem.W.Frag}{mg:Str→Option Value}{base:Heap}
end
end K66
namespace K66
open PySem L2
set_option maxHeartbeats 4000000
section
variable {P:Program}{w:World}{K:PySem.W.Frag}{mg:Str→Option Value}{base:Heap}
end
end K66
namespace K66
open PySem L2
set_option maxHeartbeats 4000000
section
variable {P:Program}{w:World}{K:PySem.W.Frag}{mg:Str→Option Value}{base:Heap}
end
end K66
namespace K66
open PySem L2
set_option maxHeartbeats 4000000
section
variable {P:Program}{w:World}{K:PySem.W.Frag}{mg:Str→Option Value}{base:Heap}
end
end K66
namespace K66
open PySem L2
set_option maxHeartbeats 4000000
section
variable {P:Program}{w:World}{K:PySem.W.Frag}{mg:Str→Option Value}{base:Heap}
end
end K66
namespace K66
open PySem L2
set_option maxHeartbeats 4000000
theorem vZ {α:Type} (n:Nat) (x:α):(List.replicate n [x]).flatten=List.replicate n x:=by
 induction n with
 | zero=>rfl
 | succ n ih=>rw [List.replicate_succ,List.flatten_cons,ih,List.replicate_succ];rfl
theorem CN {α:Type}{ls:List α} (nd:ls.Nodup) {i j:Nat}{x:α} (h1:ls[i]?=some x) (h2:ls[j]?=some x):i=j:=by
 obtain ⟨a1,e1⟩:=List.getElem?_eq_some_iff.mp h1
 obtain ⟨a2,e2⟩:=List.getElem?_eq_some_iff.mp h2
 exact iq nd a1 a2 (e1.trans e2.symm)
section
variable {P:Program}{w:World}{K:PySem.W.Frag}{mg:Str→Option Value}{base:Heap}
end
end K66
namespace K66
open PySem L2
set_option maxHeartbeats 4000000
section
variable {P:Program}{w:World}{K:PySem.W.Frag}{mg:Str→Option Value}{base:Heap}
inductive GH (a b:Nat) (vs:List V) (H:Hp) (Q:VK):Prop
 | mk (bx:Addr) (t:Int) (h0:vs=[.ref bx]) (h1:Bx H bx t) (h2:0≤t) (h3:t≤900000) (h4:∀(o:Addr) (z:KM.Fra) (t':Int) (H':Hp),aJ (Eb bx) H H'→H' o=some (fr z)→Gb a b z→0≤z.1→Int.gcd z.1 z.2=1→Bx H' bx t'→t≤t'→t'≤t+2→Q (.ref o) H')
def En (a b:Nat):Sp:=fun vs H Q _=>GH a b vs H Q
theorem yF {a b:Nat}{n d:Int} (h1:n.natAbs<2 ^ a) (h2:d.natAbs<2 ^ b) (h3:1≤d):Gb a b (n,d):=⟨h1,h2,h3⟩
theorem y8 {n d:Int} (hd:0<d) (h:0≤n):0≤(KM.low n d).1:=by
 have:=(KM.low_sgn (n:=n) hd).2
 by_cases q:(KM.low n d).1<0
 ·have:=this.mp q;trivial
 ·trivial
theorem uz (T:Txt K mg):aZ P w K mg base CX0 2 T.l_any_much_.f T.l_any_much_.d ["_law_box_here"] (En 20 3):=by
 have G_l_take:=#[(jo)]
 have G_l_frac:=#[(ji)]
 refine T.l_any_much_.F.ok nU (fun vs H Q E h=>?_) (fun cdv A outer s H vs Q E hr h=>?_)
 ·obtain ⟨b,t,rfl,_⟩:=h
  rfl
 ·obtain ⟨b,t,rfl,B,ht0,ht1,k⟩:=h
  refine ⟨_,#[#[1,nU.nd,eO,#[G_l_take,jb,T.l_take_,#[[#[0,gR],#[()]]]]] :: #[#[bt 8 #[aE 8 (@bI _) #[1,eO] #[()] #[(),()]] #[ac 3 #[aq 4 #[av 5 #[[#[()],#[()]]]]]] (@aQ _)] :: #[#[bt 8 #[aE 8 (@bI _) #[1,eO] #[()] #[(),()]] #[ac 3 #[aq 4 #[av 5 #[[#[ag 8 (@kD _) #[()] #[()]],#[()]]]]]] (@aQ _)] :: #[ac 3 #[aq 4 #[G_l_frac,oy,T.l_frac_,#[[#[ag 8 (@bw _) #[()] #[G_l_take,jb,T.l_take_,#[[#[0,gR],#[()]]]]],#[#[dz 4 #[[#[()],#[()],#[()],#[()],#[()],#[()]]]][#[ag 8 (@jF _) #[1,eO] #[()]]]!]]]]]]]]],?_⟩
  refine ⟨(),b,8,t,rfl,B,by decide,by decide,ht0,by trivial,fun wy t1 H1 w0 w1 h1a h1b s1 B1=>?_⟩
  refine ⟨(),rfl,(),kU (fun c=>?_) (fun c=>?_)⟩
  ·exact ⟨(by show 2≤10000;decide),fun o H2 n2=>k o (0,1) t1 H2 (s1.trans n2.sm.toE) n2.at' (yF (by decide) (by decide) (by decide)) (by decide) (by decide) (B1.same n2.sm) (by trivial) (by trivial)⟩
  refine ⟨(),rfl,(),kU (fun c'=>?_) (fun c'=>?_)⟩
  ·have q6:(10:Int) ^ (6:Int).toNat=1000000:=by decide
   refine ⟨_,(),rfl,⟨by decide,by decide,by decide⟩,(by show 2≤10000;decide),fun o H2 n2=>k o (1000000,1) t1 H2 (s1.trans n2.sm.toE) ?_ (yF (by decide) (by decide) (by decide)) (by decide) (by decide) (B1.same n2.sm) (by trivial) (by trivial)⟩
   rw [n2.at']
   show some (HO.tup [V.int ((10:Int) ^ (6:Int).toNat),V.int 1])=_
   rw [q6]
  have hw:wy≠0:=fun z=>c (by rw [z];decide)
  have hw':wy≠1:=fun z=>c' (by rw [z];decide)
  refine ⟨(),b,12,t1,rfl,B1,by decide,by decide,by trivial,by trivial,fun r2 t2 H2 a20 a21 _ _ s2 B2=>⟨_,(),rfl,(by show 6≤10000;decide),fun l5 H5 n5=>?_⟩⟩
  obtain ⟨e,ee,he0,he1⟩:∃e:Int,gk [V.int 1,V.int 1,V.int 1,V.int 2,V.int 3,V.int 7] (wy - 2)=some (V.int e)∧1≤e∧e≤7:=by
   obtain rfl | rfl | rfl | rfl | rfl | rfl:wy=2∨wy=3∨wy=4∨wy=5∨wy=6∨wy=7:=by trivial
   ·exact ⟨1,rfl,by decide,by decide⟩
   ·exact ⟨1,rfl,by decide,by decide⟩
   ·exact ⟨1,rfl,by decide,by decide⟩
   ·exact ⟨2,rfl,by decide,by decide⟩
   ·exact ⟨3,rfl,by decide,by decide⟩
   ·exact ⟨7,rfl,by decide,by decide⟩
  have f:Gb 20 3 (KM.low (1+r2) e):=rV (show (1+r2).natAbs<1048576 by trivial) (show e.natAbs<8 by trivial) (by trivial)
  exact ⟨(),_,(),rfl,l5,_,_,(),rfl,ar.of n5.at',ee,_,(),by trivial,Sz.mono (m:=40) (by show e.natAbs<1099511627776;trivial) (by decide),fun o H6 n6=>k o _ t2 H6 (((s1.trans s2).trans n5.sm.toE).trans n6.sm.toE) n6.at' f (y8 (by trivial) (by trivial)) (KM.low_spec _ _ (by trivial)).2.2.1 ((B2.same n5.sm).same n6.sm) (by trivial) (by trivial)⟩
theorem v9 (T:Txt K mg):aZ P w K mg base CX0 2 T.l_any_price_.f T.l_any_price_.d ["_law_box_here"] (En 24 24):=by
 have G_l_take:=#[(jo)]
 have G_l_frac:=#[(ji)]
 refine T.l_any_price_.F.ok lZ (fun vs H Q E h=>?_) (fun cdv A outer s H vs Q E hr h=>?_)
 ·obtain ⟨b,t,rfl,_⟩:=h
  rfl
 ·obtain ⟨b,t,rfl,B,ht0,ht1,k⟩:=h
  refine ⟨_,#[#[1,lZ.nd,fY,#[G_l_take,iR,T.l_take_,#[[#[0,gF],#[()]]]]] :: #[ac 3 #[aq 4 #[bT 8 #[aE 8 (@bI _) #[1,fY] #[()] #[(),()]] #[av 5 #[[#[()],#[()]]]] #[G_l_frac,mF,T.l_frac_,#[[#[G_l_take,iR,T.l_take_,#[[#[0,gF],#[()]]]],#[#[dz 4 #[[#[()],#[()],#[()]]]][#[ag 8 (@jF _) #[1,fY] #[()]]]!]]]]]]]],?_⟩
  refine ⟨(),b,4,t,rfl,B,by decide,by decide,ht0,by trivial,fun wy t1 H1 w0 w1 h1a h1b s1 B1=>?_⟩
  refine ⟨(),rfl,(),kU (fun c=>?_) (fun c=>?_)⟩
  ·exact ⟨(by show 2≤10000;decide),fun o H2 n2=>k o (0,1) t1 H2 (s1.trans n2.sm.toE) n2.at' (yF (by decide) (by decide) (by decide)) (by decide) (by decide) (B1.same n2.sm) (by trivial) (by trivial)⟩
  have hw:wy≠0:=fun z=>c (by rw [z];decide)
  refine ⟨(),b,20,t1,rfl,B1,by decide,by decide,by trivial,by trivial,fun r2 t2 H2 a20 a21 _ _ s2 B2=>⟨(by show 3≤10000;decide),fun l5 H5 n5=>?_⟩⟩
  obtain ⟨e,ee,he0,he1⟩:∃e:Int,gk [V.int 1,V.int 1,V.int 6] (wy - 1)=some (V.int e)∧1≤e∧e≤7:=by
   obtain rfl | rfl | rfl:wy=1∨wy=2∨wy=3:=by trivial
   ·exact ⟨1,rfl,by decide,by decide⟩
   ·exact ⟨1,rfl,by decide,by decide⟩
   ·exact ⟨6,rfl,by decide,by decide⟩
  have f:Gb 24 24 (KM.low r2 e):=rV (show r2.natAbs<16777216 by trivial) (show e.natAbs<16777216 by trivial) (by trivial)
  exact ⟨(),_,(),rfl,l5,_,_,(),rfl,ar.of n5.at',ee,_,(),by trivial,Sz.mono (m:=40) (by show e.natAbs<1099511627776;trivial) (by decide),fun o H6 n6=>k o _ t2 H6 (((s1.trans s2).trans n5.sm.toE).trans n6.sm.toE) n6.at' f (y8 (by trivial) (by trivial)) (KM.low_spec _ _ (by trivial)).2.2.1 ((B2.same n5.sm).same n6.sm) (by trivial) (by trivial)⟩
end
end K66
namespace K66
open PySem L2
set_option maxHeartbeats 4000000
abbrev Ab:=List Nat×List Nat×KM.Fra
abbrev Aj (x:Ab):PyData:=.tuple [.str (S x.1),.str (S x.2.1),rH x.2.2]
def Gg (p:KM.Fra):Prop:=Gb 6 6 p∧Int.gcd p.1 p.2=1
structure EL (ls:List (List Nat)) (x:Ab):Prop where
 b:x.1∈ls
 e:x.2.1∈ls
 ne:x.1≠x.2.1
 g:Gg x.2.2
 g1:1≤x.2.2.1
theorem Dc {n d:Int} (hd:0<d):Int.gcd (KM.low n d).1 (KM.low n d).2=1:=(KM.low_spec n d (by trivial)).2.2.1
theorem yt {n d:Int} (hn:1≤n) (hn2:n<64) (hd:1≤d) (hd2:d<64):Gg (KM.low n d)∧1≤(KM.low n d).1:=
 ⟨⟨rV (show n.natAbs<64 by trivial) (show d.natAbs<64 by trivial) (by trivial),Dc (by trivial)⟩,(KM.low_sgn (by trivial)).1.mpr (by trivial)⟩
theorem Aq {E:Addr→Prop}{H:Hp}{α:Type}{f:α→PyData}:∀{vs:List V}{xs:List α},vs.length=xs.length→(∀(i:Nat) v x,vs[i]?=some v→xs[i]?=some x→bh E H v (f x))→aI E H vs (xs.map f)
 | [],[],_,_=>.nil
 | [],_ :: _,h,_=>by simp at h
 | _ :: _,[],h,_=>by simp at h
 | v :: vs,x :: xs,h,k=>.cons (k 0 v x rfl rfl) (Aq (by simpa using h) fun i v' x' h1 h2=>k (i+1) v' x' (by simpa using h1) (by simpa using h2))
theorem E6 {n f i j:Int} (h0:0<n) (hij:i<j) (hn:j - i<n):(f+i) % n≠(f+j) % n:=fun z=>by
 have h1:((f+j) - (f+i)) % n=0:=by
  rw [Int.sub_emod,z,Int.sub_self,Int.zero_emod]
 have h2:(f+j) - (f+i)=j - i:=by trivial
 rw [h2,Int.emod_eq_of_lt (by trivial) hn] at h1
 trivial
section
variable {P:Program}{w:World}{K:PySem.W.Frag}{mg:Str→Option Value}{base:Heap}
inductive A4 (vs:List V) (H:Hp) (Q:VK):Prop
 | mk (b pl:Addr) (ls:List (List Nat)) (t:Int) (h0:vs=[.ref b,.ref pl]) (h1:Bx H b t) (h2:0≤t) (h3:t≤900000) (h4:H pl=some (.tup (ls.map ao))) (h5:2≤ls.length) (h6:ls.length≤10) (h7:ls.Nodup) (h8:∀(L:Addr) (ys:List V) (es:List Ab) (t':Int) (H':Hp),aJ (Eb b) H H'→H L=none→H' L=some (.lst ys)→aI ED H' ys (es.map Aj)→es.length≤10→(∀x∈es,EL ls x)→Bx H' b t'→t≤t'→t'≤t+5→Q (.ref L) H')
def Ck:Sp:=fun vs H Q _=>A4  vs H Q
theorem yl (T:Txt K mg):aZ P w K mg base CX0 2 T.l_planted_.f T.l_planted_.d ["_law_box_here", "_law_places"] Ck:=by
 have G_l_take:=#[(jo)]
 have G_l_frac:=#[(ji)]
 refine T.l_planted_.F.ok cP (fun vs H Q E h=>?_) (fun cdv A outer s H vs Q E hr h=>?_)
 ·obtain ⟨b,pl,ls,t,rfl,_⟩:=h
  rfl
 ·obtain ⟨b,pl,ls,t,rfl,B,ht0,ht1,hpl,l2,l10,nd,k⟩:=h
  have es:((ls.map ao).length:Int)=(ls.length:Int):=by rw [List.length_map]
  refine ⟨_,#[#[2,cP.nd,gJ,#[ag 8 (@bw _) #[()] #[G_l_take,cN,T.l_take_,#[[#[0,b5],#[ag 8 (@jF _) #[(),(),(@dQ _ (K) (by rfl)),lC,T.b_len,(@aR),#[[#[1,(iJ)]]]] #[()]]]]]]] :: #[#[eG 6 #[av 5 #[[#[G_l_take,cN,T.l_take_,#[[#[0,b5],#[(),(),(@dQ _ (K) (by rfl)),lC,T.b_len,(@aR),#[[#[1,(iJ)]]]]]]],#[ag 8 (@bw _) #[()] #[G_l_take,cN,T.l_take_,#[[#[0,b5],#[()]]]]],#[ag 8 (@bw _) #[()] #[G_l_take,cN,T.l_take_,#[[#[0,b5],#[()]]]]]]]] (@c6 _ (K) _ _ _ _ (3) rfl #[aD 5 #[dC 2 (3) _ cP.nd rfl (Or.inr oz) (by first | exact .inl rfl | exact .inr rfl | assumption)] #[aD 5 #[4,cP.nd,iF] #[aD 5 #[5,cP.nd,iE] (@cA _) (by rfl)] (by rfl)] (by rfl)] (by rfl) (by rfl) (by rfl)) (by rfl) (by rfl) (by rfl)] :: #[#[6,cP.nd,gG,#[ag 8 (@bw _) #[()] #[G_l_take,cN,T.l_take_,#[[#[0,b5],#[()]]]]]] :: #[#[7,cP.nd,i4,#[ag 8 (@pI _) #[dz 4 #[[#[G_l_frac,jG,T.l_frac_,#[[#[4,iF],#[5,iE]]]],#[G_l_frac,jG,T.l_frac_,#[[#[ag 8 (@ft _) #[5,iE] #[ag 8 (@bw _) #[6,gG] #[()]]],#[ag 8 (@ft _) #[4,iF] #[6,gG]]]]]]]] #[ag 8 (@Ct _) #[dz 4 #[[#[av 5 #[[#[()],#[()]]]]]]] #[ag 8 (@jF _) #[2,gJ] #[()]]]]] :: #[#[lO 7 (["_law_k", "_law_first", "_law_places"]) (1) ([3,1]) _ _ _ _ (8) _ _ _ cP.nd rfl dS (by kernel_rfl) rfl (by kernel_rfl) #[dy 6 p5 T.b_range #[[#[2,gJ]]] (by rfl)] (fun _ _ _ _ _ _=>#[0,(),()]) (fun _ _ _ _ _ _=>@bO _) (fun _ _ _ _ _ _=>#[#[2,0][#[ag 8 (@fP _) #[ag 8 (@bw _) #[1,0] #[0,()]] #[(),(),(@dQ _ (K) (by rfl)),(by show _=_;kernel_rfl),T.b_len,(@aR),#[[#[2,0]]]]]]]) (by intro _;rfl)] :: #[ac 3 #[aq 4 (@Am _ (K) _ _ _ _ _ _ _ _ rfl qE T.b_list rM T.b_zip #[[#[8,dS],#[ag 8 (@pI _) #[fO 10 (@mJ _ (K) (by rfl)) #[8,dS] #[d9 3 #[()]] (@iw _)] #[fO 10 (@mJ _ (K) (by rfl)) #[8,dS] (@iw _) #[d9 3 #[()]]]],#[7,i4]]] (by rfl) (by rfl) (by rfl) (by rfl))]]]]]]],?_⟩
  refine bF fun Q1 nA1=>⟨(),(),pl,(),.inr (au.of hpl),_,(),rfl,b,_,t,rfl,B,by trivial,kJ (by trivial) (by trivial),by trivial,by trivial,fun r1 t1 H1 r10 r11 h1a h1b s1 B1=>⟨_,(),rfl,nA1 _ _ ?_⟩⟩
  have hpl1:=s1.tup _ _ hpl
  refine ⟨(),(),pl,(),.inr (au.of hpl1),b,_,t1,rfl,B1,by trivial,kJ (by trivial) (by trivial),by trivial,by trivial,fun f t2 H2 f0 f1 h2a h2b s2 B2=>?_⟩
  refine ⟨(),b,6,t2,rfl,B2,by decide,by decide,by trivial,by trivial,fun a t3 H3 a0 a1 h3a h3b s3 B3=>⟨_,(),rfl,?_⟩⟩
  refine ⟨(),b,6,t3,rfl,B3,by decide,by decide,by trivial,by trivial,fun c t4 H4 c0 c1 h4a h4b s4 B4=>⟨_,(),rfl,(by show 3≤10000;decide),fun T5 H5 n5=>⟨T5,(),au.of n5.at',rfl,_,(),_,(),_,(),rfl,?_⟩⟩⟩
  dsimp only
  refine bF fun Q2 nA2=>⟨(),b,6,t4,rfl,B4.same n5.sm,by decide,by decide,by trivial,by trivial,fun m t6 H6 m0 m1 h6a h6b s6 B6=>⟨_,(),rfl,nA2 _ _ ?_⟩⟩
  have s06:aJ (Eb b) H H6:=((((s1.trans s2).trans s3).trans s4).trans n5.sm.toE).trans s6
  have q1:1≤(1+a)*(1+m):=by
   have:=Int.mul_le_mul (show (1:Int)≤1+a by trivial) (show (1:Int)≤1+m by trivial) (by decide) (by trivial);trivial
  have q2:(1+a)*(1+m)≤6*6:=Int.mul_le_mul (by trivial) (by trivial) (by trivial) (by decide)
  have q3:1≤(1+c)*(1+m+1):=by
   have:=Int.mul_le_mul (show (1:Int)≤1+c by trivial) (show (1:Int)≤1+m+1 by trivial) (by decide) (by trivial);trivial
  have q4:(1+c)*(1+m+1)≤6*7:=Int.mul_le_mul (by trivial) (by trivial) (by trivial) (by decide)
  have g1:=yt (n:=1+a) (d:=1+c) (by trivial) (by trivial) (by trivial) (by trivial)
  have g2:=yt q3 (by trivial) q1 (by trivial)
  refine bF fun Q3 nA3=>?_
  refine ⟨(),(),1+a,1+c,rfl,by trivial,Sz.mono (m:=40) (by show (1+c).natAbs<1099511627776;trivial) (by decide),fun o1 H7 n7=>?_⟩
  refine ⟨(),(),_,(),rfl,_,(),rfl,.inr ⟨by trivial,by trivial⟩,(),(),_,(),rfl,.inr ⟨by trivial,by trivial⟩,(1+c)*(1+m+1),(1+a)*(1+m),rfl,by trivial,Sz.mono (m:=40) (by show ((1+a)*(1+m)).natAbs<1099511627776;trivial) (by decide),fun o2 H8 n8=>?_⟩
  refine ⟨(by show 2≤10000;decide),fun l9 H9 n9=>⟨(by show 2≤10000;decide),fun o3 H10 n10=>⟨(by show 1≤10000;decide),fun l11 H11 n11=>?_⟩⟩⟩
  refine ⟨(),_,(),rfl,l11,_,(),rfl,n11.at',by trivial,by trivial,by simp;trivial,fun l12 H12 n12=>⟨l9,l12,_,(),rfl,n12.sm _ _ (n11.sm _ _ (n10.sm _ _ n9.at')),n12.at',?_,fun G H13 n13=>nA3 _ _ ?_⟩⟩
  ·rw [vZ,List.length_replicate];simp;trivial
  obtain ⟨mn,emn,hmn⟩:∃mn:Nat,2+r1=(mn:Int)∧2≤mn∧mn≤ls.length:=⟨(2+r1).toNat,by trivial,by trivial,by trivial⟩
  have s613:ae H6 H13:=((((((n7.sm.trans n8.sm).trans n9.sm).trans n10.sm).trans n11.sm).trans n12.sm).trans n13.sm)
  have hG:H13 G=some (.lst ([.ref o1,.ref o2]++List.replicate (mn - 2) (.ref o3))):=by
   have:=n13.at'
   rw [vZ,show (2+r1 - 2).toNat=mn - 2 by trivial] at this
   exact this
  have ho1:H13 o1=some (fr (KM.low (1+a) (1+c))):=n13.sm _ _ (n12.sm _ _ (n11.sm _ _ (n10.sm _ _ (n9.sm _ _ (n8.sm _ _ n7.at')))))
  have ho2:H13 o2=some (fr (KM.low ((1+c)*(1+m+1)) ((1+a)*(1+m)))):=n13.sm _ _ (n12.sm _ _ (n11.sm _ _ (n10.sm _ _ (n9.sm _ _ n8.at'))))
  have ho3:H13 o3=some (fr (1,1)):=n13.sm _ _ (n12.sm _ _ (n11.sm _ _ n10.at'))
  have hplE:H13 pl=some (.tup (ls.map ao)):=s613 _ _ (s06.tup _ _ hpl)
  have ix:∀i:Nat,∃l,ls[((f+(i:Int)) % (ls.length:Int)).toNat]?=some l∧0≤(f+(i:Int)) % (ls.length:Int)∧((f+(i:Int)) % (ls.length:Int)).toNat<ls.length:=fun i=>by
   have a1:=Int.emod_nonneg (f+(i:Int)) (show (ls.length:Int)≠0 by trivial)
   have a2:=Int.emod_lt_of_pos (f+(i:Int)) (show (0:Int)<ls.length by trivial)
   exact ⟨_,List.getElem?_eq_getElem (by trivial),a1,by trivial⟩
  obtain ⟨sp,hsp⟩:∃sp:Nat→List Nat,∀i:Nat,ls[((f+(i:Int)) % (ls.length:Int)).toNat]?=some (sp i):=⟨fun i=>Classical.choose (ix i),fun i=>(Classical.choose_spec (ix i)).1⟩
  have spm:∀i,sp i∈ls:=fun i=>List.mem_of_getElem? (hsp i)
  have spn:∀i j:Nat,i<j→j<ls.length→sp i≠sp j:=fun i j hij hj z=>by
   have h1:=hsp i
   have h2:=hsp j
   rw [z] at h1
   have:=CN nd h1 h2
   obtain ⟨_,_,p1,_⟩:=ix i
   obtain ⟨_,_,p2,_⟩:=ix j
   exact E6 (n:=(ls.length:Int)) (f:=f) (i:=i) (j:=j) (by trivial) (by trivial) (by trivial) (by trivial)
  refine bF fun Q4 nA4=>⟨(),(),by trivial,by trivial,fun D hD=>?_⟩
  rw [emn,Int.toNat_natCast]
  refine o5 (n:=mn) (fun k=>ao (sp k)) (by trivial) hD (fun i H' hi sm=>hi) (fun H' sm=>Nat.le_refl _) ?_ ?_
  ·rintro i x H' H'' R hi sm ⟨rfl,rfl⟩ kk
   have hplX:=sm _ _ hplE
   obtain ⟨_,_,p1,p2⟩:=ix i
   have hat:gk (ls.map ao) ((f+(0+(i:Int))) % ((ls.map ao).length:Int))=some (ao (sp i)):=by
    rw [es,Int.zero_add,l8 p1 p2]
    have:=hsp i
    rw [List.getElem?_eq_getElem p2] at this
    rw [Option.some.inj this]
   exact ⟨dW,(),(),(),_,(),rfl,(),pl,(),.inr (au.of hplX),_,(),rfl,(by show (0:Int)<((ls.map ao).length:Int);trivial),pl,_,_,(),rfl,au.of hplX,hat,kk _ (ae.refl _)⟩
  intro J sJ hDJ
  refine nA4 _ _ ?_
  have ml:((List.range mn).map fun k=>ao (sp k)).length=mn:=by simp
  refine ⟨(),(),(),D,(),ar.of hDJ,fun p1 J1 j1=>⟨(),(),D,(),ar.of (j1.sm _ _ hDJ),fun p2 J2 j2=>⟨p1,p2,_,(),rfl,j2.sm _ _ j1.at',j2.at',?_,fun p3 J3 j3=>?_⟩⟩⟩
  ·rw [rj,lh (by decide),List.length_drop,List.length_take,ml]
   show mn - 1+min 1 mn≤10000
   trivial
  have e3:J3 p3=some (.lst (((List.range mn).map fun k=>ao (sp k)).drop 1++((List.range mn).map fun k=>ao (sp k)).take 1)):=by
   rw [j3.at',rj,lh (by decide)];rfl
  have sJ3:ae H13 J3:=sJ.trans ((j1.sm.trans j2.sm).trans j3.sm)
  refine ⟨(),D,p3,G,_,_,(),ar.of (j3.sm _ _ (j2.sm _ _ (j1.sm _ _ hDJ))),ar.of e3,ar.of (sJ3 _ _ hG),?_,?_,by rw [ml];trivial,fun L ts J4 s4' fL hL lts hts=>?_⟩
  ·rw [List.length_append,List.length_drop,List.length_take,ml];trivial
  ·rw [List.length_append,List.length_replicate,ml];simp;trivial
  rw [ml] at lts
  have s134:=sJ3.trans s4'
  have gz:∀i:Nat,i<mn→∃z:Addr×KM.Fra,([V.ref o1,.ref o2]++List.replicate (mn - 2) (.ref o3))[i]?=some (.ref z.1)∧J4 z.1=some (fr z.2)∧Gg z.2∧1≤z.2.1:=fun i hi=>by
   match i,hi with
   | 0,_=>exact ⟨(o1,_),rfl,s134 _ _ ho1,g1.1,g1.2⟩
   | 1,_=>exact ⟨(o2,_),rfl,s134 _ _ ho2,g2.1,g2.2⟩
   | i+2,hi=>
    refine ⟨(o3,(1,1)),?_,s134 _ _ ho3,⟨yF (by decide) (by decide) (by decide),(show Int.gcd 1 1=1 by decide)⟩,(by show (1:Int)≤1;decide)⟩
    show (List.replicate (mn - 2) (V.ref o3))[i]?=_
    rw [List.getElem?_replicate,if_pos (by trivial)]
  obtain ⟨zl,lzl,hzl⟩:=sj mn gz
  obtain ⟨g,hg⟩:∃g:Nat→KM.Fra,∀i,i<mn→∃o,([V.ref o1,.ref o2]++List.replicate (mn - 2) (.ref o3))[i]?=some (.ref o)∧J4 o=some (fr (g i))∧Gg (g i)∧1≤(g i).1:=by
   refine ⟨fun i=>((zl[i]?).map Prod.snd).getD (1,1),fun i hi=>?_⟩
   obtain ⟨z,ez⟩:∃z,zl[i]?=some z:=⟨_,List.getElem?_eq_getElem (by trivial)⟩
   have q:=hzl i z ez
   refine ⟨z.1,q.1,?_⟩
   show J4 z.1=some (fr (((zl[i]?).map Prod.snd).getD (1,1)))∧Gg (((zl[i]?).map Prod.snd).getD (1,1))∧1≤(((zl[i]?).map Prod.snd).getD (1,1)).1
   rw [ez]
   exact q.2
  have s6':aJ (Eb b) H J4:=s06.trans (s613.trans s134).toE
  refine k L (ts.map V.ref) ((List.range mn).map fun i=>(sp i,(if i+1<mn then sp (i+1) else sp 0),g i)) t6 J4 s6' ?_ hL ?_ (by simp;trivial) ?_ (B6.same (s613.trans s134)) (by trivial) (by trivial)
  ·have:H13 L=none:=sJ3.free fL
   exact s06.free B6 (s613.free this)
  ·refine Aq (by simp [lts]) fun i v x hv hx=>?_
   rw [List.getElem?_map] at hv hx
   obtain ⟨tt,ht,rfl⟩:=Option.map_eq_some_iff.mp hv
   obtain ⟨i',hi',rfl⟩:=Option.map_eq_some_iff.mp hx
   obtain ⟨il,e'⟩:=List.getElem?_eq_some_iff.mp hi'
   rw [List.getElem_range] at e'
   subst e'
   rw [List.length_range] at il
   obtain ⟨x,y,z,hx',hy',hz',hT⟩:=hts i tt ht
   obtain ⟨o,ho,ho',_⟩:=hg i il
   rw [ho] at hz'
   cases hz'
   rw [List.getElem?_map,List.getElem?_range il] at hx'
   cases hx'
   have ey:y=ao (if i+1<mn then sp (i+1) else sp 0):=by
    by_cases c1:i+1<mn
    ·rw [List.getElem?_append_left (by rw [List.length_drop,ml];trivial),List.getElem?_drop,List.getElem?_map,show 1+i=i+1 by trivial,List.getElem?_range c1] at hy'
     rw [if_pos c1]
     exact (Option.some.inj hy').symm
    ·rw [List.getElem?_append_right (by rw [List.length_drop,ml];trivial),List.length_drop,ml,show i - (mn - 1)=0 by trivial,List.getElem?_take,if_pos (by decide),List.getElem?_map,List.getElem?_range (by trivial)] at hy'
     rw [if_neg c1]
     exact (Option.some.inj hy').symm
   rw [ey] at hT
   exact .tup hT (.cons (.str _) (.cons (.str _) (.cons (rR ho') .nil)))
  ·intro x hx
   obtain ⟨i,hi,rfl⟩:=List.mem_map.mp hx
   have il:=List.mem_range.mp hi
   obtain ⟨o,_,_,gg,gg1⟩:=hg i il
   refine ⟨spm i,?_,?_,gg,gg1⟩
   ·show (if i+1<mn then sp (i+1) else sp 0)∈ls
    split
    ·exact spm _
    ·exact spm _
   ·show sp i≠(if i+1<mn then sp (i+1) else sp 0)
    split
    ·exact spn i (i+1) (by trivial) (by trivial)
    ·exact fun z=>spn 0 i (by trivial) (by trivial) z.symm
end
end K66
namespace K66
open PySem L2
set_option maxHeartbeats 4000000
theorem mz {ls:List (List Nat)} (h:ls.Nodup):(ls.map fun l=>(Sum.inr (S l):bz)).Nodup:=by
 rw [List.nodup_iff_pairwise_ne,List.pairwise_map]
 refine List.Pairwise.imp (fun {a b} hab z=>?_) (List.nodup_iff_pairwise_ne.mp h)
 injection z with z
 exact hab (nt z)
structure BN (ls:List (List Nat)) (t:aU):Prop where
 d:IV ls t
 gc:Int.gcd t.gain.1 t.gain.2=1
 p0:0≤t.price.1
 pc:Int.gcd t.price.1 t.price.2=1
abbrev WC (z:KM.Fra):Prop:=1≤z.1∧z.1≤3∧1≤z.2∧z.2≤3
theorem GL {p q z:KM.Fra} (hp:WC p) (hq:WC q) (hz:1≤z.1∧z.1≤5∧1≤z.2∧z.2≤6):Gg (KM.lTim (ik p q) z)∧1≤(KM.lTim (ik p q) z).1:=by
 obtain ⟨a1,a2,a3,a4⟩:=hp
 obtain ⟨b1,b2,b3,b4⟩:=hq
 obtain ⟨c1,c2,c3,c4⟩:=hz
 have m1:p.1*q.2≤3*3:=Int.mul_le_mul a2 b4 (by trivial) (by decide)
 have m2:p.2*q.1≤3*3:=Int.mul_le_mul a4 b2 (by trivial) (by decide)
 have p1:0<p.1*q.2:=Int.mul_pos (by trivial) (by trivial)
 have p2:0<p.2*q.1:=Int.mul_pos (by trivial) (by trivial)
 have sp:=KM.low_spec (p.1*q.2) (p.2*q.1) (by trivial)
 have o1:1≤(ik p q).1:=Dr a1 a3 b1 b3
 obtain ⟨s1,_,_,s2,s3⟩:=sp
 have o2:(ik p q).1≤9:=by
  have:(ik p q).1.natAbs≤(p.1*q.2).natAbs:=s2
  trivial
 have o3:1≤(ik p q).2:=s1
 have o4:(ik p q).2≤9:=by
  have:(ik p q).2.natAbs≤(p.2*q.1).natAbs:=s3
  trivial
 have n1:(ik p q).1*z.1≤9*5:=Int.mul_le_mul o2 c2 (by trivial) (by decide)
 have n2:(ik p q).2*z.2≤9*6:=Int.mul_le_mul o4 c4 (by trivial) (by decide)
 have n3:0<(ik p q).1*z.1:=Int.mul_pos (by trivial) (by trivial)
 have n4:0<(ik p q).2*z.2:=Int.mul_pos (by trivial) (by trivial)
 exact yt (by trivial) (by trivial) (by trivial) (by trivial)
theorem uW {z:KM.Fra} (h:WC z):Gb 2 2 z:=⟨show z.1.natAbs<4 by have:=h.1;have:=h.2.1;trivial,show z.2.natAbs<4 by have:=h.2.2.1;have:=h.2.2.2;trivial,h.2.2.1⟩
section
variable {P:Program}{w:World}{K:PySem.W.Frag}{mg:Str→Option Value}{base:Heap}
inductive CU (vs:List V) (H:Hp) (Q:VK):Prop
 | mk (b:Addr) (mp mt t:Int) (h0:vs=[.ref b,.int mp,.int mt]) (h1:Bx H b t) (h2:0≤t) (h3:t≤800000) (h4:2≤mp) (h5:mp≤10) (h6:1≤mt) (h7:mt≤24) (h8:∀(v:V) (ls:List (List Nat)) (ts:List aU) (t':Int) (H':Hp),aJ (Eb b) H H'→bh ED H' v (fC ls ts)→2≤ls.length→ls.length≤10→ls.Nodup→(∀l∈ls,hU l)→1≤ts.length→ts.length≤24→(∀t∈ts,BN ls t)→Bx H' b t'→t≤t'→t'≤t+700→Q v H')
def DZ:Sp:=fun vs H Q _=>CU  vs H Q
theorem zy (T:Txt K mg):aZ P w K mg base CX0 3 T.l_net_by_.f T.l_net_by_.d ["_law_box_here", "_law_most_places", "_law_most_ties"] DZ:=by
 have G_l_take:=#[(jo)]
 have G_l_names_by:=#[(w4)]
 have G_l_planted:=#[(yl)]
 have G_l_any_gain:=#[(uE)]
 have G_l_any_much:=#[(uz)]
 have G_l_any_price:=#[(v9)]
 have G_l_product:=#[(vV)]
 have G_l_over:=#[(yP)]
 refine T.l_net_by_.F.ok aX (fun vs H Q E h=>?_) (fun cdv A outer s H vs Q E hr h=>?_)
 ·obtain ⟨b,mp,mt,t,rfl,_⟩:=h
  rfl
 ·obtain ⟨b,mp,mt,t,rfl,B,ht0,ht1,mp1,mp2,mt1,mt2,k⟩:=h
  refine ⟨_,#[#[pf 2 (3) (4) _ _ _ _ _ _ _ _ _ _ _ rfl aX.nd rfl rfl (by decide) ii gC #[[#[G_l_take,bd,T.l_take_,#[[#[0,(ax)],#[()]]]],#[bY 8 (@bI _) #[G_l_take,bd,T.l_take_,#[[#[0,(ax)],#[()]]]] #[()] #[(),()]]]] (by kernel_rfl) (by rfl)] :: #[#[5,aX.nd,bq,#[G_l_names_by,ma,T.l_names_by_,#[[#[0,(ax)],#[bT 8 #[bn 3 #[4,gC] (by intro _;rfl)] #[ag 8 (@bw _) #[()] #[G_l_take,bd,T.l_take_,#[[#[0,(ax)],#[()]]]]] #[ag 8 (@bw _) #[()] #[G_l_take,bd,T.l_take_,#[[#[0,(ax)],#[ag 8 (@jF _) #[1,kC] #[()]]]]]]]]]]] :: #[#[6,aX.nd,ka,#[bT 8 #[bn 3 #[4,gC] (by intro _;rfl)] #[ag 8 (@bw _) #[()] #[G_l_take,bd,T.l_take_,#[[#[0,(ax)],#[()]]]]] #[ag 8 (@bw _) #[()] #[G_l_take,bd,T.l_take_,#[[#[0,(ax)],#[2,lN]]]]]]] :: #[#[jH 2 (7) _ _ _ _ aX.nd rfl (Or.inr qe) #[dz 4 #[[#[av 5 #[[#[()],#[()]]]],#[av 5 #[[#[()],#[()]]]],#[av 5 #[[#[()],#[()]]]],#[av 5 #[[#[()],#[()]]]],#[av 5 #[[#[()],#[()]]]],#[av 5 #[[#[()],#[()]]]],#[av 5 #[[#[()],#[()]]]]]]] (by rfl) (by first | exact .inl rfl | exact .inr rfl | assumption)] :: #[#[8,aX.nd,fW,#[be 9 (@yb _ rfl) rn T.b_dict (@vj) #[[#[cg 7 (["_law_place", "_law_box_here", "_law_some"]) (1) ([0,7]) _ _ _ _ rfl (by kernel_rfl) (@fK _ (K) _ _ _ #[5,bq] (by rfl)) (fun _ _ _ _ _ _=>#[0,(),()]) (fun _ _ _ _ _ _=>@bO _) (fun _ _ _ _ _ _=>#[av 5 #[[#[0,()],#[#[2,0][#[G_l_take,(),T.l_take_,#[[#[1,0],#[()]]]]]!]]]]) (by intro _;rfl)]]] (by decide) (by decide) (by rfl) (by rfl)]] :: #[#[9,aX.nd,fb,#[bT 8 #[aE 8 (@bI _) #[3,ii] #[()] #[(),()]] #[G_l_planted,mC,T.l_planted_,#[[#[0,(ax)],#[5,bq]]]] #[dz 4 (@bE _)]]] :: #[#[iZ 8 PassesOwn.never rfl #[dy 6 qR T.b_range #[[#[6,ka]]] (by rfl)] #[10,aX.nd,qf] #[#[11,aX.nd,iO,#[G_l_take,bd,T.l_take_,#[[#[0,(ax)],#[(),(),(@dQ _ (K) (by rfl)),fi,T.b_len,(@aR),#[[#[5,bq]]]]]]]] :: #[#[pf 2 (12) (13) _ _ _ _ _ _ _ _ _ _ _ rfl aX.nd rfl rfl (by decide) cQ dL #[[#[#[5,bq][#[11,iO]]],#[#[5,bq][#[ag 8 (@fP _) #[ag 8 (@bw _) #[ag 8 (@bw _) #[11,iO] #[()]] #[G_l_take,bd,T.l_take_,#[[#[0,(ax)],#[ag 8 (@jF _) #[(),(),(@dQ _ (K) (by rfl)),fi,T.b_len,(@aR),#[[#[5,bq]]]] #[()]]]]]] #[(),(),(@dQ _ (K) (by rfl)),fi,T.b_len,(@aR),#[[#[5,bq]]]]]]]]] (by kernel_rfl) (by rfl)] :: #[#[14,aX.nd,di,#[G_l_any_gain,lY,T.l_any_gain_,#[[#[0,(ax)]]]]] :: #[#[bt 8 #[aE 8 (@pL _) #[3,ii] #[()] #[(),()]] #[#[15,aX.nd,j7,#[#[dz 4 #[[#[av 5 #[[#[()],#[()]]]],#[av 5 #[[#[()],#[()]]]],#[av 5 #[[#[()],#[()]]]],#[av 5 #[[#[()],#[()]]]]]]][#[G_l_take,bd,T.l_take_,#[[#[0,(ax)],#[()]]]]]!]] :: #[ac 3 #[14,aX.nd,di,#[G_l_product,ng,T.l_product_,#[[#[G_l_over,qb,T.l_over_,#[[#[eL 7 (@xg _) #[8,fW] #[12,cQ] (fun _ _=>rfl)],#[eL 7 (@xg _) #[8,fW] #[13,dL] (fun _ _=>rfl)]]]],#[15,j7]]]]]]] (@aQ _)] :: #[ac 3 #[jv 4 (@cu _ (K) _ _ _ _ _ _ _ _ _ _ _ PySem.F.plainAttrs_list PySem.F.slot_list_insert PySem.F.type_list_insert (@x6 _) #[9,fb] #[[#[G_l_take,bd,T.l_take_,#[[#[0,(ax)],#[ag 8 (@bw _) #[(),(),(@dQ _ (K) (by rfl)),fi,T.b_len,(@aR),#[[#[9,fb]]]] #[()]]]]],#[av 5 #[[#[12,cQ],#[13,dL],#[14,di]]]]]] (by rfl) (by rfl) (by rfl) (by rfl) (by rfl) (by rfl)) (by rfl)]]]]]] (by intro _;rfl)] :: #[#[16,aX.nd,cw,#[dz 4 (@bE _)]] :: #[#[iZ 8 PassesOwn.never rfl (@tY _ (K) _ _ _ #[fO 10 (@mJ _ (K) (by rfl)) #[9,fb] (@iw _) #[d9 3 #[()]]] (by rfl)) (@c6 _ (K) _ _ _ _ (3) rfl #[aD 5 #[12,aX.nd,cQ] #[aD 5 #[13,aX.nd,dL] #[aD 5 #[14,aX.nd,di] (@cA _) (by rfl)] (by rfl)] (by rfl)] (by rfl) (by rfl) (by rfl)) #[#[17,aX.nd,kP,#[G_l_any_much,lW,T.l_any_much_,#[[#[0,(ax)]]]]] :: #[ac 3 #[jv 4 (@cu _ (K) _ _ _ _ _ _ _ _ _ _ _ PySem.F.plainAttrs_list PySem.F.slot_list_append PySem.F.type_list_append (@iA _) #[16,cw] #[[#[av 5 #[[#[12,cQ],#[13,dL],#[17,kP],#[14,di],#[G_l_any_price,lH,T.l_any_price_,#[[#[0,(ax)]]]]]]]]] (by rfl) (by rfl) (by rfl) (by rfl) (by rfl) (by rfl)) (by rfl)]]] (by intro _;rfl)] :: #[#[bt 8 #[PW.pt 3 #[rD 7 #[aE 8 (@pL _) #[(),(),(@dQ _ (K) (by rfl)),fi,T.b_len,(@aR),#[[#[16,cw]]]] #[()] #[(),()]] #[sq 4 #[aE 8 (@bI _) #[G_l_take,bd,T.l_take_,#[[#[0,(ax)],#[()]]]] #[()] #[(),()]]]]] #[ac 3 #[jv 4 (@cu _ (K) _ _ _ _ _ _ _ _ _ _ _ PySem.F.plainAttrs_list PySem.F.slot_list_append PySem.F.type_list_append (@iA _) #[16,cw] #[[#[#[16,cw][#[()]]!]]] (by rfl) (by rfl) (by rfl) (by rfl) (by rfl) (by rfl)) (by rfl)]] (@aQ _)] :: #[ac 3 #[aq 4 #[av 5 #[[#[5,bq],#[be 9 (@cB _ (K) (by rfl)) qJ T.b_tuple (@ba) #[[#[16,cw]]] (by decide) (by decide) (by rfl) (by rfl)]]]]]]]]]]]]]]]],?_⟩
  refine Ej fun Q1 nP=>⟨(),b,4,t,rfl,B,by decide,by decide,by trivial,by trivial,fun wy t1 H1 w0 w1 h1a h1b s1 B1=>⟨(),b,8,t1,rfl,B1,by decide,by decide,by trivial,by trivial,fun gr t2 H2 gr0 gr1 h2a h2b s2 B2=>⟨rfl,nP _ _ _ ?_⟩⟩⟩
  generalize decide (V.int gr=V.int 0)=great
  refine bF fun Q2 nA2=>⟨(),(),(),?_⟩
  refine Fc (fun v H'=>aV fun many t'=>v=.int many∧2≤many∧many≤10∧Bx H' b t'∧t2≤t'∧t'≤t2+1∧aJ (Eb b) H2 H') ?_ (fun _ nx=>?_) (fun _ nx=>?_)
  rotate_left
  ·exact ⟨(),b,4,t2,rfl,B2,by decide,by decide,by trivial,by trivial,fun r t3 H3 r0 r1 h3a h3b s3 B3=>⟨_,(),rfl,nx _ _ ⟨7+r,t3,rfl,by trivial,by trivial,B3,by trivial,by trivial,s3⟩⟩⟩
  ·exact ⟨(),(),_,(),rfl,b,_,t2,rfl,B2,by trivial,kJ (by trivial) (by trivial),by trivial,by trivial,fun r t3 H3 r0 r1 h3a h3b s3 B3=>⟨_,(),rfl,nx _ _ ⟨2+r,t3,rfl,by trivial,by trivial,B3,by trivial,by trivial,s3⟩⟩⟩
  rintro v H3 ⟨many,t3,rfl,hm1,hm2,B3,h3a,h3b,s3⟩
  refine ⟨b,many,t3,rfl,B3,by trivial,by trivial,by trivial,by trivial,fun pl ls t4 H4 s4 hpl lls nd nc B4 h4a h4b=>nA2 _ _ ?_⟩
  have s04:aJ (Eb b) H H4:=((s1.trans s2).trans s3).trans s4
  have l2:2≤ls.length:=by trivial
  have l10:ls.length≤10:=by trivial
  clear hm1 hm2 lls
  refine bF fun Q3 nA3=>⟨(),(),?_⟩
  refine Fc (fun v H'=>aV fun many t'=>v=.int many∧1≤many∧many≤24∧Bx H' b t'∧t4≤t'∧t'≤t4+1∧aJ (Eb b) H4 H') ?_ (fun _ nx=>?_) (fun _ nx=>?_)
  rotate_left
  ·exact ⟨(),b,15,t4,rfl,B4,by decide,by decide,by trivial,by trivial,fun r t3 H3 r0 r1 h3a h3b s3 B3=>⟨_,(),rfl,nx _ _ ⟨10+r,t3,rfl,by trivial,by trivial,B3,by trivial,by trivial,s3⟩⟩⟩
  ·exact ⟨(),(),b,mt,t4,rfl,B4,by trivial,kJ (by trivial) (by trivial),by trivial,by trivial,fun r t3 H3 r0 r1 h3a h3b s3 B3=>⟨_,(),rfl,nx _ _ ⟨1+r,t3,rfl,by trivial,by trivial,B3,by trivial,by trivial,s3⟩⟩⟩
  rintro v H5 ⟨mn,t5,rfl,mn1,mn2,B5,h5a,h5b,s5⟩
  refine nA3 _ _ ?_
  have hpl5:=s5.tup _ _ hpl
  have s05:=s04.trans s5
  refine bF fun Q4 nA4=>⟨(by show 2≤10000;decide),fun u1 K1 m1=>⟨(by show 2≤10000;decide),fun u2 K2 m2=>⟨(by show 2≤10000;decide),fun u3 K3 m3=>⟨(by show 2≤10000;decide),fun u4 K4 m4=>⟨(by show 2≤10000;decide),fun u5 K5 m5=>⟨(by show 2≤10000;decide),fun u6 K6 m6=>⟨(by show 2≤10000;decide),fun u7 K7 m7=>⟨(by show 7≤10000;decide),fun sl K8 m8=>nA4 _ _ ?_⟩⟩⟩⟩⟩⟩⟩⟩
  have sK7:ae H5 K7:=(((((m1.sm.trans m2.sm).trans m3.sm).trans m4.sm).trans m5.sm).trans m6.sm).trans m7.sm
  have sK:=sK7.trans m8.sm
  have nsl:¬sl=b:=fun z=>(B5.same sK7).ne m8.fr z.symm
  have hplK:=sK _ _ hpl5
  have BK:=B5.same sK
  have some_at:∀(r:Int) (J:Hp),0≤r→r<7→aJ (Eb b) K8 J→aV fun o z=>gk [V.ref u1,V.ref u2,V.ref u3,V.ref u4,V.ref u5,V.ref u6,V.ref u7] r=some (.ref o)∧J o=some (fr z)∧WC z:=fun r J r0 r1 sJ=>by
   have up:∀{u:Addr}{us:List V},K8 u=some (.tup us)→J u=some (.tup us):=fun h=>sJ.tup _ _ h
   obtain rfl | rfl | rfl | rfl | rfl | rfl | rfl:r=0∨r=1∨r=2∨r=3∨r=4∨r=5∨r=6:=by trivial
   ·exact ⟨u1,(1,1),rfl,up (m8.sm _ _ (m7.sm _ _ (m6.sm _ _ (m5.sm _ _ (m4.sm _ _ (m3.sm _ _ (m2.sm _ _ m1.at'))))))),by decide⟩
   ·exact ⟨u2,(2,1),rfl,up (m8.sm _ _ (m7.sm _ _ (m6.sm _ _ (m5.sm _ _ (m4.sm _ _ (m3.sm _ _ m2.at')))))),by decide⟩
   ·exact ⟨u3,(3,1),rfl,up (m8.sm _ _ (m7.sm _ _ (m6.sm _ _ (m5.sm _ _ (m4.sm _ _ m3.at'))))),by decide⟩
   ·exact ⟨u4,(1,2),rfl,up (m8.sm _ _ (m7.sm _ _ (m6.sm _ _ (m5.sm _ _ m4.at')))),by decide⟩
   ·exact ⟨u5,(1,3),rfl,up (m8.sm _ _ (m7.sm _ _ (m6.sm _ _ m5.at'))),by decide⟩
   ·exact ⟨u6,(3,2),rfl,up (m8.sm _ _ (m7.sm _ _ m6.at')),by decide⟩
   ·exact ⟨u7,(2,3),rfl,up (m8.sm _ _ m7.at'),by decide⟩
  refine bF fun Q5 nA5=>⟨(),pl,rfl,⟨_,au.of hplK⟩,fun D hD=>dq (n:=(ls.map ao).length) (fun i H' xs=>gf fun (as ws:List Addr) (t':Int)=>xs=as.map V.ref∧H' D=some (.lst xs)∧as.length=i∧ws.length=i∧(∀(j:Nat) a,as[j]?=some a→gf fun l w z=>ls[j]?=some l∧ws[j]?=some w∧H' a=some (.tup [ao l,.ref w])∧H' w=some (fr z)∧WC z)∧Bx H' b t'∧t5≤t'∧t'≤t5+i∧aJ (Eb b) K8 H') (eJ (by rw [List.length_map];trivial)) ⟨[],[],t5,rfl,ai,rfl,rfl,(fun j a h=>by simp at h),BK.same (ae.new hD),by trivial,by trivial,(ae.new hD).toE⟩ ?_ ?_ ?_ ?_ ?_⟩
  ·rintro i H' xs ⟨as,ws,t',rfl,e1,e2,_⟩
   exact ⟨e1,by rw [List.length_map];trivial⟩
  ·rintro i H' xs hi ⟨as,ws,t',_,_,_,_,_,_,_,_,sE⟩
   exact ⟨_,_,au.of (sE.tup _ _ hplK),List.getElem?_eq_getElem hi⟩
  ·rintro H' xs ⟨as,ws,t',_,_,_,_,_,_,_,_,sE⟩
   exact ⟨_,au.of (sE.tup _ _ hplK),Nat.le_refl _⟩
  ·have nDb:¬D=b:=fun z=>BK.ne hD z.symm
   rintro i Ha xs x Hb hi ⟨as,ws,t',rfl,eD,la,lw,hw,BD,h1,h2,sE⟩ ⟨rfl,ex⟩
   have exi:=ex _ (au.of (sE.tup _ _ hplK))
   rw [List.length_map] at hi
   rw [List.getElem?_map,List.getElem?_eq_getElem hi] at exi
   obtain rfl:ao ls[i]=x:=Option.some.inj exi
   refine ⟨dW,(),(),(),b,7,t',rfl,BD,by decide,by decide,by trivial,by trivial,fun r6 t6 J6 r60 r61 h6a h6b s6 B6=>?_⟩
   obtain ⟨o,z,eo,ho,wz⟩:=some_at r6 J6 r60 (by trivial) (sE.trans s6)
   refine ⟨sl,_,_,(),rfl,ar.of (s6.old sl _ nsl (sE.old sl _ nsl m8.at')),eo,(by show 2≤10000;decide),fun q J7 n7=>?_⟩
   have js:aJ (Eb b) Hb J7:=s6.trans n7.sm.toE
   have eD7:=js.old D _ nDb eD
   have c':Ch J7 D (as.map V.ref++[.ref q]) (aL J7 D (.lst (as.map V.ref++[.ref q]))):=Ch.mk'
   refine ⟨eD7,as++[q],ws++[o],t6,by rw [List.map_append];rfl,ai,by rw [List.length_append,la];rfl,by rw [List.length_append,lw];rfl,fun j a' ha'=>?_,(B6.same n7.sm).ch c' (fun z=>nDb z.symm),by trivial,by trivial,(sE.trans js).up hD⟩
   by_cases hj:j<i
   ·rw [List.getElem?_append_left (by trivial)] at ha'
    obtain ⟨l,w,z,e1,e2,e3,e4,e5⟩:=hw j a' ha'
    exact ⟨l,w,z,e1,by rw [List.getElem?_append_left (by trivial)];exact e2,c'.tup (js.tup _ _ e3) eD7,c'.tup (js.tup _ _ e4) eD7,e5⟩
   ·have hj':j=i:=by
     have:=(List.getElem?_eq_some_iff.mp ha').1
     rw [List.length_append] at this
     simp at this
     trivial
    subst hj'
    rw [List.getElem?_append_right (by trivial),la,Nat.sub_self] at ha'
    obtain rfl:q=a':=Option.some.inj ha'
    exact ⟨ls[j],o,z,List.getElem?_eq_getElem hi,by rw [List.getElem?_append_right (by trivial),lw,Nat.sub_self];rfl,c'.tup n7.at' eD7,c'.tup (n7.sm _ _ ho) eD7,wz⟩
  rintro J xs ⟨as,ws,t6,rfl,eD,la,lw,hw,B6,h6a,h6b,s6⟩
  rw [List.length_map] at la lw h6b
  have wv:∀(j:Nat) (hj:j<ls.length),gf fun a w z=>as[j]?=some a∧ws[j]?=some w∧J a=some (.tup [ao ls[j],.ref w])∧J w=some (fr z)∧WC z:=fun j hj=>by
   obtain ⟨a,ha⟩:∃a,as[j]?=some a:=⟨_,List.getElem?_eq_getElem (by trivial)⟩
   obtain ⟨l,w,z,e1,e2,e3,e4,e5⟩:=hw j a ha
   rw [List.getElem?_eq_getElem hj] at e1
   cases e1
   exact ⟨a,w,z,ha,e2,e3,e4,e5⟩
  refine ⟨D,as,ls.map fun l=>(Sum.inr (S l):bz),ws.map V.ref,rfl,eD,by rw [List.length_map];exact la,by rw [List.length_map,List.length_map];exact lw,mz nd,by rw [List.length_map];trivial,fun i a ha=>?_,fun W J1 nW=>nA5 _ _ ?_⟩
  ·obtain ⟨l,w,z,e1,e2,e3,_,_⟩:=hw i a ha
   exact ⟨Sum.inr (S l),.ref w,by rw [List.getElem?_map,e1];rfl,by rw [List.getElem?_map,e2];rfl,e3⟩
  have s81:aJ (Eb b) K8 J1:=s6.trans nW.sm.toE
  have s01:aJ (Eb b) H J1:=(s05.trans sK.toE).trans s81
  have BJ:=B6.same nW.sm
  have nWb:¬W=b:=fun z=>B6.ne nW.fr z.symm
  have hplJ:J1 pl=some (.tup (ls.map ao)):=s81.tup _ _ hplK
  obtain ⟨kvs,ekv⟩:∃kvs,kvs=((ls.map fun l=>(Sum.inr (S l):bz)).zip (ws.map V.ref)):=⟨_,rfl⟩
  have hW:J1 W=some (.dK kvs):=by rw [ekv];exact nW.at'
  have wl:∀l∈ls,aV fun w z=>valD kvs (Sum.inr (S l))=some (.ref w)∧J1 w=some (fr z)∧WC z:=fun l hl=>by
   obtain ⟨j,hj⟩:=List.getElem?_of_mem hl
   have hlt:=(List.getElem?_eq_some_iff.mp hj).1
   obtain ⟨a,w,z,e1,e2,e3,e4,e5⟩:=wv j hlt
   refine ⟨w,z,?_,nW.sm _ _ e4,e5⟩
   rw [ekv]
   exact va (i:=j) (mz nd) (by rw [List.getElem?_map,hj];rfl) (by rw [List.getElem?_map,e2];rfl)
  have t6a:t≤t6∧t6≤t+40:=by trivial
  clear hw wv la lw h6a h6b h5a h5b h4a h4b h1a h1b h2a h2b h3a h3b some_at sK7 sK m1 m2 m3 m4 m5 m6 m7 m8 ekv hplK hpl5 hpl BK B4 B3 B2 B1 B5 s04 s05 nW eD s6 s81 B6
  refine bF fun Q6 nA6=>⟨(),rfl,(),?_⟩
  refine Fc (fun v H'=>mf fun (L:Addr) (ys:List V) (es:List Ab) (t':Int)=>v=.ref L∧H' L=some (.lst ys)∧aI ED H' ys (es.map Aj)∧es.length≤10∧(∀x∈es,EL ls x)∧Bx H' b t'∧t6≤t'∧t'≤t6+5∧aJ (Eb b) J1 H'∧J1 L=none) ?_ (fun _ nx=>?_) (fun _ nx=>?_)
  rotate_left
  ·exact ⟨(),(),b,pl,ls,t6,rfl,BJ,by trivial,by trivial,hplJ,l2,l10,nd,fun L ys es t7 J2 sE fL hL iL lL cL BL h7a h7b=>nx _ _ ⟨L,ys,es,t7,rfl,hL,iL,lL,cL,BL,h7a,h7b,sE,fL⟩⟩
  ·exact ⟨(by show 0≤10000;decide),fun L J2 n2=>nx _ _ ⟨L,[],[],t6,rfl,n2.at',.nil,by decide,(fun x hx=>by cases hx),BJ.same n2.sm,by trivial,by trivial,n2.sm.toE,n2.fr⟩⟩
  rintro v J2 ⟨L,ys,es,t7,rfl,hL,iL,lL,cL,B7,h7a,h7b,s7,fL⟩
  refine nA6 _ _ ?_
  have nLb:¬L=b:=fun z=>BJ.ne fL z.symm
  have el:((ls.map ao).length:Int)=(ls.length:Int):=by rw [List.length_map]
  refine fe fun DB nB=>?_
  refine ⟨(),mn,rfl,by trivial,by trivial,?_⟩
  refine lD (fun i σ H'=>EN fun (v10 v11 v12 v13 v14 v15:Option V) (ys:List V) (es:List Ab) (t':Int)=>σ=[some (.ref b),some (.int mp),some (.int mt),some (.int wy),some (.bl great),some (.ref pl),some (.int mn),some (.ref sl),some (.ref W),some (.ref L),v10,v11,v12,v13,v14,v15,none,none]∧H' L=some (.lst ys)∧aI ED H' ys (es.map Aj)∧es.length≤10+i∧i≤es.length∧(∀x∈es,EL ls x)∧Bx H' b t'∧t7≤t'∧t'≤t7+12*i∧aJ (Eb b) J1 H') ⟨_,_,_,_,_,_,ys,es,t7,rfl,hL,iL,by trivial,by trivial,cL,B7,by trivial,by trivial,s7⟩ ?_ ?_
  ·clear hL iL lL cL B7 s7
   rintro i σ G hi ⟨v10,v11,v12,v13,v14,v15,ys,es,t8,rfl,hL,iL,lL,lL',cL,BG,h8a,h8b,sG⟩
   have lys:ys.length=es.length:=by rw [iL.length,List.length_map]
   have hplG:=sG.tup _ _ hplJ
   refine pJ (t:=kq _ _) fun DH nH=>?_
   refine bF fun DI nI=>?_
   refine ⟨(),(),pl,(),.inr (au.of hplG),b,_,t8,rfl,BG,by trivial,kJ (by trivial) (by trivial),by trivial,by trivial,fun f t9 G1 f0 f1 _ _ g1 BG1=>nI _ _ ?_⟩
   have hplG1:=g1.tup _ _ hplG
   refine Ej fun DJ nJ=>?_
   refine ⟨(),(),pl,_,_,(),rfl,au.of hplG1,l8 f0 (by trivial),(),(),_,(),rfl,(),(),pl,(),.inr (au.of hplG1),_,(),rfl,b,_,t9,rfl,BG1,by trivial,kJ (by trivial) (by trivial),by trivial,by trivial,fun r t10 G2 r0 r1 _ _ g2 BG2=>?_⟩
   have hplG2:=g2.tup _ _ hplG1
   obtain ⟨q0,q1,q2⟩:=xK (n:=(ls.length:Int)) (f:=f) (r:=r) f0 (by trivial) r0 (by trivial)
   obtain ⟨la,ela⟩:∃la,la=(f+1+r) % (ls.length:Int):=⟨_,rfl⟩
   rw [←ela] at q0 q1 q2
   have hat:gk (ls.map ao) ((f+1+r) % ((ls.map ao).length:Int))=some (ao ls[la.toNat]):=by rw [el,←ela];exact l8 q0 (by trivial)
   refine ⟨_,(),rfl,(),pl,(),.inr (au.of hplG2),_,(),rfl,(by show (0:Int)<((ls.map ao).length:Int);trivial),pl,_,_,(),rfl,au.of hplG2,hat,nJ _ _ _ ?_⟩
   obtain ⟨bg,ebg⟩:∃bg,bg=ls[f.toNat]:=⟨_,rfl⟩
   obtain ⟨en,een⟩:∃en,en=ls[la.toNat]:=⟨_,rfl⟩
   have mbg:bg∈ls:=by rw [ebg];exact List.getElem_mem _
   have men:en∈ls:=by rw [een];exact List.getElem_mem _
   have bne:bg≠en:=fun z=>by
    rw [ebg,een] at z
    have:=iq nd (by trivial) (by trivial) z
    trivial
   rw [←ebg,←een]
   refine bF fun DK nK=>?_
   refine ⟨(),b,t10,rfl,BG2,by trivial,by trivial,fun og n d t11 G3 g3 eg fg lg gcg BG3 h11a h11b=>nK _ _ ?_⟩
   have g03:=(g1.trans g2).trans g3
   have t11a:t8≤t11∧t11≤t8+8:=by trivial
   refine yE (fun σ H'=>mf fun (og:Addr) (g:KM.Fra) (v15:Option V) (t':Int)=>σ=[some (.ref b),some (.int mp),some (.int mt),some (.int wy),some (.bl great),some (.ref pl),some (.int mn),some (.ref sl),some (.ref W),some (.ref L),some (.int (0+(i:Int))),some (.int f),some (.str (S bg)),some (.str (S en)),some (.ref og),v15,none,none]∧H' og=some (fr g)∧Gg g∧1≤g.1∧Bx H' b t'∧t11≤t'∧t'≤t11+1∧aJ (Eb b) G3 H') ?_ fun nx=>?_
   ·rintro σ' G4 ⟨og,g,v15,t12,rfl,hog,gg,gg1,BG4,h12a,h12b,g4⟩
    have g04:=g03.trans g4
    have hL4:=g04.old L _ nLb hL
    refine ⟨(),.inl ⟨rfl,_,ar.of hL4⟩,(),(),L,(),.inl (ar.of hL4),_,(),rfl,b,_,t12,rfl,BG4,by trivial,kJ (by trivial) (by trivial),by trivial,by trivial,fun r t13 G5 r0 r1 _ _ g5 BG5=>⟨(),(),(),(by show 3≤10000;decide),fun q G6 n6=>?_⟩⟩
    have g06:=(g04.trans g5).trans n6.sm.toE
    have hL6:=g06.old L _ nLb hL
    refine ⟨L,ys,r,.ref q,rfl,rfl,hL6,r0,by trivial,by trivial,fun G7 c7=>nH _ _ ⟨_,_,_,_,_,_,_,es.take r.toNat++(bg,en,g) :: es.drop r.toNat,t13,rfl,c7.at',?_,?_,?_,fun x hx=>?_,(BG5.same n6.sm).ch c7 (fun z=>nLb z.symm),by trivial,by trivial,(sG.trans g06).ch c7 fL⟩⟩
    ·have i6:=iL.tupS g06
     rw [List.map_append,List.map_cons,List.map_take,List.map_drop]
     have nw:bh ED G6 (.ref q) (Aj (bg,en,g)):=.tup n6.at' (.cons (.str _) (.cons (.str _) (.cons (rR (p:=g) (n6.sm _ _ (g5.tup _ _ hog))) .nil)))
     exact ((i6.take _).append (.cons nw (i6.drop _))).mono ⟨fun _ _ n _=>absurd trivial n,fun _ _ e=>c7.tup e hL6⟩
    ·rw [List.length_append,List.length_cons,List.length_take,List.length_drop];trivial
    ·rw [List.length_append,List.length_cons,List.length_take,List.length_drop];trivial
    ·rcases List.mem_append.mp hx with q' | q'
     ·exact cL x (List.mem_of_mem_take q')
     ·rcases List.mem_cons.mp q' with q' | q'
      ·rw [q'];exact ⟨mbg,men,bne,gg,gg1⟩
      ·exact cL x (List.mem_of_mem_drop q')
   ·refine ⟨(),_,(),rfl,(),kU (fun c=>?_) (fun c=>?_)⟩
    ·refine bF fun DM nM=>⟨(by show 2≤10000;decide),fun u1 K1 m1=>⟨(by show 2≤10000;decide),fun u2 K2 m2=>⟨(by show 2≤10000;decide),fun u3 K3 m3=>⟨(by show 2≤10000;decide),fun u4 K4 m4=>⟨(by show 4≤10000;decide),fun l5 K5 m5=>⟨(),b,4,t11,rfl,BG3.same ((((m1.sm.trans m2.sm).trans m3.sm).trans m4.sm).trans m5.sm),by decide,by decide,by trivial,by trivial,fun r6 t12 K6 r60 r61 h6a h6b s6 B6=>?_⟩⟩⟩⟩⟩⟩
     have sm:=(((m1.sm.trans m2.sm).trans m3.sm).trans m4.sm).trans m5.sm
     have nl5:¬l5=b:=fun z=>(BG3.same (((m1.sm.trans m2.sm).trans m3.sm).trans m4.sm)).ne m5.fr z.symm
     have up:∀{u:Addr}{us:List V},K5 u=some (.tup us)→K6 u=some (.tup us):=fun h=>s6.tup _ _ h
     obtain ⟨so,z,eso,hso,gz'⟩:∃so,∃z:KM.Fra,gk [V.ref u1,V.ref u2,V.ref u3,V.ref u4] r6=some (.ref so)∧K6 so=some (fr z)∧(1≤z.1∧z.1≤5∧1≤z.2∧z.2≤6):=by
      obtain rfl | rfl | rfl | rfl:r6=0∨r6=1∨r6=2∨r6=3:=by trivial
      ·exact ⟨u1,(1,1),rfl,up (m5.sm _ _ (m4.sm _ _ (m3.sm _ _ (m2.sm _ _ m1.at')))),by decide⟩
      ·exact ⟨u2,(1,1),rfl,up (m5.sm _ _ (m4.sm _ _ (m3.sm _ _ m2.at'))),by decide⟩
      ·exact ⟨u3,(1,2),rfl,up (m5.sm _ _ (m4.sm _ _ m3.at')),by decide⟩
      ·exact ⟨u4,(5,6),rfl,up (m5.sm _ _ m4.at'),by decide⟩
     refine ⟨l5,_,_,(),rfl,ar.of (s6.old l5 _ nl5 m5.at'),eso,nM _ _ ?_⟩
     have s36:aJ (Eb b) G3 K6:=sm.toE.trans s6
     have sJ6:aJ (Eb b) J1 K6:=(sG.trans g03).trans s36
     have hW6:=sJ6.old W _ nWb hW
     obtain ⟨w1',z1,v1,hw1,wc1⟩:=wl bg mbg
     obtain ⟨w2',z2,v2,hw2,wc2⟩:=wl en men
     refine ⟨(),(),W,kvs,Sum.inr (S bg),.ref w1',rfl,rfl,hW6,v1,(),(),W,kvs,Sum.inr (S en),.ref w2',rfl,rfl,hW6,v2,w1',w2',z1,z2,_,_,_,(),sJ6.tup _ _ hw1,sJ6.tup _ _ hw2,uW wc1,uW wc2,by decide,by decide,by decide,by decide,(fun _=>wc2.1),fun q K7 n7=>⟨(),q,so,_,z,4,4,3,3,rfl,n7.at',n7.sm _ _ hso,(uW wc1).ovr (uW wc2) wc2.1 (by decide) (by decide),⟨(show z.1.natAbs<8 by trivial),(show z.2.natAbs<8 by trivial),gz'.2.2.1⟩,by decide,by decide,by decide,by decide,(fun z=>by cases z),fun q2 K8 n8=>nx _ _ ?_⟩⟩
     have wg:=GL wc1 wc2 gz'
     exact ⟨q2,_,_,t12,rfl,n8.at',wg.1,wg.2,(B6.same n7.sm).same n8.sm,by trivial,by trivial,s36.trans (n7.sm.trans n8.sm).toE⟩
    ·exact nx _ _ ⟨og,(n,d),_,t11,rfl,eg,⟨⟨fg.sn,fg.sd,fg.pos⟩,gcg⟩,lg,BG3,by trivial,by trivial,aJ.refl _⟩
  clear hL iL lL cL B7 s7
  rintro σ G ⟨v10,v11,v12,v13,v14,v15,ys,es,t8,rfl,hL,iL,lL,lL',cL,BG,h8a,h8b,sG⟩
  have t8a:t≤t8∧t8≤t+333:=by trivial
  have les:1≤es.length∧es.length≤34:=by trivial
  have lys:ys.length=es.length:=by rw [iL.length,List.length_map]
  clear h7a h7b h8a h8b lL lL' t6a
  refine nB _ _ ?_
  clear nB
  refine bF fun Q7 nA7=>⟨(by show 0≤10000;decide),fun TL G1 n1=>nA7 _ _ ?_⟩
  have fT:J1 TL=none:=sG.free BG n1.fr
  have nTb:¬TL=b:=fun z=>BG.ne n1.fr z.symm
  refine fe fun DB nB=>?_
  refine ⟨(),(),L,(),ar.of (n1.sm _ _ hL),fun P' G2 n2=>?_⟩
  have eP:G2 P'=some (.lst (ys.take 24)):=by
   have:=n2.at'
   rw [lh (by decide)] at this
   exact this
  have nPb:¬P'=b:=fun z=>(BG.same n1.sm).ne n2.fr z.symm
  have nPT:¬P'=TL:=fun z=>by have:=n1.at';rw [←z,n2.fr] at this;cases this
  have s12:=n1.sm.trans n2.sm
  have iP:aI ED G2 (ys.take 24) ((es.take 24).map Aj):=by
   rw [List.map_take]
   exact (iL.take 24).mono s12.toE
  have lP:(ys.take 24).length=(es.take 24).length:=by rw [List.length_take,List.length_take];trivial
  refine ⟨P',rfl,⟨_,ar.of n2.at'⟩,?_⟩
  refine Bf (xs:=ys.take 24) (fun i σ H'=>HK fun (v12 v13 v14 v17:Option V) (zs:List V) (ts:List aU) (t':Int)=>σ=[some (.ref b),some (.int mp),some (.int mt),some (.int wy),some (.bl great),some (.ref pl),some (.int mn),some (.ref sl),some (.ref W),some (.ref L),v10,v11,v12,v13,v14,v15,some (.ref TL),v17]∧H' TL=some (.lst zs)∧aI ED H' zs (ts.map lQ)∧ts.length=i∧(∀x∈ts,BN ls x)∧Bx H' b t'∧t8≤t'∧t'≤t8+4*i∧H' P'=some (.lst (ys.take 24))∧aJ (Eb b) J1 H'∧(∀a us,G2 a=some (.tup us)→H' a=some (.tup us))) ⟨_,_,_,_,[],[],t8,rfl,n2.sm _ _ n1.at',.nil,rfl,(fun x hx=>by cases hx),BG.same s12,by trivial,by trivial,eP,sG.trans s12.toE,fun _ _ h=>h⟩ ?_ ?_ ?_
  ·rintro i σ H' _ ⟨_,_,_,_,_,_,_,_,_,_,_,_,_,_,_,q,_⟩
   exact ar.of q
  ·rintro i x σ F0 hx ⟨v12,v13,v14,v17,zs,ts,t9,rfl,hT,iT,lT,cT,BF,h9a,h9b,hP,sF,tF⟩
   have hi:i<(ys.take 24).length:=(List.getElem?_eq_some_iff.mp hx).1
   have h24:(ys.take 24).length≤24:=by rw [List.length_take];trivial
   obtain ⟨dx,edx,gx⟩:=iP.get hx
   rw [List.getElem?_map] at edx
   obtain ⟨tr,etr,rfl⟩:=Option.map_eq_some_iff.mp edx
   have tc:=cL tr (List.mem_of_mem_take (List.mem_of_getElem? etr))
   obtain ⟨o,og,rfl,ho,hog⟩:aV fun o og=>x=.ref o∧G2 o=some (.tup [.str (S tr.1),.str (S tr.2.1),.ref og])∧G2 og=some (fr tr.2.2):=by
    cases gx with
    | @tup a xs _ h r'=>
     cases r' with
     | @cons u1 _ _ _ h1 r'=>
     cases r' with
     | @cons u2 _ _ _ h2 r'=>
     cases r' with
     | @cons u3 _ _ _ h3 r'=>
     cases r'
     cases h1
     cases h2
     obtain ⟨og,rfl,hog⟩:=ki h3
     exact ⟨a,og,rfl,h,hog⟩
   have lzs:zs.length=ts.length:=by rw [iT.length,List.length_map]
   refine ⟨o,(),au.of (tF _ _ ho),rfl,_,(),_,(),_,(),rfl,?_⟩
   dsimp only
   refine bF fun Q8 nA8=>⟨(),b,t9,rfl,BF,by trivial,by trivial,fun om zm t10 F1 f1 hom gm zm0 zmc BF1 h10a h10b=>nA8 _ _ ?_⟩
   have hT1:=f1.old TL _ nTb hT
   refine ⟨(),.inl ⟨rfl,_,ar.of hT1⟩,(),(),(),(),(),b,t10,rfl,BF1,by trivial,by trivial,fun op zp t11 F2 f2 hop gp zp0 zpc BF2 h11a h11b=>⟨(by show 5≤10000;decide),fun q F3 n3=>?_⟩⟩
   have f03:aJ (Eb b) F0 F3:=(f1.trans f2).trans n3.sm.toE
   have hT3:=f03.old TL _ nTb hT
   refine ⟨TL,_,(),rfl,hT3,by trivial,fun F4 c4=>⟨_,_,_,_,zs++[.ref q],ts++[⟨tr.1,tr.2.1,zm,tr.2.2,zp⟩],t11,rfl,c4.at',?_,by rw [List.length_append,lT];rfl,fun x hx=>?_,(BF2.same n3.sm).ch c4 (fun z=>nTb z.symm),by trivial,by trivial,c4.ol P' _ nPT (f03.old P' _ nPb hP),(sF.trans f03).ch c4 fT,fun a us h=>c4.tup (f03.tup _ _ (tF a us h)) hT3⟩⟩
   ·rw [List.map_append]
    refine qA c4 hT3 (iT.tupS f03) ?_
    exact .tup n3.at' (.cons (.str _) (.cons (.str _) (.cons (rR (p:=zm) (n3.sm _ _ (f2.tup _ _ hom))) (.cons (rR (p:=tr.2.2) (f03.tup _ _ (tF _ _ hog))) (.cons (rR (p:=zp) (n3.sm _ _ hop)) .nil)))))
   ·rcases List.mem_append.mp hx with q' | q'
    ·exact cT x q'
    ·rw [List.mem_singleton.mp q']
     exact ⟨⟨tc.b,tc.e,tc.ne,gm,tc.g.1,tc.g1,gp,zm0,zmc⟩,tc.g.2,zp0,zpc⟩
  rintro σ F0 ⟨v12,v13,v14,v17,zs,ts,t9,rfl,hT,iT,lT,cT,BF,h9a,h9b,hP,sF,tF⟩
  refine nB _ _ ?_
  have l24:(ys.take 24).length≤24∧1≤(ys.take 24).length:=by rw [List.length_take];trivial
  have lzs:zs.length=ts.length:=by rw [iT.length,List.length_map]
  have hplF:=sF.tup _ _ hplJ
  refine yE (fun σ H'=>gf fun (zs:List V) (ts:List aU) (t':Int)=>σ=[some (.ref b),some (.int mp),some (.int mt),some (.int wy),some (.bl great),some (.ref pl),some (.int mn),some (.ref sl),some (.ref W),some (.ref L),v10,v11,v12,v13,v14,v15,some (.ref TL),v17]∧H' TL=some (.lst zs)∧aI ED H' zs (ts.map lQ)∧1≤ts.length∧ts.length≤24∧(∀x∈ts,BN ls x)∧Bx H' b t'∧t9≤t'∧t'≤t9+1∧aJ (Eb b) J1 H') ?_ fun nx=>?_
  ·rintro σ' F1 ⟨zs,ts,t10,rfl,hT,iT,l1,l2',cT,BF,h10a,h10b,sF⟩
   refine ⟨(),(),TL,(),ar.of hT,fun q F2 n2'=>⟨(by show 2≤10000;decide),fun v F3 n3=>?_⟩⟩
   have s23:=n2'.sm.trans n3.sm
   refine k (.ref v) ls ts t10 F3 ((s01.trans sF).trans s23.toE) ?_ l2 l10 nd nc l1 l2' cT (BF.same s23) (by trivial) (by trivial)
   refine .tup n3.at' (.cons (.tup (s23 _ _ (sF.tup _ _ hplJ)) (zh ls)) (.cons (.tup (n3.sm _ _ n2'.at') (iT.mono s23.toE)) .nil))
  ·refine ⟨(),TL,(),.inl (ar.of hT),_,(),rfl,(),kU (fun c=>?_) (fun c=>?_)⟩
   ·have hlt:(zs.length:Int)<24:=of_decide_eq_true c
    refine ⟨(),b,4,t9,rfl,BF,by decide,by decide,by trivial,by trivial,fun r t10 F1 r0 r1 _ _ f1 BF1=>⟨rfl,(),kU (fun c'=>?_) (fun c'=>?_)⟩⟩
    ·have hT1:=f1.old TL _ nTb hT
     obtain ⟨y0,ey0⟩:∃y0,zs[0]?=some y0:=⟨_,List.getElem?_eq_getElem (by trivial)⟩
     obtain ⟨d0,ed0,g0⟩:=iT.get ey0
     rw [List.getElem?_map] at ed0
     obtain ⟨tt,et,rfl⟩:=Option.map_eq_some_iff.mp ed0
     refine ⟨(),.inl ⟨rfl,_,ar.of hT1⟩,(),TL,_,_,(),rfl,ar.of hT1,pH (j:=0) ey0,TL,_,(),rfl,hT1,by trivial,fun F2 c2=>nx _ _ ⟨_,ts++[tt],t10,rfl,c2.at',?_,by simp,by rw [List.length_append];simp;trivial,fun x hx=>?_,BF1.ch c2 (fun z=>nTb z.symm),by trivial,by trivial,(sF.trans f1).ch c2 fT⟩⟩
     ·rw [List.map_append]
      exact qA c2 hT1 (iT.tupS f1) (g0.tupS (F:=ED) f1)
     ·rcases List.mem_append.mp hx with q' | q'
      ·exact cT x q'
      ·rw [List.mem_singleton.mp q'];exact cT tt (List.mem_of_getElem? et)
    ·exact nx _ _ ⟨zs,ts,t10,rfl,f1.old TL _ nTb hT,iT.tupS f1,by trivial,by trivial,cT,BF1,by trivial,by trivial,sF.trans f1⟩
   ·exact ay (nx _ _ ⟨zs,ts,t9,rfl,hT,iT,by trivial,by trivial,cT,BF,by trivial,by trivial,sF⟩)
end
end K66
namespace K66
open PySem L2
section
variable {P:Program}{w:World}{K:PySem.W.Frag}{mg:Str→Option Value}{base:Heap}
inductive E4 (vs:List V) (H:Hp) (Q:VK):Prop
 | mk (n:Nat) (h0:vs=[.int n]) (h1:n<10 ^ 64) (h2:∀H',ae H H'→Q (.str (S (dg n))) H')
def GA:Sp:=fun vs H Q _=>E4  vs H Q
theorem uH (T:Txt K mg):aZ P w K mg base CX0 1 T.figures_of_.f T.figures_of_.d ["number"] GA:=by
 refine T.figures_of_.F.ok hZ (fun vs H Q E h=>?_) (fun cdv A outer s H vs Q E hr h=>?_)
 ·obtain ⟨n,rfl,_⟩:=h
  rfl
 ·obtain ⟨n,rfl,hn,k⟩:=h
  refine ⟨_,#[#[1,hZ.nd,f8,#[dz 4 (@bE _)]] :: #[#[qQ 6 PassesOwn.never #[aE 8 (@uV _) #[0,dN] #[ag 8 (@kD _) #[()] #[()]] #[(),()]] #[#[eG 6 #[(),(),(@wV _),oq,T.b_divmod,(@nS),#[[#[0,dN],#[ag 8 (@kD _) #[()] #[()]]]]] (@c6 _ (K) _ _ _ _ (2) rfl #[aD 5 #[0,hZ.nd,dN] #[aD 5 #[2,hZ.nd,oU] (@cA _) (by rfl)] (by rfl)] (by rfl) (by rfl) (by rfl)) (by rfl) (by rfl) (by rfl)] :: #[ac 3 #[CV 2]]]] :: #[#[jv 4 (@cu _ (K) _ _ _ _ _ _ _ _ _ _ _ PySem.F.plainAttrs_list PySem.F.slot_list_append PySem.F.type_list_append (@iA _) #[1,f8] #[[#[be 9 (@iS _) qB T.b_str (@bZ) #[[#[0,dN]]] (by decide) (by decide) (by rfl) (by rfl)]]] (by rfl) (by rfl) (by rfl) (by rfl) (by rfl) (by rfl)) (by rfl)] :: #[ac 3 #[aq 4 (@cu _ (K) _ _ _ _ _ _ _ _ _ _ _ PySem.F.plainAttrs_str PySem.F.slot_str_join PySem.F.type_str_join (@xP _ (K) (by rfl)) #[aN 4] #[[#[C6 8 #[1,f8] #[d9 3 #[uU 6 (@rZ _) #[()]]] (by rfl)]]] (by rfl) (by rfl) (by rfl) (by rfl) (by rfl) (by rfl))]]]]],?_⟩
  refine bF fun Q1 nA1=>⟨(by show 0≤10000;decide),fun p H1 n1=>nA1 _ _ ?_⟩
  refine fe fun D2 nA2=>?_
  refine ⟨fun m σ H'=>m=0∧σ=[some (.int n),some (.ref p),none]∧H'=H1,⟨(),rfl,rfl⟩,?_⟩
  rintro m σ H' ⟨rfl,rfl,rfl⟩
  refine ⟨(),_,(),rfl,⟨by decide,by decide,by decide⟩,_,(),rfl,(),?_⟩
  have e:decide ((10:Int) ^ (64:Int).toNat≤(n:Int))=false:=decide_eq_false (by
   have:((10:Int) ^ (64:Int).toNat)=((10 ^ 64:Nat):Int):=by nofun
   rw [this]
   trivial)
  rw [e]
  refine ay (nA2 _ _ ?_)
  have hl:(n:Int).natAbs.log2<1920:=by
   rw [Int.natAbs_natCast]
   by_cases z:n=0
   ·rw [z];decide
   ·exact (Nat.log2_lt z).mpr (Nat.lt_trans hn (by nofun))
  refine fe fun D3 nA3=>⟨(),.inl ⟨rfl,_,ar.of n1.at'⟩,(),(),hl,p,[],(),rfl,n1.at',(by show 0≤10000;decide),fun H2 c2=>nA3 _ _ ?_⟩
  refine mE fun Q4 nA4=>?_
  have h2:H2 p=some (.lst [.str (S (dg n))]):=by
   rw [←xl]
   exact c2.at'
  refine ⟨rfl,(),(),(),rfl,p,(),ar.of h2,fun q H3 n3=>?_⟩
  refine ⟨q,[dg n],rfl,rfl,ar.of n3.at',?_,?_⟩
  ·have:(dg n).length≤64:=(kB (by decide)).mpr hn
   show (dg n).length+0≤10000
   trivial
  ·refine nA4 _ _ ?_
   rw [show [dg n].flatten=dg n from List.append_nil _]
   refine k H3 (ae.trans (fun a o e=>?_) n3.sm)
   have:=n1.sm a o e
   exact c2.ol a _ (fun z=>by rw [z] at e;rw [n1.fr] at e;cases e) this
inductive Fe (vs:List V) (H:Hp) (Q:VK):Prop
 | mk (p:Addr) (n d:Int) (h0:vs=[.ref p]) (h1:H p=some (.tup [.int n,.int d])) (h2:n.natAbs<10 ^ 64) (h3:1≤d) (h4:d<10 ^ 64) (h5:∀H',ae H H'→Q (.str (S (cU n d))) H')
def BW:Sp:=fun vs H Q _=>Fe  vs H Q
theorem qy (T:Txt K mg):aZ P w K mg base CX0 2 T.fraction_text_.f T.fraction_text_.d ["one"] BW:=by
 have G_figures_of:=#[(uH)]
 refine T.fraction_text_.F.ok ig (fun vs H Q E h=>?_) (fun cdv A outer s H vs Q E hr h=>?_)
 ·obtain ⟨p,n,d,rfl,_⟩:=h
  rfl
 ·obtain ⟨p,n,d,rfl,hp,hn,hd0,hd1,k⟩:=h
  refine ⟨_,#[#[1,ig.nd,iY,#[bT 8 #[aE 8 (@pL _) #[#[0,dU][#[()]]] #[()] #[(),()]] #[aN 4] #[aN 4]]] :: #[#[2,ig.nd,fj,#[ag 8 (@iu _) #[1,iY] #[G_figures_of,fR,T.figures_of_,#[[#[(),(),(@jj _),ow,T.b_abs,(@gQ),#[[#[#[0,dU][#[()]]]]]]]]]]] :: #[ac 3 #[aq 4 #[bT 8 #[aE 8 (@bI _) #[#[0,dU][#[()]]] #[()] #[(),()]] #[2,fj] #[sr 6 #[jD 6 #[2,fj] #[kH 6 #[jD 6 #[G_figures_of,fR,T.figures_of_,#[[#[#[0,dU][#[()]]]]]] (@uZ _)]]]]]]]]],?_⟩
  have e0:gk [V.int n,V.int d] 0=some (.int n):=rfl
  have e1:gk [V.int n,V.int d] 1=some (.int d):=rfl
  refine bF fun Q1 nA1=>⟨(),p,_,0,(),rfl,au.of hp,e0,_,(),rfl,(),?_⟩
  have fin:∀sg:List Nat,cF n=sg++dg n.natAbs→sg.length≤1→Q1 (.str (S sg)) H:=fun sg es ls=>by
   refine nA1 _ _ ?_
   refine bF fun Q2 nA2=>⟨(),(),p,_,0,(),rfl,au.of hp,e0,(),n.natAbs,(by rw [List.append_nil];congr 2;split <;> trivial),hn,fun H2 s2=>⟨sg,dg n.natAbs,rfl,rfl,?_,nA2 _ _ ?_⟩⟩
   ·have:(dg n.natAbs).length≤64:=(kB (by decide)).mpr hn
    trivial
   have lw:(cF n).length≤65:=by
    have:(dg n.natAbs).length≤64:=(kB (by decide)).mpr hn
    rw [es,List.length_append]
    trivial
   rw [←es]
   have hp2:=s2 _ _ hp
   refine mE fun Q3 nA3=>⟨(),p,_,1,(),rfl,au.of hp2,e1,rfl,(),?_⟩
   by_cases h1:d=1
   ·subst h1
    refine aA ⟨(),nA3 _ _ ?_⟩
    exact k H2 s2
   ·rw [decide_eq_false (fun z=>h1 (by injection z))]
    have ld:(dg d.natAbs).length≤64:=(kB (by decide)).mpr (by trivial)
    have es2:∀a b:List Nat,S a++S b=S (a++b):=fun a b=>bM a b
    have el:(Str.ofString "/")=S [47]:=by nofun
    refine ay ⟨(),S (cF n),rfl,?_,?_,(),p,_,1,(),rfl,au.of hp2,e1,d.natAbs,?_,by trivial,fun H3 s3=>⟨(),?_,?_,nA3 _ _ ?_⟩⟩
    ·rw [show Str.empty=S [] from rfl,es2,bu,List.length_append]
     show 0+_≤10000
     trivial
    ·rw [show Str.empty=S [] from rfl,es2,el,es2,bu,List.length_append,List.length_append]
     show 0+_+1≤10000
     trivial
    ·rw [List.append_nil]
     congr 2
     trivial
    ·rw [show Str.empty=S [] from rfl,es2,el,es2,es2,bu,List.length_append,List.length_append,List.length_append]
     show 0+_+1+_≤10000
     trivial
    ·rw [show Str.empty=S [] from rfl,es2,el,es2,es2,bu,List.length_append,List.length_append,List.length_append]
     show 0+_+1+_≤10000
     trivial
    ·have:=k H3 (s2.trans s3)
     rw [show Str.empty=S [] from rfl,es2,el,es2,es2,show []++cF n++[47]++dg d.natAbs=cU n d by
      unfold cU
      rw [if_neg h1,List.nil_append,List.append_assoc]
      rfl]
     exact this
  by_cases h:n<0
  ·rw [decide_eq_true h]
   refine aA ?_
   have:=fin [45] (by unfold cF;rw [if_pos h];rfl) (by decide)
   exact this
  ·rw [decide_eq_false h]
   refine ay ?_
   have:=fin [] (by unfold cF;rw [if_neg h];rfl) (by decide)
   exact this
end
end K66
namespace K66
open PySem L2 PySem.NumText
section
variable {P:Program}{w:World}{K:PySem.W.Frag}{mg:Str→Option Value}{base:Heap}
theorem pz (a b:Nat):decide ([a] < [b])=decide (a<b):=by
 by_cases h:a<b
 ·rw [decide_eq_true h];exact decide_eq_true (List.Lex.rel h)
 ·rw [decide_eq_false h]
  apply decide_eq_false
  intro z
  cases z with
  | rel q=>exact h q
  | cons q=>cases q
theorem IC (c:Nat):(!decide ((S [c]).cps.toList<(Str.ofString "0").cps.toList))=decide (48≤c):=by
 have e:(Str.ofString "0").cps.toList=[48]:=by nofun
 rw [e]
 show (!decide ([c] < [48]))=_
 rw [pz]
 by_cases h:c<48
 ·rw [decide_eq_true h,decide_eq_false (by trivial)];rfl
 ·rw [decide_eq_false h,decide_eq_true (by trivial)];rfl
theorem IA (c:Nat):(!decide ((Str.ofString "9").cps.toList<(S [c]).cps.toList))=decide (c≤57):=by
 have e:(Str.ofString "9").cps.toList=[57]:=by nofun
 rw [e]
 show (!decide ([57] < [c]))=_
 rw [pz]
 by_cases h:57<c
 ·rw [decide_eq_true h,decide_eq_false (by trivial)];rfl
 ·rw [decide_eq_false h,decide_eq_true (by trivial)];rfl
inductive EQ (vs:List V) (H:Hp) (Q:VK):Prop
 | mk (cs:List Nat) (h0:vs=[.str (S cs),.int 40]) (h1:cs.length≤10000) (h2:∀H',ae H H'→Q (.bl (gw cs)) H')
def GZ:Sp:=fun vs H Q _=>EQ  vs H Q
theorem vD {cs:List Nat} (h:¬(1≤cs.length∧cs.length≤40)):gw cs=false:=by
 unfold gw
 by_cases h1:1≤cs.length
 ·rw [decide_eq_false (fun z=>h ⟨h1,z⟩),Bool.and_false,Bool.false_and,Bool.false_and]
 ·rw [decide_eq_false h1,Bool.false_and,Bool.false_and,Bool.false_and]
theorem CY {cs:List Nat} (h1:1≤cs.length) (h2:cs.length≤40):gw cs=(cs.all iU && (cs==[48] || !(cs.head?==some 48))):=by
 unfold gw
 rw [decide_eq_true h1,decide_eq_true h2]
 rfl
theorem mi (a b:List Nat):decide (V.str (S a)=V.str (S b))=(a==b):=by
 by_cases h:a=b
 ·rw [h,decide_eq_true rfl];simp
 ·rw [decide_eq_false (fun z=>h (nt (by injection z)))]
  simpa using h
theorem s0:(Str.ofString "0")=S [48]:=by nofun
theorem sW (T:Txt K mg):aZ P w K mg base CX0 1 T.are_figures_.f T.are_figures_.d ["text", "most"] GZ:=by
 refine T.are_figures_.F.ok tG (fun vs H Q E h=>?_) (fun cdv A outer s H vs Q E hr h=>?_)
 ·obtain ⟨cs,rfl,_⟩:=h
  rfl
 ·obtain ⟨cs,rfl,hz,k⟩:=h
  refine ⟨_,#[#[bt 8 #[PW.pt 3 #[dm 7 #[ci 4 #[wj 12 (@uR _) (@uR _) #[()] #[(),(),(@tW _),qd,T.b_len,(@aR),#[[#[0,eH]]]] #[1,o0] (by with_unfolding_all rfl)]] #[dj 4 #[ci 4 #[bn 3 #[(),(),(@q9 _ (K) rfl (by rfl)),pY,T.b_all,(@iK),#[[#[cg 7 (["sign"]) (1) ([]) _ _ _ _ rfl (by kernel_rfl) #[y7 4 #[0,eH]] (fun _ _ _ _ _ _=>#[0,(),()]) (fun _ _ _ _ _ _=>@bO _) (fun _ _ _ _ _ _=>#[wK 12 (@rA _) (@rA _) #[aN 4] #[0,()] #[aN 4] (by with_unfolding_all rfl)]) (by intro _;rfl)]]]] (by intro _;rfl)]]]]] #[ac 3 #[aq 4 #[dO 4]]] (@aQ _)] :: #[ac 3 #[aq 4 #[Gk 7 #[bY 8 (@bI _) #[0,eH] #[aN 4] #[(),()]] #[gl 5 #[bY 8 (@hV _) #[eL 7 (@oE _) #[0,eH] #[()] (fun _ _=>rfl)] #[aN 4] #[(),()]]]]]]],?_⟩
  have k0:=k H (ae.refl _)
  refine mW fun D1 nD1 rD1=>⟨(),S cs,rfl,by rw [bu];exact hz,_,(),rfl,(),?_⟩
  rw [bu]
  by_cases h1:1≤cs.length
  case neg=>
   rw [vD (fun z=>h1 z.1)] at k0
   rw [decide_eq_false (by trivial)]
   exact ay ⟨(),aA (rD1 _ _ k0)⟩
  rw [decide_eq_true (by trivial)]
  refine aA ⟨(),_,(),rfl,(),?_⟩
  by_cases h2:cs.length≤40
  case neg=>
   rw [vD (fun z=>h2 z.2)] at k0
   rw [decide_eq_false (by trivial)]
   exact aA (rD1 _ _ k0)
  rw [decide_eq_true (by trivial)]
  refine ay ?_
  refine ⟨(),S cs,rfl,fun D hD=>uh (l:=cs) (fun i=>.bl (iU ((cs[i]?).getD 0))) (by trivial) hD ?_ ?_⟩
  ·intro i c H' R hc sm kk
   rw [hc] at kk
   refine ⟨dW,(),_,(),rfl,(),?_⟩
   rw [IC]
   have k1:=kk H' (ae.refl _)
   simp only [Option.getD_some] at k1
   unfold iU at k1
   by_cases q1:48≤c
   ·rw [decide_eq_true q1,Bool.true_and] at k1
    rw [decide_eq_true q1]
    refine aA ⟨_,(),rfl,?_⟩
    rw [IA];exact k1
   ·rw [decide_eq_false q1,Bool.false_and] at k1
    rw [decide_eq_false q1]
    exact ay k1
  ·intro H1 s1 hD1
   rw [fQ (fun i=>V.bl (iU ((cs[i]?).getD 0))) (fun c=>V.bl (iU c)) cs (fun i x e=>by rw [e];rfl)] at hD1
   have e3:cs.map (fun c=>V.bl (iU c))=(cs.map iU).map V.bl:=by rw [List.map_map];rfl
   rw [e3] at hD1
   refine ⟨D,(),ar.of hD1,?_⟩
   have k1:=k H1 s1
   rw [CY h1 h2] at k1
   rw [show (cs.map iU).all id=cs.all iU by rw [List.all_map];rfl]
   cases ha:cs.all iU with
   | false=>
    rw [ha] at k1
    exact ⟨(),aA (rD1 _ _ k1)⟩
   | true=>
    rw [ha] at k1
    refine ⟨(),ay (nD1 _ _ ?_)⟩
    rw [Bool.true_and] at k1
    refine ⟨(),rfl,(),?_⟩
    rw [s0,mi]
    cases hb:(cs==[48]) with
    | true=>rw [hb] at k1;exact aA k1
    | false=>
     rw [hb] at k1
     obtain ⟨c,r,rfl⟩:aV fun c r=>cs=c :: r:=by
      cases cs with
      | nil=>exact absurd h1 (by decide)
      | cons c r=>exact ⟨c,r,rfl⟩
     refine ay ⟨(),_,0,c,rfl,rfl,?_,pH (j:=0) rfl,rfl,?_⟩
     ·exact eJ (by rw [bu];exact hz)
     ·have:decide (V.str ⟨#[c]⟩=V.str (S [48]))=(some c==some 48):=by
       rw [show (⟨#[c]⟩:Str)=S [c] from rfl,mi]
       by_cases q:c=48
       ·subst q;rfl
       ·simp [q]
      rw [this]
      exact k1
end
end K66
namespace K66
open PySem L2 PySem.NumText
section
variable {P:Program}{w:World}{K:PySem.W.Frag}{mg:Str→Option Value}{base:Heap}
inductive FD (vs:List V) (H:Hp) (Q:VK):Prop
 | mk (cs:List Nat) (h0:vs=[.str (S cs)]) (h1:cs.length≤10000) (h2:∀v H',ae H H'→zR H H' (b9 cs) v→Q v H')
def Hf:Sp:=fun vs H Q _=>FD  vs H Q
theorem oi (T:Txt K mg):aZ P w K mg base CX0 3 T.fraction_or_none_.f T.fraction_or_none_.d ["text"] Hf:=by
 have G_are_figures:=#[(sW)]
 have G_is_fraction:=#[(jw)]
 refine T.fraction_or_none_.F.ok bA (fun vs H Q E h=>?_) (fun cdv A outer s H vs Q E hr h=>?_)
 ·obtain ⟨cs,rfl,_⟩:=h
  rfl
 ·obtain ⟨cs,rfl,hz,k⟩:=h
  refine ⟨_,#[#[eG 6 (@cu _ (K) _ _ _ _ _ _ _ _ _ _ _ PySem.F.plainAttrs_str PySem.F.slot_str_partition PySem.F.type_str_partition (@Dg _) #[0,k4] #[[#[aN 4]]] (by rfl) (by rfl) (by rfl) (by rfl) (by rfl) (by rfl)) (@c6 _ (K) _ _ _ _ (3) rfl #[aD 5 #[1,bA.nd,cG] #[aD 5 #[2,bA.nd,gK] #[aD 5 #[3,bA.nd,ce] (@cA _) (by rfl)] (by rfl)] (by rfl)] (by rfl) (by rfl) (by rfl)) (by rfl) (by rfl) (by rfl)] :: #[#[4,bA.nd,cm,(@cu _ (K) _ _ _ _ _ _ _ _ _ _ _ PySem.F.plainAttrs_str PySem.F.slot_str_startswith PySem.F.type_str_startswith (@zt _) #[1,cG] #[[#[aN 4]]] (by rfl) (by rfl) (by rfl) (by rfl) (by rfl) (by rfl))] :: #[#[5,bA.nd,bH,#[bT 8 #[bn 3 #[4,cm] (by intro _;rfl)] #[fO 10 (@DN _) #[1,cG] #[d9 3 #[()]] (@iw _)] #[1,cG]]] :: #[#[bt 8 #[PW.pt 3 #[dm 7 #[ci 4 #[bn 3 #[G_are_figures,eh,T.are_figures_,#[[#[5,bH],#[()]]]] (by intro _;rfl)]] #[dj 4 #[PW.pt 3 #[rD 7 #[bn 3 #[4,cm] (by intro _;rfl)] #[sq 4 #[aE 8 (@bI _) #[5,bH] #[aN 4] #[(),()]]]]]]]] #[ac 3 #[aq 4 #[gE 3]]] (@aQ _)] :: #[#[6,bA.nd,fB,#[bT 8 #[bn 3 #[4,cm] (by intro _;rfl)] #[uU 6 (@rZ _) #[be 9 (@pq _) eU T.b_int (@dn) #[[#[5,bH]]] (by decide) (by decide) (by rfl) (by rfl)]] #[be 9 (@pq _) eU T.b_int (@dn) #[[#[5,bH]]] (by decide) (by decide) (by rfl) (by rfl)]]] :: #[#[bt 8 #[aE 8 (@bI _) #[2,gK] #[aN 4] #[(),()]] #[ac 3 #[aq 4 #[av 5 #[[#[6,fB],#[()]]]]]] (@aQ _)] :: #[#[bt 8 #[PW.pt 3 #[dm 7 #[ci 4 #[bn 3 #[G_are_figures,eh,T.are_figures_,#[[#[3,ce],#[()]]]] (by intro _;rfl)]] #[dj 4 #[aE 8 (@bI _) #[3,ce] #[aN 4] #[(),()]]]]] #[ac 3 #[aq 4 #[gE 3]]] (@aQ _)] :: #[#[7,bA.nd,eQ,#[av 5 #[[#[6,fB],#[be 9 (@pq _) eU T.b_int (@dn) #[[#[3,ce]]] (by decide) (by decide) (by rfl) (by rfl)]]]]] :: #[ac 3 #[aq 4 #[bT 8 #[bn 3 #[G_is_fraction,iD,T.is_fraction_,#[[#[7,eQ]]]] (by intro _;rfl)] #[7,eQ] #[gE 3]]]]]]]]]]]],?_⟩
  have el:(Str.ofString "/")=S [47]:=by nofun
  have em:(Str.ofString "-")=S [45]:=by nofun
  refine fe fun D1 nD1=>⟨(),rfl,S cs,(),rfl,by nofun,by rw [bu];exact hz,fun l H1 n1=>?_⟩
  rw [el] at n1
  obtain ⟨t,sl,b,ep,hc⟩:=Ee cs
  obtain ⟨lt,lb,_⟩:=id hc
  rw [ep] at n1
  refine ⟨l,(),au.of n1.at',rfl,_,(),_,(),_,(),rfl,nD1 _ _ ?_⟩
  have s1:=n1.sm
  refine bF fun Q2 nA2=>⟨(),rfl,S t,(),rfl,nA2 _ _ ?_⟩
  rw [em,AQ]
  clear nA2 Q2 nD1 D1
  have et:∀bl,(t.head?==some 45)=bl→eY t=AY bl (dE (if bl=true then t.drop 1 else t)):=fun bl h=>Fj t h
  revert et
  generalize (t.head?==some 45)=bl
  intro et
  have et:=et bl rfl
  refine bF fun Q3 nA3=>⟨(),(),?_⟩
  have fin:∀fg:List Nat,eY t=AY bl (dE fg)→fg.length≤10000→Q3 (.str (S fg)) H1:=fun fg etp lf=>by
   refine nA3 _ _ ?_
   clear nA3 Q3 et
   have e0:(Str.ofString "0")=S [48]:=s0
   refine mW fun D4 nD4 rD4=>⟨(),fg,rfl,lf,fun H2 s2=>⟨(),?_⟩⟩
   cases hf:gw fg with
   | false=>
    rw [xC hf] at etp
    refine aA (rD4 _ _ (k .non H2 (s1.trans s2) ?_))
    rw [hc.no (by rw [etp];cases bl <;> rfl)]
    rfl
   | true=>
   rw [xJ hf] at etp
   have fd:=lX hf
   have it:intText? (S fg)=some ((digitsVal fg:Nat):Int):=intText_digits fd.2.1 fd.2.2.1 (by rw [bu];have:=fd.2.2.2;trivial)
   have l640:(S fg).length≤640:=by rw [bu];have:=fd.2.2.2;trivial
   refine ay ?_
   refine DR bl (fg==[48]) (fun R' r=>⟨(),(),r⟩) (fun R' r=>⟨(),rfl,(),by rw [e0,mi];exact r⟩) ?_
   cases hb:(bl && (fg==[48])) with
   | true=>
    rw [Bool.and_eq_true] at hb
    have z0:=(tX hf).mp (eq_of_beq hb.2)
    rw [z0,hb.1] at etp
    refine aA (rD4 _ _ (k .non H2 (s1.trans s2) ?_))
    rw [hc.no etp]
    rfl
   | false=>
   refine ay (nD4 _ _ ?_)
   obtain ⟨nn,en,ev⟩:∃nn:Int,eY t=some nn∧nn=(if bl=true then -((digitsVal fg:Nat):Int) else ((digitsVal fg:Nat):Int)):=by
    cases bl with
    | false=>exact ⟨_,etp,rfl⟩
    | true=>
     rw [Bool.true_and] at hb
     cases ed:digitsVal fg with
     | zero=>rw [(tX hf).mpr ed] at hb;exact absurd hb (by decide)
     | succ m=>rw [ed] at etp;exact ⟨_,etp,rfl⟩
   clear nD4 rD4 D4 hb
   refine bF fun Q5 nA5=>⟨(),(),?_⟩
   suffices f5:Q5 (.int nn) H2 by
    cases bl with
    | true=>rw [if_pos rfl] at ev;rw [ev] at f5;exact aA ⟨_,rfl,S fg,_,rfl,it,l640,_,rfl,f5⟩
    | false=>rw [if_neg Bool.false_ne_true] at ev;rw [ev] at f5;exact ay ⟨_,rfl,S fg,_,rfl,it,l640,f5⟩
   refine nA5 _ _ ?_
   clear nA5 Q5 ev it l640 fd
   have s12:=s1.trans s2
   refine mW fun D6 nD6 rD6=>⟨(),rfl,(),?_⟩
   have ee:(Str.ofString "")=S []:=wf
   rw [ee]
   show if decide (V.str (S sl)=V.str (S []))=true then _ else _
   rw [mi]
   rcases hc.sl with rfl | rfl
   ·refine aA ⟨(),(by show 2≤10000;decide),fun q H3 n3=>rD6 _ _ (k _ H3 (s12.trans n3.sm) ?_)⟩
    rw [hc.bare en]
    exact ⟨q,rfl,s12.free n3.fr,n3.at'⟩
   refine ay (nD6 _ _ ?_)
   have eo:=hc.over en
   clear nD6 rD6 D6
   refine mW fun D7 nD7 rD7=>⟨(),b,rfl,by trivial,fun H3 s3=>⟨(),?_⟩⟩
   have s13:=s12.trans s3
   cases hg:gw b with
   | false=>
    rw [xC hg] at eo
    refine aA (rD7 _ _ (k .non H3 s13 ?_))
    rw [eo]
    rfl
   | true=>
   rw [xJ hg] at eo
   have fd:=lX hg
   have it:intText? (S b)=some ((digitsVal b:Nat):Int):=intText_digits fd.2.1 fd.2.2.1 (by rw [bu];have:=fd.2.2.2;trivial)
   have l640:(S b).length≤640:=by rw [bu];have:=fd.2.2.2;trivial
   refine ay ⟨(),rfl,(),?_⟩
   have e1:(Str.ofString "1")=S [49]:=by nofun
   rw [e1]
   show if decide (V.str (S b)=V.str (S [49]))=true then _ else _
   rw [mi]
   cases h9:(b==[49]) with
   | true=>
    have z1:=(vF hg).mp (eq_of_beq h9)
    refine aA (rD7 _ _ (k .non H3 s13 ?_))
    rw [eo]
    show zR _ _ (if 2≤digitsVal b∧_ then _ else _) _
    rw [if_neg (fun z=>by trivial)]
    rfl
   | false=>
   refine ay (nD7 _ _ ?_)
   have n1':digitsVal b≠1:=fun z=>by rw [(vF hg).mpr z] at h9;exact absurd h9 (by decide)
   refine bF fun Q8 nA8=>⟨(),(),S b,(),it,l640,(by show 2≤10000;decide),fun q H4 n4=>nA8 _ _ ?_⟩
   have s14:=s13.trans n4.sm
   refine mE fun Q9 nA9=>⟨(),_,.tuple [.int nn,.int (digitsVal b:Nat)],fun _=>True,rfl,.tup n4.at' (.cons (.int _) (.cons (.int _) .nil)),(),?_⟩
   show if (decide ((1:Int)≤((digitsVal b:Nat):Int)) && decide (Int.gcd nn ((digitsVal b:Nat):Int)=1))=true then _ else _
   have eg:Int.gcd nn ((digitsVal b:Nat):Int)=Nat.gcd nn.natAbs (digitsVal b):=rfl
   rw [eg]
   by_cases g1:2≤digitsVal b∧Nat.gcd nn.natAbs (digitsVal b)=1
   ·rw [decide_eq_true (by trivial),decide_eq_true g1.2]
    refine aA ⟨(),nA9 _ _ (k _ H4 s14 ?_)⟩
    rw [eo]
    show zR _ _ (if 2≤digitsVal b∧Nat.gcd nn.natAbs (digitsVal b)=1 then _ else _) _
    rw [if_pos g1]
    exact ⟨q,rfl,s13.free n4.fr,n4.at'⟩
   ·have:(decide ((1:Int)≤((digitsVal b:Nat):Int)) && decide (Nat.gcd nn.natAbs (digitsVal b)=1))=false:=by
     by_cases g0:digitsVal b=0
     ·rw [decide_eq_false (by trivial)];rfl
     ·rw [decide_eq_false (p:=Nat.gcd nn.natAbs (digitsVal b)=1) (fun z=>g1 ⟨by trivial,z⟩),Bool.and_false]
    rw [this]
    refine ay (nA9 _ _ (k _ H4 s14 ?_))
    rw [eo]
    show zR _ _ (if 2≤digitsVal b∧Nat.gcd nn.natAbs (digitsVal b)=1 then _ else _) _
    rw [if_neg g1]
    rfl
  cases bl with
  | true=>
   rw [if_pos rfl] at et
   refine aA ⟨(),(),t,rfl,by trivial,by decide,by decide,?_⟩
   have:=fin (t.drop 1) et (by rw [List.length_drop];trivial)
   rw [←Bj] at this
   exact this
  | false=>
   rw [if_neg Bool.false_ne_true] at et
   exact ay ⟨(),fin t et (by trivial)⟩
end
end K66
namespace K66
open PySem L2 PySem.NumText
section
variable {P:Program}{w:World}{K:PySem.W.Frag}{mg:Str→Option Value}{base:Heap}
theorem sS (n:Int):Str.ofString (toString n)=S (cF n):=by
 unfold cF
 by_cases h:n<0
 ·rw [if_pos h]
  obtain ⟨m,rfl⟩:∃m:Nat,n=-(m:Int):=⟨n.natAbs,by trivial⟩
  rw [Cj m (by trivial)]
  rw [show (-(m:Int)).natAbs=m by trivial]
 ·rw [if_neg h]
  obtain ⟨m,rfl⟩:∃m:Nat,n=(m:Int):=⟨n.natAbs,by trivial⟩
  rw [xl m,Int.natAbs_natCast]
theorem vK {n:Int} (h:n.natAbs<10 ^ 64):n.natAbs.log2<1920:=by
 by_cases z:n.natAbs=0
 ·rw [z];decide
 ·exact (Nat.log2_lt z).mpr (Nat.lt_trans h (by nofun))
theorem qw {n:Int} (h:n.natAbs<10 ^ 64):(cF n).length≤65:=by
 have:(dg n.natAbs).length≤64:=(kB (by decide)).mpr h
 unfold cF
 split
 ·rw [List.length_cons];trivial
 ·trivial
theorem yk (T:Txt K mg):aZ P w K mg base CX0 1 T.l_word_of_.f T.l_word_of_.d ["_law_one"] BW:=by
 refine T.l_word_of_.F.ok wu (fun vs H Q E h=>?_) (fun cdv A outer s H vs Q E hr h=>?_)
 ·obtain ⟨p,n,d,rfl,_⟩:=h
  rfl
 ·obtain ⟨p,n,d,rfl,hp,hn,hd0,hd1,k⟩:=h
  refine ⟨_,#[ac 3 #[aq 4 #[bT 8 #[aE 8 (@bI _) #[#[0,e8][#[()]]] #[()] #[(),()]] #[be 9 (@iS _) iW T.b_str (@bZ) #[[#[#[0,e8][#[()]]]]] (by decide) (by decide) (by rfl) (by rfl)] #[ag 8 (@iu _) #[ag 8 (@iu _) #[be 9 (@iS _) iW T.b_str (@bZ) #[[#[#[0,e8][#[()]]]]] (by decide) (by decide) (by rfl) (by rfl)] #[aN 4]] #[be 9 (@iS _) iW T.b_str (@bZ) #[[#[#[0,e8][#[()]]]]] (by decide) (by decide) (by rfl) (by rfl)]]]]],?_⟩
  have e0:gk [V.int n,V.int d] 0=some (.int n):=rfl
  have e1:gk [V.int n,V.int d] 1=some (.int d):=rfl
  have k0:=k H (ae.refl _)
  unfold cU at k0
  have el:(Str.ofString "/")=S [47]:=by nofun
  have ed:d.natAbs<10 ^ 64:=by trivial
  have edw:cF d=dg d.natAbs:=by unfold cF;rw [if_neg (by trivial)]
  refine ⟨(),p,_,1,(),rfl,au.of hp,e1,rfl,(),?_⟩
  rw [pP]
  by_cases h1:d=1
  ·rw [decide_eq_true h1]
   rw [if_pos h1,←sS] at k0
   exact aA ⟨(),p,_,0,(),rfl,au.of hp,e0,(),vK hn,k0⟩
  ·rw [decide_eq_false h1]
   rw [if_neg h1] at k0
   have l1:=qw hn
   have l2:=qw ed
   refine ay ⟨(),p,_,0,(),rfl,au.of hp,e0,(),vK hn,cF n,[47],?_,?_,?_,(),p,_,1,(),rfl,au.of hp,e1,(),vK ed,cF n++[47],cF d,rfl,?_,?_,?_⟩
   ·exact congrArg V.str (sS n)
   ·rw [←el]
   ·show _+1≤10000
    trivial
   ·exact congrArg V.str (sS d)
   ·rw [List.length_append]
    show _+1+_≤10000
    trivial
   ·rw [edw,List.append_assoc]
    exact k0
end
end K66
namespace K66
open PySem L2
section
variable {P:Program}{w:World}{K:PySem.W.Frag}{mg:Str→Option Value}{base:Heap}
theorem IP {H H1 H2:Hp}{y C dx:Addr}{fs:List (Str×V)} (fr:H y=none) (s:ae H H1) (hd:H1 dx=none) (ne:dx≠y) (e:H2=aL (aL H1 dx (.xd fs)) y (fE y C (some dx))):ae H H2∧IX H2 y C fs∧∀a o,H1 a=some o→a≠y→H2 a=some o:=by
 subst e
 have k:∀a o,H1 a=some o→a≠y→aL (aL H1 dx (.xd fs)) y (fE y C (some dx)) a=some o:=fun a o h1 ny=>by
  have nd:a≠dx:=fun z=>by rw [z,hd] at h1;cases h1
  rw [am ny,am nd]
  exact h1
 exact ⟨fun a o h=>k a o (s _ _ h) (fun z=>by rw [z,fr] at h;cases h),.inr ⟨dx,ai,by rw [am ne];exact ai⟩,k⟩
theorem IW {f:Str}{v:V}:([(f,v)]:List (Str×V)).lookup f=some v:=by simp [List.lookup]
inductive E2 (K:PySem.W.Frag) (f:Str) (vs:List V) (H:Hp) (Q:VK):Prop
 | mk (y C:Addr) (v:V) (ini:Option Value) (h0:vs=[.ref y,v]) (h1:H y=some (fE y C none)) (h2:bL K C ini=true) (h3:f7 K C f=true) (h4:∀dx H',H dx=none→dx≠y→H'=aL (aL H dx (.xd [(f,v)])) y (fE y C (some dx))→Q .non H')
def HA (K:PySem.W.Frag) (f:Str):Sp:=fun vs H Q _=>E2 K f vs H Q
theorem Ai (T:Txt K mg):aZ P w K mg base CX0 1 T.f_BadRow__init T.d_BadRow__init ["self", "row"] (HA K "row"):=by
 refine T.F_BadRow__init.ok rS (fun vs H Q E h=>?_) (fun cdv A outer s H vs Q E hr h=>?_)
 ·obtain ⟨y,C,v,ini,rfl,_⟩:=h
  rfl
 ·obtain ⟨y,C,v,ini,rfl,hy,hx,hs,k⟩:=h
  refine ⟨_,#[#[jv 4 #[AX 10 T.xb_GainError kr T.m_GainError #[[#[0,i9],#[aN 4]]] (by decide) (by rfl) (by rfl) (by rfl)] (by rfl)] :: #[ac 3 #[C1 8 #[0,i9] #[1,oA] rfl]]],?_⟩
  exact ⟨(),y,_,C,ini,rfl,hy,hx,(),(),y,C,rfl,hy,hs,fun dx H' h1 h2 h3=>k dx H' h1 h2 h3⟩
end
end K66
namespace K66
open PySem L2 PySem.NumText
section
variable {P:Program}{w:World}{K:PySem.W.Frag}{mg:Str→Option Value}{base:Heap}
inductive Eo (vs:List V) (H:Hp) (Q:VK):Prop
 | mk (cs:List Nat) (h0:vs=[.str (S cs)]) (h1:cs.length≤10000) (h2:∀H',ae H H'→Q (.bl (nF cs)) H')
def F9:Sp:=fun vs H Q _=>Eo  vs H Q
theorem qZ (T:Txt K mg):aZ P w K mg base CX0 1 T.is_name_.f T.is_name_.d ["thing"] F9:=by
 refine T.is_name_.F.ok yc (fun vs H Q E h=>?_) (fun cdv A outer s H vs Q E hr h=>?_)
 ·obtain ⟨cs,rfl,_⟩:=h
  rfl
 ·obtain ⟨l,rfl,hz,k⟩:=h
  refine ⟨_,#[#[bt 8 #[PW.pt 3 #[dm 7 #[ci 4 #[bn 3 #[(),(),(@bN _ (K) (by rfl)),mS,T.b_isinstance,(@aj),#[[#[0,iz],#[cr 4 uJ T.b_str (@bZ) (by decide) (by decide)]]]] (by intro _;rfl)]] #[dj 4 #[ci 4 #[wj 12 (@uR _) (@uR _) #[()] #[(),(),(@tW _),uB,T.b_len,(@aR),#[[#[0,iz]]]] #[()] (by with_unfolding_all rfl)]]]]] #[ac 3 #[aq 4 #[dO 4]]] (@aQ _)] :: #[ac 3 #[aq 4 #[(),(),(@q9 _ (K) rfl (by rfl)),uK,T.b_all,(@iK),#[[#[cg 7 (["sign"]) (1) ([]) _ _ _ _ rfl (by kernel_rfl) #[y7 4 #[0,iz]] (fun _ _ _ _ _ _=>#[0,(),()]) (fun _ _ _ _ _ _=>@bO _) (fun _ _ _ _ _ _=>#[wK 12 (@rA _) (@rA _) #[aN 4] #[0,()] #[aN 4] (by with_unfolding_all rfl)]) (by intro _;rfl)]]]]]]],?_⟩
  have k0:=k H (ae.refl _)
  refine ⟨(),_,_,_,(),fX.str _,gL (.str (S l)),(),?_⟩
  have es:(S l).length=l.length:=bu l
  refine ay ⟨(),S l,rfl,by rw [es];exact hz,_,(),rfl,(),?_⟩
  rw [es]
  by_cases h1:1≤l.length
  ·rw [decide_eq_true (by trivial)]
   refine aA ⟨_,(),rfl,(),?_⟩
   by_cases h2:l.length≤8
   ·rw [decide_eq_true (by trivial)]
    refine ay ?_
    refine ⟨(),S l,rfl,fun D hD=>uh (l:=l) (fun i=>.bl (oF ((l[i]?).getD 0))) (by trivial) hD ?_ ?_⟩
    ·intro i c H' R hc sm kk
     rw [hc] at kk
     refine ⟨dW,(),_,(),rfl,(),?_⟩
     rw [Im]
     have k1:=kk H' (ae.refl _)
     simp only [Option.getD_some] at k1
     unfold oF at k1
     by_cases q1:97≤c
     ·rw [decide_eq_true q1,Bool.true_and] at k1
      rw [decide_eq_true q1]
      refine aA ⟨_,(),rfl,?_⟩
      rw [HS];exact k1
     ·rw [decide_eq_false q1,Bool.false_and] at k1
      rw [decide_eq_false q1]
      exact ay k1
    ·intro H1 s1 hD1
     rw [fQ (fun i=>V.bl (oF ((l[i]?).getD 0))) (fun c=>V.bl (oF c)) l (fun i x e=>by rw [e];rfl)] at hD1
     have e3:l.map (fun c=>V.bl (oF c))=(l.map oF).map V.bl:=by rw [List.map_map];rfl
     rw [e3] at hD1
     refine ⟨D,(),ar.of hD1,?_⟩
     have k1:=k H1 s1
     rw [xa h1 h2] at k1
     have e4:(l.map oF).all id=l.all oF:=by rw [List.all_map];rfl
     rw [e4];exact k1
   ·rw [decide_eq_false (by trivial)]
    rw [xt (fun z=>h2 z.2)] at k0
    exact aA k0
  ·rw [decide_eq_false (by trivial)]
   rw [xt (fun z=>h1 z.1)] at k0
   exact ay ⟨(),aA k0⟩
def qL:List (List Nat)→Bool
 | [t,a]=>t==b6 && nF a
 | _=>false
theorem AJ (t a:List Nat):qL [t,a]=(t==b6 && nF a):=rfl
theorem wI {ws:List (List Nat)} (h:ws.length≠2):qL ws=false:=by
 unfold qL
 split
 ·exact absurd rfl h
 ·rfl
theorem rg {α:Type}{l:List α} (h:l.length=2):aV fun a b=>l=[a,b]:=by
 match l,h with
 | [a,b],_=>exact ⟨a,b,rfl⟩
theorem sB (a b:List Nat):decide (V.str (S a)=V.str (S b))=(a==b):=by
 by_cases h:a=b
 ·subst h;simp
 ·have:¬V.str (S a)=V.str (S b):=fun z=>h (by injection z with z;exact nt z)
  rw [decide_eq_false this]
  simp [h]
theorem AC (l:List Nat) (es:List (List Nat)):BO (ao l) (es.map ao)=es.contains l:=by
 unfold BO
 induction es with
 | nil=>rfl
 | cons e r ih=>
  rw [List.map_cons,List.any_cons,ih,List.contains_cons]
  have:rY (ao e) (ao l)=(l==e):=by
   show (S e==S l)=(l==e)
   by_cases h:e=l
   ·subst h;simp
   ·rw [beq_eq_false_iff_ne.mpr (fun z=>h z.symm),beq_eq_false_iff_ne.mpr]
    exact fun z=>h (nt z)
  rw [this]
theorem vT (es:List (List Nat)):(es.map ao).all kc=true:=by
 rw [List.all_eq_true]
 intro v hv
 obtain ⟨l,_,rfl⟩:=List.mem_map.mp hv
 rfl
theorem CH:(Str.ofString "place")=S b6:=by nofun
theorem BH:(Str.ofString "tie")=S d7:=by nofun
inductive FO (vs:List V) (H:Hp) (Q:VK):Prop
 | mk (a:Addr) (ws:List (List Nat)) (h0:vs=[.ref a]) (h1:H a=some (.lst (ws.map ao))) (h2:(∀w∈ws,w.length≤9000)) (h3:∀H',ae H H'→Q (.bl (qL ws)) H')
def Hi:Sp:=fun vs H Q _=>FO  vs H Q
theorem rf (T:Txt K mg):aZ P w K mg base CX0 2 T.is_place_row_.f T.is_place_row_.d ["words"] Hi:=by
 have G_is_name:=#[(qZ)]
 refine T.is_place_row_.F.ok rJ (fun vs H Q E h=>?_) (fun cdv A outer s H vs Q E hr h=>?_)
 ·obtain ⟨a,ws,rfl,_⟩:=h
  rfl
 ·obtain ⟨a,ws,rfl,ha,hw,k⟩:=h
  refine ⟨_,#[ac 3 #[aq 4 #[fk 7 #[bY 8 (@bI _) #[(),(),(@dQ _ (K) (by rfl)),oP,T.b_len,(@aR),#[[#[0,fF]]]] #[()] #[(),()]] #[fk 7 #[bY 8 (@bI _) #[#[0,fF][#[()]]!] #[aN 4] #[(),()]] #[gl 5 #[G_is_name,lM,T.is_name_,#[[#[#[0,fF][#[()]]!]]]]]]]]],?_⟩
  have el:(ws.map ao).length=ws.length:=List.length_map ..
  refine ⟨(),a,(),.inl (ar.of ha),rfl,(),?_⟩
  have k0:=k H (ae.refl _)
  rw [el]
  by_cases h2:ws.length=2
  ·rw [decide_eq_true (by rw [h2];rfl)]
   obtain ⟨x,y,rfl⟩:=rg h2
   refine aA ⟨(),a,_,_,(),rfl,ar.of ha,rfl,rfl,(),?_⟩
   rw [CH,sB]
   rw [AJ] at k0 k
   cases hx:x==b6 with
   | false=>rw [hx] at k0;exact ay k0
   | true=>
    rw [hx] at k
    exact aA ⟨(),a,_,_,(),rfl,ar.of ha,rfl,y,rfl,Nat.le_trans (hw y (by simp)) (by decide),fun H1 s1=>k H1 s1⟩
  ·rw [decide_eq_false (fun z=>h2 (by injection z with z;trivial))]
   rw [wI h2] at k0
   exact ay k0
inductive Fr (vs:List V) (H:Hp) (Q:VK):Prop
 | mk (a:Addr) (ws:List (List Nat)) (h0:vs=[.ref a]) (h1:H a=some (.lst (ws.map ao))) (h2:(∀w∈ws,w.length≤9000)) (h3:∀v H',ae H H'→bh ED H' v (pB ws)→Q v H')
def F7:Sp:=fun vs H Q _=>Fr  vs H Q
theorem Gr {H H':Hp}{o:Option (Int×Int)}{v:V} (h:zR H H' o v):bh ED H' v (kL o):=by
 cases o with
 | none=>have:v=.non:=h;subst this;exact .non
 | some p=>obtain ⟨a,rfl,_,e⟩:=h;exact rR e
theorem wR (T:Txt K mg):aZ P w K mg base CX0 4 T.tie_from_.f T.tie_from_.d ["words"] F7:=by
 have G_fraction_or_none:=#[(oi)]
 refine T.tie_from_.F.ok wS (fun vs H Q E h=>?_) (fun cdv A outer s H vs Q E hr h=>?_)
 ·obtain ⟨a,ws,rfl,_⟩:=h
  rfl
 ·obtain ⟨a,ws,rfl,ha,hw,k⟩:=h
  refine ⟨_,#[#[bt 8 #[PW.pt 3 #[dm 7 #[aE 8 (@hV _) #[(),(),(@dQ _ (K) (by rfl)),sX,T.b_len,(@aR),#[[#[0,dM]]]] #[()] #[(),()]] #[dj 4 #[aE 8 (@hV _) #[#[0,dM][#[()]]!] #[aN 4] #[(),()]]]]] #[ac 3 #[aq 4 #[gE 3]]] (@aQ _)] :: #[ac 3 #[aq 4 #[ag 8 (@wq _) #[av 5 #[[#[#[0,dM][#[()]]!],#[#[0,dM][#[()]]!]]]] #[be 9 (@cB _ (K) (by rfl)) qK T.b_tuple (@ba) #[[#[cg 7 (["word"]) (1) ([]) _ _ _ _ rfl (by kernel_rfl) (@tY _ (K) _ _ _ #[fO 10 (@mJ _ (K) (by rfl)) #[0,dM] #[d9 3 #[()]] (@iw _)] (by rfl)) (fun _ _ _ _ _ _=>#[0,(),()]) (fun _ _ _ _ _ _=>@bO _) (fun _ _ _ _ _ _=>#[G_fraction_or_none,(),T.fraction_or_none_,#[[#[0,()]]]]) (by intro _;rfl)]]] (by decide) (by decide) (by rfl) (by rfl)]]]]],?_⟩
  have el:(ws.map ao).length=ws.length:=List.length_map ..
  have k0:=k .non H (ae.refl _)
  refine mW fun D1 nD1 rD1=>⟨(),a,(),.inl (ar.of ha),rfl,(),?_⟩
  rw [el]
  by_cases h6:ws.length=6
  ·rw [decide_eq_true (show V.int (ws.length:Int)=V.int 6 by rw [h6];rfl)]
   obtain ⟨t,x,y,z1,z2,z3,rfl⟩:=El h6
   refine ay ⟨(),a,_,_,(),rfl,ar.of ha,rfl,rfl,(),?_⟩
   rw [BH,sB]
   by_cases ht:t=d7
   ·rw [show (t==d7)=true by rw [ht];rfl]
    refine ay (nD1 _ _ ?_)
    refine ⟨(),a,_,_,(),rfl,ar.of ha,rfl,(),a,_,_,(),rfl,ar.of ha,rfl,(by show 2≤10000;decide),fun q H1 n1=>?_⟩
    have ha1:=n1.sm _ _ ha
    refine ⟨(),(),a,(),ar.of ha1,fun l H2 n2=>⟨l,rfl,⟨_,ar.of n2.at'⟩,fun D hD=>?_⟩⟩
    have hl:H2 l=some (.lst [ao z1,ao z2,ao z3]):=n2.at'
    refine yB (xs:=[ao z1,ao z2,ao z3]) (fun i=>(([z1,z2,z3][i]?).map fun c=>kL (b9 c)).getD .none) (by show 3≤10000;decide) hD hl ?_ ?_
    ·intro i x H3 R ex s3 kk
     have ex':([z1,z2,z3].map ao)[i]?=some x:=ex
     rw [List.getElem?_map] at ex'
     cases ec:[z1,z2,z3][i]? with
     | none=>rw [ec] at ex';cases ex'
     | some c=>
      rw [ec] at ex' kk
      cases ex'
      have mc:c∈[z1,z2,z3]:=List.mem_of_getElem? ec
      exact ⟨dW,(),c,rfl,Nat.le_trans (hw c (by simp at mc ⊢;grind)) (by decide),fun v H4 s4 fv=>kk v H4 s4 (Gr fv)⟩
    ·intro zs H3 s3 hD3 ia
     refine ⟨D,zs,rfl,ar.of hD3,fun r H4 n4=>?_⟩
     have s24:=(n2.sm.trans s3).trans n4.sm
     have lz:zs.length=3:=by rw [ia.length];rfl
     refine ⟨q,r,_,zs,rfl,rfl,s24 _ _ n1.at',n4.at',(by rw [lz];show 2+3≤10000;decide),fun u H5 s5 hu=>k _ H5 ((n1.sm.trans s24).trans s5) ?_⟩
     rw [pG,if_pos ht]
     have ia5:=ia.mono (n4.sm.trans s5).toE
     have e3:(List.range [ao z1,ao z2,ao z3].length).map (fun i=>(([z1,z2,z3][i]?).map fun c=>kL (b9 c)).getD .none)=[kL (b9 z1),kL (b9 z2),kL (b9 z3)]:=rfl
     rw [e3] at ia5
     exact .tup hu (.cons (.str _) (.cons (.str _) ia5))
   ·rw [show (t==d7)=false by simpa using ht]
    refine aA (rD1 _ _ (k0 ?_))
    rw [pG,if_neg ht]
    exact .non
  ·rw [decide_eq_false (show ¬V.int (ws.length:Int)=V.int 6 from fun z=>h6 (by injection z with z;trivial))]
   refine aA (rD1 _ _ (k0 ?_))
   rw [xp h6]
   exact .non
inductive FR (f:Option (Int×Int)→Bool) (vs:List V) (H:Hp) (Q:VK):Prop
 | mk (x:V) (cs:List Nat) (h0:vs=[x]) (h1:bh ED H x (kL (b9 cs))) (h2:Q (.bl (f (b9 cs))) H)
def BX (f:Option (Int×Int)→Bool):Sp:=fun vs H Q _=>FR f vs H Q
theorem xc {p:Int×Int} (h1:1≤p.2) (h2:Int.gcd p.1 p.2=1):oV (rH p)=true:=by
 show (decide (1≤p.2) && decide (Int.gcd p.1 p.2=1))=true
 rw [decide_eq_true h1,decide_eq_true h2];rfl
theorem pZ (T:Txt K mg):aZ P w K mg base CX0 3 T.is_from_nought_.f T.is_from_nought_.d ["thing"] (BX rO):=by
 have G_is_fraction:=#[(jw)]
 refine T.is_from_nought_.F.ok qc (fun vs H Q E h=>?_) (fun cdv A outer s H vs Q E hr h=>?_)
 ·obtain ⟨x,cs,rfl,_⟩:=h
  rfl
 ·obtain ⟨x,cs,rfl,hx,k⟩:=h
  refine ⟨_,#[ac 3 #[aq 4 #[fk 7 #[G_is_fraction,jt,T.is_fraction_,#[[#[0,gZ]]]] #[gl 5 #[bY 8 (@uV _) #[#[0,gZ][#[()]]] #[()] #[(),()]]]]]],?_⟩
  refine ⟨(),x,_,ED,rfl,hx,(),?_⟩
  cases e:b9 cs with
  | none=>rw [e] at k;exact ay k
  | some p=>
   rw [e] at k hx
   obtain ⟨o,rfl,ho⟩:=ki hx
   rw [show oV (kL (some p))=true from xc (rQ e).1 (rQ e).2]
   exact aA ⟨(),o,_,_,(),rfl,au.of ho,rfl,_,(),rfl,k⟩
theorem o6 (T:Txt K mg):aZ P w K mg base CX0 3 T.is_above_nought_.f T.is_above_nought_.d ["thing"] (BX xX):=by
 have G_is_fraction:=#[(jw)]
 refine T.is_above_nought_.F.ok oK (fun vs H Q E h=>?_) (fun cdv A outer s H vs Q E hr h=>?_)
 ·obtain ⟨x,cs,rfl,_⟩:=h
  rfl
 ·obtain ⟨x,cs,rfl,hx,k⟩:=h
  refine ⟨_,#[ac 3 #[aq 4 #[fk 7 #[G_is_fraction,i0,T.is_fraction_,#[[#[0,gT]]]] #[gl 5 #[bY 8 (@rB _) #[#[0,gT][#[()]]] #[()] #[(),()]]]]]],?_⟩
  refine ⟨(),x,_,ED,rfl,hx,(),?_⟩
  cases e:b9 cs with
  | none=>rw [e] at k;exact ay k
  | some p=>
   rw [e] at k hx
   obtain ⟨o,rfl,ho⟩:=ki hx
   rw [show oV (kL (some p))=true from xc (rQ e).1 (rQ e).2]
   exact aA ⟨(),o,_,_,(),rfl,au.of ho,rfl,_,(),rfl,k⟩
inductive DL (vs:List V) (H:Hp) (Q:VK):Prop
 | mk (p:Addr) (v:V) (ls ws:List (List Nat)) (h0:vs=[.ref p,v]) (h1:H p=some (.tup (ls.map ao))) (h2:bh ED H v (pB ws)) (h3:∀H',ae H H'→Q (.bl (mD ls ws).isSome) H')
def FV:Sp:=fun vs H Q _=>DL  vs H Q
theorem ET {ws:List (List Nat)} (h:¬xw fun a b x y z=>ws=[d7,a,b,x,y,z]):pB ws=.none∧∀ls,mD ls ws=none:=by
 by_cases h6:ws.length=6
 ·obtain ⟨t,a,b,x,y,z,rfl⟩:=El h6
  have ht:¬t=d7:=fun e=>h ⟨a,b,x,y,z,by rw [e]⟩
  exact ⟨by rw [pG,if_neg ht],fun ls=>by rw [uX,if_neg ht]⟩
 ·exact ⟨xp h6,fun ls=>xQ h6⟩
theorem tN (T:Txt K mg):aZ P w K mg base CX0 4 T.is_tie_.f T.is_tie_.d ["places", "thing"] FV:=by
 have G_is_from_nought:=#[(pZ)]
 have G_is_above_nought:=#[(o6)]
 refine T.is_tie_.F.ok ip (fun vs H Q E h=>?_) (fun cdv A outer s H vs Q E hr h=>?_)
 ·obtain ⟨p,v,ls,ws,rfl,_⟩:=h
  rfl
 ·obtain ⟨p,v,ls,ws,rfl,hp,hv,k⟩:=h
  refine ⟨_,#[#[bt 8 #[PW.pt 3 #[dm 7 #[ci 4 #[bn 3 #[(),(),(@bN _ (K) (by rfl)),nZ,T.b_isinstance,(@aj),#[[#[1,ju],#[cr 4 sD T.b_tuple (@ba) (by decide) (by decide)]]]] (by intro _;rfl)]] #[dj 4 #[aE 8 (@hV _) #[(),(),(@dQ _ (K) (by rfl)),vX,T.b_len,(@aR),#[[#[1,ju]]]] #[()] #[(),()]]]]] #[ac 3 #[aq 4 #[dO 4]]] (@aQ _)] :: #[#[eG 6 #[1,ju] (@c6 _ (K) _ _ _ _ (5) rfl #[aD 5 #[2,ip.nd,jg] #[aD 5 #[3,ip.nd,kW] #[aD 5 #[4,ip.nd,nO] #[aD 5 #[5,ip.nd,nR] #[aD 5 #[6,ip.nd,l6] (@cA _) (by rfl)] (by rfl)] (by rfl)] (by rfl)] (by rfl)] (by rfl) (by rfl) (by rfl)) (by rfl) (by rfl) (by rfl)] :: #[#[bt 8 #[PW.pt 3 #[dm 7 #[aE 8 (@sY _ (K) (by rfl)) #[2,jg] #[0,li] rfl] #[dm 7 #[aE 8 (@sY _ (K) (by rfl)) #[3,kW] #[0,li] rfl] #[dj 4 #[aE 8 (@bI _) #[2,jg] #[3,kW] #[(),()]]]]]] #[ac 3 #[aq 4 #[dO 4]]] (@aQ _)] :: #[ac 3 #[aq 4 #[fk 7 #[G_is_from_nought,gS,T.is_from_nought_,#[[#[4,nO]]]] #[fk 7 #[G_is_above_nought,kS,T.is_above_nought_,#[[#[5,nR]]]] #[gl 5 #[G_is_from_nought,gS,T.is_from_nought_,#[[#[6,l6]]]]]]]]]]]],?_⟩
  have k0:=k H (ae.refl _)
  refine mW fun D1 nD1 rD1=>?_
  by_cases hw:xw fun a b x y z=>ws=[d7,a,b,x,y,z]
  ·obtain ⟨a,b,x,y,z,rfl⟩:=hw
   rw [pG,if_pos rfl] at hv
   cases hv with
   | @tup q xs _ hq r=>
   cases r with | cons h1 r=>
   cases r with | cons h2 r=>
   cases r with | cons h3 r=>
   cases r with | cons h4 r=>
   cases r with | cons h5 r=>
   cases r
   cases h1
   cases h2
   refine ⟨(),_,_,_,(),(bh.tup (E:=ED) hq (.cons (.str _) (.cons (.str _) (.cons h3 (.cons h4 (.cons h5 .nil)))))).ty,cR _,(),ay ?_⟩
   refine ⟨(),q,(),.inr (au.of hq),rfl,(),ay (nD1 _ _ ?_)⟩
   rw [uX,if_pos rfl] at k0
   clear k
   refine fe fun D2 nD2=>⟨(),q,(),au.of hq,rfl,_,(),_,(),_,(),_,(),_,(),rfl,nD2 _ _ ?_⟩
   refine mW fun D3 nD3 rD3=>⟨(),(),p,(),.inr (au.of hp),rfl,vT ls,(),?_⟩
   rw [AC]
   unfold mY at k0
   cases ea:ls.contains a with
   | false=>rw [ea] at k0;exact aA (rD3 _ _ k0)
   | true=>
   rw [ea] at k0
   refine ay ⟨(),(),p,(),.inr (au.of hp),rfl,vT ls,(),?_⟩
   rw [AC]
   cases eb:ls.contains b with
   | false=>rw [eb] at k0;exact aA (rD3 _ _ k0)
   | true=>
   rw [eb] at k0
   refine ay ⟨(),(),rfl,(),?_⟩
   rw [sB]
   cases ab:a==b with
   | true=>rw [ab] at k0;exact aA (rD3 _ _ k0)
   | false=>
   rw [ab,if_pos (show (true && true && !false)=true from rfl),AR] at k0
   refine ay (nD3 _ _ ?_)
   refine ⟨(),_,x,rfl,h3,(),?_⟩
   cases e3:rO (b9 x) with
   | false=>rw [e3] at k0;exact ay k0
   | true=>
   rw [e3] at k0
   refine aA ⟨(),_,y,rfl,h4,(),?_⟩
   cases e4:xX (b9 y) with
   | false=>rw [e4] at k0;exact ay k0
   | true=>
   rw [e4] at k0
   exact aA ⟨(),_,z,rfl,h5,k0⟩
  ·obtain ⟨e1,e2⟩:=ET hw
   rw [e1] at hv
   rw [e2] at k0
   cases hv
   exact ⟨(),_,_,_,(),(bh.non (E:=ED) (H:=H)).ty,cR _,(),aA (aA (rD1 _ _ k0))⟩
end
end K66
namespace K66
open PySem L2 PySem.NumText
set_option maxHeartbeats 4000000
section
variable {P:Program}{w:World}{K:PySem.W.Frag}{mg:Str→Option Value}{base:Heap}
theorem AS:(Str.ofString "\n")=S [10]:=by nofun
theorem Bt:(Str.ofString " ")=S [32]:=by nofun
theorem ic {E:Addr→Prop}{H:Hp}:∀ls:List (List Nat),aI E H (ls.map ao) (ls.map fun l=>PyData.str (S l))
 | []=>.nil
 | l :: r=>.cons (.str _) (ic r)
theorem Bp {ls:List (List Nat)}{ts:List aU}{i:Nat}{rows:List (List Nat)}{r:List Nat} (h:rows[i]?=some r):cq ls ts i (rows.drop i)=match mZ ls ts (bD 32 r) with
 | .no=>.bad i
 | .pl w=>cq (ls++[w]) ts (i+1) (rows.drop (i+1))
 | .ti t=>cq ls (ts++[t]) (i+1) (rows.drop (i+1)):=by
 obtain ⟨h1,h2⟩:=List.getElem?_eq_some_iff.mp h
 rw [List.drop_eq_getElem_cons h1,h2]
 rfl
theorem Do {t1 t2 t3:TT}{σ:St}{H:Hp}{R:Bool→Hp→Prop} (x y z:Bool) (h1:∀R':Bool→Hp→Prop,(∀H',ae H H'→R' x H')→t1 σ H R') (h2:x=true→∀H',ae H H'→∀R':Bool→Hp→Prop,R' y H'→t2 σ H' R') (h3:x=true→y=true→∀H',ae H H'→∀R':Bool→Hp→Prop,R' z H'→t3 σ H' R') (r:∀H',ae H H'→R (x && y && z) H'):yz t1 (yz t2 t3) σ H R:=by
 refine h1 _ fun H' s=>?_
 have r':=r H' s
 cases x with
 | false=>exact ay r'
 | true=>
  refine aA (h2 rfl H' s _ ?_)
  cases y with
  | false=>exact ay r'
  | true=>exact aA (h3 rfl rfl H' s _ r')
theorem EO {ws:List (List Nat)} (h:qL ws=true):∃u,ws=[b6,u]∧nF u=true:=by
 by_cases h2:ws.length=2
 ·obtain ⟨a,b,rfl⟩:=rg h2
  rw [AJ,Bool.and_eq_true] at h
  exact ⟨b,by rw [eq_of_beq h.1],h.2⟩
 ·rw [wI h2] at h;cases h
theorem Dq {ls:List (List Nat)}{ts:List aU}{ws:List (List Nat)}{u:List Nat} (h:u8 ls ts ws=some u):ws=[b6,u]∧ts=[]:=by
 by_cases h2:ws.length=2
 ·obtain ⟨a,b,rfl⟩:=rg h2
  rw [Bs] at h
  split at h
  ·next c=>cases h;exact ⟨by rw [c.1],c.2.2.2⟩
  ·cases h
 ·rw [wC h2] at h;cases h
theorem GT (ls:List (List Nat)) (ts:List aU) (ws:List (List Nat)):(u8 ls ts ws).isSome=(qL ws && !ls.contains ((ws[1]?).getD []) && ts.isEmpty):=by
 by_cases h2:ws.length=2
 ·obtain ⟨a,b,rfl⟩:=rg h2
  rw [Bs,AJ]
  show _=(a==b6 && nF b && !ls.contains b && ts.isEmpty)
  by_cases c:a=b6∧nF b=true∧ls.contains b=false∧ts=[]
  ·rw [if_pos c,c.2.1,c.2.2.1,c.2.2.2,c.1]
   simp
  ·rw [if_neg c]
   cases e1:(a==b6 && nF b && !ls.contains b && ts.isEmpty) with
   | false=>rfl
   | true=>
    exfalso
    simp at e1
    exact c ⟨e1.1.1.1,e1.1.1.2,by simpa using e1.1.2,e1.2⟩
 ·rw [wC h2,wI h2];rfl
inductive CW (c:Addr) (vs:List V) (H:Hp) (Q:VK) (E:XK):Prop
 | mk (cs:List Nat) (h0:vs=[.str (S cs)]) (h1:cs.length≤1000000) (h2:(bD 10 cs).length≤1000) (h3:(∀r∈bD 10 cs,r.length≤9000)) (h4:(∀ls ts v H',cq [] [] 0 (bD 10 cs)=.net ls ts→ae H H'→bh ED H' v (fC ls ts)→Q v H')) (h5:(∀(i:Nat) (a dx:Addr) (H':Hp),cq [] [] 0 (bD 10 cs)=.bad i→ae H H'→H' a=some (jW a c (some dx))→H' dx=some (.xd [("row",.int (i:Int))])→E (.ref c) (some dx) H'))
def Er (c:Addr):Sp:=fun vs H Q E=>CW c vs H Q E
theorem wP (T:Txt K mg):aZ P w K mg base (wb P w) 6 T.net_from_.f T.net_from_.d ["text"] (Er T.x_BadRow):=by
 have G_tie_from:=#[(wR)]
 have G_is_place_row:=#[(rf)]
 have G_is_tie:=#[(tN)]
 have G_BadRow__init:=#[(Ai)]
 refine T.net_from_.F.okX cM (fun vs H Q E h=>?_) (fun cdv A outer s H vs Q E hr h=>?_)
 ·obtain ⟨cs,rfl,_⟩:=h
  rfl
 ·obtain ⟨cs,rfl,hz,hrl,hrw,k1,k2⟩:=h
  refine ⟨_,#[#[PS.nox 3 #[1,cM.nd,c9,#[av 5 (@bE _)]]] :: #[#[PS.nox 3 #[2,cM.nd,gj,#[av 5 (@bE _)]]] :: #[#[iZ 8 PassesOwn.leaving rfl (@AG _ (K) _ _ _ _ _ _ _ my T.b_enumerate #[[(@cu _ (K) _ _ _ _ _ _ _ _ _ _ _ PySem.F.plainAttrs_str PySem.F.slot_str_split PySem.F.type_str_split (@ui _) #[0,rE] #[[#[aN 4]]] (by rfl) (by rfl) (by rfl) (by rfl) (by rfl) (by rfl))]] (by rfl) (by rfl)) (@c6 _ (K) _ _ _ _ (2) rfl #[aD 5 #[3,cM.nd,nV] #[aD 5 #[4,cM.nd,mv] (@cA _) (by rfl)] (by rfl)] (by rfl) (by rfl) (by rfl)) #[#[PS.nox 3 #[5,cM.nd,dF,(@cu _ (K) _ _ _ _ _ _ _ _ _ _ _ PySem.F.plainAttrs_str PySem.F.slot_str_split PySem.F.type_str_split (@ui _) #[4,mv] #[[#[aN 4]]] (by rfl) (by rfl) (by rfl) (by rfl) (by rfl) (by rfl))]] :: #[#[PS.nox 3 #[6,cM.nd,jh,#[G_tie_from,nX,T.tie_from_,#[[#[5,dF]]]]]] :: #[ac 3 #[bt 8 #[PW.pt 3 #[rD 7 #[bn 3 #[G_is_place_row,kX,T.is_place_row_,#[[#[5,dF]]]] (by intro _;rfl)] #[rD 7 #[aE 8 (@sY _ (K) (by rfl)) #[#[5,dF][#[()]]!] #[1,c9] rfl] #[sq 4 #[aE 8 (@bI _) #[(),(),(@dQ _ (K) (by rfl)),tj,T.b_len,(@aR),#[[#[2,gj]]]] #[()] #[(),()]]]]]] #[ac 3 #[PS.nox 3 #[zI 2 (1) _ _ _ _ _ _ cM.nd rfl (Or.inl c9) #[av 5 #[[#[#[5,dF][#[()]]!]]]] (@xB _) (by first | exact .inl rfl | exact .inr rfl | assumption)]]] #[ac 3 #[bt 8 #[bn 3 #[G_is_tie,qg,T.is_tie_,#[[#[1,c9],#[6,jh]]]] (by intro _;rfl)] #[ac 3 #[PS.nox 3 #[zI 2 (2) _ _ _ _ _ _ cM.nd rfl (Or.inl gj) #[av 5 #[[#[6,jh]]]] (@xB _) (by first | exact .inl rfl | exact .inr rfl | assumption)]]] #[ac 3 #[Be 5 rfl #[Di 15] #[Da 13 T.q_BadRow T.fn_BadRow T.k_BadRow G_BadRow__init (hr.mono (by decide)) T.B_BadRow__init p6 T.m_BadRow #[[#[3,nV]]] (by decide) (by rfl) (by rfl)]]]]]]]]] (by intro _;rfl)] :: #[ac 3 #[PS.nox 3 #[aq 4 #[av 5 #[[#[1,c9],#[2,gj]]]]]]]]]],?_⟩
  refine bF fun Q1 nA1=>⟨(by show 0≤10000;decide),fun p0 H1 n1=>nA1 _ _ ?_⟩
  refine bF fun Q2 nA2=>⟨(by show 0≤10000;decide),fun q0 H2 n2=>nA2 _ _ ?_⟩
  refine fe fun D3 nD3=>⟨(),rfl,cs,10,rfl,congrArg (fun z=>[V.str z]) AS,hz,fun L H3 n3=>⟨L,true,rfl,⟨_,ar.of n3.at'⟩,?_⟩⟩
  generalize erows:bD 10 cs=rows at hrl hrw k1 k2 n3
  have hL:H3 L=some (.lst (rows.map ao)):=n3.at'
  have s03:ae H H3:=(n1.sm.trans n2.sm).trans n3.sm
  refine zg (xs:=rows.map ao) (fun i σ H'=>EN fun (v3 v4 v5 v6:Option V) (p q:Addr) (ls:List (List Nat)) (ts:List aU) (ys:List V)=>σ=[some (.str (S cs)),some (.ref p),some (.ref q),v3,v4,v5,v6]∧H' p=some (.tup (ls.map ao))∧H' q=some (.tup ys)∧aI ED H' ys (ts.map lQ)∧cq ls ts i (rows.drop i)=cq [] [] 0 rows∧ls.length≤i∧ts.length≤i∧ae H3 H')
   ⟨_,_,_,_,p0,q0,[],[],[],rfl,n3.sm _ _ (n2.sm _ _ n1.at'),n3.sm _ _ n2.at',.nil,rfl,by simp,by simp,ae.refl _⟩ ?_ ?_ ?_
  ·rintro i σ H' _ ⟨_,_,_,_,_,_,_,_,_,_,_,_,_,_,_,_,sm⟩
   exact ar.of (sm _ _ hL)
  case refine_3=>
   rintro σ H' ⟨v3,v4,v5,v6,p,q,ls,ts,ys,rfl,hp,hq,ia,er,_,_,sm⟩
   rw [List.length_map,List.drop_length] at er
   refine nD3 _ _ ⟨(),(),(by show 2≤10000;decide),fun o H4 n4=>?_⟩
   exact k1 ls ts (.ref o) H4 er.symm ((s03.trans sm).trans n4.sm) (.tup n4.at' (.cons (.tup (n4.sm _ _ hp) (ic ls)) (.cons (.tup (n4.sm _ _ hq) (ia.mono n4.sm.toE)) .nil)))
  rintro i x Tq σ H' ex hTq ⟨v3,v4,v5,v6,p,q,ls,ts,ys,rfl,hp,hq,ia,er,ll,lt,sm⟩
  rw [List.getElem?_map] at ex
  cases exr:rows[i]? with
  | none=>rw [exr] at ex;cases ex
  | some r=>
  rw [exr] at ex
  cases ex
  have hi:=(List.getElem?_eq_some_iff.mp exr).1
  have hrr:=hrw r (List.mem_of_getElem? exr)
  rw [Bp exr] at er
  have sT:=ae.new (o:=.tup [.int (i:Int),ao r]) hTq
  refine ⟨Tq,(),au.of ai,rfl,_,(),_,(),rfl,?_⟩
  refine pJ (t:=kq _ _) fun D4 nD4=>?_
  have hp1:=sT _ _ hp
  have hq1:=sT _ _ hq
  have ia1:=ia.mono sT.toE
  have sm1:=sm.trans sT
  generalize aL H' Tq (.tup [.int (i:Int),ao r])=H5 at hp1 hq1 ia1 sm1
  refine bF fun Q5 nA5=>⟨(),rfl,r,32,rfl,congrArg (fun z=>[V.str z]) Bt,by trivial,fun W H6 n6=>nA5 _ _ ?_⟩
  have hws:∀w∈bD 32 r,w.length≤9000:=fun w hw=>Nat.le_trans (pD hw).1 hrr
  generalize bD 32 r=ws at er hws n6
  refine bF fun Q6 nA6=>⟨(),W,ws,rfl,n6.at',hws,fun tv H7 s7 dt=>nA6 _ _ ?_⟩
  have s57:=n6.sm.trans s7
  have ly:ys.length=ts.length:=by rw [ia.length,List.length_map]
  have hW7:H7 W=some (.lst (ws.map ao)):=s7 _ _ n6.at'
  have hp7:=s57 _ _ hp1
  have hq7:=s57 _ _ hq1
  refine Do (qL ws) (!ls.contains ((ws[1]?).getD [])) ts.isEmpty (fun R' kk=>⟨(),W,ws,rfl,hW7,hws,fun H8 s8=>⟨(),kk H8 s8⟩⟩) (fun e1 H8 s8 R' kk=>?_) (fun e1 e2 H8 s8 R' kk=>?_) fun H8 s8=>?_
  ·obtain ⟨u,rfl,_⟩:=EO e1
   refine ⟨(),W,_,_,(),rfl,ar.of (s8 _ _ hW7),rfl,(),p,(),.inr (au.of (s8 _ _ hp7)),rfl,vT ls,(),?_⟩
   rw [AC]
   exact kk
  ·refine ⟨(),q,(),.inr (au.of (s8 _ _ hq7)),rfl,(),?_⟩
   rw [show decide (V.int (ys.length:Int)=V.int 0)=ts.isEmpty from ?_]
   ·exact kk
   ·rw [pP,ly]
    cases ts with
    | nil=>rfl
    | cons t r=>
     rw [decide_eq_false (by rw [List.length_cons];trivial)]
     rfl
  have s58:=s57.trans s8
  have hp8:=s58 _ _ hp1
  have hq8:=s58 _ _ hq1
  have ia8:=ia1.mono s58.toE
  have sm8:=sm1.trans s58
  have dt8:=dt.mono s8.toE
  have hW8:=s8 _ _ hW7
  have epl:=GT ls ts ws
  rw [←epl]
  cases hpl:u8 ls ts ws with
  | some u=>
   obtain ⟨rfl,tz⟩:=Dq hpl
   subst tz
   have er':cq (ls++[u]) [] (i+1) (rows.drop (i+1))=cq [] [] 0 rows:=by
    rw [←er];unfold mZ;rw [hpl]
   refine aA ⟨(),(),W,_,_,(),rfl,ar.of hW8,rfl,(by show 1≤10000;decide),fun o H9 n9=>⟨p,o,_,(),rfl,n9.sm _ _ hp8,n9.at',(fun z=>nomatch z),(by rw [List.length_map];show ls.length+1≤10000;trivial),fun p' Ha sa hpa=>nD4 _ _ ?_⟩⟩
   refine ⟨_,_,_,_,p',q,ls++[u],[],ys,rfl,by rw [hpa,List.map_append];rfl,(n9.sm.trans sa) _ _ hq8,ia8.mono (n9.sm.trans sa).toE,er',by rw [List.length_append];show ls.length+1≤_;trivial,by simp,(sm8.trans n9.sm).trans sa⟩
  | none=>
  refine ay ?_
  refine ⟨(),(),p,tv,ls,ws,rfl,hp8,dt8,fun H9 s9=>⟨(),?_⟩⟩
  cases htw:mD ls ws with
  | some t=>
   have er':cq ls (ts++[t]) (i+1) (rows.drop (i+1))=cq [] [] 0 rows:=by
    rw [←er];unfold mZ;rw [hpl,htw]
   have dt9:=dt8.mono s9.toE
   rw [(AH htw).1] at dt9
   refine aA ⟨(),(),(by show 1≤10000;decide),fun o Ha na=>⟨q,o,_,(),rfl,(s9.trans na.sm) _ _ hq8,na.at',(fun z=>nomatch z),(by rw [ly];show ts.length+1≤10000;trivial),fun q' Hb sb hqb=>nD4 _ _ ?_⟩⟩
   have s8b:=(s9.trans na.sm).trans sb
   refine ⟨_,_,_,_,p,q',ls,ts++[t],ys++[tv],rfl,s8b _ _ hp8,hqb,?_,er',by trivial,by rw [List.length_append];show ts.length+1≤_;trivial,sm8.trans s8b⟩
   rw [List.map_append]
   exact (ia8.mono s8b.toE).append (.cons (dt9.mono (na.sm.trans sb).toE) .nil)
  | none=>
   have er':y9.bad i=cq [] [] 0 rows:=by
    rw [←er];unfold mZ;rw [hpl,htw]
   refine ay ⟨(),(by show 1≤10000;decide),fun y J1 m1=>⟨y,T.x_BadRow,_,(),m1.at',T.q_BadRow,T.st_BadRow,fun dx J2 hd ne e=>⟨rfl,y,T.x_BadRow,some dx,(),?_,T.q_BadRow,?_⟩⟩⟩
   ·rw [e];exact ai
   have s0y:=(s03.trans sm8).trans s9
   obtain ⟨S3,_,k3⟩:=IP m1.fr m1.sm hd ne e
   refine k2 i y dx _ er'.symm (fun b o z=>?_) ai ?_
   ·rw [am (fun w=>by have:=s0y _ _ z;rw [w,m1.fr] at this;cases this)];exact S3 _ _ (s0y _ _ z)
   ·rw [am ne,e,am ne];exact ai
end
end K66
namespace K66
open PySem L2 PySem.NumText
section
variable {P:Program}{w:World}{K:PySem.W.Frag}{mg:Str→Option Value}{base:Heap}
theorem qk (T:Txt K mg):aZ P w K mg base CX0 3 T.fraction_from_.f T.fraction_from_.d ["text"] (fun _ _ _ _=>False):=
 T.fraction_from_.F.ok qC (fun _ _ _ _ h=>h.elim) (fun _ _ _ _ _ _ _ _ _ h=>h.elim)
abbrev pV (T:Txt K mg):List Addr:=[T.x_BadNumber,T.x_Taken,T.x_NoPlace,T.x_NoTie,T.x_AsItIs,T.x_NoEnds,T.x_Over,T.x_TooMuch,T.x_Gaining,T.x_NotSoMuch,T.x_Short,T.x_Lacking,T.x_BadRow,T.x_BadSheet]
theorem vG (T:Txt K mg) {j:Nat}{d:Addr} (hj:(pV T)[j]?=some d):PySem.W.kitOne K (.ref T.x_BadRow) (.ref d)=some (decide (12=j)):=by
 have kn:mL K (pV T) T.x_GainError=true:=T.kin
 have c0:(pV T)[12]?=some T.x_BadRow:=rfl
 rw [(vI kn (List.mem_of_getElem? c0)).2.2.2 d (List.mem_of_getElem? hj)]
 congr 1
 rw [decide_eq_decide]
 constructor
 ·intro e
  obtain ⟨h1,e1⟩:=List.getElem?_eq_some_iff.mp c0
  obtain ⟨h2,e2⟩:=List.getElem?_eq_some_iff.mp hj
  have nd:=Bo kn
  exact iq nd h1 h2 (by rw [e1,e2];exact e)
 ·rintro rfl
  rw [c0] at hj
  exact Option.some.inj hj
theorem zZ (T:Txt K mg) {l:List Addr} (h:∀d∈l,∃j,j≠12∧(pV T)[j]?=some d):PySem.W.kitAny K (.ref T.x_BadRow) (l.map fun d=>.ref d)=some false:=by
 refine um fun c hc=>?_
 obtain ⟨d,hd,rfl⟩:=List.mem_map.mp hc
 obtain ⟨j,nj,hj⟩:=h d hd
 rw [vG T hj,decide_eq_false (Ne.symm nj)]
inductive CT (vs:List V) (H:Hp) (Q:VK):Prop
 | mk (cs:List Nat) (h0:vs=[.str "net",.str (S cs)]) (h1:cs.length≤1000000) (h2:(bD 10 cs).length≤1000) (h3:(∀r∈bD 10 cs,r.length≤9000)) (h4:∀u H',ae H H'→bh ED H' u (yi (cq [] [] 0 (bD 10 cs)))→Q u H')
def Ew:Sp:=fun vs H Q _=>CT  vs H Q
theorem w5 (T:Txt K mg):aZ P w K mg base CX0 8 T.l_all_told_.f T.l_all_told_.d ["_law_which", "_law_thing"] Ew:=by
 have G_fraction_from:=#[(qk)]
 have G_net_from:=#[(wP)]
 refine T.l_all_told_.F.ok cx (fun vs H Q E h=>?_) (fun cdv A outer s H vs Q E hr h=>?_)
 ·obtain ⟨cs,rfl,_⟩:=h
  rfl
 ·obtain ⟨cs,rfl,hz,hr1,hr2,k⟩:=h
  refine ⟨_,#[#[eG 6 #[av 5 #[[#[gE 3],#[gE 3]]]] (@c6 _ (K) _ _ _ _ (2) rfl #[aD 5 #[2,cx.nd,fD] #[aD 5 #[3,cx.nd,aW] (@cA _) (by rfl)] (by rfl)] (by rfl) (by rfl) (by rfl)) (by rfl) (by rfl) (by rfl)] :: #[#[FK 12 (4) rfl rfl cx.nd rfl jE lJ T.m_GainError (fun EE pn xe hx=>#[ac 3 #[2,cx.nd,fD,#[bT 8 #[aE 8 (@bI _) #[0,mQ] #[aN 4] #[(),()]] #[G_fraction_from,jU,T.fraction_from_,#[[#[1,iV]]]] #[A9 14 G_net_from (hr.mono (by decide)) l7 T.net_from_.m T.net_from_.F.kp T.net_from_.B hx #[[#[1,iV]]] (by decide) (by rfl) (by rfl)]]]]) (fun _=>#[ac 3 #[3,cx.nd,aW,#[4,jE]]]) (by decide)] :: #[#[bt 8 #[aE 8 (@zb _) #[3,aW] #[gE 3] #[(),()]] #[ac 3 #[aq 4 #[av 5 #[[#[aN 4],#[2,fD]]]]]] (@aQ _)] :: #[#[5,cx.nd,iy,#[(),(),(@nN _ (K) (by rfl)),bS,T.b_isinstance,(@aj),#[[#[3,aW],#[av 5 #[[#[eM 4 pi T.m_Taken (by decide)],#[eM 4 nq T.m_NoPlace (by decide)],#[eM 4 oB T.m_NoTie (by decide)],#[eM 4 nY T.m_AsItIs (by decide)],#[eM 4 oj T.m_NoEnds (by decide)],#[eM 4 qm T.m_Over (by decide)],#[eM 4 mR T.m_TooMuch (by decide)],#[eM 4 nh T.m_Gaining (by decide)],#[eM 4 lF T.m_NotSoMuch (by decide)],#[eM 4 oY T.m_Short (by decide)]]]]]]]] :: #[#[bt 8 #[PW.pt 3 #[dm 7 #[bn 3 #[5,iy] (by intro _;rfl)] #[dm 7 #[bn 3 #[(),(),(@nN _ (K) (by rfl)),bS,T.b_isinstance,(@aj),#[[#[3,aW],#[av 5 #[[#[eM 4 nu T.m_Lacking (by decide)],#[eM 4 lU T.m_BadSheet (by decide)]]]]]]] (by intro _;rfl)] #[dj 4 #[ci 4 #[bn 3 #[(),(),(@kQ _ (K) (by rfl)),bS,T.b_isinstance,(@aj),#[[#[3,aW],#[cr 4 kY T.b_ValueError (@oR) (by decide) (by decide)]]]] (by intro _;rfl)]]]]]] #[ac 3 #[aq 4 #[av 5 #[[#[aN 4],#[gE 3]]]]]] (@aQ _)] :: #[#[6,cx.nd,fN,#[dz 4 #[[#[(),(),(@kQ _ (K) (by rfl)),bS,T.b_isinstance,(@aj),#[[#[3,aW],#[eM 4 lI T.m_BadNumber (by decide)]]]],#[(),(),(@kQ _ (K) (by rfl)),bS,T.b_isinstance,(@aj),#[[#[3,aW],#[eM 4 oh T.m_BadRow (by decide)]]]]]]]] :: #[#[bt 8 #[aE 8 (@hV _) (@cu _ (K) _ _ _ _ _ _ _ _ _ _ _ PySem.F.plainAttrs_list PySem.F.slot_list_count PySem.F.type_list_count (@Al _ hr.units) #[6,fN] #[[#[dO 4]]] (by rfl) (by rfl) (by rfl) (by rfl) (by rfl) (by rfl)) #[()] #[(),()]] #[ac 3 #[aq 4 #[av 5 #[[#[aN 4],#[gE 3]]]]]] (@aQ _)] :: #[ac 3 #[aq 4 #[bT 8 #[bn 3 #[#[6,fN][#[()]]!] (by intro _;rfl)] #[av 5 #[[#[aN 4],#[gE 3]]]] #[av 5 #[[#[aN 4],(@za _ (K) _ _ _ _ #[3,aW] (by rfl) (by rfl))]]]]]]]]]]]]],?_⟩
  refine fe fun D0 n0=>⟨(by show 2≤10000;decide),fun t0 H0 m0=>⟨t0,(),au.of m0.at',rfl,_,(),_,(),rfl,n0 _ _ ?_⟩⟩
  refine fe fun DA nA=>?_
  refine ⟨(),rfl,(),?_⟩
  rw [decide_eq_false (show ¬V.str ("net" : Str)=V.str "one" by nofun)]
  refine ay ⟨(),cs,rfl,hz,hr1,hr2,fun ls ts v H1 e s1 h1=>nA _ _ ?_,fun i a dx H1 e s1 ha hdx=>?_⟩
  ·refine mW fun DB nB eB=>⟨(),rfl,(),aA ⟨(),(by show 2≤10000;decide),fun p2 H2 m2=>eB _ _ ?_⟩⟩
   refine k _ _ ((m0.sm.trans s1).trans m2.sm) ?_
   rw [e]
   exact .tup m2.at' (.cons (.str _) (.cons (h1.mono m2.sm.toE) .nil))
  ·intro a' C' eC ha'
   cases eC
   have kn:mL K (pV T) T.x_GainError=true:=T.kin
   obtain ⟨q1,_,q3,_⟩:=vI kn (List.mem_of_getElem? (show (pV T)[12]?=some T.x_BadRow from rfl))
   refine ⟨T.em_BadRow_GainError,⟨(),nA _ _ ?_⟩⟩
   refine fe fun DB nB=>⟨(),rfl,(),ay (nB _ _ ?_)⟩
   have no10:=zZ T (l:=[T.x_Taken,T.x_NoPlace,T.x_NoTie,T.x_AsItIs,T.x_NoEnds,T.x_Over,T.x_TooMuch,T.x_Gaining,T.x_NotSoMuch,T.x_Short]) (fun d hd=>by
    rcases List.mem_cons.mp hd with rfl | hd
    ·exact ⟨1,by decide,rfl⟩
    rcases List.mem_cons.mp hd with rfl | hd
    ·exact ⟨2,by decide,rfl⟩
    rcases List.mem_cons.mp hd with rfl | hd
    ·exact ⟨3,by decide,rfl⟩
    rcases List.mem_cons.mp hd with rfl | hd
    ·exact ⟨4,by decide,rfl⟩
    rcases List.mem_cons.mp hd with rfl | hd
    ·exact ⟨5,by decide,rfl⟩
    rcases List.mem_cons.mp hd with rfl | hd
    ·exact ⟨6,by decide,rfl⟩
    rcases List.mem_cons.mp hd with rfl | hd
    ·exact ⟨7,by decide,rfl⟩
    rcases List.mem_cons.mp hd with rfl | hd
    ·exact ⟨8,by decide,rfl⟩
    rcases List.mem_cons.mp hd with rfl | hd
    ·exact ⟨9,by decide,rfl⟩
    rcases List.mem_cons.mp hd with rfl | hd
    ·exact ⟨10,by decide,rfl⟩
    ·cases hd)
   have no2:=zZ T (l:=[T.x_Lacking,T.x_BadSheet]) (fun d hd=>by
    rcases List.mem_cons.mp hd with rfl | hd
    ·exact ⟨11,by decide,rfl⟩
    rcases List.mem_cons.mp hd with rfl | hd
    ·exact ⟨13,by decide,rfl⟩
    ·cases hd)
   refine bF fun Q3 n3=>⟨(),(by show 10≤10000;decide),fun tq H3 m3=>⟨a',T.x_BadRow,dx,tq,_,_,(),⟨m3.sm _ _ ha',_,m3.sm _ _ hdx⟩,m3.at',rfl,q1,no10,n3 _ _ ?_⟩⟩
   have ha3:=m3.sm _ _ ha'
   have hd3:=m3.sm _ _ hdx
   refine fe fun DC nC=>⟨(),(),ay ⟨(),(by show 2≤10000;decide),fun t4 H4 m4=>⟨a',T.x_BadRow,dx,t4,_,_,(),⟨m4.sm _ _ ha3,_,m4.sm _ _ hd3⟩,m4.at',rfl,q1,no2,(),ay ⟨(),a',T.x_BadRow,dx,_,_,(),⟨m4.sm _ _ ha3,_,m4.sm _ _ hd3⟩,rfl,q1,q3,(),ay (nC _ _ ?_)⟩⟩⟩⟩
   have ha4:=m4.sm _ _ ha3
   have hd4:=m4.sm _ _ hd3
   refine bF fun Q5 n5=>⟨(),a',T.x_BadRow,dx,_,_,(),⟨ha4,_,hd4⟩,rfl,q1,vG T (j:=0) rfl,(),a',T.x_BadRow,dx,_,_,(),⟨ha4,_,hd4⟩,rfl,q1,vG T (j:=12) rfl,(by show 2≤10000;decide),fun l5 H5 m5=>n5 _ _ ?_⟩
   have h5:H5 l5=some (.lst ([false,true].map V.bl)):=m5.at'
   refine fe fun DE nE=>⟨(),.inl ⟨rfl,_,ar.of h5⟩,⟨l5,(),h5⟩,.bl true,.bool true,.list ([false,true].map .bool),ED,(fun _=>False),_,_,0,_,(),.bl _,.lst h5 (fun z=>z) (.cons (.bl _) (.cons (.bl _) .nil)),.bl _,Wt.list (k:=0) (.cons (.bl _) (.cons (.bl _) .nil)),by decide,rfl,rfl,(),?_⟩
   rw [show ([false,true].map PyData.bool).countP (fun z=>PyData.eqv z (.bool true))=1 from rfl]
   refine ay (nE _ _ ?_)
   have ha5:=m5.sm _ _ ha4
   have hd5:=m5.sm _ _ hd4
   refine mE fun Q6 n6=>⟨(),l5,_,0,(),rfl,ar.of h5,rfl,(),ay ⟨(),a',T.x_BadRow,dx,_,(),ha5,hd5,IW,T.fd_BadRow,(by show 2≤10000;decide),fun p7 H7 m7=>n6 _ _ ?_⟩⟩
   refine k _ _ (((((m0.sm.trans s1).trans m3.sm).trans m4.sm).trans m5.sm).trans m7.sm) ?_
   rw [e]
   exact .tup m7.at' (.cons (.str _) (.cons (.int _) .nil))
end
end K66
namespace K66
open PySem L2 PySem.NumText
set_option maxHeartbeats 4000000
section
variable {P:Program}{w:World}{K:PySem.W.Frag}{mg:Str→Option Value}{base:Heap}
def cz (l:List Nat):List Nat:=b6++32 :: l
def dR (t:aU):List Nat:=jn 32 [d7,t.bg,t.en,cU t.most.1 t.most.2,cU t.gain.1 t.gain.2,cU t.price.1 t.price.2]
def bG (ls:List (List Nat)) (ts:List aU):List (List Nat):=ls.map cz++ts.map dR
def yO (p:KM.Fra):Prop:=p.1.natAbs<10 ^ 64∧1≤p.2∧p.2<10 ^ 64
structure zu (t:aU):Prop where
 b:t.bg.length≤8
 e:t.en.length≤8
 m:yO t.most
 g:yO t.gain
 p:yO t.price
theorem Cm {n d:Int} (hn:n.natAbs<10 ^ 64) (hd:d.natAbs<10 ^ 64):(cU n d).length≤130:=by
 have l1:=qw hn
 have l2:(dg d.natAbs).length≤64:=(kB (by decide)).mpr hd
 unfold cU
 split
 ·trivial
 ·rw [List.length_append,List.length_cons];trivial
theorem gM {p:KM.Fra} (h:yO p):(cU p.1 p.2).length≤130:=Cm h.1 (by have:=h.2.1;have:=h.2.2;trivial)
theorem yN {t:aU} (h:zu t):(dR t).length≤420:=by
 have:=wJ 32 [d7,t.bg,t.en,cU t.most.1 t.most.2,cU t.gain.1 t.gain.2,cU t.price.1 t.price.2]
 have a1:=gM h.m
 have a2:=gM h.g
 have a3:=gM h.p
 have a4:=h.b
 have a5:=h.e
 have a6:d7.length=3:=rfl
 simp only [List.map_cons,List.map_nil,List.sum_cons,List.sum_nil,List.length_cons,List.length_nil] at this
 unfold dR
 trivial
theorem zL (l:List Nat):(cz l).length=l.length+6:=by
 unfold cz
 rw [List.length_append,List.length_cons]
 have:b6.length=5:=rfl
 trivial
theorem pd {ls:List (List Nat)}{ts:List aU} (hl:∀l∈ls,l.length≤8) (ht:∀t∈ts,zu t):∀r∈bG ls ts,r.length≤420:=by
 intro r hr
 rcases List.mem_append.mp hr with h | h
 ·obtain ⟨l,hl',rfl⟩:=List.mem_map.mp h
  have:=hl l hl'
  rw [zL];trivial
 ·obtain ⟨t,ht',rfl⟩:=List.mem_map.mp h
  exact yN (ht t ht')
inductive Ag (vs:List V) (H:Hp) (Q:VK):Prop
 | mk (v:V) (ls:List (List Nat)) (ts:List aU) (h0:vs=[v]) (h1:bh ED H v (fC ls ts)) (h2:(∀l∈ls,l.length≤8)) (h3:(∀t∈ts,zu t)) (h4:ls.length+ts.length≤200) (h5:∀H',ae H H'→Q (.str (S (jn 10 (bG ls ts)))) H')
def vo:Sp:=fun vs H Q _=>Ag  vs H Q
theorem Ht:(Str.ofString "place ")=S (b6++[32]):=by nofun
theorem yu (T:Txt K mg):aZ P w K mg base CX0 2 T.l_text_of_.f T.l_text_of_.d ["_law_net"] vo:=by
 have G_l_word_of:=#[(yk)]
 refine T.l_text_of_.F.ok kF (fun vs H Q E h=>?_) (fun cdv A outer s H vs Q E hr h=>?_)
 ·obtain ⟨v,ls,ts,rfl,_⟩:=h
  rfl
 ·obtain ⟨v,ls,ts,rfl,hv,hl,ht,hlt,k⟩:=h
  obtain ⟨na,pa,ta,ys,rfl,hna,hpa,hta,ity⟩:=kI hv
  refine ⟨_,#[#[lO 7 (["_law_place"]) (1) ([]) _ _ _ _ (1) _ _ _ kF.nd rfl gu (by kernel_rfl) rfl (by kernel_rfl) (@fK _ (K) _ _ _ #[#[0,j6][#[()]]] (by rfl)) (fun _ _ _ _ _ _=>#[0,(),()]) (fun _ _ _ _ _ _=>@bO _) (fun _ _ _ _ _ _=>#[ag 8 (@iu _) #[aN 4] #[0,()]]) (by intro _;rfl)] :: #[#[iZ 8 PassesOwn.never rfl (@fK _ (K) _ _ _ #[#[0,j6][#[()]]] (by rfl)) #[2,kF.nd,eZ] #[ac 3 #[jv 4 (@cu _ (K) _ _ _ _ _ _ _ _ _ _ _ PySem.F.plainAttrs_list PySem.F.slot_list_append PySem.F.type_list_append (@iA _) #[1,gu] #[[(@cu _ (K) _ _ _ _ _ _ _ _ _ _ _ PySem.F.plainAttrs_str PySem.F.slot_str_join PySem.F.type_str_join (@qz _ (K) (by rfl)) #[aN 4] #[[#[ag 8 (@pI _) #[dz 4 #[[#[aN 4],#[#[2,eZ][#[()]]],#[#[2,eZ][#[()]]]]]] #[cg 7 (["_law_part"]) (1) ([]) _ _ _ _ rfl (by kernel_rfl) (@fK _ (K) _ _ _ #[fO 10 (@xi _ (K) (by rfl)) #[2,eZ] #[d9 3 #[()]] (@iw _)] (by rfl)) (fun _ _ _ _ _ _=>#[0,(),()]) (fun _ _ _ _ _ _=>@bO _) (fun _ _ _ _ _ _=>#[G_l_word_of,(),T.l_word_of_,#[[#[0,()]]]]) (by intro _;rfl)]]]] (by rfl) (by rfl) (by rfl) (by rfl) (by rfl) (by rfl))]] (by rfl) (by rfl) (by rfl) (by rfl) (by rfl) (by rfl)) (by rfl)]] (by intro _;rfl)] :: #[ac 3 #[aq 4 (@cu _ (K) _ _ _ _ _ _ _ _ _ _ _ PySem.F.plainAttrs_str PySem.F.slot_str_join PySem.F.type_str_join (@qz _ (K) (by rfl)) #[aN 4] #[[#[1,gu]]] (by rfl) (by rfl) (by rfl) (by rfl) (by rfl) (by rfl))]]]],?_⟩
  have lls:(ls.map ao).length=ls.length:=List.length_map ..
  refine bF fun Q1 nA1=>⟨(),na,_,_,(),rfl,au.of hna,rfl,pa,rfl,⟨_,au.of hpa⟩,fun R hR=>ir (xs:=ls.map ao) (fun i=>((ls[i]?).map fun l=>ao (cz l)).getD .non) (by rw [lls];trivial) hR hpa ?_ ?_⟩
  ·intro i x H' R' ex sm kk
   rw [List.getElem?_map] at ex
   cases el:ls[i]? with
   | none=>rw [el] at ex;cases ex
   | some l=>
    rw [el] at ex kk
    cases ex
    have h8:=hl l (List.mem_of_getElem? el)
    refine ⟨dW,(),b6++[32],l,congrArg V.str Ht,rfl,(by rw [List.length_append];show 5+1+_≤_;trivial),?_⟩
    have:=kk H' (ae.refl _)
    have e:b6++[32]++l=cz l:=by unfold cz;simp
    rw [e]
    exact this
  intro H1 s1 hR1
  refine nA1 _ _ ?_
  have eR:(List.range (ls.map ao).length).map (fun i=>((ls[i]?).map fun l=>ao (cz l)).getD .non)=(ls.map cz).map ao:=by
   rw [lls,fQ (fun i=>((ls[i]?).map fun l=>ao (cz l)).getD .non) (fun l=>ao (cz l)) ls (fun i x e=>by rw [e];rfl),List.map_map]
   rfl
  rw [eR] at hR1
  refine fe fun D2 nD2=>⟨(),na,_,_,(),rfl,au.of (s1 _ _ hna),rfl,ta,rfl,⟨_,au.of (s1 _ _ hta)⟩,?_⟩
  have lys:ys.length=ts.length:=by rw [ity.length,List.length_map]
  refine xS (xs:=ys) (fun i σ H'=>∃v2,σ=[some (.ref na),some (.ref R),v2]∧H' R=some (.lst ((bG ls (ts.take i)).map ao))∧ae H H') ⟨(),by rw [hR1];unfold bG;simp,s1⟩ ?_ ?_ ?_
  ·rintro i σ H' _ ⟨_,_,_,sm⟩
   exact au.of (sm _ _ hta)
  case refine_3=>
   rintro σ H' ⟨v2,rfl,hR',sm⟩
   rw [lys,List.take_length] at hR'
   refine nD2 _ _ (mE fun Q3 n3=>?_)
   have lr:(bG ls ts).length≤200:=by unfold bG;rw [List.length_append,List.length_map,List.length_map];exact hlt
   have sl:=wF (pd hl ht)
   exact ⟨rfl,(),R,10,bG ls ts,congrArg V.str AS,rfl,ar.of hR',by trivial,n3 _ _ (k H' sm)⟩
  rintro i x σ H' ex ⟨v2,rfl,hR',sm⟩
  refine pJ (t:=Ce _) fun D4 nD4=>?_
  obtain ⟨td,et,dx⟩:=ity.get ex
  rw [List.getElem?_map] at et
  cases eti:ts[i]? with
  | none=>rw [eti] at et;cases et
  | some t=>
  rw [eti] at et
  cases et
  have hi:=(List.getElem?_eq_some_iff.mp eti).1
  have c:=ht t (List.mem_of_getElem? eti)
  obtain ⟨a,om,og,op,rfl,ha,hm,hg,hp⟩:=v0 (dx.mono sm.toE)
  refine ⟨(),.inl ⟨rfl,_,ar.of hR'⟩,rfl,(),a,_,_,(),rfl,au.of ha,rfl,(),a,_,_,(),rfl,au.of ha,rfl,(by show 3≤10000;decide),fun l1 H1 n1=>⟨(),(),a,(),au.of (n1.sm _ _ ha),n1.sm _ _ ha,fun l2 H2 s2 h2=>⟨l2,rfl,⟨_,au.of h2⟩,fun D hD=>?_⟩⟩⟩
  have h2':H2 l2=some (.tup [.ref om,.ref og,.ref op]):=h2
  have s12:=n1.sm.trans s2
  refine ir (xs:=[.ref om,.ref og,.ref op]) (fun j=>(([cU t.most.1 t.most.2,cU t.gain.1 t.gain.2,cU t.price.1 t.price.2][j]?).map ao).getD .non) (by show 3≤10000;decide) hD h2' ?_ ?_
  ·intro j x H3 R' ex s3 kk
   have up:∀{o:Addr}{f:KM.Fra},H' o=some (HO.tup [.int f.1,.int f.2])→H3 o=some (HO.tup [.int f.1,.int f.2]):=fun h=>s3 _ _ (s12 _ _ h)
   rcases j with _ | _ | _ | j
   ·cases ex
    exact ⟨dW,(),om,t.most.1,t.most.2,rfl,up hm,c.m.1,c.m.2.1,c.m.2.2,fun H4 s4=>kk H4 s4⟩
   ·cases ex
    exact ⟨dW,(),og,t.gain.1,t.gain.2,rfl,up hg,c.g.1,c.g.2.1,c.g.2.2,fun H4 s4=>kk H4 s4⟩
   ·cases ex
    exact ⟨dW,(),op,t.price.1,t.price.2,rfl,up hp,c.p.1,c.p.2.1,c.p.2.2,fun H4 s4=>kk H4 s4⟩
   ·cases ex
  intro H3 s3 hD3
  have hD3':H3 D=some (.lst ([cU t.most.1 t.most.2,cU t.gain.1 t.gain.2,cU t.price.1 t.price.2].map ao)):=hD3
  have hl1:H1 l1=some (.lst ([d7,t.bg,t.en].map ao)):=by
   rw [n1.at',BH];rfl
  have s13:=s12.trans s3
  refine ⟨l1,D,_,(),rfl,(s2.trans s3) _ _ hl1,hD3',(by show 3+3≤10000;decide),fun l3 H4 n4=>⟨l3,32,[d7,t.bg,t.en,cU t.most.1 t.most.2,cU t.gain.1 t.gain.2,cU t.price.1 t.price.2],congrArg V.str Bt,rfl,ar.of n4.at',?_,?_⟩⟩
  ·have a1:=gM c.m
   have a2:=gM c.g
   have a3:=gM c.p
   have a4:=c.b
   have a5:=c.e
   have a6:d7.length=3:=rfl
   simp only [List.map_cons,List.map_nil,List.sum_cons,List.sum_nil,List.length_cons,List.length_nil]
   trivial
  have lr:(bG ls (ts.take i)).length≤200:=by
   unfold bG
   rw [List.length_append,List.length_map,List.length_map,List.length_take]
   trivial
  refine ⟨R,_,(),rfl,n4.sm _ _ (s13 _ _ hR'),(by rw [List.length_map];trivial),fun H5 c5=>nD4 _ _ ?_⟩
  refine ⟨(),?_,fun b o z=>c5.ol b o (fun w=>by rw [w,hR] at z;cases z) ((n4.sm.trans (ae.refl _)) _ _ (s13 _ _ (sm _ _ z)))⟩
  rw [c5.at',List.take_add_one,eti]
  unfold bG dR
  simp
end
end K66
namespace K66
open PySem L2 PySem.NumText
set_option maxHeartbeats 4000000
section
variable {P:Program}{w:World}{K:PySem.W.Frag}{mg:Str→Option Value}{base:Heap}
structure qr (p:KM.Fra):Prop where
 n:p.1.natAbs<10 ^ 40
 d:1≤p.2
 l:p.2<10 ^ 40
 g:Int.gcd p.1 p.2=1
structure TK (ls:List (List Nat)) (t:aU):Prop where
 b:t.bg∈ls
 e:t.en∈ls
 ne:t.bg≠t.en
 m:qr t.most
 g:qr t.gain
 p:qr t.price
 m0:0≤t.most.1
 g1:0<t.gain.1
 p0:0≤t.price.1
structure NK (ls:List (List Nat)) (ts:List aU):Prop where
 l1:1≤ls.length
 l2:ls.length+ts.length≤200
 nc:∀l∈ls,hU l
 nd:ls.Nodup
 tk:∀t∈ts,TK ls t
theorem qr.f64 {p:KM.Fra} (h:qr p):yO p:=⟨Nat.lt_trans h.n (by nofun),h.d,Int.lt_trans h.l (by nofun)⟩
theorem NK.t64 {ls:List (List Nat)}{ts:List aU} (h:NK ls ts):∀t∈ts,zu t:=fun t ht=>⟨(h.nc _ (h.tk t ht).b).hi,(h.nc _ (h.tk t ht).e).hi,(h.tk t ht).m.f64,(h.tk t ht).g.f64,(h.tk t ht).p.f64⟩
def l4 (t:aU):List (List Nat):=[d7,t.bg,t.en,cU t.most.1 t.most.2,cU t.gain.1 t.gain.2,cU t.price.1 t.price.2]
theorem vd {p:KM.Fra} (h:qr p):b9 (cU p.1 p.2)=some p:=by rw [CI h.d h.g,if_pos ⟨h.n,h.l⟩]
theorem ur {ls:List (List Nat)}{t:aU} (h:TK ls t):pB (l4 t)=lQ t∧mD ls (l4 t)=some t:=by
 unfold l4
 rw [pG,uX,if_pos rfl,if_pos rfl,vd h.m,vd h.g,vd h.p]
 have e:mY ls t.bg t.en=true:=by
  unfold mY
  have h1:ls.contains t.bg=true:=List.contains_iff_mem.mpr h.b
  have h2:ls.contains t.en=true:=List.contains_iff_mem.mpr h.e
  have h3:(t.bg==t.en)=false:=by simpa using h.ne
  rw [h1,h2,h3];rfl
 have s:o8 t.most t.gain t.price=true:=by
  unfold o8
  rw [decide_eq_true h.m0,decide_eq_true h.g1,decide_eq_true h.p0];rfl
 rw [if_pos e]
 refine ⟨rfl,?_⟩
 show (if o8 t.most t.gain t.price=true then _ else _)=_
 rw [if_pos s]
theorem si (n:Nat):32∉dg n:=lc (by decide)
theorem qu (n d:Int):32∉cU n d:=by
 have a2:32∉cF n:=by
  unfold cF
  split
  ·intro h
   rcases List.mem_cons.mp h with h | h
   ·cases h
   ·exact si _ h
  ·exact si _
 unfold cU
 split
 ·exact a2
 ·intro h
  rcases List.mem_append.mp h with h | h
  ·exact a2 h
  ·rcases List.mem_cons.mp h with h | h
   ·cases h
   ·exact si _ h
theorem kh {l:List Nat} (h:hU l) {c:Nat} (hc:c<97):c∉l:=fun z=>by have:=h.az c z;trivial
theorem DS {l:List Nat} (h:hU l):bD 32 (cz l)=[b6,l]:=by
 unfold cz
 rw [kj (show 32∉b6 by decide),ie (kh h (by decide))]
theorem Ef {ls:List (List Nat)}{ts:List aU} (h:NK ls ts) {t:aU} (ht:t∈ts):bD 32 (dR t)=l4 t:=by
 have c:=h.tk t ht
 refine qV (by simp) fun p hp=>?_
 rcases List.mem_cons.mp hp with rfl | hp
 ·decide
 rcases List.mem_cons.mp hp with rfl | hp
 ·exact kh (h.nc _ c.b) (by decide)
 rcases List.mem_cons.mp hp with rfl | hp
 ·exact kh (h.nc _ c.e) (by decide)
 rcases List.mem_cons.mp hp with rfl | hp
 ·exact qu _ _
 rcases List.mem_cons.mp hp with rfl | hp
 ·exact qu _ _
 rcases List.mem_cons.mp hp with rfl | hp
 ·exact qu _ _
 ·cases hp
theorem uw {ls:List (List Nat)}{ts:List aU} (h:NK ls ts):∀(us vs:List aU) (i:Nat),(∀t∈us,t∈ts)→cq ls vs i (us.map dR)=.net ls (vs++us)
 | [],vs,i,_=>by
  show y9.net ls vs=_
  rw [List.append_nil]
 | u :: us,vs,i,hm=>by
  have hu:=hm u (by simp)
  have e:mZ ls vs (bD 32 (dR u))=.ti u:=by
   rw [Ef h hu]
   unfold mZ
   rw [wC (ws:=l4 u) (show (6:Nat)≠2 by decide),(ur (h.tk u hu)).2]
  rw [List.map_cons]
  unfold cq
  rw [e]
  show cq ls (vs++[u]) (i+1) (us.map dR)=_
  rw [uw h us (vs++[u]) (i+1) fun t ht=>hm t (List.mem_cons_of_mem _ ht),List.append_assoc]
  rfl
theorem vB {ls:List (List Nat)}{ts:List aU} (h:NK ls ts):∀(as ks:List (List Nat)) (i:Nat),ks++as=ls→cq ks [] i (as.map cz++ts.map dR)=.net ls ts
 | [],ks,i,e=>by
  rw [List.append_nil] at e
  subst e
  rw [List.map_nil,List.nil_append,uw h ts [] i fun t ht=>ht]
  rfl
 | a :: as,ks,i,e=>by
  have ha:a∈ls:=by rw [←e];simp
  have hk:ks.contains a=false:=by
   have nd:=h.nd
   rw [←e] at nd
   have:=(List.nodup_append.mp nd).2.2
   cases z:ks.contains a with
   | false=>rfl
   | true=>exact absurd rfl (this a (List.contains_iff_mem.mp z) a (by simp))
  have er:mZ ks [] (bD 32 (cz a))=.pl a:=by
   rw [DS (h.nc a ha)]
   unfold mZ
   rw [Bs,if_pos ⟨rfl,BE (h.nc a ha),hk,rfl⟩]
  rw [List.map_cons,List.cons_append]
  unfold cq
  rw [er]
  show cq (ks++[a]) [] (i+1) (as.map cz++ts.map dR)=_
  exact vB h as (ks++[a]) (i+1) (by rw [List.append_assoc];exact e)
theorem AI {ls:List (List Nat)}{ts:List aU} (h:NK ls ts):cq [] [] 0 (bG ls ts)=.net ls ts:=vB h ls [] 0 rfl
theorem CM {ls:List (List Nat)}{ts:List aU} (h:NK ls ts):∀r∈bG ls ts,10∉r:=by
 intro r hr z
 rcases List.mem_append.mp hr with hr | hr
 ·obtain ⟨l,hl,rfl⟩:=List.mem_map.mp hr
  rcases List.mem_append.mp z with z | z
  ·exact absurd z (by decide)
  ·rcases List.mem_cons.mp z with z | z
   ·cases z
   ·exact kh (h.nc l hl) (by decide) z
 ·obtain ⟨t,ht,rfl⟩:=List.mem_map.mp hr
  have c:=h.tk t ht
  rcases zS z with z | ⟨p,hp,z⟩
  ·cases z
  have wn:∀n d:Int,10∉cU n d:=fun n d z=>by
   have a2:10∉cF n:=by
    unfold cF
    split
    ·intro h
     rcases List.mem_cons.mp h with h | h
     ·cases h
     ·exact lc (by decide) h
    ·exact lc (by decide)
   unfold cU at z
   split at z
   ·exact a2 z
   ·rcases List.mem_append.mp z with z | z
    ·exact a2 z
    ·rcases List.mem_cons.mp z with z | z
     ·cases z
     ·exact lc (by decide) z
  rcases List.mem_cons.mp hp with rfl | hp
  ·exact absurd z (by decide)
  rcases List.mem_cons.mp hp with rfl | hp
  ·exact kh (h.nc _ c.b) (by decide) z
  rcases List.mem_cons.mp hp with rfl | hp
  ·exact kh (h.nc _ c.e) (by decide) z
  rcases List.mem_cons.mp hp with rfl | hp
  ·exact wn _ _ z
  rcases List.mem_cons.mp hp with rfl | hp
  ·exact wn _ _ z
  rcases List.mem_cons.mp hp with rfl | hp
  ·exact wn _ _ z
  ·cases hp
theorem Cp {ls:List (List Nat)}{ts:List aU} (h:NK ls ts):bG ls ts≠[]:=fun z=>by
 have:=congrArg List.length z
 unfold bG at this
 rw [List.length_append,List.length_map,List.length_map] at this
 change _=0 at this
 have:=h.l1
 trivial
theorem sU {ls:List (List Nat)}{ts:List aU} (h:NK ls ts):bD 10 (jn 10 (bG ls ts))=bG ls ts:=qV (Cp h) (CM h)
inductive Aw (vs:List V) (H:Hp) (Q:VK):Prop
 | mk (p:Addr) (ls:List (List Nat)) (h0:vs=[.ref p]) (h1:H p=some (.tup (ls.map ao))) (h2:1≤ls.length) (h3:ls.length≤200) (h4:(∀l∈ls,hU l)) (h5:ls.Nodup) (h6:∀H',ae H H'→Q (.bl true) H')
def Cr:Sp:=fun vs H Q _=>Aw  vs H Q
theorem vJ (T:Txt K mg):aZ P w K mg base CX0 2 T.are_names_.f T.are_names_.d ["thing"] Cr:=by
 have G_is_name:=#[(qZ)]
 refine T.are_names_.F.ok wE (fun vs H Q E h=>?_) (fun cdv A outer s H vs Q E hr h=>?_)
 ·obtain ⟨p,ls,rfl,_⟩:=h
  rfl
 ·obtain ⟨p,ls,rfl,hp,l1,l2,nc,nd,k⟩:=h
  refine ⟨_,#[#[bt 8 #[PW.pt 3 #[dm 7 #[ci 4 #[bn 3 #[(),(),(@bN _ (K) (by rfl)),lG,T.b_isinstance,(@aj),#[[#[0,df],#[cr 4 qj T.b_tuple (@ba) (by decide) (by decide)]]]] (by intro _;rfl)]] #[dj 4 #[aE 8 (@bI _) #[(),(),(@dQ _ (K) (by rfl)),iC,T.b_len,(@aR),#[[#[0,df]]]] #[()] #[(),()]]]]] #[ac 3 #[aq 4 #[dO 4]]] (@aQ _)] :: #[#[bt 8 #[ci 4 #[bn 3 #[(),(),(@q9 _ (K) rfl (by rfl)),rP,T.b_all,(@iK),#[[#[cg 7 (["name"]) (1) ([]) _ _ _ _ rfl (by kernel_rfl) (@fK _ (K) _ _ _ #[0,df] (by rfl)) (fun _ _ _ _ _ _=>#[0,(),()]) (fun _ _ _ _ _ _=>@bO _) (fun _ _ _ _ _ _=>#[G_is_name,(),T.is_name_,#[[#[0,()]]]]) (by intro _;rfl)]]]] (by intro _;rfl)]] #[ac 3 #[aq 4 #[dO 4]]] (@aQ _)] :: #[ac 3 #[aq 4 #[bY 8 (@bI _) (@zc _ (K) _ _ _ _ _ _ #[0,df] rfl iC T.b_len rL T.b_set (by rfl) (by rfl)) #[(),(),(@dQ _ (K) (by rfl)),iC,T.b_len,(@aR),#[[#[0,df]]]] #[(),()]]]]]],?_⟩
  have lx:(ls.map ao).length=ls.length:=List.length_map ..
  refine ⟨(),_,_,_,(),(bh.tup (E:=ED) hp (ic ls)).ty,cR _,(),ay ?_⟩
  refine ⟨(),p,(),.inr (au.of hp),rfl,(),?_⟩
  rw [pP,decide_eq_false (by trivial)]
  refine ay ⟨(),p,rfl,⟨_,au.of hp⟩,fun D hD=>ir (xs:=ls.map ao) (fun i=>.bl true) (by trivial) hD hp ?_ ?_⟩
  ·intro i x H' R hxi sm kk
   rw [List.getElem?_map] at hxi
   cases el:ls[i]? with
   | none=>rw [el] at hxi;cases hxi
   | some l=>
    rw [el] at hxi
    cases hxi
    have hn:=nc l (List.mem_of_getElem? el)
    refine ⟨dW,(),l,rfl,by have:=hn.hi;trivial,fun H4 s4=>?_⟩
    rw [BE hn]
    exact kk H4 s4
  ·intro H1 s1 hD1
   have e3:(List.range (ls.map ao).length).map (fun _=>V.bl true)=(List.replicate (ls.map ao).length true).map V.bl:=by
    rw [List.map_const',List.map_replicate,List.length_range]
   rw [e3] at hD1
   refine ⟨D,(),ar.of hD1,(),?_⟩
   rw [pK]
   refine ay ?_
   have h1:=s1 _ _ hp
   refine ⟨(),p,ls.map fun l=>(Sum.inr (S l):bz),rfl,.inr (au.of (by rw [h1,List.map_map];rfl)),by rw [List.length_map];trivial,(),p,(),.inr (au.of h1),rfl,?_⟩
   have e7:((ls.map ao).length:Int)=((ls.map fun l=>(Sum.inr (S l):bz)).length:Nat):=by simp
   rw [e7,(yx (ls.map fun l=>(Sum.inr (S l):bz))).mpr (mz nd),decide_eq_true rfl]
   exact k H1 s1
inductive Cq (vs:List V) (H:Hp) (Q:VK):Prop
 | mk (v:V) (ls:List (List Nat)) (ts:List aU) (h0:vs=[v]) (h1:bh ED H v (fC ls ts)) (h2:NK ls ts) (h3:∀H',ae H H'→Q (.bl true) H')
def D8:Sp:=fun vs H Q _=>Cq  vs H Q
theorem zq (T:Txt K mg):aZ P w K mg base CX0 5 T.is_net_.f T.is_net_.d ["thing"] D8:=by
 have G_are_names:=#[(vJ)]
 have G_is_tie:=#[(tN)]
 refine T.is_net_.F.ok oZ (fun vs H Q E h=>?_) (fun cdv A outer s H vs Q E hr h=>?_)
 ·obtain ⟨v,ls,ts,rfl,_⟩:=h
  rfl
 ·obtain ⟨v,ls,ts,rfl,hv,nk,k⟩:=h
  obtain ⟨na,pa,ta,ys,rfl,hna,hpa,hta,ity⟩:=kI hv
  refine ⟨_,#[#[bt 8 #[PW.pt 3 #[dm 7 #[ci 4 #[bn 3 #[(),(),(@bN _ (K) (by rfl)),i8,T.b_isinstance,(@aj),#[[#[0,jf],#[cr 4 mj T.b_tuple (@ba) (by decide) (by decide)]]]] (by intro _;rfl)]] #[dj 4 #[aE 8 (@hV _) #[(),(),(@dQ _ (K) (by rfl)),vP,T.b_len,(@aR),#[[#[0,jf]]]] #[()] #[(),()]]]]] #[ac 3 #[aq 4 #[dO 4]]] (@aQ _)] :: #[#[eG 6 #[0,jf] (@c6 _ (K) _ _ _ _ (2) rfl #[aD 5 #[dC 2 (1) _ oZ.nd rfl (Or.inr k6) (by first | exact .inl rfl | exact .inr rfl | assumption)] #[aD 5 #[2,oZ.nd,jQ] (@cA _) (by rfl)] (by rfl)] (by rfl) (by rfl) (by rfl)) (by rfl) (by rfl) (by rfl)] :: #[#[bt 8 #[PW.pt 3 #[dm 7 #[ci 4 #[bn 3 #[G_are_names,oS,T.are_names_,#[[#[1,(k6)]]]] (by intro _;rfl)]] #[dj 4 #[ci 4 #[bn 3 #[(),(),(@bN _ (K) (by rfl)),i8,T.b_isinstance,(@aj),#[[#[2,jQ],#[cr 4 mj T.b_tuple (@ba) (by decide) (by decide)]]]] (by intro _;rfl)]]]]] #[ac 3 #[aq 4 #[dO 4]]] (@aQ _)] :: #[ac 3 #[aq 4 #[(),(),(@q9 _ (K) rfl (by rfl)),vc,T.b_all,(@iK),#[[#[cg 7 (["tie", "places"]) (1) ([1]) _ _ _ _ rfl (by kernel_rfl) (@fK _ (K) _ _ _ #[2,jQ] (by rfl)) (fun _ _ _ _ _ _=>#[0,(),()]) (fun _ _ _ _ _ _=>@bO _) (fun _ _ _ _ _ _=>#[G_is_tie,(),T.is_tie_,#[[#[1,0],#[0,()]]]]) (by intro _;rfl)]]]]]]]]],?_⟩
  have ly:ys.length=ts.length:=by rw [ity.length,List.length_map]
  have l2:=nk.l2
  refine ⟨(),_,_,_,(),hv.ty,cR _,(),ay ⟨(),na,(),.inr (au.of hna),rfl,(),ay ?_⟩⟩
  refine ⟨(),na,[.ref pa,.ref ta],rfl,au.of hna,rfl,_,(),_,(),rfl,?_⟩
  refine ⟨(),pa,ls,rfl,hpa,nk.l1,by trivial,nk.nc,nk.nd,fun H1 s1=>⟨(),ay ?_⟩⟩
  refine ⟨(),_,_,_,(),(bh.tup (E:=ED) (s1 _ _ hta) (ity.mono s1.toE)).ty,cR _,(),ay ?_⟩
  refine ⟨(),ta,rfl,⟨_,au.of (s1 _ _ hta)⟩,fun D hD=>ir (xs:=ys) (fun i=>.bl true) (by trivial) hD (s1 _ _ hta) ?_ ?_⟩
  ·intro i x H' R hxi sm kk
   obtain ⟨dx,e1,g1⟩:=ity.get hxi
   rw [List.getElem?_map] at e1
   cases et:ts[i]? with
   | none=>rw [et] at e1;cases e1
   | some t=>
    rw [et] at e1
    cases e1
    obtain ⟨r1,r2⟩:=ur (nk.tk t (List.mem_of_getElem? et))
    have gx:=g1.mono (s1.trans sm).toE
    rw [←r1] at gx
    refine ⟨dW,(),(),pa,x,ls,l4 t,rfl,(s1.trans sm) _ _ hpa,gx,fun H4 s4=>?_⟩
    rw [r2]
    exact kk H4 s4
  ·intro H2 s2 hD2
   have e3:(List.range ys.length).map (fun _=>V.bl true)=(List.replicate ys.length true).map V.bl:=by
    rw [List.map_const',List.map_replicate,List.length_range]
   rw [e3] at hD2
   refine ⟨D,(),ar.of hD2,?_⟩
   rw [pK]
   exact k H2 (s1.trans s2)
end
end K66
namespace K66
open PySem L2 PySem.NumText
set_option maxHeartbeats 4000000
section
variable {P:Program}{w:World}{K:PySem.W.Frag}{mg:Str→Option Value}{base:Heap}
inductive Co (vs:List V) (H:Hp) (Q:VK):Prop
 | mk (v:V) (t:aU) (h0:vs=[v]) (h1:bh ED H v (lQ t)) (h2:zu t) (h3:∀H',ae H H'→Q (.str (S (dR t))) H')
def D5:Sp:=fun vs H Q _=>Co  vs H Q
theorem ym (T:Txt K mg):aZ P w K mg base CX0 4 T.tie_row_.f T.tie_row_.d ["tie"] D5:=by
 have G_fraction_text:=#[(qy)]
 refine T.tie_row_.F.ok gP (fun vs H Q E h=>?_) (fun cdv A outer s H vs Q E hr h=>?_)
 ·obtain ⟨v,t,rfl,_⟩:=h
  rfl
 ·obtain ⟨v,t,rfl,dv,c,k⟩:=h
  obtain ⟨a,om,og,op,rfl,ha,hm,hg,hp⟩:=v0 dv
  refine ⟨_,#[#[eG 6 #[0,uG] (@c6 _ (K) _ _ _ _ (5) rfl #[aD 5 #[1,gP.nd,k8] #[aD 5 #[2,gP.nd,nL] #[aD 5 #[3,gP.nd,md] #[aD 5 #[4,gP.nd,mr] #[aD 5 #[5,gP.nd,lq] (@cA _) (by rfl)] (by rfl)] (by rfl)] (by rfl)] (by rfl)] (by rfl) (by rfl) (by rfl)) (by rfl) (by rfl) (by rfl)] :: #[ac 3 #[aq 4 #[sr 6 #[kH 6 #[jD 6 #[1,k8] #[kH 6 #[jD 6 #[2,nL] #[kH 6 #[jD 6 #[G_fraction_text,d6,T.fraction_text_,#[[#[3,md]]]] #[kH 6 #[jD 6 #[G_fraction_text,d6,T.fraction_text_,#[[#[4,mr]]]] #[kH 6 #[jD 6 #[G_fraction_text,d6,T.fraction_text_,#[[#[5,lq]]]] (@uZ _)]]]]]]]]]]]]]],?_⟩
  have a1:=gM c.m
  have a2:=gM c.g
  have a3:=gM c.p
  have a4:=c.b
  have a5:=c.e
  refine fe fun D1 nD1=>⟨(),a,(),au.of ha,rfl,_,(),_,(),_,(),_,(),_,(),rfl,nD1 _ _ ?_⟩
  refine mE fun Q2 n2=>?_
  have lw:d7.length=3:=rfl
  have lo:([32]:List Nat).length=1:=rfl
  refine ⟨by nofun,?_⟩
  rw [show (Str.empty++Str.ofString "tie ")=S (d7++[32]) by nofun]
  refine ⟨(),S t.bg,rfl,by simp only [bM,bu,List.length_append];trivial,?_⟩
  rw [bM,Bt]
  refine ⟨by simp only [bM,bu,List.length_append];trivial,?_⟩
  rw [bM]
  refine ⟨(),S t.en,rfl,by simp only [bM,bu,List.length_append];trivial,?_⟩
  rw [bM]
  refine ⟨by simp only [bM,bu,List.length_append];trivial,?_⟩
  rw [bM]
  refine ⟨(),om,t.most.1,t.most.2,rfl,hm,c.m.1,c.m.2.1,c.m.2.2,fun H1 s1=>⟨(),by simp only [bM,bu,List.length_append];trivial,?_⟩⟩
  rw [bM]
  refine ⟨by simp only [bM,bu,List.length_append];trivial,?_⟩
  rw [bM]
  refine ⟨(),og,t.gain.1,t.gain.2,rfl,s1 _ _ hg,c.g.1,c.g.2.1,c.g.2.2,fun H2 s2=>⟨(),by simp only [bM,bu,List.length_append];trivial,?_⟩⟩
  rw [bM]
  refine ⟨by simp only [bM,bu,List.length_append];trivial,?_⟩
  rw [bM]
  refine ⟨(),op,t.price.1,t.price.2,rfl,(s1.trans s2) _ _ hp,c.p.1,c.p.2.1,c.p.2.2,fun H3 s3=>⟨(),by simp only [bM,bu,List.length_append];trivial,?_⟩⟩
  rw [bM]
  refine ⟨by simp only [bu,List.length_append];trivial,n2 _ _ ?_⟩
  have e:d7++[32]++t.bg++[32]++t.en++[32]++cU t.most.1 t.most.2++[32]++cU t.gain.1 t.gain.2++[32]++cU t.price.1 t.price.2=dR t:=by
   unfold dR
   simp [jn]
  rw [e]
  exact k H3 ((s1.trans s2).trans s3)
theorem wX (T:Txt K mg):aZ P w K mg base CX0 5 T.net_text_.f T.net_text_.d ["net"] vo:=by
 have G_tie_row:=#[(ym)]
 refine T.net_text_.F.ok wM (fun vs H Q E h=>?_) (fun cdv A outer s H vs Q E hr h=>?_)
 ·obtain ⟨v,ls,ts,rfl,_⟩:=h
  rfl
 ·obtain ⟨v,ls,ts,rfl,hv,hl,ht,hlt,k⟩:=h
  obtain ⟨na,pa,ta,ys,rfl,hna,hpa,hta,ity⟩:=kI hv
  refine ⟨_,#[ac 3 #[aq 4 (@cu _ (K) _ _ _ _ _ _ _ _ _ _ _ PySem.F.plainAttrs_str PySem.F.slot_str_join PySem.F.type_str_join (@qz _ (K) (by rfl)) #[aN 4] #[[#[ag 8 (@pI _) #[cg 7 (["place"]) (1) ([]) _ _ _ _ rfl (by kernel_rfl) (@fK _ (K) _ _ _ #[#[0,mm][#[()]]] (by rfl)) (fun _ _ _ _ _ _=>#[0,(),()]) (fun _ _ _ _ _ _=>@bO _) (fun _ _ _ _ _ _=>#[sr 6 #[kH 6 #[jD 6 #[0,()] (@uZ _)]]]) (by intro _;rfl)] #[cg 7 (["tie"]) (1) ([]) _ _ _ _ rfl (by kernel_rfl) (@fK _ (K) _ _ _ #[#[0,mm][#[()]]] (by rfl)) (fun _ _ _ _ _ _=>#[0,(),()]) (fun _ _ _ _ _ _=>@bO _) (fun _ _ _ _ _ _=>#[G_tie_row,(),T.tie_row_,#[[#[0,()]]]]) (by intro _;rfl)]]]] (by rfl) (by rfl) (by rfl) (by rfl) (by rfl) (by rfl))]],?_⟩
  have lls:(ls.map ao).length=ls.length:=List.length_map ..
  have lys:ys.length=ts.length:=by rw [ity.length,List.length_map]
  refine mE fun Q1 n1=>⟨rfl,(),na,_,_,(),rfl,au.of hna,rfl,pa,rfl,⟨_,au.of hpa⟩,fun R hR=>ir (xs:=ls.map ao) (fun i=>((ls[i]?).map fun l=>ao (cz l)).getD .non) (by rw [lls];trivial) hR hpa ?_ ?_⟩
  ·intro i x H' R' ex sm kk
   rw [List.getElem?_map] at ex
   cases el:ls[i]? with
   | none=>rw [el] at ex;cases ex
   | some l=>
    rw [el] at ex kk
    cases ex
    have h8:=hl l (List.mem_of_getElem? el)
    have lp:b6.length=5:=rfl
    have lo:([32]:List Nat).length=1:=rfl
    refine ⟨dW,by nofun,?_⟩
    rw [show (Str.empty++Str.ofString "place ")=S (b6++[32]) by nofun]
    refine ⟨(),S l,rfl,by simp only [bM,bu,List.length_append];trivial,?_⟩
    rw [bM]
    refine ⟨by simp only [bu,List.length_append];trivial,?_⟩
    have e:b6++[32]++l=cz l:=by unfold cz;simp
    rw [e]
    exact kk H' (ae.refl _)
  intro H1 s1 hR1
  have eR:(List.range (ls.map ao).length).map (fun i=>((ls[i]?).map fun l=>ao (cz l)).getD .non)=(ls.map cz).map ao:=by
   rw [lls,fQ (fun i=>((ls[i]?).map fun l=>ao (cz l)).getD .non) (fun l=>ao (cz l)) ls (fun i x e=>by rw [e];rfl),List.map_map]
   rfl
  rw [eR] at hR1
  refine ⟨(),na,_,_,(),rfl,au.of (s1 _ _ hna),rfl,ta,rfl,⟨_,au.of (s1 _ _ hta)⟩,fun R2 hR2=>ir (xs:=ys) (fun i=>((ts[i]?).map fun t=>ao (dR t)).getD .non) (by trivial) hR2 (s1 _ _ hta) ?_ ?_⟩
  ·intro i x H' R' ex sm kk
   obtain ⟨td,et,dx⟩:=ity.get ex
   rw [List.getElem?_map] at et
   cases eti:ts[i]? with
   | none=>rw [eti] at et;cases et
   | some t=>
    rw [eti] at et kk
    cases et
    exact ⟨dW,(),x,t,rfl,dx.mono (s1.trans sm).toE,ht t (List.mem_of_getElem? eti),fun H4 s4=>kk H4 s4⟩
  intro H2 s2 hR3
  have eR2:(List.range ys.length).map (fun i=>((ts[i]?).map fun t=>ao (dR t)).getD .non)=(ts.map dR).map ao:=by
   rw [lys,fQ (fun i=>((ts[i]?).map fun t=>ao (dR t)).getD .non) (fun t=>ao (dR t)) ts (fun i x e=>by rw [e];rfl),List.map_map]
   rfl
  rw [eR2] at hR3
  have lr:(bG ls ts).length≤200:=by unfold bG;rw [List.length_append,List.length_map,List.length_map];exact hlt
  have sl:=wF (pd hl ht)
  refine ⟨R,R2,_,(),rfl,s2 _ _ hR1,hR3,(by simp only [List.length_map];trivial),fun R3 H3 n3=>⟨R3,10,bG ls ts,congrArg V.str AS,rfl,ar.of (by rw [n3.at'];unfold bG;simp),by trivial,n1 _ _ (k H3 ((s1.trans s2).trans n3.sm))⟩⟩
end
end K66
namespace K66
open PySem L2 PySem.NumText
set_option maxHeartbeats 4000000
def o7 (k z:Nat):List Nat:=List.replicate (1+k / 26) (97+k % 26)++List.replicate z 122++[97]
theorem Db:∀i<30,∀j<30,∀y<3,∀z<3,o7 i y=o7 j z→i=j:=by nofun
theorem A0 {k z:Nat} (hk:k<30) (hz:z<3):hU (o7 k z):=by
 have h:∀i<30,∀z<3,(1≤(o7 i z).length∧(o7 i z).length≤8)∧∀c∈o7 i z,97≤c∧c≤122:=by nofun
 exact ⟨(h k hk z hz).1.1,(h k hk z hz).1.2,(h k hk z hz).2⟩
def GN (ns:List (List Nat)):Prop:=∀(j:Nat) l,ns[j]?=some l→∃z,z<3∧l=o7 j z
theorem GN.nd {ns:List (List Nat)} (h:GN ns) (hl:ns.length≤30):ns.Nodup:=by
 rw [List.nodup_iff_pairwise_ne,List.pairwise_iff_getElem]
 intro i j hi hj hij e
 obtain ⟨y,hy,e1⟩:=h i _ (List.getElem?_eq_getElem hi)
 obtain ⟨z,hz,e2⟩:=h j _ (List.getElem?_eq_getElem hj)
 rw [e1,e2] at e
 have:=Db i (by trivial) j (by trivial) y hy z hz e
 trivial
theorem GN.nc {ns:List (List Nat)} (h:GN ns) (hl:ns.length≤30):∀l∈ns,hU l:=fun l hm=>by
 obtain ⟨j,hj⟩:=List.getElem?_of_mem hm
 obtain ⟨z,hz,rfl⟩:=h j l hj
 exact A0 (by have:=(List.getElem?_eq_some_iff.mp hj).1;trivial) hz
section
variable {P:Program}{w:World}{K:PySem.W.Frag}{mg:Str→Option Value}{base:Heap}
theorem GB {b x:Addr}{H J:Hp}{t:Int} (s:aJ (Eb b) H J) (B:Bx J b t) (h:J x=none):H x=none:=by
 cases e:H x with
 | none=>rfl
 | some o=>
  by_cases z:x=b
  ·rw [z] at h;exact absurd rfl (B.ne (p:=b) h)
  ·rw [s.old x o z e] at h;cases h
inductive AF (vs:List V) (H:Hp) (Q:VK):Prop
 | mk (b:Addr) (t:Int) (h0:vs=[.ref b]) (h1:Bx H b t) (h2:0≤t) (h3:t≤800000) (h4:∀(v:V) (ls:List (List Nat)) (ts:List aU) (t':Int) (H':Hp),aJ (Eb b) H H'→bh ED H' v (fC ls ts)→NK ls ts→Bx H' b t'→t≤t'→t'≤t+600→Q v H')
def C9:Sp:=fun vs H Q _=>AF  vs H Q
theorem wD (T:Txt K mg):aZ P w K mg base CX0 3 T.l_great_net_.f T.l_great_net_.d ["_law_box_here"] C9:=by
 have G_l_take:=#[(jo)]
 have G_l_frac:=#[(ji)]
 refine T.l_great_net_.F.ok bR (fun vs H Q E h=>?_) (fun cdv A outer s H vs Q E hr h=>?_)
 ·obtain ⟨b,t,rfl,_⟩:=h
  rfl
 ·obtain ⟨b,t,rfl,B,t0,t1,k⟩:=h
  refine ⟨_,#[#[1,bR.nd,bQ,#[ag 8 (@bw _) #[()] #[G_l_take,dk,T.l_take_,#[[#[0,(cf)],#[()]]]]]] :: #[#[jH 2 (2) _ _ _ _ bR.nd rfl (Or.inr kZ) #[aN 4] (by rfl) (by first | exact .inl rfl | exact .inr rfl | assumption)] :: #[#[3,bR.nd,cI,#[be 9 (@cB _ (K) (by rfl)) f9 T.b_tuple (@ba) #[[#[cg 7 (["_law_k", "_law_box_here", "_law_letters"]) (1) ([0,2]) _ _ _ _ rfl (by kernel_rfl) #[dy 6 f6 T.b_range #[[#[1,bQ]]] (by rfl)] (fun _ _ _ _ _ _=>#[0,(),()]) (fun _ _ _ _ _ _=>@bO _) (fun _ _ _ _ _ _=>#[ag 8 (@iu _) #[ag 8 (@iu _) #[ag 8 (@wB _) #[eL 7 (@oE _) #[2,0] #[ag 8 (@fP _) #[0,()] #[()]] (fun _ _=>rfl)] #[ag 8 (@bw _) #[()] #[ag 8 (@xz _) #[0,()] #[()]]]] #[ag 8 (@wB _) #[aN 4] #[G_l_take,(),T.l_take_,#[[#[1,0],#[()]]]]]] #[aN 4]]) (by intro _;rfl)]]] (by decide) (by decide) (by rfl) (by rfl)]] :: #[#[4,bR.nd,fA,#[dz 4 (@bE _)]] :: #[#[iZ 8 PassesOwn.never rfl #[dy 6 f6 T.b_range #[[#[ag 8 (@ft _) #[G_l_take,dk,T.l_take_,#[[#[0,(cf)],#[()]]]] #[be 9 (@oX _) p8 T.b_int (@dn) #[[#[bY 8 (@rB _) #[1,bQ] #[()] #[(),()]]]] (by decide) (by decide) (by rfl) (by rfl)]]]] (by rfl)] #[5,bR.nd,mB] #[#[6,bR.nd,gI,#[G_l_take,dk,T.l_take_,#[[#[0,(cf)],#[1,bQ]]]]] :: #[#[7,bR.nd,i5,#[#[3,cI][#[ag 8 (@fP _) #[ag 8 (@bw _) #[ag 8 (@bw _) #[6,gI] #[()]] #[G_l_take,dk,T.l_take_,#[[#[0,(cf)],#[(),(),(@tU _ rfl),qi,T.b_max,(@rd),#[[#[()],#[ag 8 (@jF _) #[1,bQ] #[()]]]]]]]]] #[1,bQ]]]]] :: #[#[lO 7 (["_law_k", "_law_box_here"]) (1) ([0]) _ _ _ _ (8) _ _ _ bR.nd rfl cW (by kernel_rfl) rfl (by kernel_rfl) #[dy 6 f6 T.b_range #[[#[()]]] (by rfl)] (fun _ _ _ _ _ _=>#[0,(),()]) (fun _ _ _ _ _ _=>@bO _) (fun _ _ _ _ _ _=>#[G_l_frac,(),T.l_frac_,#[[#[G_l_take,(),T.l_take_,#[[#[1,0],#[ag 8 (@kD _) #[()] #[()]]]]],#[ag 8 (@bw _) #[()] #[G_l_take,(),T.l_take_,#[[#[1,0],#[ag 8 (@kD _) #[()] #[()]]]]]]]]]) (by intro _;rfl)] :: #[#[bt 8 #[aE 8 (@bI _) #[#[#[8,cW][#[()]]!][#[()]]] #[()] #[(),()]] #[ac 3 #[eG 6 #[av 5 #[[#[()],#[()]]]] #[rC 7 #[8,cW] #[()] (@zY _) (by intro _;rfl)] (by rfl) (by rfl) (by rfl)]] (@aQ _)] :: #[ac 3 #[jv 4 (@cu _ (K) _ _ _ _ _ _ _ _ _ _ _ PySem.F.plainAttrs_list PySem.F.slot_list_append PySem.F.type_list_append (@iA _) #[4,fA] #[[#[ag 8 (@wq _) #[av 5 #[[#[#[3,cI][#[6,gI]]],#[7,i5]]]] #[be 9 (@cB _ (K) (by rfl)) f9 T.b_tuple (@ba) #[[#[8,cW]]] (by decide) (by decide) (by rfl) (by rfl)]]]] (by rfl) (by rfl) (by rfl) (by rfl) (by rfl) (by rfl)) (by rfl)]]]]]] (by intro _;rfl)] :: #[ac 3 #[aq 4 #[av 5 #[[#[3,cI],#[be 9 (@cB _ (K) (by rfl)) f9 T.b_tuple (@ba) #[[#[4,fA]]] (by decide) (by decide) (by rfl) (by rfl)]]]]]]]]]]],?_⟩
  refine bF fun Q1 nA1=>⟨(),b,30,t,rfl,B,by decide,by decide,by trivial,by trivial,fun r t2 H2 r0 r1 h2a h2b s2 B2=>⟨_,(),rfl,(fun (mn:Int) (mn1:1≤mn) (mn2:mn≤30)=>(nA1 (.int mn) H2 ?_:Q1 (.int mn) H2)) (1+r) (by trivial) (by trivial)⟩⟩
  refine bF fun Q2 nA2=>nA2 _ _ ?_
  refine bF fun Q3 nA3=>⟨(),mn,rfl,by trivial,by trivial,fun D hD=>dq (n:=mn.toNat) (fun i H' xs=>aV fun (ns:List (List Nat)) (t':Int)=>xs=ns.map ao∧H' D=some (.lst xs)∧ns.length=i∧GN ns∧Bx H' b t'∧t2≤t'∧t'≤t2+i∧aJ (Eb b) H2 H') (eJ (by trivial)) ⟨[],t2,rfl,ai,rfl,(fun j l h=>by simp at h),B2.same (ae.new hD),by trivial,by trivial,(ae.new hD).toE⟩ ?_ ?_ ?_ ?_ ?_⟩
  ·rintro i H' xs ⟨ns,t',rfl,e1,e2,_⟩
   exact ⟨e1,by rw [List.length_map];trivial⟩
  ·intro i H' xs hi _
   exact hi
  ·intro H' xs _
   exact Nat.le_refl _
  ·have nDb:¬D=b:=fun z=>B2.ne hD z.symm
   have hz:(Str.ofString "abcdefghijklmnopqrstuvwxyz").length≤sizeLine:=by nofun
   have ez:(Str.ofString "z")=S [122]:=by nofun
   have ea:(Str.ofString "a")=S [97]:=by nofun
   rintro i Ha xs x Hb hi ⟨ns,t3,rfl,eD,ln,gn,B3,h3a,h3b,s3⟩ ⟨rfl,rfl⟩
   have hi30:i<30:=by trivial
   refine ⟨dW,(),(),_,(),rfl,(by show (0:Int)<26;decide),_,_,(),rfl,hz,oH (by trivial) (by trivial),(),_,(),rfl,⟨by decide,by decide⟩,_,(),rfl,[97+(((0+(i:Int)) % 26) % 26).toNat],(),rfl,by trivial,by trivial,(by show 1≤100;decide),(),b,3,t3,rfl,B3,by decide,by decide,by trivial,by trivial,fun z t4 Hc z0 z1 h4a h4b s4 B4=>⟨[122],z,congrArg V.str ez,rfl,z0,by trivial,(by show 1≤100;decide),_,(),rfl,?_,_,(),congrArg V.str ea,?_,?_⟩⟩
   ·rw [mO,mO,List.length_replicate,List.length_replicate];trivial
   ·rw [mO,mO,List.length_append,List.length_replicate,List.length_replicate];show _+1≤_;trivial
   have en:(List.replicate (1+(0+(i:Int)) / 26).toNat [97+(((0+(i:Int)) % 26) % 26).toNat]).flatten++(List.replicate z.toNat [122]).flatten++[97]=o7 i z.toNat:=by
    rw [mO,mO]
    unfold o7
    congr 3
    ·trivial
    ·trivial
   rw [en]
   have eD4:=s4.old D _ nDb eD
   refine ⟨eD4,ns++[o7 i z.toNat],t4,by rw [List.map_append];rfl,ai,by rw [List.length_append,ln];rfl,fun j l hj=>?_,?_,by trivial,by trivial,(s3.trans s4).up hD⟩
   ·by_cases hji:j<i
    ·rw [List.getElem?_append_left (by trivial)] at hj
     exact gn j l hj
    ·have hj':j=i:=by
      have:=(List.getElem?_eq_some_iff.mp hj).1
      rw [List.length_append] at this
      simp at this
      trivial
     subst hj'
     rw [List.getElem?_append_right (by trivial),ln,Nat.sub_self] at hj
     cases hj
     exact ⟨z.toNat,by trivial,rfl⟩
   ·have c':Ch Hc D (ns.map ao++[ao (o7 i z.toNat)]) _:=Ch.mk'
    exact B4.ch c' (Ne.symm nDb)
  rintro J3 xs ⟨ls,t3,rfl,eD,ln,gn,B3,h3a,h3b,s3⟩
  have l30:ls.length≤30:=by trivial
  have nd:=gn.nd l30
  have nc:=gn.nc l30
  refine ⟨D,(),ar.of eD,fun pl H4 n4=>nA3 _ _ ?_⟩
  have hpl:H4 pl=some (.tup (ls.map ao)):=n4.at'
  have B4:=B3.same n4.sm
  have s24:aJ (Eb b) H2 H4:=s3.trans n4.sm.toE
  refine bF fun Q5 nA5=>⟨(by show 0≤10000;decide),fun TL H5 n5=>nA5 _ _ ?_⟩
  have nTb:¬TL=b:=fun z=>B4.ne n5.fr z.symm
  have B5:=B4.same n5.sm
  have hpl5:=n5.sm _ _ hpl
  have fT:H2 TL=none:=GB s24 B4 n5.fr
  clear nA1 nA2 nA3 nA5 Q1 Q2 Q3 Q5 gn eD
  have mlen:(ls.length:Int)=mn:=by trivial
  refine fe fun D6 nD6=>⟨(),b,61,t3,rfl,B5,by decide,by decide,by trivial,by trivial,fun r6 t6 H6 r60 r61 h6a h6b s6 B6=>?_⟩
  refine ⟨(),_,(),rfl,.inr ⟨(),_,(),rfl,.inl ⟨by trivial,by trivial⟩,?_⟩⟩
  have hn6:∃n6:Nat,r6*(if decide (1<mn)=true then 1 else 0)=(n6:Int)∧n6≤60∧(0<n6→2≤mn):=by
   by_cases c:1<mn
   ·rw [if_pos (decide_eq_true c),Int.mul_one]
    exact ⟨r6.toNat,by trivial,by trivial,fun _=>by trivial⟩
   ·rw [if_neg (by simpa using c),Int.mul_zero]
    exact ⟨0,rfl,by decide,fun z=>absurd z (by decide)⟩
  obtain ⟨n6,en6,ln6,hn6⟩:=hn6
  refine ⟨n6,congrArg (fun z=>[V.int z]) en6,by trivial,by trivial,?_⟩
  have hT6:=s6.old TL _ nTb n5.at'
  have hpl6:=s6.tup _ _ hpl5
  have s26:aJ (Eb b) H2 H6:=(s24.trans n5.sm.toE).trans s6
  refine lD (fun i σ H'=>HK fun (v5 v6 v7 v8:Option V) (zs:List V) (ts:List aU) (t':Int)=>σ=[some (.ref b),some (.int mn),some (.str (Str.ofString "abcdefghijklmnopqrstuvwxyz")),some (.ref pl),some (.ref TL),v5,v6,v7,v8]∧H' TL=some (.lst zs)∧aI ED H' zs (ts.map lQ)∧ts.length=i∧(∀x∈ts,TK ls x)∧Bx H' b t'∧t6≤t'∧t'≤t6+8*i∧aJ (Eb b) H2 H'∧H' pl=some (.tup (ls.map ao))) ⟨_,_,_,_,[],[],t6,rfl,hT6,.nil,rfl,(fun x hx=>by cases hx),B6,by trivial,by trivial,s26,hpl6⟩ ?_ ?_
  case refine_2=>
   rintro σ G ⟨v5,v6,v7,v8,zs,ts,t7,rfl,hT,iT,lT,cT,BG,h7a,h7b,sG,hplG⟩
   refine nD6 _ _ (mE fun Q8 n8=>⟨(),(),TL,(),ar.of hT,fun u G1 m1=>⟨(by show 2≤10000;decide),fun o G2 m2=>n8 _ _ ?_⟩⟩)
   refine k (.ref o) ls ts t7 G2 (s2.trans (sG.trans (m1.sm.trans m2.sm).toE)) (.tup m2.at' (.cons (.tup ((m1.sm.trans m2.sm) _ _ hplG) (ic ls)) (.cons (.tup (m2.sm _ _ m1.at') (iT.mono (m1.sm.trans m2.sm).toE)) .nil))) ⟨by trivial,by trivial,nc,nd,cT⟩ (BG.same (m1.sm.trans m2.sm)) (by trivial) (by trivial)
  rintro i σ G hi ⟨v5,v6,v7,v8,zs,ts,t7,rfl,hT,iT,lT,cT,BG,h7a,h7b,sG,hplG⟩
  have mn2':2≤mn:=hn6 (by trivial)
  refine pJ (t:=kq _ _) fun D7 nD7=>?_
  refine bF fun Q8 nA8=>⟨(),(),b,mn,t7,rfl,BG,by trivial,kJ (by trivial) (by trivial),by trivial,by trivial,fun f t8 G1 f0 f1 h8a h8b g1 BG1=>nA8 _ _ ?_⟩
  have hplG1:=g1.tup _ _ hplG
  refine bF fun Q9 nA9=>⟨(),(),_,(),rfl,(),(),_,(),rfl,_,(),b,_,t8,rfl,BG1,?_,?_,by trivial,by trivial,fun r t9 G2 r0 r1 h9a h9b g2 BG2=>?_⟩
  ·split <;> trivial
  ·exact kJ (by split <;> trivial) (by split <;> trivial)
  have r1':r<mn - 1:=by split at r1 <;> trivial
  have hplG2:=g2.tup _ _ hplG1
  obtain ⟨q0,q1,q2⟩:=xK (n:=mn) (f:=f) (r:=r) f0 f1 r0 r1'
  obtain ⟨la,ela⟩:∃la,la=(f+1+r) % mn:=⟨_,rfl⟩
  rw [←ela] at q0 q1 q2
  have hat:gk (ls.map ao) ((f+1+r) % mn)=some (ao ls[la.toNat]):=by rw [←ela];exact l8 q0 (by trivial)
  refine ⟨_,(),rfl,(),_,(),rfl,(by show (0:Int)<mn;trivial),pl,_,_,(),rfl,au.of hplG2,hat,nA9 _ _ ?_⟩
  have g02:aJ (Eb b) G G2:=g1.trans g2
  have p39:((10:Int) ^ (39:Int).toNat)=((10 ^ 39:Nat):Int):=by nofun
  have l39:(10 ^ 39:Nat).log2<9000:=by nofun
  have x39:(10 ^ 39:Nat)<10 ^ 40∧(10 ^ 39:Nat)<2 ^ 200∧0<(10 ^ 39:Nat):=by nofun
  have x40:((10:Int) ^ 40)=((10 ^ 40:Nat):Int):=by nofun
  refine bF fun Qa nAa=>⟨3,rfl,by decide,by decide,fun D hD=>dq (n:=3) (fun i H' xs=>aV fun (as:List Addr) (t':Int)=>xs=as.map V.ref∧H' D=some (.lst xs)∧as.length=i∧(∀a∈as,∃p:KM.Fra,H' a=some (fr p)∧qr p∧0≤p.1)∧Bx H' b t'∧t9≤t'∧t'≤t9+2*i∧aJ (Eb b) G2 H') (eJ (by decide)) ⟨[],t9,rfl,ai,rfl,(fun a h=>by cases h),BG2.same (ae.new hD),by trivial,by trivial,(ae.new hD).toE⟩ ?_ ?_ ?_ ?_ ?_⟩
  ·rintro i H' xs ⟨as,t',rfl,e1,e2,_⟩
   exact ⟨e1,by rw [List.length_map];trivial⟩
  ·intro i H' xs hi _
   exact hi
  ·intro H' xs _
   exact Nat.le_refl _
  ·have nDb:¬D=b:=fun z=>BG2.ne hD z.symm
   rintro i Ha xs x Hb hi ⟨as,ta,rfl,eD,la',fa,Ba,ha1,ha2,sa⟩ ⟨rfl,rfl⟩
   refine ⟨dW,(),_,(),rfl,⟨by decide,by decide,by decide⟩,b,_,ta,rfl,Ba,by rw [p39];trivial,by rw [p39,Int.natAbs_natCast];exact l39,by trivial,by trivial,fun n tb Hc n0 n1 hb1 hb2 sb Bb=>⟨(),_,(),rfl,⟨by decide,by decide,by decide⟩,b,_,tb,rfl,Bb,by rw [p39];trivial,by rw [p39,Int.natAbs_natCast];exact l39,by trivial,by trivial,fun d tc Hd d0 d1 hc1 hc2 sc Bc=>⟨_,(),rfl,n,1+d,rfl,by trivial,?_,fun o He ne=>?_⟩⟩⟩
   ·rw [p39] at d1
    exact (show Sz 200 (1+d) from by show (1+d).natAbs<2 ^ 200;trivial).mono (by decide)
   rw [p39] at n1 d1
   have sp:=KM.low_spec n (1+d) (by trivial)
   have sg:=(KM.low_sgn (n:=n) (d:=1+d) (by trivial))
   have js:aJ (Eb b) Hb He:=(sb.trans sc).trans ne.sm.toE
   have eD7:=js.old D _ nDb eD
   have c':Ch He D (as.map V.ref++[.ref o]) (aL He D (.lst (as.map V.ref++[.ref o]))):=Ch.mk'
   refine ⟨eD7,as++[o],tc,by rw [List.map_append];rfl,ai,by rw [List.length_append,la'];rfl,fun a ha=>?_,(Bc.same ne.sm).ch c' (Ne.symm nDb),by trivial,by trivial,(sa.trans js).up hD⟩
   rcases List.mem_append.mp ha with h | h
   ·obtain ⟨p,e1,e2⟩:=fa a h
    exact ⟨p,c'.tup (js.tup _ _ e1) eD7,e2⟩
   ·rw [List.mem_singleton.mp h]
    exact ⟨_,c'.tup ne.at' eD7,⟨by trivial,sp.1,by rw [x40];trivial,sp.2.2.1⟩,Int.not_lt.mp fun z=>by have:=sg.2.mp z;trivial⟩
  rintro J xs ⟨as,ta,rfl,eD,la',fa,Ba,ha1,ha2,sa⟩
  refine nAa _ _ ?_
  have nDb:¬D=b:=fun z=>BG2.ne hD z.symm
  obtain ⟨o1,o2,o3,rfl⟩:gf fun x y z=>as=[x,y,z]:=by
   match as,la' with
   | [x,y,z],_=>exact ⟨x,y,z,rfl⟩
  obtain ⟨p1,e1,k1,z1⟩:=fa o1 (by simp)
  obtain ⟨p2,e2,k2,z2⟩:=fa o2 (by simp)
  obtain ⟨p3,e3,k3,z3⟩:=fa o3 (by simp)
  have eD':J D=some (.lst [.ref o1,.ref o2,.ref o3]):=eD
  refine yE (fun σ H'=>aV fun (o2:Addr) (p2:KM.Fra)=>σ=[some (.ref b),some (.int mn),some (.str (Str.ofString "abcdefghijklmnopqrstuvwxyz")),some (.ref pl),some (.ref TL),some (.int (0+(i:Int))),some (.int f),some (ao ls[la.toNat]),some (.ref D)]∧H' D=some (.lst [.ref o1,.ref o2,.ref o3])∧H' o1=some (fr p1)∧H' o2=some (fr p2)∧H' o3=some (fr p3)∧qr p2∧0<p2.1∧Bx H' b ta∧aJ (Eb b) G2 H') ?_ fun nx=>?_
  ·rintro σ' J1 ⟨o2,p2,rfl,hD1,h1,h2,h3,k2,z2,B1,s1⟩
   have g01:aJ (Eb b) G J1:=g02.trans s1
   have hT1:=g01.old TL _ nTb hT
   have hpl1:=g01.tup _ _ hplG
   have hat1:gk (ls.map ao) f=some (ao ls[f.toNat]):=l8 f0 (by trivial)
   have lzs:zs.length=ts.length:=by rw [iT.length,List.length_map]
   refine ⟨(),.inl ⟨rfl,_,ar.of hT1⟩,(),(),pl,_,_,(),rfl,au.of hpl1,hat1,(),(by show 2≤10000;decide),fun q1' J2 m2=>⟨(),D,(),ar.of (m2.sm _ _ hD1),fun q2' J3 m3=>⟨q1',q2',_,(),rfl,m3.sm _ _ m2.at',m3.at',(by show 2+3≤10000;decide),fun u J4 s4 hu=>?_⟩⟩⟩
   have s14:ae J1 J4:=(m2.sm.trans m3.sm).trans s4
   have hT4:=s14 _ _ hT1
   refine ⟨TL,_,(),rfl,hT4,by trivial,fun J5 c5=>nD7 _ _ ?_⟩
   have B4':=B1.same s14
   refine ⟨_,_,_,_,zs++[.ref u],ts++[⟨ls[f.toNat],ls[la.toNat],p1,p2,p3⟩],ta,rfl,c5.at',?_,by rw [List.length_append,lT];rfl,fun x hx=>?_,B4'.ch c5 (fun z=>nTb z.symm),by trivial,by trivial,((sG.trans g01).trans s14.toE).ch c5 fT,c5.tup (s14 _ _ hpl1) hT4⟩
   ·rw [List.map_append]
    refine qA c5 hT4 (iT.tupS (g01.trans s14.toE)) ?_
    exact .tup hu (.cons (.str _) (.cons (.str _) (.cons (rR (p:=p1) (s14 _ _ h1)) (.cons (rR (p:=p2) (s14 _ _ h2)) (.cons (rR (p:=p3) (s14 _ _ h3)) .nil)))))
   ·rcases List.mem_append.mp hx with h | h
    ·exact cT x h
    ·rw [List.mem_singleton.mp h]
     refine ⟨List.getElem_mem _,List.getElem_mem _,fun z=>?_,k1,k2,k3,z1,z2,z3⟩
     have:=iq nd (by trivial) (by trivial) z
     trivial
  ·refine ⟨(),D,_,_,(),rfl,ar.of eD',rfl,o2,_,_,(),rfl,au.of e2,rfl,rfl,(),?_⟩
   rw [pP]
   by_cases c:p2.1=0
   ·rw [decide_eq_true c]
    refine aA ⟨(by show 2≤10000;decide),fun q J1 m1=>⟨(),D,_,_,1,rfl,rfl,m1.sm _ _ eD',rfl,fun J2 c2=>nx _ _ ?_⟩⟩
    have eD1:=m1.sm _ _ eD'
    exact ⟨q,(1,1),rfl,c2.at',c2.tup (m1.sm _ _ e1) eD1,c2.tup m1.at' eD1,c2.tup (m1.sm _ _ e3) eD1,⟨by nofun,by decide,by nofun,by decide⟩,by decide,(Ba.same m1.sm).ch c2 (Ne.symm nDb),(sa.trans m1.sm.toE).ch c2 hD⟩
   ·rw [decide_eq_false c]
    exact ay (nx _ _ ⟨o2,p2,rfl,eD',e1,e2,e3,k2,by trivial,Ba,sa⟩)
end
end K66
namespace K66
open PySem L2 PySem.NumText
set_option maxHeartbeats 8000000
section
variable {P:Program}{w:World}{K:PySem.W.Frag}{mg:Str→Option Value}{base:Heap}
theorem vh {p:KM.Fra} (h:qr p):Wt (rH p) 3 1:=by
 have lt:(10 ^ 40:Nat)≤2 ^ 1900:=by nofun
 have h1:=h.n
 have h2 : p.2.natAbs < 10 ^ 40 := by have:=h.l;have:=h.d;have e:((10:Int) ^ 40)=((10 ^ 40:Nat):Int):=by nofun
                                      trivial
 exact .tuple (k:=0) (.cons (.int (Nat.lt_of_lt_of_le h1 lt)) (.cons (.int (Nat.lt_of_lt_of_le h2 lt)) .nil))
theorem tf {l:List Nat} (h:hU l) {k:Nat}:Wt (.str (S l)) 1 k:=.str ⟨by rw [bu];have:=h.hi;trivial,fun c hc=>by
 rw [sh] at hc
 have:=h.az c hc
 trivial⟩
theorem Dw {ls:List (List Nat)}{ts:List aU} (h:NK ls ts):Wt (fC ls ts) (1*ls.length+1+(12*ts.length+1+0)+1) 4:=
 .tuple (.cons (.tuple ((tD fun l hl=>tf (h.nc l hl)):da _ _ 2)) (.cons (.tuple (tD fun t ht=>.tuple (.cons (tf (h.nc _ (h.tk t ht).b)) (.cons (tf (h.nc _ (h.tk t ht).e)) (.cons (vh (h.tk t ht).m) (.cons (vh (h.tk t ht).g) (.cons (vh (h.tk t ht).p) .nil))))))) .nil))
theorem NK.rev {ls:List (List Nat)}{ts:List aU} (h:NK ls ts):NK ls ts.reverse:=⟨h.l1,by rw [List.length_reverse];exact h.l2,h.nc,h.nd,fun t ht=>h.tk t (List.mem_reverse.mp ht)⟩
structure Gh (ls:List (List Nat)) (ts:List aU):Prop where
 l:(jn 10 (bG ls ts)).length≤1000000
 n:(bD 10 (jn 10 (bG ls ts))).length≤1000
 r:∀r∈bD 10 (jn 10 (bG ls ts)),r.length≤9000
 d:yi (cq [] [] 0 (bD 10 (jn 10 (bG ls ts))))=.tuple [.str "told",fC ls ts]
theorem NK.good {ls:List (List Nat)}{ts:List aU} (h:NK ls ts):Gh ls ts:=by
 have lr:(bG ls ts).length≤200:=by unfold bG;rw [List.length_append,List.length_map,List.length_map];exact h.l2
 have rl:=pd (fun l hl=>(h.nc l hl).hi) h.t64
 have sl:=wF rl
 have jl:=wJ 10 (bG ls ts)
 have:(bG ls ts).length*420≤200*420:=Nat.mul_le_mul_right _ lr
 refine ⟨by trivial,by rw [sU h];trivial,fun r hr=>?_,by rw [sU h,AI h];rfl⟩
 rw [sU h] at hr
 exact Nat.le_trans (rl r hr) (by decide)
theorem vU {ls:List (List Nat)}{ts:List aU} (h:NK ls ts):Dp 6 (.tuple [.str "told",fC ls ts]):=by
 have:=Cz (r:=.net ls ts) fun ls' ts' e=>by
  cases e
  have:=h.l2
  trivial
 exact this
theorem Fw {E:Addr→Prop}{J:Hp}:∀{vs:List V}{ds:List PyData},aI E J vs ds→aI E J vs.reverse ds.reverse
 | _,_,.nil=>.nil
 | _,_,.cons h r=>by rw [List.reverse_cons,List.reverse_cons];exact (Fw r).append (.cons h .nil)
inductive Bg (vs:List V) (H:Hp) (Q:VK):Prop
 | mk (v:V) (ls:List (List Nat)) (ts:List aU) (h0:vs=[v]) (h1:bh ED H v (fC ls ts)) (h2:NK ls ts) (h3:∀H',ae H H'→Q (.bl true) H')
def CS:Sp:=fun vs H Q _=>Bg  vs H Q
theorem Bu (T:Txt K mg):aZ P w K mg base CX0 12 T.l_right_.f T.l_right_.d ["_law_net"] CS:=by
 have G_is_net:=#[(zq)]
 have G_net_text:=#[(wX)]
 have G_l_text_of:=#[(yu)]
 have G_l_all_told:=#[(w5)]
 have G_l_same:=Ad (P:=P) (w:=w) (base:=base) T 6
 refine T.l_right_.F.ok iI (fun vs H Q E h=>?_) (fun cdv A outer s H vs Q E hr h=>?_)
 ·obtain ⟨v,ls,ts,rfl,_⟩:=h
  rfl
 ·obtain ⟨v,ls,ts,rfl,hv,nk,k⟩:=h
  obtain ⟨na,pa,ta,ys,rfl,hna,hpa,hta,ity⟩:=kI hv
  refine ⟨_,#[#[bt 8 #[aE 8 (@Ds _) #[G_is_net,qG,T.is_net_,#[[#[0,bX]]]] #[dO 4] #[(),()]] #[ac 3 #[aq 4 #[dO 4]]] (@aQ _)] :: #[#[1,iI.nd,jd,#[be 9 #[tH 2 hr] jX T.b_str (@bZ) #[[#[0,bX]]] (by decide) (by decide) (by rfl) (by rfl)]] :: #[#[iZ 8 PassesOwn.never rfl #[dy 6 qY T.b_range #[[#[()]]] (by rfl)] #[2,iI.nd,ql] #[#[3,iI.nd,fJ,#[G_net_text,oJ,T.net_text_,#[[#[0,bX]]]]] :: #[#[bt 8 #[PW.pt 3 #[dm 7 #[ci 4 #[bn 3 #[(),(),(@bN _ (K) (by rfl)),mI,T.b_isinstance,(@aj),#[[#[3,fJ],#[cr 4 jX T.b_str (@bZ) (by decide) (by decide)]]]] (by intro _;rfl)]] #[dm 7 #[aE 8 (@hV _) #[3,fJ] #[G_l_text_of,je,T.l_text_of_,#[[#[0,bX]]]] #[(),()]] #[dj 4 #[aE 8 (@hV _) #[be 9 #[tH 2 hr] jX T.b_str (@bZ) #[[#[0,bX]]] (by decide) (by decide) (by rfl) (by rfl)] #[1,jd] #[(),()]]]]]] #[ac 3 #[aq 4 #[dO 4]]] (@aQ _)] :: #[ac 3 #[bt 8 #[ci 4 #[bn 3 #[G_l_same,kO,T.l_same_,#[[#[G_l_all_told,iM,T.l_all_told_,#[[#[aN 4],#[3,fJ]]]],#[av 5 #[[#[aN 4],#[0,bX]]]]]]] (by intro _;rfl)]] #[ac 3 #[aq 4 #[dO 4]]] (@aQ _)]]]] (by intro _;rfl)] :: #[#[4,iI.nd,eS,#[av 5 #[[#[#[0,bX][#[()]]],#[DF 7 #[#[0,bX][#[()]]] #[d9 3 #[uU 6 (@rZ _) #[()]]]]]]]] :: #[ac 3 #[aq 4 #[G_l_same,kO,T.l_same_,#[[#[G_l_all_told,iM,T.l_all_told_,#[[#[aN 4],#[G_l_text_of,je,T.l_text_of_,#[[#[4,eS]]]]]]],#[av 5 #[[#[aN 4],#[4,eS]]]]]]]]]]]]],?_⟩
  have wt:=Dw nk
  have l2:=nk.l2
  have gd:=nk.good
  have n8:∀l∈ls,l.length≤8:=fun l hl=>(nk.nc l hl).hi
  refine fe fun D1 nD1=>⟨(),_,ls,ts,rfl,hv,nk,fun H1 s1=>⟨true,true,rfl,rfl,(),ay (nD1 _ _ ?_)⟩⟩
  have hv1:=hv.mono s1.toE
  refine bF fun Q2 nA2=>⟨(),na,fC ls ts,ED,_,(),hv1,wt,by trivial,by decide,nA2 _ _ ?_⟩
  refine fe fun D3 nD3=>⟨2,rfl,by decide,by decide,lD (fun i σ H'=>gf fun (v2 v3 v4:Option V)=>σ=[some (.ref na),some (.str (fC ls ts).shown),v2,v3,v4]∧ae H1 H') ⟨_,_,(),ae.refl _⟩ ?_ ?_⟩
  ·rintro i σ H2 hi ⟨v2,v3,v4,rfl,s2⟩
   have hv2:=hv1.mono s2.toE
   refine pJ (t:=kq _ _) fun D4 nD4=>?_
   refine bF fun Q5 nA5=>⟨(),_,ls,ts,rfl,hv2,n8,nk.t64,l2,fun H3 s3=>nA5 _ _ ?_⟩
   have hv3:=hv2.mono s3.toE
   refine fe fun D6 nD6=>⟨(),_,_,_,(),fX.str _,gL (.str (S (jn 10 (bG ls ts)))),(),ay ?_⟩
   refine ⟨(),(),_,ls,ts,rfl,hv3,n8,nk.t64,l2,fun H4 s4=>⟨rfl,(),?_⟩⟩
   rw [decide_eq_true rfl]
   have hv4:=hv3.mono s4.toE
   refine ay ⟨(),na,fC ls ts,ED,_,(),hv4,wt,by trivial,by decide,(),rfl,(),?_⟩
   rw [decide_eq_true rfl]
   refine ay (nD6 _ _ ?_)
   refine ⟨(),jn 10 (bG ls ts),rfl,gd.l,gd.n,gd.r,fun u H5 s5 du=>⟨(),(by show 2≤10000;decide),fun q H6 n6=>?_⟩⟩
   rw [gd.d] at du
   refine ⟨u,.ref q,_,ED,rfl,du.mono n6.sm.toE,.tup n6.at' (.cons (.str _) (.cons (hv4.mono (s5.trans n6.sm).toE) .nil)),vU nk,fun H7 s7=>⟨(),ay (nD4 _ _ ⟨_,_,(),((((s2.trans s3).trans s4).trans s5).trans n6.sm).trans s7⟩)⟩⟩
  rintro σ H2 ⟨v2,v3,v4,rfl,s2⟩
  refine nD3 _ _ ?_
  have s02:=s1.trans s2
  have hna2:=s02 _ _ hna
  refine bF fun Q4 nA4=>⟨(),na,_,_,(),rfl,au.of hna2,rfl,(),na,_,_,(),rfl,au.of hna2,rfl,(),(),rfl,.inr ⟨false,ta,ys,rfl,s02 _ _ hta,fun p H3 s3 ob _=>⟨(by show 2≤10000;decide),fun q H4 n4=>nA4 _ _ ?_⟩⟩⟩
  have hp3:H3 p=some (.tup ys.reverse):=ob
  have s24:=s3.trans n4.sm
  have hq:bh ED H4 (.ref q) (fC ls ts.reverse):=by
   refine .tup n4.at' (.cons (.tup ((s02.trans s24) _ _ hpa) (ic ls)) (.cons (.tup (n4.sm _ _ hp3) ?_) .nil))
   rw [List.map_reverse]
   exact Fw (ity.mono (s02.trans s24).toE)
  have nr:=nk.rev
  have gr:=nr.good
  refine mE fun Q5 n5=>⟨(),_,ls,ts.reverse,rfl,hq,n8,nr.t64,nr.l2,fun H5 s5=>⟨jn 10 (bG ls ts.reverse),rfl,gr.l,gr.n,gr.r,fun u H6 s6 du=>⟨(),(by show 2≤10000;decide),fun o H7 n7=>?_⟩⟩⟩
  rw [gr.d] at du
  refine ⟨u,.ref o,_,ED,rfl,du.mono n7.sm.toE,.tup n7.at' (.cons (.str _) (.cons (hq.mono ((s5.trans s6).trans n7.sm).toE) .nil)),vU nr,fun H8 s8=>n5 _ _ (k H8 ((((s02.trans s24).trans s5).trans s6).trans (n7.sm.trans s8)))⟩
theorem Bw {a b:Nat}{p:KM.Fra} (h:Gb a b p) (ha:a≤24) (hb:b≤24) (hg:Int.gcd p.1 p.2=1):qr p:=by
 have h1:p.1.natAbs<2 ^ 24:=h.n.mono ha
 have h2:p.2.natAbs<2 ^ 24:=h.d.mono hb
 have h3:=h.pos
 have e:(2 ^ 24:Nat)<10 ^ 40:=by nofun
 have e':((10:Int) ^ 40)=((10 ^ 40:Nat):Int):=by nofun
 exact ⟨by trivial,by trivial,by trivial,hg⟩
theorem GI {ls:List (List Nat)}{t:aU} (h:BN ls t):TK ls t:=⟨h.d.b,h.d.e,h.d.ne,Bw h.d.fm (by decide) (by decide) h.d.mc,Bw h.d.fg (by decide) (by decide) h.gc,Bw h.d.fp (by decide) (by decide) h.pc,h.d.m0,by have:=h.d.g1;trivial,h.p0⟩
inductive Fv (K:PySem.W.Frag) (vs:List V) (H:Hp) (Q:VK):Prop
 | mk (a:Addr) (ns:List Int) (h0:vs=[.ref a]) (h1:ar K H a (ns.map V.int)) (h2:ns.length≤63) (h3:∀H',Q (.bl true) H')
def spLaw (K:PySem.W.Frag):Sp:=fun vs H Q _=>Fv K vs H Q
theorem law_start {H:Hp}{a:Addr}{ns:List Int} (hl:ns.length≤63) (_:sR H) (hS:ar K H a (ns.map V.int)):spLaw K [.ref a] H (fun v _=>v=.bl true) fun _ _ _=>False:=
 ⟨a,ns,rfl,hS,hl,fun _=>rfl⟩
theorem law_ok (T:Txt K mg):aZ P w K mg base CX0 40 T.law_.f T.law_.d ["_law_script"] (spLaw K):=by
 have G_l_folded:=#[(zX)]
 have G_l_box:=#[(D9)]
 have G_l_net_by:=#[(zy)]
 have G_l_great_net:=#[(wD)]
 have G_l_right:=#[(Bu)]
 refine T.law_.F.ok lV (fun vs H Q E h=>?_) (fun cdv A outer s H vs Q E hr h=>?_)
 ·obtain ⟨a,ns,rfl,_⟩:=h
  rfl
 ·obtain ⟨a,ns,rfl,hS,hn,k⟩:=h
  refine ⟨_,#[#[1,lV.nd,jV,#[G_l_folded,sM,T.l_folded_,#[[#[0,sP],#[()]]]]] :: #[#[iZ 8 PassesOwn.never rfl #[dy 6 wN T.b_range #[[#[(),(),(@tU _ rfl),zV,T.b_max,(@rd),#[[#[()],#[(),(),(@dQ _ (K) (by rfl)),Ar,T.b_len,(@aR),#[[#[1,jV]]]]]]]]] (by rfl)] #[2,lV.nd,ul] #[#[3,lV.nd,ib,#[G_l_box,wO,T.l_box_,#[[#[1,jV],#[2,ul]]]]] :: #[#[4,lV.nd,jy,#[G_l_net_by,sC,T.l_net_by_,#[[#[3,ib],#[()],#[()]]]]] :: #[ac 3 #[iZ 8 PassesOwn.never rfl (@fK _ (K) _ _ _ #[av 5 #[[#[4,jy],#[av 5 #[[#[#[4,jy][#[()]]],#[av 5 (@bE _)]]]],#[av 5 #[[#[fO 10 (@xi _ (K) (by rfl)) #[#[4,jy][#[()]]] (@iw _) #[d9 3 #[()]]],#[av 5 (@bE _)]]]],#[G_l_great_net,qa,T.l_great_net_,#[[#[3,ib]]]]]]] (by rfl)) #[5,lV.nd,qp] #[ac 3 #[bt 8 #[ci 4 #[bn 3 #[G_l_right,uP,T.l_right_,#[[#[5,qp]]]] (by intro _;rfl)]] #[ac 3 #[aq 4 #[dO 4]]] (@aQ _)]] (by intro _;rfl)]]]] (by intro _;rfl)] :: #[ac 3 #[aq 4 #[dO 4]]]]],?_⟩
  refine fe fun DA nA=>?_
  refine ⟨(),a,ns,4,rfl,hS,hn,by decide,by decide,fun p ms H1 hp s1 hp1 hm4=>?_⟩
  refine nA _ _ ?_
  have hmx:0≤(if ((ms.map V.int).length:Int) > 2 then ((ms.map V.int).length:Int) else 2)∧(if ((ms.map V.int).length:Int) > 2 then ((ms.map V.int).length:Int) else 2)≤63:=by
   rw [List.length_map]
   split <;> trivial
  refine mW fun D0 nD0 rD0=>⟨(),p,(),.inl (ar.of hp1),_,(),(),by trivial,by trivial,?_⟩
  generalize (if ((ms.map V.int).length:Int) > 2 then ((ms.map V.int).length:Int) else 2)=mx at hmx
  refine lD (fun i σ H'=>mf fun v2 v3 v4 v5=>σ=[some (.ref a),some (.ref p),v2,v3,v4,v5]∧H' p=some (.lst (ms.map V.int))) ⟨_,_,_,(),hp1⟩ ?_ ?_
  case refine_2=>
   rintro σ H' ⟨v2,v3,v4,v5,rfl,_⟩
   exact nD0 _ _ (k _)
  rintro i σ H2 hi ⟨v2,v3,v4,v5,rfl,hp2⟩
  refine pJ (t:=kq _ _) fun DB nB=>?_
  refine fe fun DC nC=>?_
  refine ⟨(),(),p,ms,(),ar.of hp2,by trivial,by trivial,fun b H3 hb s3 B3=>?_⟩
  refine nC _ _ ?_
  have npb:¬p=b:=fun z=>by rw [z,hb] at hp2;cases hp2
  have hp3:=s3 _ _ hp2
  refine bF fun Q5 nA5=>⟨(),b,5,8,0,rfl,B3,by decide,by decide,by decide,by decide,by decide,by decide,fun v ls ts t4 H4 s4 dv l2 l10 nd nc lt1 lt24 tge B4 h4a h4b=>nA5 _ _ ?_⟩
  obtain ⟨na,pa,ta,ys,rfl,hna,hpa,hta,ity⟩:=kI dv
  have hp4:=s4.old p _ npb hp3
  have nk1:NK ls ts:=⟨by trivial,by trivial,nc,nd,fun t ht=>GI (tge t ht)⟩
  have nk2:NK ls []:=⟨by trivial,by show _+0≤_;trivial,nc,nd,fun t ht=>by cases ht⟩
  have nk3:NK (ls.take 1) []:=⟨by rw [List.length_take];trivial,by rw [List.length_take];show _+0≤_;trivial,fun l hl=>nc l (List.mem_of_mem_take hl),nd.sublist (List.take_sublist 1 ls),fun t ht=>by cases ht⟩
  refine ⟨(),(),na,_,_,(),rfl,au.of hna,rfl,(by show 0≤10000;decide),fun e1 J1 m1=>⟨(by show 2≤10000;decide),fun u2 J2 m2=>⟨(),na,_,_,(),rfl,au.of ((m1.sm.trans m2.sm) _ _ hna),rfl,(),pa,(),au.of ((m1.sm.trans m2.sm) _ _ hpa),(m1.sm.trans m2.sm) _ _ hpa,fun p3 J3 z3 h3=>⟨(by show 0≤10000;decide),fun e4 J4 m4=>⟨(by show 2≤10000;decide),fun u3 J5 m5=>?_⟩⟩⟩⟩⟩
  have s45:ae H4 J5:=(((m1.sm.trans m2.sm).trans z3).trans m4.sm).trans m5.sm
  have d2:bh ED J5 (.ref u2) (fC ls []):=.tup (((z3.trans m4.sm).trans m5.sm) _ _ m2.at') (.cons (.tup (s45 _ _ hpa) (ic ls)) (.cons (.tup ((((m2.sm.trans z3).trans m4.sm).trans m5.sm) _ _ m1.at') .nil) .nil))
  have h3':J3 p3=some (.tup ((ls.take 1).map ao)):=by
   rw [h3,lh (by decide),←List.map_take]
   rfl
  have d3:bh ED J5 (.ref u3) (fC (ls.take 1) []):=.tup m5.at' (.cons (.tup ((m4.sm.trans m5.sm) _ _ h3') (ic _)) (.cons (.tup (m5.sm _ _ m4.at') .nil) .nil))
  have d1:bh ED J5 (.ref na) (fC ls ts):=dv.mono s45.toE
  refine ⟨(),b,t4,rfl,B4.same s45,by trivial,by trivial,fun gv gls gts t6 J6 s6 dg nkg B6 h6a h6b=>⟨(by show 4≤10000;decide),fun X J7 m7=>⟨X,rfl,⟨_,au.of m7.at'⟩,?_⟩⟩⟩
  have up:∀{v:V}{d:PyData},bh ED J5 v d→bh ED J7 v d:=fun h=>h.mono ⟨fun _ _ n _=>absurd trivial n,fun a us e=>m7.sm _ _ (s6.tup _ _ e)⟩
  have hp7:J7 p=some (.lst (ms.map V.int)):=m7.sm _ _ (s6.old p _ npb (s45 _ _ hp4))
  have all:∀x∈[V.ref na,V.ref u2,V.ref u3,gv],aV fun ls ts=>bh ED J7 x (fC ls ts)∧NK ls ts:=by
   intro x hx
   rcases List.mem_cons.mp hx with rfl | hx
   ·exact ⟨_,_,up d1,nk1⟩
   rcases List.mem_cons.mp hx with rfl | hx
   ·exact ⟨_,_,up d2,nk2⟩
   rcases List.mem_cons.mp hx with rfl | hx
   ·exact ⟨_,_,up d3,nk3⟩
   rcases List.mem_cons.mp hx with rfl | hx
   ·exact ⟨_,_,dg.mono m7.sm.toE,nkg⟩
   ·cases hx
  refine xS (xs:=[V.ref na,V.ref u2,V.ref u3,gv]) (fun j σ H'=>∃v5,σ=[some (.ref a),some (.ref p),some (.int (0+(i:Int))),some (.ref b),some (.ref na),v5]∧ae J7 H') ⟨(),ae.refl _⟩ ?_ ?_ ?_
  ·rintro j σ H' _ ⟨_,_,sm⟩
   exact au.of (sm _ _ m7.at')
  case refine_3=>
   rintro σ H' ⟨v5,rfl,sm⟩
   exact nB _ _ ⟨_,_,_,(),sm _ _ hp7⟩
  rintro j x σ H' ex ⟨v5,rfl,sm⟩
  obtain ⟨ls',ts',dx,nkx⟩:=all x (List.mem_of_getElem? ex)
  exact ⟨(),x,ls',ts',rfl,dx.mono sm.toE,nkx,fun H8 s8=>⟨(),ay ⟨(),sm.trans s8⟩⟩⟩
end
end K66
namespace K66
open PySem L2
set_option maxHeartbeats 0 in
theorem txt_of {K:PySem.W.Frag}{h:Heap}{mg:Str→Option Value} (y:obs K=due) (X:K.In h) (G:h.Ns mainGlobals mg):∃T:Txt K mg,∀(s:Shared) (u:Value),BindsTo s T.law_.d ⟨[u],[]⟩ [("_law_script",u)]:=by
 have e:∀i,(obs K).1.getD i none=due.1.getD i none:=fun i=>by rw [y]
 have b:∀i,(obs K).2.getD i true=due.2.getD i true:=fun i=>by rw [y]
 refine ⟨{
  b_ValueError:=PySem.W.mg_none_of X G (cb (b 65)),
  b_abs:=PySem.W.mg_none_of X G (cb (b 66)),
  b_all:=PySem.W.mg_none_of X G (cb (b 67)),
  b_bool:=PySem.W.mg_none_of X G (cb (b 68)),
  b_dict:=PySem.W.mg_none_of X G (cb (b 69)),
  b_divmod:=PySem.W.mg_none_of X G (cb (b 70)),
  b_enumerate:=PySem.W.mg_none_of X G (cb (b 71)),
  b_int:=PySem.W.mg_none_of X G (cb (b 72)),
  b_isinstance:=PySem.W.mg_none_of X G (cb (b 73)),
  b_len:=PySem.W.mg_none_of X G (cb (b 74)),
  b_list:=PySem.W.mg_none_of X G (cb (b 75)),
  b_max:=PySem.W.mg_none_of X G (cb (b 76)),
  b_range:=PySem.W.mg_none_of X G (cb (b 77)),
  b_set:=PySem.W.mg_none_of X G (cb (b 78)),
  b_str:=PySem.W.mg_none_of X G (cb (b 79)),
  b_tuple:=PySem.W.mg_none_of X G (cb (b 80)),
  b_zip:=PySem.W.mg_none_of X G (cb (b 81)),
  is_number_:=⟨_,_,PySem.W.mg_of X G (bi (e 0)),ak (e 0),(ak (e 0)).binds (ps:=["thing"]) fun _ _ _ _ _ _=>cY (fun _=>rfl)⟩,
  common_divisor_:=⟨_,_,PySem.W.mg_of X G (bi (e 1)),ak (e 1),(ak (e 1)).binds (ps:=["n", "d"]) fun _ _ _ _ _ _=>eX (fun _ _=>rfl)⟩,
  is_fraction_:=⟨_,_,PySem.W.mg_of X G (bi (e 2)),ak (e 2),(ak (e 2)).binds (ps:=["thing"]) fun _ _ _ _ _ _=>cY (fun _=>rfl)⟩,
  is_from_nought_:=⟨_,_,PySem.W.mg_of X G (bi (e 3)),ak (e 3),(ak (e 3)).binds (ps:=["thing"]) fun _ _ _ _ _ _=>cY (fun _=>rfl)⟩,
  is_above_nought_:=⟨_,_,PySem.W.mg_of X G (bi (e 4)),ak (e 4),(ak (e 4)).binds (ps:=["thing"]) fun _ _ _ _ _ _=>cY (fun _=>rfl)⟩,
  is_name_:=⟨_,_,PySem.W.mg_of X G (bi (e 5)),ak (e 5),(ak (e 5)).binds (ps:=["thing"]) fun _ _ _ _ _ _=>cY (fun _=>rfl)⟩,
  are_names_:=⟨_,_,PySem.W.mg_of X G (bi (e 6)),ak (e 6),(ak (e 6)).binds (ps:=["thing"]) fun _ _ _ _ _ _=>cY (fun _=>rfl)⟩,
  is_tie_:=⟨_,_,PySem.W.mg_of X G (bi (e 7)),ak (e 7),(ak (e 7)).binds (ps:=["places", "thing"]) fun _ _ _ _ _ _=>eX (fun _ _=>rfl)⟩,
  is_net_:=⟨_,_,PySem.W.mg_of X G (bi (e 8)),ak (e 8),(ak (e 8)).binds (ps:=["thing"]) fun _ _ _ _ _ _=>cY (fun _=>rfl)⟩,
  figures_of_:=⟨_,_,PySem.W.mg_of X G (bi (e 9)),ak (e 9),(ak (e 9)).binds (ps:=["number"]) fun _ _ _ _ _ _=>cY (fun _=>rfl)⟩,
  fraction_text_:=⟨_,_,PySem.W.mg_of X G (bi (e 10)),ak (e 10),(ak (e 10)).binds (ps:=["one"]) fun _ _ _ _ _ _=>cY (fun _=>rfl)⟩,
  are_figures_:=⟨_,_,PySem.W.mg_of X G (bi (e 11)),ak (e 11),(ak (e 11)).binds (ps:=["text", "most"]) fun _ _ _ _ _ _=>eX (fun _ _=>rfl)⟩,
  fraction_or_none_:=⟨_,_,PySem.W.mg_of X G (bi (e 12)),ak (e 12),(ak (e 12)).binds (ps:=["text"]) fun _ _ _ _ _ _=>cY (fun _=>rfl)⟩,
  fraction_from_:=⟨_,_,PySem.W.mg_of X G (bi (e 13)),ak (e 13),(ak (e 13)).binds (ps:=["text"]) fun _ _ _ _ _ _=>cY (fun _=>rfl)⟩,
  tie_row_:=⟨_,_,PySem.W.mg_of X G (bi (e 14)),ak (e 14),(ak (e 14)).binds (ps:=["tie"]) fun _ _ _ _ _ _=>cY (fun _=>rfl)⟩,
  net_text_:=⟨_,_,PySem.W.mg_of X G (bi (e 15)),ak (e 15),(ak (e 15)).binds (ps:=["net"]) fun _ _ _ _ _ _=>cY (fun _=>rfl)⟩,
  is_place_row_:=⟨_,_,PySem.W.mg_of X G (bi (e 16)),ak (e 16),(ak (e 16)).binds (ps:=["words"]) fun _ _ _ _ _ _=>cY (fun _=>rfl)⟩,
  tie_from_:=⟨_,_,PySem.W.mg_of X G (bi (e 17)),ak (e 17),(ak (e 17)).binds (ps:=["words"]) fun _ _ _ _ _ _=>cY (fun _=>rfl)⟩,
  net_from_:=⟨_,_,PySem.W.mg_of X G (bi (e 18)),ak (e 18),(ak (e 18)).binds (ps:=["text"]) fun _ _ _ _ _ _=>cY (fun _=>rfl)⟩,
  l_box_:=⟨_,_,PySem.W.mg_of X G (bi (e 19)),ak (e 19),(ak (e 19)).binds (ps:=["_law_script", "_law_k"]) fun _ _ _ _ _ _=>eX (fun _ _=>rfl)⟩,
  l_take_:=⟨_,_,PySem.W.mg_of X G (bi (e 20)),ak (e 20),(ak (e 20)).binds (ps:=["_law_box_here", "_law_many"]) fun _ _ _ _ _ _=>eX (fun _ _=>rfl)⟩,
  l_folded_:=⟨_,_,PySem.W.mg_of X G (bi (e 21)),ak (e 21),(ak (e 21)).binds (ps:=["_law_script", "_law_many"]) fun _ _ _ _ _ _=>eX (fun _ _=>rfl)⟩,
  l_frac_:=⟨_,_,PySem.W.mg_of X G (bi (e 22)),ak (e 22),(ak (e 22)).binds (ps:=["_law_n", "_law_d"]) fun _ _ _ _ _ _=>eX (fun _ _=>rfl)⟩,
  l_product_:=⟨_,_,PySem.W.mg_of X G (bi (e 23)),ak (e 23),(ak (e 23)).binds (ps:=["_law_one", "_law_other"]) fun _ _ _ _ _ _=>eX (fun _ _=>rfl)⟩,
  l_over_:=⟨_,_,PySem.W.mg_of X G (bi (e 24)),ak (e 24),(ak (e 24)).binds (ps:=["_law_one", "_law_other"]) fun _ _ _ _ _ _=>eX (fun _ _=>rfl)⟩,
  l_names_by_:=⟨_,_,PySem.W.mg_of X G (bi (e 25)),ak (e 25),(ak (e 25)).binds (ps:=["_law_box_here", "_law_many"]) fun _ _ _ _ _ _=>eX (fun _ _=>rfl)⟩,
  l_any_gain_:=⟨_,_,PySem.W.mg_of X G (bi (e 26)),ak (e 26),(ak (e 26)).binds (ps:=["_law_box_here"]) fun _ _ _ _ _ _=>cY (fun _=>rfl)⟩,
  l_any_much_:=⟨_,_,PySem.W.mg_of X G (bi (e 27)),ak (e 27),(ak (e 27)).binds (ps:=["_law_box_here"]) fun _ _ _ _ _ _=>cY (fun _=>rfl)⟩,
  l_any_price_:=⟨_,_,PySem.W.mg_of X G (bi (e 28)),ak (e 28),(ak (e 28)).binds (ps:=["_law_box_here"]) fun _ _ _ _ _ _=>cY (fun _=>rfl)⟩,
  l_planted_:=⟨_,_,PySem.W.mg_of X G (bi (e 29)),ak (e 29),(ak (e 29)).binds (ps:=["_law_box_here", "_law_places"]) fun _ _ _ _ _ _=>eX (fun _ _=>rfl)⟩,
  l_net_by_:=⟨_,_,PySem.W.mg_of X G (bi (e 30)),ak (e 30),(ak (e 30)).binds (ps:=["_law_box_here", "_law_most_places", "_law_most_ties"]) fun _ _ _ _ _ _=>Iw (fun _ _ _=>rfl)⟩,
  l_word_of_:=⟨_,_,PySem.W.mg_of X G (bi (e 31)),ak (e 31),(ak (e 31)).binds (ps:=["_law_one"]) fun _ _ _ _ _ _=>cY (fun _=>rfl)⟩,
  l_text_of_:=⟨_,_,PySem.W.mg_of X G (bi (e 32)),ak (e 32),(ak (e 32)).binds (ps:=["_law_net"]) fun _ _ _ _ _ _=>cY (fun _=>rfl)⟩,
  l_all_told_:=⟨_,_,PySem.W.mg_of X G (bi (e 33)),ak (e 33),(ak (e 33)).binds (ps:=["_law_which", "_law_thing"]) fun _ _ _ _ _ _=>eX (fun _ _=>rfl)⟩,
  l_same_:=⟨_,_,PySem.W.mg_of X G (bi (e 34)),ak (e 34),(ak (e 34)).binds (ps:=["_law_found", "_law_due"]) fun _ _ _ _ _ _=>eX (fun _ _=>rfl)⟩,
  l_great_net_:=⟨_,_,PySem.W.mg_of X G (bi (e 35)),ak (e 35),(ak (e 35)).binds (ps:=["_law_box_here"]) fun _ _ _ _ _ _=>cY (fun _=>rfl)⟩,
  l_right_:=⟨_,_,PySem.W.mg_of X G (bi (e 36)),ak (e 36),(ak (e 36)).binds (ps:=["_law_net"]) fun _ _ _ _ _ _=>cY (fun _=>rfl)⟩,
  law_:=⟨_,_,PySem.W.mg_of X G (bi (e 37)),ak (e 37),(ak (e 37)).binds (ps:=["_law_script"]) fun _ _ _ _ _ _=>cY (fun _=>rfl)⟩,
  f_Gaining__init:=_,d_Gaining__init:=_,F_Gaining__init:=ak (e 38),B_Gaining__init:=(ak (e 38)).binds (ps:=["self", "ties"]) fun _ _ _ _ _ _=>eX (fun _ _=>rfl),
  f_NotSoMuch__init:=_,d_NotSoMuch__init:=_,F_NotSoMuch__init:=ak (e 39),B_NotSoMuch__init:=(ak (e 39)).binds (ps:=["self", "most"]) fun _ _ _ _ _ _=>eX (fun _ _=>rfl),
  f_Short__init:=_,d_Short__init:=_,F_Short__init:=ak (e 40),B_Short__init:=(ak (e 40)).binds (ps:=["self", "share"]) fun _ _ _ _ _ _=>eX (fun _ _=>rfl),
  f_Lacking__init:=_,d_Lacking__init:=_,F_Lacking__init:=ak (e 41),B_Lacking__init:=(ak (e 41)).binds (ps:=["self", "place"]) fun _ _ _ _ _ _=>eX (fun _ _=>rfl),
  f_BadRow__init:=_,d_BadRow__init:=_,F_BadRow__init:=ak (e 42),B_BadRow__init:=(ak (e 42)).binds (ps:=["self", "row"]) fun _ _ _ _ _ _=>eX (fun _ _=>rfl),
  f_BadSheet__init:=_,d_BadSheet__init:=_,F_BadSheet__init:=ak (e 43),B_BadSheet__init:=(ak (e 43)).binds (ps:=["self", "row"]) fun _ _ _ _ _ _=>eX (fun _ _=>rfl),
  x_GainError:=_,m_GainError:=PySem.W.mg_of X G (db (b 0)),k_GainError:=(b 15),xb_GainError:=(b 16),
  x_BadNumber:=_,m_BadNumber:=PySem.W.mg_of X G (db (b 1)),k_BadNumber:=(b 17),q_BadNumber:=(b 18),
  x_Taken:=_,m_Taken:=PySem.W.mg_of X G (db (b 2)),k_Taken:=(b 19),q_Taken:=(b 20),
  x_NoPlace:=_,m_NoPlace:=PySem.W.mg_of X G (db (b 3)),k_NoPlace:=(b 21),q_NoPlace:=(b 22),
  x_NoTie:=_,m_NoTie:=PySem.W.mg_of X G (db (b 4)),k_NoTie:=(b 23),q_NoTie:=(b 24),
  x_AsItIs:=_,m_AsItIs:=PySem.W.mg_of X G (db (b 5)),k_AsItIs:=(b 25),q_AsItIs:=(b 26),
  x_NoEnds:=_,m_NoEnds:=PySem.W.mg_of X G (db (b 6)),k_NoEnds:=(b 27),q_NoEnds:=(b 28),
  x_Over:=_,m_Over:=PySem.W.mg_of X G (db (b 7)),k_Over:=(b 29),q_Over:=(b 30),
  x_TooMuch:=_,m_TooMuch:=PySem.W.mg_of X G (db (b 8)),k_TooMuch:=(b 31),q_TooMuch:=(b 32),
  x_Gaining:=_,m_Gaining:=PySem.W.mg_of X G (db (b 9)),k_Gaining:=(b 33),fn_Gaining:=(b 34),st_Gaining:=(b 35),fd_Gaining:=(b 36),q_Gaining:=(b 37),
  x_NotSoMuch:=_,m_NotSoMuch:=PySem.W.mg_of X G (db (b 10)),k_NotSoMuch:=(b 38),fn_NotSoMuch:=(b 39),st_NotSoMuch:=(b 40),fd_NotSoMuch:=(b 41),q_NotSoMuch:=(b 42),
  x_Short:=_,m_Short:=PySem.W.mg_of X G (db (b 11)),k_Short:=(b 43),fn_Short:=(b 44),st_Short:=(b 45),fd_Short:=(b 46),q_Short:=(b 47),
  x_Lacking:=_,m_Lacking:=PySem.W.mg_of X G (db (b 12)),k_Lacking:=(b 48),fn_Lacking:=(b 49),st_Lacking:=(b 50),fd_Lacking:=(b 51),q_Lacking:=(b 52),
  x_BadRow:=_,m_BadRow:=PySem.W.mg_of X G (db (b 13)),k_BadRow:=(b 53),fn_BadRow:=(b 54),st_BadRow:=(b 55),fd_BadRow:=(b 56),q_BadRow:=(b 57),
  x_BadSheet:=_,m_BadSheet:=PySem.W.mg_of X G (db (b 14)),k_BadSheet:=(b 58),fn_BadSheet:=(b 59),st_BadSheet:=(b 60),fd_BadSheet:=(b 61),q_BadSheet:=(b 62),
  em_BadRow_GainError:=(Cv (b 63)),
  kin:=(b 64) },fun s u=>?_⟩
 obtain ⟨_,_,_,_,_,_,_,_,_,z,_⟩:=(ak (e 37):kK K "law" "law" dP _ _).ex
 show BindsTo s (gX K (PySem.W.nsIn K mainGlobals "law")) _ _
 rw [z]
 exact .of_eq rfl
end K66
open PySem PySem.W PyProof.Rows
set_option maxRecDepth 100000 in
set_option maxHeartbeats 0 in
theorem PySem.Challenge.cw_gainroads_k66_nets_as_texts_holds : PySem.Challenge.rw_gainroads_k66_nets_as_texts.Holds := by
 w_on;o_law
 refine holds_openX (q:=K66.qv) (loose:=[]) (Xt:=L2.Xt) (XP:=XL K66.qv []) (Yf:=L2.Yf) (Ya:=fun _=>K66.due) (N:=9198) (L2.left_tree rfl rfl (fun _=>rfl) L2.left) (fun s e=>xl_of s (Bool.and_eq_true_iff.mp e).1) XL.keeps (by rfl) (by rfl) (by rfl) (fun s e=>recFacts_of (Bool.and_eq_true_iff.mp e).2) (by rfl) (by first | assumption | decide +kernel) (by nofun) ⟨rfl,rfl,rfl,rfl,rfl,by nofun⟩ ?hw ?hc
 case hw=>w_witness2
 refine L2.walk_ofY (obs:=K66.obs) (due:=K66.due) (l:=PySem.Challenge.rw_gainroads_k66_nets_as_texts) (n:=63) (k:=40) (x := "_law_script") (CX:=L2.CX0) (sp:=K66.spLaw) rfl (by decide) rfl ⟨rfl,by decide,by decide,rfl⟩ ?F ?S ?C
 case F=>
  intro K w mg fa h y KX G hmg
  obtain ⟨T,hb⟩:=K66.txt_of y KX G
  have e0:=hmg.symm.trans T.law_.m
  cases e0
  exact ⟨T.law_.d,hb,fun base kb nb=>K66.law_ok T⟩
 case S=>exact fun K H a ns hl hO hS=>K66.law_start hl hO hS
 case C=>exact fun _ _ _ _ z=>z
