import PyProof.Rows.All
import Wide.All
import OpenK.AllK
import Wide.FinOn
import Lean
import PyProof.EqAt
import PyProof.EqKinds
import PyProof.TupleCall
import PyProof.CompFree
import PyProof.CompMap
import KE.LcSums
import PyProof.ZipIter
import PyProof.Draws
import KE.KRevSl
import KE.KListMore
import PyProof.Rows.StrJoin2
import PyProof.Rows.StrFin3
import PyProof.StrOps2
import PyProof.NeData
import PyProof.P3Eq
import PyProof.StrLawsRepr
import PyProof.ReprLen
import PyProof.Rows.IntBool
import PyProof.SliceStr2
import PyProof.P3In
import PyProof.Rows.StrLen
import KE.KStrOpen
import PyProof.FitsInt
import PyProof.Rows.ReprOcc
import PyProof.ListRange
import PyProof.AttrMissHeap
import PyProof.FactsAll.zip
import PyProof.FactsAll.tuple_3
import KE.KDictOf
import PyProof.SeqRoads2
import PyProof.DictCompW
import PyProof.Rows.StrInSeq3
import OpenK.KOwn
import KE.KIsAll
import KE.KTryMore
import PyProof.StationsW
import PyProof.RulesAs
import PyProof.NsDelKeeps
import KE.KDictSum
import KE.KIntText
import PyProof.StrCalls2
import PyProof.Rows.StrItems
import PyProof.DictUpdate
import PyProof.Rows.StrSplitCount
import PyProof.Rows.StrFirst
import PyProof.Rows.StrLawsPart
import PyProof.Rows.StrDigitsNeg
import KE.IntTextLaws
import PyProof.Rows.FStr
import PyProof.SeqRoads
import PyProof.Rows.SeqMore
import KE.KEqDict
import PyProof.FactsAll.tuple_2
import PyProof.DictValues
import PyProof.FactsAll.dict_4
import PySem.Challenge.RW_gainroads_k55_sums_of_hours
set_option Elab.async false
set_option linter.all false
set_option maxRecDepth 100000
local macro_rules | `(tactic| nofun)=>`(tactic| decide +kernel)
local macro_rules | `(⟨$xs,*⟩)=>do
 let es:=xs.getElems
 unless es.any (fun e=>match e with | `(())=>true | _=>false) do Lean.Macro.throwUnsupported
 let mut o:=#[]
 for e in es do
  match e with
  | `(())=>o:=(o.push (←`(_))).push (←`(rfl))
  | _=>o:=o.push e
 `(⟨$o,*⟩)
set_option genSizeOf false
set_option genInjectivity false
namespace L2
inductive bE {α0 α1:Type} (p:α0→α1→Prop):Prop
 | mk (a0:α0) (a1:α1) (h:p a0 a1)
inductive gH {α0 α1 α2:Type} (p:α0→α1→α2→Prop):Prop
 | mk (a0:α0) (a1:α1) (a2:α2) (h:p a0 a1 a2)
inductive xm {α0 α1 α2 α3:Type} (p:α0→α1→α2→α3→Prop):Prop
 | mk (a0:α0) (a1:α1) (a2:α2) (a3:α3) (h:p a0 a1 a2 a3)
inductive wd {α0 α1 α2 α3 α4:Type} (p:α0→α1→α2→α3→α4→Prop):Prop
 | mk (a0:α0) (a1:α1) (a2:α2) (a3:α3) (a4:α4) (h:p a0 a1 a2 a3 a4)
inductive Gu {α0 α1 α2 α3 α4 α5:Type} (p:α0→α1→α2→α3→α4→α5→Prop):Prop
 | mk (a0:α0) (a1:α1) (a2:α2) (a3:α3) (a4:α4) (a5:α5) (h:p a0 a1 a2 a3 a4 a5)
inductive Gv {α0 α1 α2 α3 α4 α5 α6:Type} (p:α0→α1→α2→α3→α4→α5→α6→Prop):Prop
 | mk (a0:α0) (a1:α1) (a2:α2) (a3:α3) (a4:α4) (a5:α5) (a6:α6) (h:p a0 a1 a2 a3 a4 a5 a6)
inductive BA {α0 α1 α2 α3 α4 α5 α6 α7:Type} (p:α0→α1→α2→α3→α4→α5→α6→α7→Prop):Prop
 | mk (a0:α0) (a1:α1) (a2:α2) (a3:α3) (a4:α4) (a5:α5) (a6:α6) (a7:α7) (h:p a0 a1 a2 a3 a4 a5 a6 a7)
inductive HA {α0 α1 α2 α3 α4 α5 α6 α7 α8:Type} (p:α0→α1→α2→α3→α4→α5→α6→α7→α8→Prop):Prop
 | mk (a0:α0) (a1:α1) (a2:α2) (a3:α3) (a4:α4) (a5:α5) (a6:α6) (a7:α7) (a8:α8) (h:p a0 a1 a2 a3 a4 a5 a6 a7 a8)
inductive GO {α0 α1 α2 α3 α4 α5 α6 α7 α8 α9:Type} (p:α0→α1→α2→α3→α4→α5→α6→α7→α8→α9→Prop):Prop
 | mk (a0:α0) (a1:α1) (a2:α2) (a3:α3) (a4:α4) (a5:α5) (a6:α6) (a7:α7) (a8:α8) (a9:α9) (h:p a0 a1 a2 a3 a4 a5 a6 a7 a8 a9)
inductive xX {α0 α1 α2 α3 α4 α5 α6 α7 α8 α9 α10:Type} (p:α0→α1→α2→α3→α4→α5→α6→α7→α8→α9→α10→Prop):Prop
 | mk (a0:α0) (a1:α1) (a2:α2) (a3:α3) (a4:α4) (a5:α5) (a6:α6) (a7:α7) (a8:α8) (a9:α9) (a10:α10) (h:p a0 a1 a2 a3 a4 a5 a6 a7 a8 a9 a10)
end L2
set_option genSizeOf true
set_option genInjectivity true
local macro_rules | `(tactic| trivial)=>`(tactic| first | lia | omega)
namespace L2
open PySem PySem.Spec PyProof.Rows
abbrev aP:=Sum Int Str
def oN:aP→Value→Bool
 | .inl k,v=>Value.isInt k v
 | .inr x,v=>Value.isStrOf x v
def GJ (w:World):aP→Int
 | .inl k=>hashInt k
 | .inr x=>hashStr w x
theorem cP:∀{k:aP}{v:Value},oN k v=true→(bE fun i t=>k=Sum.inl i∧v=Value.int i t)∨(bE fun x t=>k=Sum.inr x∧v=Value.str x t)
 | .inl i,v,h=>by
  obtain ⟨t,e⟩:=Value.isInt_shape (k:=i) (v:=v) h
  exact .inl ⟨i,t,rfl,e⟩
 | .inr x,v,h=>by
  obtain ⟨t,e⟩:=Value.isStrOf_shape (x:=x) (v:=v) h
  exact .inr ⟨x,t,rfl,e⟩
theorem yQ (i:Int) (t:Tok):oN (.inl i) (.int i t)=true:=by simp [oN,Value.isInt]
theorem zV (x:Str) (t:Tok):oN (.inr x) (.str x t)=true:=by simp [oN,Value.isStrOf]
theorem DQ (a b:Int):decide ((Sum.inl a:aP)=Sum.inl b)=(a==b):=by
 by_cases e:a=b
 ·subst e;simp
 ·have h:¬(Sum.inl a:aP)=Sum.inl b:=fun q=>e (Sum.inl.inj q)
  rw [decide_eq_false h]
  exact (beq_eq_false_iff_ne.mpr e).symm
theorem EV (a b:Str):decide ((Sum.inr a:aP)=Sum.inr b)=decide (a=b):=by
 by_cases e:a=b
 ·subst e;simp
 ·have h:¬(Sum.inr a:aP)=Sum.inr b:=fun q=>e (Sum.inr.inj q)
  rw [decide_eq_false h,decide_eq_false e]
theorem Dj (a:Int) (b:Str):decide ((Sum.inl a:aP)=Sum.inr b)=false:=decide_eq_false (fun q=>nomatch q)
theorem DW (a:Str) (b:Int):decide ((Sum.inr a:aP)=Sum.inl b)=false:=decide_eq_false (fun q=>nomatch q)
def cJ (prog:Program) (w:World):PySem.KeyKind prog w aP where
 is:=oN
 hash:=GJ w
 inj:=fun v a b ha hb=>by
  rcases cP ha with ⟨i,t,rfl,rfl⟩ | ⟨x,t,rfl,rfl⟩
  ·rcases cP hb with ⟨j,u,rfl,e⟩ | ⟨y,u,rfl,e⟩
   ·injection e with e1 _;rw [e1]
   ·exact nomatch e
  ·rcases cP hb with ⟨j,u,rfl,e⟩ | ⟨y,u,rfl,e⟩
   ·exact nomatch e
   ·injection e with e1 _;rw [e1]
 byValue:=fun k v h=>by
  rcases cP h with ⟨i,t,rfl,rfl⟩ | ⟨x,t,rfl,rfl⟩ <;> rfl
 pyHash:=fun hv h=>by
  rcases cP hv with ⟨i,t,rfl,rfl⟩ | ⟨x,t,rfl,rfl⟩
  ·exact wpAny_pyHash_int h
  ·exact wpAny_pyHash_str h
 eqBool:=fun hu hv h=>by
  rcases cP hu with ⟨i,t,rfl,rfl⟩ | ⟨x,t,rfl,rfl⟩
  ·rcases cP hv with ⟨j,u,rfl,rfl⟩ | ⟨y,u,rfl,rfl⟩
   ·rw [DQ] at h;exact wpAny_eqBool_int h
   ·rw [Dj] at h;exact SeqAt.EqAt.int_str i t y u _ _ _ _ h
  ·rcases cP hv with ⟨j,u,rfl,rfl⟩ | ⟨y,u,rfl,rfl⟩
   ·rw [DW] at h;exact SeqAt.EqAt.str_int x t j u _ _ _ _ h
   ·rw [EV] at h;exact wpAny_eqBool_str h
 «strs»:=fun k x t v h=>by
  rcases cP h with ⟨i,u,rfl,e⟩ | ⟨y,u,rfl,e⟩
  ·exact nomatch e
  ·injection e with e1 _
   subst e1
   cases v <;> rfl
inductive V where
 | non | bl (b:Bool) | int (i:Int) | str (x:Str) | byt (b:Array UInt8) | flt (b:UInt64) | ref (a:Addr) | ty (n:String)
 deriving DecidableEq
def aT:V→Value→Prop
 | .non,u=>u=Value.none
 | .bl b,u=>u=Value.bool b
 | .int i,u=>∃t,u=Value.int i t
 | .str x,u=>∃t,u=Value.str x t
 | .byt b,u=>∃t,u=Value.bytes b t
 | .flt b,u=>∃t,u=Value.float b t
 | .ref a,u=>u=Value.ref a
 | .ty n,u=>u=Value.type n
abbrev aH:List V→List Value→Prop:=Paired aT
theorem aH.length {xs:List V}{us:List Value} (r:aH xs us):xs.length=us.length:=Paired.length r
theorem aH.get:∀{xs:List V}{us:List Value}{i:Nat}{x:V},aH xs us→xs[i]?=some x→∃u,us[i]?=some u∧aT x u
 | _,_,_,_,.nil,e=>by simp at e
 | _,_,0,_,.cons r _,e=>by simp at e;subst e;exact ⟨_,rfl,r⟩
 | _,_,i+1,x,.cons _ t,e=>by
  obtain ⟨u,h1,h2⟩:=aH.get (i:=i) (x:=x) t (by simpa using e)
  exact ⟨u,by simpa using h1,h2⟩
theorem aH.set {x:V}{u:Value} (r:aT x u):∀{xs:List V}{us:List Value} (i:Nat),aH xs us→aH (xs.set i x) (us.set i u)
 | _,_,_,.nil=>.nil
 | _,_,0,.cons _ t=>.cons r t
 | _,_,i+1,.cons q t=>.cons q (aH.set r i t)
theorem aH.append:∀{xs ys:List V}{us ws:List Value},aH xs us→aH ys ws→aH (xs++ys) (us++ws)
 | _,_,_,_,.nil,s=>s
 | _,_,_,_,.cons r t,s=>.cons r (aH.append t s)
theorem aH.take:∀{xs:List V}{us:List Value} (n:Nat),aH xs us→aH (xs.take n) (us.take n)
 | _,_,0,_=>.nil
 | _,_,_+1,.nil=>.nil
 | _,_,n+1,.cons r t=>.cons r (aH.take n t)
theorem aH.drop:∀{xs:List V}{us:List Value} (n:Nat),aH xs us→aH (xs.drop n) (us.drop n)
 | _,_,0,r=>r
 | _,_,_+1,.nil=>.nil
 | _,_,n+1,.cons _ t=>aH.drop n t
def Ax:Option V→Option Value→Prop
 | some v,some u=>aT v u
 | none,none=>True
 | _,_=>False
def KV {κ:Type}:List (κ×V)→List (κ×Value)→Prop:=Paired fun (p:κ×V) (q:κ×Value)=>p.1=q.1∧aT p.2 q.2
def kV:aP→V
 | .inl i=>.int i
 | .inr x=>.str x
inductive HO where
 | lst (xs:List V)
 | tup (xs:List V)
 | dK (kvs:List (aP×V)) | dT (kvs:List (List aP×V))
 | set (S:Int→Bool) (n:Nat)
 | ins (C dx:Addr) (fs:List (Str×V))
 | own (x:Addr)
 | xd (fs:List (Str×V))
 | met (f x:Addr)
 | rng (lo hi:Int)
 | frz (o:Obj) (u:HO)
 | tbl (ps:Array Value)
 | ext (φ:Heap→Prop)
abbrev Hp:=Addr→Option HO
def aG (H:Hp) (a:Addr) (o:HO):Hp:=fun b=>if b=a then some o else H b
theorem au {H:Hp}{a:Addr}{o:HO}:aG H a o a=some o:=by unfold aG;rw [if_pos rfl]
theorem ay {H:Hp}{a b:Addr}{o:HO} (h:b≠a):aG H a o b=H b:=by unfold aG;rw [if_neg h]
theorem eO {H:Hp}{a b:Addr}{o u:HO} (h:H a=some o) (h':H b=some u) (d:o≠u):a≠b:=by
 intro e;subst e;rw [h] at h';exact d (Option.some.inj h')
theorem aN {H:Hp}{a b:Addr}{o:HO} (h:H a=some o) (h':H b=none):a≠b:=by
 intro e;subst e;rw [h] at h';cases h'
section
variable (P:Program) (w:World)
def bD (H:Hp) (h:Heap) (a:Addr):HO→Prop
 | .lst xs=>xs.length≤sizeLine∧bE fun (its:List Value) (n:Nat)=>aH xs its∧h.get? a=some { cls:=.type "list",data:=.seq its.toArray n }
 | .tup xs=>xs.length≤sizeLine∧∃its:List Value,aH xs its∧IsTup h a its.toArray∧∃o,h.get? a=some o∧o.dict=none
 | .dK kvs=>kvs.length≤sizeLine∧(a==sysModules)=false∧∃vs,KV kvs vs∧h.DictOf (cJ P w) a vs
 | .dT kvs=>kvs.length≤sizeLine∧(a==sysModules)=false∧∃xs:List (List aP×Addr×Value),
  Paired (fun (p:List aP×V) (q:List aP×Addr×Value)=>p.1=q.1∧H q.2.1=some (.tup (p.1.map kV))∧aT p.2 q.2.2) kvs xs∧
  gH fun o es ep=>h.get? a=some o∧o.ExactDict∧o.data=.dict es ep∧es.toList=xs.map (entryOfKey (tupleKind (cJ P w)))∧(xs.map (·.1)).Nodup
 | .set S n=>h.SetOf (intKind P w) a S n
 | .ins C dx fs=>H dx=some (.own a)∧fs.length≤1000∧dx≠a∧h.get? a=some (PySem.W.instObj C dx)∧
  ∃mA,h.Ns1 dx mA∧(∀f,Ax (fs.lookup f) (mA f))∧PySem.Within mA (fs.map (·.1))
 | .own _=>∃o,h.get? a=some o
 | .xd fs=>∃mA,h.Ns1 a mA∧∀f,Ax (fs.lookup f) (mA f)
 | .rng lo hi=>gH fun t u v=>h.get? a=some { cls:=.type "range",data:=.fields #[.int lo t,.int hi u,.int 1 v] }
 | .frz o u=>h.get? a=some o∧bD H h a u
 | .tbl ps=>h.get? a=some { cls:=.none,data:=.fields ps }
 | .met f x=>h.get? a=some (PySem.W.methodObj (.ref f) (.ref x))
 | .ext φ=>φ h∧(∃o,h.get? a=some o)∧∀h1 h2:Heap,φ h1→(∀o,h1.get? a=some o→h2.get? a=some o)→φ h2
def dZ (H:Hp) (h:Heap):Prop:=∀a o,H a=some o→bD P w H h a o
end
section
variable {P:Program}{w:World}{H H':Hp}{h h':Heap}{a:Addr}{o:HO}
theorem bD.lt (x:bD P w H h a o):a<h.objs.size:=by
 cases o with
 | lst xs=>obtain ⟨_,_,_,_,e⟩:=x;exact Heap.lt_size e
 | tup xs=>obtain ⟨_,_,_,p,_⟩:=x;exact p.lt
 | dK kvs=>obtain ⟨_,_,_,_,o,_,_,e,_⟩:=x;exact Heap.lt_size e
 | dT kvs=>obtain ⟨_,_,_,_,o,_,_,e,_⟩:=x;exact Heap.lt_size e
 | set S n=>obtain ⟨o,_,_,_,e,_⟩:=x;exact Heap.lt_size e
 | ins C dx fs=>obtain ⟨_,_,_,e,_⟩:=x;exact Heap.lt_size e
 | own y=>obtain ⟨_,e⟩:=x;exact Heap.lt_size e
 | xd fs=>obtain ⟨_,⟨_,_,_,e,_⟩,_⟩:=x;exact Heap.lt_size e
 | rng lo hi=>obtain ⟨_,_,_,e⟩:=x;exact Heap.lt_size e
 | frz ob u=>obtain ⟨e,_⟩:=x;exact Heap.lt_size e
 | tbl ps=>exact Heap.lt_size (show h.get? a=some _ from x)
 | met f y=>exact Heap.lt_size (show h.get? a=some _ from x)
 | ext φ=>obtain ⟨_,⟨_,e⟩,_⟩:=x;exact Heap.lt_size e
theorem Paired.mapP {α β:Type}{F G:α→β→Prop}:∀{l₁:List α}{l₂:List β},Paired F l₁ l₂→(∀a b,F a b→G a b)→Paired G l₁ l₂
 | _,_,.nil,_=>.nil
 | _,_,.cons r t,f=>.cons (f _ _ r) (Paired.mapP t f)
theorem bD.stay (x:bD P w H h a o) (k:∀b u,(b=a∨H b=some (.own a))→h.get? b=some u→h'.get? b=some u)
 (ho:∀b,H b=some (.own a)→H' b=some (.own a)) (ht:∀b xs,H b=some (.tup xs)→H' b=some (.tup xs)):bD P w H' h' a o:=by
 induction o with
 | lst xs=>obtain ⟨z,its,n,r,e⟩:=x;exact ⟨z,its,n,r,k _ _ (.inl rfl) e⟩
 | tup xs=>obtain ⟨z,its,r,⟨ob,e,c⟩,od,e',c'⟩:=x;exact ⟨z,its,r,⟨ob,k _ _ (.inl rfl) e,c⟩,od,k _ _ (.inl rfl) e',c'⟩
 | dK kvs=>obtain ⟨z,y,vs,r,ob,es,ep,e,c⟩:=x;exact ⟨z,y,vs,r,ob,es,ep,k _ _ (.inl rfl) e,c⟩
 | dT kvs=>
  obtain ⟨z,y,xs,r,ob,es,ep,e,c⟩:=x
  exact ⟨z,y,xs,Paired.mapP r fun p q z=>⟨z.1,ht _ _ z.2.1,z.2.2⟩,ob,es,ep,k _ _ (.inl rfl) e,c⟩
 | set S n=>obtain ⟨ob,es,ep,t,e,c⟩:=x;exact ⟨ob,es,ep,t,k _ _ (.inl rfl) e,c⟩
 | ins C dx fs=>
  obtain ⟨d,z,ne,e,mA,⟨od,es,ep,e2,c⟩,r⟩:=x
  exact ⟨ho _ d,z,ne,k _ _ (.inl rfl) e,mA,⟨od,es,ep,k _ _ (.inr d) e2,c⟩,r⟩
 | own y=>obtain ⟨ob,e⟩:=x;exact ⟨ob,k _ _ (.inl rfl) e⟩
 | xd fs=>obtain ⟨mA,⟨od,es,ep,e,c⟩,r⟩:=x;exact ⟨mA,⟨od,es,ep,k _ _ (.inl rfl) e,c⟩,r⟩
 | rng lo hi=>obtain ⟨t,u,v,e⟩:=x;exact ⟨t,u,v,k _ _ (.inl rfl) e⟩
 | frz ob u ih=>obtain ⟨e,q⟩:=x;exact ⟨k _ _ (.inl rfl) e,ih q⟩
 | tbl ps=>
  have e:h.get? a=some { cls:=.none,data:=.fields ps }:=x
  show h'.get? a=some { cls:=.none,data:=.fields ps }
  exact k a _ (.inl rfl) e
 | met f y=>
  have e:h.get? a=some (PySem.W.methodObj (.ref f) (.ref y)):=x
  show h'.get? a=some (PySem.W.methodObj (.ref f) (.ref y))
  exact k a _ (.inl rfl) e
 | ext φ=>obtain ⟨p,⟨o,e⟩,st⟩:=x;exact ⟨st _ _ p fun o q=>k _ _ (.inl rfl) q,⟨o,k _ _ (.inl rfl) e⟩,st⟩
theorem dZ.lt (x:dZ P w H h) (e:H a=some o):a<h.objs.size:=(x a o e).lt
theorem dZ.fresh (x:dZ P w H h) (e:h.objs.size≤a):H a=none:=by
 cases q:H a with
 | none=>rfl
 | some u=>exact absurd (Nat.lt_of_lt_of_le (x.lt q) e) (Nat.lt_irrefl _)
theorem dZ.kept (x:dZ P w H h) (k:∀b u,h.get? b=some u→h'.get? b=some u):dZ P w H h':=fun a o e=>
 (x a o e).stay (fun b u _ q=>k b u q) (fun _ q=>q) fun _ _ q=>q
theorem dZ.laid (x:dZ P w H h) (k:∀b u,h.get? b=some u→h'.get? b=some u) (hp:h.objs.size≤a) (new:bD P w (aG H a o) h' a o):dZ P w (aG H a o) h':=fun b u e=>by
 have hn:=x.fresh hp
 by_cases hb:b=a
 ·subst hb;rw [au] at e;cases e;exact new
 ·rw [ay hb] at e
  exact (x b u e).stay (fun c v _ q=>k c v q) (fun c q=>by rw [ay (aN q hn)];exact q) fun c xs q=>by rw [ay (aN q hn)];exact q
end
def Rd (H:Hp) (a:Addr) (u:HO):Prop:=H a=some u∨∃o,H a=some (.frz o u)
theorem Rd.ok {P:Program}{w:World}{H:Hp}{h:Heap}{a:Addr}{u:HO} (r:Rd H a u) (x:dZ P w H h):bD P w H h a u:=by
 rcases r with r | ⟨o,r⟩
 ·exact x a u r
 ·obtain ⟨_,q⟩:=x a _ r
  exact q
def Bs:Option HO→Prop
 | some (.lst _)=>True
 | some (.dK _)=>True
 | some (.dT _)=>True
 | some (.set _ _)=>True
 | some (.ins _ _ _)=>True
 | some (.ext _)=>True
 | _=>False
section
variable {P:Program}{w:World}{H:Hp}{h h':Heap}{x e:Addr}{o':HO}
theorem dZ.write (ok:dZ P w H h) (mu:Bs (H x)) (he:e=x∨H e=some (.own x)) (k:∀b u,b≠e→h.get? b=some u→h'.get? b=some u) (heo:∃u,h'.get? e=some u)
 (new:bD P w (aG H x o') h' x o'):dZ P w (aG H x o') h':=fun b u q=>by
 have nown:∀c y,H c=some (.own y)→c≠x:=fun c y r z=>by subst z;rw [r] at mu;exact mu
 have ntup:∀c xs,H c=some (.tup xs)→c≠x:=fun c xs r z=>by subst z;rw [r] at mu;exact mu
 by_cases hb:b=x
 ·subst hb;rw [au] at q;cases q;exact new
 ·rw [ay hb] at q
  by_cases hbe:b=e
  ·have q':H b=some (.own x):=by
    rcases he with z | z
    ·exact absurd (hbe.trans z) hb
    ·rw [hbe];exact z
   rw [q] at q';cases q'
   obtain ⟨v,hv⟩:=heo
   exact ⟨v,by rw [hbe];exact hv⟩
  ·refine (ok b u q).stay (fun c v hc r=>k c v ?_ r) (fun c r=>by rw [ay (nown c b r)];exact r) fun c xs r=>by rw [ay (ntup c xs r)];exact r
   rcases hc with rfl | hc
   ·exact hbe
   ·rintro rfl
    rcases he with z | z
    ·exact nown c b hc z
    ·rw [hc] at z;cases z;exact hb rfl
end
structure Un (fs ex:List Addr) (H H':Hp) (h h':Heap):Prop where
 keep:∀b o,h.get? b=some o→H b=none→b∉fs→b∉ex→h'.get? b=some o
 slot:∀b o,h.get? b=some o→H b=none→b∈fs→b∉ex→∃sl,h'.get? b=some { o with slots:=sl }
 free:∀b o,h.get? b=some o→H b=none→b∉ex→H' b=none
 there:∀b o,h.get? b=some o→b∉ex→∃o',h'.get? b=some o'
 tups:∀b xs,H b=some (.tup xs)→H' b=some (.tup xs)
 frzs:∀b o u,H b=some (.frz o u)→H' b=some (.frz o u)
 tbls:∀b ps,H b=some (.tbl ps)→∃more,H' b=some (.tbl (ps++more))
section
variable {fs fs' ex ex':List Addr}{H H1 H2:Hp}{h h1 h2 h':Heap}{a x e:Addr}{o:HO}
theorem Un.any (u:Un fs ex H H1 h h1) {b:Addr}{ob:Obj} (q:h.get? b=some ob) (n:H b=none) (hx:b∉ex):∃sl,h1.get? b=some { ob with slots:=sl }:=by
 by_cases hb:b∈fs
 ·exact u.slot b ob q n hb hx
 ·exact ⟨ob.slots,u.keep b ob q n hb hx⟩
theorem Un.kept (k:∀b u,h.get? b=some u→h'.get? b=some u):Un fs ex H H h h':=
 ⟨fun b ob q _ _ _=>k b ob q,fun b ob q _ _ _=>⟨ob.slots,k b ob q⟩,fun _ _ _ n _=>n,fun b ob q _=>⟨ob,k b ob q⟩,fun _ _ q=>q,fun _ _ _ q=>q,fun _ ps q=>⟨#[],by rw [q];simp⟩⟩
theorem Un.refl:Un fs ex H H h h:=Un.kept fun _ _ q=>q
theorem Un.laid (k:∀b u,h.get? b=some u→h'.get? b=some u) (hp:h.objs.size≤a) (hn:H a=none):Un fs ex H (aG H a o) h h' where
 keep:=fun b u q _ _ _=>k b u q
 slot:=fun b u q _ _ _=>⟨u.slots,k b u q⟩
 free:=fun b u q n _=>by rw [ay (Nat.ne_of_lt (Nat.lt_of_lt_of_le (Heap.lt_size q) hp))];exact n
 there:=fun b u q _=>⟨u,k b u q⟩
 tups:=fun b xs q=>by rw [ay (aN q hn)];exact q
 frzs:=fun b u xs q=>by rw [ay (aN q hn)];exact q
 tbls:=fun b ps q=>⟨#[],by rw [ay (aN q hn),q];simp⟩
theorem Un.write (mu:Bs (H x)) (he:e=x∨H e=some (.own x)) (k:∀b u,b≠e→h.get? b=some u→h'.get? b=some u) (heo:∃u,h'.get? e=some u):Un fs ex H (aG H x o) h h':=by
 have hx:∀b,H b=none→b≠x:=fun b n z=>by subst z;rw [n] at mu;exact mu
 have hb:∀b,H b=none→b≠e:=fun b n z=>by
  subst z
  rcases he with r | r
  ·exact hx b n r
  ·rw [n] at r;cases r
 have hm:∀b u,H b=some u→¬Bs (some u)→b≠x:=fun b u q nm z=>by subst z;rw [q] at mu;exact nm mu
 refine ⟨fun b u q n _ _=>k b u (hb b n) q,fun b u q n _ _=>⟨u.slots,k b u (hb b n) q⟩,fun b u q n _=>by rw [ay (hx b n)];exact n,fun b u q _=>?_,
  fun b xs q=>by rw [ay (hm b _ q fun z=>z)];exact q,fun b u xs q=>by rw [ay (hm b _ q fun z=>z)];exact q,fun b ps q=>⟨#[],by rw [ay (hm b _ q fun z=>z),q];simp⟩⟩
 by_cases hbe:b=e
 ·subst hbe;exact heo
 ·exact ⟨u,k b u hbe q⟩
end
def A9 (h:Heap) (H:Hp):List Addr:=(List.range h.objs.size).filter fun a=>(H a).isSome
def nY (h:Heap) (H:Hp):Heap:=PySem.W.hideAll h (A9 h H)
theorem zx (h:Heap) (H:Hp):(nY h H).objs.size=h.objs.size:=PySem.W.hideAll_size _ _
theorem Aj {h:Heap}{H:Hp}{b:Addr}{o:Obj} (e:h.get? b=some o) (n:H b=none):(nY h H).get? b=some o:=
 PySem.W.hideAll_get _ e fun hm=>by
  have q:(H b).isSome=true:=(List.mem_filter.mp hm).2
  rw [n] at q;simp at q
theorem BF {h:Heap}{H:Hp}{b:Addr}{o:Obj} (e:(nY h H).get? b=some o):h.get? b=some o∧H b=none:=by
 have e':h.get? b=some o:=PySem.W.of_hideAll (A9 h H) e
 refine ⟨e',?_⟩
 cases q:H b with
 | none=>rfl
 | some x=>
  have hm:b∈A9 h H:=List.mem_filter.mpr ⟨List.mem_range.mpr (Heap.lt_size e'),by simp [q]⟩
  have z:(nY h H).get? b=none:=PySem.W.hideAll_none (A9 h H) hm
  rw [z] at e;cases e
structure Mod (K:PySem.W.Frag) (mg:Str→Option Value) (base:Heap):Prop where
 kin:K.In base
 glob:base.Ns mainGlobals mg
 blt:∃mb,base.Ns builtinsNs mb∧∀x:Str,x≠"__name__"→mb x=bootBuiltins x
 nolimit:base.NoLimit
structure Cx where
 prog:Program
 w:World
 K:PySem.W.Frag
 mg:Str→Option Value
 base:Heap
 A:Around
 N:List Str
 s₀:Shared
 H₀:Hp
 env:Env
 outer:List Env
 stack:List Env
 ex:List Addr
 fn:Str→Bool
 calm:Bool
 pn:List (Addr×Obj)
 xe:Value→Shared→Prop
def dQ (l:List Env):List Addr:=l.filterMap (·.frame)
abbrev Cx.fs (X:Cx):List Addr:=dQ X.outer
def Bu (sc:Scope) (x:Str):Prop:=sc.names.lookup x=some .local∨sc.names.lookup x=some .cell∨sc.names.lookup x=some .free
def Bq (sc:Scope) (x:Str):Prop:=sc.names.lookup x=some .local∨sc.names.lookup x=some .cell
def GL (env:Env) (h:Heap) (m:Str→Option Value) (x:Str) (u:Value):Prop:=
 (env.kindOf x=some .local∧m x=some u)∨((env.kindOf x=some .cell∨env.kindOf x=some .free)∧∃c,env.cells.lookup x=some c∧h.IsCell c (some u))
structure Cx.Ok (X:Cx):Prop where
 mod:Mod X.K X.mg X.base
 kind:X.env.scope.kind=.function
 glob:X.env.globals=mainGlobals
 blt:X.env.builtins=builtinsNs
 above:X.s₀.heap.objs.size≤X.env.locals
 inj:∀x y c,X.env.cells.lookup x=some c→X.env.cells.lookup y=some c→x=y
 has:∀x,(X.env.kindOf x=some .cell∨X.env.kindOf x=some .free)→∃c,X.env.cells.lookup x=some c
 cab:∀x c,X.fn x=true→X.env.cells.lookup x=some c→X.s₀.heap.objs.size≤c
 hd:X.calm=true→X.A.handled=none
 frames:X.A.frames=some X.stack
 stk:X.stack=X.outer∨(X.stack=X.env :: X.outer∧X.env.frame=some X.env.locals)
 exf:∀b∈X.ex,b≠X.env.locals∧∀x c,X.env.cells.lookup x=some c→c≠b
 bs:∀b o,X.base.get? b=some o→X.s₀.heap.get? b=some o∧X.H₀ b=none
 bsz:X.base.objs.size≤X.s₀.heap.objs.size
 noex:∀b o,X.base.get? b=some o→b∉X.ex
 exfs:∀b∈X.ex,b∉X.fs
 funs:X.s₀.heap.FunFrames X.base X.outer
 frf:∀b∈X.fs,X.H₀ b=none
structure ag (X:Cx) (pins:List (Addr×Obj)) (σ:List (Option V)) (H:Hp) (s:Shared):Prop where
 ok:X.Ok
 os:s.os=X.s₀.os
 bare:AllBare s.gens
 base:Un X.fs X.ex X.H₀ H X.s₀.heap s.heap
 loc:∃m,s.heap.Ns X.env.locals m∧∀(i:Nat) (x:Str) (v:V),X.N[i]?=some x→σ[i]?=some (some v)→Bu X.env.scope x→∃u,aT v u∧GL X.env s.heap m x u
 cell:∀x c,X.env.cells.lookup x=some c→∃v,s.heap.IsCell c v
 free:H X.env.locals=none
 freeC:∀x c,X.env.cells.lookup x=some c→H c=none
 pin:∀p∈X.pn++pins,s.heap.get? p.1=some p.2∧H p.1=none∧p.1≠X.env.locals∧p.1∉X.fs∧∀v,p.2.data≠.cell v
 hok:dZ X.prog X.w H s.heap
 len:σ.length=X.N.length
section
variable {X:Cx}{pins:List (Addr×Obj)}{σ:List (Option V)}{H H':Hp}{s:Shared}{h':Heap}
theorem Cx.Ok.nofr (ok:X.Ok) {b:Addr}{o:Obj} (e:X.base.get? b=some o):b∉X.fs:=fun hb=>by
 have:=(ok.funs.mem hb).1
 rw [e] at this;cases this
theorem ag.bs (I:ag X pins σ H s):∀b o,X.base.get? b=some o→s.heap.get? b=some o∧H b=none:=fun b o e=>
 ⟨I.base.keep b o (I.ok.bs b o e).1 (I.ok.bs b o e).2 (I.ok.nofr e) (I.ok.noex b o e),I.base.free b o (I.ok.bs b o e).1 (I.ok.bs b o e).2 (I.ok.noex b o e)⟩
theorem ag.bk (I:ag X pins σ H s):∀b o,X.base.get? b=some o→s.heap.get? b=some o:=fun b o e=>(I.bs b o e).1
theorem ag.mod (I:ag X pins σ H s):Mod X.K X.mg X.base:=I.ok.mod
theorem ag.kIn (I:ag X pins σ H s):X.K.In s.heap:=I.ok.mod.kin.keeps I.bk
theorem ag.lt (I:ag X pins σ H s):X.env.locals<s.heap.objs.size:=let ⟨_,hn,_⟩:=I.loc;hn.lt
theorem ag.sz (I:ag X pins σ H s):X.s₀.heap.objs.size≤s.heap.objs.size:=Nat.le_trans I.ok.above (Nat.le_of_lt I.lt)
theorem ag.nofs (I:ag X pins σ H s) {a:Addr} (h:s.heap.objs.size≤a):a∉X.fs:=fun hb=>by
 obtain ⟨_,o,ho,_⟩:=I.ok.funs.mem hb
 exact absurd (Nat.lt_of_lt_of_le (Heap.lt_size ho) (Nat.le_trans I.sz h)) (Nat.lt_irrefl _)
theorem ag.cne (I:ag X pins σ H s):∀x c,X.env.cells.lookup x=some c→c≠X.env.locals:=fun x c e z=>by
 obtain ⟨v,o,ho,hd⟩:=I.cell x c e
 obtain ⟨m,⟨o',es,ep,ho',hd',_⟩,_⟩:=I.loc
 rw [z,ho'] at ho;cases ho;rw [hd'] at hd;cases hd
theorem ag.funs (I:ag X pins σ H s):s.heap.FunFrames X.base X.outer:=by
 have all:∀(l:List Env),(∀b∈dQ l,b∈X.fs)→X.s₀.heap.FunFrames X.base l→s.heap.FunFrames X.base l:=by
  intro l
  induction l with
  | nil=>intro _ _;trivial
  | cons env r ih=>
   intro hs hl
   obtain ⟨hk,⟨L,o,hf,hn,ho,hd⟩,hr⟩:=hl
   have hL:L∈X.fs:=hs L (by unfold dQ;rw [List.filterMap_cons,hf];exact List.mem_cons_self)
   obtain ⟨sl,e⟩:=I.base.slot L o ho (I.ok.frf L hL) hL fun z=>I.ok.exfs L z hL
   exact ⟨hk,⟨L,_,hf,hn,e,hd⟩,ih (fun b hb=>hs b (by unfold dQ;rw [List.filterMap_cons,hf];exact List.mem_cons_of_mem _ hb)) hr⟩
 exact all X.outer (fun _ hb=>hb) I.ok.funs
theorem ag.stack (I:ag X pins σ H s):s.heap.FunFrames X.base X.stack:=by
 rcases I.ok.stk with e | ⟨e,hf⟩
 ·rw [e];exact I.funs
 ·rw [e]
  obtain ⟨m,hn,_⟩:=I.loc
  refine .cons (by rw [I.ok.kind];decide) hf hn ?_ I.funs
  exact Heap.get?_none_of_le (Nat.le_trans I.ok.bsz I.ok.above)
theorem ag.stkSub (I:ag X pins σ H s):∀b∈dQ X.stack,b∈X.env.locals :: X.fs:=fun b hb=>by
 rcases I.ok.stk with e | ⟨e,hf⟩
 ·rw [e] at hb;exact List.mem_cons_of_mem _ hb
 ·rw [e] at hb
  unfold dQ at hb
  rw [List.filterMap_cons,hf] at hb
  exact hb
theorem ag.stkFree (I:ag X pins σ H s):∀b∈dQ X.stack,H b=none:=fun b hb=>by
 rcases List.mem_cons.mp (I.stkSub b hb) with e | hb
 ·rw [e];exact I.free
 ·obtain ⟨_,o,ho,_⟩:=I.ok.funs.mem hb
  exact I.base.free b o ho (I.ok.frf b hb) fun z=>I.ok.exfs b z hb
theorem ag.step {g':Array GenState}{t':Nat}{d':Drawn}{ch:List Addr} (I:ag X pins σ H s)
 (hch:∀b∈ch,(b∈X.ex∨X.s₀.heap.objs.size≤b)∧b≠X.env.locals∧(∀x c,X.env.cells.lookup x=some c→c≠b)∧∀p∈X.pn++pins,p.1≠b)
 (keep:∀b o,b≠X.env.locals→b∉X.fs→b∉ch→s.heap.get? b=some o→H b=none→h'.get? b=some o)
 (slot:∀b o,b≠X.env.locals→b∈X.fs→b∉ch→s.heap.get? b=some o→H b=none→∃sl,h'.get? b=some { o with slots:=sl }) (free:∀b o,b∉ch→s.heap.get? b=some o→H b=none→H' b=none)
 (there:∀b o,b∉ch→s.heap.get? b=some o→∃o',h'.get? b=some o')
 (tups:∀b xs,H b=some (.tup xs)→H' b=some (.tup xs)) (frzs:∀b o u,H b=some (.frz o u)→H' b=some (.frz o u)) (tbls:∀b ps,H b=some (.tbl ps)→∃more,H' b=some (.tbl (ps++more)))
 (ns:∀m,s.heap.Ns X.env.locals m→h'.Ns X.env.locals m) (hok:dZ X.prog X.w H' h') (hg:AllBare g') :
 ag X pins σ H' { s with heap:=h',gens:=g',drawn:=d',toks:=t' }:=by
 have neL:∀b o,X.s₀.heap.get? b=some o→b≠X.env.locals:=fun b o e=>Nat.ne_of_lt (Nat.lt_of_lt_of_le (Heap.lt_size e) I.ok.above)
 have neC:∀b o,X.s₀.heap.get? b=some o→b∉X.ex→b∉ch:=fun b o e hx hb=>by
  rcases (hch b hb).1 with z | z
  ·exact hx z
  ·exact absurd (Nat.lt_of_lt_of_le (Heap.lt_size e) z) (Nat.lt_irrefl _)
 have cellK:∀x c,X.env.cells.lookup x=some c→∀v,s.heap.IsCell c v→h'.IsCell c v:=fun x c e v ⟨o,ho,hd⟩=>by
  have nch:c∉ch:=fun z=>(hch c z).2.2.1 x c e rfl
  by_cases hc:c∈X.fs
  ·obtain ⟨sl,q⟩:=slot c o (I.cne x c e) hc nch ho (I.freeC x c e)
   exact ⟨_,q,hd⟩
  ·exact ⟨o,keep c o (I.cne x c e) hc nch ho (I.freeC x c e),hd⟩
 refine ⟨I.ok,I.os,hg,⟨fun b o e n hb hx=>?_,fun b o e n hb hx=>?_,fun b o e n hx=>?_,fun b o e hx=>?_,fun b xs e=>tups b xs (I.base.tups b xs e),fun b o xs e=>frzs b o xs (I.base.frzs b o xs e),fun b ps e=>?_⟩,?_,fun x c e=>?_,?_,fun x c e=>?_,fun p hp=>?_,hok,I.len⟩
 ·exact keep b o (neL b o e) hb (neC b o e hx) (I.base.keep b o e n hb hx) (I.base.free b o e n hx)
 ·obtain ⟨sl,e1⟩:=I.base.slot b o e n hb hx
  obtain ⟨sl',e2⟩:=slot b _ (neL b o e) hb (neC b o e hx) e1 (I.base.free b o e n hx)
  exact ⟨sl',e2⟩
 ·obtain ⟨o',e1⟩:=I.base.there b o e hx
  exact free b o' (neC b o e hx) e1 (I.base.free b o e n hx)
 ·obtain ⟨o',e1⟩:=I.base.there b o e hx
  exact there b o' (neC b o e hx) e1
 ·obtain ⟨m1,e1⟩:=I.base.tbls b ps e
  obtain ⟨m2,e2⟩:=tbls b _ e1
  exact ⟨m1++m2,by rw [e2,Array.append_assoc]⟩
 ·obtain ⟨m,hn,hl⟩:=I.loc
  refine ⟨m,ns m hn,fun i x v e1 e2 e3=>?_⟩
  obtain ⟨u,r,l⟩:=hl i x v e1 e2 e3
  refine ⟨u,r,?_⟩
  rcases l with l | ⟨k,c,e,z⟩
  ·exact .inl l
  ·exact .inr ⟨k,c,e,cellK x c e _ z⟩
 ·obtain ⟨v,z⟩:=I.cell x c e
  exact ⟨v,cellK x c e v z⟩
 ·obtain ⟨m,⟨o,_,_,ho,_⟩,_⟩:=I.loc
  exact free _ o (fun z=>(hch _ z).2.1 rfl) ho I.free
 ·obtain ⟨v,o,ho,hd⟩:=I.cell x c e
  exact free c o (fun z=>(hch c z).2.2.1 x c e rfl) ho (I.freeC x c e)
 ·obtain ⟨e,n,ne,nf,d⟩:=I.pin p hp
  have nch:p.1∉ch:=fun z=>(hch p.1 z).2.2.2 p hp rfl
  exact ⟨keep p.1 p.2 ne nf nch e n,free p.1 p.2 nch e n,ne,nf,d⟩
theorem ag.un {t':Nat} (I:ag X pins σ H s) (u:Un X.fs [] H H' s.heap h') (hok:dZ X.prog X.w H' h'):ag X pins σ H' { s with heap:=h',toks:=t' }:=by
 obtain ⟨m,⟨o,es,ep,ho,r⟩,_⟩:=id I.loc
 obtain ⟨sl,hL⟩:=u.any ho I.free (by simp)
 exact I.step (g':=s.gens) (d':=s.drawn) (ch:=[]) (fun _ z=>nomatch z) (fun b o _ hb _ e n=>u.keep b o e n hb (by simp)) (fun b o _ hb _ e n=>u.slot b o e n hb (by simp)) (fun b o _ e n=>u.free b o e n (by simp)) (fun b o _ e=>u.there b o e (by simp)) u.tups u.frzs u.tbls (fun m' hm=>by
  obtain ⟨o',es',ep',ho',r'⟩:=hm
  rw [ho] at ho';cases ho'
  exact ⟨_,es',ep',hL,r'⟩) hok I.bare
theorem ag.call {g':Array GenState}{t':Nat}{d':Drawn}{ch:List Addr} (I:ag X pins σ H s) (u:Un (dQ X.stack) ch H H' s.heap h') (hok:dZ X.prog X.w H' h') (hg:AllBare g')
 (hch:∀b∈ch,(b∈X.ex∨X.s₀.heap.objs.size≤b)∧b≠X.env.locals∧(∀x c,X.env.cells.lookup x=some c→c≠b)∧∀p∈X.pn++pins,p.1≠b) :
 ag X pins σ H' { s with heap:=h',gens:=g',drawn:=d',toks:=t' }:=by
 obtain ⟨m,⟨o,es,ep,ho,r⟩,_⟩:=id I.loc
 obtain ⟨sl,hL⟩:=u.any ho I.free fun z=>(hch _ z).2.1 rfl
 exact I.step (ch:=ch) hch (fun b o hL hb hc e n=>u.keep b o e n (fun z=>(List.mem_cons.mp (I.stkSub b z)).elim hL hb) hc) (fun b o _ _ hc e n=>u.any e n hc) (fun b o hc e n=>u.free b o e n hc) (fun b o hc e=>u.there b o e hc) u.tups u.frzs u.tbls (fun m' hm=>by
  obtain ⟨o',es',ep',ho',r'⟩:=hm
  rw [ho] at ho';cases ho'
  exact ⟨_,es',ep',hL,r'⟩) hok hg
theorem ag.turned {t':Nat}{it:Addr} (I:ag X pins σ H s) (k:∀b o,b≠it→s.heap.get? b=some o→h'.get? b=some o) (hn:H it=none) (hL:it≠X.env.locals)
 (h1:it∈X.ex∨X.s₀.heap.objs.size≤it) (h2:∀x c,X.env.cells.lookup x=some c→c≠it) (h3:∀p∈X.pn++pins,p.1≠it):ag X pins σ H { s with heap:=h',toks:=t' }:=by
 have nit:∀b u,H b=some u→b≠it:=fun b u e z=>by rw [z,hn] at e;cases e
 refine I.step (g':=s.gens) (d':=s.drawn) (ch:=[it]) (fun b hb=>?_) (fun b o _ _ hc e _=>k b o (fun z=>hc (by simp [z])) e) (fun b o _ _ hc e _=>⟨o.slots,k b o (fun z=>hc (by simp [z])) e⟩) (fun _ _ _ _ n=>n)
  (fun b o hc e=>⟨o,k b o (fun z=>hc (by simp [z])) e⟩) (fun _ _ e=>e) (fun _ _ _ e=>e) (fun b ps e=>⟨#[],by rw [e];simp⟩) (fun m hm=>?_) (fun b u e=>?_) I.bare
 ·have e:b=it:=by simpa using hb
  subst e
  exact ⟨h1,hL,h2,h3⟩
 ·obtain ⟨o,es,ep,ho,r⟩:=hm
  exact ⟨o,es,ep,k _ o (Ne.symm hL) ho,r⟩
 ·refine (I.hok b u e).stay (fun c v hc q=>k c v ?_ q) (fun _ q=>q) fun _ _ q=>q
  rcases hc with z | z
  ·rw [z];exact nit b u e
  ·exact nit c _ z
theorem ag.tok (I:ag X pins σ H s) (t:Nat):ag X pins σ H { s with toks:=t }:=I.un (h':=s.heap) (t':=t) Un.refl I.hok
theorem ag.kept {t':Nat} (I:ag X pins σ H s) (k:∀b u,s.heap.get? b=some u→h'.get? b=some u):ag X pins σ H { s with heap:=h',toks:=t' }:=I.un (Un.kept k) (I.hok.kept k)
theorem ag.laid {a:Addr}{o:HO}{t':Nat} (I:ag X pins σ H s) (k:∀b u,s.heap.get? b=some u→h'.get? b=some u) (hp:s.heap.objs.size≤a) (new:bD X.prog X.w (aG H a o) h' a o) :
 ag X pins σ (aG H a o) { s with heap:=h',toks:=t' }:=I.un (Un.laid k hp (I.hok.fresh hp)) (I.hok.laid k hp new)
theorem ag.write {x e:Addr}{o:HO}{t':Nat} (I:ag X pins σ H s) (mu:Bs (H x)) (he:e=x∨H e=some (.own x)) (k:∀b u,b≠e→s.heap.get? b=some u→h'.get? b=some u) (heo:∃u,h'.get? e=some u)
 (new:bD X.prog X.w (aG H x o) h' x o):ag X pins σ (aG H x o) { s with heap:=h',toks:=t' }:=I.un (Un.write mu he k heo) (I.hok.write mu he k heo new)
theorem ag.weak {σ':List (Option V)} (I:ag X pins σ H s) (hl:σ'.length=σ.length) (w:∀(i:Nat) v,σ'[i]?=some (some v)→σ[i]?=some (some v)):ag X pins σ' H s:=
 ⟨I.ok,I.os,I.bare,I.base,let ⟨m,hn,hl'⟩:=I.loc;⟨m,hn,fun i x v e1 e2 e3=>hl' i x v e1 (w i v e2) e3⟩,I.cell,I.free,I.freeC,I.pin,I.hok,hl.trans I.len⟩
theorem ag.pins_of {pins':List (Addr×Obj)} (I:ag X pins σ H s) (h:∀p∈pins',s.heap.get? p.1=some p.2∧H p.1=none∧p.1≠X.env.locals∧p.1∉X.fs∧∀v,p.2.data≠.cell v):ag X pins' σ H s:=
 ⟨I.ok,I.os,I.bare,I.base,I.loc,I.cell,I.free,I.freeC,fun p hp=>(List.mem_append.mp hp).elim (fun z=>I.pin p (List.mem_append_left _ z)) (h p),I.hok,I.len⟩
theorem wP {N:List Str} (hN:N.Nodup) {i j:Nat}{x:Str} (a:N[i]?=some x) (b:N[j]?=some x):i=j:=by
 obtain ⟨h1,e1⟩:=List.getElem?_eq_some_iff.mp a
 obtain ⟨h2,e2⟩:=List.getElem?_eq_some_iff.mp b
 exact (List.getElem_inj hN).mp (e1.trans e2.symm)
theorem uS {M:Model}{A:Around}{E:Value→Shared→Prop}{i:Nat}{x:Str}{v:V}{u:Value}{Q:Unit→Shared→Prop} (I:ag X pins σ H s) (hN:X.N.Nodup) (hi:X.N[i]?=some x) (hx:Bq X.env.scope x) (r:aT v u)
 (h:∀s',ag X pins (σ.set i (some v)) H s'→(∃a,Heap.SameBut a s.heap s'.heap∧(a=X.env.locals∨X.env.cells.lookup x=some a))→Q () s') (hf:X.fn x=true∨X.env.scope.names.lookup x=some .local:=by first | exact .inl rfl | exact .inr rfl | assumption):wpAny M A (storeName X.env x u) Q E s:=by
 obtain ⟨m,hn,hl⟩:=id I.loc
 have hcls:(X.env.scope.kind==.class || (X.env.scope.kind==.module && X.env.locals != X.env.globals))=false:=by rw [I.ok.kind];rfl
 have hiσ:i<σ.length:=by rw [I.len];exact (List.getElem?_eq_some_iff.mp hi).1
 have cne:=I.cne
 have tracked:∀{a:Addr}{h':Heap},(∃o,s.heap.get? a=some o∧H a=none)→Heap.SameBut a s.heap h'→dZ X.prog X.w H h':=fun {a h'} ha hs b ob e=>by
  obtain ⟨_,_,hfree⟩:=ha
  refine (I.hok b ob e).stay (fun c w' hc q=>(hs.2 c ?_).trans q) (fun _ q=>q) fun _ _ q=>q
  rintro rfl
  rcases hc with rfl | hc
  ·rw [hfree] at e;cases e
  ·rw [hfree] at hc;cases hc
 rcases hx with hk | hk
 ·refine wpAny_storeName_local hk hn (fun h' hn' hs=>?_) hcls
  obtain ⟨oL,_,_,hoL,_⟩:=id hn
  refine h _ ⟨I.ok,I.os,I.bare,⟨fun b o e n hb hx=>?_,fun b o e n hb hx=>?_,I.base.free,fun b o e hx=>?_,I.base.tups,I.base.frzs,I.base.tbls⟩,⟨_,hn',fun j y v' e1 e2 e3=>?_⟩,fun y c e=>?_,I.free,I.freeC,fun p hp=>?_,tracked ⟨oL,hoL,I.free⟩ hs,by simpa using I.len⟩ ⟨_,hs,.inl rfl⟩
  ·exact (hs.2 b (Nat.ne_of_lt (Nat.lt_of_lt_of_le (Heap.lt_size e) I.ok.above))).trans (I.base.keep b o e n hb hx)
  ·obtain ⟨sl,e1⟩:=I.base.slot b o e n hb hx
   exact ⟨sl,(hs.2 b (Nat.ne_of_lt (Nat.lt_of_lt_of_le (Heap.lt_size e) I.ok.above))).trans e1⟩
  ·obtain ⟨o',e1⟩:=I.base.there b o e hx
   exact ⟨o',(hs.2 b (Nat.ne_of_lt (Nat.lt_of_lt_of_le (Heap.lt_size e) I.ok.above))).trans e1⟩
  ·by_cases hj:j=i
   ·subst hj
    rw [hi] at e1;cases e1
    rw [List.getElem?_set_self hiσ] at e2
    cases e2
    exact ⟨u,r,.inl ⟨hk,by simp⟩⟩
   ·rw [List.getElem?_set_ne (Ne.symm hj)] at e2
    obtain ⟨u',r',q⟩:=hl j y v' e1 e2 e3
    refine ⟨u',r',?_⟩
    rcases q with ⟨k,e⟩ | ⟨k,c,e,z⟩
    ·refine .inl ⟨k,?_⟩
     have:y≠x:=fun e=>hj (wP hN e1 (e▸hi))
     simp [this,e]
    ·exact .inr ⟨k,c,e,z.sameBut hs (cne y c e)⟩
  ·obtain ⟨w',z⟩:=I.cell y c e
   exact ⟨w',z.sameBut hs (cne y c e)⟩
  ·obtain ⟨e,n,ne,nf,d⟩:=I.pin p hp
   exact ⟨(hs.2 p.1 ne).trans e,n,ne,nf,d⟩
 ·have hfn:X.fn x=true:=by
   rcases hf with z | z
   ·exact z
   ·rw [z] at hk;cases hk
  obtain ⟨c,hc⟩:=I.ok.has x (.inl hk)
  obtain ⟨w',z⟩:=I.cell x c hc
  refine wpAny_storeName_cell I.ok.kind hk hc z (fun h' hc' hs=>?_)
  obtain ⟨oc,hoc,hocd⟩:=id z
  refine h { s with heap:=h' } ⟨I.ok,I.os,I.bare,⟨fun b o e n hb hx=>?_,fun b o e n hb hx=>?_,I.base.free,fun b o e hx=>?_,I.base.tups,I.base.frzs,I.base.tbls⟩,⟨m,hn.sameBut hs (Ne.symm (cne x c hc)),fun j y v' e1 e2 e3=>?_⟩,fun y c' e=>?_,I.free,I.freeC,fun p hp=>?_,tracked ⟨oc,hoc,I.freeC x c hc⟩ hs,by simpa using I.len⟩ ⟨c,hs,.inr hc⟩
  ·exact (hs.2 b (Nat.ne_of_lt (Nat.lt_of_lt_of_le (Heap.lt_size e) (I.ok.cab x c hfn hc)))).trans (I.base.keep b o e n hb hx)
  ·obtain ⟨sl,e1⟩:=I.base.slot b o e n hb hx
   exact ⟨sl,(hs.2 b (Nat.ne_of_lt (Nat.lt_of_lt_of_le (Heap.lt_size e) (I.ok.cab x c hfn hc)))).trans e1⟩
  ·obtain ⟨o',e1⟩:=I.base.there b o e hx
   exact ⟨o',(hs.2 b (Nat.ne_of_lt (Nat.lt_of_lt_of_le (Heap.lt_size e) (I.ok.cab x c hfn hc)))).trans e1⟩
  ·by_cases hj:j=i
   ·subst hj
    rw [hi] at e1;cases e1
    rw [List.getElem?_set_self hiσ] at e2
    cases e2
    exact ⟨u,r,.inr ⟨.inl hk,c,hc,hc'⟩⟩
   ·rw [List.getElem?_set_ne (Ne.symm hj)] at e2
    obtain ⟨u',r',q⟩:=hl j y v' e1 e2 e3
    refine ⟨u',r',?_⟩
    rcases q with q | ⟨k,c',e,z'⟩
    ·exact .inl q
    ·refine .inr ⟨k,c',e,z'.sameBut hs ?_⟩
     rintro rfl
     exact hj (wP hN e1 (I.ok.inj _ _ _ e hc▸hi))
  ·by_cases hcc:c'=c
   ·subst hcc;exact ⟨_,hc'⟩
   ·obtain ⟨w2,z2⟩:=I.cell y c' e
    exact ⟨w2,z2.sameBut hs hcc⟩
  ·obtain ⟨e,n,ne,nf,d⟩:=I.pin p hp
   refine ⟨(hs.2 p.1 ?_).trans e,n,ne,nf,d⟩
   intro q
   rw [q,hoc] at e
   have q':oc=p.2:=Option.some.inj e
   exact d w' (by rw [←q'];exact hocd)
theorem ip {M:Model}{A:Around}{E:Value→Shared→Prop}{i:Nat}{x:Str}{v:V}{u:Value}{Q:Unit→Shared→Prop} (I:ag X pins σ H s) (hN:X.N.Nodup) (hi:X.N[i]?=some x) (hx:Bq X.env.scope x) (r:aT v u)
 (h:∀s',ag X pins (σ.set i (some v)) H s'→Q () s') (hf:X.fn x=true∨X.env.scope.names.lookup x=some .local:=by first | exact .inl rfl | exact .inr rfl | assumption):wpAny M A (storeName X.env x u) Q E s:=
 uS I hN hi hx r (fun s' I' _=>h s' I') hf
theorem ag.call' {s':Shared}{ch:List Addr} (I:ag X pins σ H s) (ho:s'.os=s.os) (u:Un (dQ X.stack) ch H H' s.heap s'.heap) (hok:dZ X.prog X.w H' s'.heap) (hg:AllBare s'.gens)
 (hch:∀b∈ch,(b∈X.ex∨X.s₀.heap.objs.size≤b)∧b≠X.env.locals∧(∀x c,X.env.cells.lookup x=some c→c≠b)∧∀p∈X.pn++pins,p.1≠b):ag X pins σ H' s':=by
 obtain ⟨h',g',d',t',o'⟩:=s'
 have e:o'=s.os:=ho
 subst e
 exact I.call (g':=g') (t':=t') (d':=d') u hok hg hch
end
abbrev XK:=Value→Option Addr→Hp→Prop
abbrev St:=List (Option V)
abbrev VK:=V→Hp→Prop
abbrev TE:=St→Hp→VK→Prop
abbrev TT:=St→Hp→(Bool→Hp→Prop)→Prop
abbrev TA:=St→Hp→(List V→Hp→Prop)→Prop
structure eh where
 nx:St→Hp→Prop
 rt:VK
 bk:St→Hp→Prop:=fun _ _=>False
 ct:St→Hp→Prop:=fun _ _=>False
abbrev TS:=eh→St→Hp→Prop
inductive EP (X:Cx) (pins:List (Addr×Obj)) (σ:St) (Q:VK) (u:Value) (s':Shared):Prop
 | mk (v:_) (H':_) (h0:ag X pins σ H' s') (h1:aT v u) (h2:Q v H')
def TP (X:Cx) (pins:List (Addr×Obj)) (σ:St) (Q:Bool→Hp→Prop) (b:Bool) (s':Shared):Prop:=∃H',ag X pins σ H' s'∧Q b H'
inductive AP (X:Cx) (pins:List (Addr×Obj)) (σ:St) (Q:List V→Hp→Prop) (us:List Value) (s':Shared):Prop
 | mk (vs:_) (H':_) (h0:ag X pins σ H' s') (h1:aH vs us) (h2:Q vs H')
def SP (X:Cx) (pins:List (Addr×Obj)) (D:eh) (f:Flow) (s':Shared):Prop:=
 match f with
 | .next=>∃σ' H',ag X pins σ' H' s'∧D.nx σ' H'
 | .brk=>∃σ' H',ag X pins σ' H' s'∧D.bk σ' H'
 | .cont=>∃σ' H',ag X pins σ' H' s'∧D.ct σ' H'
 | .ret u=>∃v σ' H',ag X pins σ' H' s'∧aT v u∧D.rt v H'
def PE (X:Cx) (e:Expr) (t:TE):Prop:=
 ∀(pins:List (Addr×Obj)) (s:Shared) (σ:St) (H:Hp) (Q:VK),ag X pins σ H s→t σ H Q→wpAny (model X.prog X.w) X.A (eval e X.env) (EP X pins σ Q) X.xe s
def PT (X:Cx) (e:Expr) (t:TT):Prop:=
 ∀(pins:List (Addr×Obj)) (s:Shared) (σ:St) (H:Hp) (Q:Bool→Hp→Prop),ag X pins σ H s→t σ H Q→wpAny (model X.prog X.w) X.A (isTrue e X.env (eval e X.env)) (TP X pins σ Q) X.xe s
def PW (X:Cx) (e:Expr) (t:TT):Prop:=
 ∀(whole:Sem Value) (pins:List (Addr×Obj)) (s:Shared) (σ:St) (H:Hp) (Q:Bool→Hp→Prop),ag X pins σ H s→t σ H Q→wpAny (model X.prog X.w) X.A (isTrue e X.env whole) (TP X pins σ Q) X.xe s
theorem PW.pt {X:Cx}{e:Expr}{t:TT} (h:PW X e t):PT X e t:=h _
def PA (X:Cx) (es:List Expr) (t:TA):Prop:=
 ∀(pos:Pos) (pins:List (Addr×Obj)) (s:Shared) (σ:St) (H:Hp) (Q:List V→Hp→Prop),ag X pins σ H s→t σ H Q→wpAny (model X.prog X.w) X.A (spliced (backTo pos (starEach es X.env))) (AP X pins σ Q) X.xe s
def PS (X:Cx) (st:Stmt) (t:TS):Prop:=
 ∀(pins:List (Addr×Obj)) (s:Shared) (σ:St) (H:Hp) (D:eh),ag X pins σ H s→t D σ H→wpAny (model X.prog X.w) X.A (exec st X.env) (SP X pins D) X.xe s
def nj (X:Cx) (st:List Stmt) (t:TS):Prop:=
 ∀(pins:List (Addr×Obj)) (s:Shared) (σ:St) (H:Hp) (D:eh),ag X pins σ H s→t D σ H→wpAny (model X.prog X.w) X.A (execs st X.env) (SP X pins D) X.xe s
theorem aK {α:Type}{t:Sem α}{Q Q':α→Shared→Prop}{M:Model}{A:Around}{E:Value→Shared→Prop}{s:Shared} (h:wpAny M A t Q E s) (hQ:∀a s,Q a s→Q' a s):wpAny M A t Q' E s:=wpAny_mono h hQ fun _ _ x=>x
section
variable {X:Cx}
inductive Gp (i:Nat) (σ:St) (H:Hp) (Q:VK):Prop
 | mk (v:_) (h0:σ[i]?=some (some v)) (h1:Q v H)
def AW (i:Nat):TE:=fun σ H Q=>Gp i σ H Q
def tC (v:V):TE:=fun _ H Q=>Q v H
theorem yG {i:Nat}{x:Str}{pos:Pos} (hN:X.N[i]?=some x) (hv:Bu X.env.scope x) (hd:(x==("__debug__" : Str))=false:=by decide) (hcd:(x==("__classdict__" : Str))=false:=by decide):PE X (.Name x pos) (AW i):=by
 intro pins s σ H Q I h
 obtain ⟨v,e,h⟩:=h
 obtain ⟨m,hn,hl⟩:=I.loc
 obtain ⟨u,r,l⟩:=hl i x v hN e hv
 have fin:EP X pins σ Q u s:=⟨v,H,I,r,h⟩
 rcases l with ⟨hk,hm⟩ | ⟨hk,c,hc,hcell⟩
 ·exact wpAny_Name (wpAny_loadName_local I.ok.kind hk hn hm fin) hd
 ·rcases hk with hk | hk
  ·exact wpAny_Name (wpAny_loadName_cell I.ok.kind hk hc hcell fin) hd
  ·exact wpAny_Name (wpAny_loadName_free I.ok.kind hk hc hcell fin hcd) hd
theorem bF {i j pos}:PE X (.Constant (.int i) j pos) (tC (.int i)):=fun _ _ _ H _ I h=>wpAny_Constant_int ⟨.int i,H,I.tok _,⟨()⟩,h⟩
theorem gv {b j pos}:PE X (.Constant (.bool b) j pos) (tC (.bl b)):=fun _ _ _ H _ I h=>Constant_bool ⟨.bl b,H,I,rfl,h⟩
theorem zu {x j pos}:PE X (.Constant (.str x) j pos) (tC (.str x)):=fun _ _ _ H _ I h=>Calls.Constant_str ⟨.str x,H,I.tok _,⟨()⟩,h⟩
def Gl (X:Cx) (x:Str):Prop:=X.env.kindOf x=some .globalImplicit
theorem Cd {E:Value→Shared→Prop}{pins:List (Addr×Obj)}{s:Shared}{σ:St}{H:Hp}{x:Str}{u:Value}{pos:Pos}{Q:Value→Shared→Prop} (I:ag X pins σ H s) (hg:Gl X x) (hm:X.mg x=some u) (h:Q u s)
 (hd:(x==("__debug__" : Str))=false:=by decide):wpAny (model X.prog X.w) X.A (eval (.Name x pos) X.env) Q E s:=
 Calls.Name_function_global I.ok.kind hg (Calls.loadGlobal_global (by rw [I.ok.glob];exact I.mod.glob.keeps I.bk) hm h) hd
theorem lD {E:Value→Shared→Prop}{pins:List (Addr×Obj)}{s:Shared}{σ:St}{H:Hp}{x:Str}{u:Value}{pos:Pos}{Q:Value→Shared→Prop} (I:ag X pins σ H s) (hg:Gl X x) (hm:X.mg x=none) (hv:bootBuiltins x=some u) (h:Q u s)
 (hn:x≠"__name__" := by decide) (hd:(x==("__debug__" : Str))=false:=by decide):wpAny (model X.prog X.w) X.A (eval (.Name x pos) X.env) Q E s:=by
 obtain ⟨mb,h1,h2⟩:=I.mod.blt
 exact Calls.Name_function_global I.ok.kind hg (Calls.loadGlobal_builtin (by rw [I.ok.glob];exact I.mod.glob.keeps I.bk) hm (by rw [I.ok.blt];exact h1.keeps I.bk) ((h2 x hn).trans hv) h) hd
theorem CF {x:Str}{v:V}{u:Value}{pos:Pos} (hg:Gl X x) (hm:X.mg x=none) (hv:bootBuiltins x=some u) (r:aT v u) (hn:x≠"__name__" := by decide) (hd:(x==("__debug__" : Str))=false:=by decide):PE X (.Name x pos) (tC v):=
 fun _ _ _ H _ I h=>lD I hg hm hv ⟨v,H,I,r,h⟩ hn hd
variable {a b:Expr}{ta tb:TE}{pos:Pos}
inductive yD (x:V) (P:Bool→Prop):Prop
 | mk (c:Bool) (e:x=.bl c) (h:P c)
inductive DD (x:V) (P:Int→Prop):Prop
 | mk (c:Int) (e:x=.int c) (h:P c)
def tB (t:TE):TT:=fun σ H Q=>t σ H fun x H1=>yD x fun c=>Q c H1
theorem dz {e:Expr}{t:TE} (h:PE X e t) (he:∀whole,isTrue e X.env whole=(do let v ←whole;standAt e.pos;holding [v] (truthy v)):=by intro _;rfl):PT X e (tB t):=by
 intro pins s σ H Q I hw
 refine isTrue_plain (aK (h pins s σ H _ I hw) fun v s1 ⟨x,H1,I1,r1,q1⟩=>?_) (he _)
 obtain ⟨d,rfl,q⟩:=q1
 cases r1
 exact wpAny_truthy_bool ⟨H1,I1,q⟩
variable {tA tB':TT}{rest:List Expr}
def GZ (t u:TT):TT:=fun σ H Q=>t σ H fun c H1=>if c=true then u σ H1 Q else Q false H1
def Hw (t u:TT):TT:=fun σ H Q=>t σ H fun c H1=>if c=true then Q true H1 else u σ H1 Q
def GS (t:TT):TT:=fun σ H Q=>t σ H fun c H1=>Q (!c) H1
theorem mY (ha:PT X a tA):PW X (.BoolOp .And [a] pos) tA:=by
 intro wh pins s σ H Q I h
 refine isTrue_and (aK (ha pins s σ H Q I h) fun c s1 e=>?_)
 cases c with
 | true=>exact isTrue_and_nil e
 | false=>exact e
theorem kh (ha:PT X a tA):PW X (.BoolOp .Or [a] pos) tA:=by
 intro wh pins s σ H Q I h
 refine isTrue_or (aK (ha pins s σ H Q I h) fun c s1 e=>?_)
 cases c with
 | false=>exact isTrue_or_nil e
 | true=>exact e
theorem qy (ha:PT X a tA) (hb:PW X (.BoolOp .And (b :: rest) pos) tB'):PW X (.BoolOp .And (a :: b :: rest) pos) (GZ tA tB'):=by
 intro wh pins s σ H Q I h
 refine isTrue_and (aK (ha pins s σ H _ I h) fun c s1 ⟨H1,I1,q1⟩=>?_)
 cases c with
 | true=>exact hb wh pins s1 σ H1 Q I1 q1
 | false=>exact ⟨H1,I1,q1⟩
theorem me (ha:PT X a tA) (hb:PW X (.BoolOp .Or (b :: rest) pos) tB'):PW X (.BoolOp .Or (a :: b :: rest) pos) (Hw tA tB'):=by
 intro wh pins s σ H Q I h
 refine isTrue_or (aK (ha pins s σ H _ I h) fun c s1 ⟨H1,I1,q1⟩=>?_)
 cases c with
 | true=>exact ⟨H1,I1,q1⟩
 | false=>exact hb wh pins s1 σ H1 Q I1 q1
theorem gj (ha:PT X a tA):PT X (.UnaryOp .Not a pos) (GS tA):=by
 intro pins s σ H Q I h
 exact isTrue_not (ha pins s σ H (fun c H1=>Q (!c) H1) I h)
def FU (ta tb:TE):TE:=fun σ H Q=>ta σ H fun x H1=>yD x fun c=>if c=true then tb σ H1 Q else Q (.bl false) H1
def Fg (ta:TE):TE:=fun σ H Q=>ta σ H fun x H1=>yD x fun c=>Q (.bl (!c)) H1
theorem km {op}{t:TE} (h:PE X a t):PE X (.BoolOp op [a] pos) t:=fun pins s σ H Q I hw=>BoolOp_one (h pins s σ H Q I hw)
theorem j6 (ha:PE X a ta) (hb:PE X (.BoolOp .And (b :: rest) pos) tb):PE X (.BoolOp .And (a :: b :: rest) pos) (FU ta tb):=by
 intro pins s σ H Q I h
 refine BoolOp_and (aK (ha pins s σ H _ I h) fun v s1 ⟨x,H1,I1,r1,q1⟩=>?_)
 obtain ⟨c,rfl,q1⟩:=q1
 cases r1
 refine wpAny_truthy_bool ?_
 cases c with
 | true=>exact hb pins s1 σ H1 Q I1 q1
 | false=>exact ⟨.bl false,H1,I1,rfl,q1⟩
theorem Ey (ha:PE X a ta):PE X (.UnaryOp .Not a pos) (Fg ta):=by
 intro pins s σ H Q I h
 refine UnaryOp_ (aK (ha pins s σ H _ I h) fun v s1 ⟨x,H1,I1,r1,q1⟩=>?_)
 obtain ⟨c,rfl,q1⟩:=q1
 cases r1
 exact not_of (wpAny_truthy_bool ⟨.bl (!c),H1,I1,rfl,q1⟩)
def HE (t:TT) (ta tb:TE):TE:=fun σ H Q=>t σ H fun c H1=>if c=true then ta σ H1 Q else tb σ H1 Q
theorem jt {c:Expr} (hc:PT X c tA) (ha:PE X a ta) (hb:PE X b tb):PE X (.IfExp c a b pos) (HE tA ta tb):=by
 intro pins s σ H Q I h
 refine wpAny_IfExp (aK (hc pins s σ H _ I h) fun d s1 ⟨H1,I1,q1⟩=>?_)
 cases d with
 | true=>exact ha pins s1 σ H1 Q I1 q1
 | false=>exact hb pins s1 σ H1 Q I1 q1
end
def ah (K:PySem.W.Frag) (H:Hp) (a:Addr) (xs:List V):Prop:=
 Rd H a (.lst xs)∨
  gH fun (o:Obj) (its:Array Value) (n:Nat)=>K.lookup a=some o∧o.cls=.type "list"∧o.dict=none∧o.data=.seq its n∧its.size≤sizeLine∧aH xs its.toList
def aa (K:PySem.W.Frag) (H:Hp) (a:Addr) (xs:List V):Prop:=
 Rd H a (.tup xs)∨
  gH fun (o:Obj) (its:Array Value) (n:Nat)=>K.lookup a=some o∧o.cls=.type "tuple"∧o.data=.seq its n∧its.size≤sizeLine∧aH xs its.toList
def Hg:Value→Option V
 | .none=>some .non
 | .bool b=>some (.bl b)
 | .int i _=>some (.int i)
 | .str x _=>some (.str x)
 | .bytes b _=>some (.byt b)
 | .float b _=>some (.flt b)
 | .ref a=>some (.ref a)
 | .type n=>some (.ty n)
 | _=>none
theorem aT.abs {x:V}{u:Value} (r:aT x u):Hg u=some x:=by
 cases x with
 | non=>cases r;rfl
 | bl _=>cases r;rfl
 | int _=>obtain ⟨t,rfl⟩:=r;rfl
 | str _=>obtain ⟨t,rfl⟩:=r;rfl
 | byt _=>obtain ⟨t,rfl⟩:=r;rfl
 | flt _=>obtain ⟨t,rfl⟩:=r;rfl
 | ref _=>cases r;rfl
 | ty _=>cases r;rfl
theorem aT.inj {x y:V}{u:Value} (r:aT x u) (q:aT y u):x=y:=Option.some.inj (r.abs.symm.trans q.abs)
theorem aH.inj:∀{xs ys:List V}{us:List Value},aH xs us→aH ys us→xs=ys
 | _,_,_,.nil,.nil=>rfl
 | _,_,_,.cons r t,.cons r' t'=>by rw [r.inj r',aH.inj t t']
section
variable {X:Cx}{pins:List (Addr×Obj)}{σ:St}{H:Hp}{s:Shared}{a:Addr}{xs ys:List V}
theorem ah.of {K:PySem.W.Frag} (h:H a=some (.lst xs)):ah K H a xs:=.inl (.inl h)
theorem aa.of {K:PySem.W.Frag} (h:H a=some (.tup xs)):aa K H a xs:=.inl (.inl h)
theorem ag.list (I:ag X pins σ H s) (h:ah X.K H a xs):∃its:List Value,aH xs its∧PlainL s.heap a its.toArray∧xs.length≤sizeLine:=by
 rcases h with h | ⟨o,its,n,hk,hc,hd,hs,hz,r⟩
 ·obtain ⟨z,its,n,r,e⟩:=h.ok I.hok
  exact ⟨its,r,⟨_,n,e,rfl,rfl,rfl⟩,z⟩
 ·refine ⟨its.toList,r,⟨o,n,I.kIn a o hk,hc,hd,by simpa using hs⟩,?_⟩
  have e:=r.length
  simp only [Array.length_toList] at e
  trivial
theorem ag.tuple (I:ag X pins σ H s) (h:aa X.K H a xs):∃its:List Value,aH xs its∧IsTup s.heap a its.toArray∧xs.length≤sizeLine:=by
 rcases h with h | ⟨o,its,n,hk,hc,hs,hz,r⟩
 ·obtain ⟨z,its,r,p,_⟩:=h.ok I.hok
  exact ⟨its,r,p,z⟩
 ·refine ⟨its.toList,r,⟨o,I.kIn a o hk,hc,n,by simpa using hs⟩,?_⟩
  have e:=r.length
  simp only [Array.length_toList] at e
  trivial
theorem ag.list_inj (I:ag X pins σ H s) (h:ah X.K H a xs) (h':ah X.K H a ys):xs=ys:=by
 obtain ⟨its,r,⟨o,n,e,_,_,d⟩,_⟩:=I.list h
 obtain ⟨its',r',⟨o',n',e',_,_,d'⟩,_⟩:=I.list h'
 rw [e] at e';cases e'
 rw [d] at d'
 injection d' with d1 _
 have:its=its':=by simpa using congrArg Array.toList d1
 subst this
 exact r.inj r'
theorem ag.tuple_inj (I:ag X pins σ H s) (h:aa X.K H a xs) (h':aa X.K H a ys):xs=ys:=by
 obtain ⟨its,r,⟨o,e,_,n,d⟩,_⟩:=I.tuple h
 obtain ⟨its',r',⟨o',e',_,n',d'⟩,_⟩:=I.tuple h'
 rw [e] at e';cases e'
 rw [d] at d'
 injection d' with d1 _
 have:its=its':=by simpa using congrArg Array.toList d1
 subst this
 exact r.inj r'
end
abbrev Cx.wish (X:Cx) (E:Value→Shared→Prop):Cx:={ X with xe:=E }
abbrev Cx.nox (X:Cx):Cx:=X.wish fun _ _=>False
theorem Cx.Ok.wish {X:Cx} (ok:X.Ok) (E:Value→Shared→Prop):(X.wish E).Ok:=
 ⟨ok.mod,ok.kind,ok.glob,ok.blt,ok.above,ok.inj,ok.has,ok.cab,ok.hd,ok.frames,ok.stk,ok.exf,ok.bs,ok.bsz,ok.noex,ok.exfs,ok.funs,ok.frf⟩
theorem Cx.Ok.unwish {X:Cx}{E:Value→Shared→Prop} (ok:(X.wish E).Ok):X.Ok:=
 ⟨ok.mod,ok.kind,ok.glob,ok.blt,ok.above,ok.inj,ok.has,ok.cab,ok.hd,ok.frames,ok.stk,ok.exf,ok.bs,ok.bsz,ok.noex,ok.exfs,ok.funs,ok.frf⟩
section
variable {X:Cx}{pins:List (Addr×Obj)}{σ:St}{H:Hp}{s:Shared}{E:Value→Shared→Prop}
theorem ag.wish (I:ag X pins σ H s) (E:Value→Shared→Prop):ag (X.wish E) pins σ H s:=⟨I.ok.wish E,I.os,I.bare,I.base,I.loc,I.cell,I.free,I.freeC,I.pin,I.hok,I.len⟩
theorem ag.unwish (I:ag (X.wish E) pins σ H s):ag X pins σ H s:=⟨I.ok.unwish,I.os,I.bare,I.base,I.loc,I.cell,I.free,I.freeC,I.pin,I.hok,I.len⟩
theorem SP.unwish {D:eh}{f:Flow}{s':Shared} (h:SP (X.wish E) pins D f s'):SP X pins D f s':=by
 cases f with
 | next=>obtain ⟨σ',H',I,q⟩:=h;exact ⟨σ',H',I.unwish,q⟩
 | brk=>obtain ⟨σ',H',I,q⟩:=h;exact ⟨σ',H',I.unwish,q⟩
 | cont=>obtain ⟨σ',H',I,q⟩:=h;exact ⟨σ',H',I.unwish,q⟩
 | ret u=>obtain ⟨v,σ',H',I,r,q⟩:=h;exact ⟨v,σ',H',I.unwish,r,q⟩
theorem nj.nox {st:List Stmt}{t:TS} (h:nj X.nox st t):nj X st t:=fun pins s σ H D I hw=>
 wpAny_mono (h pins s σ H D (I.wish _) hw) (fun _ _ q=>q.unwish) fun _ _ z=>False.elim z
end
section
variable {X:Cx}{st:Stmt}{rest:List Stmt}{t u:TS}{e:Expr}{te:TE}{pos:Pos}
def Fw:TS:=fun D σ H=>D.nx σ H
def kn (t u:TS):TS:=fun D σ H=>t { D with nx:=u D } σ H
theorem bc:nj X [] Fw:=fun _ _ σ H _ I h=>wpAny_execs_nil ⟨σ,H,I,h⟩
theorem fR (h1:PS X st t) (h2:nj X rest u):nj X (st :: rest) (kn t u):=by
 intro pins s σ H D I h
 refine wpAny_execs_cons (aK (h1 pins s σ H { D with nx:=u D } I h) fun f s1 q=>?_)
 cases f with
 | next=>
  obtain ⟨σ',H',I',q⟩:=q
  exact h2 pins s1 σ' H' D I' q
 | ret v=>exact q
 | brk=>exact q
 | cont=>exact q
theorem ac (h1:PS X st t):nj X [st] t:=by
 intro pins s σ H D I h
 refine wpAny_execs_cons (aK (h1 pins s σ H D I h) fun f s1 q=>?_)
 cases f with
 | next=>exact wpAny_execs_nil q
 | ret v=>exact q
 | brk=>exact q
 | cont=>exact q
theorem ag.quiet {pins:List (Addr×Obj)}{σ:St}{H:Hp}{s:Shared} (I:ag X pins σ H s):interactive X.env=false:=by simp [interactive,I.ok.kind]
def FD (te:TE):TS:=fun D σ H=>te σ H fun _ H1=>D.nx σ H1
theorem dn (he:PE X e te) (hs:swapsWith e none pos.line X.env=pure false:=by rfl):PS X (.Expr e pos) (FD te):=by
 intro pins s σ H D I h
 exact wpAny_Expr_any (aK (he pins s σ H _ I h) fun v s1 ⟨x,H1,I1,r1,q1⟩=>⟨σ,H1,I1,q1⟩) I.quiet hs
def Dz (te:TE):TS:=fun D σ H=>te σ H D.rt
theorem aB (he:PE X e te):PS X (.Return (some e) pos) (Dz te):=by
 intro pins s σ H D I h
 exact wpAny_Return_some (aK (he pins s σ H _ I h) fun v s1 ⟨x,H1,I1,r1,q1⟩=>⟨x,σ,H1,I1,r1,q1⟩)
def EQ (c:TT) (t u:TS):TS:=fun D σ H=>c σ H fun b H1=>if b=true then t D σ H1 else u D σ H1
theorem bH {c:Expr}{a b:List Stmt}{tc:TT} (hc:PT X c tc) (ha:nj X a t) (hb:nj X b u):PS X (.If c a b pos) (EQ tc t u):=by
 intro pins s σ H D I h
 refine wpAny_If (aK (hc pins s σ H _ I h) fun d s1 ⟨H1,I1,q1⟩=>?_)
 cases d with
 | true=>exact ha pins s1 σ H1 D I1 q1
 | false=>exact hb pins s1 σ H1 D I1 q1
end
abbrev TG:=V→St→Hp→(St→Hp→Prop)→Prop
abbrev rj:=List V→St→Hp→(St→Hp→Prop)→Prop
def PG (X:Cx) (target:Expr) (t:TG):Prop:=
 ∀(pins:List (Addr×Obj)) (s:Shared) (σ:St) (H:Hp) (v:V) (u:Value) (Q:St→Hp→Prop),ag X pins σ H s→aT v u→t v σ H Q→
   wpAny (model X.prog X.w) X.A (assign target X.env u) (fun _ s'=>∃σ' H',ag X pins σ' H' s'∧Q σ' H') X.xe s
def zF (X:Cx) (ts:List Expr) (t:rj):Prop:=
 ∀(pins:List (Addr×Obj)) (s:Shared) (σ:St) (H:Hp) (vs:List V) (us:List Value) (Q:St→Hp→Prop),ag X pins σ H s→aH vs us→t vs σ H Q→
   wpAny (model X.prog X.w) X.A (assignInOrder ((assignEach ts X.env).map (·.2)) us) (fun _ s'=>∃σ' H',ag X pins σ' H' s'∧Q σ' H') X.xe s
abbrev A2:=V→V→V→Hp→(Hp→Prop)→Prop
def ym (X:Cx) (t:A2):Prop:=
 ∀(pins:List (Addr×Obj)) (s:Shared) (σ:St) (H:Hp) (o i v:V) (ov iv u:Value) (Q:Hp→Prop),ag X pins σ H s→aT o ov→aT i iv→aT v u→t o i v H Q→
   wpAny (model X.prog X.w) X.A (setItem ov iv u) (fun _ s'=>∃H',ag X pins σ H' s'∧Q H') X.xe s
section
variable {X:Cx}{pos:Pos}
def qC (i:Nat):TG:=fun v σ H Q=>Q (σ.set i (some v)) H
theorem gC {i:Nat}{x:Str} (hN:X.N.Nodup) (hi:X.N[i]?=some x) (hx:Bq X.env.scope x) (hf:X.fn x=true∨X.env.scope.names.lookup x=some .local:=by first | exact .inl rfl | exact .inr rfl | assumption):PG X (.Name x pos) (qC i):=by
 intro pins s σ H v u Q I r h
 exact wpAny_assign_Name (ip I hN hi hx r (fun s' I'=>⟨_,H,I',h⟩) hf)
def EZ:rj:=fun vs σ H Q=>vs=[]∧Q σ H
inductive DG (t:TG) (u:rj) (vs:List V) (σ:St) (H:Hp) (Q:St→Hp→Prop):Prop
 | mk (v:_) (r:_) (h0:vs=v :: r) (h1:t v σ H fun σ' H'=>u r σ' H' Q)
def ye (t:TG) (u:rj):rj:=fun vs σ H Q=>DG t u vs σ H Q
theorem aW:zF X [] EZ:=by
 intro pins s σ H vs us Q I r h
 obtain ⟨e,h⟩:=h
 subst e
 cases r
 exact assignInOrder_nil ⟨σ,H,I,h⟩
theorem af {e:Expr}{es:List Expr}{t:TG}{u:rj} (h1:PG X e t) (h2:zF X es u)
 (hs:(assignEach (e :: es) X.env).map (·.2)=assign e X.env :: (assignEach es X.env).map (·.2):=by rfl):zF X (e :: es) (ye t u):=by
 intro pins s σ H vs us Q I r h
 obtain ⟨v,vr,e1,h⟩:=h
 subst e1
 cases r with
 | cons r rr=>
  rw [hs]
  refine assignInOrder_cons (aK (h1 pins s σ H _ _ _ I r h) fun _ s1 ⟨σ1,H1,I1,q1⟩=>?_)
  exact h2 pins s1 σ1 H1 _ _ Q I1 rr q1
inductive Fp (K:PySem.W.Frag) (n:Nat) (t:rj) (v:V) (σ:St) (H:Hp) (Q:St→Hp→Prop):Prop
 | mk (a:_) (xs:_) (h0:v=.ref a) (h1:aa K H a xs) (h2:xs.length=n) (h3:t xs σ H Q)
def AA (K:PySem.W.Frag) (n:Nat) (t:rj):TG:=fun v σ H Q=>Fp K n t v σ H Q
theorem zO {es:List Expr}{k:Nat}{t:rj}{n:Nat} (hc:X.calm=true) (h:zF X es t)
 (hn:(assignEach es X.env).length=n:=by rfl) (hst:(assignEach es X.env).findIdx? (·.1)=none:=by rfl):PG X (.Tuple es k pos) (AA X.K n t):=by
 intro pins s σ H v u Q I r hw
 obtain ⟨a,xs,e1,hq,hl,hw⟩:=hw
 subst e1
 cases r
 obtain ⟨its,rv,ht,hz⟩:=I.tuple hq
 refine assign_Tuple_tuple (I.ok.hd hc) ht (by simp [hn,←hl,rv.length]) hst fun h' hx=>?_
 have I1:ag X pins σ H { s with heap:=h' }:=I.kept (t':=s.toks) fun b o e=>hx b o (Nat.ne_of_lt (Heap.lt_size e)) e
 exact h pins _ σ H xs _ Q I1 (by simpa using rv) hw
def GG (to ti:TE) (t:A2):TG:=fun v σ H Q=>to σ H fun o H1=>ti σ H1 fun i H2=>t o i v H2 fun H3=>Q σ H3
theorem iP {o i:Expr}{to ti:TE}{t:A2} (ho:PE X o to) (hi:PE X i ti) (hs:ym X t)
 (ha:∀v,assign (.Subscript o i pos) X.env v=(do
  let ov ←holding [v] (eval o X.env)
  let iv ←holding [v,ov] (eval i X.env)
  standAt pos
  holding [v,ov,iv] (setItem ov iv v)
  release [v,ov,iv] []):=by intro _;rfl):PG X (.Subscript o i pos) (GG to ti t):=by
 intro pins s σ H v u Q I r h
 rw [ha]
 refine wpAny_bind (wpAny_holding (aK (ho pins s σ H _ I h) fun ov s1 ⟨x,H1,I1,r1,q1⟩=>?_))
 refine wpAny_bind (wpAny_holding (aK (hi pins s1 σ H1 _ I1 q1) fun iv s2 ⟨y,H2,I2,r2,q2⟩=>?_))
 refine wpAny_bind (wpAny_standAt (wpAny_bind (wpAny_holding (aK (hs pins s2 σ H2 x y v ov iv u _ I2 r1 r2 r q2) fun _ s3 ⟨H3,I3,q3⟩=>?_))))
 exact wpAny_release ⟨σ,H3,I3,q3⟩
def xY (te:TE) (g:TG):TS:=fun D σ H=>te σ H fun x H1=>g x σ H1 D.nx
theorem cD {tg e:Expr}{te:TE}{g:TG} (he:PE X e te) (hg:PG X tg g) (hs:swapsWithSole [tg] e pos.line X.env=pure false:=by rfl) (hw:swappedStores [tg] e X.env=pure none:=by rfl)
 (h1:(assignEach [tg] X.env).map (·.2)=[assign tg X.env]:=by rfl):PS X (.Assign [tg] e pos) (xY te g):=by
 intro pins s σ H D I h
 refine wpAny_Assign_stores (aK (he pins s σ H _ I h) fun v s1 ⟨x,H1,I1,r1,q1⟩=>?_) hs hw
 rw [h1]
 exact aK (hg pins s1 σ H1 x v _ I1 r1 q1) fun _ s2 q=>q
theorem jT {i:Nat}{x:Str}{e:Expr}{te:TE}{pos':Pos} (hN:X.N.Nodup) (hi:X.N[i]?=some x) (hx:Bq X.env.scope x) (he:PE X e te) (hs:swapsWith e (some (.Name x pos')) pos.line X.env=pure false:=by rfl) (hf:X.fn x=true∨X.env.scope.names.lookup x=some .local:=by first | exact .inl rfl | exact .inr rfl | assumption) :
 PS X (.Assign [.Name x pos'] e pos) (xY te (qC i)):=by
 intro pins s σ H D I h
 refine wpAny_Assign_Name (aK (he pins s σ H _ I h) fun v s1 ⟨y,H1,I1,r1,q1⟩=>?_) hs
 exact ip I1 hN hi hx r1 (fun s2 I2=>⟨_,H1,I2,q1⟩) hf
def DR (i j:Nat) (ta:TA):TS:=fun D σ H=>ta σ H fun vs H1=>bE fun v w=>vs=[v,w]∧D.nx ((σ.set i (some v)).set j (some w)) H1
theorem ja {i j:Nat}{x y:Str}{a b:Expr}{ta:TA}{px py pt:Pos}{kt k2 pt2} (hc:X.calm=true) (hN:X.N.Nodup) (hi:X.N[i]?=some x) (hj:X.N[j]?=some y) (hij:i≠j)
 (hx:X.env.scope.names.lookup x=some .local) (hy:X.env.scope.names.lookup y=some .local) (ha:PA X [a,b] ta)
 (hw:swappedStores [.Tuple [.Name x px,.Name y py] kt pt] (.Tuple [a,b] k2 pt2) X.env=pure (some [x,y]))
 (hs:swapsWithSole [.Tuple [.Name x px,.Name y py] kt pt] (.Tuple [a,b] k2 pt2) pos.line X.env=pure false:=by rfl) :
 PS X (.Assign [.Tuple [.Name x px,.Name y py] kt pt] (.Tuple [a,b] k2 pt2) pos) (DR i j ta):=by
 intro pins s σ H D I h
 rw [exec_Assign_arm]
 refine wpAny_bind (wpAny_standAt ?_)
 rw [hs]
 refine wpAny_bind (wpAny_pure ?_)
 rw [if_neg (by decide)]
 refine wpAny_bind (Tuple_ (aK (ha _ pins s σ H _ I h) fun us s1 ⟨vs,H1,I1,r1,q1⟩=>?_))
 obtain ⟨v,w,e1,q1⟩:=q1
 subst e1
 obtain ⟨u1,u2,rfl,rv,rw'⟩:bE fun u1 u2=>us=[u1,u2]∧aT v u1∧aT w u2:=by
  cases r1 with
  | cons p q=>
   cases q with
   | cons p' q'=>
    cases q'
    exact ⟨_,(),p,p'⟩
 refine wpAny_newObj_type ?_ (by show 2≤sizeLine;decide)
 have I2:ag X pins σ H1 { s1 with heap:=s1.heap.push { cls:=.type "tuple",data:=.seq [u1,u2].toArray } }:=I1.kept (t':=s1.toks) fun b o e=>Heap.get?_push_of_some _ e
 rw [hw]
 refine wpAny_bind (wpAny_pure ?_)
 show wpAny (model X.prog X.w) X.A (do rule "assign.swapped-stores";let items ←unpackItems (.ref s1.heap.objs.size) 2 none;assignInOrder [fun v=>bindName X.env y v,fun v=>bindName X.env x v] items.reverse;pure Flow.next) _ _ _
 refine wpAny_bind (wpAny_rule (wpAny_bind (unpackItems_tuple (items:=#[u1,u2]) (I.ok.hd hc) (IsTup.new s1.heap _) fun h' hx'=>?_)))
 have I3:=I2.kept (h':=h') (t':=s1.toks) fun b o e=>hx' b o (Nat.ne_of_lt (Heap.lt_size e)) e
 show wpAny _ _ (assignInOrder [fun v=>bindName X.env y v,fun v=>bindName X.env x v] [u2,u1] >>= fun _=>pure Flow.next) _ _ _
 refine wpAny_bind (assignInOrder_cons (wpAny_bindName (ip I3 hN hj (.inl hy) rw' (fun s2 I4=>?_) (.inr hy))))
 refine assignInOrder_cons (wpAny_bindName (ip I4 hN hi (.inl hx) rv (fun s3 I5=>assignInOrder_nil (wpAny_pure ?_)) (.inr hx)))
 rw [List.set_comm _ _ (Ne.symm hij)] at I5
 exact ⟨_,H1,I5,q1⟩
end
section
variable {X:Cx}{pos:Pos}
def Ed (c:TT) (tb:TS):TS:=fun D σ H=>∃W:Nat→St→Hp→Prop,(∃m,W m σ H)∧∀m σ H,W m σ H→
 c σ H fun b H1=>if b=true then ∃N:St→Hp→Prop,(∀σ' H',N σ' H'→∃m',m'<m∧W m' σ' H')∧tb { D with nx:=N,ct:=N,bk:=D.nx } σ H1 else D.nx σ H1
theorem vW {c:Expr}{body:List Stmt}{tc:TT}{tb:TS} (hp:PassesOwn (model X.prog X.w) X.A X.env X.xe) (hc:PT X c tc) (hb:nj X body tb):PS X (.While c body [] pos) (Ed tc tb):=by
 intro pins s σ H D I h
 obtain ⟨W,⟨m0,w0⟩,turn⟩:=h
 refine wpAny_While (codeAny_whileLoop (fun n s'=>∃σ' H',ag X pins σ' H' s'∧W n σ' H') ?_ m0 ⟨σ,H,I,w0⟩)
 rintro n s1 ⟨σ1,H1,I1,w1⟩
 refine wpAny_passesOwn hp (aK (hc pins s1 σ1 H1 _ I1 (turn n σ1 H1 w1)) fun b s2 ⟨H2,I2,q2⟩=>?_)
 cases b with
 | true=>
  obtain ⟨N,hN,q2⟩:=q2
  rw [if_pos rfl]
  refine wpAny_passesOwn hp (aK (hb pins s2 σ1 H2 _ I2 q2) fun f s3 q3=>?_)
  cases f with
  | next=>
   obtain ⟨σ3,H3,I3,n3⟩:=q3
   obtain ⟨m',hm,w3⟩:=hN σ3 H3 n3
   exact ⟨m',hm,σ3,H3,I3,w3⟩
  | cont=>
   obtain ⟨σ3,H3,I3,n3⟩:=q3
   obtain ⟨m',hm,w3⟩:=hN σ3 H3 n3
   exact ⟨m',hm,σ3,H3,I3,w3⟩
  | brk=>exact q3
  | ret v=>exact q3
 | false=>
  rw [if_neg Bool.false_ne_true]
  exact wpAny_execs_nil ⟨σ1,H2,I2,q2⟩
end
structure It where
 go:Nat→Hp→Prop
 yld:Nat→Hp→V→Hp→Prop
 stop:Nat→Hp→Prop
def il (X:Cx) (pins:List (Addr×Obj)) (H:Hp) (b:Addr):Prop:=
 H b=none∧b≠X.env.locals∧b∉X.fs∧(b∈X.ex∨X.s₀.heap.objs.size≤b)∧(∀x c,X.env.cells.lookup x=some c→c≠b)∧∀p∈X.pn++pins,p.1≠b
theorem ag.fpOk {X:Cx}{pins:List (Addr×Obj)}{σ:St}{H H':Hp}{s:Shared}{b:Addr} (I:ag X pins σ H s) (hb:s.heap.objs.size≤b) (hn:H' b=none):il X pins H' b:=by
 refine ⟨hn,Nat.ne_of_gt (Nat.lt_of_lt_of_le I.lt hb),I.nofs hb,.inr (Nat.le_trans I.sz hb),fun x c e z=>?_,fun p hp z=>?_⟩
 ·obtain ⟨v,q⟩:=I.cell x c e
  exact absurd (Nat.lt_of_lt_of_le q.lt (by rw [z];exact hb)) (Nat.lt_irrefl _)
 ·exact absurd (Nat.lt_of_lt_of_le (Heap.lt_size (I.pin p hp).1) (by rw [z];exact hb)) (Nat.lt_irrefl _)
structure pM (P:Program) (w:World) (K:PySem.W.Frag) (tg:Expr) (J:It) (fp:List Addr) (it:Addr) (tn:Nat→Heap→Prop):Prop where
 mem:it∈fp
 obj:∀i h,tn i h→∀b∈fp,∃o,h.get? b=some o∧∀v,o.data≠.cell v
 keep:∀i h h',tn i h→(∀b∈fp,∀o,h.get? b=some o→h'.get? b=some o)→tn i h'
 item:∀(X:Cx),X.prog=P→X.w=w→X.K=K→X.calm=true→∀(i:Nat) (pins:List (Addr×Obj)) (s:Shared) (σ:St) (H:Hp) (E:Value→Shared→Prop),ag X pins σ H s→(∀b∈fp,il X pins H b)→tn i s.heap→J.go i H→
  wpAny (model P w) X.A (pyNext (.ref it)) (fun r s1=>∃u,r=some u∧
   wpAny (model P w) X.A (letOwnedTupleGo tg (.ref it) u) (fun _ s2=>bE fun x H'=>ag X pins σ H' s2∧aT x u∧J.yld i H x H'∧tn (i+1) s2.heap∧∀b∈fp,H' b=none) E s1) E s
 done:∀(X:Cx),X.prog=P→X.w=w→X.K=K→X.calm=true→∀(i:Nat) (pins:List (Addr×Obj)) (s:Shared) (σ:St) (H:Hp) (E:Value→Shared→Prop),ag X pins σ H s→(∀b∈fp,il X pins H b)→tn i s.heap→J.stop i H→
  wpAny (model P w) X.A (pyNext (.ref it)) (fun r s1=>r=none∧ag X pins σ H s1) E s
 self:∀(A:Around) (i:Nat) (s:Shared) (Q:Value→Shared→Prop) (E:Value→Shared→Prop),tn i s.heap→Q (.ref it) s→wpAny (model P w) A (pyIter (.ref it)) Q E s
abbrev TI:=St→Hp→(It→Hp→Prop)→Prop
def GC (X:Cx) (pins:List (Addr×Obj)) (σ:St) (tg:Expr) (R:It→Hp→Prop) (itv:Value) (s2:Shared):Prop:=
 wd fun (it:Addr) (fp:List Addr) (tn:Nat→Heap→Prop) (J:It) (H':Hp)=>itv=.ref it∧ag X pins σ H' s2∧pM X.prog X.w X.K tg J fp it tn∧tn 0 s2.heap∧(∀b∈fp,il X pins H' b)∧R J H'
def PI (X:Cx) (tg iter:Expr) (wi:TI):Prop:=
 ∀(pins:List (Addr×Obj)) (s:Shared) (σ:St) (H:Hp) (R:It→Hp→Prop),ag X pins σ H s→wi σ H R→
   wpAny (model X.prog X.w) X.A (eval iter X.env) (fun v s1=>wpAny (model X.prog X.w) X.A (pyIter v) (GC X pins σ tg R) X.xe s1) X.xe s
theorem vH {M:Model}{A:Around}{E:Value→Shared→Prop}{s:Shared}{tg:Expr}{it:Addr}{u:Value}{o:Obj}{n:String}{vs:Array Value}{Q:Unit→Shared→Prop} (ho:s.heap.get? it=some o) (hc:o.cls=.type n) (hd:o.data=.fields vs)
 (hn:["enumerate", "zip", "dict_itemiterator", "dict_reverseitemiterator", "odict_iterator", "itertools.zip_longest", "itertools.pairwise"].contains n=false) (hQ:Q () s):wpAny M A (letOwnedTupleGo tg (.ref it) u) Q E s:=by
 unfold letOwnedTupleGo
 cases tg <;> first
  | exact wpAny_pure hQ
  | (cases u <;> first
   | exact wpAny_pure hQ
   | (refine wpAny_bind (wpAny_load ho ?_)
      rw [hc,hd]
      show wpAny M A (if (["enumerate", "zip", "dict_itemiterator", "dict_reverseitemiterator", "odict_iterator", "itertools.zip_longest", "itertools.pairwise"].contains n && vs[0]?==some (rawInt _))=true then _ else _) Q E s
      rw [if_neg (by intro h;rw [hn,Bool.false_and] at h;cases h)]
      exact wpAny_pure hQ))
def yT (K:PySem.W.Frag) (a:Addr):It:=
 ⟨fun i H=>bE fun xs x=>ah K H a xs∧xs[i]?=some x,fun i H x H'=>H'=H∧∀xs,ah K H a xs→xs[i]?=some x,fun i H=>∃xs,ah K H a xs∧xs.length≤i⟩
def zg (K:PySem.W.Frag) (a:Addr):It:=
 ⟨fun i H=>bE fun xs x=>aa K H a xs∧xs[i]?=some x,fun i H x H'=>H'=H∧∀xs,aa K H a xs→xs[i]?=some x,fun i H=>∃xs,aa K H a xs∧xs.length≤i⟩
def xJ (lo:Int) (n:Nat):It:=⟨fun i _=>i<n,fun i H x H'=>H'=H∧x=.int (lo+i),fun i _=>n≤i⟩
theorem yO {P:Program}{w:World}{K:PySem.W.Frag}{tg:Expr} (a it:Addr):pM P w K tg (yT K a) [it] it (fun i h=>h.IsListIter it a i) where
 mem:=by simp
 obj:=fun i h st b hb=>by
  have e:b=it:=by simpa using hb
  subst e
  obtain ⟨o,e,c,d⟩:=st
  exact ⟨o,e,fun v z=>by rw [d] at z;cases z⟩
 keep:=fun i h h' st k=>st.at fun o e=>k it (by simp) o e
 item:=by
  intro X hP hw hK hc i pins s σ H E I hf st hg
  subst hP hw hK
  obtain ⟨xs,x,hq,hx⟩:=hg
  obtain ⟨its,rv,p,hz⟩:=I.list hq
  obtain ⟨u,hu,ru⟩:=rv.get hx
  obtain ⟨f0,f1,f2,f3,f4,f5⟩:=hf it (by simp)
  refine wpAny_pyNext_list_item st p.isList (x:=u) (by simpa using hu) fun h' st' sb=>?_
  have I1:ag X pins σ H { s with heap:=h' }:=I.turned (t':=s.toks) (fun b o hb e=>(sb.2 b hb).trans e) f0 f1 f3 f4 f5
  obtain ⟨o,e,c,d⟩:=id st'
  exact ⟨u,rfl,vH (s:={ s with heap:=h' }) e c d (by decide) ⟨x,H,I1,ru,⟨rfl,fun ys hy=>by rw [I.list_inj hy hq];exact hx⟩,st',fun b hb=>(hf b hb).1⟩⟩
 done:=by
  intro X hP hw hK hc i pins s σ H E I hf st hg
  subst hP hw hK
  obtain ⟨xs,hq,hx⟩:=hg
  obtain ⟨its,rv,p,hz⟩:=I.list hq
  obtain ⟨f0,f1,f2,f3,f4,f5⟩:=hf it (by simp)
  have hl:=rv.length
  exact wpAny_pyNext_list_end (I.ok.hd hc) st p.isList (by simp;trivial) fun h' eb=>⟨rfl,I.turned (t':=s.toks) (fun b o hb e=>eb b o hb e) f0 f1 f3 f4 f5⟩
 self:=fun _ _ _ _ _ st h=>wpAny_pyIter_listiter st h
theorem yE {P:Program}{w:World}{K:PySem.W.Frag}{tg:Expr} (a it:Addr):pM P w K tg (zg K a) [it] it (fun i h=>h.IsTupleIter it a i) where
 mem:=by simp
 obj:=fun i h st b hb=>by
  have e:b=it:=by simpa using hb
  subst e
  obtain ⟨o,e,c,d⟩:=st
  exact ⟨o,e,fun v z=>by rw [d] at z;cases z⟩
 keep:=fun i h h' st k=>st.at fun o e=>k it (by simp) o e
 item:=by
  intro X hP hw hK hc i pins s σ H E I hf st hg
  subst hP hw hK
  obtain ⟨xs,x,hq,hx⟩:=hg
  obtain ⟨its,rv,p,hz⟩:=I.tuple hq
  obtain ⟨u,hu,ru⟩:=rv.get hx
  obtain ⟨f0,f1,f2,f3,f4,f5⟩:=hf it (by simp)
  refine wpAny_pyNext_tuple_item st (show s.heap.IsTuple a its.toArray from p) (x:=u) (by simpa using hu) fun h' st' sb=>?_
  have I1:ag X pins σ H { s with heap:=h' }:=I.turned (t':=s.toks) (fun b o hb e=>(sb.2 b hb).trans e) f0 f1 f3 f4 f5
  obtain ⟨o,e,c,d⟩:=id st'
  exact ⟨u,rfl,vH (s:={ s with heap:=h' }) e c d (by decide) ⟨x,H,I1,ru,⟨rfl,fun ys hy=>by rw [I.tuple_inj hy hq];exact hx⟩,st',fun b hb=>(hf b hb).1⟩⟩
 done:=by
  intro X hP hw hK hc i pins s σ H E I hf st hg
  subst hP hw hK
  obtain ⟨xs,hq,hx⟩:=hg
  obtain ⟨its,rv,p,hz⟩:=I.tuple hq
  obtain ⟨f0,f1,f2,f3,f4,f5⟩:=hf it (by simp)
  have hl:=rv.length
  exact wpAny_pyNext_tuple_end (I.ok.hd hc) st (show s.heap.IsTuple a its.toArray from p) (by simp;trivial) fun h' eb=>⟨rfl,I.turned (t':=s.toks) (fun b o hb e=>eb b o hb e) f0 f1 f3 f4 f5⟩
 self:=fun _ _ _ _ _ st h=>wpAny_pyIter_tupleiter st h
theorem yB {P:Program}{w:World}{K:PySem.W.Frag}{tg:Expr} (it:Addr) (lo:Int) (n:Nat):pM P w K tg (xJ lo n) [it] it (fun i h=>IsRangeIter h it (lo+(i:Nat)*1) ((n:Int) - (i:Nat)) 1) where
 mem:=by simp
 obj:=fun i h st b hb=>by
  have e:b=it:=by simpa using hb
  subst e
  exact ⟨_,st,fun v z=>by
   have z':Data.fields _=Data.cell v:=z
   cases z'⟩
 keep:=fun i h h' st k=>k it (by simp) _ st
 item:=by
  intro X hP hw hK hc i pins s σ H E I hf st hg
  subst hP hw hK
  obtain ⟨f0,f1,f2,f3,f4,f5⟩:=hf it (by simp)
  have W:=Walks.range (prog:=X.prog) (w:=X.w) (I.ok.hd hc) it lo 1 n
  refine W.item i s _ _ hg st fun v h' tk hv st' kk=>?_
  obtain ⟨t,rfl⟩:=hv
  have I1:ag X pins σ H { s with heap:=h',toks:=tk }:=I.turned (fun b o hb e=>kk b o (by simpa using hb) e) f0 f1 f3 f4 f5
  refine ⟨(),vH (s:={ s with heap:=h',toks:=tk }) (n := "range_iterator") st' rfl rfl (by decide) ⟨.int (lo+i),H,I1,⟨t,?_⟩,⟨rfl,rfl⟩,st',fun b hb=>(hf b hb).1⟩⟩
  rw [Int.mul_one]
 done:=by
  intro X hP hw hK hc i pins s σ H E I hf st hg
  subst hP hw hK
  obtain ⟨f0,f1,f2,f3,f4,f5⟩:=hf it (by simp)
  exact wpAny_pyNext_range_end (I.ok.hd hc) st (by have:n≤i:=hg;trivial) fun h' eb=>⟨rfl,I.turned (t':=s.toks) (fun b o hb e=>eb b o hb e) f0 f1 f3 f4 f5⟩
 self:=fun _ _ _ _ _ st h=>wpAny_pyIter_rangeiter st h
section
variable {X:Cx}{tg:Expr}
def Bl (K:PySem.W.Frag) (tl:TE):TI:=fun σ H R=>tl σ H fun x H1=>∃a,x=.ref a∧(∃xs,ah K H1 a xs)∧R (yT K a) H1
def EU (K:PySem.W.Frag) (tl:TE):TI:=fun σ H R=>tl σ H fun x H1=>∃a,x=.ref a∧(∃xs,aa K H1 a xs)∧R (zg K a) H1
theorem BE {l:Expr}{tl:TE} (hl:PE X l tl):PI X tg l (Bl X.K tl):=by
 intro pins s σ H R I h
 refine aK (hl pins s σ H _ I h) fun v s1 ⟨x,H1,I1,r1,q1⟩=>?_
 obtain ⟨a,e,⟨xs,hq⟩,q⟩:=q1
 subst e
 cases r1
 obtain ⟨its,rv,p,hz⟩:=I1.list hq
 refine wpAny_pyIter_list p.isList ?_
 refine ⟨s1.heap.objs.size,[s1.heap.objs.size],_,_,H1,rfl,I1.kept (t':=s1.toks) fun b o e=>Heap.get?_push_of_some _ e,yO a _,⟨_,Heap.get?_push_size _ rfl,rfl,rfl⟩,fun b hb=>?_,q⟩
 have e:b=s1.heap.objs.size:=by simpa using hb
 subst e
 exact I1.fpOk (Nat.le_refl _) (I1.hok.fresh (Nat.le_refl _))
theorem C0 {l:Expr}{tl:TE} (hl:PE X l tl):PI X tg l (EU X.K tl):=by
 intro pins s σ H R I h
 refine aK (hl pins s σ H _ I h) fun v s1 ⟨x,H1,I1,r1,q1⟩=>?_
 obtain ⟨a,e,⟨xs,hq⟩,q⟩:=q1
 subst e
 cases r1
 obtain ⟨its,rv,p,hz⟩:=I1.tuple hq
 refine wpAny_pyIter_tuple (show s1.heap.IsTuple a its.toArray from p) ?_
 refine ⟨s1.heap.objs.size,[s1.heap.objs.size],_,_,H1,rfl,I1.kept (t':=s1.toks) fun b o e=>Heap.get?_push_of_some _ e,yE a _,⟨_,Heap.get?_push_size _ rfl,rfl,rfl⟩,fun b hb=>?_,q⟩
 have e:b=s1.heap.objs.size:=by simpa using hb
 subst e
 exact I1.fpOk (Nat.le_refl _) (I1.hok.fresh (Nat.le_refl _))
theorem AV {pins:List (Addr×Obj)}{σ:St}{H:Hp}{s:Shared}{R:It→Hp→Prop}{E:Value→Shared→Prop}{lo hi:Int}{t u v:Tok}{tk:Nat} (I:ag X pins σ H s) (h1:-(2 ^ 62)≤lo) (h2:lo<2 ^ 62) (h3:-(2 ^ 62)≤hi) (h4:hi<2 ^ 62)
 (q:R (xJ lo (hi - lo).toNat) H):wpAny (model X.prog X.w) X.A (pyIter (.ref s.heap.objs.size)) (GC X pins σ tg R) E { s with heap:=s.heap.push { cls:=.type "range",data:=.fields #[.int lo t,.int hi u,.int 1 v] },toks:=tk }:=by
 refine wpAny_pyIter_range (IsRange.new ..) (small_one h1 h2 h3 h4) ?_
 have I1:ag X pins σ H { s with heap:=s.heap.push { cls:=.type "range",data:=.fields #[.int lo t,.int hi u,.int 1 v] },toks:=tk }:=I.kept fun b o e=>Heap.get?_push_of_some _ e
 refine ⟨(s.heap.push { cls:=.type "range",data:=.fields #[.int lo t,.int hi u,.int 1 v] }).objs.size,[(s.heap.push { cls:=.type "range",data:=.fields #[.int lo t,.int hi u,.int 1 v] }).objs.size],_,_,H,rfl,
  I1.kept (t':=tk) fun b o e=>Heap.get?_push_of_some _ e,yB _ lo (hi - lo).toNat,?_,fun b hb=>?_,q⟩
 ·have e1:lo+((0:Nat):Int)*1=lo:=by simp
  have e2:(((hi - lo).toNat:Nat):Int) - ((0:Nat):Int)=Builtin.Range.rangeSize lo hi 1:=by rw [rangeSize_one];split <;> trivial
  show IsRangeIter _ _ (lo+((0:Nat):Int)*1) ((((hi - lo).toNat:Nat):Int) - ((0:Nat):Int)) 1
  rw [e1,e2]
  exact Heap.get?_push_size _ rfl
 ·have e:b=(s.heap.push { cls:=.type "range",data:=.fields #[.int lo t,.int hi u,.int 1 v] }).objs.size:=by simpa using hb
  subst e
  exact I1.fpOk (Nat.le_refl _) (I1.hok.fresh (Nat.le_refl _))
def F4 (ta:TA):TI:=fun σ H R=>ta σ H fun vs H1=>∃j:Int,vs=[.int j]∧-(2 ^ 62)≤j∧j<2 ^ 62∧R (xJ 0 j.toNat) H1
theorem bG {a:Expr}{ta:TA}{p pos:Pos} (hg:Gl X "range") (hm:X.mg "range" = none) (ha:PA X [a] ta) (hs:starEach [a] X.env=[(false,eval a X.env)]:=by rfl):PI X tg (.Call (.Name "range" p) [a] [] pos) (F4 ta):=by
 intro pins s σ H R I h
 refine Call_ (lD I hg hm boot_range (PyProof.Rows.callWith_type1 (aK (ha pos pins s σ H _ I h) fun us s1 ⟨vs,H1,I1,r1,q1⟩=>?_) hs rfl))
 obtain ⟨j,e,q1,q2,q⟩:=q1
 subst e
 cases r1 with
 | cons r rr=>
  cases rr
  obtain ⟨t,rfl⟩:=r
  exact call_range_1 (AV I1 (by trivial) (by trivial) q1 q2 (by simpa using q))
def vU (wi:TI) (g:TG) (tb:TS):TS:=fun D σ H=>wi σ H fun J H1=>∃W:Nat→Nat→St→Hp→Prop,(∃m,W 0 m σ H1)∧∀i m σ H,W i m σ H→
 (J.stop i H∧D.nx σ H)∨(J.go i H∧∃N:St→Hp→Prop,(∀σ' H',N σ' H'→∃m',m'<m∧W (i+1) m' σ' H')∧∀x H',J.yld i H x H'→g x σ H' fun σ2 H2=>tb { D with nx:=N,ct:=N,bk:=D.nx } σ2 H2)
def lN (fp:List Addr) (h:Heap):List (Addr×Obj):=fp.filterMap fun b=>(h.get? b).map fun o=>(b,o)
theorem dN {fp:List Addr}{h:Heap}{b:Addr}{o:Obj} (hb:b∈fp) (e:h.get? b=some o):(b,o)∈lN fp h:=List.mem_filterMap.mpr ⟨b,hb,by rw [e];rfl⟩
theorem yY {fp:List Addr}{h:Heap}{p:Addr×Obj} (hp:p∈lN fp h):p.1∈fp∧h.get? p.1=some p.2:=by
 obtain ⟨b,hb,e⟩:=List.mem_filterMap.mp hp
 cases q:h.get? b with
 | none=>rw [q] at e;cases e
 | some o=>
  rw [q] at e
  have e':(b,o)=p:=Option.some.inj e
  subst e'
  exact ⟨hb,q⟩
theorem ag.pinned {pins:List (Addr×Obj)}{σ:St}{H:Hp}{s:Shared}{fp:List Addr} (I:ag X pins σ H s) (hf:∀b∈fp,il X pins H b) (ho:∀b∈fp,∃o,s.heap.get? b=some o∧∀v,o.data≠.cell v):ag X (pins++lN fp s.heap) σ H s:=
 I.pins_of fun p hp=>(List.mem_append.mp hp).elim (fun z=>I.pin p (List.mem_append_right _ z)) fun z=>by
  obtain ⟨hb,e⟩:=yY z
  obtain ⟨f0,f1,f2,_⟩:=hf p.1 hb
  obtain ⟨o,e',d⟩:=ho p.1 hb
  rw [e] at e';cases e'
  exact ⟨e,f0,f1,f2,d⟩
theorem ag.unpinned {pins pl:List (Addr×Obj)}{σ:St}{H:Hp}{s:Shared} (I:ag X (pins++pl) σ H s):ag X pins σ H s:=I.pins_of fun p hp=>I.pin p (List.mem_append_right _ (List.mem_append_left _ hp))
theorem bL {iter:Expr}{body:List Stmt}{wi:TI}{g:TG}{tb:TS}{pos:Pos} (hp:PassesOwn (model X.prog X.w) X.A X.env X.xe) (hc:X.calm=true) (hi:PI X tg iter wi) (hg:PG X tg g) (hb:nj X body tb)
 (hs:∀x,foldedSetIterable iter X.env x=pure x:=by intro _;rfl):PS X (.For tg iter body [] pos) (vU wi g tb):=by
 intro pins s σ H D I h
 refine wpAny_For (aK (hi pins s σ H _ I h) fun v s1 h1=>aK h1 fun itv s2 h2=>?_) hs
 obtain ⟨it,fp,tn,J,H2,e,I2,T,st2,f2,W,⟨m0,w0⟩,turn⟩:=h2
 subst e
 have stat:∀{H':Hp},(∀b∈fp,H' b=none)→∀b∈fp,il X pins H' b:=fun hn b hb=>⟨hn b hb,(f2 b hb).2⟩
 refine codeAny_forLoop_any (fun n s'=>∃i σ' H',ag X pins σ' H' s'∧tn i s'.heap∧(∀b∈fp,H' b=none)∧W i n σ' H') ?_ m0 ⟨0,σ,H2,I2,st2,fun b hb=>(f2 b hb).1,w0⟩
 rintro n s3 ⟨i,σ3,H3,I3,st3,fr3,w3⟩
 rcases turn i n σ3 H3 w3 with ⟨stop,qn⟩ | ⟨go,N,hN,step⟩
 ·refine wpAny_passesOwn hp (aK (T.done X rfl rfl rfl hc i pins s3 σ3 H3 X.xe I3 (stat fr3) st3 stop) fun r s4 ⟨hr,I4⟩=>?_)
  subst hr
  exact wpAny_execs_nil ⟨σ3,H3,I4,qn⟩
 ·refine wpAny_passesOwn hp (aK (T.item X rfl rfl rfl hc i pins s3 σ3 H3 X.xe I3 (stat fr3) st3 go) fun r s4 ⟨u,hr,h4⟩=>?_)
  subst hr
  refine wpAny_passesOwn hp (aK h4 fun _ s5 ⟨x,H5,I5,r5,y5,st5,fr5⟩=>?_)
  have I5':=I5.pinned (stat fr5) (T.obj _ _ st5)
  refine wpAny_passesOwn hp (aK (hg _ s5 σ3 H5 x u _ I5' r5 (step x H5 y5)) fun _ s6 ⟨σ6,H6,I6,q6⟩=>?_)
  refine wpAny_passesOwn hp (aK (hb _ s6 σ6 H6 _ I6 q6) fun f s7 q7=>?_)
  have again:∀{σ7:St}{H7:Hp},ag X (pins++lN fp s5.heap) σ7 H7 s7→N σ7 H7→∃m,m<n∧∃i σ' H',ag X pins σ' H' s7∧tn i s7.heap∧(∀b∈fp,H' b=none)∧W i m σ' H':=fun {σ7 H7} I7 n7=>by
   obtain ⟨m',hm,w7⟩:=hN σ7 H7 n7
   refine ⟨m',hm,i+1,σ7,H7,I7.unpinned,T.keep _ _ _ st5 fun b hb o e=>(I7.pin (b,o) (List.mem_append_right _ (List.mem_append_right _ (dN hb e)))).1,fun b hb=>?_,w7⟩
   obtain ⟨o,e,d⟩:=T.obj _ _ st5 b hb
   exact (I7.pin (b,o) (List.mem_append_right _ (List.mem_append_right _ (dN hb e)))).2.1
  cases f with
  | next=>obtain ⟨σ7,H7,I7,n7⟩:=q7;exact again I7 n7
  | cont=>obtain ⟨σ7,H7,I7,n7⟩:=q7;exact again I7 n7
  | brk=>obtain ⟨σ7,H7,I7,q7⟩:=q7;exact ⟨σ7,H7,I7.unpinned,q7⟩
  | ret v=>obtain ⟨x7,σ7,H7,I7,r7,q7⟩:=q7;exact ⟨x7,σ7,H7,I7.unpinned,r7,q7⟩
end
theorem oA {K:PySem.W.Frag}{a:Addr}{xs:List V}{g:TG}{tb:TS}{D:eh}{σ:St}{H:Hp} (Pv:Nat→St→Hp→Prop) (h0:Pv 0 σ H) (hl:∀i σ H,i≤xs.length→Pv i σ H→ah K H a xs)
 (hs:∀i x σ H,xs[i]?=some x→Pv i σ H→g x σ H fun σ2 H2=>tb { D with nx:=Pv (i+1),ct:=Pv (i+1),bk:=D.nx } σ2 H2) (hd:∀σ H,Pv xs.length σ H→D.nx σ H) :
 ∃W:Nat→Nat→St→Hp→Prop,(∃m,W 0 m σ H)∧∀i m σ H,W i m σ H→
  ((yT K a).stop i H∧D.nx σ H)∨((yT K a).go i H∧∃N:St→Hp→Prop,(∀σ' H',N σ' H'→∃m',m'<m∧W (i+1) m' σ' H')∧∀x H',(yT K a).yld i H x H'→g x σ H' fun σ2 H2=>tb { D with nx:=N,ct:=N,bk:=D.nx } σ2 H2):=by
 refine ⟨fun i m σ H=>m=xs.length - i∧i≤xs.length∧Pv i σ H,⟨xs.length,by simp,Nat.zero_le _,h0⟩,?_⟩
 rintro i m σ H ⟨rfl,hi,p⟩
 have q:=hl i σ H hi p
 by_cases hlt:i<xs.length
 ·refine .inr ⟨⟨xs,xs[i],q,by simp [hlt]⟩,Pv (i+1),fun σ' H' p'=>⟨xs.length - (i+1),by trivial,rfl,hlt,p'⟩,fun x H' y=>?_⟩
  obtain ⟨e,y⟩:=y
  subst e
  exact hs i x σ _ (y xs q) p
 ·have e:i=xs.length:=by trivial
  subst e
  exact .inl ⟨⟨xs,q,Nat.le_refl _⟩,hd σ H p⟩
theorem qD {K:PySem.W.Frag}{a:Addr}{xs:List V}{g:TG}{tb:TS}{D:eh}{σ:St}{H:Hp} (Pv:Nat→St→Hp→Prop) (h0:Pv 0 σ H) (hl:∀i σ H,i≤xs.length→Pv i σ H→aa K H a xs)
 (hs:∀i x σ H,xs[i]?=some x→Pv i σ H→g x σ H fun σ2 H2=>tb { D with nx:=Pv (i+1),ct:=Pv (i+1),bk:=D.nx } σ2 H2) (hd:∀σ H,Pv xs.length σ H→D.nx σ H) :
 ∃W:Nat→Nat→St→Hp→Prop,(∃m,W 0 m σ H)∧∀i m σ H,W i m σ H→
  ((zg K a).stop i H∧D.nx σ H)∨((zg K a).go i H∧∃N:St→Hp→Prop,(∀σ' H',N σ' H'→∃m',m'<m∧W (i+1) m' σ' H')∧∀x H',(zg K a).yld i H x H'→g x σ H' fun σ2 H2=>tb { D with nx:=N,ct:=N,bk:=D.nx } σ2 H2):=by
 refine ⟨fun i m σ H=>m=xs.length - i∧i≤xs.length∧Pv i σ H,⟨xs.length,by simp,Nat.zero_le _,h0⟩,?_⟩
 rintro i m σ H ⟨rfl,hi,p⟩
 have q:=hl i σ H hi p
 by_cases hlt:i<xs.length
 ·refine .inr ⟨⟨xs,xs[i],q,by simp [hlt]⟩,Pv (i+1),fun σ' H' p'=>⟨xs.length - (i+1),by trivial,rfl,hlt,p'⟩,fun x H' y=>?_⟩
  obtain ⟨e,y⟩:=y
  subst e
  exact hs i x σ _ (y xs q) p
 ·have e:i=xs.length:=by trivial
  subst e
  exact .inl ⟨⟨xs,q,Nat.le_refl _⟩,hd σ H p⟩
theorem fQ {lo:Int}{n:Nat}{g:TG}{tb:TS}{D:eh}{σ:St}{H:Hp} (Pv:Nat→St→Hp→Prop) (h0:Pv 0 σ H)
 (hs:∀i σ H,i<n→Pv i σ H→g (.int (lo+i)) σ H fun σ2 H2=>tb { D with nx:=Pv (i+1),ct:=Pv (i+1),bk:=D.nx } σ2 H2) (hd:∀σ H,Pv n σ H→D.nx σ H) :
 ∃W:Nat→Nat→St→Hp→Prop,(∃m,W 0 m σ H)∧∀i m σ H,W i m σ H→
  ((xJ lo n).stop i H∧D.nx σ H)∨((xJ lo n).go i H∧∃N:St→Hp→Prop,(∀σ' H',N σ' H'→∃m',m'<m∧W (i+1) m' σ' H')∧∀x H',(xJ lo n).yld i H x H'→g x σ H' fun σ2 H2=>tb { D with nx:=N,ct:=N,bk:=D.nx } σ2 H2):=by
 refine ⟨fun i m σ H=>m=n - i∧i≤n∧Pv i σ H,⟨n,by simp,Nat.zero_le _,h0⟩,?_⟩
 rintro i m σ H ⟨rfl,hi,p⟩
 by_cases hlt:i<n
 ·refine .inr ⟨hlt,Pv (i+1),fun σ' H' p'=>⟨n - (i+1),by trivial,rfl,hlt,p'⟩,fun x H' y=>?_⟩
  obtain ⟨e,y⟩:=y
  subst e y
  exact hs i σ _ hlt p
 ·have e:i=n:=by trivial
  subst e
  exact .inl ⟨Nat.le_refl _,hd σ H p⟩
abbrev R2:=V→V→Hp→VK→Prop
def de (X:Cx) (f:Value→Value→Sem Value) (r:R2):Prop:=
 ∀(pins:List (Addr×Obj)) (s:Shared) (σ:St) (H:Hp) (x y:V) (v u:Value) (Q:VK),ag X pins σ H s→aT x v→aT y u→r x y H Q→
   wpAny (model X.prog X.w) X.A (f v u) (EP X pins σ Q) X.xe s
def DF (X:Cx) (f:Value→Sem Value) (r:V→Hp→VK→Prop):Prop:=
 ∀(pins:List (Addr×Obj)) (s:Shared) (σ:St) (H:Hp) (x:V) (v:Value) (Q:VK),ag X pins σ H s→aT x v→r x H Q→
   wpAny (model X.prog X.w) X.A (f v) (EP X pins σ Q) X.xe s
def dH (X:Cx) (f:Value) (r:List V→Hp→VK→Prop):Prop:=
 ∀(pins:List (Addr×Obj)) (s:Shared) (σ:St) (H:Hp) (xs:List V) (us:List Value) (Q:VK),ag X pins σ H s→aH xs us→r xs H Q→
   wpAny (model X.prog X.w) X.A (call f us) (EP X pins σ Q) X.xe s
def Bt (r:R2) (ta tb:TE):TE:=fun σ H Q=>ta σ H fun x H1=>tb σ H1 fun y H2=>r x y H2 Q
def Hz (r:V→Hp→VK→Prop) (ta:TE):TE:=fun σ H Q=>ta σ H fun x H1=>r x H1 Q
inductive HI (C:Int→Int→Prop) (g:Int→Int→V) (x:V) (y:V) (H:Hp) (Q:VK):Prop
 | mk (i:_) (j:_) (h0:x=.int i) (h1:y=.int j) (h2:C i j) (h3:Q (g i j) H)
def rI (C:Int→Int→Prop) (g:Int→Int→V):R2:=fun x y H Q=>HI C g x y H Q
inductive Hk (g:Int→Int→V) (x:V) (y:V) (H:Hp) (Q:VK):Prop
 | mk (i:_) (j:_) (h0:x=.int i) (h1:y=.int j) (h2:Q (g i j) H)
def va (g:Int→Int→V):R2:=fun x y H Q=>Hk g x y H Q
def rU (g:Int→V):V→Hp→VK→Prop:=fun x H Q=>DD x fun i=>Q (g i) H
section
variable {X:Cx}{a b c:Expr}{ta tb tc:TE}{pos:Pos}
theorem A1 (ha:PE X a ta) (hb:PE X b tb) {pins:List (Addr×Obj)}{s:Shared}{σ:St}{H:Hp}{R:V→V→Hp→Prop} (I:ag X pins σ H s)
 (h:ta σ H fun x H1=>tb σ H1 fun y H2=>R x y H2) {Q:Value→Shared→Prop}{f:Value→Value→Sem Value}
 (hf:∀v u s2 x y H2,ag X pins σ H2 s2→aT x v→aT y u→R x y H2→wpAny (model X.prog X.w) X.A (f v u) Q X.xe s2) :
 wpAny (model X.prog X.w) X.A (eval a X.env) (fun v s₁=>wpAny (model X.prog X.w) X.A (eval b X.env) (fun u s₂=>wpAny (model X.prog X.w) X.A (f v u) Q X.xe s₂) X.xe s₁) X.xe s:=by
 refine aK (ha pins s σ H _ I h) fun v s1 ⟨x,H1,I1,r1,q1⟩=>?_
 refine aK (hb pins s1 σ H1 _ I1 q1) fun u s2 ⟨y,H2,I2,r2,q2⟩=>?_
 exact hf v u s2 x y H2 I2 r1 r2 q2
theorem ak {op:Operator}{r:R2} (ho:de X (binaryOp op) r) (ha:PE X a ta) (hb:PE X b tb):PE X (.BinOp a op b pos) (Bt r ta tb):=by
 intro pins s σ H Q I h
 exact wpAny_BinOp (A1 ha hb I h fun v u s2 x y H2 I2 rx ry q=>ho pins s2 σ H2 x y v u Q I2 rx ry q)
theorem oh {op:UnaryOp}{r:V→Hp→VK→Prop} (ho:DF X (unaryOp op) r) (ha:PE X a ta):PE X (.UnaryOp op a pos) (Hz r ta):=by
 intro pins s σ H Q I h
 exact UnaryOp_ (aK (ha pins s σ H _ I h) fun v s1 ⟨x,H1,I1,r1,q1⟩=>ho pins s1 σ H1 x v Q I1 r1 q1)
theorem uM {f:Value→Value→Sem Value}{C:Int→Int→Prop}{g:Int→Int→Int}
 (rule:∀(i j:Int) (t u:Tok) (s:Shared) (Q:Value→Shared→Prop) (E:Value→Shared→Prop),C i j→Q (.int (g i j) s.toks) { s with toks:=s.toks+1 }→wpAny (model X.prog X.w) X.A (f (.int i t) (.int j u)) Q E s) :
 de X f (rI C fun i j=>.int (g i j)):=by
 intro pins s σ H x y v u Q I rx ry h
 obtain ⟨i,j,rfl,rfl,hc,q⟩:=h
 obtain ⟨t,rfl⟩:=rx
 obtain ⟨t',rfl⟩:=ry
 exact rule i j t t' s _ _ hc ⟨.int (g i j),H,I.tok _,⟨()⟩,q⟩
theorem C5 {f:Value→Value→Sem Value}{g:Int→Int→Int}
 (rule:∀(i j:Int) (t u:Tok) (s:Shared) (Q:Value→Shared→Prop) (E:Value→Shared→Prop),Q (.int (g i j) s.toks) { s with toks:=s.toks+1 }→wpAny (model X.prog X.w) X.A (f (.int i t) (.int j u)) Q E s) :
 de X f (va fun i j=>.int (g i j)):=by
 intro pins s σ H x y v u Q I rx ry h
 obtain ⟨i,j,rfl,rfl,q⟩:=h
 obtain ⟨t,rfl⟩:=rx
 obtain ⟨t',rfl⟩:=ry
 exact rule i j t t' s _ _ ⟨.int (g i j),H,I.tok _,⟨()⟩,q⟩
theorem x8 {f:Value→Value→Sem Value}{g:Int→Int→Bool}
 (rule:∀(i j:Int) (t u:Tok) (s:Shared) (Q:Value→Shared→Prop) (E:Value→Shared→Prop),Q (.bool (g i j)) s→wpAny (model X.prog X.w) X.A (f (.int i t) (.int j u)) Q E s) :
 de X f (va fun i j=>.bl (g i j)):=by
 intro pins s σ H x y v u Q I rx ry h
 obtain ⟨i,j,rfl,rfl,q⟩:=h
 obtain ⟨t,rfl⟩:=rx
 obtain ⟨t',rfl⟩:=ry
 exact rule i j t t' s _ _ ⟨.bl (g i j),H,I,rfl,q⟩
def Hf (i j:Int):Prop:=0<j∧j<1073741824
def GX (i j:Int):Prop:=0≤j∧j≤1000000∧i.natAbs<2 ^ 64
def Ar (i j:Int):Prop:=(-(2 ^ 64)<i∧i<2 ^ 64)∨(-(2 ^ 64)<j∧j<2 ^ 64)
theorem Ar.ok {i j:Int} (h:Ar i j):IntMulOk i j:=by
 rcases h with ⟨h1,h2⟩ | ⟨h1,h2⟩
 ·exact .of_left (intBits_le_64 h1 h2)
 ·exact .of_right (intBits_le_64 h1 h2)
theorem bi:de X (binaryOp .Add) (va fun i j=>.int (i+j)):=C5 fun _ _ _ _ _ _ _ q=>add_int q
theorem pD:de X (binaryOp .Sub) (va fun i j=>.int (i - j)):=C5 fun _ _ _ _ _ _ _ q=>sub_int q
theorem dR:de X (binaryOp .Mult) (rI Ar fun i j=>.int (i*j)):=uM fun _ _ _ _ _ _ _ hc q=>mul_int q hc.ok
theorem BC:de X (binaryOp .FloorDiv) (rI Hf fun i j=>.int (i / j)):=uM fun i j _ _ _ _ _ hc q=>by
 have h1:(0:Int)<j:=hc.1
 have h2:j<1073741824:=hc.2
 exact floordiv_int (by trivial) (by rw [Int.fdiv_eq_ediv_of_nonneg i (by trivial)];exact q) (.inl (PyProof.noPylong_small (by trivial)))
theorem iS:de X (binaryOp .Mod) (rI (fun _ j=>0<j) fun i j=>.int (i % j)):=uM fun i j _ _ _ _ _ hc q=>by
 have h1:(0:Int)<j:=hc
 exact mod_int' (by trivial) (by rw [Int.fmod_eq_emod_of_nonneg i (by trivial)];exact q)
theorem BW:de X (binaryOp .Mod) (rI (fun _ j=>j≠0) fun i j=>.int (i.fmod j)):=uM fun _ _ _ _ _ _ _ hc q=>mod_int' hc q
theorem wf:de X (binaryOp .Pow) (rI GX fun i j=>.int (i ^ j.toNat)):=uM fun _ _ _ _ _ _ _ hc q=>pow_int_small hc.1 hc.2.1 hc.2.2 q
theorem HF {f:Value→Sem Value}{g:Int→Int}
 (rule:∀(i:Int) (t:Tok) (s:Shared) (Q:Value→Shared→Prop) (E:Value→Shared→Prop),Q (.int (g i) s.toks) { s with toks:=s.toks+1 }→wpAny (model X.prog X.w) X.A (f (.int i t)) Q E s) :
 DF X f (rU fun i=>.int (g i)):=by
 intro pins s σ H x v Q I rx h
 obtain ⟨i,rfl,q⟩:=h
 obtain ⟨t,rfl⟩:=rx
 exact rule i t s _ _ ⟨.int (g i),H,I.tok _,⟨()⟩,q⟩
theorem lX:DF X (unaryOp .USub) (rU fun i=>.int (-i)):=HF fun _ _ _ _ _ q=>neg_int q
end
def Dh:V→V→Bool
 | .non,.non=>true | .non,.int _=>true | .int _,.non=>true | .non,.bl _=>true | .bl _,.non=>true | .non,.str _=>true | .str _,.non=>true
 | .int _,.int _=>true | .bl _,.bl _=>true | .str _,.str _=>true | .byt _,.byt _=>true
 | .int _,.str _=>true | .str _,.int _=>true | .bl _,.str _=>true | .str _,.bl _=>true
 | _,_=>false
def HB:R2:=fun x y H Q=>Dh x y=true∧Q (.bl (decide (x=y))) H
def HG:R2:=fun x y H Q=>Dh x y=true∧Q (.bl (!decide (x=y))) H
theorem xE {i j:Int}:decide (V.int i=V.int j)=(i==j):=by
 rw [Bool.eq_iff_iff]
 simp
theorem zY {i j:Bool}:decide (V.bl i=V.bl j)=(i==j):=by
 rw [Bool.eq_iff_iff]
 simp
theorem xK {i j:Str}:decide (V.str i=V.str j)=(i==j):=by
 rw [Bool.eq_iff_iff]
 simp
theorem xM {i j:Array UInt8}:decide (V.byt i=V.byt j)=(i.toList==j.toList):=by
 rw [Bool.eq_iff_iff]
 cases i
 cases j
 simp
section
variable {X:Cx}{a b c:Expr}{ta tb tc:TE}{pos:Pos}
theorem bj {pins:List (Addr×Obj)}{σ:St}{H:Hp}{s:Shared}{Q:VK}{k k':Bool} (I:ag X pins σ H s) (q:Q (.bl k) H) (e:k=k'):EP X pins σ Q (.bool k') s:=by
 subst e
 exact ⟨.bl k,H,I,rfl,q⟩
theorem cw:de X (compareOp .Eq) HB:=by
 intro pins s σ H x y v u Q I rx ry h
 obtain ⟨hs,q⟩:=h
 cases x with
 | non=>
  cases rx
  cases y with
  | non=>cases ry;exact PySem.EqNone.eq_none_none (bj I q (by simp))
  | bl j=>cases ry;exact PySem.EqNone.eq_none_bool (bj I q (by simp))
  | int j=>obtain ⟨t',rfl⟩:=ry;exact PySem.EqNone.eq_none_int (bj I q (by simp))
  | str j=>obtain ⟨t',rfl⟩:=ry;exact PySem.EqNone.eq_none_str (bj I q (by simp))
  | _=>exact absurd (show false=true from hs) Bool.false_ne_true
 | bl i=>
  cases rx
  cases y with
  | non=>cases ry;exact PySem.EqNone.eq_bool_none (bj I q (by simp))
  | bl j=>cases ry;exact eq_bool (bj I q zY)
  | str j=>obtain ⟨t',rfl⟩:=ry;exact PySem.EqMixed.eq_bool_str (bj I q (by simp))
  | _=>exact absurd (show false=true from hs) Bool.false_ne_true
 | int i=>
  obtain ⟨t,rfl⟩:=rx
  cases y with
  | non=>cases ry;exact PySem.EqNone.eq_int_none (bj I q (by simp))
  | int j=>obtain ⟨t',rfl⟩:=ry;exact eq_int (bj I q xE)
  | str j=>obtain ⟨t',rfl⟩:=ry;exact PySem.EqMixed.eq_int_str (bj I q (by simp))
  | _=>exact absurd (show false=true from hs) Bool.false_ne_true
 | str i=>
  obtain ⟨t,rfl⟩:=rx
  cases y with
  | non=>cases ry;exact PySem.EqNone.eq_str_none (bj I q (by simp))
  | bl j=>cases ry;exact PySem.EqMixed.eq_str_bool (bj I q (by simp))
  | int j=>obtain ⟨t',rfl⟩:=ry;exact PySem.EqMixed.eq_str_int (bj I q (by simp))
  | str j=>obtain ⟨t',rfl⟩:=ry;exact eq_str (bj I q xK)
  | _=>exact absurd (show false=true from hs) Bool.false_ne_true
 | byt i=>
  obtain ⟨t,rfl⟩:=rx
  cases y with
  | byt j=>obtain ⟨t',rfl⟩:=ry;exact PySem.W.eq_bytes (bj I q xM)
  | _=>exact absurd (show false=true from hs) Bool.false_ne_true
 | _=>cases y <;> exact absurd (show false=true from hs) Bool.false_ne_true
theorem md:de X (compareOp .NotEq) HG:=by
 intro pins s σ H x y v u Q I rx ry h
 obtain ⟨hs,q⟩:=h
 cases x with
 | non=>
  cases rx
  cases y with
  | non=>cases ry;exact PySem.EqNone.ne_none_none (bj I q (by simp))
  | bl j=>cases ry;exact PySem.EqNone.ne_none_bool (bj I q (by simp))
  | int j=>obtain ⟨t',rfl⟩:=ry;exact PySem.EqNone.ne_none_int (bj I q (by simp))
  | str j=>obtain ⟨t',rfl⟩:=ry;exact PySem.EqNone.ne_none_str (bj I q (by simp))
  | _=>exact absurd (show false=true from hs) Bool.false_ne_true
 | bl i=>
  cases rx
  cases y with
  | non=>cases ry;exact PySem.EqNone.ne_bool_none (bj I q (by simp))
  | bl j=>cases ry;exact ne_bool (bj I q (congrArg not zY))
  | str j=>obtain ⟨t',rfl⟩:=ry;exact PySem.EqMixed.ne_bool_str (bj I q (by simp))
  | _=>exact absurd (show false=true from hs) Bool.false_ne_true
 | int i=>
  obtain ⟨t,rfl⟩:=rx
  cases y with
  | non=>cases ry;exact PySem.EqNone.ne_int_none (bj I q (by simp))
  | int j=>obtain ⟨t',rfl⟩:=ry;exact ne_int (bj I q (congrArg not xE))
  | str j=>obtain ⟨t',rfl⟩:=ry;exact PySem.EqMixed.ne_int_str (bj I q (by simp))
  | _=>exact absurd (show false=true from hs) Bool.false_ne_true
 | str i=>
  obtain ⟨t,rfl⟩:=rx
  cases y with
  | non=>cases ry;exact PySem.EqNone.ne_str_none (bj I q (by simp))
  | bl j=>cases ry;exact PySem.EqMixed.ne_str_bool (bj I q (by simp))
  | int j=>obtain ⟨t',rfl⟩:=ry;exact PySem.EqMixed.ne_str_int (bj I q (by simp))
  | str j=>obtain ⟨t',rfl⟩:=ry;exact ne_str (bj I q (congrArg not xK))
  | _=>exact absurd (show false=true from hs) Bool.false_ne_true
 | byt i=>
  obtain ⟨t,rfl⟩:=rx
  cases y with
  | byt j=>obtain ⟨t',rfl⟩:=ry;exact PySem.W.ne_bytes (bj I q (congrArg not xM))
  | _=>exact absurd (show false=true from hs) Bool.false_ne_true
 | _=>cases y <;> exact absurd (show false=true from hs) Bool.false_ne_true
theorem gy:de X (compareOp .Lt) (va fun i j=>.bl (decide (i<j))):=x8 fun _ _ _ _ _ _ _ q=>lt_int q
theorem Bg:de X (compareOp .LtE) (va fun i j=>.bl (decide (i≤j))):=x8 fun _ _ _ _ _ _ _ q=>le_int q
theorem oJ:de X (compareOp .Gt) (va fun i j=>.bl (decide (j<i))):=x8 fun _ _ _ _ _ _ _ q=>gt_int q
theorem tH:de X (compareOp .GtE) (va fun i j=>.bl (decide (j≤i))):=x8 fun _ _ _ _ _ _ _ q=>ge_int q
theorem pP (b:Expr) {op:CmpOp} (h:op≠.In:=by decide) (h2:op≠.NotIn:=by decide):behindInMarks op b=false:=by
 have e1:(op==CmpOp.In)=false:=by cases op <;> first | rfl | exact absurd rfl h
 have e2:(op==CmpOp.NotIn)=false:=by cases op <;> first | rfl | exact absurd rfl h2
 cases b <;> simp [behindInMarks,e1,e2]
theorem bO {op:CmpOp}{r:R2} (ho:de X (compareOp op) r) (ha:PE X a ta) (hb:PE X b tb) (hm:behindInMarks op b=false):PE X (.Compare a [op] [b] pos) (Bt r ta tb):=by
 intro pins s σ H Q I h
 exact wpAny_Compare1 (A1 ha hb I h fun v u s2 x y H2 I2 rx ry q=>ho pins s2 σ H2 x y v u Q I2 rx ry q) hm
def FC (t:TE):TT:=fun σ H Q=>t σ H fun x H'=>yD x fun k=>Q k H'
theorem aF {op:CmpOp}{r:R2} (ho:de X (compareOp op) r) (ha:PE X a ta) (hb:PE X b tb) (hm:behindInMarks op b=false):PT X (.Compare a [op] [b] pos) (FC (Bt r ta tb)):=by
 intro pins s σ H Q I h
 refine wpAny_isTrue_Compare1 (aK (ha pins s σ H _ I h) fun v s1 ⟨x,H1,I1,r1,q1⟩=>aK (hb pins s1 σ H1 _ I1 q1) fun u s2 ⟨y,H2,I2,r2,q2⟩=>
  aK (ho pins s2 σ H2 x y v u _ I2 r1 r2 q2) fun c s3 ⟨z,H3,I3,r3,k,e,q3⟩=>?_) hm
 subst e
 cases r3
 exact wpAny_truthy_bool ⟨H3,I3,q3⟩
theorem pK:(sizeLine:Nat)<2 ^ 63:=by rw [sizeLine_eq];decide
theorem yw:de X (binaryOp .Add) (fun x y H Q=>bE fun i j=>x=.str i∧y=.str j∧i.length+j.length≤sizeLine∧Q (.str (i++j)) H):=by
 intro pins s σ H x y v u Q I rx ry h
 obtain ⟨i,j,rfl,rfl,hz,q⟩:=h
 obtain ⟨t,rfl⟩:=rx
 obtain ⟨t',rfl⟩:=ry
 exact add_str (fun t' tk=>⟨.str (i++j),H,I.tok _,⟨()⟩,q⟩) hz
theorem qI {x:V}{us:List Value} (r:aH [x] us):∃u,us=[u]∧aT x u:=by
 cases r with
 | cons r1 r2=>cases r2;exact ⟨_,rfl,r1⟩
theorem yA {x y:V}{us:List Value} (r:aH [x,y] us):bE fun u w'=>us=[u,w']∧aT x u∧aT y w':=by
 cases r with
 | cons r1 r2=>
  cases r2 with
  | cons r3 r4=>cases r4;exact ⟨_,_,rfl,r1,r3⟩
theorem lE:dH X (.builtin "abs") (fun xs H Q=>∃i,xs=[.int i]∧Q (.int (if i<0 then -i else i)) H):=by
 intro pins s σ H xs us Q I r h
 obtain ⟨i,rfl,q⟩:=h
 obtain ⟨u,rfl,t,rfl⟩:=qI r
 exact call_abs_int fun u tk=>⟨.int (if i<0 then -i else i),H,I.tok _,⟨()⟩,q⟩
theorem yX (hc:X.calm=true):dH X (.builtin "max") (fun xs H Q=>bE fun i j=>xs=[.int i,.int j]∧Q (.int (if j > i then j else i)) H):=by
 intro pins s σ H xs us Q I r h
 obtain ⟨i,j,rfl,q⟩:=h
 obtain ⟨u,w',rfl,⟨t,rfl⟩,⟨t',rfl⟩⟩:=yA r
 refine max_two_ints (I.ok.hd hc) fun h' tk k=>⟨_,H,I.kept k,?_,q⟩
 by_cases hj:j > i
 ·rw [if_pos hj,if_pos hj];exact ⟨()⟩
 ·rw [if_neg hj,if_neg hj];exact ⟨()⟩
theorem yP (hc:X.calm=true):dH X (.builtin "min") (fun xs H Q=>bE fun i j=>xs=[.int i,.int j]∧Q (.int (if j<i then j else i)) H):=by
 intro pins s σ H xs us Q I r h
 obtain ⟨i,j,rfl,q⟩:=h
 obtain ⟨u,w',rfl,⟨t,rfl⟩,⟨t',rfl⟩⟩:=yA r
 refine min_two_ints (I.ok.hd hc) fun h' tk k=>⟨_,H,I.kept k,?_,q⟩
 by_cases hj:j<i
 ·rw [if_pos hj,if_pos hj];exact ⟨()⟩
 ·rw [if_neg hj,if_neg hj];exact ⟨()⟩
theorem iH:dH X (.type "int") (fun xs H Q=>(∃i,xs=[.int i]∧Q (.int i) H)∨∃k,xs=[.bl k]∧Q (.int (if k then 1 else 0)) H):=by
 intro pins s σ H xs us Q I r h
 rcases h with ⟨i,rfl,q⟩ | ⟨k,rfl,q⟩
 ·obtain ⟨u,rfl,t,rfl⟩:=qI r
  exact call_int_int ⟨.int i,H,I,⟨()⟩,q⟩
 ·obtain ⟨u,rfl,r1⟩:=qI r
  cases r1
  exact call_int_bool ⟨.int (if k then 1 else 0),H,I.tok _,⟨()⟩,q⟩
end
structure An (h:Heap) (x dx C:Addr) (mA:Str→Option Value):Prop where
 obj:h.get? x=some (PySem.W.instObj C dx)
 ns:h.Ns1 dx mA
 ne:dx≠x
theorem yS {h:Heap}{dx:Addr}{mA:Str→Option Value} (n:h.Ns1 dx mA):∃od,h.get? dx=some od∧∀name,PySem.W.lookIn name od=some (mA name):=by
 obtain ⟨o,es,ep,ho,hd,hk,_,hm⟩:=n
 refine ⟨o,ho,fun name=>?_⟩
 have e:=hm name
 unfold nsFind findBy at e
 rw [←Array.find?_toList] at e
 unfold PySem.W.lookIn
 rw [hd]
 dsimp only
 split
 ·rename_i y q
  rw [q] at e
  exact congrArg some e
 ·rename_i q
  rw [q] at e
  have a:es.toList.any (·.refKey)=false:=by
   rw [List.any_eq_false]
   intro y hy
   obtain ⟨z,t,hkey⟩:=hk y (Array.mem_toList_iff.mp hy)
   simp [DictEntry.refKey,hkey]
  have a':¬es.toList.any (·.refKey)=true:=by rw [a];exact Bool.false_ne_true
  rw [if_neg a']
  exact congrArg some e
theorem An.look {h:Heap}{x dx C:Addr}{mA:Str→Option Value} (I:An h x dx C mA):∃od,PySem.W.InstAt h x (PySem.W.instObj C dx) C (some od)∧∀name,PySem.W.lookIn name od=some (mA name):=
 let ⟨od,ho,hl⟩:=yS I.ns
 ⟨od,⟨I.obj,rfl,rfl,ho⟩,hl⟩
section
variable {prog:Program}{w:World}{A:Around}{E:Value→Shared→Prop}{s:Shared}{K:PySem.W.Frag}{x dx C f:Addr}{mA:Str→Option Value}{name:Str}{v:Value}
end
section
variable {P:Program}{w:World}{H H':Hp}{h h':Heap}{a C dx:Addr}{fs fs':List (Str×V)}
theorem BI (hok:dZ P w H h) (e:H a=some (.ins C dx fs)):∃mA,An h a dx C mA∧(∀f,Ax (fs.lookup f) (mA f))∧PySem.Within mA (fs.map (·.1))∧fs.length≤1000∧H dx=some (.own a):=by
 obtain ⟨d,z,ne,ob,mA,n,r,q⟩:=(show bD P w H h a (.ins C dx fs) from hok a _ e)
 exact ⟨mA,⟨ob,n,ne⟩,r,q,z,d⟩
end
structure Es (K:PySem.W.Frag) (C:Addr):Prop where
 pg:PySem.W.plainGet K C Str.empty=true
 hd:PySem.W.hasDictIn K C=true
 po:PySem.W.plainOver K C=true
 sa:PySem.W.findIn K (.ref C) "__setattr__" = some (some (.builtin "object.__setattr__"))
theorem Es.get {K:PySem.W.Frag}{C:Addr} (c:Es K C) (f:Str):PySem.W.plainGet K C f=true:=c.pg
section
variable {X:Cx}{pins:List (Addr×Obj)}{σ:St}{H:Hp}{s:Shared}{a C dx:Addr}{fs:List (Str×V)}{f:Str}{v:V}{A:Around}{E:Value→Shared→Prop}
end
section
variable {X:Cx}{o e value:Expr}{f:Str}{pos pos' tpos:Pos}{ta tv:TE}
end
section
variable {X:Cx}{pins:List (Addr×Obj)}{σ:St}{H:Hp}{s:Shared}{A:Around}{E:Value→Shared→Prop}{Q:Value→Shared→Prop}{c:Value}{b:Bool}
inductive iA (K:PySem.W.Frag) (H:Hp):V→Value→Prop where
 | non:iA K H .non (.type "NoneType")
 | bl (x:Bool):iA K H (.bl x) (.type "bool")
 | int (i:Int):iA K H (.int i) (.type "int")
 | str (x:Str):iA K H (.str x) (.type "str")
 | flt (x:UInt64):iA K H (.flt x) (.type "float")
 | lst {a:Addr}{xs:List V} (e:H a=some (.lst xs)):iA K H (.ref a) (.type "list")
 | frz {a:Addr}{o:Obj}{xs:List V} (e:H a=some (.frz o (.lst xs))):iA K H (.ref a) (.type "list")
 | tup {a:Addr}{xs:List V} (e:H a=some (.tup xs)):iA K H (.ref a) (.type "tuple")
 | dK {a:Addr}{kvs:List (aP×V)} (e:H a=some (.dK kvs)):iA K H (.ref a) (.type "dict")
 | dT {a:Addr}{kvs:List (List aP×V)} (e:H a=some (.dT kvs)):iA K H (.ref a) (.type "dict")
 | ins {a C dx:Addr}{fs:List (Str×V)} (e:H a=some (.ins C dx fs)) (cl:Es K C) (ha:PySem.W.findIn K (.ref C) "__class__" = some (some (.builtin "object.__class__")))
  (hn:PySem.W.specialIn K (.builtin "object.__class__") "__get__" = some (some (.builtin "getset_descriptor.__get__"))) (htk:PySem.W.takesIn K (.builtin "object.__class__")=some true)
  (hm:PySem.W.mroIn K C (.type "object")=some true):iA K H (.ref a) (.ref C)
theorem zQ {x:V}{u t:Value} (I:ag X pins σ H s) (rx:aT x u) (ty:iA X.K H x t) (e:PySem.W.kitOne X.K t c=some b) (h:∀tk,Q (.bool b) { s with toks:=tk }) :
 wpAny (model X.prog X.w) A (call (.builtin "isinstance") [u,c]) Q E s:=by
 cases ty with
 | non=>cases (show u=Value.none from rx);exact PySem.W.kia_one PySem.W.kitx_none I.kIn True.intro e (fun z=>nomatch z) h
 | bl y=>cases (show u=Value.bool y from rx);exact PySem.W.kia_one PySem.W.kitx_bool I.kIn True.intro e (fun z=>nomatch z) h
 | int i=>obtain ⟨t,q⟩:=(show ∃t,u=Value.int i t from rx);cases q;exact PySem.W.kia_one PySem.W.kitx_int I.kIn True.intro e (fun z=>nomatch z) h
 | str y=>obtain ⟨t,q⟩:=(show ∃t,u=Value.str y t from rx);cases q;exact PySem.W.kia_one PySem.W.kitx_str I.kIn True.intro e (fun z=>nomatch z) h
 | flt y=>obtain ⟨t,q⟩:=(show ∃t,u=Value.float y t from rx);cases q;exact PySem.W.kia_one PySem.W.kitx_float I.kIn True.intro e (fun z=>nomatch z) h
 | @lst a xs ea=>
  cases (show u=Value.ref a from rx)
  obtain ⟨_,_,n,_,h1⟩:=(show bD X.prog X.w H s.heap a (.lst xs) from I.hok a _ ea)
  exact PySem.W.kia_one PySem.W.kitx_list I.kIn ⟨_,h1,rfl⟩ e (fun z=>nomatch z) h
 | @frz a ob xs ea=>
  cases (show u=Value.ref a from rx)
  obtain ⟨_,_,_,n,_,h1⟩:=(show bD X.prog X.w H s.heap a (.frz ob (.lst xs)) from I.hok a _ ea)
  exact PySem.W.kia_one PySem.W.kitx_list I.kIn ⟨_,h1,rfl⟩ e (fun z=>nomatch z) h
 | @tup a xs ea=>
  cases (show u=Value.ref a from rx)
  obtain ⟨_,_,_,p,_⟩:=(show bD X.prog X.w H s.heap a (.tup xs) from I.hok a _ ea)
  obtain ⟨o,h1,h2,_⟩:=p
  exact PySem.W.kia_one PySem.W.kitx_tuple I.kIn ⟨o,h1,h2⟩ e (fun z=>nomatch z) h
 | @dK a kvs ea=>
  cases (show u=Value.ref a from rx)
  obtain ⟨_,_,vs,_,p⟩:=(show bD X.prog X.w H s.heap a (.dK kvs) from I.hok a _ ea)
  obtain ⟨o,es,ep,h1,h2,_⟩:=p
  exact PySem.W.kia_one PySem.W.kitx_dict I.kIn ⟨o,h1,h2.1⟩ e (fun z=>nomatch z) h
 | @dT a kvs ea=>
  cases (show u=Value.ref a from rx)
  obtain ⟨_,_,xs,_,o,es,ep,h1,h2,_⟩:=(show bD X.prog X.w H s.heap a (.dT kvs) from I.hok a _ ea)
  exact PySem.W.kia_one PySem.W.kitx_dict I.kIn ⟨o,h1,h2.1⟩ e (fun z=>nomatch z) h
 | @ins a C dx fs ea cl ha hn htk hm=>
  cases (show u=Value.ref a from rx)
  obtain ⟨mA,O,_⟩:=BI I.hok ea
  obtain ⟨od,J,_⟩:=O.look
  exact PySem.W.kia_one (PySem.W.kitx_own (cl.get _) cl.hd ha hn htk hm) I.kIn J e (fun z=>nomatch z) h
end
structure d7 (k:Nat) (A:Around):Prop where
 hd:A.handled=none
 dp:A.depth+3*k+5<recursionLimit
 un:A.units+16*k+200<cLine
 gd:A.guards=some []
theorem d7.mono {j k:Nat}{A:Around} (r:d7 k A) (h:j≤k):d7 j A:=⟨r.hd,by have:=r.dp;trivial,by have:=r.un;trivial,r.gd⟩
theorem d7.deeper {k:Nat}{A:Around} (r:d7 (k+1) A) (env:Env):d7 k (A.deeper env):=
 ⟨r.hd,by have:=r.dp;show A.depth+1+3*k+5<_;trivial,by have:=r.un;show A.units+3+16*k+200<_;trivial,r.gd⟩
theorem d7.depth {k:Nat}{A:Around} (r:d7 k A):A.depth<recursionLimit:=by have:=r.dp;trivial
theorem d7.units {k:Nat}{A:Around} (r:d7 k A):A.units+64<cLine:=by have:=r.un;trivial
def GU:TA:=fun _ H Q=>Q [] H
def Bo (ta:TE) (tr:TA):TA:=fun σ H Q=>ta σ H fun x H1=>tr σ H1 fun xs H2=>Q (x :: xs) H2
section
variable {X:Cx}{e:Expr}{es:List Expr}{te:TE}{t:TA}{pos:Pos}
theorem dc:PA X [] GU:=fun _ _ _ _ H Q I h=>Calls.spliced_nil ⟨[],H,I,.nil,h⟩
theorem dm (ha:PE X e te) (hr:PA X es t) (hs:starEach (e :: es) X.env=(false,eval e X.env) :: starEach es X.env:=by rfl):PA X (e :: es) (Bo te t):=by
 intro pos pins s σ H Q I h
 rw [hs]
 show wpAny _ _ (spliced ((false,eval e X.env) :: backTo pos (starEach es X.env))) _ _ s
 refine Calls.spliced_cons (aK (ha pins s σ H _ I h) fun u s1 ⟨x,H1,I1,r1,q1⟩=>?_)
 exact aK (hr pos pins s1 σ H1 _ I1 q1) fun us s2 ⟨xs,H2,I2,r2,q2⟩=>⟨x :: xs,H2,I2,.cons r1 r2,q2⟩
def Hh (t:TA):TE:=fun σ H Q=>t σ H fun xs H1=>xs.length≤sizeLine∧∀p,H1 p=none→Q (.ref p) (aG H1 p (.lst xs))
theorem Et (h:PA X es t):PE X (.List es pos) (Hh t):=by
 intro pins s σ H Q I hq
 refine wpAny_List_spliced (aK (h pos pins s σ H _ I hq) fun us s1 ⟨xs,H1,I1,r,z,q⟩=>⟨by rw [←r.length];exact z,?_⟩)
 have hf:H1 s1.heap.objs.size=none:=I1.hok.fresh (Nat.le_refl _)
 refine ⟨.ref s1.heap.objs.size,aG H1 s1.heap.objs.size (.lst xs),I1.laid (t':=s1.toks) (fun b u e=>Heap.get?_push_of_some _ e) (Nat.le_refl _) ?_,rfl,q _ hf⟩
 exact ⟨z,us,0,r,Heap.get?_push_size _ rfl⟩
end
abbrev Sp:=List V→Hp→VK→XK→Prop
abbrev lI:=List Env→Hp→Shared→XK→Value→Shared→Prop
structure yd (P:Program) (w:World) (K:PySem.W.Frag) (mg:Str→Option Value) (base:Heap) (A:Around) (outer:List Env) (s:Shared) (H:Hp):Prop where
 frames:A.frames=some outer
 mod:Mod K mg base
 bs:∀b o,base.get? b=some o→s.heap.get? b=some o∧H b=none
 bsz:base.objs.size≤s.heap.objs.size
 funs:s.heap.FunFrames base outer
 frf:∀b∈dQ outer,H b=none
 hok:dZ P w H s.heap
 bare:AllBare s.gens
def CE (outer:List Env) (P:Program) (w:World) (H:Hp) (s:Shared) (Q:VK) (u:Value) (s':Shared):Prop:=
 bE fun v H'=>s'.os=s.os∧AllBare s'.gens∧Un (dQ outer) [] H H' s.heap s'.heap∧dZ P w H' s'.heap∧aT v u∧Q v H'
def CR (CX:lI) (outer:List Env) (P:Program) (w:World) (H:Hp) (s:Shared) (Q:VK) (E:XK) (r:Result) (s':Shared):Prop:=
 match r with
 | .ok (.ret u)=>CE outer P w H s Q u s'
 | .ok _=>False
 | .error e=>CX outer H s E e s'
structure aY (P:Program) (w:World) (K:PySem.W.Frag) (mg:Str→Option Value) (base:Heap) (CX:lI) (k:Nat) (f:Addr) (fd:FuncData) (ps:List Str) (sp:Sp):Prop where
 len:∀vs H Q E,sp vs H Q E→vs.length=ps.length
 run:∀(A:Around) (outer:List Env) (s:Shared) (H:Hp) (args:Args) (us:List Value) (vs:List V) (Q:VK) (E:XK),d7 k A→yd P w K mg base A outer s H→BindsTo s fd args (ps.zip us)→aH vs us→sp vs H Q E→
  codeAny (model P w) A (.call (.ref f) args) (CR CX outer P w H s Q E) s
section
variable {X:Cx}{pins:List (Addr×Obj)}{σ:St}{H:Hp}{s s':Shared}
theorem ag.env0 (I:ag X pins σ H s):yd X.prog X.w X.K X.mg X.base X.A X.stack s H:=
 ⟨I.ok.frames,I.ok.mod,I.bs,Nat.le_trans I.ok.bsz I.sz,I.stack,I.stkFree,I.hok,I.bare⟩
theorem ag.after {Q:VK}{u:Value} (I:ag X pins σ H s) (h:CE X.stack X.prog X.w H s Q u s'):EP X pins σ Q u s':=by
 obtain ⟨v,H',os,bare,un,hok,r,q⟩:=h
 obtain ⟨hh,g,d,t,os'⟩:=s'
 obtain rfl:os'=s.os:=os
 exact ⟨v,H',I.call (h':=hh) (g':=g) (d':=d) (t':=t) (ch:=[]) un hok bare (fun b z=>absurd z (by simp)),r,q⟩
end
def F9 (sp:Sp) (dvs:List V) (E:XK) (t:TA):TE:=fun σ H Q=>t σ H fun vs H1=>sp (vs++dvs) H1 Q E
def qF (K:PySem.W.Frag) (fd:FuncData) (ps:List Str) (ds:List Value):Prop:=
 ∀(s:Shared) (us:List Value),K.In s.heap→(us++ds).length=ps.length→BindsTo s fd ⟨us,[]⟩ (ps.zip (us++ds))
theorem qF.all {K:PySem.W.Frag}{fd:FuncData}{ps:List Str} (h:∀us:List Value,us.length=ps.length→bindArgs fd ⟨us,[]⟩=pure (ps.zip us)):qF K fd ps []:=fun s us _ hl=>by
 rw [List.append_nil] at hl ⊢
 exact .of_eq (h us hl)
def vT (CX:lI) (X:Cx) (E:XK):Prop:=∀(pins:List (Addr×Obj)) (σ:St) (H:Hp) (s:Shared) (e:Value) (s':Shared),ag X pins σ H s→CX X.stack H s E e s'→X.xe e s'
section
variable {X:Cx}{CX:lI}{k:Nat}{f C:Addr}{fd:FuncData}{ps:List Str}{sp:Sp}{dvs:List V}{ds:List Value}{E:XK}{x m:Str}{p pos apos:Pos}{e o:Expr}{es:List Expr}{ta:TE}{t:TA}
theorem EA {pins:List (Addr×Obj)}{σ:St}{H:Hp}{s:Shared}{Q:VK}{us:List Value}{vs:List V} (F:aY X.prog X.w X.K X.mg X.base CX k f fd ps sp) (hr:d7 k X.A) (hb:qF X.K fd ps ds) (hd:aH dvs ds) (hx:vT CX X E)
 (I:ag X pins σ H s) (r:aH vs us) (h:sp (vs++dvs) H Q E):wpAny (model X.prog X.w) X.A (call (.ref f) us) (EP X pins σ Q) X.xe s:=by
 have r2:aH (vs++dvs) (us++ds):=r.append hd
 have hl:(us++ds).length=ps.length:=by rw [←r2.length];exact F.len _ _ _ _ h
 refine wpAny_call (codeAny_mono (F.run X.A X.stack s H ⟨us,[]⟩ (us++ds) (vs++dvs) Q E hr I.env0 (hb s us I.kIn hl) r2 h) fun r s' hq=>?_)
 cases r with
 | error e=>exact hx pins σ H s e s' I hq
 | ok fl=>
  cases fl with
  | ret u=>exact I.after hq
  | next=>exact False.elim hq
  | brk=>exact False.elim hq
  | cont=>exact False.elim hq
theorem nv (F:aY X.prog X.w X.K X.mg X.base CX k f fd ps sp) (hr:d7 k X.A) (hg:Gl X x) (hm:X.mg x=some (.ref f)) (hk:PySem.W.keepIn X.K (.ref f)=true) (hb:qF X.K fd ps ds) (hd:aH dvs ds) (hx:vT CX X E)
 (ha:PA X (e :: es) t) (hdb:(x==("__debug__" : Str))=false:=by decide) (he:starEach (e :: es) X.env=(false,eval e X.env) :: starEach es X.env:=by rfl) (hpl:(backTo pos (starEach es X.env)).any (·.1)=false:=by rfl) :
 PE X (.Call (.Name x p) (e :: es) [] pos) (F9 sp dvs E t):=by
 intro pins s σ H Q I h
 refine wpAny_Call_Name_kw (Cd I hg hm ?_ hdb)
 refine PySem.W.callWith_K (h₀:=X.base) I.ok.mod.kin hk (aK (ha pos pins s σ H _ I h) fun us s1 ⟨vs,H1,I1,r,q⟩=>⟨I1.kIn,?_⟩) he hpl
 exact EA F hr hb hd hx I1 r q
end
section
variable {X:Cx}{CX:lI}{k:Nat}{f C:Addr}{fd:FuncData}{ps ks:List Str}{sp:Sp}{E:XK}{x m:Str}{p pos apos kpos:Pos}{e o:Expr}{es:List Expr}{kws:List Keyword}{te ta:TE}{t tk:TA}{nm:Option Str}
variable {g:List Value→List Value→List Value}{gV:List V→List V→List V}
end
structure aE (N P:List Str) (sc:Scope):Prop where
 kind:sc.kind=.function
 co:sc.isCoroutine=false
 gen:sc.isGenerator=false
 nd:N.Nodup
 pre:N.take P.length=P
 par:∀x∈P,sc.names.lookup x=some .local∨sc.names.lookup x=some .cell
 nofree:∀y∈sc.names,y.2≠.free
theorem uK {kindOf:Str→Option NameKind}{x:Str}:∀{binds:List (Str×Value)}{m:Str→Option Value},(∀v,(x,v)∉binds)→bindL kindOf binds m x=m x
 | [],_,_=>rfl
 | (n,v) :: r,m,h=>by
  unfold bindL
  rw [uK fun w hw=>h w (List.mem_cons_of_mem _ hw)]
  split
  ·have:x≠n:=by rintro rfl;exact h v List.mem_cons_self
   simp [this]
  ·rfl
theorem vb {kindOf:Str→Option NameKind}{x:Str}:∀{binds:List (Str×Value)}{m:Str→Option Value},(∀v,(x,v)∉binds)→bindC kindOf binds m x=m x
 | [],_,_=>rfl
 | (n,v) :: r,m,h=>by
  unfold bindC
  rw [vb fun w hw=>h w (List.mem_cons_of_mem _ hw)]
  split
  ·rfl
  ·have:x≠n:=by rintro rfl;exact h v List.mem_cons_self
   simp [this]
theorem uR {kindOf:Str→Option NameKind}{x:Str}{v:Value}:∀{P:List Str}{vs:List Value}{i:Nat}{m:Str→Option Value},P.Nodup→P[i]?=some x→vs[i]?=some v→kindOf x=some .local→
 bindL kindOf (P.zip vs) m x=some v
 | [],_,_,_,_,h,_,_=>by simp at h
 | _ :: _,[],_,_,_,_,h,_=>by simp at h
 | p :: P,w :: vs,0,m,nd,h1,h2,hk=>by
  simp at h1 h2;subst h1;subst h2
  show bindL kindOf ((p,w) :: P.zip vs) m p=_
  unfold bindL
  rw [uK fun v hv=>(List.nodup_cons.mp nd).1 (List.of_mem_zip hv).1,if_pos hk]
  simp
 | p :: P,w :: vs,i+1,m,nd,h1,h2,hk=>by
  show bindL kindOf ((p,w) :: P.zip vs) m x=_
  unfold bindL
  exact uR (i:=i) (List.nodup_cons.mp nd).2 (by simpa using h1) (by simpa using h2) hk
theorem uN {kindOf:Str→Option NameKind}{x:Str}{v:Value}:∀{P:List Str}{vs:List Value}{i:Nat}{m:Str→Option Value},P.Nodup→P[i]?=some x→vs[i]?=some v→kindOf x≠some .local→
 bindC kindOf (P.zip vs) m x=some v
 | [],_,_,_,_,h,_,_=>by simp at h
 | _ :: _,[],_,_,_,_,h,_=>by simp at h
 | p :: P,w :: vs,0,m,nd,h1,h2,hk=>by
  simp at h1 h2;subst h1;subst h2
  show bindC kindOf ((p,w) :: P.zip vs) m p=_
  unfold bindC
  rw [vb fun v hv=>(List.nodup_cons.mp nd).1 (List.of_mem_zip hv).1,if_neg hk]
  simp
 | p :: P,w :: vs,i+1,m,nd,h1,h2,hk=>by
  show bindC kindOf ((p,w) :: P.zip vs) m x=_
  unfold bindC
  exact uN (i:=i) (List.nodup_cons.mp nd).2 (by simpa using h1) (by simpa using h2) hk
def ml (N:List Str) (vs:List V):St:=vs.map some++List.replicate (N.length - vs.length) none
def tP (CX:lI) (P:Program) (w:World) (K:PySem.W.Frag) (mg:Str→Option Value) (base:Heap) (N:List Str) (qual:Str) (scope:Scope) (f:Addr) (cd:Value) (A:Around) (outer:List Env) (s:Shared) (H:Hp) (E:XK):Cx where
 prog:=P
 w:=w
 K:=K
 mg:=mg
 base:=base
 A:=A.deeper (envOfC qual scope s.heap.objs.size f cd)
 N:=N
 s₀:=s
 H₀:=H
 env:=envOfC qual scope s.heap.objs.size f cd
 outer:=outer
 stack:=envOfC qual scope s.heap.objs.size f cd :: outer
 ex:=[]
 calm:=true
 fn:=fun _=>true
 pn:=[]
 xe:=fun e s'=>wpAny (model P w) (A.deeper (envOfC qual scope s.heap.objs.size f cd)) (leaving (envOfC qual scope s.heap.objs.size f cd) e) (fun _ s''=>CX outer H s E e s'') (fun e' s''=>CX outer H s E e' s'') s'
theorem wC {sc:Scope}{n:Nat}{x:Str} (h:sc.names.lookup x=some .cell):∃c,(cellsFrom n sc.names []).lookup x=some c:=by
 have q:=PySem.W.cellsFrom_some sc.names n [] (.inl h)
 exact Option.isSome_iff_exists.mp q
theorem yI {CX:lI}{P:Program}{w:World}{K:PySem.W.Frag}{mg:Str→Option Value}{base:Heap}{N ps:List Str}{qual:Str}{scope:Scope}{f:Addr}{cd:Value}{A:Around}{outer:List Env}{s s1:Shared}{H:Hp}{E:XK}{us:List Value}{vs:List V}
 (S:aE N ps scope) (hd:A.handled=none) (e0:yd P w K mg base A outer s H) (hl:vs.length=ps.length) (r:aH vs us)
 (x:InCallC s s.heap.objs.size (bindL (envOfC qual scope s.heap.objs.size f cd).kindOf (ps.zip us) fun _=>none) (cellsFrom (s.heap.objs.size+1) scope.names []) (bindC (envOfC qual scope s.heap.objs.size f cd).kindOf (ps.zip us) fun _=>none) s1) :
 ag (tP CX P w K mg base N qual scope f cd A outer s H E) [] (ml N vs) H s1:=by
 have hpl:ps.length≤N.length:=by have:=congrArg List.length S.pre;rw [List.length_take] at this;trivial
 obtain ⟨h1,tk,rfl,hk⟩:=x.done
 have noA:∀b:Addr,b∉(tP CX P w K mg base N qual scope f cd A outer s H E).ex:=fun b z=>absurd (show b∈([]:List Addr) from z) (by simp)
 refine ⟨⟨e0.mod,S.kind,rfl,rfl,Nat.le_refl _,fun y z c h1 h2=>?_,fun y hy=>?_,fun y c _ h=>?_,fun _=>hd,Around.frames_deeper e0.frames,.inr ⟨rfl,rfl⟩,fun b z=>absurd z (noA b),e0.bs,e0.bsz,fun b _ _=>noA b,fun b z=>absurd z (noA b),e0.funs,e0.frf⟩,
  rfl,e0.bare,Un.kept hk,⟨_,x.toInCall.ns,fun i y v h1 h2 h3=>?_⟩,fun y c h=>⟨_,x.cell y c h⟩,e0.hok.fresh (Nat.le_refl _),fun y c h=>?_,fun p hp=>absurd (show p∈([]:List (Addr×Obj)) from hp) (by simp),e0.hok.kept hk,?_⟩
 ·exact name_of_addr x.apart (PySem.mem_of_lookup h1) (PySem.mem_of_lookup h2)
 ·have hy:scope.names.lookup y=some .cell∨scope.names.lookup y=some .free:=hy
  rcases hy with hy | hy
  ·exact wC hy
  ·exact absurd rfl (S.nofree _ (PySem.mem_of_lookup hy))
 ·exact Nat.le_of_lt (x.above y c (PySem.mem_of_lookup h))
 ·have hi:i<vs.length:=by
   unfold ml at h2
   by_cases hi:i<vs.length
   ·exact hi
   ·rw [List.getElem?_append_right (by simpa using hi)] at h2
    rw [List.getElem?_replicate] at h2
    split at h2 <;> cases h2
  have ha:vs[i]?=some v:=by
   unfold ml at h2
   rw [List.getElem?_append_left (by simpa using hi),List.getElem?_map] at h2
   cases e:vs[i]? with
   | none=>rw [e] at h2;cases h2
   | some a=>rw [e] at h2;cases h2;rfl
  obtain ⟨u,hu,rv⟩:=r.get ha
  have hp:ps[i]?=some y:=by
   rw [←S.pre,List.getElem?_take_of_lt (by trivial)];exact h1
  have ndP:ps.Nodup:=by rw [←S.pre];exact S.nd.sublist (List.take_sublist _ _)
  refine ⟨u,rv,?_⟩
  rcases S.par y (List.mem_of_getElem? hp) with k | k
  ·exact .inl ⟨k,uR ndP hp hu k⟩
  ·obtain ⟨c,e⟩:=wC (n:=s.heap.objs.size+1) k
   refine .inr ⟨.inl k,c,e,?_⟩
   have q:=x.cell y c e
   rw [uN ndP hp hu (by show scope.names.lookup y≠_;rw [k];decide)] at q
   exact q
 ·exact e0.hok.fresh (Nat.le_of_lt (x.above y c (PySem.mem_of_lookup h)))
 ·unfold ml
  show _=N.length
  rw [List.length_append,List.length_map,List.length_replicate]
  trivial
theorem Fm {CX:lI}{P:Program}{w:World}{K:PySem.W.Frag}{mg:Str→Option Value}{base:Heap}{k:Nat}{f:Addr}{name qual:Str}{params:Arguments}{body:List Stmt}{scope:Scope}{dV kV doc pm cdv ct oc:Value}{an od:Option Addr}
 {osl:Array (Option Value)}{N ps:List Str}{sp:Sp} (lk:K.lookup f=some ⟨oc,od,.func (PySem.W.fnOf name qual params body scope dV kV doc pm an cdv ct),osl⟩) (hcd:PySem.W.codeIn K cdv qual=true) (S:aE N ps scope)
 (len:∀vs H Q E,sp vs H Q E→vs.length=ps.length)
 (hbody:∀(A:Around) (outer:List Env) (s:Shared) (H:Hp) (vs:List V) (Q:VK) (E:XK),d7 k (A.deeper (envOfC qual scope s.heap.objs.size f cdv))→sp vs H Q E→
  ∃t,nj (tP CX P w K mg base N qual scope f cdv A outer s H E) body t∧t { nx:=fun _ H'=>Q .non H',rt:=Q } (ml N vs) H) :
 aY P w K mg base CX (k+1) f (PySem.W.fnOf name qual params body scope dV kV doc pm an cdv ct) ps sp:=by
 refine ⟨len,fun A outer s H args us vs Q E hr e0 hb r hsp=>?_⟩
 have hl:=len _ _ _ _ hsp
 have KX:K.In s.heap:=e0.mod.kin.keeps fun b o e=>(e0.bs b o e).1
 have lim:s.heap.NoLimit:=e0.mod.nolimit.keeps fun b o e=>(e0.bs b o e).1
 have hkind:∀y∈ps.zip us,scope.names.lookup y.1=some .local∨(scope.names.lookup y.1=some .cell∧((cellsFrom (s.heap.objs.size+1) scope.names []).lookup y.1).isSome=true):=fun ⟨n,v⟩ hy=>by
  rcases S.par n (List.of_mem_zip hy).1 with q | q
  ·exact .inl q
  ·exact .inr ⟨q,PySem.W.cellsFrom_some _ _ _ (.inl q)⟩
 refine codeAny_call_function hr.depth (KX _ _ lk) rfl S.co S.gen rfl (PySem.W.codeRec_of KX hcd) (hb _ _ _ _ ?_)
 refine wpAny_newFunctionEnv_cells S.kind hkind fun env he s1 x=>?_
 subst he
 refine ⟨lim.keeps x.toInCall.keep,codeAny_func ?_⟩
 obtain ⟨t,ht,hq⟩:=hbody A outer s H vs Q E (hr.deeper _) hsp
 have I:ag (tP CX P w K mg base N qual scope f cdv A outer s H E) [] (ml N vs) H s1:=yI S hr.hd e0 hl r x
 refine wpAny_mono (ht [] s1 (ml N vs) H _ I hq) (fun fl s' hs=>?_) fun e s' hs=>hs
 have fin:∀{σ':St}{H':Hp}{v:V}{u:Value},ag (tP CX P w K mg base N qual scope f cdv A outer s H E) [] σ' H' s'→aT v u→Q v H'→CE outer P w H s Q u s':=
  fun {σ' H' v u} J rv q=>⟨v,H',J.os,J.bare,J.base,J.hok,rv,q⟩
 cases fl with
 | ret u=>
  obtain ⟨v,σ',H',J,rv,q⟩:=hs
  exact fin J rv q
 | next=>
  obtain ⟨σ',H',J,q⟩:=hs
  exact fin (v:=V.non) (u:=Value.none) J rfl q
 | brk=>
  obtain ⟨_,_,_,q⟩:=hs
  exact False.elim q
 | cont=>
  obtain ⟨_,_,_,q⟩:=hs
  exact False.elim q
end L2
namespace L2
open PySem PySem.Spec PyProof.Rows
section
variable {X:Cx}{x:Str}{p pos:Pos}{e:Expr}{es:List Expr}{t:TA}{id T:String}{r:List V→Hp→VK→Prop}
def Gw (r:List V→Hp→VK→Prop) (t:TA):TE:=fun σ H Q=>t σ H fun vs H1=>r vs H1 Q
theorem jz (hc:dH X (.builtin id) r) (hg:Gl X x) (hm:X.mg x=none) (hv:bootBuiltins x=some (.builtin id)) (ha:PA X (e :: es) t) (hn:x≠"__name__" := by decide) (hdb:(x==("__debug__" : Str))=false:=by decide)
 (he:starEach (e :: es) X.env=(false,eval e X.env) :: starEach es X.env:=by rfl) (hpl:(backTo pos (starEach es X.env)).any (·.1)=false:=by rfl):PE X (.Call (.Name x p) (e :: es) [] pos) (Gw r t):=by
 intro pins s σ H Q I h
 refine wpAny_Call_Name_kw (lD I hg hm hv ?_ hn hdb)
 exact PyProof.Rows.callWith_builtin1 (aK (ha pos pins s σ H _ I h) fun us s1 ⟨vs,H1,I1,r1,q1⟩=>hc pins s1 σ H1 vs us Q I1 r1 q1) he hpl
theorem bQ (hc:dH X (.type T) r) (hg:Gl X x) (hm:X.mg x=none) (hv:bootBuiltins x=some (.type T)) (ha:PA X (e :: es) t) (hn:x≠"__name__" := by decide) (hdb:(x==("__debug__" : Str))=false:=by decide)
 (he:starEach (e :: es) X.env=(false,eval e X.env) :: starEach es X.env:=by rfl) (hpl:(backTo pos (starEach es X.env)).any (·.1)=false:=by rfl):PE X (.Call (.Name x p) (e :: es) [] pos) (Gw r t):=by
 intro pins s σ H Q I h
 refine wpAny_Call_Name_kw (lD I hg hm hv ?_ hn hdb)
 exact PyProof.Rows.callWith_type1 (aK (ha pos pins s σ H _ I h) fun us s1 ⟨vs,H1,I1,r1,q1⟩=>hc pins s1 σ H1 vs us Q I1 r1 q1) he hpl
end
end L2
namespace HT
open PySem PyProof.Rows
section
open PySem.SeqAt
open PySem.AutoSeq1 (wpAny_loadPart')
open PySem.MeetsSeq PySem.MeetsSeq2 PySem.MeetsSeq3
end
section
variable {prog:Program}{w:World}{A:Around}{E:Value→Shared→Prop}{s:Shared}
theorem cat_tup {t b:Addr}{vs ws:List Value}{Q:Value→Shared→Prop} (ht:IsTup s.heap t vs.toArray) (hb:IsTup s.heap b ws.toArray) (hv:vs≠[])
 (h1:ws=[]→Q (.ref t) s) (h2:ws≠[]→Q (.ref s.heap.objs.size) { s with heap:=s.heap.push { cls:=.type "tuple",data:=.seq (vs++ws).toArray } })
 (hsz:vs.length+ws.length≤sizeLine):wpAny (model prog w) A (binaryOp .Add (.ref t) (.ref b)) Q E s:=by
 obtain ⟨⟨cls,dd,data,sl⟩,ho,hc,n,hd⟩:=id ht
 obtain ⟨⟨cls2,dd2,data2,sl2⟩,ho2,hc2,n2,hd2⟩:=id hb
 simp only at hc hd hc2 hd2
 subst hc hd hc2 hd2
 have e:vs.toArray++ws.toArray=(vs++ws).toArray:=by simp
 by_cases hw:ws=[]
 ·exact concat_meets ⟨_,ho,rfl⟩ ⟨_,ho2,rfl⟩ noFill_tuple_add seq_tuple_add PySem.F.slot_tuple_add PySem.F.entry_tuple_add (PySem.F.args_tuple_add_2 _ _)
   (tuple_addW1 t b vs.toArray ws.toArray n n2 dd dd2 sl sl2 (by simpa using hv) (by simp [hw])) ⟨ho,ho2,h1 hw⟩
 ·refine concat_meets ⟨_,ho,rfl⟩ ⟨_,ho2,rfl⟩ noFill_tuple_add seq_tuple_add PySem.F.slot_tuple_add PySem.F.entry_tuple_add (PySem.F.args_tuple_add_2 _ _)
   (tuple_addW2 t b vs.toArray ws.toArray n n2 dd dd2 sl sl2 (by simpa using hv) (by simpa using hw) (by rw [List.size_toArray,List.size_toArray];exact hsz)) ⟨ho,ho2,?_⟩
  rw [e]
  exact h2 hw
def sIx (n d:Nat):Option Int→Nat
 | none=>d
 | some v=>if v<0 then (v+(n:Int)).toNat else min v.toNat n
theorem sIx_none (n d:Nat):sIx n d none=d:=rfl
theorem sIx_nat (n d k:Nat):sIx n d (some (k:Int))=min k n:=by
 show (if (k:Int)<0 then ((k:Int)+(n:Int)).toNat else min (k:Int).toNat n)=min k n
 rw [if_neg (by trivial),Int.toNat_natCast]
theorem Ei (n d:Nat) (hd:d≤n) (o:Option Int):sIx n d o≤n:=by
 cases o with
 | none=>exact hd
 | some v=>
  show (if v<0 then (v+(n:Int)).toNat else min v.toNat n)≤n
  by_cases hv:v<0
  ·rw [if_pos hv];trivial
  ·rw [if_neg hv];exact Nat.min_le_right _ _
theorem xu (v:Int) (n d:Nat):(if v<0 then max (v+(n:Int)) 0 else min v (n:Int))=((sIx n d (some v):Nat):Int):=by
 show (if v<0 then max (v+(n:Int)) 0 else min v (n:Int))=(((if v<0 then (v+(n:Int)).toNat else min v.toNat n):Nat):Int)
 by_cases hv:v<0
 ·simp only [if_pos hv];trivial
 ·simp only [if_neg hv];trivial
theorem ya (lo hi:Option Int) (n:Nat):Builtin.Slice.sliceAdjust lo hi 1 (n:Int)=(((sIx n 0 lo:Nat):Int),((sIx n n hi:Nat):Int)):=by
 have h1:¬((1:Int)<0):=by trivial
 unfold Builtin.Slice.sliceAdjust
 simp only [h1,if_false]
 refine Prod.ext ?_ ?_
 ·cases lo with
  | none=>rfl
  | some v=>exact xu v n 0
 ·cases hi with
  | none=>rfl
  | some v=>exact xu v n n
theorem xZ (i j:Nat):Builtin.Slice.slicePlaces (i:Int) (j:Int) 1=j - i:=by
 unfold Builtin.Slice.slicePlaces
 have h1:(1:Int) > 0:=by trivial
 simp only [h1,if_true,Int.ediv_one]
 split <;> trivial
theorem sI {v:Value}{o:Option Int}{Q:Option Int→Shared→Prop} (p:IsPart v o) (h:Q o s):wpAny (model prog w) A (Builtin.Slice.slicePartIndex v) Q E s:=by
 cases p with
 | none=>exact slicePart_none h
 | int i t=>exact slicePart_int h
theorem lg {sl:Addr}{vl vu:Value}{lo hi:Option Int}{n:Nat}{Q:Int×Int×Nat→Shared→Prop} (hs:s.heap.IsSliceOf sl vl vu .none) (pl:IsPart vl lo) (pu:IsPart vu hi)
 (h:Q (((sIx n 0 lo:Nat):Int),1,sIx n n hi - sIx n 0 lo) s):wpAny (model prog w) A (Builtin.Slice.sliceApplied (.ref sl) (pure (n:Int))) Q E s:=by
 obtain ⟨os,hos,hcs,hds⟩:=id hs
 unfold Builtin.Slice.sliceApplied Builtin.Slice.sliceFields
 refine wpAny_bind (wpAny_bind (wpAny_field hos hds (x:=vl) rfl (wpAny_bind (wpAny_field hos hds (x:=vu) rfl (wpAny_bind (wpAny_field hos hds (x:=.none) rfl (wpAny_pure ?_)))))))
 refine wpAny_bind (slicePart_none ?_)
 show wpAny _ _ (if ((1:Int)==0)=true then _ else _) _ _ s
 rw [if_neg (by decide)]
 refine wpAny_bind (sI pl (wpAny_bind (sI pu (wpAny_bind (wpAny_pure ?_)))))
 show wpAny _ _ (match Builtin.Slice.sliceAdjust lo hi 1 (n:Int) with | (lo,hi)=>pure (lo,(1:Int),Builtin.Slice.slicePlaces lo hi 1)) _ _ s
 rw [ya lo hi n]
 show wpAny _ _ (pure (((sIx n 0 lo:Nat):Int),(1:Int),Builtin.Slice.slicePlaces ((sIx n 0 lo:Nat):Int) ((sIx n n hi:Nat):Int) 1)) _ _ s
 rw [xZ]
 exact wpAny_pure h
theorem Au (xs:Array Value) (i k:Nat):((List.range k).filterMap fun (m:Nat)=>xs[((i:Int)+(m:Int)*1).toNat]?).toArray=((xs.toList.drop i).take k).toArray:=by
 have e:(fun (m:Nat)=>xs[((i:Int)+(m:Int)*1).toNat]?)=fun m=>xs[i+m]?:=by
  funext m
  have:((i:Int)+(m:Int)*1).toNat=i+m:=by trivial
  rw [this]
 rw [e]
 have:=pick_run xs i k
 rw [List.filterMap_map] at this
 have e2:((fun x=>xs[x]?) ∘ fun x=>i+x)=fun m=>xs[i+m]?:=rfl
 rw [e2] at this
 rw [this]
theorem getItem_tuple_cut {t sl:Addr}{items:Array Value}{vl vu:Value}{lo hi:Option Int}{Q:Value→Shared→Prop} (ht:IsTup s.heap t items) (hs:s.heap.IsSliceOf sl vl vu .none) (pl:IsPart vl lo) (pu:IsPart vu hi)
 (hw:¬(sIx items.size 0 lo=0∧sIx items.size items.size hi=items.size))
 (h:Q (.ref s.heap.objs.size) { s with heap:=s.heap.push { cls:=.type "tuple",data:=.seq ((items.toList.drop (sIx items.size 0 lo)).take (sIx items.size items.size hi - sIx items.size 0 lo)).toArray } })
 (hsz:items.size≤sizeLine):wpAny (model prog w) A (getItem (.ref t) (.ref sl)) Q E s:=by
 have htake:sizeOk (.seq ((items.toList.drop (sIx items.size 0 lo)).take (sIx items.size items.size hi - sIx items.size 0 lo)).toArray):=by
  show ((items.toList.drop (sIx items.size 0 lo)).take (sIx items.size items.size hi - sIx items.size 0 lo)).toArray.size≤sizeLine
  rw [List.size_toArray,List.length_take,List.length_drop,Array.length_toList]
  exact Nat.le_trans (Nat.min_le_right ..) (Nat.le_trans (Nat.sub_le ..) hsz)
 have hj:sIx items.size items.size hi≤items.size:=Ei _ _ (Nat.le_refl _) hi
 obtain ⟨os,hos,hcs,hds⟩:=id hs
 have hTs:s.TypeIs (.ref sl) "slice" := ⟨os,hos,hcs⟩
 unfold getItem
 try with_reducible refine wpAny_holding ?_
 first | refine wpAny_bind (wpAny_pure ?_) | skip
 refine wpAny_bind (wpAny_sequenceKey ht.typeIs (by decide) ?_)
 refine wpAny_bind (wpAny_callSpecial?_slot (name:=Str.ofString "__getitem__") ht.typeIs PyProof.Rows.slot_tuple_getitem
  (wpAny_call_entry PyProof.Rows.slot_tuple_getitem ht.typeIs entry_tuple_getitem ?_ (args_tuple_getitem _ _)))
 show wpAny _ _ (Builtin.Tuple.tupleItemsOf (.ref t) >>= _) _ _ s
 refine wpAny_bind (tupleItemsOf_ ht ?_)
 refine wpAny_bind (wpAny_typeOf hTs ?_)
 rw [if_pos (by decide)]
 refine wpAny_bind (lg hs pl pu ?_)
 have hno:¬((((sIx items.size 0 lo:Nat):Int)==0 && (1:Int)==1 && (sIx items.size items.size hi - sIx items.size 0 lo)==items.size)=true):=by
  intro q
  rw [Bool.and_eq_true,Bool.and_eq_true] at q
  have q1:((sIx items.size 0 lo:Nat):Int)=0:=eq_of_beq q.1.1
  have q2:sIx items.size items.size hi - sIx items.size 0 lo=items.size:=eq_of_beq q.2
  exact hw ⟨by trivial,by trivial⟩
 show wpAny _ _ (if (((sIx items.size 0 lo:Nat):Int)==0 && (1:Int)==1 && (sIx items.size items.size hi - sIx items.size 0 lo)==items.size)=true then _ else _) _ _ s
 rw [if_neg hno,Au]
 first
  | exact wpAny_bind (m:=Builtin.Tuple.tupleExact _) (wpAny_newObj_type (wpAny_pure ⟨_,rfl,wpAny_pure h⟩) htake)
  | exact wpAny_bind (m:=Builtin.Tuple.tupleExact _) (wpAny_newObj_type (wpAny_bind (wpAny_pure (wpAny_pure ⟨_,rfl,wpAny_pure h⟩))) htake)
  | exact wpAny_bind (wpAny_bind (m:=Builtin.Tuple.tupleExact _) (wpAny_newObj_type (wpAny_pure (wpAny_pure ⟨_,rfl,wpAny_pure h⟩)) htake))
  | exact wpAny_bind (wpAny_bind (m:=Builtin.Tuple.tupleExact _) (wpAny_newObj_type (wpAny_pure ⟨_,rfl,wpAny_pure h⟩) htake))
end
end HT
namespace L2
open PySem PySem.Spec PyProof.Rows
abbrev TO:=St→Hp→(Option Int→Hp→Prop)→Prop
def PO (X:Cx) (e:Option Expr) (t:TO):Prop:=
 ∀(pins:List (Addr×Obj)) (s:Shared) (σ:St) (H:Hp) (Q:Option Int→Hp→Prop),ag X pins σ H s→t σ H Q→
   wpAny (model X.prog X.w) X.A (evalPart e X.env) (fun u s'=>bE fun o H'=>ag X pins σ H' s'∧IsPart u o∧Q o H') X.xe s
def CA:TO:=fun _ H Q=>Q none H
def F6 (t:TE):TO:=fun σ H Q=>t σ H fun x H1=>DD x fun i=>Q (some i) H1
section
variable {X:Cx}{e:Expr}{te:TE}{lo hi:Option Expr}{tl th:TO}{pos p2:Pos}
theorem d9:PO X none CA:=by
 intro pins s σ H Q I h
 rw [evalPart_none]
 exact wpAny_pure ⟨none,H,I,.none,h⟩
theorem dk (h:PE X e te):PO X (some e) (F6 te):=by
 intro pins s σ H Q I hw
 rw [evalPart_some]
 refine aK (h pins s σ H _ I hw) fun u s1 ⟨x,H1,I1,r1,q1⟩=>?_
 obtain ⟨i,rfl,q⟩:=q1
 obtain ⟨t,rfl⟩:=r1
 exact ⟨some i,H1,I1,.int i t,q⟩
def y6 (X:Cx) (r:V→Option Int→Option Int→Hp→VK→Prop):Prop:=
 ∀(pins:List (Addr×Obj)) (s:Shared) (σ:St) (H:Hp) (x:V) (v vl vu:Value) (lo hi:Option Int) (sl:Addr) (Q:VK),ag X pins σ H s→aT x v→s.heap.IsSliceOf sl vl vu .none→IsPart vl lo→IsPart vu hi→r x lo hi H Q→
   bE fun T id=>typeLookup (.type T) "__getitem__" = pure (some (.builtin id))∧s.TypeIs v T∧wpAny (model X.prog X.w) X.A (getItem v (.ref sl)) (EP X pins σ Q) X.xe s
def Hy (r:V→Option Int→Option Int→Hp→VK→Prop) (te:TE) (tl th:TO):TE:=fun σ H Q=>te σ H fun x H1=>tl σ H1 fun l H2=>th σ H2 fun u H3=>r x l u H3 Q
theorem cZ {r:V→Option Int→Option Int→Hp→VK→Prop} (hr:y6 X r) (he:PE X e te) (hl:PO X lo tl) (hu:PO X hi th):PE X (.Subscript e (.Slice lo hi none p2) pos) (Hy r te tl th):=by
 intro pins s σ H Q I h
 refine Subscript_ (aK (he pins s σ H _ I h) fun v s1 ⟨x,H1,I1,r1,q1⟩=>?_)
 refine wpAny_Slice (aK (hl pins s1 σ H1 _ I1 q1) fun vl s2 ⟨l,H2,I2,pl,q2⟩=>aK (hu pins s2 σ H2 _ I2 q2) fun vu s3 ⟨u,H3,I3,pu,q3⟩=>?_)
 rw [evalPart_none]
 refine wpAny_pure ?_
 have I4:ag X pins σ H3 { s3 with heap:=s3.heap.push { cls:=.type "slice",data:=.fields #[vl,vu,.none] } }:=I3.kept (t':=s3.toks) fun b ob q=>Heap.get?_push_of_some _ q
 obtain ⟨T,id,hT,ht,hg⟩:=hr pins { s3 with heap:=s3.heap.push { cls:=.type "slice",data:=.fields #[vl,vu,.none] } } σ H3 x v vl vu l u s3.heap.objs.size Q I4 r1 (Heap.IsSliceOf.new ..) pl pu q3
 show wpAny (model X.prog X.w) X.A (subscriptTail e (.Slice lo hi none p2) v (.ref s3.heap.objs.size)) (EP X pins σ Q) X.xe { s3 with heap:=s3.heap.push { cls:=.type "slice",data:=.fields #[vl,vu,.none] } }
 exact tail_any (ops:=[.ref s3.heap.objs.size,v]) ht hT hg (by with_unfolding_all rfl)
def gh (xs:List V) (lo hi:Option Int):List V:=(xs.drop (HT.sIx xs.length 0 lo)).take (HT.sIx xs.length xs.length hi - HT.sIx xs.length 0 lo)
theorem rh (xs:List V) (lo hi:Option Int):(gh xs lo hi).length≤xs.length:=by
 unfold gh
 rw [List.length_take,List.length_drop]
 exact Nat.le_trans (Nat.min_le_right ..) (Nat.sub_le ..)
inductive Fe (K:PySem.W.Frag) (x:V) (lo:Option Int) (hi:Option Int) (H:Hp) (Q:VK):Prop
 | mk (a:_) (xs:_) (h0:x=.ref a) (h1:aa K H a xs) (h2:¬(HT.sIx xs.length 0 lo=0∧HT.sIx xs.length xs.length hi=xs.length)) (h3:∀p,H p=none→Q (.ref p) (aG H p (.tup (gh xs lo hi))))
def Hm (K:PySem.W.Frag):V→Option Int→Option Int→Hp→VK→Prop:=fun x lo hi H Q=>Fe K x lo hi H Q
theorem Dg:y6 X (Hm X.K):=by
 intro pins s σ H x v vl vu lo hi sl Q I rx hs pl pu h
 obtain ⟨a,xs,rfl,hx,hw,q⟩:=h
 cases rx
 obtain ⟨its,r,ht,hz⟩:=I.tuple hx
 have hlen:its.toArray.size=xs.length:=by rw [List.size_toArray];exact r.length.symm
 refine ⟨"tuple",_,PyProof.Rows.slot_tuple_getitem.lookup,ht.typeIs,?_⟩
 refine HT.getItem_tuple_cut ht hs pl pu (by rw [hlen];exact hw) ?_ (by rw [hlen];exact hz)
 rw [hlen]
 refine ⟨.ref s.heap.objs.size,_,I.laid (t':=s.toks) (o:=.tup (gh xs lo hi)) (fun b ob q=>Heap.get?_push_of_some _ q) (Nat.le_refl _) ?_,rfl,q _ (I.hok.fresh (Nat.le_refl _))⟩
 exact ⟨Nat.le_trans (rh xs lo hi) hz,_,(r.drop (HT.sIx xs.length 0 lo)).take (HT.sIx xs.length xs.length hi - HT.sIx xs.length 0 lo),IsTup.new _ _,_,Heap.get?_push_size _ rfl,rfl⟩
inductive EK (K:PySem.W.Frag) (x:V) (y:V) (H:Hp) (Q:VK):Prop
 | mk (a:_) (b:_) (xs:_) (ys:_) (h0:x=.ref a) (h1:y=.ref b) (h2:aa K H a xs) (h3:aa K H b ys) (h4:xs≠[]) (h5:xs.length+ys.length≤sizeLine) (h6:(ys=[]→Q (.ref a) H)) (h7:(ys≠[]→∀p,H p=none→Q (.ref p) (aG H p (.tup (xs++ys)))))
def Gj (K:PySem.W.Frag):R2:=fun x y H Q=>EK K x y H Q
theorem aH.nil_iff {xs:List V}{us:List Value} (r:aH xs us):us=[]↔xs=[]:=by
 cases r with
 | nil=>simp
 | cons _ _=>simp
theorem Ce:de X (binaryOp .Add) (Gj X.K):=by
 intro pins s σ H x y v u Q I rx ry h
 obtain ⟨a,b,xs,ys,rfl,rfl,ha,hb,hx,hz,q1,q2⟩:=h
 cases rx
 cases ry
 obtain ⟨its,r1,p1,_⟩:=I.tuple ha
 obtain ⟨its2,r2,p2,_⟩:=I.tuple hb
 refine HT.cat_tup p1 p2 (fun z=>hx (r1.nil_iff.mp z)) (fun z=>⟨.ref a,H,I,rfl,q1 (r2.nil_iff.mp z)⟩) (fun z=>?_) (by rw [←r1.length,←r2.length];exact hz)
 refine ⟨.ref s.heap.objs.size,_,I.laid (t':=s.toks) (o:=.tup (xs++ys)) (fun b ob q=>Heap.get?_push_of_some _ q) (Nat.le_refl _) ?_,rfl,q2 (fun w=>z (r2.nil_iff.mpr w)) _ (I.hok.fresh (Nat.le_refl _))⟩
 exact ⟨by rw [List.length_append];exact hz,_,r1.append r2,IsTup.new _ _,_,Heap.get?_push_size _ rfl,rfl⟩
end
def sN (n:Nat) (i:Int):Option Nat:=if 0≤i then (if i<n then some i.toNat else none) else if -(n:Int)≤i then some (i+n).toNat else none
def mh {α:Type} (xs:List α) (i:Int):Option α:=(sN xs.length i).bind fun j=>xs[j]?
theorem xG {n:Nat}{i:Int}{j:Nat} (h:sN n i=some j):seqIndex? i n=some j∧j<n∧-(n:Int)≤i∧i<n:=by
 unfold sN at h
 by_cases h0:0≤i
 ·rw [if_pos h0] at h
  by_cases h1:i<n
  ·rw [if_pos h1] at h
   have e:i.toNat=j:=Option.some.inj h
   exact ⟨by rw [seqIndex_of h0 h1,e],by trivial,by trivial,h1⟩
  ·rw [if_neg h1] at h;cases h
 ·rw [if_neg h0] at h
  by_cases h1:-(n:Int)≤i
  ·rw [if_pos h1] at h
   have e:(i+n).toNat=j:=Option.some.inj h
   exact ⟨by rw [seqIndex_neg (by trivial) h1,e],by trivial,h1,by trivial⟩
  ·rw [if_neg h1] at h;cases h
theorem tY {α:Type}{xs:List α}{i:Int}{v:α} (h:mh xs i=some v):∃j,seqIndex? i xs.length=some j∧xs[j]?=some v∧j<xs.length∧-(xs.length:Int)≤i∧i<xs.length:=by
 unfold mh at h
 cases e:sN xs.length i with
 | none=>rw [e] at h;cases h
 | some j=>
  rw [e] at h
  obtain ⟨h1,h2,h3,h4⟩:=xG e
  exact ⟨j,h1,h,h2,h3,h4⟩
theorem gu {α:Type}{xs:List α}{j:Nat}{v:α} (h:xs[j]?=some v):mh xs (j:Int)=some v:=by
 have hj:j<xs.length:=(List.getElem?_eq_some_iff.mp h).1
 have e:sN xs.length (j:Int)=some j:=by
  unfold sN
  rw [if_pos (by trivial),if_pos (by trivial)];simp
 unfold mh;rw [e];exact h
def Cr (b:Expr):Prop:=∀o i,subscripted b false o i=operate [o,i] (getItem o i)
def nQ (X:Cx) (r:R2):Prop:=
 ∀(value slice:Expr) (pins:List (Addr×Obj)) (s:Shared) (σ:St) (H:Hp) (x y:V) (v u:Value) (Q:VK),ag X pins σ H s→aT x v→aT y u→r x y H Q→
   subscripted slice false v u=operate [v,u] (getItem v u)→wpAny (model X.prog X.w) X.A (subscriptTail value slice v u) (EP X pins σ Q) X.xe s
def xn (X:Cx) (id:String) (r:V→List V→Hp→VK→Prop):Prop:=
 ∀(pins:List (Addr×Obj)) (s:Shared) (σ:St) (H:Hp) (x:V) (xs:List V) (v:Value) (us:List Value) (Q:VK),ag X pins σ H s→aT x v→aH xs us→r x xs H Q→
   wpAny (model X.prog X.w) X.A (call (.builtin id) (v :: us)) (EP X pins σ Q) X.xe s
section
variable {X:Cx}{a b:Expr}{ta tb:TE}{pos:Pos}
theorem nQ.or {r r':R2} (h:nQ X r) (h':nQ X r'):nQ X (fun x y H Q=>r x y H Q∨r' x y H Q):=by
 intro value slice pins s σ H x y v u Q I rx ry q hs
 rcases q with q | q
 ·exact h value slice pins s σ H x y v u Q I rx ry q hs
 ·exact h' value slice pins s σ H x y v u Q I rx ry q hs
theorem cM {r:R2} (hr:nQ X r) (ha:PE X a ta) (hb:PE X b tb) (hs:Cr b):PE X (.Subscript a b pos) (Bt r ta tb):=by
 intro pins s σ H Q I h
 exact Subscript_ (A1 ha hb I h fun v u s2 x y H2 I2 rx ry q=>hr a b pins s2 σ H2 x y v u Q I2 rx ry q (hs _ _))
inductive FB (K:PySem.W.Frag) (x:V) (y:V) (H:Hp) (Q:VK):Prop
 | mk (p:_) (xs:_) (i:_) (v:_) (h0:x=.ref p) (h1:y=.int i) (h2:ah K H p xs) (h3:mh xs i=some v) (h4:Q v H)
def AH (K:PySem.W.Frag):R2:=fun x y H Q=>FB K x y H Q
inductive E9 (K:PySem.W.Frag) (x:V) (y:V) (H:Hp) (Q:VK):Prop
 | mk (p:_) (xs:_) (i:_) (v:_) (h0:x=.ref p) (h1:y=.int i) (h2:aa K H p xs) (h3:mh xs i=some v) (h4:Q v H)
def Av (K:PySem.W.Frag):R2:=fun x y H Q=>E9 K x y H Q
inductive FJ (x:V) (y:V) (H:Hp) (Q:VK):Prop
 | mk (z:_) (i:_) (c:_) (h0:x=.str z) (h1:y=.int i) (h2:z.length≤sizeLine) (h3:mh z.cps.toList i=some c) (h4:Q (.str ⟨#[c]⟩) H)
def E5:R2:=fun x y H Q=>FJ  x y H Q
theorem xk:nQ X (AH X.K):=by
 intro value slice pins s σ H x y v u Q I rx ry h hs
 obtain ⟨p,xs,i,z,rfl,rfl,hq,he,q⟩:=h
 cases rx
 obtain ⟨t,rfl⟩:=ry
 obtain ⟨its,r,pl,hz⟩:=I.list hq
 obtain ⟨j,h1,h2,h3,h4,h5⟩:=tY he
 obtain ⟨w,ew,rw'⟩:=r.get h2
 have hl:=r.length
 have hn:=pK
 have fin:EP X pins σ Q w s:=⟨z,H,I,rw',q⟩
 by_cases h0:0≤i
 ·have hj:i.toNat=j:=by
   rw [seqIndex_of h0 h5] at h1
   exact Option.some.inj h1
  exact item_listR pl.isList h0 (by trivial) (by rw [hj];simpa using ew) fin hs
 ·have hj:(i+(its.toArray.size:Int)).toNat=j:=by
   rw [seqIndex_neg (by trivial) h4] at h1
   rw [List.size_toArray,←hl]
   exact Option.some.inj h1
  exact subscriptTail_builtinR (x:=w) pl.isList.typeIs slot_list_getitem.lookup
   (wpAny_getItem_list_neg (Q:=fun r s'=>r=w∧EP X pins σ Q r s') pl.isList (by trivial) (by rw [List.size_toArray] <;> trivial) (by trivial) (by rw [hj];simpa using ew) ⟨rfl,fin⟩) hs
theorem zN:nQ X (Av X.K):=by
 intro value slice pins s σ H x y v u Q I rx ry h hs
 obtain ⟨p,xs,i,z,rfl,rfl,hq,he,q⟩:=h
 cases rx
 obtain ⟨t,rfl⟩:=ry
 obtain ⟨its,r,pl,hz⟩:=I.tuple hq
 obtain ⟨j,h1,h2,h3,h4,h5⟩:=tY he
 obtain ⟨w,ew,rw'⟩:=r.get h2
 have hl:=r.length
 have hn:=pK
 have fin:EP X pins σ Q w s:=⟨z,H,I,rw',q⟩
 exact subscriptTail_builtinR (x:=w) pl.typeIs slot_tuple_getitem.lookup
  (getItem_tuple (j:=j) (Q:=fun r s'=>r=w∧EP X pins σ Q r s') pl (by trivial) (by trivial) (by rw [List.size_toArray,←hl];exact h1) (by simpa using ew) ⟨rfl,fin⟩) hs
theorem tz:nQ X E5:=by
 intro value slice pins s σ H x y v u Q I rx ry h hs
 obtain ⟨z,i,c,rfl,rfl,hz,he,q⟩:=h
 obtain ⟨t,rfl⟩:=rx
 obtain ⟨t',rfl⟩:=ry
 obtain ⟨j,h1,h2,h3,h4,h5⟩:=tY he
 have hl:z.cps.toList.length=z.length:=by simp [Str.length]
 rw [hl] at h1 h4 h5
 have hn:=pK
 exact tail_any (typeIs_str s z t) slot_str_getitem.lookup (getItem_str (c:=c) (by
  have e1:decide (i < -(2 ^ 63:Int))=false:=decide_eq_false (by trivial)
  have e2:decide (i≥2 ^ 63)=false:=decide_eq_false (by trivial)
  rw [e1,e2,Bool.or_false]) (by rw [h1];simpa using h2) ⟨.str ⟨#[c]⟩,H,I.tok _,⟨()⟩,q⟩) hs
def Gs (K:PySem.W.Frag):R2:=fun x y H Q=>AH K x y H Q∨Av K x y H Q∨E5 x y H Q
theorem jf:nQ X (Gs X.K):=xk.or (zN.or tz)
theorem yg (its:List Value) (n j:Nat) (u:Value):Obj.mapSeq (·.setIfInBounds j u) { cls:=.type "list",data:=.seq its.toArray n }={ cls:=.type "list",data:=.seq (its.set j u).toArray n }:=by
 simp [Obj.mapSeq]
theorem ag.lst {pins:List (Addr×Obj)}{σ:St}{H:Hp}{s:Shared}{p:Addr}{xs:List V} (I:ag X pins σ H s) (h:H p=some (.lst xs)) :
 bE fun (its:List Value) (n:Nat)=>aH xs its∧s.heap.get? p=some { cls:=.type "list",data:=.seq its.toArray n }∧xs.length≤sizeLine:=by
 obtain ⟨z,its,n,r,e⟩:=I.hok p _ h
 exact ⟨its,n,r,e,z⟩
theorem ag.lstUpd {pins:List (Addr×Obj)}{σ:St}{H:Hp}{s:Shared}{p:Addr}{xs ys:List V}{its its':List Value}{n n':Nat}{f:Obj→Obj} (I:ag X pins σ H s) (h:H p=some (.lst xs))
 (ho:s.heap.get? p=some { cls:=.type "list",data:=.seq its.toArray n }) (hf:f { cls:=.type "list",data:=.seq its.toArray n }={ cls:=.type "list",data:=.seq its'.toArray n' }) (r:aH ys its') (hz:ys.length≤sizeLine) (t:Nat) :
 ag X pins σ (aG H p (.lst ys)) { s with heap:=s.heap.update p f,toks:=t }:=by
 have e:(s.heap.update p f).get? p=some { cls:=.type "list",data:=.seq its'.toArray n' }:=by
  rw [Heap.get?_update_self f ho (by rw [hf] <;> rfl),hf]
 refine I.write (x:=p) (e:=p) (by rw [h];trivial) (.inl rfl) (fun b u hb q=>(Heap.get?_update_other _ _ (Ne.symm hb)).trans q) ⟨_,e⟩ ?_
 exact ⟨hz,its',n',r,e⟩
inductive Ex (o:V) (i:V) (v:V) (H:Hp) (Q:(Hp→Prop)):Prop
 | mk (p:_) (xs:_) (k:_) (j:_) (h0:o=.ref p) (h1:i=.int k) (h2:H p=some (.lst xs)) (h3:sN xs.length k=some j) (h4:Q (aG H p (.lst (xs.set j v))))
def Fa:V→V→V→Hp→(Hp→Prop)→Prop:=fun o i v H Q=>Ex  o i v H Q
theorem rJ:ym X Fa:=by
 intro pins s σ H o i v ov iv u Q I ro ri rv h
 obtain ⟨p,xs,k,j,rfl,rfl,hp,hj,q⟩:=h
 cases ro
 obtain ⟨t,rfl⟩:=ri
 obtain ⟨its,n,r,ho,hz⟩:=I.lst hp
 obtain ⟨h1,h2,h3,h4⟩:=xG hj
 have hl:=r.length
 have hn:=pK
 have I':ag X pins σ (aG H p (.lst (xs.set j v))) { s with heap:=s.heap.update p (Obj.mapSeq (·.setIfInBounds j u)) }:=
  I.lstUpd hp ho (yg its n j u) (r.set rv j) (by rw [List.length_set];exact hz) s.toks
 by_cases h0:0≤k
 ·have hk:k.toNat=j:=by
   rw [seqIndex_of h0 h4] at h1
   exact Option.some.inj h1
  exact PySem.W.ki_setAt ho h0 (by trivial) (by rw [List.size_toArray,←hl];exact h4) (by rw [hk];exact ⟨_,I',q⟩)
 ·have hk:(k+(its.toArray.size:Int)).toNat=j:=by
   rw [seqIndex_neg (by trivial) h3] at h1
   rw [List.size_toArray,←hl]
   exact Option.some.inj h1
  exact PySem.W.ki_setBack ho (by trivial) (by rw [List.size_toArray,←hl];exact h3) (by trivial) (by rw [hk];exact ⟨_,I',q⟩)
theorem we (lo hi:Option Int) (n:Nat):(sliceBounds lo hi none n).1=((HT.sIx n 0 lo:Nat):Int)∧(sliceBounds lo hi none n).2.1=((HT.sIx n n hi:Nat):Int)∧(sliceBounds lo hi none n).2.2=1:=by
 refine ⟨?_,?_,rfl⟩
 ·cases lo with
  | none=>simp [sliceBounds,HT.sIx]
  | some i=>
   simp only [sliceBounds,HT.sIx,Option.getD_none,show (1:Int) > 0 by decide,if_true]
   by_cases h:i<0
   ·simp only [h,if_true] <;> trivial
   ·simp only [h,if_false] <;> trivial
 ·cases hi with
  | none=>simp [sliceBounds,HT.sIx]
  | some i=>
   simp only [sliceBounds,HT.sIx,Option.getD_none,show (1:Int) > 0 by decide,if_true]
   by_cases h:i<0
   ·simp only [h,if_true] <;> trivial
   ·simp only [h,if_false] <;> trivial
theorem vi (its:List Value) (lo hi:Option Int):slicePick its.toArray lo hi none=((its.drop (HT.sIx its.length 0 lo)).take (HT.sIx its.length its.length hi - HT.sIx its.length 0 lo)).toArray:=by
 obtain ⟨h1,h2,h3⟩:=we lo hi its.toArray.size
 unfold slicePick
 rw [h1,h2,h3]
 simp only [sliceRange_one,pick_run,List.size_toArray] <;> rfl
inductive F8 (K:PySem.W.Frag) (x:V) (lo:Option Int) (hi:Option Int) (H:Hp) (Q:VK):Prop
 | mk (a:_) (xs:_) (h0:x=.ref a) (h1:ah K H a xs) (h2:∀p,H p=none→Q (.ref p) (aG H p (.lst (gh xs lo hi))))
def GW (K:PySem.W.Frag):V→Option Int→Option Int→Hp→VK→Prop:=fun x lo hi H Q=>F8 K x lo hi H Q
theorem Cl:y6 X (GW X.K):=by
 intro pins s σ H x v vl vu lo hi sl Q I rx hs pl pu h
 obtain ⟨a,xs,rfl,hx,q⟩:=h
 cases rx
 obtain ⟨its,r,ht,hz⟩:=I.list hx
 have hlen:=r.length
 refine ⟨"list",_,slot_list_getitem.lookup,ht.isList.typeIs,?_⟩
 refine wpAny_getItem_list_slice ht.isList hs pl pu .none (by simp) ?_ (by rw [List.size_toArray] <;> trivial)
 rw [vi,←hlen]
 refine ⟨.ref s.heap.objs.size,_,I.laid (t':=s.toks) (o:=.lst (gh xs lo hi)) (fun b ob q=>Heap.get?_push_of_some _ q) (Nat.le_refl _) ?_,rfl,q _ (I.hok.fresh (Nat.le_refl _))⟩
 exact ⟨Nat.le_trans (rh xs lo hi) hz,_,0,(r.drop (HT.sIx xs.length 0 lo)).take (HT.sIx xs.length xs.length hi - HT.sIx xs.length 0 lo),Heap.get?_push_size _ rfl⟩
def kK:V→Bool
 | .non=>true
 | .bl _=>true
 | .int _=>true
 | .str _=>true
 | _=>false
def vf:V→V→Bool
 | .non,.non=>true
 | .bl a,.bl b=>a==b
 | .bl a,.int b=>(if a then 1 else 0)==b
 | .int a,.bl b=>a==(if b then 1 else 0)
 | .int a,.int b=>a==b
 | .str a,.str b=>a==b
 | _,_=>false
theorem Ef {A:Around}{s:Shared}{y x:V}{u v:Value} (ry:aT y u) (rx:aT x v) (fy:kK y=true) (fx:kK x=true):SeqAt.EqAt A s u v (vf y x):=by
 cases y with
 | non=>
  cases ry
  cases x with
  | non=>cases rx;exact SeqAt.EqAt.same _
  | bl b=>cases rx;exact SeqAt.EqAt.none_bool b
  | int b=>obtain ⟨t,rfl⟩:=rx;exact SeqAt.EqAt.none_int b t
  | str b=>obtain ⟨t,rfl⟩:=rx;exact SeqAt.EqAt.none_str b t
  | _=>exact absurd (show false=true from fx) Bool.false_ne_true
 | bl a=>
  cases ry
  cases x with
  | non=>cases rx;exact SeqAt.EqAt.bool_none a
  | bl b=>cases rx;exact SeqAt.EqAt.bool_bool a b
  | int b=>obtain ⟨t,rfl⟩:=rx;exact SeqAt.EqAt.bool_int a b t
  | str b=>obtain ⟨t,rfl⟩:=rx;exact SeqAt.EqAt.bool_str a b t
  | _=>exact absurd (show false=true from fx) Bool.false_ne_true
 | int a=>
  obtain ⟨t',rfl⟩:=ry
  cases x with
  | non=>cases rx;exact SeqAt.EqAt.int_none a t'
  | bl b=>cases rx;exact SeqAt.EqAt.int_bool a t' b
  | int b=>obtain ⟨t,rfl⟩:=rx;exact SeqAt.EqAt.int_int a t' b t
  | str b=>obtain ⟨t,rfl⟩:=rx;exact SeqAt.EqAt.int_str a t' b t
  | _=>exact absurd (show false=true from fx) Bool.false_ne_true
 | str a=>
  obtain ⟨t',rfl⟩:=ry
  cases x with
  | non=>cases rx;exact SeqAt.EqAt.str_none a t'
  | bl b=>cases rx;exact SeqAt.EqAt.str_bool a t' b
  | int b=>obtain ⟨t,rfl⟩:=rx;exact SeqAt.EqAt.str_int a t' b t
  | str b=>obtain ⟨t,rfl⟩:=rx;exact SeqAt.EqAt.str_str a t' b t
  | _=>exact absurd (show false=true from fx) Bool.false_ne_true
 | _=>exact absurd (show false=true from fy) Bool.false_ne_true
def tj (x:V) (u:Value):Bool:=match u with
 | .none=>vf .non x
 | .bool b=>vf (.bl b) x
 | .int i _=>vf (.int i) x
 | .str z _=>vf (.str z) x
 | _=>false
theorem yH {x y:V}{u:Value} (r:aT y u) (f:kK y=true):tj x u=vf y x:=by
 cases y with
 | non=>cases r;rfl
 | bl b=>cases r;rfl
 | int i=>obtain ⟨t,rfl⟩:=r;rfl
 | str z=>obtain ⟨t,rfl⟩:=r;rfl
 | _=>exact absurd (show false=true from f) Bool.false_ne_true
theorem uC {x:V}:∀{xs:List V}{us:List Value},aH xs us→xs.all kK=true→us.any (tj x)=xs.any fun y=>vf y x
 | _,_,.nil,_=>rfl
 | y :: xs,u :: us,.cons r t,f=>by
  rw [List.all_cons,Bool.and_eq_true] at f
  rw [List.any_cons,List.any_cons,yH r f.1,uC t f.2]
theorem sv {A:Around}{s:Shared}{x:V}{v:Value} (rx:aT x v) (fx:kK x=true):∀{xs:List V}{us:List Value},aH xs us→xs.all kK=true→∀u∈us,SeqAt.EqAt A s u v (tj x u)
 | _,_,.nil,_=>fun u hu=>by cases hu
 | y :: xs,u :: us,.cons r t,f=>fun u' hu=>by
  rw [List.all_cons,Bool.and_eq_true] at f
  rcases List.mem_cons.mp hu with rfl | hu
  ·rw [yH r f.1];exact Ef r rx f.1 fx
  ·exact sv rx fx t f.2 u' hu
def Bf (x:V) (xs:List V):Bool:=xs.any fun y=>vf y x
inductive Hj (K:PySem.W.Frag) (neg:Bool) (x:V) (y:V) (H:Hp) (Q:VK):Prop
 | mk (p:_) (xs:_) (h0:y=.ref p) (h1:(ah K H p xs∨aa K H p xs)) (h2:kK x=true) (h3:xs.all kK=true) (h4:Q (.bl (if neg then !Bf x xs else Bf x xs)) H)
def Gy (K:PySem.W.Frag) (neg:Bool):R2:=fun x y H Q=>Hj K neg x y H Q
theorem y9:de X (compareOp .In) (Gy X.K false):=by
 intro pins s σ H x y v u Q I rx ry h
 obtain ⟨p,xs,rfl,hq,fx,fs,q⟩:=h
 cases ry
 rcases hq with hq | hq
 ·obtain ⟨its,r,pl,hz⟩:=I.list hq
  refine SeqAt.in_listAt (tj x) pl.isList (fun w hw=>sv rx fx r fs w (by simpa using hw)) ⟨.bl _,H,I,rfl,?_⟩
  rw [show its.toArray.any (tj x)=its.any (tj x) by simp,uC r fs]
  exact q
 ·obtain ⟨its,r,pl,hz⟩:=I.tuple hq
  refine SeqAt.in_tupleAt (tj x) pl (fun w hw=>sv rx fx r fs w (by simpa using hw)) ⟨.bl _,H,I,rfl,?_⟩
  rw [show its.toArray.any (tj x)=its.any (tj x) by simp,uC r fs]
  exact q
theorem qw:dH X (.builtin "len") (fun xs H Q=>bE fun p ys=>xs=[.ref p]∧(ah X.K H p ys∨aa X.K H p ys)∧Q (.int ys.length) H):=by
 intro pins s σ H xs us Q I r h
 obtain ⟨p,ys,rfl,hq,q⟩:=h
 obtain ⟨u,rfl,rx⟩:=qI r
 cases rx
 have hn:=pK
 rcases hq with hq | hq
 ·obtain ⟨its,r',pl,hz⟩:=I.list hq
  have hlen:=r'.length
  exact Calls.call_len_list pl.isList (by simp only [List.size_toArray] <;> trivial) ⟨.int ys.length,H,I.tok _,⟨s.toks+1,by rw [List.size_toArray,hlen]⟩,q⟩
 ·obtain ⟨its,r',pl,hz⟩:=I.tuple hq
  have hlen:=r'.length
  exact len_tuple pl (by simp only [List.size_toArray] <;> trivial) ⟨.int ys.length,H,I.tok _,⟨s.toks+1,by rw [List.size_toArray,hlen]⟩,q⟩
theorem wG:dH X (.type "list") (fun xs H Q=>bE fun p ys=>xs=[.ref p]∧(ah X.K H p ys∨aa X.K H p ys)∧∀l,H l=none→Q (.ref l) (aG H l (.lst ys))):=by
 intro pins s σ H xs us Q I r h
 obtain ⟨p,ys,rfl,hq,q⟩:=h
 obtain ⟨u,rfl,rx⟩:=qI r
 cases rx
 have fin:∀(its:List Value),aH ys its→ys.length≤sizeLine→∀(h':Heap) (c':Nat),(∀b o',s.heap.get? b=some o'→h'.get? b=some o')→
  h'.get? s.heap.objs.size=some { cls:=.type "list",dict:=none,data:=.seq its.toArray c',slots:=#[] }→EP X pins σ Q (.ref s.heap.objs.size) { s with heap:=h' }:=fun its r' hz h' c' kp e=>
  ⟨.ref s.heap.objs.size,_,I.laid (t':=s.toks) kp (Nat.le_refl _) (show bD X.prog X.w _ h' _ (.lst ys) from ⟨hz,its,c',r',e⟩),rfl,q _ (I.hok.fresh (Nat.le_refl _))⟩
 rcases hq with hq | hq
 ·obtain ⟨its,r',pl,hz⟩:=I.list hq
  have hlen:=r'.length
  obtain ⟨o,ho,hc,n,hd⟩:=pl.isList
  exact call_list_seq p (.inl rfl) ho hc hd (fun h' c' kp e=>fin its r' hz h' c' kp e) (by simp only [List.size_toArray] <;> trivial)
 ·obtain ⟨its,r',pl,hz⟩:=I.tuple hq
  have hlen:=r'.length
  obtain ⟨o,ho,hc,n,hd⟩:=pl
  exact call_list_seq p (.inr rfl) ho hc hd (fun h' c' kp e=>fin its r' hz h' c' kp e) (by simp only [List.size_toArray] <;> trivial)
theorem vD:dH X (.type "tuple") (fun xs H Q=>bE fun p ys=>xs=[.ref p]∧((ah X.K H p ys∧∀l,H l=none→Q (.ref l) (aG H l (.tup ys)))∨(aa X.K H p ys∧Q (.ref p) H))):=by
 intro pins s σ H xs us Q I r h
 obtain ⟨p,ys,rfl,h⟩:=h
 obtain ⟨u,rfl,rx⟩:=qI r
 cases rx
 rcases h with ⟨hq,q⟩ | ⟨hq,q⟩
 ·obtain ⟨its,r',pl,hz⟩:=I.list hq
  have hlen:=r'.length
  refine call_tuple_list pl.isList (fun h' kp=>?_) (by simp only [List.size_toArray] <;> trivial)
  have I1:ag X pins σ H { s with heap:=h' }:=I.kept (t':=s.toks) kp
  have I2:ag X pins σ (aG H h'.objs.size (.tup ys)) { s with heap:=h'.push { cls:=.type "tuple",data:=.seq its.toArray } }:=
   I1.laid (t':=s.toks) (fun b o e=>Heap.get?_push_of_some _ e) (Nat.le_refl _) (show bD X.prog X.w _ _ _ (.tup ys) from ⟨hz,its,r',IsTup.new _ _,_,Heap.get?_push_size _ rfl,rfl⟩)
  exact ⟨.ref h'.objs.size,_,I2,rfl,q _ (I1.hok.fresh (Nat.le_refl _))⟩
 ·obtain ⟨its,r',pl,hz⟩:=I.tuple hq
  exact call_tuple_same pl ⟨.ref p,H,I,rfl,q⟩
def DL (K:PySem.W.Frag) (T:String) (x:V) (H:Hp):Prop:=match x with
 | .str _=>T = "str"
 | .int _=>T = "int"
 | .ref p=>(T = "list"∧∃xs,ah K H p xs)∨(T = "tuple"∧∃o,K.lookup p=some o∧o.cls=.type "tuple"∧o.dict=none)∨
  (T = "dict"∧((∃kvs,H p=some (.dK kvs))∨∃kvs,H p=some (.dT kvs)))∨(T = "set"∧bE fun S n=>H p=some (.set S n))
 | _=>False
theorem zv {pins:List (Addr×Obj)}{σ:St}{H:Hp}{s:Shared}{T:String}{x:V}{v:Value} (I:ag X pins σ H s) (r:aT x v) (ty:DL X.K T x H) :
 s.TypeIs v T∧∀a,v=.ref a→∃ob,s.heap.get? a=some ob∧ob.dict=none:=by
 cases x with
 | str z=>
  obtain ⟨t,rfl⟩:=r
  cases (show T = "str" from ty)
  exact ⟨typeIs_str s z t,fun _ e=>nomatch e⟩
 | int i=>
  obtain ⟨t,rfl⟩:=r
  cases (show T = "int" from ty)
  exact ⟨typeIs_int s i t,fun _ e=>nomatch e⟩
 | ref p=>
  cases r
  rcases ty with ⟨rfl,xs,hq⟩ | ⟨rfl,o,hk,hc,hd⟩ | ⟨rfl,hk⟩ | ⟨rfl,S,n,hk⟩
  ·obtain ⟨its,_,pl,_⟩:=I.list hq
   refine ⟨pl.isList.typeIs,fun a e=>?_⟩
   cases e
   obtain ⟨o,n,e,c,hd,_⟩:=pl
   exact ⟨o,e,hd⟩
  ·refine ⟨⟨o,I.kIn p o hk,hc⟩,fun a e=>?_⟩
   cases e
   exact ⟨o,I.kIn _ o hk,hd⟩
  ·have z:∃o,s.heap.get? p=some o∧o.ExactDict:=by
    rcases hk with ⟨kvs,hk⟩ | ⟨kvs,hk⟩
    ·obtain ⟨_,_,_,_,o,_,_,e,ex,_⟩:=I.hok p _ hk
     exact ⟨o,e,ex⟩
    ·obtain ⟨_,_,_,_,o,_,_,e,ex,_⟩:=I.hok p _ hk
     exact ⟨o,e,ex⟩
   obtain ⟨o,e,ex⟩:=z
   refine ⟨⟨o,e,ex.1⟩,fun a e2=>?_⟩
   cases e2
   exact ⟨o,e,ex.2.1⟩
  ·obtain ⟨o,_,_,_,e,ex,_⟩:=I.hok p _ hk
   refine ⟨⟨o,e,ex.1⟩,fun a e2=>?_⟩
   cases e2
   exact ⟨o,e,ex.2.1⟩
 | _=>exact False.elim ty
def GK (K:PySem.W.Frag) (T:String) (r:V→List V→Hp→VK→Prop) (to:TE):TE:=fun σ H Q=>to σ H fun x H1=>DL K T x H1∧r x [] H1 Q
def Gz (K:PySem.W.Frag) (T:String) (r:V→List V→Hp→VK→Prop) (to:TE) (t:TA):TE:=fun σ H Q=>to σ H fun x H1=>DL K T x H1∧t σ H1 fun xs H2=>r x xs H2 Q
variable {o e:Expr}{es:List Expr}{to:TE}{t:TA}{name:Str}{apos cpos:Pos}{T id:String}{r:V→List V→Hp→VK→Prop}
theorem DX (pa:PlainAttrs T) (slot:Slot T name id) (hty:typeOf (.builtin id)=pure (.type "method_descriptor")) (hm:xn X id r) (ho:PE X o to)
 (hbase:attributeBase o name X.env (eval o X.env)=eval o X.env:=by rfl) (hline:(apos.endLine==cpos.line)=true:=by rfl):PE X (.Call (.Attribute o name apos) [] [] cpos) (GK X.K T r to):=by
 intro pins s σ H Q I h
 refine wpAny_Call_method0_late hbase hline (aK (ho pins s σ H _ I h) fun v s1 ⟨x,H1,I1,r1,ty,q1⟩=>?_)
 obtain ⟨h1,h2⟩:=zv I1 r1 ty
 exact ⟨T,id,pa,slot,hty,h1,h2,Calls.callWith_builtin rfl (PySem.evalArgs_none (hm pins s1 σ H1 x [] v [] Q I1 r1 .nil q1))⟩
theorem Go (pa:PlainAttrs T) (slot:Slot T name id) (hty:typeOf (.builtin id)=pure (.type "method_descriptor")) (hm:xn X id r) (ho:PE X o to) (ha:PA X (e :: es) t)
 (hbase:attributeBase o name X.env (eval o X.env)=eval o X.env:=by rfl)
 (hfew:((backTo cpos (starEach (e :: es) X.env)).all (fun x=>!x.1) && (backToKw cpos (keywordEach [] X.env)).all (fun x=>x.1.isSome)
  && decide ((e :: es).length+([]:List Keyword).length+(if ([]:List Keyword).isEmpty then 0 else 1)<30))=true:=by rfl)
 (hline:(apos.endLine==cpos.line)=true:=by rfl) (hs:starEach (e :: es) X.env=(false,eval e X.env) :: starEach es X.env:=by rfl) (hplain:(backTo cpos (starEach es X.env)).any (·.1)=false:=by rfl) :
 PE X (.Call (.Attribute o name apos) (e :: es) [] cpos) (Gz X.K T r to t):=by
 intro pins s σ H Q I h
 refine wpAny_Call_method_late hbase hfew hline rfl (aK (ho pins s σ H _ I h) fun v s1 ⟨x,H1,I1,r1,ty,q1⟩=>?_)
 obtain ⟨h1,h2⟩:=zv I1 r1 ty
 refine ⟨T,id,pa,slot,hty,h1,h2,?_⟩
 have hA:=ha cpos pins s1 σ H1 _ I1 q1
 rw [hs] at hA ⊢
 refine Calls.callWith_builtin (by show (false || (backTo cpos (starEach es X.env)).any (·.1))=false;rw [hplain] <;> rfl) (Calls.evalArgs_plain ?_)
 exact aK hA fun us s2 ⟨vs,H2,I2,r2,q2⟩=>hm pins s2 σ H2 x vs v us Q I2 r1 r2 q2
/- xs.append(e), list.index on a module's tuple .. are xn facts of 06m -/
end
end L2
namespace L2
open PySem PySem.Spec PyProof.Rows
def vN (X:Cx) (id:String) (r:V→List V→Hp→VK→Prop):Prop:=
 ∀(pins:List (Addr×Obj)) (s:Shared) (σ:St) (H:Hp) (x:V) (xs:List V) (v:Value) (us:List Value) (Q:VK),ag X pins σ H s→aT x v→aH xs us→r x xs H Q→
   wpAny (model X.prog X.w) X.A (call (.builtin id) (v :: us)) (EP X pins σ Q) X.xe s
theorem Paired.un {α β:Type}{R:α→β→Prop}{x:α}{xs:List α}{us:List β} (h:Paired R (x :: xs) us):bE fun u vs=>us=u :: vs∧R x u∧Paired R xs vs:=by
 cases h with
 | cons r q=>exact ⟨_,_,rfl,r,q⟩
theorem Paired.un0 {α β:Type}{R:α→β→Prop}{us:List β} (h:Paired R [] us):us=[]:=by
 cases h with
 | nil=>rfl
theorem aH.one {x:V}{us:List Value} (h:aH [x] us):∃u,us=[u]∧aT x u:=by
 obtain ⟨u,vs,rfl,r,q⟩:=Paired.un h
 rw [Paired.un0 q]
 exact ⟨u,rfl,r⟩
theorem aH.two {x y:V}{us:List Value} (h:aH [x,y] us):bE fun u v=>us=[u,v]∧aT x u∧aT y v:=by
 obtain ⟨u,vs,rfl,r,q⟩:=Paired.un h
 obtain ⟨v,rfl,q2⟩:=aH.one q
 exact ⟨u,v,rfl,r,q2⟩
theorem aH.eraseIdx:∀{xs:List V}{us:List Value} (i:Nat),aH xs us→aH (xs.eraseIdx i) (us.eraseIdx i)
 | _,_,_,.nil=>.nil
 | _,_,0,.cons _ t=>t
 | _,_,i+1,.cons r t=>.cons r (aH.eraseIdx i t)
theorem u4 {α:Type}:∀(l:List α) (i:Nat),(l.eraseIdx i).length≤l.length
 | [],_=>Nat.le_refl _
 | _ :: _,0=>Nat.le_succ _
 | _ :: r,i+1=>Nat.succ_le_succ (u4 r i)
section
variable {X:Cx}{pins:List (Addr×Obj)}{σ:St}{H:Hp}{s:Shared}{l b:Addr}{xs ys zs:List V}
theorem ag.lset {its its':List Value}{n:Nat}{f:Array Value→Array Value}{t':Nat} (I:ag X pins σ H s) (hH:H l=some (.lst xs))
 (e:s.heap.get? l=some { cls:=.type "list",data:=.seq its.toArray n }) (hf:f its.toArray=its'.toArray) (hv:aH ys its') (hz:ys.length≤sizeLine) :
 ag X pins σ (aG H l (.lst ys)) { s with heap:=s.heap.update l (Obj.mapSeq f),toks:=t' }:=by
 have q:=PySem.IsL.update e f
 rw [hf] at q
 refine I.write (x:=l) (e:=l) (by rw [hH];exact trivial) (.inl rfl) (fun b' u hb hu=>(Heap.get?_update_other s.heap (Obj.mapSeq f) (Ne.symm hb)).trans hu) ⟨_,q⟩ ?_
 exact ⟨hz,its',_,hv,q⟩
theorem ag.lnew {its:List Value}{t':Nat} (I:ag X pins σ H s) (hv:aH ys its) (hz:ys.length≤sizeLine) :
 ag X pins σ (aG H s.heap.objs.size (.lst ys)) { s with heap:=s.heap.push { cls:=.type "list",data:=.seq its.toArray },toks:=t' }:=
 I.laid (fun _ _ q=>Heap.get?_push_of_some _ q) (Nat.le_refl _) ⟨hz,its,0,hv,Heap.get?_push_size _ rfl⟩
theorem ag.fresh (I:ag X pins σ H s):H s.heap.objs.size=none:=I.hok.fresh (Nat.le_refl _)
theorem ag.lstM (I:ag X pins σ H s) (hH:H l=some (.lst xs)):xs.length≤sizeLine∧bE fun (its:List Value) (n:Nat)=>aH xs its∧xs.length=its.length∧s.heap.get? l=some { cls:=.type "list",data:=.seq its.toArray n }:=by
 obtain ⟨z,its,n,r,e⟩:=I.hok l _ hH
 exact ⟨z,its,n,r,r.length,e⟩
theorem Af {n:Nat} (h:n≤sizeLine):Builtin.List.listTooLong n=false:=by
 unfold Builtin.List.listTooLong
 exact decide_eq_false (by trivial)
end
section
variable {X:Cx}
inductive Ae (x:V) (vs:List V) (H:Hp) (Q:VK):Prop
 | mk (l:_) (xs:_) (y:_) (h0:x=.ref l) (h1:vs=[y]) (h2:H l=some (.lst xs)) (h3:xs.length<sizeLine) (h4:Q .non (aG H l (.lst (xs++[y]))))
def CH:V→List V→Hp→VK→Prop:=fun x vs H Q=>Ae  x vs H Q
theorem p8:vN X "list.append" CH:=by
 intro pins s σ H x vs v us Q I rx rv h
 obtain ⟨l,xs,y,rfl,rfl,hH,hz,q⟩:=h
 cases rx
 obtain ⟨u,rfl,ru⟩:=rv.one
 obtain ⟨z,its,n,r,hl,e⟩:=I.lstM hH
 refine call_meets F.slot_list_append ⟨_,e,rfl⟩ F.entry_list_append (F.args_list_append_2 _ _) (PySem.list_append l its.toArray n u (by rw [List.size_toArray];trivial)) ⟨e,?_⟩
 refine ⟨.non,_,I.lset (its':=its++[u]) hH e (by simp) (r.append (.cons ru .nil)) ?_,rfl,q⟩
 rw [List.length_append,List.length_singleton]
 trivial
inductive Ab (x:V) (vs:List V) (H:Hp) (Q:VK):Prop
 | mk (l:_) (b:_) (xs:_) (zs:_) (h0:x=.ref l) (h1:vs=[.ref b]) (h2:H l=some (.lst xs)) (h3:H b=some (.lst zs)) (h4:xs.length+zs.length≤sizeLine) (h5:Q .non (aG H l (.lst (xs++zs))))
def Cz:V→List V→Hp→VK→Prop:=fun x vs H Q=>Ab  x vs H Q
theorem yR:vN X "list.extend" Cz:=by
 intro pins s σ H x vs v us Q I rx rv h
 obtain ⟨l,b,xs,zs,rfl,rfl,hH,hB,hz,q⟩:=h
 cases rx
 obtain ⟨u,rfl,ru⟩:=rv.one
 cases ru
 obtain ⟨z,its,n,r,hl,e⟩:=I.lstM hH
 obtain ⟨z2,its2,n2,r2,hl2,e2⟩:=I.lstM hB
 have hsz:its.toArray.size+its2.toArray.size≤sizeLine:=by rw [List.size_toArray,List.size_toArray];trivial
 have hlong:¬(!its.toArray.isEmpty && Builtin.List.listTooLong (its.toArray.size+its2.toArray.size))=true:=by
  rw [Af hsz,Bool.and_false]
  exact Bool.false_ne_true
 refine call_meets F.slot_list_extend ⟨_,e,rfl⟩ F.entry_list_extend (F.args_list_extend_2 _ _)
  (AutoSeq1.list_extend_list_list_0 l its.toArray n b its2.toArray n2 hlong (by rw [List.size_toArray];trivial) (by trivial)) ⟨e,e2,?_⟩
 refine ⟨.non,_,I.lset (its':=its++its2) hH e (by simp) (r.append r2) ?_,rfl,q⟩
 rw [List.length_append]
 trivial
inductive Cj (x:V) (vs:List V) (H:Hp) (Q:VK):Prop
 | mk (l:_) (xs:_) (i:_) (k:_) (y:_) (h0:x=.ref l) (h1:vs=[.int i]) (h2:H l=some (.lst xs)) (h3:-(2 ^ 63)≤i) (h4:i<2 ^ 63) (h5:seqIndex? i xs.length=some k) (h6:xs[k]?=some y) (h7:Q y (aG H l (.lst (xs.eraseIdx k))))
def Eu:V→List V→Hp→VK→Prop:=fun x vs H Q=>Cj  x vs H Q
theorem AI:vN X "list.pop" Eu:=by
 intro pins s σ H x vs v us Q I rx rv h
 obtain ⟨l,xs,i,k,y,rfl,rfl,hH,h1,h2,hk,hy,q⟩:=h
 cases rx
 obtain ⟨u,rfl,ru⟩:=rv.one
 obtain ⟨t,rfl⟩:=ru
 obtain ⟨z,its,n,r,hl,e⟩:=I.lstM hH
 obtain ⟨w,hw,rw'⟩:=r.get hy
 refine call_meets F.slot_list_pop ⟨_,e,rfl⟩ F.entry_list_pop (F.args_list_pop_2 _ _)
  (MeetsSeq.list_pop_at l its.toArray n i t k w (fitsIndex_both h1 h2) (by rw [List.size_toArray,←hl];exact hk) (by rw [←Array.getElem?_toList];exact hw) (by rw [List.size_toArray];trivial)) ⟨e,?_⟩
 refine ⟨y,_,I.lset (its':=its.eraseIdx k) hH e ?_ (r.eraseIdx k) ?_,rw',q⟩
 ·show its.toArray.eraseIdxIfInBounds k=(its.eraseIdx k).toArray
  rw [List.eraseIdxIfInBounds_toArray]
 ·have:=u4 xs k
  trivial
inductive F3 (x:V) (y:V) (H:Hp) (Q:VK):Prop
 | mk (l:_) (b:_) (xs:_) (zs:_) (h0:x=.ref l) (h1:y=.ref b) (h2:H l=some (.lst xs)) (h3:H b=some (.lst zs)) (h4:xs.length+zs.length≤sizeLine) (h5:∀p,H p=none→Q (.ref p) (aG H p (.lst (xs++zs))))
def GR:R2:=fun x y H Q=>F3  x y H Q
theorem Dk:de X (binaryOp .Add) GR:=by
 intro pins s σ H x y v u Q I rx ry h
 obtain ⟨l,b,xs,zs,rfl,rfl,hH,hB,hz,q⟩:=h
 cases rx
 cases ry
 obtain ⟨z,its,n,r,hl,e⟩:=I.lstM hH
 obtain ⟨z2,its2,n2,r2,hl2,e2⟩:=I.lstM hB
 refine PySem.P.add_list e e2 ?_ (by rw [List.size_toArray,List.size_toArray];trivial)
 have ea:its.toArray++its2.toArray=(its++its2).toArray:=by simp
 rw [ea]
 exact ⟨.ref _,_,I.lnew (t':=s.toks) (r.append r2) (by rw [List.length_append];trivial),rfl,q _ I.fresh⟩
theorem BU {α:Type} (xs:List α) (k:Nat):(List.replicate k xs).flatten.length=k*xs.length:=by
 induction k with
 | zero=>simp
 | succ k ih=>rw [List.replicate_succ,List.flatten_cons,List.length_append,ih,Nat.succ_mul,Nat.add_comm]
end
section
variable {prog:Program}{w:World}{A:Around}{E:Value→Shared→Prop}{s:Shared}
set_option maxRecDepth 100000 in
end
section
variable {X:Cx}
end
end L2
namespace Att
open PySem PySem.W PySem.Calls PyProof.Rows
theorem tu {P:Params}{h:Heap}:∀(ns:List Int) (vs:List Value),WellAll P h vs (ns.map WData.int)→IntsAre vs ns:=by
 intro ns
 induction ns with
 | nil=>
  intro vs w
  rw [List.map_nil] at w
  cases w
  exact .nil
 | cons n ns ih=>
  intro vs w
  rw [List.map_cons] at w
  cases w with
  | cons a b=>
   cases a
   exact .cons _ _ (ih _ b)
theorem zJ {l:OpenLaw}{n:Nat} (hn:l.most=some n) {P:Params}{h:Heap}{args:List WData}{vals:List Value}
 (hpre:l.row.toRowW.claim.pre args=true) (hwl:WellAll P h vals args) :
 ∃a vs ns,vals=[Value.ref a]∧args=[WData.list (ns.map WData.int)]∧h.get? a=some { cls:=.type "list",data:=.seq vs.toArray }∧IntsAre vs ns∧ns.length≤n:=by
 have hsh:WShape.hasAll [] args [.list .int]=true:=(pre_splitW hpre).1
 have hc:l.pre.holds [] { args:=args }=true:=(pre_splitW hpre).2
 obtain ⟨d,r,rfl,h1,h2⟩:=hasAllW_cons hsh
 obtain rfl:=hasAllW_nil h2
 obtain ⟨xs,rfl,h3⟩:=hasW_list h1
 obtain ⟨ns,rfl⟩:=items_int h3
 have hlen:ns.length≤n:=by
  unfold OpenLaw.pre at hc
  have h4:(WTm.not (.lt (.lit (.int (n:Int))) (.len (.arg 0)))).holds [] { args:=[.list (ns.map .int)] }=true:=by
   have h4:=(holds_andW hc).1
   rw [hn] at h4
   exact h4
  have h5:=condW_of h4 (w_not (w_lt w_lit (w_len_list (w_arg rfl))))
  rw [List.length_map] at h5
  refine Nat.le_of_not_lt fun q=>?_
  have q':(n:Int)<((ns.length:Nat):Int):=by trivial
  first
   | (rw [decide_eq_true q'] at h5;exact absurd h5 (by decide))
   | (simp at h5;trivial)
 cases hwl with
 | cons w1 w2=>
  cases w2
  cases w1 with
  | list ho hall=>exact ⟨_,_,ns,rfl,rfl,ho,tu ns _ hall,hlen⟩
theorem zL (l:OpenLaw) (args:List WData):l.row.toRowW.claim.post args (.bool true) args=true:=
 postW_of (r:=l.row.toRowW) (X:=(true==true))
  (show WShape.has [] (.bool true) .bool=true by first | rfl | decide | simp [WShape.has,WShape.arms,WShape.armsAll])
  (show (WTm.eq .res (.lit (.bool true))).value [] { args:=args,res:=some (.bool true),after:=args }=some (.bool (true==true)) from w_eq_bool (w_res rfl) w_lit) rfl
theorem attach_call {l:OpenLaw}{n:Nat}{q:Program}{loose:List Str}{XP:(Str→Option Value)→Heap→Prop}{YP:World→Heap→Prop}{d:DefRec}
 (hn:l.most=some n) (hdf:d.params.defaults=[])
 (call:∀(w:World) (s₀ s₁:Shared) (mg mb:Str→Option Value) (fa:Addr) (o:Obj) (pm cd doc:Value) (a:Addr) (vs:List Value) (ns:List Int),
  Ground q loose [] XP w s₀ mg mb s₁.heap→YP w s₁.heap→
  s₁.heap.get? fa=some o→o.data=.func (docDef d.name d.params d.body d.scope pm cd doc)→s₁.heap.CodeRec cd d.name→mg d.name=some (.ref fa)→
  s₁.heap.get? a=some { cls:=.type "list",data:=.seq vs.toArray }→IntsAre vs ns→ns.length≤n→s₁.gens=#[]→
  codeAny (model l.prog w) callerA (.call (.ref fa) ⟨[.ref a],[]⟩) (fun r s'=>r=.ok (.ret (.bool true))∧OldK s₁.heap s'.heap∧s'.os=s₁.os∧AllBare s'.gens) s₁) :
 WalkO q loose XP YP l.row.toRowW d [] (fun f vs=>PySem.call f vs):=by
 intro w s₀ s₁ mg mb G Y fa o pm cd doc dV kV ho hd hcd hD hmg hg args vals as hpre hlay hrd hwl hlo
 obtain rfl:dV=.none:=Dflts.none hD hdf
 obtain rfl:kV=.none:=Dflts.noKw hD
 obtain ⟨a,vs,ns,rfl,rfl,hobj,hints,hlen⟩:=zJ hn hpre hwl
 refine enter_call (codeAny_mono (call w s₀ s₁ mg mb fa o pm cd doc a vs ns G Y ho (fd_plain hd) hcd hmg hobj hints hlen hg) fun r s' hq=>?_)
 obtain ⟨rfl,h2,h3,h4⟩:=hq
 exact ⟨.inl ⟨.bool true,.bool true,[],rfl,fun _=>rfl,.bool true,zL l _,fun _=>⟨List.Pairwise.nil,fun _ hm=>(nomatch hm)⟩⟩,h2,h3,h4⟩
section
variable {prog:Program}{w:World}{A:Around}{E:Value→Shared→Prop}{s:Shared}{K:Frag}
end
end Att
namespace L2
open PySem PySem.Spec PyProof.Rows
theorem vg:∀{vs:List Value}{ns:List Int},IntsAre vs ns→aH (ns.map V.int) vs
 | _,_,.nil=>.nil
 | _,_,.cons n t h=>.cons ⟨t,rfl⟩ (vg h)
def tR (H:Hp):Prop:=∀b,H b=none∨bE fun o xs=>H b=some (.frz o (.lst xs))
theorem Ag {P:Program}{w:World}{K:PySem.W.Frag}{mg mb:Str→Option Value}{CX:lI}{k:Nat}{fa a:Addr}{fd:FuncData}{x:Str}{sp:Sp}{s₁:Shared}{vs:List Value}{ns:List Int}
 (KX:K.In s₁.heap) (hns:s₁.heap.Ns mainGlobals mg) (hb:s₁.heap.Ns builtinsNs mb) (hbb:∀x:Str,x≠"__name__"→mb x=bootBuiltins x) (hlim:s₁.heap.NoLimit) (hg:s₁.gens=#[])
 (ha:s₁.heap.get? a=some { cls:=.type "list",data:=.seq vs.toArray }) (hi:IntsAre vs ns) (hl:ns.length≤sizeLine) (hr:d7 k callerA)
 (F:∀base:Heap,K.In base→base.Ns mainGlobals mg→aY P w K mg base CX k fa fd [x] sp) (hbind:∀(s:Shared) (u:Value),BindsTo s fd ⟨[u],[]⟩ [(x,u)])
 (hsp:∀H:Hp,tR H→ah K H a (ns.map V.int)→sp [.ref a] H (fun v _=>v=.bl true) fun _ _ _=>False)
 (hCX:∀H e s',CX [] H s₁ (fun _ _ _=>False) e s'→False) :
 codeAny (model P w) callerA (.call (.ref fa) ⟨[.ref a],[]⟩) (fun r s'=>r=.ok (.ret (.bool true))∧OldK s₁.heap s'.heap∧s'.os=s₁.os∧AllBare s'.gens) s₁:=by
 have rv:=vg hi
 have lenV:=hi.length
 have core:∀H:Hp,tR H→ah K H a (ns.map V.int)→dZ P w H s₁.heap→(∀b,H b≠none→b=a)→(H a≠none→K.lookup a=none)→
  codeAny (model P w) callerA (.call (.ref fa) ⟨[.ref a],[]⟩) (fun r s'=>r=.ok (.ret (.bool true))∧OldK s₁.heap s'.heap∧s'.os=s₁.os∧AllBare s'.gens) s₁:=by
  intro H hO hS hok hA hK
  have base_of:∀{b:Addr}{o:Obj},s₁.heap.get? b=some o→H b=none→(nY s₁.heap H).get? b=some o:=fun e n=>Aj e n
  have noA:∀{b:Addr}{o:Obj}{es:Array DictEntry}{ep:Nat},s₁.heap.get? b=some o→o.data=.dict es ep→H b=none:=fun {b o es ep} e d=>by
   cases q:H b with
   | none=>rfl
   | some u=>
    have e':b=a:=hA b (by rw [q];simp)
    subst e'
    rw [ha] at e;cases e
    have d':Data.seq vs.toArray _=Data.dict es ep:=d
    cases d'
  have nsK:∀{b:Addr}{m:Str→Option Value},s₁.heap.Ns b m→(nY s₁.heap H).Ns b m:=fun {b m} ⟨o,es,ep,e,d,r⟩=>⟨o,es,ep,base_of e (noA e d),d,r⟩
  have hKb:K.In (nY s₁.heap H):=fun b o e=>base_of (KX b o e) (by
   cases q:H b with
   | none=>rfl
   | some u=>
    have e':b=a:=hA b (by rw [q];simp)
    subst e'
    rw [hK (by rw [q];simp)] at e;cases e)
  have hM:Mod K mg (nY s₁.heap H):=⟨hKb,nsK hns,⟨mb,nsK hb,hbb⟩,let ⟨mc,h1,h2⟩:=hlim;⟨mc,nsK h1,h2⟩⟩
  have e0:yd P w K mg (nY s₁.heap H) callerA [] s₁ H:=⟨rfl,hM,fun b o e=>BF e,Nat.le_of_eq (zx _ _),trivial,fun b hb=>absurd (show b∈([]:List Addr) from hb) (by simp),hok,.of_eq hg⟩
  refine codeAny_mono ((F _ hKb (nsK hns)).run callerA [] s₁ H ⟨[.ref a],[]⟩ [.ref a] [.ref a] _ _ hr e0 (hbind s₁ (.ref a)) (.cons rfl .nil) (hsp H hO hS)) fun r s' h=>?_
  cases r with
  | error e=>exact (hCX H e s' h).elim
  | ok fl=>
   cases fl with
   | next=>exact False.elim h
   | brk=>exact False.elim h
   | cont=>exact False.elim h
   | ret u=>
    obtain ⟨v,H',os,bare,un,hok',r',q⟩:=h
    have q':v=.bl true:=q
    subst q'
    obtain rfl:u=Value.bool true:=r'
    refine ⟨rfl,OldK.of_keep fun b o e=>?_,os,bare⟩
    cases q:H b with
    | none=>exact un.keep b o e q (by intro z;exact absurd (show b∈([]:List Addr) from z) (by simp)) (by simp)
    | some u=>
     rcases hO b with z | ⟨ob,xs,z⟩
     ·rw [q] at z;cases z
     ·have z2:=un.frzs b ob _ z
      obtain ⟨e1,_⟩:=hok b _ z
      obtain ⟨e2,_⟩:=hok' b _ z2
      rw [e] at e1;cases e1
      exact e2
 cases hk:K.lookup a with
 | some o=>
  have e:=KX a o hk
  rw [ha] at e
  cases e
  refine core (fun _=>none) (fun _=>.inl rfl) (.inr ⟨_,vs.toArray,_,hk,rfl,rfl,rfl,by rw [List.size_toArray,lenV];exact hl,by simpa using rv⟩) (fun b u z=>by have z':(none:Option HO)=some u:=z;cases z') (fun b z=>absurd rfl z) fun z=>absurd rfl z
 | none=>
  refine core (fun b=>if b=a then some (.frz { cls:=.type "list",data:=.seq vs.toArray } (.lst (ns.map V.int))) else none) (fun b=>?_) (.inl (.inr ⟨{ cls:=.type "list",data:=.seq vs.toArray },if_pos rfl⟩)) (fun b u z=>?_) (fun b z=>?_) fun _=>hk
  ·by_cases hb:b=a
   ·exact .inr ⟨_,_,if_pos hb⟩
   ·exact .inl (if_neg hb)
  ·by_cases hb:b=a
   ·have z':=(if_pos hb).symm.trans z
    cases z'
    subst hb
    exact ⟨ha,by rw [List.length_map];exact hl,vs,_,rv,ha⟩
   ·have z':=(if_neg hb).symm.trans z
    cases z'
  ·by_cases hb:b=a
   ·exact hb
   ·exact absurd (if_neg hb) z
theorem walk_of {l:PySem.W.OpenLaw}{n k:Nat}{q:Program}{loose:List Str}{XP:(Str→Option Value)→Heap→Prop}{YP:World→Heap→Prop}{d:DefRec}{K:Params→PySem.W.Frag}{CX:World→lI}{sp:World→Sp}{x:Str}
 (hn:l.most=some n) (hn2:n≤sizeLine) (hdf:d.params.defaults=[]) (hr:d7 k callerA)
 (hY:∀(w:World) (h:Heap),YP w h→(K w.params).In h)
 (F:∀(w:World) (mg:Str→Option Value) (fa:Addr) (h:Heap),(K w.params).In h→h.Ns mainGlobals mg→mg d.name=some (.ref fa)→
  ∃fd:FuncData,(∀(s:Shared) (u:Value),BindsTo s fd ⟨[u],[]⟩ [(x,u)])∧
   ∀base:Heap,(K w.params).In base→base.Ns mainGlobals mg→aY l.prog w (K w.params) mg base (CX w) k fa fd [x] (sp w))
 (hsp:∀(w:World) (H:Hp) (a:Addr) (ns:List Int),ns.length≤n→tR H→ah (K w.params) H a (ns.map V.int)→sp w [.ref a] H (fun v _=>v=.bl true) fun _ _ _=>False)
 (hCX:∀(w:World) (H:Hp) (s:Shared) (e:Value) (s':Shared),CX w [] H s (fun _ _ _=>False) e s'→False) :
 PySem.W.WalkO q loose XP YP l.row.toRowW d [] (fun f vs=>PySem.call f vs):=by
 refine Att.attach_call hn hdf fun w s₀ s₁ mg mb fa o pm cd doc a vs ns G Y ho hd hcd hmg hobj hints hlen hg=>?_
 have KX:=hY w _ Y
 obtain ⟨fd,hb,hF⟩:=F w mg fa _ KX G.T.g hmg
 exact Ag KX G.T.g G.T.b G.T.builtins G.T.nolimit hg hobj hints (Nat.le_trans hlen hn2) hr hF hb (fun H hO hS=>hsp w H a ns hlen hO hS) fun H e s'=>hCX w H s₁ e s'
theorem At {l:PySem.W.OpenLaw}{n k:Nat}{q:Program}{loose:List Str}{XP:(Str→Option Value)→Heap→Prop}{YP:World→Heap→Prop}{d:DefRec}{K:Params→PySem.W.Frag}{CX:lI}{sp:PySem.W.Frag→Sp}{x:Str}
 (hn:l.most=some n) (hn2:n≤sizeLine) (hdf:d.params.defaults=[]) (hr:d7 k callerA)
 (hY:∀(w:World) (h:Heap),YP w h→(K w.params).In h)
 (F:∀(w:World) (mg:Str→Option Value) (fa:Addr) (h:Heap),(K w.params).In h→h.Ns mainGlobals mg→mg d.name=some (.ref fa)→
  ∃fd:FuncData,(∀(s:Shared) (u:Value),BindsTo s fd ⟨[u],[]⟩ [(x,u)])∧
   ∀base:Heap,(K w.params).In base→base.Ns mainGlobals mg→aY l.prog w (K w.params) mg base CX k fa fd [x] (sp (K w.params)))
 (hsp:∀(K:PySem.W.Frag) (H:Hp) (a:Addr) (ns:List Int),ns.length≤n→tR H→ah K H a (ns.map V.int)→sp K [.ref a] H (fun v _=>v=.bl true) fun _ _ _=>False)
 (hCX:∀(H:Hp) (s:Shared) (e:Value) (s':Shared),CX [] H s (fun _ _ _=>False) e s'→False) :
 PySem.W.WalkO q loose XP YP l.row.toRowW d [] (fun f vs=>PySem.call f vs):=
 walk_of (K:=K) (CX:=fun _=>CX) (sp:=fun w=>sp (K w.params)) hn hn2 hdf hr hY F (fun w H a ns h1 h2 h3=>hsp (K w.params) H a ns h1 h2 h3) fun _ H s e s'=>hCX H s e s'
end L2
/- THE LAST THEOREM (shape; LID, My.* are yours):
 My.Adr: a structure of the addresses that your layer names (classes, functions); My.Txt K t: a structure (Prop) of the equations over K;
 My.txt_mk : {K} {implicit addresses ..} (e1 : nsIn K mainGlobals "law" = some (some (.ref f))) (e2 : K.lookup f = some ⟨oc, od, .func (fnOf "law" "law" params body scope dV kV doc pm an cdv ct), sl⟩) (e3 : codeIn K cdv "law" = true) .. : ∃ t, My.Txt K t
set_option maxRecDepth 100000 in
set_option maxHeartbeats 0 in
theorem PySem.Challenge.cw_LID_holds : PySem.Challenge.rw_LID.Holds := by
 w_on; o_law; k_head; (case hw => w_witness2)
 k_fill
 refine L2.walk_of (l := PySem.Challenge.rw_LID) (n := 63) (k := 40) (x := "script") (CX := fun w => ..) (sp := fun _ => My.sp_law) rfl (by decide) rfl ⟨rfl, by decide, by decide⟩ (fun w h Y => PySem.W.kIn_of Y) ?F ?S ?C
 case F =>
  intro w mg fa h KX G hmg
  have T : ∃ t, My.Txt (L2.KOf KX) t := by
   dsimp only [L2.KOf]                          -- K must stand as «<heap const> w.params» for k_is
   refine' My.txt_mk ?e1 ?e2 ?e3 ..
   (case e1 => PySem.W.k_is)                    -- in the order: a name -> its address -> its object -> its parts
   (case e2 => PySem.W.k_is)
   ..
  obtain ⟨t, T⟩ := T
  have e0 := hmg.symm.trans (PySem.W.mg_of KX G T.law)
  cases e0                                       -- fa is the law's own address
  exact ⟨_, fun s u => .of_eq rfl, fun base kb nb => My.law_fn T kb nb⟩     -- if «.of_eq rfl» comes too early: refine' ⟨_, ?b, fun base kb nb => My.law_fn T kb nb⟩; exact fun s u => .of_eq rfl
 case S => exact fun w H a ns hl hO hS => ..
 case C => exact ..
(the tactic k_is has no namespace: write k_is) -/
namespace L2
open PySem PySem.Spec PyProof.Rows
def ui (s:Stmt):Arguments:=match s with
 | .FunctionDef _ a _ _ _ _ _ _ _ _=>a
 | _=>{ posonlyargs:=[],args:=[],vararg:=none,kwonlyargs:=[],kw_defaults:=[],kwarg:=none,defaults:=[] }
def qA (s:Stmt):List Stmt:=match s with
 | .FunctionDef _ _ b _ _ _ _ _ _ _=>b
 | _=>[]
def av (s:Stmt):Scope:=match s with
 | .FunctionDef _ _ _ _ _ _ sc _ _ _=>sc
 | _=>{ kind:=.function,names:=[],isGenerator:=false,isCoroutine:=false }
abbrev CX0:lI:=fun _ _ _ _ _ _=>False
abbrev E0:XK:=fun _ _ _=>False
theorem s0 {X:Cx}:vT CX0 X E0:=fun _ _ _ _ _ _ _ h=>h.elim
structure wK (K:PySem.W.Frag) (x qual:Str) (st:Stmt) (f:Addr) (fd:FuncData):Prop where
 ex:HA fun (oc:Value) (od:Option Addr) (kV doc pm:Value) (an:Option Addr) (cdv ct:Value) (osl:Array (Option Value))=>
  fd=PySem.W.fnOf x qual (ui st) (qA st) (av st) .none kV doc pm an cdv ct∧K.lookup f=some ⟨oc,od,.func fd,osl⟩∧PySem.W.codeIn K cdv qual=true
 kp:PySem.W.keepIn K (.ref f)=true
section
variable {P:Program}{w:World}{K:PySem.W.Frag}{mg:Str→Option Value}{base:Heap}
theorem wK.ok {x qual:Str}{st:Stmt}{f:Addr}{fd:FuncData}{N ps:List Str}{k:Nat}{sp:Sp} (F:wK K x qual st f fd) (S:aE N ps (av st)) (len:∀vs H Q E,sp vs H Q E→vs.length=ps.length)
 (hbody:∀(cdv:Value) (A:Around) (outer:List Env) (s:Shared) (H:Hp) (vs:List V) (Q:VK) (E:XK),d7 k (A.deeper (envOfC qual (av st) s.heap.objs.size f cdv))→sp vs H Q E→
  ∃t,nj (tP CX0 P w K mg base N qual (av st) f cdv A outer s H E).nox (qA st) t∧t { nx:=fun _ H'=>Q .non H',rt:=Q } (ml N vs) H):aY P w K mg base CX0 (k+1) f fd ps sp:=by
 obtain ⟨oc,od,kV,doc,pm,an,cdv,ct,osl,rfl,lk,hcd⟩:=F.ex
 refine Fm lk hcd S len fun A outer s H vs Q E hr hsp=>?_
 obtain ⟨t,h,q⟩:=hbody cdv A outer s H vs Q E hr hsp
 exact ⟨t,h.nox,q⟩
theorem wK.binds {x qual:Str}{st:Stmt}{f:Addr}{fd:FuncData}{ps:List Str} (F:wK K x qual st f fd)
 (h:∀(kV doc pm:Value) (an:Option Addr) (cdv ct:Value) (us:List Value),us.length=ps.length→bindArgs (PySem.W.fnOf x qual (ui st) (qA st) (av st) .none kV doc pm an cdv ct) ⟨us,[]⟩=pure (ps.zip us)):qF K fd ps []:=by
 obtain ⟨oc,od,kV,doc,pm,an,cdv,ct,osl,rfl,lk,hcd⟩:=F.ex
 exact .all (h kV doc pm an cdv ct)
end
section
variable {X:Cx}
theorem pv (i:Nat) {x:Str}{pos:Pos} (hN:X.N[i]?=some x:=by rfl) (hv:Bu X.env.scope x:=by first | exact Or.inl rfl | exact Or.inr (Or.inl rfl) | exact Or.inr (Or.inr rfl)) (hd:(x==("__debug__" : Str))=false:=by decide)
 (hcd:(x==("__classdict__" : Str))=false:=by decide):PE X (.Name x pos) (AW i):=yG hN hv hd hcd
end
theorem ce {A B:Prop} (h:B):if false=true then A else B:=by
 rw [if_neg Bool.false_ne_true]
 exact h
theorem fg {A B:Prop} (h:A):if true=true then A else B:=by
 rw [if_pos rfl]
 exact h
theorem bZ {c A B:Prop} [Decidable c] (h1:c→A) (h2:¬c→B):if c then A else B:=by
 by_cases h:c
 ·rw [if_pos h]
  exact h1 h
 ·rw [if_neg h]
  exact h2 h
def ad (H H':Hp):Prop:=∀b o,H b=some o→H' b=some o
theorem ad.refl (H:Hp):ad H H:=fun _ _ h=>h
theorem ad.trans {H H1 H2:Hp} (a:ad H H1) (b:ad H1 H2):ad H H2:=fun c o h=>b c o (a c o h)
theorem ad.free {H H':Hp} (e:ad H H') {l:Addr} (h:H' l=Option.none):H l=Option.none:=by
 cases q:H l with
 | none=>rfl
 | some o=>
  rw [e l o q] at h
  cases h
theorem ad.seq {K:PySem.W.Frag}{H H':Hp}{a:Addr}{xs:List V} (e:ad H H') (h:ah K H a xs):ah K H' a xs:=by
 rcases h with (h | ⟨o,h⟩) | h
 ·exact .inl (.inl (e _ _ h))
 ·exact .inl (.inr ⟨o,e _ _ h⟩)
 ·exact .inr h
end L2
namespace L2
open PySem
theorem tX {scope:Scope}{env:Env} (h:∀y∈scope.names,y.2=.free→∃c,env.cells.lookup y.1=some c) :
 ∃cl,closureFor scope env=pure cl∧(∀x c,cl.lookup x=some c→env.cells.lookup x=some c)∧(∀y∈scope.names,y.2=.free→∃c,cl.lookup y.1=some c):=by
 have go:∀(names:List (Str×NameKind)) (acc:List (Str×Addr)),(∀y∈names,y.2=.free→∃c,env.cells.lookup y.1=some c)→(∀x c,acc.lookup x=some c→env.cells.lookup x=some c)→
  ∃cl,(forIn names acc (fun (x:Str×NameKind) (cs:List (Str×Addr))=>match x with
   | (name,kind)=>if (kind==.free)=true then (do let a ←cellOf env name;pure (ForInStep.yield ((name,a) :: cs))) else pure (ForInStep.yield cs)):Sem (List (Str×Addr)))=pure cl∧
   (∀x c,cl.lookup x=some c→env.cells.lookup x=some c)∧(∀y∈names,y.2=.free→∃c,cl.lookup y.1=some c)∧(∀x c,acc.lookup x=some c→∃c',cl.lookup x=some c'):=by
  intro names
  induction names with
  | nil=>intro acc _ ha;exact ⟨acc,rfl,ha,fun y hy=>(by cases hy),fun x c e=>⟨c,e⟩⟩
  | cons x r ih=>
   intro acc hn ha
   obtain ⟨name,kind⟩:=x
   rw [List.forIn_cons]
   by_cases hk:kind=.free
   ·subst hk
    obtain ⟨c,hc⟩:=hn (name,.free) List.mem_cons_self rfl
    have e:cellOf env name=pure c:=by unfold cellOf;rw [hc]
    obtain ⟨cl,e1,e2,e3,e4⟩:=ih ((name,c) :: acc) (fun y hy=>hn y (List.mem_cons_of_mem _ hy)) (fun x c' hx=>by
     rw [List.lookup_cons] at hx
     split at hx
     ·rename_i hb
      have:x=name:=by simpa using hb
      subst this
      cases hx;exact hc
     ·exact ha x c' hx)
    refine ⟨cl,?_,e2,fun y hy hf=>?_,fun x c' hx=>?_⟩
    ·simp only [beq_self_eq_true,if_true]
     rw [e,pure_bind,pure_bind]
     exact e1
    ·rcases List.mem_cons.mp hy with rfl | hy
     ·exact e4 name c (by simp)
     ·exact e3 y hy hf
    ·by_cases hb:(x==name)=true
     ·have:x=name:=by simpa using hb
      subst this
      exact e4 x c (by simp)
     ·exact e4 x c' (by rw [List.lookup_cons];simp only [Bool.not_eq_true] at hb;rw [hb];exact hx)
   ·have hb:(kind==NameKind.free)=false:=by simpa using hk
    obtain ⟨cl,e1,e2,e3,e4⟩:=ih acc (fun y hy=>hn y (List.mem_cons_of_mem _ hy)) ha
    refine ⟨cl,?_,e2,fun y hy hf=>?_,e4⟩
    ·simp only [hb,Bool.false_eq_true,if_false]
     rw [pure_bind]
     exact e1
    ·rcases List.mem_cons.mp hy with rfl | hy
     ·exact absurd hf hk
     ·exact e3 y hy hf
 obtain ⟨cl,e1,e2,e3,_⟩:=go scope.names [] h (fun x c e=>by simp at e)
 refine ⟨cl,?_,e2,e3⟩
 unfold closureFor
 show (forIn scope.names _ _ >>= fun cs=>pure cs)=_
 rw [bind_pure]
 exact e1
section
variable {prog:Program}{w:World}{A:Around}{R:Result→Shared→Prop}{s:Shared}
theorem vP {elt target iter:Expr}{ifs:List Expr}{scope:Scope}{pos:Pos}{it acc:Value}{env:Env} (I:Nat→Shared→Prop)
 (turn:∀n s,I n s→wpAny (model prog w) A (pyNext it) (fun r s₁=>match r with
  | none=>R (.ok .next) s₁
  | some v=>wpAny (model prog w) A (letOwnedTupleGo target it v) (fun _ s₁'=>wpAny (model prog w) A (assign target env v) (fun _ s₂=>
   wpAny (model prog w) A (forIn ifs true fun c r=>if r=true then do let ok ←isTrue c env (eval c env);pure (ForInStep.yield ok) else pure (ForInStep.yield r)) (fun ok s₃=>
    if ok=true then wpAny (model prog w) A (eval elt env) (fun x s₄=>
     wpAny (model prog w) A (call (.builtin "list.append") [acc,x]) (fun _ s₅=>∃m,m<n∧I m s₅) (fun _ _=>False) s₄) (fun _ _=>False) s₃
    else ∃m,m<n∧I m s₃) (fun _ _=>False) s₂) (fun _ _=>False) s₁') (fun _ _=>False) s₁) (fun _ _=>False) s)
 (n:Nat) (h:I n s) :
 codeAny (model prog w) A (.compLoop (.ListComp elt [⟨target,iter,ifs,0⟩] scope pos) 0 it acc env) R s:=by
 refine codeAny_loop rfl I (fun n s hI=>?_) n h
 show wpAny _ A ((compTurn (.ListComp elt [⟨target,iter,ifs,0⟩] scope pos) 0 it acc env).onRaise (fun x=>do noteFrame x env;theTreesLotGoes x)) _ _ s
 refine wpAny_noted ?_
 rw [compTurn_list]
 refine wpAny_bind (wpAny_standAt (wpAny_bind (wpAny_mono (turn n s hI) (fun r s₁ h₁=>?_) fun _ _ h'=>h'.elim)))
 cases r with
 | none=>exact wpAny_pure h₁
 | some v=>
  refine wpAny_bind (wpAny_mono h₁ (fun _ s₁' h₁'=>?_) fun _ _ h'=>h'.elim)
  refine wpAny_bind (wpAny_mono h₁' (fun _ s₂ h₂=>wpAny_bind (wpAny_mono h₂ (fun ok s₃ h₃=>?_) fun _ _ h'=>h'.elim)) fun _ _ h'=>h'.elim)
  cases ok with
  | false=>exact wpAny_pure ⟨rfl,h₃⟩
  | true=>
   exact wpAny_bind (wpAny_bind (wpAny_mono h₃ (fun x s₄ h₄=>wpAny_bind (wpAny_mono h₄ (fun _ s₅ h₅=>wpAny_pure (wpAny_pure ⟨rfl,h₅⟩)) fun _ _ h'=>h'.elim)) fun _ _ h'=>h'.elim))
end
end L2
namespace L2
open PySem PySem.Spec PyProof.Rows
section
variable {X:Cx}
theorem wZ:dH X (.builtin "isinstance") (fun xs H Q=>xm fun x T t b=>xs=[x,.ty T]∧iA X.K H x t∧PySem.W.kitOne X.K t (.type T)=some b∧Q (.bl b) H):=by
 intro pins s σ H xs us Q I r h
 obtain ⟨x,T,t,b,rfl,ty,e,q⟩:=h
 obtain ⟨u,c,rfl,ru,rc⟩:=r.two
 obtain rfl:c=Value.type T:=rc
 exact zQ I ru ty e fun tk=>⟨.bl b,H,I.tok tk,rfl,q⟩
end
def qp (X:Cx) (scope:Scope) (cl:List (Str×Addr)) (C:Addr) (N':List Str) (s:Shared) (H:Hp) (ex:List Addr) (pn:List (Addr×Obj)):Cx:=
 { X with N:=N',s₀:=s,H₀:=H,env:=compEnvC scope cl C X.env,outer:=X.stack,ex:=ex,fn:=fun _=>false,pn:=pn,xe:=fun _ _=>False }
def fO (L:Nat) (src:List Nat) (σ:St):St:=List.replicate L none++src.map fun j=>(σ[j]?).join
def gM (σ σ':St):Prop:=σ'.length=σ.length∧∀(i:Nat) v,σ[i]?=some (some v)→σ'[i]?=some (some v)
theorem dF {x:V}{r:St}:gM (none :: r) (some x :: r):=⟨rfl,fun i v e=>by
 cases i with
 | zero=>simp at e
 | succ i=>simpa using e⟩
theorem kN {x y:V}{r:St}:gM (none :: none :: r) (some x :: some y :: r):=⟨rfl,fun i v e=>by
 cases i with
 | zero=>simp at e
 | succ i=>
  cases i with
  | zero=>simp at e
  | succ i=>simpa using e⟩
def lY (X:Cx) (ifs:List Expr) (t:TT):Prop:=
 ∀(pins:List (Addr×Obj)) (s:Shared) (σ:St) (H:Hp) (Q:Bool→Hp→Prop),ag X pins σ H s→t σ H Q→
   wpAny (model X.prog X.w) X.A (forIn ifs true fun c r=>if r=true then do let ok ←isTrue c X.env (eval c X.env);pure (ForInStep.yield ok) else pure (ForInStep.yield r)) (TP X pins σ Q) X.xe s
def tT:TT:=fun _ H Q=>Q true H
theorem bd {X:Cx}:lY X [] tT:=fun _ _ _ H _ I h=>wpAny_pure ⟨H,I,h⟩
theorem ow {X:Cx}{c:Expr}{t:TT} (hc:PT X c t):lY X [c] t:=by
 intro pins s σ H Q I h
 rw [List.forIn_cons]
 refine wpAny_bind ?_
 rw [if_pos rfl]
 exact wpAny_bind (aK (hc pins s σ H Q I h) fun b s1 q=>wpAny_pure (wpAny_pure q))
def jM (J:It) (σc:St) (g:TG) (tt:TT) (te:TE) (D:Addr) (H1:Hp) (Q:VK):Prop:=
 ∃W:Nat→Nat→Hp→List V→Prop,(∃m,W 0 m (aG H1 D (.lst [])) [])∧∀i m H ys,W i m H ys→H D=some (.lst ys)∧
  ((J.stop i H∧Q (.ref D) H)∨(J.go i H∧ys.length<sizeLine∧∃N:Hp→List V→Prop,(∀H' ys',N H' ys'→∃m',m'<m∧W (i+1) m' H' ys')∧
    ∀x H',J.yld i H x H'→g x σc H' fun σ2 H2=>gM σc σ2∧tt σ2 H2 fun b H3=>if b=true then te σ2 H3 fun y H4=>H4 D=some (.lst ys)∧N (aG H4 D (.lst (ys++[y]))) (ys++[y]) else N H3 ys))
def xR (wi:TI) (L:Nat) (src:List Nat) (g:TG) (tt:TT) (te:TE):TE:=fun σ H Q=>wi σ H fun J H1=>∀D,H1 D=none→jM J (fO L src σ) g tt te D H1 Q
section
variable {X:Cx}{elt tg iter:Expr}{ifs:List Expr}{scope:Scope}{pos:Pos}{N':List Str}{L:Nat}{src:List Nat}{wi:TI}{g:TG}{tt:TT}{te:TE}
end
theorem uY {J:It}{n:Nat}{H1:Hp}{D:Addr}{σc:St}{g:TG}{tt:TT}{te:TE}{Q:VK} (Pv:Nat→Hp→List V→Prop) (hz:n≤sizeLine) (h0:Pv 0 (aG H1 D (.lst [])) [])
 (hD:∀i H ys,Pv i H ys→H D=some (.lst ys)∧ys.length≤i)
 (hgo:∀i H ys,i<n→Pv i H ys→J.go i H) (hst:∀H ys,Pv n H ys→J.stop n H)
 (hs:∀i H ys x H',i<n→Pv i H ys→J.yld i H x H'→g x σc H' fun σ2 H2=>gM σc σ2∧tt σ2 H2 fun b H3=>if b=true then te σ2 H3 fun y H4=>H4 D=some (.lst ys)∧Pv (i+1) (aG H4 D (.lst (ys++[y]))) (ys++[y]) else Pv (i+1) H3 ys)
 (hd:∀H ys,Pv n H ys→Q (.ref D) H):jM J σc g tt te D H1 Q:=by
 refine ⟨fun i m H ys=>m=n - i∧i≤n∧Pv i H ys,⟨n,by simp,Nat.zero_le _,h0⟩,?_⟩
 rintro i m H ys ⟨rfl,hi,p⟩
 obtain ⟨q1,q2⟩:=hD i H ys p
 refine ⟨q1,?_⟩
 by_cases hlt:i<n
 ·exact .inr ⟨hgo i H ys hlt p,by trivial,Pv (i+1),fun H' ys' p'=>⟨n - (i+1),by trivial,rfl,hlt,p'⟩,fun x H' y=>hs i H ys x H' hlt p y⟩
 ·have e:i=n:=by trivial
  subst e
  exact .inl ⟨hst H ys p,hd H ys p⟩
theorem gf {J:It}{n:Nat}{H1:Hp}{D:Addr}{σc:St}{g:TG}{te:TE}{Q:VK} (Pv:Nat→Hp→List V→Prop) (hz:n≤sizeLine) (h0:Pv 0 (aG H1 D (.lst [])) [])
 (hD:∀i H ys,Pv i H ys→H D=some (.lst ys)∧ys.length≤i)
 (hgo:∀i H ys,i<n→Pv i H ys→J.go i H) (hst:∀H ys,Pv n H ys→J.stop n H)
 (hs:∀i H ys x H',i<n→Pv i H ys→J.yld i H x H'→g x σc H' fun σ2 H2=>gM σc σ2∧te σ2 H2 fun y H4=>H4 D=some (.lst ys)∧Pv (i+1) (aG H4 D (.lst (ys++[y]))) (ys++[y]))
 (hd:∀H ys,Pv n H ys→Q (.ref D) H):jM J σc g tT te D H1 Q:=by
 refine uY Pv hz h0 hD hgo hst (fun i H ys x H' hi p y=>?_) hd
 have e:=hs i H ys x H' hi p y
 have q:(fun (σ2:St) (H2:Hp)=>gM σc σ2∧tT σ2 H2 fun b H3=>if b=true then te σ2 H3 fun y H4=>H4 D=some (.lst ys)∧Pv (i+1) (aG H4 D (.lst (ys++[y]))) (ys++[y]) else Pv (i+1) H3 ys) =
  (fun σ2 H2=>gM σc σ2∧te σ2 H2 fun y H4=>H4 D=some (.lst ys)∧Pv (i+1) (aG H4 D (.lst (ys++[y]))) (ys++[y])):=by
  funext σ2 H2
  unfold tT
  dsimp only
  rw [if_pos rfl]
 rw [q]
 exact e
section
variable {X:Cx}{pins:List (Addr×Obj)}{σ:St}{H:Hp}{s:Shared}{h':Heap}
theorem ag.turnedNew {t':Nat}{ch:List Addr}{T:Addr}{o:HO} (I:ag X pins σ H s) (hf:∀b∈ch,il X pins H b) (k:∀b u,b∉ch→s.heap.get? b=some u→h'.get? b=some u)
 (hT:s.heap.objs.size≤T) (new:bD X.prog X.w (aG H T o) h' T o):ag X pins σ (aG H T o) { s with heap:=h',toks:=t' }:=by
 have hn:H T=none:=I.hok.fresh hT
 refine I.step (g':=s.gens) (d':=s.drawn) (ch:=ch) (fun b hb=>?_) (fun b o _ _ hc e _=>k b o hc e) (fun b o _ _ hc e _=>⟨o.slots,k b o hc e⟩) (fun b o hc e n=>?_)
  (fun b o hc e=>⟨o,k b o hc e⟩) (fun b xs e=>?_) (fun b o u e=>?_) (fun b ps e=>?_) (fun m hm=>?_) (fun b u e=>?_) I.bare
 ·obtain ⟨f0,f1,f2,f3,f4,f5⟩:=hf b hb
  exact ⟨f3,f1,f4,f5⟩
 ·rw [ay (Nat.ne_of_lt (Nat.lt_of_lt_of_le (Heap.lt_size e) hT))];exact n
 ·rw [ay (aN e hn)];exact e
 ·rw [ay (aN e hn)];exact e
 ·exact ⟨#[],by rw [ay (aN e hn),e];simp⟩
 ·obtain ⟨o,es,ep,ho,r⟩:=hm
  exact ⟨o,es,ep,k _ o (fun z=>(hf _ z).2.1 rfl) ho,r⟩
 ·by_cases hb:b=T
  ·subst hb;rw [au] at e;cases e;exact new
  ·rw [ay hb] at e
   refine (I.hok b u e).stay (fun c v hc q=>k c v (fun z=>?_) q) (fun c q=>by rw [ay (aN q hn)];exact q) fun c xs q=>by rw [ay (aN q hn)];exact q
   have hcn:=(hf c z).1
   rcases hc with rfl | hc
   ·rw [e] at hcn;cases hcn
   ·rw [hc] at hcn;cases hcn
end
section
variable {X:Cx}
theorem zW {bs:List Bool}{us:List Value} (r:aH (bs.map V.bl) us) {i:Nat}{v:Value} (e:us[i]?=some v):∃b,bs[i]?=some b∧v=.bool b:=by
 have hl:=r.length
 rw [List.length_map] at hl
 have hi:i<us.length:=(List.getElem?_eq_some_iff.mp e).1
 have hb:bs[i]?=some bs[i]:=by simp [hl,hi]
 obtain ⟨u,h1,h2⟩:=r.get (i:=i) (x:=.bl bs[i]) (by rw [List.getElem?_map,hb];rfl)
 rw [e] at h1
 cases h1
 exact ⟨_,hb,h2⟩
theorem BR {s:Shared}{h':Heap}{o:Obj} (hk:∀b x,b∉[s.heap.objs.size]→(s.heap.push o).get? b=some x→h'.get? b=some x):∀b x,s.heap.get? b=some x→h'.get? b=some x:=
 fun b x e=>hk b x (fun hm=>by rw [List.mem_singleton.mp hm] at e;exact Nat.lt_irrefl _ (Heap.lt_size e)) (Heap.get?_push_of_some _ e)
theorem Ak (hc:X.calm=true):dH X (.builtin "all") (fun xs H Q=>bE fun (l:Addr) (bs:List Bool)=>xs=[.ref l]∧ah X.K H l (bs.map V.bl)∧Q (.bl (bs.all id)) H):=by
 intro pins s σ H xs us Q I r h
 obtain ⟨l,bs,rfl,hq,q⟩:=h
 obtain ⟨u,rfl,ru⟩:=r.one
 obtain rfl:u=.ref l:=ru
 obtain ⟨its,rv,p,hz⟩:=I.list hq
 have hl:=p.isList
 have hlt:l<s.heap.objs.size:=by obtain ⟨_,e,_⟩:=hl;exact Heap.lt_size e
 refine call_all_walk (wpAny_pyIter_list hl ?_)
 refine ⟨s.heap.objs.size,[s.heap.objs.size,l],[s.heap.objs.size],its.toArray.size,_,_,fun i=>(bs[i]?).getD true,rfl,Walks.list (A:=X.A.in1) (I.ok.hd hc) _ l (Nat.ne_of_lt hlt) its.toArray,
  ⟨⟨_,Heap.get?_push_size _ rfl,rfl,rfl⟩,hl.push _⟩,fun i v s' Q' E' hP hQ=>?_,fun h' tk hk=>?_⟩
 ·obtain ⟨b,e,rfl⟩:=zW rv (i:=i) (v:=v) (by simpa using hP)
  simp only [e,Option.getD_some] at hQ
  exact wpAny_truthy_bool hQ
 ·have e:((List.range its.toArray.size).all fun i=>(bs[i]?).getD true)=bs.all id:=by
   rw [List.size_toArray,←rv.length,List.length_map];exact LSm.range_all bs
  rw [e]
  exact ⟨.bl _,H,I.kept (BR hk),rfl,q⟩
end
def Gq (K:PySem.W.Frag) (a:Addr):It:=
 ⟨fun i H=>bE fun xs x=>ah K H a xs∧xs[i]?=some x,fun i H v H'=>bE fun T x=>H T=none∧v=.ref T∧H'=aG H T (.tup [.int (i:Int),x])∧∀xs,ah K H a xs→xs[i]?=some x,fun i H=>∃xs,ah K H a xs∧xs.length≤i⟩
theorem zt {P:Program}{w:World}{K:PySem.W.Frag}{es:List Expr}{kk:Nat}{pos:Pos} (a e it:Addr) (hne:e≠it) :
 pM P w K (.Tuple es kk pos) (Gq K a) [e,it] e (fun i h=>(∃old,IsEnum h e it i old)∧h.IsListIter it a i) where
 mem:=by simp
 obj:=fun i h st b hb=>by
  obtain ⟨⟨old,he⟩,o,e1,c,d⟩:=st
  have hb':b=e∨b=it:=by simpa using hb
  rcases hb' with rfl | rfl
  ·exact ⟨_,he,fun v z=>by
    have z':Data.fields _=Data.cell v:=z
    cases z'⟩
  ·exact ⟨o,e1,fun v z=>by rw [d] at z;cases z⟩
 keep:=fun i h h' st k=>by
  obtain ⟨⟨old,he⟩,hi⟩:=st
  exact ⟨⟨old,k e (by simp) _ he⟩,hi.at fun o q=>k it (by simp) o q⟩
 item:=by
  intro X hP hw hK hc i pins s σ H E I hf st hg
  subst hP hw hK
  obtain ⟨⟨old,he⟩,hit⟩:=st
  obtain ⟨xs,x,hq,hx⟩:=hg
  obtain ⟨its,rv,p,hz⟩:=I.list hq
  obtain ⟨u,hu,ru⟩:=rv.get hx
  have hnT:H s.heap.objs.size=none:=I.fresh
  refine wpAny_pyNext_enum_item he hit p.isList (x:=u) (by simpa using hu) hne fun h' ho hit' hT hsz hk=>?_
  refine ⟨(),wpAny_letOwnedTupleGo_enum (s:={ s with heap:=h',toks:=s.toks+1 }) ho fun h'' he'' hs''=>?_⟩
  have helt:e<s.heap.objs.size:=Heap.lt_size he
  have hilt:it<s.heap.objs.size:=by obtain ⟨_,y,_⟩:=hit;exact Heap.lt_size y
  have hT'':h''.get? s.heap.objs.size=some { cls:=.type "tuple",data:=.seq #[.int i s.toks,u] }:=(hs''.2 _ (Nat.ne_of_gt helt)).trans hT
  refine ⟨.ref s.heap.objs.size,aG H s.heap.objs.size (.tup [.int (i:Int),x]),I.turnedNew (ch:=[e,it]) (t':=s.toks+1) hf (fun b o hb q=>?_) (Nat.le_refl _) ?_,rfl,⟨_,x,hnT,rfl,rfl,fun ys hy=>by rw [I.list_inj hy hq];exact hx⟩,⟨⟨u,?_⟩,hit'.extBut hs''.extBut (Ne.symm hne)⟩,fun b hb=>?_⟩
  ·have h1:b≠e:=fun z=>hb (by simp [z])
   have h2:b≠it:=fun z=>hb (by simp [z])
   exact (hs''.2 b h1).trans (hk b o h1 h2 q)
  ·exact ⟨by show 2≤sizeLine;decide,[.int i s.toks,u],.cons ⟨()⟩ (.cons ru .nil),⟨_,hT'',rfl,()⟩,_,hT'',rfl⟩
  ·simpa using he''
  ·have hb':b=e∨b=it:=by simpa using hb
   have hlt:b<s.heap.objs.size:=by rcases hb' with rfl | rfl <;> assumption
   rw [ay (Nat.ne_of_lt hlt)]
   exact (hf b hb).1
 done:=by
  intro X hP hw hK hc i pins s σ H E I hf st hg
  subst hP hw hK
  obtain ⟨⟨old,he⟩,hit⟩:=st
  obtain ⟨xs,hq,hx⟩:=hg
  obtain ⟨its,rv,p,hz⟩:=I.list hq
  obtain ⟨f0,f1,f2,f3,f4,f5⟩:=hf it (by simp)
  have hl:=rv.length
  exact wpAny_pyNext_enum_end (I.ok.hd hc) he hit p.isList (by simp;trivial) fun h' eb=>⟨rfl,I.turned (t':=s.toks) (fun b o hb e=>eb b o hb e) f0 f1 f3 f4 f5⟩
 self:=fun _ _ _ _ _ st h=>by
  obtain ⟨⟨old,he⟩,_⟩:=st
  exact wpAny_pyIter_enum he h
def FF (K:PySem.W.Frag) (ta:TA):TI:=fun σ H R=>ta σ H fun vs H1=>∃a,vs=[.ref a]∧(∃xs,ah K H1 a xs)∧R (Gq K a) H1
theorem BK {X:Cx}{es:List Expr}{kk:Nat}{tp:Pos}{a:Expr}{ta:TA}{p pos:Pos} (hg:Gl X "enumerate") (hm:X.mg "enumerate" = none) (ha:PA X [a] ta) (hs:starEach [a] X.env=[(false,eval a X.env)]:=by rfl) :
 PI X (.Tuple es kk tp) (.Call (.Name "enumerate" p) [a] [] pos) (FF X.K ta):=by
 intro pins s σ H R I h
 refine Call_ (lD I hg hm boot_enumerate (PyProof.Rows.callWith_type1 (aK (ha pos pins s σ H _ I h) fun us s1 ⟨vs,H1,I1,r1,q1⟩=>?_) hs rfl))
 obtain ⟨a,rfl,⟨xs,hq⟩,q⟩:=q1
 obtain ⟨u,rfl,ru⟩:=r1.one
 obtain rfl:u=.ref a:=ru
 obtain ⟨its,rv,p,hz⟩:=I1.list hq
 refine call_enumerate_list p.isList fun h' hE hI hsz hk=>wpAny_pyIter_enum hE ?_
 have I2:ag X pins σ H1 { s1 with heap:=h',toks:=s1.toks }:=I1.kept hk
 refine ⟨s1.heap.objs.size+1,[s1.heap.objs.size+1,s1.heap.objs.size],_,_,H1,rfl,I2,zt a (s1.heap.objs.size+1) s1.heap.objs.size (Nat.succ_ne_self _),⟨⟨_,hE⟩,hI⟩,fun b hb=>?_,q⟩
 have hb':b=s1.heap.objs.size+1∨b=s1.heap.objs.size:=by simpa using hb
 have hle:s1.heap.objs.size≤b:=by rcases hb' with rfl | rfl <;> trivial
 exact I1.fpOk hle (I1.hok.fresh hle)
end L2
namespace L2
open PySem PySem.Spec PyProof.Rows
theorem cx:bootBuiltins "len" = some (.builtin "len"):=by nofun
theorem i8:bootBuiltins "abs" = some (.builtin "abs"):=by nofun
theorem yb:bootBuiltins "min" = some (.builtin "min"):=by nofun
theorem yt:bootBuiltins "max" = some (.builtin "max"):=by nofun
theorem kO:bootBuiltins "all" = some (.builtin "all"):=by nofun
theorem vz:bootBuiltins "divmod" = some (.builtin "divmod"):=by nofun
theorem bW:bootBuiltins "isinstance" = some (.builtin "isinstance"):=by nofun
theorem dY:bootBuiltins "int" = some (.type "int"):=by nofun
theorem wD:bootBuiltins "bool" = some (.type "bool"):=by nofun
theorem fW:bootBuiltins "list" = some (.type "list"):=by nofun
theorem cb:bootBuiltins "tuple" = some (.type "tuple"):=by nofun
theorem oE {X:Cx}{x:Str}{T:String}{pos:Pos} (hg:Gl X x) (hm:X.mg x=none) (hv:bootBuiltins x=some (.type T)) (hn:x≠"__name__" := by decide) (hd:(x==("__debug__" : Str))=false:=by decide):PE X (.Name x pos) (tC (.ty T)):=
 CF (v:=.ty T) hg hm hv rfl hn hd
mutual
inductive aJ (E:Addr→Prop) (H:Hp):V→PyData→Prop
 | non:aJ E H .non .none
 | bl (b:Bool):aJ E H (.bl b) (.bool b)
 | int (i:Int):aJ E H (.int i) (.int i)
 | str (x:Str):aJ E H (.str x) (.str x)
 | lst {a:Addr}{xs:List V}{ds:List PyData} (h:H a=some (.lst xs)) (ne:¬E a) (r:aA E H xs ds):aJ E H (.ref a) (.list ds)
 | tup {a:Addr}{xs:List V}{ds:List PyData} (h:H a=some (.tup xs)) (r:aA E H xs ds):aJ E H (.ref a) (.tuple ds)
inductive aA (E:Addr→Prop) (H:Hp):List V→List PyData→Prop
 | nil:aA E H [] []
 | cons {x:V}{xs:List V}{d:PyData}{ds:List PyData} (h:aJ E H x d) (r:aA E H xs ds):aA E H (x :: xs) (d :: ds)
end
structure ao (E:Addr→Prop) (H H':Hp):Prop where
 old:∀a o,¬E a→H a=some o→H' a=some o
 tup:∀a xs,H a=some (.tup xs)→H' a=some (.tup xs)
mutual
theorem aJ.mono {E:Addr→Prop}{H H':Hp} (k:ao E H H'):∀{v:V}{d:PyData},aJ E H v d→aJ E H' v d
 | _,_,.non=>.non
 | _,_,.bl b=>.bl b
 | _,_,.int i=>.int i
 | _,_,.str x=>.str x
 | _,_,.lst h ne r=>.lst (k.old _ _ ne h) ne (aA.mono k r)
 | _,_,.tup h r=>.tup (k.tup _ _ h) (aA.mono k r)
theorem aA.mono {E:Addr→Prop}{H H':Hp} (k:ao E H H'):∀{vs:List V}{ds:List PyData},aA E H vs ds→aA E H' vs ds
 | _,_,.nil=>.nil
 | _,_,.cons h r=>.cons (aJ.mono k h) (aA.mono k r)
end
theorem ao.refl {E:Addr→Prop} (H:Hp):ao E H H:=⟨fun _ _ _ h=>h,fun _ _ h=>h⟩
theorem ao.trans {E:Addr→Prop}{H H1 H2:Hp} (a:ao E H H1) (b:ao E H1 H2):ao E H H2:=⟨fun c o n h=>b.old c o n (a.old c o n h),fun c xs h=>b.tup c xs (a.tup c xs h)⟩
theorem ad.toE {E:Addr→Prop}{H H':Hp} (a:ad H H'):ao E H H':=⟨fun c o _ h=>a c o h,fun c xs h=>a c _ h⟩
theorem ad.new {H:Hp}{p:Addr}{o:HO} (h:H p=none):ad H (aG H p o):=fun b u e=>by rw [ay (aN e h)];exact e
theorem aA.length {E:Addr→Prop}{H:Hp}:∀{vs:List V}{ds:List PyData},aA E H vs ds→vs.length=ds.length
 | _,_,.nil=>rfl
 | _,_,.cons _ r=>by simp [aA.length r]
theorem aA.get {E:Addr→Prop}{H:Hp}:∀{vs:List V}{ds:List PyData}{i:Nat}{v:V},aA E H vs ds→vs[i]?=some v→∃d,ds[i]?=some d∧aJ E H v d
 | _,_,_,_,.nil,e=>by simp at e
 | _,_,0,_,.cons h _,e=>by simp at e;subst e;exact ⟨_,rfl,h⟩
 | _,_,i+1,v,.cons _ r,e=>by
  obtain ⟨d,h1,h2⟩:=aA.get (i:=i) (v:=v) r (by simpa using e)
  exact ⟨d,by simpa using h1,h2⟩
theorem aA.append {E:Addr→Prop}{H:Hp}:∀{vs ws:List V}{ds es:List PyData},aA E H vs ds→aA E H ws es→aA E H (vs++ws) (ds++es)
 | _,_,_,_,.nil,s=>s
 | _,_,_,_,.cons h r,s=>.cons h (aA.append r s)
mutual
theorem aJ.reads {E:Addr→Prop}{P:Program}{w:World}{H:Hp}{h:Heap} (ok:dZ P w H h):∀{v:V}{d:PyData},aJ E H v d→∀{u:Value},aT v u→∃as,Reads h u d as
 | _,_,.non,u,r=>by obtain rfl:u=.none:=r;exact ⟨_,.none⟩
 | _,_,.bl b,u,r=>by obtain rfl:u=.bool b:=r;exact ⟨_,.bool b⟩
 | _,_,.int i,u,r=>by obtain ⟨t,rfl⟩:=r;exact ⟨_,.int i t⟩
 | _,_,.str x,u,r=>by obtain ⟨t,rfl⟩:=r;exact ⟨_,.str x t⟩
 | _,_,.lst (a:=a) (xs:=xs) e _ q,u,r=>by
  obtain rfl:u=.ref a:=r
  obtain ⟨_,its,n,rv,e1⟩:=(show bD P w H h a (.lst xs) from ok a _ e)
  obtain ⟨as,ra⟩:=aA.reads ok q rv
  exact ⟨_,.list e1 rfl rfl (by simpa using ra)⟩
 | _,_,.tup (a:=a) (xs:=xs) e q,u,r=>by
  obtain rfl:u=.ref a:=r
  obtain ⟨_,its,rv,⟨o,e1,c,n,dd⟩,_⟩:=(show bD P w H h a (.tup xs) from ok a _ e)
  obtain ⟨as,ra⟩:=aA.reads ok q rv
  exact ⟨_,.tuple e1 c dd (by simpa using ra)⟩
theorem aA.reads {E:Addr→Prop}{P:Program}{w:World}{H:Hp}{h:Heap} (ok:dZ P w H h):∀{vs:List V}{ds:List PyData},aA E H vs ds→∀{us:List Value},aH vs us→∃as,ReadsAll h us ds as
 | _,_,.nil,us,r=>by cases r;exact ⟨_,.nil⟩
 | _,_,.cons q qs,us,r=>by
  cases r with
  | cons r1 rr=>
   obtain ⟨as,h1⟩:=aJ.reads ok q r1
   obtain ⟨bs,h2⟩:=aA.reads ok qs rr
   exact ⟨_,.cons h1 h2⟩
end
section
variable {X:Cx}
def yh (_ j:Int):Prop:=0<j∧j.natAbs.log2<9000
theorem vR:de X (binaryOp .FloorDiv) (rI yh fun i j=>.int (i / j)):=uM fun i j _ _ _ _ _ hc q=>by
 rw [←Int.fdiv_eq_ediv_of_nonneg _ (Int.le_of_lt hc.1)] at q
 exact floordiv_int (Int.ne_of_gt hc.1) q (.inl (PyProof.noPylong_of_log2 hc.2))
def FW (i j k:Nat) (ta:TA):TS:=fun D σ H=>ta σ H fun vs H1=>gH fun v w u=>vs=[v,w,u]∧D.nx (((σ.set i (some v)).set j (some w)).set k (some u)) H1
theorem xq {pos:Pos}{i j k:Nat}{x y z:Str}{a b c:Expr}{ta:TA}{px py pz pt:Pos}{kt k2 pt2} (hc:X.calm=true) (hN:X.N.Nodup) (hi:X.N[i]?=some x) (hj:X.N[j]?=some y) (hk:X.N[k]?=some z) (hij:i≠j) (hik:i≠k) (hjk:j≠k)
 (hx:X.env.scope.names.lookup x=some .local) (hy:X.env.scope.names.lookup y=some .local) (hz:X.env.scope.names.lookup z=some .local) (ha:PA X [a,b,c] ta)
 (hw:swappedStores [.Tuple [.Name x px,.Name y py,.Name z pz] kt pt] (.Tuple [a,b,c] k2 pt2) X.env=pure (some [x,y,z]))
 (hs:swapsWithSole [.Tuple [.Name x px,.Name y py,.Name z pz] kt pt] (.Tuple [a,b,c] k2 pt2) pos.line X.env=pure false:=by rfl) :
 PS X (.Assign [.Tuple [.Name x px,.Name y py,.Name z pz] kt pt] (.Tuple [a,b,c] k2 pt2) pos) (FW i j k ta):=by
 intro pins s σ H D I h
 rw [exec_Assign_arm]
 refine wpAny_bind (wpAny_standAt ?_)
 rw [hs]
 refine wpAny_bind (wpAny_pure ?_)
 rw [if_neg (by decide)]
 refine wpAny_bind (Tuple_ (aK (ha _ pins s σ H _ I h) fun us s1 ⟨vs,H1,I1,r1,q1⟩=>?_))
 obtain ⟨v,w,u,e1,q1⟩:=q1
 subst e1
 obtain ⟨u1,u2,u3,rfl,rv,rw',ru⟩:gH fun u1 u2 u3=>us=[u1,u2,u3]∧aT v u1∧aT w u2∧aT u u3:=by
  cases r1 with
  | cons p q=>
   cases q with
   | cons p' q'=>
    cases q' with
    | cons p'' q''=>
     cases q''
     exact ⟨_,_,(),p,p',p''⟩
 refine wpAny_newObj_type ?_ (by show 3≤sizeLine;decide)
 have I2:ag X pins σ H1 { s1 with heap:=s1.heap.push { cls:=.type "tuple",data:=.seq [u1,u2,u3].toArray } }:=I1.kept (t':=s1.toks) fun b o e=>Heap.get?_push_of_some _ e
 rw [hw]
 refine wpAny_bind (wpAny_pure ?_)
 show wpAny (model X.prog X.w) X.A (do rule "assign.swapped-stores";let items ←unpackItems (.ref s1.heap.objs.size) 3 none;assignInOrder [fun v=>bindName X.env z v,fun v=>bindName X.env y v,fun v=>bindName X.env x v] items.reverse;pure Flow.next) _ _ _
 refine wpAny_bind (wpAny_rule (wpAny_bind (unpackItems_tuple (items:=#[u1,u2,u3]) (I.ok.hd hc) (IsTup.new s1.heap _) fun h' hx'=>?_)))
 have I3:=I2.kept (h':=h') (t':=s1.toks) fun b o e=>hx' b o (Nat.ne_of_lt (Heap.lt_size e)) e
 show wpAny _ _ (assignInOrder [fun v=>bindName X.env z v,fun v=>bindName X.env y v,fun v=>bindName X.env x v] [u3,u2,u1] >>= fun _=>pure Flow.next) _ _ _
 refine wpAny_bind (assignInOrder_cons (wpAny_bindName (ip I3 hN hk (.inl hz) ru (fun s2 I4=>?_) (.inr hz))))
 refine assignInOrder_cons (wpAny_bindName (ip I4 hN hj (.inl hy) rw' (fun s3 I5=>?_) (.inr hy)))
 refine assignInOrder_cons (wpAny_bindName (ip I5 hN hi (.inl hx) rv (fun s4 I6=>assignInOrder_nil (wpAny_pure ?_)) (.inr hx)))
 have e:(((σ.set i (some v)).set j (some w)).set k (some u))=(((σ.set k (some u)).set j (some w)).set i (some v)):=by
  rw [List.set_comm _ _ (Ne.symm hjk),List.set_comm (some v) (some w) hij,List.set_comm (some v) (some u) hik]
 rw [←e] at I6
 exact ⟨_,H1,I6,q1⟩
end
end L2
namespace L2
open PySem PySem.Spec PyProof.Rows
def zp:PyData→String
 | .none => "NoneType"
 | .bool _ => "bool"
 | .int _ => "int"
 | .str _ => "str"
 | .list _ => "list"
 | .tuple _ => "tuple"
 | .dict _ => "dict"
theorem aJ.ty {K:PySem.W.Frag}{E:Addr→Prop}{H:Hp}{v:V}{d:PyData} (h:aJ E H v d):iA K H v (.type (zp d)):=by
 cases h with
 | non=>exact .non
 | bl b=>exact .bl b
 | int i=>exact .int i
 | str x=>exact .str x
 | lst h ne r=>exact .lst h
 | tup h r=>exact .tup h
def Ez:PyData→Bool
 | .int _=>true
 | .bool _=>true
 | _=>false
def Ct:PyData→Bool
 | .bool _=>true
 | _=>false
def ET:PyData→Bool
 | .tuple _=>true
 | _=>false
def Dr:PyData→Bool
 | .list _=>true
 | _=>false
theorem B0 {K:PySem.W.Frag} (d:PyData):PySem.W.kitOne K (.type (zp d)) (.type "int")=some (Ez d):=by cases d <;> rfl
theorem AY {K:PySem.W.Frag} (d:PyData):PySem.W.kitOne K (.type (zp d)) (.type "bool")=some (Ct d):=by cases d <;> rfl
theorem uG {K:PySem.W.Frag} (d:PyData):PySem.W.kitOne K (.type (zp d)) (.type "tuple")=some (ET d):=by cases d <;> rfl
theorem nZ {K:PySem.W.Frag} (d:PyData):PySem.W.kitOne K (.type (zp d)) (.type "list")=some (Dr d):=by cases d <;> rfl
inductive F7 (K:PySem.W.Frag) (xs:List V) (H:Hp) (Q:VK):Prop
 | mk (x:_) (T:_) (t:_) (b:_) (h0:xs=[x,.ty T]) (h1:iA K H x t) (h2:PySem.W.kitOne K t (.type T)=some b) (h3:Q (.bl b) H)
def GH (K:PySem.W.Frag):List V→Hp→VK→Prop:=fun xs H Q=>F7 K xs H Q
section
variable {X:Cx}
theorem wO:dH X (.builtin "divmod") (fun xs H Q=>bE fun i j=>xs=[.int i,.int j]∧yh i j∧∀p,H p=none→Q (.ref p) (aG H p (.tup [.int (i / j),.int (i % j)]))):=by
 intro pins s σ H xs us Q I r h
 obtain ⟨i,j,rfl,⟨h1,h2⟩,q⟩:=h
 obtain ⟨u,w',rfl,⟨t,rfl⟩,⟨t',rfl⟩⟩:=yA r
 refine divmod_int (by trivial) ?_ (.inl (PyProof.noPylong_of_log2 h2))
 rw [Int.fdiv_eq_ediv_of_nonneg i (by trivial),Int.fmod_eq_emod_of_nonneg i (by trivial)]
 have hn:H s.heap.objs.size=none:=I.hok.fresh (Nat.le_refl _)
 refine ⟨.ref s.heap.objs.size,_,?_,rfl,q _ hn⟩
 refine I.laid (fun b o e=>Heap.get?_push_of_some _ e) (Nat.le_refl _) ⟨by simp only [List.length_cons,List.length_nil];rw [sizeLine_eq];decide,[.int (i / j) s.toks,.int (i % j) (s.toks+1)],.cons ⟨()⟩ (.cons ⟨()⟩ .nil),?_⟩
 exact ⟨⟨_,Heap.get?_push_size s.heap rfl,rfl,0,rfl⟩,_,Heap.get?_push_size s.heap rfl,rfl⟩
end
theorem HH (c:Bool):-(2 ^ 64)<(if c=true then (1:Int) else 0)∧(if c=true then (1:Int) else 0)<2 ^ 64:=by cases c <;> decide
theorem wu (x:Int):0≤(if x<0 then -x else x):=by split <;> trivial
theorem FX {x:Int} (c:Bool) (h:0≤x):0≤x*(if c=true then (1:Int) else 0):=by cases c <;> simp [h]
theorem xr {ms:List Int}{k:Int} (h0:0≤k) (h:k.toNat<ms.length):mh (ms.map V.int) k=some (V.int ms[k.toNat]):=by
 have q:=gu (xs:=ms.map V.int) (j:=k.toNat) (v:=V.int ms[k.toNat]) (by rw [List.getElem?_map];simp [h])
 rwa [Int.toNat_of_nonneg h0] at q
inductive Bx (H:Hp) (b:Addr) (t:Int):Prop
 | mk (c x:Int) (h0:H b=some (.lst [.int c,.int x,.int t])) (h1:0≤c) (h2:0≤x) (h3:x<2147483647)
abbrev Eb (b:Addr):Addr→Prop:=fun a=>a=b
theorem Bx.same {H H':Hp}{b:Addr}{t:Int} (h:Bx H b t) (k:ad H H'):Bx H' b t:=by
 obtain ⟨c,x,e,r,r2,r3⟩:=h
 exact ⟨c,x,k _ _ e,r,r2,r3⟩
theorem u6 {H H1:Hp}{b:Addr}{xs:List V}{o:HO} (k:ad H H1) (hb:H1 b=some (.lst xs)):ao (Eb b) H (aG H1 b o):=
 ⟨fun a u n h=>by rw [ay n];exact k a u h,fun a ys h=>by
  have e:=k a _ h
  rw [ay (eO e hb (by intro z;cases z))];exact e⟩
inductive De (K:PySem.W.Frag) (vs:List V) (H:Hp) (Q:VK):Prop
 | mk (a:Addr) (ms:List Int) (k:Int) (h0:vs=[.ref a,.int k]) (h1:ah K H a (ms.map V.int)) (h2:0≤k) (h3:k≤63) (h4:∀p H',H p=none→ad H H'→Bx H' p 0→Q (.ref p) H')
def Gi (K:PySem.W.Frag):Sp:=fun vs H Q _=>De K vs H Q
inductive BH (vs:List V) (H:Hp) (Q:VK):Prop
 | mk (b:Addr) (many t:Int) (h0:vs=[.ref b,.int many]) (h1:Bx H b t) (h2:0<many) (h3:many.natAbs.log2<9000) (h4:0≤t) (h5:t≤1000000) (h6:∀r t' H',0≤r→r<many→t≤t'→t'≤t+1→ao (Eb b) H H'→Bx H' b t'→Q (.int r) H')
def E2:Sp:=fun vs H Q _=>BH  vs H Q
def wM:List Str→Bool
 | []=>true
 | x :: r=>!r.contains x && wM r
theorem wg:∀l:List Str,wM l=true→l.Nodup
 | [],_=>List.nodup_nil
 | x :: r,h=>by
  unfold wM at h
  simp only [Bool.and_eq_true,Bool.not_eq_true',List.contains_eq_mem,decide_eq_false_iff_not] at h
  exact List.nodup_cons.mpr ⟨h.1,wg r h.2⟩
inductive Ft (K:PySem.W.Frag) (xs:List V) (H:Hp) (Q:VK):Prop
 | mk (p:_) (ys:_) (h0:xs=[.ref p]) (h1:(ah K H p ys∨aa K H p ys)) (h2:Q (.int ys.length) H)
def GT (K:PySem.W.Frag):List V→Hp→VK→Prop:=fun xs H Q=>Ft K xs H Q
section
variable {X:Cx}{K:PySem.W.Frag}
theorem iC (e:X.K=K:=by rfl):dH X (.builtin "isinstance") (GH K):=by subst e;exact fun pins s σ H xs us Q I r ⟨x,T,t,b,h1,h2,h3,q⟩=>wZ pins s σ H xs us Q I r ⟨x,T,t,b,h1,h2,h3,q⟩
theorem jL (e:X.K=K:=by rfl):dH X (.builtin "len") (GT K):=by subst e;exact fun pins s σ H xs us Q I r ⟨p,ys,h1,h2,q⟩=>qw pins s σ H xs us Q I r ⟨p,ys,h1,h2,q⟩
theorem Hn (e:X.K=K:=by rfl):nQ X (Gs K):=by subst e;exact jf
theorem Fz (e:X.K=K:=by rfl):nQ X (AH K):=by subst e;exact xk
theorem Fs (e:X.K=K:=by rfl):nQ X (Av K):=by subst e;exact zN
theorem Dq (e:X.K=K:=by rfl):de X (compareOp .In) (Gy K false):=by subst e;exact y9
inductive Fy (K:PySem.W.Frag) (xs:List V) (H:Hp) (Q:VK):Prop
 | mk (l:Addr) (bs:List Bool) (h0:xs=[.ref l]) (h1:ah K H l (bs.map V.bl)) (h2:Q (.bl (bs.all id)) H)
def Hu (K:PySem.W.Frag):List V→Hp→VK→Prop:=fun xs H Q=>Fy K xs H Q
theorem vK (hc:X.calm=true) (e:X.K=K:=by rfl):dH X (.builtin "all") (Hu K):=by subst e;exact fun pins s σ H xs us Q I r ⟨l,bs,h1,h2,q⟩=>Ak hc pins s σ H xs us Q I r ⟨l,bs,h1,h2,q⟩
theorem aQ {pos:Pos}{es:List Expr}{k:Nat}{t:rj}{n:Nat} (hc:X.calm=true) (h:zF X es t) (e:X.K=K:=by rfl)
 (hn:(assignEach es X.env).length=n:=by rfl) (hst:(assignEach es X.env).findIdx? (·.1)=none:=by rfl):PG X (.Tuple es k pos) (AA K n t):=by
 subst e;exact zO hc h hn hst
theorem jR {tg l:Expr}{tl:TE} (hl:PE X l tl) (e:X.K=K:=by rfl):PI X tg l (Bl K tl):=by subst e;exact BE hl
theorem dD {tg l:Expr}{tl:TE} (hl:PE X l tl) (e:X.K=K:=by rfl):PI X tg l (EU K tl):=by subst e;exact C0 hl
end
end L2
namespace L2
open PySem PySem.Spec PyProof.Rows
def uA:Expr→Bool
 | .Starred ..=>false
 | _=>true
theorem yZ {e:Expr}{es:List Expr}{env:Env} (h:uA e=true):starEach (e :: es) env=(false,eval e env) :: starEach es env:=by
 cases e <;> first | rfl | (simp [uA] at h)
section
variable {X:Cx}{e:Expr}{es:List Expr}{te:TE}{t:TA}
theorem C1 (ha:PE X e te) (hr:PA X es t) (hs:uA e=true:=by rfl):PA X (e :: es) (Bo te t):=dm ha hr (yZ hs)
theorem pw (i:Nat) {x:Str}{pos:Pos} (hv:Bu X.env.scope x) (hN:X.N[i]?=some x:=by rfl) (hd:(x==("__debug__" : Str))=false:=by decide) (hcd:(x==("__classdict__" : Str))=false:=by decide):PE X (.Name x pos) (AW i):=yG hN hv hd hcd
end
end L2
namespace KM
theorem gcd_fmod (n d:Int):Int.gcd d (n.fmod d)=Int.gcd n d:=by
 apply Nat.dvd_antisymm
 ·apply Int.dvd_gcd
  ·have h1:((Int.gcd d (n.fmod d):Nat):Int) ∣ d:=Int.gcd_dvd_left ..
   have h2:((Int.gcd d (n.fmod d):Nat):Int) ∣ n.fmod d:=Int.gcd_dvd_right ..
   have h3:=Int.dvd_add h2 (Int.dvd_mul_of_dvd_left (c:=n.fdiv d) h1)
   rw [Int.fmod_add_mul_fdiv] at h3
   exact h3
  ·exact Int.gcd_dvd_left ..
 ·apply Int.dvd_gcd
  ·exact Int.gcd_dvd_right ..
  ·rw [Int.fmod_def]
   exact Int.dvd_sub (Int.gcd_dvd_left ..) (Int.dvd_mul_of_dvd_left (Int.gcd_dvd_right ..))
theorem fmod_natAbs_lt (n d:Int) (h:d≠0):(n.fmod d).natAbs<d.natAbs:=by
 rcases Int.lt_trichotomy d 0 with hd | hd | hd
 ·have e:n.fmod d=-((-n).fmod (-d)):=by
   rw [Int.fmod_def,Int.fmod_def]
   have:(-n).fdiv (-d)=n.fdiv d:=Int.neg_fdiv_neg n d
   rw [this,Int.neg_mul];trivial
  have h1:=Int.fmod_nonneg_of_pos (-n) (b:=-d) (by trivial)
  have h2:=Int.fmod_lt_of_pos (-n) (b:=-d) (by trivial)
  trivial
 ·exact absurd hd h
 ·have h1:=Int.fmod_nonneg_of_pos n hd
  have h2:=Int.fmod_lt_of_pos n hd
  trivial
theorem gcd_zero_abs (n:Int):((Int.gcd n 0:Nat):Int)=if n<0 then -n else n:=by
 rw [Int.gcd_zero_right]
 split <;> trivial
theorem gcd_emod (n d:Int):Int.gcd d (n % d)=Int.gcd n d:=by
 by_cases h:d=0
 ·subst h;rw [Int.emod_zero,Int.gcd_comm]
 ·apply Nat.dvd_antisymm
  ·apply Int.dvd_gcd
   ·have h1:((Int.gcd d (n % d):Nat):Int) ∣ d:=Int.gcd_dvd_left ..
    have h2:((Int.gcd d (n % d):Nat):Int) ∣ n % d:=Int.gcd_dvd_right ..
    have h3:=Int.dvd_add h2 (Int.dvd_mul_of_dvd_left (c:=n / d) h1)
    rw [Int.emod_add_mul_ediv] at h3
    exact h3
   ·exact Int.gcd_dvd_left ..
  ·apply Int.dvd_gcd
   ·exact Int.gcd_dvd_right ..
   ·rw [Int.emod_def]
    exact Int.dvd_sub (Int.gcd_dvd_left ..) (Int.dvd_mul_of_dvd_left (Int.gcd_dvd_right ..))
end KM
namespace KM
def low (n d:Int):Int×Int:=if 0<d then (n / (Int.gcd n d:Nat),d / (Int.gcd n d:Nat)) else (-n / (Int.gcd n d:Nat),-d / (Int.gcd n d:Nat))
theorem gcd_pos {n d:Int} (h:d≠0):0<Int.gcd n d:=by
 apply Nat.pos_of_ne_zero
 intro e
 exact h (Int.gcd_eq_zero_iff.mp e).2
theorem gcd_abs (n d:Int):Int.gcd (if n<0 then -n else n) (if d<0 then -d else d)=Int.gcd n d:=by
 split <;> split <;> simp [Int.gcd_neg,Int.neg_gcd]
theorem low_spec (n d:Int) (h:d≠0):1≤(low n d).2∧(low n d).1*d=n*(low n d).2∧Int.gcd (low n d).1 (low n d).2=1∧(low n d).1.natAbs≤n.natAbs∧(low n d).2.natAbs≤d.natAbs:=by
 have g0:=gcd_pos (n:=n) h
 have gi:((Int.gcd n d:Nat):Int)≠0:=by trivial
 have d1:((Int.gcd n d:Nat):Int) ∣ n:=Int.gcd_dvd_left ..
 have d2:((Int.gcd n d:Nat):Int) ∣ d:=Int.gcd_dvd_right ..
 obtain ⟨a,ha⟩:=d1
 obtain ⟨b,hb⟩:=d2
 have ea:n / ((Int.gcd n d:Nat):Int)=a:=by
  conv=>lhs;lhs;rw [ha]
  exact Int.mul_ediv_cancel_left _ gi
 have eb:d / ((Int.gcd n d:Nat):Int)=b:=by
  conv=>lhs;lhs;rw [hb]
  exact Int.mul_ediv_cancel_left _ gi
 have ena:-n / ((Int.gcd n d:Nat):Int)=-a:=by
  have:-n=((Int.gcd n d:Nat):Int)*(-a):=by rw [Int.mul_neg];trivial
  rw [this]
  exact Int.mul_ediv_cancel_left _ gi
 have enb:-d / ((Int.gcd n d:Nat):Int)=-b:=by
  have:-d=((Int.gcd n d:Nat):Int)*(-b):=by rw [Int.mul_neg];trivial
  rw [this]
  exact Int.mul_ediv_cancel_left _ gi
 have hco:Int.gcd a b=1:=by
  have:=Int.gcd_ediv_gcd_ediv_gcd (i:=n) (j:=d) g0
  rw [ea,eb] at this
  exact this
 have hgp:(0:Int)<((Int.gcd n d:Nat):Int):=by trivial
 have habs:n.natAbs=Int.gcd n d*a.natAbs:=by
  conv=>lhs;rw [ha]
  rw [Int.natAbs_mul];rfl
 have hbbs:d.natAbs=Int.gcd n d*b.natAbs:=by
  conv=>lhs;rw [hb]
  rw [Int.natAbs_mul];rfl
 have la:a.natAbs≤n.natAbs:=by rw [habs];exact Nat.le_mul_of_pos_left _ g0
 have lb:b.natAbs≤d.natAbs:=by rw [hbbs];exact Nat.le_mul_of_pos_left _ g0
 have hab:a*d=n*b:=by
  generalize ((Int.gcd n d:Nat):Int)=g at ha hb
  subst ha hb
  rw [Int.mul_comm g a,Int.mul_assoc]
 unfold low
 split
 ·rename_i hd
  refine ⟨?_,?_,?_,?_,?_⟩
  ·show 1≤d / _
   rw [eb]
   have:0<b:=by
    apply Int.pos_of_mul_pos_right (a:=((Int.gcd n d:Nat):Int)) _ hgp
    rw [←hb];exact hd
   trivial
  ·show n / _*d=n*(d / _)
   rw [ea,eb];exact hab
  ·show Int.gcd (n / _) (d / _)=1
   rw [ea,eb];exact hco
  ·show (n / _).natAbs≤_
   rw [ea];exact la
  ·show (d / _).natAbs≤_
   rw [eb];exact lb
 ·rename_i hd
  refine ⟨?_,?_,?_,?_,?_⟩
  ·show 1≤-d / _
   rw [enb]
   have:0 < -b:=by
    apply Int.pos_of_mul_pos_right (a:=((Int.gcd n d:Nat):Int)) _ hgp
    rw [Int.mul_neg,←hb];trivial
   trivial
  ·show -n / _*d=n*(-d / _)
   rw [ena,enb,Int.neg_mul,Int.mul_neg,hab]
  ·show Int.gcd (-n / _) (-d / _)=1
   rw [ena,enb,Int.gcd_neg,Int.neg_gcd];exact hco
  ·show (-n / _).natAbs≤_
   rw [ena,Int.natAbs_neg];exact la
  ·show (-d / _).natAbs≤_
   rw [enb,Int.natAbs_neg];exact lb
end KM
namespace KM
theorem v0 {n d a b:Int} (hd:d≠0) (hb:1≤b) (hg:Int.gcd a b=1) (he:a*d=n*b):low n d=(a,b):=by
 obtain ⟨h1,h2,h3,_,_⟩:=low_spec n d hd
 generalize low n d=z at *
 obtain ⟨x,y⟩:=z
 dsimp only at h1 h2 h3
 have e1:x*b=a*y:=by
  apply Int.eq_of_mul_eq_mul_right hd
  calc x*b*d=(x*d)*b:=by rw [Int.mul_assoc,Int.mul_comm b d,←Int.mul_assoc]
   _=n*y*b:=by rw [h2]
   _=(n*b)*y:=by rw [Int.mul_assoc,Int.mul_comm y b,←Int.mul_assoc]
   _=a*d*y:=by rw [he]
   _=a*y*d:=by rw [Int.mul_assoc,Int.mul_comm d y,←Int.mul_assoc]
 have d1:y ∣ b:=by
  apply Int.natAbs_dvd_natAbs.mp
  apply Nat.Coprime.dvd_of_dvd_mul_left (k:=y.natAbs) (m:=x.natAbs)
  ·show Nat.gcd y.natAbs x.natAbs=1
   rw [Nat.gcd_comm];exact h3
  ·rw [←Int.natAbs_mul]
   exact Int.natAbs_dvd_natAbs.mpr ⟨a,by rw [e1,Int.mul_comm]⟩
 have d2:b ∣ y:=by
  apply Int.natAbs_dvd_natAbs.mp
  apply Nat.Coprime.dvd_of_dvd_mul_left (k:=b.natAbs) (m:=a.natAbs)
  ·show Nat.gcd b.natAbs a.natAbs=1
   rw [Nat.gcd_comm];exact hg
  ·rw [←Int.natAbs_mul]
   exact Int.natAbs_dvd_natAbs.mpr ⟨x,by rw [←e1,Int.mul_comm]⟩
 have e2:y=b:=Int.dvd_antisymm (by trivial) (by trivial) d1 d2
 subst e2
 have e3:x=a:=Int.eq_of_mul_eq_mul_right (by trivial) e1
 rw [e3]
theorem A4 {a b:Int} (hb:1≤b) (hg:Int.gcd a b=1):low a b=(a,b):=v0 (by trivial) hb hg rfl
section
variable {p0 p1 q0 q1:Int}
end
theorem fdiv_low {n d:Int} (hd:d≠0):(n.fdiv (if d<0 then -((Int.gcd n d:Nat):Int) else ((Int.gcd n d:Nat):Int)),d.fdiv (if d<0 then -((Int.gcd n d:Nat):Int) else ((Int.gcd n d:Nat):Int)))=low n d:=by
 have g0:(0:Int)≤((Int.gcd n d:Nat):Int):=Int.natCast_nonneg _
 unfold low
 by_cases h:d<0
 ·rw [if_pos h,if_neg (by trivial)]
  have e:∀x:Int,x.fdiv (-((Int.gcd n d:Nat):Int))=-x / ((Int.gcd n d:Nat):Int):=fun x=>by
   rw [←Int.fdiv_eq_ediv_of_nonneg _ g0,←Int.neg_fdiv_neg,Int.neg_neg]
  rw [e,e]
 ·rw [if_neg h,if_pos (by trivial),Int.fdiv_eq_ediv_of_nonneg _ g0,Int.fdiv_eq_ediv_of_nonneg _ g0]
end KM
namespace KM
abbrev Fra:=Int×Int
def ladd (t p:Fra):Fra:=low (t.1*p.2+p.1*t.2) (t.2*p.2)
def sumF (ps:List Fra):Fra:=ps.foldl ladd (0,1)
theorem wX {p q:Fra} (hp:1≤p.2) (hq:1≤q.2) (gp:Int.gcd p.1 p.2=1) (gq:Int.gcd q.1 q.2=1) (h:q.1*p.2=p.1*q.2):p=q:=by
 have e1:=A4 hp gp
 have e2:=v0 (n:=p.1) (d:=p.2) (a:=q.1) (b:=q.2) (by trivial) hq gq h
 rw [e1] at e2
 exact e2
theorem low_sgn {n d:Int} (hd:0<d):(0<(low n d).1↔0<n)∧((low n d).1<0↔n<0):=by
 obtain ⟨h1,h2,_,_,_⟩:=low_spec n d (by trivial)
 generalize low n d=z at *
 obtain ⟨x,y⟩:=z
 dsimp only at *
 have hy:0<y:=by trivial
 constructor
 ·constructor
  ·intro h
   have:0<x*d:=Int.mul_pos h hd
   rw [h2] at this
   exact Int.pos_of_mul_pos_left this hy
  ·intro h
   have:0<n*y:=Int.mul_pos h hy
   rw [←h2] at this
   exact Int.pos_of_mul_pos_left this hd
 ·constructor
  ·intro h
   have:x*d<0:=Int.mul_neg_of_neg_of_pos h hd
   rw [h2] at this
   apply Decidable.byContradiction
   intro hn
   have:=Int.mul_nonneg (show 0≤n by trivial) (show 0≤y by trivial)
   trivial
  ·intro h
   have:n*y<0:=Int.mul_neg_of_neg_of_pos h hy
   rw [←h2] at this
   apply Decidable.byContradiction
   intro hn
   have:=Int.mul_nonneg (show 0≤x by trivial) (show 0≤d by trivial)
   trivial
end KM
namespace KM
def vl (p:Fra):Rat:=Rat.divInt p.1 p.2
def Rd (p:Fra):Prop:=1≤p.2∧Int.gcd p.1 p.2=1
theorem Rd.low {n d:Int} (h:d≠0):Rd (KM.low n d):=⟨(low_spec n d h).1,(low_spec n d h).2.2.1⟩
theorem wQ {n d:Int} (h:d≠0):vl (low n d)=Rat.divInt n d:=by
 obtain ⟨h1,h2,_⟩:=low_spec n d h
 exact (Rat.divInt_eq_divInt_iff (by trivial) h).mpr (by rw [h2])
theorem Rd.eq {p q:Fra} (hp:Rd p) (hq:Rd q) (h:vl p=vl q):p=q:=by
 have:=(Rat.divInt_eq_divInt_iff (d₁:=p.2) (d₂:=q.2) (by have:=hp.1;trivial) (by have:=hq.1;trivial)).mp h
 exact wX hp.1 hq.1 hp.2 hq.2 this.symm
theorem Rd.nz {p:Fra} (h:Rd p):p.2≠0:=by have:=h.1;trivial
theorem nM {a b:Int} (h:a≠0) (k:b≠0):a*b≠0:=Int.mul_ne_zero h k
theorem vl_add {p q:Fra} (hp:p.2≠0) (hq:q.2≠0):vl (ladd p q)=vl p+vl q:=by
 unfold ladd
 rw [wQ (nM hp hq)]
 exact (Rat.divInt_add_divInt _ _ hp hq).symm
def lTim (p q:Fra):Fra:=low (p.1*q.1) (p.2*q.2)
def lTak (p q:Fra):Fra:=low (p.1*q.2 - q.1*p.2) (p.2*q.2)
theorem vl_tim {p q:Fra} (hp:p.2≠0) (hq:q.2≠0):vl (lTim p q)=vl p*vl q:=by
 unfold lTim
 rw [wQ (nM hp hq)]
 exact (Rat.divInt_mul_divInt _ _).symm
theorem vl_tak {p q:Fra} (hp:p.2≠0) (hq:q.2≠0):vl (lTak p q)=vl p - vl q:=by
 unfold lTak
 rw [wQ (nM hp hq)]
 exact (Rat.divInt_sub_divInt _ _ hp hq).symm
theorem Rd.add {p q:Fra} (hp:Rd p) (hq:Rd q):Rd (ladd p q):=Rd.low (nM hp.nz hq.nz)
theorem Rd.tim {p q:Fra} (hp:Rd p) (hq:Rd q):Rd (lTim p q):=Rd.low (nM hp.nz hq.nz)
theorem Rd.tak {p q:Fra} (hp:Rd p) (hq:Rd q):Rd (lTak p q):=Rd.low (nM hp.nz hq.nz)
theorem Rd.zero:Rd (0,1):=⟨by decide,by decide⟩
theorem Cb:vl (0,1)=0:=Rat.zero_divInt 1
def rsum (xs:List Rat):Rat:=xs.foldr (·+·) 0
theorem rsum_app (xs ys:List Rat):rsum (xs++ys)=rsum xs+rsum ys:=by
 induction xs with
 | nil=>show rsum ys=0+rsum ys;grind
 | cons x r ih=>show x+rsum (r++ys)=x+rsum r+rsum ys;rw [ih];grind
theorem zf:∀(ps:List Fra) (t:Fra),Rd t→(∀p∈ps,Rd p)→Rd (ps.foldl ladd t)∧vl (ps.foldl ladd t)=vl t+rsum (ps.map vl)
 | [],t,ht,_=>⟨ht,by show vl t=vl t+0;grind⟩
 | p :: r,t,ht,h=>by
  have hp:=h p (by simp)
  obtain ⟨a,b⟩:=zf r (ladd t p) (ht.add hp) fun q hq=>h q (List.mem_cons_of_mem _ hq)
  refine ⟨a,?_⟩
  show vl (r.foldl ladd (ladd t p))=vl t+(vl p+rsum (r.map vl))
  rw [b,vl_add ht.nz hp.nz]
  grind
theorem sumF_vl {ps:List Fra} (h:∀p∈ps,Rd p):Rd (sumF ps)∧vl (sumF ps)=rsum (ps.map vl):=by
 obtain ⟨a,b⟩:=zf ps (0,1) Rd.zero h
 refine ⟨a,?_⟩
 show vl (ps.foldl ladd (0,1))=_
 rw [b,Cb]
 grind
end KM
namespace L2
open PySem PySem.Spec PyProof.Rows
section
variable {prog:Program}{w:World}{A:Around}{E:Value→Shared→Prop}{s:Shared}
theorem yq {it t:Addr}{i:Nat}{its:Array Value}{x:Value}{Q:Value→Shared→Prop} (hit:s.heap.IsTupleIter it t i) (ht:s.heap.IsTuple t its) (hx:its[i]?=some x)
 (q:∀h',h'.IsTupleIter it t (i+1)→Heap.SameBut it s.heap h'→Q x { s with heap:=h' }):wpAny (model prog w) A (Builtin.SmallTypes.nextOf (.ref it)) Q E s:=by
 obtain ⟨o,e1,e2,e3⟩:=id hit;obtain ⟨u,e4,_,k,e5⟩:=ht;unfold Builtin.SmallTypes.nextOf
 refine wpAny_bind (wpAny_callSpecial?_slot (name:=Str.ofString "__next__") hit.typeIs F.slot_tuple_iterator_next (wpAny_call_entry F.slot_tuple_iterator_next hit.typeIs F.entry_tuple_iterator_next ?_ (F.args_tuple_iterator_next_1 _)))
 show wpAny _ _ (field (.ref it) 0 >>= _) _ _ s;refine wpAny_bind (wpAny_field e1 e3 (x:=.ref t) rfl ?_)
 show wpAny _ _ (if (Value.ref t==Value.none)=true then _ else _) _ _ s;rw [if_neg (show ¬((Value.ref t==Value.none)=true) from Bool.false_ne_true)]
 show wpAny _ _ (field (.ref it) 1 >>= _) _ _ s;refine wpAny_bind (wpAny_field e1 e3 (x:=.int i 0) rfl ?_)
 show wpAny _ _ (seqItems? (.ref t) >>= _) _ _ s;refine wpAny_bind (wpAny_seqItems e4 e5 ?_)
 simp only [Int.toNat_natCast,hx];refine wpAny_bind (wpAny_setField e1 e3 (by simp) (wpAny_pure ⟨x,rfl,wpAny_pure (q _ ?_ (Heap.SameBut.update ..))⟩))
 exact ⟨_,Heap.get?_update_self _ e1 (Obj.isFreed_of_fields (Obj.data_mapFields e3 _)),(Obj.cls_mapFields ..).trans e2,by rw [Obj.data_mapFields e3];simp [rawInt]⟩
theorem vF {it t:Addr}{i:Nat}{its:Array Value}{Q:Value→Shared→Prop} (hh:A.handled=none) (hit:s.heap.IsTupleIter it t i) (ht:s.heap.IsTuple t its) (hx:its[i]?=none)
 (q:∀h' e,Heap.ExtBut it s.heap h'→(∃o,h'.get? e=some o∧o.cls=.type "StopIteration")→E (.ref e) { s with heap:=h' }):wpAny (model prog w) A (Builtin.SmallTypes.nextOf (.ref it)) Q E s:=by
 obtain ⟨o,e1,e2,e3⟩:=id hit;obtain ⟨u,e4,_,k,e5⟩:=ht;unfold Builtin.SmallTypes.nextOf
 refine wpAny_bind (wpAny_callSpecial?_slot (name:=Str.ofString "__next__") hit.typeIs F.slot_tuple_iterator_next (wpAny_call_entry F.slot_tuple_iterator_next hit.typeIs F.entry_tuple_iterator_next ?_ (F.args_tuple_iterator_next_1 _)))
 show wpAny _ _ (field (.ref it) 0 >>= _) _ _ s;refine wpAny_bind (wpAny_field e1 e3 (x:=.ref t) rfl ?_)
 show wpAny _ _ (if (Value.ref t==Value.none)=true then _ else _) _ _ s;rw [if_neg (show ¬((Value.ref t==Value.none)=true) from Bool.false_ne_true)]
 show wpAny _ _ (field (.ref it) 1 >>= _) _ _ s;refine wpAny_bind (wpAny_field e1 e3 (x:=.int i 0) rfl ?_)
 show wpAny _ _ (seqItems? (.ref t) >>= _) _ _ s;refine wpAny_bind (wpAny_seqItems e4 e5 ?_)
 simp only [Int.toNat_natCast,hx];refine wpAny_bind (wpAny_rule (wpAny_bind (wpAny_setField e1 e3 (by simp) ?_)))
 show wpAny _ _ (newExc (.type "StopIteration") [] >>= _) _ _ _;refine wpAny_bind ?_;simp only [newExc,newTuple]
 refine wpAny_bind (wpAny_newObj_type ?_ (by size_fits));refine wpAny_bind (m:=firstArgMember _ _) (wpAny_of_eq (a:=Value.none) (by first | rfl | (simp only [firstArgMember];rfl)) ?_);refine wpAny_newObj_type ?_ (by size_fits)
 simp only [raiseNew];refine wpAny_bind (wpAny_handled ?_);first | rw [show A.in1.handled=none from hh] | rw [hh]
 refine wpAny_bind (wpAny_pure (wpAny_throw ?_));exact q _ _ (((Heap.SameBut.update ..).extBut.push _).push _) ⟨_,Heap.get?_push_size _ rfl,rfl⟩
end
def fM (h:Heap) (l:Addr) (its:Array Value):Bool→Prop
 | true=>h.IsList l its
 | false=>h.IsTuple l its
def dM (h:Heap) (it l:Addr) (i:Nat):Bool→Prop
 | true=>h.IsListIter it l i
 | false=>h.IsTupleIter it l i
theorem fM.at {h h':Heap}{l:Addr}{its:Array Value}:∀{b:Bool},fM h l its b→(∀o,h.get? l=some o→h'.get? l=some o)→fM h' l its b
 | true,q,k=>Heap.IsList.at q k
 | false,q,k=>Heap.IsTuple.at q k
theorem dM.at {h h':Heap}{it l:Addr}{i:Nat}:∀{b:Bool},dM h it l i b→(∀o,h.get? it=some o→h'.get? it=some o)→dM h' it l i b
 | true,q,k=>Heap.IsListIter.at q k
 | false,q,k=>Heap.IsTupleIter.at q k
theorem fM.lt {h:Heap}{l:Addr}{its:Array Value}:∀{b:Bool},fM h l its b→l<h.objs.size
 | true,⟨_,e,_⟩=>Heap.lt_size e
 | false,⟨_,e,_⟩=>Heap.lt_size e
theorem dM.some {h:Heap}{it l:Addr}{i:Nat}:∀{b:Bool},dM h it l i b→∃o,h.get? it=some o∧∀v,o.data≠.cell v
 | true,⟨o,e,_,d⟩=>⟨o,e,fun v z=>by rw [d] at z;cases z⟩
 | false,⟨o,e,_,d⟩=>⟨o,e,fun v z=>by rw [d] at z;cases z⟩
theorem nu {prog:Program}{w:World}{A:Around} (hh:A.handled=none) (it l:Addr) (hne:l≠it) (its:Array Value):∀b:Bool,
 Draws prog w A it [it,l] its.size (fun i v=>its[i]?=some v) (fun i h=>dM h it l i b∧fM h l its b)
 | true=>Draws.list hh it l hne its
 | false=>{
  live:=fun _ _ st=>let ⟨o,ho,_⟩:=st.1;⟨o,ho⟩
  frame:=fun _ _ _ st hk=>⟨Heap.IsTupleIter.at st.1 fun o e=>hk it (by simp) o e,Heap.IsTuple.at st.2 fun o e=>hk l (by simp) o e⟩
  item:=fun i s Q E hi st q=>yq st.1 st.2 (x:=its[i]) (by simp [hi]) fun h' it' same=>q _ h' s.toks (by simp [hi]) ⟨it',Heap.IsTuple.extBut st.2 same.extBut hne⟩ same
  done:=fun s Q E st q=>vF hh st.1 st.2 (by simp) q }
structure qj (z TI TO i1 i2:Addr):Prop where
 a1:TI≠z
 a2:TO≠z
 a3:i1≠z
 a4:i2≠z
 a5:TI≠TO
 a6:TI≠i1
 a7:TI≠i2
 a8:TO≠i1
 a9:TO≠i2
 a0:i1≠i2
section
variable {prog:Program}{w:World}{A:Around}{E:Value→Shared→Prop}{s:Shared}
variable {z TI TO i1 i2 l1 l2:Addr}{k:Nat}{xs ys:Array Value}{a b:Value}{c1 c2:Bool}
theorem BP {x y:Value}{Q:Value→Shared→Prop} (D:qj z TI TO i1 i2) (n1:∀c,c=l1∨c=l2→c≠z∧c≠TO∧c≠i1∧c≠i2)
 (hz:IsZip s.heap z TI TO .none) (hTI:IsPair s.heap TI (.ref i1) (.ref i2)) (hTO:IsPair s.heap TO a b) (hh:A.handled=none)
 (h1:dM s.heap i1 l1 k c1) (h2:dM s.heap i2 l2 k c2) (q1:fM s.heap l1 xs c1) (q2:fM s.heap l2 ys c2) (hx:xs[k]?=some x) (hy:ys[k]?=some y)
 (hQ:∀h' tk,IsZip h' z TI TO (rawInt s.heap.objs.size)→IsPair h' TO x y→dM h' i1 l1 (k+1) c1→dM h' i2 l2 (k+1) c2→IsPair h' s.heap.objs.size x y→h'.objs.size=s.heap.objs.size+1→
  (∀c o,c≠z→c≠TO→c≠i1→c≠i2→s.heap.get? c=some o→h'.get? c=some o)→Q (.ref s.heap.objs.size) { s with heap:=h',toks:=tk }) :
 wpAny (model prog w) A (Builtin.«zip.__next__» ⟨[.ref z],[]⟩) (fun fin s'=>∃v,fin=.done (.ret v)∧Q v s') E s:=by
 obtain ⟨m1,m2,m3,m4⟩:=n1 l1 (.inl rfl)
 obtain ⟨m5,m6,m7,m8⟩:=n1 l2 (.inr rfl)
 have kx:k<xs.size:=(Array.getElem?_eq_some_iff.mp hx).1
 have ky:k<ys.size:=(Array.getElem?_eq_some_iff.mp hy).1
 have D1:=nu (prog:=prog) (w:=w) hh i1 l1 m3 xs c1
 have D2:=nu (prog:=prog) (w:=w) hh i2 l2 m8 ys c2
 show wpAny _ _ (field (.ref z) 2 >>= _) _ _ _;refine wpAny_bind (wpAny_field hz rfl (x:=.bool false) rfl ?_)
 show wpAny _ _ (field (.ref z) 3 >>= _) _ _ _;refine wpAny_bind (wpAny_field hz rfl (x:=.ref TI) rfl (wpAny_bind (wpAny_seqItems hTI rfl ?_)))
 show wpAny _ _ (Builtin.SmallTypes.ownedTupleIsFree (.ref z) >>= _) _ _ _;refine wpAny_bind ?_;unfold Builtin.SmallTypes.ownedTupleIsFree
 refine wpAny_bind (wpAny_field hz rfl (x:=.none) rfl (wpAny_pure ?_));simp only [if_true]
 refine wpAny_bind (wpAny_rule (wpAny_bind (wpAny_field hz rfl (x:=.ref TO) rfl (wpAny_bind (wpAny_setField_rec hz (by simp) fun g1 z1 t1=>?_)))))
 replace z1:IsZip g1 z TI TO .ellipsis:=z1
 refine wpAny_bind ?_;simp only [List.zipIdx_cons,List.zipIdx_nil,List.forIn_cons,List.forIn_nil];refine wpAny_bind (wpAny_bind (wpAny_onRaise ?_))
 show wpAny _ _ (Builtin.SmallTypes.nextOf (.ref i1) >>= _) _ _ _
 refine wpAny_bind (D1.item k _ _ _ kx ⟨h1.at fun o e=>t1.extBut _ _ D.a3 e,q1.at fun o e=>t1.extBut _ _ m1 e⟩ fun x' g2 tk2 p1 st1 t2=>wpAny_pure ?_)
 have ex:x=x':=Option.some.inj (hx.symm.trans p1)
 subst ex
 have TO2:IsPair g2 TO a b:=t2.extBut _ _ D.a8 (t1.extBut _ _ D.a2 hTO)
 refine wpAny_bind (wpAny_seqItems TO2 rfl (wpAny_bind (wpAny_updateSeq_pair TO2 fun g3 TO3 t3=>?_)))
 replace TO3:IsPair g3 TO x b:=TO3
 refine wpAny_bind (wpAny_letGo (wpAny_pure ?_));refine wpAny_bind (wpAny_bind (wpAny_onRaise ?_));show wpAny _ _ (Builtin.SmallTypes.nextOf (.ref i2) >>= _) _ _ _
 refine wpAny_bind (D2.item k _ _ _ ky ⟨h2.at fun o e=>t3.extBut _ _ D.a9.symm (t2.extBut _ _ D.a0.symm (t1.extBut _ _ D.a4 e)),q2.at fun o e=>t3.extBut _ _ m6 (t2.extBut _ _ m7 (t1.extBut _ _ m5 e))⟩ fun y' g4 tk4 p2 st2 t4=>wpAny_pure ?_)
 have ey:y=y':=Option.some.inj (hy.symm.trans p2)
 subst ey
 have TO4:IsPair g4 TO x b:=t4.extBut _ _ D.a9 TO3
 refine wpAny_bind (wpAny_seqItems TO4 rfl (wpAny_bind (wpAny_updateSeq_pair TO4 fun g5 TO5 t5=>?_)))
 replace TO5:IsPair g5 TO x y:=TO5
 refine wpAny_bind (wpAny_letGo (wpAny_pure (wpAny_pure ?_)));refine wpAny_bind (wpAny_seqItems TO5 rfl (wpAny_bind (wpAny_newTuple ?_)))
 have sz:g5.objs.size=s.heap.objs.size:=by rw [t5.1,t4.1,t3.1,t2.1,t1.1]
 have z5:IsZip g5 z TI TO .ellipsis:=t5.extBut _ _ D.a2.symm (t4.extBut _ _ D.a4.symm (t3.extBut _ _ D.a2.symm (t2.extBut _ _ D.a3.symm z1)))
 have keep:∀c o,c≠z→c≠TO→c≠i1→c≠i2→s.heap.get? c=some o→g5.get? c=some o:=fun c o d1 d2 d3 d4 e=>t5.extBut _ _ d2 (t4.extBut _ _ d4 (t3.extBut _ _ d2 (t2.extBut _ _ d3 (t1.extBut _ _ d1 e))))
 have it1:dM g5 i1 l1 (k+1) c1:=st1.1.at fun o e=>t5.extBut _ _ D.a8.symm (t4.extBut _ _ D.a0 (t3.extBut _ _ D.a8.symm e))
 have it2:dM g5 i2 l2 (k+1) c2:=st2.1.at fun o e=>t5.extBut _ _ D.a9.symm e
 have zlt:z<g5.objs.size:=Heap.lt_size z5
 show wpAny _ _ (Builtin.SmallTypes.ownedTupleHandOut (.ref z) (.ref g5.objs.size) >>= _) _ _ _;refine wpAny_bind ?_;unfold Builtin.SmallTypes.ownedTupleHandOut
 have z6:IsZip (g5.push { cls:=.type "tuple",data:=.seq #[x,y] }) z TI TO .ellipsis:=Heap.get?_push_of_some _ z5
 refine wpAny_bind (wpAny_setField_rec z6 (by simp) fun g7 z7 t7=>?_)
 replace z7:IsZip g7 z TI TO (rawInt g5.objs.size):=z7
 refine wpAny_setField_rec z7 (by simp) fun g8 z8 t8=>?_
 replace z8:IsZip g8 z TI TO (rawInt g5.objs.size):=z8
 have up:∀c o,c≠z→g5.get? c=some o→g8.get? c=some o:=fun c o d e=>t8.extBut _ _ d (t7.extBut _ _ d (Heap.get?_push_of_some _ e))
 have T8:IsPair g8 g5.objs.size x y:=t8.extBut _ _ (Nat.ne_of_gt zlt) (t7.extBut _ _ (Nat.ne_of_gt zlt) (Heap.get?_push_size _ rfl))
 have s8:g8.objs.size=g5.objs.size+1:=by rw [t8.1,t7.1,Heap.size_push]
 rw [sz] at z8 T8 s8
 refine wpAny_pure ⟨(),?_⟩;show Q (.ref g5.objs.size) _;rw [sz]
 exact hQ g8 _ z8 (up _ _ D.a2 TO5) (it1.at fun o e=>up _ o D.a3 e) (it2.at fun o e=>up _ o D.a4 e) T8 s8 fun c o d1 d2 d3 d4 e=>up c o d1 (keep c o d1 d2 d3 d4 e)
theorem DI {Q:Fin→Shared→Prop} (hh:A.handled=none) (D:qj z TI TO i1 i2) (n1:∀c,c=l1∨c=l2→c≠z∧c≠TO∧c≠i1∧c≠i2)
 (hz:IsZip s.heap z TI TO .none) (hTI:IsPair s.heap TI (.ref i1) (.ref i2)) (hTO:IsPair s.heap TO a b)
 (h1:dM s.heap i1 l1 k c1) (h2:dM s.heap i2 l2 k c2) (q1:fM s.heap l1 xs c1) (q2:fM s.heap l2 ys c2) (hend:xs.size=k∨(k<xs.size∧ys.size=k))
 (hE:∀h' e tk,(∀c o,c≠z→c≠TO→c≠i1→c≠i2→s.heap.get? c=some o→h'.get? c=some o)→(∃o,h'.get? e=some o∧o.cls=.type "StopIteration")→E (.ref e) { s with heap:=h',toks:=tk }) :
 wpAny (model prog w) A (Builtin.«zip.__next__» ⟨[.ref z],[]⟩) Q E s:=by
 obtain ⟨m1,m2,m3,m4⟩:=n1 l1 (.inl rfl)
 obtain ⟨m5,m6,m7,m8⟩:=n1 l2 (.inr rfl)
 have D1:=nu (prog:=prog) (w:=w) hh i1 l1 m3 xs c1
 have D2:=nu (prog:=prog) (w:=w) hh i2 l2 m8 ys c2
 show wpAny _ _ (field (.ref z) 2 >>= _) _ _ _;refine wpAny_bind (wpAny_field hz rfl (x:=.bool false) rfl ?_)
 show wpAny _ _ (field (.ref z) 3 >>= _) _ _ _;refine wpAny_bind (wpAny_field hz rfl (x:=.ref TI) rfl (wpAny_bind (wpAny_seqItems hTI rfl ?_)))
 show wpAny _ _ (Builtin.SmallTypes.ownedTupleIsFree (.ref z) >>= _) _ _ _;refine wpAny_bind ?_;unfold Builtin.SmallTypes.ownedTupleIsFree
 refine wpAny_bind (wpAny_field hz rfl (x:=.none) rfl (wpAny_pure ?_));simp only [if_true]
 refine wpAny_bind (wpAny_rule (wpAny_bind (wpAny_field hz rfl (x:=.ref TO) rfl (wpAny_bind (wpAny_setField_rec hz (by simp) fun g1 z1 t1=>?_)))))
 replace z1:IsZip g1 z TI TO .ellipsis:=z1
 refine wpAny_bind ?_;simp only [List.zipIdx_cons,List.zipIdx_nil,List.forIn_cons,List.forIn_nil];refine wpAny_bind (wpAny_bind (wpAny_onRaise ?_))
 show wpAny _ _ (Builtin.SmallTypes.nextOf (.ref i1) >>= _) _ _ _
 have st0:dM g1 i1 l1 k c1∧fM g1 l1 xs c1:=⟨h1.at fun o e=>t1.extBut _ _ D.a3 e,q1.at fun o e=>t1.extBut _ _ m1 e⟩
 rcases hend with hk | ⟨kx,hk⟩
 ·refine wpAny_bind (D1.done _ _ _ (by rw [hk];exact st0) fun g2 e t2 he=>?_)
  obtain ⟨oe,e1,e2⟩:=he
  have z2:IsZip g2 z TI TO .ellipsis:=t2 _ _ D.a3.symm z1
  have ez:e≠z:=fun q=>by subst q;rw [z2] at e1;cases e1;simp at e2
  exact wpAny_setField_rec z2 (by simp) fun g3 _ t3=>hE g3 e _ (fun c o d1 _ d3 _ q=>t3.extBut _ _ d1 (t2 _ _ d3 (t1.extBut _ _ d1 q))) ⟨oe,t3.extBut _ _ ez e1,e2⟩
 ·refine wpAny_bind (D1.item k _ _ _ kx st0 fun x g2 tk2 p1 st1 t2=>wpAny_pure ?_)
  have TO2:IsPair g2 TO a b:=t2.extBut _ _ D.a8 (t1.extBut _ _ D.a2 hTO)
  refine wpAny_bind (wpAny_seqItems TO2 rfl (wpAny_bind (wpAny_updateSeq_pair TO2 fun g3 TO3 t3=>?_)))
  refine wpAny_bind (wpAny_letGo (wpAny_pure ?_));refine wpAny_bind (wpAny_bind (wpAny_onRaise ?_));show wpAny _ _ (Builtin.SmallTypes.nextOf (.ref i2) >>= _) _ _ _
  have st2:dM g3 i2 l2 k c2∧fM g3 l2 ys c2:=⟨h2.at fun o e=>t3.extBut _ _ D.a9.symm (t2.extBut _ _ D.a0.symm (t1.extBut _ _ D.a4 e)),q2.at fun o e=>t3.extBut _ _ m6 (t2.extBut _ _ m7 (t1.extBut _ _ m5 e))⟩
  refine wpAny_bind (D2.done _ _ _ (by rw [hk];exact st2) fun g4 e t4 he=>?_)
  obtain ⟨oe,e1,e2⟩:=he
  have z4:IsZip g4 z TI TO .ellipsis:=t4 _ _ D.a4.symm (t3.extBut _ _ D.a2.symm (t2.extBut _ _ D.a3.symm z1))
  have ez:e≠z:=fun q=>by subst q;rw [z4] at e1;cases e1;simp at e2
  exact wpAny_setField_rec z4 (by simp) fun g5 _ t5=>hE g5 e _ (fun c o d1 d2 d3 d4 q=>t5.extBut _ _ d1 (t4 _ _ d4 (t3.extBut _ _ d2 (t2.extBut _ _ d3 (t1.extBut _ _ d1 q))))) ⟨oe,t5.extBut _ _ ez e1,e2⟩
end
def EX:Bool→String
 | true => "list_iterator"
 | false => "tuple_iterator"
abbrev zA (h:Heap) (l1:Addr) (c1:Bool):Heap:=h.push { cls:=.type (EX c1),data:=.fields #[.ref l1,.int 0 0] }
abbrev zB (h:Heap) (l1 l2:Addr) (c1 c2:Bool):Heap:=(zA h l1 c1).push { cls:=.type (EX c2),data:=.fields #[.ref l2,.int 0 0] }
abbrev zC (h:Heap) (l1 l2:Addr) (c1 c2:Bool):Heap:=(zB h l1 l2 c1 c2).push { cls:=.type "tuple",data:=.seq #[.ref h.objs.size,.ref (zA h l1 c1).objs.size] }
abbrev zD (h:Heap) (l1 l2:Addr) (c1 c2:Bool):Heap:=(zC h l1 l2 c1 c2).push { cls:=.type "tuple",data:=.seq #[.none,.none] }
abbrev zE (h:Heap) (l1 l2:Addr) (c1 c2:Bool):Heap:=(zD h l1 l2 c1 c2).push { cls:=.type "zip",data:=.fields #[.none,.bool false,.bool false,.ref (zB h l1 l2 c1 c2).objs.size,.ref (zC h l1 l2 c1 c2).objs.size] }
set_option maxHeartbeats 8000000 in
theorem Ej (l1 l2:Addr) (xs ys:Array Value) (c1 c2:Bool) :
 Meets (Builtin.«zip.__new__» ⟨[.type "zip",.ref l1,.ref l2],[]⟩) (fun _ R s=>fM s.heap l1 xs c1∧fM s.heap l2 ys c2∧R (.ok (.ret (.ref (zD s.heap l1 l2 c1 c2).objs.size))) { s with heap:=zE s.heap l1 l2 c1 c2 }):=
 .of_wp fun prog w A R s h=>by
  obtain ⟨hp,g,d,tk,os⟩:=s;obtain ⟨q1,q2,h⟩:=h
  have hsub:=sub_zip
  have L2':fM (Shared.heap ⟨zA hp l1 c1,g,d,tk,os⟩) l2 ys c2:=fM.at q2 fun o e=>Heap.get?_push_of_some _ e
  cases c1 <;> cases c2
  ·have g1:Heap.IsTuple (Shared.heap ⟨hp,g,d,tk,os⟩) l1 xs:=q1
   have g2:Heap.IsTuple (Shared.heap ⟨hp.push { cls:=.type "tuple_iterator",data:=.fields #[.ref l1,.int 0 0] },g,d,tk,os⟩) l2 ys:=L2'
   wp_walk using wpAny_pyIter_tuple g1,wpAny_pyIter_tuple g2
   exact ⟨(),h⟩
  ·have g1:Heap.IsTuple (Shared.heap ⟨hp,g,d,tk,os⟩) l1 xs:=q1
   have g2:Heap.IsList (Shared.heap ⟨hp.push { cls:=.type "tuple_iterator",data:=.fields #[.ref l1,.int 0 0] },g,d,tk,os⟩) l2 ys:=L2'
   wp_walk using wpAny_pyIter_tuple g1,wpAny_pyIter_list g2
   exact ⟨(),h⟩
  ·have g1:Heap.IsList (Shared.heap ⟨hp,g,d,tk,os⟩) l1 xs:=q1
   have g2:Heap.IsTuple (Shared.heap ⟨hp.push { cls:=.type "list_iterator",data:=.fields #[.ref l1,.int 0 0] },g,d,tk,os⟩) l2 ys:=L2'
   wp_walk using wpAny_pyIter_list g1,wpAny_pyIter_tuple g2
   exact ⟨(),h⟩
  ·have g1:Heap.IsList (Shared.heap ⟨hp,g,d,tk,os⟩) l1 xs:=q1
   have g2:Heap.IsList (Shared.heap ⟨hp.push { cls:=.type "list_iterator",data:=.fields #[.ref l1,.int 0 0] },g,d,tk,os⟩) l2 ys:=L2'
   wp_walk using wpAny_pyIter_list g1,wpAny_pyIter_list g2
   exact ⟨(),h⟩
theorem xP {h:Heap}{it l:Addr}:∀{c:Bool},h.get? it=some { cls:=.type (EX c),data:=.fields #[.ref l,.int 0 0] }→dM h it l 0 c
 | true,e=>⟨_,e,rfl,rfl⟩
 | false,e=>⟨_,e,rfl,rfl⟩
section
variable {prog:Program}{w:World}{A:Around}{E:Value→Shared→Prop}{s:Shared}
theorem zP {l1 l2:Addr}{xs ys:Array Value}{c1 c2:Bool}{Q:Value→Shared→Prop} (q1:fM s.heap l1 xs c1) (q2:fM s.heap l2 ys c2)
 (h:∀h',IsZip h' (s.heap.objs.size+4) (s.heap.objs.size+2) (s.heap.objs.size+3) .none→IsPair h' (s.heap.objs.size+2) (.ref s.heap.objs.size) (.ref (s.heap.objs.size+1))→
  IsPair h' (s.heap.objs.size+3) .none .none→dM h' s.heap.objs.size l1 0 c1→dM h' (s.heap.objs.size+1) l2 0 c2→
  (∀c o,s.heap.get? c=some o→h'.get? c=some o)→Q (.ref (s.heap.objs.size+4)) { s with heap:=h' }) :
 wpAny (model prog w) A (call (.type "zip") [.ref l1,.ref l2]) Q E s:=by
 refine callType_new F.called_zip (by decide) (F.typeCall_zip_2 _ _) (F.newCall_zip_2 _ _) (fun obj=>F.args_object_init_3 obj _ _) F.entry_zip_new (Ej l1 l2 xs ys c1 c2) ⟨q1,q2,?_⟩
 have s1:(zA s.heap l1 c1).objs.size=s.heap.objs.size+1:=Heap.size_push ..
 have s2:(zB s.heap l1 l2 c1 c2).objs.size=s.heap.objs.size+2:=by rw [Heap.size_push,s1]
 have s3:(zC s.heap l1 l2 c1 c2).objs.size=s.heap.objs.size+3:=by rw [Heap.size_push,s2]
 have s4:(zD s.heap l1 l2 c1 c2).objs.size=s.heap.objs.size+4:=by rw [Heap.size_push,s3]
 have g5:(zE s.heap l1 l2 c1 c2).get? (zD s.heap l1 l2 c1 c2).objs.size=some _:=Heap.get?_push_size _ rfl
 have g4:(zE s.heap l1 l2 c1 c2).get? (zC s.heap l1 l2 c1 c2).objs.size=some _:=Heap.get?_push_of_some _ (Heap.get?_push_size _ rfl)
 have g3:(zE s.heap l1 l2 c1 c2).get? (zB s.heap l1 l2 c1 c2).objs.size=some _:=Heap.get?_push_of_some _ (Heap.get?_push_of_some _ (Heap.get?_push_size _ rfl))
 have g2:(zE s.heap l1 l2 c1 c2).get? (zA s.heap l1 c1).objs.size=some _:=Heap.get?_push_of_some _ (Heap.get?_push_of_some _ (Heap.get?_push_of_some _ (Heap.get?_push_size _ rfl)))
 have g1:(zE s.heap l1 l2 c1 c2).get? s.heap.objs.size=some _:=Heap.get?_push_of_some _ (Heap.get?_push_of_some _ (Heap.get?_push_of_some _ (Heap.get?_push_of_some _ (Heap.get?_push_size _ rfl))))
 show _∧_
 rw [s2,s3,s4] at g5
 rw [s1,s2] at g3
 rw [s3] at g4
 rw [s1] at g2
 rw [s4]
 exact ⟨⟨_,g5,rfl⟩,h _ g5 g3 g4 (xP g1) (xP g2) fun c o x=>Heap.get?_push_of_some _ (Heap.get?_push_of_some _ (Heap.get?_push_of_some _ (Heap.get?_push_of_some _ (Heap.get?_push_of_some _ x))))⟩
theorem ua {z TI TO i1 i2 l1 l2:Addr}{k:Nat}{xs ys:Array Value}{a b x y:Value}{c1 c2:Bool}{Q:Option Value→Shared→Prop} (D:qj z TI TO i1 i2) (n1:∀c,c=l1∨c=l2→c≠z∧c≠TO∧c≠i1∧c≠i2)
 (hz:IsZip s.heap z TI TO .none) (hTI:IsPair s.heap TI (.ref i1) (.ref i2)) (hTO:IsPair s.heap TO a b) (hh:A.handled=none)
 (h1:dM s.heap i1 l1 k c1) (h2:dM s.heap i2 l2 k c2) (q1:fM s.heap l1 xs c1) (q2:fM s.heap l2 ys c2) (hx:xs[k]?=some x) (hy:ys[k]?=some y)
 (hQ:∀h' tk,IsZip h' z TI TO (rawInt s.heap.objs.size)→IsPair h' TO x y→dM h' i1 l1 (k+1) c1→dM h' i2 l2 (k+1) c2→IsPair h' s.heap.objs.size x y→h'.objs.size=s.heap.objs.size+1→
  (∀c o,c≠z→c≠TO→c≠i1→c≠i2→s.heap.get? c=some o→h'.get? c=some o)→Q (some (.ref s.heap.objs.size)) { s with heap:=h',toks:=tk }) :
 wpAny (model prog w) A (pyNext (.ref z)) Q E s:=by
 have hT:s.TypeIs (.ref z) "zip" := ⟨_,hz,rfl⟩
 unfold pyNext
 exact wpAny_bind (wpAny_attempt (wpAny_callSpecial?_slot (name:=Str.ofString "__next__") hT F.slot_zip_next (wpAny_call_entry F.slot_zip_next hT F.entry_zip_next
  (BP D n1 hz hTI hTO hh h1 h2 q1 q2 hx hy fun h' tk a1 a2 a3 a4 a5 a6 a7=>wpAny_pure (hQ h' tk a1 a2 a3 a4 a5 a6 a7)) (F.args_zip_next_1 _))))
theorem vG {z TI TO i1 i2 l1 l2:Addr}{k:Nat}{xs ys:Array Value}{a b:Value}{c1 c2:Bool}{Q:Option Value→Shared→Prop} (hh:A.handled=none) (D:qj z TI TO i1 i2) (n1:∀c,c=l1∨c=l2→c≠z∧c≠TO∧c≠i1∧c≠i2)
 (hz:IsZip s.heap z TI TO .none) (hTI:IsPair s.heap TI (.ref i1) (.ref i2)) (hTO:IsPair s.heap TO a b)
 (h1:dM s.heap i1 l1 k c1) (h2:dM s.heap i2 l2 k c2) (q1:fM s.heap l1 xs c1) (q2:fM s.heap l2 ys c2) (hend:xs.size=k∨(k<xs.size∧ys.size=k))
 (hQ:∀h' tk,(∀c o,c≠z→c≠TO→c≠i1→c≠i2→s.heap.get? c=some o→h'.get? c=some o)→Q none { s with heap:=h',toks:=tk }):wpAny (model prog w) A (pyNext (.ref z)) Q E s:=by
 have hT:s.TypeIs (.ref z) "zip" := ⟨_,hz,rfl⟩
 unfold pyNext
 refine wpAny_bind (wpAny_attempt (wpAny_callSpecial?_slot (name:=Str.ofString "__next__") hT F.slot_zip_next (wpAny_call_entry F.slot_zip_next hT F.entry_zip_next
  (DI hh D n1 hz hTI hTO h1 h2 q1 q2 hend fun h' e tk hk he=>?_) (F.args_zip_next_1 _))))
 obtain ⟨o,ho,hc⟩:=he
 refine wpAny_bind (wpAny_isInstance (T := "StopIteration") (b:=true) ⟨o,ho,hc⟩ isSubtype_stop (wpAny_pure (hQ _ tk hk)))
end
theorem ag.turnedL {X:Cx}{pins:List (Addr×Obj)}{σ:St}{H:Hp}{s:Shared}{h':Heap}{t':Nat}{ch:List Addr} (I:ag X pins σ H s) (hf:∀b∈ch,il X pins H b) (k:∀b u,b∉ch→s.heap.get? b=some u→h'.get? b=some u) :
 ag X pins σ H { s with heap:=h',toks:=t' }:=by
 refine I.step (g':=s.gens) (d':=s.drawn) (ch:=ch) (fun b hb=>?_) (fun b o _ _ hc e _=>k b o hc e) (fun b o _ _ hc e _=>⟨o.slots,k b o hc e⟩) (fun _ _ _ _ n=>n)
  (fun b o hc e=>⟨o,k b o hc e⟩) (fun _ _ e=>e) (fun _ _ _ e=>e) (fun b ps e=>⟨#[],by rw [e];simp⟩) (fun m hm=>?_) (fun b u e=>?_) I.bare
 ·obtain ⟨f0,f1,f2,f3,f4,f5⟩:=hf b hb
  exact ⟨f3,f1,f4,f5⟩
 ·obtain ⟨o,es,ep,ho,r⟩:=hm
  exact ⟨o,es,ep,k _ o (fun z=>(hf _ z).2.1 rfl) ho,r⟩
 ·refine (I.hok b u e).stay (fun c v hc q=>k c v (fun z=>?_) q) (fun _ q=>q) fun _ _ q=>q
  have hcn:=(hf c z).1
  rcases hc with rfl | hc
  ·rw [e] at hcn;cases hcn
  ·rw [hc] at hcn;cases hcn
def iF (K:PySem.W.Frag) (H:Hp) (a:Addr) (xs:List V):Bool→Prop
 | true=>ah K H a xs
 | false=>aa K H a xs
theorem ag.seqC {X:Cx}{pins:List (Addr×Obj)}{σ:St}{H:Hp}{s:Shared}{a:Addr}{xs:List V} (I:ag X pins σ H s):∀{c:Bool},iF X.K H a xs c→∃its:List Value,aH xs its∧fM s.heap a its.toArray c
 | true,q=>let ⟨its,rv,p,_⟩:=I.list q;⟨its,rv,p.isList⟩
 | false,q=>let ⟨its,rv,p,_⟩:=I.tuple q;⟨its,rv,p⟩
theorem ag.seqC_inj {X:Cx}{pins:List (Addr×Obj)}{σ:St}{H:Hp}{s:Shared}{a:Addr}{xs ys:List V} (I:ag X pins σ H s):∀{c:Bool},iF X.K H a xs c→iF X.K H a ys c→xs=ys
 | true,p,q=>I.list_inj p q
 | false,p,q=>I.tuple_inj p q
def xF (K:PySem.W.Frag) (a1 a2:Addr) (c1 c2:Bool):It:=
 ⟨fun i H=>xm fun xs ys x y=>iF K H a1 xs c1∧iF K H a2 ys c2∧xs[i]?=some x∧ys[i]?=some y,
  fun i H v H'=>gH fun T x y=>H T=none∧v=.ref T∧H'=aG H T (.tup [x,y])∧(∀xs,iF K H a1 xs c1→xs[i]?=some x)∧(∀ys,iF K H a2 ys c2→ys[i]?=some y),
  fun i H=>bE fun xs ys=>iF K H a1 xs c1∧iF K H a2 ys c2∧(xs.length=i∨(i<xs.length∧ys.length=i))⟩
theorem A6 {P:Program}{w:World}{K:PySem.W.Frag}{es:List Expr}{kk:Nat}{pos:Pos} (a1 a2 z TI TO i1 i2:Addr) (c1 c2:Bool) (D:qj z TI TO i1 i2) (n1:∀c,c=a1∨c=a2→c≠z∧c≠TO∧c≠i1∧c≠i2) :
 pM P w K (.Tuple es kk pos) (xF K a1 a2 c1 c2) [z,TO,i1,i2,TI] z (fun i h=>IsZip h z TI TO .none∧IsPair h TI (.ref i1) (.ref i2)∧(bE fun a b=>IsPair h TO a b)∧dM h i1 a1 i c1∧dM h i2 a2 i c2) where
 mem:=by simp
 obj:=fun i h st b hb=>by
  obtain ⟨hz,hTI,⟨a,b',hTO⟩,h1,h2⟩:=st
  have hb':b=z∨b=TO∨b=i1∨b=i2∨b=TI:=by simpa using hb
  rcases hb' with rfl | rfl | rfl | rfl | rfl
  ·exact ⟨_,hz,fun v q=>by have q':Data.fields _=Data.cell v:=q;cases q'⟩
  ·exact ⟨_,hTO,fun v q=>by have q':Data.seq _ _=Data.cell v:=q;cases q'⟩
  ·exact h1.some
  ·exact h2.some
  ·exact ⟨_,hTI,fun v q=>by have q':Data.seq _ _=Data.cell v:=q;cases q'⟩
 keep:=fun i h h' st k=>by
  obtain ⟨hz,hTI,⟨a,b',hTO⟩,h1,h2⟩:=st
  exact ⟨k z (by simp) _ hz,k TI (by simp) _ hTI,⟨a,b',k TO (by simp) _ hTO⟩,h1.at fun o q=>k i1 (by simp) o q,h2.at fun o q=>k i2 (by simp) o q⟩
 item:=by
  intro X hP hw hK hc i pins s σ H E I hf st hg
  subst hP hw hK
  obtain ⟨hz,hTI,⟨a,b',hTO⟩,h1,h2⟩:=st
  obtain ⟨xs,ys,x,y,p1,p2,hx,hy⟩:=hg
  obtain ⟨its1,rv1,k1⟩:=I.seqC p1
  obtain ⟨its2,rv2,k2⟩:=I.seqC p2
  obtain ⟨u,hu,ru⟩:=rv1.get hx
  obtain ⟨v,hv,rw'⟩:=rv2.get hy
  have hnT:H s.heap.objs.size=none:=I.fresh
  refine ua D n1 hz hTI hTO (I.ok.hd hc) h1 h2 k1 k2 (x:=u) (y:=v) (by simpa using hu) (by simpa using hv) fun h' tk zo TO' t1 t2 T' sz keep=>?_
  refine ⟨(),wpAny_letOwnedTupleGo_zip (s:={ s with heap:=h',toks:=tk }) zo fun h2' z2 s2=>?_⟩
  have zlt:z<s.heap.objs.size:=Heap.lt_size hz
  have TOlt:TO<s.heap.objs.size:=Heap.lt_size hTO
  have TIlt:TI<s.heap.objs.size:=Heap.lt_size hTI
  have i1lt:i1<s.heap.objs.size:=let ⟨_,e,_⟩:=h1.some;Heap.lt_size e
  have i2lt:i2<s.heap.objs.size:=let ⟨_,e,_⟩:=h2.some;Heap.lt_size e
  have hT2:h2'.get? s.heap.objs.size=some { cls:=.type "tuple",data:=.seq #[u,v] }:=(s2.2 _ (Nat.ne_of_gt zlt)).trans T'
  refine ⟨.ref s.heap.objs.size,aG H s.heap.objs.size (.tup [x,y]),I.turnedNew (ch:=[z,TO,i1,i2,TI]) (t':=tk) hf (fun b o hb q=>?_) (Nat.le_refl _) ?_,rfl,
   ⟨_,x,y,hnT,rfl,rfl,fun zs hs=>by rw [I.seqC_inj hs p1];exact hx,fun zs hs=>by rw [I.seqC_inj hs p2];exact hy⟩,⟨z2,(s2.2 _ D.a1).trans (keep _ _ D.a1 D.a5 D.a6 D.a7 hTI),⟨_,_,(s2.2 _ D.a2).trans TO'⟩,t1.at fun o e=>(s2.2 _ D.a3).trans e,t2.at fun o e=>(s2.2 _ D.a4).trans e⟩,fun b hb=>?_⟩
  ·have e1:b≠z:=fun q=>hb (by simp [q])
   have e2:b≠TO:=fun q=>hb (by simp [q])
   have e3:b≠i1:=fun q=>hb (by simp [q])
   have e4:b≠i2:=fun q=>hb (by simp [q])
   exact (s2.2 b e1).trans (keep b o e1 e2 e3 e4 q)
  ·exact ⟨by show 2≤sizeLine;decide,[u,v],.cons ru (.cons rw' .nil),⟨_,hT2,rfl,()⟩,_,hT2,rfl⟩
  ·have hb':b=z∨b=TO∨b=i1∨b=i2∨b=TI:=by simpa using hb
   have hlt:b<s.heap.objs.size:=by rcases hb' with rfl | rfl | rfl | rfl | rfl <;> assumption
   rw [ay (Nat.ne_of_lt hlt)]
   exact (hf b hb).1
 done:=by
  intro X hP hw hK hc i pins s σ H E I hf st hg
  subst hP hw hK
  obtain ⟨hz,hTI,⟨a,b',hTO⟩,h1,h2⟩:=st
  obtain ⟨xs,ys,p1,p2,hl⟩:=hg
  obtain ⟨its1,rv1,k1⟩:=I.seqC p1
  obtain ⟨its2,rv2,k2⟩:=I.seqC p2
  have l1:=rv1.length
  have l2:=rv2.length
  refine vG (I.ok.hd hc) D n1 hz hTI hTO h1 h2 k1 k2 (by simp;trivial) fun h' tk keep=>⟨rfl,I.turnedL (ch:=[z,TO,i1,i2,TI]) (t':=tk) hf fun b o hb q=>?_⟩
  exact keep b o (fun q=>hb (by simp [q])) (fun q=>hb (by simp [q])) (fun q=>hb (by simp [q])) (fun q=>hb (by simp [q])) q
 self:=fun _ _ _ _ _ st h=>wpAny_pyIter_zip st.1 h
def Ew (K:PySem.W.Frag) (ta:TA):TI:=fun σ H R=>ta σ H fun vs H1=>xm fun a1 a2 c1 c2=>vs=[.ref a1,.ref a2]∧(∃xs,iF K H1 a1 xs c1)∧(∃ys,iF K H1 a2 ys c2)∧R (xF K a1 a2 c1 c2) H1
theorem Ah:bootBuiltins "zip" = some (.type "zip"):=by nofun
theorem DK {X:Cx}{es:List Expr}{kk:Nat}{tp:Pos}{a b:Expr}{ta:TA}{p pos:Pos} (hg:Gl X "zip") (hm:X.mg "zip" = none) (ha:PA X [a,b] ta) (hs:starEach [a,b] X.env=[(false,eval a X.env),(false,eval b X.env)]:=by rfl) (hs2:starEach [b] X.env=[(false,eval b X.env)]:=by rfl) :
 PI X (.Tuple es kk tp) (.Call (.Name "zip" p) [a,b] [] pos) (Ew X.K ta):=by
 intro pins s σ H R I h
 refine Call_ (lD I hg hm Ah (PyProof.Rows.callWith_type1 (aK (ha pos pins s σ H _ I h) fun us s1 ⟨vs,H1,I1,r1,q1⟩=>?_) (by rw [hs,hs2]) (by rw [hs2];rfl)))
 obtain ⟨a1,a2,c1,c2,rfl,⟨xs,p1⟩,⟨ys,p2⟩,q⟩:=q1
 obtain ⟨u1,u2,rfl,ru1,ru2⟩:=r1.two
 obtain rfl:u1=.ref a1:=ru1
 obtain rfl:u2=.ref a2:=ru2
 obtain ⟨its1,rv1,k1⟩:=I1.seqC p1
 obtain ⟨its2,rv2,k2⟩:=I1.seqC p2
 have d1:=k1.lt
 have d2:=k2.lt
 refine zP k1 k2 fun h' hz hTI hTO t1 t2 hk=>wpAny_pyIter_zip hz ?_
 have I2:ag X pins σ H1 { s1 with heap:=h',toks:=s1.toks }:=I1.kept hk
 refine ⟨s1.heap.objs.size+4,[s1.heap.objs.size+4,s1.heap.objs.size+3,s1.heap.objs.size,s1.heap.objs.size+1,s1.heap.objs.size+2],_,_,H1,rfl,I2,A6 a1 a2 (s1.heap.objs.size+4) (s1.heap.objs.size+2) (s1.heap.objs.size+3) s1.heap.objs.size (s1.heap.objs.size+1) c1 c2
  ⟨by simp,by simp,Nat.ne_of_lt (by simp),by simp,by simp,Nat.ne_of_gt (by simp),by simp,Nat.ne_of_gt (by simp),by simp,Nat.ne_of_lt (by simp)⟩ (fun c hc=>?_),⟨hz,hTI,⟨_,_,hTO⟩,t1,t2⟩,fun b hb=>?_,q⟩
 ·have:c<s1.heap.objs.size:=by rcases hc with rfl | rfl <;> assumption
  exact ⟨Nat.ne_of_lt (Nat.lt_of_lt_of_le this (Nat.le_add_right _ _)),Nat.ne_of_lt (Nat.lt_of_lt_of_le this (Nat.le_add_right _ _)),Nat.ne_of_lt this,Nat.ne_of_lt (Nat.lt_of_lt_of_le this (Nat.le_add_right _ _))⟩
 ·have hb':b=s1.heap.objs.size+4∨b=s1.heap.objs.size+3∨b=s1.heap.objs.size∨b=s1.heap.objs.size+1∨b=s1.heap.objs.size+2:=by simpa using hb
  have hle:s1.heap.objs.size≤b:=by rcases hb' with rfl | rfl | rfl | rfl | rfl <;> trivial
  exact I1.fpOk hle (I1.hok.fresh hle)
section
variable {X:Cx}{K:PySem.W.Frag}
end
def Sz (m:Nat) (i:Int):Prop:=i.natAbs<2 ^ m
theorem Sz.mono {m n:Nat}{i:Int} (h:Sz m i) (k:m≤n):Sz n i:=Nat.lt_of_lt_of_le h (Nat.pow_le_pow_right (by decide) k)
theorem Sz.mul {m n:Nat}{i j:Int} (h:Sz m i) (k:Sz n j):Sz (m+n) (i*j):=by
 unfold Sz at *
 rw [Int.natAbs_mul,Nat.pow_add]
 exact Nat.mul_lt_mul'' h k
theorem Sz.add {m:Nat}{i j:Int} (h:Sz m i) (k:Sz m j):Sz (m+1) (i+j):=by
 unfold Sz at *
 rw [Nat.pow_succ]
 trivial
theorem Sz.sub {m:Nat}{i j:Int} (h:Sz m i) (k:Sz m j):Sz (m+1) (i - j):=by
 unfold Sz at *
 rw [Nat.pow_succ]
 trivial
theorem Sz.neg {m:Nat}{i:Int} (h:Sz m i):Sz m (-i):=by
 unfold Sz at *
 trivial
theorem Sz.le {m:Nat}{i j:Int} (h:Sz m j) (k:i.natAbs≤j.natAbs):Sz m i:=Nat.lt_of_le_of_lt k h
theorem Sz.log {m:Nat}{i:Int} (h:Sz m i) (h0:i≠0):i.natAbs.log2<m:=(Nat.log2_lt (by trivial)).mpr h
theorem Sz.bits {m:Nat}{i:Int} (h:Sz m i):Builtin.Int.intBits i≤m:=by
 unfold Builtin.Int.intBits
 by_cases h0:i=0
 ·subst h0;exact Nat.zero_le _
 ·have:=h.log h0
  rw [if_neg (by simpa using h0)]
  trivial
def Bh (i j:Int):Prop:=bE fun m n=>Sz m i∧Sz n j∧m+n≤134217728
section
variable {X:Cx}
theorem cz:de X (binaryOp .Mult) (rI Bh fun i j=>.int (i*j)):=uM fun _ _ _ _ _ _ _ hc q=>by
 obtain ⟨m,n,h1,h2,h3⟩:=hc
 exact mul_int q (PyProof.Rows.mulOk_of_bits h1.bits h2.bits h3)
def yF (_ j:Int):Prop:=j≠0∧Sz 9000 j
theorem vV:de X (binaryOp .FloorDiv) (rI yF fun i j=>.int (i.fdiv j)):=uM fun i j _ _ _ _ _ hc q=>
 floordiv_int hc.1 q (.inl (PyProof.noPylong_of_log2 (hc.2.log hc.1)))
end
theorem jB {K:PySem.W.Frag}{a1 a2:Addr}{c1 c2:Bool}{xs ys:List V}{n:Nat}{g:TG}{tb:TS}{D:eh}{σ:St}{H:Hp} (Pv:Nat→St→Hp→Prop) (hn:n=min xs.length ys.length) (h0:Pv 0 σ H) (hl:∀i σ H,i≤n→Pv i σ H→iF K H a1 xs c1∧iF K H a2 ys c2)
 (hs:∀i x y T σ H,xs[i]?=some x→ys[i]?=some y→H T=none→Pv i σ H→g (.ref T) σ (aG H T (.tup [x,y])) fun σ2 H2=>tb { D with nx:=Pv (i+1),ct:=Pv (i+1),bk:=D.nx } σ2 H2) (hd:∀σ H,Pv n σ H→D.nx σ H) :
 ∃W:Nat→Nat→St→Hp→Prop,(∃m,W 0 m σ H)∧∀i m σ H,W i m σ H→
  ((xF K a1 a2 c1 c2).stop i H∧D.nx σ H)∨((xF K a1 a2 c1 c2).go i H∧∃N:St→Hp→Prop,(∀σ' H',N σ' H'→∃m',m'<m∧W (i+1) m' σ' H')∧∀x H',(xF K a1 a2 c1 c2).yld i H x H'→g x σ H' fun σ2 H2=>tb { D with nx:=N,ct:=N,bk:=D.nx } σ2 H2):=by
 refine ⟨fun i m σ H=>m=n - i∧i≤n∧Pv i σ H,⟨n,by simp,Nat.zero_le _,h0⟩,?_⟩
 rintro i m σ H ⟨rfl,hi,p⟩
 obtain ⟨q1,q2⟩:=hl i σ H hi p
 by_cases hlt:i<n
 ·have l1:i<xs.length:=by trivial
  have l2:i<ys.length:=by trivial
  refine .inr ⟨⟨xs,ys,xs[i],ys[i],q1,q2,by simp [l1],by simp [l2]⟩,Pv (i+1),fun σ' H' p'=>⟨n - (i+1),by trivial,rfl,hlt,p'⟩,fun x H' y=>?_⟩
  obtain ⟨T,u,v,hT,rfl,rfl,e1,e2⟩:=y
  exact hs i u v T σ H (e1 xs q1) (e2 ys q2) hT p
 ·have e:i=n:=by trivial
  subst e
  refine .inl ⟨⟨xs,ys,q1,q2,?_⟩,hd _ _ p⟩
  trivial
theorem da {H H':Hp}{D:Addr}{o:HO} (hD:H D=none) (k:ad H H'):ad H (aG H' D o):=fun b u e=>by
 rw [ay (aN e hD)];exact k b u e
theorem aA.nth {E:Addr→Prop}{H:Hp}{vs:List V}{ds:List PyData} (r:aA E H vs ds) (i:Nat) {v:V}{d:PyData} (hv:vs[i]?=some v) (hd:ds[i]?=some d):aJ E H v d:=by
 obtain ⟨d',e,h⟩:=r.get hv
 rw [hd] at e
 cases e
 exact h
theorem ao.free {b p:Addr}{H H9:Hp}{t9:Int} (s:ao (Eb b) H H9) (B:Bx H9 b t9) (h:H9 p=none):H p=none:=by
 cases e:H p with
 | none=>rfl
 | some o=>
  by_cases hb:p=b
  ·obtain ⟨c,x,eb,_⟩:=B
   rw [←hb,h] at eb;cases eb
  ·rw [s.old p o hb e] at h;cases h
mutual
theorem aJ.narrow {E F:Addr→Prop}{H:Hp} (k:∀a,F a→E a):∀{v:V}{d:PyData},aJ E H v d→aJ F H v d
 | _,_,.non=>.non
 | _,_,.bl b=>.bl b
 | _,_,.int i=>.int i
 | _,_,.str x=>.str x
 | _,_,.lst h ne r=>.lst h (fun z=>ne (k _ z)) (aA.narrow k r)
 | _,_,.tup h r=>.tup h (aA.narrow k r)
theorem aA.narrow {E F:Addr→Prop}{H:Hp} (k:∀a,F a→E a):∀{vs:List V}{ds:List PyData},aA E H vs ds→aA F H vs ds
 | _,_,.nil=>.nil
 | _,_,.cons h r=>.cons (aJ.narrow k h) (aA.narrow k r)
end
abbrev fr (z:Int×Int):HO:=.tup [.int z.1,.int z.2]
abbrev GI (n1 d1 n2 d2:Int):Int:=n1*d2+n2*d1
abbrev GD (n1 d1 n2 d2:Int):Int:=n1*d2 - n2*d1
abbrev Ht (n1 _ n2 _:Int):Int:=n1*n2
abbrev As (_ d1 _ d2:Int):Int:=d1*d2
def rP (i j:Int):Int:=if i<j then -1 else if j<i then 1 else 0
inductive DH (vs:List V) (H:Hp) (Q:VK):Prop
 | mk (a b:Addr) (n1 d1 n2 d2:Int) (h0:vs=[.ref a,.ref b]) (h1:H a=some (.tup [.int n1,.int d1])) (h2:H b=some (.tup [.int n2,.int d2])) (h3:Sz 4000 n1) (h4:Sz 4000 d1) (h5:Sz 4000 n2) (h6:Sz 4000 d2) (h7:Q (.int (rP (n1*d2) (n2*d1))) H)
def Fk:Sp:=fun vs H Q _=>DH  vs H Q
theorem gN {i j:Int} (h1:Sz 4000 i) (h2:Sz 4000 j):Bh i j:=⟨4000,4000,h1,h2,by decide⟩
theorem sW {i j:Int} (h1:Sz 4000 i) (h2:Sz 4000 j):Sz 9000 (i*j):=(h1.mul h2).mono (by decide)
theorem Hs {n d:Int} (hd:d≠0) (h:Sz 9000 d):Sz 9000 ((Int.gcd n d:Nat):Int):=h.le (by
 rw [Int.natAbs_natCast]
 exact Nat.le_of_dvd (by trivial) (Int.ofNat_dvd_left.mp (Int.gcd_dvd_right ..)))
structure Fb (b:Nat) (n d:Int):Prop where
 sn:Sz b n
 sd:Sz b d
 pos:1≤d
 co:Int.gcd n d=1
theorem Fb.mono {b c:Nat}{n d:Int} (h:Fb b n d) (k:b≤c):Fb c n d:=⟨h.sn.mono k,h.sd.mono k,h.pos,h.co⟩
theorem Fb.low {b:Nat}{n d:Int} (h1:Sz b n) (h2:Sz b d) (hd:d≠0):Fb b (KM.low n d).1 (KM.low n d).2:=by
 obtain ⟨a,_,c,e,f⟩:=KM.low_spec n d hd
 exact ⟨h1.le e,h2.le f,a,c⟩
structure Nw (H:Hp) (p:Addr) (o:HO) (H':Hp):Prop where
 fr:H p=none
 sm:ad H H'
 at':H' p=some o
theorem Nw.mk' {H:Hp}{p:Addr}{o:HO} (h:H p=none):Nw H p o (aG H p o):=⟨h,ad.new h,au⟩
section
variable {X:Cx}{es:List Expr}{t:TA}{pos:Pos}{K:PySem.W.Frag}
def FT (t:TA):TE:=fun σ H Q=>t σ H fun xs H1=>xs.length≤10000∧∀p H',Nw H1 p (.tup xs) H'→Q (.ref p) H'
def E8 (t:TA):TE:=fun σ H Q=>t σ H fun xs H1=>xs.length≤10000∧∀p H',Nw H1 p (.lst xs) H'→Q (.ref p) H'
theorem fE {n:Nat} (h:n≤10000):n≤sizeLine:=by rw [sizeLine_eq];trivial
theorem aD {x1} (h:PA X es t):PE X (.Tuple es x1 pos) (FT t):=by
 intro pins s σ H Q I hq
 refine wpAny_Tuple_spliced (aK (h pos pins s σ H _ I hq) fun us s1 ⟨xs,H1,I1,r,z',q⟩=>⟨by rw [←r.length];exact fE z',?_⟩)
 have z:=fE z'
 have hf:H1 s1.heap.objs.size=none:=I1.hok.fresh (Nat.le_refl _)
 refine ⟨.ref s1.heap.objs.size,aG H1 s1.heap.objs.size (.tup xs),I1.laid (t':=s1.toks) (fun b u e=>Heap.get?_push_of_some _ e) (Nat.le_refl _) ?_,rfl,q _ _ (.mk' hf)⟩
 exact ⟨z,us,r,⟨_,Heap.get?_push_size _ rfl,rfl,()⟩,_,Heap.get?_push_size _ rfl,rfl⟩
theorem eF (h:PA X es t):PE X (.List es pos) (E8 t):=by
 intro pins s σ H Q I hq
 refine wpAny_List_spliced (aK (h pos pins s σ H _ I hq) fun us s1 ⟨xs,H1,I1,r,z',q⟩=>⟨by rw [←r.length];exact fE z',?_⟩)
 have z:=fE z'
 have hf:H1 s1.heap.objs.size=none:=I1.hok.fresh (Nat.le_refl _)
 refine ⟨.ref s1.heap.objs.size,aG H1 s1.heap.objs.size (.lst xs),I1.laid (t':=s1.toks) (fun b u e=>Heap.get?_push_of_some _ e) (Nat.le_refl _) ?_,rfl,q _ _ (.mk' hf)⟩
 exact ⟨z,us,0,r,Heap.get?_push_size _ rfl⟩
inductive Ee (x:V) (y:V) (H:Hp) (Q:VK):Prop
 | mk (l:_) (b:_) (xs:_) (zs:_) (h0:x=.ref l) (h1:y=.ref b) (h2:H l=some (.lst xs)) (h3:H b=some (.lst zs)) (h4:xs.length+zs.length≤10000) (h5:∀p H',Nw H p (.lst (xs++zs)) H'→Q (.ref p) H')
def Ff:R2:=fun x y H Q=>Ee  x y H Q
theorem BX:de X (binaryOp .Add) Ff:=fun pins s σ H x y v u Q I rx ry ⟨l,b,xs,zs,e1,e2,h1,h2,hz,q⟩=>
 Dk pins s σ H x y v u Q I rx ry ⟨l,b,xs,zs,e1,e2,h1,h2,fE hz,fun p hp=>q p _ (.mk' hp)⟩
inductive Gg (K:PySem.W.Frag) (x:V) (lo:Option Int) (hi:Option Int) (H:Hp) (Q:VK):Prop
 | mk (a:_) (xs:_) (h0:x=.ref a) (h1:ah K H a xs) (h2:∀p H',Nw H p (.lst (gh xs lo hi)) H'→Q (.ref p) H')
def Ho (K:PySem.W.Frag):V→Option Int→Option Int→Hp→VK→Prop:=fun x lo hi H Q=>Gg K x lo hi H Q
theorem oC (e:X.K=K:=by rfl):y6 X (Ho K):=by
 subst e
 exact fun pins s σ H x v vl vu lo hi sl Q I rx hs pl pu ⟨a,xs,e,h,q⟩=>Cl pins s σ H x v vl vu lo hi sl Q I rx hs pl pu ⟨a,xs,e,h,fun p hp=>q p _ (.mk' hp)⟩
inductive CJ (K:PySem.W.Frag) (xs:List V) (H:Hp) (Q:VK):Prop
 | mk (p:_) (ys:_) (h0:xs=[.ref p]) (h1:(ah K H p ys∨aa K H p ys)) (h2:∀l H',Nw H l (.lst ys) H'→Q (.ref l) H')
def Dp (K:PySem.W.Frag):List V→Hp→VK→Prop:=fun xs H Q=>CJ K xs H Q
theorem oZ (e:X.K=K:=by rfl):dH X (.type "list") (Dp K):=by
 subst e
 exact fun pins s σ H xs us Q I r ⟨p,ys,e,h,q⟩=>wG pins s σ H xs us Q I r ⟨p,ys,e,h,fun l hl=>q l _ (.mk' hl)⟩
inductive AC (K:PySem.W.Frag) (xs:List V) (H:Hp) (Q:VK):Prop
 | mk (p:_) (ys:_) (h0:xs=[.ref p]) (h1:ah K H p ys) (h2:∀l H',Nw H l (.tup ys) H'→Q (.ref l) H')
def CL (K:PySem.W.Frag):List V→Hp→VK→Prop:=fun xs H Q=>AC K xs H Q
theorem cH (e:X.K=K:=by rfl):dH X (.type "tuple") (CL K):=by
 subst e
 exact fun pins s σ H xs us Q I r ⟨p,ys,e,h,q⟩=>vD pins s σ H xs us Q I r ⟨p,ys,e,.inl ⟨h,fun l hl=>q l _ (.mk' hl)⟩⟩
end
structure Ch (H:Hp) (p:Addr) (xs:List V) (H':Hp):Prop where
 at':H' p=some (.lst xs)
 ol:∀a o,a≠p→H a=some o→H' a=some o
 fre:∀a,a≠p→H a=none→H' a=none
theorem Ch.mk' {H:Hp}{p:Addr}{xs:List V}:Ch H p xs (aG H p (.lst xs)):=⟨au,fun a o n h=>by rw [ay n];exact h,fun a n h=>by rw [ay n];exact h⟩
theorem Ch.tup {H H':Hp}{p a:Addr}{xs ys zs:List V} (c:Ch H p xs H') (h:H a=some (.tup ys)) (hp:H p=some (.lst zs)):H' a=some (.tup ys):=c.ol a _ (eO h hp (by intro z;cases z)) h
section
variable {X:Cx}
inductive CZ (o:V) (i:V) (v:V) (H:Hp) (Q:(Hp→Prop)):Prop
 | mk (p:_) (xs:_) (k:_) (j:_) (h0:o=.ref p) (h1:i=.int k) (h2:H p=some (.lst xs)) (h3:sN xs.length k=some j) (h4:∀H',Ch H p (xs.set j v) H'→Q H')
def Fq:V→V→V→Hp→(Hp→Prop)→Prop:=fun o i v H Q=>CZ  o i v H Q
theorem yW:ym X Fq:=fun pins s σ H o i v ov iv u Q I ro ri rv ⟨p,xs,k,j,e1,e2,h,hj,q⟩=>rJ pins s σ H o i v ov iv u Q I ro ri rv ⟨p,xs,k,j,e1,e2,h,hj,q _ .mk'⟩
inductive EC (x:V) (vs:List V) (H:Hp) (Q:VK):Prop
 | mk (l:_) (xs:_) (y:_) (h0:x=.ref l) (h1:vs=[y]) (h2:H l=some (.lst xs)) (h3:xs.length≤10000) (h4:∀H',Ch H l (xs++[y]) H'→Q .non H')
def FI:V→List V→Hp→VK→Prop:=fun x vs H Q=>EC  x vs H Q
theorem cN:vN X "list.append" FI:=fun pins s σ H x vs v us Q I rx rv ⟨l,xs,y,e1,e2,h,hz,q⟩=>p8 pins s σ H x vs v us Q I rx rv ⟨l,xs,y,e1,e2,h,(by rw [sizeLine_eq];trivial),q _ .mk'⟩
end
inductive CO (vs:List V) (H:Hp) (Q:VK):Prop
 | mk (n d:Int) (h0:vs=[.int n,.int d]) (h1:d≠0) (h2:Sz 9000 d) (h3:∀p H',Nw H p (fr (KM.low n d)) H'→Q (.ref p) H')
def EO:Sp:=fun vs H Q _=>CO  vs H Q
inductive Cw (num den:Int→Int→Int→Int→Int) (vs:List V) (H:Hp) (Q:VK):Prop
 | mk (a b:Addr) (n1 d1 n2 d2:Int) (h0:vs=[.ref a,.ref b]) (h1:H a=some (.tup [.int n1,.int d1])) (h2:H b=some (.tup [.int n2,.int d2])) (h3:(Sz 4000 n1∧Sz 4000 d1∧Sz 4000 n2∧Sz 4000 d2∧den n1 d1 n2 d2≠0)) (h4:∀p H',Nw H p (fr (KM.low (num n1 d1 n2 d2) (den n1 d1 n2 d2))) H'→Q (.ref p) H')
def wV (num den:Int→Int→Int→Int→Int):Sp:=fun vs H Q _=>Cw num den vs H Q
theorem Fb.small {b:Nat}{n d:Int} (h1:n.natAbs<2 ^ b) (h2:d.natAbs<2 ^ b) (h3:1≤d) (h4:Int.gcd n d=1):Fb b n d:=⟨h1,h2,h3,h4⟩
theorem Bx.ch {H H':Hp}{b p:Addr}{t:Int}{xs:List V} (h:Bx H b t) (k:Ch H p xs H') (ne:b≠p):Bx H' b t:=by
 obtain ⟨c,x,e,q,q2,q3⟩:=h
 exact ⟨c,x,k.ol b _ ne e,q,q2,q3⟩
theorem Bx.ne {H:Hp}{b p:Addr}{t:Int} (h:Bx H b t) (hp:H p=none):b≠p:=fun z=>by
 obtain ⟨c,x,e,_⟩:=h
 rw [z,hp] at e;cases e
section
variable {X:Cx}{e:Expr}{te:TE}{st:Expr}{ts:TO}{p2 pos:Pos}{K:PySem.W.Frag}
end
inductive FL (c:Nat) (H:Hp):List V→List KM.Fra→Prop
 | nil:FL c H [] []
 | cons {o:Addr}{p:KM.Fra}{xs:List V}{ps:List KM.Fra} (h:H o=some (fr p)) (f:Fb c p.1 p.2) (r:FL c H xs ps):FL c H (.ref o :: xs) (p :: ps)
theorem FL.tup {c:Nat}{H H':Hp}{xs:List V}{ps:List KM.Fra} (r:FL c H xs ps) (k:∀a xs,H a=some (.tup xs)→H' a=some (.tup xs)):FL c H' xs ps:=by
 induction r with
 | nil=>exact .nil
 | cons h f _ ih=>exact .cons (k _ _ h) f ih
theorem FL.sm {c:Nat}{H H':Hp}{xs:List V}{ps:List KM.Fra} (r:FL c H xs ps) (k:ad H H'):FL c H' xs ps:=r.tup fun _ _ e=>k _ _ e
theorem FL.length {c:Nat}{H:Hp}{xs:List V}{ps:List KM.Fra} (r:FL c H xs ps):xs.length=ps.length:=by
 induction r with
 | nil=>rfl
 | cons _ _ _ ih=>simp [ih]
theorem FL.get {c:Nat}{H:Hp}{xs:List V}{ps:List KM.Fra} (r:FL c H xs ps):∀{i:Nat}{v:V},xs[i]?=some v→bE fun o p=>v=.ref o∧ps[i]?=some p∧H o=some (fr p)∧Fb c p.1 p.2:=by
 induction r with
 | nil=>intro i v h;simp at h
 | @cons o p xs ps h f r ih=>
  intro i v hv
  cases i with
  | zero=>simp at hv;exact ⟨o,p,hv.symm,rfl,h,f⟩
  | succ i=>simp at hv;simpa using ih hv
theorem FL.append {c:Nat}{H:Hp}{xs ys:List V}{ps qs:List KM.Fra} (r:FL c H xs ps) (q:FL c H ys qs):FL c H (xs++ys) (ps++qs):=by
 induction r with
 | nil=>exact q
 | cons h f _ ih=>exact .cons h f ih
theorem Fb.add' {b c e:Nat}{n1 d1 n2 d2:Int} (h1:Fb b n1 d1) (h2:Fb c n2 d2) (hc:b+c+1≤e):Fb e (KM.low (n1*d2+n2*d1) (d1*d2)).1 (KM.low (n1*d2+n2*d1) (d1*d2)).2:=
 .low (((h1.sn.mul h2.sd).add ((h2.sn.mul h1.sd).mono (by trivial))).mono (by trivial)) ((h1.sd.mul h2.sd).mono (by trivial)) (Int.mul_ne_zero (by have:=h1.pos;trivial) (by have:=h2.pos;trivial))
theorem uH {b c:Nat}{n1 d1 n2 d2:Int} (h1:Fb b n1 d1) (h2:Fb c n2 d2) (hb:b≤4000) (hc:c≤4000):Sz 4000 n1∧Sz 4000 d1∧Sz 4000 n2∧Sz 4000 d2∧d1*d2≠0:=
 ⟨h1.sn.mono hb,h1.sd.mono hb,h2.sn.mono hc,h2.sd.mono hc,Int.mul_ne_zero (by have:=h1.pos;trivial) (by have:=h2.pos;trivial)⟩
theorem Bj {α:Type}{ps:List α}{i:Nat}{p:α} (h:ps[i]?=some p):ps.take (i+1)=ps.take i++[p]:=by rw [List.take_add_one,h];rfl
theorem ij (p:KM.Fra) (ps:List KM.Fra):KM.sumF (ps++[p])=KM.ladd (KM.sumF ps) p:=by
 unfold KM.sumF
 rw [List.foldl_append]
 rfl
theorem xT:Fb 1 0 1:=Fb.small (by decide) (by decide) (by decide) (by decide)
def S (l:List Nat):Str:=⟨l.toArray⟩
theorem Bv {a b:List Nat} (h:S a=S b):a=b:=by
 have:a.toArray=b.toArray:=by injection h
 simpa using this
theorem yo (a b:List Nat):S a++S b=S (a++b):=by
 show (⟨a.toArray++b.toArray⟩:Str)=⟨(a++b).toArray⟩
 simp
theorem tw (a:List Nat):(S a).length=a.length:=by
 show a.toArray.size=_
 simp
theorem Ek (a:List Nat):(S a).cps.toList=a:=rfl
theorem zh (k:Nat) (l:List Nat):∀acc:List Nat,(List.replicate k l.toArray).foldl (·++·) acc.toArray=(acc++(List.replicate k l).flatten).toArray:=by
 induction k with
 | zero=>intro acc;simp
 | succ k ih=>
  intro acc
  rw [List.replicate_succ,List.foldl_cons,List.replicate_succ,List.flatten_cons]
  have:acc.toArray++l.toArray=(acc++l).toArray:=by simp
  rw [this,ih,List.append_assoc]
theorem u0:∀ls:List (List Nat),Str.join (S []) (ls.map S)=S ls.flatten
 | []=>rfl
 | [a]=>by
  show S a=S (a++[])
  rw [List.append_nil]
 | a :: b :: r=>by
  have e:Str.join (S []) ((a :: b :: r).map S)=S a++S []++Str.join (S []) ((b :: r).map S):=rfl
  rw [e,u0 (b :: r),yo,yo,List.append_nil]
  rfl
section
variable {X:Cx}{K:PySem.W.Frag}
inductive Er (x:V) (y:V) (H:Hp) (Q:VK):Prop
 | mk (l:_) (n:_) (h0:x=.str (S l)) (h1:y=.int n) (h2:1≤n) (h3:n≤1000) (h4:l.length≤100) (h5:Q (.str (S (List.replicate n.toNat l).flatten)) H)
def Fi:R2:=fun x y H Q=>Er  x y H Q
theorem CV:de X (binaryOp .Mult) Fi:=by
 intro pins s σ H x y v u Q I rx ry h
 obtain ⟨l,n,rfl,rfl,h1,h2,h3,q⟩:=h
 obtain ⟨t,rfl⟩:=rx
 obtain ⟨t',rfl⟩:=ry
 have hlen:(S l).length=l.length:=tw l
 have hmul:l.length*n.toNat≤100*1000:=Nat.mul_le_mul h3 (by trivial)
 refine PySem.P.mul_str ?_ ?_ ?_ ?_
 ·rw [decide_eq_false (by trivial),decide_eq_false (by trivial)];rfl
 ·intro _ _
  rw [hlen]
  have:(100:Int)<(2 ^ 63 - 1) / n:=by
   have:(100+1)*n≤2 ^ 63 - 1:=by trivial
   have:=(Int.le_ediv_iff_mul_le (by trivial:0<n)).mpr this
   trivial
  trivial
 ·intro _ _
  rw [hlen]
  unfold Builtin.Str.tooLong
  rw [decide_eq_false]
  rw [sizeLine_eq]
  trivial
 ·rw [if_neg (by trivial)]
  by_cases hn:(n==1 || (S l).length==0)=true
  ·rw [if_pos hn]
   refine ⟨.str (S l),H,I,⟨t,rfl⟩,?_⟩
   have e:(List.replicate n.toNat l).flatten=l:=by
    rw [hlen] at hn
    have hn':n=1∨l.length=0:=by simpa using hn
    rcases hn' with rfl | hn'
    ·simp
    ·have:l=[]:=List.eq_nil_of_length_eq_zero hn'
     subst this
     simp
   rw [e] at q
   exact q
  ·rw [if_neg hn]
   have e:(⟨(List.replicate n.toNat (S l).cps).foldl (·++·) #[]⟩:Str)=S (List.replicate n.toNat l).flatten:=by
    have e:=zh n.toNat l []
    rw [List.nil_append] at e
    exact congrArg Str.mk e
   rw [e]
   refine ⟨?_,.str (S (List.replicate n.toNat l).flatten),H,I.tok _,⟨()⟩,q⟩
   rw [tw,BU,sizeLine_eq,Nat.mul_comm]
   trivial
inductive DZ (K:PySem.W.Frag) (x:V) (vs:List V) (H:Hp) (Q:VK):Prop
 | mk (a:_) (ls:_) (h0:x=.str (S [])) (h1:vs=[.ref a]) (h2:ah K H a ((ls:List (List Nat)).map fun l=>V.str (S l))) (h3:(ls.map (·.length)).sum≤10000) (h4:Q (.str (S ls.flatten)) H)
def FH (K:PySem.W.Frag):V→List V→Hp→VK→Prop:=fun x vs H Q=>DZ K x vs H Q
theorem yK {ls:List (List Nat)}:∀{us:List Value},aH (ls.map fun l=>V.str (S l)) us→StrsAre us (ls.map S):=by
 induction ls with
 | nil=>intro us h;cases h;exact .nil
 | cons l r ih=>
  intro us h
  cases h with
  | cons h t=>
   obtain ⟨tk,rfl⟩:=h
   exact .cons _ _ (ih t)
theorem CW (ek:X.K=K:=by rfl):xn X "str.join" (FH K):=by
 subst ek
 intro pins s σ H x vs v us Q I rx rv h
 obtain ⟨a,ls,rfl,rfl,hS,hz,q⟩:=h
 obtain ⟨t,rfl⟩:=rx
 obtain ⟨u,rfl,ru⟩:=rv.one
 obtain rfl:u=Value.ref a:=ru
 obtain ⟨its,r,ht,_⟩:=I.list hS
 have e1:((ls.map S).map (·.length)).sum=(ls.map (·.length)).sum:=by
  rw [List.map_map]
  congr 1
 refine join_list (ys:=ls.map S) ht.isList (by simpa using yK r) ?_ fun t' k=>?_
 ·rw [e1,show (S []).length=0 from rfl]
  trivial
 ·have:=join_plain_closes (S []) (ls.map S)
  rw [eq_of_beq this,u0]
  exact ⟨.str (S ls.flatten),H,I.tok k,⟨()⟩,q⟩
inductive Do (x:V) (y:V) (H:Hp) (Q:VK):Prop
 | mk (a:_) (b:_) (h0:x=.str (S a)) (h1:y=.str (S b)) (h2:a.length+b.length≤10000) (h3:Q (.str (S (a++b))) H)
def FM:R2:=fun x y H Q=>Do  x y H Q
theorem CY:de X (binaryOp .Add) FM:=fun pins s σ H x y v u Q I rx ry ⟨a,b,e1,e2,hz,q⟩=>
 yw pins s σ H x y v u Q I rx ry ⟨S a,S b,e1,e2,by rw [tw,tw];exact fE hz,by rw [yo];exact q⟩
end
theorem yk:Str.ofString "abcdefghijklmnopqrstuvwxyz" = S ((List.range 26).map (97+·)):=by nofun
theorem A5:Str.ofString "" = S []:=by nofun
theorem pL {i:Int} (h0:-26≤i) (h1:i<26):mh ((Str.ofString "abcdefghijklmnopqrstuvwxyz").cps.toList) i=some (97+(i % 26).toNat):=by
 rw [yk,Ek]
 have:∀k:Fin 52,mh ((List.range 26).map (97+·)) ((k.val:Int) - 26)=some (97+(((k.val:Int) - 26) % 26).toNat):=by nofun
 have e:=this ⟨(i+26).toNat,by trivial⟩
 simp only at e
 rw [show (((i+26).toNat:Nat):Int) - 26=i by trivial] at e
 exact e
theorem EN {f:Int}{j k:Nat} (hj:j<26) (hk:k<26) (h:(f+11*(j:Int)) % 26=(f+11*(k:Int)) % 26):j=k:=by trivial
structure qE (l:List Nat):Prop where
 lo:1≤l.length
 hi:l.length≤8
 az:∀c∈l,97≤c∧c≤122
abbrev aI (l:List Nat):V:=.str (S l)
theorem GN (n c:Nat):(List.replicate n [c]).flatten=List.replicate n c:=by
 induction n with
 | zero=>rfl
 | succ n ih=>rw [List.replicate_succ,List.flatten_cons,ih,List.replicate_succ];rfl
theorem pV {xs:List V}{m:Int} (h:0≤m):gh xs none (some m)=xs.take m.toNat:=by
 unfold gh
 have e:m=((m.toNat:Nat):Int):=by trivial
 rw [HT.sIx_none,e,HT.sIx_nat]
 simp only [Int.toNat_natCast,List.drop_zero,Nat.sub_zero]
 by_cases hm:m.toNat≤xs.length
 ·rw [Nat.min_eq_left hm]
 ·rw [Nat.min_eq_right (by trivial),List.take_of_length_le (Nat.le_refl _),List.take_of_length_le (by trivial)]
theorem ao.ch {b D:Addr}{H H1 H2:Hp}{xs:List V} (s:ao (Eb b) H H1) (c:Ch H1 D xs H2) (hD:H D=none):ao (Eb b) H H2:=
 ⟨fun a u ne h=>c.ol a u (aN h hD) (s.old a u ne h),fun a us h=>c.ol a _ (aN h hD) (s.tup a us h)⟩
theorem ao.up {b D:Addr}{H H1:Hp}{o:HO} (s:ao (Eb b) H H1) (hD:H D=none):ao (Eb b) H (aG H1 D o):=
 ⟨fun a u ne h=>by rw [ay (aN h hD)];exact s.old a u ne h,fun a us h=>by rw [ay (aN h hD)];exact s.tup a us h⟩
def AZ (x:Str):Prop:=x.length≤300∧∀c∈x.cps.toList,c<128
mutual
inductive Wt:PyData→Nat→Nat→Prop
 | non {k:Nat}:Wt .none 1 k
 | bl (b:Bool) {k:Nat}:Wt (.bool b) 1 k
 | int {i:Int} (h:Sz 1900 i) {k:Nat}:Wt (.int i) 1 k
 | str {x:Str} (h:AZ x) {k:Nat}:Wt (.str x) 1 k
 | list {xs:List PyData}{n k:Nat} (h:dj xs n k):Wt (.list xs) (n+1) (k+1)
 | tuple {xs:List PyData}{n k:Nat} (h:dj xs n k):Wt (.tuple xs) (n+1) (k+1)
inductive dj:List PyData→Nat→Nat→Prop
 | nil {k:Nat}:dj [] 0 k
 | cons {x:PyData}{xs:List PyData}{m n k:Nat} (h:Wt x m k) (r:dj xs n k):dj (x :: xs) (m+n) k
end
mutual
theorem Wt.deep:∀{d:PyData}{n k:Nat},Wt d n k→∀{l:Nat},k≤l→Wt d n l
 | _,_,_,.non,_,_=>.non
 | _,_,_,.bl b,_,_=>.bl b
 | _,_,_,.int h,_,_=>.int h
 | _,_,_,.str h,_,_=>.str h
 | _,_,_,.list h,l,hl=>by
  obtain ⟨m,rfl⟩:∃m,l=m+1:=⟨l - 1,by trivial⟩
  exact .list (dj.deep h (by trivial))
 | _,_,_,.tuple h,l,hl=>by
  obtain ⟨m,rfl⟩:∃m,l=m+1:=⟨l - 1,by trivial⟩
  exact .tuple (dj.deep h (by trivial))
theorem dj.deep:∀{ds:List PyData}{n k:Nat},dj ds n k→∀{l:Nat},k≤l→dj ds n l
 | _,_,_,.nil,_,_=>.nil
 | _,_,_,.cons h r,_,hl=>.cons (Wt.deep h hl) (dj.deep r hl)
end
theorem Wt.pos {d:PyData}{n k:Nat} (h:Wt d n k):1≤n:=by cases h <;> trivial
mutual
theorem Wt.dep:∀{d:PyData}{n k:Nat},Wt d n k→d.depth≤k
 | _,_,_,.non=>by simp [PyData.depth]
 | _,_,_,.bl b=>by simp [PyData.depth]
 | _,_,_,.int h=>by simp [PyData.depth]
 | _,_,_,.str h=>by simp [PyData.depth]
 | _,_,_,.list h=>by simp only [PyData.depth];exact Nat.succ_le_succ (dj.dep h)
 | _,_,_,.tuple h=>by simp only [PyData.depth];exact Nat.succ_le_succ (dj.dep h)
theorem dj.dep:∀{ds:List PyData}{n k:Nat},dj ds n k→PyData.depthAll ds≤k
 | _,_,_,.nil=>by simp [PyData.depthAll]
 | _,_,_,.cons h r=>by simp only [PyData.depthAll];exact Nat.max_le.mpr ⟨Wt.dep h,dj.dep r⟩
end
mutual
theorem Wt.sho:∀{d:PyData}{n k:Nat},Wt d n k→d.showable=true
 | _,_,_,.non=>by simp [PyData.showable]
 | _,_,_,.bl b=>by simp [PyData.showable]
 | _,_,_,.int (i:=i) h=>by
  simp only [PyData.showable,decide_eq_true_iff]
  by_cases h0:i=0
  ·subst h0;decide
  ·exact Nat.lt_trans (h.log h0) (by decide)
 | _,_,_,.str h=>by simp [PyData.showable]
 | _,_,_,.list h=>by simp only [PyData.showable];exact dj.sho h
 | _,_,_,.tuple h=>by simp only [PyData.showable];exact dj.sho h
theorem dj.sho:∀{ds:List PyData}{n k:Nat},dj ds n k→PyData.showableAll ds=true
 | _,_,_,.nil=>by simp [PyData.showableAll]
 | _,_,_,.cons h r=>by simp only [PyData.showableAll,Bool.and_eq_true];exact ⟨Wt.sho h,dj.sho r⟩
end
mutual
theorem Wt.nod:∀{d:PyData}{n k:Nat},Wt d n k→d.hasDict=false
 | _,_,_,.non=>by simp [PyData.hasDict]
 | _,_,_,.bl b=>by simp [PyData.hasDict]
 | _,_,_,.int h=>by simp [PyData.hasDict]
 | _,_,_,.str h=>by simp [PyData.hasDict]
 | _,_,_,.list h=>by simp only [PyData.hasDict];exact dj.nod h
 | _,_,_,.tuple h=>by simp only [PyData.hasDict];exact dj.nod h
theorem dj.nod:∀{ds:List PyData}{n k:Nat},dj ds n k→PyData.hasDictAll ds=false
 | _,_,_,.nil=>by simp [PyData.hasDictAll]
 | _,_,_,.cons h r=>by simp only [PyData.hasDictAll,Bool.or_eq_false_iff];exact ⟨Wt.nod h,dj.nod r⟩
end
mutual
theorem Wt.len:∀{d:PyData}{n k:Nat},Wt d n k→d.shown.length+2≤3010*n
 | _,_,_,.non=>by
  rw [PyData.shown]
  decide +kernel
 | _,_,_,.bl b=>by
  rw [PyData.shown]
  cases b <;> decide +kernel
 | _,_,_,.int (i:=i) h=>by
  rw [PyData.shown]
  have hl:i.natAbs.log2<1920:=by
   by_cases h0:i=0
   ·subst h0;decide
   ·exact Nat.lt_trans (h.log h0) (by decide)
  have:=int_text_len_1921 hl
  trivial
 | _,_,_,.str (x:=x) h=>by
  rw [PyData.shown]
  have:=PySem.StrLaws.reprText_len x (fun c hc=>Nat.lt_trans (h.2 c hc) (by decide))
  have:=h.1
  trivial
 | _,_,_,.list (xs:=xs) (n:=n) h=>by
  rw [PyData.shown]
  have h1:=listText_len_le (PyData.shownAll xs)
  have h2:=dj.len h
  trivial
 | _,_,_,.tuple (xs:=xs) (n:=n) h=>by
  rw [PyData.shown]
  have h1:=tupleText_len_le (PyData.shownAll xs)
  have h2:=dj.len h
  trivial
theorem dj.len:∀{ds:List PyData}{n k:Nat},dj ds n k→((PyData.shownAll ds).map (·.length)).sum+2*(PyData.shownAll ds).length≤3010*n
 | _,_,_,.nil=>by simp [PyData.shownAll]
 | _,_,_,.cons (x:=x) (xs:=xs) (m:=m) (n:=n) h r=>by
  rw [PyData.shownAll,List.map_cons,List.sum_cons,List.length_cons]
  have h1:=Wt.len h
  have h2:=dj.len r
  have h3:=h.pos
  trivial
end
section
variable {X:Cx}
inductive Dc (xs:List V) (H:Hp) (Q:VK):Prop
 | mk (a:Addr) (d:PyData) (E:Addr→Prop) (n k:Nat) (h0:xs=[.ref a]) (h1:aJ E H (.ref a) d) (h2:Wt d n k) (h3:n≤5500) (h4:k≤50) (h5:Q (.str d.shown) H)
def Fj:List V→Hp→VK→Prop:=fun xs H Q=>Dc  xs H Q
end
abbrev ED:Addr→Prop:=fun _=>True
abbrev bJ (p:KM.Fra):PyData:=.tuple [.int p.1,.int p.2]
theorem lZ {H:Hp}{o:Addr}{p:KM.Fra} (h:H o=some (.tup [.int p.1,.int p.2])):aJ ED H (.ref o) (bJ p):=.tup h (.cons (.int _) (.cons (.int _) .nil))
theorem iI {E:Addr→Prop}{H:Hp}{v:V}{p:KM.Fra} (h:aJ E H v (bJ p)):∃o,v=.ref o∧H o=some (.tup [.int p.1,.int p.2]):=by
 cases h with
 | @tup a xs _ h r=>
  cases r with
  | cons h1 r=>
  cases r with
  | cons h2 r=>
  cases r
  cases h1
  cases h2
  exact ⟨a,rfl,h⟩
theorem zR {H:Hp}:∀ls:List (List Nat),aA ED H (ls.map aI) (ls.map fun l=>.str (S l))
 | []=>.nil
 | _ :: r=>.cons (.str _) (zR r)
theorem zj {l:List Nat} (h:qE l):AZ (S l):=⟨by rw [tw];have:=h.hi;trivial,fun c hc=>by have:=h.az c hc;trivial⟩
end L2
namespace L2
theorem zw {α:Type}{ls:List α} (h:ls.Nodup) {i j:Nat} (hi:i<ls.length) (hj:j<ls.length) (e:ls[i]=ls[j]):i=j:=by
 have p:=List.pairwise_iff_getElem.mp h
 rcases Nat.lt_trichotomy i j with q | q | q
 ·exact absurd e (p i j hi hj q)
 ·exact q
 ·exact absurd e.symm (p j i hj hi q)
end L2
namespace L2
open PySem PySem.Spec PyProof.Rows
end L2
namespace L2
end L2
namespace L2
open PySem PySem.Spec PyProof.Rows
end L2
namespace L2
open PySem PySem.Spec PyProof.Rows
open AutoSeq1 (wpAny_loadPart')
set_option maxHeartbeats 4000000 in
theorem Ac (l:Addr) (its:Array Value) (n:Nat) (dct:Option Addr) (sl:Array (Option Value)) :
 Meets (Builtin.«enumerate.__new__» ⟨[.type "enumerate",.ref l],[]⟩) (fun _ R s=>s.heap.get? l=some { cls:=.type "tuple",dict:=dct,data:=.seq its n,slots:=sl }∧
  R (.ok (.ret (.ref (s.heap.push { cls:=.type "tuple_iterator",data:=.fields #[.ref l,.int 0 0] }).objs.size))) { s with heap:=(s.heap.push { cls:=.type "tuple_iterator",data:=.fields #[.ref l,.int 0 0] }).push { cls:=.type "enumerate",data:=.fields #[.none,.bool false,.ref s.heap.objs.size,rawInt 0,.none,.none] } }):=
 .of_wp fun prog w A R s h=>by
  obtain ⟨hp,g,d,tk,os⟩:=s;obtain ⟨hl,h⟩:=h;have hsub:=sub_enumerate
  have hT:Heap.IsTuple (Shared.heap ⟨hp,g,d,tk,os⟩) l its:=⟨_,hl,rfl,n,rfl⟩
  wp_walk using wpAny_loadPart' hl
  refine wpAny_stack_any fun st=>wpAny_pure ?_;split
  ·rename_i c _ _ _ _ _;cases (c==Value.type "enumerate")
   ·wp_walk using wpAny_loadPart' hl,wpAny_pyIter_tuple hT
    exact ⟨(),h⟩
   ·wp_walk using wpAny_loadPart' hl,wpAny_pyIter_tuple hT
    exact ⟨(),h⟩
  ·wp_walk using wpAny_loadPart' hl,wpAny_pyIter_tuple hT
   exact ⟨(),h⟩
section
variable {prog:Program}{w:World}{A:Around}{E:Value→Shared→Prop}{s:Shared}
theorem xS {l:Addr}{its:Array Value}{Q:Value→Shared→Prop}:∀{c:Bool},fM s.heap l its c→
 (∀h',IsEnum h' (s.heap.objs.size+1) s.heap.objs.size 0 .none→dM h' s.heap.objs.size l 0 c→(∀b o,s.heap.get? b=some o→h'.get? b=some o)→Q (.ref (s.heap.objs.size+1)) { s with heap:=h' })→
 wpAny (model prog w) A (call (.type "enumerate") [.ref l]) Q E s
 | true,q,h=>call_enumerate_list q fun h' a b _ k=>h h' a b k
 | false,q,h=>by
  obtain ⟨⟨c,dct,dt,sl⟩,hl,hc,n,hd⟩:=q
  dsimp only at hc hd
  subst hc hd
  refine callType_new F.called_enumerate (by decide) (F.typeCall_enumerate_1 _) (F.newCall_enumerate_1 _) (fun obj=>F.args_object_init_2 obj _) F.entry_enumerate_new (Ac l its n dct sl) ⟨hl,?_⟩
  have hz:(s.heap.push { cls:=.type "tuple_iterator",data:=.fields #[.ref l,.int 0 0] }).objs.size=s.heap.objs.size+1:=Heap.size_push ..
  show _∧_
  rw [hz]
  have he:IsEnum ((s.heap.push { cls:=.type "tuple_iterator",data:=.fields #[.ref l,.int 0 0] }).push { cls:=.type "enumerate",data:=.fields #[.none,.bool false,.ref s.heap.objs.size,rawInt 0,.none,.none] }) (s.heap.objs.size+1) s.heap.objs.size 0 .none:=by
   rw [←hz];exact Heap.get?_push_size _ rfl
  exact ⟨⟨_,he,rfl⟩,h _ he ⟨_,Heap.get?_push_of_some _ (Heap.get?_push_size _ rfl),rfl,rfl⟩ fun b o e=>Heap.get?_push_of_some _ (Heap.get?_push_of_some _ e)⟩
end
def wz (K:PySem.W.Frag) (a:Addr) (c:Bool):It:=
 ⟨fun i H=>bE fun xs x=>iF K H a xs c∧xs[i]?=some x,fun i H v H'=>bE fun T x=>H T=none∧v=.ref T∧H'=aG H T (.tup [.int (i:Int),x])∧∀xs,iF K H a xs c→xs[i]?=some x,fun i H=>∃xs,iF K H a xs c∧xs.length=i⟩
theorem yC {P:Program}{w:World}{K:PySem.W.Frag}{es:List Expr}{kk:Nat}{pos:Pos} (a e it:Addr) (c:Bool) (hne:e≠it) (hae:a≠e) (hai:a≠it) :
 pM P w K (.Tuple es kk pos) (wz K a c) [e,it] e (fun i h=>(∃old,IsEnum h e it i old)∧dM h it a i c) where
 mem:=by simp
 obj:=fun i h st b hb=>by
  obtain ⟨⟨old,he⟩,hi⟩:=st
  have hb':b=e∨b=it:=by simpa using hb
  rcases hb' with rfl | rfl
  ·exact ⟨_,he,fun v z=>by have z':Data.fields _=Data.cell v:=z;cases z'⟩
  ·exact hi.some
 keep:=fun i h h' st k=>by
  obtain ⟨⟨old,he⟩,hi⟩:=st
  exact ⟨⟨old,k e (by simp) _ he⟩,hi.at fun o q=>k it (by simp) o q⟩
 item:=by
  intro X hP hw hK hc i pins s σ H E I hf st hg
  subst hP hw hK
  obtain ⟨⟨old,he⟩,hit⟩:=st
  obtain ⟨xs,x,hq,hx⟩:=hg
  obtain ⟨its,rv,p⟩:=I.seqC hq
  obtain ⟨u,hu,ru⟩:=rv.get hx
  have hnT:H s.heap.objs.size=none:=I.fresh
  have hiu:i<its.length:=(List.getElem?_eq_some_iff.mp hu).1
  have D:=nu (prog:=X.prog) (w:=X.w) (A:=X.A.in1) (I.ok.hd hc) it a hai its.toArray c
  refine wpAny_pyNext_enum_itemD D he ⟨hit,p⟩ (by simpa using hiu) hne (by simp;exact ⟨hne,Ne.symm hae⟩) fun u' h' tk hP ho st' hT hsz hk=>?_
  have eu:u=u':=by
   have:its.toArray[i]?=some u':=hP
   rw [List.getElem?_toArray,hu] at this
   exact Option.some.inj this
  subst eu
  refine ⟨(),wpAny_letOwnedTupleGo_enum (s:={ s with heap:=h',toks:=tk+1 }) ho fun h'' he'' hs''=>?_⟩
  have helt:e<s.heap.objs.size:=Heap.lt_size he
  have hilt:it<s.heap.objs.size:=let ⟨_,y,_⟩:=hit.some;Heap.lt_size y
  have hT'':h''.get? s.heap.objs.size=some { cls:=.type "tuple",data:=.seq #[.int i tk,u] }:=(hs''.2 _ (Nat.ne_of_gt helt)).trans hT
  refine ⟨.ref s.heap.objs.size,aG H s.heap.objs.size (.tup [.int (i:Int),x]),I.turnedNew (ch:=[e,it]) (t':=tk+1) hf (fun b o hb q=>?_) (Nat.le_refl _) ?_,rfl,⟨_,x,hnT,rfl,rfl,fun ys hy=>by rw [I.seqC_inj hy hq];exact hx⟩,⟨⟨u,?_⟩,st'.1.at fun o q=>(hs''.2 _ (Ne.symm hne)).trans q⟩,fun b hb=>?_⟩
  ·have h1:b≠e:=fun z=>hb (by simp [z])
   have h2:b≠it:=fun z=>hb (by simp [z])
   exact (hs''.2 b h1).trans (hk b o h1 h2 q)
  ·exact ⟨by show 2≤sizeLine;decide,[.int i tk,u],.cons ⟨()⟩ (.cons ru .nil),⟨_,hT'',rfl,()⟩,_,hT'',rfl⟩
  ·simpa using he''
  ·have hb':b=e∨b=it:=by simpa using hb
   have hlt:b<s.heap.objs.size:=by rcases hb' with rfl | rfl <;> assumption
   rw [ay (Nat.ne_of_lt hlt)]
   exact (hf b hb).1
 done:=by
  intro X hP hw hK hc i pins s σ H E I hf st hg
  subst hP hw hK
  obtain ⟨⟨old,he⟩,hit⟩:=st
  obtain ⟨xs,hq,hx⟩:=hg
  obtain ⟨its,rv,p⟩:=I.seqC hq
  have hl:=rv.length
  have D:=nu (prog:=X.prog) (w:=X.w) (A:=X.A.in1) (I.ok.hd hc) it a hai its.toArray c
  have ei:i=its.toArray.size:=by simp;trivial
  refine wpAny_pyNext_enum_endD D he (by rw [ei] at hit;exact ⟨hit,p⟩) fun h' eb=>⟨rfl,I.turnedL (ch:=[e,it]) (t':=s.toks) hf fun b o hb q=>eb b o (fun z=>hb (by simp [z])) q⟩
 self:=fun _ _ _ _ _ st h=>by
  obtain ⟨⟨old,he⟩,_⟩:=st
  exact wpAny_pyIter_enum he h
def Dv (K:PySem.W.Frag) (ta:TA):TI:=fun σ H R=>ta σ H fun vs H1=>bE fun a c=>vs=[.ref a]∧(∃xs,iF K H1 a xs c)∧R (wz K a c) H1
theorem wU {X:Cx}{K:PySem.W.Frag}{es:List Expr}{kk:Nat}{tp:Pos}{a:Expr}{ta:TA}{p pos:Pos} (hg:Gl X "enumerate") (hm:X.mg "enumerate" = none) (ha:PA X [a] ta) (hs:starEach [a] X.env=[(false,eval a X.env)]:=by rfl) (ek:X.K=K:=by rfl) :
 PI X (.Tuple es kk tp) (.Call (.Name "enumerate" p) [a] [] pos) (Dv K ta):=by
 subst ek
 intro pins s σ H R I h
 refine Call_ (lD I hg hm boot_enumerate (PyProof.Rows.callWith_type1 (aK (ha pos pins s σ H _ I h) fun us s1 ⟨vs,H1,I1,r1,q1⟩=>?_) hs rfl))
 obtain ⟨a,c,rfl,⟨xs,hq⟩,q⟩:=q1
 obtain ⟨u,rfl,ru⟩:=r1.one
 obtain rfl:u=.ref a:=ru
 obtain ⟨its,rv,p⟩:=I1.seqC hq
 have d1:=p.lt
 refine xS p fun h' hE hI hk=>wpAny_pyIter_enum hE ?_
 have I2:ag X pins σ H1 { s1 with heap:=h',toks:=s1.toks }:=I1.kept hk
 refine ⟨s1.heap.objs.size+1,[s1.heap.objs.size+1,s1.heap.objs.size],_,_,H1,rfl,I2,yC a (s1.heap.objs.size+1) s1.heap.objs.size c (Nat.succ_ne_self _) (Nat.ne_of_lt (Nat.lt_succ_of_lt d1)) (Nat.ne_of_lt d1),⟨⟨_,hE⟩,hI⟩,fun b hb=>?_,q⟩
 have hb':b=s1.heap.objs.size+1∨b=s1.heap.objs.size:=by simpa using hb
 have hle:s1.heap.objs.size≤b:=by rcases hb' with rfl | rfl <;> trivial
 exact I1.fpOk hle (I1.hok.fresh hle)
section
variable {X:Cx}
end
end L2
namespace L2
open PySem PySem.Spec PyProof.Rows
section
variable {z:Nat}{E:Addr→Prop}{H H':Hp}{n m k:Nat}{v:V}{xs ys:List V}
end
section
variable {X:Cx}
end
end L2
namespace HT
open PySem PySem.Spec PyProof.Rows
section
variable {prog:Program}{w:World}{A:Around}{E:Value→Shared→Prop}{s:Shared}
theorem getItem_tuple_whole {t sl:Addr}{items:Array Value}{vl vu:Value}{lo hi:Option Int}{Q:Value→Shared→Prop} (ht:IsTup s.heap t items) (hs:s.heap.IsSliceOf sl vl vu .none) (pl:IsPart vl lo) (pu:IsPart vu hi)
 (h1:sIx items.size 0 lo=0) (h2:sIx items.size items.size hi=items.size) (h:Q (.ref t) s):wpAny (model prog w) A (getItem (.ref t) (.ref sl)) Q E s:=by
 obtain ⟨os,hos,hcs,hds⟩:=id hs
 have hTs:s.TypeIs (.ref sl) "slice" := ⟨os,hos,hcs⟩
 unfold getItem
 try with_reducible refine wpAny_holding ?_
 first | refine wpAny_bind (wpAny_pure ?_) | skip
 refine wpAny_bind (wpAny_sequenceKey ht.typeIs (by decide) ?_)
 refine wpAny_bind (wpAny_callSpecial?_slot (name:=Str.ofString "__getitem__") ht.typeIs PyProof.Rows.slot_tuple_getitem
  (wpAny_call_entry PyProof.Rows.slot_tuple_getitem ht.typeIs entry_tuple_getitem ?_ (args_tuple_getitem _ _)))
 show wpAny _ _ (Builtin.Tuple.tupleItemsOf (.ref t) >>= _) _ _ s
 refine wpAny_bind (tupleItemsOf_ ht ?_)
 refine wpAny_bind (wpAny_typeOf hTs ?_)
 rw [if_pos (by decide)]
 refine wpAny_bind (lg hs pl pu ?_)
 have hyes:((((sIx items.size 0 lo:Nat):Int)==0 && (1:Int)==1 && (sIx items.size items.size hi - sIx items.size 0 lo)==items.size)=true):=by
  rw [h1,h2];simp
 show wpAny _ _ (if (((sIx items.size 0 lo:Nat):Int)==0 && (1:Int)==1 && (sIx items.size items.size hi - sIx items.size 0 lo)==items.size)=true then _ else _) _ _ s
 rw [if_pos hyes]
 refine wpAny_bind (m:=Builtin.Tuple.tupleIsExact _) (wpAny_bind (wpAny_typeOf ht.typeIs (wpAny_pure ?_)))
 rw [if_pos (by decide)]
 exact wpAny_bind (wpAny_rule (wpAny_pure ⟨(),wpAny_pure h⟩))
end
end HT
namespace L2
open PySem PySem.Spec PyProof.Rows
section
variable {X:Cx}{K:PySem.W.Frag}
inductive E6 (x:V) (y:V) (H:Hp) (Q:VK):Prop
 | mk (b c:Bool) (h0:x=.bl b) (h1:y=.bl c) (h2:Q (.bl (!(b==c))) H)
def FK:R2:=fun x y H Q=>E6  x y H Q
theorem CI:de X (compareOp .IsNot) FK:=by
 intro pins s σ H x y v u Q I rx ry h
 obtain ⟨b,c,rfl,rfl,q⟩:=h
 cases (show v=Value.bool b from rx)
 cases (show u=Value.bool c from ry)
 refine wpAny_isNot_plain rfl (bj I q ?_)
 cases b <;> cases c <;> rfl
inductive EJ (K:PySem.W.Frag) (x:V) (lo:Option Int) (hi:Option Int) (H:Hp) (Q:VK):Prop
 | mk (a:_) (xs:_) (h0:x=.ref a) (h1:aa K H a xs) (h2:H a=some (.tup xs)) (h3:∀p H',ad H H'→H' p=some (.tup (gh xs lo hi))→Q (.ref p) H')
def Fv (K:PySem.W.Frag):V→Option Int→Option Int→Hp→VK→Prop:=fun x lo hi H Q=>EJ K x lo hi H Q
theorem iL (e:X.K=K:=by rfl):y6 X (Fv K):=by
 subst e
 intro pins s σ H x v vl vu lo hi sl Q I rx hs pl pu h
 obtain ⟨a,xs,rfl,hx,ha,q⟩:=h
 by_cases hw:HT.sIx xs.length 0 lo=0∧HT.sIx xs.length xs.length hi=xs.length
 ·cases rx
  obtain ⟨its,r,ht,hz⟩:=I.tuple hx
  have hlen:its.toArray.size=xs.length:=by rw [List.size_toArray];exact r.length.symm
  refine ⟨"tuple",_,PyProof.Rows.slot_tuple_getitem.lookup,ht.typeIs,?_⟩
  refine HT.getItem_tuple_whole ht hs pl pu (by rw [hlen];exact hw.1) (by rw [hlen];exact hw.2) ⟨.ref a,H,I,rfl,q a H (ad.refl _) ?_⟩
  have:gh xs lo hi=xs:=by
   unfold gh
   rw [hw.1,hw.2,List.drop_zero,Nat.sub_zero,List.take_length]
  rw [this];exact ha
 ·exact Dg pins s σ H _ v vl vu lo hi sl Q I rx hs pl pu ⟨a,xs,rfl,hx,hw,fun p hp=>q p _ (ad.new hp) au⟩
end
theorem xN {α:Type}{p:List α→Prop} (h0:p []) (h1:∀l a,p l→p (l++[a])) (l:List α):p l:=by
 have:∀r:List α,p r.reverse:=fun r=>by
  induction r with
  | nil=>exact h0
  | cons a r ih=>rw [List.reverse_cons];exact h1 _ _ ih
 have h:=this l.reverse
 rwa [List.reverse_reverse] at h
def ER:aP→V
 | .inl i=>.int i
 | .inr x=>.str x
theorem BM {k:aP}{u:Value} (h:aT (ER k) u):oN k u=true∧u.scannable=true:=by
 cases k with
 | inl i=>obtain ⟨t,rfl⟩:=h;exact ⟨yQ i t,rfl⟩
 | inr x=>obtain ⟨t,rfl⟩:=h;exact ⟨zV x t,rfl⟩
section
variable {prog:Program}{w:World}{A:Around}{R:Result→Shared→Prop}{it:Addr}{fp wr:List Addr}{G:Array GenState→Array GenState→Prop}{P:Nat→Value→Prop}{St:Nat→Shared→Prop}
end
section
variable {prog:Program}{w:World}{A:Around}{E:Value→Shared→Prop}{s:Shared}
end
section
variable {X:Cx}{K:PySem.W.Frag}{e:Expr}{te:TE}{p1 p2 p3 p4:Pos}
end
section
variable {X:Cx}{K:PySem.W.Frag}{o e:Expr}{es:List Expr}{to:TE}{t:TA}{name:Str}{apos cpos:Pos}{T id:String}{r:V→List V→Hp→VK→Prop}
theorem cI (pa:PlainAttrs T) (slot:Slot T name id) (hty:typeOf (.builtin id)=pure (.type "method_descriptor")) (hm:xn X id r) (ho:PE X o to) (ha:PA X (e :: es) t) (ek:X.K=K:=by rfl)
 (h1:attributeBase o name X.env (eval o X.env)=eval o X.env:=by rfl)
 (h2:((backTo cpos (starEach (e :: es) X.env)).all (fun x=>!x.1) && (backToKw cpos (keywordEach [] X.env)).all (fun x=>x.1.isSome) && decide ((e :: es).length+([]:List Keyword).length+(if ([]:List Keyword).isEmpty then 0 else 1)<30))=true:=by rfl)
 (h3:(apos.endLine==cpos.line)=true:=by rfl) (h4:starEach (e :: es) X.env=(false,eval e X.env) :: starEach es X.env:=by rfl) (h5:(backTo cpos (starEach es X.env)).any (·.1)=false:=by rfl) :
 PE X (.Call (.Attribute o name apos) (e :: es) [] cpos) (Gz K T r to t):=by
 subst ek
 exact Go pa slot hty hm ho ha h1 h2 h3 h4 h5
end
theorem bV {X:Cx}{K:PySem.W.Frag}{es:List Expr}{kk:Nat}{tp:Pos}{a b:Expr}{ta:TA}{p pos:Pos} (hg:Gl X "zip") (hm:X.mg "zip" = none) (ha:PA X [a,b] ta) (ek:X.K=K:=by rfl) (h1:starEach [a,b] X.env=[(false,eval a X.env),(false,eval b X.env)]:=by rfl) (h2:starEach [b] X.env=[(false,eval b X.env)]:=by rfl) :
 PI X (.Tuple es kk tp) (.Call (.Name "zip" p) [a,b] [] pos) (Ew K ta):=by
 subst ek
 exact DK hg hm ha h1 h2
end L2
namespace L2
theorem aX {t u:TS}{D:eh}{σ:St}{H:Hp} (h:∀D':eh,(∀σ' H',u D σ' H'→D'.nx σ' H')→t D' σ H):kn t u D σ H:=h { D with nx:=u D } fun _ _ z=>z
theorem C7 {t u:TS}{D:eh}{σ:St}{H:Hp} (h:∀D':eh,(∀σ' H',u D σ' H'→D'.nx σ' H')→(∀v H',D.rt v H'→D'.rt v H')→t D' σ H):kn t u D σ H:=h { D with nx:=u D } (fun _ _ z=>z) fun _ _ z=>z
theorem i0 {t:TS}{D:eh}{σ:St}{H:Hp} (h:∀D':eh,(∀σ' H',D.nx σ' H'→D'.nx σ' H')→t D' σ H):t D σ H:=h D fun _ _ z=>z
end L2
namespace L2
open PySem PySem.Spec PyProof.Rows
section
variable {X:Cx}
end
section
variable {K:PySem.W.Frag}{a a1 a2 D:Addr}{H1:Hp}{σc:St}{g:TG}{te:TE}{tt:TT}{Q:VK}{xs ys:List V}
theorem ue {α:Type} (f:Nat→α) (i:Nat):(List.range i).map f++[f i]=(List.range (i+1)).map f:=by
 rw [List.range_succ,List.map_append];rfl
theorem pY {J:It}{n:Nat} (f:Nat→V) (hz:n≤10000) (hD:H1 D=none) (hgo:∀i H',i<n→ad H1 H'→J.go i H') (hst:∀H',ad H1 H'→J.stop n H')
 (hs:∀i x H' H'' (R:VK),i<n→ad H1 H'→J.yld i H' x H''→(∀H4,ad H' H4→R (f i) H4)→g x σc H'' fun σ2 H2=>gM σc σ2∧te σ2 H2 R)
 (hd:∀H',ad H1 H'→H' D=some (.lst ((List.range n).map f))→Q (.ref D) H'):jM J σc g tT te D H1 Q:=by
 refine gf (n:=n) (fun i H' zs=>zs=(List.range i).map f∧H' D=some (.lst zs)∧ad H1 H') (fE hz) ⟨rfl,au,da hD (ad.refl _)⟩ ?_ ?_ ?_ ?_ ?_
 ·rintro i H' zs ⟨rfl,q,_⟩
  exact ⟨q,by simp⟩
 ·rintro i H' zs hi ⟨_,_,sm⟩
  exact hgo i H' hi sm
 ·rintro H' zs ⟨_,_,sm⟩
  exact hst H' sm
 ·rintro i H' zs x H'' hi ⟨rfl,q,sm⟩ y
  exact hs i x H' H'' _ hi sm y fun H4 s4=>⟨s4 _ _ q,ue f i,au,da hD (sm.trans s4)⟩
 ·rintro H' zs ⟨rfl,q,sm⟩
  exact hd H' sm q
theorem uU {c1 c2:Bool}{j1 j2:Nat} (f:Nat→V) (hz:min xs.length ys.length≤10000) (hD:H1 D=none) (h1:∀H',ad H1 H'→iF K H' a1 xs c1) (h2:∀H',ad H1 H'→iF K H' a2 ys c2)
 (hs:∀i x y H' (R:VK),xs[i]?=some x→ys[i]?=some y→ad H1 H'→(∀H4,ad H' H4→R (f i) H4)→(fun σ2 H2=>gM σc σ2∧te σ2 H2 R) ((σc.set j1 (some x)).set j2 (some y)) H')
 (hd:∀H',ad H1 H'→H' D=some (.lst ((List.range (min xs.length ys.length)).map f))→Q (.ref D) H'):jM (xF K a1 a2 c1 c2) σc (AA K 2 (ye (qC j1) (ye (qC j2) EZ))) tT te D H1 Q:=by
 refine pY (n:=min xs.length ys.length) f hz hD (fun i H' hi sm=>⟨xs,ys,xs[i]'(by trivial),ys[i]'(by trivial),h1 H' sm,h2 H' sm,by rw [List.getElem?_eq_getElem (by trivial)],by rw [List.getElem?_eq_getElem (by trivial)]⟩) (fun H' sm=>⟨xs,ys,h1 H' sm,h2 H' sm,by trivial⟩) ?_ hd
 rintro i v H' H'' R hi sm ⟨T,x,y,hT,rfl,rfl,e1,e2⟩ k
 have st:=ad.new (o:=.tup [x,y]) hT
 exact ⟨T,(),aa.of au,rfl,_,(),_,(),rfl,hs i x y _ R (e1 _ (h1 H' sm)) (e2 _ (h2 H' sm)) (sm.trans st) fun H4 s4=>k H4 (st.trans s4)⟩
end
end L2
namespace L2
theorem A8 {t u:TS}{D:eh}{σ:St}{H:Hp} (I:St→Hp→Prop) (rest:∀σ' H',I σ' H'→u D σ' H') (h:(∀σ' H',I σ' H'→u D σ' H')→t { D with nx:=u D } σ H):kn t u D σ H:=h rest
end L2
namespace L2
open PySem PySem.Spec PyProof.Rows
section
variable {X:Cx}{tg:Expr}
inductive Cv (K:PySem.W.Frag) (x:V) (y:V) (H:Hp) (Q:VK):Prop
 | mk (a:_) (b:_) (xs:_) (ys:_) (h0:x=.ref a) (h1:y=.ref b) (h2:aa K H a xs) (h3:H a=some (.tup xs)) (h4:aa K H b ys) (h5:xs≠[]) (h6:xs.length+ys.length≤10000) (h7:∀p H',ad H H'→H' p=some (.tup (xs++ys))→Q (.ref p) H')
def C6 (K:PySem.W.Frag):R2:=fun x y H Q=>Cv K x y H Q
theorem Al {K:PySem.W.Frag} (e:X.K=K:=by rfl):de X (binaryOp .Add) (C6 K):=by
 subst e
 intro pins s σ H x y v u Q I rx ry h
 obtain ⟨a,b,xs,ys,e1,e2,ha,ha',hb,hx,hz,q⟩:=h
 refine Ce pins s σ H x y v u Q I rx ry ⟨a,b,xs,ys,e1,e2,ha,hb,hx,fE hz,fun z=>?_,fun z p hp=>q p _ (ad.new hp) au⟩
 refine q a H (ad.refl _) ?_
 rw [z,List.append_nil];exact ha'
end
section
variable {X:Cx}{K:PySem.W.Frag}{o e:Expr}{es:List Expr}{to:TE}{t:TA}{name:Str}{apos cpos:Pos}{id:String}{r:V→List V→Hp→VK→Prop}
end
end L2
namespace L2
open PySem PyProof.Rows
def bt (X:Cx) (scope:Scope) (cl:List (Str×Addr)) (C:Addr) (N':List Str) (s:Shared) (H:Hp) (ex:List Addr) (pn:List (Addr×Obj)):Cx:=
 { qp X scope cl C N' s H ex pn with fn:=fun x=>scope.names.lookup x==some .cell }
def lR (esc:Scope) (N:List Str) (scope:Scope) (N':List Str) (L:Nat) (src:List Nat):Bool:=
 (scope.kind==.function) && scope.names.all (fun y=>(y.2 != .cell || scope.names.lookup y.1==some .cell) && (y.2 != .local || scope.names.lookup y.1==some .local) && (y.2 != .free || esc.names.lookup y.1==some .cell || esc.names.lookup y.1==some .free)) &&
  (N'.length==L+src.length) && (List.range src.length).all fun i=>match src[i]?,N'[L+i]? with
   | some j,some x=>(N[j]?==some x) && (scope.names.lookup x==some .free)
   | _,_=>false
structure uc (esc:Scope) (N:List Str) (scope:Scope) (N':List Str) (L:Nat) (src:List Nat):Prop where
 kind:scope.kind=.function
 cells:∀y∈scope.names,y.2=.cell→scope.names.lookup y.1=some .cell
 loc:∀y∈scope.names,y.2=.local→scope.names.lookup y.1=some .local
 free:∀y∈scope.names,y.2=.free→esc.names.lookup y.1=some .cell∨esc.names.lookup y.1=some .free
 len:N'.length=L+src.length
 frees:∀(i j:Nat),src[i]?=some j→∃x,N'[L+i]?=some x∧N[j]?=some x∧scope.names.lookup x=some .free
theorem oI {esc:Scope}{N:List Str}{scope:Scope}{N':List Str}{L:Nat}{src:List Nat} (h:lR esc N scope N' L src=true):uc esc N scope N' L src:=by
 unfold lR at h
 simp only [Bool.and_eq_true,List.all_eq_true] at h
 obtain ⟨⟨⟨h1,h2⟩,h3⟩,h4⟩:=h
 refine ⟨by simpa using h1,fun y hy e=>?_,fun y hy e=>?_,fun y hy e=>?_,by simpa using h3,fun i j e=>?_⟩
 ·have:=(h2 y hy).1.1
  rw [e] at this
  simpa using this
 ·have:=(h2 y hy).1.2
  rw [e] at this
  simpa using this
 ·have:=(h2 y hy).2
  rw [e] at this
  simpa using this
 ·have hi:i<src.length:=(List.getElem?_eq_some_iff.mp e).1
  have:=h4 i (List.mem_range.mpr hi)
  rw [e] at this
  cases q:N'[L+i]? with
  | none=>rw [q] at this;simp at this
  | some x=>
   rw [q] at this
   simp only [Bool.and_eq_true,beq_iff_eq] at this
   exact ⟨x,rfl,this.1,this.2⟩
theorem jK:∀(names:List (Str×NameKind)) (n:Nat) (acc acc':List (Str×Addr)),cellsFrom n names (acc++acc')=cellsFrom n names acc++acc'
 | [],_,_,_=>rfl
 | (name,kind) :: r,n,acc,acc'=>by
  unfold cellsFrom
  split
  ·exact jK r (n+1) ((name,n) :: acc) acc'
  ·exact jK r n acc acc'
theorem pf (names:List (Str×NameKind)) (n:Nat) (acc:List (Str×Addr)):cellsFrom n names acc=cellsFrom n names []++acc:=jK names n [] acc
theorem fF {x:Str}{c:Addr}:∀(names:List (Str×NameKind)) (n:Nat) (acc:List (Str×Addr)),(x,c)∈cellsFrom n names acc→(x,NameKind.cell)∈names∨(x,c)∈acc
 | [],_,_,h=>.inr h
 | (name,kind) :: r,n,acc,h=>by
  unfold cellsFrom at h
  split at h
  ·rename_i hk
   rcases fF r (n+1) _ h with h | h
   ·exact .inl (List.mem_cons_of_mem _ h)
   ·rcases List.mem_cons.mp h with h | h
    ·injection h with h1 h2
     have hk':kind=.cell:=by simpa using hk
     rw [h1,hk'];exact .inl List.mem_cons_self
    ·exact .inr h
  ·rcases fF r n _ h with h | h
   ·exact .inl (List.mem_cons_of_mem _ h)
   ·exact .inr h
theorem jE {x:Str}:∀(names:List (Str×NameKind)) (n:Nat) (acc:List (Str×Addr)),(∃c,acc.lookup x=some c)→∃c,(cellsFrom n names acc).lookup x=some c
 | [],_,_,h=>h
 | (name,kind) :: r,n,acc,⟨c,h⟩=>by
  unfold cellsFrom
  split
  ·refine jE r (n+1) _ ?_
   rw [List.lookup_cons]
   cases hb:x==name with
   | true=>exact ⟨_,rfl⟩
   | false=>exact ⟨c,h⟩
  ·exact jE r n acc ⟨c,h⟩
theorem g9 {x:Str}:∀(names:List (Str×NameKind)) (n:Nat) (acc:List (Str×Addr)),(x,NameKind.cell)∈names→∃c,(cellsFrom n names acc).lookup x=some c
 | (name,kind) :: r,n,acc,h=>by
  unfold cellsFrom
  rcases List.mem_cons.mp h with h | h
  ·injection h with h1 h2
   subst h1;subst h2
   rw [if_pos (show (NameKind.cell==NameKind.cell)=true from rfl)]
   exact jE r (n+1) _ ⟨n,by simp [List.lookup_cons]⟩
  ·split
   ·exact g9 r (n+1) _ h
   ·exact g9 r n acc h
theorem DP {M:Model}{A:Around}{E:Value→Shared→Prop}{s:Shared}{scope:Scope}{globals:Addr}{cl:List (Str×Addr)}{qual:Str}{env:Env}{Q:Env→Shared→Prop}
 (h:Q { scope:=scope,locals:=s.heap.objs.size,globals:=globals,cells:=cellsFrom (s.heap.objs.size+1) scope.names cl,qual:=qual,func:=none,code:=env.code,frame:=env.frame,builtins:=env.builtins }
  { s with heap:=pushCells (s.heap.push { cls:=.type "dict",data:=.dict #[] }) scope.names }) :
 wpAny M A (newFunctionEnv scope globals cl [] qual none .none (some env)) Q E s:=by
 simp only [newFunctionEnv,Option.isSome_some,if_true]
 refine wpAny_bind (wpAny_alloc ?_)
 refine wpAny_bind (wpAny_layCells _ (fun name kind cells=>by cases hkc:kind==NameKind.cell <;> simp [hkc]) _ _ _ _ ?_)
 rw [show ({ s with heap:=s.heap.push { cls:=.type "dict",data:=.dict #[] } }:Shared).heap.objs.size=s.heap.objs.size+1 from Heap.size_push ..]
 exact wpAny_bind (by rw [List.forIn_nil];exact wpAny_pure (wpAny_pure h))
section
variable {X:Cx}{elt tg iter:Expr}{ifs:List Expr}{scope:Scope}{pos:Pos}{N':List Str}{L:Nat}{src:List Nat}{wi:TI}{g:TG}{tt:TT}{te:TE}
theorem uI (hc:X.calm=true) (ck:uc X.env.scope X.N scope N' L src) {cl:List (Str×Addr)}{pins:List (Addr×Obj)}{s:Shared}{σ:St}{H:Hp}{Q:VK} (I:ag X pins σ H s)
 (hsub:∀x c,cl.lookup x=some c→X.env.cells.lookup x=some c) (hhas:∀y∈scope.names,y.2=.free→∃c,cl.lookup y.1=some c)
 (hi:PI X tg iter wi) (hg:∀cl C s H ex pn,PG (bt X scope cl C N' s H ex pn) tg g) (hif:∀cl C s H ex pn,lY (bt X scope cl C N' s H ex pn) ifs tt)
 (he:∀cl C s H ex pn,PE (bt X scope cl C N' s H ex pn) elt te) (h:xR wi L src g tt te σ H Q) {RR:Value→Addr→Result→Shared→Prop}
 (hRR:∀D C H' f s' m,ag X pins σ H' s'→s'.heap.Ns C m→il X pins H' C→Q (.ref D) H'→RR (.ref D) C (.ok f) s') :
 wpAny (model X.prog X.w) X.A (eval iter X.env) (fun x s₁=>wpAny (model X.prog X.w) X.A (pyIter x) (fun it s₂=>wpAny (model X.prog X.w) X.A (newList []) (fun acc s₃=>
  wpAny (model X.prog X.w) X.A (newFunctionEnv scope X.env.globals cl [] X.env.qual none .none (some X.env)) (fun cenv s₄=>
   codeAny (model X.prog X.w) X.A (.compStart (.ListComp elt [⟨tg,iter,ifs,0⟩] scope pos) 0 it acc { cenv with scope:=relabel scope X.env }) (RR acc cenv.locals) s₄) X.xe s₃) X.xe s₂) X.xe s₁) X.xe s:=by
 refine aK (hi pins s σ H _ I h) fun v s1 h1=>aK h1 fun itv s2 h2=>?_
 obtain ⟨it,fp,tn,J,H2,e,I2,T,st2,f2,q⟩:=h2
 subst e
 refine wpAny_newObj_type (DP ?_)
 dsimp only
 generalize hH2:s2.heap.push { cls:=.type "list",dict:=none,data:=.seq ([]:List Value).toArray }=hp2
 have hns₁:(pushCells (hp2.push { cls:=.type "dict",data:=.dict #[] }) scope.names).Ns hp2.objs.size fun _=>none:=(Heap.Ns.new hp2 (.type "dict")).keeps (pushCells_keeps _ _)
 have kp:∀b o,hp2.get? b=some o→(pushCells (hp2.push { cls:=.type "dict",data:=.dict #[] }) scope.names).get? b=some o:=fun b o e=>pushCells_keeps _ _ b o (Heap.get?_push_of_some _ e)
 have okc:=cellsFrom_ok scope.names (hp2.push { cls:=.type "dict",data:=.dict #[] }) (hp2.objs.size+1) [] ⟨fun _ _ hm=>(nomatch hm),List.Pairwise.nil⟩ (by rw [Heap.size_push];exact Nat.le_refl _)
 rw [Heap.size_push] at okc
 rw [pf]
 have ncell:∀x c,(cellsFrom (hp2.objs.size+1) scope.names []).lookup x=some c→(x,NameKind.cell)∈scope.names:=fun x c e=>(fF _ _ _ (PySem.mem_of_lookup e)).elim id (fun z=>by cases z)
 have nhas:∀x,(x,NameKind.cell)∈scope.names→∃c,(cellsFrom (hp2.objs.size+1) scope.names []).lookup x=some c:=fun x h=>g9 _ _ _ h
 generalize pushCells (hp2.push { cls:=.type "dict",data:=.dict #[] }) scope.names=h₁ at hns₁ kp okc ⊢
 generalize cellsFrom (hp2.objs.size+1) scope.names []=nw at okc ncell nhas ⊢
 have hC:hp2.objs.size=s2.heap.objs.size+1:=by rw [←hH2,Heap.size_push]
 have hDC:s2.heap.objs.size≠hp2.objs.size:=by rw [hC];exact Nat.ne_of_lt (Nat.lt_succ_self _)
 have hCle:s2.heap.objs.size≤hp2.objs.size:=by rw [hC];exact Nat.le_succ _
 have below:∀b,b<s2.heap.objs.size→b≠hp2.objs.size∧b≠s2.heap.objs.size:=fun b hb=>⟨by rw [hC];exact Nat.ne_of_lt (Nat.lt_succ_of_lt hb),Nat.ne_of_lt hb⟩
 have old:∀b o,s2.heap.get? b=some o→h₁.get? b=some o:=fun b o e=>kp b o (hH2▸Heap.get?_push_of_some _ e)
 have hacc:h₁.get? s2.heap.objs.size=some { cls:=.type "list",dict:=none,data:=.seq ([]:List Value).toArray }:=kp _ _ (hH2▸Heap.get?_push_size _ rfl)
 have hDn:H2 s2.heap.objs.size=none:=I2.fresh
 obtain ⟨W,⟨m0,w0⟩,turn⟩:=q _ hDn
 have fpo:∀b∈fp,∃o,s2.heap.get? b=some o∧∀v,o.data≠.cell v:=T.obj _ _ st2
 have fplt:∀b∈fp,b<s2.heap.objs.size:=fun b hb=>by obtain ⟨o,e,_⟩:=fpo b hb;exact Heap.lt_size e
 have hfrs:∀b∈fp,b∉dQ X.stack:=fun b hb z=>by
  rcases List.mem_cons.mp (I2.stkSub b z) with z' | z'
  ·exact (f2 b hb).2.1 z'
  ·exact (f2 b hb).2.2.1 z'
 have spl:∀x c,(nw++cl).lookup x=some c→nw.lookup x=some c∨(nw.lookup x=none∧cl.lookup x=some c):=fun x c e=>by
  rw [List.lookup_append] at e
  cases q:nw.lookup x with
  | none=>rw [q] at e;exact .inr ⟨rfl,e⟩
  | some c'=>rw [q] at e;exact .inl e
 have nab:∀x c,nw.lookup x=some c→hp2.objs.size+1≤c:=fun x c e=>(okc.empty x c (PySem.mem_of_lookup e)).2
 have olt:∀x c,cl.lookup x=some c→c<s2.heap.objs.size:=fun x c e=>by
  obtain ⟨v,o,ho,_⟩:=I2.cell x c (hsub _ _ e)
  exact Heap.lt_size ho
 have n2o:∀x c y,nw.lookup x=some c→cl.lookup y=some c→False:=fun x c y e1 e2=>Nat.lt_irrefl c (Nat.lt_of_lt_of_le (olt y c e2) (Nat.le_trans hCle (Nat.le_of_succ_le (nab x c e1))))
 generalize hX:bt X scope (nw++cl) hp2.objs.size N' s2 H2 fp (X.pn++pins)=X'
 have ok':X'.Ok:=by
  subst hX
  refine ⟨I2.ok.mod,ck.kind,I2.ok.glob,I2.ok.blt,hCle,fun x y c e1 e2=>(spl x c e1).elim (fun g1=>(spl y c e2).elim (fun g2=>name_of_addr okc.apart (PySem.mem_of_lookup g1) (PySem.mem_of_lookup g2)) (fun g2=>(n2o x c y g1 g2.2).elim)) (fun g1=>(spl y c e2).elim (fun g2=>(n2o y c x g2 g1.2).elim) (fun g2=>I2.ok.inj x y c (hsub _ _ g1.2) (hsub _ _ g2.2))),fun x hx=>?_,fun x c z e=>?cab,I2.ok.hd,I2.ok.frames,.inl rfl,fun b hb=>⟨(below b (fplt b hb)).1,fun x c e=>(spl x c e).elim (fun g z=>Nat.lt_irrefl b (Nat.lt_of_lt_of_le (fplt b hb) (Nat.le_trans hCle (Nat.le_of_succ_le (z▸nab x c g))))) (fun g=>(f2 b hb).2.2.2.2.1 x c (hsub _ _ g.2))⟩,
   I2.bs,Nat.le_trans I2.ok.bsz I2.sz,fun b o e hb=>?_,hfrs,I2.stack,I2.stkFree⟩
  ·-- a name that is a cell or free
   have hx':(relabel scope X.env).names.lookup x=some .cell∨(relabel scope X.env).names.lookup x=some .free:=hx
   have bR:∀(names:List (Str×NameKind)),
    ((names.map fun (n,k)=>if (k==NameKind.free && X.env.scope.kind==.function && X.env.kindOf n==some .cell) then (n,NameKind.cell) else (n,k)).lookup x=some .cell∨
     (names.map fun (n,k)=>if (k==NameKind.free && X.env.scope.kind==.function && X.env.kindOf n==some .cell) then (n,NameKind.cell) else (n,k)).lookup x=some .free)→∃y∈names,y.1=x∧(y.2=.free∨y.2=.cell):=by
    intro names
    induction names with
    | nil=>intro h;rcases h with h | h <;> simp at h
    | cons y r ih=>
     intro h
     obtain ⟨n,k⟩:=y
     by_cases hb:x=n
     ·subst hb
      refine ⟨(x,k),List.mem_cons_self,rfl,?_⟩
      by_cases hk:k=.free
      ·exact .inl hk
      ·have hkb:(k==NameKind.free)=false:=by simpa using hk
       right
       simp only [List.map_cons,hkb,Bool.false_and,Bool.false_eq_true,if_false,List.lookup_cons,beq_self_eq_true,if_true] at h
       rcases h with h | h
       ·exact Option.some.inj h
       ·exact absurd (Option.some.inj h) hk
     ·have hb':(x==n)=false:=by simpa using hb
      have h':((r.map fun (n,k)=>if (k==NameKind.free && X.env.scope.kind==.function && X.env.kindOf n==some .cell) then (n,NameKind.cell) else (n,k)).lookup x=some .cell∨
       (r.map fun (n,k)=>if (k==NameKind.free && X.env.scope.kind==.function && X.env.kindOf n==some .cell) then (n,NameKind.cell) else (n,k)).lookup x=some .free):=by
       rw [List.map_cons] at h
       dsimp only at h
       by_cases hcnd:(k==NameKind.free && X.env.scope.kind==.function && X.env.kindOf n==some .cell)=true
       ·rw [if_pos hcnd] at h
        simpa only [List.lookup_cons,hb'] using h
       ·rw [if_neg hcnd] at h
        simpa only [List.lookup_cons,hb'] using h
      obtain ⟨y,hy,e1,e2⟩:=ih h'
      exact ⟨y,List.mem_cons_of_mem _ hy,e1,e2⟩
   obtain ⟨y,hy,e1,e2⟩:=bR scope.names hx'
   show ∃c,(nw++cl).lookup x=some c
   rw [List.lookup_append]
   cases q:nw.lookup x with
   | some c=>exact ⟨c,rfl⟩
   | none=>
    rcases e2 with e2 | e2
    ·obtain ⟨c,hc'⟩:=hhas y hy e2
     exact ⟨c,by rw [←e1,hc'];rfl⟩
    ·obtain ⟨c,hc'⟩:=nhas x (by obtain ⟨y1,y2⟩:=y;dsimp only at e1 e2;rw [←e1,←e2];exact hy)
     rw [q] at hc';cases hc'
  case cab=>
   have z':(scope.names.lookup x==some NameKind.cell)=true:=z
   obtain ⟨c',hc'⟩:=nhas x (PySem.mem_of_lookup (by simpa using z'))
   rcases spl x c e with g | g
   ·have:=nab x c g
    show s2.heap.objs.size≤c
    trivial
   ·rw [hc'] at g;cases g.1
  ·rcases (f2 b hb).2.2.2.1 with z | z
   ·exact I2.ok.noex b o e z
   ·exact absurd (Nat.lt_of_lt_of_le (Heap.lt_size e) (Nat.le_trans I2.ok.bsz z)) (Nat.lt_irrefl _)
 have stat:∀{H':Hp},(∀b∈fp,H' b=none)→∀b∈fp,il X' [] H' b:=by
  subst hX
  intro H' hn b hb
  refine ⟨hn b hb,(below b (fplt b hb)).1,hfrs b hb,.inl hb,fun x c e=>(spl x c e).elim (fun g z=>Nat.lt_irrefl b (Nat.lt_of_lt_of_le (fplt b hb) (Nat.le_trans hCle (Nat.le_of_succ_le (z▸nab x c g))))) (fun g=>(f2 b hb).2.2.2.2.1 x c (hsub _ _ g.2)),fun p hp=>?_⟩
  have hp':p∈X.pn++pins:=by simpa [bt,qp] using hp
  exact (f2 b hb).2.2.2.2.2 p hp'
 have I1:ag X' [] (fO L src σ) (aG H2 s2.heap.objs.size (.lst [])) { s2 with heap:=h₁,toks:=s2.toks }:=by
  subst hX
  have up:∀b o,H2 b=some o→aG H2 s2.heap.objs.size (.lst []) b=some o:=fun b o e=>by rw [ay (aN e hDn)];exact e
  have upn:∀b,b<s2.heap.objs.size→H2 b=none→aG H2 s2.heap.objs.size (.lst []) b=none:=fun b hb e=>by rw [ay (Nat.ne_of_lt hb)];exact e
  refine ⟨ok',rfl,I2.bare,Un.laid old (Nat.le_refl _) hDn,⟨_,hns₁,fun i x v e1 e2 e3=>?_⟩,fun x c e=>?_,?_,fun x c e=>?_,fun p hp=>?_,I2.hok.laid old (Nat.le_refl _) ⟨Nat.zero_le _,[],0,.nil,hacc⟩,?_⟩
  ·-- the names of the def around
   have hiL:L≤i:=by
    by_cases hlt:i<L
    ·exfalso
     unfold fO at e2
     rw [List.getElem?_append_left (by simpa using hlt),List.getElem?_replicate,if_pos hlt] at e2
     cases e2
    ·trivial
   have e2':(src.map fun j=>(σ[j]?).join)[i - L]?=some (some v):=by
    unfold fO at e2
    rw [List.getElem?_append_right (by simpa using hiL),List.length_replicate] at e2
    exact e2
   rw [List.getElem?_map] at e2'
   cases hj:src[i - L]? with
   | none=>rw [hj] at e2';cases e2'
   | some j=>
    rw [hj] at e2'
    have e3':(σ[j]?).join=some v:=Option.some.inj e2'
    have hσ:σ[j]?=some (some v):=by
     cases q:σ[j]? with
     | none=>rw [q] at e3';cases e3'
     | some o=>rw [q] at e3';exact congrArg some e3'
    obtain ⟨x',g1,g2,g3⟩:=ck.frees (i - L) j hj
    have:L+(i - L)=i:=by trivial
    rw [this] at g1
    have ex:x'=x:=Option.some.inj (g1.symm.trans e1)
    subst ex
    have hfree:=ck.free _ (PySem.mem_of_lookup g3) rfl
    obtain ⟨m,hn,hl⟩:=I2.loc
    obtain ⟨u,r,l⟩:=hl j x' v g2 hσ (hfree.elim (fun z=>.inr (.inl z)) fun z=>.inr (.inr z))
    refine ⟨u,r,.inr ⟨?_,?_⟩⟩
    ·-- its kind in the block
     have bR:∀(names:List (Str×NameKind)),names.lookup x'=some .free→
      ((names.map fun (n,k)=>if (k==NameKind.free && X.env.scope.kind==.function && X.env.kindOf n==some .cell) then (n,NameKind.cell) else (n,k)).lookup x'=some .cell∨
       (names.map fun (n,k)=>if (k==NameKind.free && X.env.scope.kind==.function && X.env.kindOf n==some .cell) then (n,NameKind.cell) else (n,k)).lookup x'=some .free):=by
      intro names
      induction names with
      | nil=>intro h;simp at h
      | cons y r ih=>
       intro h
       obtain ⟨n,k⟩:=y
       by_cases hb:x'=n
       ·subst hb
        simp only [List.lookup_cons,beq_self_eq_true,if_true] at h
        have hk:k=.free:=Option.some.inj h
        subst hk
        rw [List.map_cons]
        dsimp only
        by_cases hcnd:(NameKind.free==NameKind.free && X.env.scope.kind==.function && X.env.kindOf x'==some .cell)=true
        ·rw [if_pos hcnd];left;simp [List.lookup_cons]
        ·rw [if_neg hcnd];right;simp [List.lookup_cons]
       ·have hb':(x'==n)=false:=by simpa using hb
        have h':=ih (by simpa only [List.lookup_cons,hb'] using h)
        rw [List.map_cons]
        dsimp only
        by_cases hcnd:(k==NameKind.free && X.env.scope.kind==.function && X.env.kindOf n==some .cell)=true
        ·rw [if_pos hcnd];simpa only [List.lookup_cons,hb'] using h'
        ·rw [if_neg hcnd];simpa only [List.lookup_cons,hb'] using h'
     exact bR scope.names g3
    ·obtain ⟨c,hcl⟩:=hhas _ (PySem.mem_of_lookup g3) rfl
     have hcx:=hsub _ _ hcl
     rcases l with ⟨k1,_⟩ | ⟨_,c',e4,z⟩
     ·exfalso
      have k1':X.env.scope.names.lookup x'=some .local:=k1
      rcases hfree with z | z
      ·rw [z] at k1';cases k1'
      ·rw [z] at k1';cases k1'
     ·rw [hcx] at e4
      cases e4
      obtain ⟨o,ho,hd⟩:=z
      refine ⟨c,?_,o,old _ _ ho,hd⟩
      show (nw++cl).lookup x'=some c
      rw [List.lookup_append]
      cases q:nw.lookup x' with
      | none=>exact hcl
      | some c'=>
       exfalso
       have:=ck.cells _ (ncell _ _ q) rfl
       dsimp only at this
       rw [g3] at this;cases this
  ·rcases spl x c e with g | g
   ·exact ⟨none,(okc.empty x c (PySem.mem_of_lookup g)).1⟩
   ·obtain ⟨v,o,ho,hd⟩:=I2.cell x c (hsub _ _ g.2)
    exact ⟨v,o,old _ _ ho,hd⟩
  ·show aG H2 s2.heap.objs.size (.lst []) hp2.objs.size=none
   rw [ay (Ne.symm hDC)]
   exact I2.hok.fresh hCle
  ·rcases spl x c e with g | g
   ·have:=nab x c g
    rw [ay (by intro z;rw [z] at this;trivial)]
    exact I2.hok.fresh (by trivial)
   ·obtain ⟨v,o,ho,hd⟩:=I2.cell x c (hsub _ _ g.2)
    exact upn c (Heap.lt_size ho) (I2.freeC x c (hsub _ _ g.2))
  ·have hp':p∈X.pn++pins:=by simpa [bt,qp] using hp
   obtain ⟨e,n,ne,nf,d⟩:=I2.pin p hp'
   have hlt:=Heap.lt_size e
   refine ⟨old _ _ e,upn _ hlt n,(below _ hlt).1,fun z=>?_,d⟩
   rcases List.mem_cons.mp (I2.stkSub _ z) with z' | z'
   ·exact ne z'
   ·exact nf z'
  ·show (fO L src σ).length=N'.length
   unfold fO
   rw [List.length_append,List.length_replicate,List.length_map,ck.len]
 have eA:X'.A=X.A:=by subst hX;rfl
 have eP:X'.prog=X.prog:=by subst hX;rfl
 have eW:X'.w=X.w:=by subst hX;rfl
 have eK:X'.K=X.K:=by subst hX;rfl
 have ec:X'.calm=true:=by subst hX;exact hc
 have exe:X'.xe=fun _ _=>False:=by subst hX;rfl
 have eE:X'.env=compEnvC scope (nw++cl) hp2.objs.size X.env:=by subst hX;rfl
 have hg':PG X' tg g:=by subst hX;exact hg _ _ _ _ _ _
 have hif':lY X' ifs tt:=by subst hX;exact hif _ _ _ _ _ _
 have he':PE X' elt te:=by subst hX;exact he _ _ _ _ _ _
 have aft:∀{H':Hp}{s':Shared},ag X' [] (fO L src σ) H' s'→ag X pins σ H' s'∧(∃m,s'.heap.Ns hp2.objs.size m)∧il X pins H' hp2.objs.size:=by
  subst hX
  intro H' s' J
  refine ⟨I2.call' (ch:=fp) J.os J.base J.hok J.bare fun b hb=>⟨(f2 b hb).2.2.2.1,(f2 b hb).2.1,(f2 b hb).2.2.2.2.1,(f2 b hb).2.2.2.2.2⟩,?_,I2.fpOk hCle J.free⟩
  obtain ⟨m,hn,_⟩:=J.loc
  exact ⟨m,hn⟩
 have st1:tn 0 h₁:=T.keep _ _ _ st2 fun b hb o e=>old b o e
 have loop:∀s₃:Shared,s₃={ s2 with heap:=h₁,toks:=s2.toks }→
  codeAny (model X.prog X.w) X.A (.compLoop (.ListComp elt [⟨tg,iter,ifs,0⟩] scope pos) 0 (.ref it) (.ref s2.heap.objs.size) (compEnvC scope (nw++cl) hp2.objs.size X.env))
   (RR (.ref s2.heap.objs.size) hp2.objs.size) s₃:=by
  rintro s₃ rfl
  refine vP (fun n s'=>gH fun i H' ys=>ag X' [] (fO L src σ) H' s'∧tn i s'.heap∧(∀b∈fp,H' b=none)∧W i n H' ys) ?_ m0
   ⟨0,_,[],I1,st1,fun b hb=>(by rw [ay (below b (fplt b hb)).2];exact (f2 b hb).1),w0⟩
  rintro n s3 ⟨i,H3,ys,I3,st3,fr3,w3⟩
  obtain ⟨hD,alt⟩:=turn i n H3 ys w3
  rcases alt with ⟨stop,qn⟩ | ⟨go,hlen,N,hN,step⟩
  ·have d:=T.done X' eP eW eK ec i [] s3 (fO L src σ) H3 (fun _ _=>False) I3 (stat fr3) st3 stop
   rw [eA] at d
   refine aK d fun r s4 ⟨hr,I4⟩=>?_
   subst hr
   obtain ⟨J,⟨m,hn⟩,fpC⟩:=aft I4
   exact hRR _ _ H3 .next s4 m J hn fpC qn
  ·have d:=T.item X' eP eW eK ec i [] s3 (fO L src σ) H3 (fun _ _=>False) I3 (stat fr3) st3 go
   rw [eA] at d
   refine aK d fun r s4 ⟨u,hr,h4⟩=>?_
   subst hr
   refine aK h4 fun _ s5 ⟨x,H5,I5,r5,y5,st5,fr5⟩=>?_
   have I5':=I5.pinned (stat fr5) (T.obj _ _ st5)
   have a1:=hg' _ s5 (fO L src σ) H5 x u _ I5' r5 (step x H5 y5)
   rw [eP,eW,eA,eE,exe] at a1
   refine aK a1 fun _ s6 ⟨σ6,H6,I6,bk,q6⟩=>?_
   have a2:=hif' _ s6 σ6 H6 _ I6 q6
   rw [eP,eW,eA,eE,exe] at a2
   refine aK a2 fun b s7 ⟨H7,I7,q7⟩=>?_
   have again:∀{H8:Hp}{s8:Shared}{ys':List V},ag X' ([]++lN fp s5.heap) σ6 H8 s8→N H8 ys'→∃m,m<n∧gH fun i H' ys=>ag X' [] (fO L src σ) H' s8∧tn i s8.heap∧(∀b∈fp,H' b=none)∧W i m H' ys:=fun {H8 s8 ys'} I8 n8=>by
    obtain ⟨m',hm,w8⟩:=hN H8 ys' n8
    refine ⟨m',hm,i+1,H8,ys',(I8.unpinned).weak bk.1.symm bk.2,T.keep _ _ _ st5 fun b hb o e=>(I8.pin (b,o) (List.mem_append_right _ (List.mem_append_right _ (dN hb e)))).1,fun b hb=>?_,w8⟩
    obtain ⟨o,e,d⟩:=T.obj _ _ st5 b hb
    exact (I8.pin (b,o) (List.mem_append_right _ (List.mem_append_right _ (dN hb e)))).2.1
   cases b with
   | false=>
    rw [if_neg Bool.false_ne_true] at q7 ⊢
    exact again I7 q7
   | true=>
    rw [if_pos rfl] at q7 ⊢
    have a3:=he' _ s7 σ6 H7 _ I7 q7
    rw [eP,eW,eA,eE,exe] at a3
    refine aK a3 fun xv s8 ⟨y,H8,I8,r8,hD8,q8⟩=>?_
    have a4:=p8 (X:=X') _ s8 σ6 H8 (.ref s2.heap.objs.size) [y] (.ref s2.heap.objs.size) [xv] (fun _ H'=>H'=aG H8 s2.heap.objs.size (.lst (ys++[y]))) I8 rfl (.cons r8 .nil) ⟨_,ys,y,rfl,rfl,hD8,hlen,rfl⟩
    rw [eP,eW,eA,exe] at a4
    refine aK a4 fun _ s9 ⟨_,H9,I9,_,e9⟩=>?_
    subst e9
    exact again I9 q8
 exact codeAny_compStart_list (loop _ rfl) (T.self _ 0 _ _ _ st1 (loop _ rfl))
theorem bI (hc:X.calm=true) (ck:lR X.env.scope X.N scope N' L src=true) (hi:PI X tg iter wi) (hg:∀cl C s H ex pn,PG (bt X scope cl C N' s H ex pn) tg g) (hif:∀cl C s H ex pn,lY (bt X scope cl C N' s H ex pn) ifs tt)
 (he:∀cl C s H ex pn,PE (bt X scope cl C N' s H ex pn) elt te) (hs:∀x,foldedSetIterable iter X.env x=pure x:=by intro _;rfl) :
 PE X (.ListComp elt [⟨tg,iter,ifs,0⟩] scope pos) (xR wi L src g tt te):=by
 intro pins s σ H Q I h
 have ck:=oI ck
 obtain ⟨cl,hclos,hsub,hhas⟩:=tX (scope:=scope) (env:=X.env) fun y hy e=>I.ok.has y.1 (ck.free y hy e)
 rw [eval_ListComp]
 refine wpAny_comprehension_free (use:=none) rfl hs hclos ck.kind ck.loc (uI hc ck I hsub hhas hi hg hif he h (RR:=fun acc C=>compPost (model X.prog X.w) X.A X.xe none (EP X pins σ Q) acc C) ?_)
 intro D C H' f s' m J hn fpC q
 refine ⟨m,hn,fun h' hsb=>⟨.ref D,H',?_,rfl,q⟩⟩
 obtain ⟨f0,f1,f2,f3,f4,f5⟩:=fpC
 exact J.turned (t':=s'.toks) (fun b o hb e=>(hsb.2 b hb).trans e) f0 f1 f3 f4 f5
theorem dX {j:Nat}{y:Str}{py spos:Pos} (hN:X.N.Nodup) (hj:X.N[j]?=some y) (hy:X.env.scope.names.lookup y=some .local) (hsw:swapsWith (.ListComp elt [⟨tg,iter,ifs,0⟩] scope pos) (some (.Name y py)) spos.line X.env=pure true)
 (hc:X.calm=true) (ck:lR X.env.scope X.N scope N' L src=true) (hi:PI X tg iter wi) (hg:∀cl C s H ex pn,PG (bt X scope cl C N' s H ex pn) tg g) (hif:∀cl C s H ex pn,lY (bt X scope cl C N' s H ex pn) ifs tt)
 (he:∀cl C s H ex pn,PE (bt X scope cl C N' s H ex pn) elt te) (hs:∀x,foldedSetIterable iter X.env x=pure x:=by intro _;rfl) :
 PS X (.Assign [.Name y py] (.ListComp elt [⟨tg,iter,ifs,0⟩] scope pos) spos) (xY (xR wi L src g tt te) (qC j)):=by
 intro pins s σ H D I h
 have ck:=oI ck
 obtain ⟨cl,hclos,hsub,hhas⟩:=tX (scope:=scope) (env:=X.env) fun y hy e=>I.ok.has y.1 (ck.free y hy e)
 rw [exec_Assign_Name_used _ _ _ _ hsw]
 refine wpAny_bind (wpAny_standAt (wpAny_bind ?_))
 show wpAny _ X.A (do let _ ←comprehension (.ListComp elt [⟨tg,iter,ifs,0⟩] scope pos) scope X.env _ (newList []) false (eval iter X.env) (some (assign (.Name y py) X.env))) _ _ s
 refine wpAny_bind (wpAny_mono (wpAny_comprehension_free (use:=some (assign (.Name y py) X.env)) (Q:=fun _ s'=>SP X pins D .next s') rfl hs hclos ck.kind ck.loc
  (uI hc ck I hsub hhas hi hg hif he h (RR:=fun acc C=>compPost (model X.prog X.w) X.A X.xe (some (assign (.Name y py) X.env)) (fun _ s'=>SP X pins D .next s') acc C) ?_)) (fun _ s' hq=>wpAny_pure (wpAny_pure hq)) fun _ _ e=>e)
 intro L' C H' f s' m J hn fpC q
 show wpAny _ X.A (assign (.Name y py) X.env (.ref L')) _ _ _
 refine wpAny_assign_Name (uS J hN hj (.inl hy) (v:=.ref L') rfl (fun s2 J2 hsb=>?_) (.inr hy))
 obtain ⟨f0,f1,f2,f3,f4,f5⟩:=fpC
 obtain ⟨a,hsb,ha⟩:=hsb
 have hCa:C≠a:=by
  rcases ha with rfl | ha
  ·exact f1
  ·exact fun z=>f4 _ _ ha z.symm
 refine ⟨m,hn.sameBut hsb hCa,fun h' hsb'=>⟨_,H',?_,q⟩⟩
 exact J2.turned (t':=s2.toks) (fun b o hb e=>(hsb'.2 b hb).trans e) f0 f1 f3 f4 f5
end
end L2
namespace HT
open PySem PySem.Spec PyProof.Rows
section
variable {prog:Program}{w:World}{A:Around}{E:Value→Shared→Prop}{s:Shared}
end
end HT
namespace L2
open PySem PySem.Spec PyProof.Rows
section
variable {X:Cx}{K:PySem.W.Frag}
end
section
variable {X:Cx}{e:Expr}{te:TE}{st:Expr}{ts:TO}{p2 pos:Pos}
end
def HD (H H':Hp):Prop:=∀a us,H a=some (.tup us)→H' a=some (.tup us)
section
variable {H H' H'':Hp}{z n k m:Nat}{v:V}{E:Addr→Prop}{b th th' p:Addr}{xs ys zs:List V}
end
section
variable {E:Addr→Prop}{z:Nat}{H0:Hp}{σ:St}{n k m:Nat}{te tb:TE}{ta:TA}{v:V}{i:Nat}{p:Addr}{xs:List V}{K:PySem.W.Frag}
end
section
variable {b th:Addr}{H0:Hp}{σ:St}{zs:List V}{ta:TA}{te:TE}{n i:Nat}{Q:VK}{K:PySem.W.Frag}
end
theorem ik {te:TE}{i:Nat}{u:TS}{D:eh}{σ:St}{H:Hp} (h:∀Q:VK,(∀v H',u D (σ.set i (some v)) H'→Q v H')→te σ H Q):kn (xY te (qC i)) u D σ H:=h _ fun _ _ z=>z
theorem AM {ta:TA}{i j:Nat}{u:TS}{D:eh}{σ:St}{H:Hp} (h:∀Q:List V→Hp→Prop,(∀v w H',u D ((σ.set i (some v)).set j (some w)) H'→Q [v,w] H')→ta σ H Q):kn (DR i j ta) u D σ H:=h _ fun _ _ _ z=>⟨_,(),z⟩
theorem En {te:TE}{D:eh}{σ:St}{H:Hp} (h:∀Q:VK,(∀v H',D.rt v H'→Q v H')→te σ H Q):Dz te D σ H:=h _ fun _ _ z=>z
theorem lH {α:Type}{P:List α→Prop} (h:∀a,P [a]):∀us:List α,us.length=1→P us:=fun us hl=>by
 cases us with
 | nil=>cases hl
 | cons a r=>cases r with
  | nil=>exact h a
  | cons b r=>simp at hl
theorem dh {α:Type}{P:List α→Prop} (h:∀a b,P [a,b]):∀us:List α,us.length=2→P us:=fun us hl=>by
 cases us with
 | nil=>cases hl
 | cons a r=>exact lH (P:=fun r=>P (a :: r)) (fun b=>h a b) r (by simpa using hl)
theorem mJ {α:Type}{P:List α→Prop} (h:∀a b c,P [a,b,c]):∀us:List α,us.length=3→P us:=fun us hl=>by
 cases us with
 | nil=>cases hl
 | cons a r=>exact dh (P:=fun r=>P (a :: r)) (fun b c=>h a b c) r (by simpa using hl)
theorem Aa {α:Type}{P:List α→Prop} (h:∀a b c d,P [a,b,c,d]):∀us:List α,us.length=4→P us:=fun us hl=>by
 cases us with
 | nil=>cases hl
 | cons a r=>exact mJ (P:=fun r=>P (a :: r)) (fun b c d=>h a b c d) r (by simpa using hl)
section
variable {X:Cx}{a:Expr}{ta:TA}{p p2 pos pos2:Pos}
inductive Ep (x:V) (vs:List V) (H:Hp) (Q:VK):Prop
 | mk (l:_) (xs:_) (i:_) (y:_) (h0:x=.ref l) (h1:vs=[.int (i:Nat)]) (h2:H l=some (.lst xs)) (h3:xs.length≤10000) (h4:xs[i]?=some y) (h5:∀H',Ch H l (xs.eraseIdx i) H'→Q y H')
def Gh:V→List V→Hp→VK→Prop:=fun x vs H Q=>Ep  x vs H Q
theorem Cq:vN X "list.pop" Gh:=by
 intro pins s σ H x vs v us Q I rx rv h
 obtain ⟨l,xs,i,y,e1,e2,hH,hz,hy,q⟩:=h
 have hi:i<xs.length:=(List.getElem?_eq_some_iff.mp hy).1
 refine AI pins s σ H x vs v us Q I rx rv ⟨l,xs,_,i,y,e1,e2,hH,by trivial,by trivial,?_,hy,q _ .mk'⟩
 have h0:¬((i:Int)<0):=by trivial
 simp [seqIndex?,h0,hi]
end
section
variable {prog:Program}{w:World}{A:Around}{E:Value→Shared→Prop}{s:Shared}
variable {z TI TO i1 i2 l1 l2 T:Addr}{k:Nat}{xs ys:Array Value}{bb:Bool}{c1 c2:Bool}{oT:Obj}
end
theorem gU:entryFor table "dict.update.loop" = some Builtin.«dict.update.loop»:=entryFor_of_tree (by kernel_rfl)
theorem cK:plainId "dict.update.loop" = true:=by nofun
section
variable {prog:Program}{w:World}{A:Around}{E:Value→Shared→Prop}{R:Result→Shared→Prop}
variable {z TI TO i1 i2 l1 l2 d:Addr}{xs ys:Array Value}{c1 c2:Bool}{ks:List aP}
end
section
variable {X:Cx}{K:PySem.W.Frag}{a b:Expr}{ta:TA}{p1 p2 p3 p4:Pos}
theorem zT {P:Program}{w:World}{k:aP}{u:Value} (r:aT (ER k) u):(cJ P w).is k u=true:=(BM r).1
end
section
variable {X:Cx}
end
section
variable {prog:Program}{w:World}{A:Around}{E:Value→Shared→Prop}{s:Shared}
variable {n l1 l2 l3 T:Nat}{k:Nat}{xs ys zs:Array Value}{bb:Bool}{oT:Obj}
end
section
variable {prog:Program}{w:World}{A:Around}{E:Value→Shared→Prop}{s:Shared}
variable {n l1 l2 l3:Nat}{k:Nat}{xs ys zs:Array Value}
end
section
variable {prog:Program}{w:World}{A:Around}{E:Value→Shared→Prop}{R:Result→Shared→Prop}
variable {n l1 l2 l3:Nat}{xs ys zs:Array Value}
end
section
variable {prog:Program}{w:World}{A:Around}{E:Value→Shared→Prop}{s:Shared}
end
section
variable {X:Cx}{pins:List (Addr×Obj)}{σ:St}{H:Hp}{s:Shared}{h':Heap}
end
section
variable {X:Cx}{K:PySem.W.Frag}{a b c:Expr}{ta:TA}{p1 p2 p3 p4:Pos}
end
theorem uj:typeLookup (.type "list") "keys" = pure none:=am_miss_of_fast (by kernel_rfl)
section
variable {prog:Program}{w:World}{A:Around}{E:Value→Shared→Prop}{s:Shared}
theorem rb {a:Addr}{xs:Array Value}{k:Nat}{name:Str}{Q:Option Value→Shared→Prop} (hmiss:typeLookup (.type "list") name=pure none) (hname:(["__module__", "__name__", "__qualname__", "__doc__", "__annotations__"]:List Str).contains name=false) (hsz:name.length+100≤sizeLine)
 (hx:s.heap.get? a=some { cls:=.type "list",dict:=none,data:=.seq xs k,slots:=#[] }) (hA:A.handled=none)
 (h:∀h' tk,(∀b o,s.heap.get? b=some o→h'.get? b=some o)→Q none { s with heap:=h',toks:=tk }) :
 wpAny (model prog w) A (getAttr? (.ref a) name) Q E s:=by
 obtain ⟨hp,g,d,tk,os⟩:=s
 have hT:∀tk',(⟨hp,g,d,tk',os⟩:Shared).TypeIs (.ref a) "list" := fun _=>⟨_,hx,rfl⟩
 have f1:=sub_AttributeError
 have f3:=F.slot_list_getattribute.lookup
 have f4:=F.slot_list_getattribute.bind (.ref a)
 have f5:=am_list_getattr_none
 unfold getAttr? getAttrBy? getAttrBy
 repeat (any_goals (first | assumption | exact hT _ | ((with_reducible show wpAny _ _ (call (Value.builtin "list.__getattribute__") _ _) _ _ _);refine call_meets F.slot_list_getattribute (hT _) am_entry_list_getattribute (F.args_list_getattribute_2 _ _) (meets_getattribute_miss_list a xs k #[] name _ hmiss hname hsz) ⟨hx,hA,fun h' tk' e hx'=>?_⟩) | wp_step))
 obtain ⟨t',u',he⟩:=hx'.there
 show wpAny _ _ (getattributeRaised _ _ _ _ _ _ _) _ _ _
 unfold getattributeRaised
 repeat (any_goals (first | assumption | wp_step))
 exact h _ _ hx'.keeps
end
section
variable {prog:Program}{w:World}{A:Around}{E:Value→Shared→Prop}{R:Result→Shared→Prop}
variable {l it d:Nat}{vs:Array Value}{ks:List aP}{us:List Value}
end
section
variable {X:Cx}
theorem qJ {α:Type}{p:Nat→α→Prop}:∀n,(∀i,i<n→∃a,p i a)→∃as:List α,as.length=n∧∀(i:Nat) a,as[i]?=some a→p i a
 | 0,_=>⟨[],rfl,fun i a h=>by simp at h⟩
 | n+1,h=>by
  obtain ⟨as,l,q⟩:=qJ n fun i hi=>h i (by trivial)
  obtain ⟨a,ha⟩:=h n (by trivial)
  refine ⟨as++[a],by rw [List.length_append,l];rfl,fun i b hb=>?_⟩
  by_cases c:i<n
  ·rw [List.getElem?_append_left (by trivial)] at hb
   exact q i b hb
  ·have hlt:=(List.getElem?_eq_some_iff.mp hb).1
   rw [List.length_append] at hlt
   simp at hlt
   obtain rfl:i=n:=by trivial
   rw [List.getElem?_append_right (by trivial),l,Nat.sub_self] at hb
   obtain rfl:a=b:=Option.some.inj hb
   exact ha
end
section
variable {X:Cx}
inductive Dm (x:V) (vs:List V) (H:Hp) (Q:VK):Prop
 | mk (l:_) (b:_) (xs:_) (zs:_) (h0:x=.ref l) (h1:vs=[.ref b]) (h2:H l=some (.lst xs)) (h3:H b=some (.lst zs)) (h4:xs.length+zs.length≤10000) (h5:∀H',Ch H l (xs++zs) H'→Q .non H')
def Fu:V→List V→Hp→VK→Prop:=fun x vs H Q=>Dm  x vs H Q
theorem tF:vN X "list.extend" Fu:=fun pins s σ H x vs v us Q I rx rv ⟨l,b,xs,zs,e1,e2,h,h',hz,q⟩=>yR pins s σ H x vs v us Q I rx rv ⟨l,b,xs,zs,e1,e2,h,h',(by rw [sizeLine_eq];trivial),q _ .mk'⟩
end
theorem GV {α:Type}{P:List α→Prop} (h:∀a b c d e,P [a,b,c,d,e]):∀us:List α,us.length=5→P us:=fun us hl=>by
 cases us with
 | nil=>cases hl
 | cons a r=>exact Aa (P:=fun r=>P (a :: r)) (fun b c d e=>h a b c d e) r (by simpa using hl)
structure Gb (a b:Nat) (p:KM.Fra):Prop where
 n:Sz a p.1
 d:Sz b p.2
 pos:1≤p.2
theorem Gb.mono {a b a' b':Nat}{p:KM.Fra} (h:Gb a b p) (ha:a≤a') (hb:b≤b'):Gb a' b' p:=⟨h.n.mono ha,h.d.mono hb,h.pos⟩
theorem vM {a b:Nat}{n d:Int} (hn:Sz a n) (hd:Sz b d) (h0:0<d):Gb a b (KM.low n d):=by
 have:=KM.low_spec n d (by trivial)
 exact ⟨hn.le this.2.2.2.1,hd.le this.2.2.2.2,this.1⟩
theorem Gb.add {a b c d e f:Nat}{p q:KM.Fra} (h:Gb a b p) (k:Gb c d q) (h1:a+d<e) (h2:c+b<e) (h3:b+d≤f):Gb e f (KM.ladd p q):=by
 obtain ⟨e',rfl⟩:∃e',e=e'+1:=⟨e - 1,by trivial⟩
 exact vM (((h.n.mul k.d).mono (by trivial)).add ((k.n.mul h.d).mono (by trivial))) ((h.d.mul k.d).mono h3) (Int.mul_pos (by have:=h.pos;trivial) (by have:=k.pos;trivial))
theorem Gb.tim {a b c d e f:Nat}{p q:KM.Fra} (h:Gb a b p) (k:Gb c d q) (h1:a+c≤e) (h3:b+d≤f):Gb e f (KM.lTim p q):=
 vM ((h.n.mul k.n).mono h1) ((h.d.mul k.d).mono h3) (Int.mul_pos (by have:=h.pos;trivial) (by have:=k.pos;trivial))
end L2
namespace L2
open PySem PySem.Spec PyProof.Rows
section
variable {X:Cx}
structure uW (H:Hp) (p:Addr) (o:HO) (H':Hp):Prop where
 at':H' p=some o
 ol:∀a u,a≠p→H a=some u→H' a=some u
 fre:∀a,a≠p→H a=none→H' a=none
theorem uW.mk' {H:Hp}{p:Addr}{o:HO}:uW H p o (aG H p o):=⟨au,fun a u n h=>by rw [ay n];exact h,fun a n h=>by rw [ay n];exact h⟩
end
section
variable {prog:Program}{w:World}{A:Around}{R:Result→Shared→Prop}{s:Shared}
end
section
variable {X:Cx}{kx vx tg iter:Expr}{ifs:List Expr}{scope:Scope}{pos:Pos}{N':List Str}{L:Nat}{src:List Nat}{wi:TI}{g:TG}{tt:TT}{tk tv:TE}
end
end L2
namespace KM
variable {ls:List (List Nat)}{es done:List Edge}{W u:List Nat→Rat}{S:List (List Nat)}{q:List Nat}{m:Rat}
end KM
namespace L2
open PySem PySem.Spec PyProof.Rows
mutual
inductive Wv (z:Nat):PyData→Nat→Nat→Prop
 | non {n k:Nat} (hn:1≤n):Wv z .none n k
 | bl (b:Bool) {n k:Nat} (hn:1≤n):Wv z (.bool b) n k
 | int {i:Int} (h:Sz z i) {n k:Nat} (hn:1≤n):Wv z (.int i) n k
 | str {x:Str} (h:AZ x) {n k:Nat} (hn:1≤n):Wv z (.str x) n k
 | list {xs:List PyData}{m l n k:Nat} (h:eZ z xs m l) (hn:m+1≤n) (hk:l+1≤k):Wv z (.list xs) n k
 | tuple {xs:List PyData}{m l n k:Nat} (h:eZ z xs m l) (hn:m+1≤n) (hk:l+1≤k):Wv z (.tuple xs) n k
inductive eZ (z:Nat):List PyData→Nat→Nat→Prop
 | nil {n k:Nat}:eZ z [] n k
 | cons {x:PyData}{xs:List PyData}{m l n k:Nat} (h:Wv z x m k) (r:eZ z xs l k) (hn:m+l≤n):eZ z (x :: xs) n k
end
theorem Wv.up {z:Nat}{d:PyData}{n k n' k':Nat} (h:Wv z d n k) (hn:n≤n') (hk:k≤k'):Wv z d n' k':=by
 cases h with
 | non h=>exact .non (by trivial)
 | bl b h=>exact .bl b (by trivial)
 | int h hn'=>exact .int h (by trivial)
 | str h hn'=>exact .str h (by trivial)
 | list h h1 h2=>exact .list h (by trivial) (by trivial)
 | tuple h h1 h2=>exact .tuple h (by trivial) (by trivial)
mutual
theorem Wv.wt {z:Nat} (hz:z≤1900):∀{d:PyData}{n k:Nat},Wv z d n k→∃m,m≤n∧Wt d m k
 | _,_,_,.non h=>⟨1,h,.non⟩
 | _,_,_,.bl b h=>⟨1,h,.bl b⟩
 | _,_,_,.int h hn=>⟨1,hn,.int (h.mono (by trivial))⟩
 | _,_,_,.str h hn=>⟨1,hn,.str h⟩
 | _,_,_,.list h hn hk=>by
  obtain ⟨m,h1,h2⟩:=eZ.wt hz h
  exact ⟨m+1,by trivial,Wt.deep (.list h2) hk⟩
 | _,_,_,.tuple h hn hk=>by
  obtain ⟨m,h1,h2⟩:=eZ.wt hz h
  exact ⟨m+1,by trivial,Wt.deep (.tuple h2) hk⟩
theorem eZ.wt {z:Nat} (hz:z≤1900):∀{ds:List PyData}{n k:Nat},eZ z ds n k→∃m,m≤n∧dj ds m k
 | _,_,_,.nil=>⟨0,Nat.zero_le _,.nil⟩
 | _,_,_,.cons h r hn=>by
  obtain ⟨m,h1,h2⟩:=Wv.wt hz h
  obtain ⟨l,h3,h4⟩:=eZ.wt hz r
  exact ⟨m+l,by trivial,.cons h2 h4⟩
end
section
variable {z:Nat}{E:Addr→Prop}{H H':Hp}{n m k:Nat}{v:V}{xs ys:List V}
end
section
variable {X:Cx}{K:PySem.W.Frag}
end
end L2
namespace L2
open PySem PySem.Spec PyProof.Rows
section
variable {X:Cx}
end
end L2
namespace L2
open PySem
theorem qr {p q:KM.Fra} (hp:1≤p.2) (hq:1≤q.2):KM.vl p≤KM.vl q↔p.1*q.2≤q.1*p.2:=by
 have e:KM.vl q - KM.vl p=Rat.divInt (q.1*p.2 - p.1*q.2) (q.2*p.2):=by
  unfold KM.vl
  rw [Rat.divInt_sub_divInt _ _ (by trivial) (by trivial)]
 have h:=Rat.divInt_nonneg_iff_of_pos_right (a:=q.1*p.2 - p.1*q.2) (b:=q.2*p.2) (Int.mul_pos (by trivial) (by trivial))
 rw [←e] at h
 constructor
 ·intro z
  have:=h.mp (by grind)
  trivial
 ·intro z
  have:=h.mpr (by trivial)
  grind
end L2
namespace L2
open PySem PySem.Spec PyProof.Rows
section
variable {prog:Program}{w:World}{A:Around}{E:Value→Shared→Prop}{hp:Heap}{gs:Array GenState}{dr:Drawn}{tk:Nat}{os:OsState}
variable {nm qn:Str}{C N:Addr}{bs bm bB:List Value}{hd:Bool}{sn:List Str}{sb:List Value}{ab:Bool}{cl:Option Bool}{dd:Option Addr}{k0 k1 k2 k3 k5:Option Value}{B nw ni:String}
end
end L2
namespace L2
open PySem PySem.Spec PyProof.Rows PySem.W
section
variable {prog:Program}{w:World}{A:Around}{E:Value→Shared→Prop}{s:Shared}{K:Frag}{x C:Addr}{ox:Obj}{od:Option Obj}{name:Str}{fill expr:Bool}
end
end L2
namespace L2
open PySem PySem.Spec PyProof.Rows PySem.W PySem.Builtin.ObjectAttr
section
variable {prog:Program}{w:World}{A:Around}{E:Value→Shared→Prop}{s:Shared}{K:Frag}{x C:Addr}{ox:Obj}{name:Str}{v:Value}
end
section
variable {prog:Program}{w:World}{A:Around}{E:Value→Shared→Prop}{s:Shared}{K:Frag}{x C:Addr}{ox:Obj}{od:Option Obj}{a0:Value}
end
end L2
namespace L2
open PySem PySem.Spec PyProof.Rows
section
variable {X:Cx}{pins:List (Addr×Obj)}{σ:St}{H:Hp}{s:Shared}{h':Heap}
end
section
variable {X:Cx}{C f:Addr}{x:Str}{p pos:Pos}{e:Expr}{es:List Expr}{t:TA}{k:Nat}{fd:FuncData}{ps:List Str}{sp:Sp}{E:XK}
end
theorem fe:bootBuiltins "repr" = some (.builtin "repr"):=by nofun
section
variable {X:Cx}
theorem gA {k:Nat} (hr:d7 k X.A):dH X (.builtin "repr") Fj:=by
 intro pins s σ H xs us Q I r h
 obtain ⟨a,d,E,n,k,rfl,hd,w,hn,hk,q⟩:=h
 obtain ⟨u,rfl,ru⟩:=r.one
 obtain rfl:u=.ref a:=ru
 obtain ⟨as,rr⟩:=hd.reads I.hok (u:=.ref a) rfl
 refine repr_of_reads' rr w.sho (PyData.noDict_hsm w.nod) hr.gd (by have:=hr.units;have:=w.dep;trivial) (fun _ _ e=>e) (fun h' u tk hk=>?_) (by have:=w.len;rw [sizeLine_eq];trivial)
 exact ⟨.str _,H,I.kept hk,⟨()⟩,q⟩
end
section
variable {M:Model}{A:Around}{E:Value→Shared→Prop}{s:Shared}{base:Heap}{env:Env}{outer:List Env}{L a T:Addr}{C head:Value}{dx:Option Addr}{vs:Array Value}{sl:Array (Option Value)}{hn:Bool}{Q:Unit→Shared→Prop}
end
section
variable {X:Cx}{pins:List (Addr×Obj)}{σ:St}{H:Hp}{s:Shared}{h':Heap}{a T C:Addr}{dx:Option Addr}{φ:Heap→Prop}{ch:List Addr}{fl:Value}
end
section
variable {P:Program}{w:World}{K:PySem.W.Frag}{mg:Str→Option Value}{base:Heap}{N:List Str}{qual:Str}{scope:Scope}{f:Addr}{cd:Value}{A:Around}{outer:List Env}{s:Shared}{H:Hp}{E:XK}
end
section
variable {M:Model}{A:Around}{E:Value→Shared→Prop}{s:Shared}{env:Env}
end
section
variable {X:Cx}{e:Expr}{te:TE}{pos:Pos}{E:XK}
end
section
variable {X:Cx}{pins:List (Addr×Obj)}{σ σ':St}{H:Hp}{s:Shared}{h':Heap}
end
section
variable {X:Cx}{CX:lI}{k:Nat}{f:Addr}{fd:FuncData}{ps:List Str}{sp:Sp}{EE:St→XK}{x:Str}{p pos:Pos}{e:Expr}{es:List Expr}{t:TA}
end
section
variable {X:Cx}{pins pins' pn:List (Addr×Obj)}{σ:St}{H:Hp}{s:Shared}{xe:Value→Shared→Prop}
end
section
variable {X:Cx}{body suite:List Stmt}{b0:Stmt}{x n:Str}{hpos pos np:Pos}{tb:(St→XK)→TS}{th:TS}{Cc:Addr}{i:Nat}
end
section
variable {X:Cx}{C:Addr}{e:Expr}{pos:Pos}
end
section
variable {X:Cx}
end
section
variable {X:Cx}
end
def mT:Nat→List Obj→PySem.W.Frag
 | _,[]=>[]
 | n,o :: r=>match o.data with
  | .freed=>mT (n+1) r
  | _=>(n,o) :: mT (n+1) r
def fragOf (h:Heap):PySem.W.Frag:=mT 0 h.objs.toList
theorem vd:∀(l:List Obj) (n a:Nat) (o:Obj),List.lookup a (mT n l)=some o→∃k,a=n+k∧l[k]?=some o∧o.data≠.freed
 | [],n,a,o,e=>nomatch e
 | p :: r,n,a,o,e=>by
  have step:List.lookup a (mT (n+1) r)=some o→∃k,a=n+k∧(p :: r)[k]?=some o∧o.data≠.freed:=fun e=>by
   obtain ⟨k,e1,e2,e3⟩:=vd r (n+1) a o e
   exact ⟨k+1,by trivial,by simpa using e2,e3⟩
  unfold mT at e
  split at e
  ·exact step e
  ·rename_i hf
   by_cases q:a=n
   ·subst q
    simp only [List.lookup_cons,beq_self_eq_true] at e
    cases e
    exact ⟨0,rfl,rfl,hf⟩
   ·have q':(a==n)=false:=by simpa using q
    simp only [List.lookup_cons,q'] at e
    exact step e
theorem yM (h:Heap):PySem.W.Frag.In (fragOf h) h:=fun a o e=>by
 obtain ⟨k,e1,e2,e3⟩:=vd _ 0 a o e
 have e1':a=k:=e1.trans (Nat.zero_add k)
 subst e1'
 unfold Heap.get?
 have:h.objs[a]?=some o:=by simpa using e2
 rw [this]
 cases o with
 | mk c d x s=>
  cases x <;> first | rfl | exact absurd rfl e3
def pN:Option (Option Value)→Addr
 | some (some (.ref a))=>a
 | _=>0
def Bn:Option (Option Value)→Bool
 | some (some (.ref _))=>true
 | _=>false
def AF:Option (Option Value)→Bool
 | some none=>true
 | _=>false
theorem E3 {v:Option (Option Value)} (e:Bn v=true):v=some (some (.ref (pN v))):=by
 unfold Bn at e;split at e
 ·rfl
 ·cases e
theorem cF {v:Option (Option Value)} (e:AF v=true):v=some none:=by
 unfold AF at e;split at e
 ·rfl
 ·cases e
def xo (K:PySem.W.Frag) (v:Option (Option Value)):Obj:=(List.lookup (pN v) K).getD ⟨.none,none,.plain,#[]⟩
def Hx:FuncData:=PySem.W.fnOf (PySem.Str.mk #[]) (PySem.Str.mk #[]) ⟨[],[],none,[],[],none,[]⟩ [] ⟨.function,[],false,false,[]⟩ .none .none .none .none none .none .none
def gO (K:PySem.W.Frag) (v:Option (Option Value)):FuncData:=match (xo K v).data with
 | .func fd=>fd
 | _=>Hx
def bare (fd:FuncData):FuncData:={ fd with kwdefaults:=.none,doc:=.none,pyModule:=.none,annotations:=none,code:=.none,closureTuple:=.none }
def p9 (K:PySem.W.Frag) (v:Option (Option Value)) (q:Str):Option FuncData:=
 match Bn v && PySem.W.codeIn K (gO K v).code q && PySem.W.keepIn K (.ref (pN v)) with
 | false=>none
 | true=>match List.lookup (pN v) K with
  | some ⟨_,_,.func fd,_⟩=>some (bare fd)
  | _=>none
theorem uX {K:PySem.W.Frag}{v:Option (Option Value)}{q:Str}{x:FuncData} (e:p9 K v q=some x) :
 v=some (some (.ref (pN v)))∧PySem.W.codeIn K (gO K v).code q=true∧PySem.W.keepIn K (.ref (pN v))=true∧
  List.lookup (pN v) K=some ⟨(xo K v).cls,(xo K v).dict,.func (gO K v),(xo K v).slots⟩∧bare (gO K v)=x:=by
 unfold p9 at e
 cases h:(Bn v && PySem.W.codeIn K (gO K v).code q && PySem.W.keepIn K (.ref (pN v))) with
 | false=>rw [h] at e;cases e
 | true=>
  rw [h] at e
  simp only [Bool.and_eq_true] at h
  refine ⟨E3 h.1.1,h.1.2,h.2,?_⟩
  cases hl:List.lookup (pN v) K with
  | none=>rw [hl] at e;cases e
  | some o=>
   rw [hl] at e
   obtain ⟨c,d,x',s⟩:=o
   have eo:xo K v=⟨c,d,x',s⟩:=by unfold xo;rw [hl];rfl
   cases x' <;> first | cases e | skip
   rename_i fd
   have ef:gO K v=fd:=by unfold gO;rw [eo]
   rw [eo,ef]
   exact ⟨rfl,rfl⟩
def oG (K:PySem.W.Frag) (n:Str):Bool:=AF (PySem.W.nsIn K mainGlobals n)
def fG (K:PySem.W.Frag) (n:Str):Option FuncData:=p9 K (PySem.W.nsIn K mainGlobals n) n
def dG (n q:Str) (st:Stmt):Option FuncData:=some (PySem.W.fnOf n q (ui st) (qA st) (av st) .none .none .none .none none .none .none)
theorem ap {K:PySem.W.Frag}{v:Option (Option Value)}{q n:Str}{st:Stmt} (e:p9 K v q=dG n q st):wK K n q st (pN v) (gO K v):=by
 have h:=uX e
 refine ⟨?_,h.2.2.1⟩
 obtain ⟨h1,h2,h3,h4,z⟩:=h
 refine ⟨_,_,(gO K v).kwdefaults,(gO K v).doc,(gO K v).pyModule,(gO K v).annotations,(gO K v).code,(gO K v).closureTuple,_,?_,h4,h2⟩
 clear h4 h2 h3 h1 e
 generalize gO K v=fd at z ⊢
 cases fd
 unfold bare PySem.W.fnOf at z
 cases z
 rfl
theorem aU {K:PySem.W.Frag}{v:Option (Option Value)}{q n:Str}{st:Stmt} (e:p9 K v q=dG n q st):v=some (some (.ref (pN v))):=(uX e).1
theorem walk_ofY {l:PySem.W.OpenLaw}{n k:Nat}{q:Program}{loose:List Str}{XP:(Str→Option Value)→Heap→Prop}{d:DefRec}{CX:lI}{sp:PySem.W.Frag→Sp}{x:Str}{α:Type}{obs:PySem.W.Frag→α}{due:α}
 (hn:l.most=some n) (hn2:n≤sizeLine) (hdf:d.params.defaults=[]) (hr:d7 k callerA)
 (F:∀(K:PySem.W.Frag) (w:World) (mg:Str→Option Value) (fa:Addr) (h:Heap),obs K=due→K.In h→h.Ns mainGlobals mg→mg d.name=some (.ref fa)→
  ∃fd:FuncData,(∀(s:Shared) (u:Value),BindsTo s fd ⟨[u],[]⟩ [(x,u)])∧
   ∀base:Heap,K.In base→base.Ns mainGlobals mg→aY l.prog w K mg base CX k fa fd [x] (sp K))
 (hsp:∀(K:PySem.W.Frag) (H:Hp) (a:Addr) (ns:List Int),ns.length≤n→tR H→ah K H a (ns.map V.int)→sp K [.ref a] H (fun v _=>v=.bl true) fun _ _ _=>False)
 (hCX:∀(H:Hp) (s:Shared) (e:Value) (s':Shared),CX [] H s (fun _ _ _=>False) e s'→False) :
 PySem.W.WalkX q loose XP (fun s=>obs (fragOf s.heap)) (fun _=>due) l.row.toRowW d [] (fun f vs=>PySem.call f vs):=by
 intro w s₀ s₁ mg mb G y a o pm cd doc dV kV ho hd hcd hD hmg hg args vals as' L hpre hlay hrd hwl hlo
 have kx:(fragOf s₀.heap).In s₁.heap:=fun b ob hb=>L.keeps b ob (yM s₀.heap b ob hb)
 exact At (K:=fun _=>fragOf s₀.heap) (YP:=fun w h=>(fragOf s₀.heap).In h) hn hn2 hdf hr (fun _ _ z=>z) (fun w mg fa h=>F (fragOf s₀.heap) w mg fa h y) hsp hCX w s₀ s₁ mg mb G kx a o pm cd doc dV kV ho hd hcd hD hmg hg args vals as' hpre hlay hrd hwl hlo
section
variable {X:Cx}
inductive CU (x:V) (y:V) (H:Hp) (Q:VK):Prop
 | mk (a:_) (b:_) (xs:_) (ys:_) (h0:x=.ref a) (h1:y=.ref b) (h2:H a=some (.tup xs)) (h3:H b=some (.tup ys)) (h4:xs.length+ys.length≤10000) (h5:∀p H',ad H H'→H' p=some (.tup (xs++ys))→Q (.ref p) H')
def Da:R2:=fun x y H Q=>CU  x y H Q
theorem kZ:de X (binaryOp .Add) Da:=by
 intro pins s σ H x y v u Q I rx ry h
 obtain ⟨a,b,xs,ys,rfl,rfl,ha,hb,hz,q⟩:=h
 by_cases hx:xs=[]
 ·subst hx
  cases rx
  cases ry
  obtain ⟨its,r1,p1,_⟩:=I.tuple (aa.of (K:=X.K) ha)
  obtain ⟨its2,r2,p2,_⟩:=I.tuple (aa.of (K:=X.K) hb)
  cases r1
  obtain ⟨⟨cls,dd,data,sl⟩,ho,hc,n,hd⟩:=id p1
  obtain ⟨⟨cls2,dd2,data2,sl2⟩,ho2,hc2,n2,hd2⟩:=id p2
  simp only at hc hd hc2 hd2
  subst hc hd hc2 hd2
  exact concat_meets ⟨_,ho,rfl⟩ ⟨_,ho2,rfl⟩ noFill_tuple_add seq_tuple_add PySem.F.slot_tuple_add PySem.F.entry_tuple_add (PySem.F.args_tuple_add_2 _ _)
   (tuple_addW0 a b _ _ n n2 dd dd2 sl sl2 (by simp)) ⟨ho,ho2,⟨.ref b,H,I,rfl,q b H (ad.refl _) hb⟩⟩
 ·exact Al (K:=X.K) rfl pins s σ H _ _ v u Q I rx ry ⟨a,b,xs,ys,rfl,rfl,aa.of ha,ha,aa.of hb,hx,hz,q⟩
end
end L2
namespace L2
open PySem PySem.Spec PySem.Calls PySem.W PyProof.Rows
section
variable {prog:Program}{w:World}{A:Around}{E:Value→Shared→Prop}{s:Shared}
end
section
variable {X:Cx}
end
section
open PySem.Builtin.Str (occurrences partsBetween)
variable {prog:Program}{w:World}{A:Around}{E:Value→Shared→Prop}{s:Shared}
end
section
variable {X:Cx}
end
end L2
namespace L2
open PySem PySem.Spec PyProof.Rows
section
variable {X:Cx}
theorem uF {α β:Type} (f:α→β):∀(l:List α) (j:Nat),(l.eraseIdx j).map f=(l.map f).eraseIdx j
 | [],_=>rfl
 | _ :: _,0=>rfl
 | a :: l,j+1=>by simp [uF f l j]
end
theorem wA {E:Addr→Prop}{H:Hp}:∀{ls:List (List Nat)}{xs:List V},aA E H xs (ls.map fun l=>.str (S l))→xs=ls.map aI
 | [],_,h=>by cases h;rfl
 | l :: ls,_,h=>by
  cases h with
  | cons h r=>cases h;rw [wA r];rfl
theorem wk {E:Addr→Prop}{H:Hp}:∀(ls:List (List Nat)),aA E H (ls.map aI) (ls.map fun l=>.str (S l))
 | []=>.nil
 | l :: ls=>.cons (.str _) (wk ls)
theorem yz {D:Addr}{H1:Hp}{σc:St}{g:TG}{te:TE}{Q:VK}{J:It}{n:Nat} (F:Nat→PyData) (hz:n≤10000) (hD:H1 D=none) (hgo:∀i H',i<n→ad H1 H'→J.go i H') (hst:∀H',ad H1 H'→J.stop n H')
 (hs:∀i x H' H'' (R:VK),i<n→ad H1 H'→J.yld i H' x H''→(∀v H4,ad H' H4→aJ ED H4 v (F i)→R v H4)→g x σc H'' fun σ2 H2=>gM σc σ2∧te σ2 H2 R)
 (hd:∀zs H',ad H1 H'→H' D=some (.lst zs)→aA ED H' zs ((List.range n).map F)→Q (.ref D) H'):jM J σc g tT te D H1 Q:=by
 refine gf (n:=n) (fun i H' zs=>H' D=some (.lst zs)∧ad H1 H'∧aA ED H' zs ((List.range i).map F)) (fE hz) ⟨au,da hD (ad.refl _),.nil⟩ ?_ ?_ ?_ ?_ ?_
 ·rintro i H' zs ⟨q,_,ia⟩
  exact ⟨q,by rw [ia.length];simp⟩
 ·rintro i H' zs hi ⟨_,sm,_⟩
  exact hgo i H' hi sm
 ·rintro H' zs ⟨_,sm,_⟩
  exact hst H' sm
 ·rintro i H' zs x H'' hi ⟨q,sm,ia⟩ y
  refine hs i x H' H'' _ hi sm y fun v H4 s4 dv=>?_
  have q4:=s4 _ _ q
  have tp:∀a us,H4 a=some (.tup us)→aG H4 D (.lst (zs++[v])) a=some (.tup us):=fun a us e=>by
   rw [ay (eO e q4 (by intro z;cases z))];exact e
  refine ⟨q4,au,da hD (sm.trans s4),?_⟩
  rw [List.range_succ,List.map_append]
  exact ((ia.mono s4.toE).mono ⟨fun _ _ n _=>absurd trivial n,tp⟩).append (.cons (dv.mono ⟨fun _ _ n _=>absurd trivial n,tp⟩) .nil)
 ·rintro H' zs ⟨q,sm,ia⟩
  exact hd zs H' sm q ia
theorem fc {H H':Hp} (k:HD H H'):ao ED H H':=⟨fun _ _ n _=>absurd trivial n,k⟩
section
variable {H H':Hp}{d p t q z:Addr}{v:V}{es:List Ent}{past:List RSt}{cur:RSt}{F:List Addr}
end
section
variable {p t q z p' t' q':Addr}{v v':V}
end
theorem Bx.th {H:Hp}{b:Addr}{t:Int} (h:Bx H b t):H b≠none:=by
 obtain ⟨_,_,e,_⟩:=h
 rw [e];exact fun z=>nomatch z
theorem Bx.frm {H H':Hp}{b:Addr}{t:Int}{E:Addr→Prop} (B:Bx H b t) (s:ao E H H') (n:¬E b):Bx H' b t:=by
 obtain ⟨c1,c2,e,q1,q2,q3⟩:=B
 exact ⟨c1,c2,s.old _ _ n e,q1,q2,q3⟩
theorem ao.none {E:Addr→Prop}{H H':Hp} (s:ao E H H') {a:Addr} (n:¬E a) (h:H' a=none):H a=none:=by
 cases e:H a with
 | none=>rfl
 | some o=>rw [s.old a o n e] at h;cases h
section
variable {C:Addr}{H H' H0 H1 H2:Hp}{r L d b:Addr}{F F' F0 F1 F2:List Addr}{past:List RSt}{cur:RSt}{N M:Nat}{E:Addr→Prop}
end
section
variable {X:Cx}{body suite:List Stmt}{b0:Stmt}{x:Str}{hpos pos np:Pos}{tb:(St→XK)→TS}{th:TS}{Cc:Addr}
end
section
variable {X:Cx}{CX:lI}{k:Nat}{f C:Addr}{fd:FuncData}{ps:List Str}{sp:Sp}{EE:St→XK}{m:Str}{pos apos:Pos}{e o:Expr}{es:List Expr}{ta:TE}{t:TA}
end
section
variable {C:Addr}{H H' H0:Hp}{P E:Addr→Prop}{xs:List PairAt}{N M:Nat}{x y:PairAt}{i:Nat}
end
section
variable {C:Addr}{H2 H H':Hp}{b s o nl:Addr}{ls:List (List Nat)}{xs:List PairAt}{N M:Nat}{t t':Int}{x y:PairAt}{i:Nat}
end
end L2
namespace L2
open PySem PySem.Spec PyProof.Rows PySem.NumText
end L2
namespace L2
open PySem PySem.Spec PyProof.Rows
section
variable {X:Cx}
end
end L2
namespace L2
open PySem PySem.Spec PyProof.Rows PySem.NumText
theorem uP {K:PySem.W.Frag}{a:Addr}{c:Bool}{xs:List V}{g:TG}{tb:TS}{D:eh}{σ:St}{H:Hp} (Pv:Nat→St→Hp→Prop) (h0:Pv 0 σ H) (hl:∀i σ H,i≤xs.length→Pv i σ H→iF K H a xs c)
 (hs:∀i x T σ H,xs[i]?=some x→H T=none→Pv i σ H→g (.ref T) σ (aG H T (.tup [.int (i:Int),x])) fun σ2 H2=>tb { D with nx:=Pv (i+1),ct:=Pv (i+1),bk:=D.nx } σ2 H2) (hd:∀σ H,Pv xs.length σ H→D.nx σ H) :
 ∃W:Nat→Nat→St→Hp→Prop,(∃m,W 0 m σ H)∧∀i m σ H,W i m σ H→
  ((wz K a c).stop i H∧D.nx σ H)∨((wz K a c).go i H∧∃N:St→Hp→Prop,(∀σ' H',N σ' H'→∃m',m'<m∧W (i+1) m' σ' H')∧∀x H',(wz K a c).yld i H x H'→g x σ H' fun σ2 H2=>tb { D with nx:=N,ct:=N,bk:=D.nx } σ2 H2):=by
 refine ⟨fun i m σ H=>m=xs.length - i∧i≤xs.length∧Pv i σ H,⟨xs.length,by simp,Nat.zero_le _,h0⟩,?_⟩
 rintro i m σ H ⟨rfl,hi,p⟩
 have q1:=hl i σ H hi p
 by_cases hlt:i<xs.length
 ·refine .inr ⟨⟨xs,xs[i],q1,by simp [hlt]⟩,Pv (i+1),fun σ' H' p'=>⟨xs.length - (i+1),by trivial,rfl,hlt,p'⟩,fun x H' y=>?_⟩
  obtain ⟨T,u,hT,rfl,rfl,e1⟩:=y
  exact hs i u T σ H (e1 xs q1) hT p
 ·have e:i=xs.length:=by trivial
  subst e
  exact .inl ⟨⟨xs,q1,rfl⟩,hd _ _ p⟩
section
variable {X:Cx}
end
section
variable {X:Cx}
end
end L2
namespace L2
open PySem PySem.Spec PyProof.Rows PySem.NumText
section
variable {X:Cx}
end
end L2
namespace KM
variable {ls:List (List Nat)}{es done:List Edge}{W u u':List Nat→Rat}{S:List (List Nat)}{q:List Nat}{m:Rat}
end KM
namespace L2
open PySem PySem.Spec PyProof.Rows
section
variable {X:Cx}
end
section
variable {X:Cx}
end
section
variable {X:Cx}
end
end L2
namespace L2
open PySem PyProof.Rows
def nh (e:Expr) (d:Nat) (tg iter:Expr) (ifs:List Expr) (em:Sem Unit) (it acc:Value) (env:Env):Sem Fin:=do
 standAt iter.pos
 match ←pyNext it with
 | none=>pure (.done .next)
 | some v=>
  letOwnedTupleGo tg it v
  assign tg env v
  let mut ok:=true
  for c in ifs do
   if ok then ok ←isTrue c env (eval c env)
  if ok then em
  again (.compLoop e d it acc env)
section
variable {prog:Program}{w:World}{A:Around}{R:Result→Shared→Prop}{s:Shared}
theorem pQ {elt tg iter:Expr}{gens:List Comprehension}{scope:Scope}{pos:Pos}{d:Nat}{ifs:List Expr}{em:Sem Unit}{it acc:Value}{env:Env} (ht:compTurn (.ListComp elt gens scope pos) d it acc env=nh (.ListComp elt gens scope pos) d tg iter ifs em it acc env) (I:Nat→Shared→Prop)
 (turn:∀n s,I n s→wpAny (model prog w) A (pyNext it) (fun r s₁=>match r with
  | none=>R (.ok .next) s₁
  | some v=>wpAny (model prog w) A (letOwnedTupleGo tg it v) (fun _ s₁'=>wpAny (model prog w) A (assign tg env v) (fun _ s₂=>
   wpAny (model prog w) A (forIn ifs true fun c r=>if r=true then do let ok ←isTrue c env (eval c env);pure (ForInStep.yield ok) else pure (ForInStep.yield r)) (fun ok s₃=>
    if ok=true then wpAny (model prog w) A em (fun _ s₅=>∃m,m<n∧I m s₅) (fun _ _=>False) s₃
    else ∃m,m<n∧I m s₃) (fun _ _=>False) s₂) (fun _ _=>False) s₁') (fun _ _=>False) s₁) (fun _ _=>False) s)
 (n:Nat) (h:I n s) :
 codeAny (model prog w) A (.compLoop (.ListComp elt gens scope pos) d it acc env) R s:=by
 refine codeAny_loop rfl I (fun n s hI=>?_) n h
 show wpAny _ A ((compTurn (.ListComp elt gens scope pos) d it acc env).onRaise (fun x=>do noteFrame x env;theTreesLotGoes x)) _ _ s
 refine wpAny_noted ?_
 rw [ht]
 unfold nh
 refine wpAny_bind (wpAny_standAt (wpAny_bind (wpAny_mono (turn n s hI) (fun r s₁ h₁=>?_) fun _ _ h'=>h'.elim)))
 cases r with
 | none=>exact wpAny_pure h₁
 | some v=>
  refine wpAny_bind (wpAny_mono h₁ (fun _ s₁' h₁'=>?_) fun _ _ h'=>h'.elim)
  refine wpAny_bind (wpAny_mono h₁' (fun _ s₂ h₂=>wpAny_bind (wpAny_mono h₂ (fun ok s₃ h₃=>?_) fun _ _ h'=>h'.elim)) fun _ _ h'=>h'.elim)
  cases ok with
  | false=>exact wpAny_pure ⟨rfl,h₃⟩
  | true=>exact wpAny_bind (wpAny_mono h₃ (fun _ s₅ h₅=>wpAny_pure ⟨rfl,h₅⟩) fun _ _ h'=>h'.elim)
theorem xW {elt:Expr}{g1:Comprehension}{target iter:Expr}{ifs:List Expr}{scope:Scope}{pos:Pos}{it acc:Value}{env:Env}
 (h0:codeAny (model prog w) A (.compLoop (.ListComp elt [g1,⟨target,iter,ifs,0⟩] scope pos) 1 it acc env) R s)
 (h:wpAny (model prog w) A (pyIter it) (fun it' s'=>codeAny (model prog w) A (.compLoop (.ListComp elt [g1,⟨target,iter,ifs,0⟩] scope pos) 1 it' acc env) R s')
  (notedBy (model prog w) A env fun x s'=>R (.error x) s') s) :
 codeAny (model prog w) A (.compStart (.ListComp elt [g1,⟨target,iter,ifs,0⟩] scope pos) 1 it acc env) R s:=by
 refine codeAny_of_tree ?_
 show wpAny _ _ ((compStart (.ListComp elt [g1,⟨target,iter,ifs,0⟩] scope pos) 1 it acc env).onRaise (fun x=>do noteFrame x env;standAt theWindowsPlace)) _ _ s
 refine wpAny_notedAt ?_
 unfold compStart
 show wpAny _ _ (ask >>= _) _ _ s
 refine wpAny_bind (wpAny_askSetting (wpAny_ite ?_))
 split
 ·first
   | exact wpAny_bind (wpAny_pure (wpAny_pure (And.intro rfl h0)))
   | exact wpAny_pure (And.intro rfl h0)
 ·first
   | exact wpAny_bind (wpAny_rule (wpAny_bind (wpAny_standAt (wpAny_bind (wpAny_mono h (fun it' s' h'=>wpAny_pure (And.intro rfl h')) fun _ _ x=>x)))))
   | (refine wpAny_bind (wpAny_rule ?_);show wpAny _ _ (standAt iter.pos >>= _) _ _ s;exact wpAny_bind (wpAny_standAt (wpAny_bind (wpAny_mono h (fun it' s' h'=>wpAny_pure (And.intro rfl h')) fun _ _ x=>x))))
end
abbrev TM:=Addr→St→Hp→(Hp→List V→Prop)→Prop
def PM (X:Cx) (em:Value→Env→Sem Unit) (tm:TM):Prop:=
 ∀(pins:List (Addr×Obj)) (s:Shared) (σ:St) (H:Hp) (D:Addr) (N:Hp→List V→Prop),ag X pins σ H s→tm D σ H N→
   wpAny (model X.prog X.w) X.A (em (.ref D) X.env) (fun _ s'=>bE fun H' ys'=>ag X pins σ H' s'∧N H' ys') X.xe s
def E7 (J:It) (σc:St) (g:TG) (tt:TT) (tm:TM) (D:Addr) (H1:Hp) (Q:VK):Prop:=
 ∃W:Nat→Nat→Hp→List V→Prop,(∃m,W 0 m (aG H1 D (.lst [])) [])∧∀i m H ys,W i m H ys→H D=some (.lst ys)∧
  ((J.stop i H∧Q (.ref D) H)∨(J.go i H∧∃N:Hp→List V→Prop,(∀H' ys',N H' ys'→∃m',m'<m∧W (i+1) m' H' ys')∧
    ∀x H',J.yld i H x H'→g x σc H' fun σ2 H2=>gM σc σ2∧tt σ2 H2 fun b H3=>if b=true then tm D σ2 H3 N else N H3 ys))
def zy (wi:TI) (L:Nat) (src:List Nat) (g:TG) (tt:TT) (tm:TM):TE:=fun σ H Q=>wi σ H fun J H1=>∀D,H1 D=none→E7 J (fO L src σ) g tt tm D H1 Q
def Ec (J:It) (σc:St) (g:TG) (tt:TT) (te:TE) (D:Addr) (H1:Hp) (N0:Hp→List V→Prop):Prop:=
 ∃W:Nat→Nat→Hp→List V→Prop,(bE fun m ys=>W 0 m H1 ys)∧∀i m H ys,W i m H ys→H D=some (.lst ys)∧
  ((J.stop i H∧N0 H ys)∨(J.go i H∧ys.length<sizeLine∧∃N:Hp→List V→Prop,(∀H' ys',N H' ys'→∃m',m'<m∧W (i+1) m' H' ys')∧
    ∀x H',J.yld i H x H'→g x σc H' fun σ2 H2=>gM σc σ2∧tt σ2 H2 fun b H3=>if b=true then te σ2 H3 fun y H4=>H4 D=some (.lst ys)∧N (aG H4 D (.lst (ys++[y]))) (ys++[y]) else N H3 ys))
def Eh (wi:TI) (g:TG) (tt:TT) (te:TE):TM:=fun D σ H N=>wi σ H fun J H1=>Ec J σ g tt te D H1 N
def yv (e iter2:Expr):Value→Env→Sem Unit:=fun acc env=>do
 let x ←eval iter2 env
 standAt iter2.pos
 let x ←foldedSetIterable iter2 env x
 let _ ←runOwn (.compStart e 1 (←holding [x] (pyIter x)) acc env) env
def zI (elt:Expr):Value→Env→Sem Unit:=fun acc env=>do let _ ←call (.builtin "list.append") [acc,←eval elt env]
section
variable {X:Cx}{elt tg iter tg2 iter2:Expr}{ifs ifs2:List Expr}{scope:Scope}{pos:Pos}{N':List Str}{L:Nat}{src:List Nat}{wi wi2:TI}{g g2:TG}{tt tt2:TT}{te:TE}
theorem A7 (it acc:Value) (env:Env):compTurn (.ListComp elt (⟨tg,iter,ifs,0⟩ :: [⟨tg2,iter2,ifs2,0⟩]) scope pos) 0 it acc env=nh (.ListComp elt (⟨tg,iter,ifs,0⟩ :: [⟨tg2,iter2,ifs2,0⟩]) scope pos) 0 tg iter ifs (yv (.ListComp elt (⟨tg,iter,ifs,0⟩ :: [⟨tg2,iter2,ifs2,0⟩]) scope pos) iter2 acc env) it acc env:=by
 unfold nh yv
 simp only [bind_assoc]
 rfl
theorem Ck (g1:Comprehension) (it acc:Value) (env:Env):compTurn (.ListComp elt [g1,⟨tg2,iter2,ifs2,0⟩] scope pos) 1 it acc env=nh (.ListComp elt [g1,⟨tg2,iter2,ifs2,0⟩] scope pos) 1 tg2 iter2 ifs2 (zI elt acc env) it acc env:=by rfl
theorem FG {g1:Comprehension} (hc:X.calm=true) (hxe:X.xe=fun _ _=>False) (hi:PI X tg2 iter2 wi2) (hg:PG X tg2 g2) (hif:lY X ifs2 tt2) (he:PE X elt te) (hs:∀x,foldedSetIterable iter2 X.env x=pure x) :
 PM X (yv (.ListComp elt [g1,⟨tg2,iter2,ifs2,0⟩] scope pos) iter2) (Eh wi2 g2 tt2 te):=by
 intro pins s σ H D N0 I h
 unfold yv
 refine wpAny_bind (aK (hi pins s σ H _ I h) fun v s1 h1=>?_)
 refine wpAny_bind (wpAny_standAt (wpAny_bind (wpAny_of_eq (hs v) (wpAny_bind (wpAny_holding (aK h1 fun itv s2 h2=>?_))))))
 obtain ⟨it,fp,tn,J,H2,e,I2,T,st2,f2,W,⟨m0,ys0,w0⟩,turn⟩:=h2
 subst e
 have stat:∀{H':Hp},(∀b∈fp,H' b=none)→∀b∈fp,il X pins H' b:=fun hn b hb=>⟨hn b hb,(f2 b hb).2⟩
 refine wpAny_bind (wpAny_runOwn (Q:=fun _ s'=>wpAny (model X.prog X.w) X.A (pure ()) (fun _ s'=>bE fun H' ys'=>ag X pins σ H' s'∧N0 H' ys') X.xe s') ?_)
 have loop:codeAny (model X.prog X.w) X.A (.compLoop (.ListComp elt [g1,⟨tg2,iter2,ifs2,0⟩] scope pos) 1 (.ref it) (.ref D) X.env) (fun r s'=>match r with | .ok f=>wpAny (model X.prog X.w) X.A (pure ()) (fun _ s'=>bE fun H' ys'=>ag X pins σ H' s'∧N0 H' ys') X.xe s' | .error e=>cameBackBy (model X.prog X.w) X.A X.env X.xe e s') s2:=by
  refine pQ (Ck g1 _ _ _) (fun n s'=>gH fun i H' ys=>ag X pins σ H' s'∧tn i s'.heap∧(∀b∈fp,H' b=none)∧W i n H' ys) ?_ m0 ⟨0,H2,ys0,I2,st2,fun b hb=>(f2 b hb).1,w0⟩
  rintro n s3 ⟨i,H3,ys,I3,st3,fr3,w3⟩
  obtain ⟨hD,alt⟩:=turn i n H3 ys w3
  rcases alt with ⟨stop,qn⟩ | ⟨go,hlen,N,hN,step⟩
  ·refine aK (T.done X rfl rfl rfl hc i pins s3 σ H3 (fun _ _=>False) I3 (stat fr3) st3 stop) fun r s4 ⟨hr,I4⟩=>?_
   subst hr
   exact wpAny_pure ⟨H3,ys,I4,qn⟩
  ·refine aK (T.item X rfl rfl rfl hc i pins s3 σ H3 (fun _ _=>False) I3 (stat fr3) st3 go) fun r s4 ⟨u,hr,h4⟩=>?_
   subst hr
   refine aK h4 fun _ s5 ⟨x,H5,I5,r5,y5,st5,fr5⟩=>?_
   have I5':=I5.pinned (stat fr5) (T.obj _ _ st5)
   have a1:=hg _ s5 σ H5 x u _ I5' r5 (step x H5 y5)
   rw [hxe] at a1
   refine aK a1 fun _ s6 ⟨σ6,H6,I6,bk,q6⟩=>?_
   have a2:=hif _ s6 σ6 H6 _ I6 q6
   rw [hxe] at a2
   refine aK a2 fun b s7 ⟨H7,I7,q7⟩=>?_
   have again:∀{H8:Hp}{s8:Shared}{ys':List V},ag X (pins++lN fp s5.heap) σ6 H8 s8→N H8 ys'→∃m,m<n∧gH fun i H' ys=>ag X pins σ H' s8∧tn i s8.heap∧(∀b∈fp,H' b=none)∧W i m H' ys:=fun {H8 s8 ys'} I8 n8=>by
    obtain ⟨m',hm,w8⟩:=hN H8 ys' n8
    refine ⟨m',hm,i+1,H8,ys',(I8.unpinned).weak bk.1.symm bk.2,T.keep _ _ _ st5 fun b hb o e=>(I8.pin (b,o) (List.mem_append_right _ (List.mem_append_right _ (dN hb e)))).1,fun b hb=>?_,w8⟩
    obtain ⟨o,e,d⟩:=T.obj _ _ st5 b hb
    exact (I8.pin (b,o) (List.mem_append_right _ (List.mem_append_right _ (dN hb e)))).2.1
   cases b with
   | false=>
    rw [if_neg Bool.false_ne_true] at q7 ⊢
    exact again I7 q7
   | true=>
    rw [if_pos rfl] at q7 ⊢
    have a3:=he _ s7 σ6 H7 _ I7 q7
    rw [hxe] at a3
    unfold zI
    refine wpAny_bind (aK a3 fun xv s8 ⟨y,H8,I8,r8,hD8,q8⟩=>wpAny_bind ?_)
    have a4:=p8 (X:=X) _ s8 σ6 H8 (.ref D) [y] (.ref D) [xv] (fun _ H'=>H'=aG H8 D (.lst (ys++[y]))) I8 rfl (.cons r8 .nil) ⟨_,ys,y,rfl,rfl,hD8,hlen,rfl⟩
    rw [hxe] at a4
    refine aK a4 fun _ s9 ⟨_,H9,I9,_,e9⟩=>?_
    subst e9
    exact wpAny_pure (again I9 q8)
 exact xW loop (T.self _ 0 _ _ _ st2 loop)
theorem zS {rest:List Comprehension}{em:Value→Env→Sem Unit}{tm:TM} (ht:∀it acc env,compTurn (.ListComp elt (⟨tg,iter,ifs,0⟩ :: rest) scope pos) 0 it acc env=nh (.ListComp elt (⟨tg,iter,ifs,0⟩ :: rest) scope pos) 0 tg iter ifs (em acc env) it acc env) (hc:X.calm=true) (ck:uc X.env.scope X.N scope N' L src) {cl:List (Str×Addr)}{pins:List (Addr×Obj)}{s:Shared}{σ:St}{H:Hp}{Q:VK} (I:ag X pins σ H s)
 (hsub:∀x c,cl.lookup x=some c→X.env.cells.lookup x=some c) (hhas:∀y∈scope.names,y.2=.free→∃c,cl.lookup y.1=some c)
 (hi:PI X tg iter wi) (hg:∀cl C s H ex pn,PG (bt X scope cl C N' s H ex pn) tg g) (hif:∀cl C s H ex pn,lY (bt X scope cl C N' s H ex pn) ifs tt)
 (he:∀cl C s H ex pn,PM (bt X scope cl C N' s H ex pn) em tm) (h:zy wi L src g tt tm σ H Q) {RR:Value→Addr→Result→Shared→Prop}
 (hRR:∀D C H' f s' m,ag X pins σ H' s'→s'.heap.Ns C m→il X pins H' C→Q (.ref D) H'→RR (.ref D) C (.ok f) s') :
 wpAny (model X.prog X.w) X.A (eval iter X.env) (fun x s₁=>wpAny (model X.prog X.w) X.A (pyIter x) (fun it s₂=>wpAny (model X.prog X.w) X.A (newList []) (fun acc s₃=>
  wpAny (model X.prog X.w) X.A (newFunctionEnv scope X.env.globals cl [] X.env.qual none .none (some X.env)) (fun cenv s₄=>
   codeAny (model X.prog X.w) X.A (.compStart (.ListComp elt (⟨tg,iter,ifs,0⟩ :: rest) scope pos) 0 it acc { cenv with scope:=relabel scope X.env }) (RR acc cenv.locals) s₄) X.xe s₃) X.xe s₂) X.xe s₁) X.xe s:=by
 refine aK (hi pins s σ H _ I h) fun v s1 h1=>aK h1 fun itv s2 h2=>?_
 obtain ⟨it,fp,tn,J,H2,e,I2,T,st2,f2,q⟩:=h2
 subst e
 refine wpAny_newObj_type (DP ?_)
 dsimp only
 generalize hH2:s2.heap.push { cls:=.type "list",dict:=none,data:=.seq ([]:List Value).toArray }=hp2
 have hns₁:(pushCells (hp2.push { cls:=.type "dict",data:=.dict #[] }) scope.names).Ns hp2.objs.size fun _=>none:=(Heap.Ns.new hp2 (.type "dict")).keeps (pushCells_keeps _ _)
 have kp:∀b o,hp2.get? b=some o→(pushCells (hp2.push { cls:=.type "dict",data:=.dict #[] }) scope.names).get? b=some o:=fun b o e=>pushCells_keeps _ _ b o (Heap.get?_push_of_some _ e)
 have okc:=cellsFrom_ok scope.names (hp2.push { cls:=.type "dict",data:=.dict #[] }) (hp2.objs.size+1) [] ⟨fun _ _ hm=>(nomatch hm),List.Pairwise.nil⟩ (by rw [Heap.size_push];exact Nat.le_refl _)
 rw [Heap.size_push] at okc
 rw [pf]
 have ncell:∀x c,(cellsFrom (hp2.objs.size+1) scope.names []).lookup x=some c→(x,NameKind.cell)∈scope.names:=fun x c e=>(fF _ _ _ (PySem.mem_of_lookup e)).elim id (fun z=>by cases z)
 have nhas:∀x,(x,NameKind.cell)∈scope.names→∃c,(cellsFrom (hp2.objs.size+1) scope.names []).lookup x=some c:=fun x h=>g9 _ _ _ h
 generalize pushCells (hp2.push { cls:=.type "dict",data:=.dict #[] }) scope.names=h₁ at hns₁ kp okc ⊢
 generalize cellsFrom (hp2.objs.size+1) scope.names []=nw at okc ncell nhas ⊢
 have hC:hp2.objs.size=s2.heap.objs.size+1:=by rw [←hH2,Heap.size_push]
 have hDC:s2.heap.objs.size≠hp2.objs.size:=by rw [hC];exact Nat.ne_of_lt (Nat.lt_succ_self _)
 have hCle:s2.heap.objs.size≤hp2.objs.size:=by rw [hC];exact Nat.le_succ _
 have below:∀b,b<s2.heap.objs.size→b≠hp2.objs.size∧b≠s2.heap.objs.size:=fun b hb=>⟨by rw [hC];exact Nat.ne_of_lt (Nat.lt_succ_of_lt hb),Nat.ne_of_lt hb⟩
 have old:∀b o,s2.heap.get? b=some o→h₁.get? b=some o:=fun b o e=>kp b o (hH2▸Heap.get?_push_of_some _ e)
 have hacc:h₁.get? s2.heap.objs.size=some { cls:=.type "list",dict:=none,data:=.seq ([]:List Value).toArray }:=kp _ _ (hH2▸Heap.get?_push_size _ rfl)
 have hDn:H2 s2.heap.objs.size=none:=I2.fresh
 obtain ⟨W,⟨m0,w0⟩,turn⟩:=q _ hDn
 have fpo:∀b∈fp,∃o,s2.heap.get? b=some o∧∀v,o.data≠.cell v:=T.obj _ _ st2
 have fplt:∀b∈fp,b<s2.heap.objs.size:=fun b hb=>by obtain ⟨o,e,_⟩:=fpo b hb;exact Heap.lt_size e
 have hfrs:∀b∈fp,b∉dQ X.stack:=fun b hb z=>by
  rcases List.mem_cons.mp (I2.stkSub b z) with z' | z'
  ·exact (f2 b hb).2.1 z'
  ·exact (f2 b hb).2.2.1 z'
 have spl:∀x c,(nw++cl).lookup x=some c→nw.lookup x=some c∨(nw.lookup x=none∧cl.lookup x=some c):=fun x c e=>by
  rw [List.lookup_append] at e
  cases q:nw.lookup x with
  | none=>rw [q] at e;exact .inr ⟨rfl,e⟩
  | some c'=>rw [q] at e;exact .inl e
 have nab:∀x c,nw.lookup x=some c→hp2.objs.size+1≤c:=fun x c e=>(okc.empty x c (PySem.mem_of_lookup e)).2
 have olt:∀x c,cl.lookup x=some c→c<s2.heap.objs.size:=fun x c e=>by
  obtain ⟨v,o,ho,_⟩:=I2.cell x c (hsub _ _ e)
  exact Heap.lt_size ho
 have n2o:∀x c y,nw.lookup x=some c→cl.lookup y=some c→False:=fun x c y e1 e2=>Nat.lt_irrefl c (Nat.lt_of_lt_of_le (olt y c e2) (Nat.le_trans hCle (Nat.le_of_succ_le (nab x c e1))))
 generalize hX:bt X scope (nw++cl) hp2.objs.size N' s2 H2 fp (X.pn++pins)=X'
 have ok':X'.Ok:=by
  subst hX
  refine ⟨I2.ok.mod,ck.kind,I2.ok.glob,I2.ok.blt,hCle,fun x y c e1 e2=>(spl x c e1).elim (fun g1=>(spl y c e2).elim (fun g2=>name_of_addr okc.apart (PySem.mem_of_lookup g1) (PySem.mem_of_lookup g2)) (fun g2=>(n2o x c y g1 g2.2).elim)) (fun g1=>(spl y c e2).elim (fun g2=>(n2o y c x g2 g1.2).elim) (fun g2=>I2.ok.inj x y c (hsub _ _ g1.2) (hsub _ _ g2.2))),fun x hx=>?_,fun x c z e=>?cab,I2.ok.hd,I2.ok.frames,.inl rfl,fun b hb=>⟨(below b (fplt b hb)).1,fun x c e=>(spl x c e).elim (fun g z=>Nat.lt_irrefl b (Nat.lt_of_lt_of_le (fplt b hb) (Nat.le_trans hCle (Nat.le_of_succ_le (z▸nab x c g))))) (fun g=>(f2 b hb).2.2.2.2.1 x c (hsub _ _ g.2))⟩,
   I2.bs,Nat.le_trans I2.ok.bsz I2.sz,fun b o e hb=>?_,hfrs,I2.stack,I2.stkFree⟩
  ·-- a name that is a cell or free
   have hx':(relabel scope X.env).names.lookup x=some .cell∨(relabel scope X.env).names.lookup x=some .free:=hx
   have bR:∀(names:List (Str×NameKind)),
    ((names.map fun (n,k)=>if (k==NameKind.free && X.env.scope.kind==.function && X.env.kindOf n==some .cell) then (n,NameKind.cell) else (n,k)).lookup x=some .cell∨
     (names.map fun (n,k)=>if (k==NameKind.free && X.env.scope.kind==.function && X.env.kindOf n==some .cell) then (n,NameKind.cell) else (n,k)).lookup x=some .free)→∃y∈names,y.1=x∧(y.2=.free∨y.2=.cell):=by
    intro names
    induction names with
    | nil=>intro h;rcases h with h | h <;> simp at h
    | cons y r ih=>
     intro h
     obtain ⟨n,k⟩:=y
     by_cases hb:x=n
     ·subst hb
      refine ⟨(x,k),List.mem_cons_self,rfl,?_⟩
      by_cases hk:k=.free
      ·exact .inl hk
      ·have hkb:(k==NameKind.free)=false:=by simpa using hk
       right
       simp only [List.map_cons,hkb,Bool.false_and,Bool.false_eq_true,if_false,List.lookup_cons,beq_self_eq_true,if_true] at h
       rcases h with h | h
       ·exact Option.some.inj h
       ·exact absurd (Option.some.inj h) hk
     ·have hb':(x==n)=false:=by simpa using hb
      have h':((r.map fun (n,k)=>if (k==NameKind.free && X.env.scope.kind==.function && X.env.kindOf n==some .cell) then (n,NameKind.cell) else (n,k)).lookup x=some .cell∨
       (r.map fun (n,k)=>if (k==NameKind.free && X.env.scope.kind==.function && X.env.kindOf n==some .cell) then (n,NameKind.cell) else (n,k)).lookup x=some .free):=by
       rw [List.map_cons] at h
       dsimp only at h
       by_cases hcnd:(k==NameKind.free && X.env.scope.kind==.function && X.env.kindOf n==some .cell)=true
       ·rw [if_pos hcnd] at h
        simpa only [List.lookup_cons,hb'] using h
       ·rw [if_neg hcnd] at h
        simpa only [List.lookup_cons,hb'] using h
      obtain ⟨y,hy,e1,e2⟩:=ih h'
      exact ⟨y,List.mem_cons_of_mem _ hy,e1,e2⟩
   obtain ⟨y,hy,e1,e2⟩:=bR scope.names hx'
   show ∃c,(nw++cl).lookup x=some c
   rw [List.lookup_append]
   cases q:nw.lookup x with
   | some c=>exact ⟨c,rfl⟩
   | none=>
    rcases e2 with e2 | e2
    ·obtain ⟨c,hc'⟩:=hhas y hy e2
     exact ⟨c,by rw [←e1,hc'];rfl⟩
    ·obtain ⟨c,hc'⟩:=nhas x (by obtain ⟨y1,y2⟩:=y;dsimp only at e1 e2;rw [←e1,←e2];exact hy)
     rw [q] at hc';cases hc'
  case cab=>
   have z':(scope.names.lookup x==some NameKind.cell)=true:=z
   obtain ⟨c',hc'⟩:=nhas x (PySem.mem_of_lookup (by simpa using z'))
   rcases spl x c e with g | g
   ·have:=nab x c g
    show s2.heap.objs.size≤c
    trivial
   ·rw [hc'] at g;cases g.1
  ·rcases (f2 b hb).2.2.2.1 with z | z
   ·exact I2.ok.noex b o e z
   ·exact absurd (Nat.lt_of_lt_of_le (Heap.lt_size e) (Nat.le_trans I2.ok.bsz z)) (Nat.lt_irrefl _)
 have stat:∀{H':Hp},(∀b∈fp,H' b=none)→∀b∈fp,il X' [] H' b:=by
  subst hX
  intro H' hn b hb
  refine ⟨hn b hb,(below b (fplt b hb)).1,hfrs b hb,.inl hb,fun x c e=>(spl x c e).elim (fun g z=>Nat.lt_irrefl b (Nat.lt_of_lt_of_le (fplt b hb) (Nat.le_trans hCle (Nat.le_of_succ_le (z▸nab x c g))))) (fun g=>(f2 b hb).2.2.2.2.1 x c (hsub _ _ g.2)),fun p hp=>?_⟩
  have hp':p∈X.pn++pins:=by simpa [bt,qp] using hp
  exact (f2 b hb).2.2.2.2.2 p hp'
 have I1:ag X' [] (fO L src σ) (aG H2 s2.heap.objs.size (.lst [])) { s2 with heap:=h₁,toks:=s2.toks }:=by
  subst hX
  have up:∀b o,H2 b=some o→aG H2 s2.heap.objs.size (.lst []) b=some o:=fun b o e=>by rw [ay (aN e hDn)];exact e
  have upn:∀b,b<s2.heap.objs.size→H2 b=none→aG H2 s2.heap.objs.size (.lst []) b=none:=fun b hb e=>by rw [ay (Nat.ne_of_lt hb)];exact e
  refine ⟨ok',rfl,I2.bare,Un.laid old (Nat.le_refl _) hDn,⟨_,hns₁,fun i x v e1 e2 e3=>?_⟩,fun x c e=>?_,?_,fun x c e=>?_,fun p hp=>?_,I2.hok.laid old (Nat.le_refl _) ⟨Nat.zero_le _,[],0,.nil,hacc⟩,?_⟩
  ·-- the names of the def around
   have hiL:L≤i:=by
    by_cases hlt:i<L
    ·exfalso
     unfold fO at e2
     rw [List.getElem?_append_left (by simpa using hlt),List.getElem?_replicate,if_pos hlt] at e2
     cases e2
    ·trivial
   have e2':(src.map fun j=>(σ[j]?).join)[i - L]?=some (some v):=by
    unfold fO at e2
    rw [List.getElem?_append_right (by simpa using hiL),List.length_replicate] at e2
    exact e2
   rw [List.getElem?_map] at e2'
   cases hj:src[i - L]? with
   | none=>rw [hj] at e2';cases e2'
   | some j=>
    rw [hj] at e2'
    have e3':(σ[j]?).join=some v:=Option.some.inj e2'
    have hσ:σ[j]?=some (some v):=by
     cases q:σ[j]? with
     | none=>rw [q] at e3';cases e3'
     | some o=>rw [q] at e3';exact congrArg some e3'
    obtain ⟨x',g1,g2,g3⟩:=ck.frees (i - L) j hj
    have:L+(i - L)=i:=by trivial
    rw [this] at g1
    have ex:x'=x:=Option.some.inj (g1.symm.trans e1)
    subst ex
    have hfree:=ck.free _ (PySem.mem_of_lookup g3) rfl
    obtain ⟨m,hn,hl⟩:=I2.loc
    obtain ⟨u,r,l⟩:=hl j x' v g2 hσ (hfree.elim (fun z=>.inr (.inl z)) fun z=>.inr (.inr z))
    refine ⟨u,r,.inr ⟨?_,?_⟩⟩
    ·-- its kind in the block
     have bR:∀(names:List (Str×NameKind)),names.lookup x'=some .free→
      ((names.map fun (n,k)=>if (k==NameKind.free && X.env.scope.kind==.function && X.env.kindOf n==some .cell) then (n,NameKind.cell) else (n,k)).lookup x'=some .cell∨
       (names.map fun (n,k)=>if (k==NameKind.free && X.env.scope.kind==.function && X.env.kindOf n==some .cell) then (n,NameKind.cell) else (n,k)).lookup x'=some .free):=by
      intro names
      induction names with
      | nil=>intro h;simp at h
      | cons y r ih=>
       intro h
       obtain ⟨n,k⟩:=y
       by_cases hb:x'=n
       ·subst hb
        simp only [List.lookup_cons,beq_self_eq_true,if_true] at h
        have hk:k=.free:=Option.some.inj h
        subst hk
        rw [List.map_cons]
        dsimp only
        by_cases hcnd:(NameKind.free==NameKind.free && X.env.scope.kind==.function && X.env.kindOf x'==some .cell)=true
        ·rw [if_pos hcnd];left;simp [List.lookup_cons]
        ·rw [if_neg hcnd];right;simp [List.lookup_cons]
       ·have hb':(x'==n)=false:=by simpa using hb
        have h':=ih (by simpa only [List.lookup_cons,hb'] using h)
        rw [List.map_cons]
        dsimp only
        by_cases hcnd:(k==NameKind.free && X.env.scope.kind==.function && X.env.kindOf n==some .cell)=true
        ·rw [if_pos hcnd];simpa only [List.lookup_cons,hb'] using h'
        ·rw [if_neg hcnd];simpa only [List.lookup_cons,hb'] using h'
     exact bR scope.names g3
    ·obtain ⟨c,hcl⟩:=hhas _ (PySem.mem_of_lookup g3) rfl
     have hcx:=hsub _ _ hcl
     rcases l with ⟨k1,_⟩ | ⟨_,c',e4,z⟩
     ·exfalso
      have k1':X.env.scope.names.lookup x'=some .local:=k1
      rcases hfree with z | z
      ·rw [z] at k1';cases k1'
      ·rw [z] at k1';cases k1'
     ·rw [hcx] at e4
      cases e4
      obtain ⟨o,ho,hd⟩:=z
      refine ⟨c,?_,o,old _ _ ho,hd⟩
      show (nw++cl).lookup x'=some c
      rw [List.lookup_append]
      cases q:nw.lookup x' with
      | none=>exact hcl
      | some c'=>
       exfalso
       have:=ck.cells _ (ncell _ _ q) rfl
       dsimp only at this
       rw [g3] at this;cases this
  ·rcases spl x c e with g | g
   ·exact ⟨none,(okc.empty x c (PySem.mem_of_lookup g)).1⟩
   ·obtain ⟨v,o,ho,hd⟩:=I2.cell x c (hsub _ _ g.2)
    exact ⟨v,o,old _ _ ho,hd⟩
  ·show aG H2 s2.heap.objs.size (.lst []) hp2.objs.size=none
   rw [ay (Ne.symm hDC)]
   exact I2.hok.fresh hCle
  ·rcases spl x c e with g | g
   ·have:=nab x c g
    rw [ay (by intro z;rw [z] at this;trivial)]
    exact I2.hok.fresh (by trivial)
   ·obtain ⟨v,o,ho,hd⟩:=I2.cell x c (hsub _ _ g.2)
    exact upn c (Heap.lt_size ho) (I2.freeC x c (hsub _ _ g.2))
  ·have hp':p∈X.pn++pins:=by simpa [bt,qp] using hp
   obtain ⟨e,n,ne,nf,d⟩:=I2.pin p hp'
   have hlt:=Heap.lt_size e
   refine ⟨old _ _ e,upn _ hlt n,(below _ hlt).1,fun z=>?_,d⟩
   rcases List.mem_cons.mp (I2.stkSub _ z) with z' | z'
   ·exact ne z'
   ·exact nf z'
  ·show (fO L src σ).length=N'.length
   unfold fO
   rw [List.length_append,List.length_replicate,List.length_map,ck.len]
 have eA:X'.A=X.A:=by subst hX;rfl
 have eP:X'.prog=X.prog:=by subst hX;rfl
 have eW:X'.w=X.w:=by subst hX;rfl
 have eK:X'.K=X.K:=by subst hX;rfl
 have ec:X'.calm=true:=by subst hX;exact hc
 have exe:X'.xe=fun _ _=>False:=by subst hX;rfl
 have eE:X'.env=compEnvC scope (nw++cl) hp2.objs.size X.env:=by subst hX;rfl
 have hg':PG X' tg g:=by subst hX;exact hg _ _ _ _ _ _
 have hif':lY X' ifs tt:=by subst hX;exact hif _ _ _ _ _ _
 have he':PM X' em tm:=by subst hX;exact he _ _ _ _ _ _
 have aft:∀{H':Hp}{s':Shared},ag X' [] (fO L src σ) H' s'→ag X pins σ H' s'∧(∃m,s'.heap.Ns hp2.objs.size m)∧il X pins H' hp2.objs.size:=by
  subst hX
  intro H' s' J
  refine ⟨I2.call' (ch:=fp) J.os J.base J.hok J.bare fun b hb=>⟨(f2 b hb).2.2.2.1,(f2 b hb).2.1,(f2 b hb).2.2.2.2.1,(f2 b hb).2.2.2.2.2⟩,?_,I2.fpOk hCle J.free⟩
  obtain ⟨m,hn,_⟩:=J.loc
  exact ⟨m,hn⟩
 have st1:tn 0 h₁:=T.keep _ _ _ st2 fun b hb o e=>old b o e
 have loop:∀s₃:Shared,s₃={ s2 with heap:=h₁,toks:=s2.toks }→
  codeAny (model X.prog X.w) X.A (.compLoop (.ListComp elt (⟨tg,iter,ifs,0⟩ :: rest) scope pos) 0 (.ref it) (.ref s2.heap.objs.size) (compEnvC scope (nw++cl) hp2.objs.size X.env))
   (RR (.ref s2.heap.objs.size) hp2.objs.size) s₃:=by
  rintro s₃ rfl
  refine pQ (ht _ _ _) (fun n s'=>gH fun i H' ys=>ag X' [] (fO L src σ) H' s'∧tn i s'.heap∧(∀b∈fp,H' b=none)∧W i n H' ys) ?_ m0
   ⟨0,_,[],I1,st1,fun b hb=>(by rw [ay (below b (fplt b hb)).2];exact (f2 b hb).1),w0⟩
  rintro n s3 ⟨i,H3,ys,I3,st3,fr3,w3⟩
  obtain ⟨hD,alt⟩:=turn i n H3 ys w3
  rcases alt with ⟨stop,qn⟩ | ⟨go,N,hN,step⟩
  ·have d:=T.done X' eP eW eK ec i [] s3 (fO L src σ) H3 (fun _ _=>False) I3 (stat fr3) st3 stop
   rw [eA] at d
   refine aK d fun r s4 ⟨hr,I4⟩=>?_
   subst hr
   obtain ⟨J,⟨m,hn⟩,fpC⟩:=aft I4
   exact hRR _ _ H3 .next s4 m J hn fpC qn
  ·have d:=T.item X' eP eW eK ec i [] s3 (fO L src σ) H3 (fun _ _=>False) I3 (stat fr3) st3 go
   rw [eA] at d
   refine aK d fun r s4 ⟨u,hr,h4⟩=>?_
   subst hr
   refine aK h4 fun _ s5 ⟨x,H5,I5,r5,y5,st5,fr5⟩=>?_
   have I5':=I5.pinned (stat fr5) (T.obj _ _ st5)
   have a1:=hg' _ s5 (fO L src σ) H5 x u _ I5' r5 (step x H5 y5)
   rw [eP,eW,eA,eE,exe] at a1
   refine aK a1 fun _ s6 ⟨σ6,H6,I6,bk,q6⟩=>?_
   have a2:=hif' _ s6 σ6 H6 _ I6 q6
   rw [eP,eW,eA,eE,exe] at a2
   refine aK a2 fun b s7 ⟨H7,I7,q7⟩=>?_
   have again:∀{H8:Hp}{s8:Shared}{ys':List V},ag X' ([]++lN fp s5.heap) σ6 H8 s8→N H8 ys'→∃m,m<n∧gH fun i H' ys=>ag X' [] (fO L src σ) H' s8∧tn i s8.heap∧(∀b∈fp,H' b=none)∧W i m H' ys:=fun {H8 s8 ys'} I8 n8=>by
    obtain ⟨m',hm,w8⟩:=hN H8 ys' n8
    refine ⟨m',hm,i+1,H8,ys',(I8.unpinned).weak bk.1.symm bk.2,T.keep _ _ _ st5 fun b hb o e=>(I8.pin (b,o) (List.mem_append_right _ (List.mem_append_right _ (dN hb e)))).1,fun b hb=>?_,w8⟩
    obtain ⟨o,e,d⟩:=T.obj _ _ st5 b hb
    exact (I8.pin (b,o) (List.mem_append_right _ (List.mem_append_right _ (dN hb e)))).2.1
   cases b with
   | false=>
    rw [if_neg Bool.false_ne_true] at q7 ⊢
    exact again I7 q7
   | true=>
    rw [if_pos rfl] at q7 ⊢
    have a3:=he' _ s7 σ6 H7 _ _ I7 q7
    rw [eP,eW,eA,eE,exe] at a3
    refine aK a3 fun _ s8 ⟨H8,ys',I8,q8⟩=>?_
    exact again I8 q8
 exact codeAny_compStart_list (loop _ rfl) (T.self _ 0 _ _ _ st1 (loop _ rfl))
theorem Aq (hc:X.calm=true) (ck:lR X.env.scope X.N scope N' L src=true) (hi:PI X tg iter wi) (hg:∀cl C s H ex pn,PG (bt X scope cl C N' s H ex pn) tg g) (hif:∀cl C s H ex pn,lY (bt X scope cl C N' s H ex pn) ifs tt)
 (hi2:∀cl C s H ex pn,PI (bt X scope cl C N' s H ex pn) tg2 iter2 wi2) (hg2:∀cl C s H ex pn,PG (bt X scope cl C N' s H ex pn) tg2 g2) (hif2:∀cl C s H ex pn,lY (bt X scope cl C N' s H ex pn) ifs2 tt2)
 (he:∀cl C s H ex pn,PE (bt X scope cl C N' s H ex pn) elt te) (hs:∀x,foldedSetIterable iter X.env x=pure x:=by intro _;rfl) (hs2:∀env x,foldedSetIterable iter2 env x=pure x:=by intro _ _;rfl) :
 PE X (.ListComp elt [⟨tg,iter,ifs,0⟩,⟨tg2,iter2,ifs2,0⟩] scope pos) (zy wi L src g tt (Eh wi2 g2 tt2 te)):=by
 intro pins s σ H Q I h
 have ck:=oI ck
 obtain ⟨cl,hclos,hsub,hhas⟩:=tX (scope:=scope) (env:=X.env) fun y hy e=>I.ok.has y.1 (ck.free y hy e)
 rw [eval_ListComp]
 refine wpAny_comprehension_free (use:=none) rfl hs hclos ck.kind ck.loc (zS (rest:=[⟨tg2,iter2,ifs2,0⟩]) (A7 (scope:=scope) (pos:=pos)) hc ck I hsub hhas hi hg hif (fun cl C s H ex pn=>FG hc rfl (hi2 cl C s H ex pn) (hg2 cl C s H ex pn) (hif2 cl C s H ex pn) (he cl C s H ex pn) (hs2 _)) h (RR:=fun acc C=>compPost (model X.prog X.w) X.A X.xe none (EP X pins σ Q) acc C) ?_)
 intro D C H' f s' m J hn fpC q
 refine ⟨m,hn,fun h' hsb=>⟨.ref D,H',?_,rfl,q⟩⟩
 obtain ⟨f0,f1,f2,f3,f4,f5⟩:=fpC
 exact J.turned (t':=s'.toks) (fun b o hb e=>(hsb.2 b hb).trans e) f0 f1 f3 f4 f5
end
end L2
namespace L2
open PySem PySem.Spec PyProof.Rows
abbrev o9 (H:Hp):List (List aP×V)→List (List aP×Addr×Value)→Prop:=Paired fun (p:List aP×V) (q:List aP×Addr×Value)=>p.1=q.1∧H q.2.1=some (.tup (p.1.map kV))∧aT p.2 q.2.2
def bS (ks:List (List aP)) (f:List aP→V):List (List aP×V):=ks.map fun k=>(k,f k)
theorem xA {P:Program}{w:World}:∀{ks:List aP}{us:List Value},aH (ks.map kV) us→ItemsAre (cJ P w) ks us
 | [],_,r=>by cases r;exact .nil
 | k :: ks,_,r=>by
  cases r with
  | cons h t=>exact .cons (zT (k:=k) (by cases k <;> exact h)) (xA t)
theorem yi {P:Program}{w:World}{H:Hp}{h:Heap}{b:Addr}{ks:List aP} (ok:dZ P w H h) (e:H b=some (.tup (ks.map kV))):(tupleKind (cJ P w)).is h ks b:=by
 obtain ⟨_,its,r,⟨o,h1,h2,n,h3⟩,_⟩:=(show bD P w H h b (.tup (ks.map kV)) from ok b _ e)
 exact ⟨o,its.toArray,n,h1,h2,h3,by simpa using xA r⟩
theorem j9 {P:Program}{w:World}{h h':Heap}{b:Addr}{ks:List aP} (x:(tupleKind (cJ P w)).is h ks b) (k:∀o,h.get? b=some o→h'.get? b=some o):(tupleKind (cJ P w)).is h' ks b:=by
 obtain ⟨o,its,n,h1,q⟩:=x
 exact ⟨o,its,n,k _ h1,q⟩
theorem o9.keys {H:Hp}{kvs:List (List aP×V)}{xs:List (List aP×Addr×Value)} (r:o9 H kvs xs):kvs.map (·.1)=xs.map (·.1):=by
 induction r with
 | nil=>rfl
 | cons h t ih=>rw [List.map_cons,List.map_cons,ih,h.1]
theorem o9.mem {H:Hp}{kvs:List (List aP×V)}{xs:List (List aP×Addr×Value)} (r:o9 H kvs xs) {x:List aP×Addr×Value} (hx:x∈xs):∃ks:List aP,H x.2.1=some (.tup (ks.map kV)):=by
 induction r with
 | nil=>cases hx
 | cons h t ih=>
  rcases List.mem_cons.mp hx with z | z
  ·rw [z];exact ⟨_,h.2.1⟩
  ·exact ih z
theorem o9.at {H:Hp}{kvs:List (List aP×V)}{xs:List (List aP×Addr×Value)} (r:o9 H kvs xs) {k:List aP}{v:V} (nd:(kvs.map (·.1)).Nodup) (hm:(k,v)∈kvs):∃p,atKey xs k=some p∧aT v p.2:=by
 induction r with
 | nil=>cases hm
 | @cons p q ps qs h t ih=>
  rw [List.map_cons,List.nodup_cons] at nd
  by_cases e:q.1=k
  ·refine ⟨q.2,by simp [atKey,List.find?_cons,e],?_⟩
   rcases List.mem_cons.mp hm with z | z
   ·rw [←z] at h;exact h.2.2
   ·exact absurd (List.mem_map.mpr ⟨_,z,(h.1.trans e).symm⟩) nd.1
  ·rcases List.mem_cons.mp hm with z | z
   ·rw [←z] at h;exact absurd h.1.symm e
   ·obtain ⟨p',h1,h2⟩:=ih nd.2 z
    exact ⟨p',by simpa [atKey,List.find?_cons,e] using h1,h2⟩
theorem vJ {P:Program}{w:World}{H:Hp}{h:Heap}{a:Addr}{kvs:List (List aP×V)} (ok:dZ P w H h) (e:H a=some (.dT kvs)) :
 kvs.length≤sizeLine∧(a==sysModules)=false∧∃xs,o9 H kvs xs∧h.DictOfH (tupleKind (cJ P w)) a xs:=by
 obtain ⟨z,y,xs,r,o,es,ep,h1,h2,h3,h4,h5⟩:=(show bD P w H h a (.dT kvs) from ok a _ e)
 refine ⟨z,y,xs,r,o,es,ep,h1,h2,h3,h4,fun x hx=>?_,h5⟩
 clear h4 h5 e
 induction r with
 | nil=>cases hx
 | @cons p q ps qs hq t ih=>
  rcases List.mem_cons.mp hx with z' | z'
  ·rw [z'];exact yi ok (by rw [←hq.1];exact hq.2.1)
  ·exact ih (by simp at z;trivial) z'
theorem AX (ks:List (List aP)) (f:List aP→V):(bS ks f).map (·.1)=ks:=by
 unfold bS
 rw [List.map_map]
 exact List.map_id _
theorem xC {ks:List (List aP)}{f:List aP→V}{k:List aP} (h:k∈ks):(k,f k)∈bS ks f:=List.mem_map.mpr ⟨k,h,rfl⟩
theorem o9.set {H H':Hp}{kvs:List (List aP×V)}{xs:List (List aP×Addr×Value)} (r:o9 H kvs xs) (ht:∀b ys,H b=some (.tup ys)→H' b=some (.tup ys)) {k:List aP}{v:V}{u:Value} (rv:aT v u) :
 o9 H' (kvs.map fun p=>(p.1,if p.1=k then v else p.2)) (xs.map (putAt k u)):=by
 induction r with
 | nil=>exact .nil
 | @cons p q ps qs h t ih=>
  rw [List.map_cons,List.map_cons]
  refine .cons ?_ ih
  obtain ⟨h1,h2,h3⟩:=h
  unfold putAt
  by_cases e:p.1=k
  ·rw [if_pos e,if_pos (h1.symm.trans e)];exact ⟨h1,ht _ _ h2,rv⟩
  ·rw [if_neg e,if_neg (fun z=>e (h1.trans z))];exact ⟨h1,ht _ _ h2,h3⟩
theorem BS (ks:List (List aP)) (f:List aP→V) (k:List aP) (v:V):((bS ks f).map fun p=>(p.1,if p.1=k then v else p.2))=bS ks fun z=>if z=k then v else f z:=by
 unfold bS
 rw [List.map_map]
 rfl
section
variable {X:Cx}
inductive DJ (x:V) (y:V) (H:Hp) (Q:VK):Prop
 | mk (d b:Addr) (ks:List (List aP)) (f:List aP→V) (k:List aP) (h0:x=.ref d) (h1:y=.ref b) (h2:H d=some (.dT (bS ks f))) (h3:H b=some (.tup (k.map kV))) (h4:k∈ks) (h5:Q (f k) H)
def FA:R2:=fun x y H Q=>DJ  x y H Q
theorem oD (hu:X.A.units+64<cLine):nQ X FA:=by
 intro value slice pins s σ H x y v u Q I rx ry h hs
 obtain ⟨d,b,ks,f,k,rfl,rfl,hd,hb,hk,q⟩:=h
 cases rx
 cases ry
 obtain ⟨_,_,xs,rel,dd⟩:=vJ I.hok hd
 obtain ⟨p,hp,rp⟩:=rel.at (k:=k) (by rw [rel.keys];obtain ⟨_,_,_,_,_,_,_,_,h5⟩:=dd;exact h5) (xC hk)
 exact subscriptTail_builtinR (x:=p.2) dd.typeIs PySem.F.slot_dict_getitem.lookup (wpAny_getItem_heap (tupleKind_room_in1 (by trivial)) (yi I.hok hb) dd hp ⟨rfl,f k,H,I.tok _,rp,q⟩) hs
inductive BQ (o:V) (i:V) (v:V) (H:Hp) (Q:(Hp→Prop)):Prop
 | mk (d b:Addr) (ks:List (List aP)) (f:List aP→V) (k:List aP) (h0:o=.ref d) (h1:i=.ref b) (h2:H d=some (.dT (bS ks f))) (h3:H b=some (.tup (k.map kV))) (h4:k∈ks) (h5:∀H',uW H d (.dT (bS ks fun z=>if z=k then v else f z)) H'→Q H')
def EH:V→V→V→Hp→(Hp→Prop)→Prop:=fun o i v H Q=>BQ  o i v H Q
theorem nJ (hu:X.A.units+64<cLine):ym X EH:=by
 intro pins s σ H o i v ov iv u Q I ro ri rv h
 obtain ⟨d,b,ks,f,k,rfl,rfl,hd,hb,hk,q⟩:=h
 cases ro
 cases ri
 obtain ⟨hz,hm,xs,rel,dd⟩:=vJ I.hok hd
 obtain ⟨p,hp,_⟩:=rel.at (k:=k) (by rw [rel.keys];obtain ⟨_,_,_,_,_,_,_,_,h5⟩:=dd;exact h5) (xC hk)
 refine wpAny_setItem_heap (hsz:=by rw [←Paired.length rel];exact hz) (tupleKind_room_in1 (by trivial)) (yi I.hok hb) dd fun h' dd' sb=>?_
 have es:storedH xs k b u=xs.map (putAt k u):=by
  unfold storedH
  rw [hp]
  rfl
 rw [es] at dd'
 obtain ⟨ob,ens,ep,hq,h2,h3,h4,_,h5⟩:=dd'
 have tp:∀c ys,H c=some (.tup ys)→aG H d (.dT (bS ks fun z=>if z=k then v else f z)) c=some (.tup ys):=fun c ys e=>by
  rw [ay (eO e hd (by intro z;cases z))];exact e
 refine ⟨_,I.write (x:=d) (e:=d) (o:=.dT (bS ks fun z=>if z=k then v else f z)) (by rw [hd];exact trivial) (.inl rfl) (fun c q' hc hu'=>(sb.2 c hc).trans hu') ⟨_,hq⟩ (show _∧_ from ⟨?_,hm,xs.map (putAt k u),?_,ob,ens,ep,hq,h2,h3,h4,h5⟩),q _ .mk'⟩
 ·unfold bS at hz ⊢
  rw [List.length_map] at hz ⊢
  exact hz
 ·have z:=rel.set tp rv (k:=k)
  rw [BS] at z
  exact z
theorem y7 {pos:Pos}:PE X (.Dict [] [] pos) (fun _ H Q=>∀p H',Nw H p (.dT []) H'→Q (.ref p) H'):=by
 intro pins s σ H Q I h
 refine wpAny_Dict_empty ?_
 have big:(s.heap.objs.size==sysModules)=false:=by
  have e:mainGlobals<s.heap.objs.size:=(I.mod.glob.keeps I.bk).lt
  exact beq_eq_false_iff_ne.mpr (Ne.symm (Nat.ne_of_lt (Nat.lt_trans (by decide) e)))
 exact ⟨.ref _,_,I.laid (fun _ _ e=>Heap.get?_push_of_some _ e) (Nat.le_refl _) (show bD X.prog X.w _ _ _ (.dT []) from ⟨Nat.zero_le _,big,[],.nil,_,#[],0,Heap.get?_push_size _ rfl,⟨rfl,rfl,rfl⟩,rfl,rfl,List.nodup_nil⟩),rfl,h _ _ (.mk' I.fresh)⟩
end
theorem xh {xs:List (List aP×Addr×Value)}{k:List aP}{b:Addr}{v:Value} (h:k∉xs.map (·.1)):storedH xs k b v=xs++[(k,b,v)]:=by
 unfold storedH
 rw [atKey_none_of_get fun j p e=>h (List.mem_map.mpr ⟨_,List.mem_of_getElem? e,rfl⟩)]
 rfl
theorem sP {α β:Type}{F:α→β→Prop}:∀{as:List α}{bs:List β},as.length=bs.length→(∀(i:Nat) a b,as[i]?=some a→bs[i]?=some b→F a b)→Paired F as bs
 | [],[],_,_=>.nil
 | a :: as,b :: bs,l,h=>.cons (h 0 a b rfl rfl) (sP (by simpa using l) fun i x y e1 e2=>h (i+1) x y e1 e2)
theorem x9 {α β:Type}{F:α→β→Prop}{as as':List α}{bs bs':List β} (h:Paired F as bs) (h':Paired F as' bs'):Paired F (as++as') (bs++bs'):=by
 induction h with
 | nil=>exact h'
 | cons r t ih=>exact .cons r ih
section
variable {prog:Program}{w:World}{A:Around}{E:Value→Shared→Prop}{R:Result→Shared→Prop}
variable {l it d:Nat}{vs:Array Value}{xs0 ps:List (List aP×Addr×Value)}
def GA (prog:Program) (w:World) (h:Heap) (vs:Array Value) (ps:List (List aP×Addr×Value)) (it d:Nat):Prop:=∀(i:Nat) p,ps[i]?=some p→xm fun (T:Nat) (c:Nat) (sl:Array (Option Value)) (dd:Option Addr)=>vs[i]?=some (.ref T)∧h.get? T=some ⟨.type "tuple",dd,.seq #[.ref p.2.1,p.2.2] c,sl⟩∧(tupleKind (cJ prog w)).is h p.1 p.2.1∧T≠it∧T≠d∧p.2.1≠it∧p.2.1≠d
theorem yp (n1:l≠it∧l≠d∧it≠d) (hh:A.handled=none) (hu:(tupleKind (cJ prog w)).room A.in1) (lv:vs.size=ps.length) (nd:((xs0++ps).map (·.1)).Nodup) (hz:(xs0++ps).length≤4000) (h0:∀x∈xs0,x.2.1≠it) :
 ∀(r i:Nat) (tk0:Tok) (s:Shared),ps.length - i=r→i≤ps.length→s.heap.IsListIter it l i→s.heap.IsList l vs→GA prog w s.heap vs ps it d→s.heap.DictOfH (tupleKind (cJ prog w)) d (xs0++ps.take i)→
   (∀h' tk,h'.DictOfH (tupleKind (cJ prog w)) d (xs0++ps)→(∀(c:Nat) o,c≠it→c≠d→s.heap.get? c=some o→h'.get? c=some o)→R (.ok (.ret .none)) { s with heap:=h',toks:=tk })→
   codeAny (model prog w) A (.builtin "dict.update.loop" ⟨[.ref d,.ref it,.int (i:Nat) tk0,.none],[]⟩) R s:=by
 have W:=(Walks.list (prog:=prog) (w:=w) (A:=A.in1) hh it l n1.1 vs)
 have mv:∀{h h':Heap}{i:Nat},h.DictOfH (tupleKind (cJ prog w)) d (xs0++ps.take i)→GA prog w h vs ps it d→(∀(c:Nat) o,c≠it→h.get? c=some o→h'.get? c=some o)→h'.DictOfH (tupleKind (cJ prog w)) d (xs0++ps.take i):=fun {h h' i} hD pr kp=>by
  obtain ⟨o,es,ep,ho,q1,q2,q3,q4,q5⟩:=hD
  refine ⟨o,es,ep,kp d o (Ne.symm n1.2.2) ho,q1,q2,q3,fun x hx=>j9 (q4 x hx) fun o e=>kp _ o ?_ e,q5⟩
  rcases List.mem_append.mp hx with z | z
  ·exact h0 x z
  ·obtain ⟨j,hj⟩:=List.mem_iff_getElem?.mp (List.mem_of_mem_take z)
   obtain ⟨_,_,_,_,_,_,_,_,_,e,_⟩:=pr j x hj
   exact e
 intro r
 induction r with
 | zero=>
  intro i tk0 s hr hi st hl pr hD hR
  have e:i=ps.length:=by trivial
  refine codeAny_builtin gU ?_
  rw [A.under_plainId cK]
  show wpAny _ _ (pyNext (Value.ref it) >>= _) _ _ _
  refine wpAny_bind (W.done s _ _ (by rw [lv,←e];exact ⟨st,hl⟩) fun h' tk keep=>?_)
  have kp:∀(c:Nat) o,c≠it→s.heap.get? c=some o→h'.get? c=some o:=fun c o hc e=>keep c o (by simpa using hc) e
  have hD':=mv hD pr kp
  rw [e,List.take_length] at hD'
  show wpAny _ _ (Builtin.Dict.addKeywords d [] >>= _) _ _ _
  exact wpAny_bind (wpAny_pure (wpAny_pure (hR h' tk hD' fun c o d1 _ e=>kp c o d1 e)))
 | succ r ih=>
  intro i tk0 s hr hi st hl pr hD hR
  have lt:i<ps.length:=by trivial
  have ei:=List.getElem?_eq_getElem lt
  obtain ⟨T,c,sl,dd,e1,e2,e4,e5,e6,e7,e8⟩:=pr i ps[i] ei
  refine codeAny_builtin gU ?_
  rw [A.under_plainId cK]
  show wpAny _ _ (pyNext (Value.ref it) >>= _) _ _ _
  refine wpAny_bind (W.item i s _ _ (by trivial) ⟨st,hl⟩ fun v h' tk pv st' keep=>?_)
  obtain rfl:v=.ref T:=Option.some.inj ((show vs[i]?=some v from pv).symm.trans e1)
  have kp:∀(c:Nat) o,c≠it→s.heap.get? c=some o→h'.get? c=some o:=fun c o hc e=>keep c o (by simpa using hc) e
  have hD':=mv hD pr kp
  have T':=kp T _ e5 e2
  refine wpAny_bind (wpAny_holding (wpAny_bind (wpAny_tryCatch ?_)))
  unfold Builtin.Dict.pairItems
  refine wpAny_bind (wpAny_typeOf (show Shared.TypeIs { s with heap:=h',toks:=tk } (.ref T) "tuple" from ⟨_,T',rfl⟩) ?_)
  rw [if_pos (by decide)]
  refine wpAny_bind (wpAny_seqItems T' rfl (wpAny_pure ?_))
  show wpAny _ _ (holding [.ref ps[i].2.1,ps[i].2.2] (dictSet d (.ref ps[i].2.1) ps[i].2.2)) _ _ _
  have nk:ps[i].1∉(xs0++ps.take i).map (·.1):=by
   intro q
   have nd':=nd
   rw [←List.take_append_drop i ps,←List.append_assoc,List.map_append,List.nodup_append] at nd'
   refine nd'.2.2 _ q _ (List.mem_map.mpr ⟨ps[i],?_,rfl⟩) rfl
   rw [List.drop_eq_getElem_cons lt]
   exact List.mem_cons_self ..
  have lz:(xs0++ps.take i).length≤sizeLine:=by
   rw [List.length_append] at hz ⊢
   rw [List.length_take,sizeLine_eq]
   trivial
  refine wpAny_holding (wpAny_dictSet_heap (k:=ps[i].1) (hsz:=lz) hu (j9 e4 fun o e=>kp _ o e7 e) hD' fun h2 hD2 sb=>?_)
  rw [xh nk] at hD2
  have nx:h2.DictOfH (tupleKind (cJ prog w)) d (xs0++ps.take (i+1)):=by
   rw [List.take_succ_eq_append_getElem lt,←List.append_assoc]
   exact hD2
  have k2:∀(c:Nat) o,c≠d→h'.get? c=some o→h2.get? c=some o:=fun c o hc e=>(sb.2 c hc).trans e
  refine wpAny_pure ⟨plainId_quiet cK _,?_⟩
  have e9:((i:Nat):Int)+1=((i+1:Nat):Int):=by trivial
  show codeAny _ _ (.builtin "dict.update.loop" ⟨[.ref d,.ref it,.int ((i:Nat)+1) 0,.none],[]⟩) _ _
  rw [e9]
  refine ih (i+1) 0 _ (by trivial) lt ?_ ?_ (fun j q hj=>?_) nx fun h3 tk3 hD3 k3=>hR h3 tk3 hD3 fun c o a1 a2 e=>k3 c o a1 a2 (k2 c o a2 (kp c o a1 e))
  ·obtain ⟨o,ho,q⟩:=st'.1
   exact ⟨o,k2 _ _ n1.2.2 ho,q⟩
  ·obtain ⟨o,ho,q⟩:=st'.2
   exact ⟨o,k2 _ _ n1.2.1 ho,q⟩
  ·obtain ⟨T,c,sl,dd,e1,e2,e4,e5,e6,e7,e8⟩:=pr j q hj
   exact ⟨T,c,sl,dd,e1,k2 _ _ e6 (kp _ _ e5 e2),j9 e4 fun o e=>k2 _ o e8 (kp _ o e7 e),e5,e6,e7,e8⟩
theorem xb {s:Shared}{T:String}{name:Str}{id:String}{b:Builtin}{self:Value}{rest:List Value}{Q:Value→Shared→Prop} (h:Slot T name id) (hT:s.TypeIs self T) (hb:entryFor table id=some b)
 (hc:wpAny (model prog w) A.in1 (b ⟨self :: rest,[]⟩) (fun fin s'=>match fin with | .done f=>wants Q E (.ok f) s' | .again c'=>c'.quiet=true∧codeAny (model prog w) A c' (wants Q E) s') (fun e s'=>wants Q E (.error e) s') s)
 (ha:argsOk id ⟨self :: rest,[]⟩):wpAny (model prog w) A (call (.builtin id) (self :: rest)) Q E s:=
 wpAny_call (codeAny_call_builtin h.plain hb (h.check _ _ _ _ _ _ _ _ hT ha hc))
end
section
variable {X:Cx}
inductive DS (x:V) (vs:List V) (H:Hp) (Q:VK):Prop
 | mk (d l:Addr) (kvs ps:List (List aP×V)) (ts:List Addr) (h0:x=.ref d) (h1:vs=[.ref l]) (h2:H d=some (.dT kvs)) (h3:H l=some (.lst (ts.map V.ref))) (h4:ts.length=ps.length) (h5:(∀(i:Nat) t p,ts[i]?=some t→ps[i]?=some p→∃b,H t=some (.tup [.ref b,p.2])∧H b=some (.tup (p.1.map kV)))) (h6:((kvs++ps).map (·.1)).Nodup) (h7:(kvs++ps).length≤4000) (h8:∀H',uW H d (.dT (kvs++ps)) H'→Q .non H')
def FN:V→List V→Hp→VK→Prop:=fun x vs H Q=>DS  x vs H Q
theorem Cn (hc:X.calm=true) (hu:X.A.units+64<cLine):vN X "dict.update" FN:=by
 intro pins s σ H x vs v us Q I rx rv h
 obtain ⟨d,l,kvs,ps,ts,rfl,rfl,hd,hl,lt,hp,nd,h4,q⟩:=h
 cases rx
 obtain ⟨u,rfl,ru⟩:=rv.one
 cases ru
 obtain ⟨z,m,xs0,r0,dd⟩:=vJ I.hok hd
 obtain ⟨z1,its,n,rv1,hlen,e⟩:=I.lstM hl
 rw [List.length_map] at hlen
 have isT:∀(i:Nat) t,ts[i]?=some t→its[i]?=some (.ref t):=fun i t hi=>by
  obtain ⟨w,hw,rw'⟩:=rv1.get (show (ts.map V.ref)[i]?=some (V.ref t) by rw [List.getElem?_map,hi];rfl)
  obtain rfl:w=.ref t:=rw'
  exact hw
 obtain ⟨ps',lp,hps⟩:=qJ (p:=fun (i:Nat) (p':List aP×Addr×Value)=>wd fun (p:List aP×V) (T c:Nat) (sl:Array (Option Value)) (dd:Option Addr)=>ps[i]?=some p∧p.1=p'.1∧H p'.2.1=some (.tup (p.1.map kV))∧aT p.2 p'.2.2∧its[i]?=some (.ref T)∧s.heap.get? T=some ⟨.type "tuple",dd,.seq #[.ref p'.2.1,p'.2.2] c,sl⟩∧T≠d∧p'.2.1≠d) ps.length fun i hi=>by
  have ht:=List.getElem?_eq_getElem (show i<ts.length by trivial)
  have hp':=List.getElem?_eq_getElem hi
  obtain ⟨b,hT,hb⟩:=hp i _ _ ht hp'
  obtain ⟨_,us,rus,⟨ob,g1,g2,c,g3⟩,_⟩:=(show bD X.prog X.w H s.heap ts[i] (.tup [.ref b,ps[i].2]) from I.hok _ _ hT)
  obtain ⟨x,y,rfl,rx,ry⟩:=rus.two
  obtain rfl:x=.ref b:=rx
  obtain ⟨oc,od,oo,osl⟩:=ob
  simp only at g2 g3
  subst g2 g3
  exact ⟨(ps[i].1,b,y),ps[i],ts[i],c,osl,od,hp',rfl,hb,ry,isT i _ ht,g1,eO hT hd (by intro z;cases z),eO hb hd (by intro z;cases z)⟩
 have rp:o9 H ps ps':=sP lp.symm fun i a b e1 e2=>by
  obtain ⟨p,T,c,sl,dd,g1,g2,g3,g4,_⟩:=hps i b e2
  rw [e1] at g1
  cases g1
  exact ⟨g2,g3,g4⟩
 have ra:o9 H (kvs++ps) (xs0++ps'):=x9 r0 rp
 have nd':((xs0++ps').map (·.1)).Nodup:=by rw [←ra.keys];exact nd
 have h4':(xs0++ps').length≤4000:=by rw [←Paired.length ra];exact h4
 refine xb (b:=Builtin.«dict.update») PySem.F.slot_dict_update dd.typeIs PySem.F.entry_dict_update ?_ (PySem.F.args_dict_update_2 _ _)
 unfold Builtin.«dict.update»
 refine wpAny_bind ?_
 unfold Builtin.Dict.selfAndRest
 refine wpAny_bind (wpAny_notOrdered_dict dd.typeIs ?_)
 show wpAny _ _ (pure (d,[Value.ref l])) _ _ _
 refine wpAny_pure ?_
 show wpAny _ _ (Builtin.Dict.updateFrom "dict.update" d (.ref l) [] .none) _ _ _
 unfold Builtin.Dict.updateFrom
 refine wpAny_bind (wpAny_typeOf (T := "list") ⟨_,e,rfl⟩ ?_)
 rw [if_pos (by decide)]
 refine wpAny_bind (rb uj (by nofun) (by rw [sizeLine_eq];decide) e (by simpa using I.ok.hd hc) fun g1 tk1 k1=>?_)
 simp only [Option.isNone_none,if_true]
 refine wpAny_bind (wpAny_rule ?_)
 have l1:g1.IsList l its.toArray:=⟨_,k1 _ _ e,rfl,()⟩
 refine wpAny_bind (wpAny_pyIter_list l1 ?_)
 have pu:∀(ob:Obj) c o,g1.get? c=some o→(g1.push ob).get? c=some o:=fun ob c o e=>Heap.get?_push_of_some _ e
 have below:∀c o,s.heap.get? c=some o→c≠g1.objs.size:=fun c o e=>Nat.ne_of_lt (Heap.lt_size (k1 _ _ e))
 have keyo:∀{c:Addr}{ys:List V},H c=some (.tup ys)→∃o,s.heap.get? c=some o:=fun hc=>by
  obtain ⟨_,_,_,⟨ob,g1,_⟩,_⟩:=(show bD X.prog X.w H s.heap _ (.tup _) from I.hok _ _ hc)
  exact ⟨ob,g1⟩
 obtain ⟨od,es,ep,hod,q1,q2,q3,q4,q5⟩:=dd
 refine wpAny_pure ⟨plainId_quiet cK _,?_⟩
 have k0:∀x∈xs0,x.2.1≠g1.objs.size:=fun x hx=>by
  obtain ⟨ks,hk⟩:=r0.mem hx
  obtain ⟨o,ho⟩:=keyo hk
  exact below _ _ ho
 refine yp (xs0:=xs0) (ps:=ps') (vs:=its.toArray) (l:=l) (it:=g1.objs.size) (d:=d) ⟨below _ _ e,eO hl hd (by intro z;cases z),Ne.symm (below _ _ hod)⟩ (by simpa using I.ok.hd hc) (tupleKind_room_in1 (by trivial)) (by simp;trivial) nd' h4' k0 ps'.length 0 0 _ (by trivial) (Nat.zero_le _) ⟨_,Heap.get?_push_size _ rfl,rfl,rfl⟩ (l1.push _) (fun i p hi=>?_) ?_ fun h' tk hD keep=>?_
 ·obtain ⟨p0,T,c,sl,dd,g1',g2,g3,g4,g5,g6,g7,g8⟩:=hps i p hi
  obtain ⟨o,ho⟩:=keyo g3
  exact ⟨T,c,sl,dd,by simpa using g5,pu _ _ _ (k1 _ _ g6),j9 (yi I.hok (by rw [←g2];exact g3)) fun o e=>pu _ _ _ (k1 _ _ e),below _ _ g6,g7,below _ _ ho,g8⟩
 ·rw [List.take_zero,List.append_nil]
  exact ⟨od,es,ep,pu _ _ _ (k1 _ _ hod),q1,q2,q3,fun x hx=>j9 (q4 x hx) fun o e=>pu _ _ _ (k1 _ _ e),q5⟩
 ·obtain ⟨ob,ens,ep',hq,w2,w3,w4,_,w6⟩:=hD
  have tp:∀c ys,H c=some (.tup ys)→aG H d (.dT (kvs++ps)) c=some (.tup ys):=fun c ys e=>by
   rw [ay (eO e hd (by intro z;cases z))];exact e
  refine ⟨.non,_,I.write (x:=d) (e:=d) (o:=.dT (kvs++ps)) (by rw [hd];exact trivial) (.inl rfl) (fun c q' hc hu'=>keep c q' (below _ _ hu') hc (pu _ _ _ (k1 _ _ hu'))) ⟨_,hq⟩ (show _∧_ from ⟨by rw [sizeLine_eq];trivial,m,xs0++ps',Paired.mapP ra fun _ _ z=>⟨z.1,tp _ _ z.2.1,z.2.2⟩,ob,ens,ep',hq,w2,w3,w4,w6⟩),rfl,q _ .mk'⟩
end
end L2
namespace L2
open PySem PySem.Spec PyProof.Rows
section
variable {prog:Program}{w:World}{A:Around}{E:Value→Shared→Prop}{s:Shared}
theorem AB {v d:Addr}{o:Obj}{es:Array DictEntry}{ep:Nat}{Q:Value→Shared→Prop} (hv:s.heap.IsValuesView v d) (ho:s.heap.get? d=some o) (hd:o.data=.dict es ep)
 (hQ:Q (.ref s.heap.objs.size) { s with heap:=s.heap.push { cls:=.type "dict_valueiterator",data:=.fields #[.ref d,.int 0 0,.int es.size 0,.int ep 0] } }):wpAny (model prog w) A (pyIter (.ref v)) Q E s:=by
 obtain ⟨ov,hov,hcv,hdv⟩:=id hv
 refine wpAny_pyIter_slot hv.typeIs F.slot_dict_values_iter (wpAny_call_entry F.slot_dict_values_iter hv.typeIs F.entry_dict_values_iter (wpAny_bind (wpAny_pure (wpAny_bind ?_))) (F.args_dict_values_iter_1 _))
 unfold Builtin.Dict_items.dictOf
 refine wpAny_bind (wpAny_field hov hdv (x:=.ref d) rfl (wpAny_pure (wpAny_bind ?_)))
 unfold Builtin.Dict_items.newIterator
 refine wpAny_bind (wpAny_dictEntries ho hd (wpAny_bind (wpAny_dictEpoch ho hd ?_)))
 simp only [show Builtin.Dict_items.ownsTuple "dict_valueiterator" = false by decide,Bool.false_eq_true,if_false]
 exact wpAny_newObj_type (wpAny_pure ⟨(), "dict_valueiterator",_,⟨_,Heap.get?_push_size _ rfl,rfl⟩,F.slot_dict_valueiterator_next.lookup,by simpa [rawInt] using hQ⟩)
theorem Aw {it d:Addr}{i ep:Nat}{o:Obj}{es:Array DictEntry}{Q:Option Value→Shared→Prop} (hit:s.heap.IsValIter it d i es.size ep) (hod:s.heap.get? d=some o) (hdd:o.data=.dict es ep) (hx:i<es.size)
 (hQ:∀h',h'.IsValIter it d (i+1) es.size ep→Heap.SameBut it s.heap h'→Q (some es[i].val) { s with heap:=h' }):wpAny (model prog w) A (pyNext (.ref it)) Q E s:=by
 obtain ⟨oi,ho,hc,hd⟩:=id hit
 unfold pyNext
 refine wpAny_bind (wpAny_attempt (wpAny_callSpecial?_slot (name:=Str.ofString "__next__") hit.typeIs F.slot_dict_valueiterator_next (wpAny_call_entry F.slot_dict_valueiterator_next hit.typeIs F.entry_dict_valueiterator_next (wpAny_bind (wpAny_pure (wpAny_bind (wpAny_bind ?_)))) (F.args_dict_valueiterator_next_1 _))))
 first | refine wpAny_bind (wpAny_typeNameOfWhole_valiter hit.typeIs (wpAny_pure (wpAny_bind (wpAny_fieldsOf ho hd ?_)))) | refine wpAny_bind (wpAny_typeNameOf_valiter hit.typeIs (wpAny_pure (wpAny_bind (wpAny_fieldsOf ho hd ?_))))
 simp only [show Builtin.Dict_items.ownsTuple "dict_valueiterator" = false by decide,Bool.false_eq_true,if_false]
 show wpAny _ _ (if (Value.ref d==Value.none)=true then _ else _) _ _ s
 rw [if_neg (show ¬((Value.ref d==Value.none)=true) from Bool.false_ne_true)]
 refine wpAny_bind (wpAny_pure (wpAny_bind (wpAny_dictEntries hod hdd ?_)))
 rw [if_neg (by simp)]
 refine wpAny_bind (wpAny_pure (wpAny_bind (wpAny_dictEpoch hod hdd ?_)))
 rw [if_neg (by simp)]
 refine wpAny_pure ?_
 simp only [show ¬((i:Int)<0) from by trivial,if_false,Int.toNat_natCast,Array.getElem?_eq_getElem hx]
 refine wpAny_bind ?_
 first | refine wpAny_bind (wpAny_typeNameOfWhole_valiter hit.typeIs (wpAny_pure (wpAny_bind (wpAny_isOneOf_valiter hit.typeIs ?_)))) | refine wpAny_bind (wpAny_typeNameOf_valiter hit.typeIs (wpAny_pure (wpAny_bind (wpAny_isOneOf_valiter hit.typeIs ?_))))
 show wpAny _ _ (setField (.ref it) 1 (rawInt ((i:Int)+1)) >>= _) _ _ s
 refine wpAny_bind (wpAny_setField ho hd (by simp) ?_)
 have hit':(s.heap.update it (Obj.mapFields (·.setIfInBounds 1 (rawInt ((i:Int)+1))))).IsValIter it d (i+1) es.size ep:=
  ⟨_,Heap.get?_update_self _ ho (Obj.isFreed_of_fields (Obj.data_mapFields hd _)),(Obj.cls_mapFields ..).trans hc,by rw [Obj.data_mapFields hd];simp [rawInt]⟩
 have hT:Shared.TypeIs { s with heap:=s.heap.update it (Obj.mapFields (·.setIfInBounds 1 (rawInt ((i:Int)+1)))) } (.ref it) "dict_valueiterator" := hit'.typeIs
 refine wpAny_bind (wpAny_holding (wpAny_bind (wpAny_isOneOf_valiter hT (wpAny_bind (wpAny_isOneOf_valiter hT ?_)))))
 exact wpAny_pure (wpAny_pure ⟨(),wpAny_pure (hQ _ hit' (Heap.SameBut.update ..))⟩)
theorem BN {it d:Addr}{ep:Nat}{o:Obj}{es:Array DictEntry}{Q:Option Value→Shared→Prop} (hh:A.handled=none) (hit:s.heap.IsValIter it d es.size es.size ep) (hod:s.heap.get? d=some o) (hdd:o.data=.dict es ep)
 (hQ:∀h',Heap.ExtBut it s.heap h'→Q none { s with heap:=h' }):wpAny (model prog w) A (pyNext (.ref it)) Q E s:=by
 obtain ⟨oi,ho,hc,hd⟩:=id hit
 unfold pyNext
 refine wpAny_bind (wpAny_attempt (wpAny_callSpecial?_slot (name:=Str.ofString "__next__") hit.typeIs F.slot_dict_valueiterator_next (wpAny_call_entry F.slot_dict_valueiterator_next hit.typeIs F.entry_dict_valueiterator_next (wpAny_bind (wpAny_pure (wpAny_bind (wpAny_bind ?_)))) (F.args_dict_valueiterator_next_1 _))))
 first | refine wpAny_bind (wpAny_typeNameOfWhole_valiter hit.typeIs (wpAny_pure (wpAny_bind (wpAny_fieldsOf ho hd ?_)))) | refine wpAny_bind (wpAny_typeNameOf_valiter hit.typeIs (wpAny_pure (wpAny_bind (wpAny_fieldsOf ho hd ?_))))
 simp only [show Builtin.Dict_items.ownsTuple "dict_valueiterator" = false by decide,Bool.false_eq_true,if_false]
 show wpAny _ _ (if (Value.ref d==Value.none)=true then _ else _) _ _ s
 rw [if_neg (show ¬((Value.ref d==Value.none)=true) from Bool.false_ne_true)]
 refine wpAny_bind (wpAny_pure (wpAny_bind (wpAny_dictEntries hod hdd ?_)))
 rw [if_neg (by simp)]
 refine wpAny_bind (wpAny_pure (wpAny_bind (wpAny_dictEpoch hod hdd ?_)))
 rw [if_neg (by simp)]
 refine wpAny_pure ?_
 simp only [show ¬((es.size:Int)<0) from by trivial,if_false,Int.toNat_natCast,Array.getElem?_eq_none (Nat.le_refl es.size)]
 refine wpAny_bind ?_
 first | refine wpAny_bind (wpAny_typeNameOfWhole_valiter hit.typeIs (wpAny_pure ?_)) | refine wpAny_bind (wpAny_typeNameOf_valiter hit.typeIs (wpAny_pure ?_))
 show wpAny _ _ (setField (.ref it) 0 .none >>= _) _ _ s
 refine wpAny_bind (wpAny_setField ho hd (by simp) ?_)
 show wpAny _ _ (newExc (.type "StopIteration") [] >>= _) _ _ _
 refine wpAny_bind ?_
 simp only [newExc,newTuple]
 refine wpAny_bind (wpAny_newObj_type (wpAny_bind (m:=firstArgMember _ _) (wpAny_of_eq (a:=Value.none) (by first | rfl | (simp only [firstArgMember];rfl)) (wpAny_newObj_type ?_ (by size_fits)))) (by size_fits))
 simp only [raiseNew]
 refine wpAny_bind (wpAny_handled ?_)
 rw [show A.in1.handled=none from hh]
 refine wpAny_bind (wpAny_pure (wpAny_throw ?_))
 exact wpAny_bind (wpAny_isInstance (b:=true) (T := "StopIteration") ⟨_,Heap.get?_push_size _ rfl,rfl⟩ isSubtype_stop (wpAny_pure (hQ _ (((Heap.SameBut.update ..).extBut.push _).push _))))
theorem qm:entryFor table "dict_valueiterator.__iter__" = some Builtin.«dict_keyiterator.__iter__»:=entryFor_alias (id' := "dict_keyiterator.__iter__") (by kernel_rfl) rfl (by nofun) (by kernel_rfl)
theorem AS {it d:Addr}{i n ep:Nat}{Q:Value→Shared→Prop} (hit:s.heap.IsValIter it d i n ep) (h:Q (.ref it) s):wpAny (model prog w) A (pyIter (.ref it)) Q E s:=by
 refine wpAny_pyIter_slot hit.typeIs F.slot_dict_valueiterator_iter (wpAny_call_entry F.slot_dict_valueiterator_iter hit.typeIs qm ?_ (F.args_dict_valueiterator_iter_1 _))
 show wpAny _ _ (ret (.ref it)) _ _ s
 exact wpAny_pure ⟨(), "dict_valueiterator",_,hit.typeIs,F.slot_dict_valueiterator_next.lookup,h⟩
end
def yj (v d:Addr):HO:=.ext fun h=>h.IsValuesView v d
section
variable {X:Cx}
inductive EF (x:V) (vs:List V) (H:Hp) (Q:VK):Prop
 | mk (d:Addr) (kvs:List (List aP×V)) (h0:x=.ref d) (h1:vs=[]) (h2:H d=some (.dT kvs)) (h3:∀p H',Nw H p (yj p d) H'→Q (.ref p) H')
def Gn:V→List V→Hp→VK→Prop:=fun x vs H Q=>EF  x vs H Q
theorem Ap:xn X "dict.values" Gn:=by
 intro pins s σ H x vs v us Q I rx rv h
 obtain ⟨d,kvs,rfl,rfl,hd,q⟩:=h
 cases rx
 cases rv
 obtain ⟨z,m,xs,rel,dd⟩:=vJ I.hok hd
 refine wpAny_call_entry F.slot_dict_values dd.typeIs F.entry_dict_values (wpAny_bind ?_) (F.args_dict_values_1 _)
 unfold Builtin.Dict.noArgs
 refine wpAny_bind (wpAny_notOrdered_dict dd.typeIs ?_)
 show wpAny _ _ (pure d) _ _ s
 refine wpAny_pure ?_
 show wpAny _ _ (Builtin.Dict.showsAll d >>= _) _ _ s
 unfold Builtin.Dict.showsAll
 rw [if_neg (by rw [m];exact Bool.false_ne_true)]
 refine wpAny_bind (wpAny_pure (wpAny_bind (wpAny_newObj_type (wpAny_pure ⟨(),.ref s.heap.objs.size,_,I.laid (a:=s.heap.objs.size) (o:=yj s.heap.objs.size d) (t':=s.toks) (fun _ _ e=>Heap.get?_push_of_some _ e) (Nat.le_refl _) ?_,rfl,q _ _ (.mk' I.fresh)⟩))))
 exact ⟨⟨_,Heap.get?_push_size _ rfl,rfl,rfl⟩,⟨_,Heap.get?_push_size _ rfl⟩,fun h1 h2 ⟨o,e,c⟩ k=>⟨o,k o e,c⟩⟩
def Gx (d:Addr) (o:Obj) (kvs:List (List aP×V)):It:=⟨fun i H=>H d=some (.frz o (.dT kvs))∧i<kvs.length,fun i H x H'=>H'=H∧∃k,kvs[i]?=some (k,x),fun i H=>H d=some (.frz o (.dT kvs))∧i=kvs.length⟩
theorem Paired.at' {α β:Type}{F:α→β→Prop}{as:List α}{bs:List β} (h:Paired F as bs):∀{i:Nat}{a:α},as[i]?=some a→∃b,bs[i]?=some b∧F a b:=by
 induction h with
 | nil=>intro i a e;simp at e
 | @cons x y xs ys r t ih=>
  intro i a e
  cases i with
  | zero=>simp at e;subst e;exact ⟨y,rfl,r⟩
  | succ i=>exact ih e
theorem AE {P:Program}{w:World}{K:PySem.W.Frag}{tg:Expr}{d it:Addr}{o:Obj}{es:Array DictEntry}{ep:Nat}{kvs:List (List aP×V)} (hd:o.data=.dict es ep) (hl:es.size=kvs.length):pM P w K tg (Gx d o kvs) [it] it (fun i h=>h.IsValIter it d i es.size ep) where
 mem:=by simp
 obj:=fun i h st b hb=>by
  have e:b=it:=by simpa using hb
  subst e
  obtain ⟨o,e,c,d⟩:=st
  exact ⟨o,e,fun v z=>by rw [d] at z;cases z⟩
 keep:=fun i h h' ⟨o,e,c⟩ k=>⟨o,k it (by simp) o e,c⟩
 item:=by
  intro X hP hw hK hc i pins s σ H E I hf st hg
  subst hP hw hK
  obtain ⟨hH,hi⟩:=hg
  obtain ⟨g,hx⟩:=(show bD X.prog X.w H s.heap d (.frz o (.dT kvs)) from I.hok d _ hH)
  obtain ⟨_,_,xs,rel,o',es',ep',g',_,h3,h4,_⟩:=hx
  rw [g] at g'
  cases g'
  rw [hd] at h3
  cases h3
  obtain ⟨f0,f1,f2,f3,f4,f5⟩:=hf it (by simp)
  have ei:=List.getElem?_eq_getElem hi
  obtain ⟨y,ey,_,_,ry⟩:=Paired.at' rel ei
  have hi':i<es.size:=by trivial
  have ev:es[i].val=y.2.2:=by
   have e:es.toList[i]?=some es[i]:=by simp [hi']
   rw [h4,List.getElem?_map,ey] at e
   have:=Option.some.inj e
   rw [←this]
   rfl
  refine Aw st g hd hi' fun h' st' sb=>?_
  have I1:ag X pins σ H { s with heap:=h' }:=I.turned (t':=s.toks) (fun b o hb e=>(sb.2 b hb).trans e) f0 f1 f3 f4 f5
  obtain ⟨oo,e,c,dd⟩:=id st'
  exact ⟨(),vH (s:={ s with heap:=h' }) e c dd (by decide) ⟨kvs[i].2,H,I1,by rw [ev];exact ry,⟨rfl,kvs[i].1,ei⟩,st',fun b hb=>(hf b hb).1⟩⟩
 done:=by
  intro X hP hw hK hc i pins s σ H E I hf st hg
  subst hP hw hK
  obtain ⟨hH,hi⟩:=hg
  obtain ⟨g,hx⟩:=(show bD X.prog X.w H s.heap d (.frz o (.dT kvs)) from I.hok d _ hH)
  obtain ⟨f0,f1,f2,f3,f4,f5⟩:=hf it (by simp)
  rw [hi,←hl] at st
  exact BN (I.ok.hd hc) st g hd fun h' eb=>⟨rfl,I.turned (t':=s.toks) (fun b o hb e=>eb b o hb e) f0 f1 f3 f4 f5⟩
 self:=fun _ _ _ _ _ st h=>AS st h
def Hq (tl:TE):TI:=fun σ H R=>tl σ H fun x H1=>gH fun (v d:Addr) (kvs:List (List aP×V))=>x=.ref v∧H1 v=some (yj v d)∧H1 d=some (.dT kvs)∧∀o H2,uW H1 d (.frz o (.dT kvs)) H2→R (Gx d o kvs) H2
theorem Cm {tg l:Expr}{tl:TE} (hl:PE X l tl):PI X tg l (Hq tl):=by
 intro pins s σ H R I h
 refine aK (hl pins s σ H _ I h) fun u s1 ⟨x,H1,I1,r1,q1⟩=>?_
 obtain ⟨v,d,kvs,rfl,hv,hd,q⟩:=q1
 cases r1
 obtain ⟨vw,_⟩:=(show bD X.prog X.w H1 s1.heap v (yj v d) from I1.hok v _ hv)
 obtain ⟨z,m,xs,rel,o,es,ep,h1,h2,h3,h4,h5⟩:=(show bD X.prog X.w H1 s1.heap d (.dT kvs) from I1.hok d _ hd)
 have lz:es.size=kvs.length:=by
  rw [←Array.length_toList,h4,List.length_map,Paired.length rel]
 refine AB vw h1 h3 ?_
 have tp:∀c ys,H1 c=some (.tup ys)→aG H1 d (.frz o (.dT kvs)) c=some (.tup ys):=fun c ys e=>by
  rw [ay (eO e hd (by intro z;cases z))];exact e
 have I2:ag X pins σ (aG H1 d (.frz o (.dT kvs))) { s1 with heap:=s1.heap,toks:=s1.toks }:=I1.write (x:=d) (e:=d) (o:=.frz o (.dT kvs)) (t':=s1.toks) (by rw [hd];exact trivial) (.inl rfl) (fun _ _ _ e=>e) ⟨_,h1⟩ (show _∧_ from ⟨h1,z,m,xs,Paired.mapP rel fun _ _ z=>⟨z.1,tp _ _ z.2.1,z.2.2⟩,o,es,ep,h1,h2,h3,h4,h5⟩)
 refine ⟨s1.heap.objs.size,[s1.heap.objs.size],_,_,aG H1 d (.frz o (.dT kvs)),rfl,I2.kept (t':=s1.toks) fun b o e=>Heap.get?_push_of_some _ e,AE h3 lz,⟨_,Heap.get?_push_size _ rfl,rfl,rfl⟩,fun b hb=>?_,q _ _ .mk'⟩
 have e:b=s1.heap.objs.size:=by simpa using hb
 subst e
 exact I2.fpOk (Nat.le_refl _) (I2.hok.fresh (Nat.le_refl _))
end
end L2
set_option maxHeartbeats 4000000
open L2
local macro_rules | `(#[$n:num,$i:ident])=>`(@pw _ $n _ _ (Or.inl $i) (by rfl) (by decide) (by decide)) | `(#[$n:num,($i:ident)])=>`(@pw _ $n _ _ (Or.inr (Or.inl $i)) (by rfl) (by decide) (by decide))
local macro_rules | `(#[$n:num,()])=>`(@pw _ $n _ _ (Or.inl (by kernel_rfl)) (by rfl) (by decide) (by decide)) | `(#[$n:num,0])=>`(@pw _ $n _ _ (Or.inr (Or.inl (by kernel_rfl))) (by rfl) (by decide) (by decide)) | `(#[$n:num,1])=>`(@pw _ $n _ _ (Or.inr (Or.inr (by kernel_rfl))) (by rfl) (by decide) (by decide))
local macro_rules | `(#[()])=>`(@bF _ _ _ _) | `(#[(),()])=>`(@pP _ _ (by decide) (by decide))
local macro_rules | `(#[[$a]])=>`(@C1 _ _ _ _ _ $a (@dc _) rfl) | `(#[[$a,$b,*]])=>`(@C1 _ _ _ _ _ $a #[[$b,*]] rfl)
local macro_rules | `(#[$a[$b]])=>`(@cM _ _ _ _ _ _ _ (@Fs _ ($(Lean.mkIdent `K)) (by rfl)) $a $b (fun _ _=>rfl)) | `(#[$a[$b]!])=>`(@cM _ _ _ _ _ _ _ (@Fz _ ($(Lean.mkIdent `K)) (by rfl)) $a $b (fun _ _=>rfl))
local macro_rules | `(#[$g:ident,$k:ident,$t:term,$a:term])=>`(@nv _ _ _ _ _ _ _ _ _ _ _ _ _ _ _ _ $g ($(Lean.mkIdent `hr).mono (by decide)) $k ($t).m ($t).F.kp ($t).B .nil (@s0 _) $a (by decide) (by rfl) (by rfl))
local macro_rules | `(#[$g:ident,(),$t:term,$a:term])=>`(@nv _ _ _ _ _ _ _ _ _ _ _ _ _ _ _ _ $g ($(Lean.mkIdent `hr).mono (by decide)) (by show _=_;kernel_rfl) ($t).m ($t).F.kp ($t).B .nil (@s0 _) $a (by decide) (by rfl) (by rfl))
local macro_rules | `(#[$n:num,$s:term,$i:ident,$v:term])=>`(@jT _ _ ($n) _ _ _ _ $s rfl (Or.inl $i) $v (by rfl) (by first | exact .inl rfl | exact .inr rfl | assumption))
local macro_rules | `(#[$n:num,$s:term,$i:ident])=>`(@gC _ _ ($n) _ $s rfl (Or.inl $i) (by first | exact .inl rfl | exact .inr rfl | assumption)) | `(#[$n:num,(),()])=>`(@gC _ _ ($n) _ (@wg _ (by kernel_rfl)) rfl (Or.inl (by kernel_rfl)) (by first | exact .inl rfl | exact .inr rfl | assumption))
local macro_rules | `(#[(),(),$a,$b,$c,$d,$e])=>`(@jz _ _ _ _ _ _ _ _ _ $a $b $c $d $e (by decide) (by decide) (by rfl) (by rfl))
local macro_rules | `(#[$a :: $b])=>`(@fR _ _ _ _ _ $a $b)
local macro_rules | `(#[$f:ident $n:num $a*])=>do
 let us ←(Array.range n.getNat).mapM fun _=>`(_)
 `(@$f $us* $a*)
local macro_rules | `(#[($f:ident)])=>`($f ($(Lean.mkIdent `P):ident:=$(Lean.mkIdent `P)) ($(Lean.mkIdent `w):ident:=$(Lean.mkIdent `w)) ($(Lean.mkIdent `base):ident:=$(Lean.mkIdent `base)) $(Lean.mkIdent `T))
namespace K55
open PySem L2
def bX (i:Nat):Stmt:=PySem.Challenge.pw_gainroads_k55_sums_of_hours.main.body.getD i (.Pass ⟨0,0,0,0⟩)
abbrev dU:Stmt:=bX 1
abbrev ig:Stmt:=bX 2
abbrev bK:Stmt:=bX 3
abbrev dE:Stmt:=bX 4
abbrev eN:Stmt:=bX 5
abbrev kS:Stmt:=bX 6
abbrev kQ:Stmt:=bX 7
abbrev kT:Stmt:=bX 8
abbrev eU:Stmt:=bX 9
abbrev iD:Stmt:=bX 10
abbrev db:Stmt:=bX 12
abbrev cA:Stmt:=bX 14
abbrev b4:Stmt:=bX 15
abbrev gF:Stmt:=bX 17
abbrev gX:Stmt:=bX 18
abbrev eY:Stmt:=bX 19
abbrev b8:Stmt:=bX 20
abbrev cU:Stmt:=bX 21
abbrev aO:Stmt:=bX 22
abbrev cV:Stmt:=bX 23
abbrev gY:Stmt:=bX 24
abbrev bN:Stmt:=bX 25
abbrev dP:Stmt:=bX 26
abbrev b9:Stmt:=bX 27
abbrev ul:Stmt:=bX 29
abbrev rY:Stmt:=bX 30
abbrev cu:Stmt:=bX 31
abbrev iT:Stmt:=bX 32
abbrev ii:Stmt:=bX 33
abbrev nI:Stmt:=bX 34
abbrev cq:Stmt:=bX 35
abbrev fS:Stmt:=bX 36
abbrev iw:Stmt:=bX 37
abbrev gr:Stmt:=bX 38
abbrev aV:Stmt:=bX 39
abbrev aR:Stmt:=bX 40
abbrev kR:Stmt:=bX 41
abbrev aZ:Stmt:=bX 42
abbrev cp:Stmt:=bX 43
abbrev b6:Stmt:=bX 44
abbrev cO:Stmt:=bX 45
abbrev bu:Stmt:=bX 46
abbrev di:Stmt:=bX 47
abbrev cB:Stmt:=bX 48
theorem wo:aE ["thing"] ["thing"] (av dU):=⟨rfl,rfl,rfl,by nofun,rfl,by nofun,by nofun⟩
theorem kE:aE ["n", "d"] ["n", "d"] (av ig):=⟨rfl,rfl,rfl,by nofun,rfl,by nofun,by nofun⟩
theorem jH:aE ["thing", "n", "d"] ["thing"] (av bK):=⟨rfl,rfl,rfl,by nofun,rfl,by nofun,by nofun⟩
theorem qR:aE ["thing"] ["thing"] (av dE):=⟨rfl,rfl,rfl,by nofun,rfl,by nofun,by nofun⟩
theorem mR:aE ["n", "d", "divisor"] ["n", "d"] (av eN):=⟨rfl,rfl,rfl,by nofun,rfl,by nofun,by nofun⟩
theorem zZ:aE ["one", "other"] ["one", "other"] (av kS):=⟨rfl,rfl,rfl,by nofun,rfl,by nofun,by nofun⟩
theorem AQ:aE ["one", "other"] ["one", "other"] (av kQ):=⟨rfl,rfl,rfl,by nofun,rfl,by nofun,by nofun⟩
theorem AN:aE ["one", "other"] ["one", "other"] (av kT):=⟨rfl,rfl,rfl,by nofun,rfl,by nofun,by nofun⟩
theorem mK:aE ["one", "other", "left", "right"] ["one", "other"] (av eU):=⟨rfl,rfl,rfl,by nofun,rfl,by nofun,by nofun⟩
theorem mE:aE ["parts", "total", "part"] ["parts"] (av iD):=⟨rfl,rfl,rfl,by nofun,rfl,by nofun,by nofun⟩
theorem ut:aE ["thing", "most"] ["thing", "most"] (av db):=⟨rfl,rfl,rfl,by nofun,rfl,by nofun,by nofun⟩
theorem uh:aE ["thing", "size"] ["thing", "size"] (av cA):=⟨rfl,rfl,rfl,by nofun,rfl,by nofun,by nofun⟩
theorem vC:aE ["thing", "mosts"] ["thing", "mosts"] (av b4):=⟨rfl,rfl,rfl,by nofun,rfl,by nofun,by nofun⟩
theorem xa:aE ["day", "tie", "hour"] ["day", "tie", "hour"] (av gF):=⟨rfl,rfl,rfl,by nofun,rfl,by nofun,by nofun⟩
theorem vS:aE ["day", "tie"] ["day", "tie"] (av gX):=⟨rfl,rfl,rfl,by nofun,rfl,by nofun,by nofun⟩
theorem uw:aE ["day", "store"] ["day", "store"] (av eY):=⟨rfl,rfl,rfl,by nofun,rfl,by nofun,by nofun⟩
theorem vA:aE ["thing", "mosts"] ["thing", "mosts"] (av b8):=⟨rfl,rfl,rfl,by nofun,rfl,by nofun,by nofun⟩
theorem kI:aE ["day", "thing", "sent", "kept", "drawn"] ["day", "thing"] (av cU):=⟨rfl,rfl,rfl,by nofun,rfl,by nofun,by nofun⟩
theorem bf:aE ["day", "book", "place", "hour", "sent", "kept", "drawn", "parts", "row", "begin", "end", "most", "gain", "price", "late", "opens", "spot", "keep"] ["day", "book", "place", "hour"] (av aO):=⟨rfl,rfl,rfl,by nofun,rfl,by nofun,by nofun⟩
theorem i6:aE ["day", "book", "place", "hour", "sent", "kept", "drawn", "parts"] ["day", "book", "place", "hour"] (av cV):=⟨rfl,rfl,rfl,by nofun,rfl,by nofun,by nofun⟩
theorem wc:aE ["day", "place", "hour"] ["day", "place", "hour"] (av gY):=⟨rfl,rfl,rfl,by nofun,rfl,by nofun,by nofun⟩
theorem rm:aE ["day", "book", "place", "hour", "share", "left"] ["day", "book", "place", "hour", "share"] (av bN):=⟨rfl,rfl,rfl,by nofun,rfl,by nofun,by nofun⟩
theorem yl:aE ["day", "book", "share"] ["day", "book", "share"] (av dP):=⟨rfl,rfl,rfl,by nofun,rfl,by nofun,by nofun⟩
theorem fP:aE ["day", "book", "sent", "kept", "drawn", "prices"] ["day", "book"] (av b9):=⟨rfl,rfl,rfl,by nofun,rfl,by nofun,by nofun⟩
theorem rE:aE ["_law_script", "_law_k", "_law_cell"] ["_law_script", "_law_k"] (av ul):=⟨rfl,rfl,rfl,by nofun,rfl,by nofun,by nofun⟩
theorem p6:aE ["_law_box_here", "_law_many", "_law_found", "_law_once"] ["_law_box_here", "_law_many"] (av rY):=⟨rfl,rfl,rfl,by nofun,rfl,by nofun,by nofun⟩
theorem kJ:aE ["_law_script", "_law_cap", "_law_found", "_law_k", "_law_cell"] ["_law_script", "_law_cap"] (av cu):=⟨rfl,rfl,rfl,by nofun,rfl,by nofun,by nofun⟩
theorem qH:aE ["_law_top", "_law_bottom", "_law_one", "_law_other", "_law_by_here"] ["_law_top", "_law_bottom"] (av iT):=⟨rfl,rfl,rfl,by nofun,rfl,by nofun,by nofun⟩
theorem yU:aE ["_law_one", "_law_other", "_law_by_here"] ["_law_one", "_law_other", "_law_by_here"] (av ii):=⟨rfl,rfl,rfl,by nofun,rfl,by nofun,by nofun⟩
theorem Cp:aE ["_law_one", "_law_other"] ["_law_one", "_law_other"] (av nI):=⟨rfl,rfl,rfl,by nofun,rfl,by nofun,by nofun⟩
theorem eQ:aE ["_law_box_here", "_law_many", "_law_letters", "_law_found", "_law_first", "_law_alike", "_law_k", "_law_rest"] ["_law_box_here", "_law_many"] (av cq):=⟨rfl,rfl,rfl,by nofun,rfl,by nofun,by nofun⟩
theorem qi:aE ["_law_box_here", "_law_way", "_law_most_of"] ["_law_box_here"] (av fS):=⟨rfl,rfl,rfl,by nofun,rfl,by nofun,by nofun⟩
theorem uL:aE ["_law_box_here", "_law_way"] ["_law_box_here"] (av iw):=⟨rfl,rfl,rfl,by nofun,rfl,by nofun,by nofun⟩
theorem uT:aE ["_law_box_here", "_law_way"] ["_law_box_here"] (av gr):=⟨rfl,rfl,rfl,by nofun,rfl,by nofun,by nofun⟩
theorem br:aE ["_law_box_here", "_law_kind", "_law_many", "_law_hours", "_law_most_ties", "_law_names_here", "_law_ties", "_law_stores", "_law_wells", "_law_wishes", "_law_k", "_law_left", "_law_keep", "_law_place", "_law_hour", "_law_amount"] ["_law_box_here"] (av aV):=⟨rfl,rfl,rfl,by nofun,rfl,by nofun,by nofun⟩
theorem du:aE ["_law_box_here", "_law_names_here", "_law_hours", "_law_one", "_law_many", "_law_other", "_law_late", "_law_shut", "_law_opens", "_law_hour", "_law_row"] ["_law_box_here", "_law_names_here", "_law_hours"] (av aR):=⟨rfl,rfl,rfl,by nofun,rfl,by nofun,by nofun⟩
theorem AT:aE ["_law_day_here", "_law_row", "_law_hour"] ["_law_day_here", "_law_row", "_law_hour"] (av kR):=⟨rfl,rfl,rfl,by nofun,rfl,by nofun,by nofun⟩
theorem bq:aE ["_law_day_here", "_law_book", "_law_share", "_law_sent", "_law_kept", "_law_drawn", "_law_found", "_law_place", "_law_hour", "_law_row", "_law_goes", "_law_one", "_law_spot", "_law_store", "_law_rests", "_law_well", "_law_wish"] ["_law_day_here", "_law_book", "_law_share"] (av aZ):=⟨rfl,rfl,rfl,by nofun,rfl,by nofun,by nofun⟩
theorem dg:aE ["_law_day_here", "_law_book", "_law_total", "_law_row", "_law_goes", "_law_one", "_law_well"] ["_law_day_here", "_law_book"] (av cp):=⟨rfl,rfl,rfl,by nofun,rfl,by nofun,by nofun⟩
theorem dJ:aE ["_law_box_here", "_law_day_here", "_law_parts", "_law_sent", "_law_row", "_law_tops", "_law_kept"] ["_law_box_here", "_law_day_here"] (av b6):=⟨rfl,rfl,rfl,by nofun,rfl,by nofun,by nofun⟩
theorem rB:aE ["_law_one", "_law_other"] ["_law_one", "_law_other"] (av cO):=⟨rfl,rfl,rfl,by nofun,rfl,by nofun,by nofun⟩
theorem kP:aE ["_law_day_here", "_law_book", "_law_share", "_law_due", "_law_kept", "_law_place", "_law_hour"] ["_law_day_here", "_law_book", "_law_share"] (av bu):=⟨rfl,rfl,rfl,by nofun,rfl,by nofun,by nofun⟩
theorem lj:aE ["_law_day_here", "_law_ties", "_law_wells", "_law_wishes", "_law_more"] ["_law_day_here"] (av di):=⟨rfl,rfl,rfl,by nofun,rfl,by nofun,by nofun⟩
theorem kj:aE ["_law_script", "_law_box_here", "_law_day_here", "_law_books", "_law_book", "_law_at", "_law_part", "_law_share"] ["_law_script"] (av cB):=⟨rfl,rfl,rfl,by nofun,rfl,by nofun,by nofun⟩
end K55
namespace K55
open PySem L2
set_option genInjectivity false in
set_option genSizeOf false in
structure Df (K:PySem.W.Frag) (mg:Str→Option Value) (x:Str) (st:Stmt) (ps:List Str) where
 f:Addr
 d:FuncData
 m:mg x=some (.ref f)
 F:wK K x x st f d
 B:qF K d ps []
set_option genInjectivity false in
set_option genSizeOf false in
structure Txt (K:PySem.W.Frag) (mg:Str→Option Value) where
 b_abs:mg "abs" = none
 b_all:mg "all" = none
 b_bool:mg "bool" = none
 b_divmod:mg "divmod" = none
 b_enumerate:mg "enumerate" = none
 b_int:mg "int" = none
 b_isinstance:mg "isinstance" = none
 b_len:mg "len" = none
 b_list:mg "list" = none
 b_max:mg "max" = none
 b_min:mg "min" = none
 b_range:mg "range" = none
 b_repr:mg "repr" = none
 b_tuple:mg "tuple" = none
 b_zip:mg "zip" = none
 is_number_:Df K mg "is_number" dU ["thing"]
 common_divisor_:Df K mg "common_divisor" ig ["n", "d"]
 is_fraction_:Df K mg "is_fraction" bK ["thing"]
 is_from_nought_:Df K mg "is_from_nought" dE ["thing"]
 fraction_:Df K mg "fraction" eN ["n", "d"]
 added_:Df K mg "added" kS ["one", "other"]
 taken_:Df K mg "taken" kQ ["one", "other"]
 times_:Df K mg "times" kT ["one", "other"]
 compared_:Df K mg "compared" eU ["one", "other"]
 sum_of_:Df K mg "sum_of" iD ["parts"]
 goes_within_:Df K mg "goes_within" db ["thing", "most"]
 is_tuple_of_:Df K mg "is_tuple_of" cA ["thing", "size"]
 are_within_:Df K mg "are_within" b4 ["thing", "mosts"]
 may_send_:Df K mg "may_send" gF ["day", "tie", "hour"]
 tie_mosts_:Df K mg "tie_mosts" gX ["day", "tie"]
 store_mosts_:Df K mg "store_mosts" eY ["day", "store"]
 are_hourly_:Df K mg "are_hourly" b8 ["thing", "mosts"]
 is_book_:Df K mg "is_book" cU ["day", "thing"]
 comes_at_:Df K mg "comes_at" aO ["day", "book", "place", "hour"]
 goes_at_:Df K mg "goes_at" cV ["day", "book", "place", "hour"]
 wished_in_:Df K mg "wished_in" gY ["day", "place", "hour"]
 hour_sum_:Df K mg "hour_sum" bN ["day", "book", "place", "hour", "share"]
 adds_up_:Df K mg "adds_up" dP ["day", "book", "share"]
 day_price_:Df K mg "day_price" b9 ["day", "book"]
 l_box_:Df K mg "_law_box" ul ["_law_script", "_law_k"]
 l_take_:Df K mg "_law_take" rY ["_law_box_here", "_law_many"]
 l_boxes_:Df K mg "_law_boxes" cu ["_law_script", "_law_cap"]
 l_fr_:Df K mg "_law_fr" iT ["_law_top", "_law_bottom"]
 l_plus_:Df K mg "_law_plus" ii ["_law_one", "_law_other", "_law_by_here"]
 l_by_:Df K mg "_law_by" nI ["_law_one", "_law_other"]
 l_names_:Df K mg "_law_names" cq ["_law_box_here", "_law_many"]
 l_gain_:Df K mg "_law_gain" fS ["_law_box_here"]
 l_much_:Df K mg "_law_much" iw ["_law_box_here"]
 l_cost_:Df K mg "_law_cost" gr ["_law_box_here"]
 l_day_:Df K mg "_law_day" aV ["_law_box_here"]
 l_day_tie_:Df K mg "_law_day_tie" aR ["_law_box_here", "_law_names_here", "_law_hours"]
 l_may_:Df K mg "_law_may" kR ["_law_day_here", "_law_row", "_law_hour"]
 l_sums_:Df K mg "_law_sums" aZ ["_law_day_here", "_law_book", "_law_share"]
 l_price_:Df K mg "_law_price" cp ["_law_day_here", "_law_book"]
 l_any_book_:Df K mg "_law_any_book" b6 ["_law_box_here", "_law_day_here"]
 l_halves_:Df K mg "_law_halves" cO ["_law_one", "_law_other"]
 l_right_:Df K mg "_law_right" bu ["_law_day_here", "_law_book", "_law_share"]
 l_doubled_:Df K mg "_law_doubled" di ["_law_day_here"]
 law_:Df K mg "law" cB ["_law_script"]
end K55
namespace K55
open PySem L2
abbrev ae (s:Stmt) (x:Str):Prop:=(av s).names.lookup x=some NameKind.local
abbrev aj (s:Stmt) (x:Str):Prop:=(av s).names.lookup x=some NameKind.globalImplicit
abbrev fi (s:Stmt) (x:Str):Prop:=(av s).names.lookup x=some NameKind.cell
theorem kH:ae dU "thing" := by nofun
theorem gR:aj dU "isinstance" := by nofun
theorem sZ:aj dU "int" := by nofun
theorem rL:aj dU "bool" := by nofun
theorem fB:ae bK "thing" := by nofun
theorem iQ:ae bK "n" := by nofun
theorem fJ:ae bK "d" := by nofun
theorem lM:aj bK "isinstance" := by nofun
theorem pj:aj bK "tuple" := by nofun
theorem qV:aj bK "len" := by nofun
theorem gI:aj bK "is_number" := by nofun
theorem jx:aj bK "common_divisor" := by nofun
theorem gW:ae dE "thing" := by nofun
theorem jF:aj dE "is_fraction" := by nofun
theorem pF:ae eN "n" := by nofun
theorem li:ae eN "d" := by nofun
theorem cQ:ae eN "divisor" := by nofun
theorem kL:aj eN "common_divisor" := by nofun
theorem mL:ae kS "one" := by nofun
theorem kq:ae kS "other" := by nofun
theorem rM:aj kS "fraction" := by nofun
theorem mQ:ae kQ "one" := by nofun
theorem ku:ae kQ "other" := by nofun
theorem sf:aj kQ "fraction" := by nofun
theorem rC:ae kT "one" := by nofun
theorem oU:ae kT "other" := by nofun
theorem rO:aj kT "fraction" := by nofun
theorem nO:ae eU "one" := by nofun
theorem lc:ae eU "other" := by nofun
theorem i5:ae eU "left" := by nofun
theorem io:ae eU "right" := by nofun
theorem tW:ae iD "parts" := by nofun
theorem gG:ae iD "total" := by nofun
theorem pc:ae iD "part" := by nofun
theorem uo:aj iD "added" := by nofun
theorem jk:ae db "thing" := by nofun
theorem pH:ae db "most" := by nofun
theorem jG:aj db "is_from_nought" := by nofun
theorem mM:aj db "compared" := by nofun
theorem js:ae cA "thing" := by nofun
theorem qf:ae cA "size" := by nofun
theorem lP:aj cA "isinstance" := by nofun
theorem pA:aj cA "tuple" := by nofun
theorem re:aj cA "len" := by nofun
theorem fU:ae b4 "thing" := by nofun
theorem kg:ae b4 "mosts" := by nofun
theorem l6:aj b4 "isinstance" := by nofun
theorem qW:aj b4 "list" := by nofun
theorem kX:aj b4 "len" := by nofun
theorem rZ:aj b4 "all" := by nofun
theorem sj:aj b4 "zip" := by nofun
theorem uz:ae gF "day" := by nofun
theorem nX:ae gF "tie" := by nofun
theorem mH:ae gF "hour" := by nofun
theorem sO:fi gX "day" := by nofun
theorem qY:aj gX "range" := by nofun
theorem qN:ae eY "day" := by nofun
theorem ph:aj eY "range" := by nofun
theorem fZ:ae b8 "thing" := by nofun
theorem jW:ae b8 "mosts" := by nofun
theorem l5:aj b8 "isinstance" := by nofun
theorem qZ:aj b8 "list" := by nofun
theorem lS:aj b8 "len" := by nofun
theorem su:aj b8 "all" := by nofun
theorem sF:aj b8 "zip" := by nofun
theorem kz:fi cU "day" := by nofun
theorem l7:ae cU "thing" := by nofun
theorem nT:ae cU "sent" := by nofun
theorem ny:ae cU "kept" := by nofun
theorem mr:ae cU "drawn" := by nofun
theorem nS:aj cU "is_tuple_of" := by nofun
theorem ji:aj cU "are_hourly" := by nofun
theorem ou:aj cU "are_within" := by nofun
theorem jD:ae aO "day" := by nofun
theorem sY:ae aO "book" := by nofun
theorem lA:fi aO "place" := by nofun
theorem fH:fi aO "hour" := by nofun
theorem mz:ae aO "sent" := by nofun
theorem mF:ae aO "kept" := by nofun
theorem lC:ae aO "drawn" := by nofun
theorem eM:ae aO "parts" := by nofun
theorem gE:ae aO "row" := by nofun
theorem rS:ae aO "begin" := by nofun
theorem nH:ae aO "end" := by nofun
theorem mq:ae aO "most" := by nofun
theorem mj:ae aO "gain" := by nofun
theorem sk:ae aO "price" := by nofun
theorem iN:ae aO "late" := by nofun
theorem rD:ae aO "opens" := by nofun
theorem mC:ae aO "spot" := by nofun
theorem mG:ae aO "keep" := by nofun
theorem jJ:aj aO "zip" := by nofun
theorem lQ:aj aO "times" := by nofun
theorem qT:aj aO "sum_of" := by nofun
theorem oV:ae cV "day" := by nofun
theorem uv:ae cV "book" := by nofun
theorem nW:ae cV "sent" := by nofun
theorem nq:ae cV "kept" := by nofun
theorem sX:ae cV "drawn" := by nofun
theorem jb:ae cV "parts" := by nofun
theorem o8:aj cV "zip" := by nofun
theorem rN:aj cV "sum_of" := by nofun
theorem sU:ae gY "day" := by nofun
theorem qq:aj gY "sum_of" := by nofun
theorem jA:ae bN "day" := by nofun
theorem mi:ae bN "book" := by nofun
theorem hZ:ae bN "place" := by nofun
theorem iO:ae bN "hour" := by nofun
theorem sy:ae bN "share" := by nofun
theorem mI:ae bN "left" := by nofun
theorem lO:aj bN "taken" := by nofun
theorem pi:aj bN "comes_at" := by nofun
theorem qu:aj bN "goes_at" := by nofun
theorem rK:aj bN "times" := by nofun
theorem ot:aj bN "wished_in" := by nofun
theorem oR:fi dP "day" := by nofun
theorem uf:fi dP "book" := by nofun
theorem tD:fi dP "share" := by nofun
theorem mZ:aj dP "is_fraction" := by nofun
theorem qS:aj dP "is_book" := by nofun
theorem vo:aj dP "all" := by nofun
theorem mf:ae b9 "day" := by nofun
theorem rV:ae b9 "book" := by nofun
theorem lu:ae b9 "sent" := by nofun
theorem r9:ae b9 "kept" := by nofun
theorem kB:ae b9 "drawn" := by nofun
theorem gn:ae b9 "prices" := by nofun
theorem mm:aj b9 "zip" := by nofun
theorem qt:aj b9 "sum_of" := by nofun
theorem jY:ae cu "_law_script" := by nofun
theorem fI:ae cu "_law_cap" := by nofun
theorem d5:fi cu "_law_found" := by nofun
theorem gZ:ae cu "_law_k" := by nofun
theorem kY:ae cu "_law_cell" := by nofun
theorem tV:aj cu "list" := by nofun
theorem pB:aj cu "enumerate" := by nofun
theorem tq:aj cu "range" := by nofun
theorem vk:aj cu "max" := by nofun
theorem vp:aj cu "len" := by nofun
theorem pS:ae iT "_law_top" := by nofun
theorem jd:ae iT "_law_bottom" := by nofun
theorem fX:ae iT "_law_one" := by nofun
theorem eG:ae iT "_law_other" := by nofun
theorem ix:ae iT "_law_by_here" := by nofun
theorem tL:aj iT "abs" := by nofun
theorem jw:ae ii "_law_one" := by nofun
theorem hV:ae ii "_law_other" := by nofun
theorem qz:ae ii "_law_by_here" := by nofun
theorem vv:aj ii "_law_fr" := by nofun
theorem qd:ae nI "_law_one" := by nofun
theorem mX:ae nI "_law_other" := by nofun
theorem xf:aj nI "_law_fr" := by nofun
theorem eX:fi cq "_law_box_here" := by nofun
theorem ie:fi cq "_law_many" := by nofun
theorem jm:fi cq "_law_letters" := by nofun
theorem gP:ae cq "_law_found" := by nofun
theorem kA:fi cq "_law_first" := by nofun
theorem kD:ae cq "_law_alike" := by nofun
theorem oP:ae cq "_law_k" := by nofun
theorem lF:ae cq "_law_rest" := by nofun
theorem iq:aj cq "_law_take" := by nofun
theorem i9:aj cq "range" := by nofun
theorem fu:ae fS "_law_box_here" := by nofun
theorem jv:ae fS "_law_way" := by nofun
theorem gl:ae fS "_law_most_of" := by nofun
theorem iY:aj fS "_law_take" := by nofun
theorem vj:aj fS "_law_fr" := by nofun
theorem fA:ae iw "_law_box_here" := by nofun
theorem gD:ae iw "_law_way" := by nofun
theorem je:aj iw "_law_take" := by nofun
theorem vm:aj iw "_law_fr" := by nofun
theorem ff:ae gr "_law_box_here" := by nofun
theorem jy:ae gr "_law_way" := by nofun
theorem iM:aj gr "_law_take" := by nofun
theorem vE:aj gr "_law_fr" := by nofun
theorem vQ:aj gr "int" := by nofun
theorem ax:ae aV "_law_box_here" := by nofun
theorem ci:ae aV "_law_kind" := by nofun
theorem cn:ae aV "_law_many" := by nofun
theorem bY:ae aV "_law_hours" := by nofun
theorem fj:ae aV "_law_most_ties" := by nofun
theorem bU:ae aV "_law_names_here" := by nofun
theorem ju:ae aV "_law_ties" := by nofun
theorem ib:ae aV "_law_stores" := by nofun
theorem iX:ae aV "_law_wells" := by nofun
theorem ic:ae aV "_law_wishes" := by nofun
theorem jN:ae aV "_law_k" := by nofun
theorem jI:ae aV "_law_left" := by nofun
theorem mW:ae aV "_law_keep" := by nofun
theorem mw:ae aV "_law_place" := by nofun
theorem mV:ae aV "_law_hour" := by nofun
theorem lV:ae aV "_law_amount" := by nofun
theorem aM:aj aV "_law_take" := by nofun
theorem sQ:aj aV "_law_names" := by nofun
theorem hJ:aj aV "range" := by nofun
theorem jQ:aj aV "int" := by nofun
theorem qP:aj aV "_law_day_tie" := by nofun
theorem vY:aj aV "list" := by nofun
theorem w9:aj aV "min" := by nofun
theorem pZ:aj aV "_law_fr" := by nofun
theorem xg:aj aV "len" := by nofun
theorem nF:aj aV "_law_much" := by nofun
theorem ub:aj aV "_law_cost" := by nofun
theorem fb:aj aV "tuple" := by nofun
theorem bh:ae aR "_law_box_here" := by nofun
theorem cv:ae aR "_law_names_here" := by nofun
theorem jl:ae aR "_law_hours" := by nofun
theorem gL:ae aR "_law_one" := by nofun
theorem fY:ae aR "_law_many" := by nofun
theorem jn:ae aR "_law_other" := by nofun
theorem j7:ae aR "_law_late" := by nofun
theorem jZ:ae aR "_law_shut" := by nofun
theorem fC:ae aR "_law_opens" := by nofun
theorem kf:ae aR "_law_hour" := by nofun
theorem kG:ae aR "_law_row" := by nofun
theorem cR:aj aR "_law_take" := by nofun
theorem mB:aj aR "len" := by nofun
theorem qO:aj aR "range" := by nofun
theorem qh:aj aR "_law_much" := by nofun
theorem p7:aj aR "_law_gain" := by nofun
theorem qo:aj aR "_law_cost" := by nofun
theorem qU:aj aR "tuple" := by nofun
theorem qe:ae kR "_law_day_here" := by nofun
theorem oY:ae kR "_law_row" := by nofun
theorem nV:ae kR "_law_hour" := by nofun
theorem bw:ae aZ "_law_day_here" := by nofun
theorem sT:ae aZ "_law_book" := by nofun
theorem rG:ae aZ "_law_share" := by nofun
theorem l9:ae aZ "_law_sent" := by nofun
theorem mt:ae aZ "_law_kept" := by nofun
theorem lL:ae aZ "_law_drawn" := by nofun
theorem aL:ae aZ "_law_found" := by nofun
theorem rR:fi aZ "_law_place" := by nofun
theorem bC:ae aZ "_law_hour" := by nofun
theorem cG:ae aZ "_law_row" := by nofun
theorem my:ae aZ "_law_goes" := by nofun
theorem bT:ae aZ "_law_one" := by nofun
theorem cY:ae aZ "_law_spot" := by nofun
theorem dq:ae aZ "_law_store" := by nofun
theorem kW:ae aZ "_law_rests" := by nofun
theorem jg:ae aZ "_law_well" := by nofun
theorem fN:ae aZ "_law_wish" := by nofun
theorem uu:aj aZ "range" := by nofun
theorem lJ:aj aZ "zip" := by nofun
theorem jU:aj aZ "enumerate" := by nofun
theorem cX:aj aZ "_law_plus" := by nofun
theorem kw:aj aZ "_law_by" := by nofun
theorem iR:ae cp "_law_day_here" := by nofun
theorem l0:ae cp "_law_book" := by nofun
theorem cy:ae cp "_law_total" := by nofun
theorem mD:ae cp "_law_row" := by nofun
theorem ln:ae cp "_law_goes" := by nofun
theorem fK:ae cp "_law_one" := by nofun
theorem lK:ae cp "_law_well" := by nofun
theorem oX:aj cp "zip" := by nofun
theorem k9:aj cp "_law_plus" := by nofun
theorem mS:aj cp "_law_by" := by nofun
theorem cC:fi b6 "_law_day_here" := by nofun
theorem oK:fi b6 "_law_parts" := by nofun
theorem fh:ae b6 "_law_sent" := by nofun
theorem qk:fi b6 "_law_row" := by nofun
theorem jj:ae b6 "_law_tops" := by nofun
theorem jq:ae b6 "_law_kept" := by nofun
theorem pR:aj b6 "range" := by nofun
theorem hW:ae cO "_law_one" := by nofun
theorem j8:ae cO "_law_other" := by nofun
theorem nE:aj cO "isinstance" := by nofun
theorem tI:aj cO "list" := by nofun
theorem tQ:aj cO "zip" := by nofun
theorem sS:aj cO "_law_by" := by nofun
theorem qQ:aj cO "_law_plus" := by nofun
theorem be:ae bu "_law_day_here" := by nofun
theorem cf:ae bu "_law_book" := by nofun
theorem gK:ae bu "_law_share" := by nofun
theorem iV:ae bu "_law_due" := by nofun
theorem l4:ae bu "_law_kept" := by nofun
theorem gQ:ae bu "_law_place" := by nofun
theorem ir:ae bu "_law_hour" := by nofun
theorem sq:aj bu "_law_sums" := by nofun
theorem dl:aj bu "repr" := by nofun
theorem tx:aj bu "range" := by nofun
theorem pU:aj bu "hour_sum" := by nofun
theorem pC:aj bu "day_price" := by nofun
theorem qX:aj bu "_law_price" := by nofun
theorem rf:aj bu "adds_up" := by nofun
theorem vq:aj bu "all" := by nofun
theorem bM:ae di "_law_day_here" := by nofun
theorem fV:ae di "_law_ties" := by nofun
theorem fD:ae di "_law_wells" := by nofun
theorem eJ:ae di "_law_wishes" := by nofun
theorem jV:ae di "_law_more" := by nofun
theorem tS:ae cB "_law_script" := by nofun
theorem dC:fi cB "_law_box_here" := by nofun
theorem dA:fi cB "_law_day_here" := by nofun
theorem dL:ae cB "_law_books" := by nofun
theorem lf:ae cB "_law_book" := by nofun
theorem sK:ae cB "_law_at" := by nofun
theorem pO:ae cB "_law_part" := by nofun
theorem oW:ae cB "_law_share" := by nofun
theorem vy:aj cB "_law_boxes" := by nofun
theorem xc:aj cB "_law_day" := by nofun
theorem lm:aj cB "_law_take" := by nofun
theorem sL:aj cB "_law_doubled" := by nofun
theorem wW:aj cB "range" := by nofun
theorem xi:aj cB "tuple" := by nofun
theorem yV:aj cB "zip" := by nofun
theorem xU:aj cB "_law_fr" := by nofun
theorem vB:aj cB "is_book" := by nofun
theorem vh:aj cB "_law_right" := by nofun
end K55
namespace L2
open PySem PySem.Spec PySem.Calls PyProof.Rows
def topRunT (tb:String→Option Builtin) (p:Program) (w:World) (n₀:Nat) (ann:Option Value):Nat→PySem.W.SharedT→Thread→Option PySem.W.SharedT
 | 0,_,_=>none
 | n+1,s,t=>match PySem.W.through t with
  | true=>some s
  | false=>match PySem.W.stepOk n₀ ann t with
   | false=>none
   | true=>match PySem.W.stepT (denote tb) p w s t with
    | some (s',t')=>topRunT tb p w n₀ ann n s' t'
    | none=>none
theorem uZ {tb:String→Option Builtin}{p:Program}{w:World}{n₀:Nat}{ann:Option Value}:∀{n:Nat}{s s':PySem.W.SharedT}{t:Thread},topRunT tb p w n₀ ann n s t=some s'→PySem.W.topRun tb p w n₀ ann n s.abs t=some s'.abs
 | 0,_,_,_,h=>by cases h
 | n+1,s,s',t,h=>by
  unfold topRunT at h
  unfold PySem.W.topRun
  cases he:PySem.W.through t with
  | true=>rw [he] at h;cases h;rfl
  | false=>
   rw [he] at h
   cases hk:PySem.W.stepOk n₀ ann t with
   | false=>rw [hk] at h;cases h
   | true=>
    rw [hk] at h
    cases hs:PySem.W.stepT (denote tb) p w s t with
    | none=>rw [hs] at h;cases h
    | some r=>obtain ⟨s₂,t₂⟩:=r;rw [hs] at h;rw [PySem.W.stepT_spec hs];exact uZ h
open PySem.W in
noncomputable def FQ (P:Params):BT:=.node (boot_o_0 P) (.node (boot_o_1 P) (.node (boot_o_3 P) (.node (boot_o_7 P) .nil .nil) .nil) (.node (boot_o_5 P) (.node (boot_o_9 P) .nil .nil) .nil)) (.node (boot_o_2 P) (.node (boot_o_4 P) (.node (boot_o_8 P) .nil .nil) .nil) (.node (boot_o_6 P) (.node (boot_o_10 P) .nil .nil) .nil))
noncomputable def bootS (w:World) (os:OsState):PySem.W.SharedT:=⟨FQ w.params,11,{},#[],PySem.W.boot_drawn,PySem.W.boot_toks,os⟩
theorem yL (w:World):((PySem.W.boot_heap w.params).isNs mainGlobals,(PySem.W.boot_heap w.params).objs.size,(PySem.W.boot_heap w.params).nsMap mainGlobals "__annotations__")=(true,11,some (.ref 6)):=by kernel_rfl
noncomputable def looks {α:Type} (p q:Program) (Xt:Shared→Bool) (Yf:Shared→α) (w:World) (s:Shared):=
 (PySem.W.staticsOk (importedModules p.main.body) (PySem.W.boot_heap w.params) s.heap && PySem.W.namesBound p s.heap && PySem.W.gensDone s && PySem.W.laidKept (PySem.W.boot_heap w.params) s.heap,PySem.W.openSeen q [] (importedModules p.main.body) Xt true s,Yf s)
theorem left_tree {p q:Program}{Xt:Shared→Bool}{α:Type}{Yf:Shared→α}{Ya:α}{N:Nat}
 (e:PySem.W.opening p=PySem.W.plainProg p.main.scope.names) (hN:Nat.ble 600 N=true) (f:∀s,PySem.fenceModules? p s=some s)
 (run:∀(w:World) (os:OsState),(topRunT treeTable p w 11 (some (.ref 6)) N (bootS w os) (PySem.W.topStub p)).map (fun s=>looks p q Xt Yf w s.abs)=some (true,PySem.W.openGood q [],Ya)) :
 PySem.W.LeftO p q [] Xt Yf (fun _=>Ya) N:=fun w=>by
 obtain ⟨⟨h,gs,d,k,os⟩,ef,ev⟩:=Option.map_eq_some_iff.mp (PySem.W.boot_open e hN f w)
 obtain ⟨rfl,rfl,rfl,rfl⟩:h=PySem.W.boot_heap w.params∧gs=#[]∧d=PySem.W.boot_drawn∧k=PySem.W.boot_toks:=by simpa using ev
 obtain ⟨st,er,el⟩:=Option.map_eq_some_iff.mp (run w os)
 have r:=uZ er
 have e0:(bootS w os).abs=⟨PySem.W.boot_heap w.params,#[],PySem.W.boot_drawn,PySem.W.boot_toks,os⟩:=rfl
 rw [e0] at r
 obtain ⟨z1,z2,z3⟩:_∧_∧_:=by simpa only [Prod.mk.injEq] using yL w
 obtain ⟨l1,l2,l3⟩:_∧_∧_:=by simpa only [looks,Prod.mk.injEq] using el
 have t:PySem.W.topFrom treeTable p w N ⟨PySem.W.boot_heap w.params,#[],PySem.W.boot_drawn,PySem.W.boot_toks,os⟩=some st.abs:=by
  unfold PySem.W.topFrom
  dsimp only
  rw [z1,z2,z3,r]
  show (match PySem.W.staticsOk (importedModules p.main.body) (PySem.W.boot_heap w.params) st.abs.heap && PySem.W.namesBound p st.abs.heap && PySem.W.gensDone st.abs && PySem.W.laidKept (PySem.W.boot_heap w.params) st.abs.heap with | true=>_ | false=>_)=_
  rw [l1]
 unfold PySem.W.openEnds
 rw [ef]
 show (PySem.W.topFrom treeTable p w N _).map _=_
 rw [t]
 exact congrArg some (Prod.ext l2 l3)
theorem left_of2 {α β:Type}{f f':World→β→α}{g g':α} (ef:f=f') (eg:g=g') (h:∀w os,f' w os=g') (w:World) (os:β):f w os=g:=by
 rw [ef,eg];exact h w os
end L2
namespace K55
open PySem L2
def qv:Program:=PySem.W.view PySem.Challenge.pw_gainroads_k55_sums_of_hours [1,2,3,4,5,6,7,8,9,10,12,14,15,17,18,19,20,21,22,23,24,25,26,27,29,30,31,32,33,34,35,36,37,38,39,40,41,42,43,44,45,46,47,48]
def obs (K:PySem.W.Frag):List (Option FuncData)×List Bool:=([fG K "is_number",
 fG K "common_divisor",
 fG K "is_fraction",
 fG K "is_from_nought",
 fG K "fraction",
 fG K "added",
 fG K "taken",
 fG K "times",
 fG K "compared",
 fG K "sum_of",
 fG K "goes_within",
 fG K "is_tuple_of",
 fG K "are_within",
 fG K "may_send",
 fG K "tie_mosts",
 fG K "store_mosts",
 fG K "are_hourly",
 fG K "is_book",
 fG K "comes_at",
 fG K "goes_at",
 fG K "wished_in",
 fG K "hour_sum",
 fG K "adds_up",
 fG K "day_price",
 fG K "_law_box",
 fG K "_law_take",
 fG K "_law_boxes",
 fG K "_law_fr",
 fG K "_law_plus",
 fG K "_law_by",
 fG K "_law_names",
 fG K "_law_gain",
 fG K "_law_much",
 fG K "_law_cost",
 fG K "_law_day",
 fG K "_law_day_tie",
 fG K "_law_may",
 fG K "_law_sums",
 fG K "_law_price",
 fG K "_law_any_book",
 fG K "_law_halves",
 fG K "_law_right",
 fG K "_law_doubled",
 fG K "law"],
 [oG K "abs",
 oG K "all",
 oG K "bool",
 oG K "divmod",
 oG K "enumerate",
 oG K "int",
 oG K "isinstance",
 oG K "len",
 oG K "list",
 oG K "max",
 oG K "min",
 oG K "range",
 oG K "repr",
 oG K "tuple",
 oG K "zip"])
def due:List (Option FuncData)×List Bool:=([dG "is_number" "is_number" dU,
 dG "common_divisor" "common_divisor" ig,
 dG "is_fraction" "is_fraction" bK,
 dG "is_from_nought" "is_from_nought" dE,
 dG "fraction" "fraction" eN,
 dG "added" "added" kS,
 dG "taken" "taken" kQ,
 dG "times" "times" kT,
 dG "compared" "compared" eU,
 dG "sum_of" "sum_of" iD,
 dG "goes_within" "goes_within" db,
 dG "is_tuple_of" "is_tuple_of" cA,
 dG "are_within" "are_within" b4,
 dG "may_send" "may_send" gF,
 dG "tie_mosts" "tie_mosts" gX,
 dG "store_mosts" "store_mosts" eY,
 dG "are_hourly" "are_hourly" b8,
 dG "is_book" "is_book" cU,
 dG "comes_at" "comes_at" aO,
 dG "goes_at" "goes_at" cV,
 dG "wished_in" "wished_in" gY,
 dG "hour_sum" "hour_sum" bN,
 dG "adds_up" "adds_up" dP,
 dG "day_price" "day_price" b9,
 dG "_law_box" "_law_box" ul,
 dG "_law_take" "_law_take" rY,
 dG "_law_boxes" "_law_boxes" cu,
 dG "_law_fr" "_law_fr" iT,
 dG "_law_plus" "_law_plus" ii,
 dG "_law_by" "_law_by" nI,
 dG "_law_names" "_law_names" cq,
 dG "_law_gain" "_law_gain" fS,
 dG "_law_much" "_law_much" iw,
 dG "_law_cost" "_law_cost" gr,
 dG "_law_day" "_law_day" aV,
 dG "_law_day_tie" "_law_day_tie" aR,
 dG "_law_may" "_law_may" kR,
 dG "_law_sums" "_law_sums" aZ,
 dG "_law_price" "_law_price" cp,
 dG "_law_any_book" "_law_any_book" b6,
 dG "_law_halves" "_law_halves" cO,
 dG "_law_right" "_law_right" bu,
 dG "_law_doubled" "_law_doubled" di,
 dG "law" "law" cB],List.replicate 15 true)
end K55
def L2.Xt (s:PySem.Shared):Bool:=PySem.W.xlAt K55.qv [] s && PySem.W.recOk [] s
def L2.Yf (s:PySem.Shared):=K55.obs (L2.fragOf s.heap)
noncomputable def L2.lhs (w:PySem.World) (os:PySem.OsState):=(L2.topRunT PySem.treeTable PySem.Challenge.pw_gainroads_k55_sums_of_hours w 11 (some (.ref 6)) 2816 (L2.bootS w os) (PySem.W.topStub PySem.Challenge.pw_gainroads_k55_sums_of_hours)).map fun s=>L2.looks PySem.Challenge.pw_gainroads_k55_sums_of_hours K55.qv L2.Xt L2.Yf w s.abs
noncomputable def L2.rhs:=some (true,PySem.W.openGood K55.qv [],K55.due)
theorem L2.lhs0:L2.lhs=L2.lhs:=rfl
theorem L2.rhs0:L2.rhs=L2.rhs:=rfl
name_quick lhsQ for L2.lhs by L2.lhs0
name_quick rhsQ for L2.rhs by L2.rhs0
theorem L2.left:∀w os,L2.lhs w os=L2.rhs:=L2.left_of2 PySem.W.Fast.lhsQ_eq PySem.W.Fast.rhsQ_eq (fun w os=>by kernel_rfl)
namespace K55
open PySem L2
section
variable {P:Program}{w:World}{K:PySem.W.Frag}{mg:Str→Option Value}{base:Heap}
inductive C8 (vs:List V) (H:Hp) (Q:VK):Prop
 | mk (n d:Int) (h0:vs=[.int n,.int d]) (h1:Q (.int (Int.gcd n d:Nat)) H)
def Fo:Sp:=fun vs H Q _=>C8  vs H Q
theorem kC (T:Txt K mg):aY P w K mg base CX0 1 T.common_divisor_.f T.common_divisor_.d ["n", "d"] Fo:=by
 refine T.common_divisor_.F.ok kE (fun vs H Q E h=>?_) (fun cdv A outer s H vs Q E hr h=>?_)
 ·obtain ⟨n,d,rfl,_⟩:=h
  rfl
 ·obtain ⟨n,d,rfl,k⟩:=h
  refine ⟨_,(fR (vW PassesOwn.never (aF md (pv 1) bF (pP _)) (ac (ja (i:=0) (j:=1) rfl kE.nd rfl rfl (by decide) rfl rfl (dm (pv 1) (dm (ak BW (pv 0) (pv 1)) dc)) rfl)))
   (ac (aB (jz lE (by rfl) T.b_abs i8 (dm (pv 0) dc))))),?_⟩
  refine ⟨fun m σ H'=>∃a b:Int,σ=[some (.int a),some (.int b)]∧H'=H∧Int.gcd a b=Int.gcd n d∧m=b.natAbs,⟨_,n,d,rfl,rfl,rfl,rfl⟩,?_⟩
  rintro m σ H' ⟨a,b,rfl,rfl,hg,rfl⟩
  refine ⟨(),rfl,(),?_⟩
  by_cases hb:b=0
  ·subst hb
   refine ce ?_
   refine ⟨(),(),?_⟩
   rw [←KM.gcd_zero_abs,hg]
   exact k
  ·have e:(!decide (V.int b=V.int 0))=true:=by
    rw [decide_eq_false (fun z=>hb (by injection z))];rfl
   rw [e]
   refine fg ⟨fun σ' H''=>∃a' b':Int,σ'=[some (.int a'),some (.int b')]∧H''=H'∧Int.gcd a' b'=Int.gcd n d∧b'.natAbs<b.natAbs,?_,?_⟩
   ·rintro σ' H'' ⟨a',b',rfl,rfl,h1,h2⟩
    exact ⟨_,h2,a',b',rfl,rfl,h1,rfl⟩
   ·refine ⟨(),(),(),_,(),rfl,hb,_,(),?_⟩
    exact ⟨b,a.fmod b,rfl,rfl,(KM.gcd_fmod a b).trans hg,KM.fmod_natAbs_lt a b hb⟩
end
end K55
namespace K55
open PySem L2
section
variable {P:Program}{w:World}{K:PySem.W.Frag}{mg:Str→Option Value}{base:Heap}
theorem mP (T:Txt K mg):aY P w K mg base CX0 2 T.fraction_.f T.fraction_.d ["n", "d"] EO:=by
 have G_common_divisor:=#[(kC)]
 refine T.fraction_.F.ok mR (fun vs H Q E h=>?_) (fun cdv A outer s H vs Q E hr h=>?_)
 ·obtain ⟨n,d,rfl,_⟩:=h
  rfl
 ·obtain ⟨n,d,rfl,hd,hs,k⟩:=h
  refine ⟨_,#[#[2,mR.nd,cQ,#[G_common_divisor,kL,T.common_divisor_,#[[#[0,pF],#[1,li]]]]] :: #[#[bH 8 #[aF 8 (@gy _) #[1,li] #[()] #[(),()]] #[ac 3 #[2,mR.nd,cQ,#[oh 6 (@lX _) #[2,cQ]]]] (@bc _)] :: #[ac 3 #[aB 4 #[aD 5 #[[#[ak 8 (@vV _) #[0,pF] #[2,cQ]],#[ak 8 (@vV _) #[1,li] #[2,cQ]]]]]]]]],?_⟩
  refine ⟨(),(),n,d,rfl,(),_,(),rfl,(),?_⟩
  have g0:=KM.gcd_pos (n:=n) hd
  have gs:=Hs (n:=n) hd hs
  have kl:=KM.fdiv_low (n:=n) hd
  by_cases h0:d<0
  ·rw [decide_eq_true h0]
   rw [if_pos h0] at kl
   have c1:∀x,yF x (-((Int.gcd n d:Nat):Int)):=fun x=>⟨by trivial,gs.neg⟩
   refine fg ⟨(),(),(),(),_,(),rfl,c1 n,(),(),_,(),rfl,c1 d,(by show 2≤10000;decide),fun p H1 nw=>?_⟩
   have q:=k p H1
   rw [←kl] at q
   exact q nw
  ·rw [decide_eq_false h0]
   rw [if_neg h0] at kl
   have c1:∀x,yF x ((Int.gcd n d:Nat):Int):=fun x=>⟨by trivial,gs⟩
   refine ce ⟨(),(),_,(),rfl,c1 n,(),(),_,(),rfl,c1 d,(by show 2≤10000;decide),fun p H1 nw=>?_⟩
   have q:=k p H1
   rw [←kl] at q
   exact q nw
theorem Ad (T:Txt K mg):aY P w K mg base CX0 3 T.added_.f T.added_.d ["one", "other"] (wV GI As):=by
 have G_fraction:=#[(mP)]
 refine T.added_.F.ok zZ (fun vs H Q E h=>?_) (fun cdv A outer s H vs Q E hr h=>?_)
 ·obtain ⟨a,b,n1,d1,n2,d2,rfl,_⟩:=h
  rfl
 ·obtain ⟨a,b,n1,d1,n2,d2,rfl,ha,hb,⟨z1,z2,z3,z4,hd⟩,k⟩:=h
  refine ⟨_,#[ac 3 #[aB 4 #[G_fraction,rM,T.fraction_,#[[#[ak 8 (@bi _) #[ak 8 (@cz _) #[#[0,mL][#[()]]] #[#[1,kq][#[()]]]] #[ak 8 (@cz _) #[#[1,kq][#[()]]] #[#[0,mL][#[()]]]]],#[ak 8 (@cz _) #[#[0,mL][#[()]]] #[#[1,kq][#[()]]]]]]]]],?_⟩
  exact ⟨(),a,_,_,(),rfl,aa.of ha,rfl,(),b,_,_,(),rfl,aa.of hb,rfl,_,(),rfl,gN z1 z4,(),b,_,_,(),rfl,aa.of hb,rfl,(),a,_,_,(),rfl,aa.of ha,rfl,_,(),rfl,gN z3 z2,_,(),rfl,
   _,rfl,a,_,_,_,rfl,rfl,aa.of ha,rfl,_,rfl,b,_,_,_,rfl,rfl,aa.of hb,rfl,_,_,rfl,rfl,gN z2 z4,_,_,rfl,hd,sW z2 z4,k⟩
theorem Ao (T:Txt K mg):aY P w K mg base CX0 3 T.taken_.f T.taken_.d ["one", "other"] (wV GD As):=by
 have G_fraction:=#[(mP)]
 refine T.taken_.F.ok AQ (fun vs H Q E h=>?_) (fun cdv A outer s H vs Q E hr h=>?_)
 ·obtain ⟨a,b,n1,d1,n2,d2,rfl,_⟩:=h
  rfl
 ·obtain ⟨a,b,n1,d1,n2,d2,rfl,ha,hb,⟨z1,z2,z3,z4,hd⟩,k⟩:=h
  refine ⟨_,#[ac 3 #[aB 4 #[G_fraction,sf,T.fraction_,#[[#[ak 8 (@pD _) #[ak 8 (@cz _) #[#[0,mQ][#[()]]] #[#[1,ku][#[()]]]] #[ak 8 (@cz _) #[#[1,ku][#[()]]] #[#[0,mQ][#[()]]]]],#[ak 8 (@cz _) #[#[0,mQ][#[()]]] #[#[1,ku][#[()]]]]]]]]],?_⟩
  exact ⟨(),a,_,_,(),rfl,aa.of ha,rfl,(),b,_,_,(),rfl,aa.of hb,rfl,_,(),rfl,gN z1 z4,(),b,_,_,(),rfl,aa.of hb,rfl,(),a,_,_,(),rfl,aa.of ha,rfl,_,(),rfl,gN z3 z2,_,(),rfl,
   _,rfl,a,_,_,_,rfl,rfl,aa.of ha,rfl,_,rfl,b,_,_,_,rfl,rfl,aa.of hb,rfl,_,_,rfl,rfl,gN z2 z4,_,_,rfl,hd,sW z2 z4,k⟩
theorem rX (T:Txt K mg):aY P w K mg base CX0 3 T.times_.f T.times_.d ["one", "other"] (wV Ht As):=by
 have G_fraction:=#[(mP)]
 refine T.times_.F.ok AN (fun vs H Q E h=>?_) (fun cdv A outer s H vs Q E hr h=>?_)
 ·obtain ⟨a,b,n1,d1,n2,d2,rfl,_⟩:=h
  rfl
 ·obtain ⟨a,b,n1,d1,n2,d2,rfl,ha,hb,⟨z1,z2,z3,z4,hd⟩,k⟩:=h
  refine ⟨_,#[ac 3 #[aB 4 #[G_fraction,rO,T.fraction_,#[[#[ak 8 (@cz _) #[#[0,rC][#[()]]] #[#[1,oU][#[()]]]],#[ak 8 (@cz _) #[#[0,rC][#[()]]] #[#[1,oU][#[()]]]]]]]]],?_⟩
  exact ⟨(),a,_,_,(),rfl,aa.of ha,rfl,(),b,_,_,(),rfl,aa.of hb,rfl,_,(),rfl,gN z1 z3,
   _,rfl,a,_,_,_,rfl,rfl,aa.of ha,rfl,_,rfl,b,_,_,_,rfl,rfl,aa.of hb,rfl,_,_,rfl,rfl,gN z2 z4,_,_,rfl,hd,sW z2 z4,k⟩
theorem rA (T:Txt K mg):aY P w K mg base CX0 1 T.compared_.f T.compared_.d ["one", "other"] Fk:=by
 refine T.compared_.F.ok mK (fun vs H Q E h=>?_) (fun cdv A outer s H vs Q E hr h=>?_)
 ·obtain ⟨a,b,n1,d1,n2,d2,rfl,_⟩:=h
  rfl
 ·obtain ⟨a,b,n1,d1,n2,d2,rfl,ha,hb,z1,z2,z3,z4,k⟩:=h
  refine ⟨_,#[#[2,mK.nd,i5,#[ak 8 (@cz _) #[#[0,nO][#[()]]] #[#[1,lc][#[()]]]]] :: #[#[3,mK.nd,io,#[ak 8 (@cz _) #[#[1,lc][#[()]]] #[#[0,nO][#[()]]]]] :: #[#[bH 8 #[aF 8 (@gy _) #[2,i5] #[3,io] #[(),()]] #[ac 3 #[aB 4 #[oh 6 (@lX _) #[()]]]] (@bc _)] :: #[#[bH 8 #[aF 8 (@oJ _) #[2,i5] #[3,io] #[(),()]] #[ac 3 #[aB 4 #[()]]] (@bc _)] :: #[ac 3 #[aB 4 #[()]]]]]]],?_⟩
  refine ⟨(),a,_,_,(),rfl,aa.of ha,rfl,(),b,_,_,(),rfl,aa.of hb,rfl,_,(),rfl,gN z1 z4,(),b,_,_,(),rfl,aa.of hb,rfl,(),a,_,_,(),rfl,aa.of ha,rfl,_,(),rfl,gN z3 z2,
   _,rfl,_,rfl,_,_,rfl,rfl,_,rfl,?_⟩
  unfold rP at k
  by_cases h1:n1*d2<n2*d1
  ·rw [decide_eq_true h1]
   rw [if_pos h1] at k
   exact fg ⟨(),k⟩
  ·rw [decide_eq_false h1]
   rw [if_neg h1] at k
   refine ce ⟨(),(),_,(),rfl,(),?_⟩
   by_cases h2:n2*d1<n1*d2
   ·rw [decide_eq_true h2]
    rw [if_pos h2] at k
    exact fg k
   ·rw [decide_eq_false h2]
    rw [if_neg h2] at k
    exact ce k
end
end K55
namespace K55
open PySem L2
set_option maxHeartbeats 8000000
theorem Fb.tim' {b c e:Nat}{n1 d1 n2 d2:Int} (h1:Fb b n1 d1) (h2:Fb c n2 d2) (hc:b+c≤e):Fb e (KM.low (n1*n2) (d1*d2)).1 (KM.low (n1*n2) (d1*d2)).2:=
 .low ((h1.sn.mul h2.sn).mono hc) ((h1.sd.mul h2.sd).mono hc) (Int.mul_ne_zero (by have:=h1.pos;trivial) (by have:=h2.pos;trivial))
theorem Fb.tak' {b c e:Nat}{n1 d1 n2 d2:Int} (h1:Fb b n1 d1) (h2:Fb c n2 d2) (hc:b+c+1≤e):Fb e (KM.low (n1*d2 - n2*d1) (d1*d2)).1 (KM.low (n1*d2 - n2*d1) (d1*d2)).2:=
 .low (((h1.sn.mul h2.sd).sub ((h2.sn.mul h1.sd).mono (by trivial))).mono (by trivial)) ((h1.sd.mul h2.sd).mono (by trivial)) (Int.mul_ne_zero (by have:=h1.pos;trivial) (by have:=h2.pos;trivial))
theorem FL.snoc {c:Nat}{H:Hp}{o:Addr}{p:KM.Fra} (h:H o=some (fr p)) (f:Fb c p.1 p.2):∀{xs:List V}{ps:List KM.Fra},FL c H xs ps→FL c H (xs++[.ref o]) (ps++[p])
 | _,_,.nil=>.cons h f .nil
 | _,_,.cons h' f' r=>.cons h' f' (FL.snoc h f r)
theorem FL.at {c:Nat}{H:Hp}:∀{xs:List V}{ps:List KM.Fra}{i:Nat},FL c H xs ps→i<xs.length→bE fun o p=>xs[i]?=some (.ref o)∧ps[i]?=some p∧H o=some (fr p)∧Fb c p.1 p.2
 | _,_,_,.nil,h=>by simp at h
 | _,_,0,.cons h f r,_=>⟨_,_,rfl,rfl,h,f⟩
 | _,_,i+1,.cons h f r,hi=>by
  obtain ⟨o,p,a,b,c,d⟩:=FL.at (i:=i) r (by simpa using hi)
  exact ⟨o,p,by simpa using a,by simpa using b,c,d⟩
theorem HC {c:Nat}{p:KM.Fra} (h:Fb c p.1 p.2):KM.Rd p:=⟨h.pos,h.co⟩
section
variable {P:Program}{w:World}{K:PySem.W.Frag}{mg:Str→Option Value}{base:Heap}
inductive CS (K:PySem.W.Frag) (vs:List V) (H:Hp) (Q:VK):Prop
 | mk (a:Addr) (xs:List V) (ps:List KM.Fra) (c m:Nat) (h0:vs=[.ref a]) (h1:ah K H a xs) (h2:FL c H xs ps) (h3:(c+1)*xs.length+1≤m) (h4:c≤4000) (h5:m≤4000) (h6:∀o H',ad H H'→H' o=some (fr (KM.sumF ps))→Fb m (KM.sumF ps).1 (KM.sumF ps).2→Q (.ref o) H')
def Eg (K:PySem.W.Frag):Sp:=fun vs H Q _=>CS K vs H Q
theorem qL (T:Txt K mg):aY P w K mg base CX0 4 T.sum_of_.f T.sum_of_.d ["parts"] (Eg K):=by
 have G_added:=#[(Ad)]
 refine T.sum_of_.F.ok mE (fun vs H Q E h=>?_) (fun cdv A outer s H vs Q E hr h=>?_)
 ·obtain ⟨a,xs,ps,c,m,rfl,_⟩:=h
  rfl
 ·obtain ⟨a,xs,ps,c,m,rfl,hS,hF,hm,hc,hm4,k⟩:=h
  refine ⟨_,#[#[1,mE.nd,gG,#[aD 5 #[[#[()],#[()]]]]] :: #[#[bL 8 PassesOwn.never rfl (@jR _ (K) _ _ _ #[0,tW] (by rfl)) #[2,mE.nd,pc] #[ac 3 #[1,mE.nd,gG,#[G_added,uo,T.added_,#[[#[1,gG],#[2,pc]]]]]] (by intro _;rfl)] :: #[ac 3 #[aB 4 #[1,gG]]]]],?_⟩
  refine ⟨(by show 2≤10000;decide),fun o0 H1 n1=>?_⟩
  refine ⟨(),a,rfl,⟨_,n1.sm.seq hS⟩,oA (xs:=xs) (fun i σ H'=>bE fun (o:Addr) (v2:Option V)=>σ=[some (.ref a),some (.ref o),v2]∧ad H H'∧H' o=some (fr (KM.sumF (ps.take i)))∧Fb ((c+1)*i+1) (KM.sumF (ps.take i)).1 (KM.sumF (ps.take i)).2) ⟨o0,(),n1.sm,n1.at',by rw [Nat.mul_zero];exact xT⟩ ?_ ?_ ?_⟩
  ·rintro i σ H' _ ⟨_,_,_,s,_⟩
   exact s.seq hS
  ·rintro i x σ H' hx ⟨o,v2,rfl,s,ho,hb⟩
   obtain ⟨ox,p,rfl,hp,hpx,fp⟩:=hF.get hx
   have hi:i<xs.length:=(List.getElem?_eq_some_iff.mp hx).1
   have e1:(c+1)*(i+1)=(c+1)*i+(c+1):=Nat.mul_succ _ _
   have e2:=Nat.mul_le_mul_left (c+1) (show i+1≤xs.length by trivial)
   refine ⟨(),(),o,ox,_,_,_,(),ho,s _ _ hpx,uH hb fp (by trivial) hc,fun o2 H2 n2=>⟨o2,(),s.trans n2.sm,?_,?_⟩⟩
   ·rw [Bj hp,ij]
    exact n2.at'
   ·rw [Bj hp,ij]
    exact Fb.add' hb fp (by trivial)
  ·rintro σ H' ⟨o,v2,rfl,s,ho,hb⟩
   rw [hF.length,List.take_length] at ho hb
   rw [hF.length] at hm
   exact ⟨(),k o H' s ho (hb.mono hm)⟩
end
end K55
namespace K55
open PySem L2
set_option maxHeartbeats 8000000
theorem AR {α β:Type} (x:β) (l:List α):l.map (fun _=>x)=List.replicate l.length x:=by
 induction l with
 | nil=>rfl
 | cons a l ih=>rw [List.map_cons,ih];rfl
theorem uV (n:Nat):((List.range n).map fun _=>V.bl true)=(List.replicate n true).map V.bl:=by
 rw [AR,List.length_range,List.map_replicate]
section
variable {P:Program}{w:World}{K:PySem.W.Frag}{mg:Str→Option Value}{base:Heap}
inductive CN (vs:List V) (H:Hp) (Q:VK):Prop
 | mk (i:Int) (h0:vs=[.int i]) (h1:Q (.bl true) H)
def DU:Sp:=fun vs H Q _=>CN  vs H Q
theorem wv (T:Txt K mg):aY P w K mg base CX0 1 T.is_number_.f T.is_number_.d ["thing"] DU:=by
 refine T.is_number_.F.ok wo (fun vs H Q E h=>?_) (fun cdv A outer s H vs Q E hr h=>?_)
 ·obtain ⟨i,rfl,_⟩:=h
  rfl
 ·obtain ⟨i,rfl,k⟩:=h
  refine ⟨_,#[ac 3 #[aB 4 #[j6 7 #[(),(),(@iC _ (K) (by rfl)),gR,T.b_isinstance,(@bW),#[[#[0,kH],#[oE 4 sZ T.b_int (@dY) (by decide) (by decide)]]]] #[km 5 #[Ey 4 #[(),(),(@iC _ (K) (by rfl)),gR,T.b_isinstance,(@bW),#[[#[0,kH],#[oE 4 rL T.b_bool (@wD) (by decide) (by decide)]]]]]]]]],?_⟩
  have hx:aJ ED H (.int i) (.int i):=.int i
  exact ⟨(),_,_,_,(),hx.ty,B0 (.int i),(),fg ⟨(),_,_,_,(),hx.ty,AY (.int i),(),k⟩⟩
inductive DM (vs:List V) (H:Hp) (Q:VK):Prop
 | mk (o:Addr) (p:KM.Fra) (h0:vs=[.ref o]) (h1:H o=some (fr p)) (h2:KM.Rd p) (h3:Q (.bl true) H)
def Gm:Sp:=fun vs H Q _=>DM  vs H Q
theorem nG (T:Txt K mg):aY P w K mg base CX0 2 T.is_fraction_.f T.is_fraction_.d ["thing"] Gm:=by
 have G_is_number:=#[(wv)]
 have G_common_divisor:=#[(kC)]
 refine T.is_fraction_.F.ok jH (fun vs H Q E h=>?_) (fun cdv A outer s H vs Q E hr h=>?_)
 ·obtain ⟨o,p,rfl,_⟩:=h
  rfl
 ·obtain ⟨o,p,rfl,ho,rp,k⟩:=h
  refine ⟨_,#[#[bH 8 #[PW.pt 3 #[me 7 #[gj 4 #[dz 3 #[(),(),(@iC _ (K) (by rfl)),lM,T.b_isinstance,(@bW),#[[#[0,fB],#[oE 4 pj T.b_tuple (@cb) (by decide) (by decide)]]]] (by intro _;rfl)]] #[kh 4 #[aF 8 (@md _) #[(),(),(@jL _ (K) (by rfl)),qV,T.b_len,(@cx),#[[#[0,fB]]]] #[()] #[(),()]]]]] #[ac 3 #[aB 4 #[gv 4]]] (@bc _)] :: #[#[cD 6 #[0,fB] (@aQ _ (K) _ _ _ _ (2) rfl #[af 5 #[1,jH.nd,iQ] #[af 5 #[2,jH.nd,fJ] (@aW _) (by rfl)] (by rfl)] (by rfl) (by rfl) (by rfl)) (by rfl) (by rfl) (by rfl)] :: #[#[bH 8 #[PW.pt 3 #[me 7 #[gj 4 #[dz 3 #[G_is_number,gI,T.is_number_,#[[#[1,iQ]]]] (by intro _;rfl)]] #[kh 4 #[gj 4 #[dz 3 #[G_is_number,gI,T.is_number_,#[[#[2,fJ]]]] (by intro _;rfl)]]]]] #[ac 3 #[aB 4 #[gv 4]]] (@bc _)] :: #[ac 3 #[aB 4 #[j6 7 #[bO 8 (@tH _) #[2,fJ] #[()] #[(),()]] #[km 5 #[bO 8 (@cw _) #[G_common_divisor,jx,T.common_divisor_,#[[#[1,iQ],#[2,fJ]]]] #[()] #[(),()]]]]]]]]],?_⟩
  have hx:aJ ED H (.ref o) (bJ p):=lZ ho
  refine aX fun DA nA=>⟨(),_,_,_,(),hx.ty,uG (bJ p),(),ce ⟨(),o,(),.inr (aa.of ho),rfl,(),ce (nA _ _ ?_)⟩⟩
  refine aX fun DB nB=>⟨(),o,(),aa.of ho,rfl,_,(),_,(),rfl,nB _ _ ?_⟩
  refine aX fun DC nC=>⟨(),(),(),ce ⟨(),(),(),ce (nC _ _ ?_)⟩⟩
  refine ⟨(),_,(),rfl,(),?_⟩
  rw [decide_eq_true (show p.2≥1 from rp.1)]
  refine fg ⟨(),(),p.1,p.2,rfl,rfl,?_⟩
  rw [show Int.gcd p.1 p.2=1 from rp.2]
  exact k
inductive Du (vs:List V) (H:Hp) (Q:VK):Prop
 | mk (o:Addr) (p:KM.Fra) (h0:vs=[.ref o]) (h1:H o=some (fr p)) (h2:KM.Rd p) (h3:0≤p.1) (h4:Q (.bl true) H)
def Fx:Sp:=fun vs H Q _=>Du  vs H Q
theorem qM (T:Txt K mg):aY P w K mg base CX0 3 T.is_from_nought_.f T.is_from_nought_.d ["thing"] Fx:=by
 have G_is_fraction:=#[(nG)]
 refine T.is_from_nought_.F.ok qR (fun vs H Q E h=>?_) (fun cdv A outer s H vs Q E hr h=>?_)
 ·obtain ⟨o,p,rfl,_⟩:=h
  rfl
 ·obtain ⟨o,p,rfl,ho,rp,h0,k⟩:=h
  refine ⟨_,#[ac 3 #[aB 4 #[j6 7 #[G_is_fraction,jF,T.is_fraction_,#[[#[0,gW]]]] #[km 5 #[bO 8 (@tH _) #[#[0,gW][#[()]]] #[()] #[(),()]]]]]],?_⟩
  refine ⟨(),o,p,rfl,ho,rp,(),fg ⟨(),o,_,_,(),rfl,aa.of ho,rfl,_,(),rfl,?_⟩⟩
  exact Eq.mp (congrArg (fun b=>Q (.bl b) H) (decide_eq_true (show p.1≥0 from h0)).symm) k
def Wi (p q:KM.Fra):Prop:=KM.Rd p∧0≤p.1∧p.1*q.2≤q.1*p.2∧Sz 4000 p.1∧Sz 4000 p.2∧Sz 4000 q.1∧Sz 4000 q.2
inductive Em (vs:List V) (H:Hp) (Q:VK):Prop
 | mk (o m:Addr) (p q:KM.Fra) (h0:vs=[.ref o,.ref m]) (h1:H o=some (fr p)) (h2:H m=some (fr q)) (h3:Wi p q) (h4:Q (.bl true) H)
def F5:Sp:=fun vs H Q _=>Em  vs H Q
theorem ur (T:Txt K mg):aY P w K mg base CX0 4 T.goes_within_.f T.goes_within_.d ["thing", "most"] F5:=by
 have G_is_from_nought:=#[(qM)]
 have G_compared:=#[(rA)]
 refine T.goes_within_.F.ok ut (fun vs H Q E h=>?_) (fun cdv A outer s H vs Q E hr h=>?_)
 ·obtain ⟨o,m,p,q,rfl,_⟩:=h
  rfl
 ·obtain ⟨o,m,p,q,rfl,ho,hm,⟨rp,h0,hl,s1,s2,s3,s4⟩,k⟩:=h
  refine ⟨_,#[ac 3 #[aB 4 #[j6 7 #[G_is_from_nought,jG,T.is_from_nought_,#[[#[0,jk]]]] #[km 5 #[bO 8 (@Bg _) #[G_compared,mM,T.compared_,#[[#[0,jk],#[1,pH]]]] #[()] #[(),()]]]]]],?_⟩
  refine ⟨(),o,p,rfl,ho,rp,h0,(),fg ⟨(),(),o,m,_,_,_,(),ho,hm,s1,s2,s3,s4,_,(),rfl,?_⟩⟩
  have e:decide (rP (p.1*q.2) (q.1*p.2)≤0)=true:=by
   refine decide_eq_true ?_
   unfold rP
   by_cases q1:p.1*q.2<q.1*p.2
   ·rw [if_pos q1];decide
   ·rw [if_neg q1,if_neg (by trivial)];decide
  exact Eq.mp (congrArg (fun b=>Q (.bl b) H) e.symm) k
inductive Gf (vs:List V) (H:Hp) (Q:VK):Prop
 | mk (o:Addr) (xs:List V) (n:Nat) (h0:vs=[.ref o,.int (n:Int)]) (h1:H o=some (.tup xs)) (h2:xs.length=n) (h3:Q (.bl true) H)
def GP:Sp:=fun vs H Q _=>Gf  vs H Q
theorem tO (T:Txt K mg):aY P w K mg base CX0 1 T.is_tuple_of_.f T.is_tuple_of_.d ["thing", "size"] GP:=by
 refine T.is_tuple_of_.F.ok uh (fun vs H Q E h=>?_) (fun cdv A outer s H vs Q E hr h=>?_)
 ·obtain ⟨o,xs,n,rfl,_⟩:=h
  rfl
 ·obtain ⟨o,xs,n,rfl,ho,rfl,k⟩:=h
  refine ⟨_,#[ac 3 #[aB 4 #[j6 7 #[(),(),(@iC _ (K) (by rfl)),lP,T.b_isinstance,(@bW),#[[#[0,js],#[oE 4 pA T.b_tuple (@cb) (by decide) (by decide)]]]] #[km 5 #[bO 8 (@cw _) #[(),(),(@jL _ (K) (by rfl)),re,T.b_len,(@cx),#[[#[0,js]]]] #[1,qf] #[(),()]]]]]],?_⟩
  refine ⟨(),_,_,_,(),.tup ho,uG (.tuple []),(),fg ⟨(),o,(),.inr (aa.of ho),(),rfl,?_⟩⟩
  exact Eq.mp (congrArg (fun b=>Q (.bl b) H) (decide_eq_true rfl).symm) k
def EL (H:Hp) (a:Addr) (ps:List KM.Fra):Prop:=∃xs,H a=some (.lst xs)∧FL 300 H xs ps
inductive FP (vs:List V) (H:Hp) (Q:VK):Prop
 | mk (a m:Addr) (ps qs:List KM.Fra) (h0:vs=[.ref a,.ref m]) (h1:EL H a ps) (h2:EL H m qs) (h3:ps.length=qs.length) (h4:ps.length≤100) (h5:(∀(i:Nat) p q,ps[i]?=some p→qs[i]?=some q→Wi p q)) (h6:∀H',ad H H'→Q (.bl true) H')
def GY:Sp:=fun vs H Q _=>FP  vs H Q
theorem pe (T:Txt K mg):aY P w K mg base CX0 5 T.are_within_.f T.are_within_.d ["thing", "mosts"] GY:=by
 have G_goes_within:=#[(ur)]
 refine T.are_within_.F.ok vC (fun vs H Q E h=>?_) (fun cdv A outer s H vs Q E hr h=>?_)
 ·obtain ⟨a,m,ps,qs,rfl,_⟩:=h
  rfl
 ·obtain ⟨a,m,ps,qs,rfl,⟨xs,ha,fx⟩,⟨ys,hm,fy⟩,le,l1,hw,k⟩:=h
  refine ⟨_,#[#[bH 8 #[PW.pt 3 #[me 7 #[gj 4 #[dz 3 #[(),(),(@iC _ (K) (by rfl)),l6,T.b_isinstance,(@bW),#[[#[0,fU],#[oE 4 qW T.b_list (@fW) (by decide) (by decide)]]]] (by intro _;rfl)]] #[kh 4 #[aF 8 (@md _) #[(),(),(@jL _ (K) (by rfl)),kX,T.b_len,(@cx),#[[#[0,fU]]]] #[(),(),(@jL _ (K) (by rfl)),kX,T.b_len,(@cx),#[[#[1,kg]]]] #[(),()]]]]] #[ac 3 #[aB 4 #[gv 4]]] (@bc _)] :: #[ac 3 #[aB 4 #[(),(),(@vK _ (K) rfl (by rfl)),rZ,T.b_all,(@kO),#[[#[bI 7 (["much", "most"]) (2) ([]) _ _ _ _ rfl (by kernel_rfl) (@bV _ (K) _ _ _ _ _ _ _ _ sj T.b_zip #[[#[0,fU],#[1,kg]]] (by rfl) (by rfl) (by rfl)) (fun _ _ _ _ _ _=>(@aQ _ (K) _ _ _ _ (2) rfl #[af 5 #[0,(),()] #[af 5 #[1,(),()] (@aW _) (by rfl)] (by rfl)] (by rfl) (by rfl) (by rfl))) (fun _ _ _ _ _ _=>@bd _) (fun _ _ _ _ _ _=>#[G_goes_within,(),T.goes_within_,#[[#[0,()],#[1,()]]]]) (by intro _;rfl)]]]]]]],?_⟩
  have lx:=fx.length
  have ly:=fy.length
  refine aX fun DA nA=>⟨(),_,_,_,(),.lst ha,nZ (.list []),(),ce ⟨(),a,(),.inl (ah.of ha),(),m,(),.inl (ah.of hm),rfl,(),?_⟩⟩
  rw [decide_eq_true (show V.int ((xs.length:Nat):Int)=V.int ((ys.length:Nat):Int) by congr 1;trivial)]
  refine ce (nA _ _ ?_)
  refine ⟨(),(),a,m,true,true,rfl,⟨_,ah.of ha⟩,⟨_,ah.of hm⟩,fun D hD=>uU (xs:=xs) (ys:=ys) (fun _=>.bl true) (by trivial) hD (fun H' sm=>ah.of (sm _ _ ha)) (fun H' sm=>ah.of (sm _ _ hm)) ?_ ?_⟩
  ·intro j x y G R ex ey sg kk
   obtain ⟨o1,p,rfl,ep,ho1,_⟩:=fx.get ex
   obtain ⟨o2,q,rfl,eq,ho2,_⟩:=fy.get ey
   exact ⟨kN,(),(),o1,o2,p,q,rfl,sg _ _ ho1,sg _ _ ho2,hw j p q ep eq,kk _ (ad.refl _)⟩
  intro G sg hG
  rw [uV] at hG
  refine ⟨D,(),ah.of hG,?_⟩
  rw [show (List.replicate (min xs.length ys.length) true).all id=true by simp]
  exact k _ sg
end
end K55
namespace K55
open PySem L2
section
variable {P:Program}{w:World}{K:PySem.W.Frag}{mg:Str→Option Value}{base:Heap}
theorem El (T:Txt K mg):aY P w K mg base CX0 1 T.l_box_.f T.l_box_.d ["_law_script", "_law_k"] (Gi K):=by
 refine T.l_box_.F.ok rE (fun vs H Q E h=>?_) (fun cdv A outer s H vs Q E hr h=>?_)
 ·obtain ⟨a,ms,k,rfl,_⟩:=h
  rfl
 ·obtain ⟨a,ms,k,rfl,hS,hk0,hk1,kk⟩:=h
  refine ⟨_,(fR (jT (i:=2) rE.nd rfl (Or.inl rfl) bF)
   (fR (bH (aF gy (pv 1) (jz qw (by rfl) T.b_len cx (dm (pv 0) dc)) (pP _)) (ac (jT (i:=2) rE.nd rfl (Or.inl rfl) (cM jf (pv 0) (pv 1) (fun _ _=>rfl)))) bc)
   (ac (aB (Et (dm (ak dR (jz lE (by rfl) T.b_abs i8 (dm (pv 2) dc)) (bQ iH (by rfl) T.b_int dY (dm (bO tH (jz lE (by rfl) T.b_abs i8 (dm (pv 2) dc)) (ak wf bF bF) (pP _)) dc))) (dm (ak iS (ak bi (pv 2) (ak dR (ak dR bF (pv 1)) (pv 1))) bF) (dm bF dc)))))))),?_⟩
  refine ⟨(),(),a,(),.inl hS,_,(),rfl,(),?_⟩
  refine bZ (fun h=>?_) (fun h=>?_)
  case' refine_1=>
   have hlt:k.toNat<ms.length:=by
    have h':=of_decide_eq_true h
    rw [List.length_map] at h'
    trivial
   refine ⟨(),(),.inl ⟨a,_,_,V.int ms[k.toNat],rfl,rfl,hS,?_,?_⟩⟩
   ·exact xr hk0 hlt
  all_goals
   refine ⟨(),(),(),(),_,(),rfl,⟨by decide,by decide,by decide⟩,_,(),rfl,.inr ⟨(),_,(),rfl,.inr ?_,(),(),_,(),rfl,.inr ⟨by trivial,by trivial⟩,(),_,(),rfl,.inr ⟨by trivial,by trivial⟩,_,(),rfl,_,(),rfl,?_,?_,fun p hp=>kk p _ hp (ad.new hp) ⟨_,_,au,?_,?_,?_⟩⟩⟩
   ·exact HH _
   ·show (0:Int)<2147483647;decide
   ·show 3≤sizeLine;decide
   ·exact FX _ (wu _)
   ·exact Int.emod_nonneg _ (by decide)
   ·exact Int.emod_lt_of_pos _ (by decide)
end
end K55
namespace K55
open PySem L2
section
variable {P:Program}{w:World}{K:PySem.W.Frag}{mg:Str→Option Value}{base:Heap}
theorem iK (T:Txt K mg):aY P w K mg base CX0 1 T.l_take_.f T.l_take_.d ["_law_box_here", "_law_many"] E2:=by
 refine T.l_take_.F.ok p6 (fun vs H Q E h=>?_) (fun cdv A outer s H vs Q E hr h=>?_)
 ·obtain ⟨b,many,t,rfl,_⟩:=h
  rfl
 ·obtain ⟨b,many,t,rfl,⟨c,x,hb,hc,hx0,hx1⟩,hm0,hm1,ht0,ht1,kk⟩:=h
  refine ⟨_,(fR (bH (aF oJ (cM jf (pv 0) bF (fun _ _=>rfl)) bF (pP _)) (fR (cD (jz wO (by rfl) T.b_divmod vz (dm (cM jf (pv 0) bF (fun _ _=>rfl)) (dm (pv 1) dc))) (zO rfl (af (iP (pv 0) bF rJ) (af (gC (i:=2) p6.nd rfl (Or.inl rfl)) aW))))
   (ac (aB (pv 2)))) bc)
   (fR (cD (ak bi (cM jf (pv 0) bF (fun _ _=>rfl)) bF) (iP (pv 0) bF rJ))
   (fR (jT (i:=3) p6.nd rfl (Or.inl rfl) (ak iS (ak wf (ak bi (cM jf (pv 0) bF (fun _ _=>rfl)) (ak dR bF (cM jf (pv 0) bF (fun _ _=>rfl)))) bF) bF))
   (ac (aB (ak iS (ak BC (ak iS (ak bi (ak dR (pv 3) bF) (ak dR (ak dR (cM jf (pv 0) bF (fun _ _=>rfl)) (cM jf (pv 0) bF (fun _ _=>rfl))) bF)) bF) bF) (pv 1))))))),?_⟩
  refine ⟨(),.inl ⟨b,_,_,(),rfl,ah.of hb,rfl,_,(),rfl,(),?_⟩⟩
  refine bZ (fun h=>?_) (fun h=>?_)
  ·refine ⟨(),.inl ⟨b,_,_,(),rfl,ah.of hb,rfl,(),_,(),⟨hm0,hm1⟩,fun p hp=>⟨p,(),aa.of au,rfl,_,(),(),b,[.int c,.int x,.int t],_,0,rfl,rfl,?_,rfl,_,(),rfl,(),?_⟩⟩⟩
   ·rw [ay (aN hb hp)];exact hb
   ·have hb':aG H p (.tup [.int (c / many),.int (c % many)]) b=some (.lst [.int c,.int x,.int t]):=by rw [ay (aN hb hp)];exact hb
    exact kk _ t _ (Int.emod_nonneg _ (Int.ne_of_gt hm0)) (Int.emod_lt_of_pos _ hm0) (Int.le_refl _) (by trivial) (u6 (ad.new hp) hb') ⟨_,_,au,Int.ediv_nonneg hc (Int.le_of_lt hm0),hx0,hx1⟩
  ·refine ⟨(),.inl ⟨b,_,_,(),rfl,ah.of hb,rfl,_,(),rfl,(),b,_,_,2,rfl,rfl,hb,rfl,?_⟩⟩
   refine ⟨(),.inl ⟨b,_,_,(),rfl,ah.of au,rfl,(),.inl ⟨b,_,_,(),rfl,ah.of au,rfl,_,(),rfl,.inl ⟨by decide,by decide⟩,_,(),rfl,_,(),rfl,⟨by decide,by decide,?_⟩,_,(),rfl,?_,?_⟩⟩⟩
   ·have:(x+39373*(t+1)).natAbs<2 ^ 64:=by trivial
    exact this
   ·show (0:Int)<2147483647;decide
   have ho0:0≤(x+39373*(t+1)) ^ (5:Int).toNat % 2147483647:=Int.emod_nonneg _ (by decide)
   have ho1:(x+39373*(t+1)) ^ (5:Int).toNat % 2147483647<2147483647:=Int.emod_lt_of_pos _ (by decide)
   generalize (x+39373*(t+1)) ^ (5:Int).toNat % 2147483647=on at ho0 ho1 ⊢
   refine ⟨(),_,(),rfl,.inr ⟨by decide,by decide⟩,(),.inl ⟨b,_,_,(),rfl,ah.of au,rfl,(),.inl ⟨b,_,_,(),rfl,ah.of au,rfl,_,(),rfl,.inl ⟨?_,?_⟩,_,(),rfl,.inr ⟨by decide,by decide⟩,_,(),rfl,_,(),rfl,?_,_,(),rfl,⟨by decide,by decide⟩,(),_,(),rfl,hm0,?_⟩⟩⟩
   ·show -(2 ^ 64)<t+1;trivial
   ·show t+1<2 ^ 64;trivial
   ·show (0:Int)<2147483629;decide
   ·exact kk _ (t+1) _ (Int.emod_nonneg _ (Int.ne_of_gt hm0)) (Int.emod_lt_of_pos _ hm0) (by trivial) (Int.le_refl _) (u6 (ad.refl H) hb) ⟨c,x,au,hc,hx0,hx1⟩
end
end K55
namespace K55
open PySem L2
section
variable {P:Program}{w:World}{K:PySem.W.Frag}{mg:Str→Option Value}{base:Heap}
theorem BO {n d:Int} (hd:d≠0) (h:d.natAbs.log2<9000):yh n ((Int.gcd n d:Nat):Int):=by
 have g0:=KM.gcd_pos (n:=n) hd
 refine ⟨by trivial,?_⟩
 have h1:Int.gcd n d≤d.natAbs:=Nat.le_of_dvd (by trivial) (by
  have:((Int.gcd n d:Nat):Int) ∣ d:=Int.gcd_dvd_right ..
  exact Int.ofNat_dvd_left.mp this)
 have h2:d.natAbs<2 ^ 9000:=(Nat.log2_lt (by trivial)).mp h
 rw [Int.natAbs_natCast]
 exact (Nat.log2_lt (by trivial)).mpr (Nat.lt_of_le_of_lt h1 h2)
end
end K55
namespace K55
open PySem L2
set_option maxHeartbeats 4000000
section
variable {P:Program}{w:World}{K:PySem.W.Frag}{mg:Str→Option Value}{base:Heap}
theorem wq (ns:List Int) (lo hi:Option Int):∃cs:List Int,gh (ns.map V.int) lo hi=cs.map V.int∧cs=(ns.drop (HT.sIx ns.length 0 lo)).take (HT.sIx ns.length ns.length hi - HT.sIx ns.length 0 lo):=by
 refine ⟨_,?_,rfl⟩
 unfold gh
 rw [List.length_map,List.map_take,List.map_drop]
inductive AJ (K:PySem.W.Frag) (vs:List V) (H:Hp) (Q:VK):Prop
 | mk (a:Addr) (ns:List Int) (h0:vs=[.ref a,.int 4]) (h1:ah K H a (ns.map V.int)) (h2:ns.length≤63) (h3:∀(l:Addr) (bs:List Addr) (H':Hp),ad H H'→H' l=some (.lst (bs.map V.ref))→bs.length≤4→bs.Nodup→(∀b∈bs,Bx H' b 0)→Q (.ref l) H')
def CK (K:PySem.W.Frag):Sp:=fun vs H Q _=>AJ K vs H Q
theorem Ay (T:Txt K mg):aY P w K mg base CX0 2 T.l_boxes_.f T.l_boxes_.d ["_law_script", "_law_cap"] (CK K):=by
 have G_l_box:=#[(El)]
 refine T.l_boxes_.F.ok kJ (fun vs H Q E h=>?_) (fun cdv A outer s H vs Q E hr h=>?_)
 ·obtain ⟨a,ns,rfl,_⟩:=h
  rfl
 ·obtain ⟨a,ns,rfl,hS,hn,kk⟩:=h
  refine ⟨_,#[#[jT 2 (2) _ _ _ _ kJ.nd rfl (Or.inr d5) #[bQ 9 (@oZ _ (K) (by rfl)) tV T.b_list (@fW) #[[#[cZ 10 (@oC _ (K) (by rfl)) #[0,jY] (@d9 _) #[dk 3 #[1,fI]]]]] (by decide) (by decide) (by rfl) (by rfl)] (by rfl) (by first | exact .inl rfl | exact .inr rfl | assumption)] :: #[#[bL 8 PassesOwn.never rfl #[BK 8 pB T.b_enumerate #[[#[cZ 10 (@oC _ (K) (by rfl)) #[0,jY] #[dk 3 #[1,fI]] #[dk 3 #[()]]]]] (by rfl)] (@aQ _ (K) _ _ _ _ (2) rfl #[af 5 #[3,kJ.nd,gZ] #[af 5 #[4,kJ.nd,kY] (@aW _) (by rfl)] (by rfl)] (by rfl) (by rfl) (by rfl)) #[ac 3 #[cD 6 #[ak 8 (@bi _) #[cM 7 (@Hn _ (K) (by rfl)) #[2,(d5)] #[ak 8 (@iS _) #[3,gZ] #[1,fI]] (fun _ _=>rfl)] #[ak 8 (@dR _) #[4,kY] #[ak 8 (@bi _) #[3,gZ] #[()]]]] #[iP 7 #[2,(d5)] #[ak 8 (@iS _) #[3,gZ] #[1,fI]] (@yW _) (by intro _;rfl)] (by rfl) (by rfl) (by rfl)]] (by intro _;rfl)] :: #[ac 3 #[aB 4 #[bI 7 (["_law_k", "_law_found"]) (1) ([2]) _ _ _ _ rfl (by kernel_rfl) #[bG 6 tq T.b_range #[[#[(),(),(@yX _ rfl),vk,T.b_max,(@yt),#[[#[()],#[(),(),(@jL _ (K) (by rfl)),vp,T.b_len,(@cx),#[[#[2,(d5)]]]]]]]]] (by rfl)] (fun _ _ _ _ _ _=>#[0,(),()]) (fun _ _ _ _ _ _=>@bd _) (fun _ _ _ _ _ _=>#[G_l_box,(),T.l_box_,#[[#[1,0],#[0,()]]]]) (by intro _;rfl)]]]]],?_⟩
  obtain ⟨c1,e1,q1⟩:=wq ns none (some 4)
  obtain ⟨c2,e2,q2⟩:=wq ns (some 4) (some 63)
  have l1m:c1.length=min 4 ns.length:=by
   rw [q1,show (4:Int)=((4:Nat):Int) from rfl,HT.sIx_nat,HT.sIx_none,List.length_take,List.length_drop]
   trivial
  have l2m:c2.length≤ns.length - 4:=by
   rw [q2,show (4:Int)=((4:Nat):Int) from rfl,HT.sIx_nat,List.length_take,List.length_drop]
   trivial
  refine ik fun Q0 n0=>⟨(),(),(),a,(),hS,fun p1 H1 m1=>⟨p1,(),.inl (ah.of m1.at'),fun p2 H2 m2=>n0 _ _ ?_⟩⟩
  rw [e1] at m1 m2
  have s2:=m1.sm.trans m2.sm
  have fp2:H p2=none:=m1.sm.free m2.fr
  refine aX fun D0 nD=>⟨(),(),(),(),a,(),s2.seq hS,fun p3 H3 m3=>⟨p3,rfl,⟨_,ah.of m3.at'⟩,?_⟩⟩
  rw [e2] at m3
  have n23:p2≠p3:=fun z=>by have:=m2.at';rw [z,m3.fr] at this;cases this
  refine ⟨fun i m σ H'=>m=c2.length - i∧i≤c2.length∧gH fun (ms:List Int) (v3 v4:Option V)=>σ=[some (.ref a),some (.int 4),some (.ref p2),v3,v4]∧ms.length=c1.length∧H' p2=some (.lst (ms.map V.int))∧H' p3=some (.lst (c2.map V.int))∧(∀b o,b≠p2→H b=some o→H' b=some o),⟨(),Nat.zero_le _,c1,none,none,rfl,rfl,m3.sm _ _ m2.at',m3.at',fun b o _ h=>m3.sm _ _ (s2 b o h)⟩,?_⟩
  rintro i m σ H' ⟨rfl,hi,ms,v3,v4,rfl,hms,h2,h3,hk⟩
  by_cases hlt:i<c2.length
  ·refine .inr ⟨⟨c2.map V.int,V.int c2[i],ah.of h3,by rw [List.getElem?_map];simp [hlt]⟩,_,fun σ' H'' z=>z,?_⟩
   rintro x H'' ⟨t,y,ht,rfl,rfl,hy⟩
   have hy':=hy _ (ah.of h3)
   rw [List.getElem?_map,List.getElem?_eq_getElem hlt] at hy'
   obtain rfl:V.int c2[i]=y:=Option.some.inj hy'
   have nt2:p2≠t:=aN h2 ht
   have nt3:p3≠t:=aN h3 ht
   have hmod0:0≤(i:Int) % 4:=Int.emod_nonneg _ (by trivial)
   have hmod1:(i:Int) % 4<4:=Int.emod_lt_of_pos _ (by trivial)
   have hixlt:((i:Int) % 4).toNat<ms.length:=by trivial
   refine ⟨t,(),aa.of au,rfl,_,(),_,(),rfl,(),(),(),_,(),rfl,(by show (0:Int)<4;decide),.inl ⟨p2,ms.map V.int,_,V.int ms[((i:Int) % 4).toNat],rfl,rfl,ah.of (by rw [ay nt2];exact h2),xr hmod0 hixlt,(),(),_,(),rfl,_,(),rfl,.inr ⟨by trivial,by trivial⟩,_,(),rfl,(),(),(),_,(),rfl,(by show (0:Int)<4;decide),p2,ms.map V.int,_,((i:Int) % 4).toNat,rfl,rfl,(by rw [ay nt2];exact h2),?_,fun H5 c5=>?_⟩⟩
   ·unfold sN
    rw [if_pos hmod0,List.length_map,if_pos (by trivial)]
   ·refine ⟨c2.length - (i+1),by trivial,rfl,hlt,ms.set ((i:Int) % 4).toNat (ms[((i:Int) % 4).toNat]+c2[i]*((i:Int)+2)),_,(),by rw [List.length_set];exact hms,by rw [c5.at',List.map_set],c5.ol _ _ (Ne.symm n23) (by rw [ay nt3];exact h3),fun b o hb h=>?_⟩
    have:=hk b o hb h
    exact c5.ol _ _ hb (by rw [ay (aN this ht)];exact this)
  ·refine .inl ⟨⟨_,ah.of h3,by rw [List.length_map];trivial⟩,nD _ _ ?_⟩
   have sH:ad H H':=fun b o h=>hk b o (aN h fp2) h
   have hmx:0≤(if ((ms.map V.int).length:Int) > 2 then ((ms.map V.int).length:Int) else 2)∧(if ((ms.map V.int).length:Int) > 2 then ((ms.map V.int).length:Int) else 2)≤4:=by
    rw [List.length_map]
    split <;> trivial
   refine ⟨(),p2,(),.inl (ah.of h2),_,(),(),by trivial,by trivial,?_⟩
   generalize (if ((ms.map V.int).length:Int) > 2 then ((ms.map V.int).length:Int) else 2)=mx at hmx
   intro D hD
   refine gf (n:=mx.toNat) (fun i H6 ys=>∃bs:List Addr,ys=bs.map V.ref∧H6 D=some (.lst ys)∧bs.length=i∧bs.Nodup∧(∀b∈bs,Bx H6 b 0)∧ad H' H6) (fE (by trivial)) ⟨[],rfl,au,rfl,List.nodup_nil,(fun b hb=>by cases hb),ad.new hD⟩ ?_ ?_ ?_ ?_ ?_
   ·rintro i H6 ys ⟨bs,rfl,e,rfl,_⟩
    exact ⟨e,by simp⟩
   ·intro i H6 ys hi _
    exact hi
   ·intro H6 ys _
    exact Nat.le_refl _
   ·rintro i H6 ys x H7 hi ⟨bs,rfl,e,lb,nb,bb,sm⟩ ⟨rfl,rfl⟩
    refine ⟨dF,(),(),p2,ms,(),ah.of (sm _ _ h2),by trivial,by trivial,fun p H8 fp s8 Bp=>?_⟩
    have e8:=s8 _ _ e
    have nf:p∉bs:=fun h=>by
     obtain ⟨_,_,q,_⟩:=bb p h
     rw [fp] at q;cases q
    have nd:D≠p:=fun z=>by rw [z,fp] at e;cases e
    have bne:∀b∈bs,b≠D:=fun b h z=>by
     obtain ⟨_,_,q,_⟩:=bb b h
     rw [z,e] at q
     injection q with q
     injection q with q
     cases bs <;> cases q
    refine ⟨e8,bs++[p],by rw [List.map_append];rfl,au,by rw [List.length_append,lb];rfl,?_,fun b hb=>?_,fun b o h=>?_⟩
    ·rw [List.nodup_append]
     exact ⟨nb,by simp,fun u hu v hv z=>nf (by rw [List.mem_singleton.mp hv] at z;exact z▸hu)⟩
    ·have hbD:b≠D:=by
      rcases List.mem_append.mp hb with h | h
      ·exact bne b h
      ·rw [List.mem_singleton.mp h];exact Ne.symm nd
     have B8:Bx H8 b 0:=by
      rcases List.mem_append.mp hb with h | h
      ·exact (bb b h).same s8
      ·rw [List.mem_singleton.mp h];exact Bp
     exact B8.ch .mk' hbD
    ·rw [ay (fun z=>by rw [z,hD] at h;cases h)]
     exact s8 _ _ (sm _ _ h)
   ·rintro H6 ys ⟨bs,rfl,e,lb,nb,bb,sm⟩
    exact kk D bs H6 (sH.trans sm) e (by trivial) nb bb
end
end K55
namespace K55
open PySem L2
section
variable {P:Program}{w:World}{K:PySem.W.Frag}{mg:Str→Option Value}{base:Heap}
inductive FV (g:KM.Fra→KM.Fra→KM.Fra) (z:Bool) (vs:List V) (H:Hp) (Q:VK):Prop
 | mk (a b:Addr) (p q:KM.Fra) (c1 d1 c2 d2:Nat) (h0:vs=[.ref a,.ref b]) (h1:H a=some (fr p)) (h2:H b=some (fr q)) (h3:Gb c1 d1 p) (h4:Gb c2 d2 q) (h5:c1≤4000) (h6:d1≤4000) (h7:c2≤4000) (h8:d2≤4000) (h9:(z=true→1≤q.1)) (h10:∀o H',Nw H o (fr (g p q)) H'→Q (.ref o) H')
def GE (g:KM.Fra→KM.Fra→KM.Fra) (z:Bool):Sp:=fun vs H Q _=>FV g z vs H Q
end
end K55
namespace K55
open PySem L2
set_option maxHeartbeats 4000000
section
variable {P:Program}{w:World}{K:PySem.W.Frag}{mg:Str→Option Value}{base:Heap}
def u5 (f:Int) (ls:List (List Nat)):Prop:=∀(j:Nat) l,ls[j]?=some l→∃cs:List Nat,l=(97+(((f+11*(0+(j:Int))) % 26) % 26).toNat) :: cs∧cs.length≤7∧∀c∈cs,97≤c∧c≤122
theorem u5.nc {f:Int}{ls:List (List Nat)} (h:u5 f ls):∀l∈ls,qE l:=fun l hl=>by
 obtain ⟨j,hj⟩:=List.getElem?_of_mem hl
 obtain ⟨cs,rfl,h1,h2⟩:=h j l hj
 refine ⟨by simp,by rw [List.length_cons];trivial,fun c hc=>?_⟩
 rcases List.mem_cons.mp hc with rfl | hc
 ·trivial
 ·exact h2 c hc
theorem u5.nd {f:Int}{ls:List (List Nat)} (h:u5 f ls) (hl:ls.length≤26):ls.Nodup:=by
 rw [List.nodup_iff_pairwise_ne,List.pairwise_iff_getElem]
 intro i j hi hj hij e
 obtain ⟨cs,e1,_⟩:=h i _ (List.getElem?_eq_getElem hi)
 obtain ⟨ds,e2,_⟩:=h j _ (List.getElem?_eq_getElem hj)
 rw [e1,e2] at e
 injection e with e _
 have:=EN (f:=f) (j:=i) (k:=j) (by trivial) (by trivial) (by trivial)
 trivial
theorem u5.snoc {f:Int}{ls:List (List Nat)}{cs:List Nat} (h:u5 f ls) (h1:cs.length≤7) (h2:∀c∈cs,97≤c∧c≤122):u5 f (ls++[(97+(((f+11*(0+(ls.length:Int))) % 26) % 26).toNat) :: cs]):=fun j l hj=>by
 by_cases hji:j<ls.length
 ·rw [List.getElem?_append_left hji] at hj
  exact h j l hj
 ·have hj':j=ls.length:=by
   have:=(List.getElem?_eq_some_iff.mp hj).1
   rw [List.length_append] at this
   simp at this
   trivial
  subst hj'
  rw [List.getElem?_append_right (by trivial),Nat.sub_self] at hj
  cases hj
  exact ⟨cs,rfl,h1,h2⟩
theorem Ci {m:Nat}{c:Nat} (hm:m≤8) (h1:97≤c) (h2:c≤122):(∀l∈(List.range m).map (fun i:Nat=>List.replicate (m - i) c),qE l)∧((List.range m).map fun i:Nat=>List.replicate (m - i) c).Nodup:=by
 constructor
 ·intro l hl
  obtain ⟨i,hi,rfl⟩:=List.mem_map.mp hl
  have:=List.mem_range.mp hi
  exact ⟨by rw [List.length_replicate];trivial,by rw [List.length_replicate];trivial,fun d hd=>by rw [List.eq_of_mem_replicate hd];trivial⟩
 ·rw [List.nodup_iff_pairwise_ne,List.pairwise_map]
  refine List.Pairwise.imp_of_mem (fun {i j} hi hj hij z=>?_) List.pairwise_lt_range
  have a:=List.mem_range.mp hi
  have b:=List.mem_range.mp hj
  have:=congrArg List.length z
  rw [List.length_replicate,List.length_replicate] at this
  trivial
inductive Fl (vs:List V) (H:Hp) (Q:VK):Prop
 | mk (b:Addr) (many t:Int) (h0:vs=[.ref b,.int many]) (h1:Bx H b t) (h2:0≤t) (h3:t≤900000) (h4:1≤many) (h5:many≤10) (h6:∀D (ls:List (List Nat)) t' H',H D=none→ao (Eb b) H H'→H' D=some (.lst (ls.map aI))→ls.length=many.toNat→(∀l∈ls,qE l)→ls.Nodup→Bx H' b t'→t≤t'→t'≤t+130→Q (.ref D) H')
def GM:Sp:=fun vs H Q _=>Fl  vs H Q
theorem AD (T:Txt K mg):aY P w K mg base CX0 2 T.l_names_.f T.l_names_.d ["_law_box_here", "_law_many"] GM:=by
 have G_l_take:=#[(iK)]
 refine T.l_names_.F.ok eQ (fun vs H Q E h=>?_) (fun cdv A outer s H vs Q E hr h=>?_)
 ·obtain ⟨b,many,t,rfl,_⟩:=h
  rfl
 ·obtain ⟨b,many,t,rfl,B,ht0,ht1,hm1,hm2,k⟩:=h
  refine ⟨_,#[#[cD 6 #[aD 5 #[[#[zu 4],#[eF 4 (@dc _)],#[G_l_take,iq,T.l_take_,#[[#[0,(eX)],#[()]]]]]]] (@aQ _ (K) _ _ _ _ (3) rfl #[af 5 #[gC 2 (2) _ eQ.nd rfl (Or.inr jm) (by first | exact .inl rfl | exact .inr rfl | assumption)] #[af 5 #[3,eQ.nd,gP] #[af 5 #[gC 2 (4) _ eQ.nd rfl (Or.inr kA) (by first | exact .inl rfl | exact .inr rfl | assumption)] (@aW _) (by rfl)] (by rfl)] (by rfl)] (by rfl) (by rfl) (by rfl)) (by rfl) (by rfl) (by rfl)] :: #[#[5,eQ.nd,kD,#[j6 7 #[bO 8 (@cw _) #[G_l_take,iq,T.l_take_,#[[#[0,(eX)],#[()]]]] #[()] #[(),()]] #[km 5 #[bO 8 (@gy _) #[1,(ie)] #[()] #[(),()]]]]] :: #[#[bL 8 PassesOwn.never rfl #[bG 6 i9 T.b_range #[[#[1,(ie)]]] (by rfl)] #[6,eQ.nd,oP] #[#[dX 7 (["_law_turn", "_law_box_here", "_law_letters"]) (1) ([0,2]) _ _ _ _ (7) _ _ _ eQ.nd rfl lF (by kernel_rfl) rfl (by kernel_rfl) #[bG 6 i9 T.b_range #[[#[G_l_take,iq,T.l_take_,#[[#[0,(eX)],#[()]]]]]] (by rfl)] (fun _ _ _ _ _ _=>#[0,(),()]) (fun _ _ _ _ _ _=>@bd _) (fun _ _ _ _ _ _=>#[cM 7 (@tz _) #[2,0] #[G_l_take,(),T.l_take_,#[[#[1,0],#[()]]]] (fun _ _=>rfl)]) (by intro _;rfl)] :: #[ac 3 #[dn 4 (@cI _ (K) _ _ _ _ _ _ _ _ _ _ _ PySem.F.plainAttrs_list PySem.F.slot_list_append PySem.F.type_list_append (@cN _) #[3,gP] #[[#[ak 8 (@CY _) #[cM 7 (@tz _) #[2,(jm)] #[ak 8 (@iS _) #[ak 8 (@bi _) #[4,(kA)] #[ak 8 (@dR _) #[()] #[6,oP]]] #[()]] (fun _ _=>rfl)] (@cI _ (K) _ _ _ _ _ _ _ _ _ _ _ PySem.F.plainAttrs_str PySem.F.slot_str_join PySem.F.type_str_join (@CW _ (K) (by rfl)) #[zu 4] #[[#[7,lF]]] (by rfl) (by rfl) (by rfl) (by rfl) (by rfl) (by rfl))]]] (by rfl) (by rfl) (by rfl) (by rfl) (by rfl) (by rfl)) (by rfl)]]] (by intro _;rfl)] :: #[ac 3 #[aB 4 #[jt 8 #[dz 3 #[5,kD] (by intro _;rfl)] #[bI 7 (["_law_k", "_law_first", "_law_letters", "_law_many"]) (1) ([4,2,1]) _ _ _ _ rfl (by kernel_rfl) #[bG 6 i9 T.b_range #[[#[1,(ie)]]] (by rfl)] (fun _ _ _ _ _ _=>#[0,(),()]) (fun _ _ _ _ _ _=>@bd _) (fun _ _ _ _ _ _=>#[ak 8 (@CV _) #[cM 7 (@tz _) #[2,0] #[1,0] (fun _ _=>rfl)] #[ak 8 (@pD _) #[3,0] #[0,()]]]) (by intro _;rfl)] #[3,gP]]]]]]],?_⟩
  have hz:(Str.ofString "abcdefghijklmnopqrstuvwxyz").length≤sizeLine:=by nofun
  refine aX fun D0 n0=>⟨(by show 0≤10000;decide),fun D H1 m1=>⟨(),b,26,t,rfl,B.same m1.sm,by decide,by decide,ht0,by trivial,fun f t2 H2 f0 f1 h2a h2b s2 B2=>⟨(by show 3≤10000;decide),fun q H3 m3=>⟨q,(),aa.of m3.at',rfl,_,(),_,(),_,(),rfl,n0 _ _ ?_⟩⟩⟩⟩
  have nDb:¬D=b:=fun z=>B.ne m1.fr z.symm
  have B3:=B2.same m3.sm
  have s03:ao (Eb b) H H3:=(m1.sm.toE.trans s2).trans m3.sm.toE
  have hD3:H3 D=some (.lst []):=m3.sm _ _ (s2.old _ _ nDb m1.at')
  refine ik fun Q4 n4=>⟨(),b,4,t2,rfl,B3,by decide,by decide,by trivial,by trivial,fun r t4 H4 r0 r1 h4a h4b s4 B4=>⟨rfl,(),?_⟩⟩
  have fin:∀al:Bool,(al=true→many<9)→Q4 (.bl al) H4:=fun al hal=>by
   refine n4 _ _ ?_
   have s04:=s03.trans s4
   refine aX fun D5 n5=>⟨(),(),by trivial,by trivial,fQ (fun i σ H'=>xm fun v6 v7 ls t'=>σ=[some (.ref b),some (.int many),some (.str "abcdefghijklmnopqrstuvwxyz"),some (.ref D),some (.int f),some (.bl al),v6,v7]∧H' D=some (.lst ((ls:List (List Nat)).map aI))∧ls.length=i∧u5 f ls∧Bx H' b t'∧t4≤t'∧t'≤t4+10*i∧ao (Eb b) H H')
    ⟨_,_,[],t4,rfl,s4.old _ _ nDb hD3,rfl,(fun j l h=>by simp at h),B4,by trivial,by trivial,s04⟩ ?_ ?_⟩
   case refine_2=>
    rintro σ H' ⟨v6,v7,ls,t',rfl,e1,e2,nmi,B',h0,h1,s'⟩
    refine n5 _ _ ⟨(),(),?_⟩
    cases al with
    | false=>exact ce ⟨_,rfl,k D ls t' H' m1.fr s' e1 e2 nmi.nc (nmi.nd (by trivial)) B' (by trivial) (by trivial)⟩
    | true=>
     refine fg ⟨(),(),by trivial,by trivial,fun D2 hD2=>?_⟩
     refine pY (n:=many.toNat) (fun i=>aI (List.replicate (many - (0+(i:Int))).toNat (97+(f % 26).toNat))) (by trivial) hD2 (fun i H' hi _=>hi) (fun H' _=>Nat.le_refl _) ?_ ?_
     ·rintro i x Ha Hb R hi sm ⟨rfl,rfl⟩ kk
      refine ⟨dF,(),(),_,_,(),rfl,hz,pL (by trivial) (by trivial),(),(),_,(),rfl,[97+(f % 26).toNat],(),rfl,by trivial,by trivial,(by show 1≤100;decide),?_⟩
      rw [GN]
      exact kk _ (ad.refl _)
     ·intro H5 s5 h5
      have h9:=hal rfl
      have er:((List.range many.toNat).map fun i:Nat=>List.replicate (many - (0+((i:Nat):Int))).toNat (97+(f % 26).toNat))=(List.range many.toNat).map fun i:Nat=>List.replicate (many.toNat - i) (97+(f % 26).toNat):=by
       refine List.map_congr_left fun i _=>?_
       congr 1
       trivial
      have rn:=Ci (m:=many.toNat) (c:=97+(f % 26).toNat) (by trivial) (by trivial) (by trivial)
      rw [←er] at rn
      refine k D2 ((List.range many.toNat).map fun i=>List.replicate (many - (0+((i:Nat):Int))).toNat (97+(f % 26).toNat)) t' H5 (ao.free s' B' hD2) (s'.trans s5.toE) ?_ (by simp) rn.1 rn.2 (B'.same s5) (by trivial) (by trivial)
      rw [h5,List.map_map]
      rfl
   rintro i σ H' hi ⟨v6,v7,ls,t',rfl,e1,e2,nmi,B',h0,h1,s'⟩
   refine i0 (t:=kn _ _) fun DB nB=>?_
   refine ⟨(),b,8,t',rfl,B',by decide,by decide,by trivial,by trivial,fun r6 t6 J3 r60 r61 _ _ j3 C3=>⟨(),by trivial,by trivial,fun D2 hD2=>gf (n:=r6.toNat) (fun i H' ys=>bE fun (cs:List Nat) (t':Int)=>ys=cs.map (fun c=>aI [c])∧H' D2=some (.lst ys)∧cs.length=i∧(∀c∈cs,97≤c∧c≤122)∧Bx H' b t'∧t6≤t'∧t'≤t6+i∧ao (Eb b) J3 H') ?_ ?_ ?_ ?_ ?_ ?_ ?_⟩⟩
   ·rw [sizeLine_eq];trivial
   ·exact ⟨[],t6,rfl,au,rfl,(fun c h=>by cases h),C3.same (ad.new hD2),by trivial,by trivial,(ad.new hD2).toE⟩
   ·rintro i' H'' ys ⟨cs,t7,rfl,e,rfl,_⟩
    exact ⟨e,by simp⟩
   ·intro i' H'' ys hi' _
    exact hi'
   ·intro H'' ys _
    exact Nat.le_refl _
   ·have nD2:¬D2=b:=fun z=>C3.ne hD2 z.symm
    rintro i' Ha ys x Hb hi' ⟨cs,t7,rfl,g1,g2,g3,g4,g5,g6,g7⟩ ⟨rfl,rfl⟩
    refine ⟨dF,(),(),b,26,t7,rfl,g4,by decide,by decide,by trivial,by trivial,fun r8 t8 Hc r80 r81 _ _ jc Cc=>⟨_,_,(),rfl,hz,pL (by trivial) (by trivial),?_⟩⟩
    have eD:=jc.old D2 _ nD2 g1
    refine ⟨eD,cs++[97+(r8 % 26).toNat],t8,by rw [List.map_append];rfl,au,by rw [List.length_append,g2];rfl,fun c hc=>?_,?_,by trivial,by trivial,(g7.trans jc).up hD2⟩
    ·rcases List.mem_append.mp hc with h | h
     ·exact g3 c h
     ·rw [List.mem_singleton.mp h];trivial
    have c':Ch Hc D2 (cs.map (fun c=>aI [c])++[aI [97+(r8 % 26).toNat]]) _:=Ch.mk'
    exact Cc.ch c' (Ne.symm nD2)
   rintro J4 ys ⟨cs,t7,rfl,g1,g2,g3,C4,g5,g6,j4⟩
   have e14:J4 D=some (.lst (ls.map aI)):=j4.old D _ nDb (j3.old D _ nDb e1)
   refine ⟨(),.inl ⟨rfl,_,ah.of e14⟩,(),(),(),_,(),rfl,.inl ⟨by decide,by decide⟩,_,(),rfl,_,(),rfl,(by show (0:Int)<26;decide),_,_,(),rfl,hz,pL (by trivial) (by trivial),rfl,(),D2,cs.map (fun c=>[c]),?_,rfl,ah.of (by rw [g1,List.map_map];rfl),?_,?_⟩
   ·rw [show (Str.ofString "")=S [] from A5]
   ·rw [List.map_map]
    have:(cs.map ((fun l:List Nat=>l.length) ∘ fun c=>[c])).sum=cs.length:=by
     clear g1 g2 g3 j4
     induction cs with
     | nil=>rfl
     | cons c r ih=>simp at ih ⊢;trivial
    rw [this];trivial
   have fl:(cs.map (fun c=>[c])).flatten=cs:=by
    clear g1 g2 g3 j4
    induction cs with
    | nil=>rfl
    | cons c r ih=>rw [List.map_cons,List.flatten_cons,ih];rfl
   rw [fl]
   refine ⟨[97+(((f+11*(0+(i:Int))) % 26) % 26).toNat],cs,rfl,rfl,?_,D,_,(),rfl,e14,?_,fun J5 c5=>nB _ _ ?_⟩
   ·simp;trivial
   ·rw [List.length_map];trivial
   have hs5:ao (Eb b) H J5:=((s'.trans j3).trans j4).ch c5 m1.fr
   refine ⟨_,_,ls++[[97+(((f+11*(0+(i:Int))) % 26) % 26).toNat]++cs],t7,rfl,?_,?_,?_,C4.ch c5 (Ne.symm nDb),by trivial,by trivial,hs5⟩
   ·rw [c5.at',List.map_append];rfl
   ·rw [List.length_append,e2];rfl
   ·have:=nmi.snoc (cs:=cs) (by trivial) g3
    rw [e2] at this
    exact this
  by_cases c:r=0
  ·rw [decide_eq_true (show V.int r=V.int 0 by rw [c])]
   refine fg ⟨(),_,(),rfl,fin _ of_decide_eq_true⟩
  ·rw [decide_eq_false (show ¬V.int r=V.int 0 from fun z=>c (by injection z))]
   exact ce (fin _ fun z=>by cases z)
end
end K55
namespace K55
open PySem L2
set_option maxHeartbeats 4000000
section
variable {P:Program}{w:World}{K:PySem.W.Frag}{mg:Str→Option Value}{base:Heap}
theorem zk {d:Int} (h0:0<d) (h1:d≤1000000):Sz 9000 d:=Sz.mono (m:=40) (by show d.natAbs<1099511627776;trivial) (by decide)
inductive FS (vs:List V) (H:Hp) (Q:VK):Prop
 | mk (n d:Int) (h0:vs=[.int n,.int d]) (h1:0<d) (h2:Sz 9000 d) (h3:∀p H',Nw H p (fr (KM.low n d)) H'→Q (.ref p) H')
def Hl:Sp:=fun vs H Q _=>FS  vs H Q
theorem oH (T:Txt K mg):aY P w K mg base CX0 1 T.l_fr_.f T.l_fr_.d ["_law_top", "_law_bottom"] Hl:=by
 refine T.l_fr_.F.ok qH (fun vs H Q E h=>?_) (fun cdv A outer s H vs Q E hr h=>?_)
 ·obtain ⟨n,d,rfl,_⟩:=h
  rfl
 ·obtain ⟨n,d,rfl,hd,hs,k⟩:=h
  have hl:=hs.log (Int.ne_of_gt hd)
  refine ⟨_,#[#[ja 2 (2) (3) _ _ _ _ _ _ _ _ _ _ _ rfl qH.nd rfl rfl (by decide) fX eG #[[#[(),(),(@lE _),tL,T.b_abs,(@i8),#[[#[0,pS]]]],#[(),(),(@lE _),tL,T.b_abs,(@i8),#[[#[1,jd]]]]]] (by kernel_rfl) (by rfl)] :: #[#[vW 6 PassesOwn.never #[aF 8 (@oJ _) #[3,eG] #[()] #[(),()]] #[ac 3 #[ja 2 (2) (3) _ _ _ _ _ _ _ _ _ _ _ rfl qH.nd rfl rfl (by decide) fX eG #[[#[3,eG],#[ak 8 (@iS _) #[2,fX] #[3,eG]]]] (by kernel_rfl) (by rfl)]]] :: #[#[4,qH.nd,ix,#[jt 8 #[aF 8 (@oJ _) #[1,jd] #[()] #[(),()]] #[2,fX] #[oh 6 (@lX _) #[2,fX]]]] :: #[ac 3 #[aB 4 #[aD 5 #[[#[ak 8 (@vR _) #[0,pS] #[4,ix]],#[ak 8 (@vR _) #[1,jd] #[4,ix]]]]]]]]]],?_⟩
  refine ⟨(),(),(),(),_,(),?_⟩
  refine ⟨fun m σ H'=>∃a b:Int,σ=[some (.int n),some (.int d),some (.int a),some (.int b),none]∧H'=H∧0≤a∧0≤b∧Int.gcd a b=Int.gcd n d∧m=b.natAbs,⟨_,_,(),rfl,wu n,wu d,KM.gcd_abs n d,rfl⟩,?_⟩
  rintro m σ H' ⟨a,b,rfl,rfl,ha,hb,hg,rfl⟩
  refine ⟨(),_,(),rfl,(),?_⟩
  by_cases hb0:0<b
  ·rw [decide_eq_true hb0]
   refine fg ⟨fun σ' H''=>∃a' b':Int,σ'=[some (.int n),some (.int d),some (.int a'),some (.int b'),none]∧H''=H'∧0≤a'∧0≤b'∧Int.gcd a' b'=Int.gcd n d∧b'.natAbs<b.natAbs,?_,?_⟩
   ·rintro σ' H'' ⟨a',b',rfl,rfl,h0,h1,h2,h3⟩
    exact ⟨_,h3,a',b',rfl,rfl,h0,h1,h2,rfl⟩
   ·refine ⟨(),(),(),_,(),rfl,hb0,_,(),?_⟩
    have q0:=Int.emod_nonneg a (Int.ne_of_gt hb0)
    have q1:=Int.emod_lt_of_pos a hb0
    exact ⟨b,a % b,rfl,rfl,hb,q0,(KM.gcd_emod a b).trans hg,by trivial⟩
  ·have hb1:b=0:=by trivial
   subst hb1
   rw [decide_eq_false hb0]
   refine ce ?_
   have eg:a=((Int.gcd n d:Nat):Int):=by
    rw [←hg,KM.gcd_zero_abs,if_neg (by trivial)]
   have c1:=BO (n:=n) (Int.ne_of_gt hd) hl
   rw [←eg] at c1
   refine ⟨(),_,(),rfl,(),?_⟩
   rw [decide_eq_true hd]
   refine fg ⟨(),?_⟩
   refine ⟨(),(),_,(),rfl,c1,(),(),_,(),rfl,⟨c1.1,c1.2⟩,(by show 2≤10000;decide),fun p H2 n2=>k p H2 ?_⟩
   unfold KM.low
   rw [if_pos hd,←eg]
   exact n2
theorem By {a b:Nat}{n d:Int} (h1:n.natAbs<2 ^ a) (h2:d.natAbs<2 ^ b) (h3:1≤d):Gb a b (n,d):=⟨h1,h2,h3⟩
theorem wx {n d:Int}{a c:Nat} (h0:0≤n) (h1:n.natAbs<2 ^ a) (h2:1≤d) (h3:d.natAbs<2 ^ c):Gb a c (KM.low n d)∧0≤(KM.low n d).1∧(1≤n→1≤(KM.low n d).1)∧Int.gcd (KM.low n d).1 (KM.low n d).2=1:=
 ⟨vM h1 h3 (by trivial),Int.not_lt.mp fun z=>by have:=(KM.low_sgn (n:=n) (d:=d) (by trivial)).2.mp z;trivial,fun hn=>(KM.low_sgn (by trivial)).1.mpr (by trivial),(KM.low_spec n d (by trivial)).2.2.1⟩
inductive Fn (a c:Nat) (lo:Int) (vs:List V) (H:Hp) (Q:VK):Prop
 | mk (b:Addr) (t:Int) (h0:vs=[.ref b]) (h1:Bx H b t) (h2:0≤t) (h3:t≤900000) (h4:∀(o:Addr) (z:KM.Fra) (t':Int) (H':Hp),ao (Eb b) H H'→H' o=some (fr z)→Gb a c z→lo≤z.1→Int.gcd z.1 z.2=1→Bx H' b t'→t≤t'→t'≤t+3→Q (.ref o) H')
def Ai (a c:Nat) (lo:Int):Sp:=fun vs H Q _=>Fn a c lo vs H Q
theorem Cu (T:Txt K mg):aY P w K mg base CX0 2 T.l_gain_.f T.l_gain_.d ["_law_box_here"] (Ai 6 6 1):=by
 have G_l_take:=#[(iK)]
 have G_l_fr:=#[(oH)]
 refine T.l_gain_.F.ok qi (fun vs H Q E h=>?_) (fun cdv A outer s H vs Q E hr h=>?_)
 ·obtain ⟨b,t,rfl,_⟩:=h
  rfl
 ·obtain ⟨b,t,rfl,B,ht0,ht1,k⟩:=h
  refine ⟨_,#[#[1,qi.nd,jv,#[G_l_take,iY,T.l_take_,#[[#[0,fu],#[()]]]]] :: #[#[bH 8 #[aF 8 (@gy _) #[1,jv] #[()] #[(),()]] #[ac 3 #[aB 4 #[aD 5 #[[#[()],#[()]]]]]] (@bc _)] :: #[#[2,qi.nd,gl,#[jt 8 #[aF 8 (@gy _) #[1,jv] #[()] #[(),()]] #[()] #[()]]] :: #[ac 3 #[aB 4 #[G_l_fr,vj,T.l_fr_,#[[#[ak 8 (@bi _) #[()] #[G_l_take,iY,T.l_take_,#[[#[0,fu],#[2,gl]]]]],#[ak 8 (@bi _) #[()] #[G_l_take,iY,T.l_take_,#[[#[0,fu],#[2,gl]]]]]]]]]]]]],?_⟩
  refine ⟨(),b,8,t,rfl,B,by decide,by decide,ht0,by trivial,fun wy t1 H1 w0 w1 h1a h1b s1 B1=>?_⟩
  refine ⟨(),_,(),rfl,(),bZ (fun c=>?_) (fun c=>?_)⟩
  ·exact ⟨(by show 2≤10000;decide),fun o H2 n2=>k o (1,1) t1 H2 (s1.trans n2.sm.toE) n2.at' (By (by decide) (by decide) (by decide)) (by decide) (by decide) (B1.same n2.sm) (by trivial) (by trivial)⟩
  refine ⟨(),_,(),rfl,(),?_⟩
  refine bZ (fun c2=>?_) (fun c2=>?_)
  ·refine ⟨(),(),b,12,t1,rfl,B1,by decide,by decide,by trivial,by trivial,fun r2 t2 H2 a20 a21 _ _ s2 B2=>⟨_,(),rfl,(),(),b,12,t2,rfl,B2,by decide,by decide,by trivial,by trivial,fun r3 t3 H3 a30 a31 _ _ s3 B3=>⟨_,(),rfl,_,(),by trivial,zk (by trivial) (by trivial),fun o H4 n4=>?_⟩⟩⟩
   have L:=wx (n:=1+r2) (d:=1+r3) (a:=6) (c:=6) (by trivial) (by show _<64;trivial) (by trivial) (by show _<64;trivial)
   exact k o _ t3 H4 (((s1.trans s2).trans s3).trans n4.sm.toE) n4.at' L.1 (L.2.2.1 (by trivial)) L.2.2.2 (B3.same n4.sm) (by trivial) (by trivial)
  ·refine ⟨(),(),b,60,t1,rfl,B1,by decide,by decide,by trivial,by trivial,fun r2 t2 H2 a20 a21 _ _ s2 B2=>⟨_,(),rfl,(),(),b,60,t2,rfl,B2,by decide,by decide,by trivial,by trivial,fun r3 t3 H3 a30 a31 _ _ s3 B3=>⟨_,(),rfl,_,(),by trivial,zk (by trivial) (by trivial),fun o H4 n4=>?_⟩⟩⟩
   have L:=wx (n:=1+r2) (d:=1+r3) (a:=6) (c:=6) (by trivial) (by show _<64;trivial) (by trivial) (by show _<64;trivial)
   exact k o _ t3 H4 (((s1.trans s2).trans s3).trans n4.sm.toE) n4.at' L.1 (L.2.2.1 (by trivial)) L.2.2.2 (B3.same n4.sm) (by trivial) (by trivial)
theorem xI (T:Txt K mg):aY P w K mg base CX0 2 T.l_much_.f T.l_much_.d ["_law_box_here"] (Ai 20 4 0):=by
 have G_l_take:=#[(iK)]
 have G_l_fr:=#[(oH)]
 refine T.l_much_.F.ok uL (fun vs H Q E h=>?_) (fun cdv A outer s H vs Q E hr h=>?_)
 ·obtain ⟨b,t,rfl,_⟩:=h
  rfl
 ·obtain ⟨b,t,rfl,B,ht0,ht1,k⟩:=h
  refine ⟨_,#[#[1,uL.nd,gD,#[G_l_take,je,T.l_take_,#[[#[0,fA],#[()]]]]] :: #[#[bH 8 #[aF 8 (@cw _) #[1,gD] #[()] #[(),()]] #[ac 3 #[aB 4 #[aD 5 #[[#[()],#[()]]]]]] (@bc _)] :: #[#[bH 8 #[aF 8 (@cw _) #[1,gD] #[()] #[(),()]] #[ac 3 #[aB 4 #[aD 5 #[[#[ak 8 (@wf _) #[()] #[()]],#[()]]]]]] (@bc _)] :: #[ac 3 #[aB 4 #[G_l_fr,vm,T.l_fr_,#[[#[ak 8 (@bi _) #[()] #[G_l_take,je,T.l_take_,#[[#[0,fA],#[()]]]]],#[jt 8 #[aF 8 (@gy _) #[1,gD] #[()] #[(),()]] #[()] #[ak 8 (@bi _) #[()] #[G_l_take,je,T.l_take_,#[[#[0,fA],#[()]]]]]]]]]]]]]],?_⟩
  refine ⟨(),b,8,t,rfl,B,by decide,by decide,ht0,by trivial,fun wy t1 H1 w0 w1 h1a h1b s1 B1=>?_⟩
  refine ⟨(),rfl,(),bZ (fun c=>?_) (fun c=>?_)⟩
  ·exact ⟨(by show 2≤10000;decide),fun o H2 n2=>k o (0,1) t1 H2 (s1.trans n2.sm.toE) n2.at' (By (by decide) (by decide) (by decide)) (by decide) (by decide) (B1.same n2.sm) (by trivial) (by trivial)⟩
  refine ⟨(),rfl,(),bZ (fun c'=>?_) (fun c'=>?_)⟩
  ·exact ⟨_,(),rfl,⟨by decide,by decide,by decide⟩,(by show 2≤10000;decide),fun o H2 n2=>k o ((10:Int) ^ (6:Int).toNat,1) t1 H2 (s1.trans n2.sm.toE) n2.at' (By (by nofun) (by decide) (by decide)) (by nofun) (by nofun) (B1.same n2.sm) (by trivial) (by trivial)⟩
  refine ⟨(),b,30,t1,rfl,B1,by decide,by decide,by trivial,by trivial,fun r2 t2 H2 a20 a21 _ _ s2 B2=>⟨_,(),rfl,(),_,(),rfl,(),bZ (fun c2=>?_) (fun c2=>?_)⟩⟩
  ·exact ⟨_,(),by decide,(by exact zk (by decide) (by decide)),fun o H4 n4=>have L:=wx (n:=1+r2) (d:=1) (a:=20) (c:=4) (by trivial) (by show _<1048576;trivial) (by trivial) (by show _<16;decide);k o _ t2 H4 ((s1.trans s2).trans n4.sm.toE) n4.at' L.1 L.2.1 L.2.2.2 (B2.same n4.sm) (by trivial) (by trivial)⟩
  ·exact ⟨(),b,12,t2,rfl,B2,by decide,by decide,by trivial,by trivial,fun r3 t3 H3 a30 a31 _ _ s3 B3=>⟨_,(),rfl,_,(),by trivial,zk (by trivial) (by trivial),fun o H4 n4=>have L:=wx (n:=1+r2) (d:=1+r3) (a:=20) (c:=4) (by trivial) (by show _<1048576;trivial) (by trivial) (by show _<16;trivial);k o _ t3 H4 (((s1.trans s2).trans s3).trans n4.sm.toE) n4.at' L.1 L.2.1 L.2.2.2 (B3.same n4.sm) (by trivial) (by trivial)⟩⟩
theorem xy (T:Txt K mg):aY P w K mg base CX0 2 T.l_cost_.f T.l_cost_.d ["_law_box_here"] (Ai 5 7 0):=by
 have G_l_take:=#[(iK)]
 have G_l_fr:=#[(oH)]
 refine T.l_cost_.F.ok uT (fun vs H Q E h=>?_) (fun cdv A outer s H vs Q E hr h=>?_)
 ·obtain ⟨b,t,rfl,_⟩:=h
  rfl
 ·obtain ⟨b,t,rfl,B,ht0,ht1,k⟩:=h
  refine ⟨_,#[#[1,uT.nd,jy,#[G_l_take,iM,T.l_take_,#[[#[0,ff],#[()]]]]] :: #[#[bH 8 #[aF 8 (@cw _) #[1,jy] #[()] #[(),()]] #[ac 3 #[aB 4 #[aD 5 #[[#[()],#[()]]]]]] (@bc _)] :: #[ac 3 #[aB 4 #[G_l_fr,vE,T.l_fr_,#[[#[G_l_take,iM,T.l_take_,#[[#[0,ff],#[()]]]],#[ak 8 (@bi _) #[()] #[ak 8 (@dR _) #[G_l_take,iM,T.l_take_,#[[#[0,ff],#[()]]]] #[bQ 9 (@iH _) vQ T.b_int (@dY) #[[#[bO 8 (@cw _) #[1,jy] #[()] #[(),()]]]] (by decide) (by decide) (by rfl) (by rfl)]]]]]]]]]],?_⟩
  refine ⟨(),b,4,t,rfl,B,by decide,by decide,ht0,by trivial,fun wy t1 H1 w0 w1 h1a h1b s1 B1=>?_⟩
  refine ⟨(),rfl,(),bZ (fun c=>?_) (fun c=>?_)⟩
  ·exact ⟨(by show 2≤10000;decide),fun o H2 n2=>k o (0,1) t1 H2 (s1.trans n2.sm.toE) n2.at' (By (by decide) (by decide) (by decide)) (by decide) (by decide) (B1.same n2.sm) (by trivial) (by trivial)⟩
  refine ⟨(),b,25,t1,rfl,B1,by decide,by decide,by trivial,by trivial,fun r2 t2 H2 a20 a21 _ _ s2 B2=>⟨(),b,6,t2,rfl,B2,by decide,by decide,by trivial,by trivial,fun r3 t3 H3 a30 a31 _ _ s3 B3=>⟨(),rfl,.inr ⟨(),_,(),rfl,.inl ⟨by trivial,by trivial⟩,_,(),rfl,?_⟩⟩⟩⟩
  obtain ⟨z,ez,hz0,hz1⟩:∃z:Int,1+r3*(if decide (V.int wy=V.int 3)=true then 1 else 0)=z∧1≤z∧z≤100:=by
   by_cases c3:decide (V.int wy=V.int 3)=true
   ·rw [if_pos c3];exact ⟨(),by trivial,by trivial⟩
   ·rw [if_neg c3];exact ⟨(),by trivial,by trivial⟩
  refine ⟨r2,z,?_,by trivial,(by exact zk (by trivial) (by trivial)),fun o H4 n4=>have L:=wx (n:=r2) (d:=z) (a:=5) (c:=7) (by trivial) (by show _<32;trivial) (by trivial) (by show _<128;trivial);k o _ t3 H4 (((s1.trans s2).trans s3).trans n4.sm.toE) n4.at' L.1 L.2.1 L.2.2.2 (B3.same n4.sm) (by trivial) (by trivial)⟩
  rw [←ez]
  rfl
theorem vL (T:Txt K mg):aY P w K mg base CX0 2 T.l_by_.f T.l_by_.d ["_law_one", "_law_other"] (GE KM.lTim false):=by
 have G_l_fr:=#[(oH)]
 refine T.l_by_.F.ok Cp (fun vs H Q E h=>?_) (fun cdv A outer s H vs Q E hr h=>?_)
 ·obtain ⟨a,b,p,q,c1,d1,c2,d2,rfl,_⟩:=h
  rfl
 ·obtain ⟨a,b,p,q,c1,d1,c2,d2,rfl,ha,hb,fp,fq,h1,h2,h3,h4,_,k⟩:=h
  obtain ⟨z1,z2,z3,z4⟩:Sz 4000 p.1∧Sz 4000 p.2∧Sz 4000 q.1∧Sz 4000 q.2:=⟨fp.n.mono h1,fp.d.mono h2,fq.n.mono h3,fq.d.mono h4⟩
  refine ⟨_,#[ac 3 #[aB 4 #[G_l_fr,xf,T.l_fr_,#[[#[ak 8 (@cz _) #[#[0,qd][#[()]]] #[#[1,mX][#[()]]]],#[ak 8 (@cz _) #[#[0,qd][#[()]]] #[#[1,mX][#[()]]]]]]]]],?_⟩
  exact ⟨(),a,_,_,(),rfl,aa.of ha,rfl,(),b,_,_,(),rfl,aa.of hb,rfl,_,(),rfl,gN z1 z3,
   _,rfl,a,_,_,_,rfl,rfl,aa.of ha,rfl,_,rfl,b,_,_,_,rfl,rfl,aa.of hb,rfl,_,_,rfl,rfl,gN z2 z4,_,_,rfl,Int.mul_pos (by have:=fp.pos;trivial) (by have:=fq.pos;trivial),sW z2 z4,fun o H' n=>k o H' n⟩
end
end K55
namespace K55
open PySem L2
set_option maxHeartbeats 8000000
theorem Gr (i:Int) (es:List Int):Bf (.int i) (es.map V.int)=decide (i∈es):=by
 unfold Bf
 rw [List.any_map,Bool.eq_iff_iff,List.any_eq_true,decide_eq_true_iff]
 constructor
 ·rintro ⟨x,h1,h2⟩
  have h2':(x==i)=true:=h2
  rw [←eq_of_beq h2']
  exact h1
 ·exact fun h=>⟨i,h,by show (i==i)=true;simp⟩
theorem Bi (es:List Int):(es.map V.int).all kK=true:=by
 rw [List.all_map]
 exact List.all_eq_true.mpr fun _ _=>rfl
theorem oQ {a b:List Nat}:(aI a=aI b)↔a=b:=⟨fun h=>Bv (by injection h),fun h=>by rw [h]⟩
structure eV where
 bg:List Nat
 en:List Nat
 mo:KM.Fra
 ga:KM.Fra
 pr:KM.Fra
 la:Nat
 op:List Int
structure iU where
 pl:List Nat
 mo:KM.Fra
 ke:KM.Fra
structure lG where
 pl:List Nat
 ho:Nat
 mo:KM.Fra
 pr:KM.Fra
structure mO where
 pl:List Nat
 ho:Nat
 am:KM.Fra
structure aC where
 pl:List (List Nat)
 hr:Nat
 ts:List eV
 ss:List iU
 ws:List lG
 wi:List mO
def qx (x:eV):PyData:=.tuple [.str (S x.bg),.str (S x.en),bJ x.mo,bJ x.ga,bJ x.pr,.int (x.la:Int),.tuple (x.op.map .int)]
def vc (x:iU):PyData:=.tuple [.str (S x.pl),bJ x.mo,bJ x.ke]
def wH (x:lG):PyData:=.tuple [.str (S x.pl),.int (x.ho:Int),bJ x.mo,bJ x.pr]
def vX (x:mO):PyData:=.tuple [.str (S x.pl),.int (x.ho:Int),bJ x.am]
def eH (d:aC):PyData:=.tuple [.tuple (d.pl.map fun l=>.str (S l)),.int (d.hr:Int),.tuple (d.ts.map qx),.tuple (d.ss.map vc),.tuple (d.ws.map wH),.tuple (d.wi.map vX)]
structure bo where
 se:List (List KM.Fra)
 ke:List (List KM.Fra)
 dr:List KM.Fra
def bA (ps:List KM.Fra):PyData:=.list (ps.map bJ)
def iW (b:bo):PyData:=.tuple [.list (b.se.map bA),.list (b.ke.map bA),.list (b.dr.map bJ)]
def Fr (c:Nat) (p:KM.Fra):Prop:=Fb c p.1 p.2
structure mN (d:aC) (x:eV):Prop where
 b:x.bg∈d.pl
 e:x.en∈d.pl
 m:Fr 24 x.mo
 m0:0≤x.mo.1
 g:Fr 24 x.ga
 p:Fr 7 x.pr
 l:x.la≤100
 mg:Gb 20 4 x.mo
 ol:x.op.length≤8
 ob:∀z∈x.op,0≤z∧z<8
structure rQ (d:aC) (x:iU):Prop where
 b:x.pl∈d.pl
 m:Fr 24 x.mo
 m0:0≤x.mo.1
 k:Fr 24 x.ke
 mg:Gb 20 4 x.mo
structure tN (d:aC) (x:lG):Prop where
 b:x.pl∈d.pl
 h:x.ho<d.hr
 m:Fr 24 x.mo
 m0:0≤x.mo.1
 p:Fr 7 x.pr
 mg:Gb 20 4 x.mo
structure um (d:aC) (x:mO):Prop where
 b:x.pl∈d.pl
 h:x.ho<d.hr
 a:Fr 24 x.am
structure b7 (d:aC):Prop where
 l1:1≤d.hr
 l8:d.hr≤8
 p5:d.pl.length≤5
 nd:d.pl.Nodup
 nm:∀l∈d.pl,qE l
 t8:d.ts.length≤8
 s5:d.ss.length≤5
 w5:d.ws.length≤5
 i7:d.wi.length≤7
 ts:∀x∈d.ts,mN d x
 ss:∀x∈d.ss,rQ d x
 ws:∀x∈d.ws,tN d x
 wi:∀x∈d.wi,um d x
theorem kM {E:Addr→Prop}{H:Hp}{v:V}{p:KM.Fra} (h:aJ E H v (bJ p)):∃a,v=.ref a∧H a=some (fr p):=iI h
theorem Br {E:Addr→Prop}{H:Hp}:∀{ls:List Int}{xs:List V},aA E H xs (ls.map .int)→xs=ls.map V.int
 | [],_,h=>by cases h;rfl
 | l :: ls,_,h=>by
  cases h with
  | cons h r=>cases h;rw [Br r];rfl
theorem y8 {E:Addr→Prop}{H:Hp}:∀(ls:List Int),aA E H (ls.map V.int) (ls.map .int)
 | []=>.nil
 | l :: ls=>.cons (.int _) (y8 ls)
theorem iZ {H:Hp}{v:V}{x:eV} (h:aJ ED H v (qx x)):wd fun a m g p o=>v=.ref a∧H a=some (.tup [aI x.bg,aI x.en,.ref m,.ref g,.ref p,.int (x.la:Int),.ref o])∧H m=some (fr x.mo)∧H g=some (fr x.ga)∧H p=some (fr x.pr)∧H o=some (.tup (x.op.map V.int)):=by
 cases h with
 | @tup a xs _ ha r=>
 cases r with
 | cons h1 r=>
 cases r with
 | cons h2 r=>
 cases r with
 | cons h3 r=>
 cases r with
 | cons h4 r=>
 cases r with
 | cons h5 r=>
 cases r with
 | cons h6 r=>
 cases r with
 | cons h7 r=>
 cases r
 cases h1
 cases h2
 cases h6
 obtain ⟨m,rfl,hm⟩:=kM h3
 obtain ⟨g,rfl,hg⟩:=kM h4
 obtain ⟨p,rfl,hp⟩:=kM h5
 cases h7 with
 | @tup o _ _ ho ro=>
 rw [Br ro] at ho
 exact ⟨a,m,g,p,o,rfl,ha,hm,hg,hp,ho⟩
theorem pG {H:Hp}{v:V}{x:iU} (h:aJ ED H v (vc x)):gH fun a m k=>v=.ref a∧H a=some (.tup [aI x.pl,.ref m,.ref k])∧H m=some (fr x.mo)∧H k=some (fr x.ke):=by
 cases h with
 | @tup a xs _ ha r=>
 cases r with
 | cons h1 r=>
 cases r with
 | cons h2 r=>
 cases r with
 | cons h3 r=>
 cases r
 cases h1
 obtain ⟨m,rfl,hm⟩:=kM h2
 obtain ⟨k,rfl,hk⟩:=kM h3
 exact ⟨a,m,k,rfl,ha,hm,hk⟩
theorem nN {H:Hp}{v:V}{x:lG} (h:aJ ED H v (wH x)):gH fun a m p=>v=.ref a∧H a=some (.tup [aI x.pl,.int (x.ho:Int),.ref m,.ref p])∧H m=some (fr x.mo)∧H p=some (fr x.pr):=by
 cases h with
 | @tup a xs _ ha r=>
 cases r with
 | cons h1 r=>
 cases r with
 | cons h2 r=>
 cases r with
 | cons h3 r=>
 cases r with
 | cons h4 r=>
 cases r
 cases h1
 cases h2
 obtain ⟨m,rfl,hm⟩:=kM h3
 obtain ⟨p,rfl,hp⟩:=kM h4
 exact ⟨a,m,p,rfl,ha,hm,hp⟩
theorem zG {H:Hp}{v:V}{x:mO} (h:aJ ED H v (vX x)):bE fun a m=>v=.ref a∧H a=some (.tup [aI x.pl,.int (x.ho:Int),.ref m])∧H m=some (fr x.am):=by
 cases h with
 | @tup a xs _ ha r=>
 cases r with
 | cons h1 r=>
 cases r with
 | cons h2 r=>
 cases r with
 | cons h3 r=>
 cases r
 cases h1
 cases h2
 obtain ⟨m,rfl,hm⟩:=kM h3
 exact ⟨a,m,rfl,ha,hm⟩
structure Gk (H:Hp) (v:V) (d:aC) (a p t st wl wi:Addr) (ts ss ws is:List V):Prop where
 ev:v=.ref a
 ha:H a=some (.tup [.ref p,.int (d.hr:Int),.ref t,.ref st,.ref wl,.ref wi])
 hp:H p=some (.tup (d.pl.map aI))
 ht:H t=some (.tup ts)
 hs:H st=some (.tup ss)
 hw:H wl=some (.tup ws)
 hi:H wi=some (.tup is)
 at_:aA ED H ts (d.ts.map qx)
 as_:aA ED H ss (d.ss.map vc)
 aw:aA ED H ws (d.ws.map wH)
 ai:aA ED H is (d.wi.map vX)
theorem dB {H:Hp}{v:V}{d:aC} (h:aJ ED H v (eH d)):GO fun a p t st wl wi ts ss ws is=>Gk H v d a p t st wl wi ts ss ws is:=by
 cases h with
 | @tup a xs _ ha r=>
 cases r with
 | cons h1 r=>
 cases r with
 | cons h2 r=>
 cases r with
 | cons h3 r=>
 cases r with
 | cons h4 r=>
 cases r with
 | cons h5 r=>
 cases r with
 | cons h6 r=>
 cases r
 cases h2
 cases h1 with
 | @tup p _ _ hp rp=>
 cases h3 with
 | @tup t ts _ ht rt=>
 cases h4 with
 | @tup st ss _ hs rs=>
 cases h5 with
 | @tup wl ws _ hw rw_=>
 cases h6 with
 | @tup wi is _ hi ri=>
 rw [wA rp] at hp
 exact ⟨a,p,t,st,wl,wi,ts,ss,ws,is,rfl,ha,hp,ht,hs,hw,hi,rt,rs,rw_,ri⟩
theorem cj {α:Type}{f:α→PyData}{H:Hp}{zs:List V}{ts:List α}{i:Nat}{y:V} (h:aA ED H zs (ts.map f)) (e:zs[i]?=some y):∃x,ts[i]?=some x∧x∈ts∧aJ ED H y (f x):=by
 obtain ⟨d,ed,hd⟩:=h.get e
 rw [List.getElem?_map] at ed
 obtain ⟨x,ex,rfl⟩:=Option.map_eq_some_iff.mp ed
 exact ⟨x,ex,List.mem_of_getElem? ex,hd⟩
section
variable {P:Program}{w:World}{K:PySem.W.Frag}{mg:Str→Option Value}{base:Heap}
inductive BZ (vs:List V) (H:Hp) (Q:VK):Prop
 | mk (dv tv:V) (d:aC) (x:eV) (h:Nat) (h0:vs=[dv,tv,.int (h:Int)]) (h1:aJ ED H dv (eH d)) (h2:aJ ED H tv (qx x)) (h3:Q (.bl (decide ((h:Int)∈x.op) && decide (h+x.la<d.hr))) H)
def zl:Sp:=fun vs H Q _=>BZ  vs H Q
theorem Ca (T:Txt K mg):aY P w K mg base CX0 1 T.may_send_.f T.may_send_.d ["day", "tie", "hour"] zl:=by
 refine T.may_send_.F.ok xa (fun vs H Q E h=>?_) (fun cdv A outer s H vs Q E hr h=>?_)
 ·obtain ⟨dv,tv,d,x,h,rfl,_⟩:=h
  rfl
 ·obtain ⟨dv,tv,d,x,h,rfl,hd,ht,k⟩:=h
  refine ⟨_,#[ac 3 #[aB 4 #[j6 7 #[bO 8 (@Dq _ (K) (by rfl)) #[2,mH] #[#[1,nX][#[()]]] rfl] #[km 5 #[bO 8 (@gy _) #[ak 8 (@bi _) #[2,mH] #[#[1,nX][#[()]]]] #[#[0,uz][#[()]]] #[(),()]]]]]],?_⟩
  obtain ⟨a,p,t,st,wl,wi,ts,ss,ws,is,D⟩:=dB hd
  obtain ⟨ta,m,g,pr,o,rfl,hta,_,_,_,ho⟩:=iZ ht
  cases D.ev
  refine ⟨(),(),ta,_,_,(),rfl,aa.of hta,rfl,o,(),.inr (aa.of ho),rfl,Bi _,(),?_⟩
  simp only [if_true,Gr]
  by_cases hm:(h:Int)∈x.op
  ·rw [decide_eq_true hm] at k ⊢
   refine fg ⟨(),(),ta,_,_,(),rfl,aa.of hta,rfl,_,(),rfl,(),a,_,_,(),rfl,aa.of D.ha,rfl,_,(),rfl,?_⟩
   have e:decide ((h:Int)+(x.la:Int)<(d.hr:Int))=(true && decide (h+x.la<d.hr)):=by
    rw [Bool.true_and]
    by_cases q:h+x.la<d.hr
    ·rw [decide_eq_true q];exact decide_eq_true (by trivial)
    ·rw [decide_eq_false q];exact decide_eq_false (by trivial)
   exact Eq.mp (congrArg (fun b=>Q (.bl b) H) e.symm) k
  ·rw [decide_eq_false hm] at k ⊢
   exact ce k
theorem CP (T:Txt K mg):aY P w K mg base CX0 1 T.l_may_.f T.l_may_.d ["_law_day_here", "_law_row", "_law_hour"] zl:=by
 refine T.l_may_.F.ok AT (fun vs H Q E h=>?_) (fun cdv A outer s H vs Q E hr h=>?_)
 ·obtain ⟨dv,tv,d,x,h,rfl,_⟩:=h
  rfl
 ·obtain ⟨dv,tv,d,x,h,rfl,hd,ht,k⟩:=h
  refine ⟨_,#[ac 3 #[aB 4 #[j6 7 #[bO 8 (@Dq _ (K) (by rfl)) #[2,nV] #[#[1,oY][#[()]]] rfl] #[km 5 #[bO 8 (@gy _) #[ak 8 (@bi _) #[2,nV] #[#[1,oY][#[()]]]] #[#[0,qe][#[()]]] #[(),()]]]]]],?_⟩
  obtain ⟨a,p,t,st,wl,wi,ts,ss,ws,is,D⟩:=dB hd
  obtain ⟨ta,m,g,pr,o,rfl,hta,_,_,_,ho⟩:=iZ ht
  cases D.ev
  refine ⟨(),(),ta,_,_,(),rfl,aa.of hta,rfl,o,(),.inr (aa.of ho),rfl,Bi _,(),?_⟩
  simp only [if_true,Gr]
  by_cases hm:(h:Int)∈x.op
  ·rw [decide_eq_true hm] at k ⊢
   refine fg ⟨(),(),ta,_,_,(),rfl,aa.of hta,rfl,_,(),rfl,(),a,_,_,(),rfl,aa.of D.ha,rfl,_,(),rfl,?_⟩
   have e:decide ((h:Int)+(x.la:Int)<(d.hr:Int))=(true && decide (h+x.la<d.hr)):=by
    rw [Bool.true_and]
    by_cases q:h+x.la<d.hr
    ·rw [decide_eq_true q];exact decide_eq_true (by trivial)
    ·rw [decide_eq_false q];exact decide_eq_false (by trivial)
   exact Eq.mp (congrArg (fun b=>Q (.bl b) H) e.symm) k
  ·rw [decide_eq_false hm] at k ⊢
   exact ce k
end
end K55
namespace K55
open PySem L2
set_option maxHeartbeats 8000000
def gJ (p:KM.Fra):KM.Fra:=(-p.1,p.2)
theorem Fr.neg {c:Nat}{p:KM.Fra} (h:Fr c p):Fr c (gJ p):=by
 obtain ⟨a,b,q,g⟩:=(show Fb c p.1 p.2 from h)
 exact ⟨by show (-p.1).natAbs<_;rw [Int.natAbs_neg];exact a,b,q,by show Int.gcd (-p.1) p.2=1;rw [Int.neg_gcd];exact g⟩
theorem Fr.add {a b c:Nat}{p q:KM.Fra} (h:Fr a p) (k:Fr b q) (l:a+b+1≤c):Fr c (KM.ladd p q):=Fb.add' h k l
theorem Fr.tim {a b c:Nat}{p q:KM.Fra} (h:Fr a p) (k:Fr b q) (l:a+b≤c):Fr c (KM.lTim p q):=Fb.tim' h k l
theorem Fr.mono {a b:Nat}{p:KM.Fra} (h:Fr a p) (l:a≤b):Fr b p:=Fb.mono h l
theorem Fr.rd {c:Nat}{p:KM.Fra} (h:Fr c p):KM.Rd p:=HC h
theorem Fr.gb {c:Nat}{p:KM.Fra} (h:Fr c p):Gb c c p:=⟨h.sn,h.sd,h.pos⟩
section
variable {P:Program}{w:World}{K:PySem.W.Frag}{mg:Str→Option Value}{base:Heap}
inductive Cy (vs:List V) (H:Hp) (Q:VK):Prop
 | mk (o1 o2:Addr) (p q:KM.Fra) (c e:Nat) (g:Bool) (h0:vs=[.ref o1,.ref o2,.int (if g then 1 else -1)]) (h1:H o1=some (fr p)) (h2:H o2=some (fr q)) (h3:Fr c p) (h4:Fr e q) (h5:c+e≤4000) (h6:∀o H',Nw H o (fr (KM.ladd p (if g then q else gJ q))) H'→Q (.ref o) H')
def ES:Sp:=fun vs H Q _=>Cy  vs H Q
theorem uB (T:Txt K mg):aY P w K mg base CX0 2 T.l_plus_.f T.l_plus_.d ["_law_one", "_law_other", "_law_by_here"] ES:=by
 have G_l_fr:=#[(oH)]
 refine T.l_plus_.F.ok yU (fun vs H Q E h=>?_) (fun cdv A outer s H vs Q E hr h=>?_)
 ·obtain ⟨o1,o2,p,q,c,e,g,rfl,_⟩:=h
  rfl
 ·obtain ⟨o1,o2,p,q,c,e,g,rfl,h1,h2,fp,fq,hce,k⟩:=h
  refine ⟨_,#[ac 3 #[aB 4 #[G_l_fr,vv,T.l_fr_,#[[#[ak 8 (@bi _) #[ak 8 (@cz _) #[#[0,jw][#[()]]] #[#[1,hV][#[()]]]] #[ak 8 (@cz _) #[ak 8 (@cz _) #[2,qz] #[#[1,hV][#[()]]]] #[#[0,jw][#[()]]]]],#[ak 8 (@cz _) #[#[0,jw][#[()]]] #[#[1,hV][#[()]]]]]]]]],?_⟩
  have z1:Sz 4000 p.1:=fp.sn.mono (by trivial)
  have z2:Sz 4000 p.2:=fp.sd.mono (by trivial)
  have z3:Sz 4000 q.1:=fq.sn.mono (by trivial)
  have z4:Sz 4000 q.2:=fq.sd.mono (by trivial)
  have hp:0<p.2*q.2:=Int.mul_pos (by have:=fp.pos;trivial) (by have:=fq.pos;trivial)
  have zb:∀b:Bool,Sz 4000 (if b then (1:Int) else -1):=fun b=>by
   have:(if b then (1:Int) else -1).natAbs=1:=by cases b <;> rfl
   show (if b then (1:Int) else -1).natAbs<2 ^ 4000
   rw [this]
   exact Nat.one_lt_two_pow (by decide)
  have zq:Sz 4000 ((if g then (1:Int) else -1)*q.1):=by
   have:((if g then (1:Int) else -1)*q.1).natAbs=q.1.natAbs:=by cases g <;> simp
   show ((if g then (1:Int) else -1)*q.1).natAbs<2 ^ 4000
   rw [this]
   exact z3
  refine ⟨(),o1,_,_,(),rfl,aa.of h1,rfl,(),o2,_,_,(),rfl,aa.of h2,rfl,_,(),rfl,gN z1 z4,(),(),o2,_,_,(),rfl,aa.of h2,rfl,_,(),rfl,gN (zb g) z3,(),o1,_,_,(),rfl,aa.of h1,rfl,_,(),rfl,gN zq z2,_,(),rfl,(),o1,_,_,(),rfl,aa.of h1,rfl,(),o2,_,_,(),rfl,aa.of h2,rfl,_,(),rfl,gN z2 z4,_,(),hp,sW z2 z4,fun o H' n=>k o H' ?_⟩
  have e:KM.low (p.1*q.2+(if g then (1:Int) else -1)*q.1*p.2) (p.2*q.2)=KM.ladd p (if g then q else gJ q):=by
   cases g
   ·show KM.low (p.1*q.2+-1*q.1*p.2) (p.2*q.2)=KM.low (p.1*q.2+-q.1*p.2) (p.2*q.2)
    rw [Int.neg_one_mul]
   ·show KM.low (p.1*q.2+1*q.1*p.2) (p.2*q.2)=KM.low (p.1*q.2+q.1*p.2) (p.2*q.2)
    rw [Int.one_mul]
  rw [←e]
  exact n
end
end K55
namespace K55
open PySem L2
set_option maxHeartbeats 8000000
theorem ka {n:Nat} (h:n≤1000):((n:Int)).natAbs.log2<9000:=Nat.lt_of_le_of_lt (Nat.log2_le_self _) (by trivial)
theorem qB {a c:Nat}{z:KM.Fra} (h:Gb a c z) (g:Int.gcd z.1 z.2=1) {e:Nat} (h1:a≤e) (h2:c≤e):Fr e z:=⟨h.n.mono h1,h.d.mono h2,h.pos,g⟩
def pd (ls:List (List Nat)):aC:=⟨ls,0,[],[],[],[]⟩
section
variable {P:Program}{w:World}{K:PySem.W.Frag}{mg:Str→Option Value}{base:Heap}
inductive BL (vs:List V) (H:Hp) (Q:VK):Prop
 | mk (b nl:Addr) (t:Int) (ls:List (List Nat)) (hr:Nat) (h0:vs=[.ref b,.ref nl,.int (hr:Int)]) (h1:Bx H b t) (h2:0≤t) (h3:t≤800000) (h4:H nl=some (.lst (ls.map aI))) (h5:nl≠b) (h6:2≤ls.length) (h7:ls.length≤10) (h8:hr≤8) (h9:∀v x t' H',ao (Eb b) H H'→aJ ED H' v (qx x)→mN (pd ls) x→Bx H' b t'→t≤t'→t'≤t+40→Q v H')
def DV:Sp:=fun vs H Q _=>BL  vs H Q
theorem xV (T:Txt K mg):aY P w K mg base CX0 3 T.l_day_tie_.f T.l_day_tie_.d ["_law_box_here", "_law_names_here", "_law_hours"] DV:=by
 have G_l_take:=#[(iK)]
 have G_l_much:=#[(xI)]
 have G_l_gain:=#[(Cu)]
 have G_l_cost:=#[(xy)]
 refine T.l_day_tie_.F.ok du (fun vs H Q E h=>?_) (fun cdv A outer s H vs Q E hr h=>?_)
 ·obtain ⟨b,nl,t,ls,hr',rfl,_⟩:=h
  rfl
 ·obtain ⟨b,nl,t,ls,hr',rfl,B,ht0,ht1,hn,nnb,l2,l10,lh,k⟩:=h
  refine ⟨_,#[#[ja 2 (3) (4) _ _ _ _ _ _ _ _ _ _ _ rfl du.nd rfl rfl (by decide) gL fY #[[#[G_l_take,cR,T.l_take_,#[[#[0,bh],#[(),(),(@jL _ (K) (by rfl)),mB,T.b_len,(@cx),#[[#[1,cv]]]]]]],#[(),(),(@jL _ (K) (by rfl)),mB,T.b_len,(@cx),#[[#[1,cv]]]]]] (by kernel_rfl) (by rfl)] :: #[#[5,du.nd,jn,#[ak 8 (@iS _) #[ak 8 (@bi _) #[ak 8 (@bi _) #[3,gL] #[()]] #[G_l_take,cR,T.l_take_,#[[#[0,bh],#[ak 8 (@pD _) #[4,fY] #[()]]]]]] #[4,fY]]] :: #[#[ja 2 (6) (7) _ _ _ _ _ _ _ _ _ _ _ rfl du.nd rfl rfl (by decide) j7 jZ #[[#[#[eF 4 #[[#[()],#[()],#[()],#[()],#[()],#[2,jl]]]][#[G_l_take,cR,T.l_take_,#[[#[0,bh],#[()]]]]]!],#[G_l_take,cR,T.l_take_,#[[#[0,bh],#[()]]]]]] (by kernel_rfl) (by rfl)] :: #[#[8,du.nd,fC,#[eF 4 (@dc _)]] :: #[#[bL 8 PassesOwn.never rfl #[bG 6 qO T.b_range #[[#[2,jl]]] (by rfl)] #[9,du.nd,kf] #[ac 3 #[bH 8 #[PW.pt 3 #[me 7 #[aF 8 (@oJ _) #[7,jZ] #[()] #[(),()]] #[kh 4 #[aF 8 (@cw _) #[G_l_take,cR,T.l_take_,#[[#[0,bh],#[()]]]] #[()] #[(),()]]]]] #[ac 3 #[dn 4 (@cI _ (K) _ _ _ _ _ _ _ _ _ _ _ PySem.F.plainAttrs_list PySem.F.slot_list_append PySem.F.type_list_append (@cN _) #[8,fC] #[[#[9,kf]]] (by rfl) (by rfl) (by rfl) (by rfl) (by rfl) (by rfl)) (by rfl)]] (@bc _)]] (by intro _;rfl)] :: #[#[10,du.nd,kG,#[aD 5 #[[#[#[1,cv][#[3,gL]]!],#[#[1,cv][#[5,jn]]!],#[G_l_much,qh,T.l_much_,#[[#[0,bh]]]],#[G_l_gain,p7,T.l_gain_,#[[#[0,bh]]]],#[G_l_cost,qo,T.l_cost_,#[[#[0,bh]]]]]]]] :: #[ac 3 #[aB 4 #[ak 8 (@kZ _) #[10,kG] #[aD 5 #[[#[6,j7],#[bQ 9 (@cH _ (K) (by rfl)) qU T.b_tuple (@cb) #[[#[8,fC]]] (by decide) (by decide) (by rfl) (by rfl)]]]]]]]]]]]]],?_⟩
  have ll:(ls.map aI).length=ls.length:=List.length_map ..
  refine AM fun Q0 n0=>⟨(),(),nl,(),.inl (ah.of hn),b,_,t,rfl,B,by trivial,ka (by trivial),by trivial,by trivial,fun j t1 H1 j0 j1 h1a h1b s1 B1=>⟨(),nl,(),.inl (ah.of (s1.old _ _ nnb hn)),n0 _ _ _ ?_⟩⟩
  obtain ⟨j,rfl⟩:=Int.eq_ofNat_of_zero_le j0
  have hn1:=s1.old _ _ nnb hn
  have hj:j<ls.length:=by trivial
  refine ik fun Q1 n1=>⟨(),_,(),rfl,(),(),_,(),rfl,b,_,t1,rfl,B1,by trivial,?_,by trivial,by trivial,fun g t2 H2 g0 g1 h2a h2b s2 B2=>⟨_,(),rfl,(),_,(),rfl,by trivial,n1 _ _ ?_⟩⟩
  ·rw [ll,show ((ls.length:Nat):Int) - 1=((ls.length - 1:Nat):Int) by trivial]
   exact ka (by trivial)
  obtain ⟨jo,ejo,hjo⟩:∃n:Nat,((j:Int)+1+g) % (((ls.map aI).length:Nat):Int)=(n:Int)∧n<ls.length:=⟨(((j:Int)+1+g) % (((ls.map aI).length:Nat):Int)).toNat,by
   rw [Int.toNat_of_nonneg (Int.emod_nonneg _ (by trivial))],by
   have h1:=Int.emod_nonneg ((j:Int)+1+g) (show (((ls.map aI).length:Nat):Int)≠0 by trivial)
   have h2:=Int.emod_lt_of_pos ((j:Int)+1+g) (show 0<(((ls.map aI).length:Nat):Int) by trivial)
   trivial⟩
  have hn2:=s2.old _ _ nnb hn1
  refine AM fun Q2 n2=>⟨(),(by show 6≤10000;decide),fun p3 H3 m3=>⟨(),b,6,t2,rfl,B2.same m3.sm,by decide,by decide,by trivial,by trivial,fun x t4 H4 x0 x1 h4a h4b s4 B4=>?_⟩⟩
  have n3b:p3≠b:=fun e=>B2.th (e▸m3.fr)
  obtain ⟨la,ela,hla⟩:∃la:Nat,mh [V.int 0,.int 0,.int 1,.int 1,.int 2,.int (hr':Int)] x=some (.int (la:Int))∧la≤8:=by
   rcases (show x=0∨x=1∨x=2∨x=3∨x=4∨x=5 by trivial) with rfl | rfl | rfl | rfl | rfl | rfl
   ·exact ⟨0,rfl,by trivial⟩
   ·exact ⟨0,rfl,by trivial⟩
   ·exact ⟨1,rfl,by trivial⟩
   ·exact ⟨1,rfl,by trivial⟩
   ·exact ⟨2,rfl,by trivial⟩
   ·exact ⟨hr',rfl,lh⟩
  refine ⟨p3,_,_,(),rfl,ah.of (s4.old _ _ n3b m3.at'),ela,(),b,3,t4,rfl,B4,by decide,by decide,by trivial,by trivial,fun y t5 H5 y0 y1 h5a h5b s5 B5=>n2 _ _ _ ?_⟩
  have s25:ao (Eb b) H2 H5:=(m3.sm.toE.trans s4).trans s5
  have s05:ao (Eb b) H H5:=(s1.trans s2).trans s25
  have hn5:=s25.old _ _ nnb hn2
  refine aX fun D6 n6=>⟨(by show 0≤10000;decide),fun L H6 m6=>n6 _ _ ?_⟩
  have nLb:L≠b:=fun e=>B5.th (e▸m6.fr)
  have fL:H L=none:=s05.none nLb m6.fr
  have nnL:nl≠L:=fun e=>by
   have z:=m6.fr
   rw [←e,hn5] at z
   cases z
  refine aX fun D7 n7=>⟨(),(),by trivial,by trivial,fQ (fun i σ H'=>xm fun (v9 v10:Option V) (op:List Int) (t':Int)=>σ=[some (.ref b),some (.ref nl),some (.int (hr':Int)),some (.int (j:Int)),some (.int (((ls.map aI).length:Nat):Int)),some (.int (((j:Int)+1+g) % (((ls.map aI).length:Nat):Int))),some (.int (la:Int)),some (.int y),some (.ref L),v9,v10]∧H' L=some (.lst (op.map V.int))∧(op.length≤i∧∀z∈op,0≤z∧z<8)∧Bx H' b t'∧t5≤t'∧t'≤t5+i∧ao (Eb b) H H'∧H' nl=some (.lst (ls.map aI))) ⟨_,_,[],t5,rfl,m6.at',⟨Nat.le_refl _,fun z hz=>by cases hz⟩,B5.same m6.sm,by trivial,by trivial,s05.trans m6.sm.toE,m6.sm _ _ hn5⟩ ?_ ?_⟩
  ·rintro i σ J hi ⟨v9,v10,op,t6,rfl,hL,⟨lo,lq⟩,BJ,h6a,h6b,sJ,hnJ⟩
   have hi8:i<8:=by trivial
   refine i0 (t:=EQ _ _ _) fun DB nB=>?_
   have app:∀J1 t7,Bx J1 b t7→t6≤t7→t7≤t6+1→ao (Eb b) H J1→J1 L=some (.lst (op.map V.int))→J1 nl=some (.lst (ls.map aI))→∀J2,Ch J1 L (op.map V.int++[.int (0+(i:Int))]) J2→DB.nx [some (.ref b),some (.ref nl),some (.int (hr':Int)),some (.int (j:Int)),some (.int (((ls.map aI).length:Nat):Int)),some (.int (((j:Int)+1+g) % (((ls.map aI).length:Nat):Int))),some (.int (la:Int)),some (.int y),some (.ref L),some (.int (0+(i:Int))),v10] J2:=fun J1 t7 B1 ha hb s1 hL1 hn1 J2 c2=>by
    refine nB _ _ ⟨_,_,op++[0+(i:Int)],t7,rfl,by rw [c2.at',List.map_append];rfl,⟨by simp;trivial,fun z hz=>(List.mem_append.mp hz).elim (lq z) fun h=>by rw [List.mem_singleton.mp h];trivial⟩,B1.ch c2 (Ne.symm nLb),by trivial,by trivial,s1.ch c2 fL,c2.ol _ _ nnL hn1⟩
   have go:∀J1 t7,Bx J1 b t7→t6≤t7→t7≤t6+1→ao (Eb b) H J1→J1 L=some (.lst (op.map V.int))→J1 nl=some (.lst (ls.map aI))→DB.nx [some (.ref b),some (.ref nl),some (.int (hr':Int)),some (.int (j:Int)),some (.int (((ls.map aI).length:Nat):Int)),some (.int (((j:Int)+1+g) % (((ls.map aI).length:Nat):Int))),some (.int (la:Int)),some (.int y),some (.ref L),some (.int (0+(i:Int))),v10] J1:=fun J1 t7 B1 ha hb s1 hL1 hn1=>
    nB _ _ ⟨_,_,op,t7,rfl,hL1,⟨by trivial,lq⟩,B1,by trivial,by trivial,s1,hn1⟩
   refine ⟨(),_,(),rfl,(),bZ (fun c=>⟨(),.inl ⟨rfl,_,ah.of hL⟩,(),L,_,(),rfl,hL,by rw [List.length_map];trivial,fun J2 c2=>app J t6 BJ (by trivial) (by trivial) sJ hL hnJ J2 c2⟩) fun c=>⟨(),b,2,t6,rfl,BJ,by decide,by decide,by trivial,by trivial,fun z t7 J1 z0 z1 h7a h7b s7 B7=>⟨rfl,(),bZ (fun c=>⟨(),.inl ⟨rfl,_,ah.of (s7.old _ _ nLb hL)⟩,(),L,_,(),rfl,s7.old _ _ nLb hL,by rw [List.length_map];trivial,fun J2 c2=>app J1 t7 B7 (by trivial) (by trivial) (sJ.trans s7) (s7.old _ _ nLb hL) (s7.old _ _ nnb hnJ) J2 c2⟩) fun c=>go J1 t7 B7 (by trivial) (by trivial) (sJ.trans s7) (s7.old _ _ nLb hL) (s7.old _ _ nnb hnJ)⟩⟩⟩
  rintro σ J ⟨v9,v10,op,t6,rfl,hL,⟨lo,lq⟩,BJ,h6a,h6b,sJ,hnJ⟩
  refine n7 _ _ ?_
  have lo8:op.length≤8:=by trivial
  have e1:(ls.map aI)[j]?=some (aI ls[j]):=by rw [List.getElem?_map,List.getElem?_eq_getElem hj];rfl
  have e2:(ls.map aI)[jo]?=some (aI ls[jo]):=by rw [List.getElem?_map,List.getElem?_eq_getElem hjo];rfl
  have lt6:t6≤t5+8:=by trivial
  refine ik fun Q8 n8=>⟨(),(),nl,_,_,(),rfl,ah.of hnJ,gu e1,(),(),nl,_,_,(),rfl,ah.of hnJ,by rw [ejo];exact gu e2,(),b,t6,rfl,BJ,by trivial,by trivial,fun o1 z1 t7 J1 s7 ho1 g1' l1 c1 B7 h7a h7b=>⟨(),b,t7,rfl,B7,by trivial,by trivial,fun o2 z2 t8 J2 s8 ho2 g2' l2' c2 B8 h8a h8b=>⟨(),b,t8,rfl,B8,by trivial,by trivial,fun o3 z3 t9 J3 s9 ho3 g3' l3 c3 B9 h9a h9b=>⟨(by show 5≤10000;decide),fun q4 J4 m4=>n8 _ _ ?_⟩⟩⟩⟩
  have s14:ao (Eb b) J1 J4:=(s8.trans s9).trans m4.sm.toE
  have s24:ao (Eb b) J2 J4:=s9.trans m4.sm.toE
  have s04:ao (Eb b) J J4:=s7.trans s14
  refine ⟨(),(),(),L,(),ah.of (s04.old _ _ nLb hL),fun q5 J5 m5=>⟨(by show 2≤10000;decide),fun q6 J6 m6'=>⟨q4,q6,_,(),rfl,(m5.sm.trans m6'.sm) _ _ m4.at',m6'.at',(by show 5+2≤10000;decide),fun q7 J7 s7' h7'=>?_⟩⟩⟩
  have s47:ad J4 J7:=(m5.sm.trans m6'.sm).trans s7'
  have h7':J7 q7=some (.tup [aI ls[j],aI ls[jo],.ref o1,.ref o2,.ref o3,.int (la:Int),.ref q5]):=h7'
  let xx:eV:=⟨ls[j],ls[jo],z1,z2,z3,la,op⟩
  refine k _ xx t9 J7 (sJ.trans (s04.trans s47.toE)) ?_ ⟨List.getElem_mem hj,List.getElem_mem hjo,qB g1' c1 (by decide) (by decide),l1,qB g2' c2 (by decide) (by decide),qB g3' c3 (by decide) (by decide),by show la≤100;trivial,g1',lo8,lq⟩ ((B9.same m4.sm).same s47) (by trivial) (by trivial)
  exact .tup h7' (.cons (.str _) (.cons (.str _) (.cons (lZ (s47 _ _ (s14.tup _ _ ho1))) (.cons (lZ (s47 _ _ (s24.tup _ _ ho2))) (.cons (lZ (s47 _ _ (m4.sm _ _ ho3))) (.cons (.int _) (.cons (.tup ((m6'.sm.trans s7') _ _ m5.at') (y8 _)) .nil)))))))
end
end K55
namespace K55
open PySem L2
set_option maxHeartbeats 16000000
def jC (H:Hp) (a:Addr) (ds:List PyData):Prop:=∃xs,H a=some (.lst xs)∧aA ED H xs ds
theorem jC.keep {E:Addr→Prop}{H H':Hp}{a:Addr}{ds:List PyData} (h:jC H a ds) (s:ao E H H') (n:¬E a):jC H' a ds:=by
 obtain ⟨xs,h1,h2⟩:=h
 exact ⟨xs,s.old _ _ n h1,h2.mono (fc s.tup)⟩
theorem jC.app {H H':Hp}{a:Addr}{ds:List PyData}{xs:List V}{v:V}{d:PyData} (hx:H a=some (.lst xs)) (ha:aA ED H xs ds) (hv:aJ ED H v d) (c:Ch H a (xs++[v]) H'):jC H' a (ds++[d]):=
 ⟨_,c.at',(ha.append (.cons hv .nil)).mono (fc fun b us e=>c.tup e hx)⟩
theorem uD {H H':Hp}{a:Addr}{xs ys:List V} (hx:H a=some (.lst ys)) (c:Ch H a xs H'):ao (fun b=>b=a) H H':=⟨fun b o n h=>c.ol b o n h,fun b us h=>c.tup h hx⟩
theorem vn {α β:Type} (f:α→β) (l:List α) (j:Nat):(l.map f).eraseIdx j=(l.eraseIdx j).map f:=(uF f l j).symm
theorem rl {E:Addr→Prop}{H:Hp}:∀(n:Nat) {xs:List V}{ds:List PyData},aA E H xs ds→aA E H (xs.take n) (ds.take n)
 | 0,_,_,_=>.nil
 | n+1,_,_,.nil=>.nil
 | n+1,_,_,.cons h r=>.cons h (rl n r)
theorem mN.of {d e:aC}{x:eV} (h:mN d x) (q:d.pl=e.pl):mN e x:=⟨q▸h.b,q▸h.e,h.m,h.m0,h.g,h.p,h.l,h.mg,h.ol,h.ob⟩
theorem rQ.of {d e:aC}{x:iU} (h:rQ d x) (q:d.pl=e.pl):rQ e x:=⟨q▸h.b,h.m,h.m0,h.k,h.mg⟩
theorem tN.of {d e:aC}{x:lG} (h:tN d x) (q:d.pl=e.pl) (r:d.hr=e.hr):tN e x:=⟨q▸h.b,r▸h.h,h.m,h.m0,h.p,h.mg⟩
theorem um.of {d e:aC}{x:mO} (h:um d x) (q:d.pl=e.pl) (r:d.hr=e.hr):um e x:=⟨q▸h.b,r▸h.h,h.a⟩
structure Dw (H0:Hp) (b nl L6 L7 L8 L9:Addr) (ls:List (List Nat)) (ts:List eV) (ss:List iU) (ws:List lG) (wi:List mO) (t:Int) (H:Hp):Prop where
 se:ao (Eb b) H0 H
 bx:Bx H b t
 nl:H nl=some (.lst (ls.map aI))
 a6:jC H L6 (ts.map qx)
 a7:jC H L7 (ss.map vc)
 a8:jC H L8 (ws.map wH)
 a9:jC H L9 (wi.map vX)
structure Ds (H0:Hp) (b nl L6 L7 L8 L9:Addr):Prop where
 nb:nl≠b∧L6≠b∧L7≠b∧L8≠b∧L9≠b
 n6:nl≠L6∧L7≠L6∧L8≠L6∧L9≠L6
 n7:nl≠L7∧L8≠L7∧L9≠L7
 n8:nl≠L8∧L9≠L8
 n9:nl≠L9
 f:H0 L6=none∧H0 L7=none∧H0 L8=none∧H0 L9=none
section
variable {H0:Hp}{b nl L6 L7 L8 L9:Addr}{ls:List (List Nat)}{ts:List eV}{ss:List iU}{ws:List lG}{wi:List mO}{t t':Int}{H H':Hp}
theorem Dw.box (d:Dw H0 b nl L6 L7 L8 L9 ls ts ss ws wi t H) (n:Ds H0 b nl L6 L7 L8 L9) (s:ao (Eb b) H H') (B:Bx H' b t'):Dw H0 b nl L6 L7 L8 L9 ls ts ss ws wi t' H':=
 ⟨d.se.trans s,B,s.old _ _ n.nb.1 d.nl,d.a6.keep s n.nb.2.1,d.a7.keep s n.nb.2.2.1,d.a8.keep s n.nb.2.2.2.1,d.a9.keep s n.nb.2.2.2.2⟩
theorem Dw.sm (d:Dw H0 b nl L6 L7 L8 L9 ls ts ss ws wi t H) (n:Ds H0 b nl L6 L7 L8 L9) (s:ad H H'):Dw H0 b nl L6 L7 L8 L9 ls ts ss ws wi t H':=d.box n s.toE (d.bx.same s)
theorem nP {a:Addr} (s:ao (Eb b) H0 H) (f:H0 a=none) (c:ao (fun x=>x=a) H H'):ao (Eb b) H0 H':=
 ⟨fun x o n h=>c.old x o (fun e=>by rw [e,f] at h;cases h) (s.old x o n h),fun x us h=>c.tup _ _ (s.tup _ _ h)⟩
end
section
variable {P:Program}{w:World}{K:PySem.W.Frag}{mg:Str→Option Value}{base:Heap}
inductive Cf (vs:List V) (H:Hp) (Q:VK):Prop
 | mk (b:Addr) (t:Int) (h0:vs=[.ref b]) (h1:Bx H b t) (h2:0≤t) (h3:t≤700000) (h4:∀v d t' H',ao (Eb b) H H'→aJ ED H' v (eH d)→b7 d→d.ws.length≤4→d.wi.length≤6→1≤d.ws.length→Bx H' b t'→t≤t'→t'≤t+1500→Q v H')
def Dx:Sp:=fun vs H Q _=>Cf  vs H Q
theorem BD (T:Txt K mg):aY P w K mg base CX0 4 T.l_day_.f T.l_day_.d ["_law_box_here"] Dx:=by
 have G_l_take:=#[(iK)]
 have G_l_much:=#[(xI)]
 have G_l_cost:=#[(xy)]
 have G_l_fr:=#[(oH)]
 have G_l_names:=#[(AD)]
 have G_l_day_tie:=#[(xV)]
 refine T.l_day_.F.ok br (fun vs H Q E h=>?_) (fun cdv A outer s H vs Q E hr h=>?_)
 ·obtain ⟨b,t,rfl,_⟩:=h
  rfl
 ·obtain ⟨b,t,rfl,B,ht0,ht1,k⟩:=h
  refine ⟨_,#[#[xq 2 (1) (2) (3) _ _ _ _ _ _ _ _ _ _ _ _ _ _ rfl br.nd rfl rfl rfl (by decide) (by decide) (by decide) ci cn bY #[[#[G_l_take,aM,T.l_take_,#[[#[0,ax],#[()]]]],#[ak 8 (@bi _) #[()] #[G_l_take,aM,T.l_take_,#[[#[0,ax],#[()]]]]],#[ak 8 (@bi _) #[()] #[G_l_take,aM,T.l_take_,#[[#[0,ax],#[()]]]]]]] (by kernel_rfl) (by rfl)] :: #[#[4,br.nd,fj,#[()]] :: #[#[bH 8 #[aF 8 (@cw _) #[1,ci] #[()] #[(),()]] #[ac 3 #[cD 6 #[aD 5 #[[#[()],#[()]]]] (@aQ _ (K) _ _ _ _ (2) rfl #[af 5 #[2,br.nd,cn] #[af 5 #[3,br.nd,bY] (@aW _) (by rfl)] (by rfl)] (by rfl) (by rfl) (by rfl)) (by rfl) (by rfl) (by rfl)]] #[ac 3 #[bH 8 #[aF 8 (@gy _) #[1,ci] #[()] #[(),()]] #[ac 3 #[2,br.nd,cn,#[()]]] #[ac 3 #[bH 8 #[aF 8 (@gy _) #[1,ci] #[()] #[(),()]] #[ac 3 #[ja 2 (3) (4) _ _ _ _ _ _ _ _ _ _ _ rfl br.nd rfl rfl (by decide) bY fj #[[#[ak 8 (@bi _) #[()] #[G_l_take,aM,T.l_take_,#[[#[0,ax],#[()]]]]],#[()]]] (by kernel_rfl) (by rfl)]] #[ac 3 #[bH 8 #[aF 8 (@cw _) #[1,ci] #[()] #[(),()]] #[ac 3 #[3,br.nd,bY,#[()]]] (@bc _)]]]]]]] :: #[#[cD 6 #[aD 5 #[[#[G_l_names,sQ,T.l_names_,#[[#[0,ax],#[2,cn]]]],#[eF 4 (@dc _)],#[eF 4 (@dc _)],#[eF 4 (@dc _)],#[eF 4 (@dc _)]]]] (@aQ _ (K) _ _ _ _ (5) rfl #[af 5 #[5,br.nd,bU] #[af 5 #[6,br.nd,ju] #[af 5 #[7,br.nd,ib] #[af 5 #[8,br.nd,iX] #[af 5 #[9,br.nd,ic] (@aW _) (by rfl)] (by rfl)] (by rfl)] (by rfl)] (by rfl)] (by rfl) (by rfl) (by rfl)) (by rfl) (by rfl) (by rfl)] :: #[#[bL 8 PassesOwn.never rfl #[bG 6 hJ T.b_range #[[#[ak 8 (@dR _) #[ak 8 (@bi _) #[ak 8 (@bi _) #[()] #[G_l_take,aM,T.l_take_,#[[#[0,ax],#[4,fj]]]]] #[ak 8 (@dR _) #[()] #[bQ 9 (@iH _) jQ T.b_int (@dY) #[[#[bO 8 (@cw _) #[1,ci] #[()] #[(),()]]]] (by decide) (by decide) (by rfl) (by rfl)]]] #[bQ 9 (@iH _) jQ T.b_int (@dY) #[[#[bO 8 (@oJ _) #[2,cn] #[()] #[(),()]]]] (by decide) (by decide) (by rfl) (by rfl)]]]] (by rfl)] #[10,br.nd,jN] #[ac 3 #[dn 4 (@cI _ (K) _ _ _ _ _ _ _ _ _ _ _ PySem.F.plainAttrs_list PySem.F.slot_list_append PySem.F.type_list_append (@cN _) #[6,ju] #[[#[G_l_day_tie,qP,T.l_day_tie_,#[[#[0,ax],#[5,bU],#[3,bY]]]]]] (by rfl) (by rfl) (by rfl) (by rfl) (by rfl) (by rfl)) (by rfl)]] (by intro _;rfl)] :: #[#[11,br.nd,jI,#[bQ 9 (@oZ _ (K) (by rfl)) vY T.b_list (@fW) #[[#[5,bU]]] (by decide) (by decide) (by rfl) (by rfl)]] :: #[#[bL 8 PassesOwn.never rfl #[bG 6 hJ T.b_range #[[#[(),(),(@yP _ rfl),w9,T.b_min,(@yb),#[[#[2,cn],#[ak 8 (@bi _) #[G_l_take,aM,T.l_take_,#[[#[0,ax],#[()]]]] #[ak 8 (@dR _) #[()] #[bQ 9 (@iH _) jQ T.b_int (@dY) #[[#[bO 8 (@cw _) #[1,ci] #[()] #[(),()]]]] (by decide) (by decide) (by rfl) (by rfl)]]]]]]]] (by rfl)] #[10,br.nd,jN] #[#[12,br.nd,mW,#[#[eF 4 #[[#[aD 5 #[[#[()],#[()]]]],#[aD 5 #[[#[()],#[()]]]],#[aD 5 #[[#[()],#[()]]]],#[aD 5 #[[#[()],#[()]]]],#[G_l_fr,pZ,T.l_fr_,#[[#[G_l_take,aM,T.l_take_,#[[#[0,ax],#[()]]]],#[()]]]]]]][#[G_l_take,aM,T.l_take_,#[[#[0,ax],#[()]]]]]!]] :: #[ac 3 #[dn 4 (@cI _ (K) _ _ _ _ _ _ _ _ _ _ _ PySem.F.plainAttrs_list PySem.F.slot_list_append PySem.F.type_list_append (@cN _) #[7,ib] #[[#[aD 5 #[[(@cI _ (K) _ _ _ _ _ _ _ _ _ _ _ PySem.F.plainAttrs_list PySem.F.slot_list_pop PySem.F.type_list_pop (@Cq _) #[11,jI] #[[#[G_l_take,aM,T.l_take_,#[[#[0,ax],#[(),(),(@jL _ (K) (by rfl)),xg,T.b_len,(@cx),#[[#[11,jI]]]]]]]]] (by rfl) (by rfl) (by rfl) (by rfl) (by rfl) (by rfl)),#[G_l_much,nF,T.l_much_,#[[#[0,ax]]]],#[12,mW]]]]]] (by rfl) (by rfl) (by rfl) (by rfl) (by rfl) (by rfl)) (by rfl)]]] (by intro _;rfl)] :: #[#[bL 8 PassesOwn.never rfl #[bG 6 hJ T.b_range #[[#[ak 8 (@bi _) #[()] #[G_l_take,aM,T.l_take_,#[[#[0,ax],#[()]]]]]]] (by rfl)] #[10,br.nd,jN] #[#[ja 2 (13) (14) _ _ _ _ _ _ _ _ _ _ _ rfl br.nd rfl rfl (by decide) mw mV #[[#[#[5,bU][#[G_l_take,aM,T.l_take_,#[[#[0,ax],#[2,cn]]]]]!],#[G_l_take,aM,T.l_take_,#[[#[0,ax],#[3,bY]]]]]] (by kernel_rfl) (by rfl)] :: #[ac 3 #[dn 4 (@cI _ (K) _ _ _ _ _ _ _ _ _ _ _ PySem.F.plainAttrs_list PySem.F.slot_list_append PySem.F.type_list_append (@cN _) #[8,iX] #[[#[aD 5 #[[#[13,mw],#[14,mV],#[G_l_much,nF,T.l_much_,#[[#[0,ax]]]],#[G_l_cost,ub,T.l_cost_,#[[#[0,ax]]]]]]]]] (by rfl) (by rfl) (by rfl) (by rfl) (by rfl) (by rfl)) (by rfl)]]] (by intro _;rfl)] :: #[#[bL 8 PassesOwn.never rfl #[bG 6 hJ T.b_range #[[#[ak 8 (@bi _) #[G_l_take,aM,T.l_take_,#[[#[0,ax],#[()]]]] #[ak 8 (@dR _) #[()] #[bQ 9 (@iH _) jQ T.b_int (@dY) #[[#[bO 8 (@cw _) #[1,ci] #[()] #[(),()]]]] (by decide) (by decide) (by rfl) (by rfl)]]]]] (by rfl)] #[10,br.nd,jN] #[#[15,br.nd,lV,#[G_l_fr,pZ,T.l_fr_,#[[#[ak 8 (@bi _) #[()] #[G_l_take,aM,T.l_take_,#[[#[0,ax],#[()]]]]],#[ak 8 (@bi _) #[()] #[G_l_take,aM,T.l_take_,#[[#[0,ax],#[()]]]]]]]]] :: #[ac 3 #[dn 4 (@cI _ (K) _ _ _ _ _ _ _ _ _ _ _ PySem.F.plainAttrs_list PySem.F.slot_list_append PySem.F.type_list_append (@cN _) #[9,ic] #[[#[aD 5 #[[#[#[5,bU][#[G_l_take,aM,T.l_take_,#[[#[0,ax],#[2,cn]]]]]!],#[G_l_take,aM,T.l_take_,#[[#[0,ax],#[3,bY]]]],#[15,lV]]]]]] (by rfl) (by rfl) (by rfl) (by rfl) (by rfl) (by rfl)) (by rfl)]]] (by intro _;rfl)] :: #[ac 3 #[aB 4 #[aD 5 #[[#[bQ 9 (@cH _ (K) (by rfl)) fb T.b_tuple (@cb) #[[#[5,bU]]] (by decide) (by decide) (by rfl) (by rfl)],#[3,bY],#[bQ 9 (@cH _ (K) (by rfl)) fb T.b_tuple (@cb) #[[#[cZ 10 (@oC _ (K) (by rfl)) #[6,ju] (@d9 _) #[dk 3 #[()]]]]] (by decide) (by decide) (by rfl) (by rfl)],#[bQ 9 (@cH _ (K) (by rfl)) fb T.b_tuple (@cb) #[[#[7,ib]]] (by decide) (by decide) (by rfl) (by rfl)],#[bQ 9 (@cH _ (K) (by rfl)) fb T.b_tuple (@cb) #[[#[8,iX]]] (by decide) (by decide) (by rfl) (by rfl)],#[bQ 9 (@cH _ (K) (by rfl)) fb T.b_tuple (@cb) #[[#[9,ic]]] (by decide) (by decide) (by rfl) (by rfl)]]]]]]]]]]]]]]],?_⟩
  refine aX fun D0 n0=>⟨(),b,16,t,rfl,B,by decide,by decide,by trivial,by trivial,fun kd t1 H1 kd0 kd1 h1a h1b s1 B1=>⟨(),b,2,t1,rfl,B1,by decide,by decide,by trivial,by trivial,fun x1 t2 H2 x10 x11 h2a h2b s2 B2=>⟨_,(),rfl,(),b,3,t2,rfl,B2,by decide,by decide,by trivial,by trivial,fun x2 t3 H3 x20 x21 h3a h3b s3 B3=>⟨_,(),rfl,_,_,(),n0 _ _ ?_⟩⟩⟩⟩
  have s03:ao (Eb b) H H3:=(s1.trans s2).trans s3
  obtain ⟨mn,emn,mn1,mn3⟩:∃n:Nat,2+x1=(n:Int)∧2≤n∧n≤3:=⟨(2+x1).toNat,by trivial,by trivial,by trivial⟩
  obtain ⟨hn,ehn,hn1,hn4⟩:∃n:Nat,2+x2=(n:Int)∧2≤n∧n≤4:=⟨(2+x2).toNat,by trivial,by trivial,by trivial⟩
  refine aX fun D1 n1=>n1 _ _ ?_
  refine A8 (fun σ' H'=>∃(many hours mo:Nat) (t':Int) (v10 v11 v12 v13 v14 v15 v5 v6 v7 v8 v9:Option V),σ'=[some (.ref b),some (.int kd),some (.int (many:Int)),some (.int (hours:Int)),some (.int (mo:Int)),v5,v6,v7,v8,v9,v10,v11,v12,v13,v14,v15]∧1≤many∧many≤5∧1≤hours∧hours≤8∧1≤mo∧mo≤4∧ao (Eb b) H H'∧Bx H' b t'∧t3≤t'∧t'≤t3+1) ?_ fun rest=>?_
  case refine_2=>
   refine ⟨(),rfl,(),bZ (fun c=>⟨(by show 2≤10000;decide),fun p H4 m4=>⟨p,(),aa.of m4.at',rfl,_,(),_,(),rfl,rest _ _ ⟨5,2,4,t3,_,_,_,_,_,_,_,_,_,_,(),by trivial,by trivial,by trivial,by trivial,by trivial,by trivial,s03.trans m4.sm.toE,B3.same m4.sm,by trivial,by trivial⟩⟩⟩) fun c=>?_⟩
   refine ⟨(),_,(),rfl,(),bZ (fun c=>rest _ _ ⟨1,hn,4,t3,_,_,_,_,_,_,_,_,_,_,_,(by rw [←ehn];rfl),by trivial,by trivial,by trivial,by trivial,by trivial,by trivial,s03,B3,by trivial,by trivial⟩) fun c=>?_⟩
   refine ⟨(),_,(),rfl,(),bZ (fun c=>⟨(),b,4,t3,rfl,B3,by decide,by decide,by trivial,by trivial,fun x3 t4 H4 x30 x31 h4a h4b s4 B4=>⟨_,(),rfl,_,(),?_⟩⟩) fun c=>?_⟩
   ·obtain ⟨hh,ehh,hh1,hh8⟩:∃n:Nat,5+x3=(n:Int)∧1≤n∧n≤8:=⟨(5+x3).toNat,by trivial,by trivial,by trivial⟩
    exact rest _ _ ⟨mn,hh,2,t4,_,_,_,_,_,_,_,_,_,_,_,(by rw [←emn,←ehh];rfl),by trivial,by trivial,by trivial,by trivial,by trivial,by trivial,s03.trans s4,B4,by trivial,by trivial⟩
   refine ⟨(),rfl,(),bZ (fun c=>rest _ _ ⟨mn,1,4,t3,_,_,_,_,_,_,_,_,_,_,_,(by rw [←emn];rfl),by trivial,by trivial,by trivial,by trivial,by trivial,by trivial,s03,B3,by trivial,by trivial⟩) fun c=>rest _ _ ⟨mn,hn,4,t3,_,_,_,_,_,_,_,_,_,_,_,(by rw [←emn,←ehn];rfl),by trivial,by trivial,by trivial,by trivial,by trivial,by trivial,s03,B3,by trivial,by trivial⟩⟩
  rintro σ' H4 ⟨many,hours,mo,t4,v10,v11,v12,v13,v14,v15,v5,v6,v7,v8,v9,rfl,mn1',mn5,hr1,hr8,mo1,mo4,s04,B4,h4a,h4b⟩
  refine aX fun D2 n2=>⟨(),(),b,(many:Int),t4,rfl,B4,by trivial,by trivial,by trivial,by trivial,fun nl ls t5 H5 fnl s5 hnl lls nm nd B5 h5a h5b=>⟨(by show 0≤10000;decide),fun L6 H6 m6=>⟨(by show 0≤10000;decide),fun L7 H7 m7=>⟨(by show 0≤10000;decide),fun L8 H8 m8=>⟨(by show 0≤10000;decide),fun L9 H9 m9=>⟨(by show 5≤10000;decide),fun q Ha ma=>⟨q,(),aa.of ma.at',rfl,_,(),_,(),_,(),_,(),_,(),rfl,n2 _ _ ?_⟩⟩⟩⟩⟩⟩⟩
  have nn:nl≠b:=fun e=>B4.th (e▸fnl)
  have s45:ao (Eb b) H4 H5:=s5
  have B9:Bx H9 b t5:=(((B5.same m6.sm).same m7.sm).same m8.sm).same m9.sm
  have s5a:ad H5 Ha:=(((m6.sm.trans m7.sm).trans m8.sm).trans m9.sm).trans ma.sm
  have fr5:∀{L:Addr},H5 L=none→H L=none:=fun {L} f=>(s04.trans s5).none (fun e=>B5.th (e▸f)) f
  have f6:=m6.fr
  have f7:H5 L7=none:=m6.sm.free m7.fr
  have f8:H5 L8=none:=(m6.sm.trans m7.sm).free m8.fr
  have f9:H5 L9=none:=((m6.sm.trans m7.sm).trans m8.sm).free m9.fr
  have neN:∀{G:Hp}{x y:Addr}{o:HO},G x=some o→G y=none→x≠y:=fun h f e=>by rw [e,f] at h;cases h
  have ds:Ds H b nl L6 L7 L8 L9:=⟨⟨nn,fun e=>B5.th (e▸f6),fun e=>B5.th (e▸f7),fun e=>B5.th (e▸f8),fun e=>B5.th (e▸f9)⟩,⟨neN hnl f6,Ne.symm (neN m6.at' m7.fr),Ne.symm (neN (m7.sm _ _ m6.at') m8.fr),Ne.symm (neN ((m7.sm.trans m8.sm) _ _ m6.at') m9.fr)⟩,⟨neN hnl f7,Ne.symm (neN m7.at' m8.fr),Ne.symm (neN (m8.sm _ _ m7.at') m9.fr)⟩,⟨neN hnl f8,Ne.symm (neN m8.at' m9.fr)⟩,neN hnl f9,fr5 f6,fr5 f7,fr5 f8,fr5 f9⟩
  have ll:(ls.map aI).length=many:=by rw [List.length_map,lls];trivial
  have lls':ls.length=many:=by rw [lls];trivial
  have dw0:Dw H b nl L6 L7 L8 L9 ls [] [] [] [] t5 Ha:=⟨(s04.trans s5).trans s5a.toE,B9.same ma.sm,s5a _ _ hnl,⟨[],(((m7.sm.trans m8.sm).trans m9.sm).trans ma.sm) _ _ m6.at',.nil⟩,⟨[],((m8.sm.trans m9.sm).trans ma.sm) _ _ m7.at',.nil⟩,⟨[],(m9.sm.trans ma.sm) _ _ m8.at',.nil⟩,⟨[],ma.sm _ _ m9.at',.nil⟩⟩
  have if01:∀c:Bool,0≤(if c=true then (1:Int) else 0)∧(if c=true then (1:Int) else 0)≤1:=fun c=>by cases c <;> decide
  refine aX fun D3 n3=>⟨(),(),b,(mo:Int),t5,rfl,dw0.bx,by trivial,ka (by trivial),by trivial,by trivial,fun x3 t6 Hb x30 x31 h6a h6b s6 B6=>?_⟩
  obtain ⟨N3,eN3,hN3,hN2⟩:∃N:Nat,(1+x3+7*(if decide (V.int kd=V.int 0)=true then (1:Int) else 0))*(if decide ((many:Int) > 1)=true then (1:Int) else 0)=(N:Int)∧N≤11∧(2≤many∨N=0):=by
   have e1:=if01 (decide (V.int kd=V.int 0))
   by_cases hm:(many:Int) > 1
   ·refine ⟨(1+x3+7*(if decide (V.int kd=V.int 0)=true then (1:Int) else 0)).toNat,?_,by trivial,.inl (by trivial)⟩
    rw [decide_eq_true hm,if_pos rfl,Int.mul_one]
    trivial
   ·refine ⟨0,?_,by trivial,.inr rfl⟩
    rw [decide_eq_false hm,if_neg Bool.false_ne_true,Int.mul_zero]
    rfl
  have e1k:=if01 (decide (V.int kd=V.int 0))
  refine ⟨_,(),rfl,(),rfl,.inr ⟨(),_,(),rfl,.inl ⟨by decide,by decide⟩,_,(),rfl,(),_,(),rfl,.inr ⟨(),_,(),rfl,.inl ⟨by trivial,by trivial⟩,(N3:Int),congrArg (fun z=>[V.int z]) eN3,by trivial,by trivial,?_⟩⟩⟩
  have dw1:=dw0.box ds s6 B6
  refine fQ (fun i σ H'=>BA fun (v10 v11 v12 v13 v14 v15:Option V) (ts:List eV) (t':Int)=>σ=[some (.ref b),some (.int kd),some (.int (many:Int)),some (.int (hours:Int)),some (.int (mo:Int)),some (.ref nl),some (.ref L6),some (.ref L7),some (.ref L8),some (.ref L9),v10,v11,v12,v13,v14,v15]∧Dw H b nl L6 L7 L8 L9 ls ts [] [] [] t' H'∧ts.length=i∧(∀x∈ts,mN (pd ls) x)∧t6≤t'∧t'≤t6+40*i) ⟨_,_,_,_,_,_,[],t6,rfl,dw1,rfl,(fun _ h=>nomatch h),by trivial,by trivial⟩ ?_ ?_
  ·rintro i σ J hi ⟨v10,v11,v12,v13,v14,v15,ts,t7,rfl,dw,lt,gt,h7a,h7b⟩
   have hi11:i<11:=by trivial
   obtain ⟨xs,h6,a6⟩:=id dw.a6
   have lx:=a6.length
   rw [List.length_map] at lx
   refine ⟨(),.inl ⟨rfl,_,ah.of h6⟩,(),(),(),b,nl,t7,ls,hours,rfl,dw.bx,by trivial,by trivial,dw.nl,ds.nb.1,by trivial,by trivial,hr8,fun v x t8 J1 s8 dx gx B8 h8a h8b=>?_⟩
   have dw8:=dw.box ds s8 B8
   have h6':=s8.old _ _ ds.nb.2.1 h6
   refine ⟨L6,xs,v,rfl,rfl,h6',by trivial,fun J2 c2=>⟨_,_,_,_,_,_,ts++[x],t8,rfl,?_,by simp [lt],fun y hy=>?_,by trivial,by trivial⟩⟩
   ·have cE:=uD h6' c2
    refine ⟨nP dw8.se ds.f.1 cE,dw8.bx.ch c2 (Ne.symm ds.nb.2.1),cE.old _ _ ds.n6.1 dw8.nl,?_,dw8.a7.keep cE ds.n6.2.1,dw8.a8.keep cE ds.n6.2.2.1,dw8.a9.keep cE ds.n6.2.2.2⟩
    rw [List.map_append]
    exact jC.app h6' (a6.mono (fc s8.tup)) dx c2
   ·rcases List.mem_append.mp hy with h | h
    ·exact gt y h
    ·rw [List.mem_singleton.mp h];exact gx
  rintro σ J ⟨v10,v11,v12,v13,v14,v15,ts,t7,rfl,dw2,lt,gt,h7a,h7b⟩
  refine n3 _ _ ?_
  have t7b:t7≤t6+440:=by trivial
  refine ik fun Q4 n4=>⟨(),nl,(),.inl (ah.of dw2.nl),fun Lb Jb mb=>n4 _ _ ?_⟩
  have nLb:Lb≠b:=fun e=>dw2.bx.th (e▸mb.fr)
  have nL7:Lb≠L7:=by
   obtain ⟨_,h,_⟩:=dw2.a7
   exact Ne.symm (neN h mb.fr)
  have nL6:Lb≠L6:=by
   obtain ⟨_,h,_⟩:=dw2.a6
   exact Ne.symm (neN h mb.fr)
  have nL8:Lb≠L8:=by
   obtain ⟨_,h,_⟩:=dw2.a8
   exact Ne.symm (neN h mb.fr)
  have nL9:Lb≠L9:=by
   obtain ⟨_,h,_⟩:=dw2.a9
   exact Ne.symm (neN h mb.fr)
  have nLn:Lb≠nl:=Ne.symm (neN dw2.nl mb.fr)
  have fLb:H Lb=none:=dw2.se.none nLb mb.fr
  have dw3:=dw2.sm ds mb.sm
  refine aX fun D5 n5=>⟨(),(),b,3,t7,rfl,dw3.bx,by decide,by decide,by trivial,by trivial,fun x4 t8 Hc x40 x41 h8a h8b s8 B8=>?_⟩
  obtain ⟨N4,eN4,hN4⟩:∃N:Nat,(if x4+2*(if decide (V.int kd=V.int 0)=true then (1:Int) else 0)<(many:Int) then x4+2*(if decide (V.int kd=V.int 0)=true then (1:Int) else 0) else (many:Int))=(N:Int)∧N≤many:=by
   by_cases hc:x4+2*(if decide (V.int kd=V.int 0)=true then (1:Int) else 0)<(many:Int)
   ·exact ⟨(x4+2*(if decide (V.int kd=V.int 0)=true then (1:Int) else 0)).toNat,by rw [if_pos hc];trivial,by trivial⟩
   ·exact ⟨many,by rw [if_neg hc],Nat.le_refl _⟩
  refine ⟨(),rfl,.inr ⟨(),_,(),rfl,.inl ⟨by decide,by decide⟩,_,(),rfl,_,(),(N4:Int),congrArg (fun z=>[V.int z]) eN4,by trivial,by trivial,?_⟩⟩
  have dw4:=dw3.box ds s8 B8
  refine fQ (fun i σ H'=>BA fun (v10 v12 v13 v14 v15:Option V) (ss:List iU) (rem:List (List Nat)) (t':Int)=>σ=[some (.ref b),some (.int kd),some (.int (many:Int)),some (.int (hours:Int)),some (.int (mo:Int)),some (.ref nl),some (.ref L6),some (.ref L7),some (.ref L8),some (.ref L9),v10,some (.ref Lb),v12,v13,v14,v15]∧Dw H b nl L6 L7 L8 L9 ls ts ss [] [] t' H'∧H' Lb=some (.lst (rem.map aI))∧rem.length=many - i∧(∀l∈rem,l∈ls)∧ss.length=i∧(∀x∈ss,rQ (pd ls) x)∧t8≤t'∧t'≤t8+20*i) ⟨_,_,_,_,_,[],ls,t8,rfl,dw4,s8.old _ _ nLb mb.at',by trivial,(fun l h=>h),rfl,(fun _ h=>nomatch h),by trivial,by trivial⟩ ?_ ?_
  ·rintro i σ J1 hi ⟨v10,v12,v13,v14,v15,ss,rem,t9,rfl,dw,hR,lr,sr,lss,gs,h9a,h9b⟩
   have hi5:i<5:=by trivial
   have him:i<many:=by trivial
   have lr':(rem.map aI).length=many - i:=by rw [List.length_map,lr]
   refine i0 (t:=kn _ _) fun DB nB=>?_
   refine ik fun Qk nk=>⟨(by show 2≤10000;decide),fun o1 G1 k1=>⟨(by show 2≤10000;decide),fun o2 G2 k2=>⟨(by show 2≤10000;decide),fun o3 G3 k3=>⟨(by show 2≤10000;decide),fun o4 G4 k4=>?_⟩⟩⟩⟩
   have s14:ad J1 G4:=((k1.sm.trans k2.sm).trans k3.sm).trans k4.sm
   have B4':=dw.bx.same s14
   refine ⟨(),b,13,t9,rfl,B4',by decide,by decide,by trivial,by trivial,fun y1 ta G5 y10 y11 haa hab sa Ba=>⟨_,(),by decide,(show (12:Int).natAbs<2 ^ 9000 from Nat.lt_trans (by decide) (Nat.pow_lt_pow_right (by decide) (show 4<9000 by decide))),fun o5 G6 k6=>⟨(by show 5≤10000;decide),fun ol G7 k7=>⟨(),b,5,ta,rfl,(Ba.same k6.sm).same k7.sm,by decide,by decide,by trivial,by trivial,fun y2 tb G8 y20 y21 hba hbb sb Bb=>?_⟩⟩⟩⟩
   have nol:ol≠b:=fun e=>(Ba.same k6.sm).th (e▸k7.fr)
   have s58:ao (Eb b) G4 G8:=((sa.trans k6.sm.toE).trans k7.sm.toE).trans sb
   have f12:Fr 24 (KM.low y1 12):=Fb.low (by show y1.natAbs<2 ^ 24;trivial) (by show (12:Int).natAbs<2 ^ 24;decide) (by decide)
   obtain ⟨ok,pk,eok,hok,fk⟩:bE fun (ok:Addr) (pk:KM.Fra)=>mh [V.ref o1,.ref o2,.ref o3,.ref o4,.ref o5] y2=some (.ref ok)∧G8 ok=some (fr pk)∧Fr 24 pk:=by
    have q1:G8 o1=some (fr (1,1)):=s58.tup _ _ (((k2.sm.trans k3.sm).trans k4.sm) _ _ k1.at')
    have q2:G8 o2=some (fr (1,2)):=s58.tup _ _ ((k3.sm.trans k4.sm) _ _ k2.at')
    have q3:G8 o3=some (fr (0,1)):=s58.tup _ _ (k4.sm _ _ k3.at')
    have q4:G8 o4=some (fr (9,10)):=s58.tup _ _ k4.at'
    have q5:G8 o5=some (fr (KM.low y1 12)):=sb.tup _ _ (k7.sm _ _ k6.at')
    rcases (show y2=0∨y2=1∨y2=2∨y2=3∨y2=4 by trivial) with rfl | rfl | rfl | rfl | rfl
    ·exact ⟨o1,(),q1,Fb.small (by decide) (by decide) (by decide) (by decide)⟩
    ·exact ⟨o2,(),q2,Fb.small (by decide) (by decide) (by decide) (by decide)⟩
    ·exact ⟨o3,(),q3,Fb.small (by decide) (by decide) (by decide) (by decide)⟩
    ·exact ⟨o4,(),q4,Fb.small (by decide) (by decide) (by decide) (by decide)⟩
    ·exact ⟨o5,(),q5,f12⟩
   refine ⟨ol,_,_,(),rfl,ah.of (sb.old _ _ nol k7.at'),eok,nk _ _ ?_⟩
   have s18:ao (Eb b) J1 G8:=s14.toE.trans s58
   have dw8:=dw.box ds s18 Bb
   have hR8:=s18.old _ _ nLb hR
   obtain ⟨zs,h7,a7⟩:=id dw8.a7
   have lz:=a7.length
   rw [List.length_map] at lz
   refine ⟨(),.inl ⟨rfl,_,ah.of h7⟩,(),.inl ⟨rfl,_,ah.of hR8⟩,(),(),Lb,(),.inl (ah.of hR8),b,_,tb,rfl,dw8.bx,by trivial,ka (by trivial),by trivial,by trivial,fun y3 tc G9 y30 y31 hca hcb sc Bc=>?_⟩
   obtain ⟨jr,rfl⟩:=Int.eq_ofNat_of_zero_le y30
   have hjr:jr<rem.length:=by trivial
   have ejr:(rem.map aI)[jr]?=some (aI rem[jr]):=by rw [List.getElem?_map,List.getElem?_eq_getElem hjr];rfl
   refine ⟨Lb,_,jr,(),rfl,sc.old _ _ nLb hR8,by trivial,ejr,fun Ga ca=>?_⟩
   have dw9:=dw8.box ds sc Bc
   have hR9:=sc.old _ _ nLb hR8
   have cE:=uD hR9 ca
   have dwa:Dw H b nl L6 L7 L8 L9 ls ts ss [] [] tc Ga:=⟨nP dw9.se fLb cE,dw9.bx.ch ca (Ne.symm nLb),cE.old _ _ (Ne.symm nLn) dw9.nl,dw9.a6.keep cE (Ne.symm nL6),dw9.a7.keep cE (Ne.symm nL7),dw9.a8.keep cE (Ne.symm nL8),dw9.a9.keep cE (Ne.symm nL9)⟩
   refine ⟨(),b,tc,rfl,dwa.bx,by trivial,by trivial,fun om zm td Gb_ sd hom gm m0 cm Bd hda hdb=>⟨(),(by show 3≤10000;decide),fun q5 Gc kc=>?_⟩⟩
   have dwb:=dwa.box ds sd Bd
   have dwc:=dwb.sm ds kc.sm
   have s8c:ao (fun x=>x=b∨x=Lb) G8 Gc:=⟨fun a o n h=>kc.sm _ _ (sd.old _ _ (fun e=>n (.inl e)) (cE.old _ _ (fun e=>n (.inr e)) (sc.old _ _ (fun e=>n (.inl e)) h))),fun a us h=>kc.sm _ _ (sd.tup _ _ (cE.tup _ _ (sc.tup _ _ h)))⟩
   have h7c:=s8c.old _ _ (by rintro (e | e);exact ds.nb.2.2.1 e;exact nL7 e.symm) h7
   refine ⟨L7,zs,(),rfl,h7c,by trivial,fun Gd cd=>nB _ _ ?_⟩
   have cE2:=uD h7c cd
   let xx:iU:=⟨rem[jr],zm,pk⟩
   have dx:aJ ED Gc (.ref q5) (vc xx):=.tup kc.at' (.cons (.str _) (.cons (lZ (kc.sm _ _ hom)) (.cons (lZ (s8c.tup _ _ hok)) .nil)))
   refine ⟨_,_,_,_,_,ss++[xx],rem.eraseIdx jr,td,rfl,⟨nP dwc.se ds.f.2.1 cE2,dwc.bx.ch cd (Ne.symm ds.nb.2.2.1),cE2.old _ _ ds.n7.1 dwc.nl,dwc.a6.keep cE2 (Ne.symm ds.n6.2.1),?_,dwc.a8.keep cE2 ds.n7.2.1,dwc.a9.keep cE2 ds.n7.2.2⟩,?_,?_,?_,by simp [lss],?_,by trivial,by trivial⟩
   ·rw [List.map_append]
    exact jC.app h7c (a7.mono (fc s8c.tup)) dx cd
   ·refine cE2.old _ _ nL7 (kc.sm _ _ (sd.old _ _ nLb ?_))
    rw [ca.at',vn]
   ·rw [List.length_eraseIdx_of_lt hjr,lr]
    trivial
   ·exact fun l h=>sr l (List.mem_of_mem_eraseIdx h)
   ·intro y hy
    rcases List.mem_append.mp hy with h | h
    ·exact gs y h
    ·rw [List.mem_singleton.mp h]
     exact ⟨sr _ (List.getElem_mem hjr),qB gm cm (by decide) (by decide),m0,fk,gm⟩
  rintro σ J1 ⟨v10,v12,v13,v14,v15,ss,rem,t9,rfl,dw5,_,_,_,lss,gs,h9a,h9b⟩
  refine n5 _ _ ?_
  have t9b:t9≤t8+100:=by trivial
  refine aX fun D6 n6=>⟨(),b,4,t9,rfl,dw5.bx,by decide,by decide,by trivial,by trivial,fun x5 ta Hd x50 x51 haa hab sa Ba=>⟨_,(),rfl,(),by trivial,by trivial,?_⟩⟩
  have dw6:=dw5.box ds sa Ba
  refine fQ (fun i σ H'=>BA fun (v10 v11 v12 v13 v14 v15:Option V) (ws:List lG) (t':Int)=>σ=[some (.ref b),some (.int kd),some (.int (many:Int)),some (.int (hours:Int)),some (.int (mo:Int)),some (.ref nl),some (.ref L6),some (.ref L7),some (.ref L8),some (.ref L9),v10,v11,v12,v13,v14,v15]∧Dw H b nl L6 L7 L8 L9 ls ts ss ws [] t' H'∧ws.length=i∧(∀x∈ws,tN ⟨ls,hours,[],[],[],[]⟩ x)∧ta≤t'∧t'≤ta+20*i) ⟨_,_,_,_,_,_,[],ta,rfl,dw6,rfl,(fun _ h=>nomatch h),by trivial,by trivial⟩ ?_ ?_
  ·rintro i σ J2 hi ⟨v10,v11,v12,v13,v14,v15,ws,tb,rfl,dw,lw,gw,hba,hbb⟩
   have hi4:i<4:=by trivial
   refine i0 (t:=kn _ _) fun DB nB=>?_
   refine AM fun Qp np=>⟨(),(),(),b,(many:Int),tb,rfl,dw.bx,by trivial,ka (by trivial),by trivial,by trivial,fun y1 tc G1 y10 y11 hca hcb s1' B1'=>?_⟩
   obtain ⟨jp,rfl⟩:=Int.eq_ofNat_of_zero_le y10
   have hjp:jp<ls.length:=by trivial
   have ejp:(ls.map aI)[jp]?=some (aI ls[jp]):=by rw [List.getElem?_map,List.getElem?_eq_getElem hjp];rfl
   have dw1':=dw.box ds s1' B1'
   refine ⟨nl,_,_,(),rfl,ah.of dw1'.nl,gu ejp,(),(),b,(hours:Int),tc,rfl,B1',by trivial,ka (by trivial),by trivial,by trivial,fun y2 td G2 y20 y21 hda hdb s2' B2'=>np _ _ _ ?_⟩
   obtain ⟨jh,rfl⟩:=Int.eq_ofNat_of_zero_le y20
   have dw2':=dw1'.box ds s2' B2'
   obtain ⟨zs,h8,a8⟩:=id dw2'.a8
   have lz:=a8.length
   rw [List.length_map] at lz
   refine ⟨(),.inl ⟨rfl,_,ah.of h8⟩,(),(),(),b,td,rfl,B2',by trivial,by trivial,fun om zm te G3 s3' hom gm m0 cm B3' hea heb=>⟨(),b,te,rfl,B3',by trivial,by trivial,fun oc zc tf G4 uH hoc gc c0 cc B4' hfa hfb=>⟨(by show 4≤10000;decide),fun q5 G5 k5=>?_⟩⟩⟩
   have s24:ao (Eb b) G2 G4:=s3'.trans uH
   have dw4':=dw2'.box ds s24 B4'
   have dw5':=dw4'.sm ds k5.sm
   have h8':=k5.sm _ _ (s24.old _ _ ds.nb.2.2.2.1 h8)
   refine ⟨L8,zs,(),rfl,h8',by trivial,fun G6 c6=>nB _ _ ?_⟩
   have cE:=uD h8' c6
   let xx:lG:=⟨ls[jp],jh,zm,zc⟩
   have dx:aJ ED G5 (.ref q5) (wH xx):=.tup k5.at' (.cons (.str _) (.cons (.int _) (.cons (lZ (k5.sm _ _ (uH.tup _ _ hom))) (.cons (lZ (k5.sm _ _ hoc)) .nil))))
   refine ⟨_,_,_,_,_,_,ws++[xx],tf,rfl,⟨nP dw5'.se ds.f.2.2.1 cE,dw5'.bx.ch c6 (Ne.symm ds.nb.2.2.2.1),cE.old _ _ ds.n8.1 dw5'.nl,dw5'.a6.keep cE (Ne.symm ds.n6.2.2.1),dw5'.a7.keep cE (Ne.symm ds.n7.2.1),?_,dw5'.a9.keep cE ds.n8.2⟩,by simp [lw],?_,by trivial,by trivial⟩
   ·rw [List.map_append]
    exact jC.app h8' (a8.mono (fc (s24.trans k5.sm.toE).tup)) dx c6
   ·intro y hy
    rcases List.mem_append.mp hy with h | h
    ·exact gw y h
    ·rw [List.mem_singleton.mp h]
     exact ⟨List.getElem_mem hjp,by show jh<hours;trivial,qB gm cm (by decide) (by decide),m0,qB gc cc (by decide) (by decide),gm⟩
  rintro σ J2 ⟨v10,v11,v12,v13,v14,v15,ws,tb,rfl,dw7,lw,gw,hba,hbb⟩
  refine n6 _ _ ?_
  have tbb:tb≤ta+80:=by trivial
  refine aX fun D7 n7=>⟨(),b,4,tb,rfl,dw7.bx,by decide,by decide,by trivial,by trivial,fun x6 tc He x60 x61 hca hcb sc Bc=>?_⟩
  obtain ⟨N6,eN6,hN6⟩:∃N:Nat,x6+3*(if decide (V.int kd=V.int 0)=true then (1:Int) else 0)=(N:Int)∧N≤6:=⟨(x6+3*(if decide (V.int kd=V.int 0)=true then (1:Int) else 0)).toNat,by trivial,by trivial⟩
  refine ⟨(),rfl,.inr ⟨(),_,(),rfl,.inl ⟨by decide,by decide⟩,_,(),rfl,(N6:Int),congrArg (fun z=>[V.int z]) eN6,by trivial,by trivial,?_⟩⟩
  have dw8:=dw7.box ds sc Bc
  refine fQ (fun i σ H'=>BA fun (v10 v11 v12 v13 v14 v15:Option V) (wi:List mO) (t':Int)=>σ=[some (.ref b),some (.int kd),some (.int (many:Int)),some (.int (hours:Int)),some (.int (mo:Int)),some (.ref nl),some (.ref L6),some (.ref L7),some (.ref L8),some (.ref L9),v10,v11,v12,v13,v14,v15]∧Dw H b nl L6 L7 L8 L9 ls ts ss ws wi t' H'∧wi.length=i∧(∀x∈wi,um ⟨ls,hours,[],[],[],[]⟩ x)∧tc≤t'∧t'≤tc+20*i) ⟨_,_,_,_,_,_,[],tc,rfl,dw8,rfl,(fun _ h=>nomatch h),by trivial,by trivial⟩ ?_ ?_
  ·rintro i σ J2 hi ⟨v10,v11,v12,v13,v14,v15,wi,td,rfl,dw,lwi,gwi,hda,hdb⟩
   have hi6:i<6:=by trivial
   refine i0 (t:=kn _ _) fun DB nB=>?_
   refine ik fun Qa na=>⟨(),b,20,td,rfl,dw.bx,by decide,by decide,by trivial,by trivial,fun y1 te G1 y10 y11 hea heb s1' B1'=>⟨_,(),rfl,(),b,4,te,rfl,B1',by decide,by decide,by trivial,by trivial,fun y2 tf G2 y20 y21 hfa hfb s2' B2'=>⟨_,(),rfl,_,(),by trivial,(show (1+y2).natAbs<2 ^ 9000 from Nat.lt_of_lt_of_le (show (1+y2).natAbs<2 ^ 4 by trivial) (Nat.pow_le_pow_right (by decide) (by decide))),fun oa G3 k3=>na _ _ ?_⟩⟩⟩
   have fa:Fr 24 (KM.low (1+y1) (1+y2)):=Fb.low (by show (1+y1).natAbs<2 ^ 24;trivial) (by show (1+y2).natAbs<2 ^ 24;trivial) (by trivial)
   have dw3':=(dw.box ds (s1'.trans s2') B2').sm ds k3.sm
   obtain ⟨zs,h9,a9⟩:=id dw3'.a9
   have lz:=a9.length
   rw [List.length_map] at lz
   refine ⟨(),.inl ⟨rfl,_,ah.of h9⟩,(),(),(),b,(many:Int),tf,rfl,dw3'.bx,by trivial,ka (by trivial),by trivial,by trivial,fun y3 tg G4 y30 y31 hga hgb uH B4'=>?_⟩
   obtain ⟨jp,rfl⟩:=Int.eq_ofNat_of_zero_le y30
   have hjp:jp<ls.length:=by trivial
   have ejp:(ls.map aI)[jp]?=some (aI ls[jp]):=by rw [List.getElem?_map,List.getElem?_eq_getElem hjp];rfl
   have dw4':=dw3'.box ds uH B4'
   refine ⟨nl,_,_,(),rfl,ah.of dw4'.nl,gu ejp,(),(),b,(hours:Int),tg,rfl,B4',by trivial,ka (by trivial),by trivial,by trivial,fun y4 th G5 y40 y41 hha hhb s5' B5'=>?_⟩
   obtain ⟨jh,rfl⟩:=Int.eq_ofNat_of_zero_le y40
   refine ⟨(),(by show 3≤10000;decide),fun q6 G6 k6=>?_⟩
   have s35:ao (Eb b) G3 G5:=uH.trans s5'
   have dw6':=(dw3'.box ds s35 B5').sm ds k6.sm
   have h9':=k6.sm _ _ (s35.old _ _ ds.nb.2.2.2.2 h9)
   refine ⟨L9,zs,(),rfl,h9',by trivial,fun G7 c7=>nB _ _ ?_⟩
   have cE:=uD h9' c7
   let xx:mO:=⟨ls[jp],jh,KM.low (1+y1) (1+y2)⟩
   have dx:aJ ED G6 (.ref q6) (vX xx):=.tup k6.at' (.cons (.str _) (.cons (.int _) (.cons (lZ (k6.sm _ _ (s35.tup _ _ k3.at'))) .nil)))
   refine ⟨_,_,_,_,_,_,wi++[xx],th,rfl,⟨nP dw6'.se ds.f.2.2.2 cE,dw6'.bx.ch c7 (Ne.symm ds.nb.2.2.2.2),cE.old _ _ ds.n9 dw6'.nl,dw6'.a6.keep cE (Ne.symm ds.n6.2.2.2),dw6'.a7.keep cE (Ne.symm ds.n7.2.2),dw6'.a8.keep cE (Ne.symm ds.n8.2),?_⟩,by simp [lwi],?_,by trivial,by trivial⟩
   ·rw [List.map_append]
    exact jC.app h9' (a9.mono (fc (s35.trans k6.sm.toE).tup)) dx c7
   ·intro y hy
    rcases List.mem_append.mp hy with h | h
    ·exact gwi y h
    ·rw [List.mem_singleton.mp h]
     exact ⟨List.getElem_mem hjp,by show jh<hours;trivial,fa⟩
  rintro σ J3 ⟨v10,v11,v12,v13,v14,v15,wi,td,rfl,dw9,lwi,gwi,hda,hdb⟩
  refine n7 _ _ ?_
  have tdb:td≤tc+120:=by trivial
  obtain ⟨z6,h6,a6⟩:=id dw9.a6
  obtain ⟨z7,h7,a7⟩:=id dw9.a7
  obtain ⟨z8,h8,a8⟩:=id dw9.a8
  obtain ⟨z9,h9,a9⟩:=id dw9.a9
  refine ⟨(),nl,(),ah.of dw9.nl,fun q1 G1 k1=>⟨(),(),(),L6,(),ah.of (k1.sm _ _ h6),fun q2 G2 k2=>⟨q2,(),ah.of k2.at',fun q3 G3 k3=>?_⟩⟩⟩
  have s13:ad J3 G3:=(k1.sm.trans k2.sm).trans k3.sm
  refine ⟨(),L7,(),ah.of (s13 _ _ h7),fun q4 G4 k4=>⟨(),L8,(),ah.of (k4.sm _ _ (s13 _ _ h8)),fun q5 G5 k5=>⟨(),L9,(),ah.of (k5.sm _ _ (k4.sm _ _ (s13 _ _ h9))),fun q6 G6 k6=>⟨(by show 6≤10000;decide),fun q7 G7 k7=>?_⟩⟩⟩⟩
  have s47:ad G4 G7:=(k5.sm.trans k6.sm).trans k7.sm
  have s37:ad G3 G7:=k4.sm.trans s47
  have s07:ad J3 G7:=s13.trans s37
  have ec:gh z6 none (some 8)=z6.take 8:=pV (by decide)
  have h3:=k3.at'
  rw [ec] at h3
  have pin:∀l∈ls,l∈ls:=fun _ h=>h
  refine k _ ⟨ls,hours,ts.take 8,ss,ws,wi⟩ td G7 (dw9.se.trans s07.toE) ?_ ?_ (by show ws.length≤4;trivial) (by show wi.length≤6;trivial) (by show 1≤ws.length;trivial) (dw9.bx.same s07) (by trivial) (by trivial)
  ·refine .tup k7.at' (.cons (.tup (s37 _ _ (k3.sm _ _ (k2.sm _ _ k1.at'))) (wk _)) (.cons (.int _) (.cons (.tup (s37 _ _ h3) ?_) (.cons (.tup (s47 _ _ k4.at') (a7.mono s07.toE)) (.cons (.tup ((k6.sm.trans k7.sm) _ _ k5.at') (a8.mono s07.toE)) (.cons (.tup (k7.sm _ _ k6.at') (a9.mono s07.toE)) .nil))))))
   show aA ED G7 (z6.take 8) ((ts.take 8).map qx)
   rw [List.map_take]
   exact rl 8 (a6.mono s07.toE)
  ·exact ⟨hr1,hr8,by show ls.length≤5;trivial,nd,nm,by show (ts.take 8).length≤8;rw [List.length_take];trivial,by show ss.length≤5;trivial,by show ws.length≤5;trivial,by show wi.length≤7;trivial,fun x hx=>(gt x (List.mem_of_mem_take hx)).of rfl,fun x hx=>(gs x hx).of rfl,fun x hx=>(gw x hx).of rfl rfl,fun x hx=>(gwi x hx).of rfl rfl⟩
end
end K55
namespace K55
open PySem L2
set_option maxHeartbeats 16000000
abbrev wb (H:Hp):Addr→Prop:=fun a=>H a≠none
theorem wL {a b:Nat}{p:KM.Fra} (h1:p.1.natAbs<2 ^ a) (h2:p.2.natAbs<2 ^ b) (h3:1≤p.2):Gb a b p:=⟨h1,h2,h3⟩
def Am (a e:Nat) (q p:KM.Fra):Prop:=Fr a p∧0≤p.1∧p.1*q.2≤q.1*p.2∧Gb a e p
def dS (d:aC) (x:eV) (h:Nat):KM.Fra:=if (decide ((h:Int)∈x.op) && decide (h+x.la<d.hr))=true then x.mo else (0,1)
structure GB (a e:Nat) (d:aC) (b:bo):Prop where
 s:b.se.length=d.ts.length
 k:b.ke.length=d.ss.length
 z:b.dr.length=d.ws.length
 sr:∀(i:Nat) x r,d.ts[i]?=some x→b.se[i]?=some r→r.length=d.hr∧∀(h:Nat) p,r[h]?=some p→Am a e (dS d x h) p
 kr:∀(i:Nat) x r,d.ss[i]?=some x→b.ke[i]?=some r→r.length=d.hr∧∀(h:Nat) p,r[h]?=some p→Am a e x.mo p
 zr:∀(i:Nat) x p,d.ws[i]?=some x→b.dr[i]?=some p→Am a e x.mo p
theorem Am.mono {a e a' e':Nat}{q p:KM.Fra} (h:Am a e q p) (l:a≤a') (m:e≤e'):Am a' e' q p:=⟨h.1.mono l,h.2.1,h.2.2.1,h.2.2.2.mono l m⟩
theorem GB.mono {a e a' e':Nat}{d:aC}{b:bo} (h:GB a e d b) (l:a≤a') (m:e≤e'):GB a' e' d b:=⟨h.s,h.k,h.z,fun i x r a b=>⟨(h.sr i x r a b).1,fun j p q=>((h.sr i x r a b).2 j p q).mono l m⟩,fun i x r a b=>⟨(h.kr i x r a b).1,fun j p q=>((h.kr i x r a b).2 j p q).mono l m⟩,fun i x p a b=>(h.zr i x p a b).mono l m⟩
theorem jS {b D:Addr}{H1:Hp}{σc:St}{g:TG}{te:TE}{Q:VK}{J:It}{n c:Nat}{t0:Int} (F:Nat→PyData→Prop) (hz:n≤10000) (hD:H1 D=none) (B1:Bx H1 b t0) (hgo:∀i H',i<n→ao (Eb b) H1 H'→J.go i H') (hst:∀H',ao (Eb b) H1 H'→J.stop n H')
 (hs:∀(i:Nat) x H' H'' (R:VK) (t':Int),i<n→ao (Eb b) H1 H'→Bx H' b t'→t0≤t'→t'≤t0+c*i→J.yld i H' x H''→(∀v d t'' H4,ao (Eb b) H' H4→aJ (wb H') H4 v d→F i d→Bx H4 b t''→t'≤t''→t''≤t'+c→R v H4)→g x σc H'' fun σ2 H2=>gM σc σ2∧te σ2 H2 R)
 (hd:∀zs ds t' H',ao (Eb b) H1 H'→Bx H' b t'→t0≤t'→t'≤t0+c*n→H' D=some (.lst zs)→aA (fun a=>a=D∨H1 a≠none) H' zs ds→ds.length=n→(∀(i:Nat) d,ds[i]?=some d→F i d)→Q (.ref D) H'):jM J σc g tT te D H1 Q:=by
 have nDb:D≠b:=fun e=>B1.th (e▸hD)
 have keep:∀{H':Hp}{zs:List V},ao (Eb b) H1 H'→ao (Eb b) H1 (aG H' D (.lst zs)):=fun {H' zs} s=>⟨fun a o n h=>by
  rw [ay fun e=>by rw [e,hD] at h;cases h];exact s.old _ _ n h,fun a us h=>by
  rw [ay fun e=>by rw [e,hD] at h;cases h];exact s.tup _ _ h⟩
 refine gf (n:=n) (fun i H' zs=>bE fun (ds:List PyData) (t':Int)=>H' D=some (.lst zs)∧ao (Eb b) H1 H'∧Bx H' b t'∧t0≤t'∧t'≤t0+c*i∧aA (fun a=>a=D∨H1 a≠none) H' zs ds∧ds.length=i∧∀(j:Nat) d,ds[j]?=some d→F j d) (fE hz) ⟨[],t0,au,keep (ao.refl _),B1.same (ad.new hD),by trivial,by trivial,.nil,rfl,fun j d e=>by simp at e⟩ ?_ ?_ ?_ ?_ ?_
 ·rintro i H' zs ⟨ds,t',q,_,_,_,_,ia,ld,_⟩
  exact ⟨q,by rw [ia.length,ld];exact Nat.le_refl _⟩
 ·rintro i H' zs hi ⟨ds,t',_,sm,_⟩
  exact hgo i H' hi sm
 ·rintro H' zs ⟨ds,t',_,sm,_⟩
  exact hst H' sm
 ·rintro i H' zs x H'' hi ⟨ds,t',q,sm,B,ha,hb,ia,ld,fd⟩ y
  refine hs i x H' H'' _ t' hi sm B ha hb y fun v d t'' H4 s4 dv fv B4 h4a h4b=>?_
  have q4:H4 D=some (.lst zs):=s4.old _ _ nDb q
  have tp:∀a us,H4 a=some (.tup us)→aG H4 D (.lst (zs++[v])) a=some (.tup us):=fun a us e=>by
   rw [ay (eO e q4 (by intro z;cases z))];exact e
  have se:ao (fun a=>a=D∨H1 a≠none) H4 (aG H4 D (.lst (zs++[v]))):=⟨fun a o n e=>by rw [ay fun z=>n (.inl z)];exact e,tp⟩
  have sE:ao (fun a=>a=D∨H1 a≠none) H' H4:=⟨fun a o n e=>s4.old _ _ (fun z=>n (.inr (by rw [show a=b from z];exact B1.th))) e,s4.tup⟩
  refine ⟨q4,ds++[d],t'',au,keep (sm.trans s4),?_,by trivial,?_,?_,by simp [ld],fun j e he=>?_⟩
  ·obtain ⟨c1,c2,h,r1,r2,r3⟩:=B4
   exact ⟨c1,c2,by rw [ay (Ne.symm nDb)];exact h,r1,r2,r3⟩
  ·have:(c:Int)*((i+1:Nat):Int)=c*i+c:=by
    rw [show ((i+1:Nat):Int)=(i:Int)+1 by trivial,Int.mul_add,Int.mul_one]
   trivial
  ·refine ((ia.mono sE).mono se).append (.cons ((dv.narrow fun a e=>?_).mono se) .nil)
   rcases e with e | e
   ·show H' a≠none
    rw [e,q]
    exact fun z=>nomatch z
   ·show H' a≠none
    cases h:H1 a with
    | none=>exact absurd h e
    | some o=>
     by_cases hab:a=b
     ·rw [hab];exact B.th
     ·rw [sm.old _ _ hab h];exact fun z=>nomatch z
  ·by_cases hj:j<ds.length
   ·rw [List.getElem?_append_left hj] at he
    exact fd j e he
   ·have:=(List.getElem?_eq_some_iff.mp he).1
    simp at this
    obtain rfl:j=ds.length:=by trivial
    rw [List.getElem?_append_right (Nat.le_refl _),Nat.sub_self] at he
    obtain rfl:d=e:=Option.some.inj he
    rw [ld];exact fv
 ·rintro H' zs ⟨ds,t',q,sm,B,ha,hb,ia,ld,fd⟩
  exact hd zs ds t' H' sm B ha hb q ia ld fd
theorem uk {ds:List PyData}{n:Nat}{F:Nat→KM.Fra→Prop} (l:ds.length=n) (h:∀(i:Nat) d,ds[i]?=some d→∃p,d=bJ p∧F i p):∃ps:List KM.Fra,ds=ps.map bJ∧ps.length=n∧∀(i:Nat) p,ps[i]?=some p→F i p:=by
 obtain ⟨ps,lp,hp⟩:=qJ (p:=fun (i:Nat) (p:KM.Fra)=>ds[i]?=some (bJ p)∧F i p) n fun i hi=>by
  obtain ⟨p,e,f⟩:=h i ds[i] (List.getElem?_eq_getElem (by trivial))
  exact ⟨p,by rw [←e];exact List.getElem?_eq_getElem (by trivial),f⟩
 refine ⟨ps,List.ext_getElem? fun i=>?_,lp,fun i p e=>(hp i p e).2⟩
 rw [List.getElem?_map]
 by_cases hi:i<n
 ·have e:=List.getElem?_eq_getElem (show i<ps.length by trivial)
  rw [e,(hp i _ e).1]
  rfl
 ·rw [List.getElem?_eq_none (by trivial),List.getElem?_eq_none (by trivial)]
  rfl
theorem Az {ds:List PyData}{n:Nat}{F:Nat→List KM.Fra→Prop} (l:ds.length=n) (h:∀(i:Nat) d,ds[i]?=some d→∃p,d=bA p∧F i p):∃ps:List (List KM.Fra),ds=ps.map bA∧ps.length=n∧∀(i:Nat) p,ps[i]?=some p→F i p:=by
 obtain ⟨ps,lp,hp⟩:=qJ (p:=fun (i:Nat) (p:List KM.Fra)=>ds[i]?=some (bA p)∧F i p) n fun i hi=>by
  obtain ⟨p,e,f⟩:=h i ds[i] (List.getElem?_eq_getElem (by trivial))
  exact ⟨p,by rw [←e];exact List.getElem?_eq_getElem (by trivial),f⟩
 refine ⟨ps,List.ext_getElem? fun i=>?_,lp,fun i p e=>(hp i p e).2⟩
 rw [List.getElem?_map]
 by_cases hi:i<n
 ·have e:=List.getElem?_eq_getElem (show i<ps.length by trivial)
  rw [e,(hp i _ e).1]
  rfl
 ·rw [List.getElem?_eq_none (by trivial),List.getElem?_eq_none (by trivial)]
  rfl
def Pt (q:KM.Fra):Prop:=Fr 2 q∧0≤q.1∧q.1≤q.2∧Gb 1 2 q
theorem vI {q a:KM.Fra} (hq:Fr 24 q) (hg:Gb 20 4 q) (q0:0≤q.1) (ha:Pt a):Am 21 6 q (KM.lTim q a):=by
 obtain ⟨fa,a0,al,ga⟩:=ha
 have a1:=fa.pos
 have q1:=hq.pos
 have dp:0<q.2*a.2:=Int.mul_pos (by trivial) (by trivial)
 obtain ⟨p1,cr,_,_,_⟩:=KM.low_spec (q.1*a.1) (q.2*a.2) (by trivial)
 obtain ⟨_,sg⟩:=KM.low_sgn (n:=q.1*a.1) dp
 have n0:0≤q.1*a.1:=Int.mul_nonneg q0 a0
 have gg:Gb 21 6 (KM.lTim q a):=hg.tim ga (by decide) (by decide)
 refine ⟨⟨gg.n,gg.d.mono (by decide),gg.pos,(Fr.tim hq fa (Nat.le_refl _)).co⟩,?_,?_,gg⟩
 ·show 0≤(KM.low (q.1*a.1) (q.2*a.2)).1
  have:¬(KM.low (q.1*a.1) (q.2*a.2)).1<0:=fun z=>by have:=sg.mp z;trivial
  trivial
 ·show (KM.low (q.1*a.1) (q.2*a.2)).1*q.2≤q.1*(KM.low (q.1*a.1) (q.2*a.2)).2
  generalize KM.low (q.1*a.1) (q.2*a.2)=P at p1 cr
  refine Int.le_of_mul_le_mul_right (a:=a.2) ?_ (by trivial)
  have e1:P.1*q.2*a.2=q.1*P.2*a.1:=by
   rw [Int.mul_assoc,cr,Int.mul_assoc,Int.mul_comm a.1 P.2,←Int.mul_assoc]
  rw [e1]
  exact Int.mul_le_mul_of_nonneg_left al (Int.mul_nonneg q0 (by trivial))
theorem Co {a:KM.Fra} (ha:Pt a):Am 21 6 (0,1) (KM.lTim (0,1) a):=vI (Fb.small (by decide) (by decide) (by decide) (by decide)) (wL (by decide) (by decide) (by decide)) (Int.le_refl _) ha
theorem EG {d:aC}{x:eV}{a:KM.Fra} (h:Nat) (gx:mN d x) (ha:Pt a):Am 21 6 (dS d x h) (KM.lTim (dS d x h) a):=by
 unfold dS
 by_cases c:(decide ((h:Int)∈x.op) && decide (h+x.la<d.hr))=true
 ·rw [if_pos c];exact vI gx.m gx.mg gx.m0 ha
 ·rw [if_neg c];exact Co ha
theorem qb {E:Addr→Prop}{H:Hp}{o:Addr}{p:KM.Fra} (h:H o=some (fr p)):aJ E H (.ref o) (bJ p):=.tup h (.cons (.int _) (.cons (.int _) .nil))
def zH (H:Hp) (p:Addr):Prop:=∃xs:List V,H p=some (.lst xs)∧∀x:Int,0≤x→x<6→bE fun o q=>mh xs x=some (.ref o)∧H o=some (fr q)∧Pt q
theorem zH.keep {E:Addr→Prop}{H H':Hp}{p:Addr} (h:zH H p) (s:ao E H H') (n:¬E p):zH H' p:=by
 obtain ⟨xs,a,b⟩:=h
 refine ⟨xs,s.old _ _ n a,fun x h0 h6=>?_⟩
 obtain ⟨o,q,e1,e2,e3⟩:=b x h0 h6
 exact ⟨o,q,e1,s.tup _ _ e2,e3⟩
section
variable {P:Program}{w:World}{K:PySem.W.Frag}{mg:Str→Option Value}{base:Heap}
inductive A0 (vs:List V) (H:Hp) (Q:VK):Prop
 | mk (b:Addr) (dv:V) (d:aC) (t:Int) (h0:vs=[.ref b,dv]) (h1:Bx H b t) (h2:0≤t) (h3:t≤800000) (h4:aJ ED H dv (eH d)) (h5:b7 d) (h6:∀v bk t' H',ao (Eb b) H H'→aJ (wb H) H' v (iW bk)→GB 21 6 d bk→Bx H' b t'→t≤t'→t'≤t+200→Q v H')
def CQ:Sp:=fun vs H Q _=>A0  vs H Q
theorem wY (T:Txt K mg):aY P w K mg base CX0 4 T.l_any_book_.f T.l_any_book_.d ["_law_box_here", "_law_day_here"] CQ:=by
 have G_l_take:=#[(iK)]
 have G_l_by:=#[(vL)]
 have G_l_may:=#[(CP)]
 refine T.l_any_book_.F.ok dJ (fun vs H Q E h=>?_) (fun cdv A outer s H vs Q E hr h=>?_)
 ·obtain ⟨b,dv,d,t,rfl,_⟩:=h
  rfl
 ·obtain ⟨b,dv,d,t,rfl,B,ht0,ht1,hd,gd,k⟩:=h
  refine ⟨_,#[#[jT 2 (2) _ _ _ _ dJ.nd rfl (Or.inr oK) #[eF 4 #[[#[aD 5 #[[#[()],#[()]]]],#[aD 5 #[[#[()],#[()]]]],#[aD 5 #[[#[()],#[()]]]],#[aD 5 #[[#[()],#[()]]]],#[aD 5 #[[#[()],#[()]]]],#[aD 5 #[[#[()],#[()]]]]]]] (by rfl) (by first | exact .inl rfl | exact .inr rfl | assumption)] :: #[#[3,dJ.nd,fh,#[eF 4 (@dc _)]] :: #[#[bL 8 PassesOwn.never rfl (@dD _ (K) _ _ _ #[#[1,(cC)][#[()]]] (by rfl)) #[gC 2 (4) _ dJ.nd rfl (Or.inr qk) (by first | exact .inl rfl | exact .inr rfl | assumption)] #[#[dX 7 (["_law_hour", "_law_day_here", "_law_row"]) (1) ([1,4]) _ _ _ _ (5) _ _ _ dJ.nd rfl jj (by kernel_rfl) rfl (by kernel_rfl) #[bG 6 pR T.b_range #[[#[#[1,(cC)][#[()]]]]] (by rfl)] (fun _ _ _ _ _ _=>#[0,(),()]) (fun _ _ _ _ _ _=>@bd _) (fun _ _ _ _ _ _=>#[jt 8 #[dz 3 #[G_l_may,(),T.l_may_,#[[#[1,0],#[2,0],#[0,()]]]] (by intro _;rfl)] #[#[2,0][#[()]]] #[aD 5 #[[#[()],#[()]]]]]) (by intro _;rfl)] :: #[ac 3 #[dn 4 (@cI _ (K) _ _ _ _ _ _ _ _ _ _ _ PySem.F.plainAttrs_list PySem.F.slot_list_append PySem.F.type_list_append (@cN _) #[3,fh] #[[#[bI 7 (["_law_top", "_law_box_here", "_law_parts"]) (1) ([0,2]) _ _ _ _ rfl (by kernel_rfl) (@jR _ (K) _ _ _ #[5,jj] (by rfl)) (fun _ _ _ _ _ _=>#[0,(),()]) (fun _ _ _ _ _ _=>@bd _) (fun _ _ _ _ _ _=>#[G_l_by,(),T.l_by_,#[[#[0,()],#[#[2,0][#[G_l_take,(),T.l_take_,#[[#[1,0],#[()]]]]]!]]]]) (by intro _;rfl)]]] (by rfl) (by rfl) (by rfl) (by rfl) (by rfl) (by rfl)) (by rfl)]]] (by intro _;rfl)] :: #[#[dX 7 (["_law_store", "_law_box_here", "_law_day_here", "_law_parts"]) (1) ([0,1,2]) _ _ _ _ (6) _ _ _ dJ.nd rfl jq (by kernel_rfl) rfl (by kernel_rfl) (@dD _ (K) _ _ _ #[#[1,(cC)][#[()]]] (by rfl)) (fun _ _ _ _ _ _=>#[gC 2 (0) _ (@wg _ (by kernel_rfl)) rfl (Or.inr (by kernel_rfl)) (Or.inl (by kernel_rfl))]) (fun _ _ _ _ _ _=>@bd _) (fun _ _ _ _ _ _=>#[bI 7 (["_law_hour", "_law_box_here", "_law_parts", "_law_store"]) (1) ([1,3,0]) _ _ _ _ rfl (by kernel_rfl) #[bG 6 (by show _=_;kernel_rfl) T.b_range #[[#[#[2,0][#[()]]]]] (by rfl)] (fun _ _ _ _ _ _=>#[0,(),()]) (fun _ _ _ _ _ _=>@bd _) (fun _ _ _ _ _ _=>#[G_l_by,(),T.l_by_,#[[#[#[3,0][#[()]]],#[#[2,0][#[G_l_take,(),T.l_take_,#[[#[1,0],#[()]]]]]!]]]]) (by intro _;rfl)]) (by intro _;rfl)] :: #[ac 3 #[aB 4 #[aD 5 #[[#[3,fh],#[6,jq],#[bI 7 (["_law_well", "_law_box_here", "_law_parts"]) (1) ([0,2]) _ _ _ _ rfl (by kernel_rfl) (@dD _ (K) _ _ _ #[#[1,(cC)][#[()]]] (by rfl)) (fun _ _ _ _ _ _=>#[0,(),()]) (fun _ _ _ _ _ _=>@bd _) (fun _ _ _ _ _ _=>#[G_l_by,(),T.l_by_,#[[#[#[0,()][#[()]]],#[#[2,0][#[G_l_take,(),T.l_take_,#[[#[1,0],#[()]]]]]!]]]]) (by intro _;rfl)]]]]]]]]]],?_⟩
  obtain ⟨a,p,tt,st,wl,wi,ts,ss,ws,is,Dd⟩:=dB hd
  cases Dd.ev
  have lts:=Dd.at_.length
  have lss:=Dd.as_.length
  have lws:=Dd.aw.length
  rw [List.length_map] at lts lss lws
  refine ik fun Q0 n0=>⟨(by show 2≤10000;decide),fun o1 H1 k1=>⟨(by show 2≤10000;decide),fun o2 H2 k2=>⟨(by show 2≤10000;decide),fun o3 H3 k3=>⟨(by show 2≤10000;decide),fun o4 H4 k4=>⟨(by show 2≤10000;decide),fun o5 H5 k5=>⟨(by show 2≤10000;decide),fun o6 H6 k6=>⟨(by show 6≤10000;decide),fun pl H7 k7=>n0 _ _ ?_⟩⟩⟩⟩⟩⟩⟩
  have s67:ad H6 H7:=k7.sm
  have s57:ad H5 H7:=k6.sm.trans s67
  have s47:ad H4 H7:=k5.sm.trans s57
  have s37:ad H3 H7:=k4.sm.trans s47
  have s27:ad H2 H7:=k3.sm.trans s37
  have s17:ad H1 H7:=k2.sm.trans s27
  have s07:ad H H7:=k1.sm.trans s17
  have pl7:zH H7 pl:=⟨_,k7.at',fun x h0 h6=>by
   rcases (show x=0∨x=1∨x=2∨x=3∨x=4∨x=5 by trivial) with rfl | rfl | rfl | rfl | rfl | rfl
   ·exact ⟨o1,(0,1),rfl,s17 _ _ k1.at',Fb.small (by decide) (by decide) (by decide) (by decide),by decide,by decide,(wL (by decide) (by decide) (by decide))⟩
   ·exact ⟨o2,(0,1),rfl,s27 _ _ k2.at',Fb.small (by decide) (by decide) (by decide) (by decide),by decide,by decide,(wL (by decide) (by decide) (by decide))⟩
   ·exact ⟨o3,(1,1),rfl,s37 _ _ k3.at',Fb.small (by decide) (by decide) (by decide) (by decide),by decide,by decide,(wL (by decide) (by decide) (by decide))⟩
   ·exact ⟨o4,(1,2),rfl,s47 _ _ k4.at',Fb.small (by decide) (by decide) (by decide) (by decide),by decide,by decide,(wL (by decide) (by decide) (by decide))⟩
   ·exact ⟨o5,(1,3),rfl,s57 _ _ k5.at',Fb.small (by decide) (by decide) (by decide) (by decide),by decide,by decide,(wL (by decide) (by decide) (by decide))⟩
   ·exact ⟨o6,(0,1),rfl,s67 _ _ k6.at',Fb.small (by decide) (by decide) (by decide) (by decide),by decide,by decide,(wL (by decide) (by decide) (by decide))⟩⟩
  have npb:pl≠b:=fun e=>B.th ((k1.sm.trans (k2.sm.trans (k3.sm.trans (k4.sm.trans (k5.sm.trans k6.sm))))).free (e▸k7.fr))
  refine aX fun D1 n1=>⟨(by show 0≤10000;decide),fun L H8 k8=>n1 _ _ ?_⟩
  have s08:=s07.trans k8.sm
  have nLb:L≠b:=fun e=>B.th (s07.free (e▸k8.fr))
  have nLp:pl≠L:=fun e=>by have z:=k8.fr;rw [←e,k7.at'] at z;cases z
  have fL:H L=none:=s07.free k8.fr
  have tpH:∀{H':Hp},ao (Eb b) H H'→∀{x us},H x=some (.tup us)→H' x=some (.tup us):=fun {H'} s {x us} h=>s.tup _ _ h
  refine aX fun D2 n2=>⟨(),a,_,_,(),rfl,aa.of (s08 _ _ Dd.ha),rfl,tt,rfl,⟨_,aa.of (s08 _ _ Dd.ht)⟩,qD (xs:=ts) (fun i σ H'=>Gu fun (v4 v5 v6:Option V) (se:List (List KM.Fra)) (us:List V) (t':Int)=>σ=[some (.ref b),some (.ref a),some (.ref pl),some (.ref L),v4,v5,v6]∧ao (Eb b) H H'∧Bx H' b t'∧t≤t'∧t'≤t+8*i∧zH H' pl∧H' L=some (.lst us)∧aA (fun x=>x=L∨H x≠none) H' us (se.map bA)∧se.length=i∧∀(j:Nat) x r,d.ts[j]?=some x→se[j]?=some r→r.length=d.hr∧∀(h:Nat) p,r[h]?=some p→Am 21 6 (dS d x h) p) ⟨_,_,_,[],[],t,rfl,s08.toE,B.same s08,by trivial,by trivial,pl7.keep (E:=fun _=>False) k8.sm.toE (fun z=>z),k8.at',.nil,rfl,fun j x r _ e=>by simp at e⟩ ?_ ?_ ?_⟩
  ·rintro i σ H' _ ⟨_,_,_,_,_,_,_,se,_⟩
   exact aa.of (tpH se Dd.ht)
  ·rintro i x σ J ex ⟨v4,v5,v6,se,us,t1,rfl,sJ,BJ,h1a,h1b,plJ,hL,ia,lse,gse⟩
   have hi:i<ts.length:=(List.getElem?_eq_some_iff.mp ex).1
   have t8:=gd.t8
   have hi8:i<8:=by trivial
   obtain ⟨xt,ext,mxt,dxt⟩:=cj Dd.at_ ex
   have gx:=gd.ts xt mxt
   have dxJ:aJ ED J x (qx xt):=dxt.mono (fc sJ.tup)
   have hdJ:aJ ED J (.ref a) (eH d):=hd.mono (fc sJ.tup)
   obtain ⟨ta,om,og,op_,oo,rfl,hta,hom,_,_,_⟩:=iZ dxJ
   have h8:=gd.l8
   refine i0 (t:=kn _ _) fun DB nB=>?_
   refine ik fun Qt nt=>⟨(),a,_,_,(),rfl,aa.of (tpH sJ Dd.ha),rfl,(),by trivial,by trivial,fun Dt hDt=>yz (n:=d.hr) (fun h=>bJ (dS d xt h)) (by trivial) hDt (fun i H' hi _=>by show i<_;trivial) (fun H' _=>by show _≤_;trivial) ?_ ?_⟩
   ·rintro h y H3 H4 Rk hh s3 ⟨rfl,rfl⟩ kk
    refine ⟨dF,?_⟩
    have e0:(0:Int)+(h:Int)=h:=by trivial
    rw [e0]
    refine ⟨(),(),(),_,_,d,xt,h,rfl,hdJ.mono s3.toE,dxJ.mono s3.toE,(),?_⟩
    by_cases c:(decide ((h:Int)∈xt.op) && decide (h+xt.la<d.hr))=true
    ·rw [c]
     have e:dS d xt h=xt.mo:=if_pos c
     refine fg ⟨(),ta,_,_,(),rfl,aa.of (s3 _ _ hta),rfl,kk _ _ (ad.refl _) ?_⟩
     rw [e]
     exact lZ (s3 _ _ hom)
    ·have c':(decide ((h:Int)∈xt.op) && decide (h+xt.la<d.hr))=false:=by simpa using c
     rw [c']
     have e:dS d xt h=(0,1):=if_neg c
     refine ce ⟨(by show 2≤10000;decide),fun q5 H5 k5=>kk _ _ k5.sm ?_⟩
     rw [e]
     exact lZ k5.at'
   intro zs J1 sJ1 hDt1 iz
   refine nt _ _ ?_
   have lz:=iz.length
   rw [List.length_map,List.length_range] at lz
   have hL1:=sJ1 _ _ hL
   have nDtb:Dt≠b:=fun e=>BJ.th (e▸hDt)
   have pl1:=plJ.keep (E:=fun _=>False) sJ1.toE (fun z=>z)
   refine ⟨(),.inl ⟨rfl,_,ah.of hL1⟩,(),Dt,rfl,⟨_,ah.of hDt1⟩,fun D3 hD3=>jS (b:=b) (n:=d.hr) (c:=1) (t0:=t1) (fun h dd=>∃p,dd=bJ p∧Am 21 6 (dS d xt h) p) (by trivial) hD3 (BJ.same sJ1) (fun h H' hh sm=>⟨zs,zs[h]'(by trivial),ah.of (sm.old _ _ nDtb hDt1),by rw [List.getElem?_eq_getElem (by trivial)]⟩) (fun H' sm=>⟨zs,ah.of (sm.old _ _ nDtb hDt1),by trivial⟩) ?_ ?_⟩
   ·rintro h y H3 H4 Rk t2 hh s3 B3 h2a h2b ⟨rfl,ey⟩ kk
    have ey:=ey _ (ah.of (K:=K) (s3.old _ _ nDtb hDt1))
    have dy:aJ ED J1 y (bJ (dS d xt h)):=iz.nth h ey (by rw [List.getElem?_map,List.getElem?_range hh];rfl)
    obtain ⟨oy,rfl,hoy⟩:=kM dy
    refine ⟨dF,(),(),(),b,6,t2,rfl,B3,by decide,by decide,by trivial,by trivial,fun y1 t3 H5 y10 y11 h3a h3b s5 B5=>?_⟩
    obtain ⟨xs,hxs,gx6⟩:=(pl1.keep s3 npb).keep s5 npb
    obtain ⟨oq,q,eq,hoq,pq⟩:=gx6 y1 y10 y11
    have fT:Fr 24 (dS d xt h):=by
     unfold dS
     split
     ·exact gx.m
     ·exact Fb.small (by decide) (by decide) (by decide) (by decide)
    refine ⟨pl,_,_,(),rfl,ah.of hxs,eq,oy,oq,dS d xt h,q,24,24,2,2,rfl,s5.tup _ _ (s3.tup _ _ hoy),hoq,fT.gb,pq.1.gb,by decide,by decide,by decide,by decide,(fun z=>nomatch z),fun o6 H6 k6=>kk _ _ t3 H6 (s5.trans k6.sm.toE) (qb k6.at') ⟨(),EG h gx pq⟩ (B5.same k6.sm) (by trivial) (by trivial)⟩
   intro ws3 ds3 t3 J2 sJ2 BJ2 h3a h3b hD3' ia3 ld3 fd3
   obtain ⟨ps,rfl,lps,hps⟩:=uk ld3 fd3
   have sH2:ao (Eb b) H J2:=(sJ.trans sJ1.toE).trans sJ2
   have hL2:=sJ2.old _ _ nLb hL1
   have lus:us.length≤8:=by rw [ia.length,List.length_map];trivial
   refine ⟨L,us,(),rfl,hL2,by trivial,fun J3 c3=>nB _ _ ?_⟩
   have cE:=uD hL2 c3
   have fD3:H D3=none:=(sJ.trans sJ1.toE).none (fun e=>(BJ.same sJ1).th (e▸hD3)) hD3
   have nD3L:D3≠L:=fun e=>by rw [e,hL1] at hD3;cases hD3
   have e0:∀{x y:Hp},ao (Eb b) x y→ao (fun z=>z=L∨H z≠none) x y:=fun s=>⟨fun z o n h=>s.old _ _ (fun e=>n (.inr (by rw [show z=b from e];exact B.th))) h,s.tup⟩
   have eL:ao (fun z=>z=L∨H z≠none) J2 J3:=⟨fun z o n h=>cE.old _ _ (fun e=>n (.inl e)) h,cE.tup⟩
   refine ⟨_,_,_,se++[ps],us++[.ref D3],t3,rfl,nP sH2 fL cE,BJ2.ch c3 (Ne.symm nLb),by trivial,by trivial,(((plJ.keep (E:=fun _=>False) sJ1.toE (fun z=>z)).keep sJ2 npb)).keep cE nLp,c3.at',?_,by simp [lse],fun j xj r ej er=>?_⟩
   ·rw [List.map_append]
    refine (((ia.mono (sJ1.toE)).mono (e0 sJ2)).append (.cons (.lst hD3' ?_ ?_) .nil)).mono eL
    ·rintro (e | e)
     ·exact nD3L e
     ·exact e fD3
    ·refine ia3.narrow fun z e=>?_
     rcases e with e | e
     ·exact .inr (by rw [e,hL1];exact fun q=>nomatch q)
     ·right
      cases hz:H z with
      | none=>exact absurd hz e
      | some o=>
       by_cases hzb:z=b
       ·rw [hzb];exact (BJ.same sJ1).th
       ·rw [(sJ.trans sJ1.toE).old _ _ hzb hz];exact fun q=>nomatch q
   ·by_cases hj:j<se.length
    ·rw [List.getElem?_append_left hj] at er
     exact gse j xj r ej er
    ·have:=(List.getElem?_eq_some_iff.mp er).1
     simp at this
     obtain rfl:j=se.length:=by trivial
     rw [List.getElem?_append_right (Nat.le_refl _),Nat.sub_self] at er
     obtain rfl:ps=r:=Option.some.inj er
     rw [lse,ext] at ej
     cases ej
     exact ⟨lps,hps⟩
  rintro σ J ⟨v4,v5,v6,se,us,t1,rfl,sJ,BJ,h1a,h1b,plJ,hL,ia,lse,gse⟩
  refine n2 _ _ ?_
  have t8:=gd.t8
  have t1b:t1≤t+64:=by trivial
  have s5:=gd.s5
  have w5:=gd.w5
  have h8:=gd.l8
  have nul:∀{G:Hp}{z:Addr}{t':Int},ao (Eb b) H G→Bx G b t'→H z≠none→G z≠none:=fun {G z t'} s BG e=>by
   cases hz:H z with
   | none=>exact absurd hz e
   | some o=>
    by_cases hzb:z=b
    ·rw [hzb];exact BG.th
    ·rw [s.old _ _ hzb hz];exact fun q=>nomatch q
  refine ik fun Qk nk=>⟨(),a,_,_,(),rfl,aa.of (tpH sJ Dd.ha),rfl,st,rfl,⟨_,aa.of (tpH sJ Dd.hs)⟩,fun D4 hD4=>jS (b:=b) (n:=ss.length) (c:=8) (t0:=t1) (fun i dd=>∃r,dd=bA r∧∀x,d.ss[i]?=some x→r.length=d.hr∧∀(h:Nat) p,r[h]?=some p→Am 21 6 x.mo p) (by trivial) hD4 BJ (fun i H' hi sm=>⟨ss,ss[i]'(by trivial),aa.of (sm.tup _ _ (tpH sJ Dd.hs)),by rw [List.getElem?_eq_getElem (by trivial)]⟩) (fun H' sm=>⟨ss,aa.of (sm.tup _ _ (tpH sJ Dd.hs)),Nat.le_refl _⟩) ?_ ?_⟩
  ·rintro i y G1 G2 R t2 hi s1 B1 h2a h2b ⟨rfl,ey⟩ kk
   have ey:=ey _ (aa.of (K:=K) (s1.tup _ _ (tpH sJ Dd.hs)))
   obtain ⟨xs,exs,mxs,dxs⟩:=cj Dd.as_ ey
   have gx:=gd.ss xs mxs
   have sG:=sJ.trans s1
   obtain ⟨sa,om,ok,rfl,hsa,hom,_⟩:=pG (dxs.mono (fc sG.tup))
   refine ⟨dF,(),a,_,_,(),rfl,aa.of (tpH sG Dd.ha),rfl,(),by trivial,by trivial,fun D5 hD5=>jS (b:=b) (n:=d.hr) (c:=1) (t0:=t2) (fun h dd=>∃p,dd=bJ p∧Am 21 6 xs.mo p) (by trivial) hD5 B1 (fun h H' hh _=>by show h<_;trivial) (fun H' _=>by show _≤_;trivial) ?_ ?_⟩
   ·rintro h y H3 H4 Rk t3 hh s3 B3 h3a h3b ⟨rfl,rfl⟩ kk2
    refine ⟨dF,(),sa,_,_,(),rfl,aa.of (s3.tup _ _ hsa),rfl,(),(),b,6,t3,rfl,B3,by decide,by decide,by trivial,by trivial,fun y1 t4 H5 y10 y11 h4a h4b s5' B5=>?_⟩
    obtain ⟨zs,hzs,gz⟩:=((plJ.keep s1 npb).keep s3 npb).keep s5' npb
    obtain ⟨oq,q,eq,hoq,pq⟩:=gz y1 y10 y11
    exact ⟨pl,_,_,(),rfl,ah.of hzs,eq,om,oq,xs.mo,q,24,24,2,2,rfl,s5'.tup _ _ (s3.tup _ _ hom),hoq,gx.m.gb,pq.1.gb,by decide,by decide,by decide,by decide,(fun z=>nomatch z),fun o6 H6 k6=>kk2 _ _ t4 H6 (s5'.trans k6.sm.toE) (qb k6.at') ⟨(),vI gx.m gx.mg gx.m0 pq⟩ (B5.same k6.sm) (by trivial) (by trivial)⟩
   intro zs ds t3 G3 s3 B3 h3a h3b hD5' ia5 ld5 fd5
   obtain ⟨ps,rfl,lps,hps⟩:=uk ld5 fd5
   refine kk _ (bA ps) t3 G3 s3 (.lst hD5' (fun e=>e hD5) (ia5.narrow fun z e=>.inr e)) ⟨ps,rfl,fun x ex=>?_⟩ B3 (by trivial) (by trivial)
   rw [exs] at ex
   cases ex
   exact ⟨lps,hps⟩
  intro ks ds4 t4 J4 sJ4 B4 h4a h4b hD4' ia4 ld4 fd4
  obtain ⟨ke,rfl,lke,hke⟩:=Az ld4 fd4
  refine nk _ _ ?_
  have sH4:=sJ.trans sJ4
  have t4b:t4≤t1+40:=by trivial
  refine ⟨(),(),(),a,_,_,(),rfl,aa.of (tpH sH4 Dd.ha),rfl,wl,rfl,⟨_,aa.of (tpH sH4 Dd.hw)⟩,fun D6 hD6=>jS (b:=b) (n:=ws.length) (c:=1) (t0:=t4) (fun i dd=>∃p,dd=bJ p∧∀x,d.ws[i]?=some x→Am 21 6 x.mo p) (by trivial) hD6 B4 (fun i H' hi sm=>⟨ws,ws[i]'(by trivial),aa.of (sm.tup _ _ (tpH sH4 Dd.hw)),by rw [List.getElem?_eq_getElem (by trivial)]⟩) (fun H' sm=>⟨ws,aa.of (sm.tup _ _ (tpH sH4 Dd.hw)),Nat.le_refl _⟩) ?_ ?_⟩
  ·rintro i y G1 G2 R t2 hi s1 B1 h2a h2b ⟨rfl,ey⟩ kk
   have ey:=ey _ (aa.of (K:=K) (s1.tup _ _ (tpH sH4 Dd.hw)))
   obtain ⟨xw,exw,mxw,dxw⟩:=cj Dd.aw ey
   have gx:=gd.ws xw mxw
   have sG:=sH4.trans s1
   obtain ⟨sa,om,op_,rfl,hsa,hom,_⟩:=nN (dxw.mono (fc sG.tup))
   refine ⟨dF,(),sa,_,_,(),rfl,aa.of hsa,rfl,(),(),b,6,t2,rfl,B1,by decide,by decide,by trivial,by trivial,fun y1 t3 H5 y10 y11 h3a h3b s5' B5=>?_⟩
   obtain ⟨zs,hzs,gz⟩:=((plJ.keep sJ4 npb).keep s1 npb).keep s5' npb
   obtain ⟨oq,q,eq,hoq,pq⟩:=gz y1 y10 y11
   refine ⟨pl,_,_,(),rfl,ah.of hzs,eq,om,oq,xw.mo,q,24,24,2,2,rfl,s5'.tup _ _ hom,hoq,gx.m.gb,pq.1.gb,by decide,by decide,by decide,by decide,(fun z=>nomatch z),fun o6 H6 k6=>kk _ _ t3 H6 (s5'.trans k6.sm.toE) (qb k6.at') ⟨(),fun x ex=>?_⟩ (B5.same k6.sm) (by trivial) (by trivial)⟩
   rw [exw] at ex
   cases ex
   exact vI gx.m gx.mg gx.m0 pq
  intro zs ds6 t6 J6 sJ6 B6 h6a h6b hD6' ia6 ld6 fd6
  obtain ⟨dr,rfl,ldr,hdr⟩:=uk ld6 fd6
  have t6b:t6≤t4+5:=by trivial
  refine ⟨(by show 3≤10000;decide),fun q J7 k7'=>?_⟩
  have sJ7:ao (Eb b) J J7:=(sJ4.trans sJ6).trans k7'.sm.toE
  have sH7:=sJ.trans sJ7
  have e7:∀{x y:Hp},ao (Eb b) x y→ao (wb H) x y:=fun s=>⟨fun z o n h=>s.old _ _ (fun e=>n (by rw [show z=b from e];exact B.th)) h,s.tup⟩
  have fD4:H D4=none:=sJ.none (fun e=>BJ.th (e▸hD4)) hD4
  have fD6:H D6=none:=sH4.none (fun e=>B4.th (e▸hD6)) hD6
  have n4b:D4≠b:=fun e=>BJ.th (e▸hD4)
  have s47:ao (Eb b) J4 J7:=sJ6.trans k7'.sm.toE
  refine k _ ⟨se,ke,dr⟩ t6 J7 sH7 ?_ ⟨by show se.length=_;trivial,by show ke.length=_;trivial,by show dr.length=_;trivial,gse,fun i x r ex er=>(hke i r er) x ex,fun i x p ex ep=>(hdr i p ep) x ex⟩ (B6.same k7'.sm) (by trivial) (by trivial)
  refine .tup k7'.at' (.cons (.lst (sJ7.old _ _ nLb hL) (fun e=>e fL) ?_) (.cons (.lst (s47.old _ _ n4b hD4') (fun e=>e fD4) ?_) (.cons (.lst (k7'.sm _ _ hD6') (fun e=>e fD6) ?_) .nil)))
  ·exact (ia.narrow fun z e=>.inr e).mono (e7 sJ7)
  ·exact (ia4.narrow fun z e=>.inr (nul sJ BJ e)).mono (e7 s47)
  ·exact (ia6.narrow fun z e=>.inr (nul sH4 B4 e)).mono (e7 k7'.sm.toE)
end
end K55
namespace K55
open PySem L2
set_option maxHeartbeats 16000000
theorem dW {D:Addr}{H1:Hp}{σc:St}{g:TG}{te:TE}{Q:VK}{J:It}{n:Nat} (F:Nat→PyData) (hz:n≤10000) (hD:H1 D=none) (hgo:∀i H',i<n→ad H1 H'→J.go i H') (hst:∀H',ad H1 H'→J.stop n H')
 (hs:∀i x H' H'' (R:VK),i<n→ad H1 H'→J.yld i H' x H''→(∀v H4,ad H' H4→aJ (wb H') H4 v (F i)→R v H4)→g x σc H'' fun σ2 H2=>gM σc σ2∧te σ2 H2 R)
 (hd:∀zs H',ad H1 H'→H' D=some (.lst zs)→aA (fun a=>a=D∨H1 a≠none) H' zs ((List.range n).map F)→Q (.ref D) H'):jM J σc g tT te D H1 Q:=by
 refine gf (n:=n) (fun i H' zs=>H' D=some (.lst zs)∧ad H1 H'∧aA (fun a=>a=D∨H1 a≠none) H' zs ((List.range i).map F)) (fE hz) ⟨au,da hD (ad.refl _),.nil⟩ ?_ ?_ ?_ ?_ ?_
 ·rintro i H' zs ⟨q,_,ia⟩
  exact ⟨q,by rw [ia.length];simp⟩
 ·rintro i H' zs hi ⟨_,sm,_⟩
  exact hgo i H' hi sm
 ·rintro H' zs ⟨_,sm,_⟩
  exact hst H' sm
 ·rintro i H' zs x H'' hi ⟨q,sm,ia⟩ y
  refine hs i x H' H'' _ hi sm y fun v H4 s4 dv=>?_
  have q4:=s4 _ _ q
  have se:ao (fun a=>a=D∨H1 a≠none) H4 (aG H4 D (.lst (zs++[v]))):=⟨fun a o n e=>by rw [ay fun z=>n (.inl z)];exact e,fun a us e=>by
   rw [ay (eO e q4 (by intro z;cases z))];exact e⟩
  refine ⟨q4,au,da hD (sm.trans s4),?_⟩
  rw [List.range_succ,List.map_append]
  refine ((ia.mono s4.toE).mono se).append (.cons ((dv.narrow fun a e=>?_).mono se) .nil)
  rcases e with e | e
  ·show H' a≠none
   rw [e,q]
   exact fun z=>nomatch z
  ·show H' a≠none
   cases h:H1 a with
   | none=>exact absurd h e
   | some o=>rw [sm _ _ h];exact fun z=>nomatch z
 ·rintro H' zs ⟨q,sm,ia⟩
  exact hd zs H' sm q ia
def lB (p q:KM.Fra):KM.Fra:=KM.lTim (KM.ladd p q) (1,2)
inductive uJ:Nat→PyData→PyData→PyData→Prop
 | fr (n:Nat) {p q:KM.Fra} (hp:Fr 21 p) (hq:Fr 21 q):uJ (n+1) (bJ p) (bJ q) (bJ (lB p q))
 | ls (n:Nat) {ds es:List PyData} (fs:Nat→PyData) (h1:ds.length=es.length) (h2:ds.length≤100) (h:∀(i:Nat) d e,ds[i]?=some d→es[i]?=some e→uJ n d e (fs i)):uJ (n+1) (.list ds) (.list es) (.list ((List.range ds.length).map fs))
section
variable {P:Program}{w:World}{K:PySem.W.Frag}{mg:Str→Option Value}{base:Heap}
inductive Fc (n:Nat) (vs:List V) (H:Hp) (Q:VK):Prop
 | mk (x y:V) (d e f:PyData) (h0:vs=[x,y]) (h1:aJ (fun _=>False) H x d) (h2:aJ (fun _=>False) H y e) (h3:uJ n d e f) (h4:∀v H',ad H H'→aJ (wb H) H' v f→Q v H')
def Hr (n:Nat):Sp:=fun vs H Q _=>Fc n vs H Q
theorem zK (T:Txt K mg):∀n,aY P w K mg base CX0 (n+3) T.l_halves_.f T.l_halves_.d ["_law_one", "_law_other"] (Hr n):=by
 have G_l_plus:=#[(uB)]
 have G_l_by:=#[(vL)]
 intro n
 induction n with
 | zero=>
  refine T.l_halves_.F.ok rB (fun vs H Q E h=>?_) (fun cdv A outer s H vs Q E hr h=>?_)
  ·obtain ⟨x,y,d,e,f,_,_,_,z,_⟩:=h
   cases z
  ·obtain ⟨x,y,d,e,f,_,_,_,z,_⟩:=h
   cases z
 | succ n G_l_halves=>
 refine T.l_halves_.F.ok rB (fun vs H Q E h=>?_) (fun cdv A outer s H vs Q E hr h=>?_)
 ·obtain ⟨x,y,d,e,f,rfl,_⟩:=h
  rfl
 ·obtain ⟨x,y,d,e,f,rfl,hx,hy,hv,k⟩:=h
  refine ⟨_,#[#[bH 8 #[dz 3 #[(),(),(@iC _ (K) (by rfl)),nE,T.b_isinstance,(@bW),#[[#[0,hW],#[oE 4 tI T.b_list (@fW) (by decide) (by decide)]]]] (by intro _;rfl)] #[ac 3 #[aB 4 #[bI 7 (["_law_a", "_law_b"]) (2) ([]) _ _ _ _ rfl (by kernel_rfl) (@bV _ (K) _ _ _ _ _ _ _ _ tQ T.b_zip #[[#[0,hW],#[1,j8]]] (by rfl) (by rfl) (by rfl)) (fun _ _ _ _ _ _=>(@aQ _ (K) _ _ _ _ (2) rfl #[af 5 #[0,(),()] #[af 5 #[1,(),()] (@aW _) (by rfl)] (by rfl)] (by rfl) (by rfl) (by rfl))) (fun _ _ _ _ _ _=>@bd _) (fun _ _ _ _ _ _=>#[nv 16 G_l_halves (hr.mono (by trivial)) (by show _=_;kernel_rfl) T.l_halves_.m T.l_halves_.F.kp T.l_halves_.B .nil (@s0 _) #[[#[0,()],#[1,()]]] (by decide) (by rfl) (by rfl)]) (by intro _;rfl)]]] (@bc _)] :: #[ac 3 #[aB 4 #[nv 16 G_l_by (hr.mono (by trivial)) sS T.l_by_.m T.l_by_.F.kp T.l_by_.B .nil (@s0 _) #[[#[nv 16 G_l_plus (hr.mono (by trivial)) qQ T.l_plus_.m T.l_plus_.F.kp T.l_plus_.B .nil (@s0 _) #[[#[0,hW],#[1,j8],#[()]]] (by decide) (by rfl) (by rfl)],#[aD 5 #[[#[()],#[()]]]]]] (by decide) (by rfl) (by rfl)]]]],?_⟩
  cases hv with
  | fr _ hp hq=>
   rename_i p q
   obtain ⟨o1,rfl,h1⟩:=iI hx
   obtain ⟨o2,rfl,h2⟩:=iI hy
   refine aX fun D0 n0=>⟨(),_,_,_,(),hx.ty,nZ (bJ p),(),ce (n0 _ _ ?_)⟩
   refine ⟨(),(),o1,o2,p,q,21,21,true,rfl,h1,h2,hp,hq,by decide,fun o3 H3 k3=>⟨(by show 2≤10000;decide),fun o4 H4 k4=>?_⟩⟩
   have f3:Fr 53 (KM.ladd p q):=hp.add hq (by decide)
   have f4:Fr 2 ((1,2):KM.Fra):=Fb.small (by decide) (by decide) (by decide) (by decide)
   exact ⟨o3,o4,_,(1,2),53,53,2,2,rfl,k4.sm _ _ k3.at',k4.at',f3.gb,f4.gb,by decide,by decide,by decide,by decide,(fun z=>nomatch z),fun o5 H5 k5=>k _ _ ((k3.sm.trans k4.sm).trans k5.sm) (qb k5.at')⟩
  | ls _ fs l1 l2 hh=>
   rename_i ds es
   cases id hx with
   | @lst a xs _ ha _ rx=>
   cases id hy with
   | @lst b ys _ hb _ ry=>
   have lx:=rx.length
   have ly:=ry.length
   refine C7 fun D0 n0 r0=>⟨(),_,_,_,(),hx.ty,nZ (.list ds),(),fg ?_⟩
   refine ⟨(),(),a,b,true,true,rfl,⟨_,ah.of ha⟩,⟨_,ah.of hb⟩,fun D hD=>dW (n:=ds.length) fs (by trivial) hD (fun i H' hi sm=>⟨xs,ys,xs[i]'(by trivial),ys[i]'(by trivial),ah.of (sm _ _ ha),ah.of (sm _ _ hb),by rw [List.getElem?_eq_getElem (by trivial)],by rw [List.getElem?_eq_getElem (by trivial)]⟩) (fun H' sm=>⟨xs,ys,ah.of (sm _ _ ha),ah.of (sm _ _ hb),by trivial⟩) ?_ ?_⟩
   ·rintro i v H' H'' R hi sm ⟨Tp,x,y,hT,rfl,rfl,e1,e2⟩ kk
    have e1:=e1 _ (ah.of (K:=K) (sm _ _ ha))
    have e2:=e2 _ (ah.of (K:=K) (sm _ _ hb))
    have st:=ad.new (o:=.tup [x,y]) hT
    obtain ⟨d1,ed1,hd1⟩:=rx.get e1
    obtain ⟨d2,ed2,hd2⟩:=ry.get e2
    have sx:=sm.trans st
    exact ⟨Tp,(),aa.of au,rfl,_,(),_,(),rfl,kN,(),(),x,y,d1,d2,fs i,rfl,hd1.mono sx.toE,hd2.mono sx.toE,hh i d1 d2 ed1 ed2,fun v H4 s4 dv=>kk v H4 (st.trans s4) (dv.narrow fun z e=>by
     show aG H' Tp _ z≠none
     by_cases hz:z=Tp
     ·rw [hz,au];exact fun q=>nomatch q
     ·rw [ay hz];exact e)⟩
   intro zs H2 s2 hD2 ia
   exact r0 _ _ (k _ _ s2 (.lst hD2 (fun z=>z hD) (ia.narrow fun z e=>.inr e)))
end
end K55
namespace K55
open PySem L2
set_option maxHeartbeats 16000000
theorem qK {E:Addr→Prop}{H:Hp}{c:Nat}:∀{xs:List V}{ps:List KM.Fra},aA E H xs (ps.map bJ)→(∀p∈ps,Fr c p)→FL c H xs ps
 | _,[],h,_=>by cases h;exact .nil
 | _,p :: ps,h,f=>by
  cases h with
  | cons h1 r=>
   obtain ⟨o,rfl,ho⟩:=iI h1
   exact .cons ho (f p (List.mem_cons_self ..)) (qK r fun q hq=>f q (List.mem_cons_of_mem _ hq))
theorem jX {E:Addr→Prop}{H:Hp}{v:V}{ps:List KM.Fra} (h:aJ E H v (bA ps)) (f:∀p∈ps,Fr 300 p):∃o,v=.ref o∧EL H o ps:=by
 cases h with
 | @lst o xs _ ho _ r=>exact ⟨o,rfl,xs,ho,qK r f⟩
theorem nU {E:Addr→Prop}{H:Hp}{v:V}{b:bo} (h:aJ E H v (iW b)):Gv fun a s k z us ks zs=>v=.ref a∧H a=some (.tup [.ref s,.ref k,.ref z])∧H s=some (.lst us)∧aA E H us (b.se.map bA)∧H k=some (.lst ks)∧aA E H ks (b.ke.map bA)∧H z=some (.lst zs)∧aA E H zs (b.dr.map bJ):=by
 cases h with
 | @tup a xs _ ha r=>
 cases r with
 | cons h1 r=>
 cases r with
 | cons h2 r=>
 cases r with
 | cons h3 r=>
 cases r
 cases h1 with
 | @lst s us _ hs _ rs=>
 cases h2 with
 | @lst k ks _ hk _ rk=>
 cases h3 with
 | @lst z zs _ hz _ rz=>
 exact ⟨a,s,k,z,us,ks,zs,rfl,ha,hs,rs,hk,rk,hz,rz⟩
theorem vO {d:aC}{x:eV} (g:mN d x) (h:Nat):Fr 24 (dS d x h):=by
 unfold dS
 split
 ·exact g.m
 ·exact Fb.small (by decide) (by decide) (by decide) (by decide)
theorem yr {q p:KM.Fra} (h:Am 60 60 q p) (f:Fr 24 q):Wi p q:=⟨h.1.rd,h.2.1,h.2.2.1,h.1.sn.mono (by decide),h.1.sd.mono (by decide),f.sn.mono (by decide),f.sd.mono (by decide)⟩
section
variable {P:Program}{w:World}{K:PySem.W.Frag}{mg:Str→Option Value}{base:Heap}
inductive FR (vs:List V) (H:Hp) (Q:VK):Prop
 | mk (dv tv:V) (d:aC) (x:eV) (h0:vs=[dv,tv]) (h1:aJ ED H dv (eH d)) (h2:aJ ED H tv (qx x)) (h3:d.hr≤8) (h4:∀v H',ad H H'→aJ (wb H) H' v (bA ((List.range d.hr).map (dS d x)))→Q v H')
def G0:Sp:=fun vs H Q _=>FR  vs H Q
theorem ww (T:Txt K mg):aY P w K mg base CX0 2 T.tie_mosts_.f T.tie_mosts_.d ["day", "tie"] G0:=by
 have G_may_send:=#[(Ca)]
 refine T.tie_mosts_.F.ok vS (fun vs H Q E h=>?_) (fun cdv A outer s H vs Q E hr h=>?_)
 ·obtain ⟨dv,tv,d,x,rfl,_⟩:=h
  rfl
 ·obtain ⟨dv,tv,d,x,rfl,hd,ht,h8,k⟩:=h
  refine ⟨_,#[ac 3 #[aB 4 #[bI 7 (["hour", "day", "tie"]) (1) ([0,1]) _ _ _ _ rfl (by kernel_rfl) #[bG 6 qY T.b_range #[[#[#[0,(sO)][#[()]]]]] (by rfl)] (fun _ _ _ _ _ _=>#[0,(),()]) (fun _ _ _ _ _ _=>@bd _) (fun _ _ _ _ _ _=>#[jt 8 #[dz 3 #[G_may_send,(),T.may_send_,#[[#[1,0],#[2,0],#[0,()]]]] (by intro _;rfl)] #[#[2,0][#[()]]] #[aD 5 #[[#[()],#[()]]]]]) (by intro _;rfl)]]],?_⟩
  obtain ⟨a,p,tt,st,wl,wi,ts,ss,ws,is,Dd⟩:=dB hd
  cases Dd.ev
  obtain ⟨ta,om,og,op_,oo,rfl,hta,hom,_,_,_⟩:=iZ ht
  refine En fun Qr nr=>⟨(),a,_,_,(),rfl,aa.of Dd.ha,rfl,(),by trivial,by trivial,fun D hD=>dW (n:=d.hr) (fun h=>bJ (dS d x h)) (by trivial) hD (fun i H' hi _=>by show i<_;trivial) (fun H' _=>by show _≤_;trivial) ?_ ?_⟩
  ·rintro h y H3 H4 Rk hh s3 ⟨rfl,rfl⟩ kk
   refine ⟨dF,?_⟩
   have e0:(0:Int)+(h:Int)=h:=by trivial
   rw [e0]
   refine ⟨(),(),(),_,_,d,x,h,rfl,hd.mono s3.toE,ht.mono s3.toE,(),?_⟩
   by_cases c:(decide ((h:Int)∈x.op) && decide (h+x.la<d.hr))=true
   ·rw [c]
    have e:dS d x h=x.mo:=if_pos c
    refine fg ⟨(),ta,_,_,(),rfl,aa.of (s3 _ _ hta),rfl,kk _ _ (ad.refl _) ?_⟩
    rw [e]
    exact qb (s3 _ _ hom)
   ·have c':(decide ((h:Int)∈x.op) && decide (h+x.la<d.hr))=false:=by simpa using c
    rw [c']
    have e:dS d x h=(0,1):=if_neg c
    refine ce ⟨(by show 2≤10000;decide),fun q5 H5 k5=>kk _ _ k5.sm ?_⟩
    rw [e]
    exact qb k5.at'
  intro zs H2 s2 hD2 ia
  refine nr _ _ (k _ _ s2 ?_)
  unfold bA
  rw [List.map_map]
  exact .lst hD2 (fun z=>z hD) (ia.narrow fun z e=>.inr e)
inductive Fd (vs:List V) (H:Hp) (Q:VK):Prop
 | mk (dv tv:V) (d:aC) (x:iU) (h0:vs=[dv,tv]) (h1:aJ ED H dv (eH d)) (h2:aJ ED H tv (vc x)) (h3:d.hr≤8) (h4:∀v H',ad H H'→aJ (wb H) H' v (bA ((List.range d.hr).map fun _=>x.mo))→Q v H')
def Hi:Sp:=fun vs H Q _=>Fd  vs H Q
theorem uy (T:Txt K mg):aY P w K mg base CX0 1 T.store_mosts_.f T.store_mosts_.d ["day", "store"] Hi:=by
 refine T.store_mosts_.F.ok uw (fun vs H Q E h=>?_) (fun cdv A outer s H vs Q E hr h=>?_)
 ·obtain ⟨dv,tv,d,x,rfl,_⟩:=h
  rfl
 ·obtain ⟨dv,tv,d,x,rfl,hd,ht,h8,k⟩:=h
  refine ⟨_,#[ac 3 #[aB 4 #[bI 7 (["hour", "store"]) (1) ([1]) _ _ _ _ rfl (by kernel_rfl) #[bG 6 ph T.b_range #[[#[#[0,qN][#[()]]]]] (by rfl)] (fun _ _ _ _ _ _=>#[0,(),()]) (fun _ _ _ _ _ _=>@bd _) (fun _ _ _ _ _ _=>#[#[1,0][#[()]]]) (by intro _;rfl)]]],?_⟩
  obtain ⟨a,p,tt,st,wl,wi,ts,ss,ws,is,Dd⟩:=dB hd
  cases Dd.ev
  obtain ⟨ta,om,ok,rfl,hta,hom,_⟩:=pG ht
  refine En fun Qr nr=>⟨(),a,_,_,(),rfl,aa.of Dd.ha,rfl,(),by trivial,by trivial,fun D hD=>dW (n:=d.hr) (fun _=>bJ x.mo) (by trivial) hD (fun i H' hi _=>by show i<_;trivial) (fun H' _=>by show _≤_;trivial) ?_ ?_⟩
  ·rintro h y H3 H4 Rk hh s3 ⟨rfl,rfl⟩ kk
   exact ⟨dF,(),ta,_,_,(),rfl,aa.of (s3 _ _ hta),rfl,kk _ _ (ad.refl _) (qb (s3 _ _ hom))⟩
  intro zs H2 s2 hD2 ia
  refine nr _ _ (k _ _ s2 ?_)
  unfold bA
  rw [List.map_map]
  exact .lst hD2 (fun z=>z hD) (ia.narrow fun z e=>.inr e)
inductive FY (vs:List V) (H:Hp) (Q:VK):Prop
 | mk (s m:Addr) (us ms:List V) (E F:Addr→Prop) (rs cs:List (List KM.Fra)) (h0:vs=[.ref s,.ref m]) (h1:H s=some (.lst us)) (h2:aA E H us (rs.map bA)) (h3:H m=some (.lst ms)) (h4:aA F H ms (cs.map bA)) (h5:rs.length=cs.length) (h6:rs.length≤100) (h7:(∀(i:Nat) r c,rs[i]?=some r→cs[i]?=some c→r.length=c.length∧r.length≤100∧(∀p∈r,Fr 300 p)∧(∀p∈c,Fr 300 p)∧∀(j:Nat) p q,r[j]?=some p→c[j]?=some q→Wi p q)) (h8:∀H',ad H H'→Q (.bl true) H')
def GF:Sp:=fun vs H Q _=>FY  vs H Q
theorem vt (T:Txt K mg):aY P w K mg base CX0 6 T.are_hourly_.f T.are_hourly_.d ["thing", "mosts"] GF:=by
 have G_are_within:=#[(pe)]
 refine T.are_hourly_.F.ok vA (fun vs H Q E h=>?_) (fun cdv A outer s H vs Q E hr h=>?_)
 ·obtain ⟨s,m,us,ms,E,F,rs,cs,rfl,_⟩:=h
  rfl
 ·obtain ⟨a,m,us,ms,E1,F,rs,cs,rfl,ha,iu,hm,im,le,l1,hh,k⟩:=h
  refine ⟨_,#[#[bH 8 #[PW.pt 3 #[me 7 #[gj 4 #[dz 3 #[(),(),(@iC _ (K) (by rfl)),l5,T.b_isinstance,(@bW),#[[#[0,fZ],#[oE 4 qZ T.b_list (@fW) (by decide) (by decide)]]]] (by intro _;rfl)]] #[kh 4 #[aF 8 (@md _) #[(),(),(@jL _ (K) (by rfl)),lS,T.b_len,(@cx),#[[#[0,fZ]]]] #[(),(),(@jL _ (K) (by rfl)),lS,T.b_len,(@cx),#[[#[1,jW]]]] #[(),()]]]]] #[ac 3 #[aB 4 #[gv 4]]] (@bc _)] :: #[ac 3 #[aB 4 #[(),(),(@vK _ (K) rfl (by rfl)),su,T.b_all,(@kO),#[[#[bI 7 (["row", "caps"]) (2) ([]) _ _ _ _ rfl (by kernel_rfl) (@bV _ (K) _ _ _ _ _ _ _ _ sF T.b_zip #[[#[0,fZ],#[1,jW]]] (by rfl) (by rfl) (by rfl)) (fun _ _ _ _ _ _=>(@aQ _ (K) _ _ _ _ (2) rfl #[af 5 #[0,(),()] #[af 5 #[1,(),()] (@aW _) (by rfl)] (by rfl)] (by rfl) (by rfl) (by rfl))) (fun _ _ _ _ _ _=>@bd _) (fun _ _ _ _ _ _=>#[G_are_within,(),T.are_within_,#[[#[0,()],#[1,()]]]]) (by intro _;rfl)]]]]]]],?_⟩
  have lx:=iu.length
  have ly:=im.length
  rw [List.length_map] at lx ly
  refine aX fun DA nA=>⟨(),_,_,_,(),.lst ha,nZ (.list []),(),ce ⟨(),a,(),.inl (ah.of ha),(),m,(),.inl (ah.of hm),rfl,(),?_⟩⟩
  rw [decide_eq_true (show V.int ((us.length:Nat):Int)=V.int ((ms.length:Nat):Int) by congr 1;trivial)]
  refine ce (nA _ _ ?_)
  refine ⟨(),(),a,m,true,true,rfl,⟨_,ah.of ha⟩,⟨_,ah.of hm⟩,fun D hD=>uU (xs:=us) (ys:=ms) (fun _=>.bl true) (by trivial) hD (fun H' sm=>ah.of (sm _ _ ha)) (fun H' sm=>ah.of (sm _ _ hm)) ?_ ?_⟩
  ·intro j x y G R ex ey sg kk
   obtain ⟨dx,edx,hdx⟩:=iu.get ex
   obtain ⟨dy,edy,hdy⟩:=im.get ey
   rw [List.getElem?_map] at edx edy
   obtain ⟨r,er,rfl⟩:=Option.map_eq_some_iff.mp edx
   obtain ⟨c,ec,rfl⟩:=Option.map_eq_some_iff.mp edy
   obtain ⟨q1,q2,q3,q4,q5⟩:=hh j r c er ec
   obtain ⟨o1,rfl,f1⟩:=jX (hdx.mono sg.toE) q3
   obtain ⟨o2,rfl,f2⟩:=jX (hdy.mono sg.toE) q4
   exact ⟨kN,(),(),o1,o2,r,c,rfl,f1,f2,q1,q2,q5,fun H' s'=>kk _ s'⟩
  intro G sg hG
  rw [uV] at hG
  refine ⟨D,(),ah.of hG,?_⟩
  rw [show (List.replicate (min us.length ms.length) true).all id=true by simp]
  exact k _ sg
inductive Ge (vs:List V) (H:Hp) (Q:VK):Prop
 | mk (dv bv:V) (d:aC) (b:bo) (E:Addr→Prop) (h0:vs=[dv,bv]) (h1:aJ ED H dv (eH d)) (h2:aJ E H bv (iW b)) (h3:b7 d) (h4:GB 60 60 d b) (h5:∀H',ad H H'→Q (.bl true) H')
def GQ:Sp:=fun vs H Q _=>Ge  vs H Q
theorem tM (T:Txt K mg):aY P w K mg base CX0 7 T.is_book_.f T.is_book_.d ["day", "thing"] GQ:=by
 have G_is_tuple_of:=#[(tO)]
 have G_are_hourly:=#[(vt)]
 have G_are_within:=#[(pe)]
 have G_tie_mosts:=#[(ww)]
 have G_store_mosts:=#[(uy)]
 refine T.is_book_.F.ok kI (fun vs H Q E h=>?_) (fun cdv A outer s H vs Q E hr h=>?_)
 ·obtain ⟨dv,bv,d,b,E,rfl,_⟩:=h
  rfl
 ·obtain ⟨dv,bv,d,b,E1,rfl,hd,hb,gd,gb,k⟩:=h
  refine ⟨_,#[#[bH 8 #[gj 4 #[dz 3 #[G_is_tuple_of,nS,T.is_tuple_of_,#[[#[1,l7],#[()]]]] (by intro _;rfl)]] #[ac 3 #[aB 4 #[gv 4]]] (@bc _)] :: #[#[cD 6 #[1,l7] (@aQ _ (K) _ _ _ _ (3) rfl #[af 5 #[2,kI.nd,nT] #[af 5 #[3,kI.nd,ny] #[af 5 #[4,kI.nd,mr] (@aW _) (by rfl)] (by rfl)] (by rfl)] (by rfl) (by rfl) (by rfl)) (by rfl) (by rfl) (by rfl)] :: #[#[bH 8 #[gj 4 #[dz 3 #[G_are_hourly,ji,T.are_hourly_,#[[#[2,nT],#[bI 7 (["tie", "day"]) (1) ([0]) _ _ _ _ rfl (by kernel_rfl) (@dD _ (K) _ _ _ #[#[0,(kz)][#[()]]] (by rfl)) (fun _ _ _ _ _ _=>#[0,(),()]) (fun _ _ _ _ _ _=>@bd _) (fun _ _ _ _ _ _=>#[G_tie_mosts,(),T.tie_mosts_,#[[#[1,0],#[0,()]]]]) (by intro _;rfl)]]]] (by intro _;rfl)]] #[ac 3 #[aB 4 #[gv 4]]] (@bc _)] :: #[#[bH 8 #[gj 4 #[dz 3 #[G_are_hourly,ji,T.are_hourly_,#[[#[3,ny],#[bI 7 (["store", "day"]) (1) ([0]) _ _ _ _ rfl (by kernel_rfl) (@dD _ (K) _ _ _ #[#[0,(kz)][#[()]]] (by rfl)) (fun _ _ _ _ _ _=>#[0,(),()]) (fun _ _ _ _ _ _=>@bd _) (fun _ _ _ _ _ _=>#[G_store_mosts,(),T.store_mosts_,#[[#[1,0],#[0,()]]]]) (by intro _;rfl)]]]] (by intro _;rfl)]] #[ac 3 #[aB 4 #[gv 4]]] (@bc _)] :: #[ac 3 #[aB 4 #[G_are_within,ou,T.are_within_,#[[#[4,mr],#[bI 7 (["well"]) (1) ([]) _ _ _ _ rfl (by kernel_rfl) (@dD _ (K) _ _ _ #[#[0,(kz)][#[()]]] (by rfl)) (fun _ _ _ _ _ _=>#[0,(),()]) (fun _ _ _ _ _ _=>@bd _) (fun _ _ _ _ _ _=>#[#[0,()][#[()]]]) (by intro _;rfl)]]]]]]]]]],?_⟩
  obtain ⟨a,p,tt,st,wl,wi,ts,ss,ws,is,Dd⟩:=dB hd
  cases Dd.ev
  obtain ⟨ba,bs,bk,bz,us,ks,zs,rfl,hba,hbs,ius,hbk,iks,hbz,izs⟩:=nU hb
  have lts:=Dd.at_.length
  have lss:=Dd.as_.length
  have lws:=Dd.aw.length
  rw [List.length_map] at lts lss lws
  have t8:=gd.t8
  have s5:=gd.s5
  have w5:=gd.w5
  have h8:=gd.l8
  refine aX fun D0 n0=>⟨(),ba,_,3,rfl,hba,rfl,(),ce (n0 _ _ ?_)⟩
  refine aX fun D1 n1=>⟨(),ba,(),aa.of hba,rfl,_,(),_,(),_,(),rfl,n1 _ _ ?_⟩
  refine aX fun D2 n2=>⟨(),(),a,_,_,(),rfl,aa.of Dd.ha,rfl,tt,rfl,⟨_,aa.of Dd.ht⟩,fun D hD=>dW (n:=ts.length) (fun i=>bA ((d.ts[i]?.map fun x=>(List.range d.hr).map (dS d x)).getD [])) (by trivial) hD (fun i H' hi sm=>⟨ts,ts[i]'(by trivial),aa.of (sm _ _ Dd.ht),by rw [List.getElem?_eq_getElem (by trivial)]⟩) (fun H' sm=>⟨ts,aa.of (sm _ _ Dd.ht),Nat.le_refl _⟩) ?_ ?_⟩
  ·rintro i y H3 H4 R hi s3 ⟨rfl,ey⟩ kk
   have ey:=ey _ (aa.of (K:=K) (s3 _ _ Dd.ht))
   obtain ⟨x,ex,mx,dx⟩:=cj Dd.at_ ey
   rw [ex] at kk
   exact ⟨dF,(),(),_,_,d,x,rfl,hd.mono s3.toE,dx.mono s3.toE,h8,fun v H5 s5 dv=>kk _ _ s5 dv⟩
  intro ms H1 s1 hD1 im
  refine ⟨bs,D,us,ms,E1,_,b.se,(List.range ts.length).map (fun i=>((d.ts[i]?.map fun x=>(List.range d.hr).map (dS d x)).getD [])),rfl,s1 _ _ hbs,ius.mono s1.toE,hD1,by rw [List.map_map];exact im,by rw [List.length_map,List.length_range,gb.s,lts],by rw [gb.s];trivial,fun i r c er ec=>?_,fun H2 s2=>⟨(),ce (n2 _ _ ?_)⟩⟩
  ·have hi:i<d.ts.length:=by rw [←gb.s];exact (List.getElem?_eq_some_iff.mp er).1
   have ex:=List.getElem?_eq_getElem hi
   rw [List.getElem?_map,List.getElem?_range (by trivial)] at ec
   have ec:=Option.some.inj ec
   simp only [ex,Option.map_some,Option.getD_some] at ec
   subst ec
   have gx:=gd.ts _ (List.getElem_mem hi)
   obtain ⟨lr,ar⟩:=gb.sr i _ r ex er
   refine ⟨by simp [lr],by trivial,fun p hp=>?_,fun p hp=>?_,fun j p q ep eq=>?_⟩
   ·obtain ⟨j,hj⟩:=List.mem_iff_getElem?.mp hp
    exact (ar j p hj).1.mono (by decide)
   ·obtain ⟨j,_,rfl⟩:=List.mem_map.mp hp
    exact (vO gx j).mono (by decide)
   ·rw [List.getElem?_map] at eq
    obtain ⟨j',ej,rfl⟩:=Option.map_eq_some_iff.mp eq
    obtain rfl:j'=j:=by
     obtain ⟨hj,e⟩:=List.getElem?_eq_some_iff.mp ej
     rw [List.getElem_range] at e
     exact e.symm
    exact yr (ar j' p ep) (vO gx j')
  have s02:=s1.trans s2
  refine aX fun D3 n3=>⟨(),(),a,_,_,(),rfl,aa.of (s02 _ _ Dd.ha),rfl,st,rfl,⟨_,aa.of (s02 _ _ Dd.hs)⟩,fun D' hD'=>dW (n:=ss.length) (fun i=>bA ((d.ss[i]?.map fun x=>(List.range d.hr).map fun _=>x.mo).getD [])) (by trivial) hD' (fun i H' hi sm=>⟨ss,ss[i]'(by trivial),aa.of (sm _ _ (s02 _ _ Dd.hs)),by rw [List.getElem?_eq_getElem (by trivial)]⟩) (fun H' sm=>⟨ss,aa.of (sm _ _ (s02 _ _ Dd.hs)),Nat.le_refl _⟩) ?_ ?_⟩
  ·rintro i y H3 H4 R hi s3 ⟨rfl,ey⟩ kk
   have ey:=ey _ (aa.of (K:=K) (s3 _ _ (s02 _ _ Dd.hs)))
   obtain ⟨x,ex,mx,dx⟩:=cj Dd.as_ ey
   rw [ex] at kk
   exact ⟨dF,(),(),_,_,d,x,rfl,hd.mono (s02.trans s3).toE,dx.mono (s02.trans s3).toE,h8,fun v H5 s5 dv=>kk _ _ s5 dv⟩
  intro ms' H3 s3 hD3 im'
  have s03:=s02.trans s3
  refine ⟨bk,D',ks,ms',E1,_,b.ke,(List.range ss.length).map (fun i=>((d.ss[i]?.map fun x=>(List.range d.hr).map fun _=>x.mo).getD [])),rfl,s03 _ _ hbk,iks.mono s03.toE,hD3,by rw [List.map_map];exact im',by rw [List.length_map,List.length_range,gb.k,lss],by rw [gb.k];trivial,fun i r c er ec=>?_,fun H4 s4=>⟨(),ce (n3 _ _ ?_)⟩⟩
  ·have hi:i<d.ss.length:=by rw [←gb.k];exact (List.getElem?_eq_some_iff.mp er).1
   have ex:=List.getElem?_eq_getElem hi
   rw [List.getElem?_map,List.getElem?_range (by trivial)] at ec
   have ec:=Option.some.inj ec
   simp only [ex,Option.map_some,Option.getD_some] at ec
   subst ec
   have gx:=gd.ss _ (List.getElem_mem hi)
   obtain ⟨lr,ar⟩:=gb.kr i _ r ex er
   refine ⟨by simp [lr],by trivial,fun p hp=>?_,fun p hp=>?_,fun j p q ep eq=>?_⟩
   ·obtain ⟨j,hj⟩:=List.mem_iff_getElem?.mp hp
    exact (ar j p hj).1.mono (by decide)
   ·obtain ⟨j,_,rfl⟩:=List.mem_map.mp hp
    exact gx.m.mono (by decide)
   ·rw [List.getElem?_map] at eq
    obtain ⟨j',ej,rfl⟩:=Option.map_eq_some_iff.mp eq
    exact yr (ar j p ep) gx.m
  have s04:=s03.trans s4
  refine ⟨(),(),a,_,_,(),rfl,aa.of (s04 _ _ Dd.ha),rfl,wl,rfl,⟨_,aa.of (s04 _ _ Dd.hw)⟩,fun D'' hD''=>dW (n:=ws.length) (fun i=>bJ ((d.ws[i]?.map fun x=>x.mo).getD (0,1))) (by trivial) hD'' (fun i H' hi sm=>⟨ws,ws[i]'(by trivial),aa.of (sm _ _ (s04 _ _ Dd.hw)),by rw [List.getElem?_eq_getElem (by trivial)]⟩) (fun H' sm=>⟨ws,aa.of (sm _ _ (s04 _ _ Dd.hw)),Nat.le_refl _⟩) ?_ ?_⟩
  ·rintro i y H3 H4 R hi s3 ⟨rfl,ey⟩ kk
   have ey:=ey _ (aa.of (K:=K) (s3 _ _ (s04 _ _ Dd.hw)))
   obtain ⟨x,ex,mx,dx⟩:=cj Dd.aw ey
   rw [ex] at kk
   obtain ⟨wa,om,op_,rfl,hwa,hom,_⟩:=nN (dx.mono (s04.trans s3).toE)
   exact ⟨dF,(),wa,_,_,(),rfl,aa.of hwa,rfl,kk _ _ (ad.refl _) (qb hom)⟩
  intro ms'' H5 s5' hD5 im''
  have s05:=s04.trans s5'
  have e5:(List.range ws.length).map (fun i=>bJ ((d.ws[i]?.map fun x=>x.mo).getD (0,1)))=((List.range ws.length).map (fun i=>((d.ws[i]?.map fun x=>x.mo).getD (0,1)))).map bJ:=by rw [List.map_map];rfl
  rw [e5] at im''
  have fz:∀p∈b.dr,Fr 300 p:=fun p hp=>by
   obtain ⟨j,hj⟩:=List.mem_iff_getElem?.mp hp
   have hi:j<d.ws.length:=by rw [←gb.z];exact (List.getElem?_eq_some_iff.mp hj).1
   exact (gb.zr j _ p (List.getElem?_eq_getElem hi) hj).1.mono (by decide)
  have fm:∀p∈(List.range ws.length).map (fun i=>((d.ws[i]?.map fun x=>x.mo).getD (0,1))),Fr 300 p:=fun p hp=>by
   obtain ⟨j,hj,rfl⟩:=List.mem_map.mp hp
   have hj:=List.mem_range.mp hj
   rw [List.getElem?_eq_getElem (show j<d.ws.length by trivial)]
   exact (gd.ws _ (List.getElem_mem _)).m.mono (by decide)
  refine ⟨bz,D'',b.dr,(),⟨zs,s05 _ _ hbz,qK (izs.mono s05.toE) fz⟩,⟨ms'',hD5,qK im'' fm⟩,by rw [List.length_map,List.length_range,gb.z,lws],by rw [gb.z];trivial,fun j p q ep eq=>?_,fun H6 s6=>k _ (s05.trans s6)⟩
  have hj:j<d.ws.length:=by rw [←gb.z];exact (List.getElem?_eq_some_iff.mp ep).1
  have ex:=List.getElem?_eq_getElem hj
  rw [List.getElem?_map,List.getElem?_range (by trivial)] at eq
  have eq:=Option.some.inj eq
  simp only [ex,Option.map_some,Option.getD_some] at eq
  subst eq
  exact yr (gb.zr j _ p ex ep) (gd.ws _ (List.getElem_mem hj)).m
end
end K55
namespace K55
open PySem L2
set_option maxHeartbeats 16000000
def bn (r:List KM.Fra) (h:Nat):KM.Fra:=(r[h]?).getD (0,1)
def gT (d:aC) (b:bo) (p:List Nat) (h i:Nat):List KM.Fra:=match d.ts[i]?,b.se[i]? with
 | some x,some r=>if x.bg=p then [bn r h] else []
 | _,_=>[]
def gS (d:aC) (b:bo) (p:List Nat) (h i:Nat):List KM.Fra:=match d.ss[i]?,b.ke[i]? with
 | some x,some r=>if x.pl=p then [bn r h] else []
 | _,_=>[]
def cW (d:aC) (b:bo) (p:List Nat) (h i:Nat):List KM.Fra:=match d.ws[i]?,b.dr[i]? with
 | some x,some q=>if x.pl=p∧x.ho=h then [q] else []
 | _,_=>[]
def cT (d:aC) (b:bo) (p:List Nat) (h i:Nat):List KM.Fra:=match d.ts[i]?,b.se[i]? with
 | some x,some r=>if x.en=p∧x.la≤h then [KM.lTim (bn r (h - x.la)) x.ga] else []
 | _,_=>[]
def cS (d:aC) (b:bo) (p:List Nat) (h i:Nat):List KM.Fra:=match d.ss[i]?,b.ke[i]? with
 | some x,some r=>if x.pl=p∧0<h then [KM.lTim (bn r (h - 1)) x.ke] else []
 | _,_=>[]
def wI (d:aC) (p:List Nat) (h i:Nat):List KM.Fra:=match d.wi[i]? with
 | some x=>if x.pl=p∧x.ho=h then [x.am] else []
 | none=>[]
def fm (n:Nat) (g:Nat→List KM.Fra):List KM.Fra:=(List.range n).flatMap g
theorem aS (n:Nat) (g:Nat→List KM.Fra):fm (n+1) g=fm n g++g n:=by
 unfold fm
 rw [List.range_succ,List.flatMap_append]
 simp
def rH (d:aC) (b:bo) (p:List Nat) (h:Nat):List KM.Fra:=fm d.ws.length (cW d b p h)++fm d.ts.length (cT d b p h)++fm d.ss.length (cS d b p h)
def vZ (d:aC) (b:bo) (p:List Nat) (h:Nat):List KM.Fra:=fm d.ts.length (gT d b p h)++fm d.ss.length (gS d b p h)
def uQ (d:aC) (p:List Nat) (h:Nat):List KM.Fra:=fm d.wi.length (wI d p h)
theorem iE {D:Addr}{H1:Hp}{σc:St}{g:TG}{te:TE}{tt:TT}{Q:VK}{J:It}{n c:Nat} (G:Nat→List KM.Fra) (hz:n≤10000) (hD:H1 D=none) (hgo:∀i H',i<n→ad H1 H'→J.go i H') (hst:∀H',ad H1 H'→J.stop n H')
 (hs:∀i x H' H'' (R:VK) (R0:Hp→Prop),i<n→ad H1 H'→J.yld i H' x H''→(∀o p H4,ad H' H4→G i=[p]→H4 o=some (fr p)→Fr c p→R (.ref o) H4)→(∀H4,ad H' H4→G i=[]→R0 H4)→g x σc H'' fun σ2 H2=>gM σc σ2∧tt σ2 H2 fun b H3=>if b=true then te σ2 H3 R else R0 H3)
 (hd:∀H' zs,ad H1 H'→H' D=some (.lst zs)→FL c H' zs (fm n G)→zs.length≤n→Q (.ref D) H'):jM J σc g tt te D H1 Q:=by
 refine uY (n:=n) (fun i H' zs=>H' D=some (.lst zs)∧ad H1 H'∧FL c H' zs (fm i G)∧zs.length≤i) (fE hz) ⟨au,da hD (ad.refl _),.nil,Nat.le_refl _⟩ ?_ ?_ ?_ ?_ ?_
 ·rintro i H' zs ⟨q,_,_,l⟩
  exact ⟨q,l⟩
 ·rintro i H' zs hi ⟨_,sm,_⟩
  exact hgo i H' hi sm
 ·rintro H' zs ⟨_,sm,_⟩
  exact hst H' sm
 ·rintro i H' zs x H'' hi ⟨q,sm,gz,l⟩ y
  refine hs i x H' H'' _ _ hi sm y (fun o p H4 s4 e ho fp=>⟨s4 _ _ q,au,da hD (sm.trans s4),?_,by rw [List.length_append];exact Nat.succ_le_succ l⟩) fun H4 s4 e=>⟨s4 _ _ q,sm.trans s4,?_,by trivial⟩
  ·rw [aS,e]
   have q4:=s4 _ _ q
   exact FL.tup (FL.snoc ho fp (gz.sm s4)) fun a us e=>by rw [ay (eO e q4 (by intro z;cases z))];exact e
  ·rw [aS,e,List.append_nil]
   exact gz.sm s4
 ·rintro H' zs ⟨q,sm,gz,l⟩
  exact hd H' zs sm q gz l
theorem yy {c:Nat}{H:Hp}{xs:List V}{r:List KM.Fra}{h:Nat} (f:FL c H xs r) (hh:h<r.length):∃o,xs[h]?=some (.ref o)∧H o=some (fr (bn r h))∧Fr c (bn r h):=by
 obtain ⟨o,p,e1,e2,e3,e4⟩:=FL.at (i:=h) f (by rw [f.length];exact hh)
 have e:bn r h=p:=by unfold bn;rw [e2];rfl
 rw [e]
 exact ⟨o,e1,e3,e4⟩
theorem GB.row {d:aC}{b:bo} (g:GB 60 60 d b) {i:Nat}{x:eV} (ex:d.ts[i]?=some x):∃r,b.se[i]?=some r∧r.length=d.hr∧∀p∈r,Fr 60 p:=by
 have hi:i<b.se.length:=by rw [g.s];exact (List.getElem?_eq_some_iff.mp ex).1
 have er:=List.getElem?_eq_getElem hi
 obtain ⟨l,a⟩:=g.sr i x _ ex er
 refine ⟨_,er,l,fun p hp=>?_⟩
 obtain ⟨j,hj⟩:=List.mem_iff_getElem?.mp hp
 exact (a j p hj).1
theorem GB.rowK {d:aC}{b:bo} (g:GB 60 60 d b) {i:Nat}{x:iU} (ex:d.ss[i]?=some x):∃r,b.ke[i]?=some r∧r.length=d.hr∧∀p∈r,Fr 60 p:=by
 have hi:i<b.ke.length:=by rw [g.k];exact (List.getElem?_eq_some_iff.mp ex).1
 have er:=List.getElem?_eq_getElem hi
 obtain ⟨l,a⟩:=g.kr i x _ ex er
 refine ⟨_,er,l,fun p hp=>?_⟩
 obtain ⟨j,hj⟩:=List.mem_iff_getElem?.mp hp
 exact (a j p hj).1
theorem ki {E:Addr→Prop}{H:Hp}{us:List V}{rs:List (List KM.Fra)}{i:Nat}{u:V}{r:List KM.Fra} (h:aA E H us (rs.map bA)) (e:us[i]?=some u) (er:rs[i]?=some r):aJ E H u (bA r):=h.nth i e (by rw [List.getElem?_map,er];rfl)
section
variable {P:Program}{w:World}{K:PySem.W.Frag}{mg:Str→Option Value}{base:Heap}
inductive Cs (vs:List V) (H:Hp) (Q:VK):Prop
 | mk (dv:V) (d:aC) (p:List Nat) (h:Nat) (h0:vs=[dv,aI p,.int (h:Int)]) (h1:aJ ED H dv (eH d)) (h2:b7 d) (h3:∀o H',ad H H'→H' o=some (fr (KM.sumF (uQ d p h)))→Fr 200 (KM.sumF (uQ d p h))→Q (.ref o) H')
def Db:Sp:=fun vs H Q _=>Cs  vs H Q
theorem yx (T:Txt K mg):aY P w K mg base CX0 5 T.wished_in_.f T.wished_in_.d ["day", "place", "hour"] Db:=by
 have G_sum_of:=#[(qL)]
 refine T.wished_in_.F.ok wc (fun vs H Q E h=>?_) (fun cdv A outer s H vs Q E hr h=>?_)
 ·obtain ⟨dv,d,p,h,rfl,_⟩:=h
  rfl
 ·obtain ⟨dv,d,p,h,rfl,hd,gd,k⟩:=h
  refine ⟨_,#[ac 3 #[aB 4 #[G_sum_of,qq,T.sum_of_,#[[#[bI 7 (["wish", "hour", "place"]) (1) ([2,1]) _ _ _ _ rfl (by kernel_rfl) (@dD _ (K) _ _ _ #[#[0,sU][#[()]]] (by rfl)) (fun _ _ _ _ _ _=>#[0,(),()]) (fun _ _ _ _ _ _=>#[ow 3 #[PW.pt 3 #[qy 7 #[aF 8 (@cw _) #[#[0,()][#[()]]] #[2,0] #[(),()]] #[mY 4 #[aF 8 (@cw _) #[#[0,()][#[()]]] #[1,0] #[(),()]]]]]]) (fun _ _ _ _ _ _=>#[#[0,()][#[()]]]) (by intro _;rfl)]]]]]],?_⟩
  obtain ⟨a,pp,tt,st,wl,wi,ts,ss,ws,is,Dd⟩:=dB hd
  cases Dd.ev
  have lis:=Dd.ai.length
  rw [List.length_map] at lis
  have i7:=gd.i7
  refine ⟨(),a,_,_,(),rfl,aa.of Dd.ha,rfl,wi,rfl,⟨_,aa.of Dd.hi⟩,fun D hD=>iE (n:=d.wi.length) (c:=24) (wI d p h) (by trivial) hD (fun i H' hi sm=>⟨is,is[i]'(by trivial),aa.of (sm _ _ Dd.hi),by rw [List.getElem?_eq_getElem (by trivial)]⟩) (fun H' sm=>⟨is,aa.of (sm _ _ Dd.hi),by trivial⟩) ?_ ?_⟩
  ·rintro i y H3 H4 R R0 hi s3 ⟨rfl,ey⟩ k1 k0
   have ey:=ey _ (aa.of (K:=K) (s3 _ _ Dd.hi))
   obtain ⟨x,ex,mx,dx⟩:=cj Dd.ai ey
   have gx:=gd.wi x mx
   obtain ⟨wa,om,rfl,hwa,hom⟩:=zG (dx.mono s3.toE)
   have e:wI d p h i=if x.pl=p∧x.ho=h then [x.am] else []:=by unfold wI;rw [ex]
   refine ⟨dF,(),wa,_,_,(),rfl,aa.of hwa,rfl,(),rfl,(),bZ (fun c=>?_) fun c=>ce (k0 _ (ad.refl _) ?_)⟩
   ·have c1:=oQ.mp (of_decide_eq_true c)
    refine ⟨(),wa,_,_,(),rfl,aa.of hwa,rfl,(),rfl,(),bZ (fun c=>⟨(),wa,_,_,(),rfl,aa.of hwa,rfl,k1 om _ _ (ad.refl _) ?_ hom gx.a⟩) fun c=>k0 _ (ad.refl _) ?_⟩
    ·have c2:=of_decide_eq_true c
     injection c2 with c2
     rw [e,if_pos ⟨c1,by trivial⟩]
    ·rw [e,if_neg]
     rintro ⟨_,z⟩
     exact c (decide_eq_true (by rw [z]))
   ·rw [e,if_neg]
    rintro ⟨z,_⟩
    exact c (decide_eq_true (oQ.mpr z))
  intro H1 zs s1 hD1 fz lz
  refine ⟨D,zs,_,24,200,rfl,ah.of hD1,fz,by trivial,by decide,by decide,fun o H' s' ho hf=>k o H' (s1.trans s') ho hf⟩
end
end K55
namespace K55
open PySem L2
set_option maxHeartbeats 16000000
section
variable {P:Program}{w:World}{K:PySem.W.Frag}{mg:Str→Option Value}{base:Heap}
inductive EY (L:aC→bo→List Nat→Nat→List KM.Fra) (m:Nat) (vs:List V) (H:Hp) (Q:VK):Prop
 | mk (dv bv:V) (d:aC) (b:bo) (E:Addr→Prop) (p:List Nat) (h:Nat) (h0:vs=[dv,bv,aI p,.int (h:Int)]) (h1:aJ ED H dv (eH d)) (h2:aJ E H bv (iW b)) (h3:b7 d) (h4:GB 60 60 d b) (h5:h<d.hr) (h6:∀o H',ad H H'→H' o=some (fr (KM.sumF (L d b p h)))→Fr m (KM.sumF (L d b p h))→Q (.ref o) H')
def Bm (L:aC→bo→List Nat→Nat→List KM.Fra) (m:Nat):Sp:=fun vs H Q _=>EY L m vs H Q
theorem AK (T:Txt K mg):aY P w K mg base CX0 5 T.goes_at_.f T.goes_at_.d ["day", "book", "place", "hour"] (Bm vZ 800):=by
 have G_sum_of:=#[(qL)]
 refine T.goes_at_.F.ok i6 (fun vs H Q E h=>?_) (fun cdv A outer s H vs Q E hr h=>?_)
 ·obtain ⟨dv,bv,d,b,E,p,h,rfl,_⟩:=h
  rfl
 ·obtain ⟨dv,bv,d,b,E1,p,h,rfl,hd,hb,gd,gb,hh,k⟩:=h
  refine ⟨_,#[#[cD 6 #[1,uv] (@aQ _ (K) _ _ _ _ (3) rfl #[af 5 #[4,i6.nd,nW] #[af 5 #[5,i6.nd,nq] #[af 5 #[6,i6.nd,sX] (@aW _) (by rfl)] (by rfl)] (by rfl)] (by rfl) (by rfl) (by rfl)) (by rfl) (by rfl) (by rfl)] :: #[#[dX 7 (["row", "tie", "hour", "place"]) (2) ([3,2]) _ _ _ _ (7) _ _ _ i6.nd rfl jb (by kernel_rfl) rfl (by kernel_rfl) (@bV _ (K) _ _ _ _ _ _ _ _ o8 T.b_zip #[[#[4,nW],#[#[0,oV][#[()]]]]] (by rfl) (by rfl) (by rfl)) (fun _ _ _ _ _ _=>(@aQ _ (K) _ _ _ _ (2) rfl #[af 5 #[0,(),()] #[af 5 #[1,(),()] (@aW _) (by rfl)] (by rfl)] (by rfl) (by rfl) (by rfl))) (fun _ _ _ _ _ _=>#[ow 3 #[aF 8 (@cw _) #[#[1,()][#[()]]] #[3,0] #[(),()]]]) (fun _ _ _ _ _ _=>#[#[0,()][#[2,0]]!]) (by intro _;rfl)] :: #[#[dn 4 (@cI _ (K) _ _ _ _ _ _ _ _ _ _ _ PySem.F.plainAttrs_list PySem.F.slot_list_extend PySem.F.type_list_extend (@tF _) #[7,jb] #[[#[bI 7 (["row", "store", "hour", "place"]) (2) ([3,2]) _ _ _ _ rfl (by kernel_rfl) (@bV _ (K) _ _ _ _ _ _ _ _ o8 T.b_zip #[[#[5,nq],#[#[0,oV][#[()]]]]] (by rfl) (by rfl) (by rfl)) (fun _ _ _ _ _ _=>(@aQ _ (K) _ _ _ _ (2) rfl #[af 5 #[0,(),()] #[af 5 #[1,(),()] (@aW _) (by rfl)] (by rfl)] (by rfl) (by rfl) (by rfl))) (fun _ _ _ _ _ _=>#[ow 3 #[aF 8 (@cw _) #[#[1,()][#[()]]] #[3,0] #[(),()]]]) (fun _ _ _ _ _ _=>#[#[0,()][#[2,0]]!]) (by intro _;rfl)]]] (by rfl) (by rfl) (by rfl) (by rfl) (by rfl) (by rfl)) (by rfl)] :: #[ac 3 #[aB 4 #[G_sum_of,rN,T.sum_of_,#[[#[7,jb]]]]]]]]],?_⟩
  obtain ⟨a,pp,tt,st,wl,wi,ts,ss,ws,is,Dd⟩:=dB hd
  cases Dd.ev
  obtain ⟨ba,bs,bk,bz,us,ks,zs,rfl,hba,hbs,ius,hbk,iks,hbz,izs⟩:=nU hb
  have lts:=Dd.at_.length
  have lss:=Dd.as_.length
  have lus:=ius.length
  have lks:=iks.length
  rw [List.length_map] at lts lss lus lks
  rw [gb.s] at lus
  rw [gb.k] at lks
  have t8:=gd.t8
  have s5:=gd.s5
  refine aX fun D0 n0=>⟨(),ba,(),aa.of hba,rfl,_,(),_,(),_,(),rfl,n0 _ _ ?_⟩
  refine ik fun Q1 n1=>⟨(),(),a,_,_,(),rfl,aa.of Dd.ha,rfl,bs,tt,true,false,rfl,⟨_,ah.of hbs⟩,⟨_,aa.of Dd.ht⟩,fun D hD=>iE (n:=d.ts.length) (c:=60) (gT d b p h) (by trivial) hD (fun i H' hi sm=>⟨us,ts,us[i]'(by trivial),ts[i]'(by trivial),ah.of (sm _ _ hbs),aa.of (sm _ _ Dd.ht),by rw [List.getElem?_eq_getElem (by trivial)],by rw [List.getElem?_eq_getElem (by trivial)]⟩) (fun H' sm=>⟨us,ts,ah.of (sm _ _ hbs),aa.of (sm _ _ Dd.ht),by trivial⟩) ?_ ?_⟩
  ·rintro i v H' H'' R R0 hi sm ⟨Tp,u,y,hT,rfl,rfl,e1,e2⟩ k1 k0
   have e1:=e1 _ (ah.of (K:=K) (sm _ _ hbs))
   have e2:=e2 _ (aa.of (K:=K) (sm _ _ Dd.ht))
   have st':=ad.new (o:=.tup [u,y]) hT
   have sx:=sm.trans st'
   obtain ⟨x,ex,mx,dx⟩:=cj Dd.at_ e2
   obtain ⟨r,er,lr,fr_⟩:=gb.row ex
   obtain ⟨ta,om,og,op_,oo,rfl,hta,_,_,_,_⟩:=iZ (dx.mono sx.toE)
   obtain ⟨ru,rfl,xs,hxs,fxs⟩:=jX (ki (ius.mono sx.toE) e1 er) fun q hq=>(fr_ q hq).mono (by decide)
   obtain ⟨o,eo,ho,_⟩:=yy (h:=h) fxs (by trivial)
   have fo:Fr 60 (bn r h):=by
    unfold bn
    rw [List.getElem?_eq_getElem (show h<r.length by trivial)]
    exact fr_ _ (List.getElem_mem _)
   have e:gT d b p h i=if x.bg=p then [bn r h] else []:=by unfold gT;rw [ex,er]
   refine ⟨Tp,(),aa.of au,rfl,_,(),_,(),rfl,kN,(),ta,_,_,(),rfl,aa.of hta,rfl,(),rfl,(),bZ (fun c=>⟨(),(),ru,_,_,(),rfl,ah.of hxs,gu eo,k1 o _ _ st' ?_ ho fo⟩) fun c=>k0 _ st' ?_⟩
   ·rw [e,if_pos (oQ.mp (of_decide_eq_true c))]
   ·rw [e,if_neg fun z=>c (decide_eq_true (oQ.mpr z))]
  intro H1 xs s1 hD1 fx lx
  refine n1 _ _ ?_
  refine aX fun D2 n2=>⟨(),.inl ⟨rfl,_,ah.of hD1⟩,(),(),a,_,_,(),rfl,aa.of (s1 _ _ Dd.ha),rfl,bk,st,true,false,rfl,⟨_,ah.of (s1 _ _ hbk)⟩,⟨_,aa.of (s1 _ _ Dd.hs)⟩,fun D2 hD2=>iE (n:=d.ss.length) (c:=60) (gS d b p h) (by trivial) hD2 (fun i H' hi sm=>⟨ks,ss,ks[i]'(by trivial),ss[i]'(by trivial),ah.of (sm _ _ (s1 _ _ hbk)),aa.of (sm _ _ (s1 _ _ Dd.hs)),by rw [List.getElem?_eq_getElem (by trivial)],by rw [List.getElem?_eq_getElem (by trivial)]⟩) (fun H' sm=>⟨ks,ss,ah.of (sm _ _ (s1 _ _ hbk)),aa.of (sm _ _ (s1 _ _ Dd.hs)),by trivial⟩) ?_ ?_⟩
  ·rintro i v H' H'' R R0 hi sm ⟨Tp,u,y,hT,rfl,rfl,e1,e2⟩ k1 k0
   have e1:=e1 _ (ah.of (K:=K) (sm _ _ (s1 _ _ hbk)))
   have e2:=e2 _ (aa.of (K:=K) (sm _ _ (s1 _ _ Dd.hs)))
   have st':=ad.new (o:=.tup [u,y]) hT
   have sx:=(s1.trans sm).trans st'
   obtain ⟨x,ex,mx,dx⟩:=cj Dd.as_ e2
   obtain ⟨r,er,lr,fr_⟩:=gb.rowK ex
   obtain ⟨ta,om,ok,rfl,hta,_,_⟩:=pG (dx.mono sx.toE)
   obtain ⟨ru,rfl,xs',hxs,fxs⟩:=jX (ki (iks.mono sx.toE) e1 er) fun q hq=>(fr_ q hq).mono (by decide)
   obtain ⟨o,eo,ho,_⟩:=yy (h:=h) fxs (by trivial)
   have fo:Fr 60 (bn r h):=by
    unfold bn
    rw [List.getElem?_eq_getElem (show h<r.length by trivial)]
    exact fr_ _ (List.getElem_mem _)
   have e:gS d b p h i=if x.pl=p then [bn r h] else []:=by unfold gS;rw [ex,er]
   refine ⟨Tp,(),aa.of au,rfl,_,(),_,(),rfl,kN,(),ta,_,_,(),rfl,aa.of hta,rfl,(),rfl,(),bZ (fun c=>⟨(),(),ru,_,_,(),rfl,ah.of hxs,gu eo,k1 o _ _ st' ?_ ho fo⟩) fun c=>k0 _ st' ?_⟩
   ·rw [e,if_pos (oQ.mp (of_decide_eq_true c))]
   ·rw [e,if_neg fun z=>c (decide_eq_true (oQ.mpr z))]
  intro H2 ys s2 hD2' fy ly
  have hDH:H D=none:=hD
  refine ⟨D,D2,xs,ys,rfl,rfl,s2 _ _ hD1,hD2',by trivial,fun H3 c3=>n2 _ _ ?_⟩
  have hD12:=s2 _ _ hD1
  have s03:ad H H3:=fun x o h=>c3.ol x o (fun e=>by rw [e,hDH] at h;cases h) ((s1.trans s2) _ _ h)
  have t23:∀x us,H2 x=some (.tup us)→H3 x=some (.tup us):=fun x us e=>c3.tup e hD12
  exact ⟨(),D,_,_,60,800,rfl,ah.of c3.at',((fx.sm s2).append fy).tup t23,by rw [List.length_append];trivial,by decide,by decide,fun o H' s' ho hf=>k o H' (s03.trans s') ho hf⟩
end
end K55
namespace K55
open PySem L2
set_option maxHeartbeats 16000000
theorem FL.mn {c e:Nat}{H:Hp} (l:c≤e):∀{xs:List V}{ps:List KM.Fra},FL c H xs ps→FL e H xs ps
 | _,_,.nil=>.nil
 | _,_,.cons h f r=>.cons h (f.mono l) (FL.mn l r)
theorem oB {a b:Nat}{p q:KM.Fra} (hp:Fr a p) (hq:Fr b q) (l:a≤4000) (m:b≤4000):Sz 4000 p.1∧Sz 4000 p.2∧Sz 4000 q.1∧Sz 4000 q.2∧p.2*q.2≠0:=uH hp hq l m
section
variable {P:Program}{w:World}{K:PySem.W.Frag}{mg:Str→Option Value}{base:Heap}
theorem zX (T:Txt K mg):aY P w K mg base CX0 5 T.comes_at_.f T.comes_at_.d ["day", "book", "place", "hour"] (Bm rH 1600):=by
 have G_sum_of:=#[(qL)]
 have G_times:=#[(rX)]
 refine T.comes_at_.F.ok bf (fun vs H Q E h=>?_) (fun cdv A outer s H vs Q E hr h=>?_)
 ·obtain ⟨dv,bv,d,b,E,p,h,rfl,_⟩:=h
  rfl
 ·obtain ⟨dv,bv,d,b,E1,p,h,rfl,hd,hb,gd,gb,hh,k⟩:=h
  refine ⟨_,#[#[cD 6 #[1,sY] (@aQ _ (K) _ _ _ _ (3) rfl #[af 5 #[4,bf.nd,mz] #[af 5 #[5,bf.nd,mF] #[af 5 #[6,bf.nd,lC] (@aW _) (by rfl)] (by rfl)] (by rfl)] (by rfl) (by rfl) (by rfl)) (by rfl) (by rfl) (by rfl)] :: #[#[dX 7 (["much", "well", "hour", "place"]) (2) ([3,2]) _ _ _ _ (7) _ _ _ bf.nd rfl eM (by kernel_rfl) rfl (by kernel_rfl) (@bV _ (K) _ _ _ _ _ _ _ _ jJ T.b_zip #[[#[6,lC],#[#[0,jD][#[()]]]]] (by rfl) (by rfl) (by rfl)) (fun _ _ _ _ _ _=>(@aQ _ (K) _ _ _ _ (2) rfl #[af 5 #[0,(),()] #[af 5 #[1,(),()] (@aW _) (by rfl)] (by rfl)] (by rfl) (by rfl) (by rfl))) (fun _ _ _ _ _ _=>#[ow 3 #[PW.pt 3 #[qy 7 #[aF 8 (@cw _) #[#[1,()][#[()]]] #[3,0] #[(),()]] #[mY 4 #[aF 8 (@cw _) #[#[1,()][#[()]]] #[2,0] #[(),()]]]]]]) (fun _ _ _ _ _ _=>#[0,()]) (by intro _;rfl)] :: #[#[bL 8 PassesOwn.never rfl (@bV _ (K) _ _ _ _ _ _ _ _ jJ T.b_zip #[[#[4,mz],#[#[0,jD][#[()]]]]] (by rfl) (by rfl) (by rfl)) (@aQ _ (K) _ _ _ _ (2) rfl #[af 5 #[8,bf.nd,gE] #[af 5 (@aQ _ (K) _ _ _ _ (7) rfl #[af 5 #[9,bf.nd,rS] #[af 5 #[10,bf.nd,nH] #[af 5 #[11,bf.nd,mq] #[af 5 #[12,bf.nd,mj] #[af 5 #[13,bf.nd,sk] #[af 5 #[14,bf.nd,iN] #[af 5 #[15,bf.nd,rD] (@aW _) (by rfl)] (by rfl)] (by rfl)] (by rfl)] (by rfl)] (by rfl)] (by rfl)] (by rfl) (by rfl) (by rfl)) (@aW _) (by rfl)] (by rfl)] (by rfl) (by rfl) (by rfl)) #[ac 3 #[bH 8 #[PW.pt 3 #[qy 7 #[aF 8 (@cw _) #[10,nH] #[2,(lA)] #[(),()]] #[mY 4 #[aF 8 (@Bg _) #[14,iN] #[3,(fH)] #[(),()]]]]] #[ac 3 #[dn 4 (@cI _ (K) _ _ _ _ _ _ _ _ _ _ _ PySem.F.plainAttrs_list PySem.F.slot_list_append PySem.F.type_list_append (@cN _) #[7,eM] #[[#[G_times,lQ,T.times_,#[[#[#[8,gE][#[ak 8 (@pD _) #[3,(fH)] #[14,iN]]]!],#[12,mj]]]]]] (by rfl) (by rfl) (by rfl) (by rfl) (by rfl) (by rfl)) (by rfl)]] (@bc _)]] (by intro _;rfl)] :: #[#[bL 8 PassesOwn.never rfl (@bV _ (K) _ _ _ _ _ _ _ _ jJ T.b_zip #[[#[5,mF],#[#[0,jD][#[()]]]]] (by rfl) (by rfl) (by rfl)) (@aQ _ (K) _ _ _ _ (2) rfl #[af 5 #[8,bf.nd,gE] #[af 5 (@aQ _ (K) _ _ _ _ (3) rfl #[af 5 #[16,bf.nd,mC] #[af 5 #[11,bf.nd,mq] #[af 5 #[17,bf.nd,mG] (@aW _) (by rfl)] (by rfl)] (by rfl)] (by rfl) (by rfl) (by rfl)) (@aW _) (by rfl)] (by rfl)] (by rfl) (by rfl) (by rfl)) #[ac 3 #[bH 8 #[PW.pt 3 #[qy 7 #[aF 8 (@cw _) #[16,mC] #[2,(lA)] #[(),()]] #[mY 4 #[aF 8 (@oJ _) #[3,(fH)] #[()] #[(),()]]]]] #[ac 3 #[dn 4 (@cI _ (K) _ _ _ _ _ _ _ _ _ _ _ PySem.F.plainAttrs_list PySem.F.slot_list_append PySem.F.type_list_append (@cN _) #[7,eM] #[[#[G_times,lQ,T.times_,#[[#[#[8,gE][#[ak 8 (@pD _) #[3,(fH)] #[()]]]!],#[17,mG]]]]]] (by rfl) (by rfl) (by rfl) (by rfl) (by rfl) (by rfl)) (by rfl)]] (@bc _)]] (by intro _;rfl)] :: #[ac 3 #[aB 4 #[G_sum_of,qT,T.sum_of_,#[[#[7,eM]]]]]]]]]],?_⟩
  obtain ⟨a,pp,tt,st,wl,wi,ts,ss,ws,is,Dd⟩:=dB hd
  cases Dd.ev
  obtain ⟨ba,bs,bk,bz,us,ks,zs,rfl,hba,hbs,ius,hbk,iks,hbz,izs⟩:=nU hb
  have lts:=Dd.at_.length
  have lss:=Dd.as_.length
  have lws:=Dd.aw.length
  have lus:=ius.length
  have lks:=iks.length
  have lzs:=izs.length
  rw [List.length_map] at lts lss lws lus lks lzs
  rw [gb.s] at lus
  rw [gb.k] at lks
  rw [gb.z] at lzs
  have t8:=gd.t8
  have s5:=gd.s5
  have w5:=gd.w5
  refine aX fun D0 n0=>⟨(),ba,(),aa.of hba,rfl,_,(),_,(),_,(),rfl,n0 _ _ ?_⟩
  refine ik fun Q1 n1=>⟨(),(),a,_,_,(),rfl,aa.of Dd.ha,rfl,bz,wl,true,false,rfl,⟨_,ah.of hbz⟩,⟨_,aa.of Dd.hw⟩,fun D hD=>iE (n:=d.ws.length) (c:=60) (cW d b p h) (by trivial) hD (fun i H' hi sm=>⟨zs,ws,zs[i]'(by trivial),ws[i]'(by trivial),ah.of (sm _ _ hbz),aa.of (sm _ _ Dd.hw),by rw [List.getElem?_eq_getElem (by trivial)],by rw [List.getElem?_eq_getElem (by trivial)]⟩) (fun H' sm=>⟨zs,ws,ah.of (sm _ _ hbz),aa.of (sm _ _ Dd.hw),by trivial⟩) ?_ ?_⟩
  ·rintro i v H' H'' R R0 hi sm ⟨Tp,u,y,hT,rfl,rfl,e1,e2⟩ k1 k0
   have e1:=e1 _ (ah.of (K:=K) (sm _ _ hbz))
   have e2:=e2 _ (aa.of (K:=K) (sm _ _ Dd.hw))
   have st':=ad.new (o:=.tup [u,y]) hT
   have sx:=sm.trans st'
   obtain ⟨x,ex,mx,dx⟩:=cj Dd.aw e2
   obtain ⟨wa,om,op_,rfl,hwa,_,_⟩:=nN (dx.mono sx.toE)
   have hz:i<b.dr.length:=by rw [gb.z];exact (List.getElem?_eq_some_iff.mp ex).1
   have eq:=List.getElem?_eq_getElem hz
   have aq:=(gb.zr i x _ ex eq).1
   obtain ⟨o,rfl,ho⟩:=iI (p:=b.dr[i]) ((izs.mono sx.toE).nth i e1 (by rw [List.getElem?_map,eq];rfl))
   have e:cW d b p h i=if x.pl=p∧x.ho=h then [b.dr[i]] else []:=by unfold cW;rw [ex,eq]
   refine ⟨Tp,(),aa.of au,rfl,_,(),_,(),rfl,kN,(),wa,_,_,(),rfl,aa.of hwa,rfl,(),rfl,(),bZ (fun c=>?_) fun c=>ce (k0 _ st' ?_)⟩
   ·have c1:=oQ.mp (of_decide_eq_true c)
    refine ⟨(),wa,_,_,(),rfl,aa.of hwa,rfl,(),rfl,(),bZ (fun c=>⟨(),k1 o _ _ st' ?_ ho aq⟩) fun c=>k0 _ st' ?_⟩
    ·have c2:=of_decide_eq_true c
     injection c2 with c2
     rw [e,if_pos ⟨c1,by trivial⟩]
    ·rw [e,if_neg]
     rintro ⟨_,z⟩
     exact c (decide_eq_true (by rw [z]))
   ·rw [e,if_neg]
    rintro ⟨z,_⟩
    exact c (decide_eq_true (oQ.mpr z))
  intro H1 xs0 s1 hD1 fx0 lx0
  refine n1 _ _ ?_
  have nD:∀a o,H a=some o→a≠D:=fun a o h e=>by rw [e,hD] at h;cases h
  have fx0:=FL.mn (show 60≤84 by decide) fx0
  refine aX fun D2 n2=>⟨(),(),a,_,_,(),rfl,aa.of (s1 _ _ Dd.ha),rfl,bs,tt,true,false,rfl,⟨_,ah.of (s1 _ _ hbs)⟩,⟨_,aa.of (s1 _ _ Dd.ht)⟩,jB (xs:=us) (ys:=ts) (n:=d.ts.length) (fun i σ H'=>xX fun (v8 v9 v10 v11 v12 v13 v14 v15 v16 v17:Option V) (xs:List V)=>σ=[some (.ref a),some (.ref ba),some (aI p),some (.int (h:Int)),some (.ref bs),some (.ref bk),some (.ref bz),some (.ref D),v8,v9,v10,v11,v12,v13,v14,v15,v16,v17]∧ad H H'∧H' D=some (.lst xs)∧xs.length≤5+i∧FL 84 H' xs (fm d.ws.length (cW d b p h)++fm i (cT d b p h))) (by trivial) ⟨_,_,_,_,_,_,_,_,_,_,xs0,rfl,s1,hD1,by trivial,by rw [show fm 0 (cT d b p h)=[] from rfl,List.append_nil];exact fx0⟩ ?_ ?_ ?_⟩
  ·rintro i σ H' _ ⟨_,_,_,_,_,_,_,_,_,_,xs,_,sm,_⟩
   exact ⟨ah.of (sm _ _ hbs),aa.of (sm _ _ Dd.ht)⟩
  ·rintro i u y Tp σ H' e1 e2 hT ⟨v8,v9,v10,v11,v12,v13,v14,v15,v16,v17,xs,rfl,sm,hDx,lxs,fx⟩
   have st':=ad.new (o:=.tup [u,y]) hT
   have sx:=sm.trans st'
   have hDT:=st' _ _ hDx
   obtain ⟨x,ex,mx,dx⟩:=cj Dd.at_ e2
   have gx:=gd.ts x mx
   obtain ⟨r,er,lr,fr_⟩:=gb.row ex
   obtain ⟨ta,om,og,op_,oo,rfl,hta,_,hog,_,_⟩:=iZ (dx.mono sx.toE)
   obtain ⟨ru,rfl,rs,hrs,dQ⟩:=jX (ki (ius.mono sx.toE) e1 er) fun q hq=>(fr_ q hq).mono (by decide)
   have hi:i<ts.length:=(List.getElem?_eq_some_iff.mp e2).1
   have e:cT d b p h i=if x.en=p∧x.la≤h then [KM.lTim (bn r (h - x.la)) x.ga] else []:=by unfold cT;rw [ex,er]
   refine ⟨Tp,(),aa.of au,rfl,_,(),_,(),⟨ta,(),aa.of hta,rfl,_,(),_,(),_,(),_,(),_,(),_,(),_,(),rfl,rfl,?_⟩⟩
   have stay:cT d b p h i=[]→xX fun (u8 u9 u10 u11 u12 u13 u14 u15 u16 u17:Option V) (xs:List V)=>[some (.ref a),some (.ref ba),some (aI p),some (.int (h:Int)),some (.ref bs),some (.ref bk),some (.ref bz),some (.ref D),some (.ref ru),some (aI x.bg),some (aI x.en),some (.ref om),some (.ref og),some (.ref op_),some (.int (x.la:Int)),some (.ref oo),v16,v17]=[some (.ref a),some (.ref ba),some (aI p),some (.int (h:Int)),some (.ref bs),some (.ref bk),some (.ref bz),some (.ref D),u8,u9,u10,u11,u12,u13,u14,u15,u16,u17]∧ad H (aG H' Tp (.tup [.ref ru,.ref ta]))∧aG H' Tp (.tup [.ref ru,.ref ta]) D=some (.lst xs)∧xs.length≤5+(i+1)∧FL 84 (aG H' Tp (.tup [.ref ru,.ref ta])) xs (fm d.ws.length (cW d b p h)++fm (i+1) (cT d b p h)):=
    fun e0=>⟨_,_,_,_,_,_,_,_,_,_,xs,rfl,sx,hDT,by trivial,by rw [aS,e0,List.append_nil];exact fx.sm st'⟩
   refine ⟨_,rfl,_,rfl,rfl,_,rfl,bZ (fun c=>?_) fun c=>ce (stay (by rw [e,if_neg];rintro ⟨z,_⟩;exact c (decide_eq_true (oQ.mpr z))))⟩
   have c1:=oQ.mp (of_decide_eq_true c)
   refine ⟨_,rfl,_,rfl,_,_,rfl,rfl,_,rfl,bZ (fun c=>?_) fun c=>stay (by rw [e,if_neg];rintro ⟨_,z⟩;exact c (decide_eq_true (by trivial)))⟩
   have c2:x.la≤h:=by have:=of_decide_eq_true c;trivial
   obtain ⟨o,eo,ho,_⟩:=yy (h:=h - x.la) dQ (by trivial)
   have fo:Fr 60 (bn r (h - x.la)):=by
    unfold bn
    rw [List.getElem?_eq_getElem (show h - x.la<r.length by trivial)]
    exact fr_ _ (List.getElem_mem _)
   refine ⟨(),.inl ⟨rfl,_,ah.of hDT⟩,(),(),(),_,(),rfl,ru,_,_,(),rfl,ah.of hrs,by rw [show (h:Int) - (x.la:Int)=((h - x.la:Nat):Int) by trivial];exact gu eo,(),o,og,_,_,_,(),ho,hog,oB fo gx.g (by decide) (by decide),fun o4 H4 m4=>⟨D,xs,(),rfl,m4.sm _ _ hDT,by trivial,fun H5 c5=>?_⟩⟩
   have hD4:=m4.sm _ _ hDT
   have s05:ad H H5:=fun a o h=>c5.ol a o (nD a o h) ((sx.trans m4.sm) _ _ h)
   have t45:∀a us,H4 a=some (.tup us)→H5 a=some (.tup us):=fun a us h=>c5.tup h hD4
   refine ⟨_,_,_,_,_,_,_,_,_,_,xs++[.ref o4],rfl,s05,c5.at',by simp;trivial,?_⟩
   rw [aS,e,if_pos ⟨c1,c2⟩,←List.append_assoc]
   exact FL.tup (FL.snoc m4.at' (Fr.tim fo gx.g (by decide)) ((fx.sm st').sm m4.sm)) t45
  rintro σ H2 ⟨v8,v9,v10,v11,v12,v13,v14,v15,v16,v17,xs,rfl,sm,hDx,lxs,fx⟩
  refine n2 _ _ ?_
  refine aX fun D3 n3=>⟨(),(),a,_,_,(),rfl,aa.of (sm _ _ Dd.ha),rfl,bk,st,true,false,rfl,⟨_,ah.of (sm _ _ hbk)⟩,⟨_,aa.of (sm _ _ Dd.hs)⟩,jB (xs:=ks) (ys:=ss) (n:=d.ss.length) (fun i σ H'=>xX fun (v8 v9 v10 v11 v12 v13 v14 v15 v16 v17:Option V) (xs:List V)=>σ=[some (.ref a),some (.ref ba),some (aI p),some (.int (h:Int)),some (.ref bs),some (.ref bk),some (.ref bz),some (.ref D),v8,v9,v10,v11,v12,v13,v14,v15,v16,v17]∧ad H H'∧H' D=some (.lst xs)∧xs.length≤13+i∧FL 84 H' xs (fm d.ws.length (cW d b p h)++fm d.ts.length (cT d b p h)++fm i (cS d b p h))) (by trivial) ⟨_,_,_,_,_,_,_,_,_,_,xs,rfl,sm,hDx,by trivial,by rw [show fm 0 (cS d b p h)=[] from rfl,List.append_nil];exact fx⟩ ?_ ?_ ?_⟩
  ·rintro i σ H' _ ⟨_,_,_,_,_,_,_,_,_,_,xs,_,sm,_⟩
   exact ⟨ah.of (sm _ _ hbk),aa.of (sm _ _ Dd.hs)⟩
  ·rintro i u y Tp σ H' e1 e2 hT ⟨v8,v9,v10,v11,v12,v13,v14,v15,v16,v17,xs,rfl,sm,hDx,lxs,fx⟩
   have st':=ad.new (o:=.tup [u,y]) hT
   have sx:=sm.trans st'
   have hDT:=st' _ _ hDx
   obtain ⟨x,ex,mx,dx⟩:=cj Dd.as_ e2
   have gx:=gd.ss x mx
   obtain ⟨r,er,lr,fr_⟩:=gb.rowK ex
   obtain ⟨ta,om,ok,rfl,hta,_,hok⟩:=pG (dx.mono sx.toE)
   obtain ⟨ru,rfl,rs,hrs,dQ⟩:=jX (ki (iks.mono sx.toE) e1 er) fun q hq=>(fr_ q hq).mono (by decide)
   have hi:i<ss.length:=(List.getElem?_eq_some_iff.mp e2).1
   have e:cS d b p h i=if x.pl=p∧0<h then [KM.lTim (bn r (h - 1)) x.ke] else []:=by unfold cS;rw [ex,er]
   refine ⟨Tp,(),aa.of au,rfl,_,(),_,(),⟨ta,(),aa.of hta,rfl,_,(),_,(),_,(),rfl,rfl,?_⟩⟩
   have stay:cS d b p h i=[]→xX fun (u8 u9 u10 u11 u12 u13 u14 u15 u16 u17:Option V) (xs:List V)=>[some (.ref a),some (.ref ba),some (aI p),some (.int (h:Int)),some (.ref bs),some (.ref bk),some (.ref bz),some (.ref D),some (.ref ru),v9,v10,some (.ref om),v12,v13,v14,v15,some (aI x.pl),some (.ref ok)]=[some (.ref a),some (.ref ba),some (aI p),some (.int (h:Int)),some (.ref bs),some (.ref bk),some (.ref bz),some (.ref D),u8,u9,u10,u11,u12,u13,u14,u15,u16,u17]∧ad H (aG H' Tp (.tup [.ref ru,.ref ta]))∧aG H' Tp (.tup [.ref ru,.ref ta]) D=some (.lst xs)∧xs.length≤13+(i+1)∧FL 84 (aG H' Tp (.tup [.ref ru,.ref ta])) xs (fm d.ws.length (cW d b p h)++fm d.ts.length (cT d b p h)++fm (i+1) (cS d b p h)):=
    fun e0=>⟨_,_,_,_,_,_,_,_,_,_,xs,rfl,sx,hDT,by trivial,by rw [aS,e0,List.append_nil];exact fx.sm st'⟩
   refine ⟨_,rfl,_,rfl,rfl,_,rfl,bZ (fun c=>?_) fun c=>ce (stay (by rw [e,if_neg];rintro ⟨z,_⟩;exact c (decide_eq_true (oQ.mpr z))))⟩
   have c1:=oQ.mp (of_decide_eq_true c)
   refine ⟨_,rfl,_,_,rfl,rfl,_,rfl,bZ (fun c=>?_) fun c=>stay (by rw [e,if_neg];rintro ⟨_,z⟩;exact c (decide_eq_true (by trivial)))⟩
   have c2:0<h:=by have:=of_decide_eq_true c;trivial
   obtain ⟨o,eo,ho,_⟩:=yy (h:=h - 1) dQ (by trivial)
   have fo:Fr 60 (bn r (h - 1)):=by
    unfold bn
    rw [List.getElem?_eq_getElem (show h - 1<r.length by trivial)]
    exact fr_ _ (List.getElem_mem _)
   refine ⟨(),.inl ⟨rfl,_,ah.of hDT⟩,(),(),_,(),rfl,ru,_,_,(),rfl,ah.of hrs,by rw [show (h:Int) - 1=((h - 1:Nat):Int) by trivial];exact gu eo,(),o,ok,_,_,_,(),ho,hok,oB fo gx.k (by decide) (by decide),fun o4 H4 m4=>⟨D,xs,(),rfl,m4.sm _ _ hDT,by trivial,fun H5 c5=>?_⟩⟩
   have hD4:=m4.sm _ _ hDT
   have s05:ad H H5:=fun a o h=>c5.ol a o (nD a o h) ((sx.trans m4.sm) _ _ h)
   have t45:∀a us,H4 a=some (.tup us)→H5 a=some (.tup us):=fun a us h=>c5.tup h hD4
   refine ⟨_,_,_,_,_,_,_,_,_,_,xs++[.ref o4],rfl,s05,c5.at',by simp;trivial,?_⟩
   rw [aS,e,if_pos ⟨c1,c2⟩,←List.append_assoc]
   exact FL.tup (FL.snoc m4.at' (Fr.tim fo gx.k (by decide)) ((fx.sm st').sm m4.sm)) t45
  rintro σ H3 ⟨v8,v9,v10,v11,v12,v13,v14,v15,v16,v17,xs',rfl,sm',hDx',lxs',fx'⟩
  exact n3 _ _ ⟨(),D,xs',_,84,1600,rfl,ah.of hDx',fx',by trivial,by decide,by decide,fun o H' s' ho hf=>k o H' (sm'.trans s') ho hf⟩
def oS (d:aC) (b:bo) (sh:KM.Fra) (p:List Nat) (h:Nat):KM.Fra:=KM.lTak (KM.lTak (KM.sumF (rH d b p h)) (KM.sumF (vZ d b p h))) (KM.lTim sh (KM.sumF (uQ d p h)))
inductive Ev (vs:List V) (H:Hp) (Q:VK):Prop
 | mk (dv bv:V) (so:Addr) (d:aC) (b:bo) (E:Addr→Prop) (p:List Nat) (h:Nat) (sh:KM.Fra) (h0:vs=[dv,bv,aI p,.int (h:Int),.ref so]) (h1:aJ ED H dv (eH d)) (h2:aJ E H bv (iW b)) (h3:b7 d) (h4:GB 60 60 d b) (h5:h<d.hr) (h6:H so=some (fr sh)) (h7:Fr 10 sh) (h8:∀o H',ad H H'→H' o=some (fr (oS d b sh p h))→Fr 2700 (oS d b sh p h)→Q (.ref o) H')
def FO:Sp:=fun vs H Q _=>Ev  vs H Q
theorem qg (T:Txt K mg):aY P w K mg base CX0 6 T.hour_sum_.f T.hour_sum_.d ["day", "book", "place", "hour", "share"] FO:=by
 have G_wished_in:=#[(yx)]
 have G_comes_at:=#[(zX)]
 have G_goes_at:=#[(AK)]
 have G_times:=#[(rX)]
 have G_taken:=#[(Ao)]
 refine T.hour_sum_.F.ok rm (fun vs H Q E h=>?_) (fun cdv A outer s H vs Q E hr h=>?_)
 ·obtain ⟨dv,bv,so,d,b,E,p,h,sh,rfl,_⟩:=h
  rfl
 ·obtain ⟨dv,bv,so,d,b,E1,p,h,sh,rfl,hd,hb,gd,gb,hh,hso,fs,k⟩:=h
  refine ⟨_,#[#[5,rm.nd,mI,#[G_taken,lO,T.taken_,#[[#[G_comes_at,pi,T.comes_at_,#[[#[0,jA],#[1,mi],#[2,hZ],#[3,iO]]]],#[G_goes_at,qu,T.goes_at_,#[[#[0,jA],#[1,mi],#[2,hZ],#[3,iO]]]]]]]] :: #[ac 3 #[aB 4 #[G_taken,lO,T.taken_,#[[#[5,mI],#[G_times,rK,T.times_,#[[#[4,sy],#[G_wished_in,ot,T.wished_in_,#[[#[0,jA],#[2,hZ],#[3,iO]]]]]]]]]]]]],?_⟩
  refine ik fun Q1 n1=>⟨(),(),(),(),_,_,d,b,E1,p,h,rfl,hd,hb,gd,gb,hh,fun o1 H1 s1 h1 f1=>⟨(),(),(),(),_,_,d,b,E1,p,h,rfl,hd.mono s1.toE,hb.mono s1.toE,gd,gb,hh,fun o2 H2 s2 h2 f2=>⟨o1,o2,_,_,_,(),s2 _ _ h1,h2,oB f1 f2 (by decide) (by decide),fun o3 H3 m3=>n1 _ _ ?_⟩⟩⟩
  have s03:=(s1.trans s2).trans m3.sm
  have f3:Fr 2401 (KM.lTak (KM.sumF (rH d b p h)) (KM.sumF (vZ d b p h))):=Fb.tak' f1 f2 (by decide)
  refine ⟨(),(),(),(),(),_,d,p,h,rfl,hd.mono s03.toE,gd,fun o4 H4 s4 h4 f4=>⟨so,o4,_,_,_,(),(s03.trans s4) _ _ hso,h4,oB fs f4 (by decide) (by decide),fun o5 H5 m5=>?_⟩⟩
  have f5:Fr 210 (KM.lTim sh (KM.sumF (uQ d p h))):=Fr.tim fs f4 (by decide)
  refine ⟨o3,o5,_,_,_,(),(s4.trans m5.sm) _ _ m3.at',m5.at',oB f3 f5 (by decide) (by decide),fun o6 H6 m6=>k _ _ (((s03.trans s4).trans m5.sm).trans m6.sm) m6.at' (Fb.tak' f3 f5 (by decide))⟩
end
end K55
namespace K55
open PySem L2
set_option maxHeartbeats 16000000
def pT (d:aC) (b:bo) (i:Nat):List KM.Fra:=match d.ts[i]?,b.se[i]? with
 | some x,some r=>[KM.lTim x.pr (KM.sumF r)]
 | _,_=>[]
def pW (d:aC) (b:bo) (i:Nat):List KM.Fra:=match d.ws[i]?,b.dr[i]? with
 | some x,some q=>[KM.lTim x.pr q]
 | _,_=>[]
def lT (d:aC) (b:bo) (i:Nat):List KM.Fra:=match d.ts[i]?,b.se[i]? with
 | some x,some r=>r.map fun p=>KM.lTim p x.pr
 | _,_=>[]
def lW (d:aC) (b:bo) (i:Nat):List KM.Fra:=match d.ws[i]?,b.dr[i]? with
 | some x,some q=>[KM.lTim q x.pr]
 | _,_=>[]
def Bz (d:aC) (b:bo):List KM.Fra:=fm d.ts.length (pT d b)++fm d.ws.length (pW d b)
def ve (d:aC) (b:bo):List KM.Fra:=fm d.ts.length (lT d b)++fm d.ws.length (lW d b)
theorem dO {n:Nat}{g:Nat→List KM.Fra}{p:KM.Fra} (h:p∈fm n g):∃i,i<n∧p∈g i:=by
 obtain ⟨i,hi,hp⟩:=List.mem_flatMap.mp h
 exact ⟨i,List.mem_range.mp hi,hp⟩
theorem yn:∀{n:Nat}{f g:Nat→List KM.Fra},(∀i,i<n→KM.rsum ((f i).map KM.vl)=KM.rsum ((g i).map KM.vl))→KM.rsum ((fm n f).map KM.vl)=KM.rsum ((fm n g).map KM.vl)
 | 0,_,_,_=>rfl
 | n+1,f,g,h=>by
  rw [aS,aS,List.map_append,List.map_append,KM.rsum_app,KM.rsum_app,yn fun i hi=>h i (by trivial),h n (by trivial)]
theorem wE (c:Rat):∀(xs:List Rat),KM.rsum (xs.map fun x=>x*c)=c*KM.rsum xs
 | []=>by show (0:Rat)=c*0;grind
 | x :: xs=>by
  show x*c+KM.rsum (xs.map fun x=>x*c)=c*(x+KM.rsum xs)
  rw [wE c xs]
  grind
theorem A3 {a e:Nat}{d:aC}{b:bo} (gd:b7 d) (gb:GB a e d b):KM.sumF (Bz d b)=KM.sumF (ve d b):=by
 have rT:∀{i:Nat}{x:eV}{r:List KM.Fra},d.ts[i]?=some x→b.se[i]?=some r→KM.Rd x.pr∧∀p∈r,KM.Rd p:=fun {i x r} ex er=>⟨(gd.ts x (List.mem_of_getElem? ex)).p.rd,fun p hp=>by
  obtain ⟨j,hj⟩:=List.mem_iff_getElem?.mp hp
  exact ((gb.sr i x r ex er).2 j p hj).1.rd⟩
 have rW:∀{i:Nat}{x:lG}{q:KM.Fra},d.ws[i]?=some x→b.dr[i]?=some q→KM.Rd x.pr∧KM.Rd q:=fun {i x q} ex eq=>⟨(gd.ws x (List.mem_of_getElem? ex)).p.rd,(gb.zr i x q ex eq).1.rd⟩
 have r1:∀p∈Bz d b,KM.Rd p:=fun p hp=>by
  rcases List.mem_append.mp hp with h | h
  ·obtain ⟨i,_,h⟩:=dO h
   unfold pT at h
   cases ex:d.ts[i]? with
   | none=>rw [ex] at h;cases h
   | some x=>
    cases er:b.se[i]? with
    | none=>rw [ex,er] at h;cases h
    | some r=>
     rw [ex,er] at h
     rw [List.mem_singleton.mp h]
     exact (rT ex er).1.tim (KM.sumF_vl (rT ex er).2).1
  ·obtain ⟨i,_,h⟩:=dO h
   unfold pW at h
   cases ex:d.ws[i]? with
   | none=>rw [ex] at h;cases h
   | some x=>
    cases er:b.dr[i]? with
    | none=>rw [ex,er] at h;cases h
    | some r=>
     rw [ex,er] at h
     rw [List.mem_singleton.mp h]
     exact (rW ex er).1.tim (rW ex er).2
 have r2:∀p∈ve d b,KM.Rd p:=fun p hp=>by
  rcases List.mem_append.mp hp with h | h
  ·obtain ⟨i,_,h⟩:=dO h
   unfold lT at h
   cases ex:d.ts[i]? with
   | none=>rw [ex] at h;cases h
   | some x=>
    cases er:b.se[i]? with
    | none=>rw [ex,er] at h;cases h
    | some r=>
     rw [ex,er] at h
     obtain ⟨q,hq,rfl⟩:=List.mem_map.mp h
     exact ((rT ex er).2 q hq).tim (rT ex er).1
  ·obtain ⟨i,_,h⟩:=dO h
   unfold lW at h
   cases ex:d.ws[i]? with
   | none=>rw [ex] at h;cases h
   | some x=>
    cases er:b.dr[i]? with
    | none=>rw [ex,er] at h;cases h
    | some r=>
     rw [ex,er] at h
     rw [List.mem_singleton.mp h]
     exact (rW ex er).2.tim (rW ex er).1
 obtain ⟨a1,a2⟩:=KM.sumF_vl r1
 obtain ⟨b1,b2⟩:=KM.sumF_vl r2
 refine a1.eq b1 ?_
 rw [a2,b2]
 unfold Bz ve
 rw [List.map_append,List.map_append,KM.rsum_app,KM.rsum_app]
 congr 1
 ·refine yn fun i _=>?_
  unfold pT lT
  cases ex:d.ts[i]? with
  | none=>rfl
  | some x=>
   cases er:b.se[i]? with
   | none=>rfl
   | some r=>
    obtain ⟨q1,q2⟩:=rT ex er
    obtain ⟨s1,s2⟩:=KM.sumF_vl q2
    show KM.vl (KM.lTim x.pr (KM.sumF r))+0=KM.rsum ((r.map fun p=>KM.lTim p x.pr).map KM.vl)
    rw [KM.vl_tim q1.nz s1.nz,s2,List.map_map]
    have e:r.map (KM.vl ∘ fun p=>KM.lTim p x.pr)=(r.map KM.vl).map fun y=>y*KM.vl x.pr:=by
     rw [List.map_map]
     exact List.map_congr_left fun p hp=>KM.vl_tim (q2 p hp).nz q1.nz
    rw [e,wE]
    grind
 ·refine yn fun i _=>?_
  unfold pW lW
  cases ex:d.ws[i]? with
  | none=>rfl
  | some x=>
   cases er:b.dr[i]? with
   | none=>rfl
   | some q=>
    obtain ⟨q1,q2⟩:=rW ex er
    show KM.vl (KM.lTim x.pr q)+0=KM.vl (KM.lTim q x.pr)+0
    rw [KM.vl_tim q1.nz q2.nz,KM.vl_tim q2.nz q1.nz]
    grind
section
variable {P:Program}{w:World}{K:PySem.W.Frag}{mg:Str→Option Value}{base:Heap}
inductive FZ (L:aC→bo→List KM.Fra) (vs:List V) (H:Hp) (Q:VK):Prop
 | mk (dv bv:V) (d:aC) (b:bo) (E:Addr→Prop) (h0:vs=[dv,bv]) (h1:aJ ED H dv (eH d)) (h2:aJ E H bv (iW b)) (h3:b7 d) (h4:GB 29 29 d b) (h5:∀o H',ad H H'→H' o=some (fr (KM.sumF (L d b)))→Fr 3300 (KM.sumF (L d b))→Q (.ref o) H')
def C2 (L:aC→bo→List KM.Fra):Sp:=fun vs H Q _=>FZ L vs H Q
theorem wF (T:Txt K mg):aY P w K mg base CX0 5 T.day_price_.f T.day_price_.d ["day", "book"] (C2 Bz):=by
 have G_sum_of:=#[(qL)]
 have G_times:=#[(rX)]
 refine T.day_price_.F.ok fP (fun vs H Q E h=>?_) (fun cdv A outer s H vs Q E hr h=>?_)
 ·obtain ⟨dv,bv,d,b,E,rfl,_⟩:=h
  rfl
 ·obtain ⟨dv,bv,d,b,E1,rfl,hd,hb,gd,gb,k⟩:=h
  refine ⟨_,#[#[cD 6 #[1,rV] (@aQ _ (K) _ _ _ _ (3) rfl #[af 5 #[2,fP.nd,lu] #[af 5 #[3,fP.nd,r9] #[af 5 #[4,fP.nd,kB] (@aW _) (by rfl)] (by rfl)] (by rfl)] (by rfl) (by rfl) (by rfl)) (by rfl) (by rfl) (by rfl)] :: #[#[dX 7 (["tie", "row"]) (2) ([]) _ _ _ _ (5) _ _ _ fP.nd rfl gn (by kernel_rfl) rfl (by kernel_rfl) (@bV _ (K) _ _ _ _ _ _ _ _ mm T.b_zip #[[#[#[0,mf][#[()]]],#[2,lu]]] (by rfl) (by rfl) (by rfl)) (fun _ _ _ _ _ _=>(@aQ _ (K) _ _ _ _ (2) rfl #[af 5 #[0,(),()] #[af 5 #[1,(),()] (@aW _) (by rfl)] (by rfl)] (by rfl) (by rfl) (by rfl))) (fun _ _ _ _ _ _=>@bd _) (fun _ _ _ _ _ _=>#[G_times,(),T.times_,#[[#[#[0,()][#[()]]],#[G_sum_of,(),T.sum_of_,#[[#[1,()]]]]]]]) (by intro _;rfl)] :: #[#[dn 4 (@cI _ (K) _ _ _ _ _ _ _ _ _ _ _ PySem.F.plainAttrs_list PySem.F.slot_list_extend PySem.F.type_list_extend (@tF _) #[5,gn] #[[#[bI 7 (["well", "much"]) (2) ([]) _ _ _ _ rfl (by kernel_rfl) (@bV _ (K) _ _ _ _ _ _ _ _ mm T.b_zip #[[#[#[0,mf][#[()]]],#[4,kB]]] (by rfl) (by rfl) (by rfl)) (fun _ _ _ _ _ _=>(@aQ _ (K) _ _ _ _ (2) rfl #[af 5 #[0,(),()] #[af 5 #[1,(),()] (@aW _) (by rfl)] (by rfl)] (by rfl) (by rfl) (by rfl))) (fun _ _ _ _ _ _=>@bd _) (fun _ _ _ _ _ _=>#[G_times,(),T.times_,#[[#[#[0,()][#[()]]],#[1,()]]]]) (by intro _;rfl)]]] (by rfl) (by rfl) (by rfl) (by rfl) (by rfl) (by rfl)) (by rfl)] :: #[ac 3 #[aB 4 #[G_sum_of,qt,T.sum_of_,#[[#[5,gn]]]]]]]]],?_⟩
  obtain ⟨a,pp,tt,st,wl,wi,ts,ss,ws,is,Dd⟩:=dB hd
  cases Dd.ev
  obtain ⟨ba,bs,bk,bz,us,ks,zs,rfl,hba,hbs,ius,hbk,iks,hbz,izs⟩:=nU hb
  have lts:=Dd.at_.length
  have lws:=Dd.aw.length
  have lus:=ius.length
  have lzs:=izs.length
  rw [List.length_map] at lts lws lus lzs
  rw [gb.s] at lus
  rw [gb.z] at lzs
  have t8:=gd.t8
  have w5:=gd.w5
  have h8:=gd.l8
  refine aX fun D0 n0=>⟨(),ba,(),aa.of hba,rfl,_,(),_,(),_,(),rfl,n0 _ _ ?_⟩
  refine ik fun Q1 n1=>⟨(),a,_,_,(),rfl,aa.of Dd.ha,rfl,(),tt,bs,false,true,rfl,⟨_,aa.of Dd.ht⟩,⟨_,ah.of hbs⟩,fun D hD=>iE (n:=d.ts.length) (c:=250) (pT d b) (by trivial) hD (fun i H' hi sm=>⟨ts,us,ts[i]'(by trivial),us[i]'(by trivial),aa.of (sm _ _ Dd.ht),ah.of (sm _ _ hbs),by rw [List.getElem?_eq_getElem (by trivial)],by rw [List.getElem?_eq_getElem (by trivial)]⟩) (fun H' sm=>⟨ts,us,aa.of (sm _ _ Dd.ht),ah.of (sm _ _ hbs),by trivial⟩) ?_ ?_⟩
  ·rintro i v H' H'' R R0 hi sm ⟨Tp,y,u,hT,rfl,rfl,e1,e2⟩ k1 k0
   have e1:=e1 _ (aa.of (K:=K) (sm _ _ Dd.ht))
   have e2:=e2 _ (ah.of (K:=K) (sm _ _ hbs))
   have st':=ad.new (o:=.tup [y,u]) hT
   have sx:=sm.trans st'
   obtain ⟨x,ex,mx,dx⟩:=cj Dd.at_ e1
   have gx:=gd.ts x mx
   obtain ⟨r,er,lr,fr_⟩:∃r,b.se[i]?=some r∧r.length=d.hr∧∀p∈r,Fr 29 p:=by
    have hi:i<b.se.length:=by rw [gb.s];exact (List.getElem?_eq_some_iff.mp ex).1
    have er:=List.getElem?_eq_getElem hi
    obtain ⟨l,a⟩:=gb.sr i x _ ex er
    exact ⟨_,er,l,fun p hp=>by obtain ⟨j,hj⟩:=List.mem_iff_getElem?.mp hp;exact (a j p hj).1⟩
   obtain ⟨ta,om,og,op_,oo,rfl,hta,_,_,hop,_⟩:=iZ (dx.mono sx.toE)
   have dr:aJ E1 (aG H' Tp (.tup [.ref ta,u])) u (bA r):=ki (ius.mono sx.toE) e2 er
   cases dr with
   | @lst ru rs _ hrs _ irs=>
   have dQ:=qK irs fr_
   have e:pT d b i=[KM.lTim x.pr (KM.sumF r)]:=by unfold pT;rw [ex,er]
   refine ⟨Tp,(),aa.of au,rfl,_,(),_,(),rfl,kN,?_⟩
   unfold tT
   dsimp only
   rw [if_pos rfl]
   refine ⟨(),ta,_,_,(),rfl,aa.of hta,rfl,(),ru,rs,r,29,241,rfl,ah.of hrs,dQ,by rw [dQ.length,lr];trivial,by decide,by decide,fun o3 H3 s3 h3 f3=>⟨op_,o3,_,_,_,(),s3 _ _ hop,h3,oB gx.p f3 (by decide) (by decide),fun o4 H4 m4=>k1 o4 _ _ ((st'.trans s3).trans m4.sm) e m4.at' (Fr.tim gx.p f3 (by decide))⟩⟩
  intro H1 xs s1 hD1 fx lx
  refine n1 _ _ ?_
  refine aX fun D2 n2=>⟨(),.inl ⟨rfl,_,ah.of hD1⟩,(),a,_,_,(),rfl,aa.of (s1 _ _ Dd.ha),rfl,(),wl,bz,false,true,rfl,⟨_,aa.of (s1 _ _ Dd.hw)⟩,⟨_,ah.of (s1 _ _ hbz)⟩,fun D2 hD2=>iE (n:=d.ws.length) (c:=250) (pW d b) (by trivial) hD2 (fun i H' hi sm=>⟨ws,zs,ws[i]'(by trivial),zs[i]'(by trivial),aa.of (sm _ _ (s1 _ _ Dd.hw)),ah.of (sm _ _ (s1 _ _ hbz)),by rw [List.getElem?_eq_getElem (by trivial)],by rw [List.getElem?_eq_getElem (by trivial)]⟩) (fun H' sm=>⟨ws,zs,aa.of (sm _ _ (s1 _ _ Dd.hw)),ah.of (sm _ _ (s1 _ _ hbz)),by trivial⟩) ?_ ?_⟩
  ·rintro i v H' H'' R R0 hi sm ⟨Tp,y,u,hT,rfl,rfl,e1,e2⟩ k1 k0
   have e1:=e1 _ (aa.of (K:=K) (sm _ _ (s1 _ _ Dd.hw)))
   have e2:=e2 _ (ah.of (K:=K) (sm _ _ (s1 _ _ hbz)))
   have st':=ad.new (o:=.tup [y,u]) hT
   have sx:=(s1.trans sm).trans st'
   obtain ⟨x,ex,mx,dx⟩:=cj Dd.aw e1
   have gx:=gd.ws x mx
   obtain ⟨wa,om,op_,rfl,hwa,_,hop⟩:=nN (dx.mono sx.toE)
   have hz:i<b.dr.length:=by rw [gb.z];exact (List.getElem?_eq_some_iff.mp ex).1
   have eq:=List.getElem?_eq_getElem hz
   have aq:=(gb.zr i x _ ex eq).1
   obtain ⟨o,rfl,ho⟩:=iI (p:=b.dr[i]) ((izs.mono sx.toE).nth i e2 (by rw [List.getElem?_map,eq];rfl))
   have e:pW d b i=[KM.lTim x.pr b.dr[i]]:=by unfold pW;rw [ex,eq]
   refine ⟨Tp,(),aa.of au,rfl,_,(),_,(),rfl,kN,?_⟩
   unfold tT
   dsimp only
   rw [if_pos rfl]
   exact ⟨(),wa,_,_,(),rfl,aa.of hwa,rfl,(),op_,o,_,_,_,(),hop,ho,oB gx.p aq (by decide) (by decide),fun o4 H4 m4=>k1 o4 _ _ (st'.trans m4.sm) e m4.at' (Fr.tim gx.p aq (by decide))⟩
  intro H2 ys s2 hD2' fy ly
  have hDH:H D=none:=hD
  refine ⟨D,D2,xs,ys,rfl,rfl,s2 _ _ hD1,hD2',by trivial,fun H3 c3=>n2 _ _ ?_⟩
  have hD12:=s2 _ _ hD1
  have s03:ad H H3:=fun x o h=>c3.ol x o (fun e=>by rw [e,hDH] at h;cases h) ((s1.trans s2) _ _ h)
  have t23:∀x us,H2 x=some (.tup us)→H3 x=some (.tup us):=fun x us e=>c3.tup e hD12
  exact ⟨(),D,_,_,250,3300,rfl,ah.of c3.at',((fx.sm s2).append fy).tup t23,by rw [List.length_append];trivial,by decide,by decide,fun o H' s' ho hf=>k o H' (s03.trans s') ho hf⟩
end
end K55
namespace K55
open PySem L2
set_option maxHeartbeats 16000000
section
variable {P:Program}{w:World}{K:PySem.W.Frag}{mg:Str→Option Value}{base:Heap}
theorem zU (T:Txt K mg):aY P w K mg base CX0 3 T.l_price_.f T.l_price_.d ["_law_day_here", "_law_book"] (C2 ve):=by
 have G_l_by:=#[(vL)]
 have G_l_plus:=#[(uB)]
 refine T.l_price_.F.ok dg (fun vs H Q E h=>?_) (fun cdv A outer s H vs Q E hr h=>?_)
 ·obtain ⟨dv,bv,d,b,E,rfl,_⟩:=h
  rfl
 ·obtain ⟨dv,bv,d,b,E1,rfl,hd,hb,gd,gb,k⟩:=h
  refine ⟨_,#[#[2,dg.nd,cy,#[aD 5 #[[#[()],#[()]]]]] :: #[#[bL 8 PassesOwn.never rfl (@bV _ (K) _ _ _ _ _ _ _ _ oX T.b_zip #[[#[#[0,iR][#[()]]],#[#[1,l0][#[()]]]]] (by rfl) (by rfl) (by rfl)) (@aQ _ (K) _ _ _ _ (2) rfl #[af 5 #[3,dg.nd,mD] #[af 5 #[4,dg.nd,ln] (@aW _) (by rfl)] (by rfl)] (by rfl) (by rfl) (by rfl)) #[ac 3 #[bL 8 PassesOwn.never rfl (@jR _ (K) _ _ _ #[4,ln] (by rfl)) #[5,dg.nd,fK] #[ac 3 #[2,dg.nd,cy,#[G_l_plus,k9,T.l_plus_,#[[#[2,cy],#[G_l_by,mS,T.l_by_,#[[#[5,fK],#[#[3,mD][#[()]]]]]],#[()]]]]]] (by intro _;rfl)]] (by intro _;rfl)] :: #[#[bL 8 PassesOwn.never rfl (@bV _ (K) _ _ _ _ _ _ _ _ oX T.b_zip #[[#[#[0,iR][#[()]]],#[#[1,l0][#[()]]]]] (by rfl) (by rfl) (by rfl)) (@aQ _ (K) _ _ _ _ (2) rfl #[af 5 #[6,dg.nd,lK] #[af 5 #[5,dg.nd,fK] (@aW _) (by rfl)] (by rfl)] (by rfl) (by rfl) (by rfl)) #[ac 3 #[2,dg.nd,cy,#[G_l_plus,k9,T.l_plus_,#[[#[2,cy],#[G_l_by,mS,T.l_by_,#[[#[5,fK],#[#[6,lK][#[()]]]]]],#[()]]]]]] (by intro _;rfl)] :: #[ac 3 #[aB 4 #[2,cy]]]]]],?_⟩
  obtain ⟨a,pp,tt,st,wl,wi,ts,ss,ws,is,Dd⟩:=dB hd
  cases Dd.ev
  obtain ⟨ba,bs,bk,bz,us,ks,zs,rfl,hba,hbs,ius,hbk,iks,hbz,izs⟩:=nU hb
  have lts:=Dd.at_.length
  have lws:=Dd.aw.length
  have lus:=ius.length
  have lzs:=izs.length
  rw [List.length_map] at lts lws lus lzs
  rw [gb.s] at lus
  rw [gb.z] at lzs
  have t8:=gd.t8
  have w5:=gd.w5
  have h8:=gd.l8
  refine aX fun D0 n0=>⟨(by show 2≤10000;decide),fun o0 H0 m0=>n0 _ _ ?_⟩
  refine aX fun D1 n1=>⟨(),a,_,_,(),rfl,aa.of (m0.sm _ _ Dd.ha),rfl,(),ba,_,_,(),rfl,aa.of (m0.sm _ _ hba),rfl,tt,bs,false,true,rfl,⟨_,aa.of (m0.sm _ _ Dd.ht)⟩,⟨_,ah.of (m0.sm _ _ hbs)⟩,jB (xs:=ts) (ys:=us) (n:=d.ts.length) (fun i σ H'=>wd fun (o:Addr) (v3 v4 v5 v6:Option V)=>σ=[some (.ref a),some (.ref ba),some (.ref o),v3,v4,v5,v6]∧ad H H'∧H' o=some (fr (KM.sumF (fm i (lT d b))))∧Fr (296*i+1) (KM.sumF (fm i (lT d b)))) (by trivial) ⟨o0,_,_,_,(),m0.sm,m0.at',xT⟩ ?_ ?_ ?_⟩
  ·rintro i σ H' _ ⟨_,_,_,_,_,_,sm,_⟩
   exact ⟨aa.of (sm _ _ Dd.ht),ah.of (sm _ _ hbs)⟩
  ·rintro i y u Tp σ H' e1 e2 hT ⟨o,v3,v4,v5,v6,rfl,sm,ho,fo⟩
   have st':=ad.new (o:=.tup [y,u]) hT
   have sx:=sm.trans st'
   obtain ⟨x,ex,mx,dx⟩:=cj Dd.at_ e1
   have gx:=gd.ts x mx
   have hi:i<ts.length:=(List.getElem?_eq_some_iff.mp e1).1
   obtain ⟨r,er,lr,fr_⟩:∃r,b.se[i]?=some r∧r.length=d.hr∧∀p∈r,Fr 29 p:=by
    have hi:i<b.se.length:=by rw [gb.s];exact (List.getElem?_eq_some_iff.mp ex).1
    have er:=List.getElem?_eq_getElem hi
    obtain ⟨l,a⟩:=gb.sr i x _ ex er
    exact ⟨_,er,l,fun p hp=>by obtain ⟨j,hj⟩:=List.mem_iff_getElem?.mp hp;exact (a j p hj).1⟩
   obtain ⟨ta,om,og,op_,oo,rfl,hta,_,_,hop,_⟩:=iZ (dx.mono sx.toE)
   have dr:aJ E1 (aG H' Tp (.tup [.ref ta,u])) u (bA r):=ki (ius.mono sx.toE) e2 er
   cases dr with
   | @lst ru rs _ hrs _ irs=>
   have dQ:=qK irs fr_
   have lrs:=dQ.length
   have e:lT d b i=r.map fun p=>KM.lTim p x.pr:=by unfold lT;rw [ex,er]
   refine ⟨Tp,(),aa.of au,rfl,_,(),_,(),rfl,?_⟩
   refine i0 (t:=vU _ _ _) fun DB nB=>?_
   refine ⟨(),ru,rfl,⟨_,ah.of hrs⟩,oA (xs:=rs) (fun j σ G=>bE fun (o:Addr) (v5:Option V)=>σ=[some (.ref a),some (.ref ba),some (.ref o),some (.ref ta),some (.ref ru),v5,v6]∧ad (aG H' Tp (.tup [.ref ta,.ref ru])) G∧G o=some (fr (KM.sumF (fm i (lT d b)++(r.take j).map fun p=>KM.lTim p x.pr)))∧Fr (296*i+37*j+1) (KM.sumF (fm i (lT d b)++(r.take j).map fun p=>KM.lTim p x.pr))) ⟨o,(),ad.refl _,by rw [List.take_zero,List.map_nil,List.append_nil];exact st' _ _ ho,by rw [List.take_zero,List.map_nil,List.append_nil];exact fo⟩ ?_ ?_ ?_⟩
   ·rintro j σ G _ ⟨_,_,_,sg,_⟩
    exact ah.of (sg _ _ hrs)
   ·rintro j v σ G ev ⟨o,v5,rfl,sg,hog,fog⟩
    obtain ⟨oj,p,rfl,ep,hoj,fp⟩:=dQ.get ev
    have hj:j<rs.length:=(List.getElem?_eq_some_iff.mp ev).1
    have fp:Fr 29 p:=fp
    have et:r.take (j+1)=r.take j++[p]:=by rw [List.take_succ,ep];rfl
    refine ⟨(),(),(),ta,_,_,(),rfl,aa.of (sg _ _ hta),rfl,oj,op_,p,x.pr,29,29,7,7,rfl,sg _ _ hoj,sg _ _ hop,fp.gb,gx.p.gb,by decide,by decide,by decide,by decide,(fun z=>nomatch z),fun o3 G3 k3=>⟨o,o3,_,_,296*i+37*j+1,36,true,rfl,k3.sm _ _ hog,k3.at',fog,Fr.tim fp gx.p (by decide),by trivial,fun o4 G4 k4=>?_⟩⟩
    have ee:KM.sumF (fm i (lT d b)++(r.take (j+1)).map fun p=>KM.lTim p x.pr)=KM.ladd (KM.sumF (fm i (lT d b)++(r.take j).map fun p=>KM.lTim p x.pr)) (KM.lTim p x.pr):=by
     rw [et,List.map_append,←List.append_assoc]
     exact ij ..
    refine ⟨o4,(),(sg.trans k3.sm).trans k4.sm,?_,?_⟩
    ·rw [ee];exact k4.at'
    ·rw [ee]
     exact fog.add (Fr.tim fp gx.p (Nat.le_refl _)) (by trivial)
   ·rintro σ G ⟨o,v5,rfl,sg,hog,fog⟩
    rw [show rs.length=r.length from lrs,List.take_length,←e,←aS] at hog fog
    exact nB _ _ ⟨o,_,_,_,(),sx.trans sg,hog,fog.mono (by trivial)⟩
  rintro σ J ⟨o,v3,v4,v5,v6,rfl,sJ,hoJ,foJ⟩
  refine n1 _ _ ?_
  refine aX fun D2 n2=>⟨(),a,_,_,(),rfl,aa.of (sJ _ _ Dd.ha),rfl,(),ba,_,_,(),rfl,aa.of (sJ _ _ hba),rfl,wl,bz,false,true,rfl,⟨_,aa.of (sJ _ _ Dd.hw)⟩,⟨_,ah.of (sJ _ _ hbz)⟩,jB (xs:=ws) (ys:=zs) (n:=d.ws.length) (fun i σ H'=>wd fun (o:Addr) (v3 v4 v5 v6:Option V)=>σ=[some (.ref a),some (.ref ba),some (.ref o),v3,v4,v5,v6]∧ad H H'∧H' o=some (fr (KM.sumF (fm d.ts.length (lT d b)++fm i (lW d b))))∧Fr (2400+37*i) (KM.sumF (fm d.ts.length (lT d b)++fm i (lW d b)))) (by trivial) ⟨o,_,_,_,(),sJ,by rw [show fm 0 (lW d b)=[] from rfl,List.append_nil];exact hoJ,by rw [show fm 0 (lW d b)=[] from rfl,List.append_nil];exact foJ.mono (by trivial)⟩ ?_ ?_ ?_⟩
  ·rintro i σ H' _ ⟨_,_,_,_,_,_,sm,_⟩
   exact ⟨aa.of (sm _ _ Dd.hw),ah.of (sm _ _ hbz)⟩
  ·rintro i y u Tp σ H' e1 e2 hT ⟨o,v3,v4,v5,v6,rfl,sm,ho,fo⟩
   have st':=ad.new (o:=.tup [y,u]) hT
   have sx:=sm.trans st'
   obtain ⟨x,ex,mx,dx⟩:=cj Dd.aw e1
   have gx:=gd.ws x mx
   have hi:i<ws.length:=(List.getElem?_eq_some_iff.mp e1).1
   obtain ⟨wa,om,op_,rfl,hwa,_,hop⟩:=nN (dx.mono sx.toE)
   have hz:i<b.dr.length:=by rw [gb.z];exact (List.getElem?_eq_some_iff.mp ex).1
   have eq:=List.getElem?_eq_getElem hz
   have aq:Fr 29 b.dr[i]:=(gb.zr i x _ ex eq).1
   obtain ⟨oz,rfl,hoz⟩:=iI (p:=b.dr[i]) ((izs.mono sx.toE).nth i e2 (by rw [List.getElem?_map,eq];rfl))
   have e:lW d b i=[KM.lTim b.dr[i] x.pr]:=by unfold lW;rw [ex,eq]
   refine ⟨Tp,(),aa.of au,rfl,_,(),_,(),rfl,(),(),(),wa,_,_,(),rfl,aa.of hwa,rfl,oz,op_,b.dr[i],x.pr,29,29,7,7,rfl,hoz,hop,aq.gb,gx.p.gb,by decide,by decide,by decide,by decide,(fun z=>nomatch z),fun o3 G3 k3=>⟨o,o3,_,_,2400+37*i,36,true,rfl,k3.sm _ _ (st' _ _ ho),k3.at',fo,Fr.tim aq gx.p (by decide),by trivial,fun o4 G4 k4=>?_⟩⟩
   have ee:KM.sumF (fm d.ts.length (lT d b)++fm (i+1) (lW d b))=KM.ladd (KM.sumF (fm d.ts.length (lT d b)++fm i (lW d b))) (KM.lTim b.dr[i] x.pr):=by
    rw [aS,e,←List.append_assoc]
    exact ij ..
   refine ⟨o4,_,_,_,(),(sx.trans k3.sm).trans k4.sm,?_,?_⟩
   ·rw [ee];exact k4.at'
   ·rw [ee]
    exact fo.add (Fr.tim aq gx.p (Nat.le_refl _)) (by trivial)
  rintro σ J2 ⟨o2,v3,v4,v5,v6,rfl,sJ2,hoJ2,foJ2⟩
  exact n2 _ _ ⟨(),k o2 J2 sJ2 hoJ2 (foJ2.mono (by trivial))⟩
end
end K55
namespace K55
open PySem L2
set_option maxHeartbeats 16000000
def bR (p:List Nat) (h:Nat):List aP:=[.inr (S p),.inl (h:Int)]
theorem kU {p q:List Nat}{h j:Nat} (e:bR p h=bR q j):p=q∧h=j:=by
 unfold bR at e
 injection e with e1 e2
 injection e1 with e1
 injection e2 with e2 _
 injection e2 with e2
 exact ⟨Bv e1,by trivial⟩
def cL (hr:Nat) (p:List Nat):List (List aP):=(List.range hr).map (bR p)
def bp (ls:List (List Nat)) (hr:Nat):List (List aP):=ls.flatMap (cL hr)
theorem iJ {ls:List (List Nat)}{hr:Nat}{p:List Nat}{h:Nat} (hp:p∈ls) (hh:h<hr):bR p h∈bp ls hr:=List.mem_flatMap.mpr ⟨p,hp,List.mem_map.mpr ⟨h,List.mem_range.mpr hh,rfl⟩⟩
theorem tU {ls:List (List Nat)}{hr:Nat}{k:List aP} (h:k∈bp ls hr):bE fun p h=>p∈ls∧h<hr∧k=bR p h:=by
 obtain ⟨p,hp,h⟩:=List.mem_flatMap.mp h
 obtain ⟨j,hj,rfl⟩:=List.mem_map.mp h
 exact ⟨p,j,hp,List.mem_range.mp hj,rfl⟩
theorem AL (hr:Nat) (p:List Nat):(cL hr p).Nodup:=by
 unfold cL
 rw [List.nodup_iff_pairwise_ne] at *
 rw [List.pairwise_map]
 exact List.Pairwise.imp (fun {a b} h e=>h (kU e).2) (List.nodup_range (n:=hr))
def bP (H:Hp) (D:Addr) (ls:List (List Nat)) (hr:Nat) (G:List Nat→Nat→List KM.Fra):Prop:=∃f:List aP→V,H D=some (.dT (bS (bp ls hr) f))∧∀p∈ls,∀h,h<hr→∃o,f (bR p h)=.ref o∧H o=some (fr (KM.sumF (G p h)))
theorem bP.sm {H H':Hp}{D:Addr}{ls:List (List Nat)}{hr:Nat}{G:List Nat→Nat→List KM.Fra} (x:bP H D ls hr G) (s:ad H H'):bP H' D ls hr G:=by
 obtain ⟨f,a,b⟩:=x
 refine ⟨f,s _ _ a,fun p hp h hh=>?_⟩
 obtain ⟨o,e1,e2⟩:=b p hp h hh
 exact ⟨o,e1,s _ _ e2⟩
theorem bP.congr {H:Hp}{D:Addr}{ls:List (List Nat)}{hr:Nat}{G G':List Nat→Nat→List KM.Fra} (x:bP H D ls hr G) (e:∀p h,G p h=G' p h):bP H D ls hr G':=by
 obtain rfl:G=G':=funext fun p=>funext fun h=>e p h
 exact x
def eR (G:List Nat→Nat→List KM.Fra) (p0:List Nat) (h0:Nat) (q:KM.Fra):List Nat→Nat→List KM.Fra:=fun p h=>G p h++if p0=p∧h0=h then [q] else []
theorem bP.set {H H':Hp}{D o:Addr}{ls:List (List Nat)}{hr:Nat}{G:List Nat→Nat→List KM.Fra}{f:List aP→V}{p0:List Nat}{h0:Nat}{q:KM.Fra} (hD:H D=some (.dT (bS (bp ls hr) f))) (hf:∀p∈ls,∀h,h<hr→∃o,f (bR p h)=.ref o∧H o=some (fr (KM.sumF (G p h)))) (ho:H o=some (fr (KM.ladd (KM.sumF (G p0 h0)) q))) (c:uW H D (.dT (bS (bp ls hr) fun z=>if z=bR p0 h0 then .ref o else f z)) H'):bP H' D ls hr (eR G p0 h0 q):=by
 have tp:∀a us,H a=some (.tup us)→H' a=some (.tup us):=fun a us e=>c.ol a _ (eO e hD (by intro z;cases z)) e
 refine ⟨_,c.at',fun p hp h hh=>?_⟩
 by_cases e:p0=p∧h0=h
 ·obtain ⟨rfl,rfl⟩:=e
  refine ⟨o,if_pos rfl,?_⟩
  unfold eR
  rw [if_pos ⟨rfl,rfl⟩,ij]
  exact tp _ _ ho
 ·obtain ⟨o',e1,e2⟩:=hf p hp h hh
  refine ⟨o',by rw [if_neg fun z=>e ⟨(kU z).1.symm,(kU z).2.symm⟩];exact e1,?_⟩
  unfold eR
  rw [if_neg e,List.append_nil]
  exact tp _ _ e2
theorem EB {c:Nat}:∀{ps:List KM.Fra},(∀p∈ps,Fr c p)→Fr ((c+1)*ps.length+1) (KM.sumF ps):=by
 intro ps
 induction ps using xN with
 | h0=>intro _;exact xT
 | h1 ps p ih=>
  intro h
  rw [ij]
  have e:(c+1)*(ps++[p]).length=(c+1)*ps.length+(c+1):=by rw [List.length_append];exact Nat.mul_succ _ _
  exact (ih fun q hq=>h q (List.mem_append_left _ hq)).add (h p (by simp)) (by trivial)
def d6 (n:Nat) (ps:List KM.Fra):Prop:=(∀p∈ps,Fr 84 p)∧ps.length≤n
theorem d6.app {m n k:Nat}{ps qs:List KM.Fra} (h:d6 m ps) (g:d6 n qs) (l:m+n≤k):d6 k (ps++qs):=⟨fun p hp=>(List.mem_append.mp hp).elim (h.1 p) (g.1 p),by rw [List.length_append];have:=h.2;have:=g.2;trivial⟩
theorem d6.nil {n:Nat}:d6 n []:=⟨fun _ h=>(nomatch h),Nat.zero_le _⟩
theorem ze {k:Nat}{g:Nat→List KM.Fra}:∀(n:Nat),(∀i,i<n→d6 k (g i))→d6 (k*n) (fm n g)
 | 0,_=>.nil
 | n+1,h=>by
  rw [aS]
  exact (ze n fun i hi=>h i (by trivial)).app (h n (by trivial)) (Nat.le_of_eq (Nat.mul_succ k n).symm)
end K55
namespace K55
open PySem L2
set_option maxHeartbeats 16000000
theorem wn (hr:Nat):∀{ls:List (List Nat)},ls.Nodup→(bp ls hr).Nodup
 | [],_=>List.nodup_nil
 | l :: ls,h=>by
  rw [List.nodup_cons] at h
  show (cL hr l++bp ls hr).Nodup
  refine List.nodup_append.mpr ⟨AL hr l,wn hr h.2,fun a ha b hb e=>?_⟩
  obtain ⟨j,_,rfl⟩:=List.mem_map.mp ha
  obtain ⟨p,k,hp,_,rfl⟩:=tU hb
  exact h.1 ((kU e).1▸hp)
theorem pE (hr:Nat) (h8:hr≤8):∀(ls:List (List Nat)),(bp ls hr).length≤8*ls.length
 | []=>Nat.zero_le _
 | l :: ls=>by
  show (cL hr l++bp ls hr).length≤_
  have:=pE hr h8 ls
  rw [List.length_append,List.length_cons,show (cL hr l).length=hr by unfold cL;simp]
  trivial
def EW (H:Hp) (k:Nat→List aP) (ts:List Addr):Prop:=∀(i:Nat) t,ts[i]?=some t→bE fun b o=>H t=some (.tup [.ref b,.ref o])∧H b=some (.tup ((k i).map kV))∧H o=some (fr (0,1))
theorem yc {D:Addr}{H1:Hp}{σc:St}{g:TG}{te:TE}{Q:VK}{J:It}{n:Nat} (k:Nat→List aP) (hz:n≤10000) (hD:H1 D=none) (hgo:∀i H',i<n→ad H1 H'→J.go i H') (hst:∀H',ad H1 H'→J.stop n H')
 (hs:∀i x H' H'' (R:VK),i<n→ad H1 H'→J.yld i H' x H''→(∀t b o H4,ad H' H4→H4 t=some (.tup [.ref b,.ref o])→H4 b=some (.tup ((k i).map kV))→H4 o=some (fr (0,1))→R (.ref t) H4)→g x σc H'' fun σ2 H2=>gM σc σ2∧te σ2 H2 R)
 (hd:∀ts H',ad H1 H'→H' D=some (.lst (ts.map V.ref))→ts.length=n→EW H' k ts→Q (.ref D) H'):jM J σc g tT te D H1 Q:=by
 refine gf (n:=n) (fun i H' zs=>∃ts:List Addr,zs=ts.map V.ref∧H' D=some (.lst zs)∧ad H1 H'∧ts.length=i∧EW H' k ts) (fE hz) ⟨[],rfl,au,da hD (ad.refl _),rfl,fun i t e=>by simp at e⟩ ?_ ?_ ?_ ?_ ?_
 ·rintro i H' zs ⟨ts,rfl,q,_,l,_⟩
  exact ⟨q,by rw [List.length_map,l];exact Nat.le_refl _⟩
 ·rintro i H' zs hi ⟨_,_,_,sm,_⟩
  exact hgo i H' hi sm
 ·rintro H' zs ⟨_,_,_,sm,_⟩
  exact hst H' sm
 ·rintro i H' zs x H'' hi ⟨ts,rfl,q,sm,l,pr⟩ y
  refine hs i x H' H'' _ hi sm y fun t b o H4 s4 h1 h2 h3=>?_
  have q4:=s4 _ _ q
  have tp:∀a us,H4 a=some (.tup us)→aG H4 D (.lst (ts.map V.ref++[.ref t])) a=some (.tup us):=fun a us e=>by rw [ay (eO e q4 (by intro z;cases z))];exact e
  refine ⟨q4,ts++[t],by simp,au,da hD (sm.trans s4),by simp [l],fun j u e=>?_⟩
  by_cases hj:j<ts.length
  ·rw [List.getElem?_append_left hj] at e
   obtain ⟨b',o',g1,g2,g3⟩:=pr j u e
   exact ⟨b',o',tp _ _ (s4 _ _ g1),tp _ _ (s4 _ _ g2),tp _ _ (s4 _ _ g3)⟩
  ·have hj':j=ts.length:=by
    have:=(List.getElem?_eq_some_iff.mp e).1
    simp at this
    trivial
   subst hj'
   simp at e
   subst e
   rw [l]
   exact ⟨b,o,tp _ _ h1,tp _ _ h2,tp _ _ h3⟩
 ·rintro H' zs ⟨ts,rfl,q,sm,l,pr⟩
  exact hd ts H' sm q l pr
theorem bP.more {H:Hp}{D:Addr}{ls:List (List Nat)}{hr:Nat}{p:List Nat}{ts:List Addr} (x:bP H D ls hr fun _ _=>[]) (nd:(ls++[p]).Nodup) (pr:EW H (bR p) ts) (lt:ts.length=hr) :
 ∃kvs ps:List (List aP×V),H D=some (.dT kvs)∧ts.length=ps.length∧(∀(i:Nat) t q,ts[i]?=some t→ps[i]?=some q→∃b,H t=some (.tup [.ref b,q.2])∧H b=some (.tup (q.1.map kV)))∧(kvs++ps).map (·.1)=bp (ls++[p]) hr∧(kvs++ps).length=(bp (ls++[p]) hr).length∧∀H',uW H D (.dT (kvs++ps)) H'→bP H' D (ls++[p]) hr fun _ _=>[]:=by
 classical
 obtain ⟨f,hD,hf⟩:=x
 have ch:∃og:Nat→Addr,∀h t,ts[h]?=some t→∃b,H t=some (.tup [.ref b,.ref (og h)])∧H b=some (.tup ((bR p h).map kV))∧H (og h)=some (fr (0,1)):=by
  refine Classical.axiomOfChoice (r:=fun h o=>∀t,ts[h]?=some t→∃b,H t=some (.tup [.ref b,.ref o])∧H b=some (.tup ((bR p h).map kV))∧H o=some (fr (0,1))) fun h=>?_
  cases e:ts[h]? with
  | none=>exact ⟨D,fun t z=>by cases z⟩
  | some t=>
   obtain ⟨b,o,h1,h2,h3⟩:=pr h t e
   exact ⟨o,fun t' z=>by cases z;exact ⟨b,h1,h2,h3⟩⟩
 obtain ⟨og,hog⟩:=ch
 have ek:bp (ls++[p]) hr=bp ls hr++cL hr p:=by unfold bp;rw [List.flatMap_append];simp
 let f':List aP→V:=fun z=>if z∈cL hr p then (match z with | [_,.inl n]=>.ref (og n.toNat) | _=>.non) else f z
 have f1:∀h,h<hr→f' (bR p h)=.ref (og h):=fun h hh=>by
  show (if bR p h∈cL hr p then _ else _)=_
  have hm:bR p h∈cL hr p:=List.mem_map.mpr ⟨h,List.mem_range.mpr hh,rfl⟩
  rw [if_pos hm]
  rfl
 have f0:∀k∈bp ls hr,f' k=f k:=fun k hk=>by
  show (if k∈cL hr p then _ else _)=_
  rw [if_neg]
  intro z
  obtain ⟨q,j,hq,_,rfl⟩:=tU hk
  obtain ⟨i,_,e⟩:=List.mem_map.mp z
  have:=(List.nodup_append.mp nd).2.2 q hq p (by simp)
  exact this (kU e).1.symm
 have e1:bS (bp ls hr) f=bS (bp ls hr) f':=List.map_congr_left fun k hk=>by rw [f0 k hk]
 have e2:bS (bp ls hr) f++bS (cL hr p) f'=bS (bp (ls++[p]) hr) f':=by
  rw [e1,ek]
  unfold bS
  rw [List.map_append]
 refine ⟨bS (bp ls hr) f,bS (cL hr p) f',hD,by rw [lt];unfold bS cL;simp,fun i t q e g=>?_,by rw [e2,AX],by rw [e2];unfold bS;rw [List.length_map],fun H' c=>?_⟩
 ·have hi:i<hr:=by rw [←lt];exact (List.getElem?_eq_some_iff.mp e).1
  have eq:(bS (cL hr p) f')[i]?=some (bR p i,f' (bR p i)):=by
   unfold bS cL
   rw [List.getElem?_map,List.getElem?_map,List.getElem?_range hi]
   rfl
  rw [eq] at g
  cases g
  obtain ⟨b,h1,h2,_⟩:=hog i t e
  refine ⟨b,?_,h2⟩
  show H t=some (.tup [.ref b,f' (bR p i)])
  rw [f1 i hi]
  exact h1
 ·rw [e2] at c
  have tp:∀a us,H a=some (.tup us)→H' a=some (.tup us):=fun a us e=>c.ol a _ (eO e hD (by intro z;cases z)) e
  refine ⟨f',c.at',fun q hq h hh=>?_⟩
  rcases List.mem_append.mp hq with hq | hq
  ·obtain ⟨o,g1,g2⟩:=hf q hq h hh
   exact ⟨o,(f0 _ (iJ hq hh)).trans g1,tp _ _ g2⟩
  ·obtain rfl:=List.mem_singleton.mp hq
   obtain ⟨b,_,_,h3⟩:=hog h _ (List.getElem?_eq_getElem (show h<ts.length by trivial))
   exact ⟨og h,f1 h hh,tp _ _ h3⟩
end K55
namespace K55
open PySem L2
set_option maxHeartbeats 16000000
def qc (x:eV) (r:List KM.Fra) (hr:Nat) (p:List Nat) (h t:Nat):List KM.Fra:=(if x.bg=p∧t=h then [gJ (bn r t)] else [])++(if (¬(bn r t).1=0∧t+x.la<hr)∧x.en=p∧t+x.la=h then [KM.lTim (bn r t) x.ga] else [])
def uO (x:iU) (r:List KM.Fra) (hr:Nat) (p:List Nat) (h t:Nat):List KM.Fra:=(if x.pl=p∧t=h then [gJ (bn r t)] else [])++(if t+1<hr∧x.pl=p∧t+1=h then [KM.lTim (bn r t) x.ke] else [])
def tG (d:aC) (b:bo) (p:List Nat) (h i:Nat):List KM.Fra:=match d.ts[i]?,b.se[i]? with
 | some x,some r=>fm r.length (qc x r d.hr p h)
 | _,_=>[]
def sG (d:aC) (b:bo) (p:List Nat) (h i:Nat):List KM.Fra:=match d.ss[i]?,b.ke[i]? with
 | some x,some r=>fm r.length (uO x r d.hr p h)
 | _,_=>[]
def iG (d:aC) (sh:KM.Fra) (p:List Nat) (h i:Nat):List KM.Fra:=match d.wi[i]? with
 | some x=>if x.pl=p∧x.ho=h then [gJ (KM.lTim sh x.am)] else []
 | none=>[]
def ko (d:aC) (b:bo) (sh:KM.Fra) (p:List Nat) (h:Nat):List KM.Fra:=fm d.ts.length (tG d b p h)++fm d.ss.length (sG d b p h)++fm d.ws.length (cW d b p h)++fm d.wi.length (iG d sh p h)
theorem yN {n i:Nat}{g:Nat→List KM.Fra}{p:KM.Fra} (hi:i<n) (h:p∈g i):p∈fm n g:=List.mem_flatMap.mpr ⟨i,List.mem_range.mpr hi,h⟩
theorem xQ {a b:Nat}{A B:Nat→List KM.Fra}{n:Nat} (h:d6 a (fm n A)) (g:d6 b (fm n B)):d6 (a+b) (fm n fun t=>A t++B t):=by
 refine ⟨fun p hp=>?_,?_⟩
 ·obtain ⟨i,hi,hp⟩:=dO hp
  rcases List.mem_append.mp hp with z | z
  ·exact h.1 p (yN hi z)
  ·exact g.1 p (yN hi z)
 ·have e:∀n,(fm n fun t=>A t++B t).length=(fm n A).length+(fm n B).length:=fun n=>by
   induction n with
   | zero=>rfl
   | succ n ih=>
    rw [aS,aS,aS,List.length_append,List.length_append,List.length_append,List.length_append,ih]
    trivial
  have:=h.2
  have:=g.2
  rw [e]
  trivial
theorem pI {h:Nat}{g:Nat→List KM.Fra} (s:Nat→Nat) (si:∀t u,s t=s u→t=u) (hg:∀t,g t=[]∨(s t=h∧∃q,g t=[q]∧Fr 84 q)):∀(n:Nat),d6 1 (fm n g)∧((∃t,t<n∧s t=h)∨fm n g=[])
 | 0=>⟨.nil,.inr rfl⟩
 | n+1=>by
  obtain ⟨h1,h2⟩:=pI s si hg n
  rw [aS]
  rcases hg n with e | ⟨e,q,eq,fq⟩
  ·rw [e,List.append_nil]
   exact ⟨h1,h2.elim (fun ⟨t,a,b⟩=>.inl ⟨t,by trivial,b⟩) .inr⟩
  ·have z:fm n g=[]:=by
    rcases h2 with ⟨t,ht,et⟩ | z
    ·exact absurd (si t n (et.trans e.symm)) (by trivial)
    ·exact z
   rw [eq,z,List.nil_append]
   exact ⟨⟨fun p hp=>by rw [List.mem_singleton.mp hp];exact fq,Nat.le_refl _⟩,.inl ⟨n,by trivial,e⟩⟩
theorem tK {c:Nat}{r:List KM.Fra} (h:∀p∈r,Fr c p) (hc:1≤c) (t:Nat):Fr c (bn r t):=by
 unfold bn
 cases e:r[t]? with
 | none=>exact Fr.mono (show Fr 1 (0,1) from xT) hc
 | some p=>exact h p (List.mem_of_getElem? e)
theorem sR {c:Prop} [Decidable c] {s h:Nat}{q:KM.Fra} (e:c→s=h) (f:Fr 84 q):(if c then [q] else [])=[]∨(s=h∧∃p,(if c then [q] else [])=[p]∧Fr 84 p):=by
 by_cases z:c
 ·exact .inr ⟨e z,q,if_pos z,f⟩
 ·exact .inl (if_neg z)
theorem tZ {d:aC}{x:eV}{r:List KM.Fra} (gx:mN d x) (fr_:∀p∈r,Fr 60 p) (hr:Nat) (p:List Nat) (h n:Nat):d6 2 (fm n (qc x r hr p h)):=
 xQ (a:=1) (b:=1) (pI (h:=h) (fun t=>t) (fun _ _ e=>e) (fun t=>sR (fun c=>c.2) ((tK fr_ (by decide) t).neg.mono (by decide))) n).1 (pI (h:=h) (fun t=>t+x.la) (fun _ _ e=>by trivial) (fun t=>sR (fun c=>c.2.2) (Fr.tim (tK fr_ (by decide) t) gx.g (by decide))) n).1
theorem xz {d:aC}{x:iU}{r:List KM.Fra} (gx:rQ d x) (fr_:∀p∈r,Fr 60 p) (hr:Nat) (p:List Nat) (h n:Nat):d6 2 (fm n (uO x r hr p h)):=
 xQ (a:=1) (b:=1) (pI (h:=h) (fun t=>t) (fun _ _ e=>e) (fun t=>sR (fun c=>c.2) ((tK fr_ (by decide) t).neg.mono (by decide))) n).1 (pI (h:=h) (fun t=>t+1) (fun _ _ e=>by trivial) (fun t=>sR (fun c=>c.2.2) (Fr.tim (tK fr_ (by decide) t) gx.k (by decide))) n).1
theorem mU {d:aC}{b:bo} (gd:b7 d) (gb:GB 60 60 d b) (p:List Nat) (h i:Nat):d6 2 (tG d b p h i):=by
 unfold tG
 cases ex:d.ts[i]? with
 | none=>exact .nil
 | some x=>
  obtain ⟨r,er,_,f⟩:=gb.row ex
  rw [er]
  exact tZ (gd.ts x (List.mem_of_getElem? ex)) f ..
theorem sV {d:aC}{b:bo} (gd:b7 d) (gb:GB 60 60 d b) (p:List Nat) (h i:Nat):d6 2 (sG d b p h i):=by
 unfold sG
 cases ex:d.ss[i]? with
 | none=>exact .nil
 | some x=>
  obtain ⟨r,er,_,f⟩:=gb.rowK ex
  rw [er]
  exact xz (gd.ss x (List.mem_of_getElem? ex)) f ..
theorem tE {c:Prop} [Decidable c] {q:KM.Fra} (f:Fr 84 q):d6 1 (if c then [q] else []):=by
 by_cases z:c
 ·rw [if_pos z];exact ⟨fun p hp=>by rw [List.mem_singleton.mp hp];exact f,Nat.le_refl _⟩
 ·rw [if_neg z];exact .nil
theorem pJ {d:aC}{b:bo} (gb:GB 60 60 d b) (p:List Nat) (h i:Nat):d6 1 (cW d b p h i):=by
 unfold cW
 cases ex:d.ws[i]? with
 | none=>exact .nil
 | some x=>
  cases eq:b.dr[i]? with
  | none=>exact .nil
  | some q=>exact tE ((gb.zr i x q ex eq).1.mono (by decide))
theorem wm {d:aC}{sh:KM.Fra} (gd:b7 d) (fs:Fr 10 sh) (p:List Nat) (h i:Nat):d6 1 (iG d sh p h i):=by
 unfold iG
 cases ex:d.wi[i]? with
 | none=>exact .nil
 | some x=>exact tE ((Fr.tim fs (gd.wi x (List.mem_of_getElem? ex)).a (show 10+24≤84 by decide)).neg)
theorem d6.f35 {n:Nat}{ps:List KM.Fra} (h:d6 n ps) (l:n≤40):Fr 3500 (KM.sumF ps):=by
 have e:=Nat.mul_le_mul_left 85 h.2
 exact (EB h.1).mono (by trivial)
theorem eC {k n m:Nat}{g:Nat→List KM.Fra} (h:∀i,d6 k (g i)) (l:k*n≤m):d6 m (fm n g):=by
 obtain ⟨a,b⟩:=ze n fun i _=>h i
 exact ⟨a,Nat.le_trans b l⟩
theorem bP.step {H H3 H4:Hp}{D o:Addr}{ls:List (List Nat)}{hr:Nat}{G:List Nat→Nat→List KM.Fra}{f:List aP→V}{p0:List Nat}{h0:Nat}{q:KM.Fra} (hD:H D=some (.dT (bS (bp ls hr) f))) (hf:∀p∈ls,∀h,h<hr→∃o,f (bR p h)=.ref o∧H o=some (fr (KM.sumF (G p h)))) (s:ad H H3) (ho:H3 o=some (fr (KM.ladd (KM.sumF (G p0 h0)) q))) (c:uW H3 D (.dT (bS (bp ls hr) fun z=>if z=bR p0 h0 then .ref o else f z)) H4):bP H4 D ls hr (eR G p0 h0 q):=
 bP.set (s _ _ hD) (fun p hp h hh=>by obtain ⟨o,e1,e2⟩:=hf p hp h hh;exact ⟨o,e1,s _ _ e2⟩) ho c
end K55
namespace K55
open PySem L2
set_option maxHeartbeats 16000000
section
variable {P:Program}{w:World}{K:PySem.W.Frag}{mg:Str→Option Value}{base:Heap}
inductive CT (G:aC→bo→KM.Fra→List Nat→Nat→List KM.Fra) (vs:List V) (H:Hp) (Q:VK):Prop
 | mk (dv bv:V) (so:Addr) (d:aC) (b:bo) (E:Addr→Prop) (sh:KM.Fra) (h0:vs=[dv,bv,.ref so]) (h1:aJ ED H dv (eH d)) (h2:aJ E H bv (iW b)) (h3:b7 d) (h4:GB 60 60 d b) (h5:H so=some (fr sh)) (h6:Fr 10 sh) (h7:∀D H',ad H H'→H D=none→bP H' D d.pl d.hr (G d b sh)→Q (.ref D) H')
def DY (G:aC→bo→KM.Fra→List Nat→Nat→List KM.Fra):Sp:=fun vs H Q _=>CT G vs H Q
theorem CD (T:Txt K mg):aY P w K mg base CX0 3 T.l_sums_.f T.l_sums_.d ["_law_day_here", "_law_book", "_law_share"] (DY ko):=by
 have G_l_by:=#[(vL)]
 have G_l_plus:=#[(uB)]
 refine T.l_sums_.F.ok bq (fun vs H Q E h=>?_) (fun cdv A outer s H vs Q E hr h=>?_)
 ·obtain ⟨dv,bv,so,d,b,E,sh,rfl,_⟩:=h
  rfl
 ·obtain ⟨dv,bv,so,d,b,E1,sh,rfl,hd,hb,gd,gb,hso,fs,k⟩:=h
  refine ⟨_,#[#[cD 6 #[1,sT] (@aQ _ (K) _ _ _ _ (3) rfl #[af 5 #[3,bq.nd,l9] #[af 5 #[4,bq.nd,mt] #[af 5 #[5,bq.nd,lL] (@aW _) (by rfl)] (by rfl)] (by rfl)] (by rfl) (by rfl) (by rfl)) (by rfl) (by rfl) (by rfl)] :: #[#[6,bq.nd,aL,#[y7 2]] :: #[#[bL 8 PassesOwn.never rfl (@dD _ (K) _ _ _ #[#[0,bw][#[()]]] (by rfl)) #[gC 2 (7) _ bq.nd rfl (Or.inr rR) (by first | exact .inl rfl | exact .inr rfl | assumption)] #[ac 3 #[dn 4 (@cI _ (K) _ _ _ _ _ _ _ _ _ _ _ PySem.F.plainAttrs_dict PySem.F.slot_dict_update PySem.F.type_dict_update (@Cn _ rfl hr.units) #[6,aL] #[[#[bI 7 (["_law_hour", "_law_place"]) (1) ([7]) _ _ _ _ rfl (by kernel_rfl) #[bG 6 uu T.b_range #[[#[#[0,bw][#[()]]]]] (by rfl)] (fun _ _ _ _ _ _=>#[0,(),()]) (fun _ _ _ _ _ _=>@bd _) (fun _ _ _ _ _ _=>#[aD 5 #[[#[aD 5 #[[#[1,0],#[0,()]]]],#[aD 5 #[[#[()],#[()]]]]]]]) (by intro _;rfl)]]] (by rfl) (by rfl) (by rfl) (by rfl) (by rfl) (by rfl)) (by rfl)]] (by intro _;rfl)] :: #[#[bL 8 PassesOwn.never rfl (@bV _ (K) _ _ _ _ _ _ _ _ lJ T.b_zip #[[#[#[0,bw][#[()]]],#[3,l9]]] (by rfl) (by rfl) (by rfl)) (@aQ _ (K) _ _ _ _ (2) rfl #[af 5 #[9,bq.nd,cG] #[af 5 #[10,bq.nd,my] (@aW _) (by rfl)] (by rfl)] (by rfl) (by rfl) (by rfl)) #[ac 3 #[bL 8 PassesOwn.never rfl (@wU _ (K) _ _ _ _ _ _ _ jU T.b_enumerate #[[#[10,my]]] (by rfl) (by rfl)) (@aQ _ (K) _ _ _ _ (2) rfl #[af 5 #[8,bq.nd,bC] #[af 5 #[11,bq.nd,bT] (@aW _) (by rfl)] (by rfl)] (by rfl) (by rfl) (by rfl)) #[#[cD 6 #[G_l_plus,cX,T.l_plus_,#[[#[cM 7 (@oD _ hr.units) #[6,aL] #[aD 5 #[[#[#[9,cG][#[()]]],#[8,bC]]]] (fun _ _=>rfl)],#[11,bT],#[oh 6 (@lX _) #[()]]]]] #[iP 7 #[6,aL] #[aD 5 #[[#[#[9,cG][#[()]]],#[8,bC]]]] (@nJ _ hr.units) (by intro _;rfl)] (by rfl) (by rfl) (by rfl)] :: #[ac 3 #[bH 8 #[PW.pt 3 #[qy 7 #[aF 8 (@md _) #[#[11,bT][#[()]]] #[()] #[(),()]] #[mY 4 #[aF 8 (@gy _) #[ak 8 (@bi _) #[8,bC] #[#[9,cG][#[()]]]] #[#[0,bw][#[()]]] #[(),()]]]]] #[#[12,bq.nd,cY,#[aD 5 #[[#[#[9,cG][#[()]]],#[ak 8 (@bi _) #[8,bC] #[#[9,cG][#[()]]]]]]]] :: #[ac 3 #[cD 6 #[G_l_plus,cX,T.l_plus_,#[[#[cM 7 (@oD _ hr.units) #[6,aL] #[12,cY] (fun _ _=>rfl)],#[G_l_by,kw,T.l_by_,#[[#[11,bT],#[#[9,cG][#[()]]]]]],#[()]]]] #[iP 7 #[6,aL] #[12,cY] (@nJ _ hr.units) (by intro _;rfl)] (by rfl) (by rfl) (by rfl)]]] (@bc _)]]] (by intro _;rfl)]] (by intro _;rfl)] :: #[#[bL 8 PassesOwn.never rfl (@bV _ (K) _ _ _ _ _ _ _ _ lJ T.b_zip #[[#[#[0,bw][#[()]]],#[4,mt]]] (by rfl) (by rfl) (by rfl)) (@aQ _ (K) _ _ _ _ (2) rfl #[af 5 #[13,bq.nd,dq] #[af 5 #[14,bq.nd,kW] (@aW _) (by rfl)] (by rfl)] (by rfl) (by rfl) (by rfl)) #[ac 3 #[bL 8 PassesOwn.never rfl (@wU _ (K) _ _ _ _ _ _ _ jU T.b_enumerate #[[#[14,kW]]] (by rfl) (by rfl)) (@aQ _ (K) _ _ _ _ (2) rfl #[af 5 #[8,bq.nd,bC] #[af 5 #[11,bq.nd,bT] (@aW _) (by rfl)] (by rfl)] (by rfl) (by rfl) (by rfl)) #[#[cD 6 #[G_l_plus,cX,T.l_plus_,#[[#[cM 7 (@oD _ hr.units) #[6,aL] #[aD 5 #[[#[#[13,dq][#[()]]],#[8,bC]]]] (fun _ _=>rfl)],#[11,bT],#[oh 6 (@lX _) #[()]]]]] #[iP 7 #[6,aL] #[aD 5 #[[#[#[13,dq][#[()]]],#[8,bC]]]] (@nJ _ hr.units) (by intro _;rfl)] (by rfl) (by rfl) (by rfl)] :: #[ac 3 #[bH 8 #[aF 8 (@gy _) #[ak 8 (@bi _) #[8,bC] #[()]] #[#[0,bw][#[()]]] #[(),()]] #[#[12,bq.nd,cY,#[aD 5 #[[#[#[13,dq][#[()]]],#[ak 8 (@bi _) #[8,bC] #[()]]]]]] :: #[ac 3 #[cD 6 #[G_l_plus,cX,T.l_plus_,#[[#[cM 7 (@oD _ hr.units) #[6,aL] #[12,cY] (fun _ _=>rfl)],#[G_l_by,kw,T.l_by_,#[[#[11,bT],#[#[13,dq][#[()]]]]]],#[()]]]] #[iP 7 #[6,aL] #[12,cY] (@nJ _ hr.units) (by intro _;rfl)] (by rfl) (by rfl) (by rfl)]]] (@bc _)]]] (by intro _;rfl)]] (by intro _;rfl)] :: #[#[bL 8 PassesOwn.never rfl (@bV _ (K) _ _ _ _ _ _ _ _ lJ T.b_zip #[[#[#[0,bw][#[()]]],#[5,lL]]] (by rfl) (by rfl) (by rfl)) (@aQ _ (K) _ _ _ _ (2) rfl #[af 5 #[15,bq.nd,jg] #[af 5 #[11,bq.nd,bT] (@aW _) (by rfl)] (by rfl)] (by rfl) (by rfl) (by rfl)) #[ac 3 #[cD 6 #[G_l_plus,cX,T.l_plus_,#[[#[cM 7 (@oD _ hr.units) #[6,aL] #[cZ 10 (@iL _ (K) (by rfl)) #[15,jg] (@d9 _) #[dk 3 #[()]]] (fun _ _=>rfl)],#[11,bT],#[()]]]] #[iP 7 #[6,aL] #[cZ 10 (@iL _ (K) (by rfl)) #[15,jg] (@d9 _) #[dk 3 #[()]]] (@nJ _ hr.units) (by intro _;rfl)] (by rfl) (by rfl) (by rfl)]] (by intro _;rfl)] :: #[#[bL 8 PassesOwn.never rfl (@dD _ (K) _ _ _ #[#[0,bw][#[()]]] (by rfl)) #[16,bq.nd,fN] #[ac 3 #[cD 6 #[G_l_plus,cX,T.l_plus_,#[[#[cM 7 (@oD _ hr.units) #[6,aL] #[cZ 10 (@iL _ (K) (by rfl)) #[16,fN] (@d9 _) #[dk 3 #[()]]] (fun _ _=>rfl)],#[G_l_by,kw,T.l_by_,#[[#[2,rG],#[#[16,fN][#[()]]]]]],#[oh 6 (@lX _) #[()]]]]] #[iP 7 #[6,aL] #[cZ 10 (@iL _ (K) (by rfl)) #[16,fN] (@d9 _) #[dk 3 #[()]]] (@nJ _ hr.units) (by intro _;rfl)] (by rfl) (by rfl) (by rfl)]] (by intro _;rfl)] :: #[ac 3 #[aB 4 #[6,aL]]]]]]]]]],?_⟩
  obtain ⟨a,pp,tt,st,wl,wi,ts,ss,ws,is,Dd⟩:=dB hd
  cases Dd.ev
  obtain ⟨ba,bs,bk,bz,us,ks,zs,rfl,hba,hbs,ius,hbk,iks,hbz,izs⟩:=nU hb
  have lts:=Dd.at_.length
  have lss:=Dd.as_.length
  have lws:=Dd.aw.length
  have lus:=ius.length
  have lks:=iks.length
  have lzs:=izs.length
  rw [List.length_map] at lts lss lws lus lks lzs
  rw [gb.s] at lus
  rw [gb.k] at lks
  rw [gb.z] at lzs
  have t8:=gd.t8
  have s5:=gd.s5
  have w5:=gd.w5
  have h8:=gd.l8
  refine aX fun D0 n0=>⟨(),ba,(),aa.of hba,rfl,_,(),_,(),_,(),rfl,n0 _ _ ?_⟩
  refine aX fun D1 n1=>fun D H0 m0=>n1 _ _ ?_
  have hDn:H D=none:=m0.fr
  have nD:∀a o,H a=some o→a≠D:=fun a o h e=>by rw [e,hDn] at h;cases h
  refine aX fun D2 n2=>⟨(),a,_,_,(),rfl,aa.of (m0.sm _ _ Dd.ha),rfl,pp,rfl,⟨_,aa.of (m0.sm _ _ Dd.hp)⟩,qD (xs:=d.pl.map aI) (fun i σ H'=>∃(v7:Option V),σ=[some (.ref a),some (.ref ba),some (.ref so),some (.ref bs),some (.ref bk),some (.ref bz),some (.ref D),v7,none,none,none,none,none,none,none,none,none]∧ad H H'∧bP H' D (d.pl.take i) d.hr fun _ _=>[]) ⟨(),m0.sm,fun _=>.non,m0.at',fun p hp=>by simp at hp⟩ ?_ ?_ ?_⟩
  ·rintro i σ H' _ ⟨_,_,sm,_⟩
   exact aa.of (sm _ _ Dd.hp)
  ·rintro i y σ H' ey ⟨v7,rfl,sm,dI⟩
   rw [List.getElem?_map] at ey
   cases ep:d.pl[i]? with
   | none=>rw [ep] at ey;cases ey
   | some p=>
   rw [ep] at ey
   cases ey
   refine ⟨_,rfl,.inr (.inr (.inl ⟨rfl,.inr (by obtain ⟨f,hf,_⟩:=dI;exact ⟨_,hf⟩)⟩)),_,rfl,a,_,_,_,rfl,rfl,aa.of (sm _ _ Dd.ha),rfl,_,rfl,by trivial,by trivial,fun Dl hDl=>yc (n:=d.hr) (bR p) (by trivial) hDl (fun i H' hi _=>by show i<_;trivial) (fun H' _=>by show _≤_;trivial) ?_ ?_⟩
   ·rintro h y H3 H4 Rk hh s3 ⟨rfl,rfl⟩ kk
    refine ⟨dF,?_⟩
    have e0:(0:Int)+(h:Int)=h:=by trivial
    rw [e0]
    exact ⟨(),(),(by show 2≤10000;decide),fun b5 H5 k5=>⟨(by show 2≤10000;decide),fun o6 H6 k6=>⟨(by show 2≤10000;decide),fun t7 H7 k7=>kk t7 b5 o6 H7 ((k5.sm.trans k6.sm).trans k7.sm) k7.at' (k7.sm _ _ (k6.sm _ _ k5.at')) (k7.sm _ _ k6.at')⟩⟩⟩
   intro tl J sJ hDlJ ltl prJ
   have hi:i<d.pl.length:=(List.getElem?_eq_some_iff.mp ep).1
   have et:d.pl.take (i+1)=d.pl.take i++[p]:=by rw [List.take_succ,ep];rfl
   have ndt:(d.pl.take i++[p]).Nodup:=by rw [←et];exact gd.nd.sublist (List.take_sublist ..)
   obtain ⟨kvs,ps,hDk,lp,hp,ek,el,nx⟩:=(dI.sm sJ).more ndt prJ ltl
   have kl:=pE d.hr h8 (d.pl.take i++[p])
   have pl5:=gd.p5
   rw [List.length_append,List.length_take,List.length_singleton] at kl
   refine ⟨D,Dl,kvs,ps,tl,rfl,rfl,hDk,hDlJ,lp,hp,by rw [ek];exact wn _ ndt,by rw [el];trivial,fun H9 c9=>⟨(),fun x o h=>c9.ol x o (nD x o h) ((sm.trans sJ) _ _ h),?_⟩⟩
   rw [et]
   exact nx _ c9
  rintro σ J1 ⟨v7,rfl,sm,dI⟩
  rw [show (d.pl.map aI).length=d.pl.length from List.length_map ..,List.take_length] at dI
  refine n2 _ _ ?_
  refine aX fun D3 n3=>⟨(),a,_,_,(),rfl,aa.of (sm _ _ Dd.ha),rfl,(),tt,bs,false,true,rfl,⟨_,aa.of (sm _ _ Dd.ht)⟩,⟨_,ah.of (sm _ _ hbs)⟩,jB (xs:=ts) (ys:=us) (n:=d.ts.length) (fun i σ H'=>Gu fun (v7 v8 v9 v10 v11 v12:Option V)=>σ=[some (.ref a),some (.ref ba),some (.ref so),some (.ref bs),some (.ref bk),some (.ref bz),some (.ref D),v7,v8,v9,v10,v11,v12,none,none,none,none]∧ad H H'∧bP H' D d.pl d.hr fun p h=>fm i (tG d b p h)) (by trivial) ⟨_,_,_,_,_,(),sm,dI⟩ ?_ ?_ ?_⟩
  ·rintro i σ H' _ ⟨_,_,_,_,_,_,_,sm,_⟩
   exact ⟨aa.of (sm _ _ Dd.ht),ah.of (sm _ _ hbs)⟩
  ·rintro i y u Tp σ H' e1 e2 hT ⟨v7,v8,v9,v10,v11,v12,rfl,sm,dI⟩
   have st':=ad.new (o:=.tup [y,u]) hT
   obtain ⟨x,ex,mx,dx⟩:=cj Dd.at_ e1
   have gx:=gd.ts x mx
   obtain ⟨r,er,lr,fr_⟩:=gb.row ex
   obtain ⟨ta,om,og,op_,oo,rfl,hta,_,hog,_,_⟩:=iZ dx
   obtain ⟨ru,rfl,rs,hrs,dQ⟩:=jX (ki ius e2 er) fun q hq=>(fr_ q hq).mono (by decide)
   have lrs:=dQ.length
   have hi:i<ts.length:=(List.getElem?_eq_some_iff.mp e1).1
   have e:∀p h,tG d b p h i=fm r.length (qc x r d.hr p h):=fun p h=>by unfold tG;rw [ex,er]
   refine ⟨Tp,(),aa.of au,rfl,_,(),_,(),rfl,?_⟩
   refine i0 (t:=vU _ _ _) fun DB nB=>?_
   refine ⟨(),ru,true,rfl,⟨_,ah.of ((sm.trans st') _ _ hrs)⟩,uP (xs:=rs) (fun j σ G=>gH fun (v8 v11 v12:Option V)=>σ=[some (.ref a),some (.ref ba),some (.ref so),some (.ref bs),some (.ref bk),some (.ref bz),some (.ref D),v7,v8,some (.ref ta),some (.ref ru),v11,v12,none,none,none,none]∧ad H G∧bP G D d.pl d.hr fun p h=>fm i (tG d b p h)++fm j (qc x r d.hr p h)) ⟨_,_,(),sm.trans st',(dI.sm st').congr fun p h=>(List.append_nil _).symm⟩ ?_ ?_ ?_⟩
   ·rintro j σ G _ ⟨_,_,_,_,sg,_⟩
    exact ah.of (sg _ _ hrs)
   ·rintro j v Tq σ G ev hTq ⟨v8,v11,v12,rfl,sg,dI⟩
    have s1:=ad.new (o:=.tup [.int (j:Int),v]) hTq
    obtain ⟨oj,q,rfl,eq,hoj,fq⟩:=dQ.get ev
    have hj:j<d.hr:=by have:=(List.getElem?_eq_some_iff.mp ev).1;trivial
    have fq:Fr 60 q:=fr_ q (List.mem_of_getElem? eq)
    have eq':bn r j=q:=by unfold bn;rw [eq];rfl
    obtain ⟨f,hD,hf⟩:=dI.sm s1
    obtain ⟨o,eo,ho⟩:=hf _ gx.b j hj
    have hk:=iJ gx.b hj
    have sg1:=sg.trans s1
    have fw:=((eC (n:=i) (m:=16) (fun i=>mU gd gb x.bg j i) (by trivial)).app (tZ gx fr_ d.hr x.bg j j) (Nat.le_refl 18)).f35 (by decide)
    refine ⟨Tq,(),aa.of au,rfl,_,(),_,(),rfl,?_⟩
    refine aX fun D5 n5=>⟨(),(),ta,_,_,(),rfl,aa.of (sg1 _ _ hta),rfl,(),(by show 2≤10000;decide),fun b1 H1 m1=>⟨D,b1,_,f,bR x.bg j,rfl,rfl,m1.sm _ _ hD,m1.at',hk,(),(),o,oj,_,_,3500,60,false,by rw [eo];rfl,m1.sm _ _ ho,m1.sm _ _ (sg1 _ _ hoj),fw,fq,by decide,fun o2 H2 m2=>⟨(),(),ta,_,_,(),rfl,aa.of ((m1.sm.trans m2.sm) _ _ (sg1 _ _ hta)),rfl,(),(by show 2≤10000;decide),fun b3 H3 m3=>⟨D,b3,_,f,bR x.bg j,rfl,rfl,((m1.sm.trans m2.sm).trans m3.sm) _ _ hD,m3.at',hk,fun H4 c4=>n5 _ _ ?_⟩⟩⟩⟩
    have s13:=(m1.sm.trans m2.sm).trans m3.sm
    have dI4:=bP.step hD hf s13 (m3.sm _ _ m2.at') c4
    have sg4:ad H H4:=fun x o h=>c4.ol x o (nD x o h) ((sg1.trans s13) _ _ h)
    have hoj4:=sg4 _ _ hoj
    have hta4:=sg4 _ _ hta
    have ha4:=sg4 _ _ Dd.ha
    have en:¬(¬q.1=0∧j+x.la<d.hr)→∀p h,eR (fun p h=>fm i (tG d b p h)++fm j (qc x r d.hr p h)) x.bg j (gJ q) p h=fm i (tG d b p h)++fm (j+1) (qc x r d.hr p h):=fun c p h=>by
     unfold eR
     rw [aS,List.append_assoc]
     unfold qc
     rw [eq',if_neg (show ¬((¬q.1=0∧j+x.la<d.hr)∧x.en=p∧j+x.la=h) from fun z=>c z.1),List.append_nil]
    have ey:¬q.1=0∧j+x.la<d.hr→∀p h,eR (eR (fun p h=>fm i (tG d b p h)++fm j (qc x r d.hr p h)) x.bg j (gJ q)) x.en (j+x.la) (KM.lTim q x.ga) p h=fm i (tG d b p h)++fm (j+1) (qc x r d.hr p h):=fun c p h=>by
     unfold eR
     rw [aS,List.append_assoc,List.append_assoc]
     unfold qc
     rw [eq']
     congr 3
     by_cases z:x.en=p∧j+x.la=h
     ·rw [if_pos z,if_pos ⟨c,z⟩]
     ·rw [if_neg z,if_neg fun y=>z y.2]
    refine ⟨(),oj,_,_,(),rfl,aa.of hoj4,rfl,rfl,(),bZ (fun c=>?_) fun c=>ce ⟨_,_,(),sg4,dI4.congr (en fun z=>?_)⟩⟩
    ·refine ⟨(),(),ta,_,_,(),rfl,aa.of hta4,rfl,_,(),rfl,(),a,_,_,(),rfl,aa.of ha4,rfl,_,(),rfl,(),bZ (fun c'=>?_) fun c'=>⟨_,_,(),sg4,dI4.congr (en fun z=>?_)⟩⟩
     ·have c1:¬q.1=0:=fun z=>by rw [z] at c;exact absurd c (by decide)
      have c2:j+x.la<d.hr:=by have:=of_decide_eq_true c';trivial
      have hk2:=iJ gx.e c2
      obtain ⟨f4,hD4,hf4⟩:=dI4
      obtain ⟨o4,eo4,ho4⟩:=hf4 _ gx.e _ c2
      have fw4:Fr 3500 (KM.sumF (eR (fun p h=>fm i (tG d b p h)++fm j (qc x r d.hr p h)) x.bg j (gJ q) x.en (j+x.la))):=(((eC (n:=i) (m:=16) (fun i=>mU gd gb x.en (j+x.la) i) (by trivial)).app (tZ gx fr_ d.hr x.en (j+x.la) j) (Nat.le_refl 18)).app (tE (fq.neg.mono (by decide))) (Nat.le_refl 19)).f35 (by decide)
      refine aX fun D6 n6=>⟨(),ta,_,_,(),rfl,aa.of hta4,rfl,(),(),ta,_,_,(),rfl,aa.of hta4,rfl,_,(),rfl,(by show 2≤10000;decide),fun b5 H5 m5=>n6 _ _ ?_⟩
      have hb5:H5 b5=some (.tup ((bR x.en (j+x.la)).map kV)):=m5.at'
      refine ⟨(),(),D,b5,_,f4,bR x.en (j+x.la),rfl,rfl,m5.sm _ _ hD4,hb5,hk2,(),(),ta,_,_,(),rfl,aa.of (m5.sm _ _ hta4),rfl,oj,og,q,x.ga,60,60,24,24,rfl,m5.sm _ _ hoj4,m5.sm _ _ (sg4 _ _ hog),fq.gb,gx.g.gb,by decide,by decide,by decide,by decide,(fun z=>nomatch z),fun o6 H6 m6=>⟨o4,o6,_,_,3500,84,true,by rw [eo4];rfl,(m5.sm.trans m6.sm) _ _ ho4,m6.at',fw4,Fr.tim fq gx.g (by decide),by decide,fun o7 H7 m7=>⟨(),(),D,b5,_,f4,bR x.en (j+x.la),rfl,rfl,((m5.sm.trans m6.sm).trans m7.sm) _ _ hD4,(m6.sm.trans m7.sm) _ _ hb5,hk2,fun H8 c8=>⟨_,_,(),?_,(bP.step hD4 hf4 ((m5.sm.trans m6.sm).trans m7.sm) m7.at' c8).congr (ey ⟨c1,c2⟩)⟩⟩⟩⟩
      exact fun x o h=>c8.ol x o (nD x o h) (((m5.sm.trans m6.sm).trans m7.sm) _ _ (sg4 _ _ h))
     ·exact c' (decide_eq_true (by have:=z.2;trivial))
    ·refine z.1 ?_
     have c0:(!decide (V.int q.1=V.int 0))=false:=by simpa using c
     have c0:=of_decide_eq_true (by simpa using c0:decide (V.int q.1=V.int 0)=true)
     injection c0
   ·rintro σ G ⟨v8,v11,v12,rfl,sg,dI⟩
    refine nB _ _ ⟨_,_,_,_,_,(),sg,dI.congr fun p h=>?_⟩
    rw [aS,e,show rs.length=r.length from lrs]
  rintro σ J2 ⟨v7,v8,v9,v10,v11,v12,rfl,sm,dI⟩
  refine n3 _ _ ?_
  refine aX fun D4 n4=>⟨(),a,_,_,(),rfl,aa.of (sm _ _ Dd.ha),rfl,(),st,bk,false,true,rfl,⟨_,aa.of (sm _ _ Dd.hs)⟩,⟨_,ah.of (sm _ _ hbk)⟩,jB (xs:=ss) (ys:=ks) (n:=d.ss.length) (fun i σ H'=>wd fun (v8 v11 v12 v13 v14:Option V)=>σ=[some (.ref a),some (.ref ba),some (.ref so),some (.ref bs),some (.ref bk),some (.ref bz),some (.ref D),v7,v8,v9,v10,v11,v12,v13,v14,none,none]∧ad H H'∧bP H' D d.pl d.hr fun p h=>fm d.ts.length (tG d b p h)++fm i (sG d b p h)) (by trivial) ⟨_,_,_,_,(),sm,dI.congr fun p h=>(List.append_nil _).symm⟩ ?_ ?_ ?_⟩
  ·rintro i σ H' _ ⟨_,_,_,_,_,_,sm,_⟩
   exact ⟨aa.of (sm _ _ Dd.hs),ah.of (sm _ _ hbk)⟩
  ·rintro i y u Tp σ H' e1 e2 hT ⟨v8,v11,v12,v13,v14,rfl,sm,dI⟩
   have st':=ad.new (o:=.tup [y,u]) hT
   obtain ⟨x,ex,mx,dx⟩:=cj Dd.as_ e1
   have gx:=gd.ss x mx
   obtain ⟨r,er,lr,fr_⟩:=gb.rowK ex
   obtain ⟨ta,om,ok,rfl,hta,_,hok⟩:=pG dx
   obtain ⟨ru,rfl,rs,hrs,dQ⟩:=jX (ki iks e2 er) fun q hq=>(fr_ q hq).mono (by decide)
   have lrs:=dQ.length
   have hi:i<ss.length:=(List.getElem?_eq_some_iff.mp e1).1
   have e:∀p h,sG d b p h i=fm r.length (uO x r d.hr p h):=fun p h=>by unfold sG;rw [ex,er]
   refine ⟨Tp,(),aa.of au,rfl,_,(),_,(),rfl,?_⟩
   refine i0 (t:=vU _ _ _) fun DB nB=>?_
   refine ⟨(),ru,true,rfl,⟨_,ah.of ((sm.trans st') _ _ hrs)⟩,uP (xs:=rs) (fun j σ G=>gH fun (v8 v11 v12:Option V)=>σ=[some (.ref a),some (.ref ba),some (.ref so),some (.ref bs),some (.ref bk),some (.ref bz),some (.ref D),v7,v8,v9,v10,v11,v12,some (.ref ta),some (.ref ru),none,none]∧ad H G∧bP G D d.pl d.hr fun p h=>fm d.ts.length (tG d b p h)++fm i (sG d b p h)++fm j (uO x r d.hr p h)) ⟨_,_,(),sm.trans st',(dI.sm st').congr fun p h=>(List.append_nil _).symm⟩ ?_ ?_ ?_⟩
   ·rintro j σ G _ ⟨_,_,_,_,sg,_⟩
    exact ah.of (sg _ _ hrs)
   ·rintro j v Tq σ G ev hTq ⟨v8,v11,v12,rfl,sg,dI⟩
    have s1:=ad.new (o:=.tup [.int (j:Int),v]) hTq
    obtain ⟨oj,q,rfl,eq,hoj,fq⟩:=dQ.get ev
    have hj:j<d.hr:=by have:=(List.getElem?_eq_some_iff.mp ev).1;trivial
    have fq:Fr 60 q:=fr_ q (List.mem_of_getElem? eq)
    have eq':bn r j=q:=by unfold bn;rw [eq];rfl
    obtain ⟨f,hD,hf⟩:=dI.sm s1
    obtain ⟨o,eo,ho⟩:=hf _ gx.b j hj
    have hk:=iJ gx.b hj
    have sg1:=sg.trans s1
    have fw0:∀h,d6 28 (fm d.ts.length (tG d b x.pl h)++fm i (sG d b x.pl h)++fm j (uO x r d.hr x.pl h)):=fun h=>((eC (n:=d.ts.length) (m:=16) (fun i=>mU gd gb x.pl h i) (by trivial)).app (eC (n:=i) (m:=10) (fun i=>sV gd gb x.pl h i) (by trivial)) (Nat.le_refl 26)).app (xz gx fr_ d.hr x.pl h j) (Nat.le_refl 28)
    have fw:=(fw0 j).f35 (by decide)
    refine ⟨Tq,(),aa.of au,rfl,_,(),_,(),rfl,?_⟩
    refine aX fun D5 n5=>⟨(),(),ta,_,_,(),rfl,aa.of (sg1 _ _ hta),rfl,(),(by show 2≤10000;decide),fun b1 H1 m1=>⟨D,b1,_,f,bR x.pl j,rfl,rfl,m1.sm _ _ hD,m1.at',hk,(),(),o,oj,_,_,3500,60,false,by rw [eo];rfl,m1.sm _ _ ho,m1.sm _ _ (sg1 _ _ hoj),fw,fq,by decide,fun o2 H2 m2=>⟨(),(),ta,_,_,(),rfl,aa.of ((m1.sm.trans m2.sm) _ _ (sg1 _ _ hta)),rfl,(),(by show 2≤10000;decide),fun b3 H3 m3=>⟨D,b3,_,f,bR x.pl j,rfl,rfl,((m1.sm.trans m2.sm).trans m3.sm) _ _ hD,m3.at',hk,fun H4 c4=>n5 _ _ ?_⟩⟩⟩⟩
    have s13:=(m1.sm.trans m2.sm).trans m3.sm
    have dI4:=bP.step hD hf s13 (m3.sm _ _ m2.at') c4
    have sg4:ad H H4:=fun x o h=>c4.ol x o (nD x o h) ((sg1.trans s13) _ _ h)
    have hoj4:=sg4 _ _ hoj
    have hta4:=sg4 _ _ hta
    have ha4:=sg4 _ _ Dd.ha
    refine ⟨(),_,(),rfl,(),a,_,_,(),rfl,aa.of ha4,rfl,_,(),rfl,(),bZ (fun c=>?_) fun c=>⟨_,_,(),sg4,dI4.congr fun p h=>?_⟩⟩
    ·have c2:j+1<d.hr:=by have:=of_decide_eq_true c;trivial
     have hk2:=iJ gx.b c2
     obtain ⟨f4,hD4,hf4⟩:=dI4
     obtain ⟨o4,eo4,ho4⟩:=hf4 _ gx.b _ c2
     have fw4:Fr 3500 (KM.sumF (eR (fun p h=>fm d.ts.length (tG d b p h)++fm i (sG d b p h)++fm j (uO x r d.hr p h)) x.pl j (gJ q) x.pl (j+1))):=((fw0 (j+1)).app (tE (fq.neg.mono (by decide))) (Nat.le_refl 29)).f35 (by decide)
     refine aX fun D6 n6=>⟨(),ta,_,_,(),rfl,aa.of hta4,rfl,(),_,(),rfl,(by show 2≤10000;decide),fun b5 H5 m5=>n6 _ _ ?_⟩
     have hb5:H5 b5=some (.tup ((bR x.pl (j+1)).map kV)):=m5.at'
     refine ⟨(),(),D,b5,_,f4,bR x.pl (j+1),rfl,rfl,m5.sm _ _ hD4,hb5,hk2,(),(),ta,_,_,(),rfl,aa.of (m5.sm _ _ hta4),rfl,oj,ok,q,x.ke,60,60,24,24,rfl,m5.sm _ _ hoj4,m5.sm _ _ (sg4 _ _ hok),fq.gb,gx.k.gb,by decide,by decide,by decide,by decide,(fun z=>nomatch z),fun o6 H6 m6=>⟨o4,o6,_,_,3500,84,true,by rw [eo4];rfl,(m5.sm.trans m6.sm) _ _ ho4,m6.at',fw4,Fr.tim fq gx.k (by decide),by decide,fun o7 H7 m7=>⟨(),(),D,b5,_,f4,bR x.pl (j+1),rfl,rfl,((m5.sm.trans m6.sm).trans m7.sm) _ _ hD4,(m6.sm.trans m7.sm) _ _ hb5,hk2,fun H8 c8=>⟨_,_,(),?_,(bP.step hD4 hf4 ((m5.sm.trans m6.sm).trans m7.sm) m7.at' c8).congr fun p h=>?_⟩⟩⟩⟩
     ·exact fun x o h=>c8.ol x o (nD x o h) (((m5.sm.trans m6.sm).trans m7.sm) _ _ (sg4 _ _ h))
     ·unfold eR
      rw [aS,List.append_assoc,List.append_assoc]
      unfold uO
      rw [eq']
      congr 3
      by_cases z:x.pl=p∧j+1=h
      ·rw [if_pos z,if_pos (show j+1<d.hr∧x.pl=p∧j+1=h from ⟨c2,z⟩)]
       rfl
      ·rw [if_neg z,if_neg fun y=>z y.2]
    ·unfold eR
     rw [aS,List.append_assoc]
     unfold uO
     rw [eq',if_neg (show ¬(j+1<d.hr∧x.pl=p∧j+1=h) from fun z=>c (decide_eq_true (by have:=z.1;trivial))),List.append_nil]
     rfl
   ·rintro σ G ⟨v8,v11,v12,rfl,sg,dI⟩
    refine nB _ _ ⟨_,_,_,_,(),sg,dI.congr fun p h=>?_⟩
    rw [aS,e,show rs.length=r.length from lrs,List.append_assoc]
  rintro σ J3 ⟨v8,v11,v12,v13,v14,rfl,sm,dI⟩
  refine n4 _ _ ?_
  have ft:∀p h,d6 26 (fm d.ts.length (tG d b p h)++fm d.ss.length (sG d b p h)):=fun p h=>(eC (n:=d.ts.length) (m:=16) (fun i=>mU gd gb p h i) (by trivial)).app (eC (n:=d.ss.length) (m:=10) (fun i=>sV gd gb p h i) (by trivial)) (Nat.le_refl 26)
  refine aX fun D7 n7=>⟨(),a,_,_,(),rfl,aa.of (sm _ _ Dd.ha),rfl,(),wl,bz,false,true,rfl,⟨_,aa.of (sm _ _ Dd.hw)⟩,⟨_,ah.of (sm _ _ hbz)⟩,jB (xs:=ws) (ys:=zs) (n:=d.ws.length) (fun i σ H'=>bE fun (v11 v15:Option V)=>σ=[some (.ref a),some (.ref ba),some (.ref so),some (.ref bs),some (.ref bk),some (.ref bz),some (.ref D),v7,v8,v9,v10,v11,v12,v13,v14,v15,none]∧ad H H'∧bP H' D d.pl d.hr fun p h=>fm d.ts.length (tG d b p h)++fm d.ss.length (sG d b p h)++fm i (cW d b p h)) (by trivial) ⟨_,(),sm,dI.congr fun p h=>(List.append_nil _).symm⟩ ?_ ?_ ?_⟩
  ·rintro i σ H' _ ⟨_,_,_,sm,_⟩
   exact ⟨aa.of (sm _ _ Dd.hw),ah.of (sm _ _ hbz)⟩
  ·rintro i y u Tp σ H' e1 e2 hT ⟨v11,v15,rfl,sm,dI⟩
   have st':=ad.new (o:=.tup [y,u]) hT
   have sx:=sm.trans st'
   obtain ⟨x,ex,mx,dx⟩:=cj Dd.aw e1
   have gx:=gd.ws x mx
   obtain ⟨wa,om,op_,rfl,hwa,_,_⟩:=nN dx
   have hz:i<b.dr.length:=by rw [gb.z];exact (List.getElem?_eq_some_iff.mp ex).1
   have hi:i<d.ws.length:=(List.getElem?_eq_some_iff.mp ex).1
   have eq:=List.getElem?_eq_getElem hz
   have aq:Fr 60 b.dr[i]:=(gb.zr i x _ ex eq).1
   obtain ⟨oj,rfl,hoj⟩:=iI (p:=b.dr[i]) (izs.nth i e2 (by rw [List.getElem?_map,eq];rfl))
   have e:∀p h,cW d b p h i=if x.pl=p∧x.ho=h then [b.dr[i]] else []:=fun p h=>by unfold cW;rw [ex,eq]
   obtain ⟨f,hD,hf⟩:=dI.sm st'
   obtain ⟨o,eo,ho⟩:=hf _ gx.b _ gx.h
   have hk:=iJ gx.b gx.h
   have fw:=((ft x.pl x.ho).app (eC (n:=i) (m:=5) (fun i=>pJ gb x.pl x.ho i) (by trivial)) (Nat.le_refl 31)).f35 (by decide)
   refine ⟨Tp,(),aa.of au,rfl,_,(),_,(),rfl,?_⟩
   refine ⟨(),(),(),wa,(),aa.of (sx _ _ hwa),sx _ _ hwa,fun b1 H1 m1 hb1=>⟨D,b1,_,f,bR x.pl x.ho,rfl,rfl,m1 _ _ hD,hb1,hk,(),o,oj,_,_,3500,60,true,by rw [eo];rfl,m1 _ _ ho,m1 _ _ (sx _ _ hoj),fw,aq,by decide,fun o2 H2 m2=>⟨(),(),(),wa,(),aa.of ((m1.trans m2.sm) _ _ (sx _ _ hwa)),(m1.trans m2.sm) _ _ (sx _ _ hwa),fun b3 H3 m3 hb3=>⟨D,b3,_,f,bR x.pl x.ho,rfl,rfl,((m1.trans m2.sm).trans m3) _ _ hD,hb3,hk,fun H4 c4=>⟨_,(),?_,(bP.step hD hf ((m1.trans m2.sm).trans m3) (m3 _ _ m2.at') c4).congr fun p h=>?_⟩⟩⟩⟩⟩
   ·exact fun x o h=>c4.ol x o (nD x o h) (((m1.trans m2.sm).trans m3) _ _ (sx _ _ h))
   ·unfold eR
    rw [aS,e,List.append_assoc]
    rfl
  rintro σ J4 ⟨v11,v15,rfl,sm,dI⟩
  refine n7 _ _ ?_
  have lis:=Dd.ai.length
  rw [List.length_map] at lis
  have i7:=gd.i7
  refine aX fun D8 n8=>⟨(),a,_,_,(),rfl,aa.of (sm _ _ Dd.ha),rfl,wi,rfl,⟨_,aa.of (sm _ _ Dd.hi)⟩,qD (xs:=is) (fun i σ H'=>∃(v16:Option V),σ=[some (.ref a),some (.ref ba),some (.ref so),some (.ref bs),some (.ref bk),some (.ref bz),some (.ref D),v7,v8,v9,v10,v11,v12,v13,v14,v15,v16]∧ad H H'∧bP H' D d.pl d.hr fun p h=>fm d.ts.length (tG d b p h)++fm d.ss.length (sG d b p h)++fm d.ws.length (cW d b p h)++fm i (iG d sh p h)) ⟨(),sm,dI.congr fun p h=>(List.append_nil _).symm⟩ ?_ ?_ ?_⟩
  ·rintro i σ H' _ ⟨_,_,sm,_⟩
   exact aa.of (sm _ _ Dd.hi)
  ·rintro i y σ H' e1 ⟨v16,rfl,sm,dI⟩
   obtain ⟨x,ex,mx,dx⟩:=cj Dd.ai e1
   have gx:=gd.wi x mx
   obtain ⟨wa,om,rfl,hwa,hom⟩:=zG dx
   have hi:i<d.wi.length:=(List.getElem?_eq_some_iff.mp ex).1
   have e:∀p h,iG d sh p h i=if x.pl=p∧x.ho=h then [gJ (KM.lTim sh x.am)] else []:=fun p h=>by unfold iG;rw [ex]
   obtain ⟨f,hD,hf⟩:=dI
   obtain ⟨o,eo,ho⟩:=hf _ gx.b _ gx.h
   have hk:=iJ gx.b gx.h
   have fw:=(((ft x.pl x.ho).app (eC (n:=d.ws.length) (m:=5) (fun i=>pJ gb x.pl x.ho i) (by trivial)) (Nat.le_refl 31)).app (eC (n:=i) (m:=7) (fun i=>wm gd fs x.pl x.ho i) (by trivial)) (Nat.le_refl 38)).f35 (by decide)
   have f34:Fr 34 (KM.lTim sh x.am):=Fr.tim fs gx.a (by decide)
   refine ⟨(),(),(),wa,(),aa.of (sm _ _ hwa),sm _ _ hwa,fun b1 H1 m1 hb1=>⟨D,b1,_,f,bR x.pl x.ho,rfl,rfl,m1 _ _ hD,hb1,hk,(),(),wa,_,_,(),rfl,aa.of (m1 _ _ (sm _ _ hwa)),rfl,so,om,sh,x.am,10,10,24,24,rfl,m1 _ _ (sm _ _ hso),m1 _ _ (sm _ _ hom),fs.gb,gx.a.gb,by decide,by decide,by decide,by decide,(fun z=>nomatch z),fun o6 H6 m6=>⟨(),o,o6,_,_,3500,34,false,by rw [eo];rfl,(m1.trans m6.sm) _ _ ho,m6.at',fw,f34,by decide,fun o2 H2 m2=>⟨(),(),(),wa,(),aa.of (((m1.trans m6.sm).trans m2.sm) _ _ (sm _ _ hwa)),((m1.trans m6.sm).trans m2.sm) _ _ (sm _ _ hwa),fun b3 H3 m3 hb3=>⟨D,b3,_,f,bR x.pl x.ho,rfl,rfl,(((m1.trans m6.sm).trans m2.sm).trans m3) _ _ hD,hb3,hk,fun H4 c4=>⟨(),?_,(bP.step hD hf (((m1.trans m6.sm).trans m2.sm).trans m3) (m3 _ _ m2.at') c4).congr fun p h=>?_⟩⟩⟩⟩⟩⟩
   ·exact fun x o h=>c4.ol x o (nD x o h) ((((m1.trans m6.sm).trans m2.sm).trans m3) _ _ (sm _ _ h))
   ·unfold eR
    rw [aS,e,List.append_assoc]
    rfl
  rintro σ J5 ⟨v16,rfl,sm,dI⟩
  refine n8 _ _ ⟨(),k D J5 sm hDn ?_⟩
  rw [show is.length=d.wi.length from lis] at dI
  exact dI
end
end K55
namespace K55
open PySem L2
set_option maxHeartbeats 16000000
def wS (ps:List KM.Fra):Rat:=KM.rsum (ps.map KM.vl)
theorem df (ps qs:List KM.Fra):wS (ps++qs)=wS ps+wS qs:=by
 unfold wS
 rw [List.map_append,KM.rsum_app]
theorem DO (p:KM.Fra):wS [p]=KM.vl p:=by
 show KM.vl p+0=_
 grind
theorem qG {c:Prop} [Decidable c] (p:KM.Fra):wS (if c then [p] else [])=if c then KM.vl p else 0:=by
 by_cases h:c
 ·rw [if_pos h,if_pos h,DO]
 ·rw [if_neg h,if_neg h];rfl
theorem zd {p:KM.Fra} (h:KM.Rd p):KM.vl (gJ p)=- KM.vl p:=by
 show Rat.divInt (-p.1) p.2=- Rat.divInt p.1 p.2
 rw [Rat.neg_divInt]
theorem Cg {p:KM.Fra} (h:p.1=0):KM.vl p=0:=by
 show Rat.divInt p.1 p.2=0
 rw [h,Rat.zero_divInt]
theorem xL (f g:Nat→List KM.Fra):∀n,wS (fm n fun t=>f t++g t)=wS (fm n f)+wS (fm n g)
 | 0=>by show (0:Rat)=0+0;grind
 | n+1=>by
  rw [aS,aS,aS,df,df,df,df,xL f g n]
  grind
theorem uq {k h:Nat}{g:Nat→List KM.Fra} (hg:∀t,t+k≠h→g t=[]):∀n,wS (fm n g)=if k≤h∧h - k<n then wS (g (h - k)) else 0
 | 0=>by rw [if_neg (by trivial)];rfl
 | n+1=>by
  rw [aS,df,uq hg n]
  by_cases e:n+k=h
  ·rw [if_neg (by trivial),if_pos (by trivial),show h - k=n by trivial]
   grind
  ·rw [hg n e]
   show _+(0:Rat)=_
   by_cases c:k≤h∧h - k<n
   ·rw [if_pos c,if_pos (by trivial)];grind
   ·rw [if_neg c,if_neg (by trivial)];grind
theorem ux:∀(n:Nat) {f g k:Nat→List KM.Fra},(∀i,i<n→wS (f i)=wS (g i) - wS (k i))→wS (fm n f)=wS (fm n g) - wS (fm n k)
 | 0,_,_,_,_=>by show (0:Rat)=0 - 0;grind
 | n+1,f,g,k,h=>by
  rw [aS,aS,aS,df,df,df,ux n fun i hi=>h i (by trivial),h n (by trivial)]
  grind
theorem xH (c:Rat):∀(n:Nat) {f g:Nat→List KM.Fra},(∀i,i<n→wS (f i)=c*wS (g i))→wS (fm n f)=c*wS (fm n g)
 | 0,_,_,_=>by show (0:Rat)=c*0;grind
 | n+1,f,g,h=>by
  rw [aS,aS,df,df,xH c n fun i hi=>h i (by trivial),h n (by trivial)]
  grind
theorem Be {r:List KM.Fra} (rr:∀t,KM.Rd (bn r t)) {g:KM.Fra} (rg:KM.Rd g) {A B:Prop} [Decidable A] [Decidable B] {hr h la:Nat} (hh:h<hr) (lr:r.length=hr) (z:Nat→Prop) [∀t,Decidable (z t)] (hz:∀t,¬z t→(bn r t).1=0) :
 wS (fm r.length fun t=>(if A∧t=h then [gJ (bn r t)] else [])++(if (z t∧t+la<hr)∧B∧t+la=h then [KM.lTim (bn r t) g] else []))=wS (if B∧la≤h then [KM.lTim (bn r (h - la)) g] else []) - wS (if A then [bn r h] else []):=by
 rw [xL,uq (k:=0) (h:=h) (g:=fun t=>if A∧t=h then [gJ (bn r t)] else []) (fun t e=>if_neg fun z=>e (by trivial)),uq (k:=la) (h:=h) (g:=fun t=>if (z t∧t+la<hr)∧B∧t+la=h then [KM.lTim (bn r t) g] else []) (fun t e=>if_neg fun z=>e z.2.2),lr]
 rw [if_pos (show 0≤h∧h - 0<hr by trivial)]
 have e1:wS (if A∧h - 0=h then [gJ (bn r (h - 0))] else [])=- wS (if A then [bn r h] else []):=by
  rw [qG,qG]
  by_cases a:A
  ·rw [if_pos ⟨a,rfl⟩,if_pos a];exact zd (rr h)
  ·rw [if_neg fun z=>a z.1,if_neg a];grind
 have e2:(if la≤h∧h - la<hr then wS (if (z (h - la)∧h - la+la<hr)∧B∧h - la+la=h then [KM.lTim (bn r (h - la)) g] else []) else 0)=wS (if B∧la≤h then [KM.lTim (bn r (h - la)) g] else []):=by
  by_cases l:la≤h
  ·rw [if_pos ⟨l,by trivial⟩,qG,qG]
   by_cases b:B
   ·rw [if_pos (show B∧la≤h from ⟨b,l⟩)]
    by_cases y:z (h - la)
    ·rw [if_pos ⟨⟨y,by trivial⟩,b,by trivial⟩]
    ·rw [if_neg fun q=>y q.1.1,KM.vl_tim (rr _).nz rg.nz,Cg (hz _ y)];grind
   ·rw [if_neg fun q=>b q.2.1,if_neg fun q=>b q.1]
  ·rw [if_neg fun q=>l q.1,if_neg fun q=>l q.2]
   rfl
 rw [e1,e2]
 grind
theorem pX {n:Nat}{ps:List KM.Fra} (h:d6 n ps):∀p∈ps,KM.Rd p:=fun p hp=>(h.1 p hp).rd
theorem sM {c:Prop} [Decidable c] {q:KM.Fra} (h:KM.Rd q):∀p∈(if c then [q] else []),KM.Rd p:=fun p hp=>by
 by_cases e:c
 ·rw [if_pos e] at hp;rw [List.mem_singleton.mp hp];exact h
 ·rw [if_neg e] at hp;cases hp
theorem nR {r:List KM.Fra} (h:∀p∈r,KM.Rd p) (t:Nat):KM.Rd (bn r t):=by
 unfold bn
 cases e:r[t]? with
 | none=>exact KM.Rd.zero
 | some p=>exact h p (List.mem_of_getElem? e)
theorem jO {n:Nat}{g:Nat→List KM.Fra} (h:∀i,∀p∈g i,KM.Rd p):∀p∈fm n g,KM.Rd p:=fun p hp=>by
 obtain ⟨i,_,hp⟩:=dO hp
 exact h i p hp
theorem ng {xs ys:List KM.Fra} (h:∀p∈xs,KM.Rd p) (g:∀p∈ys,KM.Rd p):∀p∈xs++ys,KM.Rd p:=fun p hp=>(List.mem_append.mp hp).elim (h p) (g p)
theorem xp {d:aC}{b:bo}{sh:KM.Fra} (gd:b7 d) (gb:GB 60 60 d b) (fs:Fr 10 sh) (p:List Nat) {h:Nat} (hh:h<d.hr):oS d b sh p h=KM.sumF (ko d b sh p h):=by
 have rs:KM.Rd sh:=fs.rd
 have rcT:∀i,∀q∈cT d b p h i,KM.Rd q:=fun i q hq=>by
  unfold cT at hq
  cases ex:d.ts[i]? with
  | none=>rw [ex] at hq;cases hq
  | some x=>
   obtain ⟨r,er,_,f⟩:=gb.row ex
   rw [ex,er] at hq
   exact sM (KM.Rd.tim (nR (fun q hq=>(f q hq).rd) _) (gd.ts x (List.mem_of_getElem? ex)).g.rd) q hq
 have rcS:∀i,∀q∈cS d b p h i,KM.Rd q:=fun i q hq=>by
  unfold cS at hq
  cases ex:d.ss[i]? with
  | none=>rw [ex] at hq;cases hq
  | some x=>
   obtain ⟨r,er,_,f⟩:=gb.rowK ex
   rw [ex,er] at hq
   exact sM (KM.Rd.tim (nR (fun q hq=>(f q hq).rd) _) (gd.ss x (List.mem_of_getElem? ex)).k.rd) q hq
 have rgT:∀i,∀q∈gT d b p h i,KM.Rd q:=fun i q hq=>by
  unfold gT at hq
  cases ex:d.ts[i]? with
  | none=>rw [ex] at hq;cases hq
  | some x=>
   obtain ⟨r,er,_,f⟩:=gb.row ex
   rw [ex,er] at hq
   exact sM (nR (fun q hq=>(f q hq).rd) _) q hq
 have rgS:∀i,∀q∈gS d b p h i,KM.Rd q:=fun i q hq=>by
  unfold gS at hq
  cases ex:d.ss[i]? with
  | none=>rw [ex] at hq;cases hq
  | some x=>
   obtain ⟨r,er,_,f⟩:=gb.rowK ex
   rw [ex,er] at hq
   exact sM (nR (fun q hq=>(f q hq).rd) _) q hq
 have rwI:∀i,∀q∈wI d p h i,KM.Rd q:=fun i q hq=>by
  unfold wI at hq
  cases ex:d.wi[i]? with
  | none=>rw [ex] at hq;cases hq
  | some x=>
   rw [ex] at hq
   exact sM (gd.wi x (List.mem_of_getElem? ex)).a.rd q hq
 obtain ⟨c1,c2⟩:=KM.sumF_vl (ps:=rH d b p h) (ng (ng (jO fun i=>pX (pJ gb p h i)) (jO rcT)) (jO rcS))
 obtain ⟨g1,g2⟩:=KM.sumF_vl (ps:=vZ d b p h) (ng (jO rgT) (jO rgS))
 obtain ⟨w1,w2⟩:=KM.sumF_vl (ps:=uQ d p h) (jO rwI)
 obtain ⟨a1,a2⟩:=KM.sumF_vl (ps:=ko d b sh p h) (ng (ng (ng (jO fun i=>pX (mU gd gb p h i)) (jO fun i=>pX (sV gd gb p h i))) (jO fun i=>pX (pJ gb p h i))) (jO fun i=>pX (wm gd fs p h i)))
 have cg:=c1.tak g1
 have sw:=rs.tim w1
 refine (cg.tak sw).eq a1 ?_
 show KM.vl (KM.lTak (KM.lTak (KM.sumF (rH d b p h)) (KM.sumF (vZ d b p h))) (KM.lTim sh (KM.sumF (uQ d p h))))=_
 rw [KM.vl_tak cg.nz sw.nz,KM.vl_tak c1.nz g1.nz,KM.vl_tim rs.nz w1.nz,c2,g2,w2,a2]
 show wS (rH d b p h) - wS (vZ d b p h) - KM.vl sh*wS (uQ d p h)=wS (ko d b sh p h)
 unfold rH vZ uQ ko
 rw [df,df,df,df,df,df]
 have eT:wS (fm d.ts.length (tG d b p h))=wS (fm d.ts.length (cT d b p h)) - wS (fm d.ts.length (gT d b p h)):=ux _ fun i hi=>by
  have ex:=List.getElem?_eq_getElem hi
  obtain ⟨r,er,lr,f⟩:=gb.row ex
  unfold tG cT gT
  rw [ex,er]
  exact Be (nR fun q hq=>(f q hq).rd) (gd.ts _ (List.getElem_mem hi)).g.rd hh lr (fun t=>¬(bn r t).1=0) fun t=>Classical.not_not.mp
 have eS:wS (fm d.ss.length (sG d b p h))=wS (fm d.ss.length (cS d b p h)) - wS (fm d.ss.length (gS d b p h)):=ux _ fun i hi=>by
  have ex:=List.getElem?_eq_getElem hi
  obtain ⟨r,er,lr,f⟩:=gb.rowK ex
  unfold sG cS gS
  rw [ex,er]
  have q:=Be (A:=d.ss[i].pl=p) (B:=d.ss[i].pl=p) (la:=1) (nR fun q hq=>(f q hq).rd) (gd.ss _ (List.getElem_mem hi)).k.rd hh lr (fun t=>True) fun t c=>absurd trivial c
  simp only [true_and] at q
  exact q
 have eI:wS (fm d.wi.length (iG d sh p h))=(- KM.vl sh)*wS (fm d.wi.length (wI d p h)):=xH _ _ fun i hi=>by
  have ex:=List.getElem?_eq_getElem hi
  have ra:=(gd.wi _ (List.getElem_mem hi)).a.rd
  unfold iG wI
  rw [ex]
  show wS (if _ then _ else _)=_*wS (if _ then _ else _)
  rw [qG,qG]
  by_cases c:d.wi[i].pl=p∧d.wi[i].ho=h
  ·rw [if_pos c,if_pos c,zd (rs.tim ra),KM.vl_tim rs.nz ra.nz];grind
  ·rw [if_neg c,if_neg c];grind
 rw [eT,eS,eI]
 grind
end K55
namespace K55
open PySem L2
set_option maxHeartbeats 16000000
theorem d8 {α:Type}{f:α→PyData}{z m k:Nat}:∀{xs:List α},(∀x∈xs,Wv z (f x) m k)→eZ z (xs.map f) (m*xs.length) k
 | [],_=>.nil
 | x :: xs,h=>.cons (h x (List.mem_cons_self ..)) (d8 fun y hy=>h y (List.mem_cons_of_mem _ hy)) (by rw [List.length_cons,Nat.mul_succ];trivial)
theorem eZ.up {z:Nat}:∀{ds:List PyData}{n k n' k':Nat},eZ z ds n k→n≤n'→k≤k'→eZ z ds n' k'
 | _,_,_,_,_,.nil,_,_=>.nil
 | _,_,_,_,_,.cons h r l,hn,hk=>.cons (h.up (Nat.le_refl _) hk) (eZ.up r (Nat.le_refl _) hk) (by trivial)
theorem jP {p:KM.Fra}{a b:Nat} (h:Gb a b p) (ha:a≤1900) (hb:b≤1900):Wv 1900 (bJ p) 3 1:=.tuple (m:=2) (l:=0) (.cons (m:=1) (l:=1) (.int (h.n.mono ha) (Nat.le_refl 1)) (.cons (m:=1) (l:=0) (.int (h.d.mono hb) (Nat.le_refl 1)) .nil (by decide)) (by decide)) (by decide) (by decide)
theorem nL {l:List Nat} (h:qE l):Wv 1900 (.str (S l)) 1 0:=.str (zj h) (Nat.le_refl 1)
theorem tJ {i k:Nat} (h:i≤100):Wv 1900 (.int (i:Int)) 1 k:=.int (show (i:Int).natAbs<2 ^ 1900 from Nat.lt_of_lt_of_le (show (i:Int).natAbs<2 ^ 7 by trivial) (Nat.pow_le_pow_right (by decide) (by decide))) (Nat.le_refl 1)
theorem Ea {d:aC}{x:eV} (gd:b7 d) (h:mN d x):Wv 1900 (qx x) 22 2:=by
 have hop:Wv 1900 (.tuple (x.op.map .int)) 9 1:=.tuple (m:=8) (l:=0) (eZ.up (d8 (m:=1) (k:=0) (f:=PyData.int) fun i hi=>.int (show i.natAbs<2 ^ 1900 by
  have:=h.ob i hi
  exact Nat.lt_of_lt_of_le (show i.natAbs<2 ^ 3 by trivial) (Nat.pow_le_pow_right (by decide) (by decide))) (Nat.le_refl 1)) (by have:=h.ol;trivial) (Nat.le_refl _)) (by decide) (by decide)
 exact .tuple (m:=21) (l:=1) (.cons (m:=1) (l:=20) ((nL (gd.nm _ h.b)).up (by decide) (by decide)) (.cons (m:=1) (l:=19) ((nL (gd.nm _ h.e)).up (by decide) (by decide)) (.cons (m:=3) (l:=16) (jP h.m.gb (by decide) (by decide)) (.cons (m:=3) (l:=13) (jP h.g.gb (by decide) (by decide)) (.cons (m:=3) (l:=10) (jP h.p.gb (by decide) (by decide)) (.cons (m:=1) (l:=9) (tJ h.l) (.cons (m:=9) (l:=0) hop .nil (by decide)) (by decide)) (by decide)) (by decide)) (by decide)) (by decide)) (by decide)) (by decide) (by decide)
theorem EI {d:aC}{x:iU} (gd:b7 d) (h:rQ d x):Wv 1900 (vc x) 8 2:=
 .tuple (m:=7) (l:=1) (.cons (m:=1) (l:=6) ((nL (gd.nm _ h.b)).up (by decide) (by decide)) (.cons (m:=3) (l:=3) (jP h.m.gb (by decide) (by decide)) (.cons (m:=3) (l:=0) (jP h.k.gb (by decide) (by decide)) .nil (by decide)) (by decide)) (by decide)) (by decide) (by decide)
theorem Eo {d:aC}{x:lG} (gd:b7 d) (h:tN d x):Wv 1900 (wH x) 9 2:=
 .tuple (m:=8) (l:=1) (.cons (m:=1) (l:=7) ((nL (gd.nm _ h.b)).up (by decide) (by decide)) (.cons (m:=1) (l:=6) (tJ (by have:=h.h;have:=gd.l8;trivial)) (.cons (m:=3) (l:=3) (jP h.m.gb (by decide) (by decide)) (.cons (m:=3) (l:=0) (jP h.p.gb (by decide) (by decide)) .nil (by decide)) (by decide)) (by decide)) (by decide)) (by decide) (by decide)
theorem C9 {d:aC}{x:mO} (gd:b7 d) (h:um d x):Wv 1900 (vX x) 6 2:=
 .tuple (m:=5) (l:=1) (.cons (m:=1) (l:=4) ((nL (gd.nm _ h.b)).up (by decide) (by decide)) (.cons (m:=1) (l:=3) (tJ (by have:=h.h;have:=gd.l8;trivial)) (.cons (m:=3) (l:=0) (jP h.a.gb (by decide) (by decide)) .nil (by decide)) (by decide)) (by decide)) (by decide) (by decide)
theorem Di {d:aC} (gd:b7 d):Wv 1900 (eH d) 320 4:=by
 have a1:Wv 1900 (.tuple (d.pl.map fun l=>.str (S l))) 6 3:=.tuple (m:=5) (l:=2) (eZ.up (d8 (m:=1) (k:=0) fun l hl=>nL (gd.nm l hl)) (by have:=gd.p5;trivial) (by decide)) (by decide) (by decide)
 have a2:Wv 1900 (.tuple (d.ts.map qx)) 177 3:=.tuple (m:=176) (l:=2) (eZ.up (d8 fun x hx=>Ea gd (gd.ts x hx)) (by have:=gd.t8;trivial) (by decide)) (by decide) (by decide)
 have a3:Wv 1900 (.tuple (d.ss.map vc)) 41 3:=.tuple (m:=40) (l:=2) (eZ.up (d8 fun x hx=>EI gd (gd.ss x hx)) (by have:=gd.s5;trivial) (by decide)) (by decide) (by decide)
 have a4:Wv 1900 (.tuple (d.ws.map wH)) 46 3:=.tuple (m:=45) (l:=2) (eZ.up (d8 fun x hx=>Eo gd (gd.ws x hx)) (by have:=gd.w5;trivial) (by decide)) (by decide) (by decide)
 have a5:Wv 1900 (.tuple (d.wi.map vX)) 43 3:=.tuple (m:=42) (l:=2) (eZ.up (d8 fun x hx=>C9 gd (gd.wi x hx)) (by have:=gd.i7;trivial) (by decide)) (by decide) (by decide)
 exact .tuple (m:=319) (l:=3) (.cons (m:=6) (l:=313) a1 (.cons (m:=1) (l:=312) (tJ (by have:=gd.l8;trivial)) (.cons (m:=177) (l:=135) a2 (.cons (m:=41) (l:=94) a3 (.cons (m:=46) (l:=48) a4 (.cons (m:=43) (l:=0) a5 .nil (by decide)) (by decide)) (by decide)) (by decide)) (by decide)) (by decide)) (by decide) (by decide)
theorem GB.rowA {a e:Nat}{d:aC}{b:bo} (g:GB a e d b):∀r∈b.se,r.length=d.hr∧∀p∈r,Gb a e p:=fun r hr=>by
 obtain ⟨i,hi⟩:=List.mem_iff_getElem?.mp hr
 have hl:i<d.ts.length:=by rw [←g.s];exact (List.getElem?_eq_some_iff.mp hi).1
 obtain ⟨l,f⟩:=g.sr i _ r (List.getElem?_eq_getElem hl) hi
 exact ⟨l,fun p hp=>by obtain ⟨j,hj⟩:=List.mem_iff_getElem?.mp hp;exact (f j p hj).2.2.2⟩
theorem GB.rowB {a e:Nat}{d:aC}{b:bo} (g:GB a e d b):∀r∈b.ke,r.length=d.hr∧∀p∈r,Gb a e p:=fun r hr=>by
 obtain ⟨i,hi⟩:=List.mem_iff_getElem?.mp hr
 have hl:i<d.ss.length:=by rw [←g.k];exact (List.getElem?_eq_some_iff.mp hi).1
 obtain ⟨l,f⟩:=g.kr i _ r (List.getElem?_eq_getElem hl) hi
 exact ⟨l,fun p hp=>by obtain ⟨j,hj⟩:=List.mem_iff_getElem?.mp hp;exact (f j p hj).2.2.2⟩
theorem GB.drA {a e:Nat}{d:aC}{b:bo} (g:GB a e d b):∀p∈b.dr,Gb a e p:=fun p hp=>by
 obtain ⟨i,hi⟩:=List.mem_iff_getElem?.mp hp
 have hl:i<d.ws.length:=by rw [←g.z];exact (List.getElem?_eq_some_iff.mp hi).1
 exact (g.zr i _ p (List.getElem?_eq_getElem hl) hi).2.2.2
theorem zn {r:List KM.Fra} (l:r.length≤8) (h:∀p∈r,Gb 29 14 p):Wv 1900 (bA r) 25 2:=.list (m:=24) (l:=1) (eZ.up (d8 fun p hp=>jP (h p hp) (by decide) (by decide)) (by trivial) (by decide)) (by decide) (by decide)
theorem BB {d:aC}{b:bo} (gd:b7 d) (g:GB 29 14 d b):Wv 1900 (iW b) 344 4:=by
 have l8:=gd.l8
 have a1:Wv 1900 (.list (b.se.map bA)) 201 3:=.list (m:=200) (l:=2) (eZ.up (d8 fun r hr=>zn (by rw [(g.rowA r hr).1];trivial) (g.rowA r hr).2) (by have:=gd.t8;have:=g.s;trivial) (by decide)) (by decide) (by decide)
 have a2:Wv 1900 (.list (b.ke.map bA)) 126 3:=.list (m:=125) (l:=2) (eZ.up (d8 fun r hr=>zn (by rw [(g.rowB r hr).1];trivial) (g.rowB r hr).2) (by have:=gd.s5;have:=g.k;trivial) (by decide)) (by decide) (by decide)
 have a3:Wv 1900 (.list (b.dr.map bJ)) 16 2:=.list (m:=15) (l:=1) (eZ.up (d8 fun p hp=>jP (g.drA p hp) (by decide) (by decide)) (by have:=gd.w5;have:=g.z;trivial) (by decide)) (by decide) (by decide)
 exact .tuple (m:=343) (l:=3) (.cons (m:=201) (l:=142) a1 (.cons (m:=126) (l:=16) a2 (.cons (m:=16) (l:=0) (a3.up (by decide) (by decide)) .nil (by decide)) (by decide)) (by decide)) (by decide) (by decide)
theorem BV {d:aC}{b:bo} (gd:b7 d) (g:GB 29 14 d b):∃m,m≤1000∧Wt (.tuple [eH d,iW b]) m 5:=by
 have h:Wv 1900 (.tuple [eH d,iW b]) 1000 5:=.tuple (m:=999) (l:=4) (.cons (m:=320) (l:=344) (Di gd) (.cons (m:=344) (l:=0) (BB gd g) .nil (by decide)) (by decide)) (by decide) (by decide)
 exact h.wt (Nat.le_refl _)
theorem Bw {p:KM.Fra}{a b:Nat} (h:Gb a b p) (ha:a≤1900) (hb:b≤1900):Wt (bJ p) 3 1:=.tuple (.cons (.int (h.n.mono ha)) (.cons (.int (h.d.mono hb)) .nil))
theorem EM {a b:Nat}:∀{ps:List KM.Fra},(∀p∈ps,Gb a b p)→Gb (a+(b+1)*ps.length+1) (b*ps.length+1) (KM.sumF ps):=by
 intro ps
 induction ps using xN with
 | h0=>intro _;exact ⟨show (0:Int).natAbs<2 ^ _ from Nat.pow_pos (by decide),show (1:Int).natAbs<2 ^ (0+1) from by decide,by decide⟩
 | h1 ps p ih=>
  intro h
  rw [ij]
  have e1:(b+1)*(ps++[p]).length=(b+1)*ps.length+(b+1):=by rw [List.length_append];exact Nat.mul_succ _ _
  have e2:b*(ps++[p]).length=b*ps.length+b:=by rw [List.length_append];exact Nat.mul_succ _ _
  have e3:(b+1)*ps.length=b*ps.length+ps.length:=Nat.succ_mul _ _
  exact (ih fun q hq=>h q (List.mem_append_left _ hq)).add (h p (by simp)) (by trivial) (by trivial) (by trivial)
theorem xl {a b n:Nat}{ps:List KM.Fra} (h:∀p∈ps,Gb a b p) (l:ps.length≤n):Gb (a+(b+1)*n+1) (b*n+1) (KM.sumF ps):=by
 have:=Nat.mul_le_mul_left (b+1) l
 have:=Nat.mul_le_mul_left b l
 exact (EM h).mono (by trivial) (by trivial)
theorem nK {P:KM.Fra→Prop}{c:Prop} [Decidable c] {q:KM.Fra} (h:P q):∀p∈(if c then [q] else []),P p:=fun p hp=>by
 by_cases e:c
 ·rw [if_pos e] at hp;rw [List.mem_singleton.mp hp];exact h
 ·rw [if_neg e] at hp;cases hp
theorem zM {a b:Nat}{r:List KM.Fra} (h:∀p∈r,Gb a b p) (hb:1≤b) (t:Nat):Gb a b (bn r t):=by
 unfold bn
 cases e:r[t]? with
 | none=>exact ⟨show (0:Int).natAbs<2 ^ _ from Nat.pow_pos (by decide),show (1:Int).natAbs<2 ^ b from Nat.one_lt_two_pow (by trivial),by decide⟩
 | some p=>exact h p (List.mem_of_getElem? e)
theorem wJ {a b:Nat}{p:KM.Fra} (h:Gb a b p):Gb a b (gJ p):=⟨by show (-p.1).natAbs<_;rw [Int.natAbs_neg];exact h.n,h.d,h.pos⟩
theorem CC {d:aC}{b:bo}{sh:KM.Fra} (gd:b7 d) (gb:GB 29 14 d b) (fs:Fr 10 sh) (p:List Nat) (h:Nat):∀q∈ko d b sh p h,Gb 53 38 q:=fun q hq=>by
 rcases List.mem_append.mp hq with hq | hq
 ·rcases List.mem_append.mp hq with hq | hq
  ·rcases List.mem_append.mp hq with hq | hq
   ·obtain ⟨i,_,hq⟩:=dO hq
    unfold tG at hq
    cases ex:d.ts[i]? with
    | none=>rw [ex] at hq;cases hq
    | some x=>
     cases er:b.se[i]? with
     | none=>rw [ex,er] at hq;cases hq
     | some r=>
      rw [ex,er] at hq
      obtain ⟨t,_,hq⟩:=dO hq
      have z:=zM (gb.rowA r (List.mem_of_getElem? er)).2 (by decide) t
      rcases List.mem_append.mp hq with hq | hq
      ·exact nK (P:=Gb 53 38) ((wJ z).mono (by decide) (by decide)) q hq
      ·exact nK (P:=Gb 53 38) (z.tim (gd.ts x (List.mem_of_getElem? ex)).g.gb (by decide) (by decide)) q hq
   ·obtain ⟨i,_,hq⟩:=dO hq
    unfold sG at hq
    cases ex:d.ss[i]? with
    | none=>rw [ex] at hq;cases hq
    | some x=>
     cases er:b.ke[i]? with
     | none=>rw [ex,er] at hq;cases hq
     | some r=>
      rw [ex,er] at hq
      obtain ⟨t,_,hq⟩:=dO hq
      have z:=zM (gb.rowB r (List.mem_of_getElem? er)).2 (by decide) t
      rcases List.mem_append.mp hq with hq | hq
      ·exact nK (P:=Gb 53 38) ((wJ z).mono (by decide) (by decide)) q hq
      ·exact nK (P:=Gb 53 38) (z.tim (gd.ss x (List.mem_of_getElem? ex)).k.gb (by decide) (by decide)) q hq
  ·obtain ⟨i,_,hq⟩:=dO hq
   unfold cW at hq
   cases ex:d.ws[i]? with
   | none=>rw [ex] at hq;cases hq
   | some x=>
    cases er:b.dr[i]? with
    | none=>rw [ex,er] at hq;cases hq
    | some r=>
     rw [ex,er] at hq
     exact nK (P:=Gb 53 38) ((gb.drA r (List.mem_of_getElem? er)).mono (by decide) (by decide)) q hq
 ·obtain ⟨i,_,hq⟩:=dO hq
  unfold iG at hq
  cases ex:d.wi[i]? with
  | none=>rw [ex] at hq;cases hq
  | some x=>
   rw [ex] at hq
   exact nK (P:=Gb 53 38) (wJ (fs.gb.tim (gd.wi x (List.mem_of_getElem? ex)).a.gb (by decide) (by decide))) q hq
theorem AG {d:aC}{b:bo}{sh:KM.Fra} (gd:b7 d) (gb:GB 60 60 d b) (fs:Fr 10 sh) (p:List Nat) (h:Nat):d6 38 (ko d b sh p h):=by
 have:=gd.t8
 have:=gd.s5
 have:=gd.w5
 have:=gd.i7
 exact (((eC (n:=d.ts.length) (m:=16) (fun i=>mU gd gb p h i) (by trivial)).app (eC (n:=d.ss.length) (m:=10) (fun i=>sV gd gb p h i) (by trivial)) (Nat.le_refl 26)).app (eC (n:=d.ws.length) (m:=5) (fun i=>pJ gb p h i) (by trivial)) (Nat.le_refl 31)).app (eC (n:=d.wi.length) (m:=7) (fun i=>wm gd fs p h i) (by trivial)) (Nat.le_refl 38)
theorem E4 {d:aC}{b:bo}{sh:KM.Fra} (gd:b7 d) (gb:GB 29 14 d b) (fs:Fr 10 sh) (p:List Nat) (h:Nat):Wt (bJ (KM.sumF (ko d b sh p h))) 3 1:=
 Bw (xl (n:=38) (CC gd gb fs p h) (AG gd (gb.mono (by decide) (by decide)) fs p h).2) (by decide) (by decide)
theorem wN {k:Nat}{g:Nat→List KM.Fra}:∀{n:Nat},(∀i,i<n→(g i).length≤k)→(fm n g).length≤k*n
 | 0,_=>Nat.zero_le _
 | n+1,h=>by
  rw [aS,List.length_append,Nat.mul_succ]
  have:=wN (n:=n) fun i hi=>h i (by trivial)
  have:=h n (by trivial)
  trivial
theorem AU {d:aC}{b:bo} (gd:b7 d) (gb:GB 29 14 d b):Wt (bJ (KM.sumF (ve d b))) 3 1:=by
 have h:∀q∈ve d b,Gb 36 21 q:=fun q hq=>by
  rcases List.mem_append.mp hq with hq | hq
  ·obtain ⟨i,_,hq⟩:=dO hq
   unfold lT at hq
   cases ex:d.ts[i]? with
   | none=>rw [ex] at hq;cases hq
   | some x=>
    cases er:b.se[i]? with
    | none=>rw [ex,er] at hq;cases hq
    | some r=>
     rw [ex,er] at hq
     obtain ⟨t,ht,rfl⟩:=List.mem_map.mp hq
     exact ((gb.rowA r (List.mem_of_getElem? er)).2 t ht).tim (gd.ts x (List.mem_of_getElem? ex)).p.gb (by decide) (by decide)
  ·obtain ⟨i,_,hq⟩:=dO hq
   unfold lW at hq
   cases ex:d.ws[i]? with
   | none=>rw [ex] at hq;cases hq
   | some x=>
    cases er:b.dr[i]? with
    | none=>rw [ex,er] at hq;cases hq
    | some r=>
     rw [ex,er] at hq
     rw [List.mem_singleton.mp hq]
     exact (gb.drA r (List.mem_of_getElem? er)).tim (gd.ws x (List.mem_of_getElem? ex)).p.gb (by decide) (by decide)
 have l1:(fm d.ts.length (lT d b)).length≤8*d.ts.length:=wN fun i hi=>by
  unfold lT
  rw [List.getElem?_eq_getElem hi]
  cases er:b.se[i]? with
  | none=>exact Nat.zero_le _
  | some r=>
   have:=(gb.rowA r (List.mem_of_getElem? er)).1
   have:=gd.l8
   show (r.map _).length≤8
   rw [List.length_map]
   trivial
 have l2:(fm d.ws.length (lW d b)).length≤1*d.ws.length:=wN fun i hi=>by
  unfold lW
  rw [List.getElem?_eq_getElem hi]
  cases er:b.dr[i]? with
  | none=>exact Nat.zero_le _
  | some r=>exact Nat.le_refl 1
 have:=gd.t8
 have:=gd.w5
 exact Bw (xl (n:=69) h (by show (fm _ _++fm _ _).length≤69;rw [List.length_append];trivial)) (by decide) (by decide)
end K55
namespace K55
open PySem L2
set_option maxHeartbeats 16000000
section
variable {P:Program}{w:World}{K:PySem.W.Frag}{mg:Str→Option Value}{base:Heap}
theorem Hv (n d:Int):decide (rP (n*1) (0*d)≥0)=decide (0≤n):=by
 unfold rP
 rw [Int.mul_one,Int.zero_mul]
 by_cases h:n<0
 ·rw [if_pos h,decide_eq_false (show ¬0≤n by trivial)];rfl
 ·rw [if_neg h]
  by_cases h':0<n
  ·rw [if_pos h',decide_eq_true (show 0≤n by trivial)];rfl
  ·rw [if_neg h',decide_eq_true (show 0≤n by trivial)];rfl
def pb (d:aC) (b:bo) (sh:KM.Fra) (p:List Nat):List Bool:=(List.range d.hr).map fun h=>decide (0≤(oS d b sh p h).1)
def hU (d:aC) (b:bo) (sh:KM.Fra) (ls:List (List Nat)):List Bool:=ls.flatMap (pb d b sh)
theorem u7 (d:aC) (b:bo) (sh:KM.Fra):∀(ls:List (List Nat)),(hU d b sh ls).length=d.hr*ls.length
 | []=>rfl
 | l :: ls=>by
  show (pb d b sh l++hU d b sh ls).length=_
  rw [List.length_append,u7 d b sh ls,List.length_cons,Nat.mul_succ]
  unfold pb
  rw [List.length_map,List.length_range]
  trivial
inductive CB (vs:List V) (H:Hp) (Q:VK):Prop
 | mk (dv bv:V) (so:Addr) (d:aC) (b:bo) (E:Addr→Prop) (sh:KM.Fra) (h0:vs=[dv,bv,.ref so]) (h1:aJ ED H dv (eH d)) (h2:aJ E H bv (iW b)) (h3:b7 d) (h4:GB 60 60 d b) (h5:H so=some (fr sh)) (h6:Fr 10 sh) (h7:∀H',ad H H'→Q (.bl ((hU d b sh d.pl).all id)) H')
def Dn:Sp:=fun vs H Q _=>CB  vs H Q
theorem yf (T:Txt K mg):aY P w K mg base CX0 8 T.adds_up_.f T.adds_up_.d ["day", "book", "share"] Dn:=by
 have G_is_fraction:=#[(nG)]
 have G_is_book:=#[(tM)]
 have G_compared:=#[(rA)]
 have G_hour_sum:=#[(qg)]
 refine T.adds_up_.F.ok yl (fun vs H Q E h=>?_) (fun cdv A outer s H vs Q E hr h=>?_)
 ·obtain ⟨dv,bv,so,d,b,E,sh,rfl,_⟩:=h
  rfl
 ·obtain ⟨dv,bv,so,d,b,E1,sh,rfl,hd,hb,gd,gb,hso,fs,k⟩:=h
  refine ⟨_,#[#[bH 8 #[PW.pt 3 #[me 7 #[gj 4 #[dz 3 #[G_is_fraction,mZ,T.is_fraction_,#[[#[2,(tD)]]]] (by intro _;rfl)]] #[kh 4 #[gj 4 #[dz 3 #[G_is_book,qS,T.is_book_,#[[#[0,(oR)],#[1,(uf)]]]] (by intro _;rfl)]]]]] #[ac 3 #[aB 4 #[gv 4]]] (@bc _)] :: #[ac 3 #[aB 4 #[(),(),(@vK _ (K) rfl (by rfl)),vo,T.b_all,(@kO),#[[#[Aq 10 (["place", "hour", "book", "day", "share"]) (2) ([1,0,2]) _ _ _ _ _ _ _ rfl (by kernel_rfl) (@dD _ (K) _ _ _ #[#[0,(oR)][#[()]]] (by rfl)) (fun _ _ _ _ _ _=>#[0,(),()]) (fun _ _ _ _ _ _=>@bd _) (fun _ _ _ _ _ _=>#[bG 6 (by show _=_;kernel_rfl) T.b_range #[[#[#[3,0][#[()]]]]] (by rfl)]) (fun _ _ _ _ _ _=>#[1,(),()]) (fun _ _ _ _ _ _=>@bd _) (fun _ _ _ _ _ _=>#[bO 8 (@tH _) #[G_compared,(),T.compared_,#[[#[G_hour_sum,(),T.hour_sum_,#[[#[3,0],#[2,0],#[0,()],#[1,()],#[4,0]]]],#[aD 5 #[[#[()],#[()]]]]]]] #[()] #[(),()]]) (by intro _;rfl) (by intro _ _;rfl)]]]]]]],?_⟩
  obtain ⟨a,pp,tt,st,wl,wi,ts,ss,ws,is,Dd⟩:=dB hd
  cases Dd.ev
  have h8:=gd.l8
  have p5:=gd.p5
  refine aX fun D0 n0=>⟨(),so,sh,rfl,hso,fs.rd,(),ce ⟨(),(),_,_,d,b,E1,rfl,hd,hb,gd,gb,fun H1 s1=>⟨(),ce (n0 _ _ ?_)⟩⟩⟩
  refine ⟨(),a,_,_,(),rfl,aa.of (s1 _ _ Dd.ha),rfl,pp,rfl,⟨_,aa.of (s1 _ _ Dd.hp)⟩,fun D hD=>?_⟩
  refine ⟨fun i m G ys=>ad H1 G∧G D=some (.lst ys)∧ys=(hU d b sh (d.pl.take i)).map V.bl∧m+i=d.pl.length,⟨d.pl.length,da hD (ad.refl _),au,rfl,rfl⟩,?_⟩
  rintro i m G ys ⟨sG,hG,rfl,hm⟩
  refine ⟨hG,?_⟩
  by_cases hi:i<d.pl.length
  ·refine .inr ⟨⟨d.pl.map aI,aI d.pl[i],aa.of (sG _ _ (s1 _ _ Dd.hp)),by rw [List.getElem?_map,List.getElem?_eq_getElem hi];rfl⟩,fun G' ys'=>ad H1 G'∧G' D=some (.lst ys')∧ys'=(hU d b sh (d.pl.take (i+1))).map V.bl,fun G' ys' ⟨q1,q2,q3⟩=>⟨m - 1,by trivial,q1,q2,q3,by trivial⟩,?_⟩
   rintro x G1 ⟨rfl,ex⟩
   have ex:=ex _ (aa.of (K:=K) (sG _ _ (s1 _ _ Dd.hp)))
   rw [List.getElem?_map,List.getElem?_eq_getElem hi] at ex
   cases ex
   refine ⟨dF,?_⟩
   unfold tT
   dsimp only
   rw [if_pos rfl]
   refine ⟨(),a,_,_,(),rfl,aa.of ((s1.trans sG) _ _ Dd.ha),rfl,(),by trivial,by trivial,?_⟩
   refine ⟨fun j m G ys=>ad H1 G∧G D=some (.lst ys)∧ys=(hU d b sh (d.pl.take i)++(pb d b sh d.pl[i]).take j).map V.bl∧m+j=d.hr,⟨d.hr,_,sG,hG,by rw [List.take_zero,List.append_nil],rfl⟩,?_⟩
   rintro j m G2 ys ⟨sG2,hG2,rfl,hm2⟩
   refine ⟨hG2,?_⟩
   have hi5:i<5:=by trivial
   have lU:(pb d b sh d.pl[i]).length=d.hr:=by unfold pb;rw [List.length_map,List.length_range]
   by_cases hj:j<d.hr
   ·refine .inr ⟨by show j<((d.hr:Nat):Int).toNat;trivial,?_,fun G' ys'=>ad H1 G'∧G' D=some (.lst ys')∧ys'=(hU d b sh (d.pl.take i)++(pb d b sh d.pl[i]).take (j+1)).map V.bl,fun G' ys' ⟨q1,q2,q3⟩=>⟨m - 1,by trivial,q1,q2,q3,by trivial⟩,?_⟩
    ·rw [List.length_map,List.length_append,u7,List.length_take,List.length_take,sizeLine_eq]
     have:=Nat.mul_le_mul_left d.hr (show min i d.pl.length≤5 by trivial)
     trivial
    rintro x G3 ⟨rfl,rfl⟩
    refine ⟨⟨rfl,fun i v e=>by
     cases i with
     | zero=>exact e
     | succ i=>
      cases i with
      | zero=>exact absurd e (by intro z;cases z)
      | succ i=>exact e⟩,?_⟩
    dsimp only
    rw [if_pos rfl]
    have sx:=s1.trans sG2
    refine ⟨(),(),(),(),(),_,_,so,d,b,E1,d.pl[i],j,sh,by rw [show (0:Int)+(j:Int)=(j:Int) by trivial];rfl,hd.mono sx.toE,hb.mono sx.toE,gd,gb,hj,sx _ _ hso,fs,fun o5 H5 s5 h5 f5=>⟨(by show 2≤10000;decide),fun o6 H6 m6=>?_⟩⟩
    have z4:Sz 4000 (oS d b sh d.pl[i] j).1:=f5.sn.mono (by decide)
    have z5:Sz 4000 (oS d b sh d.pl[i] j).2:=f5.sd.mono (by decide)
    have z0:Sz 4000 (0:Int):=show (0:Int).natAbs<2 ^ 4000 from Nat.pow_pos (by decide)
    have z1:Sz 4000 (1:Int):=show (1:Int).natAbs<2 ^ 4000 from Nat.one_lt_two_pow (by decide)
    refine ⟨o5,o6,_,_,_,(),m6.sm _ _ h5,m6.at',z4,z5,z0,z1,_,(),rfl,?_⟩
    have et:(pb d b sh d.pl[i]).take (j+1)=(pb d b sh d.pl[i]).take j++[decide (0≤(oS d b sh d.pl[i] j).1)]:=by
     rw [List.take_succ]
     unfold pb
     rw [List.getElem?_map,List.getElem?_range hj]
     rfl
    refine ⟨(s5.trans m6.sm) _ _ hG2,da hD (sG2.trans (s5.trans m6.sm)),au,?_⟩
    rw [et,←List.append_assoc]
    show _++[V.bl (decide (rP ((oS d b sh d.pl[i] j).1*1) (0*(oS d b sh d.pl[i] j).2)≥0))]=_
    rw [Hv]
    simp only [List.map_append,List.append_assoc]
    rfl
   ·refine .inl ⟨by show ((d.hr:Nat):Int).toNat≤j;trivial,sG2,hG2,?_⟩
    rw [List.take_of_length_le (show (pb d b sh d.pl[i]).length≤j by trivial)]
    have e:d.pl.take (i+1)=d.pl.take i++[d.pl[i]]:=by rw [List.take_succ,List.getElem?_eq_getElem hi];rfl
    rw [e]
    unfold hU
    rw [List.flatMap_append]
    simp
  ·have e:d.pl.take i=d.pl:=List.take_of_length_le (by trivial)
   rw [e] at hG ⊢
   exact .inl ⟨⟨d.pl.map aI,aa.of (sG _ _ (s1 _ _ Dd.hp)),by rw [List.length_map];trivial⟩,D,hU d b sh d.pl,rfl,ah.of hG,k _ (s1.trans sG)⟩
end
end K55
namespace K55
open PySem L2
set_option maxHeartbeats 16000000
section
variable {P:Program}{w:World}{K:PySem.W.Frag}{mg:Str→Option Value}{base:Heap}
theorem ug (x:V):¬(!decide (x=x))=true:=by rw [decide_eq_true rfl];exact Bool.false_ne_true
def Bk (F:List Nat→Nat→KM.Fra) (ls:List (List Nat)) (hr:Nat):List Bool:=ls.flatMap fun p=>(List.range hr).map fun h=>decide (0≤(F p h).1)
theorem CG {hr:Nat}{F:List Nat→Nat→KM.Fra}:∀(ls:List (List Nat)),∃B:Nat→Bool,(List.range (bp ls hr).length).map B=Bk F ls hr∧∀(i:Nat) p h,(bp ls hr)[i]?=some (bR p h)→B i=decide (0≤(F p h).1):=fun ls=>by
 have hk:∀ls:List (List Nat),∃bs:List Bool,bs.length=(bp ls hr).length∧bs=Bk F ls hr∧∀(i:Nat) p h,(bp ls hr)[i]?=some (bR p h)→bs[i]?=some (decide (0≤(F p h).1)):=fun ls=>by
  induction ls with
  | nil=>exact ⟨[],rfl,rfl,fun i p h e=>by simp [bp] at e⟩
  | cons l ls ih=>
   obtain ⟨bs,h1,h2,h3⟩:=ih
   have ek:bp (l :: ls) hr=cL hr l++bp ls hr:=rfl
   have lk:(cL hr l).length=hr:=by unfold cL;simp
   refine ⟨((List.range hr).map fun h=>decide (0≤(F l h).1))++bs,by rw [ek];simp [h1,lk],by rw [h2];rfl,fun i p h e=>?_⟩
   rw [ek] at e
   by_cases hi:i<hr
   ·rw [List.getElem?_append_left (by trivial)] at e
    rw [List.getElem?_append_left (by simpa using hi)]
    unfold cL at e
    rw [List.getElem?_map,List.getElem?_range hi] at e
    rw [List.getElem?_map,List.getElem?_range hi]
    obtain ⟨rfl,rfl⟩:=kU (Option.some.inj e)
    rfl
   ·rw [List.getElem?_append_right (by trivial),lk] at e
    rw [List.getElem?_append_right (by simpa using hi)]
    simp only [List.length_map,List.length_range]
    exact h3 _ p h e
 obtain ⟨bs,h1,h2,h3⟩:=hk ls
 refine ⟨fun i=>(bs[i]?).getD false,?_,fun i p h e=>by show (bs[i]?).getD false=_;rw [h3 i p h e];rfl⟩
 rw [←h1,←h2]
 refine List.ext_getElem? fun i=>?_
 by_cases hi:i<bs.length
 ·rw [List.getElem?_map,List.getElem?_range hi,List.getElem?_eq_getElem hi]
  show some ((bs[i]?).getD false)=_
  rw [List.getElem?_eq_getElem hi]
  rfl
 ·rw [List.getElem?_eq_none (by simpa using hi),List.getElem?_eq_none (by trivial)]
inductive za (vs:List V) (H:Hp) (Q:VK):Prop
 | mk (dv bv:V) (so:Addr) (d:aC) (b:bo) (E:Addr→Prop) (sh:KM.Fra) (h0:vs=[dv,bv,.ref so]) (h1:aJ ED H dv (eH d)) (h2:aJ E H bv (iW b)) (h3:b7 d) (h4:GB 29 14 d b) (h5:H so=some (fr sh)) (h6:Fr 10 sh) (h7:∀H',ad H H'→Q (.bl true) H')
def AO:Sp:=fun vs H Q _=>za  vs H Q
theorem zi (T:Txt K mg):aY P w K mg base CX0 10 T.l_right_.f T.l_right_.d ["_law_day_here", "_law_book", "_law_share"] AO:=by
 have G_l_sums:=#[(CD)]
 have G_hour_sum:=#[(qg)]
 have G_day_price:=#[(wF)]
 have G_l_price:=#[(zU)]
 have G_adds_up:=#[(yf)]
 refine T.l_right_.F.ok kP (fun vs H Q E h=>?_) (fun cdv A outer s H vs Q E hr h=>?_)
 ·obtain ⟨dv,bv,so,d,b,E,sh,rfl,_⟩:=h
  rfl
 ·obtain ⟨dv,bv,so,d,b,E1,sh,rfl,hd,hb,gd,gb,hso,fs,k⟩:=h
  refine ⟨_,#[#[ja 2 (3) (4) _ _ _ _ _ _ _ _ _ _ _ rfl kP.nd rfl rfl (by decide) iV l4 #[[#[G_l_sums,sq,T.l_sums_,#[[#[0,be],#[1,cf],#[2,gK]]]],#[(),(),#[gA 2 hr],dl,T.b_repr,(@fe),#[[#[aD 5 #[[#[0,be],#[1,cf]]]]]]]]] (by kernel_rfl) (by rfl)] :: #[#[bL 8 PassesOwn.never rfl (@dD _ (K) _ _ _ #[#[0,be][#[()]]] (by rfl)) #[5,kP.nd,gQ] #[ac 3 #[bL 8 PassesOwn.never rfl #[bG 6 tx T.b_range #[[#[#[0,be][#[()]]]]] (by rfl)] #[6,kP.nd,ir] #[ac 3 #[bH 8 #[aF 8 (@md _) #[(),(),#[gA 2 hr],dl,T.b_repr,(@fe),#[[#[G_hour_sum,pU,T.hour_sum_,#[[#[0,be],#[1,cf],#[5,gQ],#[6,ir],#[2,gK]]]]]]] #[(),(),#[gA 2 hr],dl,T.b_repr,(@fe),#[[#[cM 7 (@oD _ hr.units) #[3,iV] #[aD 5 #[[#[5,gQ],#[6,ir]]]] (fun _ _=>rfl)]]]] #[(),()]] #[ac 3 #[aB 4 #[gv 4]]] (@bc _)]] (by intro _;rfl)]] (by intro _;rfl)] :: #[#[bH 8 #[PW.pt 3 #[me 7 #[aF 8 (@md _) #[(),(),#[gA 2 hr],dl,T.b_repr,(@fe),#[[#[G_day_price,pC,T.day_price_,#[[#[0,be],#[1,cf]]]]]]] #[(),(),#[gA 2 hr],dl,T.b_repr,(@fe),#[[#[G_l_price,qX,T.l_price_,#[[#[0,be],#[1,cf]]]]]]] #[(),()]] #[kh 4 #[aF 8 (@md _) #[(),(),#[gA 2 hr],dl,T.b_repr,(@fe),#[[#[aD 5 #[[#[0,be],#[1,cf]]]]]]] #[4,l4] #[(),()]]]]] #[ac 3 #[aB 4 #[gv 4]]] (@bc _)] :: #[ac 3 #[aB 4 #[bO 8 (@cw _) #[G_adds_up,rf,T.adds_up_,#[[#[0,be],#[1,cf],#[2,gK]]]] #[(),(),(@vK _ (K) rfl (by rfl)),vq,T.b_all,(@kO),#[[#[bI 7 (["_law_one"]) (1) ([]) _ _ _ _ rfl (by kernel_rfl) #[Cm 4 #[DX 9 PySem.F.plainAttrs_dict PySem.F.slot_dict_values PySem.F.type_dict_values (@Ap _) #[3,iV] (by rfl) (by rfl)]] (fun _ _ _ _ _ _=>#[0,(),()]) (fun _ _ _ _ _ _=>@bd _) (fun _ _ _ _ _ _=>#[bO 8 (@tH _) #[#[0,()][#[()]]] #[()] #[(),()]]) (by intro _;rfl)]]]] #[(),()]]]]]]],?_⟩
  have gb6:=gb.mono (show 29≤60 by decide) (show 14≤60 by decide)
  have gb9:=gb.mono (show 29≤29 by decide) (show 14≤29 by decide)
  obtain ⟨m,hm,wt⟩:=BV gd gb
  obtain ⟨a,pp,tt,st,wl,wi,ts,ss,ws,is,Dd⟩:=dB hd
  have both:∀{H':Hp}{q:Addr},ad H H'→H' q=some (.tup [dv,bv])→aJ E1 H' (.ref q) (.tuple [eH d,iW b]):=fun s' e=>.tup e (.cons ((hd.mono s'.toE).narrow fun _ _=>trivial) (.cons (hb.mono s'.toE) .nil))
  have h8:=gd.l8
  have p5:=gd.p5
  refine aX fun D0 n0=>⟨(),(),(),_,_,so,d,b,E1,sh,rfl,hd,hb,gd,gb6,hso,fs,fun D H1 s1 hDn dI=>⟨(),(),(by show 2≤10000;decide),fun q2 H2 m2=>⟨q2,_,E1,m,5,rfl,both (s1.trans m2.sm) m2.at',wt,by trivial,by decide,_,(),n0 _ _ ?_⟩⟩⟩
  have s02:=s1.trans m2.sm
  have dI:=dI.sm m2.sm
  cases Dd.ev
  refine aX fun D1 n1=>⟨(),a,_,_,(),rfl,aa.of (s02 _ _ Dd.ha),rfl,pp,rfl,⟨_,aa.of (s02 _ _ Dd.hp)⟩,qD (xs:=d.pl.map aI) (fun i σ H'=>bE fun (v5 v6:Option V)=>σ=[some (.ref a),some bv,some (.ref so),some (.ref D),some (.str (PyData.shown (.tuple [eH d,iW b]))),v5,v6]∧ad H2 H') ⟨_,(),ad.refl _⟩ ?_ ?_ ?_⟩
  ·rintro i σ H' _ ⟨_,_,_,sm⟩
   exact aa.of (sm _ _ (s02 _ _ Dd.hp))
  ·rintro i y σ H' ey ⟨v5,v6,rfl,sm⟩
   rw [List.getElem?_map] at ey
   cases ep:d.pl[i]? with
   | none=>rw [ep] at ey;cases ey
   | some p=>
   rw [ep] at ey
   cases ey
   have hp:=List.mem_of_getElem? ep
   refine i0 (t:=vU _ _ _) fun DB nB=>?_
   refine ⟨(),a,_,_,(),rfl,aa.of ((s02.trans sm) _ _ Dd.ha),rfl,(),by trivial,by trivial,fQ (fun j σ G=>∃(v6:Option V),σ=[some (.ref a),some bv,some (.ref so),some (.ref D),some (.str (PyData.shown (.tuple [eH d,iW b]))),some (aI p),v6]∧ad H2 G) ⟨(),sm⟩ ?_ ?_⟩
   ·rintro j σ G hj ⟨v6,rfl,sg⟩
    have hj:j<d.hr:=by trivial
    have sx:=s02.trans sg
    obtain ⟨f,hD,hf⟩:=dI.sm sg
    obtain ⟨o,eo,ho⟩:=hf p hp j hj
    have ej:=xp gd gb6 fs p hj
    have wj:Wt (bJ (oS d b sh p j)) 3 1:=by rw [ej];exact E4 gd gb fs p j
    have ez:(0:Int)+(j:Int)=(j:Int):=by trivial
    refine ⟨(),(),(),(),(),_,_,so,d,b,E1,p,j,sh,by rw [ez];rfl,hd.mono sx.toE,hb.mono sx.toE,gd,gb6,hj,sx _ _ hso,fs,fun o5 H5 s5 h5 f5=>⟨o5,bJ (oS d b sh p j),ED,3,1,rfl,lZ h5,wj,by decide,by decide,(),(),(),(by show 2≤10000;decide),fun q6 H6 m6=>⟨D,q6,_,f,bR p j,rfl,rfl,(s5.trans m6.sm) _ _ hD,by rw [m6.at',ez];rfl,iJ hp hj,?_⟩⟩⟩
    refine ⟨o,bJ (oS d b sh p j),ED,3,1,by rw [eo],lZ (by rw [ej];exact (s5.trans m6.sm) _ _ ho),wj,by decide,by decide,rfl,(),bZ (fun c=>absurd c (ug _)) fun c=>⟨(),(sg.trans s5).trans m6.sm⟩⟩
   ·rintro σ G ⟨v6,rfl,sg⟩
    exact nB _ _ ⟨_,(),sg⟩
  rintro σ J ⟨v5,v6,rfl,sJ⟩
  refine n1 _ _ ?_
  have s0J:=s02.trans sJ
  have wp:=AU gd gb
  have ep:=A3 gd gb9
  refine aX fun D2 n2=>⟨(),(),_,bv,d,b,E1,rfl,hd.mono s0J.toE,hb.mono s0J.toE,gd,gb9,fun o3 H3 s3 h3 f3=>⟨o3,bJ (KM.sumF (ve d b)),ED,3,1,rfl,lZ (by rw [←ep];exact h3),wp,by decide,by decide,(),(),_,bv,d,b,E1,rfl,hd.mono (s0J.trans s3).toE,hb.mono (s0J.trans s3).toE,gd,gb9,fun o4 H4 s4 h4 f4=>⟨o4,bJ (KM.sumF (ve d b)),ED,3,1,rfl,lZ h4,wp,by decide,by decide,rfl,(),bZ (fun c=>absurd c (ug _)) fun c=>⟨(),(),(by show 2≤10000;decide),fun q5 H5 m5=>⟨q5,_,E1,m,5,rfl,both (((s0J.trans s3).trans s4).trans m5.sm) m5.at',wt,by trivial,by decide,(),?_⟩⟩⟩⟩⟩
  generalize PyData.shown (.tuple [eH d,iW b])=zz
  refine ⟨rfl,(),bZ (fun c=>absurd c (ug _)) fun c=>n2 _ _ ?_⟩
  have s05:=((s0J.trans s3).trans s4).trans m5.sm
  refine ⟨(),(),(),_,_,so,d,b,E1,sh,rfl,hd.mono s05.toE,hb.mono s05.toE,gd,gb6,s05 _ _ hso,fs,fun H6 s6=>?_⟩
  obtain ⟨f,hD,hf⟩:=dI.sm ((((sJ.trans s3).trans s4).trans m5.sm).trans s6)
  obtain ⟨B,eB,hB⟩:=CG (hr:=d.hr) (F:=fun p h=>KM.sumF (ko d b sh p h)) d.pl
  have lk:=pE d.hr h8 d.pl
  refine ⟨(),.inr (.inr (.inl ⟨rfl,.inr ⟨_,hD⟩⟩)),D,(),rfl,hD,fun v7 H7 m7=>⟨v7,D,(),m7.at',m7.sm _ _ hD,fun oF H8 c8=>?_⟩⟩
  have kF:∀{H':Hp},ad H8 H'→H' D=some (.frz oF (.dT (bS (bp d.pl d.hr) f))):=fun s=>s _ _ c8.at'
  have lt:(bS (bp d.pl d.hr) f).length=(bp d.pl d.hr).length:=by unfold bS;rw [List.length_map]
  intro D9 hD9
  refine pY (n:=(bp d.pl d.hr).length) (fun i=>V.bl (B i)) (by trivial) hD9 (fun i H' hi sm=>⟨kF sm,by rw [lt];exact hi⟩) (fun H' sm=>⟨kF sm,lt.symm⟩) ?_ ?_
  ·rintro i x H' H'' R hi sm ⟨rfl,z,ez⟩ kk
   have e1:(bS (bp d.pl d.hr) f)[i]?=some ((bp d.pl d.hr)[i],f (bp d.pl d.hr)[i]):=by unfold bS;rw [List.getElem?_map,List.getElem?_eq_getElem hi];rfl
   rw [e1] at ez
   cases ez
   obtain ⟨p,h,hp,hh,ek⟩:=tU (List.getElem_mem hi)
   obtain ⟨o,eo,ho⟩:=hf p hp h hh
   have eB:B i=decide (0≤(KM.sumF (ko d b sh p h)).1):=hB i p h (by rw [List.getElem?_eq_getElem hi,ek])
   rw [ek,eo]
   have nDo:o≠D:=fun e=>by rw [e,hD] at ho;cases ho
   exact ⟨dF,(),o,_,_,(),rfl,aa.of (sm _ _ (c8.ol _ _ nDo (m7.sm _ _ ho))),rfl,_,(),rfl,by have:=kk _ (ad.refl _);rw [eB] at this;exact this⟩
  ·intro H9 s9 hD9'
   have eu:hU d b sh d.pl=Bk (fun p h=>KM.sumF (ko d b sh p h)) d.pl d.hr:=by
    have e:pb d b sh=fun p=>(List.range d.hr).map fun h=>decide (0≤(KM.sumF (ko d b sh p h)).1):=funext fun p=>List.map_congr_left fun h hh=>by rw [xp gd gb6 fs p (List.mem_range.mp hh)]
    unfold hU Bk
    rw [e]
   refine ⟨D9,hU d b sh d.pl,rfl,ah.of (by rw [hD9',eu,←eB,List.map_map];rfl),rfl,?_⟩
   rw [decide_eq_true rfl]
   exact k _ fun x o h=>s9 _ _ (c8.ol x o (fun e=>by rw [e,hDn] at h;cases h) (m7.sm _ _ ((s05.trans s6) _ _ h)))
end
end K55
namespace K55
open PySem L2
set_option maxHeartbeats 16000000
def DT (d:aC):aC:=⟨d.pl,d.hr,d.ts.take 7++d.ts.take 1,d.ss,d.ws++d.ws.take 1,d.wi++d.wi.take 1⟩
theorem DN {d:aC} (g:b7 d) (hw:d.ws.length≤4) (hi:d.wi.length≤6):b7 (DT d) where
 l1:=g.l1
 l8:=g.l8
 p5:=g.p5
 nd:=g.nd
 nm:=g.nm
 t8:=by show (d.ts.take 7++d.ts.take 1).length≤8;rw [List.length_append,List.length_take,List.length_take];trivial
 s5:=g.s5
 w5:=by show (d.ws++d.ws.take 1).length≤5;rw [List.length_append,List.length_take];trivial
 i7:=by show (d.wi++d.wi.take 1).length≤7;rw [List.length_append,List.length_take];trivial
 ts:=fun x hx=>by
  have h:x∈d.ts:=(List.mem_append.mp (show x∈d.ts.take 7++d.ts.take 1 from hx)).elim List.mem_of_mem_take List.mem_of_mem_take
  exact (g.ts x h).of rfl
 ss:=fun x hx=>⟨(g.ss x hx).b,(g.ss x hx).m,(g.ss x hx).m0,(g.ss x hx).k,(g.ss x hx).mg⟩
 ws:=fun x hx=>by
  have h:x∈d.ws:=(List.mem_append.mp (show x∈d.ws++d.ws.take 1 from hx)).elim id List.mem_of_mem_take
  exact ⟨(g.ws x h).b,(g.ws x h).h,(g.ws x h).m,(g.ws x h).m0,(g.ws x h).p,(g.ws x h).mg⟩
 wi:=fun x hx=>by
  have h:x∈d.wi:=(List.mem_append.mp (show x∈d.wi++d.wi.take 1 from hx)).elim id List.mem_of_mem_take
  exact ⟨(g.wi x h).b,(g.wi x h).h,(g.wi x h).a⟩
theorem aA.take {E:Addr→Prop}{H:Hp}:∀{n:Nat}{xs:List V}{ds:List PyData},aA E H xs ds→aA E H (xs.take n) (ds.take n)
 | 0,_,_,_=>.nil
 | n+1,_,_,.nil=>.nil
 | n+1,_,_,.cons h r=>.cons h (aA.take r)
theorem BY {α:Type}{f:α→PyData}{H H':Hp}{vs:List V}{xs:List α} (s:ad H H') (h:aA ED H vs (xs.map f)) (n:Nat):aA ED H' (vs.take n++vs.take 1) ((xs.take n++xs.take 1).map f):=by
 rw [List.map_append,List.map_take,List.map_take]
 exact ((aA.take h).mono s.toE).append ((aA.take h).mono s.toE)
theorem xB {α:Type}{f:α→PyData}{H H':Hp}{vs:List V}{xs:List α} (s:ad H H') (h:aA ED H vs (xs.map f)):aA ED H' (vs++vs.take 1) ((xs++xs.take 1).map f):=by
 rw [List.map_append,List.map_take]
 exact (h.mono s.toE).append ((aA.take h).mono s.toE)
section
variable {P:Program}{w:World}{K:PySem.W.Frag}{mg:Str→Option Value}{base:Heap}
inductive Dy (vs:List V) (H:Hp) (Q:VK):Prop
 | mk (dv:V) (d:aC) (h0:vs=[dv]) (h1:aJ ED H dv (eH d)) (h2:b7 d) (h3:d.ws.length≤4) (h4:d.wi.length≤6) (h5:∀v H',ad H H'→aJ ED H' v (eH (DT d))→Q v H')
def Fh:Sp:=fun vs H Q _=>Dy  vs H Q
theorem yu (T:Txt K mg):aY P w K mg base CX0 1 T.l_doubled_.f T.l_doubled_.d ["_law_day_here"] Fh:=by
 refine T.l_doubled_.F.ok lj (fun vs H Q E h=>?_) (fun cdv A outer s H vs Q E hr h=>?_)
 ·obtain ⟨dv,d,rfl,_⟩:=h
  rfl
 ·obtain ⟨dv,d,rfl,hd,gd,_,_,k⟩:=h
  refine ⟨_,#[#[xq 2 (1) (2) (3) _ _ _ _ _ _ _ _ _ _ _ _ _ _ rfl lj.nd rfl rfl rfl (by decide) (by decide) (by decide) fV fD eJ #[[#[#[0,bM][#[()]]],#[#[0,bM][#[()]]],#[#[0,bM][#[()]]]]] (by kernel_rfl) (by rfl)] :: #[#[4,lj.nd,jV,#[aD 5 #[[#[ak 8 (@kZ _) #[2,fD] #[cZ 10 (@iL _ (K) (by rfl)) #[2,fD] (@d9 _) #[dk 3 #[()]]]],#[ak 8 (@kZ _) #[3,eJ] #[cZ 10 (@iL _ (K) (by rfl)) #[3,eJ] (@d9 _) #[dk 3 #[()]]]]]]]] :: #[ac 3 #[aB 4 #[ak 8 (@kZ _) #[aD 5 #[[#[#[0,bM][#[()]]],#[#[0,bM][#[()]]],#[ak 8 (@kZ _) #[cZ 10 (@iL _ (K) (by rfl)) #[1,fV] (@d9 _) #[dk 3 #[()]]] #[cZ 10 (@iL _ (K) (by rfl)) #[1,fV] (@d9 _) #[dk 3 #[()]]]],#[#[0,bM][#[()]]]]]] #[4,jV]]]]]],?_⟩
  obtain ⟨a,pp,tt,st,wl,wi,ts,ss,ws,is,Dd⟩:=dB hd
  cases Dd.ev
  have lts:=Dd.at_.length
  have lws:=Dd.aw.length
  have lis:=Dd.ai.length
  rw [List.length_map] at lts lws lis
  have t8:=gd.t8
  have w5:=gd.w5
  have i7:=gd.i7
  have c1:∀xs:List V,gh xs none (some 1)=xs.take 1:=fun xs=>pV (by decide)
  have c7:gh ts none (some 7)=ts.take 7:=pV (by decide)
  refine aX fun D0 n0=>⟨(),a,_,_,(),rfl,aa.of Dd.ha,rfl,(),a,_,_,(),rfl,aa.of Dd.ha,rfl,(),a,_,_,(),rfl,aa.of Dd.ha,rfl,_,_,(),n0 _ _ ?_⟩
  refine aX fun D1 n1=>⟨(),(),(),wl,(),aa.of Dd.hw,Dd.hw,fun q1 H1 s1 h1=>⟨wl,q1,_,(),rfl,s1 _ _ Dd.hw,h1,by rw [c1,List.length_take];trivial,fun q2 H2 s2 h2=>?_⟩⟩
  have sA:=s1.trans s2
  refine ⟨(),(),(),wi,(),aa.of (sA _ _ Dd.hi),sA _ _ Dd.hi,fun q3 H3 s3 h3=>⟨wi,q3,_,(),rfl,(sA.trans s3) _ _ Dd.hi,h3,by rw [c1,List.length_take];trivial,fun q4 H4 s4 h4=>⟨(by show 2≤10000;decide),fun q5 H5 m5=>n1 _ _ ?_⟩⟩⟩
  have sB:=((sA.trans s3).trans s4).trans m5.sm
  have s25:=(s3.trans s4).trans m5.sm
  refine ⟨(),a,_,_,(),rfl,aa.of (sB _ _ Dd.ha),rfl,(),a,_,_,(),rfl,aa.of (sB _ _ Dd.ha),rfl,(),(),tt,(),aa.of (sB _ _ Dd.ht),sB _ _ Dd.ht,fun q6 H6 s6 h6=>⟨(),(),tt,(),aa.of ((sB.trans s6) _ _ Dd.ht),(sB.trans s6) _ _ Dd.ht,fun q7 H7 s7 h7=>⟨q6,q7,_,(),rfl,s7 _ _ h6,h7,by rw [c1,c7,List.length_take,List.length_take];trivial,fun q8 H8 s8 h8=>?_⟩⟩⟩
  have sC:=((sB.trans s6).trans s7).trans s8
  refine ⟨(),a,_,_,(),rfl,aa.of (sC _ _ Dd.ha),rfl,(by show 4≤10000;decide),fun q9 H9 m9=>⟨(),q9,q5,_,(),rfl,m9.at',(((s6.trans s7).trans s8).trans m9.sm) _ _ m5.at',(by show 4+2≤10000;decide),fun qa Ha sa ha=>?_⟩⟩
  have sD:=(sC.trans m9.sm).trans sa
  have s59:=(((s6.trans s7).trans s8).trans m9.sm).trans sa
  rw [c1,c7] at h8
  rw [c1] at h2 h4
  refine k _ _ sD (.tup ha (.cons (.tup (sD _ _ Dd.hp) ?_) (.cons (.int _) (.cons (.tup ((m9.sm.trans sa) _ _ h8) (BY sD Dd.at_ 7)) (.cons (.tup (sD _ _ Dd.hs) (Dd.as_.mono sD.toE)) (.cons (.tup ((s25.trans s59) _ _ h2) (xB sD Dd.aw)) (.cons (.tup ((m5.sm.trans s59) _ _ h4) (xB sD Dd.ai)) .nil)))))))
  exact zR _
end
end K55
namespace K55
open PySem L2
set_option maxHeartbeats 16000000
theorem ud {t p q:KM.Fra} (hp:Am 21 6 t p) (hq:Am 21 6 t q) (ht:1≤t.2):Am 29 14 t (lB p q):=by
 obtain ⟨fp,p0,pl,gp⟩:=hp
 obtain ⟨fq,q0,ql,gq⟩:=hq
 have g1:Gb 28 12 (KM.ladd p q):=gp.add gq (by decide) (by decide) (by decide)
 have g2:Gb 1 2 ((1,2):KM.Fra):=⟨show (1:Int).natAbs<2 ^ 1 by decide,show (2:Int).natAbs<2 ^ 2 by decide,by decide⟩
 have g3:Gb 29 14 (lB p q):=g1.tim g2 (by decide) (by decide)
 have rp:=fp.rd
 have rq:=fq.rd
 have r1:=rp.add rq
 have r2:KM.Rd ((1,2):KM.Fra):=⟨by decide,by decide⟩
 have r3:KM.Rd (lB p q):=r1.tim r2
 have ev:KM.vl (lB p q)=(KM.vl p+KM.vl q)*KM.vl (1,2):=by
  show KM.vl (KM.lTim (KM.ladd p q) (1,2))=_
  rw [KM.vl_tim r1.nz r2.nz,KM.vl_add rp.nz rq.nz]
 have e2:KM.vl (1,2)+KM.vl (1,2)=1:=by nofun
 have e3:(0:Rat)≤KM.vl (1,2):=by nofun
 have n1:0≤KM.vl p:=(Rat.divInt_nonneg_iff_of_pos_right (by have:=rp.1;trivial)).mpr p0
 have n2:0≤KM.vl q:=(Rat.divInt_nonneg_iff_of_pos_right (by have:=rq.1;trivial)).mpr q0
 have l1:=(qr rp.1 ht).mpr pl
 have l2:=(qr rq.1 ht).mpr ql
 have n3:0≤KM.vl (lB p q):=by rw [ev];exact Rat.mul_nonneg (by grind) e3
 refine ⟨⟨g3.n,g3.d.mono (by decide),r3.1,r3.2⟩,(Rat.divInt_nonneg_iff_of_pos_right (by have:=r3.1;trivial)).mp n3,(qr r3.1 ht).mp ?_,g3⟩
 have m:=Rat.mul_le_mul_of_nonneg_right (show KM.vl p+KM.vl q≤KM.vl t+KM.vl t by grind) e3
 rw [ev]
 have:(KM.vl t+KM.vl t)*KM.vl (1,2)=KM.vl t:=by
  rw [show (KM.vl t+KM.vl t)*KM.vl (1,2)=KM.vl t*(KM.vl (1,2)+KM.vl (1,2)) by grind,e2]
  grind
 grind
def kv (r s:List KM.Fra):List KM.Fra:=(List.range r.length).map fun h=>lB (bn r h) (bn s h)
def oO (rs ss:List (List KM.Fra)):List (List KM.Fra):=(List.range rs.length).map fun i=>kv ((rs[i]?).getD []) ((ss[i]?).getD [])
def yJ (b c:bo):bo:=⟨oO b.se c.se,oO b.ke c.ke,kv b.dr c.dr⟩
theorem oM (r s:List KM.Fra):(kv r s).length=r.length:=by unfold kv;rw [List.length_map,List.length_range]
theorem rF (r s:List (List KM.Fra)):(oO r s).length=r.length:=by unfold oO;rw [List.length_map,List.length_range]
theorem uE {r s:List KM.Fra}{h:Nat}{z:KM.Fra} (l:r.length=s.length) (e:(kv r s)[h]?=some z):bE fun p q=>r[h]?=some p∧s[h]?=some q∧z=lB p q:=by
 have hh:h<r.length:=by rw [←oM r s];exact (List.getElem?_eq_some_iff.mp e).1
 unfold kv at e
 rw [List.getElem?_map,List.getElem?_range hh] at e
 refine ⟨r[h],s[h]'(by trivial),List.getElem?_eq_getElem hh,List.getElem?_eq_getElem (by trivial),?_⟩
 have e:=(Option.some.inj e).symm
 rw [e]
 unfold bn
 dsimp only
 rw [List.getElem?_eq_getElem hh,List.getElem?_eq_getElem (show h<s.length by trivial)]
 rfl
theorem xO {r s:List (List KM.Fra)}{h:Nat}{z:List KM.Fra} (l:r.length=s.length) (e:(oO r s)[h]?=some z):bE fun p q=>r[h]?=some p∧s[h]?=some q∧z=kv p q:=by
 have hh:h<r.length:=by rw [←rF r s];exact (List.getElem?_eq_some_iff.mp e).1
 unfold oO at e
 rw [List.getElem?_map,List.getElem?_range hh] at e
 refine ⟨r[h],s[h]'(by trivial),List.getElem?_eq_getElem hh,List.getElem?_eq_getElem (by trivial),?_⟩
 have e:=(Option.some.inj e).symm
 rw [e]
 dsimp only
 rw [List.getElem?_eq_getElem hh,List.getElem?_eq_getElem (show h<s.length by trivial)]
 rfl
theorem FE {d:aC}{b c:bo} (gd:b7 d) (g:GB 21 6 d b) (k:GB 21 6 d c):GB 29 14 d (yJ b c) where
 s:=(rF _ _).trans g.s
 k:=(rF _ _).trans g.k
 z:=(oM _ _).trans g.z
 sr:=fun i x r ex er=>by
  obtain ⟨p,q,e1,e2,rfl⟩:=xO (by rw [g.s,k.s]) er
  obtain ⟨l1,a1⟩:=g.sr i x p ex e1
  obtain ⟨l2,a2⟩:=k.sr i x q ex e2
  refine ⟨(oM _ _).trans l1,fun h z ez=>?_⟩
  obtain ⟨u,v,f1,f2,rfl⟩:=uE (by rw [l1,l2]) ez
  exact ud (a1 h u f1) (a2 h v f2) (vO (gd.ts x (List.mem_of_getElem? ex)) h).pos
 kr:=fun i x r ex er=>by
  obtain ⟨p,q,e1,e2,rfl⟩:=xO (by rw [g.k,k.k]) er
  obtain ⟨l1,a1⟩:=g.kr i x p ex e1
  obtain ⟨l2,a2⟩:=k.kr i x q ex e2
  refine ⟨(oM _ _).trans l1,fun h z ez=>?_⟩
  obtain ⟨u,v,f1,f2,rfl⟩:=uE (by rw [l1,l2]) ez
  exact ud (a1 h u f1) (a2 h v f2) (gd.ss x (List.mem_of_getElem? ex)).m.pos
 zr:=fun i x z ex ez=>by
  obtain ⟨u,v,f1,f2,rfl⟩:=uE (by rw [g.z,k.z]) ez
  exact ud (g.zr i x u ex f1) (k.zr i x v ex f2) (gd.ws x (List.mem_of_getElem? ex)).m.pos
theorem xD (n:Nat) {r s:List KM.Fra} (l:r.length=s.length) (l1:r.length≤100) (f:∀p∈r,Fr 21 p) (g:∀p∈s,Fr 21 p):uJ (n+2) (bA r) (bA s) (bA (kv r s)):=by
 have e:bA (kv r s)=.list ((List.range (r.map bJ).length).map fun h=>bJ (lB (bn r h) (bn s h))):=by
  unfold bA kv
  rw [List.map_map,List.length_map]
  rfl
 rw [e]
 refine .ls _ (fun h=>bJ (lB (bn r h) (bn s h))) (by rw [List.length_map,List.length_map,l]) (by rw [List.length_map];exact l1) fun i d e' h1 h2=>?_
 rw [List.getElem?_map] at h1 h2
 obtain ⟨p,ep,rfl⟩:=Option.map_eq_some_iff.mp h1
 obtain ⟨q,eq,rfl⟩:=Option.map_eq_some_iff.mp h2
 have e1:bn r i=p:=by unfold bn;rw [ep];rfl
 have e2:bn s i=q:=by unfold bn;rw [eq];rfl
 show uJ (n+1) (bJ p) (bJ q) (bJ (lB (bn r i) (bn s i)))
 rw [e1,e2]
 exact .fr _ (f p (List.mem_of_getElem? ep)) (g q (List.mem_of_getElem? eq))
theorem wT {rs ss:List (List KM.Fra)} (l:rs.length=ss.length) (l1:rs.length≤100) (h:∀(i:Nat) r s,rs[i]?=some r→ss[i]?=some s→r.length=s.length∧r.length≤100∧(∀p∈r,Fr 21 p)∧∀p∈s,Fr 21 p):uJ 3 (.list (rs.map bA)) (.list (ss.map bA)) (.list ((oO rs ss).map bA)):=by
 have e:(oO rs ss).map bA=(List.range (rs.map bA).length).map fun i=>bA (kv ((rs[i]?).getD []) ((ss[i]?).getD [])):=by
  unfold oO
  rw [List.map_map,List.length_map]
  rfl
 rw [e]
 refine .ls _ (fun i=>bA (kv ((rs[i]?).getD []) ((ss[i]?).getD []))) (by rw [List.length_map,List.length_map,l]) (by rw [List.length_map];exact l1) fun i d e' h1 h2=>?_
 rw [List.getElem?_map] at h1 h2
 obtain ⟨r,er,rfl⟩:=Option.map_eq_some_iff.mp h1
 obtain ⟨s,es,rfl⟩:=Option.map_eq_some_iff.mp h2
 obtain ⟨a1,a2,a3,a4⟩:=h i r s er es
 rw [er,es]
 exact xD 0 a1 a2 a3 a4
def wR (b:bo):Nat→PyData
 | 0=>.list (b.se.map bA)
 | 1=>.list (b.ke.map bA)
 | _=>bA b.dr
theorem CM {d:aC}{b c:bo} (gd:b7 d) (g:GB 21 6 d b) (k:GB 21 6 d c):∀i,i<3→uJ 3 (wR b i) (wR c i) (wR (yJ b c) i):=by
 have t8:=gd.t8
 have s5:=gd.s5
 have w5:=gd.w5
 have h8:=gd.l8
 have gs:=g.s
 have gk:=g.k
 have gz:=g.z
 have fr1:∀{b:bo},GB 21 6 d b→∀(i:Nat) r,b.se[i]?=some r→r.length=d.hr∧∀p∈r,Fr 21 p:=fun {b} g i r er=>by
  have hl:i<d.ts.length:=by rw [←g.s];exact (List.getElem?_eq_some_iff.mp er).1
  obtain ⟨l,f⟩:=g.sr i _ r (List.getElem?_eq_getElem hl) er
  exact ⟨l,fun p hp=>by obtain ⟨j,hj⟩:=List.mem_iff_getElem?.mp hp;exact (f j p hj).1⟩
 have fr2:∀{b:bo},GB 21 6 d b→∀(i:Nat) r,b.ke[i]?=some r→r.length=d.hr∧∀p∈r,Fr 21 p:=fun {b} g i r er=>by
  have hl:i<d.ss.length:=by rw [←g.k];exact (List.getElem?_eq_some_iff.mp er).1
  obtain ⟨l,f⟩:=g.kr i _ r (List.getElem?_eq_getElem hl) er
  exact ⟨l,fun p hp=>by obtain ⟨j,hj⟩:=List.mem_iff_getElem?.mp hp;exact (f j p hj).1⟩
 have fr3:∀{b:bo},GB 21 6 d b→∀p∈b.dr,Fr 21 p:=fun {b} g p hp=>by
  obtain ⟨i,hi⟩:=List.mem_iff_getElem?.mp hp
  have hl:i<d.ws.length:=by rw [←g.z];exact (List.getElem?_eq_some_iff.mp hi).1
  exact (g.zr i _ p (List.getElem?_eq_getElem hl) hi).1
 intro i hi
 rcases (show i=0∨i=1∨i=2 by trivial) with rfl | rfl | rfl
 ·exact wT (by rw [g.s,k.s]) (by trivial) fun i r s er es=>by
   obtain ⟨l1,f1⟩:=fr1 g i r er
   obtain ⟨l2,f2⟩:=fr1 k i s es
   exact ⟨by trivial,by trivial,f1,f2⟩
 ·exact wT (by rw [g.k,k.k]) (by trivial) fun i r s er es=>by
   obtain ⟨l1,f1⟩:=fr2 g i r er
   obtain ⟨l2,f2⟩:=fr2 k i s es
   exact ⟨by trivial,by trivial,f1,f2⟩
 ·exact xD 1 (by rw [g.z,k.z]) (by trivial) (fr3 g) (fr3 k)
end K55
namespace K55
open PySem L2
set_option maxHeartbeats 16000000
section
variable {P:Program}{w:World}{K:PySem.W.Frag}{mg:Str→Option Value}{base:Heap}
inductive DE (K:PySem.W.Frag) (vs:List V) (H:Hp) (Q:VK):Prop
 | mk (a:Addr) (ns:List Int) (h0:vs=[.ref a]) (h1:ah K H a (ns.map V.int)) (h2:ns.length≤63) (h3:∀H',Q (.bl true) H')
def spLaw (K:PySem.W.Frag):Sp:=fun vs H Q _=>DE K vs H Q
theorem law_start {H:Hp}{a:Addr}{ns:List Int} (hl:ns.length≤63) (_:tR H) (hS:ah K H a (ns.map V.int)):spLaw K [.ref a] H (fun v _=>v=.bl true) fun _ _ _=>False:=
 ⟨a,ns,rfl,hS,hl,fun _=>rfl⟩
theorem wB {E:Addr→Prop}{H H':Hp} (s:ao E H H'):ao ED H H':=⟨fun _ _ n _=>absurd trivial n,s.tup⟩
theorem law_ok (T:Txt K mg):aY P w K mg base CX0 40 T.law_.f T.law_.d ["_law_script"] (spLaw K):=by
 have G_l_boxes:=#[(Ay)]
 have G_l_take:=#[(iK)]
 have G_l_day:=#[(BD)]
 have G_l_doubled:=#[(yu)]
 have G_l_any_book:=#[(wY)]
 have G_l_halves:=zK (P:=P) (w:=w) (base:=base) T 3
 have G_l_fr:=#[(oH)]
 have G_is_book:=#[(tM)]
 have G_l_right:=#[(zi)]
 refine T.law_.F.ok kj (fun vs H Q E h=>?_) (fun cdv A outer s H vs Q E hr h=>?_)
 ·obtain ⟨a,ns,rfl,_⟩:=h
  rfl
 ·obtain ⟨a,ns,rfl,hS,hn,k⟩:=h
  refine ⟨_,#[#[bL 8 PassesOwn.never rfl (@jR _ (K) _ _ _ #[G_l_boxes,vy,T.l_boxes_,#[[#[0,tS],#[()]]]] (by rfl)) #[gC 2 (1) _ kj.nd rfl (Or.inr dC) (by first | exact .inl rfl | exact .inr rfl | assumption)] #[#[jT 2 (2) _ _ _ _ kj.nd rfl (Or.inr dA) #[G_l_day,xc,T.l_day_,#[[#[1,(dC)]]]] (by rfl) (by first | exact .inl rfl | exact .inr rfl | assumption)] :: #[#[bH 8 #[aF 8 (@cw _) #[G_l_take,lm,T.l_take_,#[[#[1,(dC)],#[()]]]] #[()] #[(),()]] #[ac 3 #[jT 2 (2) _ _ _ _ kj.nd rfl (Or.inr dA) #[G_l_doubled,sL,T.l_doubled_,#[[#[2,(dA)]]]] (by rfl) (by first | exact .inl rfl | exact .inr rfl | assumption)]] (@bc _)] :: #[#[dX 7 (["_law_turn", "_law_box_here", "_law_day_here"]) (1) ([1,2]) _ _ _ _ (3) _ _ _ kj.nd rfl dL (by kernel_rfl) rfl (by kernel_rfl) #[bG 6 wW T.b_range #[[#[()]]] (by rfl)] (fun _ _ _ _ _ _=>#[0,(),()]) (fun _ _ _ _ _ _=>@bd _) (fun _ _ _ _ _ _=>#[G_l_any_book,(),T.l_any_book_,#[[#[1,0],#[2,0]]]]) (by intro _;rfl)] :: #[#[dn 4 (@cI _ (K) _ _ _ _ _ _ _ _ _ _ _ PySem.F.plainAttrs_list PySem.F.slot_list_append PySem.F.type_list_append (@cN _) #[3,dL] #[[#[bQ 9 (@cH _ (K) (by rfl)) xi T.b_tuple (@cb) #[[#[bI 7 (["_law_one", "_law_other"]) (2) ([]) _ _ _ _ rfl (by kernel_rfl) (@bV _ (K) _ _ _ _ _ _ _ _ yV T.b_zip #[[#[#[3,dL][#[()]]!],#[#[3,dL][#[()]]!]]] (by rfl) (by rfl) (by rfl)) (fun _ _ _ _ _ _=>(@aQ _ (K) _ _ _ _ (2) rfl #[af 5 #[0,(),()] #[af 5 #[1,(),()] (@aW _) (by rfl)] (by rfl)] (by rfl) (by rfl) (by rfl))) (fun _ _ _ _ _ _=>@bd _) (fun _ _ _ _ _ _=>#[G_l_halves,(),T.l_halves_,#[[#[0,()],#[1,()]]]]) (by intro _;rfl)]]] (by decide) (by decide) (by rfl) (by rfl)]]] (by rfl) (by rfl) (by rfl) (by rfl) (by rfl) (by rfl)) (by rfl)] :: #[ac 3 #[bL 8 PassesOwn.never rfl (@jR _ (K) _ _ _ #[ak 8 (@BX _) #[3,dL] #[cZ 10 (@oC _ (K) (by rfl)) #[3,dL] (@d9 _) #[dk 3 #[()]]]] (by rfl)) #[4,kj.nd,lf] #[#[ja 2 (5) (6) _ _ _ _ _ _ _ _ _ _ _ rfl kj.nd rfl rfl (by decide) sK pO #[[#[G_l_take,lm,T.l_take_,#[[#[1,(dC)],#[()]]]],#[G_l_fr,xU,T.l_fr_,#[[#[G_l_take,lm,T.l_take_,#[[#[1,(dC)],#[()]]]],#[()]]]]]] (by kernel_rfl) (by rfl)] :: #[#[7,kj.nd,oW,#[#[eF 4 #[[#[aD 5 #[[#[()],#[()]]]],#[aD 5 #[[#[()],#[()]]]],#[aD 5 #[[#[()],#[()]]]],#[aD 5 #[[#[oh 6 (@lX _) #[()]],#[()]]]],#[6,pO]]]][#[5,sK]]!]] :: #[ac 3 #[bH 8 #[PW.pt 3 #[me 7 #[aF 8 (@CI _) #[G_is_book,vB,T.is_book_,#[[#[2,(dA)],#[4,lf]]]] #[gv 4] #[(),()]] #[kh 4 #[gj 4 #[dz 3 #[G_l_right,vh,T.l_right_,#[[#[2,(dA)],#[4,lf],#[7,oW]]]] (by intro _;rfl)]]]]] #[ac 3 #[aB 4 #[gv 4]]] (@bc _)]]]] (by intro _;rfl)]]]]]] (by intro _;rfl)] :: #[ac 3 #[aB 4 #[gv 4]]]],?_⟩
  refine C7 fun D1 n1 r1D=>⟨(),a,ns,rfl,hS,hn,fun lb bs H3 s3 hlb lbs nbs hbs=>⟨lb,rfl,⟨_,ah.of hlb⟩,?_⟩⟩
  refine oA (xs:=bs.map V.ref) (fun i σ H'=>Gv fun (v1 v2 v3 v4 v5 v6 v7:Option V)=>σ=[some (.ref a),v1,v2,v3,v4,v5,v6,v7]∧H' lb=some (.lst (bs.map V.ref))∧∀(j:Nat) (b:Addr),i≤j→bs[j]?=some b→Bx H' b 0) ⟨_,_,_,_,_,_,(),hlb,fun j b _ e=>hbs b (List.mem_of_getElem? e)⟩ (fun i σ H' _ ⟨_,_,_,_,_,_,_,_,h,_⟩=>ah.of h) ?_ ?_
  case refine_2=>
   rintro σ H' ⟨v1,v2,v3,v4,v5,v6,v7,rfl,_⟩
   exact n1 _ _ (k _)
  rintro i x σ H4 hx ⟨v1,v2,v3,v4,v5,v6,v7,rfl,hlb2,hB⟩
  rw [List.getElem?_map] at hx
  obtain ⟨b,eb,rfl⟩:=Option.map_eq_some_iff.mp hx
  have Bb:=hB i b (Nat.le_refl _) eb
  have nlbb:lb≠b:=fun e=>by
   obtain ⟨c1,c2,q,_⟩:=Bb
   rw [←e,hlb2] at q
   injection q with q
   injection q with q
   cases bs with
   | nil=>cases q
   | cons z zs=>cases q
  refine i0 (t:=kn _ _) fun DB nB=>?_
  have done:∀(v2 v3 v4 v5 v6 v7:Option V) (H':Hp),ao (Eb b) H4 H'→DB.nx [some (.ref a),some (.ref b),v2,v3,v4,v5,v6,v7] H':=fun v2 v3 v4 v5 v6 v7 H' sE=>by
   refine nB _ _ ⟨_,_,_,_,_,_,(),sE.old _ _ nlbb hlb2,fun j b' hj e=>?_⟩
   have B':=hB j b' (by trivial) e
   refine B'.frm sE fun z=>?_
   have z':b'=b:=z
   rw [z'] at e
   obtain ⟨h1,e1⟩:=List.getElem?_eq_some_iff.mp e
   obtain ⟨h2,e2⟩:=List.getElem?_eq_some_iff.mp eb
   have:=zw nbs h1 h2 (e1.trans e2.symm)
   trivial
  clear hB n1 r1D
  refine aX fun D2 n2=>⟨(),b,0,rfl,Bb,by decide,by decide,fun dv0 d0 t5 H5 s5 hd0 gd0 hw0 hi0 hw1 B5 h5a h5b=>n2 _ _ ?_⟩
  refine A8 (fun σ H'=>gH fun (v:V) (d:aC) (t':Int)=>σ=[some (.ref a),some (.ref b),some v,v3,v4,v5,v6,v7]∧aJ ED H' v (eH d)∧b7 d∧Bx H' b t'∧0≤t'∧t'≤1600∧ao (Eb b) H4 H') ?_ fun nx=>?_
  case refine_2=>
   refine ⟨(),b,3,t5,rfl,B5,by decide,by decide,by trivial,by trivial,fun w1 t6 H6 w10 w11 h6a h6b s6 B6=>⟨rfl,(),bZ (fun c=>?_) (fun c=>?_)⟩⟩
   ·exact ⟨(),dv0,d0,rfl,hd0.mono (wB s6),gd0,hw0,hi0,fun v7 H7 s7 hd7=>nx _ _ ⟨v7,_,t6,rfl,hd7,DN gd0 hw0 hi0,B6.same s7,by trivial,by trivial,(s5.trans s6).trans s7.toE⟩⟩
   ·exact nx _ _ ⟨dv0,d0,t6,rfl,hd0.mono (wB s6),gd0,B6,by trivial,by trivial,s5.trans s6⟩
  rintro σ' H7 ⟨dv,d,t7,rfl,hd,gd,B7,t70,t71,s47⟩
  refine ik fun Q3 n3=>⟨3,rfl,by decide,by decide,fun D hD=>jS (n:=3) (c:=200) (fun _ d'=>∃bk,d'=iW bk∧GB 21 6 d bk) (by decide) hD B7 (fun i H' hi sm=>by show i<_;trivial) (fun H' _=>by show _≤3;decide) ?_ ?_⟩
  ·rintro i x H' H'' R t' hi sm B' ha hb ⟨rfl,rfl⟩ kk
   refine ⟨dF,(),(),b,dv,d,t',rfl,B',by trivial,by trivial,hd.mono (wB sm),gd,fun v bk t9 H9 s9 hv gk B9 h9a h9b=>kk v _ t9 H9 s9 hv ⟨bk,rfl,gk⟩ B9 h9a h9b⟩
  intro zs ds t8 H8 s8 B8 h8a h8b hD8 iz lz fz
  refine n3 _ _ ?_
  obtain ⟨d1,d2,d3,rfl⟩:gH fun d1 d2 d3=>ds=[d1,d2,d3]:=mJ (P:=fun l=>gH fun d1 d2 d3=>l=[d1,d2,d3]) (fun a b c=>⟨a,b,c,rfl⟩) ds lz
  obtain ⟨k1,rfl,g1⟩:=fz 0 d1 rfl
  obtain ⟨k2,rfl,g2⟩:=fz 1 d2 rfl
  obtain ⟨k3,rfl,g3⟩:=fz 2 d3 rfl
  cases iz with
  | @cons z1 _ _ _ i1 r=>
  cases r with
  | @cons z2 _ _ _ i2 r=>
  cases r with
  | @cons z3 _ _ _ i3 r=>
  cases r
  cases id i1 with
  | @tup q1 us1 _ hq1 iu1=>
  cases id i2 with
  | @tup q2 us2 _ hq2 iu2=>
  have l1:=iu1.length
  have l2:=iu2.length
  have l1:us1.length=3:=l1
  have l2:us2.length=3:=l2
  refine aX fun D3 n4=>⟨(),.inl ⟨rfl,_,ah.of hD8⟩,(),D,_,_,(),rfl,ah.of hD8,rfl,(),D,_,_,(),rfl,ah.of hD8,rfl,q1,q2,false,false,rfl,⟨_,aa.of hq1⟩,⟨_,aa.of hq2⟩,fun D9 hD9=>dW (n:=3) (wR (yJ k1 k2)) (by decide) hD9 (fun i H' hi sm=>⟨us1,us2,us1[i]'(by trivial),us2[i]'(by trivial),aa.of (sm _ _ hq1),aa.of (sm _ _ hq2),by rw [List.getElem?_eq_getElem (by trivial)],by rw [List.getElem?_eq_getElem (by trivial)]⟩) (fun H' sm=>⟨us1,us2,aa.of (sm _ _ hq1),aa.of (sm _ _ hq2),by trivial⟩) ?_ ?_⟩
  ·rintro i v H' H'' R hi sm ⟨Tp,x,y,hT,rfl,rfl,e1,e2⟩ kk
   have e1:=e1 _ (aa.of (K:=K) (sm _ _ hq1))
   have e2:=e2 _ (aa.of (K:=K) (sm _ _ hq2))
   have st:=ad.new (o:=.tup [x,y]) hT
   have sx:=sm.trans st
   have h1:aJ (fun _=>False) H8 x (wR k1 i):=(iu1.nth i e1 (by rcases (show i=0∨i=1∨i=2 by trivial) with rfl | rfl | rfl <;> rfl)).narrow fun _ z=>z.elim
   have h2:aJ (fun _=>False) H8 y (wR k2 i):=(iu2.nth i e2 (by rcases (show i=0∨i=1∨i=2 by trivial) with rfl | rfl | rfl <;> rfl)).narrow fun _ z=>z.elim
   exact ⟨Tp,(),aa.of au,rfl,_,(),_,(),rfl,kN,(),(),x,y,_,_,(),h1.mono sx.toE,h2.mono sx.toE,CM gd g1 g2 i hi,fun v H4 s4 dv=>kk v H4 (st.trans s4) (dv.narrow fun z e=>by
    show aG H' Tp _ z≠none
    by_cases hz:z=Tp
    ·rw [hz,au];exact fun q=>nomatch q
    ·rw [ay hz];exact e)⟩
  intro ys H9 s9 hD9' iy
  refine ⟨D9,ys,rfl,ah.of hD9',fun q4 H10 m10=>⟨D,_,(),rfl,(s9.trans m10.sm) _ _ hD8,(by show 3≤10000;decide),fun H11 c11=>n4 _ _ ?_⟩⟩
  let EE:Addr→Prop:=fun a=>a=b∨a=D
  have nDb:D≠b:=fun e=>B7.th (e▸hD)
  have sE11:ao EE H10 H11:=⟨fun x o n e=>c11.ol x o (fun z=>n (.inr z)) e,fun x us e=>c11.tup e ((s9.trans m10.sm) _ _ hD8)⟩
  have nr1:∀{v:V}{d':PyData},aJ (fun a=>a=D∨H7 a≠none) H8 v d'→aJ EE H11 v d':=fun h=>(((h.narrow (F:=EE) fun z e=>e.elim (fun e=>.inr (by rw [e];exact B7.th)) .inl).mono (s9.trans m10.sm).toE).mono sE11)
  have i4:aJ EE H11 (.ref q4) (iW (yJ k1 k2)):=by
   refine .tup (c11.tup m10.at' ((s9.trans m10.sm) _ _ hD8)) ?_
   have e:aA EE H11 ys ((List.range 3).map (wR (yJ k1 k2))):=((iy.narrow (F:=EE) fun z e=>.inr (e.elim (fun e=>by rw [e];exact B8.th) fun e=>by rw [e,hD8];exact fun q=>nomatch q)).mono m10.sm.toE).mono sE11
   exact e
  have g4:=FE gd g1 g2
  have allB:∀(j:Nat) y,([.ref q1,.ref q2,z3,.ref q4,.ref q1]:List V)[j]?=some y→∃bk,aJ EE H11 y (iW bk)∧GB 29 14 d bk:=fun j y e=>by
   have j5:=(List.getElem?_eq_some_iff.mp e).1
   have j5:j<5:=j5
   rcases (show j=0∨j=1∨j=2∨j=3∨j=4 by trivial) with rfl | rfl | rfl | rfl | rfl
   ·cases e;exact ⟨k1,nr1 i1,g1.mono (by decide) (by decide)⟩
   ·cases e;exact ⟨k2,nr1 i2,g2.mono (by decide) (by decide)⟩
   ·cases e;exact ⟨k3,nr1 i3,g3.mono (by decide) (by decide)⟩
   ·cases e;exact ⟨_,i4,g4⟩
   ·cases e;exact ⟨k1,nr1 i1,g1.mono (by decide) (by decide)⟩
  have hd11:aJ ED H11 dv (eH d):=((hd.mono (wB s8)).mono (s9.trans m10.sm).toE).mono (wB sE11)
  have B11:Bx H11 b t8:=(B8.same (s9.trans m10.sm)).ch c11 (Ne.symm nDb)
  have s4b:ao (Eb b) H4 H11:=((s47.trans s8).trans (s9.trans m10.sm).toE).ch c11 (s47.none nDb hD)
  refine ⟨(),(),(),D,(),ah.of c11.at',fun L1 H12 m12=>⟨D,L1,_,(),rfl,m12.sm _ _ c11.at',m12.at',(by show 4+1≤10000;decide),fun L H13 m13=>⟨L,rfl,⟨_,ah.of m13.at'⟩,?_⟩⟩⟩
  have sm3:=m12.sm.trans m13.sm
  have hL:H13 L=some (.lst [.ref q1,.ref q2,z3,.ref q4,.ref q1]):=m13.at'
  have nLb:L≠b:=fun e=>(B11.same m12.sm).th (e▸m13.fr)
  refine oA (xs:=[.ref q1,.ref q2,z3,.ref q4,.ref q1]) (fun i σ H'=>wd fun (v4 v5 v6 v7:Option V) (t':Int)=>σ=[some (.ref a),some (.ref b),some dv,some (.ref D),v4,v5,v6,v7]∧Bx H' b t'∧0≤t'∧t'≤2200+10*i∧ao (Eb b) H13 H') ⟨_,_,_,_,t8,rfl,B11.same sm3,by trivial,by trivial,ao.refl _⟩ (fun i σ H' _ ⟨_,_,_,_,_,_,_,_,_,h⟩=>ah.of (h.old _ _ nLb hL)) ?_ ?_
  case refine_2=>
   rintro σ H' ⟨v4,v5,v6,v7,t',rfl,_,_,_,s'⟩
   exact done _ _ _ _ _ _ _ ((s4b.trans sm3.toE).trans s')
  rintro j y σ G ey ⟨v4,v5,v6,v7,t',rfl,B,ta,tb,sG⟩
  obtain ⟨bk,iB,gB⟩:=allB j y ey
  have hj:j<5:=(List.getElem?_eq_some_iff.mp ey).1
  clear allB
  have sEE:ao EE H13 G:=⟨fun x o n e=>sG.old x o (fun z=>n (.inl z)) e,sG.tup⟩
  have iB:=(iB.mono sm3.toE).mono sEE
  have hdG:=(hd11.mono sm3.toE).mono (wB sG)
  refine aX fun D5 n5=>⟨(),b,5,t',rfl,B,by decide,by decide,by trivial,by trivial,fun w1 t9 G1 w10 w11 h9a h9b sG1 BG1=>⟨(),b,13,t9,rfl,BG1,by decide,by decide,by trivial,by trivial,fun w2 t10 G2 w20 w21 h10a h10b sG2 BG2=>⟨w2,12,rfl,by decide,(show (12:Int).natAbs<2 ^ 9000 from Nat.lt_trans (by decide) (Nat.pow_lt_pow_right (by decide) (show 4<9000 by decide))),fun op G3 mp=>⟨_,(),n5 _ _ ?_⟩⟩⟩⟩
  refine aX fun D6 n6=>⟨(by show 2≤10000;decide),fun o1 J1 m1=>⟨(by show 2≤10000;decide),fun o2 J2 m2=>⟨(by show 2≤10000;decide),fun o3 J3 m3=>⟨(),(by show 2≤10000;decide),fun o4 J4 m4=>⟨(),(by show 5≤10000;decide),fun L5 J5 m5=>?_⟩⟩⟩⟩⟩
  have hop:J5 op=some (fr (KM.low w2 12)):=(((((m1.sm.trans m2.sm).trans m3.sm).trans m4.sm).trans m5.sm)) _ _ mp.at'
  have small:∀(n:Int) (e:Int),n.natAbs<2 ^ 9→e.natAbs<2 ^ 9→1≤e→Int.gcd n e=1→Fr 10 (n,e):=fun n e h1 h2 h3 h4=>⟨Nat.lt_of_lt_of_le h1 (by decide),Nat.lt_of_lt_of_le h2 (by decide),h3,h4⟩
  have fpart:Fr 10 (KM.low w2 12):=.low (show w2.natAbs<2 ^ 10 by trivial) (show (12:Int).natAbs<2 ^ 10 by decide) (by decide)
  have pick:bE fun os sh=>mh ([V.ref o1,V.ref o2,V.ref o3,V.ref o4,V.ref op]:List V) w1=some (.ref os)∧J5 os=some (fr sh)∧Fr 10 sh:=by
   rcases (show w1=0∨w1=1∨w1=2∨w1=3∨w1=4 by trivial) with rfl | rfl | rfl | rfl | rfl
   ·exact ⟨o1,(0,1),rfl,(((m2.sm.trans m3.sm).trans m4.sm).trans m5.sm) _ _ m1.at',small 0 1 (by decide) (by decide) (by decide) (by decide)⟩
   ·exact ⟨o2,(1,1),rfl,((m3.sm.trans m4.sm).trans m5.sm) _ _ m2.at',small 1 1 (by decide) (by decide) (by decide) (by decide)⟩
   ·exact ⟨o3,(3,2),rfl,(m4.sm.trans m5.sm) _ _ m3.at',small 3 2 (by decide) (by decide) (by decide) (by decide)⟩
   ·exact ⟨o4,(-1,2),rfl,m5.sm _ _ m4.at',small (-1) 2 (by decide) (by decide) (by decide) (by decide)⟩
   ·exact ⟨op,(),hop,fpart⟩
  obtain ⟨os,sh,eat,hos,fsh⟩:=pick
  have sm5:ad G2 J5:=((((mp.sm.trans m1.sm).trans m2.sm).trans m3.sm).trans m4.sm).trans m5.sm
  have sG5:ao (Eb b) G J5:=(sG1.trans sG2).trans sm5.toE
  have sE5:ao EE G J5:=⟨fun x o n e=>sG5.old x o (fun z=>n (.inl z)) e,sG5.tup⟩
  have iB5:=iB.mono sE5
  have hd5:=hdG.mono (wB sG5)
  have B5':=BG2.same sm5
  refine ⟨(),L5,_,_,(),rfl,ah.of m5.at',eat,n6 _ _ ?_⟩
  refine ⟨(),(),dv,y,d,bk,EE,rfl,hd5,iB5,gd,gB.mono (by decide) (by decide),fun K1 t1=>?_⟩
  refine ⟨_,(),rfl,(),bZ (fun c=>absurd c (by decide)) fun c=>?_⟩
  refine ⟨(),(),(),dv,y,os,d,bk,EE,sh,rfl,hd5.mono t1.toE,iB5.mono t1.toE,gd,gB,t1 _ _ hos,fsh,fun K2 t2=>⟨(),ce ⟨_,_,_,_,t10,rfl,B5'.same (t1.trans t2),by trivial,by trivial,(sG.trans sG5).trans (t1.trans t2).toE⟩⟩⟩
end
end K55
namespace K55
open PySem L2
set_option maxHeartbeats 0 in
theorem txt_of {K:PySem.W.Frag}{h:Heap}{mg:Str→Option Value} (y:obs K=due) (X:K.In h) (G:h.Ns mainGlobals mg):∃T:Txt K mg,∀(s:Shared) (u:Value),BindsTo s T.law_.d ⟨[u],[]⟩ [("_law_script",u)]:=by
 have e:∀i,(obs K).1.getD i none=due.1.getD i none:=fun i=>by rw [y]
 have b:∀i,(obs K).2.getD i true=due.2.getD i true:=fun i=>by rw [y]
 refine ⟨{
  b_abs:=PySem.W.mg_none_of X G (cF (b 0)),
  b_all:=PySem.W.mg_none_of X G (cF (b 1)),
  b_bool:=PySem.W.mg_none_of X G (cF (b 2)),
  b_divmod:=PySem.W.mg_none_of X G (cF (b 3)),
  b_enumerate:=PySem.W.mg_none_of X G (cF (b 4)),
  b_int:=PySem.W.mg_none_of X G (cF (b 5)),
  b_isinstance:=PySem.W.mg_none_of X G (cF (b 6)),
  b_len:=PySem.W.mg_none_of X G (cF (b 7)),
  b_list:=PySem.W.mg_none_of X G (cF (b 8)),
  b_max:=PySem.W.mg_none_of X G (cF (b 9)),
  b_min:=PySem.W.mg_none_of X G (cF (b 10)),
  b_range:=PySem.W.mg_none_of X G (cF (b 11)),
  b_repr:=PySem.W.mg_none_of X G (cF (b 12)),
  b_tuple:=PySem.W.mg_none_of X G (cF (b 13)),
  b_zip:=PySem.W.mg_none_of X G (cF (b 14)),
  is_number_:=⟨_,_,PySem.W.mg_of X G (aU (e 0)),ap (e 0),(ap (e 0)).binds (ps:=["thing"]) fun _ _ _ _ _ _=>lH (fun _=>rfl)⟩,
  common_divisor_:=⟨_,_,PySem.W.mg_of X G (aU (e 1)),ap (e 1),(ap (e 1)).binds (ps:=["n", "d"]) fun _ _ _ _ _ _=>dh (fun _ _=>rfl)⟩,
  is_fraction_:=⟨_,_,PySem.W.mg_of X G (aU (e 2)),ap (e 2),(ap (e 2)).binds (ps:=["thing"]) fun _ _ _ _ _ _=>lH (fun _=>rfl)⟩,
  is_from_nought_:=⟨_,_,PySem.W.mg_of X G (aU (e 3)),ap (e 3),(ap (e 3)).binds (ps:=["thing"]) fun _ _ _ _ _ _=>lH (fun _=>rfl)⟩,
  fraction_:=⟨_,_,PySem.W.mg_of X G (aU (e 4)),ap (e 4),(ap (e 4)).binds (ps:=["n", "d"]) fun _ _ _ _ _ _=>dh (fun _ _=>rfl)⟩,
  added_:=⟨_,_,PySem.W.mg_of X G (aU (e 5)),ap (e 5),(ap (e 5)).binds (ps:=["one", "other"]) fun _ _ _ _ _ _=>dh (fun _ _=>rfl)⟩,
  taken_:=⟨_,_,PySem.W.mg_of X G (aU (e 6)),ap (e 6),(ap (e 6)).binds (ps:=["one", "other"]) fun _ _ _ _ _ _=>dh (fun _ _=>rfl)⟩,
  times_:=⟨_,_,PySem.W.mg_of X G (aU (e 7)),ap (e 7),(ap (e 7)).binds (ps:=["one", "other"]) fun _ _ _ _ _ _=>dh (fun _ _=>rfl)⟩,
  compared_:=⟨_,_,PySem.W.mg_of X G (aU (e 8)),ap (e 8),(ap (e 8)).binds (ps:=["one", "other"]) fun _ _ _ _ _ _=>dh (fun _ _=>rfl)⟩,
  sum_of_:=⟨_,_,PySem.W.mg_of X G (aU (e 9)),ap (e 9),(ap (e 9)).binds (ps:=["parts"]) fun _ _ _ _ _ _=>lH (fun _=>rfl)⟩,
  goes_within_:=⟨_,_,PySem.W.mg_of X G (aU (e 10)),ap (e 10),(ap (e 10)).binds (ps:=["thing", "most"]) fun _ _ _ _ _ _=>dh (fun _ _=>rfl)⟩,
  is_tuple_of_:=⟨_,_,PySem.W.mg_of X G (aU (e 11)),ap (e 11),(ap (e 11)).binds (ps:=["thing", "size"]) fun _ _ _ _ _ _=>dh (fun _ _=>rfl)⟩,
  are_within_:=⟨_,_,PySem.W.mg_of X G (aU (e 12)),ap (e 12),(ap (e 12)).binds (ps:=["thing", "mosts"]) fun _ _ _ _ _ _=>dh (fun _ _=>rfl)⟩,
  may_send_:=⟨_,_,PySem.W.mg_of X G (aU (e 13)),ap (e 13),(ap (e 13)).binds (ps:=["day", "tie", "hour"]) fun _ _ _ _ _ _=>mJ (fun _ _ _=>rfl)⟩,
  tie_mosts_:=⟨_,_,PySem.W.mg_of X G (aU (e 14)),ap (e 14),(ap (e 14)).binds (ps:=["day", "tie"]) fun _ _ _ _ _ _=>dh (fun _ _=>rfl)⟩,
  store_mosts_:=⟨_,_,PySem.W.mg_of X G (aU (e 15)),ap (e 15),(ap (e 15)).binds (ps:=["day", "store"]) fun _ _ _ _ _ _=>dh (fun _ _=>rfl)⟩,
  are_hourly_:=⟨_,_,PySem.W.mg_of X G (aU (e 16)),ap (e 16),(ap (e 16)).binds (ps:=["thing", "mosts"]) fun _ _ _ _ _ _=>dh (fun _ _=>rfl)⟩,
  is_book_:=⟨_,_,PySem.W.mg_of X G (aU (e 17)),ap (e 17),(ap (e 17)).binds (ps:=["day", "thing"]) fun _ _ _ _ _ _=>dh (fun _ _=>rfl)⟩,
  comes_at_:=⟨_,_,PySem.W.mg_of X G (aU (e 18)),ap (e 18),(ap (e 18)).binds (ps:=["day", "book", "place", "hour"]) fun _ _ _ _ _ _=>Aa (fun _ _ _ _=>rfl)⟩,
  goes_at_:=⟨_,_,PySem.W.mg_of X G (aU (e 19)),ap (e 19),(ap (e 19)).binds (ps:=["day", "book", "place", "hour"]) fun _ _ _ _ _ _=>Aa (fun _ _ _ _=>rfl)⟩,
  wished_in_:=⟨_,_,PySem.W.mg_of X G (aU (e 20)),ap (e 20),(ap (e 20)).binds (ps:=["day", "place", "hour"]) fun _ _ _ _ _ _=>mJ (fun _ _ _=>rfl)⟩,
  hour_sum_:=⟨_,_,PySem.W.mg_of X G (aU (e 21)),ap (e 21),(ap (e 21)).binds (ps:=["day", "book", "place", "hour", "share"]) fun _ _ _ _ _ _=>GV (fun _ _ _ _ _=>rfl)⟩,
  adds_up_:=⟨_,_,PySem.W.mg_of X G (aU (e 22)),ap (e 22),(ap (e 22)).binds (ps:=["day", "book", "share"]) fun _ _ _ _ _ _=>mJ (fun _ _ _=>rfl)⟩,
  day_price_:=⟨_,_,PySem.W.mg_of X G (aU (e 23)),ap (e 23),(ap (e 23)).binds (ps:=["day", "book"]) fun _ _ _ _ _ _=>dh (fun _ _=>rfl)⟩,
  l_box_:=⟨_,_,PySem.W.mg_of X G (aU (e 24)),ap (e 24),(ap (e 24)).binds (ps:=["_law_script", "_law_k"]) fun _ _ _ _ _ _=>dh (fun _ _=>rfl)⟩,
  l_take_:=⟨_,_,PySem.W.mg_of X G (aU (e 25)),ap (e 25),(ap (e 25)).binds (ps:=["_law_box_here", "_law_many"]) fun _ _ _ _ _ _=>dh (fun _ _=>rfl)⟩,
  l_boxes_:=⟨_,_,PySem.W.mg_of X G (aU (e 26)),ap (e 26),(ap (e 26)).binds (ps:=["_law_script", "_law_cap"]) fun _ _ _ _ _ _=>dh (fun _ _=>rfl)⟩,
  l_fr_:=⟨_,_,PySem.W.mg_of X G (aU (e 27)),ap (e 27),(ap (e 27)).binds (ps:=["_law_top", "_law_bottom"]) fun _ _ _ _ _ _=>dh (fun _ _=>rfl)⟩,
  l_plus_:=⟨_,_,PySem.W.mg_of X G (aU (e 28)),ap (e 28),(ap (e 28)).binds (ps:=["_law_one", "_law_other", "_law_by_here"]) fun _ _ _ _ _ _=>mJ (fun _ _ _=>rfl)⟩,
  l_by_:=⟨_,_,PySem.W.mg_of X G (aU (e 29)),ap (e 29),(ap (e 29)).binds (ps:=["_law_one", "_law_other"]) fun _ _ _ _ _ _=>dh (fun _ _=>rfl)⟩,
  l_names_:=⟨_,_,PySem.W.mg_of X G (aU (e 30)),ap (e 30),(ap (e 30)).binds (ps:=["_law_box_here", "_law_many"]) fun _ _ _ _ _ _=>dh (fun _ _=>rfl)⟩,
  l_gain_:=⟨_,_,PySem.W.mg_of X G (aU (e 31)),ap (e 31),(ap (e 31)).binds (ps:=["_law_box_here"]) fun _ _ _ _ _ _=>lH (fun _=>rfl)⟩,
  l_much_:=⟨_,_,PySem.W.mg_of X G (aU (e 32)),ap (e 32),(ap (e 32)).binds (ps:=["_law_box_here"]) fun _ _ _ _ _ _=>lH (fun _=>rfl)⟩,
  l_cost_:=⟨_,_,PySem.W.mg_of X G (aU (e 33)),ap (e 33),(ap (e 33)).binds (ps:=["_law_box_here"]) fun _ _ _ _ _ _=>lH (fun _=>rfl)⟩,
  l_day_:=⟨_,_,PySem.W.mg_of X G (aU (e 34)),ap (e 34),(ap (e 34)).binds (ps:=["_law_box_here"]) fun _ _ _ _ _ _=>lH (fun _=>rfl)⟩,
  l_day_tie_:=⟨_,_,PySem.W.mg_of X G (aU (e 35)),ap (e 35),(ap (e 35)).binds (ps:=["_law_box_here", "_law_names_here", "_law_hours"]) fun _ _ _ _ _ _=>mJ (fun _ _ _=>rfl)⟩,
  l_may_:=⟨_,_,PySem.W.mg_of X G (aU (e 36)),ap (e 36),(ap (e 36)).binds (ps:=["_law_day_here", "_law_row", "_law_hour"]) fun _ _ _ _ _ _=>mJ (fun _ _ _=>rfl)⟩,
  l_sums_:=⟨_,_,PySem.W.mg_of X G (aU (e 37)),ap (e 37),(ap (e 37)).binds (ps:=["_law_day_here", "_law_book", "_law_share"]) fun _ _ _ _ _ _=>mJ (fun _ _ _=>rfl)⟩,
  l_price_:=⟨_,_,PySem.W.mg_of X G (aU (e 38)),ap (e 38),(ap (e 38)).binds (ps:=["_law_day_here", "_law_book"]) fun _ _ _ _ _ _=>dh (fun _ _=>rfl)⟩,
  l_any_book_:=⟨_,_,PySem.W.mg_of X G (aU (e 39)),ap (e 39),(ap (e 39)).binds (ps:=["_law_box_here", "_law_day_here"]) fun _ _ _ _ _ _=>dh (fun _ _=>rfl)⟩,
  l_halves_:=⟨_,_,PySem.W.mg_of X G (aU (e 40)),ap (e 40),(ap (e 40)).binds (ps:=["_law_one", "_law_other"]) fun _ _ _ _ _ _=>dh (fun _ _=>rfl)⟩,
  l_right_:=⟨_,_,PySem.W.mg_of X G (aU (e 41)),ap (e 41),(ap (e 41)).binds (ps:=["_law_day_here", "_law_book", "_law_share"]) fun _ _ _ _ _ _=>mJ (fun _ _ _=>rfl)⟩,
  l_doubled_:=⟨_,_,PySem.W.mg_of X G (aU (e 42)),ap (e 42),(ap (e 42)).binds (ps:=["_law_day_here"]) fun _ _ _ _ _ _=>lH (fun _=>rfl)⟩,
  law_:=⟨_,_,PySem.W.mg_of X G (aU (e 43)),ap (e 43),(ap (e 43)).binds (ps:=["_law_script"]) fun _ _ _ _ _ _=>lH (fun _=>rfl)⟩ },fun s u=>?_⟩
 obtain ⟨_,_,_,_,_,_,_,_,_,z,_⟩:=(ap (e 43):wK K "law" "law" cB _ _).ex
 show BindsTo s (gO K (PySem.W.nsIn K mainGlobals "law")) _ _
 rw [z]
 exact .of_eq rfl
end K55
open PySem PySem.W PyProof.Rows
set_option maxRecDepth 100000 in
set_option maxHeartbeats 0 in
theorem PySem.Challenge.cw_gainroads_k55_sums_of_hours_holds : PySem.Challenge.rw_gainroads_k55_sums_of_hours.Holds := by
 w_on;o_law
 refine holds_openX (q:=K55.qv) (loose:=[]) (Xt:=L2.Xt) (XP:=XL K55.qv []) (Yf:=L2.Yf) (Ya:=fun _=>K55.due) (N:=2816) (L2.left_tree rfl rfl (fun _=>rfl) L2.left) (fun s e=>xl_of s (Bool.and_eq_true_iff.mp e).1) XL.keeps (by rfl) (by rfl) (by rfl) (fun s e=>recFacts_of (Bool.and_eq_true_iff.mp e).2) (by rfl) (by first | assumption | decide +kernel) (by nofun) ⟨rfl,rfl,rfl,rfl,rfl,by nofun⟩ ?hw ?hc
 case hw=>w_witness2
 refine L2.walk_ofY (obs:=K55.obs) (due:=K55.due) (l:=PySem.Challenge.rw_gainroads_k55_sums_of_hours) (n:=63) (k:=40) (x := "_law_script") (CX:=L2.CX0) (sp:=K55.spLaw) rfl (by decide) rfl ⟨rfl,by decide,by decide,rfl⟩ ?F ?S ?C
 case F=>
  intro K w mg fa h y KX G hmg
  obtain ⟨T,hb⟩:=K55.txt_of y KX G
  have e0:=hmg.symm.trans T.law_.m
  cases e0
  exact ⟨T.law_.d,hb,fun base kb nb=>K55.law_ok T⟩
 case S=>exact fun K H a ns hl hO hS=>K55.law_start hl hO hS
 case C=>exact fun _ _ _ _ z=>z
