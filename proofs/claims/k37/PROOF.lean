import PyProof.Rows.All
import Wide.All
import OpenK.AllK
import Wide.FinOn
import Lean
import PyProof.EqAt
import PyProof.EqKinds
import PyProof.TupleCall
import PyProof.CompFree
import PyProof.CompMap
import KE.LcSums
import PyProof.ZipIter
import PyProof.Draws
import KE.KRevSl
import KE.KListMore
import PyProof.Rows.StrJoin2
import PyProof.Rows.StrFin3
import PyProof.StrOps2
import PyProof.NeData
import PyProof.P3Eq
import PyProof.StrLawsRepr
import PyProof.ReprLen
import PyProof.Rows.IntBool
import PyProof.SliceStr2
import PyProof.P3In
import PyProof.Rows.StrLen
import KE.KStrOpen
import PyProof.FitsInt
import PyProof.Rows.ReprOcc
import PyProof.ListRange
import PyProof.AttrMissHeap
import PyProof.FactsAll.zip
import PyProof.FactsAll.tuple_3
import KE.KDictOf
import PyProof.SeqRoads2
import PyProof.DictCompW
import PyProof.Rows.StrInSeq3
import OpenK.KOwn
import KE.KIsAll
import KE.KTryMore
import PyProof.StationsW
import PyProof.RulesAs
import PyProof.NsDelKeeps
import KE.KDictSum
import KE.KIntText
import PyProof.StrCalls2
import PyProof.Rows.StrItems
import PyProof.DictUpdate
import PySem.Challenge.RW_gainroads_k37_deeds_of_roads
set_option Elab.async false
set_option linter.all false
set_option maxRecDepth 100000
local macro_rules | `(tactic| nofun)=>`(tactic| decide +kernel)
local macro_rules | `(⟨$xs,*⟩)=>do
 let es:=xs.getElems
 unless es.any (fun e=>match e with | `(())=>true | _=>false) do Lean.Macro.throwUnsupported
 let mut o:=#[]
 for e in es do
  match e with
  | `(())=>o:=(o.push (←`(_))).push (←`(rfl))
  | _=>o:=o.push e
 `(⟨$o,*⟩)
set_option genSizeOf false
set_option genInjectivity false
namespace L2
inductive bn {α0 α1:Type} (p:α0→α1→Prop):Prop
 | mk (a0:α0) (a1:α1) (h:p a0 a1)
inductive ic {α0 α1 α2:Type} (p:α0→α1→α2→Prop):Prop
 | mk (a0:α0) (a1:α1) (a2:α2) (h:p a0 a1 a2)
inductive nZ {α0 α1 α2 α3:Type} (p:α0→α1→α2→α3→Prop):Prop
 | mk (a0:α0) (a1:α1) (a2:α2) (a3:α3) (h:p a0 a1 a2 a3)
inductive xZ {α0 α1 α2 α3 α4:Type} (p:α0→α1→α2→α3→α4→Prop):Prop
 | mk (a0:α0) (a1:α1) (a2:α2) (a3:α3) (a4:α4) (h:p a0 a1 a2 a3 a4)
inductive Az {α0 α1 α2 α3 α4 α5:Type} (p:α0→α1→α2→α3→α4→α5→Prop):Prop
 | mk (a0:α0) (a1:α1) (a2:α2) (a3:α3) (a4:α4) (a5:α5) (h:p a0 a1 a2 a3 a4 a5)
inductive CG {α0 α1 α2 α3 α4 α5 α6:Type} (p:α0→α1→α2→α3→α4→α5→α6→Prop):Prop
 | mk (a0:α0) (a1:α1) (a2:α2) (a3:α3) (a4:α4) (a5:α5) (a6:α6) (h:p a0 a1 a2 a3 a4 a5 a6)
inductive DD {α0 α1 α2 α3 α4 α5 α6 α7 α8:Type} (p:α0→α1→α2→α3→α4→α5→α6→α7→α8→Prop):Prop
 | mk (a0:α0) (a1:α1) (a2:α2) (a3:α3) (a4:α4) (a5:α5) (a6:α6) (a7:α7) (a8:α8) (h:p a0 a1 a2 a3 a4 a5 a6 a7 a8)
end L2
set_option genSizeOf true
set_option genInjectivity true
local macro_rules | `(tactic| trivial)=>`(tactic| first | lia | omega)
namespace L2
open PySem PySem.Spec PyProof.Rows
abbrev aS:=Sum Int Str
def lK:aS→Value→Bool
 | .inl k,v=>Value.isInt k v
 | .inr x,v=>Value.isStrOf x v
def CT (w:World):aS→Int
 | .inl k=>hashInt k
 | .inr x=>hashStr w x
theorem cj:∀{k:aS}{v:Value},lK k v=true→(bn fun i t=>k=Sum.inl i∧v=Value.int i t)∨(bn fun x t=>k=Sum.inr x∧v=Value.str x t)
 | .inl i,v,h=>by
  obtain ⟨t,e⟩:=Value.isInt_shape (k:=i) (v:=v) h
  exact .inl ⟨i,t,rfl,e⟩
 | .inr x,v,h=>by
  obtain ⟨t,e⟩:=Value.isStrOf_shape (x:=x) (v:=v) h
  exact .inr ⟨x,t,rfl,e⟩
theorem vw (i:Int) (t:Tok):lK (.inl i) (.int i t)=true:=by simp [lK,Value.isInt]
theorem u8 (x:Str) (t:Tok):lK (.inr x) (.str x t)=true:=by simp [lK,Value.isStrOf]
theorem AC (a b:Int):decide ((Sum.inl a:aS)=Sum.inl b)=(a==b):=by
 by_cases e:a=b
 ·subst e;simp
 ·have h:¬(Sum.inl a:aS)=Sum.inl b:=fun q=>e (Sum.inl.inj q)
  rw [decide_eq_false h]
  exact (beq_eq_false_iff_ne.mpr e).symm
theorem zI (a b:Str):decide ((Sum.inr a:aS)=Sum.inr b)=decide (a=b):=by
 by_cases e:a=b
 ·subst e;simp
 ·have h:¬(Sum.inr a:aS)=Sum.inr b:=fun q=>e (Sum.inr.inj q)
  rw [decide_eq_false h,decide_eq_false e]
theorem A2 (a:Int) (b:Str):decide ((Sum.inl a:aS)=Sum.inr b)=false:=decide_eq_false (fun q=>nomatch q)
theorem Be (a:Str) (b:Int):decide ((Sum.inr a:aS)=Sum.inl b)=false:=decide_eq_false (fun q=>nomatch q)
def iC (prog:Program) (w:World):PySem.KeyKind prog w aS where
 is:=lK
 hash:=CT w
 inj:=fun v a b ha hb=>by
  rcases cj ha with ⟨i,t,rfl,rfl⟩ | ⟨x,t,rfl,rfl⟩
  ·rcases cj hb with ⟨j,u,rfl,e⟩ | ⟨y,u,rfl,e⟩
   ·injection e with e1 _;rw [e1]
   ·exact nomatch e
  ·rcases cj hb with ⟨j,u,rfl,e⟩ | ⟨y,u,rfl,e⟩
   ·exact nomatch e
   ·injection e with e1 _;rw [e1]
 byValue:=fun k v h=>by
  rcases cj h with ⟨i,t,rfl,rfl⟩ | ⟨x,t,rfl,rfl⟩ <;> rfl
 pyHash:=fun hv h=>by
  rcases cj hv with ⟨i,t,rfl,rfl⟩ | ⟨x,t,rfl,rfl⟩
  ·exact wpAny_pyHash_int h
  ·exact wpAny_pyHash_str h
 eqBool:=fun hu hv h=>by
  rcases cj hu with ⟨i,t,rfl,rfl⟩ | ⟨x,t,rfl,rfl⟩
  ·rcases cj hv with ⟨j,u,rfl,rfl⟩ | ⟨y,u,rfl,rfl⟩
   ·rw [AC] at h;exact wpAny_eqBool_int h
   ·rw [A2] at h;exact SeqAt.EqAt.int_str i t y u _ _ _ _ h
  ·rcases cj hv with ⟨j,u,rfl,rfl⟩ | ⟨y,u,rfl,rfl⟩
   ·rw [Be] at h;exact SeqAt.EqAt.str_int x t j u _ _ _ _ h
   ·rw [zI] at h;exact wpAny_eqBool_str h
 «strs»:=fun k x t v h=>by
  rcases cj h with ⟨i,u,rfl,e⟩ | ⟨y,u,rfl,e⟩
  ·exact nomatch e
  ·injection e with e1 _
   subst e1
   cases v <;> rfl
inductive V where
 | non | bl (b:Bool) | int (i:Int) | str (x:Str) | byt (b:Array UInt8) | flt (b:UInt64) | ref (a:Addr) | ty (n:String)
 deriving DecidableEq
def aM:V→Value→Prop
 | .non,u=>u=Value.none
 | .bl b,u=>u=Value.bool b
 | .int i,u=>∃t,u=Value.int i t
 | .str x,u=>∃t,u=Value.str x t
 | .byt b,u=>∃t,u=Value.bytes b t
 | .flt b,u=>∃t,u=Value.float b t
 | .ref a,u=>u=Value.ref a
 | .ty n,u=>u=Value.type n
abbrev aq:List V→List Value→Prop:=Paired aM
theorem aq.length {xs:List V}{us:List Value} (r:aq xs us):xs.length=us.length:=Paired.length r
theorem aq.get:∀{xs:List V}{us:List Value}{i:Nat}{x:V},aq xs us→xs[i]?=some x→∃u,us[i]?=some u∧aM x u
 | _,_,_,_,.nil,e=>by simp at e
 | _,_,0,_,.cons r _,e=>by simp at e;subst e;exact ⟨_,rfl,r⟩
 | _,_,i+1,x,.cons _ t,e=>by
  obtain ⟨u,h1,h2⟩:=aq.get (i:=i) (x:=x) t (by simpa using e)
  exact ⟨u,by simpa using h1,h2⟩
theorem aq.set {x:V}{u:Value} (r:aM x u):∀{xs:List V}{us:List Value} (i:Nat),aq xs us→aq (xs.set i x) (us.set i u)
 | _,_,_,.nil=>.nil
 | _,_,0,.cons _ t=>.cons r t
 | _,_,i+1,.cons q t=>.cons q (aq.set r i t)
theorem aq.append:∀{xs ys:List V}{us ws:List Value},aq xs us→aq ys ws→aq (xs++ys) (us++ws)
 | _,_,_,_,.nil,s=>s
 | _,_,_,_,.cons r t,s=>.cons r (aq.append t s)
theorem aq.take:∀{xs:List V}{us:List Value} (n:Nat),aq xs us→aq (xs.take n) (us.take n)
 | _,_,0,_=>.nil
 | _,_,_+1,.nil=>.nil
 | _,_,n+1,.cons r t=>.cons r (aq.take n t)
theorem aq.drop:∀{xs:List V}{us:List Value} (n:Nat),aq xs us→aq (xs.drop n) (us.drop n)
 | _,_,0,r=>r
 | _,_,_+1,.nil=>.nil
 | _,_,n+1,.cons _ t=>aq.drop n t
def i7:Option V→Option Value→Prop
 | some v,some u=>aM v u
 | none,none=>True
 | _,_=>False
def KV {κ:Type}:List (κ×V)→List (κ×Value)→Prop:=Paired fun (p:κ×V) (q:κ×Value)=>p.1=q.1∧aM p.2 q.2
def kV:aS→V
 | .inl i=>.int i
 | .inr x=>.str x
inductive HO where
 | lst (xs:List V)
 | tup (xs:List V)
 | dK (kvs:List (aS×V)) | dT (kvs:List (List aS×V))
 | set (S:Int→Bool) (n:Nat)
 | ins (C dx:Addr) (fs:List (Str×V))
 | own (x:Addr)
 | xd (fs:List (Str×V))
 | met (f x:Addr)
 | rng (lo hi:Int)
 | frz (o:Obj) (u:HO)
 | tbl (ps:Array Value)
 | ext (φ:Heap→Prop)
abbrev Hp:=Addr→Option HO
def aI (H:Hp) (a:Addr) (o:HO):Hp:=fun b=>if b=a then some o else H b
theorem az {H:Hp}{a:Addr}{o:HO}:aI H a o a=some o:=by unfold aI;rw [if_pos rfl]
theorem ak {H:Hp}{a b:Addr}{o:HO} (h:b≠a):aI H a o b=H b:=by unfold aI;rw [if_neg h]
theorem nu {H:Hp}{a b:Addr}{o u:HO} (h:H a=some o) (h':H b=some u) (d:o≠u):a≠b:=by
 intro e;subst e;rw [h] at h';exact d (Option.some.inj h')
theorem aE {H:Hp}{a b:Addr}{o:HO} (h:H a=some o) (h':H b=none):a≠b:=by
 intro e;subst e;rw [h] at h';cases h'
section
variable (P:Program) (w:World)
def be (H:Hp) (h:Heap) (a:Addr):HO→Prop
 | .lst xs=>xs.length≤sizeLine∧bn fun (its:List Value) (n:Nat)=>aq xs its∧h.get? a=some { cls:=.type "list",data:=.seq its.toArray n }
 | .tup xs=>xs.length≤sizeLine∧∃its:List Value,aq xs its∧IsTup h a its.toArray∧∃o,h.get? a=some o∧o.dict=none
 | .dK kvs=>kvs.length≤sizeLine∧(a==sysModules)=false∧∃vs,KV kvs vs∧h.DictOf (iC P w) a vs
 | .dT kvs=>kvs.length≤sizeLine∧(a==sysModules)=false∧∃xs:List (List aS×Addr×Value),
  Paired (fun (p:List aS×V) (q:List aS×Addr×Value)=>p.1=q.1∧H q.2.1=some (.tup (p.1.map kV))∧aM p.2 q.2.2) kvs xs∧
  ic fun o es ep=>h.get? a=some o∧o.ExactDict∧o.data=.dict es ep∧es.toList=xs.map (entryOfKey (tupleKind (iC P w)))∧(xs.map (·.1)).Nodup
 | .set S n=>h.SetOf (intKind P w) a S n
 | .ins C dx fs=>H dx=some (.own a)∧fs.length≤1000∧dx≠a∧h.get? a=some (PySem.W.instObj C dx)∧
  ∃mA,h.Ns1 dx mA∧(∀f,i7 (fs.lookup f) (mA f))∧PySem.Within mA (fs.map (·.1))
 | .own _=>∃o,h.get? a=some o
 | .xd fs=>∃mA,h.Ns1 a mA∧∀f,i7 (fs.lookup f) (mA f)
 | .rng lo hi=>ic fun t u v=>h.get? a=some { cls:=.type "range",data:=.fields #[.int lo t,.int hi u,.int 1 v] }
 | .frz o u=>h.get? a=some o∧be H h a u
 | .tbl ps=>h.get? a=some { cls:=.none,data:=.fields ps }
 | .met f x=>h.get? a=some (PySem.W.methodObj (.ref f) (.ref x))
 | .ext φ=>φ h∧(∃o,h.get? a=some o)∧∀h1 h2:Heap,φ h1→(∀o,h1.get? a=some o→h2.get? a=some o)→φ h2
def cE (H:Hp) (h:Heap):Prop:=∀a o,H a=some o→be P w H h a o
end
section
variable {P:Program}{w:World}{H H':Hp}{h h':Heap}{a:Addr}{o:HO}
theorem be.lt (x:be P w H h a o):a<h.objs.size:=by
 cases o with
 | lst xs=>obtain ⟨_,_,_,_,e⟩:=x;exact Heap.lt_size e
 | tup xs=>obtain ⟨_,_,_,p,_⟩:=x;exact p.lt
 | dK kvs=>obtain ⟨_,_,_,_,o,_,_,e,_⟩:=x;exact Heap.lt_size e
 | dT kvs=>obtain ⟨_,_,_,_,o,_,_,e,_⟩:=x;exact Heap.lt_size e
 | set S n=>obtain ⟨o,_,_,_,e,_⟩:=x;exact Heap.lt_size e
 | ins C dx fs=>obtain ⟨_,_,_,e,_⟩:=x;exact Heap.lt_size e
 | own y=>obtain ⟨_,e⟩:=x;exact Heap.lt_size e
 | xd fs=>obtain ⟨_,⟨_,_,_,e,_⟩,_⟩:=x;exact Heap.lt_size e
 | rng lo hi=>obtain ⟨_,_,_,e⟩:=x;exact Heap.lt_size e
 | frz ob u=>obtain ⟨e,_⟩:=x;exact Heap.lt_size e
 | tbl ps=>exact Heap.lt_size (show h.get? a=some _ from x)
 | met f y=>exact Heap.lt_size (show h.get? a=some _ from x)
 | ext φ=>obtain ⟨_,⟨_,e⟩,_⟩:=x;exact Heap.lt_size e
theorem Paired.mapP {α β:Type}{F G:α→β→Prop}:∀{l₁:List α}{l₂:List β},Paired F l₁ l₂→(∀a b,F a b→G a b)→Paired G l₁ l₂
 | _,_,.nil,_=>.nil
 | _,_,.cons r t,f=>.cons (f _ _ r) (Paired.mapP t f)
theorem be.stay (x:be P w H h a o) (k:∀b u,(b=a∨H b=some (.own a))→h.get? b=some u→h'.get? b=some u)
 (ho:∀b,H b=some (.own a)→H' b=some (.own a)) (ht:∀b xs,H b=some (.tup xs)→H' b=some (.tup xs)):be P w H' h' a o:=by
 induction o with
 | lst xs=>obtain ⟨z,its,n,r,e⟩:=x;exact ⟨z,its,n,r,k _ _ (.inl rfl) e⟩
 | tup xs=>obtain ⟨z,its,r,⟨ob,e,c⟩,od,e',c'⟩:=x;exact ⟨z,its,r,⟨ob,k _ _ (.inl rfl) e,c⟩,od,k _ _ (.inl rfl) e',c'⟩
 | dK kvs=>obtain ⟨z,y,vs,r,ob,es,ep,e,c⟩:=x;exact ⟨z,y,vs,r,ob,es,ep,k _ _ (.inl rfl) e,c⟩
 | dT kvs=>
  obtain ⟨z,y,xs,r,ob,es,ep,e,c⟩:=x
  exact ⟨z,y,xs,Paired.mapP r fun p q z=>⟨z.1,ht _ _ z.2.1,z.2.2⟩,ob,es,ep,k _ _ (.inl rfl) e,c⟩
 | set S n=>obtain ⟨ob,es,ep,t,e,c⟩:=x;exact ⟨ob,es,ep,t,k _ _ (.inl rfl) e,c⟩
 | ins C dx fs=>
  obtain ⟨d,z,ne,e,mA,⟨od,es,ep,e2,c⟩,r⟩:=x
  exact ⟨ho _ d,z,ne,k _ _ (.inl rfl) e,mA,⟨od,es,ep,k _ _ (.inr d) e2,c⟩,r⟩
 | own y=>obtain ⟨ob,e⟩:=x;exact ⟨ob,k _ _ (.inl rfl) e⟩
 | xd fs=>obtain ⟨mA,⟨od,es,ep,e,c⟩,r⟩:=x;exact ⟨mA,⟨od,es,ep,k _ _ (.inl rfl) e,c⟩,r⟩
 | rng lo hi=>obtain ⟨t,u,v,e⟩:=x;exact ⟨t,u,v,k _ _ (.inl rfl) e⟩
 | frz ob u ih=>obtain ⟨e,q⟩:=x;exact ⟨k _ _ (.inl rfl) e,ih q⟩
 | tbl ps=>
  have e:h.get? a=some { cls:=.none,data:=.fields ps }:=x
  show h'.get? a=some { cls:=.none,data:=.fields ps }
  exact k a _ (.inl rfl) e
 | met f y=>
  have e:h.get? a=some (PySem.W.methodObj (.ref f) (.ref y)):=x
  show h'.get? a=some (PySem.W.methodObj (.ref f) (.ref y))
  exact k a _ (.inl rfl) e
 | ext φ=>obtain ⟨p,⟨o,e⟩,st⟩:=x;exact ⟨st _ _ p fun o q=>k _ _ (.inl rfl) q,⟨o,k _ _ (.inl rfl) e⟩,st⟩
theorem cE.lt (x:cE P w H h) (e:H a=some o):a<h.objs.size:=(x a o e).lt
theorem cE.fresh (x:cE P w H h) (e:h.objs.size≤a):H a=none:=by
 cases q:H a with
 | none=>rfl
 | some u=>exact absurd (Nat.lt_of_lt_of_le (x.lt q) e) (Nat.lt_irrefl _)
theorem cE.kept (x:cE P w H h) (k:∀b u,h.get? b=some u→h'.get? b=some u):cE P w H h':=fun a o e=>
 (x a o e).stay (fun b u _ q=>k b u q) (fun _ q=>q) fun _ _ q=>q
theorem cE.laid (x:cE P w H h) (k:∀b u,h.get? b=some u→h'.get? b=some u) (hp:h.objs.size≤a) (new:be P w (aI H a o) h' a o):cE P w (aI H a o) h':=fun b u e=>by
 have hn:=x.fresh hp
 by_cases hb:b=a
 ·subst hb;rw [az] at e;cases e;exact new
 ·rw [ak hb] at e
  exact (x b u e).stay (fun c v _ q=>k c v q) (fun c q=>by rw [ak (aE q hn)];exact q) fun c xs q=>by rw [ak (aE q hn)];exact q
end
def Rd (H:Hp) (a:Addr) (u:HO):Prop:=H a=some u∨∃o,H a=some (.frz o u)
theorem Rd.ok {P:Program}{w:World}{H:Hp}{h:Heap}{a:Addr}{u:HO} (r:Rd H a u) (x:cE P w H h):be P w H h a u:=by
 rcases r with r | ⟨o,r⟩
 ·exact x a u r
 ·obtain ⟨_,q⟩:=x a _ r
  exact q
def x8:Option HO→Prop
 | some (.lst _)=>True
 | some (.dK _)=>True
 | some (.dT _)=>True
 | some (.set _ _)=>True
 | some (.ins _ _ _)=>True
 | some (.ext _)=>True
 | _=>False
section
variable {P:Program}{w:World}{H:Hp}{h h':Heap}{x e:Addr}{o':HO}
theorem cE.write (ok:cE P w H h) (mu:x8 (H x)) (he:e=x∨H e=some (.own x)) (k:∀b u,b≠e→h.get? b=some u→h'.get? b=some u) (heo:∃u,h'.get? e=some u)
 (new:be P w (aI H x o') h' x o'):cE P w (aI H x o') h':=fun b u q=>by
 have nown:∀c y,H c=some (.own y)→c≠x:=fun c y r z=>by subst z;rw [r] at mu;exact mu
 have ntup:∀c xs,H c=some (.tup xs)→c≠x:=fun c xs r z=>by subst z;rw [r] at mu;exact mu
 by_cases hb:b=x
 ·subst hb;rw [az] at q;cases q;exact new
 ·rw [ak hb] at q
  by_cases hbe:b=e
  ·have q':H b=some (.own x):=by
    rcases he with z | z
    ·exact absurd (hbe.trans z) hb
    ·rw [hbe];exact z
   rw [q] at q';cases q'
   obtain ⟨v,hv⟩:=heo
   exact ⟨v,by rw [hbe];exact hv⟩
  ·refine (ok b u q).stay (fun c v hc r=>k c v ?_ r) (fun c r=>by rw [ak (nown c b r)];exact r) fun c xs r=>by rw [ak (ntup c xs r)];exact r
   rcases hc with rfl | hc
   ·exact hbe
   ·rintro rfl
    rcases he with z | z
    ·exact nown c b hc z
    ·rw [hc] at z;cases z;exact hb rfl
end
structure Un (fs ex:List Addr) (H H':Hp) (h h':Heap):Prop where
 keep:∀b o,h.get? b=some o→H b=none→b∉fs→b∉ex→h'.get? b=some o
 slot:∀b o,h.get? b=some o→H b=none→b∈fs→b∉ex→∃sl,h'.get? b=some { o with slots:=sl }
 free:∀b o,h.get? b=some o→H b=none→b∉ex→H' b=none
 there:∀b o,h.get? b=some o→b∉ex→∃o',h'.get? b=some o'
 tups:∀b xs,H b=some (.tup xs)→H' b=some (.tup xs)
 frzs:∀b o u,H b=some (.frz o u)→H' b=some (.frz o u)
 tbls:∀b ps,H b=some (.tbl ps)→∃more,H' b=some (.tbl (ps++more))
section
variable {fs fs' ex ex':List Addr}{H H1 H2:Hp}{h h1 h2 h':Heap}{a x e:Addr}{o:HO}
theorem Un.any (u:Un fs ex H H1 h h1) {b:Addr}{ob:Obj} (q:h.get? b=some ob) (n:H b=none) (hx:b∉ex):∃sl,h1.get? b=some { ob with slots:=sl }:=by
 by_cases hb:b∈fs
 ·exact u.slot b ob q n hb hx
 ·exact ⟨ob.slots,u.keep b ob q n hb hx⟩
theorem Un.kept (k:∀b u,h.get? b=some u→h'.get? b=some u):Un fs ex H H h h':=
 ⟨fun b ob q _ _ _=>k b ob q,fun b ob q _ _ _=>⟨ob.slots,k b ob q⟩,fun _ _ _ n _=>n,fun b ob q _=>⟨ob,k b ob q⟩,fun _ _ q=>q,fun _ _ _ q=>q,fun _ ps q=>⟨#[],by rw [q];simp⟩⟩
theorem Un.refl:Un fs ex H H h h:=Un.kept fun _ _ q=>q
theorem Un.laid (k:∀b u,h.get? b=some u→h'.get? b=some u) (hp:h.objs.size≤a) (hn:H a=none):Un fs ex H (aI H a o) h h' where
 keep:=fun b u q _ _ _=>k b u q
 slot:=fun b u q _ _ _=>⟨u.slots,k b u q⟩
 free:=fun b u q n _=>by rw [ak (Nat.ne_of_lt (Nat.lt_of_lt_of_le (Heap.lt_size q) hp))];exact n
 there:=fun b u q _=>⟨u,k b u q⟩
 tups:=fun b xs q=>by rw [ak (aE q hn)];exact q
 frzs:=fun b u xs q=>by rw [ak (aE q hn)];exact q
 tbls:=fun b ps q=>⟨#[],by rw [ak (aE q hn),q];simp⟩
theorem Un.write (mu:x8 (H x)) (he:e=x∨H e=some (.own x)) (k:∀b u,b≠e→h.get? b=some u→h'.get? b=some u) (heo:∃u,h'.get? e=some u):Un fs ex H (aI H x o) h h':=by
 have hx:∀b,H b=none→b≠x:=fun b n z=>by subst z;rw [n] at mu;exact mu
 have hb:∀b,H b=none→b≠e:=fun b n z=>by
  subst z
  rcases he with r | r
  ·exact hx b n r
  ·rw [n] at r;cases r
 have hm:∀b u,H b=some u→¬x8 (some u)→b≠x:=fun b u q nm z=>by subst z;rw [q] at mu;exact nm mu
 refine ⟨fun b u q n _ _=>k b u (hb b n) q,fun b u q n _ _=>⟨u.slots,k b u (hb b n) q⟩,fun b u q n _=>by rw [ak (hx b n)];exact n,fun b u q _=>?_,
  fun b xs q=>by rw [ak (hm b _ q fun z=>z)];exact q,fun b u xs q=>by rw [ak (hm b _ q fun z=>z)];exact q,fun b ps q=>⟨#[],by rw [ak (hm b _ q fun z=>z),q];simp⟩⟩
 by_cases hbe:b=e
 ·subst hbe;exact heo
 ·exact ⟨u,k b u hbe q⟩
end
def xS (h:Heap) (H:Hp):List Addr:=(List.range h.objs.size).filter fun a=>(H a).isSome
def lC (h:Heap) (H:Hp):Heap:=PySem.W.hideAll h (xS h H)
theorem vf (h:Heap) (H:Hp):(lC h H).objs.size=h.objs.size:=PySem.W.hideAll_size _ _
theorem wB {h:Heap}{H:Hp}{b:Addr}{o:Obj} (e:h.get? b=some o) (n:H b=none):(lC h H).get? b=some o:=
 PySem.W.hideAll_get _ e fun hm=>by
  have q:(H b).isSome=true:=(List.mem_filter.mp hm).2
  rw [n] at q;simp at q
theorem yS {h:Heap}{H:Hp}{b:Addr}{o:Obj} (e:(lC h H).get? b=some o):h.get? b=some o∧H b=none:=by
 have e':h.get? b=some o:=PySem.W.of_hideAll (xS h H) e
 refine ⟨e',?_⟩
 cases q:H b with
 | none=>rfl
 | some x=>
  have hm:b∈xS h H:=List.mem_filter.mpr ⟨List.mem_range.mpr (Heap.lt_size e'),by simp [q]⟩
  have z:(lC h H).get? b=none:=PySem.W.hideAll_none (xS h H) hm
  rw [z] at e;cases e
structure Mod (K:PySem.W.Frag) (mg:Str→Option Value) (base:Heap):Prop where
 kin:K.In base
 glob:base.Ns mainGlobals mg
 blt:∃mb,base.Ns builtinsNs mb∧∀x:Str,x≠"__name__"→mb x=bootBuiltins x
 nolimit:base.NoLimit
structure Cx where
 prog:Program
 w:World
 K:PySem.W.Frag
 mg:Str→Option Value
 base:Heap
 A:Around
 N:List Str
 s₀:Shared
 H₀:Hp
 env:Env
 outer:List Env
 stack:List Env
 ex:List Addr
 fn:Str→Bool
 calm:Bool
 pn:List (Addr×Obj)
 xe:Value→Shared→Prop
def dU (l:List Env):List Addr:=l.filterMap (·.frame)
abbrev Cx.fs (X:Cx):List Addr:=dU X.outer
def wj (sc:Scope) (x:Str):Prop:=sc.names.lookup x=some .local∨sc.names.lookup x=some .cell∨sc.names.lookup x=some .free
def xX (sc:Scope) (x:Str):Prop:=sc.names.lookup x=some .local∨sc.names.lookup x=some .cell
def zK (env:Env) (h:Heap) (m:Str→Option Value) (x:Str) (u:Value):Prop:=
 (env.kindOf x=some .local∧m x=some u)∨((env.kindOf x=some .cell∨env.kindOf x=some .free)∧∃c,env.cells.lookup x=some c∧h.IsCell c (some u))
structure Cx.Ok (X:Cx):Prop where
 mod:Mod X.K X.mg X.base
 kind:X.env.scope.kind=.function
 glob:X.env.globals=mainGlobals
 blt:X.env.builtins=builtinsNs
 above:X.s₀.heap.objs.size≤X.env.locals
 inj:∀x y c,X.env.cells.lookup x=some c→X.env.cells.lookup y=some c→x=y
 has:∀x,(X.env.kindOf x=some .cell∨X.env.kindOf x=some .free)→∃c,X.env.cells.lookup x=some c
 cab:∀x c,X.fn x=true→X.env.cells.lookup x=some c→X.s₀.heap.objs.size≤c
 hd:X.calm=true→X.A.handled=none
 frames:X.A.frames=some X.stack
 stk:X.stack=X.outer∨(X.stack=X.env :: X.outer∧X.env.frame=some X.env.locals)
 exf:∀b∈X.ex,b≠X.env.locals∧∀x c,X.env.cells.lookup x=some c→c≠b
 bs:∀b o,X.base.get? b=some o→X.s₀.heap.get? b=some o∧X.H₀ b=none
 bsz:X.base.objs.size≤X.s₀.heap.objs.size
 noex:∀b o,X.base.get? b=some o→b∉X.ex
 exfs:∀b∈X.ex,b∉X.fs
 funs:X.s₀.heap.FunFrames X.base X.outer
 frf:∀b∈X.fs,X.H₀ b=none
structure ac (X:Cx) (pins:List (Addr×Obj)) (σ:List (Option V)) (H:Hp) (s:Shared):Prop where
 ok:X.Ok
 os:s.os=X.s₀.os
 bare:AllBare s.gens
 base:Un X.fs X.ex X.H₀ H X.s₀.heap s.heap
 loc:∃m,s.heap.Ns X.env.locals m∧∀(i:Nat) (x:Str) (v:V),X.N[i]?=some x→σ[i]?=some (some v)→wj X.env.scope x→∃u,aM v u∧zK X.env s.heap m x u
 cell:∀x c,X.env.cells.lookup x=some c→∃v,s.heap.IsCell c v
 free:H X.env.locals=none
 freeC:∀x c,X.env.cells.lookup x=some c→H c=none
 pin:∀p∈X.pn++pins,s.heap.get? p.1=some p.2∧H p.1=none∧p.1≠X.env.locals∧p.1∉X.fs∧∀v,p.2.data≠.cell v
 hok:cE X.prog X.w H s.heap
 len:σ.length=X.N.length
section
variable {X:Cx}{pins:List (Addr×Obj)}{σ:List (Option V)}{H H':Hp}{s:Shared}{h':Heap}
theorem Cx.Ok.nofr (ok:X.Ok) {b:Addr}{o:Obj} (e:X.base.get? b=some o):b∉X.fs:=fun hb=>by
 have:=(ok.funs.mem hb).1
 rw [e] at this;cases this
theorem ac.bs (I:ac X pins σ H s):∀b o,X.base.get? b=some o→s.heap.get? b=some o∧H b=none:=fun b o e=>
 ⟨I.base.keep b o (I.ok.bs b o e).1 (I.ok.bs b o e).2 (I.ok.nofr e) (I.ok.noex b o e),I.base.free b o (I.ok.bs b o e).1 (I.ok.bs b o e).2 (I.ok.noex b o e)⟩
theorem ac.bk (I:ac X pins σ H s):∀b o,X.base.get? b=some o→s.heap.get? b=some o:=fun b o e=>(I.bs b o e).1
theorem ac.mod (I:ac X pins σ H s):Mod X.K X.mg X.base:=I.ok.mod
theorem ac.kIn (I:ac X pins σ H s):X.K.In s.heap:=I.ok.mod.kin.keeps I.bk
theorem ac.lt (I:ac X pins σ H s):X.env.locals<s.heap.objs.size:=let ⟨_,hn,_⟩:=I.loc;hn.lt
theorem ac.sz (I:ac X pins σ H s):X.s₀.heap.objs.size≤s.heap.objs.size:=Nat.le_trans I.ok.above (Nat.le_of_lt I.lt)
theorem ac.nofs (I:ac X pins σ H s) {a:Addr} (h:s.heap.objs.size≤a):a∉X.fs:=fun hb=>by
 obtain ⟨_,o,ho,_⟩:=I.ok.funs.mem hb
 exact absurd (Nat.lt_of_lt_of_le (Heap.lt_size ho) (Nat.le_trans I.sz h)) (Nat.lt_irrefl _)
theorem ac.cne (I:ac X pins σ H s):∀x c,X.env.cells.lookup x=some c→c≠X.env.locals:=fun x c e z=>by
 obtain ⟨v,o,ho,hd⟩:=I.cell x c e
 obtain ⟨m,⟨o',es,ep,ho',hd',_⟩,_⟩:=I.loc
 rw [z,ho'] at ho;cases ho;rw [hd'] at hd;cases hd
theorem ac.funs (I:ac X pins σ H s):s.heap.FunFrames X.base X.outer:=by
 have all:∀(l:List Env),(∀b∈dU l,b∈X.fs)→X.s₀.heap.FunFrames X.base l→s.heap.FunFrames X.base l:=by
  intro l
  induction l with
  | nil=>intro _ _;trivial
  | cons env r ih=>
   intro hs hl
   obtain ⟨hk,⟨L,o,hf,hn,ho,hd⟩,hr⟩:=hl
   have hL:L∈X.fs:=hs L (by unfold dU;rw [List.filterMap_cons,hf];exact List.mem_cons_self)
   obtain ⟨sl,e⟩:=I.base.slot L o ho (I.ok.frf L hL) hL fun z=>I.ok.exfs L z hL
   exact ⟨hk,⟨L,_,hf,hn,e,hd⟩,ih (fun b hb=>hs b (by unfold dU;rw [List.filterMap_cons,hf];exact List.mem_cons_of_mem _ hb)) hr⟩
 exact all X.outer (fun _ hb=>hb) I.ok.funs
theorem ac.stack (I:ac X pins σ H s):s.heap.FunFrames X.base X.stack:=by
 rcases I.ok.stk with e | ⟨e,hf⟩
 ·rw [e];exact I.funs
 ·rw [e]
  obtain ⟨m,hn,_⟩:=I.loc
  refine .cons (by rw [I.ok.kind];decide) hf hn ?_ I.funs
  exact Heap.get?_none_of_le (Nat.le_trans I.ok.bsz I.ok.above)
theorem ac.stkSub (I:ac X pins σ H s):∀b∈dU X.stack,b∈X.env.locals :: X.fs:=fun b hb=>by
 rcases I.ok.stk with e | ⟨e,hf⟩
 ·rw [e] at hb;exact List.mem_cons_of_mem _ hb
 ·rw [e] at hb
  unfold dU at hb
  rw [List.filterMap_cons,hf] at hb
  exact hb
theorem ac.stkFree (I:ac X pins σ H s):∀b∈dU X.stack,H b=none:=fun b hb=>by
 rcases List.mem_cons.mp (I.stkSub b hb) with e | hb
 ·rw [e];exact I.free
 ·obtain ⟨_,o,ho,_⟩:=I.ok.funs.mem hb
  exact I.base.free b o ho (I.ok.frf b hb) fun z=>I.ok.exfs b z hb
theorem ac.step {g':Array GenState}{t':Nat}{d':Drawn}{ch:List Addr} (I:ac X pins σ H s)
 (hch:∀b∈ch,(b∈X.ex∨X.s₀.heap.objs.size≤b)∧b≠X.env.locals∧(∀x c,X.env.cells.lookup x=some c→c≠b)∧∀p∈X.pn++pins,p.1≠b)
 (keep:∀b o,b≠X.env.locals→b∉X.fs→b∉ch→s.heap.get? b=some o→H b=none→h'.get? b=some o)
 (slot:∀b o,b≠X.env.locals→b∈X.fs→b∉ch→s.heap.get? b=some o→H b=none→∃sl,h'.get? b=some { o with slots:=sl }) (free:∀b o,b∉ch→s.heap.get? b=some o→H b=none→H' b=none)
 (there:∀b o,b∉ch→s.heap.get? b=some o→∃o',h'.get? b=some o')
 (tups:∀b xs,H b=some (.tup xs)→H' b=some (.tup xs)) (frzs:∀b o u,H b=some (.frz o u)→H' b=some (.frz o u)) (tbls:∀b ps,H b=some (.tbl ps)→∃more,H' b=some (.tbl (ps++more)))
 (ns:∀m,s.heap.Ns X.env.locals m→h'.Ns X.env.locals m) (hok:cE X.prog X.w H' h') (hg:AllBare g') :
 ac X pins σ H' { s with heap:=h',gens:=g',drawn:=d',toks:=t' }:=by
 have neL:∀b o,X.s₀.heap.get? b=some o→b≠X.env.locals:=fun b o e=>Nat.ne_of_lt (Nat.lt_of_lt_of_le (Heap.lt_size e) I.ok.above)
 have neC:∀b o,X.s₀.heap.get? b=some o→b∉X.ex→b∉ch:=fun b o e hx hb=>by
  rcases (hch b hb).1 with z | z
  ·exact hx z
  ·exact absurd (Nat.lt_of_lt_of_le (Heap.lt_size e) z) (Nat.lt_irrefl _)
 have cellK:∀x c,X.env.cells.lookup x=some c→∀v,s.heap.IsCell c v→h'.IsCell c v:=fun x c e v ⟨o,ho,hd⟩=>by
  have nch:c∉ch:=fun z=>(hch c z).2.2.1 x c e rfl
  by_cases hc:c∈X.fs
  ·obtain ⟨sl,q⟩:=slot c o (I.cne x c e) hc nch ho (I.freeC x c e)
   exact ⟨_,q,hd⟩
  ·exact ⟨o,keep c o (I.cne x c e) hc nch ho (I.freeC x c e),hd⟩
 refine ⟨I.ok,I.os,hg,⟨fun b o e n hb hx=>?_,fun b o e n hb hx=>?_,fun b o e n hx=>?_,fun b o e hx=>?_,fun b xs e=>tups b xs (I.base.tups b xs e),fun b o xs e=>frzs b o xs (I.base.frzs b o xs e),fun b ps e=>?_⟩,?_,fun x c e=>?_,?_,fun x c e=>?_,fun p hp=>?_,hok,I.len⟩
 ·exact keep b o (neL b o e) hb (neC b o e hx) (I.base.keep b o e n hb hx) (I.base.free b o e n hx)
 ·obtain ⟨sl,e1⟩:=I.base.slot b o e n hb hx
  obtain ⟨sl',e2⟩:=slot b _ (neL b o e) hb (neC b o e hx) e1 (I.base.free b o e n hx)
  exact ⟨sl',e2⟩
 ·obtain ⟨o',e1⟩:=I.base.there b o e hx
  exact free b o' (neC b o e hx) e1 (I.base.free b o e n hx)
 ·obtain ⟨o',e1⟩:=I.base.there b o e hx
  exact there b o' (neC b o e hx) e1
 ·obtain ⟨m1,e1⟩:=I.base.tbls b ps e
  obtain ⟨m2,e2⟩:=tbls b _ e1
  exact ⟨m1++m2,by rw [e2,Array.append_assoc]⟩
 ·obtain ⟨m,hn,hl⟩:=I.loc
  refine ⟨m,ns m hn,fun i x v e1 e2 e3=>?_⟩
  obtain ⟨u,r,l⟩:=hl i x v e1 e2 e3
  refine ⟨u,r,?_⟩
  rcases l with l | ⟨k,c,e,z⟩
  ·exact .inl l
  ·exact .inr ⟨k,c,e,cellK x c e _ z⟩
 ·obtain ⟨v,z⟩:=I.cell x c e
  exact ⟨v,cellK x c e v z⟩
 ·obtain ⟨m,⟨o,_,_,ho,_⟩,_⟩:=I.loc
  exact free _ o (fun z=>(hch _ z).2.1 rfl) ho I.free
 ·obtain ⟨v,o,ho,hd⟩:=I.cell x c e
  exact free c o (fun z=>(hch c z).2.2.1 x c e rfl) ho (I.freeC x c e)
 ·obtain ⟨e,n,ne,nf,d⟩:=I.pin p hp
  have nch:p.1∉ch:=fun z=>(hch p.1 z).2.2.2 p hp rfl
  exact ⟨keep p.1 p.2 ne nf nch e n,free p.1 p.2 nch e n,ne,nf,d⟩
theorem ac.un {t':Nat} (I:ac X pins σ H s) (u:Un X.fs [] H H' s.heap h') (hok:cE X.prog X.w H' h'):ac X pins σ H' { s with heap:=h',toks:=t' }:=by
 obtain ⟨m,⟨o,es,ep,ho,r⟩,_⟩:=id I.loc
 obtain ⟨sl,hL⟩:=u.any ho I.free (by simp)
 exact I.step (g':=s.gens) (d':=s.drawn) (ch:=[]) (fun _ z=>nomatch z) (fun b o _ hb _ e n=>u.keep b o e n hb (by simp)) (fun b o _ hb _ e n=>u.slot b o e n hb (by simp)) (fun b o _ e n=>u.free b o e n (by simp)) (fun b o _ e=>u.there b o e (by simp)) u.tups u.frzs u.tbls (fun m' hm=>by
  obtain ⟨o',es',ep',ho',r'⟩:=hm
  rw [ho] at ho';cases ho'
  exact ⟨_,es',ep',hL,r'⟩) hok I.bare
theorem ac.call {g':Array GenState}{t':Nat}{d':Drawn}{ch:List Addr} (I:ac X pins σ H s) (u:Un (dU X.stack) ch H H' s.heap h') (hok:cE X.prog X.w H' h') (hg:AllBare g')
 (hch:∀b∈ch,(b∈X.ex∨X.s₀.heap.objs.size≤b)∧b≠X.env.locals∧(∀x c,X.env.cells.lookup x=some c→c≠b)∧∀p∈X.pn++pins,p.1≠b) :
 ac X pins σ H' { s with heap:=h',gens:=g',drawn:=d',toks:=t' }:=by
 obtain ⟨m,⟨o,es,ep,ho,r⟩,_⟩:=id I.loc
 obtain ⟨sl,hL⟩:=u.any ho I.free fun z=>(hch _ z).2.1 rfl
 exact I.step (ch:=ch) hch (fun b o hL hb hc e n=>u.keep b o e n (fun z=>(List.mem_cons.mp (I.stkSub b z)).elim hL hb) hc) (fun b o _ _ hc e n=>u.any e n hc) (fun b o hc e n=>u.free b o e n hc) (fun b o hc e=>u.there b o e hc) u.tups u.frzs u.tbls (fun m' hm=>by
  obtain ⟨o',es',ep',ho',r'⟩:=hm
  rw [ho] at ho';cases ho'
  exact ⟨_,es',ep',hL,r'⟩) hok hg
theorem ac.turned {t':Nat}{it:Addr} (I:ac X pins σ H s) (k:∀b o,b≠it→s.heap.get? b=some o→h'.get? b=some o) (hn:H it=none) (hL:it≠X.env.locals)
 (h1:it∈X.ex∨X.s₀.heap.objs.size≤it) (h2:∀x c,X.env.cells.lookup x=some c→c≠it) (h3:∀p∈X.pn++pins,p.1≠it):ac X pins σ H { s with heap:=h',toks:=t' }:=by
 have nit:∀b u,H b=some u→b≠it:=fun b u e z=>by rw [z,hn] at e;cases e
 refine I.step (g':=s.gens) (d':=s.drawn) (ch:=[it]) (fun b hb=>?_) (fun b o _ _ hc e _=>k b o (fun z=>hc (by simp [z])) e) (fun b o _ _ hc e _=>⟨o.slots,k b o (fun z=>hc (by simp [z])) e⟩) (fun _ _ _ _ n=>n)
  (fun b o hc e=>⟨o,k b o (fun z=>hc (by simp [z])) e⟩) (fun _ _ e=>e) (fun _ _ _ e=>e) (fun b ps e=>⟨#[],by rw [e];simp⟩) (fun m hm=>?_) (fun b u e=>?_) I.bare
 ·have e:b=it:=by simpa using hb
  subst e
  exact ⟨h1,hL,h2,h3⟩
 ·obtain ⟨o,es,ep,ho,r⟩:=hm
  exact ⟨o,es,ep,k _ o (Ne.symm hL) ho,r⟩
 ·refine (I.hok b u e).stay (fun c v hc q=>k c v ?_ q) (fun _ q=>q) fun _ _ q=>q
  rcases hc with z | z
  ·rw [z];exact nit b u e
  ·exact nit c _ z
theorem ac.tok (I:ac X pins σ H s) (t:Nat):ac X pins σ H { s with toks:=t }:=I.un (h':=s.heap) (t':=t) Un.refl I.hok
theorem ac.kept {t':Nat} (I:ac X pins σ H s) (k:∀b u,s.heap.get? b=some u→h'.get? b=some u):ac X pins σ H { s with heap:=h',toks:=t' }:=I.un (Un.kept k) (I.hok.kept k)
theorem ac.laid {a:Addr}{o:HO}{t':Nat} (I:ac X pins σ H s) (k:∀b u,s.heap.get? b=some u→h'.get? b=some u) (hp:s.heap.objs.size≤a) (new:be X.prog X.w (aI H a o) h' a o) :
 ac X pins σ (aI H a o) { s with heap:=h',toks:=t' }:=I.un (Un.laid k hp (I.hok.fresh hp)) (I.hok.laid k hp new)
theorem ac.write {x e:Addr}{o:HO}{t':Nat} (I:ac X pins σ H s) (mu:x8 (H x)) (he:e=x∨H e=some (.own x)) (k:∀b u,b≠e→s.heap.get? b=some u→h'.get? b=some u) (heo:∃u,h'.get? e=some u)
 (new:be X.prog X.w (aI H x o) h' x o):ac X pins σ (aI H x o) { s with heap:=h',toks:=t' }:=I.un (Un.write mu he k heo) (I.hok.write mu he k heo new)
theorem ac.weak {σ':List (Option V)} (I:ac X pins σ H s) (hl:σ'.length=σ.length) (w:∀(i:Nat) v,σ'[i]?=some (some v)→σ[i]?=some (some v)):ac X pins σ' H s:=
 ⟨I.ok,I.os,I.bare,I.base,let ⟨m,hn,hl'⟩:=I.loc;⟨m,hn,fun i x v e1 e2 e3=>hl' i x v e1 (w i v e2) e3⟩,I.cell,I.free,I.freeC,I.pin,I.hok,hl.trans I.len⟩
theorem ac.pins_of {pins':List (Addr×Obj)} (I:ac X pins σ H s) (h:∀p∈pins',s.heap.get? p.1=some p.2∧H p.1=none∧p.1≠X.env.locals∧p.1∉X.fs∧∀v,p.2.data≠.cell v):ac X pins' σ H s:=
 ⟨I.ok,I.os,I.bare,I.base,I.loc,I.cell,I.free,I.freeC,fun p hp=>(List.mem_append.mp hp).elim (fun z=>I.pin p (List.mem_append_left _ z)) (h p),I.hok,I.len⟩
theorem oO {N:List Str} (hN:N.Nodup) {i j:Nat}{x:Str} (a:N[i]?=some x) (b:N[j]?=some x):i=j:=by
 obtain ⟨h1,e1⟩:=List.getElem?_eq_some_iff.mp a
 obtain ⟨h2,e2⟩:=List.getElem?_eq_some_iff.mp b
 exact (List.getElem_inj hN).mp (e1.trans e2.symm)
theorem qx {M:Model}{A:Around}{E:Value→Shared→Prop}{i:Nat}{x:Str}{v:V}{u:Value}{Q:Unit→Shared→Prop} (I:ac X pins σ H s) (hN:X.N.Nodup) (hi:X.N[i]?=some x) (hx:xX X.env.scope x) (r:aM v u)
 (h:∀s',ac X pins (σ.set i (some v)) H s'→(∃a,Heap.SameBut a s.heap s'.heap∧(a=X.env.locals∨X.env.cells.lookup x=some a))→Q () s') (hf:X.fn x=true∨X.env.scope.names.lookup x=some .local:=by first | exact .inl rfl | exact .inr rfl | assumption):wpAny M A (storeName X.env x u) Q E s:=by
 obtain ⟨m,hn,hl⟩:=id I.loc
 have hcls:(X.env.scope.kind==.class || (X.env.scope.kind==.module && X.env.locals != X.env.globals))=false:=by rw [I.ok.kind];rfl
 have hiσ:i<σ.length:=by rw [I.len];exact (List.getElem?_eq_some_iff.mp hi).1
 have cne:=I.cne
 have tracked:∀{a:Addr}{h':Heap},(∃o,s.heap.get? a=some o∧H a=none)→Heap.SameBut a s.heap h'→cE X.prog X.w H h':=fun {a h'} ha hs b ob e=>by
  obtain ⟨_,_,hfree⟩:=ha
  refine (I.hok b ob e).stay (fun c w' hc q=>(hs.2 c ?_).trans q) (fun _ q=>q) fun _ _ q=>q
  rintro rfl
  rcases hc with rfl | hc
  ·rw [hfree] at e;cases e
  ·rw [hfree] at hc;cases hc
 rcases hx with hk | hk
 ·refine wpAny_storeName_local hk hn (fun h' hn' hs=>?_) hcls
  obtain ⟨oL,_,_,hoL,_⟩:=id hn
  refine h _ ⟨I.ok,I.os,I.bare,⟨fun b o e n hb hx=>?_,fun b o e n hb hx=>?_,I.base.free,fun b o e hx=>?_,I.base.tups,I.base.frzs,I.base.tbls⟩,⟨_,hn',fun j y v' e1 e2 e3=>?_⟩,fun y c e=>?_,I.free,I.freeC,fun p hp=>?_,tracked ⟨oL,hoL,I.free⟩ hs,by simpa using I.len⟩ ⟨_,hs,.inl rfl⟩
  ·exact (hs.2 b (Nat.ne_of_lt (Nat.lt_of_lt_of_le (Heap.lt_size e) I.ok.above))).trans (I.base.keep b o e n hb hx)
  ·obtain ⟨sl,e1⟩:=I.base.slot b o e n hb hx
   exact ⟨sl,(hs.2 b (Nat.ne_of_lt (Nat.lt_of_lt_of_le (Heap.lt_size e) I.ok.above))).trans e1⟩
  ·obtain ⟨o',e1⟩:=I.base.there b o e hx
   exact ⟨o',(hs.2 b (Nat.ne_of_lt (Nat.lt_of_lt_of_le (Heap.lt_size e) I.ok.above))).trans e1⟩
  ·by_cases hj:j=i
   ·subst hj
    rw [hi] at e1;cases e1
    rw [List.getElem?_set_self hiσ] at e2
    cases e2
    exact ⟨u,r,.inl ⟨hk,by simp⟩⟩
   ·rw [List.getElem?_set_ne (Ne.symm hj)] at e2
    obtain ⟨u',r',q⟩:=hl j y v' e1 e2 e3
    refine ⟨u',r',?_⟩
    rcases q with ⟨k,e⟩ | ⟨k,c,e,z⟩
    ·refine .inl ⟨k,?_⟩
     have:y≠x:=fun e=>hj (oO hN e1 (e▸hi))
     simp [this,e]
    ·exact .inr ⟨k,c,e,z.sameBut hs (cne y c e)⟩
  ·obtain ⟨w',z⟩:=I.cell y c e
   exact ⟨w',z.sameBut hs (cne y c e)⟩
  ·obtain ⟨e,n,ne,nf,d⟩:=I.pin p hp
   exact ⟨(hs.2 p.1 ne).trans e,n,ne,nf,d⟩
 ·have hfn:X.fn x=true:=by
   rcases hf with z | z
   ·exact z
   ·rw [z] at hk;cases hk
  obtain ⟨c,hc⟩:=I.ok.has x (.inl hk)
  obtain ⟨w',z⟩:=I.cell x c hc
  refine wpAny_storeName_cell I.ok.kind hk hc z (fun h' hc' hs=>?_)
  obtain ⟨oc,hoc,hocd⟩:=id z
  refine h { s with heap:=h' } ⟨I.ok,I.os,I.bare,⟨fun b o e n hb hx=>?_,fun b o e n hb hx=>?_,I.base.free,fun b o e hx=>?_,I.base.tups,I.base.frzs,I.base.tbls⟩,⟨m,hn.sameBut hs (Ne.symm (cne x c hc)),fun j y v' e1 e2 e3=>?_⟩,fun y c' e=>?_,I.free,I.freeC,fun p hp=>?_,tracked ⟨oc,hoc,I.freeC x c hc⟩ hs,by simpa using I.len⟩ ⟨c,hs,.inr hc⟩
  ·exact (hs.2 b (Nat.ne_of_lt (Nat.lt_of_lt_of_le (Heap.lt_size e) (I.ok.cab x c hfn hc)))).trans (I.base.keep b o e n hb hx)
  ·obtain ⟨sl,e1⟩:=I.base.slot b o e n hb hx
   exact ⟨sl,(hs.2 b (Nat.ne_of_lt (Nat.lt_of_lt_of_le (Heap.lt_size e) (I.ok.cab x c hfn hc)))).trans e1⟩
  ·obtain ⟨o',e1⟩:=I.base.there b o e hx
   exact ⟨o',(hs.2 b (Nat.ne_of_lt (Nat.lt_of_lt_of_le (Heap.lt_size e) (I.ok.cab x c hfn hc)))).trans e1⟩
  ·by_cases hj:j=i
   ·subst hj
    rw [hi] at e1;cases e1
    rw [List.getElem?_set_self hiσ] at e2
    cases e2
    exact ⟨u,r,.inr ⟨.inl hk,c,hc,hc'⟩⟩
   ·rw [List.getElem?_set_ne (Ne.symm hj)] at e2
    obtain ⟨u',r',q⟩:=hl j y v' e1 e2 e3
    refine ⟨u',r',?_⟩
    rcases q with q | ⟨k,c',e,z'⟩
    ·exact .inl q
    ·refine .inr ⟨k,c',e,z'.sameBut hs ?_⟩
     rintro rfl
     exact hj (oO hN e1 (I.ok.inj _ _ _ e hc▸hi))
  ·by_cases hcc:c'=c
   ·subst hcc;exact ⟨_,hc'⟩
   ·obtain ⟨w2,z2⟩:=I.cell y c' e
    exact ⟨w2,z2.sameBut hs hcc⟩
  ·obtain ⟨e,n,ne,nf,d⟩:=I.pin p hp
   refine ⟨(hs.2 p.1 ?_).trans e,n,ne,nf,d⟩
   intro q
   rw [q,hoc] at e
   have q':oc=p.2:=Option.some.inj e
   exact d w' (by rw [←q'];exact hocd)
theorem dY {M:Model}{A:Around}{E:Value→Shared→Prop}{i:Nat}{x:Str}{v:V}{u:Value}{Q:Unit→Shared→Prop} (I:ac X pins σ H s) (hN:X.N.Nodup) (hi:X.N[i]?=some x) (hx:xX X.env.scope x) (r:aM v u)
 (h:∀s',ac X pins (σ.set i (some v)) H s'→Q () s') (hf:X.fn x=true∨X.env.scope.names.lookup x=some .local:=by first | exact .inl rfl | exact .inr rfl | assumption):wpAny M A (storeName X.env x u) Q E s:=
 qx I hN hi hx r (fun s' I' _=>h s' I') hf
theorem ac.call' {s':Shared}{ch:List Addr} (I:ac X pins σ H s) (ho:s'.os=s.os) (u:Un (dU X.stack) ch H H' s.heap s'.heap) (hok:cE X.prog X.w H' s'.heap) (hg:AllBare s'.gens)
 (hch:∀b∈ch,(b∈X.ex∨X.s₀.heap.objs.size≤b)∧b≠X.env.locals∧(∀x c,X.env.cells.lookup x=some c→c≠b)∧∀p∈X.pn++pins,p.1≠b):ac X pins σ H' s':=by
 obtain ⟨h',g',d',t',o'⟩:=s'
 have e:o'=s.os:=ho
 subst e
 exact I.call (g':=g') (t':=t') (d':=d') u hok hg hch
end
abbrev XK:=Value→Option Addr→Hp→Prop
abbrev St:=List (Option V)
abbrev VK:=V→Hp→Prop
abbrev TE:=St→Hp→VK→Prop
abbrev TT:=St→Hp→(Bool→Hp→Prop)→Prop
abbrev TA:=St→Hp→(List V→Hp→Prop)→Prop
structure cK where
 nx:St→Hp→Prop
 rt:VK
 bk:St→Hp→Prop:=fun _ _=>False
 ct:St→Hp→Prop:=fun _ _=>False
abbrev TS:=cK→St→Hp→Prop
inductive EP (X:Cx) (pins:List (Addr×Obj)) (σ:St) (Q:VK) (u:Value) (s':Shared):Prop
 | mk (v:_) (H':_) (h0:ac X pins σ H' s') (h1:aM v u) (h2:Q v H')
def TP (X:Cx) (pins:List (Addr×Obj)) (σ:St) (Q:Bool→Hp→Prop) (b:Bool) (s':Shared):Prop:=∃H',ac X pins σ H' s'∧Q b H'
inductive AP (X:Cx) (pins:List (Addr×Obj)) (σ:St) (Q:List V→Hp→Prop) (us:List Value) (s':Shared):Prop
 | mk (vs:_) (H':_) (h0:ac X pins σ H' s') (h1:aq vs us) (h2:Q vs H')
def SP (X:Cx) (pins:List (Addr×Obj)) (D:cK) (f:Flow) (s':Shared):Prop:=
 match f with
 | .next=>∃σ' H',ac X pins σ' H' s'∧D.nx σ' H'
 | .brk=>∃σ' H',ac X pins σ' H' s'∧D.bk σ' H'
 | .cont=>∃σ' H',ac X pins σ' H' s'∧D.ct σ' H'
 | .ret u=>∃v σ' H',ac X pins σ' H' s'∧aM v u∧D.rt v H'
def PE (X:Cx) (e:Expr) (t:TE):Prop:=
 ∀(pins:List (Addr×Obj)) (s:Shared) (σ:St) (H:Hp) (Q:VK),ac X pins σ H s→t σ H Q→wpAny (model X.prog X.w) X.A (eval e X.env) (EP X pins σ Q) X.xe s
def PT (X:Cx) (e:Expr) (t:TT):Prop:=
 ∀(pins:List (Addr×Obj)) (s:Shared) (σ:St) (H:Hp) (Q:Bool→Hp→Prop),ac X pins σ H s→t σ H Q→wpAny (model X.prog X.w) X.A (isTrue e X.env (eval e X.env)) (TP X pins σ Q) X.xe s
def PW (X:Cx) (e:Expr) (t:TT):Prop:=
 ∀(whole:Sem Value) (pins:List (Addr×Obj)) (s:Shared) (σ:St) (H:Hp) (Q:Bool→Hp→Prop),ac X pins σ H s→t σ H Q→wpAny (model X.prog X.w) X.A (isTrue e X.env whole) (TP X pins σ Q) X.xe s
theorem PW.pt {X:Cx}{e:Expr}{t:TT} (h:PW X e t):PT X e t:=h _
def PA (X:Cx) (es:List Expr) (t:TA):Prop:=
 ∀(pos:Pos) (pins:List (Addr×Obj)) (s:Shared) (σ:St) (H:Hp) (Q:List V→Hp→Prop),ac X pins σ H s→t σ H Q→wpAny (model X.prog X.w) X.A (spliced (backTo pos (starEach es X.env))) (AP X pins σ Q) X.xe s
def PS (X:Cx) (st:Stmt) (t:TS):Prop:=
 ∀(pins:List (Addr×Obj)) (s:Shared) (σ:St) (H:Hp) (D:cK),ac X pins σ H s→t D σ H→wpAny (model X.prog X.w) X.A (exec st X.env) (SP X pins D) X.xe s
def hZ (X:Cx) (st:List Stmt) (t:TS):Prop:=
 ∀(pins:List (Addr×Obj)) (s:Shared) (σ:St) (H:Hp) (D:cK),ac X pins σ H s→t D σ H→wpAny (model X.prog X.w) X.A (execs st X.env) (SP X pins D) X.xe s
theorem aF {α:Type}{t:Sem α}{Q Q':α→Shared→Prop}{M:Model}{A:Around}{E:Value→Shared→Prop}{s:Shared} (h:wpAny M A t Q E s) (hQ:∀a s,Q a s→Q' a s):wpAny M A t Q' E s:=wpAny_mono h hQ fun _ _ x=>x
section
variable {X:Cx}
inductive Cl (i:Nat) (σ:St) (H:Hp) (Q:VK):Prop
 | mk (v:_) (h0:σ[i]?=some (some v)) (h1:Q v H)
def oA (i:Nat):TE:=fun σ H Q=>Cl i σ H Q
def tC (v:V):TE:=fun _ H Q=>Q v H
theorem vc {i:Nat}{x:Str}{pos:Pos} (hN:X.N[i]?=some x) (hv:wj X.env.scope x) (hd:(x==("__debug__" : Str))=false:=by decide) (hcd:(x==("__classdict__" : Str))=false:=by decide):PE X (.Name x pos) (oA i):=by
 intro pins s σ H Q I h
 obtain ⟨v,e,h⟩:=h
 obtain ⟨m,hn,hl⟩:=I.loc
 obtain ⟨u,r,l⟩:=hl i x v hN e hv
 have fin:EP X pins σ Q u s:=⟨v,H,I,r,h⟩
 rcases l with ⟨hk,hm⟩ | ⟨hk,c,hc,hcell⟩
 ·exact wpAny_Name (wpAny_loadName_local I.ok.kind hk hn hm fin) hd
 ·rcases hk with hk | hk
  ·exact wpAny_Name (wpAny_loadName_cell I.ok.kind hk hc hcell fin) hd
  ·exact wpAny_Name (wpAny_loadName_free I.ok.kind hk hc hcell fin hcd) hd
theorem bx {i j pos}:PE X (.Constant (.int i) j pos) (tC (.int i)):=fun _ _ _ H _ I h=>wpAny_Constant_int ⟨.int i,H,I.tok _,⟨()⟩,h⟩
theorem cW {b j pos}:PE X (.Constant (.bool b) j pos) (tC (.bl b)):=fun _ _ _ H _ I h=>Constant_bool ⟨.bl b,H,I,rfl,h⟩
theorem jD {j pos}:PE X (.Constant .none j pos) (tC .non):=fun _ _ _ H _ I h=>Constant_none ⟨.non,H,I,rfl,h⟩
theorem ad {x j pos}:PE X (.Constant (.str x) j pos) (tC (.str x)):=fun _ _ _ H _ I h=>Calls.Constant_str ⟨.str x,H,I.tok _,⟨()⟩,h⟩
def Gl (X:Cx) (x:Str):Prop:=X.env.kindOf x=some .globalImplicit
theorem gQ {E:Value→Shared→Prop}{pins:List (Addr×Obj)}{s:Shared}{σ:St}{H:Hp}{x:Str}{u:Value}{pos:Pos}{Q:Value→Shared→Prop} (I:ac X pins σ H s) (hg:Gl X x) (hm:X.mg x=some u) (h:Q u s)
 (hd:(x==("__debug__" : Str))=false:=by decide):wpAny (model X.prog X.w) X.A (eval (.Name x pos) X.env) Q E s:=
 Calls.Name_function_global I.ok.kind hg (Calls.loadGlobal_global (by rw [I.ok.glob];exact I.mod.glob.keeps I.bk) hm h) hd
theorem jC {E:Value→Shared→Prop}{pins:List (Addr×Obj)}{s:Shared}{σ:St}{H:Hp}{x:Str}{u:Value}{pos:Pos}{Q:Value→Shared→Prop} (I:ac X pins σ H s) (hg:Gl X x) (hm:X.mg x=none) (hv:bootBuiltins x=some u) (h:Q u s)
 (hn:x≠"__name__" := by decide) (hd:(x==("__debug__" : Str))=false:=by decide):wpAny (model X.prog X.w) X.A (eval (.Name x pos) X.env) Q E s:=by
 obtain ⟨mb,h1,h2⟩:=I.mod.blt
 exact Calls.Name_function_global I.ok.kind hg (Calls.loadGlobal_builtin (by rw [I.ok.glob];exact I.mod.glob.keeps I.bk) hm (by rw [I.ok.blt];exact h1.keeps I.bk) ((h2 x hn).trans hv) h) hd
theorem yk {x:Str}{v:V}{u:Value}{pos:Pos} (hg:Gl X x) (hm:X.mg x=none) (hv:bootBuiltins x=some u) (r:aM v u) (hn:x≠"__name__" := by decide) (hd:(x==("__debug__" : Str))=false:=by decide):PE X (.Name x pos) (tC v):=
 fun _ _ _ H _ I h=>jC I hg hm hv ⟨v,H,I,r,h⟩ hn hd
variable {a b:Expr}{ta tb:TE}{pos:Pos}
inductive rV (x:V) (P:Bool→Prop):Prop
 | mk (c:Bool) (e:x=.bl c) (h:P c)
inductive Aa (x:V) (P:Int→Prop):Prop
 | mk (c:Int) (e:x=.int c) (h:P c)
def tB (t:TE):TT:=fun σ H Q=>t σ H fun x H1=>rV x fun c=>Q c H1
theorem dk {e:Expr}{t:TE} (h:PE X e t) (he:∀whole,isTrue e X.env whole=(do let v ←whole;standAt e.pos;holding [v] (truthy v)):=by intro _;rfl):PT X e (tB t):=by
 intro pins s σ H Q I hw
 refine isTrue_plain (aF (h pins s σ H _ I hw) fun v s1 ⟨x,H1,I1,r1,q1⟩=>?_) (he _)
 obtain ⟨d,rfl,q⟩:=q1
 cases r1
 exact wpAny_truthy_bool ⟨H1,I1,q⟩
variable {tA tB':TT}{rest:List Expr}
def Ds (t u:TT):TT:=fun σ H Q=>t σ H fun c H1=>if c=true then u σ H1 Q else Q false H1
def DH (t u:TT):TT:=fun σ H Q=>t σ H fun c H1=>if c=true then Q true H1 else u σ H1 Q
def CS (t:TT):TT:=fun σ H Q=>t σ H fun c H1=>Q (!c) H1
theorem tR (ha:PT X a tA):PW X (.BoolOp .And [a] pos) tA:=by
 intro wh pins s σ H Q I h
 refine isTrue_and (aF (ha pins s σ H Q I h) fun c s1 e=>?_)
 cases c with
 | true=>exact isTrue_and_nil e
 | false=>exact e
theorem mU (ha:PT X a tA):PW X (.BoolOp .Or [a] pos) tA:=by
 intro wh pins s σ H Q I h
 refine isTrue_or (aF (ha pins s σ H Q I h) fun c s1 e=>?_)
 cases c with
 | false=>exact isTrue_or_nil e
 | true=>exact e
theorem vh (ha:PT X a tA) (hb:PW X (.BoolOp .And (b :: rest) pos) tB'):PW X (.BoolOp .And (a :: b :: rest) pos) (Ds tA tB'):=by
 intro wh pins s σ H Q I h
 refine isTrue_and (aF (ha pins s σ H _ I h) fun c s1 ⟨H1,I1,q1⟩=>?_)
 cases c with
 | true=>exact hb wh pins s1 σ H1 Q I1 q1
 | false=>exact ⟨H1,I1,q1⟩
theorem ph (ha:PT X a tA) (hb:PW X (.BoolOp .Or (b :: rest) pos) tB'):PW X (.BoolOp .Or (a :: b :: rest) pos) (DH tA tB'):=by
 intro wh pins s σ H Q I h
 refine isTrue_or (aF (ha pins s σ H _ I h) fun c s1 ⟨H1,I1,q1⟩=>?_)
 cases c with
 | true=>exact ⟨H1,I1,q1⟩
 | false=>exact hb wh pins s1 σ H1 Q I1 q1
theorem iM (ha:PT X a tA):PT X (.UnaryOp .Not a pos) (CS tA):=by
 intro pins s σ H Q I h
 exact isTrue_not (ha pins s σ H (fun c H1=>Q (!c) H1) I h)
def Co (ta tb:TE):TE:=fun σ H Q=>ta σ H fun x H1=>rV x fun c=>if c=true then tb σ H1 Q else Q (.bl false) H1
def CQ (ta tb:TE):TE:=fun σ H Q=>ta σ H fun x H1=>rV x fun c=>if c=true then Q (.bl true) H1 else tb σ H1 Q
theorem kT {op}{t:TE} (h:PE X a t):PE X (.BoolOp op [a] pos) t:=fun pins s σ H Q I hw=>BoolOp_one (h pins s σ H Q I hw)
theorem jK (ha:PE X a ta) (hb:PE X (.BoolOp .And (b :: rest) pos) tb):PE X (.BoolOp .And (a :: b :: rest) pos) (Co ta tb):=by
 intro pins s σ H Q I h
 refine BoolOp_and (aF (ha pins s σ H _ I h) fun v s1 ⟨x,H1,I1,r1,q1⟩=>?_)
 obtain ⟨c,rfl,q1⟩:=q1
 cases r1
 refine wpAny_truthy_bool ?_
 cases c with
 | true=>exact hb pins s1 σ H1 Q I1 q1
 | false=>exact ⟨.bl false,H1,I1,rfl,q1⟩
theorem BZ (ha:PE X a ta) (hb:PE X (.BoolOp .Or (b :: rest) pos) tb):PE X (.BoolOp .Or (a :: b :: rest) pos) (CQ ta tb):=by
 intro pins s σ H Q I h
 refine BoolOp_or (aF (ha pins s σ H _ I h) fun v s1 ⟨x,H1,I1,r1,q1⟩=>?_)
 obtain ⟨c,rfl,q1⟩:=q1
 cases r1
 refine wpAny_truthy_bool ?_
 cases c with
 | false=>exact hb pins s1 σ H1 Q I1 q1
 | true=>exact ⟨.bl true,H1,I1,rfl,q1⟩
def DF (t:TT) (ta tb:TE):TE:=fun σ H Q=>t σ H fun c H1=>if c=true then ta σ H1 Q else tb σ H1 Q
theorem cR {c:Expr} (hc:PT X c tA) (ha:PE X a ta) (hb:PE X b tb):PE X (.IfExp c a b pos) (DF tA ta tb):=by
 intro pins s σ H Q I h
 refine wpAny_IfExp (aF (hc pins s σ H _ I h) fun d s1 ⟨H1,I1,q1⟩=>?_)
 cases d with
 | true=>exact ha pins s1 σ H1 Q I1 q1
 | false=>exact hb pins s1 σ H1 Q I1 q1
end
def ao (K:PySem.W.Frag) (H:Hp) (a:Addr) (xs:List V):Prop:=
 Rd H a (.lst xs)∨
  ic fun (o:Obj) (its:Array Value) (n:Nat)=>K.lookup a=some o∧o.cls=.type "list"∧o.dict=none∧o.data=.seq its n∧its.size≤sizeLine∧aq xs its.toList
def af (K:PySem.W.Frag) (H:Hp) (a:Addr) (xs:List V):Prop:=
 Rd H a (.tup xs)∨
  ic fun (o:Obj) (its:Array Value) (n:Nat)=>K.lookup a=some o∧o.cls=.type "tuple"∧o.data=.seq its n∧its.size≤sizeLine∧aq xs its.toList
def Dg:Value→Option V
 | .none=>some .non
 | .bool b=>some (.bl b)
 | .int i _=>some (.int i)
 | .str x _=>some (.str x)
 | .bytes b _=>some (.byt b)
 | .float b _=>some (.flt b)
 | .ref a=>some (.ref a)
 | .type n=>some (.ty n)
 | _=>none
theorem aM.abs {x:V}{u:Value} (r:aM x u):Dg u=some x:=by
 cases x with
 | non=>cases r;rfl
 | bl _=>cases r;rfl
 | int _=>obtain ⟨t,rfl⟩:=r;rfl
 | str _=>obtain ⟨t,rfl⟩:=r;rfl
 | byt _=>obtain ⟨t,rfl⟩:=r;rfl
 | flt _=>obtain ⟨t,rfl⟩:=r;rfl
 | ref _=>cases r;rfl
 | ty _=>cases r;rfl
theorem aM.inj {x y:V}{u:Value} (r:aM x u) (q:aM y u):x=y:=Option.some.inj (r.abs.symm.trans q.abs)
theorem aq.inj:∀{xs ys:List V}{us:List Value},aq xs us→aq ys us→xs=ys
 | _,_,_,.nil,.nil=>rfl
 | _,_,_,.cons r t,.cons r' t'=>by rw [r.inj r',aq.inj t t']
section
variable {X:Cx}{pins:List (Addr×Obj)}{σ:St}{H:Hp}{s:Shared}{a:Addr}{xs ys:List V}
theorem ao.of {K:PySem.W.Frag} (h:H a=some (.lst xs)):ao K H a xs:=.inl (.inl h)
theorem af.of {K:PySem.W.Frag} (h:H a=some (.tup xs)):af K H a xs:=.inl (.inl h)
theorem ac.list (I:ac X pins σ H s) (h:ao X.K H a xs):∃its:List Value,aq xs its∧PlainL s.heap a its.toArray∧xs.length≤sizeLine:=by
 rcases h with h | ⟨o,its,n,hk,hc,hd,hs,hz,r⟩
 ·obtain ⟨z,its,n,r,e⟩:=h.ok I.hok
  exact ⟨its,r,⟨_,n,e,rfl,rfl,rfl⟩,z⟩
 ·refine ⟨its.toList,r,⟨o,n,I.kIn a o hk,hc,hd,by simpa using hs⟩,?_⟩
  have e:=r.length
  simp only [Array.length_toList] at e
  trivial
theorem ac.tuple (I:ac X pins σ H s) (h:af X.K H a xs):∃its:List Value,aq xs its∧IsTup s.heap a its.toArray∧xs.length≤sizeLine:=by
 rcases h with h | ⟨o,its,n,hk,hc,hs,hz,r⟩
 ·obtain ⟨z,its,r,p,_⟩:=h.ok I.hok
  exact ⟨its,r,p,z⟩
 ·refine ⟨its.toList,r,⟨o,I.kIn a o hk,hc,n,by simpa using hs⟩,?_⟩
  have e:=r.length
  simp only [Array.length_toList] at e
  trivial
theorem ac.list_inj (I:ac X pins σ H s) (h:ao X.K H a xs) (h':ao X.K H a ys):xs=ys:=by
 obtain ⟨its,r,⟨o,n,e,_,_,d⟩,_⟩:=I.list h
 obtain ⟨its',r',⟨o',n',e',_,_,d'⟩,_⟩:=I.list h'
 rw [e] at e';cases e'
 rw [d] at d'
 injection d' with d1 _
 have:its=its':=by simpa using congrArg Array.toList d1
 subst this
 exact r.inj r'
theorem ac.tuple_inj (I:ac X pins σ H s) (h:af X.K H a xs) (h':af X.K H a ys):xs=ys:=by
 obtain ⟨its,r,⟨o,e,_,n,d⟩,_⟩:=I.tuple h
 obtain ⟨its',r',⟨o',e',_,n',d'⟩,_⟩:=I.tuple h'
 rw [e] at e';cases e'
 rw [d] at d'
 injection d' with d1 _
 have:its=its':=by simpa using congrArg Array.toList d1
 subst this
 exact r.inj r'
end
abbrev Cx.wish (X:Cx) (E:Value→Shared→Prop):Cx:={ X with xe:=E }
abbrev Cx.nox (X:Cx):Cx:=X.wish fun _ _=>False
theorem Cx.Ok.wish {X:Cx} (ok:X.Ok) (E:Value→Shared→Prop):(X.wish E).Ok:=
 ⟨ok.mod,ok.kind,ok.glob,ok.blt,ok.above,ok.inj,ok.has,ok.cab,ok.hd,ok.frames,ok.stk,ok.exf,ok.bs,ok.bsz,ok.noex,ok.exfs,ok.funs,ok.frf⟩
theorem Cx.Ok.unwish {X:Cx}{E:Value→Shared→Prop} (ok:(X.wish E).Ok):X.Ok:=
 ⟨ok.mod,ok.kind,ok.glob,ok.blt,ok.above,ok.inj,ok.has,ok.cab,ok.hd,ok.frames,ok.stk,ok.exf,ok.bs,ok.bsz,ok.noex,ok.exfs,ok.funs,ok.frf⟩
section
variable {X:Cx}{pins:List (Addr×Obj)}{σ:St}{H:Hp}{s:Shared}{E:Value→Shared→Prop}
theorem ac.wish (I:ac X pins σ H s) (E:Value→Shared→Prop):ac (X.wish E) pins σ H s:=⟨I.ok.wish E,I.os,I.bare,I.base,I.loc,I.cell,I.free,I.freeC,I.pin,I.hok,I.len⟩
theorem ac.unwish (I:ac (X.wish E) pins σ H s):ac X pins σ H s:=⟨I.ok.unwish,I.os,I.bare,I.base,I.loc,I.cell,I.free,I.freeC,I.pin,I.hok,I.len⟩
theorem SP.unwish {D:cK}{f:Flow}{s':Shared} (h:SP (X.wish E) pins D f s'):SP X pins D f s':=by
 cases f with
 | next=>obtain ⟨σ',H',I,q⟩:=h;exact ⟨σ',H',I.unwish,q⟩
 | brk=>obtain ⟨σ',H',I,q⟩:=h;exact ⟨σ',H',I.unwish,q⟩
 | cont=>obtain ⟨σ',H',I,q⟩:=h;exact ⟨σ',H',I.unwish,q⟩
 | ret u=>obtain ⟨v,σ',H',I,r,q⟩:=h;exact ⟨v,σ',H',I.unwish,r,q⟩
theorem hZ.nox {st:List Stmt}{t:TS} (h:hZ X.nox st t):hZ X st t:=fun pins s σ H D I hw=>
 wpAny_mono (h pins s σ H D (I.wish _) hw) (fun _ _ q=>q.unwish) fun _ _ z=>False.elim z
end
section
variable {X:Cx}{st:Stmt}{rest:List Stmt}{t u:TS}{e:Expr}{te:TE}{pos:Pos}
def ud:TS:=fun D σ H=>D.nx σ H
def kH (t u:TS):TS:=fun D σ H=>t { D with nx:=u D } σ H
theorem aB:hZ X [] ud:=fun _ _ σ H _ I h=>wpAny_execs_nil ⟨σ,H,I,h⟩
theorem gG (h1:PS X st t) (h2:hZ X rest u):hZ X (st :: rest) (kH t u):=by
 intro pins s σ H D I h
 refine wpAny_execs_cons (aF (h1 pins s σ H { D with nx:=u D } I h) fun f s1 q=>?_)
 cases f with
 | next=>
  obtain ⟨σ',H',I',q⟩:=q
  exact h2 pins s1 σ' H' D I' q
 | ret v=>exact q
 | brk=>exact q
 | cont=>exact q
theorem aa (h1:PS X st t):hZ X [st] t:=by
 intro pins s σ H D I h
 refine wpAny_execs_cons (aF (h1 pins s σ H D I h) fun f s1 q=>?_)
 cases f with
 | next=>exact wpAny_execs_nil q
 | ret v=>exact q
 | brk=>exact q
 | cont=>exact q
theorem ac.quiet {pins:List (Addr×Obj)}{σ:St}{H:Hp}{s:Shared} (I:ac X pins σ H s):interactive X.env=false:=by simp [interactive,I.ok.kind]
def Cn (te:TE):TS:=fun D σ H=>te σ H fun _ H1=>D.nx σ H1
theorem bf (he:PE X e te) (hs:swapsWith e none pos.line X.env=pure false:=by rfl):PS X (.Expr e pos) (Cn te):=by
 intro pins s σ H D I h
 exact wpAny_Expr_any (aF (he pins s σ H _ I h) fun v s1 ⟨x,H1,I1,r1,q1⟩=>⟨σ,H1,I1,q1⟩) I.quiet hs
def C6 (te:TE):TS:=fun D σ H=>te σ H D.rt
theorem am (he:PE X e te):PS X (.Return (some e) pos) (C6 te):=by
 intro pins s σ H D I h
 exact wpAny_Return_some (aF (he pins s σ H _ I h) fun v s1 ⟨x,H1,I1,r1,q1⟩=>⟨x,σ,H1,I1,r1,q1⟩)
def pU (c:TT) (t u:TS):TS:=fun D σ H=>c σ H fun b H1=>if b=true then t D σ H1 else u D σ H1
theorem aN {c:Expr}{a b:List Stmt}{tc:TT} (hc:PT X c tc) (ha:hZ X a t) (hb:hZ X b u):PS X (.If c a b pos) (pU tc t u):=by
 intro pins s σ H D I h
 refine wpAny_If (aF (hc pins s σ H _ I h) fun d s1 ⟨H1,I1,q1⟩=>?_)
 cases d with
 | true=>exact ha pins s1 σ H1 D I1 q1
 | false=>exact hb pins s1 σ H1 D I1 q1
end
abbrev TG:=V→St→Hp→(St→Hp→Prop)→Prop
abbrev nU:=List V→St→Hp→(St→Hp→Prop)→Prop
def PG (X:Cx) (target:Expr) (t:TG):Prop:=
 ∀(pins:List (Addr×Obj)) (s:Shared) (σ:St) (H:Hp) (v:V) (u:Value) (Q:St→Hp→Prop),ac X pins σ H s→aM v u→t v σ H Q→
   wpAny (model X.prog X.w) X.A (assign target X.env u) (fun _ s'=>∃σ' H',ac X pins σ' H' s'∧Q σ' H') X.xe s
def vn (X:Cx) (ts:List Expr) (t:nU):Prop:=
 ∀(pins:List (Addr×Obj)) (s:Shared) (σ:St) (H:Hp) (vs:List V) (us:List Value) (Q:St→Hp→Prop),ac X pins σ H s→aq vs us→t vs σ H Q→
   wpAny (model X.prog X.w) X.A (assignInOrder ((assignEach ts X.env).map (·.2)) us) (fun _ s'=>∃σ' H',ac X pins σ' H' s'∧Q σ' H') X.xe s
abbrev wT:=V→V→V→Hp→(Hp→Prop)→Prop
def uO (X:Cx) (t:wT):Prop:=
 ∀(pins:List (Addr×Obj)) (s:Shared) (σ:St) (H:Hp) (o i v:V) (ov iv u:Value) (Q:Hp→Prop),ac X pins σ H s→aM o ov→aM i iv→aM v u→t o i v H Q→
   wpAny (model X.prog X.w) X.A (setItem ov iv u) (fun _ s'=>∃H',ac X pins σ H' s'∧Q H') X.xe s
section
variable {X:Cx}{pos:Pos}
def rh (i:Nat):TG:=fun v σ H Q=>Q (σ.set i (some v)) H
theorem jw {i:Nat}{x:Str} (hN:X.N.Nodup) (hi:X.N[i]?=some x) (hx:xX X.env.scope x) (hf:X.fn x=true∨X.env.scope.names.lookup x=some .local:=by first | exact .inl rfl | exact .inr rfl | assumption):PG X (.Name x pos) (rh i):=by
 intro pins s σ H v u Q I r h
 exact wpAny_assign_Name (dY I hN hi hx r (fun s' I'=>⟨_,H,I',h⟩) hf)
def Dm:nU:=fun vs σ H Q=>vs=[]∧Q σ H
inductive A3 (t:TG) (u:nU) (vs:List V) (σ:St) (H:Hp) (Q:St→Hp→Prop):Prop
 | mk (v:_) (r:_) (h0:vs=v :: r) (h1:t v σ H fun σ' H'=>u r σ' H' Q)
def BG (t:TG) (u:nU):nU:=fun vs σ H Q=>A3 t u vs σ H Q
theorem cA:vn X [] Dm:=by
 intro pins s σ H vs us Q I r h
 obtain ⟨e,h⟩:=h
 subst e
 cases r
 exact assignInOrder_nil ⟨σ,H,I,h⟩
theorem au {e:Expr}{es:List Expr}{t:TG}{u:nU} (h1:PG X e t) (h2:vn X es u)
 (hs:(assignEach (e :: es) X.env).map (·.2)=assign e X.env :: (assignEach es X.env).map (·.2):=by rfl):vn X (e :: es) (BG t u):=by
 intro pins s σ H vs us Q I r h
 obtain ⟨v,vr,e1,h⟩:=h
 subst e1
 cases r with
 | cons r rr=>
  rw [hs]
  refine assignInOrder_cons (aF (h1 pins s σ H _ _ _ I r h) fun _ s1 ⟨σ1,H1,I1,q1⟩=>?_)
  exact h2 pins s1 σ1 H1 _ _ Q I1 rr q1
inductive BR (K:PySem.W.Frag) (n:Nat) (t:nU) (v:V) (σ:St) (H:Hp) (Q:St→Hp→Prop):Prop
 | mk (a:_) (xs:_) (h0:v=.ref a) (h1:af K H a xs) (h2:xs.length=n) (h3:t xs σ H Q)
def AO (K:PySem.W.Frag) (n:Nat) (t:nU):TG:=fun v σ H Q=>BR K n t v σ H Q
theorem vv {es:List Expr}{k:Nat}{t:nU}{n:Nat} (hc:X.calm=true) (h:vn X es t)
 (hn:(assignEach es X.env).length=n:=by rfl) (hst:(assignEach es X.env).findIdx? (·.1)=none:=by rfl):PG X (.Tuple es k pos) (AO X.K n t):=by
 intro pins s σ H v u Q I r hw
 obtain ⟨a,xs,e1,hq,hl,hw⟩:=hw
 subst e1
 cases r
 obtain ⟨its,rv,ht,hz⟩:=I.tuple hq
 refine assign_Tuple_tuple (I.ok.hd hc) ht (by simp [hn,←hl,rv.length]) hst fun h' hx=>?_
 have I1:ac X pins σ H { s with heap:=h' }:=I.kept (t':=s.toks) fun b o e=>hx b o (Nat.ne_of_lt (Heap.lt_size e)) e
 exact h pins _ σ H xs _ Q I1 (by simpa using rv) hw
def Dn (to ti:TE) (t:wT):TG:=fun v σ H Q=>to σ H fun o H1=>ti σ H1 fun i H2=>t o i v H2 fun H3=>Q σ H3
theorem ml {o i:Expr}{to ti:TE}{t:wT} (ho:PE X o to) (hi:PE X i ti) (hs:uO X t)
 (ha:∀v,assign (.Subscript o i pos) X.env v=(do
  let ov ←holding [v] (eval o X.env)
  let iv ←holding [v,ov] (eval i X.env)
  standAt pos
  holding [v,ov,iv] (setItem ov iv v)
  release [v,ov,iv] []):=by intro _;rfl):PG X (.Subscript o i pos) (Dn to ti t):=by
 intro pins s σ H v u Q I r h
 rw [ha]
 refine wpAny_bind (wpAny_holding (aF (ho pins s σ H _ I h) fun ov s1 ⟨x,H1,I1,r1,q1⟩=>?_))
 refine wpAny_bind (wpAny_holding (aF (hi pins s1 σ H1 _ I1 q1) fun iv s2 ⟨y,H2,I2,r2,q2⟩=>?_))
 refine wpAny_bind (wpAny_standAt (wpAny_bind (wpAny_holding (aF (hs pins s2 σ H2 x y v ov iv u _ I2 r1 r2 r q2) fun _ s3 ⟨H3,I3,q3⟩=>?_))))
 exact wpAny_release ⟨σ,H3,I3,q3⟩
def uL (te:TE) (g:TG):TS:=fun D σ H=>te σ H fun x H1=>g x σ H1 D.nx
theorem di {tg e:Expr}{te:TE}{g:TG} (he:PE X e te) (hg:PG X tg g) (hs:swapsWithSole [tg] e pos.line X.env=pure false:=by rfl) (hw:swappedStores [tg] e X.env=pure none:=by rfl)
 (h1:(assignEach [tg] X.env).map (·.2)=[assign tg X.env]:=by rfl):PS X (.Assign [tg] e pos) (uL te g):=by
 intro pins s σ H D I h
 refine wpAny_Assign_stores (aF (he pins s σ H _ I h) fun v s1 ⟨x,H1,I1,r1,q1⟩=>?_) hs hw
 rw [h1]
 exact aF (hg pins s1 σ H1 x v _ I1 r1 q1) fun _ s2 q=>q
theorem ma {i:Nat}{x:Str}{e:Expr}{te:TE}{pos':Pos} (hN:X.N.Nodup) (hi:X.N[i]?=some x) (hx:xX X.env.scope x) (he:PE X e te) (hs:swapsWith e (some (.Name x pos')) pos.line X.env=pure false:=by rfl) (hf:X.fn x=true∨X.env.scope.names.lookup x=some .local:=by first | exact .inl rfl | exact .inr rfl | assumption) :
 PS X (.Assign [.Name x pos'] e pos) (uL te (rh i)):=by
 intro pins s σ H D I h
 refine wpAny_Assign_Name (aF (he pins s σ H _ I h) fun v s1 ⟨y,H1,I1,r1,q1⟩=>?_) hs
 exact dY I1 hN hi hx r1 (fun s2 I2=>⟨_,H1,I2,q1⟩) hf
def Ak (i j:Nat) (ta:TA):TS:=fun D σ H=>ta σ H fun vs H1=>bn fun v w=>vs=[v,w]∧D.nx ((σ.set i (some v)).set j (some w)) H1
theorem jz {i j:Nat}{x y:Str}{a b:Expr}{ta:TA}{px py pt:Pos}{kt k2 pt2} (hc:X.calm=true) (hN:X.N.Nodup) (hi:X.N[i]?=some x) (hj:X.N[j]?=some y) (hij:i≠j)
 (hx:X.env.scope.names.lookup x=some .local) (hy:X.env.scope.names.lookup y=some .local) (ha:PA X [a,b] ta)
 (hw:swappedStores [.Tuple [.Name x px,.Name y py] kt pt] (.Tuple [a,b] k2 pt2) X.env=pure (some [x,y]))
 (hs:swapsWithSole [.Tuple [.Name x px,.Name y py] kt pt] (.Tuple [a,b] k2 pt2) pos.line X.env=pure false:=by rfl) :
 PS X (.Assign [.Tuple [.Name x px,.Name y py] kt pt] (.Tuple [a,b] k2 pt2) pos) (Ak i j ta):=by
 intro pins s σ H D I h
 rw [exec_Assign_arm]
 refine wpAny_bind (wpAny_standAt ?_)
 rw [hs]
 refine wpAny_bind (wpAny_pure ?_)
 rw [if_neg (by decide)]
 refine wpAny_bind (Tuple_ (aF (ha _ pins s σ H _ I h) fun us s1 ⟨vs,H1,I1,r1,q1⟩=>?_))
 obtain ⟨v,w,e1,q1⟩:=q1
 subst e1
 obtain ⟨u1,u2,rfl,rv,rw'⟩:bn fun u1 u2=>us=[u1,u2]∧aM v u1∧aM w u2:=by
  cases r1 with
  | cons p q=>
   cases q with
   | cons p' q'=>
    cases q'
    exact ⟨_,(),p,p'⟩
 refine wpAny_newObj_type ?_ (by show 2≤sizeLine;decide)
 have I2:ac X pins σ H1 { s1 with heap:=s1.heap.push { cls:=.type "tuple",data:=.seq [u1,u2].toArray } }:=I1.kept (t':=s1.toks) fun b o e=>Heap.get?_push_of_some _ e
 rw [hw]
 refine wpAny_bind (wpAny_pure ?_)
 show wpAny (model X.prog X.w) X.A (do rule "assign.swapped-stores";let items ←unpackItems (.ref s1.heap.objs.size) 2 none;assignInOrder [fun v=>bindName X.env y v,fun v=>bindName X.env x v] items.reverse;pure Flow.next) _ _ _
 refine wpAny_bind (wpAny_rule (wpAny_bind (unpackItems_tuple (items:=#[u1,u2]) (I.ok.hd hc) (IsTup.new s1.heap _) fun h' hx'=>?_)))
 have I3:=I2.kept (h':=h') (t':=s1.toks) fun b o e=>hx' b o (Nat.ne_of_lt (Heap.lt_size e)) e
 show wpAny _ _ (assignInOrder [fun v=>bindName X.env y v,fun v=>bindName X.env x v] [u2,u1] >>= fun _=>pure Flow.next) _ _ _
 refine wpAny_bind (assignInOrder_cons (wpAny_bindName (dY I3 hN hj (.inl hy) rw' (fun s2 I4=>?_) (.inr hy))))
 refine assignInOrder_cons (wpAny_bindName (dY I4 hN hi (.inl hx) rv (fun s3 I5=>assignInOrder_nil (wpAny_pure ?_)) (.inr hx)))
 rw [List.set_comm _ _ (Ne.symm hij)] at I5
 exact ⟨_,H1,I5,q1⟩
end
section
variable {X:Cx}{pos:Pos}
def AI (c:TT) (tb:TS):TS:=fun D σ H=>∃W:Nat→St→Hp→Prop,(∃m,W m σ H)∧∀m σ H,W m σ H→
 c σ H fun b H1=>if b=true then ∃N:St→Hp→Prop,(∀σ' H',N σ' H'→∃m',m'<m∧W m' σ' H')∧tb { D with nx:=N,ct:=N,bk:=D.nx } σ H1 else D.nx σ H1
theorem wI {c:Expr}{body:List Stmt}{tc:TT}{tb:TS} (hp:PassesOwn (model X.prog X.w) X.A X.env X.xe) (hc:PT X c tc) (hb:hZ X body tb):PS X (.While c body [] pos) (AI tc tb):=by
 intro pins s σ H D I h
 obtain ⟨W,⟨m0,w0⟩,turn⟩:=h
 refine wpAny_While (codeAny_whileLoop (fun n s'=>∃σ' H',ac X pins σ' H' s'∧W n σ' H') ?_ m0 ⟨σ,H,I,w0⟩)
 rintro n s1 ⟨σ1,H1,I1,w1⟩
 refine wpAny_passesOwn hp (aF (hc pins s1 σ1 H1 _ I1 (turn n σ1 H1 w1)) fun b s2 ⟨H2,I2,q2⟩=>?_)
 cases b with
 | true=>
  obtain ⟨N,hN,q2⟩:=q2
  rw [if_pos rfl]
  refine wpAny_passesOwn hp (aF (hb pins s2 σ1 H2 _ I2 q2) fun f s3 q3=>?_)
  cases f with
  | next=>
   obtain ⟨σ3,H3,I3,n3⟩:=q3
   obtain ⟨m',hm,w3⟩:=hN σ3 H3 n3
   exact ⟨m',hm,σ3,H3,I3,w3⟩
  | cont=>
   obtain ⟨σ3,H3,I3,n3⟩:=q3
   obtain ⟨m',hm,w3⟩:=hN σ3 H3 n3
   exact ⟨m',hm,σ3,H3,I3,w3⟩
  | brk=>exact q3
  | ret v=>exact q3
 | false=>
  rw [if_neg Bool.false_ne_true]
  exact wpAny_execs_nil ⟨σ1,H2,I2,q2⟩
end
structure It where
 go:Nat→Hp→Prop
 yld:Nat→Hp→V→Hp→Prop
 stop:Nat→Hp→Prop
def jW (X:Cx) (pins:List (Addr×Obj)) (H:Hp) (b:Addr):Prop:=
 H b=none∧b≠X.env.locals∧b∉X.fs∧(b∈X.ex∨X.s₀.heap.objs.size≤b)∧(∀x c,X.env.cells.lookup x=some c→c≠b)∧∀p∈X.pn++pins,p.1≠b
theorem ac.fpOk {X:Cx}{pins:List (Addr×Obj)}{σ:St}{H H':Hp}{s:Shared}{b:Addr} (I:ac X pins σ H s) (hb:s.heap.objs.size≤b) (hn:H' b=none):jW X pins H' b:=by
 refine ⟨hn,Nat.ne_of_gt (Nat.lt_of_lt_of_le I.lt hb),I.nofs hb,.inr (Nat.le_trans I.sz hb),fun x c e z=>?_,fun p hp z=>?_⟩
 ·obtain ⟨v,q⟩:=I.cell x c e
  exact absurd (Nat.lt_of_lt_of_le q.lt (by rw [z];exact hb)) (Nat.lt_irrefl _)
 ·exact absurd (Nat.lt_of_lt_of_le (Heap.lt_size (I.pin p hp).1) (by rw [z];exact hb)) (Nat.lt_irrefl _)
structure oK (P:Program) (w:World) (K:PySem.W.Frag) (tg:Expr) (J:It) (fp:List Addr) (it:Addr) (tn:Nat→Heap→Prop):Prop where
 mem:it∈fp
 obj:∀i h,tn i h→∀b∈fp,∃o,h.get? b=some o∧∀v,o.data≠.cell v
 keep:∀i h h',tn i h→(∀b∈fp,∀o,h.get? b=some o→h'.get? b=some o)→tn i h'
 item:∀(X:Cx),X.prog=P→X.w=w→X.K=K→X.calm=true→∀(i:Nat) (pins:List (Addr×Obj)) (s:Shared) (σ:St) (H:Hp) (E:Value→Shared→Prop),ac X pins σ H s→(∀b∈fp,jW X pins H b)→tn i s.heap→J.go i H→
  wpAny (model P w) X.A (pyNext (.ref it)) (fun r s1=>∃u,r=some u∧
   wpAny (model P w) X.A (letOwnedTupleGo tg (.ref it) u) (fun _ s2=>bn fun x H'=>ac X pins σ H' s2∧aM x u∧J.yld i H x H'∧tn (i+1) s2.heap∧∀b∈fp,H' b=none) E s1) E s
 done:∀(X:Cx),X.prog=P→X.w=w→X.K=K→X.calm=true→∀(i:Nat) (pins:List (Addr×Obj)) (s:Shared) (σ:St) (H:Hp) (E:Value→Shared→Prop),ac X pins σ H s→(∀b∈fp,jW X pins H b)→tn i s.heap→J.stop i H→
  wpAny (model P w) X.A (pyNext (.ref it)) (fun r s1=>r=none∧ac X pins σ H s1) E s
 self:∀(A:Around) (i:Nat) (s:Shared) (Q:Value→Shared→Prop) (E:Value→Shared→Prop),tn i s.heap→Q (.ref it) s→wpAny (model P w) A (pyIter (.ref it)) Q E s
abbrev TI:=St→Hp→(It→Hp→Prop)→Prop
def CD (X:Cx) (pins:List (Addr×Obj)) (σ:St) (tg:Expr) (R:It→Hp→Prop) (itv:Value) (s2:Shared):Prop:=
 xZ fun (it:Addr) (fp:List Addr) (tn:Nat→Heap→Prop) (J:It) (H':Hp)=>itv=.ref it∧ac X pins σ H' s2∧oK X.prog X.w X.K tg J fp it tn∧tn 0 s2.heap∧(∀b∈fp,jW X pins H' b)∧R J H'
def PI (X:Cx) (tg iter:Expr) (wi:TI):Prop:=
 ∀(pins:List (Addr×Obj)) (s:Shared) (σ:St) (H:Hp) (R:It→Hp→Prop),ac X pins σ H s→wi σ H R→
   wpAny (model X.prog X.w) X.A (eval iter X.env) (fun v s1=>wpAny (model X.prog X.w) X.A (pyIter v) (CD X pins σ tg R) X.xe s1) X.xe s
theorem uB {M:Model}{A:Around}{E:Value→Shared→Prop}{s:Shared}{tg:Expr}{it:Addr}{u:Value}{o:Obj}{n:String}{vs:Array Value}{Q:Unit→Shared→Prop} (ho:s.heap.get? it=some o) (hc:o.cls=.type n) (hd:o.data=.fields vs)
 (hn:["enumerate", "zip", "dict_itemiterator", "dict_reverseitemiterator", "odict_iterator", "itertools.zip_longest", "itertools.pairwise"].contains n=false) (hQ:Q () s):wpAny M A (letOwnedTupleGo tg (.ref it) u) Q E s:=by
 unfold letOwnedTupleGo
 cases tg <;> first
  | exact wpAny_pure hQ
  | (cases u <;> first
   | exact wpAny_pure hQ
   | (refine wpAny_bind (wpAny_load ho ?_)
      rw [hc,hd]
      show wpAny M A (if (["enumerate", "zip", "dict_itemiterator", "dict_reverseitemiterator", "odict_iterator", "itertools.zip_longest", "itertools.pairwise"].contains n && vs[0]?==some (rawInt _))=true then _ else _) Q E s
      rw [if_neg (by intro h;rw [hn,Bool.false_and] at h;cases h)]
      exact wpAny_pure hQ))
def uY (K:PySem.W.Frag) (a:Addr):It:=
 ⟨fun i H=>bn fun xs x=>ao K H a xs∧xs[i]?=some x,fun i H x H'=>H'=H∧∀xs,ao K H a xs→xs[i]?=some x,fun i H=>∃xs,ao K H a xs∧xs.length≤i⟩
def AU (K:PySem.W.Frag) (a:Addr):It:=
 ⟨fun i H=>bn fun xs x=>af K H a xs∧xs[i]?=some x,fun i H x H'=>H'=H∧∀xs,af K H a xs→xs[i]?=some x,fun i H=>∃xs,af K H a xs∧xs.length≤i⟩
def tu (lo:Int) (n:Nat):It:=⟨fun i _=>i<n,fun i H x H'=>H'=H∧x=.int (lo+i),fun i _=>n≤i⟩
theorem uU {P:Program}{w:World}{K:PySem.W.Frag}{tg:Expr} (a it:Addr):oK P w K tg (uY K a) [it] it (fun i h=>h.IsListIter it a i) where
 mem:=by simp
 obj:=fun i h st b hb=>by
  have e:b=it:=by simpa using hb
  subst e
  obtain ⟨o,e,c,d⟩:=st
  exact ⟨o,e,fun v z=>by rw [d] at z;cases z⟩
 keep:=fun i h h' st k=>st.at fun o e=>k it (by simp) o e
 item:=by
  intro X hP hw hK hc i pins s σ H E I hf st hg
  subst hP hw hK
  obtain ⟨xs,x,hq,hx⟩:=hg
  obtain ⟨its,rv,p,hz⟩:=I.list hq
  obtain ⟨u,hu,ru⟩:=rv.get hx
  obtain ⟨f0,f1,f2,f3,f4,f5⟩:=hf it (by simp)
  refine wpAny_pyNext_list_item st p.isList (x:=u) (by simpa using hu) fun h' st' sb=>?_
  have I1:ac X pins σ H { s with heap:=h' }:=I.turned (t':=s.toks) (fun b o hb e=>(sb.2 b hb).trans e) f0 f1 f3 f4 f5
  obtain ⟨o,e,c,d⟩:=id st'
  exact ⟨u,rfl,uB (s:={ s with heap:=h' }) e c d (by decide) ⟨x,H,I1,ru,⟨rfl,fun ys hy=>by rw [I.list_inj hy hq];exact hx⟩,st',fun b hb=>(hf b hb).1⟩⟩
 done:=by
  intro X hP hw hK hc i pins s σ H E I hf st hg
  subst hP hw hK
  obtain ⟨xs,hq,hx⟩:=hg
  obtain ⟨its,rv,p,hz⟩:=I.list hq
  obtain ⟨f0,f1,f2,f3,f4,f5⟩:=hf it (by simp)
  have hl:=rv.length
  exact wpAny_pyNext_list_end (I.ok.hd hc) st p.isList (by simp;trivial) fun h' eb=>⟨rfl,I.turned (t':=s.toks) (fun b o hb e=>eb b o hb e) f0 f1 f3 f4 f5⟩
 self:=fun _ _ _ _ _ st h=>wpAny_pyIter_listiter st h
theorem uf {P:Program}{w:World}{K:PySem.W.Frag}{tg:Expr} (a it:Addr):oK P w K tg (AU K a) [it] it (fun i h=>h.IsTupleIter it a i) where
 mem:=by simp
 obj:=fun i h st b hb=>by
  have e:b=it:=by simpa using hb
  subst e
  obtain ⟨o,e,c,d⟩:=st
  exact ⟨o,e,fun v z=>by rw [d] at z;cases z⟩
 keep:=fun i h h' st k=>st.at fun o e=>k it (by simp) o e
 item:=by
  intro X hP hw hK hc i pins s σ H E I hf st hg
  subst hP hw hK
  obtain ⟨xs,x,hq,hx⟩:=hg
  obtain ⟨its,rv,p,hz⟩:=I.tuple hq
  obtain ⟨u,hu,ru⟩:=rv.get hx
  obtain ⟨f0,f1,f2,f3,f4,f5⟩:=hf it (by simp)
  refine wpAny_pyNext_tuple_item st (show s.heap.IsTuple a its.toArray from p) (x:=u) (by simpa using hu) fun h' st' sb=>?_
  have I1:ac X pins σ H { s with heap:=h' }:=I.turned (t':=s.toks) (fun b o hb e=>(sb.2 b hb).trans e) f0 f1 f3 f4 f5
  obtain ⟨o,e,c,d⟩:=id st'
  exact ⟨u,rfl,uB (s:={ s with heap:=h' }) e c d (by decide) ⟨x,H,I1,ru,⟨rfl,fun ys hy=>by rw [I.tuple_inj hy hq];exact hx⟩,st',fun b hb=>(hf b hb).1⟩⟩
 done:=by
  intro X hP hw hK hc i pins s σ H E I hf st hg
  subst hP hw hK
  obtain ⟨xs,hq,hx⟩:=hg
  obtain ⟨its,rv,p,hz⟩:=I.tuple hq
  obtain ⟨f0,f1,f2,f3,f4,f5⟩:=hf it (by simp)
  have hl:=rv.length
  exact wpAny_pyNext_tuple_end (I.ok.hd hc) st (show s.heap.IsTuple a its.toArray from p) (by simp;trivial) fun h' eb=>⟨rfl,I.turned (t':=s.toks) (fun b o hb e=>eb b o hb e) f0 f1 f3 f4 f5⟩
 self:=fun _ _ _ _ _ st h=>wpAny_pyIter_tupleiter st h
theorem um {P:Program}{w:World}{K:PySem.W.Frag}{tg:Expr} (it:Addr) (lo:Int) (n:Nat):oK P w K tg (tu lo n) [it] it (fun i h=>IsRangeIter h it (lo+(i:Nat)*1) ((n:Int) - (i:Nat)) 1) where
 mem:=by simp
 obj:=fun i h st b hb=>by
  have e:b=it:=by simpa using hb
  subst e
  exact ⟨_,st,fun v z=>by
   have z':Data.fields _=Data.cell v:=z
   cases z'⟩
 keep:=fun i h h' st k=>k it (by simp) _ st
 item:=by
  intro X hP hw hK hc i pins s σ H E I hf st hg
  subst hP hw hK
  obtain ⟨f0,f1,f2,f3,f4,f5⟩:=hf it (by simp)
  have W:=Walks.range (prog:=X.prog) (w:=X.w) (I.ok.hd hc) it lo 1 n
  refine W.item i s _ _ hg st fun v h' tk hv st' kk=>?_
  obtain ⟨t,rfl⟩:=hv
  have I1:ac X pins σ H { s with heap:=h',toks:=tk }:=I.turned (fun b o hb e=>kk b o (by simpa using hb) e) f0 f1 f3 f4 f5
  refine ⟨(),uB (s:={ s with heap:=h',toks:=tk }) (n := "range_iterator") st' rfl rfl (by decide) ⟨.int (lo+i),H,I1,⟨t,?_⟩,⟨rfl,rfl⟩,st',fun b hb=>(hf b hb).1⟩⟩
  rw [Int.mul_one]
 done:=by
  intro X hP hw hK hc i pins s σ H E I hf st hg
  subst hP hw hK
  obtain ⟨f0,f1,f2,f3,f4,f5⟩:=hf it (by simp)
  exact wpAny_pyNext_range_end (I.ok.hd hc) st (by have:n≤i:=hg;trivial) fun h' eb=>⟨rfl,I.turned (t':=s.toks) (fun b o hb e=>eb b o hb e) f0 f1 f3 f4 f5⟩
 self:=fun _ _ _ _ _ st h=>wpAny_pyIter_rangeiter st h
section
variable {X:Cx}{tg:Expr}
def xV (K:PySem.W.Frag) (tl:TE):TI:=fun σ H R=>tl σ H fun x H1=>∃a,x=.ref a∧(∃xs,ao K H1 a xs)∧R (uY K a) H1
def Bc (K:PySem.W.Frag) (tl:TE):TI:=fun σ H R=>tl σ H fun x H1=>∃a,x=.ref a∧(∃xs,af K H1 a xs)∧R (AU K a) H1
theorem yJ {l:Expr}{tl:TE} (hl:PE X l tl):PI X tg l (xV X.K tl):=by
 intro pins s σ H R I h
 refine aF (hl pins s σ H _ I h) fun v s1 ⟨x,H1,I1,r1,q1⟩=>?_
 obtain ⟨a,e,⟨xs,hq⟩,q⟩:=q1
 subst e
 cases r1
 obtain ⟨its,rv,p,hz⟩:=I1.list hq
 refine wpAny_pyIter_list p.isList ?_
 refine ⟨s1.heap.objs.size,[s1.heap.objs.size],_,_,H1,rfl,I1.kept (t':=s1.toks) fun b o e=>Heap.get?_push_of_some _ e,uU a _,⟨_,Heap.get?_push_size _ rfl,rfl,rfl⟩,fun b hb=>?_,q⟩
 have e:b=s1.heap.objs.size:=by simpa using hb
 subst e
 exact I1.fpOk (Nat.le_refl _) (I1.hok.fresh (Nat.le_refl _))
theorem zY {l:Expr}{tl:TE} (hl:PE X l tl):PI X tg l (Bc X.K tl):=by
 intro pins s σ H R I h
 refine aF (hl pins s σ H _ I h) fun v s1 ⟨x,H1,I1,r1,q1⟩=>?_
 obtain ⟨a,e,⟨xs,hq⟩,q⟩:=q1
 subst e
 cases r1
 obtain ⟨its,rv,p,hz⟩:=I1.tuple hq
 refine wpAny_pyIter_tuple (show s1.heap.IsTuple a its.toArray from p) ?_
 refine ⟨s1.heap.objs.size,[s1.heap.objs.size],_,_,H1,rfl,I1.kept (t':=s1.toks) fun b o e=>Heap.get?_push_of_some _ e,uf a _,⟨_,Heap.get?_push_size _ rfl,rfl,rfl⟩,fun b hb=>?_,q⟩
 have e:b=s1.heap.objs.size:=by simpa using hb
 subst e
 exact I1.fpOk (Nat.le_refl _) (I1.hok.fresh (Nat.le_refl _))
theorem xD {pins:List (Addr×Obj)}{σ:St}{H:Hp}{s:Shared}{R:It→Hp→Prop}{E:Value→Shared→Prop}{lo hi:Int}{t u v:Tok}{tk:Nat} (I:ac X pins σ H s) (h1:-(2 ^ 62)≤lo) (h2:lo<2 ^ 62) (h3:-(2 ^ 62)≤hi) (h4:hi<2 ^ 62)
 (q:R (tu lo (hi - lo).toNat) H):wpAny (model X.prog X.w) X.A (pyIter (.ref s.heap.objs.size)) (CD X pins σ tg R) E { s with heap:=s.heap.push { cls:=.type "range",data:=.fields #[.int lo t,.int hi u,.int 1 v] },toks:=tk }:=by
 refine wpAny_pyIter_range (IsRange.new ..) (small_one h1 h2 h3 h4) ?_
 have I1:ac X pins σ H { s with heap:=s.heap.push { cls:=.type "range",data:=.fields #[.int lo t,.int hi u,.int 1 v] },toks:=tk }:=I.kept fun b o e=>Heap.get?_push_of_some _ e
 refine ⟨(s.heap.push { cls:=.type "range",data:=.fields #[.int lo t,.int hi u,.int 1 v] }).objs.size,[(s.heap.push { cls:=.type "range",data:=.fields #[.int lo t,.int hi u,.int 1 v] }).objs.size],_,_,H,rfl,
  I1.kept (t':=tk) fun b o e=>Heap.get?_push_of_some _ e,um _ lo (hi - lo).toNat,?_,fun b hb=>?_,q⟩
 ·have e1:lo+((0:Nat):Int)*1=lo:=by simp
  have e2:(((hi - lo).toNat:Nat):Int) - ((0:Nat):Int)=Builtin.Range.rangeSize lo hi 1:=by rw [rangeSize_one];split <;> trivial
  show IsRangeIter _ _ (lo+((0:Nat):Int)*1) ((((hi - lo).toNat:Nat):Int) - ((0:Nat):Int)) 1
  rw [e1,e2]
  exact Heap.get?_push_size _ rfl
 ·have e:b=(s.heap.push { cls:=.type "range",data:=.fields #[.int lo t,.int hi u,.int 1 v] }).objs.size:=by simpa using hb
  subst e
  exact I1.fpOk (Nat.le_refl _) (I1.hok.fresh (Nat.le_refl _))
def Bw (ta:TA):TI:=fun σ H R=>ta σ H fun vs H1=>∃j:Int,vs=[.int j]∧-(2 ^ 62)≤j∧j<2 ^ 62∧R (tu 0 j.toNat) H1
theorem gI {a:Expr}{ta:TA}{p pos:Pos} (hg:Gl X "range") (hm:X.mg "range" = none) (ha:PA X [a] ta) (hs:starEach [a] X.env=[(false,eval a X.env)]:=by rfl):PI X tg (.Call (.Name "range" p) [a] [] pos) (Bw ta):=by
 intro pins s σ H R I h
 refine Call_ (jC I hg hm boot_range (PyProof.Rows.callWith_type1 (aF (ha pos pins s σ H _ I h) fun us s1 ⟨vs,H1,I1,r1,q1⟩=>?_) hs rfl))
 obtain ⟨j,e,q1,q2,q⟩:=q1
 subst e
 cases r1 with
 | cons r rr=>
  cases rr
  obtain ⟨t,rfl⟩:=r
  exact call_range_1 (xD I1 (by trivial) (by trivial) q1 q2 (by simpa using q))
def CP (wi:TI) (g:TG) (tb:TS):TS:=fun D σ H=>wi σ H fun J H1=>∃W:Nat→Nat→St→Hp→Prop,(∃m,W 0 m σ H1)∧∀i m σ H,W i m σ H→
 (J.stop i H∧D.nx σ H)∨(J.go i H∧∃N:St→Hp→Prop,(∀σ' H',N σ' H'→∃m',m'<m∧W (i+1) m' σ' H')∧∀x H',J.yld i H x H'→g x σ H' fun σ2 H2=>tb { D with nx:=N,ct:=N,bk:=D.nx } σ2 H2)
def mB (fp:List Addr) (h:Heap):List (Addr×Obj):=fp.filterMap fun b=>(h.get? b).map fun o=>(b,o)
theorem js {fp:List Addr}{h:Heap}{b:Addr}{o:Obj} (hb:b∈fp) (e:h.get? b=some o):(b,o)∈mB fp h:=List.mem_filterMap.mpr ⟨b,hb,by rw [e];rfl⟩
theorem vB {fp:List Addr}{h:Heap}{p:Addr×Obj} (hp:p∈mB fp h):p.1∈fp∧h.get? p.1=some p.2:=by
 obtain ⟨b,hb,e⟩:=List.mem_filterMap.mp hp
 cases q:h.get? b with
 | none=>rw [q] at e;cases e
 | some o=>
  rw [q] at e
  have e':(b,o)=p:=Option.some.inj e
  subst e'
  exact ⟨hb,q⟩
theorem ac.pinned {pins:List (Addr×Obj)}{σ:St}{H:Hp}{s:Shared}{fp:List Addr} (I:ac X pins σ H s) (hf:∀b∈fp,jW X pins H b) (ho:∀b∈fp,∃o,s.heap.get? b=some o∧∀v,o.data≠.cell v):ac X (pins++mB fp s.heap) σ H s:=
 I.pins_of fun p hp=>(List.mem_append.mp hp).elim (fun z=>I.pin p (List.mem_append_right _ z)) fun z=>by
  obtain ⟨hb,e⟩:=vB z
  obtain ⟨f0,f1,f2,_⟩:=hf p.1 hb
  obtain ⟨o,e',d⟩:=ho p.1 hb
  rw [e] at e';cases e'
  exact ⟨e,f0,f1,f2,d⟩
theorem ac.unpinned {pins pl:List (Addr×Obj)}{σ:St}{H:Hp}{s:Shared} (I:ac X (pins++pl) σ H s):ac X pins σ H s:=I.pins_of fun p hp=>I.pin p (List.mem_append_right _ (List.mem_append_left _ hp))
theorem kU {iter:Expr}{body:List Stmt}{wi:TI}{g:TG}{tb:TS}{pos:Pos} (hp:PassesOwn (model X.prog X.w) X.A X.env X.xe) (hc:X.calm=true) (hi:PI X tg iter wi) (hg:PG X tg g) (hb:hZ X body tb)
 (hs:∀x,foldedSetIterable iter X.env x=pure x:=by intro _;rfl):PS X (.For tg iter body [] pos) (CP wi g tb):=by
 intro pins s σ H D I h
 refine wpAny_For (aF (hi pins s σ H _ I h) fun v s1 h1=>aF h1 fun itv s2 h2=>?_) hs
 obtain ⟨it,fp,tn,J,H2,e,I2,T,st2,f2,W,⟨m0,w0⟩,turn⟩:=h2
 subst e
 have stat:∀{H':Hp},(∀b∈fp,H' b=none)→∀b∈fp,jW X pins H' b:=fun hn b hb=>⟨hn b hb,(f2 b hb).2⟩
 refine codeAny_forLoop_any (fun n s'=>∃i σ' H',ac X pins σ' H' s'∧tn i s'.heap∧(∀b∈fp,H' b=none)∧W i n σ' H') ?_ m0 ⟨0,σ,H2,I2,st2,fun b hb=>(f2 b hb).1,w0⟩
 rintro n s3 ⟨i,σ3,H3,I3,st3,fr3,w3⟩
 rcases turn i n σ3 H3 w3 with ⟨stop,qn⟩ | ⟨go,N,hN,step⟩
 ·refine wpAny_passesOwn hp (aF (T.done X rfl rfl rfl hc i pins s3 σ3 H3 X.xe I3 (stat fr3) st3 stop) fun r s4 ⟨hr,I4⟩=>?_)
  subst hr
  exact wpAny_execs_nil ⟨σ3,H3,I4,qn⟩
 ·refine wpAny_passesOwn hp (aF (T.item X rfl rfl rfl hc i pins s3 σ3 H3 X.xe I3 (stat fr3) st3 go) fun r s4 ⟨u,hr,h4⟩=>?_)
  subst hr
  refine wpAny_passesOwn hp (aF h4 fun _ s5 ⟨x,H5,I5,r5,y5,st5,fr5⟩=>?_)
  have I5':=I5.pinned (stat fr5) (T.obj _ _ st5)
  refine wpAny_passesOwn hp (aF (hg _ s5 σ3 H5 x u _ I5' r5 (step x H5 y5)) fun _ s6 ⟨σ6,H6,I6,q6⟩=>?_)
  refine wpAny_passesOwn hp (aF (hb _ s6 σ6 H6 _ I6 q6) fun f s7 q7=>?_)
  have again:∀{σ7:St}{H7:Hp},ac X (pins++mB fp s5.heap) σ7 H7 s7→N σ7 H7→∃m,m<n∧∃i σ' H',ac X pins σ' H' s7∧tn i s7.heap∧(∀b∈fp,H' b=none)∧W i m σ' H':=fun {σ7 H7} I7 n7=>by
   obtain ⟨m',hm,w7⟩:=hN σ7 H7 n7
   refine ⟨m',hm,i+1,σ7,H7,I7.unpinned,T.keep _ _ _ st5 fun b hb o e=>(I7.pin (b,o) (List.mem_append_right _ (List.mem_append_right _ (js hb e)))).1,fun b hb=>?_,w7⟩
   obtain ⟨o,e,d⟩:=T.obj _ _ st5 b hb
   exact (I7.pin (b,o) (List.mem_append_right _ (List.mem_append_right _ (js hb e)))).2.1
  cases f with
  | next=>obtain ⟨σ7,H7,I7,n7⟩:=q7;exact again I7 n7
  | cont=>obtain ⟨σ7,H7,I7,n7⟩:=q7;exact again I7 n7
  | brk=>obtain ⟨σ7,H7,I7,q7⟩:=q7;exact ⟨σ7,H7,I7.unpinned,q7⟩
  | ret v=>obtain ⟨x7,σ7,H7,I7,r7,q7⟩:=q7;exact ⟨x7,σ7,H7,I7.unpinned,r7,q7⟩
end
theorem xa {K:PySem.W.Frag}{a:Addr}{xs:List V}{g:TG}{tb:TS}{D:cK}{σ:St}{H:Hp} (Pv:Nat→St→Hp→Prop) (h0:Pv 0 σ H) (hl:∀i σ H,i≤xs.length→Pv i σ H→ao K H a xs)
 (hs:∀i x σ H,xs[i]?=some x→Pv i σ H→g x σ H fun σ2 H2=>tb { D with nx:=Pv (i+1),ct:=Pv (i+1),bk:=D.nx } σ2 H2) (hd:∀σ H,Pv xs.length σ H→D.nx σ H) :
 ∃W:Nat→Nat→St→Hp→Prop,(∃m,W 0 m σ H)∧∀i m σ H,W i m σ H→
  ((uY K a).stop i H∧D.nx σ H)∨((uY K a).go i H∧∃N:St→Hp→Prop,(∀σ' H',N σ' H'→∃m',m'<m∧W (i+1) m' σ' H')∧∀x H',(uY K a).yld i H x H'→g x σ H' fun σ2 H2=>tb { D with nx:=N,ct:=N,bk:=D.nx } σ2 H2):=by
 refine ⟨fun i m σ H=>m=xs.length - i∧i≤xs.length∧Pv i σ H,⟨xs.length,by simp,Nat.zero_le _,h0⟩,?_⟩
 rintro i m σ H ⟨rfl,hi,p⟩
 have q:=hl i σ H hi p
 by_cases hlt:i<xs.length
 ·refine .inr ⟨⟨xs,xs[i],q,by simp [hlt]⟩,Pv (i+1),fun σ' H' p'=>⟨xs.length - (i+1),by trivial,rfl,hlt,p'⟩,fun x H' y=>?_⟩
  obtain ⟨e,y⟩:=y
  subst e
  exact hs i x σ _ (y xs q) p
 ·have e:i=xs.length:=by trivial
  subst e
  exact .inl ⟨⟨xs,q,Nat.le_refl _⟩,hd σ H p⟩
theorem l5 {lo:Int}{n:Nat}{g:TG}{tb:TS}{D:cK}{σ:St}{H:Hp} (Pv:Nat→St→Hp→Prop) (h0:Pv 0 σ H)
 (hs:∀i σ H,i<n→Pv i σ H→g (.int (lo+i)) σ H fun σ2 H2=>tb { D with nx:=Pv (i+1),ct:=Pv (i+1),bk:=D.nx } σ2 H2) (hd:∀σ H,Pv n σ H→D.nx σ H) :
 ∃W:Nat→Nat→St→Hp→Prop,(∃m,W 0 m σ H)∧∀i m σ H,W i m σ H→
  ((tu lo n).stop i H∧D.nx σ H)∨((tu lo n).go i H∧∃N:St→Hp→Prop,(∀σ' H',N σ' H'→∃m',m'<m∧W (i+1) m' σ' H')∧∀x H',(tu lo n).yld i H x H'→g x σ H' fun σ2 H2=>tb { D with nx:=N,ct:=N,bk:=D.nx } σ2 H2):=by
 refine ⟨fun i m σ H=>m=n - i∧i≤n∧Pv i σ H,⟨n,by simp,Nat.zero_le _,h0⟩,?_⟩
 rintro i m σ H ⟨rfl,hi,p⟩
 by_cases hlt:i<n
 ·refine .inr ⟨hlt,Pv (i+1),fun σ' H' p'=>⟨n - (i+1),by trivial,rfl,hlt,p'⟩,fun x H' y=>?_⟩
  obtain ⟨e,y⟩:=y
  subst e y
  exact hs i σ _ hlt p
 ·have e:i=n:=by trivial
  subst e
  exact .inl ⟨Nat.le_refl _,hd σ H p⟩
abbrev R2:=V→V→Hp→VK→Prop
def cr (X:Cx) (f:Value→Value→Sem Value) (r:R2):Prop:=
 ∀(pins:List (Addr×Obj)) (s:Shared) (σ:St) (H:Hp) (x y:V) (v u:Value) (Q:VK),ac X pins σ H s→aM x v→aM y u→r x y H Q→
   wpAny (model X.prog X.w) X.A (f v u) (EP X pins σ Q) X.xe s
def AX (X:Cx) (f:Value→Sem Value) (r:V→Hp→VK→Prop):Prop:=
 ∀(pins:List (Addr×Obj)) (s:Shared) (σ:St) (H:Hp) (x:V) (v:Value) (Q:VK),ac X pins σ H s→aM x v→r x H Q→
   wpAny (model X.prog X.w) X.A (f v) (EP X pins σ Q) X.xe s
def cz (X:Cx) (f:Value) (r:List V→Hp→VK→Prop):Prop:=
 ∀(pins:List (Addr×Obj)) (s:Shared) (σ:St) (H:Hp) (xs:List V) (us:List Value) (Q:VK),ac X pins σ H s→aq xs us→r xs H Q→
   wpAny (model X.prog X.w) X.A (call f us) (EP X pins σ Q) X.xe s
def ql (r:R2) (ta tb:TE):TE:=fun σ H Q=>ta σ H fun x H1=>tb σ H1 fun y H2=>r x y H2 Q
def Dw (r:V→Hp→VK→Prop) (ta:TE):TE:=fun σ H Q=>ta σ H fun x H1=>r x H1 Q
inductive DL (C:Int→Int→Prop) (g:Int→Int→V) (x:V) (y:V) (H:Hp) (Q:VK):Prop
 | mk (i:_) (j:_) (h0:x=.int i) (h1:y=.int j) (h2:C i j) (h3:Q (g i j) H)
def rI (C:Int→Int→Prop) (g:Int→Int→V):R2:=fun x y H Q=>DL C g x y H Q
inductive CW (g:Int→Int→V) (x:V) (y:V) (H:Hp) (Q:VK):Prop
 | mk (i:_) (j:_) (h0:x=.int i) (h1:y=.int j) (h2:Q (g i j) H)
def qF (g:Int→Int→V):R2:=fun x y H Q=>CW g x y H Q
def rU (g:Int→V):V→Hp→VK→Prop:=fun x H Q=>Aa x fun i=>Q (g i) H
section
variable {X:Cx}{a b c:Expr}{ta tb tc:TE}{pos:Pos}
theorem xq (ha:PE X a ta) (hb:PE X b tb) {pins:List (Addr×Obj)}{s:Shared}{σ:St}{H:Hp}{R:V→V→Hp→Prop} (I:ac X pins σ H s)
 (h:ta σ H fun x H1=>tb σ H1 fun y H2=>R x y H2) {Q:Value→Shared→Prop}{f:Value→Value→Sem Value}
 (hf:∀v u s2 x y H2,ac X pins σ H2 s2→aM x v→aM y u→R x y H2→wpAny (model X.prog X.w) X.A (f v u) Q X.xe s2) :
 wpAny (model X.prog X.w) X.A (eval a X.env) (fun v s₁=>wpAny (model X.prog X.w) X.A (eval b X.env) (fun u s₂=>wpAny (model X.prog X.w) X.A (f v u) Q X.xe s₂) X.xe s₁) X.xe s:=by
 refine aF (ha pins s σ H _ I h) fun v s1 ⟨x,H1,I1,r1,q1⟩=>?_
 refine aF (hb pins s1 σ H1 _ I1 q1) fun u s2 ⟨y,H2,I2,r2,q2⟩=>?_
 exact hf v u s2 x y H2 I2 r1 r2 q2
theorem ax {op:Operator}{r:R2} (ho:cr X (binaryOp op) r) (ha:PE X a ta) (hb:PE X b tb):PE X (.BinOp a op b pos) (ql r ta tb):=by
 intro pins s σ H Q I h
 exact wpAny_BinOp (xq ha hb I h fun v u s2 x y H2 I2 rx ry q=>ho pins s2 σ H2 x y v u Q I2 rx ry q)
theorem fP {op:UnaryOp}{r:V→Hp→VK→Prop} (ho:AX X (unaryOp op) r) (ha:PE X a ta):PE X (.UnaryOp op a pos) (Dw r ta):=by
 intro pins s σ H Q I h
 exact UnaryOp_ (aF (ha pins s σ H _ I h) fun v s1 ⟨x,H1,I1,r1,q1⟩=>ho pins s1 σ H1 x v Q I1 r1 q1)
theorem vU {f:Value→Value→Sem Value}{C:Int→Int→Prop}{g:Int→Int→Int}
 (rule:∀(i j:Int) (t u:Tok) (s:Shared) (Q:Value→Shared→Prop) (E:Value→Shared→Prop),C i j→Q (.int (g i j) s.toks) { s with toks:=s.toks+1 }→wpAny (model X.prog X.w) X.A (f (.int i t) (.int j u)) Q E s) :
 cr X f (rI C fun i j=>.int (g i j)):=by
 intro pins s σ H x y v u Q I rx ry h
 obtain ⟨i,j,rfl,rfl,hc,q⟩:=h
 obtain ⟨t,rfl⟩:=rx
 obtain ⟨t',rfl⟩:=ry
 exact rule i j t t' s _ _ hc ⟨.int (g i j),H,I.tok _,⟨()⟩,q⟩
theorem Ax {f:Value→Value→Sem Value}{g:Int→Int→Int}
 (rule:∀(i j:Int) (t u:Tok) (s:Shared) (Q:Value→Shared→Prop) (E:Value→Shared→Prop),Q (.int (g i j) s.toks) { s with toks:=s.toks+1 }→wpAny (model X.prog X.w) X.A (f (.int i t) (.int j u)) Q E s) :
 cr X f (qF fun i j=>.int (g i j)):=by
 intro pins s σ H x y v u Q I rx ry h
 obtain ⟨i,j,rfl,rfl,q⟩:=h
 obtain ⟨t,rfl⟩:=rx
 obtain ⟨t',rfl⟩:=ry
 exact rule i j t t' s _ _ ⟨.int (g i j),H,I.tok _,⟨()⟩,q⟩
theorem uq {f:Value→Value→Sem Value}{g:Int→Int→Bool}
 (rule:∀(i j:Int) (t u:Tok) (s:Shared) (Q:Value→Shared→Prop) (E:Value→Shared→Prop),Q (.bool (g i j)) s→wpAny (model X.prog X.w) X.A (f (.int i t) (.int j u)) Q E s) :
 cr X f (qF fun i j=>.bl (g i j)):=by
 intro pins s σ H x y v u Q I rx ry h
 obtain ⟨i,j,rfl,rfl,q⟩:=h
 obtain ⟨t,rfl⟩:=rx
 obtain ⟨t',rfl⟩:=ry
 exact rule i j t t' s _ _ ⟨.bl (g i j),H,I,rfl,q⟩
def CJ (i j:Int):Prop:=0<j∧j<1073741824
def Dh (i j:Int):Prop:=0≤j∧j≤1000000∧i.natAbs<2 ^ 64
def wW (i j:Int):Prop:=(-(2 ^ 64)<i∧i<2 ^ 64)∨(-(2 ^ 64)<j∧j<2 ^ 64)
theorem wW.ok {i j:Int} (h:wW i j):IntMulOk i j:=by
 rcases h with ⟨h1,h2⟩ | ⟨h1,h2⟩
 ·exact .of_left (intBits_le_64 h1 h2)
 ·exact .of_right (intBits_le_64 h1 h2)
theorem ce:cr X (binaryOp .Add) (qF fun i j=>.int (i+j)):=Ax fun _ _ _ _ _ _ _ q=>add_int q
theorem iZ:cr X (binaryOp .Sub) (qF fun i j=>.int (i - j)):=Ax fun _ _ _ _ _ _ _ q=>sub_int q
theorem gn:cr X (binaryOp .Mult) (rI wW fun i j=>.int (i*j)):=vU fun _ _ _ _ _ _ _ hc q=>mul_int q hc.ok
theorem yi:cr X (binaryOp .FloorDiv) (rI CJ fun i j=>.int (i / j)):=vU fun i j _ _ _ _ _ hc q=>by
 have h1:(0:Int)<j:=hc.1
 have h2:j<1073741824:=hc.2
 exact floordiv_int (by trivial) (by rw [Int.fdiv_eq_ediv_of_nonneg i (by trivial)];exact q) (.inl (PyProof.noPylong_small (by trivial)))
theorem iU:cr X (binaryOp .Mod) (rI (fun _ j=>0<j) fun i j=>.int (i % j)):=vU fun i j _ _ _ _ _ hc q=>by
 have h1:(0:Int)<j:=hc
 exact mod_int' (by trivial) (by rw [Int.fmod_eq_emod_of_nonneg i (by trivial)];exact q)
theorem rZ:cr X (binaryOp .Pow) (rI Dh fun i j=>.int (i ^ j.toNat)):=vU fun _ _ _ _ _ _ _ hc q=>pow_int_small hc.1 hc.2.1 hc.2.2 q
theorem DI {f:Value→Sem Value}{g:Int→Int}
 (rule:∀(i:Int) (t:Tok) (s:Shared) (Q:Value→Shared→Prop) (E:Value→Shared→Prop),Q (.int (g i) s.toks) { s with toks:=s.toks+1 }→wpAny (model X.prog X.w) X.A (f (.int i t)) Q E s) :
 AX X f (rU fun i=>.int (g i)):=by
 intro pins s σ H x v Q I rx h
 obtain ⟨i,rfl,q⟩:=h
 obtain ⟨t,rfl⟩:=rx
 exact rule i t s _ _ ⟨.int (g i),H,I.tok _,⟨()⟩,q⟩
theorem dS:AX X (unaryOp .USub) (rU fun i=>.int (-i)):=DI fun _ _ _ _ _ q=>neg_int q
end
def A1:V→V→Bool
 | .non,.non=>true | .non,.int _=>true | .int _,.non=>true | .non,.bl _=>true | .bl _,.non=>true | .non,.str _=>true | .str _,.non=>true
 | .int _,.int _=>true | .bl _,.bl _=>true | .str _,.str _=>true | .byt _,.byt _=>true
 | .int _,.str _=>true | .str _,.int _=>true | .bl _,.str _=>true | .str _,.bl _=>true
 | _,_=>false
def va:R2:=fun x y H Q=>A1 x y=true∧Q (.bl (decide (x=y))) H
def DJ:R2:=fun x y H Q=>A1 x y=true∧Q (.bl (!decide (x=y))) H
theorem sZ {i j:Int}:decide (V.int i=V.int j)=(i==j):=by
 rw [Bool.eq_iff_iff]
 simp
theorem v9 {i j:Bool}:decide (V.bl i=V.bl j)=(i==j):=by
 rw [Bool.eq_iff_iff]
 simp
theorem tL {i j:Str}:decide (V.str i=V.str j)=(i==j):=by
 rw [Bool.eq_iff_iff]
 simp
theorem tD {i j:Array UInt8}:decide (V.byt i=V.byt j)=(i.toList==j.toList):=by
 rw [Bool.eq_iff_iff]
 cases i
 cases j
 simp
section
variable {X:Cx}{a b c:Expr}{ta tb tc:TE}{pos:Pos}
theorem bd {pins:List (Addr×Obj)}{σ:St}{H:Hp}{s:Shared}{Q:VK}{k k':Bool} (I:ac X pins σ H s) (q:Q (.bl k) H) (e:k=k'):EP X pins σ Q (.bool k') s:=by
 subst e
 exact ⟨.bl k,H,I,rfl,q⟩
theorem br:cr X (compareOp .Eq) va:=by
 intro pins s σ H x y v u Q I rx ry h
 obtain ⟨hs,q⟩:=h
 cases x with
 | non=>
  cases rx
  cases y with
  | non=>cases ry;exact PySem.EqNone.eq_none_none (bd I q (by simp))
  | bl j=>cases ry;exact PySem.EqNone.eq_none_bool (bd I q (by simp))
  | int j=>obtain ⟨t',rfl⟩:=ry;exact PySem.EqNone.eq_none_int (bd I q (by simp))
  | str j=>obtain ⟨t',rfl⟩:=ry;exact PySem.EqNone.eq_none_str (bd I q (by simp))
  | _=>exact absurd (show false=true from hs) Bool.false_ne_true
 | bl i=>
  cases rx
  cases y with
  | non=>cases ry;exact PySem.EqNone.eq_bool_none (bd I q (by simp))
  | bl j=>cases ry;exact eq_bool (bd I q v9)
  | str j=>obtain ⟨t',rfl⟩:=ry;exact PySem.EqMixed.eq_bool_str (bd I q (by simp))
  | _=>exact absurd (show false=true from hs) Bool.false_ne_true
 | int i=>
  obtain ⟨t,rfl⟩:=rx
  cases y with
  | non=>cases ry;exact PySem.EqNone.eq_int_none (bd I q (by simp))
  | int j=>obtain ⟨t',rfl⟩:=ry;exact eq_int (bd I q sZ)
  | str j=>obtain ⟨t',rfl⟩:=ry;exact PySem.EqMixed.eq_int_str (bd I q (by simp))
  | _=>exact absurd (show false=true from hs) Bool.false_ne_true
 | str i=>
  obtain ⟨t,rfl⟩:=rx
  cases y with
  | non=>cases ry;exact PySem.EqNone.eq_str_none (bd I q (by simp))
  | bl j=>cases ry;exact PySem.EqMixed.eq_str_bool (bd I q (by simp))
  | int j=>obtain ⟨t',rfl⟩:=ry;exact PySem.EqMixed.eq_str_int (bd I q (by simp))
  | str j=>obtain ⟨t',rfl⟩:=ry;exact eq_str (bd I q tL)
  | _=>exact absurd (show false=true from hs) Bool.false_ne_true
 | byt i=>
  obtain ⟨t,rfl⟩:=rx
  cases y with
  | byt j=>obtain ⟨t',rfl⟩:=ry;exact PySem.W.eq_bytes (bd I q tD)
  | _=>exact absurd (show false=true from hs) Bool.false_ne_true
 | _=>cases y <;> exact absurd (show false=true from hs) Bool.false_ne_true
theorem lJ:cr X (compareOp .NotEq) DJ:=by
 intro pins s σ H x y v u Q I rx ry h
 obtain ⟨hs,q⟩:=h
 cases x with
 | non=>
  cases rx
  cases y with
  | non=>cases ry;exact PySem.EqNone.ne_none_none (bd I q (by simp))
  | bl j=>cases ry;exact PySem.EqNone.ne_none_bool (bd I q (by simp))
  | int j=>obtain ⟨t',rfl⟩:=ry;exact PySem.EqNone.ne_none_int (bd I q (by simp))
  | str j=>obtain ⟨t',rfl⟩:=ry;exact PySem.EqNone.ne_none_str (bd I q (by simp))
  | _=>exact absurd (show false=true from hs) Bool.false_ne_true
 | bl i=>
  cases rx
  cases y with
  | non=>cases ry;exact PySem.EqNone.ne_bool_none (bd I q (by simp))
  | bl j=>cases ry;exact ne_bool (bd I q (congrArg not v9))
  | str j=>obtain ⟨t',rfl⟩:=ry;exact PySem.EqMixed.ne_bool_str (bd I q (by simp))
  | _=>exact absurd (show false=true from hs) Bool.false_ne_true
 | int i=>
  obtain ⟨t,rfl⟩:=rx
  cases y with
  | non=>cases ry;exact PySem.EqNone.ne_int_none (bd I q (by simp))
  | int j=>obtain ⟨t',rfl⟩:=ry;exact ne_int (bd I q (congrArg not sZ))
  | str j=>obtain ⟨t',rfl⟩:=ry;exact PySem.EqMixed.ne_int_str (bd I q (by simp))
  | _=>exact absurd (show false=true from hs) Bool.false_ne_true
 | str i=>
  obtain ⟨t,rfl⟩:=rx
  cases y with
  | non=>cases ry;exact PySem.EqNone.ne_str_none (bd I q (by simp))
  | bl j=>cases ry;exact PySem.EqMixed.ne_str_bool (bd I q (by simp))
  | int j=>obtain ⟨t',rfl⟩:=ry;exact PySem.EqMixed.ne_str_int (bd I q (by simp))
  | str j=>obtain ⟨t',rfl⟩:=ry;exact ne_str (bd I q (congrArg not tL))
  | _=>exact absurd (show false=true from hs) Bool.false_ne_true
 | byt i=>
  obtain ⟨t,rfl⟩:=rx
  cases y with
  | byt j=>obtain ⟨t',rfl⟩:=ry;exact PySem.W.ne_bytes (bd I q (congrArg not tD))
  | _=>exact absurd (show false=true from hs) Bool.false_ne_true
 | _=>cases y <;> exact absurd (show false=true from hs) Bool.false_ne_true
theorem eU:cr X (compareOp .Lt) (qF fun i j=>.bl (decide (i<j))):=uq fun _ _ _ _ _ _ _ q=>lt_int q
theorem xO:cr X (compareOp .LtE) (qF fun i j=>.bl (decide (i≤j))):=uq fun _ _ _ _ _ _ _ q=>le_int q
theorem re:cr X (compareOp .Gt) (qF fun i j=>.bl (decide (j<i))):=uq fun _ _ _ _ _ _ _ q=>gt_int q
theorem Cp:cr X (compareOp .GtE) (qF fun i j=>.bl (decide (j≤i))):=uq fun _ _ _ _ _ _ _ q=>ge_int q
theorem wq:cr X (compareOp .Is) (fun x y H Q=>y=.non∧Q (.bl (decide (x=.non))) H):=by
 intro pins s σ H x y v u Q I rx ry h
 obtain ⟨rfl,q⟩:=h
 cases ry
 refine is_none_gen (bd I q ?_)
 cases x <;> first
  | (cases rx;rfl)
  | (obtain ⟨t,rfl⟩:=rx;rfl)
theorem oW (b:Expr) {op:CmpOp} (h:op≠.In:=by decide) (h2:op≠.NotIn:=by decide):behindInMarks op b=false:=by
 have e1:(op==CmpOp.In)=false:=by cases op <;> first | rfl | exact absurd rfl h
 have e2:(op==CmpOp.NotIn)=false:=by cases op <;> first | rfl | exact absurd rfl h2
 cases b <;> simp [behindInMarks,e1,e2]
theorem bD {op:CmpOp}{r:R2} (ho:cr X (compareOp op) r) (ha:PE X a ta) (hb:PE X b tb) (hm:behindInMarks op b=false):PE X (.Compare a [op] [b] pos) (ql r ta tb):=by
 intro pins s σ H Q I h
 exact wpAny_Compare1 (xq ha hb I h fun v u s2 x y H2 I2 rx ry q=>ho pins s2 σ H2 x y v u Q I2 rx ry q) hm
def nI (t:TE):TT:=fun σ H Q=>t σ H fun x H'=>rV x fun k=>Q k H'
theorem ap {op:CmpOp}{r:R2} (ho:cr X (compareOp op) r) (ha:PE X a ta) (hb:PE X b tb) (hm:behindInMarks op b=false):PT X (.Compare a [op] [b] pos) (nI (ql r ta tb)):=by
 intro pins s σ H Q I h
 refine wpAny_isTrue_Compare1 (aF (ha pins s σ H _ I h) fun v s1 ⟨x,H1,I1,r1,q1⟩=>aF (hb pins s1 σ H1 _ I1 q1) fun u s2 ⟨y,H2,I2,r2,q2⟩=>
  aF (ho pins s2 σ H2 x y v u _ I2 r1 r2 q2) fun c s3 ⟨z,H3,I3,r3,k,e,q3⟩=>?_) hm
 subst e
 cases r3
 exact wpAny_truthy_bool ⟨H3,I3,q3⟩
def zw (r r':R2) (ta tb tc:TE):TE:=fun σ H Q=>ta σ H fun x H1=>tb σ H1 fun y H2=>r x y H2 fun z H3=>rV z fun k=>
 (if k=true then tc σ H3 fun w' H4=>r' y w' H4 Q else Q (.bl false) H3)
theorem sk {op op':CmpOp}{r r':R2} (ho:cr X (compareOp op) r) (ho':cr X (compareOp op') r') (ha:PE X a ta) (hb:PE X b tb) (hc:PE X c tc)
 (hm:lastMarks [op,op'] [b,c]=false:=by with_unfolding_all rfl):PT X (.Compare a [op,op'] [b,c] pos) (nI (zw r r' ta tb tc)):=by
 intro pins s σ H Q I h
 refine isTrue_chain (aF (ha pins s σ H _ I h) fun v s1 ⟨x,H1,I1,r1,q1⟩=>test_link (aF (hb pins s1 σ H1 _ I1 q1) fun u s2 ⟨y,H2,I2,r2,q2⟩=>
  aF (ho pins s2 σ H2 x y v u _ I2 r1 r2 q2) fun d s3 ⟨z,H3,I3,r3,k,e,q3⟩=>?_)) hm
 subst e
 cases r3
 refine wpAny_truthy_bool ?_
 cases k with
 | false=>
  obtain ⟨k',e',q'⟩:=q3
  cases e'
  exact ite_ff ⟨H3,I3,q'⟩
 | true=>
  refine ite_tt (test_last (aF (hc pins s3 σ H3 _ I3 q3) fun w' s4 ⟨z',H4,I4,r4,q4⟩=>aF (ho' pins s4 σ H4 y z' u w' _ I4 r2 r4 q4) fun d' s5 ⟨z2,H5,I5,r5,k2,e2,q5⟩=>?_))
  subst e2
  cases r5
  exact wpAny_truthy_bool ⟨H5,I5,q5⟩
theorem mQ:(sizeLine:Nat)<2 ^ 63:=by rw [sizeLine_eq];decide
theorem ui:cr X (binaryOp .Add) (fun x y H Q=>bn fun i j=>x=.str i∧y=.str j∧i.length+j.length≤sizeLine∧Q (.str (i++j)) H):=by
 intro pins s σ H x y v u Q I rx ry h
 obtain ⟨i,j,rfl,rfl,hz,q⟩:=h
 obtain ⟨t,rfl⟩:=rx
 obtain ⟨t',rfl⟩:=ry
 exact add_str (fun t' tk=>⟨.str (i++j),H,I.tok _,⟨()⟩,q⟩) hz
theorem nt {x:V}{us:List Value} (r:aq [x] us):∃u,us=[u]∧aM x u:=by
 cases r with
 | cons r1 r2=>cases r2;exact ⟨_,rfl,r1⟩
theorem qZ {x y:V}{us:List Value} (r:aq [x,y] us):bn fun u w'=>us=[u,w']∧aM x u∧aM y w':=by
 cases r with
 | cons r1 r2=>
  cases r2 with
  | cons r3 r4=>cases r4;exact ⟨_,_,rfl,r1,r3⟩
theorem lI:cz X (.builtin "abs") (fun xs H Q=>∃i,xs=[.int i]∧Q (.int (if i<0 then -i else i)) H):=by
 intro pins s σ H xs us Q I r h
 obtain ⟨i,rfl,q⟩:=h
 obtain ⟨u,rfl,t,rfl⟩:=nt r
 exact call_abs_int fun u tk=>⟨.int (if i<0 then -i else i),H,I.tok _,⟨()⟩,q⟩
theorem vN (hc:X.calm=true):cz X (.builtin "max") (fun xs H Q=>bn fun i j=>xs=[.int i,.int j]∧Q (.int (if j > i then j else i)) H):=by
 intro pins s σ H xs us Q I r h
 obtain ⟨i,j,rfl,q⟩:=h
 obtain ⟨u,w',rfl,⟨t,rfl⟩,⟨t',rfl⟩⟩:=qZ r
 refine max_two_ints (I.ok.hd hc) fun h' tk k=>⟨_,H,I.kept k,?_,q⟩
 by_cases hj:j > i
 ·rw [if_pos hj,if_pos hj];exact ⟨()⟩
 ·rw [if_neg hj,if_neg hj];exact ⟨()⟩
theorem qy:cz X (.type "int") (fun xs H Q=>(∃i,xs=[.int i]∧Q (.int i) H)∨∃k,xs=[.bl k]∧Q (.int (if k then 1 else 0)) H):=by
 intro pins s σ H xs us Q I r h
 rcases h with ⟨i,rfl,q⟩ | ⟨k,rfl,q⟩
 ·obtain ⟨u,rfl,t,rfl⟩:=nt r
  exact call_int_int ⟨.int i,H,I,⟨()⟩,q⟩
 ·obtain ⟨u,rfl,r1⟩:=nt r
  cases r1
  exact call_int_bool ⟨.int (if k then 1 else 0),H,I.tok _,⟨()⟩,q⟩
end
structure oB (h:Heap) (x dx C:Addr) (mA:Str→Option Value):Prop where
 obj:h.get? x=some (PySem.W.instObj C dx)
 ns:h.Ns1 dx mA
 ne:dx≠x
theorem vR {h:Heap}{dx:Addr}{mA:Str→Option Value} (n:h.Ns1 dx mA):∃od,h.get? dx=some od∧∀name,PySem.W.lookIn name od=some (mA name):=by
 obtain ⟨o,es,ep,ho,hd,hk,_,hm⟩:=n
 refine ⟨o,ho,fun name=>?_⟩
 have e:=hm name
 unfold nsFind findBy at e
 rw [←Array.find?_toList] at e
 unfold PySem.W.lookIn
 rw [hd]
 dsimp only
 split
 ·rename_i y q
  rw [q] at e
  exact congrArg some e
 ·rename_i q
  rw [q] at e
  have a:es.toList.any (·.refKey)=false:=by
   rw [List.any_eq_false]
   intro y hy
   obtain ⟨z,t,hkey⟩:=hk y (Array.mem_toList_iff.mp hy)
   simp [DictEntry.refKey,hkey]
  have a':¬es.toList.any (·.refKey)=true:=by rw [a];exact Bool.false_ne_true
  rw [if_neg a']
  exact congrArg some e
theorem oB.look {h:Heap}{x dx C:Addr}{mA:Str→Option Value} (I:oB h x dx C mA):∃od,PySem.W.InstAt h x (PySem.W.instObj C dx) C (some od)∧∀name,PySem.W.lookIn name od=some (mA name):=
 let ⟨od,ho,hl⟩:=vR I.ns
 ⟨od,⟨I.obj,rfl,rfl,ho⟩,hl⟩
section
variable {prog:Program}{w:World}{A:Around}{E:Value→Shared→Prop}{s:Shared}{K:PySem.W.Frag}{x dx C f:Addr}{mA:Str→Option Value}{name:Str}{v:Value}
theorem yu {expr:Bool}{Q:Value→Shared→Prop} (X:K.In s.heap) (I:oB s.heap x dx C mA) (hg:PySem.W.plainGet K C name=true) (hh:PySem.W.hasDictIn K C=true)
 (ha:PySem.W.findIn K (.ref C) name=some none) (hv:mA name=some v) (hv':PySem.W.handedIn v=true) (h:Q v { s with toks:=s.toks+1 }) :
 wpAny (model prog w) A (getAttr (.ref x) name expr) Q E s:=by
 obtain ⟨od,J,hl⟩:=I.look
 exact PySem.W.get_value X J (PySem.W.plainGet_of hg).1 (PySem.W.findObj_own hh ha rfl (by rw [hl,hv])) hv' h
theorem wL {pl:Sem Bool}{Q:Value×List Value→Shared→Prop} (X:K.In s.heap) (I:oB s.heap x dx C mA) (hg:PySem.W.plainGet K C name=true)
 (hf:PySem.W.findIn K (.ref C) name=some (some (.ref f))) (ht:PySem.W.isFn K (.ref f)=true) (hv:mA name=none) (h:Q (.ref f,[.ref x]) s) :
 wpAny (model prog w) A (getMethod (.ref x) name pl) Q E s:=by
 obtain ⟨od,J,hl⟩:=I.look
 exact PySem.W.method_fn X J (PySem.W.plainGet_of hg).1 (PySem.W.plainGet_of hg).2 hf (beq_iff_eq.mp ht) (by show (PySem.W.lookIn name od).map (·.isSome)=some false;rw [hl,hv];rfl) h
theorem yA {ns:List Str}{Q:Unit→Shared→Prop} (X:K.In s.heap) (I:oB s.heap x dx C mA)
 (hs:PySem.W.findIn K (.ref C) "__setattr__" = some (some (.builtin "object.__setattr__"))) (hp:PySem.W.plainOver K C=true) (ht:PySem.W.takerIn K C name=some none) (hh:PySem.W.hasDictIn K C=true)
 (hw:PySem.Within mA ns) (hsz:ns.length≤sizeLine)
 (h:∀h',oB h' x dx C (fun y=>if y=name then some v else mA y)→Heap.SameBut dx s.heap h'→Q () { s with heap:=h',toks:=s.toks+2 }) :
 wpAny (model prog w) A (setAttr (.ref x) name v) Q E s:=by
 obtain ⟨od,J,hl⟩:=I.look
 refine PySem.W.set_plain X J hs (PySem.W.osa_open (s:={ s with toks:=s.toks+1 }) (r:=none) X J hp ht fun b=>?_)
 obtain ⟨cd,hc,hd'⟩:=PySem.W.any_some hh
 have hx:s.heap.get? x=some ⟨.ref C,some dx,.plain,#[]⟩:=I.obj
 refine wpAny_bind (wpAny_pure (wpAny_bind (wpAny_bind (wpAny_loadPart hx (wpAny_bind (PySem.W.Looks.here (s:={ s with toks:=s.toks+1 }) (PySem.W.looks_clsIn X hc) ?_))))))
 rw [hd']
 refine wpAny_pure (a:=some dx) (wpAny_bind (wpAny_pure (wpAny_bind ?_)))
 refine wpAny_nsSet1 (s:={ s with toks:=s.toks+1 }) I.ns fun h' hn2 hs2=>?_
 obtain ⟨oD,esD,epD,hoD,hdD,hcD⟩:=hn2.count (PySem.Within.cons name v hw)
 refine wpAny_bind (wpAny_lookBehind hoD (by rw [hdD];exact pastItsLine_dict (Nat.le_trans hcD (by rw [List.length_cons];trivial))) ?_)
 exact wpAny_pure (h _ ⟨(hs2.2 _ (Ne.symm I.ne)).trans I.obj,hn2,I.ne⟩ hs2)
theorem xB {R:Result→Shared→Prop}{vs:List Value}{kw:List (Str×Value)} (X:K.In s.heap) (hm:PySem.W.makesIn K C=true)
 (hi:PySem.W.findIn K (.ref C) "__init__" = some (some (.ref f))) (hf:PySem.W.typeIn K (.ref f)=some (.type "function"))
 (h:codeAny (model prog w) (A.under (.builtin "type.__call__" ⟨.ref C :: vs,kw⟩)) (.call (.ref f) ⟨.ref (s.heap.objs.size+1) :: vs,kw⟩) (PySem.W.InitBack (s.heap.objs.size+1) R)
  { s with heap:=(s.heap.push PySem.W.emptyDict).push (PySem.W.instObj C s.heap.objs.size) }) :
 codeAny (model prog w) A (.call (.ref C) ⟨vs,kw⟩) R s:=by
 obtain ⟨hh,g,d,t,os⟩:=s
 exact PySem.W.make_core (PySem.W.makes_of X hm) (PySem.W.looks_findIn X hi) (fun self=>PySem.W.bind_fn X self hf) (.inl rfl) h
end
def f9 (f:Str) (v:V):List (Str×V)→List (Str×V)
 | []=>[(f,v)]
 | (g,x) :: r=>if g=f then (g,v) :: r else (g,x) :: f9 f v r
theorem nS (f g:Str) (v:V):∀fs:List (Str×V),(f9 f v fs).lookup g=if g=f then some v else fs.lookup g
 | []=>by
  show List.lookup g [(f,v)]=_
  by_cases h:g=f
  ·have hb:(g==f)=true:=beq_iff_eq.mpr h
   simp only [List.lookup,hb,if_pos h]
  ·have hb:(g==f)=false:=beq_eq_false_iff_ne.mpr h
   simp only [List.lookup,hb,if_neg h]
 | (k,x) :: r=>by
  have ih:=nS f g v r
  rw [show f9 f v ((k,x) :: r)=(if k=f then (k,v) :: r else (k,x) :: f9 f v r) from rfl]
  by_cases hk:k=f
  ·rw [if_pos hk]
   by_cases h:g=k
   ·have hb:(g==k)=true:=beq_iff_eq.mpr h
    simp only [List.lookup,hb,if_pos (h.trans hk)]
   ·have hb:(g==k)=false:=beq_eq_false_iff_ne.mpr h
    simp only [List.lookup,hb,if_neg (fun e:g=f=>h (e.trans hk.symm))]
  ·rw [if_neg hk]
   by_cases h:g=k
   ·have hb:(g==k)=true:=beq_iff_eq.mpr h
    simp only [List.lookup,hb,if_neg (fun e:g=f=>hk (h.symm.trans e))]
   ·have hb:(g==k)=false:=beq_eq_false_iff_ne.mpr h
    simp only [List.lookup,hb]
    exact ih
theorem mK (f:Str) (v:V):∀fs:List (Str×V),f∈(f9 f v fs).map (·.1)∧∀g,g∈fs.map (·.1)→g∈(f9 f v fs).map (·.1)
 | []=>⟨by simp [f9],fun g h=>by simp at h⟩
 | (k,x) :: r=>by
  obtain ⟨i1,i2⟩:=mK f v r
  rw [show f9 f v ((k,x) :: r)=(if k=f then (k,v) :: r else (k,x) :: f9 f v r) from rfl]
  by_cases hk:k=f
  ·rw [if_pos hk]
   subst hk
   exact ⟨by simp,fun g h=>by simpa using h⟩
  ·rw [if_neg hk]
   refine ⟨?_,fun g h=>?_⟩
   ·rw [List.map_cons]
    exact List.mem_cons_of_mem _ i1
   ·rw [List.map_cons] at h ⊢
    rcases List.mem_cons.mp h with e | e
    ·exact List.mem_cons.mpr (.inl e)
    ·exact List.mem_cons_of_mem _ (i2 g e)
theorem nY (f:Str) (v:V):∀fs:List (Str×V),(f9 f v fs).length≤fs.length+1
 | []=>by simp [f9]
 | (k,x) :: r=>by
  have ih:=nY f v r
  rw [show f9 f v ((k,x) :: r)=(if k=f then (k,v) :: r else (k,x) :: f9 f v r) from rfl]
  by_cases hk:k=f
  ·rw [if_pos hk,List.length_cons,List.length_cons];trivial
  ·rw [if_neg hk,List.length_cons,List.length_cons];trivial
theorem i7.some_of {v:V}{o:Option Value} (r:i7 (some v) o):∃u,o=some u∧aM v u:=by
 cases o with
 | none=>exact (show False from r).elim
 | some u=>exact ⟨u,rfl,r⟩
theorem i7.none_of {o:Option Value} (r:i7 none o):o=none:=by
 cases o with
 | none=>rfl
 | some u=>exact (show False from r).elim
theorem wa {v:V}{u:Value} (r:aM v u):PySem.W.handedIn u=true:=by
 cases v with
 | non=>cases (show u=Value.none from r);rfl
 | bl b=>cases (show u=Value.bool b from r);rfl
 | int i=>obtain ⟨t,e⟩:=(show ∃t,u=Value.int i t from r);cases e;rfl
 | str x=>obtain ⟨t,e⟩:=(show ∃t,u=Value.str x t from r);cases e;rfl
 | byt b=>obtain ⟨t,e⟩:=(show ∃t,u=Value.bytes b t from r);cases e;rfl
 | flt b=>obtain ⟨t,e⟩:=(show ∃t,u=Value.float b t from r);cases e;rfl
 | ref a=>cases (show u=Value.ref a from r);rfl
 | ty n=>cases (show u=Value.type n from r);rfl
section
variable {P:Program}{w:World}{H H':Hp}{h h':Heap}{a C dx:Addr}{fs fs':List (Str×V)}
theorem nH (hok:cE P w H h) (e:H a=some (.ins C dx fs)):∃mA,oB h a dx C mA∧(∀f,i7 (fs.lookup f) (mA f))∧PySem.Within mA (fs.map (·.1))∧fs.length≤1000∧H dx=some (.own a):=by
 obtain ⟨d,z,ne,ob,mA,n,r,q⟩:=(show be P w H h a (.ins C dx fs) from hok a _ e)
 exact ⟨mA,⟨ob,n,ne⟩,r,q,z,d⟩
end
structure k4 (K:PySem.W.Frag) (C:Addr):Prop where
 pg:PySem.W.plainGet K C Str.empty=true
 hd:PySem.W.hasDictIn K C=true
 po:PySem.W.plainOver K C=true
 sa:PySem.W.findIn K (.ref C) "__setattr__" = some (some (.builtin "object.__setattr__"))
theorem k4.get {K:PySem.W.Frag}{C:Addr} (c:k4 K C) (f:Str):PySem.W.plainGet K C f=true:=c.pg
def ke (K:PySem.W.Frag) (C:Addr) (f:Str):Prop:=PySem.W.findIn K (.ref C) f=some none
theorem ke.taker {K:PySem.W.Frag}{C:Addr}{f:Str} (n:ke K C f):PySem.W.takerIn K C f=some none:=by
 unfold PySem.W.takerIn
 rw [show PySem.W.findIn K (.ref C) f=some none from n]
 rfl
structure dO (K:PySem.W.Frag) (C:Addr) (m:Str) (f:Addr):Prop where
 at_:PySem.W.findIn K (.ref C) m=some (some (.ref f))
 fn:PySem.W.isFn K (.ref f)=true
 kp:PySem.W.keepIn K (.ref f)=true
section
variable {X:Cx}{pins:List (Addr×Obj)}{σ:St}{H:Hp}{s:Shared}{a C dx:Addr}{fs:List (Str×V)}{f:Str}{v:V}{A:Around}{E:Value→Shared→Prop}
theorem uo {b:Bool}{Q:Value→Shared→Prop} (I:ac X pins σ H s) (e:H a=some (.ins C dx fs)) (c:k4 X.K C) (n:ke X.K C f) (l:fs.lookup f=some v)
 (h:∀u s',ac X pins σ H s'→aM v u→Q u s'):wpAny (model X.prog X.w) A (getAttr (.ref a) f b) Q E s:=by
 obtain ⟨mA,O,r,_,_,_⟩:=nH I.hok e
 obtain ⟨u,hu,ru⟩:=i7.some_of (v:=v) (o:=mA f) (by rw [←l];exact r f)
 exact yu I.kIn O (c.get f) c.hd n hu (wa ru) (h u _ (I.tok _) ru)
theorem lQ {m:Str}{g:Addr}{pl:Sem Bool}{Q:Value×List Value→Shared→Prop} (I:ac X pins σ H s) (e:H a=some (.ins C dx fs)) (c:k4 X.K C) (k:dO X.K C m g) (l:fs.lookup m=none)
 (h:Q (.ref g,[.ref a]) s):wpAny (model X.prog X.w) A (getMethod (.ref a) m pl) Q E s:=by
 obtain ⟨mA,O,r,_,_,_⟩:=nH I.hok e
 have hn:mA m=none:=i7.none_of (by rw [←l];exact r m)
 exact wL I.kIn O (c.get m) k.at_ k.fn hn h
theorem uv {y:V}{u:Value}{Q:Unit→Shared→Prop} (I:ac X pins σ H s) (e:H a=some (.ins C dx fs)) (c:k4 X.K C) (n:ke X.K C f) (hl:fs.length<1000) (ry:aM y u)
 (h:∀s',ac X pins σ (aI H a (.ins C dx (f9 f y fs))) s'→Q () s'):wpAny (model X.prog X.w) A (setAttr (.ref a) f u) Q E s:=by
 obtain ⟨mA,O,r,wi,_,ho⟩:=nH I.hok e
 have hz:(fs.map (·.1)).length≤sizeLine:=by rw [List.length_map,sizeLine_eq];trivial
 refine yA I.kIn O c.sa c.po n.taker c.hd wi hz fun h' O' sb=>h _ ?_
 have hd:∃o,h'.get? dx=some o:=let ⟨o,_,_,e',_⟩:=O'.ns;⟨o,e'⟩
 refine I.write (x:=a) (e:=dx) (by rw [e];exact True.intro) (.inr ho) (fun b q hb z=>(sb.2 b hb).trans z) hd ?_
 refine ⟨by rw [ak O.ne];exact ho,?_,O.ne,O'.obj,_,O'.ns,fun g=>?_,fun g hg=>?_⟩
 ·have:=nY f y fs;trivial
 ·show i7 ((f9 f y fs).lookup g) (if g=f then some u else mA g)
  rw [nS]
  by_cases q:g=f
  ·rw [if_pos q,if_pos q];exact ry
  ·rw [if_neg q,if_neg q];exact r g
 ·by_cases q:g=f
  ·rw [q];exact (mK f y fs).1
  ·refine (mK f y fs).2 g (wi g fun z=>hg ?_)
   show (if g=f then some u else mA g)=none
   rw [if_neg q];exact z
theorem ac.made (I:ac X pins σ H s):ac X pins σ (aI (aI H s.heap.objs.size (.own (s.heap.objs.size+1))) (s.heap.objs.size+1) (.ins C s.heap.objs.size []))
 { s with heap:=(s.heap.push PySem.W.emptyDict).push (PySem.W.instObj C s.heap.objs.size) }:=by
 have e1:(s.heap.push PySem.W.emptyDict).get? s.heap.objs.size=some PySem.W.emptyDict:=Heap.get?_push_size s.heap rfl
 have e2:((s.heap.push PySem.W.emptyDict).push (PySem.W.instObj C s.heap.objs.size)).get? (s.heap.objs.size+1)=some (PySem.W.instObj C s.heap.objs.size):=by
  have:=Heap.get?_push_size (s.heap.push PySem.W.emptyDict) (o:=PySem.W.instObj C s.heap.objs.size) rfl
  rwa [Heap.size_push] at this
 have e3:(s.heap.push PySem.W.emptyDict).Ns s.heap.objs.size (fun _=>none):=⟨PySem.W.emptyDict,#[],_,e1,rfl,(fun e he=>absurd he (by simp)),fun _=>rfl⟩
 have I1:=I.laid (a:=s.heap.objs.size) (o:=.own (s.heap.objs.size+1)) (h':=s.heap.push PySem.W.emptyDict) (t':=s.toks) (fun b u q=>Heap.get?_push_of_some _ q) (Nat.le_refl _) ⟨_,e1⟩
 refine I1.laid (a:=s.heap.objs.size+1) (o:=.ins C s.heap.objs.size []) (t':=s.toks) (fun b u q=>Heap.get?_push_of_some _ q) (Nat.le_of_eq (Heap.size_push _ _)) ?_
 have ne:s.heap.objs.size≠s.heap.objs.size+1:=Nat.ne_of_lt (Nat.lt_succ_self _)
 refine ⟨by rw [ak ne,az],Nat.zero_le _,ne,e2,fun _=>none,(Heap.Ns1.of_empty e3).at fun o q=>Heap.get?_push_of_some _ q,fun _=>True.intro,fun y hy=>absurd rfl hy⟩
theorem zb {prog:Program}{w:World}{env:Env}{e:Expr}{f:Str}{pos:Pos}{s:Shared}{Q:Value→Shared→Prop} (hb:attributeBase e f env (eval e env)=eval e env)
 (h:wpAny (model prog w) A (eval e env) (fun o s₁=>wpAny (model prog w) A (getAttr o f true) Q E s₁) E s):wpAny (model prog w) A (eval (.Attribute e f pos) env) Q E s:=
 Attribute_any_ h (by rw [arm_eval_Attribute,hb])
end
def C0 (K:PySem.W.Frag) (ta:TE) (f:Str):TE:=fun σ H Q=>ta σ H fun x H1=>xZ fun a C dx fs v=>x=.ref a∧H1 a=some (.ins C dx fs)∧k4 K C∧ke K C f∧fs.lookup f=some v∧Q v H1
section
variable {X:Cx}{o e value:Expr}{f:Str}{pos pos' tpos:Pos}{ta tv:TE}
theorem cJ (he:PE X e ta) (hb:attributeBase e f X.env (eval e X.env)=eval e X.env):PE X (.Attribute e f pos) (C0 X.K ta f):=by
 intro pins s σ H Q I h
 refine zb hb (aF (he pins s σ H _ I h) fun u s1 ⟨x,H1,I1,rx,a,C,dx,fs,v,ex,ea,c,n,l,q⟩=>?_)
 subst ex
 obtain rfl:u=Value.ref a:=rx
 exact uo I1 ea c n l fun u' s2 I2 ru=>⟨v,H1,I2,ru,q⟩
end
section
variable {X:Cx}{pins:List (Addr×Obj)}{σ:St}{H:Hp}{s:Shared}{A:Around}{E:Value→Shared→Prop}{Q:Value→Shared→Prop}{c:Value}{b:Bool}
inductive gz (K:PySem.W.Frag) (H:Hp):V→Value→Prop where
 | non:gz K H .non (.type "NoneType")
 | bl (x:Bool):gz K H (.bl x) (.type "bool")
 | int (i:Int):gz K H (.int i) (.type "int")
 | str (x:Str):gz K H (.str x) (.type "str")
 | flt (x:UInt64):gz K H (.flt x) (.type "float")
 | lst {a:Addr}{xs:List V} (e:H a=some (.lst xs)):gz K H (.ref a) (.type "list")
 | frz {a:Addr}{o:Obj}{xs:List V} (e:H a=some (.frz o (.lst xs))):gz K H (.ref a) (.type "list")
 | tup {a:Addr}{xs:List V} (e:H a=some (.tup xs)):gz K H (.ref a) (.type "tuple")
 | dK {a:Addr}{kvs:List (aS×V)} (e:H a=some (.dK kvs)):gz K H (.ref a) (.type "dict")
 | dT {a:Addr}{kvs:List (List aS×V)} (e:H a=some (.dT kvs)):gz K H (.ref a) (.type "dict")
 | ins {a C dx:Addr}{fs:List (Str×V)} (e:H a=some (.ins C dx fs)) (cl:k4 K C) (ha:PySem.W.findIn K (.ref C) "__class__" = some (some (.builtin "object.__class__")))
  (hn:PySem.W.specialIn K (.builtin "object.__class__") "__get__" = some (some (.builtin "getset_descriptor.__get__"))) (htk:PySem.W.takesIn K (.builtin "object.__class__")=some true)
  (hm:PySem.W.mroIn K C (.type "object")=some true):gz K H (.ref a) (.ref C)
theorem u9 {x:V}{u t:Value} (I:ac X pins σ H s) (rx:aM x u) (ty:gz X.K H x t) (e:PySem.W.kitOne X.K t c=some b) (h:∀tk,Q (.bool b) { s with toks:=tk }) :
 wpAny (model X.prog X.w) A (call (.builtin "isinstance") [u,c]) Q E s:=by
 cases ty with
 | non=>cases (show u=Value.none from rx);exact PySem.W.kia_one PySem.W.kitx_none I.kIn True.intro e (fun z=>nomatch z) h
 | bl y=>cases (show u=Value.bool y from rx);exact PySem.W.kia_one PySem.W.kitx_bool I.kIn True.intro e (fun z=>nomatch z) h
 | int i=>obtain ⟨t,q⟩:=(show ∃t,u=Value.int i t from rx);cases q;exact PySem.W.kia_one PySem.W.kitx_int I.kIn True.intro e (fun z=>nomatch z) h
 | str y=>obtain ⟨t,q⟩:=(show ∃t,u=Value.str y t from rx);cases q;exact PySem.W.kia_one PySem.W.kitx_str I.kIn True.intro e (fun z=>nomatch z) h
 | flt y=>obtain ⟨t,q⟩:=(show ∃t,u=Value.float y t from rx);cases q;exact PySem.W.kia_one PySem.W.kitx_float I.kIn True.intro e (fun z=>nomatch z) h
 | @lst a xs ea=>
  cases (show u=Value.ref a from rx)
  obtain ⟨_,_,n,_,h1⟩:=(show be X.prog X.w H s.heap a (.lst xs) from I.hok a _ ea)
  exact PySem.W.kia_one PySem.W.kitx_list I.kIn ⟨_,h1,rfl⟩ e (fun z=>nomatch z) h
 | @frz a ob xs ea=>
  cases (show u=Value.ref a from rx)
  obtain ⟨_,_,_,n,_,h1⟩:=(show be X.prog X.w H s.heap a (.frz ob (.lst xs)) from I.hok a _ ea)
  exact PySem.W.kia_one PySem.W.kitx_list I.kIn ⟨_,h1,rfl⟩ e (fun z=>nomatch z) h
 | @tup a xs ea=>
  cases (show u=Value.ref a from rx)
  obtain ⟨_,_,_,p,_⟩:=(show be X.prog X.w H s.heap a (.tup xs) from I.hok a _ ea)
  obtain ⟨o,h1,h2,_⟩:=p
  exact PySem.W.kia_one PySem.W.kitx_tuple I.kIn ⟨o,h1,h2⟩ e (fun z=>nomatch z) h
 | @dK a kvs ea=>
  cases (show u=Value.ref a from rx)
  obtain ⟨_,_,vs,_,p⟩:=(show be X.prog X.w H s.heap a (.dK kvs) from I.hok a _ ea)
  obtain ⟨o,es,ep,h1,h2,_⟩:=p
  exact PySem.W.kia_one PySem.W.kitx_dict I.kIn ⟨o,h1,h2.1⟩ e (fun z=>nomatch z) h
 | @dT a kvs ea=>
  cases (show u=Value.ref a from rx)
  obtain ⟨_,_,xs,_,o,es,ep,h1,h2,_⟩:=(show be X.prog X.w H s.heap a (.dT kvs) from I.hok a _ ea)
  exact PySem.W.kia_one PySem.W.kitx_dict I.kIn ⟨o,h1,h2.1⟩ e (fun z=>nomatch z) h
 | @ins a C dx fs ea cl ha hn htk hm=>
  cases (show u=Value.ref a from rx)
  obtain ⟨mA,O,_⟩:=nH I.hok ea
  obtain ⟨od,J,_⟩:=O.look
  exact PySem.W.kia_one (PySem.W.kitx_own (cl.get _) cl.hd ha hn htk hm) I.kIn J e (fun z=>nomatch z) h
end
structure bP (k:Nat) (A:Around):Prop where
 hd:A.handled=none
 dp:A.depth+3*k+5<recursionLimit
 un:A.units+16*k+200<cLine
 gd:A.guards=some []
theorem bP.mono {j k:Nat}{A:Around} (r:bP k A) (h:j≤k):bP j A:=⟨r.hd,by have:=r.dp;trivial,by have:=r.un;trivial,r.gd⟩
theorem bP.deeper {k:Nat}{A:Around} (r:bP (k+1) A) (env:Env):bP k (A.deeper env):=
 ⟨r.hd,by have:=r.dp;show A.depth+1+3*k+5<_;trivial,by have:=r.un;show A.units+3+16*k+200<_;trivial,r.gd⟩
theorem ug {A:Around}{C:Addr}{us:List Value}{kw:List (Str×Value)}:(A.under (.builtin "type.__call__" ⟨.ref C :: us,kw⟩)).depth=A.depth+1:=by
 first | rfl | simp [Around.under,Code.weight,Code.isCreation,Code.isGuard,Code.isCaller,Code.frames,Code.isFrame,guardIds]
theorem ue {A:Around}{C:Addr}{us:List Value}{kw:List (Str×Value)}:(A.under (.builtin "type.__call__" ⟨.ref C :: us,kw⟩)).units=A.units+1:=by
 first | rfl | simp [Around.under,Code.cUnits,Code.frames,Code.isFrame]
theorem bP.make {k:Nat}{A:Around} (r:bP (k+1) A) (C:Addr) (us:List Value) (kw:List (Str×Value)):bP k (A.under (.builtin "type.__call__" ⟨.ref C :: us,kw⟩)):=
 ⟨r.hd,by have:=r.dp;rw [ug];trivial,by have:=r.un;rw [ue];trivial,r.gd⟩
theorem bP.depth {k:Nat}{A:Around} (r:bP k A):A.depth<recursionLimit:=by have:=r.dp;trivial
theorem bP.units {k:Nat}{A:Around} (r:bP k A):A.units+64<cLine:=by have:=r.un;trivial
def uM:TA:=fun _ H Q=>Q [] H
def xM (ta:TE) (tr:TA):TA:=fun σ H Q=>ta σ H fun x H1=>tr σ H1 fun xs H2=>Q (x :: xs) H2
section
variable {X:Cx}{e:Expr}{es:List Expr}{te:TE}{t:TA}{pos:Pos}
theorem cq:PA X [] uM:=fun _ _ _ _ H Q I h=>Calls.spliced_nil ⟨[],H,I,.nil,h⟩
theorem eH (ha:PE X e te) (hr:PA X es t) (hs:starEach (e :: es) X.env=(false,eval e X.env) :: starEach es X.env:=by rfl):PA X (e :: es) (xM te t):=by
 intro pos pins s σ H Q I h
 rw [hs]
 show wpAny _ _ (spliced ((false,eval e X.env) :: backTo pos (starEach es X.env))) _ _ s
 refine Calls.spliced_cons (aF (ha pins s σ H _ I h) fun u s1 ⟨x,H1,I1,r1,q1⟩=>?_)
 exact aF (hr pos pins s1 σ H1 _ I1 q1) fun us s2 ⟨xs,H2,I2,r2,q2⟩=>⟨x :: xs,H2,I2,.cons r1 r2,q2⟩
def Db (t:TA):TE:=fun σ H Q=>t σ H fun xs H1=>xs.length≤sizeLine∧∀p,H1 p=none→Q (.ref p) (aI H1 p (.lst xs))
theorem zF (h:PA X es t):PE X (.List es pos) (Db t):=by
 intro pins s σ H Q I hq
 refine wpAny_List_spliced (aF (h pos pins s σ H _ I hq) fun us s1 ⟨xs,H1,I1,r,z,q⟩=>⟨by rw [←r.length];exact z,?_⟩)
 have hf:H1 s1.heap.objs.size=none:=I1.hok.fresh (Nat.le_refl _)
 refine ⟨.ref s1.heap.objs.size,aI H1 s1.heap.objs.size (.lst xs),I1.laid (t':=s1.toks) (fun b u e=>Heap.get?_push_of_some _ e) (Nat.le_refl _) ?_,rfl,q _ hf⟩
 exact ⟨z,us,0,r,Heap.get?_push_size _ rfl⟩
end
abbrev Sp:=List V→Hp→VK→XK→Prop
abbrev ij:=List Env→Hp→Shared→XK→Value→Shared→Prop
structure oi (P:Program) (w:World) (K:PySem.W.Frag) (mg:Str→Option Value) (base:Heap) (A:Around) (outer:List Env) (s:Shared) (H:Hp):Prop where
 frames:A.frames=some outer
 mod:Mod K mg base
 bs:∀b o,base.get? b=some o→s.heap.get? b=some o∧H b=none
 bsz:base.objs.size≤s.heap.objs.size
 funs:s.heap.FunFrames base outer
 frf:∀b∈dU outer,H b=none
 hok:cE P w H s.heap
 bare:AllBare s.gens
def CE (outer:List Env) (P:Program) (w:World) (H:Hp) (s:Shared) (Q:VK) (u:Value) (s':Shared):Prop:=
 bn fun v H'=>s'.os=s.os∧AllBare s'.gens∧Un (dU outer) [] H H' s.heap s'.heap∧cE P w H' s'.heap∧aM v u∧Q v H'
def CR (CX:ij) (outer:List Env) (P:Program) (w:World) (H:Hp) (s:Shared) (Q:VK) (E:XK) (r:Result) (s':Shared):Prop:=
 match r with
 | .ok (.ret u)=>CE outer P w H s Q u s'
 | .ok _=>False
 | .error e=>CX outer H s E e s'
structure aT (P:Program) (w:World) (K:PySem.W.Frag) (mg:Str→Option Value) (base:Heap) (CX:ij) (k:Nat) (f:Addr) (fd:FuncData) (ps:List Str) (sp:Sp):Prop where
 len:∀vs H Q E,sp vs H Q E→vs.length=ps.length
 run:∀(A:Around) (outer:List Env) (s:Shared) (H:Hp) (args:Args) (us:List Value) (vs:List V) (Q:VK) (E:XK),bP k A→oi P w K mg base A outer s H→BindsTo s fd args (ps.zip us)→aq vs us→sp vs H Q E→
  codeAny (model P w) A (.call (.ref f) args) (CR CX outer P w H s Q E) s
theorem oi.make {P:Program}{w:World}{K:PySem.W.Frag}{mg:Str→Option Value}{base:Heap}{A:Around}{outer:List Env}{s:Shared}{H:Hp} (e:oi P w K mg base A outer s H) (C:Addr) (us:List Value) (kw:List (Str×Value)) :
 oi P w K mg base (A.under (.builtin "type.__call__" ⟨.ref C :: us,kw⟩)) outer s H:=⟨by first | exact e.frames | (simpa [Around.under,Code.envs,Code.isFrame,pushEnvs] using e.frames),e.mod,e.bs,e.bsz,e.funs,e.frf,e.hok,e.bare⟩
section
variable {X:Cx}{pins:List (Addr×Obj)}{σ:St}{H:Hp}{s s':Shared}
theorem ac.env0 (I:ac X pins σ H s):oi X.prog X.w X.K X.mg X.base X.A X.stack s H:=
 ⟨I.ok.frames,I.ok.mod,I.bs,Nat.le_trans I.ok.bsz I.sz,I.stack,I.stkFree,I.hok,I.bare⟩
theorem ac.after {Q:VK}{u:Value} (I:ac X pins σ H s) (h:CE X.stack X.prog X.w H s Q u s'):EP X pins σ Q u s':=by
 obtain ⟨v,H',os,bare,un,hok,r,q⟩:=h
 obtain ⟨hh,g,d,t,os'⟩:=s'
 obtain rfl:os'=s.os:=os
 exact ⟨v,H',I.call (h':=hh) (g':=g) (d':=d) (t':=t) (ch:=[]) un hok bare (fun b z=>absurd z (by simp)),r,q⟩
end
def xK (sp:Sp) (dvs:List V) (E:XK) (t:TA):TE:=fun σ H Q=>t σ H fun vs H1=>sp (vs++dvs) H1 Q E
def xR (C:Addr) (m:Str) (sp:Sp) (dvs:List V) (E:XK) (ta:TE) (t:TA):TE:=fun σ H Q=>ta σ H fun x H1=>ic fun a dx fs=>x=.ref a∧H1 a=some (.ins C dx fs)∧fs.lookup m=none∧
 t σ H1 fun vs H2=>sp (x :: (vs++dvs)) H2 Q E
def BL (C:Addr) (sp:Sp) (dvs:List V) (E:XK) (t:TA):TE:=fun σ H Q=>t σ H fun vs H1=>∀x dx,H1 x=none→H1 dx=none→dx≠x→
 sp (.ref x :: (vs++dvs)) (aI (aI H1 dx (.own x)) x (.ins C dx [])) (fun v H2=>v=.non∧Q (.ref x) H2) E
def bq (K:PySem.W.Frag) (fd:FuncData) (ps:List Str) (ds:List Value):Prop:=
 ∀(s:Shared) (us:List Value),K.In s.heap→(us++ds).length=ps.length→BindsTo s fd ⟨us,[]⟩ (ps.zip (us++ds))
theorem bq.all {K:PySem.W.Frag}{fd:FuncData}{ps:List Str} (h:∀us:List Value,us.length=ps.length→bindArgs fd ⟨us,[]⟩=pure (ps.zip us)):bq K fd ps []:=fun s us _ hl=>by
 rw [List.append_nil] at hl ⊢
 exact .of_eq (h us hl)
def fm (CX:ij) (X:Cx) (E:XK):Prop:=∀(pins:List (Addr×Obj)) (σ:St) (H:Hp) (s:Shared) (e:Value) (s':Shared),ac X pins σ H s→CX X.stack H s E e s'→X.xe e s'
section
variable {X:Cx}{CX:ij}{k:Nat}{f C:Addr}{fd:FuncData}{ps:List Str}{sp:Sp}{dvs:List V}{ds:List Value}{E:XK}{x m:Str}{p pos apos:Pos}{e o:Expr}{es:List Expr}{ta:TE}{t:TA}
theorem o9 {pins:List (Addr×Obj)}{σ:St}{H:Hp}{s:Shared}{Q:VK}{us:List Value}{vs:List V} (F:aT X.prog X.w X.K X.mg X.base CX k f fd ps sp) (hr:bP k X.A) (hb:bq X.K fd ps ds) (hd:aq dvs ds) (hx:fm CX X E)
 (I:ac X pins σ H s) (r:aq vs us) (h:sp (vs++dvs) H Q E):wpAny (model X.prog X.w) X.A (call (.ref f) us) (EP X pins σ Q) X.xe s:=by
 have r2:aq (vs++dvs) (us++ds):=r.append hd
 have hl:(us++ds).length=ps.length:=by rw [←r2.length];exact F.len _ _ _ _ h
 refine wpAny_call (codeAny_mono (F.run X.A X.stack s H ⟨us,[]⟩ (us++ds) (vs++dvs) Q E hr I.env0 (hb s us I.kIn hl) r2 h) fun r s' hq=>?_)
 cases r with
 | error e=>exact hx pins σ H s e s' I hq
 | ok fl=>
  cases fl with
  | ret u=>exact I.after hq
  | next=>exact False.elim hq
  | brk=>exact False.elim hq
  | cont=>exact False.elim hq
theorem gL (F:aT X.prog X.w X.K X.mg X.base CX k f fd ps sp) (hr:bP k X.A) (hg:Gl X x) (hm:X.mg x=some (.ref f)) (hk:PySem.W.keepIn X.K (.ref f)=true) (hb:bq X.K fd ps ds) (hd:aq dvs ds) (hx:fm CX X E)
 (ha:PA X (e :: es) t) (hdb:(x==("__debug__" : Str))=false:=by decide) (he:starEach (e :: es) X.env=(false,eval e X.env) :: starEach es X.env:=by rfl) (hpl:(backTo pos (starEach es X.env)).any (·.1)=false:=by rfl) :
 PE X (.Call (.Name x p) (e :: es) [] pos) (xK sp dvs E t):=by
 intro pins s σ H Q I h
 refine wpAny_Call_Name_kw (gQ I hg hm ?_ hdb)
 refine PySem.W.callWith_K (h₀:=X.base) I.ok.mod.kin hk (aF (ha pos pins s σ H _ I h) fun us s1 ⟨vs,H1,I1,r,q⟩=>⟨I1.kIn,?_⟩) he hpl
 exact o9 F hr hb hd hx I1 r q
theorem xw (F:aT X.prog X.w X.K X.mg X.base CX k f fd ps sp) (hr:bP k X.A) (hg:Gl X x) (hm:X.mg x=some (.ref f)) (hk:PySem.W.keepIn X.K (.ref f)=true) (hb:bq X.K fd ps ds) (hd:aq dvs ds) (hx:fm CX X E)
 (hdb:(x==("__debug__" : Str))=false:=by decide):PE X (.Call (.Name x p) [] [] pos) (xK sp dvs E uM):=by
 intro pins s σ H Q I h
 refine wpAny_Call_Name_kw (gQ I hg hm ?_ hdb)
 exact PySem.W.callWith_K0 I.kIn hk (o9 (us:=[]) F hr hb hd hx I .nil h)
theorem cy {pl:Sem Bool} (he:PE X o ta) (c:k4 X.K C) (hm:dO X.K C m f) (F:aT X.prog X.w X.K X.mg X.base CX k f fd ps sp) (hr:bP k X.A) (hb:bq X.K fd ps ds) (hd:aq dvs ds) (hx:fm CX X E) (ha:PA X (e :: es) t)
 (hst:starEach (e :: es) X.env=(false,eval e X.env) :: starEach es X.env:=by rfl) (hpl:(backTo pos (starEach es X.env)).any (·.1)=false:=by rfl)
 (ht:eval (.Call (.Attribute o m apos) (e :: es) [] pos) X.env=(do
  let ov ←eval o X.env
  standAt apos.atName
  let (f,first) ←holding [ov] (getMethod ov m pl)
  callWith pos f first (backTo pos (starEach (e :: es) X.env)) (backToKw pos (keywordEach [] X.env))):=by rfl) :
 PE X (.Call (.Attribute o m apos) (e :: es) [] pos) (xR C m sp dvs E ta t):=by
 intro pins s σ H Q I h
 refine PySem.W.methodCall_KW (pl:=pl) (aF (he pins s σ H _ I h) fun u s1 ⟨x,H1,I1,rx,a,dx,fs,ex,ea,l,q⟩=>?_) ht
 subst ex
 obtain rfl:u=Value.ref a:=rx
 refine lQ I1 ea c hm l ?_
 refine PySem.W.callWith_K (first:=[.ref a]) (h₀:=X.base) I.ok.mod.kin hm.kp (aF (ha pos pins s1 σ H1 _ I1 q) fun us s2 ⟨vs,H2,I2,r,q2⟩=>⟨I2.kIn,?_⟩) hst hpl
 exact o9 (us:=.ref a :: us) (vs:=.ref a :: vs) F hr hb hd hx I2 (.cons rfl r) q2
theorem jF {pl:Sem Bool} (he:PE X o ta) (c:k4 X.K C) (hm:dO X.K C m f) (F:aT X.prog X.w X.K X.mg X.base CX k f fd ps sp) (hr:bP k X.A) (hb:bq X.K fd ps ds) (hd:aq dvs ds) (hx:fm CX X E)
 (ht:eval (.Call (.Attribute o m apos) [] [] pos) X.env=(do
  let ov ←eval o X.env
  standAt apos.atName
  let (f,first) ←holding [ov] (getMethod ov m pl)
  callWith pos f first (backTo pos (starEach [] X.env)) (backToKw pos (keywordEach [] X.env))):=by rfl) :
 PE X (.Call (.Attribute o m apos) [] [] pos) (xR C m sp dvs E ta uM):=by
 intro pins s σ H Q I h
 refine PySem.W.methodCall_KW (pl:=pl) (aF (he pins s σ H _ I h) fun u s1 ⟨x,H1,I1,rx,a,dx,fs,ex,ea,l,q⟩=>?_) ht
 subst ex
 obtain rfl:u=Value.ref a:=rx
 refine lQ I1 ea c hm l ?_
 exact PySem.W.callWith_K0 (first:=[.ref a]) I1.kIn hm.kp (o9 (us:=[.ref a]) (vs:=[.ref a]) F hr hb hd hx I1 (.cons rfl .nil) q)
structure Mk (K:PySem.W.Frag) (C f:Addr):Prop where
 makes:PySem.W.makesIn K C=true
 init:PySem.W.findIn K (.ref C) "__init__" = some (some (.ref f))
 fn:PySem.W.isFn K (.ref f)=true
 kp:PySem.W.keepIn K (.ref C)=true
theorem wF {pins:List (Addr×Obj)}{σ:St}{H:Hp}{s:Shared}{Q:VK}{us:List Value}{vs:List V} (M:Mk X.K C f) (F:aT X.prog X.w X.K X.mg X.base CX k f fd ps sp) (hr:bP (k+1) X.A) (hb:bq X.K fd ps ds) (hd:aq dvs ds)
 (hx:fm CX X E) (I:ac X pins σ H s) (r:aq vs us)
 (h:∀x dx,H x=none→H dx=none→dx≠x→sp (.ref x :: (vs++dvs)) (aI (aI H dx (.own x)) x (.ins C dx [])) (fun v H2=>v=.non∧Q (.ref x) H2) E) :
 wpAny (model X.prog X.w) X.A (call (.ref C) us) (EP X pins σ Q) X.xe s:=by
 have hq:=h (s.heap.objs.size+1) s.heap.objs.size (I.hok.fresh (Nat.le_succ _)) (I.hok.fresh (Nat.le_refl _)) (Nat.ne_of_lt (Nat.lt_succ_self _))
 have I2:=ac.made (C:=C) I
 have r2:aq (V.ref (s.heap.objs.size+1) :: (vs++dvs)) (Value.ref (s.heap.objs.size+1) :: (us++ds)):=.cons rfl (r.append hd)
 have hl:(Value.ref (s.heap.objs.size+1) :: us++ds).length=ps.length:=by
  have e:=r2.length
  rw [F.len _ _ _ _ hq] at e
  exact e.symm
 refine wpAny_call (xB (f:=f) I.kIn M.makes M.init (beq_iff_eq.mp M.fn) (codeAny_mono (F.run _ X.stack _ _ ⟨Value.ref (s.heap.objs.size+1) :: us,[]⟩ (Value.ref (s.heap.objs.size+1) :: (us++ds)) _ _ E (hr.make C us [])
  (I2.env0.make C us []) (hb _ (Value.ref (s.heap.objs.size+1) :: us) I2.kIn hl) r2 hq) fun r s' hq'=>?_))
 cases r with
 | error e=>exact hx pins σ _ _ e s' I2 hq'
 | ok fl=>
  cases fl with
  | ret u=>
   obtain ⟨v,H',I3,rv,ev,q3⟩:=I2.after hq'
   subst ev
   exact ⟨rv,⟨V.ref (s.heap.objs.size+1),H',I3,rfl,q3⟩⟩
  | next=>exact False.elim hq'
  | brk=>exact False.elim hq'
  | cont=>exact False.elim hq'
theorem wx (M:Mk X.K C f) (F:aT X.prog X.w X.K X.mg X.base CX k f fd ps sp) (hr:bP (k+1) X.A) (hg:Gl X x) (hm:X.mg x=some (.ref C)) (hb:bq X.K fd ps ds) (hd:aq dvs ds) (hx:fm CX X E)
 (hdb:(x==("__debug__" : Str))=false:=by decide):PE X (.Call (.Name x p) [] [] pos) (BL C sp dvs E uM):=by
 intro pins s σ H Q I h
 refine wpAny_Call_Name_kw (gQ I hg hm ?_ hdb)
 exact PySem.W.callWith_K0 I.kIn M.kp (wF (us:=[]) M F hr hb hd hx I .nil h)
end
section
variable {X:Cx}{CX:ij}{k:Nat}{f C:Addr}{fd:FuncData}{ps ks:List Str}{sp:Sp}{E:XK}{x m:Str}{p pos apos kpos:Pos}{e o:Expr}{es:List Expr}{kws:List Keyword}{te ta:TE}{t tk:TA}{nm:Option Str}
variable {g:List Value→List Value→List Value}{gV:List V→List V→List V}
end
structure ay (N P:List Str) (sc:Scope):Prop where
 kind:sc.kind=.function
 co:sc.isCoroutine=false
 gen:sc.isGenerator=false
 nd:N.Nodup
 pre:N.take P.length=P
 par:∀x∈P,sc.names.lookup x=some .local∨sc.names.lookup x=some .cell
 nofree:∀y∈sc.names,y.2≠.free
theorem qw {kindOf:Str→Option NameKind}{x:Str}:∀{binds:List (Str×Value)}{m:Str→Option Value},(∀v,(x,v)∉binds)→bindL kindOf binds m x=m x
 | [],_,_=>rfl
 | (n,v) :: r,m,h=>by
  unfold bindL
  rw [qw fun w hw=>h w (List.mem_cons_of_mem _ hw)]
  split
  ·have:x≠n:=by rintro rfl;exact h v List.mem_cons_self
   simp [this]
  ·rfl
theorem qE {kindOf:Str→Option NameKind}{x:Str}:∀{binds:List (Str×Value)}{m:Str→Option Value},(∀v,(x,v)∉binds)→bindC kindOf binds m x=m x
 | [],_,_=>rfl
 | (n,v) :: r,m,h=>by
  unfold bindC
  rw [qE fun w hw=>h w (List.mem_cons_of_mem _ hw)]
  split
  ·rfl
  ·have:x≠n:=by rintro rfl;exact h v List.mem_cons_self
   simp [this]
theorem qo {kindOf:Str→Option NameKind}{x:Str}{v:Value}:∀{P:List Str}{vs:List Value}{i:Nat}{m:Str→Option Value},P.Nodup→P[i]?=some x→vs[i]?=some v→kindOf x=some .local→
 bindL kindOf (P.zip vs) m x=some v
 | [],_,_,_,_,h,_,_=>by simp at h
 | _ :: _,[],_,_,_,_,h,_=>by simp at h
 | p :: P,w :: vs,0,m,nd,h1,h2,hk=>by
  simp at h1 h2;subst h1;subst h2
  show bindL kindOf ((p,w) :: P.zip vs) m p=_
  unfold bindL
  rw [qw fun v hv=>(List.nodup_cons.mp nd).1 (List.of_mem_zip hv).1,if_pos hk]
  simp
 | p :: P,w :: vs,i+1,m,nd,h1,h2,hk=>by
  show bindL kindOf ((p,w) :: P.zip vs) m x=_
  unfold bindL
  exact qo (i:=i) (List.nodup_cons.mp nd).2 (by simpa using h1) (by simpa using h2) hk
theorem qr {kindOf:Str→Option NameKind}{x:Str}{v:Value}:∀{P:List Str}{vs:List Value}{i:Nat}{m:Str→Option Value},P.Nodup→P[i]?=some x→vs[i]?=some v→kindOf x≠some .local→
 bindC kindOf (P.zip vs) m x=some v
 | [],_,_,_,_,h,_,_=>by simp at h
 | _ :: _,[],_,_,_,_,h,_=>by simp at h
 | p :: P,w :: vs,0,m,nd,h1,h2,hk=>by
  simp at h1 h2;subst h1;subst h2
  show bindC kindOf ((p,w) :: P.zip vs) m p=_
  unfold bindC
  rw [qE fun v hv=>(List.nodup_cons.mp nd).1 (List.of_mem_zip hv).1,if_neg hk]
  simp
 | p :: P,w :: vs,i+1,m,nd,h1,h2,hk=>by
  show bindC kindOf ((p,w) :: P.zip vs) m x=_
  unfold bindC
  exact qr (i:=i) (List.nodup_cons.mp nd).2 (by simpa using h1) (by simpa using h2) hk
def jr (N:List Str) (vs:List V):St:=vs.map some++List.replicate (N.length - vs.length) none
def lN (CX:ij) (P:Program) (w:World) (K:PySem.W.Frag) (mg:Str→Option Value) (base:Heap) (N:List Str) (qual:Str) (scope:Scope) (f:Addr) (cd:Value) (A:Around) (outer:List Env) (s:Shared) (H:Hp) (E:XK):Cx where
 prog:=P
 w:=w
 K:=K
 mg:=mg
 base:=base
 A:=A.deeper (envOfC qual scope s.heap.objs.size f cd)
 N:=N
 s₀:=s
 H₀:=H
 env:=envOfC qual scope s.heap.objs.size f cd
 outer:=outer
 stack:=envOfC qual scope s.heap.objs.size f cd :: outer
 ex:=[]
 calm:=true
 fn:=fun _=>true
 pn:=[]
 xe:=fun e s'=>wpAny (model P w) (A.deeper (envOfC qual scope s.heap.objs.size f cd)) (leaving (envOfC qual scope s.heap.objs.size f cd) e) (fun _ s''=>CX outer H s E e s'') (fun e' s''=>CX outer H s E e' s'') s'
theorem rz {sc:Scope}{n:Nat}{x:Str} (h:sc.names.lookup x=some .cell):∃c,(cellsFrom n sc.names []).lookup x=some c:=by
 have q:=PySem.W.cellsFrom_some sc.names n [] (.inl h)
 exact Option.isSome_iff_exists.mp q
theorem vb {CX:ij}{P:Program}{w:World}{K:PySem.W.Frag}{mg:Str→Option Value}{base:Heap}{N ps:List Str}{qual:Str}{scope:Scope}{f:Addr}{cd:Value}{A:Around}{outer:List Env}{s s1:Shared}{H:Hp}{E:XK}{us:List Value}{vs:List V}
 (S:ay N ps scope) (hd:A.handled=none) (e0:oi P w K mg base A outer s H) (hl:vs.length=ps.length) (r:aq vs us)
 (x:InCallC s s.heap.objs.size (bindL (envOfC qual scope s.heap.objs.size f cd).kindOf (ps.zip us) fun _=>none) (cellsFrom (s.heap.objs.size+1) scope.names []) (bindC (envOfC qual scope s.heap.objs.size f cd).kindOf (ps.zip us) fun _=>none) s1) :
 ac (lN CX P w K mg base N qual scope f cd A outer s H E) [] (jr N vs) H s1:=by
 have hpl:ps.length≤N.length:=by have:=congrArg List.length S.pre;rw [List.length_take] at this;trivial
 obtain ⟨h1,tk,rfl,hk⟩:=x.done
 have noA:∀b:Addr,b∉(lN CX P w K mg base N qual scope f cd A outer s H E).ex:=fun b z=>absurd (show b∈([]:List Addr) from z) (by simp)
 refine ⟨⟨e0.mod,S.kind,rfl,rfl,Nat.le_refl _,fun y z c h1 h2=>?_,fun y hy=>?_,fun y c _ h=>?_,fun _=>hd,Around.frames_deeper e0.frames,.inr ⟨rfl,rfl⟩,fun b z=>absurd z (noA b),e0.bs,e0.bsz,fun b _ _=>noA b,fun b z=>absurd z (noA b),e0.funs,e0.frf⟩,
  rfl,e0.bare,Un.kept hk,⟨_,x.toInCall.ns,fun i y v h1 h2 h3=>?_⟩,fun y c h=>⟨_,x.cell y c h⟩,e0.hok.fresh (Nat.le_refl _),fun y c h=>?_,fun p hp=>absurd (show p∈([]:List (Addr×Obj)) from hp) (by simp),e0.hok.kept hk,?_⟩
 ·exact name_of_addr x.apart (PySem.mem_of_lookup h1) (PySem.mem_of_lookup h2)
 ·have hy:scope.names.lookup y=some .cell∨scope.names.lookup y=some .free:=hy
  rcases hy with hy | hy
  ·exact rz hy
  ·exact absurd rfl (S.nofree _ (PySem.mem_of_lookup hy))
 ·exact Nat.le_of_lt (x.above y c (PySem.mem_of_lookup h))
 ·have hi:i<vs.length:=by
   unfold jr at h2
   by_cases hi:i<vs.length
   ·exact hi
   ·rw [List.getElem?_append_right (by simpa using hi)] at h2
    rw [List.getElem?_replicate] at h2
    split at h2 <;> cases h2
  have ha:vs[i]?=some v:=by
   unfold jr at h2
   rw [List.getElem?_append_left (by simpa using hi),List.getElem?_map] at h2
   cases e:vs[i]? with
   | none=>rw [e] at h2;cases h2
   | some a=>rw [e] at h2;cases h2;rfl
  obtain ⟨u,hu,rv⟩:=r.get ha
  have hp:ps[i]?=some y:=by
   rw [←S.pre,List.getElem?_take_of_lt (by trivial)];exact h1
  have ndP:ps.Nodup:=by rw [←S.pre];exact S.nd.sublist (List.take_sublist _ _)
  refine ⟨u,rv,?_⟩
  rcases S.par y (List.mem_of_getElem? hp) with k | k
  ·exact .inl ⟨k,qo ndP hp hu k⟩
  ·obtain ⟨c,e⟩:=rz (n:=s.heap.objs.size+1) k
   refine .inr ⟨.inl k,c,e,?_⟩
   have q:=x.cell y c e
   rw [qr ndP hp hu (by show scope.names.lookup y≠_;rw [k];decide)] at q
   exact q
 ·exact e0.hok.fresh (Nat.le_of_lt (x.above y c (PySem.mem_of_lookup h)))
 ·unfold jr
  show _=N.length
  rw [List.length_append,List.length_map,List.length_replicate]
  trivial
theorem xT {CX:ij}{P:Program}{w:World}{K:PySem.W.Frag}{mg:Str→Option Value}{base:Heap}{k:Nat}{f:Addr}{name qual:Str}{params:Arguments}{body:List Stmt}{scope:Scope}{dV kV doc pm cdv ct oc:Value}{an od:Option Addr}
 {osl:Array (Option Value)}{N ps:List Str}{sp:Sp} (lk:K.lookup f=some ⟨oc,od,.func (PySem.W.fnOf name qual params body scope dV kV doc pm an cdv ct),osl⟩) (hcd:PySem.W.codeIn K cdv qual=true) (S:ay N ps scope)
 (len:∀vs H Q E,sp vs H Q E→vs.length=ps.length)
 (hbody:∀(A:Around) (outer:List Env) (s:Shared) (H:Hp) (vs:List V) (Q:VK) (E:XK),bP k (A.deeper (envOfC qual scope s.heap.objs.size f cdv))→sp vs H Q E→
  ∃t,hZ (lN CX P w K mg base N qual scope f cdv A outer s H E) body t∧t { nx:=fun _ H'=>Q .non H',rt:=Q } (jr N vs) H) :
 aT P w K mg base CX (k+1) f (PySem.W.fnOf name qual params body scope dV kV doc pm an cdv ct) ps sp:=by
 refine ⟨len,fun A outer s H args us vs Q E hr e0 hb r hsp=>?_⟩
 have hl:=len _ _ _ _ hsp
 have KX:K.In s.heap:=e0.mod.kin.keeps fun b o e=>(e0.bs b o e).1
 have lim:s.heap.NoLimit:=e0.mod.nolimit.keeps fun b o e=>(e0.bs b o e).1
 have hkind:∀y∈ps.zip us,scope.names.lookup y.1=some .local∨(scope.names.lookup y.1=some .cell∧((cellsFrom (s.heap.objs.size+1) scope.names []).lookup y.1).isSome=true):=fun ⟨n,v⟩ hy=>by
  rcases S.par n (List.of_mem_zip hy).1 with q | q
  ·exact .inl q
  ·exact .inr ⟨q,PySem.W.cellsFrom_some _ _ _ (.inl q)⟩
 refine codeAny_call_function hr.depth (KX _ _ lk) rfl S.co S.gen rfl (PySem.W.codeRec_of KX hcd) (hb _ _ _ _ ?_)
 refine wpAny_newFunctionEnv_cells S.kind hkind fun env he s1 x=>?_
 subst he
 refine ⟨lim.keeps x.toInCall.keep,codeAny_func ?_⟩
 obtain ⟨t,ht,hq⟩:=hbody A outer s H vs Q E (hr.deeper _) hsp
 have I:ac (lN CX P w K mg base N qual scope f cdv A outer s H E) [] (jr N vs) H s1:=vb S hr.hd e0 hl r x
 refine wpAny_mono (ht [] s1 (jr N vs) H _ I hq) (fun fl s' hs=>?_) fun e s' hs=>hs
 have fin:∀{σ':St}{H':Hp}{v:V}{u:Value},ac (lN CX P w K mg base N qual scope f cdv A outer s H E) [] σ' H' s'→aM v u→Q v H'→CE outer P w H s Q u s':=
  fun {σ' H' v u} J rv q=>⟨v,H',J.os,J.bare,J.base,J.hok,rv,q⟩
 cases fl with
 | ret u=>
  obtain ⟨v,σ',H',J,rv,q⟩:=hs
  exact fin J rv q
 | next=>
  obtain ⟨σ',H',J,q⟩:=hs
  exact fin (v:=V.non) (u:=Value.none) J rfl q
 | brk=>
  obtain ⟨_,_,_,q⟩:=hs
  exact False.elim q
 | cont=>
  obtain ⟨_,_,_,q⟩:=hs
  exact False.elim q
end L2
namespace L2
open PySem PySem.Spec PyProof.Rows
section
variable {X:Cx}{x:Str}{p pos:Pos}{e:Expr}{es:List Expr}{t:TA}{id T:String}{r:List V→Hp→VK→Prop}
def CC (r:List V→Hp→VK→Prop) (t:TA):TE:=fun σ H Q=>t σ H fun vs H1=>r vs H1 Q
theorem jS (hc:cz X (.builtin id) r) (hg:Gl X x) (hm:X.mg x=none) (hv:bootBuiltins x=some (.builtin id)) (ha:PA X (e :: es) t) (hn:x≠"__name__" := by decide) (hdb:(x==("__debug__" : Str))=false:=by decide)
 (he:starEach (e :: es) X.env=(false,eval e X.env) :: starEach es X.env:=by rfl) (hpl:(backTo pos (starEach es X.env)).any (·.1)=false:=by rfl):PE X (.Call (.Name x p) (e :: es) [] pos) (CC r t):=by
 intro pins s σ H Q I h
 refine wpAny_Call_Name_kw (jC I hg hm hv ?_ hn hdb)
 exact PyProof.Rows.callWith_builtin1 (aF (ha pos pins s σ H _ I h) fun us s1 ⟨vs,H1,I1,r1,q1⟩=>hc pins s1 σ H1 vs us Q I1 r1 q1) he hpl
theorem dh (hc:cz X (.type T) r) (hg:Gl X x) (hm:X.mg x=none) (hv:bootBuiltins x=some (.type T)) (ha:PA X (e :: es) t) (hn:x≠"__name__" := by decide) (hdb:(x==("__debug__" : Str))=false:=by decide)
 (he:starEach (e :: es) X.env=(false,eval e X.env) :: starEach es X.env:=by rfl) (hpl:(backTo pos (starEach es X.env)).any (·.1)=false:=by rfl):PE X (.Call (.Name x p) (e :: es) [] pos) (CC r t):=by
 intro pins s σ H Q I h
 refine wpAny_Call_Name_kw (jC I hg hm hv ?_ hn hdb)
 exact PyProof.Rows.callWith_type1 (aF (ha pos pins s σ H _ I h) fun us s1 ⟨vs,H1,I1,r1,q1⟩=>hc pins s1 σ H1 vs us Q I1 r1 q1) he hpl
end
end L2
namespace HT
open PySem PyProof.Rows
section
open PySem.SeqAt
open PySem.AutoSeq1 (wpAny_loadPart')
open PySem.MeetsSeq PySem.MeetsSeq2 PySem.MeetsSeq3
end
section
variable {prog:Program}{w:World}{A:Around}{E:Value→Shared→Prop}{s:Shared}
theorem cat_tup {t b:Addr}{vs ws:List Value}{Q:Value→Shared→Prop} (ht:IsTup s.heap t vs.toArray) (hb:IsTup s.heap b ws.toArray) (hv:vs≠[])
 (h1:ws=[]→Q (.ref t) s) (h2:ws≠[]→Q (.ref s.heap.objs.size) { s with heap:=s.heap.push { cls:=.type "tuple",data:=.seq (vs++ws).toArray } })
 (hsz:vs.length+ws.length≤sizeLine):wpAny (model prog w) A (binaryOp .Add (.ref t) (.ref b)) Q E s:=by
 obtain ⟨⟨cls,dd,data,sl⟩,ho,hc,n,hd⟩:=id ht
 obtain ⟨⟨cls2,dd2,data2,sl2⟩,ho2,hc2,n2,hd2⟩:=id hb
 simp only at hc hd hc2 hd2
 subst hc hd hc2 hd2
 have e:vs.toArray++ws.toArray=(vs++ws).toArray:=by simp
 by_cases hw:ws=[]
 ·exact concat_meets ⟨_,ho,rfl⟩ ⟨_,ho2,rfl⟩ noFill_tuple_add seq_tuple_add PySem.F.slot_tuple_add PySem.F.entry_tuple_add (PySem.F.args_tuple_add_2 _ _)
   (tuple_addW1 t b vs.toArray ws.toArray n n2 dd dd2 sl sl2 (by simpa using hv) (by simp [hw])) ⟨ho,ho2,h1 hw⟩
 ·refine concat_meets ⟨_,ho,rfl⟩ ⟨_,ho2,rfl⟩ noFill_tuple_add seq_tuple_add PySem.F.slot_tuple_add PySem.F.entry_tuple_add (PySem.F.args_tuple_add_2 _ _)
   (tuple_addW2 t b vs.toArray ws.toArray n n2 dd dd2 sl sl2 (by simpa using hv) (by simpa using hw) (by rw [List.size_toArray,List.size_toArray];exact hsz)) ⟨ho,ho2,?_⟩
  rw [e]
  exact h2 hw
def sIx (n d:Nat):Option Int→Nat
 | none=>d
 | some v=>if v<0 then (v+(n:Int)).toNat else min v.toNat n
theorem sIx_none (n d:Nat):sIx n d none=d:=rfl
theorem sIx_nat (n d k:Nat):sIx n d (some (k:Int))=min k n:=by
 show (if (k:Int)<0 then ((k:Int)+(n:Int)).toNat else min (k:Int).toNat n)=min k n
 rw [if_neg (by trivial),Int.toNat_natCast]
theorem AS (n d:Nat) (hd:d≤n) (o:Option Int):sIx n d o≤n:=by
 cases o with
 | none=>exact hd
 | some v=>
  show (if v<0 then (v+(n:Int)).toNat else min v.toNat n)≤n
  by_cases hv:v<0
  ·rw [if_pos hv];trivial
  ·rw [if_neg hv];exact Nat.min_le_right _ _
theorem tM (v:Int) (n d:Nat):(if v<0 then max (v+(n:Int)) 0 else min v (n:Int))=((sIx n d (some v):Nat):Int):=by
 show (if v<0 then max (v+(n:Int)) 0 else min v (n:Int))=(((if v<0 then (v+(n:Int)).toNat else min v.toNat n):Nat):Int)
 by_cases hv:v<0
 ·simp only [if_pos hv];trivial
 ·simp only [if_neg hv];trivial
theorem uG (lo hi:Option Int) (n:Nat):Builtin.Slice.sliceAdjust lo hi 1 (n:Int)=(((sIx n 0 lo:Nat):Int),((sIx n n hi:Nat):Int)):=by
 have h1:¬((1:Int)<0):=by trivial
 unfold Builtin.Slice.sliceAdjust
 simp only [h1,if_false]
 refine Prod.ext ?_ ?_
 ·cases lo with
  | none=>rfl
  | some v=>exact tM v n 0
 ·cases hi with
  | none=>rfl
  | some v=>exact tM v n n
theorem uh (i j:Nat):Builtin.Slice.slicePlaces (i:Int) (j:Int) 1=j - i:=by
 unfold Builtin.Slice.slicePlaces
 have h1:(1:Int) > 0:=by trivial
 simp only [h1,if_true,Int.ediv_one]
 split <;> trivial
theorem oZ {v:Value}{o:Option Int}{Q:Option Int→Shared→Prop} (p:IsPart v o) (h:Q o s):wpAny (model prog w) A (Builtin.Slice.slicePartIndex v) Q E s:=by
 cases p with
 | none=>exact slicePart_none h
 | int i t=>exact slicePart_int h
theorem j9 {sl:Addr}{vl vu:Value}{lo hi:Option Int}{n:Nat}{Q:Int×Int×Nat→Shared→Prop} (hs:s.heap.IsSliceOf sl vl vu .none) (pl:IsPart vl lo) (pu:IsPart vu hi)
 (h:Q (((sIx n 0 lo:Nat):Int),1,sIx n n hi - sIx n 0 lo) s):wpAny (model prog w) A (Builtin.Slice.sliceApplied (.ref sl) (pure (n:Int))) Q E s:=by
 obtain ⟨os,hos,hcs,hds⟩:=id hs
 unfold Builtin.Slice.sliceApplied Builtin.Slice.sliceFields
 refine wpAny_bind (wpAny_bind (wpAny_field hos hds (x:=vl) rfl (wpAny_bind (wpAny_field hos hds (x:=vu) rfl (wpAny_bind (wpAny_field hos hds (x:=.none) rfl (wpAny_pure ?_)))))))
 refine wpAny_bind (slicePart_none ?_)
 show wpAny _ _ (if ((1:Int)==0)=true then _ else _) _ _ s
 rw [if_neg (by decide)]
 refine wpAny_bind (oZ pl (wpAny_bind (oZ pu (wpAny_bind (wpAny_pure ?_)))))
 show wpAny _ _ (match Builtin.Slice.sliceAdjust lo hi 1 (n:Int) with | (lo,hi)=>pure (lo,(1:Int),Builtin.Slice.slicePlaces lo hi 1)) _ _ s
 rw [uG lo hi n]
 show wpAny _ _ (pure (((sIx n 0 lo:Nat):Int),(1:Int),Builtin.Slice.slicePlaces ((sIx n 0 lo:Nat):Int) ((sIx n n hi:Nat):Int) 1)) _ _ s
 rw [uh]
 exact wpAny_pure h
theorem wG (xs:Array Value) (i k:Nat):((List.range k).filterMap fun (m:Nat)=>xs[((i:Int)+(m:Int)*1).toNat]?).toArray=((xs.toList.drop i).take k).toArray:=by
 have e:(fun (m:Nat)=>xs[((i:Int)+(m:Int)*1).toNat]?)=fun m=>xs[i+m]?:=by
  funext m
  have:((i:Int)+(m:Int)*1).toNat=i+m:=by trivial
  rw [this]
 rw [e]
 have:=pick_run xs i k
 rw [List.filterMap_map] at this
 have e2:((fun x=>xs[x]?) ∘ fun x=>i+x)=fun m=>xs[i+m]?:=rfl
 rw [e2] at this
 rw [this]
theorem getItem_tuple_cut {t sl:Addr}{items:Array Value}{vl vu:Value}{lo hi:Option Int}{Q:Value→Shared→Prop} (ht:IsTup s.heap t items) (hs:s.heap.IsSliceOf sl vl vu .none) (pl:IsPart vl lo) (pu:IsPart vu hi)
 (hw:¬(sIx items.size 0 lo=0∧sIx items.size items.size hi=items.size))
 (h:Q (.ref s.heap.objs.size) { s with heap:=s.heap.push { cls:=.type "tuple",data:=.seq ((items.toList.drop (sIx items.size 0 lo)).take (sIx items.size items.size hi - sIx items.size 0 lo)).toArray } })
 (hsz:items.size≤sizeLine):wpAny (model prog w) A (getItem (.ref t) (.ref sl)) Q E s:=by
 have htake:sizeOk (.seq ((items.toList.drop (sIx items.size 0 lo)).take (sIx items.size items.size hi - sIx items.size 0 lo)).toArray):=by
  show ((items.toList.drop (sIx items.size 0 lo)).take (sIx items.size items.size hi - sIx items.size 0 lo)).toArray.size≤sizeLine
  rw [List.size_toArray,List.length_take,List.length_drop,Array.length_toList]
  exact Nat.le_trans (Nat.min_le_right ..) (Nat.le_trans (Nat.sub_le ..) hsz)
 have hj:sIx items.size items.size hi≤items.size:=AS _ _ (Nat.le_refl _) hi
 obtain ⟨os,hos,hcs,hds⟩:=id hs
 have hTs:s.TypeIs (.ref sl) "slice" := ⟨os,hos,hcs⟩
 unfold getItem
 try with_reducible refine wpAny_holding ?_
 first | refine wpAny_bind (wpAny_pure ?_) | skip
 refine wpAny_bind (wpAny_sequenceKey ht.typeIs (by decide) ?_)
 refine wpAny_bind (wpAny_callSpecial?_slot (name:=Str.ofString "__getitem__") ht.typeIs PyProof.Rows.slot_tuple_getitem
  (wpAny_call_entry PyProof.Rows.slot_tuple_getitem ht.typeIs entry_tuple_getitem ?_ (args_tuple_getitem _ _)))
 show wpAny _ _ (Builtin.Tuple.tupleItemsOf (.ref t) >>= _) _ _ s
 refine wpAny_bind (tupleItemsOf_ ht ?_)
 refine wpAny_bind (wpAny_typeOf hTs ?_)
 rw [if_pos (by decide)]
 refine wpAny_bind (j9 hs pl pu ?_)
 have hno:¬((((sIx items.size 0 lo:Nat):Int)==0 && (1:Int)==1 && (sIx items.size items.size hi - sIx items.size 0 lo)==items.size)=true):=by
  intro q
  rw [Bool.and_eq_true,Bool.and_eq_true] at q
  have q1:((sIx items.size 0 lo:Nat):Int)=0:=eq_of_beq q.1.1
  have q2:sIx items.size items.size hi - sIx items.size 0 lo=items.size:=eq_of_beq q.2
  exact hw ⟨by trivial,by trivial⟩
 show wpAny _ _ (if (((sIx items.size 0 lo:Nat):Int)==0 && (1:Int)==1 && (sIx items.size items.size hi - sIx items.size 0 lo)==items.size)=true then _ else _) _ _ s
 rw [if_neg hno,wG]
 first
  | exact wpAny_bind (m:=Builtin.Tuple.tupleExact _) (wpAny_newObj_type (wpAny_pure ⟨_,rfl,wpAny_pure h⟩) htake)
  | exact wpAny_bind (m:=Builtin.Tuple.tupleExact _) (wpAny_newObj_type (wpAny_bind (wpAny_pure (wpAny_pure ⟨_,rfl,wpAny_pure h⟩))) htake)
  | exact wpAny_bind (wpAny_bind (m:=Builtin.Tuple.tupleExact _) (wpAny_newObj_type (wpAny_pure (wpAny_pure ⟨_,rfl,wpAny_pure h⟩)) htake))
  | exact wpAny_bind (wpAny_bind (m:=Builtin.Tuple.tupleExact _) (wpAny_newObj_type (wpAny_pure ⟨_,rfl,wpAny_pure h⟩) htake))
end
end HT
namespace L2
open PySem PySem.Spec PyProof.Rows
abbrev TO:=St→Hp→(Option Int→Hp→Prop)→Prop
def PO (X:Cx) (e:Option Expr) (t:TO):Prop:=
 ∀(pins:List (Addr×Obj)) (s:Shared) (σ:St) (H:Hp) (Q:Option Int→Hp→Prop),ac X pins σ H s→t σ H Q→
   wpAny (model X.prog X.w) X.A (evalPart e X.env) (fun u s'=>bn fun o H'=>ac X pins σ H' s'∧IsPart u o∧Q o H') X.xe s
def yG:TO:=fun _ H Q=>Q none H
def BW (t:TE):TO:=fun σ H Q=>t σ H fun x H1=>Aa x fun i=>Q (some i) H1
section
variable {X:Cx}{e:Expr}{te:TE}{lo hi:Option Expr}{tl th:TO}{pos p2:Pos}
theorem dM:PO X none yG:=by
 intro pins s σ H Q I h
 rw [evalPart_none]
 exact wpAny_pure ⟨none,H,I,.none,h⟩
theorem cI (h:PE X e te):PO X (some e) (BW te):=by
 intro pins s σ H Q I hw
 rw [evalPart_some]
 refine aF (h pins s σ H _ I hw) fun u s1 ⟨x,H1,I1,r1,q1⟩=>?_
 obtain ⟨i,rfl,q⟩:=q1
 obtain ⟨t,rfl⟩:=r1
 exact ⟨some i,H1,I1,.int i t,q⟩
def wg (X:Cx) (r:V→Option Int→Option Int→Hp→VK→Prop):Prop:=
 ∀(pins:List (Addr×Obj)) (s:Shared) (σ:St) (H:Hp) (x:V) (v vl vu:Value) (lo hi:Option Int) (sl:Addr) (Q:VK),ac X pins σ H s→aM x v→s.heap.IsSliceOf sl vl vu .none→IsPart vl lo→IsPart vu hi→r x lo hi H Q→
   bn fun T id=>typeLookup (.type T) "__getitem__" = pure (some (.builtin id))∧s.TypeIs v T∧wpAny (model X.prog X.w) X.A (getItem v (.ref sl)) (EP X pins σ Q) X.xe s
def Dx (r:V→Option Int→Option Int→Hp→VK→Prop) (te:TE) (tl th:TO):TE:=fun σ H Q=>te σ H fun x H1=>tl σ H1 fun l H2=>th σ H2 fun u H3=>r x l u H3 Q
theorem cD {r:V→Option Int→Option Int→Hp→VK→Prop} (hr:wg X r) (he:PE X e te) (hl:PO X lo tl) (hu:PO X hi th):PE X (.Subscript e (.Slice lo hi none p2) pos) (Dx r te tl th):=by
 intro pins s σ H Q I h
 refine Subscript_ (aF (he pins s σ H _ I h) fun v s1 ⟨x,H1,I1,r1,q1⟩=>?_)
 refine wpAny_Slice (aF (hl pins s1 σ H1 _ I1 q1) fun vl s2 ⟨l,H2,I2,pl,q2⟩=>aF (hu pins s2 σ H2 _ I2 q2) fun vu s3 ⟨u,H3,I3,pu,q3⟩=>?_)
 rw [evalPart_none]
 refine wpAny_pure ?_
 have I4:ac X pins σ H3 { s3 with heap:=s3.heap.push { cls:=.type "slice",data:=.fields #[vl,vu,.none] } }:=I3.kept (t':=s3.toks) fun b ob q=>Heap.get?_push_of_some _ q
 obtain ⟨T,id,hT,ht,hg⟩:=hr pins { s3 with heap:=s3.heap.push { cls:=.type "slice",data:=.fields #[vl,vu,.none] } } σ H3 x v vl vu l u s3.heap.objs.size Q I4 r1 (Heap.IsSliceOf.new ..) pl pu q3
 show wpAny (model X.prog X.w) X.A (subscriptTail e (.Slice lo hi none p2) v (.ref s3.heap.objs.size)) (EP X pins σ Q) X.xe { s3 with heap:=s3.heap.push { cls:=.type "slice",data:=.fields #[vl,vu,.none] } }
 exact tail_any (ops:=[.ref s3.heap.objs.size,v]) ht hT hg (by with_unfolding_all rfl)
def fj (xs:List V) (lo hi:Option Int):List V:=(xs.drop (HT.sIx xs.length 0 lo)).take (HT.sIx xs.length xs.length hi - HT.sIx xs.length 0 lo)
theorem dw (xs:List V) (lo hi:Option Int):(fj xs lo hi).length≤xs.length:=by
 unfold fj
 rw [List.length_take,List.length_drop]
 exact Nat.le_trans (Nat.min_le_right ..) (Nat.sub_le ..)
inductive Cy (K:PySem.W.Frag) (x:V) (lo:Option Int) (hi:Option Int) (H:Hp) (Q:VK):Prop
 | mk (a:_) (xs:_) (h0:x=.ref a) (h1:af K H a xs) (h2:¬(HT.sIx xs.length 0 lo=0∧HT.sIx xs.length xs.length hi=xs.length)) (h3:∀p,H p=none→Q (.ref p) (aI H p (.tup (fj xs lo hi))))
def Dq (K:PySem.W.Frag):V→Option Int→Option Int→Hp→VK→Prop:=fun x lo hi H Q=>Cy K x lo hi H Q
theorem Ba:wg X (Dq X.K):=by
 intro pins s σ H x v vl vu lo hi sl Q I rx hs pl pu h
 obtain ⟨a,xs,rfl,hx,hw,q⟩:=h
 cases rx
 obtain ⟨its,r,ht,hz⟩:=I.tuple hx
 have hlen:its.toArray.size=xs.length:=by rw [List.size_toArray];exact r.length.symm
 refine ⟨"tuple",_,PyProof.Rows.slot_tuple_getitem.lookup,ht.typeIs,?_⟩
 refine HT.getItem_tuple_cut ht hs pl pu (by rw [hlen];exact hw) ?_ (by rw [hlen];exact hz)
 rw [hlen]
 refine ⟨.ref s.heap.objs.size,_,I.laid (t':=s.toks) (o:=.tup (fj xs lo hi)) (fun b ob q=>Heap.get?_push_of_some _ q) (Nat.le_refl _) ?_,rfl,q _ (I.hok.fresh (Nat.le_refl _))⟩
 exact ⟨Nat.le_trans (dw xs lo hi) hz,_,(r.drop (HT.sIx xs.length 0 lo)).take (HT.sIx xs.length xs.length hi - HT.sIx xs.length 0 lo),IsTup.new _ _,_,Heap.get?_push_size _ rfl,rfl⟩
inductive zR (K:PySem.W.Frag) (x:V) (y:V) (H:Hp) (Q:VK):Prop
 | mk (a:_) (b:_) (xs:_) (ys:_) (h0:x=.ref a) (h1:y=.ref b) (h2:af K H a xs) (h3:af K H b ys) (h4:xs≠[]) (h5:xs.length+ys.length≤sizeLine) (h6:(ys=[]→Q (.ref a) H)) (h7:(ys≠[]→∀p,H p=none→Q (.ref p) (aI H p (.tup (xs++ys)))))
def Bs (K:PySem.W.Frag):R2:=fun x y H Q=>zR K x y H Q
theorem aq.nil_iff {xs:List V}{us:List Value} (r:aq xs us):us=[]↔xs=[]:=by
 cases r with
 | nil=>simp
 | cons _ _=>simp
theorem zq:cr X (binaryOp .Add) (Bs X.K):=by
 intro pins s σ H x y v u Q I rx ry h
 obtain ⟨a,b,xs,ys,rfl,rfl,ha,hb,hx,hz,q1,q2⟩:=h
 cases rx
 cases ry
 obtain ⟨its,r1,p1,_⟩:=I.tuple ha
 obtain ⟨its2,r2,p2,_⟩:=I.tuple hb
 refine HT.cat_tup p1 p2 (fun z=>hx (r1.nil_iff.mp z)) (fun z=>⟨.ref a,H,I,rfl,q1 (r2.nil_iff.mp z)⟩) (fun z=>?_) (by rw [←r1.length,←r2.length];exact hz)
 refine ⟨.ref s.heap.objs.size,_,I.laid (t':=s.toks) (o:=.tup (xs++ys)) (fun b ob q=>Heap.get?_push_of_some _ q) (Nat.le_refl _) ?_,rfl,q2 (fun w=>z (r2.nil_iff.mpr w)) _ (I.hok.fresh (Nat.le_refl _))⟩
 exact ⟨by rw [List.length_append];exact hz,_,r1.append r2,IsTup.new _ _,_,Heap.get?_push_size _ rfl,rfl⟩
end
def kg (n:Nat) (i:Int):Option Nat:=if 0≤i then (if i<n then some i.toNat else none) else if -(n:Int)≤i then some (i+n).toNat else none
def gJ {α:Type} (xs:List α) (i:Int):Option α:=(kg xs.length i).bind fun j=>xs[j]?
theorem tO {n:Nat}{i:Int}{j:Nat} (h:kg n i=some j):seqIndex? i n=some j∧j<n∧-(n:Int)≤i∧i<n:=by
 unfold kg at h
 by_cases h0:0≤i
 ·rw [if_pos h0] at h
  by_cases h1:i<n
  ·rw [if_pos h1] at h
   have e:i.toNat=j:=Option.some.inj h
   exact ⟨by rw [seqIndex_of h0 h1,e],by trivial,by trivial,h1⟩
  ·rw [if_neg h1] at h;cases h
 ·rw [if_neg h0] at h
  by_cases h1:-(n:Int)≤i
  ·rw [if_pos h1] at h
   have e:(i+n).toNat=j:=Option.some.inj h
   exact ⟨by rw [seqIndex_neg (by trivial) h1,e],by trivial,h1,by trivial⟩
  ·rw [if_neg h1] at h;cases h
theorem pP {α:Type}{xs:List α}{i:Int}{v:α} (h:gJ xs i=some v):∃j,seqIndex? i xs.length=some j∧xs[j]?=some v∧j<xs.length∧-(xs.length:Int)≤i∧i<xs.length:=by
 unfold gJ at h
 cases e:kg xs.length i with
 | none=>rw [e] at h;cases h
 | some j=>
  rw [e] at h
  obtain ⟨h1,h2,h3,h4⟩:=tO e
  exact ⟨j,h1,h,h2,h3,h4⟩
theorem jy {α:Type}{xs:List α}{j:Nat}{v:α} (h:xs[j]?=some v):gJ xs (j:Int)=some v:=by
 have hj:j<xs.length:=(List.getElem?_eq_some_iff.mp h).1
 have e:kg xs.length (j:Int)=some j:=by
  unfold kg
  rw [if_pos (by trivial),if_pos (by trivial)];simp
 unfold gJ;rw [e];exact h
theorem fC {α:Type} (xs:List α) (v:α):gJ (xs++[v]) (-1)=some v:=by
 have hl:(xs++[v]).length=xs.length+1:=by simp
 have e:kg (xs++[v]).length (-1)=some xs.length:=by
  unfold kg
  rw [hl,if_neg (by decide),if_pos (by trivial)]
  congr 1
  trivial
 unfold gJ
 rw [e]
 show (xs++[v])[xs.length]?=some v
 simp
def yf (b:Expr):Prop:=∀o i,subscripted b false o i=operate [o,i] (getItem o i)
def kW (X:Cx) (r:R2):Prop:=
 ∀(value slice:Expr) (pins:List (Addr×Obj)) (s:Shared) (σ:St) (H:Hp) (x y:V) (v u:Value) (Q:VK),ac X pins σ H s→aM x v→aM y u→r x y H Q→
   subscripted slice false v u=operate [v,u] (getItem v u)→wpAny (model X.prog X.w) X.A (subscriptTail value slice v u) (EP X pins σ Q) X.xe s
def rR (X:Cx) (id:String) (r:V→List V→Hp→VK→Prop):Prop:=
 ∀(pins:List (Addr×Obj)) (s:Shared) (σ:St) (H:Hp) (x:V) (xs:List V) (v:Value) (us:List Value) (Q:VK),ac X pins σ H s→aM x v→aq xs us→r x xs H Q→
   wpAny (model X.prog X.w) X.A (call (.builtin id) (v :: us)) (EP X pins σ Q) X.xe s
section
variable {X:Cx}{a b:Expr}{ta tb:TE}{pos:Pos}
theorem kW.or {r r':R2} (h:kW X r) (h':kW X r'):kW X (fun x y H Q=>r x y H Q∨r' x y H Q):=by
 intro value slice pins s σ H x y v u Q I rx ry q hs
 rcases q with q | q
 ·exact h value slice pins s σ H x y v u Q I rx ry q hs
 ·exact h' value slice pins s σ H x y v u Q I rx ry q hs
theorem aU {r:R2} (hr:kW X r) (ha:PE X a ta) (hb:PE X b tb) (hs:yf b):PE X (.Subscript a b pos) (ql r ta tb):=by
 intro pins s σ H Q I h
 exact Subscript_ (xq ha hb I h fun v u s2 x y H2 I2 rx ry q=>hr a b pins s2 σ H2 x y v u Q I2 rx ry q (hs _ _))
inductive B7 (K:PySem.W.Frag) (x:V) (y:V) (H:Hp) (Q:VK):Prop
 | mk (p:_) (xs:_) (i:_) (v:_) (h0:x=.ref p) (h1:y=.int i) (h2:ao K H p xs) (h3:gJ xs i=some v) (h4:Q v H)
def wD (K:PySem.W.Frag):R2:=fun x y H Q=>B7 K x y H Q
inductive Cs (K:PySem.W.Frag) (x:V) (y:V) (H:Hp) (Q:VK):Prop
 | mk (p:_) (xs:_) (i:_) (v:_) (h0:x=.ref p) (h1:y=.int i) (h2:af K H p xs) (h3:gJ xs i=some v) (h4:Q v H)
def xb (K:PySem.W.Frag):R2:=fun x y H Q=>Cs K x y H Q
inductive BK (x:V) (y:V) (H:Hp) (Q:VK):Prop
 | mk (z:_) (i:_) (c:_) (h0:x=.str z) (h1:y=.int i) (h2:z.length≤sizeLine) (h3:gJ z.cps.toList i=some c) (h4:Q (.str ⟨#[c]⟩) H)
def AZ:R2:=fun x y H Q=>BK  x y H Q
theorem s0:kW X (wD X.K):=by
 intro value slice pins s σ H x y v u Q I rx ry h hs
 obtain ⟨p,xs,i,z,rfl,rfl,hq,he,q⟩:=h
 cases rx
 obtain ⟨t,rfl⟩:=ry
 obtain ⟨its,r,pl,hz⟩:=I.list hq
 obtain ⟨j,h1,h2,h3,h4,h5⟩:=pP he
 obtain ⟨w,ew,rw'⟩:=r.get h2
 have hl:=r.length
 have hn:=mQ
 have fin:EP X pins σ Q w s:=⟨z,H,I,rw',q⟩
 by_cases h0:0≤i
 ·have hj:i.toNat=j:=by
   rw [seqIndex_of h0 h5] at h1
   exact Option.some.inj h1
  exact item_listR pl.isList h0 (by trivial) (by rw [hj];simpa using ew) fin hs
 ·have hj:(i+(its.toArray.size:Int)).toNat=j:=by
   rw [seqIndex_neg (by trivial) h4] at h1
   rw [List.size_toArray,←hl]
   exact Option.some.inj h1
  exact subscriptTail_builtinR (x:=w) pl.isList.typeIs slot_list_getitem.lookup
   (wpAny_getItem_list_neg (Q:=fun r s'=>r=w∧EP X pins σ Q r s') pl.isList (by trivial) (by rw [List.size_toArray] <;> trivial) (by trivial) (by rw [hj];simpa using ew) ⟨rfl,fin⟩) hs
theorem vV:kW X (xb X.K):=by
 intro value slice pins s σ H x y v u Q I rx ry h hs
 obtain ⟨p,xs,i,z,rfl,rfl,hq,he,q⟩:=h
 cases rx
 obtain ⟨t,rfl⟩:=ry
 obtain ⟨its,r,pl,hz⟩:=I.tuple hq
 obtain ⟨j,h1,h2,h3,h4,h5⟩:=pP he
 obtain ⟨w,ew,rw'⟩:=r.get h2
 have hl:=r.length
 have hn:=mQ
 have fin:EP X pins σ Q w s:=⟨z,H,I,rw',q⟩
 exact subscriptTail_builtinR (x:=w) pl.typeIs slot_tuple_getitem.lookup
  (getItem_tuple (j:=j) (Q:=fun r s'=>r=w∧EP X pins σ Q r s') pl (by trivial) (by trivial) (by rw [List.size_toArray,←hl];exact h1) (by simpa using ew) ⟨rfl,fin⟩) hs
theorem oS:kW X AZ:=by
 intro value slice pins s σ H x y v u Q I rx ry h hs
 obtain ⟨z,i,c,rfl,rfl,hz,he,q⟩:=h
 obtain ⟨t,rfl⟩:=rx
 obtain ⟨t',rfl⟩:=ry
 obtain ⟨j,h1,h2,h3,h4,h5⟩:=pP he
 have hl:z.cps.toList.length=z.length:=by simp [Str.length]
 rw [hl] at h1 h4 h5
 have hn:=mQ
 exact tail_any (typeIs_str s z t) slot_str_getitem.lookup (getItem_str (c:=c) (by
  have e1:decide (i < -(2 ^ 63:Int))=false:=decide_eq_false (by trivial)
  have e2:decide (i≥2 ^ 63)=false:=decide_eq_false (by trivial)
  rw [e1,e2,Bool.or_false]) (by rw [h1];simpa using h2) ⟨.str ⟨#[c]⟩,H,I.tok _,⟨()⟩,q⟩) hs
def CF (K:PySem.W.Frag):R2:=fun x y H Q=>wD K x y H Q∨xb K x y H Q∨AZ x y H Q
theorem hG:kW X (CF X.K):=s0.or (vV.or oS)
theorem ul (its:List Value) (n j:Nat) (u:Value):Obj.mapSeq (·.setIfInBounds j u) { cls:=.type "list",data:=.seq its.toArray n }={ cls:=.type "list",data:=.seq (its.set j u).toArray n }:=by
 simp [Obj.mapSeq]
theorem ac.lst {pins:List (Addr×Obj)}{σ:St}{H:Hp}{s:Shared}{p:Addr}{xs:List V} (I:ac X pins σ H s) (h:H p=some (.lst xs)) :
 bn fun (its:List Value) (n:Nat)=>aq xs its∧s.heap.get? p=some { cls:=.type "list",data:=.seq its.toArray n }∧xs.length≤sizeLine:=by
 obtain ⟨z,its,n,r,e⟩:=I.hok p _ h
 exact ⟨its,n,r,e,z⟩
theorem ac.lstUpd {pins:List (Addr×Obj)}{σ:St}{H:Hp}{s:Shared}{p:Addr}{xs ys:List V}{its its':List Value}{n n':Nat}{f:Obj→Obj} (I:ac X pins σ H s) (h:H p=some (.lst xs))
 (ho:s.heap.get? p=some { cls:=.type "list",data:=.seq its.toArray n }) (hf:f { cls:=.type "list",data:=.seq its.toArray n }={ cls:=.type "list",data:=.seq its'.toArray n' }) (r:aq ys its') (hz:ys.length≤sizeLine) (t:Nat) :
 ac X pins σ (aI H p (.lst ys)) { s with heap:=s.heap.update p f,toks:=t }:=by
 have e:(s.heap.update p f).get? p=some { cls:=.type "list",data:=.seq its'.toArray n' }:=by
  rw [Heap.get?_update_self f ho (by rw [hf] <;> rfl),hf]
 refine I.write (x:=p) (e:=p) (by rw [h];trivial) (.inl rfl) (fun b u hb q=>(Heap.get?_update_other _ _ (Ne.symm hb)).trans q) ⟨_,e⟩ ?_
 exact ⟨hz,its',n',r,e⟩
inductive zH (o:V) (i:V) (v:V) (H:Hp) (Q:(Hp→Prop)):Prop
 | mk (p:_) (xs:_) (k:_) (j:_) (h0:o=.ref p) (h1:i=.int k) (h2:H p=some (.lst xs)) (h3:kg xs.length k=some j) (h4:Q (aI H p (.lst (xs.set j v))))
def Cf:V→V→V→Hp→(Hp→Prop)→Prop:=fun o i v H Q=>zH  o i v H Q
theorem oj:uO X Cf:=by
 intro pins s σ H o i v ov iv u Q I ro ri rv h
 obtain ⟨p,xs,k,j,rfl,rfl,hp,hj,q⟩:=h
 cases ro
 obtain ⟨t,rfl⟩:=ri
 obtain ⟨its,n,r,ho,hz⟩:=I.lst hp
 obtain ⟨h1,h2,h3,h4⟩:=tO hj
 have hl:=r.length
 have hn:=mQ
 have I':ac X pins σ (aI H p (.lst (xs.set j v))) { s with heap:=s.heap.update p (Obj.mapSeq (·.setIfInBounds j u)) }:=
  I.lstUpd hp ho (ul its n j u) (r.set rv j) (by rw [List.length_set];exact hz) s.toks
 by_cases h0:0≤k
 ·have hk:k.toNat=j:=by
   rw [seqIndex_of h0 h4] at h1
   exact Option.some.inj h1
  exact PySem.W.ki_setAt ho h0 (by trivial) (by rw [List.size_toArray,←hl];exact h4) (by rw [hk];exact ⟨_,I',q⟩)
 ·have hk:(k+(its.toArray.size:Int)).toNat=j:=by
   rw [seqIndex_neg (by trivial) h3] at h1
   rw [List.size_toArray,←hl]
   exact Option.some.inj h1
  exact PySem.W.ki_setBack ho (by trivial) (by rw [List.size_toArray,←hl];exact h3) (by trivial) (by rw [hk];exact ⟨_,I',q⟩)
theorem rN (lo hi:Option Int) (n:Nat):(sliceBounds lo hi none n).1=((HT.sIx n 0 lo:Nat):Int)∧(sliceBounds lo hi none n).2.1=((HT.sIx n n hi:Nat):Int)∧(sliceBounds lo hi none n).2.2=1:=by
 refine ⟨?_,?_,rfl⟩
 ·cases lo with
  | none=>simp [sliceBounds,HT.sIx]
  | some i=>
   simp only [sliceBounds,HT.sIx,Option.getD_none,show (1:Int) > 0 by decide,if_true]
   by_cases h:i<0
   ·simp only [h,if_true] <;> trivial
   ·simp only [h,if_false] <;> trivial
 ·cases hi with
  | none=>simp [sliceBounds,HT.sIx]
  | some i=>
   simp only [sliceBounds,HT.sIx,Option.getD_none,show (1:Int) > 0 by decide,if_true]
   by_cases h:i<0
   ·simp only [h,if_true] <;> trivial
   ·simp only [h,if_false] <;> trivial
theorem qV (its:List Value) (lo hi:Option Int):slicePick its.toArray lo hi none=((its.drop (HT.sIx its.length 0 lo)).take (HT.sIx its.length its.length hi - HT.sIx its.length 0 lo)).toArray:=by
 obtain ⟨h1,h2,h3⟩:=rN lo hi its.toArray.size
 unfold slicePick
 rw [h1,h2,h3]
 simp only [sliceRange_one,pick_run,List.size_toArray] <;> rfl
inductive BC (K:PySem.W.Frag) (x:V) (lo:Option Int) (hi:Option Int) (H:Hp) (Q:VK):Prop
 | mk (a:_) (xs:_) (h0:x=.ref a) (h1:ao K H a xs) (h2:∀p,H p=none→Q (.ref p) (aI H p (.lst (fj xs lo hi))))
def De (K:PySem.W.Frag):V→Option Int→Option Int→Hp→VK→Prop:=fun x lo hi H Q=>BC K x lo hi H Q
theorem yD:wg X (De X.K):=by
 intro pins s σ H x v vl vu lo hi sl Q I rx hs pl pu h
 obtain ⟨a,xs,rfl,hx,q⟩:=h
 cases rx
 obtain ⟨its,r,ht,hz⟩:=I.list hx
 have hlen:=r.length
 refine ⟨"list",_,slot_list_getitem.lookup,ht.isList.typeIs,?_⟩
 refine wpAny_getItem_list_slice ht.isList hs pl pu .none (by simp) ?_ (by rw [List.size_toArray] <;> trivial)
 rw [qV,←hlen]
 refine ⟨.ref s.heap.objs.size,_,I.laid (t':=s.toks) (o:=.lst (fj xs lo hi)) (fun b ob q=>Heap.get?_push_of_some _ q) (Nat.le_refl _) ?_,rfl,q _ (I.hok.fresh (Nat.le_refl _))⟩
 exact ⟨Nat.le_trans (dw xs lo hi) hz,_,0,(r.drop (HT.sIx xs.length 0 lo)).take (HT.sIx xs.length xs.length hi - HT.sIx xs.length 0 lo),Heap.get?_push_size _ rfl⟩
def iJ:V→Bool
 | .non=>true
 | .bl _=>true
 | .int _=>true
 | .str _=>true
 | _=>false
def qt:V→V→Bool
 | .non,.non=>true
 | .bl a,.bl b=>a==b
 | .bl a,.int b=>(if a then 1 else 0)==b
 | .int a,.bl b=>a==(if b then 1 else 0)
 | .int a,.int b=>a==b
 | .str a,.str b=>a==b
 | _,_=>false
theorem A8 {A:Around}{s:Shared}{y x:V}{u v:Value} (ry:aM y u) (rx:aM x v) (fy:iJ y=true) (fx:iJ x=true):SeqAt.EqAt A s u v (qt y x):=by
 cases y with
 | non=>
  cases ry
  cases x with
  | non=>cases rx;exact SeqAt.EqAt.same _
  | bl b=>cases rx;exact SeqAt.EqAt.none_bool b
  | int b=>obtain ⟨t,rfl⟩:=rx;exact SeqAt.EqAt.none_int b t
  | str b=>obtain ⟨t,rfl⟩:=rx;exact SeqAt.EqAt.none_str b t
  | _=>exact absurd (show false=true from fx) Bool.false_ne_true
 | bl a=>
  cases ry
  cases x with
  | non=>cases rx;exact SeqAt.EqAt.bool_none a
  | bl b=>cases rx;exact SeqAt.EqAt.bool_bool a b
  | int b=>obtain ⟨t,rfl⟩:=rx;exact SeqAt.EqAt.bool_int a b t
  | str b=>obtain ⟨t,rfl⟩:=rx;exact SeqAt.EqAt.bool_str a b t
  | _=>exact absurd (show false=true from fx) Bool.false_ne_true
 | int a=>
  obtain ⟨t',rfl⟩:=ry
  cases x with
  | non=>cases rx;exact SeqAt.EqAt.int_none a t'
  | bl b=>cases rx;exact SeqAt.EqAt.int_bool a t' b
  | int b=>obtain ⟨t,rfl⟩:=rx;exact SeqAt.EqAt.int_int a t' b t
  | str b=>obtain ⟨t,rfl⟩:=rx;exact SeqAt.EqAt.int_str a t' b t
  | _=>exact absurd (show false=true from fx) Bool.false_ne_true
 | str a=>
  obtain ⟨t',rfl⟩:=ry
  cases x with
  | non=>cases rx;exact SeqAt.EqAt.str_none a t'
  | bl b=>cases rx;exact SeqAt.EqAt.str_bool a t' b
  | int b=>obtain ⟨t,rfl⟩:=rx;exact SeqAt.EqAt.str_int a t' b t
  | str b=>obtain ⟨t,rfl⟩:=rx;exact SeqAt.EqAt.str_str a t' b t
  | _=>exact absurd (show false=true from fx) Bool.false_ne_true
 | _=>exact absurd (show false=true from fy) Bool.false_ne_true
def jP (x:V) (u:Value):Bool:=match u with
 | .none=>qt .non x
 | .bool b=>qt (.bl b) x
 | .int i _=>qt (.int i) x
 | .str z _=>qt (.str z) x
 | _=>false
theorem vm {x y:V}{u:Value} (r:aM y u) (f:iJ y=true):jP x u=qt y x:=by
 cases y with
 | non=>cases r;rfl
 | bl b=>cases r;rfl
 | int i=>obtain ⟨t,rfl⟩:=r;rfl
 | str z=>obtain ⟨t,rfl⟩:=r;rfl
 | _=>exact absurd (show false=true from f) Bool.false_ne_true
theorem lh {x:V}:∀{xs:List V}{us:List Value},aq xs us→xs.all iJ=true→us.any (jP x)=xs.any fun y=>qt y x
 | _,_,.nil,_=>rfl
 | y :: xs,u :: us,.cons r t,f=>by
  rw [List.all_cons,Bool.and_eq_true] at f
  rw [List.any_cons,List.any_cons,vm r f.1,lh t f.2]
theorem kc {A:Around}{s:Shared}{x:V}{v:Value} (rx:aM x v) (fx:iJ x=true):∀{xs:List V}{us:List Value},aq xs us→xs.all iJ=true→∀u∈us,SeqAt.EqAt A s u v (jP x u)
 | _,_,.nil,_=>fun u hu=>by cases hu
 | y :: xs,u :: us,.cons r t,f=>fun u' hu=>by
  rw [List.all_cons,Bool.and_eq_true] at f
  rcases List.mem_cons.mp hu with rfl | hu
  ·rw [vm r f.1];exact A8 r rx f.1 fx
  ·exact kc rx fx t f.2 u' hu
def qd (x:V) (xs:List V):Bool:=xs.any fun y=>qt y x
inductive Dd (K:PySem.W.Frag) (neg:Bool) (x:V) (y:V) (H:Hp) (Q:VK):Prop
 | mk (p:_) (xs:_) (h0:y=.ref p) (h1:(ao K H p xs∨af K H p xs)) (h2:iJ x=true) (h3:xs.all iJ=true) (h4:Q (.bl (if neg then !qd x xs else qd x xs)) H)
def sf (K:PySem.W.Frag) (neg:Bool):R2:=fun x y H Q=>Dd K neg x y H Q
theorem vM:cr X (compareOp .In) (sf X.K false):=by
 intro pins s σ H x y v u Q I rx ry h
 obtain ⟨p,xs,rfl,hq,fx,fs,q⟩:=h
 cases ry
 rcases hq with hq | hq
 ·obtain ⟨its,r,pl,hz⟩:=I.list hq
  refine SeqAt.in_listAt (jP x) pl.isList (fun w hw=>kc rx fx r fs w (by simpa using hw)) ⟨.bl _,H,I,rfl,?_⟩
  rw [show its.toArray.any (jP x)=its.any (jP x) by simp,lh r fs]
  exact q
 ·obtain ⟨its,r,pl,hz⟩:=I.tuple hq
  refine SeqAt.in_tupleAt (jP x) pl (fun w hw=>kc rx fx r fs w (by simpa using hw)) ⟨.bl _,H,I,rfl,?_⟩
  rw [show its.toArray.any (jP x)=its.any (jP x) by simp,lh r fs]
  exact q
theorem rQ:cr X (compareOp .NotIn) (sf X.K true):=by
 intro pins s σ H x y v u Q I rx ry h
 obtain ⟨p,xs,rfl,hq,fx,fs,q⟩:=h
 cases ry
 rcases hq with hq | hq
 ·obtain ⟨its,r,pl,hz⟩:=I.list hq
  refine SeqAt.notIn_listAt (jP x) pl.isList (fun w hw=>kc rx fx r fs w (by simpa using hw)) ⟨.bl _,H,I,rfl,?_⟩
  rw [show its.toArray.any (jP x)=its.any (jP x) by simp,lh r fs]
  exact q
 ·obtain ⟨its,r,pl,hz⟩:=I.tuple hq
  refine SeqAt.notIn_tupleAt (jP x) pl (fun w hw=>kc rx fx r fs w (by simpa using hw)) ⟨.bl _,H,I,rfl,?_⟩
  rw [show its.toArray.any (jP x)=its.any (jP x) by simp,lh r fs]
  exact q
theorem mi:cz X (.builtin "len") (fun xs H Q=>bn fun p ys=>xs=[.ref p]∧(ao X.K H p ys∨af X.K H p ys)∧Q (.int ys.length) H):=by
 intro pins s σ H xs us Q I r h
 obtain ⟨p,ys,rfl,hq,q⟩:=h
 obtain ⟨u,rfl,rx⟩:=nt r
 cases rx
 have hn:=mQ
 rcases hq with hq | hq
 ·obtain ⟨its,r',pl,hz⟩:=I.list hq
  have hlen:=r'.length
  exact Calls.call_len_list pl.isList (by simp only [List.size_toArray] <;> trivial) ⟨.int ys.length,H,I.tok _,⟨s.toks+1,by rw [List.size_toArray,hlen]⟩,q⟩
 ·obtain ⟨its,r',pl,hz⟩:=I.tuple hq
  have hlen:=r'.length
  exact len_tuple pl (by simp only [List.size_toArray] <;> trivial) ⟨.int ys.length,H,I.tok _,⟨s.toks+1,by rw [List.size_toArray,hlen]⟩,q⟩
theorem rE:cz X (.type "list") (fun xs H Q=>bn fun p ys=>xs=[.ref p]∧(ao X.K H p ys∨af X.K H p ys)∧∀l,H l=none→Q (.ref l) (aI H l (.lst ys))):=by
 intro pins s σ H xs us Q I r h
 obtain ⟨p,ys,rfl,hq,q⟩:=h
 obtain ⟨u,rfl,rx⟩:=nt r
 cases rx
 have fin:∀(its:List Value),aq ys its→ys.length≤sizeLine→∀(h':Heap) (c':Nat),(∀b o',s.heap.get? b=some o'→h'.get? b=some o')→
  h'.get? s.heap.objs.size=some { cls:=.type "list",dict:=none,data:=.seq its.toArray c',slots:=#[] }→EP X pins σ Q (.ref s.heap.objs.size) { s with heap:=h' }:=fun its r' hz h' c' kp e=>
  ⟨.ref s.heap.objs.size,_,I.laid (t':=s.toks) kp (Nat.le_refl _) (show be X.prog X.w _ h' _ (.lst ys) from ⟨hz,its,c',r',e⟩),rfl,q _ (I.hok.fresh (Nat.le_refl _))⟩
 rcases hq with hq | hq
 ·obtain ⟨its,r',pl,hz⟩:=I.list hq
  have hlen:=r'.length
  obtain ⟨o,ho,hc,n,hd⟩:=pl.isList
  exact call_list_seq p (.inl rfl) ho hc hd (fun h' c' kp e=>fin its r' hz h' c' kp e) (by simp only [List.size_toArray] <;> trivial)
 ·obtain ⟨its,r',pl,hz⟩:=I.tuple hq
  have hlen:=r'.length
  obtain ⟨o,ho,hc,n,hd⟩:=pl
  exact call_list_seq p (.inr rfl) ho hc hd (fun h' c' kp e=>fin its r' hz h' c' kp e) (by simp only [List.size_toArray] <;> trivial)
theorem qJ:cz X (.type "tuple") (fun xs H Q=>bn fun p ys=>xs=[.ref p]∧((ao X.K H p ys∧∀l,H l=none→Q (.ref l) (aI H l (.tup ys)))∨(af X.K H p ys∧Q (.ref p) H))):=by
 intro pins s σ H xs us Q I r h
 obtain ⟨p,ys,rfl,h⟩:=h
 obtain ⟨u,rfl,rx⟩:=nt r
 cases rx
 rcases h with ⟨hq,q⟩ | ⟨hq,q⟩
 ·obtain ⟨its,r',pl,hz⟩:=I.list hq
  have hlen:=r'.length
  refine call_tuple_list pl.isList (fun h' kp=>?_) (by simp only [List.size_toArray] <;> trivial)
  have I1:ac X pins σ H { s with heap:=h' }:=I.kept (t':=s.toks) kp
  have I2:ac X pins σ (aI H h'.objs.size (.tup ys)) { s with heap:=h'.push { cls:=.type "tuple",data:=.seq its.toArray } }:=
   I1.laid (t':=s.toks) (fun b o e=>Heap.get?_push_of_some _ e) (Nat.le_refl _) (show be X.prog X.w _ _ _ (.tup ys) from ⟨hz,its,r',IsTup.new _ _,_,Heap.get?_push_size _ rfl,rfl⟩)
  exact ⟨.ref h'.objs.size,_,I2,rfl,q _ (I1.hok.fresh (Nat.le_refl _))⟩
 ·obtain ⟨its,r',pl,hz⟩:=I.tuple hq
  exact call_tuple_same pl ⟨.ref p,H,I,rfl,q⟩
def zX (K:PySem.W.Frag) (T:String) (x:V) (H:Hp):Prop:=match x with
 | .str _=>T = "str"
 | .int _=>T = "int"
 | .ref p=>(T = "list"∧∃xs,ao K H p xs)∨(T = "tuple"∧∃o,K.lookup p=some o∧o.cls=.type "tuple"∧o.dict=none)∨
  (T = "dict"∧((∃kvs,H p=some (.dK kvs))∨∃kvs,H p=some (.dT kvs)))∨(T = "set"∧bn fun S n=>H p=some (.set S n))
 | _=>False
theorem wc {pins:List (Addr×Obj)}{σ:St}{H:Hp}{s:Shared}{T:String}{x:V}{v:Value} (I:ac X pins σ H s) (r:aM x v) (ty:zX X.K T x H) :
 s.TypeIs v T∧∀a,v=.ref a→∃ob,s.heap.get? a=some ob∧ob.dict=none:=by
 cases x with
 | str z=>
  obtain ⟨t,rfl⟩:=r
  cases (show T = "str" from ty)
  exact ⟨typeIs_str s z t,fun _ e=>nomatch e⟩
 | int i=>
  obtain ⟨t,rfl⟩:=r
  cases (show T = "int" from ty)
  exact ⟨typeIs_int s i t,fun _ e=>nomatch e⟩
 | ref p=>
  cases r
  rcases ty with ⟨rfl,xs,hq⟩ | ⟨rfl,o,hk,hc,hd⟩ | ⟨rfl,hk⟩ | ⟨rfl,S,n,hk⟩
  ·obtain ⟨its,_,pl,_⟩:=I.list hq
   refine ⟨pl.isList.typeIs,fun a e=>?_⟩
   cases e
   obtain ⟨o,n,e,c,hd,_⟩:=pl
   exact ⟨o,e,hd⟩
  ·refine ⟨⟨o,I.kIn p o hk,hc⟩,fun a e=>?_⟩
   cases e
   exact ⟨o,I.kIn _ o hk,hd⟩
  ·have z:∃o,s.heap.get? p=some o∧o.ExactDict:=by
    rcases hk with ⟨kvs,hk⟩ | ⟨kvs,hk⟩
    ·obtain ⟨_,_,_,_,o,_,_,e,ex,_⟩:=I.hok p _ hk
     exact ⟨o,e,ex⟩
    ·obtain ⟨_,_,_,_,o,_,_,e,ex,_⟩:=I.hok p _ hk
     exact ⟨o,e,ex⟩
   obtain ⟨o,e,ex⟩:=z
   refine ⟨⟨o,e,ex.1⟩,fun a e2=>?_⟩
   cases e2
   exact ⟨o,e,ex.2.1⟩
  ·obtain ⟨o,_,_,_,e,ex,_⟩:=I.hok p _ hk
   refine ⟨⟨o,e,ex.1⟩,fun a e2=>?_⟩
   cases e2
   exact ⟨o,e,ex.2.1⟩
 | _=>exact False.elim ty
def Dk (K:PySem.W.Frag) (T:String) (r:V→List V→Hp→VK→Prop) (to:TE):TE:=fun σ H Q=>to σ H fun x H1=>zX K T x H1∧r x [] H1 Q
def CB (K:PySem.W.Frag) (T:String) (r:V→List V→Hp→VK→Prop) (to:TE) (t:TA):TE:=fun σ H Q=>to σ H fun x H1=>zX K T x H1∧t σ H1 fun xs H2=>r x xs H2 Q
variable {o e:Expr}{es:List Expr}{to:TE}{t:TA}{name:Str}{apos cpos:Pos}{T id:String}{r:V→List V→Hp→VK→Prop}
theorem uZ (pa:PlainAttrs T) (slot:Slot T name id) (hty:typeOf (.builtin id)=pure (.type "method_descriptor")) (hm:rR X id r) (ho:PE X o to)
 (hbase:attributeBase o name X.env (eval o X.env)=eval o X.env:=by rfl) (hline:(apos.endLine==cpos.line)=true:=by rfl):PE X (.Call (.Attribute o name apos) [] [] cpos) (Dk X.K T r to):=by
 intro pins s σ H Q I h
 refine wpAny_Call_method0_late hbase hline (aF (ho pins s σ H _ I h) fun v s1 ⟨x,H1,I1,r1,ty,q1⟩=>?_)
 obtain ⟨h1,h2⟩:=wc I1 r1 ty
 exact ⟨T,id,pa,slot,hty,h1,h2,Calls.callWith_builtin rfl (PySem.evalArgs_none (hm pins s1 σ H1 x [] v [] Q I1 r1 .nil q1))⟩
theorem Cr (pa:PlainAttrs T) (slot:Slot T name id) (hty:typeOf (.builtin id)=pure (.type "method_descriptor")) (hm:rR X id r) (ho:PE X o to) (ha:PA X (e :: es) t)
 (hbase:attributeBase o name X.env (eval o X.env)=eval o X.env:=by rfl)
 (hfew:((backTo cpos (starEach (e :: es) X.env)).all (fun x=>!x.1) && (backToKw cpos (keywordEach [] X.env)).all (fun x=>x.1.isSome)
  && decide ((e :: es).length+([]:List Keyword).length+(if ([]:List Keyword).isEmpty then 0 else 1)<30))=true:=by rfl)
 (hline:(apos.endLine==cpos.line)=true:=by rfl) (hs:starEach (e :: es) X.env=(false,eval e X.env) :: starEach es X.env:=by rfl) (hplain:(backTo cpos (starEach es X.env)).any (·.1)=false:=by rfl) :
 PE X (.Call (.Attribute o name apos) (e :: es) [] cpos) (CB X.K T r to t):=by
 intro pins s σ H Q I h
 refine wpAny_Call_method_late hbase hfew hline rfl (aF (ho pins s σ H _ I h) fun v s1 ⟨x,H1,I1,r1,ty,q1⟩=>?_)
 obtain ⟨h1,h2⟩:=wc I1 r1 ty
 refine ⟨T,id,pa,slot,hty,h1,h2,?_⟩
 have hA:=ha cpos pins s1 σ H1 _ I1 q1
 rw [hs] at hA ⊢
 refine Calls.callWith_builtin (by show (false || (backTo cpos (starEach es X.env)).any (·.1))=false;rw [hplain] <;> rfl) (Calls.evalArgs_plain ?_)
 exact aF hA fun us s2 ⟨vs,H2,I2,r2,q2⟩=>hm pins s2 σ H2 x vs v us Q I2 r1 r2 q2
/- xs.append(e), list.index on a module's tuple .. are rR facts of 06m -/
end
end L2
namespace L2
open PySem PySem.Spec PyProof.Rows
def tm (X:Cx) (id:String) (r:V→List V→Hp→VK→Prop):Prop:=
 ∀(pins:List (Addr×Obj)) (s:Shared) (σ:St) (H:Hp) (x:V) (xs:List V) (v:Value) (us:List Value) (Q:VK),ac X pins σ H s→aM x v→aq xs us→r x xs H Q→
   wpAny (model X.prog X.w) X.A (call (.builtin id) (v :: us)) (EP X pins σ Q) X.xe s
theorem Paired.un {α β:Type}{R:α→β→Prop}{x:α}{xs:List α}{us:List β} (h:Paired R (x :: xs) us):bn fun u vs=>us=u :: vs∧R x u∧Paired R xs vs:=by
 cases h with
 | cons r q=>exact ⟨_,_,rfl,r,q⟩
theorem Paired.un0 {α β:Type}{R:α→β→Prop}{us:List β} (h:Paired R [] us):us=[]:=by
 cases h with
 | nil=>rfl
theorem aq.one {x:V}{us:List Value} (h:aq [x] us):∃u,us=[u]∧aM x u:=by
 obtain ⟨u,vs,rfl,r,q⟩:=Paired.un h
 rw [Paired.un0 q]
 exact ⟨u,rfl,r⟩
theorem aq.two {x y:V}{us:List Value} (h:aq [x,y] us):bn fun u v=>us=[u,v]∧aM x u∧aM y v:=by
 obtain ⟨u,vs,rfl,r,q⟩:=Paired.un h
 obtain ⟨v,rfl,q2⟩:=aq.one q
 exact ⟨u,v,rfl,r,q2⟩
theorem aq.zero:∀{us:List Value},aq [] us→us=[]
 | _,.nil=>rfl
theorem aq.dropLast {xs:List V}{us:List Value} (h:aq xs us):aq xs.dropLast us.dropLast:=by
 induction h with
 | nil=>exact .nil
 | cons r t ih=>
  cases t with
  | nil=>exact .nil
  | cons q t'=>exact .cons r ih
theorem aq.eraseIdx:∀{xs:List V}{us:List Value} (i:Nat),aq xs us→aq (xs.eraseIdx i) (us.eraseIdx i)
 | _,_,_,.nil=>.nil
 | _,_,0,.cons _ t=>t
 | _,_,i+1,.cons r t=>.cons r (aq.eraseIdx i t)
theorem uH {α:Type} (l:List α):l.eraseIdx (l.length - 1)=l.dropLast:=by
 induction l with
 | nil=>rfl
 | cons a r ih=>
  cases r with
  | nil=>rfl
  | cons b r=>
   have e:(a :: b :: r).length - 1=((b :: r).length - 1)+1:=by
    have h1:(a :: b :: r).length=r.length+2:=rfl
    have h2:(b :: r).length=r.length+1:=rfl
    trivial
   rw [e,List.eraseIdx_cons_succ,ih]
   all_goals rfl
theorem qA {α:Type}:∀(l:List α) (i:Nat),(l.eraseIdx i).length≤l.length
 | [],_=>Nat.le_refl _
 | _ :: _,0=>Nat.le_succ _
 | _ :: r,i+1=>Nat.succ_le_succ (qA r i)
section
variable {X:Cx}{pins:List (Addr×Obj)}{σ:St}{H:Hp}{s:Shared}{l b:Addr}{xs ys zs:List V}
theorem ac.lset {its its':List Value}{n:Nat}{f:Array Value→Array Value}{t':Nat} (I:ac X pins σ H s) (hH:H l=some (.lst xs))
 (e:s.heap.get? l=some { cls:=.type "list",data:=.seq its.toArray n }) (hf:f its.toArray=its'.toArray) (hv:aq ys its') (hz:ys.length≤sizeLine) :
 ac X pins σ (aI H l (.lst ys)) { s with heap:=s.heap.update l (Obj.mapSeq f),toks:=t' }:=by
 have q:=PySem.IsL.update e f
 rw [hf] at q
 refine I.write (x:=l) (e:=l) (by rw [hH];exact trivial) (.inl rfl) (fun b' u hb hu=>(Heap.get?_update_other s.heap (Obj.mapSeq f) (Ne.symm hb)).trans hu) ⟨_,q⟩ ?_
 exact ⟨hz,its',_,hv,q⟩
theorem ac.lnew {its:List Value}{t':Nat} (I:ac X pins σ H s) (hv:aq ys its) (hz:ys.length≤sizeLine) :
 ac X pins σ (aI H s.heap.objs.size (.lst ys)) { s with heap:=s.heap.push { cls:=.type "list",data:=.seq its.toArray },toks:=t' }:=
 I.laid (fun _ _ q=>Heap.get?_push_of_some _ q) (Nat.le_refl _) ⟨hz,its,0,hv,Heap.get?_push_size _ rfl⟩
theorem ac.fresh (I:ac X pins σ H s):H s.heap.objs.size=none:=I.hok.fresh (Nat.le_refl _)
theorem ac.lstM (I:ac X pins σ H s) (hH:H l=some (.lst xs)):xs.length≤sizeLine∧bn fun (its:List Value) (n:Nat)=>aq xs its∧xs.length=its.length∧s.heap.get? l=some { cls:=.type "list",data:=.seq its.toArray n }:=by
 obtain ⟨z,its,n,r,e⟩:=I.hok l _ hH
 exact ⟨z,its,n,r,r.length,e⟩
end
section
variable {X:Cx}
inductive xo (x:V) (vs:List V) (H:Hp) (Q:VK):Prop
 | mk (l:_) (xs:_) (y:_) (h0:x=.ref l) (h1:vs=[y]) (h2:H l=some (.lst xs)) (h3:xs.length<sizeLine) (h4:Q .non (aI H l (.lst (xs++[y]))))
def yn:V→List V→Hp→VK→Prop:=fun x vs H Q=>xo  x vs H Q
theorem qf:tm X "list.append" yn:=by
 intro pins s σ H x vs v us Q I rx rv h
 obtain ⟨l,xs,y,rfl,rfl,hH,hz,q⟩:=h
 cases rx
 obtain ⟨u,rfl,ru⟩:=rv.one
 obtain ⟨z,its,n,r,hl,e⟩:=I.lstM hH
 refine call_meets F.slot_list_append ⟨_,e,rfl⟩ F.entry_list_append (F.args_list_append_2 _ _) (PySem.list_append l its.toArray n u (by rw [List.size_toArray];trivial)) ⟨e,?_⟩
 refine ⟨.non,_,I.lset (its':=its++[u]) hH e (by simp) (r.append (.cons ru .nil)) ?_,rfl,q⟩
 rw [List.length_append,List.length_singleton]
 trivial
inductive Bv (x:V) (vs:List V) (H:Hp) (Q:VK):Prop
 | mk (l:_) (xs:_) (y:_) (h0:x=.ref l) (h1:vs=[]) (h2:H l=some (.lst xs)) (h3:xs[xs.length - 1]?=some y) (h4:Q y (aI H l (.lst xs.dropLast)))
def CO:V→List V→Hp→VK→Prop:=fun x vs H Q=>Bv  x vs H Q
theorem Bm:tm X "list.pop" CO:=by
 intro pins s σ H x vs v us Q I rx rv h
 obtain ⟨l,xs,y,rfl,rfl,hH,hy,q⟩:=h
 cases rx
 have hus:=rv.zero
 subst hus
 obtain ⟨z,its,n,r,hl,e⟩:=I.lstM hH
 obtain ⟨u,hu,ru⟩:=r.get hy
 have hy':its.toArray[its.toArray.size - 1]?=some u:=by
  show its.toArray[its.length - 1]?=some u
  rw [←Array.getElem?_toList,←hl]
  exact hu
 refine call_meets F.slot_list_pop ⟨_,e,rfl⟩ F.entry_list_pop (F.args_list_pop_1 _) (MeetsSeq.list_pop_last l its.toArray n u hy' (by rw [List.size_toArray];trivial)) ⟨e,?_⟩
 refine ⟨y,_,I.lset (its':=its.dropLast) hH e ?_ r.dropLast ?_,ru,q⟩
 ·show its.toArray.eraseIdxIfInBounds (its.toArray.size - 1)=its.dropLast.toArray
  rw [List.size_toArray,List.eraseIdxIfInBounds_toArray,uH]
 ·rw [List.length_dropLast]
  trivial
inductive BB (x:V) (y:V) (H:Hp) (Q:VK):Prop
 | mk (l:_) (b:_) (xs:_) (zs:_) (h0:x=.ref l) (h1:y=.ref b) (h2:H l=some (.lst xs)) (h3:H b=some (.lst zs)) (h4:xs.length+zs.length≤sizeLine) (h5:∀p,H p=none→Q (.ref p) (aI H p (.lst (xs++zs))))
def CM:R2:=fun x y H Q=>BB  x y H Q
theorem zQ:cr X (binaryOp .Add) CM:=by
 intro pins s σ H x y v u Q I rx ry h
 obtain ⟨l,b,xs,zs,rfl,rfl,hH,hB,hz,q⟩:=h
 cases rx
 cases ry
 obtain ⟨z,its,n,r,hl,e⟩:=I.lstM hH
 obtain ⟨z2,its2,n2,r2,hl2,e2⟩:=I.lstM hB
 refine PySem.P.add_list e e2 ?_ (by rw [List.size_toArray,List.size_toArray];trivial)
 have ea:its.toArray++its2.toArray=(its++its2).toArray:=by simp
 rw [ea]
 exact ⟨.ref _,_,I.lnew (t':=s.toks) (r.append r2) (by rw [List.length_append];trivial),rfl,q _ I.fresh⟩
theorem y8 {α:Type} (xs:List α) (k:Nat):(List.replicate k xs).flatten.length=k*xs.length:=by
 induction k with
 | zero=>simp
 | succ k ih=>rw [List.replicate_succ,List.flatten_cons,List.length_append,ih,Nat.succ_mul,Nat.add_comm]
end
section
variable {prog:Program}{w:World}{A:Around}{E:Value→Shared→Prop}{s:Shared}
set_option maxRecDepth 100000 in
end
section
variable {X:Cx}
end
end L2
namespace Att
open PySem PySem.W PySem.Calls PyProof.Rows
theorem oQ {P:Params}{h:Heap}:∀(ns:List Int) (vs:List Value),WellAll P h vs (ns.map WData.int)→IntsAre vs ns:=by
 intro ns
 induction ns with
 | nil=>
  intro vs w
  rw [List.map_nil] at w
  cases w
  exact .nil
 | cons n ns ih=>
  intro vs w
  rw [List.map_cons] at w
  cases w with
  | cons a b=>
   cases a
   exact .cons _ _ (ih _ b)
theorem vW {l:OpenLaw}{n:Nat} (hn:l.most=some n) {P:Params}{h:Heap}{args:List WData}{vals:List Value}
 (hpre:l.row.toRowW.claim.pre args=true) (hwl:WellAll P h vals args) :
 ∃a vs ns,vals=[Value.ref a]∧args=[WData.list (ns.map WData.int)]∧h.get? a=some { cls:=.type "list",data:=.seq vs.toArray }∧IntsAre vs ns∧ns.length≤n:=by
 have hsh:WShape.hasAll [] args [.list .int]=true:=(pre_splitW hpre).1
 have hc:l.pre.holds [] { args:=args }=true:=(pre_splitW hpre).2
 obtain ⟨d,r,rfl,h1,h2⟩:=hasAllW_cons hsh
 obtain rfl:=hasAllW_nil h2
 obtain ⟨xs,rfl,h3⟩:=hasW_list h1
 obtain ⟨ns,rfl⟩:=items_int h3
 have hlen:ns.length≤n:=by
  unfold OpenLaw.pre at hc
  have h4:(WTm.not (.lt (.lit (.int (n:Int))) (.len (.arg 0)))).holds [] { args:=[.list (ns.map .int)] }=true:=by
   have h4:=(holds_andW hc).1
   rw [hn] at h4
   exact h4
  have h5:=condW_of h4 (w_not (w_lt w_lit (w_len_list (w_arg rfl))))
  rw [List.length_map] at h5
  refine Nat.le_of_not_lt fun q=>?_
  have q':(n:Int)<((ns.length:Nat):Int):=by trivial
  first
   | (rw [decide_eq_true q'] at h5;exact absurd h5 (by decide))
   | (simp at h5;trivial)
 cases hwl with
 | cons w1 w2=>
  cases w2
  cases w1 with
  | list ho hall=>exact ⟨_,_,ns,rfl,rfl,ho,oQ ns _ hall,hlen⟩
theorem vk (l:OpenLaw) (args:List WData):l.row.toRowW.claim.post args (.bool true) args=true:=
 postW_of (r:=l.row.toRowW) (X:=(true==true))
  (show WShape.has [] (.bool true) .bool=true by first | rfl | decide | simp [WShape.has,WShape.arms,WShape.armsAll])
  (show (WTm.eq .res (.lit (.bool true))).value [] { args:=args,res:=some (.bool true),after:=args }=some (.bool (true==true)) from w_eq_bool (w_res rfl) w_lit) rfl
theorem attach_call {l:OpenLaw}{n:Nat}{q:Program}{loose:List Str}{XP:(Str→Option Value)→Heap→Prop}{YP:World→Heap→Prop}{d:DefRec}
 (hn:l.most=some n) (hdf:d.params.defaults=[])
 (call:∀(w:World) (s₀ s₁:Shared) (mg mb:Str→Option Value) (fa:Addr) (o:Obj) (pm cd doc:Value) (a:Addr) (vs:List Value) (ns:List Int),
  Ground q loose [] XP w s₀ mg mb s₁.heap→YP w s₁.heap→
  s₁.heap.get? fa=some o→o.data=.func (docDef d.name d.params d.body d.scope pm cd doc)→s₁.heap.CodeRec cd d.name→mg d.name=some (.ref fa)→
  s₁.heap.get? a=some { cls:=.type "list",data:=.seq vs.toArray }→IntsAre vs ns→ns.length≤n→s₁.gens=#[]→
  codeAny (model l.prog w) callerA (.call (.ref fa) ⟨[.ref a],[]⟩) (fun r s'=>r=.ok (.ret (.bool true))∧OldK s₁.heap s'.heap∧s'.os=s₁.os∧AllBare s'.gens) s₁) :
 WalkO q loose XP YP l.row.toRowW d [] (fun f vs=>PySem.call f vs):=by
 intro w s₀ s₁ mg mb G Y fa o pm cd doc dV kV ho hd hcd hD hmg hg args vals as hpre hlay hrd hwl hlo
 obtain rfl:dV=.none:=Dflts.none hD hdf
 obtain rfl:kV=.none:=Dflts.noKw hD
 obtain ⟨a,vs,ns,rfl,rfl,hobj,hints,hlen⟩:=vW hn hpre hwl
 refine enter_call (codeAny_mono (call w s₀ s₁ mg mb fa o pm cd doc a vs ns G Y ho (fd_plain hd) hcd hmg hobj hints hlen hg) fun r s' hq=>?_)
 obtain ⟨rfl,h2,h3,h4⟩:=hq
 exact ⟨.inl ⟨.bool true,.bool true,[],rfl,fun _=>rfl,.bool true,vk l _,fun _=>⟨List.Pairwise.nil,fun _ hm=>(nomatch hm)⟩⟩,h2,h3,h4⟩
section
variable {prog:Program}{w:World}{A:Around}{E:Value→Shared→Prop}{s:Shared}{K:Frag}
end
end Att
namespace L2
open PySem PySem.Spec PyProof.Rows
theorem qp:∀{vs:List Value}{ns:List Int},IntsAre vs ns→aq (ns.map V.int) vs
 | _,_,.nil=>.nil
 | _,_,.cons n t h=>.cons ⟨t,rfl⟩ (qp h)
def pE (H:Hp):Prop:=∀b,H b=none∨bn fun o xs=>H b=some (.frz o (.lst xs))
theorem xE {P:Program}{w:World}{K:PySem.W.Frag}{mg mb:Str→Option Value}{CX:ij}{k:Nat}{fa a:Addr}{fd:FuncData}{x:Str}{sp:Sp}{s₁:Shared}{vs:List Value}{ns:List Int}
 (KX:K.In s₁.heap) (hns:s₁.heap.Ns mainGlobals mg) (hb:s₁.heap.Ns builtinsNs mb) (hbb:∀x:Str,x≠"__name__"→mb x=bootBuiltins x) (hlim:s₁.heap.NoLimit) (hg:s₁.gens=#[])
 (ha:s₁.heap.get? a=some { cls:=.type "list",data:=.seq vs.toArray }) (hi:IntsAre vs ns) (hl:ns.length≤sizeLine) (hr:bP k callerA)
 (F:∀base:Heap,K.In base→base.Ns mainGlobals mg→aT P w K mg base CX k fa fd [x] sp) (hbind:∀(s:Shared) (u:Value),BindsTo s fd ⟨[u],[]⟩ [(x,u)])
 (hsp:∀H:Hp,pE H→ao K H a (ns.map V.int)→sp [.ref a] H (fun v _=>v=.bl true) fun _ _ _=>False)
 (hCX:∀H e s',CX [] H s₁ (fun _ _ _=>False) e s'→False) :
 codeAny (model P w) callerA (.call (.ref fa) ⟨[.ref a],[]⟩) (fun r s'=>r=.ok (.ret (.bool true))∧OldK s₁.heap s'.heap∧s'.os=s₁.os∧AllBare s'.gens) s₁:=by
 have rv:=qp hi
 have lenV:=hi.length
 have core:∀H:Hp,pE H→ao K H a (ns.map V.int)→cE P w H s₁.heap→(∀b,H b≠none→b=a)→(H a≠none→K.lookup a=none)→
  codeAny (model P w) callerA (.call (.ref fa) ⟨[.ref a],[]⟩) (fun r s'=>r=.ok (.ret (.bool true))∧OldK s₁.heap s'.heap∧s'.os=s₁.os∧AllBare s'.gens) s₁:=by
  intro H hO hS hok hA hK
  have base_of:∀{b:Addr}{o:Obj},s₁.heap.get? b=some o→H b=none→(lC s₁.heap H).get? b=some o:=fun e n=>wB e n
  have noA:∀{b:Addr}{o:Obj}{es:Array DictEntry}{ep:Nat},s₁.heap.get? b=some o→o.data=.dict es ep→H b=none:=fun {b o es ep} e d=>by
   cases q:H b with
   | none=>rfl
   | some u=>
    have e':b=a:=hA b (by rw [q];simp)
    subst e'
    rw [ha] at e;cases e
    have d':Data.seq vs.toArray _=Data.dict es ep:=d
    cases d'
  have nsK:∀{b:Addr}{m:Str→Option Value},s₁.heap.Ns b m→(lC s₁.heap H).Ns b m:=fun {b m} ⟨o,es,ep,e,d,r⟩=>⟨o,es,ep,base_of e (noA e d),d,r⟩
  have hKb:K.In (lC s₁.heap H):=fun b o e=>base_of (KX b o e) (by
   cases q:H b with
   | none=>rfl
   | some u=>
    have e':b=a:=hA b (by rw [q];simp)
    subst e'
    rw [hK (by rw [q];simp)] at e;cases e)
  have hM:Mod K mg (lC s₁.heap H):=⟨hKb,nsK hns,⟨mb,nsK hb,hbb⟩,let ⟨mc,h1,h2⟩:=hlim;⟨mc,nsK h1,h2⟩⟩
  have e0:oi P w K mg (lC s₁.heap H) callerA [] s₁ H:=⟨rfl,hM,fun b o e=>yS e,Nat.le_of_eq (vf _ _),trivial,fun b hb=>absurd (show b∈([]:List Addr) from hb) (by simp),hok,.of_eq hg⟩
  refine codeAny_mono ((F _ hKb (nsK hns)).run callerA [] s₁ H ⟨[.ref a],[]⟩ [.ref a] [.ref a] _ _ hr e0 (hbind s₁ (.ref a)) (.cons rfl .nil) (hsp H hO hS)) fun r s' h=>?_
  cases r with
  | error e=>exact (hCX H e s' h).elim
  | ok fl=>
   cases fl with
   | next=>exact False.elim h
   | brk=>exact False.elim h
   | cont=>exact False.elim h
   | ret u=>
    obtain ⟨v,H',os,bare,un,hok',r',q⟩:=h
    have q':v=.bl true:=q
    subst q'
    obtain rfl:u=Value.bool true:=r'
    refine ⟨rfl,OldK.of_keep fun b o e=>?_,os,bare⟩
    cases q:H b with
    | none=>exact un.keep b o e q (by intro z;exact absurd (show b∈([]:List Addr) from z) (by simp)) (by simp)
    | some u=>
     rcases hO b with z | ⟨ob,xs,z⟩
     ·rw [q] at z;cases z
     ·have z2:=un.frzs b ob _ z
      obtain ⟨e1,_⟩:=hok b _ z
      obtain ⟨e2,_⟩:=hok' b _ z2
      rw [e] at e1;cases e1
      exact e2
 cases hk:K.lookup a with
 | some o=>
  have e:=KX a o hk
  rw [ha] at e
  cases e
  refine core (fun _=>none) (fun _=>.inl rfl) (.inr ⟨_,vs.toArray,_,hk,rfl,rfl,rfl,by rw [List.size_toArray,lenV];exact hl,by simpa using rv⟩) (fun b u z=>by have z':(none:Option HO)=some u:=z;cases z') (fun b z=>absurd rfl z) fun z=>absurd rfl z
 | none=>
  refine core (fun b=>if b=a then some (.frz { cls:=.type "list",data:=.seq vs.toArray } (.lst (ns.map V.int))) else none) (fun b=>?_) (.inl (.inr ⟨{ cls:=.type "list",data:=.seq vs.toArray },if_pos rfl⟩)) (fun b u z=>?_) (fun b z=>?_) fun _=>hk
  ·by_cases hb:b=a
   ·exact .inr ⟨_,_,if_pos hb⟩
   ·exact .inl (if_neg hb)
  ·by_cases hb:b=a
   ·have z':=(if_pos hb).symm.trans z
    cases z'
    subst hb
    exact ⟨ha,by rw [List.length_map];exact hl,vs,_,rv,ha⟩
   ·have z':=(if_neg hb).symm.trans z
    cases z'
  ·by_cases hb:b=a
   ·exact hb
   ·exact absurd (if_neg hb) z
theorem walk_of {l:PySem.W.OpenLaw}{n k:Nat}{q:Program}{loose:List Str}{XP:(Str→Option Value)→Heap→Prop}{YP:World→Heap→Prop}{d:DefRec}{K:Params→PySem.W.Frag}{CX:World→ij}{sp:World→Sp}{x:Str}
 (hn:l.most=some n) (hn2:n≤sizeLine) (hdf:d.params.defaults=[]) (hr:bP k callerA)
 (hY:∀(w:World) (h:Heap),YP w h→(K w.params).In h)
 (F:∀(w:World) (mg:Str→Option Value) (fa:Addr) (h:Heap),(K w.params).In h→h.Ns mainGlobals mg→mg d.name=some (.ref fa)→
  ∃fd:FuncData,(∀(s:Shared) (u:Value),BindsTo s fd ⟨[u],[]⟩ [(x,u)])∧
   ∀base:Heap,(K w.params).In base→base.Ns mainGlobals mg→aT l.prog w (K w.params) mg base (CX w) k fa fd [x] (sp w))
 (hsp:∀(w:World) (H:Hp) (a:Addr) (ns:List Int),ns.length≤n→pE H→ao (K w.params) H a (ns.map V.int)→sp w [.ref a] H (fun v _=>v=.bl true) fun _ _ _=>False)
 (hCX:∀(w:World) (H:Hp) (s:Shared) (e:Value) (s':Shared),CX w [] H s (fun _ _ _=>False) e s'→False) :
 PySem.W.WalkO q loose XP YP l.row.toRowW d [] (fun f vs=>PySem.call f vs):=by
 refine Att.attach_call hn hdf fun w s₀ s₁ mg mb fa o pm cd doc a vs ns G Y ho hd hcd hmg hobj hints hlen hg=>?_
 have KX:=hY w _ Y
 obtain ⟨fd,hb,hF⟩:=F w mg fa _ KX G.T.g hmg
 exact xE KX G.T.g G.T.b G.T.builtins G.T.nolimit hg hobj hints (Nat.le_trans hlen hn2) hr hF hb (fun H hO hS=>hsp w H a ns hlen hO hS) fun H e s'=>hCX w H s₁ e s'
theorem wU {l:PySem.W.OpenLaw}{n k:Nat}{q:Program}{loose:List Str}{XP:(Str→Option Value)→Heap→Prop}{YP:World→Heap→Prop}{d:DefRec}{K:Params→PySem.W.Frag}{CX:ij}{sp:PySem.W.Frag→Sp}{x:Str}
 (hn:l.most=some n) (hn2:n≤sizeLine) (hdf:d.params.defaults=[]) (hr:bP k callerA)
 (hY:∀(w:World) (h:Heap),YP w h→(K w.params).In h)
 (F:∀(w:World) (mg:Str→Option Value) (fa:Addr) (h:Heap),(K w.params).In h→h.Ns mainGlobals mg→mg d.name=some (.ref fa)→
  ∃fd:FuncData,(∀(s:Shared) (u:Value),BindsTo s fd ⟨[u],[]⟩ [(x,u)])∧
   ∀base:Heap,(K w.params).In base→base.Ns mainGlobals mg→aT l.prog w (K w.params) mg base CX k fa fd [x] (sp (K w.params)))
 (hsp:∀(K:PySem.W.Frag) (H:Hp) (a:Addr) (ns:List Int),ns.length≤n→pE H→ao K H a (ns.map V.int)→sp K [.ref a] H (fun v _=>v=.bl true) fun _ _ _=>False)
 (hCX:∀(H:Hp) (s:Shared) (e:Value) (s':Shared),CX [] H s (fun _ _ _=>False) e s'→False) :
 PySem.W.WalkO q loose XP YP l.row.toRowW d [] (fun f vs=>PySem.call f vs):=
 walk_of (K:=K) (CX:=fun _=>CX) (sp:=fun w=>sp (K w.params)) hn hn2 hdf hr hY F (fun w H a ns h1 h2 h3=>hsp (K w.params) H a ns h1 h2 h3) fun _ H s e s'=>hCX H s e s'
end L2
/- THE LAST THEOREM (shape; LID, My.* are yours):
 My.Adr: a structure of the addresses that your layer names (classes, functions); My.Txt K t: a structure (Prop) of the equations over K;
 My.txt_mk : {K} {implicit addresses ..} (e1 : nsIn K mainGlobals "law" = some (some (.ref f))) (e2 : K.lookup f = some ⟨oc, od, .func (fnOf "law" "law" params body scope dV kV doc pm an cdv ct), sl⟩) (e3 : codeIn K cdv "law" = true) .. : ∃ t, My.Txt K t
set_option maxRecDepth 100000 in
set_option maxHeartbeats 0 in
theorem PySem.Challenge.cw_LID_holds : PySem.Challenge.rw_LID.Holds := by
 w_on; o_law; k_head; (case hw => w_witness2)
 k_fill
 refine L2.walk_of (l := PySem.Challenge.rw_LID) (n := 63) (k := 40) (x := "script") (CX := fun w => ..) (sp := fun _ => My.sp_law) rfl (by decide) rfl ⟨rfl, by decide, by decide⟩ (fun w h Y => PySem.W.kIn_of Y) ?F ?S ?C
 case F =>
  intro w mg fa h KX G hmg
  have T : ∃ t, My.Txt (L2.KOf KX) t := by
   dsimp only [L2.KOf]                          -- K must stand as «<heap const> w.params» for k_is
   refine' My.txt_mk ?e1 ?e2 ?e3 ..
   (case e1 => PySem.W.k_is)                    -- in the order: a name -> its address -> its object -> its parts
   (case e2 => PySem.W.k_is)
   ..
  obtain ⟨t, T⟩ := T
  have e0 := hmg.symm.trans (PySem.W.mg_of KX G T.law)
  cases e0                                       -- fa is the law's own address
  exact ⟨_, fun s u => .of_eq rfl, fun base kb nb => My.law_fn T kb nb⟩     -- if «.of_eq rfl» comes too early: refine' ⟨_, ?b, fun base kb nb => My.law_fn T kb nb⟩; exact fun s u => .of_eq rfl
 case S => exact fun w H a ns hl hO hS => ..
 case C => exact ..
(the tactic k_is has no namespace: write k_is) -/
namespace L2
open PySem PySem.Spec PyProof.Rows
def pJ (s:Stmt):Arguments:=match s with
 | .FunctionDef _ a _ _ _ _ _ _ _ _=>a
 | _=>{ posonlyargs:=[],args:=[],vararg:=none,kwonlyargs:=[],kw_defaults:=[],kwarg:=none,defaults:=[] }
def kX (s:Stmt):List Stmt:=match s with
 | .FunctionDef _ _ b _ _ _ _ _ _ _=>b
 | _=>[]
def ah (s:Stmt):Scope:=match s with
 | .FunctionDef _ _ _ _ _ _ sc _ _ _=>sc
 | _=>{ kind:=.function,names:=[],isGenerator:=false,isCoroutine:=false }
abbrev CX0:ij:=fun _ _ _ _ _ _=>False
abbrev E0:XK:=fun _ _ _=>False
theorem iI {X:Cx}:fm CX0 X E0:=fun _ _ _ _ _ _ _ h=>h.elim
structure dN (K:PySem.W.Frag) (x qual:Str) (st:Stmt) (f:Addr) (fd:FuncData):Prop where
 ex:DD fun (oc:Value) (od:Option Addr) (kV doc pm:Value) (an:Option Addr) (cdv ct:Value) (osl:Array (Option Value))=>
  fd=PySem.W.fnOf x qual (pJ st) (kX st) (ah st) .none kV doc pm an cdv ct∧K.lookup f=some ⟨oc,od,.func fd,osl⟩∧PySem.W.codeIn K cdv qual=true
 kp:PySem.W.keepIn K (.ref f)=true
section
variable {P:Program}{w:World}{K:PySem.W.Frag}{mg:Str→Option Value}{base:Heap}
theorem dN.ok {x qual:Str}{st:Stmt}{f:Addr}{fd:FuncData}{N ps:List Str}{k:Nat}{sp:Sp} (F:dN K x qual st f fd) (S:ay N ps (ah st)) (len:∀vs H Q E,sp vs H Q E→vs.length=ps.length)
 (hbody:∀(cdv:Value) (A:Around) (outer:List Env) (s:Shared) (H:Hp) (vs:List V) (Q:VK) (E:XK),bP k (A.deeper (envOfC qual (ah st) s.heap.objs.size f cdv))→sp vs H Q E→
  ∃t,hZ (lN CX0 P w K mg base N qual (ah st) f cdv A outer s H E).nox (kX st) t∧t { nx:=fun _ H'=>Q .non H',rt:=Q } (jr N vs) H):aT P w K mg base CX0 (k+1) f fd ps sp:=by
 obtain ⟨oc,od,kV,doc,pm,an,cdv,ct,osl,rfl,lk,hcd⟩:=F.ex
 refine xT lk hcd S len fun A outer s H vs Q E hr hsp=>?_
 obtain ⟨t,h,q⟩:=hbody cdv A outer s H vs Q E hr hsp
 exact ⟨t,h.nox,q⟩
theorem dN.binds {x qual:Str}{st:Stmt}{f:Addr}{fd:FuncData}{ps:List Str} (F:dN K x qual st f fd)
 (h:∀(kV doc pm:Value) (an:Option Addr) (cdv ct:Value) (us:List Value),us.length=ps.length→bindArgs (PySem.W.fnOf x qual (pJ st) (kX st) (ah st) .none kV doc pm an cdv ct) ⟨us,[]⟩=pure (ps.zip us)):bq K fd ps []:=by
 obtain ⟨oc,od,kV,doc,pm,an,cdv,ct,osl,rfl,lk,hcd⟩:=F.ex
 exact .all (h kV doc pm an cdv ct)
end
section
variable {X:Cx}
theorem pv (i:Nat) {x:Str}{pos:Pos} (hN:X.N[i]?=some x:=by rfl) (hv:wj X.env.scope x:=by first | exact Or.inl rfl | exact Or.inr (Or.inl rfl) | exact Or.inr (Or.inr rfl)) (hd:(x==("__debug__" : Str))=false:=by decide)
 (hcd:(x==("__classdict__" : Str))=false:=by decide):PE X (.Name x pos) (oA i):=vc hN hv hd hcd
end
theorem aO {A B:Prop} (h:B):if false=true then A else B:=by
 rw [if_neg Bool.false_ne_true]
 exact h
theorem aY {A B:Prop} (h:A):if true=true then A else B:=by
 rw [if_pos rfl]
 exact h
theorem eQ {c A B:Prop} [Decidable c] (h1:c→A) (h2:¬c→B):if c then A else B:=by
 by_cases h:c
 ·rw [if_pos h]
  exact h1 h
 ·rw [if_neg h]
  exact h2 h
def aj (H H':Hp):Prop:=∀b o,H b=some o→H' b=some o
theorem aj.refl (H:Hp):aj H H:=fun _ _ h=>h
theorem aj.trans {H H1 H2:Hp} (a:aj H H1) (b:aj H1 H2):aj H H2:=fun c o h=>b c o (a c o h)
theorem aj.free {H H':Hp} (e:aj H H') {l:Addr} (h:H' l=Option.none):H l=Option.none:=by
 cases q:H l with
 | none=>rfl
 | some o=>
  rw [e l o q] at h
  cases h
theorem aj.seq {K:PySem.W.Frag}{H H':Hp}{a:Addr}{xs:List V} (e:aj H H') (h:ao K H a xs):ao K H' a xs:=by
 rcases h with (h | ⟨o,h⟩) | h
 ·exact .inl (.inl (e _ _ h))
 ·exact .inl (.inr ⟨o,e _ _ h⟩)
 ·exact .inr h
end L2
namespace L2
open PySem
theorem tI {scope:Scope}{env:Env} (h:∀y∈scope.names,y.2=.free→∃c,env.cells.lookup y.1=some c) :
 ∃cl,closureFor scope env=pure cl∧(∀x c,cl.lookup x=some c→env.cells.lookup x=some c)∧(∀y∈scope.names,y.2=.free→∃c,cl.lookup y.1=some c):=by
 have go:∀(names:List (Str×NameKind)) (acc:List (Str×Addr)),(∀y∈names,y.2=.free→∃c,env.cells.lookup y.1=some c)→(∀x c,acc.lookup x=some c→env.cells.lookup x=some c)→
  ∃cl,(forIn names acc (fun (x:Str×NameKind) (cs:List (Str×Addr))=>match x with
   | (name,kind)=>if (kind==.free)=true then (do let a ←cellOf env name;pure (ForInStep.yield ((name,a) :: cs))) else pure (ForInStep.yield cs)):Sem (List (Str×Addr)))=pure cl∧
   (∀x c,cl.lookup x=some c→env.cells.lookup x=some c)∧(∀y∈names,y.2=.free→∃c,cl.lookup y.1=some c)∧(∀x c,acc.lookup x=some c→∃c',cl.lookup x=some c'):=by
  intro names
  induction names with
  | nil=>intro acc _ ha;exact ⟨acc,rfl,ha,fun y hy=>(by cases hy),fun x c e=>⟨c,e⟩⟩
  | cons x r ih=>
   intro acc hn ha
   obtain ⟨name,kind⟩:=x
   rw [List.forIn_cons]
   by_cases hk:kind=.free
   ·subst hk
    obtain ⟨c,hc⟩:=hn (name,.free) List.mem_cons_self rfl
    have e:cellOf env name=pure c:=by unfold cellOf;rw [hc]
    obtain ⟨cl,e1,e2,e3,e4⟩:=ih ((name,c) :: acc) (fun y hy=>hn y (List.mem_cons_of_mem _ hy)) (fun x c' hx=>by
     rw [List.lookup_cons] at hx
     split at hx
     ·rename_i hb
      have:x=name:=by simpa using hb
      subst this
      cases hx;exact hc
     ·exact ha x c' hx)
    refine ⟨cl,?_,e2,fun y hy hf=>?_,fun x c' hx=>?_⟩
    ·simp only [beq_self_eq_true,if_true]
     rw [e,pure_bind,pure_bind]
     exact e1
    ·rcases List.mem_cons.mp hy with rfl | hy
     ·exact e4 name c (by simp)
     ·exact e3 y hy hf
    ·by_cases hb:(x==name)=true
     ·have:x=name:=by simpa using hb
      subst this
      exact e4 x c (by simp)
     ·exact e4 x c' (by rw [List.lookup_cons];simp only [Bool.not_eq_true] at hb;rw [hb];exact hx)
   ·have hb:(kind==NameKind.free)=false:=by simpa using hk
    obtain ⟨cl,e1,e2,e3,e4⟩:=ih acc (fun y hy=>hn y (List.mem_cons_of_mem _ hy)) ha
    refine ⟨cl,?_,e2,fun y hy hf=>?_,e4⟩
    ·simp only [hb,Bool.false_eq_true,if_false]
     rw [pure_bind]
     exact e1
    ·rcases List.mem_cons.mp hy with rfl | hy
     ·exact absurd hf hk
     ·exact e3 y hy hf
 obtain ⟨cl,e1,e2,e3,_⟩:=go scope.names [] h (fun x c e=>by simp at e)
 refine ⟨cl,?_,e2,e3⟩
 unfold closureFor
 show (forIn scope.names _ _ >>= fun cs=>pure cs)=_
 rw [bind_pure]
 exact e1
section
variable {prog:Program}{w:World}{A:Around}{R:Result→Shared→Prop}{s:Shared}
theorem sI {elt target iter:Expr}{ifs:List Expr}{scope:Scope}{pos:Pos}{it acc:Value}{env:Env} (I:Nat→Shared→Prop)
 (turn:∀n s,I n s→wpAny (model prog w) A (pyNext it) (fun r s₁=>match r with
  | none=>R (.ok .next) s₁
  | some v=>wpAny (model prog w) A (letOwnedTupleGo target it v) (fun _ s₁'=>wpAny (model prog w) A (assign target env v) (fun _ s₂=>
   wpAny (model prog w) A (forIn ifs true fun c r=>if r=true then do let ok ←isTrue c env (eval c env);pure (ForInStep.yield ok) else pure (ForInStep.yield r)) (fun ok s₃=>
    if ok=true then wpAny (model prog w) A (eval elt env) (fun x s₄=>
     wpAny (model prog w) A (call (.builtin "list.append") [acc,x]) (fun _ s₅=>∃m,m<n∧I m s₅) (fun _ _=>False) s₄) (fun _ _=>False) s₃
    else ∃m,m<n∧I m s₃) (fun _ _=>False) s₂) (fun _ _=>False) s₁') (fun _ _=>False) s₁) (fun _ _=>False) s)
 (n:Nat) (h:I n s) :
 codeAny (model prog w) A (.compLoop (.ListComp elt [⟨target,iter,ifs,0⟩] scope pos) 0 it acc env) R s:=by
 refine codeAny_loop rfl I (fun n s hI=>?_) n h
 show wpAny _ A ((compTurn (.ListComp elt [⟨target,iter,ifs,0⟩] scope pos) 0 it acc env).onRaise (fun x=>do noteFrame x env;theTreesLotGoes x)) _ _ s
 refine wpAny_noted ?_
 rw [compTurn_list]
 refine wpAny_bind (wpAny_standAt (wpAny_bind (wpAny_mono (turn n s hI) (fun r s₁ h₁=>?_) fun _ _ h'=>h'.elim)))
 cases r with
 | none=>exact wpAny_pure h₁
 | some v=>
  refine wpAny_bind (wpAny_mono h₁ (fun _ s₁' h₁'=>?_) fun _ _ h'=>h'.elim)
  refine wpAny_bind (wpAny_mono h₁' (fun _ s₂ h₂=>wpAny_bind (wpAny_mono h₂ (fun ok s₃ h₃=>?_) fun _ _ h'=>h'.elim)) fun _ _ h'=>h'.elim)
  cases ok with
  | false=>exact wpAny_pure ⟨rfl,h₃⟩
  | true=>
   exact wpAny_bind (wpAny_bind (wpAny_mono h₃ (fun x s₄ h₄=>wpAny_bind (wpAny_mono h₄ (fun _ s₅ h₅=>wpAny_pure (wpAny_pure ⟨rfl,h₅⟩)) fun _ _ h'=>h'.elim)) fun _ _ h'=>h'.elim))
end
end L2
namespace L2
open PySem PySem.Spec PyProof.Rows
section
variable {X:Cx}
theorem sS:cz X (.builtin "isinstance") (fun xs H Q=>nZ fun x T t b=>xs=[x,.ty T]∧gz X.K H x t∧PySem.W.kitOne X.K t (.type T)=some b∧Q (.bl b) H):=by
 intro pins s σ H xs us Q I r h
 obtain ⟨x,T,t,b,rfl,ty,e,q⟩:=h
 obtain ⟨u,c,rfl,ru,rc⟩:=r.two
 obtain rfl:c=Value.type T:=rc
 exact u9 I ru ty e fun tk=>⟨.bl b,H,I.tok tk,rfl,q⟩
end
def sM (X:Cx) (scope:Scope) (cl:List (Str×Addr)) (C:Addr) (N':List Str) (s:Shared) (H:Hp) (ex:List Addr) (pn:List (Addr×Obj)):Cx:=
 { X with N:=N',s₀:=s,H₀:=H,env:=compEnvC scope cl C X.env,outer:=X.stack,ex:=ex,fn:=fun _=>false,pn:=pn,xe:=fun _ _=>False }
def lS (L:Nat) (src:List Nat) (σ:St):St:=List.replicate L none++src.map fun j=>(σ[j]?).join
def ku (σ σ':St):Prop:=σ'.length=σ.length∧∀(i:Nat) v,σ[i]?=some (some v)→σ'[i]?=some (some v)
theorem rd {x:V}{r:St}:ku (none :: r) (some x :: r):=⟨rfl,fun i v e=>by
 cases i with
 | zero=>simp at e
 | succ i=>simpa using e⟩
theorem o7 {x y:V}{r:St}:ku (none :: none :: r) (some x :: some y :: r):=⟨rfl,fun i v e=>by
 cases i with
 | zero=>simp at e
 | succ i=>
  cases i with
  | zero=>simp at e
  | succ i=>simpa using e⟩
def sN (X:Cx) (ifs:List Expr) (t:TT):Prop:=
 ∀(pins:List (Addr×Obj)) (s:Shared) (σ:St) (H:Hp) (Q:Bool→Hp→Prop),ac X pins σ H s→t σ H Q→
   wpAny (model X.prog X.w) X.A (forIn ifs true fun c r=>if r=true then do let ok ←isTrue c X.env (eval c X.env);pure (ForInStep.yield ok) else pure (ForInStep.yield r)) (TP X pins σ Q) X.xe s
def tT:TT:=fun _ H Q=>Q true H
theorem iD {X:Cx}:sN X [] tT:=fun _ _ _ H _ I h=>wpAny_pure ⟨H,I,h⟩
def nz (J:It) (σc:St) (g:TG) (tt:TT) (te:TE) (D:Addr) (H1:Hp) (Q:VK):Prop:=
 ∃W:Nat→Nat→Hp→List V→Prop,(∃m,W 0 m (aI H1 D (.lst [])) [])∧∀i m H ys,W i m H ys→H D=some (.lst ys)∧
  ((J.stop i H∧Q (.ref D) H)∨(J.go i H∧ys.length<sizeLine∧∃N:Hp→List V→Prop,(∀H' ys',N H' ys'→∃m',m'<m∧W (i+1) m' H' ys')∧
    ∀x H',J.yld i H x H'→g x σc H' fun σ2 H2=>ku σc σ2∧tt σ2 H2 fun b H3=>if b=true then te σ2 H3 fun y H4=>H4 D=some (.lst ys)∧N (aI H4 D (.lst (ys++[y]))) (ys++[y]) else N H3 ys))
def uI (wi:TI) (L:Nat) (src:List Nat) (g:TG) (tt:TT) (te:TE):TE:=fun σ H Q=>wi σ H fun J H1=>∀D,H1 D=none→nz J (lS L src σ) g tt te D H1 Q
section
variable {X:Cx}{elt tg iter:Expr}{ifs:List Expr}{scope:Scope}{pos:Pos}{N':List Str}{L:Nat}{src:List Nat}{wi:TI}{g:TG}{tt:TT}{te:TE}
end
theorem vC {J:It}{n:Nat}{H1:Hp}{D:Addr}{σc:St}{g:TG}{tt:TT}{te:TE}{Q:VK} (Pv:Nat→Hp→List V→Prop) (hz:n≤sizeLine) (h0:Pv 0 (aI H1 D (.lst [])) [])
 (hD:∀i H ys,Pv i H ys→H D=some (.lst ys)∧ys.length≤i)
 (hgo:∀i H ys,i<n→Pv i H ys→J.go i H) (hst:∀H ys,Pv n H ys→J.stop n H)
 (hs:∀i H ys x H',i<n→Pv i H ys→J.yld i H x H'→g x σc H' fun σ2 H2=>ku σc σ2∧tt σ2 H2 fun b H3=>if b=true then te σ2 H3 fun y H4=>H4 D=some (.lst ys)∧Pv (i+1) (aI H4 D (.lst (ys++[y]))) (ys++[y]) else Pv (i+1) H3 ys)
 (hd:∀H ys,Pv n H ys→Q (.ref D) H):nz J σc g tt te D H1 Q:=by
 refine ⟨fun i m H ys=>m=n - i∧i≤n∧Pv i H ys,⟨n,by simp,Nat.zero_le _,h0⟩,?_⟩
 rintro i m H ys ⟨rfl,hi,p⟩
 obtain ⟨q1,q2⟩:=hD i H ys p
 refine ⟨q1,?_⟩
 by_cases hlt:i<n
 ·exact .inr ⟨hgo i H ys hlt p,by trivial,Pv (i+1),fun H' ys' p'=>⟨n - (i+1),by trivial,rfl,hlt,p'⟩,fun x H' y=>hs i H ys x H' hlt p y⟩
 ·have e:i=n:=by trivial
  subst e
  exact .inl ⟨hst H ys p,hd H ys p⟩
theorem gO {J:It}{n:Nat}{H1:Hp}{D:Addr}{σc:St}{g:TG}{te:TE}{Q:VK} (Pv:Nat→Hp→List V→Prop) (hz:n≤sizeLine) (h0:Pv 0 (aI H1 D (.lst [])) [])
 (hD:∀i H ys,Pv i H ys→H D=some (.lst ys)∧ys.length≤i)
 (hgo:∀i H ys,i<n→Pv i H ys→J.go i H) (hst:∀H ys,Pv n H ys→J.stop n H)
 (hs:∀i H ys x H',i<n→Pv i H ys→J.yld i H x H'→g x σc H' fun σ2 H2=>ku σc σ2∧te σ2 H2 fun y H4=>H4 D=some (.lst ys)∧Pv (i+1) (aI H4 D (.lst (ys++[y]))) (ys++[y]))
 (hd:∀H ys,Pv n H ys→Q (.ref D) H):nz J σc g tT te D H1 Q:=by
 refine vC Pv hz h0 hD hgo hst (fun i H ys x H' hi p y=>?_) hd
 have e:=hs i H ys x H' hi p y
 have q:(fun (σ2:St) (H2:Hp)=>ku σc σ2∧tT σ2 H2 fun b H3=>if b=true then te σ2 H3 fun y H4=>H4 D=some (.lst ys)∧Pv (i+1) (aI H4 D (.lst (ys++[y]))) (ys++[y]) else Pv (i+1) H3 ys) =
  (fun σ2 H2=>ku σc σ2∧te σ2 H2 fun y H4=>H4 D=some (.lst ys)∧Pv (i+1) (aI H4 D (.lst (ys++[y]))) (ys++[y])):=by
  funext σ2 H2
  unfold tT
  dsimp only
  rw [if_pos rfl]
 rw [q]
 exact e
section
variable {X:Cx}{pins:List (Addr×Obj)}{σ:St}{H:Hp}{s:Shared}{h':Heap}
theorem ac.turnedNew {t':Nat}{ch:List Addr}{T:Addr}{o:HO} (I:ac X pins σ H s) (hf:∀b∈ch,jW X pins H b) (k:∀b u,b∉ch→s.heap.get? b=some u→h'.get? b=some u)
 (hT:s.heap.objs.size≤T) (new:be X.prog X.w (aI H T o) h' T o):ac X pins σ (aI H T o) { s with heap:=h',toks:=t' }:=by
 have hn:H T=none:=I.hok.fresh hT
 refine I.step (g':=s.gens) (d':=s.drawn) (ch:=ch) (fun b hb=>?_) (fun b o _ _ hc e _=>k b o hc e) (fun b o _ _ hc e _=>⟨o.slots,k b o hc e⟩) (fun b o hc e n=>?_)
  (fun b o hc e=>⟨o,k b o hc e⟩) (fun b xs e=>?_) (fun b o u e=>?_) (fun b ps e=>?_) (fun m hm=>?_) (fun b u e=>?_) I.bare
 ·obtain ⟨f0,f1,f2,f3,f4,f5⟩:=hf b hb
  exact ⟨f3,f1,f4,f5⟩
 ·rw [ak (Nat.ne_of_lt (Nat.lt_of_lt_of_le (Heap.lt_size e) hT))];exact n
 ·rw [ak (aE e hn)];exact e
 ·rw [ak (aE e hn)];exact e
 ·exact ⟨#[],by rw [ak (aE e hn),e];simp⟩
 ·obtain ⟨o,es,ep,ho,r⟩:=hm
  exact ⟨o,es,ep,k _ o (fun z=>(hf _ z).2.1 rfl) ho,r⟩
 ·by_cases hb:b=T
  ·subst hb;rw [az] at e;cases e;exact new
  ·rw [ak hb] at e
   refine (I.hok b u e).stay (fun c v hc q=>k c v (fun z=>?_) q) (fun c q=>by rw [ak (aE q hn)];exact q) fun c xs q=>by rw [ak (aE q hn)];exact q
   have hcn:=(hf c z).1
   rcases hc with rfl | hc
   ·rw [e] at hcn;cases hcn
   ·rw [hc] at hcn;cases hcn
end
section
variable {X:Cx}
theorem uX {bs:List Bool}{us:List Value} (r:aq (bs.map V.bl) us) {i:Nat}{v:Value} (e:us[i]?=some v):∃b,bs[i]?=some b∧v=.bool b:=by
 have hl:=r.length
 rw [List.length_map] at hl
 have hi:i<us.length:=(List.getElem?_eq_some_iff.mp e).1
 have hb:bs[i]?=some bs[i]:=by simp [hl,hi]
 obtain ⟨u,h1,h2⟩:=r.get (i:=i) (x:=.bl bs[i]) (by rw [List.getElem?_map,hb];rfl)
 rw [e] at h1
 cases h1
 exact ⟨_,hb,h2⟩
theorem yW {s:Shared}{h':Heap}{o:Obj} (hk:∀b x,b∉[s.heap.objs.size]→(s.heap.push o).get? b=some x→h'.get? b=some x):∀b x,s.heap.get? b=some x→h'.get? b=some x:=
 fun b x e=>hk b x (fun hm=>by rw [List.mem_singleton.mp hm] at e;exact Nat.lt_irrefl _ (Heap.lt_size e)) (Heap.get?_push_of_some _ e)
theorem xC (hc:X.calm=true):cz X (.builtin "all") (fun xs H Q=>bn fun (l:Addr) (bs:List Bool)=>xs=[.ref l]∧ao X.K H l (bs.map V.bl)∧Q (.bl (bs.all id)) H):=by
 intro pins s σ H xs us Q I r h
 obtain ⟨l,bs,rfl,hq,q⟩:=h
 obtain ⟨u,rfl,ru⟩:=r.one
 obtain rfl:u=.ref l:=ru
 obtain ⟨its,rv,p,hz⟩:=I.list hq
 have hl:=p.isList
 have hlt:l<s.heap.objs.size:=by obtain ⟨_,e,_⟩:=hl;exact Heap.lt_size e
 refine call_all_walk (wpAny_pyIter_list hl ?_)
 refine ⟨s.heap.objs.size,[s.heap.objs.size,l],[s.heap.objs.size],its.toArray.size,_,_,fun i=>(bs[i]?).getD true,rfl,Walks.list (A:=X.A.in1) (I.ok.hd hc) _ l (Nat.ne_of_lt hlt) its.toArray,
  ⟨⟨_,Heap.get?_push_size _ rfl,rfl,rfl⟩,hl.push _⟩,fun i v s' Q' E' hP hQ=>?_,fun h' tk hk=>?_⟩
 ·obtain ⟨b,e,rfl⟩:=uX rv (i:=i) (v:=v) (by simpa using hP)
  simp only [e,Option.getD_some] at hQ
  exact wpAny_truthy_bool hQ
 ·have e:((List.range its.toArray.size).all fun i=>(bs[i]?).getD true)=bs.all id:=by
   rw [List.size_toArray,←rv.length,List.length_map];exact LSm.range_all bs
  rw [e]
  exact ⟨.bl _,H,I.kept (yW hk),rfl,q⟩
end
def CH (K:PySem.W.Frag) (a:Addr):It:=
 ⟨fun i H=>bn fun xs x=>ao K H a xs∧xs[i]?=some x,fun i H v H'=>bn fun T x=>H T=none∧v=.ref T∧H'=aI H T (.tup [.int (i:Int),x])∧∀xs,ao K H a xs→xs[i]?=some x,fun i H=>∃xs,ao K H a xs∧xs.length≤i⟩
theorem wb {P:Program}{w:World}{K:PySem.W.Frag}{es:List Expr}{kk:Nat}{pos:Pos} (a e it:Addr) (hne:e≠it) :
 oK P w K (.Tuple es kk pos) (CH K a) [e,it] e (fun i h=>(∃old,IsEnum h e it i old)∧h.IsListIter it a i) where
 mem:=by simp
 obj:=fun i h st b hb=>by
  obtain ⟨⟨old,he⟩,o,e1,c,d⟩:=st
  have hb':b=e∨b=it:=by simpa using hb
  rcases hb' with rfl | rfl
  ·exact ⟨_,he,fun v z=>by
    have z':Data.fields _=Data.cell v:=z
    cases z'⟩
  ·exact ⟨o,e1,fun v z=>by rw [d] at z;cases z⟩
 keep:=fun i h h' st k=>by
  obtain ⟨⟨old,he⟩,hi⟩:=st
  exact ⟨⟨old,k e (by simp) _ he⟩,hi.at fun o q=>k it (by simp) o q⟩
 item:=by
  intro X hP hw hK hc i pins s σ H E I hf st hg
  subst hP hw hK
  obtain ⟨⟨old,he⟩,hit⟩:=st
  obtain ⟨xs,x,hq,hx⟩:=hg
  obtain ⟨its,rv,p,hz⟩:=I.list hq
  obtain ⟨u,hu,ru⟩:=rv.get hx
  have hnT:H s.heap.objs.size=none:=I.fresh
  refine wpAny_pyNext_enum_item he hit p.isList (x:=u) (by simpa using hu) hne fun h' ho hit' hT hsz hk=>?_
  refine ⟨(),wpAny_letOwnedTupleGo_enum (s:={ s with heap:=h',toks:=s.toks+1 }) ho fun h'' he'' hs''=>?_⟩
  have helt:e<s.heap.objs.size:=Heap.lt_size he
  have hilt:it<s.heap.objs.size:=by obtain ⟨_,y,_⟩:=hit;exact Heap.lt_size y
  have hT'':h''.get? s.heap.objs.size=some { cls:=.type "tuple",data:=.seq #[.int i s.toks,u] }:=(hs''.2 _ (Nat.ne_of_gt helt)).trans hT
  refine ⟨.ref s.heap.objs.size,aI H s.heap.objs.size (.tup [.int (i:Int),x]),I.turnedNew (ch:=[e,it]) (t':=s.toks+1) hf (fun b o hb q=>?_) (Nat.le_refl _) ?_,rfl,⟨_,x,hnT,rfl,rfl,fun ys hy=>by rw [I.list_inj hy hq];exact hx⟩,⟨⟨u,?_⟩,hit'.extBut hs''.extBut (Ne.symm hne)⟩,fun b hb=>?_⟩
  ·have h1:b≠e:=fun z=>hb (by simp [z])
   have h2:b≠it:=fun z=>hb (by simp [z])
   exact (hs''.2 b h1).trans (hk b o h1 h2 q)
  ·exact ⟨by show 2≤sizeLine;decide,[.int i s.toks,u],.cons ⟨()⟩ (.cons ru .nil),⟨_,hT'',rfl,()⟩,_,hT'',rfl⟩
  ·simpa using he''
  ·have hb':b=e∨b=it:=by simpa using hb
   have hlt:b<s.heap.objs.size:=by rcases hb' with rfl | rfl <;> assumption
   rw [ak (Nat.ne_of_lt hlt)]
   exact (hf b hb).1
 done:=by
  intro X hP hw hK hc i pins s σ H E I hf st hg
  subst hP hw hK
  obtain ⟨⟨old,he⟩,hit⟩:=st
  obtain ⟨xs,hq,hx⟩:=hg
  obtain ⟨its,rv,p,hz⟩:=I.list hq
  obtain ⟨f0,f1,f2,f3,f4,f5⟩:=hf it (by simp)
  have hl:=rv.length
  exact wpAny_pyNext_enum_end (I.ok.hd hc) he hit p.isList (by simp;trivial) fun h' eb=>⟨rfl,I.turned (t':=s.toks) (fun b o hb e=>eb b o hb e) f0 f1 f3 f4 f5⟩
 self:=fun _ _ _ _ _ st h=>by
  obtain ⟨⟨old,he⟩,_⟩:=st
  exact wpAny_pyIter_enum he h
def By (K:PySem.W.Frag) (ta:TA):TI:=fun σ H R=>ta σ H fun vs H1=>∃a,vs=[.ref a]∧(∃xs,ao K H1 a xs)∧R (CH K a) H1
theorem zr {X:Cx}{es:List Expr}{kk:Nat}{tp:Pos}{a:Expr}{ta:TA}{p pos:Pos} (hg:Gl X "enumerate") (hm:X.mg "enumerate" = none) (ha:PA X [a] ta) (hs:starEach [a] X.env=[(false,eval a X.env)]:=by rfl) :
 PI X (.Tuple es kk tp) (.Call (.Name "enumerate" p) [a] [] pos) (By X.K ta):=by
 intro pins s σ H R I h
 refine Call_ (jC I hg hm boot_enumerate (PyProof.Rows.callWith_type1 (aF (ha pos pins s σ H _ I h) fun us s1 ⟨vs,H1,I1,r1,q1⟩=>?_) hs rfl))
 obtain ⟨a,rfl,⟨xs,hq⟩,q⟩:=q1
 obtain ⟨u,rfl,ru⟩:=r1.one
 obtain rfl:u=.ref a:=ru
 obtain ⟨its,rv,p,hz⟩:=I1.list hq
 refine call_enumerate_list p.isList fun h' hE hI hsz hk=>wpAny_pyIter_enum hE ?_
 have I2:ac X pins σ H1 { s1 with heap:=h',toks:=s1.toks }:=I1.kept hk
 refine ⟨s1.heap.objs.size+1,[s1.heap.objs.size+1,s1.heap.objs.size],_,_,H1,rfl,I2,wb a (s1.heap.objs.size+1) s1.heap.objs.size (Nat.succ_ne_self _),⟨⟨_,hE⟩,hI⟩,fun b hb=>?_,q⟩
 have hb':b=s1.heap.objs.size+1∨b=s1.heap.objs.size:=by simpa using hb
 have hle:s1.heap.objs.size≤b:=by rcases hb' with rfl | rfl <;> trivial
 exact I1.fpOk hle (I1.hok.fresh hle)
end L2
namespace L2
open PySem PySem.Spec PyProof.Rows
theorem bh:bootBuiltins "len" = some (.builtin "len"):=by nofun
theorem jq:bootBuiltins "abs" = some (.builtin "abs"):=by nofun
theorem uJ:bootBuiltins "max" = some (.builtin "max"):=by nofun
theorem o0:bootBuiltins "all" = some (.builtin "all"):=by nofun
theorem qR:bootBuiltins "divmod" = some (.builtin "divmod"):=by nofun
theorem aA:bootBuiltins "isinstance" = some (.builtin "isinstance"):=by nofun
theorem kG:bootBuiltins "int" = some (.type "int"):=by nofun
theorem mJ:bootBuiltins "bool" = some (.type "bool"):=by nofun
theorem kP:bootBuiltins "str" = some (.type "str"):=by nofun
theorem cM:bootBuiltins "list" = some (.type "list"):=by nofun
theorem db:bootBuiltins "tuple" = some (.type "tuple"):=by nofun
theorem fM {X:Cx}{x:Str}{T:String}{pos:Pos} (hg:Gl X x) (hm:X.mg x=none) (hv:bootBuiltins x=some (.type T)) (hn:x≠"__name__" := by decide) (hd:(x==("__debug__" : Str))=false:=by decide):PE X (.Name x pos) (tC (.ty T)):=
 yk (v:=.ty T) hg hm hv rfl hn hd
mutual
inductive aC (E:Addr→Prop) (H:Hp):V→PyData→Prop
 | non:aC E H .non .none
 | bl (b:Bool):aC E H (.bl b) (.bool b)
 | int (i:Int):aC E H (.int i) (.int i)
 | str (x:Str):aC E H (.str x) (.str x)
 | lst {a:Addr}{xs:List V}{ds:List PyData} (h:H a=some (.lst xs)) (ne:¬E a) (r:aw E H xs ds):aC E H (.ref a) (.list ds)
 | tup {a:Addr}{xs:List V}{ds:List PyData} (h:H a=some (.tup xs)) (r:aw E H xs ds):aC E H (.ref a) (.tuple ds)
inductive aw (E:Addr→Prop) (H:Hp):List V→List PyData→Prop
 | nil:aw E H [] []
 | cons {x:V}{xs:List V}{d:PyData}{ds:List PyData} (h:aC E H x d) (r:aw E H xs ds):aw E H (x :: xs) (d :: ds)
end
structure aD (E:Addr→Prop) (H H':Hp):Prop where
 old:∀a o,¬E a→H a=some o→H' a=some o
 tup:∀a xs,H a=some (.tup xs)→H' a=some (.tup xs)
mutual
theorem aC.mono {E:Addr→Prop}{H H':Hp} (k:aD E H H'):∀{v:V}{d:PyData},aC E H v d→aC E H' v d
 | _,_,.non=>.non
 | _,_,.bl b=>.bl b
 | _,_,.int i=>.int i
 | _,_,.str x=>.str x
 | _,_,.lst h ne r=>.lst (k.old _ _ ne h) ne (aw.mono k r)
 | _,_,.tup h r=>.tup (k.tup _ _ h) (aw.mono k r)
theorem aw.mono {E:Addr→Prop}{H H':Hp} (k:aD E H H'):∀{vs:List V}{ds:List PyData},aw E H vs ds→aw E H' vs ds
 | _,_,.nil=>.nil
 | _,_,.cons h r=>.cons (aC.mono k h) (aw.mono k r)
end
theorem aD.refl {E:Addr→Prop} (H:Hp):aD E H H:=⟨fun _ _ _ h=>h,fun _ _ h=>h⟩
theorem aD.trans {E:Addr→Prop}{H H1 H2:Hp} (a:aD E H H1) (b:aD E H1 H2):aD E H H2:=⟨fun c o n h=>b.old c o n (a.old c o n h),fun c xs h=>b.tup c xs (a.tup c xs h)⟩
theorem aj.toE {E:Addr→Prop}{H H':Hp} (a:aj H H'):aD E H H':=⟨fun c o _ h=>a c o h,fun c xs h=>a c _ h⟩
theorem aj.new {H:Hp}{p:Addr}{o:HO} (h:H p=none):aj H (aI H p o):=fun b u e=>by rw [ak (aE e h)];exact e
theorem aw.length {E:Addr→Prop}{H:Hp}:∀{vs:List V}{ds:List PyData},aw E H vs ds→vs.length=ds.length
 | _,_,.nil=>rfl
 | _,_,.cons _ r=>by simp [aw.length r]
theorem aw.get {E:Addr→Prop}{H:Hp}:∀{vs:List V}{ds:List PyData}{i:Nat}{v:V},aw E H vs ds→vs[i]?=some v→∃d,ds[i]?=some d∧aC E H v d
 | _,_,_,_,.nil,e=>by simp at e
 | _,_,0,_,.cons h _,e=>by simp at e;subst e;exact ⟨_,rfl,h⟩
 | _,_,i+1,v,.cons _ r,e=>by
  obtain ⟨d,h1,h2⟩:=aw.get (i:=i) (v:=v) r (by simpa using e)
  exact ⟨d,by simpa using h1,h2⟩
theorem aw.append {E:Addr→Prop}{H:Hp}:∀{vs ws:List V}{ds es:List PyData},aw E H vs ds→aw E H ws es→aw E H (vs++ws) (ds++es)
 | _,_,_,_,.nil,s=>s
 | _,_,_,_,.cons h r,s=>.cons h (aw.append r s)
mutual
theorem aC.reads {E:Addr→Prop}{P:Program}{w:World}{H:Hp}{h:Heap} (ok:cE P w H h):∀{v:V}{d:PyData},aC E H v d→∀{u:Value},aM v u→∃as,Reads h u d as
 | _,_,.non,u,r=>by obtain rfl:u=.none:=r;exact ⟨_,.none⟩
 | _,_,.bl b,u,r=>by obtain rfl:u=.bool b:=r;exact ⟨_,.bool b⟩
 | _,_,.int i,u,r=>by obtain ⟨t,rfl⟩:=r;exact ⟨_,.int i t⟩
 | _,_,.str x,u,r=>by obtain ⟨t,rfl⟩:=r;exact ⟨_,.str x t⟩
 | _,_,.lst (a:=a) (xs:=xs) e _ q,u,r=>by
  obtain rfl:u=.ref a:=r
  obtain ⟨_,its,n,rv,e1⟩:=(show be P w H h a (.lst xs) from ok a _ e)
  obtain ⟨as,ra⟩:=aw.reads ok q rv
  exact ⟨_,.list e1 rfl rfl (by simpa using ra)⟩
 | _,_,.tup (a:=a) (xs:=xs) e q,u,r=>by
  obtain rfl:u=.ref a:=r
  obtain ⟨_,its,rv,⟨o,e1,c,n,dd⟩,_⟩:=(show be P w H h a (.tup xs) from ok a _ e)
  obtain ⟨as,ra⟩:=aw.reads ok q rv
  exact ⟨_,.tuple e1 c dd (by simpa using ra)⟩
theorem aw.reads {E:Addr→Prop}{P:Program}{w:World}{H:Hp}{h:Heap} (ok:cE P w H h):∀{vs:List V}{ds:List PyData},aw E H vs ds→∀{us:List Value},aq vs us→∃as,ReadsAll h us ds as
 | _,_,.nil,us,r=>by cases r;exact ⟨_,.nil⟩
 | _,_,.cons q qs,us,r=>by
  cases r with
  | cons r1 rr=>
   obtain ⟨as,h1⟩:=aC.reads ok q r1
   obtain ⟨bs,h2⟩:=aw.reads ok qs rr
   exact ⟨_,.cons h1 h2⟩
end
section
variable {X:Cx}
def uy (_ j:Int):Prop:=0<j∧j.natAbs.log2<9000
theorem sr:cr X (binaryOp .FloorDiv) (rI uy fun i j=>.int (i / j)):=vU fun i j _ _ _ _ _ hc q=>by
 rw [←Int.fdiv_eq_ediv_of_nonneg _ (Int.le_of_lt hc.1)] at q
 exact floordiv_int (Int.ne_of_gt hc.1) q (.inl (PyProof.noPylong_of_log2 hc.2))
def Cm (i j k:Nat) (ta:TA):TS:=fun D σ H=>ta σ H fun vs H1=>ic fun v w u=>vs=[v,w,u]∧D.nx (((σ.set i (some v)).set j (some w)).set k (some u)) H1
theorem zm {pos:Pos}{i j k:Nat}{x y z:Str}{a b c:Expr}{ta:TA}{px py pz pt:Pos}{kt k2 pt2} (hc:X.calm=true) (hN:X.N.Nodup) (hi:X.N[i]?=some x) (hj:X.N[j]?=some y) (hk:X.N[k]?=some z) (hij:i≠j) (hik:i≠k) (hjk:j≠k)
 (hx:X.env.scope.names.lookup x=some .local) (hy:X.env.scope.names.lookup y=some .local) (hz:X.env.scope.names.lookup z=some .local) (ha:PA X [a,b,c] ta)
 (hw:swappedStores [.Tuple [.Name x px,.Name y py,.Name z pz] kt pt] (.Tuple [a,b,c] k2 pt2) X.env=pure (some [x,y,z]))
 (hs:swapsWithSole [.Tuple [.Name x px,.Name y py,.Name z pz] kt pt] (.Tuple [a,b,c] k2 pt2) pos.line X.env=pure false:=by rfl) :
 PS X (.Assign [.Tuple [.Name x px,.Name y py,.Name z pz] kt pt] (.Tuple [a,b,c] k2 pt2) pos) (Cm i j k ta):=by
 intro pins s σ H D I h
 rw [exec_Assign_arm]
 refine wpAny_bind (wpAny_standAt ?_)
 rw [hs]
 refine wpAny_bind (wpAny_pure ?_)
 rw [if_neg (by decide)]
 refine wpAny_bind (Tuple_ (aF (ha _ pins s σ H _ I h) fun us s1 ⟨vs,H1,I1,r1,q1⟩=>?_))
 obtain ⟨v,w,u,e1,q1⟩:=q1
 subst e1
 obtain ⟨u1,u2,u3,rfl,rv,rw',ru⟩:ic fun u1 u2 u3=>us=[u1,u2,u3]∧aM v u1∧aM w u2∧aM u u3:=by
  cases r1 with
  | cons p q=>
   cases q with
   | cons p' q'=>
    cases q' with
    | cons p'' q''=>
     cases q''
     exact ⟨_,_,(),p,p',p''⟩
 refine wpAny_newObj_type ?_ (by show 3≤sizeLine;decide)
 have I2:ac X pins σ H1 { s1 with heap:=s1.heap.push { cls:=.type "tuple",data:=.seq [u1,u2,u3].toArray } }:=I1.kept (t':=s1.toks) fun b o e=>Heap.get?_push_of_some _ e
 rw [hw]
 refine wpAny_bind (wpAny_pure ?_)
 show wpAny (model X.prog X.w) X.A (do rule "assign.swapped-stores";let items ←unpackItems (.ref s1.heap.objs.size) 3 none;assignInOrder [fun v=>bindName X.env z v,fun v=>bindName X.env y v,fun v=>bindName X.env x v] items.reverse;pure Flow.next) _ _ _
 refine wpAny_bind (wpAny_rule (wpAny_bind (unpackItems_tuple (items:=#[u1,u2,u3]) (I.ok.hd hc) (IsTup.new s1.heap _) fun h' hx'=>?_)))
 have I3:=I2.kept (h':=h') (t':=s1.toks) fun b o e=>hx' b o (Nat.ne_of_lt (Heap.lt_size e)) e
 show wpAny _ _ (assignInOrder [fun v=>bindName X.env z v,fun v=>bindName X.env y v,fun v=>bindName X.env x v] [u3,u2,u1] >>= fun _=>pure Flow.next) _ _ _
 refine wpAny_bind (assignInOrder_cons (wpAny_bindName (dY I3 hN hk (.inl hz) ru (fun s2 I4=>?_) (.inr hz))))
 refine assignInOrder_cons (wpAny_bindName (dY I4 hN hj (.inl hy) rw' (fun s3 I5=>?_) (.inr hy)))
 refine assignInOrder_cons (wpAny_bindName (dY I5 hN hi (.inl hx) rv (fun s4 I6=>assignInOrder_nil (wpAny_pure ?_)) (.inr hx)))
 have e:(((σ.set i (some v)).set j (some w)).set k (some u))=(((σ.set k (some u)).set j (some w)).set i (some v)):=by
  rw [List.set_comm _ _ (Ne.symm hjk),List.set_comm (some v) (some w) hij,List.set_comm (some v) (some u) hik]
 rw [←e] at I6
 exact ⟨_,H1,I6,q1⟩
end
end L2
namespace L2
open PySem PySem.Spec PyProof.Rows
def sF:PyData→String
 | .none => "NoneType"
 | .bool _ => "bool"
 | .int _ => "int"
 | .str _ => "str"
 | .list _ => "list"
 | .tuple _ => "tuple"
 | .dict _ => "dict"
theorem aC.ty {K:PySem.W.Frag}{E:Addr→Prop}{H:Hp}{v:V}{d:PyData} (h:aC E H v d):gz K H v (.type (sF d)):=by
 cases h with
 | non=>exact .non
 | bl b=>exact .bl b
 | int i=>exact .int i
 | str x=>exact .str x
 | lst h ne r=>exact .lst h
 | tup h r=>exact .tup h
def Ag:PyData→Bool
 | .int _=>true
 | .bool _=>true
 | _=>false
def zg:PyData→Bool
 | .bool _=>true
 | _=>false
def Ai:PyData→Bool
 | .tuple _=>true
 | _=>false
def zM:PyData→Bool
 | .list _=>true
 | _=>false
def Bk:PyData→Bool
 | .str _=>true
 | _=>false
theorem tH {K:PySem.W.Frag} (d:PyData):PySem.W.kitOne K (.type (sF d)) (.type "int")=some (Ag d):=by cases d <;> rfl
theorem lF {K:PySem.W.Frag} (d:PyData):PySem.W.kitOne K (.type (sF d)) (.type "bool")=some (zg d):=by cases d <;> rfl
theorem iQ {K:PySem.W.Frag} (d:PyData):PySem.W.kitOne K (.type (sF d)) (.type "tuple")=some (Ai d):=by cases d <;> rfl
theorem jT {K:PySem.W.Frag} (d:PyData):PySem.W.kitOne K (.type (sF d)) (.type "list")=some (zM d):=by cases d <;> rfl
theorem im {K:PySem.W.Frag} (d:PyData):PySem.W.kitOne K (.type (sF d)) (.type "str")=some (Bk d):=by cases d <;> rfl
inductive Cz (K:PySem.W.Frag) (xs:List V) (H:Hp) (Q:VK):Prop
 | mk (x:_) (T:_) (t:_) (b:_) (h0:xs=[x,.ty T]) (h1:gz K H x t) (h2:PySem.W.kitOne K t (.type T)=some b) (h3:Q (.bl b) H)
def CV (K:PySem.W.Frag):List V→Hp→VK→Prop:=fun xs H Q=>Cz K xs H Q
section
variable {X:Cx}
theorem sw:cz X (.builtin "divmod") (fun xs H Q=>bn fun i j=>xs=[.int i,.int j]∧uy i j∧∀p,H p=none→Q (.ref p) (aI H p (.tup [.int (i / j),.int (i % j)]))):=by
 intro pins s σ H xs us Q I r h
 obtain ⟨i,j,rfl,⟨h1,h2⟩,q⟩:=h
 obtain ⟨u,w',rfl,⟨t,rfl⟩,⟨t',rfl⟩⟩:=qZ r
 refine divmod_int (by trivial) ?_ (.inl (PyProof.noPylong_of_log2 h2))
 rw [Int.fdiv_eq_ediv_of_nonneg i (by trivial),Int.fmod_eq_emod_of_nonneg i (by trivial)]
 have hn:H s.heap.objs.size=none:=I.hok.fresh (Nat.le_refl _)
 refine ⟨.ref s.heap.objs.size,_,?_,rfl,q _ hn⟩
 refine I.laid (fun b o e=>Heap.get?_push_of_some _ e) (Nat.le_refl _) ⟨by simp only [List.length_cons,List.length_nil];rw [sizeLine_eq];decide,[.int (i / j) s.toks,.int (i % j) (s.toks+1)],.cons ⟨()⟩ (.cons ⟨()⟩ .nil),?_⟩
 exact ⟨⟨_,Heap.get?_push_size s.heap rfl,rfl,0,rfl⟩,_,Heap.get?_push_size s.heap rfl,rfl⟩
end
theorem Dz (c:Bool):-(2 ^ 64)<(if c=true then (1:Int) else 0)∧(if c=true then (1:Int) else 0)<2 ^ 64:=by cases c <;> decide
theorem rF (x:Int):0≤(if x<0 then -x else x):=by split <;> trivial
theorem Bt {x:Int} (c:Bool) (h:0≤x):0≤x*(if c=true then (1:Int) else 0):=by cases c <;> simp [h]
theorem tG {ms:List Int}{k:Int} (h0:0≤k) (h:k.toNat<ms.length):gJ (ms.map V.int) k=some (V.int ms[k.toNat]):=by
 have q:=jy (xs:=ms.map V.int) (j:=k.toNat) (v:=V.int ms[k.toNat]) (by rw [List.getElem?_map];simp [h])
 rwa [Int.toNat_of_nonneg h0] at q
inductive Bx (H:Hp) (b:Addr) (t:Int):Prop
 | mk (c x:Int) (h0:H b=some (.lst [.int c,.int x,.int t])) (h1:0≤c) (h2:0≤x) (h3:x<2147483647)
abbrev Eb (b:Addr):Addr→Prop:=fun a=>a=b
theorem Bx.same {H H':Hp}{b:Addr}{t:Int} (h:Bx H b t) (k:aj H H'):Bx H' b t:=by
 obtain ⟨c,x,e,r,r2,r3⟩:=h
 exact ⟨c,x,k _ _ e,r,r2,r3⟩
theorem qj {H H1:Hp}{b:Addr}{xs:List V}{o:HO} (k:aj H H1) (hb:H1 b=some (.lst xs)):aD (Eb b) H (aI H1 b o):=
 ⟨fun a u n h=>by rw [ak n];exact k a u h,fun a ys h=>by
  have e:=k a _ h
  rw [ak (nu e hb (by intro z;cases z))];exact e⟩
inductive AJ (K:PySem.W.Frag) (vs:List V) (H:Hp) (Q:VK):Prop
 | mk (a:Addr) (ms:List Int) (k:Int) (h0:vs=[.ref a,.int k]) (h1:ao K H a (ms.map V.int)) (h2:0≤k) (h3:k≤63) (h4:∀p H',H p=none→aj H H'→Bx H' p 0→Q (.ref p) H')
def Cu (K:PySem.W.Frag):Sp:=fun vs H Q _=>AJ K vs H Q
inductive yx (vs:List V) (H:Hp) (Q:VK):Prop
 | mk (b:Addr) (many t:Int) (h0:vs=[.ref b,.int many]) (h1:Bx H b t) (h2:0<many) (h3:many.natAbs.log2<9000) (h4:0≤t) (h5:t≤1000000) (h6:∀r t' H',0≤r→r<many→t≤t'→t'≤t+1→aD (Eb b) H H'→Bx H' b t'→Q (.int r) H')
def vF:Sp:=fun vs H Q _=>yx  vs H Q
def rL:List Str→Bool
 | []=>true
 | x :: r=>!r.contains x && rL r
theorem u6:∀l:List Str,rL l=true→l.Nodup
 | [],_=>List.nodup_nil
 | x :: r,h=>by
  unfold rL at h
  simp only [Bool.and_eq_true,Bool.not_eq_true',List.contains_eq_mem,decide_eq_false_iff_not] at h
  exact List.nodup_cons.mpr ⟨h.1,u6 r h.2⟩
inductive Bo (K:PySem.W.Frag) (xs:List V) (H:Hp) (Q:VK):Prop
 | mk (p:_) (ys:_) (h0:xs=[.ref p]) (h1:(ao K H p ys∨af K H p ys)) (h2:Q (.int ys.length) H)
def Dl (K:PySem.W.Frag):List V→Hp→VK→Prop:=fun xs H Q=>Bo K xs H Q
section
variable {X:Cx}{K:PySem.W.Frag}
theorem dC (e:X.K=K:=by rfl):cz X (.builtin "isinstance") (CV K):=by subst e;exact fun pins s σ H xs us Q I r ⟨x,T,t,b,h1,h2,h3,q⟩=>sS pins s σ H xs us Q I r ⟨x,T,t,b,h1,h2,h3,q⟩
theorem dI (e:X.K=K:=by rfl):cz X (.builtin "len") (Dl K):=by subst e;exact fun pins s σ H xs us Q I r ⟨p,ys,h1,h2,q⟩=>mi pins s σ H xs us Q I r ⟨p,ys,h1,h2,q⟩
theorem CY (e:X.K=K:=by rfl):kW X (CF K):=by subst e;exact hG
theorem B0 (e:X.K=K:=by rfl):kW X (wD K):=by subst e;exact s0
theorem Bu (e:X.K=K:=by rfl):kW X (xb K):=by subst e;exact vV
theorem lD (e:X.K=K:=by rfl):cr X (compareOp .In) (sf K false):=by subst e;exact vM
theorem tF (e:X.K=K:=by rfl):cr X (compareOp .NotIn) (sf K true):=by subst e;exact rQ
inductive BY (K:PySem.W.Frag) (xs:List V) (H:Hp) (Q:VK):Prop
 | mk (l:Addr) (bs:List Bool) (h0:xs=[.ref l]) (h1:ao K H l (bs.map V.bl)) (h2:Q (.bl (bs.all id)) H)
def C9 (K:PySem.W.Frag):List V→Hp→VK→Prop:=fun xs H Q=>BY K xs H Q
theorem xU (hc:X.calm=true) (e:X.K=K:=by rfl):cz X (.builtin "all") (C9 K):=by subst e;exact fun pins s σ H xs us Q I r ⟨l,bs,h1,h2,q⟩=>xC hc pins s σ H xs us Q I r ⟨l,bs,h1,h2,q⟩
theorem cf {pos:Pos}{es:List Expr}{k:Nat}{t:nU}{n:Nat} (hc:X.calm=true) (h:vn X es t) (e:X.K=K:=by rfl)
 (hn:(assignEach es X.env).length=n:=by rfl) (hst:(assignEach es X.env).findIdx? (·.1)=none:=by rfl):PG X (.Tuple es k pos) (AO K n t):=by
 subst e;exact vv hc h hn hst
theorem vO {tg l:Expr}{tl:TE} (hl:PE X l tl) (e:X.K=K:=by rfl):PI X tg l (xV K tl):=by subst e;exact yJ hl
theorem w5 {tg l:Expr}{tl:TE} (hl:PE X l tl) (e:X.K=K:=by rfl):PI X tg l (Bc K tl):=by subst e;exact zY hl
end
end L2
namespace L2
open PySem PySem.Spec PyProof.Rows
def pI:Expr→Bool
 | .Starred ..=>false
 | _=>true
theorem vp {e:Expr}{es:List Expr}{env:Env} (h:pI e=true):starEach (e :: es) env=(false,eval e env) :: starEach es env:=by
 cases e <;> first | rfl | (simp [pI] at h)
section
variable {X:Cx}{e:Expr}{es:List Expr}{te:TE}{t:TA}
theorem zL (ha:PE X e te) (hr:PA X es t) (hs:pI e=true:=by rfl):PA X (e :: es) (xM te t):=eH ha hr (vp hs)
theorem pw (i:Nat) {x:Str}{pos:Pos} (hv:wj X.env.scope x) (hN:X.N[i]?=some x:=by rfl) (hd:(x==("__debug__" : Str))=false:=by decide) (hcd:(x==("__classdict__" : Str))=false:=by decide):PE X (.Name x pos) (oA i):=vc hN hv hd hcd
end
end L2
namespace KM
theorem gcd_zero_abs (n:Int):((Int.gcd n 0:Nat):Int)=if n<0 then -n else n:=by
 rw [Int.gcd_zero_right]
 split <;> trivial
theorem gcd_emod (n d:Int):Int.gcd d (n % d)=Int.gcd n d:=by
 by_cases h:d=0
 ·subst h;rw [Int.emod_zero,Int.gcd_comm]
 ·apply Nat.dvd_antisymm
  ·apply Int.dvd_gcd
   ·have h1:((Int.gcd d (n % d):Nat):Int) ∣ d:=Int.gcd_dvd_left ..
    have h2:((Int.gcd d (n % d):Nat):Int) ∣ n % d:=Int.gcd_dvd_right ..
    have h3:=Int.dvd_add h2 (Int.dvd_mul_of_dvd_left (c:=n / d) h1)
    rw [Int.emod_add_mul_ediv] at h3
    exact h3
   ·exact Int.gcd_dvd_left ..
  ·apply Int.dvd_gcd
   ·exact Int.gcd_dvd_right ..
   ·rw [Int.emod_def]
    exact Int.dvd_sub (Int.gcd_dvd_left ..) (Int.dvd_mul_of_dvd_left (Int.gcd_dvd_right ..))
end KM
namespace KM
def low (n d:Int):Int×Int:=if 0<d then (n / (Int.gcd n d:Nat),d / (Int.gcd n d:Nat)) else (-n / (Int.gcd n d:Nat),-d / (Int.gcd n d:Nat))
theorem gcd_pos {n d:Int} (h:d≠0):0<Int.gcd n d:=by
 apply Nat.pos_of_ne_zero
 intro e
 exact h (Int.gcd_eq_zero_iff.mp e).2
theorem gcd_abs (n d:Int):Int.gcd (if n<0 then -n else n) (if d<0 then -d else d)=Int.gcd n d:=by
 split <;> split <;> simp [Int.gcd_neg,Int.neg_gcd]
end KM
namespace KM
section
variable {p0 p1 q0 q1:Int}
end
end KM
namespace KM
abbrev Fra:=Int×Int
end KM
namespace KM
end KM
namespace L2
open PySem PySem.Spec PyProof.Rows
section
variable {prog:Program}{w:World}{A:Around}{E:Value→Shared→Prop}{s:Shared}
theorem uk {it t:Addr}{i:Nat}{its:Array Value}{x:Value}{Q:Value→Shared→Prop} (hit:s.heap.IsTupleIter it t i) (ht:s.heap.IsTuple t its) (hx:its[i]?=some x)
 (q:∀h',h'.IsTupleIter it t (i+1)→Heap.SameBut it s.heap h'→Q x { s with heap:=h' }):wpAny (model prog w) A (Builtin.SmallTypes.nextOf (.ref it)) Q E s:=by
 obtain ⟨o,e1,e2,e3⟩:=id hit;obtain ⟨u,e4,_,k,e5⟩:=ht;unfold Builtin.SmallTypes.nextOf
 refine wpAny_bind (wpAny_callSpecial?_slot (name:=Str.ofString "__next__") hit.typeIs F.slot_tuple_iterator_next (wpAny_call_entry F.slot_tuple_iterator_next hit.typeIs F.entry_tuple_iterator_next ?_ (F.args_tuple_iterator_next_1 _)))
 show wpAny _ _ (field (.ref it) 0 >>= _) _ _ s;refine wpAny_bind (wpAny_field e1 e3 (x:=.ref t) rfl ?_)
 show wpAny _ _ (if (Value.ref t==Value.none)=true then _ else _) _ _ s;rw [if_neg (show ¬((Value.ref t==Value.none)=true) from Bool.false_ne_true)]
 show wpAny _ _ (field (.ref it) 1 >>= _) _ _ s;refine wpAny_bind (wpAny_field e1 e3 (x:=.int i 0) rfl ?_)
 show wpAny _ _ (seqItems? (.ref t) >>= _) _ _ s;refine wpAny_bind (wpAny_seqItems e4 e5 ?_)
 simp only [Int.toNat_natCast,hx];refine wpAny_bind (wpAny_setField e1 e3 (by simp) (wpAny_pure ⟨x,rfl,wpAny_pure (q _ ?_ (Heap.SameBut.update ..))⟩))
 exact ⟨_,Heap.get?_update_self _ e1 (Obj.isFreed_of_fields (Obj.data_mapFields e3 _)),(Obj.cls_mapFields ..).trans e2,by rw [Obj.data_mapFields e3];simp [rawInt]⟩
theorem qP {it t:Addr}{i:Nat}{its:Array Value}{Q:Value→Shared→Prop} (hh:A.handled=none) (hit:s.heap.IsTupleIter it t i) (ht:s.heap.IsTuple t its) (hx:its[i]?=none)
 (q:∀h' e,Heap.ExtBut it s.heap h'→(∃o,h'.get? e=some o∧o.cls=.type "StopIteration")→E (.ref e) { s with heap:=h' }):wpAny (model prog w) A (Builtin.SmallTypes.nextOf (.ref it)) Q E s:=by
 obtain ⟨o,e1,e2,e3⟩:=id hit;obtain ⟨u,e4,_,k,e5⟩:=ht;unfold Builtin.SmallTypes.nextOf
 refine wpAny_bind (wpAny_callSpecial?_slot (name:=Str.ofString "__next__") hit.typeIs F.slot_tuple_iterator_next (wpAny_call_entry F.slot_tuple_iterator_next hit.typeIs F.entry_tuple_iterator_next ?_ (F.args_tuple_iterator_next_1 _)))
 show wpAny _ _ (field (.ref it) 0 >>= _) _ _ s;refine wpAny_bind (wpAny_field e1 e3 (x:=.ref t) rfl ?_)
 show wpAny _ _ (if (Value.ref t==Value.none)=true then _ else _) _ _ s;rw [if_neg (show ¬((Value.ref t==Value.none)=true) from Bool.false_ne_true)]
 show wpAny _ _ (field (.ref it) 1 >>= _) _ _ s;refine wpAny_bind (wpAny_field e1 e3 (x:=.int i 0) rfl ?_)
 show wpAny _ _ (seqItems? (.ref t) >>= _) _ _ s;refine wpAny_bind (wpAny_seqItems e4 e5 ?_)
 simp only [Int.toNat_natCast,hx];refine wpAny_bind (wpAny_rule (wpAny_bind (wpAny_setField e1 e3 (by simp) ?_)))
 show wpAny _ _ (newExc (.type "StopIteration") [] >>= _) _ _ _;refine wpAny_bind ?_;simp only [newExc,newTuple]
 refine wpAny_bind (wpAny_newObj_type ?_ (by size_fits));refine wpAny_bind (m:=firstArgMember _ _) (wpAny_of_eq (a:=Value.none) (by first | rfl | (simp only [firstArgMember];rfl)) ?_);refine wpAny_newObj_type ?_ (by size_fits)
 simp only [raiseNew];refine wpAny_bind (wpAny_handled ?_);first | rw [show A.in1.handled=none from hh] | rw [hh]
 refine wpAny_bind (wpAny_pure (wpAny_throw ?_));exact q _ _ (((Heap.SameBut.update ..).extBut.push _).push _) ⟨_,Heap.get?_push_size _ rfl,rfl⟩
end
def eV (h:Heap) (l:Addr) (its:Array Value):Bool→Prop
 | true=>h.IsList l its
 | false=>h.IsTuple l its
def dn (h:Heap) (it l:Addr) (i:Nat):Bool→Prop
 | true=>h.IsListIter it l i
 | false=>h.IsTupleIter it l i
theorem eV.at {h h':Heap}{l:Addr}{its:Array Value}:∀{b:Bool},eV h l its b→(∀o,h.get? l=some o→h'.get? l=some o)→eV h' l its b
 | true,q,k=>Heap.IsList.at q k
 | false,q,k=>Heap.IsTuple.at q k
theorem dn.at {h h':Heap}{it l:Addr}{i:Nat}:∀{b:Bool},dn h it l i b→(∀o,h.get? it=some o→h'.get? it=some o)→dn h' it l i b
 | true,q,k=>Heap.IsListIter.at q k
 | false,q,k=>Heap.IsTupleIter.at q k
theorem eV.lt {h:Heap}{l:Addr}{its:Array Value}:∀{b:Bool},eV h l its b→l<h.objs.size
 | true,⟨_,e,_⟩=>Heap.lt_size e
 | false,⟨_,e,_⟩=>Heap.lt_size e
theorem dn.some {h:Heap}{it l:Addr}{i:Nat}:∀{b:Bool},dn h it l i b→∃o,h.get? it=some o∧∀v,o.data≠.cell v
 | true,⟨o,e,_,d⟩=>⟨o,e,fun v z=>by rw [d] at z;cases z⟩
 | false,⟨o,e,_,d⟩=>⟨o,e,fun v z=>by rw [d] at z;cases z⟩
theorem lc {prog:Program}{w:World}{A:Around} (hh:A.handled=none) (it l:Addr) (hne:l≠it) (its:Array Value):∀b:Bool,
 Draws prog w A it [it,l] its.size (fun i v=>its[i]?=some v) (fun i h=>dn h it l i b∧eV h l its b)
 | true=>Draws.list hh it l hne its
 | false=>{
  live:=fun _ _ st=>let ⟨o,ho,_⟩:=st.1;⟨o,ho⟩
  frame:=fun _ _ _ st hk=>⟨Heap.IsTupleIter.at st.1 fun o e=>hk it (by simp) o e,Heap.IsTuple.at st.2 fun o e=>hk l (by simp) o e⟩
  item:=fun i s Q E hi st q=>uk st.1 st.2 (x:=its[i]) (by simp [hi]) fun h' it' same=>q _ h' s.toks (by simp [hi]) ⟨it',Heap.IsTuple.extBut st.2 same.extBut hne⟩ same
  done:=fun s Q E st q=>qP hh st.1 st.2 (by simp) q }
structure mT (z TI TO i1 i2:Addr):Prop where
 a1:TI≠z
 a2:TO≠z
 a3:i1≠z
 a4:i2≠z
 a5:TI≠TO
 a6:TI≠i1
 a7:TI≠i2
 a8:TO≠i1
 a9:TO≠i2
 a0:i1≠i2
section
variable {prog:Program}{w:World}{A:Around}{E:Value→Shared→Prop}{s:Shared}
variable {z TI TO i1 i2 l1 l2:Addr}{k:Nat}{xs ys:Array Value}{a b:Value}{c1 c2:Bool}
theorem zi {x y:Value}{Q:Value→Shared→Prop} (D:mT z TI TO i1 i2) (n1:∀c,c=l1∨c=l2→c≠z∧c≠TO∧c≠i1∧c≠i2)
 (hz:IsZip s.heap z TI TO .none) (hTI:IsPair s.heap TI (.ref i1) (.ref i2)) (hTO:IsPair s.heap TO a b) (hh:A.handled=none)
 (h1:dn s.heap i1 l1 k c1) (h2:dn s.heap i2 l2 k c2) (q1:eV s.heap l1 xs c1) (q2:eV s.heap l2 ys c2) (hx:xs[k]?=some x) (hy:ys[k]?=some y)
 (hQ:∀h' tk,IsZip h' z TI TO (rawInt s.heap.objs.size)→IsPair h' TO x y→dn h' i1 l1 (k+1) c1→dn h' i2 l2 (k+1) c2→IsPair h' s.heap.objs.size x y→h'.objs.size=s.heap.objs.size+1→
  (∀c o,c≠z→c≠TO→c≠i1→c≠i2→s.heap.get? c=some o→h'.get? c=some o)→Q (.ref s.heap.objs.size) { s with heap:=h',toks:=tk }) :
 wpAny (model prog w) A (Builtin.«zip.__next__» ⟨[.ref z],[]⟩) (fun fin s'=>∃v,fin=.done (.ret v)∧Q v s') E s:=by
 obtain ⟨m1,m2,m3,m4⟩:=n1 l1 (.inl rfl)
 obtain ⟨m5,m6,m7,m8⟩:=n1 l2 (.inr rfl)
 have kx:k<xs.size:=(Array.getElem?_eq_some_iff.mp hx).1
 have ky:k<ys.size:=(Array.getElem?_eq_some_iff.mp hy).1
 have D1:=lc (prog:=prog) (w:=w) hh i1 l1 m3 xs c1
 have D2:=lc (prog:=prog) (w:=w) hh i2 l2 m8 ys c2
 show wpAny _ _ (field (.ref z) 2 >>= _) _ _ _;refine wpAny_bind (wpAny_field hz rfl (x:=.bool false) rfl ?_)
 show wpAny _ _ (field (.ref z) 3 >>= _) _ _ _;refine wpAny_bind (wpAny_field hz rfl (x:=.ref TI) rfl (wpAny_bind (wpAny_seqItems hTI rfl ?_)))
 show wpAny _ _ (Builtin.SmallTypes.ownedTupleIsFree (.ref z) >>= _) _ _ _;refine wpAny_bind ?_;unfold Builtin.SmallTypes.ownedTupleIsFree
 refine wpAny_bind (wpAny_field hz rfl (x:=.none) rfl (wpAny_pure ?_));simp only [if_true]
 refine wpAny_bind (wpAny_rule (wpAny_bind (wpAny_field hz rfl (x:=.ref TO) rfl (wpAny_bind (wpAny_setField_rec hz (by simp) fun g1 z1 t1=>?_)))))
 replace z1:IsZip g1 z TI TO .ellipsis:=z1
 refine wpAny_bind ?_;simp only [List.zipIdx_cons,List.zipIdx_nil,List.forIn_cons,List.forIn_nil];refine wpAny_bind (wpAny_bind (wpAny_onRaise ?_))
 show wpAny _ _ (Builtin.SmallTypes.nextOf (.ref i1) >>= _) _ _ _
 refine wpAny_bind (D1.item k _ _ _ kx ⟨h1.at fun o e=>t1.extBut _ _ D.a3 e,q1.at fun o e=>t1.extBut _ _ m1 e⟩ fun x' g2 tk2 p1 st1 t2=>wpAny_pure ?_)
 have ex:x=x':=Option.some.inj (hx.symm.trans p1)
 subst ex
 have TO2:IsPair g2 TO a b:=t2.extBut _ _ D.a8 (t1.extBut _ _ D.a2 hTO)
 refine wpAny_bind (wpAny_seqItems TO2 rfl (wpAny_bind (wpAny_updateSeq_pair TO2 fun g3 TO3 t3=>?_)))
 replace TO3:IsPair g3 TO x b:=TO3
 refine wpAny_bind (wpAny_letGo (wpAny_pure ?_));refine wpAny_bind (wpAny_bind (wpAny_onRaise ?_));show wpAny _ _ (Builtin.SmallTypes.nextOf (.ref i2) >>= _) _ _ _
 refine wpAny_bind (D2.item k _ _ _ ky ⟨h2.at fun o e=>t3.extBut _ _ D.a9.symm (t2.extBut _ _ D.a0.symm (t1.extBut _ _ D.a4 e)),q2.at fun o e=>t3.extBut _ _ m6 (t2.extBut _ _ m7 (t1.extBut _ _ m5 e))⟩ fun y' g4 tk4 p2 st2 t4=>wpAny_pure ?_)
 have ey:y=y':=Option.some.inj (hy.symm.trans p2)
 subst ey
 have TO4:IsPair g4 TO x b:=t4.extBut _ _ D.a9 TO3
 refine wpAny_bind (wpAny_seqItems TO4 rfl (wpAny_bind (wpAny_updateSeq_pair TO4 fun g5 TO5 t5=>?_)))
 replace TO5:IsPair g5 TO x y:=TO5
 refine wpAny_bind (wpAny_letGo (wpAny_pure (wpAny_pure ?_)));refine wpAny_bind (wpAny_seqItems TO5 rfl (wpAny_bind (wpAny_newTuple ?_)))
 have sz:g5.objs.size=s.heap.objs.size:=by rw [t5.1,t4.1,t3.1,t2.1,t1.1]
 have z5:IsZip g5 z TI TO .ellipsis:=t5.extBut _ _ D.a2.symm (t4.extBut _ _ D.a4.symm (t3.extBut _ _ D.a2.symm (t2.extBut _ _ D.a3.symm z1)))
 have keep:∀c o,c≠z→c≠TO→c≠i1→c≠i2→s.heap.get? c=some o→g5.get? c=some o:=fun c o d1 d2 d3 d4 e=>t5.extBut _ _ d2 (t4.extBut _ _ d4 (t3.extBut _ _ d2 (t2.extBut _ _ d3 (t1.extBut _ _ d1 e))))
 have it1:dn g5 i1 l1 (k+1) c1:=st1.1.at fun o e=>t5.extBut _ _ D.a8.symm (t4.extBut _ _ D.a0 (t3.extBut _ _ D.a8.symm e))
 have it2:dn g5 i2 l2 (k+1) c2:=st2.1.at fun o e=>t5.extBut _ _ D.a9.symm e
 have zlt:z<g5.objs.size:=Heap.lt_size z5
 show wpAny _ _ (Builtin.SmallTypes.ownedTupleHandOut (.ref z) (.ref g5.objs.size) >>= _) _ _ _;refine wpAny_bind ?_;unfold Builtin.SmallTypes.ownedTupleHandOut
 have z6:IsZip (g5.push { cls:=.type "tuple",data:=.seq #[x,y] }) z TI TO .ellipsis:=Heap.get?_push_of_some _ z5
 refine wpAny_bind (wpAny_setField_rec z6 (by simp) fun g7 z7 t7=>?_)
 replace z7:IsZip g7 z TI TO (rawInt g5.objs.size):=z7
 refine wpAny_setField_rec z7 (by simp) fun g8 z8 t8=>?_
 replace z8:IsZip g8 z TI TO (rawInt g5.objs.size):=z8
 have up:∀c o,c≠z→g5.get? c=some o→g8.get? c=some o:=fun c o d e=>t8.extBut _ _ d (t7.extBut _ _ d (Heap.get?_push_of_some _ e))
 have T8:IsPair g8 g5.objs.size x y:=t8.extBut _ _ (Nat.ne_of_gt zlt) (t7.extBut _ _ (Nat.ne_of_gt zlt) (Heap.get?_push_size _ rfl))
 have s8:g8.objs.size=g5.objs.size+1:=by rw [t8.1,t7.1,Heap.size_push]
 rw [sz] at z8 T8 s8
 refine wpAny_pure ⟨(),?_⟩;show Q (.ref g5.objs.size) _;rw [sz]
 exact hQ g8 _ z8 (up _ _ D.a2 TO5) (it1.at fun o e=>up _ o D.a3 e) (it2.at fun o e=>up _ o D.a4 e) T8 s8 fun c o d1 d2 d3 d4 e=>up c o d1 (keep c o d1 d2 d3 d4 e)
theorem Af {Q:Fin→Shared→Prop} (hh:A.handled=none) (D:mT z TI TO i1 i2) (n1:∀c,c=l1∨c=l2→c≠z∧c≠TO∧c≠i1∧c≠i2)
 (hz:IsZip s.heap z TI TO .none) (hTI:IsPair s.heap TI (.ref i1) (.ref i2)) (hTO:IsPair s.heap TO a b)
 (h1:dn s.heap i1 l1 k c1) (h2:dn s.heap i2 l2 k c2) (q1:eV s.heap l1 xs c1) (q2:eV s.heap l2 ys c2) (hend:xs.size=k∨(k<xs.size∧ys.size=k))
 (hE:∀h' e tk,(∀c o,c≠z→c≠TO→c≠i1→c≠i2→s.heap.get? c=some o→h'.get? c=some o)→(∃o,h'.get? e=some o∧o.cls=.type "StopIteration")→E (.ref e) { s with heap:=h',toks:=tk }) :
 wpAny (model prog w) A (Builtin.«zip.__next__» ⟨[.ref z],[]⟩) Q E s:=by
 obtain ⟨m1,m2,m3,m4⟩:=n1 l1 (.inl rfl)
 obtain ⟨m5,m6,m7,m8⟩:=n1 l2 (.inr rfl)
 have D1:=lc (prog:=prog) (w:=w) hh i1 l1 m3 xs c1
 have D2:=lc (prog:=prog) (w:=w) hh i2 l2 m8 ys c2
 show wpAny _ _ (field (.ref z) 2 >>= _) _ _ _;refine wpAny_bind (wpAny_field hz rfl (x:=.bool false) rfl ?_)
 show wpAny _ _ (field (.ref z) 3 >>= _) _ _ _;refine wpAny_bind (wpAny_field hz rfl (x:=.ref TI) rfl (wpAny_bind (wpAny_seqItems hTI rfl ?_)))
 show wpAny _ _ (Builtin.SmallTypes.ownedTupleIsFree (.ref z) >>= _) _ _ _;refine wpAny_bind ?_;unfold Builtin.SmallTypes.ownedTupleIsFree
 refine wpAny_bind (wpAny_field hz rfl (x:=.none) rfl (wpAny_pure ?_));simp only [if_true]
 refine wpAny_bind (wpAny_rule (wpAny_bind (wpAny_field hz rfl (x:=.ref TO) rfl (wpAny_bind (wpAny_setField_rec hz (by simp) fun g1 z1 t1=>?_)))))
 replace z1:IsZip g1 z TI TO .ellipsis:=z1
 refine wpAny_bind ?_;simp only [List.zipIdx_cons,List.zipIdx_nil,List.forIn_cons,List.forIn_nil];refine wpAny_bind (wpAny_bind (wpAny_onRaise ?_))
 show wpAny _ _ (Builtin.SmallTypes.nextOf (.ref i1) >>= _) _ _ _
 have st0:dn g1 i1 l1 k c1∧eV g1 l1 xs c1:=⟨h1.at fun o e=>t1.extBut _ _ D.a3 e,q1.at fun o e=>t1.extBut _ _ m1 e⟩
 rcases hend with hk | ⟨kx,hk⟩
 ·refine wpAny_bind (D1.done _ _ _ (by rw [hk];exact st0) fun g2 e t2 he=>?_)
  obtain ⟨oe,e1,e2⟩:=he
  have z2:IsZip g2 z TI TO .ellipsis:=t2 _ _ D.a3.symm z1
  have ez:e≠z:=fun q=>by subst q;rw [z2] at e1;cases e1;simp at e2
  exact wpAny_setField_rec z2 (by simp) fun g3 _ t3=>hE g3 e _ (fun c o d1 _ d3 _ q=>t3.extBut _ _ d1 (t2 _ _ d3 (t1.extBut _ _ d1 q))) ⟨oe,t3.extBut _ _ ez e1,e2⟩
 ·refine wpAny_bind (D1.item k _ _ _ kx st0 fun x g2 tk2 p1 st1 t2=>wpAny_pure ?_)
  have TO2:IsPair g2 TO a b:=t2.extBut _ _ D.a8 (t1.extBut _ _ D.a2 hTO)
  refine wpAny_bind (wpAny_seqItems TO2 rfl (wpAny_bind (wpAny_updateSeq_pair TO2 fun g3 TO3 t3=>?_)))
  refine wpAny_bind (wpAny_letGo (wpAny_pure ?_));refine wpAny_bind (wpAny_bind (wpAny_onRaise ?_));show wpAny _ _ (Builtin.SmallTypes.nextOf (.ref i2) >>= _) _ _ _
  have st2:dn g3 i2 l2 k c2∧eV g3 l2 ys c2:=⟨h2.at fun o e=>t3.extBut _ _ D.a9.symm (t2.extBut _ _ D.a0.symm (t1.extBut _ _ D.a4 e)),q2.at fun o e=>t3.extBut _ _ m6 (t2.extBut _ _ m7 (t1.extBut _ _ m5 e))⟩
  refine wpAny_bind (D2.done _ _ _ (by rw [hk];exact st2) fun g4 e t4 he=>?_)
  obtain ⟨oe,e1,e2⟩:=he
  have z4:IsZip g4 z TI TO .ellipsis:=t4 _ _ D.a4.symm (t3.extBut _ _ D.a2.symm (t2.extBut _ _ D.a3.symm z1))
  have ez:e≠z:=fun q=>by subst q;rw [z4] at e1;cases e1;simp at e2
  exact wpAny_setField_rec z4 (by simp) fun g5 _ t5=>hE g5 e _ (fun c o d1 d2 d3 d4 q=>t5.extBut _ _ d1 (t4 _ _ d4 (t3.extBut _ _ d2 (t2.extBut _ _ d3 (t1.extBut _ _ d1 q))))) ⟨oe,t5.extBut _ _ ez e1,e2⟩
end
def Bl:Bool→String
 | true => "list_iterator"
 | false => "tuple_iterator"
abbrev zA (h:Heap) (l1:Addr) (c1:Bool):Heap:=h.push { cls:=.type (Bl c1),data:=.fields #[.ref l1,.int 0 0] }
abbrev zB (h:Heap) (l1 l2:Addr) (c1 c2:Bool):Heap:=(zA h l1 c1).push { cls:=.type (Bl c2),data:=.fields #[.ref l2,.int 0 0] }
abbrev zC (h:Heap) (l1 l2:Addr) (c1 c2:Bool):Heap:=(zB h l1 l2 c1 c2).push { cls:=.type "tuple",data:=.seq #[.ref h.objs.size,.ref (zA h l1 c1).objs.size] }
abbrev zD (h:Heap) (l1 l2:Addr) (c1 c2:Bool):Heap:=(zC h l1 l2 c1 c2).push { cls:=.type "tuple",data:=.seq #[.none,.none] }
abbrev zE (h:Heap) (l1 l2:Addr) (c1 c2:Bool):Heap:=(zD h l1 l2 c1 c2).push { cls:=.type "zip",data:=.fields #[.none,.bool false,.bool false,.ref (zB h l1 l2 c1 c2).objs.size,.ref (zC h l1 l2 c1 c2).objs.size] }
set_option maxHeartbeats 8000000 in
theorem zJ (l1 l2:Addr) (xs ys:Array Value) (c1 c2:Bool) :
 Meets (Builtin.«zip.__new__» ⟨[.type "zip",.ref l1,.ref l2],[]⟩) (fun _ R s=>eV s.heap l1 xs c1∧eV s.heap l2 ys c2∧R (.ok (.ret (.ref (zD s.heap l1 l2 c1 c2).objs.size))) { s with heap:=zE s.heap l1 l2 c1 c2 }):=
 .of_wp fun prog w A R s h=>by
  obtain ⟨hp,g,d,tk,os⟩:=s;obtain ⟨q1,q2,h⟩:=h
  have hsub:=sub_zip
  have L2':eV (Shared.heap ⟨zA hp l1 c1,g,d,tk,os⟩) l2 ys c2:=eV.at q2 fun o e=>Heap.get?_push_of_some _ e
  cases c1 <;> cases c2
  ·have g1:Heap.IsTuple (Shared.heap ⟨hp,g,d,tk,os⟩) l1 xs:=q1
   have g2:Heap.IsTuple (Shared.heap ⟨hp.push { cls:=.type "tuple_iterator",data:=.fields #[.ref l1,.int 0 0] },g,d,tk,os⟩) l2 ys:=L2'
   wp_walk using wpAny_pyIter_tuple g1,wpAny_pyIter_tuple g2
   exact ⟨(),h⟩
  ·have g1:Heap.IsTuple (Shared.heap ⟨hp,g,d,tk,os⟩) l1 xs:=q1
   have g2:Heap.IsList (Shared.heap ⟨hp.push { cls:=.type "tuple_iterator",data:=.fields #[.ref l1,.int 0 0] },g,d,tk,os⟩) l2 ys:=L2'
   wp_walk using wpAny_pyIter_tuple g1,wpAny_pyIter_list g2
   exact ⟨(),h⟩
  ·have g1:Heap.IsList (Shared.heap ⟨hp,g,d,tk,os⟩) l1 xs:=q1
   have g2:Heap.IsTuple (Shared.heap ⟨hp.push { cls:=.type "list_iterator",data:=.fields #[.ref l1,.int 0 0] },g,d,tk,os⟩) l2 ys:=L2'
   wp_walk using wpAny_pyIter_list g1,wpAny_pyIter_tuple g2
   exact ⟨(),h⟩
  ·have g1:Heap.IsList (Shared.heap ⟨hp,g,d,tk,os⟩) l1 xs:=q1
   have g2:Heap.IsList (Shared.heap ⟨hp.push { cls:=.type "list_iterator",data:=.fields #[.ref l1,.int 0 0] },g,d,tk,os⟩) l2 ys:=L2'
   wp_walk using wpAny_pyIter_list g1,wpAny_pyIter_list g2
   exact ⟨(),h⟩
theorem tE {h:Heap}{it l:Addr}:∀{c:Bool},h.get? it=some { cls:=.type (Bl c),data:=.fields #[.ref l,.int 0 0] }→dn h it l 0 c
 | true,e=>⟨_,e,rfl,rfl⟩
 | false,e=>⟨_,e,rfl,rfl⟩
section
variable {prog:Program}{w:World}{A:Around}{E:Value→Shared→Prop}{s:Shared}
theorem vK {l1 l2:Addr}{xs ys:Array Value}{c1 c2:Bool}{Q:Value→Shared→Prop} (q1:eV s.heap l1 xs c1) (q2:eV s.heap l2 ys c2)
 (h:∀h',IsZip h' (s.heap.objs.size+4) (s.heap.objs.size+2) (s.heap.objs.size+3) .none→IsPair h' (s.heap.objs.size+2) (.ref s.heap.objs.size) (.ref (s.heap.objs.size+1))→
  IsPair h' (s.heap.objs.size+3) .none .none→dn h' s.heap.objs.size l1 0 c1→dn h' (s.heap.objs.size+1) l2 0 c2→
  (∀c o,s.heap.get? c=some o→h'.get? c=some o)→Q (.ref (s.heap.objs.size+4)) { s with heap:=h' }) :
 wpAny (model prog w) A (call (.type "zip") [.ref l1,.ref l2]) Q E s:=by
 refine callType_new F.called_zip (by decide) (F.typeCall_zip_2 _ _) (F.newCall_zip_2 _ _) (fun obj=>F.args_object_init_3 obj _ _) F.entry_zip_new (zJ l1 l2 xs ys c1 c2) ⟨q1,q2,?_⟩
 have s1:(zA s.heap l1 c1).objs.size=s.heap.objs.size+1:=Heap.size_push ..
 have s2:(zB s.heap l1 l2 c1 c2).objs.size=s.heap.objs.size+2:=by rw [Heap.size_push,s1]
 have s3:(zC s.heap l1 l2 c1 c2).objs.size=s.heap.objs.size+3:=by rw [Heap.size_push,s2]
 have s4:(zD s.heap l1 l2 c1 c2).objs.size=s.heap.objs.size+4:=by rw [Heap.size_push,s3]
 have g5:(zE s.heap l1 l2 c1 c2).get? (zD s.heap l1 l2 c1 c2).objs.size=some _:=Heap.get?_push_size _ rfl
 have g4:(zE s.heap l1 l2 c1 c2).get? (zC s.heap l1 l2 c1 c2).objs.size=some _:=Heap.get?_push_of_some _ (Heap.get?_push_size _ rfl)
 have g3:(zE s.heap l1 l2 c1 c2).get? (zB s.heap l1 l2 c1 c2).objs.size=some _:=Heap.get?_push_of_some _ (Heap.get?_push_of_some _ (Heap.get?_push_size _ rfl))
 have g2:(zE s.heap l1 l2 c1 c2).get? (zA s.heap l1 c1).objs.size=some _:=Heap.get?_push_of_some _ (Heap.get?_push_of_some _ (Heap.get?_push_of_some _ (Heap.get?_push_size _ rfl)))
 have g1:(zE s.heap l1 l2 c1 c2).get? s.heap.objs.size=some _:=Heap.get?_push_of_some _ (Heap.get?_push_of_some _ (Heap.get?_push_of_some _ (Heap.get?_push_of_some _ (Heap.get?_push_size _ rfl))))
 show _∧_
 rw [s2,s3,s4] at g5
 rw [s1,s2] at g3
 rw [s3] at g4
 rw [s1] at g2
 rw [s4]
 exact ⟨⟨_,g5,rfl⟩,h _ g5 g3 g4 (tE g1) (tE g2) fun c o x=>Heap.get?_push_of_some _ (Heap.get?_push_of_some _ (Heap.get?_push_of_some _ (Heap.get?_push_of_some _ (Heap.get?_push_of_some _ x))))⟩
theorem pF {z TI TO i1 i2 l1 l2:Addr}{k:Nat}{xs ys:Array Value}{a b x y:Value}{c1 c2:Bool}{Q:Option Value→Shared→Prop} (D:mT z TI TO i1 i2) (n1:∀c,c=l1∨c=l2→c≠z∧c≠TO∧c≠i1∧c≠i2)
 (hz:IsZip s.heap z TI TO .none) (hTI:IsPair s.heap TI (.ref i1) (.ref i2)) (hTO:IsPair s.heap TO a b) (hh:A.handled=none)
 (h1:dn s.heap i1 l1 k c1) (h2:dn s.heap i2 l2 k c2) (q1:eV s.heap l1 xs c1) (q2:eV s.heap l2 ys c2) (hx:xs[k]?=some x) (hy:ys[k]?=some y)
 (hQ:∀h' tk,IsZip h' z TI TO (rawInt s.heap.objs.size)→IsPair h' TO x y→dn h' i1 l1 (k+1) c1→dn h' i2 l2 (k+1) c2→IsPair h' s.heap.objs.size x y→h'.objs.size=s.heap.objs.size+1→
  (∀c o,c≠z→c≠TO→c≠i1→c≠i2→s.heap.get? c=some o→h'.get? c=some o)→Q (some (.ref s.heap.objs.size)) { s with heap:=h',toks:=tk }) :
 wpAny (model prog w) A (pyNext (.ref z)) Q E s:=by
 have hT:s.TypeIs (.ref z) "zip" := ⟨_,hz,rfl⟩
 unfold pyNext
 exact wpAny_bind (wpAny_attempt (wpAny_callSpecial?_slot (name:=Str.ofString "__next__") hT F.slot_zip_next (wpAny_call_entry F.slot_zip_next hT F.entry_zip_next
  (zi D n1 hz hTI hTO hh h1 h2 q1 q2 hx hy fun h' tk a1 a2 a3 a4 a5 a6 a7=>wpAny_pure (hQ h' tk a1 a2 a3 a4 a5 a6 a7)) (F.args_zip_next_1 _))))
theorem qQ {z TI TO i1 i2 l1 l2:Addr}{k:Nat}{xs ys:Array Value}{a b:Value}{c1 c2:Bool}{Q:Option Value→Shared→Prop} (hh:A.handled=none) (D:mT z TI TO i1 i2) (n1:∀c,c=l1∨c=l2→c≠z∧c≠TO∧c≠i1∧c≠i2)
 (hz:IsZip s.heap z TI TO .none) (hTI:IsPair s.heap TI (.ref i1) (.ref i2)) (hTO:IsPair s.heap TO a b)
 (h1:dn s.heap i1 l1 k c1) (h2:dn s.heap i2 l2 k c2) (q1:eV s.heap l1 xs c1) (q2:eV s.heap l2 ys c2) (hend:xs.size=k∨(k<xs.size∧ys.size=k))
 (hQ:∀h' tk,(∀c o,c≠z→c≠TO→c≠i1→c≠i2→s.heap.get? c=some o→h'.get? c=some o)→Q none { s with heap:=h',toks:=tk }):wpAny (model prog w) A (pyNext (.ref z)) Q E s:=by
 have hT:s.TypeIs (.ref z) "zip" := ⟨_,hz,rfl⟩
 unfold pyNext
 refine wpAny_bind (wpAny_attempt (wpAny_callSpecial?_slot (name:=Str.ofString "__next__") hT F.slot_zip_next (wpAny_call_entry F.slot_zip_next hT F.entry_zip_next
  (Af hh D n1 hz hTI hTO h1 h2 q1 q2 hend fun h' e tk hk he=>?_) (F.args_zip_next_1 _))))
 obtain ⟨o,ho,hc⟩:=he
 refine wpAny_bind (wpAny_isInstance (T := "StopIteration") (b:=true) ⟨o,ho,hc⟩ isSubtype_stop (wpAny_pure (hQ _ tk hk)))
end
theorem ac.turnedL {X:Cx}{pins:List (Addr×Obj)}{σ:St}{H:Hp}{s:Shared}{h':Heap}{t':Nat}{ch:List Addr} (I:ac X pins σ H s) (hf:∀b∈ch,jW X pins H b) (k:∀b u,b∉ch→s.heap.get? b=some u→h'.get? b=some u) :
 ac X pins σ H { s with heap:=h',toks:=t' }:=by
 refine I.step (g':=s.gens) (d':=s.drawn) (ch:=ch) (fun b hb=>?_) (fun b o _ _ hc e _=>k b o hc e) (fun b o _ _ hc e _=>⟨o.slots,k b o hc e⟩) (fun _ _ _ _ n=>n)
  (fun b o hc e=>⟨o,k b o hc e⟩) (fun _ _ e=>e) (fun _ _ _ e=>e) (fun b ps e=>⟨#[],by rw [e];simp⟩) (fun m hm=>?_) (fun b u e=>?_) I.bare
 ·obtain ⟨f0,f1,f2,f3,f4,f5⟩:=hf b hb
  exact ⟨f3,f1,f4,f5⟩
 ·obtain ⟨o,es,ep,ho,r⟩:=hm
  exact ⟨o,es,ep,k _ o (fun z=>(hf _ z).2.1 rfl) ho,r⟩
 ·refine (I.hok b u e).stay (fun c v hc q=>k c v (fun z=>?_) q) (fun _ q=>q) fun _ _ q=>q
  have hcn:=(hf c z).1
  rcases hc with rfl | hc
  ·rw [e] at hcn;cases hcn
  ·rw [hc] at hcn;cases hcn
def jY (K:PySem.W.Frag) (H:Hp) (a:Addr) (xs:List V):Bool→Prop
 | true=>ao K H a xs
 | false=>af K H a xs
theorem ac.seqC {X:Cx}{pins:List (Addr×Obj)}{σ:St}{H:Hp}{s:Shared}{a:Addr}{xs:List V} (I:ac X pins σ H s):∀{c:Bool},jY X.K H a xs c→∃its:List Value,aq xs its∧eV s.heap a its.toArray c
 | true,q=>let ⟨its,rv,p,_⟩:=I.list q;⟨its,rv,p.isList⟩
 | false,q=>let ⟨its,rv,p,_⟩:=I.tuple q;⟨its,rv,p⟩
theorem ac.seqC_inj {X:Cx}{pins:List (Addr×Obj)}{σ:St}{H:Hp}{s:Shared}{a:Addr}{xs ys:List V} (I:ac X pins σ H s):∀{c:Bool},jY X.K H a xs c→jY X.K H a ys c→xs=ys
 | true,p,q=>I.list_inj p q
 | false,p,q=>I.tuple_inj p q
def CA (K:PySem.W.Frag) (a1 a2:Addr) (c1 c2:Bool):It:=
 ⟨fun i H=>nZ fun xs ys x y=>jY K H a1 xs c1∧jY K H a2 ys c2∧xs[i]?=some x∧ys[i]?=some y,
  fun i H v H'=>ic fun T x y=>H T=none∧v=.ref T∧H'=aI H T (.tup [x,y])∧(∀xs,jY K H a1 xs c1→xs[i]?=some x)∧(∀ys,jY K H a2 ys c2→ys[i]?=some y),
  fun i H=>bn fun xs ys=>jY K H a1 xs c1∧jY K H a2 ys c2∧(xs.length=i∨(i<xs.length∧ys.length=i))⟩
theorem xH {P:Program}{w:World}{K:PySem.W.Frag}{es:List Expr}{kk:Nat}{pos:Pos} (a1 a2 z TI TO i1 i2:Addr) (c1 c2:Bool) (D:mT z TI TO i1 i2) (n1:∀c,c=a1∨c=a2→c≠z∧c≠TO∧c≠i1∧c≠i2) :
 oK P w K (.Tuple es kk pos) (CA K a1 a2 c1 c2) [z,TO,i1,i2,TI] z (fun i h=>IsZip h z TI TO .none∧IsPair h TI (.ref i1) (.ref i2)∧(bn fun a b=>IsPair h TO a b)∧dn h i1 a1 i c1∧dn h i2 a2 i c2) where
 mem:=by simp
 obj:=fun i h st b hb=>by
  obtain ⟨hz,hTI,⟨a,b',hTO⟩,h1,h2⟩:=st
  have hb':b=z∨b=TO∨b=i1∨b=i2∨b=TI:=by simpa using hb
  rcases hb' with rfl | rfl | rfl | rfl | rfl
  ·exact ⟨_,hz,fun v q=>by have q':Data.fields _=Data.cell v:=q;cases q'⟩
  ·exact ⟨_,hTO,fun v q=>by have q':Data.seq _ _=Data.cell v:=q;cases q'⟩
  ·exact h1.some
  ·exact h2.some
  ·exact ⟨_,hTI,fun v q=>by have q':Data.seq _ _=Data.cell v:=q;cases q'⟩
 keep:=fun i h h' st k=>by
  obtain ⟨hz,hTI,⟨a,b',hTO⟩,h1,h2⟩:=st
  exact ⟨k z (by simp) _ hz,k TI (by simp) _ hTI,⟨a,b',k TO (by simp) _ hTO⟩,h1.at fun o q=>k i1 (by simp) o q,h2.at fun o q=>k i2 (by simp) o q⟩
 item:=by
  intro X hP hw hK hc i pins s σ H E I hf st hg
  subst hP hw hK
  obtain ⟨hz,hTI,⟨a,b',hTO⟩,h1,h2⟩:=st
  obtain ⟨xs,ys,x,y,p1,p2,hx,hy⟩:=hg
  obtain ⟨its1,rv1,k1⟩:=I.seqC p1
  obtain ⟨its2,rv2,k2⟩:=I.seqC p2
  obtain ⟨u,hu,ru⟩:=rv1.get hx
  obtain ⟨v,hv,rw'⟩:=rv2.get hy
  have hnT:H s.heap.objs.size=none:=I.fresh
  refine pF D n1 hz hTI hTO (I.ok.hd hc) h1 h2 k1 k2 (x:=u) (y:=v) (by simpa using hu) (by simpa using hv) fun h' tk zo TO' t1 t2 T' sz keep=>?_
  refine ⟨(),wpAny_letOwnedTupleGo_zip (s:={ s with heap:=h',toks:=tk }) zo fun h2' z2 s2=>?_⟩
  have zlt:z<s.heap.objs.size:=Heap.lt_size hz
  have TOlt:TO<s.heap.objs.size:=Heap.lt_size hTO
  have TIlt:TI<s.heap.objs.size:=Heap.lt_size hTI
  have i1lt:i1<s.heap.objs.size:=let ⟨_,e,_⟩:=h1.some;Heap.lt_size e
  have i2lt:i2<s.heap.objs.size:=let ⟨_,e,_⟩:=h2.some;Heap.lt_size e
  have hT2:h2'.get? s.heap.objs.size=some { cls:=.type "tuple",data:=.seq #[u,v] }:=(s2.2 _ (Nat.ne_of_gt zlt)).trans T'
  refine ⟨.ref s.heap.objs.size,aI H s.heap.objs.size (.tup [x,y]),I.turnedNew (ch:=[z,TO,i1,i2,TI]) (t':=tk) hf (fun b o hb q=>?_) (Nat.le_refl _) ?_,rfl,
   ⟨_,x,y,hnT,rfl,rfl,fun zs hs=>by rw [I.seqC_inj hs p1];exact hx,fun zs hs=>by rw [I.seqC_inj hs p2];exact hy⟩,⟨z2,(s2.2 _ D.a1).trans (keep _ _ D.a1 D.a5 D.a6 D.a7 hTI),⟨_,_,(s2.2 _ D.a2).trans TO'⟩,t1.at fun o e=>(s2.2 _ D.a3).trans e,t2.at fun o e=>(s2.2 _ D.a4).trans e⟩,fun b hb=>?_⟩
  ·have e1:b≠z:=fun q=>hb (by simp [q])
   have e2:b≠TO:=fun q=>hb (by simp [q])
   have e3:b≠i1:=fun q=>hb (by simp [q])
   have e4:b≠i2:=fun q=>hb (by simp [q])
   exact (s2.2 b e1).trans (keep b o e1 e2 e3 e4 q)
  ·exact ⟨by show 2≤sizeLine;decide,[u,v],.cons ru (.cons rw' .nil),⟨_,hT2,rfl,()⟩,_,hT2,rfl⟩
  ·have hb':b=z∨b=TO∨b=i1∨b=i2∨b=TI:=by simpa using hb
   have hlt:b<s.heap.objs.size:=by rcases hb' with rfl | rfl | rfl | rfl | rfl <;> assumption
   rw [ak (Nat.ne_of_lt hlt)]
   exact (hf b hb).1
 done:=by
  intro X hP hw hK hc i pins s σ H E I hf st hg
  subst hP hw hK
  obtain ⟨hz,hTI,⟨a,b',hTO⟩,h1,h2⟩:=st
  obtain ⟨xs,ys,p1,p2,hl⟩:=hg
  obtain ⟨its1,rv1,k1⟩:=I.seqC p1
  obtain ⟨its2,rv2,k2⟩:=I.seqC p2
  have l1:=rv1.length
  have l2:=rv2.length
  refine qQ (I.ok.hd hc) D n1 hz hTI hTO h1 h2 k1 k2 (by simp;trivial) fun h' tk keep=>⟨rfl,I.turnedL (ch:=[z,TO,i1,i2,TI]) (t':=tk) hf fun b o hb q=>?_⟩
  exact keep b o (fun q=>hb (by simp [q])) (fun q=>hb (by simp [q])) (fun q=>hb (by simp [q])) (fun q=>hb (by simp [q])) q
 self:=fun _ _ _ _ _ st h=>wpAny_pyIter_zip st.1 h
def zN (K:PySem.W.Frag) (ta:TA):TI:=fun σ H R=>ta σ H fun vs H1=>nZ fun a1 a2 c1 c2=>vs=[.ref a1,.ref a2]∧(∃xs,jY K H1 a1 xs c1)∧(∃ys,jY K H1 a2 ys c2)∧R (CA K a1 a2 c1 c2) H1
theorem xA:bootBuiltins "zip" = some (.type "zip"):=by nofun
theorem z9 {X:Cx}{es:List Expr}{kk:Nat}{tp:Pos}{a b:Expr}{ta:TA}{p pos:Pos} (hg:Gl X "zip") (hm:X.mg "zip" = none) (ha:PA X [a,b] ta) (hs:starEach [a,b] X.env=[(false,eval a X.env),(false,eval b X.env)]:=by rfl) (hs2:starEach [b] X.env=[(false,eval b X.env)]:=by rfl) :
 PI X (.Tuple es kk tp) (.Call (.Name "zip" p) [a,b] [] pos) (zN X.K ta):=by
 intro pins s σ H R I h
 refine Call_ (jC I hg hm xA (PyProof.Rows.callWith_type1 (aF (ha pos pins s σ H _ I h) fun us s1 ⟨vs,H1,I1,r1,q1⟩=>?_) (by rw [hs,hs2]) (by rw [hs2];rfl)))
 obtain ⟨a1,a2,c1,c2,rfl,⟨xs,p1⟩,⟨ys,p2⟩,q⟩:=q1
 obtain ⟨u1,u2,rfl,ru1,ru2⟩:=r1.two
 obtain rfl:u1=.ref a1:=ru1
 obtain rfl:u2=.ref a2:=ru2
 obtain ⟨its1,rv1,k1⟩:=I1.seqC p1
 obtain ⟨its2,rv2,k2⟩:=I1.seqC p2
 have d1:=k1.lt
 have d2:=k2.lt
 refine vK k1 k2 fun h' hz hTI hTO t1 t2 hk=>wpAny_pyIter_zip hz ?_
 have I2:ac X pins σ H1 { s1 with heap:=h',toks:=s1.toks }:=I1.kept hk
 refine ⟨s1.heap.objs.size+4,[s1.heap.objs.size+4,s1.heap.objs.size+3,s1.heap.objs.size,s1.heap.objs.size+1,s1.heap.objs.size+2],_,_,H1,rfl,I2,xH a1 a2 (s1.heap.objs.size+4) (s1.heap.objs.size+2) (s1.heap.objs.size+3) s1.heap.objs.size (s1.heap.objs.size+1) c1 c2
  ⟨by simp,by simp,Nat.ne_of_lt (by simp),by simp,by simp,Nat.ne_of_gt (by simp),by simp,Nat.ne_of_gt (by simp),by simp,Nat.ne_of_lt (by simp)⟩ (fun c hc=>?_),⟨hz,hTI,⟨_,_,hTO⟩,t1,t2⟩,fun b hb=>?_,q⟩
 ·have:c<s1.heap.objs.size:=by rcases hc with rfl | rfl <;> assumption
  exact ⟨Nat.ne_of_lt (Nat.lt_of_lt_of_le this (Nat.le_add_right _ _)),Nat.ne_of_lt (Nat.lt_of_lt_of_le this (Nat.le_add_right _ _)),Nat.ne_of_lt this,Nat.ne_of_lt (Nat.lt_of_lt_of_le this (Nat.le_add_right _ _))⟩
 ·have hb':b=s1.heap.objs.size+4∨b=s1.heap.objs.size+3∨b=s1.heap.objs.size∨b=s1.heap.objs.size+1∨b=s1.heap.objs.size+2:=by simpa using hb
  have hle:s1.heap.objs.size≤b:=by rcases hb' with rfl | rfl | rfl | rfl | rfl <;> trivial
  exact I1.fpOk hle (I1.hok.fresh hle)
def rC:PyData→Bool
 | .list _=>true
 | .tuple _=>true
 | _=>false
theorem fO {K:PySem.W.Frag} (d:PyData):PySem.W.kitAny K (.type (sF d)) [.type "list",.type "tuple"]=some (rC d):=by
 unfold PySem.W.kitAny PySem.W.kitAny PySem.W.kitAny
 rw [jT,iQ]
 cases d <;> rfl
inductive A5 (K:PySem.W.Frag) (xs:List V) (H:Hp) (Q:VK):Prop
 | mk (x:V) (p:Addr) (d:PyData) (E:Addr→Prop) (h0:xs=[x,.ref p]) (h1:aC E H x d) (h2:af K H p [.ty "list",.ty "tuple"]) (h3:Q (.bl (rC d)) H)
def x9 (K:PySem.W.Frag):List V→Hp→VK→Prop:=fun xs H Q=>A5 K xs H Q
section
variable {X:Cx}{K:PySem.W.Frag}
theorem sG:cz X (.builtin "isinstance") (x9 X.K):=by
 intro pins s σ H xs us Q I r h
 obtain ⟨x,p,d,E,rfl,hx,hp,q⟩:=h
 obtain ⟨u,c,rfl,ru,rc⟩:=r.two
 obtain rfl:c=Value.ref p:=rc
 obtain ⟨its,rv,⟨o,e1,e2,n,e3⟩,_⟩:=I.tuple hp
 obtain ⟨u1,u2,rfl,r1,r2⟩:=rv.two
 obtain rfl:u1=Value.type "list" := r1
 obtain rfl:u2=Value.type "tuple" := r2
 have q':∀tk,EP X pins σ Q (.bool (rC d)) { s with toks:=tk }:=fun tk=>⟨.bl _,H,I.tok tk,rfl,q⟩
 obtain ⟨oc,od,odt,osl⟩:=o
 dsimp only at e2 e3
 subst e2 e3
 cases hx with
 | non=>cases (show u=Value.none from ru);exact PySem.W.kia_tup PySem.W.kitx_none I.kIn True.intro e1 (fO .none) (fun z=>nomatch z) q'
 | bl y=>cases (show u=Value.bool y from ru);exact PySem.W.kia_tup PySem.W.kitx_bool I.kIn True.intro e1 (fO (.bool y)) (fun z=>nomatch z) q'
 | int i=>obtain ⟨t,w⟩:=(show ∃t,u=Value.int i t from ru);cases w;exact PySem.W.kia_tup PySem.W.kitx_int I.kIn True.intro e1 (fO (.int i)) (fun z=>nomatch z) q'
 | str y=>obtain ⟨t,w⟩:=(show ∃t,u=Value.str y t from ru);cases w;exact PySem.W.kia_tup PySem.W.kitx_str I.kIn True.intro e1 (fO (.str y)) (fun z=>nomatch z) q'
 | @lst a xs ds ea _ _=>
  cases (show u=Value.ref a from ru)
  obtain ⟨_,_,m,_,h1⟩:=(show be X.prog X.w H s.heap a (.lst xs) from I.hok a _ ea)
  exact PySem.W.kia_tup PySem.W.kitx_list I.kIn ⟨_,h1,rfl⟩ e1 (fO (.list ds)) (fun z=>nomatch z) q'
 | @tup a xs ds ea _=>
  cases (show u=Value.ref a from ru)
  obtain ⟨_,_,_,p,_⟩:=(show be X.prog X.w H s.heap a (.tup xs) from I.hok a _ ea)
  obtain ⟨o,h1,h2,_⟩:=p
  exact PySem.W.kia_tup PySem.W.kitx_tuple I.kIn ⟨o,h1,h2⟩ e1 (fO (.tuple ds)) (fun z=>nomatch z) q'
theorem u7 (e:X.K=K:=by rfl):cz X (.builtin "isinstance") (x9 K):=by subst e;exact sG
end
def Sz (m:Nat) (i:Int):Prop:=i.natAbs<2 ^ m
theorem Sz.log {m:Nat}{i:Int} (h:Sz m i) (h0:i≠0):i.natAbs.log2<m:=(Nat.log2_lt (by trivial)).mpr h
section
variable {X:Cx}
end
def Dp:Nat→PyData→Prop
 | 0,_=>False
 | n+1,.list xs=>xs.length≤1000∧∀x∈xs,Dp n x
 | n+1,.tuple xs=>xs.length≤1000∧∀x∈xs,Dp n x
 | _+1,_=>True
inductive yN (n:Nat) (vs:List V) (H:Hp) (Q:VK):Prop
 | mk (x y:V) (d:PyData) (E:Addr→Prop) (h0:vs=[x,y]) (h1:aC E H x d) (h2:aC E H y d) (h3:Dp n d) (h4:∀H',aj H H'→Q (.bl true) H')
def A4 (n:Nat):Sp:=fun vs H Q _=>yN n vs H Q
theorem fu {H H':Hp}{D:Addr}{o:HO} (hD:H D=none) (k:aj H H'):aj H (aI H' D o):=fun b u e=>by
 rw [ak (aE e hD)];exact k b u e
theorem aw.nth {E:Addr→Prop}{H:Hp}{vs:List V}{ds:List PyData} (r:aw E H vs ds) (i:Nat) {v:V}{d:PyData} (hv:vs[i]?=some v) (hd:ds[i]?=some d):aC E H v d:=by
 obtain ⟨d',e,h⟩:=r.get hv
 rw [hd] at e
 cases e
 exact h
theorem aD.free {b p:Addr}{H H9:Hp}{t9:Int} (s:aD (Eb b) H H9) (B:Bx H9 b t9) (h:H9 p=none):H p=none:=by
 cases e:H p with
 | none=>rfl
 | some o=>
  by_cases hb:p=b
  ·obtain ⟨c,x,eb,_⟩:=B
   rw [←hb,h] at eb;cases eb
  ·rw [s.old p o hb e] at h;cases h
mutual
theorem aC.narrow {E F:Addr→Prop}{H:Hp} (k:∀a,F a→E a):∀{v:V}{d:PyData},aC E H v d→aC F H v d
 | _,_,.non=>.non
 | _,_,.bl b=>.bl b
 | _,_,.int i=>.int i
 | _,_,.str x=>.str x
 | _,_,.lst h ne r=>.lst h (fun z=>ne (k _ z)) (aw.narrow k r)
 | _,_,.tup h r=>.tup h (aw.narrow k r)
theorem aw.narrow {E F:Addr→Prop}{H:Hp} (k:∀a,F a→E a):∀{vs:List V}{ds:List PyData},aw E H vs ds→aw F H vs ds
 | _,_,.nil=>.nil
 | _,_,.cons h r=>.cons (aC.narrow k h) (aw.narrow k r)
end
theorem nE {Q:VK}{H:Hp}{x:V} (h:Q (.bl true) H):Q (.bl (decide (x=x))) H:=by rw [decide_eq_true rfl];exact h
theorem tP (n:Nat):(List.replicate n true).all id=true:=by
 induction n with
 | zero=>rfl
 | succ n ih=>rw [List.replicate_succ,List.all_cons,ih];rfl
theorem so (n:Nat):(List.replicate n true).map V.bl++[V.bl true]=(List.replicate (n+1) true).map V.bl:=by
 rw [List.replicate_succ',List.map_append];rfl
def xQ (H1:Hp) (D:Addr) (i:Nat) (H':Hp) (ys:List V):Prop:=ys=(List.replicate i true).map V.bl∧H' D=some (.lst ys)∧aj H1 H'
theorem nj {x:V}{A B:Prop} (h:B):if (!decide (x=x))=true then A else B:=by rw [decide_eq_true rfl];exact aO h
theorem nJ {x:V}{A B:Prop} (h:A):if decide (x=x)=true then A else B:=by rw [decide_eq_true rfl];exact aY h
abbrev fr (z:Int×Int):HO:=.tup [.int z.1,.int z.2]
structure Nw (H:Hp) (p:Addr) (o:HO) (H':Hp):Prop where
 fr:H p=none
 sm:aj H H'
 at':H' p=some o
theorem Nw.mk' {H:Hp}{p:Addr}{o:HO} (h:H p=none):Nw H p o (aI H p o):=⟨h,aj.new h,az⟩
section
variable {X:Cx}{es:List Expr}{t:TA}{pos:Pos}{K:PySem.W.Frag}
def BU (t:TA):TE:=fun σ H Q=>t σ H fun xs H1=>xs.length≤10000∧∀p H',Nw H1 p (.tup xs) H'→Q (.ref p) H'
def Bz (t:TA):TE:=fun σ H Q=>t σ H fun xs H1=>xs.length≤10000∧∀p H',Nw H1 p (.lst xs) H'→Q (.ref p) H'
theorem gW {n:Nat} (h:n≤10000):n≤sizeLine:=by rw [sizeLine_eq];trivial
theorem ar {x1} (h:PA X es t):PE X (.Tuple es x1 pos) (BU t):=by
 intro pins s σ H Q I hq
 refine wpAny_Tuple_spliced (aF (h pos pins s σ H _ I hq) fun us s1 ⟨xs,H1,I1,r,z',q⟩=>⟨by rw [←r.length];exact gW z',?_⟩)
 have z:=gW z'
 have hf:H1 s1.heap.objs.size=none:=I1.hok.fresh (Nat.le_refl _)
 refine ⟨.ref s1.heap.objs.size,aI H1 s1.heap.objs.size (.tup xs),I1.laid (t':=s1.toks) (fun b u e=>Heap.get?_push_of_some _ e) (Nat.le_refl _) ?_,rfl,q _ _ (.mk' hf)⟩
 exact ⟨z,us,r,⟨_,Heap.get?_push_size _ rfl,rfl,()⟩,_,Heap.get?_push_size _ rfl,rfl⟩
theorem b5 (h:PA X es t):PE X (.List es pos) (Bz t):=by
 intro pins s σ H Q I hq
 refine wpAny_List_spliced (aF (h pos pins s σ H _ I hq) fun us s1 ⟨xs,H1,I1,r,z',q⟩=>⟨by rw [←r.length];exact gW z',?_⟩)
 have z:=gW z'
 have hf:H1 s1.heap.objs.size=none:=I1.hok.fresh (Nat.le_refl _)
 refine ⟨.ref s1.heap.objs.size,aI H1 s1.heap.objs.size (.lst xs),I1.laid (t':=s1.toks) (fun b u e=>Heap.get?_push_of_some _ e) (Nat.le_refl _) ?_,rfl,q _ _ (.mk' hf)⟩
 exact ⟨z,us,0,r,Heap.get?_push_size _ rfl⟩
inductive AR (x:V) (y:V) (H:Hp) (Q:VK):Prop
 | mk (l:_) (b:_) (xs:_) (zs:_) (h0:x=.ref l) (h1:y=.ref b) (h2:H l=some (.lst xs)) (h3:H b=some (.lst zs)) (h4:xs.length+zs.length≤10000) (h5:∀p H',Nw H p (.lst (xs++zs)) H'→Q (.ref p) H')
def BN:R2:=fun x y H Q=>AR  x y H Q
theorem y6:cr X (binaryOp .Add) BN:=fun pins s σ H x y v u Q I rx ry ⟨l,b,xs,zs,e1,e2,h1,h2,hz,q⟩=>
 zQ pins s σ H x y v u Q I rx ry ⟨l,b,xs,zs,e1,e2,h1,h2,gW hz,fun p hp=>q p _ (.mk' hp)⟩
inductive Cq (K:PySem.W.Frag) (x:V) (lo:Option Int) (hi:Option Int) (H:Hp) (Q:VK):Prop
 | mk (a:_) (xs:_) (h0:x=.ref a) (h1:ao K H a xs) (h2:∀p H',Nw H p (.lst (fj xs lo hi)) H'→Q (.ref p) H')
def Dv (K:PySem.W.Frag):V→Option Int→Option Int→Hp→VK→Prop:=fun x lo hi H Q=>Cq K x lo hi H Q
theorem rO (e:X.K=K:=by rfl):wg X (Dv K):=by
 subst e
 exact fun pins s σ H x v vl vu lo hi sl Q I rx hs pl pu ⟨a,xs,e,h,q⟩=>yD pins s σ H x v vl vu lo hi sl Q I rx hs pl pu ⟨a,xs,e,h,fun p hp=>q p _ (.mk' hp)⟩
inductive yj (K:PySem.W.Frag) (xs:List V) (H:Hp) (Q:VK):Prop
 | mk (p:_) (ys:_) (h0:xs=[.ref p]) (h1:(ao K H p ys∨af K H p ys)) (h2:∀l H',Nw H l (.lst ys) H'→Q (.ref l) H')
def AT (K:PySem.W.Frag):List V→Hp→VK→Prop:=fun xs H Q=>yj K xs H Q
theorem gu (e:X.K=K:=by rfl):cz X (.type "list") (AT K):=by
 subst e
 exact fun pins s σ H xs us Q I r ⟨p,ys,e,h,q⟩=>rE pins s σ H xs us Q I r ⟨p,ys,e,h,fun l hl=>q l _ (.mk' hl)⟩
inductive wM (K:PySem.W.Frag) (xs:List V) (H:Hp) (Q:VK):Prop
 | mk (p:_) (ys:_) (h0:xs=[.ref p]) (h1:ao K H p ys) (h2:∀l H',Nw H l (.tup ys) H'→Q (.ref l) H')
def yw (K:PySem.W.Frag):List V→Hp→VK→Prop:=fun xs H Q=>wM K xs H Q
theorem ir (e:X.K=K:=by rfl):cz X (.type "tuple") (yw K):=by
 subst e
 exact fun pins s σ H xs us Q I r ⟨p,ys,e,h,q⟩=>qJ pins s σ H xs us Q I r ⟨p,ys,e,.inl ⟨h,fun l hl=>q l _ (.mk' hl)⟩⟩
end
structure Ch (H:Hp) (p:Addr) (xs:List V) (H':Hp):Prop where
 at':H' p=some (.lst xs)
 ol:∀a o,a≠p→H a=some o→H' a=some o
 fre:∀a,a≠p→H a=none→H' a=none
theorem Ch.mk' {H:Hp}{p:Addr}{xs:List V}:Ch H p xs (aI H p (.lst xs)):=⟨az,fun a o n h=>by rw [ak n];exact h,fun a n h=>by rw [ak n];exact h⟩
theorem Ch.tup {H H':Hp}{p a:Addr}{xs ys zs:List V} (c:Ch H p xs H') (h:H a=some (.tup ys)) (hp:H p=some (.lst zs)):H' a=some (.tup ys):=c.ol a _ (nu h hp (by intro z;cases z)) h
section
variable {X:Cx}
inductive AK (o:V) (i:V) (v:V) (H:Hp) (Q:(Hp→Prop)):Prop
 | mk (p:_) (xs:_) (k:_) (j:_) (h0:o=.ref p) (h1:i=.int k) (h2:H p=some (.lst xs)) (h3:kg xs.length k=some j) (h4:∀H',Ch H p (xs.set j v) H'→Q H')
def Ca:V→V→V→Hp→(Hp→Prop)→Prop:=fun o i v H Q=>AK  o i v H Q
theorem qB:uO X Ca:=fun pins s σ H o i v ov iv u Q I ro ri rv ⟨p,xs,k,j,e1,e2,h,hj,q⟩=>oj pins s σ H o i v ov iv u Q I ro ri rv ⟨p,xs,k,j,e1,e2,h,hj,q _ .mk'⟩
inductive Ac (x:V) (vs:List V) (H:Hp) (Q:VK):Prop
 | mk (l:_) (xs:_) (y:_) (h0:x=.ref l) (h1:vs=[y]) (h2:H l=some (.lst xs)) (h3:xs.length≤10000) (h4:∀H',Ch H l (xs++[y]) H'→Q .non H')
def xW:V→List V→Hp→VK→Prop:=fun x vs H Q=>Ac  x vs H Q
theorem b3:tm X "list.append" xW:=fun pins s σ H x vs v us Q I rx rv ⟨l,xs,y,e1,e2,h,hz,q⟩=>qf pins s σ H x vs v us Q I rx rv ⟨l,xs,y,e1,e2,h,(by rw [sizeLine_eq];trivial),q _ .mk'⟩
end
theorem Bx.ch {H H':Hp}{b p:Addr}{t:Int}{xs:List V} (h:Bx H b t) (k:Ch H p xs H') (ne:b≠p):Bx H' b t:=by
 obtain ⟨c,x,e,q,q2,q3⟩:=h
 exact ⟨c,x,k.ol b _ ne e,q,q2,q3⟩
theorem Bx.ne {H:Hp}{b p:Addr}{t:Int} (h:Bx H b t) (hp:H p=none):b≠p:=fun z=>by
 obtain ⟨c,x,e,_⟩:=h
 rw [z,hp] at e;cases e
section
variable {X:Cx}{e:Expr}{te:TE}{st:Expr}{ts:TO}{p2 pos:Pos}{K:PySem.W.Frag}
end
def S (l:List Nat):Str:=⟨l.toArray⟩
theorem xI {a b:List Nat} (h:S a=S b):a=b:=by
 have:a.toArray=b.toArray:=by injection h
 simpa using this
theorem ur (a b:List Nat):S a++S b=S (a++b):=by
 show (⟨a.toArray++b.toArray⟩:Str)=⟨(a++b).toArray⟩
 simp
theorem q9 (a:List Nat):(S a).length=a.length:=by
 show a.toArray.size=_
 simp
theorem Bi (a:List Nat):(S a).cps.toList=a:=rfl
theorem wp (k:Nat) (l:List Nat):∀acc:List Nat,(List.replicate k l.toArray).foldl (·++·) acc.toArray=(acc++(List.replicate k l).flatten).toArray:=by
 induction k with
 | zero=>intro acc;simp
 | succ k ih=>
  intro acc
  rw [List.replicate_succ,List.foldl_cons,List.replicate_succ,List.flatten_cons]
  have:acc.toArray++l.toArray=(acc++l).toArray:=by simp
  rw [this,ih,List.append_assoc]
theorem qi:∀ls:List (List Nat),Str.join (S []) (ls.map S)=S ls.flatten
 | []=>rfl
 | [a]=>by
  show S a=S (a++[])
  rw [List.append_nil]
 | a :: b :: r=>by
  have e:Str.join (S []) ((a :: b :: r).map S)=S a++S []++Str.join (S []) ((b :: r).map S):=rfl
  rw [e,qi (b :: r),ur,ur,List.append_nil]
  rfl
section
variable {X:Cx}{K:PySem.W.Frag}
inductive zZ (x:V) (y:V) (H:Hp) (Q:VK):Prop
 | mk (l:_) (n:_) (h0:x=.str (S l)) (h1:y=.int n) (h2:1≤n) (h3:n≤1000) (h4:l.length≤100) (h5:Q (.str (S (List.replicate n.toNat l).flatten)) H)
def Ci:R2:=fun x y H Q=>zZ  x y H Q
theorem yH:cr X (binaryOp .Mult) Ci:=by
 intro pins s σ H x y v u Q I rx ry h
 obtain ⟨l,n,rfl,rfl,h1,h2,h3,q⟩:=h
 obtain ⟨t,rfl⟩:=rx
 obtain ⟨t',rfl⟩:=ry
 have hlen:(S l).length=l.length:=q9 l
 have hmul:l.length*n.toNat≤100*1000:=Nat.mul_le_mul h3 (by trivial)
 refine PySem.P.mul_str ?_ ?_ ?_ ?_
 ·rw [decide_eq_false (by trivial),decide_eq_false (by trivial)];rfl
 ·intro _ _
  rw [hlen]
  have:(100:Int)<(2 ^ 63 - 1) / n:=by
   have:(100+1)*n≤2 ^ 63 - 1:=by trivial
   have:=(Int.le_ediv_iff_mul_le (by trivial:0<n)).mpr this
   trivial
  trivial
 ·intro _ _
  rw [hlen]
  unfold Builtin.Str.tooLong
  rw [decide_eq_false]
  rw [sizeLine_eq]
  trivial
 ·rw [if_neg (by trivial)]
  by_cases hn:(n==1 || (S l).length==0)=true
  ·rw [if_pos hn]
   refine ⟨.str (S l),H,I,⟨t,rfl⟩,?_⟩
   have e:(List.replicate n.toNat l).flatten=l:=by
    rw [hlen] at hn
    have hn':n=1∨l.length=0:=by simpa using hn
    rcases hn' with rfl | hn'
    ·simp
    ·have:l=[]:=List.eq_nil_of_length_eq_zero hn'
     subst this
     simp
   rw [e] at q
   exact q
  ·rw [if_neg hn]
   have e:(⟨(List.replicate n.toNat (S l).cps).foldl (·++·) #[]⟩:Str)=S (List.replicate n.toNat l).flatten:=by
    have e:=wp n.toNat l []
    rw [List.nil_append] at e
    exact congrArg Str.mk e
   rw [e]
   refine ⟨?_,.str (S (List.replicate n.toNat l).flatten),H,I.tok _,⟨()⟩,q⟩
   rw [q9,y8,sizeLine_eq,Nat.mul_comm]
   trivial
inductive Au (K:PySem.W.Frag) (x:V) (vs:List V) (H:Hp) (Q:VK):Prop
 | mk (a:_) (ls:_) (h0:x=.str (S [])) (h1:vs=[.ref a]) (h2:ao K H a ((ls:List (List Nat)).map fun l=>V.str (S l))) (h3:(ls.map (·.length)).sum≤10000) (h4:Q (.str (S ls.flatten)) H)
def BJ (K:PySem.W.Frag):V→List V→Hp→VK→Prop:=fun x vs H Q=>Au K x vs H Q
theorem vq {ls:List (List Nat)}:∀{us:List Value},aq (ls.map fun l=>V.str (S l)) us→StrsAre us (ls.map S):=by
 induction ls with
 | nil=>intro us h;cases h;exact .nil
 | cons l r ih=>
  intro us h
  cases h with
  | cons h t=>
   obtain ⟨tk,rfl⟩:=h
   exact .cons _ _ (ih t)
theorem y4 (ek:X.K=K:=by rfl):rR X "str.join" (BJ K):=by
 subst ek
 intro pins s σ H x vs v us Q I rx rv h
 obtain ⟨a,ls,rfl,rfl,hS,hz,q⟩:=h
 obtain ⟨t,rfl⟩:=rx
 obtain ⟨u,rfl,ru⟩:=rv.one
 obtain rfl:u=Value.ref a:=ru
 obtain ⟨its,r,ht,_⟩:=I.list hS
 have e1:((ls.map S).map (·.length)).sum=(ls.map (·.length)).sum:=by
  rw [List.map_map]
  congr 1
 refine join_list (ys:=ls.map S) ht.isList (by simpa using vq r) ?_ fun t' k=>?_
 ·rw [e1,show (S []).length=0 from rfl]
  trivial
 ·have:=join_plain_closes (S []) (ls.map S)
  rw [eq_of_beq this,qi]
  exact ⟨.str (S ls.flatten),H,I.tok k,⟨()⟩,q⟩
inductive zt (x:V) (y:V) (H:Hp) (Q:VK):Prop
 | mk (a:_) (b:_) (h0:x=.str (S a)) (h1:y=.str (S b)) (h2:a.length+b.length≤10000) (h3:Q (.str (S (a++b))) H)
def BQ:R2:=fun x y H Q=>zt  x y H Q
theorem zh:cr X (binaryOp .Add) BQ:=fun pins s σ H x y v u Q I rx ry ⟨a,b,e1,e2,hz,q⟩=>
 ui pins s σ H x y v u Q I rx ry ⟨S a,S b,e1,e2,by rw [q9,q9];exact gW hz,by rw [ur];exact q⟩
end
theorem ub:Str.ofString "abcdefghijklmnopqrstuvwxyz" = S ((List.range 26).map (97+·)):=by nofun
theorem wK:Str.ofString "" = S []:=by nofun
theorem mr {i:Int} (h0:-26≤i) (h1:i<26):gJ ((Str.ofString "abcdefghijklmnopqrstuvwxyz").cps.toList) i=some (97+(i % 26).toNat):=by
 rw [ub,Bi]
 have:∀k:Fin 52,gJ ((List.range 26).map (97+·)) ((k.val:Int) - 26)=some (97+(((k.val:Int) - 26) % 26).toNat):=by nofun
 have e:=this ⟨(i+26).toNat,by trivial⟩
 simp only at e
 rw [show (((i+26).toNat:Nat):Int) - 26=i by trivial] at e
 exact e
abbrev bt (l:List Nat):V:=.str (S l)
theorem Dj (n c:Nat):(List.replicate n [c]).flatten=List.replicate n c:=by
 induction n with
 | zero=>rfl
 | succ n ih=>rw [List.replicate_succ,List.flatten_cons,ih,List.replicate_succ];rfl
theorem aD.ch {b D:Addr}{H H1 H2:Hp}{xs:List V} (s:aD (Eb b) H H1) (c:Ch H1 D xs H2) (hD:H D=none):aD (Eb b) H H2:=
 ⟨fun a u ne h=>c.ol a u (aE h hD) (s.old a u ne h),fun a us h=>c.ol a _ (aE h hD) (s.tup a us h)⟩
theorem aD.up {b D:Addr}{H H1:Hp}{o:HO} (s:aD (Eb b) H H1) (hD:H D=none):aD (Eb b) H (aI H1 D o):=
 ⟨fun a u ne h=>by rw [ak (aE h hD)];exact s.old a u ne h,fun a us h=>by rw [ak (aE h hD)];exact s.tup a us h⟩
def C5 (x:Str):Prop:=x.length≤300∧∀c∈x.cps.toList,c<128
mutual
inductive Wt:PyData→Nat→Nat→Prop
 | non {k:Nat}:Wt .none 1 k
 | bl (b:Bool) {k:Nat}:Wt (.bool b) 1 k
 | int {i:Int} (h:Sz 1900 i) {k:Nat}:Wt (.int i) 1 k
 | str {x:Str} (h:C5 x) {k:Nat}:Wt (.str x) 1 k
 | list {xs:List PyData}{n k:Nat} (h:iS xs n k):Wt (.list xs) (n+1) (k+1)
 | tuple {xs:List PyData}{n k:Nat} (h:iS xs n k):Wt (.tuple xs) (n+1) (k+1)
inductive iS:List PyData→Nat→Nat→Prop
 | nil {k:Nat}:iS [] 0 k
 | cons {x:PyData}{xs:List PyData}{m n k:Nat} (h:Wt x m k) (r:iS xs n k):iS (x :: xs) (m+n) k
end
mutual
theorem Wt.dep:∀{d:PyData}{n k:Nat},Wt d n k→d.depth≤k
 | _,_,_,.non=>by simp [PyData.depth]
 | _,_,_,.bl b=>by simp [PyData.depth]
 | _,_,_,.int h=>by simp [PyData.depth]
 | _,_,_,.str h=>by simp [PyData.depth]
 | _,_,_,.list h=>by simp only [PyData.depth];exact Nat.succ_le_succ (iS.dep h)
 | _,_,_,.tuple h=>by simp only [PyData.depth];exact Nat.succ_le_succ (iS.dep h)
theorem iS.dep:∀{ds:List PyData}{n k:Nat},iS ds n k→PyData.depthAll ds≤k
 | _,_,_,.nil=>by simp [PyData.depthAll]
 | _,_,_,.cons h r=>by simp only [PyData.depthAll];exact Nat.max_le.mpr ⟨Wt.dep h,iS.dep r⟩
end
end L2
namespace L2
open PySem PySem.Spec PyProof.Rows
mutual
theorem Wt.can:∀{d:PyData}{n k:Nat},Wt d n k→d.canLay0=true
 | _,_,_,.non=>by simp [PyData.canLay0]
 | _,_,_,.bl b=>by simp [PyData.canLay0]
 | _,_,_,.int h=>by simp [PyData.canLay0]
 | _,_,_,.str (x:=x) h=>by
  simp only [PyData.canLay0]
  unfold PySem.PyData.strOk
  rw [Array.all_eq_true]
  intro i hi
  have:=h.2 x.cps[i] (by simp)
  simp
  trivial
 | _,_,_,.list h=>by simp only [PyData.canLay0];exact iS.can h
 | _,_,_,.tuple h=>by simp only [PyData.canLay0];exact iS.can h
theorem iS.can:∀{ds:List PyData}{n k:Nat},iS ds n k→PyData.canLayAll0 ds=true
 | _,_,_,.nil=>by simp [PyData.canLayAll0]
 | _,_,_,.cons h r=>by simp only [PyData.canLayAll0,Bool.and_eq_true];exact ⟨Wt.can h,iS.can r⟩
end
section
variable {X:Cx}
end
abbrev ED:Addr→Prop:=fun _=>True
abbrev gH (p:KM.Fra):PyData:=.tuple [.int p.1,.int p.2]
structure gC where
 bg:List Nat
 en:List Nat
 most:KM.Fra
 gain:KM.Fra
 price:KM.Fra
abbrev fJ (t:gC):PyData:=.tuple [.str (S t.bg),.str (S t.en),gH t.most,gH t.gain,gH t.price]
theorem aw.tupS {E:Addr→Prop}{H H':Hp}{v:List V}{d:List PyData} (h:aw ED H v d) (k:aD E H H'):aw ED H' v d:=h.mono ⟨fun _ _ n _=>absurd trivial n,k.tup⟩
theorem aC.tupC {H H':Hp}{v:V}{d:PyData}{p:Addr}{xs ys:List V} (h:aC ED H v d) (k:Ch H p xs H') (hp:H p=some (.lst ys)):aC ED H' v d:=h.mono ⟨fun _ _ n _=>absurd trivial n,fun _ _ e=>k.tup e hp⟩
theorem aC.any {E:Addr→Prop}{H:Hp}{v:V}{d:PyData} (h:aC ED H v d):aC E H v d:=h.narrow fun _ _=>trivial
end L2
namespace L2
open PySem PySem.Spec PyProof.Rows
theorem sL {m:Int} (h0:0<m) (h1:m<1099511627776):m.natAbs.log2<9000:=by
 have a:Sz 40 m:=by show m.natAbs<1099511627776;trivial
 exact Nat.lt_trans (a.log (by trivial)) (by decide)
theorem tW {α:Type}{xs:List α}{k:Int}{f:α→V} (h0:0≤k) (h:k.toNat<xs.length):gJ (xs.map f) k=some (f xs[k.toNat]):=by
 have q:=jy (xs:=xs.map f) (j:=k.toNat) (v:=f xs[k.toNat]) (by rw [List.getElem?_map];simp [h])
 rwa [Int.toNat_of_nonneg h0] at q
end L2
namespace L2
theorem mP {α:Type}{ls:List α} (h:ls.Nodup) {i j:Nat} (hi:i<ls.length) (hj:j<ls.length) (e:ls[i]=ls[j]):i=j:=by
 have p:=List.pairwise_iff_getElem.mp h
 rcases Nat.lt_trichotomy i j with q | q | q
 ·exact absurd e (p i j hi hj q)
 ·exact q
 ·exact absurd e.symm (p j i hj hi q)
end L2
namespace L2
open PySem PySem.Spec PyProof.Rows
end L2
namespace L2
end L2
namespace L2
open PySem PySem.Spec PyProof.Rows
end L2
namespace L2
open PySem PySem.Spec PyProof.Rows
open AutoSeq1 (wpAny_loadPart')
set_option maxHeartbeats 4000000 in
theorem wE (l:Addr) (its:Array Value) (n:Nat) (dct:Option Addr) (sl:Array (Option Value)) :
 Meets (Builtin.«enumerate.__new__» ⟨[.type "enumerate",.ref l],[]⟩) (fun _ R s=>s.heap.get? l=some { cls:=.type "tuple",dict:=dct,data:=.seq its n,slots:=sl }∧
  R (.ok (.ret (.ref (s.heap.push { cls:=.type "tuple_iterator",data:=.fields #[.ref l,.int 0 0] }).objs.size))) { s with heap:=(s.heap.push { cls:=.type "tuple_iterator",data:=.fields #[.ref l,.int 0 0] }).push { cls:=.type "enumerate",data:=.fields #[.none,.bool false,.ref s.heap.objs.size,rawInt 0,.none,.none] } }):=
 .of_wp fun prog w A R s h=>by
  obtain ⟨hp,g,d,tk,os⟩:=s;obtain ⟨hl,h⟩:=h;have hsub:=sub_enumerate
  have hT:Heap.IsTuple (Shared.heap ⟨hp,g,d,tk,os⟩) l its:=⟨_,hl,rfl,n,rfl⟩
  wp_walk using wpAny_loadPart' hl
  refine wpAny_stack_any fun st=>wpAny_pure ?_;split
  ·rename_i c _ _ _ _ _;cases (c==Value.type "enumerate")
   ·wp_walk using wpAny_loadPart' hl,wpAny_pyIter_tuple hT
    exact ⟨(),h⟩
   ·wp_walk using wpAny_loadPart' hl,wpAny_pyIter_tuple hT
    exact ⟨(),h⟩
  ·wp_walk using wpAny_loadPart' hl,wpAny_pyIter_tuple hT
   exact ⟨(),h⟩
section
variable {prog:Program}{w:World}{A:Around}{E:Value→Shared→Prop}{s:Shared}
theorem uw {l:Addr}{its:Array Value}{Q:Value→Shared→Prop}:∀{c:Bool},eV s.heap l its c→
 (∀h',IsEnum h' (s.heap.objs.size+1) s.heap.objs.size 0 .none→dn h' s.heap.objs.size l 0 c→(∀b o,s.heap.get? b=some o→h'.get? b=some o)→Q (.ref (s.heap.objs.size+1)) { s with heap:=h' })→
 wpAny (model prog w) A (call (.type "enumerate") [.ref l]) Q E s
 | true,q,h=>call_enumerate_list q fun h' a b _ k=>h h' a b k
 | false,q,h=>by
  obtain ⟨⟨c,dct,dt,sl⟩,hl,hc,n,hd⟩:=q
  dsimp only at hc hd
  subst hc hd
  refine callType_new F.called_enumerate (by decide) (F.typeCall_enumerate_1 _) (F.newCall_enumerate_1 _) (fun obj=>F.args_object_init_2 obj _) F.entry_enumerate_new (wE l its n dct sl) ⟨hl,?_⟩
  have hz:(s.heap.push { cls:=.type "tuple_iterator",data:=.fields #[.ref l,.int 0 0] }).objs.size=s.heap.objs.size+1:=Heap.size_push ..
  show _∧_
  rw [hz]
  have he:IsEnum ((s.heap.push { cls:=.type "tuple_iterator",data:=.fields #[.ref l,.int 0 0] }).push { cls:=.type "enumerate",data:=.fields #[.none,.bool false,.ref s.heap.objs.size,rawInt 0,.none,.none] }) (s.heap.objs.size+1) s.heap.objs.size 0 .none:=by
   rw [←hz];exact Heap.get?_push_size _ rfl
  exact ⟨⟨_,he,rfl⟩,h _ he ⟨_,Heap.get?_push_of_some _ (Heap.get?_push_size _ rfl),rfl,rfl⟩ fun b o e=>Heap.get?_push_of_some _ (Heap.get?_push_of_some _ e)⟩
end
def AV (K:PySem.W.Frag) (a:Addr) (c:Bool):It:=
 ⟨fun i H=>bn fun xs x=>jY K H a xs c∧xs[i]?=some x,fun i H v H'=>bn fun T x=>H T=none∧v=.ref T∧H'=aI H T (.tup [.int (i:Int),x])∧∀xs,jY K H a xs c→xs[i]?=some x,fun i H=>∃xs,jY K H a xs c∧xs.length=i⟩
theorem tY {P:Program}{w:World}{K:PySem.W.Frag}{es:List Expr}{kk:Nat}{pos:Pos} (a e it:Addr) (c:Bool) (hne:e≠it) (hae:a≠e) (hai:a≠it) :
 oK P w K (.Tuple es kk pos) (AV K a c) [e,it] e (fun i h=>(∃old,IsEnum h e it i old)∧dn h it a i c) where
 mem:=by simp
 obj:=fun i h st b hb=>by
  obtain ⟨⟨old,he⟩,hi⟩:=st
  have hb':b=e∨b=it:=by simpa using hb
  rcases hb' with rfl | rfl
  ·exact ⟨_,he,fun v z=>by have z':Data.fields _=Data.cell v:=z;cases z'⟩
  ·exact hi.some
 keep:=fun i h h' st k=>by
  obtain ⟨⟨old,he⟩,hi⟩:=st
  exact ⟨⟨old,k e (by simp) _ he⟩,hi.at fun o q=>k it (by simp) o q⟩
 item:=by
  intro X hP hw hK hc i pins s σ H E I hf st hg
  subst hP hw hK
  obtain ⟨⟨old,he⟩,hit⟩:=st
  obtain ⟨xs,x,hq,hx⟩:=hg
  obtain ⟨its,rv,p⟩:=I.seqC hq
  obtain ⟨u,hu,ru⟩:=rv.get hx
  have hnT:H s.heap.objs.size=none:=I.fresh
  have hiu:i<its.length:=(List.getElem?_eq_some_iff.mp hu).1
  have D:=lc (prog:=X.prog) (w:=X.w) (A:=X.A.in1) (I.ok.hd hc) it a hai its.toArray c
  refine wpAny_pyNext_enum_itemD D he ⟨hit,p⟩ (by simpa using hiu) hne (by simp;exact ⟨hne,Ne.symm hae⟩) fun u' h' tk hP ho st' hT hsz hk=>?_
  have eu:u=u':=by
   have:its.toArray[i]?=some u':=hP
   rw [List.getElem?_toArray,hu] at this
   exact Option.some.inj this
  subst eu
  refine ⟨(),wpAny_letOwnedTupleGo_enum (s:={ s with heap:=h',toks:=tk+1 }) ho fun h'' he'' hs''=>?_⟩
  have helt:e<s.heap.objs.size:=Heap.lt_size he
  have hilt:it<s.heap.objs.size:=let ⟨_,y,_⟩:=hit.some;Heap.lt_size y
  have hT'':h''.get? s.heap.objs.size=some { cls:=.type "tuple",data:=.seq #[.int i tk,u] }:=(hs''.2 _ (Nat.ne_of_gt helt)).trans hT
  refine ⟨.ref s.heap.objs.size,aI H s.heap.objs.size (.tup [.int (i:Int),x]),I.turnedNew (ch:=[e,it]) (t':=tk+1) hf (fun b o hb q=>?_) (Nat.le_refl _) ?_,rfl,⟨_,x,hnT,rfl,rfl,fun ys hy=>by rw [I.seqC_inj hy hq];exact hx⟩,⟨⟨u,?_⟩,st'.1.at fun o q=>(hs''.2 _ (Ne.symm hne)).trans q⟩,fun b hb=>?_⟩
  ·have h1:b≠e:=fun z=>hb (by simp [z])
   have h2:b≠it:=fun z=>hb (by simp [z])
   exact (hs''.2 b h1).trans (hk b o h1 h2 q)
  ·exact ⟨by show 2≤sizeLine;decide,[.int i tk,u],.cons ⟨()⟩ (.cons ru .nil),⟨_,hT'',rfl,()⟩,_,hT'',rfl⟩
  ·simpa using he''
  ·have hb':b=e∨b=it:=by simpa using hb
   have hlt:b<s.heap.objs.size:=by rcases hb' with rfl | rfl <;> assumption
   rw [ak (Nat.ne_of_lt hlt)]
   exact (hf b hb).1
 done:=by
  intro X hP hw hK hc i pins s σ H E I hf st hg
  subst hP hw hK
  obtain ⟨⟨old,he⟩,hit⟩:=st
  obtain ⟨xs,hq,hx⟩:=hg
  obtain ⟨its,rv,p⟩:=I.seqC hq
  have hl:=rv.length
  have D:=lc (prog:=X.prog) (w:=X.w) (A:=X.A.in1) (I.ok.hd hc) it a hai its.toArray c
  have ei:i=its.toArray.size:=by simp;trivial
  refine wpAny_pyNext_enum_endD D he (by rw [ei] at hit;exact ⟨hit,p⟩) fun h' eb=>⟨rfl,I.turnedL (ch:=[e,it]) (t':=s.toks) hf fun b o hb q=>eb b o (fun z=>hb (by simp [z])) q⟩
 self:=fun _ _ _ _ _ st h=>by
  obtain ⟨⟨old,he⟩,_⟩:=st
  exact wpAny_pyIter_enum he h
def Ao (K:PySem.W.Frag) (ta:TA):TI:=fun σ H R=>ta σ H fun vs H1=>bn fun a c=>vs=[.ref a]∧(∃xs,jY K H1 a xs c)∧R (AV K a c) H1
theorem wu {X:Cx}{K:PySem.W.Frag}{es:List Expr}{kk:Nat}{tp:Pos}{a:Expr}{ta:TA}{p pos:Pos} (hg:Gl X "enumerate") (hm:X.mg "enumerate" = none) (ha:PA X [a] ta) (hs:starEach [a] X.env=[(false,eval a X.env)]:=by rfl) (ek:X.K=K:=by rfl) :
 PI X (.Tuple es kk tp) (.Call (.Name "enumerate" p) [a] [] pos) (Ao K ta):=by
 subst ek
 intro pins s σ H R I h
 refine Call_ (jC I hg hm boot_enumerate (PyProof.Rows.callWith_type1 (aF (ha pos pins s σ H _ I h) fun us s1 ⟨vs,H1,I1,r1,q1⟩=>?_) hs rfl))
 obtain ⟨a,c,rfl,⟨xs,hq⟩,q⟩:=q1
 obtain ⟨u,rfl,ru⟩:=r1.one
 obtain rfl:u=.ref a:=ru
 obtain ⟨its,rv,p⟩:=I1.seqC hq
 have d1:=p.lt
 refine uw p fun h' hE hI hk=>wpAny_pyIter_enum hE ?_
 have I2:ac X pins σ H1 { s1 with heap:=h',toks:=s1.toks }:=I1.kept hk
 refine ⟨s1.heap.objs.size+1,[s1.heap.objs.size+1,s1.heap.objs.size],_,_,H1,rfl,I2,tY a (s1.heap.objs.size+1) s1.heap.objs.size c (Nat.succ_ne_self _) (Nat.ne_of_lt (Nat.lt_succ_of_lt d1)) (Nat.ne_of_lt d1),⟨⟨_,hE⟩,hI⟩,fun b hb=>?_,q⟩
 have hb':b=s1.heap.objs.size+1∨b=s1.heap.objs.size:=by simpa using hb
 have hle:s1.heap.objs.size≤b:=by rcases hb' with rfl | rfl <;> trivial
 exact I1.fpOk hle (I1.hok.fresh hle)
section
variable {X:Cx}
end
end L2
namespace L2
open PySem PySem.Spec PyProof.Rows
theorem aw.set {E:Addr→Prop}{H:Hp}{y:V}{d:PyData} (hy:aC E H y d):∀{xs:List V}{ds:List PyData} (i:Nat),aw E H xs ds→aw E H (xs.set i y) (ds.set i d)
 | _,_,_,.nil=>by simp;exact .nil
 | _,_,0,.cons h r=>by simp;exact .cons hy r
 | _,_,i+1,.cons h r=>by simp;exact .cons h (aw.set hy i r)
section
variable {z:Nat}{E:Addr→Prop}{H H':Hp}{n m k:Nat}{v:V}{xs ys:List V}
end
section
variable {X:Cx}
end
end L2
namespace HT
open PySem PySem.Spec PyProof.Rows
section
variable {prog:Program}{w:World}{A:Around}{E:Value→Shared→Prop}{s:Shared}
theorem getItem_tuple_whole {t sl:Addr}{items:Array Value}{vl vu:Value}{lo hi:Option Int}{Q:Value→Shared→Prop} (ht:IsTup s.heap t items) (hs:s.heap.IsSliceOf sl vl vu .none) (pl:IsPart vl lo) (pu:IsPart vu hi)
 (h1:sIx items.size 0 lo=0) (h2:sIx items.size items.size hi=items.size) (h:Q (.ref t) s):wpAny (model prog w) A (getItem (.ref t) (.ref sl)) Q E s:=by
 obtain ⟨os,hos,hcs,hds⟩:=id hs
 have hTs:s.TypeIs (.ref sl) "slice" := ⟨os,hos,hcs⟩
 unfold getItem
 try with_reducible refine wpAny_holding ?_
 first | refine wpAny_bind (wpAny_pure ?_) | skip
 refine wpAny_bind (wpAny_sequenceKey ht.typeIs (by decide) ?_)
 refine wpAny_bind (wpAny_callSpecial?_slot (name:=Str.ofString "__getitem__") ht.typeIs PyProof.Rows.slot_tuple_getitem
  (wpAny_call_entry PyProof.Rows.slot_tuple_getitem ht.typeIs entry_tuple_getitem ?_ (args_tuple_getitem _ _)))
 show wpAny _ _ (Builtin.Tuple.tupleItemsOf (.ref t) >>= _) _ _ s
 refine wpAny_bind (tupleItemsOf_ ht ?_)
 refine wpAny_bind (wpAny_typeOf hTs ?_)
 rw [if_pos (by decide)]
 refine wpAny_bind (j9 hs pl pu ?_)
 have hyes:((((sIx items.size 0 lo:Nat):Int)==0 && (1:Int)==1 && (sIx items.size items.size hi - sIx items.size 0 lo)==items.size)=true):=by
  rw [h1,h2];simp
 show wpAny _ _ (if (((sIx items.size 0 lo:Nat):Int)==0 && (1:Int)==1 && (sIx items.size items.size hi - sIx items.size 0 lo)==items.size)=true then _ else _) _ _ s
 rw [if_pos hyes]
 refine wpAny_bind (m:=Builtin.Tuple.tupleIsExact _) (wpAny_bind (wpAny_typeOf ht.typeIs (wpAny_pure ?_)))
 rw [if_pos (by decide)]
 exact wpAny_bind (wpAny_rule (wpAny_pure ⟨(),wpAny_pure h⟩))
end
end HT
namespace L2
open PySem PySem.Spec PyProof.Rows
section
variable {X:Cx}{K:PySem.W.Frag}
inductive AY (K:PySem.W.Frag) (x:V) (lo:Option Int) (hi:Option Int) (H:Hp) (Q:VK):Prop
 | mk (a:_) (xs:_) (h0:x=.ref a) (h1:af K H a xs) (h2:H a=some (.tup xs)) (h3:∀p H',aj H H'→H' p=some (.tup (fj xs lo hi))→Q (.ref p) H')
def Br (K:PySem.W.Frag):V→Option Int→Option Int→Hp→VK→Prop:=fun x lo hi H Q=>AY K x lo hi H Q
theorem eG (e:X.K=K:=by rfl):wg X (Br K):=by
 subst e
 intro pins s σ H x v vl vu lo hi sl Q I rx hs pl pu h
 obtain ⟨a,xs,rfl,hx,ha,q⟩:=h
 by_cases hw:HT.sIx xs.length 0 lo=0∧HT.sIx xs.length xs.length hi=xs.length
 ·cases rx
  obtain ⟨its,r,ht,hz⟩:=I.tuple hx
  have hlen:its.toArray.size=xs.length:=by rw [List.size_toArray];exact r.length.symm
  refine ⟨"tuple",_,PyProof.Rows.slot_tuple_getitem.lookup,ht.typeIs,?_⟩
  refine HT.getItem_tuple_whole ht hs pl pu (by rw [hlen];exact hw.1) (by rw [hlen];exact hw.2) ⟨.ref a,H,I,rfl,q a H (aj.refl _) ?_⟩
  have:fj xs lo hi=xs:=by
   unfold fj
   rw [hw.1,hw.2,List.drop_zero,Nat.sub_zero,List.take_length]
  rw [this];exact ha
 ·exact Ba pins s σ H _ v vl vu lo hi sl Q I rx hs pl pu ⟨a,xs,rfl,hx,hw,fun p hp=>q p _ (aj.new hp) az⟩
end
def sx:aS→V
 | .inl i=>.int i
 | .inr x=>.str x
theorem yd {k:aS}{u:Value} (h:aM (sx k) u):lK k u=true∧u.scannable=true:=by
 cases k with
 | inl i=>obtain ⟨t,rfl⟩:=h;exact ⟨vw i t,rfl⟩
 | inr x=>obtain ⟨t,rfl⟩:=h;exact ⟨u8 x t,rfl⟩
section
variable {prog:Program}{w:World}{A:Around}{R:Result→Shared→Prop}{it:Addr}{fp wr:List Addr}{G:Array GenState→Array GenState→Prop}{P:Nat→Value→Prop}{St:Nat→Shared→Prop}
end
section
variable {prog:Program}{w:World}{A:Around}{E:Value→Shared→Prop}{s:Shared}
end
section
variable {X:Cx}{K:PySem.W.Frag}{e:Expr}{te:TE}{p1 p2 p3 p4:Pos}
end
section
variable {X:Cx}{K:PySem.W.Frag}{o e:Expr}{es:List Expr}{to:TE}{t:TA}{name:Str}{apos cpos:Pos}{T id:String}{r:V→List V→Hp→VK→Prop}
theorem b8 (pa:PlainAttrs T) (slot:Slot T name id) (hty:typeOf (.builtin id)=pure (.type "method_descriptor")) (hm:rR X id r) (ho:PE X o to) (ha:PA X (e :: es) t) (ek:X.K=K:=by rfl)
 (h1:attributeBase o name X.env (eval o X.env)=eval o X.env:=by rfl)
 (h2:((backTo cpos (starEach (e :: es) X.env)).all (fun x=>!x.1) && (backToKw cpos (keywordEach [] X.env)).all (fun x=>x.1.isSome) && decide ((e :: es).length+([]:List Keyword).length+(if ([]:List Keyword).isEmpty then 0 else 1)<30))=true:=by rfl)
 (h3:(apos.endLine==cpos.line)=true:=by rfl) (h4:starEach (e :: es) X.env=(false,eval e X.env) :: starEach es X.env:=by rfl) (h5:(backTo cpos (starEach es X.env)).any (·.1)=false:=by rfl) :
 PE X (.Call (.Attribute o name apos) (e :: es) [] cpos) (CB K T r to t):=by
 subst ek
 exact Cr pa slot hty hm ho ha h1 h2 h3 h4 h5
end
theorem sq {X:Cx}{K:PySem.W.Frag}{es:List Expr}{kk:Nat}{tp:Pos}{a b:Expr}{ta:TA}{p pos:Pos} (hg:Gl X "zip") (hm:X.mg "zip" = none) (ha:PA X [a,b] ta) (ek:X.K=K:=by rfl) (h1:starEach [a,b] X.env=[(false,eval a X.env),(false,eval b X.env)]:=by rfl) (h2:starEach [b] X.env=[(false,eval b X.env)]:=by rfl) :
 PI X (.Tuple es kk tp) (.Call (.Name "zip" p) [a,b] [] pos) (zN K ta):=by
 subst ek
 exact z9 hg hm ha h1 h2
end L2
namespace L2
theorem bi {t u:TS}{D:cK}{σ:St}{H:Hp} (h:∀D':cK,(∀σ' H',u D σ' H'→D'.nx σ' H')→t D' σ H):kH t u D σ H:=h { D with nx:=u D } fun _ _ z=>z
theorem cw {t u:TS}{D:cK}{σ:St}{H:Hp} (h:∀D':cK,(∀σ' H',u D σ' H'→D'.nx σ' H')→(∀v H',D.rt v H'→D'.rt v H')→t D' σ H):kH t u D σ H:=h { D with nx:=u D } (fun _ _ z=>z) fun _ _ z=>z
theorem rj {t:TS}{D:cK}{σ:St}{H:Hp} (h:∀D':cK,(∀σ' H',D.nx σ' H'→D'.nx σ' H')→t D' σ H):t D σ H:=h D fun _ _ z=>z
end L2
namespace L2
open PySem PySem.Spec PyProof.Rows
def rg:PyData→Option (List PyData)
 | .list xs=>some xs
 | .tuple xs=>some xs
 | _=>none
theorem Ay {e:PyData}{xs:List PyData}{n l:Nat} (h:Wt e n l) (s:rg e=some xs):bn fun m k=>iS xs m k∧k+1=l:=by
 cases h <;> simp [rg] at s
 all_goals
  rename_i w
  subst s
  exact ⟨_,_,w,rfl⟩
section
variable {X:Cx}
inductive yM (x:V) (vs:List V) (H:Hp) (Q:VK):Prop
 | mk (y:V) (d e:PyData) (E F:Addr→Prop) (m n k l:Nat) (xs:List PyData) (h0:vs=[y]) (h1:aC E H y d) (h2:aC F H x e) (h3:Wt d m k) (h4:Wt e n l) (h5:l≤60) (h6:rg e=some xs) (h7:Q (.int ((xs.countP fun z=>PyData.eqv z d):Nat)) H)
def As:V→List V→Hp→VK→Prop:=fun x vs H Q=>yM  x vs H Q
theorem wZ {h:Heap}{vs:Array Value}{xs:List PyData}{as:List Addr}{d:PyData} (rs:ReadsAll h vs.toList xs as) (hc:PyData.canLayAll0 xs=true):vs.toList.countP (fun y=>PyData.eqv (PySem.SeqAt.readOf h y) d)=xs.countP fun z=>PyData.eqv z d:=by
 rw [←PySem.SeqAt.readsAll_map xs _ _ hc rs,List.countP_map]
 rfl
theorem u4 (hu:X.A.units+64<cLine):rR X "list.count" (fun x vs H Q=>(bn fun a zs=>x=.ref a∧H a=some (.lst zs))∧As x vs H Q):=by
 intro pins s σ H x vs v us Q I rx rv h
 obtain ⟨⟨a,zs,rfl,ha⟩,y,d,e,E,F,m,n,k,l,xs,rfl,hd,he,wd,we,hl,hs,q⟩:=h
 obtain ⟨u,rfl,ru⟩:=rv.one
 obtain ⟨as,ra⟩:=hd.reads I.hok ru
 obtain ⟨bs,rb⟩:=he.reads I.hok rx
 obtain ⟨m',k',wl,ek⟩:=Ay we hs
 have dl:=wl.dep
 cases he with
 | lst h1 h2 h3=>
  simp [rg] at hs
  subst hs
  cases rb with
  | @list _ o vs n' _ _ g1 g2 g3 g4=>
   obtain ⟨oc,od,oo,os⟩:=o
   simp only at g2 g3
   subst g2 g3
   refine PySem.call_meets PySem.F.slot_list_count ⟨_,g1,rfl⟩ PySem.F.entry_list_count (PySem.F.args_list_count_2 _ _) (PySem.SeqAt.list_countAt _ vs n' od os u _) ⟨g1,PySem.SeqAt.items_eqAt g4 ra wl.can wd.can ?_,?_⟩
   ·trivial
   ·rw [wZ g4 wl.can]
    exact ⟨.int _,H,I.tok _,⟨()⟩,q⟩
 | tup h1 h2=>rw [ha] at h1;cases h1
end
section
variable {K:PySem.W.Frag}{a a1 a2 D:Addr}{H1:Hp}{σc:St}{g:TG}{te:TE}{tt:TT}{Q:VK}{xs ys:List V}
theorem pH {α:Type} (f:Nat→α) (i:Nat):(List.range i).map f++[f i]=(List.range (i+1)).map f:=by
 rw [List.range_succ,List.map_append];rfl
theorem qe {J:It}{n:Nat} (f:Nat→V) (hz:n≤10000) (hD:H1 D=none) (hgo:∀i H',i<n→aj H1 H'→J.go i H') (hst:∀H',aj H1 H'→J.stop n H')
 (hs:∀i x H' H'' (R:VK),i<n→aj H1 H'→J.yld i H' x H''→(∀H4,aj H' H4→R (f i) H4)→g x σc H'' fun σ2 H2=>ku σc σ2∧te σ2 H2 R)
 (hd:∀H',aj H1 H'→H' D=some (.lst ((List.range n).map f))→Q (.ref D) H'):nz J σc g tT te D H1 Q:=by
 refine gO (n:=n) (fun i H' zs=>zs=(List.range i).map f∧H' D=some (.lst zs)∧aj H1 H') (gW hz) ⟨rfl,az,fu hD (aj.refl _)⟩ ?_ ?_ ?_ ?_ ?_
 ·rintro i H' zs ⟨rfl,q,_⟩
  exact ⟨q,by simp⟩
 ·rintro i H' zs hi ⟨_,_,sm⟩
  exact hgo i H' hi sm
 ·rintro H' zs ⟨_,_,sm⟩
  exact hst H' sm
 ·rintro i H' zs x H'' hi ⟨rfl,q,sm⟩ y
  exact hs i x H' H'' _ hi sm y fun H4 s4=>⟨s4 _ _ q,pH f i,az,fu hD (sm.trans s4)⟩
 ·rintro H' zs ⟨rfl,q,sm⟩
  exact hd H' sm q
theorem uW (f:Nat→V) (hz:xs.length≤10000) (hD:H1 D=none) (ha:H1 a=some (.tup xs))
 (hs:∀i x H' (R:VK),xs[i]?=some x→aj H1 H'→(∀H4,aj H' H4→R (f i) H4)→g x σc H' fun σ2 H2=>ku σc σ2∧te σ2 H2 R)
 (hd:∀H',aj H1 H'→H' D=some (.lst ((List.range xs.length).map f))→Q (.ref D) H'):nz (AU K a) σc g tT te D H1 Q:=by
 refine qe (n:=xs.length) f hz hD (fun i H' hi sm=>⟨xs,xs[i],af.of (sm _ _ ha),by simp [hi]⟩) (fun H' sm=>⟨xs,af.of (sm _ _ ha),Nat.le_refl _⟩) ?_ hd
 rintro i x H' H'' R hi sm ⟨rfl,ex⟩ k
 exact hs i x H'' R (ex _ (af.of (sm _ _ ha))) sm k
end
end L2
namespace L2
end L2
namespace L2
open PySem PySem.Spec PyProof.Rows
section
variable {X:Cx}{tg:Expr}
inductive yr (K:PySem.W.Frag) (x:V) (y:V) (H:Hp) (Q:VK):Prop
 | mk (a:_) (b:_) (xs:_) (ys:_) (h0:x=.ref a) (h1:y=.ref b) (h2:af K H a xs) (h3:H a=some (.tup xs)) (h4:af K H b ys) (h5:xs≠[]) (h6:xs.length+ys.length≤10000) (h7:∀p H',aj H H'→H' p=some (.tup (xs++ys))→Q (.ref p) H')
def Aw (K:PySem.W.Frag):R2:=fun x y H Q=>yr K x y H Q
theorem wY {K:PySem.W.Frag} (e:X.K=K:=by rfl):cr X (binaryOp .Add) (Aw K):=by
 subst e
 intro pins s σ H x y v u Q I rx ry h
 obtain ⟨a,b,xs,ys,e1,e2,ha,ha',hb,hx,hz,q⟩:=h
 refine zq pins s σ H x y v u Q I rx ry ⟨a,b,xs,ys,e1,e2,ha,hb,hx,gW hz,fun z=>?_,fun z p hp=>q p _ (aj.new hp) az⟩
 refine q a H (aj.refl _) ?_
 rw [z,List.append_nil];exact ha'
end
section
variable {X:Cx}{K:PySem.W.Frag}{o e:Expr}{es:List Expr}{to:TE}{t:TA}{name:Str}{apos cpos:Pos}{id:String}{r:V→List V→Hp→VK→Prop}
end
end L2
namespace L2
open PySem PyProof.Rows
def dc (X:Cx) (scope:Scope) (cl:List (Str×Addr)) (C:Addr) (N':List Str) (s:Shared) (H:Hp) (ex:List Addr) (pn:List (Addr×Obj)):Cx:=
 { sM X scope cl C N' s H ex pn with fn:=fun x=>scope.names.lookup x==some .cell }
def lA (esc:Scope) (N:List Str) (scope:Scope) (N':List Str) (L:Nat) (src:List Nat):Bool:=
 (scope.kind==.function) && scope.names.all (fun y=>(y.2 != .cell || scope.names.lookup y.1==some .cell) && (y.2 != .local || scope.names.lookup y.1==some .local) && (y.2 != .free || esc.names.lookup y.1==some .cell || esc.names.lookup y.1==some .free)) &&
  (N'.length==L+src.length) && (List.range src.length).all fun i=>match src[i]?,N'[L+i]? with
   | some j,some x=>(N[j]?==some x) && (scope.names.lookup x==some .free)
   | _,_=>false
structure tX (esc:Scope) (N:List Str) (scope:Scope) (N':List Str) (L:Nat) (src:List Nat):Prop where
 kind:scope.kind=.function
 cells:∀y∈scope.names,y.2=.cell→scope.names.lookup y.1=some .cell
 loc:∀y∈scope.names,y.2=.local→scope.names.lookup y.1=some .local
 free:∀y∈scope.names,y.2=.free→esc.names.lookup y.1=some .cell∨esc.names.lookup y.1=some .free
 len:N'.length=L+src.length
 frees:∀(i j:Nat),src[i]?=some j→∃x,N'[L+i]?=some x∧N[j]?=some x∧scope.names.lookup x=some .free
theorem o5 {esc:Scope}{N:List Str}{scope:Scope}{N':List Str}{L:Nat}{src:List Nat} (h:lA esc N scope N' L src=true):tX esc N scope N' L src:=by
 unfold lA at h
 simp only [Bool.and_eq_true,List.all_eq_true] at h
 obtain ⟨⟨⟨h1,h2⟩,h3⟩,h4⟩:=h
 refine ⟨by simpa using h1,fun y hy e=>?_,fun y hy e=>?_,fun y hy e=>?_,by simpa using h3,fun i j e=>?_⟩
 ·have:=(h2 y hy).1.1
  rw [e] at this
  simpa using this
 ·have:=(h2 y hy).1.2
  rw [e] at this
  simpa using this
 ·have:=(h2 y hy).2
  rw [e] at this
  simpa using this
 ·have hi:i<src.length:=(List.getElem?_eq_some_iff.mp e).1
  have:=h4 i (List.mem_range.mpr hi)
  rw [e] at this
  cases q:N'[L+i]? with
  | none=>rw [q] at this;simp at this
  | some x=>
   rw [q] at this
   simp only [Bool.and_eq_true,beq_iff_eq] at this
   exact ⟨x,rfl,this.1,this.2⟩
theorem iB:∀(names:List (Str×NameKind)) (n:Nat) (acc acc':List (Str×Addr)),cellsFrom n names (acc++acc')=cellsFrom n names acc++acc'
 | [],_,_,_=>rfl
 | (name,kind) :: r,n,acc,acc'=>by
  unfold cellsFrom
  split
  ·exact iB r (n+1) ((name,n) :: acc) acc'
  ·exact iB r n acc acc'
theorem qN (names:List (Str×NameKind)) (n:Nat) (acc:List (Str×Addr)):cellsFrom n names acc=cellsFrom n names []++acc:=iB names n [] acc
theorem gT {x:Str}{c:Addr}:∀(names:List (Str×NameKind)) (n:Nat) (acc:List (Str×Addr)),(x,c)∈cellsFrom n names acc→(x,NameKind.cell)∈names∨(x,c)∈acc
 | [],_,_,h=>.inr h
 | (name,kind) :: r,n,acc,h=>by
  unfold cellsFrom at h
  split at h
  ·rename_i hk
   rcases gT r (n+1) _ h with h | h
   ·exact .inl (List.mem_cons_of_mem _ h)
   ·rcases List.mem_cons.mp h with h | h
    ·injection h with h1 h2
     have hk':kind=.cell:=by simpa using hk
     rw [h1,hk'];exact .inl List.mem_cons_self
    ·exact .inr h
  ·rcases gT r n _ h with h | h
   ·exact .inl (List.mem_cons_of_mem _ h)
   ·exact .inr h
theorem iw {x:Str}:∀(names:List (Str×NameKind)) (n:Nat) (acc:List (Str×Addr)),(∃c,acc.lookup x=some c)→∃c,(cellsFrom n names acc).lookup x=some c
 | [],_,_,h=>h
 | (name,kind) :: r,n,acc,⟨c,h⟩=>by
  unfold cellsFrom
  split
  ·refine iw r (n+1) _ ?_
   rw [List.lookup_cons]
   cases hb:x==name with
   | true=>exact ⟨_,rfl⟩
   | false=>exact ⟨c,h⟩
  ·exact iw r n acc ⟨c,h⟩
theorem jd {x:Str}:∀(names:List (Str×NameKind)) (n:Nat) (acc:List (Str×Addr)),(x,NameKind.cell)∈names→∃c,(cellsFrom n names acc).lookup x=some c
 | (name,kind) :: r,n,acc,h=>by
  unfold cellsFrom
  rcases List.mem_cons.mp h with h | h
  ·injection h with h1 h2
   subst h1;subst h2
   rw [if_pos (show (NameKind.cell==NameKind.cell)=true from rfl)]
   exact iw r (n+1) _ ⟨n,by simp [List.lookup_cons]⟩
  ·split
   ·exact jd r (n+1) _ h
   ·exact jd r n acc h
theorem Do {M:Model}{A:Around}{E:Value→Shared→Prop}{s:Shared}{scope:Scope}{globals:Addr}{cl:List (Str×Addr)}{qual:Str}{env:Env}{Q:Env→Shared→Prop}
 (h:Q { scope:=scope,locals:=s.heap.objs.size,globals:=globals,cells:=cellsFrom (s.heap.objs.size+1) scope.names cl,qual:=qual,func:=none,code:=env.code,frame:=env.frame,builtins:=env.builtins }
  { s with heap:=pushCells (s.heap.push { cls:=.type "dict",data:=.dict #[] }) scope.names }) :
 wpAny M A (newFunctionEnv scope globals cl [] qual none .none (some env)) Q E s:=by
 simp only [newFunctionEnv,Option.isSome_some,if_true]
 refine wpAny_bind (wpAny_alloc ?_)
 refine wpAny_bind (wpAny_layCells _ (fun name kind cells=>by cases hkc:kind==NameKind.cell <;> simp [hkc]) _ _ _ _ ?_)
 rw [show ({ s with heap:=s.heap.push { cls:=.type "dict",data:=.dict #[] } }:Shared).heap.objs.size=s.heap.objs.size+1 from Heap.size_push ..]
 exact wpAny_bind (by rw [List.forIn_nil];exact wpAny_pure (wpAny_pure h))
section
variable {X:Cx}{elt tg iter:Expr}{ifs:List Expr}{scope:Scope}{pos:Pos}{N':List Str}{L:Nat}{src:List Nat}{wi:TI}{g:TG}{tt:TT}{te:TE}
theorem qm (hc:X.calm=true) (ck:tX X.env.scope X.N scope N' L src) {cl:List (Str×Addr)}{pins:List (Addr×Obj)}{s:Shared}{σ:St}{H:Hp}{Q:VK} (I:ac X pins σ H s)
 (hsub:∀x c,cl.lookup x=some c→X.env.cells.lookup x=some c) (hhas:∀y∈scope.names,y.2=.free→∃c,cl.lookup y.1=some c)
 (hi:PI X tg iter wi) (hg:∀cl C s H ex pn,PG (dc X scope cl C N' s H ex pn) tg g) (hif:∀cl C s H ex pn,sN (dc X scope cl C N' s H ex pn) ifs tt)
 (he:∀cl C s H ex pn,PE (dc X scope cl C N' s H ex pn) elt te) (h:uI wi L src g tt te σ H Q) {RR:Value→Addr→Result→Shared→Prop}
 (hRR:∀D C H' f s' m,ac X pins σ H' s'→s'.heap.Ns C m→jW X pins H' C→Q (.ref D) H'→RR (.ref D) C (.ok f) s') :
 wpAny (model X.prog X.w) X.A (eval iter X.env) (fun x s₁=>wpAny (model X.prog X.w) X.A (pyIter x) (fun it s₂=>wpAny (model X.prog X.w) X.A (newList []) (fun acc s₃=>
  wpAny (model X.prog X.w) X.A (newFunctionEnv scope X.env.globals cl [] X.env.qual none .none (some X.env)) (fun cenv s₄=>
   codeAny (model X.prog X.w) X.A (.compStart (.ListComp elt [⟨tg,iter,ifs,0⟩] scope pos) 0 it acc { cenv with scope:=relabel scope X.env }) (RR acc cenv.locals) s₄) X.xe s₃) X.xe s₂) X.xe s₁) X.xe s:=by
 refine aF (hi pins s σ H _ I h) fun v s1 h1=>aF h1 fun itv s2 h2=>?_
 obtain ⟨it,fp,tn,J,H2,e,I2,T,st2,f2,q⟩:=h2
 subst e
 refine wpAny_newObj_type (Do ?_)
 dsimp only
 generalize hH2:s2.heap.push { cls:=.type "list",dict:=none,data:=.seq ([]:List Value).toArray }=hp2
 have hns₁:(pushCells (hp2.push { cls:=.type "dict",data:=.dict #[] }) scope.names).Ns hp2.objs.size fun _=>none:=(Heap.Ns.new hp2 (.type "dict")).keeps (pushCells_keeps _ _)
 have kp:∀b o,hp2.get? b=some o→(pushCells (hp2.push { cls:=.type "dict",data:=.dict #[] }) scope.names).get? b=some o:=fun b o e=>pushCells_keeps _ _ b o (Heap.get?_push_of_some _ e)
 have okc:=cellsFrom_ok scope.names (hp2.push { cls:=.type "dict",data:=.dict #[] }) (hp2.objs.size+1) [] ⟨fun _ _ hm=>(nomatch hm),List.Pairwise.nil⟩ (by rw [Heap.size_push];exact Nat.le_refl _)
 rw [Heap.size_push] at okc
 rw [qN]
 have ncell:∀x c,(cellsFrom (hp2.objs.size+1) scope.names []).lookup x=some c→(x,NameKind.cell)∈scope.names:=fun x c e=>(gT _ _ _ (PySem.mem_of_lookup e)).elim id (fun z=>by cases z)
 have nhas:∀x,(x,NameKind.cell)∈scope.names→∃c,(cellsFrom (hp2.objs.size+1) scope.names []).lookup x=some c:=fun x h=>jd _ _ _ h
 generalize pushCells (hp2.push { cls:=.type "dict",data:=.dict #[] }) scope.names=h₁ at hns₁ kp okc ⊢
 generalize cellsFrom (hp2.objs.size+1) scope.names []=nw at okc ncell nhas ⊢
 have hC:hp2.objs.size=s2.heap.objs.size+1:=by rw [←hH2,Heap.size_push]
 have hDC:s2.heap.objs.size≠hp2.objs.size:=by rw [hC];exact Nat.ne_of_lt (Nat.lt_succ_self _)
 have hCle:s2.heap.objs.size≤hp2.objs.size:=by rw [hC];exact Nat.le_succ _
 have below:∀b,b<s2.heap.objs.size→b≠hp2.objs.size∧b≠s2.heap.objs.size:=fun b hb=>⟨by rw [hC];exact Nat.ne_of_lt (Nat.lt_succ_of_lt hb),Nat.ne_of_lt hb⟩
 have old:∀b o,s2.heap.get? b=some o→h₁.get? b=some o:=fun b o e=>kp b o (hH2▸Heap.get?_push_of_some _ e)
 have hacc:h₁.get? s2.heap.objs.size=some { cls:=.type "list",dict:=none,data:=.seq ([]:List Value).toArray }:=kp _ _ (hH2▸Heap.get?_push_size _ rfl)
 have hDn:H2 s2.heap.objs.size=none:=I2.fresh
 obtain ⟨W,⟨m0,w0⟩,turn⟩:=q _ hDn
 have fpo:∀b∈fp,∃o,s2.heap.get? b=some o∧∀v,o.data≠.cell v:=T.obj _ _ st2
 have fplt:∀b∈fp,b<s2.heap.objs.size:=fun b hb=>by obtain ⟨o,e,_⟩:=fpo b hb;exact Heap.lt_size e
 have hfrs:∀b∈fp,b∉dU X.stack:=fun b hb z=>by
  rcases List.mem_cons.mp (I2.stkSub b z) with z' | z'
  ·exact (f2 b hb).2.1 z'
  ·exact (f2 b hb).2.2.1 z'
 have spl:∀x c,(nw++cl).lookup x=some c→nw.lookup x=some c∨(nw.lookup x=none∧cl.lookup x=some c):=fun x c e=>by
  rw [List.lookup_append] at e
  cases q:nw.lookup x with
  | none=>rw [q] at e;exact .inr ⟨rfl,e⟩
  | some c'=>rw [q] at e;exact .inl e
 have nab:∀x c,nw.lookup x=some c→hp2.objs.size+1≤c:=fun x c e=>(okc.empty x c (PySem.mem_of_lookup e)).2
 have olt:∀x c,cl.lookup x=some c→c<s2.heap.objs.size:=fun x c e=>by
  obtain ⟨v,o,ho,_⟩:=I2.cell x c (hsub _ _ e)
  exact Heap.lt_size ho
 have n2o:∀x c y,nw.lookup x=some c→cl.lookup y=some c→False:=fun x c y e1 e2=>Nat.lt_irrefl c (Nat.lt_of_lt_of_le (olt y c e2) (Nat.le_trans hCle (Nat.le_of_succ_le (nab x c e1))))
 generalize hX:dc X scope (nw++cl) hp2.objs.size N' s2 H2 fp (X.pn++pins)=X'
 have ok':X'.Ok:=by
  subst hX
  refine ⟨I2.ok.mod,ck.kind,I2.ok.glob,I2.ok.blt,hCle,fun x y c e1 e2=>(spl x c e1).elim (fun g1=>(spl y c e2).elim (fun g2=>name_of_addr okc.apart (PySem.mem_of_lookup g1) (PySem.mem_of_lookup g2)) (fun g2=>(n2o x c y g1 g2.2).elim)) (fun g1=>(spl y c e2).elim (fun g2=>(n2o y c x g2 g1.2).elim) (fun g2=>I2.ok.inj x y c (hsub _ _ g1.2) (hsub _ _ g2.2))),fun x hx=>?_,fun x c z e=>?cab,I2.ok.hd,I2.ok.frames,.inl rfl,fun b hb=>⟨(below b (fplt b hb)).1,fun x c e=>(spl x c e).elim (fun g z=>Nat.lt_irrefl b (Nat.lt_of_lt_of_le (fplt b hb) (Nat.le_trans hCle (Nat.le_of_succ_le (z▸nab x c g))))) (fun g=>(f2 b hb).2.2.2.2.1 x c (hsub _ _ g.2))⟩,
   I2.bs,Nat.le_trans I2.ok.bsz I2.sz,fun b o e hb=>?_,hfrs,I2.stack,I2.stkFree⟩
  ·-- a name that is a cell or free
   have hx':(relabel scope X.env).names.lookup x=some .cell∨(relabel scope X.env).names.lookup x=some .free:=hx
   have key:∀(names:List (Str×NameKind)),
    ((names.map fun (n,k)=>if (k==NameKind.free && X.env.scope.kind==.function && X.env.kindOf n==some .cell) then (n,NameKind.cell) else (n,k)).lookup x=some .cell∨
     (names.map fun (n,k)=>if (k==NameKind.free && X.env.scope.kind==.function && X.env.kindOf n==some .cell) then (n,NameKind.cell) else (n,k)).lookup x=some .free)→∃y∈names,y.1=x∧(y.2=.free∨y.2=.cell):=by
    intro names
    induction names with
    | nil=>intro h;rcases h with h | h <;> simp at h
    | cons y r ih=>
     intro h
     obtain ⟨n,k⟩:=y
     by_cases hb:x=n
     ·subst hb
      refine ⟨(x,k),List.mem_cons_self,rfl,?_⟩
      by_cases hk:k=.free
      ·exact .inl hk
      ·have hkb:(k==NameKind.free)=false:=by simpa using hk
       right
       simp only [List.map_cons,hkb,Bool.false_and,Bool.false_eq_true,if_false,List.lookup_cons,beq_self_eq_true,if_true] at h
       rcases h with h | h
       ·exact Option.some.inj h
       ·exact absurd (Option.some.inj h) hk
     ·have hb':(x==n)=false:=by simpa using hb
      have h':((r.map fun (n,k)=>if (k==NameKind.free && X.env.scope.kind==.function && X.env.kindOf n==some .cell) then (n,NameKind.cell) else (n,k)).lookup x=some .cell∨
       (r.map fun (n,k)=>if (k==NameKind.free && X.env.scope.kind==.function && X.env.kindOf n==some .cell) then (n,NameKind.cell) else (n,k)).lookup x=some .free):=by
       rw [List.map_cons] at h
       dsimp only at h
       by_cases hcnd:(k==NameKind.free && X.env.scope.kind==.function && X.env.kindOf n==some .cell)=true
       ·rw [if_pos hcnd] at h
        simpa only [List.lookup_cons,hb'] using h
       ·rw [if_neg hcnd] at h
        simpa only [List.lookup_cons,hb'] using h
      obtain ⟨y,hy,e1,e2⟩:=ih h'
      exact ⟨y,List.mem_cons_of_mem _ hy,e1,e2⟩
   obtain ⟨y,hy,e1,e2⟩:=key scope.names hx'
   show ∃c,(nw++cl).lookup x=some c
   rw [List.lookup_append]
   cases q:nw.lookup x with
   | some c=>exact ⟨c,rfl⟩
   | none=>
    rcases e2 with e2 | e2
    ·obtain ⟨c,hc'⟩:=hhas y hy e2
     exact ⟨c,by rw [←e1,hc'];rfl⟩
    ·obtain ⟨c,hc'⟩:=nhas x (by obtain ⟨y1,y2⟩:=y;dsimp only at e1 e2;rw [←e1,←e2];exact hy)
     rw [q] at hc';cases hc'
  case cab=>
   have z':(scope.names.lookup x==some NameKind.cell)=true:=z
   obtain ⟨c',hc'⟩:=nhas x (PySem.mem_of_lookup (by simpa using z'))
   rcases spl x c e with g | g
   ·have:=nab x c g
    show s2.heap.objs.size≤c
    trivial
   ·rw [hc'] at g;cases g.1
  ·rcases (f2 b hb).2.2.2.1 with z | z
   ·exact I2.ok.noex b o e z
   ·exact absurd (Nat.lt_of_lt_of_le (Heap.lt_size e) (Nat.le_trans I2.ok.bsz z)) (Nat.lt_irrefl _)
 have stat:∀{H':Hp},(∀b∈fp,H' b=none)→∀b∈fp,jW X' [] H' b:=by
  subst hX
  intro H' hn b hb
  refine ⟨hn b hb,(below b (fplt b hb)).1,hfrs b hb,.inl hb,fun x c e=>(spl x c e).elim (fun g z=>Nat.lt_irrefl b (Nat.lt_of_lt_of_le (fplt b hb) (Nat.le_trans hCle (Nat.le_of_succ_le (z▸nab x c g))))) (fun g=>(f2 b hb).2.2.2.2.1 x c (hsub _ _ g.2)),fun p hp=>?_⟩
  have hp':p∈X.pn++pins:=by simpa [dc,sM] using hp
  exact (f2 b hb).2.2.2.2.2 p hp'
 have I1:ac X' [] (lS L src σ) (aI H2 s2.heap.objs.size (.lst [])) { s2 with heap:=h₁,toks:=s2.toks }:=by
  subst hX
  have up:∀b o,H2 b=some o→aI H2 s2.heap.objs.size (.lst []) b=some o:=fun b o e=>by rw [ak (aE e hDn)];exact e
  have upn:∀b,b<s2.heap.objs.size→H2 b=none→aI H2 s2.heap.objs.size (.lst []) b=none:=fun b hb e=>by rw [ak (Nat.ne_of_lt hb)];exact e
  refine ⟨ok',rfl,I2.bare,Un.laid old (Nat.le_refl _) hDn,⟨_,hns₁,fun i x v e1 e2 e3=>?_⟩,fun x c e=>?_,?_,fun x c e=>?_,fun p hp=>?_,I2.hok.laid old (Nat.le_refl _) ⟨Nat.zero_le _,[],0,.nil,hacc⟩,?_⟩
  ·-- the names of the def around
   have hiL:L≤i:=by
    by_cases hlt:i<L
    ·exfalso
     unfold lS at e2
     rw [List.getElem?_append_left (by simpa using hlt),List.getElem?_replicate,if_pos hlt] at e2
     cases e2
    ·trivial
   have e2':(src.map fun j=>(σ[j]?).join)[i - L]?=some (some v):=by
    unfold lS at e2
    rw [List.getElem?_append_right (by simpa using hiL),List.length_replicate] at e2
    exact e2
   rw [List.getElem?_map] at e2'
   cases hj:src[i - L]? with
   | none=>rw [hj] at e2';cases e2'
   | some j=>
    rw [hj] at e2'
    have e3':(σ[j]?).join=some v:=Option.some.inj e2'
    have hσ:σ[j]?=some (some v):=by
     cases q:σ[j]? with
     | none=>rw [q] at e3';cases e3'
     | some o=>rw [q] at e3';exact congrArg some e3'
    obtain ⟨x',g1,g2,g3⟩:=ck.frees (i - L) j hj
    have:L+(i - L)=i:=by trivial
    rw [this] at g1
    have ex:x'=x:=Option.some.inj (g1.symm.trans e1)
    subst ex
    have hfree:=ck.free _ (PySem.mem_of_lookup g3) rfl
    obtain ⟨m,hn,hl⟩:=I2.loc
    obtain ⟨u,r,l⟩:=hl j x' v g2 hσ (hfree.elim (fun z=>.inr (.inl z)) fun z=>.inr (.inr z))
    refine ⟨u,r,.inr ⟨?_,?_⟩⟩
    ·-- its kind in the block
     have key:∀(names:List (Str×NameKind)),names.lookup x'=some .free→
      ((names.map fun (n,k)=>if (k==NameKind.free && X.env.scope.kind==.function && X.env.kindOf n==some .cell) then (n,NameKind.cell) else (n,k)).lookup x'=some .cell∨
       (names.map fun (n,k)=>if (k==NameKind.free && X.env.scope.kind==.function && X.env.kindOf n==some .cell) then (n,NameKind.cell) else (n,k)).lookup x'=some .free):=by
      intro names
      induction names with
      | nil=>intro h;simp at h
      | cons y r ih=>
       intro h
       obtain ⟨n,k⟩:=y
       by_cases hb:x'=n
       ·subst hb
        simp only [List.lookup_cons,beq_self_eq_true,if_true] at h
        have hk:k=.free:=Option.some.inj h
        subst hk
        rw [List.map_cons]
        dsimp only
        by_cases hcnd:(NameKind.free==NameKind.free && X.env.scope.kind==.function && X.env.kindOf x'==some .cell)=true
        ·rw [if_pos hcnd];left;simp [List.lookup_cons]
        ·rw [if_neg hcnd];right;simp [List.lookup_cons]
       ·have hb':(x'==n)=false:=by simpa using hb
        have h':=ih (by simpa only [List.lookup_cons,hb'] using h)
        rw [List.map_cons]
        dsimp only
        by_cases hcnd:(k==NameKind.free && X.env.scope.kind==.function && X.env.kindOf n==some .cell)=true
        ·rw [if_pos hcnd];simpa only [List.lookup_cons,hb'] using h'
        ·rw [if_neg hcnd];simpa only [List.lookup_cons,hb'] using h'
     exact key scope.names g3
    ·obtain ⟨c,hcl⟩:=hhas _ (PySem.mem_of_lookup g3) rfl
     have hcx:=hsub _ _ hcl
     rcases l with ⟨k1,_⟩ | ⟨_,c',e4,z⟩
     ·exfalso
      have k1':X.env.scope.names.lookup x'=some .local:=k1
      rcases hfree with z | z
      ·rw [z] at k1';cases k1'
      ·rw [z] at k1';cases k1'
     ·rw [hcx] at e4
      cases e4
      obtain ⟨o,ho,hd⟩:=z
      refine ⟨c,?_,o,old _ _ ho,hd⟩
      show (nw++cl).lookup x'=some c
      rw [List.lookup_append]
      cases q:nw.lookup x' with
      | none=>exact hcl
      | some c'=>
       exfalso
       have:=ck.cells _ (ncell _ _ q) rfl
       dsimp only at this
       rw [g3] at this;cases this
  ·rcases spl x c e with g | g
   ·exact ⟨none,(okc.empty x c (PySem.mem_of_lookup g)).1⟩
   ·obtain ⟨v,o,ho,hd⟩:=I2.cell x c (hsub _ _ g.2)
    exact ⟨v,o,old _ _ ho,hd⟩
  ·show aI H2 s2.heap.objs.size (.lst []) hp2.objs.size=none
   rw [ak (Ne.symm hDC)]
   exact I2.hok.fresh hCle
  ·rcases spl x c e with g | g
   ·have:=nab x c g
    rw [ak (by intro z;rw [z] at this;trivial)]
    exact I2.hok.fresh (by trivial)
   ·obtain ⟨v,o,ho,hd⟩:=I2.cell x c (hsub _ _ g.2)
    exact upn c (Heap.lt_size ho) (I2.freeC x c (hsub _ _ g.2))
  ·have hp':p∈X.pn++pins:=by simpa [dc,sM] using hp
   obtain ⟨e,n,ne,nf,d⟩:=I2.pin p hp'
   have hlt:=Heap.lt_size e
   refine ⟨old _ _ e,upn _ hlt n,(below _ hlt).1,fun z=>?_,d⟩
   rcases List.mem_cons.mp (I2.stkSub _ z) with z' | z'
   ·exact ne z'
   ·exact nf z'
  ·show (lS L src σ).length=N'.length
   unfold lS
   rw [List.length_append,List.length_replicate,List.length_map,ck.len]
 have eA:X'.A=X.A:=by subst hX;rfl
 have eP:X'.prog=X.prog:=by subst hX;rfl
 have eW:X'.w=X.w:=by subst hX;rfl
 have eK:X'.K=X.K:=by subst hX;rfl
 have ec:X'.calm=true:=by subst hX;exact hc
 have exe:X'.xe=fun _ _=>False:=by subst hX;rfl
 have eE:X'.env=compEnvC scope (nw++cl) hp2.objs.size X.env:=by subst hX;rfl
 have hg':PG X' tg g:=by subst hX;exact hg _ _ _ _ _ _
 have hif':sN X' ifs tt:=by subst hX;exact hif _ _ _ _ _ _
 have he':PE X' elt te:=by subst hX;exact he _ _ _ _ _ _
 have aft:∀{H':Hp}{s':Shared},ac X' [] (lS L src σ) H' s'→ac X pins σ H' s'∧(∃m,s'.heap.Ns hp2.objs.size m)∧jW X pins H' hp2.objs.size:=by
  subst hX
  intro H' s' J
  refine ⟨I2.call' (ch:=fp) J.os J.base J.hok J.bare fun b hb=>⟨(f2 b hb).2.2.2.1,(f2 b hb).2.1,(f2 b hb).2.2.2.2.1,(f2 b hb).2.2.2.2.2⟩,?_,I2.fpOk hCle J.free⟩
  obtain ⟨m,hn,_⟩:=J.loc
  exact ⟨m,hn⟩
 have st1:tn 0 h₁:=T.keep _ _ _ st2 fun b hb o e=>old b o e
 have loop:∀s₃:Shared,s₃={ s2 with heap:=h₁,toks:=s2.toks }→
  codeAny (model X.prog X.w) X.A (.compLoop (.ListComp elt [⟨tg,iter,ifs,0⟩] scope pos) 0 (.ref it) (.ref s2.heap.objs.size) (compEnvC scope (nw++cl) hp2.objs.size X.env))
   (RR (.ref s2.heap.objs.size) hp2.objs.size) s₃:=by
  rintro s₃ rfl
  refine sI (fun n s'=>ic fun i H' ys=>ac X' [] (lS L src σ) H' s'∧tn i s'.heap∧(∀b∈fp,H' b=none)∧W i n H' ys) ?_ m0
   ⟨0,_,[],I1,st1,fun b hb=>(by rw [ak (below b (fplt b hb)).2];exact (f2 b hb).1),w0⟩
  rintro n s3 ⟨i,H3,ys,I3,st3,fr3,w3⟩
  obtain ⟨hD,alt⟩:=turn i n H3 ys w3
  rcases alt with ⟨stop,qn⟩ | ⟨go,hlen,N,hN,step⟩
  ·have d:=T.done X' eP eW eK ec i [] s3 (lS L src σ) H3 (fun _ _=>False) I3 (stat fr3) st3 stop
   rw [eA] at d
   refine aF d fun r s4 ⟨hr,I4⟩=>?_
   subst hr
   obtain ⟨J,⟨m,hn⟩,fpC⟩:=aft I4
   exact hRR _ _ H3 .next s4 m J hn fpC qn
  ·have d:=T.item X' eP eW eK ec i [] s3 (lS L src σ) H3 (fun _ _=>False) I3 (stat fr3) st3 go
   rw [eA] at d
   refine aF d fun r s4 ⟨u,hr,h4⟩=>?_
   subst hr
   refine aF h4 fun _ s5 ⟨x,H5,I5,r5,y5,st5,fr5⟩=>?_
   have I5':=I5.pinned (stat fr5) (T.obj _ _ st5)
   have a1:=hg' _ s5 (lS L src σ) H5 x u _ I5' r5 (step x H5 y5)
   rw [eP,eW,eA,eE,exe] at a1
   refine aF a1 fun _ s6 ⟨σ6,H6,I6,bk,q6⟩=>?_
   have a2:=hif' _ s6 σ6 H6 _ I6 q6
   rw [eP,eW,eA,eE,exe] at a2
   refine aF a2 fun b s7 ⟨H7,I7,q7⟩=>?_
   have again:∀{H8:Hp}{s8:Shared}{ys':List V},ac X' ([]++mB fp s5.heap) σ6 H8 s8→N H8 ys'→∃m,m<n∧ic fun i H' ys=>ac X' [] (lS L src σ) H' s8∧tn i s8.heap∧(∀b∈fp,H' b=none)∧W i m H' ys:=fun {H8 s8 ys'} I8 n8=>by
    obtain ⟨m',hm,w8⟩:=hN H8 ys' n8
    refine ⟨m',hm,i+1,H8,ys',(I8.unpinned).weak bk.1.symm bk.2,T.keep _ _ _ st5 fun b hb o e=>(I8.pin (b,o) (List.mem_append_right _ (List.mem_append_right _ (js hb e)))).1,fun b hb=>?_,w8⟩
    obtain ⟨o,e,d⟩:=T.obj _ _ st5 b hb
    exact (I8.pin (b,o) (List.mem_append_right _ (List.mem_append_right _ (js hb e)))).2.1
   cases b with
   | false=>
    rw [if_neg Bool.false_ne_true] at q7 ⊢
    exact again I7 q7
   | true=>
    rw [if_pos rfl] at q7 ⊢
    have a3:=he' _ s7 σ6 H7 _ I7 q7
    rw [eP,eW,eA,eE,exe] at a3
    refine aF a3 fun xv s8 ⟨y,H8,I8,r8,hD8,q8⟩=>?_
    have a4:=qf (X:=X') _ s8 σ6 H8 (.ref s2.heap.objs.size) [y] (.ref s2.heap.objs.size) [xv] (fun _ H'=>H'=aI H8 s2.heap.objs.size (.lst (ys++[y]))) I8 rfl (.cons r8 .nil) ⟨_,ys,y,rfl,rfl,hD8,hlen,rfl⟩
    rw [eP,eW,eA,exe] at a4
    refine aF a4 fun _ s9 ⟨_,H9,I9,_,e9⟩=>?_
    subst e9
    exact again I9 q8
 exact codeAny_compStart_list (loop _ rfl) (T.self _ 0 _ _ _ st1 (loop _ rfl))
theorem jQ (hc:X.calm=true) (ck:lA X.env.scope X.N scope N' L src=true) (hi:PI X tg iter wi) (hg:∀cl C s H ex pn,PG (dc X scope cl C N' s H ex pn) tg g) (hif:∀cl C s H ex pn,sN (dc X scope cl C N' s H ex pn) ifs tt)
 (he:∀cl C s H ex pn,PE (dc X scope cl C N' s H ex pn) elt te) (hs:∀x,foldedSetIterable iter X.env x=pure x:=by intro _;rfl) :
 PE X (.ListComp elt [⟨tg,iter,ifs,0⟩] scope pos) (uI wi L src g tt te):=by
 intro pins s σ H Q I h
 have ck:=o5 ck
 obtain ⟨cl,hclos,hsub,hhas⟩:=tI (scope:=scope) (env:=X.env) fun y hy e=>I.ok.has y.1 (ck.free y hy e)
 rw [eval_ListComp]
 refine wpAny_comprehension_free (use:=none) rfl hs hclos ck.kind ck.loc (qm hc ck I hsub hhas hi hg hif he h (RR:=fun acc C=>compPost (model X.prog X.w) X.A X.xe none (EP X pins σ Q) acc C) ?_)
 intro D C H' f s' m J hn fpC q
 refine ⟨m,hn,fun h' hsb=>⟨.ref D,H',?_,rfl,q⟩⟩
 obtain ⟨f0,f1,f2,f3,f4,f5⟩:=fpC
 exact J.turned (t':=s'.toks) (fun b o hb e=>(hsb.2 b hb).trans e) f0 f1 f3 f4 f5
theorem sV {j:Nat}{y:Str}{py spos:Pos} (hN:X.N.Nodup) (hj:X.N[j]?=some y) (hy:X.env.scope.names.lookup y=some .local) (hsw:swapsWith (.ListComp elt [⟨tg,iter,ifs,0⟩] scope pos) (some (.Name y py)) spos.line X.env=pure true)
 (hc:X.calm=true) (ck:lA X.env.scope X.N scope N' L src=true) (hi:PI X tg iter wi) (hg:∀cl C s H ex pn,PG (dc X scope cl C N' s H ex pn) tg g) (hif:∀cl C s H ex pn,sN (dc X scope cl C N' s H ex pn) ifs tt)
 (he:∀cl C s H ex pn,PE (dc X scope cl C N' s H ex pn) elt te) (hs:∀x,foldedSetIterable iter X.env x=pure x:=by intro _;rfl) :
 PS X (.Assign [.Name y py] (.ListComp elt [⟨tg,iter,ifs,0⟩] scope pos) spos) (uL (uI wi L src g tt te) (rh j)):=by
 intro pins s σ H D I h
 have ck:=o5 ck
 obtain ⟨cl,hclos,hsub,hhas⟩:=tI (scope:=scope) (env:=X.env) fun y hy e=>I.ok.has y.1 (ck.free y hy e)
 rw [exec_Assign_Name_used _ _ _ _ hsw]
 refine wpAny_bind (wpAny_standAt (wpAny_bind ?_))
 show wpAny _ X.A (do let _ ←comprehension (.ListComp elt [⟨tg,iter,ifs,0⟩] scope pos) scope X.env _ (newList []) false (eval iter X.env) (some (assign (.Name y py) X.env))) _ _ s
 refine wpAny_bind (wpAny_mono (wpAny_comprehension_free (use:=some (assign (.Name y py) X.env)) (Q:=fun _ s'=>SP X pins D .next s') rfl hs hclos ck.kind ck.loc
  (qm hc ck I hsub hhas hi hg hif he h (RR:=fun acc C=>compPost (model X.prog X.w) X.A X.xe (some (assign (.Name y py) X.env)) (fun _ s'=>SP X pins D .next s') acc C) ?_)) (fun _ s' hq=>wpAny_pure (wpAny_pure hq)) fun _ _ e=>e)
 intro L' C H' f s' m J hn fpC q
 show wpAny _ X.A (assign (.Name y py) X.env (.ref L')) _ _ _
 refine wpAny_assign_Name (qx J hN hj (.inl hy) (v:=.ref L') rfl (fun s2 J2 hsb=>?_) (.inr hy))
 obtain ⟨f0,f1,f2,f3,f4,f5⟩:=fpC
 obtain ⟨a,hsb,ha⟩:=hsb
 have hCa:C≠a:=by
  rcases ha with rfl | ha
  ·exact f1
  ·exact fun z=>f4 _ _ ha z.symm
 refine ⟨m,hn.sameBut hsb hCa,fun h' hsb'=>⟨_,H',?_,q⟩⟩
 exact J2.turned (t':=s2.toks) (fun b o hb e=>(hsb'.2 b hb).trans e) f0 f1 f3 f4 f5
end
end L2
namespace HT
open PySem PySem.Spec PyProof.Rows
section
variable {prog:Program}{w:World}{A:Around}{E:Value→Shared→Prop}{s:Shared}
end
end HT
namespace L2
open PySem PySem.Spec PyProof.Rows
section
variable {X:Cx}{K:PySem.W.Frag}
end
section
variable {X:Cx}{e:Expr}{te:TE}{st:Expr}{ts:TO}{p2 pos:Pos}
end
def kj (H H':Hp):Prop:=∀a us,H a=some (.tup us)→H' a=some (.tup us)
section
variable {H H' H'':Hp}{z n k m:Nat}{v:V}{E:Addr→Prop}{b th th' p:Addr}{xs ys zs:List V}
theorem aj.tp (s:aj H H'):kj H H':=fun a us h=>s a _ h
theorem Ch.tp (c:Ch H p xs H') (hp:H p=some (.lst ys)):kj H H':=fun _ _ h=>c.tup h hp
end
section
variable {E:Addr→Prop}{z:Nat}{H0:Hp}{σ:St}{n k m:Nat}{te tb:TE}{ta:TA}{v:V}{i:Nat}{p:Addr}{xs:List V}{K:PySem.W.Frag}
end
section
variable {b th:Addr}{H0:Hp}{σ:St}{zs:List V}{ta:TA}{te:TE}{n i:Nat}{Q:VK}{K:PySem.W.Frag}
end
theorem f7 {te:TE}{i:Nat}{u:TS}{D:cK}{σ:St}{H:Hp} (h:∀Q:VK,(∀v H',u D (σ.set i (some v)) H'→Q v H')→te σ H Q):kH (uL te (rh i)) u D σ H:=h _ fun _ _ z=>z
theorem fi {ta:TA}{i j:Nat}{u:TS}{D:cK}{σ:St}{H:Hp} (h:∀Q:List V→Hp→Prop,(∀v w H',u D ((σ.set i (some v)).set j (some w)) H'→Q [v,w] H')→ta σ H Q):kH (Ak i j ta) u D σ H:=h _ fun _ _ _ z=>⟨_,(),z⟩
theorem ja {α:Type}{P:List α→Prop} (h:∀a,P [a]):∀us:List α,us.length=1→P us:=fun us hl=>by
 cases us with
 | nil=>cases hl
 | cons a r=>cases r with
  | nil=>exact h a
  | cons b r=>simp at hl
theorem dA {α:Type}{P:List α→Prop} (h:∀a b,P [a,b]):∀us:List α,us.length=2→P us:=fun us hl=>by
 cases us with
 | nil=>cases hl
 | cons a r=>exact ja (P:=fun r=>P (a :: r)) (fun b=>h a b) r (by simpa using hl)
theorem mh {α:Type}{P:List α→Prop} (h:∀a b c,P [a,b,c]):∀us:List α,us.length=3→P us:=fun us hl=>by
 cases us with
 | nil=>cases hl
 | cons a r=>exact dA (P:=fun r=>P (a :: r)) (fun b c=>h a b c) r (by simpa using hl)
theorem wX {α:Type}{P:List α→Prop} (h:∀a b c d,P [a,b,c,d]):∀us:List α,us.length=4→P us:=fun us hl=>by
 cases us with
 | nil=>cases hl
 | cons a r=>exact mh (P:=fun r=>P (a :: r)) (fun b c d=>h a b c d) r (by simpa using hl)
section
variable {X:Cx}{a:Expr}{ta:TA}{p p2 pos pos2:Pos}
end
section
variable {prog:Program}{w:World}{A:Around}{E:Value→Shared→Prop}{s:Shared}
variable {z TI TO i1 i2 l1 l2 T:Addr}{k:Nat}{xs ys:Array Value}{bb:Bool}{c1 c2:Bool}{oT:Obj}
end
section
variable {prog:Program}{w:World}{A:Around}{E:Value→Shared→Prop}{R:Result→Shared→Prop}
variable {z TI TO i1 i2 l1 l2 d:Addr}{xs ys:Array Value}{c1 c2:Bool}{ks:List aS}
end
section
variable {X:Cx}{K:PySem.W.Frag}{a b:Expr}{ta:TA}{p1 p2 p3 p4:Pos}
def valD (kvs:List (aS×V)) (k:aS):Option V:=(kvs.find? fun kv=>decide (kv.1=k)).map (·.2)
theorem KV.valD:∀{kvs:List (aS×V)}{vs:List (aS×Value)} (r:KV kvs vs) (k:aS),i7 (valD kvs k) (valueAt vs k)
 | _,_,.nil,_=>trivial
 | p :: ps,q :: qs,.cons h t,k=>by
  obtain ⟨h1,h2⟩:=h
  by_cases e:p.1=k
  ·have e':q.1=k:=h1.symm.trans e
   have b1:L2.valD (p :: ps) k=some p.2:=by simp [L2.valD,List.find?_cons,e]
   have b2:valueAt (q :: qs) k=some q.2:=by simp [valueAt,List.find?_cons,e']
   rw [b1,b2];exact h2
  ·have e':¬q.1=k:=fun z=>e (h1.trans z)
   have b1:L2.valD (p :: ps) k=L2.valD ps k:=by simp [L2.valD,List.find?_cons,e]
   have b2:valueAt (q :: qs) k=valueAt qs k:=by simp [valueAt,List.find?_cons,e']
   rw [b1,b2];exact KV.valD t k
inductive BM (x:V) (y:V) (H:Hp) (Q:VK):Prop
 | mk (d:Addr) (kvs:List (aS×V)) (k:aS) (v:V) (h0:x=.ref d) (h1:y=sx k) (h2:H d=some (.dK kvs)) (h3:valD kvs k=some v) (h4:Q v H)
def CL:R2:=fun x y H Q=>BM  x y H Q
theorem me {P:Program}{w:World}{k:aS}{u:Value} (r:aM (sx k) u):(iC P w).is k u=true:=(yd r).1
theorem aX:kW X CL:=by
 intro value slice pins s σ H x y v u Q I rx ry h hs
 obtain ⟨d,kvs,k,z,rfl,rfl,hd,he,q⟩:=h
 cases rx
 obtain ⟨_,_,vs,rel,dd⟩:=(show be X.prog X.w H s.heap d (.dK kvs) from I.hok d _ hd)
 have hv:=rel.valD k
 rw [he] at hv
 obtain ⟨w',hw,rw'⟩:=i7.some_of hv
 exact subscriptTail_builtinR (x:=w') dd.typeIs PySem.F.slot_dict_getitem.lookup (wpAny_getItem_of (me ry) dd.mapOf hw ⟨rfl,z,H,I.tok _,rw',q⟩) hs
end
section
variable {X:Cx}
end
section
variable {prog:Program}{w:World}{A:Around}{E:Value→Shared→Prop}{s:Shared}
variable {n l1 l2 l3 T:Nat}{k:Nat}{xs ys zs:Array Value}{bb:Bool}{oT:Obj}
end
section
variable {prog:Program}{w:World}{A:Around}{E:Value→Shared→Prop}{s:Shared}
variable {n l1 l2 l3:Nat}{k:Nat}{xs ys zs:Array Value}
end
section
variable {prog:Program}{w:World}{A:Around}{E:Value→Shared→Prop}{R:Result→Shared→Prop}
variable {n l1 l2 l3:Nat}{xs ys zs:Array Value}
end
section
variable {prog:Program}{w:World}{A:Around}{E:Value→Shared→Prop}{s:Shared}
end
section
variable {X:Cx}{pins:List (Addr×Obj)}{σ:St}{H:Hp}{s:Shared}{h':Heap}
end
section
variable {X:Cx}{K:PySem.W.Frag}{a b c:Expr}{ta:TA}{p1 p2 p3 p4:Pos}
end
section
variable {prog:Program}{w:World}{A:Around}{E:Value→Shared→Prop}{s:Shared}
end
section
variable {prog:Program}{w:World}{A:Around}{E:Value→Shared→Prop}{R:Result→Shared→Prop}
variable {l it d:Nat}{vs:Array Value}{ks:List aS}{us:List Value}
end
section
variable {X:Cx}
end
section
variable {X:Cx}
end
theorem CZ {α:Type}{P:List α→Prop} (h:∀a b c d e,P [a,b,c,d,e]):∀us:List α,us.length=5→P us:=fun us hl=>by
 cases us with
 | nil=>cases hl
 | cons a r=>exact wX (P:=fun r=>P (a :: r)) (fun b c d e=>h a b c d e) r (by simpa using hl)
end L2
namespace L2
open PySem PySem.Spec PyProof.Rows
def cB (kvs:List (aS×V)) (k:aS) (v:V):List (aS×V):=if kvs.any (fun kv=>decide (kv.1=k)) then kvs.map (fun kv=>if kv.1=k then (kv.1,v) else kv) else kvs++[(k,v)]
theorem KV.any {kvs:List (aS×V)}{vs:List (aS×Value)} (r:KV kvs vs) (k:aS):kvs.any (fun kv=>decide (kv.1=k))=vs.any (fun kv=>decide (kv.1=k)):=by
 induction r with
 | nil=>rfl
 | cons h t ih=>rw [List.any_cons,List.any_cons,ih,h.1]
theorem pW {kvs:List (aS×V)}{vs:List (aS×Value)} (r:KV kvs vs) {k:aS}{v:V}{u:Value} (rv:aM v u):KV (cB kvs k v) (stored vs k u):=by
 unfold cB stored
 rw [r.any k]
 have m:KV (kvs.map (fun kv=>if kv.1=k then (kv.1,v) else kv)) (vs.map (fun kv=>if kv.1=k then (kv.1,u) else kv)):=by
  induction r with
  | nil=>exact .nil
  | @cons p q ps qs h t ih=>
   refine .cons ?_ ih
   obtain ⟨pk,pv⟩:=p
   obtain ⟨qk,qv⟩:=q
   obtain ⟨h1,h2⟩:=h
   obtain rfl:pk=qk:=h1
   show (if pk=k then (pk,v) else (pk,pv)).1=(if pk=k then (pk,u) else (pk,qv)).1∧aM (if pk=k then (pk,v) else (pk,pv)).2 (if pk=k then (pk,u) else (pk,qv)).2
   by_cases c:pk=k
   ·rw [if_pos c,if_pos c];exact ⟨rfl,rv⟩
   ·rw [if_neg c,if_neg c];exact ⟨rfl,h2⟩
 have a:KV (kvs++[(k,v)]) (vs++[(k,u)]):=by
  clear m
  induction r with
  | nil=>exact .cons ⟨rfl,rv⟩ .nil
  | cons h t ih=>exact .cons h ih
 cases vs.any (fun kv=>decide (kv.1=k)) with
 | true=>exact m
 | false=>exact a
theorem vH {kvs:List (aS×V)}{k:aS}{v:V} (h:kvs.length<sizeLine):(cB kvs k v).length≤sizeLine:=by
 unfold cB
 split
 ·rw [List.length_map];trivial
 ·rw [List.length_append];exact h
section
variable {X:Cx}
theorem ac.dset {pins:List (Addr×Obj)}{σ:St}{H:Hp}{s:Shared}{d:Addr}{kvs kvs':List (aS×V)}{vs':List (aS×Value)}{h':Heap}{t':Nat} (I:ac X pins σ H s) (hH:H d=some (.dK kvs)) (hm:(d==sysModules)=false) (hz:kvs'.length≤sizeLine)
 (hv:KV kvs' vs') (hd:h'.DictOf (iC X.prog X.w) d vs') (sb:Heap.SameBut d s.heap h'):ac X pins σ (aI H d (.dK kvs')) { s with heap:=h',toks:=t' }:=by
 obtain ⟨o,es,ep,ho,q⟩:=hd
 refine I.write (x:=d) (e:=d) (by rw [hH];exact trivial) (.inl rfl) (fun b u hb hu=>(sb.2 b hb).trans hu) ⟨_,ho⟩ ?_
 exact ⟨hz,hm,vs',hv,o,es,ep,ho,q⟩
structure og (H:Hp) (p:Addr) (o:HO) (H':Hp):Prop where
 at':H' p=some o
 ol:∀a u,a≠p→H a=some u→H' a=some u
 fre:∀a,a≠p→H a=none→H' a=none
theorem og.mk' {H:Hp}{p:Addr}{o:HO}:og H p o (aI H p o):=⟨az,fun a u n h=>by rw [ak n];exact h,fun a n h=>by rw [ak n];exact h⟩
inductive zW (o:V) (i:V) (v:V) (H:Hp) (Q:(Hp→Prop)):Prop
 | mk (d:_) (kvs:_) (k:_) (h0:o=.ref d) (h1:i=sx k) (h2:H d=some (.dK kvs)) (h3:kvs.length≤4000) (h4:∀H',og H d (.dK (cB kvs k v)) H'→Q H')
def BD:V→V→V→Hp→(Hp→Prop)→Prop:=fun o i v H Q=>zW  o i v H Q
theorem wC:uO X BD:=by
 intro pins s σ H o i v ov iv u Q I ro ri rv h
 obtain ⟨d,kvs,k,rfl,rfl,hd,hl,q⟩:=h
 cases ro
 obtain ⟨hz,hm,vs,rel,dd⟩:=(show be X.prog X.w H s.heap d (.dK kvs) from I.hok d _ hd)
 exact wpAny_setItem_pairs (hsz:=by rw [←rel.length];exact hz) (me ri) dd fun h' hd' sb=>⟨_,I.dset hd hm (vH (by rw [sizeLine_eq];trivial)) (pW rel rv) hd' sb,q _ .mk'⟩
end
section
variable {prog:Program}{w:World}{A:Around}{R:Result→Shared→Prop}{s:Shared}
end
section
variable {X:Cx}{kx vx tg iter:Expr}{ifs:List Expr}{scope:Scope}{pos:Pos}{N':List Str}{L:Nat}{src:List Nat}{wi:TI}{g:TG}{tt:TT}{tk tv:TE}
end
end L2
namespace KM
variable {ls:List (List Nat)}{es done:List Edge}{W u:List Nat→Rat}{S:List (List Nat)}{q:List Nat}{m:Rat}
end KM
namespace L2
open PySem PySem.Spec PyProof.Rows
section
variable {z:Nat}{E:Addr→Prop}{H H':Hp}{n m k:Nat}{v:V}{xs ys:List V}
end
section
variable {X:Cx}{K:PySem.W.Frag}
end
section
variable {X:Cx}
inductive Bd (x:V) (vs:List V) (H:Hp) (Q:VK):Prop
 | mk (l:_) (xs:_) (y:_) (h0:x=.ref l) (h1:vs=[]) (h2:H l=some (.lst (xs++[y]))) (h3:∀H',Ch H l xs H'→Q y H')
def BP:V→List V→Hp→VK→Prop:=fun x vs H Q=>Bd  x vs H Q
theorem tS:tm X "list.pop" BP:=fun pins s σ H x vs v us Q I rx rv ⟨l,xs,y,e1,e2,h,q⟩=>Bm pins s σ H x vs v us Q I rx rv ⟨l,xs++[y],y,e1,e2,h,by simp,by
 rw [List.dropLast_concat];exact q _ .mk'⟩
end
end L2
namespace L2
open PySem
end L2
namespace L2
open PySem PySem.Spec PyProof.Rows
section
variable {prog:Program}{w:World}{A:Around}{E:Value→Shared→Prop}{hp:Heap}{gs:Array GenState}{dr:Drawn}{tk:Nat}{os:OsState}
variable {nm qn:Str}{C N:Addr}{bs bm bB:List Value}{hd:Bool}{sn:List Str}{sb:List Value}{ab:Bool}{cl:Option Bool}{dd:Option Addr}{k0 k1 k2 k3 k5:Option Value}{B nw ni:String}
end
end L2
namespace L2
open PySem PySem.Spec PyProof.Rows PySem.W
section
variable {prog:Program}{w:World}{A:Around}{E:Value→Shared→Prop}{s:Shared}{K:Frag}{x C:Addr}{ox:Obj}{od:Option Obj}{name:Str}{fill expr:Bool}
abbrev my (K:Frag) (C:Addr):Bool:=findIn K (.ref C) "__getattribute__" == some (some (.builtin "BaseException.__getattribute__")) && findIn K (.ref C) "__getattr__" == some none && mroIn K C (.type "BaseException")==some true
theorem tJ {K:Frag}{C:Addr} (h:my K C=true):findIn K (.ref C) "__getattribute__" = some (some (.builtin "BaseException.__getattribute__"))∧findIn K (.ref C) "__getattr__" = some none∧mroIn K C (.type "BaseException")=some true:=by
 simp only [my,Bool.and_eq_true,beq_iff_eq] at h
 exact ⟨h.1.1,h.1.2,h.2⟩
theorem ve {tk:Tok}{R:Result→Shared→Prop}{f:Builtin.ObjectAttr.Found} (X:K.In s.heap) (I:InstAt s.heap x ox C od) (g:my K C=true) (hf:findObj K C od name=some f)
 (h:wpAny (model prog w) A.in1 (match f with | .value v=>ret v | .bind g a=>Builtin.ObjectAttr.bindTo g a (.ref x) (.ref C) | .missing=>unsupported "") (fun fin s'=>match fin with | .done (.ret v)=>R (.ok (.ret v)) s' | _=>False) (fun _ _=>False) s) (hm:f≠.missing) :
 codeAny (model prog w) A (.call (.builtin "BaseException.__getattribute__") ⟨[.ref x,.str name tk],[]⟩) R s:=by
 obtain ⟨g1,g2,g3⟩:=tJ g
 have sub:Looks (model prog w) s.heap (isInstance (.ref x) (.type "BaseException")) true:=I.type.andThen (looks_mroIn X g3)
 refine codeAny_call_builtin PySem.F.attr_ValueError.ga.plain PySem.F.entry_bexc_ga (@check_slot (model prog w) _ _ s "BaseException.__getattribute__" "BaseException" "__getattribute__" (.ref x) [.str name tk] [] _ (by nofun) (by nofun) sub (PySem.F.args_bexc_ga _ _) ?_)
 have L1:=looks_find (M:=model prog w) X I hf
 have L0:=I.type (M:=model prog w)
 unfold Builtin.«object.__getattribute__»
 refine wpAny_bind (wpAny_pure (wpAny_bind (wpAny_pure (wpAny_bind (L0.here (wpAny_bind (L1.here ?_)))))))
 cases f with
 | missing=>exact absurd rfl hm
 | value v=>
  refine wpAny_mono h (fun fin s' z=>?_) fun _ _ z=>z.elim
  rcases fin with (_ | _ | _ | _) | _ <;> first | exact z | exact z.elim
 | bind g a=>
  refine wpAny_mono h (fun fin s' z=>?_) fun _ _ z=>z.elim
  rcases fin with (_ | _ | _ | _) | _ <;> first | exact z | exact z.elim
theorem y7 {tk:Tok}{Q:Value→Shared→Prop}{f:Builtin.ObjectAttr.Found} (X:K.In s.heap) (I:InstAt s.heap x ox C od) (g:my K C=true) (hf:findObj K C od name=some f) (hm:f≠.missing)
 (h:wpAny (model prog w) A.in1 (match f with | .value v=>ret v | .bind g a=>Builtin.ObjectAttr.bindTo g a (.ref x) (.ref C) | .missing=>unsupported "") (fun fin s'=>match fin with | .done (.ret v)=>wpAny (model prog w) A (handedOut v) Q E s' | _=>False) (fun _ _=>False) s) :
 wpAny (model prog w) A (getAttrBy (.ref x) (.str name tk) fill expr) Q E s:=by
 obtain ⟨g1,g2,g3⟩:=tJ g
 have L0:=I.type (M:=model prog w)
 have L1:=looks_findIn (M:=model prog w) X g1
 have L2:=looks_findIn (M:=model prog w) X g2
 unfold getAttrBy
 refine wpAny_holding (wpAny_bind (L0.here (wpAny_bind (L1.here ?_))))
 dsimp only
 rw [show (onTheHeap (Value.ref C) && Value.builtin "BaseException.__getattribute__" == Value.builtin "object.__getattribute__")=false from by rw [show (Value.builtin "BaseException.__getattribute__" == Value.builtin "object.__getattribute__")=false from by nofun,Bool.and_false],if_neg (by decide)]
 unfold getAttrByItsOwn hookBefore
 rw [if_pos (show onTheHeap (Value.ref C)=true from rfl)]
 refine wpAny_bind (L2.here (wpAny_bind (wpAny_attempt (wpAny_holding ?_))))
 unfold callGetattribute
 rw [show (expr && onTheHeap (Value.builtin "BaseException.__getattribute__"))=false by cases expr <;> rfl,if_neg (by decide)]
 unfold boundAndCalled
 rw [PySem.F.attr_ValueError.ga.bind]
 refine wpAny_bind (wpAny_pure (wpAny_call (ve X I g hf (wpAny_mono h (fun fin s' z=>?_) fun _ _ z=>z) hm)))
 rcases fin with (_ | _ | _ | _) | _ <;> first | exact z | exact z.elim
abbrev kA (K:Frag) (C:Addr):Bool:=my K C && (clsIn K C).isSome && findIn K (.ref C) "__class__" == some (some (.builtin "object.__class__")) && specialIn K (.builtin "object.__class__") "__get__" == some (some (.builtin "getset_descriptor.__get__")) && takesIn K (.builtin "object.__class__")==some true && mroIn K C (.type "object")==some true
theorem nF {K:Frag}{C:Addr} (h:kA K C=true):my K C=true∧(clsIn K C).isSome=true∧findIn K (.ref C) "__class__" = some (some (.builtin "object.__class__"))∧specialIn K (.builtin "object.__class__") "__get__" = some (some (.builtin "getset_descriptor.__get__"))∧takesIn K (.builtin "object.__class__")=some true∧mroIn K C (.type "object")=some true:=by
 unfold kA at h
 simp only [Bool.and_eq_true,beq_iff_eq] at h
 obtain ⟨⟨⟨⟨⟨a,b⟩,c⟩,d⟩,e⟩,f⟩:=h
 exact ⟨by unfold my;simp only [Bool.and_eq_true,beq_iff_eq];exact a,b,c,d,e,f⟩
theorem uu (g:kA K C=true):findObj K C od "__class__" = some (.bind (.builtin "getset_descriptor.__get__") (.builtin "object.__class__")):=by
 obtain ⟨_,hc,ha,hg,ht,_⟩:=nF g
 obtain ⟨cd,hc⟩:=Option.isSome_iff_exists.mp hc
 unfold findObj
 rw [hc,Option.bind_some,ha,Option.bind_some]
 dsimp only
 rw [hg,Option.bind_some]
 dsimp only
 rw [ht,Option.bind_some]
theorem y0 {Q:Option Value→Shared→Prop} (X:K.In s.heap) (I:InstAt s.heap x ox C od) (g:kA K C=true) (h:Q (some (.ref C)) { s with toks:=s.toks+1 }):wpAny (model prog w) A (getAttr? (.ref x) "__class__") Q E s:=by
 obtain ⟨g0,_,_,_,_,gm⟩:=nF g
 unfold getAttr? getAttrBy?
 refine wpAny_bind (wpAny_mkText (wpAny_bind (wpAny_attempt (y7 (s:={ s with toks:=s.toks+1 }) X I g0 (uu g) (fun z=>nomatch z) ?_))))
 show wpAny _ _ (holding [_] (call _ _) >>= ret) _ _ _
 refine wpAny_bind (wpAny_holding (wpAny_call (class_get (s:={ s with toks:=s.toks+1 }) (ox:=ox) (od:=od) X I gm (wpAny_pure (handed_on rfl (wpAny_pure h))))))
theorem rM (g:kA K C=true):KitX K (.ref x) (.ref C) (fun h=>bn fun ox od=>InstAt h x ox C od) where
 ty:=fun _ _ _ ⟨_,_,I⟩=>I.type
 it:=fun _ _ X _=>by
  obtain ⟨cd,hc⟩:=Option.isSome_iff_exists.mp (nF g).2.1
  unfold clsIn at hc
  split at hc
  ·rename_i ho
   intro A' Q' E' s' k q
   unfold isType loadHead
   exact wpAny_bind (wpAny_loadPart (k _ _ (X _ _ ho)) (wpAny_pure q))
  ·cases hc
 ne:=fun h tp dd its n sl X htp=>by
  obtain ⟨cd,hc⟩:=Option.isSome_iff_exists.mp (nF g).2.1
  refine Bool.eq_false_iff.mpr fun q=>?_
  obtain rfl:C=tp:=Value.ref.inj (beq_iff_eq.mp q)
  unfold clsIn at hc
  split at hc
  ·rename_i ho
   have z:=(X _ _ ho).symm.trans htp
   cases z
  ·cases hc
 ca:=fun X ⟨_,_,I⟩ k=>y0 X I g k
end
end L2
namespace L2
open PySem PySem.Spec PyProof.Rows PySem.W PySem.Builtin.ObjectAttr
def pY:List Value→Bool
 | .ref _ :: r=>pY r
 | l=>l==[.type "ValueError",.type "Exception",.type "BaseException",.type "object"]
abbrev ua (K:Frag) (C:Addr) (name:Str):Bool:=(clsIn K C).any (fun cd=>pY cd.mro && cd.hasDict) && findIn K (.ref C) "__setattr__" == some (some (.builtin "object.__setattr__")) && takerIn K C name==some none && mroIn K C (.type "object")==some true
section
variable {prog:Program}{w:World}{A:Around}{E:Value→Shared→Prop}{s:Shared}{K:Frag}{x C:Addr}{ox:Obj}{name:Str}{v:Value}
end
abbrev xJ:List Value:=[.type "ValueError",.type "Exception",.type "BaseException",.type "object"]
def xy (d:Data):Option ClassData:=match d with
 | .cls cd=>some cd
 | _=>none
theorem yB {d:Data}{cd:ClassData} (h:xy d=some cd):d=.cls cd:=by
 cases d with
 | cls c=>cases h;rfl
 | _=>cases h
theorem Dr {α:Type}{ls:List α} (h:ls.length=6):Az fun a b c d e f=>ls=[a,b,c,d,e,f]:=by
 match ls,h with
 | [a,b,c,d,e,f],_=>exact ⟨a,b,c,d,e,f,rfl⟩
theorem DE {α:Type}{sl:Array α}{x:α} (h:sl.size=6) (k:sl[4]?=some x):xZ fun a b c d f=>sl=#[a,b,c,d,x,f]:=by
 obtain ⟨l⟩:=sl
 obtain ⟨a,b,c,d,e,f,rfl⟩:=Dr (show l.length=6 from h)
 obtain rfl:e=x:=Option.some.inj k
 exact ⟨a,b,c,d,f,rfl⟩
def dq (K:Frag) (C:Addr) (ini:Option Value):Bool:=match K.lookup C with
 | none=>false
 | some o=>match xy o.data with
  | none=>false
  | some cd=>(o.cls==.type "type") && ((cd.mro.head?==some (.ref C)) && (!cd.hasDel && (tailIn K xJ cd.mro.tail && (nsOkIn K cd.ns && (nsIn K cd.ns "__init__" == some ini && (o.slots.size==6 && o.slots[4]?==some (some (.builtin "ValueError.__new__"))))))))
theorem Ah {K:Frag}{h:Heap}{N:Addr}{mp:Str→Option Value}{n:Str}{v:Value} (X:K.In h) (G:h.Ns N mp) (e:nsIn K N n=some (some v)):mp n=some v:=by
 obtain ⟨ob,es,ep,ho,hd,_,f⟩:=G
 unfold nsIn at e
 split at e
 ·rename_i q
  have z:=X _ _ q
  rw [ho] at z
  cases z
  cases hd
  split at e
  ·rename_i he
   cases e
   rw [←f]
   unfold nsFind findBy
   rw [←Array.find?_toList,he];rfl
  ·split at e <;> cases e
 ·cases e
theorem xP {K:Frag}{h:Heap}{C:Addr}{ini:Option Value} (X:K.In h) (q:dq K C ini=true):∃nm qn N bs bm hd sn sb ab cl dd k0 k1 k2 k3 k5 mN,
 h.get? C=some (excClassObj nm qn C N bs bm hd sn sb ab cl dd k0 k1 k2 k3 k5 "ValueError.__new__")∧h.Ns N mN∧OwnTail h xJ bm∧mN "__init__" = ini:=by
 unfold dq at q
 cases ho:K.lookup C with
 | none=>rw [ho] at q;cases q
 | some o=>
  rw [ho] at q
  dsimp only at q
  cases hc:xy o.data with
  | none=>rw [hc] at q;cases q
  | some cd=>
   rw [hc] at q
   dsimp only at q
   rw [Bool.and_eq_true,Bool.and_eq_true,Bool.and_eq_true,Bool.and_eq_true,Bool.and_eq_true,Bool.and_eq_true,Bool.and_eq_true,beq_iff_eq,beq_iff_eq,beq_iff_eq,beq_iff_eq,beq_iff_eq,Bool.not_eq_true'] at q
   obtain ⟨q1,q2,dl,tl,ok,hi,z1,z2⟩:=q
   obtain ⟨k0,k1,k2,k3,k5,e6⟩:=DE z1 z2
   have ed:=yB hc
   obtain ⟨oc,dd,od,sl⟩:=o
   dsimp only at q1 ed e6
   subst q1 ed e6
   obtain ⟨nm,bs,mro,ns,qn,hd,sn,sub,ab,col,del⟩:=cd
   dsimp only at q2 dl tl ok hi
   subst dl
   cases mro with
   | nil=>cases q2
   | cons m bm=>
    obtain rfl:m=.ref C:=Option.some.inj q2
    have nm1:h.Ns ns (h.nsMap ns):=.of_isNs (isNs_of_in X ok)
    refine ⟨nm,qn,ns,bs,bm,hd,sn,sub,ab,col,dd,k0,k1,k2,k3,k5,_,X _ _ ho,nm1,tail_of_in X tl,?_⟩
    cases ini with
    | none=>exact nsMap_none_of_in X ok hi
    | some v=>exact Ah X nm1 hi
section
variable {prog:Program}{w:World}{A:Around}{E:Value→Shared→Prop}{s:Shared}{K:Frag}{x C:Addr}{ox:Obj}{od:Option Obj}{a0:Value}
end
end L2
namespace L2
open PySem PySem.Spec PyProof.Rows
theorem be.there {P:Program}{w:World}{H:Hp}{h:Heap}{a:Addr}{o:HO} (x:be P w H h a o):∃u,h.get? a=some u:=by
 cases o with
 | lst xs=>obtain ⟨_,_,_,_,e⟩:=x;exact ⟨_,e⟩
 | tup xs=>obtain ⟨_,_,_,⟨_,e,_⟩,_⟩:=x;exact ⟨_,e⟩
 | dK kvs=>obtain ⟨_,_,_,_,o,_,_,e,_⟩:=x;exact ⟨_,e⟩
 | dT kvs=>obtain ⟨_,_,_,_,o,_,_,e,_⟩:=x;exact ⟨_,e⟩
 | set S n=>obtain ⟨o,_,_,_,e,_⟩:=x;exact ⟨_,e⟩
 | ins C dx fs=>obtain ⟨_,_,_,e,_⟩:=x;exact ⟨_,e⟩
 | own y=>obtain ⟨_,e⟩:=x;exact ⟨_,e⟩
 | xd fs=>obtain ⟨_,⟨_,_,_,e,_⟩,_⟩:=x;exact ⟨_,e⟩
 | rng lo hi=>obtain ⟨_,_,_,e⟩:=x;exact ⟨_,e⟩
 | frz ob u=>obtain ⟨e,_⟩:=x;exact ⟨_,e⟩
 | tbl ps=>exact ⟨_,show h.get? a=some _ from x⟩
 | met f y=>exact ⟨_,show h.get? a=some _ from x⟩
 | ext φ=>obtain ⟨_,e,_⟩:=x;exact e
theorem cE.none' {P:Program}{w:World}{H:Hp}{h:Heap}{a:Addr} (x:cE P w H h) (e:h.get? a=none):H a=none:=by
 cases q:H a with
 | none=>rfl
 | some u=>obtain ⟨o,z⟩:=(x a u q).there;rw [e] at z;cases z
section
variable {X:Cx}{pins:List (Addr×Obj)}{σ:St}{H:Hp}{s:Shared}{h':Heap}
theorem ac.laidN {a:Addr}{o:HO}{t':Nat} (I:ac X pins σ H s) (k:∀b u,s.heap.get? b=some u→h'.get? b=some u) (hn:s.heap.get? a=none) (new:be X.prog X.w (aI H a o) h' a o) :
 ac X pins σ (aI H a o) { s with heap:=h',toks:=t' }:=by
 have hH:=I.hok.none' hn
 have ne:∀{b:Addr}{u:HO},H b=some u→b≠a:=fun q z=>by rw [z,hH] at q;cases q
 refine I.un ⟨fun b u q _ _ _=>k b u q,fun b u q _ _ _=>⟨u.slots,k b u q⟩,fun b u q n _=>?_,fun b u q _=>⟨u,k b u q⟩,fun b xs q=>?_,fun b u xs q=>?_,fun b ps q=>⟨#[],?_⟩⟩ fun b u e=>?_
 ·rw [ak (fun z=>by rw [z,hn] at q;cases q)];exact n
 ·rw [ak (ne q)];exact q
 ·rw [ak (ne q)];exact q
 ·rw [ak (ne q),q];simp
 ·by_cases hb:b=a
  ·subst hb;rw [az] at e;cases e;exact new
  ·rw [ak hb] at e
   exact (I.hok b u e).stay (fun c v _ q=>k c v q) (fun c q=>by rw [ak (ne q)];exact q) fun c xs q=>by rw [ak (ne q)];exact q
end
def xh (x C:Addr) (dx:Option Addr) (h:Heap):Prop:=bn fun a0 sl=>h.get? x=some ⟨.ref C,dx,.fields #[a0,.none,.none,.none,.bool false,.none],sl⟩
def kI (x C:Addr) (dx:Option Addr):HO:=.ext (xh x C dx)
theorem yT {P:Program}{w:World}{H:Hp}{h:Heap}{x C:Addr}{dx:Option Addr} (e:xh x C dx h):be P w H h x (kI x C dx):=
 ⟨e,let ⟨_,_,q⟩:=e;⟨_,q⟩,fun h1 h2 ⟨a0,sl,q⟩ k=>⟨a0,sl,k _ q⟩⟩
theorem tf {P:Program}{w:World}{H:Hp}{h:Heap}{x C:Addr}{dx:Option Addr} (ok:cE P w H h) (e:H x=some (kI x C dx)):xh x C dx h:=(ok x _ e).1
section
variable {X:Cx}{C f:Addr}{x:Str}{p pos:Pos}{e:Expr}{es:List Expr}{t:TA}{k:Nat}{fd:FuncData}{ps:List Str}{sp:Sp}{E:XK}
def BO (C:Addr) (t:TA):TE:=fun σ H Q=>t σ H fun vs H1=>vs.length≤10000∧∀y H',Nw H1 y (kI y C none) H'→Q (.ref y) H'
theorem wP {pins:List (Addr×Obj)}{σ:St}{H:Hp}{s:Shared}{Q:VK}{us:List Value}{vs:List V} (q:dq X.K C none=true) (I:ac X pins σ H s) (r:aq vs us) (hl:vs.length≤10000)
 (h:∀y H',Nw H y (kI y C none) H'→Q (.ref y) H'):wpAny (model X.prog X.w) X.A (call (.ref C) us) (EP X pins σ Q) X.xe s:=by
 obtain ⟨nm,qn,N,bs,bm,hd,sn,sb,ab,cl,dd,k0,k1,k2,k3,k5,mN,eC,eN,T,eI⟩:=xP I.kIn q
 have FB:=PySem.F.excBase_ValueError
 obtain ⟨hp,gs,dr,tk,os⟩:=s
 refine wpAny_call_exc_subT FB T eC eN eI (fun h1 y m=>?_) (by rw [←r.length];exact gW hl)
 obtain ⟨a0,e1,_,_⟩:=m.there
 exact ⟨.ref y,_,I.laidN (t':=tk) m.keeps m.new (yT ⟨_,_,e1⟩),rfl,h y _ (.mk' (I.hok.none' m.new))⟩
theorem k7 (q:dq X.K C none=true) (kp:PySem.W.keepIn X.K (.ref C)=true) (hg:Gl X x) (hm:X.mg x=some (.ref C)) (ha:PA X (e :: es) t) (hdb:(x==("__debug__" : Str))=false:=by decide)
 (he:starEach (e :: es) X.env=(false,eval e X.env) :: starEach es X.env:=by rfl) (hpl:(backTo pos (starEach es X.env)).any (·.1)=false:=by rfl):PE X (.Call (.Name x p) (e :: es) [] pos) (BO C t):=by
 intro pins s σ H Q I h
 refine wpAny_Call_Name_kw (gQ I hg hm ?_ hdb)
 exact PySem.W.callWith_K (h₀:=X.base) I.ok.mod.kin kp (aF (ha pos pins s σ H _ I h) fun us s1 ⟨vs,H1,I1,r,hl,q1⟩=>⟨I1.kIn,wP q I1 r hl q1⟩) he hpl
theorem gy {H:Hp}{a:Addr}{o:HO} (h:H a=some o):aI H a o=H:=by
 funext b
 unfold aI
 split
 ·rename_i z;rw [z,h]
 ·rfl
abbrev zG (K:PySem.W.Frag) (B:Addr):Bool:=PySem.W.specialIn K (.ref B) "__getattribute__" == some (some (.builtin "type.__getattribute__")) && PySem.W.readsIn K B (.type "type") && (match PySem.W.findCls K (.ref B) (.type "type") "__init__" with | some (.val v)=>v==.builtin "ValueError.__init__" | _=>false)
abbrev uz (K:PySem.W.Frag) (C:Addr) (f:Str):Bool:=my K C && (PySem.W.clsIn K C).any (·.hasDict) && PySem.W.findIn K (.ref C) f==some none
theorem j0 (hg:Gl X x) (hm:X.mg x=some (.ref C)) (hdb:(x==("__debug__" : Str))=false:=by decide):PE X (.Name x p) (tC (.ref C)):=fun pins s σ H Q I h=>gQ I hg hm ⟨.ref C,H,I,rfl,h⟩ hdb
def xf:V→Option Value
 | .ref a=>some (.ref a)
 | .ty T=>some (.type T)
 | _=>none
end
theorem mZ:bootBuiltins "ValueError" = some (.type "ValueError"):=by nofun
def cY:Stmt→Nat→Stmt
 | .ClassDef _ _ _ body _ _ _ _ _ _ _,j=>body.getD j (.Pass ⟨0,0,0,0⟩)
 | _,_=>.Pass ⟨0,0,0,0⟩
def lu (K:PySem.W.Frag) (cs:List Addr) (g:Addr):Bool:=decide cs.Nodup && cs.all fun c=>kA K c && (PySem.W.kitOne K (.ref c) (.ref g)==some true && (PySem.W.kitOne K (.ref c) (.type "ValueError")==some true && cs.all fun d=>PySem.W.kitOne K (.ref c) (.ref d)==some (decide (c=d))))
theorem xn {K:PySem.W.Frag}{cs:List Addr}{g:Addr} (h:lu K cs g=true):cs.Nodup:=of_decide_eq_true (Bool.and_eq_true _ _▸h).1
theorem rS {K:PySem.W.Frag}{cs:List Addr}{g c:Addr} (h:lu K cs g=true) (hc:c∈cs):kA K c=true∧PySem.W.kitOne K (.ref c) (.ref g)=some true∧PySem.W.kitOne K (.ref c) (.type "ValueError")=some true∧∀d∈cs,PySem.W.kitOne K (.ref c) (.ref d)=some (decide (c=d)):=by
 unfold lu at h
 rw [Bool.and_eq_true,List.all_eq_true] at h
 have z:=h.2 c hc
 obtain ⟨z1,z⟩:=Bool.and_eq_true_iff.mp z
 obtain ⟨z2,z⟩:=Bool.and_eq_true_iff.mp z
 obtain ⟨z3,z⟩:=Bool.and_eq_true_iff.mp z
 exact ⟨z1,beq_iff_eq.mp z2,beq_iff_eq.mp z3,fun d hd=>beq_iff_eq.mp (List.all_eq_true.mp z d hd)⟩
section
variable {X:Cx}
end
def lf (h:Heap) (a T:Addr) (C:Value) (dx:Option Addr) (fl:Value):Prop:=
 nZ fun vs sl oT ts=>h.get? a=some ⟨C,dx,.fields vs,sl⟩∧vs[1]?=some (.ref T)∧T≠a∧h.get? T=some oT∧oT.data=.fields ts∧ts[3]?=some fl
def Kp (h h':Heap) (bad fs:List Addr):Prop:=∀b o,b∉bad→h.get? b=some o→(∃sl,h'.get? b=some { o with slots:=sl })∧(b∉fs→h'.get? b=some o)
def zO (head:Value) (L:Addr) (pl:List Value):Obj:={ cls:=.type "traceback",dict:=none,data:=.fields ([head,.ref L,.none,rawInt L,.none]++(if pl.isEmpty then List.replicate 6 Value.none else pl)).toArray }
section
variable {M:Model}{A:Around}{E:Value→Shared→Prop}{s:Shared}{base:Heap}{env:Env}{outer:List Env}{L a T:Addr}{C head:Value}{dx:Option Addr}{vs:Array Value}{sl:Array (Option Value)}{hn:Bool}{Q:Unit→Shared→Prop}
theorem p9 (hfr:A.frames=some (env :: outer)) (hl:s.heap.FunFrames base (env :: outer)) (hf:env.frame=some L) (he:s.heap.get? a=some ⟨C,dx,.fields vs,sl⟩) (hz:1<vs.size)
 (h:∀h' T,lf h' a T C dx (rawInt L)→T=s.heap.objs.size→Kp s.heap h' [a] (dU (env :: outer))→Q () { s with heap:=h' }) :
 wpAny M A (do let f ←frameOf env;let pl ←entryPlaceOf L hn;let b ←EntryCells.newEntry head f .none (rawInt L) .none pl;setField (.ref a) 1 b) Q E s:=by
 have na:a∉dU (env :: outer):=fun z=>by
  obtain ⟨_,o,ho,q⟩:=hl.mem z
  rw [he] at ho
  cases ho
  exact q vs rfl
 refine wpAny_bind (wpAny_frameOf_fun hfr hl hf fun h1 s1=>wpAny_bind (wpAny_entryPlaceOf fun pl hp=>?_))
 have e1:h1.get? a=some ⟨C,dx,.fields vs,sl⟩:=(s1.2.1 a na).trans he
 unfold EntryCells.newEntry newFields
 refine wpAny_bind (wpAny_newObj_type ?_ (hp.sizeOk5 _ _ _ _ _))
 show wpAny M A (setField (.ref a) 1 (.ref h1.objs.size)) Q E { s with heap:=h1.push (zO head L pl) }
 have e2:=Heap.get?_push_of_some (h:=h1) (zO head L pl) e1
 have nT:h1.objs.size≠a:=Nat.ne_of_gt (Heap.lt_size e1)
 refine wpAny_setField e2 rfl hz (h _ h1.objs.size ⟨vs.setIfInBounds 1 (.ref h1.objs.size),sl,zO head L pl,_,?_,?_,nT,?_,rfl,?_⟩ s1.1 fun b o nb hb=>?_)
 ·exact Heap.get?_update_self _ e2 rfl
 ·simp [hz]
 ·rw [Heap.get?_update_other _ _ (Ne.symm nT)]
  exact Heap.get?_push_size h1 rfl
 ·rw [List.getElem?_toArray,List.getElem?_append_left (by show 3<5;decide)]
  rfl
 ·have nb':a≠b:=fun z=>nb (by simp [z])
  obtain ⟨sl',q⟩:=s1.2.2 b o hb
  refine ⟨⟨sl',?_⟩,fun nf=>?_⟩
  ·rw [Heap.get?_update_other _ _ nb']
   exact Heap.get?_push_of_some _ q
  ·rw [Heap.get?_update_other _ _ nb']
   exact Heap.get?_push_of_some _ ((s1.2.1 b nf).trans hb)
theorem uD (hfr:A.frames=some (env :: outer)) (hl:s.heap.FunFrames base (env :: outer)) (hf:env.frame=some L) (he:s.heap.get? a=some ⟨C,dx,.fields vs,sl⟩) (h1:vs[1]?=some .none)
 (h:∀h' T,lf h' a T C dx (rawInt L)→T=s.heap.objs.size→Kp s.heap h' [a] (dU (env :: outer))→Q () { s with heap:=h' }):wpAny M A (noteFrame (.ref a) env) Q E s:=by
 unfold noteFrame
 simp only [hf]
 refine wpAny_bind (wpAny_field he rfl h1 ?_)
 rw [if_neg (by decide)]
 exact p9 hfr hl hf he (Array.getElem?_eq_some_iff.mp h1).1 h
theorem mn (hfr:A.frames=some (env :: outer)) (hl:s.heap.FunFrames base (env :: outer)) (hf:env.frame=some L) (ht:lf s.heap a T C dx .none)
 (h:∀h' T',lf h' a T' C dx (rawInt L)→T'=s.heap.objs.size→Kp s.heap h' [a,T] (dU (env :: outer))→Q () { s with heap:=h' }):wpAny M A (noteFrame (.ref a) env) Q E s:=by
 obtain ⟨vs,sl,oT,ts,he,h1,ne,hT,hd,h3⟩:=ht
 unfold noteFrame
 simp only [hf]
 refine wpAny_bind (wpAny_field he rfl h1 ?_)
 rw [if_pos (show (Value.ref T != Value.none)=true by simp)]
 refine wpAny_bind (wpAny_field hT hd h3 ?_)
 rw [if_neg (show ¬((Value.none==rawInt L)=true) by simp [rawInt])]
 refine wpAny_bind (wpAny_setField hT hd (Array.getElem?_eq_some_iff.mp h3).1 ?_)
 have ot:∀b,b≠T→(s.heap.update T (Obj.mapFields (·.setIfInBounds 3 Value.none))).get? b=s.heap.get? b:=fun b nb=>Heap.get?_update_other _ _ (Ne.symm nb)
 have nr:∀b o,s.heap.get? b=some o→(∀vs,o.data≠.fields vs)→b≠T:=fun b o hb q z=>by
  rw [z,hT] at hb
  cases hb
  exact q ts hd
 refine p9 hfr (hl.of_keeps fun b o hb q=>⟨o,(ot b (nr b o hb q)).trans hb,rfl⟩) hf ((ot a (Ne.symm ne)).trans he) (Array.getElem?_eq_some_iff.mp h1).1 fun h' T' t z k=>h h' T' t (z.trans (Heap.size_after_update ..)) fun b o nb hb=>?_
 have n1:b∉[a]:=fun z=>nb (by simp [List.mem_singleton.mp z])
 have n2:b≠T:=fun z=>nb (by simp [z])
 exact k b o n1 ((ot b n2).trans hb)
theorem jx {fl:Value} (ht:lf s.heap a T C dx fl) (h:∀h',lf h' a T C dx .none→Kp s.heap h' [T] []→Q () { s with heap:=h' }):wpAny M A (setFlight (.ref a) none) Q E s:=by
 obtain ⟨vs,sl,oT,ts,he,h1,ne,hT,hd,h3⟩:=ht
 unfold setFlight
 refine wpAny_bind (wpAny_field he rfl h1 ?_)
 rw [if_pos (show (Value.ref T != Value.none)=true by simp)]
 have z3:=(Array.getElem?_eq_some_iff.mp h3).1
 have dT:=Obj.data_mapFields hd (·.setIfInBounds 3 Value.none)
 refine wpAny_setField hT hd z3 (h _ ⟨vs,sl,_,_,?_,h1,ne,Heap.get?_update_self _ hT (Obj.isFreed_of_fields dT),dT,by simp [z3]⟩ fun b o nb hb=>?_)
 ·exact (Heap.get?_update_other _ _ ne).trans he
 ·have nb':T≠b:=fun z=>nb (by simp [z])
  have q:=(Heap.get?_update_other s.heap (Obj.mapFields (·.setIfInBounds 3 ((none:Option Addr).elim Value.none fun f=>rawInt f))) nb').trans hb
  exact ⟨⟨o.slots,q⟩,fun _=>q⟩
theorem Kp.trans0 {h h1 h2:Heap}{bad fs:List Addr}{T:Addr} (k:Kp h h1 bad fs) (k2:Kp h1 h2 [T] []) (n:h.objs.size≤T):Kp h h2 bad fs:=fun b o nb hb=>by
 have nT:b∉[T]:=fun z=>by
  have q:=Heap.lt_size hb
  rw [List.mem_singleton.mp z] at q
  exact absurd q (Nat.not_lt.mpr n)
 obtain ⟨⟨sl,q1⟩,q2⟩:=k b o nb hb
 exact ⟨⟨sl,(k2 b _ nT q1).2 (by simp)⟩,fun nf=>(k2 b _ nT (q2 nf)).2 (by simp)⟩
theorem sU (hfr:A.frames=some (env :: outer)) (hl:s.heap.FunFrames base (env :: outer)) (hf:env.frame=some L) (he:s.heap.get? a=some ⟨C,dx,.fields vs,sl⟩) (h1:vs[1]?=some .none)
 (h:∀h' T,lf h' a T C dx .none→T=s.heap.objs.size→Kp s.heap h' [a] (dU (env :: outer))→Q () { s with heap:=h' }):wpAny M A (leaving env (.ref a)) Q E s:=by
 unfold leaving
 exact wpAny_bind (uD hfr hl hf he h1 fun h' T t z k=>jx t fun h2 t2 k2=>h h2 T t2 z (k.trans0 k2 (Nat.le_of_eq z.symm)))
theorem uN (hfr:A.frames=some (env :: outer)) (hl:s.heap.FunFrames base (env :: outer)) (hf:env.frame=some L) (ht:lf s.heap a T C dx .none)
 (h:∀h' T',lf h' a T' C dx .none→T'=s.heap.objs.size→Kp s.heap h' [a,T] (dU (env :: outer))→Q () { s with heap:=h' }):wpAny M A (leaving env (.ref a)) Q E s:=by
 unfold leaving
 exact wpAny_bind (mn hfr hl hf ht fun h' T t z k=>jx t fun h2 t2 k2=>h h2 T t2 z (k.trans0 k2 (Nat.le_of_eq z.symm)))
end
def iz (x C:Addr) (dx:Option Addr):HO:=.ext fun h=>bn fun vs sl=>h.get? x=some ⟨.ref C,dx,.fields vs,sl⟩
theorem yt {P:Program}{w:World}{H:Hp}{h:Heap}{x C:Addr}{dx:Option Addr} (e:bn fun vs sl=>h.get? x=some ⟨.ref C,dx,.fields vs,sl⟩):be P w H h x (iz x C dx):=
 ⟨e,let ⟨_,_,q⟩:=e;⟨_,q⟩,fun h1 h2 ⟨vs,sl,q⟩ k=>⟨vs,sl,k _ q⟩⟩
theorem su {P:Program}{w:World}{H:Hp}{h:Heap}{x C:Addr}{dx:Option Addr} (ok:cE P w H h) (e:H x=some (iz x C dx)):bn fun vs sl=>h.get? x=some ⟨.ref C,dx,.fields vs,sl⟩:=(ok x _ e).1
theorem ye {fs ch:List Addr}{H:Hp}{h h':Heap}{a:Addr}{φ:Heap→Prop}{o:HO} (ea:H a=some (.ext φ)) (k:Kp h h' (a :: ch) fs) (th:∃u,h'.get? a=some u):Un fs ch H (aI H a o) h h':=by
 have ne:∀{b:Addr},H b=none→b≠a:=fun q z=>by rw [z,ea] at q;cases q
 have nc:∀{b:Addr},b≠a→b∉ch→b∉a :: ch:=fun n1 n2 z=>(List.mem_cons.mp z).elim n1 n2
 refine ⟨fun b u q n f x=>(k b u (nc (ne n) x) q).2 f,fun b u q n _ x=>(k b u (nc (ne n) x) q).1,fun b u q n _=>by rw [ak (ne n)];exact n,fun b u q x=>?_,fun b xs q=>?_,fun b u xs q=>?_,fun b ps q=>⟨#[],?_⟩⟩
 ·by_cases e:b=a
  ·rw [e];exact th
  ·obtain ⟨⟨sl,z⟩,_⟩:=k b u (nc e x) q
   exact ⟨_,z⟩
 ·rw [ak (fun z=>by rw [z,ea] at q;cases q)];exact q
 ·rw [ak (fun z=>by rw [z,ea] at q;cases q)];exact q
 ·rw [ak (fun z=>by rw [z,ea] at q;cases q),q];simp
theorem wV {P:Program}{w:World}{fs ch:List Addr}{H:Hp}{h h':Heap}{a:Addr}{φ:Heap→Prop}{o:HO} (ok:cE P w H h) (ea:H a=some (.ext φ)) (k:Kp h h' (a :: ch) fs) (ff:∀b∈fs,H b=none) (fc:∀b∈ch,H b=none)
 (nw:be P w (aI H a o) h' a o):cE P w (aI H a o) h':=fun b u e=>by
 by_cases hb:b=a
 ·subst hb
  rw [az] at e
  cases e
  exact nw
 ·rw [ak hb] at e
  refine (ok b u e).stay (fun c v cd q=>?_) (fun c q=>?_) fun c xs q=>?_
  ·have hc:H c≠none∧c≠a:=by
    rcases cd with rfl | cd
    ·exact ⟨by rw [e];simp,hb⟩
    ·exact ⟨by rw [cd];simp,fun z=>by rw [z,ea] at cd;cases cd⟩
   exact (k c v (fun z=>(List.mem_cons.mp z).elim hc.2 fun z=>hc.1 (fc c z)) q).2 fun z=>hc.1 (ff c z)
  ·rw [ak (fun z=>by rw [z,ea] at q;cases q)];exact q
  ·rw [ak (fun z=>by rw [z,ea] at q;cases q)];exact q
section
variable {X:Cx}{pins:List (Addr×Obj)}{σ:St}{H:Hp}{s:Shared}{h':Heap}{a T C:Addr}{dx:Option Addr}{φ:Heap→Prop}{ch:List Addr}{fl:Value}
theorem lf.there (t:lf h' a T (.ref C) dx fl):bn fun vs sl=>h'.get? a=some ⟨.ref C,dx,.fields vs,sl⟩:=let ⟨vs,sl,_,_,e,_⟩:=t;⟨vs,sl,e⟩
theorem ac.noted (I:ac X pins σ H s) (ea:H a=some (.ext φ)) (k:Kp s.heap h' (a :: ch) (dU X.stack)) (t:bn fun vs sl=>h'.get? a=some ⟨.ref C,dx,.fields vs,sl⟩) (fc:∀b∈ch,H b=none)
 (hch:∀b∈ch,(b∈X.ex∨X.s₀.heap.objs.size≤b)∧b≠X.env.locals∧(∀x c,X.env.cells.lookup x=some c→c≠b)∧∀p∈X.pn++pins,p.1≠b):ac X pins σ (aI H a (iz a C dx)) { s with heap:=h' }:=
 I.call' (ch:=ch) rfl (ye ea k (let ⟨_,_,e⟩:=t;⟨_,e⟩)) (wV I.hok ea k I.stkFree fc (yt t)) I.bare hch
theorem ac.far (I:ac X pins σ H s) (n:s.heap.objs.size≤T):(T∈X.ex∨X.s₀.heap.objs.size≤T)∧T≠X.env.locals∧(∀x c,X.env.cells.lookup x=some c→c≠T)∧∀p∈X.pn++pins,p.1≠T:=by
 have lt:∀{b:Addr}{u:Obj},s.heap.get? b=some u→b≠T:=fun q z=>by
  have q':=Heap.lt_size q
  rw [z] at q'
  exact absurd q' (Nat.not_lt.mpr n)
 refine ⟨.inr (Nat.le_trans I.sz n),?_,fun x c e=>?_,fun p hp=>lt (I.pin p hp).1⟩
 ·obtain ⟨m,⟨o,es,ep,ho,_⟩,_⟩:=I.loc
  exact Ne.symm (lt ho)
 ·obtain ⟨v,q⟩:=I.cell x c e
  obtain ⟨o,ho,_⟩:=q
  exact lt ho
end
def d9 (P:Program) (w:World):ij:=fun outer H s E e s'=>xZ fun a T C dx H'=>e=.ref a∧s'.os=s.os∧AllBare s'.gens∧Un (dU outer) [] H H' s.heap s'.heap∧cE P w H' s'.heap∧lf s'.heap a T (.ref C) dx .none∧s.heap.objs.size≤T∧H' T=none∧H' a=some (iz a C dx)∧E (.ref C) dx H'
def vj (X:Cx) (E:XK):Prop:=∀pins σ H s a C dx,ac X pins σ H s→H a=some (kI a C dx)→E (.ref C) dx (aI H a (iz a C dx))→X.xe (.ref a) s
section
variable {P:Program}{w:World}{K:PySem.W.Frag}{mg:Str→Option Value}{base:Heap}{N:List Str}{qual:Str}{scope:Scope}{f:Addr}{cd:Value}{A:Around}{outer:List Env}{s:Shared}{H:Hp}{E:XK}
theorem cX:fm (d9 P w) (lN (d9 P w) P w K mg base N qual scope f cd A outer s H E) E:=by
 intro pins σ H1 s1 e s2 I h
 obtain ⟨a,T,C,dx,H',rfl,os,bare,un,hok,t,n,hT,ha,hE⟩:=h
 have J:=I.call' (ch:=[]) os un hok bare (fun b z=>by cases z)
 have far:=I.far n
 refine uN (L:=s.heap.objs.size) J.ok.frames J.stack rfl t fun h' T' t' z k=>?_
 have J2:=J.noted ha (ch:=[T]) k t'.there (fun b hb=>by rw [List.mem_singleton.mp hb];exact hT) (fun b hb=>by rw [List.mem_singleton.mp hb];exact far)
 rw [gy ha] at J2
 exact ⟨a,T',C,dx,H',rfl,J2.os,J2.bare,J2.base,J2.hok,t',by rw [z];exact J.sz,J.hok.fresh (by rw [z];exact Nat.le_refl _),ha,hE⟩
theorem lr:vj (lN (d9 P w) P w K mg base N qual scope f cd A outer s H E) E:=by
 intro pins σ H1 s1 a C dx J ha hE
 obtain ⟨a0,sl,ea⟩:=tf J.hok ha
 refine sU (L:=s.heap.objs.size) J.ok.frames J.stack rfl ea rfl fun h' T' t' z k=>?_
 have J2:=J.noted ha (ch:=[]) k t'.there (fun b hb=>by cases hb) (fun b hb=>by cases hb)
 have nT:H1 T'=none:=J.hok.fresh (by rw [z];exact Nat.le_refl _)
 exact ⟨a,T',C,dx,(),J2.os,J2.bare,J2.base,J2.hok,t',by rw [z];exact J.sz,by rw [ak (fun q=>by rw [q,ha] at nT;cases nT)];exact nT,az,hE⟩
end
section
variable {M:Model}{A:Around}{E:Value→Shared→Prop}{s:Shared}{env:Env}
theorem vJ {x:Sem Value}{Q:Flow→Shared→Prop} (hh:A.handled=none)
 (h:wpAny M A x (fun v s1=>∃e a0 dx sl nm q C N bs bm hd sn sb ab cl dd k0 k1 k2 k3 k5 nw,v=.ref e∧bm.contains (.type "BaseException")=true∧s1.heap.get? C=some (excClassObj nm q C N bs bm hd sn sb ab cl dd k0 k1 k2 k3 k5 nw)∧
  s1.heap.get? e=some ⟨.ref C,dx,.fields #[a0,.none,.none,.none,.bool false,.none],sl⟩∧E (.ref e) s1) E s):wpAny M A (raiseStmt env (some x) none) Q E s:=by
 unfold raiseStmt
 refine wpAny_bind (wpAny_mono h (fun v s1 h1=>?_) fun _ _ x=>x)
 obtain ⟨e,a0,dx,sl,nm,q,C,N,bs,bm,hd,sn,sb,ab,cl,dd,k0,k1,k2,k3,k5,nw,rfl,hb,hC,he,hE⟩:=h1
 have hcB:(Value.ref C :: bm).contains (.type "BaseException")=true:=by rw [List.contains_cons,hb,Bool.or_true]
 obtain ⟨hp,g,d,tk,os⟩:=s1
 repeat
  first
   | (with_reducible refine wpAny_isSubtype_exc hC ?_
      rw [hcB])
   | (with_reducible refine wpAny_loadPart_at hC ?_)
   | (with_reducible refine wpAny_loadPart_at he ?_)
   | wp_step
 exact wpAny_raiseNew_none hh hE
end
section
variable {X:Cx}{e:Expr}{te:TE}{pos:Pos}{E:XK}
def Bn (K:PySem.W.Frag) (E:XK) (te:TE):TS:=fun D σ H=>te σ H fun v H'=>nZ fun a C dx ini=>v=.ref a∧H' a=some (kI a C dx)∧dq K C ini=true∧E (.ref C) dx (aI H' a (iz a C dx))
theorem jI (hc:X.calm=true) (hx:vj X E) (he:PE X e te):PS X (.Raise (some e) none pos) (Bn X.K E te):=by
 intro pins s σ H D I h
 rw [arm_exec_Raise]
 refine wpAny_bind (wpAny_standAt ?_)
 show wpAny _ _ (raiseStmt X.env (some (do let v ←eval e X.env;standAt pos;pure v)) none) _ _ _
 refine vJ (I.ok.hd hc) (wpAny_bind (aF (he pins s σ H _ I h) fun u s1 ⟨v,H1,I1,r,a,C,dx,ini,ev,ha,q,hE⟩=>wpAny_bind (wpAny_standAt (wpAny_pure ?_))))
 subst ev
 obtain rfl:u=Value.ref a:=r
 obtain ⟨nm,qn,N,bs,bm,hd,sn,sb,ab,cl,dd,k0,k1,k2,k3,k5,mN,eC,eN,T,_⟩:=xP I1.kIn q
 obtain ⟨a0,sl,ea⟩:=tf I1.hok ha
 exact ⟨a,a0,dx,sl,nm,qn,C,N,bs,bm,hd,sn,sb,ab,cl,dd,k0,k1,k2,k3,k5,(),T.hasType (by decide),eC,ea,hx pins σ H1 s1 a C dx I1 ha hE⟩
theorem PS.nox {st:Stmt}{t:TS} (h:PS X.nox st t):PS X st t:=fun pins s σ H D I hw=>wpAny_mono (h pins s σ H D (I.wish _) hw) (fun _ _ q=>q.unwish) fun _ _ z=>False.elim z
theorem dN.okX {P:Program}{w:World}{K:PySem.W.Frag}{mg:Str→Option Value}{base:Heap}{x qual:Str}{st:Stmt}{f:Addr}{fd:FuncData}{N ps:List Str}{k:Nat}{sp:Sp} (F:dN K x qual st f fd) (S:ay N ps (ah st)) (len:∀vs H Q E,sp vs H Q E→vs.length=ps.length)
 (hbody:∀(cdv:Value) (A:Around) (outer:List Env) (s:Shared) (H:Hp) (vs:List V) (Q:VK) (E:XK),bP k (A.deeper (envOfC qual (ah st) s.heap.objs.size f cdv))→sp vs H Q E→
  ∃t,hZ (lN (d9 P w) P w K mg base N qual (ah st) f cdv A outer s H E) (kX st) t∧t { nx:=fun _ H'=>Q .non H',rt:=Q } (jr N vs) H):aT P w K mg base (d9 P w) (k+1) f fd ps sp:=by
 obtain ⟨oc,od,kV,doc,pm,an,cdv,ct,osl,rfl,lk,hcd⟩:=F.ex
 exact xT lk hcd S len fun A outer s H vs Q E hr hsp=>hbody cdv A outer s H vs Q E hr hsp
end
section
variable {X:Cx}{pins:List (Addr×Obj)}{σ σ':St}{H:Hp}{s:Shared}{h':Heap}
theorem ac.locs {m':Str→Option Value}{t':Nat} (I:ac X pins σ H s) (hs:Heap.SameBut X.env.locals s.heap h') (hn:h'.Ns X.env.locals m') (hl:∀(i:Nat) (x:Str) (v:V),X.N[i]?=some x→σ'[i]?=some (some v)→wj X.env.scope x→∃u,aM v u∧zK X.env h' m' x u) (ln:σ'.length=X.N.length) :
 ac X pins σ' H { s with heap:=h',toks:=t' }:=by
 have ne:∀{b:Addr}{o:Obj},X.s₀.heap.get? b=some o→b≠X.env.locals:=fun e=>Nat.ne_of_lt (Nat.lt_of_lt_of_le (Heap.lt_size e) I.ok.above)
 refine ⟨I.ok,I.os,I.bare,⟨fun b o e n hb hx=>(hs.2 b (ne e)).trans (I.base.keep b o e n hb hx),fun b o e n hb hx=>?_,I.base.free,fun b o e hx=>?_,I.base.tups,I.base.frzs,I.base.tbls⟩,⟨m',hn,hl⟩,fun y c e=>?_,I.free,I.freeC,fun p hp=>?_,fun b ob e=>?_,ln⟩
 ·obtain ⟨sl,q⟩:=I.base.slot b o e n hb hx
  exact ⟨sl,(hs.2 b (ne e)).trans q⟩
 ·obtain ⟨o',q⟩:=I.base.there b o e hx
  exact ⟨o',(hs.2 b (ne e)).trans q⟩
 ·obtain ⟨w',z⟩:=I.cell y c e
  exact ⟨w',z.sameBut hs (I.cne y c e)⟩
 ·obtain ⟨e,n,ne,nf,d⟩:=I.pin p hp
  exact ⟨(hs.2 p.1 ne).trans e,n,ne,nf,d⟩
 ·refine (I.hok b ob e).stay (fun c w' hc q=>(hs.2 c fun z=>?_).trans q) (fun _ q=>q) fun _ _ q=>q
  subst z
  have hf:=I.free
  rcases hc with rfl | hc
  ·rw [hf] at e;cases e
  ·rw [hf] at hc;cases hc
theorem ng {M:Model}{A:Around}{E:Value→Shared→Prop}{i:Nat}{x:Str}{pos:Pos}{Q:Unit→Shared→Prop} (I:ac X pins σ H s) (hN:X.N.Nodup) (hi:X.N[i]?=some x) (hk:X.env.scope.names.lookup x=some .local)
 (h:∀s',ac X pins (σ.set i none) H s'→Q () s'):wpAny M A (do bindName X.env x .none;unbindBehindTheSuite X.env x pos) Q E s:=by
 have iσ:i<σ.length:=by rw [I.len];exact (List.getElem?_eq_some_iff.mp hi).1
 refine wpAny_bind (wpAny_bindName (dY (v:=.non) (u:=.none) I hN hi (.inl hk) rfl (fun s1 I1=>?_) (.inr hk)))
 obtain ⟨m,hn,hl⟩:=id I1.loc
 have kl:X.env.kindOf x=some .local:=hk
 have hc:(X.env.scope.kind==.class || (X.env.scope.kind==.module && X.env.locals != X.env.globals))=false:=by rw [I.ok.kind];rfl
 have mx:∃u,m x=some u:=by
  obtain ⟨u,_,q⟩:=hl i x .non hi (by rw [List.getElem?_set_self iσ]) (.inl hk)
  rcases q with ⟨_,e⟩ | ⟨k,_⟩
  ·exact ⟨u,e⟩
  ·rw [kl] at k
   rcases k with k | k <;> cases k
 unfold unbindBehindTheSuite
 refine wpAny_onRaise ?_
 unfold unbindName
 refine wpAny_bind (wpAny_point (wpAny_bind ?_))
 unfold deleteName
 simp only [kl,hc]
 rw [if_neg (by decide)]
 obtain ⟨u,mx⟩:=mx
 refine wpAny_bind (wpAny_nsDel_keeps hn fun h2 v2 n2 s2=>?_)
 simp only [mx,if_true,Option.isSome_some,Bool.not_true,Bool.false_eq_true,if_false]
 refine wpAny_pure (wpAny_point (h _ (I1.locs s2 n2 (fun j y v e1 e2 e3=>?_) (by simpa using I.len))))
 have hj:j≠i:=fun z=>by
  rw [z,List.getElem?_set_self iσ] at e2
  cases e2
 rw [List.getElem?_set_ne (Ne.symm hj)] at e2
 obtain ⟨u',r',q⟩:=hl j y v e1 (by rw [List.getElem?_set_ne (Ne.symm hj)];exact e2) e3
 refine ⟨u',r',?_⟩
 rcases q with ⟨k,e⟩ | ⟨k,c,e,z⟩
 ·refine .inl ⟨k,?_⟩
  have ny:y≠x:=fun e=>hj (oO hN e1 (e▸hi))
  simp [ny,e]
 ·exact .inr ⟨k,c,e,z.sameBut s2 (I1.cne y c e)⟩
end
def iF (CX:ij) (X:Cx) (EE:St→XK):Prop:=∀(pins:List (Addr×Obj)) (σ:St) (H:Hp) (s:Shared) (e:Value) (s':Shared),ac X pins σ H s→CX X.stack H s (EE σ) e s'→X.xe e s'
section
variable {X:Cx}{CX:ij}{k:Nat}{f:Addr}{fd:FuncData}{ps:List Str}{sp:Sp}{EE:St→XK}{x:Str}{p pos:Pos}{e:Expr}{es:List Expr}{t:TA}
def Ad (sp:Sp) (EE:St→XK) (t:TA):TE:=fun σ H Q=>t σ H fun vs H1=>sp vs H1 Q (EE σ)
theorem xG (F:aT X.prog X.w X.K X.mg X.base CX k f fd ps sp) (hr:bP k X.A) (hg:Gl X x) (hm:X.mg x=some (.ref f)) (hk:PySem.W.keepIn X.K (.ref f)=true) (hb:bq X.K fd ps []) (hx:iF CX X EE)
 (ha:PA X (e :: es) t) (hdb:(x==("__debug__" : Str))=false:=by decide) (he:starEach (e :: es) X.env=(false,eval e X.env) :: starEach es X.env:=by rfl) (hpl:(backTo pos (starEach es X.env)).any (·.1)=false:=by rfl) :
 PE X (.Call (.Name x p) (e :: es) [] pos) (Ad sp EE t):=by
 intro pins s σ H Q I h
 refine wpAny_Call_Name_kw (gQ I hg hm ?_ hdb)
 refine PySem.W.callWith_K (h₀:=X.base) I.ok.mod.kin hk (aF (ha pos pins s σ H _ I h) fun us s1 ⟨vs,H1,I1,r,q⟩=>⟨I1.kIn,?_⟩) he hpl
 have hl:us.length=ps.length:=by rw [←r.length];exact F.len _ _ _ _ q
 have hbb:=hb s1 us I1.kIn (by rw [List.append_nil];exact hl)
 rw [List.append_nil] at hbb
 refine wpAny_call (codeAny_mono (F.run X.A X.stack s1 H1 ⟨us,[]⟩ us vs Q (EE σ) hr I1.env0 hbb r q) fun rs s' hq=>?_)
 cases rs with
 | error z=>exact hx pins σ H1 s1 z s' I1 hq
 | ok fl=>
  cases fl with
  | ret u=>exact I1.after hq
  | next=>exact False.elim hq
  | brk=>exact False.elim hq
  | cont=>exact False.elim hq
end
abbrev Cx.tr (X:Cx) (pn:List (Addr×Obj)) (xe:Value→Shared→Prop):Cx:={ X with pn:=pn,xe:=xe }
abbrev Cx.hn (X:Cx) (A:Around):Cx:={ X with A:=A,calm:=false,xe:=fun _ _=>False }
section
variable {X:Cx}{pins pins' pn:List (Addr×Obj)}{σ:St}{H:Hp}{s:Shared}{xe:Value→Shared→Prop}
theorem Cx.Ok.tr (ok:X.Ok):(X.tr pn xe).Ok:=⟨ok.mod,ok.kind,ok.glob,ok.blt,ok.above,ok.inj,ok.has,ok.cab,ok.hd,ok.frames,ok.stk,ok.exf,ok.bs,ok.bsz,ok.noex,ok.exfs,ok.funs,ok.frf⟩
theorem Cx.Ok.untr (ok:(X.tr pn xe).Ok):X.Ok:=⟨ok.mod,ok.kind,ok.glob,ok.blt,ok.above,ok.inj,ok.has,ok.cab,ok.hd,ok.frames,ok.stk,ok.exf,ok.bs,ok.bsz,ok.noex,ok.exfs,ok.funs,ok.frf⟩
theorem ac.tr (I:ac X pins σ H s):ac (X.tr (X.pn++pins) xe) [] σ H s:=⟨I.ok.tr,I.os,I.bare,I.base,I.loc,I.cell,I.free,I.freeC,fun p hp=>I.pin p (by rw [List.append_nil] at hp;exact hp),I.hok,I.len⟩
theorem ac.untr (I:ac (X.tr (X.pn++pins) xe) pins' σ H s):ac X pins σ H s:=⟨I.ok.untr,I.os,I.bare,I.base,I.loc,I.cell,I.free,I.freeC,fun p hp=>I.pin p (List.mem_append_left _ hp),I.hok,I.len⟩
theorem Cx.Ok.hn {A:Around} (ok:X.Ok) (hA:A.frames=X.A.frames):(X.hn A).Ok:=⟨ok.mod,ok.kind,ok.glob,ok.blt,ok.above,ok.inj,ok.has,ok.cab,(fun z=>by cases z),hA.trans ok.frames,ok.stk,ok.exf,ok.bs,ok.bsz,ok.noex,ok.exfs,ok.funs,ok.frf⟩
theorem ac.hn {A:Around} (I:ac X pins σ H s) (hA:A.frames=X.A.frames):ac (X.hn A) pins σ H s:=⟨I.ok.hn hA,I.os,I.bare,I.base,I.loc,I.cell,I.free,I.freeC,I.pin,I.hok,I.len⟩
theorem ac.unhn {A:Around} (I:ac (X.hn A) pins σ H s) (ok:X.Ok):ac X pins σ H s:=⟨ok,I.os,I.bare,I.base,I.loc,I.cell,I.free,I.freeC,I.pin,I.hok,I.len⟩
end
theorem Kp.weak {h h':Heap}{bad bad' fs fs':List Addr} (k:Kp h h' bad fs) (hb:∀b∈bad,b∈bad') (hf:∀b∈fs,b∈fs'):Kp h h' bad' fs':=fun b o nb q=>
 ⟨(k b o (fun z=>nb (hb b z)) q).1,fun nf=>(k b o (fun z=>nb (hb b z)) q).2 fun z=>nf (hf b z)⟩
def oR (X:Cx) (EE:St→XK) (e:Value) (s:Shared):Prop:=∃pins σ H a T C dx,e=.ref a∧ac X pins σ H s∧lf s.heap a T (.ref C) dx .none∧H T=none∧((T∈X.ex∨X.s₀.heap.objs.size≤T)∧T≠X.env.locals∧(∀x c,X.env.cells.lookup x=some c→c≠T)∧∀p∈X.pn++pins,p.1≠T)∧
 H a=some (iz a C dx)∧EE σ (.ref C) dx H
theorem xN {X:Cx}{EE:St→XK}{Y:Cx} (h:X.xe=oR Y EE) (hY:∀{pins σ H s},ac X pins σ H s→ac Y pins σ H s):iF (d9 X.prog X.w) X EE:=by
 intro pins σ H s e s' I q
 obtain ⟨a,T,C,dx,H',rfl,os,bare,un,hok,t,n,hT,ha,hE⟩:=q
 have J:=I.call' (ch:=[]) os un hok bare (fun b z=>by cases z)
 rw [h]
 exact ⟨pins,σ,H',a,T,C,dx,rfl,hY J,t,hT,(hY I).far n,ha,hE⟩
def hD (i:Nat) (D:cK):cK:={ nx:=fun σ H=>D.nx (σ.set i none) H,rt:=D.rt,bk:=fun σ H=>D.bk (σ.set i none) H,ct:=fun σ H=>D.ct (σ.set i none) H }
def uR (K:PySem.W.Frag) (Cc:Addr) (i:Nat) (th:TS) (D:cK):St→XK:=fun σ cv dx H=>∀a C,cv=.ref C→H a=some (iz a C dx)→PySem.W.exmOne K (.ref C) (.ref Cc)=some true∧th (hD i D) (σ.set i (some (.ref a))) H
def CU (K:PySem.W.Frag) (Cc:Addr) (i:Nat) (tb:(St→XK)→TS) (th:TS):TS:=fun D σ H=>tb (uR K Cc i th D) D σ H
section
variable {X:Cx}{body suite:List Stmt}{b0:Stmt}{x n:Str}{hpos pos np:Pos}{tb:(St→XK)→TS}{th:TS}{Cc:Addr}{i:Nat}
theorem zV (hst:X.stack=X.env :: X.outer) (hfr:X.env.frame=some X.env.locals) (hN:X.N.Nodup) (hi:X.N[i]?=some n) (hk:X.env.scope.names.lookup n=some .local) (hg:Gl X x) (hm:X.mg x=some (.ref Cc))
 (hb:∀(EE:St→XK) (pn:List (Addr×Obj)) (xe:Value→Shared→Prop),iF (d9 X.prog X.w) (X.tr pn xe) EE→hZ (X.tr pn xe) body (tb EE)) (hs:∀A:Around,hZ (X.hn A) (b0 :: suite) th) (hdb:(x==("__debug__" : Str))=false:=by decide) :
 PS X (.Try body [.ExceptHandler (some (.Name x np)) (some n) (b0 :: suite) hpos] [] [] pos) (CU X.K Cc i tb th):=by
 intro pins s σ H D I h
 refine wpAny_Try_except ?_
 have hx:iF (d9 X.prog X.w) (X.tr (X.pn++pins) (oR (X.tr (X.pn++pins) fun _ _=>False) (uR X.K Cc i th D))) (uR X.K Cc i th D):=xN (X:=X.tr (X.pn++pins) (oR (X.tr (X.pn++pins) fun _ _=>False) (uR X.K Cc i th D))) rfl fun J=>J.wish _
 refine wpAny_mono (hb _ _ _ hx [] s σ H D I.tr h) (fun f s1 q=>?_) fun e s1 q=>?_
 ·cases f with
  | next=>obtain ⟨σ',H',J,q⟩:=q;exact wpAny_execs_nil ⟨σ',H',J.untr,q⟩
  | brk=>obtain ⟨σ',H',J,q⟩:=q;exact ⟨σ',H',J.untr,q⟩
  | cont=>obtain ⟨σ',H',J,q⟩:=q;exact ⟨σ',H',J.untr,q⟩
  | ret u=>obtain ⟨v,σ',H',J,r,q⟩:=q;exact ⟨v,σ',H',J.untr,r,q⟩
 ·obtain ⟨pins',σ',H',a,T,C,dx,rfl,J0,t,hT,far,ha,hE⟩:=q
  have J:ac X pins σ' H' s1:=J0.untr
  obtain ⟨hm',hth⟩:=hE a C rfl ha
  have st:∀{h2:Heap}{bad:List Addr},Kp s1.heap h2 bad (dU (X.env :: X.outer))→Kp s1.heap h2 bad (dU X.stack):=fun k=>by rw [hst];exact k
  refine mn (L:=X.env.locals) (J.ok.frames.trans (congrArg some hst)) (by have z:=J.stack;rw [hst] at z;exact z) hfr t fun h2 T2 t2 z2 k2=>?_
  have J2:=J.noted ha (ch:=[T]) (st k2) t2.there (fun b hb=>by rw [List.mem_singleton.mp hb];exact hT) (fun b hb=>by
   rw [List.mem_singleton.mp hb]
   exact ⟨far.1,far.2.1,far.2.2.1,fun p hp=>far.2.2.2 p (List.mem_append_left _ hp)⟩)
  rw [gy ha] at J2
  have n2:s1.heap.objs.size≤T2:=Nat.le_of_eq z2.symm
  have far0:=J.far n2
  have hT2:∀b∈[T2],H' b=none:=fun b hb=>by rw [List.mem_singleton.mp hb];exact J.hok.fresh n2
  have wk:∀{g g':Heap},Kp g g' [T2] []→Kp g g' [a,T2] (dU X.stack):=fun k=>k.weak (fun b hb=>List.mem_cons_of_mem _ hb) fun b hb=>by cases hb
  refine jx t2 fun h3 t3 k3=>?_
  have J3:=J2.noted ha (ch:=[T2]) (wk k3) t3.there hT2 (fun b hb=>by rw [List.mem_singleton.mp hb];exact far0)
  rw [gy ha] at J3
  refine wpAny_handleBy_cons (codeAny_handlers_test ?_) (by intro q;cases q)
  have J3h:=J3.hn (A:=X.A.mark (some (.ref a))) rfl
  refine gQ J3h hg hm ?_ hdb
  obtain ⟨vs,sl,ea⟩:=t3.there
  have LT:PySem.W.Looks (model X.prog X.w) h3 (typeOf (.ref a)) (.ref C):=(PySem.W.Looks.ld ea).andThen .now
  refine (PySem.W.exm_one J3.kIn LT hm').here ?_
  refine codeAny_handlers_suite_as (jx t3 fun h5 t5 k5=>?_)
  have J5:=J3.noted ha (ch:=[T2]) (wk k5) t5.there hT2 (fun b hb=>by rw [List.mem_singleton.mp hb];exact far0)
  rw [gy ha] at J5
  refine dY J5 hN hi (.inl hk) (v:=.ref a) (u:=.ref a) rfl (fun s6 J6=>?_) (.inr hk)
  refine wpAny_mono (hs _ pins s6 _ H' _ (J6.hn (A:=X.A.mark (some (.ref a))) rfl) hth) (fun f s7 q=>?_) fun _ _ z=>z.elim
  cases f with
  | next=>obtain ⟨σ7,H7,J7,q⟩:=q;exact ng (J7.unhn J.ok) hN hi hk fun s8 J8=>⟨_,_,J8,q⟩
  | brk=>obtain ⟨σ7,H7,J7,q⟩:=q;exact ng (J7.unhn J.ok) hN hi hk fun s8 J8=>⟨_,_,J8,q⟩
  | cont=>obtain ⟨σ7,H7,J7,q⟩:=q;exact ng (J7.unhn J.ok) hN hi hk fun s8 J8=>⟨_,_,J8,q⟩
  | ret u=>obtain ⟨v,σ7,H7,J7,r,q⟩:=q;exact ng (J7.unhn J.ok) hN hi hk fun s8 J8=>⟨v,_,_,J8,r,q⟩
end
theorem Cg {P:Program}{w:World}{X:Cx}:fm (d9 P w) X E0:=fun _ _ _ _ _ _ _ h=>by
 obtain ⟨a,T,C,dx,H',_,_,_,_,_,_,_,_,_,hE⟩:=h
 exact hE.elim
section
variable {X:Cx}{C:Addr}{e:Expr}{pos:Pos}
end
theorem xF:∀{cs:List V}{cvs us:List Value},cs.map xf=cvs.map some→aq cs us→us=cvs:=by
 intro cs
 induction cs with
 | nil=>
  intro cvs us e r
  cases r
  cases cvs with
  | nil=>rfl
  | cons c l=>cases e
 | cons c l ih=>
  intro cvs us e r
  cases cvs with
  | nil=>cases e
  | cons d m=>
   cases r with
   | cons r1 r2=>
    injection e with e1 e2
    rw [ih e2 r2]
    congr 1
    cases c with
    | ref y=>cases e1;exact r1
    | ty T=>cases e1;exact r1
    | _=>cases e1
section
variable {X:Cx}
theorem qg {K:PySem.W.Frag}{t:Value}:∀{cs:List Value},(∀c∈cs,PySem.W.kitOne K t c=some false)→PySem.W.kitAny K t cs=some false
 | [],_=>rfl
 | c :: r,h=>by
  unfold PySem.W.kitAny
  rw [h c List.mem_cons_self]
  exact qg fun d hd=>h d (List.mem_cons_of_mem _ hd)
end
section
variable {X:Cx}
end
def k9:Nat→List Obj→PySem.W.Frag
 | _,[]=>[]
 | n,o :: r=>match o.data with
  | .freed=>k9 (n+1) r
  | _=>(n,o) :: k9 (n+1) r
def fragOf (h:Heap):PySem.W.Frag:=k9 0 h.objs.toList
theorem pX:∀(l:List Obj) (n a:Nat) (o:Obj),List.lookup a (k9 n l)=some o→∃k,a=n+k∧l[k]?=some o∧o.data≠.freed
 | [],n,a,o,e=>nomatch e
 | p :: r,n,a,o,e=>by
  have step:List.lookup a (k9 (n+1) r)=some o→∃k,a=n+k∧(p :: r)[k]?=some o∧o.data≠.freed:=fun e=>by
   obtain ⟨k,e1,e2,e3⟩:=pX r (n+1) a o e
   exact ⟨k+1,by trivial,by simpa using e2,e3⟩
  unfold k9 at e
  split at e
  ·exact step e
  ·rename_i hf
   by_cases q:a=n
   ·subst q
    simp only [List.lookup_cons,beq_self_eq_true] at e
    cases e
    exact ⟨0,rfl,rfl,hf⟩
   ·have q':(a==n)=false:=by simpa using q
    simp only [List.lookup_cons,q'] at e
    exact step e
theorem vy (h:Heap):PySem.W.Frag.In (fragOf h) h:=fun a o e=>by
 obtain ⟨k,e1,e2,e3⟩:=pX _ 0 a o e
 have e1':a=k:=e1.trans (Nat.zero_add k)
 subst e1'
 unfold Heap.get?
 have:h.objs[a]?=some o:=by simpa using e2
 rw [this]
 cases o with
 | mk c d x s=>
  cases x <;> first | rfl | exact absurd rfl e3
def gR:Option (Option Value)→Addr
 | some (some (.ref a))=>a
 | _=>0
def td:Option (Option Value)→Bool
 | some (some (.ref _))=>true
 | _=>false
def tZ:Option (Option Value)→Bool
 | some none=>true
 | _=>false
def oC:Option Bool→Bool
 | some true=>true
 | _=>false
theorem fg {v:Option (Option Value)} (e:td v=true):v=some (some (.ref (gR v))):=by
 unfold td at e;split at e
 ·rfl
 ·cases e
theorem b9 {v:Option (Option Value)} (e:tZ v=true):v=some none:=by
 unfold tZ at e;split at e
 ·rfl
 ·cases e
theorem lg {v:Option Bool} (e:oC v=true):v=some true:=by
 unfold oC at e;split at e
 ·rfl
 ·cases e
def tN (K:PySem.W.Frag) (v:Option (Option Value)):Obj:=(List.lookup (gR v) K).getD ⟨.none,none,.plain,#[]⟩
def DM:FuncData:=PySem.W.fnOf (PySem.Str.mk #[]) (PySem.Str.mk #[]) ⟨[],[],none,[],[],none,[]⟩ [] ⟨.function,[],false,false,[]⟩ .none .none .none .none none .none .none
def f8 (K:PySem.W.Frag) (v:Option (Option Value)):FuncData:=match (tN K v).data with
 | .func fd=>fd
 | _=>DM
def bare (fd:FuncData):FuncData:={ fd with kwdefaults:=.none,doc:=.none,pyModule:=.none,annotations:=none,code:=.none,closureTuple:=.none }
def bE (K:PySem.W.Frag) (v:Option (Option Value)) (q:Str):Option FuncData:=
 match td v && PySem.W.codeIn K (f8 K v).code q && PySem.W.keepIn K (.ref (gR v)) with
 | false=>none
 | true=>match List.lookup (gR v) K with
  | some ⟨_,_,.func fd,_⟩=>some (bare fd)
  | _=>none
theorem qh {K:PySem.W.Frag}{v:Option (Option Value)}{q:Str}{x:FuncData} (e:bE K v q=some x) :
 v=some (some (.ref (gR v)))∧PySem.W.codeIn K (f8 K v).code q=true∧PySem.W.keepIn K (.ref (gR v))=true∧
  List.lookup (gR v) K=some ⟨(tN K v).cls,(tN K v).dict,.func (f8 K v),(tN K v).slots⟩∧bare (f8 K v)=x:=by
 unfold bE at e
 cases h:(td v && PySem.W.codeIn K (f8 K v).code q && PySem.W.keepIn K (.ref (gR v))) with
 | false=>rw [h] at e;cases e
 | true=>
  rw [h] at e
  simp only [Bool.and_eq_true] at h
  refine ⟨fg h.1.1,h.1.2,h.2,?_⟩
  cases hl:List.lookup (gR v) K with
  | none=>rw [hl] at e;cases e
  | some o=>
   rw [hl] at e
   obtain ⟨c,d,x',s⟩:=o
   have eo:tN K v=⟨c,d,x',s⟩:=by unfold tN;rw [hl];rfl
   cases x' <;> first | cases e | skip
   rename_i fd
   have ef:f8 K v=fd:=by unfold f8;rw [eo]
   rw [eo,ef]
   exact ⟨rfl,rfl⟩
def aG (K:PySem.W.Frag) (n:Str):Addr:=gR (PySem.W.nsIn K mainGlobals n)
def rG (K:PySem.W.Frag) (n:Str):Bool:=td (PySem.W.nsIn K mainGlobals n)
def oG (K:PySem.W.Frag) (n:Str):Bool:=tZ (PySem.W.nsIn K mainGlobals n)
def fG (K:PySem.W.Frag) (n:Str):Option FuncData:=bE K (PySem.W.nsIn K mainGlobals n) n
def dG (n q:Str) (st:Stmt):Option FuncData:=some (PySem.W.fnOf n q (pJ st) (kX st) (ah st) .none .none .none .none none .none .none)
theorem ag {K:PySem.W.Frag}{v:Option (Option Value)}{q n:Str}{st:Stmt} (e:bE K v q=dG n q st):dN K n q st (gR v) (f8 K v):=by
 have h:=qh e
 refine ⟨?_,h.2.2.1⟩
 obtain ⟨h1,h2,h3,h4,z⟩:=h
 refine ⟨_,_,(f8 K v).kwdefaults,(f8 K v).doc,(f8 K v).pyModule,(f8 K v).annotations,(f8 K v).code,(f8 K v).closureTuple,_,?_,h4,h2⟩
 clear h4 h2 h3 h1 e
 generalize f8 K v=fd at z ⊢
 cases fd
 unfold bare PySem.W.fnOf at z
 cases z
 rfl
theorem bW {K:PySem.W.Frag}{v:Option (Option Value)}{q n:Str}{st:Stmt} (e:bE K v q=dG n q st):v=some (some (.ref (gR v))):=(qh e).1
theorem walk_ofY {l:PySem.W.OpenLaw}{n k:Nat}{q:Program}{loose:List Str}{XP:(Str→Option Value)→Heap→Prop}{d:DefRec}{CX:ij}{sp:PySem.W.Frag→Sp}{x:Str}{α:Type}{obs:PySem.W.Frag→α}{due:α}
 (hn:l.most=some n) (hn2:n≤sizeLine) (hdf:d.params.defaults=[]) (hr:bP k callerA)
 (F:∀(K:PySem.W.Frag) (w:World) (mg:Str→Option Value) (fa:Addr) (h:Heap),obs K=due→K.In h→h.Ns mainGlobals mg→mg d.name=some (.ref fa)→
  ∃fd:FuncData,(∀(s:Shared) (u:Value),BindsTo s fd ⟨[u],[]⟩ [(x,u)])∧
   ∀base:Heap,K.In base→base.Ns mainGlobals mg→aT l.prog w K mg base CX k fa fd [x] (sp K))
 (hsp:∀(K:PySem.W.Frag) (H:Hp) (a:Addr) (ns:List Int),ns.length≤n→pE H→ao K H a (ns.map V.int)→sp K [.ref a] H (fun v _=>v=.bl true) fun _ _ _=>False)
 (hCX:∀(H:Hp) (s:Shared) (e:Value) (s':Shared),CX [] H s (fun _ _ _=>False) e s'→False) :
 PySem.W.WalkX q loose XP (fun s=>obs (fragOf s.heap)) (fun _=>due) l.row.toRowW d [] (fun f vs=>PySem.call f vs):=by
 intro w s₀ s₁ mg mb G y a o pm cd doc dV kV ho hd hcd hD hmg hg args vals as' L hpre hlay hrd hwl hlo
 have kx:(fragOf s₀.heap).In s₁.heap:=fun b ob hb=>L.keeps b ob (vy s₀.heap b ob hb)
 exact wU (K:=fun _=>fragOf s₀.heap) (YP:=fun w h=>(fragOf s₀.heap).In h) hn hn2 hdf hr (fun _ _ z=>z) (fun w mg fa h=>F (fragOf s₀.heap) w mg fa h y) hsp hCX w s₀ s₁ mg mb G kx a o pm cd doc dV kV ho hd hcd hD hmg hg args vals as' hpre hlay hrd hwl hlo
section
variable {X:Cx}
inductive yK (x:V) (y:V) (H:Hp) (Q:VK):Prop
 | mk (a:_) (b:_) (xs:_) (ys:_) (h0:x=.ref a) (h1:y=.ref b) (h2:H a=some (.tup xs)) (h3:H b=some (.tup ys)) (h4:xs.length+ys.length≤10000) (h5:∀p H',aj H H'→H' p=some (.tup (xs++ys))→Q (.ref p) H')
def An:R2:=fun x y H Q=>yK  x y H Q
theorem d8:cr X (binaryOp .Add) An:=by
 intro pins s σ H x y v u Q I rx ry h
 obtain ⟨a,b,xs,ys,rfl,rfl,ha,hb,hz,q⟩:=h
 by_cases hx:xs=[]
 ·subst hx
  cases rx
  cases ry
  obtain ⟨its,r1,p1,_⟩:=I.tuple (af.of (K:=X.K) ha)
  obtain ⟨its2,r2,p2,_⟩:=I.tuple (af.of (K:=X.K) hb)
  cases r1
  obtain ⟨⟨cls,dd,data,sl⟩,ho,hc,n,hd⟩:=id p1
  obtain ⟨⟨cls2,dd2,data2,sl2⟩,ho2,hc2,n2,hd2⟩:=id p2
  simp only at hc hd hc2 hd2
  subst hc hd hc2 hd2
  exact concat_meets ⟨_,ho,rfl⟩ ⟨_,ho2,rfl⟩ noFill_tuple_add seq_tuple_add PySem.F.slot_tuple_add PySem.F.entry_tuple_add (PySem.F.args_tuple_add_2 _ _)
   (tuple_addW0 a b _ _ n n2 dd dd2 sl sl2 (by simp)) ⟨ho,ho2,⟨.ref b,H,I,rfl,q b H (aj.refl _) hb⟩⟩
 ·exact wY (K:=X.K) rfl pins s σ H _ _ v u Q I rx ry ⟨a,b,xs,ys,rfl,rfl,af.of ha,ha,af.of hb,hx,hz,q⟩
end
end L2
namespace L2
open PySem PySem.Spec PySem.Calls PySem.W PyProof.Rows
section
variable {prog:Program}{w:World}{A:Around}{E:Value→Shared→Prop}{s:Shared}
end
section
variable {X:Cx}
end
section
open PySem.Builtin.Str (occurrences partsBetween)
variable {prog:Program}{w:World}{A:Around}{E:Value→Shared→Prop}{s:Shared}
end
section
variable {X:Cx}
end
end L2
namespace L2
open PySem PySem.Spec PyProof.Rows
section
variable {X:Cx}
def B9 (K:PySem.W.Frag) (ta tv:TE) (f:Str):TS:=fun D σ H=>tv σ H fun y H1=>ta σ H1 fun x H2=>nZ fun a C dx fs=>x=.ref a∧H2 a=some (.ins C dx fs)∧k4 K C∧ke K C f∧fs.length<1000∧
 ∀H3,og H2 a (.ins C dx (f9 f y fs)) H3→D.nx σ H3
theorem zk {o value:Expr}{f:Str}{pos pos':Pos}{ta tv:TE} (ha:PE X o ta) (hv:PE X value tv) (hs:swapsWith value (some (.Attribute o f pos')) pos.line X.env=pure false:=by rfl):PS X (.Assign [.Attribute o f pos'] value pos) (B9 X.K ta tv f):=by
 intro pins s σ H D I h
 refine plainObj_wpAny_Assign_Attribute (aF (hv pins s σ H _ I h) fun u s1 ⟨y,H1,I1,ry,q⟩=>aF (ha pins s1 σ H1 _ I1 q) fun ov s2 ⟨x,H2,I2,rx,a,C,dx,fs,ex,ea,c,n,l,q2⟩=>?_) hs
 subst ex
 obtain rfl:ov=Value.ref a:=rx
 exact uv I2 ea c n l ry fun s3 I3=>⟨σ,_,I3,q2 _ .mk'⟩
def Ab (C:Addr) (sp:Sp):TE:=fun σ H Q=>∀x dx H1,H x=none→aj H H1→H1 x=some (.ins C dx [])→sp [.ref x] H1 (fun v H2=>v=.non∧Q (.ref x) H2) E0
theorem xp {CX:ij}{k:Nat}{f C:Addr}{fd:FuncData}{ps:List Str}{sp:Sp}{x:Str}{p pos:Pos} (M:Mk X.K C f) (F:aT X.prog X.w X.K X.mg X.base CX k f fd ps sp) (hr:bP (k+1) X.A) (hg:Gl X x) (hm:X.mg x=some (.ref C)) (hb:bq X.K fd ps []) (hx:fm CX X E0)
 (hdb:(x==("__debug__" : Str))=false:=by decide):PE X (.Call (.Name x p) [] [] pos) (Ab C sp):=by
 intro pins s σ H Q I h
 refine wx M F hr hg hm hb .nil hx hdb pins s σ H Q I fun x dx hx hd ne=>?_
 refine h x dx _ hx (fun a o e=>?_) (by rw [az])
 rw [ak (aE e hx),ak (aE e hd)]
 exact e
abbrev TD:=St→Hp→(List (aS×V)→Hp→Prop)→Prop
def PD (X:Cx) (keys:List (Option Expr)) (values:List Expr) (t:TD):Prop:=
 ∀(pos:Pos) (pins:List (Addr×Obj)) (s:Shared) (σ:St) (H:Hp) (Q:List (aS×V)→Hp→Prop),ac X pins σ H s→t σ H Q→
   wpAny (model X.prog X.w) X.A (evalPairs (pairTrees keys values X.env pos)) (fun vs s1=>ic fun kvs us H1=>ac X pins σ H1 s1∧Carries (iC X.prog X.w) vs us∧KV kvs us∧Q kvs H1) X.xe s
def DG:TD:=fun _ H Q=>Q [] H
def Dy (tk tv:TE) (t:TD):TD:=fun σ H Q=>tk σ H fun x H1=>∃k,x=sx k∧tv σ H1 fun y H2=>t σ H2 fun kvs H3=>Q ((k,y) :: kvs) H3
theorem sO:PD X [] [] DG:=fun pos pins s σ H Q I h=>pairTrees_nil_walk ⟨[],[],H,I,True.intro,.nil,h⟩
theorem de {k v:Expr}{ks:List (Option Expr)}{vs:List Expr}{tk tv:TE}{t:TD} (hk:PE X k tk) (hv:PE X v tv) (hr:PD X ks vs t):PD X (some k :: ks) (v :: vs) (Dy tk tv t):=by
 intro pos pins s σ H Q I h
 refine pairTrees_cons_walk (aF (hk pins _ σ _ _ I h) fun u s1 ⟨x,H1,I1,rx,kk,ex,q1⟩=>aF (hv pins s1 σ H1 _ I1 q1) fun w2 s2 ⟨y,H2,I2,ry,q2⟩=>aF (hr pos pins s2 σ H2 _ I2 q2) fun ws s3 ⟨kvs,us,H3,I3,c,kv,q3⟩=>?_)
 subst ex
 exact ⟨(kk,y) :: kvs,(kk,w2) :: us,H3,I3,⟨me rx,rfl,c⟩,.cons ⟨rfl,ry⟩ kv,q3⟩
theorem KV.keys {kvs:List (aS×V)}{us:List (aS×Value)} (r:KV kvs us):kvs.map (·.1)=us.map (·.1):=by
 induction r with
 | nil=>rfl
 | cons h _ ih=>rw [List.map_cons,List.map_cons,ih,h.1]
def AA (t:TD):TE:=fun σ H Q=>∀p H0,Nw H p (.dK []) H0→t σ H0 fun kvs H1=>H1 p=some (.dK [])∧(kvs.map (·.1)).Nodup∧kvs.length≤15∧∀H2,og H1 p (.dK kvs) H2→Q (.ref p) H2
theorem oJ {keys:List (Option Expr)}{values:List Expr}{t:TD}{pos:Pos} (h:PD X keys values t) (h1:keys.all (·.isSome)=true:=by rfl) (h2:keys.length=values.length:=by rfl) (h3:keys≠[]:=by exact fun z=>nomatch z) (h4:keys.length≤15:=by decide):PE X (.Dict keys values pos) (AA t):=by
 intro pins s σ H Q I hq
 have big:(s.heap.objs.size==sysModules)=false:=by
  have e:mainGlobals<s.heap.objs.size:=(I.mod.glob.keeps I.bk).lt
  exact beq_eq_false_iff_ne.mpr (Ne.symm (Nat.ne_of_lt (Nat.lt_trans (by decide) e)))
 have I1:=I.laid (a:=s.heap.objs.size) (o:=.dK []) (h':=s.heap.push { cls:=.type "dict",data:=.dict #[] }) (t':=s.toks) (fun _ _ e=>Heap.get?_push_of_some _ e) (Nat.le_refl _) (show be X.prog X.w _ _ _ (.dK []) from ⟨Nat.zero_le _,big,[],.nil,Heap.DictOf.new s.heap⟩)
 refine wpAny_Dict_walk (knd:=iC X.prog X.w) h1 h2 h3 h4 (aF (h pos pins _ σ _ _ I1 (hq _ _ (.mk' I.fresh))) fun vs s1 ⟨kvs,us,H1,I2,c,kv,e,nd,hl,q⟩=>?_)
 obtain ⟨hz,hm,ws,rel,dd⟩:=(show be X.prog X.w H1 s1.heap _ (.dK []) from I2.hok _ _ e)
 cases rel
 refine ⟨us,c,dd,fun h' dd' hs=>⟨.ref s.heap.objs.size,_,?_,rfl,q _ .mk'⟩⟩
 rw [merged_nil_of_nodup us (by rw [←KV.keys kv];exact nd)] at dd'
 exact I2.dset e hm (by rw [sizeLine_eq];trivial) kv dd' hs
def rl (kvs more:List (aS×V)):List (aS×V):=more.foldl (fun acc kv=>cB acc kv.1 kv.2) kvs
theorem vI {more:List (aS×V)}{ms:List (aS×Value)} (m:KV more ms):∀{kvs:List (aS×V)}{vs:List (aS×Value)},KV kvs vs→KV (rl kvs more) (merged vs ms):=by
 induction m with
 | nil=>exact fun r=>r
 | @cons p q _ _ h _ ih=>
  intro kvs vs r
  have e:=pW r (k:=p.1) h.2
  have e2:KV (cB kvs p.1 p.2) (stored vs q.1 q.2):=by rw [←h.1];exact e
  exact ih e2
inductive zT (x:V) (vs:List V) (H:Hp) (Q:VK):Prop
 | mk (d:_) (o:_) (kvs:_) (more:_) (h0:x=.ref d) (h1:vs=[.ref o]) (h2:d≠o) (h3:H d=some (.dK kvs)) (h4:H o=some (.dK more)) (h5:kvs.length+more.length≤4000) (h6:∀H',og H d (.dK (rl kvs more)) H'→Q .non H')
def BS:V→List V→Hp→VK→Prop:=fun x vs H Q=>zT  x vs H Q
theorem wf:rR X "dict.update" BS:=by
 intro pins s σ H x vs v us Q I rx rv h
 obtain ⟨d,o,kvs,more,rfl,rfl,ne,hd,ho,hz,q⟩:=h
 cases rx
 obtain ⟨u,rfl,ru⟩:=rv.one
 cases ru
 obtain ⟨z1,m1,ws,r1,dd⟩:=(show be X.prog X.w H s.heap d (.dK kvs) from I.hok _ _ hd)
 obtain ⟨z2,m2,us,r2,do'⟩:=(show be X.prog X.w H s.heap o (.dK more) from I.hok _ _ ho)
 refine call_meetsIn PySem.F.slot_dict_update dd.typeIs PySem.F.entry_dict_update (PySem.F.args_dict_update_2 _ _) (meets_dict_update (iC X.prog X.w) d o ne m2)
  ⟨ws,us,dd,do',(by rw [←r1.length,←r2.length,sizeLine_eq];trivial),fun h' hmm _ hs=>?_⟩
 have k:=vI r2 r1
 have lm:(rl kvs more).length≤sizeLine:=by
  have e1:=merged_length_le ws us
  rw [←k.length,←r1.length,←r2.length] at e1
  rw [sizeLine_eq]
  trivial
 exact ⟨.non,_,I.dset hd m1 lm k hmm hs,rfl,q _ .mk'⟩
inductive Am (x:V) (vs:List V) (H:Hp) (Q:VK):Prop
 | mk (l:Addr) (ks:List Int) (k:Int) (j:Nat) (h0:x=.ref l) (h1:vs=[.int k]) (h2:H l=some (.lst (ks.map V.int))) (h3:ks.length≤10000) (h4:ks[j]?=some k) (h5:(∀m,m<j→ks[m]?≠some k)) (h6:∀H',Ch H l ((ks.eraseIdx j).map V.int) H'→Q .non H')
def Cv:V→List V→Hp→VK→Prop:=fun x vs H Q=>Am  x vs H Q
theorem qH {α β:Type} (f:α→β):∀(l:List α) (j:Nat),(l.eraseIdx j).map f=(l.map f).eraseIdx j
 | [],_=>rfl
 | _ :: _,0=>rfl
 | a :: l,j+1=>by simp [qH f l j]
theorem ux:tm X "list.remove" Cv:=by
 intro pins s σ H x vs v us Q I rx rv h
 obtain ⟨l,ks,k,j,rfl,rfl,hH,hz,hj,hno,q⟩:=h
 cases rx
 obtain ⟨u,rfl,ru⟩:=rv.one
 obtain ⟨t,rfl⟩:=ru
 obtain ⟨z,its,n,r,hl,e⟩:=I.lstM hH
 have hlen:ks.length=its.length:=by rw [←hl,List.length_map]
 have isI:∀(m:Nat) (w:Value),its[m]?=some w→bn fun i t'=>ks[m]?=some i∧w=.int i t':=fun m w hw=>by
  obtain ⟨i,hi⟩:∃i,ks[m]?=some i:=⟨_,List.getElem?_eq_getElem (by rw [hlen];exact (List.getElem?_eq_some_iff.mp hw).1)⟩
  obtain ⟨w',hw',rw'⟩:=r.get (show (ks.map V.int)[m]?=some (V.int i) by rw [List.getElem?_map,hi];rfl)
  rw [hw] at hw'
  cases hw'
  obtain ⟨t',rfl⟩:=rw'
  exact ⟨i,t',hi,rfl⟩
 have hji:j<its.length:=by rw [←hlen];exact (List.getElem?_eq_some_iff.mp hj).1
 refine call_meets F.slot_list_remove ⟨_,e,rfl⟩ F.entry_list_remove (F.args_list_remove_2 _ _)
  (MeetsSeq.list_remove l its.toArray n (.int k t) (fun y=>match y with | .int i _=>i==k | _=>false) (fun y hy=>?_) j (by simpa using hji) ?_ (fun m hm hlt=>?_) (by rw [List.size_toArray,←hlen,sizeLine_eq];trivial)) ⟨e,?_⟩
 ·obtain ⟨m,hm⟩:=List.getElem?_of_mem (by simpa using hy:y∈its)
  obtain ⟨i,t',_,rfl⟩:=isI m y hm
  exact MeetsSeq.EqGives.int i k t' t
 ·obtain ⟨i,t',e1,e2⟩:=isI j its[j] (List.getElem?_eq_getElem hji)
  rw [hj] at e1
  cases e1
  simp only [List.getElem_toArray,e2,beq_self_eq_true]
 ·have hm':m<its.length:=by simpa using hm
  obtain ⟨i,t',e1,e2⟩:=isI m its[m] (List.getElem?_eq_getElem hm')
  have:=hno m hlt
  rw [e1] at this
  simp only [List.getElem_toArray,e2]
  simpa using fun z=>this (by rw [z])
 ·refine ⟨.non,_,I.lset (its':=its.eraseIdx j) hH e ?_ (r.eraseIdx j) ?_,rfl,q _ ?_⟩
  ·show its.toArray.eraseIdxIfInBounds j=(its.eraseIdx j).toArray
   rw [List.eraseIdxIfInBounds_toArray]
  ·have:=qA (ks.map V.int) j
   trivial
  ·rw [qH]
   exact .mk'
inductive wN (x:V) (vs:List V) (H:Hp) (Q:VK):Prop
 | mk (l:Addr) (ks:List Bool) (k:Bool) (j:Nat) (h0:x=.ref l) (h1:vs=[.bl k]) (h2:H l=some (.lst (ks.map V.bl))) (h3:ks.length≤10000) (h4:ks[j]?=some k) (h5:(∀m,m<j→ks[m]?≠some k)) (h6:Q (.int (j:Int)) H)
def yY:V→List V→Hp→VK→Prop:=fun x vs H Q=>wN  x vs H Q
theorem uT:tm X "list.index" yY:=by
 intro pins s σ H x vs v us Q I rx rv h
 obtain ⟨l,ks,k,j,rfl,rfl,hH,hz,hj,hno,q⟩:=h
 cases rx
 obtain ⟨u,rfl,ru⟩:=rv.one
 cases ru
 obtain ⟨z,its,n,r,hl,e⟩:=I.lstM hH
 have hlen:ks.length=its.length:=by rw [←hl,List.length_map]
 have isI:∀(m:Nat) (w:Value),its[m]?=some w→∃i,ks[m]?=some i∧w=.bool i:=fun m w hw=>by
  obtain ⟨i,hi⟩:∃i,ks[m]?=some i:=⟨_,List.getElem?_eq_getElem (by rw [hlen];exact (List.getElem?_eq_some_iff.mp hw).1)⟩
  obtain ⟨w',hw',rw'⟩:=r.get (show (ks.map V.bl)[m]?=some (V.bl i) by rw [List.getElem?_map,hi];rfl)
  rw [hw] at hw'
  cases hw'
  cases rw'
  exact ⟨i,hi,rfl⟩
 have hji:j<its.length:=by rw [←hlen];exact (List.getElem?_eq_some_iff.mp hj).1
 refine call_meets F.slot_list_index ⟨_,e,rfl⟩ F.entry_list_index (F.args_list_index_2 _ _)
  (MeetsSeq.list_index l its.toArray n (.bool k) (fun y=>match y with | .bool i=>i==k | _=>false) (fun y hy=>?_) j (by simpa using hji) (by trivial) ?_ (fun m hm hlt=>?_)) ⟨e,?_⟩
 ·obtain ⟨m,hm⟩:=List.getElem?_of_mem (by simpa using hy:y∈its)
  obtain ⟨i,_,rfl⟩:=isI m y hm
  exact fun prog w A E s Q h=>SeqAt.EqAt.bool_bool i k prog w E Q h
 ·obtain ⟨i,e1,e2⟩:=isI j its[j] (List.getElem?_eq_getElem hji)
  rw [hj] at e1
  cases e1
  simp only [List.getElem_toArray,e2,beq_self_eq_true]
 ·have hm':m<its.length:=by simpa using hm
  obtain ⟨i,e1,e2⟩:=isI m its[m] (List.getElem?_eq_getElem hm')
  have:=hno m hlt
  rw [e1] at this
  simp only [List.getElem_toArray,e2]
  exact beq_eq_false_iff_ne.mpr fun z=>this (by rw [z])
 ·exact ⟨.int (j:Int),H,I.tok _,⟨()⟩,q⟩
inductive zy (K:PySem.W.Frag) (xs:List V) (H:Hp) (Q:VK):Prop
 | mk (a:_) (C:_) (c:_) (cv:_) (b:_) (h0:xs=[.ref a,c]) (h1:H a=some (iz a C none)) (h2:xf c=some cv) (h3:kA K C=true) (h4:PySem.W.kitOne K (.ref C) cv=some b) (h5:Q (.bl b) H)
def Cb (K:PySem.W.Frag):List V→Hp→VK→Prop:=fun xs H Q=>zy K xs H Q
theorem ej {K:PySem.W.Frag} (ek:X.K=K:=by rfl):cz X (.builtin "isinstance") (Cb K):=by
 subst ek
 intro pins s σ H xs us Q I r h
 obtain ⟨a,C,c,cv,b,rfl,ha,hcv,g,ho,q⟩:=h
 obtain ⟨u,uc,rfl,ru,rc⟩:=qZ r
 cases ru
 have ec:uc=cv:=by
  cases c with
  | ref y=>cases hcv;exact rc
  | ty T=>cases hcv;exact rc
  | _=>cases hcv
 subst ec
 have J:bn fun ox od=>PySem.W.InstAt s.heap a ox C od:=by
  obtain ⟨vs,sl,e1⟩:=su I.hok ha
  exact ⟨_,none,e1,rfl,rfl,trivial⟩
 exact PySem.W.kia_one (rM g) I.kIn J ho (fun z=>nomatch z) fun tk=>⟨.bl b,H,I.tok tk,rfl,q⟩
inductive yE (K:PySem.W.Frag) (xs:List V) (H:Hp) (Q:VK):Prop
 | mk (a:_) (C:_) (tp:_) (cs:_) (cvs:_) (b:_) (h0:xs=[.ref a,.ref tp]) (h1:H a=some (iz a C none)) (h2:H tp=some (.tup cs)) (h3:cs.map xf=cvs.map some) (h4:kA K C=true) (h5:PySem.W.kitAny K (.ref C) cvs=some b) (h6:Q (.bl b) H)
def AB (K:PySem.W.Frag):List V→Hp→VK→Prop:=fun xs H Q=>yE K xs H Q
theorem pB {K:PySem.W.Frag} (ek:X.K=K:=by rfl):cz X (.builtin "isinstance") (AB K):=by
 subst ek
 intro pins s σ H xs us Q I r h
 obtain ⟨a,C,tp,cs,cvs,b,rfl,ha,ht,hcs,g,ho,q⟩:=h
 obtain ⟨u,uc,rfl,ru,rc⟩:=qZ r
 cases ru
 obtain rfl:uc=Value.ref tp:=rc
 obtain ⟨its,rv,⟨o,e1,e2,n,e3⟩,_⟩:=I.tuple (af.of ht)
 have ei:=xF hcs rv
 subst ei
 obtain ⟨oc,od,odt,osl⟩:=o
 dsimp only at e2 e3
 subst e2 e3
 have J:bn fun ox od=>PySem.W.InstAt s.heap a ox C od:=by
  obtain ⟨vs,sl,e1⟩:=su I.hok ha
  exact ⟨_,none,e1,rfl,rfl,trivial⟩
 exact PySem.W.kia_tup (rM g) I.kIn J e1 ho (fun z=>nomatch z) fun tk=>⟨.bl b,H,I.tok tk,rfl,q⟩
inductive zl (x:V) (y:V) (H:Hp) (Q:VK):Prop
 | mk (a c:Addr) (xs:List V) (h0:x=.ref a) (h1:y=.ref c) (h2:H a=some (.lst xs)) (h3:H c=some (.lst [])) (h4:Q (.bl xs.isEmpty) H)
def A9:R2:=fun x y H Q=>zl  x y H Q
theorem wA (hu:X.A.units+64<cLine):cr X (compareOp .Eq) A9:=by
 intro pins s σ H x y v u Q I rx ry h
 obtain ⟨a,c,xs,rfl,rfl,ha,hc,q⟩:=h
 cases rx
 cases ry
 obtain ⟨z,its,n,r,hl,e⟩:=I.lstM ha
 obtain ⟨z2,its2,n2,r2,hl2,e2⟩:=I.lstM hc
 have h0:its2=[]:=List.eq_nil_of_length_eq_zero hl2.symm
 subst h0
 have l1:s.heap.IsList a its.toArray:=⟨_,e,rfl,()⟩
 have l2:s.heap.IsList c (#[]:Array Value):=⟨_,e2,rfl,()⟩
 have hu':X.A.units<cLine:=by trivial
 cases xs with
 | nil=>
  have:its=[]:=List.eq_nil_of_length_eq_zero hl.symm
  subst this
  refine (PySem.SeqAt.RcAt.lists (e:=fun _=>true) l1 l2 rfl hu' (fun j j1 j2=>absurd j1 (by simp))) X.prog X.w X.xe _ ?_
  exact ⟨.bl _,H,I,rfl,q⟩
 | cons y ys=>
  refine (PySem.SeqAt.RcAt.lists_lengths l1 l2 (by simp at hl ⊢;exact fun z=>by rw [z] at hl;simp at hl) hu') X.prog X.w X.xe _ ?_
  exact ⟨.bl _,H,I,rfl,q⟩
end
def wQ (K:PySem.W.Frag) (C:Addr):Bool:=PySem.W.plainGet K C Str.empty && (PySem.W.hasDictIn K C && (PySem.W.plainOver K C && PySem.W.findIn K (.ref C) "__setattr__" == some (some (.builtin "object.__setattr__"))))
theorem za {K:PySem.W.Frag}{C:Addr} (h:wQ K C=true):k4 K C:=by
 unfold wQ at h
 rw [Bool.and_eq_true,Bool.and_eq_true,Bool.and_eq_true,beq_iff_eq] at h
 exact ⟨h.1,h.2.1,h.2.2.1,h.2.2.2⟩
def cV (K:PySem.W.Frag) (C:Addr) (m:Str):Bool:=td (PySem.W.findIn K (.ref C) m) && (PySem.W.isFn K (.ref (gR (PySem.W.findIn K (.ref C) m))) && PySem.W.keepIn K (.ref (gR (PySem.W.findIn K (.ref C) m))))
theorem bH {K:PySem.W.Frag}{C:Addr}{m:Str} (h:cV K C m=true):dO K C m (gR (PySem.W.findIn K (.ref C) m)):=by
 unfold cV at h
 rw [Bool.and_eq_true,Bool.and_eq_true] at h
 exact ⟨fg h.1,h.2.1,h.2.2⟩
def uE (K:PySem.W.Frag) (C:Addr):Bool:=PySem.W.makesIn K C && (cV K C "__init__" && PySem.W.keepIn K (.ref C))
theorem xj {K:PySem.W.Frag}{C:Addr} (h:uE K C=true):Mk K C (gR (PySem.W.findIn K (.ref C) "__init__")):=by
 unfold uE at h
 rw [Bool.and_eq_true,Bool.and_eq_true] at h
 have m:=bH h.2.1
 exact ⟨h.1,m.at_,m.fn,h.2.2⟩
structure ai where
 pl:List (List Nat)
 ts:List gC
 sh:List Int
 en:Option (List Nat×List Nat)
def qG:ai:=⟨[],[],[],none⟩
inductive ig where
 | m
 | g
 | p
def ig.at:ig→Nat
 | .m=>2
 | .g=>3
 | .p=>4
def ig.w:ig→Str
 | .m => "set_most"
 | .g => "set_gain"
 | .p => "set_price"
inductive cO where
 | place (n:List Nat)
 | tie (t:gC)
 | ends (b e:List Nat)
 | part (k:ig) (i:Int) (x:KM.Fra)
 | shut (i:Int)
 | opn (i:Int)
 | back
def mD:cO→List PyData
 | .place n=>[.str "add_place",.str (S n)]
 | .tie t=>[.str "add_tie",.str (S t.bg),.str (S t.en),gH t.most,gH t.gain,gH t.price]
 | .ends b e=>[.str "set_ends",.str (S b),.str (S e)]
 | .part k i x=>[.str k.w,.int i,gH x]
 | .shut i=>[.str "shut",.int i]
 | .opn i=>[.str "reopen",.int i]
 | .back=>[.str "back"]
inductive RW where
 | taken
 | noPlace
 | noTie
 | asItIs
def RW.w:RW→Str
 | .taken => "Taken"
 | .noPlace => "NoPlace"
 | .noTie => "NoTie"
 | .asItIs => "AsItIs"
def two (s:ai) (b e:List Nat):Prop:=b∈s.pl∧e∈s.pl∧b≠e
instance (s:ai) (b e:List Nat):Decidable (two s b e):=inferInstanceAs (Decidable (_∧_∧_))
def has (s:ai) (i:Int):Prop:=0≤i∧i<(s.ts.length:Int)
instance (s:ai) (i:Int):Decidable (has s i):=inferInstanceAs (Decidable (_∧_))
def bw (s:ai):cO→Option RW
 | .place n=>if n∈s.pl then some .taken else none
 | .tie t=>if two s t.bg t.en then none else some .noPlace
 | .ends b e=>if two s b e then none else some .noPlace
 | .part _ i _=>if has s i then none else some .noTie
 | .shut i=>if has s i then (if i∈s.sh then some .asItIs else none) else some .noTie
 | .opn i=>if has s i then (if i∈s.sh then none else some .asItIs) else some .noTie
 | .back=>none
def pD (k:ig) (x:KM.Fra) (t:gC):gC:=match k with
 | .m=>{ t with most:=x }
 | .g=>{ t with gain:=x }
 | .p=>{ t with price:=x }
def lB (ts:List gC) (k:ig) (i:Nat) (x:KM.Fra):List gC:=match ts[i]? with
 | some t=>ts.set i (pD k x t)
 | none=>ts
theorem tQ {ts:List gC}{k:ig}{i:Nat}{x:KM.Fra}{t:gC} (h:ts[i]?=some t):lB ts k i x=ts.set i (pD k x t):=by
 unfold lB;rw [h]
theorem ou (ts:List gC) (k:ig) (i:Nat) (x:KM.Fra):(lB ts k i x).length=ts.length:=by
 unfold lB
 cases ts[i]? with
 | none=>rfl
 | some t=>exact List.length_set ..
def cb (s:ai):cO→ai
 | .place n=>{ s with pl:=s.pl++[n] }
 | .tie t=>{ s with ts:=s.ts++[t] }
 | .ends b e=>{ s with en:=some (b,e) }
 | .part k i x=>{ s with ts:=lB s.ts k i.toNat x }
 | .shut i=>{ s with sh:=s.sh++[i] }
 | .opn i=>{ s with sh:=s.sh.erase i }
 | .back=>s
def kO (past:List ai) (cur:ai) (D:cO):List ai:=match bw cur D with
 | some _=>past
 | none=>match D with
  | .back=>past.dropLast
  | _=>past++[cur]
def kN (past:List ai) (cur:ai) (D:cO):ai:=match bw cur D with
 | some _=>cur
 | none=>match D with
  | .back=>past.getLast?.getD cur
  | _=>cb cur D
def rm (past:List ai) (cur:ai):cO→PyData
 | .back=>.bool (!past.isEmpty)
 | .tie _=>.int (cur.ts.length:Nat)
 | _=>.none
def mC (past:List ai) (cur:ai) (D:cO):PyData:=match bw cur D with
 | some w=>.tuple [.str "refused",.str w.w]
 | none=>.tuple [.str "told",rm past cur D]
theorem pG {past:List ai}{cur:ai}{D:cO}{r:RW} (h:bw cur D=some r):kO past cur D=past∧kN past cur D=cur∧mC past cur D=.tuple [.str "refused",.str r.w]:=by
 unfold kO kN mC
 rw [h]
 exact ⟨rfl,rfl,rfl⟩
theorem rT {past:List ai}{cur:ai}{D:cO} (h:bw cur D=none):mC past cur D=.tuple [.str "told",rm past cur D]:=by
 unfold mC
 rw [h]
theorem lG {past:List ai}{cur:ai}{D:cO} (h:bw cur D=none) (nb:D≠.back):kO past cur D=past++[cur]∧kN past cur D=cb cur D:=by
 unfold kO kN
 rw [h]
 cases D <;> first | exact ⟨rfl,rfl⟩ | exact absurd rfl nb
theorem ip {past:List ai}{s cur:ai}:kO (past++[s]) cur .back=past∧kN (past++[s]) cur .back=s:=by
 show (past++[s]).dropLast=past∧(past++[s]).getLast?.getD cur=s
 simp
structure jA (N:Nat) (s:ai):Prop where
 lp:s.pl.length≤N
 lt:s.ts.length≤N
 ls:s.sh.length≤N
 sb:∀i∈s.sh,0≤i∧i<(s.ts.length:Int)
 nd:s.sh.Nodup
theorem jA.mono {N M:Nat}{s:ai} (h:jA N s) (k:N≤M):jA M s:=⟨Nat.le_trans h.lp k,Nat.le_trans h.lt k,Nat.le_trans h.ls k,h.sb,h.nd⟩
theorem jA.zero (N:Nat):jA N qG:=⟨Nat.zero_le _,Nat.zero_le _,Nat.zero_le _,fun _ h=>(nomatch h),List.nodup_nil⟩
theorem jA.next {N:Nat}{s:ai}{D:cO} (h:jA N s) (r:bw s D=none):jA (N+1) (cb s D):=by
 obtain ⟨lp,lt,ls,sb,nd⟩:=h
 cases D with
 | place n=>exact ⟨by show (s.pl++[n]).length≤_;simp;trivial,by show s.ts.length≤_;trivial,(by show s.sh.length≤_;trivial),sb,nd⟩
 | tie t=>exact ⟨by show s.pl.length≤_;trivial,by show (s.ts++[t]).length≤_;simp;trivial,by show s.sh.length≤_;trivial,fun i hi=>(by have:=sb i hi;show 0≤i∧i<((s.ts++[t]).length:Int);simp;trivial),nd⟩
 | ends b e=>exact ⟨by show s.pl.length≤_;trivial,by show s.ts.length≤_;trivial,by show s.sh.length≤_;trivial,sb,nd⟩
 | part k i x=>exact ⟨by show s.pl.length≤_;trivial,by show (lB s.ts k i.toNat x).length≤_;rw [ou];trivial,by show s.sh.length≤_;trivial,fun j hj=>by show 0≤j∧j<((lB s.ts k i.toNat x).length:Int);rw [ou];exact sb j hj,nd⟩
 | shut i=>
  have hi:has s i∧i∉s.sh:=by
   replace r:(if has s i then (if i∈s.sh then some RW.asItIs else none) else some .noTie)=none:=r
   by_cases q:has s i
   ·rw [if_pos q] at r
    by_cases q2:i∈s.sh
    ·rw [if_pos q2] at r;cases r
    ·exact ⟨q,q2⟩
   ·rw [if_neg q] at r;cases r
  refine ⟨by show s.pl.length≤_;trivial,by show s.ts.length≤_;trivial,by show (s.sh++[i]).length≤_;simp;trivial,fun j hj=>?_,?_⟩
  ·rcases List.mem_append.mp (show j∈s.sh++[i] from hj) with q | q
   ·exact sb j q
   ·rw [List.mem_singleton.mp q];exact hi.1
  ·show (s.sh++[i]).Nodup
   rw [List.nodup_append]
   refine ⟨nd,by simp,fun a ha b hb=>?_⟩
   rw [List.mem_singleton.mp hb]
   exact fun z=>hi.2 (z▸ha)
 | opn i=>exact ⟨by show s.pl.length≤_;trivial,by show s.ts.length≤_;trivial,by show (s.sh.erase i).length≤_;have:=List.length_erase_le (a:=i) (l:=s.sh);trivial,fun j hj=>sb j (List.mem_of_mem_erase (show j∈s.sh.erase i from hj)),nd.erase i⟩
 | back=>exact ⟨by show s.pl.length≤_;trivial,by show s.ts.length≤_;trivial,by show s.sh.length≤_;trivial,sb,nd⟩
structure gk (N:Nat) (past:List ai) (cur:ai):Prop where
 lp:past.length≤N
 al:∀s∈past,jA N s
 cu:jA N cur
theorem gk.mono {N M:Nat}{past:List ai}{cur:ai} (h:gk N past cur) (k:N≤M):gk M past cur:=⟨Nat.le_trans h.lp k,fun s hs=>(h.al s hs).mono k,h.cu.mono k⟩
theorem gk.zero (N:Nat):gk N [] qG:=⟨Nat.zero_le _,fun _ h=>(nomatch h),jA.zero N⟩
theorem lP {α:Type} (l:List α):l=[]∨bn fun r a=>l=r++[a]:=by
 rcases List.eq_nil_or_concat l with h | ⟨r,a,h⟩
 ·exact .inl h
 ·exact .inr ⟨r,a,by simpa using h⟩
theorem gk.aft {N:Nat}{past:List ai}{cur:ai} (D:cO) (h:gk N past cur):gk (N+1) (kO past cur D) (kN past cur D):=by
 cases r:bw cur D with
 | some w=>obtain ⟨e1,e2,_⟩:=pG (past:=past) r;rw [e1,e2];exact h.mono (Nat.le_succ _)
 | none=>
  by_cases nb:D=.back
  ·subst nb
   rcases lP past with rfl | ⟨q,s,rfl⟩
   ·exact h.mono (Nat.le_succ _)
   ·rw [ip.1,ip.2]
    have:=h.lp
    simp at this
    exact ⟨by trivial,fun z hz=>(h.al z (List.mem_append_left _ hz)).mono (Nat.le_succ _),(h.al s (by simp)).mono (Nat.le_succ _)⟩
  ·obtain ⟨e1,e2⟩:=lG (past:=past) r nb
   rw [e1,e2]
   refine ⟨by have:=h.lp;simp;trivial,fun z hz=>?_,h.cu.next r⟩
   rcases List.mem_append.mp hz with q | q
   ·exact (h.al z q).mono (Nat.le_succ _)
   ·rw [List.mem_singleton.mp q];exact h.cu.mono (Nat.le_succ _)
def cZ (s:ai):List Bool:=(List.range s.ts.length).map fun (j:Nat)=>decide ((j:Int)∈s.sh)
theorem iq (s:ai):(cZ s).length=s.ts.length:=by unfold cZ;simp
theorem jv {s:ai}{j:Nat} (h:j<s.ts.length):(cZ s)[j]?=some (decide ((j:Int)∈s.sh)):=by
 unfold cZ
 simp [h]
theorem ze {N:Nat}{s:ai} (h:jA N s) (t:gC):cZ (cb s (.tie t))=cZ s++[false]:=by
 unfold cZ cb
 simp only [List.length_append,List.length_singleton]
 rw [List.range_succ,List.map_append]
 congr 1
 simp only [List.map_cons,List.map_nil,List.cons.injEq,and_true]
 exact decide_eq_false fun q=>by have:=h.sb _ q;trivial
theorem xm (s:ai) (k:ig) (i:Int) (x:KM.Fra):cZ (cb s (.part k i x))=cZ s:=by
 unfold cZ cb
 simp only [ou]
theorem tK {s:ai}{l:List Int}{i:Nat} (b:Bool) (hi:i<s.ts.length) (h:∀j:Nat,decide ((j:Int)∈l)=if j=i then b else decide ((j:Int)∈s.sh)):cZ { s with sh:=l }=(cZ s).set i b:=by
 apply List.ext_getElem?
 intro j
 by_cases hj:j<s.ts.length
 ·rw [jv (s:={ s with sh:=l }) hj]
  show some (decide ((j:Int)∈l))=_
  rw [h j]
  by_cases e:j=i
  ·subst e
   rw [if_pos rfl,List.getElem?_set_self (by rw [iq];exact hi)]
  ·rw [if_neg e,List.getElem?_set_ne (Ne.symm e),jv hj]
 ·rw [List.getElem?_eq_none (by rw [iq];show s.ts.length≤j;trivial),List.getElem?_eq_none (by rw [List.length_set,iq];trivial)]
theorem xi {s:ai}{i:Int} (h:has s i):cZ (cb s (.shut i))=(cZ s).set i.toNat true:=by
 refine tK (l:=s.sh++[i]) true (by have:=h.1;have:=h.2;trivial) fun j=>?_
 by_cases e:j=i.toNat
 ·rw [if_pos e]
  exact decide_eq_true (by rw [e,Int.toNat_of_nonneg h.1];simp)
 ·rw [if_neg e]
  have:(j:Int)≠i:=fun z=>e (by trivial)
  simp [this]
theorem xu {N:Nat}{s:ai}{i:Int} (hs:jA N s) (h:has s i):cZ (cb s (.opn i))=(cZ s).set i.toNat false:=by
 refine tK (l:=s.sh.erase i) false (by have:=h.1;have:=h.2;trivial) fun j=>?_
 by_cases e:j=i.toNat
 ·rw [if_pos e]
  exact decide_eq_false (by rw [e,Int.toNat_of_nonneg h.1];exact fun q=>(hs.nd.mem_erase_iff.mp q).1 rfl)
 ·rw [if_neg e]
  have:(j:Int)≠i:=fun z=>e (by trivial)
  rw [Bool.eq_iff_iff]
  simp [hs.nd.mem_erase_iff,this]
theorem yg {α:Type} (l:List α) (i:Nat) (x:α) (h:i<l.length):l.take i++[x]++l.drop (i+1)=l.set i x:=by
 rw [List.set_eq_take_append_cons_drop,if_pos h,List.append_assoc]
 rfl
def o8:Option (List Nat×List Nat)→PyData
 | none=>.none
 | some p=>.tuple [.str (S p.1),.str (S p.2)]
def oP (s:ai):PyData:=.tuple [.tuple (s.pl.map fun l=>.str (S l)),.tuple (s.ts.map fJ),.tuple ((cZ s).map .bool),o8 s.en]
theorem rB {E:Addr→Prop}{H:Hp}:∀{ls:List (List Nat)}{xs:List V},aw E H xs (ls.map fun l=>.str (S l))→xs=ls.map bt
 | [],_,h=>by cases h;rfl
 | l :: ls,_,h=>by
  cases h with
  | cons h r=>cases h;rw [rB r];rfl
theorem lL {E:Addr→Prop}{H:Hp}:∀(ls:List (List Nat)),aw E H (ls.map bt) (ls.map fun l=>.str (S l))
 | []=>.nil
 | l :: ls=>.cons (.str _) (lL ls)
theorem tj {E:Addr→Prop}{H:Hp}:∀{ls:List Bool}{xs:List V},aw E H xs (ls.map .bool)→xs=ls.map V.bl
 | [],_,h=>by cases h;rfl
 | l :: ls,_,h=>by
  cases h with
  | cons h r=>cases h;rw [tj r];rfl
theorem pM {E:Addr→Prop}{H:Hp}:∀(ls:List Bool),aw E H (ls.map V.bl) (ls.map .bool)
 | []=>.nil
 | l :: ls=>.cons (.bl _) (pM ls)
theorem iO {E:Addr→Prop}{H:Hp}{v:V}{s:ai} (h:aC E H v (oP s)):Az fun a p t q e ys=>v=.ref a∧H a=some (.tup [.ref p,.ref t,.ref q,e])∧H p=some (.tup (s.pl.map bt))∧H t=some (.tup ys)∧aw E H ys (s.ts.map fJ)∧H q=some (.tup ((cZ s).map V.bl))∧aC E H e (o8 s.en):=by
 unfold oP at h
 cases h with
 | @tup a xs _ ha r=>
 cases r with
 | cons h1 r=>
 cases r with
 | cons h2 r=>
 cases r with
 | cons h3 r=>
 cases r with
 | cons h4 r=>
 cases r
 cases h1 with
 | @tup p _ _ hp rp=>
 cases h2 with
 | @tup t ys _ ht rt=>
 cases h3 with
 | @tup q _ _ hq rq=>
 rw [rB rp] at hp
 rw [tj rq] at hq
 exact ⟨a,p,t,q,_,ys,rfl,ha,hp,ht,rt,hq,h4⟩
theorem nG {E:Addr→Prop}{H:Hp}{a p t q:Addr}{e:V}{ys:List V}{s:ai}{bs:List Bool} (ha:H a=some (.tup [.ref p,.ref t,.ref q,e])) (hp:H p=some (.tup (s.pl.map bt))) (ht:H t=some (.tup ys)) (hy:aw E H ys (s.ts.map fJ)) (hq:H q=some (.tup (bs.map V.bl))) (hb:bs=cZ s) (he:aC E H e (o8 s.en)):aC E H (.ref a) (oP s):=by
 subst hb
 exact .tup ha (.cons (.tup hp (lL _)) (.cons (.tup ht hy) (.cons (.tup hq (pM _)) (.cons he .nil))))
theorem nn {E:Addr→Prop}{H:Hp}{v:V}{t:gC} (h:aC E H v (fJ t)):nZ fun a m g p=>v=.ref a∧H a=some (.tup [bt t.bg,bt t.en,m,g,p])∧aC E H m (gH t.most)∧aC E H g (gH t.gain)∧aC E H p (gH t.price):=by
 cases h with
 | @tup a xs _ ha r=>
 cases r with
 | cons h1 r=>
 cases r with
 | cons h2 r=>
 cases r with
 | cons h3 r=>
 cases r with
 | cons h4 r=>
 cases r with
 | cons h5 r=>
 cases r
 cases h1
 cases h2
 exact ⟨a,_,_,(),ha,h3,h4,h5⟩
theorem nv {E:Addr→Prop}{H:Hp}{v:V}{ds:List PyData} (h:aC E H v (.tuple ds)):bn fun a xs=>v=.ref a∧H a=some (.tup xs)∧aw E H xs ds:=by
 cases h with
 | tup ha r=>exact ⟨_,_,rfl,ha,r⟩
theorem pf {E:Addr→Prop}{H:Hp}:∀{ds:List PyData}{xs:List V}{d:PyData},aw E H xs (ds++[d])→bn fun ys v=>xs=ys++[v]∧aw E H ys ds∧aC E H v d
 | [],_,_,h=>by
  cases h with
  | cons h r=>cases r;exact ⟨[],_,rfl,.nil,h⟩
 | _ :: ds,_,d,h=>by
  cases h with
  | cons h r=>
   obtain ⟨ys,v,rfl,a,b⟩:=pf r
   exact ⟨_ :: ys,v,rfl,.cons h a,b⟩
inductive aH (C:Addr) (H:Hp) (r L:Addr) (sts:List ai):Prop
 | mk (dx:Addr) (xs:List V) (hr:H r=some (.ins C dx [("states",.ref L)])) (hL:H L=some (.lst xs)) (ha:aw ED H xs (sts.map oP)):aH C H r L sts
theorem aH.keep {C:Addr}{E:Addr→Prop}{H H':Hp}{r L:Addr}{sts:List ai} (h:aH C H r L sts) (s:aD E H H') (nr:¬E r) (nL:¬E L):aH C H' r L sts:=by
 obtain ⟨dx,xs,hr,hL,ha⟩:=h
 exact ⟨dx,xs,s.old _ _ nr hr,s.old _ _ nL hL,ha.tupS s⟩
theorem aH.sm {C:Addr}{H H':Hp}{r L:Addr}{sts:List ai} (h:aH C H r L sts) (s:aj H H'):aH C H' r L sts:=h.keep (E:=fun _=>False) s.toE (fun z=>z) fun z=>z
theorem aH.ne {C:Addr}{H:Hp}{r L:Addr}{sts:List ai} (h:aH C H r L sts):r≠L:=by
 obtain ⟨dx,xs,hr,hL,_⟩:=h
 exact nu hr hL (by intro z;cases z)
theorem Ch.sameE {H H1 H2:Hp}{L:Addr}{xs ys:List V} (s1:aj H H1) (hL:H1 L=some (.lst xs)) (c:Ch H1 L ys H2):aD (Eb L) H H2:=⟨fun a o n h=>c.ol a o n (s1 _ _ h),fun a zs h=>c.tup (s1 _ _ h) hL⟩
theorem aH.app {C dx:Addr}{H H1 H2:Hp}{r L:Addr}{sts:List ai}{xs:List V}{v:V}{s':ai} (hr:H r=some (.ins C dx [("states",.ref L)])) (hL:H L=some (.lst xs)) (ha:aw ED H xs (sts.map oP)) (s1:aj H H1) (hv:aC ED H1 v (oP s')) (c:Ch H1 L (xs++[v]) H2) :
 aH C H2 r L (sts++[s'])∧aD (Eb L) H H2:=by
 have hL1:=s1 _ _ hL
 have se:=Ch.sameE s1 hL1 c
 refine ⟨⟨dx,xs++[v],se.old _ _ (nu hr hL (by intro z;cases z)) hr,c.at',?_⟩,se⟩
 rw [List.map_append]
 exact (ha.tupS se).append (.cons (hv.tupC c hL1) .nil)
theorem aH.last {C:Addr}{H:Hp}{r L:Addr}{past:List ai}{cur:ai} (h:aH C H r L (past++[cur])):ic fun dx ys v=>H r=some (.ins C dx [("states",.ref L)])∧H L=some (.lst (ys++[v]))∧aw ED H ys (past.map oP)∧aC ED H v (oP cur):=by
 obtain ⟨dx,xs,hr,hL,ha⟩:=h
 rw [List.map_append] at ha
 obtain ⟨ys,v,rfl,a,b⟩:=pf ha
 exact ⟨dx,ys,v,hr,hL,a,b⟩
def iK (C:Addr) (cl:RW→Addr) (r L:Addr) (past:List ai) (cur:ai) (D:cO) (H:Hp) (Q:VK) (E:XK):Prop:=
 (∀w,bw cur D=some w→∀H',aj H H'→E (.ref (cl w)) none H')∧
 (bw cur D=none→∀v H',aD (Eb L) H H'→aH C H' r L (kO past cur D++[kN past cur D])→aC ED H' v (rm past cur D)→Q v H')
theorem iK.ext {C:Addr}{cl:RW→Addr}{r L:Addr}{past:List ai}{cur:ai}{D:cO}{H H1:Hp}{Q:VK}{E:XK} (h:iK C cl r L past cur D H Q E) (s:aj H H1):iK C cl r L past cur D H1 Q E:=
 ⟨fun w e H' k=>h.1 w e H' (s.trans k),fun e v H' k=>h.2 e v H' (s.toE.trans k)⟩
theorem uA {D:Addr}{H1:Hp}{σc:St}{g:TG}{te:TE}{Q:VK}{J:It}{n:Nat} (F:Nat→PyData) (hz:n≤10000) (hD:H1 D=none) (hgo:∀i H',i<n→aj H1 H'→J.go i H') (hst:∀H',aj H1 H'→J.stop n H')
 (hs:∀i x H' H'' (R:VK),i<n→aj H1 H'→J.yld i H' x H''→(∀v H4,aj H' H4→aC ED H4 v (F i)→R v H4)→g x σc H'' fun σ2 H2=>ku σc σ2∧te σ2 H2 R)
 (hd:∀zs H',aj H1 H'→H' D=some (.lst zs)→aw ED H' zs ((List.range n).map F)→Q (.ref D) H'):nz J σc g tT te D H1 Q:=by
 refine gO (n:=n) (fun i H' zs=>H' D=some (.lst zs)∧aj H1 H'∧aw ED H' zs ((List.range i).map F)) (gW hz) ⟨az,fu hD (aj.refl _),.nil⟩ ?_ ?_ ?_ ?_ ?_
 ·rintro i H' zs ⟨q,_,ia⟩
  exact ⟨q,by rw [ia.length];simp⟩
 ·rintro i H' zs hi ⟨_,sm,_⟩
  exact hgo i H' hi sm
 ·rintro H' zs ⟨_,sm,_⟩
  exact hst H' sm
 ·rintro i H' zs x H'' hi ⟨q,sm,ia⟩ y
  refine hs i x H' H'' _ hi sm y fun v H4 s4 dv=>?_
  have q4:=s4 _ _ q
  have tp:∀a us,H4 a=some (.tup us)→aI H4 D (.lst (zs++[v])) a=some (.tup us):=fun a us e=>by
   rw [ak (nu e q4 (by intro z;cases z))];exact e
  refine ⟨q4,az,fu hD (sm.trans s4),?_⟩
  rw [List.range_succ,List.map_append]
  exact ((ia.mono s4.toE).mono ⟨fun _ _ n _=>absurd trivial n,tp⟩).append (.cons (dv.mono ⟨fun _ _ n _=>absurd trivial n,tp⟩) .nil)
 ·rintro H' zs ⟨q,sm,ia⟩
  exact hd zs H' sm q ia
abbrev sn (p t q:Addr) (v:V):List (aS×V):=[(.inr "places",.ref p),(.inr "ties",.ref t),(.inr "shut",.ref q),(.inr "ends",v)]
abbrev em (p t q z:Addr) (v:V):List (aS×V):=[(.inr "places",.ref p),(.inr "ties",.ref t),(.inr "shut",.ref q),(.inr "ends",v),(.inr "past",.ref z)]
structure nV (H:Hp) (p t q:Addr) (v:V) (s:ai):Prop where
 hp:H p=some (.lst (s.pl.map bt))
 ht:∃xs,H t=some (.lst xs)∧aw ED H xs (s.ts.map fJ)
 hq:H q=some (.lst (s.sh.map V.int))
 hv:aC ED H v (o8 s.en)
theorem bL {H H':Hp} (k:kj H H'):aD ED H H':=⟨fun _ _ n _=>absurd trivial n,k⟩
theorem nV.keep {H H':Hp}{p t q:Addr}{v:V}{s:ai} (l:nV H p t q v s) (k:∀a o,a=p∨a=t∨a=q→H a=some o→H' a=some o) (tp:kj H H'):nV H' p t q v s:=by
 obtain ⟨xs,h1,h2⟩:=l.ht
 exact ⟨k _ _ (.inl rfl) l.hp,⟨xs,k _ _ (.inr (.inl rfl)) h1,h2.mono (bL tp)⟩,k _ _ (.inr (.inr rfl)) l.hq,l.hv.mono (bL tp)⟩
structure fD where
 o:Addr
 p:Addr
 t:Addr
 q:Addr
 v:V
inductive gZ (H:Hp):List fD→List ai→Prop
 | nil:gZ H [] []
 | cons {e:fD}{es:List fD}{s:ai}{ss:List ai} (ho:H e.o=some (.dK (sn e.p e.t e.q e.v))) (l:nV H e.p e.t e.q e.v s) (r:gZ H es ss):gZ H (e :: es) (s :: ss)
def d5:List fD→List Addr
 | []=>[]
 | e :: es=>e.o :: e.p :: e.t :: e.q :: d5 es
theorem iy:∀(es fs:List fD),d5 (es++fs)=d5 es++d5 fs
 | [],_=>rfl
 | e :: es,fs=>by simp [d5,iy es fs]
theorem gZ.keep {H H':Hp}{es:List fD}{ss:List ai} (h:gZ H es ss):(∀a∈d5 es,∀o,H a=some o→H' a=some o)→kj H H'→gZ H' es ss:=by
 induction h with
 | nil=>exact fun _ _=>.nil
 | @cons e es s ss ho l r ih=>
  intro k tp
  exact .cons (k _ (by simp [d5]) _ ho) (l.keep (fun a o ha h=>k a (by rcases ha with rfl | rfl | rfl <;> simp [d5]) o h) tp) (ih (fun a ha o h=>k a (by simp [d5,ha]) o h) tp)
theorem gZ.snoc {H:Hp}{es:List fD}{ss:List ai}{e:fD}{s:ai} (h:gZ H es ss) (ho:H e.o=some (.dK (sn e.p e.t e.q e.v))) (l:nV H e.p e.t e.q e.v s):gZ H (es++[e]) (ss++[s]):=by
 induction h with
 | nil=>exact .cons ho l .nil
 | cons ho' l' _ ih=>exact .cons ho' l' ih
theorem gZ.len {H:Hp}{es:List fD}{ss:List ai} (h:gZ H es ss):es.length=ss.length:=by
 induction h with
 | nil=>rfl
 | cons _ _ _ ih=>simp [ih]
theorem gZ.unsnoc {H:Hp}:∀{ss:List ai}{es:List fD}{s:ai},gZ H es (ss++[s])→bn fun fs e=>es=fs++[e]∧gZ H fs ss∧H e.o=some (.dK (sn e.p e.t e.q e.v))∧nV H e.p e.t e.q e.v s
 | [],_,_,h=>by
  cases h with
  | @cons e _ _ _ ho l r=>cases r;exact ⟨[],e,rfl,.nil,ho,l⟩
 | _ :: ss,_,s,h=>by
  cases h with
  | @cons e _ _ _ ho l r=>
   obtain ⟨fs,e',rfl,a,b,c⟩:=gZ.unsnoc r
   exact ⟨e :: fs,e',rfl,.cons ho l a,b,c⟩
theorem gZ.there {H:Hp}{es:List fD}{ss:List ai} (h:gZ H es ss):∀a∈d5 es,H a≠none:=by
 induction h with
 | nil=>exact fun a ha=>nomatch ha
 | @cons e es s ss ho l r ih=>
  intro a ha q
  obtain ⟨xs,h1,_⟩:=l.ht
  simp only [d5,List.mem_cons] at ha
  rcases ha with rfl | rfl | rfl | rfl | ha
  ·rw [ho] at q;cases q
  ·rw [l.hp] at q;cases q
  ·rw [h1] at q;cases q
  ·rw [l.hq] at q;cases q
  ·exact ih a ha q
abbrev bX (d p t q z:Addr) (es:List fD):List Addr:=d :: z :: p :: t :: q :: d5 es
structure bC (H:Hp) (d:Addr) (past:List ai) (cur:ai) (p t q z:Addr) (v:V) (es:List fD):Prop where
 hd:H d=some (.dK (em p t q z v))
 l:nV H p t q v cur
 hz:H z=some (.lst (es.map fun e=>V.ref e.o))
 hs:gZ H es past
 nd:(bX d p t q z es).Nodup
inductive eT (H:Hp) (d:Addr) (F:List Addr) (past:List ai) (cur:ai):Prop
 | mk (p t q z:Addr) (v:V) (es:List fD) (O:bC H d past cur p t q z v es) (eF:F=bX d p t q z es):eT H d F past cur
section
variable {H H':Hp}{d p t q z:Addr}{v:V}{es:List fD}{past:List ai}{cur:ai}{F:List Addr}
theorem bC.keep (O:bC H d past cur p t q z v es) (k:∀a∈bX d p t q z es,∀o,H a=some o→H' a=some o) (tp:kj H H'):bC H' d past cur p t q z v es:=
 ⟨k _ (by simp) _ O.hd,O.l.keep (fun a o ha h=>k a (by rcases ha with rfl | rfl | rfl <;> simp) o h) tp,k _ (by simp) _ O.hz,O.hs.keep (fun a ha o h=>k a (by simp [ha]) o h) tp,O.nd⟩
theorem bC.there (O:bC H d past cur p t q z v es):∀a∈bX d p t q z es,H a≠none:=by
 intro a ha c
 obtain ⟨xs,h1,_⟩:=O.l.ht
 simp only [bX,List.mem_cons] at ha
 rcases ha with rfl | rfl | rfl | rfl | rfl | ha
 ·rw [O.hd] at c;cases c
 ·rw [O.hz] at c;cases c
 ·rw [O.l.hp] at c;cases c
 ·rw [h1] at c;cases c
 ·rw [O.l.hq] at c;cases c
 ·exact O.hs.there a ha c
theorem eT.keep {E:Addr→Prop} (O:eT H d F past cur) (s:aD E H H') (n:∀a∈F,¬E a):eT H' d F past cur:=by
 obtain ⟨p,t,q,z,v,es,O,rfl⟩:=O
 exact ⟨p,t,q,z,v,es,O.keep (fun a ha o h=>s.old a o (n a ha) h) s.tup,rfl⟩
theorem eT.sm (O:eT H d F past cur) (s:aj H H'):eT H' d F past cur:=O.keep (E:=fun _=>False) s.toE fun _ _ z=>z
theorem eT.there (O:eT H d F past cur):∀a∈F,H a≠none:=by
 obtain ⟨p,t,q,z,v,es,O,rfl⟩:=O
 exact O.there
theorem bC.chP {pl:List (List Nat)} (O:bC H d past cur p t q z v es) (c:Ch H p (pl.map bt) H'):bC H' d past { cur with pl:=pl } p t q z v es:=by
 have tp:kj H H':=c.tp O.l.hp
 have nd:=O.nd
 simp only [bX,List.nodup_cons,List.mem_cons,not_or] at nd
 obtain ⟨xs,h1,h2⟩:=O.l.ht
 exact ⟨c.ol d _ (by grind) O.hd,⟨c.at',⟨xs,c.ol t _ (by grind) h1,h2.mono (bL tp)⟩,c.ol q _ (by grind) O.l.hq,O.l.hv.mono (bL tp)⟩,c.ol z _ (by grind) O.hz,O.hs.keep (fun a ha o h=>c.ol a o (by grind) h) tp,O.nd⟩
theorem bC.chT {ts:List gC}{xs:List V} (O:bC H d past cur p t q z v es) (c:Ch H t xs H') (ha:aw ED H xs (ts.map fJ)):bC H' d past { cur with ts:=ts } p t q z v es:=by
 obtain ⟨ys,h1,h2⟩:=O.l.ht
 have tp:kj H H':=c.tp h1
 have nd:=O.nd
 simp only [bX,List.nodup_cons,List.mem_cons,not_or] at nd
 exact ⟨c.ol d _ (by grind) O.hd,⟨c.ol p _ (by grind) O.l.hp,⟨xs,c.at',ha.mono (bL tp)⟩,c.ol q _ (by grind) O.l.hq,O.l.hv.mono (bL tp)⟩,c.ol z _ (by grind) O.hz,O.hs.keep (fun a ha o h=>c.ol a o (by grind) h) tp,O.nd⟩
theorem bC.chS {sh:List Int} (O:bC H d past cur p t q z v es) (c:Ch H q (sh.map V.int) H'):bC H' d past { cur with sh:=sh } p t q z v es:=by
 have tp:kj H H':=c.tp O.l.hq
 have nd:=O.nd
 simp only [bX,List.nodup_cons,List.mem_cons,not_or] at nd
 obtain ⟨xs,h1,h2⟩:=O.l.ht
 exact ⟨c.ol d _ (by grind) O.hd,⟨c.ol p _ (by grind) O.l.hp,⟨xs,c.ol t _ (by grind) h1,h2.mono (bL tp)⟩,c.at',O.l.hv.mono (bL tp)⟩,c.ol z _ (by grind) O.hz,O.hs.keep (fun a ha o h=>c.ol a o (by grind) h) tp,O.nd⟩
theorem og.tp {o:HO} (c:og H d o H') (h:∃kv,H d=some (.dK kv)):kj H H':=fun a us e=>c.ol a _ (fun z=>by obtain ⟨kv,h⟩:=h;rw [z,h] at e;cases e) e
theorem bC.chE {v':V}{en:Option (List Nat×List Nat)} (O:bC H d past cur p t q z v es) (c:og H d (.dK (em p t q z v')) H') (hv:aC ED H v' (o8 en)):bC H' d past { cur with en:=en } p t q z v' es:=by
 have tp:kj H H':=c.tp ⟨_,O.hd⟩
 have nd:=O.nd
 simp only [bX,List.nodup_cons,List.mem_cons,not_or] at nd
 obtain ⟨xs,h1,h2⟩:=O.l.ht
 exact ⟨c.at',⟨c.ol p _ (by grind) O.l.hp,⟨xs,c.ol t _ (by grind) h1,h2.mono (bL tp)⟩,c.ol q _ (by grind) O.l.hq,hv.mono (bL tp)⟩,c.ol z _ (by grind) O.hz,O.hs.keep (fun a ha o h=>c.ol a o (by grind) h) tp,O.nd⟩
theorem bC.push {H1:Hp}{e:fD} (O:bC H d past cur p t q z v es) (s1:aj H H1) (fo:H e.o=none) (fp:H e.p=none) (ft:H e.t=none) (fq:H e.q=none) (nd':[e.o,e.p,e.t,e.q].Nodup) (ho:H1 e.o=some (.dK (sn e.p e.t e.q e.v))) (l:nV H1 e.p e.t e.q e.v cur) (c:Ch H1 z (es.map (fun e=>V.ref e.o)++[.ref e.o]) H') :
 bC H' d (past++[cur]) cur p t q z v (es++[e])∧aD (·∈bX d p t q z es) H H'∧∀a∈bX d p t q z (es++[e]),a∈bX d p t q z es∨H a=none:=by
 have O1:=O.keep (fun a _ o h=>s1 a o h) s1.tp
 have tp:kj H1 H':=c.tp O1.hz
 have th:=O.there
 have nf:∀{x},H x=none→x∉bX d p t q z es:=fun h m=>th _ m h
 have n1:=nf fo
 have n2:=nf fp
 have n3:=nf ft
 have n4:=nf fq
 have nd:=O.nd
 have nd2:=nd
 simp only [bX,List.nodup_cons,List.mem_cons,not_or] at nd n1 n2 n3 n4
 obtain ⟨xs,h1,h2⟩:=O1.l.ht
 refine ⟨⟨c.ol d _ (by grind) O1.hd,O1.l.keep (fun a o ha h=>c.ol a o (by grind) h) tp,by rw [List.map_append];exact c.at',(O1.hs.keep (fun a ha o h=>c.ol a o (by grind) h) tp).snoc (c.ol _ _ (by grind) ho) (l.keep (fun a o ha h=>c.ol a o (by grind) h) tp),?_⟩,⟨fun a o na h=>c.ol a o (fun w=>na (by rw [w];simp)) (s1 _ _ h),fun a us h=>tp a us (s1 _ _ h)⟩,fun a ha=>?_⟩
 ·have e1:bX d p t q z (es++[e])=bX d p t q z es++[e.o,e.p,e.t,e.q]:=by simp [bX,iy,d5]
  rw [e1,List.nodup_append]
  refine ⟨nd2,nd',fun a ha b hb w=>?_⟩
  subst w
  refine th a ha ?_
  simp only [List.mem_cons,List.not_mem_nil,or_false] at hb
  rcases hb with rfl | rfl | rfl | rfl
  ·exact fo
  ·exact fp
  ·exact ft
  ·exact fq
 ·have e1:bX d p t q z (es++[e])=bX d p t q z es++[e.o,e.p,e.t,e.q]:=by simp [bX,iy,d5]
  rw [e1,List.mem_append] at ha
  rcases ha with ha | hb
  ·exact .inl ha
  ·right
   simp only [List.mem_cons,List.not_mem_nil,or_false] at hb
   rcases hb with rfl | rfl | rfl | rfl
   ·exact fo
   ·exact fp
   ·exact ft
   ·exact fq
theorem bC.pop {H1:Hp}{fs:List fD}{e:fD}{pp:List ai}{s:ai} (O:bC H d (pp++[s]) cur p t q z v (fs++[e])) (hf:gZ H fs pp) (l:nV H e.p e.t e.q e.v s) (c1:Ch H z (fs.map fun e=>V.ref e.o) H1) (c2:og H1 d (.dK (em e.p e.t e.q z e.v)) H') :
 bC H' d pp s e.p e.t e.q z e.v fs∧aD (·∈bX d p t q z (fs++[e])) H H'∧∀a∈bX d e.p e.t e.q z fs,a∈bX d p t q z (fs++[e]):=by
 have nd:=O.nd
 simp only [bX,iy,d5,List.append_nil,List.nodup_cons,List.mem_cons,not_or,List.nodup_append,List.mem_append,List.not_mem_nil,or_false] at nd
 have hd1:H1 d=some (.dK (em p t q z v)):=c1.ol d _ (by grind) O.hd
 have tp:kj H H':=fun a us h=>c2.tp ⟨_,hd1⟩ a us (c1.tp O.hz a us h)
 have kp:∀a o,a≠z→a≠d→H a=some o→H' a=some o:=fun a o n1 n2 h=>c2.ol a o n2 (c1.ol a o n1 h)
 refine ⟨⟨c2.at',l.keep (fun a o ha h=>kp a o (by grind) (by grind) h) tp,c2.ol z _ (by grind) c1.at',hf.keep (fun a ha o h=>kp a o (by grind) (by grind) h) tp,?_⟩,⟨fun a o na h=>?_,tp⟩,fun a ha=>?_⟩
 ·simp only [bX,List.nodup_cons,List.mem_cons,not_or]
  grind
 ·simp only [bX,List.mem_cons,not_or] at na
  exact kp a o (by grind) (by grind) h
 ·simp only [bX,iy,d5,List.append_nil,List.mem_cons,List.mem_append] at ha ⊢
  grind
end
theorem fw {k:aS}{v:V}{r:List (aS×V)}:valD ((k,v) :: r) k=some v:=by simp [valD]
theorem bS {k' k:aS}{v:V}{r:List (aS×V)} (h:¬k'=k):valD ((k',v) :: r) k=valD r k:=by
 unfold valD
 rw [List.find?_cons,decide_eq_false h]
theorem il {k' k:aS}{v0 v:V}{r:List (aS×V)} (h:¬k'=k):cB ((k',v0) :: r) k v=(k',v0) :: cB r k v:=by
 unfold cB
 rw [List.any_cons,decide_eq_false h,Bool.false_or]
 by_cases c:r.any (fun kv=>decide (kv.1=k))=true
 ·rw [if_pos c,if_pos c,List.map_cons,if_neg h]
 ·rw [if_neg c,if_neg c];rfl
theorem lv {k:aS}{v0 v:V}{r:List (aS×V)} (h:∀kv∈r,¬kv.1=k):cB ((k,v0) :: r) k v=(k,v) :: r:=by
 unfold cB
 rw [List.any_cons,decide_eq_true rfl,Bool.true_or,if_pos rfl,List.map_cons,if_pos rfl]
 congr 1
 exact (List.map_congr_left fun kv hkv=>if_neg (h kv hkv)).trans (List.map_id _)
theorem uS:¬(Sum.inr ("places" : Str):aS)=.inr "ties" := by nofun
theorem u5:¬(Sum.inr ("places" : Str):aS)=.inr "shut" := by nofun
theorem uV:¬(Sum.inr ("places" : Str):aS)=.inr "ends" := by nofun
theorem AE:¬(Sum.inr ("places" : Str):aS)=.inr "past" := by nofun
theorem vX:¬(Sum.inr ("ties" : Str):aS)=.inr "shut" := by nofun
theorem u0:¬(Sum.inr ("ties" : Str):aS)=.inr "ends" := by nofun
theorem AD:¬(Sum.inr ("ties" : Str):aS)=.inr "past" := by nofun
theorem vg:¬(Sum.inr ("shut" : Str):aS)=.inr "ends" := by nofun
theorem zS:¬(Sum.inr ("shut" : Str):aS)=.inr "past" := by nofun
theorem Bh:¬(Sum.inr ("ends" : Str):aS)=.inr "past" := by nofun
section
variable {p t q z p' t' q':Addr}{v v':V}
theorem vP:valD (em p t q z v) (.inr "places")=some (.ref p):=fw
theorem vT:valD (em p t q z v) (.inr "ties")=some (.ref t):=(bS uS).trans fw
theorem vS:valD (em p t q z v) (.inr "shut")=some (.ref q):=(bS u5).trans ((bS vX).trans fw)
theorem vE:valD (em p t q z v) (.inr "ends")=some v:=(bS uV).trans ((bS u0).trans ((bS vg).trans fw))
theorem vA:valD (em p t q z v) (.inr "past")=some (.ref z):=(bS AE).trans ((bS AD).trans ((bS zS).trans ((bS Bh).trans fw)))
theorem BE:((sn p t q v).map (·.1)).Nodup:=by
 simp only [sn,List.map_cons,List.map_nil,List.nodup_cons,List.mem_cons,List.not_mem_nil,or_false,not_or]
 exact ⟨⟨uS,u5,uV⟩,⟨vX,u0⟩,vg,fun h=>h,List.nodup_nil⟩
theorem AH:((em p t q z v).map (·.1)).Nodup:=by
 simp only [em,List.map_cons,List.map_nil,List.nodup_cons,List.mem_cons,List.not_mem_nil,or_false,not_or]
 exact ⟨⟨uS,u5,uV,AE⟩,⟨vX,u0,AD⟩,⟨vg,zS⟩,Bh,fun h=>h,List.nodup_nil⟩
theorem qu:cB (em p t q z v) (.inr "ends") v'=em p t q z v':=by
 rw [em,il uV,il u0,il vg,lv]
 intro kv hkv
 rw [List.mem_singleton.mp hkv]
 exact Ne.symm Bh
theorem yc:rl (em p t q z v) (sn p' t' q' v')=em p' t' q' z v':=by
 have e1:cB (em p t q z v) (.inr "places") (.ref p')=em p' t q z v:=lv fun kv hkv=>by
  simp only [List.mem_cons,List.not_mem_nil,or_false] at hkv
  rcases hkv with rfl | rfl | rfl | rfl
  ·exact Ne.symm uS
  ·exact Ne.symm u5
  ·exact Ne.symm uV
  ·exact Ne.symm AE
 have e2:cB (em p' t q z v) (.inr "ties") (.ref t')=em p' t' q z v:=by
  rw [em,il uS,lv]
  intro kv hkv
  simp only [List.mem_cons,List.not_mem_nil,or_false] at hkv
  rcases hkv with rfl | rfl | rfl
  ·exact Ne.symm vX
  ·exact Ne.symm u0
  ·exact Ne.symm AD
 have e3:cB (em p' t' q z v) (.inr "shut") (.ref q')=em p' t' q' z v:=by
  rw [em,il u5,il vX,lv]
  intro kv hkv
  simp only [List.mem_cons,List.not_mem_nil,or_false] at hkv
  rcases hkv with rfl | rfl
  ·exact Ne.symm vg
  ·exact Ne.symm zS
 show cB (cB (cB (cB (em p t q z v) (.inr "places") (.ref p')) (.inr "ties") (.ref t')) (.inr "shut") (.ref q')) (.inr "ends") v'=_
 rw [e1,e2,e3,qu]
end
structure fE (C:Addr) (H:Hp) (r L d:Addr) (F:List Addr) (past:List ai) (cur:ai) (N:Nat):Prop where
 R:aH C H r L (past++[cur])
 O:eT H d F past cur
 ok:gk N past cur
 nL:L∉F
 nr:r∉F
theorem aH.thL {C:Addr}{H:Hp}{r L:Addr}{sts:List ai} (h:aH C H r L sts):H L≠none:=by
 obtain ⟨dx,xs,_,hL,_⟩:=h
 rw [hL];exact fun z=>nomatch z
theorem aH.thr {C:Addr}{H:Hp}{r L:Addr}{sts:List ai} (h:aH C H r L sts):H r≠none:=by
 obtain ⟨dx,xs,hr,_,_⟩:=h
 rw [hr];exact fun z=>nomatch z
theorem Bx.th {H:Hp}{b:Addr}{t:Int} (h:Bx H b t):H b≠none:=by
 obtain ⟨_,_,e,_⟩:=h
 rw [e];exact fun z=>nomatch z
theorem Bx.frm {H H':Hp}{b:Addr}{t:Int}{E:Addr→Prop} (B:Bx H b t) (s:aD E H H') (n:¬E b):Bx H' b t:=by
 obtain ⟨c1,c2,e,q1,q2,q3⟩:=B
 exact ⟨c1,c2,s.old _ _ n e,q1,q2,q3⟩
theorem aD.none {E:Addr→Prop}{H H':Hp} (s:aD E H H') {a:Addr} (n:¬E a) (h:H' a=none):H a=none:=by
 cases e:H a with
 | none=>rfl
 | some o=>rw [s.old a o n e] at h;cases h
theorem aD.imp {E E':Addr→Prop}{H H':Hp} (s:aD E H H') (k:∀a,E a→E' a):aD E' H H':=⟨fun a o n h=>s.old a o (fun z=>n (k a z)) h,s.tup⟩
section
variable {C:Addr}{H H' H0 H1 H2:Hp}{r L d b:Addr}{F F' F0 F1 F2:List Addr}{past:List ai}{cur:ai}{N M:Nat}{E:Addr→Prop}
theorem fE.keep (B:fE C H r L d F past cur N) (s:aD E H H') (n1:¬E L) (n2:¬E r) (n3:∀a∈F,¬E a):fE C H' r L d F past cur N:=
 ⟨B.R.keep s n2 n1,B.O.keep s n3,B.ok,B.nL,B.nr⟩
theorem fE.sm (B:fE C H r L d F past cur N) (s:aj H H'):fE C H' r L d F past cur N:=B.keep (E:=fun _=>False) s.toE (fun z=>z) (fun z=>z) fun _ _ z=>z
theorem fE.mono (B:fE C H r L d F past cur N) (h:N≤M):fE C H r L d F past cur M:=⟨B.R,B.O,B.ok.mono h,B.nL,B.nr⟩
structure kZ (b L:Addr) (F0 F:List Addr) (H0 H:Hp):Prop where
 sE:aD (fun a=>a=b∨a=L∨a∈F0) H0 H
 sub:∀a∈F,a∈F0∨H0 a=none
theorem kZ.trans (x:kZ b L F0 F1 H0 H1) (y:kZ b L F1 F2 H1 H2) (hb:H1 b≠none) (hL:H1 L≠none):kZ b L F0 F2 H0 H2:=by
 refine ⟨⟨fun a o n h=>y.sE.old a o (fun z=>?_) (x.sE.old a o n h),fun a us h=>y.sE.tup a us (x.sE.tup a us h)⟩,fun a h=>?_⟩
 ·rcases z with z | z | z
  ·exact n (.inl z)
  ·exact n (.inr (.inl z))
  ·rcases x.sub a z with q | q
   ·exact n (.inr (.inr q))
   ·rw [q] at h;cases h
 ·rcases y.sub a h with q | q
  ·exact x.sub a q
  ·by_cases c:a∈F0
   ·exact .inl c
   ·refine .inr (x.sE.none ?_ q)
    rintro (z | z | z)
    ·exact hb (z▸q)
    ·exact hL (z▸q)
    ·exact c z
theorem kZ.old {b L:Addr}{F0 F:List Addr}{H0 H:Hp} (x:kZ b L F0 F H0 H) {a:Addr}{o:HO} (h:H0 a=some o) (n1:a≠b) (n2:a≠L) (n3:a∉F0):H a=some o:=x.sE.old a o (by rintro (z | z | z);exact n1 z;exact n2 z;exact n3 z) h
theorem kZ.out {b L:Addr}{F0 F:List Addr}{H0 H:Hp} (x:kZ b L F0 F H0 H) {a:Addr} (h:H0 a≠none) (n:a∉F0):a∉F:=fun z=>by
 rcases x.sub a z with q | q
 ·exact n q
 ·exact h q
theorem fE.turn {past':List ai}{cur':ai} (B:fE C H r L d F past cur N) (hb:b∉F) (hbL:b≠L) (s1:aD (Eb L) H H1) (R1:aH C H1 r L (past'++[cur'])) (s2:aD (·∈F) H1 H2) (O2:eT H2 d F' past' cur') (ok':gk M past' cur') (sub:∀a∈F',a∈F∨H1 a=none) :
 fE C H2 r L d F' past' cur' M∧kZ b L F F' H H2:=by
 have nL:=B.nL
 have nr:=B.nr
 refine ⟨⟨R1.keep s2 nr nL,O2,ok',fun h=>?_,fun h=>?_⟩,⟨⟨fun a o n h=>?_,fun a us h=>s2.tup a us (s1.tup a us h)⟩,fun a h=>?_⟩⟩
 ·rcases sub _ h with q | q
  ·exact nL q
  ·exact R1.thL q
 ·rcases sub _ h with q | q
  ·exact nr q
  ·exact R1.thr q
 ·exact s2.old a o (fun z=>n (.inr (.inr z))) (s1.old a o (fun z=>n (.inr (.inl z))) h)
 ·rcases sub a h with q | q
  ·exact .inl q
  ·refine .inr (s1.none (fun z=>?_) q)
   have z':a=L:=z
   rw [z'] at q
   exact R1.thL q
end
theorem uF (p:KM.Fra) (n:Nat):Dp (n+2) (gH p):=⟨by show 2≤1000;decide,fun x h=>by
 rcases List.mem_cons.mp h with rfl | h
 ·trivial
 ·rw [List.mem_singleton.mp h];trivial⟩
theorem zU (t:gC) (n:Nat):Dp (n+3) (fJ t):=⟨by show 5≤1000;decide,fun x h=>by
 simp only [List.mem_cons,List.not_mem_nil,or_false] at h
 rcases h with rfl | rfl | rfl | rfl | rfl
 ·trivial
 ·trivial
 ·exact uF _ _
 ·exact uF _ _
 ·exact uF _ _⟩
theorem zP (past:List ai) (cur:ai) (D:cO) (n:Nat):Dp (n+2) (mC past cur D):=by
 unfold mC
 cases bw cur D with
 | some w=>
  exact ⟨by show 2≤1000;decide,fun x h=>by
   rcases List.mem_cons.mp h with rfl | h
   ·trivial
   ·rw [List.mem_singleton.mp h];trivial⟩
 | none=>
  exact ⟨by show 2≤1000;decide,fun x h=>by
   rcases List.mem_cons.mp h with rfl | h
   ·trivial
   ·rw [List.mem_singleton.mp h];cases D <;> trivial⟩
theorem Du {α:Type}{P:List α→Prop} (h:P []):∀us:List α,us.length=0→P us:=fun us hl=>by
 cases us with
 | nil=>exact h
 | cons a r=>cases hl
theorem Dt {α:Type}{P:List α→Prop} (h:∀a b c d e f,P [a,b,c,d,e,f]):∀us:List α,us.length=6→P us:=fun us hl=>by
 cases us with
 | nil=>cases hl
 | cons a r=>exact CZ (P:=fun r=>P (a :: r)) (fun b c d e f=>h a b c d e f) r (by simpa using hl)
end L2
namespace L2
open PySem PySem.Spec PyProof.Rows
def rf (K:PySem.W.Frag) (Cc:Addr) (th:TS) (D:cK):St→XK:=fun σ cv dx H=>∀a C,cv=.ref C→H a=some (iz a C dx)→PySem.W.exmOne K (.ref C) (.ref Cc)=some true∧th D σ H
def BX (K:PySem.W.Frag) (Cc:Addr) (tb:(St→XK)→TS) (th:TS):TS:=fun D σ H=>tb (rf K Cc th D) D σ H
section
variable {X:Cx}{body suite:List Stmt}{b0:Stmt}{x:Str}{hpos pos np:Pos}{tb:(St→XK)→TS}{th:TS}{Cc:Addr}
theorem yv (hst:X.stack=X.env :: X.outer) (hfr:X.env.frame=some X.env.locals) (hg:Gl X x) (hm:X.mg x=some (.ref Cc))
 (hb:∀(EE:St→XK) (pn:List (Addr×Obj)) (xe:Value→Shared→Prop),iF (d9 X.prog X.w) (X.tr pn xe) EE→hZ (X.tr pn xe) body (tb EE)) (hs:∀A:Around,hZ (X.hn A) (b0 :: suite) th) (hdb:(x==("__debug__" : Str))=false:=by decide) :
 PS X (.Try body [.ExceptHandler (some (.Name x np)) none (b0 :: suite) hpos] [] [] pos) (BX X.K Cc tb th):=by
 intro pins s σ H D I h
 refine wpAny_Try_except ?_
 have hx:iF (d9 X.prog X.w) (X.tr (X.pn++pins) (oR (X.tr (X.pn++pins) fun _ _=>False) (rf X.K Cc th D))) (rf X.K Cc th D):=xN (X:=X.tr (X.pn++pins) (oR (X.tr (X.pn++pins) fun _ _=>False) (rf X.K Cc th D))) rfl fun J=>J.wish _
 refine wpAny_mono (hb _ _ _ hx [] s σ H D I.tr h) (fun f s1 q=>?_) fun e s1 q=>?_
 ·cases f with
  | next=>obtain ⟨σ',H',J,q⟩:=q;exact wpAny_execs_nil ⟨σ',H',J.untr,q⟩
  | brk=>obtain ⟨σ',H',J,q⟩:=q;exact ⟨σ',H',J.untr,q⟩
  | cont=>obtain ⟨σ',H',J,q⟩:=q;exact ⟨σ',H',J.untr,q⟩
  | ret u=>obtain ⟨v,σ',H',J,r,q⟩:=q;exact ⟨v,σ',H',J.untr,r,q⟩
 ·obtain ⟨pins',σ',H',a,T,C,dx,rfl,J0,t,hT,far,ha,hE⟩:=q
  have J:ac X pins σ' H' s1:=J0.untr
  obtain ⟨hm',hth⟩:=hE a C rfl ha
  have st:∀{h2:Heap}{bad:List Addr},Kp s1.heap h2 bad (dU (X.env :: X.outer))→Kp s1.heap h2 bad (dU X.stack):=fun k=>by rw [hst];exact k
  refine mn (L:=X.env.locals) (J.ok.frames.trans (congrArg some hst)) (by have z:=J.stack;rw [hst] at z;exact z) hfr t fun h2 T2 t2 z2 k2=>?_
  have J2:=J.noted ha (ch:=[T]) (st k2) t2.there (fun b hb=>by rw [List.mem_singleton.mp hb];exact hT) (fun b hb=>by
   rw [List.mem_singleton.mp hb]
   exact ⟨far.1,far.2.1,far.2.2.1,fun p hp=>far.2.2.2 p (List.mem_append_left _ hp)⟩)
  rw [gy ha] at J2
  have n2:s1.heap.objs.size≤T2:=Nat.le_of_eq z2.symm
  have far0:=J.far n2
  have hT2:∀b∈[T2],H' b=none:=fun b hb=>by rw [List.mem_singleton.mp hb];exact J.hok.fresh n2
  have wk:∀{g g':Heap},Kp g g' [T2] []→Kp g g' [a,T2] (dU X.stack):=fun k=>k.weak (fun b hb=>List.mem_cons_of_mem _ hb) fun b hb=>by cases hb
  refine jx t2 fun h3 t3 k3=>?_
  have J3:=J2.noted ha (ch:=[T2]) (wk k3) t3.there hT2 (fun b hb=>by rw [List.mem_singleton.mp hb];exact far0)
  rw [gy ha] at J3
  refine wpAny_handleBy_cons (codeAny_handlers_test ?_) (by intro q;cases q)
  have J3h:=J3.hn (A:=X.A.mark (some (.ref a))) rfl
  refine gQ J3h hg hm ?_ hdb
  obtain ⟨vs,sl,ea⟩:=t3.there
  have LT:PySem.W.Looks (model X.prog X.w) h3 (typeOf (.ref a)) (.ref C):=(PySem.W.Looks.ld ea).andThen .now
  refine (PySem.W.exm_one J3.kIn LT hm').here ?_
  refine codeAny_handlers_suite (jx t3 fun h5 t5 k5=>?_)
  have J5:=J3.noted ha (ch:=[T2]) (wk k5) t5.there hT2 (fun b hb=>by rw [List.mem_singleton.mp hb];exact far0)
  rw [gy ha] at J5
  refine wpAny_mono (hs _ pins _ _ H' _ (J5.hn (A:=X.A.mark (some (.ref a))) rfl) hth) (fun f s7 q=>?_) fun _ _ z=>z.elim
  cases f with
  | next=>obtain ⟨σ7,H7,J7,q⟩:=q;exact ⟨_,_,J7.unhn J.ok,q⟩
  | brk=>obtain ⟨σ7,H7,J7,q⟩:=q;exact ⟨_,_,J7.unhn J.ok,q⟩
  | cont=>obtain ⟨σ7,H7,J7,q⟩:=q;exact ⟨_,_,J7.unhn J.ok,q⟩
  | ret u=>obtain ⟨v,σ7,H7,J7,r,q⟩:=q;exact ⟨v,_,_,J7.unhn J.ok,r,q⟩
end
section
variable {X:Cx}{CX:ij}{k:Nat}{f C:Addr}{fd:FuncData}{ps:List Str}{sp:Sp}{EE:St→XK}{m:Str}{pos apos:Pos}{e o:Expr}{es:List Expr}{ta:TE}{t:TA}
def zu (C:Addr) (m:Str) (sp:Sp) (EE:St→XK) (ta:TE) (t:TA):TE:=fun σ H Q=>ta σ H fun x H1=>ic fun a dx fs=>x=.ref a∧H1 a=some (.ins C dx fs)∧fs.lookup m=none∧
 t σ H1 fun vs H2=>sp (x :: vs) H2 Q (EE σ)
theorem wS {pl:Sem Bool} (he:PE X o ta) (c:k4 X.K C) (hm:dO X.K C m f) (F:aT X.prog X.w X.K X.mg X.base CX k f fd ps sp) (hr:bP k X.A) (hb:bq X.K fd ps []) (hx:iF CX X EE) (ha:PA X (e :: es) t)
 (hst:starEach (e :: es) X.env=(false,eval e X.env) :: starEach es X.env:=by rfl) (hpl:(backTo pos (starEach es X.env)).any (·.1)=false:=by rfl)
 (ht:eval (.Call (.Attribute o m apos) (e :: es) [] pos) X.env=(do
  let ov ←eval o X.env
  standAt apos.atName
  let (f,first) ←holding [ov] (getMethod ov m pl)
  callWith pos f first (backTo pos (starEach (e :: es) X.env)) (backToKw pos (keywordEach [] X.env))):=by rfl) :
 PE X (.Call (.Attribute o m apos) (e :: es) [] pos) (zu C m sp EE ta t):=by
 intro pins s σ H Q I h
 refine PySem.W.methodCall_KW (pl:=pl) (aF (he pins s σ H _ I h) fun u s1 ⟨x,H1,I1,rx,a,dx,fs,ex,ea,l,q⟩=>?_) ht
 subst ex
 obtain rfl:u=Value.ref a:=rx
 refine lQ I1 ea c hm l ?_
 refine PySem.W.callWith_K (first:=[.ref a]) (h₀:=X.base) I.ok.mod.kin hm.kp (aF (ha pos pins s1 σ H1 _ I1 q) fun us s2 ⟨vs,H2,I2,r,q2⟩=>⟨I2.kIn,?_⟩) hst hpl
 have r2:aq (V.ref a :: vs) (Value.ref a :: us):=.cons rfl r
 have hl:(Value.ref a :: us).length=ps.length:=by rw [←r2.length];exact F.len _ _ _ _ q2
 have hbb:=hb s2 (Value.ref a :: us) I2.kIn (by rw [List.append_nil];exact hl)
 rw [List.append_nil] at hbb
 refine wpAny_call (codeAny_mono (F.run X.A X.stack s2 H2 ⟨Value.ref a :: us,[]⟩ (Value.ref a :: us) (V.ref a :: vs) Q (EE σ) hr I2.env0 hbb r2 q2) fun rs s' hq=>?_)
 cases rs with
 | error z=>exact hx pins σ H2 s2 z s' I2 hq
 | ok fl=>
  cases fl with
  | ret u=>exact I2.after hq
  | next=>exact False.elim hq
  | brk=>exact False.elim hq
  | cont=>exact False.elim hq
end
end L2
set_option maxHeartbeats 4000000
open L2
local macro_rules | `(#[$n:num,$i:ident])=>`(@pw _ $n _ _ (Or.inl $i) (by rfl) (by decide) (by decide)) | `(#[$n:num,($i:ident)])=>`(@pw _ $n _ _ (Or.inr (Or.inl $i)) (by rfl) (by decide) (by decide))
local macro_rules | `(#[$n:num,()])=>`(@pw _ $n _ _ (Or.inl (by kernel_rfl)) (by rfl) (by decide) (by decide)) | `(#[$n:num,0])=>`(@pw _ $n _ _ (Or.inr (Or.inl (by kernel_rfl))) (by rfl) (by decide) (by decide)) | `(#[$n:num,1])=>`(@pw _ $n _ _ (Or.inr (Or.inr (by kernel_rfl))) (by rfl) (by decide) (by decide))
local macro_rules | `(#[()])=>`(@bx _ _ _ _) | `(#[(),()])=>`(@oW _ _ (by decide) (by decide))
local macro_rules | `(#[[$a]])=>`(@zL _ _ _ _ _ $a (@cq _) rfl) | `(#[[$a,$b,*]])=>`(@zL _ _ _ _ _ $a #[[$b,*]] rfl)
local macro_rules | `(#[$a[$b]])=>`(@aU _ _ _ _ _ _ _ (@Bu _ ($(Lean.mkIdent `K)) (by rfl)) $a $b (fun _ _=>rfl)) | `(#[$a[$b]!])=>`(@aU _ _ _ _ _ _ _ (@B0 _ ($(Lean.mkIdent `K)) (by rfl)) $a $b (fun _ _=>rfl))
local macro_rules | `(#[$g:ident,$k:ident,$t:term,$a:term])=>`(@gL _ _ _ _ _ _ _ _ _ _ _ _ _ _ _ _ $g ($(Lean.mkIdent `hr).mono (by decide)) $k ($t).m ($t).F.kp ($t).B .nil (@iI _) $a (by decide) (by rfl) (by rfl))
local macro_rules | `(#[$g:ident,(),$t:term,$a:term])=>`(@gL _ _ _ _ _ _ _ _ _ _ _ _ _ _ _ _ $g ($(Lean.mkIdent `hr).mono (by decide)) (by show _=_;kernel_rfl) ($t).m ($t).F.kp ($t).B .nil (@iI _) $a (by decide) (by rfl) (by rfl))
local macro_rules | `(#[$n:num,$s:term,$i:ident,$v:term])=>`(@ma _ _ ($n) _ _ _ _ $s rfl (Or.inl $i) $v (by rfl) (by first | exact .inl rfl | exact .inr rfl | assumption))
local macro_rules | `(#[$n:num,$s:term,$i:ident])=>`(@jw _ _ ($n) _ $s rfl (Or.inl $i) (by first | exact .inl rfl | exact .inr rfl | assumption)) | `(#[$n:num,(),()])=>`(@jw _ _ ($n) _ (@u6 _ (by kernel_rfl)) rfl (Or.inl (by kernel_rfl)) (by first | exact .inl rfl | exact .inr rfl | assumption))
local macro_rules | `(#[(),(),$a,$b,$c,$d,$e])=>`(@jS _ _ _ _ _ _ _ _ _ $a $b $c $d $e (by decide) (by decide) (by rfl) (by rfl))
local macro_rules | `(#[$a :: $b])=>`(@gG _ _ _ _ _ $a $b)
local macro_rules | `(#[$f:ident $n:num $a*])=>do
 let us ←(Array.range n.getNat).mapM fun _=>`(_)
 `(@$f $us* $a*)
local macro_rules | `(#[($f:ident)])=>`($f ($(Lean.mkIdent `P):ident:=$(Lean.mkIdent `P)) ($(Lean.mkIdent `w):ident:=$(Lean.mkIdent `w)) ($(Lean.mkIdent `base):ident:=$(Lean.mkIdent `base)) $(Lean.mkIdent `T))
namespace K37
open PySem L2
def bO (i:Nat):Stmt:=PySem.Challenge.pw_gainroads_k37_deeds_of_roads.main.body.getD i (.Pass ⟨0,0,0,0⟩)
abbrev pC:Stmt:=bO 16
abbrev oy:Stmt:=bO 17
abbrev bV:Stmt:=bO 18
abbrev hR:Stmt:=bO 19
abbrev bR:Stmt:=bO 20
abbrev fB:Stmt:=bO 21
abbrev gA:Stmt:=bO 22
abbrev fv:Stmt:=bO 23
abbrev bz:Stmt:=bO 24
abbrev jR:Stmt:=bO 25
abbrev bo:Stmt:=bO 26
abbrev mE:Stmt:=bO 27
abbrev hU:Stmt:=bO 28
abbrev ci:Stmt:=bO 29
abbrev cg:Stmt:=bO 30
abbrev fK:Stmt:=bO 31
abbrev jt:Stmt:=bO 32
abbrev bY:Stmt:=bO 33
abbrev bZ:Stmt:=bO 34
abbrev d6:Stmt:=bO 35
abbrev bI:Stmt:=bO 36
abbrev ki:Stmt:=cY (bO 8) 0
abbrev jm:Stmt:=cY (bO 9) 0
abbrev dJ:Stmt:=cY (bO 14) 0
abbrev bc:Stmt:=cY (bO 14) 1
abbrev aK:Stmt:=cY (bO 14) 2
abbrev dy:Stmt:=bO 12
abbrev b6:Stmt:=cY (bO 14) 4
abbrev b7:Stmt:=cY (bO 14) 5
abbrev bU:Stmt:=cY (bO 14) 6
abbrev et:Stmt:=cY (bO 14) 8
abbrev df:Stmt:=cY (bO 14) 9
abbrev ba:Stmt:=cY (bO 14) 10
abbrev gr:Stmt:=cY (bO 14) 11
abbrev bM:Stmt:=cY (bO 14) 12
abbrev iu:Stmt:=bO 11
abbrev gx:Stmt:=cY (bO 14) 13
abbrev bQ:Stmt:=cY (bO 14) 14
abbrev dB:Stmt:=bO 13
abbrev dQ:Stmt:=cY (bO 14) 15
abbrev aQ:Stmt:=cY (bO 14) 3
abbrev aP:Stmt:=cY (bO 14) 7
theorem oH:ay ["_law_script", "_law_k", "_law_cell"] ["_law_script", "_law_k"] (ah pC):=⟨rfl,rfl,rfl,by nofun,rfl,by nofun,by nofun⟩
theorem mI:ay ["_law_box_here", "_law_many", "_law_found", "_law_once"] ["_law_box_here", "_law_many"] (ah oy):=⟨rfl,rfl,rfl,by nofun,rfl,by nofun,by nofun⟩
theorem jo:ay ["_law_script", "_law_cap", "_law_found", "_law_k", "_law_cell"] ["_law_script", "_law_cap"] (ah bV):=⟨rfl,rfl,rfl,by nofun,rfl,by nofun,by nofun⟩
theorem nq:ay ["_law_top", "_law_bottom", "_law_one", "_law_other", "_law_by"] ["_law_top", "_law_bottom"] (ah hR):=⟨rfl,rfl,rfl,by nofun,rfl,by nofun,by nofun⟩
theorem dX:ay ["_law_box_here", "_law_many", "_law_letters", "_law_found", "_law_first", "_law_alike", "_law_k", "_law_rest"] ["_law_box_here", "_law_many"] (ah bR):=⟨rfl,rfl,rfl,by nofun,rfl,by nofun,by nofun⟩
theorem mO:ay ["_law_box_here", "_law_way", "_law_most_of"] ["_law_box_here"] (ah fB):=⟨rfl,rfl,rfl,by nofun,rfl,by nofun,by nofun⟩
theorem qq:ay ["_law_box_here", "_law_way"] ["_law_box_here"] (ah gA):=⟨rfl,rfl,rfl,by nofun,rfl,by nofun,by nofun⟩
theorem qb:ay ["_law_box_here", "_law_way"] ["_law_box_here"] (ah fv):=⟨rfl,rfl,rfl,by nofun,rfl,by nofun,by nofun⟩
theorem gP:ay ["_law_box_here", "_law_names_here", "_law_many", "_law_settled", "_law_way", "_law_one", "_law_other", "_law_number", "_law_below", "_law_parts"] ["_law_box_here", "_law_names_here", "_law_many", "_law_settled"] (ah bz):=⟨rfl,rfl,rfl,by nofun,rfl,by nofun,by nofun⟩
theorem tU:ay ["_law_roads", "_law_deed_here", "_law_word", "_law_some"] ["_law_roads", "_law_deed_here"] (ah jR):=⟨rfl,rfl,rfl,by nofun,rfl,by nofun,by nofun⟩
theorem dW:ay ["_law_roads", "_law_deed_here", "_law_caught", "_law_found", "error", "_law_kinds"] ["_law_roads", "_law_deed_here"] (ah bo):=⟨rfl,rfl,rfl,by nofun,rfl,by nofun,by nofun⟩
theorem uj:ay [] [] (ah mE):=⟨rfl,rfl,rfl,by nofun,rfl,by nofun,by nofun⟩
theorem sY:ay ["_law_own"] ["_law_own"] (ah hU):=⟨rfl,rfl,rfl,by nofun,rfl,by nofun,by nofun⟩
theorem jU:ay ["_law_own", "_law_deed_here", "_law_word", "_law_some", "_law_there"] ["_law_own", "_law_deed_here"] (ah ci):=⟨rfl,rfl,rfl,by nofun,rfl,by nofun,by nofun⟩
theorem mG:ay ["_law_own", "_law_deed_here", "_law_word", "_law_some", "_law_refused_here", "_law_at", "_law_row"] ["_law_own", "_law_deed_here"] (ah cg):=⟨rfl,rfl,rfl,by nofun,rfl,by nofun,by nofun⟩
theorem lw:ay ["_law_own", "_law_ties", "_law_number", "_law_row"] ["_law_own"] (ah fK):=⟨rfl,rfl,rfl,by nofun,rfl,by nofun,by nofun⟩
theorem xl:ay ["_law_own", "_law_deed_here"] ["_law_own", "_law_deed_here"] (ah jt):=⟨rfl,rfl,rfl,by nofun,rfl,by nofun,by nofun⟩
theorem qC:ay ["_law_found", "_law_due"] ["_law_found", "_law_due"] (ah bY):=⟨rfl,rfl,rfl,by nofun,rfl,by nofun,by nofun⟩
theorem kR:ay ["_law_roads", "_law_own", "_law_told", "_law_number"] ["_law_roads", "_law_own"] (ah bZ):=⟨rfl,rfl,rfl,by nofun,rfl,by nofun,by nofun⟩
theorem kF:ay ["_law_roads", "_law_number", "_law_caught"] ["_law_roads", "_law_number"] (ah d6):=⟨rfl,rfl,rfl,by nofun,rfl,by nofun,by nofun⟩
theorem iT:ay ["_law_script", "_law_box_here", "_law_roads", "_law_own", "_law_names_here", "_law_turn", "_law_deed_here", "_law_many"] ["_law_script"] (ah bI):=⟨rfl,rfl,rfl,by nofun,rfl,by nofun,by nofun⟩
theorem mY:ay ["self"] ["self"] (ah dJ):=⟨rfl,rfl,rfl,by nofun,rfl,by nofun,by nofun⟩
theorem cc:ay ["self", "name", "places", "ties", "shuts", "ends"] ["self", "name"] (ah bc):=⟨rfl,rfl,rfl,by nofun,rfl,by nofun,by nofun⟩
theorem cF:ay ["self", "begin", "end", "most", "gain", "price", "places", "ties", "shuts", "ends"] ["self", "begin", "end", "most", "gain", "price"] (ah aK):=⟨rfl,rfl,rfl,by nofun,rfl,by nofun,by nofun⟩
theorem sd:ay ["places", "begin", "end"] ["places", "begin", "end"] (ah dy):=⟨rfl,rfl,rfl,by nofun,rfl,by nofun,by nofun⟩
theorem mL:ay ["self", "number", "most"] ["self", "number", "most"] (ah b6):=⟨rfl,rfl,rfl,by nofun,rfl,by nofun,by nofun⟩
theorem mS:ay ["self", "number", "gain"] ["self", "number", "gain"] (ah b7):=⟨rfl,rfl,rfl,by nofun,rfl,by nofun,by nofun⟩
theorem l0:ay ["self", "number", "price"] ["self", "number", "price"] (ah bU):=⟨rfl,rfl,rfl,by nofun,rfl,by nofun,by nofun⟩
theorem pL:ay ["self", "number"] ["self", "number"] (ah et):=⟨rfl,rfl,rfl,by nofun,rfl,by nofun,by nofun⟩
theorem oz:ay ["self", "number"] ["self", "number"] (ah df):=⟨rfl,rfl,rfl,by nofun,rfl,by nofun,by nofun⟩
theorem cn:ay ["self", "begin", "end", "places", "ties", "shuts", "ends"] ["self", "begin", "end"] (ah ba):=⟨rfl,rfl,rfl,by nofun,rfl,by nofun,by nofun⟩
theorem pV:ay ["self"] ["self"] (ah gr):=⟨rfl,rfl,rfl,by nofun,rfl,by nofun,by nofun⟩
theorem eh:ay ["self", "places", "ties", "shuts", "ends"] ["self"] (ah bM):=⟨rfl,rfl,rfl,by nofun,rfl,by nofun,by nofun⟩
theorem vz:ay ["parts", "at", "part"] ["parts", "at", "part"] (ah iu):=⟨rfl,rfl,rfl,by nofun,rfl,by nofun,by nofun⟩
theorem pT:ay ["self"] ["self"] (ah gx):=⟨rfl,rfl,rfl,by nofun,rfl,by nofun,by nofun⟩
theorem jk:ay ["self", "number", "shuts"] ["self", "number"] (ah bQ):=⟨rfl,rfl,rfl,by nofun,rfl,by nofun,by nofun⟩
theorem sB:ay ["ties", "number"] ["ties", "number"] (ah dB):=⟨rfl,rfl,rfl,by nofun,rfl,by nofun,by nofun⟩
theorem pi:ay ["self"] ["self"] (ah dQ):=⟨rfl,rfl,rfl,by nofun,rfl,by nofun,by nofun⟩
theorem cp:ay ["self", "number", "at", "part", "places", "ties", "shuts", "ends"] ["self", "number", "at", "part"] (ah aQ):=⟨rfl,rfl,rfl,by nofun,rfl,by nofun,by nofun⟩
theorem cx:ay ["self", "number", "whether", "places", "ties", "shuts", "ends"] ["self", "number", "whether"] (ah aP):=⟨rfl,rfl,rfl,by nofun,rfl,by nofun,by nofun⟩
end K37
namespace K37
open PySem L2
set_option genInjectivity false in
set_option genSizeOf false in
structure Df (K:PySem.W.Frag) (mg:Str→Option Value) (x:Str) (st:Stmt) (ps:List Str) where
 f:Addr
 d:FuncData
 m:mg x=some (.ref f)
 F:dN K x x st f d
 B:bq K d ps []
set_option genInjectivity false in
set_option genSizeOf false in
structure Txt (K:PySem.W.Frag) (mg:Str→Option Value) where
 b_ValueError:mg "ValueError" = none
 b_abs:mg "abs" = none
 b_all:mg "all" = none
 b_bool:mg "bool" = none
 b_divmod:mg "divmod" = none
 b_enumerate:mg "enumerate" = none
 b_int:mg "int" = none
 b_isinstance:mg "isinstance" = none
 b_len:mg "len" = none
 b_list:mg "list" = none
 b_max:mg "max" = none
 b_range:mg "range" = none
 b_str:mg "str" = none
 b_tuple:mg "tuple" = none
 b_zip:mg "zip" = none
 l_box_:Df K mg "_law_box" pC ["_law_script", "_law_k"]
 l_take_:Df K mg "_law_take" oy ["_law_box_here", "_law_many"]
 l_boxes_:Df K mg "_law_boxes" bV ["_law_script", "_law_cap"]
 l_fr_:Df K mg "_law_fr" hR ["_law_top", "_law_bottom"]
 l_names_:Df K mg "_law_names" bR ["_law_box_here", "_law_many"]
 l_gain_:Df K mg "_law_gain" fB ["_law_box_here"]
 l_much_:Df K mg "_law_much" gA ["_law_box_here"]
 l_cost_:Df K mg "_law_cost" fv ["_law_box_here"]
 l_deed_:Df K mg "_law_deed" bz ["_law_box_here", "_law_names_here", "_law_many", "_law_settled"]
 l_do_:Df K mg "_law_do" jR ["_law_roads", "_law_deed_here"]
 l_done_:Df K mg "_law_done" bo ["_law_roads", "_law_deed_here"]
 l_begin_:Df K mg "_law_begin" mE []
 l_copied_:Df K mg "_law_copied" hU ["_law_own"]
 l_refused_:Df K mg "_law_refused" ci ["_law_own", "_law_deed_here"]
 l_step_:Df K mg "_law_step" cg ["_law_own", "_law_deed_here"]
 l_net_:Df K mg "_law_net" fK ["_law_own"]
 l_may_:Df K mg "_law_may" jt ["_law_own", "_law_deed_here"]
 l_same_:Df K mg "_law_same" bY ["_law_found", "_law_due"]
 l_stands_:Df K mg "_law_stands" bZ ["_law_roads", "_law_own"]
 l_no_tie_:Df K mg "_law_no_tie" d6 ["_law_roads", "_law_number"]
 law_:Df K mg "law" bI ["_law_script"]
 f_Gaining__init:Addr
 d_Gaining__init:FuncData
 F_Gaining__init:dN K "__init__" "Gaining.__init__" ki f_Gaining__init d_Gaining__init
 B_Gaining__init:bq K d_Gaining__init ["self", "ties"] []
 f_NotSoMuch__init:Addr
 d_NotSoMuch__init:FuncData
 F_NotSoMuch__init:dN K "__init__" "NotSoMuch.__init__" jm f_NotSoMuch__init d_NotSoMuch__init
 B_NotSoMuch__init:bq K d_NotSoMuch__init ["self", "most"] []
 f_Roads____init__:Addr
 d_Roads____init__:FuncData
 F_Roads____init__:dN K "__init__" "Roads.__init__" dJ f_Roads____init__ d_Roads____init__
 B_Roads____init__:bq K d_Roads____init__ ["self"] []
 f_Roads__add_place:Addr
 d_Roads__add_place:FuncData
 F_Roads__add_place:dN K "add_place" "Roads.add_place" bc f_Roads__add_place d_Roads__add_place
 B_Roads__add_place:bq K d_Roads__add_place ["self", "name"] []
 f_Roads__add_tie:Addr
 d_Roads__add_tie:FuncData
 F_Roads__add_tie:dN K "add_tie" "Roads.add_tie" aK f_Roads__add_tie d_Roads__add_tie
 B_Roads__add_tie:bq K d_Roads__add_tie ["self", "begin", "end", "most", "gain", "price"] []
 check_two_:Df K mg "check_two" dy ["places", "begin", "end"]
 f_Roads__set_most:Addr
 d_Roads__set_most:FuncData
 F_Roads__set_most:dN K "set_most" "Roads.set_most" b6 f_Roads__set_most d_Roads__set_most
 B_Roads__set_most:bq K d_Roads__set_most ["self", "number", "most"] []
 f_Roads__set_gain:Addr
 d_Roads__set_gain:FuncData
 F_Roads__set_gain:dN K "set_gain" "Roads.set_gain" b7 f_Roads__set_gain d_Roads__set_gain
 B_Roads__set_gain:bq K d_Roads__set_gain ["self", "number", "gain"] []
 f_Roads__set_price:Addr
 d_Roads__set_price:FuncData
 F_Roads__set_price:dN K "set_price" "Roads.set_price" bU f_Roads__set_price d_Roads__set_price
 B_Roads__set_price:bq K d_Roads__set_price ["self", "number", "price"] []
 f_Roads__shut:Addr
 d_Roads__shut:FuncData
 F_Roads__shut:dN K "shut" "Roads.shut" et f_Roads__shut d_Roads__shut
 B_Roads__shut:bq K d_Roads__shut ["self", "number"] []
 f_Roads__reopen:Addr
 d_Roads__reopen:FuncData
 F_Roads__reopen:dN K "reopen" "Roads.reopen" df f_Roads__reopen d_Roads__reopen
 B_Roads__reopen:bq K d_Roads__reopen ["self", "number"] []
 f_Roads__set_ends:Addr
 d_Roads__set_ends:FuncData
 F_Roads__set_ends:dN K "set_ends" "Roads.set_ends" ba f_Roads__set_ends d_Roads__set_ends
 B_Roads__set_ends:bq K d_Roads__set_ends ["self", "begin", "end"] []
 f_Roads__back:Addr
 d_Roads__back:FuncData
 F_Roads__back:dN K "back" "Roads.back" gr f_Roads__back d_Roads__back
 B_Roads__back:bq K d_Roads__back ["self"] []
 f_Roads__net:Addr
 d_Roads__net:FuncData
 F_Roads__net:dN K "net" "Roads.net" bM f_Roads__net d_Roads__net
 B_Roads__net:bq K d_Roads__net ["self"] []
 put_at_:Df K mg "put_at" iu ["parts", "at", "part"]
 f_Roads__ends:Addr
 d_Roads__ends:FuncData
 F_Roads__ends:dN K "ends" "Roads.ends" gx f_Roads__ends d_Roads__ends
 B_Roads__ends:bq K d_Roads__ends ["self"] []
 f_Roads__is_shut:Addr
 d_Roads__is_shut:FuncData
 F_Roads__is_shut:dN K "is_shut" "Roads.is_shut" bQ f_Roads__is_shut d_Roads__is_shut
 B_Roads__is_shut:bq K d_Roads__is_shut ["self", "number"] []
 check_tie_:Df K mg "check_tie" dB ["ties", "number"]
 f_Roads__deeds:Addr
 d_Roads__deeds:FuncData
 F_Roads__deeds:dN K "deeds" "Roads.deeds" dQ f_Roads__deeds d_Roads__deeds
 B_Roads__deeds:bq K d_Roads__deeds ["self"] []
 f_Roads__set_part:Addr
 d_Roads__set_part:FuncData
 F_Roads__set_part:dN K "set_part" "Roads.set_part" aQ f_Roads__set_part d_Roads__set_part
 B_Roads__set_part:bq K d_Roads__set_part ["self", "number", "at", "part"] []
 f_Roads__set_shut:Addr
 d_Roads__set_shut:FuncData
 F_Roads__set_shut:dN K "set_shut" "Roads.set_shut" aP f_Roads__set_shut d_Roads__set_shut
 B_Roads__set_shut:bq K d_Roads__set_shut ["self", "number", "whether"] []
 x_GainError:Addr
 m_GainError:mg "GainError" = some (.ref x_GainError)
 k_GainError:PySem.W.keepIn K (.ref x_GainError)=true
 xb_GainError:zG K x_GainError=true
 x_Taken:Addr
 m_Taken:mg "Taken" = some (.ref x_Taken)
 k_Taken:PySem.W.keepIn K (.ref x_Taken)=true
 q_Taken:dq K x_Taken (none)=true
 x_NoPlace:Addr
 m_NoPlace:mg "NoPlace" = some (.ref x_NoPlace)
 k_NoPlace:PySem.W.keepIn K (.ref x_NoPlace)=true
 q_NoPlace:dq K x_NoPlace (none)=true
 x_NoTie:Addr
 m_NoTie:mg "NoTie" = some (.ref x_NoTie)
 k_NoTie:PySem.W.keepIn K (.ref x_NoTie)=true
 q_NoTie:dq K x_NoTie (none)=true
 x_AsItIs:Addr
 m_AsItIs:mg "AsItIs" = some (.ref x_AsItIs)
 k_AsItIs:PySem.W.keepIn K (.ref x_AsItIs)=true
 q_AsItIs:dq K x_AsItIs (none)=true
 x_NoEnds:Addr
 m_NoEnds:mg "NoEnds" = some (.ref x_NoEnds)
 k_NoEnds:PySem.W.keepIn K (.ref x_NoEnds)=true
 q_NoEnds:dq K x_NoEnds (none)=true
 x_Gaining:Addr
 m_Gaining:mg "Gaining" = some (.ref x_Gaining)
 k_Gaining:PySem.W.keepIn K (.ref x_Gaining)=true
 fn_Gaining:PySem.W.isFn K (.ref f_Gaining__init)=true
 st_Gaining:ua K x_Gaining "ties" = true
 fd_Gaining:uz K x_Gaining "ties" = true
 q_Gaining:dq K x_Gaining (some (.ref f_Gaining__init))=true
 x_NotSoMuch:Addr
 m_NotSoMuch:mg "NotSoMuch" = some (.ref x_NotSoMuch)
 k_NotSoMuch:PySem.W.keepIn K (.ref x_NotSoMuch)=true
 fn_NotSoMuch:PySem.W.isFn K (.ref f_NotSoMuch__init)=true
 st_NotSoMuch:ua K x_NotSoMuch "most" = true
 fd_NotSoMuch:uz K x_NotSoMuch "most" = true
 q_NotSoMuch:dq K x_NotSoMuch (some (.ref f_NotSoMuch__init))=true
 x_Roads:Addr
 m_Roads:mg "Roads" = some (.ref x_Roads)
 c_Roads:k4 K x_Roads
 mk_Roads:Mk K x_Roads f_Roads____init__
 h_Roads__add_place:dO K x_Roads "add_place" f_Roads__add_place
 h_Roads__add_tie:dO K x_Roads "add_tie" f_Roads__add_tie
 h_Roads__set_most:dO K x_Roads "set_most" f_Roads__set_most
 h_Roads__set_gain:dO K x_Roads "set_gain" f_Roads__set_gain
 h_Roads__set_price:dO K x_Roads "set_price" f_Roads__set_price
 h_Roads__shut:dO K x_Roads "shut" f_Roads__shut
 h_Roads__reopen:dO K x_Roads "reopen" f_Roads__reopen
 h_Roads__set_ends:dO K x_Roads "set_ends" f_Roads__set_ends
 h_Roads__back:dO K x_Roads "back" f_Roads__back
 h_Roads__net:dO K x_Roads "net" f_Roads__net
 h_Roads__ends:dO K x_Roads "ends" f_Roads__ends
 h_Roads__is_shut:dO K x_Roads "is_shut" f_Roads__is_shut
 h_Roads__deeds:dO K x_Roads "deeds" f_Roads__deeds
 h_Roads__set_part:dO K x_Roads "set_part" f_Roads__set_part
 h_Roads__set_shut:dO K x_Roads "set_shut" f_Roads__set_shut
 n_Roads_states:ke K x_Roads "states"
 em_Taken_GainError:PySem.W.exmOne K (.ref x_Taken) (.ref x_GainError)=some true
 em_NoPlace_GainError:PySem.W.exmOne K (.ref x_NoPlace) (.ref x_GainError)=some true
 em_NoTie_GainError:PySem.W.exmOne K (.ref x_NoTie) (.ref x_GainError)=some true
 em_AsItIs_GainError:PySem.W.exmOne K (.ref x_AsItIs) (.ref x_GainError)=some true
 em_NoTie_NoTie:PySem.W.exmOne K (.ref x_NoTie) (.ref x_NoTie)=some true
 kin:lu K [x_Taken,x_NoPlace,x_NoTie,x_AsItIs,x_NoEnds,x_Gaining,x_NotSoMuch] x_GainError=true
end K37
namespace K37
open PySem L2
abbrev ae (s:Stmt) (x:Str):Prop:=(ah s).names.lookup x=some NameKind.local
abbrev pQ (s:Stmt) (x:Str):Prop:=(ah s).names.lookup x=some NameKind.cell
abbrev av (s:Stmt) (x:Str):Prop:=(ah s).names.lookup x=some NameKind.globalImplicit
theorem iL:ae bV "_law_script" := by nofun
theorem eY:ae bV "_law_cap" := by nofun
theorem dL:pQ bV "_law_found" := by nofun
theorem gv:ae bV "_law_k" := by nofun
theorem jX:ae bV "_law_cell" := by nofun
theorem pN:av bV "list" := by nofun
theorem lZ:av bV "enumerate" := by nofun
theorem pj:av bV "range" := by nofun
theorem qL:av bV "max" := by nofun
theorem qK:av bV "len" := by nofun
theorem mF:ae hR "_law_top" := by nofun
theorem gX:ae hR "_law_bottom" := by nofun
theorem eZ:ae hR "_law_one" := by nofun
theorem dP:ae hR "_law_other" := by nofun
theorem kr:ae hR "_law_by" := by nofun
theorem oX:av hR "abs" := by nofun
theorem d0:pQ bR "_law_box_here" := by nofun
theorem gE:pQ bR "_law_many" := by nofun
theorem ii:pQ bR "_law_letters" := by nofun
theorem gc:ae bR "_law_found" := by nofun
theorem jf:pQ bR "_law_first" := by nofun
theorem jj:ae bR "_law_alike" := by nofun
theorem lT:ae bR "_law_k" := by nofun
theorem ka:ae bR "_law_rest" := by nofun
theorem gB:av bR "_law_take" := by nofun
theorem g9:av bR "range" := by nofun
theorem eO:ae fB "_law_box_here" := by nofun
theorem iH:ae fB "_law_way" := by nofun
theorem fA:ae fB "_law_most_of" := by nofun
theorem hV:av fB "_law_take" := by nofun
theorem qS:av fB "_law_fr" := by nofun
theorem eS:ae gA "_law_box_here" := by nofun
theorem fN:ae gA "_law_way" := by nofun
theorem gU:av gA "_law_take" := by nofun
theorem qM:av gA "_law_fr" := by nofun
theorem eM:ae fv "_law_box_here" := by nofun
theorem iA:ae fv "_law_way" := by nofun
theorem hJ:av fv "_law_take" := by nofun
theorem qI:av fv "_law_fr" := by nofun
theorem rY:av fv "int" := by nofun
theorem aW:ae bz "_law_box_here" := by nofun
theorem cC:ae bz "_law_names_here" := by nofun
theorem o4:ae bz "_law_many" := by nofun
theorem mw:ae bz "_law_settled" := by nofun
theorem bF:ae bz "_law_way" := by nofun
theorem fQ:ae bz "_law_one" := by nofun
theorem gD:ae bz "_law_other" := by nofun
theorem b4:ae bz "_law_number" := by nofun
theorem jL:ae bz "_law_below" := by nofun
theorem jZ:ae bz "_law_parts" := by nofun
theorem dg:av bz "_law_take" := by nofun
theorem mv:av bz "len" := by nofun
theorem kh:av bz "_law_much" := by nofun
theorem km:av bz "_law_gain" := by nofun
theorem ko:av bz "_law_cost" := by nofun
theorem bG:ae jR "_law_roads" := by nofun
theorem iX:ae jR "_law_deed_here" := by nofun
theorem bN:ae jR "_law_word" := by nofun
theorem aR:ae jR "_law_some" := by nofun
theorem oN:ae bo "_law_roads" := by nofun
theorem lx:ae bo "_law_deed_here" := by nofun
theorem bj:ae bo "_law_caught" := by nofun
theorem gF:ae bo "_law_found" := by nofun
theorem li:ae bo "error" := by nofun
theorem cL:ae bo "_law_kinds" := by nofun
theorem qY:av bo "_law_do" := by nofun
theorem mW:av bo "GainError" := by nofun
theorem bK:av bo "isinstance" := by nofun
theorem pK:av bo "Taken" := by nofun
theorem oI:av bo "NoPlace" := by nofun
theorem pS:av bo "NoTie" := by nofun
theorem oU:av bo "AsItIs" := by nofun
theorem pc:av bo "NoEnds" := by nofun
theorem mH:av bo "NotSoMuch" := by nofun
theorem oF:av bo "Gaining" := by nofun
theorem lW:av bo "ValueError" := by nofun
theorem d7:ae hU "_law_own" := by nofun
theorem gY:av hU "list" := by nofun
theorem cG:ae ci "_law_own" := by nofun
theorem fX:ae ci "_law_deed_here" := by nofun
theorem bT:ae ci "_law_word" := by nofun
theorem bu:ae ci "_law_some" := by nofun
theorem ib:ae ci "_law_there" := by nofun
theorem oY:av ci "len" := by nofun
theorem aZ:ae cg "_law_own" := by nofun
theorem dZ:ae cg "_law_deed_here" := by nofun
theorem bJ:ae cg "_law_word" := by nofun
theorem bA:ae cg "_law_some" := by nofun
theorem c9:ae cg "_law_refused_here" := by nofun
theorem je:ae cg "_law_at" := by nofun
theorem iG:ae cg "_law_row" := by nofun
theorem mf:av cg "_law_refused" := by nofun
theorem nK:av cg "_law_copied" := by nofun
theorem rX:av cg "len" := by nofun
theorem i9:ae fK "_law_own" := by nofun
theorem iE:ae fK "_law_ties" := by nofun
theorem jJ:ae fK "_law_number" := by nofun
theorem gw:ae fK "_law_row" := by nofun
theorem nM:av fK "enumerate" := by nofun
theorem lR:av fK "tuple" := by nofun
theorem lV:ae jt "_law_own" := by nofun
theorem ie:ae jt "_law_deed_here" := by nofun
theorem nR:av jt "len" := by nofun
theorem bv:ae bY "_law_found" := by nofun
theorem bp:ae bY "_law_due" := by nofun
theorem aV:av bY "isinstance" := by nofun
theorem i8:av bY "list" := by nofun
theorem io:av bY "tuple" := by nofun
theorem l8:av bY "len" := by nofun
theorem sg:av bY "all" := by nofun
theorem si:av bY "zip" := by nofun
theorem j8:av bY "str" := by nofun
theorem sj:av bY "int" := by nofun
theorem lU:av bY "bool" := by nofun
theorem dm:ae bZ "_law_roads" := by nofun
theorem cU:ae bZ "_law_own" := by nofun
theorem ji:ae bZ "_law_told" := by nofun
theorem eL:ae bZ "_law_number" := by nofun
theorem jl:av bZ "_law_same" := by nofun
theorem oE:av bZ "_law_net" := by nofun
theorem k8:av bZ "len" := by nofun
theorem oq:av bZ "range" := by nofun
theorem mj:ae d6 "_law_roads" := by nofun
theorem lY:ae d6 "_law_number" := by nofun
theorem eR:ae d6 "_law_caught" := by nofun
theorem oM:av d6 "NoTie" := by nofun
theorem pR:ae bI "_law_script" := by nofun
theorem cT:ae bI "_law_box_here" := by nofun
theorem jb:pQ bI "_law_roads" := by nofun
theorem eJ:ae bI "_law_own" := by nofun
theorem i4:ae bI "_law_names_here" := by nofun
theorem l9:ae bI "_law_turn" := by nofun
theorem dH:ae bI "_law_deed_here" := by nofun
theorem fI:ae bI "_law_many" := by nofun
theorem qU:av bI "_law_boxes" := by nofun
theorem sX:av bI "Roads" := by nofun
theorem qT:av bI "_law_begin" := by nofun
theorem qO:av bI "_law_names" := by nofun
theorem mz:av bI "_law_take" := by nofun
theorem sW:av bI "range" := by nofun
theorem rW:av bI "_law_deed" := by nofun
theorem qa:av bI "len" := by nofun
theorem sT:av bI "_law_may" := by nofun
theorem sK:av bI "_law_same" := by nofun
theorem rA:av bI "_law_done" := by nofun
theorem sC:av bI "_law_step" := by nofun
theorem pO:av bI "_law_stands" := by nofun
theorem vi:av bI "all" := by nofun
theorem kQ:ae dJ "self" := by nofun
theorem fU:ae bc "self" := by nofun
theorem fS:ae bc "name" := by nofun
theorem cH:ae bc "places" := by nofun
theorem fT:ae bc "ties" := by nofun
theorem fe:ae bc "shuts" := by nofun
theorem fY:ae bc "ends" := by nofun
theorem jE:av bc "Taken" := by nofun
theorem gM:ae aK "self" := by nofun
theorem gj:ae aK "begin" := by nofun
theorem gS:ae aK "end" := by nofun
theorem kY:ae aK "most" := by nofun
theorem kS:ae aK "gain" := by nofun
theorem kK:ae aK "price" := by nofun
theorem c8:ae aK "places" := by nofun
theorem dR:ae aK "ties" := by nofun
theorem gp:ae aK "shuts" := by nofun
theorem gK:ae aK "ends" := by nofun
theorem i5:av aK "check_two" := by nofun
theorem lM:av aK "len" := by nofun
theorem iW:ae dy "places" := by nofun
theorem jh:ae dy "begin" := by nofun
theorem kq:ae dy "end" := by nofun
theorem hW:av dy "NoPlace" := by nofun
theorem kz:ae b6 "self" := by nofun
theorem jN:ae b6 "number" := by nofun
theorem kD:ae b6 "most" := by nofun
theorem kM:ae b7 "self" := by nofun
theorem jB:ae b7 "number" := by nofun
theorem kB:ae b7 "gain" := by nofun
theorem kf:ae bU "self" := by nofun
theorem jp:ae bU "number" := by nofun
theorem jM:ae bU "price" := by nofun
theorem mX:ae et "self" := by nofun
theorem lO:ae et "number" := by nofun
theorem lH:ae df "self" := by nofun
theorem kJ:ae df "number" := by nofun
theorem gh:ae ba "self" := by nofun
theorem f6:ae ba "begin" := by nofun
theorem gN:ae ba "end" := by nofun
theorem cQ:ae ba "places" := by nofun
theorem gi:ae ba "ties" := by nofun
theorem fW:ae ba "shuts" := by nofun
theorem kE:ae ba "ends" := by nofun
theorem iV:av ba "check_two" := by nofun
theorem i3:ae gr "self" := by nofun
theorem nP:ae bM "self" := by nofun
theorem ik:ae bM "places" := by nofun
theorem jg:ae bM "ties" := by nofun
theorem iN:ae bM "shuts" := by nofun
theorem nO:ae bM "ends" := by nofun
theorem mo:av bM "tuple" := by nofun
theorem om:av bM "zip" := by nofun
theorem lq:ae iu "parts" := by nofun
theorem oa:ae iu "at" := by nofun
theorem qX:ae iu "part" := by nofun
theorem l7:ae gx "self" := by nofun
theorem k6:ae bQ "self" := by nofun
theorem fZ:ae bQ "number" := by nofun
theorem dF:ae bQ "shuts" := by nofun
theorem i6:av bQ "check_tie" := by nofun
theorem oh:ae dB "ties" := by nofun
theorem mR:ae dB "number" := by nofun
theorem pb:av dB "len" := by nofun
theorem nN:av dB "NoTie" := by nofun
theorem lX:ae dQ "self" := by nofun
theorem mV:av dQ "len" := by nofun
theorem gf:ae aQ "self" := by nofun
theorem cS:ae aQ "number" := by nofun
theorem lE:ae aQ "at" := by nofun
theorem kL:ae aQ "part" := by nofun
theorem fk:ae aQ "places" := by nofun
theorem cm:ae aQ "ties" := by nofun
theorem fV:ae aQ "shuts" := by nofun
theorem gg:ae aQ "ends" := by nofun
theorem iR:av aQ "check_tie" := by nofun
theorem fb:av aQ "put_at" := by nofun
theorem gq:ae aP "self" := by nofun
theorem cN:ae aP "number" := by nofun
theorem eX:ae aP "whether" := by nofun
theorem fH:ae aP "places" := by nofun
theorem dE:ae aP "ties" := by nofun
theorem da:ae aP "shuts" := by nofun
theorem gl:ae aP "ends" := by nofun
theorem iY:av aP "check_tie" := by nofun
theorem jV:av aP "AsItIs" := by nofun
theorem jG:av aP "put_at" := by nofun
end K37
namespace L2
open PySem PySem.Spec PySem.Calls PyProof.Rows
def topRunT (tb:String→Option Builtin) (p:Program) (w:World) (n₀:Nat) (ann:Option Value):Nat→PySem.W.SharedT→Thread→Option PySem.W.SharedT
 | 0,_,_=>none
 | n+1,s,t=>match PySem.W.through t with
  | true=>some s
  | false=>match PySem.W.stepOk n₀ ann t with
   | false=>none
   | true=>match PySem.W.stepT (denote tb) p w s t with
    | some (s',t')=>topRunT tb p w n₀ ann n s' t'
    | none=>none
theorem pZ {tb:String→Option Builtin}{p:Program}{w:World}{n₀:Nat}{ann:Option Value}:∀{n:Nat}{s s':PySem.W.SharedT}{t:Thread},topRunT tb p w n₀ ann n s t=some s'→PySem.W.topRun tb p w n₀ ann n s.abs t=some s'.abs
 | 0,_,_,_,h=>by cases h
 | n+1,s,s',t,h=>by
  unfold topRunT at h
  unfold PySem.W.topRun
  cases he:PySem.W.through t with
  | true=>rw [he] at h;cases h;rfl
  | false=>
   rw [he] at h
   cases hk:PySem.W.stepOk n₀ ann t with
   | false=>rw [hk] at h;cases h
   | true=>
    rw [hk] at h
    cases hs:PySem.W.stepT (denote tb) p w s t with
    | none=>rw [hs] at h;cases h
    | some r=>obtain ⟨s₂,t₂⟩:=r;rw [hs] at h;rw [PySem.W.stepT_spec hs];exact pZ h
open PySem.W in
noncomputable def Cj (P:Params):BT:=.node (boot_o_0 P) (.node (boot_o_1 P) (.node (boot_o_3 P) (.node (boot_o_7 P) .nil .nil) .nil) (.node (boot_o_5 P) (.node (boot_o_9 P) .nil .nil) .nil)) (.node (boot_o_2 P) (.node (boot_o_4 P) (.node (boot_o_8 P) .nil .nil) .nil) (.node (boot_o_6 P) (.node (boot_o_10 P) .nil .nil) .nil))
noncomputable def bootS (w:World) (os:OsState):PySem.W.SharedT:=⟨Cj w.params,11,{},#[],PySem.W.boot_drawn,PySem.W.boot_toks,os⟩
theorem vG (w:World):((PySem.W.boot_heap w.params).isNs mainGlobals,(PySem.W.boot_heap w.params).objs.size,(PySem.W.boot_heap w.params).nsMap mainGlobals "__annotations__")=(true,11,some (.ref 6)):=by kernel_rfl
noncomputable def looks {α:Type} (p q:Program) (Xt:Shared→Bool) (Yf:Shared→α) (w:World) (s:Shared):=
 (PySem.W.staticsOk (importedModules p.main.body) (PySem.W.boot_heap w.params) s.heap && PySem.W.namesBound p s.heap && PySem.W.gensDone s && PySem.W.laidKept (PySem.W.boot_heap w.params) s.heap,PySem.W.openSeen q [] (importedModules p.main.body) Xt true s,Yf s)
theorem left_tree {p q:Program}{Xt:Shared→Bool}{α:Type}{Yf:Shared→α}{Ya:α}{N:Nat}
 (e:PySem.W.opening p=PySem.W.plainProg p.main.scope.names) (hN:Nat.ble 600 N=true) (f:∀s,PySem.fenceModules? p s=some s)
 (run:∀(w:World) (os:OsState),(topRunT treeTable p w 11 (some (.ref 6)) N (bootS w os) (PySem.W.topStub p)).map (fun s=>looks p q Xt Yf w s.abs)=some (true,PySem.W.openGood q [],Ya)) :
 PySem.W.LeftO p q [] Xt Yf (fun _=>Ya) N:=fun w=>by
 obtain ⟨⟨h,gs,d,k,os⟩,ef,ev⟩:=Option.map_eq_some_iff.mp (PySem.W.boot_open e hN f w)
 obtain ⟨rfl,rfl,rfl,rfl⟩:h=PySem.W.boot_heap w.params∧gs=#[]∧d=PySem.W.boot_drawn∧k=PySem.W.boot_toks:=by simpa using ev
 obtain ⟨st,er,el⟩:=Option.map_eq_some_iff.mp (run w os)
 have r:=pZ er
 have e0:(bootS w os).abs=⟨PySem.W.boot_heap w.params,#[],PySem.W.boot_drawn,PySem.W.boot_toks,os⟩:=rfl
 rw [e0] at r
 obtain ⟨z1,z2,z3⟩:_∧_∧_:=by simpa only [Prod.mk.injEq] using vG w
 obtain ⟨l1,l2,l3⟩:_∧_∧_:=by simpa only [looks,Prod.mk.injEq] using el
 have t:PySem.W.topFrom treeTable p w N ⟨PySem.W.boot_heap w.params,#[],PySem.W.boot_drawn,PySem.W.boot_toks,os⟩=some st.abs:=by
  unfold PySem.W.topFrom
  dsimp only
  rw [z1,z2,z3,r]
  show (match PySem.W.staticsOk (importedModules p.main.body) (PySem.W.boot_heap w.params) st.abs.heap && PySem.W.namesBound p st.abs.heap && PySem.W.gensDone st.abs && PySem.W.laidKept (PySem.W.boot_heap w.params) st.abs.heap with | true=>_ | false=>_)=_
  rw [l1]
 unfold PySem.W.openEnds
 rw [ef]
 show (PySem.W.topFrom treeTable p w N _).map _=_
 rw [t]
 exact congrArg some (Prod.ext l2 l3)
theorem left_of2 {α β:Type}{f f':World→β→α}{g g':α} (ef:f=f') (eg:g=g') (h:∀w os,f' w os=g') (w:World) (os:β):f w os=g:=by
 rw [ef,eg];exact h w os
end L2
namespace K37
open PySem L2
def qv:Program:=PySem.W.view PySem.Challenge.pw_gainroads_k37_deeds_of_roads [0,2,3,4,5,6,7,8,9,11,12,13,14,16,17,18,19,20,21,22,23,24,25,26,27,28,29,30,31,32,33,34,35,36]
def obs (K:PySem.W.Frag):List (Option FuncData)×List Bool:=([fG K "_law_box",
 fG K "_law_take",
 fG K "_law_boxes",
 fG K "_law_fr",
 fG K "_law_names",
 fG K "_law_gain",
 fG K "_law_much",
 fG K "_law_cost",
 fG K "_law_deed",
 fG K "_law_do",
 fG K "_law_done",
 fG K "_law_begin",
 fG K "_law_copied",
 fG K "_law_refused",
 fG K "_law_step",
 fG K "_law_net",
 fG K "_law_may",
 fG K "_law_same",
 fG K "_law_stands",
 fG K "_law_no_tie",
 fG K "law",
 bE K (PySem.W.findIn K (.ref (aG K "Gaining")) "__init__") "Gaining.__init__",
 bE K (PySem.W.findIn K (.ref (aG K "NotSoMuch")) "__init__") "NotSoMuch.__init__",
 bE K (PySem.W.findIn K (.ref (aG K "Roads")) "__init__") "Roads.__init__",
 bE K (PySem.W.findIn K (.ref (aG K "Roads")) "add_place") "Roads.add_place",
 bE K (PySem.W.findIn K (.ref (aG K "Roads")) "add_tie") "Roads.add_tie",
 fG K "check_two",
 bE K (PySem.W.findIn K (.ref (aG K "Roads")) "set_most") "Roads.set_most",
 bE K (PySem.W.findIn K (.ref (aG K "Roads")) "set_gain") "Roads.set_gain",
 bE K (PySem.W.findIn K (.ref (aG K "Roads")) "set_price") "Roads.set_price",
 bE K (PySem.W.findIn K (.ref (aG K "Roads")) "shut") "Roads.shut",
 bE K (PySem.W.findIn K (.ref (aG K "Roads")) "reopen") "Roads.reopen",
 bE K (PySem.W.findIn K (.ref (aG K "Roads")) "set_ends") "Roads.set_ends",
 bE K (PySem.W.findIn K (.ref (aG K "Roads")) "back") "Roads.back",
 bE K (PySem.W.findIn K (.ref (aG K "Roads")) "net") "Roads.net",
 fG K "put_at",
 bE K (PySem.W.findIn K (.ref (aG K "Roads")) "ends") "Roads.ends",
 bE K (PySem.W.findIn K (.ref (aG K "Roads")) "is_shut") "Roads.is_shut",
 fG K "check_tie",
 bE K (PySem.W.findIn K (.ref (aG K "Roads")) "deeds") "Roads.deeds",
 bE K (PySem.W.findIn K (.ref (aG K "Roads")) "set_part") "Roads.set_part",
 bE K (PySem.W.findIn K (.ref (aG K "Roads")) "set_shut") "Roads.set_shut"],
 [rG K "GainError",
 rG K "Taken",
 rG K "NoPlace",
 rG K "NoTie",
 rG K "AsItIs",
 rG K "NoEnds",
 rG K "Gaining",
 rG K "NotSoMuch",
 PySem.W.keepIn K (.ref (aG K "GainError")),
 zG K (aG K "GainError"),
 PySem.W.keepIn K (.ref (aG K "Taken")),
 dq K (aG K "Taken") (none),
 PySem.W.keepIn K (.ref (aG K "NoPlace")),
 dq K (aG K "NoPlace") (none),
 PySem.W.keepIn K (.ref (aG K "NoTie")),
 dq K (aG K "NoTie") (none),
 PySem.W.keepIn K (.ref (aG K "AsItIs")),
 dq K (aG K "AsItIs") (none),
 PySem.W.keepIn K (.ref (aG K "NoEnds")),
 dq K (aG K "NoEnds") (none),
 PySem.W.keepIn K (.ref (aG K "Gaining")),
 PySem.W.isFn K (.ref (gR (PySem.W.findIn K (.ref (aG K "Gaining")) "__init__"))),
 ua K (aG K "Gaining") "ties",
 uz K (aG K "Gaining") "ties",
 dq K (aG K "Gaining") (some (.ref (gR (PySem.W.findIn K (.ref (aG K "Gaining")) "__init__")))),
 PySem.W.keepIn K (.ref (aG K "NotSoMuch")),
 PySem.W.isFn K (.ref (gR (PySem.W.findIn K (.ref (aG K "NotSoMuch")) "__init__"))),
 ua K (aG K "NotSoMuch") "most",
 uz K (aG K "NotSoMuch") "most",
 dq K (aG K "NotSoMuch") (some (.ref (gR (PySem.W.findIn K (.ref (aG K "NotSoMuch")) "__init__")))),
 oC (PySem.W.exmOne K (.ref (aG K "Taken")) (.ref (aG K "GainError"))),
 oC (PySem.W.exmOne K (.ref (aG K "NoPlace")) (.ref (aG K "GainError"))),
 oC (PySem.W.exmOne K (.ref (aG K "NoTie")) (.ref (aG K "GainError"))),
 oC (PySem.W.exmOne K (.ref (aG K "AsItIs")) (.ref (aG K "GainError"))),
 oC (PySem.W.exmOne K (.ref (aG K "NoTie")) (.ref (aG K "NoTie"))),
 lu K [(aG K "Taken"),(aG K "NoPlace"),(aG K "NoTie"),(aG K "AsItIs"),(aG K "NoEnds"),(aG K "Gaining"),(aG K "NotSoMuch")] (aG K "GainError"),
 rG K "Roads",
 wQ K (aG K "Roads"),
 uE K (aG K "Roads"),
 cV K (aG K "Roads") "add_place",
 cV K (aG K "Roads") "add_tie",
 cV K (aG K "Roads") "set_most",
 cV K (aG K "Roads") "set_gain",
 cV K (aG K "Roads") "set_price",
 cV K (aG K "Roads") "shut",
 cV K (aG K "Roads") "reopen",
 cV K (aG K "Roads") "set_ends",
 cV K (aG K "Roads") "back",
 cV K (aG K "Roads") "net",
 cV K (aG K "Roads") "ends",
 cV K (aG K "Roads") "is_shut",
 cV K (aG K "Roads") "deeds",
 cV K (aG K "Roads") "set_part",
 cV K (aG K "Roads") "set_shut",
 tZ (PySem.W.findIn K (.ref (aG K "Roads")) "states"),
 oG K "ValueError",
 oG K "abs",
 oG K "all",
 oG K "bool",
 oG K "divmod",
 oG K "enumerate",
 oG K "int",
 oG K "isinstance",
 oG K "len",
 oG K "list",
 oG K "max",
 oG K "range",
 oG K "str",
 oG K "tuple",
 oG K "zip"])
def due:List (Option FuncData)×List Bool:=([dG "_law_box" "_law_box" pC,
 dG "_law_take" "_law_take" oy,
 dG "_law_boxes" "_law_boxes" bV,
 dG "_law_fr" "_law_fr" hR,
 dG "_law_names" "_law_names" bR,
 dG "_law_gain" "_law_gain" fB,
 dG "_law_much" "_law_much" gA,
 dG "_law_cost" "_law_cost" fv,
 dG "_law_deed" "_law_deed" bz,
 dG "_law_do" "_law_do" jR,
 dG "_law_done" "_law_done" bo,
 dG "_law_begin" "_law_begin" mE,
 dG "_law_copied" "_law_copied" hU,
 dG "_law_refused" "_law_refused" ci,
 dG "_law_step" "_law_step" cg,
 dG "_law_net" "_law_net" fK,
 dG "_law_may" "_law_may" jt,
 dG "_law_same" "_law_same" bY,
 dG "_law_stands" "_law_stands" bZ,
 dG "_law_no_tie" "_law_no_tie" d6,
 dG "law" "law" bI,
 dG "__init__" "Gaining.__init__" ki,
 dG "__init__" "NotSoMuch.__init__" jm,
 dG "__init__" "Roads.__init__" dJ,
 dG "add_place" "Roads.add_place" bc,
 dG "add_tie" "Roads.add_tie" aK,
 dG "check_two" "check_two" dy,
 dG "set_most" "Roads.set_most" b6,
 dG "set_gain" "Roads.set_gain" b7,
 dG "set_price" "Roads.set_price" bU,
 dG "shut" "Roads.shut" et,
 dG "reopen" "Roads.reopen" df,
 dG "set_ends" "Roads.set_ends" ba,
 dG "back" "Roads.back" gr,
 dG "net" "Roads.net" bM,
 dG "put_at" "put_at" iu,
 dG "ends" "Roads.ends" gx,
 dG "is_shut" "Roads.is_shut" bQ,
 dG "check_tie" "check_tie" dB,
 dG "deeds" "Roads.deeds" dQ,
 dG "set_part" "Roads.set_part" aQ,
 dG "set_shut" "Roads.set_shut" aP],List.replicate 70 true)
end K37
def L2.Xt (s:PySem.Shared):Bool:=PySem.W.xlAt K37.qv [] s && PySem.W.recOk [] s
def L2.Yf (s:PySem.Shared):=K37.obs (L2.fragOf s.heap)
noncomputable def L2.lhs (w:PySem.World) (os:PySem.OsState):=(L2.topRunT PySem.treeTable PySem.Challenge.pw_gainroads_k37_deeds_of_roads w 11 (some (.ref 6)) 6958 (L2.bootS w os) (PySem.W.topStub PySem.Challenge.pw_gainroads_k37_deeds_of_roads)).map fun s=>L2.looks PySem.Challenge.pw_gainroads_k37_deeds_of_roads K37.qv L2.Xt L2.Yf w s.abs
noncomputable def L2.rhs:=some (true,PySem.W.openGood K37.qv [],K37.due)
theorem L2.lhs0:L2.lhs=L2.lhs:=rfl
theorem L2.rhs0:L2.rhs=L2.rhs:=rfl
name_quick lhsQ for L2.lhs by L2.lhs0
name_quick rhsQ for L2.rhs by L2.rhs0
theorem L2.left:∀w os,L2.lhs w os=L2.rhs:=L2.left_of2 PySem.W.Fast.lhsQ_eq PySem.W.Fast.rhsQ_eq (fun w os=>by kernel_rfl)
namespace K37
open PySem L2
section
variable {P:Program}{w:World}{K:PySem.W.Frag}{mg:Str→Option Value}{base:Heap}
inductive AW (vs:List V) (H:Hp) (Q:VK):Prop
 | mk (a:Addr) (xs:List V) (i:Nat) (x:V) (h0:vs=[.ref a,.int (i:Int),x]) (h1:H a=some (.tup xs)) (h2:i<xs.length) (h3:xs.length≤5000) (h4:∀p H',aj H H'→H' p=some (.tup (xs.set i x))→Q (.ref p) H')
def B6:Sp:=fun vs H Q _=>AW  vs H Q
theorem AG (xs:List V) (i:Nat):fj xs none (some (i:Int))=xs.take i:=by
 unfold fj
 rw [HT.sIx_none,HT.sIx_nat,List.drop_zero,Nat.sub_zero,List.take_eq_take_iff]
 trivial
theorem wm (xs:List V) (i:Nat):fj xs (some (i:Int)) none=xs.drop i:=by
 unfold fj
 rw [HT.sIx_none,HT.sIx_nat]
 by_cases h:i≤xs.length
 ·rw [Nat.min_eq_left h,List.take_of_length_le (by rw [List.length_drop];trivial)]
 ·rw [Nat.min_eq_right (by trivial),List.drop_of_length_le (by trivial),List.drop_of_length_le (by trivial)];simp
theorem l6 (T:Txt K mg):aT P w K mg base CX0 1 T.put_at_.f T.put_at_.d ["parts", "at", "part"] B6:=by
 refine T.put_at_.F.ok vz (fun vs H Q E h=>?_) (fun cdv A outer s H vs Q E hr h=>?_)
 ·obtain ⟨a,xs,i,x,rfl,_⟩:=h
  rfl
 ·obtain ⟨a,xs,i,x,rfl,ha,hi,hl,k⟩:=h
  refine ⟨_,#[aa 3 #[am 4 #[ax 8 (@d8 _) #[ax 8 (@d8 _) #[cD 10 (@eG _ (K) (by rfl)) #[0,lq] (@dM _) #[cI 3 #[1,oa]]] #[ar 5 #[[#[2,qX]]]]] #[cD 10 (@eG _ (K) (by rfl)) #[0,lq] #[cI 3 #[ax 8 (@ce _) #[1,oa] #[()]]] (@dM _)]]]],?_⟩
  refine ⟨(),(),(),a,xs,rfl,af.of ha,ha,fun p1 H1 s1 h1=>?_⟩
  rw [AG] at h1
  refine ⟨(),(by show 1≤10000;decide),fun p2 H2 n2=>⟨p1,p2,_,(),rfl,n2.sm _ _ h1,n2.at',by rw [List.length_take,List.length_singleton];trivial,fun p3 H3 s3 h3=>?_⟩⟩
  have sa:=(s1.trans n2.sm).trans s3
  refine ⟨(),(),_,(),rfl,(),a,xs,rfl,af.of (sa _ _ ha),sa _ _ ha,fun p4 H4 s4 h4=>?_⟩
  rw [show ((i:Int)+1)=((i+1:Nat):Int) by trivial,wm] at h4
  refine ⟨p3,p4,_,(),rfl,s4 _ _ h3,h4,by simp [List.length_take,List.length_drop];trivial,fun p5 H5 s5 h5=>k p5 H5 ((sa.trans s4).trans s5) ?_⟩
  rw [h5,yg xs i x hi]
def fh (T:Txt K mg):RW→Addr
 | .taken=>T.x_Taken
 | .noPlace=>T.x_NoPlace
 | .noTie=>T.x_NoTie
 | .asItIs=>T.x_AsItIs
theorem xY (l:List Nat) (es:List (List Nat)):qd (bt l) (es.map bt)=decide (l∈es):=by
 unfold qd
 rw [List.any_map,Bool.eq_iff_iff,List.any_eq_true,decide_eq_true_iff]
 constructor
 ·rintro ⟨x,h1,h2⟩
  have h2':(S x==S l)=true:=h2
  rw [←xI (eq_of_beq h2')]
  exact h1
 ·exact fun h=>⟨l,h,by show (S l==S l)=true;simp⟩
theorem rk (es:List (List Nat)):(es.map bt).all iJ=true:=by
 rw [List.all_map]
 exact List.all_eq_true.mpr fun _ _=>rfl
theorem At (i:Int) (es:List Int):qd (.int i) (es.map V.int)=decide (i∈es):=by
 unfold qd
 rw [List.any_map,Bool.eq_iff_iff,List.any_eq_true,decide_eq_true_iff]
 constructor
 ·rintro ⟨x,h1,h2⟩
  have h2':(x==i)=true:=h2
  rw [←eq_of_beq h2']
  exact h1
 ·exact fun h=>⟨i,h,by show (i==i)=true;simp⟩
theorem uC (es:List Int):(es.map V.int).all iJ=true:=by
 rw [List.all_map]
 exact List.all_eq_true.mpr fun _ _=>rfl
theorem xL {a b:List Nat}:(bt a=bt b)↔a=b:=⟨fun h=>xI (by injection h),fun h=>by rw [h]⟩
theorem pe {H H1:Hp}{a:Addr}{o:HO} (s:aj H H1) (h:H a=none):aj H (aI H1 a o):=fun b u e=>by
 rw [ak (aE e h)]
 exact s b u e
inductive A0 (c:Addr) (vs:List V) (H:Hp) (Q:VK) (E:XK):Prop
 | mk (a:Addr) (ls:List (List Nat)) (b e:List Nat) (h0:vs=[.ref a,bt b,bt e]) (h1:H a=some (.tup (ls.map bt))) (h2:((b∈ls∧e∈ls∧b≠e)→Q .non H)) (h3:(¬(b∈ls∧e∈ls∧b≠e)→∀H',aj H H'→E (.ref c) none H'))
def Ce (c:Addr):Sp:=fun vs H Q E=>A0 c vs H Q E
theorem mM (T:Txt K mg):aT P w K mg base (d9 P w) 1 T.check_two_.f T.check_two_.d ["places", "begin", "end"] (Ce T.x_NoPlace):=by
 refine T.check_two_.F.okX sd (fun vs H Q E h=>?_) (fun cdv A outer s H vs Q E hr h=>?_)
 ·obtain ⟨a,ls,b,e,rfl,_⟩:=h
  rfl
 ·obtain ⟨a,ls,b,e,rfl,ha,k1,k2⟩:=h
  refine ⟨_,#[#[aN 8 #[PW.pt 3 #[ph 7 #[ap 8 (@tF _ (K) (by rfl)) #[1,jh] #[0,iW] rfl] #[mU 4 #[ap 8 (@tF _ (K) (by rfl)) #[2,kq] #[0,iW] rfl]]]] #[aa 3 #[jI 5 rfl #[lr 15] #[k7 8 T.q_NoPlace T.k_NoPlace hW T.m_NoPlace #[[#[ad 4]]] (by decide) (by rfl) (by rfl)]]] (@aB _)] :: #[aa 3 #[aN 8 #[ap 8 (@br _) #[1,jh] #[2,kq] #[(),()]] #[aa 3 #[jI 5 rfl #[lr 15] #[k7 8 T.q_NoPlace T.k_NoPlace hW T.m_NoPlace #[[#[ad 4]]] (by decide) (by rfl) (by rfl)]]] (@aB _)]]],?_⟩
  have ra:¬(b∈ls∧e∈ls∧b≠e)→∀y H1,Nw H y (kI y T.x_NoPlace none) H1→nZ fun a C dx ini=>V.ref y=.ref a∧H1 a=some (kI a C dx)∧dq K C ini=true∧E (.ref C) dx (aI H1 a (iz a C dx)):=fun n y H1 n1=>
   ⟨y,T.x_NoPlace,none,(),n1.at',T.q_NoPlace,k2 n _ (pe n1.sm n1.fr)⟩
  refine bi fun D0 n0=>⟨(),(),a,(),.inr (af.of ha),rfl,rk ls,(),?_⟩
  simp only [if_true,xY]
  by_cases hb:b∈ls
  ·rw [decide_eq_true hb]
   refine aO ⟨(),(),a,(),.inr (af.of ha),rfl,rk ls,(),?_⟩
   simp only [if_true,xY]
   by_cases he:e∈ls
   ·rw [decide_eq_true he]
    refine aO (n0 _ _ ⟨(),(),rfl,(),eQ (fun c=>?_) fun c=>?_⟩)
    ·have c':=xL.mp (of_decide_eq_true c)
     exact ⟨(by show 1≤10000;decide),ra fun z=>z.2.2 c'⟩
    ·exact k1 ⟨hb,he,fun z=>c (decide_eq_true (xL.mpr z))⟩
   ·rw [decide_eq_false he]
    exact aY ⟨(by show 1≤10000;decide),ra fun z=>he z.2.1⟩
  ·rw [decide_eq_false hb]
   exact aY ⟨(by show 1≤10000;decide),ra fun z=>hb z.1⟩
inductive Ap (c:Addr) (vs:List V) (H:Hp) (Q:VK) (E:XK):Prop
 | mk (a:Addr) (xs:List V) (i:Int) (h0:vs=[.ref a,.int i]) (h1:H a=some (.tup xs)) (h2:((0≤i∧i<(xs.length:Int))→Q .non H)) (h3:(¬(0≤i∧i<(xs.length:Int))→∀H',aj H H'→E (.ref c) none H'))
def Cd (c:Addr):Sp:=fun vs H Q E=>Ap c vs H Q E
theorem kd (T:Txt K mg):aT P w K mg base (d9 P w) 1 T.check_tie_.f T.check_tie_.d ["ties", "number"] (Cd T.x_NoTie):=by
 refine T.check_tie_.F.okX sB (fun vs H Q E h=>?_) (fun cdv A outer s H vs Q E hr h=>?_)
 ·obtain ⟨a,xs,i,rfl,_⟩:=h
  rfl
 ·obtain ⟨a,xs,i,rfl,ha,k1,k2⟩:=h
  refine ⟨_,#[aa 3 #[aN 8 #[iM 4 #[sk 12 (@xO _) (@eU _) #[()] #[1,mR] #[(),(),(@dI _ (K) (by rfl)),pb,T.b_len,(@bh),#[[#[0,oh]]]] (by with_unfolding_all rfl)]] #[aa 3 #[jI 5 rfl #[lr 15] #[k7 8 T.q_NoTie T.k_NoTie nN T.m_NoTie #[[#[ad 4]]] (by decide) (by rfl) (by rfl)]]] (@aB _)]],?_⟩
  have ra:¬(0≤i∧i<(xs.length:Int))→∀y H1,Nw H y (kI y T.x_NoTie none) H1→nZ fun a C dx ini=>V.ref y=.ref a∧H1 a=some (kI a C dx)∧dq K C ini=true∧E (.ref C) dx (aI H1 a (iz a C dx)):=fun n y H1 n1=>
   ⟨y,T.x_NoTie,none,(),n1.at',T.q_NoTie,k2 n _ (pe n1.sm n1.fr)⟩
  refine ⟨(),_,(),rfl,(),?_⟩
  by_cases h0:0≤i
  ·rw [decide_eq_true h0]
   refine aY ⟨(),a,xs,rfl,.inr (af.of ha),_,(),rfl,(),?_⟩
   by_cases h1:i<(xs.length:Int)
   ·rw [decide_eq_true h1]
    exact aO (k1 ⟨h0,h1⟩)
   ·rw [decide_eq_false h1]
    exact aY ⟨(by show 1≤10000;decide),ra fun z=>h1 z.2⟩
  ·rw [decide_eq_false h0]
   exact aO ⟨(),aY ⟨(by show 1≤10000;decide),ra fun z=>h0 z.1⟩⟩
end
end K37
namespace K37
open PySem L2
section
variable {P:Program}{w:World}{K:PySem.W.Frag}{mg:Str→Option Value}{base:Heap}
inductive yV (C:Addr) (vs:List V) (H:Hp) (Q:VK):Prop
 | mk (r dx:Addr) (h0:vs=[.ref r]) (h1:H r=some (.ins C dx [])) (h2:∀L H',H L=none→(∀a o,a≠r→H a=some o→H' a=some o)→aH C H' r L [qG]→Q .non H')
def Ae (C:Addr):Sp:=fun vs H Q _=>yV C vs H Q
theorem qW (T:Txt K mg):aT P w K mg base CX0 1 T.f_Roads____init__ T.d_Roads____init__ ["self"] (Ae T.x_Roads):=by
 refine T.F_Roads____init__.ok mY (fun vs H Q E h=>?_) (fun cdv A outer s H vs Q E hr h=>?_)
 ·obtain ⟨r,dx,rfl,_⟩:=h
  rfl
 ·obtain ⟨r,dx,rfl,hr',k⟩:=h
  refine ⟨_,#[aa 3 #[zk 8 #[0,kQ] #[b5 4 #[[#[ar 5 #[[#[ar 5 (@cq _)],#[ar 5 (@cq _)],#[ar 5 (@cq _)],#[jD 3]]]]]]] (by rfl)]],?_⟩
  refine ⟨(by show 0≤10000;decide),fun p1 H1 n1=>⟨(by show 0≤10000;decide),fun p2 H2 n2=>⟨(by show 0≤10000;decide),fun p3 H3 n3=>⟨(by show 4≤10000;decide),fun p4 H4 n4=>⟨(by show 1≤10000;decide),fun L H5 n5=>?_⟩⟩⟩⟩⟩
  have s4:=((n1.sm.trans n2.sm).trans n3.sm).trans n4.sm
  have s5:=s4.trans n5.sm
  have fL:H L=none:=s4.free n5.fr
  refine ⟨(),r,T.x_Roads,dx,[],rfl,s5 _ _ hr',T.c_Roads,T.n_Roads_states,by decide,fun H6 c6=>?_⟩
  have kp:∀a o,a≠r→H a=some o→H6 a=some o:=fun a o n h=>c6.ol a o n (s5 _ _ h)
  have tp:∀{a xs},H5 a=some (.tup xs)→H6 a=some (.tup xs):=fun h=>c6.ol _ _ (nu h (s5 _ _ hr') (by intro z;cases z)) h
  have d:aC ED H6 (.ref p4) (oP qG):=nG (s:=qG) (bs:=[]) (tp (n5.sm _ _ n4.at')) (tp (n5.sm _ _ (n4.sm _ _ (n3.sm _ _ (n2.sm _ _ n1.at'))))) (tp (n5.sm _ _ (n4.sm _ _ (n3.sm _ _ n2.at')))) .nil (tp (n5.sm _ _ (n4.sm _ _ n3.at'))) rfl .non
  refine k L H6 fL kp ⟨dx,_,c6.at',c6.ol _ _ (fun z=>?_) n5.at',.cons d .nil⟩
  rw [z,hr'] at fL
  cases fL
theorem iP {C:Addr}{cl:RW→Addr}{r L:Addr}{past:List ai}{cur:ai}{D:cO}{H:Hp}{Q:VK}{E:XK} (k:iK C cl r L past cur D H Q E) (e:bw cur D=none) (nb:D≠.back) {v:V}{H':Hp} (s:aD (Eb L) H H') (R:aH C H' r L (past++[cur]++[cb cur D])) (t:aC ED H' v (rm past cur D)):Q v H':=by
 refine k.2 e v H' s ?_ t
 rw [(lG e nb).1,(lG e nb).2]
 exact R
inductive yq (C:Addr) (cl:RW→Addr) (vs:List V) (H:Hp) (Q:VK) (E:XK):Prop
 | mk (r L:Addr) (n:List Nat) (past:List ai) (cur:ai) (h0:vs=[.ref r,bt n]) (h1:aH C H r L (past++[cur])) (h2:gk 5000 past cur) (h3:iK C cl r L past cur (.place n) H Q E)
def zv (C:Addr) (cl:RW→Addr):Sp:=fun vs H Q E=>yq C cl vs H Q E
theorem rH (T:Txt K mg):aT P w K mg base (d9 P w) 2 T.f_Roads__add_place T.d_Roads__add_place ["self", "name"] (zv T.x_Roads (fh T)):=by
 refine T.F_Roads__add_place.okX cc (fun vs H Q E h=>?_) (fun cdv A outer s H vs Q E hr h=>?_)
 ·obtain ⟨r,L,n,past,cur,rfl,_⟩:=h
  rfl
 ·obtain ⟨r,L,n,past,cur,rfl,R,ok,k⟩:=h
  refine ⟨_,#[#[PS.nox 3 #[di 6 #[#[cJ 5 #[0,fU] rfl][#[fP 6 (@dS _) #[()]]]!] (@cf _ (K) _ _ _ _ (4) rfl #[au 5 #[2,cc.nd,cH] #[au 5 #[3,cc.nd,fT] #[au 5 #[4,cc.nd,fe] #[au 5 #[5,cc.nd,fY] (@cA _) (by rfl)] (by rfl)] (by rfl)] (by rfl)] (by rfl) (by rfl) (by rfl)) (by rfl) (by rfl) (by rfl)]] :: #[#[aN 8 #[ap 8 (@lD _ (K) (by rfl)) #[1,fS] #[2,cH] rfl] #[aa 3 #[jI 5 rfl #[lr 15] #[k7 8 T.q_Taken T.k_Taken jE T.m_Taken #[[#[ad 4]]] (by decide) (by rfl) (by rfl)]]] (@aB _)] :: #[aa 3 #[PS.nox 3 #[bf 4 (@b8 _ (K) _ _ _ _ _ _ _ _ _ _ _ PySem.F.plainAttrs_list PySem.F.slot_list_append PySem.F.type_list_append (@b3 _) #[cJ 5 #[0,fU] rfl] #[[#[ar 5 #[[#[ax 8 (@d8 _) #[2,cH] #[ar 5 #[[#[1,fS]]]]],#[3,fT],#[4,fe],#[5,fY]]]]]] (by rfl) (by rfl) (by rfl) (by rfl) (by rfl) (by rfl)) (by rfl)]]]]],?_⟩
  obtain ⟨dx,ys,v,hr',hL,hys,hv⟩:=R.last
  obtain ⟨a,p,t,q,e,ties,rfl,ha,hp,ht,hty,hq,he⟩:=iO hv
  have ly:=hys.length
  have okl:=ok.lp
  rw [List.length_map] at ly
  refine bi fun D0 n0=>⟨(),r,T.x_Roads,dx,_,(),hr',T.c_Roads,T.n_Roads_states,rfl,(),L,_,_,(),rfl,ao.of hL,fC _ _,a,(),af.of ha,rfl,_,(),_,(),_,(),_,(),rfl,n0 _ _ ?_⟩
  refine bi fun D1 n1=>⟨(),(),p,(),.inr (af.of hp),rfl,rk _,(),?_⟩
  simp only [if_false,Bool.false_eq_true,xY]
  by_cases hn:n∈cur.pl
  ·rw [decide_eq_true hn]
   have rw_:bw cur (.place n)=some .taken:=if_pos hn
   exact aY ⟨(by show 1≤10000;decide),fun y H1 m1=>⟨y,T.x_Taken,none,(),m1.at',T.q_Taken,k.1 _ rw_ _ (pe m1.sm m1.fr)⟩⟩
  ·rw [decide_eq_false hn]
   have rw_:bw cur (.place n)=none:=if_neg hn
   refine aO (n1 _ _ ?_)
   refine ⟨(),r,T.x_Roads,dx,_,(),hr',T.c_Roads,T.n_Roads_states,rfl,.inl ⟨rfl,_,ao.of hL⟩,(),(),(by show 1≤10000;decide),fun p1 H1 m1=>⟨p,p1,_,(),rfl,m1.sm _ _ hp,m1.at',?_,fun p2 H2 s2 h2=>?_⟩⟩
   ·have:=ok.cu.lp
    simp
    trivial
   have sa:=m1.sm.trans s2
   refine ⟨(),(),(),(by show 4≤10000;decide),fun p3 H3 m3=>⟨L,_,(),rfl,(sa.trans m3.sm) _ _ hL,by simp;trivial,fun H4 c4=>?_⟩⟩
   have sb:=sa.trans m3.sm
   obtain ⟨R4,s4⟩:=aH.app (s':=cb cur (.place n)) (sts:=past++[cur]) hr' hL (by rw [List.map_append];exact hys.append (.cons hv .nil)) sb (nG m3.at' (by rw [m3.sm _ _ h2];simp [cb]) (sb _ _ ht) (hty.mono sb.toE) (sb _ _ hq) rfl (he.mono sb.toE)) c4
   exact iP k rw_ (by intro z;cases z) s4 R4 .non
inductive yP (C:Addr) (cl:RW→Addr) (vs:List V) (H:Hp) (Q:VK) (E:XK):Prop
 | mk (r L:Addr) (t:gC) (m g p:V) (past:List ai) (cur:ai) (h0:vs=[.ref r,bt t.bg,bt t.en,m,g,p]) (h1:aC ED H m (gH t.most)) (h2:aC ED H g (gH t.gain)) (h3:aC ED H p (gH t.price)) (h4:aH C H r L (past++[cur])) (h5:gk 5000 past cur) (h6:iK C cl r L past cur (.tie t) H Q E)
def AF (C:Addr) (cl:RW→Addr):Sp:=fun vs H Q E=>yP C cl vs H Q E
theorem uK (T:Txt K mg):aT P w K mg base (d9 P w) 2 T.f_Roads__add_tie T.d_Roads__add_tie ["self", "begin", "end", "most", "gain", "price"] (AF T.x_Roads (fh T)):=by
 have G_check_two:=#[(mM)]
 refine T.F_Roads__add_tie.okX cF (fun vs H Q E h=>?_) (fun cdv A outer s H vs Q E hr h=>?_)
 ·obtain ⟨r,L,tt,m,g,pr,past,cur,rfl,_⟩:=h
  rfl
 ·obtain ⟨r,L,tt,m,g,pr,past,cur,rfl,hm,hg,hpr,R,ok,k⟩:=h
  refine ⟨_,#[#[PS.nox 3 #[di 6 #[#[cJ 5 #[0,gM] rfl][#[fP 6 (@dS _) #[()]]]!] (@cf _ (K) _ _ _ _ (4) rfl #[au 5 #[6,cF.nd,c8] #[au 5 #[7,cF.nd,dR] #[au 5 #[8,cF.nd,gp] #[au 5 #[9,cF.nd,gK] (@cA _) (by rfl)] (by rfl)] (by rfl)] (by rfl)] (by rfl) (by rfl) (by rfl)) (by rfl) (by rfl) (by rfl)]] :: #[#[bf 4 #[gL 16 G_check_two (hr.mono (by decide)) i5 T.check_two_.m T.check_two_.F.kp T.check_two_.B .nil #[cX 15] #[[#[6,c8],#[1,gj],#[2,gS]]] (by decide) (by rfl) (by rfl)] (by rfl)] :: #[#[PS.nox 3 #[bf 4 (@b8 _ (K) _ _ _ _ _ _ _ _ _ _ _ PySem.F.plainAttrs_list PySem.F.slot_list_append PySem.F.type_list_append (@b3 _) #[cJ 5 #[0,gM] rfl] #[[#[ar 5 #[[#[6,c8],#[ax 8 (@d8 _) #[7,dR] #[ar 5 #[[#[ar 5 #[[#[1,gj],#[2,gS],#[3,kY],#[4,kS],#[5,kK]]]]]]]],#[ax 8 (@d8 _) #[8,gp] #[ar 5 #[[#[cW 4]]]]],#[9,gK]]]]]] (by rfl) (by rfl) (by rfl) (by rfl) (by rfl) (by rfl)) (by rfl)]] :: #[aa 3 #[PS.nox 3 #[am 4 #[(),(),(@dI _ (K) (by rfl)),lM,T.b_len,(@bh),#[[#[7,dR]]]]]]]]]],?_⟩
  obtain ⟨dx,ys,v,hr',hL,hys,hv⟩:=R.last
  obtain ⟨a,p,t,q,e,ties,rfl,ha,hp,ht,hty,hq,he⟩:=iO hv
  have ly:=hys.length
  have okl:=ok.lp
  rw [List.length_map] at ly
  have lt:=hty.length
  rw [List.length_map] at lt
  have okt:=ok.cu.lt
  refine bi fun D0 n0=>⟨(),r,T.x_Roads,dx,_,(),hr',T.c_Roads,T.n_Roads_states,rfl,(),L,_,_,(),rfl,ao.of hL,fC _ _,a,(),af.of ha,rfl,_,(),_,(),_,(),_,(),rfl,n0 _ _ ?_⟩
  refine bi fun D1 n1=>⟨(),(),(),p,cur.pl,tt.bg,tt.en,rfl,hp,fun h2=>n1 _ _ ?_,fun h2 H' s'=>k.1 .noPlace (if_neg h2) H' s'⟩
  have rw_:bw cur (.tie tt)=none:=if_pos h2
  refine bi fun D2 n2=>⟨(),r,T.x_Roads,dx,_,(),hr',T.c_Roads,T.n_Roads_states,rfl,.inl ⟨rfl,_,ao.of hL⟩,(),(),(),(),(),(),(),(by show 5≤10000;decide),fun p1 H1 m1=>⟨(by show 1≤10000;decide),fun p2 H2 m2=>⟨t,p2,_,(),rfl,(m1.sm.trans m2.sm) _ _ ht,m2.at',by simp;trivial,fun p3 H3 s3 h3=>?_⟩⟩⟩
  have sa:=(m1.sm.trans m2.sm).trans s3
  refine ⟨(),(by show 1≤10000;decide),fun p4 H4 m4=>⟨q,p4,_,(),rfl,(sa.trans m4.sm) _ _ hq,m4.at',by simp [iq];trivial,fun p5 H5 s5 h5=>⟨(),(by show 4≤10000;decide),fun p6 H6 m6=>⟨L,_,(),rfl,((sa.trans m4.sm).trans (s5.trans m6.sm)) _ _ hL,by simp;trivial,fun H7 c7=>n2 _ _ ?_⟩⟩⟩⟩
  have sb:=(sa.trans m4.sm).trans (s5.trans m6.sm)
  have s36:=m4.sm.trans (s5.trans m6.sm)
  have dt:aC ED H6 (.ref p1) (fJ tt):=.tup ((m2.sm.trans s3).trans s36 _ _ m1.at') (.cons (.str _) (.cons (.str _) (.cons (hm.mono sb.toE) (.cons (hg.mono sb.toE) (.cons (hpr.mono sb.toE) .nil)))))
  obtain ⟨R4,s4⟩:=aH.app (s':=cb cur (.tie tt)) (sts:=past++[cur]) hr' hL (by rw [List.map_append];exact hys.append (.cons hv .nil)) sb (nG (bs:=cZ cur++[false]) m6.at' (sb _ _ hp) (s36 _ _ h3) (by simp only [cb,List.map_append];exact (hty.mono sb.toE).append (.cons dt .nil)) (by rw [m6.sm _ _ h5];simp) (ze ok.cu tt).symm (he.mono sb.toE)) c7
  refine ⟨(),t,ties,rfl,.inr (af.of (s4.tup _ _ ht)),iP k rw_ (by intro z;cases z) s4 R4 ?_⟩
  rw [lt]
  exact .int _
inductive yC (C:Addr) (cl:RW→Addr) (pk:Option ig) (vs:List V) (H:Hp) (Q:VK) (E:XK):Prop
 | mk (r L:Addr) (kk:ig) (i:Int) (x:KM.Fra) (y:V) (past:List ai) (cur:ai) (h0:(vs=match pk with | none=>[.ref r,.int i,.int (kk.at:Int),y] | some _=>[.ref r,.int i,y])) (h1:(∀z,pk=some z→kk=z)) (h2:aC ED H y (gH x)) (h3:aH C H r L (past++[cur])) (h4:gk 5000 past cur) (h5:iK C cl r L past cur (.part kk i x) H Q E)
def oV (C:Addr) (cl:RW→Addr) (pk:Option ig):Sp:=fun vs H Q E=>yC C cl pk vs H Q E
theorem kC (T:Txt K mg):aT P w K mg base (d9 P w) 2 T.f_Roads__set_part T.d_Roads__set_part ["self", "number", "at", "part"] (oV T.x_Roads (fh T) none):=by
 have G_check_tie:=#[(kd)]
 have G_put_at:=#[(l6)]
 refine T.F_Roads__set_part.okX cp (fun vs H Q E h=>?_) (fun cdv A outer s H vs Q E hr h=>?_)
 ·obtain ⟨r,L,kk,i,x,y,past,cur,rfl,_⟩:=h
  rfl
 ·obtain ⟨r,L,kk,i,x,y,past,cur,rfl,_,hy,R,ok,k⟩:=h
  refine ⟨_,#[#[PS.nox 3 #[di 6 #[#[cJ 5 #[0,gf] rfl][#[fP 6 (@dS _) #[()]]]!] (@cf _ (K) _ _ _ _ (4) rfl #[au 5 #[4,cp.nd,fk] #[au 5 #[5,cp.nd,cm] #[au 5 #[6,cp.nd,fV] #[au 5 #[7,cp.nd,gg] (@cA _) (by rfl)] (by rfl)] (by rfl)] (by rfl)] (by rfl) (by rfl) (by rfl)) (by rfl) (by rfl) (by rfl)]] :: #[#[bf 4 #[gL 16 G_check_tie (hr.mono (by decide)) iR T.check_tie_.m T.check_tie_.F.kp T.check_tie_.B .nil #[cX 15] #[[#[5,cm],#[1,cS]]] (by decide) (by rfl) (by rfl)] (by rfl)] :: #[aa 3 #[PS.nox 3 #[bf 4 (@b8 _ (K) _ _ _ _ _ _ _ _ _ _ _ PySem.F.plainAttrs_list PySem.F.slot_list_append PySem.F.type_list_append (@b3 _) #[cJ 5 #[0,gf] rfl] #[[#[ar 5 #[[#[4,fk],#[G_put_at,fb,T.put_at_,#[[#[5,cm],#[1,cS],#[G_put_at,fb,T.put_at_,#[[#[#[5,cm][#[1,cS]]],#[2,lE],#[3,kL]]]]]]],#[6,fV],#[7,gg]]]]]] (by rfl) (by rfl) (by rfl) (by rfl) (by rfl) (by rfl)) (by rfl)]]]]],?_⟩
  obtain ⟨dx,ys,v,hr',hL,hys,hv⟩:=R.last
  obtain ⟨a,p,t,q,e,ties,rfl,ha,hp,ht,hty,hq,he⟩:=iO hv
  have ly:=hys.length
  have okl:=ok.lp
  rw [List.length_map] at ly
  have lt:=hty.length
  rw [List.length_map] at lt
  have okt:=ok.cu.lt
  refine bi fun D0 n0=>⟨(),r,T.x_Roads,dx,_,(),hr',T.c_Roads,T.n_Roads_states,rfl,(),L,_,_,(),rfl,ao.of hL,fC _ _,a,(),af.of ha,rfl,_,(),_,(),_,(),_,(),rfl,n0 _ _ ?_⟩
  refine bi fun D1 n1=>⟨(),(),t,ties,i,rfl,ht,fun h2=>n1 _ _ ?_,fun h2 H' s'=>k.1 .noTie (if_neg (by rw [lt] at h2;exact h2)) H' s'⟩
  have hs:has cur i:=by rw [lt] at h2;exact h2
  have rw_:bw cur (.part kk i x)=none:=if_pos hs
  obtain ⟨j,rfl⟩:=Int.eq_ofNat_of_zero_le h2.1
  have hj:j<ties.length:=by trivial
  have hj':j<cur.ts.length:=by trivial
  have e1:ties[j]?=some ties[j]:=List.getElem?_eq_getElem hj
  have e2:cur.ts[j]?=some cur.ts[j]:=List.getElem?_eq_getElem hj'
  have dj:aC ED H ties[j] (fJ cur.ts[j]):=hty.nth j e1 (by rw [List.getElem?_map,e2];rfl)
  obtain ⟨ta,m,g,pr,eta,hta,hm,hg,hpr⟩:=nn dj
  have kat:kk.at<5:=by cases kk <;> decide
  refine ⟨(),r,T.x_Roads,dx,_,(),hr',T.c_Roads,T.n_Roads_states,rfl,.inl ⟨rfl,_,ao.of hL⟩,(),(),(),(),(),t,ties,_,(),rfl,af.of ht,jy e1,(),(),ta,_,kk.at,y,by rw [eta];rfl,hta,kat,(by show 5≤5000;decide),fun p1 H1 s1 h1=>?_⟩
  refine ⟨t,ties,j,.ref p1,rfl,s1 _ _ ht,hj,by trivial,fun p2 H2 s2 h2'=>⟨(),(),(by show 4≤10000;decide),fun p3 H3 m3=>⟨L,_,(),rfl,(s1.trans (s2.trans m3.sm)) _ _ hL,by simp;trivial,fun H4 c4=>?_⟩⟩⟩
  have sb:=s1.trans (s2.trans m3.sm)
  have s13:=s2.trans m3.sm
  have dt:aC ED H3 (.ref p1) (fJ (pD kk x cur.ts[j])):=by
   have y3:=hy.mono sb.toE
   have m3':=hm.mono sb.toE
   have g3:=hg.mono sb.toE
   have p3':=hpr.mono sb.toE
   have h13:=s13 _ _ h1
   cases kk
   ·exact .tup h13 (.cons (.str _) (.cons (.str _) (.cons y3 (.cons g3 (.cons p3' .nil)))))
   ·exact .tup h13 (.cons (.str _) (.cons (.str _) (.cons m3' (.cons y3 (.cons p3' .nil)))))
   ·exact .tup h13 (.cons (.str _) (.cons (.str _) (.cons m3' (.cons g3 (.cons y3 .nil)))))
  obtain ⟨R4,s4⟩:=aH.app (s':=cb cur (.part kk (j:Int) x)) (sts:=past++[cur]) hr' hL (by rw [List.map_append];exact hys.append (.cons hv .nil)) sb (nG (bs:=cZ cur) m3.at' (sb _ _ hp) (m3.sm _ _ h2') (by
   show aw ED H3 (ties.set j (.ref p1)) ((lB cur.ts kk (j:Int).toNat x).map fJ)
   rw [Int.toNat_natCast,tQ e2,List.map_set]
   exact (hty.mono sb.toE).set dt j) (sb _ _ hq) (xm ..).symm (he.mono sb.toE)) c4
  exact iP k rw_ (by intro z;cases z) s4 R4 .non
theorem sQ (T:Txt K mg):aT P w K mg base (d9 P w) 3 T.f_Roads__set_most T.d_Roads__set_most ["self", "number", "most"] (oV T.x_Roads (fh T) (some .m)):=by
 have G_Roads__set_part:=#[(kC)]
 refine T.F_Roads__set_most.okX mL (fun vs H Q E h=>?_) (fun cdv A outer s H vs Q E hr h=>?_)
 ·obtain ⟨r,L,kk,i,x,y,past,cur,rfl,_⟩:=h
  rfl
 ·obtain ⟨r,L,kk,i,x,y,past,cur,rfl,hk,hy,R,ok,k⟩:=h
  cases hk _ rfl
  obtain ⟨dx,ys,v,hr',hL,hys,hv⟩:=R.last
  refine ⟨_,#[aa 3 #[bf 4 #[cy 20 #[0,kz] T.c_Roads T.h_Roads__set_part G_Roads__set_part (hr.mono (by decide)) T.B_Roads__set_part .nil #[cX 15] #[[#[1,jN],#[()],#[2,kD]]] (by rfl) (by rfl) (by rfl)] (by rfl)]],?_⟩
  exact ⟨(),r,dx,(),hr',rfl,(),(),r,L,.m,i,x,y,past,cur,rfl,(fun z q=>nomatch q),hy,R,ok,k.1,fun e v H' s R t=>by cases t;exact k.2 e .non H' s R .non⟩
theorem sP (T:Txt K mg):aT P w K mg base (d9 P w) 3 T.f_Roads__set_gain T.d_Roads__set_gain ["self", "number", "gain"] (oV T.x_Roads (fh T) (some .g)):=by
 have G_Roads__set_part:=#[(kC)]
 refine T.F_Roads__set_gain.okX mS (fun vs H Q E h=>?_) (fun cdv A outer s H vs Q E hr h=>?_)
 ·obtain ⟨r,L,kk,i,x,y,past,cur,rfl,_⟩:=h
  rfl
 ·obtain ⟨r,L,kk,i,x,y,past,cur,rfl,hk,hy,R,ok,k⟩:=h
  cases hk _ rfl
  obtain ⟨dx,ys,v,hr',hL,hys,hv⟩:=R.last
  refine ⟨_,#[aa 3 #[bf 4 #[cy 20 #[0,kM] T.c_Roads T.h_Roads__set_part G_Roads__set_part (hr.mono (by decide)) T.B_Roads__set_part .nil #[cX 15] #[[#[1,jB],#[()],#[2,kB]]] (by rfl) (by rfl) (by rfl)] (by rfl)]],?_⟩
  exact ⟨(),r,dx,(),hr',rfl,(),(),r,L,.g,i,x,y,past,cur,rfl,(fun z q=>nomatch q),hy,R,ok,k.1,fun e v H' s R t=>by cases t;exact k.2 e .non H' s R .non⟩
theorem rD (T:Txt K mg):aT P w K mg base (d9 P w) 3 T.f_Roads__set_price T.d_Roads__set_price ["self", "number", "price"] (oV T.x_Roads (fh T) (some .p)):=by
 have G_Roads__set_part:=#[(kC)]
 refine T.F_Roads__set_price.okX l0 (fun vs H Q E h=>?_) (fun cdv A outer s H vs Q E hr h=>?_)
 ·obtain ⟨r,L,kk,i,x,y,past,cur,rfl,_⟩:=h
  rfl
 ·obtain ⟨r,L,kk,i,x,y,past,cur,rfl,hk,hy,R,ok,k⟩:=h
  cases hk _ rfl
  obtain ⟨dx,ys,v,hr',hL,hys,hv⟩:=R.last
  refine ⟨_,#[aa 3 #[bf 4 #[cy 20 #[0,kf] T.c_Roads T.h_Roads__set_part G_Roads__set_part (hr.mono (by decide)) T.B_Roads__set_part .nil #[cX 15] #[[#[1,jp],#[()],#[2,jM]]] (by rfl) (by rfl) (by rfl)] (by rfl)]],?_⟩
  exact ⟨(),r,dx,(),hr',rfl,(),(),r,L,.p,i,x,y,past,cur,rfl,(fun z q=>nomatch q),hy,R,ok,k.1,fun e v H' s R t=>by cases t;exact k.2 e .non H' s R .non⟩
end
end K37
namespace K37
open PySem L2
section
variable {P:Program}{w:World}{K:PySem.W.Frag}{mg:Str→Option Value}{base:Heap}
def nX (b:Bool) (i:Int):cO:=if b then .shut i else .opn i
inductive yF (C:Addr) (cl:RW→Addr) (pk:Option Bool) (vs:List V) (H:Hp) (Q:VK) (E:XK):Prop
 | mk (r L:Addr) (b:Bool) (i:Int) (past:List ai) (cur:ai) (h0:(vs=match pk with | none=>[.ref r,.int i,.bl b] | some _=>[.ref r,.int i])) (h1:(∀z,pk=some z→b=z)) (h2:aH C H r L (past++[cur])) (h3:gk 5000 past cur) (h4:iK C cl r L past cur (nX b i) H Q E)
def rK (C:Addr) (cl:RW→Addr) (pk:Option Bool):Sp:=fun vs H Q E=>yF C cl pk vs H Q E
theorem ow {s:ai}{b:Bool}{i:Int}:bw s (nX b i)=if has s i then (if decide (i∈s.sh)=b then some .asItIs else none) else some .noTie:=by
 cases b
 ·show (if has s i then (if i∈s.sh then none else some RW.asItIs) else some .noTie)=_
  by_cases h:i∈s.sh
  ·simp [h]
  ·simp [h]
 ·show (if has s i then (if i∈s.sh then some RW.asItIs else none) else some .noTie)=_
  by_cases h:i∈s.sh
  ·simp [h]
  ·simp [h]
theorem zf {N:Nat}{s:ai}{b:Bool}{i:Int} (h:jA N s) (hi:has s i):(cb s (nX b i)).pl=s.pl∧(cb s (nX b i)).ts=s.ts∧(cb s (nX b i)).en=s.en∧cZ (cb s (nX b i))=(cZ s).set i.toNat b∧nX b i≠.back:=by
 cases b
 ·exact ⟨rfl,rfl,rfl,xu h hi,fun z=>nomatch z⟩
 ·exact ⟨rfl,rfl,rfl,xi hi,fun z=>nomatch z⟩
theorem xk {past:List ai}{cur:ai}{b:Bool}{i:Int}:rm past cur (nX b i)=.none:=by cases b <;> rfl
theorem nW (T:Txt K mg):aT P w K mg base (d9 P w) 2 T.f_Roads__set_shut T.d_Roads__set_shut ["self", "number", "whether"] (rK T.x_Roads (fh T) none):=by
 have G_check_tie:=#[(kd)]
 have G_put_at:=#[(l6)]
 refine T.F_Roads__set_shut.okX cx (fun vs H Q E h=>?_) (fun cdv A outer s H vs Q E hr h=>?_)
 ·obtain ⟨r,L,b,i,past,cur,rfl,_⟩:=h
  rfl
 ·obtain ⟨r,L,b,i,past,cur,rfl,_,R,ok,k⟩:=h
  refine ⟨_,#[#[PS.nox 3 #[di 6 #[#[cJ 5 #[0,gq] rfl][#[fP 6 (@dS _) #[()]]]!] (@cf _ (K) _ _ _ _ (4) rfl #[au 5 #[3,cx.nd,fH] #[au 5 #[4,cx.nd,dE] #[au 5 #[5,cx.nd,da] #[au 5 #[6,cx.nd,gl] (@cA _) (by rfl)] (by rfl)] (by rfl)] (by rfl)] (by rfl) (by rfl) (by rfl)) (by rfl) (by rfl) (by rfl)]] :: #[#[bf 4 #[gL 16 G_check_tie (hr.mono (by decide)) iY T.check_tie_.m T.check_tie_.F.kp T.check_tie_.B .nil #[cX 15] #[[#[4,dE],#[1,cN]]] (by decide) (by rfl) (by rfl)] (by rfl)] :: #[#[aN 8 #[ap 8 (@br _) #[#[5,da][#[1,cN]]] #[2,eX] #[(),()]] #[aa 3 #[jI 5 rfl #[lr 15] #[k7 8 T.q_AsItIs T.k_AsItIs jV T.m_AsItIs #[[#[ad 4]]] (by decide) (by rfl) (by rfl)]]] (@aB _)] :: #[aa 3 #[PS.nox 3 #[bf 4 (@b8 _ (K) _ _ _ _ _ _ _ _ _ _ _ PySem.F.plainAttrs_list PySem.F.slot_list_append PySem.F.type_list_append (@b3 _) #[cJ 5 #[0,gq] rfl] #[[#[ar 5 #[[#[3,fH],#[4,dE],#[G_put_at,jG,T.put_at_,#[[#[5,da],#[1,cN],#[2,eX]]]],#[6,gl]]]]]] (by rfl) (by rfl) (by rfl) (by rfl) (by rfl) (by rfl)) (by rfl)]]]]]],?_⟩
  obtain ⟨dx,ys,v,hr',hL,hys,hv⟩:=R.last
  obtain ⟨a,p,t,q,e,ties,rfl,ha,hp,ht,hty,hq,he⟩:=iO hv
  have ly:=hys.length
  have okl:=ok.lp
  rw [List.length_map] at ly
  have lt:=hty.length
  rw [List.length_map] at lt
  have okt:=ok.cu.lt
  refine bi fun D0 n0=>⟨(),r,T.x_Roads,dx,_,(),hr',T.c_Roads,T.n_Roads_states,rfl,(),L,_,_,(),rfl,ao.of hL,fC _ _,a,(),af.of ha,rfl,_,(),_,(),_,(),_,(),rfl,n0 _ _ ?_⟩
  refine bi fun D1 n1=>⟨(),(),t,ties,i,rfl,ht,fun h2=>n1 _ _ ?_,fun h2 H' s'=>k.1 .noTie (by rw [ow,if_neg (by rw [lt] at h2;exact h2)]) H' s'⟩
  have hs:has cur i:=by rw [lt] at h2;exact h2
  obtain ⟨e1,e2,e3,e4,nb⟩:=zf (b:=b) ok.cu hs
  obtain ⟨j,rfl⟩:=Int.eq_ofNat_of_zero_le h2.1
  have hj':j<cur.ts.length:=by trivial
  have g1:((cZ cur).map V.bl)[j]?=some (V.bl (decide ((j:Int)∈cur.sh))):=by rw [List.getElem?_map,jv hj'];rfl
  refine bi fun D2 n2=>⟨(),(),q,_,_,(),rfl,af.of hq,jy g1,(),rfl,(),eQ (fun c=>?_) fun c=>n2 _ _ ?_⟩
  ·have c':decide ((j:Int)∈cur.sh)=b:=by
    have:=of_decide_eq_true c
    injection this
   exact ⟨(by show 1≤10000;decide),fun y H1 m1=>⟨y,T.x_AsItIs,none,(),m1.at',T.q_AsItIs,k.1 .asItIs (by rw [ow,if_pos hs,if_pos c']) _ (pe m1.sm m1.fr)⟩⟩
  have c':¬decide ((j:Int)∈cur.sh)=b:=fun z=>c (decide_eq_true (by rw [z]))
  have rw_:bw cur (nX b (j:Int))=none:=by rw [ow,if_pos hs,if_neg c']
  have ll:((cZ cur).map V.bl).length=cur.ts.length:=by rw [List.length_map,iq]
  refine ⟨(),r,T.x_Roads,dx,_,(),hr',T.c_Roads,T.n_Roads_states,rfl,.inl ⟨rfl,_,ao.of hL⟩,(),(),(),(),(),q,_,j,.bl b,rfl,hq,by rw [ll];exact hj',by rw [ll];exact okt,fun p1 H1 s1 h1=>⟨(),(by show 4≤10000;decide),fun p3 H3 m3=>⟨L,_,(),rfl,(s1.trans m3.sm) _ _ hL,by simp;trivial,fun H4 c4=>?_⟩⟩⟩
  have sb:=s1.trans m3.sm
  obtain ⟨R4,s4⟩:=aH.app (s':=cb cur (nX b (j:Int))) (sts:=past++[cur]) hr' hL (by rw [List.map_append];exact hys.append (.cons hv .nil)) sb (nG (bs:=(cZ cur).set j b) m3.at' (by rw [e1];exact sb _ _ hp) (sb _ _ ht) (by rw [e2];exact hty.mono sb.toE) (by rw [m3.sm _ _ h1,List.map_set]) e4.symm (by rw [e3];exact he.mono sb.toE)) c4
  exact iP k rw_ nb s4 R4 (by rw [xk];exact .non)
theorem y9 (T:Txt K mg):aT P w K mg base (d9 P w) 3 T.f_Roads__shut T.d_Roads__shut ["self", "number"] (rK T.x_Roads (fh T) (some true)):=by
 have G_Roads__set_shut:=#[(nW)]
 refine T.F_Roads__shut.okX pL (fun vs H Q E h=>?_) (fun cdv A outer s H vs Q E hr h=>?_)
 ·obtain ⟨r,L,b,i,past,cur,rfl,_⟩:=h
  rfl
 ·obtain ⟨r,L,b,i,past,cur,rfl,hk,R,ok,k⟩:=h
  cases hk _ rfl
  obtain ⟨dx,ys,v,hr',hL,hys,hv⟩:=R.last
  refine ⟨_,#[aa 3 #[bf 4 #[cy 20 #[0,mX] T.c_Roads T.h_Roads__set_shut G_Roads__set_shut (hr.mono (by decide)) T.B_Roads__set_shut .nil #[cX 15] #[[#[1,lO],#[cW 4]]] (by rfl) (by rfl) (by rfl)] (by rfl)]],?_⟩
  exact ⟨(),r,dx,(),hr',rfl,(),r,L,true,i,past,cur,rfl,(fun z q=>nomatch q),R,ok,k.1,fun e v H' s R t=>by cases t;exact k.2 e .non H' s R .non⟩
theorem v8 (T:Txt K mg):aT P w K mg base (d9 P w) 3 T.f_Roads__reopen T.d_Roads__reopen ["self", "number"] (rK T.x_Roads (fh T) (some false)):=by
 have G_Roads__set_shut:=#[(nW)]
 refine T.F_Roads__reopen.okX oz (fun vs H Q E h=>?_) (fun cdv A outer s H vs Q E hr h=>?_)
 ·obtain ⟨r,L,b,i,past,cur,rfl,_⟩:=h
  rfl
 ·obtain ⟨r,L,b,i,past,cur,rfl,hk,R,ok,k⟩:=h
  cases hk _ rfl
  obtain ⟨dx,ys,v,hr',hL,hys,hv⟩:=R.last
  refine ⟨_,#[aa 3 #[bf 4 #[cy 20 #[0,lH] T.c_Roads T.h_Roads__set_shut G_Roads__set_shut (hr.mono (by decide)) T.B_Roads__set_shut .nil #[cX 15] #[[#[1,kJ],#[cW 4]]] (by rfl) (by rfl) (by rfl)] (by rfl)]],?_⟩
  exact ⟨(),r,dx,(),hr',rfl,(),r,L,false,i,past,cur,rfl,(fun z q=>nomatch q),R,ok,k.1,fun e v H' s R t=>by cases t;exact k.2 e .non H' s R .non⟩
inductive xz (C:Addr) (cl:RW→Addr) (vs:List V) (H:Hp) (Q:VK) (E:XK):Prop
 | mk (r L:Addr) (b e:List Nat) (past:List ai) (cur:ai) (h0:vs=[.ref r,bt b,bt e]) (h1:aH C H r L (past++[cur])) (h2:gk 5000 past cur) (h3:iK C cl r L past cur (.ends b e) H Q E)
def zj (C:Addr) (cl:RW→Addr):Sp:=fun vs H Q E=>xz C cl vs H Q E
theorem sR (T:Txt K mg):aT P w K mg base (d9 P w) 2 T.f_Roads__set_ends T.d_Roads__set_ends ["self", "begin", "end"] (zj T.x_Roads (fh T)):=by
 have G_check_two:=#[(mM)]
 refine T.F_Roads__set_ends.okX cn (fun vs H Q E h=>?_) (fun cdv A outer s H vs Q E hr h=>?_)
 ·obtain ⟨r,L,bb,ee,past,cur,rfl,_⟩:=h
  rfl
 ·obtain ⟨r,L,bb,ee,past,cur,rfl,R,ok,k⟩:=h
  refine ⟨_,#[#[PS.nox 3 #[di 6 #[#[cJ 5 #[0,gh] rfl][#[fP 6 (@dS _) #[()]]]!] (@cf _ (K) _ _ _ _ (4) rfl #[au 5 #[3,cn.nd,cQ] #[au 5 #[4,cn.nd,gi] #[au 5 #[5,cn.nd,fW] #[au 5 #[6,cn.nd,kE] (@cA _) (by rfl)] (by rfl)] (by rfl)] (by rfl)] (by rfl) (by rfl) (by rfl)) (by rfl) (by rfl) (by rfl)]] :: #[#[bf 4 #[gL 16 G_check_two (hr.mono (by decide)) iV T.check_two_.m T.check_two_.F.kp T.check_two_.B .nil #[cX 15] #[[#[3,cQ],#[1,f6],#[2,gN]]] (by decide) (by rfl) (by rfl)] (by rfl)] :: #[aa 3 #[PS.nox 3 #[bf 4 (@b8 _ (K) _ _ _ _ _ _ _ _ _ _ _ PySem.F.plainAttrs_list PySem.F.slot_list_append PySem.F.type_list_append (@b3 _) #[cJ 5 #[0,gh] rfl] #[[#[ar 5 #[[#[3,cQ],#[4,gi],#[5,fW],#[ar 5 #[[#[1,f6],#[2,gN]]]]]]]]] (by rfl) (by rfl) (by rfl) (by rfl) (by rfl) (by rfl)) (by rfl)]]]]],?_⟩
  obtain ⟨dx,ys,v,hr',hL,hys,hv⟩:=R.last
  obtain ⟨a,p,t,q,e,ties,rfl,ha,hp,ht,hty,hq,he⟩:=iO hv
  have ly:=hys.length
  have okl:=ok.lp
  rw [List.length_map] at ly
  refine bi fun D0 n0=>⟨(),r,T.x_Roads,dx,_,(),hr',T.c_Roads,T.n_Roads_states,rfl,(),L,_,_,(),rfl,ao.of hL,fC _ _,a,(),af.of ha,rfl,_,(),_,(),_,(),_,(),rfl,n0 _ _ ?_⟩
  refine bi fun D1 n1=>⟨(),(),(),p,cur.pl,bb,ee,rfl,hp,fun h2=>n1 _ _ ?_,fun h2 H' s'=>k.1 .noPlace (if_neg h2) H' s'⟩
  have rw_:bw cur (.ends bb ee)=none:=if_pos h2
  refine ⟨(),r,T.x_Roads,dx,_,(),hr',T.c_Roads,T.n_Roads_states,rfl,.inl ⟨rfl,_,ao.of hL⟩,(),(),(),(),(),(by show 2≤10000;decide),fun p1 H1 m1=>⟨(by show 4≤10000;decide),fun p3 H3 m3=>⟨L,_,(),rfl,(m1.sm.trans m3.sm) _ _ hL,by simp;trivial,fun H4 c4=>?_⟩⟩⟩
  have sb:=m1.sm.trans m3.sm
  obtain ⟨R4,s4⟩:=aH.app (s':=cb cur (.ends bb ee)) (sts:=past++[cur]) hr' hL (by rw [List.map_append];exact hys.append (.cons hv .nil)) sb (nG (bs:=cZ cur) m3.at' (sb _ _ hp) (sb _ _ ht) (hty.mono sb.toE) (sb _ _ hq) rfl (.tup (m3.sm _ _ m1.at') (.cons (.str _) (.cons (.str _) .nil)))) c4
  exact iP k rw_ (by intro z;cases z) s4 R4 .non
inductive Av (C:Addr) (vs:List V) (H:Hp) (Q:VK):Prop
 | mk (r L:Addr) (past:List ai) (cur:ai) (h0:vs=[.ref r]) (h1:aH C H r L (past++[cur])) (h2:Q (.int (past.length:Nat)) H)
def Ct (C:Addr):Sp:=fun vs H Q _=>Av C vs H Q
theorem r9 (T:Txt K mg):aT P w K mg base CX0 1 T.f_Roads__deeds T.d_Roads__deeds ["self"] (Ct T.x_Roads):=by
 refine T.F_Roads__deeds.ok pi (fun vs H Q E h=>?_) (fun cdv A outer s H vs Q E hr h=>?_)
 ·obtain ⟨r,L,past,cur,rfl,_⟩:=h
  rfl
 ·obtain ⟨r,L,past,cur,rfl,R,k⟩:=h
  refine ⟨_,#[aa 3 #[am 4 #[ax 8 (@iZ _) #[(),(),(@dI _ (K) (by rfl)),mV,T.b_len,(@bh),#[[#[cJ 5 #[0,lX] rfl]]]] #[()]]]],?_⟩
  obtain ⟨dx,ys,v,hr',hL,hys,hv⟩:=R.last
  have ly:=hys.length
  rw [List.length_map] at ly
  refine ⟨(),r,T.x_Roads,dx,_,(),hr',T.c_Roads,T.n_Roads_states,rfl,L,(),.inl (ao.of hL),_,(),rfl,?_⟩
  have e:(((ys++[v]).length:Nat):Int) - 1=(past.length:Nat):=by simp;trivial
  show Q (V.int ((((ys++[v]).length:Nat):Int) - 1)) H
  rw [e]
  exact k
inductive yU (C:Addr) (vs:List V) (H:Hp) (Q:VK):Prop
 | mk (r L:Addr) (past:List ai) (cur:ai) (h0:vs=[.ref r]) (h1:aH C H r L (past++[cur])) (h2:∀H',aD (Eb L) H H'→aH C H' r L (kO past cur .back++[kN past cur .back])→Q (.bl (!past.isEmpty)) H')
def AQ (C:Addr):Sp:=fun vs H Q _=>yU C vs H Q
theorem yp (T:Txt K mg):aT P w K mg base CX0 2 T.f_Roads__back T.d_Roads__back ["self"] (AQ T.x_Roads):=by
 have G_Roads__deeds:=#[(r9)]
 refine T.F_Roads__back.ok pV (fun vs H Q E h=>?_) (fun cdv A outer s H vs Q E hr h=>?_)
 ·obtain ⟨r,L,past,cur,rfl,_⟩:=h
  rfl
 ·obtain ⟨r,L,past,cur,rfl,R,k⟩:=h
  refine ⟨_,#[#[aN 8 #[ap 8 (@br _) #[jF 17 #[0,i3] T.c_Roads T.h_Roads__deeds G_Roads__deeds (hr.mono (by decide)) T.B_Roads__deeds .nil (@iI _) (by rfl)] #[()] #[(),()]] #[aa 3 #[am 4 #[cW 4]]] (@aB _)] :: #[#[bf 4 #[uZ 9 PySem.F.plainAttrs_list PySem.F.slot_list_pop PySem.F.type_list_pop (@tS _) #[cJ 5 #[0,i3] rfl] (by rfl) (by rfl)] (by rfl)] :: #[aa 3 #[am 4 #[cW 4]]]]],?_⟩
  obtain ⟨dx,ys,v,hr',hL,hys,hv⟩:=R.last
  refine cw fun D0 n0 r0=>⟨(),r,dx,(),hr',rfl,r,L,past,cur,rfl,R,rfl,(),?_⟩
  rcases lP past with rfl | ⟨pp,z,rfl⟩
  ·exact aY (r0 _ _ (k H (aD.refl _) R))
  ·rw [decide_eq_false (show ¬(V.int (((pp++[z]).length:Nat):Int)=V.int 0) from fun q=>by injection q with q;simp at q;trivial)]
   refine aO (n0 _ _ ?_)
   refine bi fun D1 n1=>⟨(),r,T.x_Roads,dx,_,(),hr',T.c_Roads,T.n_Roads_states,rfl,.inl ⟨rfl,_,ao.of hL⟩,L,ys,v,rfl,rfl,hL,fun H1 c1=>n1 _ _ ?_⟩
   have se:=Ch.sameE (aj.refl H) hL c1
   have e:(!(pp++[z]).isEmpty)=true:=by cases pp <;> rfl
   have k1:=k H1 se (by
    rw [ip.1,ip.2]
    exact ⟨dx,ys,se.old _ _ R.ne hr',c1.at',hys.tupS se⟩)
   rw [e] at k1
   exact k1
inductive xg (C:Addr) (vs:List V) (H:Hp) (Q:VK):Prop
 | mk (r L:Addr) (past:List ai) (cur:ai) (h0:vs=[.ref r]) (h1:aH C H r L (past++[cur])) (h2:∀v,aC ED H v (o8 cur.en)→Q v H)
def yQ (C:Addr):Sp:=fun vs H Q _=>xg C vs H Q
theorem yR (T:Txt K mg):aT P w K mg base CX0 1 T.f_Roads__ends T.d_Roads__ends ["self"] (yQ T.x_Roads):=by
 refine T.F_Roads__ends.ok pT (fun vs H Q E h=>?_) (fun cdv A outer s H vs Q E hr h=>?_)
 ·obtain ⟨r,L,past,cur,rfl,_⟩:=h
  rfl
 ·obtain ⟨r,L,past,cur,rfl,R,k⟩:=h
  refine ⟨_,#[aa 3 #[am 4 #[#[#[cJ 5 #[0,l7] rfl][#[fP 6 (@dS _) #[()]]]!][#[()]]]]],?_⟩
  obtain ⟨dx,ys,v,hr',hL,hys,hv⟩:=R.last
  obtain ⟨a,p,t,q,e,ties,rfl,ha,hp,ht,hty,hq,he⟩:=iO hv
  exact ⟨(),r,T.x_Roads,dx,_,(),hr',T.c_Roads,T.n_Roads_states,rfl,(),L,_,_,(),rfl,ao.of hL,fC _ _,a,_,_,(),rfl,af.of ha,rfl,k _ he⟩
inductive ya (C:Addr) (c:Addr) (vs:List V) (H:Hp) (Q:VK) (E:XK):Prop
 | mk (r L:Addr) (i:Int) (past:List ai) (cur:ai) (h0:vs=[.ref r,.int i]) (h1:aH C H r L (past++[cur])) (h2:(has cur i→Q (.bl (decide (i∈cur.sh))) H)) (h3:(¬has cur i→∀H',aj H H'→E (.ref c) none H'))
def zx (C:Addr) (c:Addr):Sp:=fun vs H Q E=>ya C c vs H Q E
theorem pA (T:Txt K mg):aT P w K mg base (d9 P w) 2 T.f_Roads__is_shut T.d_Roads__is_shut ["self", "number"] (zx T.x_Roads T.x_NoTie):=by
 have G_check_tie:=#[(kd)]
 refine T.F_Roads__is_shut.okX jk (fun vs H Q E h=>?_) (fun cdv A outer s H vs Q E hr h=>?_)
 ·obtain ⟨r,L,i,past,cur,rfl,_⟩:=h
  rfl
 ·obtain ⟨r,L,i,past,cur,rfl,R,k1,k2⟩:=h
  refine ⟨_,#[#[PS.nox 3 #[2,jk.nd,dF,#[#[#[cJ 5 #[0,k6] rfl][#[fP 6 (@dS _) #[()]]]!][#[()]]]]] :: #[#[bf 4 #[gL 16 G_check_tie (hr.mono (by decide)) i6 T.check_tie_.m T.check_tie_.F.kp T.check_tie_.B .nil #[cX 15] #[[#[2,dF],#[1,fZ]]] (by decide) (by rfl) (by rfl)] (by rfl)] :: #[aa 3 #[PS.nox 3 #[am 4 #[#[2,dF][#[1,fZ]]]]]]]],?_⟩
  obtain ⟨dx,ys,v,hr',hL,hys,hv⟩:=R.last
  obtain ⟨a,p,t,q,e,ties,rfl,ha,hp,ht,hty,hq,he⟩:=iO hv
  have ll:((cZ cur).map V.bl).length=cur.ts.length:=by rw [List.length_map,iq]
  refine f7 fun Q1 n1=>⟨(),r,T.x_Roads,dx,_,(),hr',T.c_Roads,T.n_Roads_states,rfl,(),L,_,_,(),rfl,ao.of hL,fC _ _,a,_,_,(),rfl,af.of ha,rfl,n1 _ _ ?_⟩
  refine bi fun D1 n1=>⟨(),(),q,_,i,rfl,hq,fun h2=>n1 _ _ ?_,fun h2 H' s'=>k2 (by rw [ll] at h2;exact h2) H' s'⟩
  have hs:has cur i:=by rw [ll] at h2;exact h2
  have k3:=k1 hs
  obtain ⟨j,rfl⟩:=Int.eq_ofNat_of_zero_le h2.1
  have hj':j<cur.ts.length:=by trivial
  have g1:((cZ cur).map V.bl)[j]?=some (V.bl (decide ((j:Int)∈cur.sh))):=by rw [List.getElem?_map,jv hj'];rfl
  exact ⟨(),(),q,_,_,(),rfl,af.of hq,jy g1,k3⟩
end
end K37
namespace K37
open PySem L2
section
variable {P:Program}{w:World}{K:PySem.W.Frag}{mg:Str→Option Value}{base:Heap}
def nQ (s:ai) (i:Nat):PyData:=match s.ts[i]? with
 | some t=>fJ (if ((i:Nat):Int)∈s.sh then { t with most:=(0,1) } else t)
 | none=>.none
def rJ (s:ai):PyData:=.tuple [.tuple (s.pl.map fun l=>.str (S l)),.tuple ((List.range s.ts.length).map (nQ s))]
inductive yo (C:Addr) (vs:List V) (H:Hp) (Q:VK):Prop
 | mk (r L:Addr) (past:List ai) (cur:ai) (h0:vs=[.ref r]) (h1:aH C H r L (past++[cur])) (h2:gk 5000 past cur) (h3:∀v H',aj H H'→aC ED H' v (rJ cur)→Q v H')
def AN (C:Addr):Sp:=fun vs H Q _=>yo C vs H Q
theorem AL (T:Txt K mg):aT P w K mg base CX0 2 T.f_Roads__net T.d_Roads__net ["self"] (AN T.x_Roads):=by
 have G_put_at:=#[(l6)]
 refine T.F_Roads__net.ok eh (fun vs H Q E h=>?_) (fun cdv A outer s H vs Q E hr h=>?_)
 ·obtain ⟨r,L,past,cur,rfl,_⟩:=h
  rfl
 ·obtain ⟨r,L,past,cur,rfl,R,ok,k⟩:=h
  refine ⟨_,#[#[di 6 #[#[cJ 5 #[0,nP] rfl][#[fP 6 (@dS _) #[()]]]!] (@cf _ (K) _ _ _ _ (4) rfl #[au 5 #[1,eh.nd,ik] #[au 5 #[2,eh.nd,jg] #[au 5 #[3,eh.nd,iN] #[au 5 #[4,eh.nd,nO] (@cA _) (by rfl)] (by rfl)] (by rfl)] (by rfl)] (by rfl) (by rfl) (by rfl)) (by rfl) (by rfl) (by rfl)] :: #[aa 3 #[am 4 #[ar 5 #[[#[1,ik],#[dh 9 (@ir _ (K) (by rfl)) mo T.b_tuple (@db) #[[#[jQ 7 (["tie", "shut"]) (2) ([]) _ _ _ _ rfl (by kernel_rfl) (@sq _ (K) _ _ _ _ _ _ _ _ om T.b_zip #[[#[2,jg],#[3,iN]]] (by rfl) (by rfl) (by rfl)) (fun _ _ _ _ _ _=>(@cf _ (K) _ _ _ _ (2) rfl #[au 5 #[0,(),()] #[au 5 #[1,(),()] (@cA _) (by rfl)] (by rfl)] (by rfl) (by rfl) (by rfl))) (fun _ _ _ _ _ _=>@iD _) (fun _ _ _ _ _ _=>#[cR 8 #[dk 3 #[1,()] (by intro _;rfl)] #[G_put_at,(),T.put_at_,#[[#[0,()],#[()],#[ar 5 #[[#[()],#[()]]]]]]] #[0,()]]) (by intro _;rfl)]]] (by decide) (by decide) (by rfl) (by rfl)]]]]]]],?_⟩
  obtain ⟨dx,ys,v,hr',hL,hys,hv⟩:=R.last
  obtain ⟨a,p,t,q,e,ties,rfl,ha,hp,ht,hty,hq,he⟩:=iO hv
  have lt:=hty.length
  rw [List.length_map] at lt
  have okt:=ok.cu.lt
  have ll:((cZ cur).map V.bl).length=cur.ts.length:=by rw [List.length_map,iq]
  refine bi fun D0 n0=>⟨(),r,T.x_Roads,dx,_,(),hr',T.c_Roads,T.n_Roads_states,rfl,(),L,_,_,(),rfl,ao.of hL,fC _ _,a,(),af.of ha,rfl,_,(),_,(),_,(),_,(),rfl,n0 _ _ ?_⟩
  refine ⟨(),(),(),t,q,false,false,rfl,⟨ties,af.of ht⟩,⟨_,af.of hq⟩,fun D hD=>?_⟩
  refine uA (n:=cur.ts.length) (nQ cur) (by trivial) hD (fun i H' hi sm=>⟨ties,_,ties[i]'(by trivial),_,af.of (sm _ _ ht),af.of (sm _ _ hq),List.getElem?_eq_getElem (by trivial),by rw [List.getElem?_map,jv hi];rfl⟩) (fun H' sm=>⟨ties,_,af.of (sm _ _ ht),af.of (sm _ _ hq),.inl lt⟩) ?_ ?_
  ·rintro i x H' H'' R' hi sm ⟨Tp,xx,yy,hT,rfl,rfl,e1,e2⟩ kk
   have e1':=e1 _ (af.of (sm _ _ ht))
   have e2':=e2 _ (af.of (sm _ _ hq))
   rw [List.getElem?_map,jv hi] at e2'
   obtain rfl:V.bl (decide ((i:Int)∈cur.sh))=yy:=Option.some.inj e2'
   have e3:cur.ts[i]?=some cur.ts[i]:=List.getElem?_eq_getElem hi
   have dj:aC ED H xx (fJ cur.ts[i]):=hty.nth i e1' (by rw [List.getElem?_map,e3];rfl)
   obtain ⟨ta,m,g,pr,rfl,hta,hm,hg,hpr⟩:=nn dj
   have st:=aj.new (o:=.tup [.ref ta,.bl (decide ((i:Int)∈cur.sh))]) hT
   refine ⟨Tp,(),af.of az,rfl,_,(),_,(),rfl,o7,(),(),?_⟩
   have sa:=sm.trans st
   by_cases hs:(i:Int)∈cur.sh
   ·rw [decide_eq_true hs] at st sa ⊢
    refine aY ⟨(),(by show 2≤10000;decide),fun p1 H1 m1=>⟨ta,_,2,.ref p1,rfl,(sa.trans m1.sm) _ _ hta,(by show 2<5;decide),(by show 5≤5000;decide),fun p2 H2 s2 h2=>?_⟩⟩
    have sb:=(sa.trans m1.sm).trans s2
    refine kk _ _ ((st.trans m1.sm).trans s2) ?_
    unfold nQ
    rw [e3]
    simp only [hs,if_true]
    exact .tup h2 (.cons (.str _) (.cons (.str _) (.cons (.tup (s2 _ _ m1.at') (.cons (.int _) (.cons (.int _) .nil))) (.cons (hg.mono sb.toE) (.cons (hpr.mono sb.toE) .nil)))))
   ·rw [decide_eq_false hs] at st sa ⊢
    refine aO ⟨(),kk _ _ st ?_⟩
    unfold nQ
    rw [e3]
    simp only [hs,if_false]
    exact dj.mono sa.toE
  ·intro zs H1 s1 h1 ia
   refine ⟨D,zs,rfl,ao.of h1,fun l H2 m2=>⟨(by show 2≤10000;decide),fun p3 H3 m3=>k _ _ ((s1.trans m2.sm).trans m3.sm) ?_⟩⟩
   exact .tup m3.at' (.cons (.tup (((s1.trans m2.sm).trans m3.sm) _ _ hp) (lL _)) (.cons (.tup (m3.sm _ _ m2.at') (ia.mono (m2.sm.trans m3.sm).toE)) .nil))
end
end K37
namespace K37
open PySem L2
section
variable {P:Program}{w:World}{K:PySem.W.Frag}{mg:Str→Option Value}{base:Heap}
theorem Bf (T:Txt K mg):aT P w K mg base CX0 1 T.l_box_.f T.l_box_.d ["_law_script", "_law_k"] (Cu K):=by
 refine T.l_box_.F.ok oH (fun vs H Q E h=>?_) (fun cdv A outer s H vs Q E hr h=>?_)
 ·obtain ⟨a,ms,k,rfl,_⟩:=h
  rfl
 ·obtain ⟨a,ms,k,rfl,hS,hk0,hk1,kk⟩:=h
  refine ⟨_,(gG (ma (i:=2) oH.nd rfl (Or.inl rfl) bx)
   (gG (aN (ap eU (pv 1) (jS mi (by rfl) T.b_len bh (eH (pv 0) cq)) (oW _)) (aa (ma (i:=2) oH.nd rfl (Or.inl rfl) (aU hG (pv 0) (pv 1) (fun _ _=>rfl)))) aB)
   (aa (am (zF (eH (ax gn (jS lI (by rfl) T.b_abs jq (eH (pv 2) cq)) (dh qy (by rfl) T.b_int kG (eH (bD Cp (jS lI (by rfl) T.b_abs jq (eH (pv 2) cq)) (ax rZ bx bx) (oW _)) cq))) (eH (ax iU (ax ce (pv 2) (ax gn (ax gn bx (pv 1)) (pv 1))) bx) (eH bx cq)))))))),?_⟩
  refine ⟨(),(),a,(),.inl hS,_,(),rfl,(),?_⟩
  refine eQ (fun h=>?_) (fun h=>?_)
  case' refine_1=>
   have hlt:k.toNat<ms.length:=by
    have h':=of_decide_eq_true h
    rw [List.length_map] at h'
    trivial
   refine ⟨(),(),.inl ⟨a,_,_,V.int ms[k.toNat],rfl,rfl,hS,?_,?_⟩⟩
   ·exact tG hk0 hlt
  all_goals
   refine ⟨(),(),(),(),_,(),rfl,⟨by decide,by decide,by decide⟩,_,(),rfl,.inr ⟨(),_,(),rfl,.inr ?_,(),(),_,(),rfl,.inr ⟨by trivial,by trivial⟩,(),_,(),rfl,.inr ⟨by trivial,by trivial⟩,_,(),rfl,_,(),rfl,?_,?_,fun p hp=>kk p _ hp (aj.new hp) ⟨_,_,az,?_,?_,?_⟩⟩⟩
   ·exact Dz _
   ·show (0:Int)<2147483647;decide
   ·show 3≤sizeLine;decide
   ·exact Bt _ (rF _)
   ·exact Int.emod_nonneg _ (by decide)
   ·exact Int.emod_lt_of_pos _ (by decide)
end
end K37
namespace K37
open PySem L2
section
variable {P:Program}{w:World}{K:PySem.W.Frag}{mg:Str→Option Value}{base:Heap}
theorem ju (T:Txt K mg):aT P w K mg base CX0 1 T.l_take_.f T.l_take_.d ["_law_box_here", "_law_many"] vF:=by
 refine T.l_take_.F.ok mI (fun vs H Q E h=>?_) (fun cdv A outer s H vs Q E hr h=>?_)
 ·obtain ⟨b,many,t,rfl,_⟩:=h
  rfl
 ·obtain ⟨b,many,t,rfl,⟨c,x,hb,hc,hx0,hx1⟩,hm0,hm1,ht0,ht1,kk⟩:=h
  refine ⟨_,(gG (aN (ap re (aU hG (pv 0) bx (fun _ _=>rfl)) bx (oW _)) (gG (di (jS sw (by rfl) T.b_divmod qR (eH (aU hG (pv 0) bx (fun _ _=>rfl)) (eH (pv 1) cq))) (vv rfl (au (ml (pv 0) bx oj) (au (jw (i:=2) mI.nd rfl (Or.inl rfl)) cA))))
   (aa (am (pv 2)))) aB)
   (gG (di (ax ce (aU hG (pv 0) bx (fun _ _=>rfl)) bx) (ml (pv 0) bx oj))
   (gG (ma (i:=3) mI.nd rfl (Or.inl rfl) (ax iU (ax rZ (ax ce (aU hG (pv 0) bx (fun _ _=>rfl)) (ax gn bx (aU hG (pv 0) bx (fun _ _=>rfl)))) bx) bx))
   (aa (am (ax iU (ax yi (ax iU (ax ce (ax gn (pv 3) bx) (ax gn (ax gn (aU hG (pv 0) bx (fun _ _=>rfl)) (aU hG (pv 0) bx (fun _ _=>rfl))) bx)) bx) bx) (pv 1))))))),?_⟩
  refine ⟨(),.inl ⟨b,_,_,(),rfl,ao.of hb,rfl,_,(),rfl,(),?_⟩⟩
  refine eQ (fun h=>?_) (fun h=>?_)
  ·refine ⟨(),.inl ⟨b,_,_,(),rfl,ao.of hb,rfl,(),_,(),⟨hm0,hm1⟩,fun p hp=>⟨p,(),af.of az,rfl,_,(),(),b,[.int c,.int x,.int t],_,0,rfl,rfl,?_,rfl,_,(),rfl,(),?_⟩⟩⟩
   ·rw [ak (aE hb hp)];exact hb
   ·have hb':aI H p (.tup [.int (c / many),.int (c % many)]) b=some (.lst [.int c,.int x,.int t]):=by rw [ak (aE hb hp)];exact hb
    exact kk _ t _ (Int.emod_nonneg _ (Int.ne_of_gt hm0)) (Int.emod_lt_of_pos _ hm0) (Int.le_refl _) (by trivial) (qj (aj.new hp) hb') ⟨_,_,az,Int.ediv_nonneg hc (Int.le_of_lt hm0),hx0,hx1⟩
  ·refine ⟨(),.inl ⟨b,_,_,(),rfl,ao.of hb,rfl,_,(),rfl,(),b,_,_,2,rfl,rfl,hb,rfl,?_⟩⟩
   refine ⟨(),.inl ⟨b,_,_,(),rfl,ao.of az,rfl,(),.inl ⟨b,_,_,(),rfl,ao.of az,rfl,_,(),rfl,.inl ⟨by decide,by decide⟩,_,(),rfl,_,(),rfl,⟨by decide,by decide,?_⟩,_,(),rfl,?_,?_⟩⟩⟩
   ·have:(x+39373*(t+1)).natAbs<2 ^ 64:=by trivial
    exact this
   ·show (0:Int)<2147483647;decide
   have ho0:0≤(x+39373*(t+1)) ^ (5:Int).toNat % 2147483647:=Int.emod_nonneg _ (by decide)
   have ho1:(x+39373*(t+1)) ^ (5:Int).toNat % 2147483647<2147483647:=Int.emod_lt_of_pos _ (by decide)
   generalize (x+39373*(t+1)) ^ (5:Int).toNat % 2147483647=on at ho0 ho1 ⊢
   refine ⟨(),_,(),rfl,.inr ⟨by decide,by decide⟩,(),.inl ⟨b,_,_,(),rfl,ao.of az,rfl,(),.inl ⟨b,_,_,(),rfl,ao.of az,rfl,_,(),rfl,.inl ⟨?_,?_⟩,_,(),rfl,.inr ⟨by decide,by decide⟩,_,(),rfl,_,(),rfl,?_,_,(),rfl,⟨by decide,by decide⟩,(),_,(),rfl,hm0,?_⟩⟩⟩
   ·show -(2 ^ 64)<t+1;trivial
   ·show t+1<2 ^ 64;trivial
   ·show (0:Int)<2147483629;decide
   ·exact kk _ (t+1) _ (Int.emod_nonneg _ (Int.ne_of_gt hm0)) (Int.emod_lt_of_pos _ hm0) (by trivial) (Int.le_refl _) (qj (aj.refl H) hb) ⟨c,x,az,hc,hx0,hx1⟩
end
end K37
namespace K37
open PySem L2
set_option maxHeartbeats 4000000
section
variable {P:Program}{w:World}{K:PySem.W.Frag}{mg:Str→Option Value}{base:Heap}
theorem zn {n d:Int} (hd:d≠0) (h:d.natAbs.log2<9000):uy n ((Int.gcd n d:Nat):Int):=by
 have g0:=KM.gcd_pos (n:=n) hd
 refine ⟨by trivial,?_⟩
 have h1:Int.gcd n d≤d.natAbs:=Nat.le_of_dvd (by trivial) (by
  have:((Int.gcd n d:Nat):Int) ∣ d:=Int.gcd_dvd_right ..
  exact Int.ofNat_dvd_left.mp this)
 have h2:d.natAbs<2 ^ 9000:=(Nat.log2_lt (by trivial)).mp h
 rw [Int.natAbs_natCast]
 exact (Nat.log2_lt (by trivial)).mpr (Nat.lt_of_le_of_lt h1 h2)
inductive BF (vs:List V) (H:Hp) (Q:VK):Prop
 | mk (n d:Int) (h0:vs=[.int n,.int d]) (h1:0<d) (h2:d≤1000000) (h3:∀p H',Nw H p (fr (KM.low n d)) H'→Q (.ref p) H')
def C8:Sp:=fun vs H Q _=>BF  vs H Q
theorem ut (T:Txt K mg):aT P w K mg base CX0 1 T.l_fr_.f T.l_fr_.d ["_law_top", "_law_bottom"] C8:=by
 refine T.l_fr_.F.ok nq (fun vs H Q E h=>?_) (fun cdv A outer s H vs Q E hr h=>?_)
 ·obtain ⟨n,d,rfl,_⟩:=h
  rfl
 ·obtain ⟨n,d,rfl,hd,hs,k⟩:=h
  have hl:d.natAbs.log2<9000:=sL hd (by trivial)
  refine ⟨_,#[#[jz 2 (2) (3) _ _ _ _ _ _ _ _ _ _ _ rfl nq.nd rfl rfl (by decide) eZ dP #[[#[(),(),(@lI _),oX,T.b_abs,(@jq),#[[#[0,mF]]]],#[(),(),(@lI _),oX,T.b_abs,(@jq),#[[#[1,gX]]]]]] (by kernel_rfl) (by rfl)] :: #[#[wI 6 PassesOwn.never #[ap 8 (@re _) #[3,dP] #[()] #[(),()]] #[aa 3 #[jz 2 (2) (3) _ _ _ _ _ _ _ _ _ _ _ rfl nq.nd rfl rfl (by decide) eZ dP #[[#[3,dP],#[ax 8 (@iU _) #[2,eZ] #[3,dP]]]] (by kernel_rfl) (by rfl)]]] :: #[#[4,nq.nd,kr,#[cR 8 #[ap 8 (@re _) #[1,gX] #[()] #[(),()]] #[2,eZ] #[fP 6 (@dS _) #[2,eZ]]]] :: #[aa 3 #[am 4 #[ar 5 #[[#[ax 8 (@sr _) #[0,mF] #[4,kr]],#[ax 8 (@sr _) #[1,gX] #[4,kr]]]]]]]]]],?_⟩
  refine ⟨(),(),(),(),_,(),?_⟩
  refine ⟨fun m σ H'=>∃a b:Int,σ=[some (.int n),some (.int d),some (.int a),some (.int b),none]∧H'=H∧0≤a∧0≤b∧Int.gcd a b=Int.gcd n d∧m=b.natAbs,⟨_,_,(),rfl,rF n,rF d,KM.gcd_abs n d,rfl⟩,?_⟩
  rintro m σ H' ⟨a,b,rfl,rfl,ha,hb,hg,rfl⟩
  refine ⟨(),_,(),rfl,(),?_⟩
  by_cases hb0:0<b
  ·rw [decide_eq_true hb0]
   refine aY ⟨fun σ' H''=>∃a' b':Int,σ'=[some (.int n),some (.int d),some (.int a'),some (.int b'),none]∧H''=H'∧0≤a'∧0≤b'∧Int.gcd a' b'=Int.gcd n d∧b'.natAbs<b.natAbs,?_,?_⟩
   ·rintro σ' H'' ⟨a',b',rfl,rfl,h0,h1,h2,h3⟩
    exact ⟨_,h3,a',b',rfl,rfl,h0,h1,h2,rfl⟩
   ·refine ⟨(),(),(),_,(),rfl,hb0,_,(),?_⟩
    have q0:=Int.emod_nonneg a (Int.ne_of_gt hb0)
    have q1:=Int.emod_lt_of_pos a hb0
    exact ⟨b,a % b,rfl,rfl,hb,q0,(KM.gcd_emod a b).trans hg,by trivial⟩
  ·have hb1:b=0:=by trivial
   subst hb1
   rw [decide_eq_false hb0]
   refine aO ?_
   have eg:a=((Int.gcd n d:Nat):Int):=by
    rw [←hg,KM.gcd_zero_abs,if_neg (by trivial)]
   have c1:=zn (n:=n) (Int.ne_of_gt hd) hl
   rw [←eg] at c1
   refine ⟨(),_,(),rfl,(),?_⟩
   rw [decide_eq_true hd]
   refine aY ⟨(),?_⟩
   refine ⟨(),(),_,(),rfl,c1,(),(),_,(),rfl,⟨c1.1,c1.2⟩,(by show 2≤10000;decide),fun p H2 n2=>k p H2 ?_⟩
   unfold KM.low
   rw [if_pos hd,←eg]
   exact n2
inductive Ck (vs:List V) (H:Hp) (Q:VK):Prop
 | mk (b:Addr) (t:Int) (h0:vs=[.ref b]) (h1:Bx H b t) (h2:0≤t) (h3:t≤900000) (h4:∀(o:Addr) (z:KM.Fra) (t':Int) (H':Hp),aD (Eb b) H H'→H' o=some (fr z)→Bx H' b t'→t≤t'→t'≤t+3→Q (.ref o) H')
def xt:Sp:=fun vs H Q _=>Ck  vs H Q
theorem yb (T:Txt K mg):aT P w K mg base CX0 2 T.l_gain_.f T.l_gain_.d ["_law_box_here"] xt:=by
 have G_l_take:=#[(ju)]
 have G_l_fr:=#[(ut)]
 refine T.l_gain_.F.ok mO (fun vs H Q E h=>?_) (fun cdv A outer s H vs Q E hr h=>?_)
 ·obtain ⟨b,t,rfl,_⟩:=h
  rfl
 ·obtain ⟨b,t,rfl,B,ht0,ht1,k⟩:=h
  refine ⟨_,#[#[1,mO.nd,iH,#[G_l_take,hV,T.l_take_,#[[#[0,eO],#[()]]]]] :: #[#[aN 8 #[ap 8 (@eU _) #[1,iH] #[()] #[(),()]] #[aa 3 #[am 4 #[ar 5 #[[#[()],#[()]]]]]] (@aB _)] :: #[#[2,mO.nd,fA,#[cR 8 #[ap 8 (@eU _) #[1,iH] #[()] #[(),()]] #[()] #[()]]] :: #[aa 3 #[am 4 #[G_l_fr,qS,T.l_fr_,#[[#[ax 8 (@ce _) #[()] #[G_l_take,hV,T.l_take_,#[[#[0,eO],#[2,fA]]]]],#[ax 8 (@ce _) #[()] #[G_l_take,hV,T.l_take_,#[[#[0,eO],#[2,fA]]]]]]]]]]]]],?_⟩
  refine ⟨(),b,8,t,rfl,B,by decide,by decide,ht0,by trivial,fun wy t1 H1 w0 w1 h1a h1b s1 B1=>?_⟩
  refine ⟨(),_,(),rfl,(),eQ (fun c=>?_) (fun c=>?_)⟩
  ·exact ⟨(by show 2≤10000;decide),fun o H2 n2=>k o (1,1) t1 H2 (s1.trans n2.sm.toE) n2.at' (B1.same n2.sm) (by trivial) (by trivial)⟩
  refine ⟨(),_,(),rfl,(),?_⟩
  refine eQ (fun c2=>?_) (fun c2=>?_)
  ·refine ⟨(),(),b,12,t1,rfl,B1,by decide,by decide,by trivial,by trivial,fun r2 t2 H2 a20 a21 _ _ s2 B2=>⟨_,(),rfl,(),(),b,12,t2,rfl,B2,by decide,by decide,by trivial,by trivial,fun r3 t3 H3 a30 a31 _ _ s3 B3=>⟨_,(),rfl,_,(),by trivial,by trivial,fun o H4 n4=>?_⟩⟩⟩
   exact k o _ t3 H4 (((s1.trans s2).trans s3).trans n4.sm.toE) n4.at' (B3.same n4.sm) (by trivial) (by trivial)
  ·refine ⟨(),(),b,60,t1,rfl,B1,by decide,by decide,by trivial,by trivial,fun r2 t2 H2 a20 a21 _ _ s2 B2=>⟨_,(),rfl,(),(),b,60,t2,rfl,B2,by decide,by decide,by trivial,by trivial,fun r3 t3 H3 a30 a31 _ _ s3 B3=>⟨_,(),rfl,_,(),by trivial,by trivial,fun o H4 n4=>?_⟩⟩⟩
   exact k o _ t3 H4 (((s1.trans s2).trans s3).trans n4.sm.toE) n4.at' (B3.same n4.sm) (by trivial) (by trivial)
theorem yO (T:Txt K mg):aT P w K mg base CX0 2 T.l_much_.f T.l_much_.d ["_law_box_here"] xt:=by
 have G_l_take:=#[(ju)]
 have G_l_fr:=#[(ut)]
 refine T.l_much_.F.ok qq (fun vs H Q E h=>?_) (fun cdv A outer s H vs Q E hr h=>?_)
 ·obtain ⟨b,t,rfl,_⟩:=h
  rfl
 ·obtain ⟨b,t,rfl,B,ht0,ht1,k⟩:=h
  refine ⟨_,#[#[1,qq.nd,fN,#[G_l_take,gU,T.l_take_,#[[#[0,eS],#[()]]]]] :: #[#[aN 8 #[ap 8 (@br _) #[1,fN] #[()] #[(),()]] #[aa 3 #[am 4 #[ar 5 #[[#[()],#[()]]]]]] (@aB _)] :: #[#[aN 8 #[ap 8 (@br _) #[1,fN] #[()] #[(),()]] #[aa 3 #[am 4 #[ar 5 #[[#[ax 8 (@rZ _) #[()] #[()]],#[()]]]]]] (@aB _)] :: #[aa 3 #[am 4 #[G_l_fr,qM,T.l_fr_,#[[#[ax 8 (@ce _) #[()] #[G_l_take,gU,T.l_take_,#[[#[0,eS],#[()]]]]],#[cR 8 #[ap 8 (@eU _) #[1,fN] #[()] #[(),()]] #[()] #[ax 8 (@ce _) #[()] #[G_l_take,gU,T.l_take_,#[[#[0,eS],#[()]]]]]]]]]]]]]],?_⟩
  refine ⟨(),b,8,t,rfl,B,by decide,by decide,ht0,by trivial,fun wy t1 H1 w0 w1 h1a h1b s1 B1=>?_⟩
  refine ⟨(),rfl,(),eQ (fun c=>?_) (fun c=>?_)⟩
  ·exact ⟨(by show 2≤10000;decide),fun o H2 n2=>k o (0,1) t1 H2 (s1.trans n2.sm.toE) n2.at' (B1.same n2.sm) (by trivial) (by trivial)⟩
  refine ⟨(),rfl,(),eQ (fun c'=>?_) (fun c'=>?_)⟩
  ·exact ⟨_,(),rfl,⟨by decide,by decide,by decide⟩,(by show 2≤10000;decide),fun o H2 n2=>k o (_,_) t1 H2 (s1.trans n2.sm.toE) n2.at' (B1.same n2.sm) (by trivial) (by trivial)⟩
  refine ⟨(),b,30,t1,rfl,B1,by decide,by decide,by trivial,by trivial,fun r2 t2 H2 a20 a21 _ _ s2 B2=>⟨_,(),rfl,(),_,(),rfl,(),eQ (fun c2=>?_) (fun c2=>?_)⟩⟩
  ·exact ⟨_,(),by decide,by decide,fun o H4 n4=>k o _ t2 H4 ((s1.trans s2).trans n4.sm.toE) n4.at' (B2.same n4.sm) (by trivial) (by trivial)⟩
  ·exact ⟨(),b,12,t2,rfl,B2,by decide,by decide,by trivial,by trivial,fun r3 t3 H3 a30 a31 _ _ s3 B3=>⟨_,(),rfl,_,(),by trivial,by trivial,fun o H4 n4=>k o _ t3 H4 (((s1.trans s2).trans s3).trans n4.sm.toE) n4.at' (B3.same n4.sm) (by trivial) (by trivial)⟩⟩
theorem ym (T:Txt K mg):aT P w K mg base CX0 2 T.l_cost_.f T.l_cost_.d ["_law_box_here"] xt:=by
 have G_l_take:=#[(ju)]
 have G_l_fr:=#[(ut)]
 refine T.l_cost_.F.ok qb (fun vs H Q E h=>?_) (fun cdv A outer s H vs Q E hr h=>?_)
 ·obtain ⟨b,t,rfl,_⟩:=h
  rfl
 ·obtain ⟨b,t,rfl,B,ht0,ht1,k⟩:=h
  refine ⟨_,#[#[1,qb.nd,iA,#[G_l_take,hJ,T.l_take_,#[[#[0,eM],#[()]]]]] :: #[#[aN 8 #[ap 8 (@br _) #[1,iA] #[()] #[(),()]] #[aa 3 #[am 4 #[ar 5 #[[#[()],#[()]]]]]] (@aB _)] :: #[aa 3 #[am 4 #[G_l_fr,qI,T.l_fr_,#[[#[G_l_take,hJ,T.l_take_,#[[#[0,eM],#[()]]]],#[ax 8 (@ce _) #[()] #[ax 8 (@gn _) #[G_l_take,hJ,T.l_take_,#[[#[0,eM],#[()]]]] #[dh 9 (@qy _) rY T.b_int (@kG) #[[#[bD 8 (@br _) #[1,iA] #[()] #[(),()]]]] (by decide) (by decide) (by rfl) (by rfl)]]]]]]]]]],?_⟩
  refine ⟨(),b,4,t,rfl,B,by decide,by decide,ht0,by trivial,fun wy t1 H1 w0 w1 h1a h1b s1 B1=>?_⟩
  refine ⟨(),rfl,(),eQ (fun c=>?_) (fun c=>?_)⟩
  ·exact ⟨(by show 2≤10000;decide),fun o H2 n2=>k o (0,1) t1 H2 (s1.trans n2.sm.toE) n2.at' (B1.same n2.sm) (by trivial) (by trivial)⟩
  refine ⟨(),b,25,t1,rfl,B1,by decide,by decide,by trivial,by trivial,fun r2 t2 H2 a20 a21 _ _ s2 B2=>⟨(),b,6,t2,rfl,B2,by decide,by decide,by trivial,by trivial,fun r3 t3 H3 a30 a31 _ _ s3 B3=>⟨(),rfl,.inr ⟨(),_,(),rfl,.inl ⟨by trivial,by trivial⟩,_,(),rfl,?_⟩⟩⟩⟩
  obtain ⟨z,ez,hz0,hz1⟩:∃z:Int,1+r3*(if decide (V.int wy=V.int 3)=true then 1 else 0)=z∧1≤z∧z≤100:=by
   by_cases c3:decide (V.int wy=V.int 3)=true
   ·rw [if_pos c3];exact ⟨(),by trivial,by trivial⟩
   ·rw [if_neg c3];exact ⟨(),by trivial,by trivial⟩
  refine ⟨r2,z,?_,by trivial,by trivial,fun o H4 n4=>k o _ t3 H4 (((s1.trans s2).trans s3).trans n4.sm.toE) n4.at' (B3.same n4.sm) (by trivial) (by trivial)⟩
  rw [←ez]
  rfl
end
end K37
namespace K37
open PySem L2
set_option maxHeartbeats 4000000
section
variable {P:Program}{w:World}{K:PySem.W.Frag}{mg:Str→Option Value}{base:Heap}
inductive Cw (vs:List V) (H:Hp) (Q:VK):Prop
 | mk (b:Addr) (many t:Int) (h0:vs=[.ref b,.int many]) (h1:Bx H b t) (h2:0≤t) (h3:t≤900000) (h4:1≤many) (h5:many≤8) (h6:∀D (ls:List (List Nat)) t' H',H D=none→aD (Eb b) H H'→H' D=some (.lst (ls.map bt))→ls.length=many.toNat→Bx H' b t'→t≤t'→t'≤t+130→Q (.ref D) H')
def C7:Sp:=fun vs H Q _=>Cw  vs H Q
theorem ww (T:Txt K mg):aT P w K mg base CX0 2 T.l_names_.f T.l_names_.d ["_law_box_here", "_law_many"] C7:=by
 have G_l_take:=#[(ju)]
 refine T.l_names_.F.ok dX (fun vs H Q E h=>?_) (fun cdv A outer s H vs Q E hr h=>?_)
 ·obtain ⟨b,many,t,rfl,_⟩:=h
  rfl
 ·obtain ⟨b,many,t,rfl,B,ht0,ht1,hm1,hm2,k⟩:=h
  refine ⟨_,#[#[di 6 #[ar 5 #[[#[ad 4],#[b5 4 (@cq _)],#[G_l_take,gB,T.l_take_,#[[#[0,(d0)],#[()]]]]]]] (@cf _ (K) _ _ _ _ (3) rfl #[au 5 #[jw 2 (2) _ dX.nd rfl (Or.inr ii) (by first | exact .inl rfl | exact .inr rfl | assumption)] #[au 5 #[3,dX.nd,gc] #[au 5 #[jw 2 (4) _ dX.nd rfl (Or.inr jf) (by first | exact .inl rfl | exact .inr rfl | assumption)] (@cA _) (by rfl)] (by rfl)] (by rfl)] (by rfl) (by rfl) (by rfl)) (by rfl) (by rfl) (by rfl)] :: #[#[5,dX.nd,jj,#[jK 7 #[bD 8 (@br _) #[G_l_take,gB,T.l_take_,#[[#[0,(d0)],#[()]]]] #[()] #[(),()]] #[kT 5 #[bD 8 (@eU _) #[1,(gE)] #[()] #[(),()]]]]] :: #[#[kU 8 PassesOwn.never rfl #[gI 6 g9 T.b_range #[[#[1,(gE)]]] (by rfl)] #[6,dX.nd,lT] #[#[sV 7 (["_law_turn", "_law_box_here", "_law_letters"]) (1) ([0,2]) _ _ _ _ (7) _ _ _ dX.nd rfl ka (by kernel_rfl) rfl (by kernel_rfl) #[gI 6 g9 T.b_range #[[#[G_l_take,gB,T.l_take_,#[[#[0,(d0)],#[()]]]]]] (by rfl)] (fun _ _ _ _ _ _=>#[0,(),()]) (fun _ _ _ _ _ _=>@iD _) (fun _ _ _ _ _ _=>#[aU 7 (@oS _) #[2,0] #[G_l_take,(),T.l_take_,#[[#[1,0],#[()]]]] (fun _ _=>rfl)]) (by intro _;rfl)] :: #[aa 3 #[bf 4 (@b8 _ (K) _ _ _ _ _ _ _ _ _ _ _ PySem.F.plainAttrs_list PySem.F.slot_list_append PySem.F.type_list_append (@b3 _) #[3,gc] #[[#[ax 8 (@zh _) #[aU 7 (@oS _) #[2,(ii)] #[ax 8 (@iU _) #[ax 8 (@ce _) #[4,(jf)] #[ax 8 (@gn _) #[()] #[6,lT]]] #[()]] (fun _ _=>rfl)] (@b8 _ (K) _ _ _ _ _ _ _ _ _ _ _ PySem.F.plainAttrs_str PySem.F.slot_str_join PySem.F.type_str_join (@y4 _ (K) (by rfl)) #[ad 4] #[[#[7,ka]]] (by rfl) (by rfl) (by rfl) (by rfl) (by rfl) (by rfl))]]] (by rfl) (by rfl) (by rfl) (by rfl) (by rfl) (by rfl)) (by rfl)]]] (by intro _;rfl)] :: #[aa 3 #[am 4 #[cR 8 #[dk 3 #[5,jj] (by intro _;rfl)] #[jQ 7 (["_law_k", "_law_first", "_law_letters", "_law_many"]) (1) ([4,2,1]) _ _ _ _ rfl (by kernel_rfl) #[gI 6 g9 T.b_range #[[#[1,(gE)]]] (by rfl)] (fun _ _ _ _ _ _=>#[0,(),()]) (fun _ _ _ _ _ _=>@iD _) (fun _ _ _ _ _ _=>#[ax 8 (@yH _) #[aU 7 (@oS _) #[2,0] #[1,0] (fun _ _=>rfl)] #[ax 8 (@iZ _) #[3,0] #[0,()]]]) (by intro _;rfl)] #[3,gc]]]]]]],?_⟩
  have hz:(Str.ofString "abcdefghijklmnopqrstuvwxyz").length≤sizeLine:=by nofun
  refine bi fun D0 n0=>⟨(by show 0≤10000;decide),fun D H1 m1=>⟨(),b,26,t,rfl,B.same m1.sm,by decide,by decide,ht0,by trivial,fun f t2 H2 f0 f1 h2a h2b s2 B2=>⟨(by show 3≤10000;decide),fun q H3 m3=>⟨q,(),af.of m3.at',rfl,_,(),_,(),_,(),rfl,n0 _ _ ?_⟩⟩⟩⟩
  have nDb:¬D=b:=fun z=>B.ne m1.fr z.symm
  have B3:=B2.same m3.sm
  have s03:aD (Eb b) H H3:=(m1.sm.toE.trans s2).trans m3.sm.toE
  have hD3:H3 D=some (.lst []):=m3.sm _ _ (s2.old _ _ nDb m1.at')
  refine f7 fun Q4 n4=>⟨(),b,4,t2,rfl,B3,by decide,by decide,by trivial,by trivial,fun r t4 H4 r0 r1 h4a h4b s4 B4=>⟨rfl,(),?_⟩⟩
  have fin:∀al:Bool,Q4 (.bl al) H4:=fun al=>by
   refine n4 _ _ ?_
   have s04:=s03.trans s4
   refine bi fun D5 n5=>⟨(),(),by trivial,by trivial,l5 (fun i σ H'=>nZ fun v6 v7 ls t'=>σ=[some (.ref b),some (.int many),some (.str "abcdefghijklmnopqrstuvwxyz"),some (.ref D),some (.int f),some (.bl al),v6,v7]∧H' D=some (.lst ((ls:List (List Nat)).map bt))∧ls.length=i∧Bx H' b t'∧t4≤t'∧t'≤t4+10*i∧aD (Eb b) H H')
    ⟨_,_,[],t4,rfl,s4.old _ _ nDb hD3,rfl,B4,by trivial,by trivial,s04⟩ ?_ ?_⟩
   case refine_2=>
    rintro σ H' ⟨v6,v7,ls,t',rfl,e1,e2,B',h0,h1,s'⟩
    refine n5 _ _ ⟨(),(),?_⟩
    cases al with
    | false=>exact aO ⟨_,rfl,k D ls t' H' m1.fr s' e1 e2 B' (by trivial) (by trivial)⟩
    | true=>
     refine aY ⟨(),(),by trivial,by trivial,fun D2 hD2=>?_⟩
     refine qe (n:=many.toNat) (fun i=>bt (List.replicate (many - (0+(i:Int))).toNat (97+(f % 26).toNat))) (by trivial) hD2 (fun i H' hi _=>hi) (fun H' _=>Nat.le_refl _) ?_ ?_
     ·rintro i x Ha Hb R hi sm ⟨rfl,rfl⟩ kk
      refine ⟨rd,(),(),_,_,(),rfl,hz,mr (by trivial) (by trivial),(),(),_,(),rfl,[97+(f % 26).toNat],(),rfl,by trivial,by trivial,(by show 1≤100;decide),?_⟩
      rw [Dj]
      exact kk _ (aj.refl _)
     ·intro H5 s5 h5
      refine k D2 ((List.range many.toNat).map fun i=>List.replicate (many - (0+((i:Nat):Int))).toNat (97+(f % 26).toNat)) t' H5 (aD.free s' B' hD2) (s'.trans s5.toE) ?_ (by simp) (B'.same s5) (by trivial) (by trivial)
      rw [h5,List.map_map]
      rfl
   rintro i σ H' hi ⟨v6,v7,ls,t',rfl,e1,e2,B',h0,h1,s'⟩
   refine rj (t:=kH _ _) fun DB nB=>?_
   refine ⟨(),b,8,t',rfl,B',by decide,by decide,by trivial,by trivial,fun r6 t6 J3 r60 r61 _ _ j3 C3=>⟨(),by trivial,by trivial,fun D2 hD2=>gO (n:=r6.toNat) (fun i H' ys=>bn fun (cs:List Nat) (t':Int)=>ys=cs.map (fun c=>bt [c])∧H' D2=some (.lst ys)∧cs.length=i∧Bx H' b t'∧t6≤t'∧t'≤t6+i∧aD (Eb b) J3 H') ?_ ?_ ?_ ?_ ?_ ?_ ?_⟩⟩
   ·rw [sizeLine_eq];trivial
   ·exact ⟨[],t6,rfl,az,rfl,C3.same (aj.new hD2),by trivial,by trivial,(aj.new hD2).toE⟩
   ·rintro i' H'' ys ⟨cs,t7,rfl,e,rfl,_⟩
    exact ⟨e,by simp⟩
   ·intro i' H'' ys hi' _
    exact hi'
   ·intro H'' ys _
    exact Nat.le_refl _
   ·have nD2:¬D2=b:=fun z=>C3.ne hD2 z.symm
    rintro i' Ha ys x Hb hi' ⟨cs,t7,rfl,g1,g2,g4,g5,g6,g7⟩ ⟨rfl,rfl⟩
    refine ⟨rd,(),(),b,26,t7,rfl,g4,by decide,by decide,by trivial,by trivial,fun r8 t8 Hc r80 r81 _ _ jc Cc=>⟨_,_,(),rfl,hz,mr (by trivial) (by trivial),?_⟩⟩
    have eD:=jc.old D2 _ nD2 g1
    refine ⟨eD,cs++[97+(r8 % 26).toNat],t8,by rw [List.map_append];rfl,az,by rw [List.length_append,g2];rfl,?_,by trivial,by trivial,(g7.trans jc).up hD2⟩
    have c':Ch Hc D2 (cs.map (fun c=>bt [c])++[bt [97+(r8 % 26).toNat]]) _:=Ch.mk'
    exact Cc.ch c' (Ne.symm nD2)
   rintro J4 ys ⟨cs,t7,rfl,g1,g2,C4,g5,g6,j4⟩
   have e14:J4 D=some (.lst (ls.map bt)):=j4.old D _ nDb (j3.old D _ nDb e1)
   refine ⟨(),.inl ⟨rfl,_,ao.of e14⟩,(),(),(),_,(),rfl,.inl ⟨by decide,by decide⟩,_,(),rfl,_,(),rfl,(by show (0:Int)<26;decide),_,_,(),rfl,hz,mr (by trivial) (by trivial),rfl,(),D2,cs.map (fun c=>[c]),?_,rfl,ao.of (by rw [g1,List.map_map];rfl),?_,?_⟩
   ·rw [show (Str.ofString "")=S [] from wK]
   ·rw [List.map_map]
    have:(cs.map ((fun l:List Nat=>l.length) ∘ fun c=>[c])).sum=cs.length:=by
     clear g1 g2 j4
     induction cs with
     | nil=>rfl
     | cons c r ih=>simp at ih ⊢;trivial
    rw [this];trivial
   have fl:(cs.map (fun c=>[c])).flatten=cs:=by
    clear g1 g2 j4
    induction cs with
    | nil=>rfl
    | cons c r ih=>rw [List.map_cons,List.flatten_cons,ih];rfl
   rw [fl]
   refine ⟨[97+(((f+11*(0+(i:Int))) % 26) % 26).toNat],cs,rfl,rfl,?_,D,_,(),rfl,e14,?_,fun J5 c5=>nB _ _ ?_⟩
   ·simp;trivial
   ·rw [List.length_map];trivial
   have hs5:aD (Eb b) H J5:=((s'.trans j3).trans j4).ch c5 m1.fr
   refine ⟨_,_,ls++[[97+(((f+11*(0+(i:Int))) % 26) % 26).toNat]++cs],t7,rfl,?_,?_,C4.ch c5 (Ne.symm nDb),by trivial,by trivial,hs5⟩
   ·rw [c5.at',List.map_append];rfl
   ·rw [List.length_append,e2];rfl
  by_cases c:r=0
  ·rw [decide_eq_true (show V.int r=V.int 0 by rw [c])]
   refine aY ⟨(),_,(),rfl,fin _⟩
  ·rw [decide_eq_false (show ¬V.int r=V.int 0 from fun z=>c (by injection z))]
   exact aO (fin _)
end
end K37
namespace K37
open PySem L2
set_option maxHeartbeats 4000000
section
variable {P:Program}{w:World}{K:PySem.W.Frag}{mg:Str→Option Value}{base:Heap}
theorem sy (ns:List Int) (lo hi:Option Int):∃cs:List Int,fj (ns.map V.int) lo hi=cs.map V.int∧cs=(ns.drop (HT.sIx ns.length 0 lo)).take (HT.sIx ns.length ns.length hi - HT.sIx ns.length 0 lo):=by
 refine ⟨_,?_,rfl⟩
 unfold fj
 rw [List.length_map,List.map_take,List.map_drop]
inductive wR (K:PySem.W.Frag) (vs:List V) (H:Hp) (Q:VK):Prop
 | mk (a:Addr) (ns:List Int) (h0:vs=[.ref a,.int 4]) (h1:ao K H a (ns.map V.int)) (h2:ns.length≤63) (h3:∀(l:Addr) (bs:List Addr) (H':Hp),aj H H'→H' l=some (.lst (bs.map V.ref))→bs.length≤4→bs.Nodup→(∀b∈bs,Bx H' b 0)→Q (.ref l) H')
def yl (K:PySem.W.Frag):Sp:=fun vs H Q _=>wR K vs H Q
theorem wJ (T:Txt K mg):aT P w K mg base CX0 2 T.l_boxes_.f T.l_boxes_.d ["_law_script", "_law_cap"] (yl K):=by
 have G_l_box:=#[(Bf)]
 refine T.l_boxes_.F.ok jo (fun vs H Q E h=>?_) (fun cdv A outer s H vs Q E hr h=>?_)
 ·obtain ⟨a,ns,rfl,_⟩:=h
  rfl
 ·obtain ⟨a,ns,rfl,hS,hn,kk⟩:=h
  refine ⟨_,#[#[ma 2 (2) _ _ _ _ jo.nd rfl (Or.inr dL) #[dh 9 (@gu _ (K) (by rfl)) pN T.b_list (@cM) #[[#[cD 10 (@rO _ (K) (by rfl)) #[0,iL] (@dM _) #[cI 3 #[1,eY]]]]] (by decide) (by decide) (by rfl) (by rfl)] (by rfl) (by first | exact .inl rfl | exact .inr rfl | assumption)] :: #[#[kU 8 PassesOwn.never rfl #[zr 8 lZ T.b_enumerate #[[#[cD 10 (@rO _ (K) (by rfl)) #[0,iL] #[cI 3 #[1,eY]] #[cI 3 #[()]]]]] (by rfl)] (@cf _ (K) _ _ _ _ (2) rfl #[au 5 #[3,jo.nd,gv] #[au 5 #[4,jo.nd,jX] (@cA _) (by rfl)] (by rfl)] (by rfl) (by rfl) (by rfl)) #[aa 3 #[di 6 #[ax 8 (@ce _) #[aU 7 (@CY _ (K) (by rfl)) #[2,(dL)] #[ax 8 (@iU _) #[3,gv] #[1,eY]] (fun _ _=>rfl)] #[ax 8 (@gn _) #[4,jX] #[ax 8 (@ce _) #[3,gv] #[()]]]] #[ml 7 #[2,(dL)] #[ax 8 (@iU _) #[3,gv] #[1,eY]] (@qB _) (by intro _;rfl)] (by rfl) (by rfl) (by rfl)]] (by intro _;rfl)] :: #[aa 3 #[am 4 #[jQ 7 (["_law_k", "_law_found"]) (1) ([2]) _ _ _ _ rfl (by kernel_rfl) #[gI 6 pj T.b_range #[[#[(),(),(@vN _ rfl),qL,T.b_max,(@uJ),#[[#[()],#[(),(),(@dI _ (K) (by rfl)),qK,T.b_len,(@bh),#[[#[2,(dL)]]]]]]]]] (by rfl)] (fun _ _ _ _ _ _=>#[0,(),()]) (fun _ _ _ _ _ _=>@iD _) (fun _ _ _ _ _ _=>#[G_l_box,(),T.l_box_,#[[#[1,0],#[0,()]]]]) (by intro _;rfl)]]]]],?_⟩
  obtain ⟨c1,e1,q1⟩:=sy ns none (some 4)
  obtain ⟨c2,e2,q2⟩:=sy ns (some 4) (some 63)
  have l1m:c1.length=min 4 ns.length:=by
   rw [q1,show (4:Int)=((4:Nat):Int) from rfl,HT.sIx_nat,HT.sIx_none,List.length_take,List.length_drop]
   trivial
  have l2m:c2.length≤ns.length - 4:=by
   rw [q2,show (4:Int)=((4:Nat):Int) from rfl,HT.sIx_nat,List.length_take,List.length_drop]
   trivial
  refine f7 fun Q0 n0=>⟨(),(),(),a,(),hS,fun p1 H1 m1=>⟨p1,(),.inl (ao.of m1.at'),fun p2 H2 m2=>n0 _ _ ?_⟩⟩
  rw [e1] at m1 m2
  have s2:=m1.sm.trans m2.sm
  have fp2:H p2=none:=m1.sm.free m2.fr
  refine bi fun D0 nD=>⟨(),(),(),(),a,(),s2.seq hS,fun p3 H3 m3=>⟨p3,rfl,⟨_,ao.of m3.at'⟩,?_⟩⟩
  rw [e2] at m3
  have n23:p2≠p3:=fun z=>by have:=m2.at';rw [z,m3.fr] at this;cases this
  refine ⟨fun i m σ H'=>m=c2.length - i∧i≤c2.length∧ic fun (ms:List Int) (v3 v4:Option V)=>σ=[some (.ref a),some (.int 4),some (.ref p2),v3,v4]∧ms.length=c1.length∧H' p2=some (.lst (ms.map V.int))∧H' p3=some (.lst (c2.map V.int))∧(∀b o,b≠p2→H b=some o→H' b=some o),⟨(),Nat.zero_le _,c1,none,none,rfl,rfl,m3.sm _ _ m2.at',m3.at',fun b o _ h=>m3.sm _ _ (s2 b o h)⟩,?_⟩
  rintro i m σ H' ⟨rfl,hi,ms,v3,v4,rfl,hms,h2,h3,hk⟩
  by_cases hlt:i<c2.length
  ·refine .inr ⟨⟨c2.map V.int,V.int c2[i],ao.of h3,by rw [List.getElem?_map];simp [hlt]⟩,_,fun σ' H'' z=>z,?_⟩
   rintro x H'' ⟨t,y,ht,rfl,rfl,hy⟩
   have hy':=hy _ (ao.of h3)
   rw [List.getElem?_map,List.getElem?_eq_getElem hlt] at hy'
   obtain rfl:V.int c2[i]=y:=Option.some.inj hy'
   have nt2:p2≠t:=aE h2 ht
   have nt3:p3≠t:=aE h3 ht
   have hmod0:0≤(i:Int) % 4:=Int.emod_nonneg _ (by trivial)
   have hmod1:(i:Int) % 4<4:=Int.emod_lt_of_pos _ (by trivial)
   have hixlt:((i:Int) % 4).toNat<ms.length:=by trivial
   refine ⟨t,(),af.of az,rfl,_,(),_,(),rfl,(),(),(),_,(),rfl,(by show (0:Int)<4;decide),.inl ⟨p2,ms.map V.int,_,V.int ms[((i:Int) % 4).toNat],rfl,rfl,ao.of (by rw [ak nt2];exact h2),tG hmod0 hixlt,(),(),_,(),rfl,_,(),rfl,.inr ⟨by trivial,by trivial⟩,_,(),rfl,(),(),(),_,(),rfl,(by show (0:Int)<4;decide),p2,ms.map V.int,_,((i:Int) % 4).toNat,rfl,rfl,(by rw [ak nt2];exact h2),?_,fun H5 c5=>?_⟩⟩
   ·unfold kg
    rw [if_pos hmod0,List.length_map,if_pos (by trivial)]
   ·refine ⟨c2.length - (i+1),by trivial,rfl,hlt,ms.set ((i:Int) % 4).toNat (ms[((i:Int) % 4).toNat]+c2[i]*((i:Int)+2)),_,(),by rw [List.length_set];exact hms,by rw [c5.at',List.map_set],c5.ol _ _ (Ne.symm n23) (by rw [ak nt3];exact h3),fun b o hb h=>?_⟩
    have:=hk b o hb h
    exact c5.ol _ _ hb (by rw [ak (aE this ht)];exact this)
  ·refine .inl ⟨⟨_,ao.of h3,by rw [List.length_map];trivial⟩,nD _ _ ?_⟩
   have sH:aj H H':=fun b o h=>hk b o (aE h fp2) h
   have hmx:0≤(if ((ms.map V.int).length:Int) > 2 then ((ms.map V.int).length:Int) else 2)∧(if ((ms.map V.int).length:Int) > 2 then ((ms.map V.int).length:Int) else 2)≤4:=by
    rw [List.length_map]
    split <;> trivial
   refine ⟨(),p2,(),.inl (ao.of h2),_,(),(),by trivial,by trivial,?_⟩
   generalize (if ((ms.map V.int).length:Int) > 2 then ((ms.map V.int).length:Int) else 2)=mx at hmx
   intro D hD
   refine gO (n:=mx.toNat) (fun i H6 ys=>∃bs:List Addr,ys=bs.map V.ref∧H6 D=some (.lst ys)∧bs.length=i∧bs.Nodup∧(∀b∈bs,Bx H6 b 0)∧aj H' H6) (gW (by trivial)) ⟨[],rfl,az,rfl,List.nodup_nil,(fun b hb=>by cases hb),aj.new hD⟩ ?_ ?_ ?_ ?_ ?_
   ·rintro i H6 ys ⟨bs,rfl,e,rfl,_⟩
    exact ⟨e,by simp⟩
   ·intro i H6 ys hi _
    exact hi
   ·intro H6 ys _
    exact Nat.le_refl _
   ·rintro i H6 ys x H7 hi ⟨bs,rfl,e,lb,nb,bb,sm⟩ ⟨rfl,rfl⟩
    refine ⟨rd,(),(),p2,ms,(),ao.of (sm _ _ h2),by trivial,by trivial,fun p H8 fp s8 Bp=>?_⟩
    have e8:=s8 _ _ e
    have nf:p∉bs:=fun h=>by
     obtain ⟨_,_,q,_⟩:=bb p h
     rw [fp] at q;cases q
    have nd:D≠p:=fun z=>by rw [z,fp] at e;cases e
    have bne:∀b∈bs,b≠D:=fun b h z=>by
     obtain ⟨_,_,q,_⟩:=bb b h
     rw [z,e] at q
     injection q with q
     injection q with q
     cases bs <;> cases q
    refine ⟨e8,bs++[p],by rw [List.map_append];rfl,az,by rw [List.length_append,lb];rfl,?_,fun b hb=>?_,fun b o h=>?_⟩
    ·rw [List.nodup_append]
     exact ⟨nb,by simp,fun u hu v hv z=>nf (by rw [List.mem_singleton.mp hv] at z;exact z▸hu)⟩
    ·have hbD:b≠D:=by
      rcases List.mem_append.mp hb with h | h
      ·exact bne b h
      ·rw [List.mem_singleton.mp h];exact Ne.symm nd
     have B8:Bx H8 b 0:=by
      rcases List.mem_append.mp hb with h | h
      ·exact (bb b h).same s8
      ·rw [List.mem_singleton.mp h];exact Bp
     exact B8.ch .mk' hbD
    ·rw [ak (fun z=>by rw [z,hD] at h;cases h)]
     exact s8 _ _ (sm _ _ h)
   ·rintro H6 ys ⟨bs,rfl,e,lb,nb,bb,sm⟩
    exact kk D bs H6 (sH.trans sm) e (by trivial) nb bb
end
end K37
namespace K37
open PySem L2
set_option maxHeartbeats 4000000
section
variable {P:Program}{w:World}{K:PySem.W.Frag}{mg:Str→Option Value}{base:Heap}
inductive zp (vs:List V) (H:Hp) (Q:VK):Prop
 | mk (b nl:Addr) (many t:Int) (st:Bool) (ls:List (List Nat)) (h0:vs=[.ref b,.ref nl,.int many,.bl st]) (h1:Bx H b t) (h2:0≤t) (h3:t≤800000) (h4:H nl=some (.lst (ls.map bt))) (h5:nl≠b) (h6:1≤ls.length) (h7:ls.length≤100) (h8:0≤many) (h9:many≤10000) (h10:∀v D t' H',aD (Eb b) H H'→aC ED H' v (.tuple (mD D))→Bx H' b t'→t≤t'→t'≤t+20→Q v H')
def Bj:Sp:=fun vs H Q _=>zp  vs H Q
theorem tw {E:Addr→Prop}{H:Hp}{o:Addr}{z:KM.Fra} (h:H o=some (fr z)):aC E H (.ref o) (gH z):=.tup h (.cons (.int _) (.cons (.int _) .nil))
theorem yL (T:Txt K mg):aT P w K mg base CX0 3 T.l_deed_.f T.l_deed_.d ["_law_box_here", "_law_names_here", "_law_many", "_law_settled"] Bj:=by
 have G_l_take:=#[(ju)]
 have G_l_much:=#[(yO)]
 have G_l_gain:=#[(yb)]
 have G_l_cost:=#[(ym)]
 refine T.l_deed_.F.ok gP (fun vs H Q E h=>?_) (fun cdv A outer s H vs Q E hr h=>?_)
 ·obtain ⟨b,nl,many,t,st,ls,rfl,_⟩:=h
  rfl
 ·obtain ⟨b,nl,many,t,st,ls,rfl,B,ht0,ht1,hnl,nnb,l1,l2,hm0,hm1,k⟩:=h
  refine ⟨_,#[#[4,gP.nd,bF,#[G_l_take,dg,T.l_take_,#[[#[0,aW],#[cR 8 #[dk 3 #[3,mw] (by intro _;rfl)] #[()] #[()]]]]]] :: #[#[jz 2 (5) (6) _ _ _ _ _ _ _ _ _ _ _ rfl gP.nd rfl rfl (by decide) fQ gD #[[#[#[1,cC][#[G_l_take,dg,T.l_take_,#[[#[0,aW],#[(),(),(@dI _ (K) (by rfl)),mv,T.b_len,(@bh),#[[#[1,cC]]]]]]]]!],#[#[1,cC][#[G_l_take,dg,T.l_take_,#[[#[0,aW],#[(),(),(@dI _ (K) (by rfl)),mv,T.b_len,(@bh),#[[#[1,cC]]]]]]]]!]]] (by kernel_rfl) (by rfl)] :: #[#[jz 2 (7) (8) _ _ _ _ _ _ _ _ _ _ _ rfl gP.nd rfl rfl (by decide) b4 jL #[[#[G_l_take,dg,T.l_take_,#[[#[0,aW],#[ax 8 (@ce _) #[2,o4] #[()]]]]],#[bD 8 (@br _) #[G_l_take,dg,T.l_take_,#[[#[0,aW],#[()]]]] #[()] #[(),()]]]] (by kernel_rfl) (by rfl)] :: #[#[7,gP.nd,b4,#[cR 8 #[dk 3 #[8,jL] (by intro _;rfl)] #[ax 8 (@iZ _) #[fP 6 (@dS _) #[()]] #[7,b4]] #[7,b4]]] :: #[#[aN 8 #[ap 8 (@eU _) #[4,bF] #[()] #[(),()]] #[aa 3 #[am 4 #[ar 5 #[[#[ad 4],#[5,fQ]]]]]] (@aB _)] :: #[#[aN 8 #[ap 8 (@eU _) #[4,bF] #[()] #[(),()]] #[aa 3 #[am 4 #[ar 5 #[[#[ad 4],#[5,fQ],#[6,gD],#[G_l_much,kh,T.l_much_,#[[#[0,aW]]]],#[G_l_gain,km,T.l_gain_,#[[#[0,aW]]]],#[G_l_cost,ko,T.l_cost_,#[[#[0,aW]]]]]]]]] (@aB _)] :: #[#[aN 8 #[ap 8 (@eU _) #[4,bF] #[()] #[(),()]] #[aa 3 #[am 4 #[ar 5 #[[#[ad 4],#[5,fQ],#[6,gD]]]]]] (@aB _)] :: #[#[aN 8 #[ap 8 (@eU _) #[4,bF] #[()] #[(),()]] #[#[9,gP.nd,jZ,#[b5 4 #[[#[G_l_much,kh,T.l_much_,#[[#[0,aW]]]],#[G_l_gain,km,T.l_gain_,#[[#[0,aW]]]],#[G_l_cost,ko,T.l_cost_,#[[#[0,aW]]]]]]]] :: #[aa 3 #[am 4 #[ar 5 #[[#[#[b5 4 #[[#[ad 4],#[ad 4],#[ad 4]]]][#[ax 8 (@iZ _) #[4,bF] #[()]]]!],#[7,b4],#[#[9,jZ][#[ax 8 (@iZ _) #[4,bF] #[()]]]!]]]]]]] (@aB _)] :: #[#[aN 8 #[ap 8 (@eU _) #[4,bF] #[()] #[(),()]] #[aa 3 #[am 4 #[ar 5 #[[#[#[b5 4 #[[#[ad 4],#[ad 4],#[ad 4]]]][#[ax 8 (@iZ _) #[4,bF] #[()]]]!],#[7,b4]]]]]] (@aB _)] :: #[aa 3 #[am 4 #[ar 5 #[[#[ad 4]]]]]]]]]]]]]]],?_⟩
  refine f7 fun Q0 n0=>⟨(),(),(),?_⟩
  have gen:∀many':Int,9≤many'→many'≤16→vF [.ref b,.int many'] H Q0 E0:=fun many' g0 g1=>⟨b,many',t,rfl,B,by trivial,sL (by trivial) (by trivial),ht0,by trivial,fun wy t1 H1 w0 w1 h1a h1b s1 B1=>n0 _ _ ?_⟩
  ·cases st with
   | true=>exact aY (gen 16 (by decide) (by decide))
   | false=>exact aO (gen 9 (by decide) (by decide))
  have hn1:=s1.old _ _ nnb hnl
  have el:((ls.map bt).length:Int)=ls.length:=by rw [List.length_map]
  refine fi fun Q2 n2=>⟨(),(),(),nl,(),.inl (ao.of hn1),b,_,t1,rfl,B1,by trivial,sL (by trivial) (by trivial),by trivial,by trivial,fun r2 t2 H2 r20 r21 h2a h2b s2 B2=>?_⟩
  have hn2:=s2.old _ _ nnb hn1
  refine ⟨nl,_,_,(),rfl,ao.of hn2,tW r20 (by trivial),(),(),(),nl,(),.inl (ao.of hn2),b,_,t2,rfl,B2,by trivial,sL (by trivial) (by trivial),by trivial,by trivial,fun r3 t3 H3 r30 r31 h3a h3b s3 B3=>⟨nl,_,_,(),rfl,ao.of (s3.old _ _ nnb hn2),tW r30 (by trivial),n2 _ _ _ ?_⟩⟩
  generalize ls[r2.toNat]=la
  generalize ls[r3.toNat]=lb
  refine fi fun Q4 n4=>⟨(),(),_,(),rfl,b,_,t3,rfl,B3,by trivial,sL (by trivial) (by trivial),by trivial,by trivial,fun r4 t4 H4 r40 r41 h4a h4b s4 B4=>⟨(),b,8,t4,rfl,B4,by decide,by decide,by trivial,by trivial,fun r5 t5 H5 r50 r51 h5a h5b s5 B5=>⟨rfl,n4 _ _ _ ?_⟩⟩⟩
  have s05:=(((s1.trans s2).trans s3).trans s4).trans s5
  refine f7 fun Q6 n6=>⟨(),(),?_⟩
  have rest:∀num:Int,Q6 (.int num) H5:=fun num=>by
   refine n6 _ _ ?_
   refine cw fun D7 n7 e7=>⟨(),_,(),rfl,(),eQ (fun c=>?_) fun c1=>n7 _ _ ?_⟩
   ·exact ⟨(),(by show 2≤10000;decide),fun p H6 m6=>e7 _ _ (k _ (.place la) t5 H6 (s05.trans m6.sm.toE) (.tup m6.at' (.cons (.str _) (.cons (.str _) .nil))) (B5.same m6.sm) (by trivial) (by trivial))⟩
   refine cw fun D8 n8 e8=>⟨(),_,(),rfl,(),eQ (fun c=>?_) fun c2=>n8 _ _ ?_⟩
   ·refine ⟨(),(),(),b,t5,rfl,B5,by trivial,by trivial,fun o1 z1 u1 J1 j1 g1 C1 i1a i1b=>⟨(),b,u1,rfl,C1,by trivial,by trivial,fun o2 z2 u2 J2 j2 g2 C2 i2a i2b=>⟨(),b,u2,rfl,C2,by trivial,by trivial,fun o3 z3 u3 J3 j3 g3 C3 i3a i3b=>⟨(by show 6≤10000;decide),fun p J4 m4=>e8 _ _ ?_⟩⟩⟩⟩
    exact k _ (.tie ⟨la,lb,z1,z2,z3⟩) u3 J4 ((((s05.trans j1).trans j2).trans j3).trans m4.sm.toE) (.tup m4.at' (.cons (.str _) (.cons (.str _) (.cons (.str _) (.cons (tw (m4.sm _ _ (j3.tup _ _ (j2.tup _ _ g1)))) (.cons (tw (m4.sm _ _ (j3.tup _ _ g2))) (.cons (tw (m4.sm _ _ g3)) .nil))))))) (C3.same m4.sm) (by trivial) (by trivial)
   refine cw fun D9 n9 e9=>⟨(),_,(),rfl,(),eQ (fun c=>?_) fun c3=>n9 _ _ ?_⟩
   ·exact ⟨(),(),(by show 3≤10000;decide),fun p H6 m6=>e9 _ _ (k _ (.ends la lb) t5 H6 (s05.trans m6.sm.toE) (.tup m6.at' (.cons (.str _) (.cons (.str _) (.cons (.str _) .nil)))) (B5.same m6.sm) (by trivial) (by trivial))⟩
   have w9:9≤wy:=by
    have:¬wy<9:=fun z=>c3 (decide_eq_true z)
    trivial
   refine cw fun Da na ea=>⟨(),_,(),rfl,(),eQ (fun c=>?_) fun c4=>na _ _ ?_⟩
   ·have w12:wy<12:=of_decide_eq_true c
    refine f7 fun Qb nb=>⟨(),b,t5,rfl,B5,by trivial,by trivial,fun o1 z1 u1 J1 j1 g1 C1 i1a i1b=>⟨(),b,u1,rfl,C1,by trivial,by trivial,fun o2 z2 u2 J2 j2 g2 C2 i2a i2b=>⟨(),b,u2,rfl,C2,by trivial,by trivial,fun o3 z3 u3 J3 j3 g3 C3 i3a i3b=>⟨(by show 3≤10000;decide),fun p J4 m4=>nb _ _ ?_⟩⟩⟩⟩
    have d1:aC ED J4 (.ref o1) (gH z1):=tw (m4.sm _ _ (j3.tup _ _ (j2.tup _ _ g1)))
    have d2:aC ED J4 (.ref o2) (gH z2):=tw (m4.sm _ _ (j3.tup _ _ g2))
    have d3:aC ED J4 (.ref o3) (gH z3):=tw (m4.sm _ _ g3)
    have sJ:=(((s05.trans j1).trans j2).trans j3).trans m4.sm.toE
    obtain ⟨kk,zz,oo,ea1,ea2,dz⟩:ic fun (kk:ig) (zz:KM.Fra) (oo:V)=>gJ [V.str "set_most",V.str "set_gain",V.str "set_price"] (wy - 9)=some (.str kk.w)∧gJ [V.ref o1,V.ref o2,V.ref o3] (wy - 9)=some oo∧aC ED J4 oo (gH zz):=by
     obtain rfl | rfl | rfl:wy=9∨wy=10∨wy=11:=by trivial
     ·exact ⟨.m,z1,(),rfl,d1⟩
     ·exact ⟨.g,z2,(),rfl,d2⟩
     ·exact ⟨.p,z3,(),rfl,d3⟩
    refine ⟨(by show 3≤10000;decide),fun p5 J5 m5=>⟨(),_,(),rfl,p5,_,_,(),rfl,ao.of m5.at',ea1,(),(),(),_,(),rfl,p,_,_,(),rfl,ao.of (m5.sm _ _ m4.at'),ea2,(by show 3≤10000;decide),fun p6 J6 m6=>ea _ _ ?_⟩⟩
    exact k _ (.part kk num zz) u3 J6 ((sJ.trans m5.sm.toE).trans m6.sm.toE) (.tup m6.at' (.cons (.str _) (.cons (.int _) (.cons (dz.mono (m5.sm.trans m6.sm).toE) .nil)))) ((C3.same m4.sm).same (m5.sm.trans m6.sm)) (by trivial) (by trivial)
   have w12:12≤wy:=by
    have:¬wy<12:=fun z=>c4 (decide_eq_true z)
    trivial
   refine cw fun Dc nc ec=>⟨(),_,(),rfl,(),eQ (fun c=>?_) fun c5=>nc _ _ ?_⟩
   ·have w15:wy<15:=of_decide_eq_true c
    obtain ⟨D,ea1,ed⟩:bn fun (D:cO) (wd:Str)=>gJ [V.str "shut",V.str "reopen",V.str "shut"] (wy - 12)=some (.str wd)∧mD D=[.str wd,.int num]:=by
     obtain rfl | rfl | rfl:wy=12∨wy=13∨wy=14:=by trivial
     ·exact ⟨.shut num,(),rfl⟩
     ·exact ⟨.opn num,(),rfl⟩
     ·exact ⟨.shut num,(),rfl⟩
    obtain ⟨ea1,ed⟩:=ed
    refine ⟨(by show 3≤10000;decide),fun p5 J5 m5=>⟨(),_,(),rfl,p5,_,_,(),rfl,ao.of m5.at',ea1,(),(by show 2≤10000;decide),fun p6 J6 m6=>ec _ _ ?_⟩⟩
    refine k _ D t5 J6 ((s05.trans m5.sm.toE).trans m6.sm.toE) (.tup m6.at' ?_) (B5.same (m5.sm.trans m6.sm)) (by trivial) (by trivial)
    rw [ed]
    exact .cons (.str _) (.cons (.int _) .nil)
   ·exact ⟨(by show 1≤10000;decide),fun p6 J6 m6=>k _ .back t5 J6 (s05.trans m6.sm.toE) (.tup m6.at' (.cons (.str _) .nil)) (B5.same m6.sm) (by trivial) (by trivial)⟩
  refine eQ (fun c=>?_) fun c=>?_
  ·exact ⟨(),(),_,(),rfl,rest _⟩
  ·exact ⟨(),rest _⟩
end
end K37
namespace K37
open PySem L2
set_option maxHeartbeats 4000000
theorem aJ {i:Nat}{x y:Str}{t u:TS}{D:cK}{σ:St}{H:Hp} (hσ:σ[i]?=some (some (V.str x))) (hn:¬V.str x=V.str y) (h:u D σ H):kH (pU (nI (ql va (oA i) (tC (.str y)))) t ud) u D σ H:=by
 refine ⟨_,hσ,rfl,(),?_⟩
 rw [decide_eq_false hn]
 exact aO h
theorem fR {i:Nat}{x:Str}{t u:TS}{D:cK}{σ:St}{H:Hp} (hσ:σ[i]?=some (some (V.str x))) (h:t { D with nx:=u D } σ H):kH (pU (nI (ql va (oA i) (tC (.str x)))) t ud) u D σ H:=by
 refine ⟨_,hσ,rfl,(),?_⟩
 rw [decide_eq_true rfl]
 exact aY h
theorem rn {E:Addr→Prop}{H:Hp}{xs:List V}{d:PyData} (h:aw E H xs [d]):∃x,xs=[x]∧aC E H x d:=by
 cases h with
 | cons h r=>cases r;exact ⟨_,rfl,h⟩
theorem gb {E:Addr→Prop}{H:Hp}{xs:List V}{d e:PyData} (h:aw E H xs [d,e]):bn fun x y=>xs=[x,y]∧aC E H x d∧aC E H y e:=by
 cases h with
 | cons h r=>obtain ⟨y,rfl,q⟩:=rn r;exact ⟨_,_,rfl,h,q⟩
theorem jH {E:Addr→Prop}{H:Hp}{xs:List V}{d e f:PyData} (h:aw E H xs [d,e,f]):ic fun x y z=>xs=[x,y,z]∧aC E H x d∧aC E H y e∧aC E H z f:=by
 cases h with
 | cons h r=>obtain ⟨y,z,rfl,q⟩:=gb r;exact ⟨_,_,_,rfl,h,q⟩
theorem sD {E:Addr→Prop}{H:Hp}{xs:List V}{a b c d e f:PyData} (h:aw E H xs [a,b,c,d,e,f]):Az fun x1 x2 x3 x4 x5 x6=>xs=[x1,x2,x3,x4,x5,x6]∧aC E H x1 a∧aC E H x2 b∧aC E H x3 c∧aC E H x4 d∧aC E H x5 e∧aC E H x6 f:=by
 cases h with
 | cons h1 r=>
  cases r with
  | cons h2 r=>
   cases r with
   | cons h3 r=>obtain ⟨y,z,u,rfl,q⟩:=jH r;exact ⟨_,_,_,_,_,_,rfl,h1,h2,h3,q⟩
theorem aL {E:Addr→Prop}{H:Hp}{v:V}{s:Str} (h:aC E H v (.str s)):v=.str s:=by cases h;rfl
theorem jn {E:Addr→Prop}{H:Hp}{v:V}{i:Int} (h:aC E H v (.int i)):v=.int i:=by cases h;rfl
section
variable {P:Program}{w:World}{K:PySem.W.Frag}{mg:Str→Option Value}{base:Heap}
inductive BV (C:Addr) (cl:RW→Addr) (vs:List V) (H:Hp) (Q:VK) (E:XK):Prop
 | mk (r L:Addr) (v:V) (D:cO) (past:List ai) (cur:ai) (h0:vs=[.ref r,v]) (h1:aC ED H v (.tuple (mD D))) (h2:aH C H r L (past++[cur])) (h3:gk 5000 past cur) (h4:iK C cl r L past cur D H Q E)
def CK (C:Addr) (cl:RW→Addr):Sp:=fun vs H Q E=>BV C cl vs H Q E
theorem BA (T:Txt K mg):aT P w K mg base (d9 P w) 4 T.l_do_.f T.l_do_.d ["_law_roads", "_law_deed_here"] (CK T.x_Roads (fh T)):=by
 have G_Roads__add_place:=#[(rH)]
 have G_Roads__add_tie:=#[(uK)]
 have G_Roads__set_ends:=#[(sR)]
 have G_Roads__set_most:=#[(sQ)]
 have G_Roads__set_gain:=#[(sP)]
 have G_Roads__set_price:=#[(rD)]
 have G_Roads__back:=#[(yp)]
 have G_Roads__shut:=#[(y9)]
 have G_Roads__reopen:=#[(v8)]
 refine T.l_do_.F.okX tU (fun vs H Q E h=>?_) (fun cdv A outer s H vs Q E hr h=>?_)
 ·obtain ⟨r,L,v,D,past,cur,rfl,_⟩:=h
  rfl
 ·obtain ⟨r,L,v,D,past,cur,rfl,hv,R,ok,k⟩:=h
  refine ⟨_,#[#[PS.nox 3 #[jz 2 (2) (3) _ _ _ _ _ _ _ _ _ _ _ rfl tU.nd rfl rfl (by decide) bN aR #[[#[#[1,iX][#[()]]],#[cD 10 (@eG _ (K) (by rfl)) #[1,iX] #[cI 3 #[()]] (@dM _)]]] (by kernel_rfl) (by rfl)]] :: #[#[aN 8 #[ap 8 (@br _) #[2,bN] #[ad 4] #[(),()]] #[aa 3 #[am 4 #[cy 20 #[0,bG] T.c_Roads T.h_Roads__add_place G_Roads__add_place (hr.mono (by decide)) T.B_Roads__add_place .nil #[cX 15] #[[#[#[3,aR][#[()]]]]] (by rfl) (by rfl) (by rfl)]]] (@aB _)] :: #[#[aN 8 #[ap 8 (@br _) #[2,bN] #[ad 4] #[(),()]] #[aa 3 #[am 4 #[cy 20 #[0,bG] T.c_Roads T.h_Roads__add_tie G_Roads__add_tie (hr.mono (by decide)) T.B_Roads__add_tie .nil #[cX 15] #[[#[#[3,aR][#[()]]],#[#[3,aR][#[()]]],#[#[3,aR][#[()]]],#[#[3,aR][#[()]]],#[#[3,aR][#[()]]]]] (by rfl) (by rfl) (by rfl)]]] (@aB _)] :: #[#[aN 8 #[ap 8 (@br _) #[2,bN] #[ad 4] #[(),()]] #[aa 3 #[am 4 #[cy 20 #[0,bG] T.c_Roads T.h_Roads__set_ends G_Roads__set_ends (hr.mono (by decide)) T.B_Roads__set_ends .nil #[cX 15] #[[#[#[3,aR][#[()]]],#[#[3,aR][#[()]]]]] (by rfl) (by rfl) (by rfl)]]] (@aB _)] :: #[#[aN 8 #[ap 8 (@br _) #[2,bN] #[ad 4] #[(),()]] #[aa 3 #[am 4 #[cy 20 #[0,bG] T.c_Roads T.h_Roads__set_most G_Roads__set_most (hr.mono (by decide)) T.B_Roads__set_most .nil #[cX 15] #[[#[#[3,aR][#[()]]],#[#[3,aR][#[()]]]]] (by rfl) (by rfl) (by rfl)]]] (@aB _)] :: #[#[aN 8 #[ap 8 (@br _) #[2,bN] #[ad 4] #[(),()]] #[aa 3 #[am 4 #[cy 20 #[0,bG] T.c_Roads T.h_Roads__set_gain G_Roads__set_gain (hr.mono (by decide)) T.B_Roads__set_gain .nil #[cX 15] #[[#[#[3,aR][#[()]]],#[#[3,aR][#[()]]]]] (by rfl) (by rfl) (by rfl)]]] (@aB _)] :: #[#[aN 8 #[ap 8 (@br _) #[2,bN] #[ad 4] #[(),()]] #[aa 3 #[am 4 #[cy 20 #[0,bG] T.c_Roads T.h_Roads__set_price G_Roads__set_price (hr.mono (by decide)) T.B_Roads__set_price .nil #[cX 15] #[[#[#[3,aR][#[()]]],#[#[3,aR][#[()]]]]] (by rfl) (by rfl) (by rfl)]]] (@aB _)] :: #[#[PS.nox 3 #[aN 8 #[ap 8 (@br _) #[2,bN] #[ad 4] #[(),()]] #[aa 3 #[am 4 #[jF 17 #[0,bG] T.c_Roads T.h_Roads__back G_Roads__back (hr.mono (by decide)) T.B_Roads__back .nil (@iI _) (by rfl)]]] (@aB _)]] :: #[aa 3 #[am 4 #[cR 8 #[ap 8 (@br _) #[2,bN] #[ad 4] #[(),()]] #[cy 20 #[0,bG] T.c_Roads T.h_Roads__shut G_Roads__shut (hr.mono (by decide)) T.B_Roads__shut .nil #[cX 15] #[[#[#[3,aR][#[()]]]]] (by rfl) (by rfl) (by rfl)] #[cy 20 #[0,bG] T.c_Roads T.h_Roads__reopen G_Roads__reopen (hr.mono (by decide)) T.B_Roads__reopen .nil #[cX 15] #[[#[#[3,aR][#[()]]]]] (by rfl) (by rfl) (by rfl)]]]]]]]]]]]],?_⟩
  obtain ⟨a,xs,rfl,ha,ia⟩:=nv hv
  obtain ⟨dx,_,_,hr0,_⟩:=R.last
  cases D with
  | place n=>
   obtain ⟨x,y,rfl,hx,hy⟩:=gb ia
   cases aL hx
   cases aL hy
   refine fi fun Q0 n0=>⟨(),a,_,_,(),rfl,af.of ha,rfl,(),(),a,(),af.of ha,ha,fun p1 H1 s1 h1=>n0 _ _ _ ?_⟩
   refine fR rfl ?_
   exact ⟨(),r,dx,(),s1 _ _ hr0,rfl,(),p1,_,_,(),rfl,af.of h1,rfl,r,L,n,past,cur,rfl,R.sm s1,ok,k.ext s1⟩
  | tie t=>
   obtain ⟨x1,x2,x3,x4,x5,x6,rfl,hx1,hx2,hx3,hx4,hx5,hx6⟩:=sD ia
   cases aL hx1
   cases aL hx2
   cases aL hx3
   refine fi fun Q0 n0=>⟨(),a,_,_,(),rfl,af.of ha,rfl,(),(),a,(),af.of ha,ha,fun p1 H1 s1 h1=>n0 _ _ _ ?_⟩
   refine aJ rfl (by nofun) (fR rfl ?_)
   exact ⟨(),r,dx,(),s1 _ _ hr0,rfl,(),p1,_,_,(),rfl,af.of h1,rfl,(),p1,_,_,(),rfl,af.of h1,rfl,(),p1,_,_,(),rfl,af.of h1,rfl,(),p1,_,_,(),rfl,af.of h1,rfl,(),p1,_,_,(),rfl,af.of h1,rfl,r,L,t,_,_,_,past,cur,rfl,hx4.mono s1.toE,hx5.mono s1.toE,hx6.mono s1.toE,R.sm s1,ok,k.ext s1⟩
  | ends b e=>
   obtain ⟨x1,x2,x3,rfl,hx1,hx2,hx3⟩:=jH ia
   cases aL hx1
   cases aL hx2
   cases aL hx3
   refine fi fun Q0 n0=>⟨(),a,_,_,(),rfl,af.of ha,rfl,(),(),a,(),af.of ha,ha,fun p1 H1 s1 h1=>n0 _ _ _ ?_⟩
   refine aJ rfl (by nofun) (aJ rfl (by nofun) (fR rfl ?_))
   exact ⟨(),r,dx,(),s1 _ _ hr0,rfl,(),p1,_,_,(),rfl,af.of h1,rfl,(),p1,_,_,(),rfl,af.of h1,rfl,r,L,b,e,past,cur,rfl,R.sm s1,ok,k.ext s1⟩
  | part kk i x=>
   obtain ⟨x1,x2,x3,rfl,hx1,hx2,hx3⟩:=jH ia
   cases aL hx1
   cases jn hx2
   refine fi fun Q0 n0=>⟨(),a,_,_,(),rfl,af.of ha,rfl,(),(),a,(),af.of ha,ha,fun p1 H1 s1 h1=>n0 _ _ _ ?_⟩
   cases kk with
   | m=>
    refine aJ rfl (by nofun) (aJ rfl (by nofun) (aJ rfl (by nofun) (fR rfl ?_)))
    exact ⟨(),r,dx,(),s1 _ _ hr0,rfl,(),p1,_,_,(),rfl,af.of h1,rfl,(),p1,_,_,(),rfl,af.of h1,rfl,r,L,.m,i,x,x3,past,cur,rfl,(fun z q=>by cases q;rfl),hx3.mono s1.toE,R.sm s1,ok,k.ext s1⟩
   | g=>
    refine aJ rfl (by nofun) (aJ rfl (by nofun) (aJ rfl (by nofun) (aJ rfl (by nofun) (fR rfl ?_))))
    exact ⟨(),r,dx,(),s1 _ _ hr0,rfl,(),p1,_,_,(),rfl,af.of h1,rfl,(),p1,_,_,(),rfl,af.of h1,rfl,r,L,.g,i,x,x3,past,cur,rfl,(fun z q=>by cases q;rfl),hx3.mono s1.toE,R.sm s1,ok,k.ext s1⟩
   | p=>
    refine aJ rfl (by nofun) (aJ rfl (by nofun) (aJ rfl (by nofun) (aJ rfl (by nofun) (aJ rfl (by nofun) (fR rfl ?_)))))
    exact ⟨(),r,dx,(),s1 _ _ hr0,rfl,(),p1,_,_,(),rfl,af.of h1,rfl,(),p1,_,_,(),rfl,af.of h1,rfl,r,L,.p,i,x,x3,past,cur,rfl,(fun z q=>by cases q;rfl),hx3.mono s1.toE,R.sm s1,ok,k.ext s1⟩
  | shut i=>
   obtain ⟨x1,x2,rfl,hx1,hx2⟩:=gb ia
   cases aL hx1
   cases jn hx2
   refine fi fun Q0 n0=>⟨(),a,_,_,(),rfl,af.of ha,rfl,(),(),a,(),af.of ha,ha,fun p1 H1 s1 h1=>n0 _ _ _ ?_⟩
   refine aJ rfl (by nofun) (aJ rfl (by nofun) (aJ rfl (by nofun) (aJ rfl (by nofun) (aJ rfl (by nofun) (aJ rfl (by nofun) (aJ rfl (by nofun) ?_))))))
   refine ⟨(),rfl,(),?_⟩
   rw [decide_eq_true rfl]
   exact aY ⟨(),r,dx,(),s1 _ _ hr0,rfl,(),p1,_,_,(),rfl,af.of h1,rfl,r,L,true,i,past,cur,rfl,(fun z q=>by cases q;rfl),R.sm s1,ok,k.ext s1⟩
  | opn i=>
   obtain ⟨x1,x2,rfl,hx1,hx2⟩:=gb ia
   cases aL hx1
   cases jn hx2
   refine fi fun Q0 n0=>⟨(),a,_,_,(),rfl,af.of ha,rfl,(),(),a,(),af.of ha,ha,fun p1 H1 s1 h1=>n0 _ _ _ ?_⟩
   refine aJ rfl (by nofun) (aJ rfl (by nofun) (aJ rfl (by nofun) (aJ rfl (by nofun) (aJ rfl (by nofun) (aJ rfl (by nofun) (aJ rfl (by nofun) ?_))))))
   refine ⟨(),rfl,(),?_⟩
   rw [decide_eq_false (by nofun)]
   exact aO ⟨(),r,dx,(),s1 _ _ hr0,rfl,(),p1,_,_,(),rfl,af.of h1,rfl,r,L,false,i,past,cur,rfl,(fun z q=>by cases q;rfl),R.sm s1,ok,k.ext s1⟩
  | back=>
   obtain ⟨x1,rfl,hx1⟩:=rn ia
   cases aL hx1
   refine fi fun Q0 n0=>⟨(),a,_,_,(),rfl,af.of ha,rfl,(),(),a,(),af.of ha,ha,fun p1 H1 s1 h1=>n0 _ _ _ ?_⟩
   refine aJ rfl (by nofun) (aJ rfl (by nofun) (aJ rfl (by nofun) (aJ rfl (by nofun) (aJ rfl (by nofun) (aJ rfl (by nofun) (fR rfl ?_))))))
   exact ⟨(),r,dx,(),s1 _ _ hr0,rfl,r,L,past,cur,rfl,R.sm s1,fun H2 s2 R2=>k.2 rfl _ _ (s1.toE.trans s2) R2 (.bl _)⟩
end
end K37
namespace K37
open PySem L2
set_option maxHeartbeats 4000000
section
variable {P:Program}{w:World}{K:PySem.W.Frag}{mg:Str→Option Value}{base:Heap}
def RW.ix:RW→Nat
 | .taken=>0
 | .noPlace=>1
 | .noTie=>2
 | .asItIs=>3
def rP (r:RW):List Bool:=(List.range 5).map fun i=>decide (RW.ix r=i)
abbrev uP (T:Txt K mg):List Addr:=[T.x_Taken,T.x_NoPlace,T.x_NoTie,T.x_AsItIs,T.x_NoEnds,T.x_Gaining,T.x_NotSoMuch]
theorem o6 (T:Txt K mg) (r:RW):(uP T)[RW.ix r]?=some (fh T r):=by cases r <;> rfl
theorem jO (T:Txt K mg) (r:RW) {j:Nat}{d:Addr} (hj:(uP T)[j]?=some d):PySem.W.kitOne K (.ref (fh T r)) (.ref d)=some (decide (RW.ix r=j)):=by
 have kn:lu K (uP T) T.x_GainError=true:=T.kin
 rw [(rS kn (List.mem_of_getElem? (o6 T r))).2.2.2 d (List.mem_of_getElem? hj)]
 congr 1
 rw [decide_eq_decide]
 constructor
 ·intro e
  obtain ⟨h1,e1⟩:=List.getElem?_eq_some_iff.mp (o6 T r)
  obtain ⟨h2,e2⟩:=List.getElem?_eq_some_iff.mp hj
  exact mP (xn kn) h1 h2 (by rw [e1,e2,e])
 ·rintro rfl
  rw [o6 T r] at hj
  exact Option.some.inj hj
theorem wv (T:Txt K mg) (r:RW):kA K (fh T r)=true∧PySem.W.kitOne K (.ref (fh T r)) (.type "ValueError")=some true∧PySem.W.kitAny K (.ref (fh T r)) [.ref T.x_NoEnds,.ref T.x_NotSoMuch,.ref T.x_Gaining]=some false∧PySem.W.exmOne K (.ref (fh T r)) (.ref T.x_GainError)=some true:=by
 have kn:lu K (uP T) T.x_GainError=true:=T.kin
 obtain ⟨q1,_,q3,_⟩:=rS kn (List.mem_of_getElem? (o6 T r))
 refine ⟨q1,q3,qg fun c hc=>?_,?_⟩
 ·have hc':c=.ref T.x_NoEnds∨c=.ref T.x_NotSoMuch∨c=.ref T.x_Gaining:=by simpa using hc
  rcases hc' with rfl | rfl | rfl
  ·rw [jO T r (j:=4) rfl];cases r <;> rfl
  ·rw [jO T r (j:=6) rfl];cases r <;> rfl
  ·rw [jO T r (j:=5) rfl];cases r <;> rfl
 ·cases r
  ·exact T.em_Taken_GainError
  ·exact T.em_NoPlace_GainError
  ·exact T.em_NoTie_GainError
  ·exact T.em_AsItIs_GainError
theorem yh (r:RW):((rP r).map PyData.bool).countP (fun z=>PyData.eqv z (.bool true))=1:=by cases r <;> rfl
theorem vo (r:RW):(rP r)[RW.ix r]?=some true∧∀m,m<RW.ix r→(rP r)[m]?≠some true:=by
 cases r
 ·exact ⟨rfl,fun m h=>by cases h⟩
 ·exact ⟨rfl, fun m h => by obtain rfl:m=0:=by have:m<1:=h;trivial
                            decide⟩
 ·exact ⟨rfl, fun m h => by obtain rfl | rfl:m=0∨m=1:=by have:m<2:=h;trivial
                            all_goals decide⟩
 ·exact ⟨rfl, fun m h => by obtain rfl | rfl | rfl:m=0∨m=1∨m=2:=by have:m<3:=h;trivial
                            all_goals decide⟩
theorem tx:∀(l:List Bool),∃n,iS (l.map PyData.bool) n 0
 | []=>⟨_,.nil⟩
 | b :: l=>let ⟨_,h⟩:=tx l;⟨_,.cons (.bl b) h⟩
inductive yX (C:Addr) (vs:List V) (H:Hp) (Q:VK):Prop
 | mk (r L:Addr) (v:V) (D:cO) (past:List ai) (cur:ai) (h0:vs=[.ref r,v]) (h1:aC ED H v (.tuple (mD D))) (h2:aH C H r L (past++[cur])) (h3:gk 5000 past cur) (h4:∀u H',aD (Eb L) H H'→aH C H' r L (kO past cur D++[kN past cur D])→aC ED H' u (mC past cur D)→Q u H')
def A6 (C:Addr):Sp:=fun vs H Q _=>yX C vs H Q
theorem yz (T:Txt K mg):aT P w K mg base CX0 5 T.l_done_.f T.l_done_.d ["_law_roads", "_law_deed_here"] (A6 T.x_Roads):=by
 have G_l_do:=#[(BA)]
 refine T.l_done_.F.ok dW (fun vs H Q E h=>?_) (fun cdv A outer s H vs Q E hr h=>?_)
 ·obtain ⟨r,L,v,D,past,cur,rfl,_⟩:=h
  rfl
 ·obtain ⟨r,L,v,D,past,cur,rfl,hv,R,ok,k⟩:=h
  refine ⟨_,#[#[di 6 #[ar 5 #[[#[jD 3],#[jD 3]]]] (@cf _ (K) _ _ _ _ (2) rfl #[au 5 #[2,dW.nd,bj] #[au 5 #[3,dW.nd,gF] (@cA _) (by rfl)] (by rfl)] (by rfl) (by rfl) (by rfl)) (by rfl) (by rfl) (by rfl)] :: #[#[zV 12 (4) rfl rfl dW.nd rfl li mW T.m_GainError (fun EE pn xe hx=>#[aa 3 #[3,dW.nd,gF,#[xG 14 G_l_do (hr.mono (by decide)) qY T.l_do_.m T.l_do_.F.kp T.l_do_.B hx #[[#[0,oN],#[1,lx]]] (by decide) (by rfl) (by rfl)]]]) (fun _=>#[aa 3 #[2,dW.nd,bj,#[4,li]]]) (by decide)] :: #[#[aN 8 #[ap 8 (@wq _) #[2,bj] #[jD 3] #[(),()]] #[aa 3 #[am 4 #[ar 5 #[[#[ad 4],#[3,gF]]]]]] (@aB _)] :: #[#[5,dW.nd,cL,#[b5 4 #[[#[(),(),(@ej _ (K) (by rfl)),bK,T.b_isinstance,(@aA),#[[#[2,bj],#[j0 4 pK T.m_Taken (by decide)]]]],#[(),(),(@ej _ (K) (by rfl)),bK,T.b_isinstance,(@aA),#[[#[2,bj],#[j0 4 oI T.m_NoPlace (by decide)]]]],#[(),(),(@ej _ (K) (by rfl)),bK,T.b_isinstance,(@aA),#[[#[2,bj],#[j0 4 pS T.m_NoTie (by decide)]]]]]]]] :: #[#[5,dW.nd,cL,#[ax 8 (@y6 _) #[5,cL] #[b5 4 #[[#[(),(),(@ej _ (K) (by rfl)),bK,T.b_isinstance,(@aA),#[[#[2,bj],#[j0 4 oU T.m_AsItIs (by decide)]]]],#[(),(),(@pB _ (K) (by rfl)),bK,T.b_isinstance,(@aA),#[[#[2,bj],#[ar 5 #[[#[j0 4 pc T.m_NoEnds (by decide)],#[j0 4 mH T.m_NotSoMuch (by decide)],#[j0 4 oF T.m_Gaining (by decide)]]]]]]]]]]]] :: #[#[aN 8 #[PW.pt 3 #[ph 7 #[ap 8 (@lJ _) (@b8 _ (K) _ _ _ _ _ _ _ _ _ _ _ PySem.F.plainAttrs_list PySem.F.slot_list_count PySem.F.type_list_count (@u4 _ hr.units) #[5,cL] #[[#[cW 4]]] (by rfl) (by rfl) (by rfl) (by rfl) (by rfl) (by rfl)) #[()] #[(),()]] #[mU 4 #[iM 4 #[dk 3 #[(),(),(@ej _ (K) (by rfl)),bK,T.b_isinstance,(@aA),#[[#[2,bj],#[fM 4 lW T.b_ValueError (@mZ) (by decide) (by decide)]]]] (by intro _;rfl)]]]]] #[aa 3 #[am 4 #[ar 5 #[[#[ad 4],#[ad 4]]]]]] (@aB _)] :: #[aa 3 #[am 4 #[ar 5 #[[#[ad 4],#[#[b5 4 #[[#[ad 4],#[ad 4],#[ad 4],#[ad 4],#[ad 4]]]][(@b8 _ (K) _ _ _ _ _ _ _ _ _ _ _ PySem.F.plainAttrs_list PySem.F.slot_list_index PySem.F.type_list_index (@uT _) #[5,cL] #[[#[cW 4]]] (by rfl) (by rfl) (by rfl) (by rfl) (by rfl) (by rfl))]!]]]]]]]]]]]],?_⟩
  refine bi fun D0 n0=>⟨(by show 2≤10000;decide),fun t0 H0 m0=>⟨t0,(),af.of m0.at',rfl,_,(),_,(),rfl,n0 _ _ ?_⟩⟩
  refine bi fun DA nA=>?_
  refine ⟨(),(),r,L,v,D,past,cur,rfl,hv.mono m0.sm.toE,R.sm m0.sm,ok,fun rw_ e H1 s1=>?_,fun e u H1 s1 R1 du=>nA _ _ ?_⟩
  ·intro a' C' eC ha'
   cases eC
   obtain ⟨q1,q2,q3,q4⟩:=wv T rw_
   refine ⟨q4,⟨(),nA _ _ ?_⟩⟩
   refine bi fun DB nB=>⟨(),rfl,(),aO (nB _ _ ?_)⟩
   refine f7 fun Q3 n3=>⟨(),a',fh T rw_,_,_,(),ha',rfl,q1,jO T rw_ (j:=0) rfl,(),a',fh T rw_,_,_,(),ha',rfl,q1,jO T rw_ (j:=1) rfl,(),a',fh T rw_,_,_,(),ha',rfl,q1,jO T rw_ (j:=2) rfl,(by show 3≤10000;decide),fun l1 H2 m2=>n3 _ _ ?_⟩
   have ha2:=m2.sm _ _ ha'
   refine f7 fun Q4 n4=>⟨(),(),a',fh T rw_,_,_,(),ha2,rfl,q1,jO T rw_ (j:=3) rfl,(),(by show 3≤10000;decide),fun tq H3 m3=>⟨a',fh T rw_,tq,_,[.ref T.x_NoEnds,.ref T.x_NotSoMuch,.ref T.x_Gaining],(),m3.sm _ _ ha2,m3.at',rfl,q1,q3,(by show 2≤10000;decide),fun l2 H4 m4=>⟨l1,l2,_,(),rfl,(m3.sm.trans m4.sm) _ _ m2.at',m4.at',(by show 3+2≤10000;decide),fun l3 H5 m5=>n4 _ _ ?_⟩⟩⟩
   have s25:=(m3.sm.trans m4.sm).trans m5.sm
   have h5:H5 l3=some (.lst ((rP rw_).map V.bl)):=by
    rw [m5.at']
    cases rw_ <;> rfl
   obtain ⟨wn,wt⟩:=tx (rP rw_)
   refine bi fun DC nC=>⟨(),.inl ⟨rfl,_,ao.of h5⟩,⟨l3,(),h5⟩,.bl true,.bool true,.list ((rP rw_).map .bool),ED,(fun _=>False),_,_,0,_,(),.bl _,.lst h5 (fun z=>z) (pM _),.bl _,.list wt,by decide,rfl,rfl,(),?_⟩
   rw [yh]
   refine aO ⟨(),a',fh T rw_,_,_,(),s25 _ _ ha2,rfl,q1,q2,(),aO (nC _ _ ?_)⟩
   refine ⟨(by show 5≤10000;decide),fun l4 H6 m6=>⟨(),.inl ⟨rfl,_,ao.of (m6.sm _ _ h5)⟩,l3,rP rw_,true,RW.ix rw_,rfl,rfl,m6.sm _ _ h5,(by show 5≤10000;decide),(vo rw_).1,(vo rw_).2,l4,_,_,.str rw_.w,rfl,rfl,ao.of m6.at',by cases rw_ <;> rfl,(by show 2≤10000;decide),fun p7 H7 m7=>?_⟩⟩
   obtain ⟨e1,e2,e3⟩:=pG (past:=past) e
   have sA:aj H H7:=((((m0.sm.trans s1).trans m2.sm).trans s25).trans m6.sm).trans m7.sm
   refine k _ _ sA.toE (by rw [e1,e2];exact R.sm sA) (by rw [e3];exact .tup m7.at' (.cons (.str _) (.cons (.str _) .nil)))
  ·refine cw fun DB nB eB=>⟨(),rfl,(),aY ⟨(),(by show 2≤10000;decide),fun p2 H2 m2=>eB _ _ ?_⟩⟩
   have sA:aD (Eb L) H H2:=(m0.sm.toE.trans s1).trans m2.sm.toE
   exact k _ _ sA (R1.sm m2.sm) (by rw [rT e];exact .tup m2.at' (.cons (.str _) (.cons (du.mono m2.sm.toE) .nil)))
end
end K37
namespace K37
open PySem L2
set_option maxHeartbeats 4000000
section
variable {P:Program}{w:World}{K:PySem.W.Frag}{mg:Str→Option Value}{base:Heap}
def zc:Sp:=fun vs H Q _=>vs=[]∧∀d F H',aj H H'→eT H' d F [] qG→(∀a∈F,H a=none)→Q (.ref d) H'
theorem wH (T:Txt K mg):aT P w K mg base CX0 1 T.l_begin_.f T.l_begin_.d [] zc:=by
 refine T.l_begin_.F.ok uj (fun vs H Q E h=>?_) (fun cdv A outer s H vs Q E hr h=>?_)
 ·obtain ⟨rfl,_⟩:=h
  rfl
 ·obtain ⟨rfl,k⟩:=h
  refine ⟨_,#[aa 3 #[am 4 #[oJ 5 #[de 8 #[ad 4] #[b5 4 (@cq _)] #[de 8 #[ad 4] #[b5 4 (@cq _)] #[de 8 #[ad 4] #[b5 4 (@cq _)] #[de 8 #[ad 4] #[jD 3] #[de 8 #[ad 4] #[b5 4 (@cq _)] (@sO _)]]]]] (by rfl) (by rfl) (by exact fun z=>nomatch z) (by decide)]]],?_⟩
  intro d H0 m0
  refine ⟨.inr "places",rfl,(by show 0≤10000;decide),fun p H1 m1=>⟨.inr "ties",rfl,(by show 0≤10000;decide),fun t H2 m2=>⟨.inr "shut",rfl,(by show 0≤10000;decide),fun q H3 m3=>⟨.inr "ends",rfl,.inr "past",rfl,(by show 0≤10000;decide),fun z H4 m4=>?_⟩⟩⟩⟩
  have hd4:=m4.sm _ _ (m3.sm _ _ (m2.sm _ _ (m1.sm _ _ m0.at')))
  refine ⟨hd4,AH (p:=p) (t:=t) (q:=q) (z:=z) (v:=.non),(by show 5≤15;decide),fun H5 c5=>?_⟩
  have s4:=(((m0.sm.trans m1.sm).trans m2.sm).trans m3.sm).trans m4.sm
  have ne0:∀{x o},H0 x=none→H4 x=some o→x≠d:=fun h _ e=>by rw [e,m0.at'] at h;cases h
  have fp:=m1.fr
  have ft:=m1.sm.free m2.fr
  have fq:=m1.sm.free (m2.sm.free m3.fr)
  have fz:=m1.sm.free (m2.sm.free (m3.sm.free m4.fr))
  have g0:∀{x},H0 x=none→H x=none:=fun h=>m0.sm.free h
  have nd0:∀{x},H0 x=none→x≠d:=fun h e=>by rw [e,m0.at'] at h;cases h
  have hp4:=m4.sm _ _ (m3.sm _ _ (m2.sm _ _ m1.at'))
  have ht4:=m4.sm _ _ (m3.sm _ _ m2.at')
  have hq4:=m4.sm _ _ m3.at'
  have tp:p≠t:=fun e=>by have:=m2.fr;rw [←e,m1.at'] at this;cases this
  have pq:p≠q:=fun e=>by have:=m3.fr;rw [←e,m2.sm _ _ m1.at'] at this;cases this
  have tq:t≠q:=fun e=>by have:=m3.fr;rw [←e,m2.at'] at this;cases this
  have pz:p≠z:=fun e=>by have:=m4.fr;rw [←e,m3.sm _ _ (m2.sm _ _ m1.at')] at this;cases this
  have tz:t≠z:=fun e=>by have:=m4.fr;rw [←e,m3.sm _ _ m2.at'] at this;cases this
  have qz:q≠z:=fun e=>by have:=m4.fr;rw [←e,m3.at'] at this;cases this
  refine k d (bX d p t q z []) H5 (fun a o h=>c5.ol a o (fun e=>by have:=m0.fr;rw [←e,h] at this;cases this) (s4 _ _ h)) ⟨p,t,q,z,.non,[],⟨c5.at',⟨c5.ol _ _ (nd0 fp) hp4,⟨[],c5.ol _ _ (nd0 ft) ht4,.nil⟩,c5.ol _ _ (nd0 fq) hq4,.non⟩,c5.ol _ _ (nd0 fz) m4.at',.nil,?_⟩,rfl⟩ fun a ha=>?_
  ·simp only [bX,d5,List.nodup_cons,List.mem_cons,not_or,List.not_mem_nil,or_false]
   have:=nd0 fp
   have:=nd0 ft
   have:=nd0 fq
   have:=nd0 fz
   grind
  ·simp only [bX,d5,List.mem_cons,List.not_mem_nil,or_false] at ha
   rcases ha with rfl | rfl | rfl | rfl | rfl
   ·exact m0.fr
   ·exact g0 fz
   ·exact g0 fp
   ·exact g0 ft
   ·exact g0 fq
inductive vZ (K:PySem.W.Frag) (vs:List V) (H:Hp) (Q:VK):Prop
 | mk (d p t q z:Addr) (v:V) (es:List fD) (past:List ai) (cur:ai) (h0:vs=[.ref d]) (h1:bC H d past cur p t q z v es) (h2:∀(e:fD) H',aj H H'→H e.o=none→H e.p=none→H e.t=none→H e.q=none→[e.o,e.p,e.t,e.q].Nodup→H' e.o=some (.dK (sn e.p e.t e.q e.v))→nV H' e.p e.t e.q e.v cur→Q (.ref e.o) H')
def wO (K:PySem.W.Frag):Sp:=fun vs H Q _=>vZ K vs H Q
theorem vt (T:Txt K mg):aT P w K mg base CX0 1 T.l_copied_.f T.l_copied_.d ["_law_own"] (wO K):=by
 refine T.l_copied_.F.ok sY (fun vs H Q E h=>?_) (fun cdv A outer s H vs Q E hr h=>?_)
 ·obtain ⟨d,p,t,q,z,v,es,past,cur,rfl,_⟩:=h
  rfl
 ·obtain ⟨d,p0,t0,q0,z0,v,es,past,cur,rfl,O,k⟩:=h
  refine ⟨_,#[aa 3 #[am 4 #[oJ 5 #[de 8 #[ad 4] #[dh 9 (@gu _ (K) (by rfl)) gY T.b_list (@cM) #[[#[aU 7 (@aX _) #[0,d7] #[ad 4] (fun _ _=>rfl)]]] (by decide) (by decide) (by rfl) (by rfl)] #[de 8 #[ad 4] #[dh 9 (@gu _ (K) (by rfl)) gY T.b_list (@cM) #[[#[aU 7 (@aX _) #[0,d7] #[ad 4] (fun _ _=>rfl)]]] (by decide) (by decide) (by rfl) (by rfl)] #[de 8 #[ad 4] #[dh 9 (@gu _ (K) (by rfl)) gY T.b_list (@cM) #[[#[aU 7 (@aX _) #[0,d7] #[ad 4] (fun _ _=>rfl)]]] (by decide) (by decide) (by rfl) (by rfl)] #[de 8 #[ad 4] #[aU 7 (@aX _) #[0,d7] #[ad 4] (fun _ _=>rfl)] (@sO _)]]]] (by rfl) (by rfl) (by exact fun z=>nomatch z) (by decide)]]],?_⟩
  intro d1 H0 m0
  obtain ⟨xs,hx1,hx2⟩:=O.l.ht
  have hd0:=m0.sm _ _ O.hd
  refine ⟨.inr "places",rfl,(),d,_,.inr "places",(),rfl,hd0,vP,p0,(),.inl (ao.of (m0.sm _ _ O.l.hp)),fun p H1 m1=>?_⟩
  have s1:=m0.sm.trans m1.sm
  refine ⟨.inr "ties",rfl,(),d,_,.inr "ties",(),rfl,s1 _ _ O.hd,vT,t0,(),.inl (ao.of (s1 _ _ hx1)),fun t H2 m2=>?_⟩
  have s2:=s1.trans m2.sm
  refine ⟨.inr "shut",rfl,(),d,_,.inr "shut",(),rfl,s2 _ _ O.hd,vS,q0,(),.inl (ao.of (s2 _ _ O.l.hq)),fun q H3 m3=>?_⟩
  have s3:=s2.trans m3.sm
  refine ⟨.inr "ends",rfl,(),d,_,.inr "ends",(),rfl,s3 _ _ O.hd,vE,?_⟩
  have hd4:=m3.sm _ _ (m2.sm _ _ (m1.sm _ _ m0.at'))
  refine ⟨hd4,BE (p:=p) (t:=t) (q:=q) (v:=v),(by show 4≤15;decide),fun H5 c5=>?_⟩
  have fp:=m1.fr
  have ft:=m1.sm.free m2.fr
  have fq:=m1.sm.free (m2.sm.free m3.fr)
  have g0:∀{x},H0 x=none→H x=none:=fun h=>m0.sm.free h
  have nd0:∀{x},H0 x=none→x≠d1:=fun h e=>by rw [e,m0.at'] at h;cases h
  have tp:p≠t:=fun e=>by have:=m2.fr;rw [←e,m1.at'] at this;cases this
  have pq:p≠q:=fun e=>by have:=m3.fr;rw [←e,m2.sm _ _ m1.at'] at this;cases this
  have tq:t≠q:=fun e=>by have:=m3.fr;rw [←e,m2.at'] at this;cases this
  have s5:aj H H5:=fun a o h=>c5.ol a o (fun e=>by have:=m0.fr;rw [←e,h] at this;cases this) (s3 _ _ h)
  refine k ⟨d1,p,t,q,v⟩ H5 s5 m0.fr (g0 fp) (g0 ft) (g0 fq) ?_ c5.at' ⟨c5.ol _ _ (nd0 fp) (m3.sm _ _ (m2.sm _ _ m1.at')),⟨xs,c5.ol _ _ (nd0 ft) (m3.sm _ _ m2.at'),hx2.mono s5.toE⟩,c5.ol _ _ (nd0 fq) m3.at',O.l.hv.mono s5.toE⟩
  simp only [List.nodup_cons,List.mem_cons,not_or,List.not_mem_nil,or_false]
  have:=nd0 fp
  have:=nd0 ft
  have:=nd0 fq
  grind
def CI:Option RW→Str
 | none => ""
 | some r=>r.w
inductive Ar (vs:List V) (H:Hp) (Q:VK):Prop
 | mk (d p t q z:Addr) (v u:V) (es:List fD) (past:List ai) (cur:ai) (D:cO) (h0:vs=[.ref d,u]) (h1:bC H d past cur p t q z v es) (h2:aC ED H u (.tuple (mD D))) (h3:∀H',aj H H'→Q (.str (CI (bw cur D))) H')
def BH:Sp:=fun vs H Q _=>Ar  vs H Q
theorem DK {x:Str}{l:List Str}:qd (.str x) (l.map V.str)=decide (x∈l):=by
 unfold qd
 rw [List.any_map,Bool.eq_iff_iff,List.any_eq_true,decide_eq_true_iff]
 constructor
 ·rintro ⟨y,h1,h2⟩
  have h2':(y==x)=true:=h2
  rw [←eq_of_beq h2']
  exact h1
 ·exact fun h=>⟨x,h,by show (x==x)=true;simp⟩
theorem uQ (T:Txt K mg):aT P w K mg base CX0 1 T.l_refused_.f T.l_refused_.d ["_law_own", "_law_deed_here"] BH:=by
 refine T.l_refused_.F.ok jU (fun vs H Q E h=>?_) (fun cdv A outer s H vs Q E hr h=>?_)
 ·obtain ⟨d,p,t,q,z,v,u,es,past,cur,D,rfl,_⟩:=h
  rfl
 ·obtain ⟨d,p,t,q,z,v,u,es,past,cur,D,rfl,O,hv,k⟩:=h
  refine ⟨_,#[#[jz 2 (2) (3) _ _ _ _ _ _ _ _ _ _ _ rfl jU.nd rfl rfl (by decide) bT bu #[[#[#[1,fX][#[()]]],#[cD 10 (@eG _ (K) (by rfl)) #[1,fX] #[cI 3 #[()]] (@dM _)]]] (by kernel_rfl) (by rfl)] :: #[#[aN 8 #[ap 8 (@br _) #[2,bT] #[ad 4] #[(),()]] #[aa 3 #[am 4 #[cR 8 #[ap 8 (@lD _ (K) (by rfl)) #[#[3,bu][#[()]]] #[aU 7 (@aX _) #[0,cG] #[ad 4] (fun _ _=>rfl)] rfl] #[ad 4] #[ad 4]]]] (@aB _)] :: #[#[aN 8 #[ap 8 (@lD _ (K) (by rfl)) #[2,bT] #[ar 5 #[[#[ad 4],#[ad 4]]]] rfl] #[#[4,jU.nd,ib,#[jK 7 #[bD 8 (@lD _ (K) (by rfl)) #[#[3,bu][#[()]]] #[aU 7 (@aX _) #[0,cG] #[ad 4] (fun _ _=>rfl)] rfl] #[jK 7 #[bD 8 (@lD _ (K) (by rfl)) #[#[3,bu][#[()]]] #[aU 7 (@aX _) #[0,cG] #[ad 4] (fun _ _=>rfl)] rfl] #[kT 5 #[bD 8 (@lJ _) #[#[3,bu][#[()]]] #[#[3,bu][#[()]]] #[(),()]]]]]] :: #[aa 3 #[am 4 #[cR 8 #[dk 3 #[4,ib] (by intro _;rfl)] #[ad 4] #[ad 4]]]]] (@aB _)] :: #[#[aN 8 #[PW.pt 3 #[vh 7 #[ap 8 (@lJ _) #[2,bT] #[ad 4] #[(),()]] #[tR 4 #[iM 4 #[sk 12 (@xO _) (@eU _) #[()] #[#[3,bu][#[()]]] #[(),(),(@dI _ (K) (by rfl)),oY,T.b_len,(@bh),#[[#[aU 7 (@aX _) #[0,cG] #[ad 4] (fun _ _=>rfl)]]]] (by with_unfolding_all rfl)]]]]] #[aa 3 #[am 4 #[ad 4]]] (@aB _)] :: #[#[aN 8 #[PW.pt 3 #[vh 7 #[ap 8 (@lD _ (K) (by rfl)) #[2,bT] #[ar 5 #[[#[ad 4],#[ad 4]]]] rfl] #[tR 4 #[ap 8 (@br _) #[bD 8 (@lD _ (K) (by rfl)) #[#[3,bu][#[()]]] #[aU 7 (@aX _) #[0,cG] #[ad 4] (fun _ _=>rfl)] rfl] #[bD 8 (@br _) #[2,bT] #[ad 4] #[(),()]] #[(),()]]]]] #[aa 3 #[am 4 #[ad 4]]] (@aB _)] :: #[aa 3 #[am 4 #[ad 4]]]]]]]],?_⟩
  obtain ⟨a,xs,rfl,ha,ia⟩:=nv hv
  obtain ⟨ys,hty,htd⟩:=O.l.ht
  have ly:=htd.length
  rw [List.length_map] at ly
  have in2:∀{x y z:Str}{J:Hp}{tp:Addr},J tp=some (.tup [.str y,.str z])→∀{Q:VK},Q (.bl (decide (x∈[y,z]))) J→sf K false (.str x) (.ref tp) J Q:=fun {x y z J tp} h {Q} q=>⟨tp,(),.inr (af.of h),rfl,rfl,by simp only [if_false,Bool.false_eq_true];rw [show [V.str y,V.str z]=[y,z].map V.str from rfl,DK];exact q⟩
  have inP:∀{J:Hp},aj H J→∀(n:List Nat) {Q:VK},Q (.bl (decide (n∈cur.pl))) J→sf K false (bt n) (.ref p) J Q:=fun {J} s n {Q} q=>⟨p,(),.inl (ao.of (s _ _ O.l.hp)),rfl,rk _,by simp only [if_false,Bool.false_eq_true];rw [xY];exact q⟩
  have inQ:∀{J:Hp},aj H J→∀(i:Int) {Q:VK},Q (.bl (decide (i∈cur.sh))) J→sf K false (.int i) (.ref q) J Q:=fun {J} s i {Q} w=>⟨q,(),.inl (ao.of (s _ _ O.l.hq)),rfl,uC _,by simp only [if_false,Bool.false_eq_true];rw [At];exact w⟩
  cases D with
  | place n=>
   obtain ⟨x,y,rfl,hx,hy⟩:=gb ia
   cases aL hx
   cases aL hy
   refine fi fun Q0 n0=>⟨(),a,_,_,(),rfl,af.of ha,rfl,(),(),a,(),af.of ha,ha,fun p1 H1 s1 h1=>n0 _ _ _ ?_⟩
   refine fR rfl ⟨(),p1,_,_,(),rfl,af.of h1,rfl,(),d,_,.inr "places",(),rfl,s1 _ _ O.hd,vP,inP s1 n ⟨(),?_⟩⟩
   have kk:=k H1 s1
   by_cases c:n∈cur.pl
   ·rw [show bw cur (.place n)=some .taken from if_pos c] at kk
    rw [decide_eq_true c]
    exact aY kk
   ·rw [show bw cur (.place n)=none from if_neg c] at kk
    rw [decide_eq_false c]
    exact aO kk
  | tie tt=>
   obtain ⟨x1,x2,x3,x4,x5,x6,rfl,hx1,hx2,hx3,hx4,hx5,hx6⟩:=sD ia
   cases aL hx1
   cases aL hx2
   cases aL hx3
   refine fi fun Q0 n0=>⟨(),a,_,_,(),rfl,af.of ha,rfl,(),(),a,(),af.of ha,ha,fun p1 H1 s1 h1=>n0 _ _ _ ?_⟩
   refine aJ rfl (by nofun) (cw fun D1 n1 e1=>⟨(),(by show 2≤10000;decide),fun p2 H2 m2=>in2 m2.at' ⟨(),?_⟩⟩)
   rw [decide_eq_true (by nofun)]
   have s2:=s1.trans m2.sm
   have h2:=m2.sm _ _ h1
   have kk:=k H2 s2
   refine aY (f7 fun Q3 n3=>⟨(),p1,_,_,(),rfl,af.of h2,rfl,(),d,_,.inr "places",(),rfl,s2 _ _ O.hd,vP,inP s2 tt.bg ⟨(),?_⟩⟩)
   have fin:∀b:Bool,b=decide (two cur tt.bg tt.en)→Q3 (.bl b) H2:=fun b eb=>by
    refine n3 _ _ ⟨(),(),?_⟩
    by_cases c:two cur tt.bg tt.en
    ·rw [show bw cur (.tie tt)=none from if_pos c] at kk
     rw [eb,decide_eq_true c]
     exact aY (e1 _ _ kk)
    ·rw [show bw cur (.tie tt)=some .noPlace from if_neg c] at kk
     rw [eb,decide_eq_false c]
     exact aO (e1 _ _ kk)
   by_cases c1:tt.bg∈cur.pl
   ·rw [decide_eq_true c1]
    refine aY ⟨(),p1,_,_,(),rfl,af.of h2,rfl,(),d,_,.inr "places",(),rfl,s2 _ _ O.hd,vP,inP s2 tt.en ⟨(),?_⟩⟩
    by_cases c2:tt.en∈cur.pl
    ·rw [decide_eq_true c2]
     refine aY ⟨(),p1,_,_,(),rfl,af.of h2,rfl,(),p1,_,_,(),rfl,af.of h2,rfl,rfl,fin _ ?_⟩
     rw [Bool.eq_iff_iff,decide_eq_true_iff]
     unfold two
     simp only [c1,c2,true_and,Bool.not_eq_true',decide_eq_false_iff_not,xL,ne_eq]
    ·rw [decide_eq_false c2]
     exact aO (fin _ (decide_eq_false fun z=>c2 z.2.1).symm)
   ·rw [decide_eq_false c1]
    exact aO (fin _ (decide_eq_false fun z=>c1 z.1).symm)
  | ends bb ee=>
   obtain ⟨x1,x2,x3,rfl,hx1,hx2,hx3⟩:=jH ia
   cases aL hx1
   cases aL hx2
   cases aL hx3
   refine fi fun Q0 n0=>⟨(),a,_,_,(),rfl,af.of ha,rfl,(),(),a,(),af.of ha,ha,fun p1 H1 s1 h1=>n0 _ _ _ ?_⟩
   refine aJ rfl (by nofun) (cw fun D1 n1 e1=>⟨(),(by show 2≤10000;decide),fun p2 H2 m2=>in2 m2.at' ⟨(),?_⟩⟩)
   rw [decide_eq_true (by nofun)]
   have s2:=s1.trans m2.sm
   have h2:=m2.sm _ _ h1
   have kk:=k H2 s2
   refine aY (f7 fun Q3 n3=>⟨(),p1,_,_,(),rfl,af.of h2,rfl,(),d,_,.inr "places",(),rfl,s2 _ _ O.hd,vP,inP s2 bb ⟨(),?_⟩⟩)
   have fin:∀b:Bool,b=decide (two cur bb ee)→Q3 (.bl b) H2:=fun b eb=>by
    refine n3 _ _ ⟨(),(),?_⟩
    by_cases c:two cur bb ee
    ·rw [show bw cur (.ends bb ee)=none from if_pos c] at kk
     rw [eb,decide_eq_true c]
     exact aY (e1 _ _ kk)
    ·rw [show bw cur (.ends bb ee)=some .noPlace from if_neg c] at kk
     rw [eb,decide_eq_false c]
     exact aO (e1 _ _ kk)
   by_cases c1:bb∈cur.pl
   ·rw [decide_eq_true c1]
    refine aY ⟨(),p1,_,_,(),rfl,af.of h2,rfl,(),d,_,.inr "places",(),rfl,s2 _ _ O.hd,vP,inP s2 ee ⟨(),?_⟩⟩
    by_cases c2:ee∈cur.pl
    ·rw [decide_eq_true c2]
     refine aY ⟨(),p1,_,_,(),rfl,af.of h2,rfl,(),p1,_,_,(),rfl,af.of h2,rfl,rfl,fin _ ?_⟩
     rw [Bool.eq_iff_iff,decide_eq_true_iff]
     unfold two
     simp only [c1,c2,true_and,Bool.not_eq_true',decide_eq_false_iff_not,xL,ne_eq]
    ·rw [decide_eq_false c2]
     exact aO (fin _ (decide_eq_false fun z=>c2 z.2.1).symm)
   ·rw [decide_eq_false c1]
    exact aO (fin _ (decide_eq_false fun z=>c1 z.1).symm)
  | part kk i x=>
   obtain ⟨x1,x2,x3,rfl,hx1,hx2',hx3⟩:=jH ia
   cases aL hx1
   cases jn hx2'
   refine fi fun Q0 n0=>⟨(),a,_,_,(),rfl,af.of ha,rfl,(),(),a,(),af.of ha,ha,fun p1 H1 s1 h1=>n0 _ _ _ ?_⟩
   refine aJ rfl (by cases kk <;> decide +kernel) (cw fun D1 n1 e1=>⟨(),(by show 2≤10000;decide),fun p2 H2 m2=>in2 m2.at' ⟨(),?_⟩⟩)
   rw [decide_eq_false (by cases kk <;> decide +kernel)]
   have s2:=s1.trans m2.sm
   have h2:=m2.sm _ _ h1
   refine aO (n1 _ _ (cw fun D3 n3 e3=>⟨(),rfl,(),?_⟩))
   rw [decide_eq_false (by cases kk <;> decide +kernel)]
   refine aY ⟨(),p1,_,_,(),rfl,af.of h2,rfl,_,(),rfl,(),?_⟩
   have kk2:=k H2 s2
   by_cases c0:0≤i
   ·rw [decide_eq_true c0]
    refine aY ⟨(),d,_,.inr "ties",(),rfl,s2 _ _ O.hd,vT,t,(),.inl (ao.of (s2 _ _ hty)),_,(),rfl,(),?_⟩
    by_cases c1:i<(ys.length:Int)
    ·rw [decide_eq_true c1]
     have hs:has cur i:=⟨c0,by rw [←ly];exact c1⟩
     refine aO (n3 _ _ (cw fun D4 n4 e4=>⟨(),(by show 2≤10000;decide),fun p3 H3 m3=>in2 m3.at' ⟨(),?_⟩⟩))
     have s3:=s2.trans m3.sm
     have kk3:=k H3 s3
     have h3:=m3.sm _ _ h2
     rw [decide_eq_false (by cases kk <;> decide +kernel)]
     rw [show bw cur (.part kk i x)=none from if_pos hs] at kk3
     exact aO (n4 _ _ kk3)
    ·rw [decide_eq_false c1]
     rw [show bw cur (.part kk i x)=some .noTie from if_neg fun z=>c1 (by rw [ly];exact z.2)] at kk2
     exact aY (e3 _ _ kk2)
   ·rw [decide_eq_false c0]
    rw [show bw cur (.part kk i x)=some .noTie from if_neg fun z=>c0 z.1] at kk2
    exact aO ⟨(),aY (e3 _ _ kk2)⟩
  | shut i=>
   obtain ⟨x1,x2,rfl,hx1,hx2'⟩:=gb ia
   cases aL hx1
   cases jn hx2'
   refine fi fun Q0 n0=>⟨(),a,_,_,(),rfl,af.of ha,rfl,(),(),a,(),af.of ha,ha,fun p1 H1 s1 h1=>n0 _ _ _ ?_⟩
   refine aJ rfl (by nofun) (cw fun D1 n1 e1=>⟨(),(by show 2≤10000;decide),fun p2 H2 m2=>in2 m2.at' ⟨(),?_⟩⟩)
   rw [decide_eq_false (by nofun)]
   have s2:=s1.trans m2.sm
   have h2:=m2.sm _ _ h1
   refine aO (n1 _ _ (cw fun D3 n3 e3=>⟨(),rfl,(),?_⟩))
   rw [decide_eq_false (by nofun)]
   refine aY ⟨(),p1,_,_,(),rfl,af.of h2,rfl,_,(),rfl,(),?_⟩
   have kk2:=k H2 s2
   by_cases c0:0≤i
   ·rw [decide_eq_true c0]
    refine aY ⟨(),d,_,.inr "ties",(),rfl,s2 _ _ O.hd,vT,t,(),.inl (ao.of (s2 _ _ hty)),_,(),rfl,(),?_⟩
    by_cases c1:i<(ys.length:Int)
    ·rw [decide_eq_true c1]
     have hs:has cur i:=⟨c0,by rw [←ly];exact c1⟩
     refine aO (n3 _ _ (cw fun D4 n4 e4=>⟨(),(by show 2≤10000;decide),fun p3 H3 m3=>in2 m3.at' ⟨(),?_⟩⟩))
     have s3:=s2.trans m3.sm
     have kk3:=k H3 s3
     have h3:=m3.sm _ _ h2
     rw [decide_eq_true (by nofun)]
     refine aY ⟨(),p1,_,_,(),rfl,af.of h3,rfl,(),d,_,.inr "shut",(),rfl,s3 _ _ O.hd,vS,inQ s3 i ⟨(),rfl,rfl,(),?_⟩⟩
     by_cases c:i∈cur.sh
     ·rw [show bw cur (.shut i)=some .asItIs from (if_pos hs).trans (if_pos c)] at kk3
      rw [decide_eq_true c,decide_eq_true (rfl:V.str (Str.ofString "shut")=V.str (Str.ofString "shut"))]
      exact aY (e4 _ _ kk3)
     ·rw [show bw cur (.shut i)=none from (if_pos hs).trans (if_neg c)] at kk3
      rw [decide_eq_false c,decide_eq_true (rfl:V.str (Str.ofString "shut")=V.str (Str.ofString "shut"))]
      exact aO (n4 _ _ kk3)
    ·rw [decide_eq_false c1]
     rw [show bw cur (.shut i)=some .noTie from if_neg fun z=>c1 (by rw [ly];exact z.2)] at kk2
     exact aY (e3 _ _ kk2)
   ·rw [decide_eq_false c0]
    rw [show bw cur (.shut i)=some .noTie from if_neg fun z=>c0 z.1] at kk2
    exact aO ⟨(),aY (e3 _ _ kk2)⟩
  | opn i=>
   obtain ⟨x1,x2,rfl,hx1,hx2'⟩:=gb ia
   cases aL hx1
   cases jn hx2'
   refine fi fun Q0 n0=>⟨(),a,_,_,(),rfl,af.of ha,rfl,(),(),a,(),af.of ha,ha,fun p1 H1 s1 h1=>n0 _ _ _ ?_⟩
   refine aJ rfl (by nofun) (cw fun D1 n1 e1=>⟨(),(by show 2≤10000;decide),fun p2 H2 m2=>in2 m2.at' ⟨(),?_⟩⟩)
   rw [decide_eq_false (by nofun)]
   have s2:=s1.trans m2.sm
   have h2:=m2.sm _ _ h1
   refine aO (n1 _ _ (cw fun D3 n3 e3=>⟨(),rfl,(),?_⟩))
   rw [decide_eq_false (by nofun)]
   refine aY ⟨(),p1,_,_,(),rfl,af.of h2,rfl,_,(),rfl,(),?_⟩
   have kk2:=k H2 s2
   by_cases c0:0≤i
   ·rw [decide_eq_true c0]
    refine aY ⟨(),d,_,.inr "ties",(),rfl,s2 _ _ O.hd,vT,t,(),.inl (ao.of (s2 _ _ hty)),_,(),rfl,(),?_⟩
    by_cases c1:i<(ys.length:Int)
    ·rw [decide_eq_true c1]
     have hs:has cur i:=⟨c0,by rw [←ly];exact c1⟩
     refine aO (n3 _ _ (cw fun D4 n4 e4=>⟨(),(by show 2≤10000;decide),fun p3 H3 m3=>in2 m3.at' ⟨(),?_⟩⟩))
     have s3:=s2.trans m3.sm
     have kk3:=k H3 s3
     have h3:=m3.sm _ _ h2
     rw [decide_eq_true (by nofun)]
     refine aY ⟨(),p1,_,_,(),rfl,af.of h3,rfl,(),d,_,.inr "shut",(),rfl,s3 _ _ O.hd,vS,inQ s3 i ⟨(),rfl,rfl,(),?_⟩⟩
     by_cases c:i∈cur.sh
     ·rw [show bw cur (.opn i)=none from (if_pos hs).trans (if_pos c)] at kk3
      rw [decide_eq_true c,decide_eq_false (show ¬V.str (Str.ofString "reopen")=V.str (Str.ofString "shut") by nofun)]
      exact aO (n4 _ _ kk3)
     ·rw [show bw cur (.opn i)=some .asItIs from (if_pos hs).trans (if_neg c)] at kk3
      rw [decide_eq_false c,decide_eq_false (show ¬V.str (Str.ofString "reopen")=V.str (Str.ofString "shut") by nofun)]
      exact aY (e4 _ _ kk3)
    ·rw [decide_eq_false c1]
     rw [show bw cur (.opn i)=some .noTie from if_neg fun z=>c1 (by rw [ly];exact z.2)] at kk2
     exact aY (e3 _ _ kk2)
   ·rw [decide_eq_false c0]
    rw [show bw cur (.opn i)=some .noTie from if_neg fun z=>c0 z.1] at kk2
    exact aO ⟨(),aY (e3 _ _ kk2)⟩
  | back=>
   obtain ⟨x1,rfl,hx1⟩:=rn ia
   cases aL hx1
   refine fi fun Q0 n0=>⟨(),a,_,_,(),rfl,af.of ha,rfl,(),(),a,(),af.of ha,ha,fun p1 H1 s1 h1=>n0 _ _ _ ?_⟩
   refine aJ rfl (by nofun) (cw fun D1 n1 e1=>⟨(),(by show 2≤10000;decide),fun p2 H2 m2=>in2 m2.at' ⟨(),?_⟩⟩)
   rw [decide_eq_false (by nofun)]
   have s2:=s1.trans m2.sm
   refine aO (n1 _ _ (cw fun D3 n3 e3=>⟨(),rfl,(),?_⟩))
   rw [decide_eq_true rfl]
   refine aO (n3 _ _ (cw fun D4 n4 e4=>⟨(),(by show 2≤10000;decide),fun p3 H3 m3=>in2 m3.at' ⟨(),?_⟩⟩))
   rw [decide_eq_false (by nofun)]
   exact aO (n4 _ _ (k H3 (s2.trans m3.sm)))
end
end K37
namespace K37
open PySem L2
set_option maxHeartbeats 8000000
theorem wo {α:Type}{x:α}{xs:List α}:gJ (x :: xs) 0=some x:=by simp [gJ,kg]
theorem cP {i:Nat}{x y:Str}{t u:TS}{D:cK}{σ:St}{H:Hp} (hσ:σ[i]?=some (some (V.str x))) (hn:¬V.str x=V.str y) (h:u D σ H):pU (nI (ql va (oA i) (tC (.str y)))) t u D σ H:=by
 refine ⟨_,hσ,rfl,(),?_⟩
 rw [decide_eq_false hn]
 exact aO h
theorem lj {i:Nat}{x:Str}{t u:TS}{D:cK}{σ:St}{H:Hp} (hσ:σ[i]?=some (some (V.str x))) (h:t D σ H):pU (nI (ql va (oA i) (tC (.str x)))) t u D σ H:=by
 refine ⟨_,hσ,rfl,(),?_⟩
 rw [decide_eq_true rfl]
 exact aY h
theorem sv:∀{l:List Int}{j:Nat}{a:Int},l.Nodup→l[j]?=some a→l.eraseIdx j=l.erase a
 | [],_,_,_,h=>by simp at h
 | b :: l,0,a,_,h=>by
  simp at h
  subst h
  simp
 | b :: l,j+1,a,nd,h=>by
  rw [List.nodup_cons] at nd
  have h':l[j]?=some a:=by simpa using h
  have ne:b≠a:=fun z=>nd.1 (z▸List.mem_of_getElem? h')
  rw [List.eraseIdx_cons_succ,List.erase_cons_tail (by simpa using ne),sv nd.2 h']
theorem vQ {F:List Addr}{H H':Hp}{p:Addr}{xs ys:List V} (c:Ch H p xs H') (hp:H p=some (.lst ys)) (hF:p∈F):aD (·∈F) H H':=⟨fun a o n h=>c.ol a o (fun z=>n (z▸hF)) h,fun a us h=>c.tup h hp⟩
theorem CN (r:RW):¬V.str r.w=V.str "" := by cases r <;> decide +kernel
theorem Di {k:ig}:valD [(.inr "set_most",.int 2),(.inr "set_gain",.int 3),(.inr "set_price",.int 4)] (.inr k.w)=some (V.int (k.at:Int)):=by
 have k1:¬(Sum.inr ("set_most" : Str):aS)=.inr "set_gain" := by nofun
 have k2:¬(Sum.inr ("set_most" : Str):aS)=.inr "set_price" := by nofun
 have k3:¬(Sum.inr ("set_gain" : Str):aS)=.inr "set_price" := by nofun
 cases k
 ·exact fw
 ·exact (bS k1).trans fw
 ·exact (bS k2).trans ((bS k3).trans fw)
section
variable {P:Program}{w:World}{K:PySem.W.Frag}{mg:Str→Option Value}{base:Heap}
inductive yZ (vs:List V) (H:Hp) (Q:VK):Prop
 | mk (d:Addr) (v:V) (D:cO) (F:List Addr) (past:List ai) (cur:ai) (h0:vs=[.ref d,v]) (h1:eT H d F past cur) (h2:aC ED H v (.tuple (mD D))) (h3:gk 5000 past cur) (h4:∀u H' F',aD (·∈F) H H'→eT H' d F' (kO past cur D) (kN past cur D)→(∀a∈F',a∈F∨H a=none)→aC ED H' u (mC past cur D)→Q u H')
def Aq:Sp:=fun vs H Q _=>yZ  vs H Q
theorem yI (T:Txt K mg):aT P w K mg base CX0 2 T.l_step_.f T.l_step_.d ["_law_own", "_law_deed_here"] Aq:=by
 have G_l_refused:=#[(uQ)]
 have G_l_copied:=#[(vt)]
 refine T.l_step_.F.ok mG (fun vs H Q E h=>?_) (fun cdv A outer s H vs Q E hr h=>?_)
 ·obtain ⟨d,v,D,F,past,cur,rfl,_⟩:=h
  rfl
 ·obtain ⟨d,v,D,F,past,cur,rfl,O,hv,ok,k⟩:=h
  refine ⟨_,#[#[zm 2 (2) (3) (4) _ _ _ _ _ _ _ _ _ _ _ _ _ _ rfl mG.nd rfl rfl rfl (by decide) (by decide) (by decide) bJ bA c9 #[[#[#[1,dZ][#[()]]],#[cD 10 (@eG _ (K) (by rfl)) #[1,dZ] #[cI 3 #[()]] (@dM _)],#[G_l_refused,mf,T.l_refused_,#[[#[0,aZ],#[1,dZ]]]]]] (by kernel_rfl) (by rfl)] :: #[#[aN 8 #[ap 8 (@lJ _) #[4,c9] #[ad 4] #[(),()]] #[aa 3 #[am 4 #[ar 5 #[[#[ad 4],#[4,c9]]]]]] (@aB _)] :: #[#[aN 8 #[ap 8 (@br _) #[2,bJ] #[ad 4] #[(),()]] #[#[aN 8 #[ap 8 (@wA _ hr.units) #[aU 7 (@aX _) #[0,aZ] #[ad 4] (fun _ _=>rfl)] #[b5 4 (@cq _)] #[(),()]] #[aa 3 #[am 4 #[ar 5 #[[#[ad 4],#[cW 4]]]]]] (@aB _)] :: #[#[bf 4 (@b8 _ (K) _ _ _ _ _ _ _ _ _ _ _ PySem.F.plainAttrs_dict PySem.F.slot_dict_update PySem.F.type_dict_update (@wf _) #[0,aZ] #[[#[uZ 9 PySem.F.plainAttrs_list PySem.F.slot_list_pop PySem.F.type_list_pop (@tS _) #[aU 7 (@aX _) #[0,aZ] #[ad 4] (fun _ _=>rfl)] (by rfl) (by rfl)]]] (by rfl) (by rfl) (by rfl) (by rfl) (by rfl) (by rfl)) (by rfl)] :: #[aa 3 #[am 4 #[ar 5 #[[#[ad 4],#[cW 4]]]]]]]] (@aB _)] :: #[#[bf 4 (@b8 _ (K) _ _ _ _ _ _ _ _ _ _ _ PySem.F.plainAttrs_list PySem.F.slot_list_append PySem.F.type_list_append (@b3 _) #[aU 7 (@aX _) #[0,aZ] #[ad 4] (fun _ _=>rfl)] #[[#[G_l_copied,nK,T.l_copied_,#[[#[0,aZ]]]]]] (by rfl) (by rfl) (by rfl) (by rfl) (by rfl) (by rfl)) (by rfl)] :: #[#[aN 8 #[ap 8 (@br _) #[2,bJ] #[ad 4] #[(),()]] #[aa 3 #[bf 4 (@b8 _ (K) _ _ _ _ _ _ _ _ _ _ _ PySem.F.plainAttrs_list PySem.F.slot_list_append PySem.F.type_list_append (@b3 _) #[aU 7 (@aX _) #[0,aZ] #[ad 4] (fun _ _=>rfl)] #[[#[#[3,bA][#[()]]]]] (by rfl) (by rfl) (by rfl) (by rfl) (by rfl) (by rfl)) (by rfl)]] #[aa 3 #[aN 8 #[ap 8 (@br _) #[2,bJ] #[ad 4] #[(),()]] #[#[bf 4 (@b8 _ (K) _ _ _ _ _ _ _ _ _ _ _ PySem.F.plainAttrs_list PySem.F.slot_list_append PySem.F.type_list_append (@b3 _) #[aU 7 (@aX _) #[0,aZ] #[ad 4] (fun _ _=>rfl)] #[[#[3,bA]]] (by rfl) (by rfl) (by rfl) (by rfl) (by rfl) (by rfl)) (by rfl)] :: #[aa 3 #[am 4 #[ar 5 #[[#[ad 4],#[ax 8 (@iZ _) #[(),(),(@dI _ (K) (by rfl)),rX,T.b_len,(@bh),#[[#[aU 7 (@aX _) #[0,aZ] #[ad 4] (fun _ _=>rfl)]]]] #[()]]]]]]]] #[aa 3 #[aN 8 #[ap 8 (@br _) #[2,bJ] #[ad 4] #[(),()]] #[aa 3 #[di 6 #[3,bA] #[ml 7 #[0,aZ] #[ad 4] (@wC _) (by intro _;rfl)] (by rfl) (by rfl) (by rfl)]] #[aa 3 #[aN 8 #[ap 8 (@br _) #[2,bJ] #[ad 4] #[(),()]] #[aa 3 #[bf 4 (@b8 _ (K) _ _ _ _ _ _ _ _ _ _ _ PySem.F.plainAttrs_list PySem.F.slot_list_append PySem.F.type_list_append (@b3 _) #[aU 7 (@aX _) #[0,aZ] #[ad 4] (fun _ _=>rfl)] #[[#[#[3,bA][#[()]]]]] (by rfl) (by rfl) (by rfl) (by rfl) (by rfl) (by rfl)) (by rfl)]] #[aa 3 #[aN 8 #[ap 8 (@br _) #[2,bJ] #[ad 4] #[(),()]] #[aa 3 #[bf 4 (@b8 _ (K) _ _ _ _ _ _ _ _ _ _ _ PySem.F.plainAttrs_list PySem.F.slot_list_remove PySem.F.type_list_remove (@ux _) #[aU 7 (@aX _) #[0,aZ] #[ad 4] (fun _ _=>rfl)] #[[#[#[3,bA][#[()]]]]] (by rfl) (by rfl) (by rfl) (by rfl) (by rfl) (by rfl)) (by rfl)]] #[#[jz 2 (5) (6) _ _ _ _ _ _ _ _ _ _ _ rfl mG.nd rfl rfl (by decide) je iG #[[#[aU 7 (@aX _) #[oJ 5 #[de 8 #[ad 4] #[()] #[de 8 #[ad 4] #[()] #[de 8 #[ad 4] #[()] (@sO _)]]] (by rfl) (by rfl) (by exact fun z=>nomatch z) (by decide)] #[2,bJ] (fun _ _=>rfl)],#[#[aU 7 (@aX _) #[0,aZ] #[ad 4] (fun _ _=>rfl)][#[#[3,bA][#[()]]]]!]]] (by kernel_rfl) (by rfl)] :: #[aa 3 #[di 6 #[ax 8 (@d8 _) #[ax 8 (@d8 _) #[cD 10 (@eG _ (K) (by rfl)) #[6,iG] (@dM _) #[cI 3 #[5,je]]] #[cD 10 (@eG _ (K) (by rfl)) #[3,bA] #[cI 3 #[()]] (@dM _)]] #[cD 10 (@eG _ (K) (by rfl)) #[6,iG] #[cI 3 #[ax 8 (@ce _) #[5,je] #[()]]] (@dM _)]] #[ml 7 #[aU 7 (@aX _) #[0,aZ] #[ad 4] (fun _ _=>rfl)] #[#[3,bA][#[()]]] (@qB _) (by intro _;rfl)] (by rfl) (by rfl) (by rfl)]]]]]]]]]]]] :: #[aa 3 #[am 4 #[ar 5 #[[#[ad 4],#[jD 3]]]]]]]]]]],?_⟩
  obtain ⟨p,t,q,z,v0,es,O,rfl⟩:=O
  obtain ⟨a,xs,rfl,ha,ia⟩:=nv hv
  have okl:=ok.lp
  have le:=O.hs.len
  cases rw_:bw cur D with
  | some rr=>
   obtain ⟨e1,e2,e3⟩:=pG (past:=past) rw_
   have hd0:bn fun x0 xr=>xs=x0 :: xr:=by
    have l1:=ia.length
    have l2:1≤(mD D).length:=by cases D <;> exact Nat.le_add_left 1 _
    cases xs with
    | nil=>rw [←l1] at l2;cases l2
    | cons x xr=>exact ⟨_,_,rfl⟩
   obtain ⟨x0,xr,rfl⟩:=hd0
   refine bi fun D0 n0=>⟨(),a,_,_,(),rfl,af.of ha,wo,(),(),a,(),af.of ha,ha,fun p1 H1 s1 h1=>⟨(),(),d,p,t,q,z,v0,_,es,past,cur,D,rfl,O.keep (fun a _ o h=>s1 a o h) s1.tp,hv.mono s1.toE,fun H2 s2=>⟨_,_,(),n0 _ _ ?_⟩⟩⟩
   rw [rw_]
   refine cw fun D1 n1 r1=>⟨(),rfl,(),?_⟩
   show if (!decide (V.str rr.w=V.str ""))=true then _ else _
   rw [decide_eq_false (CN rr)]
   refine aY ⟨(),(by show 2≤10000;decide),fun p3 H3 m3=>r1 _ _ ?_⟩
   have sA:=(s1.trans s2).trans m3.sm
   exact k _ _ _ sA.toE (by rw [e1,e2];exact ⟨p,t,q,z,v0,es,O.keep (fun a _ o h=>sA a o h) sA.tp,rfl⟩) (fun a ha=>.inl ha) (by rw [e3];exact .tup m3.at' (.cons (.str _) (.cons (.str _) .nil)))
  | none=>
   have kt:=k
   rw [rT rw_] at kt
   by_cases nb:D=.back
   ·subst nb
    obtain ⟨x1,rfl,hx1⟩:=rn ia
    cases aL hx1
    refine bi fun D0 n0=>⟨(),a,_,_,(),rfl,af.of ha,rfl,(),(),a,(),af.of ha,ha,fun p1 H1 s1 h1=>⟨(),(),d,p,t,q,z,v0,_,es,past,cur,.back,rfl,O.keep (fun a _ o h=>s1 a o h) s1.tp,hv.mono s1.toE,fun H2 s2=>⟨_,_,(),n0 _ _ ?_⟩⟩⟩
    rw [rw_]
    refine bi fun D1 n1=>⟨(),rfl,(),?_⟩
    show if (!decide (V.str "" = V.str ""))=true then _ else _
    rw [decide_eq_true rfl]
    refine aO (n1 _ _ (fR rfl ?_))
    have s02:=s1.trans s2
    have O2:=O.keep (fun a _ o h=>s02 a o h) s02.tp
    rcases lP past with rfl | ⟨pp,ss,rfl⟩
    ·have e0:es=[]:=List.eq_nil_of_length_eq_zero le
     subst e0
     refine cw fun D2 n2 r2=>⟨(),d,_,.inr "past",(),rfl,O2.hd,vA,(by show 0≤10000;decide),fun p3 H3 m3=>⟨z,p3,(),rfl,m3.sm _ _ O2.hz,m3.at',(),?_⟩⟩
     refine aY ⟨(by show 2≤10000;decide),fun p4 H4 m4=>r2 _ _ ?_⟩
     have sA:=(s02.trans m3.sm).trans m4.sm
     exact kt _ _ _ sA.toE ⟨p,t,q,z,v0,[],O.keep (fun a _ o h=>sA a o h) sA.tp,rfl⟩ (fun a ha=>.inl ha) (.tup m4.at' (.cons (.str _) (.cons (.bl _) .nil)))
    ·obtain ⟨fs,e,rfl,hf,ho,hl⟩:=O2.hs.unsnoc
     refine cw fun D2 n2 r2=>⟨(),d,_,.inr "past",(),rfl,O2.hd,vA,(by show 0≤10000;decide),fun p3 H3 m3=>⟨z,p3,(),rfl,m3.sm _ _ O2.hz,m3.at',(),?_⟩⟩
     have ne:((fs++[e]).map fun e=>V.ref e.o).isEmpty=false:=by cases fs <;> rfl
     rw [ne]
     refine aO (n2 _ _ ?_)
     have O3:=O2.keep (fun a _ o h=>m3.sm a o h) m3.sm.tp
     have hf3:=hf.keep (fun a _ o h=>m3.sm a o h) m3.sm.tp
     have hl3:=hl.keep (fun a o _ h=>m3.sm a o h) m3.sm.tp
     have hz3:=O3.hz
     rw [List.map_append] at hz3
     have no:d≠e.o:=by
      have:=O3.nd
      simp only [bX,iy,d5,List.append_nil,List.nodup_cons,List.mem_cons,not_or,List.nodup_append,List.mem_append,List.not_mem_nil,or_false] at this
      grind
     have zo:e.o≠z:=fun w=>by rw [←w,m3.sm _ _ ho] at hz3;cases hz3
     have dz:d≠z:=fun w=>by have:=O3.hd;rw [w,hz3] at this;cases this
     refine bi fun D4 n4=>⟨(),.inr (.inr (.inl ⟨rfl,.inl ⟨_,O3.hd⟩⟩)),(),d,_,.inr "past",(),rfl,O3.hd,vA,.inl ⟨rfl,_,ao.of O3.hz⟩,z,_,(),rfl,hz3,fun H4 c4=>⟨d,e.o,_,(),rfl,no,c4.ol _ _ dz O3.hd,c4.ol _ _ zo (m3.sm _ _ ho),(by show 5+4≤4000;decide),fun H5 c5=>n4 _ _ ⟨(by show 2≤10000;decide),fun p6 H6 m6=>?_⟩⟩⟩
     rw [yc] at c5
     obtain ⟨O5,sE,sub⟩:=bC.pop O3 hf3 hl3 c4 c5
     have sA:=s02.trans m3.sm
     refine kt _ _ _ ((sA.toE.trans sE).trans m6.sm.toE) (by rw [ip.1,ip.2];exact ⟨e.p,e.t,e.q,z,e.v,fs,O5.keep (fun a _ o h=>m6.sm a o h) m6.sm.tp,rfl⟩) (fun a ha=>.inl (sub a ha)) ?_
     have:(!(pp++[ss]).isEmpty)=true:=by cases pp <;> rfl
     refine .tup m6.at' (.cons (.str _) (.cons ?_ .nil))
     show aC ED H6 (.bl true) (.bool (!(pp++[ss]).isEmpty))
     rw [this]
     exact .bl _
   ·obtain ⟨ea1,ea2⟩:=lG (past:=past) rw_ nb
    rw [ea1,ea2] at kt
    have hd0:bn fun x0 xr=>xs=.str x0 :: xr∧¬V.str x0=V.str "back" := by
     cases D with
     | back=>exact absurd rfl nb
     | place n=>obtain ⟨x,y,rfl,hx,_⟩:=gb ia;cases aL hx;exact ⟨_,_,rfl,by nofun⟩
     | tie tt=>obtain ⟨x1,x2,x3,x4,x5,x6,rfl,hx,_⟩:=sD ia;cases aL hx;exact ⟨_,_,rfl,by nofun⟩
     | ends b e=>obtain ⟨x1,x2,x3,rfl,hx,_⟩:=jH ia;cases aL hx;exact ⟨_,_,rfl,by nofun⟩
     | part kk i x=>obtain ⟨x1,x2,x3,rfl,hx,_⟩:=jH ia;cases aL hx;exact ⟨_,_,rfl,by cases kk <;> decide +kernel⟩
     | shut i=>obtain ⟨x,y,rfl,hx,_⟩:=gb ia;cases aL hx;exact ⟨_,_,rfl,by nofun⟩
     | opn i=>obtain ⟨x,y,rfl,hx,_⟩:=gb ia;cases aL hx;exact ⟨_,_,rfl,by nofun⟩
    obtain ⟨w0,xr,rfl,nw⟩:=hd0
    refine bi fun D0 n0=>⟨(),a,_,_,(),rfl,af.of ha,wo,(),(),a,(),af.of ha,ha,fun p1 H1 s1 h1=>⟨(),(),d,p,t,q,z,v0,_,es,past,cur,D,rfl,O.keep (fun a _ o h=>s1 a o h) s1.tp,hv.mono s1.toE,fun H2 s2=>⟨_,_,(),n0 _ _ ?_⟩⟩⟩
    rw [show fj (.str w0 :: xr) (some 1) none=xr from wm (.str w0 :: xr) 1] at h1
    rw [rw_]
    refine bi fun D1 n1=>⟨(),rfl,(),?_⟩
    show if (!decide (V.str "" = V.str ""))=true then _ else _
    rw [decide_eq_true rfl]
    refine aO (n1 _ _ (aJ rfl nw ?_))
    have s02:=s1.trans s2
    have O2:=O.keep (fun a _ o h=>s02 a o h) s02.tp
    refine bi fun D2 n2=>⟨(),d,_,.inr "past",(),rfl,O2.hd,vA,.inl ⟨rfl,_,ao.of O2.hz⟩,(),d,p,t,q,z,v0,es,past,cur,rfl,O2,fun e H3 s3 fo fp ft fq nd' ho hl=>⟨z,_,(),rfl,s3 _ _ O2.hz,by rw [List.length_map];trivial,fun H4 c4=>n2 _ _ ?_⟩⟩
    obtain ⟨O4,sE4,sub4⟩:=bC.push O2 s3 fo fp ft fq nd' ho hl c4
    have sE:aD (·∈bX d p t q z es) H H4:=s02.toE.trans sE4
    have sub:∀a∈bX d p t q z (es++[e]),a∈bX d p t q z es∨H a=none:=fun a h=>(sub4 a h).imp id fun h=>s02.free h
    have h4:H4 p1=some (.tup xr):=sE4.tup _ _ (s2 _ _ h1)
    have mp:p∈bX d p t q z es:=by simp
    have mt:t∈bX d p t q z es:=by simp
    have mq:q∈bX d p t q z es:=by simp
    have md:d∈bX d p t q z es:=by simp
    obtain ⟨ys,hty,htd⟩:=O4.l.ht
    have lty:=htd.length
    rw [List.length_map] at lty
    have okt:=ok.cu.lt
    have okp:=ok.cu.lp
    have oks:=ok.cu.ls
    cases D with
    | back=>exact absurd rfl nb
    | place n=>
     obtain ⟨x,y,exs,hx,hy⟩:=gb ia
     cases aL hx
     cases aL hy
     cases exs
     refine bi fun D5 n5=>lj rfl ⟨(),d,_,.inr "places",(),rfl,O4.hd,vP,.inl ⟨rfl,_,ao.of O4.l.hp⟩,(),p1,_,_,(),rfl,af.of h4,rfl,p,_,(),rfl,O4.l.hp,by rw [List.length_map];trivial,fun H5 c5=>n5 _ _ ⟨(by show 2≤10000;decide),fun p6 H6 m6=>?_⟩⟩
     have O5:=bC.chP (pl:=cur.pl++[n]) O4 (by rw [List.map_append];exact c5)
     exact kt _ _ _ ((sE.trans (vQ c5 O4.l.hp mp)).trans m6.sm.toE) ⟨p,t,q,z,v0,es++[e],O5.keep (fun a _ o h=>m6.sm a o h) m6.sm.tp,rfl⟩ sub (.tup m6.at' (.cons (.str _) (.cons .non .nil)))
    | tie tt=>
     obtain ⟨x1,x2,x3,x4,x5,x6,exs,hx1,hx2,hx3,hx4,hx5,hx6⟩:=sD ia
     cases aL hx1
     cases aL hx2
     cases aL hx3
     cases exs
     have dt:aC ED H4 (.ref p1) (fJ tt):=.tup h4 (.cons (.str _) (.cons (.str _) (.cons (hx4.mono (bL sE.tup)) (.cons (hx5.mono (bL sE.tup)) (.cons (hx6.mono (bL sE.tup)) .nil)))))
     refine cw fun D5 n5 r5=>cP rfl (by nofun) (lj rfl (bi fun D6 n6=>⟨(),d,_,.inr "ties",(),rfl,O4.hd,vT,.inl ⟨rfl,_,ao.of hty⟩,(),t,_,(),rfl,hty,by trivial,fun H5 c5=>n6 _ _ ?_⟩))
     have O5:=bC.chT (ts:=cur.ts++[tt]) O4 c5 (by rw [List.map_append];exact htd.append (.cons dt .nil))
     refine ⟨(),d,_,.inr "ties",(),rfl,O5.hd,vT,t,(),.inl (ao.of c5.at'),_,(),rfl,(by show 2≤10000;decide),fun p6 H6 m6=>r5 _ _ ?_⟩
     have el:(((ys++[V.ref p1]).length:Nat):Int) - 1=(cur.ts.length:Nat):=by simp;trivial
     refine kt _ _ _ ((sE.trans (vQ c5 hty mt)).trans m6.sm.toE) ⟨p,t,q,z,v0,es++[e],O5.keep (fun a _ o h=>m6.sm a o h) m6.sm.tp,rfl⟩ sub (.tup m6.at' (.cons (.str _) (.cons ?_ .nil)))
     show aC ED H6 (.int ((((ys++[V.ref p1]).length:Nat):Int) - 1)) (.int (cur.ts.length:Nat))
     rw [el]
     exact .int _
    | ends b e'=>
     obtain ⟨x1,x2,x3,exs,hx1,hx2,hx3⟩:=jH ia
     cases aL hx1
     cases aL hx2
     cases aL hx3
     cases exs
     refine bi fun D5 n5=>cP rfl (by nofun) (cP rfl (by nofun) (lj rfl ⟨(),(),d,_,.inr "ends",rfl,rfl,O4.hd,(by show 5≤4000;decide),fun H5 c5=>n5 _ _ ⟨(by show 2≤10000;decide),fun p6 H6 m6=>?_⟩⟩))
     rw [qu] at c5
     have O5:=bC.chE (en:=some (b,e')) O4 c5 (.tup h4 (.cons (.str _) (.cons (.str _) .nil)))
     have s5:aD (·∈bX d p t q z es) H4 H5:=⟨fun a o n h=>c5.ol a o (fun w=>n (w▸md)) h,c5.tp ⟨_,O4.hd⟩⟩
     exact kt _ _ _ ((sE.trans s5).trans m6.sm.toE) ⟨p,t,q,z,_,es++[e],O5.keep (fun a _ o h=>m6.sm a o h) m6.sm.tp,rfl⟩ sub (.tup m6.at' (.cons (.str _) (.cons .non .nil)))
    | shut i=>
     obtain ⟨x1,x2,exs,hx1,hx2⟩:=gb ia
     cases aL hx1
     cases jn hx2
     cases exs
     refine bi fun D5 n5=>cP rfl (by nofun) (cP rfl (by nofun) (cP rfl (by nofun) (lj rfl ⟨(),d,_,.inr "shut",(),rfl,O4.hd,vS,.inl ⟨rfl,_,ao.of O4.l.hq⟩,(),p1,_,_,(),rfl,af.of h4,rfl,q,_,(),rfl,O4.l.hq,by rw [List.length_map];trivial,fun H5 c5=>n5 _ _ ⟨(by show 2≤10000;decide),fun p6 H6 m6=>?_⟩⟩)))
     have O5:=bC.chS (sh:=cur.sh++[i]) O4 (by rw [List.map_append];exact c5)
     exact kt _ _ _ ((sE.trans (vQ c5 O4.l.hq mq)).trans m6.sm.toE) ⟨p,t,q,z,v0,es++[e],O5.keep (fun a _ o h=>m6.sm a o h) m6.sm.tp,rfl⟩ sub (.tup m6.at' (.cons (.str _) (.cons .non .nil)))
    | opn i=>
     obtain ⟨x1,x2,exs,hx1,hx2⟩:=gb ia
     cases aL hx1
     cases jn hx2
     cases exs
     have hi:i∈cur.sh:=by
      replace rw_:(if has cur i then (if i∈cur.sh then none else some RW.asItIs) else some .noTie)=none:=rw_
      by_cases q:has cur i
      ·rw [if_pos q] at rw_
       by_cases q2:i∈cur.sh
       ·exact q2
       ·rw [if_neg q2] at rw_;cases rw_
      ·rw [if_neg q] at rw_;cases rw_
     obtain ⟨j,hj⟩:=List.getElem?_of_mem hi
     have hlt:=(List.getElem?_eq_some_iff.mp hj).1
     refine bi fun D5 n5=>cP rfl (by nofun) (cP rfl (by nofun) (cP rfl (by nofun) (cP rfl (by nofun) (lj rfl ⟨(),d,_,.inr "shut",(),rfl,O4.hd,vS,.inl ⟨rfl,_,ao.of O4.l.hq⟩,(),p1,_,_,(),rfl,af.of h4,rfl,q,cur.sh,i,j,rfl,rfl,O4.l.hq,by trivial,hj,(fun m hm w=>?_),fun H5 c5=>n5 _ _ ⟨(by show 2≤10000;decide),fun p6 H6 m6=>?_⟩⟩))))
     ·obtain ⟨w1,w2⟩:=List.getElem?_eq_some_iff.mp w
      obtain ⟨w3,w4⟩:=List.getElem?_eq_some_iff.mp hj
      have:=mP ok.cu.nd w1 w3 (by rw [w2,w4])
      trivial
     rw [sv ok.cu.nd hj] at c5
     have O5:=bC.chS (sh:=cur.sh.erase i) O4 c5
     exact kt _ _ _ ((sE.trans (vQ c5 O4.l.hq mq)).trans m6.sm.toE) ⟨p,t,q,z,v0,es++[e],O5.keep (fun a _ o h=>m6.sm a o h) m6.sm.tp,rfl⟩ sub (.tup m6.at' (.cons (.str _) (.cons .non .nil)))
    | part kk i x=>
     obtain ⟨x1,x2,x3,exs,hx1,hx2,hx3⟩:=jH ia
     cases aL hx1
     cases jn hx2
     cases exs
     have hs:has cur i:=by
      replace rw_:(if has cur i then none else some RW.noTie)=none:=rw_
      by_cases q:has cur i
      ·exact q
      ·rw [if_neg q] at rw_;cases rw_
     obtain ⟨j,rfl⟩:=Int.eq_ofNat_of_zero_le hs.1
     have hj:j<ys.length:=by have:=hs.2;trivial
     have hj':j<cur.ts.length:=by have:=hs.2;trivial
     have g1:ys[j]?=some ys[j]:=List.getElem?_eq_getElem hj
     have g2:cur.ts[j]?=some cur.ts[j]:=List.getElem?_eq_getElem hj'
     have dj:aC ED H4 ys[j] (fJ cur.ts[j]):=htd.nth j g1 (by rw [List.getElem?_map,g2];rfl)
     obtain ⟨ta,m,g,pr,eta,hta,hm,hg,hpr⟩:=nn dj
     have kat:kk.at<5:=by cases kk <;> decide
     have nk:∀{y:Str},(¬V.str (ig.m).w=V.str y)→(¬V.str (ig.g).w=V.str y)→(¬V.str (ig.p).w=V.str y)→¬V.str kk.w=V.str y:=fun a b c=>by cases kk <;> assumption
     refine bi fun D5 n5=>cP rfl (nk (by nofun) (by nofun) (by nofun)) (cP rfl (nk (by nofun) (by nofun) (by nofun)) (cP rfl (nk (by nofun) (by nofun) (by nofun)) (cP rfl (nk (by nofun) (by nofun) (by nofun)) (cP rfl (nk (by nofun) (by nofun) (by nofun)) ?_))))
     refine fi fun Q6 n6=>fun pd H5 m5=>⟨.inr "set_most",rfl,.inr "set_gain",rfl,.inr "set_price",rfl,m5.at',?_,(by show 3≤15;decide),fun H6 c6=>?_⟩
     ·show ([.inr "set_most",.inr "set_gain",.inr "set_price"]:List aS).Nodup
      decide +kernel
     have s46:aj H4 H6:=fun a o h=>c6.ol a o (fun w=>by have:=m5.fr;rw [←w,h] at this;cases this) (m5.sm _ _ h)
     refine ⟨(),pd,_,.inr kk.w,(),rfl,c6.at',Di,(),d,_,.inr "ties",(),rfl,s46 _ _ O4.hd,vT,(),p1,_,_,(),rfl,af.of (s46 _ _ h4),rfl,t,_,_,(),rfl,ao.of (s46 _ _ hty),jy g1,n6 _ _ _ ?_⟩
     rw [eta]
     have hta6:=s46 _ _ hta
     have h46:=s46 _ _ h4
     refine ⟨(),(),(),ta,(),af.of hta6,hta6,fun r1 J1 j1 e1=>⟨(),(),p1,(),af.of (j1 _ _ h46),j1 _ _ h46,fun r2 J2 j2 e2=>⟨r1,r2,_,(),rfl,j2 _ _ e1,e2,?_,fun r3 J3 j3 e3=>⟨(),(),_,(),rfl,(),ta,(),af.of (((j1.trans j2).trans j3) _ _ hta6),((j1.trans j2).trans j3) _ _ hta6,fun r4 J4 j4 e4=>⟨r3,r4,_,(),rfl,j4 _ _ e3,e4,?_,fun r5 J5 j5 e5=>?_⟩⟩⟩⟩⟩
     ·have:=dw [bt (cur.ts[j]).bg,bt (cur.ts[j]).en,m,g,pr] none (some (kk.at:Int))
      have:=dw [V.int (j:Int),x3] (some 1) none
      simp at *
      trivial
     ·have h1:=dw [bt (cur.ts[j]).bg,bt (cur.ts[j]).en,m,g,pr] none (some (kk.at:Int))
      have h2:=dw [V.int (j:Int),x3] (some 1) none
      have h3:=dw [bt (cur.ts[j]).bg,bt (cur.ts[j]).en,m,g,pr] (some ((kk.at:Int)+1)) none
      simp only [List.length_append,List.length_cons,List.length_nil] at h1 h2 h3 ⊢
      trivial
     have sJ:=(((j1.trans j2).trans j3).trans j4).trans j5
     have s4J:=s46.trans sJ
     have e5':J5 r5=some (.tup ([bt (cur.ts[j]).bg,bt (cur.ts[j]).en,m,g,pr].set kk.at x3)):=by
      rw [e5]
      cases kk <;> rfl
     have dt:aC ED J5 (.ref r5) (fJ (pD kk x cur.ts[j])):=by
      have y3:=(hx3.mono (bL sE.tup)).mono s4J.toE
      have m3':=hm.mono s4J.toE
      have g3:=hg.mono s4J.toE
      have p3':=hpr.mono s4J.toE
      cases kk
      ·exact .tup e5' (.cons (.str _) (.cons (.str _) (.cons y3 (.cons g3 (.cons p3' .nil)))))
      ·exact .tup e5' (.cons (.str _) (.cons (.str _) (.cons m3' (.cons y3 (.cons p3' .nil)))))
      ·exact .tup e5' (.cons (.str _) (.cons (.str _) (.cons m3' (.cons g3 (.cons y3 .nil)))))
     refine ⟨(),d,_,.inr "ties",(),rfl,s4J _ _ O4.hd,vT,(),p1,_,_,(),rfl,af.of (s4J _ _ h4),rfl,t,_,_,j,rfl,rfl,s4J _ _ hty,?_,fun H7 c7=>n5 _ _ ⟨(by show 2≤10000;decide),fun p8 H8 m8=>?_⟩⟩
     ·unfold kg
      rw [if_pos (by trivial),if_pos (by trivial)]
      simp
     have O6:=O4.keep (fun a _ o h=>s4J a o h) s4J.tp
     have O7:=bC.chT (ts:=cur.ts.set j (pD kk x cur.ts[j])) O6 c7 (by rw [List.map_set];exact (htd.mono s4J.toE).set dt j)
     have eN:cb cur (.part kk (j:Int) x)={ cur with ts:=cur.ts.set j (pD kk x cur.ts[j]) }:=by
      show ({ cur with ts:=lB cur.ts kk (j:Int).toNat x }:ai)=_
      rw [Int.toNat_natCast,tQ g2]
     rw [eN] at kt
     exact kt _ _ _ (((sE.trans s4J.toE).trans (vQ c7 (s4J _ _ hty) mt)).trans m8.sm.toE) ⟨p,t,q,z,v0,es++[e],O7.keep (fun a _ o h=>m8.sm a o h) m8.sm.tp,rfl⟩ sub (.tup m8.at' (.cons (.str _) (.cons .non .nil)))
end
end K37
namespace K37
open PySem L2
section
variable {P:Program}{w:World}{K:PySem.W.Frag}{mg:Str→Option Value}{base:Heap}
theorem qc (T:Txt K mg):∀n,aT P w K mg base CX0 (n+1) T.l_same_.f T.l_same_.d ["_law_found", "_law_due"] (A4 n):=by
 intro n
 induction n with
 | zero=>
  refine T.l_same_.F.ok qC (fun vs H Q E h=>?_) (fun cdv A outer s H vs Q E hr h=>?_)
  ·obtain ⟨_,_,_,_,_,_,_,z,_⟩:=h
   exact z.elim
  ·obtain ⟨_,_,_,_,_,_,_,z,_⟩:=h
   exact z.elim
 | succ n G_l_same=>
 refine T.l_same_.F.ok qC (fun vs H Q E h=>?_) (fun cdv A outer s H vs Q E hr h=>?_)
 ·obtain ⟨x,y,d,E,rfl,_⟩:=h
  rfl
 ·obtain ⟨x,y,d,E',rfl,hx,hy,hd,k⟩:=h
  refine ⟨_,#[#[aN 8 #[dk 3 #[(),(),(@u7 _ (K) (by rfl)),aV,T.b_isinstance,(@aA),#[[#[1,bp],#[ar 5 #[[#[fM 4 i8 T.b_list (@cM) (by decide) (by decide)],#[fM 4 io T.b_tuple (@db) (by decide) (by decide)]]]]]]] (by intro _;rfl)] #[#[aN 8 #[PW.pt 3 #[ph 7 #[ap 8 (@lJ _) #[(),(),(@dC _ (K) (by rfl)),aV,T.b_isinstance,(@aA),#[[#[0,bv],#[fM 4 i8 T.b_list (@cM) (by decide) (by decide)]]]] #[(),(),(@dC _ (K) (by rfl)),aV,T.b_isinstance,(@aA),#[[#[1,bp],#[fM 4 i8 T.b_list (@cM) (by decide) (by decide)]]]] #[(),()]] #[mU 4 #[ap 8 (@lJ _) #[(),(),(@dC _ (K) (by rfl)),aV,T.b_isinstance,(@aA),#[[#[0,bv],#[fM 4 io T.b_tuple (@db) (by decide) (by decide)]]]] #[(),(),(@dC _ (K) (by rfl)),aV,T.b_isinstance,(@aA),#[[#[1,bp],#[fM 4 io T.b_tuple (@db) (by decide) (by decide)]]]] #[(),()]]]]] #[aa 3 #[am 4 #[cW 4]]] (@aB _)] :: #[aa 3 #[am 4 #[jK 7 #[bD 8 (@br _) #[(),(),(@dI _ (K) (by rfl)),l8,T.b_len,(@bh),#[[#[0,bv]]]] #[(),(),(@dI _ (K) (by rfl)),l8,T.b_len,(@bh),#[[#[1,bp]]]] #[(),()]] #[kT 5 #[(),(),(@xU _ (K) rfl (by rfl)),sg,T.b_all,(@o0),#[[#[jQ 7 (["_law_one", "_law_other"]) (2) ([]) _ _ _ _ rfl (by kernel_rfl) (@sq _ (K) _ _ _ _ _ _ _ _ si T.b_zip #[[#[0,bv],#[1,bp]]] (by rfl) (by rfl) (by rfl)) (fun _ _ _ _ _ _=>(@cf _ (K) _ _ _ _ (2) rfl #[au 5 #[0,(),()] #[au 5 #[1,(),()] (@cA _) (by rfl)] (by rfl)] (by rfl) (by rfl) (by rfl))) (fun _ _ _ _ _ _=>@iD _) (fun _ _ _ _ _ _=>#[gL 16 G_l_same (hr.mono (by trivial)) (by show _=_;kernel_rfl) T.l_same_.m T.l_same_.F.kp T.l_same_.B .nil (@iI _) #[[#[0,()],#[1,()]]] (by decide) (by rfl) (by rfl)]) (by intro _;rfl)]]]]]]]]] (@aB _)] :: #[#[aN 8 #[PW.pt 3 #[ph 7 #[ap 8 (@wq _) #[1,bp] #[jD 3] #[(),()]] #[mU 4 #[dk 3 #[(),(),(@dC _ (K) (by rfl)),aV,T.b_isinstance,(@aA),#[[#[1,bp],#[fM 4 j8 T.b_str (@kP) (by decide) (by decide)]]]] (by intro _;rfl)]]]] #[aa 3 #[am 4 #[jK 7 #[bD 8 (@br _) #[0,bv] #[1,bp] #[(),()]] #[kT 5 #[bD 8 (@br _) #[(),(),(@dC _ (K) (by rfl)),aV,T.b_isinstance,(@aA),#[[#[0,bv],#[fM 4 j8 T.b_str (@kP) (by decide) (by decide)]]]] #[(),(),(@dC _ (K) (by rfl)),aV,T.b_isinstance,(@aA),#[[#[1,bp],#[fM 4 j8 T.b_str (@kP) (by decide) (by decide)]]]] #[(),()]]]]]] (@aB _)] :: #[aa 3 #[am 4 #[jK 7 #[(),(),(@dC _ (K) (by rfl)),aV,T.b_isinstance,(@aA),#[[#[0,bv],#[fM 4 sj T.b_int (@kG) (by decide) (by decide)]]]] #[jK 7 #[bD 8 (@br _) #[(),(),(@dC _ (K) (by rfl)),aV,T.b_isinstance,(@aA),#[[#[0,bv],#[fM 4 lU T.b_bool (@mJ) (by decide) (by decide)]]]] #[(),(),(@dC _ (K) (by rfl)),aV,T.b_isinstance,(@aA),#[[#[1,bp],#[fM 4 lU T.b_bool (@mJ) (by decide) (by decide)]]]] #[(),()]] #[kT 5 #[bD 8 (@br _) #[0,bv] #[1,bp] #[(),()]]]]]]]]],?_⟩
  refine ⟨(),(by show 2≤10000;decide),fun p H1 n1=>⟨y,p,d,E',rfl,hy.mono n1.sm.toE,af.of n1.at',(),?_⟩⟩
  have s1:=n1.sm
  have hx1:=hx.mono s1.toE
  have hy1:=hy.mono s1.toE
  have k1:=k H1 s1
  have hx2:=hx1
  have hy2:=hy1
  cases hx1 with
  | non=>
   cases hy1
   refine aO ⟨(),rfl,(),aY (aY ?_)⟩
   exact ⟨(),(),rfl,(),nJ ⟨(),_,_,_,(),hx2.ty,im _,(),_,_,_,(),hy2.ty,im _,rfl,nE k1⟩⟩
  | str z=>
   cases hy1
   refine aO ⟨(),rfl,(),aO ⟨(),_,_,_,(),hy2.ty,im _,(),aY ?_⟩⟩
   exact ⟨(),(),rfl,(),nJ ⟨(),_,_,_,(),hx2.ty,im _,(),_,_,_,(),hy2.ty,im _,rfl,nE k1⟩⟩
  | bl b=>
   cases hy1
   refine aO ⟨(),rfl,(),aO ⟨(),_,_,_,(),hy2.ty,im _,(),aO ?_⟩⟩
   exact ⟨(),_,_,_,(),hx2.ty,tH _,(),aY ⟨(),_,_,_,(),hx2.ty,lF _,(),_,_,_,(),hy2.ty,lF _,rfl,(),nJ ⟨(),(),rfl,nE k1⟩⟩⟩
  | int i=>
   cases hy1
   refine aO ⟨(),rfl,(),aO ⟨(),_,_,_,(),hy2.ty,im _,(),aO ?_⟩⟩
   exact ⟨(),_,_,_,(),hx2.ty,tH _,(),aY ⟨(),_,_,_,(),hx2.ty,lF _,(),_,_,_,(),hy2.ty,lF _,rfl,(),nJ ⟨(),(),rfl,nE k1⟩⟩⟩
  | @lst a1 xs ds h1 ne1 r1=>
   cases hy1 with
   | @lst a2 ys _ h2 ne2 r2=>
   refine aY ⟨(),_,_,_,(),hx2.ty,jT _,(),_,_,_,(),hy2.ty,jT _,rfl,(),nj ⟨(),_,_,_,(),hx2.ty,iQ _,(),_,_,_,(),hy2.ty,iQ _,rfl,(),nj ?_⟩⟩
   have el:xs.length=ys.length:=r1.length.trans r2.length.symm
   have ed:=r2.length
   refine ⟨(),a1,xs,rfl,.inl (ao.of h1),(),a2,ys,rfl,.inl (ao.of h2),rfl,(),?_⟩
   rw [el]
   refine nJ ⟨(),(),a1,a2,true,true,rfl,⟨xs,ao.of h1⟩,⟨ys,ao.of h2⟩,fun D hD=>gO (n:=ys.length) (xQ H1 D) ?_ ⟨rfl,az,fu hD (aj.refl _)⟩ ?_ ?_ ?_ ?_ ?_⟩
   ·rw [sizeLine_eq]
    have:=hd.1
    trivial
   ·rintro i H' zs ⟨rfl,q1,_⟩
    exact ⟨q1,by rw [List.length_map,List.length_replicate];exact Nat.le_refl _⟩
   ·rintro i H' zs hi ⟨_,_,q⟩
    exact ⟨xs,ys,xs[i],ys[i],ao.of (q _ _ h1),ao.of (q _ _ h2),by simp [el,hi],by simp [hi]⟩
   ·rintro H' zs ⟨_,_,q⟩
    exact ⟨xs,ys,ao.of (q _ _ h1),ao.of (q _ _ h2),.inl el⟩
   ·rintro i H' zs x H'' hi ⟨rfl,q1,q⟩ ⟨t,u,v,ht,rfl,rfl,e1,e2⟩
    have e1':=e1 xs (ao.of (q _ _ h1))
    have e2':=e2 ys (ao.of (q _ _ h2))
    obtain ⟨du,f1,g1⟩:=r1.get e1'
    obtain ⟨dv,f2,g2⟩:=r2.get e2'
    rw [f1] at f2
    cases f2
    have st:=q.trans (aj.new (o:=.tup [u,v]) ht)
    refine ⟨t,(),af.of az,rfl,_,(),_,(),rfl,o7,(),(),u,v,du,E',rfl,g1.mono st.toE,g2.mono st.toE,hd.2 du (List.mem_of_getElem? f1),fun H3 s3=>?_⟩
    have qD:H3 D=some (.lst ((List.replicate i true).map V.bl)):=s3 _ _ (aj.new (o:=.tup [u,v]) ht _ _ q1)
    exact ⟨qD,so i,az,fu hD (st.trans s3)⟩
   ·rintro H' zs ⟨rfl,q1,q⟩
    refine ⟨D,List.replicate ys.length true,rfl,ao.of q1,?_⟩
    rw [tP]
    exact k H' (s1.trans q)
  | @tup a1 xs ds h1 r1=>
   cases hy1 with
   | @tup a2 ys _ h2 r2=>
   refine aY ⟨(),_,_,_,(),hx2.ty,jT _,(),_,_,_,(),hy2.ty,jT _,rfl,(),nj ⟨(),_,_,_,(),hx2.ty,iQ _,(),_,_,_,(),hy2.ty,iQ _,rfl,(),nj ?_⟩⟩
   have el:xs.length=ys.length:=r1.length.trans r2.length.symm
   have ed:=r2.length
   refine ⟨(),a1,xs,rfl,.inr (af.of h1),(),a2,ys,rfl,.inr (af.of h2),rfl,(),?_⟩
   rw [el]
   refine nJ ⟨(),(),a1,a2,false,false,rfl,⟨xs,af.of h1⟩,⟨ys,af.of h2⟩,fun D hD=>gO (n:=ys.length) (xQ H1 D) ?_ ⟨rfl,az,fu hD (aj.refl _)⟩ ?_ ?_ ?_ ?_ ?_⟩
   ·rw [sizeLine_eq]
    have:=hd.1
    trivial
   ·rintro i H' zs ⟨rfl,q1,_⟩
    exact ⟨q1,by rw [List.length_map,List.length_replicate];exact Nat.le_refl _⟩
   ·rintro i H' zs hi ⟨_,_,q⟩
    exact ⟨xs,ys,xs[i],ys[i],af.of (q _ _ h1),af.of (q _ _ h2),by simp [el,hi],by simp [hi]⟩
   ·rintro H' zs ⟨_,_,q⟩
    exact ⟨xs,ys,af.of (q _ _ h1),af.of (q _ _ h2),.inl el⟩
   ·rintro i H' zs x H'' hi ⟨rfl,q1,q⟩ ⟨t,u,v,ht,rfl,rfl,e1,e2⟩
    have e1':=e1 xs (af.of (q _ _ h1))
    have e2':=e2 ys (af.of (q _ _ h2))
    obtain ⟨du,f1,g1⟩:=r1.get e1'
    obtain ⟨dv,f2,g2⟩:=r2.get e2'
    rw [f1] at f2
    cases f2
    have st:=q.trans (aj.new (o:=.tup [u,v]) ht)
    refine ⟨t,(),af.of az,rfl,_,(),_,(),rfl,o7,(),(),u,v,du,E',rfl,g1.mono st.toE,g2.mono st.toE,hd.2 du (List.mem_of_getElem? f1),fun H3 s3=>?_⟩
    have qD:H3 D=some (.lst ((List.replicate i true).map V.bl)):=s3 _ _ (aj.new (o:=.tup [u,v]) ht _ _ q1)
    exact ⟨qD,so i,az,fu hD (st.trans s3)⟩
   ·rintro H' zs ⟨rfl,q1,q⟩
    refine ⟨D,List.replicate ys.length true,rfl,ao.of q1,?_⟩
    rw [tP]
    exact k H' (s1.trans q)
end
end K37
namespace K37
open PySem L2
set_option maxHeartbeats 4000000
section
variable {P:Program}{w:World}{K:PySem.W.Frag}{mg:Str→Option Value}{base:Heap}
inductive zd (vs:List V) (H:Hp) (Q:VK):Prop
 | mk (d p t q z:Addr) (v:V) (es:List fD) (past:List ai) (cur:ai) (h0:vs=[.ref d]) (h1:bC H d past cur p t q z v es) (h2:gk 5000 past cur) (h3:∀u H',aj H H'→aC ED H' u (rJ cur)→Q u H')
def AM:Sp:=fun vs H Q _=>zd  vs H Q
theorem wz (T:Txt K mg):aT P w K mg base CX0 1 T.l_net_.f T.l_net_.d ["_law_own"] AM:=by
 refine T.l_net_.F.ok lw (fun vs H Q E h=>?_) (fun cdv A outer s H vs Q E hr h=>?_)
 ·obtain ⟨d,p,t,q,z,v,es,past,cur,rfl,_⟩:=h
  rfl
 ·obtain ⟨d,p,t,q,z,v,es,past,cur,rfl,O,ok,k⟩:=h
  refine ⟨_,#[#[1,lw.nd,iE,#[b5 4 (@cq _)]] :: #[#[kU 8 PassesOwn.never rfl (@wu _ (K) _ _ _ _ _ _ _ nM T.b_enumerate #[[#[aU 7 (@aX _) #[0,i9] #[ad 4] (fun _ _=>rfl)]]] (by rfl) (by rfl)) (@cf _ (K) _ _ _ _ (2) rfl #[au 5 #[2,lw.nd,jJ] #[au 5 #[3,lw.nd,gw] (@cA _) (by rfl)] (by rfl)] (by rfl) (by rfl) (by rfl)) #[aa 3 #[bf 4 (@b8 _ (K) _ _ _ _ _ _ _ _ _ _ _ PySem.F.plainAttrs_list PySem.F.slot_list_append PySem.F.type_list_append (@b3 _) #[1,iE] #[[#[cR 8 #[ap 8 (@lD _ (K) (by rfl)) #[2,jJ] #[aU 7 (@aX _) #[0,i9] #[ad 4] (fun _ _=>rfl)] rfl] #[ax 8 (@d8 _) #[ax 8 (@d8 _) #[cD 10 (@eG _ (K) (by rfl)) #[3,gw] (@dM _) #[cI 3 #[()]]] #[ar 5 #[[#[ar 5 #[[#[()],#[()]]]]]]]] #[cD 10 (@eG _ (K) (by rfl)) #[3,gw] #[cI 3 #[()]] (@dM _)]] #[3,gw]]]] (by rfl) (by rfl) (by rfl) (by rfl) (by rfl) (by rfl)) (by rfl)]] (by intro _;rfl)] :: #[aa 3 #[am 4 #[ar 5 #[[#[dh 9 (@ir _ (K) (by rfl)) lR T.b_tuple (@db) #[[#[aU 7 (@aX _) #[0,i9] #[ad 4] (fun _ _=>rfl)]]] (by decide) (by decide) (by rfl) (by rfl)],#[dh 9 (@ir _ (K) (by rfl)) lR T.b_tuple (@db) #[[#[1,iE]]] (by decide) (by decide) (by rfl) (by rfl)]]]]]]]],?_⟩
  obtain ⟨ys,hty,htd⟩:=O.l.ht
  have ly:=htd.length
  rw [List.length_map] at ly
  have okt:=ok.cu.lt
  refine f7 fun Q0 n0=>⟨(by show 0≤10000;decide),fun l H1 m1=>n0 _ _ ?_⟩
  have nl:∀{a o},H a=some o→a≠l:=fun h e=>by have:=m1.fr;rw [←e,h] at this;cases this
  refine bi fun D1 n1=>⟨(),d,_,.inr "ties",(),rfl,m1.sm _ _ O.hd,vT,t,true,rfl,⟨ys,ao.of (m1.sm _ _ hty)⟩,?_⟩
  refine ⟨fun i m σ H'=>m=ys.length - i∧i≤ys.length∧ic fun (v2 v3:Option V) (zs:List V)=>σ=[some (.ref d),some (.ref l),v2,v3]∧H' l=some (.lst zs)∧aw ED H' zs ((List.range i).map (nQ cur))∧aj H H',⟨(),Nat.zero_le _,_,_,[],rfl,m1.at',.nil,m1.sm⟩,?_⟩
  rintro i m σ J ⟨rfl,hi,v2,v3,zs,rfl,hl,hz,sJ⟩
  by_cases hlt:i<ys.length
  ·refine .inr ⟨⟨ys,ys[i],ao.of (sJ _ _ hty),List.getElem?_eq_getElem hlt⟩,_,fun σ' H'' z=>z,?_⟩
   rintro x J1 ⟨tp,y,htp,rfl,rfl,hy⟩
   have hy':=hy _ (ao.of (sJ _ _ hty))
   rw [List.getElem?_eq_getElem hlt] at hy'
   obtain rfl:ys[i]=y:=Option.some.inj hy'
   have st:=aj.new (o:=.tup [.int (i:Int),ys[i]]) htp
   have s1:=sJ.trans st
   have e3:cur.ts[i]?=some (cur.ts[i]'(by trivial)):=List.getElem?_eq_getElem (by trivial)
   have dj:aC ED H ys[i] (fJ (cur.ts[i]'(by trivial))):=htd.nth i (List.getElem?_eq_getElem hlt) (by rw [List.getElem?_map,e3];rfl)
   obtain ⟨ta,mm,g,pr,eta,hta,hm,hg,hpr⟩:=nn dj
   have hl1:=st _ _ hl
   have lz:=hz.length
   rw [List.length_map,List.length_range] at lz
   have fin:∀(u:V) (J2:Hp),aj (aI J tp (.tup [.int (i:Int),ys[i]])) J2→aC ED J2 u (nQ cur i)→xW (.ref l) [u] J2 fun _ H1=>∃m',m'<ys.length - i∧(fun (i:Nat) (m:Nat) (σ:St) (H':Hp)=>m=ys.length - i∧i≤ys.length∧ic fun (v2 v3:Option V) (zs:List V)=>σ=[some (.ref d),some (.ref l),v2,v3]∧H' l=some (.lst zs)∧aw ED H' zs ((List.range i).map (nQ cur))∧aj H H') (i+1) m' [some (.ref d),some (.ref l),some (.int (i:Int)),some ys[i]] H1:=fun u J2 s2 du=>by
    refine ⟨l,zs,u,rfl,rfl,s2 _ _ hl1,by trivial,fun J3 c3=>⟨_,by trivial,rfl,hlt,_,_,(),c3.at',?_,fun a o h=>c3.ol a o (nl h) (s2 _ _ (s1 _ _ h))⟩⟩
    have tp3:kj J2 J3:=c3.tp (s2 _ _ hl1)
    rw [List.range_succ,List.map_append]
    exact ((hz.mono (st.trans s2).toE).mono (bL tp3)).append (.cons (du.mono (bL tp3)) .nil)
   refine ⟨tp,(),af.of az,rfl,_,(),_,(),rfl,(),.inl ⟨rfl,_,ao.of hl1⟩,(),(),d,_,.inr "shut",(),rfl,s1 _ _ O.hd,vS,q,(),.inl (ao.of (s1 _ _ O.l.hq)),rfl,uC _,(),?_⟩
   simp only [if_false,Bool.false_eq_true,At]
   by_cases hs:(i:Int)∈cur.sh
   ·rw [decide_eq_true hs]
    have hta1:=s1 _ _ hta
    refine aY ⟨(),(),ta,_,eta,af.of hta1,hta1,fun r1 J2 j2 g2=>⟨(by show 2≤10000;decide),fun r2 J3 m3=>⟨(by show 1≤10000;decide),fun r3 J4 m4=>⟨r1,r3,_,(),rfl,(m3.sm.trans m4.sm) _ _ g2,m4.at',(by show 2+1≤10000;decide),fun r4 J5 j5 g5=>?_⟩⟩⟩⟩
    have s25:=((j2.trans m3.sm).trans m4.sm).trans j5
    refine ⟨(),(),ta,_,eta,af.of (s25 _ _ hta1),s25 _ _ hta1,fun r5 J6 j6 g6=>⟨r4,r5,_,(),rfl,j6 _ _ g5,g6,(by show 3+2≤10000;decide),fun r6 J7 j7 g7=>?_⟩⟩
    have s27:=(s25.trans j6).trans j7
    have sH:=s1.trans s27
    refine fin _ _ s27 ?_
    unfold nQ
    rw [e3]
    simp only [hs,if_true]
    exact .tup g7 (.cons (.str _) (.cons (.str _) (.cons (.tup (j7 _ _ (j6 _ _ (j5 _ _ (m4.sm _ _ m3.at')))) (.cons (.int _) (.cons (.int _) .nil))) (.cons (hg.mono sH.toE) (.cons (hpr.mono sH.toE) .nil)))))
   ·rw [decide_eq_false hs]
    refine aO ⟨(),fin _ _ (aj.refl _) ?_⟩
    unfold nQ
    rw [e3]
    simp only [hs,if_false]
    exact dj.mono s1.toE
  ·have ei:i=ys.length:=by trivial
   subst ei
   refine .inl ⟨⟨_,ao.of (sJ _ _ hty),by trivial⟩,n1 _ _ ?_⟩
   refine ⟨(),d,_,.inr "places",(),rfl,sJ _ _ O.hd,vP,p,(),ao.of (sJ _ _ O.l.hp),fun r1 J1 j1=>⟨(),l,(),ao.of (j1.sm _ _ hl),fun r2 J2 j2=>⟨(by show 2≤10000;decide),fun r3 J3 j3=>k _ _ (((sJ.trans j1.sm).trans j2.sm).trans j3.sm) ?_⟩⟩⟩
   rw [ly] at hz
   exact .tup j3.at' (.cons (.tup (j3.sm _ _ (j2.sm _ _ j1.at')) (lL _)) (.cons (.tup (j3.sm _ _ j2.at') (hz.mono ((j1.sm.trans j2.sm).trans j3.sm).toE)) .nil))
inductive A7 (vs:List V) (H:Hp) (Q:VK):Prop
 | mk (d p t q z:Addr) (v u:V) (es:List fD) (past:List ai) (cur:ai) (D:cO) (h0:vs=[.ref d,u]) (h1:bC H d past cur p t q z v es) (h2:aC ED H u (.tuple (mD D))) (h3:∀b,Q (.bl b) H)
def Bq:Sp:=fun vs H Q _=>A7  vs H Q
theorem Al (T:Txt K mg):aT P w K mg base CX0 1 T.l_may_.f T.l_may_.d ["_law_own", "_law_deed_here"] Bq:=by
 refine T.l_may_.F.ok xl (fun vs H Q E h=>?_) (fun cdv A outer s H vs Q E hr h=>?_)
 ·obtain ⟨d,p,t,q,z,v,u,es,past,cur,D,rfl,_⟩:=h
  rfl
 ·obtain ⟨d,p,t,q,z,v,u,es,past,cur,D,rfl,O,hv,k⟩:=h
  refine ⟨_,#[#[aN 8 #[ap 8 (@br _) #[#[1,ie][#[()]]] #[ad 4] #[(),()]] #[aa 3 #[am 4 #[bD 8 (@eU _) #[(),(),(@dI _ (K) (by rfl)),nR,T.b_len,(@bh),#[[#[aU 7 (@aX _) #[0,lV] #[ad 4] (fun _ _=>rfl)]]]] #[()] #[(),()]]]] (@aB _)] :: #[aa 3 #[am 4 #[BZ 7 #[bD 8 (@lJ _) #[#[1,ie][#[()]]] #[ad 4] #[(),()]] #[kT 5 #[bD 8 (@eU _) #[(),(),(@dI _ (K) (by rfl)),nR,T.b_len,(@bh),#[[#[aU 7 (@aX _) #[0,lV] #[ad 4] (fun _ _=>rfl)]]]] #[()] #[(),()]]]]]]],?_⟩
  obtain ⟨a,xs,rfl,ha,ia⟩:=nv hv
  obtain ⟨ys,hty,htd⟩:=O.l.ht
  have hd0:bn fun x0 xr=>xs=.str x0 :: xr:=by
   cases D with
   | back=>obtain ⟨x,rfl,hx⟩:=rn ia;cases aL hx;exact ⟨_,_,rfl⟩
   | place n=>obtain ⟨x,y,rfl,hx,_⟩:=gb ia;cases aL hx;exact ⟨_,_,rfl⟩
   | tie tt=>obtain ⟨x1,x2,x3,x4,x5,x6,rfl,hx,_⟩:=sD ia;cases aL hx;exact ⟨_,_,rfl⟩
   | ends b e=>obtain ⟨x1,x2,x3,rfl,hx,_⟩:=jH ia;cases aL hx;exact ⟨_,_,rfl⟩
   | part kk i x=>obtain ⟨x1,x2,x3,rfl,hx,_⟩:=jH ia;cases aL hx;exact ⟨_,_,rfl⟩
   | shut i=>obtain ⟨x,y,rfl,hx,_⟩:=gb ia;cases aL hx;exact ⟨_,_,rfl⟩
   | opn i=>obtain ⟨x,y,rfl,hx,_⟩:=gb ia;cases aL hx;exact ⟨_,_,rfl⟩
  obtain ⟨w0,xr,rfl⟩:=hd0
  have wo:gJ (V.str w0 :: xr) 0=some (.str w0):=by simp [gJ,kg]
  refine cw fun D0 n0 r0=>⟨(),a,_,_,(),rfl,af.of ha,wo,rfl,(),eQ (fun c=>?_) fun c=>n0 _ _ ?_⟩
  ·exact ⟨(),d,_,.inr "places",(),rfl,O.hd,vP,p,(),.inl (ao.of O.l.hp),_,(),rfl,r0 _ _ (k _)⟩
  ·refine ⟨(),a,_,_,(),rfl,af.of ha,wo,rfl,(),eQ (fun c2=>k _) fun c2=>?_⟩
   exact ⟨(),d,_,.inr "ties",(),rfl,O.hd,vT,t,(),.inl (ao.of hty),_,(),rfl,k _⟩
end
end K37
namespace K37
open PySem L2
set_option maxHeartbeats 4000000
section
variable {P:Program}{w:World}{K:PySem.W.Frag}{mg:Str→Option Value}{base:Heap}
theorem Aj {N:Nat}{s:ai} (ok:jA N s) (hN:N≤1000) (n:Nat):Dp (n+5) (rJ s):=by
 have l1:=ok.lp
 have l2:=ok.lt
 refine ⟨by show 2≤1000;decide,fun x h=>?_⟩
 rcases List.mem_cons.mp h with rfl | h
 ·refine ⟨by rw [List.length_map];trivial,fun y hy=>?_⟩
  obtain ⟨l,_,rfl⟩:=List.mem_map.mp hy
  trivial
 ·rw [List.mem_singleton.mp h]
  refine ⟨by rw [List.length_map,List.length_range];trivial,fun y hy=>?_⟩
  obtain ⟨i,hi,rfl⟩:=List.mem_map.mp hy
  unfold nQ
  cases s.ts[i]? with
  | none=>trivial
  | some t=>exact zU _ _
theorem BI (e:Option (List Nat×List Nat)) (n:Nat):Dp (n+2) (o8 e):=by
 cases e with
 | none=>trivial
 | some p=>exact ⟨by show 2≤1000;decide,fun x h=>by
  rcases List.mem_cons.mp h with rfl | h
  ·trivial
  ·rw [List.mem_singleton.mp h];trivial⟩
inductive vL (C:Addr) (vs:List V) (H:Hp) (Q:VK):Prop
 | mk (r L d:Addr) (F:List Addr) (past:List ai) (cur:ai) (h0:vs=[.ref r,.ref d]) (h1:fE C H r L d F past cur 1000) (h2:∀H',aj H H'→Q (.bl true) H')
def xc (C:Addr):Sp:=fun vs H Q _=>vL C vs H Q
theorem vd (T:Txt K mg):aT P w K mg base CX0 8 T.l_stands_.f T.l_stands_.d ["_law_roads", "_law_own"] (xc T.x_Roads):=by
 have G_Roads__net:=#[(AL)]
 have G_Roads__ends:=#[(yR)]
 have G_Roads__deeds:=#[(r9)]
 have G_Roads__is_shut:=#[(pA)]
 have G_l_net:=#[(wz)]
 have G_l_same:=qc (P:=P) (w:=w) (base:=base) T 6
 refine T.l_stands_.F.ok kR (fun vs H Q E h=>?_) (fun cdv A outer s H vs Q E hr h=>?_)
 ·obtain ⟨r,L,d,F,past,cur,rfl,_⟩:=h
  rfl
 ·obtain ⟨r,L,d,F,past,cur,rfl,B,k⟩:=h
  refine ⟨_,#[#[2,kR.nd,ji,#[b5 4 #[[#[jF 17 #[0,dm] T.c_Roads T.h_Roads__net G_Roads__net (hr.mono (by decide)) T.B_Roads__net .nil (@iI _) (by rfl)],#[jF 17 #[0,dm] T.c_Roads T.h_Roads__ends G_Roads__ends (hr.mono (by decide)) T.B_Roads__ends .nil (@iI _) (by rfl)],#[jF 17 #[0,dm] T.c_Roads T.h_Roads__deeds G_Roads__deeds (hr.mono (by decide)) T.B_Roads__deeds .nil (@iI _) (by rfl)]]]]] :: #[#[aN 8 #[iM 4 #[dk 3 #[G_l_same,jl,T.l_same_,#[[#[2,ji],#[b5 4 #[[#[G_l_net,oE,T.l_net_,#[[#[1,cU]]]],#[aU 7 (@aX _) #[1,cU] #[ad 4] (fun _ _=>rfl)],#[(),(),(@dI _ (K) (by rfl)),k8,T.b_len,(@bh),#[[#[aU 7 (@aX _) #[1,cU] #[ad 4] (fun _ _=>rfl)]]]]]]]]]] (by intro _;rfl)]] #[aa 3 #[am 4 #[cW 4]]] (@aB _)] :: #[#[kU 8 PassesOwn.never rfl #[gI 6 oq T.b_range #[[#[(),(),(@dI _ (K) (by rfl)),k8,T.b_len,(@bh),#[[#[aU 7 (@aX _) #[1,cU] #[ad 4] (fun _ _=>rfl)]]]]]] (by rfl)] #[3,kR.nd,eL] #[aa 3 #[aN 8 #[iM 4 #[dk 3 #[G_l_same,jl,T.l_same_,#[[#[cy 20 #[0,dm] T.c_Roads T.h_Roads__is_shut G_Roads__is_shut (hr.mono (by decide)) T.B_Roads__is_shut .nil #[Cg 3] #[[#[3,eL]]] (by rfl) (by rfl) (by rfl)],#[bD 8 (@lD _ (K) (by rfl)) #[3,eL] #[aU 7 (@aX _) #[1,cU] #[ad 4] (fun _ _=>rfl)] rfl]]]] (by intro _;rfl)]] #[aa 3 #[am 4 #[cW 4]]] (@aB _)]] (by intro _;rfl)] :: #[aa 3 #[am 4 #[cW 4]]]]]],?_⟩
  obtain ⟨R,O,ok,_,_⟩:=B
  obtain ⟨dx,ys0,v0,hr0,_⟩:=R.last
  obtain ⟨p,t,q,z,v,es,O,rfl⟩:=O
  obtain ⟨ys,hty,htd⟩:=O.l.ht
  have ly:=htd.length
  rw [List.length_map] at ly
  have okt:=ok.cu.lt
  have ok5:=ok.mono (show 1000≤5000 by decide)
  refine f7 fun Q0 n0=>⟨(),r,dx,(),hr0,rfl,r,L,past,cur,rfl,R,ok5,fun u1 H1 s1 d1=>?_⟩
  have R1:=R.sm s1
  refine ⟨(),r,dx,(),s1 _ _ hr0,rfl,r,L,past,cur,rfl,R1,fun u2 d2=>⟨(),r,dx,(),s1 _ _ hr0,rfl,r,L,past,cur,rfl,R1,(by show 3≤10000;decide),fun l1 H2 m2=>n0 _ _ ?_⟩⟩
  have s2:=s1.trans m2.sm
  have O2:=O.keep (fun a _ o h=>s2 a o h) s2.tp
  refine bi fun D1 n1=>⟨(),(),d,p,t,q,z,v,es,past,cur,rfl,O2,ok5,fun u3 H3 s3 d3=>?_⟩
  have O3:=O2.keep (fun a _ o h=>s3 a o h) s3.tp
  refine ⟨(),d,_,.inr "ends",(),rfl,O3.hd,vE,(),d,_,.inr "past",(),rfl,O3.hd,vA,z,(),.inl (ao.of O3.hz),(by show 3≤10000;decide),fun l2 H4 m4=>?_⟩
  have s24:=s3.trans m4.sm
  have e1:aC (fun _=>False) H4 (.ref l1) (.list [rJ cur,o8 cur.en,.int (past.length:Nat)]):=.lst (s24 _ _ m2.at') (fun z=>z) (.cons ((d1.mono (m2.sm.trans s24).toE).any) (.cons ((d2.mono (m2.sm.trans s24).toE).any) (.cons (.int _) .nil)))
  have e2:aC (fun _=>False) H4 (.ref l2) (.list [rJ cur,o8 cur.en,.int (past.length:Nat)]):=by
   refine .lst m4.at' (fun z=>z) (.cons ((d3.mono m4.sm.toE).any) (.cons ((O3.l.hv.mono m4.sm.toE).any) (.cons ?_ .nil)))
   rw [List.length_map,O3.hs.len]
   exact .int _
  refine ⟨.ref l1,.ref l2,_,(),e1,e2,⟨by show 3≤1000;decide,fun x h=>?_⟩,fun H5 s5=>⟨(),aO (n1 _ _ ?_)⟩⟩
  ·simp only [List.mem_cons,List.not_mem_nil,or_false] at h
   rcases h with rfl | rfl | rfl
   ·exact Aj ok.cu (Nat.le_refl _) 0
   ·exact BI _ _
   ·trivial
  have s05:=(s2.trans s24).trans s5
  have O5:=O.keep (fun a _ o h=>s05 a o h) s05.tp
  refine bi fun D2 n2=>⟨(),d,_,.inr "ties",(),rfl,O5.hd,vT,t,ys,rfl,.inl (ao.of (s05 _ _ hty)),(),by trivial,by trivial,l5 (fun i σ H'=>∃v3,σ=[some (.ref r),some (.ref d),some (.ref l1),v3]∧aj H H') ⟨(),s05⟩ ?_ ?_⟩
  ·rintro i σ H6 hi ⟨v3,rfl,s6⟩
   have hi':i<cur.ts.length:=by trivial
   have O6:=O.keep (fun a _ o h=>s6 a o h) s6.tp
   refine rj (t:=pU _ _ _) fun DB nB=>?_
   have hz0:(0:Int)+(i:Int)=(i:Int):=by trivial
   refine ⟨(),r,dx,(),s6 _ _ hr0,rfl,(),r,L,_,past,cur,rfl,R.sm s6,fun _=>⟨(),(),d,_,.inr "shut",(),rfl,O6.hd,vS,q,(),.inl (ao.of O6.l.hq),rfl,uC _,?_⟩,fun n=>absurd ⟨by trivial,by trivial⟩ n⟩
   simp only [if_false,Bool.false_eq_true,At]
   exact ⟨_,_,.bool (decide ((0:Int)+(i:Int)∈cur.sh)),ED,rfl,.bl _,.bl _,trivial,fun H7 s7=>⟨(),aO (nB _ _ ⟨(),s6.trans s7⟩)⟩⟩
  ·rintro σ H6 ⟨v3,rfl,s6⟩
   exact n2 _ _ (k _ s6)
end
end K37
namespace K37
open PySem L2
set_option maxHeartbeats 8000000
section
variable {P:Program}{w:World}{K:PySem.W.Frag}{mg:Str→Option Value}{base:Heap}
inductive w6 (C:Addr) (vs:List V) (H:Hp) (Q:VK):Prop
 | mk (r L:Addr) (i:Int) (past:List ai) (cur:ai) (h0:vs=[.ref r,.int i]) (h1:aH C H r L (past++[cur])) (h2:¬has cur i) (h3:∀H',aj H H'→Q (.bl true) H')
def tV (C:Addr):Sp:=fun vs H Q _=>w6 C vs H Q
theorem vY (T:Txt K mg):aT P w K mg base CX0 3 T.l_no_tie_.f T.l_no_tie_.d ["_law_roads", "_law_number"] (tV T.x_Roads):=by
 have G_Roads__is_shut:=#[(pA)]
 refine T.l_no_tie_.F.ok kF (fun vs H Q E h=>?_) (fun cdv A outer s H vs Q E hr h=>?_)
 ·obtain ⟨r,L,i,past,cur,rfl,_⟩:=h
  rfl
 ·obtain ⟨r,L,i,past,cur,rfl,R,nh,k⟩:=h
  refine ⟨_,#[#[2,kF.nd,eR,#[cW 4]] :: #[#[yv 11 rfl rfl oM T.m_NoTie (fun EE pn xe hx=>#[aa 3 #[bf 4 #[wS 18 #[0,mj] T.c_Roads T.h_Roads__is_shut G_Roads__is_shut (hr.mono (by decide)) T.B_Roads__is_shut hx #[[#[1,lY]]] (by rfl) (by rfl) (by rfl)] (by rfl)]]) (fun _=>#[aa 3 #[2,kF.nd,eR,#[cW 4]]]) (by decide)] :: #[aa 3 #[am 4 #[2,eR]]]]],?_⟩
  obtain ⟨dx,_,_,hr0,_⟩:=R.last
  refine f7 fun Q0 n0=>n0 _ _ ?_
  refine bi fun DA nA=>?_
  refine ⟨(),r,dx,(),hr0,rfl,(),r,L,i,past,cur,rfl,R,fun h=>absurd h nh,fun _ H1 s1=>?_⟩
  intro a' C' eC ha'
  cases eC
  exact ⟨T.em_NoTie_NoTie,nA _ _ ⟨(),k _ s1⟩⟩
inductive Bg (K:PySem.W.Frag) (vs:List V) (H:Hp) (Q:VK):Prop
 | mk (a:Addr) (ns:List Int) (h0:vs=[.ref a]) (h1:ao K H a (ns.map V.int)) (h2:ns.length≤63) (h3:∀H',Q (.bl true) H')
def spLaw (K:PySem.W.Frag):Sp:=fun vs H Q _=>Bg K vs H Q
theorem law_start {H:Hp}{a:Addr}{ns:List Int} (hl:ns.length≤63) (_:pE H) (hS:ao K H a (ns.map V.int)):spLaw K [.ref a] H (fun v _=>v=.bl true) fun _ _ _=>False:=
 ⟨a,ns,rfl,hS,hl,fun _=>rfl⟩
theorem law_ok (T:Txt K mg):aT P w K mg base CX0 40 T.law_.f T.law_.d ["_law_script"] (spLaw K):=by
 have G_l_boxes:=#[(wJ)]
 have G_l_take:=#[(ju)]
 have G_l_names:=#[(ww)]
 have G_l_deed:=#[(yL)]
 have G_l_may:=#[(Al)]
 have G_Roads____init__:=#[(qW)]
 have G_l_begin:=#[(wH)]
 have G_l_same:=qc (P:=P) (w:=w) (base:=base) T 2
 have G_l_done:=#[(yz)]
 have G_l_step:=#[(yI)]
 have G_l_stands:=#[(vd)]
 have G_l_no_tie:=#[(vY)]
 refine T.law_.F.ok iT (fun vs H Q E h=>?_) (fun cdv A outer s H vs Q E hr h=>?_)
 ·obtain ⟨a,ns,rfl,_⟩:=h
  rfl
 ·obtain ⟨a,ns,rfl,hS,hn,k⟩:=h
  refine ⟨_,#[#[kU 8 PassesOwn.never rfl (@vO _ (K) _ _ _ #[G_l_boxes,qU,T.l_boxes_,#[[#[0,pR],#[()]]]] (by rfl)) #[1,iT.nd,cT] #[#[di 6 #[ar 5 #[[#[xp 11 T.mk_Roads G_Roads____init__ (hr.mono (by decide)) sX T.m_Roads T.B_Roads____init__ (@iI _) (by decide)],#[xw 13 G_l_begin (hr.mono (by decide)) qT T.l_begin_.m T.l_begin_.F.kp T.l_begin_.B .nil (@iI _) (by decide)]]]] (@cf _ (K) _ _ _ _ (2) rfl #[au 5 #[jw 2 (2) _ iT.nd rfl (Or.inr jb) (by first | exact .inl rfl | exact .inr rfl | assumption)] #[au 5 #[3,iT.nd,eJ] (@cA _) (by rfl)] (by rfl)] (by rfl) (by rfl) (by rfl)) (by rfl) (by rfl) (by rfl)] :: #[#[4,iT.nd,i4,#[G_l_names,qO,T.l_names_,#[[#[1,cT],#[ax 8 (@ce _) #[()] #[G_l_take,mz,T.l_take_,#[[#[1,cT],#[()]]]]]]]]] :: #[#[kU 8 PassesOwn.never rfl #[gI 6 sW T.b_range #[[#[ax 8 (@ce _) #[()] #[G_l_take,mz,T.l_take_,#[[#[1,cT],#[()]]]]]]] (by rfl)] #[5,iT.nd,l9] #[#[6,iT.nd,dH,#[G_l_deed,rW,T.l_deed_,#[[#[1,cT],#[4,i4],#[(),(),(@dI _ (K) (by rfl)),qa,T.b_len,(@bh),#[[#[aU 7 (@aX _) #[3,eJ] #[ad 4] (fun _ _=>rfl)]]]],#[bD 8 (@re _) #[5,l9] #[()] #[(),()]]]]]] :: #[aa 3 #[aN 8 #[dk 3 #[G_l_may,sT,T.l_may_,#[[#[3,eJ],#[6,dH]]]] (by intro _;rfl)] #[aa 3 #[aN 8 #[PW.pt 3 #[ph 7 #[iM 4 #[dk 3 #[G_l_same,sK,T.l_same_,#[[#[G_l_done,rA,T.l_done_,#[[#[2,(jb)],#[6,dH]]]],#[G_l_step,sC,T.l_step_,#[[#[3,eJ],#[6,dH]]]]]]] (by intro _;rfl)]] #[mU 4 #[iM 4 #[dk 3 #[G_l_stands,pO,T.l_stands_,#[[#[2,(jb)],#[3,eJ]]]] (by intro _;rfl)]]]]] #[aa 3 #[am 4 #[cW 4]]] (@aB _)]] (@aB _)]]] (by intro _;rfl)] :: #[#[7,iT.nd,fI,#[(),(),(@dI _ (K) (by rfl)),qa,T.b_len,(@bh),#[[#[aU 7 (@aX _) #[3,eJ] #[ad 4] (fun _ _=>rfl)]]]]] :: #[aa 3 #[aN 8 #[iM 4 #[dk 3 #[(),(),(@xU _ (K) rfl (by rfl)),vi,T.b_all,(@o0),#[[#[jQ 7 (["_law_number", "_law_roads"]) (1) ([2]) _ _ _ _ rfl (by kernel_rfl) (@w5 _ (K) _ _ _ #[ar 5 #[[#[7,fI],#[ax 8 (@ce _) #[7,fI] #[()]],#[fP 6 (@dS _) #[()]],#[fP 6 (@dS _) #[7,fI]],#[ax 8 (@iZ _) #[fP 6 (@dS _) #[7,fI]] #[()]]]]] (by rfl)) (fun _ _ _ _ _ _=>#[0,(),()]) (fun _ _ _ _ _ _=>@iD _) (fun _ _ _ _ _ _=>#[G_l_no_tie,(),T.l_no_tie_,#[[#[1,0],#[0,()]]]]) (by intro _;rfl)]]]] (by intro _;rfl)]] #[aa 3 #[am 4 #[cW 4]]] (@aB _)]]]]]] (by intro _;rfl)] :: #[aa 3 #[am 4 #[cW 4]]]],?_⟩
  refine bi fun D0 n0=>⟨(),a,ns,rfl,hS,hn,fun lb bs H1 s1 hlb lbs nbs hbs=>⟨lb,rfl,⟨_,ao.of hlb⟩,?_⟩⟩
  refine xa (xs:=bs.map V.ref) (fun i σ H'=>CG fun (v1 v2 v3 v4 v5 v6 v7:Option V)=>σ=[some (.ref a),v1,v2,v3,v4,v5,v6,v7]∧H' lb=some (.lst (bs.map V.ref))∧∀(j:Nat) (b:Addr),i≤j→bs[j]?=some b→Bx H' b 0) ⟨_,_,_,_,_,_,(),hlb,fun j b _ e=>hbs b (List.mem_of_getElem? e)⟩ (fun i σ H' _ ⟨_,_,_,_,_,_,_,_,h,_⟩=>ao.of h) ?_ ?_
  case refine_2=>
   rintro σ H' ⟨v1,v2,v3,v4,v5,v6,v7,rfl,_⟩
   exact n0 _ _ (k _)
  rintro i x σ H2 hx ⟨v1,v2,v3,v4,v5,v6,v7,rfl,hlb2,hB⟩
  rw [List.getElem?_map] at hx
  obtain ⟨b,eb,rfl⟩:=Option.map_eq_some_iff.mp hx
  have Bb:=hB i b (Nat.le_refl _) eb
  have nlbb:lb≠b:=fun e=>by
   obtain ⟨c1,c2,q,_⟩:=Bb
   rw [←e,hlb2] at q
   injection q with q
   injection q with q
   have:bs=[]∨bn fun z zs=>bs=z :: zs:=by cases bs with
    | nil=>exact .inl rfl
    | cons z zs=>exact .inr ⟨z,zs,rfl⟩
   rcases this with rfl | ⟨z,zs,rfl⟩
   ·cases q
   ·cases q
  refine rj (t:=kH _ _) fun DB nB=>?_
  have done:∀(v2 v3 v4 v5 v6 v7:Option V) (H':Hp),aD (Eb b) H2 H'→DB.nx [some (.ref a),some (.ref b),v2,v3,v4,v5,v6,v7] H':=fun v2 v3 v4 v5 v6 v7 H' sE=>by
   refine nB _ _ ⟨_,_,_,_,_,_,(),sE.old _ _ nlbb hlb2,fun j b' hj e=>?_⟩
   have B':=hB j b' (by trivial) e
   refine B'.frm sE fun z=>?_
   have z':b'=b:=z
   rw [z'] at e
   obtain ⟨h1,e1⟩:=List.getElem?_eq_some_iff.mp e
   obtain ⟨h2,e2⟩:=List.getElem?_eq_some_iff.mp eb
   have:=mP nbs h1 h2 (by rw [e1,e2])
   trivial
  refine bi fun D7 n7=>fun r dx J0 fr0 sJ0 hr0=>⟨r,dx,rfl,hr0,fun L H7 fL kp R7=>⟨rfl,⟨rfl,fun d F H8 s8 O8 fF=>⟨(by show 2≤10000;decide),fun tp H9 m9=>⟨tp,(),af.of m9.at',rfl,_,(),_,(),rfl,n7 _ _ ?_⟩⟩⟩⟩⟩
  have s27:aj H2 H7:=fun x o h=>kp x o (fun e=>by rw [e,fr0] at h;cases h) (sJ0 _ _ h)
  have fL2:H2 L=none:=sJ0.free fL
  have s29:=(s27.trans s8).trans m9.sm
  have R9:=(R7.sm s8).sm m9.sm
  have O9:=O8.sm m9.sm
  have nbF:b∉F:=fun h=>(Bb.same s27).th (fF _ h)
  have nbL:b≠L:=fun e=>Bb.th (e▸fL2)
  have nbr:b≠r:=fun e=>Bb.th (e▸fr0)
  have Bd9:fE T.x_Roads H9 r L d F [] qG 0:=⟨R9,O9,gk.zero _,fun h=>R7.thL (fF _ h),fun h=>R7.thr (fF _ h)⟩
  refine f7 fun Q3 n3=>⟨(),(),b,5,0,rfl,Bb.same s29,by decide,by decide,by decide,by decide,fun r3 t3 H3 r30 r31 h3a h3b s3 B3=>⟨_,(),rfl,b,_,t3,rfl,B3,by trivial,by trivial,by trivial,by trivial,fun nl ls t4 H4 fnl s4 hnl lls B4 h4a h4b=>n3 _ _ ?_⟩⟩
  have s94:=s3.trans s4
  have nnb:nl≠b:=fun e=>B3.th (e▸fnl)
  have keepB:∀{J J':Hp}{F':List Addr}{past:List ai}{cur:ai}{N:Nat},fE T.x_Roads J r L d F' past cur N→aD (Eb b) J J'→b∉F'→fE T.x_Roads J' r L d F' past cur N:=fun B s n=>B.keep s (Ne.symm nbL) (Ne.symm nbr) fun a ha e=>n (by have e':a=b:=e;rw [←e'];exact ha)
  have Bd3:=keepB Bd9 s3 nbF
  have Bd4:=keepB Bd3 s4 nbF
  have nnF:nl∉F:=fun h=>Bd3.O.there _ h fnl
  have nnL:nl≠L:=fun e=>Bd3.R.thL (e▸fnl)
  have o7:∀(F':List Addr) (H':Hp),kZ b L F F' H4 H'→aD (Eb b) H2 H':=fun F' H' fr=>by
   have s24:=s29.toE.trans s94
   refine ⟨fun x o n h=>fr.old (s24.old x o n h) n (fun e=>?_) (fun g=>?_),fun x us h=>fr.sE.tup x us (s24.tup x us h)⟩
   ·rw [e,fL2] at h;cases h
   ·have:=fF x g
    rw [s27 _ _ h] at this;cases this
  refine bi fun D5 n5=>⟨(),b,31,t4,rfl,B4,by decide,by decide,by trivial,by trivial,fun r5 t5 H5 r50 r51 h5a h5b s5 B5=>⟨_,(),rfl,(),by trivial,by trivial,?_⟩⟩
  have Bd5:=keepB Bd4 s5 nbF
  have fr5:kZ b L F F H4 H5:=⟨s5.imp fun a e=>.inl e,fun _ h=>.inl h⟩
  refine l5 (fun j σ H'=>CG fun (v5 v6 v7:Option V) (F':List Addr) (past:List ai) (cur:ai) (t':Int)=>σ=[some (.ref a),some (.ref b),some (.ref r),some (.ref d),some (.ref nl),v5,v6,v7]∧fE T.x_Roads H' r L d F' past cur j∧kZ b L F F' H4 H'∧Bx H' b t'∧t5≤t'∧t'≤t5+20*j) ⟨_,_,_,F,[],qG,t5,rfl,Bd5,fr5,B5,by trivial,by trivial⟩ ?_ ?_
  ·rintro j σ J1 hj ⟨v5,v6,v7,F1,past,cur,t1,rfl,Bd1,fr1,Bb1,g1a,g1b⟩
   refine rj (t:=kH _ _) fun DC nC=>?_
   have nb1:b∉F1:=fr1.out B4.th nbF
   have hnl1:J1 nl=some (.lst (ls.map bt)):=fr1.old hnl nnb nnL nnF
   obtain ⟨p,tt,q,z,v,es,OX,eF⟩:=Bd1.O
   obtain ⟨ys,hty,htd⟩:=OX.l.ht
   have ly:=htd.length
   rw [List.length_map] at ly
   have okt:=Bd1.ok.cu.lt
   refine f7 fun Q6 n6=>⟨(),(),(),d,_,.inr "ties",(),rfl,OX.hd,vT,tt,ys,rfl,.inl (ao.of hty),(),_,(),rfl,b,nl,_,t1,_,ls,rfl,Bb1,by trivial,by trivial,hnl1,nnb,by trivial,by trivial,by trivial,by trivial,fun vD D t6 J2 s2 dD Bb2 g2a g2b=>n6 _ _ ?_⟩
   have Bd2:=keepB Bd1 s2 nb1
   have fr2:kZ b L F F1 H4 J2:=⟨fr1.sE.trans (s2.imp fun a e=>.inl e),fr1.sub⟩
   obtain ⟨p',t',q',z',v',es',OX2,eF2⟩:=Bd2.O
   refine ⟨(),(),d,p',t',q',z',v',_,es',past,cur,D,rfl,OX2,dD,fun bb=>⟨(),?_⟩⟩
   cases bb with
   | false=>exact aO (nC _ _ ⟨_,_,_,F1,past,cur,t6,rfl,Bd2.mono (Nat.le_succ _),fr2,Bb2,by trivial,by trivial⟩)
   | true=>
    have ok2:=Bd2.ok.mono (show j≤5000 by trivial)
    refine aY ⟨(),(),r,L,vD,D,_,(),dD,Bd2.R,ok2,fun u1 J3 s3' R3 d3=>?_⟩
    have O3:=Bd2.O.keep s3' (fun a ha e=>Bd2.nL (by have e':a=L:=e;rw [←e'];exact ha))
    refine ⟨(),(),d,vD,D,F1,_,(),O3,dD.mono (bL s3'.tup),ok2,fun u2 J4 F4 s4' O4 sub4 d4=>?_⟩
    obtain ⟨Bd4',fr4'⟩:=Bd2.turn (b:=b) nb1 nbL s3' R3 s4' O4 (Bd2.ok.aft D) sub4
    have fr24:=fr2.trans fr4' Bb2.th Bd2.R.thL
    have Bb4:Bx J4 b t6:=(Bb2.frm s3' nbL).frm s4' nb1
    refine ⟨u1,u2,_,ED,rfl,d3.mono (bL s4'.tup),d4,zP _ _ _ 0,fun J5 s5'=>⟨(),aO ?_⟩⟩
    have Bd5':=Bd4'.sm s5'
    refine ⟨(),(),r,L,d,F4,_,(),Bd5'.mono (by trivial),fun J6 s6'=>⟨(),aO (nC _ _ ?_)⟩⟩
    have s46:=s5'.trans s6'
    exact ⟨_,_,_,F4,_,_,t6,rfl,Bd5'.sm s6',⟨fr24.sE.trans s46.toE,fr24.sub⟩,Bb4.same s46,by trivial,by trivial⟩
  ·rintro σ J1 ⟨v5,v6,v7,F1,past,cur,t1,rfl,Bd1,fr1,Bb1,g1a,g1b⟩
   refine n5 _ _ ?_
   obtain ⟨p,tt,q,z,v,es,OX,eF⟩:=Bd1.O
   obtain ⟨ys,hty,htd⟩:=OX.l.ht
   have ly:=htd.length
   rw [List.length_map] at ly
   refine f7 fun Q6 n6=>⟨(),d,_,.inr "ties",(),rfl,OX.hd,vT,tt,ys,rfl,.inl (ao.of hty),n6 _ _ ?_⟩
   refine ⟨(),(),_,(),rfl,(),(),(),(),(),_,(),rfl,(by show 5≤10000;decide),fun tq J2 j2=>⟨tq,rfl,⟨_,af.of j2.at'⟩,fun D8 hD8=>?_⟩⟩
   refine uW (xs:=[V.int ys.length,V.int (ys.length+7),V.int (-1),V.int (-ys.length),V.int (-ys.length - 1)]) (fun _=>.bl true) (by show 5≤10000;decide) hD8 j2.at' ?_ ?_
   ·intro i' x J3 Rk hx' sm kk
    refine ⟨rd,(),(),?_⟩
    have R3:=(Bd1.R.sm j2.sm).sm sm
    have fin:∀i0:Int,¬has cur i0→tV T.x_Roads [.ref r,.int i0] J3 Rk E0:=fun i0 h0=>⟨r,L,i0,past,cur,rfl,R3,h0,fun J4 s4=>kk _ s4⟩
    have nh:∀i0:Int,(i0<0∨(ys.length:Int)≤i0)→¬has cur i0:=fun i0 h0 z=>by
     have z1:=z.1
     have z2:=z.2
     rw [←ly] at z2
     trivial
    have hi5:i'<5:=(List.getElem?_eq_some_iff.mp hx').1
    obtain rfl | rfl | rfl | rfl | rfl:i'=0∨i'=1∨i'=2∨i'=3∨i'=4:=by trivial
    ·cases hx';exact fin _ (nh _ (by trivial))
    ·cases hx';exact fin _ (nh _ (by trivial))
    ·cases hx';exact fin _ (nh _ (by trivial))
    ·cases hx';exact fin _ (nh _ (by trivial))
    ·cases hx';exact fin _ (nh _ (by trivial))
   ·intro J3 s3' h3
    refine ⟨D8,[true,true,true,true,true],rfl,ao.of h3,(),aO ?_⟩
    exact done _ _ _ _ _ _ _ ((o7 F1 J1 fr1).trans (j2.sm.trans s3').toE)
end
end K37
namespace K37
open PySem L2
set_option maxHeartbeats 0 in
theorem txt_of {K:PySem.W.Frag}{h:Heap}{mg:Str→Option Value} (y:obs K=due) (X:K.In h) (G:h.Ns mainGlobals mg):∃T:Txt K mg,∀(s:Shared) (u:Value),BindsTo s T.law_.d ⟨[u],[]⟩ [("_law_script",u)]:=by
 have e:∀i,(obs K).1.getD i none=due.1.getD i none:=fun i=>by rw [y]
 have b:∀i,(obs K).2.getD i true=due.2.getD i true:=fun i=>by rw [y]
 refine ⟨{
  b_ValueError:=PySem.W.mg_none_of X G (b9 (b 55)),
  b_abs:=PySem.W.mg_none_of X G (b9 (b 56)),
  b_all:=PySem.W.mg_none_of X G (b9 (b 57)),
  b_bool:=PySem.W.mg_none_of X G (b9 (b 58)),
  b_divmod:=PySem.W.mg_none_of X G (b9 (b 59)),
  b_enumerate:=PySem.W.mg_none_of X G (b9 (b 60)),
  b_int:=PySem.W.mg_none_of X G (b9 (b 61)),
  b_isinstance:=PySem.W.mg_none_of X G (b9 (b 62)),
  b_len:=PySem.W.mg_none_of X G (b9 (b 63)),
  b_list:=PySem.W.mg_none_of X G (b9 (b 64)),
  b_max:=PySem.W.mg_none_of X G (b9 (b 65)),
  b_range:=PySem.W.mg_none_of X G (b9 (b 66)),
  b_str:=PySem.W.mg_none_of X G (b9 (b 67)),
  b_tuple:=PySem.W.mg_none_of X G (b9 (b 68)),
  b_zip:=PySem.W.mg_none_of X G (b9 (b 69)),
  l_box_:=⟨_,_,PySem.W.mg_of X G (bW (e 0)),ag (e 0),(ag (e 0)).binds (ps:=["_law_script", "_law_k"]) fun _ _ _ _ _ _=>dA (fun _ _=>rfl)⟩,
  l_take_:=⟨_,_,PySem.W.mg_of X G (bW (e 1)),ag (e 1),(ag (e 1)).binds (ps:=["_law_box_here", "_law_many"]) fun _ _ _ _ _ _=>dA (fun _ _=>rfl)⟩,
  l_boxes_:=⟨_,_,PySem.W.mg_of X G (bW (e 2)),ag (e 2),(ag (e 2)).binds (ps:=["_law_script", "_law_cap"]) fun _ _ _ _ _ _=>dA (fun _ _=>rfl)⟩,
  l_fr_:=⟨_,_,PySem.W.mg_of X G (bW (e 3)),ag (e 3),(ag (e 3)).binds (ps:=["_law_top", "_law_bottom"]) fun _ _ _ _ _ _=>dA (fun _ _=>rfl)⟩,
  l_names_:=⟨_,_,PySem.W.mg_of X G (bW (e 4)),ag (e 4),(ag (e 4)).binds (ps:=["_law_box_here", "_law_many"]) fun _ _ _ _ _ _=>dA (fun _ _=>rfl)⟩,
  l_gain_:=⟨_,_,PySem.W.mg_of X G (bW (e 5)),ag (e 5),(ag (e 5)).binds (ps:=["_law_box_here"]) fun _ _ _ _ _ _=>ja (fun _=>rfl)⟩,
  l_much_:=⟨_,_,PySem.W.mg_of X G (bW (e 6)),ag (e 6),(ag (e 6)).binds (ps:=["_law_box_here"]) fun _ _ _ _ _ _=>ja (fun _=>rfl)⟩,
  l_cost_:=⟨_,_,PySem.W.mg_of X G (bW (e 7)),ag (e 7),(ag (e 7)).binds (ps:=["_law_box_here"]) fun _ _ _ _ _ _=>ja (fun _=>rfl)⟩,
  l_deed_:=⟨_,_,PySem.W.mg_of X G (bW (e 8)),ag (e 8),(ag (e 8)).binds (ps:=["_law_box_here", "_law_names_here", "_law_many", "_law_settled"]) fun _ _ _ _ _ _=>wX (fun _ _ _ _=>rfl)⟩,
  l_do_:=⟨_,_,PySem.W.mg_of X G (bW (e 9)),ag (e 9),(ag (e 9)).binds (ps:=["_law_roads", "_law_deed_here"]) fun _ _ _ _ _ _=>dA (fun _ _=>rfl)⟩,
  l_done_:=⟨_,_,PySem.W.mg_of X G (bW (e 10)),ag (e 10),(ag (e 10)).binds (ps:=["_law_roads", "_law_deed_here"]) fun _ _ _ _ _ _=>dA (fun _ _=>rfl)⟩,
  l_begin_:=⟨_,_,PySem.W.mg_of X G (bW (e 11)),ag (e 11),(ag (e 11)).binds (ps:=[]) fun _ _ _ _ _ _=>Du (rfl)⟩,
  l_copied_:=⟨_,_,PySem.W.mg_of X G (bW (e 12)),ag (e 12),(ag (e 12)).binds (ps:=["_law_own"]) fun _ _ _ _ _ _=>ja (fun _=>rfl)⟩,
  l_refused_:=⟨_,_,PySem.W.mg_of X G (bW (e 13)),ag (e 13),(ag (e 13)).binds (ps:=["_law_own", "_law_deed_here"]) fun _ _ _ _ _ _=>dA (fun _ _=>rfl)⟩,
  l_step_:=⟨_,_,PySem.W.mg_of X G (bW (e 14)),ag (e 14),(ag (e 14)).binds (ps:=["_law_own", "_law_deed_here"]) fun _ _ _ _ _ _=>dA (fun _ _=>rfl)⟩,
  l_net_:=⟨_,_,PySem.W.mg_of X G (bW (e 15)),ag (e 15),(ag (e 15)).binds (ps:=["_law_own"]) fun _ _ _ _ _ _=>ja (fun _=>rfl)⟩,
  l_may_:=⟨_,_,PySem.W.mg_of X G (bW (e 16)),ag (e 16),(ag (e 16)).binds (ps:=["_law_own", "_law_deed_here"]) fun _ _ _ _ _ _=>dA (fun _ _=>rfl)⟩,
  l_same_:=⟨_,_,PySem.W.mg_of X G (bW (e 17)),ag (e 17),(ag (e 17)).binds (ps:=["_law_found", "_law_due"]) fun _ _ _ _ _ _=>dA (fun _ _=>rfl)⟩,
  l_stands_:=⟨_,_,PySem.W.mg_of X G (bW (e 18)),ag (e 18),(ag (e 18)).binds (ps:=["_law_roads", "_law_own"]) fun _ _ _ _ _ _=>dA (fun _ _=>rfl)⟩,
  l_no_tie_:=⟨_,_,PySem.W.mg_of X G (bW (e 19)),ag (e 19),(ag (e 19)).binds (ps:=["_law_roads", "_law_number"]) fun _ _ _ _ _ _=>dA (fun _ _=>rfl)⟩,
  law_:=⟨_,_,PySem.W.mg_of X G (bW (e 20)),ag (e 20),(ag (e 20)).binds (ps:=["_law_script"]) fun _ _ _ _ _ _=>ja (fun _=>rfl)⟩,
  f_Gaining__init:=_,d_Gaining__init:=_,F_Gaining__init:=ag (e 21),B_Gaining__init:=(ag (e 21)).binds (ps:=["self", "ties"]) fun _ _ _ _ _ _=>dA (fun _ _=>rfl),
  f_NotSoMuch__init:=_,d_NotSoMuch__init:=_,F_NotSoMuch__init:=ag (e 22),B_NotSoMuch__init:=(ag (e 22)).binds (ps:=["self", "most"]) fun _ _ _ _ _ _=>dA (fun _ _=>rfl),
  f_Roads____init__:=_,d_Roads____init__:=_,F_Roads____init__:=ag (e 23),B_Roads____init__:=(ag (e 23)).binds (ps:=["self"]) fun _ _ _ _ _ _=>ja (fun _=>rfl),
  f_Roads__add_place:=_,d_Roads__add_place:=_,F_Roads__add_place:=ag (e 24),B_Roads__add_place:=(ag (e 24)).binds (ps:=["self", "name"]) fun _ _ _ _ _ _=>dA (fun _ _=>rfl),
  f_Roads__add_tie:=_,d_Roads__add_tie:=_,F_Roads__add_tie:=ag (e 25),B_Roads__add_tie:=(ag (e 25)).binds (ps:=["self", "begin", "end", "most", "gain", "price"]) fun _ _ _ _ _ _=>Dt (fun _ _ _ _ _ _=>rfl),
  check_two_:=⟨_,_,PySem.W.mg_of X G (bW (e 26)),ag (e 26),(ag (e 26)).binds (ps:=["places", "begin", "end"]) fun _ _ _ _ _ _=>mh (fun _ _ _=>rfl)⟩,
  f_Roads__set_most:=_,d_Roads__set_most:=_,F_Roads__set_most:=ag (e 27),B_Roads__set_most:=(ag (e 27)).binds (ps:=["self", "number", "most"]) fun _ _ _ _ _ _=>mh (fun _ _ _=>rfl),
  f_Roads__set_gain:=_,d_Roads__set_gain:=_,F_Roads__set_gain:=ag (e 28),B_Roads__set_gain:=(ag (e 28)).binds (ps:=["self", "number", "gain"]) fun _ _ _ _ _ _=>mh (fun _ _ _=>rfl),
  f_Roads__set_price:=_,d_Roads__set_price:=_,F_Roads__set_price:=ag (e 29),B_Roads__set_price:=(ag (e 29)).binds (ps:=["self", "number", "price"]) fun _ _ _ _ _ _=>mh (fun _ _ _=>rfl),
  f_Roads__shut:=_,d_Roads__shut:=_,F_Roads__shut:=ag (e 30),B_Roads__shut:=(ag (e 30)).binds (ps:=["self", "number"]) fun _ _ _ _ _ _=>dA (fun _ _=>rfl),
  f_Roads__reopen:=_,d_Roads__reopen:=_,F_Roads__reopen:=ag (e 31),B_Roads__reopen:=(ag (e 31)).binds (ps:=["self", "number"]) fun _ _ _ _ _ _=>dA (fun _ _=>rfl),
  f_Roads__set_ends:=_,d_Roads__set_ends:=_,F_Roads__set_ends:=ag (e 32),B_Roads__set_ends:=(ag (e 32)).binds (ps:=["self", "begin", "end"]) fun _ _ _ _ _ _=>mh (fun _ _ _=>rfl),
  f_Roads__back:=_,d_Roads__back:=_,F_Roads__back:=ag (e 33),B_Roads__back:=(ag (e 33)).binds (ps:=["self"]) fun _ _ _ _ _ _=>ja (fun _=>rfl),
  f_Roads__net:=_,d_Roads__net:=_,F_Roads__net:=ag (e 34),B_Roads__net:=(ag (e 34)).binds (ps:=["self"]) fun _ _ _ _ _ _=>ja (fun _=>rfl),
  put_at_:=⟨_,_,PySem.W.mg_of X G (bW (e 35)),ag (e 35),(ag (e 35)).binds (ps:=["parts", "at", "part"]) fun _ _ _ _ _ _=>mh (fun _ _ _=>rfl)⟩,
  f_Roads__ends:=_,d_Roads__ends:=_,F_Roads__ends:=ag (e 36),B_Roads__ends:=(ag (e 36)).binds (ps:=["self"]) fun _ _ _ _ _ _=>ja (fun _=>rfl),
  f_Roads__is_shut:=_,d_Roads__is_shut:=_,F_Roads__is_shut:=ag (e 37),B_Roads__is_shut:=(ag (e 37)).binds (ps:=["self", "number"]) fun _ _ _ _ _ _=>dA (fun _ _=>rfl),
  check_tie_:=⟨_,_,PySem.W.mg_of X G (bW (e 38)),ag (e 38),(ag (e 38)).binds (ps:=["ties", "number"]) fun _ _ _ _ _ _=>dA (fun _ _=>rfl)⟩,
  f_Roads__deeds:=_,d_Roads__deeds:=_,F_Roads__deeds:=ag (e 39),B_Roads__deeds:=(ag (e 39)).binds (ps:=["self"]) fun _ _ _ _ _ _=>ja (fun _=>rfl),
  f_Roads__set_part:=_,d_Roads__set_part:=_,F_Roads__set_part:=ag (e 40),B_Roads__set_part:=(ag (e 40)).binds (ps:=["self", "number", "at", "part"]) fun _ _ _ _ _ _=>wX (fun _ _ _ _=>rfl),
  f_Roads__set_shut:=_,d_Roads__set_shut:=_,F_Roads__set_shut:=ag (e 41),B_Roads__set_shut:=(ag (e 41)).binds (ps:=["self", "number", "whether"]) fun _ _ _ _ _ _=>mh (fun _ _ _=>rfl),
  x_GainError:=_,m_GainError:=PySem.W.mg_of X G (fg (b 0)),k_GainError:=(b 8),xb_GainError:=(b 9),
  x_Taken:=_,m_Taken:=PySem.W.mg_of X G (fg (b 1)),k_Taken:=(b 10),q_Taken:=(b 11),
  x_NoPlace:=_,m_NoPlace:=PySem.W.mg_of X G (fg (b 2)),k_NoPlace:=(b 12),q_NoPlace:=(b 13),
  x_NoTie:=_,m_NoTie:=PySem.W.mg_of X G (fg (b 3)),k_NoTie:=(b 14),q_NoTie:=(b 15),
  x_AsItIs:=_,m_AsItIs:=PySem.W.mg_of X G (fg (b 4)),k_AsItIs:=(b 16),q_AsItIs:=(b 17),
  x_NoEnds:=_,m_NoEnds:=PySem.W.mg_of X G (fg (b 5)),k_NoEnds:=(b 18),q_NoEnds:=(b 19),
  x_Gaining:=_,m_Gaining:=PySem.W.mg_of X G (fg (b 6)),k_Gaining:=(b 20),fn_Gaining:=(b 21),st_Gaining:=(b 22),fd_Gaining:=(b 23),q_Gaining:=(b 24),
  x_NotSoMuch:=_,m_NotSoMuch:=PySem.W.mg_of X G (fg (b 7)),k_NotSoMuch:=(b 25),fn_NotSoMuch:=(b 26),st_NotSoMuch:=(b 27),fd_NotSoMuch:=(b 28),q_NotSoMuch:=(b 29),
  x_Roads:=_,m_Roads:=PySem.W.mg_of X G (fg (b 36)),c_Roads:=(za (b 37)),mk_Roads:=(xj (b 38)),h_Roads__add_place:=(bH (b 39)),h_Roads__add_tie:=(bH (b 40)),h_Roads__set_most:=(bH (b 41)),h_Roads__set_gain:=(bH (b 42)),h_Roads__set_price:=(bH (b 43)),h_Roads__shut:=(bH (b 44)),h_Roads__reopen:=(bH (b 45)),h_Roads__set_ends:=(bH (b 46)),h_Roads__back:=(bH (b 47)),h_Roads__net:=(bH (b 48)),h_Roads__ends:=(bH (b 49)),h_Roads__is_shut:=(bH (b 50)),h_Roads__deeds:=(bH (b 51)),h_Roads__set_part:=(bH (b 52)),h_Roads__set_shut:=(bH (b 53)),n_Roads_states:=(b9 (b 54)),
  em_Taken_GainError:=(lg (b 30)),
  em_NoPlace_GainError:=(lg (b 31)),
  em_NoTie_GainError:=(lg (b 32)),
  em_AsItIs_GainError:=(lg (b 33)),
  em_NoTie_NoTie:=(lg (b 34)),
  kin:=(b 35) },fun s u=>?_⟩
 obtain ⟨_,_,_,_,_,_,_,_,_,z,_⟩:=(ag (e 20):dN K "law" "law" bI _ _).ex
 show BindsTo s (f8 K (PySem.W.nsIn K mainGlobals "law")) _ _
 rw [z]
 exact .of_eq rfl
end K37
open PySem PySem.W PyProof.Rows
set_option maxRecDepth 100000 in
set_option maxHeartbeats 0 in
theorem PySem.Challenge.cw_gainroads_k37_deeds_of_roads_holds : PySem.Challenge.rw_gainroads_k37_deeds_of_roads.Holds := by
 w_on;o_law
 refine holds_openX (q:=K37.qv) (loose:=[]) (Xt:=L2.Xt) (XP:=XL K37.qv []) (Yf:=L2.Yf) (Ya:=fun _=>K37.due) (N:=6958) (L2.left_tree rfl rfl (fun _=>rfl) L2.left) (fun s e=>xl_of s (Bool.and_eq_true_iff.mp e).1) XL.keeps (by rfl) (by rfl) (by rfl) (fun s e=>recFacts_of (Bool.and_eq_true_iff.mp e).2) (by rfl) (by first | assumption | decide +kernel) (by nofun) ⟨rfl,rfl,rfl,rfl,rfl,by nofun⟩ ?hw ?hc
 case hw=>w_witness2
 refine L2.walk_ofY (obs:=K37.obs) (due:=K37.due) (l:=PySem.Challenge.rw_gainroads_k37_deeds_of_roads) (n:=63) (k:=40) (x := "_law_script") (CX:=L2.CX0) (sp:=K37.spLaw) rfl (by decide) rfl ⟨rfl,by decide,by decide,rfl⟩ ?F ?S ?C
 case F=>
  intro K w mg fa h y KX G hmg
  obtain ⟨T,hb⟩:=K37.txt_of y KX G
  have e0:=hmg.symm.trans T.law_.m
  cases e0
  exact ⟨T.law_.d,hb,fun base kb nb=>K37.law_ok T⟩
 case S=>exact fun K H a ns hl hO hS=>K37.law_start hl hO hS
 case C=>exact fun _ _ _ _ z=>z
