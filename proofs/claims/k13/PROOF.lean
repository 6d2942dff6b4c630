import PyProof.Rows.All
import Wide.All
import OpenK.AllK
import Wide.FinOn
import Lean
import PyProof.EqAt
import PyProof.EqKinds
import PyProof.TupleCall
import PyProof.CompFree
import PyProof.CompMap
import KE.LcSums
import PyProof.ZipIter
import PyProof.Draws
import KE.KRevSl
import KE.KListMore
import PyProof.Rows.StrJoin2
import PyProof.Rows.StrFin3
import PyProof.StrOps2
import PyProof.NeData
import PyProof.P3Eq
import PyProof.StrLawsRepr
import PyProof.ReprLen
import PyProof.Rows.IntBool
import PyProof.SliceStr2
import PyProof.P3In
import PyProof.Rows.StrLen
import KE.KStrOpen
import PyProof.FitsInt
import PyProof.Rows.ReprOcc
import PyProof.ListRange
import PyProof.AttrMissHeap
import PyProof.FactsAll.zip
import PyProof.FactsAll.tuple_3
import KE.KDictOf
import PyProof.SeqRoads2
import PyProof.DictCompW
import PyProof.Rows.StrInSeq3
import OpenK.KOwn
import KE.KIsAll
import KE.KTryMore
import PyProof.StationsW
import PyProof.RulesAs
import PyProof.NsDelKeeps
import PySem.Challenge.RW_gainroads_k13_greatest_gains_and_best_wa
set_option Elab.async false
set_option linter.all false
set_option maxRecDepth 100000
set_option genSizeOf false
set_option genInjectivity false
namespace L2
inductive aW {α0 α1:Type} (p:α0→α1→Prop):Prop
 | mk (a0:α0) (a1:α1) (h:p a0 a1)
inductive eH {α0 α1 α2:Type} (p:α0→α1→α2→Prop):Prop
 | mk (a0:α0) (a1:α1) (a2:α2) (h:p a0 a1 a2)
inductive kQ {α0 α1 α2 α3:Type} (p:α0→α1→α2→α3→Prop):Prop
 | mk (a0:α0) (a1:α1) (a2:α2) (a3:α3) (h:p a0 a1 a2 a3)
inductive yC {α0 α1 α2 α3 α4:Type} (p:α0→α1→α2→α3→α4→Prop):Prop
 | mk (a0:α0) (a1:α1) (a2:α2) (a3:α3) (a4:α4) (h:p a0 a1 a2 a3 a4)
inductive yx {α0 α1 α2 α3 α4 α5:Type} (p:α0→α1→α2→α3→α4→α5→Prop):Prop
 | mk (a0:α0) (a1:α1) (a2:α2) (a3:α3) (a4:α4) (a5:α5) (h:p a0 a1 a2 a3 a4 a5)
inductive Jm {α0 α1 α2 α3 α4 α5 α6:Type} (p:α0→α1→α2→α3→α4→α5→α6→Prop):Prop
 | mk (a0:α0) (a1:α1) (a2:α2) (a3:α3) (a4:α4) (a5:α5) (a6:α6) (h:p a0 a1 a2 a3 a4 a5 a6)
inductive CS {α0 α1 α2 α3 α4 α5 α6 α7:Type} (p:α0→α1→α2→α3→α4→α5→α6→α7→Prop):Prop
 | mk (a0:α0) (a1:α1) (a2:α2) (a3:α3) (a4:α4) (a5:α5) (a6:α6) (a7:α7) (h:p a0 a1 a2 a3 a4 a5 a6 a7)
inductive Gz {α0 α1 α2 α3 α4 α5 α6 α7 α8:Type} (p:α0→α1→α2→α3→α4→α5→α6→α7→α8→Prop):Prop
 | mk (a0:α0) (a1:α1) (a2:α2) (a3:α3) (a4:α4) (a5:α5) (a6:α6) (a7:α7) (a8:α8) (h:p a0 a1 a2 a3 a4 a5 a6 a7 a8)
end L2
set_option genSizeOf true
set_option genInjectivity true
local macro_rules | `(tactic| trivial)=>`(tactic| first | lia | omega)
namespace L2
open PySem PySem.Spec PyProof.Rows
abbrev aJ:=Sum Int Str
def f7:aJ→Value→Bool
 | .inl k,v=>Value.isInt k v
 | .inr x,v=>Value.isStrOf x v
def II (w:World):aJ→Int
 | .inl k=>hashInt k
 | .inr x=>hashStr w x
theorem db:∀{k:aJ}{v:Value},f7 k v=true→(aW fun i t=>k=Sum.inl i∧v=Value.int i t)∨(aW fun x t=>k=Sum.inr x∧v=Value.str x t)
 | .inl i,v,h=>by
  obtain ⟨t,e⟩:=Value.isInt_shape (k:=i) (v:=v) h
  exact .inl ⟨i,t,rfl,e⟩
 | .inr x,v,h=>by
  obtain ⟨t,e⟩:=Value.isStrOf_shape (x:=x) (v:=v) h
  exact .inr ⟨x,t,rfl,e⟩
theorem Aa (i:Int) (t:Tok):f7 (.inl i) (.int i t)=true:=by simp [f7,Value.isInt]
theorem AX (x:Str) (t:Tok):f7 (.inr x) (.str x t)=true:=by simp [f7,Value.isStrOf]
theorem Gr (a b:Int):decide ((Sum.inl a:aJ)=Sum.inl b)=(a==b):=by
 by_cases e:a=b
 ·subst e;simp
 ·have h:¬(Sum.inl a:aJ)=Sum.inl b:=fun q=>e (Sum.inl.inj q)
  rw [decide_eq_false h]
  exact (beq_eq_false_iff_ne.mpr e).symm
theorem Gp (a b:Str):decide ((Sum.inr a:aJ)=Sum.inr b)=decide (a=b):=by
 by_cases e:a=b
 ·subst e;simp
 ·have h:¬(Sum.inr a:aJ)=Sum.inr b:=fun q=>e (Sum.inr.inj q)
  rw [decide_eq_false h,decide_eq_false e]
theorem Fw (a:Int) (b:Str):decide ((Sum.inl a:aJ)=Sum.inr b)=false:=decide_eq_false (fun q=>nomatch q)
theorem FP (a:Str) (b:Int):decide ((Sum.inr a:aJ)=Sum.inl b)=false:=decide_eq_false (fun q=>nomatch q)
def bI (prog:Program) (w:World):PySem.KeyKind prog w aJ where
 is:=f7
 hash:=II w
 inj:=fun v a b ha hb=>by
  rcases db ha with ⟨i,t,rfl,rfl⟩ | ⟨x,t,rfl,rfl⟩
  ·rcases db hb with ⟨j,u,rfl,e⟩ | ⟨y,u,rfl,e⟩
   ·injection e with e1 _;rw [e1]
   ·exact nomatch e
  ·rcases db hb with ⟨j,u,rfl,e⟩ | ⟨y,u,rfl,e⟩
   ·exact nomatch e
   ·injection e with e1 _;rw [e1]
 byValue:=fun k v h=>by
  rcases db h with ⟨i,t,rfl,rfl⟩ | ⟨x,t,rfl,rfl⟩ <;> rfl
 pyHash:=fun hv h=>by
  rcases db hv with ⟨i,t,rfl,rfl⟩ | ⟨x,t,rfl,rfl⟩
  ·exact wpAny_pyHash_int h
  ·exact wpAny_pyHash_str h
 eqBool:=fun hu hv h=>by
  rcases db hu with ⟨i,t,rfl,rfl⟩ | ⟨x,t,rfl,rfl⟩
  ·rcases db hv with ⟨j,u,rfl,rfl⟩ | ⟨y,u,rfl,rfl⟩
   ·rw [Gr] at h;exact wpAny_eqBool_int h
   ·rw [Fw] at h;exact SeqAt.EqAt.int_str i t y u _ _ _ _ h
  ·rcases db hv with ⟨j,u,rfl,rfl⟩ | ⟨y,u,rfl,rfl⟩
   ·rw [FP] at h;exact SeqAt.EqAt.str_int x t j u _ _ _ _ h
   ·rw [Gp] at h;exact wpAny_eqBool_str h
 «strs»:=fun k x t v h=>by
  rcases db h with ⟨i,u,rfl,e⟩ | ⟨y,u,rfl,e⟩
  ·exact nomatch e
  ·injection e with e1 _
   subst e1
   cases v <;> rfl
end L2
namespace L2
open PySem PySem.Spec PyProof.Rows
inductive V where
 | non | bl (b:Bool) | int (i:Int) | str (x:Str) | byt (b:Array UInt8) | flt (b:UInt64) | ref (a:Addr) | ty (n:String)
 deriving DecidableEq
def aQ:V→Value→Prop
 | .non,u=>u=Value.none
 | .bl b,u=>u=Value.bool b
 | .int i,u=>∃t,u=Value.int i t
 | .str x,u=>∃t,u=Value.str x t
 | .byt b,u=>∃t,u=Value.bytes b t
 | .flt b,u=>∃t,u=Value.float b t
 | .ref a,u=>u=Value.ref a
 | .ty n,u=>u=Value.type n
abbrev aC:List V→List Value→Prop:=Paired aQ
theorem aC.length {xs:List V}{us:List Value} (r:aC xs us):xs.length=us.length:=Paired.length r
theorem aC.get:∀{xs:List V}{us:List Value}{i:Nat}{x:V},aC xs us→xs[i]?=some x→∃u,us[i]?=some u∧aQ x u
 | _,_,_,_,.nil,e=>by simp at e
 | _,_,0,_,.cons r _,e=>by simp at e;subst e;exact ⟨_,rfl,r⟩
 | _,_,i+1,x,.cons _ t,e=>by
  obtain ⟨u,h1,h2⟩:=aC.get (i:=i) (x:=x) t (by simpa using e)
  exact ⟨u,by simpa using h1,h2⟩
theorem aC.set {x:V}{u:Value} (r:aQ x u):∀{xs:List V}{us:List Value} (i:Nat),aC xs us→aC (xs.set i x) (us.set i u)
 | _,_,_,.nil=>.nil
 | _,_,0,.cons _ t=>.cons r t
 | _,_,i+1,.cons q t=>.cons q (aC.set r i t)
theorem aC.append:∀{xs ys:List V}{us ws:List Value},aC xs us→aC ys ws→aC (xs++ys) (us++ws)
 | _,_,_,_,.nil,s=>s
 | _,_,_,_,.cons r t,s=>.cons r (aC.append t s)
theorem aC.take:∀{xs:List V}{us:List Value} (n:Nat),aC xs us→aC (xs.take n) (us.take n)
 | _,_,0,_=>.nil
 | _,_,_+1,.nil=>.nil
 | _,_,n+1,.cons r t=>.cons r (aC.take n t)
theorem aC.drop:∀{xs:List V}{us:List Value} (n:Nat),aC xs us→aC (xs.drop n) (us.drop n)
 | _,_,0,r=>r
 | _,_,_+1,.nil=>.nil
 | _,_,n+1,.cons _ t=>aC.drop n t
def qK:Option V→Option Value→Prop
 | some v,some u=>aQ v u
 | none,none=>True
 | _,_=>False
def KV {κ:Type}:List (κ×V)→List (κ×Value)→Prop:=Paired fun (p:κ×V) (q:κ×Value)=>p.1=q.1∧aQ p.2 q.2
def kV:aJ→V
 | .inl i=>.int i
 | .inr x=>.str x
inductive HO where
 | lst (xs:List V)
 | tup (xs:List V)
 | dK (kvs:List (aJ×V)) | dT (kvs:List (List aJ×V))
 | set (S:Int→Bool) (n:Nat)
 | ins (C dx:Addr) (fs:List (Str×V))
 | own (x:Addr)
 | xd (fs:List (Str×V))
 | met (f x:Addr)
 | rng (lo hi:Int)
 | frz (o:Obj) (u:HO)
 | tbl (ps:Array Value)
 | ext (φ:Heap→Prop)
abbrev Hp:=Addr→Option HO
def aD (H:Hp) (a:Addr) (o:HO):Hp:=fun b=>if b=a then some o else H b
theorem ar {H:Hp}{a:Addr}{o:HO}:aD H a o a=some o:=by unfold aD;rw [if_pos rfl]
theorem aj {H:Hp}{a b:Addr}{o:HO} (h:b≠a):aD H a o b=H b:=by unfold aD;rw [if_neg h]
theorem Cz {H:Hp}{a b:Addr}{o u:HO} (h:H a=some o) (h':H b=some u) (d:o≠u):a≠b:=by
 intro e;subst e;rw [h] at h';exact d (Option.some.inj h')
theorem aR {H:Hp}{a b:Addr}{o:HO} (h:H a=some o) (h':H b=none):a≠b:=by
 intro e;subst e;rw [h] at h';cases h'
section
variable (P:Program) (w:World)
def aV (H:Hp) (h:Heap) (a:Addr):HO→Prop
 | .lst xs=>xs.length≤sizeLine∧aW fun (its:List Value) (n:Nat)=>aC xs its∧h.get? a=some { cls:=.type "list",data:=.seq its.toArray n }
 | .tup xs=>xs.length≤sizeLine∧∃its:List Value,aC xs its∧IsTup h a its.toArray∧∃o,h.get? a=some o∧o.dict=none
 | .dK kvs=>kvs.length≤sizeLine∧(a==sysModules)=false∧∃vs,KV kvs vs∧h.DictOf (bI P w) a vs
 | .dT kvs=>kvs.length≤sizeLine∧(a==sysModules)=false∧∃xs:List (List aJ×Addr×Value),
  Paired (fun (p:List aJ×V) (q:List aJ×Addr×Value)=>p.1=q.1∧H q.2.1=some (.tup (p.1.map kV))∧aQ p.2 q.2.2) kvs xs∧
  eH fun o es ep=>h.get? a=some o∧o.ExactDict∧o.data=.dict es ep∧es.toList=xs.map (entryOfKey (tupleKind (bI P w)))∧(xs.map (·.1)).Nodup
 | .set S n=>h.SetOf (intKind P w) a S n
 | .ins C dx fs=>H dx=some (.own a)∧fs.length≤1000∧dx≠a∧h.get? a=some (PySem.W.instObj C dx)∧
  ∃mA,h.Ns1 dx mA∧(∀f,qK (fs.lookup f) (mA f))∧PySem.Within mA (fs.map (·.1))
 | .own _=>∃o,h.get? a=some o
 | .xd fs=>∃mA,h.Ns1 a mA∧∀f,qK (fs.lookup f) (mA f)
 | .rng lo hi=>eH fun t u v=>h.get? a=some { cls:=.type "range",data:=.fields #[.int lo t,.int hi u,.int 1 v] }
 | .frz o u=>h.get? a=some o∧aV H h a u
 | .tbl ps=>h.get? a=some { cls:=.none,data:=.fields ps }
 | .met f x=>h.get? a=some (PySem.W.methodObj (.ref f) (.ref x))
 | .ext φ=>φ h∧(∃o,h.get? a=some o)∧∀h1 h2:Heap,φ h1→(∀o,h1.get? a=some o→h2.get? a=some o)→φ h2
def dL (H:Hp) (h:Heap):Prop:=∀a o,H a=some o→aV P w H h a o
end
section
variable {P:Program}{w:World}{H H':Hp}{h h':Heap}{a:Addr}{o:HO}
theorem aV.lt (x:aV P w H h a o):a<h.objs.size:=by
 cases o with
 | lst xs=>obtain ⟨_,_,_,_,e⟩:=x;exact Heap.lt_size e
 | tup xs=>obtain ⟨_,_,_,p,_⟩:=x;exact p.lt
 | dK kvs=>obtain ⟨_,_,_,_,o,_,_,e,_⟩:=x;exact Heap.lt_size e
 | dT kvs=>obtain ⟨_,_,_,_,o,_,_,e,_⟩:=x;exact Heap.lt_size e
 | set S n=>obtain ⟨o,_,_,_,e,_⟩:=x;exact Heap.lt_size e
 | ins C dx fs=>obtain ⟨_,_,_,e,_⟩:=x;exact Heap.lt_size e
 | own y=>obtain ⟨_,e⟩:=x;exact Heap.lt_size e
 | xd fs=>obtain ⟨_,⟨_,_,_,e,_⟩,_⟩:=x;exact Heap.lt_size e
 | rng lo hi=>obtain ⟨_,_,_,e⟩:=x;exact Heap.lt_size e
 | frz ob u=>obtain ⟨e,_⟩:=x;exact Heap.lt_size e
 | tbl ps=>exact Heap.lt_size (show h.get? a=some _ from x)
 | met f y=>exact Heap.lt_size (show h.get? a=some _ from x)
 | ext φ=>obtain ⟨_,⟨_,e⟩,_⟩:=x;exact Heap.lt_size e
theorem Paired.mapP {α β:Type}{F G:α→β→Prop}:∀{l₁:List α}{l₂:List β},Paired F l₁ l₂→(∀a b,F a b→G a b)→Paired G l₁ l₂
 | _,_,.nil,_=>.nil
 | _,_,.cons r t,f=>.cons (f _ _ r) (Paired.mapP t f)
theorem aV.stay (x:aV P w H h a o) (k:∀b u,(b=a∨H b=some (.own a))→h.get? b=some u→h'.get? b=some u)
 (ho:∀b,H b=some (.own a)→H' b=some (.own a)) (ht:∀b xs,H b=some (.tup xs)→H' b=some (.tup xs)):aV P w H' h' a o:=by
 induction o with
 | lst xs=>obtain ⟨z,its,n,r,e⟩:=x;exact ⟨z,its,n,r,k _ _ (.inl rfl) e⟩
 | tup xs=>obtain ⟨z,its,r,⟨ob,e,c⟩,od,e',c'⟩:=x;exact ⟨z,its,r,⟨ob,k _ _ (.inl rfl) e,c⟩,od,k _ _ (.inl rfl) e',c'⟩
 | dK kvs=>obtain ⟨z,y,vs,r,ob,es,ep,e,c⟩:=x;exact ⟨z,y,vs,r,ob,es,ep,k _ _ (.inl rfl) e,c⟩
 | dT kvs=>
  obtain ⟨z,y,xs,r,ob,es,ep,e,c⟩:=x
  exact ⟨z,y,xs,Paired.mapP r fun p q z=>⟨z.1,ht _ _ z.2.1,z.2.2⟩,ob,es,ep,k _ _ (.inl rfl) e,c⟩
 | set S n=>obtain ⟨ob,es,ep,t,e,c⟩:=x;exact ⟨ob,es,ep,t,k _ _ (.inl rfl) e,c⟩
 | ins C dx fs=>
  obtain ⟨d,z,ne,e,mA,⟨od,es,ep,e2,c⟩,r⟩:=x
  exact ⟨ho _ d,z,ne,k _ _ (.inl rfl) e,mA,⟨od,es,ep,k _ _ (.inr d) e2,c⟩,r⟩
 | own y=>obtain ⟨ob,e⟩:=x;exact ⟨ob,k _ _ (.inl rfl) e⟩
 | xd fs=>obtain ⟨mA,⟨od,es,ep,e,c⟩,r⟩:=x;exact ⟨mA,⟨od,es,ep,k _ _ (.inl rfl) e,c⟩,r⟩
 | rng lo hi=>obtain ⟨t,u,v,e⟩:=x;exact ⟨t,u,v,k _ _ (.inl rfl) e⟩
 | frz ob u ih=>obtain ⟨e,q⟩:=x;exact ⟨k _ _ (.inl rfl) e,ih q⟩
 | tbl ps=>
  have e:h.get? a=some { cls:=.none,data:=.fields ps }:=x
  show h'.get? a=some { cls:=.none,data:=.fields ps }
  exact k a _ (.inl rfl) e
 | met f y=>
  have e:h.get? a=some (PySem.W.methodObj (.ref f) (.ref y)):=x
  show h'.get? a=some (PySem.W.methodObj (.ref f) (.ref y))
  exact k a _ (.inl rfl) e
 | ext φ=>obtain ⟨p,⟨o,e⟩,st⟩:=x;exact ⟨st _ _ p fun o q=>k _ _ (.inl rfl) q,⟨o,k _ _ (.inl rfl) e⟩,st⟩
theorem dL.lt (x:dL P w H h) (e:H a=some o):a<h.objs.size:=(x a o e).lt
theorem dL.fresh (x:dL P w H h) (e:h.objs.size≤a):H a=none:=by
 cases q:H a with
 | none=>rfl
 | some u=>exact absurd (Nat.lt_of_lt_of_le (x.lt q) e) (Nat.lt_irrefl _)
theorem dL.kept (x:dL P w H h) (k:∀b u,h.get? b=some u→h'.get? b=some u):dL P w H h':=fun a o e=>
 (x a o e).stay (fun b u _ q=>k b u q) (fun _ q=>q) fun _ _ q=>q
theorem dL.laid (x:dL P w H h) (k:∀b u,h.get? b=some u→h'.get? b=some u) (hp:h.objs.size≤a) (new:aV P w (aD H a o) h' a o):dL P w (aD H a o) h':=fun b u e=>by
 have hn:=x.fresh hp
 by_cases hb:b=a
 ·subst hb;rw [ar] at e;cases e;exact new
 ·rw [aj hb] at e
  exact (x b u e).stay (fun c v _ q=>k c v q) (fun c q=>by rw [aj (aR q hn)];exact q) fun c xs q=>by rw [aj (aR q hn)];exact q
end
def Rd (H:Hp) (a:Addr) (u:HO):Prop:=H a=some u∨∃o,H a=some (.frz o u)
theorem Rd.ok {P:Program}{w:World}{H:Hp}{h:Heap}{a:Addr}{u:HO} (r:Rd H a u) (x:dL P w H h):aV P w H h a u:=by
 rcases r with r | ⟨o,r⟩
 ·exact x a u r
 ·obtain ⟨_,q⟩:=x a _ r
  exact q
def CZ:Option HO→Prop
 | some (.lst _)=>True
 | some (.dK _)=>True
 | some (.dT _)=>True
 | some (.set _ _)=>True
 | some (.ins _ _ _)=>True
 | some (.ext _)=>True
 | _=>False
section
variable {P:Program}{w:World}{H:Hp}{h h':Heap}{x e:Addr}{o':HO}
theorem dL.write (ok:dL P w H h) (mu:CZ (H x)) (he:e=x∨H e=some (.own x)) (k:∀b u,b≠e→h.get? b=some u→h'.get? b=some u) (heo:∃u,h'.get? e=some u)
 (new:aV P w (aD H x o') h' x o'):dL P w (aD H x o') h':=fun b u q=>by
 have nown:∀c y,H c=some (.own y)→c≠x:=fun c y r z=>by subst z;rw [r] at mu;exact mu
 have ntup:∀c xs,H c=some (.tup xs)→c≠x:=fun c xs r z=>by subst z;rw [r] at mu;exact mu
 by_cases hb:b=x
 ·subst hb;rw [ar] at q;cases q;exact new
 ·rw [aj hb] at q
  by_cases hbe:b=e
  ·have q':H b=some (.own x):=by
    rcases he with z | z
    ·exact absurd (hbe.trans z) hb
    ·rw [hbe];exact z
   rw [q] at q';cases q'
   obtain ⟨v,hv⟩:=heo
   exact ⟨v,by rw [hbe];exact hv⟩
  ·refine (ok b u q).stay (fun c v hc r=>k c v ?_ r) (fun c r=>by rw [aj (nown c b r)];exact r) fun c xs r=>by rw [aj (ntup c xs r)];exact r
   rcases hc with rfl | hc
   ·exact hbe
   ·rintro rfl
    rcases he with z | z
    ·exact nown c b hc z
    ·rw [hc] at z;cases z;exact hb rfl
end
structure Un (fs ex:List Addr) (H H':Hp) (h h':Heap):Prop where
 keep:∀b o,h.get? b=some o→H b=none→b∉fs→b∉ex→h'.get? b=some o
 slot:∀b o,h.get? b=some o→H b=none→b∈fs→b∉ex→∃sl,h'.get? b=some { o with slots:=sl }
 free:∀b o,h.get? b=some o→H b=none→b∉ex→H' b=none
 there:∀b o,h.get? b=some o→b∉ex→∃o',h'.get? b=some o'
 tups:∀b xs,H b=some (.tup xs)→H' b=some (.tup xs)
 frzs:∀b o u,H b=some (.frz o u)→H' b=some (.frz o u)
 tbls:∀b ps,H b=some (.tbl ps)→∃more,H' b=some (.tbl (ps++more))
section
variable {fs fs' ex ex':List Addr}{H H1 H2:Hp}{h h1 h2 h':Heap}{a x e:Addr}{o:HO}
theorem Un.any (u:Un fs ex H H1 h h1) {b:Addr}{ob:Obj} (q:h.get? b=some ob) (n:H b=none) (hx:b∉ex):∃sl,h1.get? b=some { ob with slots:=sl }:=by
 by_cases hb:b∈fs
 ·exact u.slot b ob q n hb hx
 ·exact ⟨ob.slots,u.keep b ob q n hb hx⟩
theorem Un.kept (k:∀b u,h.get? b=some u→h'.get? b=some u):Un fs ex H H h h':=
 ⟨fun b ob q _ _ _=>k b ob q,fun b ob q _ _ _=>⟨ob.slots,k b ob q⟩,fun _ _ _ n _=>n,fun b ob q _=>⟨ob,k b ob q⟩,fun _ _ q=>q,fun _ _ _ q=>q,fun _ ps q=>⟨#[],by rw [q];simp⟩⟩
theorem Un.refl:Un fs ex H H h h:=Un.kept fun _ _ q=>q
theorem Un.laid (k:∀b u,h.get? b=some u→h'.get? b=some u) (hp:h.objs.size≤a) (hn:H a=none):Un fs ex H (aD H a o) h h' where
 keep:=fun b u q _ _ _=>k b u q
 slot:=fun b u q _ _ _=>⟨u.slots,k b u q⟩
 free:=fun b u q n _=>by rw [aj (Nat.ne_of_lt (Nat.lt_of_lt_of_le (Heap.lt_size q) hp))];exact n
 there:=fun b u q _=>⟨u,k b u q⟩
 tups:=fun b xs q=>by rw [aj (aR q hn)];exact q
 frzs:=fun b u xs q=>by rw [aj (aR q hn)];exact q
 tbls:=fun b ps q=>⟨#[],by rw [aj (aR q hn),q];simp⟩
theorem Un.write (mu:CZ (H x)) (he:e=x∨H e=some (.own x)) (k:∀b u,b≠e→h.get? b=some u→h'.get? b=some u) (heo:∃u,h'.get? e=some u):Un fs ex H (aD H x o) h h':=by
 have hx:∀b,H b=none→b≠x:=fun b n z=>by subst z;rw [n] at mu;exact mu
 have hb:∀b,H b=none→b≠e:=fun b n z=>by
  subst z
  rcases he with r | r
  ·exact hx b n r
  ·rw [n] at r;cases r
 have hm:∀b u,H b=some u→¬CZ (some u)→b≠x:=fun b u q nm z=>by subst z;rw [q] at mu;exact nm mu
 refine ⟨fun b u q n _ _=>k b u (hb b n) q,fun b u q n _ _=>⟨u.slots,k b u (hb b n) q⟩,fun b u q n _=>by rw [aj (hx b n)];exact n,fun b u q _=>?_,
  fun b xs q=>by rw [aj (hm b _ q fun z=>z)];exact q,fun b u xs q=>by rw [aj (hm b _ q fun z=>z)];exact q,fun b ps q=>⟨#[],by rw [aj (hm b _ q fun z=>z),q];simp⟩⟩
 by_cases hbe:b=e
 ·subst hbe;exact heo
 ·exact ⟨u,k b u hbe q⟩
end
def CB (h:Heap) (H:Hp):List Addr:=(List.range h.objs.size).filter fun a=>(H a).isSome
def pE (h:Heap) (H:Hp):Heap:=PySem.W.hideAll h (CB h H)
theorem AQ (h:Heap) (H:Hp):(pE h H).objs.size=h.objs.size:=PySem.W.hideAll_size _ _
theorem Bv {h:Heap}{H:Hp}{b:Addr}{o:Obj} (e:h.get? b=some o) (n:H b=none):(pE h H).get? b=some o:=
 PySem.W.hideAll_get _ e fun hm=>by
  have q:(H b).isSome=true:=(List.mem_filter.mp hm).2
  rw [n] at q;simp at q
theorem Dv {h:Heap}{H:Hp}{b:Addr}{o:Obj} (e:(pE h H).get? b=some o):h.get? b=some o∧H b=none:=by
 have e':h.get? b=some o:=PySem.W.of_hideAll (CB h H) e
 refine ⟨e',?_⟩
 cases q:H b with
 | none=>rfl
 | some x=>
  have hm:b∈CB h H:=List.mem_filter.mpr ⟨List.mem_range.mpr (Heap.lt_size e'),by simp [q]⟩
  have z:(pE h H).get? b=none:=PySem.W.hideAll_none (CB h H) hm
  rw [z] at e;cases e
end L2
namespace L2
open PySem PySem.Spec PyProof.Rows
structure Mod (K:PySem.W.Frag) (mg:Str→Option Value) (base:Heap):Prop where
 kin:K.In base
 glob:base.Ns mainGlobals mg
 blt:∃mb,base.Ns builtinsNs mb∧∀x:Str,x≠"__name__"→mb x=bootBuiltins x
 nolimit:base.NoLimit
structure Cx where
 prog:Program
 w:World
 K:PySem.W.Frag
 mg:Str→Option Value
 base:Heap
 A:Around
 N:List Str
 s₀:Shared
 H₀:Hp
 env:Env
 outer:List Env
 stack:List Env
 ex:List Addr
 fn:Str→Bool
 calm:Bool
 pn:List (Addr×Obj)
 xe:Value→Shared→Prop
def gI (l:List Env):List Addr:=l.filterMap (·.frame)
abbrev Cx.fs (X:Cx):List Addr:=gI X.outer
def Ay (sc:Scope) (x:Str):Prop:=sc.names.lookup x=some .local∨sc.names.lookup x=some .cell∨sc.names.lookup x=some .free
def CH (sc:Scope) (x:Str):Prop:=sc.names.lookup x=some .local∨sc.names.lookup x=some .cell
def GC (env:Env) (h:Heap) (m:Str→Option Value) (x:Str) (u:Value):Prop:=
 (env.kindOf x=some .local∧m x=some u)∨((env.kindOf x=some .cell∨env.kindOf x=some .free)∧∃c,env.cells.lookup x=some c∧h.IsCell c (some u))
structure Cx.Ok (X:Cx):Prop where
 mod:Mod X.K X.mg X.base
 kind:X.env.scope.kind=.function
 glob:X.env.globals=mainGlobals
 blt:X.env.builtins=builtinsNs
 above:X.s₀.heap.objs.size≤X.env.locals
 inj:∀x y c,X.env.cells.lookup x=some c→X.env.cells.lookup y=some c→x=y
 has:∀x,(X.env.kindOf x=some .cell∨X.env.kindOf x=some .free)→∃c,X.env.cells.lookup x=some c
 cab:∀x c,X.fn x=true→X.env.cells.lookup x=some c→X.s₀.heap.objs.size≤c
 hd:X.calm=true→X.A.handled=none
 frames:X.A.frames=some X.stack
 stk:X.stack=X.outer∨(X.stack=X.env :: X.outer∧X.env.frame=some X.env.locals)
 exf:∀b∈X.ex,b≠X.env.locals∧∀x c,X.env.cells.lookup x=some c→c≠b
 bs:∀b o,X.base.get? b=some o→X.s₀.heap.get? b=some o∧X.H₀ b=none
 bsz:X.base.objs.size≤X.s₀.heap.objs.size
 noex:∀b o,X.base.get? b=some o→b∉X.ex
 exfs:∀b∈X.ex,b∉X.fs
 funs:X.s₀.heap.FunFrames X.base X.outer
 frf:∀b∈X.fs,X.H₀ b=none
structure ac (X:Cx) (pins:List (Addr×Obj)) (σ:List (Option V)) (H:Hp) (s:Shared):Prop where
 ok:X.Ok
 os:s.os=X.s₀.os
 bare:AllBare s.gens
 base:Un X.fs X.ex X.H₀ H X.s₀.heap s.heap
 loc:∃m,s.heap.Ns X.env.locals m∧∀(i:Nat) (x:Str) (v:V),X.N[i]?=some x→σ[i]?=some (some v)→Ay X.env.scope x→∃u,aQ v u∧GC X.env s.heap m x u
 cell:∀x c,X.env.cells.lookup x=some c→∃v,s.heap.IsCell c v
 free:H X.env.locals=none
 freeC:∀x c,X.env.cells.lookup x=some c→H c=none
 pin:∀p∈X.pn++pins,s.heap.get? p.1=some p.2∧H p.1=none∧p.1≠X.env.locals∧p.1∉X.fs∧∀v,p.2.data≠.cell v
 hok:dL X.prog X.w H s.heap
 len:σ.length=X.N.length
section
variable {X:Cx}{pins:List (Addr×Obj)}{σ:List (Option V)}{H H':Hp}{s:Shared}{h':Heap}
theorem Cx.Ok.nofr (ok:X.Ok) {b:Addr}{o:Obj} (e:X.base.get? b=some o):b∉X.fs:=fun hb=>by
 have:=(ok.funs.mem hb).1
 rw [e] at this;cases this
theorem ac.bs (I:ac X pins σ H s):∀b o,X.base.get? b=some o→s.heap.get? b=some o∧H b=none:=fun b o e=>
 ⟨I.base.keep b o (I.ok.bs b o e).1 (I.ok.bs b o e).2 (I.ok.nofr e) (I.ok.noex b o e),I.base.free b o (I.ok.bs b o e).1 (I.ok.bs b o e).2 (I.ok.noex b o e)⟩
theorem ac.bk (I:ac X pins σ H s):∀b o,X.base.get? b=some o→s.heap.get? b=some o:=fun b o e=>(I.bs b o e).1
theorem ac.mod (I:ac X pins σ H s):Mod X.K X.mg X.base:=I.ok.mod
theorem ac.kIn (I:ac X pins σ H s):X.K.In s.heap:=I.ok.mod.kin.keeps I.bk
theorem ac.lt (I:ac X pins σ H s):X.env.locals<s.heap.objs.size:=let ⟨_,hn,_⟩:=I.loc;hn.lt
theorem ac.sz (I:ac X pins σ H s):X.s₀.heap.objs.size≤s.heap.objs.size:=Nat.le_trans I.ok.above (Nat.le_of_lt I.lt)
theorem ac.nofs (I:ac X pins σ H s) {a:Addr} (h:s.heap.objs.size≤a):a∉X.fs:=fun hb=>by
 obtain ⟨_,o,ho,_⟩:=I.ok.funs.mem hb
 exact absurd (Nat.lt_of_lt_of_le (Heap.lt_size ho) (Nat.le_trans I.sz h)) (Nat.lt_irrefl _)
theorem ac.cne (I:ac X pins σ H s):∀x c,X.env.cells.lookup x=some c→c≠X.env.locals:=fun x c e z=>by
 obtain ⟨v,o,ho,hd⟩:=I.cell x c e
 obtain ⟨m,⟨o',es,ep,ho',hd',_⟩,_⟩:=I.loc
 rw [z,ho'] at ho;cases ho;rw [hd'] at hd;cases hd
theorem ac.funs (I:ac X pins σ H s):s.heap.FunFrames X.base X.outer:=by
 have all:∀(l:List Env),(∀b∈gI l,b∈X.fs)→X.s₀.heap.FunFrames X.base l→s.heap.FunFrames X.base l:=by
  intro l
  induction l with
  | nil=>intro _ _;trivial
  | cons env r ih=>
   intro hs hl
   obtain ⟨hk,⟨L,o,hf,hn,ho,hd⟩,hr⟩:=hl
   have hL:L∈X.fs:=hs L (by unfold gI;rw [List.filterMap_cons,hf];exact List.mem_cons_self)
   obtain ⟨sl,e⟩:=I.base.slot L o ho (I.ok.frf L hL) hL fun z=>I.ok.exfs L z hL
   exact ⟨hk,⟨L,_,hf,hn,e,hd⟩,ih (fun b hb=>hs b (by unfold gI;rw [List.filterMap_cons,hf];exact List.mem_cons_of_mem _ hb)) hr⟩
 exact all X.outer (fun _ hb=>hb) I.ok.funs
theorem ac.stack (I:ac X pins σ H s):s.heap.FunFrames X.base X.stack:=by
 rcases I.ok.stk with e | ⟨e,hf⟩
 ·rw [e];exact I.funs
 ·rw [e]
  obtain ⟨m,hn,_⟩:=I.loc
  refine .cons (by rw [I.ok.kind];decide) hf hn ?_ I.funs
  exact Heap.get?_none_of_le (Nat.le_trans I.ok.bsz I.ok.above)
theorem ac.stkSub (I:ac X pins σ H s):∀b∈gI X.stack,b∈X.env.locals :: X.fs:=fun b hb=>by
 rcases I.ok.stk with e | ⟨e,hf⟩
 ·rw [e] at hb;exact List.mem_cons_of_mem _ hb
 ·rw [e] at hb
  unfold gI at hb
  rw [List.filterMap_cons,hf] at hb
  exact hb
theorem ac.stkFree (I:ac X pins σ H s):∀b∈gI X.stack,H b=none:=fun b hb=>by
 rcases List.mem_cons.mp (I.stkSub b hb) with e | hb
 ·rw [e];exact I.free
 ·obtain ⟨_,o,ho,_⟩:=I.ok.funs.mem hb
  exact I.base.free b o ho (I.ok.frf b hb) fun z=>I.ok.exfs b z hb
theorem ac.step {g':Array GenState}{t':Nat}{d':Drawn}{ch:List Addr} (I:ac X pins σ H s)
 (hch:∀b∈ch,(b∈X.ex∨X.s₀.heap.objs.size≤b)∧b≠X.env.locals∧(∀x c,X.env.cells.lookup x=some c→c≠b)∧∀p∈X.pn++pins,p.1≠b)
 (keep:∀b o,b≠X.env.locals→b∉X.fs→b∉ch→s.heap.get? b=some o→H b=none→h'.get? b=some o)
 (slot:∀b o,b≠X.env.locals→b∈X.fs→b∉ch→s.heap.get? b=some o→H b=none→∃sl,h'.get? b=some { o with slots:=sl }) (free:∀b o,b∉ch→s.heap.get? b=some o→H b=none→H' b=none)
 (there:∀b o,b∉ch→s.heap.get? b=some o→∃o',h'.get? b=some o')
 (tups:∀b xs,H b=some (.tup xs)→H' b=some (.tup xs)) (frzs:∀b o u,H b=some (.frz o u)→H' b=some (.frz o u)) (tbls:∀b ps,H b=some (.tbl ps)→∃more,H' b=some (.tbl (ps++more)))
 (ns:∀m,s.heap.Ns X.env.locals m→h'.Ns X.env.locals m) (hok:dL X.prog X.w H' h') (hg:AllBare g') :
 ac X pins σ H' { s with heap:=h',gens:=g',drawn:=d',toks:=t' }:=by
 have neL:∀b o,X.s₀.heap.get? b=some o→b≠X.env.locals:=fun b o e=>Nat.ne_of_lt (Nat.lt_of_lt_of_le (Heap.lt_size e) I.ok.above)
 have neC:∀b o,X.s₀.heap.get? b=some o→b∉X.ex→b∉ch:=fun b o e hx hb=>by
  rcases (hch b hb).1 with z | z
  ·exact hx z
  ·exact absurd (Nat.lt_of_lt_of_le (Heap.lt_size e) z) (Nat.lt_irrefl _)
 have cellK:∀x c,X.env.cells.lookup x=some c→∀v,s.heap.IsCell c v→h'.IsCell c v:=fun x c e v ⟨o,ho,hd⟩=>by
  have nch:c∉ch:=fun z=>(hch c z).2.2.1 x c e rfl
  by_cases hc:c∈X.fs
  ·obtain ⟨sl,q⟩:=slot c o (I.cne x c e) hc nch ho (I.freeC x c e)
   exact ⟨_,q,hd⟩
  ·exact ⟨o,keep c o (I.cne x c e) hc nch ho (I.freeC x c e),hd⟩
 refine ⟨I.ok,I.os,hg,⟨fun b o e n hb hx=>?_,fun b o e n hb hx=>?_,fun b o e n hx=>?_,fun b o e hx=>?_,fun b xs e=>tups b xs (I.base.tups b xs e),fun b o xs e=>frzs b o xs (I.base.frzs b o xs e),fun b ps e=>?_⟩,?_,fun x c e=>?_,?_,fun x c e=>?_,fun p hp=>?_,hok,I.len⟩
 ·exact keep b o (neL b o e) hb (neC b o e hx) (I.base.keep b o e n hb hx) (I.base.free b o e n hx)
 ·obtain ⟨sl,e1⟩:=I.base.slot b o e n hb hx
  obtain ⟨sl',e2⟩:=slot b _ (neL b o e) hb (neC b o e hx) e1 (I.base.free b o e n hx)
  exact ⟨sl',e2⟩
 ·obtain ⟨o',e1⟩:=I.base.there b o e hx
  exact free b o' (neC b o e hx) e1 (I.base.free b o e n hx)
 ·obtain ⟨o',e1⟩:=I.base.there b o e hx
  exact there b o' (neC b o e hx) e1
 ·obtain ⟨m1,e1⟩:=I.base.tbls b ps e
  obtain ⟨m2,e2⟩:=tbls b _ e1
  exact ⟨m1++m2,by rw [e2,Array.append_assoc]⟩
 ·obtain ⟨m,hn,hl⟩:=I.loc
  refine ⟨m,ns m hn,fun i x v e1 e2 e3=>?_⟩
  obtain ⟨u,r,l⟩:=hl i x v e1 e2 e3
  refine ⟨u,r,?_⟩
  rcases l with l | ⟨k,c,e,z⟩
  ·exact .inl l
  ·exact .inr ⟨k,c,e,cellK x c e _ z⟩
 ·obtain ⟨v,z⟩:=I.cell x c e
  exact ⟨v,cellK x c e v z⟩
 ·obtain ⟨m,⟨o,_,_,ho,_⟩,_⟩:=I.loc
  exact free _ o (fun z=>(hch _ z).2.1 rfl) ho I.free
 ·obtain ⟨v,o,ho,hd⟩:=I.cell x c e
  exact free c o (fun z=>(hch c z).2.2.1 x c e rfl) ho (I.freeC x c e)
 ·obtain ⟨e,n,ne,nf,d⟩:=I.pin p hp
  have nch:p.1∉ch:=fun z=>(hch p.1 z).2.2.2 p hp rfl
  exact ⟨keep p.1 p.2 ne nf nch e n,free p.1 p.2 nch e n,ne,nf,d⟩
theorem ac.un {t':Nat} (I:ac X pins σ H s) (u:Un X.fs [] H H' s.heap h') (hok:dL X.prog X.w H' h'):ac X pins σ H' { s with heap:=h',toks:=t' }:=by
 obtain ⟨m,⟨o,es,ep,ho,r⟩,_⟩:=id I.loc
 obtain ⟨sl,hL⟩:=u.any ho I.free (by simp)
 exact I.step (g':=s.gens) (d':=s.drawn) (ch:=[]) (fun _ z=>nomatch z) (fun b o _ hb _ e n=>u.keep b o e n hb (by simp)) (fun b o _ hb _ e n=>u.slot b o e n hb (by simp)) (fun b o _ e n=>u.free b o e n (by simp)) (fun b o _ e=>u.there b o e (by simp)) u.tups u.frzs u.tbls (fun m' hm=>by
  obtain ⟨o',es',ep',ho',r'⟩:=hm
  rw [ho] at ho';cases ho'
  exact ⟨_,es',ep',hL,r'⟩) hok I.bare
theorem ac.call {g':Array GenState}{t':Nat}{d':Drawn}{ch:List Addr} (I:ac X pins σ H s) (u:Un (gI X.stack) ch H H' s.heap h') (hok:dL X.prog X.w H' h') (hg:AllBare g')
 (hch:∀b∈ch,(b∈X.ex∨X.s₀.heap.objs.size≤b)∧b≠X.env.locals∧(∀x c,X.env.cells.lookup x=some c→c≠b)∧∀p∈X.pn++pins,p.1≠b) :
 ac X pins σ H' { s with heap:=h',gens:=g',drawn:=d',toks:=t' }:=by
 obtain ⟨m,⟨o,es,ep,ho,r⟩,_⟩:=id I.loc
 obtain ⟨sl,hL⟩:=u.any ho I.free fun z=>(hch _ z).2.1 rfl
 exact I.step (ch:=ch) hch (fun b o hL hb hc e n=>u.keep b o e n (fun z=>(List.mem_cons.mp (I.stkSub b z)).elim hL hb) hc) (fun b o _ _ hc e n=>u.any e n hc) (fun b o hc e n=>u.free b o e n hc) (fun b o hc e=>u.there b o e hc) u.tups u.frzs u.tbls (fun m' hm=>by
  obtain ⟨o',es',ep',ho',r'⟩:=hm
  rw [ho] at ho';cases ho'
  exact ⟨_,es',ep',hL,r'⟩) hok hg
theorem ac.turned {t':Nat}{it:Addr} (I:ac X pins σ H s) (k:∀b o,b≠it→s.heap.get? b=some o→h'.get? b=some o) (hn:H it=none) (hL:it≠X.env.locals)
 (h1:it∈X.ex∨X.s₀.heap.objs.size≤it) (h2:∀x c,X.env.cells.lookup x=some c→c≠it) (h3:∀p∈X.pn++pins,p.1≠it):ac X pins σ H { s with heap:=h',toks:=t' }:=by
 have nit:∀b u,H b=some u→b≠it:=fun b u e z=>by rw [z,hn] at e;cases e
 refine I.step (g':=s.gens) (d':=s.drawn) (ch:=[it]) (fun b hb=>?_) (fun b o _ _ hc e _=>k b o (fun z=>hc (by simp [z])) e) (fun b o _ _ hc e _=>⟨o.slots,k b o (fun z=>hc (by simp [z])) e⟩) (fun _ _ _ _ n=>n)
  (fun b o hc e=>⟨o,k b o (fun z=>hc (by simp [z])) e⟩) (fun _ _ e=>e) (fun _ _ _ e=>e) (fun b ps e=>⟨#[],by rw [e];simp⟩) (fun m hm=>?_) (fun b u e=>?_) I.bare
 ·have e:b=it:=by simpa using hb
  subst e
  exact ⟨h1,hL,h2,h3⟩
 ·obtain ⟨o,es,ep,ho,r⟩:=hm
  exact ⟨o,es,ep,k _ o (Ne.symm hL) ho,r⟩
 ·refine (I.hok b u e).stay (fun c v hc q=>k c v ?_ q) (fun _ q=>q) fun _ _ q=>q
  rcases hc with z | z
  ·rw [z];exact nit b u e
  ·exact nit c _ z
theorem ac.tok (I:ac X pins σ H s) (t:Nat):ac X pins σ H { s with toks:=t }:=I.un (h':=s.heap) (t':=t) Un.refl I.hok
theorem ac.kept {t':Nat} (I:ac X pins σ H s) (k:∀b u,s.heap.get? b=some u→h'.get? b=some u):ac X pins σ H { s with heap:=h',toks:=t' }:=I.un (Un.kept k) (I.hok.kept k)
theorem ac.laid {a:Addr}{o:HO}{t':Nat} (I:ac X pins σ H s) (k:∀b u,s.heap.get? b=some u→h'.get? b=some u) (hp:s.heap.objs.size≤a) (new:aV X.prog X.w (aD H a o) h' a o) :
 ac X pins σ (aD H a o) { s with heap:=h',toks:=t' }:=I.un (Un.laid k hp (I.hok.fresh hp)) (I.hok.laid k hp new)
theorem ac.write {x e:Addr}{o:HO}{t':Nat} (I:ac X pins σ H s) (mu:CZ (H x)) (he:e=x∨H e=some (.own x)) (k:∀b u,b≠e→s.heap.get? b=some u→h'.get? b=some u) (heo:∃u,h'.get? e=some u)
 (new:aV X.prog X.w (aD H x o) h' x o):ac X pins σ (aD H x o) { s with heap:=h',toks:=t' }:=I.un (Un.write mu he k heo) (I.hok.write mu he k heo new)
theorem ac.weak {σ':List (Option V)} (I:ac X pins σ H s) (hl:σ'.length=σ.length) (w:∀(i:Nat) v,σ'[i]?=some (some v)→σ[i]?=some (some v)):ac X pins σ' H s:=
 ⟨I.ok,I.os,I.bare,I.base,let ⟨m,hn,hl'⟩:=I.loc;⟨m,hn,fun i x v e1 e2 e3=>hl' i x v e1 (w i v e2) e3⟩,I.cell,I.free,I.freeC,I.pin,I.hok,hl.trans I.len⟩
theorem ac.pins_of {pins':List (Addr×Obj)} (I:ac X pins σ H s) (h:∀p∈pins',s.heap.get? p.1=some p.2∧H p.1=none∧p.1≠X.env.locals∧p.1∉X.fs∧∀v,p.2.data≠.cell v):ac X pins' σ H s:=
 ⟨I.ok,I.os,I.bare,I.base,I.loc,I.cell,I.free,I.freeC,fun p hp=>(List.mem_append.mp hp).elim (fun z=>I.pin p (List.mem_append_left _ z)) (h p),I.hok,I.len⟩
theorem tI {N:List Str} (hN:N.Nodup) {i j:Nat}{x:Str} (a:N[i]?=some x) (b:N[j]?=some x):i=j:=by
 obtain ⟨h1,e1⟩:=List.getElem?_eq_some_iff.mp a
 obtain ⟨h2,e2⟩:=List.getElem?_eq_some_iff.mp b
 exact (List.getElem_inj hN).mp (e1.trans e2.symm)
theorem qC {M:Model}{A:Around}{E:Value→Shared→Prop}{i:Nat}{x:Str}{v:V}{u:Value}{Q:Unit→Shared→Prop} (I:ac X pins σ H s) (hN:X.N.Nodup) (hi:X.N[i]?=some x) (hx:CH X.env.scope x) (r:aQ v u)
 (h:∀s',ac X pins (σ.set i (some v)) H s'→(∃a,Heap.SameBut a s.heap s'.heap∧(a=X.env.locals∨X.env.cells.lookup x=some a))→Q () s') (hf:X.fn x=true∨X.env.scope.names.lookup x=some .local:=by first | exact .inl rfl | exact .inr rfl | assumption):wpAny M A (storeName X.env x u) Q E s:=by
 obtain ⟨m,hn,hl⟩:=id I.loc
 have hcls:(X.env.scope.kind==.class || (X.env.scope.kind==.module && X.env.locals != X.env.globals))=false:=by rw [I.ok.kind];rfl
 have hiσ:i<σ.length:=by rw [I.len];exact (List.getElem?_eq_some_iff.mp hi).1
 have cne:=I.cne
 have tracked:∀{a:Addr}{h':Heap},(∃o,s.heap.get? a=some o∧H a=none)→Heap.SameBut a s.heap h'→dL X.prog X.w H h':=fun {a h'} ha hs b ob e=>by
  obtain ⟨_,_,hfree⟩:=ha
  refine (I.hok b ob e).stay (fun c w' hc q=>(hs.2 c ?_).trans q) (fun _ q=>q) fun _ _ q=>q
  rintro rfl
  rcases hc with rfl | hc
  ·rw [hfree] at e;cases e
  ·rw [hfree] at hc;cases hc
 rcases hx with hk | hk
 ·refine wpAny_storeName_local hk hn (fun h' hn' hs=>?_) hcls
  obtain ⟨oL,_,_,hoL,_⟩:=id hn
  refine h _ ⟨I.ok,I.os,I.bare,⟨fun b o e n hb hx=>?_,fun b o e n hb hx=>?_,I.base.free,fun b o e hx=>?_,I.base.tups,I.base.frzs,I.base.tbls⟩,⟨_,hn',fun j y v' e1 e2 e3=>?_⟩,fun y c e=>?_,I.free,I.freeC,fun p hp=>?_,tracked ⟨oL,hoL,I.free⟩ hs,by simpa using I.len⟩ ⟨_,hs,.inl rfl⟩
  ·exact (hs.2 b (Nat.ne_of_lt (Nat.lt_of_lt_of_le (Heap.lt_size e) I.ok.above))).trans (I.base.keep b o e n hb hx)
  ·obtain ⟨sl,e1⟩:=I.base.slot b o e n hb hx
   exact ⟨sl,(hs.2 b (Nat.ne_of_lt (Nat.lt_of_lt_of_le (Heap.lt_size e) I.ok.above))).trans e1⟩
  ·obtain ⟨o',e1⟩:=I.base.there b o e hx
   exact ⟨o',(hs.2 b (Nat.ne_of_lt (Nat.lt_of_lt_of_le (Heap.lt_size e) I.ok.above))).trans e1⟩
  ·by_cases hj:j=i
   ·subst hj
    rw [hi] at e1;cases e1
    rw [List.getElem?_set_self hiσ] at e2
    cases e2
    exact ⟨u,r,.inl ⟨hk,by simp⟩⟩
   ·rw [List.getElem?_set_ne (Ne.symm hj)] at e2
    obtain ⟨u',r',q⟩:=hl j y v' e1 e2 e3
    refine ⟨u',r',?_⟩
    rcases q with ⟨k,e⟩ | ⟨k,c,e,z⟩
    ·refine .inl ⟨k,?_⟩
     have:y≠x:=fun e=>hj (tI hN e1 (e▸hi))
     simp [this,e]
    ·exact .inr ⟨k,c,e,z.sameBut hs (cne y c e)⟩
  ·obtain ⟨w',z⟩:=I.cell y c e
   exact ⟨w',z.sameBut hs (cne y c e)⟩
  ·obtain ⟨e,n,ne,nf,d⟩:=I.pin p hp
   exact ⟨(hs.2 p.1 ne).trans e,n,ne,nf,d⟩
 ·have hfn:X.fn x=true:=by
   rcases hf with z | z
   ·exact z
   ·rw [z] at hk;cases hk
  obtain ⟨c,hc⟩:=I.ok.has x (.inl hk)
  obtain ⟨w',z⟩:=I.cell x c hc
  refine wpAny_storeName_cell I.ok.kind hk hc z (fun h' hc' hs=>?_)
  obtain ⟨oc,hoc,hocd⟩:=id z
  refine h { s with heap:=h' } ⟨I.ok,I.os,I.bare,⟨fun b o e n hb hx=>?_,fun b o e n hb hx=>?_,I.base.free,fun b o e hx=>?_,I.base.tups,I.base.frzs,I.base.tbls⟩,⟨m,hn.sameBut hs (Ne.symm (cne x c hc)),fun j y v' e1 e2 e3=>?_⟩,fun y c' e=>?_,I.free,I.freeC,fun p hp=>?_,tracked ⟨oc,hoc,I.freeC x c hc⟩ hs,by simpa using I.len⟩ ⟨c,hs,.inr hc⟩
  ·exact (hs.2 b (Nat.ne_of_lt (Nat.lt_of_lt_of_le (Heap.lt_size e) (I.ok.cab x c hfn hc)))).trans (I.base.keep b o e n hb hx)
  ·obtain ⟨sl,e1⟩:=I.base.slot b o e n hb hx
   exact ⟨sl,(hs.2 b (Nat.ne_of_lt (Nat.lt_of_lt_of_le (Heap.lt_size e) (I.ok.cab x c hfn hc)))).trans e1⟩
  ·obtain ⟨o',e1⟩:=I.base.there b o e hx
   exact ⟨o',(hs.2 b (Nat.ne_of_lt (Nat.lt_of_lt_of_le (Heap.lt_size e) (I.ok.cab x c hfn hc)))).trans e1⟩
  ·by_cases hj:j=i
   ·subst hj
    rw [hi] at e1;cases e1
    rw [List.getElem?_set_self hiσ] at e2
    cases e2
    exact ⟨u,r,.inr ⟨.inl hk,c,hc,hc'⟩⟩
   ·rw [List.getElem?_set_ne (Ne.symm hj)] at e2
    obtain ⟨u',r',q⟩:=hl j y v' e1 e2 e3
    refine ⟨u',r',?_⟩
    rcases q with q | ⟨k,c',e,z'⟩
    ·exact .inl q
    ·refine .inr ⟨k,c',e,z'.sameBut hs ?_⟩
     rintro rfl
     exact hj (tI hN e1 (I.ok.inj _ _ _ e hc▸hi))
  ·by_cases hcc:c'=c
   ·subst hcc;exact ⟨_,hc'⟩
   ·obtain ⟨w2,z2⟩:=I.cell y c' e
    exact ⟨w2,z2.sameBut hs hcc⟩
  ·obtain ⟨e,n,ne,nf,d⟩:=I.pin p hp
   refine ⟨(hs.2 p.1 ?_).trans e,n,ne,nf,d⟩
   intro q
   rw [q,hoc] at e
   have q':oc=p.2:=Option.some.inj e
   exact d w' (by rw [←q'];exact hocd)
theorem jP {M:Model}{A:Around}{E:Value→Shared→Prop}{i:Nat}{x:Str}{v:V}{u:Value}{Q:Unit→Shared→Prop} (I:ac X pins σ H s) (hN:X.N.Nodup) (hi:X.N[i]?=some x) (hx:CH X.env.scope x) (r:aQ v u)
 (h:∀s',ac X pins (σ.set i (some v)) H s'→Q () s') (hf:X.fn x=true∨X.env.scope.names.lookup x=some .local:=by first | exact .inl rfl | exact .inr rfl | assumption):wpAny M A (storeName X.env x u) Q E s:=
 qC I hN hi hx r (fun s' I' _=>h s' I') hf
theorem ac.call' {s':Shared}{ch:List Addr} (I:ac X pins σ H s) (ho:s'.os=s.os) (u:Un (gI X.stack) ch H H' s.heap s'.heap) (hok:dL X.prog X.w H' s'.heap) (hg:AllBare s'.gens)
 (hch:∀b∈ch,(b∈X.ex∨X.s₀.heap.objs.size≤b)∧b≠X.env.locals∧(∀x c,X.env.cells.lookup x=some c→c≠b)∧∀p∈X.pn++pins,p.1≠b):ac X pins σ H' s':=by
 obtain ⟨h',g',d',t',o'⟩:=s'
 have e:o'=s.os:=ho
 subst e
 exact I.call (g':=g') (t':=t') (d':=d') u hok hg hch
end
abbrev XK:=Value→Option Addr→Hp→Prop
abbrev St:=List (Option V)
abbrev VK:=V→Hp→Prop
abbrev TE:=St→Hp→VK→Prop
abbrev TT:=St→Hp→(Bool→Hp→Prop)→Prop
abbrev TA:=St→Hp→(List V→Hp→Prop)→Prop
structure dn where
 nx:St→Hp→Prop
 rt:VK
 bk:St→Hp→Prop:=fun _ _=>False
 ct:St→Hp→Prop:=fun _ _=>False
abbrev TS:=dn→St→Hp→Prop
inductive EP (X:Cx) (pins:List (Addr×Obj)) (σ:St) (Q:VK) (u:Value) (s':Shared):Prop
 | mk (v:_) (H':_) (h0:ac X pins σ H' s') (h1:aQ v u) (h2:Q v H')
def TP (X:Cx) (pins:List (Addr×Obj)) (σ:St) (Q:Bool→Hp→Prop) (b:Bool) (s':Shared):Prop:=∃H',ac X pins σ H' s'∧Q b H'
inductive AP (X:Cx) (pins:List (Addr×Obj)) (σ:St) (Q:List V→Hp→Prop) (us:List Value) (s':Shared):Prop
 | mk (vs:_) (H':_) (h0:ac X pins σ H' s') (h1:aC vs us) (h2:Q vs H')
def SP (X:Cx) (pins:List (Addr×Obj)) (D:dn) (f:Flow) (s':Shared):Prop:=
 match f with
 | .next=>∃σ' H',ac X pins σ' H' s'∧D.nx σ' H'
 | .brk=>∃σ' H',ac X pins σ' H' s'∧D.bk σ' H'
 | .cont=>∃σ' H',ac X pins σ' H' s'∧D.ct σ' H'
 | .ret u=>∃v σ' H',ac X pins σ' H' s'∧aQ v u∧D.rt v H'
def PE (X:Cx) (e:Expr) (t:TE):Prop:=
 ∀(pins:List (Addr×Obj)) (s:Shared) (σ:St) (H:Hp) (Q:VK),ac X pins σ H s→t σ H Q→wpAny (model X.prog X.w) X.A (eval e X.env) (EP X pins σ Q) X.xe s
def PT (X:Cx) (e:Expr) (t:TT):Prop:=
 ∀(pins:List (Addr×Obj)) (s:Shared) (σ:St) (H:Hp) (Q:Bool→Hp→Prop),ac X pins σ H s→t σ H Q→wpAny (model X.prog X.w) X.A (isTrue e X.env (eval e X.env)) (TP X pins σ Q) X.xe s
def PW (X:Cx) (e:Expr) (t:TT):Prop:=
 ∀(whole:Sem Value) (pins:List (Addr×Obj)) (s:Shared) (σ:St) (H:Hp) (Q:Bool→Hp→Prop),ac X pins σ H s→t σ H Q→wpAny (model X.prog X.w) X.A (isTrue e X.env whole) (TP X pins σ Q) X.xe s
theorem PW.pt {X:Cx}{e:Expr}{t:TT} (h:PW X e t):PT X e t:=h _
def PA (X:Cx) (es:List Expr) (t:TA):Prop:=
 ∀(pos:Pos) (pins:List (Addr×Obj)) (s:Shared) (σ:St) (H:Hp) (Q:List V→Hp→Prop),ac X pins σ H s→t σ H Q→wpAny (model X.prog X.w) X.A (spliced (backTo pos (starEach es X.env))) (AP X pins σ Q) X.xe s
def PS (X:Cx) (st:Stmt) (t:TS):Prop:=
 ∀(pins:List (Addr×Obj)) (s:Shared) (σ:St) (H:Hp) (D:dn),ac X pins σ H s→t D σ H→wpAny (model X.prog X.w) X.A (exec st X.env) (SP X pins D) X.xe s
def kU (X:Cx) (st:List Stmt) (t:TS):Prop:=
 ∀(pins:List (Addr×Obj)) (s:Shared) (σ:St) (H:Hp) (D:dn),ac X pins σ H s→t D σ H→wpAny (model X.prog X.w) X.A (execs st X.env) (SP X pins D) X.xe s
theorem aK {α:Type}{t:Sem α}{Q Q':α→Shared→Prop}{M:Model}{A:Around}{E:Value→Shared→Prop}{s:Shared} (h:wpAny M A t Q E s) (hQ:∀a s,Q a s→Q' a s):wpAny M A t Q' E s:=wpAny_mono h hQ fun _ _ x=>x
end L2
namespace L2
open PySem PySem.Spec PyProof.Rows
section
variable {X:Cx}
inductive HF (i:Nat) (σ:St) (H:Hp) (Q:VK):Prop
 | mk (v:_) (h0:σ[i]?=some (some v)) (h1:Q v H)
def Bw (i:Nat):TE:=fun σ H Q=>HF i σ H Q
def tC (v:V):TE:=fun _ H Q=>Q v H
theorem A4 {i:Nat}{x:Str}{pos:Pos} (hN:X.N[i]?=some x) (hv:Ay X.env.scope x) (hd:(x==("__debug__" : Str))=false:=by decide) (hcd:(x==("__classdict__" : Str))=false:=by decide):PE X (.Name x pos) (Bw i):=by
 intro pins s σ H Q I h
 obtain ⟨v,e,h⟩:=h
 obtain ⟨m,hn,hl⟩:=I.loc
 obtain ⟨u,r,l⟩:=hl i x v hN e hv
 have aP:EP X pins σ Q u s:=⟨v,H,I,r,h⟩
 rcases l with ⟨hk,hm⟩ | ⟨hk,c,hc,hcell⟩
 ·exact wpAny_Name (wpAny_loadName_local I.ok.kind hk hn hm aP) hd
 ·rcases hk with hk | hk
  ·exact wpAny_Name (wpAny_loadName_cell I.ok.kind hk hc hcell aP) hd
  ·exact wpAny_Name (wpAny_loadName_free I.ok.kind hk hc hcell aP hcd) hd
theorem bC {i j pos}:PE X (.Constant (.int i) j pos) (tC (.int i)):=fun _ _ _ H _ I h=>wpAny_Constant_int ⟨.int i,H,I.tok _,⟨_,rfl⟩,h⟩
theorem ij {b j pos}:PE X (.Constant (.bool b) j pos) (tC (.bl b)):=fun _ _ _ H _ I h=>Constant_bool ⟨.bl b,H,I,rfl,h⟩
theorem b8 {j pos}:PE X (.Constant .none j pos) (tC .non):=fun _ _ _ H _ I h=>Constant_none ⟨.non,H,I,rfl,h⟩
theorem dh {x j pos}:PE X (.Constant (.str x) j pos) (tC (.str x)):=fun _ _ _ H _ I h=>Calls.Constant_str ⟨.str x,H,I.tok _,⟨_,rfl⟩,h⟩
def Gl (X:Cx) (x:Str):Prop:=X.env.kindOf x=some .globalImplicit
theorem lD {E:Value→Shared→Prop}{pins:List (Addr×Obj)}{s:Shared}{σ:St}{H:Hp}{x:Str}{u:Value}{pos:Pos}{Q:Value→Shared→Prop} (I:ac X pins σ H s) (hg:Gl X x) (hm:X.mg x=some u) (h:Q u s)
 (hd:(x==("__debug__" : Str))=false:=by decide):wpAny (model X.prog X.w) X.A (eval (.Name x pos) X.env) Q E s:=
 Calls.Name_function_global I.ok.kind hg (Calls.loadGlobal_global (by rw [I.ok.glob];exact I.mod.glob.keeps I.bk) hm h) hd
theorem gZ {E:Value→Shared→Prop}{pins:List (Addr×Obj)}{s:Shared}{σ:St}{H:Hp}{x:Str}{u:Value}{pos:Pos}{Q:Value→Shared→Prop} (I:ac X pins σ H s) (hg:Gl X x) (hm:X.mg x=none) (hv:bootBuiltins x=some u) (h:Q u s)
 (hn:x≠"__name__" := by decide) (hd:(x==("__debug__" : Str))=false:=by decide):wpAny (model X.prog X.w) X.A (eval (.Name x pos) X.env) Q E s:=by
 obtain ⟨mb,h1,h2⟩:=I.mod.blt
 exact Calls.Name_function_global I.ok.kind hg (Calls.loadGlobal_builtin (by rw [I.ok.glob];exact I.mod.glob.keeps I.bk) hm (by rw [I.ok.blt];exact h1.keeps I.bk) ((h2 x hn).trans hv) h) hd
theorem Ea {x:Str}{v:V}{u:Value}{pos:Pos} (hg:Gl X x) (hm:X.mg x=none) (hv:bootBuiltins x=some u) (r:aQ v u) (hn:x≠"__name__" := by decide) (hd:(x==("__debug__" : Str))=false:=by decide):PE X (.Name x pos) (tC v):=
 fun _ _ _ H _ I h=>gZ I hg hm hv ⟨v,H,I,r,h⟩ hn hd
variable {a b:Expr}{ta tb:TE}{pos:Pos}
inductive u8 (x:V) (P:Bool→Prop):Prop
 | mk (c:Bool) (e:x=.bl c) (h:P c)
inductive Ft (x:V) (P:Int→Prop):Prop
 | mk (c:Int) (e:x=.int c) (h:P c)
def tB (t:TE):TT:=fun σ H Q=>t σ H fun x H1=>u8 x fun c=>Q c H1
theorem b9 {e:Expr}{t:TE} (h:PE X e t) (he:∀whole,isTrue e X.env whole=(do let v ←whole;standAt e.pos;holding [v] (truthy v)):=by intro _;rfl):PT X e (tB t):=by
 intro pins s σ H Q I hw
 refine isTrue_plain (aK (h pins s σ H _ I hw) fun v s1 ⟨x,H1,I1,r1,q1⟩=>?_) (he _)
 obtain ⟨d,rfl,q⟩:=q1
 cases r1
 exact wpAny_truthy_bool ⟨H1,I1,q⟩
variable {tA tB':TT}{rest:List Expr}
def IE (t u:TT):TT:=fun σ H Q=>t σ H fun c H1=>if c=true then u σ H1 Q else Q false H1
def Jw (t u:TT):TT:=fun σ H Q=>t σ H fun c H1=>if c=true then Q true H1 else u σ H1 Q
def IW (t:TT):TT:=fun σ H Q=>t σ H fun c H1=>Q (!c) H1
theorem rF (ha:PT X a tA):PW X (.BoolOp .And [a] pos) tA:=by
 intro wh pins s σ H Q I h
 refine isTrue_and (aK (ha pins s σ H Q I h) fun c s1 e=>?_)
 cases c with
 | true=>exact isTrue_and_nil e
 | false=>exact e
theorem d9 (ha:PT X a tA):PW X (.BoolOp .Or [a] pos) tA:=by
 intro wh pins s σ H Q I h
 refine isTrue_or (aK (ha pins s σ H Q I h) fun c s1 e=>?_)
 cases c with
 | false=>exact isTrue_or_nil e
 | true=>exact e
theorem uw (ha:PT X a tA) (hb:PW X (.BoolOp .And (b :: rest) pos) tB'):PW X (.BoolOp .And (a :: b :: rest) pos) (IE tA tB'):=by
 intro wh pins s σ H Q I h
 refine isTrue_and (aK (ha pins s σ H _ I h) fun c s1 ⟨H1,I1,q1⟩=>?_)
 cases c with
 | true=>exact hb wh pins s1 σ H1 Q I1 q1
 | false=>exact ⟨H1,I1,q1⟩
theorem dO (ha:PT X a tA) (hb:PW X (.BoolOp .Or (b :: rest) pos) tB'):PW X (.BoolOp .Or (a :: b :: rest) pos) (Jw tA tB'):=by
 intro wh pins s σ H Q I h
 refine isTrue_or (aK (ha pins s σ H _ I h) fun c s1 ⟨H1,I1,q1⟩=>?_)
 cases c with
 | true=>exact ⟨H1,I1,q1⟩
 | false=>exact hb wh pins s1 σ H1 Q I1 q1
theorem gW (ha:PT X a tA):PT X (.UnaryOp .Not a pos) (IW tA):=by
 intro pins s σ H Q I h
 exact isTrue_not (ha pins s σ H (fun c H1=>Q (!c) H1) I h)
def GN (ta tb:TE):TE:=fun σ H Q=>ta σ H fun x H1=>u8 x fun c=>if c=true then tb σ H1 Q else Q (.bl false) H1
def Jf (ta tb:TE):TE:=fun σ H Q=>ta σ H fun x H1=>u8 x fun c=>if c=true then Q (.bl true) H1 else tb σ H1 Q
def HS (ta:TE):TE:=fun σ H Q=>ta σ H fun x H1=>u8 x fun c=>Q (.bl (!c)) H1
theorem kr {op}{t:TE} (h:PE X a t):PE X (.BoolOp op [a] pos) t:=fun pins s σ H Q I hw=>BoolOp_one (h pins s σ H Q I hw)
theorem i7 (ha:PE X a ta) (hb:PE X (.BoolOp .And (b :: rest) pos) tb):PE X (.BoolOp .And (a :: b :: rest) pos) (GN ta tb):=by
 intro pins s σ H Q I h
 refine BoolOp_and (aK (ha pins s σ H _ I h) fun v s1 ⟨x,H1,I1,r1,q1⟩=>?_)
 obtain ⟨c,rfl,q1⟩:=q1
 cases r1
 refine wpAny_truthy_bool ?_
 cases c with
 | true=>exact hb pins s1 σ H1 Q I1 q1
 | false=>exact ⟨.bl false,H1,I1,rfl,q1⟩
theorem Hm (ha:PE X a ta) (hb:PE X (.BoolOp .Or (b :: rest) pos) tb):PE X (.BoolOp .Or (a :: b :: rest) pos) (Jf ta tb):=by
 intro pins s σ H Q I h
 refine BoolOp_or (aK (ha pins s σ H _ I h) fun v s1 ⟨x,H1,I1,r1,q1⟩=>?_)
 obtain ⟨c,rfl,q1⟩:=q1
 cases r1
 refine wpAny_truthy_bool ?_
 cases c with
 | false=>exact hb pins s1 σ H1 Q I1 q1
 | true=>exact ⟨.bl true,H1,I1,rfl,q1⟩
theorem EZ (ha:PE X a ta):PE X (.UnaryOp .Not a pos) (HS ta):=by
 intro pins s σ H Q I h
 refine UnaryOp_ (aK (ha pins s σ H _ I h) fun v s1 ⟨x,H1,I1,r1,q1⟩=>?_)
 obtain ⟨c,rfl,q1⟩:=q1
 cases r1
 exact not_of (wpAny_truthy_bool ⟨.bl (!c),H1,I1,rfl,q1⟩)
def Jy (t:TT) (ta tb:TE):TE:=fun σ H Q=>t σ H fun c H1=>if c=true then ta σ H1 Q else tb σ H1 Q
theorem fu {c:Expr} (hc:PT X c tA) (ha:PE X a ta) (hb:PE X b tb):PE X (.IfExp c a b pos) (Jy tA ta tb):=by
 intro pins s σ H Q I h
 refine wpAny_IfExp (aK (hc pins s σ H _ I h) fun d s1 ⟨H1,I1,q1⟩=>?_)
 cases d with
 | true=>exact ha pins s1 σ H1 Q I1 q1
 | false=>exact hb pins s1 σ H1 Q I1 q1
end
end L2
namespace L2
open PySem PySem.Spec PyProof.Rows
def am (K:PySem.W.Frag) (H:Hp) (a:Addr) (xs:List V):Prop:=
 Rd H a (.lst xs)∨
  eH fun (o:Obj) (its:Array Value) (n:Nat)=>K.lookup a=some o∧o.cls=.type "list"∧o.dict=none∧o.data=.seq its n∧its.size≤sizeLine∧aC xs its.toList
def ag (K:PySem.W.Frag) (H:Hp) (a:Addr) (xs:List V):Prop:=
 Rd H a (.tup xs)∨
  eH fun (o:Obj) (its:Array Value) (n:Nat)=>K.lookup a=some o∧o.cls=.type "tuple"∧o.data=.seq its n∧its.size≤sizeLine∧aC xs its.toList
def Jb:Value→Option V
 | .none=>some .non
 | .bool b=>some (.bl b)
 | .int i _=>some (.int i)
 | .str x _=>some (.str x)
 | .bytes b _=>some (.byt b)
 | .float b _=>some (.flt b)
 | .ref a=>some (.ref a)
 | .type n=>some (.ty n)
 | _=>none
theorem aQ.abs {x:V}{u:Value} (r:aQ x u):Jb u=some x:=by
 cases x with
 | non=>cases r;rfl
 | bl _=>cases r;rfl
 | int _=>obtain ⟨t,rfl⟩:=r;rfl
 | str _=>obtain ⟨t,rfl⟩:=r;rfl
 | byt _=>obtain ⟨t,rfl⟩:=r;rfl
 | flt _=>obtain ⟨t,rfl⟩:=r;rfl
 | ref _=>cases r;rfl
 | ty _=>cases r;rfl
theorem aQ.inj {x y:V}{u:Value} (r:aQ x u) (q:aQ y u):x=y:=Option.some.inj (r.abs.symm.trans q.abs)
theorem aC.inj:∀{xs ys:List V}{us:List Value},aC xs us→aC ys us→xs=ys
 | _,_,_,.nil,.nil=>rfl
 | _,_,_,.cons r t,.cons r' t'=>by rw [r.inj r',aC.inj t t']
section
variable {X:Cx}{pins:List (Addr×Obj)}{σ:St}{H:Hp}{s:Shared}{a:Addr}{xs ys:List V}
theorem am.of {K:PySem.W.Frag} (h:H a=some (.lst xs)):am K H a xs:=.inl (.inl h)
theorem ag.of {K:PySem.W.Frag} (h:H a=some (.tup xs)):ag K H a xs:=.inl (.inl h)
theorem ac.list (I:ac X pins σ H s) (h:am X.K H a xs):∃its:List Value,aC xs its∧PlainL s.heap a its.toArray∧xs.length≤sizeLine:=by
 rcases h with h | ⟨o,its,n,hk,hc,hd,hs,hz,r⟩
 ·obtain ⟨z,its,n,r,e⟩:=h.ok I.hok
  exact ⟨its,r,⟨_,n,e,rfl,rfl,rfl⟩,z⟩
 ·refine ⟨its.toList,r,⟨o,n,I.kIn a o hk,hc,hd,by simpa using hs⟩,?_⟩
  have e:=r.length
  simp only [Array.length_toList] at e
  trivial
theorem ac.tuple (I:ac X pins σ H s) (h:ag X.K H a xs):∃its:List Value,aC xs its∧IsTup s.heap a its.toArray∧xs.length≤sizeLine:=by
 rcases h with h | ⟨o,its,n,hk,hc,hs,hz,r⟩
 ·obtain ⟨z,its,r,p,_⟩:=h.ok I.hok
  exact ⟨its,r,p,z⟩
 ·refine ⟨its.toList,r,⟨o,I.kIn a o hk,hc,n,by simpa using hs⟩,?_⟩
  have e:=r.length
  simp only [Array.length_toList] at e
  trivial
theorem ac.list_inj (I:ac X pins σ H s) (h:am X.K H a xs) (h':am X.K H a ys):xs=ys:=by
 obtain ⟨its,r,⟨o,n,e,_,_,d⟩,_⟩:=I.list h
 obtain ⟨its',r',⟨o',n',e',_,_,d'⟩,_⟩:=I.list h'
 rw [e] at e';cases e'
 rw [d] at d'
 injection d' with d1 _
 have:its=its':=by simpa using congrArg Array.toList d1
 subst this
 exact r.inj r'
theorem ac.tuple_inj (I:ac X pins σ H s) (h:ag X.K H a xs) (h':ag X.K H a ys):xs=ys:=by
 obtain ⟨its,r,⟨o,e,_,n,d⟩,_⟩:=I.tuple h
 obtain ⟨its',r',⟨o',e',_,n',d'⟩,_⟩:=I.tuple h'
 rw [e] at e';cases e'
 rw [d] at d'
 injection d' with d1 _
 have:its=its':=by simpa using congrArg Array.toList d1
 subst this
 exact r.inj r'
end
abbrev Cx.wish (X:Cx) (E:Value→Shared→Prop):Cx:={ X with xe:=E }
abbrev Cx.nox (X:Cx):Cx:=X.wish fun _ _=>False
theorem Cx.Ok.wish {X:Cx} (ok:X.Ok) (E:Value→Shared→Prop):(X.wish E).Ok:=
 ⟨ok.mod,ok.kind,ok.glob,ok.blt,ok.above,ok.inj,ok.has,ok.cab,ok.hd,ok.frames,ok.stk,ok.exf,ok.bs,ok.bsz,ok.noex,ok.exfs,ok.funs,ok.frf⟩
theorem Cx.Ok.unwish {X:Cx}{E:Value→Shared→Prop} (ok:(X.wish E).Ok):X.Ok:=
 ⟨ok.mod,ok.kind,ok.glob,ok.blt,ok.above,ok.inj,ok.has,ok.cab,ok.hd,ok.frames,ok.stk,ok.exf,ok.bs,ok.bsz,ok.noex,ok.exfs,ok.funs,ok.frf⟩
section
variable {X:Cx}{pins:List (Addr×Obj)}{σ:St}{H:Hp}{s:Shared}{E:Value→Shared→Prop}
theorem ac.wish (I:ac X pins σ H s) (E:Value→Shared→Prop):ac (X.wish E) pins σ H s:=⟨I.ok.wish E,I.os,I.bare,I.base,I.loc,I.cell,I.free,I.freeC,I.pin,I.hok,I.len⟩
theorem ac.unwish (I:ac (X.wish E) pins σ H s):ac X pins σ H s:=⟨I.ok.unwish,I.os,I.bare,I.base,I.loc,I.cell,I.free,I.freeC,I.pin,I.hok,I.len⟩
theorem SP.unwish {D:dn}{f:Flow}{s':Shared} (h:SP (X.wish E) pins D f s'):SP X pins D f s':=by
 cases f with
 | next=>obtain ⟨σ',H',I,q⟩:=h;exact ⟨σ',H',I.unwish,q⟩
 | brk=>obtain ⟨σ',H',I,q⟩:=h;exact ⟨σ',H',I.unwish,q⟩
 | cont=>obtain ⟨σ',H',I,q⟩:=h;exact ⟨σ',H',I.unwish,q⟩
 | ret u=>obtain ⟨v,σ',H',I,r,q⟩:=h;exact ⟨v,σ',H',I.unwish,r,q⟩
theorem kU.nox {st:List Stmt}{t:TS} (h:kU X.nox st t):kU X st t:=fun pins s σ H D I hw=>
 wpAny_mono (h pins s σ H D (I.wish _) hw) (fun _ _ q=>q.unwish) fun _ _ z=>False.elim z
end
section
variable {X:Cx}{st:Stmt}{rest:List Stmt}{t u:TS}{e:Expr}{te:TE}{pos:Pos}
def CF:TS:=fun D σ H=>D.nx σ H
def kG (t u:TS):TS:=fun D σ H=>t { D with nx:=u D } σ H
theorem aN:kU X [] CF:=fun _ _ σ H _ I h=>wpAny_execs_nil ⟨σ,H,I,h⟩
theorem ft (h1:PS X st t) (h2:kU X rest u):kU X (st :: rest) (kG t u):=by
 intro pins s σ H D I h
 refine wpAny_execs_cons (aK (h1 pins s σ H { D with nx:=u D } I h) fun f s1 q=>?_)
 cases f with
 | next=>
  obtain ⟨σ',H',I',q⟩:=q
  exact h2 pins s1 σ' H' D I' q
 | ret v=>exact q
 | brk=>exact q
 | cont=>exact q
theorem ad (h1:PS X st t):kU X [st] t:=by
 intro pins s σ H D I h
 refine wpAny_execs_cons (aK (h1 pins s σ H D I h) fun f s1 q=>?_)
 cases f with
 | next=>exact wpAny_execs_nil q
 | ret v=>exact q
 | brk=>exact q
 | cont=>exact q
def HN:TS:=fun D σ H=>D.ct σ H
theorem Dx:PS X (.Pass pos) CF:=fun _ _ σ H _ I h=>wpAny_Pass ⟨σ,H,I,h⟩
theorem yh:PS X (.Continue pos) HN:=fun _ _ σ H _ I h=>wpAny_Continue ⟨σ,H,I,h⟩
theorem ac.quiet {pins:List (Addr×Obj)}{σ:St}{H:Hp}{s:Shared} (I:ac X pins σ H s):interactive X.env=false:=by simp [interactive,I.ok.kind]
def HZ (te:TE):TS:=fun D σ H=>te σ H fun _ H1=>D.nx σ H1
theorem fJ (he:PE X e te) (hs:swapsWith e none pos.line X.env=pure false:=by rfl):PS X (.Expr e pos) (HZ te):=by
 intro pins s σ H D I h
 exact wpAny_Expr_any (aK (he pins s σ H _ I h) fun v s1 ⟨x,H1,I1,r1,q1⟩=>⟨σ,H1,I1,q1⟩) I.quiet hs
def Ji (te:TE):TS:=fun D σ H=>te σ H D.rt
theorem aw (he:PE X e te):PS X (.Return (some e) pos) (Ji te):=by
 intro pins s σ H D I h
 exact wpAny_Return_some (aK (he pins s σ H _ I h) fun v s1 ⟨x,H1,I1,r1,q1⟩=>⟨x,σ,H1,I1,r1,q1⟩)
def zR (c:TT) (t u:TS):TS:=fun D σ H=>c σ H fun b H1=>if b=true then t D σ H1 else u D σ H1
theorem be {c:Expr}{a b:List Stmt}{tc:TT} (hc:PT X c tc) (ha:kU X a t) (hb:kU X b u):PS X (.If c a b pos) (zR tc t u):=by
 intro pins s σ H D I h
 refine wpAny_If (aK (hc pins s σ H _ I h) fun d s1 ⟨H1,I1,q1⟩=>?_)
 cases d with
 | true=>exact ha pins s1 σ H1 D I1 q1
 | false=>exact hb pins s1 σ H1 D I1 q1
end
abbrev TG:=V→St→Hp→(St→Hp→Prop)→Prop
abbrev sI:=List V→St→Hp→(St→Hp→Prop)→Prop
def PG (X:Cx) (target:Expr) (t:TG):Prop:=
 ∀(pins:List (Addr×Obj)) (s:Shared) (σ:St) (H:Hp) (v:V) (u:Value) (Q:St→Hp→Prop),ac X pins σ H s→aQ v u→t v σ H Q→
   wpAny (model X.prog X.w) X.A (assign target X.env u) (fun _ s'=>∃σ' H',ac X pins σ' H' s'∧Q σ' H') X.xe s
def Am (X:Cx) (ts:List Expr) (t:sI):Prop:=
 ∀(pins:List (Addr×Obj)) (s:Shared) (σ:St) (H:Hp) (vs:List V) (us:List Value) (Q:St→Hp→Prop),ac X pins σ H s→aC vs us→t vs σ H Q→
   wpAny (model X.prog X.w) X.A (assignInOrder ((assignEach ts X.env).map (·.2)) us) (fun _ s'=>∃σ' H',ac X pins σ' H' s'∧Q σ' H') X.xe s
abbrev Cy:=V→V→V→Hp→(Hp→Prop)→Prop
def BW (X:Cx) (t:Cy):Prop:=
 ∀(pins:List (Addr×Obj)) (s:Shared) (σ:St) (H:Hp) (o i v:V) (ov iv u:Value) (Q:Hp→Prop),ac X pins σ H s→aQ o ov→aQ i iv→aQ v u→t o i v H Q→
   wpAny (model X.prog X.w) X.A (setItem ov iv u) (fun _ s'=>∃H',ac X pins σ H' s'∧Q H') X.xe s
section
variable {X:Cx}{pos:Pos}
def rS (i:Nat):TG:=fun v σ H Q=>Q (σ.set i (some v)) H
theorem bo {i:Nat}{x:Str} (hN:X.N.Nodup) (hi:X.N[i]?=some x) (hx:CH X.env.scope x) (hf:X.fn x=true∨X.env.scope.names.lookup x=some .local:=by first | exact .inl rfl | exact .inr rfl | assumption):PG X (.Name x pos) (rS i):=by
 intro pins s σ H v u Q I r h
 exact wpAny_assign_Name (jP I hN hi hx r (fun s' I'=>⟨_,H,I',h⟩) hf)
def IT:sI:=fun vs σ H Q=>vs=[]∧Q σ H
inductive E1 (t:TG) (u:sI) (vs:List V) (σ:St) (H:Hp) (Q:St→Hp→Prop):Prop
 | mk (v:_) (r:_) (h0:vs=v :: r) (h1:t v σ H fun σ' H'=>u r σ' H' Q)
def Hz (t:TG) (u:sI):sI:=fun vs σ H Q=>E1 t u vs σ H Q
theorem eS:Am X [] IT:=by
 intro pins s σ H vs us Q I r h
 obtain ⟨e,h⟩:=h
 subst e
 cases r
 exact assignInOrder_nil ⟨σ,H,I,h⟩
theorem aS {e:Expr}{es:List Expr}{t:TG}{u:sI} (h1:PG X e t) (h2:Am X es u)
 (hs:(assignEach (e :: es) X.env).map (·.2)=assign e X.env :: (assignEach es X.env).map (·.2):=by rfl):Am X (e :: es) (Hz t u):=by
 intro pins s σ H vs us Q I r h
 obtain ⟨v,vr,e1,h⟩:=h
 subst e1
 cases r with
 | cons r rr=>
  rw [hs]
  refine assignInOrder_cons (aK (h1 pins s σ H _ _ _ I r h) fun _ s1 ⟨σ1,H1,I1,q1⟩=>?_)
  exact h2 pins s1 σ1 H1 _ _ Q I1 rr q1
inductive Id (K:PySem.W.Frag) (n:Nat) (t:sI) (v:V) (σ:St) (H:Hp) (Q:St→Hp→Prop):Prop
 | mk (a:_) (xs:_) (h0:v=.ref a) (h1:ag K H a xs) (h2:xs.length=n) (h3:t xs σ H Q)
def Fm (K:PySem.W.Frag) (n:Nat) (t:sI):TG:=fun v σ H Q=>Id K n t v σ H Q
theorem wX {es:List Expr}{k:Nat}{t:sI}{n:Nat} (hc:X.calm=true) (h:Am X es t)
 (hn:(assignEach es X.env).length=n:=by rfl) (hst:(assignEach es X.env).findIdx? (·.1)=none:=by rfl):PG X (.Tuple es k pos) (Fm X.K n t):=by
 intro pins s σ H v u Q I r hw
 obtain ⟨a,xs,e1,hq,hl,hw⟩:=hw
 subst e1
 cases r
 obtain ⟨its,rv,ht,hz⟩:=I.tuple hq
 refine assign_Tuple_tuple (I.ok.hd hc) ht (by simp [hn,←hl,rv.length]) hst fun h' hx=>?_
 have I1:ac X pins σ H { s with heap:=h' }:=I.kept (t':=s.toks) fun b o e=>hx b o (Nat.ne_of_lt (Heap.lt_size e)) e
 exact h pins _ σ H xs _ Q I1 (by simpa using rv) hw
def IF (to ti:TE) (t:Cy):TG:=fun v σ H Q=>to σ H fun o H1=>ti σ H1 fun i H2=>t o i v H2 fun H3=>Q σ H3
theorem oH {o i:Expr}{to ti:TE}{t:Cy} (ho:PE X o to) (hi:PE X i ti) (hs:BW X t)
 (ha:∀v,assign (.Subscript o i pos) X.env v=(do
  let ov ←holding [v] (eval o X.env)
  let iv ←holding [v,ov] (eval i X.env)
  standAt pos
  holding [v,ov,iv] (setItem ov iv v)
  release [v,ov,iv] []):=by intro _;rfl):PG X (.Subscript o i pos) (IF to ti t):=by
 intro pins s σ H v u Q I r h
 rw [ha]
 refine wpAny_bind (wpAny_holding (aK (ho pins s σ H _ I h) fun ov s1 ⟨x,H1,I1,r1,q1⟩=>?_))
 refine wpAny_bind (wpAny_holding (aK (hi pins s1 σ H1 _ I1 q1) fun iv s2 ⟨y,H2,I2,r2,q2⟩=>?_))
 refine wpAny_bind (wpAny_standAt (wpAny_bind (wpAny_holding (aK (hs pins s2 σ H2 x y v ov iv u _ I2 r1 r2 r q2) fun _ s3 ⟨H3,I3,q3⟩=>?_))))
 exact wpAny_release ⟨σ,H3,I3,q3⟩
def xr (te:TE) (g:TG):TS:=fun D σ H=>te σ H fun x H1=>g x σ H1 D.nx
theorem gj {tg e:Expr}{te:TE}{g:TG} (he:PE X e te) (hg:PG X tg g) (hs:swapsWithSole [tg] e pos.line X.env=pure false:=by rfl) (hw:swappedStores [tg] e X.env=pure none:=by rfl)
 (h1:(assignEach [tg] X.env).map (·.2)=[assign tg X.env]:=by rfl):PS X (.Assign [tg] e pos) (xr te g):=by
 intro pins s σ H D I h
 refine wpAny_Assign_stores (aK (he pins s σ H _ I h) fun v s1 ⟨x,H1,I1,r1,q1⟩=>?_) hs hw
 rw [h1]
 exact aK (hg pins s1 σ H1 x v _ I1 r1 q1) fun _ s2 q=>q
theorem mf {i:Nat}{x:Str}{e:Expr}{te:TE}{pos':Pos} (hN:X.N.Nodup) (hi:X.N[i]?=some x) (hx:CH X.env.scope x) (he:PE X e te) (hs:swapsWith e (some (.Name x pos')) pos.line X.env=pure false:=by rfl) (hf:X.fn x=true∨X.env.scope.names.lookup x=some .local:=by first | exact .inl rfl | exact .inr rfl | assumption) :
 PS X (.Assign [.Name x pos'] e pos) (xr te (rS i)):=by
 intro pins s σ H D I h
 refine wpAny_Assign_Name (aK (he pins s σ H _ I h) fun v s1 ⟨y,H1,I1,r1,q1⟩=>?_) hs
 exact jP I1 hN hi hx r1 (fun s2 I2=>⟨_,H1,I2,q1⟩) hf
def FX (i j:Nat) (ta:TA):TS:=fun D σ H=>ta σ H fun vs H1=>aW fun v w=>vs=[v,w]∧D.nx ((σ.set i (some v)).set j (some w)) H1
theorem kD {i j:Nat}{x y:Str}{a b:Expr}{ta:TA}{px py pt:Pos}{kt k2 pt2} (hc:X.calm=true) (hN:X.N.Nodup) (hi:X.N[i]?=some x) (hj:X.N[j]?=some y) (hij:i≠j)
 (hx:X.env.scope.names.lookup x=some .local) (hy:X.env.scope.names.lookup y=some .local) (ha:PA X [a,b] ta)
 (hw:swappedStores [.Tuple [.Name x px,.Name y py] kt pt] (.Tuple [a,b] k2 pt2) X.env=pure (some [x,y]))
 (hs:swapsWithSole [.Tuple [.Name x px,.Name y py] kt pt] (.Tuple [a,b] k2 pt2) pos.line X.env=pure false:=by rfl) :
 PS X (.Assign [.Tuple [.Name x px,.Name y py] kt pt] (.Tuple [a,b] k2 pt2) pos) (FX i j ta):=by
 intro pins s σ H D I h
 rw [exec_Assign_arm]
 refine wpAny_bind (wpAny_standAt ?_)
 rw [hs]
 refine wpAny_bind (wpAny_pure ?_)
 rw [if_neg (by decide)]
 refine wpAny_bind (Tuple_ (aK (ha _ pins s σ H _ I h) fun us s1 ⟨vs,H1,I1,r1,q1⟩=>?_))
 obtain ⟨v,w,e1,q1⟩:=q1
 subst e1
 obtain ⟨u1,u2,rfl,rv,rw'⟩:aW fun u1 u2=>us=[u1,u2]∧aQ v u1∧aQ w u2:=by
  cases r1 with
  | cons p q=>
   cases q with
   | cons p' q'=>
    cases q'
    exact ⟨_,_,rfl,p,p'⟩
 refine wpAny_newObj_type ?_ (by show 2≤sizeLine;decide)
 have I2:ac X pins σ H1 { s1 with heap:=s1.heap.push { cls:=.type "tuple",data:=.seq [u1,u2].toArray } }:=I1.kept (t':=s1.toks) fun b o e=>Heap.get?_push_of_some _ e
 rw [hw]
 refine wpAny_bind (wpAny_pure ?_)
 show wpAny (model X.prog X.w) X.A (do rule "assign.swapped-stores";let items ←unpackItems (.ref s1.heap.objs.size) 2 none;assignInOrder [fun v=>bindName X.env y v,fun v=>bindName X.env x v] items.reverse;pure Flow.next) _ _ _
 refine wpAny_bind (wpAny_rule (wpAny_bind (unpackItems_tuple (items:=#[u1,u2]) (I.ok.hd hc) (IsTup.new s1.heap _) fun h' hx'=>?_)))
 have I3:=I2.kept (h':=h') (t':=s1.toks) fun b o e=>hx' b o (Nat.ne_of_lt (Heap.lt_size e)) e
 show wpAny _ _ (assignInOrder [fun v=>bindName X.env y v,fun v=>bindName X.env x v] [u2,u1] >>= fun _=>pure Flow.next) _ _ _
 refine wpAny_bind (assignInOrder_cons (wpAny_bindName (jP I3 hN hj (.inl hy) rw' (fun s2 I4=>?_) (.inr hy))))
 refine assignInOrder_cons (wpAny_bindName (jP I4 hN hi (.inl hx) rv (fun s3 I5=>assignInOrder_nil (wpAny_pure ?_)) (.inr hx)))
 rw [List.set_comm _ _ (Ne.symm hij)] at I5
 exact ⟨_,H1,I5,q1⟩
end
section
variable {X:Cx}{pos:Pos}
def Az (c:TT) (tb:TS):TS:=fun D σ H=>∃W:Nat→St→Hp→Prop,(∃m,W m σ H)∧∀m σ H,W m σ H→
 c σ H fun b H1=>if b=true then ∃N:St→Hp→Prop,(∀σ' H',N σ' H'→∃m',m'<m∧W m' σ' H')∧tb { D with nx:=N,ct:=N,bk:=D.nx } σ H1 else D.nx σ H1
theorem jM {c:Expr}{body:List Stmt}{tc:TT}{tb:TS} (hp:PassesOwn (model X.prog X.w) X.A X.env X.xe) (hc:PT X c tc) (hb:kU X body tb):PS X (.While c body [] pos) (Az tc tb):=by
 intro pins s σ H D I h
 obtain ⟨W,⟨m0,w0⟩,turn⟩:=h
 refine wpAny_While (codeAny_whileLoop (fun n s'=>∃σ' H',ac X pins σ' H' s'∧W n σ' H') ?_ m0 ⟨σ,H,I,w0⟩)
 rintro n s1 ⟨σ1,H1,I1,w1⟩
 refine wpAny_passesOwn hp (aK (hc pins s1 σ1 H1 _ I1 (turn n σ1 H1 w1)) fun b s2 ⟨H2,I2,q2⟩=>?_)
 cases b with
 | true=>
  obtain ⟨N,hN,q2⟩:=q2
  rw [if_pos rfl]
  refine wpAny_passesOwn hp (aK (hb pins s2 σ1 H2 _ I2 q2) fun f s3 q3=>?_)
  cases f with
  | next=>
   obtain ⟨σ3,H3,I3,n3⟩:=q3
   obtain ⟨m',hm,w3⟩:=hN σ3 H3 n3
   exact ⟨m',hm,σ3,H3,I3,w3⟩
  | cont=>
   obtain ⟨σ3,H3,I3,n3⟩:=q3
   obtain ⟨m',hm,w3⟩:=hN σ3 H3 n3
   exact ⟨m',hm,σ3,H3,I3,w3⟩
  | brk=>exact q3
  | ret v=>exact q3
 | false=>
  rw [if_neg Bool.false_ne_true]
  exact wpAny_execs_nil ⟨σ1,H2,I2,q2⟩
end
structure It where
 go:Nat→Hp→Prop
 yld:Nat→Hp→V→Hp→Prop
 stop:Nat→Hp→Prop
def ji (X:Cx) (pins:List (Addr×Obj)) (H:Hp) (b:Addr):Prop:=
 H b=none∧b≠X.env.locals∧b∉X.fs∧(b∈X.ex∨X.s₀.heap.objs.size≤b)∧(∀x c,X.env.cells.lookup x=some c→c≠b)∧∀p∈X.pn++pins,p.1≠b
theorem ac.fpOk {X:Cx}{pins:List (Addr×Obj)}{σ:St}{H H':Hp}{s:Shared}{b:Addr} (I:ac X pins σ H s) (hb:s.heap.objs.size≤b) (hn:H' b=none):ji X pins H' b:=by
 refine ⟨hn,Nat.ne_of_gt (Nat.lt_of_lt_of_le I.lt hb),I.nofs hb,.inr (Nat.le_trans I.sz hb),fun x c e z=>?_,fun p hp z=>?_⟩
 ·obtain ⟨v,q⟩:=I.cell x c e
  exact absurd (Nat.lt_of_lt_of_le q.lt (by rw [z];exact hb)) (Nat.lt_irrefl _)
 ·exact absurd (Nat.lt_of_lt_of_le (Heap.lt_size (I.pin p hp).1) (by rw [z];exact hb)) (Nat.lt_irrefl _)
structure tE (P:Program) (w:World) (K:PySem.W.Frag) (tg:Expr) (J:It) (fp:List Addr) (it:Addr) (tn:Nat→Heap→Prop):Prop where
 mem:it∈fp
 obj:∀i h,tn i h→∀b∈fp,∃o,h.get? b=some o∧∀v,o.data≠.cell v
 keep:∀i h h',tn i h→(∀b∈fp,∀o,h.get? b=some o→h'.get? b=some o)→tn i h'
 item:∀(X:Cx),X.prog=P→X.w=w→X.K=K→X.calm=true→∀(i:Nat) (pins:List (Addr×Obj)) (s:Shared) (σ:St) (H:Hp) (E:Value→Shared→Prop),ac X pins σ H s→(∀b∈fp,ji X pins H b)→tn i s.heap→J.go i H→
  wpAny (model P w) X.A (pyNext (.ref it)) (fun r s1=>∃u,r=some u∧
   wpAny (model P w) X.A (letOwnedTupleGo tg (.ref it) u) (fun _ s2=>aW fun x H'=>ac X pins σ H' s2∧aQ x u∧J.yld i H x H'∧tn (i+1) s2.heap∧∀b∈fp,H' b=none) E s1) E s
 done:∀(X:Cx),X.prog=P→X.w=w→X.K=K→X.calm=true→∀(i:Nat) (pins:List (Addr×Obj)) (s:Shared) (σ:St) (H:Hp) (E:Value→Shared→Prop),ac X pins σ H s→(∀b∈fp,ji X pins H b)→tn i s.heap→J.stop i H→
  wpAny (model P w) X.A (pyNext (.ref it)) (fun r s1=>r=none∧ac X pins σ H s1) E s
 self:∀(A:Around) (i:Nat) (s:Shared) (Q:Value→Shared→Prop) (E:Value→Shared→Prop),tn i s.heap→Q (.ref it) s→wpAny (model P w) A (pyIter (.ref it)) Q E s
abbrev TI:=St→Hp→(It→Hp→Prop)→Prop
def Iw (X:Cx) (pins:List (Addr×Obj)) (σ:St) (tg:Expr) (R:It→Hp→Prop) (itv:Value) (s2:Shared):Prop:=
 yC fun (it:Addr) (fp:List Addr) (tn:Nat→Heap→Prop) (J:It) (H':Hp)=>itv=.ref it∧ac X pins σ H' s2∧tE X.prog X.w X.K tg J fp it tn∧tn 0 s2.heap∧(∀b∈fp,ji X pins H' b)∧R J H'
def PI (X:Cx) (tg iter:Expr) (wi:TI):Prop:=
 ∀(pins:List (Addr×Obj)) (s:Shared) (σ:St) (H:Hp) (R:It→Hp→Prop),ac X pins σ H s→wi σ H R→
   wpAny (model X.prog X.w) X.A (eval iter X.env) (fun v s1=>wpAny (model X.prog X.w) X.A (pyIter v) (Iw X pins σ tg R) X.xe s1) X.xe s
theorem zQ {M:Model}{A:Around}{E:Value→Shared→Prop}{s:Shared}{tg:Expr}{it:Addr}{u:Value}{o:Obj}{n:String}{vs:Array Value}{Q:Unit→Shared→Prop} (ho:s.heap.get? it=some o) (hc:o.cls=.type n) (hd:o.data=.fields vs)
 (hn:["enumerate", "zip", "dict_itemiterator", "dict_reverseitemiterator", "odict_iterator", "itertools.zip_longest", "itertools.pairwise"].contains n=false) (hQ:Q () s):wpAny M A (letOwnedTupleGo tg (.ref it) u) Q E s:=by
 unfold letOwnedTupleGo
 cases tg <;> first
  | exact wpAny_pure hQ
  | (cases u <;> first
   | exact wpAny_pure hQ
   | (refine wpAny_bind (wpAny_load ho ?_)
      rw [hc,hd]
      show wpAny M A (if (["enumerate", "zip", "dict_itemiterator", "dict_reverseitemiterator", "odict_iterator", "itertools.zip_longest", "itertools.pairwise"].contains n && vs[0]?==some (rawInt _))=true then _ else _) Q E s
      rw [if_neg (by intro h;rw [hn,Bool.false_and] at h;cases h)]
      exact wpAny_pure hQ))
def yp (K:PySem.W.Frag) (a:Addr):It:=
 ⟨fun i H=>aW fun xs x=>am K H a xs∧xs[i]?=some x,fun i H x H'=>H'=H∧∀xs,am K H a xs→xs[i]?=some x,fun i H=>∃xs,am K H a xs∧xs.length≤i⟩
def zZ (K:PySem.W.Frag) (a:Addr):It:=
 ⟨fun i H=>aW fun xs x=>ag K H a xs∧xs[i]?=some x,fun i H x H'=>H'=H∧∀xs,ag K H a xs→xs[i]?=some x,fun i H=>∃xs,ag K H a xs∧xs.length≤i⟩
def yN (lo:Int) (n:Nat):It:=⟨fun i _=>i<n,fun i H x H'=>H'=H∧x=.int (lo+i),fun i _=>n≤i⟩
theorem A7 {P:Program}{w:World}{K:PySem.W.Frag}{tg:Expr} (a it:Addr):tE P w K tg (yp K a) [it] it (fun i h=>h.IsListIter it a i) where
 mem:=by simp
 obj:=fun i h st b hb=>by
  have e:b=it:=by simpa using hb
  subst e
  obtain ⟨o,e,c,d⟩:=st
  exact ⟨o,e,fun v z=>by rw [d] at z;cases z⟩
 keep:=fun i h h' st k=>st.at fun o e=>k it (by simp) o e
 item:=by
  intro X hP hw hK hc i pins s σ H E I hf st hg
  subst hP hw hK
  obtain ⟨xs,x,hq,hx⟩:=hg
  obtain ⟨its,rv,p,hz⟩:=I.list hq
  obtain ⟨u,hu,ru⟩:=rv.get hx
  obtain ⟨f0,f1,f2,f3,f4,f5⟩:=hf it (by simp)
  refine wpAny_pyNext_list_item st p.isList (x:=u) (by simpa using hu) fun h' st' sb=>?_
  have I1:ac X pins σ H { s with heap:=h' }:=I.turned (t':=s.toks) (fun b o hb e=>(sb.2 b hb).trans e) f0 f1 f3 f4 f5
  obtain ⟨o,e,c,d⟩:=id st'
  exact ⟨u,rfl,zQ (s:={ s with heap:=h' }) e c d (by decide) ⟨x,H,I1,ru,⟨rfl,fun ys hy=>by rw [I.list_inj hy hq];exact hx⟩,st',fun b hb=>(hf b hb).1⟩⟩
 done:=by
  intro X hP hw hK hc i pins s σ H E I hf st hg
  subst hP hw hK
  obtain ⟨xs,hq,hx⟩:=hg
  obtain ⟨its,rv,p,hz⟩:=I.list hq
  obtain ⟨f0,f1,f2,f3,f4,f5⟩:=hf it (by simp)
  have hl:=rv.length
  exact wpAny_pyNext_list_end (I.ok.hd hc) st p.isList (by simp;trivial) fun h' eb=>⟨rfl,I.turned (t':=s.toks) (fun b o hb e=>eb b o hb e) f0 f1 f3 f4 f5⟩
 self:=fun _ _ _ _ _ st h=>wpAny_pyIter_listiter st h
theorem zG {P:Program}{w:World}{K:PySem.W.Frag}{tg:Expr} (a it:Addr):tE P w K tg (zZ K a) [it] it (fun i h=>h.IsTupleIter it a i) where
 mem:=by simp
 obj:=fun i h st b hb=>by
  have e:b=it:=by simpa using hb
  subst e
  obtain ⟨o,e,c,d⟩:=st
  exact ⟨o,e,fun v z=>by rw [d] at z;cases z⟩
 keep:=fun i h h' st k=>st.at fun o e=>k it (by simp) o e
 item:=by
  intro X hP hw hK hc i pins s σ H E I hf st hg
  subst hP hw hK
  obtain ⟨xs,x,hq,hx⟩:=hg
  obtain ⟨its,rv,p,hz⟩:=I.tuple hq
  obtain ⟨u,hu,ru⟩:=rv.get hx
  obtain ⟨f0,f1,f2,f3,f4,f5⟩:=hf it (by simp)
  refine wpAny_pyNext_tuple_item st (show s.heap.IsTuple a its.toArray from p) (x:=u) (by simpa using hu) fun h' st' sb=>?_
  have I1:ac X pins σ H { s with heap:=h' }:=I.turned (t':=s.toks) (fun b o hb e=>(sb.2 b hb).trans e) f0 f1 f3 f4 f5
  obtain ⟨o,e,c,d⟩:=id st'
  exact ⟨u,rfl,zQ (s:={ s with heap:=h' }) e c d (by decide) ⟨x,H,I1,ru,⟨rfl,fun ys hy=>by rw [I.tuple_inj hy hq];exact hx⟩,st',fun b hb=>(hf b hb).1⟩⟩
 done:=by
  intro X hP hw hK hc i pins s σ H E I hf st hg
  subst hP hw hK
  obtain ⟨xs,hq,hx⟩:=hg
  obtain ⟨its,rv,p,hz⟩:=I.tuple hq
  obtain ⟨f0,f1,f2,f3,f4,f5⟩:=hf it (by simp)
  have hl:=rv.length
  exact wpAny_pyNext_tuple_end (I.ok.hd hc) st (show s.heap.IsTuple a its.toArray from p) (by simp;trivial) fun h' eb=>⟨rfl,I.turned (t':=s.toks) (fun b o hb e=>eb b o hb e) f0 f1 f3 f4 f5⟩
 self:=fun _ _ _ _ _ st h=>wpAny_pyIter_tupleiter st h
theorem za {P:Program}{w:World}{K:PySem.W.Frag}{tg:Expr} (it:Addr) (lo:Int) (n:Nat):tE P w K tg (yN lo n) [it] it (fun i h=>IsRangeIter h it (lo+(i:Nat)*1) ((n:Int) - (i:Nat)) 1) where
 mem:=by simp
 obj:=fun i h st b hb=>by
  have e:b=it:=by simpa using hb
  subst e
  exact ⟨_,st,fun v z=>by
   have z':Data.fields _=Data.cell v:=z
   cases z'⟩
 keep:=fun i h h' st k=>k it (by simp) _ st
 item:=by
  intro X hP hw hK hc i pins s σ H E I hf st hg
  subst hP hw hK
  obtain ⟨f0,f1,f2,f3,f4,f5⟩:=hf it (by simp)
  have W:=Walks.range (prog:=X.prog) (w:=X.w) (I.ok.hd hc) it lo 1 n
  refine W.item i s _ _ hg st fun v h' tk hv st' kk=>?_
  obtain ⟨t,rfl⟩:=hv
  have I1:ac X pins σ H { s with heap:=h',toks:=tk }:=I.turned (fun b o hb e=>kk b o (by simpa using hb) e) f0 f1 f3 f4 f5
  refine ⟨_,rfl,zQ (s:={ s with heap:=h',toks:=tk }) (n := "range_iterator") st' rfl rfl (by decide) ⟨.int (lo+i),H,I1,⟨t,?_⟩,⟨rfl,rfl⟩,st',fun b hb=>(hf b hb).1⟩⟩
  rw [Int.mul_one]
 done:=by
  intro X hP hw hK hc i pins s σ H E I hf st hg
  subst hP hw hK
  obtain ⟨f0,f1,f2,f3,f4,f5⟩:=hf it (by simp)
  exact wpAny_pyNext_range_end (I.ok.hd hc) st (by have:n≤i:=hg;trivial) fun h' eb=>⟨rfl,I.turned (t':=s.toks) (fun b o hb e=>eb b o hb e) f0 f1 f3 f4 f5⟩
 self:=fun _ _ _ _ _ st h=>wpAny_pyIter_rangeiter st h
end L2
namespace L2
open PySem PySem.Spec PyProof.Rows
section
variable {X:Cx}{tg:Expr}
def CW (K:PySem.W.Frag) (tl:TE):TI:=fun σ H R=>tl σ H fun x H1=>∃a,x=.ref a∧(∃xs,am K H1 a xs)∧R (yp K a) H1
def EL (K:PySem.W.Frag) (tl:TE):TI:=fun σ H R=>tl σ H fun x H1=>∃a,x=.ref a∧(∃xs,ag K H1 a xs)∧R (zZ K a) H1
theorem Ek {l:Expr}{tl:TE} (hl:PE X l tl):PI X tg l (CW X.K tl):=by
 intro pins s σ H R I h
 refine aK (hl pins s σ H _ I h) fun v s1 ⟨x,H1,I1,r1,q1⟩=>?_
 obtain ⟨a,e,⟨xs,hq⟩,q⟩:=q1
 subst e
 cases r1
 obtain ⟨its,rv,p,hz⟩:=I1.list hq
 refine wpAny_pyIter_list p.isList ?_
 refine ⟨s1.heap.objs.size,[s1.heap.objs.size],_,_,H1,rfl,I1.kept (t':=s1.toks) fun b o e=>Heap.get?_push_of_some _ e,A7 a _,⟨_,Heap.get?_push_size _ rfl,rfl,rfl⟩,fun b hb=>?_,q⟩
 have e:b=s1.heap.objs.size:=by simpa using hb
 subst e
 exact I1.fpOk (Nat.le_refl _) (I1.hok.fresh (Nat.le_refl _))
theorem Fr {l:Expr}{tl:TE} (hl:PE X l tl):PI X tg l (EL X.K tl):=by
 intro pins s σ H R I h
 refine aK (hl pins s σ H _ I h) fun v s1 ⟨x,H1,I1,r1,q1⟩=>?_
 obtain ⟨a,e,⟨xs,hq⟩,q⟩:=q1
 subst e
 cases r1
 obtain ⟨its,rv,p,hz⟩:=I1.tuple hq
 refine wpAny_pyIter_tuple (show s1.heap.IsTuple a its.toArray from p) ?_
 refine ⟨s1.heap.objs.size,[s1.heap.objs.size],_,_,H1,rfl,I1.kept (t':=s1.toks) fun b o e=>Heap.get?_push_of_some _ e,zG a _,⟨_,Heap.get?_push_size _ rfl,rfl,rfl⟩,fun b hb=>?_,q⟩
 have e:b=s1.heap.objs.size:=by simpa using hb
 subst e
 exact I1.fpOk (Nat.le_refl _) (I1.hok.fresh (Nat.le_refl _))
theorem BS {pins:List (Addr×Obj)}{σ:St}{H:Hp}{s:Shared}{R:It→Hp→Prop}{E:Value→Shared→Prop}{lo hi:Int}{t u v:Tok}{tk:Nat} (I:ac X pins σ H s) (h1:-(2 ^ 62)≤lo) (h2:lo<2 ^ 62) (h3:-(2 ^ 62)≤hi) (h4:hi<2 ^ 62)
 (q:R (yN lo (hi - lo).toNat) H):wpAny (model X.prog X.w) X.A (pyIter (.ref s.heap.objs.size)) (Iw X pins σ tg R) E { s with heap:=s.heap.push { cls:=.type "range",data:=.fields #[.int lo t,.int hi u,.int 1 v] },toks:=tk }:=by
 refine wpAny_pyIter_range (IsRange.new ..) (small_one h1 h2 h3 h4) ?_
 have I1:ac X pins σ H { s with heap:=s.heap.push { cls:=.type "range",data:=.fields #[.int lo t,.int hi u,.int 1 v] },toks:=tk }:=I.kept fun b o e=>Heap.get?_push_of_some _ e
 refine ⟨(s.heap.push { cls:=.type "range",data:=.fields #[.int lo t,.int hi u,.int 1 v] }).objs.size,[(s.heap.push { cls:=.type "range",data:=.fields #[.int lo t,.int hi u,.int 1 v] }).objs.size],_,_,H,rfl,
  I1.kept (t':=tk) fun b o e=>Heap.get?_push_of_some _ e,za _ lo (hi - lo).toNat,?_,fun b hb=>?_,q⟩
 ·have e1:lo+((0:Nat):Int)*1=lo:=by simp
  have e2:(((hi - lo).toNat:Nat):Int) - ((0:Nat):Int)=Builtin.Range.rangeSize lo hi 1:=by rw [rangeSize_one];split <;> trivial
  show IsRangeIter _ _ (lo+((0:Nat):Int)*1) ((((hi - lo).toNat:Nat):Int) - ((0:Nat):Int)) 1
  rw [e1,e2]
  exact Heap.get?_push_size _ rfl
 ·have e:b=(s.heap.push { cls:=.type "range",data:=.fields #[.int lo t,.int hi u,.int 1 v] }).objs.size:=by simpa using hb
  subst e
  exact I1.fpOk (Nat.le_refl _) (I1.hok.fresh (Nat.le_refl _))
def Hf (ta:TA):TI:=fun σ H R=>ta σ H fun vs H1=>∃j:Int,vs=[.int j]∧-(2 ^ 62)≤j∧j<2 ^ 62∧R (yN 0 j.toNat) H1
theorem eX {a:Expr}{ta:TA}{p pos:Pos} (hg:Gl X "range") (hm:X.mg "range" = none) (ha:PA X [a] ta) (hs:starEach [a] X.env=[(false,eval a X.env)]:=by rfl):PI X tg (.Call (.Name "range" p) [a] [] pos) (Hf ta):=by
 intro pins s σ H R I h
 refine Call_ (gZ I hg hm boot_range (PyProof.Rows.callWith_type1 (aK (ha pos pins s σ H _ I h) fun us s1 ⟨vs,H1,I1,r1,q1⟩=>?_) hs rfl))
 obtain ⟨j,e,q1,q2,q⟩:=q1
 subst e
 cases r1 with
 | cons r rr=>
  cases rr
  obtain ⟨t,rfl⟩:=r
  exact call_range_1 (BS I1 (by trivial) (by trivial) q1 q2 (by simpa using q))
def ID (wi:TI) (g:TG) (tb:TS):TS:=fun D σ H=>wi σ H fun J H1=>∃W:Nat→Nat→St→Hp→Prop,(∃m,W 0 m σ H1)∧∀i m σ H,W i m σ H→
 (J.stop i H∧D.nx σ H)∨(J.go i H∧∃N:St→Hp→Prop,(∀σ' H',N σ' H'→∃m',m'<m∧W (i+1) m' σ' H')∧∀x H',J.yld i H x H'→g x σ H' fun σ2 H2=>tb { D with nx:=N,ct:=N,bk:=D.nx } σ2 H2)
def ou (fp:List Addr) (h:Heap):List (Addr×Obj):=fp.filterMap fun b=>(h.get? b).map fun o=>(b,o)
theorem iu {fp:List Addr}{h:Heap}{b:Addr}{o:Obj} (hb:b∈fp) (e:h.get? b=some o):(b,o)∈ou fp h:=List.mem_filterMap.mpr ⟨b,hb,by rw [e];rfl⟩
theorem An {fp:List Addr}{h:Heap}{p:Addr×Obj} (hp:p∈ou fp h):p.1∈fp∧h.get? p.1=some p.2:=by
 obtain ⟨b,hb,e⟩:=List.mem_filterMap.mp hp
 cases q:h.get? b with
 | none=>rw [q] at e;cases e
 | some o=>
  rw [q] at e
  have e':(b,o)=p:=Option.some.inj e
  subst e'
  exact ⟨hb,q⟩
theorem ac.pinned {pins:List (Addr×Obj)}{σ:St}{H:Hp}{s:Shared}{fp:List Addr} (I:ac X pins σ H s) (hf:∀b∈fp,ji X pins H b) (ho:∀b∈fp,∃o,s.heap.get? b=some o∧∀v,o.data≠.cell v):ac X (pins++ou fp s.heap) σ H s:=
 I.pins_of fun p hp=>(List.mem_append.mp hp).elim (fun z=>I.pin p (List.mem_append_right _ z)) fun z=>by
  obtain ⟨hb,e⟩:=An z
  obtain ⟨f0,f1,f2,_⟩:=hf p.1 hb
  obtain ⟨o,e',d⟩:=ho p.1 hb
  rw [e] at e';cases e'
  exact ⟨e,f0,f1,f2,d⟩
theorem ac.unpinned {pins pl:List (Addr×Obj)}{σ:St}{H:Hp}{s:Shared} (I:ac X (pins++pl) σ H s):ac X pins σ H s:=I.pins_of fun p hp=>I.pin p (List.mem_append_right _ (List.mem_append_left _ hp))
theorem fM {iter:Expr}{body:List Stmt}{wi:TI}{g:TG}{tb:TS}{pos:Pos} (hp:PassesOwn (model X.prog X.w) X.A X.env X.xe) (hc:X.calm=true) (hi:PI X tg iter wi) (hg:PG X tg g) (hb:kU X body tb)
 (hs:∀x,foldedSetIterable iter X.env x=pure x:=by intro _;rfl):PS X (.For tg iter body [] pos) (ID wi g tb):=by
 intro pins s σ H D I h
 refine wpAny_For (aK (hi pins s σ H _ I h) fun v s1 h1=>aK h1 fun itv s2 h2=>?_) hs
 obtain ⟨it,fp,tn,J,H2,e,I2,T,st2,f2,W,⟨m0,w0⟩,turn⟩:=h2
 subst e
 have stat:∀{H':Hp},(∀b∈fp,H' b=none)→∀b∈fp,ji X pins H' b:=fun hn b hb=>⟨hn b hb,(f2 b hb).2⟩
 refine codeAny_forLoop_any (fun n s'=>∃i σ' H',ac X pins σ' H' s'∧tn i s'.heap∧(∀b∈fp,H' b=none)∧W i n σ' H') ?_ m0 ⟨0,σ,H2,I2,st2,fun b hb=>(f2 b hb).1,w0⟩
 rintro n s3 ⟨i,σ3,H3,I3,st3,fr3,w3⟩
 rcases turn i n σ3 H3 w3 with ⟨stop,qn⟩ | ⟨go,N,hN,step⟩
 ·refine wpAny_passesOwn hp (aK (T.done X rfl rfl rfl hc i pins s3 σ3 H3 X.xe I3 (stat fr3) st3 stop) fun r s4 ⟨hr,I4⟩=>?_)
  subst hr
  exact wpAny_execs_nil ⟨σ3,H3,I4,qn⟩
 ·refine wpAny_passesOwn hp (aK (T.item X rfl rfl rfl hc i pins s3 σ3 H3 X.xe I3 (stat fr3) st3 go) fun r s4 ⟨u,hr,h4⟩=>?_)
  subst hr
  refine wpAny_passesOwn hp (aK h4 fun _ s5 ⟨x,H5,I5,r5,y5,st5,fr5⟩=>?_)
  have I5':=I5.pinned (stat fr5) (T.obj _ _ st5)
  refine wpAny_passesOwn hp (aK (hg _ s5 σ3 H5 x u _ I5' r5 (step x H5 y5)) fun _ s6 ⟨σ6,H6,I6,q6⟩=>?_)
  refine wpAny_passesOwn hp (aK (hb _ s6 σ6 H6 _ I6 q6) fun f s7 q7=>?_)
  have again:∀{σ7:St}{H7:Hp},ac X (pins++ou fp s5.heap) σ7 H7 s7→N σ7 H7→∃m,m<n∧∃i σ' H',ac X pins σ' H' s7∧tn i s7.heap∧(∀b∈fp,H' b=none)∧W i m σ' H':=fun {σ7 H7} I7 n7=>by
   obtain ⟨m',hm,w7⟩:=hN σ7 H7 n7
   refine ⟨m',hm,i+1,σ7,H7,I7.unpinned,T.keep _ _ _ st5 fun b hb o e=>(I7.pin (b,o) (List.mem_append_right _ (List.mem_append_right _ (iu hb e)))).1,fun b hb=>?_,w7⟩
   obtain ⟨o,e,d⟩:=T.obj _ _ st5 b hb
   exact (I7.pin (b,o) (List.mem_append_right _ (List.mem_append_right _ (iu hb e)))).2.1
  cases f with
  | next=>obtain ⟨σ7,H7,I7,n7⟩:=q7;exact again I7 n7
  | cont=>obtain ⟨σ7,H7,I7,n7⟩:=q7;exact again I7 n7
  | brk=>obtain ⟨σ7,H7,I7,q7⟩:=q7;exact ⟨σ7,H7,I7.unpinned,q7⟩
  | ret v=>obtain ⟨x7,σ7,H7,I7,r7,q7⟩:=q7;exact ⟨x7,σ7,H7,I7.unpinned,r7,q7⟩
end
theorem lK {K:PySem.W.Frag}{a:Addr}{xs:List V}{g:TG}{tb:TS}{D:dn}{σ:St}{H:Hp} (Pv:Nat→St→Hp→Prop) (h0:Pv 0 σ H) (hl:∀i σ H,i≤xs.length→Pv i σ H→am K H a xs)
 (hs:∀i x σ H,xs[i]?=some x→Pv i σ H→g x σ H fun σ2 H2=>tb { D with nx:=Pv (i+1),ct:=Pv (i+1),bk:=D.nx } σ2 H2) (hd:∀σ H,Pv xs.length σ H→D.nx σ H) :
 ∃W:Nat→Nat→St→Hp→Prop,(∃m,W 0 m σ H)∧∀i m σ H,W i m σ H→
  ((yp K a).stop i H∧D.nx σ H)∨((yp K a).go i H∧∃N:St→Hp→Prop,(∀σ' H',N σ' H'→∃m',m'<m∧W (i+1) m' σ' H')∧∀x H',(yp K a).yld i H x H'→g x σ H' fun σ2 H2=>tb { D with nx:=N,ct:=N,bk:=D.nx } σ2 H2):=by
 refine ⟨fun i m σ H=>m=xs.length - i∧i≤xs.length∧Pv i σ H,⟨xs.length,by simp,Nat.zero_le _,h0⟩,?_⟩
 rintro i m σ H ⟨rfl,hi,p⟩
 have q:=hl i σ H hi p
 by_cases hlt:i<xs.length
 ·refine .inr ⟨⟨xs,xs[i],q,by simp [hlt]⟩,Pv (i+1),fun σ' H' p'=>⟨xs.length - (i+1),by trivial,rfl,hlt,p'⟩,fun x H' y=>?_⟩
  obtain ⟨e,y⟩:=y
  subst e
  exact hs i x σ _ (y xs q) p
 ·have e:i=xs.length:=by trivial
  subst e
  exact .inl ⟨⟨xs,q,Nat.le_refl _⟩,hd σ H p⟩
theorem EB {K:PySem.W.Frag}{a:Addr}{xs:List V}{g:TG}{tb:TS}{D:dn}{σ:St}{H:Hp} (Pv:Nat→St→Hp→Prop) (h0:Pv 0 σ H) (hl:∀i σ H,i≤xs.length→Pv i σ H→ag K H a xs)
 (hs:∀i x σ H,xs[i]?=some x→Pv i σ H→g x σ H fun σ2 H2=>tb { D with nx:=Pv (i+1),ct:=Pv (i+1),bk:=D.nx } σ2 H2) (hd:∀σ H,Pv xs.length σ H→D.nx σ H) :
 ∃W:Nat→Nat→St→Hp→Prop,(∃m,W 0 m σ H)∧∀i m σ H,W i m σ H→
  ((zZ K a).stop i H∧D.nx σ H)∨((zZ K a).go i H∧∃N:St→Hp→Prop,(∀σ' H',N σ' H'→∃m',m'<m∧W (i+1) m' σ' H')∧∀x H',(zZ K a).yld i H x H'→g x σ H' fun σ2 H2=>tb { D with nx:=N,ct:=N,bk:=D.nx } σ2 H2):=by
 refine ⟨fun i m σ H=>m=xs.length - i∧i≤xs.length∧Pv i σ H,⟨xs.length,by simp,Nat.zero_le _,h0⟩,?_⟩
 rintro i m σ H ⟨rfl,hi,p⟩
 have q:=hl i σ H hi p
 by_cases hlt:i<xs.length
 ·refine .inr ⟨⟨xs,xs[i],q,by simp [hlt]⟩,Pv (i+1),fun σ' H' p'=>⟨xs.length - (i+1),by trivial,rfl,hlt,p'⟩,fun x H' y=>?_⟩
  obtain ⟨e,y⟩:=y
  subst e
  exact hs i x σ _ (y xs q) p
 ·have e:i=xs.length:=by trivial
  subst e
  exact .inl ⟨⟨xs,q,Nat.le_refl _⟩,hd σ H p⟩
theorem ka {lo:Int}{n:Nat}{g:TG}{tb:TS}{D:dn}{σ:St}{H:Hp} (Pv:Nat→St→Hp→Prop) (h0:Pv 0 σ H)
 (hs:∀i σ H,i<n→Pv i σ H→g (.int (lo+i)) σ H fun σ2 H2=>tb { D with nx:=Pv (i+1),ct:=Pv (i+1),bk:=D.nx } σ2 H2) (hd:∀σ H,Pv n σ H→D.nx σ H) :
 ∃W:Nat→Nat→St→Hp→Prop,(∃m,W 0 m σ H)∧∀i m σ H,W i m σ H→
  ((yN lo n).stop i H∧D.nx σ H)∨((yN lo n).go i H∧∃N:St→Hp→Prop,(∀σ' H',N σ' H'→∃m',m'<m∧W (i+1) m' σ' H')∧∀x H',(yN lo n).yld i H x H'→g x σ H' fun σ2 H2=>tb { D with nx:=N,ct:=N,bk:=D.nx } σ2 H2):=by
 refine ⟨fun i m σ H=>m=n - i∧i≤n∧Pv i σ H,⟨n,by simp,Nat.zero_le _,h0⟩,?_⟩
 rintro i m σ H ⟨rfl,hi,p⟩
 by_cases hlt:i<n
 ·refine .inr ⟨hlt,Pv (i+1),fun σ' H' p'=>⟨n - (i+1),by trivial,rfl,hlt,p'⟩,fun x H' y=>?_⟩
  obtain ⟨e,y⟩:=y
  subst e y
  exact hs i σ _ hlt p
 ·have e:i=n:=by trivial
  subst e
  exact .inl ⟨Nat.le_refl _,hd σ H p⟩
end L2
namespace L2
open PySem PySem.Spec PyProof.Rows
abbrev R2:=V→V→Hp→VK→Prop
def cB (X:Cx) (f:Value→Value→Sem Value) (r:R2):Prop:=
 ∀(pins:List (Addr×Obj)) (s:Shared) (σ:St) (H:Hp) (x y:V) (v u:Value) (Q:VK),ac X pins σ H s→aQ x v→aQ y u→r x y H Q→
   wpAny (model X.prog X.w) X.A (f v u) (EP X pins σ Q) X.xe s
def FW (X:Cx) (f:Value→Sem Value) (r:V→Hp→VK→Prop):Prop:=
 ∀(pins:List (Addr×Obj)) (s:Shared) (σ:St) (H:Hp) (x:V) (v:Value) (Q:VK),ac X pins σ H s→aQ x v→r x H Q→
   wpAny (model X.prog X.w) X.A (f v) (EP X pins σ Q) X.xe s
def cn (X:Cx) (f:Value) (r:List V→Hp→VK→Prop):Prop:=
 ∀(pins:List (Addr×Obj)) (s:Shared) (σ:St) (H:Hp) (xs:List V) (us:List Value) (Q:VK),ac X pins σ H s→aC xs us→r xs H Q→
   wpAny (model X.prog X.w) X.A (call f us) (EP X pins σ Q) X.xe s
def C6 (r:R2) (ta tb:TE):TE:=fun σ H Q=>ta σ H fun x H1=>tb σ H1 fun y H2=>r x y H2 Q
def Jx (r:V→Hp→VK→Prop) (ta:TE):TE:=fun σ H Q=>ta σ H fun x H1=>r x H1 Q
inductive Jr (C:Int→Int→Prop) (g:Int→Int→V) (x:V) (y:V) (H:Hp) (Q:VK):Prop
 | mk (i:_) (j:_) (h0:x=.int i) (h1:y=.int j) (h2:C i j) (h3:Q (g i j) H)
def rI (C:Int→Int→Prop) (g:Int→Int→V):R2:=fun x y H Q=>Jr C g x y H Q
inductive IK (g:Int→Int→V) (x:V) (y:V) (H:Hp) (Q:VK):Prop
 | mk (i:_) (j:_) (h0:x=.int i) (h1:y=.int j) (h2:Q (g i j) H)
def xB (g:Int→Int→V):R2:=fun x y H Q=>IK g x y H Q
def rU (g:Int→V):V→Hp→VK→Prop:=fun x H Q=>Ft x fun i=>Q (g i) H
section
variable {X:Cx}{a b c:Expr}{ta tb tc:TE}{pos:Pos}
theorem BA (ha:PE X a ta) (hb:PE X b tb) {pins:List (Addr×Obj)}{s:Shared}{σ:St}{H:Hp}{R:V→V→Hp→Prop} (I:ac X pins σ H s)
 (h:ta σ H fun x H1=>tb σ H1 fun y H2=>R x y H2) {Q:Value→Shared→Prop}{f:Value→Value→Sem Value}
 (hf:∀v u s2 x y H2,ac X pins σ H2 s2→aQ x v→aQ y u→R x y H2→wpAny (model X.prog X.w) X.A (f v u) Q X.xe s2) :
 wpAny (model X.prog X.w) X.A (eval a X.env) (fun v s₁=>wpAny (model X.prog X.w) X.A (eval b X.env) (fun u s₂=>wpAny (model X.prog X.w) X.A (f v u) Q X.xe s₂) X.xe s₁) X.xe s:=by
 refine aK (ha pins s σ H _ I h) fun v s1 ⟨x,H1,I1,r1,q1⟩=>?_
 refine aK (hb pins s1 σ H1 _ I1 q1) fun u s2 ⟨y,H2,I2,r2,q2⟩=>?_
 exact hf v u s2 x y H2 I2 r1 r2 q2
theorem ak {op:Operator}{r:R2} (ho:cB X (binaryOp op) r) (ha:PE X a ta) (hb:PE X b tb):PE X (.BinOp a op b pos) (C6 r ta tb):=by
 intro pins s σ H Q I h
 exact wpAny_BinOp (BA ha hb I h fun v u s2 x y H2 I2 rx ry q=>ho pins s2 σ H2 x y v u Q I2 rx ry q)
theorem pz {op:UnaryOp}{r:V→Hp→VK→Prop} (ho:FW X (unaryOp op) r) (ha:PE X a ta):PE X (.UnaryOp op a pos) (Jx r ta):=by
 intro pins s σ H Q I h
 exact UnaryOp_ (aK (ha pins s σ H _ I h) fun v s1 ⟨x,H1,I1,r1,q1⟩=>ho pins s1 σ H1 x v Q I1 r1 q1)
theorem vy {f:Value→Value→Sem Value}{C:Int→Int→Prop}{g:Int→Int→Int}
 (rule:∀(i j:Int) (t u:Tok) (s:Shared) (Q:Value→Shared→Prop) (E:Value→Shared→Prop),C i j→Q (.int (g i j) s.toks) { s with toks:=s.toks+1 }→wpAny (model X.prog X.w) X.A (f (.int i t) (.int j u)) Q E s) :
 cB X f (rI C fun i j=>.int (g i j)):=by
 intro pins s σ H x y v u Q I rx ry h
 obtain ⟨i,j,rfl,rfl,hc,q⟩:=h
 obtain ⟨t,rfl⟩:=rx
 obtain ⟨t',rfl⟩:=ry
 exact rule i j t t' s _ _ hc ⟨.int (g i j),H,I.tok _,⟨_,rfl⟩,q⟩
theorem Gc {f:Value→Value→Sem Value}{g:Int→Int→Int}
 (rule:∀(i j:Int) (t u:Tok) (s:Shared) (Q:Value→Shared→Prop) (E:Value→Shared→Prop),Q (.int (g i j) s.toks) { s with toks:=s.toks+1 }→wpAny (model X.prog X.w) X.A (f (.int i t) (.int j u)) Q E s) :
 cB X f (xB fun i j=>.int (g i j)):=by
 intro pins s σ H x y v u Q I rx ry h
 obtain ⟨i,j,rfl,rfl,q⟩:=h
 obtain ⟨t,rfl⟩:=rx
 obtain ⟨t',rfl⟩:=ry
 exact rule i j t t' s _ _ ⟨.int (g i j),H,I.tok _,⟨_,rfl⟩,q⟩
theorem BY {f:Value→Value→Sem Value}{g:Int→Int→Bool}
 (rule:∀(i j:Int) (t u:Tok) (s:Shared) (Q:Value→Shared→Prop) (E:Value→Shared→Prop),Q (.bool (g i j)) s→wpAny (model X.prog X.w) X.A (f (.int i t) (.int j u)) Q E s) :
 cB X f (xB fun i j=>.bl (g i j)):=by
 intro pins s σ H x y v u Q I rx ry h
 obtain ⟨i,j,rfl,rfl,q⟩:=h
 obtain ⟨t,rfl⟩:=rx
 obtain ⟨t',rfl⟩:=ry
 exact rule i j t t' s _ _ ⟨.bl (g i j),H,I,rfl,q⟩
def Jg (i j:Int):Prop:=0<j∧j<1073741824
def IG (i j:Int):Prop:=0≤j∧j≤1000000∧i.natAbs<2 ^ 64
def Co (i j:Int):Prop:=(-(2 ^ 64)<i∧i<2 ^ 64)∨(-(2 ^ 64)<j∧j<2 ^ 64)
theorem Co.ok {i j:Int} (h:Co i j):IntMulOk i j:=by
 rcases h with ⟨h1,h2⟩ | ⟨h1,h2⟩
 ·exact .of_left (intBits_le_64 h1 h2)
 ·exact .of_right (intBits_le_64 h1 h2)
theorem bH:cB X (binaryOp .Add) (xB fun i j=>.int (i+j)):=Gc fun _ _ _ _ _ _ _ q=>add_int q
theorem jw:cB X (binaryOp .Sub) (xB fun i j=>.int (i - j)):=Gc fun _ _ _ _ _ _ _ q=>sub_int q
theorem gc:cB X (binaryOp .Mult) (rI Co fun i j=>.int (i*j)):=vy fun _ _ _ _ _ _ _ hc q=>mul_int q hc.ok
theorem Ex:cB X (binaryOp .FloorDiv) (rI Jg fun i j=>.int (i / j)):=vy fun i j _ _ _ _ _ hc q=>by
 have h1:(0:Int)<j:=hc.1
 have h2:j<1073741824:=hc.2
 exact floordiv_int (by trivial) (by rw [Int.fdiv_eq_ediv_of_nonneg i (by trivial)];exact q) (.inl (PyProof.noPylong_small (by trivial)))
theorem ig:cB X (binaryOp .Mod) (rI (fun _ j=>0<j) fun i j=>.int (i % j)):=vy fun i j _ _ _ _ _ hc q=>by
 have h1:(0:Int)<j:=hc
 exact mod_int' (by trivial) (by rw [Int.fmod_eq_emod_of_nonneg i (by trivial)];exact q)
theorem Dk:cB X (binaryOp .Mod) (rI (fun _ j=>j≠0) fun i j=>.int (i.fmod j)):=vy fun _ _ _ _ _ _ _ hc q=>mod_int' hc q
theorem xS:cB X (binaryOp .Pow) (rI IG fun i j=>.int (i ^ j.toNat)):=vy fun _ _ _ _ _ _ _ hc q=>pow_int_small hc.1 hc.2.1 hc.2.2 q
theorem Jp {f:Value→Sem Value}{g:Int→Int}
 (rule:∀(i:Int) (t:Tok) (s:Shared) (Q:Value→Shared→Prop) (E:Value→Shared→Prop),Q (.int (g i) s.toks) { s with toks:=s.toks+1 }→wpAny (model X.prog X.w) X.A (f (.int i t)) Q E s) :
 FW X f (rU fun i=>.int (g i)):=by
 intro pins s σ H x v Q I rx h
 obtain ⟨i,rfl,q⟩:=h
 obtain ⟨t,rfl⟩:=rx
 exact rule i t s _ _ ⟨.int (g i),H,I.tok _,⟨_,rfl⟩,q⟩
theorem lV:FW X (unaryOp .USub) (rU fun i=>.int (-i)):=Jp fun _ _ _ _ _ q=>neg_int q
end
def Fn:V→V→Bool
 | .non,.non=>true | .non,.int _=>true | .int _,.non=>true | .non,.bl _=>true | .bl _,.non=>true | .non,.str _=>true | .str _,.non=>true
 | .int _,.int _=>true | .bl _,.bl _=>true | .str _,.str _=>true | .byt _,.byt _=>true
 | .int _,.str _=>true | .str _,.int _=>true | .bl _,.str _=>true | .str _,.bl _=>true
 | _,_=>false
def Jn:R2:=fun x y H Q=>Fn x y=true∧Q (.bl (decide (x=y))) H
def JA:R2:=fun x y H Q=>Fn x y=true∧Q (.bl (!decide (x=y))) H
theorem yH {i j:Int}:decide (V.int i=V.int j)=(i==j):=by
 rw [Bool.eq_iff_iff]
 simp
theorem AN {i j:Bool}:decide (V.bl i=V.bl j)=(i==j):=by
 rw [Bool.eq_iff_iff]
 simp
theorem yo {i j:Str}:decide (V.str i=V.str j)=(i==j):=by
 rw [Bool.eq_iff_iff]
 simp
theorem yu {i j:Array UInt8}:decide (V.byt i=V.byt j)=(i.toList==j.toList):=by
 rw [Bool.eq_iff_iff]
 cases i
 cases j
 simp
section
variable {X:Cx}{a b c:Expr}{ta tb tc:TE}{pos:Pos}
theorem bn {pins:List (Addr×Obj)}{σ:St}{H:Hp}{s:Shared}{Q:VK}{k k':Bool} (I:ac X pins σ H s) (q:Q (.bl k) H) (e:k=k'):EP X pins σ Q (.bool k') s:=by
 subst e
 exact ⟨.bl k,H,I,rfl,q⟩
theorem cP:cB X (compareOp .Eq) Jn:=by
 intro pins s σ H x y v u Q I rx ry h
 obtain ⟨hs,q⟩:=h
 cases x with
 | non=>
  cases rx
  cases y with
  | non=>cases ry;exact PySem.EqNone.eq_none_none (bn I q (by simp))
  | bl j=>cases ry;exact PySem.EqNone.eq_none_bool (bn I q (by simp))
  | int j=>obtain ⟨t',rfl⟩:=ry;exact PySem.EqNone.eq_none_int (bn I q (by simp))
  | str j=>obtain ⟨t',rfl⟩:=ry;exact PySem.EqNone.eq_none_str (bn I q (by simp))
  | _=>exact absurd (show false=true from hs) Bool.false_ne_true
 | bl i=>
  cases rx
  cases y with
  | non=>cases ry;exact PySem.EqNone.eq_bool_none (bn I q (by simp))
  | bl j=>cases ry;exact eq_bool (bn I q AN)
  | str j=>obtain ⟨t',rfl⟩:=ry;exact PySem.EqMixed.eq_bool_str (bn I q (by simp))
  | _=>exact absurd (show false=true from hs) Bool.false_ne_true
 | int i=>
  obtain ⟨t,rfl⟩:=rx
  cases y with
  | non=>cases ry;exact PySem.EqNone.eq_int_none (bn I q (by simp))
  | int j=>obtain ⟨t',rfl⟩:=ry;exact eq_int (bn I q yH)
  | str j=>obtain ⟨t',rfl⟩:=ry;exact PySem.EqMixed.eq_int_str (bn I q (by simp))
  | _=>exact absurd (show false=true from hs) Bool.false_ne_true
 | str i=>
  obtain ⟨t,rfl⟩:=rx
  cases y with
  | non=>cases ry;exact PySem.EqNone.eq_str_none (bn I q (by simp))
  | bl j=>cases ry;exact PySem.EqMixed.eq_str_bool (bn I q (by simp))
  | int j=>obtain ⟨t',rfl⟩:=ry;exact PySem.EqMixed.eq_str_int (bn I q (by simp))
  | str j=>obtain ⟨t',rfl⟩:=ry;exact eq_str (bn I q yo)
  | _=>exact absurd (show false=true from hs) Bool.false_ne_true
 | byt i=>
  obtain ⟨t,rfl⟩:=rx
  cases y with
  | byt j=>obtain ⟨t',rfl⟩:=ry;exact PySem.W.eq_bytes (bn I q yu)
  | _=>exact absurd (show false=true from hs) Bool.false_ne_true
 | _=>cases y <;> exact absurd (show false=true from hs) Bool.false_ne_true
theorem jo:cB X (compareOp .NotEq) JA:=by
 intro pins s σ H x y v u Q I rx ry h
 obtain ⟨hs,q⟩:=h
 cases x with
 | non=>
  cases rx
  cases y with
  | non=>cases ry;exact PySem.EqNone.ne_none_none (bn I q (by simp))
  | bl j=>cases ry;exact PySem.EqNone.ne_none_bool (bn I q (by simp))
  | int j=>obtain ⟨t',rfl⟩:=ry;exact PySem.EqNone.ne_none_int (bn I q (by simp))
  | str j=>obtain ⟨t',rfl⟩:=ry;exact PySem.EqNone.ne_none_str (bn I q (by simp))
  | _=>exact absurd (show false=true from hs) Bool.false_ne_true
 | bl i=>
  cases rx
  cases y with
  | non=>cases ry;exact PySem.EqNone.ne_bool_none (bn I q (by simp))
  | bl j=>cases ry;exact ne_bool (bn I q (congrArg not AN))
  | str j=>obtain ⟨t',rfl⟩:=ry;exact PySem.EqMixed.ne_bool_str (bn I q (by simp))
  | _=>exact absurd (show false=true from hs) Bool.false_ne_true
 | int i=>
  obtain ⟨t,rfl⟩:=rx
  cases y with
  | non=>cases ry;exact PySem.EqNone.ne_int_none (bn I q (by simp))
  | int j=>obtain ⟨t',rfl⟩:=ry;exact ne_int (bn I q (congrArg not yH))
  | str j=>obtain ⟨t',rfl⟩:=ry;exact PySem.EqMixed.ne_int_str (bn I q (by simp))
  | _=>exact absurd (show false=true from hs) Bool.false_ne_true
 | str i=>
  obtain ⟨t,rfl⟩:=rx
  cases y with
  | non=>cases ry;exact PySem.EqNone.ne_str_none (bn I q (by simp))
  | bl j=>cases ry;exact PySem.EqMixed.ne_str_bool (bn I q (by simp))
  | int j=>obtain ⟨t',rfl⟩:=ry;exact PySem.EqMixed.ne_str_int (bn I q (by simp))
  | str j=>obtain ⟨t',rfl⟩:=ry;exact ne_str (bn I q (congrArg not yo))
  | _=>exact absurd (show false=true from hs) Bool.false_ne_true
 | byt i=>
  obtain ⟨t,rfl⟩:=rx
  cases y with
  | byt j=>obtain ⟨t',rfl⟩:=ry;exact PySem.W.ne_bytes (bn I q (congrArg not yu))
  | _=>exact absurd (show false=true from hs) Bool.false_ne_true
 | _=>cases y <;> exact absurd (show false=true from hs) Bool.false_ne_true
theorem lh:cB X (compareOp .Lt) (xB fun i j=>.bl (decide (i<j))):=BY fun _ _ _ _ _ _ _ q=>lt_int q
theorem lc:cB X (compareOp .Gt) (xB fun i j=>.bl (decide (j<i))):=BY fun _ _ _ _ _ _ _ q=>gt_int q
theorem Ht:cB X (compareOp .GtE) (xB fun i j=>.bl (decide (j≤i))):=BY fun _ _ _ _ _ _ _ q=>ge_int q
theorem jr:cB X (compareOp .Is) (fun x y H Q=>y=.non∧Q (.bl (decide (x=.non))) H):=by
 intro pins s σ H x y v u Q I rx ry h
 obtain ⟨rfl,q⟩:=h
 cases ry
 refine is_none_gen (bn I q ?_)
 cases x <;> first
  | (cases rx;rfl)
  | (obtain ⟨t,rfl⟩:=rx;rfl)
theorem rK:cB X (compareOp .IsNot) (fun x y H Q=>y=.non∧Q (.bl (!decide (x=.non))) H):=by
 intro pins s σ H x y v u Q I rx ry h
 obtain ⟨rfl,q⟩:=h
 cases ry
 refine isnot_none_gen (bn I q ?_)
 cases x <;> first
  | (cases rx;rfl)
  | (obtain ⟨t,rfl⟩:=rx;rfl)
theorem au (b:Expr) {op:CmpOp} (h:op≠.In:=by decide) (h2:op≠.NotIn:=by decide):behindInMarks op b=false:=by
 have e1:(op==CmpOp.In)=false:=by cases op <;> first | rfl | exact absurd rfl h
 have e2:(op==CmpOp.NotIn)=false:=by cases op <;> first | rfl | exact absurd rfl h2
 cases b <;> simp [behindInMarks,e1,e2]
theorem cI {op:CmpOp}{r:R2} (ho:cB X (compareOp op) r) (ha:PE X a ta) (hb:PE X b tb) (hm:behindInMarks op b=false):PE X (.Compare a [op] [b] pos) (C6 r ta tb):=by
 intro pins s σ H Q I h
 exact wpAny_Compare1 (BA ha hb I h fun v u s2 x y H2 I2 rx ry q=>ho pins s2 σ H2 x y v u Q I2 rx ry q) hm
def HR (t:TE):TT:=fun σ H Q=>t σ H fun x H'=>u8 x fun k=>Q k H'
theorem aq {op:CmpOp}{r:R2} (ho:cB X (compareOp op) r) (ha:PE X a ta) (hb:PE X b tb) (hm:behindInMarks op b=false):PT X (.Compare a [op] [b] pos) (HR (C6 r ta tb)):=by
 intro pins s σ H Q I h
 refine wpAny_isTrue_Compare1 (aK (ha pins s σ H _ I h) fun v s1 ⟨x,H1,I1,r1,q1⟩=>aK (hb pins s1 σ H1 _ I1 q1) fun u s2 ⟨y,H2,I2,r2,q2⟩=>
  aK (ho pins s2 σ H2 x y v u _ I2 r1 r2 q2) fun c s3 ⟨z,H3,I3,r3,k,e,q3⟩=>?_) hm
 subst e
 cases r3
 exact wpAny_truthy_bool ⟨H3,I3,q3⟩
def Fg (r r':R2) (ta tb tc:TE):TE:=fun σ H Q=>ta σ H fun x H1=>tb σ H1 fun y H2=>r x y H2 fun z H3=>u8 z fun k=>
 (if k=true then tc σ H3 fun w' H4=>r' y w' H4 Q else Q (.bl false) H3)
theorem Ck {op op':CmpOp}{r r':R2} (ho:cB X (compareOp op) r) (ho':cB X (compareOp op') r') (ha:PE X a ta) (hb:PE X b tb) (hc:PE X c tc)
 (hm:lastMarks [op,op'] [b,c]=false:=by with_unfolding_all rfl):PE X (.Compare a [op,op'] [b,c] pos) (Fg r r' ta tb tc):=by
 intro pins s σ H Q I h
 refine Compare_chain (aK (ha pins s σ H _ I h) fun v s1 ⟨x,H1,I1,r1,q1⟩=>chain_link (aK (hb pins s1 σ H1 _ I1 q1) fun u s2 ⟨y,H2,I2,r2,q2⟩=>
  aK (ho pins s2 σ H2 x y v u _ I2 r1 r2 q2) fun d s3 ⟨z,H3,I3,r3,k,e,q3⟩=>?_)) hm
 subst e
 cases r3
 refine wpAny_truthy_bool ?_
 cases k with
 | false=>exact ite_ff ⟨.bl false,H3,I3,rfl,q3⟩
 | true=>exact ite_tt (chain_last (aK (hc pins s3 σ H3 _ I3 q3) fun w' s4 ⟨z',H4,I4,r4,q4⟩=>ho' pins s4 σ H4 y z' u w' Q I4 r2 r4 q4))
theorem qO:(sizeLine:Nat)<2 ^ 63:=by rw [sizeLine_eq];decide
theorem yQ:cB X (binaryOp .Add) (fun x y H Q=>aW fun i j=>x=.str i∧y=.str j∧i.length+j.length≤sizeLine∧Q (.str (i++j)) H):=by
 intro pins s σ H x y v u Q I rx ry h
 obtain ⟨i,j,rfl,rfl,hz,q⟩:=h
 obtain ⟨t,rfl⟩:=rx
 obtain ⟨t',rfl⟩:=ry
 exact add_str (fun t' tk=>⟨.str (i++j),H,I.tok _,⟨_,rfl⟩,q⟩) hz
theorem pj {x:V}{us:List Value} (r:aC [x] us):∃u,us=[u]∧aQ x u:=by
 cases r with
 | cons r1 r2=>cases r2;exact ⟨_,rfl,r1⟩
theorem ut {x y:V}{us:List Value} (r:aC [x,y] us):aW fun u w'=>us=[u,w']∧aQ x u∧aQ y w':=by
 cases r with
 | cons r1 r2=>
  cases r2 with
  | cons r3 r4=>cases r4;exact ⟨_,_,rfl,r1,r3⟩
theorem lY:cn X (.builtin "abs") (fun xs H Q=>∃i,xs=[.int i]∧Q (.int (if i<0 then -i else i)) H):=by
 intro pins s σ H xs us Q I r h
 obtain ⟨i,rfl,q⟩:=h
 obtain ⟨u,rfl,t,rfl⟩:=pj r
 exact call_abs_int fun u tk=>⟨.int (if i<0 then -i else i),H,I.tok _,⟨_,rfl⟩,q⟩
theorem zY (hc:X.calm=true):cn X (.builtin "max") (fun xs H Q=>aW fun i j=>xs=[.int i,.int j]∧Q (.int (if j > i then j else i)) H):=by
 intro pins s σ H xs us Q I r h
 obtain ⟨i,j,rfl,q⟩:=h
 obtain ⟨u,w',rfl,⟨t,rfl⟩,⟨t',rfl⟩⟩:=ut r
 refine max_two_ints (I.ok.hd hc) fun h' tk k=>⟨_,H,I.kept k,?_,q⟩
 by_cases hj:j > i
 ·rw [if_pos hj,if_pos hj];exact ⟨_,rfl⟩
 ·rw [if_neg hj,if_neg hj];exact ⟨_,rfl⟩
theorem vH:cn X (.type "int") (fun xs H Q=>(∃i,xs=[.int i]∧Q (.int i) H)∨∃k,xs=[.bl k]∧Q (.int (if k then 1 else 0)) H):=by
 intro pins s σ H xs us Q I r h
 rcases h with ⟨i,rfl,q⟩ | ⟨k,rfl,q⟩
 ·obtain ⟨u,rfl,t,rfl⟩:=pj r
  exact call_int_int ⟨.int i,H,I,⟨_,rfl⟩,q⟩
 ·obtain ⟨u,rfl,r1⟩:=pj r
  cases r1
  exact call_int_bool ⟨.int (if k then 1 else 0),H,I.tok _,⟨_,rfl⟩,q⟩
end
end L2
namespace L2
open PySem PySem.Spec PyProof.Rows
structure BQ (h:Heap) (x dx C:Addr) (mA:Str→Option Value):Prop where
 obj:h.get? x=some (PySem.W.instObj C dx)
 ns:h.Ns1 dx mA
 ne:dx≠x
theorem va {h:Heap}{dx:Addr}{mA:Str→Option Value} (n:h.Ns1 dx mA):∃od,h.get? dx=some od∧∀name,PySem.W.lookIn name od=some (mA name):=by
 obtain ⟨o,es,ep,ho,hd,hk,_,hm⟩:=n
 refine ⟨o,ho,fun name=>?_⟩
 have e:=hm name
 unfold nsFind findBy at e
 rw [←Array.find?_toList] at e
 unfold PySem.W.lookIn
 rw [hd]
 dsimp only
 split
 ·rename_i y q
  rw [q] at e
  exact congrArg some e
 ·rename_i q
  rw [q] at e
  have a:es.toList.any (·.refKey)=false:=by
   rw [List.any_eq_false]
   intro y hy
   obtain ⟨z,t,hkey⟩:=hk y (Array.mem_toList_iff.mp hy)
   simp [DictEntry.refKey,hkey]
  have a':¬es.toList.any (·.refKey)=true:=by rw [a];exact Bool.false_ne_true
  rw [if_neg a']
  exact congrArg some e
theorem BQ.look {h:Heap}{x dx C:Addr}{mA:Str→Option Value} (I:BQ h x dx C mA):∃od,PySem.W.InstAt h x (PySem.W.instObj C dx) C (some od)∧∀name,PySem.W.lookIn name od=some (mA name):=
 let ⟨od,ho,hl⟩:=va I.ns
 ⟨od,⟨I.obj,rfl,rfl,ho⟩,hl⟩
section
variable {prog:Program}{w:World}{A:Around}{E:Value→Shared→Prop}{s:Shared}{K:PySem.W.Frag}{x dx C f:Addr}{mA:Str→Option Value}{name:Str}{v:Value}
end
theorem qK.some_of {v:V}{o:Option Value} (r:qK (some v) o):∃u,o=some u∧aQ v u:=by
 cases o with
 | none=>exact (show False from r).elim
 | some u=>exact ⟨u,rfl,r⟩
theorem AR {v:V}{u:Value} (r:aQ v u):PySem.W.handedIn u=true:=by
 cases v with
 | non=>cases (show u=Value.none from r);rfl
 | bl b=>cases (show u=Value.bool b from r);rfl
 | int i=>obtain ⟨t,e⟩:=(show ∃t,u=Value.int i t from r);cases e;rfl
 | str x=>obtain ⟨t,e⟩:=(show ∃t,u=Value.str x t from r);cases e;rfl
 | byt b=>obtain ⟨t,e⟩:=(show ∃t,u=Value.bytes b t from r);cases e;rfl
 | flt b=>obtain ⟨t,e⟩:=(show ∃t,u=Value.float b t from r);cases e;rfl
 | ref a=>cases (show u=Value.ref a from r);rfl
 | ty n=>cases (show u=Value.type n from r);rfl
section
variable {P:Program}{w:World}{H H':Hp}{h h':Heap}{a C dx:Addr}{fs fs':List (Str×V)}
theorem EF (hok:dL P w H h) (e:H a=some (.ins C dx fs)):∃mA,BQ h a dx C mA∧(∀f,qK (fs.lookup f) (mA f))∧PySem.Within mA (fs.map (·.1))∧fs.length≤1000∧H dx=some (.own a):=by
 obtain ⟨d,z,ne,ob,mA,n,r,q⟩:=(show aV P w H h a (.ins C dx fs) from hok a _ e)
 exact ⟨mA,⟨ob,n,ne⟩,r,q,z,d⟩
end
structure FM (K:PySem.W.Frag) (C:Addr):Prop where
 pg:PySem.W.plainGet K C Str.empty=true
 hd:PySem.W.hasDictIn K C=true
 po:PySem.W.plainOver K C=true
 sa:PySem.W.findIn K (.ref C) "__setattr__" = some (some (.builtin "object.__setattr__"))
theorem FM.get {K:PySem.W.Frag}{C:Addr} (c:FM K C) (f:Str):PySem.W.plainGet K C f=true:=c.pg
section
variable {X:Cx}{pins:List (Addr×Obj)}{σ:St}{H:Hp}{s:Shared}{a C dx:Addr}{fs:List (Str×V)}{f:Str}{v:V}{A:Around}{E:Value→Shared→Prop}
theorem EA {prog:Program}{w:World}{env:Env}{e:Expr}{f:Str}{pos:Pos}{s:Shared}{Q:Value→Shared→Prop} (hb:attributeBase e f env (eval e env)=eval e env)
 (h:wpAny (model prog w) A (eval e env) (fun o s₁=>wpAny (model prog w) A (getAttr o f true) Q E s₁) E s):wpAny (model prog w) A (eval (.Attribute e f pos) env) Q E s:=
 Attribute_any_ h (by rw [arm_eval_Attribute,hb])
end
section
variable {X:Cx}{o e value:Expr}{f:Str}{pos pos' tpos:Pos}{ta tv:TE}
end
section
variable {X:Cx}{pins:List (Addr×Obj)}{σ:St}{H:Hp}{s:Shared}{A:Around}{E:Value→Shared→Prop}{Q:Value→Shared→Prop}{c:Value}{b:Bool}
inductive iS (K:PySem.W.Frag) (H:Hp):V→Value→Prop where
 | non:iS K H .non (.type "NoneType")
 | bl (x:Bool):iS K H (.bl x) (.type "bool")
 | int (i:Int):iS K H (.int i) (.type "int")
 | str (x:Str):iS K H (.str x) (.type "str")
 | flt (x:UInt64):iS K H (.flt x) (.type "float")
 | lst {a:Addr}{xs:List V} (e:H a=some (.lst xs)):iS K H (.ref a) (.type "list")
 | frz {a:Addr}{o:Obj}{xs:List V} (e:H a=some (.frz o (.lst xs))):iS K H (.ref a) (.type "list")
 | tup {a:Addr}{xs:List V} (e:H a=some (.tup xs)):iS K H (.ref a) (.type "tuple")
 | dK {a:Addr}{kvs:List (aJ×V)} (e:H a=some (.dK kvs)):iS K H (.ref a) (.type "dict")
 | dT {a:Addr}{kvs:List (List aJ×V)} (e:H a=some (.dT kvs)):iS K H (.ref a) (.type "dict")
 | ins {a C dx:Addr}{fs:List (Str×V)} (e:H a=some (.ins C dx fs)) (cl:FM K C) (ha:PySem.W.findIn K (.ref C) "__class__" = some (some (.builtin "object.__class__")))
  (hn:PySem.W.specialIn K (.builtin "object.__class__") "__get__" = some (some (.builtin "getset_descriptor.__get__"))) (htk:PySem.W.takesIn K (.builtin "object.__class__")=some true)
  (hm:PySem.W.mroIn K C (.type "object")=some true):iS K H (.ref a) (.ref C)
theorem AE {x:V}{u t:Value} (I:ac X pins σ H s) (rx:aQ x u) (ty:iS X.K H x t) (e:PySem.W.kitOne X.K t c=some b) (h:∀tk,Q (.bool b) { s with toks:=tk }) :
 wpAny (model X.prog X.w) A (call (.builtin "isinstance") [u,c]) Q E s:=by
 cases ty with
 | non=>cases (show u=Value.none from rx);exact PySem.W.kia_one PySem.W.kitx_none I.kIn True.intro e (fun z=>nomatch z) h
 | bl y=>cases (show u=Value.bool y from rx);exact PySem.W.kia_one PySem.W.kitx_bool I.kIn True.intro e (fun z=>nomatch z) h
 | int i=>obtain ⟨t,q⟩:=(show ∃t,u=Value.int i t from rx);cases q;exact PySem.W.kia_one PySem.W.kitx_int I.kIn True.intro e (fun z=>nomatch z) h
 | str y=>obtain ⟨t,q⟩:=(show ∃t,u=Value.str y t from rx);cases q;exact PySem.W.kia_one PySem.W.kitx_str I.kIn True.intro e (fun z=>nomatch z) h
 | flt y=>obtain ⟨t,q⟩:=(show ∃t,u=Value.float y t from rx);cases q;exact PySem.W.kia_one PySem.W.kitx_float I.kIn True.intro e (fun z=>nomatch z) h
 | @lst a xs ea=>
  cases (show u=Value.ref a from rx)
  obtain ⟨_,_,n,_,h1⟩:=(show aV X.prog X.w H s.heap a (.lst xs) from I.hok a _ ea)
  exact PySem.W.kia_one PySem.W.kitx_list I.kIn ⟨_,h1,rfl⟩ e (fun z=>nomatch z) h
 | @frz a ob xs ea=>
  cases (show u=Value.ref a from rx)
  obtain ⟨_,_,_,n,_,h1⟩:=(show aV X.prog X.w H s.heap a (.frz ob (.lst xs)) from I.hok a _ ea)
  exact PySem.W.kia_one PySem.W.kitx_list I.kIn ⟨_,h1,rfl⟩ e (fun z=>nomatch z) h
 | @tup a xs ea=>
  cases (show u=Value.ref a from rx)
  obtain ⟨_,_,_,p,_⟩:=(show aV X.prog X.w H s.heap a (.tup xs) from I.hok a _ ea)
  obtain ⟨o,h1,h2,_⟩:=p
  exact PySem.W.kia_one PySem.W.kitx_tuple I.kIn ⟨o,h1,h2⟩ e (fun z=>nomatch z) h
 | @dK a kvs ea=>
  cases (show u=Value.ref a from rx)
  obtain ⟨_,_,vs,_,p⟩:=(show aV X.prog X.w H s.heap a (.dK kvs) from I.hok a _ ea)
  obtain ⟨o,es,ep,h1,h2,_⟩:=p
  exact PySem.W.kia_one PySem.W.kitx_dict I.kIn ⟨o,h1,h2.1⟩ e (fun z=>nomatch z) h
 | @dT a kvs ea=>
  cases (show u=Value.ref a from rx)
  obtain ⟨_,_,xs,_,o,es,ep,h1,h2,_⟩:=(show aV X.prog X.w H s.heap a (.dT kvs) from I.hok a _ ea)
  exact PySem.W.kia_one PySem.W.kitx_dict I.kIn ⟨o,h1,h2.1⟩ e (fun z=>nomatch z) h
 | @ins a C dx fs ea cl ha hn htk hm=>
  cases (show u=Value.ref a from rx)
  obtain ⟨mA,O,_⟩:=EF I.hok ea
  obtain ⟨od,J,_⟩:=O.look
  exact PySem.W.kia_one (PySem.W.kitx_own (cl.get _) cl.hd ha hn htk hm) I.kIn J e (fun z=>nomatch z) h
end
end L2
namespace L2
open PySem PySem.Spec PyProof.Rows
structure cN (k:Nat) (A:Around):Prop where
 hd:A.handled=none
 dp:A.depth+3*k+5<recursionLimit
 un:A.units+16*k+200<cLine
 gd:A.guards=some []
theorem cN.mono {j k:Nat}{A:Around} (r:cN k A) (h:j≤k):cN j A:=⟨r.hd,by have:=r.dp;trivial,by have:=r.un;trivial,r.gd⟩
theorem cN.deeper {k:Nat}{A:Around} (r:cN (k+1) A) (env:Env):cN k (A.deeper env):=
 ⟨r.hd,by have:=r.dp;show A.depth+1+3*k+5<_;trivial,by have:=r.un;show A.units+3+16*k+200<_;trivial,r.gd⟩
theorem zO {A:Around}{C:Addr}{us:List Value}{kw:List (Str×Value)}:(A.under (.builtin "type.__call__" ⟨.ref C :: us,kw⟩)).depth=A.depth+1:=by
 first | rfl | simp [Around.under,Code.weight,Code.isCreation,Code.isGuard,Code.isCaller,Code.frames,Code.isFrame,guardIds]
theorem yY {A:Around}{C:Addr}{us:List Value}{kw:List (Str×Value)}:(A.under (.builtin "type.__call__" ⟨.ref C :: us,kw⟩)).units=A.units+1:=by
 first | rfl | simp [Around.under,Code.cUnits,Code.frames,Code.isFrame]
theorem cN.make {k:Nat}{A:Around} (r:cN (k+1) A) (C:Addr) (us:List Value) (kw:List (Str×Value)):cN k (A.under (.builtin "type.__call__" ⟨.ref C :: us,kw⟩)):=
 ⟨r.hd,by have:=r.dp;rw [zO];trivial,by have:=r.un;rw [yY];trivial,r.gd⟩
theorem cN.depth {k:Nat}{A:Around} (r:cN k A):A.depth<recursionLimit:=by have:=r.dp;trivial
theorem cN.units {k:Nat}{A:Around} (r:cN k A):A.units+64<cLine:=by have:=r.un;trivial
def I0:TA:=fun _ H Q=>Q [] H
def CU (ta:TE) (tr:TA):TA:=fun σ H Q=>ta σ H fun x H1=>tr σ H1 fun xs H2=>Q (x :: xs) H2
section
variable {X:Cx}{e:Expr}{es:List Expr}{te:TE}{t:TA}{pos:Pos}
theorem b7:PA X [] I0:=fun _ _ _ _ H Q I h=>Calls.spliced_nil ⟨[],H,I,.nil,h⟩
theorem cS (ha:PE X e te) (hr:PA X es t) (hs:starEach (e :: es) X.env=(false,eval e X.env) :: starEach es X.env:=by rfl):PA X (e :: es) (CU te t):=by
 intro pos pins s σ H Q I h
 rw [hs]
 show wpAny _ _ (spliced ((false,eval e X.env) :: backTo pos (starEach es X.env))) _ _ s
 refine Calls.spliced_cons (aK (ha pins s σ H _ I h) fun u s1 ⟨x,H1,I1,r1,q1⟩=>?_)
 exact aK (hr pos pins s1 σ H1 _ I1 q1) fun us s2 ⟨xs,H2,I2,r2,q2⟩=>⟨x :: xs,H2,I2,.cons r1 r2,q2⟩
def IX (t:TA):TE:=fun σ H Q=>t σ H fun xs H1=>xs.length≤sizeLine∧∀p,H1 p=none→Q (.ref p) (aD H1 p (.lst xs))
theorem E4 (h:PA X es t):PE X (.List es pos) (IX t):=by
 intro pins s σ H Q I hq
 refine wpAny_List_spliced (aK (h pos pins s σ H _ I hq) fun us s1 ⟨xs,H1,I1,r,z,q⟩=>⟨by rw [←r.length];exact z,?_⟩)
 have hf:H1 s1.heap.objs.size=none:=I1.hok.fresh (Nat.le_refl _)
 refine ⟨.ref s1.heap.objs.size,aD H1 s1.heap.objs.size (.lst xs),I1.laid (t':=s1.toks) (fun b u e=>Heap.get?_push_of_some _ e) (Nat.le_refl _) ?_,rfl,q _ hf⟩
 exact ⟨z,us,0,r,Heap.get?_push_size _ rfl⟩
end
abbrev Sp:=List V→Hp→VK→XK→Prop
abbrev ke:=List Env→Hp→Shared→XK→Value→Shared→Prop
structure tj (P:Program) (w:World) (K:PySem.W.Frag) (mg:Str→Option Value) (base:Heap) (A:Around) (outer:List Env) (s:Shared) (H:Hp):Prop where
 frames:A.frames=some outer
 mod:Mod K mg base
 bs:∀b o,base.get? b=some o→s.heap.get? b=some o∧H b=none
 bsz:base.objs.size≤s.heap.objs.size
 funs:s.heap.FunFrames base outer
 frf:∀b∈gI outer,H b=none
 hok:dL P w H s.heap
 bare:AllBare s.gens
def CE (outer:List Env) (P:Program) (w:World) (H:Hp) (s:Shared) (Q:VK) (u:Value) (s':Shared):Prop:=
 aW fun v H'=>s'.os=s.os∧AllBare s'.gens∧Un (gI outer) [] H H' s.heap s'.heap∧dL P w H' s'.heap∧aQ v u∧Q v H'
def CR (CX:ke) (outer:List Env) (P:Program) (w:World) (H:Hp) (s:Shared) (Q:VK) (E:XK) (r:Result) (s':Shared):Prop:=
 match r with
 | .ok (.ret u)=>CE outer P w H s Q u s'
 | .ok _=>False
 | .error e=>CX outer H s E e s'
structure aZ (P:Program) (w:World) (K:PySem.W.Frag) (mg:Str→Option Value) (base:Heap) (CX:ke) (k:Nat) (f:Addr) (fd:FuncData) (ps:List Str) (sp:Sp):Prop where
 len:∀vs H Q E,sp vs H Q E→vs.length=ps.length
 run:∀(A:Around) (outer:List Env) (s:Shared) (H:Hp) (args:Args) (us:List Value) (vs:List V) (Q:VK) (E:XK),cN k A→tj P w K mg base A outer s H→BindsTo s fd args (ps.zip us)→aC vs us→sp vs H Q E→
  codeAny (model P w) A (.call (.ref f) args) (CR CX outer P w H s Q E) s
theorem aZ.imp {P:Program}{w:World}{K:PySem.W.Frag}{mg:Str→Option Value}{base:Heap}{CX:ke}{k:Nat}{f:Addr}{fd:FuncData}{ps:List Str}{sp sp':Sp} (F:aZ P w K mg base CX k f fd ps sp)
 (h:∀vs H Q E,sp' vs H Q E→sp vs H Q E):aZ P w K mg base CX k f fd ps sp':=
 ⟨fun vs H Q E q=>F.len vs H Q E (h _ _ _ _ q),fun A outer s H args us vs Q E hr he hb hv hs=>F.run A outer s H args us vs Q E hr he hb hv (h _ _ _ _ hs)⟩
theorem tj.make {P:Program}{w:World}{K:PySem.W.Frag}{mg:Str→Option Value}{base:Heap}{A:Around}{outer:List Env}{s:Shared}{H:Hp} (e:tj P w K mg base A outer s H) (C:Addr) (us:List Value) (kw:List (Str×Value)) :
 tj P w K mg base (A.under (.builtin "type.__call__" ⟨.ref C :: us,kw⟩)) outer s H:=⟨by first | exact e.frames | (simpa [Around.under,Code.envs,Code.isFrame,pushEnvs] using e.frames),e.mod,e.bs,e.bsz,e.funs,e.frf,e.hok,e.bare⟩
section
variable {X:Cx}{pins:List (Addr×Obj)}{σ:St}{H:Hp}{s s':Shared}
theorem ac.env0 (I:ac X pins σ H s):tj X.prog X.w X.K X.mg X.base X.A X.stack s H:=
 ⟨I.ok.frames,I.ok.mod,I.bs,Nat.le_trans I.ok.bsz I.sz,I.stack,I.stkFree,I.hok,I.bare⟩
theorem ac.after {Q:VK}{u:Value} (I:ac X pins σ H s) (h:CE X.stack X.prog X.w H s Q u s'):EP X pins σ Q u s':=by
 obtain ⟨v,H',os,bare,un,hok,r,q⟩:=h
 obtain ⟨hh,g,d,t,os'⟩:=s'
 obtain rfl:os'=s.os:=os
 exact ⟨v,H',I.call (h':=hh) (g':=g) (d':=d) (t':=t) (ch:=[]) un hok bare (fun b z=>absurd z (by simp)),r,q⟩
end
def HK (sp:Sp) (dvs:List V) (E:XK) (t:TA):TE:=fun σ H Q=>t σ H fun vs H1=>sp (vs++dvs) H1 Q E
def fY (K:PySem.W.Frag) (fd:FuncData) (ps:List Str) (ds:List Value):Prop:=
 ∀(s:Shared) (us:List Value),K.In s.heap→(us++ds).length=ps.length→BindsTo s fd ⟨us,[]⟩ (ps.zip (us++ds))
theorem fY.all {K:PySem.W.Frag}{fd:FuncData}{ps:List Str} (h:∀us:List Value,us.length=ps.length→bindArgs fd ⟨us,[]⟩=pure (ps.zip us)):fY K fd ps []:=fun s us _ hl=>by
 rw [List.append_nil] at hl ⊢
 exact .of_eq (h us hl)
def re (CX:ke) (X:Cx) (E:XK):Prop:=∀(pins:List (Addr×Obj)) (σ:St) (H:Hp) (s:Shared) (e:Value) (s':Shared),ac X pins σ H s→CX X.stack H s E e s'→X.xe e s'
section
variable {X:Cx}{CX:ke}{k:Nat}{f C:Addr}{fd:FuncData}{ps:List Str}{sp:Sp}{dvs:List V}{ds:List Value}{E:XK}{x m:Str}{p pos apos:Pos}{e o:Expr}{es:List Expr}{ta:TE}{t:TA}
theorem FS {pins:List (Addr×Obj)}{σ:St}{H:Hp}{s:Shared}{Q:VK}{us:List Value}{vs:List V} (F:aZ X.prog X.w X.K X.mg X.base CX k f fd ps sp) (hr:cN k X.A) (hb:fY X.K fd ps ds) (hd:aC dvs ds) (hx:re CX X E)
 (I:ac X pins σ H s) (r:aC vs us) (h:sp (vs++dvs) H Q E):wpAny (model X.prog X.w) X.A (call (.ref f) us) (EP X pins σ Q) X.xe s:=by
 have r2:aC (vs++dvs) (us++ds):=r.append hd
 have hl:(us++ds).length=ps.length:=by rw [←r2.length];exact F.len _ _ _ _ h
 refine wpAny_call (codeAny_mono (F.run X.A X.stack s H ⟨us,[]⟩ (us++ds) (vs++dvs) Q E hr I.env0 (hb s us I.kIn hl) r2 h) fun r s' hq=>?_)
 cases r with
 | error e=>exact hx pins σ H s e s' I hq
 | ok fl=>
  cases fl with
  | ret u=>exact I.after hq
  | next=>exact False.elim hq
  | brk=>exact False.elim hq
  | cont=>exact False.elim hq
theorem iq (F:aZ X.prog X.w X.K X.mg X.base CX k f fd ps sp) (hr:cN k X.A) (hg:Gl X x) (hm:X.mg x=some (.ref f)) (hk:PySem.W.keepIn X.K (.ref f)=true) (hb:fY X.K fd ps ds) (hd:aC dvs ds) (hx:re CX X E)
 (ha:PA X (e :: es) t) (hdb:(x==("__debug__" : Str))=false:=by decide) (he:starEach (e :: es) X.env=(false,eval e X.env) :: starEach es X.env:=by rfl) (hpl:(backTo pos (starEach es X.env)).any (·.1)=false:=by rfl) :
 PE X (.Call (.Name x p) (e :: es) [] pos) (HK sp dvs E t):=by
 intro pins s σ H Q I h
 refine wpAny_Call_Name_kw (lD I hg hm ?_ hdb)
 refine PySem.W.callWith_K (h₀:=X.base) I.ok.mod.kin hk (aK (ha pos pins s σ H _ I h) fun us s1 ⟨vs,H1,I1,r,q⟩=>⟨I1.kIn,?_⟩) he hpl
 exact FS F hr hb hd hx I1 r q
end
section
variable {X:Cx}{CX:ke}{k:Nat}{f C:Addr}{fd:FuncData}{ps ks:List Str}{sp:Sp}{E:XK}{x m:Str}{p pos apos kpos:Pos}{e o:Expr}{es:List Expr}{kws:List Keyword}{te ta:TE}{t tk:TA}{nm:Option Str}
variable {g:List Value→List Value→List Value}{gV:List V→List V→List V}
end
structure aL (N P:List Str) (sc:Scope):Prop where
 kind:sc.kind=.function
 co:sc.isCoroutine=false
 gen:sc.isGenerator=false
 nd:N.Nodup
 pre:N.take P.length=P
 par:∀x∈P,sc.names.lookup x=some .local∨sc.names.lookup x=some .cell
 nofree:∀y∈sc.names,y.2≠.free
theorem vR {kindOf:Str→Option NameKind}{x:Str}:∀{binds:List (Str×Value)}{m:Str→Option Value},(∀v,(x,v)∉binds)→bindL kindOf binds m x=m x
 | [],_,_=>rfl
 | (n,v) :: r,m,h=>by
  unfold bindL
  rw [vR fun w hw=>h w (List.mem_cons_of_mem _ hw)]
  split
  ·have:x≠n:=by rintro rfl;exact h v List.mem_cons_self
   simp [this]
  ·rfl
theorem vf {kindOf:Str→Option NameKind}{x:Str}:∀{binds:List (Str×Value)}{m:Str→Option Value},(∀v,(x,v)∉binds)→bindC kindOf binds m x=m x
 | [],_,_=>rfl
 | (n,v) :: r,m,h=>by
  unfold bindC
  rw [vf fun w hw=>h w (List.mem_cons_of_mem _ hw)]
  split
  ·rfl
  ·have:x≠n:=by rintro rfl;exact h v List.mem_cons_self
   simp [this]
theorem vG {kindOf:Str→Option NameKind}{x:Str}{v:Value}:∀{P:List Str}{vs:List Value}{i:Nat}{m:Str→Option Value},P.Nodup→P[i]?=some x→vs[i]?=some v→kindOf x=some .local→
 bindL kindOf (P.zip vs) m x=some v
 | [],_,_,_,_,h,_,_=>by simp at h
 | _ :: _,[],_,_,_,_,h,_=>by simp at h
 | p :: P,w :: vs,0,m,nd,h1,h2,hk=>by
  simp at h1 h2;subst h1;subst h2
  show bindL kindOf ((p,w) :: P.zip vs) m p=_
  unfold bindL
  rw [vR fun v hv=>(List.nodup_cons.mp nd).1 (List.of_mem_zip hv).1,if_pos hk]
  simp
 | p :: P,w :: vs,i+1,m,nd,h1,h2,hk=>by
  show bindL kindOf ((p,w) :: P.zip vs) m x=_
  unfold bindL
  exact vG (i:=i) (List.nodup_cons.mp nd).2 (by simpa using h1) (by simpa using h2) hk
theorem vD {kindOf:Str→Option NameKind}{x:Str}{v:Value}:∀{P:List Str}{vs:List Value}{i:Nat}{m:Str→Option Value},P.Nodup→P[i]?=some x→vs[i]?=some v→kindOf x≠some .local→
 bindC kindOf (P.zip vs) m x=some v
 | [],_,_,_,_,h,_,_=>by simp at h
 | _ :: _,[],_,_,_,_,h,_=>by simp at h
 | p :: P,w :: vs,0,m,nd,h1,h2,hk=>by
  simp at h1 h2;subst h1;subst h2
  show bindC kindOf ((p,w) :: P.zip vs) m p=_
  unfold bindC
  rw [vf fun v hv=>(List.nodup_cons.mp nd).1 (List.of_mem_zip hv).1,if_neg hk]
  simp
 | p :: P,w :: vs,i+1,m,nd,h1,h2,hk=>by
  show bindC kindOf ((p,w) :: P.zip vs) m x=_
  unfold bindC
  exact vD (i:=i) (List.nodup_cons.mp nd).2 (by simpa using h1) (by simpa using h2) hk
def start (N:List Str) (vs:List V):St:=vs.map some++List.replicate (N.length - vs.length) none
def oV (CX:ke) (P:Program) (w:World) (K:PySem.W.Frag) (mg:Str→Option Value) (base:Heap) (N:List Str) (qual:Str) (scope:Scope) (f:Addr) (cd:Value) (A:Around) (outer:List Env) (s:Shared) (H:Hp) (E:XK):Cx where
 prog:=P
 w:=w
 K:=K
 mg:=mg
 base:=base
 A:=A.deeper (envOfC qual scope s.heap.objs.size f cd)
 N:=N
 s₀:=s
 H₀:=H
 env:=envOfC qual scope s.heap.objs.size f cd
 outer:=outer
 stack:=envOfC qual scope s.heap.objs.size f cd :: outer
 ex:=[]
 calm:=true
 fn:=fun _=>true
 pn:=[]
 xe:=fun e s'=>wpAny (model P w) (A.deeper (envOfC qual scope s.heap.objs.size f cd)) (leaving (envOfC qual scope s.heap.objs.size f cd) e) (fun _ s''=>CX outer H s E e s'') (fun e' s''=>CX outer H s E e' s'') s'
theorem xE {sc:Scope}{n:Nat}{x:Str} (h:sc.names.lookup x=some .cell):∃c,(cellsFrom n sc.names []).lookup x=some c:=by
 have q:=PySem.W.cellsFrom_some sc.names n [] (.inl h)
 exact Option.isSome_iff_exists.mp q
theorem A2 {CX:ke}{P:Program}{w:World}{K:PySem.W.Frag}{mg:Str→Option Value}{base:Heap}{N ps:List Str}{qual:Str}{scope:Scope}{f:Addr}{cd:Value}{A:Around}{outer:List Env}{s s1:Shared}{H:Hp}{E:XK}{us:List Value}{vs:List V}
 (S:aL N ps scope) (hd:A.handled=none) (e0:tj P w K mg base A outer s H) (hl:vs.length=ps.length) (r:aC vs us)
 (x:InCallC s s.heap.objs.size (bindL (envOfC qual scope s.heap.objs.size f cd).kindOf (ps.zip us) fun _=>none) (cellsFrom (s.heap.objs.size+1) scope.names []) (bindC (envOfC qual scope s.heap.objs.size f cd).kindOf (ps.zip us) fun _=>none) s1) :
 ac (oV CX P w K mg base N qual scope f cd A outer s H E) [] (start N vs) H s1:=by
 have hpl:ps.length≤N.length:=by have:=congrArg List.length S.pre;rw [List.length_take] at this;trivial
 obtain ⟨h1,tk,rfl,hk⟩:=x.done
 have noA:∀b:Addr,b∉(oV CX P w K mg base N qual scope f cd A outer s H E).ex:=fun b z=>absurd (show b∈([]:List Addr) from z) (by simp)
 refine ⟨⟨e0.mod,S.kind,rfl,rfl,Nat.le_refl _,fun y z c h1 h2=>?_,fun y hy=>?_,fun y c _ h=>?_,fun _=>hd,Around.frames_deeper e0.frames,.inr ⟨rfl,rfl⟩,fun b z=>absurd z (noA b),e0.bs,e0.bsz,fun b _ _=>noA b,fun b z=>absurd z (noA b),e0.funs,e0.frf⟩,
  rfl,e0.bare,Un.kept hk,⟨_,x.toInCall.ns,fun i y v h1 h2 h3=>?_⟩,fun y c h=>⟨_,x.cell y c h⟩,e0.hok.fresh (Nat.le_refl _),fun y c h=>?_,fun p hp=>absurd (show p∈([]:List (Addr×Obj)) from hp) (by simp),e0.hok.kept hk,?_⟩
 ·exact name_of_addr x.apart (PySem.mem_of_lookup h1) (PySem.mem_of_lookup h2)
 ·have hy:scope.names.lookup y=some .cell∨scope.names.lookup y=some .free:=hy
  rcases hy with hy | hy
  ·exact xE hy
  ·exact absurd rfl (S.nofree _ (PySem.mem_of_lookup hy))
 ·exact Nat.le_of_lt (x.above y c (PySem.mem_of_lookup h))
 ·have hi:i<vs.length:=by
   unfold start at h2
   by_cases hi:i<vs.length
   ·exact hi
   ·rw [List.getElem?_append_right (by simpa using hi)] at h2
    rw [List.getElem?_replicate] at h2
    split at h2 <;> cases h2
  have ha:vs[i]?=some v:=by
   unfold start at h2
   rw [List.getElem?_append_left (by simpa using hi),List.getElem?_map] at h2
   cases e:vs[i]? with
   | none=>rw [e] at h2;cases h2
   | some a=>rw [e] at h2;cases h2;rfl
  obtain ⟨u,hu,rv⟩:=r.get ha
  have hp:ps[i]?=some y:=by
   rw [←S.pre,List.getElem?_take_of_lt (by trivial)];exact h1
  have ndP:ps.Nodup:=by rw [←S.pre];exact S.nd.sublist (List.take_sublist _ _)
  refine ⟨u,rv,?_⟩
  rcases S.par y (List.mem_of_getElem? hp) with k | k
  ·exact .inl ⟨k,vG ndP hp hu k⟩
  ·obtain ⟨c,e⟩:=xE (n:=s.heap.objs.size+1) k
   refine .inr ⟨.inl k,c,e,?_⟩
   have q:=x.cell y c e
   rw [vD ndP hp hu (by show scope.names.lookup y≠_;rw [k];decide)] at q
   exact q
 ·exact e0.hok.fresh (Nat.le_of_lt (x.above y c (PySem.mem_of_lookup h)))
 ·unfold start
  show _=N.length
  rw [List.length_append,List.length_map,List.length_replicate]
  trivial
theorem CJ {CX:ke}{P:Program}{w:World}{K:PySem.W.Frag}{mg:Str→Option Value}{base:Heap}{k:Nat}{f:Addr}{name qual:Str}{params:Arguments}{body:List Stmt}{scope:Scope}{dV kV doc pm cdv ct oc:Value}{an od:Option Addr}
 {osl:Array (Option Value)}{N ps:List Str}{sp:Sp} (lk:K.lookup f=some ⟨oc,od,.func (PySem.W.fnOf name qual params body scope dV kV doc pm an cdv ct),osl⟩) (hcd:PySem.W.codeIn K cdv qual=true) (S:aL N ps scope)
 (len:∀vs H Q E,sp vs H Q E→vs.length=ps.length)
 (hbody:∀(A:Around) (outer:List Env) (s:Shared) (H:Hp) (vs:List V) (Q:VK) (E:XK),cN k (A.deeper (envOfC qual scope s.heap.objs.size f cdv))→sp vs H Q E→
  ∃t,kU (oV CX P w K mg base N qual scope f cdv A outer s H E) body t∧t { nx:=fun _ H'=>Q .non H',rt:=Q } (start N vs) H) :
 aZ P w K mg base CX (k+1) f (PySem.W.fnOf name qual params body scope dV kV doc pm an cdv ct) ps sp:=by
 refine ⟨len,fun A outer s H args us vs Q E hr e0 hb r hsp=>?_⟩
 have hl:=len _ _ _ _ hsp
 have KX:K.In s.heap:=e0.mod.kin.keeps fun b o e=>(e0.bs b o e).1
 have lim:s.heap.NoLimit:=e0.mod.nolimit.keeps fun b o e=>(e0.bs b o e).1
 have hkind:∀y∈ps.zip us,scope.names.lookup y.1=some .local∨(scope.names.lookup y.1=some .cell∧((cellsFrom (s.heap.objs.size+1) scope.names []).lookup y.1).isSome=true):=fun ⟨n,v⟩ hy=>by
  rcases S.par n (List.of_mem_zip hy).1 with q | q
  ·exact .inl q
  ·exact .inr ⟨q,PySem.W.cellsFrom_some _ _ _ (.inl q)⟩
 refine codeAny_call_function hr.depth (KX _ _ lk) rfl S.co S.gen rfl (PySem.W.codeRec_of KX hcd) (hb _ _ _ _ ?_)
 refine wpAny_newFunctionEnv_cells S.kind hkind fun env he s1 x=>?_
 subst he
 refine ⟨lim.keeps x.toInCall.keep,codeAny_func ?_⟩
 obtain ⟨t,ht,hq⟩:=hbody A outer s H vs Q E (hr.deeper _) hsp
 have I:ac (oV CX P w K mg base N qual scope f cdv A outer s H E) [] (start N vs) H s1:=A2 S hr.hd e0 hl r x
 refine wpAny_mono (ht [] s1 (start N vs) H _ I hq) (fun fl s' hs=>?_) fun e s' hs=>hs
 have aP:∀{σ':St}{H':Hp}{v:V}{u:Value},ac (oV CX P w K mg base N qual scope f cdv A outer s H E) [] σ' H' s'→aQ v u→Q v H'→CE outer P w H s Q u s':=
  fun {σ' H' v u} J rv q=>⟨v,H',J.os,J.bare,J.base,J.hok,rv,q⟩
 cases fl with
 | ret u=>
  obtain ⟨v,σ',H',J,rv,q⟩:=hs
  exact aP J rv q
 | next=>
  obtain ⟨σ',H',J,q⟩:=hs
  exact aP (v:=V.non) (u:=Value.none) J rfl q
 | brk=>
  obtain ⟨_,_,_,q⟩:=hs
  exact False.elim q
 | cont=>
  obtain ⟨_,_,_,q⟩:=hs
  exact False.elim q
end L2
namespace L2
open PySem PySem.Spec PyProof.Rows
section
variable {X:Cx}{x:Str}{p pos:Pos}{e:Expr}{es:List Expr}{t:TA}{id T:String}{r:List V→Hp→VK→Prop}
def Iq (r:List V→Hp→VK→Prop) (t:TA):TE:=fun σ H Q=>t σ H fun vs H1=>r vs H1 Q
theorem ao (hc:cn X (.builtin id) r) (hg:Gl X x) (hm:X.mg x=none) (hv:bootBuiltins x=some (.builtin id)) (ha:PA X (e :: es) t) (hn:x≠"__name__" := by decide) (hdb:(x==("__debug__" : Str))=false:=by decide)
 (he:starEach (e :: es) X.env=(false,eval e X.env) :: starEach es X.env:=by rfl) (hpl:(backTo pos (starEach es X.env)).any (·.1)=false:=by rfl):PE X (.Call (.Name x p) (e :: es) [] pos) (Iq r t):=by
 intro pins s σ H Q I h
 refine wpAny_Call_Name_kw (gZ I hg hm hv ?_ hn hdb)
 exact PyProof.Rows.callWith_builtin1 (aK (ha pos pins s σ H _ I h) fun us s1 ⟨vs,H1,I1,r1,q1⟩=>hc pins s1 σ H1 vs us Q I1 r1 q1) he hpl
theorem dX (hc:cn X (.type T) r) (hg:Gl X x) (hm:X.mg x=none) (hv:bootBuiltins x=some (.type T)) (ha:PA X (e :: es) t) (hn:x≠"__name__" := by decide) (hdb:(x==("__debug__" : Str))=false:=by decide)
 (he:starEach (e :: es) X.env=(false,eval e X.env) :: starEach es X.env:=by rfl) (hpl:(backTo pos (starEach es X.env)).any (·.1)=false:=by rfl):PE X (.Call (.Name x p) (e :: es) [] pos) (Iq r t):=by
 intro pins s σ H Q I h
 refine wpAny_Call_Name_kw (gZ I hg hm hv ?_ hn hdb)
 exact PyProof.Rows.callWith_type1 (aK (ha pos pins s σ H _ I h) fun us s1 ⟨vs,H1,I1,r1,q1⟩=>hc pins s1 σ H1 vs us Q I1 r1 q1) he hpl
end
end L2
namespace HT
open PySem PyProof.Rows
section
open PySem.SeqAt
open PySem.AutoSeq1 (wpAny_loadPart')
open PySem.MeetsSeq PySem.MeetsSeq2 PySem.MeetsSeq3
end
section
variable {prog:Program}{w:World}{A:Around}{E:Value→Shared→Prop}{s:Shared}
def sIx (n d:Nat):Option Int→Nat
 | none=>d
 | some v=>if v<0 then (v+(n:Int)).toNat else min v.toNat n
theorem sIx_none (n d:Nat):sIx n d none=d:=rfl
theorem sIx_nat (n d k:Nat):sIx n d (some (k:Int))=min k n:=by
 show (if (k:Int)<0 then ((k:Int)+(n:Int)).toNat else min (k:Int).toNat n)=min k n
 rw [if_neg (by trivial),Int.toNat_natCast]
end
end HT
namespace L2
open PySem PySem.Spec PyProof.Rows
abbrev TO:=St→Hp→(Option Int→Hp→Prop)→Prop
def PO (X:Cx) (e:Option Expr) (t:TO):Prop:=
 ∀(pins:List (Addr×Obj)) (s:Shared) (σ:St) (H:Hp) (Q:Option Int→Hp→Prop),ac X pins σ H s→t σ H Q→
   wpAny (model X.prog X.w) X.A (evalPart e X.env) (fun u s'=>aW fun o H'=>ac X pins σ H' s'∧IsPart u o∧Q o H') X.xe s
def Eh:TO:=fun _ H Q=>Q none H
def GQ (t:TE):TO:=fun σ H Q=>t σ H fun x H1=>Ft x fun i=>Q (some i) H1
section
variable {X:Cx}{e:Expr}{te:TE}{lo hi:Option Expr}{tl th:TO}{pos p2:Pos}
theorem i4:PO X none Eh:=by
 intro pins s σ H Q I h
 rw [evalPart_none]
 exact wpAny_pure ⟨none,H,I,.none,h⟩
theorem gl (h:PE X e te):PO X (some e) (GQ te):=by
 intro pins s σ H Q I hw
 rw [evalPart_some]
 refine aK (h pins s σ H _ I hw) fun u s1 ⟨x,H1,I1,r1,q1⟩=>?_
 obtain ⟨i,rfl,q⟩:=q1
 obtain ⟨t,rfl⟩:=r1
 exact ⟨some i,H1,I1,.int i t,q⟩
def FY (X:Cx) (r:V→Option Int→Option Int→Hp→VK→Prop):Prop:=
 ∀(pins:List (Addr×Obj)) (s:Shared) (σ:St) (H:Hp) (x:V) (v vl vu:Value) (lo hi:Option Int) (sl:Addr) (Q:VK),ac X pins σ H s→aQ x v→s.heap.IsSliceOf sl vl vu .none→IsPart vl lo→IsPart vu hi→r x lo hi H Q→
   aW fun T id=>typeLookup (.type T) "__getitem__" = pure (some (.builtin id))∧s.TypeIs v T∧wpAny (model X.prog X.w) X.A (getItem v (.ref sl)) (EP X pins σ Q) X.xe s
def Jq (r:V→Option Int→Option Int→Hp→VK→Prop) (te:TE) (tl th:TO):TE:=fun σ H Q=>te σ H fun x H1=>tl σ H1 fun l H2=>th σ H2 fun u H3=>r x l u H3 Q
theorem fZ {r:V→Option Int→Option Int→Hp→VK→Prop} (hr:FY X r) (he:PE X e te) (hl:PO X lo tl) (hu:PO X hi th):PE X (.Subscript e (.Slice lo hi none p2) pos) (Jq r te tl th):=by
 intro pins s σ H Q I h
 refine Subscript_ (aK (he pins s σ H _ I h) fun v s1 ⟨x,H1,I1,r1,q1⟩=>?_)
 refine wpAny_Slice (aK (hl pins s1 σ H1 _ I1 q1) fun vl s2 ⟨l,H2,I2,pl,q2⟩=>aK (hu pins s2 σ H2 _ I2 q2) fun vu s3 ⟨u,H3,I3,pu,q3⟩=>?_)
 rw [evalPart_none]
 refine wpAny_pure ?_
 have I4:ac X pins σ H3 { s3 with heap:=s3.heap.push { cls:=.type "slice",data:=.fields #[vl,vu,.none] } }:=I3.kept (t':=s3.toks) fun b ob q=>Heap.get?_push_of_some _ q
 obtain ⟨T,id,hT,ht,hg⟩:=hr pins { s3 with heap:=s3.heap.push { cls:=.type "slice",data:=.fields #[vl,vu,.none] } } σ H3 x v vl vu l u s3.heap.objs.size Q I4 r1 (Heap.IsSliceOf.new ..) pl pu q3
 show wpAny (model X.prog X.w) X.A (subscriptTail e (.Slice lo hi none p2) v (.ref s3.heap.objs.size)) (EP X pins σ Q) X.xe { s3 with heap:=s3.heap.push { cls:=.type "slice",data:=.fields #[vl,vu,.none] } }
 exact tail_any (ops:=[.ref s3.heap.objs.size,v]) ht hT hg (by with_unfolding_all rfl)
def iU (xs:List V) (lo hi:Option Int):List V:=(xs.drop (HT.sIx xs.length 0 lo)).take (HT.sIx xs.length xs.length hi - HT.sIx xs.length 0 lo)
theorem nu (xs:List V) (lo hi:Option Int):(iU xs lo hi).length≤xs.length:=by
 unfold iU
 rw [List.length_take,List.length_drop]
 exact Nat.le_trans (Nat.min_le_right ..) (Nat.sub_le ..)
end
end L2
namespace L2
open PySem PySem.Spec PyProof.Rows
def sP (n:Nat) (i:Int):Option Nat:=if 0≤i then (if i<n then some i.toNat else none) else if -(n:Int)≤i then some (i+n).toNat else none
def gO {α:Type} (xs:List α) (i:Int):Option α:=(sP xs.length i).bind fun j=>xs[j]?
theorem yt {n:Nat}{i:Int}{j:Nat} (h:sP n i=some j):seqIndex? i n=some j∧j<n∧-(n:Int)≤i∧i<n:=by
 unfold sP at h
 by_cases h0:0≤i
 ·rw [if_pos h0] at h
  by_cases h1:i<n
  ·rw [if_pos h1] at h
   have e:i.toNat=j:=Option.some.inj h
   exact ⟨by rw [seqIndex_of h0 h1,e],by trivial,by trivial,h1⟩
  ·rw [if_neg h1] at h;cases h
 ·rw [if_neg h0] at h
  by_cases h1:-(n:Int)≤i
  ·rw [if_pos h1] at h
   have e:(i+n).toNat=j:=Option.some.inj h
   exact ⟨by rw [seqIndex_neg (by trivial) h1,e],by trivial,h1,by trivial⟩
  ·rw [if_neg h1] at h;cases h
theorem uS {α:Type}{xs:List α}{i:Int}{v:α} (h:gO xs i=some v):∃j,seqIndex? i xs.length=some j∧xs[j]?=some v∧j<xs.length∧-(xs.length:Int)≤i∧i<xs.length:=by
 unfold gO at h
 cases e:sP xs.length i with
 | none=>rw [e] at h;cases h
 | some j=>
  rw [e] at h
  obtain ⟨h1,h2,h3,h4⟩:=yt e
  exact ⟨j,h1,h,h2,h3,h4⟩
theorem cY {α:Type}{xs:List α}{j:Nat}{v:α} (h:xs[j]?=some v):gO xs (j:Int)=some v:=by
 have hj:j<xs.length:=(List.getElem?_eq_some_iff.mp h).1
 have e:sP xs.length (j:Int)=some j:=by
  unfold sP
  rw [if_pos (by trivial),if_pos (by trivial)];simp
 unfold gO;rw [e];exact h
theorem tK {α:Type} (xs:List α) (v:α):gO (xs++[v]) (-1)=some v:=by
 have hl:(xs++[v]).length=xs.length+1:=by simp
 have e:sP (xs++[v]).length (-1)=some xs.length:=by
  unfold sP
  rw [hl,if_neg (by decide),if_pos (by trivial)]
  congr 1
  trivial
 unfold gO
 rw [e]
 show (xs++[v])[xs.length]?=some v
 simp
def Ee (b:Expr):Prop:=∀o i,subscripted b false o i=operate [o,i] (getItem o i)
def p7 (X:Cx) (r:R2):Prop:=
 ∀(value slice:Expr) (pins:List (Addr×Obj)) (s:Shared) (σ:St) (H:Hp) (x y:V) (v u:Value) (Q:VK),ac X pins σ H s→aQ x v→aQ y u→r x y H Q→
   subscripted slice false v u=operate [v,u] (getItem v u)→wpAny (model X.prog X.w) X.A (subscriptTail value slice v u) (EP X pins σ Q) X.xe s
def Ag (X:Cx) (id:String) (r:V→List V→Hp→VK→Prop):Prop:=
 ∀(pins:List (Addr×Obj)) (s:Shared) (σ:St) (H:Hp) (x:V) (xs:List V) (v:Value) (us:List Value) (Q:VK),ac X pins σ H s→aQ x v→aC xs us→r x xs H Q→
   wpAny (model X.prog X.w) X.A (call (.builtin id) (v :: us)) (EP X pins σ Q) X.xe s
section
variable {X:Cx}{a b:Expr}{ta tb:TE}{pos:Pos}
theorem p7.or {r r':R2} (h:p7 X r) (h':p7 X r'):p7 X (fun x y H Q=>r x y H Q∨r' x y H Q):=by
 intro value slice pins s σ H x y v u Q I rx ry q hs
 rcases q with q | q
 ·exact h value slice pins s σ H x y v u Q I rx ry q hs
 ·exact h' value slice pins s σ H x y v u Q I rx ry q hs
theorem cf {r:R2} (hr:p7 X r) (ha:PE X a ta) (hb:PE X b tb) (hs:Ee b):PE X (.Subscript a b pos) (C6 r ta tb):=by
 intro pins s σ H Q I h
 exact Subscript_ (BA ha hb I h fun v u s2 x y H2 I2 rx ry q=>hr a b pins s2 σ H2 x y v u Q I2 rx ry q (hs _ _))
inductive HB (K:PySem.W.Frag) (x:V) (y:V) (H:Hp) (Q:VK):Prop
 | mk (p:_) (xs:_) (i:_) (v:_) (h0:x=.ref p) (h1:y=.int i) (h2:am K H p xs) (h3:gO xs i=some v) (h4:Q v H)
def Bz (K:PySem.W.Frag):R2:=fun x y H Q=>HB K x y H Q
inductive GR (K:PySem.W.Frag) (x:V) (y:V) (H:Hp) (Q:VK):Prop
 | mk (p:_) (xs:_) (i:_) (v:_) (h0:x=.ref p) (h1:y=.int i) (h2:ag K H p xs) (h3:gO xs i=some v) (h4:Q v H)
def Cb (K:PySem.W.Frag):R2:=fun x y H Q=>GR K x y H Q
inductive GJ (x:V) (y:V) (H:Hp) (Q:VK):Prop
 | mk (z:_) (i:_) (c:_) (h0:x=.str z) (h1:y=.int i) (h2:z.length≤sizeLine) (h3:gO z.cps.toList i=some c) (h4:Q (.str ⟨#[c]⟩) H)
def EM:R2:=fun x y H Q=>GJ  x y H Q
theorem ym:p7 X (Bz X.K):=by
 intro value slice pins s σ H x y v u Q I rx ry h hs
 obtain ⟨p,xs,i,z,rfl,rfl,hq,he,q⟩:=h
 cases rx
 obtain ⟨t,rfl⟩:=ry
 obtain ⟨its,r,pl,hz⟩:=I.list hq
 obtain ⟨j,h1,h2,h3,h4,h5⟩:=uS he
 obtain ⟨w,ew,rw'⟩:=r.get h2
 have hl:=r.length
 have hn:=qO
 have aP:EP X pins σ Q w s:=⟨z,H,I,rw',q⟩
 by_cases h0:0≤i
 ·have hj:i.toNat=j:=by
   rw [seqIndex_of h0 h5] at h1
   exact Option.some.inj h1
  exact item_listR pl.isList h0 (by trivial) (by rw [hj];simpa using ew) aP hs
 ·have hj:(i+(its.toArray.size:Int)).toNat=j:=by
   rw [seqIndex_neg (by trivial) h4] at h1
   rw [List.size_toArray,←hl]
   exact Option.some.inj h1
  exact subscriptTail_builtinR (x:=w) pl.isList.typeIs slot_list_getitem.lookup
   (wpAny_getItem_list_neg (Q:=fun r s'=>r=w∧EP X pins σ Q r s') pl.isList (by trivial) (by rw [List.size_toArray] <;> trivial) (by trivial) (by rw [hj];simpa using ew) ⟨rfl,aP⟩) hs
theorem AY:p7 X (Cb X.K):=by
 intro value slice pins s σ H x y v u Q I rx ry h hs
 obtain ⟨p,xs,i,z,rfl,rfl,hq,he,q⟩:=h
 cases rx
 obtain ⟨t,rfl⟩:=ry
 obtain ⟨its,r,pl,hz⟩:=I.tuple hq
 obtain ⟨j,h1,h2,h3,h4,h5⟩:=uS he
 obtain ⟨w,ew,rw'⟩:=r.get h2
 have hl:=r.length
 have hn:=qO
 have aP:EP X pins σ Q w s:=⟨z,H,I,rw',q⟩
 exact subscriptTail_builtinR (x:=w) pl.typeIs slot_tuple_getitem.lookup
  (getItem_tuple (j:=j) (Q:=fun r s'=>r=w∧EP X pins σ Q r s') pl (by trivial) (by trivial) (by rw [List.size_toArray,←hl];exact h1) (by simpa using ew) ⟨rfl,aP⟩) hs
theorem xR:p7 X EM:=by
 intro value slice pins s σ H x y v u Q I rx ry h hs
 obtain ⟨z,i,c,rfl,rfl,hz,he,q⟩:=h
 obtain ⟨t,rfl⟩:=rx
 obtain ⟨t',rfl⟩:=ry
 obtain ⟨j,h1,h2,h3,h4,h5⟩:=uS he
 have hl:z.cps.toList.length=z.length:=by simp [Str.length]
 rw [hl] at h1 h4 h5
 have hn:=qO
 exact tail_any (typeIs_str s z t) slot_str_getitem.lookup (getItem_str (c:=c) (by
  have e1:decide (i < -(2 ^ 63:Int))=false:=decide_eq_false (by trivial)
  have e2:decide (i≥2 ^ 63)=false:=decide_eq_false (by trivial)
  rw [e1,e2,Bool.or_false]) (by rw [h1];simpa using h2) ⟨.str ⟨#[c]⟩,H,I.tok _,⟨_,rfl⟩,q⟩) hs
def Jv (K:PySem.W.Frag):R2:=fun x y H Q=>Bz K x y H Q∨Cb K x y H Q∨EM x y H Q
theorem jD:p7 X (Jv X.K):=ym.or (AY.or xR)
theorem yX (its:List Value) (n j:Nat) (u:Value):Obj.mapSeq (·.setIfInBounds j u) { cls:=.type "list",data:=.seq its.toArray n }={ cls:=.type "list",data:=.seq (its.set j u).toArray n }:=by
 simp [Obj.mapSeq]
theorem ac.lst {pins:List (Addr×Obj)}{σ:St}{H:Hp}{s:Shared}{p:Addr}{xs:List V} (I:ac X pins σ H s) (h:H p=some (.lst xs)) :
 aW fun (its:List Value) (n:Nat)=>aC xs its∧s.heap.get? p=some { cls:=.type "list",data:=.seq its.toArray n }∧xs.length≤sizeLine:=by
 obtain ⟨z,its,n,r,e⟩:=I.hok p _ h
 exact ⟨its,n,r,e,z⟩
theorem ac.lstUpd {pins:List (Addr×Obj)}{σ:St}{H:Hp}{s:Shared}{p:Addr}{xs ys:List V}{its its':List Value}{n n':Nat}{f:Obj→Obj} (I:ac X pins σ H s) (h:H p=some (.lst xs))
 (ho:s.heap.get? p=some { cls:=.type "list",data:=.seq its.toArray n }) (hf:f { cls:=.type "list",data:=.seq its.toArray n }={ cls:=.type "list",data:=.seq its'.toArray n' }) (r:aC ys its') (hz:ys.length≤sizeLine) (t:Nat) :
 ac X pins σ (aD H p (.lst ys)) { s with heap:=s.heap.update p f,toks:=t }:=by
 have e:(s.heap.update p f).get? p=some { cls:=.type "list",data:=.seq its'.toArray n' }:=by
  rw [Heap.get?_update_self f ho (by rw [hf] <;> rfl),hf]
 refine I.write (x:=p) (e:=p) (by rw [h];trivial) (.inl rfl) (fun b u hb q=>(Heap.get?_update_other _ _ (Ne.symm hb)).trans q) ⟨_,e⟩ ?_
 exact ⟨hz,its',n',r,e⟩
inductive EK (o:V) (i:V) (v:V) (H:Hp) (Q:(Hp→Prop)):Prop
 | mk (p:_) (xs:_) (k:_) (j:_) (h0:o=.ref p) (h1:i=.int k) (h2:H p=some (.lst xs)) (h3:sP xs.length k=some j) (h4:Q (aD H p (.lst (xs.set j v))))
def G0:V→V→V→Hp→(Hp→Prop)→Prop:=fun o i v H Q=>EK  o i v H Q
theorem tO:BW X G0:=by
 intro pins s σ H o i v ov iv u Q I ro ri rv h
 obtain ⟨p,xs,k,j,rfl,rfl,hp,hj,q⟩:=h
 cases ro
 obtain ⟨t,rfl⟩:=ri
 obtain ⟨its,n,r,ho,hz⟩:=I.lst hp
 obtain ⟨h1,h2,h3,h4⟩:=yt hj
 have hl:=r.length
 have hn:=qO
 have I':ac X pins σ (aD H p (.lst (xs.set j v))) { s with heap:=s.heap.update p (Obj.mapSeq (·.setIfInBounds j u)) }:=
  I.lstUpd hp ho (yX its n j u) (r.set rv j) (by rw [List.length_set];exact hz) s.toks
 by_cases h0:0≤k
 ·have hk:k.toNat=j:=by
   rw [seqIndex_of h0 h4] at h1
   exact Option.some.inj h1
  exact PySem.W.ki_setAt ho h0 (by trivial) (by rw [List.size_toArray,←hl];exact h4) (by rw [hk];exact ⟨_,I',q⟩)
 ·have hk:(k+(its.toArray.size:Int)).toNat=j:=by
   rw [seqIndex_neg (by trivial) h3] at h1
   rw [List.size_toArray,←hl]
   exact Option.some.inj h1
  exact PySem.W.ki_setBack ho (by trivial) (by rw [List.size_toArray,←hl];exact h3) (by trivial) (by rw [hk];exact ⟨_,I',q⟩)
theorem xi (lo hi:Option Int) (n:Nat):(sliceBounds lo hi none n).1=((HT.sIx n 0 lo:Nat):Int)∧(sliceBounds lo hi none n).2.1=((HT.sIx n n hi:Nat):Int)∧(sliceBounds lo hi none n).2.2=1:=by
 refine ⟨?_,?_,rfl⟩
 ·cases lo with
  | none=>simp [sliceBounds,HT.sIx]
  | some i=>
   simp only [sliceBounds,HT.sIx,Option.getD_none,show (1:Int) > 0 by decide,if_true]
   by_cases h:i<0
   ·simp only [h,if_true] <;> trivial
   ·simp only [h,if_false] <;> trivial
 ·cases hi with
  | none=>simp [sliceBounds,HT.sIx]
  | some i=>
   simp only [sliceBounds,HT.sIx,Option.getD_none,show (1:Int) > 0 by decide,if_true]
   by_cases h:i<0
   ·simp only [h,if_true] <;> trivial
   ·simp only [h,if_false] <;> trivial
theorem vY (its:List Value) (lo hi:Option Int):slicePick its.toArray lo hi none=((its.drop (HT.sIx its.length 0 lo)).take (HT.sIx its.length its.length hi - HT.sIx its.length 0 lo)).toArray:=by
 obtain ⟨h1,h2,h3⟩:=xi lo hi its.toArray.size
 unfold slicePick
 rw [h1,h2,h3]
 simp only [sliceRange_one,pick_run,List.size_toArray] <;> rfl
inductive GT (K:PySem.W.Frag) (x:V) (lo:Option Int) (hi:Option Int) (H:Hp) (Q:VK):Prop
 | mk (a:_) (xs:_) (h0:x=.ref a) (h1:am K H a xs) (h2:∀p,H p=none→Q (.ref p) (aD H p (.lst (iU xs lo hi))))
def IC (K:PySem.W.Frag):V→Option Int→Option Int→Hp→VK→Prop:=fun x lo hi H Q=>GT K x lo hi H Q
theorem uY:FY X (IC X.K):=by
 intro pins s σ H x v vl vu lo hi sl Q I rx hs pl pu h
 obtain ⟨a,xs,rfl,hx,q⟩:=h
 cases rx
 obtain ⟨its,r,ht,hz⟩:=I.list hx
 have hlen:=r.length
 refine ⟨"list",_,slot_list_getitem.lookup,ht.isList.typeIs,?_⟩
 refine wpAny_getItem_list_slice ht.isList hs pl pu .none (by simp) ?_ (by rw [List.size_toArray] <;> trivial)
 rw [vY,←hlen]
 refine ⟨.ref s.heap.objs.size,_,I.laid (t':=s.toks) (o:=.lst (iU xs lo hi)) (fun b ob q=>Heap.get?_push_of_some _ q) (Nat.le_refl _) ?_,rfl,q _ (I.hok.fresh (Nat.le_refl _))⟩
 exact ⟨Nat.le_trans (nu xs lo hi) hz,_,0,(r.drop (HT.sIx xs.length 0 lo)).take (HT.sIx xs.length xs.length hi - HT.sIx xs.length 0 lo),Heap.get?_push_size _ rfl⟩
def j6:V→Bool
 | .non=>true
 | .bl _=>true
 | .int _=>true
 | .str _=>true
 | _=>false
def qw:V→V→Bool
 | .non,.non=>true
 | .bl a,.bl b=>a==b
 | .bl a,.int b=>(if a then 1 else 0)==b
 | .int a,.bl b=>a==(if b then 1 else 0)
 | .int a,.int b=>a==b
 | .str a,.str b=>a==b
 | _,_=>false
theorem EO {A:Around}{s:Shared}{y x:V}{u v:Value} (ry:aQ y u) (rx:aQ x v) (fy:j6 y=true) (fx:j6 x=true):SeqAt.EqAt A s u v (qw y x):=by
 cases y with
 | non=>
  cases ry
  cases x with
  | non=>cases rx;exact SeqAt.EqAt.same _
  | bl b=>cases rx;exact SeqAt.EqAt.none_bool b
  | int b=>obtain ⟨t,rfl⟩:=rx;exact SeqAt.EqAt.none_int b t
  | str b=>obtain ⟨t,rfl⟩:=rx;exact SeqAt.EqAt.none_str b t
  | _=>exact absurd (show false=true from fx) Bool.false_ne_true
 | bl a=>
  cases ry
  cases x with
  | non=>cases rx;exact SeqAt.EqAt.bool_none a
  | bl b=>cases rx;exact SeqAt.EqAt.bool_bool a b
  | int b=>obtain ⟨t,rfl⟩:=rx;exact SeqAt.EqAt.bool_int a b t
  | str b=>obtain ⟨t,rfl⟩:=rx;exact SeqAt.EqAt.bool_str a b t
  | _=>exact absurd (show false=true from fx) Bool.false_ne_true
 | int a=>
  obtain ⟨t',rfl⟩:=ry
  cases x with
  | non=>cases rx;exact SeqAt.EqAt.int_none a t'
  | bl b=>cases rx;exact SeqAt.EqAt.int_bool a t' b
  | int b=>obtain ⟨t,rfl⟩:=rx;exact SeqAt.EqAt.int_int a t' b t
  | str b=>obtain ⟨t,rfl⟩:=rx;exact SeqAt.EqAt.int_str a t' b t
  | _=>exact absurd (show false=true from fx) Bool.false_ne_true
 | str a=>
  obtain ⟨t',rfl⟩:=ry
  cases x with
  | non=>cases rx;exact SeqAt.EqAt.str_none a t'
  | bl b=>cases rx;exact SeqAt.EqAt.str_bool a t' b
  | int b=>obtain ⟨t,rfl⟩:=rx;exact SeqAt.EqAt.str_int a t' b t
  | str b=>obtain ⟨t,rfl⟩:=rx;exact SeqAt.EqAt.str_str a t' b t
  | _=>exact absurd (show false=true from fx) Bool.false_ne_true
 | _=>exact absurd (show false=true from fy) Bool.false_ne_true
def l4 (x:V) (u:Value):Bool:=match u with
 | .none=>qw .non x
 | .bool b=>qw (.bl b) x
 | .int i _=>qw (.int i) x
 | .str z _=>qw (.str z) x
 | _=>false
theorem Aj {x y:V}{u:Value} (r:aQ y u) (f:j6 y=true):l4 x u=qw y x:=by
 cases y with
 | non=>cases r;rfl
 | bl b=>cases r;rfl
 | int i=>obtain ⟨t,rfl⟩:=r;rfl
 | str z=>obtain ⟨t,rfl⟩:=r;rfl
 | _=>exact absurd (show false=true from f) Bool.false_ne_true
theorem oy {x:V}:∀{xs:List V}{us:List Value},aC xs us→xs.all j6=true→us.any (l4 x)=xs.any fun y=>qw y x
 | _,_,.nil,_=>rfl
 | y :: xs,u :: us,.cons r t,f=>by
  rw [List.all_cons,Bool.and_eq_true] at f
  rw [List.any_cons,List.any_cons,Aj r f.1,oy t f.2]
theorem lH {A:Around}{s:Shared}{x:V}{v:Value} (rx:aQ x v) (fx:j6 x=true):∀{xs:List V}{us:List Value},aC xs us→xs.all j6=true→∀u∈us,SeqAt.EqAt A s u v (l4 x u)
 | _,_,.nil,_=>fun u hu=>by cases hu
 | y :: xs,u :: us,.cons r t,f=>fun u' hu=>by
  rw [List.all_cons,Bool.and_eq_true] at f
  rcases List.mem_cons.mp hu with rfl | hu
  ·rw [Aj r f.1];exact EO r rx f.1 fx
  ·exact lH rx fx t f.2 u' hu
def sM (x:V) (xs:List V):Bool:=xs.any fun y=>qw y x
inductive Jd (K:PySem.W.Frag) (neg:Bool) (x:V) (y:V) (H:Hp) (Q:VK):Prop
 | mk (p:_) (xs:_) (h0:y=.ref p) (h1:(am K H p xs∨ag K H p xs)) (h2:j6 x=true) (h3:xs.all j6=true) (h4:Q (.bl (if neg then !sM x xs else sM x xs)) H)
def CA (K:PySem.W.Frag) (neg:Bool):R2:=fun x y H Q=>Jd K neg x y H Q
theorem Ao:cB X (compareOp .In) (CA X.K false):=by
 intro pins s σ H x y v u Q I rx ry h
 obtain ⟨p,xs,rfl,hq,fx,fs,q⟩:=h
 cases ry
 rcases hq with hq | hq
 ·obtain ⟨its,r,pl,hz⟩:=I.list hq
  refine SeqAt.in_listAt (l4 x) pl.isList (fun w hw=>lH rx fx r fs w (by simpa using hw)) ⟨.bl _,H,I,rfl,?_⟩
  rw [show its.toArray.any (l4 x)=its.any (l4 x) by simp,oy r fs]
  exact q
 ·obtain ⟨its,r,pl,hz⟩:=I.tuple hq
  refine SeqAt.in_tupleAt (l4 x) pl (fun w hw=>lH rx fx r fs w (by simpa using hw)) ⟨.bl _,H,I,rfl,?_⟩
  rw [show its.toArray.any (l4 x)=its.any (l4 x) by simp,oy r fs]
  exact q
theorem xA:cB X (compareOp .NotIn) (CA X.K true):=by
 intro pins s σ H x y v u Q I rx ry h
 obtain ⟨p,xs,rfl,hq,fx,fs,q⟩:=h
 cases ry
 rcases hq with hq | hq
 ·obtain ⟨its,r,pl,hz⟩:=I.list hq
  refine SeqAt.notIn_listAt (l4 x) pl.isList (fun w hw=>lH rx fx r fs w (by simpa using hw)) ⟨.bl _,H,I,rfl,?_⟩
  rw [show its.toArray.any (l4 x)=its.any (l4 x) by simp,oy r fs]
  exact q
 ·obtain ⟨its,r,pl,hz⟩:=I.tuple hq
  refine SeqAt.notIn_tupleAt (l4 x) pl (fun w hw=>lH rx fx r fs w (by simpa using hw)) ⟨.bl _,H,I,rfl,?_⟩
  rw [show its.toArray.any (l4 x)=its.any (l4 x) by simp,oy r fs]
  exact q
theorem qE:cn X (.builtin "len") (fun xs H Q=>aW fun p ys=>xs=[.ref p]∧(am X.K H p ys∨ag X.K H p ys)∧Q (.int ys.length) H):=by
 intro pins s σ H xs us Q I r h
 obtain ⟨p,ys,rfl,hq,q⟩:=h
 obtain ⟨u,rfl,rx⟩:=pj r
 cases rx
 have hn:=qO
 rcases hq with hq | hq
 ·obtain ⟨its,r',pl,hz⟩:=I.list hq
  have hlen:=r'.length
  exact Calls.call_len_list pl.isList (by simp only [List.size_toArray] <;> trivial) ⟨.int ys.length,H,I.tok _,⟨s.toks+1,by rw [List.size_toArray,hlen]⟩,q⟩
 ·obtain ⟨its,r',pl,hz⟩:=I.tuple hq
  have hlen:=r'.length
  exact len_tuple pl (by simp only [List.size_toArray] <;> trivial) ⟨.int ys.length,H,I.tok _,⟨s.toks+1,by rw [List.size_toArray,hlen]⟩,q⟩
theorem qx:cn X (.type "list") (fun xs H Q=>aW fun p ys=>xs=[.ref p]∧(am X.K H p ys∨ag X.K H p ys)∧∀l,H l=none→Q (.ref l) (aD H l (.lst ys))):=by
 intro pins s σ H xs us Q I r h
 obtain ⟨p,ys,rfl,hq,q⟩:=h
 obtain ⟨u,rfl,rx⟩:=pj r
 cases rx
 have aP:∀(its:List Value),aC ys its→ys.length≤sizeLine→∀(h':Heap) (c':Nat),(∀b o',s.heap.get? b=some o'→h'.get? b=some o')→
  h'.get? s.heap.objs.size=some { cls:=.type "list",dict:=none,data:=.seq its.toArray c',slots:=#[] }→EP X pins σ Q (.ref s.heap.objs.size) { s with heap:=h' }:=fun its r' hz h' c' kp e=>
  ⟨.ref s.heap.objs.size,_,I.laid (t':=s.toks) kp (Nat.le_refl _) (show aV X.prog X.w _ h' _ (.lst ys) from ⟨hz,its,c',r',e⟩),rfl,q _ (I.hok.fresh (Nat.le_refl _))⟩
 rcases hq with hq | hq
 ·obtain ⟨its,r',pl,hz⟩:=I.list hq
  have hlen:=r'.length
  obtain ⟨o,ho,hc,n,hd⟩:=pl.isList
  exact call_list_seq p (.inl rfl) ho hc hd (fun h' c' kp e=>aP its r' hz h' c' kp e) (by simp only [List.size_toArray] <;> trivial)
 ·obtain ⟨its,r',pl,hz⟩:=I.tuple hq
  have hlen:=r'.length
  obtain ⟨o,ho,hc,n,hd⟩:=pl
  exact call_list_seq p (.inr rfl) ho hc hd (fun h' c' kp e=>aP its r' hz h' c' kp e) (by simp only [List.size_toArray] <;> trivial)
theorem wm:cn X (.type "tuple") (fun xs H Q=>aW fun p ys=>xs=[.ref p]∧((am X.K H p ys∧∀l,H l=none→Q (.ref l) (aD H l (.tup ys)))∨(ag X.K H p ys∧Q (.ref p) H))):=by
 intro pins s σ H xs us Q I r h
 obtain ⟨p,ys,rfl,h⟩:=h
 obtain ⟨u,rfl,rx⟩:=pj r
 cases rx
 rcases h with ⟨hq,q⟩ | ⟨hq,q⟩
 ·obtain ⟨its,r',pl,hz⟩:=I.list hq
  have hlen:=r'.length
  refine call_tuple_list pl.isList (fun h' kp=>?_) (by simp only [List.size_toArray] <;> trivial)
  have I1:ac X pins σ H { s with heap:=h' }:=I.kept (t':=s.toks) kp
  have I2:ac X pins σ (aD H h'.objs.size (.tup ys)) { s with heap:=h'.push { cls:=.type "tuple",data:=.seq its.toArray } }:=
   I1.laid (t':=s.toks) (fun b o e=>Heap.get?_push_of_some _ e) (Nat.le_refl _) (show aV X.prog X.w _ _ _ (.tup ys) from ⟨hz,its,r',IsTup.new _ _,_,Heap.get?_push_size _ rfl,rfl⟩)
  exact ⟨.ref h'.objs.size,_,I2,rfl,q _ (I1.hok.fresh (Nat.le_refl _))⟩
 ·obtain ⟨its,r',pl,hz⟩:=I.tuple hq
  exact call_tuple_same pl ⟨.ref p,H,I,rfl,q⟩
def FL (K:PySem.W.Frag) (T:String) (x:V) (H:Hp):Prop:=match x with
 | .str _=>T = "str"
 | .int _=>T = "int"
 | .ref p=>(T = "list"∧∃xs,am K H p xs)∨(T = "tuple"∧∃o,K.lookup p=some o∧o.cls=.type "tuple"∧o.dict=none)∨
  (T = "dict"∧((∃kvs,H p=some (.dK kvs))∨∃kvs,H p=some (.dT kvs)))∨(T = "set"∧aW fun S n=>H p=some (.set S n))
 | _=>False
theorem A1 {pins:List (Addr×Obj)}{σ:St}{H:Hp}{s:Shared}{T:String}{x:V}{v:Value} (I:ac X pins σ H s) (r:aQ x v) (ty:FL X.K T x H) :
 s.TypeIs v T∧∀a,v=.ref a→∃ob,s.heap.get? a=some ob∧ob.dict=none:=by
 cases x with
 | str z=>
  obtain ⟨t,rfl⟩:=r
  cases (show T = "str" from ty)
  exact ⟨typeIs_str s z t,fun _ e=>nomatch e⟩
 | int i=>
  obtain ⟨t,rfl⟩:=r
  cases (show T = "int" from ty)
  exact ⟨typeIs_int s i t,fun _ e=>nomatch e⟩
 | ref p=>
  cases r
  rcases ty with ⟨rfl,xs,hq⟩ | ⟨rfl,o,hk,hc,hd⟩ | ⟨rfl,hk⟩ | ⟨rfl,S,n,hk⟩
  ·obtain ⟨its,_,pl,_⟩:=I.list hq
   refine ⟨pl.isList.typeIs,fun a e=>?_⟩
   cases e
   obtain ⟨o,n,e,c,hd,_⟩:=pl
   exact ⟨o,e,hd⟩
  ·refine ⟨⟨o,I.kIn p o hk,hc⟩,fun a e=>?_⟩
   cases e
   exact ⟨o,I.kIn _ o hk,hd⟩
  ·have z:∃o,s.heap.get? p=some o∧o.ExactDict:=by
    rcases hk with ⟨kvs,hk⟩ | ⟨kvs,hk⟩
    ·obtain ⟨_,_,_,_,o,_,_,e,ex,_⟩:=I.hok p _ hk
     exact ⟨o,e,ex⟩
    ·obtain ⟨_,_,_,_,o,_,_,e,ex,_⟩:=I.hok p _ hk
     exact ⟨o,e,ex⟩
   obtain ⟨o,e,ex⟩:=z
   refine ⟨⟨o,e,ex.1⟩,fun a e2=>?_⟩
   cases e2
   exact ⟨o,e,ex.2.1⟩
  ·obtain ⟨o,_,_,_,e,ex,_⟩:=I.hok p _ hk
   refine ⟨⟨o,e,ex.1⟩,fun a e2=>?_⟩
   cases e2
   exact ⟨o,e,ex.2.1⟩
 | _=>exact False.elim ty
def Jc (K:PySem.W.Frag) (T:String) (r:V→List V→Hp→VK→Prop) (to:TE):TE:=fun σ H Q=>to σ H fun x H1=>FL K T x H1∧r x [] H1 Q
def Iz (K:PySem.W.Frag) (T:String) (r:V→List V→Hp→VK→Prop) (to:TE) (t:TA):TE:=fun σ H Q=>to σ H fun x H1=>FL K T x H1∧t σ H1 fun xs H2=>r x xs H2 Q
variable {o e:Expr}{es:List Expr}{to:TE}{t:TA}{name:Str}{apos cpos:Pos}{T id:String}{r:V→List V→Hp→VK→Prop}
theorem F8 (pa:PlainAttrs T) (slot:Slot T name id) (hty:typeOf (.builtin id)=pure (.type "method_descriptor")) (hm:Ag X id r) (ho:PE X o to)
 (hbase:attributeBase o name X.env (eval o X.env)=eval o X.env:=by rfl) (hline:(apos.endLine==cpos.line)=true:=by rfl):PE X (.Call (.Attribute o name apos) [] [] cpos) (Jc X.K T r to):=by
 intro pins s σ H Q I h
 refine wpAny_Call_method0_late hbase hline (aK (ho pins s σ H _ I h) fun v s1 ⟨x,H1,I1,r1,ty,q1⟩=>?_)
 obtain ⟨h1,h2⟩:=A1 I1 r1 ty
 exact ⟨T,id,pa,slot,hty,h1,h2,Calls.callWith_builtin rfl (PySem.evalArgs_none (hm pins s1 σ H1 x [] v [] Q I1 r1 .nil q1))⟩
theorem Ik (pa:PlainAttrs T) (slot:Slot T name id) (hty:typeOf (.builtin id)=pure (.type "method_descriptor")) (hm:Ag X id r) (ho:PE X o to) (ha:PA X (e :: es) t)
 (hbase:attributeBase o name X.env (eval o X.env)=eval o X.env:=by rfl)
 (hfew:((backTo cpos (starEach (e :: es) X.env)).all (fun x=>!x.1) && (backToKw cpos (keywordEach [] X.env)).all (fun x=>x.1.isSome)
  && decide ((e :: es).length+([]:List Keyword).length+(if ([]:List Keyword).isEmpty then 0 else 1)<30))=true:=by rfl)
 (hline:(apos.endLine==cpos.line)=true:=by rfl) (hs:starEach (e :: es) X.env=(false,eval e X.env) :: starEach es X.env:=by rfl) (hplain:(backTo cpos (starEach es X.env)).any (·.1)=false:=by rfl) :
 PE X (.Call (.Attribute o name apos) (e :: es) [] cpos) (Iz X.K T r to t):=by
 intro pins s σ H Q I h
 refine wpAny_Call_method_late hbase hfew hline rfl (aK (ho pins s σ H _ I h) fun v s1 ⟨x,H1,I1,r1,ty,q1⟩=>?_)
 obtain ⟨h1,h2⟩:=A1 I1 r1 ty
 refine ⟨T,id,pa,slot,hty,h1,h2,?_⟩
 have hA:=ha cpos pins s1 σ H1 _ I1 q1
 rw [hs] at hA ⊢
 refine Calls.callWith_builtin (by show (false || (backTo cpos (starEach es X.env)).any (·.1))=false;rw [hplain] <;> rfl) (Calls.evalArgs_plain ?_)
 exact aK hA fun us s2 ⟨vs,H2,I2,r2,q2⟩=>hm pins s2 σ H2 x vs v us Q I2 r1 r2 q2
/- xs.append(e), list.index on a module's tuple .. are Ag facts of 06m -/
end
end L2
namespace L2
open PySem PySem.Spec PyProof.Rows
def wO (X:Cx) (id:String) (r:V→List V→Hp→VK→Prop):Prop:=
 ∀(pins:List (Addr×Obj)) (s:Shared) (σ:St) (H:Hp) (x:V) (xs:List V) (v:Value) (us:List Value) (Q:VK),ac X pins σ H s→aQ x v→aC xs us→r x xs H Q→
   wpAny (model X.prog X.w) X.A (call (.builtin id) (v :: us)) (EP X pins σ Q) X.xe s
theorem Paired.un {α β:Type}{R:α→β→Prop}{x:α}{xs:List α}{us:List β} (h:Paired R (x :: xs) us):aW fun u vs=>us=u :: vs∧R x u∧Paired R xs vs:=by
 cases h with
 | cons r q=>exact ⟨_,_,rfl,r,q⟩
theorem Paired.un0 {α β:Type}{R:α→β→Prop}{us:List β} (h:Paired R [] us):us=[]:=by
 cases h with
 | nil=>rfl
theorem aC.one {x:V}{us:List Value} (h:aC [x] us):∃u,us=[u]∧aQ x u:=by
 obtain ⟨u,vs,rfl,r,q⟩:=Paired.un h
 rw [Paired.un0 q]
 exact ⟨u,rfl,r⟩
theorem aC.two {x y:V}{us:List Value} (h:aC [x,y] us):aW fun u v=>us=[u,v]∧aQ x u∧aQ y v:=by
 obtain ⟨u,vs,rfl,r,q⟩:=Paired.un h
 obtain ⟨v,rfl,q2⟩:=aC.one q
 exact ⟨u,v,rfl,r,q2⟩
theorem aC.zero:∀{us:List Value},aC [] us→us=[]
 | _,.nil=>rfl
theorem aC.dropLast {xs:List V}{us:List Value} (h:aC xs us):aC xs.dropLast us.dropLast:=by
 induction h with
 | nil=>exact .nil
 | cons r t ih=>
  cases t with
  | nil=>exact .nil
  | cons q t'=>exact .cons r ih
theorem aC.rep {xs:List V}{us:List Value} (h:aC xs us):∀k:Nat,aC (List.replicate k xs).flatten (List.replicate k us).flatten
 | 0=>.nil
 | k+1=>by
  rw [List.replicate_succ,List.replicate_succ,List.flatten_cons,List.flatten_cons]
  exact aC.append h (aC.rep h k)
theorem yS {α:Type} (l:List α):l.eraseIdx (l.length - 1)=l.dropLast:=by
 induction l with
 | nil=>rfl
 | cons a r ih=>
  cases r with
  | nil=>rfl
  | cons b r=>
   have e:(a :: b :: r).length - 1=((b :: r).length - 1)+1:=by
    have h1:(a :: b :: r).length=r.length+2:=rfl
    have h2:(b :: r).length=r.length+1:=rfl
    trivial
   rw [e,List.eraseIdx_cons_succ,ih]
   all_goals rfl
theorem vB (its:List Value):∀(k:Nat) (acc:List Value),
 List.foldl (fun x1 x2=>x1++x2) acc.toArray (List.replicate k its.toArray)=(acc++(List.replicate k its).flatten).toArray
 | 0,acc=>by simp
 | k+1,acc=>by
  have e:acc.toArray++its.toArray=(acc++its).toArray:=by simp
  have e2:(acc++its)++(List.replicate k its).flatten=acc++(List.replicate (k+1) its).flatten:=by
   rw [List.replicate_succ,List.flatten_cons,List.append_assoc]
  rw [←e2,←vB its k (acc++its),←e,List.replicate_succ,List.foldl_cons]
section
variable {X:Cx}{pins:List (Addr×Obj)}{σ:St}{H:Hp}{s:Shared}{l b:Addr}{xs ys zs:List V}
theorem ac.lset {its its':List Value}{n:Nat}{f:Array Value→Array Value}{t':Nat} (I:ac X pins σ H s) (hH:H l=some (.lst xs))
 (e:s.heap.get? l=some { cls:=.type "list",data:=.seq its.toArray n }) (hf:f its.toArray=its'.toArray) (hv:aC ys its') (hz:ys.length≤sizeLine) :
 ac X pins σ (aD H l (.lst ys)) { s with heap:=s.heap.update l (Obj.mapSeq f),toks:=t' }:=by
 have q:=PySem.IsL.update e f
 rw [hf] at q
 refine I.write (x:=l) (e:=l) (by rw [hH];exact trivial) (.inl rfl) (fun b' u hb hu=>(Heap.get?_update_other s.heap (Obj.mapSeq f) (Ne.symm hb)).trans hu) ⟨_,q⟩ ?_
 exact ⟨hz,its',_,hv,q⟩
theorem ac.lnew {its:List Value}{t':Nat} (I:ac X pins σ H s) (hv:aC ys its) (hz:ys.length≤sizeLine) :
 ac X pins σ (aD H s.heap.objs.size (.lst ys)) { s with heap:=s.heap.push { cls:=.type "list",data:=.seq its.toArray },toks:=t' }:=
 I.laid (fun _ _ q=>Heap.get?_push_of_some _ q) (Nat.le_refl _) ⟨hz,its,0,hv,Heap.get?_push_size _ rfl⟩
theorem ac.fresh (I:ac X pins σ H s):H s.heap.objs.size=none:=I.hok.fresh (Nat.le_refl _)
theorem ac.lstM (I:ac X pins σ H s) (hH:H l=some (.lst xs)):xs.length≤sizeLine∧aW fun (its:List Value) (n:Nat)=>aC xs its∧xs.length=its.length∧s.heap.get? l=some { cls:=.type "list",data:=.seq its.toArray n }:=by
 obtain ⟨z,its,n,r,e⟩:=I.hok l _ hH
 exact ⟨z,its,n,r,r.length,e⟩
theorem Bo {n:Nat} (h:n≤sizeLine):Builtin.List.listTooLong n=false:=by
 unfold Builtin.List.listTooLong
 exact decide_eq_false (by trivial)
end
section
variable {X:Cx}
inductive Br (x:V) (vs:List V) (H:Hp) (Q:VK):Prop
 | mk (l:_) (xs:_) (y:_) (h0:x=.ref l) (h1:vs=[y]) (h2:H l=some (.lst xs)) (h3:xs.length<sizeLine) (h4:Q .non (aD H l (.lst (xs++[y]))))
def Dd:V→List V→Hp→VK→Prop:=fun x vs H Q=>Br  x vs H Q
theorem qI:wO X "list.append" Dd:=by
 intro pins s σ H x vs v us Q I rx rv h
 obtain ⟨l,xs,y,rfl,rfl,hH,hz,q⟩:=h
 cases rx
 obtain ⟨u,rfl,ru⟩:=rv.one
 obtain ⟨z,its,n,r,hl,e⟩:=I.lstM hH
 refine call_meets F.slot_list_append ⟨_,e,rfl⟩ F.entry_list_append (F.args_list_append_2 _ _) (PySem.list_append l its.toArray n u (by rw [List.size_toArray];trivial)) ⟨e,?_⟩
 refine ⟨.non,_,I.lset (its':=its++[u]) hH e (by simp) (r.append (.cons ru .nil)) ?_,rfl,q⟩
 rw [List.length_append,List.length_singleton]
 trivial
inductive Io (x:V) (vs:List V) (H:Hp) (Q:VK):Prop
 | mk (l:_) (xs:_) (y:_) (h0:x=.ref l) (h1:vs=[]) (h2:H l=some (.lst xs)) (h3:xs[xs.length - 1]?=some y) (h4:Q y (aD H l (.lst xs.dropLast)))
def IU:V→List V→Hp→VK→Prop:=fun x vs H Q=>Io  x vs H Q
theorem Gx:wO X "list.pop" IU:=by
 intro pins s σ H x vs v us Q I rx rv h
 obtain ⟨l,xs,y,rfl,rfl,hH,hy,q⟩:=h
 cases rx
 have hus:=rv.zero
 subst hus
 obtain ⟨z,its,n,r,hl,e⟩:=I.lstM hH
 obtain ⟨u,hu,ru⟩:=r.get hy
 have hy':its.toArray[its.toArray.size - 1]?=some u:=by
  show its.toArray[its.length - 1]?=some u
  rw [←Array.getElem?_toList,←hl]
  exact hu
 refine call_meets F.slot_list_pop ⟨_,e,rfl⟩ F.entry_list_pop (F.args_list_pop_1 _) (MeetsSeq.list_pop_last l its.toArray n u hy' (by rw [List.size_toArray];trivial)) ⟨e,?_⟩
 refine ⟨y,_,I.lset (its':=its.dropLast) hH e ?_ r.dropLast ?_,ru,q⟩
 ·show its.toArray.eraseIdxIfInBounds (its.toArray.size - 1)=its.dropLast.toArray
  rw [List.size_toArray,List.eraseIdxIfInBounds_toArray,yS]
 ·rw [List.length_dropLast]
  trivial
inductive GH (x:V) (y:V) (H:Hp) (Q:VK):Prop
 | mk (l:_) (b:_) (xs:_) (zs:_) (h0:x=.ref l) (h1:y=.ref b) (h2:H l=some (.lst xs)) (h3:H b=some (.lst zs)) (h4:xs.length+zs.length≤sizeLine) (h5:∀p,H p=none→Q (.ref p) (aD H p (.lst (xs++zs))))
def IQ:R2:=fun x y H Q=>GH  x y H Q
theorem Fc:cB X (binaryOp .Add) IQ:=by
 intro pins s σ H x y v u Q I rx ry h
 obtain ⟨l,b,xs,zs,rfl,rfl,hH,hB,hz,q⟩:=h
 cases rx
 cases ry
 obtain ⟨z,its,n,r,hl,e⟩:=I.lstM hH
 obtain ⟨z2,its2,n2,r2,hl2,e2⟩:=I.lstM hB
 refine PySem.P.add_list e e2 ?_ (by rw [List.size_toArray,List.size_toArray];trivial)
 have ea:its.toArray++its2.toArray=(its++its2).toArray:=by simp
 rw [ea]
 exact ⟨.ref _,_,I.lnew (t':=s.toks) (r.append r2) (by rw [List.length_append];trivial),rfl,q _ I.fresh⟩
inductive GI (x:V) (y:V) (H:Hp) (Q:VK):Prop
 | mk (l:_) (k:_) (xs:_) (h0:x=.ref l) (h1:y=.int k) (h2:H l=some (.lst xs)) (h3:-(2 ^ 63)≤k) (h4:k<2 ^ 63) (h5:xs.length*k.toNat≤sizeLine) (h6:∀p,H p=none→Q (.ref p) (aD H p (.lst (List.replicate k.toNat xs).flatten)))
def IJ:R2:=fun x y H Q=>GI  x y H Q
theorem yP {α:Type} (xs:List α) (k:Nat):(List.replicate k xs).flatten.length=k*xs.length:=by
 induction k with
 | zero=>simp
 | succ k ih=>rw [List.replicate_succ,List.flatten_cons,List.length_append,ih,Nat.succ_mul,Nat.add_comm]
theorem Fq:cB X (binaryOp .Mult) IJ:=by
 intro pins s σ H x y v u Q I rx ry h
 obtain ⟨l,k,xs,rfl,rfl,hH,h1,h2,hz,q⟩:=h
 cases rx
 obtain ⟨t,rfl⟩:=ry
 obtain ⟨z,its,n,r,hl,e⟩:=I.lstM hH
 have hlen:its.toArray.size*k.toNat≤sizeLine:=by rw [List.size_toArray,←hl];exact hz
 have hcap:¬its.toArray.size*k.toNat > (2 ^ 63 - 1) / 8:=by
  have:(sizeLine:Nat)≤(2 ^ 63 - 1) / 8:=by decide
  trivial
 have hfit:¬(!Builtin.List.listFitsIndex k)=true:=by
  rw [fitsIndex_both h1 h2]
  exact Bool.false_ne_true
 have hlong:¬Builtin.List.listTooLong (its.toArray.size*k.toNat)=true:=by
  rw [Bo hlen]
  exact Bool.false_ne_true
 have hnew:List.foldl (fun x1 x2=>x1++x2) #[] (List.replicate (if its.toArray.isEmpty=true then 0 else k.toNat) its.toArray)=(List.replicate k.toNat its).flatten.toArray:=by
  have f0:∀m:Nat,List.foldl (fun x1 x2=>x1++x2) #[] (List.replicate m its.toArray)=(List.replicate m its).flatten.toArray:=fun m=>by
   have:=vB its m []
   rw [List.nil_append] at this
   exact this
  rw [f0]
  cases its with
  | nil=>simp
  | cons a r'=>rw [if_neg (by simp)]
 refine wpAny_binaryOp_repeat_ref (T := "list") (U := "int") (by decide) ⟨_,e,rfl⟩ (fun s'=>typeIs_int s' k t) noFill_list_mul F.fills_int_mul F.slot_int_rmul repeat_list F.slot_int_index.lookup
  (call_meets F.slot_int_rmul (typeIs_int s k t) F.entry_int_rmul (F.args_int_rmul_2 _ _) (int___rmul___int_list k t l its.toArray n)
   ⟨e,rfl,⟨_,e,rfl⟩,call_meets F.slot_list_mul ⟨_,e,rfl⟩ F.entry_list_mul (F.args_list_mul_2 _ _) (AutoListH.list___mul___list_int_3 l its.toArray n k t hfit hcap hlong) ⟨e,?_⟩⟩)
 rw [hnew]
 exact ⟨.ref _,_,I.lnew (t':=s.toks) (r.rep k.toNat) (by rw [yP,Nat.mul_comm];exact hz),rfl,q _ I.fresh⟩
end
section
variable {prog:Program}{w:World}{A:Around}{E:Value→Shared→Prop}{s:Shared}
set_option maxRecDepth 100000 in
end
section
variable {X:Cx}
end
end L2
namespace Att
open PySem PySem.W PySem.Calls PyProof.Rows
theorem uh {P:Params}{h:Heap}:∀(ns:List Int) (vs:List Value),WellAll P h vs (ns.map WData.int)→IntsAre vs ns:=by
 intro ns
 induction ns with
 | nil=>
  intro vs w
  rw [List.map_nil] at w
  cases w
  exact .nil
 | cons n ns ih=>
  intro vs w
  rw [List.map_cons] at w
  cases w with
  | cons a b=>
   cases a
   exact .cons _ _ (ih _ b)
theorem A5 {l:OpenLaw}{n:Nat} (hn:l.most=some n) {P:Params}{h:Heap}{args:List WData}{vals:List Value}
 (hpre:l.row.toRowW.claim.pre args=true) (hwl:WellAll P h vals args) :
 ∃a vs ns,vals=[Value.ref a]∧args=[WData.list (ns.map WData.int)]∧h.get? a=some { cls:=.type "list",data:=.seq vs.toArray }∧IntsAre vs ns∧ns.length≤n:=by
 have hsh:WShape.hasAll [] args [.list .int]=true:=(pre_splitW hpre).1
 have hc:l.pre.holds [] { args:=args }=true:=(pre_splitW hpre).2
 obtain ⟨d,r,rfl,h1,h2⟩:=hasAllW_cons hsh
 obtain rfl:=hasAllW_nil h2
 obtain ⟨xs,rfl,h3⟩:=hasW_list h1
 obtain ⟨ns,rfl⟩:=items_int h3
 have hlen:ns.length≤n:=by
  unfold OpenLaw.pre at hc
  have h4:(WTm.not (.lt (.lit (.int (n:Int))) (.len (.arg 0)))).holds [] { args:=[.list (ns.map .int)] }=true:=by
   have h4:=(holds_andW hc).1
   rw [hn] at h4
   exact h4
  have h5:=condW_of h4 (w_not (w_lt w_lit (w_len_list (w_arg rfl))))
  rw [List.length_map] at h5
  refine Nat.le_of_not_lt fun q=>?_
  have q':(n:Int)<((ns.length:Nat):Int):=by trivial
  first
   | (rw [decide_eq_true q'] at h5;exact absurd h5 (by decide))
   | (simp at h5;trivial)
 cases hwl with
 | cons w1 w2=>
  cases w2
  cases w1 with
  | list ho hall=>exact ⟨_,_,ns,rfl,rfl,ho,uh ns _ hall,hlen⟩
theorem At (l:OpenLaw) (args:List WData):l.row.toRowW.claim.post args (.bool true) args=true:=
 postW_of (r:=l.row.toRowW) (X:=(true==true))
  (show WShape.has [] (.bool true) .bool=true by first | rfl | decide | simp [WShape.has,WShape.arms,WShape.armsAll])
  (show (WTm.eq .res (.lit (.bool true))).value [] { args:=args,res:=some (.bool true),after:=args }=some (.bool (true==true)) from w_eq_bool (w_res rfl) w_lit) rfl
theorem attach_call {l:OpenLaw}{n:Nat}{q:Program}{loose:List Str}{XP:(Str→Option Value)→Heap→Prop}{YP:World→Heap→Prop}{d:DefRec}
 (hn:l.most=some n) (hdf:d.params.defaults=[])
 (call:∀(w:World) (s₀ s₁:Shared) (mg mb:Str→Option Value) (fa:Addr) (o:Obj) (pm cd doc:Value) (a:Addr) (vs:List Value) (ns:List Int),
  Ground q loose [] XP w s₀ mg mb s₁.heap→YP w s₁.heap→
  s₁.heap.get? fa=some o→o.data=.func (docDef d.name d.params d.body d.scope pm cd doc)→s₁.heap.CodeRec cd d.name→mg d.name=some (.ref fa)→
  s₁.heap.get? a=some { cls:=.type "list",data:=.seq vs.toArray }→IntsAre vs ns→ns.length≤n→s₁.gens=#[]→
  codeAny (model l.prog w) callerA (.call (.ref fa) ⟨[.ref a],[]⟩) (fun r s'=>r=.ok (.ret (.bool true))∧OldK s₁.heap s'.heap∧s'.os=s₁.os∧AllBare s'.gens) s₁) :
 WalkO q loose XP YP l.row.toRowW d [] (fun f vs=>PySem.call f vs):=by
 intro w s₀ s₁ mg mb G Y fa o pm cd doc dV kV ho hd hcd hD hmg hg args vals as hpre hlay hrd hwl hlo
 obtain rfl:dV=.none:=Dflts.none hD hdf
 obtain rfl:kV=.none:=Dflts.noKw hD
 obtain ⟨a,vs,ns,rfl,rfl,hobj,hints,hlen⟩:=A5 hn hpre hwl
 refine enter_call (codeAny_mono (call w s₀ s₁ mg mb fa o pm cd doc a vs ns G Y ho (fd_plain hd) hcd hmg hobj hints hlen hg) fun r s' hq=>?_)
 obtain ⟨rfl,h2,h3,h4⟩:=hq
 exact ⟨.inl ⟨.bool true,.bool true,[],rfl,fun _=>rfl,.bool true,At l _,fun _=>⟨List.Pairwise.nil,fun _ hm=>(nomatch hm)⟩⟩,h2,h3,h4⟩
section
variable {prog:Program}{w:World}{A:Around}{E:Value→Shared→Prop}{s:Shared}{K:Frag}
end
end Att
namespace L2
open PySem PySem.Spec PyProof.Rows
theorem vF:∀{vs:List Value}{ns:List Int},IntsAre vs ns→aC (ns.map V.int) vs
 | _,_,.nil=>.nil
 | _,_,.cons n t h=>.cons ⟨t,rfl⟩ (vF h)
def uO (H:Hp):Prop:=∀b,H b=none∨aW fun o xs=>H b=some (.frz o (.lst xs))
theorem Bm {P:Program}{w:World}{K:PySem.W.Frag}{mg mb:Str→Option Value}{CX:ke}{k:Nat}{fa a:Addr}{fd:FuncData}{x:Str}{sp:Sp}{s₁:Shared}{vs:List Value}{ns:List Int}
 (KX:K.In s₁.heap) (hns:s₁.heap.Ns mainGlobals mg) (hb:s₁.heap.Ns builtinsNs mb) (hbb:∀x:Str,x≠"__name__"→mb x=bootBuiltins x) (hlim:s₁.heap.NoLimit) (hg:s₁.gens=#[])
 (ha:s₁.heap.get? a=some { cls:=.type "list",data:=.seq vs.toArray }) (hi:IntsAre vs ns) (hl:ns.length≤sizeLine) (hr:cN k callerA)
 (F:∀base:Heap,K.In base→base.Ns mainGlobals mg→aZ P w K mg base CX k fa fd [x] sp) (hbind:∀(s:Shared) (u:Value),BindsTo s fd ⟨[u],[]⟩ [(x,u)])
 (hsp:∀H:Hp,uO H→am K H a (ns.map V.int)→sp [.ref a] H (fun v _=>v=.bl true) fun _ _ _=>False)
 (hCX:∀H e s',CX [] H s₁ (fun _ _ _=>False) e s'→False) :
 codeAny (model P w) callerA (.call (.ref fa) ⟨[.ref a],[]⟩) (fun r s'=>r=.ok (.ret (.bool true))∧OldK s₁.heap s'.heap∧s'.os=s₁.os∧AllBare s'.gens) s₁:=by
 have rv:=vF hi
 have lenV:=hi.length
 have core:∀H:Hp,uO H→am K H a (ns.map V.int)→dL P w H s₁.heap→(∀b,H b≠none→b=a)→(H a≠none→K.lookup a=none)→
  codeAny (model P w) callerA (.call (.ref fa) ⟨[.ref a],[]⟩) (fun r s'=>r=.ok (.ret (.bool true))∧OldK s₁.heap s'.heap∧s'.os=s₁.os∧AllBare s'.gens) s₁:=by
  intro H hO hS hok hA hK
  have base_of:∀{b:Addr}{o:Obj},s₁.heap.get? b=some o→H b=none→(pE s₁.heap H).get? b=some o:=fun e n=>Bv e n
  have noA:∀{b:Addr}{o:Obj}{es:Array DictEntry}{ep:Nat},s₁.heap.get? b=some o→o.data=.dict es ep→H b=none:=fun {b o es ep} e d=>by
   cases q:H b with
   | none=>rfl
   | some u=>
    have e':b=a:=hA b (by rw [q];simp)
    subst e'
    rw [ha] at e;cases e
    have d':Data.seq vs.toArray _=Data.dict es ep:=d
    cases d'
  have nsK:∀{b:Addr}{m:Str→Option Value},s₁.heap.Ns b m→(pE s₁.heap H).Ns b m:=fun {b m} ⟨o,es,ep,e,d,r⟩=>⟨o,es,ep,base_of e (noA e d),d,r⟩
  have hKb:K.In (pE s₁.heap H):=fun b o e=>base_of (KX b o e) (by
   cases q:H b with
   | none=>rfl
   | some u=>
    have e':b=a:=hA b (by rw [q];simp)
    subst e'
    rw [hK (by rw [q];simp)] at e;cases e)
  have hM:Mod K mg (pE s₁.heap H):=⟨hKb,nsK hns,⟨mb,nsK hb,hbb⟩,let ⟨mc,h1,h2⟩:=hlim;⟨mc,nsK h1,h2⟩⟩
  have e0:tj P w K mg (pE s₁.heap H) callerA [] s₁ H:=⟨rfl,hM,fun b o e=>Dv e,Nat.le_of_eq (AQ _ _),trivial,fun b hb=>absurd (show b∈([]:List Addr) from hb) (by simp),hok,.of_eq hg⟩
  refine codeAny_mono ((F _ hKb (nsK hns)).run callerA [] s₁ H ⟨[.ref a],[]⟩ [.ref a] [.ref a] _ _ hr e0 (hbind s₁ (.ref a)) (.cons rfl .nil) (hsp H hO hS)) fun r s' h=>?_
  cases r with
  | error e=>exact (hCX H e s' h).elim
  | ok fl=>
   cases fl with
   | next=>exact False.elim h
   | brk=>exact False.elim h
   | cont=>exact False.elim h
   | ret u=>
    obtain ⟨v,H',os,bare,un,hok',r',q⟩:=h
    have q':v=.bl true:=q
    subst q'
    obtain rfl:u=Value.bool true:=r'
    refine ⟨rfl,OldK.of_keep fun b o e=>?_,os,bare⟩
    cases q:H b with
    | none=>exact un.keep b o e q (by intro z;exact absurd (show b∈([]:List Addr) from z) (by simp)) (by simp)
    | some u=>
     rcases hO b with z | ⟨ob,xs,z⟩
     ·rw [q] at z;cases z
     ·have z2:=un.frzs b ob _ z
      obtain ⟨e1,_⟩:=hok b _ z
      obtain ⟨e2,_⟩:=hok' b _ z2
      rw [e] at e1;cases e1
      exact e2
 cases hk:K.lookup a with
 | some o=>
  have e:=KX a o hk
  rw [ha] at e
  cases e
  refine core (fun _=>none) (fun _=>.inl rfl) (.inr ⟨_,vs.toArray,_,hk,rfl,rfl,rfl,by rw [List.size_toArray,lenV];exact hl,by simpa using rv⟩) (fun b u z=>by have z':(none:Option HO)=some u:=z;cases z') (fun b z=>absurd rfl z) fun z=>absurd rfl z
 | none=>
  refine core (fun b=>if b=a then some (.frz { cls:=.type "list",data:=.seq vs.toArray } (.lst (ns.map V.int))) else none) (fun b=>?_) (.inl (.inr ⟨{ cls:=.type "list",data:=.seq vs.toArray },if_pos rfl⟩)) (fun b u z=>?_) (fun b z=>?_) fun _=>hk
  ·by_cases hb:b=a
   ·exact .inr ⟨_,_,if_pos hb⟩
   ·exact .inl (if_neg hb)
  ·by_cases hb:b=a
   ·have z':=(if_pos hb).symm.trans z
    cases z'
    subst hb
    exact ⟨ha,by rw [List.length_map];exact hl,vs,_,rv,ha⟩
   ·have z':=(if_neg hb).symm.trans z
    cases z'
  ·by_cases hb:b=a
   ·exact hb
   ·exact absurd (if_neg hb) z
end L2
namespace L2
open PySem PySem.Spec PyProof.Rows
theorem walk_of {l:PySem.W.OpenLaw}{n k:Nat}{q:Program}{loose:List Str}{XP:(Str→Option Value)→Heap→Prop}{YP:World→Heap→Prop}{d:DefRec}{K:Params→PySem.W.Frag}{CX:World→ke}{sp:World→Sp}{x:Str}
 (hn:l.most=some n) (hn2:n≤sizeLine) (hdf:d.params.defaults=[]) (hr:cN k callerA)
 (hY:∀(w:World) (h:Heap),YP w h→(K w.params).In h)
 (F:∀(w:World) (mg:Str→Option Value) (fa:Addr) (h:Heap),(K w.params).In h→h.Ns mainGlobals mg→mg d.name=some (.ref fa)→
  ∃fd:FuncData,(∀(s:Shared) (u:Value),BindsTo s fd ⟨[u],[]⟩ [(x,u)])∧
   ∀base:Heap,(K w.params).In base→base.Ns mainGlobals mg→aZ l.prog w (K w.params) mg base (CX w) k fa fd [x] (sp w))
 (hsp:∀(w:World) (H:Hp) (a:Addr) (ns:List Int),ns.length≤n→uO H→am (K w.params) H a (ns.map V.int)→sp w [.ref a] H (fun v _=>v=.bl true) fun _ _ _=>False)
 (hCX:∀(w:World) (H:Hp) (s:Shared) (e:Value) (s':Shared),CX w [] H s (fun _ _ _=>False) e s'→False) :
 PySem.W.WalkO q loose XP YP l.row.toRowW d [] (fun f vs=>PySem.call f vs):=by
 refine Att.attach_call hn hdf fun w s₀ s₁ mg mb fa o pm cd doc a vs ns G Y ho hd hcd hmg hobj hints hlen hg=>?_
 have KX:=hY w _ Y
 obtain ⟨fd,hb,hF⟩:=F w mg fa _ KX G.T.g hmg
 exact Bm KX G.T.g G.T.b G.T.builtins G.T.nolimit hg hobj hints (Nat.le_trans hlen hn2) hr hF hb (fun H hO hS=>hsp w H a ns hlen hO hS) fun H e s'=>hCX w H s₁ e s'
theorem Bj {l:PySem.W.OpenLaw}{n k:Nat}{q:Program}{loose:List Str}{XP:(Str→Option Value)→Heap→Prop}{YP:World→Heap→Prop}{d:DefRec}{K:Params→PySem.W.Frag}{CX:ke}{sp:PySem.W.Frag→Sp}{x:Str}
 (hn:l.most=some n) (hn2:n≤sizeLine) (hdf:d.params.defaults=[]) (hr:cN k callerA)
 (hY:∀(w:World) (h:Heap),YP w h→(K w.params).In h)
 (F:∀(w:World) (mg:Str→Option Value) (fa:Addr) (h:Heap),(K w.params).In h→h.Ns mainGlobals mg→mg d.name=some (.ref fa)→
  ∃fd:FuncData,(∀(s:Shared) (u:Value),BindsTo s fd ⟨[u],[]⟩ [(x,u)])∧
   ∀base:Heap,(K w.params).In base→base.Ns mainGlobals mg→aZ l.prog w (K w.params) mg base CX k fa fd [x] (sp (K w.params)))
 (hsp:∀(K:PySem.W.Frag) (H:Hp) (a:Addr) (ns:List Int),ns.length≤n→uO H→am K H a (ns.map V.int)→sp K [.ref a] H (fun v _=>v=.bl true) fun _ _ _=>False)
 (hCX:∀(H:Hp) (s:Shared) (e:Value) (s':Shared),CX [] H s (fun _ _ _=>False) e s'→False) :
 PySem.W.WalkO q loose XP YP l.row.toRowW d [] (fun f vs=>PySem.call f vs):=
 walk_of (K:=K) (CX:=fun _=>CX) (sp:=fun w=>sp (K w.params)) hn hn2 hdf hr hY F (fun w H a ns h1 h2 h3=>hsp (K w.params) H a ns h1 h2 h3) fun _ H s e s'=>hCX H s e s'
end L2
/- THE LAST THEOREM (shape; LID, My.* are yours):
 My.Adr: a structure of the addresses that your layer names (classes, functions); My.Txt K t: a structure (Prop) of the equations over K;
 My.txt_mk : {K} {implicit addresses ..} (e1 : nsIn K mainGlobals "law" = some (some (.ref f))) (e2 : K.lookup f = some ⟨oc, od, .func (fnOf "law" "law" params body scope dV kV doc pm an cdv ct), sl⟩) (e3 : codeIn K cdv "law" = true) .. : ∃ t, My.Txt K t
set_option maxRecDepth 100000 in
set_option maxHeartbeats 0 in
theorem PySem.Challenge.cw_LID_holds : PySem.Challenge.rw_LID.Holds := by
 w_on; o_law; k_head; (case hw => w_witness2)
 k_fill
 refine L2.walk_of (l := PySem.Challenge.rw_LID) (n := 63) (k := 40) (x := "script") (CX := fun w => ..) (sp := fun _ => My.sp_law) rfl (by decide) rfl ⟨rfl, by decide, by decide⟩ (fun w h Y => PySem.W.kIn_of Y) ?F ?S ?C
 case F =>
  intro w mg fa h KX G hmg
  have T : ∃ t, My.Txt (L2.KOf KX) t := by
   dsimp only [L2.KOf]                          -- K must stand as «<heap const> w.params» for k_is
   refine' My.txt_mk ?e1 ?e2 ?e3 ..
   (case e1 => PySem.W.k_is)                    -- in the order: a name -> its address -> its object -> its parts
   (case e2 => PySem.W.k_is)
   ..
  obtain ⟨t, T⟩ := T
  have e0 := hmg.symm.trans (PySem.W.mg_of KX G T.law)
  cases e0                                       -- fa is the law's own address
  exact ⟨_, fun s u => .of_eq rfl, fun base kb nb => My.law_fn T kb nb⟩     -- if «.of_eq rfl» comes too early: refine' ⟨_, ?b, fun base kb nb => My.law_fn T kb nb⟩; exact fun s u => .of_eq rfl
 case S => exact fun w H a ns hl hO hS => ..
 case C => exact ..
(the tactic k_is has no namespace: write k_is) -/
namespace L2
open PySem PySem.Spec PyProof.Rows
def uM (s:Stmt):Arguments:=match s with
 | .FunctionDef _ a _ _ _ _ _ _ _ _=>a
 | _=>{ posonlyargs:=[],args:=[],vararg:=none,kwonlyargs:=[],kw_defaults:=[],kwarg:=none,defaults:=[] }
def oS (s:Stmt):List Stmt:=match s with
 | .FunctionDef _ _ b _ _ _ _ _ _ _=>b
 | _=>[]
def av (s:Stmt):Scope:=match s with
 | .FunctionDef _ _ _ _ _ _ sc _ _ _=>sc
 | _=>{ kind:=.function,names:=[],isGenerator:=false,isCoroutine:=false }
abbrev CX0:ke:=fun _ _ _ _ _ _=>False
abbrev E0:XK:=fun _ _ _=>False
theorem rA {X:Cx}:re CX0 X E0:=fun _ _ _ _ _ _ _ h=>h.elim
structure lG (K:PySem.W.Frag) (x qual:Str) (st:Stmt) (f:Addr) (fd:FuncData):Prop where
 ex:Gz fun (oc:Value) (od:Option Addr) (kV doc pm:Value) (an:Option Addr) (cdv ct:Value) (osl:Array (Option Value))=>
  fd=PySem.W.fnOf x qual (uM st) (oS st) (av st) .none kV doc pm an cdv ct∧K.lookup f=some ⟨oc,od,.func fd,osl⟩∧PySem.W.codeIn K cdv qual=true
 kp:PySem.W.keepIn K (.ref f)=true
section
variable {P:Program}{w:World}{K:PySem.W.Frag}{mg:Str→Option Value}{base:Heap}
theorem lG.ok {x qual:Str}{st:Stmt}{f:Addr}{fd:FuncData}{N ps:List Str}{k:Nat}{sp:Sp} (F:lG K x qual st f fd) (S:aL N ps (av st)) (len:∀vs H Q E,sp vs H Q E→vs.length=ps.length)
 (hbody:∀(cdv:Value) (A:Around) (outer:List Env) (s:Shared) (H:Hp) (vs:List V) (Q:VK) (E:XK),cN k (A.deeper (envOfC qual (av st) s.heap.objs.size f cdv))→sp vs H Q E→
  ∃t,kU (oV CX0 P w K mg base N qual (av st) f cdv A outer s H E).nox (oS st) t∧t { nx:=fun _ H'=>Q .non H',rt:=Q } (start N vs) H):aZ P w K mg base CX0 (k+1) f fd ps sp:=by
 obtain ⟨oc,od,kV,doc,pm,an,cdv,ct,osl,rfl,lk,hcd⟩:=F.ex
 refine CJ lk hcd S len fun A outer s H vs Q E hr hsp=>?_
 obtain ⟨t,h,q⟩:=hbody cdv A outer s H vs Q E hr hsp
 exact ⟨t,h.nox,q⟩
theorem lG.binds {x qual:Str}{st:Stmt}{f:Addr}{fd:FuncData}{ps:List Str} (F:lG K x qual st f fd)
 (h:∀(kV doc pm:Value) (an:Option Addr) (cdv ct:Value) (us:List Value),us.length=ps.length→bindArgs (PySem.W.fnOf x qual (uM st) (oS st) (av st) .none kV doc pm an cdv ct) ⟨us,[]⟩=pure (ps.zip us)):fY K fd ps []:=by
 obtain ⟨oc,od,kV,doc,pm,an,cdv,ct,osl,rfl,lk,hcd⟩:=F.ex
 exact .all (h kV doc pm an cdv ct)
end
section
variable {X:Cx}
theorem pv (i:Nat) {x:Str}{pos:Pos} (hN:X.N[i]?=some x:=by rfl) (hv:Ay X.env.scope x:=by first | exact Or.inl rfl | exact Or.inr (Or.inl rfl) | exact Or.inr (Or.inr rfl)) (hd:(x==("__debug__" : Str))=false:=by decide)
 (hcd:(x==("__classdict__" : Str))=false:=by decide):PE X (.Name x pos) (Bw i):=A4 hN hv hd hcd
end
theorem aM {A B:Prop} (h:B):if false=true then A else B:=by
 rw [if_neg Bool.false_ne_true]
 exact h
theorem bh {A B:Prop} (h:A):if true=true then A else B:=by
 rw [if_pos rfl]
 exact h
theorem mm {c A B:Prop} [Decidable c] (h1:c→A) (h2:¬c→B):if c then A else B:=by
 by_cases h:c
 ·rw [if_pos h]
  exact h1 h
 ·rw [if_neg h]
  exact h2 h
def ah (H H':Hp):Prop:=∀b o,H b=some o→H' b=some o
theorem ah.refl (H:Hp):ah H H:=fun _ _ h=>h
theorem ah.trans {H H1 H2:Hp} (a:ah H H1) (b:ah H1 H2):ah H H2:=fun c o h=>b c o (a c o h)
theorem ah.free {H H':Hp} (e:ah H H') {l:Addr} (h:H' l=Option.none):H l=Option.none:=by
 cases q:H l with
 | none=>rfl
 | some o=>
  rw [e l o q] at h
  cases h
theorem ah.seq {K:PySem.W.Frag}{H H':Hp}{a:Addr}{xs:List V} (e:ah H H') (h:am K H a xs):am K H' a xs:=by
 rcases h with (h | ⟨o,h⟩) | h
 ·exact .inl (.inl (e _ _ h))
 ·exact .inl (.inr ⟨o,e _ _ h⟩)
 ·exact .inr h
end L2
namespace L2
open PySem
theorem u0 {scope:Scope}{env:Env} (h:∀y∈scope.names,y.2=.free→∃c,env.cells.lookup y.1=some c) :
 ∃cl,closureFor scope env=pure cl∧(∀x c,cl.lookup x=some c→env.cells.lookup x=some c)∧(∀y∈scope.names,y.2=.free→∃c,cl.lookup y.1=some c):=by
 have go:∀(names:List (Str×NameKind)) (acc:List (Str×Addr)),(∀y∈names,y.2=.free→∃c,env.cells.lookup y.1=some c)→(∀x c,acc.lookup x=some c→env.cells.lookup x=some c)→
  ∃cl,(forIn names acc (fun (x:Str×NameKind) (cs:List (Str×Addr))=>match x with
   | (name,kind)=>if (kind==.free)=true then (do let a ←cellOf env name;pure (ForInStep.yield ((name,a) :: cs))) else pure (ForInStep.yield cs)):Sem (List (Str×Addr)))=pure cl∧
   (∀x c,cl.lookup x=some c→env.cells.lookup x=some c)∧(∀y∈names,y.2=.free→∃c,cl.lookup y.1=some c)∧(∀x c,acc.lookup x=some c→∃c',cl.lookup x=some c'):=by
  intro names
  induction names with
  | nil=>intro acc _ ha;exact ⟨acc,rfl,ha,fun y hy=>(by cases hy),fun x c e=>⟨c,e⟩⟩
  | cons x r ih=>
   intro acc hn ha
   obtain ⟨name,kind⟩:=x
   rw [List.forIn_cons]
   by_cases hk:kind=.free
   ·subst hk
    obtain ⟨c,hc⟩:=hn (name,.free) List.mem_cons_self rfl
    have e:cellOf env name=pure c:=by unfold cellOf;rw [hc]
    obtain ⟨cl,e1,e2,e3,e4⟩:=ih ((name,c) :: acc) (fun y hy=>hn y (List.mem_cons_of_mem _ hy)) (fun x c' hx=>by
     rw [List.lookup_cons] at hx
     split at hx
     ·rename_i hb
      have:x=name:=by simpa using hb
      subst this
      cases hx;exact hc
     ·exact ha x c' hx)
    refine ⟨cl,?_,e2,fun y hy hf=>?_,fun x c' hx=>?_⟩
    ·simp only [beq_self_eq_true,if_true]
     rw [e,pure_bind,pure_bind]
     exact e1
    ·rcases List.mem_cons.mp hy with rfl | hy
     ·exact e4 name c (by simp)
     ·exact e3 y hy hf
    ·by_cases hb:(x==name)=true
     ·have:x=name:=by simpa using hb
      subst this
      exact e4 x c (by simp)
     ·exact e4 x c' (by rw [List.lookup_cons];simp only [Bool.not_eq_true] at hb;rw [hb];exact hx)
   ·have hb:(kind==NameKind.free)=false:=by simpa using hk
    obtain ⟨cl,e1,e2,e3,e4⟩:=ih acc (fun y hy=>hn y (List.mem_cons_of_mem _ hy)) ha
    refine ⟨cl,?_,e2,fun y hy hf=>?_,e4⟩
    ·simp only [hb,Bool.false_eq_true,if_false]
     rw [pure_bind]
     exact e1
    ·rcases List.mem_cons.mp hy with rfl | hy
     ·exact absurd hf hk
     ·exact e3 y hy hf
 obtain ⟨cl,e1,e2,e3,_⟩:=go scope.names [] h (fun x c e=>by simp at e)
 refine ⟨cl,?_,e2,e3⟩
 unfold closureFor
 show (forIn scope.names _ _ >>= fun cs=>pure cs)=_
 rw [bind_pure]
 exact e1
section
variable {prog:Program}{w:World}{A:Around}{R:Result→Shared→Prop}{s:Shared}
theorem wV {elt target iter:Expr}{ifs:List Expr}{scope:Scope}{pos:Pos}{it acc:Value}{env:Env} (I:Nat→Shared→Prop)
 (turn:∀n s,I n s→wpAny (model prog w) A (pyNext it) (fun r s₁=>match r with
  | none=>R (.ok .next) s₁
  | some v=>wpAny (model prog w) A (letOwnedTupleGo target it v) (fun _ s₁'=>wpAny (model prog w) A (assign target env v) (fun _ s₂=>
   wpAny (model prog w) A (forIn ifs true fun c r=>if r=true then do let ok ←isTrue c env (eval c env);pure (ForInStep.yield ok) else pure (ForInStep.yield r)) (fun ok s₃=>
    if ok=true then wpAny (model prog w) A (eval elt env) (fun x s₄=>
     wpAny (model prog w) A (call (.builtin "list.append") [acc,x]) (fun _ s₅=>∃m,m<n∧I m s₅) (fun _ _=>False) s₄) (fun _ _=>False) s₃
    else ∃m,m<n∧I m s₃) (fun _ _=>False) s₂) (fun _ _=>False) s₁') (fun _ _=>False) s₁) (fun _ _=>False) s)
 (n:Nat) (h:I n s) :
 codeAny (model prog w) A (.compLoop (.ListComp elt [⟨target,iter,ifs,0⟩] scope pos) 0 it acc env) R s:=by
 refine codeAny_loop rfl I (fun n s hI=>?_) n h
 show wpAny _ A ((compTurn (.ListComp elt [⟨target,iter,ifs,0⟩] scope pos) 0 it acc env).onRaise (fun x=>do noteFrame x env;theTreesLotGoes x)) _ _ s
 refine wpAny_noted ?_
 rw [compTurn_list]
 refine wpAny_bind (wpAny_standAt (wpAny_bind (wpAny_mono (turn n s hI) (fun r s₁ h₁=>?_) fun _ _ h'=>h'.elim)))
 cases r with
 | none=>exact wpAny_pure h₁
 | some v=>
  refine wpAny_bind (wpAny_mono h₁ (fun _ s₁' h₁'=>?_) fun _ _ h'=>h'.elim)
  refine wpAny_bind (wpAny_mono h₁' (fun _ s₂ h₂=>wpAny_bind (wpAny_mono h₂ (fun ok s₃ h₃=>?_) fun _ _ h'=>h'.elim)) fun _ _ h'=>h'.elim)
  cases ok with
  | false=>exact wpAny_pure ⟨rfl,h₃⟩
  | true=>
   exact wpAny_bind (wpAny_bind (wpAny_mono h₃ (fun x s₄ h₄=>wpAny_bind (wpAny_mono h₄ (fun _ s₅ h₅=>wpAny_pure (wpAny_pure ⟨rfl,h₅⟩)) fun _ _ h'=>h'.elim)) fun _ _ h'=>h'.elim))
end
end L2
namespace L2
open PySem PySem.Spec PyProof.Rows
section
variable {X:Cx}
theorem xZ:cn X (.builtin "isinstance") (fun xs H Q=>kQ fun x T t b=>xs=[x,.ty T]∧iS X.K H x t∧PySem.W.kitOne X.K t (.type T)=some b∧Q (.bl b) H):=by
 intro pins s σ H xs us Q I r h
 obtain ⟨x,T,t,b,rfl,ty,e,q⟩:=h
 obtain ⟨u,c,rfl,ru,rc⟩:=r.two
 obtain rfl:c=Value.type T:=rc
 exact AE I ru ty e fun tk=>⟨.bl b,H,I.tok tk,rfl,q⟩
end
def fh (X:Cx) (scope:Scope) (cl:List (Str×Addr)) (C:Addr) (N':List Str) (s:Shared) (H:Hp) (ex:List Addr) (pn:List (Addr×Obj)):Cx:=
 { X with N:=N',s₀:=s,H₀:=H,env:=compEnvC scope cl C X.env,outer:=X.stack,ex:=ex,fn:=fun _=>false,pn:=pn,xe:=fun _ _=>False }
def gJ (L:Nat) (src:List Nat) (σ:St):St:=List.replicate L none++src.map fun j=>(σ[j]?).join
def jV (σ σ':St):Prop:=σ'.length=σ.length∧∀(i:Nat) v,σ[i]?=some (some v)→σ'[i]?=some (some v)
theorem gK {x:V}{r:St}:jV (none :: r) (some x :: r):=⟨rfl,fun i v e=>by
 cases i with
 | zero=>simp at e
 | succ i=>simpa using e⟩
theorem zK {x y:V}{r:St}:jV (none :: none :: r) (some x :: some y :: r):=⟨rfl,fun i v e=>by
 cases i with
 | zero=>simp at e
 | succ i=>
  cases i with
  | zero=>simp at e
  | succ i=>simpa using e⟩
def pq (X:Cx) (ifs:List Expr) (t:TT):Prop:=
 ∀(pins:List (Addr×Obj)) (s:Shared) (σ:St) (H:Hp) (Q:Bool→Hp→Prop),ac X pins σ H s→t σ H Q→
   wpAny (model X.prog X.w) X.A (forIn ifs true fun c r=>if r=true then do let ok ←isTrue c X.env (eval c X.env);pure (ForInStep.yield ok) else pure (ForInStep.yield r)) (TP X pins σ Q) X.xe s
def tT:TT:=fun _ H Q=>Q true H
theorem cu {X:Cx}:pq X [] tT:=fun _ _ _ H _ I h=>wpAny_pure ⟨H,I,h⟩
theorem Cj {X:Cx}{c:Expr}{t:TT} (hc:PT X c t):pq X [c] t:=by
 intro pins s σ H Q I h
 rw [List.forIn_cons]
 refine wpAny_bind ?_
 rw [if_pos rfl]
 exact wpAny_bind (aK (hc pins s σ H Q I h) fun b s1 q=>wpAny_pure (wpAny_pure q))
def uU (esc:Scope) (N:List Str) (scope:Scope) (N':List Str) (L:Nat) (src:List Nat):Bool:=
 (scope.kind==.function) && scope.names.all (fun y=>y.2 != .cell && (y.2 != .local || scope.names.lookup y.1==some .local) && (y.2 != .free || esc.names.lookup y.1==some .cell || esc.names.lookup y.1==some .free)) &&
  (N'.length==L+src.length) && (List.range src.length).all fun i=>match src[i]?,N'[L+i]? with
   | some j,some x=>(N[j]?==some x) && (scope.names.lookup x==some .free)
   | _,_=>false
structure AM (esc:Scope) (N:List Str) (scope:Scope) (N':List Str) (L:Nat) (src:List Nat):Prop where
 kind:scope.kind=.function
 nocell:∀y∈scope.names,y.2≠.cell
 loc:∀y∈scope.names,y.2=.local→scope.names.lookup y.1=some .local
 free:∀y∈scope.names,y.2=.free→esc.names.lookup y.1=some .cell∨esc.names.lookup y.1=some .free
 len:N'.length=L+src.length
 frees:∀(i j:Nat),src[i]?=some j→∃x,N'[L+i]?=some x∧N[j]?=some x∧scope.names.lookup x=some .free
theorem A3 {esc:Scope}{N:List Str}{scope:Scope}{N':List Str}{L:Nat}{src:List Nat} (h:uU esc N scope N' L src=true):AM esc N scope N' L src:=by
 unfold uU at h
 simp only [Bool.and_eq_true,List.all_eq_true] at h
 obtain ⟨⟨⟨h1,h2⟩,h3⟩,h4⟩:=h
 refine ⟨by simpa using h1,fun y hy=>?_,fun y hy e=>?_,fun y hy e=>?_,by simpa using h3,fun i j e=>?_⟩
 ·have:=(h2 y hy).1.1
  simpa using this
 ·have:=(h2 y hy).1.2
  rw [e] at this
  simpa using this
 ·have:=(h2 y hy).2
  rw [e] at this
  simpa using this
 ·have hi:i<src.length:=(List.getElem?_eq_some_iff.mp e).1
  have:=h4 i (List.mem_range.mpr hi)
  rw [e] at this
  cases q:N'[L+i]? with
  | none=>rw [q] at this;simp at this
  | some x=>
   rw [q] at this
   simp only [Bool.and_eq_true,beq_iff_eq] at this
   exact ⟨x,rfl,this.1,this.2⟩
def ua (J:It) (σc:St) (g:TG) (tt:TT) (te:TE) (D:Addr) (H1:Hp) (Q:VK):Prop:=
 ∃W:Nat→Nat→Hp→List V→Prop,(∃m,W 0 m (aD H1 D (.lst [])) [])∧∀i m H ys,W i m H ys→H D=some (.lst ys)∧
  ((J.stop i H∧Q (.ref D) H)∨(J.go i H∧ys.length<sizeLine∧∃N:Hp→List V→Prop,(∀H' ys',N H' ys'→∃m',m'<m∧W (i+1) m' H' ys')∧
    ∀x H',J.yld i H x H'→g x σc H' fun σ2 H2=>jV σc σ2∧tt σ2 H2 fun b H3=>if b=true then te σ2 H3 fun y H4=>H4 D=some (.lst ys)∧N (aD H4 D (.lst (ys++[y]))) (ys++[y]) else N H3 ys))
def zH (wi:TI) (L:Nat) (src:List Nat) (g:TG) (tt:TT) (te:TE):TE:=fun σ H Q=>wi σ H fun J H1=>∀D,H1 D=none→ua J (gJ L src σ) g tt te D H1 Q
section
variable {X:Cx}{elt tg iter:Expr}{ifs:List Expr}{scope:Scope}{pos:Pos}{N':List Str}{L:Nat}{src:List Nat}{wi:TI}{g:TG}{tt:TT}{te:TE}
end
theorem vt {J:It}{n:Nat}{H1:Hp}{D:Addr}{σc:St}{g:TG}{tt:TT}{te:TE}{Q:VK} (Pv:Nat→Hp→List V→Prop) (hz:n≤sizeLine) (h0:Pv 0 (aD H1 D (.lst [])) [])
 (hD:∀i H ys,Pv i H ys→H D=some (.lst ys)∧ys.length≤i)
 (hgo:∀i H ys,i<n→Pv i H ys→J.go i H) (hst:∀H ys,Pv n H ys→J.stop n H)
 (hs:∀i H ys x H',i<n→Pv i H ys→J.yld i H x H'→g x σc H' fun σ2 H2=>jV σc σ2∧tt σ2 H2 fun b H3=>if b=true then te σ2 H3 fun y H4=>H4 D=some (.lst ys)∧Pv (i+1) (aD H4 D (.lst (ys++[y]))) (ys++[y]) else Pv (i+1) H3 ys)
 (hd:∀H ys,Pv n H ys→Q (.ref D) H):ua J σc g tt te D H1 Q:=by
 refine ⟨fun i m H ys=>m=n - i∧i≤n∧Pv i H ys,⟨n,by simp,Nat.zero_le _,h0⟩,?_⟩
 rintro i m H ys ⟨rfl,hi,p⟩
 obtain ⟨q1,q2⟩:=hD i H ys p
 refine ⟨q1,?_⟩
 by_cases hlt:i<n
 ·exact .inr ⟨hgo i H ys hlt p,by trivial,Pv (i+1),fun H' ys' p'=>⟨n - (i+1),by trivial,rfl,hlt,p'⟩,fun x H' y=>hs i H ys x H' hlt p y⟩
 ·have e:i=n:=by trivial
  subst e
  exact .inl ⟨hst H ys p,hd H ys p⟩
theorem gQ {J:It}{n:Nat}{H1:Hp}{D:Addr}{σc:St}{g:TG}{te:TE}{Q:VK} (Pv:Nat→Hp→List V→Prop) (hz:n≤sizeLine) (h0:Pv 0 (aD H1 D (.lst [])) [])
 (hD:∀i H ys,Pv i H ys→H D=some (.lst ys)∧ys.length≤i)
 (hgo:∀i H ys,i<n→Pv i H ys→J.go i H) (hst:∀H ys,Pv n H ys→J.stop n H)
 (hs:∀i H ys x H',i<n→Pv i H ys→J.yld i H x H'→g x σc H' fun σ2 H2=>jV σc σ2∧te σ2 H2 fun y H4=>H4 D=some (.lst ys)∧Pv (i+1) (aD H4 D (.lst (ys++[y]))) (ys++[y]))
 (hd:∀H ys,Pv n H ys→Q (.ref D) H):ua J σc g tT te D H1 Q:=by
 refine vt Pv hz h0 hD hgo hst (fun i H ys x H' hi p y=>?_) hd
 have e:=hs i H ys x H' hi p y
 have q:(fun (σ2:St) (H2:Hp)=>jV σc σ2∧tT σ2 H2 fun b H3=>if b=true then te σ2 H3 fun y H4=>H4 D=some (.lst ys)∧Pv (i+1) (aD H4 D (.lst (ys++[y]))) (ys++[y]) else Pv (i+1) H3 ys) =
  (fun σ2 H2=>jV σc σ2∧te σ2 H2 fun y H4=>H4 D=some (.lst ys)∧Pv (i+1) (aD H4 D (.lst (ys++[y]))) (ys++[y])):=by
  funext σ2 H2
  unfold tT
  dsimp only
  rw [if_pos rfl]
 rw [q]
 exact e
end L2
namespace L2
open PySem PySem.Spec PyProof.Rows
section
variable {X:Cx}{pins:List (Addr×Obj)}{σ:St}{H:Hp}{s:Shared}{h':Heap}
theorem ac.turnedNew {t':Nat}{ch:List Addr}{T:Addr}{o:HO} (I:ac X pins σ H s) (hf:∀b∈ch,ji X pins H b) (k:∀b u,b∉ch→s.heap.get? b=some u→h'.get? b=some u)
 (hT:s.heap.objs.size≤T) (new:aV X.prog X.w (aD H T o) h' T o):ac X pins σ (aD H T o) { s with heap:=h',toks:=t' }:=by
 have hn:H T=none:=I.hok.fresh hT
 refine I.step (g':=s.gens) (d':=s.drawn) (ch:=ch) (fun b hb=>?_) (fun b o _ _ hc e _=>k b o hc e) (fun b o _ _ hc e _=>⟨o.slots,k b o hc e⟩) (fun b o hc e n=>?_)
  (fun b o hc e=>⟨o,k b o hc e⟩) (fun b xs e=>?_) (fun b o u e=>?_) (fun b ps e=>?_) (fun m hm=>?_) (fun b u e=>?_) I.bare
 ·obtain ⟨f0,f1,f2,f3,f4,f5⟩:=hf b hb
  exact ⟨f3,f1,f4,f5⟩
 ·rw [aj (Nat.ne_of_lt (Nat.lt_of_lt_of_le (Heap.lt_size e) hT))];exact n
 ·rw [aj (aR e hn)];exact e
 ·rw [aj (aR e hn)];exact e
 ·exact ⟨#[],by rw [aj (aR e hn),e];simp⟩
 ·obtain ⟨o,es,ep,ho,r⟩:=hm
  exact ⟨o,es,ep,k _ o (fun z=>(hf _ z).2.1 rfl) ho,r⟩
 ·by_cases hb:b=T
  ·subst hb;rw [ar] at e;cases e;exact new
  ·rw [aj hb] at e
   refine (I.hok b u e).stay (fun c v hc q=>k c v (fun z=>?_) q) (fun c q=>by rw [aj (aR q hn)];exact q) fun c xs q=>by rw [aj (aR q hn)];exact q
   have hcn:=(hf c z).1
   rcases hc with rfl | hc
   ·rw [e] at hcn;cases hcn
   ·rw [hc] at hcn;cases hcn
end
section
variable {X:Cx}
theorem vK {bs:List Bool}{us:List Value} (r:aC (bs.map V.bl) us) {i:Nat}{v:Value} (e:us[i]?=some v):∃b,bs[i]?=some b∧v=.bool b:=by
 have hl:=r.length
 rw [List.length_map] at hl
 have hi:i<us.length:=(List.getElem?_eq_some_iff.mp e).1
 have hb:bs[i]?=some bs[i]:=by simp [hl,hi]
 obtain ⟨u,h1,h2⟩:=r.get (i:=i) (x:=.bl bs[i]) (by rw [List.getElem?_map,hb];rfl)
 rw [e] at h1
 cases h1
 exact ⟨_,hb,h2⟩
theorem yy {s:Shared}{h':Heap}{o:Obj} (hk:∀b x,b∉[s.heap.objs.size]→(s.heap.push o).get? b=some x→h'.get? b=some x):∀b x,s.heap.get? b=some x→h'.get? b=some x:=
 fun b x e=>hk b x (fun hm=>by rw [List.mem_singleton.mp hm] at e;exact Nat.lt_irrefl _ (Heap.lt_size e)) (Heap.get?_push_of_some _ e)
theorem Cq (hc:X.calm=true):cn X (.builtin "all") (fun xs H Q=>aW fun (l:Addr) (bs:List Bool)=>xs=[.ref l]∧am X.K H l (bs.map V.bl)∧Q (.bl (bs.all id)) H):=by
 intro pins s σ H xs us Q I r h
 obtain ⟨l,bs,rfl,hq,q⟩:=h
 obtain ⟨u,rfl,ru⟩:=r.one
 obtain rfl:u=.ref l:=ru
 obtain ⟨its,rv,p,hz⟩:=I.list hq
 have hl:=p.isList
 have hlt:l<s.heap.objs.size:=by obtain ⟨_,e,_⟩:=hl;exact Heap.lt_size e
 refine call_all_walk (wpAny_pyIter_list hl ?_)
 refine ⟨s.heap.objs.size,[s.heap.objs.size,l],[s.heap.objs.size],its.toArray.size,_,_,fun i=>(bs[i]?).getD true,rfl,Walks.list (A:=X.A.in1) (I.ok.hd hc) _ l (Nat.ne_of_lt hlt) its.toArray,
  ⟨⟨_,Heap.get?_push_size _ rfl,rfl,rfl⟩,hl.push _⟩,fun i v s' Q' E' hP hQ=>?_,fun h' tk hk=>?_⟩
 ·obtain ⟨b,e,rfl⟩:=vK rv (i:=i) (v:=v) (by simpa using hP)
  simp only [e,Option.getD_some] at hQ
  exact wpAny_truthy_bool hQ
 ·have e:((List.range its.toArray.size).all fun i=>(bs[i]?).getD true)=bs.all id:=by
   rw [List.size_toArray,←rv.length,List.length_map];exact LSm.range_all bs
  rw [e]
  exact ⟨.bl _,H,I.kept (yy hk),rfl,q⟩
theorem Ce (hc:X.calm=true):cn X (.builtin "any") (fun xs H Q=>aW fun (l:Addr) (bs:List Bool)=>xs=[.ref l]∧am X.K H l (bs.map V.bl)∧Q (.bl (bs.any id)) H):=by
 intro pins s σ H xs us Q I r h
 obtain ⟨l,bs,rfl,hq,q⟩:=h
 obtain ⟨u,rfl,ru⟩:=r.one
 obtain rfl:u=.ref l:=ru
 obtain ⟨its,rv,p,hz⟩:=I.list hq
 have hl:=p.isList
 have hlt:l<s.heap.objs.size:=by obtain ⟨_,e,_⟩:=hl;exact Heap.lt_size e
 refine call_any_walk (wpAny_pyIter_list hl ?_)
 refine ⟨s.heap.objs.size,[s.heap.objs.size,l],[s.heap.objs.size],its.toArray.size,_,_,fun i=>(bs[i]?).getD false,rfl,Walks.list (A:=X.A.in1) (I.ok.hd hc) _ l (Nat.ne_of_lt hlt) its.toArray,
  ⟨⟨_,Heap.get?_push_size _ rfl,rfl,rfl⟩,hl.push _⟩,fun i v s' Q' E' hP hQ=>?_,fun h' tk hk=>?_⟩
 ·obtain ⟨b,e,rfl⟩:=vK rv (i:=i) (v:=v) (by simpa using hP)
  simp only [e,Option.getD_some] at hQ
  exact wpAny_truthy_bool hQ
 ·have e:((List.range its.toArray.size).any fun i=>(bs[i]?).getD false)=bs.any id:=by
   rw [List.size_toArray,←rv.length,List.length_map];exact LSm.range_any bs
  rw [e]
  exact ⟨.bl _,H,I.kept (yy hk),rfl,q⟩
end
def Iv (K:PySem.W.Frag) (a:Addr):It:=
 ⟨fun i H=>aW fun xs x=>am K H a xs∧xs[i]?=some x,fun i H v H'=>aW fun T x=>H T=none∧v=.ref T∧H'=aD H T (.tup [.int (i:Int),x])∧∀xs,am K H a xs→xs[i]?=some x,fun i H=>∃xs,am K H a xs∧xs.length≤i⟩
theorem zV {P:Program}{w:World}{K:PySem.W.Frag}{es:List Expr}{kk:Nat}{pos:Pos} (a e it:Addr) (hne:e≠it) :
 tE P w K (.Tuple es kk pos) (Iv K a) [e,it] e (fun i h=>(∃old,IsEnum h e it i old)∧h.IsListIter it a i) where
 mem:=by simp
 obj:=fun i h st b hb=>by
  obtain ⟨⟨old,he⟩,o,e1,c,d⟩:=st
  have hb':b=e∨b=it:=by simpa using hb
  rcases hb' with rfl | rfl
  ·exact ⟨_,he,fun v z=>by
    have z':Data.fields _=Data.cell v:=z
    cases z'⟩
  ·exact ⟨o,e1,fun v z=>by rw [d] at z;cases z⟩
 keep:=fun i h h' st k=>by
  obtain ⟨⟨old,he⟩,hi⟩:=st
  exact ⟨⟨old,k e (by simp) _ he⟩,hi.at fun o q=>k it (by simp) o q⟩
 item:=by
  intro X hP hw hK hc i pins s σ H E I hf st hg
  subst hP hw hK
  obtain ⟨⟨old,he⟩,hit⟩:=st
  obtain ⟨xs,x,hq,hx⟩:=hg
  obtain ⟨its,rv,p,hz⟩:=I.list hq
  obtain ⟨u,hu,ru⟩:=rv.get hx
  have hnT:H s.heap.objs.size=none:=I.fresh
  refine wpAny_pyNext_enum_item he hit p.isList (x:=u) (by simpa using hu) hne fun h' ho hit' hT hsz hk=>?_
  refine ⟨_,rfl,wpAny_letOwnedTupleGo_enum (s:={ s with heap:=h',toks:=s.toks+1 }) ho fun h'' he'' hs''=>?_⟩
  have helt:e<s.heap.objs.size:=Heap.lt_size he
  have hilt:it<s.heap.objs.size:=by obtain ⟨_,y,_⟩:=hit;exact Heap.lt_size y
  have hT'':h''.get? s.heap.objs.size=some { cls:=.type "tuple",data:=.seq #[.int i s.toks,u] }:=(hs''.2 _ (Nat.ne_of_gt helt)).trans hT
  refine ⟨.ref s.heap.objs.size,aD H s.heap.objs.size (.tup [.int (i:Int),x]),I.turnedNew (ch:=[e,it]) (t':=s.toks+1) hf (fun b o hb q=>?_) (Nat.le_refl _) ?_,rfl,⟨_,x,hnT,rfl,rfl,fun ys hy=>by rw [I.list_inj hy hq];exact hx⟩,⟨⟨u,?_⟩,hit'.extBut hs''.extBut (Ne.symm hne)⟩,fun b hb=>?_⟩
  ·have h1:b≠e:=fun z=>hb (by simp [z])
   have h2:b≠it:=fun z=>hb (by simp [z])
   exact (hs''.2 b h1).trans (hk b o h1 h2 q)
  ·exact ⟨by show 2≤sizeLine;decide,[.int i s.toks,u],.cons ⟨_,rfl⟩ (.cons ru .nil),⟨_,hT'',rfl,_,rfl⟩,_,hT'',rfl⟩
  ·simpa using he''
  ·have hb':b=e∨b=it:=by simpa using hb
   have hlt:b<s.heap.objs.size:=by rcases hb' with rfl | rfl <;> assumption
   rw [aj (Nat.ne_of_lt hlt)]
   exact (hf b hb).1
 done:=by
  intro X hP hw hK hc i pins s σ H E I hf st hg
  subst hP hw hK
  obtain ⟨⟨old,he⟩,hit⟩:=st
  obtain ⟨xs,hq,hx⟩:=hg
  obtain ⟨its,rv,p,hz⟩:=I.list hq
  obtain ⟨f0,f1,f2,f3,f4,f5⟩:=hf it (by simp)
  have hl:=rv.length
  exact wpAny_pyNext_enum_end (I.ok.hd hc) he hit p.isList (by simp;trivial) fun h' eb=>⟨rfl,I.turned (t':=s.toks) (fun b o hb e=>eb b o hb e) f0 f1 f3 f4 f5⟩
 self:=fun _ _ _ _ _ st h=>by
  obtain ⟨⟨old,he⟩,_⟩:=st
  exact wpAny_pyIter_enum he h
def HD (K:PySem.W.Frag) (ta:TA):TI:=fun σ H R=>ta σ H fun vs H1=>∃a,vs=[.ref a]∧(∃xs,am K H1 a xs)∧R (Iv K a) H1
theorem Ej {X:Cx}{es:List Expr}{kk:Nat}{tp:Pos}{a:Expr}{ta:TA}{p pos:Pos} (hg:Gl X "enumerate") (hm:X.mg "enumerate" = none) (ha:PA X [a] ta) (hs:starEach [a] X.env=[(false,eval a X.env)]:=by rfl) :
 PI X (.Tuple es kk tp) (.Call (.Name "enumerate" p) [a] [] pos) (HD X.K ta):=by
 intro pins s σ H R I h
 refine Call_ (gZ I hg hm boot_enumerate (PyProof.Rows.callWith_type1 (aK (ha pos pins s σ H _ I h) fun us s1 ⟨vs,H1,I1,r1,q1⟩=>?_) hs rfl))
 obtain ⟨a,rfl,⟨xs,hq⟩,q⟩:=q1
 obtain ⟨u,rfl,ru⟩:=r1.one
 obtain rfl:u=.ref a:=ru
 obtain ⟨its,rv,p,hz⟩:=I1.list hq
 refine call_enumerate_list p.isList fun h' hE hI hsz hk=>wpAny_pyIter_enum hE ?_
 have I2:ac X pins σ H1 { s1 with heap:=h',toks:=s1.toks }:=I1.kept hk
 refine ⟨s1.heap.objs.size+1,[s1.heap.objs.size+1,s1.heap.objs.size],_,_,H1,rfl,I2,zV a (s1.heap.objs.size+1) s1.heap.objs.size (Nat.succ_ne_self _),⟨⟨_,hE⟩,hI⟩,fun b hb=>?_,q⟩
 have hb':b=s1.heap.objs.size+1∨b=s1.heap.objs.size:=by simpa using hb
 have hle:s1.heap.objs.size≤b:=by rcases hb' with rfl | rfl <;> trivial
 exact I1.fpOk hle (I1.hok.fresh hle)
end L2
namespace L2
open PySem PySem.Spec PyProof.Rows
theorem aX:bootBuiltins "len" = some (.builtin "len"):=by decide +kernel
theorem jk:bootBuiltins "abs" = some (.builtin "abs"):=by decide +kernel
theorem yZ:bootBuiltins "max" = some (.builtin "max"):=by decide +kernel
theorem o6:bootBuiltins "all" = some (.builtin "all"):=by decide +kernel
theorem ur:bootBuiltins "any" = some (.builtin "any"):=by decide +kernel
theorem wq:bootBuiltins "divmod" = some (.builtin "divmod"):=by decide +kernel
theorem ax:bootBuiltins "isinstance" = some (.builtin "isinstance"):=by decide +kernel
theorem nn:bootBuiltins "int" = some (.type "int"):=by decide +kernel
theorem ii:bootBuiltins "bool" = some (.type "bool"):=by decide +kernel
theorem iK:bootBuiltins "str" = some (.type "str"):=by decide +kernel
theorem cH:bootBuiltins "list" = some (.type "list"):=by decide +kernel
theorem eQ:bootBuiltins "tuple" = some (.type "tuple"):=by decide +kernel
theorem dR {X:Cx}{x:Str}{T:String}{pos:Pos} (hg:Gl X x) (hm:X.mg x=none) (hv:bootBuiltins x=some (.type T)) (hn:x≠"__name__" := by decide) (hd:(x==("__debug__" : Str))=false:=by decide):PE X (.Name x pos) (tC (.ty T)):=
 Ea (v:=.ty T) hg hm hv rfl hn hd
mutual
inductive aU (E:Addr→Prop) (H:Hp):V→PyData→Prop
 | non:aU E H .non .none
 | bl (b:Bool):aU E H (.bl b) (.bool b)
 | int (i:Int):aU E H (.int i) (.int i)
 | str (x:Str):aU E H (.str x) (.str x)
 | lst {a:Addr}{xs:List V}{ds:List PyData} (h:H a=some (.lst xs)) (ne:¬E a) (r:aI E H xs ds):aU E H (.ref a) (.list ds)
 | tup {a:Addr}{xs:List V}{ds:List PyData} (h:H a=some (.tup xs)) (r:aI E H xs ds):aU E H (.ref a) (.tuple ds)
inductive aI (E:Addr→Prop) (H:Hp):List V→List PyData→Prop
 | nil:aI E H [] []
 | cons {x:V}{xs:List V}{d:PyData}{ds:List PyData} (h:aU E H x d) (r:aI E H xs ds):aI E H (x :: xs) (d :: ds)
end
structure aO (E:Addr→Prop) (H H':Hp):Prop where
 old:∀a o,¬E a→H a=some o→H' a=some o
 tup:∀a xs,H a=some (.tup xs)→H' a=some (.tup xs)
mutual
theorem aU.mono {E:Addr→Prop}{H H':Hp} (k:aO E H H'):∀{v:V}{d:PyData},aU E H v d→aU E H' v d
 | _,_,.non=>.non
 | _,_,.bl b=>.bl b
 | _,_,.int i=>.int i
 | _,_,.str x=>.str x
 | _,_,.lst h ne r=>.lst (k.old _ _ ne h) ne (aI.mono k r)
 | _,_,.tup h r=>.tup (k.tup _ _ h) (aI.mono k r)
theorem aI.mono {E:Addr→Prop}{H H':Hp} (k:aO E H H'):∀{vs:List V}{ds:List PyData},aI E H vs ds→aI E H' vs ds
 | _,_,.nil=>.nil
 | _,_,.cons h r=>.cons (aU.mono k h) (aI.mono k r)
end
theorem aO.refl {E:Addr→Prop} (H:Hp):aO E H H:=⟨fun _ _ _ h=>h,fun _ _ h=>h⟩
theorem aO.trans {E:Addr→Prop}{H H1 H2:Hp} (a:aO E H H1) (b:aO E H1 H2):aO E H H2:=⟨fun c o n h=>b.old c o n (a.old c o n h),fun c xs h=>b.tup c xs (a.tup c xs h)⟩
theorem ah.toE {E:Addr→Prop}{H H':Hp} (a:ah H H'):aO E H H':=⟨fun c o _ h=>a c o h,fun c xs h=>a c _ h⟩
theorem ah.new {H:Hp}{p:Addr}{o:HO} (h:H p=none):ah H (aD H p o):=fun b u e=>by rw [aj (aR e h)];exact e
theorem aI.length {E:Addr→Prop}{H:Hp}:∀{vs:List V}{ds:List PyData},aI E H vs ds→vs.length=ds.length
 | _,_,.nil=>rfl
 | _,_,.cons _ r=>by simp [aI.length r]
theorem aI.get {E:Addr→Prop}{H:Hp}:∀{vs:List V}{ds:List PyData}{i:Nat}{v:V},aI E H vs ds→vs[i]?=some v→∃d,ds[i]?=some d∧aU E H v d
 | _,_,_,_,.nil,e=>by simp at e
 | _,_,0,_,.cons h _,e=>by simp at e;subst e;exact ⟨_,rfl,h⟩
 | _,_,i+1,v,.cons _ r,e=>by
  obtain ⟨d,h1,h2⟩:=aI.get (i:=i) (v:=v) r (by simpa using e)
  exact ⟨d,by simpa using h1,h2⟩
theorem aI.append {E:Addr→Prop}{H:Hp}:∀{vs ws:List V}{ds es:List PyData},aI E H vs ds→aI E H ws es→aI E H (vs++ws) (ds++es)
 | _,_,_,_,.nil,s=>s
 | _,_,_,_,.cons h r,s=>.cons h (aI.append r s)
mutual
theorem aU.reads {E:Addr→Prop}{P:Program}{w:World}{H:Hp}{h:Heap} (ok:dL P w H h):∀{v:V}{d:PyData},aU E H v d→∀{u:Value},aQ v u→∃as,Reads h u d as
 | _,_,.non,u,r=>by obtain rfl:u=.none:=r;exact ⟨_,.none⟩
 | _,_,.bl b,u,r=>by obtain rfl:u=.bool b:=r;exact ⟨_,.bool b⟩
 | _,_,.int i,u,r=>by obtain ⟨t,rfl⟩:=r;exact ⟨_,.int i t⟩
 | _,_,.str x,u,r=>by obtain ⟨t,rfl⟩:=r;exact ⟨_,.str x t⟩
 | _,_,.lst (a:=a) (xs:=xs) e _ q,u,r=>by
  obtain rfl:u=.ref a:=r
  obtain ⟨_,its,n,rv,e1⟩:=(show aV P w H h a (.lst xs) from ok a _ e)
  obtain ⟨as,ra⟩:=aI.reads ok q rv
  exact ⟨_,.list e1 rfl rfl (by simpa using ra)⟩
 | _,_,.tup (a:=a) (xs:=xs) e q,u,r=>by
  obtain rfl:u=.ref a:=r
  obtain ⟨_,its,rv,⟨o,e1,c,n,dd⟩,_⟩:=(show aV P w H h a (.tup xs) from ok a _ e)
  obtain ⟨as,ra⟩:=aI.reads ok q rv
  exact ⟨_,.tuple e1 c dd (by simpa using ra)⟩
theorem aI.reads {E:Addr→Prop}{P:Program}{w:World}{H:Hp}{h:Heap} (ok:dL P w H h):∀{vs:List V}{ds:List PyData},aI E H vs ds→∀{us:List Value},aC vs us→∃as,ReadsAll h us ds as
 | _,_,.nil,us,r=>by cases r;exact ⟨_,.nil⟩
 | _,_,.cons q qs,us,r=>by
  cases r with
  | cons r1 rr=>
   obtain ⟨as,h1⟩:=aU.reads ok q r1
   obtain ⟨bs,h2⟩:=aI.reads ok qs rr
   exact ⟨_,.cons h1 h2⟩
end
section
variable {X:Cx}
theorem vU {k:Nat} (hr:cN k X.A):cn X (.type "str") (fun xs H Q=>eH fun (a:Addr) (d:PyData) (E:Addr→Prop)=>xs=[.ref a]∧aU E H (.ref a) d∧d.showable=true∧d.hasDict=false∧d.depth≤50∧d.shown.length≤sizeLine∧Q (.str d.shown) H):=by
 intro pins s σ H xs us Q I r h
 obtain ⟨a,d,E,rfl,hd,h1,h2,h3,h4,q⟩:=h
 obtain ⟨u,rfl,ru⟩:=r.one
 obtain rfl:u=.ref a:=ru
 obtain ⟨as,rr⟩:=hd.reads I.hok (u:=.ref a) rfl
 refine str_of_reads rr h1 (PyData.noDict_hsm h2) hr.gd (by have:=hr.units;trivial) (fun _ _ e=>e) (fun h' u tk hk=>?_) h4
 exact ⟨.str _,H,I.kept hk,⟨_,rfl⟩,q⟩
def zh (_ j:Int):Prop:=0<j∧j.natAbs.log2<9000
theorem wU:cB X (binaryOp .FloorDiv) (rI zh fun i j=>.int (i / j)):=vy fun i j _ _ _ _ _ hc q=>by
 rw [←Int.fdiv_eq_ediv_of_nonneg _ (Int.le_of_lt hc.1)] at q
 exact floordiv_int (Int.ne_of_gt hc.1) q (.inl (PyProof.noPylong_of_log2 hc.2))
end
end L2
namespace L2
open PySem PySem.Spec PyProof.Rows
def xW:PyData→String
 | .none => "NoneType"
 | .bool _ => "bool"
 | .int _ => "int"
 | .str _ => "str"
 | .list _ => "list"
 | .tuple _ => "tuple"
 | .dict _ => "dict"
theorem aU.ty {K:PySem.W.Frag}{E:Addr→Prop}{H:Hp}{v:V}{d:PyData} (h:aU E H v d):iS K H v (.type (xW d)):=by
 cases h with
 | non=>exact .non
 | bl b=>exact .bl b
 | int i=>exact .int i
 | str x=>exact .str x
 | lst h ne r=>exact .lst h
 | tup h r=>exact .tup h
def E2:PyData→Bool
 | .int _=>true
 | .bool _=>true
 | _=>false
def Di:PyData→Bool
 | .bool _=>true
 | _=>false
def Fd:PyData→Bool
 | .tuple _=>true
 | _=>false
def FJ:PyData→Bool
 | .list _=>true
 | _=>false
def FD:PyData→Bool
 | .str _=>true
 | _=>false
theorem DZ {K:PySem.W.Frag} (d:PyData):PySem.W.kitOne K (.type (xW d)) (.type "int")=some (E2 d):=by cases d <;> rfl
theorem jN {K:PySem.W.Frag} (d:PyData):PySem.W.kitOne K (.type (xW d)) (.type "bool")=some (Di d):=by cases d <;> rfl
theorem kE {K:PySem.W.Frag} (d:PyData):PySem.W.kitOne K (.type (xW d)) (.type "tuple")=some (Fd d):=by cases d <;> rfl
theorem gY {K:PySem.W.Frag} (d:PyData):PySem.W.kitOne K (.type (xW d)) (.type "list")=some (FJ d):=by cases d <;> rfl
theorem jT {K:PySem.W.Frag} (d:PyData):PySem.W.kitOne K (.type (xW d)) (.type "str")=some (FD d):=by cases d <;> rfl
inductive Ic (K:PySem.W.Frag) (xs:List V) (H:Hp) (Q:VK):Prop
 | mk (x:_) (T:_) (t:_) (b:_) (h0:xs=[x,.ty T]) (h1:iS K H x t) (h2:PySem.W.kitOne K t (.type T)=some b) (h3:Q (.bl b) H)
def IP (K:PySem.W.Frag):List V→Hp→VK→Prop:=fun xs H Q=>Ic K xs H Q
end L2
namespace L2
open PySem PySem.Spec PyProof.Rows
section
variable {X:Cx}
theorem xo:cn X (.builtin "divmod") (fun xs H Q=>aW fun i j=>xs=[.int i,.int j]∧zh i j∧∀p,H p=none→Q (.ref p) (aD H p (.tup [.int (i / j),.int (i % j)]))):=by
 intro pins s σ H xs us Q I r h
 obtain ⟨i,j,rfl,⟨h1,h2⟩,q⟩:=h
 obtain ⟨u,w',rfl,⟨t,rfl⟩,⟨t',rfl⟩⟩:=ut r
 refine divmod_int (by trivial) ?_ (.inl (PyProof.noPylong_of_log2 h2))
 rw [Int.fdiv_eq_ediv_of_nonneg i (by trivial),Int.fmod_eq_emod_of_nonneg i (by trivial)]
 have hn:H s.heap.objs.size=none:=I.hok.fresh (Nat.le_refl _)
 refine ⟨.ref s.heap.objs.size,_,?_,rfl,q _ hn⟩
 refine I.laid (fun b o e=>Heap.get?_push_of_some _ e) (Nat.le_refl _) ⟨by simp only [List.length_cons,List.length_nil];rw [sizeLine_eq];decide,[.int (i / j) s.toks,.int (i % j) (s.toks+1)],.cons ⟨_,rfl⟩ (.cons ⟨_,rfl⟩ .nil),?_⟩
 exact ⟨⟨_,Heap.get?_push_size s.heap rfl,rfl,0,rfl⟩,_,Heap.get?_push_size s.heap rfl,rfl⟩
end
theorem JD (c:Bool):-(2 ^ 64)<(if c=true then (1:Int) else 0)∧(if c=true then (1:Int) else 0)<2 ^ 64:=by cases c <;> decide
theorem xg (x:Int):0≤(if x<0 then -x else x):=by split <;> trivial
theorem Hg {x:Int} (c:Bool) (h:0≤x):0≤x*(if c=true then (1:Int) else 0):=by cases c <;> simp [h]
theorem yw {ms:List Int}{k:Int} (h0:0≤k) (h:k.toNat<ms.length):gO (ms.map V.int) k=some (V.int ms[k.toNat]):=by
 have q:=cY (xs:=ms.map V.int) (j:=k.toNat) (v:=V.int ms[k.toNat]) (by rw [List.getElem?_map];simp [h])
 rwa [Int.toNat_of_nonneg h0] at q
inductive Bx (H:Hp) (b:Addr) (t:Int):Prop
 | mk (c x:Int) (h0:H b=some (.lst [.int c,.int x,.int t])) (h1:0≤c) (h2:0≤x) (h3:x<2147483647)
abbrev Eb (b:Addr):Addr→Prop:=fun a=>a=b
theorem Bx.same {H H':Hp}{b:Addr}{t:Int} (h:Bx H b t) (k:ah H H'):Bx H' b t:=by
 obtain ⟨c,x,e,r,r2,r3⟩:=h
 exact ⟨c,x,k _ _ e,r,r2,r3⟩
theorem vg {H H1:Hp}{b:Addr}{xs:List V}{o:HO} (k:ah H H1) (hb:H1 b=some (.lst xs)):aO (Eb b) H (aD H1 b o):=
 ⟨fun a u n h=>by rw [aj n];exact k a u h,fun a ys h=>by
  have e:=k a _ h
  rw [aj (Cz e hb (by intro z;cases z))];exact e⟩
inductive EJ (K:PySem.W.Frag) (vs:List V) (H:Hp) (Q:VK):Prop
 | mk (a:Addr) (ms:List Int) (k:Int) (h0:vs=[.ref a,.int k]) (h1:am K H a (ms.map V.int)) (h2:0≤k) (h3:k≤63) (h4:∀p H',H p=none→ah H H'→Bx H' p 0→Q (.ref p) H')
def He (K:PySem.W.Frag):Sp:=fun vs H Q _=>EJ K vs H Q
inductive Dy (vs:List V) (H:Hp) (Q:VK):Prop
 | mk (b:Addr) (many t:Int) (h0:vs=[.ref b,.int many]) (h1:Bx H b t) (h2:0<many) (h3:many.natAbs.log2<9000) (h4:0≤t) (h5:t≤1000000) (h6:∀r t' H',0≤r→r<many→t≤t'→t'≤t+1→aO (Eb b) H H'→Bx H' b t'→Q (.int r) H')
def EV:Sp:=fun vs H Q _=>Dy  vs H Q
end L2
namespace L2
open PySem PySem.Spec PyProof.Rows
def xk:List Str→Bool
 | []=>true
 | x :: r=>!r.contains x && xk r
theorem cE:∀l:List Str,xk l=true→l.Nodup
 | [],_=>List.nodup_nil
 | x :: r,h=>by
  unfold xk at h
  simp only [Bool.and_eq_true,Bool.not_eq_true',List.contains_eq_mem,decide_eq_false_iff_not] at h
  exact List.nodup_cons.mpr ⟨h.1,cE r h.2⟩
inductive Hy (K:PySem.W.Frag) (xs:List V) (H:Hp) (Q:VK):Prop
 | mk (p:_) (ys:_) (h0:xs=[.ref p]) (h1:(am K H p ys∨ag K H p ys)) (h2:Q (.int ys.length) H)
def Ja (K:PySem.W.Frag):List V→Hp→VK→Prop:=fun xs H Q=>Hy K xs H Q
section
variable {X:Cx}{K:PySem.W.Frag}
theorem bV (e:X.K=K:=by rfl):cn X (.builtin "isinstance") (IP K):=by subst e;exact fun pins s σ H xs us Q I r ⟨x,T,t,b,h1,h2,h3,q⟩=>xZ pins s σ H xs us Q I r ⟨x,T,t,b,h1,h2,h3,q⟩
theorem dP (e:X.K=K:=by rfl):cn X (.builtin "len") (Ja K):=by subst e;exact fun pins s σ H xs us Q I r ⟨p,ys,h1,h2,q⟩=>qE pins s σ H xs us Q I r ⟨p,ys,h1,h2,q⟩
theorem GG (e:X.K=K:=by rfl):p7 X (Bz K):=by subst e;exact ym
theorem GL (e:X.K=K:=by rfl):p7 X (Cb K):=by subst e;exact AY
theorem ES (e:X.K=K:=by rfl):cB X (compareOp .In) (CA K false):=by subst e;exact Ao
theorem yF (e:X.K=K:=by rfl):cB X (compareOp .NotIn) (CA K true):=by subst e;exact xA
inductive GM (K:PySem.W.Frag) (xs:List V) (H:Hp) (Q:VK):Prop
 | mk (l:Addr) (bs:List Bool) (h0:xs=[.ref l]) (h1:am K H l (bs.map V.bl)) (h2:Q (.bl (bs.all id)) H)
def IS (K:PySem.W.Frag):List V→Hp→VK→Prop:=fun xs H Q=>GM K xs H Q
inductive Hw (K:PySem.W.Frag) (xs:List V) (H:Hp) (Q:VK):Prop
 | mk (l:Addr) (bs:List Bool) (h0:xs=[.ref l]) (h1:am K H l (bs.map V.bl)) (h2:Q (.bl (bs.any id)) H)
def Je (K:PySem.W.Frag):List V→Hp→VK→Prop:=fun xs H Q=>Hw K xs H Q
theorem zF (hc:X.calm=true) (e:X.K=K:=by rfl):cn X (.builtin "all") (IS K):=by subst e;exact fun pins s σ H xs us Q I r ⟨l,bs,h1,h2,q⟩=>Cq hc pins s σ H xs us Q I r ⟨l,bs,h1,h2,q⟩
theorem C1 (hc:X.calm=true) (e:X.K=K:=by rfl):cn X (.builtin "any") (Je K):=by subst e;exact fun pins s σ H xs us Q I r ⟨l,bs,h1,h2,q⟩=>Ce hc pins s σ H xs us Q I r ⟨l,bs,h1,h2,q⟩
theorem fk {pos:Pos}{es:List Expr}{k:Nat}{t:sI}{n:Nat} (hc:X.calm=true) (h:Am X es t) (e:X.K=K:=by rfl)
 (hn:(assignEach es X.env).length=n:=by rfl) (hst:(assignEach es X.env).findIdx? (·.1)=none:=by rfl):PG X (.Tuple es k pos) (Fm K n t):=by
 subst e;exact wX hc h hn hst
theorem cx {tg l:Expr}{tl:TE} (hl:PE X l tl) (e:X.K=K:=by rfl):PI X tg l (CW K tl):=by subst e;exact Ek hl
theorem tD {tg l:Expr}{tl:TE} (hl:PE X l tl) (e:X.K=K:=by rfl):PI X tg l (EL K tl):=by subst e;exact Fr hl
end
end L2
namespace L2
open PySem PySem.Spec PyProof.Rows
def rP:Expr→Bool
 | .Starred ..=>false
 | _=>true
theorem rn {e:Expr}{es:List Expr}{env:Env} (h:rP e=true):starEach (e :: es) env=(false,eval e env) :: starEach es env:=by
 cases e <;> first | rfl | (simp [rP] at h)
section
variable {X:Cx}{e:Expr}{es:List Expr}{te:TE}{t:TA}
theorem BX (ha:PE X e te) (hr:PA X es t) (hs:rP e=true:=by rfl):PA X (e :: es) (CU te t):=cS ha hr (rn hs)
theorem pw (i:Nat) {x:Str}{pos:Pos} (hv:Ay X.env.scope x) (hN:X.N[i]?=some x:=by rfl) (hd:(x==("__debug__" : Str))=false:=by decide) (hcd:(x==("__classdict__" : Str))=false:=by decide):PE X (.Name x pos) (Bw i):=A4 hN hv hd hcd
end
end L2
namespace KM
theorem gcd_fmod (n d:Int):Int.gcd d (n.fmod d)=Int.gcd n d:=by
 apply Nat.dvd_antisymm
 ·apply Int.dvd_gcd
  ·have h1:((Int.gcd d (n.fmod d):Nat):Int) ∣ d:=Int.gcd_dvd_left ..
   have h2:((Int.gcd d (n.fmod d):Nat):Int) ∣ n.fmod d:=Int.gcd_dvd_right ..
   have h3:=Int.dvd_add h2 (Int.dvd_mul_of_dvd_left (c:=n.fdiv d) h1)
   rw [Int.fmod_add_mul_fdiv] at h3
   exact h3
  ·exact Int.gcd_dvd_left ..
 ·apply Int.dvd_gcd
  ·exact Int.gcd_dvd_right ..
  ·rw [Int.fmod_def]
   exact Int.dvd_sub (Int.gcd_dvd_left ..) (Int.dvd_mul_of_dvd_left (Int.gcd_dvd_right ..))
theorem fmod_natAbs_lt (n d:Int) (h:d≠0):(n.fmod d).natAbs<d.natAbs:=by
 rcases Int.lt_trichotomy d 0 with hd | hd | hd
 ·have e:n.fmod d=-((-n).fmod (-d)):=by
   rw [Int.fmod_def,Int.fmod_def]
   have:(-n).fdiv (-d)=n.fdiv d:=Int.neg_fdiv_neg n d
   rw [this,Int.neg_mul];trivial
  have h1:=Int.fmod_nonneg_of_pos (-n) (b:=-d) (by trivial)
  have h2:=Int.fmod_lt_of_pos (-n) (b:=-d) (by trivial)
  trivial
 ·exact absurd hd h
 ·have h1:=Int.fmod_nonneg_of_pos n hd
  have h2:=Int.fmod_lt_of_pos n hd
  trivial
theorem gcd_zero_abs (n:Int):((Int.gcd n 0:Nat):Int)=if n<0 then -n else n:=by
 rw [Int.gcd_zero_right]
 split <;> trivial
theorem gcd_emod (n d:Int):Int.gcd d (n % d)=Int.gcd n d:=by
 by_cases h:d=0
 ·subst h;rw [Int.emod_zero,Int.gcd_comm]
 ·apply Nat.dvd_antisymm
  ·apply Int.dvd_gcd
   ·have h1:((Int.gcd d (n % d):Nat):Int) ∣ d:=Int.gcd_dvd_left ..
    have h2:((Int.gcd d (n % d):Nat):Int) ∣ n % d:=Int.gcd_dvd_right ..
    have h3:=Int.dvd_add h2 (Int.dvd_mul_of_dvd_left (c:=n / d) h1)
    rw [Int.emod_add_mul_ediv] at h3
    exact h3
   ·exact Int.gcd_dvd_left ..
  ·apply Int.dvd_gcd
   ·exact Int.gcd_dvd_right ..
   ·rw [Int.emod_def]
    exact Int.dvd_sub (Int.gcd_dvd_left ..) (Int.dvd_mul_of_dvd_left (Int.gcd_dvd_right ..))
end KM
namespace KM
def low (n d:Int):Int×Int:=if 0<d then (n / (Int.gcd n d:Nat),d / (Int.gcd n d:Nat)) else (-n / (Int.gcd n d:Nat),-d / (Int.gcd n d:Nat))
theorem gcd_pos {n d:Int} (h:d≠0):0<Int.gcd n d:=by
 apply Nat.pos_of_ne_zero
 intro e
 exact h (Int.gcd_eq_zero_iff.mp e).2
theorem gcd_abs (n d:Int):Int.gcd (if n<0 then -n else n) (if d<0 then -d else d)=Int.gcd n d:=by
 split <;> split <;> simp [Int.gcd_neg,Int.neg_gcd]
theorem low_spec (n d:Int) (h:d≠0):1≤(low n d).2∧(low n d).1*d=n*(low n d).2∧Int.gcd (low n d).1 (low n d).2=1∧(low n d).1.natAbs≤n.natAbs∧(low n d).2.natAbs≤d.natAbs:=by
 have g0:=gcd_pos (n:=n) h
 have gi:((Int.gcd n d:Nat):Int)≠0:=by trivial
 have d1:((Int.gcd n d:Nat):Int) ∣ n:=Int.gcd_dvd_left ..
 have d2:((Int.gcd n d:Nat):Int) ∣ d:=Int.gcd_dvd_right ..
 obtain ⟨a,ha⟩:=d1
 obtain ⟨b,hb⟩:=d2
 have ea:n / ((Int.gcd n d:Nat):Int)=a:=by
  conv=>lhs;lhs;rw [ha]
  exact Int.mul_ediv_cancel_left _ gi
 have eb:d / ((Int.gcd n d:Nat):Int)=b:=by
  conv=>lhs;lhs;rw [hb]
  exact Int.mul_ediv_cancel_left _ gi
 have ena:-n / ((Int.gcd n d:Nat):Int)=-a:=by
  have:-n=((Int.gcd n d:Nat):Int)*(-a):=by rw [Int.mul_neg];trivial
  rw [this]
  exact Int.mul_ediv_cancel_left _ gi
 have enb:-d / ((Int.gcd n d:Nat):Int)=-b:=by
  have:-d=((Int.gcd n d:Nat):Int)*(-b):=by rw [Int.mul_neg];trivial
  rw [this]
  exact Int.mul_ediv_cancel_left _ gi
 have hco:Int.gcd a b=1:=by
  have:=Int.gcd_ediv_gcd_ediv_gcd (i:=n) (j:=d) g0
  rw [ea,eb] at this
  exact this
 have hgp:(0:Int)<((Int.gcd n d:Nat):Int):=by trivial
 have habs:n.natAbs=Int.gcd n d*a.natAbs:=by
  conv=>lhs;rw [ha]
  rw [Int.natAbs_mul];rfl
 have hbbs:d.natAbs=Int.gcd n d*b.natAbs:=by
  conv=>lhs;rw [hb]
  rw [Int.natAbs_mul];rfl
 have la:a.natAbs≤n.natAbs:=by rw [habs];exact Nat.le_mul_of_pos_left _ g0
 have lb:b.natAbs≤d.natAbs:=by rw [hbbs];exact Nat.le_mul_of_pos_left _ g0
 have hab:a*d=n*b:=by
  generalize ((Int.gcd n d:Nat):Int)=g at ha hb
  subst ha hb
  rw [Int.mul_comm g a,Int.mul_assoc]
 unfold low
 split
 ·rename_i hd
  refine ⟨?_,?_,?_,?_,?_⟩
  ·show 1≤d / _
   rw [eb]
   have:0<b:=by
    apply Int.pos_of_mul_pos_right (a:=((Int.gcd n d:Nat):Int)) _ hgp
    rw [←hb];exact hd
   trivial
  ·show n / _*d=n*(d / _)
   rw [ea,eb];exact hab
  ·show Int.gcd (n / _) (d / _)=1
   rw [ea,eb];exact hco
  ·show (n / _).natAbs≤_
   rw [ea];exact la
  ·show (d / _).natAbs≤_
   rw [eb];exact lb
 ·rename_i hd
  refine ⟨?_,?_,?_,?_,?_⟩
  ·show 1≤-d / _
   rw [enb]
   have:0 < -b:=by
    apply Int.pos_of_mul_pos_right (a:=((Int.gcd n d:Nat):Int)) _ hgp
    rw [Int.mul_neg,←hb];trivial
   trivial
  ·show -n / _*d=n*(-d / _)
   rw [ena,enb,Int.neg_mul,Int.mul_neg,hab]
  ·show Int.gcd (-n / _) (-d / _)=1
   rw [ena,enb,Int.gcd_neg,Int.neg_gcd];exact hco
  ·show (-n / _).natAbs≤_
   rw [ena,Int.natAbs_neg];exact la
  ·show (-d / _).natAbs≤_
   rw [enb,Int.natAbs_neg];exact lb
end KM
namespace KM
theorem wQ {n d a b:Int} (hd:d≠0) (hb:1≤b) (hg:Int.gcd a b=1) (he:a*d=n*b):low n d=(a,b):=by
 obtain ⟨h1,h2,h3,_,_⟩:=low_spec n d hd
 generalize low n d=z at *
 obtain ⟨x,y⟩:=z
 dsimp only at h1 h2 h3
 have e1:x*b=a*y:=by
  apply Int.eq_of_mul_eq_mul_right hd
  calc x*b*d=(x*d)*b:=by rw [Int.mul_assoc,Int.mul_comm b d,←Int.mul_assoc]
   _=n*y*b:=by rw [h2]
   _=(n*b)*y:=by rw [Int.mul_assoc,Int.mul_comm y b,←Int.mul_assoc]
   _=a*d*y:=by rw [he]
   _=a*y*d:=by rw [Int.mul_assoc,Int.mul_comm d y,←Int.mul_assoc]
 have d1:y ∣ b:=by
  apply Int.natAbs_dvd_natAbs.mp
  apply Nat.Coprime.dvd_of_dvd_mul_left (k:=y.natAbs) (m:=x.natAbs)
  ·show Nat.gcd y.natAbs x.natAbs=1
   rw [Nat.gcd_comm];exact h3
  ·rw [←Int.natAbs_mul]
   exact Int.natAbs_dvd_natAbs.mpr ⟨a,by rw [e1,Int.mul_comm]⟩
 have d2:b ∣ y:=by
  apply Int.natAbs_dvd_natAbs.mp
  apply Nat.Coprime.dvd_of_dvd_mul_left (k:=b.natAbs) (m:=a.natAbs)
  ·show Nat.gcd b.natAbs a.natAbs=1
   rw [Nat.gcd_comm];exact hg
  ·rw [←Int.natAbs_mul]
   exact Int.natAbs_dvd_natAbs.mpr ⟨x,by rw [←e1,Int.mul_comm]⟩
 have e2:y=b:=Int.dvd_antisymm (by trivial) (by trivial) d1 d2
 subst e2
 have e3:x=a:=Int.eq_of_mul_eq_mul_right (by trivial) e1
 rw [e3]
theorem BZ {a b:Int} (hb:1≤b) (hg:Int.gcd a b=1):low a b=(a,b):=wQ (by trivial) hb hg rfl
section
variable {p0 p1 q0 q1:Int}
end
theorem fdiv_low {n d:Int} (hd:d≠0):(n.fdiv (if d<0 then -((Int.gcd n d:Nat):Int) else ((Int.gcd n d:Nat):Int)),d.fdiv (if d<0 then -((Int.gcd n d:Nat):Int) else ((Int.gcd n d:Nat):Int)))=low n d:=by
 have g0:(0:Int)≤((Int.gcd n d:Nat):Int):=Int.natCast_nonneg _
 unfold low
 by_cases h:d<0
 ·rw [if_pos h,if_neg (by trivial)]
  have e:∀x:Int,x.fdiv (-((Int.gcd n d:Nat):Int))=-x / ((Int.gcd n d:Nat):Int):=fun x=>by
   rw [←Int.fdiv_eq_ediv_of_nonneg _ g0,←Int.neg_fdiv_neg,Int.neg_neg]
  rw [e,e]
 ·rw [if_neg h,if_pos (by trivial),Int.fdiv_eq_ediv_of_nonneg _ g0,Int.fdiv_eq_ediv_of_nonneg _ g0]
end KM
namespace KM
abbrev Fra:=Int×Int
theorem yb {p q:Fra} (hp:1≤p.2) (hq:1≤q.2) (gp:Int.gcd p.1 p.2=1) (gq:Int.gcd q.1 q.2=1) (h:q.1*p.2=p.1*q.2):p=q:=by
 have e1:=BZ hp gp
 have e2:=wQ (n:=p.1) (d:=p.2) (a:=q.1) (b:=q.2) (by trivial) hq gq h
 rw [e1] at e2
 exact e2
theorem low_sgn {n d:Int} (hd:0<d):(0<(low n d).1↔0<n)∧((low n d).1<0↔n<0):=by
 obtain ⟨h1,h2,_,_,_⟩:=low_spec n d (by trivial)
 generalize low n d=z at *
 obtain ⟨x,y⟩:=z
 dsimp only at *
 have hy:0<y:=by trivial
 constructor
 ·constructor
  ·intro h
   have:0<x*d:=Int.mul_pos h hd
   rw [h2] at this
   exact Int.pos_of_mul_pos_left this hy
  ·intro h
   have:0<n*y:=Int.mul_pos h hy
   rw [←h2] at this
   exact Int.pos_of_mul_pos_left this hd
 ·constructor
  ·intro h
   have:x*d<0:=Int.mul_neg_of_neg_of_pos h hd
   rw [h2] at this
   apply Decidable.byContradiction
   intro hn
   have:=Int.mul_nonneg (show 0≤n by trivial) (show 0≤y by trivial)
   trivial
  ·intro h
   have:n*y<0:=Int.mul_neg_of_neg_of_pos h hy
   rw [←h2] at this
   apply Decidable.byContradiction
   intro hn
   have:=Int.mul_nonneg (show 0≤x by trivial) (show 0≤d by trivial)
   trivial
end KM
namespace KM
def vl (p:Fra):Rat:=Rat.divInt p.1 p.2
def Rd (p:Fra):Prop:=1≤p.2∧Int.gcd p.1 p.2=1
theorem Rd.low {n d:Int} (h:d≠0):Rd (KM.low n d):=⟨(low_spec n d h).1,(low_spec n d h).2.2.1⟩
theorem Fh {n d:Int} (h:d≠0):vl (low n d)=Rat.divInt n d:=by
 obtain ⟨h1,h2,_⟩:=low_spec n d h
 exact (Rat.divInt_eq_divInt_iff (by trivial) h).mpr (by rw [h2])
theorem Rd.eq {p q:Fra} (hp:Rd p) (hq:Rd q) (h:vl p=vl q):p=q:=by
 have:=(Rat.divInt_eq_divInt_iff (d₁:=p.2) (d₂:=q.2) (by have:=hp.1;trivial) (by have:=hq.1;trivial)).mp h
 exact yb hp.1 hq.1 hp.2 hq.2 this.symm
theorem EW {a b:Int} (h:a≠0) (k:b≠0):a*b≠0:=Int.mul_ne_zero h k
def lTim (p q:Fra):Fra:=low (p.1*q.1) (p.2*q.2)
theorem vl_tim {p q:Fra} (hp:p.2≠0) (hq:q.2≠0):vl (lTim p q)=vl p*vl q:=by
 unfold lTim
 rw [Fh (EW hp hq)]
 exact (Rat.divInt_mul_divInt _ _).symm
theorem vl_zero:vl (0,1)=0:=Rat.zero_divInt 1
end KM
namespace L2
open PySem PySem.Spec PyProof.Rows
section
variable {prog:Program}{w:World}{A:Around}{E:Value→Shared→Prop}{s:Shared}
theorem zL {it t:Addr}{i:Nat}{its:Array Value}{x:Value}{Q:Value→Shared→Prop} (hit:s.heap.IsTupleIter it t i) (ht:s.heap.IsTuple t its) (hx:its[i]?=some x)
 (q:∀h',h'.IsTupleIter it t (i+1)→Heap.SameBut it s.heap h'→Q x { s with heap:=h' }):wpAny (model prog w) A (Builtin.SmallTypes.nextOf (.ref it)) Q E s:=by
 obtain ⟨o,e1,e2,e3⟩:=id hit;obtain ⟨u,e4,_,k,e5⟩:=ht;unfold Builtin.SmallTypes.nextOf
 refine wpAny_bind (wpAny_callSpecial?_slot (name:=Str.ofString "__next__") hit.typeIs F.slot_tuple_iterator_next (wpAny_call_entry F.slot_tuple_iterator_next hit.typeIs F.entry_tuple_iterator_next ?_ (F.args_tuple_iterator_next_1 _)))
 show wpAny _ _ (field (.ref it) 0 >>= _) _ _ s;refine wpAny_bind (wpAny_field e1 e3 (x:=.ref t) rfl ?_)
 show wpAny _ _ (if (Value.ref t==Value.none)=true then _ else _) _ _ s;rw [if_neg (show ¬((Value.ref t==Value.none)=true) from Bool.false_ne_true)]
 show wpAny _ _ (field (.ref it) 1 >>= _) _ _ s;refine wpAny_bind (wpAny_field e1 e3 (x:=.int i 0) rfl ?_)
 show wpAny _ _ (seqItems? (.ref t) >>= _) _ _ s;refine wpAny_bind (wpAny_seqItems e4 e5 ?_)
 simp only [Int.toNat_natCast,hx];refine wpAny_bind (wpAny_setField e1 e3 (by simp) (wpAny_pure ⟨x,rfl,wpAny_pure (q _ ?_ (Heap.SameBut.update ..))⟩))
 exact ⟨_,Heap.get?_update_self _ e1 (Obj.isFreed_of_fields (Obj.data_mapFields e3 _)),(Obj.cls_mapFields ..).trans e2,by rw [Obj.data_mapFields e3];simp [rawInt]⟩
theorem wf {it t:Addr}{i:Nat}{its:Array Value}{Q:Value→Shared→Prop} (hh:A.handled=none) (hit:s.heap.IsTupleIter it t i) (ht:s.heap.IsTuple t its) (hx:its[i]?=none)
 (q:∀h' e,Heap.ExtBut it s.heap h'→(∃o,h'.get? e=some o∧o.cls=.type "StopIteration")→E (.ref e) { s with heap:=h' }):wpAny (model prog w) A (Builtin.SmallTypes.nextOf (.ref it)) Q E s:=by
 obtain ⟨o,e1,e2,e3⟩:=id hit;obtain ⟨u,e4,_,k,e5⟩:=ht;unfold Builtin.SmallTypes.nextOf
 refine wpAny_bind (wpAny_callSpecial?_slot (name:=Str.ofString "__next__") hit.typeIs F.slot_tuple_iterator_next (wpAny_call_entry F.slot_tuple_iterator_next hit.typeIs F.entry_tuple_iterator_next ?_ (F.args_tuple_iterator_next_1 _)))
 show wpAny _ _ (field (.ref it) 0 >>= _) _ _ s;refine wpAny_bind (wpAny_field e1 e3 (x:=.ref t) rfl ?_)
 show wpAny _ _ (if (Value.ref t==Value.none)=true then _ else _) _ _ s;rw [if_neg (show ¬((Value.ref t==Value.none)=true) from Bool.false_ne_true)]
 show wpAny _ _ (field (.ref it) 1 >>= _) _ _ s;refine wpAny_bind (wpAny_field e1 e3 (x:=.int i 0) rfl ?_)
 show wpAny _ _ (seqItems? (.ref t) >>= _) _ _ s;refine wpAny_bind (wpAny_seqItems e4 e5 ?_)
 simp only [Int.toNat_natCast,hx];refine wpAny_bind (wpAny_rule (wpAny_bind (wpAny_setField e1 e3 (by simp) ?_)))
 show wpAny _ _ (newExc (.type "StopIteration") [] >>= _) _ _ _;refine wpAny_bind ?_;simp only [newExc,newTuple]
 refine wpAny_bind (wpAny_newObj_type ?_ (by size_fits));refine wpAny_bind (m:=firstArgMember _ _) (wpAny_of_eq (a:=Value.none) (by first | rfl | (simp only [firstArgMember];rfl)) ?_);refine wpAny_newObj_type ?_ (by size_fits)
 simp only [raiseNew];refine wpAny_bind (wpAny_handled ?_);first | rw [show A.in1.handled=none from hh] | rw [hh]
 refine wpAny_bind (wpAny_pure (wpAny_throw ?_));exact q _ _ (((Heap.SameBut.update ..).extBut.push _).push _) ⟨_,Heap.get?_push_size _ rfl,rfl⟩
end
def bU (h:Heap) (l:Addr) (its:Array Value):Bool→Prop
 | true=>h.IsList l its
 | false=>h.IsTuple l its
def bM (h:Heap) (it l:Addr) (i:Nat):Bool→Prop
 | true=>h.IsListIter it l i
 | false=>h.IsTupleIter it l i
theorem bU.at {h h':Heap}{l:Addr}{its:Array Value}:∀{b:Bool},bU h l its b→(∀o,h.get? l=some o→h'.get? l=some o)→bU h' l its b
 | true,q,k=>Heap.IsList.at q k
 | false,q,k=>Heap.IsTuple.at q k
theorem bM.at {h h':Heap}{it l:Addr}{i:Nat}:∀{b:Bool},bM h it l i b→(∀o,h.get? it=some o→h'.get? it=some o)→bM h' it l i b
 | true,q,k=>Heap.IsListIter.at q k
 | false,q,k=>Heap.IsTupleIter.at q k
theorem bU.lt {h:Heap}{l:Addr}{its:Array Value}:∀{b:Bool},bU h l its b→l<h.objs.size
 | true,⟨_,e,_⟩=>Heap.lt_size e
 | false,⟨_,e,_⟩=>Heap.lt_size e
theorem bM.some {h:Heap}{it l:Addr}{i:Nat}:∀{b:Bool},bM h it l i b→∃o,h.get? it=some o∧∀v,o.data≠.cell v
 | true,⟨o,e,_,d⟩=>⟨o,e,fun v z=>by rw [d] at z;cases z⟩
 | false,⟨o,e,_,d⟩=>⟨o,e,fun v z=>by rw [d] at z;cases z⟩
theorem fP {prog:Program}{w:World}{A:Around} (hh:A.handled=none) (it l:Addr) (hne:l≠it) (its:Array Value):∀b:Bool,
 Draws prog w A it [it,l] its.size (fun i v=>its[i]?=some v) (fun i h=>bM h it l i b∧bU h l its b)
 | true=>Draws.list hh it l hne its
 | false=>{
  live:=fun _ _ st=>let ⟨o,ho,_⟩:=st.1;⟨o,ho⟩
  frame:=fun _ _ _ st hk=>⟨Heap.IsTupleIter.at st.1 fun o e=>hk it (by simp) o e,Heap.IsTuple.at st.2 fun o e=>hk l (by simp) o e⟩
  item:=fun i s Q E hi st q=>zL st.1 st.2 (x:=its[i]) (by simp [hi]) fun h' it' same=>q _ h' s.toks (by simp [hi]) ⟨it',Heap.IsTuple.extBut st.2 same.extBut hne⟩ same
  done:=fun s Q E st q=>wf hh st.1 st.2 (by simp) q }
end L2
namespace L2
open PySem PySem.Spec PyProof.Rows
structure rd (z TI TO i1 i2:Addr):Prop where
 a1:TI≠z
 a2:TO≠z
 a3:i1≠z
 a4:i2≠z
 a5:TI≠TO
 a6:TI≠i1
 a7:TI≠i2
 a8:TO≠i1
 a9:TO≠i2
 a0:i1≠i2
section
variable {prog:Program}{w:World}{A:Around}{E:Value→Shared→Prop}{s:Shared}
variable {z TI TO i1 i2 l1 l2:Addr}{k:Nat}{xs ys:Array Value}{a b:Value}{c1 c2:Bool}
theorem Ef {x y:Value}{Q:Value→Shared→Prop} (D:rd z TI TO i1 i2) (n1:∀c,c=l1∨c=l2→c≠z∧c≠TO∧c≠i1∧c≠i2)
 (hz:IsZip s.heap z TI TO .none) (hTI:IsPair s.heap TI (.ref i1) (.ref i2)) (hTO:IsPair s.heap TO a b) (hh:A.handled=none)
 (h1:bM s.heap i1 l1 k c1) (h2:bM s.heap i2 l2 k c2) (q1:bU s.heap l1 xs c1) (q2:bU s.heap l2 ys c2) (hx:xs[k]?=some x) (hy:ys[k]?=some y)
 (hQ:∀h' tk,IsZip h' z TI TO (rawInt s.heap.objs.size)→IsPair h' TO x y→bM h' i1 l1 (k+1) c1→bM h' i2 l2 (k+1) c2→IsPair h' s.heap.objs.size x y→h'.objs.size=s.heap.objs.size+1→
  (∀c o,c≠z→c≠TO→c≠i1→c≠i2→s.heap.get? c=some o→h'.get? c=some o)→Q (.ref s.heap.objs.size) { s with heap:=h',toks:=tk }) :
 wpAny (model prog w) A (Builtin.«zip.__next__» ⟨[.ref z],[]⟩) (fun aP s'=>∃v,aP=.done (.ret v)∧Q v s') E s:=by
 obtain ⟨m1,m2,m3,m4⟩:=n1 l1 (.inl rfl)
 obtain ⟨m5,m6,m7,m8⟩:=n1 l2 (.inr rfl)
 have kx:k<xs.size:=(Array.getElem?_eq_some_iff.mp hx).1
 have ky:k<ys.size:=(Array.getElem?_eq_some_iff.mp hy).1
 have D1:=fP (prog:=prog) (w:=w) hh i1 l1 m3 xs c1
 have D2:=fP (prog:=prog) (w:=w) hh i2 l2 m8 ys c2
 show wpAny _ _ (field (.ref z) 2 >>= _) _ _ _;refine wpAny_bind (wpAny_field hz rfl (x:=.bool false) rfl ?_)
 show wpAny _ _ (field (.ref z) 3 >>= _) _ _ _;refine wpAny_bind (wpAny_field hz rfl (x:=.ref TI) rfl (wpAny_bind (wpAny_seqItems hTI rfl ?_)))
 show wpAny _ _ (Builtin.SmallTypes.ownedTupleIsFree (.ref z) >>= _) _ _ _;refine wpAny_bind ?_;unfold Builtin.SmallTypes.ownedTupleIsFree
 refine wpAny_bind (wpAny_field hz rfl (x:=.none) rfl (wpAny_pure ?_));simp only [if_true]
 refine wpAny_bind (wpAny_rule (wpAny_bind (wpAny_field hz rfl (x:=.ref TO) rfl (wpAny_bind (wpAny_setField_rec hz (by simp) fun g1 z1 t1=>?_)))))
 replace z1:IsZip g1 z TI TO .ellipsis:=z1
 refine wpAny_bind ?_;simp only [List.zipIdx_cons,List.zipIdx_nil,List.forIn_cons,List.forIn_nil];refine wpAny_bind (wpAny_bind (wpAny_onRaise ?_))
 show wpAny _ _ (Builtin.SmallTypes.nextOf (.ref i1) >>= _) _ _ _
 refine wpAny_bind (D1.item k _ _ _ kx ⟨h1.at fun o e=>t1.extBut _ _ D.a3 e,q1.at fun o e=>t1.extBut _ _ m1 e⟩ fun x' g2 tk2 p1 st1 t2=>wpAny_pure ?_)
 have ex:x=x':=Option.some.inj (hx.symm.trans p1)
 subst ex
 have TO2:IsPair g2 TO a b:=t2.extBut _ _ D.a8 (t1.extBut _ _ D.a2 hTO)
 refine wpAny_bind (wpAny_seqItems TO2 rfl (wpAny_bind (wpAny_updateSeq_pair TO2 fun g3 TO3 t3=>?_)))
 replace TO3:IsPair g3 TO x b:=TO3
 refine wpAny_bind (wpAny_letGo (wpAny_pure ?_));refine wpAny_bind (wpAny_bind (wpAny_onRaise ?_));show wpAny _ _ (Builtin.SmallTypes.nextOf (.ref i2) >>= _) _ _ _
 refine wpAny_bind (D2.item k _ _ _ ky ⟨h2.at fun o e=>t3.extBut _ _ D.a9.symm (t2.extBut _ _ D.a0.symm (t1.extBut _ _ D.a4 e)),q2.at fun o e=>t3.extBut _ _ m6 (t2.extBut _ _ m7 (t1.extBut _ _ m5 e))⟩ fun y' g4 tk4 p2 st2 t4=>wpAny_pure ?_)
 have ey:y=y':=Option.some.inj (hy.symm.trans p2)
 subst ey
 have TO4:IsPair g4 TO x b:=t4.extBut _ _ D.a9 TO3
 refine wpAny_bind (wpAny_seqItems TO4 rfl (wpAny_bind (wpAny_updateSeq_pair TO4 fun g5 TO5 t5=>?_)))
 replace TO5:IsPair g5 TO x y:=TO5
 refine wpAny_bind (wpAny_letGo (wpAny_pure (wpAny_pure ?_)));refine wpAny_bind (wpAny_seqItems TO5 rfl (wpAny_bind (wpAny_newTuple ?_)))
 have sz:g5.objs.size=s.heap.objs.size:=by rw [t5.1,t4.1,t3.1,t2.1,t1.1]
 have z5:IsZip g5 z TI TO .ellipsis:=t5.extBut _ _ D.a2.symm (t4.extBut _ _ D.a4.symm (t3.extBut _ _ D.a2.symm (t2.extBut _ _ D.a3.symm z1)))
 have keep:∀c o,c≠z→c≠TO→c≠i1→c≠i2→s.heap.get? c=some o→g5.get? c=some o:=fun c o d1 d2 d3 d4 e=>t5.extBut _ _ d2 (t4.extBut _ _ d4 (t3.extBut _ _ d2 (t2.extBut _ _ d3 (t1.extBut _ _ d1 e))))
 have it1:bM g5 i1 l1 (k+1) c1:=st1.1.at fun o e=>t5.extBut _ _ D.a8.symm (t4.extBut _ _ D.a0 (t3.extBut _ _ D.a8.symm e))
 have it2:bM g5 i2 l2 (k+1) c2:=st2.1.at fun o e=>t5.extBut _ _ D.a9.symm e
 have zlt:z<g5.objs.size:=Heap.lt_size z5
 show wpAny _ _ (Builtin.SmallTypes.ownedTupleHandOut (.ref z) (.ref g5.objs.size) >>= _) _ _ _;refine wpAny_bind ?_;unfold Builtin.SmallTypes.ownedTupleHandOut
 have z6:IsZip (g5.push { cls:=.type "tuple",data:=.seq #[x,y] }) z TI TO .ellipsis:=Heap.get?_push_of_some _ z5
 refine wpAny_bind (wpAny_setField_rec z6 (by simp) fun g7 z7 t7=>?_)
 replace z7:IsZip g7 z TI TO (rawInt g5.objs.size):=z7
 refine wpAny_setField_rec z7 (by simp) fun g8 z8 t8=>?_
 replace z8:IsZip g8 z TI TO (rawInt g5.objs.size):=z8
 have up:∀c o,c≠z→g5.get? c=some o→g8.get? c=some o:=fun c o d e=>t8.extBut _ _ d (t7.extBut _ _ d (Heap.get?_push_of_some _ e))
 have T8:IsPair g8 g5.objs.size x y:=t8.extBut _ _ (Nat.ne_of_gt zlt) (t7.extBut _ _ (Nat.ne_of_gt zlt) (Heap.get?_push_size _ rfl))
 have s8:g8.objs.size=g5.objs.size+1:=by rw [t8.1,t7.1,Heap.size_push]
 rw [sz] at z8 T8 s8
 refine wpAny_pure ⟨_,rfl,?_⟩;show Q (.ref g5.objs.size) _;rw [sz]
 exact hQ g8 _ z8 (up _ _ D.a2 TO5) (it1.at fun o e=>up _ o D.a3 e) (it2.at fun o e=>up _ o D.a4 e) T8 s8 fun c o d1 d2 d3 d4 e=>up c o d1 (keep c o d1 d2 d3 d4 e)
theorem FZ {Q:Fin→Shared→Prop} (hh:A.handled=none) (D:rd z TI TO i1 i2) (n1:∀c,c=l1∨c=l2→c≠z∧c≠TO∧c≠i1∧c≠i2)
 (hz:IsZip s.heap z TI TO .none) (hTI:IsPair s.heap TI (.ref i1) (.ref i2)) (hTO:IsPair s.heap TO a b)
 (h1:bM s.heap i1 l1 k c1) (h2:bM s.heap i2 l2 k c2) (q1:bU s.heap l1 xs c1) (q2:bU s.heap l2 ys c2) (hend:xs.size=k∨(k<xs.size∧ys.size=k))
 (hE:∀h' e tk,(∀c o,c≠z→c≠TO→c≠i1→c≠i2→s.heap.get? c=some o→h'.get? c=some o)→(∃o,h'.get? e=some o∧o.cls=.type "StopIteration")→E (.ref e) { s with heap:=h',toks:=tk }) :
 wpAny (model prog w) A (Builtin.«zip.__next__» ⟨[.ref z],[]⟩) Q E s:=by
 obtain ⟨m1,m2,m3,m4⟩:=n1 l1 (.inl rfl)
 obtain ⟨m5,m6,m7,m8⟩:=n1 l2 (.inr rfl)
 have D1:=fP (prog:=prog) (w:=w) hh i1 l1 m3 xs c1
 have D2:=fP (prog:=prog) (w:=w) hh i2 l2 m8 ys c2
 show wpAny _ _ (field (.ref z) 2 >>= _) _ _ _;refine wpAny_bind (wpAny_field hz rfl (x:=.bool false) rfl ?_)
 show wpAny _ _ (field (.ref z) 3 >>= _) _ _ _;refine wpAny_bind (wpAny_field hz rfl (x:=.ref TI) rfl (wpAny_bind (wpAny_seqItems hTI rfl ?_)))
 show wpAny _ _ (Builtin.SmallTypes.ownedTupleIsFree (.ref z) >>= _) _ _ _;refine wpAny_bind ?_;unfold Builtin.SmallTypes.ownedTupleIsFree
 refine wpAny_bind (wpAny_field hz rfl (x:=.none) rfl (wpAny_pure ?_));simp only [if_true]
 refine wpAny_bind (wpAny_rule (wpAny_bind (wpAny_field hz rfl (x:=.ref TO) rfl (wpAny_bind (wpAny_setField_rec hz (by simp) fun g1 z1 t1=>?_)))))
 replace z1:IsZip g1 z TI TO .ellipsis:=z1
 refine wpAny_bind ?_;simp only [List.zipIdx_cons,List.zipIdx_nil,List.forIn_cons,List.forIn_nil];refine wpAny_bind (wpAny_bind (wpAny_onRaise ?_))
 show wpAny _ _ (Builtin.SmallTypes.nextOf (.ref i1) >>= _) _ _ _
 have st0:bM g1 i1 l1 k c1∧bU g1 l1 xs c1:=⟨h1.at fun o e=>t1.extBut _ _ D.a3 e,q1.at fun o e=>t1.extBut _ _ m1 e⟩
 rcases hend with hk | ⟨kx,hk⟩
 ·refine wpAny_bind (D1.done _ _ _ (by rw [hk];exact st0) fun g2 e t2 he=>?_)
  obtain ⟨oe,e1,e2⟩:=he
  have z2:IsZip g2 z TI TO .ellipsis:=t2 _ _ D.a3.symm z1
  have ez:e≠z:=fun q=>by subst q;rw [z2] at e1;cases e1;simp at e2
  exact wpAny_setField_rec z2 (by simp) fun g3 _ t3=>hE g3 e _ (fun c o d1 _ d3 _ q=>t3.extBut _ _ d1 (t2 _ _ d3 (t1.extBut _ _ d1 q))) ⟨oe,t3.extBut _ _ ez e1,e2⟩
 ·refine wpAny_bind (D1.item k _ _ _ kx st0 fun x g2 tk2 p1 st1 t2=>wpAny_pure ?_)
  have TO2:IsPair g2 TO a b:=t2.extBut _ _ D.a8 (t1.extBut _ _ D.a2 hTO)
  refine wpAny_bind (wpAny_seqItems TO2 rfl (wpAny_bind (wpAny_updateSeq_pair TO2 fun g3 TO3 t3=>?_)))
  refine wpAny_bind (wpAny_letGo (wpAny_pure ?_));refine wpAny_bind (wpAny_bind (wpAny_onRaise ?_));show wpAny _ _ (Builtin.SmallTypes.nextOf (.ref i2) >>= _) _ _ _
  have st2:bM g3 i2 l2 k c2∧bU g3 l2 ys c2:=⟨h2.at fun o e=>t3.extBut _ _ D.a9.symm (t2.extBut _ _ D.a0.symm (t1.extBut _ _ D.a4 e)),q2.at fun o e=>t3.extBut _ _ m6 (t2.extBut _ _ m7 (t1.extBut _ _ m5 e))⟩
  refine wpAny_bind (D2.done _ _ _ (by rw [hk];exact st2) fun g4 e t4 he=>?_)
  obtain ⟨oe,e1,e2⟩:=he
  have z4:IsZip g4 z TI TO .ellipsis:=t4 _ _ D.a4.symm (t3.extBut _ _ D.a2.symm (t2.extBut _ _ D.a3.symm z1))
  have ez:e≠z:=fun q=>by subst q;rw [z4] at e1;cases e1;simp at e2
  exact wpAny_setField_rec z4 (by simp) fun g5 _ t5=>hE g5 e _ (fun c o d1 d2 d3 d4 q=>t5.extBut _ _ d1 (t4 _ _ d4 (t3.extBut _ _ d2 (t2.extBut _ _ d3 (t1.extBut _ _ d1 q))))) ⟨oe,t5.extBut _ _ ez e1,e2⟩
end
end L2
namespace L2
open PySem PySem.Spec PyProof.Rows
def Gw:Bool→String
 | true => "list_iterator"
 | false => "tuple_iterator"
abbrev zA (h:Heap) (l1:Addr) (c1:Bool):Heap:=h.push { cls:=.type (Gw c1),data:=.fields #[.ref l1,.int 0 0] }
abbrev zB (h:Heap) (l1 l2:Addr) (c1 c2:Bool):Heap:=(zA h l1 c1).push { cls:=.type (Gw c2),data:=.fields #[.ref l2,.int 0 0] }
abbrev zC (h:Heap) (l1 l2:Addr) (c1 c2:Bool):Heap:=(zB h l1 l2 c1 c2).push { cls:=.type "tuple",data:=.seq #[.ref h.objs.size,.ref (zA h l1 c1).objs.size] }
abbrev zD (h:Heap) (l1 l2:Addr) (c1 c2:Bool):Heap:=(zC h l1 l2 c1 c2).push { cls:=.type "tuple",data:=.seq #[.none,.none] }
abbrev zE (h:Heap) (l1 l2:Addr) (c1 c2:Bool):Heap:=(zD h l1 l2 c1 c2).push { cls:=.type "zip",data:=.fields #[.none,.bool false,.bool false,.ref (zB h l1 l2 c1 c2).objs.size,.ref (zC h l1 l2 c1 c2).objs.size] }
set_option maxHeartbeats 8000000 in
theorem EY (l1 l2:Addr) (xs ys:Array Value) (c1 c2:Bool) :
 Meets (Builtin.«zip.__new__» ⟨[.type "zip",.ref l1,.ref l2],[]⟩) (fun _ R s=>bU s.heap l1 xs c1∧bU s.heap l2 ys c2∧R (.ok (.ret (.ref (zD s.heap l1 l2 c1 c2).objs.size))) { s with heap:=zE s.heap l1 l2 c1 c2 }):=
 .of_wp fun prog w A R s h=>by
  obtain ⟨hp,g,d,tk,os⟩:=s;obtain ⟨q1,q2,h⟩:=h
  have hsub:=sub_zip
  have L2':bU (Shared.heap ⟨zA hp l1 c1,g,d,tk,os⟩) l2 ys c2:=bU.at q2 fun o e=>Heap.get?_push_of_some _ e
  cases c1 <;> cases c2
  ·have g1:Heap.IsTuple (Shared.heap ⟨hp,g,d,tk,os⟩) l1 xs:=q1
   have g2:Heap.IsTuple (Shared.heap ⟨hp.push { cls:=.type "tuple_iterator",data:=.fields #[.ref l1,.int 0 0] },g,d,tk,os⟩) l2 ys:=L2'
   wp_walk using wpAny_pyIter_tuple g1,wpAny_pyIter_tuple g2
   exact ⟨_,rfl,h⟩
  ·have g1:Heap.IsTuple (Shared.heap ⟨hp,g,d,tk,os⟩) l1 xs:=q1
   have g2:Heap.IsList (Shared.heap ⟨hp.push { cls:=.type "tuple_iterator",data:=.fields #[.ref l1,.int 0 0] },g,d,tk,os⟩) l2 ys:=L2'
   wp_walk using wpAny_pyIter_tuple g1,wpAny_pyIter_list g2
   exact ⟨_,rfl,h⟩
  ·have g1:Heap.IsList (Shared.heap ⟨hp,g,d,tk,os⟩) l1 xs:=q1
   have g2:Heap.IsTuple (Shared.heap ⟨hp.push { cls:=.type "list_iterator",data:=.fields #[.ref l1,.int 0 0] },g,d,tk,os⟩) l2 ys:=L2'
   wp_walk using wpAny_pyIter_list g1,wpAny_pyIter_tuple g2
   exact ⟨_,rfl,h⟩
  ·have g1:Heap.IsList (Shared.heap ⟨hp,g,d,tk,os⟩) l1 xs:=q1
   have g2:Heap.IsList (Shared.heap ⟨hp.push { cls:=.type "list_iterator",data:=.fields #[.ref l1,.int 0 0] },g,d,tk,os⟩) l2 ys:=L2'
   wp_walk using wpAny_pyIter_list g1,wpAny_pyIter_list g2
   exact ⟨_,rfl,h⟩
theorem yn {h:Heap}{it l:Addr}:∀{c:Bool},h.get? it=some { cls:=.type (Gw c),data:=.fields #[.ref l,.int 0 0] }→bM h it l 0 c
 | true,e=>⟨_,e,rfl,rfl⟩
 | false,e=>⟨_,e,rfl,rfl⟩
section
variable {prog:Program}{w:World}{A:Around}{E:Value→Shared→Prop}{s:Shared}
theorem Af {l1 l2:Addr}{xs ys:Array Value}{c1 c2:Bool}{Q:Value→Shared→Prop} (q1:bU s.heap l1 xs c1) (q2:bU s.heap l2 ys c2)
 (h:∀h',IsZip h' (s.heap.objs.size+4) (s.heap.objs.size+2) (s.heap.objs.size+3) .none→IsPair h' (s.heap.objs.size+2) (.ref s.heap.objs.size) (.ref (s.heap.objs.size+1))→
  IsPair h' (s.heap.objs.size+3) .none .none→bM h' s.heap.objs.size l1 0 c1→bM h' (s.heap.objs.size+1) l2 0 c2→
  (∀c o,s.heap.get? c=some o→h'.get? c=some o)→Q (.ref (s.heap.objs.size+4)) { s with heap:=h' }) :
 wpAny (model prog w) A (call (.type "zip") [.ref l1,.ref l2]) Q E s:=by
 refine callType_new F.called_zip (by decide) (F.typeCall_zip_2 _ _) (F.newCall_zip_2 _ _) (fun obj=>F.args_object_init_3 obj _ _) F.entry_zip_new (EY l1 l2 xs ys c1 c2) ⟨q1,q2,?_⟩
 have s1:(zA s.heap l1 c1).objs.size=s.heap.objs.size+1:=Heap.size_push ..
 have s2:(zB s.heap l1 l2 c1 c2).objs.size=s.heap.objs.size+2:=by rw [Heap.size_push,s1]
 have s3:(zC s.heap l1 l2 c1 c2).objs.size=s.heap.objs.size+3:=by rw [Heap.size_push,s2]
 have s4:(zD s.heap l1 l2 c1 c2).objs.size=s.heap.objs.size+4:=by rw [Heap.size_push,s3]
 have g5:(zE s.heap l1 l2 c1 c2).get? (zD s.heap l1 l2 c1 c2).objs.size=some _:=Heap.get?_push_size _ rfl
 have g4:(zE s.heap l1 l2 c1 c2).get? (zC s.heap l1 l2 c1 c2).objs.size=some _:=Heap.get?_push_of_some _ (Heap.get?_push_size _ rfl)
 have g3:(zE s.heap l1 l2 c1 c2).get? (zB s.heap l1 l2 c1 c2).objs.size=some _:=Heap.get?_push_of_some _ (Heap.get?_push_of_some _ (Heap.get?_push_size _ rfl))
 have g2:(zE s.heap l1 l2 c1 c2).get? (zA s.heap l1 c1).objs.size=some _:=Heap.get?_push_of_some _ (Heap.get?_push_of_some _ (Heap.get?_push_of_some _ (Heap.get?_push_size _ rfl)))
 have g1:(zE s.heap l1 l2 c1 c2).get? s.heap.objs.size=some _:=Heap.get?_push_of_some _ (Heap.get?_push_of_some _ (Heap.get?_push_of_some _ (Heap.get?_push_of_some _ (Heap.get?_push_size _ rfl))))
 show _∧_
 rw [s2,s3,s4] at g5
 rw [s1,s2] at g3
 rw [s3] at g4
 rw [s1] at g2
 rw [s4]
 exact ⟨⟨_,g5,rfl⟩,h _ g5 g3 g4 (yn g1) (yn g2) fun c o x=>Heap.get?_push_of_some _ (Heap.get?_push_of_some _ (Heap.get?_push_of_some _ (Heap.get?_push_of_some _ (Heap.get?_push_of_some _ x))))⟩
theorem uE {z TI TO i1 i2 l1 l2:Addr}{k:Nat}{xs ys:Array Value}{a b x y:Value}{c1 c2:Bool}{Q:Option Value→Shared→Prop} (D:rd z TI TO i1 i2) (n1:∀c,c=l1∨c=l2→c≠z∧c≠TO∧c≠i1∧c≠i2)
 (hz:IsZip s.heap z TI TO .none) (hTI:IsPair s.heap TI (.ref i1) (.ref i2)) (hTO:IsPair s.heap TO a b) (hh:A.handled=none)
 (h1:bM s.heap i1 l1 k c1) (h2:bM s.heap i2 l2 k c2) (q1:bU s.heap l1 xs c1) (q2:bU s.heap l2 ys c2) (hx:xs[k]?=some x) (hy:ys[k]?=some y)
 (hQ:∀h' tk,IsZip h' z TI TO (rawInt s.heap.objs.size)→IsPair h' TO x y→bM h' i1 l1 (k+1) c1→bM h' i2 l2 (k+1) c2→IsPair h' s.heap.objs.size x y→h'.objs.size=s.heap.objs.size+1→
  (∀c o,c≠z→c≠TO→c≠i1→c≠i2→s.heap.get? c=some o→h'.get? c=some o)→Q (some (.ref s.heap.objs.size)) { s with heap:=h',toks:=tk }) :
 wpAny (model prog w) A (pyNext (.ref z)) Q E s:=by
 have hT:s.TypeIs (.ref z) "zip" := ⟨_,hz,rfl⟩
 unfold pyNext
 exact wpAny_bind (wpAny_attempt (wpAny_callSpecial?_slot (name:=Str.ofString "__next__") hT F.slot_zip_next (wpAny_call_entry F.slot_zip_next hT F.entry_zip_next
  (Ef D n1 hz hTI hTO hh h1 h2 q1 q2 hx hy fun h' tk a1 a2 a3 a4 a5 a6 a7=>wpAny_pure (hQ h' tk a1 a2 a3 a4 a5 a6 a7)) (F.args_zip_next_1 _))))
theorem wB {z TI TO i1 i2 l1 l2:Addr}{k:Nat}{xs ys:Array Value}{a b:Value}{c1 c2:Bool}{Q:Option Value→Shared→Prop} (hh:A.handled=none) (D:rd z TI TO i1 i2) (n1:∀c,c=l1∨c=l2→c≠z∧c≠TO∧c≠i1∧c≠i2)
 (hz:IsZip s.heap z TI TO .none) (hTI:IsPair s.heap TI (.ref i1) (.ref i2)) (hTO:IsPair s.heap TO a b)
 (h1:bM s.heap i1 l1 k c1) (h2:bM s.heap i2 l2 k c2) (q1:bU s.heap l1 xs c1) (q2:bU s.heap l2 ys c2) (hend:xs.size=k∨(k<xs.size∧ys.size=k))
 (hQ:∀h' tk,(∀c o,c≠z→c≠TO→c≠i1→c≠i2→s.heap.get? c=some o→h'.get? c=some o)→Q none { s with heap:=h',toks:=tk }):wpAny (model prog w) A (pyNext (.ref z)) Q E s:=by
 have hT:s.TypeIs (.ref z) "zip" := ⟨_,hz,rfl⟩
 unfold pyNext
 refine wpAny_bind (wpAny_attempt (wpAny_callSpecial?_slot (name:=Str.ofString "__next__") hT F.slot_zip_next (wpAny_call_entry F.slot_zip_next hT F.entry_zip_next
  (FZ hh D n1 hz hTI hTO h1 h2 q1 q2 hend fun h' e tk hk he=>?_) (F.args_zip_next_1 _))))
 obtain ⟨o,ho,hc⟩:=he
 refine wpAny_bind (wpAny_isInstance (T := "StopIteration") (b:=true) ⟨o,ho,hc⟩ isSubtype_stop (wpAny_pure (hQ _ tk hk)))
end
theorem ac.turnedL {X:Cx}{pins:List (Addr×Obj)}{σ:St}{H:Hp}{s:Shared}{h':Heap}{t':Nat}{ch:List Addr} (I:ac X pins σ H s) (hf:∀b∈ch,ji X pins H b) (k:∀b u,b∉ch→s.heap.get? b=some u→h'.get? b=some u) :
 ac X pins σ H { s with heap:=h',toks:=t' }:=by
 refine I.step (g':=s.gens) (d':=s.drawn) (ch:=ch) (fun b hb=>?_) (fun b o _ _ hc e _=>k b o hc e) (fun b o _ _ hc e _=>⟨o.slots,k b o hc e⟩) (fun _ _ _ _ n=>n)
  (fun b o hc e=>⟨o,k b o hc e⟩) (fun _ _ e=>e) (fun _ _ _ e=>e) (fun b ps e=>⟨#[],by rw [e];simp⟩) (fun m hm=>?_) (fun b u e=>?_) I.bare
 ·obtain ⟨f0,f1,f2,f3,f4,f5⟩:=hf b hb
  exact ⟨f3,f1,f4,f5⟩
 ·obtain ⟨o,es,ep,ho,r⟩:=hm
  exact ⟨o,es,ep,k _ o (fun z=>(hf _ z).2.1 rfl) ho,r⟩
 ·refine (I.hok b u e).stay (fun c v hc q=>k c v (fun z=>?_) q) (fun _ q=>q) fun _ _ q=>q
  have hcn:=(hf c z).1
  rcases hc with rfl | hc
  ·rw [e] at hcn;cases hcn
  ·rw [hc] at hcn;cases hcn
def kY (K:PySem.W.Frag) (H:Hp) (a:Addr) (xs:List V):Bool→Prop
 | true=>am K H a xs
 | false=>ag K H a xs
theorem ac.seqC {X:Cx}{pins:List (Addr×Obj)}{σ:St}{H:Hp}{s:Shared}{a:Addr}{xs:List V} (I:ac X pins σ H s):∀{c:Bool},kY X.K H a xs c→∃its:List Value,aC xs its∧bU s.heap a its.toArray c
 | true,q=>let ⟨its,rv,p,_⟩:=I.list q;⟨its,rv,p.isList⟩
 | false,q=>let ⟨its,rv,p,_⟩:=I.tuple q;⟨its,rv,p⟩
theorem ac.seqC_inj {X:Cx}{pins:List (Addr×Obj)}{σ:St}{H:Hp}{s:Shared}{a:Addr}{xs ys:List V} (I:ac X pins σ H s):∀{c:Bool},kY X.K H a xs c→kY X.K H a ys c→xs=ys
 | true,p,q=>I.list_inj p q
 | false,p,q=>I.tuple_inj p q
def Iu (K:PySem.W.Frag) (a1 a2:Addr) (c1 c2:Bool):It:=
 ⟨fun i H=>kQ fun xs ys x y=>kY K H a1 xs c1∧kY K H a2 ys c2∧xs[i]?=some x∧ys[i]?=some y,
  fun i H v H'=>eH fun T x y=>H T=none∧v=.ref T∧H'=aD H T (.tup [x,y])∧(∀xs,kY K H a1 xs c1→xs[i]?=some x)∧(∀ys,kY K H a2 ys c2→ys[i]?=some y),
  fun i H=>aW fun xs ys=>kY K H a1 xs c1∧kY K H a2 ys c2∧(xs.length=i∨(i<xs.length∧ys.length=i))⟩
theorem Cd {P:Program}{w:World}{K:PySem.W.Frag}{es:List Expr}{kk:Nat}{pos:Pos} (a1 a2 z TI TO i1 i2:Addr) (c1 c2:Bool) (D:rd z TI TO i1 i2) (n1:∀c,c=a1∨c=a2→c≠z∧c≠TO∧c≠i1∧c≠i2) :
 tE P w K (.Tuple es kk pos) (Iu K a1 a2 c1 c2) [z,TO,i1,i2,TI] z (fun i h=>IsZip h z TI TO .none∧IsPair h TI (.ref i1) (.ref i2)∧(aW fun a b=>IsPair h TO a b)∧bM h i1 a1 i c1∧bM h i2 a2 i c2) where
 mem:=by simp
 obj:=fun i h st b hb=>by
  obtain ⟨hz,hTI,⟨a,b',hTO⟩,h1,h2⟩:=st
  have hb':b=z∨b=TO∨b=i1∨b=i2∨b=TI:=by simpa using hb
  rcases hb' with rfl | rfl | rfl | rfl | rfl
  ·exact ⟨_,hz,fun v q=>by have q':Data.fields _=Data.cell v:=q;cases q'⟩
  ·exact ⟨_,hTO,fun v q=>by have q':Data.seq _ _=Data.cell v:=q;cases q'⟩
  ·exact h1.some
  ·exact h2.some
  ·exact ⟨_,hTI,fun v q=>by have q':Data.seq _ _=Data.cell v:=q;cases q'⟩
 keep:=fun i h h' st k=>by
  obtain ⟨hz,hTI,⟨a,b',hTO⟩,h1,h2⟩:=st
  exact ⟨k z (by simp) _ hz,k TI (by simp) _ hTI,⟨a,b',k TO (by simp) _ hTO⟩,h1.at fun o q=>k i1 (by simp) o q,h2.at fun o q=>k i2 (by simp) o q⟩
 item:=by
  intro X hP hw hK hc i pins s σ H E I hf st hg
  subst hP hw hK
  obtain ⟨hz,hTI,⟨a,b',hTO⟩,h1,h2⟩:=st
  obtain ⟨xs,ys,x,y,p1,p2,hx,hy⟩:=hg
  obtain ⟨its1,rv1,k1⟩:=I.seqC p1
  obtain ⟨its2,rv2,k2⟩:=I.seqC p2
  obtain ⟨u,hu,ru⟩:=rv1.get hx
  obtain ⟨v,hv,rw'⟩:=rv2.get hy
  have hnT:H s.heap.objs.size=none:=I.fresh
  refine uE D n1 hz hTI hTO (I.ok.hd hc) h1 h2 k1 k2 (x:=u) (y:=v) (by simpa using hu) (by simpa using hv) fun h' tk zo TO' t1 t2 T' sz keep=>?_
  refine ⟨_,rfl,wpAny_letOwnedTupleGo_zip (s:={ s with heap:=h',toks:=tk }) zo fun h2' z2 s2=>?_⟩
  have zlt:z<s.heap.objs.size:=Heap.lt_size hz
  have TOlt:TO<s.heap.objs.size:=Heap.lt_size hTO
  have TIlt:TI<s.heap.objs.size:=Heap.lt_size hTI
  have i1lt:i1<s.heap.objs.size:=let ⟨_,e,_⟩:=h1.some;Heap.lt_size e
  have i2lt:i2<s.heap.objs.size:=let ⟨_,e,_⟩:=h2.some;Heap.lt_size e
  have hT2:h2'.get? s.heap.objs.size=some { cls:=.type "tuple",data:=.seq #[u,v] }:=(s2.2 _ (Nat.ne_of_gt zlt)).trans T'
  refine ⟨.ref s.heap.objs.size,aD H s.heap.objs.size (.tup [x,y]),I.turnedNew (ch:=[z,TO,i1,i2,TI]) (t':=tk) hf (fun b o hb q=>?_) (Nat.le_refl _) ?_,rfl,
   ⟨_,x,y,hnT,rfl,rfl,fun zs hs=>by rw [I.seqC_inj hs p1];exact hx,fun zs hs=>by rw [I.seqC_inj hs p2];exact hy⟩,⟨z2,(s2.2 _ D.a1).trans (keep _ _ D.a1 D.a5 D.a6 D.a7 hTI),⟨_,_,(s2.2 _ D.a2).trans TO'⟩,t1.at fun o e=>(s2.2 _ D.a3).trans e,t2.at fun o e=>(s2.2 _ D.a4).trans e⟩,fun b hb=>?_⟩
  ·have e1:b≠z:=fun q=>hb (by simp [q])
   have e2:b≠TO:=fun q=>hb (by simp [q])
   have e3:b≠i1:=fun q=>hb (by simp [q])
   have e4:b≠i2:=fun q=>hb (by simp [q])
   exact (s2.2 b e1).trans (keep b o e1 e2 e3 e4 q)
  ·exact ⟨by show 2≤sizeLine;decide,[u,v],.cons ru (.cons rw' .nil),⟨_,hT2,rfl,_,rfl⟩,_,hT2,rfl⟩
  ·have hb':b=z∨b=TO∨b=i1∨b=i2∨b=TI:=by simpa using hb
   have hlt:b<s.heap.objs.size:=by rcases hb' with rfl | rfl | rfl | rfl | rfl <;> assumption
   rw [aj (Nat.ne_of_lt hlt)]
   exact (hf b hb).1
 done:=by
  intro X hP hw hK hc i pins s σ H E I hf st hg
  subst hP hw hK
  obtain ⟨hz,hTI,⟨a,b',hTO⟩,h1,h2⟩:=st
  obtain ⟨xs,ys,p1,p2,hl⟩:=hg
  obtain ⟨its1,rv1,k1⟩:=I.seqC p1
  obtain ⟨its2,rv2,k2⟩:=I.seqC p2
  have l1:=rv1.length
  have l2:=rv2.length
  refine wB (I.ok.hd hc) D n1 hz hTI hTO h1 h2 k1 k2 (by simp;trivial) fun h' tk keep=>⟨rfl,I.turnedL (ch:=[z,TO,i1,i2,TI]) (t':=tk) hf fun b o hb q=>?_⟩
  exact keep b o (fun q=>hb (by simp [q])) (fun q=>hb (by simp [q])) (fun q=>hb (by simp [q])) (fun q=>hb (by simp [q])) q
 self:=fun _ _ _ _ _ st h=>wpAny_pyIter_zip st.1 h
def Fu (K:PySem.W.Frag) (ta:TA):TI:=fun σ H R=>ta σ H fun vs H1=>kQ fun a1 a2 c1 c2=>vs=[.ref a1,.ref a2]∧(∃xs,kY K H1 a1 xs c1)∧(∃ys,kY K H1 a2 ys c2)∧R (Iu K a1 a2 c1 c2) H1
theorem xD:bootBuiltins "zip" = some (.type "zip"):=by decide +kernel
theorem Gq {X:Cx}{es:List Expr}{kk:Nat}{tp:Pos}{a b:Expr}{ta:TA}{p pos:Pos} (hg:Gl X "zip") (hm:X.mg "zip" = none) (ha:PA X [a,b] ta) (hs:starEach [a,b] X.env=[(false,eval a X.env),(false,eval b X.env)]:=by rfl) (hs2:starEach [b] X.env=[(false,eval b X.env)]:=by rfl) :
 PI X (.Tuple es kk tp) (.Call (.Name "zip" p) [a,b] [] pos) (Fu X.K ta):=by
 intro pins s σ H R I h
 refine Call_ (gZ I hg hm xD (PyProof.Rows.callWith_type1 (aK (ha pos pins s σ H _ I h) fun us s1 ⟨vs,H1,I1,r1,q1⟩=>?_) (by rw [hs,hs2]) (by rw [hs2];rfl)))
 obtain ⟨a1,a2,c1,c2,rfl,⟨xs,p1⟩,⟨ys,p2⟩,q⟩:=q1
 obtain ⟨u1,u2,rfl,ru1,ru2⟩:=r1.two
 obtain rfl:u1=.ref a1:=ru1
 obtain rfl:u2=.ref a2:=ru2
 obtain ⟨its1,rv1,k1⟩:=I1.seqC p1
 obtain ⟨its2,rv2,k2⟩:=I1.seqC p2
 have d1:=k1.lt
 have d2:=k2.lt
 refine Af k1 k2 fun h' hz hTI hTO t1 t2 hk=>wpAny_pyIter_zip hz ?_
 have I2:ac X pins σ H1 { s1 with heap:=h',toks:=s1.toks }:=I1.kept hk
 refine ⟨s1.heap.objs.size+4,[s1.heap.objs.size+4,s1.heap.objs.size+3,s1.heap.objs.size,s1.heap.objs.size+1,s1.heap.objs.size+2],_,_,H1,rfl,I2,Cd a1 a2 (s1.heap.objs.size+4) (s1.heap.objs.size+2) (s1.heap.objs.size+3) s1.heap.objs.size (s1.heap.objs.size+1) c1 c2
  ⟨by simp,by simp,Nat.ne_of_lt (by simp),by simp,by simp,Nat.ne_of_gt (by simp),by simp,Nat.ne_of_gt (by simp),by simp,Nat.ne_of_lt (by simp)⟩ (fun c hc=>?_),⟨hz,hTI,⟨_,_,hTO⟩,t1,t2⟩,fun b hb=>?_,q⟩
 ·have:c<s1.heap.objs.size:=by rcases hc with rfl | rfl <;> assumption
  exact ⟨Nat.ne_of_lt (Nat.lt_of_lt_of_le this (Nat.le_add_right _ _)),Nat.ne_of_lt (Nat.lt_of_lt_of_le this (Nat.le_add_right _ _)),Nat.ne_of_lt this,Nat.ne_of_lt (Nat.lt_of_lt_of_le this (Nat.le_add_right _ _))⟩
 ·have hb':b=s1.heap.objs.size+4∨b=s1.heap.objs.size+3∨b=s1.heap.objs.size∨b=s1.heap.objs.size+1∨b=s1.heap.objs.size+2:=by simpa using hb
  have hle:s1.heap.objs.size≤b:=by rcases hb' with rfl | rfl | rfl | rfl | rfl <;> trivial
  exact I1.fpOk hle (I1.hok.fresh hle)
end L2
namespace L2
open PySem PySem.Spec PyProof.Rows
def wN:PyData→Bool
 | .list _=>true
 | .tuple _=>true
 | _=>false
theorem ik {K:PySem.W.Frag} (d:PyData):PySem.W.kitAny K (.type (xW d)) [.type "list",.type "tuple"]=some (wN d):=by
 unfold PySem.W.kitAny PySem.W.kitAny PySem.W.kitAny
 rw [gY,kE]
 cases d <;> rfl
inductive Fl (K:PySem.W.Frag) (xs:List V) (H:Hp) (Q:VK):Prop
 | mk (x:V) (p:Addr) (d:PyData) (E:Addr→Prop) (h0:xs=[x,.ref p]) (h1:aU E H x d) (h2:ag K H p [.ty "list",.ty "tuple"]) (h3:Q (.bl (wN d)) H)
def C5 (K:PySem.W.Frag):List V→Hp→VK→Prop:=fun xs H Q=>Fl K xs H Q
section
variable {X:Cx}{K:PySem.W.Frag}
theorem xO:cn X (.builtin "isinstance") (C5 X.K):=by
 intro pins s σ H xs us Q I r h
 obtain ⟨x,p,d,E,rfl,hx,hp,q⟩:=h
 obtain ⟨u,c,rfl,ru,rc⟩:=r.two
 obtain rfl:c=Value.ref p:=rc
 obtain ⟨its,rv,⟨o,e1,e2,n,e3⟩,_⟩:=I.tuple hp
 obtain ⟨u1,u2,rfl,r1,r2⟩:=rv.two
 obtain rfl:u1=Value.type "list" := r1
 obtain rfl:u2=Value.type "tuple" := r2
 have q':∀tk,EP X pins σ Q (.bool (wN d)) { s with toks:=tk }:=fun tk=>⟨.bl _,H,I.tok tk,rfl,q⟩
 obtain ⟨oc,od,odt,osl⟩:=o
 dsimp only at e2 e3
 subst e2 e3
 cases hx with
 | non=>cases (show u=Value.none from ru);exact PySem.W.kia_tup PySem.W.kitx_none I.kIn True.intro e1 (ik .none) (fun z=>nomatch z) q'
 | bl y=>cases (show u=Value.bool y from ru);exact PySem.W.kia_tup PySem.W.kitx_bool I.kIn True.intro e1 (ik (.bool y)) (fun z=>nomatch z) q'
 | int i=>obtain ⟨t,w⟩:=(show ∃t,u=Value.int i t from ru);cases w;exact PySem.W.kia_tup PySem.W.kitx_int I.kIn True.intro e1 (ik (.int i)) (fun z=>nomatch z) q'
 | str y=>obtain ⟨t,w⟩:=(show ∃t,u=Value.str y t from ru);cases w;exact PySem.W.kia_tup PySem.W.kitx_str I.kIn True.intro e1 (ik (.str y)) (fun z=>nomatch z) q'
 | @lst a xs ds ea _ _=>
  cases (show u=Value.ref a from ru)
  obtain ⟨_,_,m,_,h1⟩:=(show aV X.prog X.w H s.heap a (.lst xs) from I.hok a _ ea)
  exact PySem.W.kia_tup PySem.W.kitx_list I.kIn ⟨_,h1,rfl⟩ e1 (ik (.list ds)) (fun z=>nomatch z) q'
 | @tup a xs ds ea _=>
  cases (show u=Value.ref a from ru)
  obtain ⟨_,_,_,p,_⟩:=(show aV X.prog X.w H s.heap a (.tup xs) from I.hok a _ ea)
  obtain ⟨o,h1,h2,_⟩:=p
  exact PySem.W.kia_tup PySem.W.kitx_tuple I.kIn ⟨o,h1,h2⟩ e1 (ik (.tuple ds)) (fun z=>nomatch z) q'
theorem Ar (e:X.K=K:=by rfl):cn X (.builtin "isinstance") (C5 K):=by subst e;exact xO
end
def Sz (m:Nat) (i:Int):Prop:=i.natAbs<2 ^ m
theorem Sz.mono {m n:Nat}{i:Int} (h:Sz m i) (k:m≤n):Sz n i:=Nat.lt_of_lt_of_le h (Nat.pow_le_pow_right (by decide) k)
theorem Sz.mul {m n:Nat}{i j:Int} (h:Sz m i) (k:Sz n j):Sz (m+n) (i*j):=by
 unfold Sz at *
 rw [Int.natAbs_mul,Nat.pow_add]
 exact Nat.mul_lt_mul'' h k
theorem Sz.neg {m:Nat}{i:Int} (h:Sz m i):Sz m (-i):=by
 unfold Sz at *
 trivial
theorem Sz.le {m:Nat}{i j:Int} (h:Sz m j) (k:i.natAbs≤j.natAbs):Sz m i:=Nat.lt_of_le_of_lt k h
theorem Sz.log {m:Nat}{i:Int} (h:Sz m i) (h0:i≠0):i.natAbs.log2<m:=(Nat.log2_lt (by trivial)).mpr h
theorem Sz.bits {m:Nat}{i:Int} (h:Sz m i):Builtin.Int.intBits i≤m:=by
 unfold Builtin.Int.intBits
 by_cases h0:i=0
 ·subst h0;exact Nat.zero_le _
 ·have:=h.log h0
  rw [if_neg (by simpa using h0)]
  trivial
def C9 (i j:Int):Prop:=aW fun m n=>Sz m i∧Sz n j∧m+n≤134217728
section
variable {X:Cx}
theorem gu:cB X (binaryOp .Mult) (rI C9 fun i j=>.int (i*j)):=vy fun _ _ _ _ _ _ _ hc q=>by
 obtain ⟨m,n,h1,h2,h3⟩:=hc
 exact mul_int q (PyProof.Rows.mulOk_of_bits h1.bits h2.bits h3)
def zn (_ j:Int):Prop:=j≠0∧Sz 9000 j
theorem xN:cB X (binaryOp .FloorDiv) (rI zn fun i j=>.int (i.fdiv j)):=vy fun i j _ _ _ _ _ hc q=>
 floordiv_int hc.1 q (.inl (PyProof.noPylong_of_log2 (hc.2.log hc.1)))
end
end L2
namespace L2
open PySem PySem.Spec PyProof.Rows
def Dp:Nat→PyData→Prop
 | 0,_=>False
 | n+1,.list xs=>xs.length≤1000∧∀x∈xs,Dp n x
 | n+1,.tuple xs=>xs.length≤1000∧∀x∈xs,Dp n x
 | _+1,_=>True
inductive Em (n:Nat) (vs:List V) (H:Hp) (Q:VK):Prop
 | mk (x y:V) (d:PyData) (E:Addr→Prop) (h0:vs=[x,y]) (h1:aU E H x d) (h2:aU E H y d) (h3:Dp n d) (h4:∀H',ah H H'→Q (.bl true) H')
def Gh (n:Nat):Sp:=fun vs H Q _=>Em n vs H Q
theorem cZ {H H':Hp}{D:Addr}{o:HO} (hD:H D=none) (k:ah H H'):ah H (aD H' D o):=fun b u e=>by
 rw [aj (aR e hD)];exact k b u e
theorem aO.free {b p:Addr}{H H9:Hp}{t9:Int} (s:aO (Eb b) H H9) (B:Bx H9 b t9) (h:H9 p=none):H p=none:=by
 cases e:H p with
 | none=>rfl
 | some o=>
  by_cases hb:p=b
  ·obtain ⟨c,x,eb,_⟩:=B
   rw [←hb,h] at eb;cases eb
  ·rw [s.old p o hb e] at h;cases h
mutual
theorem aU.narrow {E F:Addr→Prop}{H:Hp} (k:∀a,F a→E a):∀{v:V}{d:PyData},aU E H v d→aU F H v d
 | _,_,.non=>.non
 | _,_,.bl b=>.bl b
 | _,_,.int i=>.int i
 | _,_,.str x=>.str x
 | _,_,.lst h ne r=>.lst h (fun z=>ne (k _ z)) (aI.narrow k r)
 | _,_,.tup h r=>.tup h (aI.narrow k r)
theorem aI.narrow {E F:Addr→Prop}{H:Hp} (k:∀a,F a→E a):∀{vs:List V}{ds:List PyData},aI E H vs ds→aI F H vs ds
 | _,_,.nil=>.nil
 | _,_,.cons h r=>.cons (aU.narrow k h) (aI.narrow k r)
end
theorem rO {Q:VK}{H:Hp}{x:V} (h:Q (.bl true) H):Q (.bl (decide (x=x))) H:=by rw [decide_eq_true rfl];exact h
theorem yr (n:Nat):(List.replicate n true).all id=true:=by
 induction n with
 | zero=>rfl
 | succ n ih=>rw [List.replicate_succ,List.all_cons,ih];rfl
theorem wS (n:Nat):(List.replicate n true).map V.bl++[V.bl true]=(List.replicate (n+1) true).map V.bl:=by
 rw [List.replicate_succ',List.map_append];rfl
def CO (H1:Hp) (D:Addr) (i:Nat) (H':Hp) (ys:List V):Prop:=ys=(List.replicate i true).map V.bl∧H' D=some (.lst ys)∧ah H1 H'
theorem jQ {x:V}{A B:Prop} (h:B):if (!decide (x=x))=true then A else B:=by rw [decide_eq_true rfl];exact aM h
theorem wJ {x:V}{A B:Prop} (h:A):if decide (x=x)=true then A else B:=by rw [decide_eq_true rfl];exact bh h
end L2
namespace L2
open PySem PySem.Spec PyProof.Rows
abbrev fr (z:Int×Int):HO:=.tup [.int z.1,.int z.2]
abbrev IB (n1 _ n2 _:Int):Int:=n1*n2
abbrev IV (_ d1 _ d2:Int):Int:=d1*d2
def u9 (i j:Int):Int:=if i<j then -1 else if j<i then 1 else 0
inductive ER (vs:List V) (H:Hp) (Q:VK):Prop
 | mk (a b:Addr) (n1 d1 n2 d2:Int) (h0:vs=[.ref a,.ref b]) (h1:H a=some (.tup [.int n1,.int d1])) (h2:H b=some (.tup [.int n2,.int d2])) (h3:Sz 4000 n1) (h4:Sz 4000 d1) (h5:Sz 4000 n2) (h6:Sz 4000 d2) (h7:Q (.int (u9 (n1*d2) (n2*d1))) H)
def Hl:Sp:=fun vs H Q _=>ER  vs H Q
theorem nN {i j:Int} (h1:Sz 4000 i) (h2:Sz 4000 j):C9 i j:=⟨4000,4000,h1,h2,by decide⟩
theorem zb {i j:Int} (h1:Sz 4000 i) (h2:Sz 4000 j):Sz 9000 (i*j):=(h1.mul h2).mono (by decide)
theorem IH {n d:Int} (hd:d≠0) (h:Sz 9000 d):Sz 9000 ((Int.gcd n d:Nat):Int):=h.le (by
 rw [Int.natAbs_natCast]
 exact Nat.le_of_dvd (by trivial) (Int.ofNat_dvd_left.mp (Int.gcd_dvd_right ..)))
structure Fb (b:Nat) (n d:Int):Prop where
 sn:Sz b n
 sd:Sz b d
 pos:1≤d
 co:Int.gcd n d=1
theorem Fb.low {b:Nat}{n d:Int} (h1:Sz b n) (h2:Sz b d) (hd:d≠0):Fb b (KM.low n d).1 (KM.low n d).2:=by
 obtain ⟨a,_,c,e,f⟩:=KM.low_spec n d hd
 exact ⟨h1.le e,h2.le f,a,c⟩
end L2
namespace L2
open PySem PySem.Spec PyProof.Rows
structure Nw (H:Hp) (p:Addr) (o:HO) (H':Hp):Prop where
 fr:H p=none
 sm:ah H H'
 at':H' p=some o
theorem Nw.mk' {H:Hp}{p:Addr}{o:HO} (h:H p=none):Nw H p o (aD H p o):=⟨h,ah.new h,ar⟩
section
variable {X:Cx}{es:List Expr}{t:TA}{pos:Pos}{K:PySem.W.Frag}
def Ip (t:TA):TE:=fun σ H Q=>t σ H fun xs H1=>xs.length≤10000∧∀p H',Nw H1 p (.tup xs) H'→Q (.ref p) H'
def HV (t:TA):TE:=fun σ H Q=>t σ H fun xs H1=>xs.length≤10000∧∀p H',Nw H1 p (.lst xs) H'→Q (.ref p) H'
theorem jx {n:Nat} (h:n≤10000):n≤sizeLine:=by rw [sizeLine_eq];trivial
theorem aG {x1} (h:PA X es t):PE X (.Tuple es x1 pos) (Ip t):=by
 intro pins s σ H Q I hq
 refine wpAny_Tuple_spliced (aK (h pos pins s σ H _ I hq) fun us s1 ⟨xs,H1,I1,r,z',q⟩=>⟨by rw [←r.length];exact jx z',?_⟩)
 have z:=jx z'
 have hf:H1 s1.heap.objs.size=none:=I1.hok.fresh (Nat.le_refl _)
 refine ⟨.ref s1.heap.objs.size,aD H1 s1.heap.objs.size (.tup xs),I1.laid (t':=s1.toks) (fun b u e=>Heap.get?_push_of_some _ e) (Nat.le_refl _) ?_,rfl,q _ _ (.mk' hf)⟩
 exact ⟨z,us,r,⟨_,Heap.get?_push_size _ rfl,rfl,_,rfl⟩,_,Heap.get?_push_size _ rfl,rfl⟩
theorem bJ (h:PA X es t):PE X (.List es pos) (HV t):=by
 intro pins s σ H Q I hq
 refine wpAny_List_spliced (aK (h pos pins s σ H _ I hq) fun us s1 ⟨xs,H1,I1,r,z',q⟩=>⟨by rw [←r.length];exact jx z',?_⟩)
 have z:=jx z'
 have hf:H1 s1.heap.objs.size=none:=I1.hok.fresh (Nat.le_refl _)
 refine ⟨.ref s1.heap.objs.size,aD H1 s1.heap.objs.size (.lst xs),I1.laid (t':=s1.toks) (fun b u e=>Heap.get?_push_of_some _ e) (Nat.le_refl _) ?_,rfl,q _ _ (.mk' hf)⟩
 exact ⟨z,us,0,r,Heap.get?_push_size _ rfl⟩
inductive GA (x:V) (y:V) (H:Hp) (Q:VK):Prop
 | mk (l:_) (b:_) (xs:_) (zs:_) (h0:x=.ref l) (h1:y=.ref b) (h2:H l=some (.lst xs)) (h3:H b=some (.lst zs)) (h4:xs.length+zs.length≤10000) (h5:∀p H',Nw H p (.lst (xs++zs)) H'→Q (.ref p) H')
def Hr:R2:=fun x y H Q=>GA  x y H Q
theorem jX:cB X (binaryOp .Add) Hr:=fun pins s σ H x y v u Q I rx ry ⟨l,b,xs,zs,e1,e2,h1,h2,hz,q⟩=>
 Fc pins s σ H x y v u Q I rx ry ⟨l,b,xs,zs,e1,e2,h1,h2,jx hz,fun p hp=>q p _ (.mk' hp)⟩
inductive Ie (K:PySem.W.Frag) (x:V) (lo:Option Int) (hi:Option Int) (H:Hp) (Q:VK):Prop
 | mk (a:_) (xs:_) (h0:x=.ref a) (h1:am K H a xs) (h2:∀p H',Nw H p (.lst (iU xs lo hi)) H'→Q (.ref p) H')
def Jl (K:PySem.W.Frag):V→Option Int→Option Int→Hp→VK→Prop:=fun x lo hi H Q=>Ie K x lo hi H Q
theorem iQ (e:X.K=K:=by rfl):FY X (Jl K):=by
 subst e
 exact fun pins s σ H x v vl vu lo hi sl Q I rx hs pl pu ⟨a,xs,e,h,q⟩=>uY pins s σ H x v vl vu lo hi sl Q I rx hs pl pu ⟨a,xs,e,h,fun p hp=>q p _ (.mk' hp)⟩
inductive FE (x:V) (y:V) (H:Hp) (Q:VK):Prop
 | mk (l:_) (k:_) (xs:_) (h0:x=.ref l) (h1:y=.int k) (h2:H l=some (.lst xs)) (h3:-(2 ^ 63)≤k) (h4:k<2 ^ 63) (h5:xs.length*k.toNat≤10000) (h6:∀p H',Nw H p (.lst (List.replicate k.toNat xs).flatten) H'→Q (.ref p) H')
def GV:R2:=fun x y H Q=>FE  x y H Q
theorem Dg:cB X (binaryOp .Mult) GV:=fun pins s σ H x y v u Q I rx ry ⟨l,k,xs,e1,e2,h1,h2,h3,hz,q⟩=>
 Fq pins s σ H x y v u Q I rx ry ⟨l,k,xs,e1,e2,h1,h2,h3,jx hz,fun p hp=>q p _ (.mk' hp)⟩
inductive DN (K:PySem.W.Frag) (xs:List V) (H:Hp) (Q:VK):Prop
 | mk (p:_) (ys:_) (h0:xs=[.ref p]) (h1:(am K H p ys∨ag K H p ys)) (h2:∀l H',Nw H l (.lst ys) H'→Q (.ref l) H')
def FO (K:PySem.W.Frag):List V→Hp→VK→Prop:=fun xs H Q=>DN K xs H Q
theorem wC (e:X.K=K:=by rfl):cn X (.type "list") (FO K):=by
 subst e
 exact fun pins s σ H xs us Q I r ⟨p,ys,e,h,q⟩=>qx pins s σ H xs us Q I r ⟨p,ys,e,h,fun l hl=>q l _ (.mk' hl)⟩
inductive Ci (K:PySem.W.Frag) (xs:List V) (H:Hp) (Q:VK):Prop
 | mk (p:_) (ys:_) (h0:xs=[.ref p]) (h1:am K H p ys) (h2:∀l H',Nw H l (.tup ys) H'→Q (.ref l) H')
def Dc (K:PySem.W.Frag):List V→Hp→VK→Prop:=fun xs H Q=>Ci K xs H Q
theorem jU (e:X.K=K:=by rfl):cn X (.type "tuple") (Dc K):=by
 subst e
 exact fun pins s σ H xs us Q I r ⟨p,ys,e,h,q⟩=>wm pins s σ H xs us Q I r ⟨p,ys,e,.inl ⟨h,fun l hl=>q l _ (.mk' hl)⟩⟩
end
structure Ch (H:Hp) (p:Addr) (xs:List V) (H':Hp):Prop where
 at':H' p=some (.lst xs)
 ol:∀a o,a≠p→H a=some o→H' a=some o
 fre:∀a,a≠p→H a=none→H' a=none
theorem Ch.mk' {H:Hp}{p:Addr}{xs:List V}:Ch H p xs (aD H p (.lst xs)):=⟨ar,fun a o n h=>by rw [aj n];exact h,fun a n h=>by rw [aj n];exact h⟩
theorem Ch.tup {H H':Hp}{p a:Addr}{xs ys zs:List V} (c:Ch H p xs H') (h:H a=some (.tup ys)) (hp:H p=some (.lst zs)):H' a=some (.tup ys):=c.ol a _ (Cz h hp (by intro z;cases z)) h
section
variable {X:Cx}
inductive FC (x:V) (vs:List V) (H:Hp) (Q:VK):Prop
 | mk (l:_) (xs:_) (y:_) (h0:x=.ref l) (h1:vs=[y]) (h2:H l=some (.lst xs)) (h3:xs.length≤10000) (h4:∀H',Ch H l (xs++[y]) H'→Q .non H')
def Im:V→List V→Hp→VK→Prop:=fun x vs H Q=>FC  x vs H Q
theorem io:wO X "list.append" Im:=fun pins s σ H x vs v us Q I rx rv ⟨l,xs,y,e1,e2,h,hz,q⟩=>qI pins s σ H x vs v us Q I rx rv ⟨l,xs,y,e1,e2,h,(by rw [sizeLine_eq];trivial),q _ .mk'⟩
end
inductive Ew (vs:List V) (H:Hp) (Q:VK):Prop
 | mk (n d:Int) (h0:vs=[.int n,.int d]) (h1:d≠0) (h2:Sz 9000 d) (h3:∀p H',Nw H p (fr (KM.low n d)) H'→Q (.ref p) H')
def F9:Sp:=fun vs H Q _=>Ew  vs H Q
inductive Dm (num den:Int→Int→Int→Int→Int) (vs:List V) (H:Hp) (Q:VK):Prop
 | mk (a b:Addr) (n1 d1 n2 d2:Int) (h0:vs=[.ref a,.ref b]) (h1:H a=some (.tup [.int n1,.int d1])) (h2:H b=some (.tup [.int n2,.int d2])) (h3:(Sz 4000 n1∧Sz 4000 d1∧Sz 4000 n2∧Sz 4000 d2∧den n1 d1 n2 d2≠0)) (h4:∀p H',Nw H p (fr (KM.low (num n1 d1 n2 d2) (den n1 d1 n2 d2))) H'→Q (.ref p) H')
def FQ (num den:Int→Int→Int→Int→Int):Sp:=fun vs H Q _=>Dm num den vs H Q
end L2
namespace L2
open PySem PySem.Spec PyProof.Rows
theorem Fb.small {b:Nat}{n d:Int} (h1:n.natAbs<2 ^ b) (h2:d.natAbs<2 ^ b) (h3:1≤d) (h4:Int.gcd n d=1):Fb b n d:=⟨h1,h2,h3,h4⟩
theorem Bx.ch {H H':Hp}{b p:Addr}{t:Int}{xs:List V} (h:Bx H b t) (k:Ch H p xs H') (ne:b≠p):Bx H' b t:=by
 obtain ⟨c,x,e,q,q2,q3⟩:=h
 exact ⟨c,x,k.ol b _ ne e,q,q2,q3⟩
theorem Bx.ne {H:Hp}{b p:Addr}{t:Int} (h:Bx H b t) (hp:H p=none):b≠p:=fun z=>by
 obtain ⟨c,x,e,_⟩:=h
 rw [z,hp] at e;cases e
end L2
namespace L2
open PySem PySem.Spec PyProof.Rows
section
variable {X:Cx}{e:Expr}{te:TE}{st:Expr}{ts:TO}{p2 pos:Pos}{K:PySem.W.Frag}
inductive Fx (x:V) (vs:List V) (H:Hp) (Q:VK):Prop
 | mk (l:_) (xs:_) (k:_) (y:_) (h0:x=.ref l) (h1:vs=[.int k,y]) (h2:H l=some (.lst xs)) (h3:0≤k) (h4:k≤xs.length) (h5:xs.length≤10000) (h6:∀H',Ch H l (xs.take k.toNat++y :: xs.drop k.toNat) H'→Q .non H')
def Ig:V→List V→Hp→VK→Prop:=fun x vs H Q=>Fx  x vs H Q
theorem y7:wO X "list.insert" Ig:=by
 intro pins s σ H x vs v us Q I rx rv h
 obtain ⟨l,xs,k,y,rfl,rfl,hH,h0,h1,hz,q⟩:=h
 cases rx
 obtain ⟨u1,u2,rfl,r1,r2⟩:=rv.two
 obtain ⟨t1,rfl⟩:=r1
 obtain ⟨z,its,n,r,hl,e⟩:=I.lstM hH
 have hf:Builtin.List.listFitsIndex k=true:=by
  unfold Builtin.List.listFitsIndex
  simp
  trivial
 refine call_meets F.slot_list_insert ⟨_,e,rfl⟩ F.entry_list_insert (F.args_list_insert_3 _ _ _) (AutoSeq1.list_insert_list_int_val_1 l its.toArray n k t1 u2 (by simp [hf]) (by rw [List.size_toArray];trivial)) ⟨e,?_⟩
 refine ⟨.non,_,I.lset (its':=its.take k.toNat++u2 :: its.drop k.toNat) hH e ?_ ((r.take k.toNat).append (.cons r2 (r.drop k.toNat))) ?_,rfl,q _ .mk'⟩
 ·have hk:¬k<0:=by trivial
  have hm:min k.toNat its.length=k.toNat:=by trivial
  simp only [if_neg hk,List.size_toArray,hm]
  apply Array.ext'
  simp
  exact List.take_of_length_le (by rw [List.length_drop];trivial)
 ·rw [List.length_append,List.length_cons,List.length_take,List.length_drop,sizeLine_eq]
  trivial
end
end L2
namespace L2
open PySem PySem.Spec PyProof.Rows
end L2
namespace L2
open PySem PySem.Spec PyProof.Rows
def S (l:List Nat):Str:=⟨l.toArray⟩
theorem j7 {a b:List Nat} (h:S a=S b):a=b:=by
 have:a.toArray=b.toArray:=by injection h
 simpa using this
theorem yT (a b:List Nat):S a++S b=S (a++b):=by
 show (⟨a.toArray++b.toArray⟩:Str)=⟨(a++b).toArray⟩
 simp
theorem uD (a:List Nat):(S a).length=a.length:=by
 show a.toArray.size=_
 simp
theorem GB (a:List Nat):(S a).cps.toList=a:=rfl
theorem AJ (k:Nat) (l:List Nat):∀acc:List Nat,(List.replicate k l.toArray).foldl (·++·) acc.toArray=(acc++(List.replicate k l).flatten).toArray:=by
 induction k with
 | zero=>intro acc;simp
 | succ k ih=>
  intro acc
  rw [List.replicate_succ,List.foldl_cons,List.replicate_succ,List.flatten_cons]
  have:acc.toArray++l.toArray=(acc++l).toArray:=by simp
  rw [this,ih,List.append_assoc]
theorem vC:∀ls:List (List Nat),Str.join (S []) (ls.map S)=S ls.flatten
 | []=>rfl
 | [a]=>by
  show S a=S (a++[])
  rw [List.append_nil]
 | a :: b :: r=>by
  have e:Str.join (S []) ((a :: b :: r).map S)=S a++S []++Str.join (S []) ((b :: r).map S):=rfl
  rw [e,vC (b :: r),yT,yT,List.append_nil]
  rfl
section
variable {X:Cx}{K:PySem.W.Frag}
inductive EQ (x:V) (y:V) (H:Hp) (Q:VK):Prop
 | mk (l:_) (n:_) (h0:x=.str (S l)) (h1:y=.int n) (h2:1≤n) (h3:n≤1000) (h4:l.length≤100) (h5:Q (.str (S (List.replicate n.toNat l).flatten)) H)
def Hq:R2:=fun x y H Q=>EQ  x y H Q
theorem yj:cB X (binaryOp .Mult) Hq:=by
 intro pins s σ H x y v u Q I rx ry h
 obtain ⟨l,n,rfl,rfl,h1,h2,h3,q⟩:=h
 obtain ⟨t,rfl⟩:=rx
 obtain ⟨t',rfl⟩:=ry
 have hlen:(S l).length=l.length:=uD l
 have hmul:l.length*n.toNat≤100*1000:=Nat.mul_le_mul h3 (by trivial)
 refine PySem.P.mul_str ?_ ?_ ?_ ?_
 ·rw [decide_eq_false (by trivial),decide_eq_false (by trivial)];rfl
 ·intro _ _
  rw [hlen]
  have:(100:Int)<(2 ^ 63 - 1) / n:=by
   have:(100+1)*n≤2 ^ 63 - 1:=by trivial
   have:=(Int.le_ediv_iff_mul_le (by trivial:0<n)).mpr this
   trivial
  trivial
 ·intro _ _
  rw [hlen]
  unfold Builtin.Str.tooLong
  rw [decide_eq_false]
  rw [sizeLine_eq]
  trivial
 ·rw [if_neg (by trivial)]
  by_cases hn:(n==1 || (S l).length==0)=true
  ·rw [if_pos hn]
   refine ⟨.str (S l),H,I,⟨t,rfl⟩,?_⟩
   have e:(List.replicate n.toNat l).flatten=l:=by
    rw [hlen] at hn
    have hn':n=1∨l.length=0:=by simpa using hn
    rcases hn' with rfl | hn'
    ·simp
    ·have:l=[]:=List.eq_nil_of_length_eq_zero hn'
     subst this
     simp
   rw [e] at q
   exact q
  ·rw [if_neg hn]
   have e:(⟨(List.replicate n.toNat (S l).cps).foldl (·++·) #[]⟩:Str)=S (List.replicate n.toNat l).flatten:=by
    have e:=AJ n.toNat l []
    rw [List.nil_append] at e
    exact congrArg Str.mk e
   rw [e]
   refine ⟨?_,.str (S (List.replicate n.toNat l).flatten),H,I.tok _,⟨_,rfl⟩,q⟩
   rw [uD,yP,sizeLine_eq,Nat.mul_comm]
   trivial
inductive Gs (K:PySem.W.Frag) (x:V) (vs:List V) (H:Hp) (Q:VK):Prop
 | mk (a:_) (ls:_) (h0:x=.str (S [])) (h1:vs=[.ref a]) (h2:am K H a ((ls:List (List Nat)).map fun l=>V.str (S l))) (h3:(ls.map (·.length)).sum≤10000) (h4:Q (.str (S ls.flatten)) H)
def HL (K:PySem.W.Frag):V→List V→Hp→VK→Prop:=fun x vs H Q=>Gs K x vs H Q
theorem Ai {ls:List (List Nat)}:∀{us:List Value},aC (ls.map fun l=>V.str (S l)) us→StrsAre us (ls.map S):=by
 induction ls with
 | nil=>intro us h;cases h;exact .nil
 | cons l r ih=>
  intro us h
  cases h with
  | cons h t=>
   obtain ⟨tk,rfl⟩:=h
   exact .cons _ _ (ih t)
theorem DQ (ek:X.K=K:=by rfl):Ag X "str.join" (HL K):=by
 subst ek
 intro pins s σ H x vs v us Q I rx rv h
 obtain ⟨a,ls,rfl,rfl,hS,hz,q⟩:=h
 obtain ⟨t,rfl⟩:=rx
 obtain ⟨u,rfl,ru⟩:=rv.one
 obtain rfl:u=Value.ref a:=ru
 obtain ⟨its,r,ht,_⟩:=I.list hS
 have e1:((ls.map S).map (·.length)).sum=(ls.map (·.length)).sum:=by
  rw [List.map_map]
  congr 1
 refine join_list (ys:=ls.map S) ht.isList (by simpa using Ai r) ?_ fun t' k=>?_
 ·rw [e1,show (S []).length=0 from rfl]
  trivial
 ·have:=join_plain_closes (S []) (ls.map S)
  rw [eq_of_beq this,vC]
  exact ⟨.str (S ls.flatten),H,I.tok k,⟨_,rfl⟩,q⟩
inductive E5 (x:V) (y:V) (H:Hp) (Q:VK):Prop
 | mk (a:_) (b:_) (h0:x=.str (S a)) (h1:y=.str (S b)) (h2:a.length+b.length≤10000) (h3:Q (.str (S (a++b))) H)
def GP:R2:=fun x y H Q=>E5  x y H Q
theorem yM:cB X (binaryOp .Add) GP:=fun pins s σ H x y v u Q I rx ry ⟨a,b,e1,e2,hz,q⟩=>
 yQ pins s σ H x y v u Q I rx ry ⟨S a,S b,e1,e2,by rw [uD,uD];exact jx hz,by rw [yT];exact q⟩
end
theorem y8:Str.ofString "abcdefghijklmnopqrstuvwxyz" = S ((List.range 26).map (97+·)):=by decide +kernel
theorem BM:Str.ofString "" = S []:=by decide +kernel
theorem vE {i:Int} (h0:-26≤i) (h1:i<26):gO ((Str.ofString "abcdefghijklmnopqrstuvwxyz").cps.toList) i=some (97+(i % 26).toNat):=by
 rw [y8,GB]
 have:∀k:Fin 52,gO ((List.range 26).map (97+·)) ((k.val:Int) - 26)=some (97+(((k.val:Int) - 26) % 26).toNat):=by decide +kernel
 have e:=this ⟨(i+26).toNat,by trivial⟩
 simp only at e
 rw [show (((i+26).toNat:Nat):Int) - 26=i by trivial] at e
 exact e
theorem Fo {f:Int}{j k:Nat} (hj:j<26) (hk:k<26) (h:(f+11*(j:Int)) % 26=(f+11*(k:Int)) % 26):j=k:=by trivial
end L2
namespace L2
open PySem PySem.Spec PyProof.Rows
structure ir (l:List Nat):Prop where
 lo:1≤l.length
 hi:l.length≤8
 az:∀c∈l,97≤c∧c≤122
abbrev af (l:List Nat):V:=.str (S l)
def nm (c k:Nat):List Nat:=List.replicate (1+k) c
theorem Cf (n c:Nat):(List.replicate n [c]).flatten=List.replicate n c:=by
 induction n with
 | zero=>rfl
 | succ n ih=>rw [List.replicate_succ,List.flatten_cons,ih,List.replicate_succ];rfl
theorem HE {c k:Nat} (hk:k<8) (h1:97≤c) (h2:c≤122):ir (nm c k):=⟨by simp [nm],by simp [nm];trivial,fun d hd=>by
 have:=List.eq_of_mem_replicate hd
 trivial⟩
theorem mW {xs:List V}{m:Int} (h:0≤m):iU xs none (some m)=xs.take m.toNat:=by
 unfold iU
 have e:m=((m.toNat:Nat):Int):=by trivial
 rw [HT.sIx_none,e,HT.sIx_nat]
 simp only [Int.toNat_natCast,List.drop_zero,Nat.sub_zero]
 by_cases hm:m.toNat≤xs.length
 ·rw [Nat.min_eq_left hm]
 ·rw [Nat.min_eq_right (by trivial),List.take_of_length_le (Nat.le_refl _),List.take_of_length_le (by trivial)]
theorem yf {ls:List (List Nat)}{f:Int} (hl:ls.length≤26) (h:∀(j:Nat) (l:List Nat),ls[j]?=some l→l.head?=some (97+((f+11*(j:Int)) % 26).toNat)):ls.Nodup:=by
 rw [List.nodup_iff_pairwise_ne,List.pairwise_iff_getElem]
 intro i j hi hj hij e
 have h1:=h i ls[i] (List.getElem?_eq_getElem hi)
 have h2:=h j ls[j] (List.getElem?_eq_getElem hj)
 rw [e,h2] at h1
 injection h1 with h1
 have a1:=Int.emod_nonneg (f+11*(i:Int)) (by decide:(26:Int)≠0)
 have a2:=Int.emod_nonneg (f+11*(j:Int)) (by decide:(26:Int)≠0)
 have:=Fo (f:=f) (j:=i) (k:=j) (by trivial) (by trivial) (by trivial)
 trivial
theorem aO.ch {b D:Addr}{H H1 H2:Hp}{xs:List V} (s:aO (Eb b) H H1) (c:Ch H1 D xs H2) (hD:H D=none):aO (Eb b) H H2:=
 ⟨fun a u ne h=>c.ol a u (aR h hD) (s.old a u ne h),fun a us h=>c.ol a _ (aR h hD) (s.tup a us h)⟩
theorem aO.up {b D:Addr}{H H1:Hp}{o:HO} (s:aO (Eb b) H H1) (hD:H D=none):aO (Eb b) H (aD H1 D o):=
 ⟨fun a u ne h=>by rw [aj (aR h hD)];exact s.old a u ne h,fun a us h=>by rw [aj (aR h hD)];exact s.tup a us h⟩
end L2
namespace L2
open PySem PySem.Spec PyProof.Rows
def Fk (x:Str):Prop:=x.length≤300∧∀c∈x.cps.toList,c<128
mutual
inductive Wt:PyData→Nat→Nat→Prop
 | non {k:Nat}:Wt .none 1 k
 | bl (b:Bool) {k:Nat}:Wt (.bool b) 1 k
 | int {i:Int} (h:Sz 1900 i) {k:Nat}:Wt (.int i) 1 k
 | str {x:Str} (h:Fk x) {k:Nat}:Wt (.str x) 1 k
 | list {xs:List PyData}{n k:Nat} (h:cR xs n k):Wt (.list xs) (n+1) (k+1)
 | tuple {xs:List PyData}{n k:Nat} (h:cR xs n k):Wt (.tuple xs) (n+1) (k+1)
inductive cR:List PyData→Nat→Nat→Prop
 | nil {k:Nat}:cR [] 0 k
 | cons {x:PyData}{xs:List PyData}{m n k:Nat} (h:Wt x m k) (r:cR xs n k):cR (x :: xs) (m+n) k
end
mutual
theorem Wt.deep:∀{d:PyData}{n k:Nat},Wt d n k→∀{l:Nat},k≤l→Wt d n l
 | _,_,_,.non,_,_=>.non
 | _,_,_,.bl b,_,_=>.bl b
 | _,_,_,.int h,_,_=>.int h
 | _,_,_,.str h,_,_=>.str h
 | _,_,_,.list h,l,hl=>by
  obtain ⟨m,rfl⟩:∃m,l=m+1:=⟨l - 1,by trivial⟩
  exact .list (cR.deep h (by trivial))
 | _,_,_,.tuple h,l,hl=>by
  obtain ⟨m,rfl⟩:∃m,l=m+1:=⟨l - 1,by trivial⟩
  exact .tuple (cR.deep h (by trivial))
theorem cR.deep:∀{ds:List PyData}{n k:Nat},cR ds n k→∀{l:Nat},k≤l→cR ds n l
 | _,_,_,.nil,_,_=>.nil
 | _,_,_,.cons h r,_,hl=>.cons (Wt.deep h hl) (cR.deep r hl)
end
theorem Wt.pos {d:PyData}{n k:Nat} (h:Wt d n k):1≤n:=by cases h <;> trivial
mutual
theorem Wt.dep:∀{d:PyData}{n k:Nat},Wt d n k→d.depth≤k
 | _,_,_,.non=>by simp [PyData.depth]
 | _,_,_,.bl b=>by simp [PyData.depth]
 | _,_,_,.int h=>by simp [PyData.depth]
 | _,_,_,.str h=>by simp [PyData.depth]
 | _,_,_,.list h=>by simp only [PyData.depth];exact Nat.succ_le_succ (cR.dep h)
 | _,_,_,.tuple h=>by simp only [PyData.depth];exact Nat.succ_le_succ (cR.dep h)
theorem cR.dep:∀{ds:List PyData}{n k:Nat},cR ds n k→PyData.depthAll ds≤k
 | _,_,_,.nil=>by simp [PyData.depthAll]
 | _,_,_,.cons h r=>by simp only [PyData.depthAll];exact Nat.max_le.mpr ⟨Wt.dep h,cR.dep r⟩
end
mutual
theorem Wt.sho:∀{d:PyData}{n k:Nat},Wt d n k→d.showable=true
 | _,_,_,.non=>by simp [PyData.showable]
 | _,_,_,.bl b=>by simp [PyData.showable]
 | _,_,_,.int (i:=i) h=>by
  simp only [PyData.showable,decide_eq_true_iff]
  by_cases h0:i=0
  ·subst h0;decide
  ·exact Nat.lt_trans (h.log h0) (by decide)
 | _,_,_,.str h=>by simp [PyData.showable]
 | _,_,_,.list h=>by simp only [PyData.showable];exact cR.sho h
 | _,_,_,.tuple h=>by simp only [PyData.showable];exact cR.sho h
theorem cR.sho:∀{ds:List PyData}{n k:Nat},cR ds n k→PyData.showableAll ds=true
 | _,_,_,.nil=>by simp [PyData.showableAll]
 | _,_,_,.cons h r=>by simp only [PyData.showableAll,Bool.and_eq_true];exact ⟨Wt.sho h,cR.sho r⟩
end
mutual
theorem Wt.nod:∀{d:PyData}{n k:Nat},Wt d n k→d.hasDict=false
 | _,_,_,.non=>by simp [PyData.hasDict]
 | _,_,_,.bl b=>by simp [PyData.hasDict]
 | _,_,_,.int h=>by simp [PyData.hasDict]
 | _,_,_,.str h=>by simp [PyData.hasDict]
 | _,_,_,.list h=>by simp only [PyData.hasDict];exact cR.nod h
 | _,_,_,.tuple h=>by simp only [PyData.hasDict];exact cR.nod h
theorem cR.nod:∀{ds:List PyData}{n k:Nat},cR ds n k→PyData.hasDictAll ds=false
 | _,_,_,.nil=>by simp [PyData.hasDictAll]
 | _,_,_,.cons h r=>by simp only [PyData.hasDictAll,Bool.or_eq_false_iff];exact ⟨Wt.nod h,cR.nod r⟩
end
mutual
theorem Wt.len:∀{d:PyData}{n k:Nat},Wt d n k→d.shown.length+2≤3010*n
 | _,_,_,.non=>by
  rw [PyData.shown]
  decide +kernel
 | _,_,_,.bl b=>by
  rw [PyData.shown]
  cases b <;> decide +kernel
 | _,_,_,.int (i:=i) h=>by
  rw [PyData.shown]
  have hl:i.natAbs.log2<1920:=by
   by_cases h0:i=0
   ·subst h0;decide
   ·exact Nat.lt_trans (h.log h0) (by decide)
  have:=int_text_len_1921 hl
  trivial
 | _,_,_,.str (x:=x) h=>by
  rw [PyData.shown]
  have:=PySem.StrLaws.reprText_len x (fun c hc=>Nat.lt_trans (h.2 c hc) (by decide))
  have:=h.1
  trivial
 | _,_,_,.list (xs:=xs) (n:=n) h=>by
  rw [PyData.shown]
  have h1:=listText_len_le (PyData.shownAll xs)
  have h2:=cR.len h
  trivial
 | _,_,_,.tuple (xs:=xs) (n:=n) h=>by
  rw [PyData.shown]
  have h1:=tupleText_len_le (PyData.shownAll xs)
  have h2:=cR.len h
  trivial
theorem cR.len:∀{ds:List PyData}{n k:Nat},cR ds n k→((PyData.shownAll ds).map (·.length)).sum+2*(PyData.shownAll ds).length≤3010*n
 | _,_,_,.nil=>by simp [PyData.shownAll]
 | _,_,_,.cons (x:=x) (xs:=xs) (m:=m) (n:=n) h r=>by
  rw [PyData.shownAll,List.map_cons,List.sum_cons,List.length_cons]
  have h1:=Wt.len h
  have h2:=cR.len r
  have h3:=h.pos
  trivial
end
end L2
namespace L2
open PySem PySem.Spec PyProof.Rows
mutual
theorem Wt.can:∀{d:PyData}{n k:Nat},Wt d n k→d.canLay0=true
 | _,_,_,.non=>by simp [PyData.canLay0]
 | _,_,_,.bl b=>by simp [PyData.canLay0]
 | _,_,_,.int h=>by simp [PyData.canLay0]
 | _,_,_,.str (x:=x) h=>by
  simp only [PyData.canLay0]
  unfold PySem.PyData.strOk
  rw [Array.all_eq_true]
  intro i hi
  have:=h.2 x.cps[i] (by simp)
  simp
  trivial
 | _,_,_,.list h=>by simp only [PyData.canLay0];exact cR.can h
 | _,_,_,.tuple h=>by simp only [PyData.canLay0];exact cR.can h
theorem cR.can:∀{ds:List PyData}{n k:Nat},cR ds n k→PyData.canLayAll0 ds=true
 | _,_,_,.nil=>by simp [PyData.canLayAll0]
 | _,_,_,.cons h r=>by simp only [PyData.canLayAll0,Bool.and_eq_true];exact ⟨Wt.can h,cR.can r⟩
end
section
variable {X:Cx}
inductive Ho (ne:Bool) (x:V) (y:V) (H:Hp) (Q:VK):Prop
 | mk (d e:PyData) (E F:Addr→Prop) (m n k l:Nat) (h0:aU E H x d) (h1:aU F H y e) (h2:Wt d m k) (h3:Wt e n l) (h4:k≤60) (h5:Q (.bl (if ne then !PyData.eqv d e else PyData.eqv d e)) H)
def FA (ne:Bool):R2:=fun x y H Q=>Ho ne x y H Q
theorem xK (hu:X.A.units+64<cLine):cB X (compareOp .Eq) (FA false):=by
 intro pins s σ H x y v u Q I rx ry h
 obtain ⟨d,e,E,F,m,n,k,l,hd,he,wd,we,hk,q⟩:=h
 obtain ⟨as,ra⟩:=hd.reads I.hok rx
 obtain ⟨bs,rb⟩:=he.reads I.hok ry
 exact PySem.SeqAt.compareEq_reads ra rb wd.can we.can (by have:=wd.dep;trivial) ⟨.bl _,H,I,rfl,q⟩
theorem FF (hu:X.A.units+64<cLine):cB X (compareOp .NotEq) (FA true):=by
 intro pins s σ H x y v u Q I rx ry h
 obtain ⟨d,e,E,F,m,n,k,l,hd,he,wd,we,hk,q⟩:=h
 obtain ⟨as,ra⟩:=hd.reads I.hok rx
 obtain ⟨bs,rb⟩:=he.reads I.hok ry
 exact PySem.SeqAt.compareNe_reads ra rb wd.can we.can (by have:=wd.dep;trivial) ⟨.bl _,H,I,rfl,q⟩
inductive Ff (xs:List V) (H:Hp) (Q:VK):Prop
 | mk (a:Addr) (d:PyData) (E:Addr→Prop) (n k:Nat) (h0:xs=[.ref a]) (h1:aU E H (.ref a) d) (h2:Wt d n k) (h3:n≤5500) (h4:k≤50) (h5:Q (.str d.shown) H)
def Ii:List V→Hp→VK→Prop:=fun xs H Q=>Ff  xs H Q
theorem vI {k:Nat} (hr:cN k X.A):cn X (.type "str") Ii:=fun pins s σ H xs us Q I r ⟨a,d,E,n,k,e,hd,w,hn,hk,q⟩=>
 vU hr pins s σ H xs us Q I r ⟨a,d,E,e,hd,w.sho,w.nod,by have:=w.dep;trivial,by have:=w.len;rw [sizeLine_eq];trivial,q⟩
end
abbrev ED:Addr→Prop:=fun _=>True
abbrev kR (p:KM.Fra):PyData:=.tuple [.int p.1,.int p.2]
structure aa where
 bg:List Nat
 en:List Nat
 most:KM.Fra
 gain:KM.Fra
 price:KM.Fra
abbrev kM (t:aa):PyData:=.tuple [.str (S t.bg),.str (S t.en),kR t.most,kR t.gain,kR t.price]
abbrev dD (ls:List (List Nat)) (ts:List aa):PyData:=.tuple [.tuple (ls.map fun l=>.str (S l)),.tuple (ts.map kM)]
theorem mQ {H:Hp}{o:Addr}{p:KM.Fra} (h:H o=some (.tup [.int p.1,.int p.2])):aU ED H (.ref o) (kR p):=.tup h (.cons (.int _) (.cons (.int _) .nil))
theorem rV {E:Addr→Prop}{H:Hp}{v:V}{p:KM.Fra} (h:aU E H v (kR p)):∃o,v=.ref o∧H o=some (.tup [.int p.1,.int p.2]):=by
 cases h with
 | @tup a xs _ h r=>
  cases r with
  | cons h1 r=>
  cases r with
  | cons h2 r=>
  cases r
  cases h1
  cases h2
  exact ⟨a,rfl,h⟩
theorem aU.tupS {E F:Addr→Prop}{H H':Hp}{v:V}{d:PyData} (h:aU ED H v d) (k:aO E H H'):aU ED H' v d:=h.mono ⟨fun _ _ n _=>absurd trivial n,k.tup⟩
theorem aI.tupS {E:Addr→Prop}{H H':Hp}{v:List V}{d:List PyData} (h:aI ED H v d) (k:aO E H H'):aI ED H' v d:=h.mono ⟨fun _ _ n _=>absurd trivial n,k.tup⟩
theorem aU.tupC {H H':Hp}{v:V}{d:PyData}{p:Addr}{xs ys:List V} (h:aU ED H v d) (k:Ch H p xs H') (hp:H p=some (.lst ys)):aU ED H' v d:=h.mono ⟨fun _ _ n _=>absurd trivial n,fun _ _ e=>k.tup e hp⟩
theorem aU.sm {E:Addr→Prop}{H H':Hp}{v:V}{d:PyData} (h:aU E H v d) (k:ah H H'):aU E H' v d:=h.mono k.toE
theorem aU.any {E:Addr→Prop}{H:Hp}{v:V}{d:PyData} (h:aU ED H v d):aU E H v d:=h.narrow fun _ _=>trivial
theorem xH {H:Hp}:∀ls:List (List Nat),aI ED H (ls.map af) (ls.map fun l=>.str (S l))
 | []=>.nil
 | _ :: r=>.cons (.str _) (xH r)
theorem mR {l:List Nat} (h:ir l):Fk (S l):=⟨by rw [uD];have:=h.hi;trivial,fun c hc=>by have:=h.az c hc;trivial⟩
theorem oi {α:Type}{f:α→PyData}{m k:Nat}:∀{xs:List α},(∀x∈xs,Wt (f x) m k)→cR (xs.map f) (m*xs.length) k
 | [],_=>.nil
 | x :: r,h=>by
  have e:m*(x :: r).length=m+m*r.length:=by rw [List.length_cons,Nat.mul_succ,Nat.add_comm]
  rw [e]
  exact .cons (h x (by simp)) (oi fun y hy=>h y (List.mem_cons_of_mem _ hy))
end L2
namespace L2
open PySem PySem.Spec PyProof.Rows
inductive E7 (c:Nat) (lo:Int) (vs:List V) (H:Hp) (Q:VK):Prop
 | mk (b:Addr) (t:Int) (h0:vs=[.ref b]) (h1:Bx H b t) (h2:0≤t) (h3:t≤900000) (h4:∀o n d t' H',aO (Eb b) H H'→H' o=some (.tup [.int n,.int d])→Fb c n d→lo≤n→Bx H' b t'→t≤t'→t'≤t+6→Q (.ref o) H')
def HW (c:Nat) (lo:Int):Sp:=fun vs H Q _=>E7 c lo vs H Q
theorem DS {n d:Int} (hn:1≤n) (hn2:n≤60) (hd:1≤d) (hd2:d≤60):Fb 6 (KM.low n d).1 (KM.low n d).2∧1≤(KM.low n d).1:=by
 have a:Sz 6 n:=by show n.natAbs<64;trivial
 have b:Sz 6 d:=by show d.natAbs<64;trivial
 refine ⟨Fb.low a b (by trivial),?_⟩
 have:=(KM.low_sgn (n:=n) (d:=d) (by trivial)).1.mpr (by trivial)
 trivial
theorem Iy {c:Bool}{a b:Int}{σ:St}{H:Hp}{Q:VK} (h:Q (.int (if c=true then a else b)) H):if c=true then tC (.int a) σ H Q else tC (.int b) σ H Q:=by
 cases c with
 | true=>exact bh h
 | false=>exact aM h
theorem mB {m:Int} (h0:0<m) (h1:m<1099511627776):m.natAbs.log2<9000:=by
 have a:Sz 40 m:=by show m.natAbs<1099511627776;trivial
 exact Nat.lt_trans (a.log (by trivial)) (by decide)
end L2
namespace L2
open PySem PySem.Spec PyProof.Rows
theorem yq {n f r:Int} (h0:0≤f) (h1:f<n) (r0:0≤r) (r1:r<n - 1):0≤(f+1+r) % n∧(f+1+r) % n<n∧(f+1+r) % n≠f:=by
 have hn:0<n:=by trivial
 refine ⟨Int.emod_nonneg _ (by trivial),Int.emod_lt_of_pos _ hn,?_⟩
 by_cases h:f+1+r<n
 ·rw [Int.emod_eq_of_lt (by trivial) h];trivial
 ·have e:(f+1+r) % n=f+1+r - n:=by
   have h2:(f+1+r) % n=(f+1+r - n) % n:=by rw [Int.sub_emod_right]
   rw [h2,Int.emod_eq_of_lt (by trivial) (by trivial)]
  rw [e];trivial
theorem oU {α:Type}{xs:List α}{k:Int}{f:α→V} (h0:0≤k) (h:k.toNat<xs.length):gO (xs.map f) k=some (f xs[k.toNat]):=by
 have q:=cY (xs:=xs.map f) (j:=k.toNat) (v:=f xs[k.toNat]) (by rw [List.getElem?_map];simp [h])
 rwa [Int.toNat_of_nonneg h0] at q
end L2
namespace L2
theorem i0 {α:Type}{ls:List α} (h:ls.Nodup) {i j:Nat} (hi:i<ls.length) (hj:j<ls.length) (e:ls[i]=ls[j]):i=j:=by
 have p:=List.pairwise_iff_getElem.mp h
 rcases Nat.lt_trichotomy i j with q | q | q
 ·exact absurd e (p i j hi hj q)
 ·exact q
 ·exact absurd e.symm (p j i hj hi q)
end L2
namespace L2
open PySem PySem.Spec PyProof.Rows
theorem EU {c:Bool}{ta tb:TE}{σ:St}{H:Hp}{Q:VK} (I:V→Hp→Prop) (rest:∀v H',I v H'→Q v H') (h1:c=true→(∀v H',I v H'→Q v H')→ta σ H Q) (h2:c=false→(∀v H',I v H'→Q v H')→tb σ H Q) :
 if c=true then ta σ H Q else tb σ H Q:=by
 cases c with
 | true=>exact bh (h1 rfl rest)
 | false=>exact aM (h2 rfl rest)
end L2
namespace L2
end L2
namespace L2
open PySem PySem.Spec PyProof.Rows
theorem aI.take {E:Addr→Prop}{H:Hp}:∀{xs:List V}{ds:List PyData} (n:Nat),aI E H xs ds→aI E H (xs.take n) (ds.take n)
 | _,_,0,_=>by simp;exact .nil
 | _,_,_+1,.nil=>by simp;exact .nil
 | _,_,n+1,.cons h r=>by simp;exact .cons h (aI.take n r)
end L2
namespace L2
open PySem PySem.Spec PyProof.Rows
open AutoSeq1 (wpAny_loadPart')
set_option maxHeartbeats 4000000 in
theorem BE (l:Addr) (its:Array Value) (n:Nat) (dct:Option Addr) (sl:Array (Option Value)) :
 Meets (Builtin.«enumerate.__new__» ⟨[.type "enumerate",.ref l],[]⟩) (fun _ R s=>s.heap.get? l=some { cls:=.type "tuple",dict:=dct,data:=.seq its n,slots:=sl }∧
  R (.ok (.ret (.ref (s.heap.push { cls:=.type "tuple_iterator",data:=.fields #[.ref l,.int 0 0] }).objs.size))) { s with heap:=(s.heap.push { cls:=.type "tuple_iterator",data:=.fields #[.ref l,.int 0 0] }).push { cls:=.type "enumerate",data:=.fields #[.none,.bool false,.ref s.heap.objs.size,rawInt 0,.none,.none] } }):=
 .of_wp fun prog w A R s h=>by
  obtain ⟨hp,g,d,tk,os⟩:=s;obtain ⟨hl,h⟩:=h;have hsub:=sub_enumerate
  have hT:Heap.IsTuple (Shared.heap ⟨hp,g,d,tk,os⟩) l its:=⟨_,hl,rfl,n,rfl⟩
  wp_walk using wpAny_loadPart' hl
  refine wpAny_stack_any fun st=>wpAny_pure ?_;split
  ·rename_i c _ _ _ _ _;cases (c==Value.type "enumerate")
   ·wp_walk using wpAny_loadPart' hl,wpAny_pyIter_tuple hT
    exact ⟨_,rfl,h⟩
   ·wp_walk using wpAny_loadPart' hl,wpAny_pyIter_tuple hT
    exact ⟨_,rfl,h⟩
  ·wp_walk using wpAny_loadPart' hl,wpAny_pyIter_tuple hT
   exact ⟨_,rfl,h⟩
section
variable {prog:Program}{w:World}{A:Around}{E:Value→Shared→Prop}{s:Shared}
theorem zx {l:Addr}{its:Array Value}{Q:Value→Shared→Prop}:∀{c:Bool},bU s.heap l its c→
 (∀h',IsEnum h' (s.heap.objs.size+1) s.heap.objs.size 0 .none→bM h' s.heap.objs.size l 0 c→(∀b o,s.heap.get? b=some o→h'.get? b=some o)→Q (.ref (s.heap.objs.size+1)) { s with heap:=h' })→
 wpAny (model prog w) A (call (.type "enumerate") [.ref l]) Q E s
 | true,q,h=>call_enumerate_list q fun h' a b _ k=>h h' a b k
 | false,q,h=>by
  obtain ⟨⟨c,dct,dt,sl⟩,hl,hc,n,hd⟩:=q
  dsimp only at hc hd
  subst hc hd
  refine callType_new F.called_enumerate (by decide) (F.typeCall_enumerate_1 _) (F.newCall_enumerate_1 _) (fun obj=>F.args_object_init_2 obj _) F.entry_enumerate_new (BE l its n dct sl) ⟨hl,?_⟩
  have hz:(s.heap.push { cls:=.type "tuple_iterator",data:=.fields #[.ref l,.int 0 0] }).objs.size=s.heap.objs.size+1:=Heap.size_push ..
  show _∧_
  rw [hz]
  have he:IsEnum ((s.heap.push { cls:=.type "tuple_iterator",data:=.fields #[.ref l,.int 0 0] }).push { cls:=.type "enumerate",data:=.fields #[.none,.bool false,.ref s.heap.objs.size,rawInt 0,.none,.none] }) (s.heap.objs.size+1) s.heap.objs.size 0 .none:=by
   rw [←hz];exact Heap.get?_push_size _ rfl
  exact ⟨⟨_,he,rfl⟩,h _ he ⟨_,Heap.get?_push_of_some _ (Heap.get?_push_size _ rfl),rfl,rfl⟩ fun b o e=>Heap.get?_push_of_some _ (Heap.get?_push_of_some _ e)⟩
end
def wZ (K:PySem.W.Frag) (a:Addr) (c:Bool):It:=
 ⟨fun i H=>aW fun xs x=>kY K H a xs c∧xs[i]?=some x,fun i H v H'=>aW fun T x=>H T=none∧v=.ref T∧H'=aD H T (.tup [.int (i:Int),x])∧∀xs,kY K H a xs c→xs[i]?=some x,fun i H=>∃xs,kY K H a xs c∧xs.length=i⟩
theorem zk {P:Program}{w:World}{K:PySem.W.Frag}{es:List Expr}{kk:Nat}{pos:Pos} (a e it:Addr) (c:Bool) (hne:e≠it) (hae:a≠e) (hai:a≠it) :
 tE P w K (.Tuple es kk pos) (wZ K a c) [e,it] e (fun i h=>(∃old,IsEnum h e it i old)∧bM h it a i c) where
 mem:=by simp
 obj:=fun i h st b hb=>by
  obtain ⟨⟨old,he⟩,hi⟩:=st
  have hb':b=e∨b=it:=by simpa using hb
  rcases hb' with rfl | rfl
  ·exact ⟨_,he,fun v z=>by have z':Data.fields _=Data.cell v:=z;cases z'⟩
  ·exact hi.some
 keep:=fun i h h' st k=>by
  obtain ⟨⟨old,he⟩,hi⟩:=st
  exact ⟨⟨old,k e (by simp) _ he⟩,hi.at fun o q=>k it (by simp) o q⟩
 item:=by
  intro X hP hw hK hc i pins s σ H E I hf st hg
  subst hP hw hK
  obtain ⟨⟨old,he⟩,hit⟩:=st
  obtain ⟨xs,x,hq,hx⟩:=hg
  obtain ⟨its,rv,p⟩:=I.seqC hq
  obtain ⟨u,hu,ru⟩:=rv.get hx
  have hnT:H s.heap.objs.size=none:=I.fresh
  have hiu:i<its.length:=(List.getElem?_eq_some_iff.mp hu).1
  have D:=fP (prog:=X.prog) (w:=X.w) (A:=X.A.in1) (I.ok.hd hc) it a hai its.toArray c
  refine wpAny_pyNext_enum_itemD D he ⟨hit,p⟩ (by simpa using hiu) hne (by simp;exact ⟨hne,Ne.symm hae⟩) fun u' h' tk hP ho st' hT hsz hk=>?_
  have eu:u=u':=by
   have:its.toArray[i]?=some u':=hP
   rw [List.getElem?_toArray,hu] at this
   exact Option.some.inj this
  subst eu
  refine ⟨_,rfl,wpAny_letOwnedTupleGo_enum (s:={ s with heap:=h',toks:=tk+1 }) ho fun h'' he'' hs''=>?_⟩
  have helt:e<s.heap.objs.size:=Heap.lt_size he
  have hilt:it<s.heap.objs.size:=let ⟨_,y,_⟩:=hit.some;Heap.lt_size y
  have hT'':h''.get? s.heap.objs.size=some { cls:=.type "tuple",data:=.seq #[.int i tk,u] }:=(hs''.2 _ (Nat.ne_of_gt helt)).trans hT
  refine ⟨.ref s.heap.objs.size,aD H s.heap.objs.size (.tup [.int (i:Int),x]),I.turnedNew (ch:=[e,it]) (t':=tk+1) hf (fun b o hb q=>?_) (Nat.le_refl _) ?_,rfl,⟨_,x,hnT,rfl,rfl,fun ys hy=>by rw [I.seqC_inj hy hq];exact hx⟩,⟨⟨u,?_⟩,st'.1.at fun o q=>(hs''.2 _ (Ne.symm hne)).trans q⟩,fun b hb=>?_⟩
  ·have h1:b≠e:=fun z=>hb (by simp [z])
   have h2:b≠it:=fun z=>hb (by simp [z])
   exact (hs''.2 b h1).trans (hk b o h1 h2 q)
  ·exact ⟨by show 2≤sizeLine;decide,[.int i tk,u],.cons ⟨_,rfl⟩ (.cons ru .nil),⟨_,hT'',rfl,_,rfl⟩,_,hT'',rfl⟩
  ·simpa using he''
  ·have hb':b=e∨b=it:=by simpa using hb
   have hlt:b<s.heap.objs.size:=by rcases hb' with rfl | rfl <;> assumption
   rw [aj (Nat.ne_of_lt hlt)]
   exact (hf b hb).1
 done:=by
  intro X hP hw hK hc i pins s σ H E I hf st hg
  subst hP hw hK
  obtain ⟨⟨old,he⟩,hit⟩:=st
  obtain ⟨xs,hq,hx⟩:=hg
  obtain ⟨its,rv,p⟩:=I.seqC hq
  have hl:=rv.length
  have D:=fP (prog:=X.prog) (w:=X.w) (A:=X.A.in1) (I.ok.hd hc) it a hai its.toArray c
  have ei:i=its.toArray.size:=by simp;trivial
  refine wpAny_pyNext_enum_endD D he (by rw [ei] at hit;exact ⟨hit,p⟩) fun h' eb=>⟨rfl,I.turnedL (ch:=[e,it]) (t':=s.toks) hf fun b o hb q=>eb b o (fun z=>hb (by simp [z])) q⟩
 self:=fun _ _ _ _ _ st h=>by
  obtain ⟨⟨old,he⟩,_⟩:=st
  exact wpAny_pyIter_enum he h
def EI (K:PySem.W.Frag) (ta:TA):TI:=fun σ H R=>ta σ H fun vs H1=>aW fun a c=>vs=[.ref a]∧(∃xs,kY K H1 a xs c)∧R (wZ K a c) H1
theorem xM {X:Cx}{K:PySem.W.Frag}{es:List Expr}{kk:Nat}{tp:Pos}{a:Expr}{ta:TA}{p pos:Pos} (hg:Gl X "enumerate") (hm:X.mg "enumerate" = none) (ha:PA X [a] ta) (hs:starEach [a] X.env=[(false,eval a X.env)]:=by rfl) (ek:X.K=K:=by rfl) :
 PI X (.Tuple es kk tp) (.Call (.Name "enumerate" p) [a] [] pos) (EI K ta):=by
 subst ek
 intro pins s σ H R I h
 refine Call_ (gZ I hg hm boot_enumerate (PyProof.Rows.callWith_type1 (aK (ha pos pins s σ H _ I h) fun us s1 ⟨vs,H1,I1,r1,q1⟩=>?_) hs rfl))
 obtain ⟨a,c,rfl,⟨xs,hq⟩,q⟩:=q1
 obtain ⟨u,rfl,ru⟩:=r1.one
 obtain rfl:u=.ref a:=ru
 obtain ⟨its,rv,p⟩:=I1.seqC hq
 have d1:=p.lt
 refine zx p fun h' hE hI hk=>wpAny_pyIter_enum hE ?_
 have I2:ac X pins σ H1 { s1 with heap:=h',toks:=s1.toks }:=I1.kept hk
 refine ⟨s1.heap.objs.size+1,[s1.heap.objs.size+1,s1.heap.objs.size],_,_,H1,rfl,I2,zk a (s1.heap.objs.size+1) s1.heap.objs.size c (Nat.succ_ne_self _) (Nat.ne_of_lt (Nat.lt_succ_of_lt d1)) (Nat.ne_of_lt d1),⟨⟨_,hE⟩,hI⟩,fun b hb=>?_,q⟩
 have hb':b=s1.heap.objs.size+1∨b=s1.heap.objs.size:=by simpa using hb
 have hle:s1.heap.objs.size≤b:=by rcases hb' with rfl | rfl <;> trivial
 exact I1.fpOk hle (I1.hok.fresh hle)
section
variable {X:Cx}
end
end L2
namespace L2
open PySem PySem.Spec PyProof.Rows
end L2
namespace L2
open PySem PySem.Spec PyProof.Rows
theorem aI.drop {E:Addr→Prop}{H:Hp}:∀{xs:List V}{ds:List PyData} (n:Nat),aI E H xs ds→aI E H (xs.drop n) (ds.drop n)
 | _,_,0,h=>by simpa using h
 | _,_,_+1,.nil=>by simp;exact .nil
 | _,_,n+1,.cons h r=>by simp;exact aI.drop n r
section
variable {z:Nat}{E:Addr→Prop}{H H':Hp}{n m k:Nat}{v:V}{xs ys:List V}
theorem o9:iU xs (some 1) none=xs.drop 1:=by
 unfold iU
 rw [HT.sIx_none,show (1:Int)=((1:Nat):Int) from rfl,HT.sIx_nat]
 cases xs with
 | nil=>simp
 | cons x r=>simp
end
section
variable {X:Cx}
end
end L2
namespace HT
open PySem PySem.Spec PyProof.Rows
section
variable {prog:Program}{w:World}{A:Around}{E:Value→Shared→Prop}{s:Shared}
end
end HT
namespace L2
open PySem PySem.Spec PyProof.Rows
section
variable {X:Cx}{K:PySem.W.Frag}
end
end L2
namespace L2
open PySem PySem.Spec PyProof.Rows
theorem uK {α:Type}{p:List α→Prop} (h0:p []) (h1:∀l a,p l→p (l++[a])) (l:List α):p l:=by
 have:∀r:List α,p r.reverse:=fun r=>by
  induction r with
  | nil=>exact h0
  | cons a r ih=>rw [List.reverse_cons];exact h1 _ _ ih
 have h:=this l.reverse
 rwa [List.reverse_reverse] at h
def gM (ks:List aJ):List aJ:=ks.foldl (fun σ k=>if σ.any (fun x=>decide (x=k)) then σ else σ++[k]) []
theorem ku (ks:List aJ) (k:aJ):gM (ks++[k])=if (gM ks).any (fun x=>decide (x=k)) then gM ks else gM ks++[k]:=by
 unfold gM
 rw [List.foldl_append]
 rfl
theorem sQ:∀(ks:List aJ),(gM ks).length≤ks.length:=by
 intro ks
 induction ks using uK with
 | h0=>exact Nat.le_refl _
 | h1 ks k ih=>
  rw [ku,List.length_append]
  split
  ·simp;trivial
  ·rw [List.length_append];simp;trivial
theorem wY (ks:List aJ):∀j,j∈gM ks↔j∈ks:=by
 induction ks using uK with
 | h0=>exact fun j=>Iff.rfl
 | h1 ks k ih=>
  intro j
  rw [ku,List.mem_append,List.mem_singleton]
  split
  ·rename_i h
   rw [ih]
   constructor
   ·exact .inl
   ·rintro (z | z)
    ·exact z
    ·obtain ⟨x,hx,e⟩:=List.any_eq_true.mp h
     rw [z,←ih,←of_decide_eq_true e];exact hx
  ·rw [List.mem_append,List.mem_singleton,ih]
theorem uf (ks:List aJ):(gM ks).length=ks.length↔ks.Nodup:=by
 induction ks using uK with
 | h0=>exact ⟨fun _=>List.nodup_nil,fun _=>rfl⟩
 | h1 ks k ih=>
  rw [ku,List.length_append,List.nodup_append]
  have ol:=sQ ks
  by_cases h:(gM ks).any (fun x=>decide (x=k))=true
  ·rw [if_pos h]
   obtain ⟨x,hx,e⟩:=List.any_eq_true.mp h
   have hk:k∈ks:=by rw [←of_decide_eq_true e];exact (wY ks x).mp hx
   constructor
   ·intro z;simp at z;trivial
   ·intro z;exact absurd rfl (z.2.2 k hk k (by simp))
  ·rw [if_neg h,List.length_append]
   have hk:k∉ks:=fun z=>h (List.any_eq_true.mpr ⟨k,(wY ks k).mpr z,by simp⟩)
   constructor
   ·intro z
    refine ⟨ih.mp (by simpa using z),by simp,fun a ha b hb e=>?_⟩
    rw [List.mem_singleton] at hb
    rw [←hb,←e] at hk
    exact hk ha
   ·intro z
    rw [ih.mpr z.1]
def f9:aJ→V
 | .inl i=>.int i
 | .inr x=>.str x
theorem uZ {k:aJ}{u:Value} (h:aQ (f9 k) u):f7 k u=true∧u.scannable=true:=by
 cases k with
 | inl i=>obtain ⟨t,rfl⟩:=h;exact ⟨Aa i t,rfl⟩
 | inr x=>obtain ⟨t,rfl⟩:=h;exact ⟨AX x t,rfl⟩
section
variable {prog:Program}{w:World}{A:Around}{R:Result→Shared→Prop}{it:Addr}{fp wr:List Addr}{G:Array GenState→Array GenState→Prop}{P:Nat→Value→Prop}{St:Nat→Shared→Prop}
abbrev gk (prog:Program) (w:World) (h:Heap) (a:Addr) (ks:List aJ):Prop:=h.SetOf (bI prog w) a (fun j=>(gM ks).any (fun x=>decide (x=j))) (gM ks).length
theorem ue {h h':Heap}{a:Addr}{ks:List aJ} (H:gk prog w h a ks) (k:∀o,h.get? a=some o→h'.get? a=some o):gk prog w h' a ks:=
 let ⟨o,es,ep,t,ho,r⟩:=H
 ⟨o,es,ep,t,k o ho,r⟩
theorem Du {h:Heap}{a:Addr}{f g:aJ→Bool}{n m:Nat} (H:h.SetOf (bI prog w) a f n) (e:∀k,f k=g k) (en:n=m):h.SetOf (bI prog w) a g m:=by
 cases en
 cases (funext e:f=g)
 exact H
theorem wM {ks:List aJ} (W:WalksS prog w A.in1 it fp wr G ks.length P St) {a:Addr} (ha:a∉fp) (hv:∀i v,P i v→∀k,ks[i]?=some k→f7 k v=true∧v.scannable=true) (hb:ks.length+1<scanBound) :
 ∀(r i:Nat) (s:Shared),ks.length - i=r→i≤ks.length→St i s→gk prog w s.heap a (ks.take i)→
   (∀s',Moved (a :: wr) G s s'→gk prog w s'.heap a ks→R (.ok (.ret .none)) s')→codeAny (model prog w) A (.builtin "set.update.loop" ⟨[.ref a,.ref it],[]⟩) R s:=by
 have nw:a∉wr:=fun z=>ha (W.sub _ z)
 have up:∀b∈wr,b∈a :: wr:=fun b z=>List.mem_cons_of_mem _ z
 intro r
 induction r with
 | zero=>
  intro i s hr hi st hS hR
  have e:i=ks.length:=by trivial
  rw [e] at st hS
  rw [List.take_length] at hS
  refine codeAny_builtin F.entry_set_update_loop ?_
  rw [A.under_plainId F.plain_set_update_loop]
  show wpAny _ _ (pyNext (Value.ref it) >>= _) _ _ _
  refine wpAny_bind (W.done s _ _ st fun s' m=>?_)
  show wpAny _ _ (ret .none) _ _ _
  exact wpAny_pure (hR s' (m.mono up) (ue hS fun o ho=>m.heap a o nw ho))
 | succ r ih=>
  intro i s hr hi st hS hR
  have lt:i<ks.length:=by trivial
  refine codeAny_builtin F.entry_set_update_loop ?_
  rw [A.under_plainId F.plain_set_update_loop]
  show wpAny _ _ (pyNext (Value.ref it) >>= _) _ _ _
  refine wpAny_bind (W.item i s _ _ lt st fun v s' pv st' m=>?_)
  obtain ⟨kv,sv⟩:=hv i v pv ks[i] (List.getElem?_eq_getElem lt)
  have hS':gk prog w s'.heap a (ks.take i):=ue hS fun o ho=>m.heap a o nw ho
  have l1:(gM (ks.take i)).length+1<scanBound:=by
   have:=sQ (ks.take i)
   rw [List.length_take] at this
   trivial
  show wpAny _ _ (holding [v] (setAdd a v) >>= _) _ _ _
  refine wpAny_bind (wpAny_holding ?_)
  unfold setAdd
  refine wpAny_holding (wpAny_bind ((bI prog w).pyHash (k:=ks[i]) kv (wpAny_setAddHashed_of (knd:=bI prog w) (s:={ s' with toks:=s'.toks+1 }) kv sv hS' l1 fun h2 sb hS2=>?_)))
  have nx:gk prog w h2 a (ks.take (i+1)):=by
   rw [List.take_succ_eq_append_getElem lt]
   refine Du hS2 (fun j=>?_) ?_
   ·rw [ku]
    split
    ·rename_i z
     by_cases q:j=ks[i]
     ·subst q;rw [z];rfl
     ·rw [decide_eq_false q,Bool.or_false]
    ·rw [List.any_append]
     congr 1
     rw [List.any_cons,List.any_nil,Bool.or_false]
     by_cases q:j=ks[i]
     ·rw [decide_eq_true q,decide_eq_true q.symm]
     ·rw [decide_eq_false q,decide_eq_false (Ne.symm q)]
   ·rw [ku]
    split
    ·rfl
    ·rw [List.length_append];rfl
  refine wpAny_pure ⟨plainId_quiet F.plain_set_update_loop _,ih (i+1) _ (by trivial) lt (W.frame _ s' _ _ st' (Nat.le_succ _) fun b z o e=>?_) nx fun s2 m2 hS3=>?_⟩
  ·rw [sb.2 b (fun q=>ha (q▸z))];exact e
  ·refine hR s2 (.trans W.gtrans ((m.mono up).then_heap (Nat.le_succ _) fun b o z e=>?_) m2) hS3
   rw [sb.2 b (fun q=>z (q▸List.mem_cons_self))];exact e
end
theorem x0:isSubtype (.type "tuple") (.type "set")=pure false:=by
 rw [isSubtype_type]
 kernel_rfl
theorem wP:isSubtype (.type "tuple") (.type "frozenset")=pure false:=by
 rw [isSubtype_type]
 kernel_rfl
section
variable {prog:Program}{w:World}{A:Around}{E:Value→Shared→Prop}{s:Shared}
abbrev fC (led:Bool):Obj:={ cls:=.type "set",dict:=none,data:=.set #[] 0 (.fresh 0 0 led) }
theorem xu {h:Heap}{a:Addr}{led:Bool} (e:h.get? a=some (fC led)):gk prog w h a []:=
 ⟨_,#[],0,_,e,⟨rfl,rfl,rfl⟩,rfl,fun x hx=>(by simp at hx),fun k=>(by simp [gM]),by decide,by rfl,rfl⟩
set_option maxHeartbeats 4000000 in
theorem Ba {l:Addr}{vs:List Value}{ks:List aJ}{led:Bool}{c:Bool} (hh:A.handled=none) (hl:if c=true then s.heap.IsList l vs.toArray else s.heap.IsTuple l vs.toArray) (hn:vs.length=ks.length)
 (hk:∀(i:Nat) v,vs[i]?=some v→∀k,ks[i]?=some k→f7 k v=true∧v.scannable=true) (hb:ks.length+1<scanBound) {R:Fin→Shared→Prop}
 (h:∀h' tk,gk prog w h' s.heap.objs.size ks→(∀b o,b<s.heap.objs.size→s.heap.get? b=some o→h'.get? b=some o)→R (.done (.ret .none)) { s with heap:=h',toks:=tk }) :
 wpAny (model prog w) A (Builtin.«set.__init__» ⟨[.ref s.heap.objs.size,.ref l],[]⟩) R E { s with heap:=s.heap.push (fC led) }:=by
 have hS:(s.heap.push (fC led)).get? s.heap.objs.size=some (fC led):=Heap.get?_push_size _ rfl
 have hT:Shared.TypeIs { s with heap:=s.heap.push (fC led) } (.ref s.heap.objs.size) "set" := ⟨_,hS,rfl⟩
 have vget:∀(i:Nat) v,vs.toArray[i]?=some v→∀k,ks[i]?=some k→f7 k v=true∧v.scannable=true:=fun i v e=>hk i v (by simpa using e)
 have sz:vs.toArray.size=ks.length:=by rw [List.size_toArray];exact hn
 have hS2:∀o:Obj,((s.heap.push (fC led)).push o).get? s.heap.objs.size=some (fC led):=fun o=>Heap.get?_push_of_some _ hS
 have lS:∀{x:Obj},s.heap.get? l=some x→l<s.heap.objs.size:=fun e=>Heap.lt_size e
 have neI:s.heap.objs.size≠(s.heap.push (fC led)).objs.size:=by rw [Heap.size_push];trivial
 have aP:∀(s':Shared) (o:Obj),Moved (s.heap.objs.size :: [(s.heap.push (fC led)).objs.size]) (fun a b=>b=a) { s with heap:=(s.heap.push (fC led)).push o } s'→gk prog w s'.heap s.heap.objs.size ks→R (.done (.ret .none)) s':=fun s' o m q=>by
  obtain ⟨h',g',d',tk',os'⟩:=s'
  cases (show g'=s.gens from m.gens)
  cases (show d'=s.drawn from m.drawn)
  cases (show os'=s.os from m.os)
  refine h h' tk' q fun b o hb e=>m.heap b o (fun z=>?_) (Heap.get?_push_of_some _ (Heap.get?_push_of_some _ e))
  rw [Heap.size_push] at z
  have z':b=s.heap.objs.size∨b=s.heap.objs.size+1:=by simpa using z
  have hb':(b:Nat)<s.heap.objs.size:=hb
  rcases z' with z' | z'
  ·exact absurd z' (Nat.ne_of_lt hb')
  ·exact absurd z' (Nat.ne_of_lt (Nat.lt_succ_of_lt hb'))
 cases c with
 | true=>
  have hl':s.heap.IsList l vs.toArray:=hl
  obtain ⟨⟨oc,od,oo,os⟩,e1,rfl,n,rfl⟩:=hl'
  have e2:(s.heap.push (fC led)).get? l=some ⟨.type "list",od,.seq vs.toArray n,os⟩:=Heap.get?_push_of_some _ e1
  have q1:=PySem.F.sub_list_set
  have q2:=PySem.F.sub_list_frozenset
  have q3:(Value.type "list" == Value.type "dict")=false:=by decide
  have l1:(s.heap.push (fC led)).IsList l vs.toArray:=⟨_,e2,rfl,n,rfl⟩
  unfold Builtin.«set.__init__» noKeywords Builtin.Frozenset.updateFrom
  generalize hPI:pyIter=PI
  wp_walk
  subst hPI
  have ll:=lS e1
  refine wpAny_pyIter_list l1 (wpAny_bind (wpAny_runValue ?_))
  have ne1:l≠(s.heap.push (fC led)).objs.size:=by rw [Heap.size_push];exact Nat.ne_of_lt (Nat.lt_succ_of_lt ll)
  refine wM (a:=s.heap.objs.size) (ks:=ks) (sz▸(Walks.list (by simpa using hh) _ l ne1 vs.toArray).toS) ?_ vget hb (ks.length - 0) 0 _ rfl (Nat.zero_le _) ⟨⟨_,Heap.get?_push_size _ rfl,rfl,rfl⟩,l1.push _⟩ (xu (hS2 _)) fun s' m q=>?_
  ·intro z
   have z':s.heap.objs.size=(s.heap.push (fC led)).objs.size∨s.heap.objs.size=l:=by simpa using z
   rcases z' with z' | z'
   ·exact neI z'
   ·exact absurd z' (Nat.ne_of_gt ll)
  ·exact wpAny_pure (wpAny_pure (aP s' _ m q))
 | false=>
  have hl':s.heap.IsTuple l vs.toArray:=hl
  obtain ⟨⟨oc,od,oo,os⟩,e1,rfl,n,rfl⟩:=hl'
  have e2:(s.heap.push (fC led)).get? l=some ⟨.type "tuple",od,.seq vs.toArray n,os⟩:=Heap.get?_push_of_some _ e1
  have q1:=x0
  have q2:=wP
  have q3:(Value.type "tuple" == Value.type "dict")=false:=by decide
  have l1:(s.heap.push (fC led)).IsTuple l vs.toArray:=⟨_,e2,rfl,n,rfl⟩
  unfold Builtin.«set.__init__» noKeywords Builtin.Frozenset.updateFrom
  generalize hPI:pyIter=PI
  wp_walk
  subst hPI
  have ll:=lS e1
  refine wpAny_pyIter_tuple l1 (wpAny_bind (wpAny_runValue ?_))
  have ne1:l≠(s.heap.push (fC led)).objs.size:=by rw [Heap.size_push];exact Nat.ne_of_lt (Nat.lt_succ_of_lt ll)
  refine wM (a:=s.heap.objs.size) (ks:=ks) (sz▸(Walks.tuple (by simpa using hh) _ l ne1 vs.toArray).toS) ?_ vget hb (ks.length - 0) 0 _ rfl (Nat.zero_le _) ⟨⟨_,Heap.get?_push_size _ rfl,rfl,rfl⟩,l1.at fun o e=>Heap.get?_push_of_some _ e⟩ (xu (hS2 _)) fun s' m q=>?_
  ·intro z
   have z':s.heap.objs.size=(s.heap.push (fC led)).objs.size∨s.heap.objs.size=l:=by simpa using z
   rcases z' with z' | z'
   ·exact neI z'
   ·exact absurd z' (Nat.ne_of_gt ll)
  ·exact wpAny_pure (wpAny_pure (aP s' _ m q))
set_option maxHeartbeats 4000000 in
theorem AK {l:Addr}{vs:List Value}{ks:List aJ}{c:Bool}{Q:Value→Shared→Prop} (hh:A.handled=none) (hl:if c=true then s.heap.IsList l vs.toArray else s.heap.IsTuple l vs.toArray) (hn:vs.length=ks.length)
 (hk:∀(i:Nat) v,vs[i]?=some v→∀k,ks[i]?=some k→f7 k v=true∧v.scannable=true) (hb:ks.length+1<scanBound)
 (h:∀h' tk,gk prog w h' s.heap.objs.size ks→(∀b o,b<s.heap.objs.size→s.heap.get? b=some o→h'.get? b=some o)→Q (.ref s.heap.objs.size) { s with heap:=h',toks:=tk }) :
 wpAny (model prog w) A (call (.type "set") [.ref l]) Q E s:=by
 have T:=PySem.F.called_set
 obtain ⟨_,_,t0⟩:=T.mro
 have t1:=T.notType
 have t2:=T.canCreate
 have t3:=T.made
 have t4:=T.sub
 have t5:=PySem.F.typeCall_set_1 (.ref l)
 refine wpAny_call (codeAny_of_tree ?_)
 show wpAny _ _ (callAny (Value.type "set") _) _ _ s
 refine wpAny_pure ⟨Code.quiet_builtin _ (by decide +kernel),codeAny_builtin PySem.F.entry_type_call ?_⟩
 rw [A.under_plain (weight_type_call_type "set" [Value.ref l] []) rfl]
 repeat (any_goals first | assumption | wp_step)
 refine codeAny_mono (code_set_new_1 (.ref l) (E:=E) (Q₁:=fun v s1=>∃led,v=.ref s.heap.objs.size∧s1={ s with heap:=s.heap.push (fC led) }) fun led=>⟨led,rfl,rfl⟩) fun r s1 hr=>?_
 cases r with
 | error e=>exact hr
 | ok f=>
  cases f with
  | ret v=>
   obtain ⟨led,rfl,rfl⟩:=hr
   have hT:Shared.TypeIs { s with heap:=s.heap.push (fC led) } (.ref s.heap.objs.size) "set" := ⟨_,Heap.get?_push_size _ rfl,rfl⟩
   have t6:=T.init.lookup
   have t7:=T.init.bind (.ref s.heap.objs.size)
   repeat (any_goals first | assumption | wp_step)
   refine codeAny_mono (codeAny_call_builtin (R:=wants (fun v s2=>v=.none∧aW fun h' tk=>s2={ s with heap:=h',toks:=tk }∧gk prog w h' s.heap.objs.size ks∧∀b o,b<s.heap.objs.size→s.heap.get? b=some o→h'.get? b=some o) E) T.init.plain PySem.F.entry_set_init (check_set_init_1 hT ?_)) fun r2 s2 hr2=>?_
   ·exact Ba (by simpa using hh) hl hn hk hb fun h' tk q kp=>⟨rfl,h',tk,rfl,q,kp⟩
   ·cases r2 with
    | error e=>exact hr2
    | ok f=>
     cases f with
     | ret v=>
      obtain ⟨rfl,h',tk,rfl,q,kp⟩:=hr2
      repeat (any_goals first | assumption | wp_step)
      exact h _ _ q kp
     | _=>exact hr2.elim
  | _=>exact hr.elim
end
theorem x9:bootBuiltins "set" = some (.type "set"):=by decide +kernel
def yI (K:PySem.W.Frag) (x:V) (H:Hp) (Q:VK):Prop:=aW fun a ks=>x=.ref a∧(am K H a (ks.map f9)∨ag K H a (ks.map f9))∧ks.length≤4000∧Q (.int ((gM ks).length:Nat)) H
def Dh (K:PySem.W.Frag) (te:TE):TE:=fun σ H Q=>te σ H fun x H1=>yI K x H1 Q
section
variable {X:Cx}{K:PySem.W.Frag}{e:Expr}{te:TE}{p1 p2 p3 p4:Pos}
theorem vk:∀{ks:List aJ}{us:List Value},aC (ks.map f9) us→us.length=ks.length∧∀(i:Nat) v,us[i]?=some v→∀k,ks[i]?=some k→f7 k v=true∧v.scannable=true
 | [],_,.nil=>⟨rfl,fun i v e=>by simp at e⟩
 | k :: r,_,.cons h t=>by
  obtain ⟨a,b⟩:=vk (ks:=r) t
  refine ⟨by simp [a],fun i v e j f=>?_⟩
  cases i with
  | zero=>
   simp at e f
   subst e f
   exact uZ h
  | succ i=>exact b i v (by simpa using e) j (by simpa using f)
theorem B0 {A:Around}{E:Value→Shared→Prop}{s:Shared}{prog:Program}{w:World}{a:Addr}{ks:List aJ}{Q:Value→Shared→Prop} (H:gk prog w s.heap a ks) (hb:ks.length≤4000) (h:Q (.int ((gM ks).length:Nat) (s.toks+1)) { s with toks:=s.toks+1+1 }) :
 wpAny (model prog w) A (call (.builtin "len") [.ref a]) Q E s:=by
 obtain ⟨o,es,ep,t,ho,hx,hd,_,_,hlt,hf,hn⟩:=H
 have:=sQ ks
 refine PySem.call_len_set ho hx hd hf (by trivial) ?_
 rw [hn];exact h
theorem vP (he:PE X e te) (hc:X.calm=true) (hg1:Gl X "len") (hm1:X.mg "len" = none) (hg2:Gl X "set") (hm2:X.mg "set" = none) (ek:X.K=K:=by rfl) (hs:rP e=true:=by rfl) :
 PE X (.Call (.Name "len" p1) [.Call (.Name "set" p2) [e] [] p3] [] p4) (Dh K te):=by
 subst ek
 intro pins s σ H Q I h
 refine wpAny_Call_Name_kw (gZ I hg1 hm1 aX ?_ (by decide) (by decide))
 refine PyProof.Rows.callWith_builtin1 ?_ (rn rfl) rfl
 refine Calls.spliced_cons ?_
 refine wpAny_Call_Name_kw (gZ I hg2 hm2 x9 ?_ (by decide) (by decide))
 refine PyProof.Rows.callWith_type1 ?_ (rn hs) rfl
 refine aK (BX he b7 hs p3 pins s σ H (fun xs H1=>match xs with | [x]=>yI X.K x H1 Q | _=>False) I h) fun us s1 ⟨vs,H1,I1,r1,q1⟩=>?_
 match vs,r1,q1 with
 | [x],r1,q1=>
 obtain ⟨u,rfl,ru⟩:=pj r1
 obtain ⟨a,ks,rfl,hq,hz,q⟩:=q1
 cases ru
 have go:∀(its:List Value) (c:Bool),aC (ks.map f9) its→(if c=true then s1.heap.IsList a its.toArray else s1.heap.IsTuple a its.toArray)→wpAny (model X.prog X.w) X.A (call (.type "set") [.ref a]) (fun v s2=>wpAny (model X.prog X.w) X.A (call (.builtin "len") [v]) (EP X pins σ Q) X.xe s2) X.xe s1:=fun its c rv hl=>by
  obtain ⟨z1,z2⟩:=vk rv
  refine AK (I1.ok.hd hc) hl z1 z2 (by show ks.length+1<4096;trivial) fun h' tk S kp=>?_
  have I2:ac X pins σ H1 { s1 with heap:=h',toks:=tk }:=I1.kept fun b o e=>kp b o (Heap.lt_size e) e
  exact B0 (s:={ s1 with heap:=h',toks:=tk }) S hz ⟨.int _,H1,I2.tok _,⟨_,rfl⟩,q⟩
 have aP:=fun (v:Value) (s2:Shared) (z:wpAny (model X.prog X.w) X.A (call (.builtin "len") [v]) (EP X pins σ Q) X.xe s2)=>(Calls.spliced_nil z:wpAny (model X.prog X.w) X.A (spliced []) (fun vs s3=>wpAny (model X.prog X.w) X.A (call (.builtin "len") (v :: vs)) (EP X pins σ Q) X.xe s3) X.xe s2)
 rcases hq with hq | hq
 ·obtain ⟨its,rv,p,_⟩:=I1.list hq
  exact aK (go its true rv p.isList) fun v s2 z=>aP v s2 z
 ·obtain ⟨its,rv,p,_⟩:=I1.tuple hq
  exact aK (go its false rv p) fun v s2 z=>aP v s2 z
end
end L2
namespace L2
open PySem PySem.Spec PyProof.Rows
section
variable {X:Cx}{K:PySem.W.Frag}{o e:Expr}{es:List Expr}{to:TE}{t:TA}{name:Str}{apos cpos:Pos}{T id:String}{r:V→List V→Hp→VK→Prop}
theorem fE (pa:PlainAttrs T) (slot:Slot T name id) (hty:typeOf (.builtin id)=pure (.type "method_descriptor")) (hm:Ag X id r) (ho:PE X o to) (ha:PA X (e :: es) t) (ek:X.K=K:=by rfl)
 (h1:attributeBase o name X.env (eval o X.env)=eval o X.env:=by rfl)
 (h2:((backTo cpos (starEach (e :: es) X.env)).all (fun x=>!x.1) && (backToKw cpos (keywordEach [] X.env)).all (fun x=>x.1.isSome) && decide ((e :: es).length+([]:List Keyword).length+(if ([]:List Keyword).isEmpty then 0 else 1)<30))=true:=by rfl)
 (h3:(apos.endLine==cpos.line)=true:=by rfl) (h4:starEach (e :: es) X.env=(false,eval e X.env) :: starEach es X.env:=by rfl) (h5:(backTo cpos (starEach es X.env)).any (·.1)=false:=by rfl) :
 PE X (.Call (.Attribute o name apos) (e :: es) [] cpos) (Iz K T r to t):=by
 subst ek
 exact Ik pa slot hty hm ho ha h1 h2 h3 h4 h5
end
theorem Cv {X:Cx}{K:PySem.W.Frag}{es:List Expr}{kk:Nat}{tp:Pos}{a b:Expr}{ta:TA}{p pos:Pos} (hg:Gl X "zip") (hm:X.mg "zip" = none) (ha:PA X [a,b] ta) (ek:X.K=K:=by rfl) (h1:starEach [a,b] X.env=[(false,eval a X.env),(false,eval b X.env)]:=by rfl) (h2:starEach [b] X.env=[(false,eval b X.env)]:=by rfl) :
 PI X (.Tuple es kk tp) (.Call (.Name "zip" p) [a,b] [] pos) (Fu K ta):=by
 subst ek
 exact Gq hg hm ha h1 h2
end L2
namespace L2
theorem bz {t u:TS}{D:dn}{σ:St}{H:Hp} (h:∀D':dn,(∀σ' H',u D σ' H'→D'.nx σ' H')→t D' σ H):kG t u D σ H:=h { D with nx:=u D } fun _ _ z=>z
theorem zz {t u:TS}{D:dn}{σ:St}{H:Hp} (h:∀D':dn,(∀σ' H',u D σ' H'→D'.nx σ' H')→(∀v H',D.rt v H'→D'.rt v H')→t D' σ H):kG t u D σ H:=h { D with nx:=u D } (fun _ _ z=>z) fun _ _ z=>z
theorem ph {t:TS}{D:dn}{σ:St}{H:Hp} (h:∀D':dn,(∀σ' H',D.nx σ' H'→D'.nx σ' H')→t D' σ H):t D σ H:=h D fun _ _ z=>z
theorem Hd {t:TS}{D:dn}{σ:St}{H:Hp} (h:∀D':dn,(∀σ' H',D.nx σ' H'→D'.nx σ' H')→(∀v H',D.rt v H'→D'.rt v H')→t D' σ H):t D σ H:=h D (fun _ _ z=>z) fun _ _ z=>z
end L2
namespace L2
open PySem PySem.Spec PyProof.Rows
section
variable {X:Cx}
end
end L2
namespace L2
open PySem PySem.Spec PyProof.Rows
section
variable {K:PySem.W.Frag}{a a1 a2 D:Addr}{H1:Hp}{σc:St}{g:TG}{te:TE}{tt:TT}{Q:VK}{xs ys:List V}
theorem uV {α:Type} (f:Nat→α) (i:Nat):(List.range i).map f++[f i]=(List.range (i+1)).map f:=by
 rw [List.range_succ,List.map_append];rfl
theorem p6 {α β:Type} (f:Nat→β) (h:α→β) (l:List α) (e:∀(i:Nat) (x:α),l[i]?=some x→f i=h x):(List.range l.length).map f=l.map h:=by
 apply List.ext_getElem?
 intro i
 rw [List.getElem?_map,List.getElem?_map]
 by_cases hi:i<l.length
 ·rw [List.getElem?_range hi,List.getElem?_eq_getElem hi]
  show some (f i)=some (h l[i])
  rw [e i l[i] (List.getElem?_eq_getElem hi)]
 ·rw [List.getElem?_eq_none (by simp;trivial),List.getElem?_eq_none (by trivial)];rfl
theorem vq {J:It}{n:Nat} (f:Nat→V) (hz:n≤10000) (hD:H1 D=none) (hgo:∀i H',i<n→ah H1 H'→J.go i H') (hst:∀H',ah H1 H'→J.stop n H')
 (hs:∀i x H' H'' (R:VK),i<n→ah H1 H'→J.yld i H' x H''→(∀H4,ah H' H4→R (f i) H4)→g x σc H'' fun σ2 H2=>jV σc σ2∧te σ2 H2 R)
 (hd:∀H',ah H1 H'→H' D=some (.lst ((List.range n).map f))→Q (.ref D) H'):ua J σc g tT te D H1 Q:=by
 refine gQ (n:=n) (fun i H' zs=>zs=(List.range i).map f∧H' D=some (.lst zs)∧ah H1 H') (jx hz) ⟨rfl,ar,cZ hD (ah.refl _)⟩ ?_ ?_ ?_ ?_ ?_
 ·rintro i H' zs ⟨rfl,q,_⟩
  exact ⟨q,by simp⟩
 ·rintro i H' zs hi ⟨_,_,sm⟩
  exact hgo i H' hi sm
 ·rintro H' zs ⟨_,_,sm⟩
  exact hst H' sm
 ·rintro i H' zs x H'' hi ⟨rfl,q,sm⟩ y
  exact hs i x H' H'' _ hi sm y fun H4 s4=>⟨s4 _ _ q,uV f i,ar,cZ hD (sm.trans s4)⟩
 ·rintro H' zs ⟨rfl,q,sm⟩
  exact hd H' sm q
theorem fR (f:Nat→V) (hz:xs.length≤10000) (hD:H1 D=none) (ha:H1 a=some (.lst xs))
 (hs:∀i x H' (R:VK),xs[i]?=some x→ah H1 H'→(∀H4,ah H' H4→R (f i) H4)→g x σc H' fun σ2 H2=>jV σc σ2∧te σ2 H2 R)
 (hd:∀H',ah H1 H'→H' D=some (.lst ((List.range xs.length).map f))→Q (.ref D) H'):ua (yp K a) σc g tT te D H1 Q:=by
 refine vq (n:=xs.length) f hz hD (fun i H' hi sm=>⟨xs,xs[i],am.of (sm _ _ ha),by simp [hi]⟩) (fun H' sm=>⟨xs,am.of (sm _ _ ha),Nat.le_refl _⟩) ?_ hd
 rintro i x H' H'' R hi sm ⟨rfl,ex⟩ k
 exact hs i x H'' R (ex _ (am.of (sm _ _ ha))) sm k
end
end L2
namespace L2
theorem E9 {tc:TT}{t u:TS}{D:dn}{σ:St}{H:Hp} (o1 o0:Hp→Prop) (hc:∀Q:Bool→Hp→Prop,(∀H',o1 H'→Q true H')→(∀H',o0 H'→Q false H')→tc σ H Q) (h1:∀H',o1 H'→t D σ H') (h0:∀H',o0 H'→u D σ H'):zR tc t u D σ H:=
 hc _ (fun H' o=>by rw [if_pos rfl];exact h1 H' o) fun H' o=>by rw [if_neg (by decide)];exact h0 H' o
theorem zg {t u:TS}{D:dn}{σ:St}{H:Hp} (I:St→Hp→Prop) (rest:∀σ' H',I σ' H'→u D σ' H') (h:(∀σ' H',I σ' H'→u D σ' H')→t { D with nx:=u D } σ H):kG t u D σ H:=h rest
end L2
namespace L2
open PySem PySem.Spec PyProof.Rows
section
variable {X:Cx}{tg:Expr}
end
end L2
namespace L2
open PySem PySem.Spec PyProof.Rows
section
variable {X:Cx}{K:PySem.W.Frag}{o e:Expr}{es:List Expr}{to:TE}{t:TA}{name:Str}{apos cpos:Pos}{id:String}{r:V→List V→Hp→VK→Prop}
end
end L2
namespace L2
open PySem PyProof.Rows
def eO (X:Cx) (scope:Scope) (cl:List (Str×Addr)) (C:Addr) (N':List Str) (s:Shared) (H:Hp) (ex:List Addr) (pn:List (Addr×Obj)):Cx:=
 { fh X scope cl C N' s H ex pn with fn:=fun x=>scope.names.lookup x==some .cell }
def pJ (esc:Scope) (N:List Str) (scope:Scope) (N':List Str) (L:Nat) (src:List Nat):Bool:=
 (scope.kind==.function) && scope.names.all (fun y=>(y.2 != .cell || scope.names.lookup y.1==some .cell) && (y.2 != .local || scope.names.lookup y.1==some .local) && (y.2 != .free || esc.names.lookup y.1==some .cell || esc.names.lookup y.1==some .free)) &&
  (N'.length==L+src.length) && (List.range src.length).all fun i=>match src[i]?,N'[L+i]? with
   | some j,some x=>(N[j]?==some x) && (scope.names.lookup x==some .free)
   | _,_=>false
structure yz (esc:Scope) (N:List Str) (scope:Scope) (N':List Str) (L:Nat) (src:List Nat):Prop where
 kind:scope.kind=.function
 cells:∀y∈scope.names,y.2=.cell→scope.names.lookup y.1=some .cell
 loc:∀y∈scope.names,y.2=.local→scope.names.lookup y.1=some .local
 free:∀y∈scope.names,y.2=.free→esc.names.lookup y.1=some .cell∨esc.names.lookup y.1=some .free
 len:N'.length=L+src.length
 frees:∀(i j:Nat),src[i]?=some j→∃x,N'[L+i]?=some x∧N[j]?=some x∧scope.names.lookup x=some .free
theorem uo {esc:Scope}{N:List Str}{scope:Scope}{N':List Str}{L:Nat}{src:List Nat} (h:pJ esc N scope N' L src=true):yz esc N scope N' L src:=by
 unfold pJ at h
 simp only [Bool.and_eq_true,List.all_eq_true] at h
 obtain ⟨⟨⟨h1,h2⟩,h3⟩,h4⟩:=h
 refine ⟨by simpa using h1,fun y hy e=>?_,fun y hy e=>?_,fun y hy e=>?_,by simpa using h3,fun i j e=>?_⟩
 ·have:=(h2 y hy).1.1
  rw [e] at this
  simpa using this
 ·have:=(h2 y hy).1.2
  rw [e] at this
  simpa using this
 ·have:=(h2 y hy).2
  rw [e] at this
  simpa using this
 ·have hi:i<src.length:=(List.getElem?_eq_some_iff.mp e).1
  have:=h4 i (List.mem_range.mpr hi)
  rw [e] at this
  cases q:N'[L+i]? with
  | none=>rw [q] at this;simp at this
  | some x=>
   rw [q] at this
   simp only [Bool.and_eq_true,beq_iff_eq] at this
   exact ⟨x,rfl,this.1,this.2⟩
theorem jW:∀(names:List (Str×NameKind)) (n:Nat) (acc acc':List (Str×Addr)),cellsFrom n names (acc++acc')=cellsFrom n names acc++acc'
 | [],_,_,_=>rfl
 | (name,kind) :: r,n,acc,acc'=>by
  unfold cellsFrom
  split
  ·exact jW r (n+1) ((name,n) :: acc) acc'
  ·exact jW r n acc acc'
theorem vX (names:List (Str×NameKind)) (n:Nat) (acc:List (Str×Addr)):cellsFrom n names acc=cellsFrom n names []++acc:=jW names n [] acc
theorem jb {x:Str}{c:Addr}:∀(names:List (Str×NameKind)) (n:Nat) (acc:List (Str×Addr)),(x,c)∈cellsFrom n names acc→(x,NameKind.cell)∈names∨(x,c)∈acc
 | [],_,_,h=>.inr h
 | (name,kind) :: r,n,acc,h=>by
  unfold cellsFrom at h
  split at h
  ·rename_i hk
   rcases jb r (n+1) _ h with h | h
   ·exact .inl (List.mem_cons_of_mem _ h)
   ·rcases List.mem_cons.mp h with h | h
    ·injection h with h1 h2
     have hk':kind=.cell:=by simpa using hk
     rw [h1,hk'];exact .inl List.mem_cons_self
    ·exact .inr h
  ·rcases jb r n _ h with h | h
   ·exact .inl (List.mem_cons_of_mem _ h)
   ·exact .inr h
theorem j0 {x:Str}:∀(names:List (Str×NameKind)) (n:Nat) (acc:List (Str×Addr)),(∃c,acc.lookup x=some c)→∃c,(cellsFrom n names acc).lookup x=some c
 | [],_,_,h=>h
 | (name,kind) :: r,n,acc,⟨c,h⟩=>by
  unfold cellsFrom
  split
  ·refine j0 r (n+1) _ ?_
   rw [List.lookup_cons]
   cases hb:x==name with
   | true=>exact ⟨_,rfl⟩
   | false=>exact ⟨c,h⟩
  ·exact j0 r n acc ⟨c,h⟩
theorem kN {x:Str}:∀(names:List (Str×NameKind)) (n:Nat) (acc:List (Str×Addr)),(x,NameKind.cell)∈names→∃c,(cellsFrom n names acc).lookup x=some c
 | (name,kind) :: r,n,acc,h=>by
  unfold cellsFrom
  rcases List.mem_cons.mp h with h | h
  ·injection h with h1 h2
   subst h1;subst h2
   rw [if_pos (show (NameKind.cell==NameKind.cell)=true from rfl)]
   exact j0 r (n+1) _ ⟨n,by simp [List.lookup_cons]⟩
  ·split
   ·exact kN r (n+1) _ h
   ·exact kN r n acc h
theorem IM {M:Model}{A:Around}{E:Value→Shared→Prop}{s:Shared}{scope:Scope}{globals:Addr}{cl:List (Str×Addr)}{qual:Str}{env:Env}{Q:Env→Shared→Prop}
 (h:Q { scope:=scope,locals:=s.heap.objs.size,globals:=globals,cells:=cellsFrom (s.heap.objs.size+1) scope.names cl,qual:=qual,func:=none,code:=env.code,frame:=env.frame,builtins:=env.builtins }
  { s with heap:=pushCells (s.heap.push { cls:=.type "dict",data:=.dict #[] }) scope.names }) :
 wpAny M A (newFunctionEnv scope globals cl [] qual none .none (some env)) Q E s:=by
 simp only [newFunctionEnv,Option.isSome_some,if_true]
 refine wpAny_bind (wpAny_alloc ?_)
 refine wpAny_bind (wpAny_layCells _ (fun name kind cells=>by cases hkc:kind==NameKind.cell <;> simp [hkc]) _ _ _ _ ?_)
 rw [show ({ s with heap:=s.heap.push { cls:=.type "dict",data:=.dict #[] } }:Shared).heap.objs.size=s.heap.objs.size+1 from Heap.size_push ..]
 exact wpAny_bind (by rw [List.forIn_nil];exact wpAny_pure (wpAny_pure h))
section
variable {X:Cx}{elt tg iter:Expr}{ifs:List Expr}{scope:Scope}{pos:Pos}{N':List Str}{L:Nat}{src:List Nat}{wi:TI}{g:TG}{tt:TT}{te:TE}
theorem vQ (hc:X.calm=true) (ck:yz X.env.scope X.N scope N' L src) {cl:List (Str×Addr)}{pins:List (Addr×Obj)}{s:Shared}{σ:St}{H:Hp}{Q:VK} (I:ac X pins σ H s)
 (hsub:∀x c,cl.lookup x=some c→X.env.cells.lookup x=some c) (hhas:∀y∈scope.names,y.2=.free→∃c,cl.lookup y.1=some c)
 (hi:PI X tg iter wi) (hg:∀cl C s H ex pn,PG (eO X scope cl C N' s H ex pn) tg g) (hif:∀cl C s H ex pn,pq (eO X scope cl C N' s H ex pn) ifs tt)
 (he:∀cl C s H ex pn,PE (eO X scope cl C N' s H ex pn) elt te) (h:zH wi L src g tt te σ H Q) {RR:Value→Addr→Result→Shared→Prop}
 (hRR:∀D C H' f s' m,ac X pins σ H' s'→s'.heap.Ns C m→ji X pins H' C→Q (.ref D) H'→RR (.ref D) C (.ok f) s') :
 wpAny (model X.prog X.w) X.A (eval iter X.env) (fun x s₁=>wpAny (model X.prog X.w) X.A (pyIter x) (fun it s₂=>wpAny (model X.prog X.w) X.A (newList []) (fun acc s₃=>
  wpAny (model X.prog X.w) X.A (newFunctionEnv scope X.env.globals cl [] X.env.qual none .none (some X.env)) (fun cenv s₄=>
   codeAny (model X.prog X.w) X.A (.compStart (.ListComp elt [⟨tg,iter,ifs,0⟩] scope pos) 0 it acc { cenv with scope:=relabel scope X.env }) (RR acc cenv.locals) s₄) X.xe s₃) X.xe s₂) X.xe s₁) X.xe s:=by
 refine aK (hi pins s σ H _ I h) fun v s1 h1=>aK h1 fun itv s2 h2=>?_
 obtain ⟨it,fp,tn,J,H2,e,I2,T,st2,f2,q⟩:=h2
 subst e
 refine wpAny_newObj_type (IM ?_)
 dsimp only
 generalize hH2:s2.heap.push { cls:=.type "list",dict:=none,data:=.seq ([]:List Value).toArray }=hp2
 have hns₁:(pushCells (hp2.push { cls:=.type "dict",data:=.dict #[] }) scope.names).Ns hp2.objs.size fun _=>none:=(Heap.Ns.new hp2 (.type "dict")).keeps (pushCells_keeps _ _)
 have kp:∀b o,hp2.get? b=some o→(pushCells (hp2.push { cls:=.type "dict",data:=.dict #[] }) scope.names).get? b=some o:=fun b o e=>pushCells_keeps _ _ b o (Heap.get?_push_of_some _ e)
 have okc:=cellsFrom_ok scope.names (hp2.push { cls:=.type "dict",data:=.dict #[] }) (hp2.objs.size+1) [] ⟨fun _ _ hm=>(nomatch hm),List.Pairwise.nil⟩ (by rw [Heap.size_push];exact Nat.le_refl _)
 rw [Heap.size_push] at okc
 rw [vX]
 have ncell:∀x c,(cellsFrom (hp2.objs.size+1) scope.names []).lookup x=some c→(x,NameKind.cell)∈scope.names:=fun x c e=>(jb _ _ _ (PySem.mem_of_lookup e)).elim id (fun z=>by cases z)
 have nhas:∀x,(x,NameKind.cell)∈scope.names→∃c,(cellsFrom (hp2.objs.size+1) scope.names []).lookup x=some c:=fun x h=>kN _ _ _ h
 generalize pushCells (hp2.push { cls:=.type "dict",data:=.dict #[] }) scope.names=h₁ at hns₁ kp okc ⊢
 generalize cellsFrom (hp2.objs.size+1) scope.names []=nw at okc ncell nhas ⊢
 have hC:hp2.objs.size=s2.heap.objs.size+1:=by rw [←hH2,Heap.size_push]
 have hDC:s2.heap.objs.size≠hp2.objs.size:=by rw [hC];exact Nat.ne_of_lt (Nat.lt_succ_self _)
 have hCle:s2.heap.objs.size≤hp2.objs.size:=by rw [hC];exact Nat.le_succ _
 have below:∀b,b<s2.heap.objs.size→b≠hp2.objs.size∧b≠s2.heap.objs.size:=fun b hb=>⟨by rw [hC];exact Nat.ne_of_lt (Nat.lt_succ_of_lt hb),Nat.ne_of_lt hb⟩
 have old:∀b o,s2.heap.get? b=some o→h₁.get? b=some o:=fun b o e=>kp b o (hH2▸Heap.get?_push_of_some _ e)
 have hacc:h₁.get? s2.heap.objs.size=some { cls:=.type "list",dict:=none,data:=.seq ([]:List Value).toArray }:=kp _ _ (hH2▸Heap.get?_push_size _ rfl)
 have hDn:H2 s2.heap.objs.size=none:=I2.fresh
 obtain ⟨W,⟨m0,w0⟩,turn⟩:=q _ hDn
 have fpo:∀b∈fp,∃o,s2.heap.get? b=some o∧∀v,o.data≠.cell v:=T.obj _ _ st2
 have fplt:∀b∈fp,b<s2.heap.objs.size:=fun b hb=>by obtain ⟨o,e,_⟩:=fpo b hb;exact Heap.lt_size e
 have hfrs:∀b∈fp,b∉gI X.stack:=fun b hb z=>by
  rcases List.mem_cons.mp (I2.stkSub b z) with z' | z'
  ·exact (f2 b hb).2.1 z'
  ·exact (f2 b hb).2.2.1 z'
 have spl:∀x c,(nw++cl).lookup x=some c→nw.lookup x=some c∨(nw.lookup x=none∧cl.lookup x=some c):=fun x c e=>by
  rw [List.lookup_append] at e
  cases q:nw.lookup x with
  | none=>rw [q] at e;exact .inr ⟨rfl,e⟩
  | some c'=>rw [q] at e;exact .inl e
 have nab:∀x c,nw.lookup x=some c→hp2.objs.size+1≤c:=fun x c e=>(okc.empty x c (PySem.mem_of_lookup e)).2
 have olt:∀x c,cl.lookup x=some c→c<s2.heap.objs.size:=fun x c e=>by
  obtain ⟨v,o,ho,_⟩:=I2.cell x c (hsub _ _ e)
  exact Heap.lt_size ho
 have n2o:∀x c y,nw.lookup x=some c→cl.lookup y=some c→False:=fun x c y e1 e2=>Nat.lt_irrefl c (Nat.lt_of_lt_of_le (olt y c e2) (Nat.le_trans hCle (Nat.le_of_succ_le (nab x c e1))))
 generalize hX:eO X scope (nw++cl) hp2.objs.size N' s2 H2 fp (X.pn++pins)=X'
 have ok':X'.Ok:=by
  subst hX
  refine ⟨I2.ok.mod,ck.kind,I2.ok.glob,I2.ok.blt,hCle,fun x y c e1 e2=>(spl x c e1).elim (fun g1=>(spl y c e2).elim (fun g2=>name_of_addr okc.apart (PySem.mem_of_lookup g1) (PySem.mem_of_lookup g2)) (fun g2=>(n2o x c y g1 g2.2).elim)) (fun g1=>(spl y c e2).elim (fun g2=>(n2o y c x g2 g1.2).elim) (fun g2=>I2.ok.inj x y c (hsub _ _ g1.2) (hsub _ _ g2.2))),fun x hx=>?_,fun x c z e=>?cab,I2.ok.hd,I2.ok.frames,.inl rfl,fun b hb=>⟨(below b (fplt b hb)).1,fun x c e=>(spl x c e).elim (fun g z=>Nat.lt_irrefl b (Nat.lt_of_lt_of_le (fplt b hb) (Nat.le_trans hCle (Nat.le_of_succ_le (z▸nab x c g))))) (fun g=>(f2 b hb).2.2.2.2.1 x c (hsub _ _ g.2))⟩,
   I2.bs,Nat.le_trans I2.ok.bsz I2.sz,fun b o e hb=>?_,hfrs,I2.stack,I2.stkFree⟩
  ·-- a name that is a cell or free
   have hx':(relabel scope X.env).names.lookup x=some .cell∨(relabel scope X.env).names.lookup x=some .free:=hx
   have key:∀(names:List (Str×NameKind)),
    ((names.map fun (n,k)=>if (k==NameKind.free && X.env.scope.kind==.function && X.env.kindOf n==some .cell) then (n,NameKind.cell) else (n,k)).lookup x=some .cell∨
     (names.map fun (n,k)=>if (k==NameKind.free && X.env.scope.kind==.function && X.env.kindOf n==some .cell) then (n,NameKind.cell) else (n,k)).lookup x=some .free)→∃y∈names,y.1=x∧(y.2=.free∨y.2=.cell):=by
    intro names
    induction names with
    | nil=>intro h;rcases h with h | h <;> simp at h
    | cons y r ih=>
     intro h
     obtain ⟨n,k⟩:=y
     by_cases hb:x=n
     ·subst hb
      refine ⟨(x,k),List.mem_cons_self,rfl,?_⟩
      by_cases hk:k=.free
      ·exact .inl hk
      ·have hkb:(k==NameKind.free)=false:=by simpa using hk
       right
       simp only [List.map_cons,hkb,Bool.false_and,Bool.false_eq_true,if_false,List.lookup_cons,beq_self_eq_true,if_true] at h
       rcases h with h | h
       ·exact Option.some.inj h
       ·exact absurd (Option.some.inj h) hk
     ·have hb':(x==n)=false:=by simpa using hb
      have h':((r.map fun (n,k)=>if (k==NameKind.free && X.env.scope.kind==.function && X.env.kindOf n==some .cell) then (n,NameKind.cell) else (n,k)).lookup x=some .cell∨
       (r.map fun (n,k)=>if (k==NameKind.free && X.env.scope.kind==.function && X.env.kindOf n==some .cell) then (n,NameKind.cell) else (n,k)).lookup x=some .free):=by
       rw [List.map_cons] at h
       dsimp only at h
       by_cases hcnd:(k==NameKind.free && X.env.scope.kind==.function && X.env.kindOf n==some .cell)=true
       ·rw [if_pos hcnd] at h
        simpa only [List.lookup_cons,hb'] using h
       ·rw [if_neg hcnd] at h
        simpa only [List.lookup_cons,hb'] using h
      obtain ⟨y,hy,e1,e2⟩:=ih h'
      exact ⟨y,List.mem_cons_of_mem _ hy,e1,e2⟩
   obtain ⟨y,hy,e1,e2⟩:=key scope.names hx'
   show ∃c,(nw++cl).lookup x=some c
   rw [List.lookup_append]
   cases q:nw.lookup x with
   | some c=>exact ⟨c,rfl⟩
   | none=>
    rcases e2 with e2 | e2
    ·obtain ⟨c,hc'⟩:=hhas y hy e2
     exact ⟨c,by rw [←e1,hc'];rfl⟩
    ·obtain ⟨c,hc'⟩:=nhas x (by obtain ⟨y1,y2⟩:=y;dsimp only at e1 e2;rw [←e1,←e2];exact hy)
     rw [q] at hc';cases hc'
  case cab=>
   have z':(scope.names.lookup x==some NameKind.cell)=true:=z
   obtain ⟨c',hc'⟩:=nhas x (PySem.mem_of_lookup (by simpa using z'))
   rcases spl x c e with g | g
   ·have:=nab x c g
    show s2.heap.objs.size≤c
    trivial
   ·rw [hc'] at g;cases g.1
  ·rcases (f2 b hb).2.2.2.1 with z | z
   ·exact I2.ok.noex b o e z
   ·exact absurd (Nat.lt_of_lt_of_le (Heap.lt_size e) (Nat.le_trans I2.ok.bsz z)) (Nat.lt_irrefl _)
 have stat:∀{H':Hp},(∀b∈fp,H' b=none)→∀b∈fp,ji X' [] H' b:=by
  subst hX
  intro H' hn b hb
  refine ⟨hn b hb,(below b (fplt b hb)).1,hfrs b hb,.inl hb,fun x c e=>(spl x c e).elim (fun g z=>Nat.lt_irrefl b (Nat.lt_of_lt_of_le (fplt b hb) (Nat.le_trans hCle (Nat.le_of_succ_le (z▸nab x c g))))) (fun g=>(f2 b hb).2.2.2.2.1 x c (hsub _ _ g.2)),fun p hp=>?_⟩
  have hp':p∈X.pn++pins:=by simpa [eO,fh] using hp
  exact (f2 b hb).2.2.2.2.2 p hp'
 have I1:ac X' [] (gJ L src σ) (aD H2 s2.heap.objs.size (.lst [])) { s2 with heap:=h₁,toks:=s2.toks }:=by
  subst hX
  have up:∀b o,H2 b=some o→aD H2 s2.heap.objs.size (.lst []) b=some o:=fun b o e=>by rw [aj (aR e hDn)];exact e
  have upn:∀b,b<s2.heap.objs.size→H2 b=none→aD H2 s2.heap.objs.size (.lst []) b=none:=fun b hb e=>by rw [aj (Nat.ne_of_lt hb)];exact e
  refine ⟨ok',rfl,I2.bare,Un.laid old (Nat.le_refl _) hDn,⟨_,hns₁,fun i x v e1 e2 e3=>?_⟩,fun x c e=>?_,?_,fun x c e=>?_,fun p hp=>?_,I2.hok.laid old (Nat.le_refl _) ⟨Nat.zero_le _,[],0,.nil,hacc⟩,?_⟩
  ·-- the names of the def around
   have hiL:L≤i:=by
    by_cases hlt:i<L
    ·exfalso
     unfold gJ at e2
     rw [List.getElem?_append_left (by simpa using hlt),List.getElem?_replicate,if_pos hlt] at e2
     cases e2
    ·trivial
   have e2':(src.map fun j=>(σ[j]?).join)[i - L]?=some (some v):=by
    unfold gJ at e2
    rw [List.getElem?_append_right (by simpa using hiL),List.length_replicate] at e2
    exact e2
   rw [List.getElem?_map] at e2'
   cases hj:src[i - L]? with
   | none=>rw [hj] at e2';cases e2'
   | some j=>
    rw [hj] at e2'
    have e3':(σ[j]?).join=some v:=Option.some.inj e2'
    have hσ:σ[j]?=some (some v):=by
     cases q:σ[j]? with
     | none=>rw [q] at e3';cases e3'
     | some o=>rw [q] at e3';exact congrArg some e3'
    obtain ⟨x',g1,g2,g3⟩:=ck.frees (i - L) j hj
    have:L+(i - L)=i:=by trivial
    rw [this] at g1
    have ex:x'=x:=Option.some.inj (g1.symm.trans e1)
    subst ex
    have hfree:=ck.free _ (PySem.mem_of_lookup g3) rfl
    obtain ⟨m,hn,hl⟩:=I2.loc
    obtain ⟨u,r,l⟩:=hl j x' v g2 hσ (hfree.elim (fun z=>.inr (.inl z)) fun z=>.inr (.inr z))
    refine ⟨u,r,.inr ⟨?_,?_⟩⟩
    ·-- its kind in the block
     have key:∀(names:List (Str×NameKind)),names.lookup x'=some .free→
      ((names.map fun (n,k)=>if (k==NameKind.free && X.env.scope.kind==.function && X.env.kindOf n==some .cell) then (n,NameKind.cell) else (n,k)).lookup x'=some .cell∨
       (names.map fun (n,k)=>if (k==NameKind.free && X.env.scope.kind==.function && X.env.kindOf n==some .cell) then (n,NameKind.cell) else (n,k)).lookup x'=some .free):=by
      intro names
      induction names with
      | nil=>intro h;simp at h
      | cons y r ih=>
       intro h
       obtain ⟨n,k⟩:=y
       by_cases hb:x'=n
       ·subst hb
        simp only [List.lookup_cons,beq_self_eq_true,if_true] at h
        have hk:k=.free:=Option.some.inj h
        subst hk
        rw [List.map_cons]
        dsimp only
        by_cases hcnd:(NameKind.free==NameKind.free && X.env.scope.kind==.function && X.env.kindOf x'==some .cell)=true
        ·rw [if_pos hcnd];left;simp [List.lookup_cons]
        ·rw [if_neg hcnd];right;simp [List.lookup_cons]
       ·have hb':(x'==n)=false:=by simpa using hb
        have h':=ih (by simpa only [List.lookup_cons,hb'] using h)
        rw [List.map_cons]
        dsimp only
        by_cases hcnd:(k==NameKind.free && X.env.scope.kind==.function && X.env.kindOf n==some .cell)=true
        ·rw [if_pos hcnd];simpa only [List.lookup_cons,hb'] using h'
        ·rw [if_neg hcnd];simpa only [List.lookup_cons,hb'] using h'
     exact key scope.names g3
    ·obtain ⟨c,hcl⟩:=hhas _ (PySem.mem_of_lookup g3) rfl
     have hcx:=hsub _ _ hcl
     rcases l with ⟨k1,_⟩ | ⟨_,c',e4,z⟩
     ·exfalso
      have k1':X.env.scope.names.lookup x'=some .local:=k1
      rcases hfree with z | z
      ·rw [z] at k1';cases k1'
      ·rw [z] at k1';cases k1'
     ·rw [hcx] at e4
      cases e4
      obtain ⟨o,ho,hd⟩:=z
      refine ⟨c,?_,o,old _ _ ho,hd⟩
      show (nw++cl).lookup x'=some c
      rw [List.lookup_append]
      cases q:nw.lookup x' with
      | none=>exact hcl
      | some c'=>
       exfalso
       have:=ck.cells _ (ncell _ _ q) rfl
       dsimp only at this
       rw [g3] at this;cases this
  ·rcases spl x c e with g | g
   ·exact ⟨none,(okc.empty x c (PySem.mem_of_lookup g)).1⟩
   ·obtain ⟨v,o,ho,hd⟩:=I2.cell x c (hsub _ _ g.2)
    exact ⟨v,o,old _ _ ho,hd⟩
  ·show aD H2 s2.heap.objs.size (.lst []) hp2.objs.size=none
   rw [aj (Ne.symm hDC)]
   exact I2.hok.fresh hCle
  ·rcases spl x c e with g | g
   ·have:=nab x c g
    rw [aj (by intro z;rw [z] at this;trivial)]
    exact I2.hok.fresh (by trivial)
   ·obtain ⟨v,o,ho,hd⟩:=I2.cell x c (hsub _ _ g.2)
    exact upn c (Heap.lt_size ho) (I2.freeC x c (hsub _ _ g.2))
  ·have hp':p∈X.pn++pins:=by simpa [eO,fh] using hp
   obtain ⟨e,n,ne,nf,d⟩:=I2.pin p hp'
   have hlt:=Heap.lt_size e
   refine ⟨old _ _ e,upn _ hlt n,(below _ hlt).1,fun z=>?_,d⟩
   rcases List.mem_cons.mp (I2.stkSub _ z) with z' | z'
   ·exact ne z'
   ·exact nf z'
  ·show (gJ L src σ).length=N'.length
   unfold gJ
   rw [List.length_append,List.length_replicate,List.length_map,ck.len]
 have eA:X'.A=X.A:=by subst hX;rfl
 have eP:X'.prog=X.prog:=by subst hX;rfl
 have eW:X'.w=X.w:=by subst hX;rfl
 have eK:X'.K=X.K:=by subst hX;rfl
 have ec:X'.calm=true:=by subst hX;exact hc
 have exe:X'.xe=fun _ _=>False:=by subst hX;rfl
 have eE:X'.env=compEnvC scope (nw++cl) hp2.objs.size X.env:=by subst hX;rfl
 have hg':PG X' tg g:=by subst hX;exact hg _ _ _ _ _ _
 have hif':pq X' ifs tt:=by subst hX;exact hif _ _ _ _ _ _
 have he':PE X' elt te:=by subst hX;exact he _ _ _ _ _ _
 have aft:∀{H':Hp}{s':Shared},ac X' [] (gJ L src σ) H' s'→ac X pins σ H' s'∧(∃m,s'.heap.Ns hp2.objs.size m)∧ji X pins H' hp2.objs.size:=by
  subst hX
  intro H' s' J
  refine ⟨I2.call' (ch:=fp) J.os J.base J.hok J.bare fun b hb=>⟨(f2 b hb).2.2.2.1,(f2 b hb).2.1,(f2 b hb).2.2.2.2.1,(f2 b hb).2.2.2.2.2⟩,?_,I2.fpOk hCle J.free⟩
  obtain ⟨m,hn,_⟩:=J.loc
  exact ⟨m,hn⟩
 have st1:tn 0 h₁:=T.keep _ _ _ st2 fun b hb o e=>old b o e
 have loop:∀s₃:Shared,s₃={ s2 with heap:=h₁,toks:=s2.toks }→
  codeAny (model X.prog X.w) X.A (.compLoop (.ListComp elt [⟨tg,iter,ifs,0⟩] scope pos) 0 (.ref it) (.ref s2.heap.objs.size) (compEnvC scope (nw++cl) hp2.objs.size X.env))
   (RR (.ref s2.heap.objs.size) hp2.objs.size) s₃:=by
  rintro s₃ rfl
  refine wV (fun n s'=>eH fun i H' ys=>ac X' [] (gJ L src σ) H' s'∧tn i s'.heap∧(∀b∈fp,H' b=none)∧W i n H' ys) ?_ m0
   ⟨0,_,[],I1,st1,fun b hb=>(by rw [aj (below b (fplt b hb)).2];exact (f2 b hb).1),w0⟩
  rintro n s3 ⟨i,H3,ys,I3,st3,fr3,w3⟩
  obtain ⟨hD,alt⟩:=turn i n H3 ys w3
  rcases alt with ⟨stop,qn⟩ | ⟨go,hlen,N,hN,step⟩
  ·have d:=T.done X' eP eW eK ec i [] s3 (gJ L src σ) H3 (fun _ _=>False) I3 (stat fr3) st3 stop
   rw [eA] at d
   refine aK d fun r s4 ⟨hr,I4⟩=>?_
   subst hr
   obtain ⟨J,⟨m,hn⟩,fpC⟩:=aft I4
   exact hRR _ _ H3 .next s4 m J hn fpC qn
  ·have d:=T.item X' eP eW eK ec i [] s3 (gJ L src σ) H3 (fun _ _=>False) I3 (stat fr3) st3 go
   rw [eA] at d
   refine aK d fun r s4 ⟨u,hr,h4⟩=>?_
   subst hr
   refine aK h4 fun _ s5 ⟨x,H5,I5,r5,y5,st5,fr5⟩=>?_
   have I5':=I5.pinned (stat fr5) (T.obj _ _ st5)
   have a1:=hg' _ s5 (gJ L src σ) H5 x u _ I5' r5 (step x H5 y5)
   rw [eP,eW,eA,eE,exe] at a1
   refine aK a1 fun _ s6 ⟨σ6,H6,I6,bk,q6⟩=>?_
   have a2:=hif' _ s6 σ6 H6 _ I6 q6
   rw [eP,eW,eA,eE,exe] at a2
   refine aK a2 fun b s7 ⟨H7,I7,q7⟩=>?_
   have again:∀{H8:Hp}{s8:Shared}{ys':List V},ac X' ([]++ou fp s5.heap) σ6 H8 s8→N H8 ys'→∃m,m<n∧eH fun i H' ys=>ac X' [] (gJ L src σ) H' s8∧tn i s8.heap∧(∀b∈fp,H' b=none)∧W i m H' ys:=fun {H8 s8 ys'} I8 n8=>by
    obtain ⟨m',hm,w8⟩:=hN H8 ys' n8
    refine ⟨m',hm,i+1,H8,ys',(I8.unpinned).weak bk.1.symm bk.2,T.keep _ _ _ st5 fun b hb o e=>(I8.pin (b,o) (List.mem_append_right _ (List.mem_append_right _ (iu hb e)))).1,fun b hb=>?_,w8⟩
    obtain ⟨o,e,d⟩:=T.obj _ _ st5 b hb
    exact (I8.pin (b,o) (List.mem_append_right _ (List.mem_append_right _ (iu hb e)))).2.1
   cases b with
   | false=>
    rw [if_neg Bool.false_ne_true] at q7 ⊢
    exact again I7 q7
   | true=>
    rw [if_pos rfl] at q7 ⊢
    have a3:=he' _ s7 σ6 H7 _ I7 q7
    rw [eP,eW,eA,eE,exe] at a3
    refine aK a3 fun xv s8 ⟨y,H8,I8,r8,hD8,q8⟩=>?_
    have a4:=qI (X:=X') _ s8 σ6 H8 (.ref s2.heap.objs.size) [y] (.ref s2.heap.objs.size) [xv] (fun _ H'=>H'=aD H8 s2.heap.objs.size (.lst (ys++[y]))) I8 rfl (.cons r8 .nil) ⟨_,ys,y,rfl,rfl,hD8,hlen,rfl⟩
    rw [eP,eW,eA,exe] at a4
    refine aK a4 fun _ s9 ⟨_,H9,I9,_,e9⟩=>?_
    subst e9
    exact again I9 q8
 exact codeAny_compStart_list (loop _ rfl) (T.self _ 0 _ _ _ st1 (loop _ rfl))
theorem cV (hc:X.calm=true) (ck:pJ X.env.scope X.N scope N' L src=true) (hi:PI X tg iter wi) (hg:∀cl C s H ex pn,PG (eO X scope cl C N' s H ex pn) tg g) (hif:∀cl C s H ex pn,pq (eO X scope cl C N' s H ex pn) ifs tt)
 (he:∀cl C s H ex pn,PE (eO X scope cl C N' s H ex pn) elt te) (hs:∀x,foldedSetIterable iter X.env x=pure x:=by intro _;rfl) :
 PE X (.ListComp elt [⟨tg,iter,ifs,0⟩] scope pos) (zH wi L src g tt te):=by
 intro pins s σ H Q I h
 have ck:=uo ck
 obtain ⟨cl,hclos,hsub,hhas⟩:=u0 (scope:=scope) (env:=X.env) fun y hy e=>I.ok.has y.1 (ck.free y hy e)
 rw [eval_ListComp]
 refine wpAny_comprehension_free (use:=none) rfl hs hclos ck.kind ck.loc (vQ hc ck I hsub hhas hi hg hif he h (RR:=fun acc C=>compPost (model X.prog X.w) X.A X.xe none (EP X pins σ Q) acc C) ?_)
 intro D C H' f s' m J hn fpC q
 refine ⟨m,hn,fun h' hsb=>⟨.ref D,H',?_,rfl,q⟩⟩
 obtain ⟨f0,f1,f2,f3,f4,f5⟩:=fpC
 exact J.turned (t':=s'.toks) (fun b o hb e=>(hsb.2 b hb).trans e) f0 f1 f3 f4 f5
theorem sD {j:Nat}{y:Str}{py spos:Pos} (hN:X.N.Nodup) (hj:X.N[j]?=some y) (hy:X.env.scope.names.lookup y=some .local) (hsw:swapsWith (.ListComp elt [⟨tg,iter,ifs,0⟩] scope pos) (some (.Name y py)) spos.line X.env=pure true)
 (hc:X.calm=true) (ck:pJ X.env.scope X.N scope N' L src=true) (hi:PI X tg iter wi) (hg:∀cl C s H ex pn,PG (eO X scope cl C N' s H ex pn) tg g) (hif:∀cl C s H ex pn,pq (eO X scope cl C N' s H ex pn) ifs tt)
 (he:∀cl C s H ex pn,PE (eO X scope cl C N' s H ex pn) elt te) (hs:∀x,foldedSetIterable iter X.env x=pure x:=by intro _;rfl) :
 PS X (.Assign [.Name y py] (.ListComp elt [⟨tg,iter,ifs,0⟩] scope pos) spos) (xr (zH wi L src g tt te) (rS j)):=by
 intro pins s σ H D I h
 have ck:=uo ck
 obtain ⟨cl,hclos,hsub,hhas⟩:=u0 (scope:=scope) (env:=X.env) fun y hy e=>I.ok.has y.1 (ck.free y hy e)
 rw [exec_Assign_Name_used _ _ _ _ hsw]
 refine wpAny_bind (wpAny_standAt (wpAny_bind ?_))
 show wpAny _ X.A (do let _ ←comprehension (.ListComp elt [⟨tg,iter,ifs,0⟩] scope pos) scope X.env _ (newList []) false (eval iter X.env) (some (assign (.Name y py) X.env))) _ _ s
 refine wpAny_bind (wpAny_mono (wpAny_comprehension_free (use:=some (assign (.Name y py) X.env)) (Q:=fun _ s'=>SP X pins D .next s') rfl hs hclos ck.kind ck.loc
  (vQ hc ck I hsub hhas hi hg hif he h (RR:=fun acc C=>compPost (model X.prog X.w) X.A X.xe (some (assign (.Name y py) X.env)) (fun _ s'=>SP X pins D .next s') acc C) ?_)) (fun _ s' hq=>wpAny_pure (wpAny_pure hq)) fun _ _ e=>e)
 intro L' C H' f s' m J hn fpC q
 show wpAny _ X.A (assign (.Name y py) X.env (.ref L')) _ _ _
 refine wpAny_assign_Name (qC J hN hj (.inl hy) (v:=.ref L') rfl (fun s2 J2 hsb=>?_) (.inr hy))
 obtain ⟨f0,f1,f2,f3,f4,f5⟩:=fpC
 obtain ⟨a,hsb,ha⟩:=hsb
 have hCa:C≠a:=by
  rcases ha with rfl | ha
  ·exact f1
  ·exact fun z=>f4 _ _ ha z.symm
 refine ⟨m,hn.sameBut hsb hCa,fun h' hsb'=>⟨_,H',?_,q⟩⟩
 exact J2.turned (t':=s2.toks) (fun b o hb e=>(hsb'.2 b hb).trans e) f0 f1 f3 f4 f5
end
end L2
namespace HT
open PySem PySem.Spec PyProof.Rows
section
variable {prog:Program}{w:World}{A:Around}{E:Value→Shared→Prop}{s:Shared}
end
end HT
namespace L2
open PySem PySem.Spec PyProof.Rows
section
variable {X:Cx}{K:PySem.W.Frag}
end
section
variable {X:Cx}{e:Expr}{te:TE}{st:Expr}{ts:TO}{p2 pos:Pos}
end
end L2
namespace L2
open PySem PySem.Spec PyProof.Rows
end L2
namespace L2
open PySem PySem.Spec PyProof.Rows
section
variable {H H' H'':Hp}{z n k m:Nat}{v:V}{E:Addr→Prop}{b th th' p:Addr}{xs ys zs:List V}
end
section
variable {E:Addr→Prop}{z:Nat}{H0:Hp}{σ:St}{n k m:Nat}{te tb:TE}{ta:TA}{v:V}{i:Nat}{p:Addr}{xs:List V}{K:PySem.W.Frag}
end
section
variable {b th:Addr}{H0:Hp}{σ:St}{zs:List V}{ta:TA}{te:TE}{n i:Nat}{Q:VK}{K:PySem.W.Frag}
end
end L2
namespace L2
open PySem PySem.Spec PyProof.Rows
theorem bD {te:TE}{i:Nat}{u:TS}{D:dn}{σ:St}{H:Hp} (h:∀Q:VK,(∀v H',u D (σ.set i (some v)) H'→Q v H')→te σ H Q):kG (xr te (rS i)) u D σ H:=h _ fun _ _ z=>z
theorem Cs {ta:TA}{i j:Nat}{u:TS}{D:dn}{σ:St}{H:Hp} (h:∀Q:List V→Hp→Prop,(∀v w H',u D ((σ.set i (some v)).set j (some w)) H'→Q [v,w] H')→ta σ H Q):kG (FX i j ta) u D σ H:=h _ fun _ _ _ z=>⟨_,_,rfl,z⟩
theorem pB {α:Type}{P:List α→Prop} (h:∀a,P [a]):∀us:List α,us.length=1→P us:=fun us hl=>by
 cases us with
 | nil=>cases hl
 | cons a r=>cases r with
  | nil=>exact h a
  | cons b r=>simp at hl
theorem dE {α:Type}{P:List α→Prop} (h:∀a b,P [a,b]):∀us:List α,us.length=2→P us:=fun us hl=>by
 cases us with
 | nil=>cases hl
 | cons a r=>exact pB (P:=fun r=>P (a :: r)) (fun b=>h a b) r (by simpa using hl)
theorem pL {α:Type}{P:List α→Prop} (h:∀a b c,P [a,b,c]):∀us:List α,us.length=3→P us:=fun us hl=>by
 cases us with
 | nil=>cases hl
 | cons a r=>exact dE (P:=fun r=>P (a :: r)) (fun b c=>h a b c) r (by simpa using hl)
theorem FG {α:Type}{P:List α→Prop} (h:∀a b c d,P [a,b,c,d]):∀us:List α,us.length=4→P us:=fun us hl=>by
 cases us with
 | nil=>cases hl
 | cons a r=>exact pL (P:=fun r=>P (a :: r)) (fun b c d=>h a b c d) r (by simpa using hl)
end L2
namespace L2
open PySem PySem.Spec PyProof.Rows
theorem xp:∀{xs:List V}{us:List Value},xs.length=us.length→(∀(i:Nat) x u,xs[i]?=some x→us[i]?=some u→aQ x u)→aC xs us
 | [],[],_,_=>.nil
 | x :: xs,u :: us,hl,h=>.cons (h 0 x u rfl rfl) (xp (by simpa using hl) fun i y w e1 e2=>h (i+1) y w e1 e2)
section
variable {X:Cx}{a:Expr}{ta:TA}{p p2 pos pos2:Pos}
end
end L2
namespace L2
open PySem PySem.Spec PyProof.Rows
abbrev kF (h:Heap) (z TI TO:Addr) (f0:Value) (b:Bool):Prop:=h.get? z=some { cls:=.type "zip",dict:=none,data:=.fields #[f0,.bool b,.bool false,.ref TI,.ref TO],slots:=#[] }
theorem x5 {M:Model}{A:Around}{E:Value→Shared→Prop}{s:Shared}{a:Addr}{o:Obj}{Q:Option Obj→Shared→Prop} (e:s.heap.get? a=some o) (h:Q (some o) s):wpAny M A (loadIfAlive a) Q E s:=fun Γ p hΓ=>by
 unfold loadIfAlive
 rw [Sem.wp_loadIfAlive,e]
 exact h
section
variable {prog:Program}{w:World}{A:Around}{E:Value→Shared→Prop}{s:Shared}
variable {z TI TO i1 i2 l1 l2 T:Addr}{k:Nat}{xs ys:Array Value}{bb:Bool}{c1 c2:Bool}{oT:Obj}
theorem yK {Q:Bool→Shared→Prop} (hz:kF s.heap z TI TO (rawInt T) bb) (hT:s.heap.get? T=some oT)
 (h:∀h',kF h' z TI TO (rawInt T) true→Heap.SameBut z s.heap h'→Q false { s with heap:=h' }):wpAny (model prog w) A (Builtin.SmallTypes.ownedTupleIsFree (.ref z)) Q E s:=by
 unfold Builtin.SmallTypes.ownedTupleIsFree
 refine wpAny_bind (wpAny_field hz rfl (x:=rawInt T) rfl ?_)
 show wpAny _ _ (loadIfAlive ((T:Int).toNat) >>= _) _ _ _
 refine wpAny_bind (x5 (a:=(T:Int).toNat) (by rw [Int.toNat_natCast];exact hT) ?_)
 simp only [Option.isNone_some,Bool.false_eq_true,if_false]
 refine wpAny_bind (wpAny_field hz rfl (x:=.bool bb) rfl ?_)
 cases bb with
 | true=>exact wpAny_pure (h s.heap hz (Heap.SameBut.refl ..))
 | false=>
  refine wpAny_bind (wpAny_setField_rec hz (by simp) fun h' e sb=>wpAny_pure (h h' e sb))
end
end L2
namespace L2
open PySem PySem.Spec PyProof.Rows
theorem iJ:entryFor table "dict.update.loop" = some Builtin.«dict.update.loop»:=entryFor_of_tree (by kernel_rfl)
theorem de:plainId "dict.update.loop" = true:=by decide +kernel
theorem y4 {kvs:List (aJ×Value)}{k:aJ}{v:Value} (h:k∉kvs.map (·.1)):stored kvs k v=kvs++[(k,v)]:=by
 unfold stored
 rw [if_neg]
 intro z
 obtain ⟨x,hx,e⟩:=List.any_eq_true.mp z
 exact h (by rw [←of_decide_eq_true e];exact List.mem_map_of_mem hx)
theorem xX {α β:Type}:∀{ks:List α}{us:List β},ks.length=us.length→(ks.zip us).map (·.1)=ks
 | [],[],_=>rfl
 | k :: ks,u :: us,h=>by simp [xX (ks:=ks) (us:=us) (by simpa using h)]
section
variable {prog:Program}{w:World}{A:Around}{E:Value→Shared→Prop}{R:Result→Shared→Prop}
variable {z TI TO i1 i2 l1 l2 d:Addr}{xs ys:Array Value}{c1 c2:Bool}{ks:List aJ}
end
theorem xG:bootBuiltins "dict" = some (.type "dict"):=by decide +kernel
theorem Bb:∀{ks:List aJ}{ys:List V}{us:List Value},aC ys us→KV (ks.zip ys) (ks.zip us)
 | [],_,_,_=>.nil
 | _ :: _,_,_,.nil=>.nil
 | k :: ks,_,_,.cons r t=>.cons ⟨rfl,r⟩ (Bb t)
section
variable {X:Cx}{K:PySem.W.Frag}{a b:Expr}{ta:TA}{p1 p2 p3 p4:Pos}
def valD (kvs:List (aJ×V)) (k:aJ):Option V:=(kvs.find? fun kv=>decide (kv.1=k)).map (·.2)
theorem KV.valD:∀{kvs:List (aJ×V)}{vs:List (aJ×Value)} (r:KV kvs vs) (k:aJ),qK (valD kvs k) (valueAt vs k)
 | _,_,.nil,_=>trivial
 | p :: ps,q :: qs,.cons h t,k=>by
  obtain ⟨h1,h2⟩:=h
  by_cases e:p.1=k
  ·have e':q.1=k:=h1.symm.trans e
   have b1:L2.valD (p :: ps) k=some p.2:=by simp [L2.valD,List.find?_cons,e]
   have b2:valueAt (q :: qs) k=some q.2:=by simp [valueAt,List.find?_cons,e']
   rw [b1,b2];exact h2
  ·have e':¬q.1=k:=fun z=>e (h1.trans z)
   have b1:L2.valD (p :: ps) k=L2.valD ps k:=by simp [L2.valD,List.find?_cons,e]
   have b2:valueAt (q :: qs) k=valueAt qs k:=by simp [valueAt,List.find?_cons,e']
   rw [b1,b2];exact KV.valD t k
inductive GU (x:V) (y:V) (H:Hp) (Q:VK):Prop
 | mk (d:Addr) (kvs:List (aJ×V)) (k:aJ) (v:V) (h0:x=.ref d) (h1:y=f9 k) (h2:H d=some (.dK kvs)) (h3:valD kvs k=some v) (h4:Q v H)
def IY:R2:=fun x y H Q=>GU  x y H Q
theorem i3 {P:Program}{w:World}{k:aJ}{u:Value} (r:aQ (f9 k) u):(bI P w).is k u=true:=(uZ r).1
theorem eM:p7 X IY:=by
 intro value slice pins s σ H x y v u Q I rx ry h hs
 obtain ⟨d,kvs,k,z,rfl,rfl,hd,he,q⟩:=h
 cases rx
 obtain ⟨_,_,vs,rel,dd⟩:=(show aV X.prog X.w H s.heap d (.dK kvs) from I.hok d _ hd)
 have hv:=rel.valD k
 rw [he] at hv
 obtain ⟨w',hw,rw'⟩:=qK.some_of hv
 exact subscriptTail_builtinR (x:=w') dd.typeIs PySem.F.slot_dict_getitem.lookup (wpAny_getItem_of (i3 ry) dd.mapOf hw ⟨rfl,z,H,I.tok _,rw',q⟩) hs
theorem wR:∀{ks:List aJ}{ys:List V}{i:Nat}{k:aJ}{y:V},ks.Nodup→ks[i]?=some k→ys[i]?=some y→valD (ks.zip ys) k=some y
 | [],_,_,_,_,_,h,_=>by simp at h
 | _ :: _,[],_,_,_,_,_,h=>by simp at h
 | k0 :: ks,y0 :: ys,0,k,y,_,h1,h2=>by
  simp at h1 h2
  subst h1 h2
  simp [valD]
 | k0 :: ks,y0 :: ys,i+1,k,y,nd,h1,h2=>by
  simp only [List.getElem?_cons_succ] at h1 h2
  have ne:¬k0=k:=fun z=>by
   rw [z] at nd
   exact (List.nodup_cons.mp nd).1 (List.mem_of_getElem? h1)
  have b1:valD ((k0 :: ks).zip (y0 :: ys)) k=valD (ks.zip ys) k:=by simp [valD,List.find?_cons,ne]
  rw [b1]
  exact wR (List.nodup_cons.mp nd).2 h1 h2
end
section
variable {X:Cx}
end
end L2
namespace L2
open PySem PySem.Spec PyProof.Rows
theorem aH {a b:Nat} (h:a≠b):@Ne Addr a b:=h
abbrev cD (h:Heap) (T:Addr) (a b c:Value):Prop:=h.get? T=some { cls:=.type "tuple",data:=.seq #[a,b,c] }
section
variable {prog:Program}{w:World}{A:Around}{E:Value→Shared→Prop}{s:Shared}
theorem pP {T:Addr}{a b c x:Value}{k:Nat}{Q:Unit→Shared→Prop} (hT:cD s.heap T a b c)
 (h:∀h',h'.get? T=some { cls:=.type "tuple",data:=.seq ((#[a,b,c]:Array Value).setIfInBounds k x) }→Heap.SameBut T s.heap h'→Q () { s with heap:=h' }) :
 wpAny (model prog w) A (updateSeq T (·.setIfInBounds k x)) Q E s:=by
 refine wpAny_updateSeq hT rfl (h _ ?_ (Heap.SameBut.update ..))
 rw [Heap.get?_update_self _ hT rfl]
 simp [Obj.mapSeq]
variable {n l1 l2 l3 T:Nat}{k:Nat}{xs ys zs:Array Value}{bb:Bool}{oT:Obj}
set_option maxHeartbeats 1000000 in
theorem BB {a b c x y v:Value}{Q:Value→Shared→Prop} (hl:l1<n∧l2<n∧l3<n)
 (hz:IsZip s.heap (n+5) (n+3) (n+4) .none) (hTI:cD s.heap (n+3) (.ref n) (.ref (n+1)) (.ref (n+2))) (hTO:cD s.heap (n+4) a b c) (hh:A.handled=none)
 (h1:bM s.heap n l1 k true) (h2:bM s.heap (n+1) l2 k true) (h3:bM s.heap (n+2) l3 k true) (q1:bU s.heap l1 xs true) (q2:bU s.heap l2 ys true) (q3:bU s.heap l3 zs true) (hx:xs[k]?=some x) (hy:ys[k]?=some y) (hv:zs[k]?=some v)
 (hQ:∀h' tk,IsZip h' (n+5) (n+3) (n+4) (rawInt s.heap.objs.size)→bM h' n l1 (k+1) true→bM h' (n+1) l2 (k+1) true→bM h' (n+2) l3 (k+1) true→cD h' s.heap.objs.size x y v→h'.objs.size=s.heap.objs.size+1→
  (∀(c:Nat) o,c≠n+5→c≠n+4→c≠n→c≠n+1→c≠n+2→s.heap.get? c=some o→h'.get? c=some o)→Q (.ref s.heap.objs.size) { s with heap:=h',toks:=tk }) :
 wpAny (model prog w) A (Builtin.«zip.__next__» ⟨[.ref (n+5)],[]⟩) (fun aP s'=>∃v,aP=.done (.ret v)∧Q v s') E s:=by
 obtain ⟨m1,m2,m3⟩:=hl
 have kx:k<xs.size:=(Array.getElem?_eq_some_iff.mp hx).1
 have ky:k<ys.size:=(Array.getElem?_eq_some_iff.mp hy).1
 have kv:k<zs.size:=(Array.getElem?_eq_some_iff.mp hv).1
 have D1:=fP (prog:=prog) (w:=w) hh n l1 (aH (by trivial)) xs true
 have D2:=fP (prog:=prog) (w:=w) hh (n+1) l2 (aH (by trivial)) ys true
 have D3:=fP (prog:=prog) (w:=w) hh (n+2) l3 (aH (by trivial)) zs true
 show wpAny _ _ (field (.ref (n+5)) 2 >>= _) _ _ _;refine wpAny_bind (wpAny_field hz rfl (x:=.bool false) rfl ?_)
 show wpAny _ _ (field (.ref (n+5)) 3 >>= _) _ _ _;refine wpAny_bind (wpAny_field hz rfl (x:=.ref (n+3)) rfl (wpAny_bind (wpAny_seqItems hTI rfl ?_)))
 show wpAny _ _ (Builtin.SmallTypes.ownedTupleIsFree (.ref (n+5)) >>= _) _ _ _;refine wpAny_bind ?_;unfold Builtin.SmallTypes.ownedTupleIsFree
 refine wpAny_bind (wpAny_field hz rfl (x:=.none) rfl (wpAny_pure ?_));simp only [if_true]
 refine wpAny_bind (wpAny_rule (wpAny_bind (wpAny_field hz rfl (x:=.ref (n+4)) rfl (wpAny_bind (wpAny_setField_rec hz (by simp) fun g1 z1 t1=>?_)))))
 replace z1:IsZip g1 (n+5) (n+3) (n+4) .ellipsis:=z1
 refine wpAny_bind ?_;simp only [List.zipIdx_cons,List.zipIdx_nil,List.forIn_cons,List.forIn_nil];refine wpAny_bind (wpAny_bind (wpAny_onRaise ?_))
 show wpAny _ _ (Builtin.SmallTypes.nextOf (.ref n) >>= _) _ _ _
 refine wpAny_bind (D1.item k _ _ _ kx ⟨h1.at fun o e=>t1.extBut _ _ (aH (by trivial)) e,q1.at fun o e=>t1.extBut _ _ (aH (by trivial)) e⟩ fun x' g2 tk2 p1 st1 t2=>wpAny_pure ?_)
 have ex:x=x':=Option.some.inj (hx.symm.trans p1)
 subst ex
 have TO2:cD g2 (n+4) a b c:=t2.extBut _ _ (aH (by trivial)) (t1.extBut _ _ (aH (by trivial)) hTO)
 refine wpAny_bind (wpAny_seqItems TO2 rfl (wpAny_bind (pP TO2 fun g3 TO3 t3=>?_)))
 replace TO3:cD g3 (n+4) x b c:=TO3
 refine wpAny_bind (wpAny_letGo (wpAny_pure ?_));refine wpAny_bind (wpAny_bind (wpAny_onRaise ?_));show wpAny _ _ (Builtin.SmallTypes.nextOf (.ref (n+1)) >>= _) _ _ _
 refine wpAny_bind (D2.item k _ _ _ ky ⟨h2.at fun o e=>t3.extBut _ _ (aH (by trivial)) (t2.extBut _ _ (aH (by trivial)) (t1.extBut _ _ (aH (by trivial)) e)),q2.at fun o e=>t3.extBut _ _ (aH (by trivial)) (t2.extBut _ _ (aH (by trivial)) (t1.extBut _ _ (aH (by trivial)) e))⟩ fun y' g4 tk4 p2 st2 t4=>wpAny_pure ?_)
 have ey:y=y':=Option.some.inj (hy.symm.trans p2)
 subst ey
 have TO4:cD g4 (n+4) x b c:=t4.extBut _ _ (aH (by trivial)) TO3
 refine wpAny_bind (wpAny_seqItems TO4 rfl (wpAny_bind (pP TO4 fun g5 TO5 t5=>?_)))
 replace TO5:cD g5 (n+4) x y c:=TO5
 refine wpAny_bind (wpAny_letGo (wpAny_pure ?_));refine wpAny_bind (wpAny_bind (wpAny_onRaise ?_));show wpAny _ _ (Builtin.SmallTypes.nextOf (.ref (n+2)) >>= _) _ _ _
 refine wpAny_bind (D3.item k _ _ _ kv ⟨h3.at fun o e=>t5.extBut _ _ (aH (by trivial)) (t4.extBut _ _ (aH (by trivial)) (t3.extBut _ _ (aH (by trivial)) (t2.extBut _ _ (aH (by trivial)) (t1.extBut _ _ (aH (by trivial)) e)))),q3.at fun o e=>t5.extBut _ _ (aH (by trivial)) (t4.extBut _ _ (aH (by trivial)) (t3.extBut _ _ (aH (by trivial)) (t2.extBut _ _ (aH (by trivial)) (t1.extBut _ _ (aH (by trivial)) e))))⟩ fun v' g6 tk6 p3 st3 t6=>wpAny_pure ?_)
 have ev:v=v':=Option.some.inj (hv.symm.trans p3)
 subst ev
 have TO6:cD g6 (n+4) x y c:=t6.extBut _ _ (aH (by trivial)) TO5
 refine wpAny_bind (wpAny_seqItems TO6 rfl (wpAny_bind (pP TO6 fun g7 TO7 t7=>?_)))
 replace TO7:cD g7 (n+4) x y v:=TO7
 refine wpAny_bind (wpAny_letGo (wpAny_pure (wpAny_pure ?_)));refine wpAny_bind (wpAny_seqItems TO7 rfl (wpAny_bind (wpAny_newTuple ?_)))
 have sz:g7.objs.size=s.heap.objs.size:=by rw [t7.1,t6.1,t5.1,t4.1,t3.1,t2.1,t1.1]
 have keep:∀(c:Nat) o,c≠n+5→c≠n+4→c≠n→c≠n+1→c≠n+2→s.heap.get? c=some o→g7.get? c=some o:=fun c o d1 d2 d3 d4 d5 e=>t7.extBut _ _ d2 (t6.extBut _ _ d5 (t5.extBut _ _ d2 (t4.extBut _ _ d4 (t3.extBut _ _ d2 (t2.extBut _ _ d3 (t1.extBut _ _ d1 e))))))
 have z7:IsZip g7 (n+5) (n+3) (n+4) .ellipsis:=t7.extBut _ _ (aH (by trivial)) (t6.extBut _ _ (aH (by trivial)) (t5.extBut _ _ (aH (by trivial)) (t4.extBut _ _ (aH (by trivial)) (t3.extBut _ _ (aH (by trivial)) (t2.extBut _ _ (aH (by trivial)) z1)))))
 have it1:bM g7 n l1 (k+1) true:=st1.1.at fun o e=>t7.extBut _ _ (aH (by trivial)) (t6.extBut _ _ (aH (by trivial)) (t5.extBut _ _ (aH (by trivial)) (t4.extBut _ _ (aH (by trivial)) (t3.extBut _ _ (aH (by trivial)) e))))
 have it2:bM g7 (n+1) l2 (k+1) true:=st2.1.at fun o e=>t7.extBut _ _ (aH (by trivial)) (t6.extBut _ _ (aH (by trivial)) (t5.extBut _ _ (aH (by trivial)) e))
 have it3:bM g7 (n+2) l3 (k+1) true:=st3.1.at fun o e=>t7.extBut _ _ (aH (by trivial)) e
 have zlt:n+5<g7.objs.size:=Heap.lt_size z7
 show wpAny _ _ (Builtin.SmallTypes.ownedTupleHandOut (.ref (n+5)) (.ref g7.objs.size) >>= _) _ _ _;refine wpAny_bind ?_;unfold Builtin.SmallTypes.ownedTupleHandOut
 have z8:IsZip (g7.push { cls:=.type "tuple",data:=.seq #[x,y,v] }) (n+5) (n+3) (n+4) .ellipsis:=Heap.get?_push_of_some _ z7
 refine wpAny_bind (wpAny_setField_rec z8 (by simp) fun g9 z9 t9=>?_)
 replace z9:IsZip g9 (n+5) (n+3) (n+4) (rawInt g7.objs.size):=z9
 refine wpAny_setField_rec z9 (by simp) fun gA zA tA=>?_
 replace zA:IsZip gA (n+5) (n+3) (n+4) (rawInt g7.objs.size):=zA
 have up:∀(c:Nat) o,c≠n+5→g7.get? c=some o→gA.get? c=some o:=fun c o d e=>tA.extBut _ _ d (t9.extBut _ _ d (Heap.get?_push_of_some _ e))
 have TA:cD gA g7.objs.size x y v:=tA.extBut _ _ (Nat.ne_of_gt zlt) (t9.extBut _ _ (Nat.ne_of_gt zlt) (Heap.get?_push_size _ rfl))
 have sA:gA.objs.size=g7.objs.size+1:=by rw [tA.1,t9.1,Heap.size_push]
 rw [sz] at zA TA sA
 refine wpAny_pure ⟨_,rfl,?_⟩;show Q (.ref g7.objs.size) _;rw [sz]
 exact hQ gA _ zA (it1.at fun o e=>up _ o (aH (by trivial)) e) (it2.at fun o e=>up _ o (aH (by trivial)) e) (it3.at fun o e=>up _ o (aH (by trivial)) e) TA sA fun c o d1 d2 d3 d4 d5 e=>up c o d1 (keep c o d1 d2 d3 d4 d5 e)
theorem AC {x y v:Value}{Q:Value→Shared→Prop} (hl:l1<n∧l2<n∧l3<n)
 (hz:kF s.heap (n+5) (n+3) (n+4) (rawInt T) bb) (hT:s.heap.get? T=some oT) (hTI:cD s.heap (n+3) (.ref n) (.ref (n+1)) (.ref (n+2))) (hh:A.handled=none)
 (h1:bM s.heap n l1 k true) (h2:bM s.heap (n+1) l2 k true) (h3:bM s.heap (n+2) l3 k true) (q1:bU s.heap l1 xs true) (q2:bU s.heap l2 ys true) (q3:bU s.heap l3 zs true) (hx:xs[k]?=some x) (hy:ys[k]?=some y) (hv:zs[k]?=some v)
 (hQ:∀h' tk,kF h' (n+5) (n+3) (n+4) (rawInt T) true→bM h' n l1 (k+1) true→bM h' (n+1) l2 (k+1) true→bM h' (n+2) l3 (k+1) true→cD h' s.heap.objs.size x y v→h'.objs.size=s.heap.objs.size+1→
  (∀(c:Nat) o,c≠n+5→c≠n→c≠n+1→c≠n+2→s.heap.get? c=some o→h'.get? c=some o)→Q (.ref s.heap.objs.size) { s with heap:=h',toks:=tk }) :
 wpAny (model prog w) A (Builtin.«zip.__next__» ⟨[.ref (n+5)],[]⟩) (fun aP s'=>∃v,aP=.done (.ret v)∧Q v s') E s:=by
 obtain ⟨m1,m2,m3⟩:=hl
 have kx:k<xs.size:=(Array.getElem?_eq_some_iff.mp hx).1
 have ky:k<ys.size:=(Array.getElem?_eq_some_iff.mp hy).1
 have kv:k<zs.size:=(Array.getElem?_eq_some_iff.mp hv).1
 have D1:=fP (prog:=prog) (w:=w) hh n l1 (aH (by trivial)) xs true
 have D2:=fP (prog:=prog) (w:=w) hh (n+1) l2 (aH (by trivial)) ys true
 have D3:=fP (prog:=prog) (w:=w) hh (n+2) l3 (aH (by trivial)) zs true
 show wpAny _ _ (field (.ref (n+5)) 2 >>= _) _ _ _;refine wpAny_bind (wpAny_field hz rfl (x:=.bool false) rfl ?_)
 show wpAny _ _ (field (.ref (n+5)) 3 >>= _) _ _ _;refine wpAny_bind (wpAny_field hz rfl (x:=.ref (n+3)) rfl (wpAny_bind (wpAny_seqItems hTI rfl ?_)))
 show wpAny _ _ (Builtin.SmallTypes.ownedTupleIsFree (.ref (n+5)) >>= _) _ _ _
 refine wpAny_bind (yK hz hT fun g1 z1 t1=>?_)
 simp only [Bool.false_eq_true,if_false]
 refine wpAny_bind ?_
 rw [←Array.forIn_toList]
 simp only [List.forIn_cons,List.forIn_nil]
 refine wpAny_bind (wpAny_bind (wpAny_holding ?_))
 show wpAny _ _ (Builtin.SmallTypes.nextOf (.ref n) >>= _) _ _ _
 refine wpAny_bind (D1.item k _ _ _ kx ⟨h1.at fun o e=>t1.extBut _ _ (aH (by trivial)) e,q1.at fun o e=>t1.extBut _ _ (aH (by trivial)) e⟩ fun x' g2 tk2 p1 st1 t2=>wpAny_pure ?_)
 have ex:x=x':=Option.some.inj (hx.symm.trans p1)
 subst ex
 refine wpAny_pure ?_
 refine wpAny_bind (wpAny_bind (wpAny_holding ?_))
 show wpAny _ _ (Builtin.SmallTypes.nextOf (.ref (n+1)) >>= _) _ _ _
 refine wpAny_bind (D2.item k _ _ _ ky ⟨h2.at fun o e=>t2.extBut _ _ (aH (by trivial)) (t1.extBut _ _ (aH (by trivial)) e),q2.at fun o e=>t2.extBut _ _ (aH (by trivial)) (t1.extBut _ _ (aH (by trivial)) e)⟩ fun y' g4 tk4 p2 st2 t4=>wpAny_pure ?_)
 have ey:y=y':=Option.some.inj (hy.symm.trans p2)
 subst ey
 refine wpAny_pure ?_
 refine wpAny_bind (wpAny_bind (wpAny_holding ?_))
 show wpAny _ _ (Builtin.SmallTypes.nextOf (.ref (n+2)) >>= _) _ _ _
 refine wpAny_bind (D3.item k _ _ _ kv ⟨h3.at fun o e=>t4.extBut _ _ (aH (by trivial)) (t2.extBut _ _ (aH (by trivial)) (t1.extBut _ _ (aH (by trivial)) e)),q3.at fun o e=>t4.extBut _ _ (aH (by trivial)) (t2.extBut _ _ (aH (by trivial)) (t1.extBut _ _ (aH (by trivial)) e))⟩ fun v' g6 tk6 p3 st3 t6=>wpAny_pure ?_)
 have ev:v=v':=Option.some.inj (hv.symm.trans p3)
 subst ev
 refine wpAny_pure (wpAny_pure ?_)
 refine wpAny_bind (wpAny_newTuple ?_ (by show 3≤sizeLine;rw [sizeLine_eq];decide))
 have sz:g6.objs.size=s.heap.objs.size:=by rw [t6.1,t4.1,t2.1,t1.1]
 have z6:kF g6 (n+5) (n+3) (n+4) (rawInt T) true:=t6.extBut _ _ (aH (by trivial)) (t4.extBut _ _ (aH (by trivial)) (t2.extBut _ _ (aH (by trivial)) z1))
 refine wpAny_pure ⟨_,rfl,?_⟩
 show Q (.ref g6.objs.size) _
 have pu:cD (g6.push { cls:=.type "tuple",data:=.seq #[x,y,v] }) g6.objs.size x y v:=Heap.get?_push_size _ rfl
 have ps:(g6.push { cls:=.type "tuple",data:=.seq #[x,y,v] }).objs.size=s.heap.objs.size+1:=by rw [Heap.size_push,sz]
 rw [sz] at pu ⊢
 exact hQ _ _ (Heap.get?_push_of_some _ z6) ((st1.1.at fun o e=>t6.extBut _ _ (aH (by trivial)) (t4.extBut _ _ (aH (by trivial)) e)).at fun o e=>Heap.get?_push_of_some _ e) ((st2.1.at fun o e=>t6.extBut _ _ (aH (by trivial)) e).at fun o e=>Heap.get?_push_of_some _ e) (st3.1.at fun o e=>Heap.get?_push_of_some _ e) pu ps
  fun c o d1 d3 d4 d5 e=>Heap.get?_push_of_some _ (t6.extBut _ _ d5 (t4.extBut _ _ d4 (t2.extBut _ _ d3 (t1.extBut _ _ d1 e))))
theorem Dl {Q:Fin→Shared→Prop} (hh:A.handled=none) (hl:l1<n) {f0:Value} (hz:kF s.heap (n+5) (n+3) (n+4) f0 bb) (hf:(f0=.none∧bb=false)∨∃T:Nat,f0=rawInt T∧∃o,s.heap.get? T=some o) (hTI:cD s.heap (n+3) (.ref n) (.ref (n+1)) (.ref (n+2)))
 (h1:bM s.heap n l1 k true) (q1:bU s.heap l1 xs true) (hend:xs.size=k)
 (hE:∀h' e tk,(∀(c:Nat) o,c≠n+5→c≠n→s.heap.get? c=some o→h'.get? c=some o)→(∃o,h'.get? e=some o∧o.cls=.type "StopIteration")→E (.ref e) { s with heap:=h',toks:=tk }) :
 wpAny (model prog w) A (Builtin.«zip.__next__» ⟨[.ref (n+5)],[]⟩) Q E s:=by
 have D1:=fP (prog:=prog) (w:=w) hh n l1 (aH (by trivial)) xs true
 show wpAny _ _ (field (.ref (n+5)) 2 >>= _) _ _ _;refine wpAny_bind (wpAny_field hz rfl (x:=.bool false) rfl ?_)
 show wpAny _ _ (field (.ref (n+5)) 3 >>= _) _ _ _;refine wpAny_bind (wpAny_field hz rfl (x:=.ref (n+3)) rfl (wpAny_bind (wpAny_seqItems hTI rfl ?_)))
 show wpAny _ _ (Builtin.SmallTypes.ownedTupleIsFree (.ref (n+5)) >>= _) _ _ _
 rcases hf with ⟨rfl,rfl⟩ | ⟨T,rfl,oT,hT⟩
 ·refine wpAny_bind ?_;unfold Builtin.SmallTypes.ownedTupleIsFree
  refine wpAny_bind (wpAny_field hz rfl (x:=.none) rfl (wpAny_pure ?_));simp only [if_true]
  refine wpAny_bind (wpAny_rule (wpAny_bind (wpAny_field hz rfl (x:=.ref (n+4)) rfl (wpAny_bind (wpAny_setField_rec hz (by simp) fun g1 z1 t1=>?_)))))
  replace z1:IsZip g1 (n+5) (n+3) (n+4) .ellipsis:=z1
  refine wpAny_bind ?_;simp only [List.zipIdx_cons,List.zipIdx_nil,List.forIn_cons,List.forIn_nil];refine wpAny_bind (wpAny_bind (wpAny_onRaise ?_))
  show wpAny _ _ (Builtin.SmallTypes.nextOf (.ref n) >>= _) _ _ _
  have st0:bM g1 n l1 k true∧bU g1 l1 xs true:=⟨h1.at fun o e=>t1.extBut _ _ (aH (by trivial)) e,q1.at fun o e=>t1.extBut _ _ (aH (by trivial)) e⟩
  refine wpAny_bind (D1.done _ _ _ (by rw [hend];exact st0) fun g2 e t2 he=>?_)
  obtain ⟨oe,e1,e2⟩:=he
  have z2:IsZip g2 (n+5) (n+3) (n+4) .ellipsis:=t2 _ _ (aH (by trivial)) z1
  have ez:e≠n+5:=fun q=>by subst q;rw [z2] at e1;cases e1;simp at e2
  exact wpAny_setField_rec z2 (by simp) fun g3 _ t3=>hE g3 e _ (fun c o d1 d3 q=>t3.extBut _ _ d1 (t2 _ _ d3 (t1.extBut _ _ d1 q))) ⟨oe,t3.extBut _ _ ez e1,e2⟩
 ·refine wpAny_bind (yK hz hT fun g1 z1 t1=>?_)
  simp only [Bool.false_eq_true,if_false]
  refine wpAny_bind ?_
  rw [←Array.forIn_toList]
  simp only [List.forIn_cons,List.forIn_nil]
  refine wpAny_bind (wpAny_bind (wpAny_holding ?_))
  show wpAny _ _ (Builtin.SmallTypes.nextOf (.ref n) >>= _) _ _ _
  have st0:bM g1 n l1 k true∧bU g1 l1 xs true:=⟨h1.at fun o e=>t1.extBut _ _ (aH (by trivial)) e,q1.at fun o e=>t1.extBut _ _ (aH (by trivial)) e⟩
  refine wpAny_bind (D1.done _ _ _ (by rw [hend];exact st0) fun g2 e t2 he=>?_)
  exact hE g2 e _ (fun c o d1 d3 q=>t2 _ _ d3 (t1.extBut _ _ d1 q)) he
end
end L2
namespace L2
open PySem PySem.Spec PyProof.Rows
structure Z3 (h:Heap) (n l1 l2 l3:Nat) (xs ys zs:Array Value) (k:Nat):Prop where
 z:(IsZip h (n+5) (n+3) (n+4) .none∧eH fun a b c=>cD h (n+4) a b c)∨eH fun (T:Nat) (o:Obj) (bb:Bool)=>kF h (n+5) (n+3) (n+4) (rawInt T) bb∧h.get? T=some o∧n+6<T
 t:cD h (n+3) (.ref n) (.ref (n+1)) (.ref (n+2))
 a:bM h n l1 k true
 b:bM h (n+1) l2 k true
 c:bM h (n+2) l3 k true
 d:bU h l1 xs true
 e:bU h l2 ys true
 f:bU h l3 zs true
section
variable {prog:Program}{w:World}{A:Around}{E:Value→Shared→Prop}{s:Shared}
variable {n l1 l2 l3:Nat}{k:Nat}{xs ys zs:Array Value}
theorem Z3.keep {h h':Heap} (st:Z3 h n l1 l2 l3 xs ys zs k) (hl:l1<n∧l2<n∧l3<n) (kp:∀(c:Nat) o,c≠n+6→h.get? c=some o→h'.get? c=some o):Z3 h' n l1 l2 l3 xs ys zs k:=by
 refine ⟨?_,kp _ _ (by trivial) st.t,st.a.at fun o e=>kp _ o (by trivial) e,st.b.at fun o e=>kp _ o (by trivial) e,st.c.at fun o e=>kp _ o (by trivial) e,st.d.at fun o e=>kp _ o (by trivial) e,st.e.at fun o e=>kp _ o (by trivial) e,st.f.at fun o e=>kp _ o (by trivial) e⟩
 rcases st.z with ⟨h1,a,b,c,h2⟩ | ⟨T,o,bb,h1,h2,h3⟩
 ·exact .inl ⟨kp _ _ (by trivial) h1,a,b,c,kp _ _ (by trivial) h2⟩
 ·exact .inr ⟨T,o,bb,kp _ _ (by trivial) h1,kp _ _ (by trivial) h2,h3⟩
theorem AF {x y v:Value}{Q:Option Value→Shared→Prop} (hl:l1<n∧l2<n∧l3<n) (hsz:n+6<s.heap.objs.size)
 (st:Z3 s.heap n l1 l2 l3 xs ys zs k) (hh:A.handled=none) (hx:xs[k]?=some x) (hy:ys[k]?=some y) (hv:zs[k]?=some v)
 (hQ:∀h' tk,Z3 h' n l1 l2 l3 xs ys zs (k+1)→cD h' s.heap.objs.size x y v→h'.objs.size=s.heap.objs.size+1→(∀(c:Nat) o,c≠n+5→c≠n+4→c≠n→c≠n+1→c≠n+2→s.heap.get? c=some o→h'.get? c=some o)→Q (some (.ref s.heap.objs.size)) { s with heap:=h',toks:=tk }) :
 wpAny (model prog w) A (pyNext (.ref (n+5))) Q E s:=by
 rcases st.z with ⟨hz,a,b,c,hTO⟩ | ⟨T,o,bb,hz,hT,hn⟩
 ·have hT':s.TypeIs (.ref (n+5)) "zip" := ⟨_,hz,rfl⟩
  unfold pyNext
  refine wpAny_bind (wpAny_attempt (wpAny_callSpecial?_slot (name:=Str.ofString "__next__") hT' F.slot_zip_next (wpAny_call_entry F.slot_zip_next hT' F.entry_zip_next
   (BB hl hz st.t hTO hh st.a st.b st.c st.d st.e st.f hx hy hv fun h' tk zo t1 t2 t3 T' sz keep=>wpAny_pure ?_) (F.args_zip_next_1 _))))
  refine hQ h' tk ⟨.inr ⟨s.heap.objs.size,_,false,zo,T',hsz⟩,keep _ _ (by trivial) (by trivial) (by trivial) (by trivial) (by trivial) st.t,t1,t2,t3,st.d.at fun o e=>keep _ o (by trivial) (by trivial) (by trivial) (by trivial) (by trivial) e,st.e.at fun o e=>keep _ o (by trivial) (by trivial) (by trivial) (by trivial) (by trivial) e,st.f.at fun o e=>keep _ o (by trivial) (by trivial) (by trivial) (by trivial) (by trivial) e⟩ T' sz keep
 ·have hT':s.TypeIs (.ref (n+5)) "zip" := ⟨_,hz,rfl⟩
  unfold pyNext
  refine wpAny_bind (wpAny_attempt (wpAny_callSpecial?_slot (name:=Str.ofString "__next__") hT' F.slot_zip_next (wpAny_call_entry F.slot_zip_next hT' F.entry_zip_next
   (AC hl hz hT st.t hh st.a st.b st.c st.d st.e st.f hx hy hv fun h' tk zo t1 t2 t3 T' sz keep=>wpAny_pure ?_) (F.args_zip_next_1 _))))
  refine hQ h' tk ⟨.inr ⟨T,o,true,zo,keep _ _ (by trivial) (by trivial) (by trivial) (by trivial) hT,hn⟩,keep _ _ (by trivial) (by trivial) (by trivial) (by trivial) st.t,t1,t2,t3,st.d.at fun o e=>keep _ o (by trivial) (by trivial) (by trivial) (by trivial) e,st.e.at fun o e=>keep _ o (by trivial) (by trivial) (by trivial) (by trivial) e,st.f.at fun o e=>keep _ o (by trivial) (by trivial) (by trivial) (by trivial) e⟩ T' sz fun c o d1 _ d3 d4 d5 e=>keep c o d1 d3 d4 d5 e
theorem Bu {Q:Option Value→Shared→Prop} (hl:l1<n∧l2<n∧l3<n) (st:Z3 s.heap n l1 l2 l3 xs ys zs k) (hh:A.handled=none) (hend:xs.size=k)
 (hQ:∀h' tk,(∀(c:Nat) o,c≠n+5→c≠n→s.heap.get? c=some o→h'.get? c=some o)→Q none { s with heap:=h',toks:=tk }) :
 wpAny (model prog w) A (pyNext (.ref (n+5))) Q E s:=by
 obtain ⟨f0,bb,hz,hf⟩:aW fun f0 bb=>kF s.heap (n+5) (n+3) (n+4) f0 bb∧((f0=.none∧bb=false)∨∃T:Nat,f0=rawInt T∧∃o,s.heap.get? T=some o):=by
  rcases st.z with ⟨hz,_⟩ | ⟨T,o,bb,hz,hT,hn⟩
  ·exact ⟨_,_,hz,.inl ⟨rfl,rfl⟩⟩
  ·exact ⟨_,_,hz,.inr ⟨T,rfl,o,hT⟩⟩
 have hT':s.TypeIs (.ref (n+5)) "zip" := ⟨_,hz,rfl⟩
 unfold pyNext
 refine wpAny_bind (wpAny_attempt (wpAny_callSpecial?_slot (name:=Str.ofString "__next__") hT' F.slot_zip_next (wpAny_call_entry F.slot_zip_next hT' F.entry_zip_next
  (Dl hh hl.1 hz hf st.t st.a st.d hend fun h' e tk hk he=>?_) (F.args_zip_next_1 _))))
 obtain ⟨o,ho,hc⟩:=he
 exact wpAny_bind (wpAny_isInstance (T := "StopIteration") (b:=true) ⟨o,ho,hc⟩ isSubtype_stop (wpAny_pure (hQ _ tk hk)))
end
section
variable {prog:Program}{w:World}{A:Around}{E:Value→Shared→Prop}{R:Result→Shared→Prop}
variable {n l1 l2 l3:Nat}{xs ys zs:Array Value}
def zy (h:Heap) (ts:List Nat) (xs ys zs:Array Value):Prop:=∀(i:Nat) t,ts[i]?=some t→eH fun x y v=>xs[i]?=some x∧ys[i]?=some y∧zs[i]?=some v∧cD h t x y v
theorem A9 (hl:l1<n∧l2<n∧l3<n) (hh:A.handled=none) (ly:ys.size=xs.size) (lz:zs.size=xs.size) (hz:xs.size≤4000) :
 ∀(r i:Nat) (ts:List Nat) (c:Nat) (s:Shared),xs.size - i=r→i≤xs.size→Z3 s.heap n l1 l2 l3 xs ys zs i→n+6<s.heap.objs.size→ts.length=i→(∀t∈ts,n+6<t)→ts.Nodup→zy s.heap ts xs ys zs→
   s.heap.get? (n+6)=some { cls:=.type "list",data:=.seq (ts.map Value.ref).toArray c }→
   (∀h' tk ts' c',ts'.length=xs.size→(∀t∈ts',n+6<t)→ts'.Nodup→zy h' ts' xs ys zs→h'.get? (n+6)=some { cls:=.type "list",data:=.seq (ts'.map Value.ref).toArray c' }→(∀(c:Nat) o,c<n→s.heap.get? c=some o→h'.get? c=some o)→(∀t∈ts',t∉ts→s.heap.get? t=none)→R (.ok (.ret .none)) { s with heap:=h',toks:=tk })→
   codeAny (model prog w) A (.builtin "list.extend.loop" ⟨[.ref (n+6),.ref (n+5),.none],[]⟩) R s:=by
 intro r
 induction r with
 | zero=>
  intro i ts c s hr hi st hs lt ht nd tr hS hR
  have e:i=xs.size:=by trivial
  refine codeAny_builtin F.entry_extend_loop ?_
  rw [A.under_plainId F.plain_extend_loop]
  show wpAny _ _ (pyNext (Value.ref (n+5)) >>= _) _ _ _
  refine wpAny_bind (Bu hl st (by simpa using hh) e.symm fun h' tk keep=>?_)
  refine wpAny_pure (hR h' tk ts c (by trivial) ht nd (fun j t hj=>?_) (keep _ _ (by trivial) (by trivial) hS) (fun b o hb q=>keep b o (by trivial) (by trivial) q) fun t h1 h2=>absurd h1 h2)
  obtain ⟨x,y,v,a1,a2,a3,a4⟩:=tr j t hj
  have:=ht t (List.mem_of_getElem? hj)
  exact ⟨x,y,v,a1,a2,a3,keep _ _ (by trivial) (by trivial) a4⟩
 | succ r ih=>
  intro i ts c s hr hi st hs lt ht nd tr hS hR
  have lt':i<xs.size:=by trivial
  have hx:xs[i]?=some xs[i]:=Array.getElem?_eq_getElem (by trivial)
  have hy:ys[i]?=some ys[i]:=Array.getElem?_eq_getElem (by trivial)
  have hv:zs[i]?=some zs[i]:=Array.getElem?_eq_getElem (by trivial)
  refine codeAny_builtin F.entry_extend_loop ?_
  rw [A.under_plainId F.plain_extend_loop]
  show wpAny _ _ (pyNext (Value.ref (n+5)) >>= _) _ _ _
  refine wpAny_bind (AF hl hs st (by simpa using hh) hx hy hv fun h' tk st' T' sz keep=>?_)
  have hS':=keep _ _ (by trivial) (by trivial) (by trivial) (by trivial) (by trivial) hS
  show wpAny _ _ (updateSeq (n+6) (·.push (.ref s.heap.objs.size)) >>= _) _ _ _
  refine wpAny_bind (wpAny_updateSeq (s:={ s with heap:=h',toks:=tk }) hS' rfl ?_)
  have e2:=Heap.get?_update_self (Obj.mapSeq (·.push (Value.ref s.heap.objs.size))) hS' rfl
  obtain ⟨c2,e3⟩:∃c2,(h'.update (n+6) (Obj.mapSeq (·.push (Value.ref s.heap.objs.size)))).get? (n+6)=some { cls:=.type "list",data:=.seq ((ts++[s.heap.objs.size]).map Value.ref).toArray c2 }:=by
   rw [e2]
   simp only [Obj.mapSeq,List.map_append,List.map_cons,List.map_nil,List.push_toArray]
   exact ⟨_,rfl⟩
  have oth:∀(b:Nat) o,b≠n+6→h'.get? b=some o→(h'.update (n+6) (Obj.mapSeq (·.push (Value.ref s.heap.objs.size)))).get? b=some o:=fun b o hb q=>(Heap.get?_update_other _ _ (aH (Ne.symm hb))).trans q
  have fr:s.heap.get? s.heap.objs.size=none:=Heap.get?_none_of_le (Nat.le_refl _)
  have old:∀t∈ts,t<s.heap.objs.size:=fun t hm=>by
   obtain ⟨j,hj⟩:=List.getElem?_of_mem hm
   obtain ⟨_,_,_,_,_,_,a4⟩:=tr j t hj
   exact Heap.lt_size a4
  refine wpAny_pure ⟨plainId_quiet F.plain_extend_loop _,ih (i+1) (ts++[s.heap.objs.size]) c2 _ (by trivial) (by trivial) (st'.keep hl oth) (by show n+6<(h'.update _ _).objs.size;rw [Heap.size_update,sz];trivial) (by rw [List.length_append,lt];rfl) (fun t hm=>?_) (List.nodup_append.mpr ⟨nd,by simp,fun a ha b hb e=>?_⟩) (fun j t hj=>?_) e3 fun h3 tk3 ts3 c3 l3' g3 n3 tr3 e4 k3 f3=>hR h3 tk3 ts3 c3 l3' g3 n3 tr3 e4 (fun b o hb q=>k3 b o hb (oth b o (by trivial) (keep b o (by trivial) (by trivial) (by trivial) (by trivial) (by trivial) q))) fun t h1 h2=>?_⟩
  ·rcases List.mem_append.mp hm with hm | hm
   ·exact ht t hm
   ·rw [List.mem_singleton.mp hm];exact hs
  ·rw [List.mem_singleton] at hb
   have:=old a ha
   rw [e,hb] at this
   exact absurd this (Nat.lt_irrefl _)
  ·by_cases hjl:j<ts.length
   ·rw [List.getElem?_append_left hjl] at hj
    obtain ⟨x,y,v,a1,a2,a3,a4⟩:=tr j t hj
    have:=ht t (List.mem_of_getElem? hj)
    exact ⟨x,y,v,a1,a2,a3,oth _ _ (by trivial) (keep _ _ (by trivial) (by trivial) (by trivial) (by trivial) (by trivial) a4)⟩
   ·have ej:j=i:=by
     have:=(List.getElem?_eq_some_iff.mp hj).1
     rw [List.length_append] at this
     simp at this
     trivial
    subst ej
    rw [List.getElem?_append_right (by trivial),lt,Nat.sub_self] at hj
    simp at hj
    subst hj
    exact ⟨_,_,_,hx,hy,hv,oth _ _ (by trivial) T'⟩
  ·by_cases hm:t=s.heap.objs.size
   ·rw [hm];exact fr
   ·have q:=f3 t h1 (fun z=>by
     rcases List.mem_append.mp z with z | z
     ·exact h2 z
     ·exact hm (List.mem_singleton.mp z))
    cases e:s.heap.get? t with
    | none=>rfl
    | some o=>
     have hlt:=Heap.lt_size e
     have g:=g3 t h1
     have:=oth t o (by trivial) (keep t o (by trivial) (by trivial) (by trivial) (by trivial) (by trivial) e)
     rw [show (h'.update (n+6) (Obj.mapSeq (·.push (Value.ref s.heap.objs.size)))).get? t=none from q] at this
     cases this
end
theorem xq:typeLookup (.type "zip") "__len__" = pure none:=am_miss_of_fast (by kernel_rfl)
theorem wj:typeLookup (.type "zip") "__length_hint__" = pure none:=am_miss_of_fast (by kernel_rfl)
theorem uQ (a b c:Value):checkTypeCall "zip" ⟨[a,b,c],[]⟩=pure ():=by kernel_rfl
theorem v0 (a b c:Value):checkBuiltinCall "zip.__new__" ⟨[.type "zip",a,b,c],[]⟩=pure ():=by kernel_rfl
theorem qA (a b c d:Value):argsOk "object.__init__" ⟨[a,b,c,d],[]⟩:=by
 unfold argsOk;rw [signature?_of (id := "object.__init__") (n:=['_','_','t','i','n','i','_','_']) (o:=['t','c','e','j','b','o']) (by kernel_rfl) F.owner_object];kernel_rfl
abbrev yl (h:Heap) (l1:Addr):Heap:=h.push { cls:=.type "list_iterator",data:=.fields #[.ref l1,.int 0 0] }
abbrev yD (h:Heap) (l1 l2:Addr):Heap:=(yl h l1).push { cls:=.type "list_iterator",data:=.fields #[.ref l2,.int 0 0] }
abbrev CY (h:Heap) (l1 l2 l3:Addr):Heap:=(yD h l1 l2).push { cls:=.type "list_iterator",data:=.fields #[.ref l3,.int 0 0] }
abbrev CV (h:Heap) (l1 l2 l3:Addr):Heap:=(CY h l1 l2 l3).push { cls:=.type "tuple",data:=.seq #[.ref h.objs.size,.ref (yl h l1).objs.size,.ref (yD h l1 l2).objs.size] }
abbrev CQ (h:Heap) (l1 l2 l3:Addr):Heap:=(CV h l1 l2 l3).push { cls:=.type "tuple",data:=.seq #[.none,.none,.none] }
abbrev tX (h:Heap) (l1 l2 l3:Addr):Heap:=(CQ h l1 l2 l3).push { cls:=.type "zip",data:=.fields #[.none,.bool false,.bool false,.ref (CY h l1 l2 l3).objs.size,.ref (CV h l1 l2 l3).objs.size] }
set_option maxHeartbeats 8000000 in
theorem Ec (l1 l2 l3:Addr) (xs ys zs:Array Value) :
 Meets (Builtin.«zip.__new__» ⟨[.type "zip",.ref l1,.ref l2,.ref l3],[]⟩) (fun _ R s=>bU s.heap l1 xs true∧bU s.heap l2 ys true∧bU s.heap l3 zs true∧R (.ok (.ret (.ref (CQ s.heap l1 l2 l3).objs.size))) { s with heap:=tX s.heap l1 l2 l3 }):=
 .of_wp fun prog w A R s h=>by
  obtain ⟨hp,g,d,tk,os⟩:=s;obtain ⟨q1,q2,q3,h⟩:=h
  have hsub:=sub_zip
  have L2':bU (Shared.heap ⟨yl hp l1,g,d,tk,os⟩) l2 ys true:=bU.at q2 fun o e=>Heap.get?_push_of_some _ e
  have L3':bU (Shared.heap ⟨yD hp l1 l2,g,d,tk,os⟩) l3 zs true:=bU.at q3 fun o e=>Heap.get?_push_of_some _ (Heap.get?_push_of_some _ e)
  have g1:Heap.IsList (Shared.heap ⟨hp,g,d,tk,os⟩) l1 xs:=q1
  have g2:Heap.IsList (Shared.heap ⟨yl hp l1,g,d,tk,os⟩) l2 ys:=L2'
  have g3:Heap.IsList (Shared.heap ⟨yD hp l1 l2,g,d,tk,os⟩) l3 zs:=L3'
  wp_walk using wpAny_pyIter_list g1,wpAny_pyIter_list g2,wpAny_pyIter_list g3
  exact ⟨_,rfl,h⟩
section
variable {prog:Program}{w:World}{A:Around}{E:Value→Shared→Prop}{s:Shared}
theorem Aw {l1 l2 l3:Addr}{xs ys zs:Array Value}{Q:Value→Shared→Prop} (q1:bU s.heap l1 xs true) (q2:bU s.heap l2 ys true) (q3:bU s.heap l3 zs true)
 (h:∀h',Z3 h' s.heap.objs.size l1 l2 l3 xs ys zs 0→h'.objs.size=s.heap.objs.size+6→(∀c o,s.heap.get? c=some o→h'.get? c=some o)→IsZip h' (s.heap.objs.size+5) (s.heap.objs.size+3) (s.heap.objs.size+4) .none→Q (.ref (s.heap.objs.size+5)) { s with heap:=h' }) :
 wpAny (model prog w) A (call (.type "zip") [.ref l1,.ref l2,.ref l3]) Q E s:=by
 refine callType_new F.called_zip (by decide) (uQ _ _ _) (v0 _ _ _) (fun obj=>qA obj _ _ _) F.entry_zip_new (Ec l1 l2 l3 xs ys zs) ⟨q1,q2,q3,?_⟩
 have s1:(yl s.heap l1).objs.size=s.heap.objs.size+1:=Heap.size_push ..
 have s2:(yD s.heap l1 l2).objs.size=s.heap.objs.size+2:=by rw [Heap.size_push,s1]
 have s3:(CY s.heap l1 l2 l3).objs.size=s.heap.objs.size+3:=by rw [Heap.size_push,s2]
 have s4:(CV s.heap l1 l2 l3).objs.size=s.heap.objs.size+4:=by rw [Heap.size_push,s3]
 have s5:(CQ s.heap l1 l2 l3).objs.size=s.heap.objs.size+5:=by rw [Heap.size_push,s4]
 have s6:(tX s.heap l1 l2 l3).objs.size=s.heap.objs.size+6:=by rw [Heap.size_push,s5]
 have g6:(tX s.heap l1 l2 l3).get? (CQ s.heap l1 l2 l3).objs.size=some _:=Heap.get?_push_size _ rfl
 have g5:(tX s.heap l1 l2 l3).get? (CV s.heap l1 l2 l3).objs.size=some _:=Heap.get?_push_of_some _ (Heap.get?_push_size _ rfl)
 have g4:(tX s.heap l1 l2 l3).get? (CY s.heap l1 l2 l3).objs.size=some _:=Heap.get?_push_of_some _ (Heap.get?_push_of_some _ (Heap.get?_push_size _ rfl))
 have g3:(tX s.heap l1 l2 l3).get? (yD s.heap l1 l2).objs.size=some _:=Heap.get?_push_of_some _ (Heap.get?_push_of_some _ (Heap.get?_push_of_some _ (Heap.get?_push_size _ rfl)))
 have g2:(tX s.heap l1 l2 l3).get? (yl s.heap l1).objs.size=some _:=Heap.get?_push_of_some _ (Heap.get?_push_of_some _ (Heap.get?_push_of_some _ (Heap.get?_push_of_some _ (Heap.get?_push_size _ rfl))))
 have g1:(tX s.heap l1 l2 l3).get? s.heap.objs.size=some _:=Heap.get?_push_of_some _ (Heap.get?_push_of_some _ (Heap.get?_push_of_some _ (Heap.get?_push_of_some _ (Heap.get?_push_of_some _ (Heap.get?_push_size _ rfl)))))
 have up:∀c o,s.heap.get? c=some o→(tX s.heap l1 l2 l3).get? c=some o:=fun c o x=>Heap.get?_push_of_some _ (Heap.get?_push_of_some _ (Heap.get?_push_of_some _ (Heap.get?_push_of_some _ (Heap.get?_push_of_some _ (Heap.get?_push_of_some _ x)))))
 show _∧_
 rw [s3,s4,s5] at g6
 rw [s1,s2,s3] at g4
 rw [s4] at g5
 rw [s2] at g3
 rw [s1] at g2
 rw [s5]
 exact ⟨⟨_,g6,rfl⟩,h _ ⟨.inl ⟨g6,_,_,_,g5⟩,g4,⟨_,g1,rfl,rfl⟩,⟨_,g2,rfl,rfl⟩,⟨_,g3,rfl,rfl⟩,q1.at fun o e=>up _ o e,q2.at fun o e=>up _ o e,q3.at fun o e=>up _ o e⟩ s6 up g6⟩
set_option maxHeartbeats 1000000 in
theorem wx {n l1 l2 l3:Nat}{xs ys zs:Array Value}{Q:Value→Shared→Prop} (hl:l1<n∧l2<n∧l3<n) (st:Z3 s.heap n l1 l2 l3 xs ys zs 0) (hz:IsZip s.heap (n+5) (n+3) (n+4) .none) (hs:s.heap.objs.size=n+6) (hh:A.handled=none) (ly:ys.size=xs.size) (lz:zs.size=xs.size) (h4:xs.size≤4000)
 (h:∀h' tk ts' c',ts'.length=xs.size→(∀t∈ts',n+6<t)→ts'.Nodup→zy h' ts' xs ys zs→h'.get? (n+6)=some { cls:=.type "list",data:=.seq (ts'.map Value.ref).toArray c' }→(∀(c:Nat) o,c<n→s.heap.get? c=some o→h'.get? c=some o)→Q (.ref (n+6)) { s with heap:=h',toks:=tk }) :
 wpAny (model prog w) A (call (.type "list") [.ref (n+5)]) Q E s:=by
 refine callType_codes (Q₁:=fun obj s₁=>obj=.ref s.heap.objs.size∧s₁={ s with heap:=s.heap.push { cls:=.type "list",data:=.seq #[] } }) F.called_list (F.typeCall_list_1 _) F.entry_list_init (code_list_new _ ⟨rfl,rfl⟩) fun obj s₁ h₁=>?_
 obtain ⟨rfl,rfl⟩:=h₁
 have hS:(s.heap.push { cls:=.type "list",data:=.seq #[] }).get? (n+6)=some { cls:=.type "list",data:=.seq #[] }:=by rw [←hs];exact Heap.get?_push_size _ rfl
 rw [hs]
 refine ⟨⟨_,hS,rfl⟩,F.args_list_init_2 _ _,?_⟩
 have st1:Z3 (s.heap.push { cls:=.type "list",data:=.seq #[] }) n l1 l2 l3 xs ys zs 0:=st.keep hl fun c o _ e=>Heap.get?_push_of_some _ e
 show wpAny _ _ (do let old ←Builtin.List.listItems (.ref (n+6));Builtin.List.listUpdate (.ref (n+6)) (fun _=>#[]);letGo old.toList.reverse;Builtin.List.listExtendWith (.ref (n+6)) (.ref (n+5)) .none) _ _ _
 refine wpAny_bind ?_
 unfold Builtin.List.listItems
 refine wpAny_bind (wpAny_seqItems hS rfl (wpAny_pure ?_))
 show wpAny _ _ (updateSeq (n+6) (fun _=>#[]) >>= fun _=>letGo (#[]:Array Value).toList.reverse >>= fun _=>Builtin.List.listExtendWith (.ref (n+6)) (.ref (n+5)) .none) _ _ _
 refine wpAny_bind (wpAny_updateSeq hS rfl ?_)
 have hS₂:=Heap.get?_update_self (Obj.mapSeq (fun _=>(#[]:Array Value))) hS rfl
 have oth:∀(b:Nat) o,b≠n+6→(s.heap.push { cls:=.type "list",data:=.seq #[] }).get? b=some o→((s.heap.push { cls:=.type "list",data:=.seq #[] }).update (n+6) (Obj.mapSeq (fun _=>(#[]:Array Value)))).get? b=some o:=
  fun b o hb e=>(Heap.get?_update_other _ _ (aH (Ne.symm hb))).trans e
 refine wpAny_bind (wpAny_letGo ?_)
 have st2:=st1.keep hl oth
 have hz2:=oth _ _ (by trivial) (Heap.get?_push_of_some { cls:=.type "list",data:=.seq #[] } hz)
 unfold Builtin.List.listExtendWith
 refine wpAny_bind (wpAny_typeOf (T := "zip") ⟨_,hz2,rfl⟩ ?_)
 have h1:Builtin.List.listSameRef (.ref (n+6)) (.ref (n+5))=false:=by simp [Builtin.List.listSameRef]
 have h2:(Value.type "zip" == Value.type "list")=false:=by decide
 have h3:(Value.type "zip" == Value.type "tuple")=false:=by decide
 simp only [h1,h2,h3,Bool.or_false,Bool.false_eq_true,if_false]
 refine wpAny_bind (wpAny_pyIter_zip hz2 ?_)
 refine wpAny_bind (wpAny_holding ?_)
 unfold Builtin.List.listLengthHint
 refine wpAny_bind (wpAny_specialOf (T := "zip") ⟨_,hz2,rfl⟩ xq ?_)
 refine wpAny_ite_split (fun hab=>absurd hab (by decide)) (fun _=>?_)
 refine wpAny_ite_split (fun hab=>absurd hab (by decide)) (fun _=>?_)
 refine wpAny_bind (wpAny_specialOf (T := "zip") ⟨_,hz2,rfl⟩ wj ?_)
 refine wpAny_pure ?_
 simp only [Bool.true_or,if_true]
 refine wpAny_bind (wpAny_rule ?_)
 refine wpAny_bind ?_
 show wpAny _ _ (updateSeq (n+6) (·.push .none) >>= fun _=>updateSeq (n+6) (·.pop)) _ _ _
 refine wpAny_bind (wpAny_updateSeq hS₂ rfl ?_)
 have hS₃:=Heap.get?_update_self (Obj.mapSeq (·.push Value.none)) hS₂ rfl
 refine wpAny_updateSeq (hz:=by seq_fits) hS₃ rfl ?_
 have hS₄:=Heap.get?_update_self (Obj.mapSeq (·.pop)) hS₃ rfl
 obtain ⟨c4,e4⟩:∃c4,((((s.heap.push { cls:=.type "list",data:=.seq #[] }).update (n+6) (Obj.mapSeq (fun _=>(#[]:Array Value)))).update (n+6) (Obj.mapSeq (·.push Value.none))).update (n+6) (Obj.mapSeq (·.pop))).get? (n+6)=some { cls:=.type "list",data:=.seq (([]:List Nat).map Value.ref).toArray c4 }:=by
  rw [hS₄]
  simp only [Obj.mapSeq,List.map_nil]
  exact ⟨_,rfl⟩
 have oth4:∀(b:Nat) o,b≠n+6→(s.heap.push { cls:=.type "list",data:=.seq #[] }).get? b=some o→((((s.heap.push { cls:=.type "list",data:=.seq #[] }).update (n+6) (Obj.mapSeq (fun _=>(#[]:Array Value)))).update (n+6) (Obj.mapSeq (·.push Value.none))).update (n+6) (Obj.mapSeq (·.pop))).get? b=some o:=
  fun b o hb e=>(Heap.get?_update_other _ _ (aH (Ne.symm hb))).trans ((Heap.get?_update_other _ _ (aH (Ne.symm hb))).trans (oth b o hb e))
 refine wpAny_pure ⟨plainId_quiet F.plain_extend_loop _,?_⟩
 refine A9 hl (by simpa using hh) ly lz h4 xs.size 0 [] c4 _ rfl (Nat.zero_le _) (st1.keep hl oth4) (by show n+6<Array.size _;rw [Heap.size_update,Heap.size_update,Heap.size_update,Heap.size_push,hs];trivial) rfl (fun t ht=>(by cases ht)) List.nodup_nil (fun j t hj=>(by simp at hj)) e4 fun h' tk ts' c' l g nd tr e k f=>?_
 exact ⟨rfl,h h' tk ts' c' l g nd tr e fun c o hc q=>k c o hc (oth4 c o (by trivial) (Heap.get?_push_of_some _ q))⟩
end
def vN (H:Hp) (N:Addr→Option HO):Hp:=fun b=>match N b with | some o=>some o | none=>H b
theorem tz {H:Hp}{N:Addr→Option HO}{b:Addr}{o:HO} (h:N b=some o):vN H N b=some o:=by unfold vN;rw [h]
theorem pG {H:Hp}{N:Addr→Option HO}{b:Addr} (h:N b=none):vN H N b=H b:=by unfold vN;rw [h]
section
variable {X:Cx}{pins:List (Addr×Obj)}{σ:St}{H:Hp}{s:Shared}{h':Heap}
theorem ac.many {t':Nat}{N:Addr→Option HO} (I:ac X pins σ H s) (k:∀b u,s.heap.get? b=some u→h'.get? b=some u)
 (hN:∀b o,N b=some o→s.heap.objs.size≤b) (new:∀b o,N b=some o→aV X.prog X.w (vN H N) h' b o):ac X pins σ (vN H N) { s with heap:=h',toks:=t' }:=by
 have old:∀b,b<s.heap.objs.size→N b=none:=fun b hb=>by
  cases e:N b with
  | none=>rfl
  | some o=>exact absurd (Nat.lt_of_lt_of_le hb (hN b o e)) (Nat.lt_irrefl _)
 have hs:∀b u,H b=some u→vN H N b=some u:=fun b u e=>by rw [pG (old b (I.hok.lt e))];exact e
 refine I.step (g':=s.gens) (d':=s.drawn) (ch:=[]) (fun b hb=>(by cases hb)) (fun b o _ _ _ e _=>k b o e) (fun b o _ _ _ e _=>⟨o.slots,k b o e⟩) (fun b o _ e n=>?_)
  (fun b o _ e=>⟨o,k b o e⟩) (fun b xs e=>hs b _ e) (fun b o u e=>hs b _ e) (fun b ps e=>⟨#[],by rw [hs b _ e];simp⟩) (fun m hm=>?_) (fun b u e=>?_) I.bare
 ·rw [pG (old b (Heap.lt_size e))];exact n
 ·obtain ⟨o,es,ep,ho,r⟩:=hm
  exact ⟨o,es,ep,k _ o ho,r⟩
 ·cases hb:N b with
  | some o=>
   rw [tz hb] at e
   cases e
   exact new b _ hb
  | none=>
   rw [pG hb] at e
   exact (I.hok b u e).stay (fun c v hc q=>k c v q) (fun c q=>hs c _ q) fun c xs q=>hs c _ q
end
def Do (K:PySem.W.Frag) (ta:TA):TE:=fun σ H Q=>ta σ H fun vs H1=>yx fun (a1 a2 a3:Addr) (xs ys zs:List V)=>vs=[.ref a1,.ref a2,.ref a3]∧am K H1 a1 xs∧am K H1 a2 ys∧am K H1 a3 zs∧ys.length=xs.length∧zs.length=xs.length∧xs.length≤4000∧
 ∀(l:Addr) (ts:List Addr) (H':Hp),ah H1 H'→H1 l=none→H' l=some (.lst (ts.map V.ref))→ts.length=xs.length→(∀(i:Nat) t,ts[i]?=some t→eH fun x y z=>xs[i]?=some x∧ys[i]?=some y∧zs[i]?=some z∧H' t=some (.tup [x,y,z]))→Q (.ref l) H'
section
variable {X:Cx}{K:PySem.W.Frag}{a b c:Expr}{ta:TA}{p1 p2 p3 p4:Pos}
theorem A6 (hc:X.calm=true) (hg1:Gl X "list") (hm1:X.mg "list" = none) (hg2:Gl X "zip") (hm2:X.mg "zip" = none) (ha:PA X [a,b,c] ta) (ek:X.K=K:=by rfl) (hs:starEach [a,b,c] X.env=[(false,eval a X.env),(false,eval b X.env),(false,eval c X.env)]:=by rfl) (hs2:starEach [b,c] X.env=[(false,eval b X.env),(false,eval c X.env)]:=by rfl)
 (hs3:starEach [Expr.Call (.Name "zip" p2) [a,b,c] [] p3] X.env=[(false,eval (Expr.Call (.Name "zip" p2) [a,b,c] [] p3) X.env)]:=by rfl) :
 PE X (.Call (.Name "list" p1) [.Call (.Name "zip" p2) [a,b,c] [] p3] [] p4) (Do K ta):=by
 subst ek
 intro pins s σ H Q I h
 refine wpAny_Call_Name_kw (gZ I hg1 hm1 cH ?_ (by decide) (by decide))
 refine PyProof.Rows.callWith_type1 ?_ hs3 rfl
 rw [hs3]
 show wpAny _ _ (spliced ((false,eval (Expr.Call (.Name "zip" p2) [a,b,c] [] p3) X.env) :: [])) _ _ s
 refine Calls.spliced_cons ?_
 refine Call_ (gZ I hg2 hm2 xD (PyProof.Rows.callWith_type1 (aK (ha p3 pins s σ H _ I h) fun us s1 ⟨vs,H1,I1,r1,q1⟩=>?_) (by rw [hs,hs2]) (by rw [hs2];rfl)))
 obtain ⟨a1,a2,a3,xs,ys,zs,rfl,p1,p2,p3,ly,lz,h4,q⟩:=q1
 obtain ⟨u1,u2,u3,rfl,ru1,ru2,ru3⟩:eH fun u1 u2 u3=>us=[u1,u2,u3]∧aQ (.ref a1) u1∧aQ (.ref a2) u2∧aQ (.ref a3) u3:=by
  cases r1 with
  | cons r1 r=>
  cases r with
  | cons r2 r=>
  cases r with
  | cons r3 r=>
  cases r
  exact ⟨_,_,_,rfl,r1,r2,r3⟩
 obtain rfl:u1=.ref a1:=ru1
 obtain rfl:u2=.ref a2:=ru2
 obtain rfl:u3=.ref a3:=ru3
 obtain ⟨its1,rv1,k1⟩:=I1.seqC (c:=true) p1
 obtain ⟨its2,rv2,k2⟩:=I1.seqC (c:=true) p2
 obtain ⟨its3,rv3,k3⟩:=I1.seqC (c:=true) p3
 have d1:=k1.lt
 have d2:=k2.lt
 have d3:=k3.lt
 have l1:=rv1.length
 have l2:=rv2.length
 have l3:=rv3.length
 refine Aw k1 k2 k3 fun h' st sz hk hz=>Calls.spliced_nil ?_
 refine wx (s:={ s1 with heap:=h' }) ⟨d1,d2,d3⟩ st hz sz (I1.ok.hd hc) (by simp;trivial) (by simp;trivial) (by simp;trivial) fun h2 tk ts c' lt gt nd tr hL kp=>?_
 have lts:ts.length=xs.length:=by rw [lt];simp [l1]
 let N:Addr→Option HO:=fun b=>if b=s1.heap.objs.size+6 then some (.lst (ts.map V.ref)) else if b∈ts then some (.tup [xs.getD (ts.idxOf b) .non,ys.getD (ts.idxOf b) .non,zs.getD (ts.idxOf b) .non]) else none
 have N6:N (s1.heap.objs.size+6)=some (.lst (ts.map V.ref)):=if_pos rfl
 have Nt:∀(i:Nat) t,ts[i]?=some t→N t=some (.tup [xs.getD i .non,ys.getD i .non,zs.getD i .non]):=fun i t hi=>by
  have hm:=List.mem_of_getElem? hi
  have hix:ts.idxOf t=i:=by
   obtain ⟨hj,e⟩:=List.getElem?_eq_some_iff.mp hi
   have h1:ts.idxOf t<ts.length:=List.idxOf_lt_length_of_mem hm
   exact i0 nd h1 hj (by rw [List.getElem_idxOf h1,e])
  show (if _ then _ else _)=_
  rw [if_neg (fun z=>absurd (gt t hm) (by rw [z];exact Nat.lt_irrefl _)),if_pos hm,hix]
 have k9:∀b u,s1.heap.get? b=some u→h2.get? b=some u:=fun b u e=>kp b u (Heap.lt_size e) (hk b u e)
 have vals:∀ts:List Nat,aC (ts.map V.ref) (ts.map Value.ref):=fun ts=>by
  induction ts with
  | nil=>exact .nil
  | cons t r ih=>exact .cons rfl ih
 have get':∀{xs:List V}{i:Nat},i<xs.length→xs[i]?=some (xs.getD i .non):=fun {xs i} hi=>by simp [List.getElem?_eq_getElem hi]
 have I3:=I1.many (h':=h2) (t':=tk) (N:=N) k9 (fun b o e=>?_) (fun b o e=>?_)
 ·refine ⟨.ref (s1.heap.objs.size+6),vN H1 N,I3,rfl,q _ ts _ (fun b u e=>?_) (I1.hok.fresh (Nat.le_add_right _ _)) (tz N6) lts fun i t hi=>?_⟩
  ·rw [pG]
   ·exact e
   ·have:=I1.hok.lt e
    show (if _ then _ else _)=_
    rw [if_neg (fun z=>absurd this (by rw [z];exact Nat.not_lt.mpr (Nat.le_add_right _ _))),if_neg fun hm=>?_]
    exact absurd this (Nat.not_lt.mpr (Nat.le_trans (Nat.le_add_right _ _) (Nat.le_of_lt (gt b hm))))
  ·have hi':i<xs.length:=by rw [←lts];exact (List.getElem?_eq_some_iff.mp hi).1
   exact ⟨_,_,_,get' hi',get' (by trivial),get' (by trivial),tz (Nt i t hi)⟩
 ·by_cases h6:b=s1.heap.objs.size+6
  ·rw [h6];exact Nat.le_add_right _ _
  ·have e':(if b∈ts then some (HO.tup [xs.getD (ts.idxOf b) .non,ys.getD (ts.idxOf b) .non,zs.getD (ts.idxOf b) .non]) else none)=some o:=by rw [←e];exact (if_neg h6).symm
   by_cases hm:b∈ts
   ·exact Nat.le_trans (Nat.le_add_right _ _) (Nat.le_of_lt (gt b hm))
   ·rw [if_neg hm] at e';cases e'
 ·by_cases h6:b=s1.heap.objs.size+6
  ·subst h6
   rw [N6] at e
   cases e
   exact ⟨by rw [List.length_map,lts,sizeLine_eq];trivial,ts.map Value.ref,c',vals ts,hL⟩
  ·have e':(if b∈ts then some (HO.tup [xs.getD (ts.idxOf b) .non,ys.getD (ts.idxOf b) .non,zs.getD (ts.idxOf b) .non]) else none)=some o:=by rw [←e];exact (if_neg h6).symm
   by_cases hm:b∈ts
   ·rw [if_pos hm] at e'
    cases e'
    have h1:ts.idxOf b<ts.length:=List.idxOf_lt_length_of_mem hm
    obtain ⟨x,y,v,a1,a2,a3,a4⟩:=tr (ts.idxOf b) b (by rw [List.getElem?_eq_getElem h1,List.getElem_idxOf h1])
    obtain ⟨x',ex,rx⟩:=rv1.get (get' (xs:=xs) (i:=ts.idxOf b) (by trivial))
    obtain ⟨y',ey,ry⟩:=rv2.get (get' (xs:=ys) (i:=ts.idxOf b) (by trivial))
    obtain ⟨v',ev,rv⟩:=rv3.get (get' (xs:=zs) (i:=ts.idxOf b) (by trivial))
    have b1:x'=x:=Option.some.inj (ex.symm.trans (by simpa using a1))
    have b2:y'=y:=Option.some.inj (ey.symm.trans (by simpa using a2))
    have b3:v'=v:=Option.some.inj (ev.symm.trans (by simpa using a3))
    subst b1 b2 b3
    exact ⟨by show 3≤sizeLine;rw [sizeLine_eq];decide,[x',y',v'],.cons rx (.cons ry (.cons rv .nil)),⟨_,a4,rfl,_,rfl⟩,_,a4,rfl⟩
   ·rw [if_neg hm] at e';cases e'
end
end L2
namespace L2
open PySem PySem.Spec PyProof.Rows
theorem uN:typeLookup (.type "list") "keys" = pure none:=am_miss_of_fast (by kernel_rfl)
section
variable {prog:Program}{w:World}{A:Around}{E:Value→Shared→Prop}{s:Shared}
theorem rZ {a:Addr}{xs:Array Value}{k:Nat}{name:Str}{Q:Option Value→Shared→Prop} (hmiss:typeLookup (.type "list") name=pure none) (hname:(["__module__", "__name__", "__qualname__", "__doc__", "__annotations__"]:List Str).contains name=false) (hsz:name.length+100≤sizeLine)
 (hx:s.heap.get? a=some { cls:=.type "list",dict:=none,data:=.seq xs k,slots:=#[] }) (hA:A.handled=none)
 (h:∀h' tk,(∀b o,s.heap.get? b=some o→h'.get? b=some o)→Q none { s with heap:=h',toks:=tk }) :
 wpAny (model prog w) A (getAttr? (.ref a) name) Q E s:=by
 obtain ⟨hp,g,d,tk,os⟩:=s
 have hT:∀tk',(⟨hp,g,d,tk',os⟩:Shared).TypeIs (.ref a) "list" := fun _=>⟨_,hx,rfl⟩
 have f1:=sub_AttributeError
 have f3:=F.slot_list_getattribute.lookup
 have f4:=F.slot_list_getattribute.bind (.ref a)
 have f5:=am_list_getattr_none
 unfold getAttr? getAttrBy? getAttrBy
 repeat (any_goals (first | assumption | exact hT _ | ((with_reducible show wpAny _ _ (call (Value.builtin "list.__getattribute__") _ _) _ _ _);refine call_meets F.slot_list_getattribute (hT _) am_entry_list_getattribute (F.args_list_getattribute_2 _ _) (meets_getattribute_miss_list a xs k #[] name _ hmiss hname hsz) ⟨hx,hA,fun h' tk' e hx'=>?_⟩) | wp_step))
 obtain ⟨t',u',he⟩:=hx'.there
 show wpAny _ _ (getattributeRaised _ _ _ _ _ _ _) _ _ _
 unfold getattributeRaised
 repeat (any_goals (first | assumption | wp_step))
 exact h _ _ hx'.keeps
end
section
variable {prog:Program}{w:World}{A:Around}{E:Value→Shared→Prop}{R:Result→Shared→Prop}
variable {l it d:Nat}{vs:Array Value}{ks:List aJ}{us:List Value}
def Ju (h:Heap) (vs:Array Value) (ks:List aJ) (us:List Value) (it d:Nat):Prop:=∀(i:Nat),i<ks.length→yx fun (T:Nat) (x y:Value) (c:Nat) (sl:Array (Option Value)) (dd:Option Addr)=>vs[i]?=some (.ref T)∧h.get? T=some ⟨.type "tuple",dd,.seq #[x,y] c,sl⟩∧us[i]?=some y∧(∀k,ks[i]?=some k→f7 k x=true)∧T≠it∧T≠d
theorem zP (n1:l≠it∧l≠d∧it≠d) (hh:A.handled=none) (lv:vs.size=ks.length) (lu:us.length=ks.length) (nd:ks.Nodup) (hz:ks.length≤4000) :
 ∀(r i:Nat) (tk0:Tok) (s:Shared),ks.length - i=r→i≤ks.length→s.heap.IsListIter it l i→s.heap.IsList l vs→Ju s.heap vs ks us it d→s.heap.DictOf (bI prog w) d ((ks.zip us).take i)→
   (∀h' tk,h'.DictOf (bI prog w) d (ks.zip us)→(∀(c:Nat) o,c≠it→c≠d→s.heap.get? c=some o→h'.get? c=some o)→R (.ok (.ret .none)) { s with heap:=h',toks:=tk })→
   codeAny (model prog w) A (.builtin "dict.update.loop" ⟨[.ref d,.ref it,.int (i:Nat) tk0,.none],[]⟩) R s:=by
 have W:=(Walks.list (prog:=prog) (w:=w) (A:=A.in1) hh it l n1.1 vs)
 intro r
 induction r with
 | zero=>
  intro i tk0 s hr hi st hl pr hD hR
  have e:i=ks.length:=by trivial
  have lz:(ks.zip us).length=ks.length:=by simp [lu]
  rw [e,←lz,List.take_length] at hD
  refine codeAny_builtin iJ ?_
  rw [A.under_plainId de]
  show wpAny _ _ (pyNext (Value.ref it) >>= _) _ _ _
  refine wpAny_bind (W.done s _ _ (by rw [lv,←e];exact ⟨st,hl⟩) fun h' tk keep=>?_)
  show wpAny _ _ (Builtin.Dict.addKeywords d [] >>= _) _ _ _
  refine wpAny_bind (wpAny_pure (wpAny_pure ?_))
  obtain ⟨o,es,ep,ho,q⟩:=hD
  have kp:∀(c:Nat) o,c≠it→s.heap.get? c=some o→h'.get? c=some o:=fun c o hc e=>keep c o (by simpa using hc) e
  exact hR h' tk ⟨o,es,ep,kp d o (Ne.symm n1.2.2) ho,q⟩ fun c o d1 _ e=>kp c o d1 e
 | succ r ih=>
  intro i tk0 s hr hi st hl pr hD hR
  have lt:i<ks.length:=by trivial
  obtain ⟨T,x,y,c,sl,dd,e1,e2,e3,e4,e5,e6⟩:=pr i lt
  have kv:=e4 ks[i] (List.getElem?_eq_getElem lt)
  refine codeAny_builtin iJ ?_
  rw [A.under_plainId de]
  show wpAny _ _ (pyNext (Value.ref it) >>= _) _ _ _
  refine wpAny_bind (W.item i s _ _ (by trivial) ⟨st,hl⟩ fun v h' tk pv st' keep=>?_)
  obtain rfl:v=.ref T:=Option.some.inj ((show vs[i]?=some v from pv).symm.trans e1)
  have kp:∀(c:Nat) o,c≠it→s.heap.get? c=some o→h'.get? c=some o:=fun c o hc e=>keep c o (by simpa using hc) e
  have hD':h'.DictOf (bI prog w) d ((ks.zip us).take i):=let ⟨o,es,ep,ho,q⟩:=hD;⟨o,es,ep,kp d o (Ne.symm n1.2.2) ho,q⟩
  have T':=kp T _ e5 e2
  refine wpAny_bind (wpAny_holding (wpAny_bind (wpAny_tryCatch ?_)))
  unfold Builtin.Dict.pairItems
  refine wpAny_bind (wpAny_typeOf (show Shared.TypeIs { s with heap:=h',toks:=tk } (.ref T) "tuple" from ⟨_,T',rfl⟩) ?_)
  rw [if_pos (by decide)]
  refine wpAny_bind (wpAny_seqItems T' rfl (wpAny_pure ?_))
  show wpAny _ _ (holding [x,y] (dictSet d x y)) _ _ _
  have hu:us[i]'(by trivial)=y:=(List.getElem?_eq_some_iff.mp e3).2
  have nk:ks[i]∉((ks.zip us).take i).map (·.1):=by
   rw [List.map_take,xX (by simp [lu])]
   intro q
   obtain ⟨j,hj,e⟩:=List.getElem_of_mem q
   rw [List.length_take] at hj
   rw [List.getElem_take] at e
   have:=i0 nd (by trivial) lt e
   trivial
  have lz:((ks.zip us).take i).length≤sizeLine:=by rw [List.length_take,sizeLine_eq];simp;trivial
  refine wpAny_holding (wpAny_dictSet_pairs (k:=ks[i]) kv hD' (hsz:=lz) fun h2 hD2 sb=>?_)
  rw [y4 nk] at hD2
  have nx:h2.DictOf (bI prog w) d ((ks.zip us).take (i+1)):=by
   rw [List.take_succ_eq_append_getElem (by simp [lu];trivial)]
   simpa [hu] using hD2
  have k2:∀(c:Nat) o,c≠d→h'.get? c=some o→h2.get? c=some o:=fun c o hc e=>(sb.2 c hc).trans e
  refine wpAny_pure ⟨plainId_quiet de _,?_⟩
  have e9:((i:Nat):Int)+1=((i+1:Nat):Int):=by trivial
  show codeAny _ _ (.builtin "dict.update.loop" ⟨[.ref d,.ref it,.int ((i:Nat)+1) 0,.none],[]⟩) _ _
  rw [e9]
  refine ih (i+1) 0 _ (by trivial) lt ?_ ?_ (fun j hj=>?_) nx fun h3 tk3 hD3 k3=>hR h3 tk3 hD3 fun c o a1 a2 e=>k3 c o a1 a2 (k2 c o a2 (kp c o a1 e))
  ·obtain ⟨o,ho,q⟩:=st'.1
   exact ⟨o,k2 _ _ n1.2.2 ho,q⟩
  ·obtain ⟨o,ho,q⟩:=st'.2
   exact ⟨o,k2 _ _ n1.2.1 ho,q⟩
  ·obtain ⟨T,x,y,c,sl,dd,e1,e2,e3,e4,e5,e6⟩:=pr j hj
   exact ⟨T,x,y,c,sl,dd,e1,k2 _ _ e6 (kp _ _ e5 e2),e3,e4,e5,e6⟩
set_option maxHeartbeats 1000000 in
theorem xI {s:Shared}{Q:Value→Shared→Prop}{c0:Nat} (hl:s.heap.get? l=some { cls:=.type "list",dict:=none,data:=.seq vs c0,slots:=#[] })
 (hh:A.handled=none) (lv:vs.size=ks.length) (lu:us.length=ks.length) (nd:ks.Nodup) (hz:ks.length≤4000)
 (pr:∀(i:Nat),i<ks.length→yx fun (T:Nat) (x y:Value) (c:Nat) (sl:Array (Option Value)) (dd:Option Addr)=>vs[i]?=some (.ref T)∧s.heap.get? T=some ⟨.type "tuple",dd,.seq #[x,y] c,sl⟩∧us[i]?=some y∧(∀k,ks[i]?=some k→f7 k x=true))
 (h:∀h' tk,h'.DictOf (bI prog w) s.heap.objs.size (ks.zip us)→(∀c o,s.heap.get? c=some o→h'.get? c=some o)→Q (.ref s.heap.objs.size) { s with heap:=h',toks:=tk }) :
 wpAny (model prog w) A (call (.type "dict") [.ref l]) Q E s:=by
 refine callType_codes (Q₁:=fun obj s₁=>obj=.ref s.heap.objs.size∧s₁={ s with heap:=s.heap.push { cls:=.type "dict",data:=.dict #[] } }) F.kt_called_dict (F.kt_typeCall_dict_1 _) F.entry_dict_init (kt_code_dict_new _ ⟨rfl,rfl⟩) ?_
 rintro obj s₁ ⟨rfl,rfl⟩
 have hnew:(s.heap.push { cls:=.type "dict",data:=.dict #[] }).DictOf (bI prog w) s.heap.objs.size []:=Heap.DictOf.new s.heap
 have up:∀c o,s.heap.get? c=some o→(s.heap.push { cls:=.type "dict",data:=.dict #[] }).get? c=some o:=fun c o e=>Heap.get?_push_of_some _ e
 have ne:∀c o,s.heap.get? c=some o→c≠s.heap.objs.size:=fun c o e=>Nat.ne_of_lt (Heap.lt_size e)
 have hl':=up _ _ hl
 refine ⟨hnew.typeIs,F.args_dict_init_2 _ _,?_⟩
 unfold Builtin.«dict.__init__»
 refine wpAny_bind ?_
 unfold Builtin.Dict.selfAndRest
 refine wpAny_bind (wpAny_notOrdered_dict hnew.typeIs ?_)
 show wpAny _ _ (pure (s.heap.objs.size,[Value.ref l])) _ _ _
 refine wpAny_pure ?_
 show wpAny _ _ (Builtin.Dict.updateFrom "dict.__init__" s.heap.objs.size (.ref l) [] .none) _ _ _
 unfold Builtin.Dict.updateFrom
 refine wpAny_bind (wpAny_typeOf (T := "list") ⟨_,hl',rfl⟩ ?_)
 rw [if_pos (by decide)]
 refine wpAny_bind (rZ uN (by decide +kernel) (by rw [sizeLine_eq];decide) hl' (by simpa using hh) fun g1 tk1 k1=>?_)
 simp only [Option.isNone_none,if_true]
 refine wpAny_bind (wpAny_rule ?_)
 have l1:g1.IsList l vs:=⟨_,k1 _ _ hl',rfl,_,rfl⟩
 refine wpAny_bind (wpAny_pyIter_list l1 ?_)
 have kk:∀c o,s.heap.get? c=some o→g1.get? c=some o:=fun c o e=>k1 _ _ (up _ _ e)
 have pu:∀(ob:Obj) c o,g1.get? c=some o→(g1.push ob).get? c=some o:=fun ob c o e=>Heap.get?_push_of_some _ e
 obtain ⟨on,es,ep,hon,qn⟩:=hnew
 have hon1:=k1 _ _ hon
 have dlt:s.heap.objs.size<g1.objs.size:=Heap.lt_size hon1
 have llt:l<s.heap.objs.size:=Heap.lt_size hl
 refine wpAny_pure ⟨plainId_quiet de _,?_⟩
 refine zP (ks:=ks) (us:=us) (vs:=vs) (l:=l) (it:=g1.objs.size) (d:=s.heap.objs.size) ⟨Nat.ne_of_lt (Nat.lt_trans llt dlt),Nat.ne_of_lt llt,Nat.ne_of_gt dlt⟩ (by simpa using hh) lv lu nd hz ks.length 0 0 _ rfl (Nat.zero_le _) ⟨_,Heap.get?_push_size _ rfl,rfl,rfl⟩ (l1.push _) (fun i hi=>?_) ⟨on,es,ep,pu _ _ _ hon1,qn⟩ fun h' tk hD keep=>?_
 ·obtain ⟨T,x,y,c,sl,dd,e1,e2,e3,e4⟩:=pr i hi
  have tlt:=Heap.lt_size e2
  exact ⟨T,x,y,c,sl,dd,e1,pu _ _ _ (kk _ _ e2),e3,e4,Nat.ne_of_lt (Nat.lt_trans tlt dlt),Nat.ne_of_lt tlt⟩
 ·exact ⟨rfl,h h' tk hD fun c o e=>keep c o (Nat.ne_of_lt (Nat.lt_trans (Heap.lt_size e) dlt)) (ne _ _ e) (pu _ _ _ (kk _ _ e))⟩
end
section
variable {X:Cx}
inductive Dj (vs:List V) (H:Hp) (Q:VK):Prop
 | mk (l:Addr) (ts:List Addr) (ks:List aJ) (ys:List V) (h0:vs=[.ref l]) (h1:H l=some (.lst (ts.map V.ref))) (h2:ts.length=ks.length) (h3:ys.length=ks.length) (h4:ks.Nodup) (h5:ks.length≤4000) (h6:(∀(i:Nat) t,ts[i]?=some t→aW fun k y=>ks[i]?=some k∧ys[i]?=some y∧H t=some (.tup [f9 k,y]))) (h7:∀p H',Nw H p (.dK (ks.zip ys)) H'→Q (.ref p) H')
def FK:List V→Hp→VK→Prop:=fun vs H Q=>Dj  vs H Q
theorem xJ {k k':Value}{d d':Option Addr}{x y x' y':Value}{n n':Nat}{s s':Array (Option Value)} (h:(⟨k,d,.seq #[x,y] n,s⟩:Obj)=⟨k',d',.seq #[x',y'] n',s'⟩):y=y':=by
 simp only [Obj.mk.injEq,Data.seq.injEq] at h
 have a:=h.2.2.1.1
 simp at a
 exact a.2
theorem uX {α:Type}{p:Nat→α→Prop}:∀n,(∀i,i<n→∃a,p i a)→∃as:List α,as.length=n∧∀(i:Nat) a,as[i]?=some a→p i a
 | 0,_=>⟨[],rfl,fun i a h=>by simp at h⟩
 | n+1,h=>by
  obtain ⟨as,l,q⟩:=uX n fun i hi=>h i (by trivial)
  obtain ⟨a,ha⟩:=h n (by trivial)
  refine ⟨as++[a],by rw [List.length_append,l];rfl,fun i b hb=>?_⟩
  by_cases c:i<n
  ·rw [List.getElem?_append_left (by trivial)] at hb
   exact q i b hb
  ·have hlt:=(List.getElem?_eq_some_iff.mp hb).1
   rw [List.length_append] at hlt
   simp at hlt
   obtain rfl:i=n:=by trivial
   rw [List.getElem?_append_right (by trivial),l,Nat.sub_self] at hb
   obtain rfl:a=b:=Option.some.inj hb
   exact ha
theorem ze (hc:X.calm=true):cn X (.type "dict") FK:=by
 intro pins s σ H xs us Q I r h
 obtain ⟨l,ts,ks,ys,rfl,hl,lt,ly,nd,h4,hp,q⟩:=h
 obtain ⟨u,rfl,ru⟩:=r.one
 obtain rfl:u=.ref l:=ru
 obtain ⟨z,its,n,rv,hlen,e⟩:=I.lstM hl
 rw [List.length_map] at hlen
 have isT:∀(i:Nat) t,ts[i]?=some t→its[i]?=some (.ref t):=fun i t hi=>by
  obtain ⟨w,hw,rw'⟩:=rv.get (show (ts.map V.ref)[i]?=some (V.ref t) by rw [List.getElem?_map,hi];rfl)
  obtain rfl:w=.ref t:=rw'
  exact hw
 have per:∀i,i<ks.length→yx fun (T:Nat) (x y:Value) (c:Nat) (sl:Array (Option Value)) (dd:Option Addr)=>its[i]?=some (.ref T)∧s.heap.get? T=some ⟨.type "tuple",dd,.seq #[x,y] c,sl⟩∧(∃yv,ys[i]?=some yv∧aQ yv y)∧(∀k,ks[i]?=some k→f7 k x=true):=fun i hi=>by
  have ht:=List.getElem?_eq_getElem (show i<ts.length by trivial)
  obtain ⟨k,y,hk,hy,hT⟩:=hp i _ ht
  obtain ⟨_,us,rus,⟨ob,g1,g2,c,g3⟩,_⟩:=(show aV X.prog X.w H s.heap ts[i] (.tup [f9 k,y]) from I.hok _ _ hT)
  obtain ⟨a,b,rfl,ra,rb⟩:=rus.two
  obtain ⟨oc,od,oo,osl⟩:=ob
  simp only at g2 g3
  subst g2 g3
  exact ⟨ts[i],a,b,c,osl,od,isT i _ ht,g1,⟨y,hy,rb⟩,fun k' hk'=>by rw [hk] at hk';cases hk';exact (uZ ra).1⟩
 have vals:∃us':List Value,us'.length=ks.length∧aC ys us'∧∀i (hi:i<ks.length) (T:Nat) (x y:Value) (c:Nat) (sl:Array (Option Value)) (dd:Option Addr),its[i]?=some (.ref T)→s.heap.get? T=some ⟨.type "tuple",dd,.seq #[x,y] c,sl⟩→us'[i]?=some y:=by
  obtain ⟨us',l1,h1⟩:=uX (p:=fun i y=>∀(T:Nat) (x y':Value) (c:Nat) (sl:Array (Option Value)) (dd:Option Addr),its[i]?=some (.ref T)→s.heap.get? T=some ⟨.type "tuple",dd,.seq #[x,y'] c,sl⟩→y'=y∧∃yv,ys[i]?=some yv∧aQ yv y') ks.length fun i hi=>by
   obtain ⟨T,x,y,c,sl,dd,e1,e2,e3,e4⟩:=per i hi
   refine ⟨y,fun T' x' y' c' sl' dd' f1 f2=>?_⟩
   have eT:=Option.some.inj (e1.symm.trans f1)
   injection eT with eT
   have f3:s.heap.get? T=_:=(congrArg s.heap.get? eT).trans f2
   have ey:=xJ (Option.some.inj (e2.symm.trans f3))
   subst ey
   exact ⟨rfl,e3⟩
  refine ⟨us',l1,?_,fun i hi T x y c sl dd e1 e2=>?_⟩
  ·refine xp (by trivial) fun i yv u e1 e2=>?_
   have hi:i<ks.length:=by rw [←l1];exact (List.getElem?_eq_some_iff.mp e2).1
   obtain ⟨T,x,y,c,sl,dd,g1,g2,g3,g4⟩:=per i hi
   obtain ⟨q1,yv',q2,q3⟩:=h1 i u e2 T x y c sl dd g1 g2
   rw [e1] at q2
   cases q2
   rw [←q1]
   exact q3
  ·obtain ⟨u,hu⟩:∃u,us'[i]?=some u:=⟨_,List.getElem?_eq_getElem (by trivial)⟩
   rw [hu,(h1 i u hu T x y c sl dd e1 e2).1]
 obtain ⟨us',lu,rus,hus⟩:=vals
 refine xI (E:=X.xe) (ks:=ks) (us:=us') (vs:=its.toArray) (l:=l) e (I.ok.hd hc) (by simp;trivial) lu nd h4 (fun i hi=>?_) fun h' tk hD kp=>?_
 ·obtain ⟨T,x,y,c,sl,dd,e1,e2,_,e4⟩:=per i hi
  exact ⟨T,x,y,c,sl,dd,by simpa using e1,e2,hus i hi T x y c sl dd e1 e2,e4⟩
 ·have big:sysModules<s.heap.objs.size:=by
   have e:mainGlobals<s.heap.objs.size:=(I.mod.glob.keeps I.bk).lt
   exact Nat.lt_trans (by decide) e
  exact ⟨.ref _,_,I.laid (t':=tk) kp (Nat.le_refl _) (show aV X.prog X.w _ h' _ (.dK (ks.zip ys)) from ⟨by rw [sizeLine_eq];simp;trivial,beq_eq_false_iff_ne.mpr (Ne.symm (Nat.ne_of_lt big)),ks.zip us',Bb rus,hD⟩),rfl,q _ _ (.mk' (I.hok.fresh (Nat.le_refl _)))⟩
end
end L2
namespace L2
open PySem PySem.Spec PyProof.Rows
section
variable {X:Cx}
inductive Da (x:V) (y:V) (H:Hp) (Q:VK):Prop
 | mk (a c:Addr) (xs:List V) (h0:x=.ref a) (h1:y=.ref c) (h2:H a=some (.lst xs)) (h3:H c=some (.lst [])) (h4:Q (.bl (!xs.isEmpty)) H)
def Fp:R2:=fun x y H Q=>Da  x y H Q
theorem BU (hu:X.A.units+64<cLine):cB X (compareOp .NotEq) Fp:=by
 intro pins s σ H x y v u Q I rx ry h
 obtain ⟨a,c,xs,rfl,rfl,ha,hc,q⟩:=h
 cases rx
 cases ry
 obtain ⟨z,its,n,r,hl,e⟩:=I.lstM ha
 obtain ⟨z2,its2,n2,r2,hl2,e2⟩:=I.lstM hc
 have h0:its2=[]:=List.eq_nil_of_length_eq_zero hl2.symm
 subst h0
 have l1:s.heap.IsList a its.toArray:=⟨_,e,rfl,_,rfl⟩
 have l2:s.heap.IsList c (#[]:Array Value):=⟨_,e2,rfl,_,rfl⟩
 have hu':X.A.units<cLine:=by trivial
 cases xs with
 | nil=>
  have:its=[]:=List.eq_nil_of_length_eq_zero hl.symm
  subst this
  refine (PySem.SeqAt.RcNeAt.lists (e:=fun _=>true) l1 l2 rfl hu' (fun j j1 j2=>absurd j1 (by simp))) X.prog X.w X.xe _ ?_
  exact ⟨.bl _,H,I,rfl,q⟩
 | cons y ys=>
  refine (PySem.SeqAt.RcNeAt.lists_lengths l1 l2 (by simp at hl ⊢;exact fun z=>by rw [z] at hl;simp at hl) hu') X.prog X.w X.xe _ ?_
  exact ⟨.bl _,H,I,rfl,q⟩
end
structure Gb (a b:Nat) (p:KM.Fra):Prop where
 n:Sz a p.1
 d:Sz b p.2
 pos:1≤p.2
theorem Gb.mono {a b a' b':Nat}{p:KM.Fra} (h:Gb a b p) (ha:a≤a') (hb:b≤b'):Gb a' b' p:=⟨h.n.mono ha,h.d.mono hb,h.pos⟩
theorem qR {a b:Nat}{n d:Int} (hn:Sz a n) (hd:Sz b d) (h0:0<d):Gb a b (KM.low n d):=by
 have:=KM.low_spec n d (by trivial)
 exact ⟨hn.le this.2.2.2.1,hd.le this.2.2.2.2,this.1⟩
def iR (p q:KM.Fra):KM.Fra:=KM.low (p.1*q.2) (p.2*q.1)
theorem Gb.tim {a b c d e f:Nat}{p q:KM.Fra} (h:Gb a b p) (k:Gb c d q) (h1:a+c≤e) (h3:b+d≤f):Gb e f (KM.lTim p q):=
 qR ((h.n.mul k.n).mono h1) ((h.d.mul k.d).mono h3) (Int.mul_pos (by have:=h.pos;trivial) (by have:=k.pos;trivial))
theorem Gb.ovr {a b c d e f:Nat}{p q:KM.Fra} (h:Gb a b p) (k:Gb c d q) (hq:1≤q.1) (h1:a+d≤e) (h3:b+c≤f):Gb e f (iR p q):=
 qR ((h.n.mul k.d).mono h1) ((h.d.mul k.n).mono h3) (Int.mul_pos (by have:=h.pos;trivial) (by trivial))
theorem uG {p q:KM.Fra} (h:1≤p.1) (h':1≤p.2) (k:1≤q.1) (k':1≤q.2):1≤(KM.lTim p q).1:=(KM.low_sgn (Int.mul_pos (by trivial) (by trivial))).1.mpr (Int.mul_pos (by trivial) (by trivial))
theorem Dq {p q:KM.Fra} (h:1≤p.1) (h':1≤p.2) (k:1≤q.1) (k':1≤q.2):1≤(iR p q).1:=(KM.low_sgn (Int.mul_pos (by trivial) (by trivial))).1.mpr (Int.mul_pos (by trivial) (by trivial))
end L2
namespace L2
open PySem PySem.Spec PyProof.Rows
def dz (kvs:List (aJ×V)) (k:aJ) (v:V):List (aJ×V):=if kvs.any (fun kv=>decide (kv.1=k)) then kvs.map (fun kv=>if kv.1=k then (kv.1,v) else kv) else kvs++[(k,v)]
theorem KV.any {kvs:List (aJ×V)}{vs:List (aJ×Value)} (r:KV kvs vs) (k:aJ):kvs.any (fun kv=>decide (kv.1=k))=vs.any (fun kv=>decide (kv.1=k)):=by
 induction r with
 | nil=>rfl
 | cons h t ih=>rw [List.any_cons,List.any_cons,ih,h.1]
theorem vj {kvs:List (aJ×V)}{vs:List (aJ×Value)} (r:KV kvs vs) {k:aJ}{v:V}{u:Value} (rv:aQ v u):KV (dz kvs k v) (stored vs k u):=by
 unfold dz stored
 rw [r.any k]
 have m:KV (kvs.map (fun kv=>if kv.1=k then (kv.1,v) else kv)) (vs.map (fun kv=>if kv.1=k then (kv.1,u) else kv)):=by
  induction r with
  | nil=>exact .nil
  | @cons p q ps qs h t ih=>
   refine .cons ?_ ih
   obtain ⟨pk,pv⟩:=p
   obtain ⟨qk,qv⟩:=q
   obtain ⟨h1,h2⟩:=h
   obtain rfl:pk=qk:=h1
   show (if pk=k then (pk,v) else (pk,pv)).1=(if pk=k then (pk,u) else (pk,qv)).1∧aQ (if pk=k then (pk,v) else (pk,pv)).2 (if pk=k then (pk,u) else (pk,qv)).2
   by_cases c:pk=k
   ·rw [if_pos c,if_pos c];exact ⟨rfl,rv⟩
   ·rw [if_neg c,if_neg c];exact ⟨rfl,h2⟩
 have a:KV (kvs++[(k,v)]) (vs++[(k,u)]):=by
  clear m
  induction r with
  | nil=>exact .cons ⟨rfl,rv⟩ .nil
  | cons h t ih=>exact .cons h ih
 cases vs.any (fun kv=>decide (kv.1=k)) with
 | true=>exact m
 | false=>exact a
theorem vw {kvs:List (aJ×V)}{k:aJ}{v:V} (h:kvs.length<sizeLine):(dz kvs k v).length≤sizeLine:=by
 unfold dz
 split
 ·rw [List.length_map];trivial
 ·rw [List.length_append];exact h
theorem kC (kvs:List (aJ×V)) (k:aJ) (v:V) (x:aJ):valD (dz kvs k v) x=if x=k then some v else valD kvs x:=by
 unfold dz
 cases c:kvs.any (fun kv=>decide (kv.1=k)) with
 | true=>
  rw [if_pos rfl]
  induction kvs with
  | nil=>cases c
  | cons p ps ih=>
   unfold valD at ih ⊢
   rw [List.map_cons,List.find?_cons,List.find?_cons]
   by_cases hp:p.1=k
   ·rw [if_pos hp]
    by_cases hx:x=k
    ·rw [if_pos hx,hp,hx];simp
    ·rw [if_neg hx]
     have n1:¬p.1=x:=fun z=>hx (z.symm.trans hp)
     have n2:decide (p.1=x)=false:=decide_eq_false n1
     rw [n2]
     dsimp only
     by_cases c2:ps.any (fun kv=>decide (kv.1=k))=true
     ·rw [ih c2,if_neg hx]
     ·have e:ps.map (fun kv=>if kv.1=k then (kv.1,v) else kv)=ps:=by
       have:∀kv∈ps,(fun kv:aJ×V=>if kv.1=k then (kv.1,v) else kv) kv=kv:=fun kv hkv=>by
        by_cases q:kv.1=k
        ·exact absurd (List.any_eq_true.mpr ⟨kv,hkv,decide_eq_true q⟩) c2
        ·show (if kv.1=k then _ else _)=_
         rw [if_neg q]
       exact (List.map_congr_left this).trans (List.map_id _)
      rw [e]
   ·rw [if_neg hp]
    have c':ps.any (fun kv=>decide (kv.1=k))=true:=by
     rw [List.any_cons,decide_eq_false hp,Bool.false_or] at c
     exact c
    by_cases hpx:p.1=x
    ·have hx:¬x=k:=fun z=>hp (hpx.trans z)
     rw [if_neg hx,decide_eq_true hpx]
    ·rw [decide_eq_false hpx]
     dsimp only
     exact ih c'
 | false=>
  rw [if_neg Bool.false_ne_true]
  have nk:valD kvs k=none:=by
   unfold valD
   rw [Option.map_eq_none_iff,List.find?_eq_none]
   intro kv hkv q
   have:kvs.any (fun kv=>decide (kv.1=k))=true:=List.any_eq_true.mpr ⟨kv,hkv,q⟩
   rw [c] at this;cases this
  unfold valD at nk ⊢
  rw [List.find?_append]
  by_cases hx:x=k
  ·subst hx
   rw [Option.map_eq_none_iff] at nk
   rw [nk,if_pos rfl];simp
  ·rw [if_neg hx]
   cases kvs.find? (fun kv=>decide (kv.1=x)) with
   | some p=>rfl
   | none=>
    have:decide (k=x)=false:=decide_eq_false fun z=>hx z.symm
    simp [this]
section
variable {X:Cx}
theorem ac.dset {pins:List (Addr×Obj)}{σ:St}{H:Hp}{s:Shared}{d:Addr}{kvs kvs':List (aJ×V)}{vs':List (aJ×Value)}{h':Heap}{t':Nat} (I:ac X pins σ H s) (hH:H d=some (.dK kvs)) (hm:(d==sysModules)=false) (hz:kvs'.length≤sizeLine)
 (hv:KV kvs' vs') (hd:h'.DictOf (bI X.prog X.w) d vs') (sb:Heap.SameBut d s.heap h'):ac X pins σ (aD H d (.dK kvs')) { s with heap:=h',toks:=t' }:=by
 obtain ⟨o,es,ep,ho,q⟩:=hd
 refine I.write (x:=d) (e:=d) (by rw [hH];exact trivial) (.inl rfl) (fun b u hb hu=>(sb.2 b hb).trans hu) ⟨_,ho⟩ ?_
 exact ⟨hz,hm,vs',hv,o,es,ep,ho,q⟩
structure C3 (H:Hp) (p:Addr) (o:HO) (H':Hp):Prop where
 at':H' p=some o
 ol:∀a u,a≠p→H a=some u→H' a=some u
 fre:∀a,a≠p→H a=none→H' a=none
theorem C3.mk' {H:Hp}{p:Addr}{o:HO}:C3 H p o (aD H p o):=⟨ar,fun a u n h=>by rw [aj n];exact h,fun a n h=>by rw [aj n];exact h⟩
inductive Fa (o:V) (i:V) (v:V) (H:Hp) (Q:(Hp→Prop)):Prop
 | mk (d:_) (kvs:_) (k:_) (h0:o=.ref d) (h1:i=f9 k) (h2:H d=some (.dK kvs)) (h3:kvs.length≤4000) (h4:∀H',C3 H d (.dK (dz kvs k v)) H'→Q H')
def Ib:V→V→V→Hp→(Hp→Prop)→Prop:=fun o i v H Q=>Fa  o i v H Q
theorem tU:BW X Ib:=by
 intro pins s σ H o i v ov iv u Q I ro ri rv h
 obtain ⟨d,kvs,k,rfl,rfl,hd,hl,q⟩:=h
 cases ro
 obtain ⟨hz,hm,vs,rel,dd⟩:=(show aV X.prog X.w H s.heap d (.dK kvs) from I.hok d _ hd)
 exact wpAny_setItem_pairs (hsz:=by rw [←rel.length];exact hz) (i3 ri) dd fun h' hd' sb=>⟨_,I.dset hd hm (vw (by rw [sizeLine_eq];trivial)) (vj rel rv) hd' sb,q _ .mk'⟩
inductive ET (ng:Bool) (x:V) (y:V) (H:Hp) (Q:VK):Prop
 | mk (d:Addr) (kvs:List (aJ×V)) (k:aJ) (h0:y=.ref d) (h1:x=f9 k) (h2:H d=some (.dK kvs)) (h3:Q (.bl (if ng then !(valD kvs k).isSome else (valD kvs k).isSome)) H)
def Hn (ng:Bool):R2:=fun x y H Q=>ET ng x y H Q
theorem AL {o:Option V}{p:Option Value} (h:qK o p):o.isSome=p.isSome:=by
 cases o <;> cases p <;> first | rfl | exact h.elim
theorem pM:cB X (compareOp .NotIn) (Hn true):=by
 intro pins s σ H x y v u Q I rx ry h
 obtain ⟨d,kvs,k,rfl,rfl,hd,q⟩:=h
 cases ry
 obtain ⟨hz,hm,vs,rel,dd⟩:=(show aV X.prog X.w H s.heap d (.dK kvs) from I.hok d _ hd)
 show wpAny _ X.A (do return Value.bool (!(←contains (.ref d) v))) _ _ s
 refine wpAny_bind (wpAny_contains_slot dd.typeIs PySem.F.slot_dict_contains (wpAny_mono (call_meetsIn (Q:=fun b s'=>b=.bool (valueAt vs k).isSome∧s'={ s with toks:=s.toks+1 }) PySem.F.slot_dict_contains dd.typeIs PySem.F.entry_dict_contains (PySem.F.args_dict_contains_2 _ _) (meets_dict_contains (bI X.prog X.w) d (i3 rx) hm) ⟨_,dd.mapOf,rfl,rfl⟩) (fun b s' hb=>?_) fun _ _ e=>e))
 obtain ⟨rfl,rfl⟩:=hb
 refine wpAny_truthy_bool (wpAny_pure ?_)
 rw [←AL (rel.valD k)]
 exact ⟨.bl _,H,I.tok _,rfl,q⟩
theorem xT {pos:Pos}:PE X (.Dict [] [] pos) (fun _ H Q=>∀p H',Nw H p (.dK []) H'→Q (.ref p) H'):=by
 intro pins s σ H Q I h
 refine wpAny_Dict_empty ?_
 have big:(s.heap.objs.size==sysModules)=false:=by
  have e:mainGlobals<s.heap.objs.size:=(I.mod.glob.keeps I.bk).lt
  exact beq_eq_false_iff_ne.mpr (Ne.symm (Nat.ne_of_lt (Nat.lt_trans (by decide) e)))
 exact ⟨.ref _,_,I.laid (fun _ _ e=>Heap.get?_push_of_some _ e) (Nat.le_refl _) (show aV X.prog X.w _ _ _ (.dK []) from ⟨Nat.zero_le _,big,[],.nil,Heap.DictOf.new s.heap⟩),rfl,h _ _ (.mk' I.fresh)⟩
end
section
variable {prog:Program}{w:World}{A:Around}{R:Result→Shared→Prop}{s:Shared}
theorem wD {kx vx target iter:Expr}{ifs:List Expr}{scope:Scope}{pos:Pos}{it:Value}{D:Addr}{env:Env} (I:Nat→Shared→Prop)
 (turn:∀n s,I n s→wpAny (model prog w) A (pyNext it) (fun r s₁=>match r with
  | none=>R (.ok .next) s₁
  | some v=>wpAny (model prog w) A (letOwnedTupleGo target it v) (fun _ s₁'=>wpAny (model prog w) A (assign target env v) (fun _ s₂=>
   wpAny (model prog w) A (forIn ifs true fun c r=>if r=true then do let ok ←isTrue c env (eval c env);pure (ForInStep.yield ok) else pure (ForInStep.yield r)) (fun ok s₃=>
    if ok=true then wpAny (model prog w) A (eval kx env) (fun kv s₄=>wpAny (model prog w) A (eval vx env) (fun vv s₅=>
     wpAny (model prog w) A (dictSet D kv vv) (fun _ s₆=>∃m,m<n∧I m s₆) (fun _ _=>False) s₅) (fun _ _=>False) s₄) (fun _ _=>False) s₃
    else ∃m,m<n∧I m s₃) (fun _ _=>False) s₂) (fun _ _=>False) s₁') (fun _ _=>False) s₁) (fun _ _=>False) s)
 (n:Nat) (h:I n s) :
 codeAny (model prog w) A (.compLoop (.DictComp kx vx [⟨target,iter,ifs,0⟩] scope pos) 0 it (.ref D) env) R s:=by
 refine codeAny_loop rfl I (fun n s hI=>?_) n h
 show wpAny _ A ((compTurn (.DictComp kx vx [⟨target,iter,ifs,0⟩] scope pos) 0 it (.ref D) env).onRaise (fun x=>do noteFrame x env;theTreesLotGoes x)) _ _ s
 refine wpAny_noted ?_
 rw [compTurn_dict]
 refine wpAny_bind (wpAny_standAt (wpAny_bind (wpAny_mono (turn n s hI) (fun r s₁ h₁=>?_) fun _ _ h'=>h'.elim)))
 cases r with
 | none=>exact wpAny_pure h₁
 | some v=>
  refine wpAny_bind (wpAny_mono h₁ (fun _ s₁' h₁'=>?_) fun _ _ h'=>h'.elim)
  refine wpAny_bind (wpAny_mono h₁' (fun _ s₂ h₂=>wpAny_bind (wpAny_mono h₂ (fun ok s₃ h₃=>?_) fun _ _ h'=>h'.elim)) fun _ _ h'=>h'.elim)
  cases ok with
  | false=>exact wpAny_pure ⟨rfl,h₃⟩
  | true=>
   exact wpAny_bind (wpAny_bind (wpAny_mono h₃ (fun kv s₄ h₄=>wpAny_bind (wpAny_holding (wpAny_mono h₄ (fun vv s₅ h₅=>wpAny_bind (wpAny_standAt (wpAny_holding (wpAny_mono h₅ (fun _ s₆ h₆=>wpAny_pure ⟨rfl,h₆⟩) fun _ _ h'=>h'.elim)))) fun _ _ h'=>h'.elim))) fun _ _ h'=>h'.elim))
end
def Ad (J:It) (σc:St) (g:TG) (tt:TT) (tk tv:TE) (D:Addr) (H1:Hp) (Q:VK):Prop:=
 ∃W:Nat→Nat→Hp→List (aJ×V)→Prop,(∃m,W 0 m (aD H1 D (.dK [])) [])∧∀i m H ys,W i m H ys→H D=some (.dK ys)∧
  ((J.stop i H∧Q (.ref D) H)∨(J.go i H∧ys.length<sizeLine∧∃N:Hp→List (aJ×V)→Prop,(∀H' ys',N H' ys'→∃m',m'<m∧W (i+1) m' H' ys')∧
    ∀x H',J.yld i H x H'→g x σc H' fun σ2 H2=>jV σc σ2∧tt σ2 H2 fun b H3=>if b=true then tk σ2 H3 fun kv H4=>∃k,kv=f9 k∧tv σ2 H4 fun y H5=>H5 D=some (.dK ys)∧N (aD H5 D (.dK (dz ys k y))) (dz ys k y) else N H3 ys))
def AD (wi:TI) (L:Nat) (src:List Nat) (g:TG) (tt:TT) (tk tv:TE):TE:=fun σ H Q=>wi σ H fun J H1=>∀D,H1 D=none→Ad J (gJ L src σ) g tt tk tv D H1 Q
section
variable {X:Cx}{kx vx tg iter:Expr}{ifs:List Expr}{scope:Scope}{pos:Pos}{N':List Str}{L:Nat}{src:List Nat}{wi:TI}{g:TG}{tt:TT}{tk tv:TE}
theorem AB (hc:X.calm=true) (ck:AM X.env.scope X.N scope N' L src) {cl:List (Str×Addr)}{pins:List (Addr×Obj)}{s:Shared}{σ:St}{H:Hp}{Q:VK} (I:ac X pins σ H s)
 (hsub:∀x c,cl.lookup x=some c→X.env.cells.lookup x=some c) (hhas:∀y∈scope.names,y.2=.free→∃c,cl.lookup y.1=some c)
 (hi:PI X tg iter wi) (hg:∀cl C s H ex pn,PG (fh X scope cl C N' s H ex pn) tg g) (hif:∀cl C s H ex pn,pq (fh X scope cl C N' s H ex pn) ifs tt)
 (hk:∀cl C s H ex pn,PE (fh X scope cl C N' s H ex pn) kx tk) (hv:∀cl C s H ex pn,PE (fh X scope cl C N' s H ex pn) vx tv) (h:AD wi L src g tt tk tv σ H Q) {RR:Value→Addr→Result→Shared→Prop}
 (hRR:∀D C H' f s' m,ac X pins σ H' s'→s'.heap.Ns C m→ji X pins H' C→Q (.ref D) H'→RR (.ref D) C (.ok f) s') :
 wpAny (model X.prog X.w) X.A (eval iter X.env) (fun x s₁=>wpAny (model X.prog X.w) X.A (pyIter x) (fun it s₂=>wpAny (model X.prog X.w) X.A newDict (fun acc s₃=>
  wpAny (model X.prog X.w) X.A (newFunctionEnv scope X.env.globals cl [] X.env.qual none .none (some X.env)) (fun cenv s₄=>
   codeAny (model X.prog X.w) X.A (.compStart (.DictComp kx vx [⟨tg,iter,ifs,0⟩] scope pos) 0 it acc { cenv with scope:=relabel scope X.env }) (RR acc cenv.locals) s₄) X.xe s₃) X.xe s₂) X.xe s₁) X.xe s:=by
 refine aK (hi pins s σ H _ I h) fun v s1 h1=>aK h1 fun itv s2 h2=>?_
 obtain ⟨it,fp,tn,J,H2,e,I2,T,st2,f2,q⟩:=h2
 subst e
 refine wpAny_newObj_type (wpAny_newFunctionEnv ck.nocell (by intro y hy;simp at hy) (fun h₁ hns₁ hsb₁=>?_) ck.kind)
 dsimp only at hns₁ hsb₁ ⊢
 generalize hH2:s2.heap.push { cls:=.type "dict",dict:=none,data:=.dict #[] }=hp2 at hns₁ hsb₁ ⊢
 have hC:hp2.objs.size=s2.heap.objs.size+1:=by rw [←hH2,Heap.size_push]
 have hDC:s2.heap.objs.size≠hp2.objs.size:=by rw [hC];exact Nat.ne_of_lt (Nat.lt_succ_self _)
 have hCle:s2.heap.objs.size≤hp2.objs.size:=by rw [hC];exact Nat.le_succ _
 have below:∀b,b<s2.heap.objs.size→b≠hp2.objs.size∧b≠s2.heap.objs.size:=fun b hb=>⟨by rw [hC];exact Nat.ne_of_lt (Nat.lt_succ_of_lt hb),Nat.ne_of_lt hb⟩
 have old:∀b o,s2.heap.get? b=some o→h₁.get? b=some o:=fun b o e=>hsb₁.extBut b o (below b (Heap.lt_size e)).1 (Heap.get?_push_of_some _ (hH2▸Heap.get?_push_of_some _ e))
 have hacc0:(s2.heap.push { cls:=.type "dict",dict:=none,data:=.dict #[] }).DictOf (bI X.prog X.w) s2.heap.objs.size []:=Heap.DictOf.new s2.heap
 have hacc:h₁.DictOf (bI X.prog X.w) s2.heap.objs.size []:=hacc0.at fun o e=>hsb₁.extBut _ _ hDC (Heap.get?_push_of_some _ (hH2▸e))
 have hbig:(s2.heap.objs.size==sysModules)=false:=by
  have e:mainGlobals<s2.heap.objs.size:=(I2.mod.glob.keeps I2.bk).lt
  exact beq_eq_false_iff_ne.mpr (Ne.symm (Nat.ne_of_lt (Nat.lt_trans (by decide) e)))
 have hDn:H2 s2.heap.objs.size=none:=I2.fresh
 obtain ⟨W,⟨m0,w0⟩,turn⟩:=q _ hDn
 have fpo:∀b∈fp,∃o,s2.heap.get? b=some o∧∀v,o.data≠.cell v:=T.obj _ _ st2
 have fplt:∀b∈fp,b<s2.heap.objs.size:=fun b hb=>by obtain ⟨o,e,_⟩:=fpo b hb;exact Heap.lt_size e
 have hfrs:∀b∈fp,b∉gI X.stack:=fun b hb z=>by
  rcases List.mem_cons.mp (I2.stkSub b z) with z' | z'
  ·exact (f2 b hb).2.1 z'
  ·exact (f2 b hb).2.2.1 z'
 generalize hX:fh X scope cl hp2.objs.size N' s2 H2 fp (X.pn++pins)=X'
 have ok':X'.Ok:=by
  subst hX
  refine ⟨I2.ok.mod,ck.kind,I2.ok.glob,I2.ok.blt,hCle,fun x y c e1 e2=>I2.ok.inj x y c (hsub _ _ e1) (hsub _ _ e2),fun x hx=>?_,fun x c z _=>(by cases z),I2.ok.hd,I2.ok.frames,.inl rfl,fun b hb=>⟨(below b (fplt b hb)).1,fun x c e=>(f2 b hb).2.2.2.2.1 x c (hsub _ _ e)⟩,
   I2.bs,Nat.le_trans I2.ok.bsz I2.sz,fun b o e hb=>?_,hfrs,I2.stack,I2.stkFree⟩
  ·-- a name that is a cell or free
   have hx':(relabel scope X.env).names.lookup x=some .cell∨(relabel scope X.env).names.lookup x=some .free:=hx
   have key:∀(names:List (Str×NameKind)),(∀y∈names,y.2≠.cell)→
    ((names.map fun (n,k)=>if (k==NameKind.free && X.env.scope.kind==.function && X.env.kindOf n==some .cell) then (n,NameKind.cell) else (n,k)).lookup x=some .cell∨
     (names.map fun (n,k)=>if (k==NameKind.free && X.env.scope.kind==.function && X.env.kindOf n==some .cell) then (n,NameKind.cell) else (n,k)).lookup x=some .free)→∃y∈names,y.1=x∧y.2=.free:=by
    intro names
    induction names with
    | nil=>intro _ h;rcases h with h | h <;> simp at h
    | cons y r ih=>
     intro hn h
     obtain ⟨n,k⟩:=y
     by_cases hb:x=n
     ·subst hb
      refine ⟨(x,k),List.mem_cons_self,rfl,?_⟩
      by_cases hk:k=.free
      ·exact hk
      ·exfalso
       have hkb:(k==NameKind.free)=false:=by simpa using hk
       have hnc:k≠.cell:=hn (x,k) List.mem_cons_self
       simp only [List.map_cons,hkb,Bool.false_and,Bool.false_eq_true,if_false,List.lookup_cons,beq_self_eq_true,if_true] at h
       rcases h with h | h
       ·exact hnc (Option.some.inj h)
       ·exact hk (Option.some.inj h)
     ·have hb':(x==n)=false:=by simpa using hb
      have h':((r.map fun (n,k)=>if (k==NameKind.free && X.env.scope.kind==.function && X.env.kindOf n==some .cell) then (n,NameKind.cell) else (n,k)).lookup x=some .cell∨
       (r.map fun (n,k)=>if (k==NameKind.free && X.env.scope.kind==.function && X.env.kindOf n==some .cell) then (n,NameKind.cell) else (n,k)).lookup x=some .free):=by
       rw [List.map_cons] at h
       dsimp only at h
       by_cases hcnd:(k==NameKind.free && X.env.scope.kind==.function && X.env.kindOf n==some .cell)=true
       ·rw [if_pos hcnd] at h
        simpa only [List.lookup_cons,hb'] using h
       ·rw [if_neg hcnd] at h
        simpa only [List.lookup_cons,hb'] using h
      obtain ⟨y,hy,e1,e2⟩:=ih (fun y hy=>hn y (List.mem_cons_of_mem _ hy)) h'
      exact ⟨y,List.mem_cons_of_mem _ hy,e1,e2⟩
   obtain ⟨y,hy,e1,e2⟩:=key scope.names ck.nocell hx'
   obtain ⟨c,hc'⟩:=hhas y hy e2
   exact ⟨c,e1▸hc'⟩
  ·rcases (f2 b hb).2.2.2.1 with z | z
   ·exact I2.ok.noex b o e z
   ·exact absurd (Nat.lt_of_lt_of_le (Heap.lt_size e) (Nat.le_trans I2.ok.bsz z)) (Nat.lt_irrefl _)
 have stat:∀{H':Hp},(∀b∈fp,H' b=none)→∀b∈fp,ji X' [] H' b:=by
  subst hX
  intro H' hn b hb
  refine ⟨hn b hb,(below b (fplt b hb)).1,hfrs b hb,.inl hb,fun x c e=>(f2 b hb).2.2.2.2.1 x c (hsub _ _ e),fun p hp=>?_⟩
  have hp':p∈X.pn++pins:=by simpa [fh] using hp
  exact (f2 b hb).2.2.2.2.2 p hp'
 have I1:ac X' [] (gJ L src σ) (aD H2 s2.heap.objs.size (.dK [])) { s2 with heap:=h₁,toks:=s2.toks+([]:List (Str×Value)).length }:=by
  subst hX
  have up:∀b o,H2 b=some o→aD H2 s2.heap.objs.size (.dK []) b=some o:=fun b o e=>by rw [aj (aR e hDn)];exact e
  have upn:∀b,b<s2.heap.objs.size→H2 b=none→aD H2 s2.heap.objs.size (.dK []) b=none:=fun b hb e=>by rw [aj (Nat.ne_of_lt hb)];exact e
  refine ⟨ok',rfl,I2.bare,Un.laid old (Nat.le_refl _) hDn,⟨_,hns₁,fun i x v e1 e2 e3=>?_⟩,fun x c e=>?_,?_,fun x c e=>?_,fun p hp=>?_,I2.hok.laid old (Nat.le_refl _) ⟨Nat.zero_le _,hbig,[],.nil,hacc⟩,?_⟩
  ·-- the names of the def around
   have hiL:L≤i:=by
    by_cases hlt:i<L
    ·exfalso
     unfold gJ at e2
     rw [List.getElem?_append_left (by simpa using hlt),List.getElem?_replicate,if_pos hlt] at e2
     cases e2
    ·trivial
   have e2':(src.map fun j=>(σ[j]?).join)[i - L]?=some (some v):=by
    unfold gJ at e2
    rw [List.getElem?_append_right (by simpa using hiL),List.length_replicate] at e2
    exact e2
   rw [List.getElem?_map] at e2'
   cases hj:src[i - L]? with
   | none=>rw [hj] at e2';cases e2'
   | some j=>
    rw [hj] at e2'
    have e3':(σ[j]?).join=some v:=Option.some.inj e2'
    have hσ:σ[j]?=some (some v):=by
     cases q:σ[j]? with
     | none=>rw [q] at e3';cases e3'
     | some o=>rw [q] at e3';exact congrArg some e3'
    obtain ⟨x',g1,g2,g3⟩:=ck.frees (i - L) j hj
    have:L+(i - L)=i:=by trivial
    rw [this] at g1
    have ex:x'=x:=Option.some.inj (g1.symm.trans e1)
    subst ex
    have hfree:=ck.free _ (PySem.mem_of_lookup g3) rfl
    obtain ⟨m,hn,hl⟩:=I2.loc
    obtain ⟨u,r,l⟩:=hl j x' v g2 hσ (hfree.elim (fun z=>.inr (.inl z)) fun z=>.inr (.inr z))
    refine ⟨u,r,.inr ⟨?_,?_⟩⟩
    ·-- its kind in the block
     have key:∀(names:List (Str×NameKind)),names.lookup x'=some .free→
      ((names.map fun (n,k)=>if (k==NameKind.free && X.env.scope.kind==.function && X.env.kindOf n==some .cell) then (n,NameKind.cell) else (n,k)).lookup x'=some .cell∨
       (names.map fun (n,k)=>if (k==NameKind.free && X.env.scope.kind==.function && X.env.kindOf n==some .cell) then (n,NameKind.cell) else (n,k)).lookup x'=some .free):=by
      intro names
      induction names with
      | nil=>intro h;simp at h
      | cons y r ih=>
       intro h
       obtain ⟨n,k⟩:=y
       by_cases hb:x'=n
       ·subst hb
        simp only [List.lookup_cons,beq_self_eq_true,if_true] at h
        have hk:k=.free:=Option.some.inj h
        subst hk
        rw [List.map_cons]
        dsimp only
        by_cases hcnd:(NameKind.free==NameKind.free && X.env.scope.kind==.function && X.env.kindOf x'==some .cell)=true
        ·rw [if_pos hcnd];left;simp [List.lookup_cons]
        ·rw [if_neg hcnd];right;simp [List.lookup_cons]
       ·have hb':(x'==n)=false:=by simpa using hb
        have h':=ih (by simpa only [List.lookup_cons,hb'] using h)
        rw [List.map_cons]
        dsimp only
        by_cases hcnd:(k==NameKind.free && X.env.scope.kind==.function && X.env.kindOf n==some .cell)=true
        ·rw [if_pos hcnd];simpa only [List.lookup_cons,hb'] using h'
        ·rw [if_neg hcnd];simpa only [List.lookup_cons,hb'] using h'
     exact key scope.names g3
    ·obtain ⟨c,hcl⟩:=hhas _ (PySem.mem_of_lookup g3) rfl
     have hcx:=hsub _ _ hcl
     rcases l with ⟨k1,_⟩ | ⟨_,c',e4,z⟩
     ·exfalso
      have k1':X.env.scope.names.lookup x'=some .local:=k1
      rcases hfree with z | z
      ·rw [z] at k1';cases k1'
      ·rw [z] at k1';cases k1'
     ·rw [hcx] at e4
      cases e4
      obtain ⟨o,ho,hd⟩:=z
      exact ⟨c,hcl,o,old _ _ ho,hd⟩
  ·obtain ⟨v,o,ho,hd⟩:=I2.cell x c (hsub _ _ e)
   exact ⟨v,o,old _ _ ho,hd⟩
  ·show aD H2 s2.heap.objs.size (.dK []) hp2.objs.size=none
   rw [aj (Ne.symm hDC)]
   exact I2.hok.fresh hCle
  ·obtain ⟨v,o,ho,hd⟩:=I2.cell x c (hsub _ _ e)
   exact upn c (Heap.lt_size ho) (I2.freeC x c (hsub _ _ e))
  ·have hp':p∈X.pn++pins:=by simpa [fh] using hp
   obtain ⟨e,n,ne,nf,d⟩:=I2.pin p hp'
   have hlt:=Heap.lt_size e
   refine ⟨old _ _ e,upn _ hlt n,(below _ hlt).1,fun z=>?_,d⟩
   rcases List.mem_cons.mp (I2.stkSub _ z) with z' | z'
   ·exact ne z'
   ·exact nf z'
  ·show (gJ L src σ).length=N'.length
   unfold gJ
   rw [List.length_append,List.length_replicate,List.length_map,ck.len]
 have eA:X'.A=X.A:=by subst hX;rfl
 have eP:X'.prog=X.prog:=by subst hX;rfl
 have eW:X'.w=X.w:=by subst hX;rfl
 have eK:X'.K=X.K:=by subst hX;rfl
 have ec:X'.calm=true:=by subst hX;exact hc
 have exe:X'.xe=fun _ _=>False:=by subst hX;rfl
 have eE:X'.env=compEnvC scope cl hp2.objs.size X.env:=by subst hX;rfl
 have hg':PG X' tg g:=by subst hX;exact hg _ _ _ _ _ _
 have hif':pq X' ifs tt:=by subst hX;exact hif _ _ _ _ _ _
 have hk':PE X' kx tk:=by subst hX;exact hk _ _ _ _ _ _
 have hv':PE X' vx tv:=by subst hX;exact hv _ _ _ _ _ _
 have aft:∀{H':Hp}{s':Shared},ac X' [] (gJ L src σ) H' s'→ac X pins σ H' s'∧(∃m,s'.heap.Ns hp2.objs.size m)∧ji X pins H' hp2.objs.size:=by
  subst hX
  intro H' s' J
  refine ⟨I2.call' (ch:=fp) J.os J.base J.hok J.bare fun b hb=>⟨(f2 b hb).2.2.2.1,(f2 b hb).2.1,(f2 b hb).2.2.2.2.1,(f2 b hb).2.2.2.2.2⟩,?_,I2.fpOk hCle J.free⟩
  obtain ⟨m,hn,_⟩:=J.loc
  exact ⟨m,hn⟩
 have st1:tn 0 h₁:=T.keep _ _ _ st2 fun b hb o e=>old b o e
 have loop:∀s₃:Shared,s₃={ s2 with heap:=h₁,toks:=s2.toks+([]:List (Str×Value)).length }→
  codeAny (model X.prog X.w) X.A (.compLoop (.DictComp kx vx [⟨tg,iter,ifs,0⟩] scope pos) 0 (.ref it) (.ref s2.heap.objs.size) (compEnvC scope cl hp2.objs.size X.env))
   (RR (.ref s2.heap.objs.size) hp2.objs.size) s₃:=by
  rintro s₃ rfl
  refine wD (fun n s'=>eH fun i H' ys=>ac X' [] (gJ L src σ) H' s'∧tn i s'.heap∧(∀b∈fp,H' b=none)∧W i n H' ys) ?_ m0
   ⟨0,_,[],I1,st1,fun b hb=>(by rw [aj (below b (fplt b hb)).2];exact (f2 b hb).1),w0⟩
  rintro n s3 ⟨i,H3,ys,I3,st3,fr3,w3⟩
  obtain ⟨hD,alt⟩:=turn i n H3 ys w3
  rcases alt with ⟨stop,qn⟩ | ⟨go,hlen,N,hN,step⟩
  ·have d:=T.done X' eP eW eK ec i [] s3 (gJ L src σ) H3 (fun _ _=>False) I3 (stat fr3) st3 stop
   rw [eA] at d
   refine aK d fun r s4 ⟨hr,I4⟩=>?_
   subst hr
   obtain ⟨J,⟨m,hn⟩,fpC⟩:=aft I4
   exact hRR _ _ H3 .next s4 m J hn fpC qn
  ·have d:=T.item X' eP eW eK ec i [] s3 (gJ L src σ) H3 (fun _ _=>False) I3 (stat fr3) st3 go
   rw [eA] at d
   refine aK d fun r s4 ⟨u,hr,h4⟩=>?_
   subst hr
   refine aK h4 fun _ s5 ⟨x,H5,I5,r5,y5,st5,fr5⟩=>?_
   have I5':=I5.pinned (stat fr5) (T.obj _ _ st5)
   have a1:=hg' _ s5 (gJ L src σ) H5 x u _ I5' r5 (step x H5 y5)
   rw [eP,eW,eA,eE,exe] at a1
   refine aK a1 fun _ s6 ⟨σ6,H6,I6,bk,q6⟩=>?_
   have a2:=hif' _ s6 σ6 H6 _ I6 q6
   rw [eP,eW,eA,eE,exe] at a2
   refine aK a2 fun b s7 ⟨H7,I7,q7⟩=>?_
   have again:∀{H8:Hp}{s8:Shared}{ys':List (aJ×V)},ac X' ([]++ou fp s5.heap) σ6 H8 s8→N H8 ys'→∃m,m<n∧eH fun i H' ys=>ac X' [] (gJ L src σ) H' s8∧tn i s8.heap∧(∀b∈fp,H' b=none)∧W i m H' ys:=fun {H8 s8 ys'} I8 n8=>by
    obtain ⟨m',hm,w8⟩:=hN H8 ys' n8
    refine ⟨m',hm,i+1,H8,ys',(I8.unpinned).weak bk.1.symm bk.2,T.keep _ _ _ st5 fun b hb o e=>(I8.pin (b,o) (List.mem_append_right _ (List.mem_append_right _ (iu hb e)))).1,fun b hb=>?_,w8⟩
    obtain ⟨o,e,d⟩:=T.obj _ _ st5 b hb
    exact (I8.pin (b,o) (List.mem_append_right _ (List.mem_append_right _ (iu hb e)))).2.1
   cases b with
   | false=>
    rw [if_neg Bool.false_ne_true] at q7 ⊢
    exact again I7 q7
   | true=>
    rw [if_pos rfl] at q7 ⊢
    have a3:=hk' _ s7 σ6 H7 _ I7 q7
    rw [eP,eW,eA,eE,exe] at a3
    refine aK a3 fun kv s8 ⟨yk,H8,I8,r8,k,ek,q8⟩=>?_
    subst ek
    have a4:=hv' _ s8 σ6 H8 _ I8 q8
    rw [eP,eW,eA,eE,exe] at a4
    refine aK a4 fun vv s9 ⟨y,H9,I9,r9,hD9,q9⟩=>?_
    obtain ⟨hz,hm,vs,rel,dd⟩:=(show aV X'.prog X'.w H9 s9.heap s2.heap.objs.size (.dK ys) from I9.hok _ _ hD9)
    rw [eP,eW] at dd
    refine wpAny_dictSet_pairs (knd:=bI X.prog X.w) (hsz:=by rw [←rel.length];exact hz) (i3 r8) dd fun h' hd' sb=>?_
    have hd2:h'.DictOf (bI X'.prog X'.w) s2.heap.objs.size (stored vs k vv):=by rw [eP,eW];exact hd'
    exact again (I9.dset (t':=s9.toks+1) hD9 hm (vw hlen) (vj rel r9) hd2 sb) q9
 exact codeAny_compStart_dict (loop _ rfl) (T.self _ 0 _ _ _ st1 (loop _ rfl))
theorem x4 {j:Nat}{y:Str}{py spos:Pos} (hN:X.N.Nodup) (hj:X.N[j]?=some y) (hy:X.env.scope.names.lookup y=some .local) (hsw:swapsWith (.DictComp kx vx [⟨tg,iter,ifs,0⟩] scope pos) (some (.Name y py)) spos.line X.env=pure true)
 (hc:X.calm=true) (ck:uU X.env.scope X.N scope N' L src=true) (hi:PI X tg iter wi) (hg:∀cl C s H ex pn,PG (fh X scope cl C N' s H ex pn) tg g) (hif:∀cl C s H ex pn,pq (fh X scope cl C N' s H ex pn) ifs tt)
 (hk:∀cl C s H ex pn,PE (fh X scope cl C N' s H ex pn) kx tk) (hv:∀cl C s H ex pn,PE (fh X scope cl C N' s H ex pn) vx tv) (hs:∀x,foldedSetIterable iter X.env x=pure x:=by intro _;rfl) :
 PS X (.Assign [.Name y py] (.DictComp kx vx [⟨tg,iter,ifs,0⟩] scope pos) spos) (xr (AD wi L src g tt tk tv) (rS j)):=by
 intro pins s σ H D I h
 have ck:=A3 ck
 obtain ⟨cl,hclos,hsub,hhas⟩:=u0 (scope:=scope) (env:=X.env) fun y hy e=>I.ok.has y.1 (ck.free y hy e)
 rw [exec_Assign_Name_used _ _ _ _ hsw]
 refine wpAny_bind (wpAny_standAt (wpAny_bind ?_))
 show wpAny _ X.A (do let _ ←comprehension (.DictComp kx vx [⟨tg,iter,ifs,0⟩] scope pos) scope X.env _ newDict false (eval iter X.env) (some (assign (.Name y py) X.env))) _ _ s
 refine wpAny_bind (wpAny_mono (wpAny_comprehension_free (use:=some (assign (.Name y py) X.env)) (Q:=fun _ s'=>SP X pins D .next s') rfl hs hclos ck.kind ck.loc
  (AB hc ck I hsub hhas hi hg hif hk hv h (RR:=fun acc C=>compPost (model X.prog X.w) X.A X.xe (some (assign (.Name y py) X.env)) (fun _ s'=>SP X pins D .next s') acc C) ?_)) (fun _ s' hq=>wpAny_pure (wpAny_pure hq)) fun _ _ e=>e)
 intro L' C H' f s' m J hn fpC q
 show wpAny _ X.A (assign (.Name y py) X.env (.ref L')) _ _ _
 refine wpAny_assign_Name (qC J hN hj (.inl hy) (v:=.ref L') rfl (fun s2 J2 hsb=>?_) (.inr hy))
 obtain ⟨f0,f1,f2,f3,f4,f5⟩:=fpC
 obtain ⟨a,hsb,ha⟩:=hsb
 have hCa:C≠a:=by
  rcases ha with rfl | ha
  ·exact f1
  ·exact fun z=>f4 _ _ ha z.symm
 refine ⟨m,hn.sameBut hsb hCa,fun h' hsb'=>⟨_,H',?_,q⟩⟩
 exact J2.turned (t':=s2.toks) (fun b o hb e=>(hsb'.2 b hb).trans e) f0 f1 f3 f4 f5
end
end L2
namespace KM
theorem mul_le_l {a b c:Rat} (h:a≤b) (hc:0≤c):c*a≤c*b:=Rat.mul_le_mul_of_nonneg_left h hc
variable {ls:List (List Nat)}{es done:List Edge}{W u:List Nat→Rat}{S:List (List Nat)}{q:List Nat}{m:Rat}
end KM
namespace L2
open PySem PySem.Spec PyProof.Rows
section
variable {z:Nat}{E:Addr→Prop}{H H':Hp}{n m k:Nat}{v:V}{xs ys:List V}
end
section
variable {X:Cx}{K:PySem.W.Frag}
end
end L2
namespace L2
open PySem PySem.Spec PyProof.Rows
def Hv:TS:=fun _ _ _=>False
section
variable {X:Cx}
theorem Eo {st:Stmt}:PS X st Hv:=fun _ _ _ _ _ _ h=>h.elim
inductive Fz (x:V) (vs:List V) (H:Hp) (Q:VK):Prop
 | mk (l:_) (xs:_) (y:_) (h0:x=.ref l) (h1:vs=[y]) (h2:H l=some (.lst xs)) (h3:xs.length≤16700000) (h4:∀H',Ch H l (xs++[y]) H'→Q .non H')
def Ia:V→List V→Hp→VK→Prop:=fun x vs H Q=>Fz  x vs H Q
theorem uz:wO X "list.append" Ia:=fun pins s σ H x vs v us Q I rx rv ⟨l,xs,y,e1,e2,h,hz,q⟩=>qI pins s σ H x vs v us Q I rx rv ⟨l,xs,y,e1,e2,h,(by rw [sizeLine_eq];trivial),q _ .mk'⟩
inductive F5 (x:V) (vs:List V) (H:Hp) (Q:VK):Prop
 | mk (l:_) (xs:_) (y:_) (h0:x=.ref l) (h1:vs=[]) (h2:H l=some (.lst (xs++[y]))) (h3:∀H',Ch H l xs H'→Q y H')
def HQ:V→List V→Hp→VK→Prop:=fun x vs H Q=>F5  x vs H Q
theorem Ey:wO X "list.pop" HQ:=fun pins s σ H x vs v us Q I rx rv ⟨l,xs,y,e1,e2,h,q⟩=>Gx pins s σ H x vs v us Q I rx rv ⟨l,xs++[y],y,e1,e2,h,by simp,by
 rw [List.dropLast_concat];exact q _ .mk'⟩
inductive Cu (x:V) (vs:List V) (H:Hp) (Q:VK):Prop
 | mk (l:Addr) (ks:List (List Nat)) (k:List Nat) (j:Nat) (h0:x=.ref l) (h1:vs=[af k]) (h2:H l=some (.lst (ks.map af))) (h3:ks.length≤10000) (h4:ks[j]?=some k) (h5:ks.Nodup) (h6:Q (.int (j:Int)) H)
def DY:V→List V→Hp→VK→Prop:=fun x vs H Q=>Cu  x vs H Q
theorem Av:wO X "list.index" DY:=by
 intro pins s σ H x vs v us Q I rx rv h
 obtain ⟨l,ks,k,j,rfl,rfl,hH,hz,hj,nd,q⟩:=h
 cases rx
 obtain ⟨u,rfl,ru⟩:=rv.one
 obtain ⟨t,rfl⟩:=ru
 obtain ⟨z,its,n,r,hl,e⟩:=I.lstM hH
 have hlen:ks.length=its.length:=by rw [←hl,List.length_map]
 have isI:∀(m:Nat) (w:Value),its[m]?=some w→aW fun i t'=>ks[m]?=some i∧w=.str (S i) t':=fun m w hw=>by
  obtain ⟨i,hi⟩:∃i,ks[m]?=some i:=⟨_,List.getElem?_eq_getElem (by rw [hlen];exact (List.getElem?_eq_some_iff.mp hw).1)⟩
  obtain ⟨w',hw',rw'⟩:=r.get (show (ks.map af)[m]?=some (af i) by rw [List.getElem?_map,hi];rfl)
  rw [hw] at hw'
  cases hw'
  obtain ⟨t',rfl⟩:=rw'
  exact ⟨i,t',hi,rfl⟩
 have hji:j<its.length:=by rw [←hlen];exact (List.getElem?_eq_some_iff.mp hj).1
 refine call_meets F.slot_list_index ⟨_,e,rfl⟩ F.entry_list_index (F.args_list_index_2 _ _)
  (MeetsSeq.list_index l its.toArray n (.str (S k) t) (fun y=>match y with | .str i _=>i==S k | _=>false) (fun y hy=>?_) j (by simpa using hji) (by trivial) ?_ (fun m hm hlt=>?_)) ⟨e,?_⟩
 ·obtain ⟨m,hm⟩:=List.getElem?_of_mem (by simpa using hy:y∈its)
  obtain ⟨i,t',_,rfl⟩:=isI m y hm
  exact eqGives_str (S i) (S k) t' t
 ·obtain ⟨i,t',e1,e2⟩:=isI j its[j] (List.getElem?_eq_getElem hji)
  rw [hj] at e1
  cases e1
  simp only [List.getElem_toArray,e2,beq_self_eq_true]
 ·have hm':m<its.length:=by simpa using hm
  obtain ⟨i,t',e1,e2⟩:=isI m its[m] (List.getElem?_eq_getElem hm')
  simp only [List.getElem_toArray,e2]
  apply beq_eq_false_iff_ne.mpr
  intro q
  have q':i=k:=j7 q
  subst q'
  have a1:=List.getElem?_eq_some_iff.mp e1
  have a2:=List.getElem?_eq_some_iff.mp hj
  have:=i0 nd a1.1 a2.1 (by rw [a1.2,a2.2])
  trivial
 ·exact ⟨.int (j:Int),H,I.tok _,⟨_,rfl⟩,q⟩
end
end L2
namespace L2
open PySem
theorem AV {a b c:Rat} (h:a<b) (k:b≤c):a<c:=by grind
theorem rh {a b c:Rat} (h:a≤b) (k:b<c):a<c:=by grind
theorem vc {p q:KM.Fra} (hp:1≤p.2) (hq:1≤q.2):KM.vl p≤KM.vl q↔p.1*q.2≤q.1*p.2:=by
 have e:KM.vl q - KM.vl p=Rat.divInt (q.1*p.2 - p.1*q.2) (q.2*p.2):=by
  unfold KM.vl
  rw [Rat.divInt_sub_divInt _ _ (by trivial) (by trivial)]
 have h:=Rat.divInt_nonneg_iff_of_pos_right (a:=q.1*p.2 - p.1*q.2) (b:=q.2*p.2) (Int.mul_pos (by trivial) (by trivial))
 rw [←e] at h
 constructor
 ·intro z
  have:=h.mp (by grind)
  trivial
 ·intro z
  have:=h.mpr (by trivial)
  grind
theorem i5 {p q:KM.Fra} (hp:1≤p.2) (hq:1≤q.2):KM.vl p<KM.vl q↔p.1*q.2<q.1*p.2:=by
 have:=vc hq hp
 constructor
 ·intro z
  have n:¬KM.vl q≤KM.vl p:=Rat.not_le.mpr z
  rw [this] at n
  trivial
 ·intro z
  apply Rat.not_le.mp
  rw [this]
  trivial
theorem fH {p:KM.Fra} (h:1≤p.1) (k:1≤p.2):0<KM.vl p:=by
 have:=(i5 (p:=(0,1)) (q:=p) (by decide) k).mpr (by show 0*p.2<p.1*1;trivial)
 rw [KM.vl_zero] at this
 exact this
abbrev yO:=List Nat→KM.Fra
def jZ (ω:yO) (b:List Nat) (v:KM.Fra):yO:=fun l=>if l=b then v else ω l
def iM (ω:yO) (t:aa):Bool:=decide (t.most≠(0,1)) && decide ((ω t.bg).1*(KM.lTim t.gain (ω t.en)).2<(KM.lTim t.gain (ω t.en)).1*(ω t.bg).2)
structure LS where
 ω:yO
 on:List Nat→Option Nat
 lf:Option (List Nat)
 la:List Nat→Nat
 tm:List Nat→Nat
 ct:Nat
def k8 (p i:Nat) (t:aa) (s:LS):LS:=if iM s.ω t=true then ⟨jZ s.ω t.bg (KM.lTim t.gain (s.ω t.en)),fun l=>if l=t.bg then some i else s.on l,some t.bg,fun l=>if l=t.bg then p else s.la l,fun l=>if l=t.bg then s.ct+1 else s.tm l,s.ct+1⟩ else s
def iz (p:Nat) (ts:List aa) (s:LS):Nat→LS
 | 0=>{ s with lf:=none }
 | i+1=>match ts[i]? with
  | some t=>k8 p i t (iz p ts s i)
  | none=>iz p ts s i
theorem vp {p i:Nat}{ts:List aa}{s:LS}{t:aa} (h:ts[i]?=some t):iz p ts s (i+1)=k8 p i t (iz p ts s i):=by
 rw [iz,h]
def j8 (p:Nat) (ts:List aa) (s:LS):LS:=iz p ts s ts.length
def JE:LS:=⟨fun _=>(1,1),fun _=>none,none,fun _=>0,fun _=>0,0⟩
def dg (ts:List aa):Nat→LS
 | 0=>JE
 | k+1=>j8 (k+1) ts (dg ts k)
theorem rj {p i:Nat}{t:aa}{s:LS} (h:iM s.ω t=true):k8 p i t s=⟨jZ s.ω t.bg (KM.lTim t.gain (s.ω t.en)),fun l=>if l=t.bg then some i else s.on l,some t.bg,fun l=>if l=t.bg then p else s.la l,fun l=>if l=t.bg then s.ct+1 else s.tm l,s.ct+1⟩:=by
 unfold k8;rw [if_pos h]
theorem tS {p i:Nat}{t:aa}{s:LS} (h:iM s.ω t=false):k8 p i t s=s:=by
 unfold k8;rw [if_neg (by rw [h];decide)]
theorem qZ {p:Nat}{ts:List aa}{s:LS}:∀{i:Nat},(iz p ts s i).lf=none→(iz p ts s i).ω=s.ω∧∀k t,k<i→ts[k]?=some t→iM s.ω t=false
 | 0,_=>⟨rfl,fun k t h=>by trivial⟩
 | i+1,h=>by
  cases e:ts[i]? with
  | none=>
   have e':iz p ts s (i+1)=iz p ts s i:=by rw [iz,e]
   rw [e'] at h ⊢
   obtain ⟨h1,h2⟩:=qZ h
   refine ⟨h1,fun k t hk et=>?_⟩
   by_cases c:k=i
   ·rw [c,e] at et;cases et
   ·exact h2 k t (by trivial) et
  | some t=>
   rw [vp e] at h ⊢
   cases q:iM (iz p ts s i).ω t with
   | true=>rw [rj q] at h;cases h
   | false=>
    rw [tS q] at h ⊢
    obtain ⟨h1,h2⟩:=qZ h
    refine ⟨h1,fun k t' hk et=>?_⟩
    by_cases c:k=i
    ·rw [c,e] at et;cases et;rw [←h1];exact q
    ·exact h2 k t' (by trivial) et
theorem zW {p:Nat}{ts:List aa}{s:LS} (h:(j8 p ts s).lf=none):(j8 p ts s).ω=s.ω∧∀t∈ts,iM s.ω t=false:=by
 obtain ⟨h1,h2⟩:=qZ h
 refine ⟨h1,fun t ht=>?_⟩
 obtain ⟨k,hk⟩:=List.getElem?_of_mem ht
 exact h2 k t (List.getElem?_eq_some_iff.mp hk).1 hk
structure cb (ls:List (List Nat)) (t:aa):Prop where
 b:t.bg∈ls
 e:t.en∈ls
 ne:t.bg≠t.en
 g1:1≤t.gain.1
 g2:1≤t.gain.2
abbrev uW (s:LS) (l:List Nat):Rat:=KM.vl (s.ω l)
abbrev gR (t:aa):Rat:=KM.vl t.gain
structure BI (ls:List (List Nat)) (ts:List aa) (p i:Nat) (s:LS):Prop where
 pos:∀l∈ls,1≤(s.ω l).1∧1≤(s.ω l).2
 on:∀l k,s.on l=some k→∃t,ts[k]?=some t∧t.most≠(0,1)∧t.bg=l∧uW s l≤gR t*uW s t.en∧(s.tm l≤s.tm t.en→uW s l<gR t*uW s t.en)∧s.la l≤s.la t.en+1
 la1:∀l,1≤s.la l→s.on l≠none
 up:∀k t,ts[k]?=some t→t.most≠(0,1)→gR t*uW s t.en≤uW s t.bg∨(if k<i then p else p - 1)≤s.la t.en
 lap:∀l,s.la l≤p
 tmc:∀l,s.tm l≤s.ct
 lf:∀b,s.lf=some b→s.la b=p∧b∈ls
theorem xQ {ls:List (List Nat)}{t:aa}{ω:yO} (c:cb ls t) (pos:∀l∈ls,1≤(ω l).1∧1≤(ω l).2):KM.vl (KM.lTim t.gain (ω t.en))=KM.vl t.gain*KM.vl (ω t.en)∧1≤(KM.lTim t.gain (ω t.en)).2∧1≤(KM.lTim t.gain (ω t.en)).1:=by
 obtain ⟨p1,p2⟩:=pos t.en c.e
 have g2:=c.g2
 exact ⟨KM.vl_tim (by trivial) (by trivial),(KM.low_spec _ _ (Int.mul_ne_zero (by trivial) (by trivial))).1,uG c.g1 c.g2 p1 p2⟩
theorem vJ {ls:List (List Nat)}{t:aa}{ω:yO} (c:cb ls t) (pos:∀l∈ls,1≤(ω l).1∧1≤(ω l).2):iM ω t=true↔(t.most≠(0,1)∧KM.vl (ω t.bg)<KM.vl t.gain*KM.vl (ω t.en)):=by
 obtain ⟨e1,e2,e3⟩:=xQ c pos
 unfold iM
 rw [Bool.and_eq_true,decide_eq_true_iff,decide_eq_true_iff,←e1,i5 (pos t.bg c.b).2 e2]
theorem BI.step {ls:List (List Nat)}{ts:List aa}{p i:Nat}{s:LS}{t:aa} (hp:1≤p) (c:cb ls t) (et:ts[i]?=some t) (tc:∀t∈ts,cb ls t) (h:BI ls ts p i s):BI ls ts p (i+1) (k8 p i t s):=by
 have hlt:=vJ c h.pos
 cases q:iM s.ω t with
 | false=>
  rw [tS q]
  refine ⟨h.pos,h.on,h.la1,fun k t' ek ho=>?_,h.lap,h.tmc,h.lf⟩
  by_cases ck:k=i
  ·subst ck
   rw [et] at ek
   cases ek
   left
   rw [q] at hlt
   have:¬(KM.vl (s.ω t.bg)<KM.vl t.gain*KM.vl (s.ω t.en)):=fun z=>by
    have:=hlt.mpr ⟨ho,z⟩
    cases this
   exact Rat.not_lt.mp this
  ·rcases h.up k t' ek ho with z | z
   ·exact .inl z
   ·right
    by_cases ck2:k<i
    ·rw [if_pos (by trivial)];rw [if_pos ck2] at z;exact z
    ·rw [if_neg (by trivial)];rw [if_neg ck2] at z;exact z
 | true=>
  rw [q] at hlt
  obtain ⟨ho,hl⟩:=hlt.mp rfl
  obtain ⟨e1,e2,e3⟩:=xQ c h.pos
  rw [rj q]
  have ub:∀l,l=t.bg→uW ⟨jZ s.ω t.bg (KM.lTim t.gain (s.ω t.en)),fun l=>if l=t.bg then some i else s.on l,some t.bg,fun l=>if l=t.bg then p else s.la l,fun l=>if l=t.bg then s.ct+1 else s.tm l,s.ct+1⟩ l=gR t*uW s t.en:=fun l e=>by
   show KM.vl (jZ _ _ _ l)=_
   unfold jZ
   rw [if_pos e]
   exact e1
  have un:∀l,l≠t.bg→uW ⟨jZ s.ω t.bg (KM.lTim t.gain (s.ω t.en)),fun l=>if l=t.bg then some i else s.on l,some t.bg,fun l=>if l=t.bg then p else s.la l,fun l=>if l=t.bg then s.ct+1 else s.tm l,s.ct+1⟩ l=uW s l:=fun l e=>by
   show KM.vl (jZ _ _ _ l)=_
   unfold jZ
   rw [if_neg e]
  generalize es:(⟨jZ s.ω t.bg (KM.lTim t.gain (s.ω t.en)),fun l=>if l=t.bg then some i else s.on l,some t.bg,fun l=>if l=t.bg then p else s.la l,fun l=>if l=t.bg then s.ct+1 else s.tm l,s.ct+1⟩:LS)=s' at ub un ⊢
  have a1:s'.ω=jZ s.ω t.bg (KM.lTim t.gain (s.ω t.en)):=by rw [←es]
  have a2:∀l,s'.on l=if l=t.bg then some i else s.on l:=fun l=>by rw [←es]
  have a3:∀l,s'.la l=if l=t.bg then p else s.la l:=fun l=>by rw [←es]
  have a4:∀l,s'.tm l=if l=t.bg then s.ct+1 else s.tm l:=fun l=>by rw [←es]
  have a5:s'.ct=s.ct+1:=by rw [←es]
  have a6:s'.lf=some t.bg:=by rw [←es]
  have mono:∀l,uW s l≤uW s' l:=fun l=>by
   by_cases cl:l=t.bg
   ·rw [ub l cl,cl];exact Rat.le_of_lt hl
   ·rw [un l cl];exact Rat.le_refl
  have lamono:∀l,s.la l≤s'.la l:=fun l=>by
   rw [a3]
   by_cases cl:l=t.bg
   ·rw [if_pos cl];exact h.lap l
   ·rw [if_neg cl];exact Nat.le_refl _
  have gpos:∀{t:aa},t∈ts→0<gR t:=fun {t} ht=>fH (tc t ht).g1 (tc t ht).g2
  refine ⟨fun l hl'=>?_,fun l k hk=>?_,fun l h1=>?_,fun k t' ek ho'=>?_,fun l=>?_,fun l=>?_,fun b hb=>?_⟩
  ·rw [a1]
   unfold jZ
   by_cases cl:l=t.bg
   ·rw [if_pos cl];exact ⟨e3,e2⟩
   ·rw [if_neg cl];exact h.pos l hl'
  ·rw [a2] at hk
   by_cases cl:l=t.bg
   ·rw [if_pos cl] at hk
    cases hk
    have ne:t.en≠t.bg:=fun z=>c.ne z.symm
    refine ⟨t,et,ho,cl.symm,?_,fun z=>?_,?_⟩
    ·rw [ub l cl,un t.en ne];exact Rat.le_refl
    ·rw [a4,a4,if_pos cl,if_neg ne] at z
     have:=h.tmc t.en
     trivial
    ·rw [a3,a3,if_pos cl,if_neg ne]
     rcases h.up i t et ho with z | z
     ·exact absurd hl (Rat.not_lt.mpr z)
     ·rw [if_neg (Nat.lt_irrefl _)] at z
      trivial
   ·rw [if_neg cl] at hk
    obtain ⟨t',e',o',b',l',s',r'⟩:=h.on l k hk
    have gp:=gpos (List.mem_of_getElem? e')
    have hm:=KM.mul_le_l (mono t'.en) (Rat.le_of_lt gp)
    refine ⟨t',e',o',b',?_,fun z=>?_,?_⟩
    ·rw [un l cl];exact Rat.le_trans l' hm
    ·rw [un l cl]
     rw [a4,a4,if_neg cl] at z
     by_cases ce:t'.en=t.bg
     ·rw [ub t'.en ce]
      have:uW s t'.en<gR t*uW s t.en:=by rw [ce];exact hl
      have h2:=Rat.mul_lt_mul_of_pos_left this gp
      exact rh l' h2
     ·rw [un t'.en ce]
      rw [if_neg ce] at z
      exact s' z
    ·rw [a3 l,if_neg cl]
     exact Nat.le_trans r' (Nat.add_le_add_right (lamono _) 1)
  ·rw [a2]
   by_cases cl:l=t.bg
   ·rw [if_pos cl];intro z;cases z
   ·rw [if_neg cl]
    rw [a3,if_neg cl] at h1
    exact h.la1 l h1
  ·by_cases ck:k=i
   ·subst ck
    rw [et] at ek
    cases ek
    left
    rw [ub t.bg rfl,un t.en (fun z=>c.ne z.symm)]
    exact Rat.le_refl
   ·by_cases ce:t'.en=t.bg
    ·right
     rw [a3,if_pos ce]
     split <;> trivial
    ·rcases h.up k t' ek ho' with z | z
     ·left
      rw [un t'.en ce]
      exact Rat.le_trans z (mono _)
     ·right
      rw [a3,if_neg ce]
      by_cases ck2:k<i
      ·rw [if_pos (by trivial)];rw [if_pos ck2] at z;exact z
      ·rw [if_neg (by trivial)];rw [if_neg ck2] at z;exact z
  ·rw [a3]
   by_cases cl:l=t.bg
   ·rw [if_pos cl];exact Nat.le_refl _
   ·rw [if_neg cl];exact h.lap l
  ·rw [a4,a5]
   by_cases cl:l=t.bg
   ·rw [if_pos cl];exact Nat.le_refl _
   ·rw [if_neg cl];have:=h.tmc l;trivial
  ·rw [a6] at hb
   cases hb
   exact ⟨by rw [a3,if_pos rfl],c.b⟩
theorem BI.all {ls:List (List Nat)}{ts:List aa} (tc:∀t∈ts,cb ls t) (p:Nat):∀i,i≤ts.length→BI ls ts p ts.length (dg ts p)→BI ls ts (p+1) i (iz (p+1) ts (dg ts p) i)
 | 0,_,h=>⟨h.pos,h.on,h.la1,fun k t e o=>by
  rcases h.up k t e o with z | z
  ·exact .inl z
  ·right
   rw [if_pos (List.getElem?_eq_some_iff.mp e).1] at z
   rw [if_neg (by trivial)]
   exact z,fun l=>by have:=h.lap l;exact Nat.le_succ_of_le this,h.tmc,fun b hb=>by cases hb⟩
 | i+1,hi,h=>by
  have ih:=BI.all tc p i (by trivial) h
  have e:ts[i]?=some ts[i]:=List.getElem?_eq_getElem (by trivial)
  rw [vp e]
  exact ih.step (by trivial) (tc _ (List.getElem_mem _)) e tc
theorem BI.st {ls:List (List Nat)}{ts:List aa} (tc:∀t∈ts,cb ls t):∀p,BI ls ts p ts.length (dg ts p)
 | 0=>⟨fun l _=>⟨by show (1:Int)≤1;decide,by show (1:Int)≤1;decide⟩,(fun l k h=>by cases h),(fun l h=>by exact absurd h (by show ¬1≤0;decide)),(fun k t e o=>.inr (by split <;> exact Nat.zero_le _)),fun l=>Nat.le_refl _,fun l=>Nat.le_refl _,fun b hb=>by cases hb⟩
 | p+1=>BI.all tc p _ (Nat.le_refl _) (BI.st tc p)
def bf (us:List aa):Rat:=(us.map gR).foldr (· * ·) 1
structure Ed (s:LS) (t:aa):Prop where
 g:0<gR t
 le:uW s t.bg≤gR t*uW s t.en
 lt:s.tm t.bg≤s.tm t.en→uW s t.bg<gR t*uW s t.en
theorem CL {s:LS}{c:List Nat}:∀{us:List aa}{a:List Nat},us.map (·.bg)++[c]=a :: us.map (·.en)→(∀t∈us,Ed s t)→us≠[]→uW s a≤bf us*uW s c∧(uW s a<bf us*uW s c∨s.tm c<s.tm a)
 | [],_,_,_,h=>absurd rfl h
 | t :: r,a,e,h,_=>by
  simp only [List.map_cons,List.cons_append,List.cons.injEq] at e
  obtain ⟨rfl,e⟩:=e
  have ht:=h t (List.mem_cons_self ..)
  have hr:=fun x hx=>h x (List.mem_cons_of_mem _ hx)
  have ep:bf (t :: r)=gR t*bf r:=rfl
  rw [ep]
  have g0:=Rat.le_of_lt ht.g
  cases r with
  | nil=>
   simp only [List.map_nil,List.nil_append,List.cons.injEq,and_true] at e
   subst e
   have e1:bf []=1:=rfl
   rw [e1,Rat.mul_one]
   refine ⟨ht.le,?_⟩
   by_cases z:s.tm t.bg≤s.tm t.en
   ·exact .inl (ht.lt z)
   ·exact .inr (by trivial)
  | cons t2 r2=>
   obtain ⟨h1,h2⟩:=CL e hr (by simp)
   have m1:=KM.mul_le_l h1 g0
   have ea:gR t*(bf (t2 :: r2)*uW s c)=gR t*bf (t2 :: r2)*uW s c:=(Rat.mul_assoc _ _ _).symm
   rw [ea] at m1
   refine ⟨Rat.le_trans ht.le m1,?_⟩
   by_cases z:s.tm t.bg≤s.tm t.en
   ·exact .inl (AV (ht.lt z) m1)
   ·rcases h2 with h2 | h2
    ·have m2:=Rat.mul_lt_mul_of_pos_left h2 ht.g
     rw [ea] at m2
     exact .inl (rh ht.le m2)
    ·exact .inr (by trivial)
structure fA (ts:List aa) (R:List Nat) (us:List aa):Prop where
 at':R.map (fun k=>ts[k]?)=us.map some
 op:∀t∈us,t.most≠(0,1)
 two:2≤R.length
 nd:(us.map (·.bg)).Nodup
 rot:us.map (·.en)=(us.map (·.bg)).drop 1++(us.map (·.bg)).take 1
 gain:1<bf us
theorem E6 {ls:List (List Nat)}{ts:List aa}{s:LS}{ks:List Nat}{us:List aa}{l0 c:List Nat}{j:Nat} (tc:∀t∈ts,cb ls t) (pos:∀l∈ls,1≤(s.ω l).1∧1≤(s.ω l).2)
 (h1:ks.map (fun k=>ts[k]?)=us.map some) (ho:∀t∈us,t.most≠(0,1)) (he:∀t∈us,Ed s t) (nd:(us.map (·.bg)).Nodup) (ch:us.map (·.bg)++[c]=l0 :: us.map (·.en)) (hj:(us.map (·.bg))[j]?=some c):fA ts (ks.drop j) (us.drop j):=by
 have lj:j<us.length:=by have:=(List.getElem?_eq_some_iff.mp hj).1;rwa [List.length_map] at this
 have lk:ks.length=us.length:=by have:=congrArg List.length h1;simpa using this
 have memT:∀t∈us,t∈ts:=fun t ht=>by
  have:some t∈ks.map (fun k=>ts[k]?):=by rw [h1];exact List.mem_map_of_mem ht
  obtain ⟨k,_,hk⟩:=List.mem_map.mp this
  exact List.mem_of_getElem? hk
 have sub:∀t∈us.drop j,t∈us:=fun t ht=>List.mem_of_mem_drop ht
 have ch2:(us.drop j).map (·.bg)++[c]=c :: (us.drop j).map (·.en):=by
  have e:=congrArg (List.drop j) ch
  rw [List.drop_append_of_le_length (by rw [List.length_map];trivial)] at e
  rw [List.map_drop,e]
  cases j with
  | zero=>
   cases us with
   | nil=>simp at lj
   | cons t r=>
    simp at hj ch
    simp [←ch.1,hj]
  | succ m=>
   rw [List.drop_succ_cons,List.map_drop]
   have hm:m<(us.map (·.en)).length:=by rw [List.length_map];trivial
   rw [List.drop_eq_getElem_cons hm]
   have:(us.map (·.en))[m]?=some c:=by
    have e2:=congrArg (fun z=>z[m+1]?) ch
    simp only [List.getElem?_cons_succ] at e2
    rw [←e2,List.getElem?_append_left (by rw [List.length_map];exact lj)]
    exact hj
   rw [(List.getElem?_eq_some_iff.mp this).2]
 obtain ⟨t0,r0,e0⟩:aW fun t r=>us.drop j=t :: r:=by
  cases e:us.drop j with
  | nil=>have:=congrArg List.length e;simp at this;trivial
  | cons t r=>exact ⟨t,r,rfl⟩
 have al:=CL ch2 (fun t ht=>he t (sub t ht)) (by rw [e0];simp)
 have hc:c∈ls:=by
  obtain ⟨t,ht,rfl⟩:=List.mem_map.mp (List.mem_of_getElem? hj)
  exact (tc t (memT t ht)).b
 have up:0<uW s c:=fH (pos c hc).1 (pos c hc).2
 have gain:1<bf (us.drop j):=by
  rcases al.2 with z | z
  ·apply Rat.not_le.mp
   intro w
   have:=Rat.mul_le_mul_of_nonneg_right w (Rat.le_of_lt up)
   rw [Rat.one_mul] at this
   exact absurd z (Rat.not_lt.mpr this)
  ·trivial
 have rot:(us.drop j).map (·.en)=((us.drop j).map (·.bg)).drop 1++((us.drop j).map (·.bg)).take 1:=by
  rw [e0] at ch2 ⊢
  simp only [List.map_cons,List.cons_append,List.cons.injEq] at ch2
  simp only [List.map_cons,List.drop_succ_cons,List.drop_zero,List.take_succ_cons,List.take_zero]
  rw [←ch2.2,ch2.1]
 refine ⟨by rw [List.map_drop,h1,List.map_drop],fun t ht=>ho t (sub t ht),?_,?_,rot,gain⟩
 ·rw [List.length_drop,lk]
  have:(us.drop j).length=us.length - j:=List.length_drop ..
  rw [←this]
  cases r0 with
  | nil=>
   rw [e0] at rot
   simp at rot
   exact absurd rot.symm (tc t0 (memT t0 (sub t0 (by rw [e0];simp)))).ne
  | cons t1 r1=>rw [e0];simp
 ·rw [List.map_drop]
  exact List.Sublist.nodup (List.drop_sublist _ _) nd
end L2
namespace L2
open PySem PySem.Spec PyProof.Rows
section
variable {prog:Program}{w:World}{A:Around}{E:Value→Shared→Prop}{hp:Heap}{gs:Array GenState}{dr:Drawn}{tk:Nat}{os:OsState}
variable {nm qn:Str}{C N:Addr}{bs bm bB:List Value}{hd:Bool}{sn:List Str}{sb:List Value}{ab:Bool}{cl:Option Bool}{dd:Option Addr}{k0 k1 k2 k3 k5:Option Value}{B nw ni:String}
theorem zv (FB:ExcBaseFacts B nw ni bB) (T:OwnTail hp bB bm) {mN:Str→Option Value}{us:List Value}{fI:Addr}{oI:Obj}{R:Fin→Shared→Prop}
 (eC:hp.get? C=some (excClassObj nm qn C N bs bm hd sn sb ab cl dd k0 k1 k2 k3 k5 nw)) (eN:hp.Ns N mN) (eI:mN "__init__" = some (.ref fI)) (ef:hp.get? fI=some oI) (ec:oI.cls=.type "function") (lu:us.length≤sizeLine)
 (go:∀h1 x,Heap.MadeExcOf hp h1 x (.ref C) us→wpAny (model prog w) A (call (.ref fI) (.ref x :: us)) (fun r s1=>r=.none∧R (.done (.ret (.ref x))) s1) E ⟨h1,gs,dr,tk,os⟩) :
 wpAny (model prog w) A (Builtin.«type.__call__» ⟨.ref C :: us,[]⟩) R E ⟨hp,gs,dr,tk,os⟩:=by
 repeat (first | with_reducible refine wpAny_madeBy_exc eC ?_ | with_reducible refine wpAny_loadPart_at eC ?_ | wp_step)
 refine codeAny_call_builtin_code (Code.quiet_builtin _ FB.quiet) (wpAny_check_new_subT FB T eC ?_)
 refine codeAny_exc_new_subT FB T eC ?_ lu
 show wpAny _ _ _ _ _ _
 have up:∀b o,hp.get? b=some o→((hp.push { cls:=.type "tuple",data:=.seq us.toArray }).push { cls:=.ref C,data:=.fields #[.ref hp.objs.size,.none,.none,.none,.bool false,.none] }).get? b=some o:=fun b o e=>Heap.get?_push_of_some _ (Heap.get?_push_of_some _ e)
 have at1:((hp.push { cls:=.type "tuple",data:=.seq us.toArray }).push { cls:=.ref C,data:=.fields #[.ref hp.objs.size,.none,.none,.none,.bool false,.none] }).get? (hp.objs.size+1)=some { cls:=.ref C,data:=.fields #[.ref hp.objs.size,.none,.none,.none,.bool false,.none] }:=by heap_get
 have me:Heap.MadeExcOf hp ((hp.push { cls:=.type "tuple",data:=.seq us.toArray }).push { cls:=.ref C,data:=.fields #[.ref hp.objs.size,.none,.none,.none,.bool false,.none] }) (hp.objs.size+1) (.ref C) us:=
  ⟨up,Heap.get?_none_of_le (Nat.le_succ _),hp.objs.size,at1,Heap.get?_none_of_le (Nat.le_refl _),Heap.get?_push_of_some _ (Heap.get?_push_at rfl rfl)⟩
 have cc:(Value.ref C :: bm).contains (.ref C)=true:=by simp
 have f1:=up _ _ ef
 unfold isInstance
 repeat (first | with_reducible refine wpAny_loadPart_at at1 ?_ | (with_reducible refine wpAny_isSubtype_exc (up _ _ eC) ?_;rw [cc]) | wp_step)
 show wpAny _ _ (typeLookup (.ref C) _) _ _ _
 refine wpAny_typeLookup_tail (up _ _ eC) (eN.keeps up) (T.keeps up) FB.mroIs FB.init.lookup ?_
 rw [eI]
 refine wpAny_holding (wpAny_bind ?_)
 unfold bindSpecial
 refine wpAny_bind (wpAny_typeOf (T := "function") ⟨_,f1,ec⟩ ?_)
 rw [if_pos (by decide)]
 refine wpAny_pure (wpAny_bind (wpAny_mono (go _ _ me) (fun r s1 hr=>?_) fun _ _ z=>z))
 obtain ⟨rfl,hR⟩:=hr
 wp_walk
 exact hR
theorem Aq (FB:ExcBaseFacts B nw ni bB) (T:OwnTail hp bB bm) {mN:Str→Option Value}{us:List Value}{fI:Addr}{oI:Obj}{R:Value→Shared→Prop}
 (eC:hp.get? C=some (excClassObj nm qn C N bs bm hd sn sb ab cl dd k0 k1 k2 k3 k5 nw)) (eN:hp.Ns N mN) (eI:mN "__init__" = some (.ref fI)) (ef:hp.get? fI=some oI) (ec:oI.cls=.type "function") (lu:us.length≤sizeLine)
 (go:∀h1 x,Heap.MadeExcOf hp h1 x (.ref C) us→wpAny (model prog w) (A.under (.builtin "type.__call__" ⟨.ref C :: us,[]⟩)) (call (.ref fI) (.ref x :: us)) (fun r s1=>r=.none∧R (.ref x) s1) E ⟨h1,gs,dr,tk,os⟩) :
 wpAny (model prog w) A (call (.ref C) us) R E ⟨hp,gs,dr,tk,os⟩:=by
 have l1:=tc_lookup
 have l2:=tc_bind (.ref C)
 have ty:(⟨hp,gs,dr,tk,os⟩:Shared).TypeIs (.ref C) "type" := ⟨_,eC,rfl⟩
 refine wpAny_call (codeAny_of_tree ?_)
 show wpAny _ _ (callAny (.ref C) _) _ _ _
 repeat (any_goals (first | assumption | with_reducible refine wpAny_loadPart_at eC ?_ | wp_step))
 exact ⟨rfl,codeAny_call_builtin_at (Code.quiet_builtin _ (by decide +kernel)) entry_typeCall (wpAny_check_type_call_sub eC (zv FB T eC eN eI ef ec lu fun h1 x m=>go h1 x m))⟩
end
end L2
namespace L2
open PySem PySem.Spec PyProof.Rows PySem.W
section
variable {prog:Program}{w:World}{A:Around}{E:Value→Shared→Prop}{s:Shared}{K:Frag}{x C:Addr}{ox:Obj}{od:Option Obj}{name:Str}{fill expr:Bool}
abbrev pI (K:Frag) (C:Addr):Bool:=findIn K (.ref C) "__getattribute__" == some (some (.builtin "BaseException.__getattribute__")) && findIn K (.ref C) "__getattr__" == some none && mroIn K C (.type "BaseException")==some true
theorem yL {K:Frag}{C:Addr} (h:pI K C=true):findIn K (.ref C) "__getattribute__" = some (some (.builtin "BaseException.__getattribute__"))∧findIn K (.ref C) "__getattr__" = some none∧mroIn K C (.type "BaseException")=some true:=by
 simp only [pI,Bool.and_eq_true,beq_iff_eq] at h
 exact ⟨h.1.1,h.1.2,h.2⟩
theorem AS {tk:Tok}{R:Result→Shared→Prop}{f:Builtin.ObjectAttr.Found} (X:K.In s.heap) (I:InstAt s.heap x ox C od) (g:pI K C=true) (hf:findObj K C od name=some f)
 (h:wpAny (model prog w) A.in1 (match f with | .value v=>ret v | .bind g a=>Builtin.ObjectAttr.bindTo g a (.ref x) (.ref C) | .missing=>unsupported "") (fun aP s'=>match aP with | .done (.ret v)=>R (.ok (.ret v)) s' | _=>False) (fun _ _=>False) s) (hm:f≠.missing) :
 codeAny (model prog w) A (.call (.builtin "BaseException.__getattribute__") ⟨[.ref x,.str name tk],[]⟩) R s:=by
 obtain ⟨g1,g2,g3⟩:=yL g
 have sub:Looks (model prog w) s.heap (isInstance (.ref x) (.type "BaseException")) true:=I.type.andThen (looks_mroIn X g3)
 refine codeAny_call_builtin PySem.F.attr_ValueError.ga.plain PySem.F.entry_bexc_ga (@check_slot (model prog w) _ _ s "BaseException.__getattribute__" "BaseException" "__getattribute__" (.ref x) [.str name tk] [] _ (by decide +kernel) (by decide +kernel) sub (PySem.F.args_bexc_ga _ _) ?_)
 have L1:=looks_find (M:=model prog w) X I hf
 have L0:=I.type (M:=model prog w)
 unfold Builtin.«object.__getattribute__»
 refine wpAny_bind (wpAny_pure (wpAny_bind (wpAny_pure (wpAny_bind (L0.here (wpAny_bind (L1.here ?_)))))))
 cases f with
 | missing=>exact absurd rfl hm
 | value v=>
  refine wpAny_mono h (fun aP s' z=>?_) fun _ _ z=>z.elim
  rcases aP with (_ | _ | _ | _) | _ <;> first | exact z | exact z.elim
 | bind g a=>
  refine wpAny_mono h (fun aP s' z=>?_) fun _ _ z=>z.elim
  rcases aP with (_ | _ | _ | _) | _ <;> first | exact z | exact z.elim
theorem yA {tk:Tok}{Q:Value→Shared→Prop}{f:Builtin.ObjectAttr.Found} (X:K.In s.heap) (I:InstAt s.heap x ox C od) (g:pI K C=true) (hf:findObj K C od name=some f) (hm:f≠.missing)
 (h:wpAny (model prog w) A.in1 (match f with | .value v=>ret v | .bind g a=>Builtin.ObjectAttr.bindTo g a (.ref x) (.ref C) | .missing=>unsupported "") (fun aP s'=>match aP with | .done (.ret v)=>wpAny (model prog w) A (handedOut v) Q E s' | _=>False) (fun _ _=>False) s) :
 wpAny (model prog w) A (getAttrBy (.ref x) (.str name tk) fill expr) Q E s:=by
 obtain ⟨g1,g2,g3⟩:=yL g
 have L0:=I.type (M:=model prog w)
 have L1:=looks_findIn (M:=model prog w) X g1
 have L2:=looks_findIn (M:=model prog w) X g2
 unfold getAttrBy
 refine wpAny_holding (wpAny_bind (L0.here (wpAny_bind (L1.here ?_))))
 dsimp only
 rw [show (onTheHeap (Value.ref C) && Value.builtin "BaseException.__getattribute__" == Value.builtin "object.__getattribute__")=false from by rw [show (Value.builtin "BaseException.__getattribute__" == Value.builtin "object.__getattribute__")=false from by decide +kernel,Bool.and_false],if_neg (by decide)]
 unfold getAttrByItsOwn hookBefore
 rw [if_pos (show onTheHeap (Value.ref C)=true from rfl)]
 refine wpAny_bind (L2.here (wpAny_bind (wpAny_attempt (wpAny_holding ?_))))
 unfold callGetattribute
 rw [show (expr && onTheHeap (Value.builtin "BaseException.__getattribute__"))=false by cases expr <;> rfl,if_neg (by decide)]
 unfold boundAndCalled
 rw [PySem.F.attr_ValueError.ga.bind]
 refine wpAny_bind (wpAny_pure (wpAny_call (AS X I g hf (wpAny_mono h (fun aP s' z=>?_) fun _ _ z=>z) hm)))
 rcases aP with (_ | _ | _ | _) | _ <;> first | exact z | exact z.elim
theorem GD {v:Value}{Q:Value→Shared→Prop} (X:K.In s.heap) (I:InstAt s.heap x ox C od) (g:pI K C=true) (hf:findObj K C od name=some (.value v)) (hh:handedIn v=true) (h:Q v { s with toks:=s.toks+1 }) :
 wpAny (model prog w) A (getAttr (.ref x) name expr) Q E s:=by
 unfold getAttr
 refine wpAny_bind (wpAny_mkText (yA (s:={ s with toks:=s.toks+1 }) X I g hf (fun z=>nomatch z) (wpAny_pure ?_)))
 show wpAny _ _ (handedOut v) _ _ _
 rw [handedOut_of hh]
 exact wpAny_pure h
abbrev pp (K:Frag) (C:Addr):Bool:=pI K C && (clsIn K C).isSome && findIn K (.ref C) "__class__" == some (some (.builtin "object.__class__")) && specialIn K (.builtin "object.__class__") "__get__" == some (some (.builtin "getset_descriptor.__get__")) && takesIn K (.builtin "object.__class__")==some true && mroIn K C (.type "object")==some true
theorem rQ {K:Frag}{C:Addr} (h:pp K C=true):pI K C=true∧(clsIn K C).isSome=true∧findIn K (.ref C) "__class__" = some (some (.builtin "object.__class__"))∧specialIn K (.builtin "object.__class__") "__get__" = some (some (.builtin "getset_descriptor.__get__"))∧takesIn K (.builtin "object.__class__")=some true∧mroIn K C (.type "object")=some true:=by
 unfold pp at h
 simp only [Bool.and_eq_true,beq_iff_eq] at h
 obtain ⟨⟨⟨⟨⟨a,b⟩,c⟩,d⟩,e⟩,f⟩:=h
 exact ⟨by unfold pI;simp only [Bool.and_eq_true,beq_iff_eq];exact a,b,c,d,e,f⟩
theorem zq (g:pp K C=true):findObj K C od "__class__" = some (.bind (.builtin "getset_descriptor.__get__") (.builtin "object.__class__")):=by
 obtain ⟨_,hc,ha,hg,ht,_⟩:=rQ g
 obtain ⟨cd,hc⟩:=Option.isSome_iff_exists.mp hc
 unfold findObj
 rw [hc,Option.bind_some,ha,Option.bind_some]
 dsimp only
 rw [hg,Option.bind_some]
 dsimp only
 rw [ht,Option.bind_some]
theorem D9 {Q:Option Value→Shared→Prop} (X:K.In s.heap) (I:InstAt s.heap x ox C od) (g:pp K C=true) (h:Q (some (.ref C)) { s with toks:=s.toks+1 }):wpAny (model prog w) A (getAttr? (.ref x) "__class__") Q E s:=by
 obtain ⟨g0,_,_,_,_,gm⟩:=rQ g
 unfold getAttr? getAttrBy?
 refine wpAny_bind (wpAny_mkText (wpAny_bind (wpAny_attempt (yA (s:={ s with toks:=s.toks+1 }) X I g0 (zq g) (fun z=>nomatch z) ?_))))
 show wpAny _ _ (holding [_] (call _ _) >>= ret) _ _ _
 refine wpAny_bind (wpAny_holding (wpAny_call (class_get (s:={ s with toks:=s.toks+1 }) (ox:=ox) (od:=od) X I gm (wpAny_pure (handed_on rfl (wpAny_pure h))))))
theorem xP (g:pp K C=true):KitX K (.ref x) (.ref C) (fun h=>aW fun ox od=>InstAt h x ox C od) where
 ty:=fun _ _ _ ⟨_,_,I⟩=>I.type
 it:=fun _ _ X _=>by
  obtain ⟨cd,hc⟩:=Option.isSome_iff_exists.mp (rQ g).2.1
  unfold clsIn at hc
  split at hc
  ·rename_i ho
   intro A' Q' E' s' k q
   unfold isType loadHead
   exact wpAny_bind (wpAny_loadPart (k _ _ (X _ _ ho)) (wpAny_pure q))
  ·cases hc
 ne:=fun h tp dd its n sl X htp=>by
  obtain ⟨cd,hc⟩:=Option.isSome_iff_exists.mp (rQ g).2.1
  refine Bool.eq_false_iff.mpr fun q=>?_
  obtain rfl:C=tp:=Value.ref.inj (beq_iff_eq.mp q)
  unfold clsIn at hc
  split at hc
  ·rename_i ho
   have z:=(X _ _ ho).symm.trans htp
   cases z
  ·cases hc
 ca:=fun X ⟨_,_,I⟩ k=>D9 X I g k
end
end L2
namespace L2
open PySem PySem.Spec PyProof.Rows PySem.W PySem.Builtin.ObjectAttr
def qM:List Value→Bool
 | .ref _ :: r=>qM r
 | l=>l==[.type "ValueError",.type "Exception",.type "BaseException",.type "object"]
theorem fQ (self:Value):refuseLoop self "__setattr__" [.type "ValueError",.type "Exception",.type "BaseException",.type "object"]=pure ():=by kernel_rfl
theorem uA (self:Value):∀{l:List Value},qM l=true→refuseLoop self "__setattr__" l=pure ()
 | .ref c :: r,e=>by rw [refuseLoop_ref];exact uA self e
 | [],e=>by cases beq_iff_eq.mp (show (([]:List Value)==_)=true from e)
 | .none :: r,e=>by rw [beq_iff_eq.mp (show (_==_)=true from e)];exact fQ self
 | .bool _ :: r,e=>by rw [beq_iff_eq.mp (show (_==_)=true from e)];exact fQ self
 | .int _ _ :: r,e=>by rw [beq_iff_eq.mp (show (_==_)=true from e)];exact fQ self
 | .float _ _ :: r,e=>by rw [beq_iff_eq.mp (show (_==_)=true from e)];exact fQ self
 | .str _ _ :: r,e=>by rw [beq_iff_eq.mp (show (_==_)=true from e)];exact fQ self
 | .bytes _ _ :: r,e=>by rw [beq_iff_eq.mp (show (_==_)=true from e)];exact fQ self
 | .type _ :: r,e=>by rw [beq_iff_eq.mp (show (_==_)=true from e)];exact fQ self
 | .builtin _ :: r,e=>by rw [beq_iff_eq.mp (show (_==_)=true from e)];exact fQ self
abbrev gB (K:Frag) (C:Addr) (name:Str):Bool:=(clsIn K C).any (fun cd=>qM cd.mro && cd.hasDict) && findIn K (.ref C) "__setattr__" == some (some (.builtin "object.__setattr__")) && takerIn K C name==some none && mroIn K C (.type "object")==some true
theorem AH {h:Heap}{a:Addr}{name:Str}{v:Value} (n:h.Ns1 a fun y=>if y=name then some v else none):∃o,h.get? a=some o∧o.data.pastItsLine=none:=by
 obtain ⟨o,es,ep,e,d,sk,uq,f⟩:=n
 refine ⟨o,e,?_⟩
 rw [d]
 refine pastItsLine_dict ?_
 have key:∀x∈es,∃t,x.key=.str name t:=fun x hx=>by
  obtain ⟨m,t,hm⟩:=sk x hx
  have q:=f m
  by_cases c:m=name
  ·exact ⟨t,by rw [hm,c]⟩
  ·dsimp only at q
   rw [if_neg c] at q
   simp only [nsFind,findBy,Option.map_eq_none_iff,Array.find?_eq_none] at q
   have:=q x hx
   rw [hm] at this
   simp [Value.isStr] at this
 have small:es.toList.length≤1:=by
  unfold UniqKeys at uq
  cases el:es.toList with
  | nil=>simp
  | cons x r=>
   cases r with
   | nil=>simp
   | cons y r=>
    rw [el] at uq
    obtain ⟨t1,k1⟩:=key x (Array.mem_toList_iff.mp (by rw [el];simp))
    obtain ⟨t2,k2⟩:=key y (Array.mem_toList_iff.mp (by rw [el];simp))
    exfalso
    exact (List.pairwise_cons.mp uq).1 y (by simp) name (by rw [k1];simp [Value.isStr]) (by rw [k2];simp [Value.isStr])
 rw [Array.length_toList] at small
 rw [sizeLine_eq]
 trivial
section
variable {prog:Program}{w:World}{A:Around}{E:Value→Shared→Prop}{s:Shared}{K:Frag}{x C:Addr}{ox:Obj}{name:Str}{v:Value}
abbrev rW:Obj:={ cls:=.type "dict",data:=.dict #[] }
theorem HG {tk:Tok}{R:Result→Shared→Prop} (X:K.In s.heap) (I:InstAt s.heap x ox C none) {vs:Array Value} (hf:ox.data=.fields vs) (g:gB K C name=true)
 (h:∀h' tk',h'.Ns1 s.heap.objs.size (fun y=>if y=name then some v else none)→h'.get? x=some { ox with dict:=some s.heap.objs.size }→(∀b o,b≠x→s.heap.get? b=some o→h'.get? b=some o)→R (.ok (.ret .none)) { s with heap:=h',toks:=tk' }) :
 codeAny (model prog w) A (.call (.builtin "object.__setattr__") ⟨[.ref x,.str name tk,v],[]⟩) R s:=by
 have SF:=PySem.F.store_object
 unfold gB at g
 simp only [Bool.and_eq_true,beq_iff_eq] at g
 obtain ⟨⟨⟨g1,g2⟩,g3⟩,g4⟩:=g
 obtain ⟨cd,hc,hp⟩:=any_some g1
 rw [Bool.and_eq_true] at hp
 have sub:Looks (model prog w) s.heap (isInstance (.ref x) (.type "object")) true:=I.type.andThen (looks_mroIn X g4)
 refine codeAny_call_builtin SF.slot.plain SF.entry (@check_slot (model prog w) _ _ s "object.__setattr__" "object" "__setattr__" (.ref x) [.str name tk,v] [] _ SF.kind SF.split sub (SF.args (.ref x) (.str name tk) v) ?_)
 obtain ⟨attr,ha,hr⟩:=Option.bind_eq_some_iff.mp g3
 have lm:Looks (model prog w) s.heap (mroOf (.ref C)) cd.mro:=(looks_clsIn X hc).andThen .now
 have lt:Looks (model prog w) s.heap (storeTaker? attr) none:=by
  cases attr with
  | none=>exact .now
  | some a=>
   obtain ⟨b,hb,e⟩:=Option.map_eq_some_iff.mp hr
   refine (looks_takesIn X hb).andThen ?_
   cases b with
   | true=>cases e
   | false=>exact .now
 rw [osa_eq,refuse_eq]
 refine wpAny_bind (wpAny_bind (I.type.here (wpAny_bind (lm.here ?_))))
 rw [uA _ hp.1]
 refine wpAny_pure (wpAny_bind (I.type.here (wpAny_bind ((looks_findIn X ha).here (wpAny_bind (lt.here ?_))))))
 obtain ⟨hx,hcl,hn,hd⟩:=I
 obtain ⟨oc,odi,oda,osl⟩:=ox
 dsimp only at hcl hd hn hf
 subst hcl hf
 have e0:odi=none:=by
  cases odi with
  | none=>rfl
  | some d=>exact hd.elim
 subst e0
 refine wpAny_bind (wpAny_pure (wpAny_bind (wpAny_bind (wpAny_loadPart hx (wpAny_bind ((looks_clsIn X hc).here ?_))))))
 rw [hp.2,if_neg (by decide)]
 show wpAny _ _ (alloc rW >>= fun d=>update x (fun o=>{ o with dict:=some d }) >>= fun _=>dictMade (.ref C) x d) _ _ _
 refine wpAny_bind (wpAny_alloc (wpAny_bind ?_))
 have lx:x<s.heap.objs.size:=Heap.lt_size hx
 have hx1:(s.heap.push rW).get? x=some ⟨.ref C,none,.fields vs,osl⟩:=Heap.get?_push_of_some _ hx
 have nd:s.heap.objs.size≠x:=Nat.ne_of_gt lx
 have hd1:((s.heap.push rW).update x fun o=>{ o with dict:=some s.heap.objs.size }).get? s.heap.objs.size=some rW:=by
  rw [Heap.get?_update_other _ _ (Ne.symm nd)]
  exact Heap.get?_push_size _ rfl
 refine wpAny_update hx1 ?_
 refine wpAny_pure ?_
 show wpAny _ _ (storeInDict s.heap.objs.size (.str name tk) name v) _ _ _
 have n0:((s.heap.push rW).update x fun o=>{ o with dict:=some s.heap.objs.size }).Ns1 s.heap.objs.size (fun _=>none):=Heap.Ns1.of_empty ⟨rW,#[],_,hd1,rfl,(fun e he=>absurd he (by simp)),fun _=>rfl⟩
 unfold storeInDict
 refine wpAny_bind (wpAny_pure (wpAny_bind (wpAny_nsSet1 n0 fun h2 n2 sb=>wpAny_bind ?_)))
 obtain ⟨o2,e2,p2⟩:=AH n2
 refine wpAny_lookBehind e2 p2 (wpAny_pure ?_)
 refine h h2 _ n2 ?_ fun b o nb hb=>?_
 ·rw [sb.2 x (Ne.symm nd)]
  exact Heap.get?_update_self _ hx1 rfl
 ·rw [sb.2 b (Nat.ne_of_lt (Heap.lt_size hb)),Heap.get?_update_other _ _ (Ne.symm nb)]
  exact Heap.get?_push_of_some _ hb
theorem HY {Q:Unit→Shared→Prop} (X:K.In s.heap) (I:InstAt s.heap x ox C none) {vs:Array Value} (hf:ox.data=.fields vs) (g:gB K C name=true)
 (h:∀h' tk',h'.Ns1 s.heap.objs.size (fun y=>if y=name then some v else none)→h'.get? x=some { ox with dict:=some s.heap.objs.size }→(∀b o,b≠x→s.heap.get? b=some o→h'.get? b=some o)→Q () { s with heap:=h',toks:=tk' }) :
 wpAny (model prog w) A (setAttr (.ref x) name v) Q E s:=by
 have g2:findIn K (.ref C) "__setattr__" = some (some (.builtin "object.__setattr__")):=by
  unfold gB at g
  simp only [Bool.and_eq_true,beq_iff_eq] at g
  exact g.1.1.2
 exact set_plain X I g2 (HG (s:={ s with toks:=s.toks+1 }) X I hf g fun h' tk' a b c=>h h' tk' a b c)
end
end L2
namespace L2
open PySem PySem.Spec PyProof.Rows PySem.W PySem.Builtin.ObjectAttr
abbrev C7:List Value:=[.type "ValueError",.type "Exception",.type "BaseException",.type "object"]
def Bk (d:Data):Option ClassData:=match d with
 | .cls cd=>some cd
 | _=>none
theorem DR {d:Data}{cd:ClassData} (h:Bk d=some cd):d=.cls cd:=by
 cases d with
 | cls c=>cases h;rfl
 | _=>cases h
theorem IR {α:Type}{ls:List α} (h:ls.length=6):yx fun a b c d e f=>ls=[a,b,c,d,e,f]:=by
 match ls,h with
 | [a,b,c,d,e,f],_=>exact ⟨a,b,c,d,e,f,rfl⟩
theorem JC {α:Type}{sl:Array α}{x:α} (h:sl.size=6) (k:sl[4]?=some x):yC fun a b c d f=>sl=#[a,b,c,d,x,f]:=by
 obtain ⟨l⟩:=sl
 obtain ⟨a,b,c,d,e,f,rfl⟩:=IR (show l.length=6 from h)
 obtain rfl:e=x:=Option.some.inj k
 exact ⟨a,b,c,d,f,rfl⟩
def bO (K:Frag) (C:Addr) (ini:Option Value):Bool:=match K.lookup C with
 | none=>false
 | some o=>match Bk o.data with
  | none=>false
  | some cd=>(o.cls==.type "type") && ((cd.mro.head?==some (.ref C)) && (!cd.hasDel && (tailIn K C7 cd.mro.tail && (nsOkIn K cd.ns && (nsIn K cd.ns "__init__" == some ini && (o.slots.size==6 && o.slots[4]?==some (some (.builtin "ValueError.__new__"))))))))
theorem Gg {K:Frag}{h:Heap}{N:Addr}{mp:Str→Option Value}{n:Str}{v:Value} (X:K.In h) (G:h.Ns N mp) (e:nsIn K N n=some (some v)):mp n=some v:=by
 obtain ⟨ob,es,ep,ho,hd,_,f⟩:=G
 unfold nsIn at e
 split at e
 ·rename_i q
  have z:=X _ _ q
  rw [ho] at z
  cases z
  cases hd
  split at e
  ·rename_i he
   cases e
   rw [←f]
   unfold nsFind findBy
   rw [←Array.find?_toList,he];rfl
  ·split at e <;> cases e
 ·cases e
theorem yW {K:Frag}{h:Heap}{C:Addr}{ini:Option Value} (X:K.In h) (q:bO K C ini=true):∃nm qn N bs bm hd sn sb ab cl dd k0 k1 k2 k3 k5 mN,
 h.get? C=some (excClassObj nm qn C N bs bm hd sn sb ab cl dd k0 k1 k2 k3 k5 "ValueError.__new__")∧h.Ns N mN∧OwnTail h C7 bm∧mN "__init__" = ini:=by
 unfold bO at q
 cases ho:K.lookup C with
 | none=>rw [ho] at q;cases q
 | some o=>
  rw [ho] at q
  dsimp only at q
  cases hc:Bk o.data with
  | none=>rw [hc] at q;cases q
  | some cd=>
   rw [hc] at q
   dsimp only at q
   rw [Bool.and_eq_true,Bool.and_eq_true,Bool.and_eq_true,Bool.and_eq_true,Bool.and_eq_true,Bool.and_eq_true,Bool.and_eq_true,beq_iff_eq,beq_iff_eq,beq_iff_eq,beq_iff_eq,beq_iff_eq,Bool.not_eq_true'] at q
   obtain ⟨q1,q2,dl,tl,ok,hi,z1,z2⟩:=q
   obtain ⟨k0,k1,k2,k3,k5,e6⟩:=JC z1 z2
   have ed:=DR hc
   obtain ⟨oc,dd,od,sl⟩:=o
   dsimp only at q1 ed e6
   subst q1 ed e6
   obtain ⟨nm,bs,mro,ns,qn,hd,sn,sub,ab,col,del⟩:=cd
   dsimp only at q2 dl tl ok hi
   subst dl
   cases mro with
   | nil=>cases q2
   | cons m bm=>
    obtain rfl:m=.ref C:=Option.some.inj q2
    have nm1:h.Ns ns (h.nsMap ns):=.of_isNs (isNs_of_in X ok)
    refine ⟨nm,qn,ns,bs,bm,hd,sn,sub,ab,col,dd,k0,k1,k2,k3,k5,_,X _ _ ho,nm1,tail_of_in X tl,?_⟩
    cases ini with
    | none=>exact nsMap_none_of_in X ok hi
    | some v=>exact Gg X nm1 hi
section
variable {prog:Program}{w:World}{A:Around}{E:Value→Shared→Prop}{s:Shared}{K:Frag}{x C:Addr}{ox:Obj}{od:Option Obj}{a0:Value}
theorem Fe {u:Value}{Q:Value→Shared→Prop}{ini:Option Value} (X:K.In s.heap) (I:InstAt s.heap x ox C od) (hf:ox.data=.fields #[a0,.none,.none,.none,.bool false,.none]) (hm:bO K C ini=true)
 (h:∀h',h'.get? x=some { ox with data:=.fields #[.ref s.heap.objs.size,.none,.none,.none,.bool false,.none] }→(∀b o,b≠x→s.heap.get? b=some o→h'.get? b=some o)→Q .none { s with heap:=h' }) :
 wpAny (model prog w) A (call (.builtin "ValueError.__init__") [.ref x,u]) Q E s:=by
 have FB:=PySem.F.excBase_ValueError
 obtain ⟨nm,qn,N,bs,bm,hd,sn,sb,ab,cl,dd,k0,k1,k2,k3,k5,mN,eC,eN,T,_⟩:=yW X hm
 have hx:=I.at_
 have hc:=I.cls
 obtain ⟨oc,odi,oda,osl⟩:=ox
 dsimp only at hf hc hx
 subst hf hc
 obtain ⟨hp,gs,dr,tk,os⟩:=s
 dsimp only at eC eN T hx
 refine wpAny_call (codeAny_call_builtin FB.init.plain FB.initEntry (wpAny_check_init_subT FB T eC hx rfl ?_))
 have lx:x<hp.objs.size:=Heap.lt_size hx
 have hx1:(hp.push { cls:=.type "tuple",data:=.seq #[u] }).get? x=some ⟨.ref C,odi,.fields #[a0,.none,.none,.none,.bool false,.none],osl⟩:=Heap.get?_push_of_some _ hx
 unfold Builtin.«BaseException.__init__»
 refine wpAny_bind (wpAny_newTuple (wpAny_bind ?_))
 unfold Builtin.BaseException.bexcPut
 refine wpAny_bind (wpAny_field hx1 rfl rfl (wpAny_bind (wpAny_setField hx1 rfl (by show 0<6;decide) ?_)))
 have aP:wpAny (model prog w) A.in1 (ret .none) (fun aP s'=>match aP with | .done f=>(match Except.ok f with | Except.ok (Flow.ret v)=>Q v s' | Except.ok _=>False | Except.error e=>E e s') | .again c'=>False) (fun e s'=>E e s') ⟨(hp.push { cls:=.type "tuple",data:=.seq #[u] }).update x (Obj.mapFields (·.setIfInBounds 0 (.ref hp.objs.size))),gs,dr,tk,os⟩:=by
  refine wpAny_pure (h _ ?_ fun b o nb hb=>?_)
  ·exact Heap.get?_update_self _ hx1 rfl
  ·rw [Heap.get?_update_other _ _ (Ne.symm nb)]
   exact Heap.get?_push_of_some _ hb
 have fin2:=wpAny_mono aP (Q':=fun aP s'=>match aP with | .done f=>(match (Except.ok f:Result) with | Except.ok (Flow.ret v)=>Q v s' | Except.ok _=>False | Except.error e=>E e s') | .again c'=>c'.quiet=true∧codeAny (model prog w) A c' (fun r s'=>match r with | Except.ok (Flow.ret v)=>Q v s' | Except.ok _=>False | Except.error e=>E e s') s') (fun f s' z=>by
  cases f with
  | done f=>exact z
  | again c=>exact z.elim) fun _ _ z=>z
 split
 ·exact wpAny_letGo fin2
 ·exact wpAny_pure fin2
end
end L2
namespace L2
open PySem PySem.Spec PyProof.Rows
theorem aV.there {P:Program}{w:World}{H:Hp}{h:Heap}{a:Addr}{o:HO} (x:aV P w H h a o):∃u,h.get? a=some u:=by
 cases o with
 | lst xs=>obtain ⟨_,_,_,_,e⟩:=x;exact ⟨_,e⟩
 | tup xs=>obtain ⟨_,_,_,⟨_,e,_⟩,_⟩:=x;exact ⟨_,e⟩
 | dK kvs=>obtain ⟨_,_,_,_,o,_,_,e,_⟩:=x;exact ⟨_,e⟩
 | dT kvs=>obtain ⟨_,_,_,_,o,_,_,e,_⟩:=x;exact ⟨_,e⟩
 | set S n=>obtain ⟨o,_,_,_,e,_⟩:=x;exact ⟨_,e⟩
 | ins C dx fs=>obtain ⟨_,_,_,e,_⟩:=x;exact ⟨_,e⟩
 | own y=>obtain ⟨_,e⟩:=x;exact ⟨_,e⟩
 | xd fs=>obtain ⟨_,⟨_,_,_,e,_⟩,_⟩:=x;exact ⟨_,e⟩
 | rng lo hi=>obtain ⟨_,_,_,e⟩:=x;exact ⟨_,e⟩
 | frz ob u=>obtain ⟨e,_⟩:=x;exact ⟨_,e⟩
 | tbl ps=>exact ⟨_,show h.get? a=some _ from x⟩
 | met f y=>exact ⟨_,show h.get? a=some _ from x⟩
 | ext φ=>obtain ⟨_,e,_⟩:=x;exact e
theorem dL.none' {P:Program}{w:World}{H:Hp}{h:Heap}{a:Addr} (x:dL P w H h) (e:h.get? a=none):H a=none:=by
 cases q:H a with
 | none=>rfl
 | some u=>obtain ⟨o,z⟩:=(x a u q).there;rw [e] at z;cases z
section
variable {X:Cx}{pins:List (Addr×Obj)}{σ:St}{H:Hp}{s:Shared}{h':Heap}
theorem ac.laidN {a:Addr}{o:HO}{t':Nat} (I:ac X pins σ H s) (k:∀b u,s.heap.get? b=some u→h'.get? b=some u) (hn:s.heap.get? a=none) (new:aV X.prog X.w (aD H a o) h' a o) :
 ac X pins σ (aD H a o) { s with heap:=h',toks:=t' }:=by
 have hH:=I.hok.none' hn
 have ne:∀{b:Addr}{u:HO},H b=some u→b≠a:=fun q z=>by rw [z,hH] at q;cases q
 refine I.un ⟨fun b u q _ _ _=>k b u q,fun b u q _ _ _=>⟨u.slots,k b u q⟩,fun b u q n _=>?_,fun b u q _=>⟨u,k b u q⟩,fun b xs q=>?_,fun b u xs q=>?_,fun b ps q=>⟨#[],?_⟩⟩ fun b u e=>?_
 ·rw [aj (fun z=>by rw [z,hn] at q;cases q)];exact n
 ·rw [aj (ne q)];exact q
 ·rw [aj (ne q)];exact q
 ·rw [aj (ne q),q];simp
 ·by_cases hb:b=a
  ·subst hb;rw [ar] at e;cases e;exact new
  ·rw [aj hb] at e
   exact (I.hok b u e).stay (fun c v _ q=>k c v q) (fun c q=>by rw [aj (ne q)];exact q) fun c xs q=>by rw [aj (ne q)];exact q
end
def uT (x C:Addr) (dx:Option Addr) (h:Heap):Prop:=aW fun a0 sl=>h.get? x=some ⟨.ref C,dx,.fields #[a0,.none,.none,.none,.bool false,.none],sl⟩
def f6 (x C:Addr) (dx:Option Addr):HO:=.ext (uT x C dx)
theorem yJ {P:Program}{w:World}{H:Hp}{h:Heap}{x C:Addr}{dx:Option Addr} (e:uT x C dx h):aV P w H h x (f6 x C dx):=
 ⟨e,let ⟨_,_,q⟩:=e;⟨_,q⟩,fun h1 h2 ⟨a0,sl,q⟩ k=>⟨a0,sl,k _ q⟩⟩
theorem rN {P:Program}{w:World}{H:Hp}{h:Heap}{x C:Addr}{dx:Option Addr} (ok:dL P w H h) (e:H x=some (f6 x C dx)):uT x C dx h:=(ok x _ e).1
section
variable {X:Cx}{C f:Addr}{x:Str}{p pos:Pos}{e:Expr}{es:List Expr}{t:TA}{k:Nat}{fd:FuncData}{ps:List Str}{sp:Sp}{E:XK}
def Ij (C:Addr) (sp:Sp) (t:TA):TE:=fun σ H Q=>t σ H fun vs H1=>vs.length≤10000∧∀y H',Nw H1 y (f6 y C none) H'→sp (.ref y :: vs) H' (fun v H2=>v=.non∧Q (.ref y) H2) E0
theorem Gy {K:PySem.W.Frag}{h:Heap}{f:Addr} (KX:K.In h) (q:PySem.W.isFn K (.ref f)=true):∃o,h.get? f=some o∧o.cls=.type "function" := by
 unfold PySem.W.isFn at q
 rw [beq_iff_eq] at q
 unfold PySem.W.typeIn at q
 obtain ⟨o,e,z⟩:=Option.map_eq_some_iff.mp q
 exact ⟨o,KX _ _ e,z⟩
theorem BN {pins:List (Addr×Obj)}{σ:St}{H:Hp}{s:Shared}{Q:VK}{us:List Value}{vs:List V} (q:bO X.K C (some (.ref f))=true) (fn:PySem.W.isFn X.K (.ref f)=true) (F:aZ X.prog X.w X.K X.mg X.base CX0 k f fd ps sp) (hr:cN (k+1) X.A) (hb:fY X.K fd ps [])
 (I:ac X pins σ H s) (r:aC vs us) (hl:vs.length≤10000) (h:∀y H',Nw H y (f6 y C none) H'→sp (.ref y :: vs) H' (fun v H2=>v=.non∧Q (.ref y) H2) E0):wpAny (model X.prog X.w) X.A (call (.ref C) us) (EP X pins σ Q) X.xe s:=by
 obtain ⟨nm,qn,N,bs,bm,hd,sn,sb,ab,cl,dd,k0,k1,k2,k3,k5,mN,eC,eN,T,eI⟩:=yW I.kIn q
 obtain ⟨oI,ef,ec⟩:=Gy I.kIn fn
 have FB:=PySem.F.excBase_ValueError
 obtain ⟨hp,gs,dr,tk,os⟩:=s
 refine Aq FB T eC eN eI ef ec (by rw [←r.length];exact jx hl) fun h1 y m=>?_
 obtain ⟨a0,e1,_,_⟩:=m.there
 have I2:=I.laidN (t':=tk) m.keeps m.new (yJ (H:=aD H y (f6 y C none)) ⟨_,_,e1⟩)
 have hq:=h y _ (.mk' (I.hok.none' m.new))
 have r2:aC (V.ref y :: vs) (Value.ref y :: us):=.cons rfl r
 have ln:(Value.ref y :: us).length=ps.length:=by rw [←r2.length];exact F.len _ _ _ _ hq
 have hbb:=hb _ (Value.ref y :: us) I2.kIn (by rw [List.append_nil];exact ln)
 rw [List.append_nil] at hbb
 refine wpAny_call (codeAny_mono (F.run _ X.stack _ _ ⟨Value.ref y :: us,[]⟩ (Value.ref y :: us) _ _ E0 (hr.make C us []) (I2.env0.make C us []) hbb r2 hq) fun rs s' hq'=>?_)
 cases rs with
 | error z=>exact hq'.elim
 | ok fl=>
  cases fl with
  | ret u=>
   obtain ⟨v,H',I3,rv,ev,q3⟩:=I2.after hq'
   subst ev
   exact ⟨rv,⟨V.ref y,H',I3,rfl,q3⟩⟩
  | next=>exact False.elim hq'
  | brk=>exact False.elim hq'
  | cont=>exact False.elim hq'
theorem Ei (q:bO X.K C (some (.ref f))=true) (fn:PySem.W.isFn X.K (.ref f)=true) (kp:PySem.W.keepIn X.K (.ref C)=true) (F:aZ X.prog X.w X.K X.mg X.base CX0 k f fd ps sp) (hr:cN (k+1) X.A) (hb:fY X.K fd ps []) (hg:Gl X x) (hm:X.mg x=some (.ref C))
 (ha:PA X (e :: es) t) (hdb:(x==("__debug__" : Str))=false:=by decide) (he:starEach (e :: es) X.env=(false,eval e X.env) :: starEach es X.env:=by rfl) (hpl:(backTo pos (starEach es X.env)).any (·.1)=false:=by rfl):PE X (.Call (.Name x p) (e :: es) [] pos) (Ij C sp t):=by
 intro pins s σ H Q I h
 refine wpAny_Call_Name_kw (lD I hg hm ?_ hdb)
 exact PySem.W.callWith_K (h₀:=X.base) I.ok.mod.kin kp (aK (ha pos pins s σ H _ I h) fun us s1 ⟨vs,H1,I1,r,hl,q1⟩=>⟨I1.kIn,BN q fn F hr hb I1 r hl q1⟩) he hpl
theorem xt {h:Heap}{y C:Addr} (e:uT y C none h):aW fun ox a0=>PySem.W.InstAt h y ox C none∧ox.data=.fields #[a0,.none,.none,.none,.bool false,.none]:=by
 obtain ⟨a0,sl,q⟩:=e
 exact ⟨_,a0,⟨q,rfl,rfl,trivial⟩,rfl⟩
theorem ac.exc {pins:List (Addr×Obj)}{σ:St}{H:Hp}{s:Shared}{h':Heap}{y C:Addr}{dx:Option Addr}{t':Nat} (I:ac X pins σ H s) (e:H y=some (f6 y C dx)) (k:∀b o,b≠y→s.heap.get? b=some o→h'.get? b=some o) {dx':Option Addr} (n:uT y C dx' h'):ac X pins σ (aD H y (f6 y C dx')) { s with heap:=h',toks:=t' }:=
 I.write (x:=y) (e:=y) (by rw [e];exact trivial) (.inl rfl) k (let ⟨_,_,q⟩:=n;⟨_,q⟩) (yJ n)
theorem mC {H:Hp}{a:Addr}{o:HO} (h:H a=some o):aD H a o=H:=by
 funext b
 unfold aD
 split
 ·rename_i z;rw [z,h]
 ·rfl
abbrev zJ (K:PySem.W.Frag) (B:Addr):Bool:=PySem.W.specialIn K (.ref B) "__getattribute__" == some (some (.builtin "type.__getattribute__")) && PySem.W.readsIn K B (.type "type") && (match PySem.W.findCls K (.ref B) (.type "type") "__init__" with | some (.val v)=>v==.builtin "ValueError.__init__" | _=>false)
def EX (K:PySem.W.Frag) (t:TA):TE:=fun σ H Q=>t σ H fun vs H1=>kQ fun y u C ini=>vs=[.ref y,u]∧H1 y=some (f6 y C none)∧bO K C ini=true∧Q .non H1
theorem Cp {B:Addr}{pl:Sem Bool}{apos:Pos} (q:zJ X.K B=true) (hg:Gl X x) (hm:X.mg x=some (.ref B)) (ha:PA X (e :: es) t) (hdb:(x==("__debug__" : Str))=false:=by decide)
 (hst:starEach (e :: es) X.env=(false,eval e X.env) :: starEach es X.env:=by rfl) (hpl:(backTo pos (starEach es X.env)).any (·.1)=false:=by rfl)
 (ht:eval (.Call (.Attribute (.Name x p) "__init__" apos) (e :: es) [] pos) X.env=(do
  let ov ←eval (.Name x p) X.env
  standAt apos.atName
  let (f,first) ←holding [ov] (getMethod ov "__init__" pl)
  callWith pos f first (backTo pos (starEach (e :: es) X.env)) (backToKw pos (keywordEach [] X.env))):=by rfl) :
 PE X (.Call (.Attribute (.Name x p) "__init__" apos) (e :: es) [] pos) (EX X.K t):=by
 intro pins s σ H Q I h
 unfold zJ at q
 rw [Bool.and_eq_true,Bool.and_eq_true,beq_iff_eq] at q
 obtain ⟨⟨q1,q2⟩,q3⟩:=q
 refine PySem.W.methodCall_KW (pl:=pl) (lD I hg hm ?_ hdb) ht
 cases e3:PySem.W.findCls X.K (.ref B) (.type "type") "__init__" with
 | none=>rw [e3] at q3;cases q3
 | some r=>
  cases r with
  | get g a o tp=>rw [e3] at q3;cases q3
  | val v=>
   rw [e3] at q3
   obtain rfl:=beq_iff_eq.mp (show (v==Value.builtin "ValueError.__init__")=true from q3)
   refine PySem.W.method_cls I.kIn q1 (PySem.W.cls_value I.kIn q2 e3 rfl ?_)
   have I1:ac X pins σ H { s with toks:=s.toks+1 }:=I.tok _
   refine PyProof.Rows.callWith_builtin1 (aK (ha pos pins _ σ H _ I1 h) fun us s1 ⟨vs,H1,I2,r,q4⟩=>?_) hst hpl
   obtain ⟨y,u,C,ini,rfl,hy,hC,k⟩:=q4
   obtain ⟨uy,uu,rfl,r1,r2⟩:=ut r
   cases r1
   obtain ⟨ox,a0,J,hf⟩:=xt (rN I2.hok hy)
   refine Fe I2.kIn J hf hC fun h' e1 kp=>?_
   have I3:=I2.exc (t':=s1.toks) hy kp (dx':=none) ⟨_,ox.slots,by
    rw [e1,J.cls]
    have:ox.dict=none:=by
     have z:=J.dict
     cases q:ox.dict with
     | none=>rfl
     | some d=>rw [q] at z;exact z.elim
    rw [this]⟩
   rw [mC hy] at I3
   exact ⟨.non,H1,I3,rfl,k⟩
abbrev jA (K:PySem.W.Frag) (C:Addr) (f:Str):Bool:=pI K C && (PySem.W.clsIn K C).any (·.hasDict) && PySem.W.findIn K (.ref C) f==some none
def GZ (K:PySem.W.Frag) (ta tv:TE) (f:Str):TS:=fun D σ H=>tv σ H fun v H1=>ta σ H1 fun y H2=>aW fun a C=>y=.ref a∧H2 a=some (f6 a C none)∧gB K C f=true∧∀dx H',H2 dx=none→dx≠a→H'=aD (aD H2 dx (.xd [(f,v)])) a (f6 a C (some dx))→D.nx σ H'
theorem DP {o value:Expr}{ta tv:TE}{f:Str}{pos':Pos} (ha:PE X o ta) (hv:PE X value tv) (hs:swapsWith value (some (.Attribute o f pos')) pos.line X.env=pure false):PS X (.Assign [.Attribute o f pos'] value pos) (GZ X.K ta tv f):=by
 intro pins s σ H D I h
 refine plainObj_wpAny_Assign_Attribute (aK (hv pins s σ H _ I h) fun u s1 ⟨v,H1,I1,ry,q⟩=>aK (ha pins s1 σ H1 _ I1 q) fun ov s2 ⟨y,H2,I2,rx,a,C,ex,ea,g,q2⟩=>?_) hs
 subst ex
 obtain rfl:ov=Value.ref a:=rx
 obtain ⟨ox,a0,J,hf⟩:=xt (rN I2.hok ea)
 refine HY I2.kIn J hf g fun h' tk n1 e1 kp=>?_
 have nd:s2.heap.get? s2.heap.objs.size=none:=Heap.get?_none_of_le (Nat.le_refl _)
 have na:s2.heap.objs.size≠a:=Nat.ne_of_gt (Heap.lt_size J.at_)
 have fr:H2 s2.heap.objs.size=none:=I2.hok.fresh (Nat.le_refl _)
 have ne:uT a C (some s2.heap.objs.size) h':=⟨a0,ox.slots,by rw [e1,J.cls,hf]⟩
 obtain ⟨od,es,ep,h1,h2⟩:=id n1
 have h3:(s2.heap.push od).get? s2.heap.objs.size=some od:=Heap.get?_push_size _ (Heap.get?_some_iff.mp h1).2
 have I3:ac X pins σ (aD H2 s2.heap.objs.size (.xd [(f,v)])) { s2 with heap:=s2.heap.push od,toks:=tk }:=I2.laid (fun b o z=>Heap.get?_push_of_some _ z) (Nat.le_refl _) (show aV X.prog X.w _ _ _ (.xd [(f,v)]) from ⟨_,n1.at fun o z=>by rw [h1] at z;cases z;exact h3,fun y=>by
  by_cases c:y=f
  ·subst c
   rw [if_pos rfl]
   simp only [List.lookup,beq_self_eq_true]
   exact ry
  ·rw [if_neg c]
   have:(y==f)=false:=beq_eq_false_iff_ne.mpr c
   simp only [List.lookup,this]
   exact trivial⟩)
 have ea3:aD H2 s2.heap.objs.size (.xd [(f,v)]) a=some (f6 a C none):=by rw [aj (Ne.symm na)];exact ea
 have I4:=I3.exc (t':=tk) (h':=h') ea3 (fun b o nb z=>by
  by_cases c:b=s2.heap.objs.size
  ·subst c
   rw [h3] at z
   cases z
   exact h1
  ·rw [Heap.get?_push_ne _ _ _ c] at z
   exact kp b o nb z) ne
 exact ⟨σ,_,I4,q2 _ _ fr na rfl⟩
theorem eZ (hg:Gl X x) (hm:X.mg x=some (.ref C)) (hdb:(x==("__debug__" : Str))=false:=by decide):PE X (.Name x p) (tC (.ref C)):=fun pins s σ H Q I h=>lD I hg hm ⟨.ref C,H,I,rfl,h⟩ hdb
def Ct:V→Option Value
 | .ref a=>some (.ref a)
 | .ty T=>some (.type T)
 | _=>none
def Jo (H:Hp) (a C:Addr) (fs:List (Str×V)):Prop:=(fs=[]∧H a=some (f6 a C none))∨∃dx,H a=some (f6 a C (some dx))∧H dx=some (.xd fs)
end
end L2
namespace L2
open PySem PySem.Spec PyProof.Rows
theorem qV:bootBuiltins "ValueError" = some (.type "ValueError"):=by decide +kernel
def rM:Stmt→Nat→Stmt
 | .ClassDef _ _ _ body _ _ _ _ _ _ _,j=>body.getD j (.Pass ⟨0,0,0,0⟩)
 | _,_=>.Pass ⟨0,0,0,0⟩
def rL (K:PySem.W.Frag) (cs:List Addr) (g:Addr):Bool:=decide cs.Nodup && cs.all fun c=>pp K c && (PySem.W.kitOne K (.ref c) (.ref g)==some true && (PySem.W.kitOne K (.ref c) (.type "ValueError")==some true && cs.all fun d=>PySem.W.kitOne K (.ref c) (.ref d)==some (decide (c=d))))
theorem Bl {K:PySem.W.Frag}{cs:List Addr}{g:Addr} (h:rL K cs g=true):cs.Nodup:=of_decide_eq_true (Bool.and_eq_true _ _▸h).1
theorem xl {K:PySem.W.Frag}{cs:List Addr}{g c:Addr} (h:rL K cs g=true) (hc:c∈cs):pp K c=true∧PySem.W.kitOne K (.ref c) (.ref g)=some true∧PySem.W.kitOne K (.ref c) (.type "ValueError")=some true∧∀d∈cs,PySem.W.kitOne K (.ref c) (.ref d)=some (decide (c=d)):=by
 unfold rL at h
 rw [Bool.and_eq_true,List.all_eq_true] at h
 have z:=h.2 c hc
 obtain ⟨z1,z⟩:=Bool.and_eq_true_iff.mp z
 obtain ⟨z2,z⟩:=Bool.and_eq_true_iff.mp z
 obtain ⟨z3,z⟩:=Bool.and_eq_true_iff.mp z
 exact ⟨z1,beq_iff_eq.mp z2,beq_iff_eq.mp z3,fun d hd=>beq_iff_eq.mp (List.all_eq_true.mp z d hd)⟩
section
variable {X:Cx}
end
end L2
namespace L2
open PySem PySem.Spec PyProof.Rows
def oC (h:Heap) (a T:Addr) (C:Value) (dx:Option Addr) (fl:Value):Prop:=
 kQ fun vs sl oT ts=>h.get? a=some ⟨C,dx,.fields vs,sl⟩∧vs[1]?=some (.ref T)∧T≠a∧h.get? T=some oT∧oT.data=.fields ts∧ts[3]?=some fl
def Kp (h h':Heap) (bad fs:List Addr):Prop:=∀b o,b∉bad→h.get? b=some o→(∃sl,h'.get? b=some { o with slots:=sl })∧(b∉fs→h'.get? b=some o)
def F7 (head:Value) (L:Addr) (pl:List Value):Obj:={ cls:=.type "traceback",dict:=none,data:=.fields ([head,.ref L,.none,rawInt L,.none]++(if pl.isEmpty then List.replicate 6 Value.none else pl)).toArray }
section
variable {M:Model}{A:Around}{E:Value→Shared→Prop}{s:Shared}{base:Heap}{env:Env}{outer:List Env}{L a T:Addr}{C head:Value}{dx:Option Addr}{vs:Array Value}{sl:Array (Option Value)}{hn:Bool}{Q:Unit→Shared→Prop}
theorem vL (hfr:A.frames=some (env :: outer)) (hl:s.heap.FunFrames base (env :: outer)) (hf:env.frame=some L) (he:s.heap.get? a=some ⟨C,dx,.fields vs,sl⟩) (hz:1<vs.size)
 (h:∀h' T,oC h' a T C dx (rawInt L)→T=s.heap.objs.size→Kp s.heap h' [a] (gI (env :: outer))→Q () { s with heap:=h' }) :
 wpAny M A (do let f ←frameOf env;let pl ←entryPlaceOf L hn;let b ←EntryCells.newEntry head f .none (rawInt L) .none pl;setField (.ref a) 1 b) Q E s:=by
 have na:a∉gI (env :: outer):=fun z=>by
  obtain ⟨_,o,ho,q⟩:=hl.mem z
  rw [he] at ho
  cases ho
  exact q vs rfl
 refine wpAny_bind (wpAny_frameOf_fun hfr hl hf fun h1 s1=>wpAny_bind (wpAny_entryPlaceOf fun pl hp=>?_))
 have e1:h1.get? a=some ⟨C,dx,.fields vs,sl⟩:=(s1.2.1 a na).trans he
 unfold EntryCells.newEntry newFields
 refine wpAny_bind (wpAny_newObj_type ?_ (hp.sizeOk5 _ _ _ _ _))
 show wpAny M A (setField (.ref a) 1 (.ref h1.objs.size)) Q E { s with heap:=h1.push (F7 head L pl) }
 have e2:=Heap.get?_push_of_some (h:=h1) (F7 head L pl) e1
 have nT:h1.objs.size≠a:=Nat.ne_of_gt (Heap.lt_size e1)
 refine wpAny_setField e2 rfl hz (h _ h1.objs.size ⟨vs.setIfInBounds 1 (.ref h1.objs.size),sl,F7 head L pl,_,?_,?_,nT,?_,rfl,?_⟩ s1.1 fun b o nb hb=>?_)
 ·exact Heap.get?_update_self _ e2 rfl
 ·simp [hz]
 ·rw [Heap.get?_update_other _ _ (Ne.symm nT)]
  exact Heap.get?_push_size h1 rfl
 ·rw [List.getElem?_toArray,List.getElem?_append_left (by show 3<5;decide)]
  rfl
 ·have nb':a≠b:=fun z=>nb (by simp [z])
  obtain ⟨sl',q⟩:=s1.2.2 b o hb
  refine ⟨⟨sl',?_⟩,fun nf=>?_⟩
  ·rw [Heap.get?_update_other _ _ nb']
   exact Heap.get?_push_of_some _ q
  ·rw [Heap.get?_update_other _ _ nb']
   exact Heap.get?_push_of_some _ ((s1.2.1 b nf).trans hb)
theorem y3 (hfr:A.frames=some (env :: outer)) (hl:s.heap.FunFrames base (env :: outer)) (hf:env.frame=some L) (he:s.heap.get? a=some ⟨C,dx,.fields vs,sl⟩) (h1:vs[1]?=some .none)
 (h:∀h' T,oC h' a T C dx (rawInt L)→T=s.heap.objs.size→Kp s.heap h' [a] (gI (env :: outer))→Q () { s with heap:=h' }):wpAny M A (noteFrame (.ref a) env) Q E s:=by
 unfold noteFrame
 simp only [hf]
 refine wpAny_bind (wpAny_field he rfl h1 ?_)
 rw [if_neg (by decide)]
 exact vL hfr hl hf he (Array.getElem?_eq_some_iff.mp h1).1 h
theorem vM (hfr:A.frames=some (env :: outer)) (hl:s.heap.FunFrames base (env :: outer)) (hf:env.frame=some L) (ht:oC s.heap a T C dx .none)
 (h:∀h' T',oC h' a T' C dx (rawInt L)→T'=s.heap.objs.size→Kp s.heap h' [a,T] (gI (env :: outer))→Q () { s with heap:=h' }):wpAny M A (noteFrame (.ref a) env) Q E s:=by
 obtain ⟨vs,sl,oT,ts,he,h1,ne,hT,hd,h3⟩:=ht
 unfold noteFrame
 simp only [hf]
 refine wpAny_bind (wpAny_field he rfl h1 ?_)
 rw [if_pos (show (Value.ref T != Value.none)=true by simp)]
 refine wpAny_bind (wpAny_field hT hd h3 ?_)
 rw [if_neg (show ¬((Value.none==rawInt L)=true) by simp [rawInt])]
 refine wpAny_bind (wpAny_setField hT hd (Array.getElem?_eq_some_iff.mp h3).1 ?_)
 have ot:∀b,b≠T→(s.heap.update T (Obj.mapFields (·.setIfInBounds 3 Value.none))).get? b=s.heap.get? b:=fun b nb=>Heap.get?_update_other _ _ (Ne.symm nb)
 have nr:∀b o,s.heap.get? b=some o→(∀vs,o.data≠.fields vs)→b≠T:=fun b o hb q z=>by
  rw [z,hT] at hb
  cases hb
  exact q ts hd
 refine vL hfr (hl.of_keeps fun b o hb q=>⟨o,(ot b (nr b o hb q)).trans hb,rfl⟩) hf ((ot a (Ne.symm ne)).trans he) (Array.getElem?_eq_some_iff.mp h1).1 fun h' T' t z k=>h h' T' t (z.trans (Heap.size_after_update ..)) fun b o nb hb=>?_
 have n1:b∉[a]:=fun z=>nb (by simp [List.mem_singleton.mp z])
 have n2:b≠T:=fun z=>nb (by simp [z])
 exact k b o n1 ((ot b n2).trans hb)
theorem rH {fl:Value} (ht:oC s.heap a T C dx fl) (h:∀h',oC h' a T C dx .none→Kp s.heap h' [T] []→Q () { s with heap:=h' }):wpAny M A (setFlight (.ref a) none) Q E s:=by
 obtain ⟨vs,sl,oT,ts,he,h1,ne,hT,hd,h3⟩:=ht
 unfold setFlight
 refine wpAny_bind (wpAny_field he rfl h1 ?_)
 rw [if_pos (show (Value.ref T != Value.none)=true by simp)]
 have z3:=(Array.getElem?_eq_some_iff.mp h3).1
 have dT:=Obj.data_mapFields hd (·.setIfInBounds 3 Value.none)
 refine wpAny_setField hT hd z3 (h _ ⟨vs,sl,_,_,?_,h1,ne,Heap.get?_update_self _ hT (Obj.isFreed_of_fields dT),dT,by simp [z3]⟩ fun b o nb hb=>?_)
 ·exact (Heap.get?_update_other _ _ ne).trans he
 ·have nb':T≠b:=fun z=>nb (by simp [z])
  have q:=(Heap.get?_update_other s.heap (Obj.mapFields (·.setIfInBounds 3 ((none:Option Addr).elim Value.none fun f=>rawInt f))) nb').trans hb
  exact ⟨⟨o.slots,q⟩,fun _=>q⟩
theorem Kp.trans0 {h h1 h2:Heap}{bad fs:List Addr}{T:Addr} (k:Kp h h1 bad fs) (k2:Kp h1 h2 [T] []) (n:h.objs.size≤T):Kp h h2 bad fs:=fun b o nb hb=>by
 have nT:b∉[T]:=fun z=>by
  have q:=Heap.lt_size hb
  rw [List.mem_singleton.mp z] at q
  exact absurd q (Nat.not_lt.mpr n)
 obtain ⟨⟨sl,q1⟩,q2⟩:=k b o nb hb
 exact ⟨⟨sl,(k2 b _ nT q1).2 (by simp)⟩,fun nf=>(k2 b _ nT (q2 nf)).2 (by simp)⟩
theorem yi (hfr:A.frames=some (env :: outer)) (hl:s.heap.FunFrames base (env :: outer)) (hf:env.frame=some L) (he:s.heap.get? a=some ⟨C,dx,.fields vs,sl⟩) (h1:vs[1]?=some .none)
 (h:∀h' T,oC h' a T C dx .none→T=s.heap.objs.size→Kp s.heap h' [a] (gI (env :: outer))→Q () { s with heap:=h' }):wpAny M A (leaving env (.ref a)) Q E s:=by
 unfold leaving
 exact wpAny_bind (y3 hfr hl hf he h1 fun h' T t z k=>rH t fun h2 t2 k2=>h h2 T t2 z (k.trans0 k2 (Nat.le_of_eq z.symm)))
theorem zu (hfr:A.frames=some (env :: outer)) (hl:s.heap.FunFrames base (env :: outer)) (hf:env.frame=some L) (ht:oC s.heap a T C dx .none)
 (h:∀h' T',oC h' a T' C dx .none→T'=s.heap.objs.size→Kp s.heap h' [a,T] (gI (env :: outer))→Q () { s with heap:=h' }):wpAny M A (leaving env (.ref a)) Q E s:=by
 unfold leaving
 exact wpAny_bind (vM hfr hl hf ht fun h' T t z k=>rH t fun h2 t2 k2=>h h2 T t2 z (k.trans0 k2 (Nat.le_of_eq z.symm)))
end
end L2
namespace L2
open PySem PySem.Spec PyProof.Rows
def jd (x C:Addr) (dx:Option Addr):HO:=.ext fun h=>aW fun vs sl=>h.get? x=some ⟨.ref C,dx,.fields vs,sl⟩
theorem Eu {P:Program}{w:World}{H:Hp}{h:Heap}{x C:Addr}{dx:Option Addr} (e:aW fun vs sl=>h.get? x=some ⟨.ref C,dx,.fields vs,sl⟩):aV P w H h x (jd x C dx):=
 ⟨e,let ⟨_,_,q⟩:=e;⟨_,q⟩,fun h1 h2 ⟨vs,sl,q⟩ k=>⟨vs,sl,k _ q⟩⟩
theorem tL {P:Program}{w:World}{H:Hp}{h:Heap}{x C:Addr}{dx:Option Addr} (ok:dL P w H h) (e:H x=some (jd x C dx)):aW fun vs sl=>h.get? x=some ⟨.ref C,dx,.fields vs,sl⟩:=(ok x _ e).1
theorem Ds {fs ch:List Addr}{H:Hp}{h h':Heap}{a:Addr}{φ:Heap→Prop}{o:HO} (ea:H a=some (.ext φ)) (k:Kp h h' (a :: ch) fs) (th:∃u,h'.get? a=some u):Un fs ch H (aD H a o) h h':=by
 have ne:∀{b:Addr},H b=none→b≠a:=fun q z=>by rw [z,ea] at q;cases q
 have nc:∀{b:Addr},b≠a→b∉ch→b∉a :: ch:=fun n1 n2 z=>(List.mem_cons.mp z).elim n1 n2
 refine ⟨fun b u q n f x=>(k b u (nc (ne n) x) q).2 f,fun b u q n _ x=>(k b u (nc (ne n) x) q).1,fun b u q n _=>by rw [aj (ne n)];exact n,fun b u q x=>?_,fun b xs q=>?_,fun b u xs q=>?_,fun b ps q=>⟨#[],?_⟩⟩
 ·by_cases e:b=a
  ·rw [e];exact th
  ·obtain ⟨⟨sl,z⟩,_⟩:=k b u (nc e x) q
   exact ⟨_,z⟩
 ·rw [aj (fun z=>by rw [z,ea] at q;cases q)];exact q
 ·rw [aj (fun z=>by rw [z,ea] at q;cases q)];exact q
 ·rw [aj (fun z=>by rw [z,ea] at q;cases q),q];simp
theorem BR {P:Program}{w:World}{fs ch:List Addr}{H:Hp}{h h':Heap}{a:Addr}{φ:Heap→Prop}{o:HO} (ok:dL P w H h) (ea:H a=some (.ext φ)) (k:Kp h h' (a :: ch) fs) (ff:∀b∈fs,H b=none) (fc:∀b∈ch,H b=none)
 (nw:aV P w (aD H a o) h' a o):dL P w (aD H a o) h':=fun b u e=>by
 by_cases hb:b=a
 ·subst hb
  rw [ar] at e
  cases e
  exact nw
 ·rw [aj hb] at e
  refine (ok b u e).stay (fun c v cd q=>?_) (fun c q=>?_) fun c xs q=>?_
  ·have hc:H c≠none∧c≠a:=by
    rcases cd with rfl | cd
    ·exact ⟨by rw [e];simp,hb⟩
    ·exact ⟨by rw [cd];simp,fun z=>by rw [z,ea] at cd;cases cd⟩
   exact (k c v (fun z=>(List.mem_cons.mp z).elim hc.2 fun z=>hc.1 (fc c z)) q).2 fun z=>hc.1 (ff c z)
  ·rw [aj (fun z=>by rw [z,ea] at q;cases q)];exact q
  ·rw [aj (fun z=>by rw [z,ea] at q;cases q)];exact q
section
variable {X:Cx}{pins:List (Addr×Obj)}{σ:St}{H:Hp}{s:Shared}{h':Heap}{a T C:Addr}{dx:Option Addr}{φ:Heap→Prop}{ch:List Addr}{fl:Value}
theorem oC.there (t:oC h' a T (.ref C) dx fl):aW fun vs sl=>h'.get? a=some ⟨.ref C,dx,.fields vs,sl⟩:=let ⟨vs,sl,_,_,e,_⟩:=t;⟨vs,sl,e⟩
theorem ac.noted (I:ac X pins σ H s) (ea:H a=some (.ext φ)) (k:Kp s.heap h' (a :: ch) (gI X.stack)) (t:aW fun vs sl=>h'.get? a=some ⟨.ref C,dx,.fields vs,sl⟩) (fc:∀b∈ch,H b=none)
 (hch:∀b∈ch,(b∈X.ex∨X.s₀.heap.objs.size≤b)∧b≠X.env.locals∧(∀x c,X.env.cells.lookup x=some c→c≠b)∧∀p∈X.pn++pins,p.1≠b):ac X pins σ (aD H a (jd a C dx)) { s with heap:=h' }:=
 I.call' (ch:=ch) rfl (Ds ea k (let ⟨_,_,e⟩:=t;⟨_,e⟩)) (BR I.hok ea k I.stkFree fc (Eu t)) I.bare hch
theorem ac.far (I:ac X pins σ H s) (n:s.heap.objs.size≤T):(T∈X.ex∨X.s₀.heap.objs.size≤T)∧T≠X.env.locals∧(∀x c,X.env.cells.lookup x=some c→c≠T)∧∀p∈X.pn++pins,p.1≠T:=by
 have lt:∀{b:Addr}{u:Obj},s.heap.get? b=some u→b≠T:=fun q z=>by
  have q':=Heap.lt_size q
  rw [z] at q'
  exact absurd q' (Nat.not_lt.mpr n)
 refine ⟨.inr (Nat.le_trans I.sz n),?_,fun x c e=>?_,fun p hp=>lt (I.pin p hp).1⟩
 ·obtain ⟨m,⟨o,es,ep,ho,_⟩,_⟩:=I.loc
  exact Ne.symm (lt ho)
 ·obtain ⟨v,q⟩:=I.cell x c e
  obtain ⟨o,ho,_⟩:=q
  exact lt ho
end
def p8 (P:Program) (w:World):ke:=fun outer H s E e s'=>yC fun a T C dx H'=>e=.ref a∧s'.os=s.os∧AllBare s'.gens∧Un (gI outer) [] H H' s.heap s'.heap∧dL P w H' s'.heap∧oC s'.heap a T (.ref C) dx .none∧s.heap.objs.size≤T∧H' T=none∧H' a=some (jd a C dx)∧E (.ref C) dx H'
def AT (X:Cx) (E:XK):Prop:=∀pins σ H s a C dx,ac X pins σ H s→H a=some (f6 a C dx)→E (.ref C) dx (aD H a (jd a C dx))→X.xe (.ref a) s
section
variable {P:Program}{w:World}{K:PySem.W.Frag}{mg:Str→Option Value}{base:Heap}{N:List Str}{qual:Str}{scope:Scope}{f:Addr}{cd:Value}{A:Around}{outer:List Env}{s:Shared}{H:Hp}{E:XK}
theorem CK:re (p8 P w) (oV (p8 P w) P w K mg base N qual scope f cd A outer s H E) E:=by
 intro pins σ H1 s1 e s2 I h
 obtain ⟨a,T,C,dx,H',rfl,os,bare,un,hok,t,n,hT,ha,hE⟩:=h
 have J:=I.call' (ch:=[]) os un hok bare (fun b z=>by cases z)
 have far:=I.far n
 refine zu (L:=s.heap.objs.size) J.ok.frames J.stack rfl t fun h' T' t' z k=>?_
 have J2:=J.noted ha (ch:=[T]) k t'.there (fun b hb=>by rw [List.mem_singleton.mp hb];exact hT) (fun b hb=>by rw [List.mem_singleton.mp hb];exact far)
 rw [mC ha] at J2
 exact ⟨a,T',C,dx,H',rfl,J2.os,J2.bare,J2.base,J2.hok,t',by rw [z];exact J.sz,J.hok.fresh (by rw [z];exact Nat.le_refl _),ha,hE⟩
theorem Ev:AT (oV (p8 P w) P w K mg base N qual scope f cd A outer s H E) E:=by
 intro pins σ H1 s1 a C dx J ha hE
 obtain ⟨a0,sl,ea⟩:=rN J.hok ha
 refine yi (L:=s.heap.objs.size) J.ok.frames J.stack rfl ea rfl fun h' T' t' z k=>?_
 have J2:=J.noted ha (ch:=[]) k t'.there (fun b hb=>by cases hb) (fun b hb=>by cases hb)
 have nT:H1 T'=none:=J.hok.fresh (by rw [z];exact Nat.le_refl _)
 exact ⟨a,T',C,dx,_,rfl,J2.os,J2.bare,J2.base,J2.hok,t',by rw [z];exact J.sz,by rw [aj (fun q=>by rw [q,ha] at nT;cases nT)];exact nT,ar,hE⟩
end
end L2
namespace L2
open PySem PySem.Spec PyProof.Rows
section
variable {M:Model}{A:Around}{E:Value→Shared→Prop}{s:Shared}{env:Env}
theorem A8 {x:Sem Value}{Q:Flow→Shared→Prop} (hh:A.handled=none)
 (h:wpAny M A x (fun v s1=>∃e a0 dx sl nm q C N bs bm hd sn sb ab cl dd k0 k1 k2 k3 k5 nw,v=.ref e∧bm.contains (.type "BaseException")=true∧s1.heap.get? C=some (excClassObj nm q C N bs bm hd sn sb ab cl dd k0 k1 k2 k3 k5 nw)∧
  s1.heap.get? e=some ⟨.ref C,dx,.fields #[a0,.none,.none,.none,.bool false,.none],sl⟩∧E (.ref e) s1) E s):wpAny M A (raiseStmt env (some x) none) Q E s:=by
 unfold raiseStmt
 refine wpAny_bind (wpAny_mono h (fun v s1 h1=>?_) fun _ _ x=>x)
 obtain ⟨e,a0,dx,sl,nm,q,C,N,bs,bm,hd,sn,sb,ab,cl,dd,k0,k1,k2,k3,k5,nw,rfl,hb,hC,he,hE⟩:=h1
 have hcB:(Value.ref C :: bm).contains (.type "BaseException")=true:=by rw [List.contains_cons,hb,Bool.or_true]
 obtain ⟨hp,g,d,tk,os⟩:=s1
 repeat
  first
   | (with_reducible refine wpAny_isSubtype_exc hC ?_
      rw [hcB])
   | (with_reducible refine wpAny_loadPart_at hC ?_)
   | (with_reducible refine wpAny_loadPart_at he ?_)
   | wp_step
 exact wpAny_raiseNew_none hh hE
end
section
variable {X:Cx}{e:Expr}{te:TE}{pos:Pos}{E:XK}
def F6 (K:PySem.W.Frag) (E:XK) (te:TE):TS:=fun D σ H=>te σ H fun v H'=>kQ fun a C dx ini=>v=.ref a∧H' a=some (f6 a C dx)∧bO K C ini=true∧E (.ref C) dx (aD H' a (jd a C dx))
theorem Be (hc:X.calm=true) (hx:AT X E) (he:PE X e te):PS X (.Raise (some e) none pos) (F6 X.K E te):=by
 intro pins s σ H D I h
 rw [arm_exec_Raise]
 refine wpAny_bind (wpAny_standAt ?_)
 show wpAny _ _ (raiseStmt X.env (some (do let v ←eval e X.env;standAt pos;pure v)) none) _ _ _
 refine A8 (I.ok.hd hc) (wpAny_bind (aK (he pins s σ H _ I h) fun u s1 ⟨v,H1,I1,r,a,C,dx,ini,ev,ha,q,hE⟩=>wpAny_bind (wpAny_standAt (wpAny_pure ?_))))
 subst ev
 obtain rfl:u=Value.ref a:=r
 obtain ⟨nm,qn,N,bs,bm,hd,sn,sb,ab,cl,dd,k0,k1,k2,k3,k5,mN,eC,eN,T,_⟩:=yW I1.kIn q
 obtain ⟨a0,sl,ea⟩:=rN I1.hok ha
 exact ⟨a,a0,dx,sl,nm,qn,C,N,bs,bm,hd,sn,sb,ab,cl,dd,k0,k1,k2,k3,k5,_,rfl,T.hasType (by decide),eC,ea,hx pins σ H1 s1 a C dx I1 ha hE⟩
theorem PS.nox {st:Stmt}{t:TS} (h:PS X.nox st t):PS X st t:=fun pins s σ H D I hw=>wpAny_mono (h pins s σ H D (I.wish _) hw) (fun _ _ q=>q.unwish) fun _ _ z=>False.elim z
theorem lG.okX {P:Program}{w:World}{K:PySem.W.Frag}{mg:Str→Option Value}{base:Heap}{x qual:Str}{st:Stmt}{f:Addr}{fd:FuncData}{N ps:List Str}{k:Nat}{sp:Sp} (F:lG K x qual st f fd) (S:aL N ps (av st)) (len:∀vs H Q E,sp vs H Q E→vs.length=ps.length)
 (hbody:∀(cdv:Value) (A:Around) (outer:List Env) (s:Shared) (H:Hp) (vs:List V) (Q:VK) (E:XK),cN k (A.deeper (envOfC qual (av st) s.heap.objs.size f cdv))→sp vs H Q E→
  ∃t,kU (oV (p8 P w) P w K mg base N qual (av st) f cdv A outer s H E) (oS st) t∧t { nx:=fun _ H'=>Q .non H',rt:=Q } (start N vs) H):aZ P w K mg base (p8 P w) (k+1) f fd ps sp:=by
 obtain ⟨oc,od,kV,doc,pm,an,cdv,ct,osl,rfl,lk,hcd⟩:=F.ex
 exact CJ lk hcd S len fun A outer s H vs Q E hr hsp=>hbody cdv A outer s H vs Q E hr hsp
end
section
variable {X:Cx}{pins:List (Addr×Obj)}{σ σ':St}{H:Hp}{s:Shared}{h':Heap}
theorem ac.locs {m':Str→Option Value}{t':Nat} (I:ac X pins σ H s) (hs:Heap.SameBut X.env.locals s.heap h') (hn:h'.Ns X.env.locals m') (hl:∀(i:Nat) (x:Str) (v:V),X.N[i]?=some x→σ'[i]?=some (some v)→Ay X.env.scope x→∃u,aQ v u∧GC X.env h' m' x u) (ln:σ'.length=X.N.length) :
 ac X pins σ' H { s with heap:=h',toks:=t' }:=by
 have ne:∀{b:Addr}{o:Obj},X.s₀.heap.get? b=some o→b≠X.env.locals:=fun e=>Nat.ne_of_lt (Nat.lt_of_lt_of_le (Heap.lt_size e) I.ok.above)
 refine ⟨I.ok,I.os,I.bare,⟨fun b o e n hb hx=>(hs.2 b (ne e)).trans (I.base.keep b o e n hb hx),fun b o e n hb hx=>?_,I.base.free,fun b o e hx=>?_,I.base.tups,I.base.frzs,I.base.tbls⟩,⟨m',hn,hl⟩,fun y c e=>?_,I.free,I.freeC,fun p hp=>?_,fun b ob e=>?_,ln⟩
 ·obtain ⟨sl,q⟩:=I.base.slot b o e n hb hx
  exact ⟨sl,(hs.2 b (ne e)).trans q⟩
 ·obtain ⟨o',q⟩:=I.base.there b o e hx
  exact ⟨o',(hs.2 b (ne e)).trans q⟩
 ·obtain ⟨w',z⟩:=I.cell y c e
  exact ⟨w',z.sameBut hs (I.cne y c e)⟩
 ·obtain ⟨e,n,ne,nf,d⟩:=I.pin p hp
  exact ⟨(hs.2 p.1 ne).trans e,n,ne,nf,d⟩
 ·refine (I.hok b ob e).stay (fun c w' hc q=>(hs.2 c fun z=>?_).trans q) (fun _ q=>q) fun _ _ q=>q
  subst z
  have hf:=I.free
  rcases hc with rfl | hc
  ·rw [hf] at e;cases e
  ·rw [hf] at hc;cases hc
theorem rJ {M:Model}{A:Around}{E:Value→Shared→Prop}{i:Nat}{x:Str}{pos:Pos}{Q:Unit→Shared→Prop} (I:ac X pins σ H s) (hN:X.N.Nodup) (hi:X.N[i]?=some x) (hk:X.env.scope.names.lookup x=some .local)
 (h:∀s',ac X pins (σ.set i none) H s'→Q () s'):wpAny M A (do bindName X.env x .none;unbindBehindTheSuite X.env x pos) Q E s:=by
 have iσ:i<σ.length:=by rw [I.len];exact (List.getElem?_eq_some_iff.mp hi).1
 refine wpAny_bind (wpAny_bindName (jP (v:=.non) (u:=.none) I hN hi (.inl hk) rfl (fun s1 I1=>?_) (.inr hk)))
 obtain ⟨m,hn,hl⟩:=id I1.loc
 have kl:X.env.kindOf x=some .local:=hk
 have hc:(X.env.scope.kind==.class || (X.env.scope.kind==.module && X.env.locals != X.env.globals))=false:=by rw [I.ok.kind];rfl
 have mx:∃u,m x=some u:=by
  obtain ⟨u,_,q⟩:=hl i x .non hi (by rw [List.getElem?_set_self iσ]) (.inl hk)
  rcases q with ⟨_,e⟩ | ⟨k,_⟩
  ·exact ⟨u,e⟩
  ·rw [kl] at k
   rcases k with k | k <;> cases k
 unfold unbindBehindTheSuite
 refine wpAny_onRaise ?_
 unfold unbindName
 refine wpAny_bind (wpAny_point (wpAny_bind ?_))
 unfold deleteName
 simp only [kl,hc]
 rw [if_neg (by decide)]
 obtain ⟨u,mx⟩:=mx
 refine wpAny_bind (wpAny_nsDel_keeps hn fun h2 v2 n2 s2=>?_)
 simp only [mx,if_true,Option.isSome_some,Bool.not_true,Bool.false_eq_true,if_false]
 refine wpAny_pure (wpAny_point (h _ (I1.locs s2 n2 (fun j y v e1 e2 e3=>?_) (by simpa using I.len))))
 have hj:j≠i:=fun z=>by
  rw [z,List.getElem?_set_self iσ] at e2
  cases e2
 rw [List.getElem?_set_ne (Ne.symm hj)] at e2
 obtain ⟨u',r',q⟩:=hl j y v e1 (by rw [List.getElem?_set_ne (Ne.symm hj)];exact e2) e3
 refine ⟨u',r',?_⟩
 rcases q with ⟨k,e⟩ | ⟨k,c,e,z⟩
 ·refine .inl ⟨k,?_⟩
  have ny:y≠x:=fun e=>hj (tI hN e1 (e▸hi))
  simp [ny,e]
 ·exact .inr ⟨k,c,e,z.sameBut s2 (I1.cne y c e)⟩
end
end L2
namespace L2
open PySem PySem.Spec PyProof.Rows
def rG (CX:ke) (X:Cx) (EE:St→XK):Prop:=∀(pins:List (Addr×Obj)) (σ:St) (H:Hp) (s:Shared) (e:Value) (s':Shared),ac X pins σ H s→CX X.stack H s (EE σ) e s'→X.xe e s'
section
variable {X:Cx}{CX:ke}{k:Nat}{f:Addr}{fd:FuncData}{ps:List Str}{sp:Sp}{EE:St→XK}{x:Str}{p pos:Pos}{e:Expr}{es:List Expr}{t:TA}
def EN (sp:Sp) (EE:St→XK) (t:TA):TE:=fun σ H Q=>t σ H fun vs H1=>sp vs H1 Q (EE σ)
theorem xw (F:aZ X.prog X.w X.K X.mg X.base CX k f fd ps sp) (hr:cN k X.A) (hg:Gl X x) (hm:X.mg x=some (.ref f)) (hk:PySem.W.keepIn X.K (.ref f)=true) (hb:fY X.K fd ps []) (hx:rG CX X EE)
 (ha:PA X (e :: es) t) (hdb:(x==("__debug__" : Str))=false:=by decide) (he:starEach (e :: es) X.env=(false,eval e X.env) :: starEach es X.env:=by rfl) (hpl:(backTo pos (starEach es X.env)).any (·.1)=false:=by rfl) :
 PE X (.Call (.Name x p) (e :: es) [] pos) (EN sp EE t):=by
 intro pins s σ H Q I h
 refine wpAny_Call_Name_kw (lD I hg hm ?_ hdb)
 refine PySem.W.callWith_K (h₀:=X.base) I.ok.mod.kin hk (aK (ha pos pins s σ H _ I h) fun us s1 ⟨vs,H1,I1,r,q⟩=>⟨I1.kIn,?_⟩) he hpl
 have hl:us.length=ps.length:=by rw [←r.length];exact F.len _ _ _ _ q
 have hbb:=hb s1 us I1.kIn (by rw [List.append_nil];exact hl)
 rw [List.append_nil] at hbb
 refine wpAny_call (codeAny_mono (F.run X.A X.stack s1 H1 ⟨us,[]⟩ us vs Q (EE σ) hr I1.env0 hbb r q) fun rs s' hq=>?_)
 cases rs with
 | error z=>exact hx pins σ H1 s1 z s' I1 hq
 | ok fl=>
  cases fl with
  | ret u=>exact I1.after hq
  | next=>exact False.elim hq
  | brk=>exact False.elim hq
  | cont=>exact False.elim hq
end
abbrev Cx.tr (X:Cx) (pn:List (Addr×Obj)) (xe:Value→Shared→Prop):Cx:={ X with pn:=pn,xe:=xe }
abbrev Cx.hn (X:Cx) (A:Around):Cx:={ X with A:=A,calm:=false,xe:=fun _ _=>False }
section
variable {X:Cx}{pins pins' pn:List (Addr×Obj)}{σ:St}{H:Hp}{s:Shared}{xe:Value→Shared→Prop}
theorem Cx.Ok.tr (ok:X.Ok):(X.tr pn xe).Ok:=⟨ok.mod,ok.kind,ok.glob,ok.blt,ok.above,ok.inj,ok.has,ok.cab,ok.hd,ok.frames,ok.stk,ok.exf,ok.bs,ok.bsz,ok.noex,ok.exfs,ok.funs,ok.frf⟩
theorem Cx.Ok.untr (ok:(X.tr pn xe).Ok):X.Ok:=⟨ok.mod,ok.kind,ok.glob,ok.blt,ok.above,ok.inj,ok.has,ok.cab,ok.hd,ok.frames,ok.stk,ok.exf,ok.bs,ok.bsz,ok.noex,ok.exfs,ok.funs,ok.frf⟩
theorem ac.tr (I:ac X pins σ H s):ac (X.tr (X.pn++pins) xe) [] σ H s:=⟨I.ok.tr,I.os,I.bare,I.base,I.loc,I.cell,I.free,I.freeC,fun p hp=>I.pin p (by rw [List.append_nil] at hp;exact hp),I.hok,I.len⟩
theorem ac.untr (I:ac (X.tr (X.pn++pins) xe) pins' σ H s):ac X pins σ H s:=⟨I.ok.untr,I.os,I.bare,I.base,I.loc,I.cell,I.free,I.freeC,fun p hp=>I.pin p (List.mem_append_left _ hp),I.hok,I.len⟩
theorem Cx.Ok.hn {A:Around} (ok:X.Ok) (hA:A.frames=X.A.frames):(X.hn A).Ok:=⟨ok.mod,ok.kind,ok.glob,ok.blt,ok.above,ok.inj,ok.has,ok.cab,(fun z=>by cases z),hA.trans ok.frames,ok.stk,ok.exf,ok.bs,ok.bsz,ok.noex,ok.exfs,ok.funs,ok.frf⟩
theorem ac.hn {A:Around} (I:ac X pins σ H s) (hA:A.frames=X.A.frames):ac (X.hn A) pins σ H s:=⟨I.ok.hn hA,I.os,I.bare,I.base,I.loc,I.cell,I.free,I.freeC,I.pin,I.hok,I.len⟩
theorem ac.unhn {A:Around} (I:ac (X.hn A) pins σ H s) (ok:X.Ok):ac X pins σ H s:=⟨ok,I.os,I.bare,I.base,I.loc,I.cell,I.free,I.freeC,I.pin,I.hok,I.len⟩
end
theorem Kp.weak {h h':Heap}{bad bad' fs fs':List Addr} (k:Kp h h' bad fs) (hb:∀b∈bad,b∈bad') (hf:∀b∈fs,b∈fs'):Kp h h' bad' fs':=fun b o nb q=>
 ⟨(k b o (fun z=>nb (hb b z)) q).1,fun nf=>(k b o (fun z=>nb (hb b z)) q).2 fun z=>nf (hf b z)⟩
def zi (X:Cx) (EE:St→XK) (e:Value) (s:Shared):Prop:=∃pins σ H a T C dx,e=.ref a∧ac X pins σ H s∧oC s.heap a T (.ref C) dx .none∧H T=none∧((T∈X.ex∨X.s₀.heap.objs.size≤T)∧T≠X.env.locals∧(∀x c,X.env.cells.lookup x=some c→c≠T)∧∀p∈X.pn++pins,p.1≠T)∧
 H a=some (jd a C dx)∧EE σ (.ref C) dx H
theorem GY {X:Cx}{EE:St→XK}{Y:Cx} (h:X.xe=zi Y EE) (hY:∀{pins σ H s},ac X pins σ H s→ac Y pins σ H s):rG (p8 X.prog X.w) X EE:=by
 intro pins σ H s e s' I q
 obtain ⟨a,T,C,dx,H',rfl,os,bare,un,hok,t,n,hT,ha,hE⟩:=q
 have J:=I.call' (ch:=[]) os un hok bare (fun b z=>by cases z)
 rw [h]
 exact ⟨pins,σ,H',a,T,C,dx,rfl,hY J,t,hT,(hY I).far n,ha,hE⟩
def hD (i:Nat) (D:dn):dn:={ nx:=fun σ H=>D.nx (σ.set i none) H,rt:=D.rt,bk:=fun σ H=>D.bk (σ.set i none) H,ct:=fun σ H=>D.ct (σ.set i none) H }
def y9 (K:PySem.W.Frag) (Cc:Addr) (i:Nat) (th:TS) (D:dn):St→XK:=fun σ cv dx H=>∀a C,cv=.ref C→H a=some (jd a C dx)→PySem.W.exmOne K (.ref C) (.ref Cc)=some true∧th (hD i D) (σ.set i (some (.ref a))) H
def Jj (K:PySem.W.Frag) (Cc:Addr) (i:Nat) (tb:(St→XK)→TS) (th:TS):TS:=fun D σ H=>tb (y9 K Cc i th D) D σ H
section
variable {X:Cx}{body suite:List Stmt}{b0:Stmt}{x n:Str}{hpos pos np:Pos}{tb:(St→XK)→TS}{th:TS}{Cc:Addr}{i:Nat}
theorem Gu (hst:X.stack=X.env :: X.outer) (hfr:X.env.frame=some X.env.locals) (hN:X.N.Nodup) (hi:X.N[i]?=some n) (hk:X.env.scope.names.lookup n=some .local) (hg:Gl X x) (hm:X.mg x=some (.ref Cc))
 (hb:∀(EE:St→XK) (pn:List (Addr×Obj)) (xe:Value→Shared→Prop),rG (p8 X.prog X.w) (X.tr pn xe) EE→kU (X.tr pn xe) body (tb EE)) (hs:∀A:Around,kU (X.hn A) (b0 :: suite) th) (hdb:(x==("__debug__" : Str))=false:=by decide) :
 PS X (.Try body [.ExceptHandler (some (.Name x np)) (some n) (b0 :: suite) hpos] [] [] pos) (Jj X.K Cc i tb th):=by
 intro pins s σ H D I h
 refine wpAny_Try_except ?_
 have hx:rG (p8 X.prog X.w) (X.tr (X.pn++pins) (zi (X.tr (X.pn++pins) fun _ _=>False) (y9 X.K Cc i th D))) (y9 X.K Cc i th D):=GY (X:=X.tr (X.pn++pins) (zi (X.tr (X.pn++pins) fun _ _=>False) (y9 X.K Cc i th D))) rfl fun J=>J.wish _
 refine wpAny_mono (hb _ _ _ hx [] s σ H D I.tr h) (fun f s1 q=>?_) fun e s1 q=>?_
 ·cases f with
  | next=>obtain ⟨σ',H',J,q⟩:=q;exact wpAny_execs_nil ⟨σ',H',J.untr,q⟩
  | brk=>obtain ⟨σ',H',J,q⟩:=q;exact ⟨σ',H',J.untr,q⟩
  | cont=>obtain ⟨σ',H',J,q⟩:=q;exact ⟨σ',H',J.untr,q⟩
  | ret u=>obtain ⟨v,σ',H',J,r,q⟩:=q;exact ⟨v,σ',H',J.untr,r,q⟩
 ·obtain ⟨pins',σ',H',a,T,C,dx,rfl,J0,t,hT,far,ha,hE⟩:=q
  have J:ac X pins σ' H' s1:=J0.untr
  obtain ⟨hm',hth⟩:=hE a C rfl ha
  have st:∀{h2:Heap}{bad:List Addr},Kp s1.heap h2 bad (gI (X.env :: X.outer))→Kp s1.heap h2 bad (gI X.stack):=fun k=>by rw [hst];exact k
  refine vM (L:=X.env.locals) (J.ok.frames.trans (congrArg some hst)) (by have z:=J.stack;rw [hst] at z;exact z) hfr t fun h2 T2 t2 z2 k2=>?_
  have J2:=J.noted ha (ch:=[T]) (st k2) t2.there (fun b hb=>by rw [List.mem_singleton.mp hb];exact hT) (fun b hb=>by
   rw [List.mem_singleton.mp hb]
   exact ⟨far.1,far.2.1,far.2.2.1,fun p hp=>far.2.2.2 p (List.mem_append_left _ hp)⟩)
  rw [mC ha] at J2
  have n2:s1.heap.objs.size≤T2:=Nat.le_of_eq z2.symm
  have far0:=J.far n2
  have hT2:∀b∈[T2],H' b=none:=fun b hb=>by rw [List.mem_singleton.mp hb];exact J.hok.fresh n2
  have wk:∀{g g':Heap},Kp g g' [T2] []→Kp g g' [a,T2] (gI X.stack):=fun k=>k.weak (fun b hb=>List.mem_cons_of_mem _ hb) fun b hb=>by cases hb
  refine rH t2 fun h3 t3 k3=>?_
  have J3:=J2.noted ha (ch:=[T2]) (wk k3) t3.there hT2 (fun b hb=>by rw [List.mem_singleton.mp hb];exact far0)
  rw [mC ha] at J3
  refine wpAny_handleBy_cons (codeAny_handlers_test ?_) (by intro q;cases q)
  have J3h:=J3.hn (A:=X.A.mark (some (.ref a))) rfl
  refine lD J3h hg hm ?_ hdb
  obtain ⟨vs,sl,ea⟩:=t3.there
  have LT:PySem.W.Looks (model X.prog X.w) h3 (typeOf (.ref a)) (.ref C):=(PySem.W.Looks.ld ea).andThen .now
  refine (PySem.W.exm_one J3.kIn LT hm').here ?_
  refine codeAny_handlers_suite_as (rH t3 fun h5 t5 k5=>?_)
  have J5:=J3.noted ha (ch:=[T2]) (wk k5) t5.there hT2 (fun b hb=>by rw [List.mem_singleton.mp hb];exact far0)
  rw [mC ha] at J5
  refine jP J5 hN hi (.inl hk) (v:=.ref a) (u:=.ref a) rfl (fun s6 J6=>?_) (.inr hk)
  refine wpAny_mono (hs _ pins s6 _ H' _ (J6.hn (A:=X.A.mark (some (.ref a))) rfl) hth) (fun f s7 q=>?_) fun _ _ z=>z.elim
  cases f with
  | next=>obtain ⟨σ7,H7,J7,q⟩:=q;exact rJ (J7.unhn J.ok) hN hi hk fun s8 J8=>⟨_,_,J8,q⟩
  | brk=>obtain ⟨σ7,H7,J7,q⟩:=q;exact rJ (J7.unhn J.ok) hN hi hk fun s8 J8=>⟨_,_,J8,q⟩
  | cont=>obtain ⟨σ7,H7,J7,q⟩:=q;exact rJ (J7.unhn J.ok) hN hi hk fun s8 J8=>⟨_,_,J8,q⟩
  | ret u=>obtain ⟨v,σ7,H7,J7,r,q⟩:=q;exact rJ (J7.unhn J.ok) hN hi hk fun s8 J8=>⟨v,_,_,J8,r,q⟩
end
theorem HC {P:Program}{w:World}{X:Cx}:re (p8 P w) X E0:=fun _ _ _ _ _ _ _ h=>by
 obtain ⟨a,T,C,dx,H',_,_,_,_,_,_,_,_,_,hE⟩:=h
 exact hE.elim
section
variable {X:Cx}{C:Addr}{e:Expr}{pos:Pos}
def C2 (K:PySem.W.Frag) (ta:TE) (f:Str):TE:=fun σ H Q=>ta σ H fun y H1=>yC fun a C dx fs v=>y=.ref a∧H1 a=some (jd a C (some dx))∧H1 dx=some (.xd fs)∧fs.lookup f=some v∧jA K C f=true∧Q v H1
theorem Et {ta:TE}{f:Str} (he:PE X e ta) (hb:attributeBase e f X.env (eval e X.env)=eval e X.env):PE X (.Attribute e f pos) (C2 X.K ta f):=by
 intro pins s σ H Q I h
 refine EA hb (aK (he pins s σ H _ I h) fun u s1 ⟨y,H1,I1,rx,a,C,dx,fs,v,ex,ea,ed,el,g,q⟩=>?_)
 subst ex
 obtain rfl:u=Value.ref a:=rx
 obtain ⟨vs,sl,e1⟩:=tL I1.hok ea
 obtain ⟨mA,n1,rl⟩:=(show aV X.prog X.w H1 s1.heap dx (.xd fs) from I1.hok dx _ ed)
 obtain ⟨od,e2,lk⟩:=va n1
 have rv:=rl f
 rw [el] at rv
 cases em:mA f with
 | none=>rw [em] at rv;exact rv.elim
 | some uv=>
  rw [em] at rv
  unfold jA at g
  rw [Bool.and_eq_true,Bool.and_eq_true,beq_iff_eq] at g
  obtain ⟨⟨g1,g2⟩,g3⟩:=g
  obtain ⟨cd,hc,hd⟩:=PySem.W.any_some g2
  have J:PySem.W.InstAt s1.heap a ⟨.ref C,some dx,.fields vs,sl⟩ C (some od):=⟨e1,rfl,rfl,e2⟩
  have fo:PySem.W.findObj X.K C (some od) f=some (.value uv):=by
   unfold PySem.W.findObj
   rw [hc,Option.bind_some,g3,Option.bind_some]
   simp only [Option.bind_some]
   unfold PySem.W.ownOf
   rw [hd,if_pos rfl]
   dsimp only
   rw [lk f,em]
   rfl
  exact GD I1.kIn J g1 fo (AR rv) ⟨v,H1,I1.tok _,rv,q⟩
inductive HJ (K:PySem.W.Frag) (xs:List V) (H:Hp) (Q:VK):Prop
 | mk (a:_) (C:_) (dx:_) (c:_) (cv:_) (b:_) (h0:xs=[.ref a,c]) (h1:(H a=some (jd a C (some dx))∧∃fs,H dx=some (.xd fs))) (h2:Ct c=some cv) (h3:pp K C=true) (h4:PySem.W.kitOne K (.ref C) cv=some b) (h5:Q (.bl b) H)
def IZ (K:PySem.W.Frag):List V→Hp→VK→Prop:=fun xs H Q=>HJ K xs H Q
theorem qW {K:PySem.W.Frag} (ek:X.K=K:=by rfl):cn X (.builtin "isinstance") (IZ K):=by
 subst ek
 intro pins s σ H xs us Q I r h
 obtain ⟨a,C,dx,c,cv,b,rfl,⟨ha,fs,hd⟩,hcv,g,ho,q⟩:=h
 obtain ⟨u,uc,rfl,ru,rc⟩:=ut r
 cases ru
 have ec:uc=cv:=by
  cases c with
  | ref y=>cases hcv;exact rc
  | ty T=>cases hcv;exact rc
  | _=>cases hcv
 subst ec
 have J:aW fun ox od=>PySem.W.InstAt s.heap a ox C od:=by
  obtain ⟨vs,sl,e1⟩:=tL I.hok ha
  obtain ⟨od,e2⟩:=(I.hok dx _ hd).there
  exact ⟨_,some od,e1,rfl,rfl,e2⟩
 exact PySem.W.kia_one (xP g) I.kIn J ho (fun z=>nomatch z) fun tk=>⟨.bl b,H,I.tok tk,rfl,q⟩
end
end L2
namespace L2
open PySem PySem.Spec PyProof.Rows
theorem Bf:∀{cs:List V}{cvs us:List Value},cs.map Ct=cvs.map some→aC cs us→us=cvs:=by
 intro cs
 induction cs with
 | nil=>
  intro cvs us e r
  cases r
  cases cvs with
  | nil=>rfl
  | cons c l=>cases e
 | cons c l ih=>
  intro cvs us e r
  cases cvs with
  | nil=>cases e
  | cons d m=>
   cases r with
   | cons r1 r2=>
    injection e with e1 e2
    rw [ih e2 r2]
    congr 1
    cases c with
    | ref y=>cases e1;exact r1
    | ty T=>cases e1;exact r1
    | _=>cases e1
section
variable {X:Cx}
inductive Go (K:PySem.W.Frag) (xs:List V) (H:Hp) (Q:VK):Prop
 | mk (a:_) (C:_) (dx:_) (tp:_) (cs:_) (cvs:_) (b:_) (h0:xs=[.ref a,.ref tp]) (h1:(H a=some (jd a C (some dx))∧∃fs,H dx=some (.xd fs))) (h2:H tp=some (.tup cs)) (h3:cs.map Ct=cvs.map some) (h4:pp K C=true) (h5:PySem.W.kitAny K (.ref C) cvs=some b) (h6:Q (.bl b) H)
def GO (K:PySem.W.Frag):List V→Hp→VK→Prop:=fun xs H Q=>Go K xs H Q
theorem pU {K:PySem.W.Frag} (ek:X.K=K:=by rfl):cn X (.builtin "isinstance") (GO K):=by
 subst ek
 intro pins s σ H xs us Q I r h
 obtain ⟨a,C,dx,tp,cs,cvs,b,rfl,⟨ha,fs,hd⟩,ht,hcs,g,ho,q⟩:=h
 obtain ⟨u,uc,rfl,ru,rc⟩:=ut r
 cases ru
 obtain rfl:uc=Value.ref tp:=rc
 obtain ⟨its,rv,⟨o,e1,e2,n,e3⟩,_⟩:=I.tuple (ag.of ht)
 have ei:=Bf hcs rv
 subst ei
 obtain ⟨oc,od,odt,osl⟩:=o
 dsimp only at e2 e3
 subst e2 e3
 have J:aW fun ox od=>PySem.W.InstAt s.heap a ox C od:=by
  obtain ⟨vs,sl,e1⟩:=tL I.hok ha
  obtain ⟨od,e2⟩:=(I.hok dx _ hd).there
  exact ⟨_,some od,e1,rfl,rfl,e2⟩
 exact PySem.W.kia_tup (xP g) I.kIn J e1 ho (fun z=>nomatch z) fun tk=>⟨.bl b,H,I.tok tk,rfl,q⟩
theorem Ak {K:PySem.W.Frag}{e:Expr}{ta:TE}{f:Str}{pos:Pos} (he:PE X e ta) (ek:X.K=K:=by rfl) (hb:attributeBase e f X.env (eval e X.env)=eval e X.env:=by rfl):PE X (.Attribute e f pos) (C2 K ta f):=by
 subst ek
 exact Et he hb
theorem qN {K:PySem.W.Frag}{t:Value}:∀{cs:List Value},(∀c∈cs,PySem.W.kitOne K t c=some false)→PySem.W.kitAny K t cs=some false
 | [],_=>rfl
 | c :: r,h=>by
  unfold PySem.W.kitAny
  rw [h c List.mem_cons_self]
  exact qN fun d hd=>h d (List.mem_cons_of_mem _ hd)
end
end L2
namespace L2
open PySem PySem.Spec PyProof.Rows
theorem z0 (a b:List aa):bf (a++b)=bf a*bf b:=by
 induction a with
 | nil=>show bf b=1*bf b;rw [Rat.one_mul]
 | cons t r ih=>show gR t*bf (r++b)=gR t*bf r*bf b;rw [ih,Rat.mul_assoc]
end L2
namespace L2
open PySem PySem.Spec PyProof.Rows
section
variable {X:Cx}
def Fs (tk tv:TE):TE:=fun σ H Q=>∀p H0,Nw H p (.dK []) H0→tk σ H0 fun x H1=>∃k,x=f9 k∧tv σ H1 fun y H2=>H2 p=some (.dK [])∧∀H3,C3 H2 p (.dK [(k,y)]) H3→Q (.ref p) H3
theorem tP {k v:Expr}{tk tv:TE}{pos:Pos} (hk:PE X k tk) (hv:PE X v tv):PE X (.Dict [some k] [v] pos) (Fs tk tv):=by
 intro pins s σ H Q I h
 have big:(s.heap.objs.size==sysModules)=false:=by
  have e:mainGlobals<s.heap.objs.size:=(I.mod.glob.keeps I.bk).lt
  exact beq_eq_false_iff_ne.mpr (Ne.symm (Nat.ne_of_lt (Nat.lt_trans (by decide) e)))
 have I1:=I.laid (a:=s.heap.objs.size) (o:=.dK []) (h':=s.heap.push { cls:=.type "dict",data:=.dict #[] }) (t':=s.toks) (fun _ _ e=>Heap.get?_push_of_some _ e) (Nat.le_refl _) (show aV X.prog X.w _ _ _ (.dK []) from ⟨Nat.zero_le _,big,[],.nil,Heap.DictOf.new s.heap⟩)
 refine wpAny_Dict_walk (knd:=bI X.prog X.w) rfl rfl (by simp) (by show 1≤15;decide) (pairTrees_cons_walk (aK (hk pins _ σ _ _ I1 (h _ _ (.mk' I.fresh))) fun u s1 ⟨x,H1,I2,rx,kk,ex,q1⟩=>aK (hv pins s1 σ H1 _ I2 q1) fun w2 s2 ⟨y,H2,I3,ry,e,q2⟩=>pairTrees_nil_walk ?_))
 subst ex
 obtain ⟨hz,hm,vs,rel,dd⟩:=(show aV X.prog X.w H2 s2.heap _ (.dK []) from I3.hok _ _ e)
 cases rel
 refine ⟨[(kk,w2)],⟨i3 rx,rfl,True.intro⟩,dd,fun h' dd' hs=>⟨.ref s.heap.objs.size,_,?_,rfl,q2 _ .mk'⟩⟩
 exact I3.dset e hm (by show 1≤_;rw [sizeLine_eq];decide) (.cons ⟨rfl,ry⟩ .nil) dd' hs
def GE (td ty:TE):TE:=fun σ H Q=>td σ H fun x H1=>aW fun d kv=>x=.ref d∧H1 d=some (.dK kv)∧ty σ H1 fun y H2=>aW fun kvs k=>y=f9 k∧H2 d=some (.dK kvs)∧Q ((valD kvs k).getD .non) H2
theorem DV {o e:Expr}{apos cpos:Pos}{td ty:TE} (ho:PE X o td) (he:PE X e ty)
 (h1:attributeBase o "get" X.env (eval o X.env)=eval o X.env:=by rfl)
 (h2:((backTo cpos (starEach [e] X.env)).all (fun x=>!x.1) && (backToKw cpos (keywordEach [] X.env)).all (fun x=>x.1.isSome) && decide (([e]:List Expr).length+([]:List Keyword).length+(if ([]:List Keyword).isEmpty then 0 else 1)<30))=true:=by rfl)
 (h3:(apos.endLine==cpos.line)=true:=by rfl) (h4:backTo cpos (starEach [e] X.env)=[(false,eval e X.env)]:=by rfl):PE X (.Call (.Attribute o "get" apos) [e] [] cpos) (GE td ty):=by
 intro pins s σ H Q I h
 refine wpAny_Call_method h1 h2 h3 PySem.F.plainAttrs_dict PySem.F.slot_dict_get PySem.F.type_dict_get (aK (ho pins s σ H _ I h) fun u s1 ⟨x,H1,I1,rx,d,kv,ex,hd,q1⟩=>?_)
 subst ex
 cases rx
 obtain ⟨hz,hm,vs,rel,dd⟩:=(show aV X.prog X.w H1 s1.heap d (.dK kv) from I1.hok _ _ hd)
 refine ⟨dd.typeIs,fun b q=>?_,?_⟩
 ·cases q
  obtain ⟨ob,_,_,h1,h2,_⟩:=dd
  exact ⟨ob,h1,h2.2.1⟩
 rw [h4]
 refine Calls.callWith_builtin rfl (Calls.evalArgs_plain (Calls.spliced_cons (aK (he pins s1 σ H1 _ I1 q1) fun iv s2 ⟨y,H2,I2,ry,kvs,k,ey,hd2,q2⟩=>Calls.spliced_nil ?_)))
 subst ey
 obtain ⟨hz,hm,vs2,rel2,dd2⟩:=(show aV X.prog X.w H2 s2.heap d (.dK kvs) from I2.hok _ _ hd2)
 refine call_meetsIn PySem.F.slot_dict_get dd2.typeIs PySem.F.entry_dict_get (PySem.F.args_dict_get_2 _ _) (meets_dict_get (bI X.prog X.w) d (i3 ry) hm) ⟨_,dd2.mapOf,_,H2,I2.tok _,?_,q2⟩
 have r:=rel2.valD k
 revert r
 generalize valueAt vs2 k=o2
 cases valD kvs k <;> cases o2 <;> intro r
 ·exact rfl
 ·exact r.elim
 ·exact r.elim
 ·exact r
end
end L2
namespace L2
open PySem PySem.Spec PyProof.Rows
abbrev kg:=List Nat→Option KM.Fra
def xL (a b:KM.Fra):Bool:=decide (a.1*b.2<b.1*a.2)
def fw (ω:kg) (t:aa):Option KM.Fra:=if t.most=(0,1) then none else
 match ω t.en with
 | none=>none
 | some we=>match ω t.bg with
  | none=>some (KM.lTim t.gain we)
  | some wb=>if xL wb (KM.lTim t.gain we)=true then some (KM.lTim t.gain we) else none
theorem Ih {ω:kg}{t:aa}{we:KM.Fra} (h:t.most≠(0,1)) (e:ω t.en=some we) (b:ω t.bg=none):fw ω t=some (KM.lTim t.gain we):=by
 simp only [fw,if_neg h,e,b]
theorem HH {ω:kg}{t:aa}{we wb:KM.Fra} (h:t.most≠(0,1)) (e:ω t.en=some we) (b:ω t.bg=some wb):fw ω t=if xL wb (KM.lTim t.gain we)=true then some (KM.lTim t.gain we) else none:=by
 simp only [fw,if_neg h,e,b]
structure LP where
 ω:kg
 on:List Nat→Option Nat
 lf:Option (List Nat)
def gH (i:Nat) (t:aa) (w:KM.Fra) (s:LP):LP:=⟨fun l=>if l=t.bg then some w else s.ω l,fun l=>if l=t.bg then some i else s.on l,some t.bg⟩
def fB (i:Nat) (t:aa) (s:LP):LP:=match fw s.ω t with
 | some w=>gH i t w s
 | none=>s
theorem gN {i:Nat}{t:aa}{s:LP}{w:KM.Fra} (h:fw s.ω t=some w):fB i t s=gH i t w s:=by unfold fB;rw [h]
theorem ie {i:Nat}{t:aa}{s:LP} (h:fw s.ω t=none):fB i t s=s:=by unfold fB;rw [h]
def upP (ts:List aa) (s:LP):Nat→LP
 | 0=>{ s with lf:=none }
 | i+1=>match ts[i]? with
  | some t=>fB i t (upP ts s i)
  | none=>upP ts s i
theorem tR {i:Nat}{ts:List aa}{s:LP}{t:aa} (h:ts[i]?=some t):upP ts s (i+1)=fB i t (upP ts s i):=by rw [upP,h]
def dS (ts:List aa) (s:LP):LP:=upP ts s ts.length
def cq (ts:List aa) (s:LP):Nat→LP
 | 0=>s
 | k+1=>dS ts (cq ts s k)
def oQ (s:LS):LP:=⟨fun l=>some (s.ω l),s.on,s.lf⟩
theorem Cw (p i:Nat) (t:aa) (s:LS):fB i t (oQ s)=oQ (k8 p i t s):=by
 have e:fw (oQ s).ω t=if iM s.ω t=true then some (KM.lTim t.gain (s.ω t.en)) else none:=by
  unfold fw iM
  by_cases c:t.most=(0,1)
  ·rw [if_pos c,decide_eq_false (fun z=>z c)];rfl
  ·rw [if_neg c,decide_eq_true c,Bool.true_and];rfl
 cases q:iM s.ω t with
 | true=>
  rw [q,if_pos rfl] at e
  rw [gN e,rj q]
  unfold gH oQ
  congr 1
  funext l
  show (if l=t.bg then _ else _)=some (jZ _ _ _ _)
  unfold jZ
  by_cases c:l=t.bg
  ·rw [if_pos c,if_pos c]
  ·rw [if_neg c,if_neg c]
 | false=>
  rw [q,if_neg Bool.false_ne_true] at e
  rw [ie e,tS q]
theorem xn (p:Nat) (ts:List aa) (s:LS):∀i,upP ts (oQ s) i=oQ (iz p ts s i)
 | 0=>rfl
 | i+1=>by
  rw [upP,iz]
  cases ts[i]? with
  | none=>exact xn p ts s i
  | some t=>
   show fB i t (upP ts (oQ s) i)=oQ (k8 p i t (iz p ts s i))
   rw [xn p ts s i,Cw p]
theorem Bt (p:Nat) (ts:List aa) (s:LS):dS ts (oQ s)=oQ (j8 p ts s):=xn p ts s _
structure PV (ts:List aa) (ω0:kg) (s:LP):Prop where
 pos:∀l w,s.ω l=some w→1≤w.1∧KM.Rd w
 no:∀l,s.on l=none→s.ω l=ω0 l
 on:∀l k,s.on l=some k→eH fun t w we=>ts[k]?=some t∧t.most≠(0,1)∧t.bg=l∧s.ω l=some w∧s.ω t.en=some we∧KM.vl w≤gR t*KM.vl we
 up:∀l w,ω0 l=some w→∃w',s.ω l=some w'∧KM.vl w≤KM.vl w'
def Cl (s:LP) (t:aa):Prop:=∀we,s.ω t.en=some we→∃wb,s.ω t.bg=some wb∧gR t*KM.vl we≤KM.vl wb
theorem j5 {ls:List (List Nat)}{t:aa}{we:KM.Fra} (c:cb ls t) (p:1≤we.1∧KM.Rd we):KM.vl (KM.lTim t.gain we)=gR t*KM.vl we∧1≤(KM.lTim t.gain we).1∧KM.Rd (KM.lTim t.gain we):=by
 obtain ⟨p1,p2,_⟩:=p
 have g2:=c.g2
 exact ⟨KM.vl_tim (by trivial) (by trivial),uG c.g1 c.g2 p1 p2,KM.Rd.low (Int.ne_of_gt (Int.mul_pos (by trivial) (by trivial)))⟩
theorem rR {ls:List (List Nat)}{ω:kg}{t:aa}{w:KM.Fra} (c:cb ls t) (pos:∀l w,ω l=some w→1≤w.1∧KM.Rd w) (h:fw ω t=some w):t.most≠(0,1)∧∃we,ω t.en=some we∧w=KM.lTim t.gain we∧∀wb,ω t.bg=some wb→KM.vl wb<gR t*KM.vl we:=by
 unfold fw at h
 by_cases m:t.most=(0,1)
 ·rw [if_pos m] at h;cases h
 rw [if_neg m] at h
 refine ⟨m,?_⟩
 cases e:ω t.en with
 | none=>rw [e] at h;cases h
 | some we=>
  rw [e] at h
  obtain ⟨v1,v2,v3⟩:=j5 c (pos _ _ e)
  cases b:ω t.bg with
  | none=>
   rw [b] at h
   exact ⟨we,rfl,(Option.some.inj h).symm,fun wb z=>by cases z⟩
  | some wb=>
   rw [b] at h
   have h:(if xL wb (KM.lTim t.gain we)=true then some (KM.lTim t.gain we) else none)=some w:=h
   by_cases q:xL wb (KM.lTim t.gain we)=true
   ·rw [if_pos q] at h
    refine ⟨we,rfl,(Option.some.inj h).symm,fun wb' z=>?_⟩
    cases z
    rw [←v1]
    exact (i5 (pos _ _ b).2.1 v3.1).mpr (of_decide_eq_true q)
   ·rw [if_neg q] at h;cases h
theorem xy {ls:List (List Nat)}{s:LP}{t:aa} (c:cb ls t) (pos:∀l w,s.ω l=some w→1≤w.1∧KM.Rd w) (m:t.most≠(0,1)):fw s.ω t=none↔Cl s t:=by
 unfold fw Cl
 rw [if_neg m]
 cases e:s.ω t.en with
 | none=>exact ⟨fun _ we z=>(by cases z),fun _=>rfl⟩
 | some we=>
  obtain ⟨v1,v2,v3⟩:=j5 c (pos _ _ e)
  cases b:s.ω t.bg with
  | none=>
   constructor
   ·intro z;cases z
   ·intro z
    obtain ⟨wb,q,_⟩:=z we rfl
    cases q
  | some wb=>
   show (if xL wb (KM.lTim t.gain we)=true then some (KM.lTim t.gain we) else none)=none↔_
   have iff:=i5 (pos _ _ b).2.1 v3.1
   rw [v1] at iff
   by_cases q:xL wb (KM.lTim t.gain we)=true
   ·rw [if_pos q]
    constructor
    ·intro z;cases z
    ·intro z
     obtain ⟨wb',q',le⟩:=z we rfl
     cases q'
     exact absurd (iff.mpr (of_decide_eq_true q)) (Rat.not_lt.mpr le)
   ·rw [if_neg q]
    refine ⟨fun _ we' z=>?_,fun _=>rfl⟩
    cases z
    exact ⟨wb,rfl,Rat.not_lt.mp fun z=>q (decide_eq_true (iff.mp z))⟩
theorem PV.step {ls:List (List Nat)}{ts:List aa}{ω0:kg}{s:LP}{i:Nat}{t:aa} (tc:∀t∈ts,cb ls t) (et:ts[i]?=some t) (h:PV ts ω0 s):PV ts ω0 (fB i t s)∧∀l w,s.ω l=some w→∃w',(fB i t s).ω l=some w'∧KM.vl w≤KM.vl w':=by
 have c:=tc t (List.mem_of_getElem? et)
 cases q:fw s.ω t with
 | none=>rw [ie q];exact ⟨h,fun l w e=>⟨w,e,Rat.le_refl⟩⟩
 | some w=>
  obtain ⟨m,we,ee,rfl,lt⟩:=rR c h.pos q
  obtain ⟨v1,v2,v3⟩:=j5 c (h.pos _ _ ee)
  rw [gN q]
  have g0:∀{t:aa},t∈ts→0≤gR t:=fun {t} ht=>Rat.le_of_lt (fH (tc t ht).g1 (tc t ht).g2)
  have eo:∀l,(gH i t (KM.lTim t.gain we) s).ω l=if l=t.bg then some (KM.lTim t.gain we) else s.ω l:=fun _=>rfl
  have en:∀l,(gH i t (KM.lTim t.gain we) s).on l=if l=t.bg then some i else s.on l:=fun _=>rfl
  have mo:∀l w,s.ω l=some w→∃w',(gH i t (KM.lTim t.gain we) s).ω l=some w'∧KM.vl w≤KM.vl w':=fun l w e=>by
   rw [eo]
   by_cases z:l=t.bg
   ·rw [if_pos z]
    rw [z] at e
    exact ⟨_,rfl,by rw [v1];exact Rat.le_of_lt (lt w e)⟩
   ·rw [if_neg z];exact ⟨w,e,Rat.le_refl⟩
  generalize gH i t (KM.lTim t.gain we) s=s' at eo en mo ⊢
  refine ⟨⟨fun l w' e=>?_,fun l e=>?_,fun l k e=>?_,fun l w' e=>?_⟩,mo⟩
  ·rw [eo] at e
   by_cases z:l=t.bg
   ·rw [if_pos z] at e;cases e;exact ⟨v2,v3⟩
   ·rw [if_neg z] at e;exact h.pos l w' e
  ·rw [en] at e
   by_cases z:l=t.bg
   ·rw [if_pos z] at e;cases e
   ·rw [if_neg z] at e;rw [eo,if_neg z];exact h.no l e
  ·rw [en] at e
   by_cases z:l=t.bg
   ·rw [if_pos z] at e
    cases e
    refine ⟨t,_,we,et,m,z.symm,by rw [eo,if_pos z],by rw [eo,if_neg fun y=>c.ne y.symm];exact ee,by rw [v1];exact Rat.le_refl⟩
   ·rw [if_neg z] at e
    obtain ⟨t',w',we',e1,e2,e3,e4,e5,e6⟩:=h.on l k e
    obtain ⟨we2,e7,e8⟩:=mo _ _ e5
    exact ⟨t',w',we2,e1,e2,e3,by rw [eo,if_neg z];exact e4,e7,Rat.le_trans e6 (KM.mul_le_l e8 (g0 (List.mem_of_getElem? e1)))⟩
  ·obtain ⟨w1,e1,l1⟩:=h.up l w' e
   obtain ⟨w2,e2,l2⟩:=mo _ _ e1
   exact ⟨w2,e2,Rat.le_trans l1 l2⟩
theorem PV.upP {ls:List (List Nat)}{ts:List aa}{ω0:kg}{s:LP} (tc:∀t∈ts,cb ls t) (h:PV ts ω0 s):∀i,PV ts ω0 (L2.upP ts s i)
 | 0=>⟨h.pos,h.no,h.on,h.up⟩
 | i+1=>by
  rw [L2.upP]
  cases e:ts[i]? with
  | none=>exact PV.upP tc h i
  | some t=>exact ((PV.upP tc h i).step tc e).1
theorem PV.st {ls:List (List Nat)}{ts:List aa}{s:LP} (tc:∀t∈ts,cb ls t) (h:PV ts s.ω s):∀k,PV ts s.ω (cq ts s k)
 | 0=>h
 | k+1=>(PV.st tc h k).upP tc _
theorem sR {ts:List aa}{s:LP}:∀{i:Nat},(upP ts s i).lf=none→upP ts s i={ s with lf:=none }∧∀k t,k<i→ts[k]?=some t→fw s.ω t=none
 | 0,_=>⟨rfl,fun k t h=>by trivial⟩
 | i+1,h=>by
  cases e:ts[i]? with
  | none=>
   have e':upP ts s (i+1)=upP ts s i:=by rw [upP,e]
   rw [e'] at h ⊢
   obtain ⟨h1,h2⟩:=sR h
   refine ⟨h1,fun k t hk et=>?_⟩
   by_cases c:k=i
   ·rw [c,e] at et;cases et
   ·exact h2 k t (by trivial) et
  | some t=>
   rw [tR e] at h ⊢
   cases q:fw (upP ts s i).ω t with
   | some w=>rw [gN q] at h;cases h
   | none=>
    rw [ie q] at h ⊢
    obtain ⟨h1,h2⟩:=sR h
    refine ⟨h1,fun k t' hk et=>?_⟩
    by_cases c:k=i
    ·rw [c,e] at et;cases et;rw [h1] at q;exact q
    ·exact h2 k t' (by trivial) et
theorem o8 {ts:List aa}{s:LP} (h:(dS ts s).lf=none):dS ts s={ s with lf:=none }∧∀t∈ts,fw s.ω t=none:=by
 obtain ⟨h1,h2⟩:=sR h
 refine ⟨h1,fun t ht=>?_⟩
 obtain ⟨k,hk⟩:=List.getElem?_of_mem ht
 exact h2 k t (List.getElem?_eq_some_iff.mp hk).1 hk
theorem zw {ts:List aa}{s:LP} (h:∀t∈ts,fw s.ω t=none):∀i,upP ts s i={ s with lf:=none }
 | 0=>rfl
 | i+1=>by
  rw [upP]
  cases e:ts[i]? with
  | none=>exact zw h i
  | some t=>
   have q:=h t (List.mem_of_getElem? e)
   show fB i t (upP ts s i)=_
   rw [zw h i]
   exact ie q
theorem HP {ls:List (List Nat)}{ts:List aa}{s:LP}{m:Nat} (tc:∀t∈ts,cb ls t) (h:PV ts s.ω s) (e:(cq ts s (m+1)).lf=none):∀t∈ts,t.most≠(0,1)→Cl (cq ts s m) t:=fun t ht ho=>
 (xy (tc t ht) (PV.st tc h m).pos ho).mp ((o8 (s:=cq ts s m) e).2 t ht)
end L2
namespace L2
open PySem PySem.Spec PyProof.Rows
end L2
namespace L2
open PySem PySem.Spec PyProof.Rows
end L2
namespace L2
open PySem PySem.Spec PyProof.Rows
end L2
namespace L2
open PySem PySem.Spec PyProof.Rows
def oO:Nat→List Obj→PySem.W.Frag
 | _,[]=>[]
 | n,o :: r=>match o.data with
  | .freed=>oO (n+1) r
  | _=>(n,o) :: oO (n+1) r
def fragOf (h:Heap):PySem.W.Frag:=oO 0 h.objs.toList
theorem vd:∀(l:List Obj) (n a:Nat) (o:Obj),List.lookup a (oO n l)=some o→∃k,a=n+k∧l[k]?=some o∧o.data≠.freed
 | [],n,a,o,e=>nomatch e
 | p :: r,n,a,o,e=>by
  have step:List.lookup a (oO (n+1) r)=some o→∃k,a=n+k∧(p :: r)[k]?=some o∧o.data≠.freed:=fun e=>by
   obtain ⟨k,e1,e2,e3⟩:=vd r (n+1) a o e
   exact ⟨k+1,by trivial,by simpa using e2,e3⟩
  unfold oO at e
  split at e
  ·exact step e
  ·rename_i hf
   by_cases q:a=n
   ·subst q
    simp only [List.lookup_cons,beq_self_eq_true] at e
    cases e
    exact ⟨0,rfl,rfl,hf⟩
   ·have q':(a==n)=false:=by simpa using q
    simp only [List.lookup_cons,q'] at e
    exact step e
theorem Ah (h:Heap):PySem.W.Frag.In (fragOf h) h:=fun a o e=>by
 obtain ⟨k,e1,e2,e3⟩:=vd _ 0 a o e
 have e1':a=k:=e1.trans (Nat.zero_add k)
 subst e1'
 unfold Heap.get?
 have:h.objs[a]?=some o:=by simpa using e2
 rw [this]
 cases o with
 | mk c d x s=>
  cases x <;> first | rfl | exact absurd rfl e3
def aF:Option (Option Value)→Addr
 | some (some (.ref a))=>a
 | _=>0
def i9:Option (Option Value)→Bool
 | some (some (.ref _))=>true
 | _=>false
def fD:Option (Option Value)→Bool
 | some none=>true
 | _=>false
def Bc:Option Bool→Bool
 | some true=>true
 | _=>false
theorem dM {v:Option (Option Value)} (e:i9 v=true):v=some (some (.ref (aF v))):=by
 unfold i9 at e;split at e
 ·rfl
 ·cases e
theorem b5 {v:Option (Option Value)} (e:fD v=true):v=some none:=by
 unfold fD at e;split at e
 ·rfl
 ·cases e
theorem Dn {v:Option Bool} (e:Bc v=true):v=some true:=by
 unfold Bc at e;split at e
 ·rfl
 ·cases e
def yE (K:PySem.W.Frag) (v:Option (Option Value)):Obj:=(List.lookup (aF v) K).getD ⟨.none,none,.plain,#[]⟩
def Jt:FuncData:=PySem.W.fnOf (PySem.Str.mk #[]) (PySem.Str.mk #[]) ⟨[],[],none,[],[],none,[]⟩ [] ⟨.function,[],false,false,[]⟩ .none .none .none .none none .none .none
def iB (K:PySem.W.Frag) (v:Option (Option Value)):FuncData:=match (yE K v).data with
 | .func fd=>fd
 | _=>Jt
def bare (fd:FuncData):FuncData:={ fd with kwdefaults:=.none,doc:=.none,pyModule:=.none,annotations:=none,code:=.none,closureTuple:=.none }
def ib (K:PySem.W.Frag) (v:Option (Option Value)) (q:Str):Option FuncData:=
 match i9 v && PySem.W.codeIn K (iB K v).code q && PySem.W.keepIn K (.ref (aF v)) with
 | false=>none
 | true=>match List.lookup (aF v) K with
  | some ⟨_,_,.func fd,_⟩=>some (bare fd)
  | _=>none
theorem vh {K:PySem.W.Frag}{v:Option (Option Value)}{q:Str}{x:FuncData} (e:ib K v q=some x) :
 v=some (some (.ref (aF v)))∧PySem.W.codeIn K (iB K v).code q=true∧PySem.W.keepIn K (.ref (aF v))=true∧
  List.lookup (aF v) K=some ⟨(yE K v).cls,(yE K v).dict,.func (iB K v),(yE K v).slots⟩∧bare (iB K v)=x:=by
 unfold ib at e
 cases h:(i9 v && PySem.W.codeIn K (iB K v).code q && PySem.W.keepIn K (.ref (aF v))) with
 | false=>rw [h] at e;cases e
 | true=>
  rw [h] at e
  simp only [Bool.and_eq_true] at h
  refine ⟨dM h.1.1,h.1.2,h.2,?_⟩
  cases hl:List.lookup (aF v) K with
  | none=>rw [hl] at e;cases e
  | some o=>
   rw [hl] at e
   obtain ⟨c,d,x',s⟩:=o
   have eo:yE K v=⟨c,d,x',s⟩:=by unfold yE;rw [hl];rfl
   cases x' <;> first | cases e | skip
   rename_i fd
   have ef:iB K v=fd:=by unfold iB;rw [eo]
   rw [eo,ef]
   exact ⟨rfl,rfl⟩
def fG (K:PySem.W.Frag) (n:Str):Option FuncData:=ib K (PySem.W.nsIn K mainGlobals n) n
def dG (n q:Str) (st:Stmt):Option FuncData:=some (PySem.W.fnOf n q (uM st) (oS st) (av st) .none .none .none .none none .none .none)
theorem ap {K:PySem.W.Frag}{v:Option (Option Value)}{q n:Str}{st:Stmt} (e:ib K v q=dG n q st):lG K n q st (aF v) (iB K v):=by
 have h:=vh e
 refine ⟨?_,h.2.2.1⟩
 obtain ⟨h1,h2,h3,h4,z⟩:=h
 refine ⟨_,_,(iB K v).kwdefaults,(iB K v).doc,(iB K v).pyModule,(iB K v).annotations,(iB K v).code,(iB K v).closureTuple,_,?_,h4,h2⟩
 clear h4 h2 h3 h1 e
 generalize iB K v=fd at z ⊢
 cases fd
 unfold bare PySem.W.fnOf at z
 cases z
 rfl
theorem bv {K:PySem.W.Frag}{v:Option (Option Value)}{q n:Str}{st:Stmt} (e:ib K v q=dG n q st):v=some (some (.ref (aF v))):=(vh e).1
theorem walk_ofY {l:PySem.W.OpenLaw}{n k:Nat}{q:Program}{loose:List Str}{XP:(Str→Option Value)→Heap→Prop}{d:DefRec}{CX:ke}{sp:PySem.W.Frag→Sp}{x:Str}{α:Type}{obs:PySem.W.Frag→α}{due:α}
 (hn:l.most=some n) (hn2:n≤sizeLine) (hdf:d.params.defaults=[]) (hr:cN k callerA)
 (F:∀(K:PySem.W.Frag) (w:World) (mg:Str→Option Value) (fa:Addr) (h:Heap),obs K=due→K.In h→h.Ns mainGlobals mg→mg d.name=some (.ref fa)→
  ∃fd:FuncData,(∀(s:Shared) (u:Value),BindsTo s fd ⟨[u],[]⟩ [(x,u)])∧
   ∀base:Heap,K.In base→base.Ns mainGlobals mg→aZ l.prog w K mg base CX k fa fd [x] (sp K))
 (hsp:∀(K:PySem.W.Frag) (H:Hp) (a:Addr) (ns:List Int),ns.length≤n→uO H→am K H a (ns.map V.int)→sp K [.ref a] H (fun v _=>v=.bl true) fun _ _ _=>False)
 (hCX:∀(H:Hp) (s:Shared) (e:Value) (s':Shared),CX [] H s (fun _ _ _=>False) e s'→False) :
 PySem.W.WalkX q loose XP (fun s=>obs (fragOf s.heap)) (fun _=>due) l.row.toRowW d [] (fun f vs=>PySem.call f vs):=by
 intro w s₀ s₁ mg mb G y a o pm cd doc dV kV ho hd hcd hD hmg hg args vals as' L hpre hlay hrd hwl hlo
 have kx:(fragOf s₀.heap).In s₁.heap:=fun b ob hb=>L.keeps b ob (Ah s₀.heap b ob hb)
 exact Bj (K:=fun _=>fragOf s₀.heap) (YP:=fun w h=>(fragOf s₀.heap).In h) hn hn2 hdf hr (fun _ _ z=>z) (fun w mg fa h=>F (fragOf s₀.heap) w mg fa h y) hsp hCX w s₀ s₁ mg mb G kx a o pm cd doc dV kV ho hd hcd hD hmg hg args vals as' hpre hlay hrd hwl hlo
end L2
namespace L2
open PySem PySem.Spec PyProof.Rows
inductive Wk (ts:List aa) (le:List Nat):List Nat→List aa→Prop
 | nil:Wk ts le le []
 | cons {t us}:t∈ts→t.most≠(0,1)→Wk ts le t.en us→Wk ts le t.bg (t :: us)
theorem oY (t:aa) (us:List aa):bf (t :: us)=gR t*bf us:=rfl
theorem Wk.gp {ls:List (List Nat)}{ts:List aa}{le:List Nat} (tc:∀t∈ts,cb ls t) {l:List Nat}{us:List aa} (h:Wk ts le l us):0<bf us:=by
 induction h with
 | nil=>show (0:Rat)<1;decide
 | cons ht _ _ ih=>exact Rat.mul_pos (fH (tc _ ht).g1 (tc _ ht).g2) ih
def SV (ts:List aa) (le:List Nat) (s:LP):Prop:=∀l w,s.ω l=some w→∃us,Wk ts le l us∧KM.vl w=bf us
theorem SV.step {ls:List (List Nat)}{ts:List aa}{ω0:kg}{le:List Nat}{s:LP}{i:Nat}{t:aa} (tc:∀t∈ts,cb ls t) (et:ts[i]?=some t) (v:PV ts ω0 s) (h:SV ts le s):SV ts le (fB i t s):=by
 have c:=tc t (List.mem_of_getElem? et)
 cases q:fw s.ω t with
 | none=>rw [ie q];exact h
 | some w=>
  obtain ⟨m,we,ee,rfl,lt⟩:=rR c v.pos q
  obtain ⟨v1,v2,v3⟩:=j5 c (v.pos _ _ ee)
  rw [gN q]
  intro l w' e
  have e:(if l=t.bg then some (KM.lTim t.gain we) else s.ω l)=some w':=e
  by_cases z:l=t.bg
  ·rw [if_pos z] at e
   cases e
   obtain ⟨us,k,e1⟩:=h _ _ ee
   rw [z]
   exact ⟨t :: us,.cons (List.mem_of_getElem? et) m k,by rw [v1,e1];rfl⟩
  ·rw [if_neg z] at e;exact h l w' e
theorem SV.upP {ls:List (List Nat)}{ts:List aa}{ω0:kg}{le:List Nat}{s:LP} (tc:∀t∈ts,cb ls t) (v:PV ts ω0 s) (h:SV ts le s):∀i,SV ts le (L2.upP ts s i)
 | 0=>h
 | i+1=>by
  rw [L2.upP]
  cases e:ts[i]? with
  | none=>exact SV.upP tc v h i
  | some t=>exact (SV.upP tc v h i).step tc e (v.upP tc i)
theorem SV.st {ls:List (List Nat)}{ts:List aa}{le:List Nat}{s:LP} (tc:∀t∈ts,cb ls t) (v:PV ts s.ω s) (h:SV ts le s):∀k,SV ts le (cq ts s k)
 | 0=>h
 | k+1=>(SV.st tc v h k).upP tc (PV.st tc v k) _
def Mo (s s':LP):Prop:=∀l w,s.ω l=some w→∃w',s'.ω l=some w'∧KM.vl w≤KM.vl w'
theorem Mo.refl (s:LP):Mo s s:=fun _ w e=>⟨w,e,Rat.le_refl⟩
theorem Mo.trans {a b c:LP} (h:Mo a b) (k:Mo b c):Mo a c:=fun l w e=>by
 obtain ⟨w1,e1,l1⟩:=h l w e
 obtain ⟨w2,e2,l2⟩:=k l w1 e1
 exact ⟨w2,e2,Rat.le_trans l1 l2⟩
theorem wF {ls:List (List Nat)}{ts:List aa}{ω0:kg}{s:LP} (tc:∀t∈ts,cb ls t) (v:PV ts ω0 s) (i:Nat):∀j,Mo (upP ts s i) (upP ts s (i+j))
 | 0=>Mo.refl _
 | j+1=>by
  refine (wF tc v i j).trans ?_
  show Mo _ (upP ts s (i+j+1))
  rw [upP]
  cases e:ts[i+j]? with
  | none=>exact Mo.refl _
  | some t=>exact ((v.upP tc (i+j)).step tc e).2
theorem D7 {ls:List (List Nat)}{ts:List aa}{ω0:kg}{s:LP}{i:Nat}{t:aa}{we:KM.Fra} (c:cb ls t) (v:PV ts ω0 s) (ho:t.most≠(0,1)) (e:s.ω t.en=some we):∃wb,(fB i t s).ω t.bg=some wb∧gR t*KM.vl we≤KM.vl wb:=by
 cases q:fw s.ω t with
 | none=>rw [ie q];exact (xy c v.pos ho).mp q we e
 | some w=>
  obtain ⟨m,we',ee,rfl,lt⟩:=rR c v.pos q
  rw [e] at ee
  cases ee
  obtain ⟨v1,v2,v3⟩:=j5 c (v.pos _ _ e)
  rw [gN q]
  exact ⟨_,if_pos rfl,by rw [v1];exact Rat.le_refl⟩
def Rc (ts:List aa) (le:List Nat) (p:Nat) (s:LP):Prop:=∀l us,Wk ts le l us→us.length≤p→∃w,s.ω l=some w∧bf us≤KM.vl w
theorem Rc.pass {ls:List (List Nat)}{ts:List aa}{ω0:kg}{le:List Nat}{p:Nat}{s:LP} (tc:∀t∈ts,cb ls t) (v:PV ts ω0 s) (h:Rc ts le p s):Rc ts le (p+1) (dS ts s):=by
 have mo0:Mo s (dS ts s):=by
  have:=wF tc v 0 ts.length
  rw [Nat.zero_add] at this
  exact this
 intro l us k hl
 cases k with
 | nil=>
  obtain ⟨w,e,q⟩:=h _ _ .nil (Nat.zero_le _)
  obtain ⟨w',e',q'⟩:=mo0 _ _ e
  exact ⟨w',e',Rat.le_trans q q'⟩
 | @cons t r ht ho k=>
  obtain ⟨i,hi⟩:=List.getElem?_of_mem ht
  have li:=(List.getElem?_eq_some_iff.mp hi).1
  have lr:r.length≤p:=by simp only [List.length_cons] at hl;trivial
  obtain ⟨we,e,q⟩:=h _ _ k lr
  obtain ⟨we',e',q'⟩:∃w',(upP ts s i).ω t.en=some w'∧KM.vl we≤KM.vl w':=by
   have m:=wF tc v 0 i
   rw [Nat.zero_add] at m
   exact m _ _ e
  obtain ⟨wb,e2,q2⟩:=D7 (i:=i) (tc t ht) (v.upP tc i) ho e'
  have m2:=wF tc v (i+1) (ts.length - (i+1))
  rw [show i+1+(ts.length - (i+1))=ts.length by trivial,tR hi] at m2
  obtain ⟨wc,e3,q3⟩:=m2 _ _ e2
  have g0:0≤gR t:=Rat.le_of_lt (fH (tc t ht).g1 (tc t ht).g2)
  exact ⟨wc,e3,Rat.le_trans (KM.mul_le_l (Rat.le_trans q q') g0) (Rat.le_trans q2 q3)⟩
theorem Rc.st {ls:List (List Nat)}{ts:List aa}{le:List Nat}{s:LP} (tc:∀t∈ts,cb ls t) (v:PV ts s.ω s) (h:Rc ts le 0 s):∀k,Rc ts le k (cq ts s k)
 | 0=>h
 | k+1=>(Rc.st tc v h k).pass tc (PV.st tc v k)
structure CC (ls:List (List Nat)) (ts:List aa) (u:List Nat→Rat):Prop where
 pos:∀l∈ls,0<u l
 le:∀t∈ts,t.most≠(0,1)→gR t*u t.en≤u t.bg
theorem Wk.split {ls:List (List Nat)}{ts:List aa}{le x:List Nat}{u:List Nat→Rat} (tc:∀t∈ts,cb ls t) (hu:CC ls ts u) {l:List Nat}{us:List aa} (h:Wk ts le l us):x∈l :: us.map (·.en)→aW fun a b=>us=a++b∧Wk ts le x b∧bf a*u x≤u l∧∃c,l :: us.map (·.en)=c++(x :: b.map (·.en)):=by
 induction h with
 | nil=>
  intro hx
  have:x=le:=by simpa using hx
  subst this
  exact ⟨[],[],rfl,.nil,by show (1:Rat)*_≤_;rw [Rat.one_mul];exact Rat.le_refl,[],rfl⟩
 | @cons t r ht ho k ih=>
  intro hx
  by_cases z:x=t.bg
  ·subst z
   exact ⟨[],t :: r,rfl,.cons ht ho k,by show (1:Rat)*_≤_;rw [Rat.one_mul];exact Rat.le_refl,[],rfl⟩
  ·have hx':x∈t.en :: r.map (·.en):=by
    rcases List.mem_cons.mp hx with y | y
    ·exact absurd y z
    ·exact y
   obtain ⟨a,b,rfl,kb,le',c,ec⟩:=ih hx'
   have g0:0≤gR t:=Rat.le_of_lt (fH (tc t ht).g1 (tc t ht).g2)
   refine ⟨t :: a,b,rfl,kb,?_,t.bg :: c,by rw [List.cons_append,←ec];rfl⟩
   rw [oY,Rat.mul_assoc]
   exact Rat.le_trans (KM.mul_le_l le' g0) (hu.le t ht ho)
theorem Wk.simple {ls:List (List Nat)}{ts:List aa}{le:List Nat}{u:List Nat→Rat} (tc:∀t∈ts,cb ls t) (hu:CC ls ts u) {l:List Nat}{us:List aa} (h:Wk ts le l us):∃us',Wk ts le l us'∧bf us≤bf us'∧(l :: us'.map (·.en)).Nodup:=by
 induction h with
 | nil=>exact ⟨[],.nil,Rat.le_refl,by simp⟩
 | @cons t r ht ho k ih=>
  obtain ⟨r',k',le',nd⟩:=ih
  have g0:0≤gR t:=Rat.le_of_lt (fH (tc t ht).g1 (tc t ht).g2)
  have q:=KM.mul_le_l le' g0
  by_cases z:t.bg∈t.en :: r'.map (·.en)
  ·obtain ⟨a,b,rfl,kb,lb,c,ec⟩:=k'.split tc hu z
   refine ⟨b,kb,?_,?_⟩
   ·have up:=hu.pos t.bg (tc t ht).b
    have q1:(gR t*bf a)*u t.bg≤u t.bg:=by
     rw [Rat.mul_assoc]
     exact Rat.le_trans (KM.mul_le_l lb g0) (hu.le t ht ho)
    have q2:gR t*bf a≤1:=by
     apply Rat.not_lt.mp
     intro y
     have:=Rat.mul_lt_mul_of_pos_right y up
     rw [Rat.one_mul] at this
     exact absurd this (Rat.not_lt.mpr q1)
    have pb:=Rat.le_of_lt (kb.gp tc)
    have q3:=Rat.mul_le_mul_of_nonneg_right q2 pb
    rw [Rat.one_mul,Rat.mul_assoc,←z0] at q3
    exact Rat.le_trans q q3
   ·rw [ec] at nd
    exact (List.nodup_append.mp nd).2.1
  ·exact ⟨t :: r',.cons ht ho k',q,List.nodup_cons.mpr ⟨z,nd⟩⟩
theorem Wk.sub {ls:List (List Nat)}{ts:List aa}{le:List Nat} (tc:∀t∈ts,cb ls t) {l:List Nat}{us:List aa} (h:Wk ts le l us):∀x∈us.map (·.en),x∈ls:=by
 induction h with
 | nil=>intro x hx;cases hx
 | @cons t r ht ho k ih=>
  intro x hx
  rcases List.mem_cons.mp hx with rfl | y
  ·exact (tc t ht).e
  ·exact ih x y
theorem kd:∀{xs ys:List (List Nat)},xs.Nodup→(∀x∈xs,x∈ys)→xs.length≤ys.length
 | [],_,_,_=>Nat.zero_le _
 | x :: xs,ys,nd,h=>by
  rw [List.nodup_cons] at nd
  have hx:=h x (List.mem_cons_self ..)
  have:=kd (xs:=xs) (ys:=ys.erase x) nd.2 fun y hy=>(List.mem_erase_of_ne (fun (z:y=x)=>nd.1 (z▸hy))).mpr (h y (List.mem_cons_of_mem _ hy))
  rw [List.length_erase_of_mem hx] at this
  have:0<ys.length:=List.length_pos_of_mem hx
  simp
  trivial
theorem Wk.len {ls:List (List Nat)}{ts:List aa}{le:List Nat} (tc:∀t∈ts,cb ls t) (l10:ls.length≤10) {l:List Nat}{us:List aa} (h:Wk ts le l us) (nd:(l :: us.map (·.en)).Nodup):us.length≤9:=by
 cases h with
 | nil=>exact Nat.zero_le _
 | @cons t r ht ho k=>
  have:=kd (xs:=t.bg :: (t :: r).map (·.en)) (ys:=ls) nd fun x hx=>by
   rcases List.mem_cons.mp hx with rfl | y
   ·exact (tc t ht).b
   ·exact (Wk.cons ht ho k).sub tc x y
  simp only [List.length_cons,List.length_map] at this ⊢
  trivial
theorem Bh {ls:List (List Nat)}{ts:List aa}{le:List Nat}{u:List Nat→Rat}{s:LP} (tc:∀t∈ts,cb ls t) (l10:ls.length≤10) (hu:CC ls ts u) (v:PV ts s.ω s) (h1:SV ts le s) (h2:Rc ts le 0 s):(cq ts s (9+1)).lf=none:=by
 have S:=SV.st tc v h1 9
 have R:=Rc.st tc v h2 9
 have V:=PV.st tc v 9
 have no:∀t∈ts,fw (cq ts s 9).ω t=none:=fun t ht=>by
  by_cases ho:t.most=(0,1)
  ·unfold fw;rw [if_pos ho]
  ·refine (xy (tc t ht) V.pos ho).mpr fun we e=>?_
   obtain ⟨us,k,eq⟩:=S _ _ e
   obtain ⟨us',k',q,nd⟩:=(Wk.cons ht ho k).simple tc hu
   obtain ⟨wb,e2,q2⟩:=R _ _ k' (k'.len tc l10 nd)
   exact ⟨wb,e2,by rw [eq,←oY];exact Rat.le_trans q q2⟩
 show (dS ts (cq ts s 9)).lf=none
 unfold dS
 rw [zw no]
structure mU (ts:List aa) (s:LP) (tm:List Nat→Nat) (ct:Nat):Prop where
 on:∀l k,s.on l=some k→eH fun t w we=>ts[k]?=some t∧t.most≠(0,1)∧t.bg=l∧s.ω l=some w∧s.ω t.en=some we∧KM.vl w≤gR t*KM.vl we∧(tm l≤tm t.en→KM.vl w<gR t*KM.vl we)
 tmc:∀l,tm l≤ct
theorem mU.step {ls:List (List Nat)}{ts:List aa}{ω0:kg}{s:LP}{i ct:Nat}{t:aa}{tm:List Nat→Nat} (tc:∀t∈ts,cb ls t) (et:ts[i]?=some t) (v:PV ts ω0 s) (h:mU ts s tm ct):aW fun tm' ct'=>mU ts (fB i t s) tm' ct':=by
 have c:=tc t (List.mem_of_getElem? et)
 cases q:fw s.ω t with
 | none=>rw [ie q];exact ⟨tm,ct,h⟩
 | some w=>
  obtain ⟨m,we,ee,rfl,lt⟩:=rR c v.pos q
  obtain ⟨v1,v2,v3⟩:=j5 c (v.pos _ _ ee)
  rw [gN q]
  have eo:∀l,(gH i t (KM.lTim t.gain we) s).ω l=if l=t.bg then some (KM.lTim t.gain we) else s.ω l:=fun _=>rfl
  have en:∀l,(gH i t (KM.lTim t.gain we) s).on l=if l=t.bg then some i else s.on l:=fun _=>rfl
  generalize gH i t (KM.lTim t.gain we) s=s' at eo en ⊢
  refine ⟨fun l=>if l=t.bg then ct+1 else tm l,ct+1,fun l k e=>?_,fun l=>?_⟩
  ·rw [en] at e
   have ne:t.en≠t.bg:=fun z=>c.ne z.symm
   by_cases z:l=t.bg
   ·rw [if_pos z] at e
    cases e
    refine ⟨t,_,we,et,m,z.symm,by rw [eo,if_pos z],by rw [eo,if_neg ne];exact ee,by rw [v1];exact Rat.le_refl,fun y=>?_⟩
    rw [if_pos z,if_neg ne] at y
    have:=h.tmc t.en
    trivial
   ·rw [if_neg z] at e
    obtain ⟨t',w',we',e1,e2,e3,e4,e5,e6,e7⟩:=h.on l k e
    have gp:=fH (tc t' (List.mem_of_getElem? e1)).g1 (tc t' (List.mem_of_getElem? e1)).g2
    by_cases y:t'.en=t.bg
    ·have st:KM.vl we'<gR t*KM.vl we:=lt we' (by rw [←y];exact e5)
     have q2:KM.vl w'<gR t'*KM.vl (KM.lTim t.gain we):=by
      rw [v1]
      exact rh e6 (Rat.mul_lt_mul_of_pos_left st gp)
     exact ⟨t',w',_,e1,e2,e3,by rw [eo,if_neg z];exact e4,by rw [eo,if_pos y],Rat.le_of_lt q2,fun _=>q2⟩
    ·refine ⟨t',w',we',e1,e2,e3,by rw [eo,if_neg z];exact e4,by rw [eo,if_neg y];exact e5,e6,fun x=>e7 ?_⟩
     rw [if_neg z,if_neg y] at x
     exact x
  ·show (if l=t.bg then ct+1 else tm l)≤ct+1
   by_cases z:l=t.bg
   ·rw [if_pos z];exact Nat.le_refl _
   ·rw [if_neg z];exact Nat.le_succ_of_le (h.tmc l)
theorem mU.upP {ls:List (List Nat)}{ts:List aa}{ω0:kg}{s:LP} (tc:∀t∈ts,cb ls t) (v:PV ts ω0 s) (h:aW fun tm ct=>mU ts s tm ct):∀i,aW fun tm ct=>mU ts (L2.upP ts s i) tm ct
 | 0=>let ⟨tm,ct,k⟩:=h;⟨tm,ct,k.on,k.tmc⟩
 | i+1=>by
  rw [L2.upP]
  cases e:ts[i]? with
  | none=>exact mU.upP tc v h i
  | some t=>
   obtain ⟨tm,ct,k⟩:=mU.upP tc v h i
   exact k.step tc e (v.upP tc i)
theorem mU.st {ls:List (List Nat)}{ts:List aa}{s:LP} (tc:∀t∈ts,cb ls t) (v:PV ts s.ω s) (h:aW fun tm ct=>mU ts s tm ct):∀k,aW fun tm ct=>mU ts (cq ts s k) tm ct
 | 0=>h
 | k+1=>mU.upP tc (PV.st tc v k) (mU.st tc v h k) _
theorem Gj {ts:List aa}{s:LP}{m:Nat} (e:(cq ts s (m+1)).lf=none):∀j,(cq ts s (m+j)).ω=(cq ts s m).ω∧(cq ts s (m+j)).on=(cq ts s m).on:=by
 have e1:cq ts s (m+1)={ cq ts s m with lf:=none }:=(o8 (s:=cq ts s m) e).1
 have all:∀j,cq ts s (m+1+j)={ cq ts s m with lf:=none }:=by
  intro j
  induction j with
  | zero=>exact e1
  | succ j ih=>
   show dS ts (cq ts s (m+1+j))=_
   rw [ih]
   have e2:dS ts { cq ts s m with lf:=none }=dS ts (cq ts s m):=by
    unfold dS
    have:∀i,upP ts { cq ts s m with lf:=none } i=upP ts (cq ts s m) i:=by
     intro i
     induction i with
     | zero=>rfl
     | succ i ih=>
      rw [upP,upP]
      cases ts[i]? with
      | none=>exact ih
      | some t=>
       show fB i t _=fB i t _
       rw [ih]
    exact this _
   rw [e2]
   exact e1
 intro j
 cases j with
 | zero=>exact ⟨rfl,rfl⟩
 | succ j=>
  rw [show m+(j+1)=m+1+j by trivial,all j]
  exact ⟨rfl,rfl⟩
end L2
set_option maxHeartbeats 4000000
open L2
local macro_rules | `(‹($n:num,$i:ident)›)=>`(@pw _ $n _ _ (Or.inl $i) (by rfl) (by decide) (by decide))
local macro_rules | `(‹($n:num,())›)=>`(@pw _ $n _ _ (Or.inl (by kernel_rfl)) (by rfl) (by decide) (by decide)) | `(‹($n:num,0)›)=>`(@pw _ $n _ _ (Or.inr (Or.inl (by kernel_rfl))) (by rfl) (by decide) (by decide)) | `(‹($n:num,1)›)=>`(@pw _ $n _ _ (Or.inr (Or.inr (by kernel_rfl))) (by rfl) (by decide) (by decide))
local macro_rules | `(‹0›)=>`(@bC _ _ _ _)
local macro_rules | `(‹[$a]›)=>`(@BX _ _ _ _ _ $a (@b7 _) rfl) | `(‹[$a,$b,*]›)=>`(@BX _ _ _ _ _ $a ‹[$b,*]› rfl)
local macro_rules | `(‹$a[$b]›)=>`(@cf _ _ _ _ _ _ _ (@GL _ ($(Lean.mkIdent `K)) (by rfl)) $a $b (fun _ _=>rfl)) | `(‹$a[$b]!›)=>`(@cf _ _ _ _ _ _ _ (@GG _ ($(Lean.mkIdent `K)) (by rfl)) $a $b (fun _ _=>rfl))
local macro_rules | `(‹($g:ident,$k:ident,$t:term,$a:term)›)=>`(@iq _ _ _ _ _ _ _ _ _ _ _ _ _ _ _ _ $g ($(Lean.mkIdent `hr).mono (by decide)) $k ($t).m ($t).F.kp ($t).B .nil (@rA _) $a (by decide) (by rfl) (by rfl))
local macro_rules | `(‹($n:num,$s:term,$i:ident,$v:term)›)=>`(@mf _ _ ($n) _ _ _ _ $s rfl (Or.inl $i) $v (by rfl) (by first | exact .inl rfl | exact .inr rfl | assumption))
local macro_rules | `(‹($n:num,$s:term,$i:ident)›)=>`(@bo _ _ ($n) _ $s rfl (Or.inl $i) (by first | exact .inl rfl | exact .inr rfl | assumption))
local macro_rules | `(‹$a :: $b›)=>`(@ft _ _ _ _ _ $a $b)
namespace K13
open PySem L2
def cp (i:Nat):Stmt:=PySem.Challenge.pw_gainroads_k13_greatest_gains_and_best_wa.main.body.getD i (.Pass ⟨0,0,0,0⟩)
abbrev iW:Stmt:=cp 17
abbrev fS:Stmt:=cp 18
abbrev lC:Stmt:=cp 19
abbrev fX:Stmt:=cp 20
abbrev mO:Stmt:=cp 22
abbrev aY:Stmt:=cp 23
abbrev cM:Stmt:=cp 24
abbrev bp:Stmt:=cp 25
abbrev c6:Stmt:=cp 26
abbrev mD:Stmt:=cp 27
abbrev bX:Stmt:=cp 28
abbrev cF:Stmt:=cp 29
abbrev uI:Stmt:=cp 31
abbrev tQ:Stmt:=cp 32
abbrev pc:Stmt:=cp 33
abbrev hV:Stmt:=cp 34
abbrev gn:Stmt:=cp 35
abbrev jS:Stmt:=cp 36
abbrev kA:Stmt:=cp 37
abbrev br:Stmt:=cp 38
abbrev df:Stmt:=cp 39
abbrev d7:Stmt:=cp 40
abbrev dH:Stmt:=cp 41
abbrev bd:Stmt:=cp 42
abbrev aB:Stmt:=cp 43
abbrev jj:Stmt:=cp 44
abbrev dW:Stmt:=cp 45
abbrev bT:Stmt:=cp 46
abbrev bA:Stmt:=cp 47
abbrev ay:Stmt:=cp 48
abbrev cG:Stmt:=cp 49
abbrev cg:Stmt:=cp 50
abbrev cy:Stmt:=cp 51
abbrev ba:Stmt:=cp 52
abbrev bG:Stmt:=cp 53
abbrev cA:Stmt:=cp 54
abbrev bY:Stmt:=rM (cp 10) 0
abbrev kW:Stmt:=rM (cp 11) 0
abbrev qa:Stmt:=rM (cp 12) 0
abbrev mP:Stmt:=rM (cp 13) 0
abbrev oP:Stmt:=rM (cp 14) 0
abbrev lF:Stmt:=rM (cp 15) 0
theorem kX:aL ["n", "d"] ["n", "d"] (av iW):=⟨rfl,rfl,rfl,by decide +kernel,rfl,by decide +kernel,by decide +kernel⟩
theorem nU:aL ["n", "d", "divisor"] ["n", "d"] (av fS):=⟨rfl,rfl,rfl,by decide +kernel,rfl,by decide +kernel,by decide +kernel⟩
theorem BH:aL ["one", "other"] ["one", "other"] (av lC):=⟨rfl,rfl,rfl,by decide +kernel,rfl,by decide +kernel,by decide +kernel⟩
theorem nR:aL ["one", "other", "left", "right"] ["one", "other"] (av fX):=⟨rfl,rfl,rfl,by decide +kernel,rfl,by decide +kernel,by decide +kernel⟩
theorem zj:aL ["tie"] ["tie"] (av mO):=⟨rfl,rfl,rfl,by decide +kernel,rfl,by decide +kernel,by decide +kernel⟩
theorem bS:aL ["net", "worths", "onward", "lifted", "number", "tie", "begin", "end", "most", "gain", "price", "worth"] ["net", "worths", "onward"] (av aY):=⟨rfl,rfl,rfl,by decide +kernel,rfl,by decide +kernel,by decide +kernel⟩
theorem im:aL ["net", "onward", "place", "places", "ties"] ["net", "onward", "place"] (av cM):=⟨rfl,rfl,rfl,by decide +kernel,rfl,by decide +kernel,by decide +kernel⟩
theorem cW:aL ["net", "worths", "onward", "lifted", "turn"] ["net"] (av bp):=⟨rfl,rfl,rfl,by decide +kernel,rfl,by decide +kernel,by decide +kernel⟩
theorem nL:aL ["net", "worths", "gaining", "onward"] ["net", "worths"] (av c6):=⟨rfl,rfl,rfl,by decide +kernel,rfl,by decide +kernel,by decide +kernel⟩
theorem lI:aL ["net", "begin", "end", "worths"] ["net", "begin", "end"] (av bX):=⟨rfl,rfl,rfl,by decide +kernel,rfl,by decide +kernel,by decide +kernel⟩
theorem gv:aL ["net", "begin", "end", "worths", "onward", "way", "place"] ["net", "begin", "end"] (av cF):=⟨rfl,rfl,rfl,by decide +kernel,rfl,by decide +kernel,by decide +kernel⟩
theorem sV:aL ["_law_script", "_law_k", "_law_cell"] ["_law_script", "_law_k"] (av uI):=⟨rfl,rfl,rfl,by decide +kernel,rfl,by decide +kernel,by decide +kernel⟩
theorem rm:aL ["_law_box_here", "_law_many", "_law_found", "_law_once"] ["_law_box_here", "_law_many"] (av tQ):=⟨rfl,rfl,rfl,by decide +kernel,rfl,by decide +kernel,by decide +kernel⟩
theorem j9:aL ["_law_script", "_law_many", "_law_cells", "_law_k", "_law_cell"] ["_law_script", "_law_many"] (av pc):=⟨rfl,rfl,rfl,by decide +kernel,rfl,by decide +kernel,by decide +kernel⟩
theorem mX:aL ["_law_n", "_law_d", "_law_one", "_law_other"] ["_law_n", "_law_d"] (av hV):=⟨rfl,rfl,rfl,by decide +kernel,rfl,by decide +kernel,by decide +kernel⟩
theorem xa:aL ["_law_one", "_law_other"] ["_law_one", "_law_other"] (av gn):=⟨rfl,rfl,rfl,by decide +kernel,rfl,by decide +kernel,by decide +kernel⟩
theorem AZ:aL ["_law_one", "_law_other"] ["_law_one", "_law_other"] (av jS):=⟨rfl,rfl,rfl,by decide +kernel,rfl,by decide +kernel,by decide +kernel⟩
theorem yV:aL ["_law_one", "_law_other"] ["_law_one", "_law_other"] (av kA):=⟨rfl,rfl,rfl,by decide +kernel,rfl,by decide +kernel,by decide +kernel⟩
theorem dF:aL ["_law_box_here", "_law_many", "_law_letters", "_law_first", "_law_rest", "_law_behind", "_law_sign", "_law_other"] ["_law_box_here", "_law_many"] (av br):=⟨rfl,rfl,rfl,by decide +kernel,rfl,by decide +kernel,by decide +kernel⟩
theorem kP:aL ["_law_box_here", "_law_way", "_law_top"] ["_law_box_here"] (av df):=⟨rfl,rfl,rfl,by decide +kernel,rfl,by decide +kernel,by decide +kernel⟩
theorem pV:aL ["_law_box_here", "_law_way"] ["_law_box_here"] (av d7):=⟨rfl,rfl,rfl,by decide +kernel,rfl,by decide +kernel,by decide +kernel⟩
theorem nZ:aL ["_law_box_here", "_law_way"] ["_law_box_here"] (av dH):=⟨rfl,rfl,rfl,by decide +kernel,rfl,by decide +kernel,by decide +kernel⟩
theorem dj:aL ["_law_box_here", "_law_places", "_law_many", "_law_first", "_law_a", "_law_b", "_law_more", "_law_gains", "_law_spots"] ["_law_box_here", "_law_places"] (av bd):=⟨rfl,rfl,rfl,by decide +kernel,rfl,by decide +kernel,by decide +kernel⟩
theorem bc:aL ["_law_box_here", "_law_most_places", "_law_most_ties", "_law_way", "_law_great", "_law_places", "_law_many", "_law_some", "_law_worths", "_law_ends", "_law_turn", "_law_at", "_law_begin", "_law_end", "_law_gain", "_law_less", "_law_ties", "_law_top"] ["_law_box_here", "_law_most_places", "_law_most_ties"] (av aB):=⟨rfl,rfl,rfl,by decide +kernel,rfl,by decide +kernel,by decide +kernel⟩
theorem ye:aL ["_law_net"] ["_law_net"] (av jj):=⟨rfl,rfl,rfl,by decide +kernel,rfl,by decide +kernel,by decide +kernel⟩
theorem jt:aL ["_law_net", "_law_way", "_law_found", "_law_number"] ["_law_net", "_law_way"] (av dW):=⟨rfl,rfl,rfl,by decide +kernel,rfl,by decide +kernel,by decide +kernel⟩
theorem gh:aL ["_law_net", "_law_begin", "_law_found", "_law_waiting", "_law_way", "_law_spots", "_law_number"] ["_law_net", "_law_begin"] (av bT):=⟨rfl,rfl,rfl,by decide +kernel,rfl,by decide +kernel,by decide +kernel⟩
theorem p9:aL ["_law_net", "_law_thing", "_law_begins"] ["_law_net", "_law_thing"] (av bA):=⟨rfl,rfl,rfl,by decide +kernel,rfl,by decide +kernel,by decide +kernel⟩
theorem cj:aL ["_law_which", "_law_net", "_law_begin", "_law_end", "_law_found", "_law_caught", "error", "_law_others"] ["_law_which", "_law_net", "_law_begin", "_law_end"] (av ay):=⟨rfl,rfl,rfl,by decide +kernel,rfl,by decide +kernel,by decide +kernel⟩
theorem vi:aL ["_law_found", "_law_due"] ["_law_found", "_law_due"] (av cG):=⟨rfl,rfl,rfl,by decide +kernel,rfl,by decide +kernel,by decide +kernel⟩
theorem iG:aL ["_law_net", "_law_begin", "_law_end", "_law_found", "_law_way", "_law_gain"] ["_law_net", "_law_begin", "_law_end"] (av cg):=⟨rfl,rfl,rfl,by decide +kernel,rfl,by decide +kernel,by decide +kernel⟩
theorem uC:aL ["_law_net", "_law_way", "_law_begin", "_law_end", "_law_spots"] ["_law_net", "_law_way", "_law_begin", "_law_end"] (av cy):=⟨rfl,rfl,rfl,by decide +kernel,rfl,by decide +kernel,by decide +kernel⟩
theorem dZ:aL ["_law_net", "_law_begin", "_law_end", "_law_told", "_law_place", "_law_number", "_law_tie"] ["_law_net", "_law_begin", "_law_end"] (av ba):=⟨rfl,rfl,rfl,by decide +kernel,rfl,by decide +kernel,by decide +kernel⟩
theorem ui:aL ["_law_net", "_law_begin", "_law_end", "_law_gain", "_law_way"] ["_law_net", "_law_begin", "_law_end"] (av bG):=⟨rfl,rfl,rfl,by decide +kernel,rfl,by decide +kernel,by decide +kernel⟩
theorem iI:aL ["_law_script", "_law_cells", "_law_k", "_law_box_here", "_law_turn", "_law_net", "_law_written", "_law_again", "_law_at", "_law_begin", "_law_end"] ["_law_script"] (av cA):=⟨rfl,rfl,rfl,by decide +kernel,rfl,by decide +kernel,by decide +kernel⟩
theorem sT:aL ["self", "ties"] ["self", "ties"] (av bY):=⟨rfl,rfl,rfl,by decide +kernel,rfl,by decide +kernel,by decide +kernel⟩
end K13
namespace K13
open PySem L2
set_option genInjectivity false in
set_option genSizeOf false in
structure Df (K:PySem.W.Frag) (mg:Str→Option Value) (x:Str) (st:Stmt) (ps:List Str) where
 f:Addr
 d:FuncData
 m:mg x=some (.ref f)
 F:lG K x x st f d
 B:fY K d ps []
set_option genInjectivity false in
set_option genSizeOf false in
structure Txt (K:PySem.W.Frag) (mg:Str→Option Value) where
 b_ValueError:mg "ValueError" = none
 b_abs:mg "abs" = none
 b_all:mg "all" = none
 b_any:mg "any" = none
 b_bool:mg "bool" = none
 b_dict:mg "dict" = none
 b_divmod:mg "divmod" = none
 b_enumerate:mg "enumerate" = none
 b_int:mg "int" = none
 b_isinstance:mg "isinstance" = none
 b_len:mg "len" = none
 b_list:mg "list" = none
 b_max:mg "max" = none
 b_range:mg "range" = none
 b_set:mg "set" = none
 b_str:mg "str" = none
 b_tuple:mg "tuple" = none
 b_zip:mg "zip" = none
 common_divisor_:Df K mg "common_divisor" iW ["n", "d"]
 fraction_:Df K mg "fraction" fS ["n", "d"]
 times_:Df K mg "times" lC ["one", "other"]
 compared_:Df K mg "compared" fX ["one", "other"]
 is_shut_:Df K mg "is_shut" mO ["tie"]
 lift_once_:Df K mg "lift_once" aY ["net", "worths", "onward"]
 round_ahead_:Df K mg "round_ahead" cM ["net", "onward", "place"]
 gaining_round_:Df K mg "gaining_round" bp ["net"]
 lift_all_:Df K mg "lift_all" c6 ["net", "worths"]
 holding_worths_:Df K mg "holding_worths" mD ["net"]
 greatest_gain_:Df K mg "greatest_gain" bX ["net", "begin", "end"]
 best_way_:Df K mg "best_way" cF ["net", "begin", "end"]
 l_box_:Df K mg "_law_box" uI ["_law_script", "_law_k"]
 l_take_:Df K mg "_law_take" tQ ["_law_box_here", "_law_many"]
 l_folded_:Df K mg "_law_folded" pc ["_law_script", "_law_many"]
 l_frac_:Df K mg "_law_frac" hV ["_law_n", "_law_d"]
 l_product_:Df K mg "_law_product" gn ["_law_one", "_law_other"]
 l_over_:Df K mg "_law_over" jS ["_law_one", "_law_other"]
 l_above_:Df K mg "_law_above" kA ["_law_one", "_law_other"]
 l_names_by_:Df K mg "_law_names_by" br ["_law_box_here", "_law_many"]
 l_any_gain_:Df K mg "_law_any_gain" df ["_law_box_here"]
 l_any_much_:Df K mg "_law_any_much" d7 ["_law_box_here"]
 l_any_price_:Df K mg "_law_any_price" dH ["_law_box_here"]
 l_planted_:Df K mg "_law_planted" bd ["_law_box_here", "_law_places"]
 l_net_by_:Df K mg "_law_net_by" aB ["_law_box_here", "_law_most_places", "_law_most_ties"]
 l_opened_:Df K mg "_law_opened" jj ["_law_net"]
 l_gain_of_:Df K mg "_law_gain_of" dW ["_law_net", "_law_way"]
 l_all_ways_:Df K mg "_law_all_ways" bT ["_law_net", "_law_begin"]
 l_is_round_:Df K mg "_law_is_round" bA ["_law_net", "_law_thing"]
 l_all_told_:Df K mg "_law_all_told" ay ["_law_which", "_law_net", "_law_begin", "_law_end"]
 l_same_:Df K mg "_law_same" cG ["_law_found", "_law_due"]
 l_due_of_:Df K mg "_law_due_of" cg ["_law_net", "_law_begin", "_law_end"]
 l_leads_:Df K mg "_law_leads" cy ["_law_net", "_law_way", "_law_begin", "_law_end"]
 l_none_better_:Df K mg "_law_none_better" ba ["_law_net", "_law_begin", "_law_end"]
 l_right_:Df K mg "_law_right" bG ["_law_net", "_law_begin", "_law_end"]
 law_:Df K mg "law" cA ["_law_script"]
 f_Gaining__init:Addr
 d_Gaining__init:FuncData
 F_Gaining__init:lG K "__init__" "Gaining.__init__" bY f_Gaining__init d_Gaining__init
 B_Gaining__init:fY K d_Gaining__init ["self", "ties"] []
 f_NotSoMuch__init:Addr
 d_NotSoMuch__init:FuncData
 F_NotSoMuch__init:lG K "__init__" "NotSoMuch.__init__" kW f_NotSoMuch__init d_NotSoMuch__init
 B_NotSoMuch__init:fY K d_NotSoMuch__init ["self", "most"] []
 f_Short__init:Addr
 d_Short__init:FuncData
 F_Short__init:lG K "__init__" "Short.__init__" qa f_Short__init d_Short__init
 B_Short__init:fY K d_Short__init ["self", "share"] []
 f_Lacking__init:Addr
 d_Lacking__init:FuncData
 F_Lacking__init:lG K "__init__" "Lacking.__init__" mP f_Lacking__init d_Lacking__init
 B_Lacking__init:fY K d_Lacking__init ["self", "place"] []
 f_BadRow__init:Addr
 d_BadRow__init:FuncData
 F_BadRow__init:lG K "__init__" "BadRow.__init__" oP f_BadRow__init d_BadRow__init
 B_BadRow__init:fY K d_BadRow__init ["self", "row"] []
 f_BadSheet__init:Addr
 d_BadSheet__init:FuncData
 F_BadSheet__init:lG K "__init__" "BadSheet.__init__" lF f_BadSheet__init d_BadSheet__init
 B_BadSheet__init:fY K d_BadSheet__init ["self", "row"] []
 x_GainError:Addr
 m_GainError:mg "GainError" = some (.ref x_GainError)
 k_GainError:PySem.W.keepIn K (.ref x_GainError)=true
 xb_GainError:zJ K x_GainError=true
 x_BadNumber:Addr
 m_BadNumber:mg "BadNumber" = some (.ref x_BadNumber)
 k_BadNumber:PySem.W.keepIn K (.ref x_BadNumber)=true
 q_BadNumber:bO K x_BadNumber (none)=true
 x_Taken:Addr
 m_Taken:mg "Taken" = some (.ref x_Taken)
 k_Taken:PySem.W.keepIn K (.ref x_Taken)=true
 q_Taken:bO K x_Taken (none)=true
 x_NoPlace:Addr
 m_NoPlace:mg "NoPlace" = some (.ref x_NoPlace)
 k_NoPlace:PySem.W.keepIn K (.ref x_NoPlace)=true
 q_NoPlace:bO K x_NoPlace (none)=true
 x_NoTie:Addr
 m_NoTie:mg "NoTie" = some (.ref x_NoTie)
 k_NoTie:PySem.W.keepIn K (.ref x_NoTie)=true
 q_NoTie:bO K x_NoTie (none)=true
 x_AsItIs:Addr
 m_AsItIs:mg "AsItIs" = some (.ref x_AsItIs)
 k_AsItIs:PySem.W.keepIn K (.ref x_AsItIs)=true
 q_AsItIs:bO K x_AsItIs (none)=true
 x_NoEnds:Addr
 m_NoEnds:mg "NoEnds" = some (.ref x_NoEnds)
 k_NoEnds:PySem.W.keepIn K (.ref x_NoEnds)=true
 q_NoEnds:bO K x_NoEnds (none)=true
 x_Over:Addr
 m_Over:mg "Over" = some (.ref x_Over)
 k_Over:PySem.W.keepIn K (.ref x_Over)=true
 q_Over:bO K x_Over (none)=true
 x_TooMuch:Addr
 m_TooMuch:mg "TooMuch" = some (.ref x_TooMuch)
 k_TooMuch:PySem.W.keepIn K (.ref x_TooMuch)=true
 q_TooMuch:bO K x_TooMuch (none)=true
 x_Gaining:Addr
 m_Gaining:mg "Gaining" = some (.ref x_Gaining)
 k_Gaining:PySem.W.keepIn K (.ref x_Gaining)=true
 fn_Gaining:PySem.W.isFn K (.ref f_Gaining__init)=true
 st_Gaining:gB K x_Gaining "ties" = true
 fd_Gaining:jA K x_Gaining "ties" = true
 q_Gaining:bO K x_Gaining (some (.ref f_Gaining__init))=true
 x_NotSoMuch:Addr
 m_NotSoMuch:mg "NotSoMuch" = some (.ref x_NotSoMuch)
 k_NotSoMuch:PySem.W.keepIn K (.ref x_NotSoMuch)=true
 fn_NotSoMuch:PySem.W.isFn K (.ref f_NotSoMuch__init)=true
 st_NotSoMuch:gB K x_NotSoMuch "most" = true
 fd_NotSoMuch:jA K x_NotSoMuch "most" = true
 q_NotSoMuch:bO K x_NotSoMuch (some (.ref f_NotSoMuch__init))=true
 x_Short:Addr
 m_Short:mg "Short" = some (.ref x_Short)
 k_Short:PySem.W.keepIn K (.ref x_Short)=true
 fn_Short:PySem.W.isFn K (.ref f_Short__init)=true
 st_Short:gB K x_Short "share" = true
 fd_Short:jA K x_Short "share" = true
 q_Short:bO K x_Short (some (.ref f_Short__init))=true
 x_Lacking:Addr
 m_Lacking:mg "Lacking" = some (.ref x_Lacking)
 k_Lacking:PySem.W.keepIn K (.ref x_Lacking)=true
 fn_Lacking:PySem.W.isFn K (.ref f_Lacking__init)=true
 st_Lacking:gB K x_Lacking "place" = true
 fd_Lacking:jA K x_Lacking "place" = true
 q_Lacking:bO K x_Lacking (some (.ref f_Lacking__init))=true
 x_BadRow:Addr
 m_BadRow:mg "BadRow" = some (.ref x_BadRow)
 k_BadRow:PySem.W.keepIn K (.ref x_BadRow)=true
 fn_BadRow:PySem.W.isFn K (.ref f_BadRow__init)=true
 st_BadRow:gB K x_BadRow "row" = true
 fd_BadRow:jA K x_BadRow "row" = true
 q_BadRow:bO K x_BadRow (some (.ref f_BadRow__init))=true
 x_BadSheet:Addr
 m_BadSheet:mg "BadSheet" = some (.ref x_BadSheet)
 k_BadSheet:PySem.W.keepIn K (.ref x_BadSheet)=true
 fn_BadSheet:PySem.W.isFn K (.ref f_BadSheet__init)=true
 st_BadSheet:gB K x_BadSheet "row" = true
 fd_BadSheet:jA K x_BadSheet "row" = true
 q_BadSheet:bO K x_BadSheet (some (.ref f_BadSheet__init))=true
 em_Gaining_GainError:PySem.W.exmOne K (.ref x_Gaining) (.ref x_GainError)=some true
 kin:rL K [x_BadNumber,x_Taken,x_NoPlace,x_NoTie,x_AsItIs,x_NoEnds,x_Over,x_TooMuch,x_Gaining,x_NotSoMuch,x_Short,x_Lacking,x_BadRow,x_BadSheet] x_GainError=true
end K13
namespace K13
open PySem L2
abbrev ae (s:Stmt) (x:Str):Prop:=(av s).names.lookup x=some NameKind.local
abbrev ai (s:Stmt) (x:Str):Prop:=(av s).names.lookup x=some NameKind.globalImplicit
abbrev mF (s:Stmt) (x:Str):Prop:=(av s).names.lookup x=some NameKind.cell
theorem qS:ae fS "n" := by decide +kernel
theorem lX:ae fS "d" := by decide +kernel
theorem di:ae fS "divisor" := by decide +kernel
theorem lB:ai fS "common_divisor" := by decide +kernel
theorem sC:ae lC "one" := by decide +kernel
theorem pW:ae lC "other" := by decide +kernel
theorem tH:ai lC "fraction" := by decide +kernel
theorem oE:ae fX "one" := by decide +kernel
theorem mw:ae fX "other" := by decide +kernel
theorem jn:ae fX "left" := by decide +kernel
theorem iY:ae fX "right" := by decide +kernel
theorem wA:ae mO "tie" := by decide +kernel
theorem ux:ae aY "net" := by decide +kernel
theorem dq:ae aY "worths" := by decide +kernel
theorem qt:ae aY "onward" := by decide +kernel
theorem gT:ae aY "lifted" := by decide +kernel
theorem km:ae aY "number" := by decide +kernel
theorem jp:ae aY "tie" := by decide +kernel
theorem cK:ae aY "begin" := by decide +kernel
theorem ju:ae aY "end" := by decide +kernel
theorem tW:ae aY "most" := by decide +kernel
theorem lQ:ae aY "gain" := by decide +kernel
theorem sg:ae aY "price" := by decide +kernel
theorem iD:ae aY "worth" := by decide +kernel
theorem oq:ai aY "enumerate" := by decide +kernel
theorem qe:ai aY "is_shut" := by decide +kernel
theorem sy:ai aY "times" := by decide +kernel
theorem pR:ai aY "compared" := by decide +kernel
theorem rY:ae cM "net" := by decide +kernel
theorem jm:ae cM "onward" := by decide +kernel
theorem bZ:ae cM "place" := by decide +kernel
theorem dU:ae cM "places" := by decide +kernel
theorem ia:ae cM "ties" := by decide +kernel
theorem eh:ae bp "net" := by decide +kernel
theorem iH:ae bp "worths" := by decide +kernel
theorem fv:ae bp "onward" := by decide +kernel
theorem dc:ae bp "lifted" := by decide +kernel
theorem o5:ae bp "turn" := by decide +kernel
theorem oz:ai bp "range" := by decide +kernel
theorem qq:ai bp "len" := by decide +kernel
theorem k6:ai bp "lift_once" := by decide +kernel
theorem kc:ai bp "round_ahead" := by decide +kernel
theorem oa:ae c6 "net" := by decide +kernel
theorem sx:ae c6 "worths" := by decide +kernel
theorem gP:ae c6 "gaining" := by decide +kernel
theorem iE:ae c6 "onward" := by decide +kernel
theorem lM:ai c6 "gaining_round" := by decide +kernel
theorem qL:ai c6 "Gaining" := by decide +kernel
theorem pQ:ai c6 "lift_once" := by decide +kernel
theorem qj:ae bX "net" := by decide +kernel
theorem oD:ae bX "begin" := by decide +kernel
theorem qo:ae bX "end" := by decide +kernel
theorem fj:ae bX "worths" := by decide +kernel
theorem mH:ai bX "lift_all" := by decide +kernel
theorem oB:ae cF "net" := by decide +kernel
theorem mE:ae cF "begin" := by decide +kernel
theorem oj:ae cF "end" := by decide +kernel
theorem iA:ae cF "worths" := by decide +kernel
theorem iy:ae cF "onward" := by decide +kernel
theorem jL:ae cF "way" := by decide +kernel
theorem d6:ae cF "place" := by decide +kernel
theorem ql:ai cF "lift_all" := by decide +kernel
theorem qz:ae hV "_law_n" := by decide +kernel
theorem lU:ae hV "_law_d" := by decide +kernel
theorem cU:ae hV "_law_one" := by decide +kernel
theorem dY:ae hV "_law_other" := by decide +kernel
theorem qH:ai hV "abs" := by decide +kernel
theorem kT:ae gn "_law_one" := by decide +kernel
theorem jJ:ae gn "_law_other" := by decide +kernel
theorem qJ:ai gn "_law_frac" := by decide +kernel
theorem oR:ae jS "_law_one" := by decide +kernel
theorem mv:ae jS "_law_other" := by decide +kernel
theorem uj:ai jS "_law_frac" := by decide +kernel
theorem m9:ae kA "_law_one" := by decide +kernel
theorem kZ:ae kA "_law_other" := by decide +kernel
theorem eL:mF br "_law_box_here" := by decide +kernel
theorem jH:ae br "_law_many" := by decide +kernel
theorem nz:mF br "_law_letters" := by decide +kernel
theorem jg:mF br "_law_first" := by decide +kernel
theorem jK:ae br "_law_rest" := by decide +kernel
theorem oF:mF br "_law_behind" := by decide +kernel
theorem qg:mF br "_law_sign" := by decide +kernel
theorem pO:mF br "_law_other" := by decide +kernel
theorem gG:ai br "_law_take" := by decide +kernel
theorem gX:ai br "range" := by decide +kernel
theorem tJ:ai br "int" := by decide +kernel
theorem kf:ai br "tuple" := by decide +kernel
theorem eJ:ae df "_law_box_here" := by decide +kernel
theorem eV:ae df "_law_way" := by decide +kernel
theorem ki:ae df "_law_top" := by decide +kernel
theorem gD:ai df "_law_take" := by decide +kernel
theorem qp:ai df "_law_frac" := by decide +kernel
theorem iw:ae d7 "_law_box_here" := by decide +kernel
theorem fb:ae d7 "_law_way" := by decide +kernel
theorem jG:ai d7 "_law_take" := by decide +kernel
theorem qd:ai d7 "_law_frac" := by decide +kernel
theorem hJ:ae dH "_law_box_here" := by decide +kernel
theorem gE:ae dH "_law_way" := by decide +kernel
theorem ja:ai dH "_law_take" := by decide +kernel
theorem pC:ai dH "_law_frac" := by decide +kernel
theorem b6:ae bd "_law_box_here" := by decide +kernel
theorem jC:mF bd "_law_places" := by decide +kernel
theorem gU:ae bd "_law_many" := by decide +kernel
theorem qf:mF bd "_law_first" := by decide +kernel
theorem i8:ae bd "_law_a" := by decide +kernel
theorem jf:ae bd "_law_b" := by decide +kernel
theorem hU:ae bd "_law_more" := by decide +kernel
theorem jI:ae bd "_law_gains" := by decide +kernel
theorem eF:ae bd "_law_spots" := by decide +kernel
theorem dm:ai bd "_law_take" := by decide +kernel
theorem mS:ai bd "len" := by decide +kernel
theorem kh:ai bd "_law_frac" := by decide +kernel
theorem se:ai bd "range" := by decide +kernel
theorem tu:ai bd "list" := by decide +kernel
theorem ud:ai bd "zip" := by decide +kernel
theorem aA:mF aB "_law_box_here" := by decide +kernel
theorem md:ae aB "_law_most_places" := by decide +kernel
theorem nO:ae aB "_law_most_ties" := by decide +kernel
theorem iV:ae aB "_law_way" := by decide +kernel
theorem hZ:ae aB "_law_great" := by decide +kernel
theorem bt:ae aB "_law_places" := by decide +kernel
theorem k4:ae aB "_law_many" := by decide +kernel
theorem sr:mF aB "_law_some" := by decide +kernel
theorem gC:ae aB "_law_worths" := by decide +kernel
theorem fz:ae aB "_law_ends" := by decide +kernel
theorem si:ae aB "_law_turn" := by decide +kernel
theorem jz:ae aB "_law_at" := by decide +kernel
theorem dk:ae aB "_law_begin" := by decide +kernel
theorem d8:ae aB "_law_end" := by decide +kernel
theorem dJ:ae aB "_law_gain" := by decide +kernel
theorem kS:ae aB "_law_less" := by decide +kernel
theorem cJ:ae aB "_law_ties" := by decide +kernel
theorem lZ:ae aB "_law_top" := by decide +kernel
theorem bj:ai aB "_law_take" := by decide +kernel
theorem oM:ai aB "_law_names_by" := by decide +kernel
theorem um:ai aB "dict" := by decide +kernel
theorem oZ:ai aB "_law_planted" := by decide +kernel
theorem tM:ai aB "range" := by decide +kernel
theorem fN:ai aB "len" := by decide +kernel
theorem oG:ai aB "_law_any_gain" := by decide +kernel
theorem pd:ai aB "_law_product" := by decide +kernel
theorem sq:ai aB "_law_over" := by decide +kernel
theorem oJ:ai aB "_law_any_much" := by decide +kernel
theorem nq:ai aB "_law_any_price" := by decide +kernel
theorem sX:ai aB "tuple" := by decide +kernel
theorem sU:ae jj "_law_net" := by decide +kernel
theorem pi:ai jj "enumerate" := by decide +kernel
theorem sB:ae dW "_law_net" := by decide +kernel
theorem rX:ae dW "_law_way" := by decide +kernel
theorem eG:ae dW "_law_found" := by decide +kernel
theorem jq:ae dW "_law_number" := by decide +kernel
theorem oA:ai dW "_law_product" := by decide +kernel
theorem eY:ae bT "_law_net" := by decide +kernel
theorem o7:ae bT "_law_begin" := by decide +kernel
theorem fV:ae bT "_law_found" := by decide +kernel
theorem da:ae bT "_law_waiting" := by decide +kernel
theorem ic:ae bT "_law_way" := by decide +kernel
theorem dQ:ae bT "_law_spots" := by decide +kernel
theorem bP:ae bT "_law_number" := by decide +kernel
theorem oh:ai bT "_law_opened" := by decide +kernel
theorem qG:mF bA "_law_net" := by decide +kernel
theorem bK:ae bA "_law_thing" := by decide +kernel
theorem cw:ae bA "_law_begins" := by decide +kernel
theorem mK:ai bA "isinstance" := by decide +kernel
theorem sh:ai bA "list" := by decide +kernel
theorem iZ:ai bA "len" := by decide +kernel
theorem sY:ai bA "all" := by decide +kernel
theorem sZ:ai bA "any" := by decide +kernel
theorem tG:ai bA "set" := by decide +kernel
theorem oX:ai bA "_law_above" := by decide +kernel
theorem nj:ai bA "_law_gain_of" := by decide +kernel
theorem jB:ae ay "_law_which" := by decide +kernel
theorem kj:ae ay "_law_net" := by decide +kernel
theorem je:ae ay "_law_begin" := by decide +kernel
theorem kq:ae ay "_law_end" := by decide +kernel
theorem dN:ae ay "_law_found" := by decide +kernel
theorem bu:ae ay "_law_caught" := by decide +kernel
theorem kz:ae ay "error" := by decide +kernel
theorem dA:ae ay "_law_others" := by decide +kernel
theorem kH:ai ay "greatest_gain" := by decide +kernel
theorem oN:ai ay "best_way" := by decide +kernel
theorem nQ:ai ay "GainError" := by decide +kernel
theorem cO:ai ay "isinstance" := by decide +kernel
theorem nt:ai ay "BadNumber" := by decide +kernel
theorem qu:ai ay "Taken" := by decide +kernel
theorem pf:ai ay "NoPlace" := by decide +kernel
theorem qY:ai ay "NoTie" := by decide +kernel
theorem qc:ai ay "AsItIs" := by decide +kernel
theorem qh:ai ay "NoEnds" := by decide +kernel
theorem sj:ai ay "Over" := by decide +kernel
theorem pA:ai ay "TooMuch" := by decide +kernel
theorem nV:ai ay "NotSoMuch" := by decide +kernel
theorem qB:ai ay "Short" := by decide +kernel
theorem pD:ai ay "Lacking" := by decide +kernel
theorem qm:ai ay "BadRow" := by decide +kernel
theorem oK:ai ay "BadSheet" := by decide +kernel
theorem pH:ai ay "Gaining" := by decide +kernel
theorem mI:ai ay "ValueError" := by decide +kernel
theorem bq:ae cG "_law_found" := by decide +kernel
theorem bw:ae cG "_law_due" := by decide +kernel
theorem aT:ai cG "isinstance" := by decide +kernel
theorem kL:ai cG "list" := by decide +kernel
theorem jY:ai cG "tuple" := by decide +kernel
theorem qP:ai cG "len" := by decide +kernel
theorem xc:ai cG "all" := by decide +kernel
theorem wT:ai cG "zip" := by decide +kernel
theorem mz:ai cG "str" := by decide +kernel
theorem kO:ai cG "bool" := by decide +kernel
theorem xx:ai cG "int" := by decide +kernel
theorem iX:ae cg "_law_net" := by decide +kernel
theorem qy:ae cg "_law_begin" := by decide +kernel
theorem sS:ae cg "_law_end" := by decide +kernel
theorem cz:ae cg "_law_found" := by decide +kernel
theorem iO:ae cg "_law_way" := by decide +kernel
theorem iF:ae cg "_law_gain" := by decide +kernel
theorem ow:ai cg "_law_all_ways" := by decide +kernel
theorem pS:ai cg "_law_gain_of" := by decide +kernel
theorem qU:ai cg "_law_above" := by decide +kernel
theorem bW:ae cy "_law_way" := by decide +kernel
theorem ss:ae cy "_law_begin" := by decide +kernel
theorem tZ:ae cy "_law_end" := by decide +kernel
theorem iC:ae cy "_law_spots" := by decide +kernel
theorem pK:ai cy "isinstance" := by decide +kernel
theorem uP:ai cy "list" := by decide +kernel
theorem wn:ai cy "all" := by decide +kernel
theorem wo:ai cy "any" := by decide +kernel
theorem pX:ai cy "len" := by decide +kernel
theorem wu:ai cy "set" := by decide +kernel
theorem dC:ae ba "_law_net" := by decide +kernel
theorem dB:ae ba "_law_end" := by decide +kernel
theorem bL:ae ba "_law_told" := by decide +kernel
theorem cQ:ae ba "_law_place" := by decide +kernel
theorem gS:ae ba "_law_number" := by decide +kernel
theorem bE:ae ba "_law_tie" := by decide +kernel
theorem jF:ai ba "greatest_gain" := by decide +kernel
theorem mh:ai ba "_law_opened" := by decide +kernel
theorem mL:ai ba "_law_above" := by decide +kernel
theorem lq:ai ba "_law_product" := by decide +kernel
theorem bF:ae bG "_law_net" := by decide +kernel
theorem dI:ae bG "_law_begin" := by decide +kernel
theorem fi:ae bG "_law_end" := by decide +kernel
theorem bR:ae bG "_law_gain" := by decide +kernel
theorem bN:ae bG "_law_way" := by decide +kernel
theorem jE:ai bG "_law_all_told" := by decide +kernel
theorem mM:ai bG "gaining_round" := by decide +kernel
theorem jv:ai bG "_law_is_round" := by decide +kernel
theorem vZ:ai bG "len" := by decide +kernel
theorem mG:ai bG "_law_same" := by decide +kernel
theorem qX:ai bG "_law_due_of" := by decide +kernel
theorem sw:ai bG "_law_leads" := by decide +kernel
theorem qi:ai bG "_law_gain_of" := by decide +kernel
theorem mJ:ai bG "_law_none_better" := by decide +kernel
theorem uJ:ae cA "_law_script" := by decide +kernel
theorem kK:ae cA "_law_cells" := by decide +kernel
theorem vA:ae cA "_law_k" := by decide +kernel
theorem f8:ae cA "_law_box_here" := by decide +kernel
theorem wK:ae cA "_law_turn" := by decide +kernel
theorem cC:ae cA "_law_net" := by decide +kernel
theorem mT:ae cA "_law_written" := by decide +kernel
theorem vV:ae cA "_law_again" := by decide +kernel
theorem pF:ae cA "_law_at" := by decide +kernel
theorem kI:ae cA "_law_begin" := by decide +kernel
theorem nY:ae cA "_law_end" := by decide +kernel
theorem uL:ai cA "_law_folded" := by decide +kernel
theorem nS:ai cA "range" := by decide +kernel
theorem AU:ai cA "max" := by decide +kernel
theorem mV:ai cA "len" := by decide +kernel
theorem x6:ai cA "_law_box" := by decide +kernel
theorem uR:ai cA "_law_net_by" := by decide +kernel
theorem vz:ai cA "str" := by decide +kernel
theorem qQ:ai cA "_law_take" := by decide +kernel
theorem qb:ai cA "_law_right" := by decide +kernel
theorem jh:ae bY "self" := by decide +kernel
theorem fU:ae bY "ties" := by decide +kernel
theorem lA:ai bY "GainError" := by decide +kernel
theorem kJ:ai bY "isinstance" := by decide +kernel
theorem jy:ai bY "list" := by decide +kernel
end K13
namespace L2
open PySem PySem.Spec PySem.Calls PyProof.Rows
def topRunT (tb:String→Option Builtin) (p:Program) (w:World) (n₀:Nat) (ann:Option Value):Nat→PySem.W.SharedT→Thread→Option PySem.W.SharedT
 | 0,_,_=>none
 | n+1,s,t=>match PySem.W.through t with
  | true=>some s
  | false=>match PySem.W.stepOk n₀ ann t with
   | false=>none
   | true=>match PySem.W.stepT (denote tb) p w s t with
    | some (s',t')=>topRunT tb p w n₀ ann n s' t'
    | none=>none
theorem vm {tb:String→Option Builtin}{p:Program}{w:World}{n₀:Nat}{ann:Option Value}:∀{n:Nat}{s s':PySem.W.SharedT}{t:Thread},topRunT tb p w n₀ ann n s t=some s'→PySem.W.topRun tb p w n₀ ann n s.abs t=some s'.abs
 | 0,_,_,_,h=>by cases h
 | n+1,s,s',t,h=>by
  unfold topRunT at h
  unfold PySem.W.topRun
  cases he:PySem.W.through t with
  | true=>rw [he] at h;cases h;rfl
  | false=>
   rw [he] at h
   cases hk:PySem.W.stepOk n₀ ann t with
   | false=>rw [hk] at h;cases h
   | true=>
    rw [hk] at h
    cases hs:PySem.W.stepT (denote tb) p w s t with
    | none=>rw [hs] at h;cases h
    | some r=>obtain ⟨s₂,t₂⟩:=r;rw [hs] at h;rw [PySem.W.stepT_spec hs];exact vm h
open PySem.W in
noncomputable def Hk (P:Params):BT:=.node (boot_o_0 P) (.node (boot_o_1 P) (.node (boot_o_3 P) (.node (boot_o_7 P) .nil .nil) .nil) (.node (boot_o_5 P) (.node (boot_o_9 P) .nil .nil) .nil)) (.node (boot_o_2 P) (.node (boot_o_4 P) (.node (boot_o_8 P) .nil .nil) .nil) (.node (boot_o_6 P) (.node (boot_o_10 P) .nil .nil) .nil))
noncomputable def bootS (w:World) (os:OsState):PySem.W.SharedT:=⟨Hk w.params,11,{},#[],PySem.W.boot_drawn,PySem.W.boot_toks,os⟩
theorem AG (w:World):((PySem.W.boot_heap w.params).isNs mainGlobals,(PySem.W.boot_heap w.params).objs.size,(PySem.W.boot_heap w.params).nsMap mainGlobals "__annotations__")=(true,11,some (.ref 6)):=by kernel_rfl
noncomputable def looks {α:Type} (p q:Program) (Xt:Shared→Bool) (Yf:Shared→α) (w:World) (s:Shared):=
 (PySem.W.staticsOk (importedModules p.main.body) (PySem.W.boot_heap w.params) s.heap && PySem.W.namesBound p s.heap && PySem.W.gensDone s && PySem.W.laidKept (PySem.W.boot_heap w.params) s.heap,PySem.W.openSeen q [] (importedModules p.main.body) Xt true s,Yf s)
theorem left_tree {p q:Program}{Xt:Shared→Bool}{α:Type}{Yf:Shared→α}{Ya:α}{N:Nat}
 (e:PySem.W.opening p=PySem.W.plainProg p.main.scope.names) (hN:Nat.ble 600 N=true) (f:∀s,PySem.fenceModules? p s=some s)
 (run:∀(w:World) (os:OsState),(topRunT treeTable p w 11 (some (.ref 6)) N (bootS w os) (PySem.W.topStub p)).map (fun s=>looks p q Xt Yf w s.abs)=some (true,PySem.W.openGood q [],Ya)) :
 PySem.W.LeftO p q [] Xt Yf (fun _=>Ya) N:=fun w=>by
 obtain ⟨⟨h,gs,d,k,os⟩,ef,ev⟩:=Option.map_eq_some_iff.mp (PySem.W.boot_open e hN f w)
 obtain ⟨rfl,rfl,rfl,rfl⟩:h=PySem.W.boot_heap w.params∧gs=#[]∧d=PySem.W.boot_drawn∧k=PySem.W.boot_toks:=by simpa using ev
 obtain ⟨st,er,el⟩:=Option.map_eq_some_iff.mp (run w os)
 have r:=vm er
 have e0:(bootS w os).abs=⟨PySem.W.boot_heap w.params,#[],PySem.W.boot_drawn,PySem.W.boot_toks,os⟩:=rfl
 rw [e0] at r
 obtain ⟨z1,z2,z3⟩:_∧_∧_:=by simpa only [Prod.mk.injEq] using AG w
 obtain ⟨l1,l2,l3⟩:_∧_∧_:=by simpa only [looks,Prod.mk.injEq] using el
 have t:PySem.W.topFrom treeTable p w N ⟨PySem.W.boot_heap w.params,#[],PySem.W.boot_drawn,PySem.W.boot_toks,os⟩=some st.abs:=by
  unfold PySem.W.topFrom
  dsimp only
  rw [z1,z2,z3,r]
  show (match PySem.W.staticsOk (importedModules p.main.body) (PySem.W.boot_heap w.params) st.abs.heap && PySem.W.namesBound p st.abs.heap && PySem.W.gensDone st.abs && PySem.W.laidKept (PySem.W.boot_heap w.params) st.abs.heap with | true=>_ | false=>_)=_
  rw [l1]
 unfold PySem.W.openEnds
 rw [ef]
 show (PySem.W.topFrom treeTable p w N _).map _=_
 rw [t]
 exact congrArg some (Prod.ext l2 l3)
theorem left_of2 {α β:Type}{f f':World→β→α}{g g':α} (ef:f=f') (eg:g=g') (h:∀w os,f' w os=g') (w:World) (os:β):f w os=g:=by
 rw [ef,eg];exact h w os
end L2
namespace K13
open PySem L2
def qv:Program:=PySem.W.view PySem.Challenge.pw_gainroads_k13_greatest_gains_and_best_wa [1,2,3,4,5,6,7,8,9,10,11,12,13,14,15,17,18,19,20,22,23,24,25,26,27,28,29,31,32,33,34,35,36,37,38,39,40,41,42,43,44,45,46,47,48,49,50,51,52,53,54]
def obs (K:PySem.W.Frag):List (Option FuncData)×List Bool:=([fG K "common_divisor",
 fG K "fraction",
 fG K "times",
 fG K "compared",
 fG K "is_shut",
 fG K "lift_once",
 fG K "round_ahead",
 fG K "gaining_round",
 fG K "lift_all",
 fG K "holding_worths",
 fG K "greatest_gain",
 fG K "best_way",
 fG K "_law_box",
 fG K "_law_take",
 fG K "_law_folded",
 fG K "_law_frac",
 fG K "_law_product",
 fG K "_law_over",
 fG K "_law_above",
 fG K "_law_names_by",
 fG K "_law_any_gain",
 fG K "_law_any_much",
 fG K "_law_any_price",
 fG K "_law_planted",
 fG K "_law_net_by",
 fG K "_law_opened",
 fG K "_law_gain_of",
 fG K "_law_all_ways",
 fG K "_law_is_round",
 fG K "_law_all_told",
 fG K "_law_same",
 fG K "_law_due_of",
 fG K "_law_leads",
 fG K "_law_none_better",
 fG K "_law_right",
 fG K "law",
 ib K (PySem.W.findIn K (.ref (aF (PySem.W.nsIn K mainGlobals "Gaining"))) "__init__") "Gaining.__init__",
 ib K (PySem.W.findIn K (.ref (aF (PySem.W.nsIn K mainGlobals "NotSoMuch"))) "__init__") "NotSoMuch.__init__",
 ib K (PySem.W.findIn K (.ref (aF (PySem.W.nsIn K mainGlobals "Short"))) "__init__") "Short.__init__",
 ib K (PySem.W.findIn K (.ref (aF (PySem.W.nsIn K mainGlobals "Lacking"))) "__init__") "Lacking.__init__",
 ib K (PySem.W.findIn K (.ref (aF (PySem.W.nsIn K mainGlobals "BadRow"))) "__init__") "BadRow.__init__",
 ib K (PySem.W.findIn K (.ref (aF (PySem.W.nsIn K mainGlobals "BadSheet"))) "__init__") "BadSheet.__init__"],
 [i9 (PySem.W.nsIn K mainGlobals "GainError"),
 i9 (PySem.W.nsIn K mainGlobals "BadNumber"),
 i9 (PySem.W.nsIn K mainGlobals "Taken"),
 i9 (PySem.W.nsIn K mainGlobals "NoPlace"),
 i9 (PySem.W.nsIn K mainGlobals "NoTie"),
 i9 (PySem.W.nsIn K mainGlobals "AsItIs"),
 i9 (PySem.W.nsIn K mainGlobals "NoEnds"),
 i9 (PySem.W.nsIn K mainGlobals "Over"),
 i9 (PySem.W.nsIn K mainGlobals "TooMuch"),
 i9 (PySem.W.nsIn K mainGlobals "Gaining"),
 i9 (PySem.W.nsIn K mainGlobals "NotSoMuch"),
 i9 (PySem.W.nsIn K mainGlobals "Short"),
 i9 (PySem.W.nsIn K mainGlobals "Lacking"),
 i9 (PySem.W.nsIn K mainGlobals "BadRow"),
 i9 (PySem.W.nsIn K mainGlobals "BadSheet"),
 PySem.W.keepIn K (.ref (aF (PySem.W.nsIn K mainGlobals "GainError"))),
 zJ K (aF (PySem.W.nsIn K mainGlobals "GainError")),
 PySem.W.keepIn K (.ref (aF (PySem.W.nsIn K mainGlobals "BadNumber"))),
 bO K (aF (PySem.W.nsIn K mainGlobals "BadNumber")) (none),
 PySem.W.keepIn K (.ref (aF (PySem.W.nsIn K mainGlobals "Taken"))),
 bO K (aF (PySem.W.nsIn K mainGlobals "Taken")) (none),
 PySem.W.keepIn K (.ref (aF (PySem.W.nsIn K mainGlobals "NoPlace"))),
 bO K (aF (PySem.W.nsIn K mainGlobals "NoPlace")) (none),
 PySem.W.keepIn K (.ref (aF (PySem.W.nsIn K mainGlobals "NoTie"))),
 bO K (aF (PySem.W.nsIn K mainGlobals "NoTie")) (none),
 PySem.W.keepIn K (.ref (aF (PySem.W.nsIn K mainGlobals "AsItIs"))),
 bO K (aF (PySem.W.nsIn K mainGlobals "AsItIs")) (none),
 PySem.W.keepIn K (.ref (aF (PySem.W.nsIn K mainGlobals "NoEnds"))),
 bO K (aF (PySem.W.nsIn K mainGlobals "NoEnds")) (none),
 PySem.W.keepIn K (.ref (aF (PySem.W.nsIn K mainGlobals "Over"))),
 bO K (aF (PySem.W.nsIn K mainGlobals "Over")) (none),
 PySem.W.keepIn K (.ref (aF (PySem.W.nsIn K mainGlobals "TooMuch"))),
 bO K (aF (PySem.W.nsIn K mainGlobals "TooMuch")) (none),
 PySem.W.keepIn K (.ref (aF (PySem.W.nsIn K mainGlobals "Gaining"))),
 PySem.W.isFn K (.ref (aF (PySem.W.findIn K (.ref (aF (PySem.W.nsIn K mainGlobals "Gaining"))) "__init__"))),
 gB K (aF (PySem.W.nsIn K mainGlobals "Gaining")) "ties",
 jA K (aF (PySem.W.nsIn K mainGlobals "Gaining")) "ties",
 bO K (aF (PySem.W.nsIn K mainGlobals "Gaining")) (some (.ref (aF (PySem.W.findIn K (.ref (aF (PySem.W.nsIn K mainGlobals "Gaining"))) "__init__")))),
 PySem.W.keepIn K (.ref (aF (PySem.W.nsIn K mainGlobals "NotSoMuch"))),
 PySem.W.isFn K (.ref (aF (PySem.W.findIn K (.ref (aF (PySem.W.nsIn K mainGlobals "NotSoMuch"))) "__init__"))),
 gB K (aF (PySem.W.nsIn K mainGlobals "NotSoMuch")) "most",
 jA K (aF (PySem.W.nsIn K mainGlobals "NotSoMuch")) "most",
 bO K (aF (PySem.W.nsIn K mainGlobals "NotSoMuch")) (some (.ref (aF (PySem.W.findIn K (.ref (aF (PySem.W.nsIn K mainGlobals "NotSoMuch"))) "__init__")))),
 PySem.W.keepIn K (.ref (aF (PySem.W.nsIn K mainGlobals "Short"))),
 PySem.W.isFn K (.ref (aF (PySem.W.findIn K (.ref (aF (PySem.W.nsIn K mainGlobals "Short"))) "__init__"))),
 gB K (aF (PySem.W.nsIn K mainGlobals "Short")) "share",
 jA K (aF (PySem.W.nsIn K mainGlobals "Short")) "share",
 bO K (aF (PySem.W.nsIn K mainGlobals "Short")) (some (.ref (aF (PySem.W.findIn K (.ref (aF (PySem.W.nsIn K mainGlobals "Short"))) "__init__")))),
 PySem.W.keepIn K (.ref (aF (PySem.W.nsIn K mainGlobals "Lacking"))),
 PySem.W.isFn K (.ref (aF (PySem.W.findIn K (.ref (aF (PySem.W.nsIn K mainGlobals "Lacking"))) "__init__"))),
 gB K (aF (PySem.W.nsIn K mainGlobals "Lacking")) "place",
 jA K (aF (PySem.W.nsIn K mainGlobals "Lacking")) "place",
 bO K (aF (PySem.W.nsIn K mainGlobals "Lacking")) (some (.ref (aF (PySem.W.findIn K (.ref (aF (PySem.W.nsIn K mainGlobals "Lacking"))) "__init__")))),
 PySem.W.keepIn K (.ref (aF (PySem.W.nsIn K mainGlobals "BadRow"))),
 PySem.W.isFn K (.ref (aF (PySem.W.findIn K (.ref (aF (PySem.W.nsIn K mainGlobals "BadRow"))) "__init__"))),
 gB K (aF (PySem.W.nsIn K mainGlobals "BadRow")) "row",
 jA K (aF (PySem.W.nsIn K mainGlobals "BadRow")) "row",
 bO K (aF (PySem.W.nsIn K mainGlobals "BadRow")) (some (.ref (aF (PySem.W.findIn K (.ref (aF (PySem.W.nsIn K mainGlobals "BadRow"))) "__init__")))),
 PySem.W.keepIn K (.ref (aF (PySem.W.nsIn K mainGlobals "BadSheet"))),
 PySem.W.isFn K (.ref (aF (PySem.W.findIn K (.ref (aF (PySem.W.nsIn K mainGlobals "BadSheet"))) "__init__"))),
 gB K (aF (PySem.W.nsIn K mainGlobals "BadSheet")) "row",
 jA K (aF (PySem.W.nsIn K mainGlobals "BadSheet")) "row",
 bO K (aF (PySem.W.nsIn K mainGlobals "BadSheet")) (some (.ref (aF (PySem.W.findIn K (.ref (aF (PySem.W.nsIn K mainGlobals "BadSheet"))) "__init__")))),
 Bc (PySem.W.exmOne K (.ref (aF (PySem.W.nsIn K mainGlobals "Gaining"))) (.ref (aF (PySem.W.nsIn K mainGlobals "GainError")))),
 rL K [(aF (PySem.W.nsIn K mainGlobals "BadNumber")),(aF (PySem.W.nsIn K mainGlobals "Taken")),(aF (PySem.W.nsIn K mainGlobals "NoPlace")),(aF (PySem.W.nsIn K mainGlobals "NoTie")),(aF (PySem.W.nsIn K mainGlobals "AsItIs")),(aF (PySem.W.nsIn K mainGlobals "NoEnds")),(aF (PySem.W.nsIn K mainGlobals "Over")),(aF (PySem.W.nsIn K mainGlobals "TooMuch")),(aF (PySem.W.nsIn K mainGlobals "Gaining")),(aF (PySem.W.nsIn K mainGlobals "NotSoMuch")),(aF (PySem.W.nsIn K mainGlobals "Short")),(aF (PySem.W.nsIn K mainGlobals "Lacking")),(aF (PySem.W.nsIn K mainGlobals "BadRow")),(aF (PySem.W.nsIn K mainGlobals "BadSheet"))] (aF (PySem.W.nsIn K mainGlobals "GainError")),
 fD (PySem.W.nsIn K mainGlobals "ValueError"),
 fD (PySem.W.nsIn K mainGlobals "abs"),
 fD (PySem.W.nsIn K mainGlobals "all"),
 fD (PySem.W.nsIn K mainGlobals "any"),
 fD (PySem.W.nsIn K mainGlobals "bool"),
 fD (PySem.W.nsIn K mainGlobals "dict"),
 fD (PySem.W.nsIn K mainGlobals "divmod"),
 fD (PySem.W.nsIn K mainGlobals "enumerate"),
 fD (PySem.W.nsIn K mainGlobals "int"),
 fD (PySem.W.nsIn K mainGlobals "isinstance"),
 fD (PySem.W.nsIn K mainGlobals "len"),
 fD (PySem.W.nsIn K mainGlobals "list"),
 fD (PySem.W.nsIn K mainGlobals "max"),
 fD (PySem.W.nsIn K mainGlobals "range"),
 fD (PySem.W.nsIn K mainGlobals "set"),
 fD (PySem.W.nsIn K mainGlobals "str"),
 fD (PySem.W.nsIn K mainGlobals "tuple"),
 fD (PySem.W.nsIn K mainGlobals "zip")])
def due:List (Option FuncData)×List Bool:=([dG "common_divisor" "common_divisor" iW,
 dG "fraction" "fraction" fS,
 dG "times" "times" lC,
 dG "compared" "compared" fX,
 dG "is_shut" "is_shut" mO,
 dG "lift_once" "lift_once" aY,
 dG "round_ahead" "round_ahead" cM,
 dG "gaining_round" "gaining_round" bp,
 dG "lift_all" "lift_all" c6,
 dG "holding_worths" "holding_worths" mD,
 dG "greatest_gain" "greatest_gain" bX,
 dG "best_way" "best_way" cF,
 dG "_law_box" "_law_box" uI,
 dG "_law_take" "_law_take" tQ,
 dG "_law_folded" "_law_folded" pc,
 dG "_law_frac" "_law_frac" hV,
 dG "_law_product" "_law_product" gn,
 dG "_law_over" "_law_over" jS,
 dG "_law_above" "_law_above" kA,
 dG "_law_names_by" "_law_names_by" br,
 dG "_law_any_gain" "_law_any_gain" df,
 dG "_law_any_much" "_law_any_much" d7,
 dG "_law_any_price" "_law_any_price" dH,
 dG "_law_planted" "_law_planted" bd,
 dG "_law_net_by" "_law_net_by" aB,
 dG "_law_opened" "_law_opened" jj,
 dG "_law_gain_of" "_law_gain_of" dW,
 dG "_law_all_ways" "_law_all_ways" bT,
 dG "_law_is_round" "_law_is_round" bA,
 dG "_law_all_told" "_law_all_told" ay,
 dG "_law_same" "_law_same" cG,
 dG "_law_due_of" "_law_due_of" cg,
 dG "_law_leads" "_law_leads" cy,
 dG "_law_none_better" "_law_none_better" ba,
 dG "_law_right" "_law_right" bG,
 dG "law" "law" cA,
 dG "__init__" "Gaining.__init__" bY,
 dG "__init__" "NotSoMuch.__init__" kW,
 dG "__init__" "Short.__init__" qa,
 dG "__init__" "Lacking.__init__" mP,
 dG "__init__" "BadRow.__init__" oP,
 dG "__init__" "BadSheet.__init__" lF],[true,true,true,true,true,true,true,true,true,true,true,true,true,true,true,true,true,true,true,true,true,true,true,true,true,true,true,true,true,true,true,true,true,true,true,true,true,true,true,true,true,true,true,true,true,true,true,true,true,true,true,true,true,true,true,true,true,true,true,true,true,true,true,true,true,true,true,true,true,true,true,true,true,true,true,true,true,true,true,true,true,true,true])
end K13
def L2.Xt (s:PySem.Shared):Bool:=PySem.W.xlAt K13.qv [] s && PySem.W.recOk [] s
def L2.Yf (s:PySem.Shared):=K13.obs (L2.fragOf s.heap)
noncomputable def L2.lhs (w:PySem.World) (os:PySem.OsState):=(L2.topRunT PySem.treeTable PySem.Challenge.pw_gainroads_k13_greatest_gains_and_best_wa w 11 (some (.ref 6)) 9140 (L2.bootS w os) (PySem.W.topStub PySem.Challenge.pw_gainroads_k13_greatest_gains_and_best_wa)).map fun s=>L2.looks PySem.Challenge.pw_gainroads_k13_greatest_gains_and_best_wa K13.qv L2.Xt L2.Yf w s.abs
noncomputable def L2.rhs:=some (true,PySem.W.openGood K13.qv [],K13.due)
theorem L2.lhs0:L2.lhs=L2.lhs:=rfl
theorem L2.rhs0:L2.rhs=L2.rhs:=rfl
name_quick lhsQ for L2.lhs by L2.lhs0
name_quick rhsQ for L2.rhs by L2.rhs0
theorem L2.left:∀w os,L2.lhs w os=L2.rhs:=L2.left_of2 PySem.W.Fast.lhsQ_eq PySem.W.Fast.rhsQ_eq (fun w os=>by kernel_rfl)
namespace K13
open PySem L2
section
variable {P:Program}{w:World}{K:PySem.W.Frag}{mg:Str→Option Value}{base:Heap}
inductive FT (vs:List V) (H:Hp) (Q:VK):Prop
 | mk (n d:Int) (h0:vs=[.int n,.int d]) (h1:Q (.int (Int.gcd n d:Nat)) H)
def Hu:Sp:=fun vs H Q _=>FT  vs H Q
theorem su (T:Txt K mg):aZ P w K mg base CX0 1 T.common_divisor_.f T.common_divisor_.d ["n", "d"] Hu:=by
 refine T.common_divisor_.F.ok kX (fun vs H Q E h=>?_) (fun cdv A outer s H vs Q E hr h=>?_)
 ·obtain ⟨n,d,rfl,_⟩:=h
  rfl
 ·obtain ⟨n,d,rfl,k⟩:=h
  refine ⟨_,(ft (jM PassesOwn.never (aq jo (pv 1) bC (au _)) (ad (kD (i:=0) (j:=1) rfl kX.nd rfl rfl (by decide) rfl rfl (cS (pv 1) (cS (ak Dk (pv 0) (pv 1)) b7)) rfl)))
   (ad (aw (ao lY (by rfl) T.b_abs jk (cS (pv 0) b7))))),?_⟩
  refine ⟨fun m σ H'=>∃a b:Int,σ=[some (.int a),some (.int b)]∧H'=H∧Int.gcd a b=Int.gcd n d∧m=b.natAbs,⟨_,n,d,rfl,rfl,rfl,rfl⟩,?_⟩
  rintro m σ H' ⟨a,b,rfl,rfl,hg,rfl⟩
  refine ⟨_,rfl,rfl,_,rfl,?_⟩
  by_cases hb:b=0
  ·subst hb
   refine aM ?_
   refine ⟨_,rfl,_,rfl,?_⟩
   rw [←KM.gcd_zero_abs,hg]
   exact k
  ·have e:(!decide (V.int b=V.int 0))=true:=by
    rw [decide_eq_false (fun z=>hb (by injection z))];rfl
   rw [e]
   refine bh ⟨fun σ' H''=>∃a' b':Int,σ'=[some (.int a'),some (.int b')]∧H''=H'∧Int.gcd a' b'=Int.gcd n d∧b'.natAbs<b.natAbs,?_,?_⟩
   ·rintro σ' H'' ⟨a',b',rfl,rfl,h1,h2⟩
    exact ⟨_,h2,a',b',rfl,rfl,h1,rfl⟩
   ·refine ⟨_,rfl,_,rfl,_,rfl,_,_,rfl,rfl,hb,_,_,rfl,?_⟩
    exact ⟨b,a.fmod b,rfl,rfl,(KM.gcd_fmod a b).trans hg,KM.fmod_natAbs_lt a b hb⟩
end
end K13
namespace K13
open PySem L2
section
variable {P:Program}{w:World}{K:PySem.W.Frag}{mg:Str→Option Value}{base:Heap}
theorem Gn (T:Txt K mg):aZ P w K mg base CX0 1 T.l_box_.f T.l_box_.d ["_law_script", "_law_k"] (He K):=by
 refine T.l_box_.F.ok sV (fun vs H Q E h=>?_) (fun cdv A outer s H vs Q E hr h=>?_)
 ·obtain ⟨a,ms,k,rfl,_⟩:=h
  rfl
 ·obtain ⟨a,ms,k,rfl,hS,hk0,hk1,kk⟩:=h
  refine ⟨_,(ft (mf (i:=2) sV.nd rfl (Or.inl rfl) bC)
   (ft (be (aq lh (pv 1) (ao qE (by rfl) T.b_len aX (cS (pv 0) b7)) (au _)) (ad (mf (i:=2) sV.nd rfl (Or.inl rfl) (cf jD (pv 0) (pv 1) (fun _ _=>rfl)))) aN)
   (ad (aw (E4 (cS (ak gc (ao lY (by rfl) T.b_abs jk (cS (pv 2) b7)) (dX vH (by rfl) T.b_int nn (cS (cI Ht (ao lY (by rfl) T.b_abs jk (cS (pv 2) b7)) (ak xS bC bC) (au _)) b7))) (cS (ak ig (ak bH (pv 2) (ak gc (ak gc bC (pv 1)) (pv 1))) bC) (cS bC b7)))))))),?_⟩
  refine ⟨_,rfl,_,rfl,a,_,rfl,.inl hS,_,_,rfl,rfl,_,rfl,?_⟩
  refine mm (fun h=>?_) (fun h=>?_)
  case' refine_1=>
   have hlt:k.toNat<ms.length:=by
    have h':=of_decide_eq_true h
    rw [List.length_map] at h'
    trivial
   refine ⟨_,rfl,_,rfl,.inl ⟨a,_,_,V.int ms[k.toNat],rfl,rfl,hS,?_,?_⟩⟩
   ·exact yw hk0 hlt
  all_goals
   refine ⟨_,rfl,_,rfl,_,rfl,_,rfl,_,_,rfl,rfl,⟨by decide,by decide,by decide⟩,_,_,rfl,rfl,.inr ⟨_,rfl,_,_,rfl,rfl,.inr ?_,_,rfl,_,rfl,_,_,rfl,rfl,.inr ⟨by trivial,by trivial⟩,_,rfl,_,_,rfl,rfl,.inr ⟨by trivial,by trivial⟩,_,_,rfl,rfl,_,_,rfl,rfl,?_,?_,fun p hp=>kk p _ hp (ah.new hp) ⟨_,_,ar,?_,?_,?_⟩⟩⟩
   ·exact JD _
   ·show (0:Int)<2147483647;decide
   ·show 3≤sizeLine;decide
   ·exact Hg _ (xg _)
   ·exact Int.emod_nonneg _ (by decide)
   ·exact Int.emod_lt_of_pos _ (by decide)
end
end K13
namespace K13
open PySem L2
section
variable {P:Program}{w:World}{K:PySem.W.Frag}{mg:Str→Option Value}{base:Heap}
theorem jO (T:Txt K mg):aZ P w K mg base CX0 1 T.l_take_.f T.l_take_.d ["_law_box_here", "_law_many"] EV:=by
 refine T.l_take_.F.ok rm (fun vs H Q E h=>?_) (fun cdv A outer s H vs Q E hr h=>?_)
 ·obtain ⟨b,many,t,rfl,_⟩:=h
  rfl
 ·obtain ⟨b,many,t,rfl,⟨c,x,hb,hc,hx0,hx1⟩,hm0,hm1,ht0,ht1,kk⟩:=h
  refine ⟨_,(ft (be (aq lc (cf jD (pv 0) bC (fun _ _=>rfl)) bC (au _)) (ft (gj (ao xo (by rfl) T.b_divmod wq (cS (cf jD (pv 0) bC (fun _ _=>rfl)) (cS (pv 1) b7))) (wX rfl (aS (oH (pv 0) bC tO) (aS (bo (i:=2) rm.nd rfl (Or.inl rfl)) eS))))
   (ad (aw (pv 2)))) aN)
   (ft (gj (ak bH (cf jD (pv 0) bC (fun _ _=>rfl)) bC) (oH (pv 0) bC tO))
   (ft (mf (i:=3) rm.nd rfl (Or.inl rfl) (ak ig (ak xS (ak bH (cf jD (pv 0) bC (fun _ _=>rfl)) (ak gc bC (cf jD (pv 0) bC (fun _ _=>rfl)))) bC) bC))
   (ad (aw (ak ig (ak Ex (ak ig (ak bH (ak gc (pv 3) bC) (ak gc (ak gc (cf jD (pv 0) bC (fun _ _=>rfl)) (cf jD (pv 0) bC (fun _ _=>rfl))) bC)) bC) bC) (pv 1))))))),?_⟩
  refine ⟨_,rfl,.inl ⟨b,_,_,_,rfl,rfl,am.of hb,rfl,_,_,rfl,rfl,_,rfl,?_⟩⟩
  refine mm (fun h=>?_) (fun h=>?_)
  ·refine ⟨_,rfl,.inl ⟨b,_,_,_,rfl,rfl,am.of hb,rfl,_,rfl,_,_,rfl,⟨hm0,hm1⟩,fun p hp=>⟨p,_,rfl,ag.of ar,rfl,_,_,rfl,_,rfl,b,[.int c,.int x,.int t],_,0,rfl,rfl,?_,rfl,_,_,rfl,rfl,_,rfl,?_⟩⟩⟩
   ·rw [aj (aR hb hp)];exact hb
   ·have hb':aD H p (.tup [.int (c / many),.int (c % many)]) b=some (.lst [.int c,.int x,.int t]):=by rw [aj (aR hb hp)];exact hb
    exact kk _ t _ (Int.emod_nonneg _ (Int.ne_of_gt hm0)) (Int.emod_lt_of_pos _ hm0) (Int.le_refl _) (by trivial) (vg (ah.new hp) hb') ⟨_,_,ar,Int.ediv_nonneg hc (Int.le_of_lt hm0),hx0,hx1⟩
  ·refine ⟨_,rfl,.inl ⟨b,_,_,_,rfl,rfl,am.of hb,rfl,_,_,rfl,rfl,_,rfl,b,_,_,2,rfl,rfl,hb,rfl,?_⟩⟩
   refine ⟨_,rfl,.inl ⟨b,_,_,_,rfl,rfl,am.of ar,rfl,_,rfl,.inl ⟨b,_,_,_,rfl,rfl,am.of ar,rfl,_,_,rfl,rfl,.inl ⟨by decide,by decide⟩,_,_,rfl,rfl,_,_,rfl,rfl,⟨by decide,by decide,?_⟩,_,_,rfl,rfl,?_,?_⟩⟩⟩
   ·have:(x+39373*(t+1)).natAbs<2 ^ 64:=by trivial
    exact this
   ·show (0:Int)<2147483647;decide
   have ho0:0≤(x+39373*(t+1)) ^ (5:Int).toNat % 2147483647:=Int.emod_nonneg _ (by decide)
   have ho1:(x+39373*(t+1)) ^ (5:Int).toNat % 2147483647<2147483647:=Int.emod_lt_of_pos _ (by decide)
   generalize (x+39373*(t+1)) ^ (5:Int).toNat % 2147483647=on at ho0 ho1 ⊢
   refine ⟨_,rfl,_,_,rfl,rfl,.inr ⟨by decide,by decide⟩,_,rfl,.inl ⟨b,_,_,_,rfl,rfl,am.of ar,rfl,_,rfl,.inl ⟨b,_,_,_,rfl,rfl,am.of ar,rfl,_,_,rfl,rfl,.inl ⟨?_,?_⟩,_,_,rfl,rfl,.inr ⟨by decide,by decide⟩,_,_,rfl,rfl,_,_,rfl,rfl,?_,_,_,rfl,rfl,⟨by decide,by decide⟩,_,rfl,_,_,rfl,rfl,hm0,?_⟩⟩⟩
   ·show -(2 ^ 64)<t+1;trivial
   ·show t+1<2 ^ 64;trivial
   ·show (0:Int)<2147483629;decide
   ·exact kk _ (t+1) _ (Int.emod_nonneg _ (Int.ne_of_gt hm0)) (Int.emod_lt_of_pos _ hm0) (by trivial) (Int.le_refl _) (vg (ah.refl H) hb) ⟨c,x,ar,hc,hx0,hx1⟩
end
end K13
namespace K13
open PySem L2
section
variable {P:Program}{w:World}{K:PySem.W.Frag}{mg:Str→Option Value}{base:Heap}
inductive Cg (K:PySem.W.Frag) (vs:List V) (H:Hp) (Q:VK):Prop
 | mk (a:Addr) (ns:List Int) (many:Int) (h0:vs=[.ref a,.int many]) (h1:am K H a (ns.map V.int)) (h2:ns.length≤63) (h3:2≤many) (h4:many≤63) (h5:∀p ms H',H p=none→ah H H'→H' p=some (.lst ((ms:List Int).map V.int))→(ms.length:Int)≤many→Q (.ref p) H')
def En (K:PySem.W.Frag):Sp:=fun vs H Q _=>Cg K vs H Q
theorem Ap (T:Txt K mg):aZ P w K mg base CX0 1 T.l_folded_.f T.l_folded_.d ["_law_script", "_law_many"] (En K):=by
 refine T.l_folded_.F.ok j9 (fun vs H Q E h=>?_) (fun cdv A outer s H vs Q E hr h=>?_)
 ·obtain ⟨a,ns,many,rfl,_⟩:=h
  rfl
 ·obtain ⟨a,ns,many,rfl,hS,hn,hm0,hm1,kk⟩:=h
  refine ⟨_,(ft (mf (i:=2) j9.nd rfl (Or.inl rfl) (dX qx (by rfl) T.b_list cH (cS (fZ uY (pv 0) i4 (gl (pv 1))) b7)))
   (ft (fM PassesOwn.never rfl (Ej rfl T.b_enumerate (cS (fZ uY (pv 0) (gl (pv 1)) (gl bC)) b7)) (wX rfl (aS (bo (i:=3) j9.nd rfl (Or.inl rfl)) (aS (bo (i:=4) j9.nd rfl (Or.inl rfl)) eS))) (ad (gj (ak bH (cf jD (pv 2) (ak ig (pv 3) (pv 1)) (fun _ _=>rfl)) (ak gc (pv 4) (ak bH (pv 3) bC))) (oH (pv 2) (ak ig (pv 3) (pv 1)) tO))))
   (ad (aw (pv 2))))),?_⟩
  have cutE:∀(lo hi:Option Int),∃cs:List Int,iU (ns.map V.int) lo hi=cs.map V.int∧cs.length≤ns.length∧cs=(ns.drop (HT.sIx ns.length 0 lo)).take (HT.sIx ns.length ns.length hi - HT.sIx ns.length 0 lo):=fun lo hi=>by
   refine ⟨(ns.drop (HT.sIx ns.length 0 lo)).take (HT.sIx ns.length ns.length hi - HT.sIx ns.length 0 lo),?_,?_,rfl⟩
   ·unfold iU
    rw [List.length_map,List.map_take,List.map_drop]
   ·rw [List.length_take,List.length_drop];trivial
  obtain ⟨c1,e1,l1,q1⟩:=cutE none (some many)
  obtain ⟨c2,e2,l2,q2⟩:=cutE (some many) (some 63)
  have em:many=((many.toNat:Nat):Int):=by trivial
  have l1m:c1.length=min many.toNat ns.length:=by
   rw [q1,em,HT.sIx_nat,HT.sIx_none,List.length_take,List.length_drop]
   simp only [Int.toNat_natCast]
   trivial
  have l2m:c2.length≤ns.length - many.toNat:=by
   rw [q2,em,HT.sIx_nat,List.length_take,List.length_drop]
   simp only [Int.toNat_natCast]
   trivial
  refine ⟨_,rfl,_,rfl,_,rfl,a,_,rfl,hS,fun p1 hp1=>⟨p1,_,rfl,.inl (am.of ar),fun p2 hp2=>?_⟩⟩
  rw [e1] at hp2 ⊢
  have n12:p2≠p1:=fun z=>by rw [z,ar] at hp2;cases hp2
  have s2:ah H (aD (aD H p1 (.lst (c1.map V.int))) p2 (.lst (c1.map V.int))):=(ah.new hp1).trans (ah.new hp2)
  refine ⟨_,rfl,_,rfl,_,rfl,_,rfl,a,_,rfl,s2.seq hS,fun p3 hp3=>⟨p3,rfl,⟨_,am.of ar⟩,?_⟩⟩
  rw [e2]
  have s3:=s2.trans (ah.new (o:=.lst (c2.map V.int)) hp3)
  have n23:p2≠p3:=fun z=>by rw [←z,ar] at hp3;cases hp3
  refine ⟨fun i m σ H'=>m=c2.length - i∧i≤c2.length∧eH fun (ms:List Int) (v3 v4:Option V)=>σ=[some (.ref a),some (.int many),some (.ref p2),v3,v4]∧ms.length=c1.length∧H' p2=some (.lst (ms.map V.int))∧H' p3=some (.lst (c2.map V.int))∧(∀b o,b≠p2→H b=some o→H' b=some o),⟨_,rfl,Nat.zero_le _,c1,none,none,rfl,rfl,?_,ar,fun b o _ h=>s3 b o h⟩,?_⟩
  ·rw [aj n23];exact ar
  rintro i m σ H' ⟨rfl,hi,ms,v3,v4,rfl,hms,h2,h3,hk⟩
  by_cases hlt:i<c2.length
  ·refine .inr ⟨⟨c2.map V.int,V.int c2[i],am.of h3,by rw [List.getElem?_map];simp [hlt]⟩,_,fun σ' H'' z=>z,?_⟩
   rintro x H'' ⟨t,y,ht,rfl,rfl,hy⟩
   have hy':=hy _ (am.of h3)
   rw [List.getElem?_map,List.getElem?_eq_getElem hlt] at hy'
   obtain rfl:V.int c2[i]=y:=Option.some.inj hy'
   have nt2:p2≠t:=aR h2 ht
   have nt3:p3≠t:=aR h3 ht
   have hlen:many.toNat<ns.length:=by trivial
   have hmod0:0≤(i:Int) % many:=Int.emod_nonneg _ (by trivial)
   have hmod1:(i:Int) % many<many:=Int.emod_lt_of_pos _ (by trivial)
   have hixlt:((i:Int) % many).toNat<ms.length:=by trivial
   refine ⟨t,_,rfl,ag.of ar,rfl,_,_,rfl,_,_,rfl,rfl,_,rfl,_,rfl,_,rfl,_,_,rfl,rfl,(by show (0:Int)<many;trivial),.inl ⟨p2,ms.map V.int,_,V.int ms[((i:Int) % many).toNat],rfl,rfl,am.of (by rw [aj nt2];exact h2),yw hmod0 hixlt,_,rfl,_,rfl,_,_,rfl,rfl,_,_,rfl,rfl,.inr ⟨?_,?_⟩,_,_,rfl,rfl,_,rfl,_,rfl,_,rfl,_,_,rfl,rfl,(by show (0:Int)<many;trivial),p2,ms.map V.int,_,((i:Int) % many).toNat,rfl,rfl,(by rw [aj nt2];exact h2),?_,?_⟩⟩
   ·trivial
   ·trivial
   ·unfold sP
    rw [if_pos hmod0,List.length_map,if_pos (by trivial)]
   ·refine ⟨c2.length - (i+1),by trivial,rfl,hlt,ms.set ((i:Int) % many).toNat (ms[((i:Int) % many).toNat]+c2[i]*((i:Int)+2)),_,_,rfl,by rw [List.length_set];exact hms,?_,?_,fun b o hb h=>?_⟩
    ·rw [ar,List.map_set]
    ·rw [aj (Ne.symm n23),aj nt3];exact h3
    ·have:=hk b o hb h
     rw [aj hb,aj (aR this ht)]
     exact this
  ·refine .inl ⟨⟨_,am.of h3,by rw [List.length_map];trivial⟩,?_⟩
   have hp2':H p2=none:=by
    rw [aj n12] at hp2
    exact hp2
   have sH:ah H H':=fun b o h=>hk b o (aR h hp2') h
   exact ⟨_,rfl,kk p2 ms H' hp2' sH h2 (by trivial)⟩
end
end K13
namespace K13
open PySem L2
section
variable {P:Program}{w:World}{K:PySem.W.Frag}{mg:Str→Option Value}{base:Heap}
theorem yd (T:Txt K mg):aZ P w K mg base CX0 2 T.fraction_.f T.fraction_.d ["n", "d"] F9:=by
 have G_common_divisor:=su (P:=P) (w:=w) (base:=base) T
 refine T.fraction_.F.ok nU (fun vs H Q E h=>?_) (fun cdv A outer s H vs Q E hr h=>?_)
 ·obtain ⟨n,d,rfl,_⟩:=h
  rfl
 ·obtain ⟨n,d,rfl,hd,hs,k⟩:=h
  refine ⟨_,‹‹(2,nU.nd,di,‹(G_common_divisor,lB,T.common_divisor_,‹[‹(0,qS)›,‹(1,lX)›]›)›)› :: ‹(@be _ _ _ _ _ _ _ _ (@aq _ _ _ _ _ _ _ _ (@lh _) ‹(1,lX)› ‹0› (@au _ _ (by decide) (by decide))) (@ad _ _ _ ‹(2,nU.nd,di,(@pz _ _ _ _ _ _ (@lV _) ‹(2,di)›))›) (@aN _)) :: (@ad _ _ _ (@aw _ _ _ _ (@aG _ _ _ _ _ ‹[(@ak _ _ _ _ _ _ _ _ (@xN _) ‹(0,qS)› ‹(2,di)›),(@ak _ _ _ _ _ _ _ _ (@xN _) ‹(1,lX)› ‹(2,di)›)]›)))››,?_⟩
  refine ⟨_,rfl,_,rfl,n,d,rfl,_,rfl,_,_,rfl,rfl,_,rfl,?_⟩
  have g0:=KM.gcd_pos (n:=n) hd
  have gs:=IH (n:=n) hd hs
  have kl:=KM.fdiv_low (n:=n) hd
  by_cases h0:d<0
  ·rw [decide_eq_true h0]
   rw [if_pos h0] at kl
   have c1:∀x,zn x (-((Int.gcd n d:Nat):Int)):=fun x=>⟨by trivial,gs.neg⟩
   refine bh ⟨_,rfl,_,rfl,_,rfl,_,rfl,_,_,rfl,rfl,c1 n,_,rfl,_,rfl,_,_,rfl,rfl,c1 d,(by show 2≤10000;decide),fun p H1 nw=>?_⟩
   have q:=k p H1
   rw [←kl] at q
   exact q nw
  ·rw [decide_eq_false h0]
   rw [if_neg h0] at kl
   have c1:∀x,zn x ((Int.gcd n d:Nat):Int):=fun x=>⟨by trivial,gs⟩
   refine aM ⟨_,rfl,_,rfl,_,_,rfl,rfl,c1 n,_,rfl,_,rfl,_,_,rfl,rfl,c1 d,(by show 2≤10000;decide),fun p H1 nw=>?_⟩
   have q:=k p H1
   rw [←kl] at q
   exact q nw
theorem Bn (T:Txt K mg):aZ P w K mg base CX0 3 T.times_.f T.times_.d ["one", "other"] (FQ IB IV):=by
 have G_fraction:=yd (P:=P) (w:=w) (base:=base) T
 refine T.times_.F.ok BH (fun vs H Q E h=>?_) (fun cdv A outer s H vs Q E hr h=>?_)
 ·obtain ⟨a,b,n1,d1,n2,d2,rfl,_⟩:=h
  rfl
 ·obtain ⟨a,b,n1,d1,n2,d2,rfl,ha,hb,⟨z1,z2,z3,z4,hd⟩,k⟩:=h
  refine ⟨_,(@ad _ _ _ (@aw _ _ _ _ ‹(G_fraction,tH,T.fraction_,‹[(@ak _ _ _ _ _ _ _ _ (@gu _) ‹‹(0,sC)›[‹0›]› ‹‹(1,pW)›[‹0›]›),(@ak _ _ _ _ _ _ _ _ (@gu _) ‹‹(0,sC)›[‹0›]› ‹‹(1,pW)›[‹0›]›)]›)›)),?_⟩
  exact ⟨_,rfl,a,_,_,_,rfl,rfl,ag.of ha,rfl,_,rfl,b,_,_,_,rfl,rfl,ag.of hb,rfl,_,_,rfl,rfl,nN z1 z3,
   _,rfl,a,_,_,_,rfl,rfl,ag.of ha,rfl,_,rfl,b,_,_,_,rfl,rfl,ag.of hb,rfl,_,_,rfl,rfl,nN z2 z4,_,_,rfl,hd,zb z2 z4,k⟩
theorem x3 (T:Txt K mg):aZ P w K mg base CX0 1 T.compared_.f T.compared_.d ["one", "other"] Hl:=by
 refine T.compared_.F.ok nR (fun vs H Q E h=>?_) (fun cdv A outer s H vs Q E hr h=>?_)
 ·obtain ⟨a,b,n1,d1,n2,d2,rfl,_⟩:=h
  rfl
 ·obtain ⟨a,b,n1,d1,n2,d2,rfl,ha,hb,z1,z2,z3,z4,k⟩:=h
  refine ⟨_,‹‹(2,nR.nd,jn,(@ak _ _ _ _ _ _ _ _ (@gu _) ‹‹(0,oE)›[‹0›]› ‹‹(1,mw)›[‹0›]›))› :: ‹‹(3,nR.nd,iY,(@ak _ _ _ _ _ _ _ _ (@gu _) ‹‹(1,mw)›[‹0›]› ‹‹(0,oE)›[‹0›]›))› :: ‹(@be _ _ _ _ _ _ _ _ (@aq _ _ _ _ _ _ _ _ (@lh _) ‹(2,jn)› ‹(3,iY)› (@au _ _ (by decide) (by decide))) (@ad _ _ _ (@aw _ _ _ _ (@pz _ _ _ _ _ _ (@lV _) ‹0›))) (@aN _)) :: ‹(@be _ _ _ _ _ _ _ _ (@aq _ _ _ _ _ _ _ _ (@lc _) ‹(2,jn)› ‹(3,iY)› (@au _ _ (by decide) (by decide))) (@ad _ _ _ (@aw _ _ _ _ ‹0›)) (@aN _)) :: (@ad _ _ _ (@aw _ _ _ _ ‹0›))››››,?_⟩
  refine ⟨_,rfl,a,_,_,_,rfl,rfl,ag.of ha,rfl,_,rfl,b,_,_,_,rfl,rfl,ag.of hb,rfl,_,_,rfl,rfl,nN z1 z4,_,rfl,b,_,_,_,rfl,rfl,ag.of hb,rfl,_,rfl,a,_,_,_,rfl,rfl,ag.of ha,rfl,_,_,rfl,rfl,nN z3 z2,
   _,rfl,_,rfl,_,_,rfl,rfl,_,rfl,?_⟩
  unfold u9 at k
  by_cases h1:n1*d2<n2*d1
  ·rw [decide_eq_true h1]
   rw [if_pos h1] at k
   exact bh ⟨_,rfl,k⟩
  ·rw [decide_eq_false h1]
   rw [if_neg h1] at k
   refine aM ⟨_,rfl,_,rfl,_,_,rfl,rfl,_,rfl,?_⟩
   by_cases h2:n2*d1<n1*d2
   ·rw [decide_eq_true h2]
    rw [if_pos h2] at k
    exact bh k
   ·rw [decide_eq_false h2]
    rw [if_neg h2] at k
    exact aM k
end
end K13
namespace K13
open PySem L2
section
variable {P:Program}{w:World}{K:PySem.W.Frag}{mg:Str→Option Value}{base:Heap}
theorem yG {n d:Int} (hd:d≠0) (h:d.natAbs.log2<9000):zh n ((Int.gcd n d:Nat):Int):=by
 have g0:=KM.gcd_pos (n:=n) hd
 refine ⟨by trivial,?_⟩
 have h1:Int.gcd n d≤d.natAbs:=Nat.le_of_dvd (by trivial) (by
  have:((Int.gcd n d:Nat):Int) ∣ d:=Int.gcd_dvd_right ..
  exact Int.ofNat_dvd_left.mp this)
 have h2:d.natAbs<2 ^ 9000:=(Nat.log2_lt (by trivial)).mp h
 rw [Int.natAbs_natCast]
 exact (Nat.log2_lt (by trivial)).mpr (Nat.lt_of_le_of_lt h1 h2)
inductive Db (vs:List V) (H:Hp) (Q:VK):Prop
 | mk (n d:Int) (h0:vs=[.int n,.int d]) (h1:0<d) (h2:Sz 9000 d) (h3:∀p H',Nw H p (fr (KM.low n d)) H'→Q (.ref p) H')
def Fy:Sp:=fun vs H Q _=>Db  vs H Q
theorem lE (T:Txt K mg):aZ P w K mg base CX0 1 T.l_frac_.f T.l_frac_.d ["_law_n", "_law_d"] Fy:=by
 refine T.l_frac_.F.ok mX (fun vs H Q E h=>?_) (fun cdv A outer s H vs Q E hr h=>?_)
 ·obtain ⟨n,d,rfl,_⟩:=h
  rfl
 ·obtain ⟨n,d,rfl,hd,hs,k⟩:=h
  have hl:=hs.log (Int.ne_of_gt hd)
  refine ⟨_,‹(@kD _ _ (2) (3) _ _ _ _ _ _ _ _ _ _ _ rfl mX.nd rfl rfl (by decide) cU dY ‹[(@ao _ _ _ _ _ _ _ _ _ (@lY _) qH T.b_abs (@jk) ‹[‹(0,qz)›]› (by decide) (by decide) (by rfl) (by rfl)),(@ao _ _ _ _ _ _ _ _ _ (@lY _) qH T.b_abs (@jk) ‹[‹(1,lU)›]› (by decide) (by decide) (by rfl) (by rfl))]› (by kernel_rfl) (by rfl)) :: ‹(@jM _ _ _ _ _ _ PassesOwn.never (@aq _ _ _ _ _ _ _ _ (@lc _) ‹(3,dY)› ‹0› (@au _ _ (by decide) (by decide))) (@ad _ _ _ (@kD _ _ (2) (3) _ _ _ _ _ _ _ _ _ _ _ rfl mX.nd rfl rfl (by decide) cU dY ‹[‹(3,dY)›,(@ak _ _ _ _ _ _ _ _ (@ig _) ‹(2,cU)› ‹(3,dY)›)]› (by kernel_rfl) (by rfl)))) :: ‹‹(2,mX.nd,cU,(@ak _ _ _ _ _ _ _ _ (@gc _) ‹(2,cU)› (@fu _ _ _ _ _ _ _ _ (@aq _ _ _ _ _ _ _ _ (@lc _) ‹(1,lU)› ‹0› (@au _ _ (by decide) (by decide))) ‹0› (@pz _ _ _ _ _ _ (@lV _) ‹0›))))› :: (@ad _ _ _ (@aw _ _ _ _ (@aG _ _ _ _ _ ‹[(@ak _ _ _ _ _ _ _ _ (@wU _) ‹(0,qz)› ‹(2,cU)›),(@ak _ _ _ _ _ _ _ _ (@wU _) ‹(1,lU)› ‹(2,cU)›)]›)))›››,?_⟩
  refine ⟨_,rfl,_,rfl,_,rfl,_,rfl,_,_,rfl,?_⟩
  refine ⟨fun m σ H'=>∃a b:Int,σ=[some (.int n),some (.int d),some (.int a),some (.int b)]∧H'=H∧0≤a∧0≤b∧Int.gcd a b=Int.gcd n d∧m=b.natAbs,⟨_,_,_,rfl,rfl,xg n,xg d,KM.gcd_abs n d,rfl⟩,?_⟩
  rintro m σ H' ⟨a,b,rfl,rfl,ha,hb,hg,rfl⟩
  refine ⟨_,rfl,_,_,rfl,rfl,_,rfl,?_⟩
  by_cases hb0:0<b
  ·rw [decide_eq_true hb0]
   refine bh ⟨fun σ' H''=>∃a' b':Int,σ'=[some (.int n),some (.int d),some (.int a'),some (.int b')]∧H''=H'∧0≤a'∧0≤b'∧Int.gcd a' b'=Int.gcd n d∧b'.natAbs<b.natAbs,?_,?_⟩
   ·rintro σ' H'' ⟨a',b',rfl,rfl,h0,h1,h2,h3⟩
    exact ⟨_,h3,a',b',rfl,rfl,h0,h1,h2,rfl⟩
   ·refine ⟨_,rfl,_,rfl,_,rfl,_,_,rfl,rfl,hb0,_,_,rfl,?_⟩
    have q0:=Int.emod_nonneg a (Int.ne_of_gt hb0)
    have q1:=Int.emod_lt_of_pos a hb0
    exact ⟨b,a % b,rfl,rfl,hb,q0,(KM.gcd_emod a b).trans hg,by trivial⟩
  ·have hb1:b=0:=by trivial
   subst hb1
   rw [decide_eq_false hb0]
   refine aM ?_
   have eg:a=((Int.gcd n d:Nat):Int):=by
    rw [←hg,KM.gcd_zero_abs,if_neg (by trivial)]
   have c1:=yG (n:=n) (Int.ne_of_gt hd) hl
   have c2:=yG (n:=d) (d:=d) (Int.ne_of_gt hd) hl
   rw [←eg] at c1
   refine ⟨_,rfl,_,rfl,_,_,rfl,rfl,_,rfl,?_⟩
   rw [decide_eq_true hd]
   refine bh ⟨_,_,rfl,rfl,.inr ⟨by decide,by decide⟩,?_⟩
   show rS 2 (V.int (a*1)) _ _ _
   rw [Int.mul_one]
   refine ⟨_,rfl,_,rfl,_,_,rfl,rfl,c1,_,rfl,_,rfl,_,_,rfl,rfl,⟨c1.1,c1.2⟩,(by show 2≤10000;decide),fun p H2 n2=>k p H2 ?_⟩
   unfold KM.low
   rw [if_pos hd,←eg]
   exact n2
theorem yc (T:Txt K mg):aZ P w K mg base CX0 2 T.l_any_gain_.f T.l_any_gain_.d ["_law_box_here"] (HW 6 1):=by
 have G_l_take:=jO (P:=P) (w:=w) (base:=base) T
 have G_l_frac:=lE (P:=P) (w:=w) (base:=base) T
 refine T.l_any_gain_.F.ok kP (fun vs H Q E h=>?_) (fun cdv A outer s H vs Q E hr h=>?_)
 ·obtain ⟨b,t,rfl,_⟩:=h
  rfl
 ·obtain ⟨b,t,rfl,B,ht0,ht1,k⟩:=h
  refine ⟨_,‹‹(1,kP.nd,eV,‹(G_l_take,gD,T.l_take_,‹[‹(0,eJ)›,‹0›]›)›)› :: ‹(@be _ _ _ _ _ _ _ _ (@aq _ _ _ _ _ _ _ _ (@lh _) ‹(1,eV)› ‹0› (@au _ _ (by decide) (by decide))) (@ad _ _ _ (@aw _ _ _ _ (@aG _ _ _ _ _ ‹[‹0›,‹0›]›))) (@aN _)) :: ‹‹(2,kP.nd,ki,(@ak _ _ _ _ _ _ _ _ (@bH _) ‹0› ‹(G_l_take,gD,T.l_take_,‹[‹(0,eJ)›,(@fu _ _ _ _ _ _ _ _ (@aq _ _ _ _ _ _ _ _ (@cP _) ‹(1,eV)› ‹0› (@au _ _ (by decide) (by decide))) ‹0› ‹0›)]›)›))› :: (@ad _ _ _ (@aw _ _ _ _ ‹(G_l_frac,qp,T.l_frac_,‹[‹(2,ki)›,(@ak _ _ _ _ _ _ _ _ (@bH _) ‹0› ‹(G_l_take,gD,T.l_take_,‹[‹(0,eJ)›,(@fu _ _ _ _ _ _ _ _ (@aq _ _ _ _ _ _ _ _ (@cP _) ‹(1,eV)› ‹0› (@au _ _ (by decide) (by decide))) ‹0› ‹0›)]›)›)]›)›))›››,?_⟩
  refine ⟨_,rfl,b,8,t,rfl,B,by decide,by decide,ht0,by trivial,fun wy t1 H1 w0 w1 h1a h1b s1 B1=>?_⟩
  refine ⟨_,rfl,_,_,rfl,rfl,_,rfl,mm (fun c=>?_) (fun c=>?_)⟩
  ·exact ⟨(by show 2≤10000;decide),fun o H2 n2=>k o _ _ t1 H2 (s1.trans n2.sm.toE) n2.at' (Fb.small (by decide) (by decide) (by decide) (by decide)) (by decide) (B1.same n2.sm) (by trivial) (by trivial)⟩
  have hw:0<(if decide (V.int wy=V.int 7)=true then (60:Int) else 12)∧(if decide (V.int wy=V.int 7)=true then (60:Int) else 12)≤60:=by split <;> decide
  refine ⟨_,rfl,_,rfl,rfl,_,rfl,Iy ?_⟩
  refine ⟨b,_,t1,rfl,B1,hw.1,mB hw.1 (by trivial),by trivial,by trivial,fun r2 t2 H2 a20 a21 _ _ s2 B2=>⟨_,_,rfl,rfl,_,rfl,_,rfl,_,rfl,rfl,_,rfl,Iy ?_⟩⟩
  refine ⟨b,_,t2,rfl,B2,hw.1,mB hw.1 (by trivial),by trivial,by trivial,fun r3 t3 H3 a30 a31 _ _ s3 B3=>⟨_,_,rfl,rfl,?_⟩⟩
  have f:=DS (n:=1+r2) (d:=1+r3) (by trivial) (by trivial) (by trivial) (by trivial)
  exact ⟨_,_,rfl,by trivial,Sz.mono (m:=40) (by show (1+r3).natAbs<1099511627776;trivial) (by decide),fun o H4 n4=>k o _ _ t3 H4 (((s1.trans s2).trans s3).trans n4.sm.toE) n4.at' f.1 f.2 (B3.same n4.sm) (by trivial) (by trivial)⟩
end
end K13
namespace K13
open PySem L2
def p5 (d1 d2 k:Nat):List Nat:=if k<8 then nm d1 k else List.replicate (k - 7) d2++[d1]
theorem As {d1 d2:Nat} (hd:d1≠d2) {n:Nat} (hn:n≤10):((List.range n).map (p5 d1 d2)).Nodup:=by
 have all:∀a b:Nat,a<10→b<10→p5 d1 d2 a=p5 d1 d2 b→a=b:=fun a b ha hb h=>by
  have hl:=congrArg List.length h
  have hh:=congrArg List.head? h
  unfold p5 nm at hl hh
  have r:∀m x:Nat,0<m→(List.replicate m x).head?=some x:=fun m x hm=>by
   cases m with
   | zero=>trivial
   | succ m=>rfl
  have r2:∀(m x:Nat) (l:List Nat),0<m→(List.replicate m x++l).head?=some x:=fun m x l hm=>by
   cases m with
   | zero=>trivial
   | succ m=>rfl
  by_cases c1:a<8 <;> by_cases c2:b<8
  ·simp [c1,c2] at hl;exact hl
  ·rw [if_pos c1,if_neg c2,r _ _ (by trivial),r2 _ _ _ (by trivial)] at hh
   exact absurd (Option.some.inj hh) hd
  ·rw [if_neg c1,if_pos c2,r _ _ (by trivial),r2 _ _ _ (by trivial)] at hh
   exact absurd (Option.some.inj hh).symm hd
  ·simp [c1,c2] at hl;trivial
 rw [List.nodup_iff_pairwise_ne,List.pairwise_map]
 refine List.Pairwise.imp_of_mem (fun {a b} ha hb hab z=>?_) (List.nodup_iff_pairwise_ne.mp List.nodup_range)
 exact hab (all a b (by have:=List.mem_range.mp ha;trivial) (by have:=List.mem_range.mp hb;trivial) z)
theorem Gm {d1 d2 k:Nat} (hk:k<10) (h1:97≤d1) (h2:d1≤122) (h3:97≤d2) (h4:d2≤122):ir (p5 d1 d2 k):=by
 unfold p5
 by_cases c:k<8
 ·rw [if_pos c];exact HE c h1 h2
 ·rw [if_neg c]
  refine ⟨by simp,by simp;trivial,fun x hx=>?_⟩
  rcases List.mem_append.mp hx with q | q
  ·rw [(List.mem_replicate.mp q).2];exact ⟨h3,h4⟩
  ·rw [List.mem_singleton.mp q];exact ⟨h1,h2⟩
section
variable {P:Program}{w:World}{K:PySem.W.Frag}{mg:Str→Option Value}{base:Heap}
inductive Au (vs:List V) (H:Hp) (Q:VK):Prop
 | mk (b:Addr) (many t:Int) (h0:vs=[.ref b,.int many]) (h1:Bx H b t) (h2:0≤t) (h3:t≤900000) (h4:1≤many) (h5:many≤10) (h6:∀q ls t' H',aO (Eb b) H H'→H' q=some (.tup ((ls:List (List Nat)).map af))→ls.length=many.toNat→ls.Nodup→(∀l∈ls,ir l)→Bx H' b t'→t≤t'→t'≤t+12→Q (.ref q) H')
def Bp:Sp:=fun vs H Q _=>Au  vs H Q
theorem x8 (T:Txt K mg):aZ P w K mg base CX0 2 T.l_names_by_.f T.l_names_by_.d ["_law_box_here", "_law_many"] Bp:=by
 have G_l_take:=jO (P:=P) (w:=w) (base:=base) T
 refine T.l_names_by_.F.ok dF (fun vs H Q E h=>?_) (fun cdv A outer s H vs Q E hr h=>?_)
 ·obtain ⟨b,many,t,rfl,_⟩:=h
  rfl
 ·obtain ⟨b,many,t,rfl,B,ht0,ht1,hm1,hm2,k⟩:=h
  refine ⟨_,‹(@gj _ _ _ _ _ _ (@aG _ _ _ _ _ ‹[(@dh _ _ _ _),‹(G_l_take,gG,T.l_take_,‹[(@pw _ 0 _ _ (Or.inr (Or.inl eL)) (by rfl) (by decide) (by decide)),‹0›]›)›,‹(G_l_take,gG,T.l_take_,‹[(@pw _ 0 _ _ (Or.inr (Or.inl eL)) (by rfl) (by decide) (by decide)),‹0›]›)›]›) (@fk _ (K) _ _ _ _ (3) rfl (@aS _ _ _ _ _ (@bo _ _ (2) _ dF.nd rfl (Or.inr nz) (by first | exact .inl rfl | exact .inr rfl | assumption)) (@aS _ _ _ _ _ (@bo _ _ (3) _ dF.nd rfl (Or.inr jg) (by first | exact .inl rfl | exact .inr rfl | assumption)) (@aS _ _ _ _ _ ‹(4,dF.nd,jK)› (@eS _) (by rfl)) (by rfl)) (by rfl)) (by rfl) (by rfl) (by rfl)) (by rfl) (by rfl) (by rfl)) :: ‹(@mf _ _ (5) _ _ _ _ dF.nd rfl (Or.inr oF) (@fE _ (K) _ _ _ _ _ _ _ _ _ _ _ PySem.F.plainAttrs_str PySem.F.slot_str_join PySem.F.type_str_join (@DQ _ (K) (by rfl)) (@dh _ _ _ _) ‹[(@cV _ _ _ _ _ _ _ (["_law_k", "_law_box_here", "_law_letters"]) (1) ([0,2]) _ _ _ _ rfl (by kernel_rfl) (@eX _ _ _ _ _ _ gX T.b_range ‹[‹(4,jK)›]› (by rfl)) (fun _ _ _ _ _ _=>(@bo _ _ (0) _ (@cE _ (by kernel_rfl)) rfl (Or.inl (by kernel_rfl)) (by first | exact .inl rfl | exact .inr rfl | assumption))) (fun _ _ _ _ _ _=>@cu _) (fun _ _ _ _ _ _=>(@cf _ _ _ _ _ _ _ (@xR _) ‹(2,0)› (@iq _ _ _ _ _ _ _ _ _ _ _ _ _ _ _ _ G_l_take (hr.mono (by decide)) (by show _=_;kernel_rfl) T.l_take_.m T.l_take_.F.kp T.l_take_.B .nil (@rA _) ‹[‹(1,0)›,‹0›]› (by decide) (by rfl) (by rfl)) (fun _ _=>rfl))) (by intro _;rfl))]› (by rfl) (by rfl) (by rfl) (by rfl) (by rfl) (by rfl)) (by rfl) (by first | exact .inl rfl | exact .inr rfl | assumption)) :: ‹(@be _ _ _ _ _ _ _ _ (@aq _ _ _ _ _ _ _ _ (@cP _) ‹(G_l_take,gG,T.l_take_,‹[(@pw _ 0 _ _ (Or.inr (Or.inl eL)) (by rfl) (by decide) (by decide)),‹0›]›)› ‹0› (@au _ _ (by decide) (by decide))) ‹(@gj _ _ _ _ _ _ ‹(@bJ _ _ _ _ ‹[(@aG _ _ _ _ _ ‹[(@dh _ _ _ _),(@dh _ _ _ _)]›),(@aG _ _ _ _ _ ‹[(@dh _ _ _ _),(@dh _ _ _ _)]›)]›)[(@dX _ _ _ _ _ _ _ _ _ (@vH _) tJ T.b_int (@nn) ‹[(@cI _ _ _ _ _ _ _ _ (@cP _) (@pw _ 3 _ _ (Or.inr (Or.inl jg)) (by rfl) (by decide) (by decide)) ‹0› (@au _ _ (by decide) (by decide)))]› (by decide) (by decide) (by rfl) (by rfl))]!› (@fk _ (K) _ _ _ _ (2) rfl (@aS _ _ _ _ _ (@bo _ _ (6) _ dF.nd rfl (Or.inr qg) (by first | exact .inl rfl | exact .inr rfl | assumption)) (@aS _ _ _ _ _ (@bo _ _ (7) _ dF.nd rfl (Or.inr pO) (by first | exact .inl rfl | exact .inr rfl | assumption)) (@eS _) (by rfl)) (by rfl)) (by rfl) (by rfl) (by rfl)) (by rfl) (by rfl) (by rfl)) :: (@ad _ _ _ (@aw _ _ _ _ (@dX _ _ _ _ _ _ _ _ _ (@jU _ (K) (by rfl)) kf T.b_tuple (@eQ) ‹[(@cV _ _ _ _ _ _ _ (["_law_k", "_law_other", "_law_sign"]) (1) ([7,6]) _ _ _ _ rfl (by kernel_rfl) (@eX _ _ _ _ _ _ gX T.b_range ‹[‹(1,jH)›]› (by rfl)) (fun _ _ _ _ _ _=>(@bo _ _ (0) _ (@cE _ (by kernel_rfl)) rfl (Or.inl (by kernel_rfl)) (by first | exact .inl rfl | exact .inr rfl | assumption))) (fun _ _ _ _ _ _=>@cu _) (fun _ _ _ _ _ _=>(@fu _ _ _ _ _ _ _ _ (@aq _ _ _ _ _ _ _ _ (@lh _) ‹(0,())› ‹0› (@au _ _ (by decide) (by decide))) (@ak _ _ _ _ _ _ _ _ (@yj _) ‹(2,0)› (@ak _ _ _ _ _ _ _ _ (@bH _) ‹(0,())› ‹0›)) (@ak _ _ _ _ _ _ _ _ (@yM _) (@ak _ _ _ _ _ _ _ _ (@yj _) ‹(1,0)› (@ak _ _ _ _ _ _ _ _ (@jw _) ‹(0,())› ‹0›)) ‹(2,0)›))) (by intro _;rfl))]› (by decide) (by decide) (by rfl) (by rfl))))› (@aN _)) :: (@ad _ _ _ (@aw _ _ _ _ (@dX _ _ _ _ _ _ _ _ _ (@jU _ (K) (by rfl)) kf T.b_tuple (@eQ) ‹[(@cV _ _ _ _ _ _ _ (["_law_k", "_law_behind", "_law_first", "_law_letters"]) (1) ([5,3,2]) _ _ _ _ rfl (by kernel_rfl) (@eX _ _ _ _ _ _ gX T.b_range ‹[‹(1,jH)›]› (by rfl)) (fun _ _ _ _ _ _=>(@bo _ _ (0) _ (@cE _ (by kernel_rfl)) rfl (Or.inl (by kernel_rfl)) (by first | exact .inl rfl | exact .inr rfl | assumption))) (fun _ _ _ _ _ _=>@cu _) (fun _ _ _ _ _ _=>(@ak _ _ _ _ _ _ _ _ (@yM _) (@cf _ _ _ _ _ _ _ (@xR _) ‹(3,0)› (@ak _ _ _ _ _ _ _ _ (@ig _) (@ak _ _ _ _ _ _ _ _ (@bH _) ‹(2,0)› (@ak _ _ _ _ _ _ _ _ (@gc _) ‹0› ‹(0,())›)) ‹0›) (fun _ _=>rfl)) ‹(1,0)›)) (by intro _;rfl))]› (by decide) (by decide) (by rfl) (by rfl))))›››,?_⟩
  have hz:(Str.ofString "abcdefghijklmnopqrstuvwxyz").length≤sizeLine:=by decide +kernel
  refine ⟨_,rfl,b,26,t,rfl,B,by decide,by decide,ht0,by trivial,fun f t1 H1 f0 f1 h1a h1b s1 B1=>⟨_,rfl,b,8,t1,rfl,B1,by decide,by decide,by trivial,by trivial,fun r t2 H2 r0 r1 h2a h2b s2 B2=>⟨(by show 3≤10000;decide),fun q H3 n3=>⟨q,_,rfl,ag.of n3.at',rfl,_,_,rfl,_,_,rfl,_,_,rfl,rfl,?_⟩⟩⟩⟩
  have B3:=B2.same n3.sm
  have s03:=(s1.trans s2).trans n3.sm.toE
  refine ⟨rfl,_,rfl,_,rfl,by trivial,by trivial,fun D2 hD2=>gQ (n:=r.toNat) (fun i H' ys=>aW fun (cs:List Nat) (t':Int)=>ys=cs.map (fun c=>af [c])∧H' D2=some (.lst ys)∧cs.length=i∧(∀c∈cs,97≤c∧c≤122)∧Bx H' b t'∧t2≤t'∧t'≤t2+i∧aO (Eb b) H3 H') ?_ ?_ ?_ ?_ ?_ ?_ ?_⟩
  ·rw [sizeLine_eq];trivial
  ·exact ⟨[],t2,rfl,ar,rfl,fun c h=>(by cases h),B3.same (ah.new hD2),by trivial,by trivial,(ah.new hD2).toE⟩
  ·rintro i' H'' ys ⟨cs,t7,rfl,e,rfl,_⟩
   exact ⟨e,by simp⟩
  ·intro i' H'' ys hi' _
   exact hi'
  ·intro H'' ys _
   exact Nat.le_refl _
  ·have nD2:¬D2=b:=fun z=>B3.ne hD2 z.symm
   rintro i' Ha ys x Hb hi' ⟨cs,t7,rfl,g1,g2,g3,g4,g5,g6,g7⟩ ⟨rfl,rfl⟩
   refine ⟨gK,_,rfl,_,rfl,b,26,t7,rfl,g4,by decide,by decide,by trivial,by trivial,fun r8 t8 Hc r80 r81 _ _ jc Cc=>⟨_,_,_,rfl,rfl,hz,vE (by trivial) (by trivial),?_⟩⟩
   have eD:=jc.old D2 _ nD2 g1
   refine ⟨eD,cs++[97+(r8 % 26).toNat],t8,by rw [List.map_append];rfl,ar,by rw [List.length_append,g2];rfl,fun c hc=>?_,?_,by trivial,by trivial,(g7.trans jc).up hD2⟩
   ·rcases List.mem_append.mp hc with h | h
    ·exact g3 c h
    ·rw [List.mem_singleton.mp h];trivial
   ·have c':Ch Hc D2 (cs.map (fun c=>af [c])++[af [97+(r8 % 26).toNat]]) _:=Ch.mk'
    exact Cc.ch c' (Ne.symm nD2)
  rintro J4 ys ⟨cs,t7,rfl,g1,g2,g3,C4,g5,g6,j4⟩
  refine ⟨D2,cs.map (fun c=>[c]),?_,rfl,am.of (by rw [g1,List.map_map];rfl),?_,?_⟩
  ·rw [show (Str.ofString "")=S [] from BM]
  ·rw [List.map_map]
   have:(cs.map ((fun l:List Nat=>l.length) ∘ fun c=>[c])).sum=cs.length:=by
    clear g1 g2 g3 j4
    induction cs with
    | nil=>rfl
    | cons c r ih=>simp at ih ⊢;trivial
   rw [this];trivial
  have fl:(cs.map (fun c=>[c])).flatten=cs:=by
   clear g1 g2 g3 j4
   induction cs with
   | nil=>rfl
   | cons c r ih=>rw [List.map_cons,List.flatten_cons,ih];rfl
  rw [fl]
  have s04:=s03.trans j4
  refine ⟨_,rfl,b,4,t7,rfl,C4,by decide,by decide,by trivial,by trivial,fun r9 t9 H9 r90 r91 _ _ s9 B9=>⟨rfl,_,rfl,?_⟩⟩
  have s09:=s04.trans s9
  refine mm (fun c1=>?_) (fun c1=>?_)
  ·-- rows of one letter
   refine ⟨(by show 2≤10000;decide),fun u1 J1 e1=>⟨(by show 2≤10000;decide),fun u2 J2 e2=>⟨(by show 2≤10000;decide),fun u3 J3 e3=>⟨_,rfl,rfl,.inr ⟨_,rfl,?_⟩⟩⟩⟩⟩
   have ea:Str.ofString "a" = S [97]:=by decide +kernel
   have ez:Str.ofString "z" = S [122]:=by decide +kernel
   generalize decide (V.int f=V.int 25)=cc
   obtain ⟨u,d1,d2,eu,hu,hd⟩:eH fun u d1 d2=>gO [V.ref u1,V.ref u2] (if cc=true then 1 else 0)=some (.ref u)∧J3 u=some (.tup [af [d1],af [d2]])∧97≤d1∧d1≤122∧d1≠d2∧97≤d2∧d2≤122:=by
    cases cc with
    | true=>exact ⟨u2,122,97,rfl,by rw [e3.sm _ _ e2.at',ea,ez],by decide,by decide,by decide,by decide,by decide⟩
    | false=>exact ⟨u1,97,122,rfl,by rw [e3.sm _ _ (e2.sm _ _ e1.at'),ea,ez],by decide,by decide,by decide,by decide,by decide⟩
   refine ⟨u3,_,_,_,rfl,rfl,am.of e3.at',eu,u,_,rfl,ag.of hu,rfl,_,_,rfl,_,_,rfl,rfl,?_⟩
   have sJ:=((e1.sm.trans e2.sm).trans e3.sm)
   have BJ:=B9.same sJ
   refine ⟨_,rfl,_,rfl,by trivial,by trivial,fun D hD=>gQ (n:=many.toNat) (fun i H' ys=>ys=(List.range i).map (fun k=>af (p5 d1 d2 k))∧H' D=some (.lst ys)∧ah J3 H') ?_ ⟨rfl,ar,cZ hD (ah.refl _)⟩ ?_ ?_ ?_ ?_ ?_⟩
   ·rw [sizeLine_eq];trivial
   ·rintro i H' ys ⟨rfl,e,_⟩
    exact ⟨e,by simp⟩
   ·intro i H' ys hi _
    exact hi
   ·intro H' ys _
    exact Nat.le_refl _
   ·rintro i H' ys x H'' hi ⟨g1,g2,g3⟩ ⟨rfl,rfl⟩
    refine ⟨gK,_,rfl,_,_,rfl,rfl,_,rfl,mm (fun z=>?_) (fun z=>?_)⟩
    ·have hi8 : i < 8 := by have:(0:Int)+(i:Int)<8:=of_decide_eq_true z
                            trivial
     refine ⟨_,rfl,_,rfl,_,_,rfl,rfl,[d1],_,rfl,rfl,by trivial,by trivial,(by show 1≤100;decide),?_⟩
     have en:(List.replicate (0+(i:Int)+1).toNat [d1]).flatten=p5 d1 d2 i:=by
      rw [Cf]
      unfold p5 nm
      rw [if_pos hi8]
      congr 1
      trivial
     rw [en]
     refine ⟨g2,?_,ar,cZ hD g3⟩
     rw [g1,List.range_succ,List.map_append];rfl
    ·have hi8:¬i<8:=fun q=>z (decide_eq_true (show (0:Int)+(i:Int)<8 by trivial))
     refine ⟨_,rfl,_,rfl,_,_,rfl,rfl,[d2],_,rfl,rfl,by trivial,by trivial,(by show 1≤100;decide),_,rfl,_,_,rfl,rfl,?_,?_⟩
     ·rw [Cf,List.length_replicate];simp;trivial
     have en:(List.replicate (0+(i:Int) - 7).toNat [d2]).flatten++[d1]=p5 d1 d2 i:=by
      rw [Cf]
      unfold p5
      rw [if_neg hi8]
      congr 2
      trivial
     rw [en]
     refine ⟨g2,?_,ar,cZ hD g3⟩
     rw [g1,List.range_succ,List.map_append];rfl
   rintro H4 ys1 ⟨ey1,eD1,s4⟩
   subst ey1
   refine ⟨D,_,rfl,am.of eD1,fun q5 H5 n5=>k q5 ((List.range many.toNat).map (p5 d1 d2)) t9 H5 (((s09.trans sJ.toE).trans s4.toE).trans n5.sm.toE) ?_ (by simp) (As hd.2.2.1 (by trivial)) ?_ ((BJ.same s4).same n5.sm) (by trivial) (by trivial)⟩
   ·rw [n5.at',List.map_map];rfl
   ·intro l hl
    obtain ⟨j,hj,rfl⟩:=List.mem_map.mp hl
    exact Gm (by have:=List.mem_range.mp hj;trivial) hd.1 hd.2.1 hd.2.2.2.1 hd.2.2.2.2
  ·-- letters of eleven steps
   refine ⟨_,rfl,_,rfl,by trivial,by trivial,fun D hD=>gQ (n:=many.toNat) (fun i H' ys=>ys=(List.range i).map (fun (k:Nat)=>af ((97+((f+11*(k:Int)) % 26).toNat) :: cs))∧H' D=some (.lst ys)∧ah H9 H') ?_ ⟨rfl,ar,cZ hD (ah.refl _)⟩ ?_ ?_ ?_ ?_ ?_⟩
   ·rw [sizeLine_eq];trivial
   ·rintro i H' ys ⟨rfl,e,_⟩
    exact ⟨e,by simp⟩
   ·intro i H' ys hi _
    exact hi
   ·intro H' ys _
    exact Nat.le_refl _
   ·rintro i H' ys x H'' hi ⟨g1',g2',g3'⟩ ⟨rfl,rfl⟩
    refine ⟨gK,_,rfl,_,rfl,_,rfl,_,_,rfl,rfl,.inl ⟨by decide,by decide⟩,_,_,rfl,rfl,_,_,rfl,rfl,(by show (0:Int)<26;decide),_,_,_,rfl,rfl,hz,vE (by trivial) (by trivial),_,rfl,[97+(((f+11*(0+(i:Int))) % 26) % 26).toNat],cs,rfl,rfl,?_,?_⟩
    ·simp;trivial
    refine ⟨g2',?_,ar,cZ hD g3'⟩
    rw [g1',List.range_succ,List.map_append]
    congr 1
    show [af ([97+(((f+11*(0+(i:Int))) % 26) % 26).toNat]++cs)]=[af ((97+((f+11*(i:Int)) % 26).toNat) :: cs)]
    have:(((f+11*(0+(i:Int))) % 26) % 26).toNat=((f+11*(i:Int)) % 26).toNat:=by trivial
    rw [this];rfl
   rintro H4 ys1 ⟨ey1,eD1,s4⟩
   subst ey1
   refine ⟨D,_,rfl,am.of eD1,fun q5 H5 n5=>k q5 ((List.range many.toNat).map (fun (k:Nat)=>(97+((f+11*(k:Int)) % 26).toNat) :: cs)) t9 H5 ((s09.trans s4.toE).trans n5.sm.toE) ?_ (by simp) (yf (f:=f) (by simp;trivial) ?_) ?_ ((B9.same s4).same n5.sm) (by trivial) (by trivial)⟩
   ·rw [n5.at',List.map_map];rfl
   ·intro j l hl
    rw [List.getElem?_map] at hl
    obtain ⟨j',hj',rfl⟩:=Option.map_eq_some_iff.mp hl
    obtain ⟨hlt,ej⟩:=List.getElem?_eq_some_iff.mp hj'
    rw [List.getElem_range] at ej
    subst ej
    rfl
   ·intro l hl
    obtain ⟨j,hj,rfl⟩:=List.mem_map.mp hl
    refine ⟨by simp,by simp;trivial,fun c hc=>?_⟩
    rcases List.mem_cons.mp hc with h | h
    ·rw [h];trivial
    ·exact g3 c h
end
end K13
namespace K13
open PySem L2
section
variable {P:Program}{w:World}{K:PySem.W.Frag}{mg:Str→Option Value}{base:Heap}
inductive HI (g:KM.Fra→KM.Fra→KM.Fra) (z:Bool) (vs:List V) (H:Hp) (Q:VK):Prop
 | mk (a b:Addr) (p q:KM.Fra) (c1 d1 c2 d2:Nat) (h0:vs=[.ref a,.ref b]) (h1:H a=some (fr p)) (h2:H b=some (fr q)) (h3:Gb c1 d1 p) (h4:Gb c2 d2 q) (h5:c1≤4000) (h6:d1≤4000) (h7:c2≤4000) (h8:d2≤4000) (h9:(z=true→1≤q.1)) (h10:∀o H',Nw H o (fr (g p q)) H'→Q (.ref o) H')
def Gi (g:KM.Fra→KM.Fra→KM.Fra) (z:Bool):Sp:=fun vs H Q _=>HI g z vs H Q
theorem my (T:Txt K mg):aZ P w K mg base CX0 2 T.l_product_.f T.l_product_.d ["_law_one", "_law_other"] (Gi KM.lTim false):=by
 have G_l_frac:=lE (P:=P) (w:=w) (base:=base) T
 refine T.l_product_.F.ok xa (fun vs H Q E h=>?_) (fun cdv A outer s H vs Q E hr h=>?_)
 ·obtain ⟨a,b,p,q,c1,d1,c2,d2,rfl,_⟩:=h
  rfl
 ·obtain ⟨a,b,p,q,c1,d1,c2,d2,rfl,ha,hb,fp,fq,h1,h2,h3,h4,_,k⟩:=h
  obtain ⟨z1,z2,z3,z4⟩:Sz 4000 p.1∧Sz 4000 p.2∧Sz 4000 q.1∧Sz 4000 q.2:=⟨fp.n.mono h1,fp.d.mono h2,fq.n.mono h3,fq.d.mono h4⟩
  refine ⟨_,(@ad _ _ _ (@aw _ _ _ _ ‹(G_l_frac,qJ,T.l_frac_,‹[(@ak _ _ _ _ _ _ _ _ (@gu _) ‹‹(0,kT)›[‹0›]› ‹‹(1,jJ)›[‹0›]›),(@ak _ _ _ _ _ _ _ _ (@gu _) ‹‹(0,kT)›[‹0›]› ‹‹(1,jJ)›[‹0›]›)]›)›)),?_⟩
  exact ⟨_,rfl,a,_,_,_,rfl,rfl,ag.of ha,rfl,_,rfl,b,_,_,_,rfl,rfl,ag.of hb,rfl,_,_,rfl,rfl,nN z1 z3,
   _,rfl,a,_,_,_,rfl,rfl,ag.of ha,rfl,_,rfl,b,_,_,_,rfl,rfl,ag.of hb,rfl,_,_,rfl,rfl,nN z2 z4,_,_,rfl,Int.mul_pos (by have:=fp.pos;trivial) (by have:=fq.pos;trivial),zb z2 z4,fun o H' n=>k o H' n⟩
theorem AO (T:Txt K mg):aZ P w K mg base CX0 2 T.l_over_.f T.l_over_.d ["_law_one", "_law_other"] (Gi iR true):=by
 have G_l_frac:=lE (P:=P) (w:=w) (base:=base) T
 refine T.l_over_.F.ok AZ (fun vs H Q E h=>?_) (fun cdv A outer s H vs Q E hr h=>?_)
 ·obtain ⟨a,b,p,q,c1,d1,c2,d2,rfl,_⟩:=h
  rfl
 ·obtain ⟨a,b,p,q,c1,d1,c2,d2,rfl,ha,hb,fp,fq,h1,h2,h3,h4,hz,k⟩:=h
  have hq:=hz rfl
  obtain ⟨z1,z2,z3,z4⟩:Sz 4000 p.1∧Sz 4000 p.2∧Sz 4000 q.1∧Sz 4000 q.2:=⟨fp.n.mono h1,fp.d.mono h2,fq.n.mono h3,fq.d.mono h4⟩
  refine ⟨_,(@ad _ _ _ (@aw _ _ _ _ ‹(G_l_frac,uj,T.l_frac_,‹[(@ak _ _ _ _ _ _ _ _ (@gu _) ‹‹(0,oR)›[‹0›]› ‹‹(1,mv)›[‹0›]›),(@ak _ _ _ _ _ _ _ _ (@gu _) ‹‹(0,oR)›[‹0›]› ‹‹(1,mv)›[‹0›]›)]›)›)),?_⟩
  exact ⟨_,rfl,a,_,_,_,rfl,rfl,ag.of ha,rfl,_,rfl,b,_,_,_,rfl,rfl,ag.of hb,rfl,_,_,rfl,rfl,nN z1 z4,
   _,rfl,a,_,_,_,rfl,rfl,ag.of ha,rfl,_,rfl,b,_,_,_,rfl,rfl,ag.of hb,rfl,_,_,rfl,rfl,nN z2 z3,_,_,rfl,Int.mul_pos (by have:=fp.pos;trivial) (by trivial),zb z2 z3,fun o H' n=>k o H' n⟩
inductive BV (vs:List V) (H:Hp) (Q:VK):Prop
 | mk (a b:Addr) (p q:KM.Fra) (h0:vs=[.ref a,.ref b]) (h1:H a=some (fr p)) (h2:H b=some (fr q)) (h3:Sz 4000 p.1) (h4:Sz 4000 p.2) (h5:Sz 4000 q.1) (h6:Sz 4000 q.2) (h7:Q (.int (p.1*q.2 - q.1*p.2)) H)
def DU:Sp:=fun vs H Q _=>BV  vs H Q
theorem pT (T:Txt K mg):aZ P w K mg base CX0 1 T.l_above_.f T.l_above_.d ["_law_one", "_law_other"] DU:=by
 refine T.l_above_.F.ok yV (fun vs H Q E h=>?_) (fun cdv A outer s H vs Q E hr h=>?_)
 ·obtain ⟨a,b,p,q,rfl,_⟩:=h
  rfl
 ·obtain ⟨a,b,p,q,rfl,ha,hb,z1,z2,z3,z4,k⟩:=h
  refine ⟨_,(@ad _ _ _ (@aw _ _ _ _ (@ak _ _ _ _ _ _ _ _ (@jw _) (@ak _ _ _ _ _ _ _ _ (@gu _) ‹‹(0,m9)›[‹0›]› ‹‹(1,kZ)›[‹0›]›) (@ak _ _ _ _ _ _ _ _ (@gu _) ‹‹(1,kZ)›[‹0›]› ‹‹(0,m9)›[‹0›]›)))),?_⟩
  exact ⟨_,rfl,a,_,_,_,rfl,rfl,ag.of ha,rfl,_,rfl,b,_,_,_,rfl,rfl,ag.of hb,rfl,_,_,rfl,rfl,nN z1 z4,_,rfl,b,_,_,_,rfl,rfl,ag.of hb,rfl,_,rfl,a,_,_,_,rfl,rfl,ag.of ha,rfl,_,_,rfl,rfl,nN z3 z2,_,_,rfl,rfl,k⟩
end
end K13
namespace K13
open PySem L2
set_option maxHeartbeats 4000000
theorem Ac {K:PySem.W.Frag}{a:Addr}{c:Bool}{xs:List V}{g:TG}{tb:TS}{D:dn}{σ:St}{H:Hp} (Pv:Nat→St→Hp→Prop) (h0:Pv 0 σ H) (hl:∀i σ H,i≤xs.length→Pv i σ H→kY K H a xs c)
 (hs:∀i x T σ H,xs[i]?=some x→H T=none→Pv i σ H→g (.ref T) σ (aD H T (.tup [.int (i:Int),x])) fun σ2 H2=>tb { D with nx:=Pv (i+1),ct:=Pv (i+1),bk:=D.nx } σ2 H2) (hd:∀σ H,Pv xs.length σ H→D.nx σ H) :
 ∃W:Nat→Nat→St→Hp→Prop,(∃m,W 0 m σ H)∧∀i m σ H,W i m σ H→
  ((wZ K a c).stop i H∧D.nx σ H)∨((wZ K a c).go i H∧∃N:St→Hp→Prop,(∀σ' H',N σ' H'→∃m',m'<m∧W (i+1) m' σ' H')∧∀x H',(wZ K a c).yld i H x H'→g x σ H' fun σ2 H2=>tb { D with nx:=N,ct:=N,bk:=D.nx } σ2 H2):=by
 refine ⟨fun i m σ H=>m=xs.length - i∧i≤xs.length∧Pv i σ H,⟨xs.length,by simp,Nat.zero_le _,h0⟩,?_⟩
 rintro i m σ H ⟨rfl,hi,p⟩
 have q1:=hl i σ H hi p
 by_cases hlt:i<xs.length
 ·refine .inr ⟨⟨xs,xs[i],q1,by simp [hlt]⟩,Pv (i+1),fun σ' H' p'=>⟨xs.length - (i+1),by trivial,rfl,hlt,p'⟩,fun x H' y=>?_⟩
  obtain ⟨T,u,hT,rfl,rfl,e1⟩:=y
  exact hs i u T σ H (e1 xs q1) hT p
 ·have e:i=xs.length:=by trivial
  subst e
  exact .inl ⟨⟨xs,q1,rfl⟩,hd _ _ p⟩
theorem cX {E:Addr→Prop}{H:Hp}{v:V}{ls:List (List Nat)}{ts:List aa} (h:aU E H v (dD ls ts)):kQ fun a p q ys=>v=.ref a∧H a=some (.tup [.ref p,.ref q])∧H p=some (.tup (ls.map af))∧H q=some (.tup ys)∧aI E H ys (ts.map kM):=by
 have sall:∀{ls:List (List Nat)}{xs:List V},aI E H xs (ls.map fun l=>PyData.str (S l))→xs=ls.map af:=by
  intro ls
  induction ls with
  | nil=>intro xs h;cases h;rfl
  | cons l r ih=>
   intro xs h
   cases h with
   | cons h1 h2=>cases h1;rw [ih h2];rfl
 cases h with
 | @tup a xs _ h r=>
  cases r with
  | cons h1 r=>
  cases r with
  | cons h2 r=>
  cases r
  cases h1 with
  | @tup p ps _ hp rp=>
  cases h2 with
  | @tup q ys _ hq rq=>
   have e:=sall rp
   subst e
   exact ⟨a,p,q,ys,rfl,h,hp,hq,rq⟩
theorem jR {E:Addr→Prop}{H:Hp}{v:V}{t:aa} (h:aU E H v (kM t)):kQ fun a om og op=>v=.ref a∧H a=some (.tup [.str (S t.bg),.str (S t.en),.ref om,.ref og,.ref op])∧H om=some (fr t.most)∧H og=some (fr t.gain)∧H op=some (fr t.price):=by
 cases h with
 | @tup a xs _ h r=>
  cases r with
  | @cons u1 _ _ _ h1 r=>
  cases r with
  | @cons u2 _ _ _ h2 r=>
  cases r with
  | @cons u3 _ _ _ h3 r=>
  cases r with
  | @cons u4 _ _ _ h4 r=>
  cases r with
  | @cons u5 _ _ _ h5 r=>
  cases r
  cases h1
  cases h2
  obtain ⟨om,rfl,ho⟩:=rV h3
  obtain ⟨og,rfl,hg⟩:=rV h4
  obtain ⟨op,rfl,hp⟩:=rV h5
  exact ⟨a,om,og,op,rfl,h,ho,hg,hp⟩
theorem xF {H H':Hp}{D:Addr}{ys zs:List V}{ds:List PyData}{v:V}{d:PyData} (c:Ch H D zs H') (hD:H D=some (.lst ys)) (i:aI ED H ys ds) (iv:aU ED H v d):aI ED H' (ys++[v]) (ds++[d]):=
 (i.mono ⟨fun _ _ n _=>absurd trivial n,fun _ _ e=>c.tup e hD⟩).append (.cons (iv.tupC c hD) .nil)
theorem zf:Gb 1 1 (1,1):=⟨show (1:Int).natAbs<2 ^ 1 by decide,show (1:Int).natAbs<2 ^ 1 by decide,by decide⟩
structure fK (ls:List (List Nat)) (t:aa):Prop where
 b:t.bg∈ls
 e:t.en∈ls
 ne:t.bg≠t.en
 fm:Gb 20 3 t.most
 fg:Gb 6 6 t.gain
 g1:1≤t.gain.1
 fp:Gb 24 24 t.price
 m0:0≤t.most.1
 mc:Int.gcd t.most.1 t.most.2=1
section
variable {P:Program}{w:World}{K:PySem.W.Frag}{mg:Str→Option Value}{base:Heap}
theorem IA:Sz 4000 (1:Int):=Sz.mono (m:=1) (show (1:Int).natAbs<2 ^ 1 by decide) (by decide)
theorem gz {a b:Nat}{p:KM.Fra} (h:Gb a b p) (ha:a≤4000) (hb:b≤4000):Sz 4000 p.1∧Sz 4000 p.2:=⟨h.n.mono ha,h.d.mono hb⟩
theorem gd {a b c d:Nat}{p q:KM.Fra} (h:Gb a b p) (k:Gb c d q):p.2*q.2≠0:=Int.mul_ne_zero (by have:=h.pos;trivial) (by have:=k.pos;trivial)
theorem Ga {i j:Int}:decide (0<u9 i j)=decide (j<i):=by
 unfold u9
 by_cases h:i<j
 ·rw [if_pos h,decide_eq_false (show ¬j<i by trivial)];rfl
 ·rw [if_neg h]
  by_cases h2:j<i
  ·rw [if_pos h2,decide_eq_true h2];rfl
  ·rw [if_neg h2,decide_eq_false h2];rfl
end
end K13
namespace K13
open PySem L2
set_option maxHeartbeats 4000000
section
variable {P:Program}{w:World}{K:PySem.W.Frag}{mg:Str→Option Value}{base:Heap}
end
end K13
namespace K13
open PySem L2
set_option maxHeartbeats 4000000
theorem Js {a b:List Nat}:qw (V.str (S a)) (V.str (S b))=(a==b):=by
 show (S a==S b)=(a==b)
 by_cases h:a=b
 ·subst h;simp
 ·rw [beq_eq_false_iff_ne.mpr h,beq_eq_false_iff_ne.mpr]
  exact fun z=>h (j7 z)
theorem Ir (l:List Nat) (es:List (List Nat)):sM (af l) (es.map af)=es.contains l:=by
 unfold sM
 induction es with
 | nil=>rfl
 | cons e r ih=>
  rw [List.map_cons,List.any_cons,ih,List.contains_cons]
  have:qw (af e) (af l)=(l==e):=by rw [show qw (af e) (af l)=(e==l) from Js];exact Bool.beq_comm
  rw [this]
theorem CG (es:List (List Nat)):(es.map af).all j6=true:=by
 rw [List.all_eq_true]
 intro v hv
 obtain ⟨l,_,rfl⟩:=List.mem_map.mp hv
 rfl
theorem mq {α:Type} [DecidableEq α]:∀{xs ys:List α},xs.Nodup→(∀x∈xs,x∈ys)→xs.length≤ys.length
 | [],_,_,_=>Nat.zero_le _
 | x :: xs,ys,nd,h=>by
  rw [List.nodup_cons] at nd
  have hx:=h x (List.mem_cons_self ..)
  have:=mq (xs:=xs) (ys:=ys.erase x) nd.2 fun y hy=>(List.mem_erase_of_ne (fun (z:y=x)=>nd.1 (z▸hy))).mpr (h y (List.mem_cons_of_mem _ hy))
  rw [List.length_erase_of_mem hx] at this
  have:0<ys.length:=List.length_pos_of_mem hx
  simp
  trivial
section
variable {P:Program}{w:World}{K:PySem.W.Frag}{mg:Str→Option Value}{base:Heap}
end
end K13
namespace K13
open PySem L2
set_option maxHeartbeats 4000000
section
variable {P:Program}{w:World}{K:PySem.W.Frag}{mg:Str→Option Value}{base:Heap}
end
end K13
namespace K13
open PySem L2
set_option maxHeartbeats 4000000
section
variable {P:Program}{w:World}{K:PySem.W.Frag}{mg:Str→Option Value}{base:Heap}
end
end K13
namespace K13
open PySem L2
set_option maxHeartbeats 4000000
theorem xh {α:Type} (n:Nat) (x:α):(List.replicate n [x]).flatten=List.replicate n x:=by
 induction n with
 | zero=>rfl
 | succ n ih=>rw [List.replicate_succ,List.flatten_cons,ih,List.replicate_succ];rfl
theorem El {α:Type}{ls:List α} (nd:ls.Nodup) {i j:Nat}{x:α} (h1:ls[i]?=some x) (h2:ls[j]?=some x):i=j:=by
 obtain ⟨a1,e1⟩:=List.getElem?_eq_some_iff.mp h1
 obtain ⟨a2,e2⟩:=List.getElem?_eq_some_iff.mp h2
 exact i0 nd a1 a2 (e1.trans e2.symm)
section
variable {P:Program}{w:World}{K:PySem.W.Frag}{mg:Str→Option Value}{base:Heap}
end
end K13
namespace K13
open PySem L2
set_option maxHeartbeats 4000000
section
variable {P:Program}{w:World}{K:PySem.W.Frag}{mg:Str→Option Value}{base:Heap}
inductive HU (a b:Nat) (vs:List V) (H:Hp) (Q:VK):Prop
 | mk (bx:Addr) (t:Int) (h0:vs=[.ref bx]) (h1:Bx H bx t) (h2:0≤t) (h3:t≤900000) (h4:∀(o:Addr) (z:KM.Fra) (t':Int) (H':Hp),aO (Eb bx) H H'→H' o=some (fr z)→Gb a b z→0≤z.1→Int.gcd z.1 z.2=1→Bx H' bx t'→t≤t'→t'≤t+2→Q (.ref o) H')
def FH (a b:Nat):Sp:=fun vs H Q _=>HU a b vs H Q
theorem zc {a b:Nat}{n d:Int} (h1:n.natAbs<2 ^ a) (h2:d.natAbs<2 ^ b) (h3:1≤d):Gb a b (n,d):=⟨h1,h2,h3⟩
theorem Al {n d:Int} (hd:0<d) (h:0≤n):0≤(KM.low n d).1:=by
 have:=(KM.low_sgn (n:=n) hd).2
 by_cases q:(KM.low n d).1<0
 ·have:=this.mp q;trivial
 ·trivial
theorem wp (T:Txt K mg):aZ P w K mg base CX0 2 T.l_any_much_.f T.l_any_much_.d ["_law_box_here"] (FH 20 3):=by
 have G_l_take:=jO (P:=P) (w:=w) (base:=base) T
 have G_l_frac:=lE (P:=P) (w:=w) (base:=base) T
 refine T.l_any_much_.F.ok pV (fun vs H Q E h=>?_) (fun cdv A outer s H vs Q E hr h=>?_)
 ·obtain ⟨b,t,rfl,_⟩:=h
  rfl
 ·obtain ⟨b,t,rfl,B,ht0,ht1,k⟩:=h
  refine ⟨_,‹‹(1,pV.nd,fb,‹(G_l_take,jG,T.l_take_,‹[‹(0,iw)›,‹0›]›)›)› :: ‹(@be _ _ _ _ _ _ _ _ (@aq _ _ _ _ _ _ _ _ (@cP _) ‹(1,fb)› ‹0› (@au _ _ (by decide) (by decide))) (@ad _ _ _ (@aw _ _ _ _ (@aG _ _ _ _ _ ‹[‹0›,‹0›]›))) (@aN _)) :: ‹(@be _ _ _ _ _ _ _ _ (@aq _ _ _ _ _ _ _ _ (@cP _) ‹(1,fb)› ‹0› (@au _ _ (by decide) (by decide))) (@ad _ _ _ (@aw _ _ _ _ (@aG _ _ _ _ _ ‹[(@ak _ _ _ _ _ _ _ _ (@xS _) ‹0› ‹0›),‹0›]›))) (@aN _)) :: (@ad _ _ _ (@aw _ _ _ _ ‹(G_l_frac,qd,T.l_frac_,‹[(@ak _ _ _ _ _ _ _ _ (@bH _) ‹0› ‹(G_l_take,jG,T.l_take_,‹[‹(0,iw)›,‹0›]›)›),‹(@bJ _ _ _ _ ‹[‹0›,‹0›,‹0›,‹0›,‹0›,‹0›]›)[(@ak _ _ _ _ _ _ _ _ (@jw _) ‹(1,fb)› ‹0›)]!›]›)›))›››,?_⟩
  refine ⟨_,rfl,b,8,t,rfl,B,by decide,by decide,ht0,by trivial,fun wy t1 H1 w0 w1 h1a h1b s1 B1=>?_⟩
  refine ⟨_,rfl,rfl,_,rfl,mm (fun c=>?_) (fun c=>?_)⟩
  ·exact ⟨(by show 2≤10000;decide),fun o H2 n2=>k o (0,1) t1 H2 (s1.trans n2.sm.toE) n2.at' (zc (by decide) (by decide) (by decide)) (by decide) (by decide) (B1.same n2.sm) (by trivial) (by trivial)⟩
  refine ⟨_,rfl,rfl,_,rfl,mm (fun c'=>?_) (fun c'=>?_)⟩
  ·have q6:(10:Int) ^ (6:Int).toNat=1000000:=by decide
   refine ⟨_,_,rfl,rfl,⟨by decide,by decide,by decide⟩,(by show 2≤10000;decide),fun o H2 n2=>k o (1000000,1) t1 H2 (s1.trans n2.sm.toE) ?_ (zc (by decide) (by decide) (by decide)) (by decide) (by decide) (B1.same n2.sm) (by trivial) (by trivial)⟩
   rw [n2.at']
   show some (HO.tup [V.int ((10:Int) ^ (6:Int).toNat),V.int 1])=_
   rw [q6]
  have hw:wy≠0:=fun z=>c (by rw [z];decide)
  have hw':wy≠1:=fun z=>c' (by rw [z];decide)
  refine ⟨_,rfl,b,12,t1,rfl,B1,by decide,by decide,by trivial,by trivial,fun r2 t2 H2 a20 a21 _ _ s2 B2=>⟨_,_,rfl,rfl,(by show 6≤10000;decide),fun l5 H5 n5=>?_⟩⟩
  obtain ⟨e,ee,he0,he1⟩:∃e:Int,gO [V.int 1,V.int 1,V.int 1,V.int 2,V.int 3,V.int 7] (wy - 2)=some (V.int e)∧1≤e∧e≤7:=by
   obtain rfl | rfl | rfl | rfl | rfl | rfl:wy=2∨wy=3∨wy=4∨wy=5∨wy=6∨wy=7:=by trivial
   ·exact ⟨1,rfl,by decide,by decide⟩
   ·exact ⟨1,rfl,by decide,by decide⟩
   ·exact ⟨1,rfl,by decide,by decide⟩
   ·exact ⟨2,rfl,by decide,by decide⟩
   ·exact ⟨3,rfl,by decide,by decide⟩
   ·exact ⟨7,rfl,by decide,by decide⟩
  have f:Gb 20 3 (KM.low (1+r2) e):=qR (show (1+r2).natAbs<1048576 by trivial) (show e.natAbs<8 by trivial) (by trivial)
  exact ⟨_,rfl,_,_,rfl,rfl,l5,_,_,_,rfl,rfl,am.of n5.at',ee,_,_,rfl,by trivial,Sz.mono (m:=40) (by show e.natAbs<1099511627776;trivial) (by decide),fun o H6 n6=>k o _ t2 H6 (((s1.trans s2).trans n5.sm.toE).trans n6.sm.toE) n6.at' f (Al (by trivial) (by trivial)) (KM.low_spec _ _ (by trivial)).2.2.1 ((B2.same n5.sm).same n6.sm) (by trivial) (by trivial)⟩
theorem xV (T:Txt K mg):aZ P w K mg base CX0 2 T.l_any_price_.f T.l_any_price_.d ["_law_box_here"] (FH 24 24):=by
 have G_l_take:=jO (P:=P) (w:=w) (base:=base) T
 have G_l_frac:=lE (P:=P) (w:=w) (base:=base) T
 refine T.l_any_price_.F.ok nZ (fun vs H Q E h=>?_) (fun cdv A outer s H vs Q E hr h=>?_)
 ·obtain ⟨b,t,rfl,_⟩:=h
  rfl
 ·obtain ⟨b,t,rfl,B,ht0,ht1,k⟩:=h
  refine ⟨_,‹‹(1,nZ.nd,gE,‹(G_l_take,ja,T.l_take_,‹[‹(0,hJ)›,‹0›]›)›)› :: (@ad _ _ _ (@aw _ _ _ _ (@fu _ _ _ _ _ _ _ _ (@aq _ _ _ _ _ _ _ _ (@cP _) ‹(1,gE)› ‹0› (@au _ _ (by decide) (by decide))) (@aG _ _ _ _ _ ‹[‹0›,‹0›]›) ‹(G_l_frac,pC,T.l_frac_,‹[‹(G_l_take,ja,T.l_take_,‹[‹(0,hJ)›,‹0›]›)›,‹(@bJ _ _ _ _ ‹[‹0›,‹0›,‹0›]›)[(@ak _ _ _ _ _ _ _ _ (@jw _) ‹(1,gE)› ‹0›)]!›]›)›)))›,?_⟩
  refine ⟨_,rfl,b,4,t,rfl,B,by decide,by decide,ht0,by trivial,fun wy t1 H1 w0 w1 h1a h1b s1 B1=>?_⟩
  refine ⟨_,rfl,rfl,_,rfl,mm (fun c=>?_) (fun c=>?_)⟩
  ·exact ⟨(by show 2≤10000;decide),fun o H2 n2=>k o (0,1) t1 H2 (s1.trans n2.sm.toE) n2.at' (zc (by decide) (by decide) (by decide)) (by decide) (by decide) (B1.same n2.sm) (by trivial) (by trivial)⟩
  have hw:wy≠0:=fun z=>c (by rw [z];decide)
  refine ⟨_,rfl,b,20,t1,rfl,B1,by decide,by decide,by trivial,by trivial,fun r2 t2 H2 a20 a21 _ _ s2 B2=>⟨(by show 3≤10000;decide),fun l5 H5 n5=>?_⟩⟩
  obtain ⟨e,ee,he0,he1⟩:∃e:Int,gO [V.int 1,V.int 1,V.int 6] (wy - 1)=some (V.int e)∧1≤e∧e≤7:=by
   obtain rfl | rfl | rfl:wy=1∨wy=2∨wy=3:=by trivial
   ·exact ⟨1,rfl,by decide,by decide⟩
   ·exact ⟨1,rfl,by decide,by decide⟩
   ·exact ⟨6,rfl,by decide,by decide⟩
  have f:Gb 24 24 (KM.low r2 e):=qR (show r2.natAbs<16777216 by trivial) (show e.natAbs<16777216 by trivial) (by trivial)
  exact ⟨_,rfl,_,_,rfl,rfl,l5,_,_,_,rfl,rfl,am.of n5.at',ee,_,_,rfl,by trivial,Sz.mono (m:=40) (by show e.natAbs<1099511627776;trivial) (by decide),fun o H6 n6=>k o _ t2 H6 (((s1.trans s2).trans n5.sm.toE).trans n6.sm.toE) n6.at' f (Al (by trivial) (by trivial)) (KM.low_spec _ _ (by trivial)).2.2.1 ((B2.same n5.sm).same n6.sm) (by trivial) (by trivial)⟩
end
end K13
namespace K13
open PySem L2
set_option maxHeartbeats 4000000
abbrev zT:=List Nat×List Nat×KM.Fra
abbrev AI (x:zT):PyData:=.tuple [.str (S x.1),.str (S x.2.1),kR x.2.2]
structure FR (ls:List (List Nat)) (x:zT):Prop where
 b:x.1∈ls
 e:x.2.1∈ls
 ne:x.1≠x.2.1
 g:Gb 6 6 x.2.2
 g1:1≤x.2.2.1
theorem zN {n d:Int} (hn:1≤n) (hn2:n<64) (hd:1≤d) (hd2:d<64):Gb 6 6 (KM.low n d)∧1≤(KM.low n d).1:=
 ⟨qR (show n.natAbs<64 by trivial) (show d.natAbs<64 by trivial) (by trivial),(KM.low_sgn (by trivial)).1.mpr (by trivial)⟩
theorem zU {E:Addr→Prop}{H:Hp}{α:Type}{f:α→PyData}:∀{vs:List V}{xs:List α},vs.length=xs.length→(∀(i:Nat) v x,vs[i]?=some v→xs[i]?=some x→aU E H v (f x))→aI E H vs (xs.map f)
 | [],[],_,_=>.nil
 | [],_ :: _,h,_=>by simp at h
 | _ :: _,[],h,_=>by simp at h
 | v :: vs,x :: xs,h,k=>.cons (k 0 v x rfl rfl) (zU (by simpa using h) fun i v' x' h1 h2=>k (i+1) v' x' (by simpa using h1) (by simpa using h2))
theorem EH {n f i j:Int} (h0:0<n) (hij:i<j) (hn:j - i<n):(f+i) % n≠(f+j) % n:=fun z=>by
 have h1:((f+j) - (f+i)) % n=0:=by
  rw [Int.sub_emod,z,Int.sub_self,Int.zero_emod]
 have h2:(f+j) - (f+i)=j - i:=by trivial
 rw [h2,Int.emod_eq_of_lt (by trivial) hn] at h1
 trivial
section
variable {P:Program}{w:World}{K:PySem.W.Frag}{mg:Str→Option Value}{base:Heap}
inductive By (vs:List V) (H:Hp) (Q:VK):Prop
 | mk (b pl:Addr) (ls:List (List Nat)) (t:Int) (h0:vs=[.ref b,.ref pl]) (h1:Bx H b t) (h2:0≤t) (h3:t≤900000) (h4:H pl=some (.tup (ls.map af))) (h5:2≤ls.length) (h6:ls.length≤10) (h7:ls.Nodup) (h8:∀(L:Addr) (ys:List V) (es:List zT) (t':Int) (H':Hp),aO (Eb b) H H'→H L=none→H' L=some (.lst ys)→aI ED H' ys (es.map AI)→es.length≤10→(∀x∈es,FR ls x)→Bx H' b t'→t≤t'→t'≤t+5→Q (.ref L) H')
def Es:Sp:=fun vs H Q _=>By  vs H Q
theorem zM (T:Txt K mg):aZ P w K mg base CX0 2 T.l_planted_.f T.l_planted_.d ["_law_box_here", "_law_places"] Es:=by
 have G_l_take:=jO (P:=P) (w:=w) (base:=base) T
 have G_l_frac:=lE (P:=P) (w:=w) (base:=base) T
 refine T.l_planted_.F.ok dj (fun vs H Q E h=>?_) (fun cdv A outer s H vs Q E hr h=>?_)
 ·obtain ⟨b,pl,ls,t,rfl,_⟩:=h
  rfl
 ·obtain ⟨b,pl,ls,t,rfl,B,ht0,ht1,hpl,l2,l10,nd,k⟩:=h
  have es:((ls.map af).length:Int)=(ls.length:Int):=by rw [List.length_map]
  refine ⟨_,‹‹(2,dj.nd,gU,(@ak _ _ _ _ _ _ _ _ (@bH _) ‹0› ‹(G_l_take,dm,T.l_take_,‹[‹(0,b6)›,(@ak _ _ _ _ _ _ _ _ (@jw _) (@ao _ _ _ _ _ _ _ _ _ (@dP _ (K) (by rfl)) mS T.b_len (@aX) ‹[(@pw _ 1 _ _ (Or.inr (Or.inl jC)) (by rfl) (by decide) (by decide))]› (by decide) (by decide) (by rfl) (by rfl)) ‹0›)]›)›))› :: ‹(@gj _ _ _ _ _ _ (@aG _ _ _ _ _ ‹[‹(G_l_take,dm,T.l_take_,‹[‹(0,b6)›,(@ao _ _ _ _ _ _ _ _ _ (@dP _ (K) (by rfl)) mS T.b_len (@aX) ‹[(@pw _ 1 _ _ (Or.inr (Or.inl jC)) (by rfl) (by decide) (by decide))]› (by decide) (by decide) (by rfl) (by rfl))]›)›,(@ak _ _ _ _ _ _ _ _ (@bH _) ‹0› ‹(G_l_take,dm,T.l_take_,‹[‹(0,b6)›,‹0›]›)›),(@ak _ _ _ _ _ _ _ _ (@bH _) ‹0› ‹(G_l_take,dm,T.l_take_,‹[‹(0,b6)›,‹0›]›)›)]›) (@fk _ (K) _ _ _ _ (3) rfl (@aS _ _ _ _ _ (@bo _ _ (3) _ dj.nd rfl (Or.inr qf) (by first | exact .inl rfl | exact .inr rfl | assumption)) (@aS _ _ _ _ _ ‹(4,dj.nd,i8)› (@aS _ _ _ _ _ ‹(5,dj.nd,jf)› (@eS _) (by rfl)) (by rfl)) (by rfl)) (by rfl) (by rfl) (by rfl)) (by rfl) (by rfl) (by rfl)) :: ‹‹(6,dj.nd,hU,(@ak _ _ _ _ _ _ _ _ (@bH _) ‹0› ‹(G_l_take,dm,T.l_take_,‹[‹(0,b6)›,‹0›]›)›))› :: ‹‹(7,dj.nd,jI,(@ak _ _ _ _ _ _ _ _ (@jX _) (@bJ _ _ _ _ ‹[‹(G_l_frac,kh,T.l_frac_,‹[‹(4,i8)›,‹(5,jf)›]›)›,‹(G_l_frac,kh,T.l_frac_,‹[(@ak _ _ _ _ _ _ _ _ (@gc _) ‹(5,jf)› (@ak _ _ _ _ _ _ _ _ (@bH _) ‹(6,hU)› ‹0›)),(@ak _ _ _ _ _ _ _ _ (@gc _) ‹(4,i8)› ‹(6,hU)›)]›)›]›) (@ak _ _ _ _ _ _ _ _ (@Dg _) (@bJ _ _ _ _ ‹[(@aG _ _ _ _ _ ‹[‹0›,‹0›]›)]›) (@ak _ _ _ _ _ _ _ _ (@jw _) ‹(2,gU)› ‹0›))))› :: ‹(@sD _ _ _ _ _ _ _ (["_law_k", "_law_first", "_law_places"]) (1) ([3,1]) _ _ _ _ (8) _ _ _ dj.nd rfl eF (by kernel_rfl) rfl (by kernel_rfl) (@eX _ _ _ _ _ _ se T.b_range ‹[‹(2,gU)›]› (by rfl)) (fun _ _ _ _ _ _=>(@bo _ _ (0) _ (@cE _ (by kernel_rfl)) rfl (Or.inl (by kernel_rfl)) (by first | exact .inl rfl | exact .inr rfl | assumption))) (fun _ _ _ _ _ _=>@cu _) (fun _ _ _ _ _ _=>‹‹(2,0)›[(@ak _ _ _ _ _ _ _ _ (@ig _) (@ak _ _ _ _ _ _ _ _ (@bH _) ‹(1,0)› ‹(0,())›) (@ao _ _ _ _ _ _ _ _ _ (@dP _ (K) (by rfl)) (by show _=_;kernel_rfl) T.b_len (@aX) ‹[‹(2,0)›]› (by decide) (by decide) (by rfl) (by rfl)))]›) (by intro _;rfl)) :: (@ad _ _ _ (@aw _ _ _ _ (@A6 _ (K) _ _ _ _ _ _ _ _ rfl tu T.b_list ud T.b_zip ‹[‹(8,eF)›,(@ak _ _ _ _ _ _ _ _ (@jX _) (@fZ _ _ _ _ _ _ _ _ _ _ (@iQ _ (K) (by rfl)) ‹(8,eF)› (@gl _ _ _ ‹0›) (@i4 _)) (@fZ _ _ _ _ _ _ _ _ _ _ (@iQ _ (K) (by rfl)) ‹(8,eF)› (@i4 _) (@gl _ _ _ ‹0›))),‹(7,jI)›]› (by rfl) (by rfl) (by rfl) (by rfl))))›››››,?_⟩
  refine bD fun Q1 nA1=>⟨_,rfl,_,rfl,pl,_,rfl,.inr (ag.of hpl),_,_,rfl,rfl,b,_,t,rfl,B,by trivial,mB (by trivial) (by trivial),by trivial,by trivial,fun r1 t1 H1 r10 r11 h1a h1b s1 B1=>⟨_,_,rfl,rfl,nA1 _ _ ?_⟩⟩
  have hpl1:=s1.tup _ _ hpl
  refine ⟨_,rfl,_,rfl,pl,_,rfl,.inr (ag.of hpl1),b,_,t1,rfl,B1,by trivial,mB (by trivial) (by trivial),by trivial,by trivial,fun f t2 H2 f0 f1 h2a h2b s2 B2=>?_⟩
  refine ⟨_,rfl,b,6,t2,rfl,B2,by decide,by decide,by trivial,by trivial,fun a t3 H3 a0 a1 h3a h3b s3 B3=>⟨_,_,rfl,rfl,?_⟩⟩
  refine ⟨_,rfl,b,6,t3,rfl,B3,by decide,by decide,by trivial,by trivial,fun c t4 H4 c0 c1 h4a h4b s4 B4=>⟨_,_,rfl,rfl,(by show 3≤10000;decide),fun T5 H5 n5=>⟨T5,_,rfl,ag.of n5.at',rfl,_,_,rfl,_,_,rfl,_,_,rfl,rfl,?_⟩⟩⟩
  dsimp only
  refine bD fun Q2 nA2=>⟨_,rfl,b,6,t4,rfl,B4.same n5.sm,by decide,by decide,by trivial,by trivial,fun m t6 H6 m0 m1 h6a h6b s6 B6=>⟨_,_,rfl,rfl,nA2 _ _ ?_⟩⟩
  have s06:aO (Eb b) H H6:=((((s1.trans s2).trans s3).trans s4).trans n5.sm.toE).trans s6
  have q1:1≤(1+a)*(1+m):=by
   have:=Int.mul_le_mul (show (1:Int)≤1+a by trivial) (show (1:Int)≤1+m by trivial) (by decide) (by trivial);trivial
  have q2:(1+a)*(1+m)≤6*6:=Int.mul_le_mul (by trivial) (by trivial) (by trivial) (by decide)
  have q3:1≤(1+c)*(1+m+1):=by
   have:=Int.mul_le_mul (show (1:Int)≤1+c by trivial) (show (1:Int)≤1+m+1 by trivial) (by decide) (by trivial);trivial
  have q4:(1+c)*(1+m+1)≤6*7:=Int.mul_le_mul (by trivial) (by trivial) (by trivial) (by decide)
  have g1:=zN (n:=1+a) (d:=1+c) (by trivial) (by trivial) (by trivial) (by trivial)
  have g2:=zN q3 (by trivial) q1 (by trivial)
  refine bD fun Q3 nA3=>?_
  refine ⟨_,rfl,_,rfl,1+a,1+c,rfl,by trivial,Sz.mono (m:=40) (by show (1+c).natAbs<1099511627776;trivial) (by decide),fun o1 H7 n7=>?_⟩
  refine ⟨_,rfl,_,rfl,_,_,rfl,rfl,_,_,rfl,rfl,.inr ⟨by trivial,by trivial⟩,_,rfl,_,rfl,_,_,rfl,rfl,.inr ⟨by trivial,by trivial⟩,(1+c)*(1+m+1),(1+a)*(1+m),rfl,by trivial,Sz.mono (m:=40) (by show ((1+a)*(1+m)).natAbs<1099511627776;trivial) (by decide),fun o2 H8 n8=>?_⟩
  refine ⟨(by show 2≤10000;decide),fun l9 H9 n9=>⟨(by show 2≤10000;decide),fun o3 H10 n10=>⟨(by show 1≤10000;decide),fun l11 H11 n11=>?_⟩⟩⟩
  refine ⟨_,rfl,_,_,rfl,rfl,l11,_,_,rfl,rfl,n11.at',by trivial,by trivial,by simp;trivial,fun l12 H12 n12=>⟨l9,l12,_,_,rfl,rfl,n12.sm _ _ (n11.sm _ _ (n10.sm _ _ n9.at')),n12.at',?_,fun G H13 n13=>nA3 _ _ ?_⟩⟩
  ·rw [xh,List.length_replicate];simp;trivial
  obtain ⟨mn,emn,hmn⟩:∃mn:Nat,2+r1=(mn:Int)∧2≤mn∧mn≤ls.length:=⟨(2+r1).toNat,by trivial,by trivial,by trivial⟩
  have s613:ah H6 H13:=((((((n7.sm.trans n8.sm).trans n9.sm).trans n10.sm).trans n11.sm).trans n12.sm).trans n13.sm)
  have hG:H13 G=some (.lst ([.ref o1,.ref o2]++List.replicate (mn - 2) (.ref o3))):=by
   have:=n13.at'
   rw [xh,show (2+r1 - 2).toNat=mn - 2 by trivial] at this
   exact this
  have ho1:H13 o1=some (fr (KM.low (1+a) (1+c))):=n13.sm _ _ (n12.sm _ _ (n11.sm _ _ (n10.sm _ _ (n9.sm _ _ (n8.sm _ _ n7.at')))))
  have ho2:H13 o2=some (fr (KM.low ((1+c)*(1+m+1)) ((1+a)*(1+m)))):=n13.sm _ _ (n12.sm _ _ (n11.sm _ _ (n10.sm _ _ (n9.sm _ _ n8.at'))))
  have ho3:H13 o3=some (fr (1,1)):=n13.sm _ _ (n12.sm _ _ (n11.sm _ _ n10.at'))
  have hplE:H13 pl=some (.tup (ls.map af)):=s613 _ _ (s06.tup _ _ hpl)
  have ix:∀i:Nat,∃l,ls[((f+(i:Int)) % (ls.length:Int)).toNat]?=some l∧0≤(f+(i:Int)) % (ls.length:Int)∧((f+(i:Int)) % (ls.length:Int)).toNat<ls.length:=fun i=>by
   have a1:=Int.emod_nonneg (f+(i:Int)) (show (ls.length:Int)≠0 by trivial)
   have a2:=Int.emod_lt_of_pos (f+(i:Int)) (show (0:Int)<ls.length by trivial)
   exact ⟨_,List.getElem?_eq_getElem (by trivial),a1,by trivial⟩
  obtain ⟨sp,hsp⟩:∃sp:Nat→List Nat,∀i:Nat,ls[((f+(i:Int)) % (ls.length:Int)).toNat]?=some (sp i):=⟨fun i=>Classical.choose (ix i),fun i=>(Classical.choose_spec (ix i)).1⟩
  have spm:∀i,sp i∈ls:=fun i=>List.mem_of_getElem? (hsp i)
  have spn:∀i j:Nat,i<j→j<ls.length→sp i≠sp j:=fun i j hij hj z=>by
   have h1:=hsp i
   have h2:=hsp j
   rw [z] at h1
   have:=El nd h1 h2
   obtain ⟨_,_,p1,_⟩:=ix i
   obtain ⟨_,_,p2,_⟩:=ix j
   exact EH (n:=(ls.length:Int)) (f:=f) (i:=i) (j:=j) (by trivial) (by trivial) (by trivial) (by trivial)
  refine bD fun Q4 nA4=>⟨_,rfl,_,rfl,by trivial,by trivial,fun D hD=>?_⟩
  rw [emn,Int.toNat_natCast]
  refine vq (n:=mn) (fun k=>af (sp k)) (by trivial) hD (fun i H' hi sm=>hi) (fun H' sm=>Nat.le_refl _) ?_ ?_
  ·rintro i x H' H'' R hi sm ⟨rfl,rfl⟩ kk
   have hplX:=sm _ _ hplE
   obtain ⟨_,_,p1,p2⟩:=ix i
   have hat:gO (ls.map af) ((f+(0+(i:Int))) % ((ls.map af).length:Int))=some (af (sp i)):=by
    rw [es,Int.zero_add,oU p1 p2]
    have:=hsp i
    rw [List.getElem?_eq_getElem p2] at this
    rw [Option.some.inj this]
   exact ⟨gK,_,rfl,_,rfl,_,rfl,_,_,rfl,rfl,_,rfl,pl,_,rfl,.inr (ag.of hplX),_,_,rfl,rfl,(by show (0:Int)<((ls.map af).length:Int);trivial),pl,_,_,_,rfl,rfl,ag.of hplX,hat,kk _ (ah.refl _)⟩
  intro J sJ hDJ
  refine nA4 _ _ ?_
  have ml:((List.range mn).map fun k=>af (sp k)).length=mn:=by simp
  refine ⟨_,rfl,_,rfl,_,rfl,D,_,rfl,am.of hDJ,fun p1 J1 j1=>⟨_,rfl,_,rfl,D,_,rfl,am.of (j1.sm _ _ hDJ),fun p2 J2 j2=>⟨p1,p2,_,_,rfl,rfl,j2.sm _ _ j1.at',j2.at',?_,fun p3 J3 j3=>?_⟩⟩⟩
  ·rw [o9,mW (by decide),List.length_drop,List.length_take,ml]
   show mn - 1+min 1 mn≤10000
   trivial
  have e3:J3 p3=some (.lst (((List.range mn).map fun k=>af (sp k)).drop 1++((List.range mn).map fun k=>af (sp k)).take 1)):=by
   rw [j3.at',o9,mW (by decide)];rfl
  have sJ3:ah H13 J3:=sJ.trans ((j1.sm.trans j2.sm).trans j3.sm)
  refine ⟨_,rfl,D,p3,G,_,_,_,rfl,am.of (j3.sm _ _ (j2.sm _ _ (j1.sm _ _ hDJ))),am.of e3,am.of (sJ3 _ _ hG),?_,?_,by rw [ml];trivial,fun L ts J4 s4' fL hL lts hts=>?_⟩
  ·rw [List.length_append,List.length_drop,List.length_take,ml];trivial
  ·rw [List.length_append,List.length_replicate,ml];simp;trivial
  rw [ml] at lts
  have s134:=sJ3.trans s4'
  have gz:∀i:Nat,i<mn→∃z:Addr×KM.Fra,([V.ref o1,.ref o2]++List.replicate (mn - 2) (.ref o3))[i]?=some (.ref z.1)∧J4 z.1=some (fr z.2)∧Gb 6 6 z.2∧1≤z.2.1:=fun i hi=>by
   match i,hi with
   | 0,_=>exact ⟨(o1,_),rfl,s134 _ _ ho1,g1.1,g1.2⟩
   | 1,_=>exact ⟨(o2,_),rfl,s134 _ _ ho2,g2.1,g2.2⟩
   | i+2,hi=>
    refine ⟨(o3,(1,1)),?_,s134 _ _ ho3,zc (by decide) (by decide) (by decide),(by show (1:Int)≤1;decide)⟩
    show (List.replicate (mn - 2) (V.ref o3))[i]?=_
    rw [List.getElem?_replicate,if_pos (by trivial)]
  obtain ⟨zl,lzl,hzl⟩:=uX mn gz
  obtain ⟨g,hg⟩:∃g:Nat→KM.Fra,∀i,i<mn→∃o,([V.ref o1,.ref o2]++List.replicate (mn - 2) (.ref o3))[i]?=some (.ref o)∧J4 o=some (fr (g i))∧Gb 6 6 (g i)∧1≤(g i).1:=by
   refine ⟨fun i=>((zl[i]?).map Prod.snd).getD (1,1),fun i hi=>?_⟩
   obtain ⟨z,ez⟩:∃z,zl[i]?=some z:=⟨_,List.getElem?_eq_getElem (by trivial)⟩
   have q:=hzl i z ez
   refine ⟨z.1,q.1,?_⟩
   show J4 z.1=some (fr (((zl[i]?).map Prod.snd).getD (1,1)))∧Gb 6 6 (((zl[i]?).map Prod.snd).getD (1,1))∧1≤(((zl[i]?).map Prod.snd).getD (1,1)).1
   rw [ez]
   exact q.2
  have s6':aO (Eb b) H J4:=s06.trans (s613.trans s134).toE
  refine k L (ts.map V.ref) ((List.range mn).map fun i=>(sp i,(if i+1<mn then sp (i+1) else sp 0),g i)) t6 J4 s6' ?_ hL ?_ (by simp;trivial) ?_ (B6.same (s613.trans s134)) (by trivial) (by trivial)
  ·have:H13 L=none:=sJ3.free fL
   exact s06.free B6 (s613.free this)
  ·refine zU (by simp [lts]) fun i v x hv hx=>?_
   rw [List.getElem?_map] at hv hx
   obtain ⟨tt,ht,rfl⟩:=Option.map_eq_some_iff.mp hv
   obtain ⟨i',hi',rfl⟩:=Option.map_eq_some_iff.mp hx
   obtain ⟨il,e'⟩:=List.getElem?_eq_some_iff.mp hi'
   rw [List.getElem_range] at e'
   subst e'
   rw [List.length_range] at il
   obtain ⟨x,y,z,hx',hy',hz',hT⟩:=hts i tt ht
   obtain ⟨o,ho,ho',_⟩:=hg i il
   rw [ho] at hz'
   cases hz'
   rw [List.getElem?_map,List.getElem?_range il] at hx'
   cases hx'
   have ey:y=af (if i+1<mn then sp (i+1) else sp 0):=by
    by_cases c1:i+1<mn
    ·rw [List.getElem?_append_left (by rw [List.length_drop,ml];trivial),List.getElem?_drop,List.getElem?_map,show 1+i=i+1 by trivial,List.getElem?_range c1] at hy'
     rw [if_pos c1]
     exact (Option.some.inj hy').symm
    ·rw [List.getElem?_append_right (by rw [List.length_drop,ml];trivial),List.length_drop,ml,show i - (mn - 1)=0 by trivial,List.getElem?_take,if_pos (by decide),List.getElem?_map,List.getElem?_range (by trivial)] at hy'
     rw [if_neg c1]
     exact (Option.some.inj hy').symm
   rw [ey] at hT
   exact .tup hT (.cons (.str _) (.cons (.str _) (.cons (mQ ho') .nil)))
  ·intro x hx
   obtain ⟨i,hi,rfl⟩:=List.mem_map.mp hx
   have il:=List.mem_range.mp hi
   obtain ⟨o,_,_,gg,gg1⟩:=hg i il
   refine ⟨spm i,?_,?_,gg,gg1⟩
   ·show (if i+1<mn then sp (i+1) else sp 0)∈ls
    split
    ·exact spm _
    ·exact spm _
   ·show sp i≠(if i+1<mn then sp (i+1) else sp 0)
    split
    ·exact spn i (i+1) (by trivial) (by trivial)
    ·exact fun z=>spn 0 i (by trivial) (by trivial) z.symm
end
end K13
namespace K13
open PySem L2
set_option maxHeartbeats 4000000
theorem ul {ls:List (List Nat)} (h:ls.Nodup):(ls.map fun l=>(Sum.inr (S l):aJ)).Nodup:=by
 rw [List.nodup_iff_pairwise_ne,List.pairwise_map]
 refine List.Pairwise.imp (fun {a b} hab z=>?_) (List.nodup_iff_pairwise_ne.mp h)
 injection z with z
 exact hab (j7 z)
abbrev WC (z:KM.Fra):Prop:=1≤z.1∧z.1≤3∧1≤z.2∧z.2≤3
theorem Hj {p q z:KM.Fra} (hp:WC p) (hq:WC q) (hz:1≤z.1∧z.1≤5∧1≤z.2∧z.2≤6):Gb 6 6 (KM.lTim (iR p q) z)∧1≤(KM.lTim (iR p q) z).1:=by
 obtain ⟨a1,a2,a3,a4⟩:=hp
 obtain ⟨b1,b2,b3,b4⟩:=hq
 obtain ⟨c1,c2,c3,c4⟩:=hz
 have m1:p.1*q.2≤3*3:=Int.mul_le_mul a2 b4 (by trivial) (by decide)
 have m2:p.2*q.1≤3*3:=Int.mul_le_mul a4 b2 (by trivial) (by decide)
 have p1:0<p.1*q.2:=Int.mul_pos (by trivial) (by trivial)
 have p2:0<p.2*q.1:=Int.mul_pos (by trivial) (by trivial)
 have sp:=KM.low_spec (p.1*q.2) (p.2*q.1) (by trivial)
 have o1:1≤(iR p q).1:=Dq a1 a3 b1 b3
 obtain ⟨s1,_,_,s2,s3⟩:=sp
 have o2:(iR p q).1≤9:=by
  have:(iR p q).1.natAbs≤(p.1*q.2).natAbs:=s2
  trivial
 have o3:1≤(iR p q).2:=s1
 have o4:(iR p q).2≤9:=by
  have:(iR p q).2.natAbs≤(p.2*q.1).natAbs:=s3
  trivial
 have n1:(iR p q).1*z.1≤9*5:=Int.mul_le_mul o2 c2 (by trivial) (by decide)
 have n2:(iR p q).2*z.2≤9*6:=Int.mul_le_mul o4 c4 (by trivial) (by decide)
 have n3:0<(iR p q).1*z.1:=Int.mul_pos (by trivial) (by trivial)
 have n4:0<(iR p q).2*z.2:=Int.mul_pos (by trivial) (by trivial)
 exact zN (by trivial) (by trivial) (by trivial) (by trivial)
theorem wH {z:KM.Fra} (h:WC z):Gb 2 2 z:=⟨show z.1.natAbs<4 by have:=h.1;have:=h.2.1;trivial,show z.2.natAbs<4 by have:=h.2.2.1;have:=h.2.2.2;trivial,h.2.2.1⟩
section
variable {P:Program}{w:World}{K:PySem.W.Frag}{mg:Str→Option Value}{base:Heap}
inductive Eg (vs:List V) (H:Hp) (Q:VK):Prop
 | mk (b:Addr) (mp mt t:Int) (h0:vs=[.ref b,.int mp,.int mt]) (h1:Bx H b t) (h2:0≤t) (h3:t≤800000) (h4:2≤mp) (h5:mp≤10) (h6:1≤mt) (h7:mt≤24) (h8:∀(v:V) (ls:List (List Nat)) (ts:List aa) (t':Int) (H':Hp),aO (Eb b) H H'→aU ED H' v (dD ls ts)→2≤ls.length→ls.length≤10→ls.Nodup→(∀l∈ls,ir l)→1≤ts.length→ts.length≤24→(∀t∈ts,fK ls t)→Bx H' b t'→t≤t'→t'≤t+700→Q v H')
def FU:Sp:=fun vs H Q _=>Eg  vs H Q
theorem zX (T:Txt K mg):aZ P w K mg base CX0 3 T.l_net_by_.f T.l_net_by_.d ["_law_box_here", "_law_most_places", "_law_most_ties"] FU:=by
 have G_l_take:=jO (P:=P) (w:=w) (base:=base) T
 have G_l_names_by:=x8 (P:=P) (w:=w) (base:=base) T
 have G_l_planted:=zM (P:=P) (w:=w) (base:=base) T
 have G_l_any_gain:=yc (P:=P) (w:=w) (base:=base) T
 have G_l_any_much:=wp (P:=P) (w:=w) (base:=base) T
 have G_l_any_price:=xV (P:=P) (w:=w) (base:=base) T
 have G_l_product:=my (P:=P) (w:=w) (base:=base) T
 have G_l_over:=AO (P:=P) (w:=w) (base:=base) T
 refine T.l_net_by_.F.ok bc (fun vs H Q E h=>?_) (fun cdv A outer s H vs Q E hr h=>?_)
 ·obtain ⟨b,mp,mt,t,rfl,_⟩:=h
  rfl
 ·obtain ⟨b,mp,mt,t,rfl,B,ht0,ht1,mp1,mp2,mt1,mt2,k⟩:=h
  refine ⟨_,‹(@kD _ _ (3) (4) _ _ _ _ _ _ _ _ _ _ _ rfl bc.nd rfl rfl (by decide) iV hZ ‹[‹(G_l_take,bj,T.l_take_,‹[(@pw _ 0 _ _ (Or.inr (Or.inl aA)) (by rfl) (by decide) (by decide)),‹0›]›)›,(@cI _ _ _ _ _ _ _ _ (@cP _) ‹(G_l_take,bj,T.l_take_,‹[(@pw _ 0 _ _ (Or.inr (Or.inl aA)) (by rfl) (by decide) (by decide)),‹0›]›)› ‹0› (@au _ _ (by decide) (by decide)))]› (by kernel_rfl) (by rfl)) :: ‹‹(5,bc.nd,bt,‹(G_l_names_by,oM,T.l_names_by_,‹[(@pw _ 0 _ _ (Or.inr (Or.inl aA)) (by rfl) (by decide) (by decide)),(@fu _ _ _ _ _ _ _ _ (@b9 _ _ _ ‹(4,hZ)› (by intro _;rfl)) (@ak _ _ _ _ _ _ _ _ (@bH _) ‹0› ‹(G_l_take,bj,T.l_take_,‹[(@pw _ 0 _ _ (Or.inr (Or.inl aA)) (by rfl) (by decide) (by decide)),‹0›]›)›) (@ak _ _ _ _ _ _ _ _ (@bH _) ‹0› ‹(G_l_take,bj,T.l_take_,‹[(@pw _ 0 _ _ (Or.inr (Or.inl aA)) (by rfl) (by decide) (by decide)),(@ak _ _ _ _ _ _ _ _ (@jw _) ‹(1,md)› ‹0›)]›)›))]›)›)› :: ‹‹(6,bc.nd,k4,(@fu _ _ _ _ _ _ _ _ (@b9 _ _ _ ‹(4,hZ)› (by intro _;rfl)) (@ak _ _ _ _ _ _ _ _ (@bH _) ‹0› ‹(G_l_take,bj,T.l_take_,‹[(@pw _ 0 _ _ (Or.inr (Or.inl aA)) (by rfl) (by decide) (by decide)),‹0›]›)›) (@ak _ _ _ _ _ _ _ _ (@bH _) ‹0› ‹(G_l_take,bj,T.l_take_,‹[(@pw _ 0 _ _ (Or.inr (Or.inl aA)) (by rfl) (by decide) (by decide)),‹(2,nO)›]›)›)))› :: ‹(@mf _ _ (7) _ _ _ _ bc.nd rfl (Or.inr sr) (@bJ _ _ _ _ ‹[(@aG _ _ _ _ _ ‹[‹0›,‹0›]›),(@aG _ _ _ _ _ ‹[‹0›,‹0›]›),(@aG _ _ _ _ _ ‹[‹0›,‹0›]›),(@aG _ _ _ _ _ ‹[‹0›,‹0›]›),(@aG _ _ _ _ _ ‹[‹0›,‹0›]›),(@aG _ _ _ _ _ ‹[‹0›,‹0›]›),(@aG _ _ _ _ _ ‹[‹0›,‹0›]›)]›) (by rfl) (by first | exact .inl rfl | exact .inr rfl | assumption)) :: ‹‹(8,bc.nd,gC,(@dX _ _ _ _ _ _ _ _ _ (@ze _ rfl) um T.b_dict (@xG) ‹[(@cV _ _ _ _ _ _ _ (["_law_place", "_law_box_here", "_law_some"]) (1) ([0,7]) _ _ _ _ rfl (by kernel_rfl) (@tD _ (K) _ _ _ ‹(5,bt)› (by rfl)) (fun _ _ _ _ _ _=>(@bo _ _ (0) _ (@cE _ (by kernel_rfl)) rfl (Or.inl (by kernel_rfl)) (by first | exact .inl rfl | exact .inr rfl | assumption))) (fun _ _ _ _ _ _=>@cu _) (fun _ _ _ _ _ _=>(@aG _ _ _ _ _ ‹[‹(0,())›,‹‹(2,0)›[(@iq _ _ _ _ _ _ _ _ _ _ _ _ _ _ _ _ G_l_take (hr.mono (by decide)) (by show _=_;kernel_rfl) T.l_take_.m T.l_take_.F.kp T.l_take_.B .nil (@rA _) ‹[‹(1,0)›,‹0›]› (by decide) (by rfl) (by rfl))]!›]›)) (by intro _;rfl))]› (by decide) (by decide) (by rfl) (by rfl)))› :: ‹‹(9,bc.nd,fz,(@fu _ _ _ _ _ _ _ _ (@aq _ _ _ _ _ _ _ _ (@cP _) ‹(3,iV)› ‹0› (@au _ _ (by decide) (by decide))) ‹(G_l_planted,oZ,T.l_planted_,‹[(@pw _ 0 _ _ (Or.inr (Or.inl aA)) (by rfl) (by decide) (by decide)),‹(5,bt)›]›)› (@bJ _ _ _ _ (@b7 _))))› :: ‹(@fM _ _ _ _ _ _ _ _ PassesOwn.never rfl (@eX _ _ _ _ _ _ tM T.b_range ‹[‹(6,k4)›]› (by rfl)) ‹(10,bc.nd,si)› ‹‹(11,bc.nd,jz,‹(G_l_take,bj,T.l_take_,‹[(@pw _ 0 _ _ (Or.inr (Or.inl aA)) (by rfl) (by decide) (by decide)),(@ao _ _ _ _ _ _ _ _ _ (@dP _ (K) (by rfl)) fN T.b_len (@aX) ‹[‹(5,bt)›]› (by decide) (by decide) (by rfl) (by rfl))]›)›)› :: ‹(@kD _ _ (12) (13) _ _ _ _ _ _ _ _ _ _ _ rfl bc.nd rfl rfl (by decide) dk d8 ‹[‹‹(5,bt)›[‹(11,jz)›]›,‹‹(5,bt)›[(@ak _ _ _ _ _ _ _ _ (@ig _) (@ak _ _ _ _ _ _ _ _ (@bH _) (@ak _ _ _ _ _ _ _ _ (@bH _) ‹(11,jz)› ‹0›) ‹(G_l_take,bj,T.l_take_,‹[(@pw _ 0 _ _ (Or.inr (Or.inl aA)) (by rfl) (by decide) (by decide)),(@ak _ _ _ _ _ _ _ _ (@jw _) (@ao _ _ _ _ _ _ _ _ _ (@dP _ (K) (by rfl)) fN T.b_len (@aX) ‹[‹(5,bt)›]› (by decide) (by decide) (by rfl) (by rfl)) ‹0›)]›)›) (@ao _ _ _ _ _ _ _ _ _ (@dP _ (K) (by rfl)) fN T.b_len (@aX) ‹[‹(5,bt)›]› (by decide) (by decide) (by rfl) (by rfl)))]›]› (by kernel_rfl) (by rfl)) :: ‹‹(14,bc.nd,dJ,‹(G_l_any_gain,oG,T.l_any_gain_,‹[(@pw _ 0 _ _ (Or.inr (Or.inl aA)) (by rfl) (by decide) (by decide))]›)›)› :: ‹(@be _ _ _ _ _ _ _ _ (@aq _ _ _ _ _ _ _ _ (@lh _) ‹(3,iV)› ‹0› (@au _ _ (by decide) (by decide))) ‹‹(15,bc.nd,kS,‹(@bJ _ _ _ _ ‹[(@aG _ _ _ _ _ ‹[‹0›,‹0›]›),(@aG _ _ _ _ _ ‹[‹0›,‹0›]›),(@aG _ _ _ _ _ ‹[‹0›,‹0›]›),(@aG _ _ _ _ _ ‹[‹0›,‹0›]›)]›)[‹(G_l_take,bj,T.l_take_,‹[(@pw _ 0 _ _ (Or.inr (Or.inl aA)) (by rfl) (by decide) (by decide)),‹0›]›)›]!›)› :: (@ad _ _ _ ‹(14,bc.nd,dJ,‹(G_l_product,pd,T.l_product_,‹[‹(G_l_over,sq,T.l_over_,‹[(@cf _ _ _ _ _ _ _ (@eM _) ‹(8,gC)› ‹(12,dk)› (fun _ _=>rfl)),(@cf _ _ _ _ _ _ _ (@eM _) ‹(8,gC)› ‹(13,d8)› (fun _ _=>rfl))]›)›,‹(15,kS)›]›)›)›)› (@aN _)) :: (@ad _ _ _ (@fJ _ _ _ _ (@fE _ (K) _ _ _ _ _ _ _ _ _ _ _ PySem.F.plainAttrs_list PySem.F.slot_list_insert PySem.F.type_list_insert (@y7 _) ‹(9,fz)› ‹[‹(G_l_take,bj,T.l_take_,‹[(@pw _ 0 _ _ (Or.inr (Or.inl aA)) (by rfl) (by decide) (by decide)),(@ak _ _ _ _ _ _ _ _ (@bH _) (@ao _ _ _ _ _ _ _ _ _ (@dP _ (K) (by rfl)) fN T.b_len (@aX) ‹[‹(9,fz)›]› (by decide) (by decide) (by rfl) (by rfl)) ‹0›)]›)›,(@aG _ _ _ _ _ ‹[‹(12,dk)›,‹(13,d8)›,‹(14,dJ)›]›)]› (by rfl) (by rfl) (by rfl) (by rfl) (by rfl) (by rfl)) (by rfl)))›››› (by intro _;rfl)) :: ‹‹(16,bc.nd,cJ,(@bJ _ _ _ _ (@b7 _)))› :: ‹(@fM _ _ _ _ _ _ _ _ PassesOwn.never rfl (@cx _ (K) _ _ _ (@fZ _ _ _ _ _ _ _ _ _ _ (@iQ _ (K) (by rfl)) ‹(9,fz)› (@i4 _) (@gl _ _ _ ‹0›)) (by rfl)) (@fk _ (K) _ _ _ _ (3) rfl (@aS _ _ _ _ _ ‹(12,bc.nd,dk)› (@aS _ _ _ _ _ ‹(13,bc.nd,d8)› (@aS _ _ _ _ _ ‹(14,bc.nd,dJ)› (@eS _) (by rfl)) (by rfl)) (by rfl)) (by rfl) (by rfl) (by rfl)) ‹‹(17,bc.nd,lZ,‹(G_l_any_much,oJ,T.l_any_much_,‹[(@pw _ 0 _ _ (Or.inr (Or.inl aA)) (by rfl) (by decide) (by decide))]›)›)› :: (@ad _ _ _ (@fJ _ _ _ _ (@fE _ (K) _ _ _ _ _ _ _ _ _ _ _ PySem.F.plainAttrs_list PySem.F.slot_list_append PySem.F.type_list_append (@io _) ‹(16,cJ)› ‹[(@aG _ _ _ _ _ ‹[‹(12,dk)›,‹(13,d8)›,‹(17,lZ)›,‹(14,dJ)›,‹(G_l_any_price,nq,T.l_any_price_,‹[(@pw _ 0 _ _ (Or.inr (Or.inl aA)) (by rfl) (by decide) (by decide))]›)›]›)]› (by rfl) (by rfl) (by rfl) (by rfl) (by rfl) (by rfl)) (by rfl)))› (by intro _;rfl)) :: ‹(@be _ _ _ _ _ _ _ _ (@PW.pt _ _ _ (@uw _ _ _ _ _ _ _ (@aq _ _ _ _ _ _ _ _ (@lh _) (@ao _ _ _ _ _ _ _ _ _ (@dP _ (K) (by rfl)) fN T.b_len (@aX) ‹[‹(16,cJ)›]› (by decide) (by decide) (by rfl) (by rfl)) ‹0› (@au _ _ (by decide) (by decide))) (@rF _ _ _ _ (@aq _ _ _ _ _ _ _ _ (@cP _) ‹(G_l_take,bj,T.l_take_,‹[(@pw _ 0 _ _ (Or.inr (Or.inl aA)) (by rfl) (by decide) (by decide)),‹0›]›)› ‹0› (@au _ _ (by decide) (by decide)))))) (@ad _ _ _ (@fJ _ _ _ _ (@fE _ (K) _ _ _ _ _ _ _ _ _ _ _ PySem.F.plainAttrs_list PySem.F.slot_list_append PySem.F.type_list_append (@io _) ‹(16,cJ)› ‹[‹‹(16,cJ)›[‹0›]!›]› (by rfl) (by rfl) (by rfl) (by rfl) (by rfl) (by rfl)) (by rfl))) (@aN _)) :: (@ad _ _ _ (@aw _ _ _ _ (@aG _ _ _ _ _ ‹[‹(5,bt)›,(@dX _ _ _ _ _ _ _ _ _ (@jU _ (K) (by rfl)) sX T.b_tuple (@eQ) ‹[‹(16,cJ)›]› (by decide) (by decide) (by rfl) (by rfl))]›)))››››››››››,?_⟩
  refine Cs fun Q1 nP=>⟨_,rfl,b,4,t,rfl,B,by decide,by decide,by trivial,by trivial,fun wy t1 H1 w0 w1 h1a h1b s1 B1=>⟨_,rfl,b,8,t1,rfl,B1,by decide,by decide,by trivial,by trivial,fun gr t2 H2 gr0 gr1 h2a h2b s2 B2=>⟨rfl,nP _ _ _ ?_⟩⟩⟩
  generalize decide (V.int gr=V.int 0)=great
  refine bD fun Q2 nA2=>⟨_,rfl,_,rfl,_,rfl,?_⟩
  refine EU (fun v H'=>aW fun many t'=>v=.int many∧2≤many∧many≤10∧Bx H' b t'∧t2≤t'∧t'≤t2+1∧aO (Eb b) H2 H') ?_ (fun _ nx=>?_) (fun _ nx=>?_)
  rotate_left
  ·exact ⟨_,rfl,b,4,t2,rfl,B2,by decide,by decide,by trivial,by trivial,fun r t3 H3 r0 r1 h3a h3b s3 B3=>⟨_,_,rfl,rfl,nx _ _ ⟨7+r,t3,rfl,by trivial,by trivial,B3,by trivial,by trivial,s3⟩⟩⟩
  ·exact ⟨_,rfl,_,rfl,_,_,rfl,rfl,b,_,t2,rfl,B2,by trivial,mB (by trivial) (by trivial),by trivial,by trivial,fun r t3 H3 r0 r1 h3a h3b s3 B3=>⟨_,_,rfl,rfl,nx _ _ ⟨2+r,t3,rfl,by trivial,by trivial,B3,by trivial,by trivial,s3⟩⟩⟩
  rintro v H3 ⟨many,t3,rfl,hm1,hm2,B3,h3a,h3b,s3⟩
  refine ⟨b,many,t3,rfl,B3,by trivial,by trivial,by trivial,by trivial,fun pl ls t4 H4 s4 hpl lls nd nc B4 h4a h4b=>nA2 _ _ ?_⟩
  have s04:aO (Eb b) H H4:=((s1.trans s2).trans s3).trans s4
  have l2:2≤ls.length:=by trivial
  have l10:ls.length≤10:=by trivial
  clear hm1 hm2 lls
  refine bD fun Q3 nA3=>⟨_,rfl,_,rfl,?_⟩
  refine EU (fun v H'=>aW fun many t'=>v=.int many∧1≤many∧many≤24∧Bx H' b t'∧t4≤t'∧t'≤t4+1∧aO (Eb b) H4 H') ?_ (fun _ nx=>?_) (fun _ nx=>?_)
  rotate_left
  ·exact ⟨_,rfl,b,15,t4,rfl,B4,by decide,by decide,by trivial,by trivial,fun r t3 H3 r0 r1 h3a h3b s3 B3=>⟨_,_,rfl,rfl,nx _ _ ⟨10+r,t3,rfl,by trivial,by trivial,B3,by trivial,by trivial,s3⟩⟩⟩
  ·exact ⟨_,rfl,_,rfl,b,mt,t4,rfl,B4,by trivial,mB (by trivial) (by trivial),by trivial,by trivial,fun r t3 H3 r0 r1 h3a h3b s3 B3=>⟨_,_,rfl,rfl,nx _ _ ⟨1+r,t3,rfl,by trivial,by trivial,B3,by trivial,by trivial,s3⟩⟩⟩
  rintro v H5 ⟨mn,t5,rfl,mn1,mn2,B5,h5a,h5b,s5⟩
  refine nA3 _ _ ?_
  have hpl5:=s5.tup _ _ hpl
  have s05:=s04.trans s5
  refine bD fun Q4 nA4=>⟨(by show 2≤10000;decide),fun u1 K1 m1=>⟨(by show 2≤10000;decide),fun u2 K2 m2=>⟨(by show 2≤10000;decide),fun u3 K3 m3=>⟨(by show 2≤10000;decide),fun u4 K4 m4=>⟨(by show 2≤10000;decide),fun u5 K5 m5=>⟨(by show 2≤10000;decide),fun u6 K6 m6=>⟨(by show 2≤10000;decide),fun u7 K7 m7=>⟨(by show 7≤10000;decide),fun sl K8 m8=>nA4 _ _ ?_⟩⟩⟩⟩⟩⟩⟩⟩
  have sK7:ah H5 K7:=(((((m1.sm.trans m2.sm).trans m3.sm).trans m4.sm).trans m5.sm).trans m6.sm).trans m7.sm
  have sK:=sK7.trans m8.sm
  have nsl:¬sl=b:=fun z=>(B5.same sK7).ne m8.fr z.symm
  have hplK:=sK _ _ hpl5
  have BK:=B5.same sK
  have some_at:∀(r:Int) (J:Hp),0≤r→r<7→aO (Eb b) K8 J→aW fun o z=>gO [V.ref u1,V.ref u2,V.ref u3,V.ref u4,V.ref u5,V.ref u6,V.ref u7] r=some (.ref o)∧J o=some (fr z)∧WC z:=fun r J r0 r1 sJ=>by
   have up:∀{u:Addr}{us:List V},K8 u=some (.tup us)→J u=some (.tup us):=fun h=>sJ.tup _ _ h
   obtain rfl | rfl | rfl | rfl | rfl | rfl | rfl:r=0∨r=1∨r=2∨r=3∨r=4∨r=5∨r=6:=by trivial
   ·exact ⟨u1,(1,1),rfl,up (m8.sm _ _ (m7.sm _ _ (m6.sm _ _ (m5.sm _ _ (m4.sm _ _ (m3.sm _ _ (m2.sm _ _ m1.at'))))))),by decide⟩
   ·exact ⟨u2,(2,1),rfl,up (m8.sm _ _ (m7.sm _ _ (m6.sm _ _ (m5.sm _ _ (m4.sm _ _ (m3.sm _ _ m2.at')))))),by decide⟩
   ·exact ⟨u3,(3,1),rfl,up (m8.sm _ _ (m7.sm _ _ (m6.sm _ _ (m5.sm _ _ (m4.sm _ _ m3.at'))))),by decide⟩
   ·exact ⟨u4,(1,2),rfl,up (m8.sm _ _ (m7.sm _ _ (m6.sm _ _ (m5.sm _ _ m4.at')))),by decide⟩
   ·exact ⟨u5,(1,3),rfl,up (m8.sm _ _ (m7.sm _ _ (m6.sm _ _ m5.at'))),by decide⟩
   ·exact ⟨u6,(3,2),rfl,up (m8.sm _ _ (m7.sm _ _ m6.at')),by decide⟩
   ·exact ⟨u7,(2,3),rfl,up (m8.sm _ _ m7.at'),by decide⟩
  refine bD fun Q5 nA5=>⟨_,rfl,pl,rfl,⟨_,ag.of hplK⟩,fun D hD=>gQ (n:=(ls.map af).length) (fun i H' xs=>eH fun (as ws:List Addr) (t':Int)=>xs=as.map V.ref∧H' D=some (.lst xs)∧as.length=i∧ws.length=i∧(∀(j:Nat) a,as[j]?=some a→eH fun l w z=>ls[j]?=some l∧ws[j]?=some w∧H' a=some (.tup [af l,.ref w])∧H' w=some (fr z)∧WC z)∧Bx H' b t'∧t5≤t'∧t'≤t5+i∧aO (Eb b) K8 H') (jx (by rw [List.length_map];trivial)) ⟨[],[],t5,rfl,ar,rfl,rfl,(fun j a h=>by simp at h),BK.same (ah.new hD),by trivial,by trivial,(ah.new hD).toE⟩ ?_ ?_ ?_ ?_ ?_⟩
  ·rintro i H' xs ⟨as,ws,t',rfl,e1,e2,_⟩
   exact ⟨e1,by rw [List.length_map];trivial⟩
  ·rintro i H' xs hi ⟨as,ws,t',_,_,_,_,_,_,_,_,sE⟩
   exact ⟨_,_,ag.of (sE.tup _ _ hplK),List.getElem?_eq_getElem hi⟩
  ·rintro H' xs ⟨as,ws,t',_,_,_,_,_,_,_,_,sE⟩
   exact ⟨_,ag.of (sE.tup _ _ hplK),Nat.le_refl _⟩
  ·have nDb:¬D=b:=fun z=>BK.ne hD z.symm
   rintro i Ha xs x Hb hi ⟨as,ws,t',rfl,eD,la,lw,hw,BD,h1,h2,sE⟩ ⟨rfl,ex⟩
   have exi:=ex _ (ag.of (sE.tup _ _ hplK))
   rw [List.length_map] at hi
   rw [List.getElem?_map,List.getElem?_eq_getElem hi] at exi
   obtain rfl:af ls[i]=x:=Option.some.inj exi
   refine ⟨gK,_,rfl,_,rfl,_,rfl,b,7,t',rfl,BD,by decide,by decide,by trivial,by trivial,fun r6 t6 J6 r60 r61 h6a h6b s6 B6=>?_⟩
   obtain ⟨o,z,eo,ho,wz⟩:=some_at r6 J6 r60 (by trivial) (sE.trans s6)
   refine ⟨sl,_,_,_,rfl,rfl,am.of (s6.old sl _ nsl (sE.old sl _ nsl m8.at')),eo,(by show 2≤10000;decide),fun q J7 n7=>?_⟩
   have js:aO (Eb b) Hb J7:=s6.trans n7.sm.toE
   have eD7:=js.old D _ nDb eD
   have c':Ch J7 D (as.map V.ref++[.ref q]) (aD J7 D (.lst (as.map V.ref++[.ref q]))):=Ch.mk'
   refine ⟨eD7,as++[q],ws++[o],t6,by rw [List.map_append];rfl,ar,by rw [List.length_append,la];rfl,by rw [List.length_append,lw];rfl,fun j a' ha'=>?_,(B6.same n7.sm).ch c' (fun z=>nDb z.symm),by trivial,by trivial,(sE.trans js).up hD⟩
   by_cases hj:j<i
   ·rw [List.getElem?_append_left (by trivial)] at ha'
    obtain ⟨l,w,z,e1,e2,e3,e4,e5⟩:=hw j a' ha'
    exact ⟨l,w,z,e1,by rw [List.getElem?_append_left (by trivial)];exact e2,c'.tup (js.tup _ _ e3) eD7,c'.tup (js.tup _ _ e4) eD7,e5⟩
   ·have hj':j=i:=by
     have:=(List.getElem?_eq_some_iff.mp ha').1
     rw [List.length_append] at this
     simp at this
     trivial
    subst hj'
    rw [List.getElem?_append_right (by trivial),la,Nat.sub_self] at ha'
    obtain rfl:q=a':=Option.some.inj ha'
    exact ⟨ls[j],o,z,List.getElem?_eq_getElem hi,by rw [List.getElem?_append_right (by trivial),lw,Nat.sub_self];rfl,c'.tup n7.at' eD7,c'.tup (n7.sm _ _ ho) eD7,wz⟩
  rintro J xs ⟨as,ws,t6,rfl,eD,la,lw,hw,B6,h6a,h6b,s6⟩
  rw [List.length_map] at la lw h6b
  have wv:∀(j:Nat) (hj:j<ls.length),eH fun a w z=>as[j]?=some a∧ws[j]?=some w∧J a=some (.tup [af ls[j],.ref w])∧J w=some (fr z)∧WC z:=fun j hj=>by
   obtain ⟨a,ha⟩:∃a,as[j]?=some a:=⟨_,List.getElem?_eq_getElem (by trivial)⟩
   obtain ⟨l,w,z,e1,e2,e3,e4,e5⟩:=hw j a ha
   rw [List.getElem?_eq_getElem hj] at e1
   cases e1
   exact ⟨a,w,z,ha,e2,e3,e4,e5⟩
  refine ⟨D,as,ls.map fun l=>(Sum.inr (S l):aJ),ws.map V.ref,rfl,eD,by rw [List.length_map];exact la,by rw [List.length_map,List.length_map];exact lw,ul nd,by rw [List.length_map];trivial,fun i a ha=>?_,fun W J1 nW=>nA5 _ _ ?_⟩
  ·obtain ⟨l,w,z,e1,e2,e3,_,_⟩:=hw i a ha
   exact ⟨Sum.inr (S l),.ref w,by rw [List.getElem?_map,e1];rfl,by rw [List.getElem?_map,e2];rfl,e3⟩
  have s81:aO (Eb b) K8 J1:=s6.trans nW.sm.toE
  have s01:aO (Eb b) H J1:=(s05.trans sK.toE).trans s81
  have BJ:=B6.same nW.sm
  have nWb:¬W=b:=fun z=>B6.ne nW.fr z.symm
  have hplJ:J1 pl=some (.tup (ls.map af)):=s81.tup _ _ hplK
  obtain ⟨kvs,ekv⟩:∃kvs,kvs=((ls.map fun l=>(Sum.inr (S l):aJ)).zip (ws.map V.ref)):=⟨_,rfl⟩
  have hW:J1 W=some (.dK kvs):=by rw [ekv];exact nW.at'
  have wl:∀l∈ls,aW fun w z=>valD kvs (Sum.inr (S l))=some (.ref w)∧J1 w=some (fr z)∧WC z:=fun l hl=>by
   obtain ⟨j,hj⟩:=List.getElem?_of_mem hl
   have hlt:=(List.getElem?_eq_some_iff.mp hj).1
   obtain ⟨a,w,z,e1,e2,e3,e4,e5⟩:=wv j hlt
   refine ⟨w,z,?_,nW.sm _ _ e4,e5⟩
   rw [ekv]
   exact wR (i:=j) (ul nd) (by rw [List.getElem?_map,hj];rfl) (by rw [List.getElem?_map,e2];rfl)
  have t6a:t≤t6∧t6≤t+40:=by trivial
  clear hw wv la lw h6a h6b h5a h5b h4a h4b h1a h1b h2a h2b h3a h3b some_at sK7 sK m1 m2 m3 m4 m5 m6 m7 m8 ekv hplK hpl5 hpl BK B4 B3 B2 B1 B5 s04 s05 nW eD s6 s81 B6
  refine bD fun Q6 nA6=>⟨_,rfl,rfl,_,rfl,?_⟩
  refine EU (fun v H'=>kQ fun (L:Addr) (ys:List V) (es:List zT) (t':Int)=>v=.ref L∧H' L=some (.lst ys)∧aI ED H' ys (es.map AI)∧es.length≤10∧(∀x∈es,FR ls x)∧Bx H' b t'∧t6≤t'∧t'≤t6+5∧aO (Eb b) J1 H'∧J1 L=none) ?_ (fun _ nx=>?_) (fun _ nx=>?_)
  rotate_left
  ·exact ⟨_,rfl,_,rfl,b,pl,ls,t6,rfl,BJ,by trivial,by trivial,hplJ,l2,l10,nd,fun L ys es t7 J2 sE fL hL iL lL cL BL h7a h7b=>nx _ _ ⟨L,ys,es,t7,rfl,hL,iL,lL,cL,BL,h7a,h7b,sE,fL⟩⟩
  ·exact ⟨(by show 0≤10000;decide),fun L J2 n2=>nx _ _ ⟨L,[],[],t6,rfl,n2.at',.nil,by decide,(fun x hx=>by cases hx),BJ.same n2.sm,by trivial,by trivial,n2.sm.toE,n2.fr⟩⟩
  rintro v J2 ⟨L,ys,es,t7,rfl,hL,iL,lL,cL,B7,h7a,h7b,s7,fL⟩
  refine nA6 _ _ ?_
  have nLb:¬L=b:=fun z=>BJ.ne fL z.symm
  have el:((ls.map af).length:Int)=(ls.length:Int):=by rw [List.length_map]
  refine bz fun DB nB=>?_
  refine ⟨_,rfl,mn,rfl,by trivial,by trivial,?_⟩
  refine ka (fun i σ H'=>Gz fun (v10 v11 v12 v13 v14 v15:Option V) (ys:List V) (es:List zT) (t':Int)=>σ=[some (.ref b),some (.int mp),some (.int mt),some (.int wy),some (.bl great),some (.ref pl),some (.int mn),some (.ref sl),some (.ref W),some (.ref L),v10,v11,v12,v13,v14,v15,none,none]∧H' L=some (.lst ys)∧aI ED H' ys (es.map AI)∧es.length≤10+i∧i≤es.length∧(∀x∈es,FR ls x)∧Bx H' b t'∧t7≤t'∧t'≤t7+12*i∧aO (Eb b) J1 H') ⟨_,_,_,_,_,_,ys,es,t7,rfl,hL,iL,by trivial,by trivial,cL,B7,by trivial,by trivial,s7⟩ ?_ ?_
  ·clear hL iL lL cL B7 s7
   rintro i σ G hi ⟨v10,v11,v12,v13,v14,v15,ys,es,t8,rfl,hL,iL,lL,lL',cL,BG,h8a,h8b,sG⟩
   have lys:ys.length=es.length:=by rw [iL.length,List.length_map]
   have hplG:=sG.tup _ _ hplJ
   refine ph (t:=kG _ _) fun DH nH=>?_
   refine bD fun DI nI=>?_
   refine ⟨_,rfl,_,rfl,pl,_,rfl,.inr (ag.of hplG),b,_,t8,rfl,BG,by trivial,mB (by trivial) (by trivial),by trivial,by trivial,fun f t9 G1 f0 f1 _ _ g1 BG1=>nI _ _ ?_⟩
   have hplG1:=g1.tup _ _ hplG
   refine Cs fun DJ nJ=>?_
   refine ⟨_,rfl,_,rfl,pl,_,_,_,rfl,rfl,ag.of hplG1,oU f0 (by trivial),_,rfl,_,rfl,_,_,rfl,rfl,_,rfl,_,rfl,pl,_,rfl,.inr (ag.of hplG1),_,_,rfl,rfl,b,_,t9,rfl,BG1,by trivial,mB (by trivial) (by trivial),by trivial,by trivial,fun r t10 G2 r0 r1 _ _ g2 BG2=>?_⟩
   have hplG2:=g2.tup _ _ hplG1
   obtain ⟨q0,q1,q2⟩:=yq (n:=(ls.length:Int)) (f:=f) (r:=r) f0 (by trivial) r0 (by trivial)
   obtain ⟨la,ela⟩:∃la,la=(f+1+r) % (ls.length:Int):=⟨_,rfl⟩
   rw [←ela] at q0 q1 q2
   have hat:gO (ls.map af) ((f+1+r) % ((ls.map af).length:Int))=some (af ls[la.toNat]):=by rw [el,←ela];exact oU q0 (by trivial)
   refine ⟨_,_,rfl,rfl,_,rfl,pl,_,rfl,.inr (ag.of hplG2),_,_,rfl,rfl,(by show (0:Int)<((ls.map af).length:Int);trivial),pl,_,_,_,rfl,rfl,ag.of hplG2,hat,nJ _ _ _ ?_⟩
   obtain ⟨bg,ebg⟩:∃bg,bg=ls[f.toNat]:=⟨_,rfl⟩
   obtain ⟨en,een⟩:∃en,en=ls[la.toNat]:=⟨_,rfl⟩
   have mbg:bg∈ls:=by rw [ebg];exact List.getElem_mem _
   have men:en∈ls:=by rw [een];exact List.getElem_mem _
   have bne:bg≠en:=fun z=>by
    rw [ebg,een] at z
    have:=i0 nd (by trivial) (by trivial) z
    trivial
   rw [←ebg,←een]
   refine bD fun DK nK=>?_
   refine ⟨_,rfl,b,t10,rfl,BG2,by trivial,by trivial,fun og n d t11 G3 g3 eg fg lg BG3 h11a h11b=>nK _ _ ?_⟩
   have g03:=(g1.trans g2).trans g3
   have t11a:t8≤t11∧t11≤t8+8:=by trivial
   refine zg (fun σ H'=>kQ fun (og:Addr) (g:KM.Fra) (v15:Option V) (t':Int)=>σ=[some (.ref b),some (.int mp),some (.int mt),some (.int wy),some (.bl great),some (.ref pl),some (.int mn),some (.ref sl),some (.ref W),some (.ref L),some (.int (0+(i:Int))),some (.int f),some (.str (S bg)),some (.str (S en)),some (.ref og),v15,none,none]∧H' og=some (fr g)∧Gb 6 6 g∧1≤g.1∧Bx H' b t'∧t11≤t'∧t'≤t11+1∧aO (Eb b) G3 H') ?_ fun nx=>?_
   ·rintro σ' G4 ⟨og,g,v15,t12,rfl,hog,gg,gg1,BG4,h12a,h12b,g4⟩
    have g04:=g03.trans g4
    have hL4:=g04.old L _ nLb hL
    refine ⟨_,rfl,.inl ⟨rfl,_,am.of hL4⟩,_,rfl,_,rfl,L,_,rfl,.inl (am.of hL4),_,_,rfl,rfl,b,_,t12,rfl,BG4,by trivial,mB (by trivial) (by trivial),by trivial,by trivial,fun r t13 G5 r0 r1 _ _ g5 BG5=>⟨_,rfl,_,rfl,_,rfl,(by show 3≤10000;decide),fun q G6 n6=>?_⟩⟩
    have g06:=(g04.trans g5).trans n6.sm.toE
    have hL6:=g06.old L _ nLb hL
    refine ⟨L,ys,r,.ref q,rfl,rfl,hL6,r0,by trivial,by trivial,fun G7 c7=>nH _ _ ⟨_,_,_,_,_,_,_,es.take r.toNat++(bg,en,g) :: es.drop r.toNat,t13,rfl,c7.at',?_,?_,?_,fun x hx=>?_,(BG5.same n6.sm).ch c7 (fun z=>nLb z.symm),by trivial,by trivial,(sG.trans g06).ch c7 fL⟩⟩
    ·have i6:=iL.tupS g06
     rw [List.map_append,List.map_cons,List.map_take,List.map_drop]
     have nw:aU ED G6 (.ref q) (AI (bg,en,g)):=.tup n6.at' (.cons (.str _) (.cons (.str _) (.cons (mQ (p:=g) (n6.sm _ _ (g5.tup _ _ hog))) .nil)))
     exact ((i6.take _).append (.cons nw (i6.drop _))).mono ⟨fun _ _ n _=>absurd trivial n,fun _ _ e=>c7.tup e hL6⟩
    ·rw [List.length_append,List.length_cons,List.length_take,List.length_drop];trivial
    ·rw [List.length_append,List.length_cons,List.length_take,List.length_drop];trivial
    ·rcases List.mem_append.mp hx with q' | q'
     ·exact cL x (List.mem_of_mem_take q')
     ·rcases List.mem_cons.mp q' with q' | q'
      ·rw [q'];exact ⟨mbg,men,bne,gg,gg1⟩
      ·exact cL x (List.mem_of_mem_drop q')
   ·refine ⟨_,rfl,_,_,rfl,rfl,_,rfl,mm (fun c=>?_) (fun c=>?_)⟩
    ·refine bD fun DM nM=>⟨(by show 2≤10000;decide),fun u1 K1 m1=>⟨(by show 2≤10000;decide),fun u2 K2 m2=>⟨(by show 2≤10000;decide),fun u3 K3 m3=>⟨(by show 2≤10000;decide),fun u4 K4 m4=>⟨(by show 4≤10000;decide),fun l5 K5 m5=>⟨_,rfl,b,4,t11,rfl,BG3.same ((((m1.sm.trans m2.sm).trans m3.sm).trans m4.sm).trans m5.sm),by decide,by decide,by trivial,by trivial,fun r6 t12 K6 r60 r61 h6a h6b s6 B6=>?_⟩⟩⟩⟩⟩⟩
     have sm:=(((m1.sm.trans m2.sm).trans m3.sm).trans m4.sm).trans m5.sm
     have nl5:¬l5=b:=fun z=>(BG3.same (((m1.sm.trans m2.sm).trans m3.sm).trans m4.sm)).ne m5.fr z.symm
     have up:∀{u:Addr}{us:List V},K5 u=some (.tup us)→K6 u=some (.tup us):=fun h=>s6.tup _ _ h
     obtain ⟨so,z,eso,hso,gz'⟩:∃so,∃z:KM.Fra,gO [V.ref u1,V.ref u2,V.ref u3,V.ref u4] r6=some (.ref so)∧K6 so=some (fr z)∧(1≤z.1∧z.1≤5∧1≤z.2∧z.2≤6):=by
      obtain rfl | rfl | rfl | rfl:r6=0∨r6=1∨r6=2∨r6=3:=by trivial
      ·exact ⟨u1,(1,1),rfl,up (m5.sm _ _ (m4.sm _ _ (m3.sm _ _ (m2.sm _ _ m1.at')))),by decide⟩
      ·exact ⟨u2,(1,1),rfl,up (m5.sm _ _ (m4.sm _ _ (m3.sm _ _ m2.at'))),by decide⟩
      ·exact ⟨u3,(1,2),rfl,up (m5.sm _ _ (m4.sm _ _ m3.at')),by decide⟩
      ·exact ⟨u4,(5,6),rfl,up (m5.sm _ _ m4.at'),by decide⟩
     refine ⟨l5,_,_,_,rfl,rfl,am.of (s6.old l5 _ nl5 m5.at'),eso,nM _ _ ?_⟩
     have s36:aO (Eb b) G3 K6:=sm.toE.trans s6
     have sJ6:aO (Eb b) J1 K6:=(sG.trans g03).trans s36
     have hW6:=sJ6.old W _ nWb hW
     obtain ⟨w1',z1,v1,hw1,wc1⟩:=wl bg mbg
     obtain ⟨w2',z2,v2,hw2,wc2⟩:=wl en men
     refine ⟨_,rfl,_,rfl,W,kvs,Sum.inr (S bg),.ref w1',rfl,rfl,hW6,v1,_,rfl,_,rfl,W,kvs,Sum.inr (S en),.ref w2',rfl,rfl,hW6,v2,w1',w2',z1,z2,_,_,_,_,rfl,sJ6.tup _ _ hw1,sJ6.tup _ _ hw2,wH wc1,wH wc2,by decide,by decide,by decide,by decide,(fun _=>wc2.1),fun q K7 n7=>⟨_,rfl,q,so,_,z,4,4,3,3,rfl,n7.at',n7.sm _ _ hso,(wH wc1).ovr (wH wc2) wc2.1 (by decide) (by decide),⟨(show z.1.natAbs<8 by trivial),(show z.2.natAbs<8 by trivial),gz'.2.2.1⟩,by decide,by decide,by decide,by decide,(fun z=>by cases z),fun q2 K8 n8=>nx _ _ ?_⟩⟩
     have wg:=Hj wc1 wc2 gz'
     exact ⟨q2,_,_,t12,rfl,n8.at',wg.1,wg.2,(B6.same n7.sm).same n8.sm,by trivial,by trivial,s36.trans (n7.sm.trans n8.sm).toE⟩
    ·exact nx _ _ ⟨og,(n,d),_,t11,rfl,eg,⟨fg.sn,fg.sd,fg.pos⟩,lg,BG3,by trivial,by trivial,aO.refl _⟩
  clear hL iL lL cL B7 s7
  rintro σ G ⟨v10,v11,v12,v13,v14,v15,ys,es,t8,rfl,hL,iL,lL,lL',cL,BG,h8a,h8b,sG⟩
  have t8a:t≤t8∧t8≤t+333:=by trivial
  have les:1≤es.length∧es.length≤34:=by trivial
  have lys:ys.length=es.length:=by rw [iL.length,List.length_map]
  clear h7a h7b h8a h8b lL lL' t6a
  refine nB _ _ ?_
  clear nB
  refine bD fun Q7 nA7=>⟨(by show 0≤10000;decide),fun TL G1 n1=>nA7 _ _ ?_⟩
  have fT:J1 TL=none:=sG.free BG n1.fr
  have nTb:¬TL=b:=fun z=>BG.ne n1.fr z.symm
  refine bz fun DB nB=>?_
  refine ⟨_,rfl,_,rfl,L,_,rfl,am.of (n1.sm _ _ hL),fun P' G2 n2=>?_⟩
  have eP:G2 P'=some (.lst (ys.take 24)):=by
   have:=n2.at'
   rw [mW (by decide)] at this
   exact this
  have nPb:¬P'=b:=fun z=>(BG.same n1.sm).ne n2.fr z.symm
  have nPT:¬P'=TL:=fun z=>by have:=n1.at';rw [←z,n2.fr] at this;cases this
  have s12:=n1.sm.trans n2.sm
  have iP:aI ED G2 (ys.take 24) ((es.take 24).map AI):=by
   rw [List.map_take]
   exact (iL.take 24).mono s12.toE
  have lP:(ys.take 24).length=(es.take 24).length:=by rw [List.length_take,List.length_take];trivial
  refine ⟨P',rfl,⟨_,am.of n2.at'⟩,?_⟩
  refine lK (xs:=ys.take 24) (fun i σ H'=>Jm fun (v12 v13 v14 v17:Option V) (zs:List V) (ts:List aa) (t':Int)=>σ=[some (.ref b),some (.int mp),some (.int mt),some (.int wy),some (.bl great),some (.ref pl),some (.int mn),some (.ref sl),some (.ref W),some (.ref L),v10,v11,v12,v13,v14,v15,some (.ref TL),v17]∧H' TL=some (.lst zs)∧aI ED H' zs (ts.map kM)∧ts.length=i∧(∀x∈ts,fK ls x)∧Bx H' b t'∧t8≤t'∧t'≤t8+4*i∧H' P'=some (.lst (ys.take 24))∧aO (Eb b) J1 H'∧(∀a us,G2 a=some (.tup us)→H' a=some (.tup us))) ⟨_,_,_,_,[],[],t8,rfl,n2.sm _ _ n1.at',.nil,rfl,(fun x hx=>by cases hx),BG.same s12,by trivial,by trivial,eP,sG.trans s12.toE,fun _ _ h=>h⟩ ?_ ?_ ?_
  ·rintro i σ H' _ ⟨_,_,_,_,_,_,_,_,_,_,_,_,_,_,_,q,_⟩
   exact am.of q
  ·rintro i x σ F0 hx ⟨v12,v13,v14,v17,zs,ts,t9,rfl,hT,iT,lT,cT,BF,h9a,h9b,hP,sF,tF⟩
   have hi:i<(ys.take 24).length:=(List.getElem?_eq_some_iff.mp hx).1
   have h24:(ys.take 24).length≤24:=by rw [List.length_take];trivial
   obtain ⟨dx,edx,gx⟩:=iP.get hx
   rw [List.getElem?_map] at edx
   obtain ⟨tr,etr,rfl⟩:=Option.map_eq_some_iff.mp edx
   have tc:=cL tr (List.mem_of_mem_take (List.mem_of_getElem? etr))
   obtain ⟨o,og,rfl,ho,hog⟩:aW fun o og=>x=.ref o∧G2 o=some (.tup [.str (S tr.1),.str (S tr.2.1),.ref og])∧G2 og=some (fr tr.2.2):=by
    cases gx with
    | @tup a xs _ h r'=>
     cases r' with
     | @cons u1 _ _ _ h1 r'=>
     cases r' with
     | @cons u2 _ _ _ h2 r'=>
     cases r' with
     | @cons u3 _ _ _ h3 r'=>
     cases r'
     cases h1
     cases h2
     obtain ⟨og,rfl,hog⟩:=rV h3
     exact ⟨a,og,rfl,h,hog⟩
   have lzs:zs.length=ts.length:=by rw [iT.length,List.length_map]
   refine ⟨o,_,rfl,ag.of (tF _ _ ho),rfl,_,_,rfl,_,_,rfl,_,_,rfl,rfl,?_⟩
   dsimp only
   refine bD fun Q8 nA8=>⟨_,rfl,b,t9,rfl,BF,by trivial,by trivial,fun om zm t10 F1 f1 hom gm zm0 zmc BF1 h10a h10b=>nA8 _ _ ?_⟩
   have hT1:=f1.old TL _ nTb hT
   refine ⟨_,rfl,.inl ⟨rfl,_,am.of hT1⟩,_,rfl,_,rfl,_,rfl,_,rfl,_,rfl,b,t10,rfl,BF1,by trivial,by trivial,fun op zp t11 F2 f2 hop gp zp0 _ BF2 h11a h11b=>⟨(by show 5≤10000;decide),fun q F3 n3=>?_⟩⟩
   have f03:aO (Eb b) F0 F3:=(f1.trans f2).trans n3.sm.toE
   have hT3:=f03.old TL _ nTb hT
   refine ⟨TL,_,_,rfl,rfl,hT3,by trivial,fun F4 c4=>⟨_,_,_,_,zs++[.ref q],ts++[⟨tr.1,tr.2.1,zm,tr.2.2,zp⟩],t11,rfl,c4.at',?_,by rw [List.length_append,lT];rfl,fun x hx=>?_,(BF2.same n3.sm).ch c4 (fun z=>nTb z.symm),by trivial,by trivial,c4.ol P' _ nPT (f03.old P' _ nPb hP),(sF.trans f03).ch c4 fT,fun a us h=>c4.tup (f03.tup _ _ (tF a us h)) hT3⟩⟩
   ·rw [List.map_append]
    refine xF c4 hT3 (iT.tupS f03) ?_
    exact .tup n3.at' (.cons (.str _) (.cons (.str _) (.cons (mQ (p:=zm) (n3.sm _ _ (f2.tup _ _ hom))) (.cons (mQ (p:=tr.2.2) (f03.tup _ _ (tF _ _ hog))) (.cons (mQ (p:=zp) (n3.sm _ _ hop)) .nil)))))
   ·rcases List.mem_append.mp hx with q' | q'
    ·exact cT x q'
    ·rw [List.mem_singleton.mp q']
     exact ⟨tc.b,tc.e,tc.ne,gm,tc.g,tc.g1,gp,zm0,zmc⟩
  rintro σ F0 ⟨v12,v13,v14,v17,zs,ts,t9,rfl,hT,iT,lT,cT,BF,h9a,h9b,hP,sF,tF⟩
  refine nB _ _ ?_
  have l24:(ys.take 24).length≤24∧1≤(ys.take 24).length:=by rw [List.length_take];trivial
  have lzs:zs.length=ts.length:=by rw [iT.length,List.length_map]
  have hplF:=sF.tup _ _ hplJ
  refine zg (fun σ H'=>eH fun (zs:List V) (ts:List aa) (t':Int)=>σ=[some (.ref b),some (.int mp),some (.int mt),some (.int wy),some (.bl great),some (.ref pl),some (.int mn),some (.ref sl),some (.ref W),some (.ref L),v10,v11,v12,v13,v14,v15,some (.ref TL),v17]∧H' TL=some (.lst zs)∧aI ED H' zs (ts.map kM)∧1≤ts.length∧ts.length≤24∧(∀x∈ts,fK ls x)∧Bx H' b t'∧t9≤t'∧t'≤t9+1∧aO (Eb b) J1 H') ?_ fun nx=>?_
  ·rintro σ' F1 ⟨zs,ts,t10,rfl,hT,iT,l1,l2',cT,BF,h10a,h10b,sF⟩
   refine ⟨_,rfl,_,rfl,TL,_,rfl,am.of hT,fun q F2 n2'=>⟨(by show 2≤10000;decide),fun v F3 n3=>?_⟩⟩
   have s23:=n2'.sm.trans n3.sm
   refine k (.ref v) ls ts t10 F3 ((s01.trans sF).trans s23.toE) ?_ l2 l10 nd nc l1 l2' cT (BF.same s23) (by trivial) (by trivial)
   refine .tup n3.at' (.cons (.tup (s23 _ _ (sF.tup _ _ hplJ)) (xH ls)) (.cons (.tup (n3.sm _ _ n2'.at') (iT.mono s23.toE)) .nil))
  ·refine ⟨_,rfl,TL,_,rfl,.inl (am.of hT),_,_,rfl,rfl,_,rfl,mm (fun c=>?_) (fun c=>?_)⟩
   ·have hlt:(zs.length:Int)<24:=of_decide_eq_true c
    refine ⟨_,rfl,b,4,t9,rfl,BF,by decide,by decide,by trivial,by trivial,fun r t10 F1 r0 r1 _ _ f1 BF1=>⟨rfl,_,rfl,mm (fun c'=>?_) (fun c'=>?_)⟩⟩
    ·have hT1:=f1.old TL _ nTb hT
     obtain ⟨y0,ey0⟩:∃y0,zs[0]?=some y0:=⟨_,List.getElem?_eq_getElem (by trivial)⟩
     obtain ⟨d0,ed0,g0⟩:=iT.get ey0
     rw [List.getElem?_map] at ed0
     obtain ⟨tt,et,rfl⟩:=Option.map_eq_some_iff.mp ed0
     refine ⟨_,rfl,.inl ⟨rfl,_,am.of hT1⟩,_,rfl,TL,_,_,_,rfl,rfl,am.of hT1,cY (j:=0) ey0,TL,_,_,rfl,rfl,hT1,by trivial,fun F2 c2=>nx _ _ ⟨_,ts++[tt],t10,rfl,c2.at',?_,by simp,by rw [List.length_append];simp;trivial,fun x hx=>?_,BF1.ch c2 (fun z=>nTb z.symm),by trivial,by trivial,(sF.trans f1).ch c2 fT⟩⟩
     ·rw [List.map_append]
      exact xF c2 hT1 (iT.tupS f1) (g0.tupS (F:=ED) f1)
     ·rcases List.mem_append.mp hx with q' | q'
      ·exact cT x q'
      ·rw [List.mem_singleton.mp q'];exact cT tt (List.mem_of_getElem? et)
    ·exact nx _ _ ⟨zs,ts,t10,rfl,f1.old TL _ nTb hT,iT.tupS f1,by trivial,by trivial,cT,BF1,by trivial,by trivial,sF.trans f1⟩
   ·exact aM (nx _ _ ⟨zs,ts,t9,rfl,hT,iT,by trivial,by trivial,cT,BF,by trivial,by trivial,sF⟩)
end
end K13
namespace K13
open PySem L2
set_option maxHeartbeats 4000000
theorem Fv (p:KM.Fra):PyData.eqv (kR p) (kR (0,1))=decide (p=(0,1)):=by
 have e1:PyData.eqv (kR p) (kR (0,1))=(p.1==0 && (p.2==1 && true)):=by simp [PyData.eqv,PyData.eqvAll]
 rw [e1]
 obtain ⟨a,b⟩:=p
 by_cases h1:a=0
 ·by_cases h2:b=1
  ·subst h1 h2;rfl
  ·simp [h1,h2]
 ·simp [h1]
theorem xU {p:KM.Fra}{a b:Nat} (h:Gb a b p) (ha:a≤1900) (hb:b≤1900):Wt (kR p) 3 1:=.tuple (.cons (.int (h.n.mono ha)) (.cons (.int (h.d.mono hb)) .nil))
theorem Jk:Gb 1 1 (0,1):=⟨show (0:Int).natAbs<2 ^ 1 by decide,show (1:Int).natAbs<2 ^ 1 by decide,by decide⟩
section
variable {P:Program}{w:World}{K:PySem.W.Frag}{mg:Str→Option Value}{base:Heap}
inductive D6 (vs:List V) (H:Hp) (Q:VK):Prop
 | mk (v:V) (t:aa) (ls:List (List Nat)) (h0:vs=[v]) (h1:aU ED H v (kM t)) (h2:fK ls t) (h3:∀H',ah H H'→Q (.bl (decide (t.most=(0,1)))) H')
def Ge:Sp:=fun vs H Q _=>D6  vs H Q
theorem zd (T:Txt K mg):aZ P w K mg base CX0 1 T.is_shut_.f T.is_shut_.d ["tie"] Ge:=by
 refine T.is_shut_.F.ok zj (fun vs H Q E h=>?_) (fun cdv A outer s H vs Q E hr h=>?_)
 ·obtain ⟨v,t,ls,rfl,_⟩:=h
  rfl
 ·obtain ⟨v,t,ls,rfl,hv,tc,k⟩:=h
  obtain ⟨o,om,og,op,rfl,ho,hom,hog,hop⟩:=jR hv
  refine ⟨_,(@ad _ _ _ (@aw _ _ _ _ (@cI _ _ _ _ _ _ _ _ (@xK _ hr.units) ‹‹(0,wA)›[‹0›]› (@aG _ _ _ _ _ ‹[‹0›,‹0›]›) (@au _ _ (by decide) (by decide))))),?_⟩
  refine ⟨_,rfl,o,_,_,_,rfl,rfl,ag.of ho,rfl,(by show 2≤10000;decide),fun q H1 n1=>⟨kR t.most,kR (0,1),ED,ED,_,_,_,_,mQ (n1.sm _ _ hom),mQ (p:=(0,1)) n1.at',xU tc.fm (by decide) (by decide),xU Jk (by decide) (by decide),by decide,?_⟩⟩
  have:=k H1 n1.sm
  rw [←Fv] at this
  exact this
inductive DW (H:Hp) (W:Addr) (ls:List (List Nat)) (ω:List Nat→KM.Fra) (n:Nat):Prop
 | mk (kvs:_) (h0:H W=some (.dK kvs)) (h1:kvs.length≤n) (h2:∀l∈ls,∃o,valD kvs (Sum.inr (S l))=some (.ref o)∧H o=some (fr (ω l)))
inductive DO (H:Hp) (O:Addr) (ls:List (List Nat)) (on:List Nat→Option Nat) (n:Nat):Prop
 | mk (kvs:_) (h0:H O=some (.dK kvs)) (h1:kvs.length≤n) (h2:∀l∈ls,valD kvs (Sum.inr (S l))=(on l).map fun k:Nat=>V.int (k:Int))
def ug:Option (List Nat)→V
 | none=>.non
 | some l=>af l
def cr (W O:Addr) (H H':Hp):Prop:=∀a o,a≠W→a≠O→H a=some o→H' a=some o
theorem cr.tup {W O a:Addr}{H H':Hp}{k1 k2:List (aJ×V)}{us:List V} (h:cr W O H H') (hW:H W=some (.dK k1)) (hO:H O=some (.dK k2)) (ha:H a=some (.tup us)):H' a=some (.tup us):=
 h a _ (fun z=>by rw [z,hW] at ha;cases ha) (fun z=>by rw [z,hO] at ha;cases ha) ha
theorem pN (kvs:List (aJ×V)) (k:aJ) (v:V):(dz kvs k v).length≤kvs.length+1:=by
 unfold dz
 split
 ·rw [List.length_map];trivial
 ·rw [List.length_append];exact Nat.le_refl _
theorem qr {a b:List Nat} (h:a≠b):(Sum.inr (S a):aJ)≠Sum.inr (S b):=fun z=>by
 injection z with z
 exact h (j7 z)
theorem fK.tok {ls:List (List Nat)}{t:aa} (h:fK ls t):cb ls t:=⟨h.b,h.e,h.ne,h.g1,h.fg.pos⟩
inductive sO (H:Hp) (W:Addr) (ls:List (List Nat)) (ω:kg) (n:Nat):Prop
 | mk (kvs:_) (h0:H W=some (.dK kvs)) (h1:kvs.length≤n) (h2:∀l∈ls,(∀w,ω l=some w→∃o,valD kvs (Sum.inr (S l))=some (.ref o)∧H o=some (fr w))∧(ω l=none→valD kvs (Sum.inr (S l))=none))
abbrev GW (ls:List (List Nat)) (ω:kg) (c:Nat):Prop:=∀l∈ls,∀w,ω l=some w→Gb c c w∧1≤w.1
inductive Bg (vs:List V) (H:Hp) (Q:VK):Prop
 | mk (v:V) (W O:Addr) (ls:List (List Nat)) (ts:List aa) (s:LP) (n c:Nat) (h0:vs=[v,.ref W,.ref O]) (h1:aU ED H v (dD ls ts)) (h2:(∀t∈ts,fK ls t)) (h3:ts.length≤40) (h4:¬W=O) (h5:sO H W ls s.ω n) (h6:DO H O ls s.on n) (h7:n≤3000) (h8:GW ls s.ω c) (h9:c≤2000) (h10:∀H':Hp,cr W O H H'→sO H' W ls (dS ts s).ω (n+ts.length)→DO H' O ls (dS ts s).on (n+ts.length)→GW ls (dS ts s).ω (c+6*ts.length)→Q (ug (dS ts s).lf) H')
def Dz:Sp:=fun vs H Q _=>Bg  vs H Q
theorem pZ (T:Txt K mg):aZ P w K mg base CX0 4 T.lift_once_.f T.lift_once_.d ["net", "worths", "onward"] Dz:=by
 have G_is_shut:=zd (P:=P) (w:=w) (base:=base) T
 have G_times:=Bn (P:=P) (w:=w) (base:=base) T
 have G_compared:=x3 (P:=P) (w:=w) (base:=base) T
 refine T.lift_once_.F.ok bS (fun vs H Q E h=>?_) (fun cdv A outer s H vs Q E hr h=>?_)
 ·obtain ⟨v,W,O,ls,ts,st,n,c,rfl,_⟩:=h
  rfl
 ·obtain ⟨v,W,O,ls,ts,st,n,c,rfl,hv,tc,h40,nWO,⟨kv0,hW0,lW0,vW0⟩,⟨ko0,hO0,lO0,vO0⟩,hn,gω,hc,k⟩:=h
  obtain ⟨na,pa,ta,ys,rfl,hna,hpa,hta,ity⟩:=cX hv
  have lys:ys.length=ts.length:=by rw [ity.length,List.length_map]
  refine ⟨_,‹‹(3,bS.nd,gT,(@b8 _ _ _))› :: ‹(@fM _ _ _ _ _ _ _ _ PassesOwn.never rfl (@xM _ (K) _ _ _ _ _ _ _ oq T.b_enumerate ‹[‹‹(0,ux)›[‹0›]›]› (by rfl) (by rfl)) (@fk _ (K) _ _ _ _ (2) rfl (@aS _ _ _ _ _ ‹(4,bS.nd,km)› (@aS _ _ _ _ _ ‹(5,bS.nd,jp)› (@eS _) (by rfl)) (by rfl)) (by rfl) (by rfl) (by rfl)) ‹(@gj _ _ _ _ _ _ ‹(5,jp)› (@fk _ (K) _ _ _ _ (5) rfl (@aS _ _ _ _ _ ‹(6,bS.nd,cK)› (@aS _ _ _ _ _ ‹(7,bS.nd,ju)› (@aS _ _ _ _ _ ‹(8,bS.nd,tW)› (@aS _ _ _ _ _ ‹(9,bS.nd,lQ)› (@aS _ _ _ _ _ ‹(10,bS.nd,sg)› (@eS _) (by rfl)) (by rfl)) (by rfl)) (by rfl)) (by rfl)) (by rfl) (by rfl) (by rfl)) (by rfl) (by rfl) (by rfl)) :: ‹(@be _ _ _ _ _ _ _ _ (@PW.pt _ _ _ (@dO _ _ _ _ _ _ _ (@b9 _ _ _ ‹(G_is_shut,qe,T.is_shut_,‹[‹(5,jp)›]›)› (by intro _;rfl)) (@d9 _ _ _ _ (@aq _ _ _ _ _ _ _ _ (@pM _) ‹(7,ju)› ‹(1,dq)› rfl)))) (@ad _ _ _ (@yh _ _)) (@aN _)) :: ‹‹(11,bS.nd,iD,‹(G_times,sy,T.times_,‹[‹(9,lQ)›,(@cf _ _ _ _ _ _ _ (@eM _) ‹(1,dq)› ‹(7,ju)› (fun _ _=>rfl))]›)›)› :: (@ad _ _ _ (@be _ _ _ _ _ _ _ _ (@PW.pt _ _ _ (@dO _ _ _ _ _ _ _ (@aq _ _ _ _ _ _ _ _ (@pM _) ‹(6,cK)› ‹(1,dq)› rfl) (@d9 _ _ _ _ (@aq _ _ _ _ _ _ _ _ (@lc _) ‹(G_compared,pR,T.compared_,‹[‹(11,iD)›,(@cf _ _ _ _ _ _ _ (@eM _) ‹(1,dq)› ‹(6,cK)› (fun _ _=>rfl))]›)› ‹0› (@au _ _ (by decide) (by decide)))))) ‹(@gj _ _ _ _ _ _ ‹(11,iD)› (@oH _ _ _ _ _ _ _ ‹(1,dq)› ‹(6,cK)› (@tU _) (by intro _;rfl)) (by rfl) (by rfl) (by rfl)) :: ‹(@gj _ _ _ _ _ _ ‹(4,km)› (@oH _ _ _ _ _ _ _ ‹(2,qt)› ‹(6,cK)› (@tU _) (by intro _;rfl)) (by rfl) (by rfl) (by rfl)) :: (@ad _ _ _ ‹(3,bS.nd,gT,‹(6,cK)›)›)›› (@aN _)))››› (by intro _;rfl)) :: (@ad _ _ _ (@aw _ _ _ _ ‹(3,gT)›))››,?_⟩
  refine bD fun Q1 nA=>nA _ _ ?_
  refine bz fun DB nB=>?_
  refine ⟨_,rfl,na,_,_,_,rfl,rfl,ag.of hna,rfl,ta,false,rfl,⟨ys,ag.of hta⟩,Ac (xs:=ys) (fun i σ H'=>CS fun (v4 v5 v6 v7 v8 v9 v10 v11:Option V)=>σ=[some (.ref na),some (.ref W),some (.ref O),some (ug (upP ts st i).lf),v4,v5,v6,v7,v8,v9,v10,v11]∧sO H' W ls (upP ts st i).ω (n+i)∧DO H' O ls (upP ts st i).on (n+i)∧GW ls (upP ts st i).ω (c+6*i)∧cr W O H H') ⟨_,_,_,_,_,_,_,_,rfl,⟨kv0,hW0,by trivial,vW0⟩,⟨ko0,hO0,by trivial,vO0⟩,gω,fun _ _ _ _ h=>h⟩ ?_ ?_ ?_⟩
  ·rintro i σ H' _ ⟨v4,v5,v6,v7,v8,v9,v10,v11,rfl,_,_,_,f2⟩
   exact ag.of (f2.tup hW0 hO0 hta)
  ·rintro i x T' σ J0 hx hT ⟨v4,v5,v6,v7,v8,v9,v10,v11,rfl,⟨kv,hW,lW,vW⟩,⟨ko,hO,lO,vO⟩,gω,f2⟩
   have hi:i<ys.length:=(List.getElem?_eq_some_iff.mp hx).1
   have nT:Nw J0 T' (.tup [.int (i:Int),x]) (aD J0 T' (.tup [.int (i:Int),x])):=.mk' hT
   generalize aD J0 T' (.tup [.int (i:Int),x])=J1 at nT ⊢
   obtain ⟨dy,edy,gy⟩:=ity.get hx
   rw [List.getElem?_map] at edy
   obtain ⟨t,et,rfl⟩:=Option.map_eq_some_iff.mp edy
   have tt:=tc t (List.mem_of_getElem? et)
   have eU:=tR (s:=st) et
   obtain ⟨o,om,og,op,rfl,ho,hom,hog,hop⟩:=jR gy
   generalize upP ts st i=U at eU vW vO gω ⊢
   have up1:∀{a:Addr}{us:List V},H a=some (.tup us)→J1 a=some (.tup us):=fun h=>nT.sm _ _ (f2.tup hW0 hO0 h)
   have gyJ:aU ED J1 (.ref o) (kM t):=.tup (up1 ho) (.cons (.str _) (.cons (.str _) (.cons (mQ (p:=t.most) (up1 hom)) (.cons (mQ (p:=t.gain) (up1 hog)) (.cons (mQ (p:=t.price) (up1 hop)) .nil)))))
   have grow:GW ls U.ω (c+6*(i+1)):=fun l hl w e=>⟨(gω l hl w e).1.mono (by trivial) (by trivial),(gω l hl w e).2⟩
   have keep:∀{J:Hp}{w4 w5 w6 w7 w8 w9 w10 w11:Option V},fw U.ω t=none→ah J0 J→CS fun (v4 v5 v6 v7 v8 v9 v10 v11:Option V)=>[some (V.ref na),some (.ref W),some (.ref O),some (ug U.lf),w4,w5,w6,w7,w8,w9,w10,w11]=[some (.ref na),some (.ref W),some (.ref O),some (ug (upP ts st (i+1)).lf),v4,v5,v6,v7,v8,v9,v10,v11]∧sO J W ls (upP ts st (i+1)).ω (n+(i+1))∧DO J O ls (upP ts st (i+1)).on (n+(i+1))∧GW ls (upP ts st (i+1)).ω (c+6*(i+1))∧cr W O H J:=by
    intro J w4 w5 w6 w7 w8 w9 w10 w11 no sJ
    rw [eU,ie no]
    exact ⟨_,_,_,_,_,_,_,_,rfl,⟨kv,sJ _ _ hW,by trivial,fun l hl'=>⟨fun w e=>let ⟨o',v',h'⟩:=(vW l hl').1 w e;⟨o',v',sJ _ _ h'⟩,(vW l hl').2⟩⟩,⟨ko,sJ _ _ hO,by trivial,vO⟩,grow,fun a u h1 h2 h=>sJ _ _ (f2 a u h1 h2 h)⟩
   refine ⟨T',_,rfl,ag.of nT.at',rfl,_,_,rfl,_,_,rfl,rfl,?_⟩
   dsimp only
   refine ⟨_,rfl,o,_,rfl,ag.of (up1 ho),rfl,_,_,rfl,_,_,rfl,_,_,rfl,_,_,rfl,_,_,rfl,rfl,?_⟩
   dsimp only
   refine zg (fun σ' H'=>t.most≠(0,1)∧(∃we,U.ω t.en=some we)∧σ'=[some (.ref na),some (.ref W),some (.ref O),some (ug U.lf),some (.int (i:Int)),some (.ref o),some (.str (S t.bg)),some (.str (S t.en)),some (.ref om),some (.ref og),some (.ref op),v11]∧ah J1 H') ?_ fun nx=>?_
   ·rintro σ' J2 ⟨hopen,⟨we,ewe⟩,rfl,s2⟩
    have s02:=nT.sm.trans s2
    obtain ⟨oe,ve,hoe⟩:=(vW t.en tt.e).1 we ewe
    obtain ⟨ge,pe1⟩:=gω t.en tt.e we ewe
    obtain ⟨g1,g2⟩:=gz tt.fg (by decide) (by decide)
    obtain ⟨e1,e2⟩:=gz ge (by trivial) (by trivial)
    refine bD fun Q2 nA2=>⟨_,rfl,_,rfl,_,rfl,W,kv,Sum.inr (S t.en),.ref oe,rfl,rfl,s02 _ _ hW,ve,og,oe,_,_,_,_,rfl,s2 _ _ (up1 hog),s02 _ _ hoe,⟨g1,g2,e1,e2,gd tt.fg ge⟩,fun q J3 n3=>nA2 _ _ ?_⟩
    have gq:Gb (c+6*(i+1)) (c+6*(i+1)) (KM.lTim t.gain we):=tt.fg.tim ge (by trivial) (by trivial)
    obtain ⟨q1,q2⟩:=gz gq (by trivial) (by trivial)
    have s03:=s02.trans n3.sm
    refine E9 (fun H'=>fw U.ω t=some (KM.lTim t.gain we)∧J3=H') (fun H'=>fw U.ω t=none∧J3=H') (fun R r1 r0=>?_) ?_ ?_
    ·refine ⟨_,rfl,_,rfl,W,kv,Sum.inr (S t.bg),rfl,rfl,s03 _ _ hW,_,rfl,?_⟩
     cases eb:U.ω t.bg with
     | none=>
      rw [(vW t.bg tt.b).2 eb]
      exact bh (r1 _ ⟨Ih hopen ewe eb,rfl⟩)
     | some wb=>
      obtain ⟨ob,vb,hob⟩:=(vW t.bg tt.b).1 wb eb
      obtain ⟨gb,pb1⟩:=gω t.bg tt.b wb eb
      obtain ⟨b1,b2⟩:=gz gb (by trivial) (by trivial)
      rw [vb]
      refine aM ⟨_,rfl,_,rfl,_,rfl,W,kv,Sum.inr (S t.bg),.ref ob,rfl,rfl,s03 _ _ hW,vb,q,ob,_,_,_,_,rfl,n3.at',s03 _ _ hob,q1,q2,b1,b2,_,_,rfl,rfl,_,rfl,?_⟩
      have ecmp:decide (0<u9 ((KM.lTim t.gain we).1*wb.2) (wb.1*(KM.lTim t.gain we).2))=xL wb (KM.lTim t.gain we):=Ga
      have eB:=HH hopen ewe eb
      rw [←ecmp] at eB
      cases cnd:decide (0<u9 ((KM.lTim t.gain we).1*wb.2) (wb.1*(KM.lTim t.gain we).2)) with
      | true=>
       rw [cnd,if_pos rfl] at eB
       refine Eq.mp (congrArg (fun b=>R b J3) cnd.symm) (r1 _ ⟨eB,rfl⟩)
      | false=>
       rw [cnd,if_neg Bool.false_ne_true] at eB
       refine Eq.mp (congrArg (fun b=>R b J3) cnd.symm) (r0 _ ⟨eB,rfl⟩)
    ·rintro _ ⟨hl,rfl⟩
     refine bz fun DC nC=>⟨_,rfl,_,rfl,_,rfl,W,kv,Sum.inr (S t.bg),rfl,rfl,s03 _ _ hW,by trivial,fun J4 c4=>nC _ _ ?_⟩
     have hO4:=c4.ol O _ (fun z=>nWO z.symm) (s03 _ _ hO)
     refine bz fun DE nE=>⟨_,rfl,_,rfl,_,rfl,O,ko,Sum.inr (S t.bg),rfl,rfl,hO4,by trivial,fun J5 c5=>nE _ _ ?_⟩
     have tupJ:∀{a:Addr}{us:List V},J3 a=some (.tup us)→J5 a=some (.tup us):=fun {a us} h=>c5.ol a _ (fun z=>by rw [z,s03 _ _ hO] at h;cases h) (c4.ol a _ (fun z=>by rw [z,s03 _ _ hW] at h;cases h) h)
     have aP:CS fun (v4 v5 v6 v7 v8 v9 v10 v11:Option V)=>[some (V.ref na),some (.ref W),some (.ref O),some (.str (S t.bg)),some (.int (i:Int)),some (.ref o),some (.str (S t.bg)),some (.str (S t.en)),some (.ref om),some (.ref og),some (.ref op),some (.ref q)]=[some (.ref na),some (.ref W),some (.ref O),some (ug (upP ts st (i+1)).lf),v4,v5,v6,v7,v8,v9,v10,v11]∧sO J5 W ls (upP ts st (i+1)).ω (n+(i+1))∧DO J5 O ls (upP ts st (i+1)).on (n+(i+1))∧GW ls (upP ts st (i+1)).ω (c+6*(i+1))∧cr W O H J5:=by
      rw [eU,gN hl]
      have eo:∀l,(gH i t (KM.lTim t.gain we) U).ω l=if l=t.bg then some (KM.lTim t.gain we) else U.ω l:=fun _=>rfl
      have eon:∀l,(gH i t (KM.lTim t.gain we) U).on l=if l=t.bg then some i else U.on l:=fun _=>rfl
      have elf:ug (gH i t (KM.lTim t.gain we) U).lf=.str (S t.bg):=rfl
      rw [elf]
      generalize gH i t (KM.lTim t.gain we) U=U' at eo eon
      refine ⟨_,_,_,_,_,_,_,_,rfl,⟨_,c5.ol W _ nWO c4.at',by have:=pN kv (Sum.inr (S t.bg)) (.ref q);trivial,fun l hl'=>?_⟩,⟨_,c5.at',by have:=pN ko (Sum.inr (S t.bg)) (.int (i:Int));trivial,fun l hl'=>?_⟩,fun l hl' w' e'=>?_,fun a u h1 h2 h=>c5.ol a _ h2 (c4.ol a _ h1 (s03 _ _ (f2 a u h1 h2 h)))⟩
      ·rw [kC,eo]
       by_cases cl:l=t.bg
       ·subst cl
        rw [if_pos rfl,if_pos rfl]
        exact ⟨fun w' e'=>by cases e';exact ⟨q,rfl,tupJ n3.at'⟩,fun z=>by cases z⟩
       ·rw [if_neg (qr cl),if_neg cl]
        exact ⟨fun w' e'=>let ⟨o',v',h'⟩:=(vW l hl').1 w' e';⟨o',v',tupJ (s03 _ _ h')⟩,(vW l hl').2⟩
      ·rw [kC,eon]
       by_cases cl:l=t.bg
       ·subst cl
        rw [if_pos rfl,if_pos rfl]
        rfl
       ·rw [if_neg (qr cl),if_neg cl,vO l hl']
      ·rw [eo] at e'
       by_cases cl:l=t.bg
       ·rw [if_pos cl] at e'
        cases e'
        exact ⟨gq,uG tt.g1 tt.fg.pos pe1 ge.pos⟩
       ·rw [if_neg cl] at e'
        exact grow l hl' w' e'
     exact ⟨_,rfl,aP⟩
    ·rintro _ ⟨hl,rfl⟩
     exact keep hl s03
   ·refine ⟨_,rfl,.ref o,t,ls,rfl,gyJ,tt,fun J2 s2=>⟨_,rfl,?_⟩⟩
    have s02:=nT.sm.trans s2
    by_cases hs:t.most=(0,1)
    ·rw [decide_eq_true hs]
     refine bh (bh ?_)
     exact keep (by unfold fw;rw [if_pos hs]) s02
    ·rw [decide_eq_false hs]
     refine aM ⟨_,rfl,_,rfl,W,kv,Sum.inr (S t.en),rfl,rfl,s02 _ _ hW,_,rfl,?_⟩
     cases e:U.ω t.en with
     | none=>
      rw [(vW t.en tt.e).2 e]
      refine bh ?_
      exact keep (by unfold fw;rw [if_neg hs,e]) s02
     | some we=>
      obtain ⟨oe,ve,hoe⟩:=(vW t.en tt.e).1 we e
      rw [ve]
      exact aM (nx _ _ ⟨hs,⟨we,e⟩,rfl,s2⟩)
  ·rintro σ J ⟨v4,v5,v6,v7,v8,v9,v10,v11,rfl,dw,do',gω,f2⟩
   rw [lys] at dw do' gω ⊢
   exact nB _ _ ⟨_,rfl,k J f2 dw do' gω⟩
theorem yB {H:Hp}{W:Addr}{ls:List (List Nat)}{s:LS}{n:Nat}:sO H W ls (oQ s).ω n↔DW H W ls s.ω n:=by
 constructor
 ·rintro ⟨kv,h1,h2,h3⟩
  exact ⟨kv,h1,h2,fun l hl=>(h3 l hl).1 _ rfl⟩
 ·rintro ⟨kv,h1,h2,h3⟩
  exact ⟨kv,h1,h2,fun l hl=>⟨fun w e=>by cases e;exact h3 l hl,fun z=>by cases z⟩⟩
theorem AA {ls:List (List Nat)}{s:LS}{c:Nat}:GW ls (oQ s).ω c↔∀l∈ls,Gb c c (s.ω l)∧1≤(s.ω l).1:=
 ⟨fun h l hl=>h l hl _ rfl,fun h l hl w e=>by cases e;exact h l hl⟩
inductive Ez (vs:List V) (H:Hp) (Q:VK):Prop
 | mk (v:V) (W O:Addr) (ls:List (List Nat)) (ts:List aa) (s:LS) (p n c:Nat) (h0:vs=[v,.ref W,.ref O]) (h1:aU ED H v (dD ls ts)) (h2:(∀t∈ts,fK ls t)) (h3:ts.length≤40) (h4:¬W=O) (h5:DW H W ls s.ω n) (h6:DO H O ls s.on n) (h7:n≤3000) (h8:(∀l∈ls,Gb c c (s.ω l)∧1≤(s.ω l).1)) (h9:c≤2000) (h10:∀H':Hp,cr W O H H'→DW H' W ls (j8 p ts s).ω (n+ts.length)→DO H' O ls (j8 p ts s).on (n+ts.length)→(∀l∈ls,Gb (c+6*ts.length) (c+6*ts.length) ((j8 p ts s).ω l)∧1≤((j8 p ts s).ω l).1)→Q (ug (j8 p ts s).lf) H')
def E8:Sp:=fun vs H Q _=>Ez  vs H Q
theorem xz (T:Txt K mg):aZ P w K mg base CX0 4 T.lift_once_.f T.lift_once_.d ["net", "worths", "onward"] E8:=by
 refine (pZ (P:=P) (w:=w) (base:=base) T).imp fun vs H Q E h=>?_
 obtain ⟨v,W,O,ls,ts,st,p,n,c,rfl,hv,tc,h40,nWO,dw,do',hn,gω,hc,k⟩:=h
 refine ⟨v,W,O,ls,ts,oQ st,n,c,rfl,hv,tc,h40,nWO,yB.mpr dw,do',hn,AA.mpr gω,hc,?_⟩
 rw [Bt p]
 exact fun H' f dw do' gω=>k H' f (yB.mp dw) do' (AA.mp gω)
end
end K13
namespace K13
open PySem L2
set_option maxHeartbeats 4000000
def AW (ts:List aa) (i:Nat):Bool:=((ts[i]?).map fun t=>decide (0<t.most.1)).getD false
def gF (ts:List aa) (n:Nat):List Nat:=(List.range n).filter (AW ts)
abbrev aE (xs:List Nat):List V:=xs.map fun i:Nat=>V.int ((i:Nat):Int)
theorem vn {ts:List aa}{n:Nat}{t:aa} (h:ts[n]?=some t):gF ts (n+1)=if 0<t.most.1 then gF ts n++[n] else gF ts n:=by
 have e:AW ts n=decide (0<t.most.1):=by unfold AW;rw [h];rfl
 unfold gF
 rw [List.range_succ,List.filter_append]
 by_cases q:0<t.most.1
 ·rw [if_pos q];simp [e,q]
 ·rw [if_neg q];simp [e,q]
theorem tx (ts:List aa) (n:Nat):(gF ts n).length≤n:=by
 unfold gF
 exact Nat.le_trans (List.length_filter_le ..) (by simp)
theorem Cr {ls:List (List Nat)}{t:aa} (h:fK ls t):(0<t.most.1)↔t.most≠(0,1):=by
 constructor
 ·intro q z;rw [z] at q;exact absurd q (by decide)
 ·intro q
  have h0:=h.m0
  by_cases c:0<t.most.1
  ·exact c
  ·exfalso
   have e:t.most.1=0:=by trivial
   have g:=h.mc
   rw [e,Int.gcd_zero_left] at g
   have p:=h.fm.pos
   have e2:t.most.2=1:=by trivial
   exact q (Prod.ext e e2)
section
variable {P:Program}{w:World}{K:PySem.W.Frag}{mg:Str→Option Value}{base:Heap}
inductive A0 (vs:List V) (H:Hp) (Q:VK):Prop
 | mk (v:V) (ls:List (List Nat)) (ts:List aa) (h0:vs=[v]) (h1:aU ED H v (dD ls ts)) (h2:ts.length≤40) (h3:∀D H',ah H H'→H D=none→H' D=some (.lst (aE (gF ts ts.length)))→Q (.ref D) H')
def Bq:Sp:=fun vs H Q _=>A0  vs H Q
theorem mY (T:Txt K mg):aZ P w K mg base CX0 1 T.l_opened_.f T.l_opened_.d ["_law_net"] Bq:=by
 refine T.l_opened_.F.ok ye (fun vs H Q E h=>?_) (fun cdv A outer s H vs Q E hr h=>?_)
 ·obtain ⟨v,ls,ts,rfl,_⟩:=h
  rfl
 ·obtain ⟨v,ls,ts,rfl,hv,h40,k⟩:=h
  obtain ⟨na,pa,ta,ys,rfl,hna,hpa,hta,ity⟩:=cX hv
  have lys:ys.length=ts.length:=by rw [ity.length,List.length_map]
  refine ⟨_,(@ad _ _ _ (@aw _ _ _ _ (@cV _ _ _ _ _ _ _ (["_law_number", "_law_tie"]) (2) ([]) _ _ _ _ rfl (by kernel_rfl) (@xM _ (K) _ _ _ _ _ _ _ pi T.b_enumerate ‹[‹‹(0,sU)›[‹0›]›]› (by rfl) (by rfl)) (fun _ _ _ _ _ _=>(@fk _ (K) _ _ _ _ (2) rfl (@aS _ _ _ _ _ (@bo _ _ (0) _ (@cE _ (by kernel_rfl)) rfl (Or.inl (by kernel_rfl)) (by first | exact .inl rfl | exact .inr rfl | assumption)) (@aS _ _ _ _ _ (@bo _ _ (1) _ (@cE _ (by kernel_rfl)) rfl (Or.inl (by kernel_rfl)) (by first | exact .inl rfl | exact .inr rfl | assumption)) (@eS _) (by rfl)) (by rfl)) (by rfl) (by rfl) (by rfl))) (fun _ _ _ _ _ _=>(@Cj _ _ _ (@aq _ _ _ _ _ _ _ _ (@lc _) ‹‹‹(1,())›[‹0›]›[‹0›]› ‹0› (@au _ _ (by decide) (by decide))))) (fun _ _ _ _ _ _=>‹(0,())›) (by intro _;rfl)))),?_⟩
  refine ⟨_,rfl,na,_,_,_,rfl,rfl,ag.of hna,rfl,ta,false,rfl,⟨ys,ag.of hta⟩,fun D hD=>vt (n:=ys.length) (fun i H' zs=>H' D=some (.lst zs)∧zs=aE (gF ts i)∧ah H H') (jx (by trivial)) ⟨ar,rfl,ah.new hD⟩ ?_ ?_ ?_ ?_ ?_⟩
  ·rintro i H' zs ⟨e1,rfl,_⟩
   exact ⟨e1,by rw [List.length_map];exact tx ts i⟩
  ·rintro i H' zs hi ⟨_,_,sm⟩
   exact ⟨ys,ys[i],ag.of (sm _ _ hta),List.getElem?_eq_getElem hi⟩
  ·rintro H' zs ⟨_,_,sm⟩
   exact ⟨ys,ag.of (sm _ _ hta),rfl⟩
  ·rintro i H' zs x H'' hi ⟨hD',rfl,sm⟩ ⟨T',y,hT,rfl,rfl,ex⟩
   have hx:=ex ys (ag.of (sm _ _ hta))
   obtain ⟨dy,edy,gy⟩:=ity.get hx
   rw [List.getElem?_map] at edy
   obtain ⟨t,et,rfl⟩:=Option.map_eq_some_iff.mp edy
   obtain ⟨o,om,og,op,rfl,ho,hom,hog,hop⟩:=jR gy
   have nT:Nw H' T' (.tup [.int (i:Int),.ref o]) (aD H' T' (.tup [.int (i:Int),.ref o])):=.mk' hT
   generalize aD H' T' (.tup [.int (i:Int),.ref o])=J at nT ⊢
   have sJ:=sm.trans nT.sm
   refine ⟨T',_,rfl,ag.of nT.at',rfl,_,_,rfl,_,_,rfl,rfl,zK,?_⟩
   refine ⟨_,rfl,o,_,_,_,rfl,rfl,ag.of (sJ _ _ ho),rfl,om,_,_,_,rfl,rfl,ag.of (sJ _ _ hom),rfl,_,_,rfl,rfl,_,rfl,?_⟩
   by_cases q:0<t.most.1
   ·rw [show decide (t.most.1 > 0)=true from decide_eq_true q]
    refine bh ⟨_,rfl,nT.sm _ _ hD',ar,?_,cZ hD sJ⟩
    rw [vn et,if_pos q]
    simp [aE]
   ·rw [show decide (t.most.1 > 0)=false from decide_eq_false q]
    refine aM ⟨nT.sm _ _ hD',?_,sJ⟩
    rw [vn et,if_neg q]
  ·rintro H' zs ⟨e1,rfl,sm⟩
   rw [lys] at e1
   exact k D H' sm hD e1
end
end K13
namespace K13
open PySem L2
set_option maxHeartbeats 4000000
theorem mZ {c:TT}{tb:TS}{D:dn}{σ:St}{H:Hp} (Pv:Nat→St→Hp→Prop) (m:Nat) (h0:Pv m σ H)
 (hs:∀m σ H,Pv m σ H→∀(Q:Bool→Hp→Prop) (D':dn),(∀m' σ' H',m'<m→Pv m' σ' H'→D'.nx σ' H')→(∀v H',D.rt v H'→D'.rt v H')→(∀H1,tb D' σ H1→Q true H1)→(∀H1,D.nx σ H1→Q false H1)→c σ H Q):Az c tb D σ H:=by
 refine ⟨Pv,⟨m,h0⟩,fun m σ H h=>?_⟩
 refine hs m σ H h _ { D with nx:=fun σ' H'=>∃m',m'<m∧Pv m' σ' H',ct:=fun σ' H'=>∃m',m'<m∧Pv m' σ' H',bk:=D.nx } (fun m' σ' H' hm hp=>⟨m',hm,hp⟩) (fun _ _ z=>z) (fun H1 t=>?_) fun H1 t=>?_
 ·rw [if_pos rfl]
  exact ⟨_,fun _ _ z=>z,t⟩
 ·rw [if_neg (by decide)]
  exact t
theorem Ax {xs:List V}{j:Nat} (h:j≤xs.length):iU xs (some (j:Int)) none=xs.drop j:=by
 unfold iU
 rw [HT.sIx_none,HT.sIx_nat,Nat.min_eq_left h]
 exact List.take_of_length_le (by rw [List.length_drop];exact Nat.le_refl _)
section
variable {P:Program}{w:World}{K:PySem.W.Frag}{mg:Str→Option Value}{base:Heap}
inductive Cm (vs:List V) (H:Hp) (Q:VK):Prop
 | mk (v:V) (O:Addr) (ls:List (List Nat)) (ts:List aa) (st:LS) (l0:List Nat) (n:Nat) (h0:vs=[v,.ref O,af l0]) (h1:aU ED H v (dD ls ts)) (h2:(∀t∈ts,fK ls t)) (h3:ls.length≤10) (h4:DO H O ls st.on n) (h5:BI ls ts ls.length ts.length st) (h6:st.lf=some l0) (h7:∀(R:List Nat) (us:List aa) (r:Addr) (H':Hp),fA ts R us→R.length≤10→ah H H'→H r=none→H' r=some (.lst (aE R))→Q (.ref r) H')
def EC:Sp:=fun vs H Q _=>Cm  vs H Q
theorem uH (T:Txt K mg):aZ P w K mg base CX0 1 T.round_ahead_.f T.round_ahead_.d ["net", "onward", "place"] EC:=by
 refine T.round_ahead_.F.ok im (fun vs H Q E h=>?_) (fun cdv A outer s H vs Q E hr h=>?_)
 ·obtain ⟨v,O,ls,ts,st,l0,n,rfl,_⟩:=h
  rfl
 ·obtain ⟨v,O,ls,ts,st,l0,n,rfl,hv,tc,l10,⟨ko,hO,lO,vO⟩,bi,elf,k⟩:=h
  obtain ⟨na,pa,ta,ys,rfl,hna,hpa,hta,ity⟩:=cX hv
  have tk:∀t∈ts,cb ls t:=fun t ht=>(tc t ht).tok
  refine ⟨_,‹‹(3,im.nd,dU,(@bJ _ _ _ _ (@b7 _)))› :: ‹‹(4,im.nd,ia,(@bJ _ _ _ _ (@b7 _)))› :: ‹(@jM _ _ _ _ _ _ PassesOwn.never (@aq _ _ _ _ _ _ _ _ (@yF _ (K) (by rfl)) ‹(2,bZ)› ‹(3,dU)› rfl) ‹(@fJ _ _ _ _ (@fE _ (K) _ _ _ _ _ _ _ _ _ _ _ PySem.F.plainAttrs_list PySem.F.slot_list_append PySem.F.type_list_append (@io _) ‹(3,dU)› ‹[‹(2,bZ)›]› (by rfl) (by rfl) (by rfl) (by rfl) (by rfl) (by rfl)) (by rfl)) :: ‹(@fJ _ _ _ _ (@fE _ (K) _ _ _ _ _ _ _ _ _ _ _ PySem.F.plainAttrs_list PySem.F.slot_list_append PySem.F.type_list_append (@io _) ‹(4,ia)› ‹[(@cf _ _ _ _ _ _ _ (@eM _) ‹(1,jm)› ‹(2,bZ)› (fun _ _=>rfl))]› (by rfl) (by rfl) (by rfl) (by rfl) (by rfl) (by rfl)) (by rfl)) :: (@ad _ _ _ ‹(2,im.nd,bZ,‹‹‹‹(0,rY)›[‹0›]›[(@cf _ _ _ _ _ _ _ (@eM _) ‹(1,jm)› ‹(2,bZ)› (fun _ _=>rfl))]›[‹0›]›)›)››) :: (@ad _ _ _ (@aw _ _ _ _ (@fZ _ _ _ _ _ _ _ _ _ _ (@iQ _ (K) (by rfl)) ‹(4,ia)› (@gl _ _ _ (@fE _ (K) _ _ _ _ _ _ _ _ _ _ _ PySem.F.plainAttrs_list PySem.F.slot_list_index PySem.F.type_list_index (@Av _) ‹(3,dU)› ‹[‹(2,bZ)›]› (by rfl) (by rfl) (by rfl) (by rfl) (by rfl) (by rfl))) (@i4 _))))›››,?_⟩
  refine bD fun Q1 nA1=>⟨Nat.zero_le _,fun pl J1 n1=>nA1 _ _ ?_⟩
  refine bD fun Q2 nA2=>⟨Nat.zero_le _,fun tl J2 n2=>nA2 _ _ ?_⟩
  have fpl:H pl=none:=n1.fr
  have ftl:H tl=none:=n1.sm.free n2.fr
  have nlt:¬pl=tl:=fun z=>by have:=n2.fr;rw [←z,n1.at'] at this;cases this
  refine bz fun DB nB=>?_
  refine mZ (fun m σ H'=>eH fun (us:List aa) (ks:List Nat) (c:List Nat)=>σ=[some (.ref na),some (.ref O),some (af c),some (.ref pl),some (.ref tl)]∧m=ls.length - us.length∧H' pl=some (.lst ((us.map (·.bg)).map af))∧H' tl=some (.lst (aE ks))∧ks.map (fun k=>ts[k]?)=us.map some∧(∀t∈us,t.most≠(0,1))∧(∀t∈us,Ed st t)∧(us.map (·.bg)).Nodup∧us.map (·.bg)++[c]=l0 :: us.map (·.en)∧c∈ls∧ls.length≤st.la c+us.length∧(∀t∈us,t.bg∈ls)∧ah H H') ls.length ⟨[],[],l0,rfl,rfl,n2.sm _ _ n1.at',n2.at',rfl,(fun t h=>by cases h),(fun t h=>by cases h),List.nodup_nil,rfl,(bi.lf l0 elf).2,by rw [(bi.lf l0 elf).1];exact Nat.le_add_right _ _,(fun t h=>by cases h),n1.sm.trans n2.sm⟩ ?_
  rintro m σ H' ⟨us,ks,c,rfl,rfl,hpl,htl,e1,ho,he,nd,ch,hc,hla,sub,sm⟩ Q D' nD rD qT qF
  have lk:ks.length=us.length:=by have:=congrArg List.length e1;simpa using this
  have lus:us.length≤ls.length:=by
   have:=mq (xs:=us.map (·.bg)) (ys:=ls) nd fun x hx=>by
    obtain ⟨t,ht,rfl⟩:=List.mem_map.mp hx
    exact sub t ht
   rwa [List.length_map] at this
  refine ⟨_,rfl,_,rfl,pl,_,rfl,.inl (am.of hpl),rfl,CG _,_,rfl,?_⟩
  show Q (!sM (af c) _) _
  rw [Ir]
  cases hcn:(us.map (·.bg)).contains c with
  | false=>
   refine qT _ ?_
   have nc:c∉us.map (·.bg):=fun z=>by
    have:=List.elem_eq_true_of_mem z
    rw [List.contains] at hcn
    rw [this] at hcn
    cases hcn
   have nd2:(us.map (·.bg)++[c]).Nodup:=List.nodup_append.mpr ⟨nd,by simp,fun a ha b hb=>by
    rw [List.mem_singleton.mp hb]
    exact fun z=>nc (z▸ha)⟩
   have ll:us.length+1≤ls.length:=by
    have:=mq (xs:=us.map (·.bg)++[c]) (ys:=ls) nd2 fun x hx=>by
     rcases List.mem_append.mp hx with z | z
     ·obtain ⟨t,ht,rfl⟩:=List.mem_map.mp z
      exact sub t ht
     ·rw [List.mem_singleton.mp z];exact hc
    rwa [List.length_append,List.length_map,List.length_singleton] at this
   obtain ⟨kk,ek⟩:∃kk,st.on c=some kk:=Option.ne_none_iff_exists'.mp (bi.la1 c (by trivial))
   obtain ⟨t,et,op,rfl,le1,lt1,la1⟩:=bi.on c kk ek
   have tt:=tc t (List.mem_of_getElem? et)
   have edt:Ed st t:=⟨fH tt.g1 tt.fg.pos,le1,lt1⟩
   have vo:valD ko (Sum.inr (S t.bg))=some (.int (kk:Int)):=by rw [vO t.bg hc,ek];rfl
   obtain ⟨y,ey⟩:∃y,ys[kk]?=some y:=⟨_,List.getElem?_eq_getElem (by rw [ity.length,List.length_map];exact (List.getElem?_eq_some_iff.mp et).1)⟩
   obtain ⟨dy,edy,gy⟩:=ity.get ey
   rw [List.getElem?_map,et] at edy
   obtain rfl:kM t=dy:=Option.some.inj edy
   obtain ⟨o,om,og,op',rfl,hto,_,_,_⟩:=jR gy
   refine bz fun DC nC=>⟨_,rfl,.inl ⟨rfl,_,am.of hpl⟩,_,rfl,pl,_,_,rfl,rfl,hpl,by rw [List.length_map,List.length_map];trivial,fun J3 c3=>nC _ _ ?_⟩
   have sm3:ah H J3:=fun a u h=>c3.ol a u (fun z=>by rw [z,fpl] at h;cases h) (sm a u h)
   have htl3:=c3.ol tl _ (fun z=>nlt z.symm) htl
   refine bz fun DE nE=>⟨_,rfl,.inl ⟨rfl,_,am.of htl3⟩,_,rfl,_,rfl,O,ko,Sum.inr (S t.bg),_,rfl,rfl,sm3 _ _ hO,vo,tl,_,_,rfl,rfl,htl3,by rw [List.length_map];trivial,fun J4 c4=>nE _ _ ?_⟩
   have sm4:ah H J4:=fun a u h=>c4.ol a u (fun z=>by rw [z,ftl] at h;cases h) (sm3 a u h)
   refine ⟨_,rfl,na,_,_,_,rfl,rfl,ag.of (sm4 _ _ hna),rfl,_,rfl,_,rfl,O,ko,Sum.inr (S t.bg),_,rfl,rfl,sm4 _ _ hO,vo,ta,ys,_,_,rfl,rfl,ag.of (sm4 _ _ hta),cY ey,o,_,_,_,rfl,rfl,ag.of (sm4 _ _ hto),rfl,?_⟩
   refine nD (ls.length - (us.length+1)) _ _ (by trivial) ⟨us++[t],ks++[kk],t.en,rfl,by rw [List.length_append];rfl,?_,?_,?_,?_,?_,?_,?_,tt.e,?_,?_,sm4⟩
   ·rw [c4.ol pl _ nlt c3.at']
    simp
   ·rw [c4.at']
    simp [aE]
   ·rw [List.map_append,List.map_append,e1]
    simp [et]
   ·intro x hx
    rcases List.mem_append.mp hx with z | z
    ·exact ho x z
    ·rw [List.mem_singleton.mp z];exact op
   ·intro x hx
    rcases List.mem_append.mp hx with z | z
    ·exact he x z
    ·rw [List.mem_singleton.mp z];exact edt
   ·rw [List.map_append];exact nd2
   ·rw [List.map_append,List.map_append]
    show (us.map (·.bg)++[t.bg])++[t.en]=_
    rw [ch]
    rfl
   ·rw [List.length_append,List.length_singleton];trivial
   ·intro x hx
    rcases List.mem_append.mp hx with z | z
    ·exact sub x z
    ·rw [List.mem_singleton.mp z];exact tt.b
  | true=>
   refine qF _ (nB _ _ ?_)
   obtain ⟨j,hj⟩:=List.getElem?_of_mem (List.contains_iff_mem.mp hcn)
   have lj:j<us.length:=by have:=(List.getElem?_eq_some_iff.mp hj).1;rwa [List.length_map] at this
   refine ⟨_,rfl,_,rfl,.inl ⟨rfl,_,am.of hpl⟩,_,rfl,pl,_,c,j,rfl,rfl,hpl,by rw [List.length_map];trivial,hj,nd,_,rfl,tl,_,rfl,am.of htl,fun r J3 n3=>?_⟩
   have rk:=E6 tk bi.pos e1 ho he nd ch hj
   refine k (ks.drop j) (us.drop j) r J3 rk (by rw [List.length_drop];trivial) (sm.trans n3.sm) (sm.free n3.fr) ?_
   rw [n3.at',Ax (by rw [List.length_map];trivial)]
   simp only [aE,List.map_drop]
end
end K13
namespace K13
open PySem L2
set_option maxHeartbeats 4000000
section
variable {P:Program}{w:World}{K:PySem.W.Frag}{mg:Str→Option Value}{base:Heap}
theorem zS {J:It}{n:Nat}{H1:Hp}{D:Addr}{σc:St}{g:TG}{tk tv:TE}{Q:VK} (Pv:Nat→Hp→List (aJ×V)→Prop) (hz:n≤4000) (h0:Pv 0 (aD H1 D (.dK [])) [])
 (hD:∀i H ys,Pv i H ys→H D=some (.dK ys)∧ys.length≤i) (hgo:∀i H ys,i<n→Pv i H ys→J.go i H) (hst:∀H ys,Pv n H ys→J.stop n H)
 (hs:∀i H ys x H',i<n→Pv i H ys→J.yld i H x H'→g x σc H' fun σ2 H2=>jV σc σ2∧tk σ2 H2 fun kv H4=>∃k,kv=f9 k∧tv σ2 H4 fun y H5=>H5 D=some (.dK ys)∧Pv (i+1) (aD H5 D (.dK (dz ys k y))) (dz ys k y))
 (hd:∀H ys,Pv n H ys→Q (.ref D) H):Ad J σc g tT tk tv D H1 Q:=by
 refine ⟨fun i m H ys=>m=n - i∧i≤n∧Pv i H ys,⟨n,by simp,Nat.zero_le _,h0⟩,?_⟩
 rintro i m H ys ⟨rfl,hi,p⟩
 obtain ⟨q1,q2⟩:=hD i H ys p
 refine ⟨q1,?_⟩
 by_cases hlt:i<n
 ·refine .inr ⟨hgo i H ys hlt p,by rw [sizeLine_eq];trivial,Pv (i+1),fun H' ys' p'=>⟨n - (i+1),by trivial,rfl,hlt,p'⟩,fun x H' y=>?_⟩
  have e:=hs i H ys x H' hlt p y
  have q:(fun (σ2:St) (H2:Hp)=>jV σc σ2∧tT σ2 H2 fun b H3=>if b=true then tk σ2 H3 fun kv H4=>∃k,kv=f9 k∧tv σ2 H4 fun y H5=>H5 D=some (.dK ys)∧Pv (i+1) (aD H5 D (.dK (dz ys k y))) (dz ys k y) else Pv (i+1) H3 ys) =
   (fun σ2 H2=>jV σc σ2∧tk σ2 H2 fun kv H4=>∃k,kv=f9 k∧tv σ2 H4 fun y H5=>H5 D=some (.dK ys)∧Pv (i+1) (aD H5 D (.dK (dz ys k y))) (dz ys k y)):=by
   funext σ2 H2
   unfold tT
   dsimp only
   rw [if_pos rfl]
  rw [q]
  exact e
 ·have e:i=n:=by trivial
  subst e
  exact .inl ⟨hst H ys p,hd H ys p⟩
inductive Ep (vs:List V) (H:Hp) (Q:VK):Prop
 | mk (v:V) (ls:List (List Nat)) (ts:List aa) (h0:vs=[v]) (h1:aU ED H v (dD ls ts)) (h2:(∀t∈ts,fK ls t)) (h3:ts.length≤24) (h4:1≤ls.length) (h5:ls.length≤10) (h6:((∃m,m<ls.length∧(dg ts (m+1)).lf=none∧∀H',ah H H'→Q .non H')∨((∀m,m<ls.length→(dg ts (m+1)).lf≠none)∧∀(R:List Nat) (us:List aa) (r:Addr) (H':Hp),fA ts R us→R.length≤10→ah H H'→H r=none→H' r=some (.lst (aE R))→Q (.ref r) H')))
def FV:Sp:=fun vs H Q _=>Ep  vs H Q
theorem l8 (T:Txt K mg):aZ P w K mg base CX0 5 T.gaining_round_.f T.gaining_round_.d ["net"] FV:=by
 have G_lift_once:=xz (P:=P) (w:=w) (base:=base) T
 have G_round_ahead:=uH (P:=P) (w:=w) (base:=base) T
 refine T.gaining_round_.F.ok cW (fun vs H Q E h=>?_) (fun cdv A outer s H vs Q E hr h=>?_)
 ·obtain ⟨v,ls,ts,rfl,_⟩:=h
  rfl
 ·obtain ⟨v,ls,ts,rfl,hv,tc,h24,l1,l10,k⟩:=h
  obtain ⟨na,pa,ta,ys,rfl,hna,hpa,hta,ity⟩:=cX hv
  refine ⟨_,‹(@x4 _ _ _ _ _ _ _ _ (["place"]) (1) ([]) _ _ _ _ _ (1) _ _ _ cW.nd rfl iH (by kernel_rfl) rfl (by kernel_rfl) (@tD _ (K) _ _ _ ‹‹(0,eh)›[‹0›]› (by rfl)) (fun _ _ _ _ _ _=>(@bo _ _ (0) _ (@cE _ (by kernel_rfl)) rfl (Or.inl (by kernel_rfl)) (by first | exact .inl rfl | exact .inr rfl | assumption))) (fun _ _ _ _ _ _=>@cu _) (fun _ _ _ _ _ _=>‹(0,())›) (fun _ _ _ _ _ _=>(@aG _ _ _ _ _ ‹[‹0›,‹0›]›)) (by intro _;rfl)) :: ‹‹(2,cW.nd,fv,(@xT _ _))› :: ‹‹(3,cW.nd,dc,(@b8 _ _ _))› :: ‹(@fM _ _ _ _ _ _ _ _ PassesOwn.never rfl (@eX _ _ _ _ _ _ oz T.b_range ‹[(@ao _ _ _ _ _ _ _ _ _ (@dP _ (K) (by rfl)) qq T.b_len (@aX) ‹[‹‹(0,eh)›[‹0›]›]› (by decide) (by decide) (by rfl) (by rfl))]› (by rfl)) ‹(4,cW.nd,o5)› ‹‹(3,cW.nd,dc,‹(G_lift_once,k6,T.lift_once_,‹[‹(0,eh)›,‹(1,iH)›,‹(2,fv)›]›)›)› :: (@ad _ _ _ (@be _ _ _ _ _ _ _ _ (@aq _ _ _ _ _ _ _ _ (@jr _) ‹(3,dc)› (@b8 _ _ _) (@au _ _ (by decide) (by decide))) (@ad _ _ _ (@aw _ _ _ _ (@b8 _ _ _))) (@aN _)))› (by intro _;rfl)) :: (@ad _ _ _ (@aw _ _ _ _ ‹(G_round_ahead,kc,T.round_ahead_,‹[‹(0,eh)›,‹(2,fv)›,‹(3,dc)›]›)›))››››,?_⟩
  refine bD fun Q1 nA1=>⟨_,rfl,na,_,_,_,rfl,rfl,ag.of hna,rfl,pa,rfl,⟨_,ag.of hpa⟩,fun W hW=>zS (n:=(ls.map af).length) (fun i H' kv=>H' W=some (.dK kv)∧kv.length≤i∧(∀(j:Nat) l,j<i→ls[j]?=some l→∃o,valD kv (Sum.inr (S l))=some (.ref o)∧H' o=some (fr (1,1)))∧ah H H') (by rw [List.length_map];trivial) ⟨ar,Nat.le_refl _,(fun j l h=>by trivial),ah.new hW⟩ ?_ ?_ ?_ ?_ ?_⟩
  ·rintro i H' kv ⟨e1,e2,_⟩
   exact ⟨e1,e2⟩
  ·rintro i H' kv hi ⟨_,_,_,sm⟩
   exact ⟨_,_,ag.of (sm _ _ hpa),List.getElem?_eq_getElem hi⟩
  ·rintro H' kv ⟨_,_,_,sm⟩
   exact ⟨_,ag.of (sm _ _ hpa),Nat.le_refl _⟩
  ·rintro i Ha kv x Hb hi ⟨eW,lW,vW,sm⟩ ⟨rfl,ex⟩
   have exi:=ex _ (ag.of (sm _ _ hpa))
   rw [List.length_map] at hi
   rw [List.getElem?_map,List.getElem?_eq_getElem hi] at exi
   obtain rfl:af ls[i]=x:=Option.some.inj exi
   refine ⟨gK,_,rfl,Sum.inr (S ls[i]),rfl,(by show 2≤10000;decide),fun q J n1=>⟨n1.sm _ _ eW,ar,?_,fun j l hj el=>?_,cZ hW (sm.trans n1.sm)⟩⟩
   ·exact Nat.le_trans (pN _ _ _) (by trivial)
   ·have tupU:∀{a:Addr}{us:List V},J a=some (.tup us)→aD J W (.dK (dz kv (Sum.inr (S ls[i])) (.ref q))) a=some (.tup us):=fun {a us} h=>by
     rw [aj (fun z=>by rw [z,n1.sm _ _ eW] at h;cases h)];exact h
    rw [kC]
    by_cases c:l=ls[i]
    ·rw [c,if_pos rfl]
     exact ⟨q,rfl,tupU n1.at'⟩
    ·rw [if_neg (qr c)]
     have hji:j<i:=by
      by_cases z:j=i
      ·subst z
       rw [List.getElem?_eq_getElem hi] at el
       exact absurd (Option.some.inj el).symm c
      ·trivial
     obtain ⟨o,v',h'⟩:=vW j l hji el
     exact ⟨o,v',tupU (n1.sm _ _ h')⟩
  rintro H1 kv ⟨eW,lW,vW,s1⟩
  rw [List.length_map] at lW vW
  refine nA1 _ _ ?_
  refine bD fun Q2 nA2=>fun O H2 n2=>nA2 _ _ ?_
  have nWO:¬W=O:=fun z=>by rw [←z] at n2;have:=n2.fr;rw [eW] at this;cases this
  have fO:H O=none:=s1.free n2.fr
  refine bD fun Q3 nA3=>nA3 _ _ ?_
  have s2:=s1.trans n2.sm
  have dw0:DW H2 W ls (fun _=>(1,1)) 10:=⟨kv,n2.sm _ _ eW,by trivial,fun l hl=>by
   obtain ⟨j,hj⟩:=List.getElem?_of_mem hl
   obtain ⟨o,v',h'⟩:=vW j l (List.getElem?_eq_some_iff.mp hj).1 hj
   exact ⟨o,v',n2.sm _ _ h'⟩⟩
  have same_of:∀{J:Hp},cr W O H2 J→ah H J:=fun f a o h=>f a o (fun z=>by rw [z,hW] at h;cases h) (fun z=>by rw [z,fO] at h;cases h) (s2 _ _ h)
  refine zz fun DB nB rB=>?_
  refine ⟨_,rfl,na,_,_,_,rfl,rfl,ag.of (s2 _ _ hna),rfl,pa,_,rfl,.inr (ag.of (s2 _ _ hpa)),_,rfl,by trivial,by rw [List.length_map];trivial,?_⟩
  rw [List.length_map,Int.toNat_natCast]
  refine ka (fun i σ H'=>∃(v4:Option V),σ=[some (.ref na),some (.ref W),some (.ref O),some (ug (dg ts i).lf),v4]∧(∀m,m<i→(dg ts (m+1)).lf≠none)∧DW H' W ls (dg ts i).ω (10+24*i)∧DO H' O ls (dg ts i).on (10+24*i)∧(∀l∈ls,Gb (1+144*i) (1+144*i) ((dg ts i).ω l)∧1≤((dg ts i).ω l).1)∧cr W O H2 H') ?_ ?_ ?_
  ·exact ⟨_,rfl,(fun m h=>by trivial),dw0,⟨[],n2.at',by simp,fun l hl=>rfl⟩,(fun l hl=>⟨zf,(by show (1:Int)≤1;decide)⟩),fun _ _ _ _ h=>h⟩
  ·rintro i σ J hi ⟨v4,rfl,hno,dw,do',gω,f2⟩
   have hvJ:aU ED J (.ref na) (dD ls ts):=hv.mono (same_of f2).toE
   refine Hd (t:=kG _ _) fun DC nC rC=>?_
   refine bD fun Q4 nA4=>⟨_,rfl,_,rfl,_,rfl,.ref na,W,O,ls,ts,dg ts i,i+1,10+24*i,1+144*i,rfl,hvJ,tc,by trivial,nWO,dw,do',by trivial,gω,by trivial,fun J2 f3 dw2 do2 gω2=>nA4 _ _ ?_⟩
   have es:j8 (i+1) ts (dg ts i)=dg ts (i+1):=rfl
   rw [es] at dw2 do2 gω2 ⊢
   have f4:cr W O H2 J2:=fun a o h1 h2 h=>f3 a o h1 h2 (f2 a o h1 h2 h)
   cases e:(dg ts (i+1)).lf with
   | none=>
    refine ⟨_,rfl,rfl,_,rfl,bh (rC _ _ (rB _ _ ?_))⟩
    rcases k with ⟨m,_,_,k⟩ | ⟨k,_⟩
    ·exact k J2 (same_of f4)
    ·exact absurd e (k i hi)
   | some l=>
    refine ⟨_,rfl,rfl,_,rfl,aM (nC _ _ ?_)⟩
    obtain ⟨ko2,hO2,lO2,vO2⟩:=do2
    obtain ⟨kv2,hW2,lW2,vW2⟩:=dw2
    refine ⟨_,by rw [e];rfl,fun m hm=>?_,⟨kv2,hW2,by trivial,vW2⟩,⟨ko2,hO2,by trivial,vO2⟩,(fun l hl=>⟨(gω2 l hl).1.mono (by trivial) (by trivial),(gω2 l hl).2⟩),f4⟩
    by_cases c:m=i
    ·rw [c,e];intro z;cases z
    ·exact hno m (by trivial)
  ·rintro σ J ⟨v4,rfl,hno,dw,do',gω,f2⟩
   rcases k with ⟨m,hm,hm',_⟩ | ⟨_,k⟩
   ·exact absurd hm' (hno m hm)
   obtain ⟨n',en⟩:∃n',ls.length=n'+1:=⟨ls.length - 1,by trivial⟩
   obtain ⟨l0,e0⟩:=Option.ne_none_iff_exists'.mp (hno n' (by trivial))
   have e1:(dg ts ls.length).lf=some l0:=by rw [en];exact e0
   refine nB _ _ ?_
   have sJ:=same_of f2
   have hvJ:aU ED J (.ref na) (dD ls ts):=hv.mono sJ.toE
   refine ⟨_,rfl,_,rfl,_,rfl,.ref na,O,ls,ts,dg ts ls.length,l0,_,by rw [e1];rfl,hvJ,tc,l10,do',BI.st (fun t ht=>(tc t ht).tok) _,e1,fun R us r H' rk lR s' fr' hr'=>?_⟩
   exact k R us r H' rk lR (sJ.trans s') (sJ.free fr') hr'
end
end K13
namespace K13
open PySem L2
section
variable {P:Program}{w:World}{K:PySem.W.Frag}{mg:Str→Option Value}{base:Heap}
theorem JB {H H1 H2:Hp}{y C dx:Addr}{fs:List (Str×V)} (fr:H y=none) (s:ah H H1) (hd:H1 dx=none) (ne:dx≠y) (e:H2=aD (aD H1 dx (.xd fs)) y (f6 y C (some dx))):ah H H2∧Jo H2 y C fs∧∀a o,H1 a=some o→a≠y→H2 a=some o:=by
 subst e
 have k:∀a o,H1 a=some o→a≠y→aD (aD H1 dx (.xd fs)) y (f6 y C (some dx)) a=some o:=fun a o h1 ny=>by
  have nd:a≠dx:=fun z=>by rw [z,hd] at h1;cases h1
  rw [aj ny,aj nd]
  exact h1
 exact ⟨fun a o h=>k a o (s _ _ h) (fun z=>by rw [z,fr] at h;cases h),.inr ⟨dx,ar,by rw [aj ne];exact ar⟩,k⟩
theorem Jz {f:Str}{v:V}:([(f,v)]:List (Str×V)).lookup f=some v:=by simp [List.lookup]
inductive Dw (K:PySem.W.Frag) (f:Str) (vs:List V) (H:Hp) (Q:VK):Prop
 | mk (y C l:Addr) (ns:List Int) (ini:Option Value) (h0:vs=[.ref y,.ref l]) (h1:H y=some (f6 y C none)) (h2:bO K C ini=true) (h3:gB K C f=true) (h4:H l=some (.lst (ns.map V.int))) (h5:∀p dx H1 H',Nw H p (.lst (ns.map V.int)) H1→H1 dx=none→dx≠y→H'=aD (aD H1 dx (.xd [(f,.ref p)])) y (f6 y C (some dx))→Q .non H')
def Gd (K:PySem.W.Frag) (f:Str):Sp:=fun vs H Q _=>Dw K f vs H Q
theorem xj {E:Addr→Prop}{H:Hp}:∀ns:List Int,aI E H (ns.map V.int) (ns.map PyData.int)
 | []=>.nil
 | i :: r=>.cons (.int i) (xj r)
theorem zt (T:Txt K mg):aZ P w K mg base CX0 1 T.f_Gaining__init T.d_Gaining__init ["self", "ties"] (Gd K "ties"):=by
 refine T.F_Gaining__init.ok sT (fun vs H Q E h=>?_) (fun cdv A outer s H vs Q E hr h=>?_)
 ·obtain ⟨y,C,l,ns,ini,rfl,_⟩:=h
  rfl
 ·obtain ⟨y,C,l,ns,ini,rfl,hy,hx,hs,hl,k⟩:=h
  refine ⟨_,‹(@fJ _ _ _ _ (@Cp _ _ _ _ _ _ _ _ _ _ T.xb_GainError lA T.m_GainError ‹[‹(0,jh)›,(@dh _ _ _ _)]› (by decide) (by rfl) (by rfl) (by rfl)) (by rfl)) :: (@ad _ _ _ (@DP _ _ _ _ _ _ _ _ ‹(0,jh)› (@fu _ _ _ _ _ _ _ _ (@b9 _ _ _ (@ao _ _ _ _ _ _ _ _ _ (@bV _ (K) (by rfl)) kJ T.b_isinstance (@ax) ‹[‹(1,fU)›,(@dR _ _ _ _ jy T.b_list (@cH) (by decide) (by decide))]› (by decide) (by decide) (by rfl) (by rfl)) (by intro _;rfl)) (@dX _ _ _ _ _ _ _ _ _ (@wC _ (K) (by rfl)) jy T.b_list (@cH) ‹[‹(1,fU)›]› (by decide) (by decide) (by rfl) (by rfl)) ‹(1,fU)›) rfl))›,?_⟩
  have hd:aU (fun _=>False) H (.ref l) (.list (ns.map PyData.int)):=.lst hl id (xj ns)
  refine ⟨_,rfl,y,_,C,ini,rfl,hy,hx,_,rfl,_,_,_,_,rfl,hd.ty,gY _,_,rfl,bh ⟨_,rfl,l,_,rfl,.inl (am.of hl),fun p H1 n1=>?_⟩⟩
  exact ⟨_,rfl,y,C,rfl,n1.sm _ _ hy,hs,fun dx H' h1 h2 h3=>k p dx H1 H' n1 h1 h2 h3⟩
end
end K13
namespace K13
open PySem L2
section
variable {P:Program}{w:World}{K:PySem.W.Frag}{mg:Str→Option Value}{base:Heap}
def wE (T:Txt K mg):List Addr:=[T.x_BadNumber,T.x_Taken,T.x_NoPlace,T.x_NoTie,T.x_AsItIs,T.x_NoEnds,T.x_Over,T.x_TooMuch,T.x_Gaining,T.x_NotSoMuch,T.x_Short,T.x_Lacking,T.x_BadRow,T.x_BadSheet]
theorem Txt.kn (T:Txt K mg):rL K (wE T) T.x_GainError=true:=T.kin
end
end K13
namespace K13
open PySem L2
set_option maxHeartbeats 4000000
theorem kB {H:Hp}{ys:List V}{ts:List aa}{k:Nat}{t:aa} (ity:aI ED H ys (ts.map kM)) (et:ts[k]?=some t):kQ fun o om og op=>ys[k]?=some (.ref o)∧H o=some (.tup [.str (S t.bg),.str (S t.en),.ref om,.ref og,.ref op])∧H om=some (fr t.most)∧H og=some (fr t.gain)∧H op=some (fr t.price):=by
 obtain ⟨y,ey⟩:∃y,ys[k]?=some y:=⟨_,List.getElem?_eq_getElem (by rw [ity.length,List.length_map];exact (List.getElem?_eq_some_iff.mp et).1)⟩
 obtain ⟨dy,edy,gy⟩:=ity.get ey
 rw [List.getElem?_map,et] at edy
 obtain rfl:kM t=dy:=Option.some.inj edy
 obtain ⟨o,om,og,op,rfl,h1,h2,h3,h4⟩:=jR gy
 exact ⟨o,om,og,op,ey,h1,h2,h3,h4⟩
theorem y6 (us:List aa) (t:aa):bf (us++[t])=bf us*gR t:=by
 induction us with
 | nil=>show gR t*1=1*gR t;rw [Rat.mul_one,Rat.one_mul]
 | cons u r ih=>show gR u*bf (r++[t])=gR u*bf r*gR t;rw [ih,Rat.mul_assoc]
theorem Ix {k:Nat}{xs:List Nat} (h:k∈xs):sM (V.int (k:Int)) (aE xs)=true:=by
 unfold sM
 rw [List.any_eq_true]
 exact ⟨_,List.mem_map_of_mem h,by show ((k:Int)==(k:Int))=true;exact beq_self_eq_true _⟩
theorem C8 (xs:List Nat):(aE xs).all j6=true:=by
 rw [List.all_eq_true]
 intro v hv
 obtain ⟨l,_,rfl⟩:=List.mem_map.mp hv
 rfl
theorem tf:∀(ls:List (List Nat)),PyData.eqvAll (ls.map fun l=>PyData.str (S l)) (ls.map fun l=>PyData.str (S l))=true
 | []=>by simp [PyData.eqvAll]
 | l :: r=>by simp [PyData.eqvAll,PyData.eqv,tf r]
theorem zI {α:Type} (n:Nat) (b:α):(List.range n).map (fun _=>b)=List.replicate n b:=by
 rw [List.map_const',List.length_range]
theorem fA.get {ts:List aa}{R:List Nat}{us:List aa} (h:R.map (fun k=>ts[k]?)=us.map some) {i k:Nat} (e:R[i]?=some k):∃t,us[i]?=some t∧ts[k]?=some t:=by
 have:=congrArg (fun z=>z[i]?) h
 simp only [List.getElem?_map,e,Option.map_some] at this
 cases hu:us[i]? with
 | none=>rw [hu] at this;cases this
 | some t=>rw [hu] at this;exact ⟨t,rfl,Option.some.inj this⟩
theorem l7 {ls:List (List Nat)}{ts:List aa}{k:Nat}{t:aa} (tc:∀t∈ts,fK ls t) (et:ts[k]?=some t):k∈gF ts ts.length↔t.most≠(0,1):=by
 unfold gF
 rw [List.mem_filter]
 have e:AW ts k=decide (0<t.most.1):=by unfold AW;rw [et];rfl
 rw [e,decide_eq_true_iff,Cr (tc t (List.mem_of_getElem? et))]
 exact ⟨fun h=>h.2,fun h=>⟨List.mem_range.mpr (List.getElem?_eq_some_iff.mp et).1,h⟩⟩
section
variable {P:Program}{w:World}{K:PySem.W.Frag}{mg:Str→Option Value}{base:Heap}
inductive FI (vs:List V) (H:Hp) (Q:VK):Prop
 | mk (v:V) (a:Addr) (ls:List (List Nat)) (ts:List aa) (R:List Nat) (us:List aa) (h0:vs=[v,.ref a]) (h1:aU ED H v (dD ls ts)) (h2:(∀t∈ts,fK ls t)) (h3:H a=some (.lst (aE R))) (h4:R.map (fun k=>ts[k]?)=us.map some) (h5:R.length≤12) (h6:∀(g:KM.Fra) (q:Addr) (H':Hp),Gb 80 80 g→KM.Rd g→KM.vl g=bf us→ah H H'→H' q=some (fr g)→Q (.ref q) H')
def Hh:Sp:=fun vs H Q _=>FI  vs H Q
theorem lJ (T:Txt K mg):aZ P w K mg base CX0 3 T.l_gain_of_.f T.l_gain_of_.d ["_law_net", "_law_way"] Hh:=by
 have G_l_product:=my (P:=P) (w:=w) (base:=base) T
 refine T.l_gain_of_.F.ok jt (fun vs H Q E h=>?_) (fun cdv A outer s H vs Q E hr h=>?_)
 ·obtain ⟨v,a,ls,ts,R,us,rfl,_⟩:=h
  rfl
 ·obtain ⟨v,a,ls,ts,R,us,rfl,hv,tc,ha,hR,l12,k⟩:=h
  obtain ⟨na,pa,ta,ys,rfl,hna,hpa,hta,ity⟩:=cX hv
  have lR:R.length=us.length:=by have:=congrArg List.length hR;simpa using this
  refine ⟨_,‹‹(2,jt.nd,eG,(@aG _ _ _ _ _ ‹[‹0›,‹0›]›))› :: ‹(@fM _ _ _ _ _ _ _ _ PassesOwn.never rfl (@cx _ (K) _ _ _ ‹(1,rX)› (by rfl)) ‹(3,jt.nd,jq)› (@ad _ _ _ ‹(2,jt.nd,eG,‹(G_l_product,oA,T.l_product_,‹[‹(2,eG)›,‹‹‹‹(0,sB)›[‹0›]›[‹(3,jq)›]›[‹0›]›]›)›)›) (by intro _;rfl)) :: (@ad _ _ _ (@aw _ _ _ _ ‹(2,eG)›))››,?_⟩
  refine bD fun Q1 nA1=>⟨(by show 2≤10000;decide),fun o0 H1 n1=>nA1 _ _ ?_⟩
  refine bz fun DB nB=>?_
  refine ⟨_,rfl,a,rfl,⟨_,am.of (n1.sm _ _ ha)⟩,lK (xs:=aE R) (fun j σ H'=>eH fun (o:Addr) (v3:Option V) (g:KM.Fra)=>σ=[some (.ref na),some (.ref a),some (.ref o),v3]∧ah H H'∧H' o=some (fr g)∧Gb (1+6*j) (1+6*j) g∧KM.Rd g∧KM.vl g=bf (us.take j)) ⟨o0,_,(1,1),rfl,n1.sm,n1.at',zf,⟨by decide,by decide⟩,by show KM.vl (1,1)=1;decide +kernel⟩ ?_ ?_ ?_⟩
  ·rintro j σ H' _ ⟨_,_,_,_,sm,_⟩
   exact am.of (sm _ _ ha)
  ·rintro j x σ J hx ⟨o,v3,g,rfl,sm,ho,gg,rg,eg⟩
   rw [List.getElem?_map] at hx
   obtain ⟨i,ei,rfl⟩:=Option.map_eq_some_iff.mp hx
   obtain ⟨t,eu,et⟩:=fA.get hR ei
   have tt:=tc t (List.mem_of_getElem? et)
   have lj:j<R.length:=(List.getElem?_eq_some_iff.mp ei).1
   obtain ⟨o2,om,og,op,ey,h1,h2,h3,h4⟩:=kB ity et
   refine ⟨_,rfl,_,rfl,na,_,_,_,rfl,rfl,ag.of (sm _ _ hna),rfl,_,rfl,ta,_,_,_,rfl,rfl,ag.of (sm _ _ hta),cY ey,o2,_,_,_,rfl,rfl,ag.of (sm _ _ h1),rfl,o,og,g,t.gain,_,_,_,_,rfl,ho,sm _ _ h3,gg,tt.fg,by trivial,by trivial,by decide,by decide,(fun z=>by cases z),fun q J2 n2=>?_⟩
   refine ⟨q,_,KM.lTim g t.gain,rfl,sm.trans n2.sm,n2.at',gg.tim tt.fg (by trivial) (by trivial),KM.Rd.low (Int.ne_of_gt (Int.mul_pos (by have:=rg.1;trivial) (by have:=tt.fg.pos;trivial))),?_⟩
   rw [List.take_succ,eu]
   show _=bf (us.take j++[t])
   rw [y6,←eg]
   exact KM.vl_tim (by have:=gg.pos;trivial) (by have:=tt.fg.pos;trivial)
  ·rintro σ J ⟨o,v3,g,rfl,sm,ho,gg,rg,eg⟩
   rw [show (aE R).length=us.length by rw [List.length_map];exact lR] at gg eg
   rw [List.take_length] at eg
   exact nB _ _ ⟨_,rfl,k g o J (gg.mono (by trivial) (by trivial)) rg eg sm ho⟩
end
end K13
namespace K13
open PySem L2
set_option maxHeartbeats 4000000
theorem HM (ls:List (List Nat)):(ls.map fun l=>(Sum.inr (S l):aJ)).map f9=ls.map af:=by
 rw [List.map_map];rfl
theorem Hs {ls:List (List Nat)} (h:ls.Nodup):(ls.map fun l=>(Sum.inr (S l):aJ)).Nodup:=by
 rw [List.nodup_iff_pairwise_ne,List.pairwise_map]
 refine List.Pairwise.imp (fun {a b} hab z=>?_) (List.nodup_iff_pairwise_ne.mp h)
 injection z with z
 exact hab (j7 z)
theorem rz {ls:List (List Nat)} (h:∀l∈ls,ir l):Wt (.list (ls.map fun l=>PyData.str (S l))) (1*ls.length+1) 1:=.list (oi (m:=1) (k:=0) fun l hl=>.str (mR (h l hl)))
theorem rT {H:Hp}{a:Addr}{ls:List (List Nat)} (h:H a=some (.lst (ls.map af))):aU (fun _=>False) H (.ref a) (.list (ls.map fun l=>PyData.str (S l))):=.lst h (fun z=>z) ((xH ls).narrow fun _ _=>trivial)
section
variable {P:Program}{w:World}{K:PySem.W.Frag}{mg:Str→Option Value}{base:Heap}
inductive Fi (vs:List V) (H:Hp) (Q:VK):Prop
 | mk (v:V) (a:Addr) (ls:List (List Nat)) (ts:List aa) (R:List Nat) (us:List aa) (h0:vs=[v,.ref a]) (h1:aU ED H v (dD ls ts)) (h2:(∀t∈ts,fK ls t)) (h3:ts.length≤40) (h4:(∀l∈ls,ir l)) (h5:H a=some (.lst (aE R))) (h6:fA ts R us) (h7:R.length≤10) (h8:∀H':Hp,ah H H'→Q (.bl true) H')
def GK:Sp:=fun vs H Q _=>Fi  vs H Q
theorem vT (T:Txt K mg):aZ P w K mg base CX0 4 T.l_is_round_.f T.l_is_round_.d ["_law_net", "_law_thing"] GK:=by
 have G_l_opened:=mY (P:=P) (w:=w) (base:=base) T
 have G_l_gain_of:=lJ (P:=P) (w:=w) (base:=base) T
 have G_l_above:=pT (P:=P) (w:=w) (base:=base) T
 refine T.l_is_round_.F.ok p9 (fun vs H Q E h=>?_) (fun cdv A outer s H vs Q E hr h=>?_)
 ·obtain ⟨v,a,ls,ts,R,us,rfl,_⟩:=h
  rfl
 ·obtain ⟨v,a,ls,ts,R,us,rfl,hv,tc,h40,nc,ha,rk,l10,k⟩:=h
  obtain ⟨na,pa,ta,ys,rfl,hna,hpa,hta,ity⟩:=cX hv
  have lR:R.length=us.length:=by have:=congrArg List.length rk.at';simpa using this
  have lN:(aE R).length=R.length:=List.length_map ..
  refine ⟨_,‹(@be _ _ _ _ _ _ _ _ (@PW.pt _ _ _ (@dO _ _ _ _ _ _ _ (@gW _ _ _ _ (@b9 _ _ _ (@ao _ _ _ _ _ _ _ _ _ (@bV _ (K) (by rfl)) mK T.b_isinstance (@ax) ‹[‹(1,bK)›,(@dR _ _ _ _ sh T.b_list (@cH) (by decide) (by decide))]› (by decide) (by decide) (by rfl) (by rfl)) (by intro _;rfl))) (@dO _ _ _ _ _ _ _ (@aq _ _ _ _ _ _ _ _ (@lh _) (@ao _ _ _ _ _ _ _ _ _ (@dP _ (K) (by rfl)) iZ T.b_len (@aX) ‹[‹(1,bK)›]› (by decide) (by decide) (by rfl) (by rfl)) ‹0› (@au _ _ (by decide) (by decide))) (@d9 _ _ _ _ (@gW _ _ _ _ (@b9 _ _ _ (@ao _ _ _ _ _ _ _ _ _ (@zF _ (K) rfl (by rfl)) sY T.b_all (@o6) ‹[(@cV _ _ _ _ _ _ _ (["_law_number", "_law_net"]) (1) ([0]) _ _ _ _ rfl (by kernel_rfl) (@cx _ (K) _ _ _ ‹(1,bK)› (by rfl)) (fun _ _ _ _ _ _=>(@bo _ _ (0) _ (@cE _ (by kernel_rfl)) rfl (Or.inl (by kernel_rfl)) (by first | exact .inl rfl | exact .inr rfl | assumption))) (fun _ _ _ _ _ _=>@cu _) (fun _ _ _ _ _ _=>(@cI _ _ _ _ _ _ _ _ (@ES _ (K) (by rfl)) ‹(0,())› (@iq _ _ _ _ _ _ _ _ _ _ _ _ _ _ _ _ G_l_opened (hr.mono (by decide)) (by show _=_;kernel_rfl) T.l_opened_.m T.l_opened_.F.kp T.l_opened_.B .nil (@rA _) ‹[‹(1,0)›]› (by decide) (by rfl) (by rfl)) rfl)) (by intro _;rfl))]› (by decide) (by decide) (by rfl) (by rfl)) (by intro _;rfl))))))) (@ad _ _ _ (@aw _ _ _ _ (@ij _ _ _ _))) (@aN _)) :: ‹(@be _ _ _ _ _ _ _ _ (@b9 _ _ _ (@ao _ _ _ _ _ _ _ _ _ (@C1 _ (K) rfl (by rfl)) sZ T.b_any (@ur) ‹[(@cV _ _ _ _ _ _ _ (["_law_number"]) (1) ([]) _ _ _ _ rfl (by kernel_rfl) (@cx _ (K) _ _ _ ‹(1,bK)› (by rfl)) (fun _ _ _ _ _ _=>(@bo _ _ (0) _ (@cE _ (by kernel_rfl)) rfl (Or.inl (by kernel_rfl)) (by first | exact .inl rfl | exact .inr rfl | assumption))) (fun _ _ _ _ _ _=>@cu _) (fun _ _ _ _ _ _=>(@ao _ _ _ _ _ _ _ _ _ (@bV _ (K) (by rfl)) (by show _=_;kernel_rfl) T.b_isinstance (@ax) ‹[‹(0,())›,(@dR _ _ _ _ (by show _=_;kernel_rfl) T.b_bool (@ii) (by decide) (by decide))]› (by decide) (by decide) (by rfl) (by rfl))) (by intro _;rfl))]› (by decide) (by decide) (by rfl) (by rfl)) (by intro _;rfl)) (@ad _ _ _ (@aw _ _ _ _ (@ij _ _ _ _))) (@aN _)) :: ‹(@sD _ _ _ _ _ _ _ (["_law_number", "_law_net"]) (1) ([0]) _ _ _ _ (2) _ _ _ p9.nd rfl cw (by kernel_rfl) rfl (by kernel_rfl) (@cx _ (K) _ _ _ ‹(1,bK)› (by rfl)) (fun _ _ _ _ _ _=>(@bo _ _ (0) _ (@cE _ (by kernel_rfl)) rfl (Or.inl (by kernel_rfl)) (by first | exact .inl rfl | exact .inr rfl | assumption))) (fun _ _ _ _ _ _=>@cu _) (fun _ _ _ _ _ _=>‹‹‹‹(1,0)›[‹0›]›[‹(0,())›]›[‹0›]›) (by intro _;rfl)) :: ‹(@be _ _ _ _ _ _ _ _ (@PW.pt _ _ _ (@dO _ _ _ _ _ _ _ (@aq _ _ _ _ _ _ _ _ (@jo _) (@vP _ (K) _ _ _ _ _ _ ‹(2,cw)› rfl iZ T.b_len tG T.b_set (by rfl) (by rfl)) (@ao _ _ _ _ _ _ _ _ _ (@dP _ (K) (by rfl)) iZ T.b_len (@aX) ‹[‹(2,cw)›]› (by decide) (by decide) (by rfl) (by rfl)) (@au _ _ (by decide) (by decide))) (@d9 _ _ _ _ (@aq _ _ _ _ _ _ _ _ (@FF _ hr.units) (@cV _ _ _ _ _ _ _ (["_law_number", "_law_net"]) (1) ([0]) _ _ _ _ rfl (by kernel_rfl) (@cx _ (K) _ _ _ ‹(1,bK)› (by rfl)) (fun _ _ _ _ _ _=>(@bo _ _ (0) _ (@cE _ (by kernel_rfl)) rfl (Or.inl (by kernel_rfl)) (by first | exact .inl rfl | exact .inr rfl | assumption))) (fun _ _ _ _ _ _=>@cu _) (fun _ _ _ _ _ _=>‹‹‹‹(1,0)›[‹0›]›[‹(0,())›]›[‹0›]›) (by intro _;rfl)) (@ak _ _ _ _ _ _ _ _ (@jX _) (@fZ _ _ _ _ _ _ _ _ _ _ (@iQ _ (K) (by rfl)) ‹(2,cw)› (@gl _ _ _ ‹0›) (@i4 _)) (@fZ _ _ _ _ _ _ _ _ _ _ (@iQ _ (K) (by rfl)) ‹(2,cw)› (@i4 _) (@gl _ _ _ ‹0›))) (@au _ _ (by decide) (by decide)))))) (@ad _ _ _ (@aw _ _ _ _ (@ij _ _ _ _))) (@aN _)) :: (@ad _ _ _ (@aw _ _ _ _ (@cI _ _ _ _ _ _ _ _ (@lc _) ‹(G_l_above,oX,T.l_above_,‹[‹(G_l_gain_of,nj,T.l_gain_of_,‹[(@pw _ 0 _ _ (Or.inr (Or.inl qG)) (by rfl) (by decide) (by decide)),‹(1,bK)›]›)›,(@aG _ _ _ _ _ ‹[‹0›,‹0›]›)]›)› ‹0› (@au _ _ (by decide) (by decide)))))››››,?_⟩
  have ity0:∀{ks:List Nat}{H:Hp},H a=some (.lst (aE ks))→aU (fun _=>False) H (.ref a) (.list (ks.map fun k:Nat=>PyData.int (k:Int))):=fun {ks H} h=>.lst h (fun z=>z) (by
   clear h
   induction ks with
   | nil=>exact .nil
   | cons k r ih=>exact .cons (.int _) ih)
  refine bz fun DA nA=>?_
  refine ⟨_,rfl,_,_,_,_,rfl,(ity0 ha).ty,gY _,_,rfl,aM ?_⟩
  refine ⟨_,rfl,a,_,rfl,.inl (am.of ha),_,_,rfl,rfl,_,rfl,?_⟩
  rw [show decide (((aE R).length:Int)<2)=false from decide_eq_false (by rw [lN];have:=rk.two;trivial)]
  refine aM ⟨_,rfl,a,rfl,⟨_,am.of ha⟩,fun D hD=>fR (xs:=aE R) (fun _=>.bl true) (by trivial) hD ha ?_ ?_⟩
  ·intro i x H' R' hxi sm kk
   rw [List.getElem?_map] at hxi
   obtain ⟨j,ej,rfl⟩:=Option.map_eq_some_iff.mp hxi
   obtain ⟨t,eu,et⟩:=fA.get rk.at' ej
   have mo:=(l7 tc et).mpr (rk.op t (List.mem_of_getElem? eu))
   refine ⟨gK,_,rfl,_,rfl,.ref na,ls,ts,rfl,hv.mono sm.toE,h40,fun D2 H2 s2 fD2 hD2=>⟨D2,_,rfl,.inl (am.of hD2),rfl,C8 _,?_⟩⟩
   show R' (.bl (sM _ _)) _
   rw [Ix mo]
   exact kk H2 s2
  intro H1 s1 hD1
  rw [zI,show List.replicate (aE R).length (V.bl true)=(List.replicate (aE R).length true).map V.bl by rw [List.map_replicate]] at hD1
  refine ⟨D,_,rfl,am.of hD1,_,rfl,?_⟩
  rw [show (List.replicate (aE R).length true).all id=true by simp]
  refine aM (nA _ _ ?_)
  refine bz fun DB nB=>?_
  have ha1:=s1 _ _ ha
  refine ⟨_,rfl,a,rfl,⟨_,am.of ha1⟩,fun D2 hD2=>fR (xs:=aE R) (fun _=>.bl false) (by trivial) hD2 ha1 ?_ ?_⟩
  ·intro i x H' R' hxi sm kk
   rw [List.getElem?_map] at hxi
   obtain ⟨j,ej,rfl⟩:=Option.map_eq_some_iff.mp hxi
   exact ⟨gK,_,rfl,_,_,_,_,rfl,(aU.int (E:=fun _=>False) (H:=H') (j:Int)).ty,jN (.int (j:Int)),kk H' (ah.refl _)⟩
  intro H2 s2 hD2'
  rw [zI,show List.replicate (aE R).length (V.bl false)=(List.replicate (aE R).length false).map V.bl by rw [List.map_replicate]] at hD2'
  refine ⟨D2,_,rfl,am.of hD2',_,rfl,?_⟩
  rw [show (List.replicate (aE R).length false).any id=false by simp]
  refine aM (nB _ _ ?_)
  have s02:=s1.trans s2
  have ha2:=s02 _ _ ha
  have mapE:∀(f:aa→List Nat),(List.range (aE R).length).map (fun i=>((us[i]?).map fun t=>af (f t)).getD .non)=(us.map f).map af:=fun f=>by
   rw [lN,lR,p6 (fun i=>((us[i]?).map fun t=>af (f t)).getD .non) (fun t=>af (f t)) us (fun i x e=>by rw [e];rfl),List.map_map]
   rfl
  refine bD fun Q3 nA3=>⟨_,rfl,a,rfl,⟨_,am.of ha2⟩,fun D3 hD3=>fR (xs:=aE R) (fun i=>((us[i]?).map fun t=>af t.bg).getD .non) (by trivial) hD3 ha2 ?_ ?_⟩
  ·intro i x H' R' hxi sm kk
   rw [List.getElem?_map] at hxi
   obtain ⟨j,ej,rfl⟩:=Option.map_eq_some_iff.mp hxi
   obtain ⟨t,eu,et⟩:=fA.get rk.at' ej
   rw [eu] at kk
   obtain ⟨o2,om,og,op,ey,h1,_,_,_⟩:=kB ity et
   have sm':=s02.trans sm
   exact ⟨gK,_,rfl,na,_,_,_,rfl,rfl,ag.of (sm' _ _ hna),rfl,_,rfl,ta,_,_,_,rfl,rfl,ag.of (sm' _ _ hta),cY ey,o2,_,_,_,rfl,rfl,ag.of (sm' _ _ h1),rfl,kk H' (ah.refl _)⟩
  intro H3 s3 hB
  rw [mapE] at hB
  refine nA3 _ _ ?_
  have s03:=s02.trans s3
  refine bz fun DC nC=>?_
  refine ⟨_,rfl,D3,(us.map (·.bg)).map fun l=>(Sum.inr (S l):aJ),rfl,.inl (am.of (by rw [HM];exact hB)),by rw [List.length_map,List.length_map];trivial,_,rfl,D3,_,rfl,.inl (am.of hB),rfl,_,rfl,?_⟩
  have e1:(gM ((us.map (·.bg)).map fun l=>(Sum.inr (S l):aJ))).length=((us.map (·.bg)).map af).length:=by
   rw [(uf _).mpr (Hs rk.nd)];simp
  rw [e1]
  refine jQ ?_
  have ha3:=s03 _ _ ha
  refine ⟨_,rfl,a,rfl,⟨_,am.of ha3⟩,fun D4 hD4=>fR (xs:=aE R) (fun i=>((us[i]?).map fun t=>af t.en).getD .non) (by trivial) hD4 ha3 ?_ ?_⟩
  ·intro i x H' R' hxi sm kk
   rw [List.getElem?_map] at hxi
   obtain ⟨j,ej,rfl⟩:=Option.map_eq_some_iff.mp hxi
   obtain ⟨t,eu,et⟩:=fA.get rk.at' ej
   rw [eu] at kk
   obtain ⟨o2,om,og,op,ey,h1,_,_,_⟩:=kB ity et
   have sm':=s03.trans sm
   exact ⟨gK,_,rfl,na,_,_,_,rfl,rfl,ag.of (sm' _ _ hna),rfl,_,rfl,ta,_,_,_,rfl,rfl,ag.of (sm' _ _ hta),cY ey,o2,_,_,_,rfl,rfl,ag.of (sm' _ _ h1),rfl,kk H' (ah.refl _)⟩
  intro H4 s4 hE
  rw [mapE,rk.rot] at hE
  have hB4:=s4 _ _ hB
  refine ⟨_,rfl,_,rfl,D3,_,rfl,am.of hB4,fun p1 J1 j1=>⟨_,rfl,_,rfl,D3,_,rfl,am.of (j1.sm _ _ hB4),fun p2 J2 j2=>⟨p1,p2,_,_,rfl,rfl,j2.sm _ _ j1.at',j2.at',?_,fun p3 J3 j3=>?_⟩⟩⟩
  ·have q1:=nu ((us.map (·.bg)).map af) (some 1) none
   have q2:=nu ((us.map (·.bg)).map af) none (some 1)
   rw [List.length_map,List.length_map] at q1 q2
   exact Nat.le_trans (Nat.add_le_add q1 q2) (by trivial)
  have e3:J3 p3=some (.lst (((us.map (·.bg)).drop 1++(us.map (·.bg)).take 1).map af)):=by
   rw [j3.at',o9,mW (by decide),List.map_append,List.map_drop,List.map_take];rfl
  have sJ:ah H4 J3:=(j1.sm.trans j2.sm).trans j3.sm
  have ncb:∀l∈(us.map (·.bg)).drop 1++(us.map (·.bg)).take 1,ir l:=fun l hl=>by
   have:l∈us.map (·.bg):=by
    rcases List.mem_append.mp hl with z | z
    ·exact List.mem_of_mem_drop z
    ·exact List.mem_of_mem_take z
   obtain ⟨t,ht,rfl⟩:=List.mem_map.mp this
   have:some t∈R.map (fun k=>ts[k]?):=by rw [rk.at'];exact List.mem_map_of_mem ht
   obtain ⟨j,_,hj⟩:=List.mem_map.mp this
   exact nc _ (tc t (List.mem_of_getElem? hj)).b
  refine ⟨_,_,_,_,_,_,_,_,rT (sJ _ _ hE),rT e3,rz ncb,rz ncb,by decide,_,rfl,?_⟩
  have e5:PyData.eqv (.list (((us.map (·.bg)).drop 1++(us.map (·.bg)).take 1).map fun l=>PyData.str (S l))) (.list (((us.map (·.bg)).drop 1++(us.map (·.bg)).take 1).map fun l=>PyData.str (S l)))=true:=by
   simp only [PyData.eqv]
   exact tf _
  rw [e5]
  refine aM (nC _ _ ?_)
  have s05:=(s03.trans s4).trans sJ
  refine ⟨_,rfl,_,rfl,.ref na,a,ls,ts,R,us,rfl,hv.mono s05.toE,tc,s05 _ _ ha,rk.at',by trivial,fun g q H6 gg _ eg s6 hq=>⟨(by show 2≤10000;decide),fun q2 H7 n7=>⟨q,q2,g,(1,1),rfl,n7.sm _ _ hq,n7.at',gg.n.mono (by decide),gg.d.mono (by decide),IA,IA,_,_,rfl,rfl,?_⟩⟩⟩
  have e6:decide (g.1*1 - 1*g.2 > 0)=true:=by
   apply decide_eq_true
   have:=rk.gain
   rw [←eg,show (1:Rat)=KM.vl (1,1) by decide +kernel,i5 (by decide) gg.pos] at this
   show g.1*1 - 1*g.2 > 0
   have t2:(1:Int)*g.2<g.1*1:=this
   trivial
  have k7:=k H7 ((s05.trans s6).trans n7.sm)
  rw [←e6] at k7
  exact k7
end
end K13
namespace K13
open PySem L2
set_option maxHeartbeats 4000000
def Tw:Nat→Nat
 | 0=>1
 | n+1=>24*(Tw n+1)+1
def Tk:Nat→Nat
 | 0=>0
 | n+1=>Tw n+1
theorem CP:∀n,Tw n=24*Tk n+1
 | 0=>rfl
 | n+1=>rfl
theorem Hx {n:Nat} (h:n≤5):Tw n≤16617649:=by
 obtain rfl | rfl | rfl | rfl | rfl | rfl:n=0∨n=1∨n=2∨n=3∨n=4∨n=5:=by trivial
 all_goals decide
theorem Gv (n:Nat):1≤Tw n:=by rw [CP];trivial
def gL (N:Nat) (ps:List (V×List aa)):Nat:=(ps.map fun p=>Tw (N - (p.2.length+1))).sum
theorem nh (N:Nat) (ps:List (V×List aa)) (p:V×List aa):gL N (ps++[p])=gL N ps+Tw (N - (p.2.length+1)):=by
 unfold gL
 rw [List.map_append,List.sum_append]
 simp
theorem xm (N:Nat):∀ps:List (V×List aa),ps.length≤gL N ps
 | []=>Nat.le_refl _
 | p :: r=>by
  have:=xm N r
  have:=Gv (N - (p.2.length+1))
  show r.length+1≤Tw (N - (p.2.length+1))+gL N r
  trivial
structure bQ (ls:List (List Nat)) (ts:List aa) (l0:List Nat) (R:List Nat) (us:List aa):Prop where
 at':R.map (fun k=>ts[k]?)=us.map some
 op:∀t∈us,t.most≠(0,1)
 ch:∃c,us.map (·.bg)++[c]=l0 :: us.map (·.en)
 nd:(l0 :: us.map (·.en)).Nodup
 sub:∀l∈l0 :: us.map (·.en),l∈ls
structure tY (ls:List (List Nat)) (ts:List aa) (l0:List Nat) (F W:Addr) (H:Hp) (x:V) (us:List aa):Prop where
 e:kQ fun tp wa sa R=>x=.ref tp∧H tp=some (.tup [.ref wa,.ref sa])∧H wa=some (.lst (aE R))∧H sa=some (.lst ((l0 :: us.map (·.en)).map af))∧wa≠F∧wa≠W∧sa≠F∧sa≠W∧bQ ls ts l0 R us
def uk (ls:List (List Nat)) (ts:List aa) (l0:List Nat) (F W:Addr) (H:Hp) (x:V):Prop:=eH fun a R us=>x=.ref a∧a≠F∧a≠W∧H a=some (.lst (aE R))∧us≠[]∧bQ ls ts l0 R us
theorem tY.mono {ls:List (List Nat)}{ts:List aa}{l0:List Nat}{F W:Addr}{H H':Hp}{x:V}{us:List aa}{xs ys:List V} (h:tY ls ts l0 F W H x us) (hF:H F=some (.lst xs)) (hW:H W=some (.lst ys)) (f:cr F W H H'):tY ls ts l0 F W H' x us:=by
 obtain ⟨tp,wa,sa,R,rfl,h1,h2,h3,n1,n2,n3,n4,ok⟩:=h.e
 exact ⟨tp,wa,sa,R,rfl,f _ _ (fun z=>by rw [z,hF] at h1;cases h1) (fun z=>by rw [z,hW] at h1;cases h1) h1,f _ _ n1 n2 h2,f _ _ n3 n4 h3,n1,n2,n3,n4,ok⟩
theorem uk.mono {ls:List (List Nat)}{ts:List aa}{l0:List Nat}{F W:Addr}{H H':Hp}{x:V} (h:uk ls ts l0 F W H x) (f:cr F W H H'):uk ls ts l0 F W H' x:=by
 obtain ⟨a,R,us,rfl,n1,n2,h1,ne,ok⟩:=h
 exact ⟨a,R,us,rfl,n1,n2,f _ _ n1 n2 h1,ne,ok⟩
theorem cr.trans {W O:Addr}{H H' H'':Hp} (h:cr W O H H') (k:cr W O H' H''):cr W O H H'':=fun a o h1 h2 e=>k a o h1 h2 (h a o h1 h2 e)
theorem cr.sm {W O:Addr}{H H':Hp} (h:ah H H'):cr W O H H':=fun a o _ _ e=>h a o e
theorem cr.ch1 {W O:Addr}{H H':Hp}{xs:List V} (h:Ch H W xs H'):cr W O H H':=fun a o h1 _ e=>h.ol a o h1 e
theorem cr.ch2 {W O:Addr}{H H':Hp}{xs:List V} (h:Ch H O xs H'):cr W O H H':=fun a o _ h2 e=>h.ol a o h2 e
theorem bQ.more {ls:List (List Nat)}{ts:List aa}{l0:List Nat}{R:List Nat}{us:List aa}{k:Nat}{t:aa}{c:List Nat} (h:bQ ls ts l0 R us) (hc:us.map (·.bg)++[c]=l0 :: us.map (·.en)) (et:ts[k]?=some t) (op:t.most≠(0,1)) (eb:t.bg=c) (nw:t.en∉l0 :: us.map (·.en)) (hl:t.en∈ls):bQ ls ts l0 (R++[k]) (us++[t]):=by
 refine ⟨by rw [List.map_append,List.map_append,h.at'];simp [et],fun x hx=>?_,⟨t.en,?_⟩,?_,fun l hl'=>?_⟩
 ·rcases List.mem_append.mp hx with z | z
  ·exact h.op x z
  ·rw [List.mem_singleton.mp z];exact op
 ·rw [List.map_append,List.map_append]
  show (us.map (·.bg)++[t.bg])++[t.en]=_
  rw [eb,hc]
  rfl
 ·rw [List.map_append]
  show ((l0 :: us.map (·.en))++[t.en]).Nodup
  exact List.nodup_append.mpr ⟨h.nd,by simp,fun a ha b hb=>by
   rw [List.mem_singleton.mp hb]
   exact fun z=>nw (z▸ha)⟩
 ·rw [List.map_append] at hl'
  rcases List.mem_append.mp (show l∈(l0 :: us.map (·.en))++[t.en] from hl') with z | z
  ·exact h.sub l z
  ·rw [List.mem_singleton.mp z];exact hl
def GF (ls:List (List Nat)) (ts:List aa) (l0:List Nat) (F W:Addr) (H:Hp) (fs:List V) (ff:List (List aa)):Prop:=∀u∈ff,aW fun a R=>V.ref a∈fs∧a≠F∧a≠W∧H a=some (.lst (aE R))∧bQ ls ts l0 R u
theorem GF.mono {ls:List (List Nat)}{ts:List aa}{l0:List Nat}{F W:Addr}{H H':Hp}{fs:List V}{ff:List (List aa)} (h:GF ls ts l0 F W H fs ff) (f:cr F W H H'):GF ls ts l0 F W H' fs ff:=fun u hu=>by
 obtain ⟨a,R,m,n1,n2,h1,ok⟩:=h u hu
 exact ⟨a,R,m,n1,n2,f _ _ n1 n2 h1,ok⟩
def CM (ls:List (List Nat)) (ts:List aa) (l0:List Nat) (ps:List (V×List aa)) (ff:List (List aa)):Prop:=∀R u,bQ ls ts l0 R u→u≠[]→u∈ff∨∃p∈ps,aW fun t vs=>u=p.2++t :: vs
def CI (ls:List (List Nat)) (ts:List aa) (l0:List Nat) (us:List aa) (i:Nat) (ps:List (V×List aa)) (ff:List (List aa)):Prop:=
 ∀R u,bQ ls ts l0 R u→u≠[]→u∈ff∨(∃p∈ps,aW fun t vs=>u=p.2++t :: vs)∨kQ fun t vs k q=>u=us++t :: vs∧(gF ts ts.length)[q]?=some k∧ts[k]?=some t∧i≤q
theorem CM.start {ls:List (List Nat)}{ts:List aa}{l0:List Nat}{x:V}{us:List aa}{qs:List (V×List aa)}{ff:List (List aa)} (tc:∀t∈ts,fK ls t) (h:CM ls ts l0 (qs++[(x,us)]) ff):CI ls ts l0 us 0 qs ff:=fun R u ok ne=>by
 rcases h R u ok ne with h | ⟨p,hp,t,vs,e⟩
 ·exact .inl h
 ·rcases List.mem_append.mp hp with hp | hp
  ·exact .inr (.inl ⟨p,hp,t,vs,e⟩)
  ·rw [List.mem_singleton.mp hp] at e
   have e:u=us++t :: vs:=e
   have at':=ok.at'
   rw [e,List.map_append,List.map_cons] at at'
   have h1:(R.map fun k=>ts[k]?)[(us.map some).length]?=some (some t):=by
    rw [at',List.getElem?_append_right (Nat.le_refl _),Nat.sub_self];rfl
   rw [List.getElem?_map] at h1
   obtain ⟨k,_,hk⟩:=Option.map_eq_some_iff.mp h1
   have mk:=(l7 tc hk).mpr (ok.op t (by rw [e];simp))
   obtain ⟨q,hq⟩:=List.getElem?_of_mem mk
   exact .inr (.inr ⟨t,vs,k,q,e,hq,hk,Nat.zero_le _⟩)
theorem BO {ls:List (List Nat)}{ts:List aa}{l0 c:List Nat}{R:List Nat}{us vs:List aa}{t:aa} (ok:bQ ls ts l0 R (us++t :: vs)) (hc:us.map (·.bg)++[c]=l0 :: us.map (·.en)):t.bg=c∧t.en∉l0 :: us.map (·.en):=by
 obtain ⟨c',h⟩:=ok.ch
 have nd:=ok.nd
 rw [List.map_append,List.map_append,List.map_cons,List.map_cons] at h
 rw [List.map_append,List.map_cons] at nd
 have h2:us.map (·.bg)++(t.bg :: (vs.map (·.bg)++[c']))=us.map (·.bg)++([c]++(t.en :: vs.map (·.en))):=by
  rw [←List.append_assoc,hc]
  exact (by simpa using h)
 have h3:=List.append_cancel_left h2
 injection h3 with h4 _
 refine ⟨h4,fun z=>?_⟩
 have nd':((l0 :: us.map (·.en))++t.en :: vs.map (·.en)).Nodup:=nd
 exact (List.nodup_append.mp nd').2.2 _ z _ List.mem_cons_self rfl
theorem CI.miss {ls:List (List Nat)}{ts:List aa}{l0 c:List Nat}{us:List aa}{i j:Nat}{t:aa}{ps:List (V×List aa)}{ff:List (List aa)} (h:CI ls ts l0 us i ps ff) (hc:us.map (·.bg)++[c]=l0 :: us.map (·.en)) (ej:(gF ts ts.length)[i]?=some j) (et:ts[j]?=some t) (no:¬(t.bg=c∧t.en∉l0 :: us.map (·.en))):CI ls ts l0 us (i+1) ps ff:=fun R u ok ne=>by
 rcases h R u ok ne with h | h | ⟨t',vs,k,q,e,hq,hk,hi⟩
 ·exact .inl h
 ·exact .inr (.inl h)
 ·by_cases z:q=i
  ·subst z
   rw [ej] at hq
   cases hq
   rw [et] at hk
   cases hk
   subst e
   exact absurd (BO ok hc) no
  ·exact .inr (.inr ⟨t',vs,k,q,e,hq,hk,by trivial⟩)
theorem CI.hit {ls:List (List Nat)}{ts:List aa}{l0:List Nat}{us:List aa}{i j:Nat}{t:aa}{y:V}{ps:List (V×List aa)}{ff:List (List aa)} (h:CI ls ts l0 us i ps ff) (ej:(gF ts ts.length)[i]?=some j) (et:ts[j]?=some t):CI ls ts l0 us (i+1) (ps++[(y,us++[t])]) (ff++[us++[t]]):=fun R u ok ne=>by
 rcases h R u ok ne with h | ⟨p,hp,h⟩ | ⟨t',vs,k,q,e,hq,hk,hi⟩
 ·exact .inl (List.mem_append_left _ h)
 ·exact .inr (.inl ⟨p,List.mem_append_left _ hp,h⟩)
 ·by_cases z:q=i
  ·subst z
   rw [ej] at hq
   cases hq
   rw [et] at hk
   cases hk
   cases vs with
   | nil=>exact .inl (by rw [e];simp)
   | cons t2 vs=>exact .inr (.inl ⟨(y,us++[t]),by simp,t2,vs,by rw [e];simp⟩)
  ·exact .inr (.inr ⟨t',vs,k,q,e,hq,hk,by trivial⟩)
theorem CI.done {ls:List (List Nat)}{ts:List aa}{l0:List Nat}{us:List aa}{ps:List (V×List aa)}{ff:List (List aa)} (h:CI ls ts l0 us (gF ts ts.length).length ps ff):CM ls ts l0 ps ff:=fun R u ok ne=>by
 rcases h R u ok ne with h | h | ⟨t',vs,k,q,e,hq,hk,hi⟩
 ·exact .inl h
 ·exact .inr h
 ·have:=(List.getElem?_eq_some_iff.mp hq).1
  trivial
section
variable {P:Program}{w:World}{K:PySem.W.Frag}{mg:Str→Option Value}{base:Heap}
inductive Hi (vs:List V) (H:Hp) (Q:VK):Prop
 | mk (v:V) (ls:List (List Nat)) (ts:List aa) (l0:List Nat) (h0:vs=[v,af l0]) (h1:aU ED H v (dD ls ts)) (h2:(∀t∈ts,fK ls t)) (h3:ts.length≤24) (h4:ls.length≤6) (h5:l0∈ls) (h6:∀(F W:Addr) (xs:List V) (H':Hp),ah H H'→H F=none→H' F=some (.lst xs)→(∀x∈xs,uk ls ts l0 F W H' x)→(∀R u,bQ ls ts l0 R u→u≠[]→aW fun a R'=>V.ref a∈xs∧H' a=some (.lst (aE R'))∧bQ ls ts l0 R' u)→Q (.ref F) H')
def IO:Sp:=fun vs H Q _=>Hi  vs H Q
theorem ww (T:Txt K mg):aZ P w K mg base CX0 2 T.l_all_ways_.f T.l_all_ways_.d ["_law_net", "_law_begin"] IO:=by
 have G_l_opened:=mY (P:=P) (w:=w) (base:=base) T
 refine T.l_all_ways_.F.ok gh (fun vs H Q E h=>?_) (fun cdv A outer s H vs Q E hr h=>?_)
 ·obtain ⟨v,ls,ts,l0,rfl,_⟩:=h
  rfl
 ·obtain ⟨v,ls,ts,l0,rfl,hv,tc,h24,l6,hl0,k⟩:=h
  obtain ⟨na,pa,ta,ys,rfl,hna,hpa,hta,ity⟩:=cX hv
  have l1:1≤ls.length:=List.length_pos_of_mem hl0
  have CT:=Hx (n:=ls.length - 1) (by trivial)
  refine ⟨_,‹(@kD _ _ (2) (3) _ _ _ _ _ _ _ _ _ _ _ rfl gh.nd rfl rfl (by decide) fV da ‹[(@bJ _ _ _ _ (@b7 _)),(@bJ _ _ _ _ ‹[(@aG _ _ _ _ _ ‹[(@bJ _ _ _ _ (@b7 _)),(@bJ _ _ _ _ ‹[‹(1,o7)›]›)]›)]›)]› (by kernel_rfl) (by rfl)) :: ‹(@jM _ _ _ _ _ _ PassesOwn.never (@aq _ _ _ _ _ _ _ _ (@BU _ hr.units) ‹(3,da)› (@bJ _ _ _ _ (@b7 _)) (@au _ _ (by decide) (by decide))) ‹(@gj _ _ _ _ _ _ (@F8 _ _ _ _ _ _ _ _ _ PySem.F.plainAttrs_list PySem.F.slot_list_pop PySem.F.type_list_pop (@Ey _) ‹(3,da)› (by rfl) (by rfl)) (@fk _ (K) _ _ _ _ (2) rfl (@aS _ _ _ _ _ ‹(4,gh.nd,ic)› (@aS _ _ _ _ _ ‹(5,gh.nd,dQ)› (@eS _) (by rfl)) (by rfl)) (by rfl) (by rfl) (by rfl)) (by rfl) (by rfl) (by rfl)) :: (@ad _ _ _ (@fM _ _ _ _ _ _ _ _ PassesOwn.never rfl (@cx _ (K) _ _ _ ‹(G_l_opened,oh,T.l_opened_,‹[‹(0,eY)›]›)› (by rfl)) ‹(6,gh.nd,bP)› (@ad _ _ _ (@be _ _ _ _ _ _ _ _ (@PW.pt _ _ _ (@uw _ _ _ _ _ _ _ (@aq _ _ _ _ _ _ _ _ (@cP _) ‹‹‹‹(0,eY)›[‹0›]›[‹(6,bP)›]›[‹0›]› ‹‹(5,dQ)›[(@pz _ _ _ _ _ _ (@lV _) ‹0›)]!› (@au _ _ (by decide) (by decide))) (@rF _ _ _ _ (@aq _ _ _ _ _ _ _ _ (@yF _ (K) (by rfl)) ‹‹‹‹(0,eY)›[‹0›]›[‹(6,bP)›]›[‹0›]› ‹(5,dQ)› rfl)))) ‹(@fJ _ _ _ _ (@fE _ (K) _ _ _ _ _ _ _ _ _ _ _ PySem.F.plainAttrs_list PySem.F.slot_list_append PySem.F.type_list_append (@uz _) ‹(2,fV)› ‹[(@ak _ _ _ _ _ _ _ _ (@jX _) ‹(4,ic)› (@bJ _ _ _ _ ‹[‹(6,bP)›]›))]› (by rfl) (by rfl) (by rfl) (by rfl) (by rfl) (by rfl)) (by rfl)) :: (@ad _ _ _ (@fJ _ _ _ _ (@fE _ (K) _ _ _ _ _ _ _ _ _ _ _ PySem.F.plainAttrs_list PySem.F.slot_list_append PySem.F.type_list_append (@uz _) ‹(3,da)› ‹[(@aG _ _ _ _ _ ‹[(@ak _ _ _ _ _ _ _ _ (@jX _) ‹(4,ic)› (@bJ _ _ _ _ ‹[‹(6,bP)›]›)),(@ak _ _ _ _ _ _ _ _ (@jX _) ‹(5,dQ)› (@bJ _ _ _ _ ‹[‹‹‹‹(0,eY)›[‹0›]›[‹(6,bP)›]›[‹0›]›]›))]›)]› (by rfl) (by rfl) (by rfl) (by rfl) (by rfl) (by rfl)) (by rfl)))› (@aN _))) (by intro _;rfl)))›) :: (@ad _ _ _ (@aw _ _ _ _ ‹(2,fV)›))››,?_⟩
  refine Cs fun Q1 nP=>⟨Nat.zero_le _,fun F H1 n1=>⟨Nat.zero_le _,fun wa0 H2 n2=>⟨_,rfl,(by show 1≤10000;decide),fun sa0 H3 n3=>⟨(by show 2≤10000;decide),fun tp0 H4 n4=>⟨(by show 1≤10000;decide),fun W H5 n5=>nP _ _ _ ?_⟩⟩⟩⟩⟩
  have hF5:H5 F=some (.lst []):=n5.sm _ _ (n4.sm _ _ (n3.sm _ _ (n2.sm _ _ n1.at')))
  have hwa5:H5 wa0=some (.lst []):=n5.sm _ _ (n4.sm _ _ (n3.sm _ _ n2.at'))
  have hsa5:H5 sa0=some (.lst [af l0]):=n5.sm _ _ (n4.sm _ _ n3.at')
  have htp5:H5 tp0=some (.tup [.ref wa0,.ref sa0]):=n5.sm _ _ n4.at'
  have s5:ah H H5:=(((n1.sm.trans n2.sm).trans n3.sm).trans n4.sm).trans n5.sm
  have fF:H F=none:=n1.fr
  have fW:H W=none:=(((n1.sm.trans n2.sm).trans n3.sm).trans n4.sm).free n5.fr
  have a1:wa0≠F:=fun z=>by have:=n2.fr;rw [z,n1.at'] at this;cases this
  have a2:sa0≠F:=fun z=>by have:=n3.fr;rw [z,n2.sm _ _ n1.at'] at this;cases this
  have a3:wa0≠W:=fun z=>by have:=n5.fr;rw [←z,n4.sm _ _ (n3.sm _ _ n2.at')] at this;cases this
  have a4:sa0≠W:=fun z=>by have:=n5.fr;rw [←z,n4.sm _ _ n3.at'] at this;cases this
  have nFW:¬F=W:=fun z=>by have:=n5.fr;rw [←z,n4.sm _ _ (n3.sm _ _ (n2.sm _ _ n1.at'))] at this;cases this
  have ent0:tY ls ts l0 F W H5 (.ref tp0) []:=⟨tp0,wa0,sa0,[],rfl,htp5,hwa5,hsa5,a1,a3,a2,a4,⟨rfl,(fun t h=>by cases h),⟨l0,rfl⟩,by simp,fun l hl=>by rw [List.mem_singleton.mp hl];exact hl0⟩⟩
  refine bz fun DA nA=>?_
  refine mZ (fun m σ H'=>yx fun (ps:List (V×List aa)) (fs:List V) (ff:List (List aa)) (v4 v5 v6:Option V)=>σ=[some (.ref na),some (af l0),some (.ref F),some (.ref W),v4,v5,v6]∧m=gL ls.length ps∧H' W=some (.lst (ps.map (·.1)))∧H' F=some (.lst fs)∧gL ls.length ps+fs.length≤16617649∧(∀p∈ps,tY ls ts l0 F W H' p.1 p.2)∧(∀x∈fs,uk ls ts l0 F W H' x)∧ah H H'∧GF ls ts l0 F W H' fs ff∧CM ls ts l0 ps ff) _ ⟨[(.ref tp0,[])],[],[],_,_,_,rfl,rfl,n5.at',hF5,by
   show Tw (ls.length - 1)+0+0≤_
   trivial,(fun p hp=>by rw [List.mem_singleton.mp hp];exact ent0),(fun x hx=>by cases hx),s5,(fun u hu=>by cases hu),(fun R u ok ne=>by
    cases u with
    | nil=>exact absurd rfl ne
    | cons t vs=>exact .inr ⟨_,List.mem_singleton.mpr rfl,t,vs,rfl⟩)⟩ ?_
  rintro m σ J ⟨ps,fs,ff,v4,v5,v6,rfl,rfl,hW,hF,hC,hE,hfs,sm,gf,cm⟩ Q D' nD rD qT qF
  refine ⟨_,rfl,Nat.zero_le _,fun c0 J1 j1=>⟨W,c0,_,rfl,rfl,j1.sm _ _ hW,j1.at',_,rfl,?_⟩⟩
  have sm1:=sm.trans j1.sm
  have hW1:=j1.sm _ _ hW
  have hF1:=j1.sm _ _ hF
  have hE1:∀p∈ps,tY ls ts l0 F W J1 p.1 p.2:=fun p hp=>(hE p hp).mono hF hW (cr.sm j1.sm)
  have hfs1:∀x∈fs,uk ls ts l0 F W J1 x:=fun x hx=>(hfs x hx).mono (cr.sm j1.sm)
  rcases List.eq_nil_or_concat ps with rfl | ⟨qs,p,rfl⟩
  ·exact qF _ (nA _ _ ⟨_,rfl,k F W fs J1 sm1 fF hF1 hfs1 fun R u ok ne=>by
    rcases cm R u ok ne with h | ⟨p,hp,_⟩
    ·obtain ⟨a,R',m,_,_,h1,ok'⟩:=gf u h
     exact ⟨a,R',m,j1.sm _ _ h1,ok'⟩
    ·cases hp⟩)
  have ene:(!((qs.concat p).map (·.1)).isEmpty)=true:=by simp
  rw [ene]
  refine qT _ ?_
  rw [List.concat_eq_append] at hW1 hC hE1 cm
  obtain ⟨x,us⟩:=p
  rw [nh] at hC
  rw [List.map_append] at hW1
  obtain ⟨tp,wa,sa,R,rfl,htp,hwa,hsa,b1,b2,b3,b4,ok⟩:=(hE1 (x,us) (by simp)).e
  have hC':gL ls.length qs+Tw (ls.length - (us.length+1))+fs.length≤16617649:=hC
  refine bz fun DC nC=>⟨_,rfl,.inl ⟨rfl,_,am.of hW1⟩,W,qs.map (·.1),.ref tp,rfl,rfl,hW1,fun J2 c2=>?_⟩
  have htp2:=c2.tup htp hW1
  refine ⟨tp,_,rfl,ag.of htp2,rfl,_,_,rfl,_,_,rfl,rfl,nC _ _ ?_⟩
  have sm2:ah H J2:=fun a o h=>c2.ol a o (fun z=>by rw [z,fW] at h;cases h) (sm1 _ _ h)
  have f12:cr F W J1 J2:=cr.ch2 c2
  refine ⟨_,rfl,.ref na,ls,ts,rfl,hv.mono sm2.toE,by trivial,fun D2 J3 s3 fD2 hD2=>⟨D2,rfl,⟨_,am.of hD2⟩,?_⟩⟩
  have f13:cr F W J1 J3:=f12.trans (cr.sm s3)
  have hF2:=c2.ol F _ nFW hF1
  have hF3:=s3 _ _ hF2
  have hW3:=s3 _ _ c2.at'
  have nDF:¬D2=F:=fun z=>by rw [z,hF2] at fD2;cases fD2
  have nDW:¬D2=W:=fun z=>by rw [z,c2.at'] at fD2;cases fD2
  have hwa3:=f13 _ _ b1 b2 hwa
  have hsa3:=f13 _ _ b3 b4 hsa
  have hE3:∀p∈qs,tY ls ts l0 F W J3 p.1 p.2:=fun p hp=>(hE1 p (List.mem_append_left _ hp)).mono hF1 hW1 f13
  have hfs3:∀x∈fs,uk ls ts l0 F W J3 x:=fun x hx=>(hfs1 x hx).mono f13
  obtain ⟨c,hc⟩:=ok.ch
  have lus:us.length+1≤ls.length:=by
   have:=mq (xs:=l0 :: us.map (·.en)) (ys:=ls) ok.nd ok.sub
   simpa using this
  have lRu:R.length=us.length:=by have:=congrArg List.length ok.at';simpa using this
  have tw:=CP (ls.length - (us.length+1))
  refine lK (xs:=aE (gF ts ts.length)) (fun i σ H'=>kQ fun (ps:List (V×List aa)) (gs:List V) (ff:List (List aa)) (v6:Option V)=>σ=[some (.ref na),some (af l0),some (.ref F),some (.ref W),some (.ref wa),some (.ref sa),v6]∧H' W=some (.lst (ps.map (·.1)))∧H' F=some (.lst gs)∧gL ls.length ps≤gL ls.length qs+i*Tk (ls.length - (us.length+1))∧gL ls.length ps+gs.length≤gL ls.length qs+fs.length+i*Tk (ls.length - (us.length+1))∧(∀p∈ps,tY ls ts l0 F W H' p.1 p.2)∧(∀x∈gs,uk ls ts l0 F W H' x)∧cr F W J3 H'∧ah H H'∧GF ls ts l0 F W H' gs ff∧CI ls ts l0 us i ps ff) ⟨qs,fs,ff,_,rfl,hW3,hF3,by trivial,by trivial,hE3,hfs3,(fun _ _ _ _ h=>h),sm2.trans s3,(gf.mono (cr.sm j1.sm)).mono f13,cm.start tc⟩ ?_ ?_ ?_
  ·rintro i σ H' _ ⟨_,_,_,_,_,_,_,_,_,_,_,f,_⟩
   exact am.of (f _ _ nDF nDW hD2)
  ·rintro i x σ J4 hx ⟨ps,gs,ff',v6',rfl,hW4,hF4,hm4,hC4,hE4,hfs4,f4,sm4,gf4,ci4⟩
   have li:i<ts.length:=by
    have h1:=(List.getElem?_eq_some_iff.mp hx).1
    rw [List.length_map] at h1
    exact Nat.lt_of_lt_of_le h1 (tx _ _)
   rw [List.getElem?_map] at hx
   obtain ⟨j,ej,rfl⟩:=Option.map_eq_some_iff.mp hx
   have mj:=List.mem_of_getElem? ej
   have jlt:j<ts.length:=List.mem_range.mp (List.mem_filter.mp mj).1
   obtain ⟨t,et⟩:∃t,ts[j]?=some t:=⟨_,List.getElem?_eq_getElem jlt⟩
   have tt:=tc t (List.mem_of_getElem? et)
   have op:=(l7 tc et).mp mj
   obtain ⟨o2,om,og,op',ey,h1,_,_,_⟩:=kB ity et
   have hwa4:=f4 _ _ b1 b2 hwa3
   have hsa4:=f4 _ _ b3 b4 hsa3
   have elast:gO ((l0 :: us.map (·.en)).map af) (-1)=some (af c):=by
    rw [←hc,List.map_append]
    exact tK _ _
   have mi:i*Tk (ls.length - (us.length+1))≤24*Tk (ls.length - (us.length+1)):=Nat.mul_le_mul_right _ (by trivial)
   have mi1:(i+1)*Tk (ls.length - (us.length+1))=i*Tk (ls.length - (us.length+1))+Tk (ls.length - (us.length+1)):=Nat.succ_mul _ _
   refine ⟨_,rfl,na,_,_,_,rfl,rfl,ag.of (sm4 _ _ hna),rfl,_,rfl,ta,_,_,_,rfl,rfl,ag.of (sm4 _ _ hta),cY ey,o2,_,_,_,rfl,rfl,ag.of (sm4 _ _ h1),rfl,_,rfl,1,rfl,sa,_,_,_,rfl,rfl,am.of hsa4,elast,rfl,_,rfl,?_⟩
   have keep:CI ls ts l0 us (i+1) ps ff'→kQ fun (ps:List (V×List aa)) (gs:List V) (ff:List (List aa)) (v6:Option V)=>[some (V.ref na),some (af l0),some (.ref F),some (.ref W),some (.ref wa),some (.ref sa),some (.int (j:Int))]=[some (.ref na),some (af l0),some (.ref F),some (.ref W),some (.ref wa),some (.ref sa),v6]∧J4 W=some (.lst (ps.map (·.1)))∧J4 F=some (.lst gs)∧gL ls.length ps≤gL ls.length qs+(i+1)*Tk (ls.length - (us.length+1))∧gL ls.length ps+gs.length≤gL ls.length qs+fs.length+(i+1)*Tk (ls.length - (us.length+1))∧(∀p∈ps,tY ls ts l0 F W J4 p.1 p.2)∧(∀x∈gs,uk ls ts l0 F W J4 x)∧cr F W J3 J4∧ah H J4∧GF ls ts l0 F W J4 gs ff∧CI ls ts l0 us (i+1) ps ff:=fun ci=>⟨ps,gs,ff',_,rfl,hW4,hF4,by trivial,by trivial,hE4,hfs4,f4,sm4,gf4,ci⟩
   have einS:sM (V.str (S t.en)) ((l0 :: us.map (·.en)).map af)=(l0 :: us.map (·.en)).contains t.en:=Ir _ _
   by_cases hb:t.bg=c
   rotate_left
   ·dsimp only
    rw [show decide (V.str (S t.bg)=af c)=false from decide_eq_false (fun z=>hb (j7 (V.str.inj z)))]
    exact aM (aM (keep (ci4.miss hc ej et fun z=>hb z.1)))
   dsimp only
   rw [show decide (V.str (S t.bg)=af c)=true from decide_eq_true (by rw [hb])]
   refine bh ⟨_,rfl,na,_,_,_,rfl,rfl,ag.of (sm4 _ _ hna),rfl,_,rfl,ta,_,_,_,rfl,rfl,ag.of (sm4 _ _ hta),cY ey,o2,_,_,_,rfl,rfl,ag.of (sm4 _ _ h1),rfl,_,rfl,sa,_,rfl,.inl (am.of hsa4),rfl,CG _,_,rfl,?_⟩
   rw [einS]
   by_cases he:t.en∈l0 :: us.map (·.en)
   ·rw [show (l0 :: us.map (·.en)).contains t.en=true from List.contains_iff_mem.mpr he]
    exact aM (keep (ci4.miss hc ej et fun z=>z.2 he))
   rw [show (l0 :: us.map (·.en)).contains t.en=false from Bool.eq_false_iff.mpr fun z=>he (List.contains_iff_mem.mp z)]
   refine bh ?_
   have ok':=ok.more hc et op hb he tt.e
   have lus':us.length+2≤ls.length:=by
    have:=mq (xs:=l0 :: (us++[t]).map (·.en)) (ys:=ls) ok'.nd ok'.sub
    simpa using this
   obtain ⟨r,er⟩:∃r,ls.length - (us.length+1)=r+1:=⟨ls.length - (us.length+2),by trivial⟩
   have tkr:Tk (ls.length - (us.length+1))=Tw (ls.length - ((us++[t]).length+1))+1:=by
    rw [er,show ls.length - ((us++[t]).length+1)=r by simp;trivial]
    rfl
   refine bz fun DE nE=>⟨_,rfl,.inl ⟨rfl,_,am.of hF4⟩,_,rfl,_,rfl,(by show 1≤10000;decide),fun q1 G1 g1=>⟨wa,q1,_,_,rfl,rfl,g1.sm _ _ hwa4,g1.at',by simp;trivial,fun q2 G2 g2=>⟨F,gs,.ref q2,rfl,rfl,g2.sm _ _ (g1.sm _ _ hF4),by trivial,fun G3 c3=>nE _ _ ?_⟩⟩⟩
   have sg2:=g1.sm.trans g2.sm
   have nq2F:q2≠F:=fun z=>by have:=g2.fr;rw [z,g1.sm _ _ hF4] at this;cases this
   have nq2W:q2≠W:=fun z=>by have:=g2.fr;rw [z,g1.sm _ _ hW4] at this;cases this
   have fg3:cr F W J4 G3:=(cr.sm sg2).trans (cr.ch1 c3)
   have hW5':=c3.ol W _ (fun z=>nFW z.symm) (sg2 _ _ hW4)
   have hwa5':=fg3 _ _ b1 b2 hwa4
   have hsa5':=fg3 _ _ b3 b4 hsa4
   have smg3:ah H G3:=fun a o h=>c3.ol a o (fun z=>by rw [z,fF] at h;cases h) (sg2 _ _ (sm4 _ _ h))
   refine ⟨_,rfl,.inl ⟨rfl,_,am.of hW5'⟩,_,rfl,_,rfl,(by show 1≤10000;decide),fun q3 G4 g4=>⟨wa,q3,_,_,rfl,rfl,g4.sm _ _ hwa5',g4.at',by simp;trivial,fun q4 G5 g5=>?_⟩⟩
   have sg5:=g4.sm.trans g5.sm
   have sm5':=smg3.trans sg5
   refine ⟨_,rfl,_,rfl,na,_,_,_,rfl,rfl,ag.of (sm5' _ _ hna),rfl,_,rfl,ta,_,_,_,rfl,rfl,ag.of (sm5' _ _ hta),cY ey,o2,_,_,_,rfl,rfl,ag.of (sm5' _ _ h1),rfl,(by show 1≤10000;decide),fun q5 G6 g6=>⟨sa,q5,_,_,rfl,rfl,g6.sm _ _ (sg5 _ _ hsa5'),g6.at',by simp;trivial,fun q6 G7 g7=>⟨(by show 2≤10000;decide),fun q7 G8 g8=>⟨W,_,.ref q7,rfl,rfl,g8.sm _ _ (g7.sm _ _ (g6.sm _ _ (sg5 _ _ hW5'))),?_,fun G9 c9=>?_⟩⟩⟩⟩
   ·have:=xm ls.length ps
    rw [List.length_map]
    trivial
   have sg8:=((sg5.trans g6.sm).trans g7.sm).trans g8.sm
   have fg9:cr F W G3 G9:=(cr.sm sg8).trans (cr.ch2 c9)
   have hF9:=c9.ol F _ nFW (sg8 _ _ c3.at')
   have hW8:=sg8 _ _ hW5'
   have w4:∀{a:Addr}{G:Hp},G a=none→ah G3 G→a≠F∧a≠W:=fun {a G} h s=>⟨(fun z=>by rw [z,s _ _ c3.at'] at h;cases h),(fun z=>by rw [z,s _ _ hW5'] at h;cases h)⟩
   obtain ⟨d1,d2⟩:=w4 g5.fr g4.sm
   obtain ⟨d3,d4⟩:=w4 g7.fr (sg5.trans g6.sm)
   have hq4:G9 q4=some (.lst (aE (R++[j]))):=by
    have:=c9.ol q4 _ d2 (g8.sm _ _ (g7.sm _ _ (g6.sm _ _ g5.at')))
    rw [this]
    simp [aE]
   have hq6:G9 q6=some (.lst ((l0 :: (us++[t]).map (·.en)).map af)):=by
    have:=c9.ol q6 _ d4 (g8.sm _ _ g7.at')
    rw [this]
    simp
   have hq7:G9 q7=some (.tup [.ref q4,.ref q6]):=c9.tup g8.at' hW8
   have hq2:G9 q2=some (.lst (aE (R++[j]))):=by
    have:=fg9 _ _ nq2F nq2W (c3.ol q2 _ nq2F g2.at')
    rw [this]
    simp [aE]
   have fall:cr F W J4 G9:=fg3.trans fg9
   refine ⟨ps++[(.ref q7,us++[t])],gs++[.ref q2],ff'++[us++[t]],_,rfl,?_,hF9,?_,?_,fun p hp=>?_,fun x hx=>?_,f4.trans fall,?_,fun u hu=>?_,ci4.hit ej et⟩
   ·rw [c9.at',List.map_append];rfl
   ·rw [nh]
    show _+Tw (ls.length - ((us++[t]).length+1))≤_
    trivial
   ·rw [nh,show (gs++[V.ref q2]).length=gs.length+1 by simp]
    show _+Tw (ls.length - ((us++[t]).length+1))+(_+1)≤_
    trivial
   ·rcases List.mem_append.mp hp with z | z
    ·exact (hE4 p z).mono hF4 hW4 fall
    ·rw [List.mem_singleton.mp z]
     exact ⟨q7,q4,q6,R++[j],rfl,hq7,hq4,hq6,d1,d2,d3,d4,ok'⟩
   ·rcases List.mem_append.mp hx with z | z
    ·exact (hfs4 x z).mono fall
    ·rw [List.mem_singleton.mp z]
     exact ⟨q2,R++[j],us++[t],rfl,nq2F,nq2W,hq2,by simp,ok'⟩
   ·exact fun a o h=>fall a o (fun z=>by rw [z,fF] at h;cases h) (fun z=>by rw [z,fW] at h;cases h) (sm4 _ _ h)
   ·rcases List.mem_append.mp hu with z | z
    ·obtain ⟨a,R',m,n1',n2',h1',ok2⟩:=gf4.mono fall u z
     exact ⟨a,R',List.mem_append_left _ m,n1',n2',h1',ok2⟩
    ·rw [List.mem_singleton.mp z]
     exact ⟨q2,R++[j],by simp,nq2F,nq2W,hq2,ok'⟩
  ·rintro σ J4 ⟨ps,gs,ff',v6',rfl,hW4,hF4,hm4,hC4,hE4,hfs4,f4,sm4,gf4,ci4⟩
   have lo:(aE (gF ts ts.length)).length≤24:=by
    rw [List.length_map]
    exact Nat.le_trans (tx _ _) h24
   have mi:(aE (gF ts ts.length)).length*Tk (ls.length - (us.length+1))≤24*Tk (ls.length - (us.length+1)):=Nat.mul_le_mul_right _ lo
   refine nD (gL ls.length ps) _ _ ?_ ⟨ps,gs,ff',_,_,_,rfl,rfl,hW4,hF4,?_,hE4,hfs4,sm4,gf4,by rw [List.length_map] at ci4;exact ci4.done⟩
   ·rw [List.concat_eq_append,nh]
    show _<_+Tw (ls.length - (us.length+1))
    trivial
   ·have:Tw (ls.length - ((V.ref tp,us).2.length+1))=Tw (ls.length - (us.length+1)):=rfl
    trivial
end
end K13
namespace K13
open PySem L2
set_option maxHeartbeats 4000000
section
variable {P:Program}{w:World}{K:PySem.W.Frag}{mg:Str→Option Value}{base:Heap}
inductive Dr (g:Addr) (vs:List V) (H:Hp) (Q:VK) (E:XK):Prop
 | mk (v:V) (W:Addr) (ls:List (List Nat)) (ts:List aa) (s0:LP) (h0:vs=[v,.ref W]) (h1:aU ED H v (dD ls ts)) (h2:(∀t∈ts,fK ls t)) (h3:ts.length≤24) (h4:1≤ls.length) (h5:ls.length≤10) (h6:sO H W ls s0.ω 10) (h7:GW ls s0.ω 1) (h8:(∀l,s0.on l=none)) (h9:((aW fun mx mp=>mx<ls.length∧(dg ts (mx+1)).lf=none∧mp≤9∧(cq ts s0 (mp+1)).lf=none∧∀(m:Nat) (O:Addr) (H':Hp),m≤mp→(cq ts s0 (m+1)).lf=none→(∀a o,a≠W→H a=some o→H' a=some o)→H O=none→sO H' W ls (cq ts s0 m).ω 300→DO H' O ls (cq ts s0 m).on 300→GW ls (cq ts s0 m).ω 1500→Q (.ref O) H')∨((∀m,m<ls.length→(dg ts (m+1)).lf≠none)∧∀(R:List Nat) (us:List aa) (a dx r:Addr) (H':Hp),fA ts R us→R.length≤10→ah H H'→H' a=some (jd a g (some dx))→H' dx=some (.xd [("ties",.ref r)])→H r=none→H' r=some (.lst (aE R))→E (.ref g) (some dx) H')))
def Ab (g:Addr):Sp:=fun vs H Q E=>Dr g vs H Q E
theorem xC (R:List Nat):aE R=(R.map fun i:Nat=>(i:Int)).map V.int:=by rw [List.map_map];rfl
theorem sN (T:Txt K mg):aZ P w K mg base (p8 P w) 6 T.lift_all_.f T.lift_all_.d ["net", "worths"] (Ab T.x_Gaining):=by
 have G_Gaining__init:=zt (P:=P) (w:=w) (base:=base) T
 have G_lift_once:=pZ (P:=P) (w:=w) (base:=base) T
 have G_gaining_round:=l8 (P:=P) (w:=w) (base:=base) T
 refine T.lift_all_.F.okX nL (fun vs H Q E h=>?_) (fun cdv A outer s H vs Q E hr h=>?_)
 ·obtain ⟨v,W,ls,ts,s0,rfl,_⟩:=h
  rfl
 ·obtain ⟨v,W,ls,ts,s0,rfl,hv,tc,h24,l1,l10,dw,gw,on0,k⟩:=h
  refine ⟨_,‹(@PS.nox _ _ _ ‹(2,nL.nd,gP,‹(G_gaining_round,lM,T.gaining_round_,‹[‹(0,oa)›]›)›)›) :: ‹(@be _ _ _ _ _ _ _ _ (@aq _ _ _ _ _ _ _ _ (@rK _) ‹(2,gP)› (@b8 _ _ _) (@au _ _ (by decide) (by decide))) (@ad _ _ _ (@Be _ _ _ _ _ rfl (@Ev _ _ _ _ _ _ _ _ _ _ _ _ _ _ _) (@Ei _ _ _ _ _ _ _ _ _ _ _ _ _ T.q_Gaining T.fn_Gaining T.k_Gaining G_Gaining__init (hr.mono (by decide)) T.B_Gaining__init qL T.m_Gaining ‹[‹(2,gP)›]› (by decide) (by rfl) (by rfl)))) (@aN _)) :: ‹(@PS.nox _ _ _ ‹(3,nL.nd,iE,(@xT _ _))›) :: ‹(@PS.nox _ _ _ (@jM _ _ _ _ _ _ PassesOwn.never (@aq _ _ _ _ _ _ _ _ (@rK _) ‹(G_lift_once,pQ,T.lift_once_,‹[‹(0,oa)›,‹(1,sx)›,‹(3,iE)›]›)› (@b8 _ _ _) (@au _ _ (by decide) (by decide))) (@ad _ _ _ (@Dx _ _)))) :: (@ad _ _ _ (@PS.nox _ _ _ (@aw _ _ _ _ ‹(3,iE)›)))››››,?_⟩
  rcases k with ⟨mx,mp,hmx,emx,hmp,emp,k⟩ | ⟨hno,k⟩
  case' inr=>
   refine bD fun Q1 nA1=>⟨_,rfl,v,ls,ts,rfl,hv,tc,h24,l1,l10,.inr ⟨hno,fun R us r0 H1 ok hR s1 f0 h0=>nA1 _ _ ?_⟩⟩
   refine bz fun DA nA=>?_
   refine ⟨_,rfl,rfl,_,rfl,bh ⟨_,rfl,(by show 1≤10000;decide),fun y J1 n1=>⟨y,T.x_Gaining,r0,R.map (fun i:Nat=>(i:Int)),_,rfl,n1.at',T.q_Gaining,T.st_Gaining,by rw [←xC];exact n1.sm _ _ h0,fun p dx J2 J3 n2 hd ne e=>⟨rfl,y,T.x_Gaining,some dx,_,rfl,?_,T.q_Gaining,?_⟩⟩⟩⟩
   ·rw [e];exact ar
   obtain ⟨S3,_,k3⟩:=JB n1.fr (n1.sm.trans n2.sm) hd ne e
   have py:p≠y:=fun z=>by have q:=n1.at';rw [←z,n2.fr] at q;cases q
   have hp3:=k3 _ _ n2.at' py
   have fy:∀{b:Addr}{o:HO},H1 b=some o→b≠y:=fun q z=>by rw [z,n1.fr] at q;cases q
   refine k R us y dx p _ ok hR (fun b o q=>?_) ar ?_ ?_ ?_
   ·rw [aj (fy (s1 _ _ q))];exact S3 _ _ (s1 _ _ q)
   ·rw [aj ne,e,aj ne];exact ar
   ·cases q:H p with
    | none=>rfl
    | some o=>have z:=n1.sm _ _ (s1 _ _ q);rw [n2.fr] at z;cases z
   ·rw [aj py,xC];exact hp3
  refine bD fun Q1 nA1=>⟨_,rfl,v,ls,ts,rfl,hv,tc,h24,l1,l10,.inl ⟨mx,hmx,emx,fun H1 s1=>nA1 _ _ ?_⟩⟩
  refine bz fun DA nA=>?_
  refine ⟨_,rfl,rfl,_,rfl,aM (nA _ _ ?_)⟩
  refine bD fun Q2 nA2=>fun O H2 n2=>nA2 _ _ ?_
  obtain ⟨kv,hW,lW,vW⟩:=dw
  have s2:=s1.trans n2.sm
  have fO:H O=none:=s1.free n2.fr
  have nWO:¬W=O:=fun z=>by rw [←z,hW] at fO;cases fO
  have hW2:=s2 _ _ hW
  have f20:∀{J:Hp},cr W O H2 J→∀a o,a≠W→H a=some o→J a=some o:=fun f a o h1 h=>f a o h1 (fun z=>by rw [z,fO] at h;cases h) (s2 _ _ h)
  refine bz fun DB nB=>?_
  refine mZ (fun m σ H'=>∃(i:Nat),σ=[some v,some (.ref W),some .non,some (.ref O)]∧m=mp - i∧i≤mp∧sO H' W ls (cq ts s0 i).ω (10+24*i)∧DO H' O ls (cq ts s0 i).on (10+24*i)∧GW ls (cq ts s0 i).ω (1+144*i)∧cr W O H2 H') _ ⟨0,rfl,rfl,Nat.zero_le _,⟨kv,hW2,by trivial,fun l hl=>⟨fun w e=>let ⟨o,a,b⟩:=(vW l hl).1 w e;⟨o,a,s2 _ _ b⟩,(vW l hl).2⟩⟩,⟨[],n2.at',by simp,fun l hl=>by rw [show (cq ts s0 0).on l=none from on0 l];rfl⟩,gw,fun _ _ _ _ h=>h⟩ ?_
  rintro m σ J ⟨i,rfl,rfl,hi,dw,do',gω,f2⟩ Q D' nD rD qT qF
  have hvJ:aU ED J v (dD ls ts):=hv.mono ⟨fun _ _ n _=>absurd trivial n,fun a us h=>f20 f2 a _ (fun z=>by rw [z,hW] at h;cases h) h⟩
  refine ⟨_,rfl,_,rfl,_,rfl,v,W,O,ls,ts,cq ts s0 i,10+24*i,1+144*i,rfl,hvJ,tc,by trivial,nWO,dw,do',by trivial,gω,by trivial,fun J2 f3 dw2 do2 gω2=>?_⟩
  have es:dS ts (cq ts s0 i)=cq ts s0 (i+1):=rfl
  have gr:GW ls (dS ts (cq ts s0 i)).ω (1+144*(i+1)):=fun l hl w e=>⟨(gω2 l hl w e).1.mono (by trivial) (by trivial),(gω2 l hl w e).2⟩
  have f4:cr W O H2 J2:=fun a o h1 h2 h=>f3 a o h1 h2 (f2 a o h1 h2 h)
  obtain ⟨ko2,hO2,lO2,vO2⟩:=do2
  obtain ⟨kv2,hW3,lW2,vW2⟩:=dw2
  cases e:(dS ts (cq ts s0 i)).lf with
  | none=>
   refine ⟨rfl,_,rfl,qF _ (nB _ _ ⟨_,rfl,?_⟩)⟩
   have eω:=(o8 e).1
   rw [eω] at vW2 gr vO2
   exact k i O J2 hi e (f20 f4) fO ⟨kv2,hW3,by trivial,vW2⟩ ⟨ko2,hO2,by trivial,vO2⟩ fun l hl w e=>⟨(gr l hl w e).1.mono (by trivial) (by trivial),(gr l hl w e).2⟩
  | some l=>
   rw [es] at vW2 vO2 gr e
   refine ⟨rfl,_,rfl,qT _ (nD (mp - (i+1)) _ _ ?_ ⟨i+1,rfl,rfl,?_,⟨kv2,hW3,by trivial,vW2⟩,⟨ko2,hO2,by trivial,vO2⟩,gr,f4⟩)⟩
   ·by_cases c:i=mp
    ·rw [c,emp] at e;cases e
    ·trivial
   ·by_cases c:i=mp
    ·rw [c,emp] at e;cases e
    ·trivial
end
end K13
namespace K13
open PySem L2
section
variable {P:Program}{w:World}{K:PySem.W.Frag}{mg:Str→Option Value}{base:Heap}
theorem Ae (T:Txt K mg):∀n,aZ P w K mg base CX0 (n+1) T.l_same_.f T.l_same_.d ["_law_found", "_law_due"] (Gh n):=by
 intro n
 induction n with
 | zero=>
  refine T.l_same_.F.ok vi (fun vs H Q E h=>?_) (fun cdv A outer s H vs Q E hr h=>?_)
  ·obtain ⟨_,_,_,_,_,_,_,z,_⟩:=h
   exact z.elim
  ·obtain ⟨_,_,_,_,_,_,_,z,_⟩:=h
   exact z.elim
 | succ n G_l_same=>
 refine T.l_same_.F.ok vi (fun vs H Q E h=>?_) (fun cdv A outer s H vs Q E hr h=>?_)
 ·obtain ⟨x,y,d,E,rfl,_⟩:=h
  rfl
 ·obtain ⟨x,y,d,E',rfl,hx,hy,hd,k⟩:=h
  refine ⟨_,‹(@be _ _ _ _ _ _ _ _ (@b9 _ _ _ (@ao _ _ _ _ _ _ _ _ _ (@Ar _ (K) (by rfl)) aT T.b_isinstance (@ax) ‹[‹(1,bw)›,(@aG _ _ _ _ _ ‹[(@dR _ _ _ _ kL T.b_list (@cH) (by decide) (by decide)),(@dR _ _ _ _ jY T.b_tuple (@eQ) (by decide) (by decide))]›)]› (by decide) (by decide) (by rfl) (by rfl)) (by intro _;rfl)) ‹(@be _ _ _ _ _ _ _ _ (@PW.pt _ _ _ (@dO _ _ _ _ _ _ _ (@aq _ _ _ _ _ _ _ _ (@jo _) (@ao _ _ _ _ _ _ _ _ _ (@bV _ (K) (by rfl)) aT T.b_isinstance (@ax) ‹[‹(0,bq)›,(@dR _ _ _ _ kL T.b_list (@cH) (by decide) (by decide))]› (by decide) (by decide) (by rfl) (by rfl)) (@ao _ _ _ _ _ _ _ _ _ (@bV _ (K) (by rfl)) aT T.b_isinstance (@ax) ‹[‹(1,bw)›,(@dR _ _ _ _ kL T.b_list (@cH) (by decide) (by decide))]› (by decide) (by decide) (by rfl) (by rfl)) (@au _ _ (by decide) (by decide))) (@d9 _ _ _ _ (@aq _ _ _ _ _ _ _ _ (@jo _) (@ao _ _ _ _ _ _ _ _ _ (@bV _ (K) (by rfl)) aT T.b_isinstance (@ax) ‹[‹(0,bq)›,(@dR _ _ _ _ jY T.b_tuple (@eQ) (by decide) (by decide))]› (by decide) (by decide) (by rfl) (by rfl)) (@ao _ _ _ _ _ _ _ _ _ (@bV _ (K) (by rfl)) aT T.b_isinstance (@ax) ‹[‹(1,bw)›,(@dR _ _ _ _ jY T.b_tuple (@eQ) (by decide) (by decide))]› (by decide) (by decide) (by rfl) (by rfl)) (@au _ _ (by decide) (by decide)))))) (@ad _ _ _ (@aw _ _ _ _ (@ij _ _ _ _))) (@aN _)) :: (@ad _ _ _ (@aw _ _ _ _ (@i7 _ _ _ _ _ _ _ (@cI _ _ _ _ _ _ _ _ (@cP _) (@ao _ _ _ _ _ _ _ _ _ (@dP _ (K) (by rfl)) qP T.b_len (@aX) ‹[‹(0,bq)›]› (by decide) (by decide) (by rfl) (by rfl)) (@ao _ _ _ _ _ _ _ _ _ (@dP _ (K) (by rfl)) qP T.b_len (@aX) ‹[‹(1,bw)›]› (by decide) (by decide) (by rfl) (by rfl)) (@au _ _ (by decide) (by decide))) (@kr _ _ _ _ _ (@ao _ _ _ _ _ _ _ _ _ (@zF _ (K) rfl (by rfl)) xc T.b_all (@o6) ‹[(@cV _ _ _ _ _ _ _ (["_law_one", "_law_other"]) (2) ([]) _ _ _ _ rfl (by kernel_rfl) (@Cv _ (K) _ _ _ _ _ _ _ _ wT T.b_zip ‹[‹(0,bq)›,‹(1,bw)›]› (by rfl) (by rfl) (by rfl)) (fun _ _ _ _ _ _=>(@fk _ (K) _ _ _ _ (2) rfl (@aS _ _ _ _ _ (@bo _ _ (0) _ (@cE _ (by kernel_rfl)) rfl (Or.inl (by kernel_rfl)) (by first | exact .inl rfl | exact .inr rfl | assumption)) (@aS _ _ _ _ _ (@bo _ _ (1) _ (@cE _ (by kernel_rfl)) rfl (Or.inl (by kernel_rfl)) (by first | exact .inl rfl | exact .inr rfl | assumption)) (@eS _) (by rfl)) (by rfl)) (by rfl) (by rfl) (by rfl))) (fun _ _ _ _ _ _=>@cu _) (fun _ _ _ _ _ _=>(@iq _ _ _ _ _ _ _ _ _ _ _ _ _ _ _ _ G_l_same (hr.mono (by trivial)) (by show _=_;kernel_rfl) T.l_same_.m T.l_same_.F.kp T.l_same_.B .nil (@rA _) ‹[‹(0,())›,‹(1,())›]› (by decide) (by rfl) (by rfl))) (by intro _;rfl))]› (by decide) (by decide) (by rfl) (by rfl))))))› (@aN _)) :: ‹(@be _ _ _ _ _ _ _ _ (@PW.pt _ _ _ (@dO _ _ _ _ _ _ _ (@aq _ _ _ _ _ _ _ _ (@jr _) ‹(1,bw)› (@b8 _ _ _) (@au _ _ (by decide) (by decide))) (@d9 _ _ _ _ (@b9 _ _ _ (@ao _ _ _ _ _ _ _ _ _ (@bV _ (K) (by rfl)) aT T.b_isinstance (@ax) ‹[‹(1,bw)›,(@dR _ _ _ _ mz T.b_str (@iK) (by decide) (by decide))]› (by decide) (by decide) (by rfl) (by rfl)) (by intro _;rfl))))) (@ad _ _ _ (@aw _ _ _ _ (@i7 _ _ _ _ _ _ _ (@cI _ _ _ _ _ _ _ _ (@cP _) ‹(0,bq)› ‹(1,bw)› (@au _ _ (by decide) (by decide))) (@kr _ _ _ _ _ (@cI _ _ _ _ _ _ _ _ (@cP _) (@ao _ _ _ _ _ _ _ _ _ (@bV _ (K) (by rfl)) aT T.b_isinstance (@ax) ‹[‹(0,bq)›,(@dR _ _ _ _ mz T.b_str (@iK) (by decide) (by decide))]› (by decide) (by decide) (by rfl) (by rfl)) (@ao _ _ _ _ _ _ _ _ _ (@bV _ (K) (by rfl)) aT T.b_isinstance (@ax) ‹[‹(1,bw)›,(@dR _ _ _ _ mz T.b_str (@iK) (by decide) (by decide))]› (by decide) (by decide) (by rfl) (by rfl)) (@au _ _ (by decide) (by decide))))))) (@aN _)) :: ‹(@be _ _ _ _ _ _ _ _ (@b9 _ _ _ (@ao _ _ _ _ _ _ _ _ _ (@bV _ (K) (by rfl)) aT T.b_isinstance (@ax) ‹[‹(1,bw)›,(@dR _ _ _ _ kO T.b_bool (@ii) (by decide) (by decide))]› (by decide) (by decide) (by rfl) (by rfl)) (by intro _;rfl)) (@ad _ _ _ (@aw _ _ _ _ (@i7 _ _ _ _ _ _ _ (@ao _ _ _ _ _ _ _ _ _ (@bV _ (K) (by rfl)) aT T.b_isinstance (@ax) ‹[‹(0,bq)›,(@dR _ _ _ _ kO T.b_bool (@ii) (by decide) (by decide))]› (by decide) (by decide) (by rfl) (by rfl)) (@kr _ _ _ _ _ (@cI _ _ _ _ _ _ _ _ (@cP _) ‹(0,bq)› ‹(1,bw)› (@au _ _ (by decide) (by decide))))))) (@aN _)) :: (@ad _ _ _ (@aw _ _ _ _ (@i7 _ _ _ _ _ _ _ (@ao _ _ _ _ _ _ _ _ _ (@bV _ (K) (by rfl)) aT T.b_isinstance (@ax) ‹[‹(0,bq)›,(@dR _ _ _ _ xx T.b_int (@nn) (by decide) (by decide))]› (by decide) (by decide) (by rfl) (by rfl)) (@i7 _ _ _ _ _ _ _ (@EZ _ _ _ _ (@ao _ _ _ _ _ _ _ _ _ (@bV _ (K) (by rfl)) aT T.b_isinstance (@ax) ‹[‹(0,bq)›,(@dR _ _ _ _ kO T.b_bool (@ii) (by decide) (by decide))]› (by decide) (by decide) (by rfl) (by rfl))) (@kr _ _ _ _ _ (@cI _ _ _ _ _ _ _ _ (@cP _) ‹(0,bq)› ‹(1,bw)› (@au _ _ (by decide) (by decide))))))))›››,?_⟩
  refine ⟨_,rfl,(by show 2≤10000;decide),fun p H1 n1=>⟨y,p,d,E',rfl,hy.mono n1.sm.toE,ag.of n1.at',_,rfl,?_⟩⟩
  have s1:=n1.sm
  have hx1:=hx.mono s1.toE
  have hy1:=hy.mono s1.toE
  have k1:=k H1 s1
  have hx2:=hx1
  have hy2:=hy1
  cases hx1 with
  | non=>
   cases hy1
   refine aM ⟨_,rfl,rfl,_,rfl,bh (bh ?_)⟩
   exact ⟨_,rfl,_,rfl,rfl,_,rfl,wJ ⟨_,rfl,_,_,_,_,rfl,hx2.ty,jT _,_,rfl,_,_,_,_,rfl,hy2.ty,jT _,rfl,rO k1⟩⟩
  | str z=>
   cases hy1
   refine aM ⟨_,rfl,rfl,_,rfl,aM ⟨_,rfl,_,_,_,_,rfl,hy2.ty,jT _,_,rfl,bh ?_⟩⟩
   exact ⟨_,rfl,_,rfl,rfl,_,rfl,wJ ⟨_,rfl,_,_,_,_,rfl,hx2.ty,jT _,_,rfl,_,_,_,_,rfl,hy2.ty,jT _,rfl,rO k1⟩⟩
  | bl b=>
   cases hy1
   refine aM ⟨_,rfl,rfl,_,rfl,aM ⟨_,rfl,_,_,_,_,rfl,hy2.ty,jT _,_,rfl,aM ⟨_,rfl,_,_,_,_,rfl,hy2.ty,jN _,_,rfl,bh ?_⟩⟩⟩
   exact ⟨_,rfl,_,_,_,_,rfl,hx2.ty,jN _,_,rfl,bh ⟨_,rfl,_,rfl,rfl,rO k1⟩⟩
  | int i=>
   cases hy1
   refine aM ⟨_,rfl,rfl,_,rfl,aM ⟨_,rfl,_,_,_,_,rfl,hy2.ty,jT _,_,rfl,aM ⟨_,rfl,_,_,_,_,rfl,hy2.ty,jN _,_,rfl,aM ?_⟩⟩⟩
   exact ⟨_,rfl,_,_,_,_,rfl,hx2.ty,DZ _,_,rfl,bh ⟨_,rfl,_,_,_,_,rfl,hx2.ty,jN _,_,rfl,_,rfl,bh ⟨_,rfl,_,rfl,rfl,rO k1⟩⟩⟩
  | @lst a1 xs ds h1 ne1 r1=>
   cases hy1 with
   | @lst a2 ys _ h2 ne2 r2=>
   refine bh ⟨_,rfl,_,_,_,_,rfl,hx2.ty,gY _,_,rfl,_,_,_,_,rfl,hy2.ty,gY _,rfl,_,rfl,jQ ⟨_,rfl,_,_,_,_,rfl,hx2.ty,kE _,_,rfl,_,_,_,_,rfl,hy2.ty,kE _,rfl,_,rfl,jQ ?_⟩⟩
   have el:xs.length=ys.length:=r1.length.trans r2.length.symm
   have ed:=r2.length
   refine ⟨_,rfl,a1,xs,rfl,.inl (am.of h1),_,rfl,a2,ys,rfl,.inl (am.of h2),rfl,_,rfl,?_⟩
   rw [el]
   refine wJ ⟨_,rfl,_,rfl,a1,a2,true,true,rfl,⟨xs,am.of h1⟩,⟨ys,am.of h2⟩,fun D hD=>gQ (n:=ys.length) (CO H1 D) ?_ ⟨rfl,ar,cZ hD (ah.refl _)⟩ ?_ ?_ ?_ ?_ ?_⟩
   ·rw [sizeLine_eq]
    have:=hd.1
    trivial
   ·rintro i H' zs ⟨rfl,q1,_⟩
    exact ⟨q1,by rw [List.length_map,List.length_replicate];exact Nat.le_refl _⟩
   ·rintro i H' zs hi ⟨_,_,q⟩
    exact ⟨xs,ys,xs[i],ys[i],am.of (q _ _ h1),am.of (q _ _ h2),by simp [el,hi],by simp [hi]⟩
   ·rintro H' zs ⟨_,_,q⟩
    exact ⟨xs,ys,am.of (q _ _ h1),am.of (q _ _ h2),.inl el⟩
   ·rintro i H' zs x H'' hi ⟨rfl,q1,q⟩ ⟨t,u,v,ht,rfl,rfl,e1,e2⟩
    have e1':=e1 xs (am.of (q _ _ h1))
    have e2':=e2 ys (am.of (q _ _ h2))
    obtain ⟨du,f1,g1⟩:=r1.get e1'
    obtain ⟨dv,f2,g2⟩:=r2.get e2'
    rw [f1] at f2
    cases f2
    have st:=q.trans (ah.new (o:=.tup [u,v]) ht)
    refine ⟨t,_,rfl,ag.of ar,rfl,_,_,rfl,_,_,rfl,rfl,zK,_,rfl,_,rfl,u,v,du,E',rfl,g1.mono st.toE,g2.mono st.toE,hd.2 du (List.mem_of_getElem? f1),fun H3 s3=>?_⟩
    have qD:H3 D=some (.lst ((List.replicate i true).map V.bl)):=s3 _ _ (ah.new (o:=.tup [u,v]) ht _ _ q1)
    exact ⟨qD,wS i,ar,cZ hD (st.trans s3)⟩
   ·rintro H' zs ⟨rfl,q1,q⟩
    refine ⟨D,List.replicate ys.length true,rfl,am.of q1,?_⟩
    rw [yr]
    exact k H' (s1.trans q)
  | @tup a1 xs ds h1 r1=>
   cases hy1 with
   | @tup a2 ys _ h2 r2=>
   refine bh ⟨_,rfl,_,_,_,_,rfl,hx2.ty,gY _,_,rfl,_,_,_,_,rfl,hy2.ty,gY _,rfl,_,rfl,jQ ⟨_,rfl,_,_,_,_,rfl,hx2.ty,kE _,_,rfl,_,_,_,_,rfl,hy2.ty,kE _,rfl,_,rfl,jQ ?_⟩⟩
   have el:xs.length=ys.length:=r1.length.trans r2.length.symm
   have ed:=r2.length
   refine ⟨_,rfl,a1,xs,rfl,.inr (ag.of h1),_,rfl,a2,ys,rfl,.inr (ag.of h2),rfl,_,rfl,?_⟩
   rw [el]
   refine wJ ⟨_,rfl,_,rfl,a1,a2,false,false,rfl,⟨xs,ag.of h1⟩,⟨ys,ag.of h2⟩,fun D hD=>gQ (n:=ys.length) (CO H1 D) ?_ ⟨rfl,ar,cZ hD (ah.refl _)⟩ ?_ ?_ ?_ ?_ ?_⟩
   ·rw [sizeLine_eq]
    have:=hd.1
    trivial
   ·rintro i H' zs ⟨rfl,q1,_⟩
    exact ⟨q1,by rw [List.length_map,List.length_replicate];exact Nat.le_refl _⟩
   ·rintro i H' zs hi ⟨_,_,q⟩
    exact ⟨xs,ys,xs[i],ys[i],ag.of (q _ _ h1),ag.of (q _ _ h2),by simp [el,hi],by simp [hi]⟩
   ·rintro H' zs ⟨_,_,q⟩
    exact ⟨xs,ys,ag.of (q _ _ h1),ag.of (q _ _ h2),.inl el⟩
   ·rintro i H' zs x H'' hi ⟨rfl,q1,q⟩ ⟨t,u,v,ht,rfl,rfl,e1,e2⟩
    have e1':=e1 xs (ag.of (q _ _ h1))
    have e2':=e2 ys (ag.of (q _ _ h2))
    obtain ⟨du,f1,g1⟩:=r1.get e1'
    obtain ⟨dv,f2,g2⟩:=r2.get e2'
    rw [f1] at f2
    cases f2
    have st:=q.trans (ah.new (o:=.tup [u,v]) ht)
    refine ⟨t,_,rfl,ag.of ar,rfl,_,_,rfl,_,_,rfl,rfl,zK,_,rfl,_,rfl,u,v,du,E',rfl,g1.mono st.toE,g2.mono st.toE,hd.2 du (List.mem_of_getElem? f1),fun H3 s3=>?_⟩
    have qD:H3 D=some (.lst ((List.replicate i true).map V.bl)):=s3 _ _ (ah.new (o:=.tup [u,v]) ht _ _ q1)
    exact ⟨qD,wS i,ar,cZ hD (st.trans s3)⟩
   ·rintro H' zs ⟨rfl,q1,q⟩
    refine ⟨D,List.replicate ys.length true,rfl,am.of q1,?_⟩
    rw [yr]
    exact k H' (s1.trans q)
end
end K13
namespace K13
open PySem L2
set_option maxHeartbeats 4000000
def sE (le:List Nat):LP:=⟨fun l=>if l=le then some (1,1) else none,fun _=>none,none⟩
def aP (ts:List aa) (le:List Nat):LP:=cq ts (sE le) 9
theorem wG {le l:List Nat}{w:KM.Fra} (e:(sE le).ω l=some w):l=le∧w=(1,1):=by
 have e:(if l=le then some ((1,1):KM.Fra) else none)=some w:=e
 by_cases c:l=le
 ·rw [if_pos c] at e;cases e;exact ⟨c,rfl⟩
 ·rw [if_neg c] at e;cases e
theorem yR:KM.vl (1,1)=1:=by decide +kernel
theorem wI (ts:List aa) (le:List Nat):PV ts (sE le).ω (sE le):=by
 refine ⟨fun l w e=>?_,fun _ _=>rfl,(fun l k e=>by cases e),fun l w e=>⟨w,e,Rat.le_refl⟩⟩
 obtain ⟨_,rfl⟩:=wG e
 exact ⟨by decide,by show (1:Int)≤1;decide,by show Int.gcd 1 1=1;decide⟩
theorem EG {ls:List (List Nat)}{ts:List aa}{m:Nat} (tc:∀t∈ts,cb ls t) (h:(dg ts (m+1)).lf=none):CC ls ts (uW (dg ts m)):=by
 have M:=BI.st tc m
 refine ⟨fun l hl=>fH (M.pos l hl).1 (M.pos l hl).2,fun t ht ho=>?_⟩
 have no:=(zW (s:=dg ts m) h).2 t ht
 refine Rat.not_lt.mp fun z=>?_
 rw [(vJ (tc t ht) M.pos).mpr ⟨ho,z⟩] at no
 cases no
structure pY (ts:List aa) (le:List Nat) (tm:List Nat→Nat):Prop where
 pv:PV ts (sE le).ω (aP ts le)
 cl:∀t∈ts,t.most≠(0,1)→Cl (aP ts le) t
 on:∀l k,(aP ts le).on l=some k→eH fun t w we=>ts[k]?=some t∧t.most≠(0,1)∧t.bg=l∧(aP ts le).ω l=some w∧(aP ts le).ω t.en=some we∧KM.vl w=gR t*KM.vl we∧tm t.en<tm l
theorem CN {ls:List (List Nat)}{ts:List aa}{m:Nat} (le:List Nat) (tc:∀t∈ts,cb ls t) (l10:ls.length≤10) (h:(dg ts (m+1)).lf=none):(cq ts (sE le) (9+1)).lf=none:=by
 refine Bh (le:=le) tc l10 (EG tc h) (wI ts le) (fun l w e=>?_) fun l us k hl=>?_
 ·obtain ⟨rfl,rfl⟩:=wG e
  exact ⟨[],.nil,yR⟩
 ·cases k with
  | nil=>exact ⟨(1,1),if_pos rfl,by rw [yR];exact Rat.le_refl⟩
  | cons _ _ _=>simp at hl
theorem uB {ls:List (List Nat)}{ts:List aa}{m:Nat} (le:List Nat) (tc:∀t∈ts,cb ls t) (l10:ls.length≤10) (h:(dg ts (m+1)).lf=none):∃tm,pY ts le tm:=by
 obtain ⟨tm,ct,k⟩:=mU.st tc (wI ts le) ⟨fun _=>0,0,(fun l k e=>by cases e),fun _=>Nat.le_refl _⟩ 9
 have cl:=HP tc (wI ts le) (CN le tc l10 h)
 refine ⟨tm,PV.st tc (wI ts le) 9,cl,fun l kk e=>?_⟩
 obtain ⟨t,w,we,e1,e2,e3,e4,e5,e6,e7⟩:=k.on l kk e
 obtain ⟨wb,e8,e9⟩:=cl t (List.mem_of_getElem? e1) e2 we e5
 rw [e3,e4] at e8
 cases e8
 refine ⟨t,w,we,e1,e2,e3,e4,e5,Rat.le_antisymm e6 e9,Nat.lt_of_not_le fun z=>absurd (e7 z) (Rat.not_lt.mpr e9)⟩
theorem pY.has {ts:List aa}{le:List Nat}{tm:List Nat→Nat} (h:pY ts le tm) {p:List Nat}{w:KM.Fra} (ne:p≠le) (e:(aP ts le).ω p=some w):∃k,(aP ts le).on p=some k:=by
 cases q:(aP ts le).on p with
 | some k=>exact ⟨k,rfl⟩
 | none=>
  have z:=h.pv.no p q
  rw [e] at z
  exact absurd (wG z.symm).1 ne
theorem pY.low {ts:List aa}{le:List Nat}{tm:List Nat→Nat} (h:pY ts le tm):∀n p w,tm p<n→(aP ts le).ω p=some w→p=le∨tm le<tm p
 | 0,p,w,z,_=>absurd z (Nat.not_lt_zero _)
 | n+1,p,w,z,e=>by
  by_cases c:p=le
  ·exact .inl c
  ·right
   obtain ⟨k,ek⟩:=h.has c e
   obtain ⟨t,w',we,e1,e2,e3,e4,e5,e6,e7⟩:=h.on p k ek
   rcases h.low n t.en we (by trivial) e5 with y | y
   ·rw [←y];exact e7
   ·trivial
theorem pY.one {ls:List (List Nat)}{ts:List aa}{le:List Nat}{tm:List Nat→Nat} (tc:∀t∈ts,cb ls t) (h:pY ts le tm):(aP ts le).ω le=some (1,1):=by
 cases q:(aP ts le).on le with
 | none=>
  rw [h.pv.no le q]
  exact if_pos rfl
 | some k=>
  obtain ⟨t,w',we,e1,e2,e3,e4,e5,e6,e7⟩:=h.on le k q
  rcases h.low _ t.en we (Nat.lt_succ_self _) e5 with y | y
  ·exact absurd (e3.trans y.symm) (tc t (List.mem_of_getElem? e1)).ne
  ·trivial
theorem pY.cmp {ls:List (List Nat)}{ts:List aa}{le:List Nat}{tm:List Nat→Nat} (tc:∀t∈ts,cb ls t) (h:pY ts le tm) {l:List Nat}{us:List aa} (k:Wk ts le l us):∃w,(aP ts le).ω l=some w∧bf us≤KM.vl w:=by
 induction k with
 | nil=>exact ⟨_,h.one tc,by rw [yR];exact Rat.le_refl⟩
 | @cons t r ht ho k ih=>
  obtain ⟨we,e,q⟩:=ih
  obtain ⟨wb,e2,q2⟩:=h.cl t ht ho we e
  exact ⟨wb,e2,Rat.le_trans (KM.mul_le_l q (Rat.le_of_lt (fH (tc t ht).g1 (tc t ht).g2))) q2⟩
inductive sL (ts:List aa) (le:List Nat) (on:List Nat→Option Nat):List Nat→List Nat→Prop
 | nil:sL ts le on le []
 | cons {p k t R}:p≠le→on p=some k→ts[k]?=some t→t.bg=p→sL ts le on t.en R→sL ts le on p (k :: R)
theorem pY.way {ls:List (List Nat)}{ts:List aa}{le:List Nat}{tm:List Nat→Nat} (tc:∀t∈ts,cb ls t) (h:pY ts le tm):∀n p w,tm p<n→p∈ls→(aP ts le).ω p=some w→aW fun R us=>sL ts le (aP ts le).on p R∧bQ ls ts p R us∧us.map (·.bg)++[le]=p :: us.map (·.en)∧bf us=KM.vl w∧∀x∈us.map (·.en),tm x<tm p
 | 0,p,w,z,_,_=>absurd z (Nat.not_lt_zero _)
 | n+1,p,w,z,hp,e=>by
  by_cases c:p=le
  ·subst c
   rw [h.one tc] at e
   cases e
   exact ⟨[],[],.nil,⟨rfl,(fun t ht=>by cases ht),⟨p,rfl⟩,by simp,fun x hx=>by rw [List.mem_singleton.mp hx];exact hp⟩,rfl,yR.symm,fun x hx=>by cases hx⟩
  ·obtain ⟨k,ek⟩:=h.has c e
   obtain ⟨t,w',we,e1,e2,e3,e4,e5,e6,e7⟩:=h.on p k ek
   rw [e] at e4
   cases e4
   have ht:=List.mem_of_getElem? e1
   obtain ⟨R,us,fo,ok,ch,pe,tms⟩:=pY.way tc h n t.en we (by trivial) (tc t ht).e e5
   have nl:∀x∈t.en :: us.map (·.en),tm x<tm p:=fun x hx=>by
    rcases List.mem_cons.mp hx with rfl | hx
    ·exact e7
    ·have:=tms x hx;trivial
   have ch2:(t :: us).map (·.bg)++[le]=p :: (t :: us).map (·.en):=by rw [List.map_cons,List.map_cons,List.cons_append,ch,e3]
   refine ⟨k :: R,t :: us,.cons c ek e1 e3 fo,⟨by rw [List.map_cons,List.map_cons,ok.at',e1],fun x hx=>?_,⟨le,ch2⟩,?_,fun x hx=>?_⟩,ch2,by rw [oY,pe,e6],fun x hx=>nl x hx⟩
   ·rcases List.mem_cons.mp hx with rfl | hx
    ·exact e2
    ·exact ok.op x hx
   ·refine List.nodup_cons.mpr ⟨fun hx=>?_,ok.nd⟩
    exact absurd (nl p hx) (Nat.lt_irrefl _)
   ·rcases List.mem_cons.mp hx with rfl | hx
    ·exact hp
    ·exact ok.sub x hx
theorem sL.uniq {ts:List aa}{le:List Nat}{on:List Nat→Option Nat}{p R:List Nat} (h:sL ts le on p R):∀{R':List Nat},sL ts le on p R'→R'=R:=by
 induction h with
 | nil=>
  intro R' k
  cases k with
  | nil=>rfl
  | cons ne _ _ _ _=>exact absurd rfl ne
 | cons ne eo et eb _ ih=>
  intro R' k
  cases k with
  | nil=>exact absurd rfl ne
  | cons _ eo' et' _ k'=>
   rw [eo] at eo'
   cases eo'
   rw [et] at et'
   cases et'
   rw [ih k']
section
variable {P:Program}{w:World}{K:PySem.W.Frag}{mg:Str→Option Value}{base:Heap}
theorem xY {ls:List (List Nat)}{ts:List aa}{le:List Nat}{g:Addr}{H:Hp}{Q:VK}{E:XK}{v:V}{W:Addr}{o:Addr} (hv:aU ED H v (dD ls ts)) (tc:∀t∈ts,fK ls t) (h24:ts.length≤24) (l1:1≤ls.length) (l10:ls.length≤10)
 (hW:H W=some (.dK [(Sum.inr (S le),.ref o)])) (ho:H o=some (fr (1,1)))
 (k:(∃mx,mx<ls.length∧(dg ts (mx+1)).lf=none∧∀(O:Addr) (H':Hp),(∀a o,a≠W→H a=some o→H' a=some o)→H O=none→sO H' W ls (aP ts le).ω 300→DO H' O ls (aP ts le).on 300→GW ls (aP ts le).ω 1500→Q (.ref O) H')∨
  ((∀m,m<ls.length→(dg ts (m+1)).lf≠none)∧∀(R:List Nat) (us:List aa) (a dx r:Addr) (H':Hp),fA ts R us→R.length≤10→ah H H'→H' a=some (jd a g (some dx))→H' dx=some (.xd [("ties",.ref r)])→H r=none→H' r=some (.lst (aE R))→E (.ref g) (some dx) H')):Ab g [v,.ref W] H Q E:=by
 have tk:∀t∈ts,cb ls t:=fun t ht=>(tc t ht).tok
 refine ⟨v,W,ls,ts,sE le,rfl,hv,tc,h24,l1,l10,⟨_,hW,by show 1≤10;decide,fun l hl=>?_⟩,fun l hl w e=>?_,fun _=>rfl,?_⟩
 ·have e1:valD [((Sum.inr (S le):aJ),V.ref o)] (Sum.inr (S l))=if l=le then some (.ref o) else none:=by
   by_cases c:l=le
   ·subst c;rw [if_pos rfl];unfold valD;rw [List.find?_cons,decide_eq_true rfl];rfl
   ·have n:¬(Sum.inr (S le):aJ)=Sum.inr (S l):=qr fun z=>c z.symm
    rw [if_neg c];unfold valD;rw [List.find?_cons,decide_eq_false n];rfl
  have e2:(sE le).ω l=if l=le then some (1,1) else none:=rfl
  rw [e1,e2]
  by_cases c:l=le
  ·rw [if_pos c,if_pos c]
   exact ⟨fun w e=>by cases e;exact ⟨o,rfl,ho⟩,fun z=>by cases z⟩
  ·rw [if_neg c,if_neg c]
   exact ⟨fun w e=>(by cases e),fun _=>rfl⟩
 ·obtain ⟨_,rfl⟩:=wG e
  exact ⟨zf,(by show (1:Int)≤1;decide)⟩
 ·rcases k with ⟨mx,h1,h2,k⟩ | k
  ·refine .inl ⟨mx,9,h1,h2,Nat.le_refl _,CN le tk l10 h2,fun m O H' hm em f fO dw do' gw=>?_⟩
   obtain ⟨q1,q2⟩:=Gj em (9 - m)
   rw [show m+(9 - m)=9 by trivial] at q1 q2
   rw [←q1] at dw gw
   rw [←q2] at do'
   exact k O H' f fO dw do' gw
  ·exact .inr k
def Fj (g:Addr) (ls:List (List Nat)) (ts:List aa) (H:Hp) (E:XK) (k:Prop):Prop:=
 (∃mx,mx<ls.length∧(dg ts (mx+1)).lf=none∧k)∨
 ((∀m,m<ls.length→(dg ts (m+1)).lf≠none)∧∀(R:List Nat) (us:List aa) (a dx r:Addr) (H':Hp),fA ts R us→R.length≤10→ah H H'→H' a=some (jd a g (some dx))→H' dx=some (.xd [("ties",.ref r)])→H r=none→H' r=some (.lst (aE R))→E (.ref g) (some dx) H')
inductive Il (g:Addr) (vs:List V) (H:Hp) (Q:VK) (E:XK):Prop
 | mk (v:V) (ls:List (List Nat)) (ts:List aa) (lb le:List Nat) (h0:vs=[v,af lb,af le]) (h1:aU ED H v (dD ls ts)) (h2:(∀t∈ts,fK ls t)) (h3:ts.length≤24) (h4:1≤ls.length) (h5:ls.length≤10) (h6:lb∈ls) (h7:Fj g ls ts H E (∀H':Hp,ah H H'→(∀w o,(aP ts le).ω lb=some w→H' o=some (fr w)→Gb 1500 1500 w→Q (.ref o) H')∧((aP ts le).ω lb=none→Q .non H')))
def Jh (g:Addr):Sp:=fun vs H Q E=>Il g vs H Q E
theorem mr (T:Txt K mg):aZ P w K mg base (p8 P w) 7 T.greatest_gain_.f T.greatest_gain_.d ["net", "begin", "end"] (Jh T.x_Gaining):=by
 have G_lift_all:=sN (P:=P) (w:=w) (base:=base) T
 refine T.greatest_gain_.F.okX lI (fun vs H Q E h=>?_) (fun cdv A outer s H vs Q E hr h=>?_)
 ·obtain ⟨v,ls,ts,lb,le,rfl,_⟩:=h
  rfl
 ·obtain ⟨v,ls,ts,lb,le,rfl,hv,tc,h24,l1,l10,hb,k⟩:=h
  refine ⟨_,‹(@PS.nox _ _ _ ‹(3,lI.nd,fj,(@tP _ _ _ _ _ _ ‹(2,qo)› (@aG _ _ _ _ _ ‹[‹0›,‹0›]›)))›) :: ‹(@fJ _ _ _ _ (@iq _ _ _ _ _ _ _ _ _ _ _ _ _ _ _ _ G_lift_all (hr.mono (by decide)) mH T.lift_all_.m T.lift_all_.F.kp T.lift_all_.B .nil (@CK _ _ _ _ _ _ _ _ _ _ _ _ _ _ _) ‹[‹(0,qj)›,‹(3,fj)›]› (by decide) (by rfl) (by rfl)) (by rfl)) :: (@ad _ _ _ (@PS.nox _ _ _ (@aw _ _ _ _ (@DV _ _ _ _ _ _ _ ‹(3,fj)› ‹(1,oD)› (by rfl) (by rfl) (by rfl) (by rfl)))))››,?_⟩
  refine bD fun Q1 nA1=>fun W H1 n1=>⟨_,rfl,Sum.inr (S le),rfl,(by show 2≤10000;decide),fun o H2 n2=>⟨n2.sm _ _ n1.at',fun H3 c3=>nA1 _ _ ?_⟩⟩
  refine bz fun DA nA=>?_
  have s3:ah H H3:=fun a u h=>c3.ol a u (fun z=>by rw [z,n1.fr] at h;cases h) (n2.sm _ _ (n1.sm _ _ h))
  have oW:o≠W:=fun z=>by have:=n2.fr;rw [z,n1.at'] at this;cases this
  refine ⟨_,rfl,_,rfl,?_⟩
  refine xY (g:=T.x_Gaining) (E:=E) (Q:=fun _ J=>DA.nx _ J) (hv.mono s3.toE) tc h24 l1 l10 c3.at' (c3.ol o _ oW n2.at') ?_
  rcases k with ⟨mx,h1,h2,k⟩ | ⟨hno,k⟩
  case' inr=>exact .inr ⟨hno,fun R us a dx r H' ok hR sm ha hdx fr hr'=>k R us a dx r H' ok hR (s3.trans sm) ha hdx (s3.free fr) hr'⟩
  refine .inl ⟨mx,h1,h2,fun O H4 f4 fO dw do' gw=>?_⟩
  refine nA _ _ ?_
  obtain ⟨kv,hW,lW,vW⟩:=dw
  have s4:ah H H4:=fun a u h=>f4 a u (fun z=>by rw [z,n1.fr] at h;cases h) (s3 _ _ h)
  refine ⟨_,rfl,W,kv,rfl,hW,_,rfl,kv,Sum.inr (S lb),rfl,hW,?_⟩
  cases e:(aP ts le).ω lb with
  | none=>
   rw [(vW lb hb).2 e]
   exact (k H4 s4).2 e
  | some w=>
   obtain ⟨o',v',h'⟩:=(vW lb hb).1 w e
   rw [v']
   exact (k H4 s4).1 w o' e h' (gw lb hb w e).1
inductive HX (g:Addr) (vs:List V) (H:Hp) (Q:VK) (E:XK):Prop
 | mk (v:V) (ls:List (List Nat)) (ts:List aa) (lb le:List Nat) (h0:vs=[v,af lb,af le]) (h1:aU ED H v (dD ls ts)) (h2:(∀t∈ts,fK ls t)) (h3:ts.length≤24) (h4:1≤ls.length) (h5:ls.length≤10) (h6:lb∈ls) (h7:Fj g ls ts H E (∀H':Hp,ah H H'→(∀w R r,(aP ts le).ω lb=some w→sL ts le (aP ts le).on lb R→H r=none→H' r=some (.lst (aE R))→Q (.ref r) H')∧((aP ts le).ω lb=none→Q .non H')))
def IL (g:Addr):Sp:=fun vs H Q E=>HX g vs H Q E
theorem ya (T:Txt K mg):aZ P w K mg base (p8 P w) 7 T.best_way_.f T.best_way_.d ["net", "begin", "end"] (IL T.x_Gaining):=by
 have G_lift_all:=sN (P:=P) (w:=w) (base:=base) T
 refine T.best_way_.F.okX gv (fun vs H Q E h=>?_) (fun cdv A outer s H vs Q E hr h=>?_)
 ·obtain ⟨v,ls,ts,lb,le,rfl,_⟩:=h
  rfl
 ·obtain ⟨v,ls,ts,lb,le,rfl,hv,tc,h24,l1,l10,hb,k⟩:=h
  obtain ⟨na,pa,ta,ys,rfl,hna,hpa,hta,ity⟩:=cX hv
  refine ⟨_,‹(@PS.nox _ _ _ ‹(3,gv.nd,iA,(@tP _ _ _ _ _ _ ‹(2,oj)› (@aG _ _ _ _ _ ‹[‹0›,‹0›]›)))›) :: ‹‹(4,gv.nd,iy,(@iq _ _ _ _ _ _ _ _ _ _ _ _ _ _ _ _ G_lift_all (hr.mono (by decide)) ql T.lift_all_.m T.lift_all_.F.kp T.lift_all_.B .nil (@CK _ _ _ _ _ _ _ _ _ _ _ _ _ _ _) ‹[‹(0,oB)›,‹(3,iA)›]› (by decide) (by rfl) (by rfl)))› :: ‹(@PS.nox _ _ _ (@be _ _ _ _ _ _ _ _ (@aq _ _ _ _ _ _ _ _ (@pM _) ‹(1,mE)› ‹(3,iA)› rfl) (@ad _ _ _ (@aw _ _ _ _ (@b8 _ _ _))) (@aN _))) :: ‹(@PS.nox _ _ _ ‹(5,gv.nd,jL,(@bJ _ _ _ _ (@b7 _)))›) :: ‹(@PS.nox _ _ _ ‹(6,gv.nd,d6,‹(1,mE)›)›) :: ‹(@PS.nox _ _ _ (@jM _ _ _ _ _ _ PassesOwn.never (@aq _ _ _ _ _ _ _ _ (@jo _) ‹(6,d6)› ‹(2,oj)› (@au _ _ (by decide) (by decide))) ‹(@fJ _ _ _ _ (@fE _ (K) _ _ _ _ _ _ _ _ _ _ _ PySem.F.plainAttrs_list PySem.F.slot_list_append PySem.F.type_list_append (@io _) ‹(5,jL)› ‹[(@cf _ _ _ _ _ _ _ (@eM _) ‹(4,iy)› ‹(6,d6)› (fun _ _=>rfl))]› (by rfl) (by rfl) (by rfl) (by rfl) (by rfl) (by rfl)) (by rfl)) :: (@ad _ _ _ ‹(6,gv.nd,d6,‹‹‹‹(0,oB)›[‹0›]›[(@cf _ _ _ _ _ _ _ (@eM _) ‹(4,iy)› ‹(6,d6)› (fun _ _=>rfl))]›[‹0›]›)›)›)) :: (@ad _ _ _ (@PS.nox _ _ _ (@aw _ _ _ _ ‹(5,jL)›)))››››››,?_⟩
  refine bD fun Q1 nA1=>fun W H1 n1=>⟨_,rfl,Sum.inr (S le),rfl,(by show 2≤10000;decide),fun o H2 n2=>⟨n2.sm _ _ n1.at',fun H3 c3=>nA1 _ _ ?_⟩⟩
  refine bD fun Q2 nA=>?_
  have s3:ah H H3:=fun a u h=>c3.ol a u (fun z=>by rw [z,n1.fr] at h;cases h) (n2.sm _ _ (n1.sm _ _ h))
  have oW:o≠W:=fun z=>by have:=n2.fr;rw [z,n1.at'] at this;cases this
  refine ⟨_,rfl,_,rfl,?_⟩
  refine xY (g:=T.x_Gaining) (E:=E) (hv.mono s3.toE) tc h24 l1 l10 c3.at' (c3.ol o _ oW n2.at') ?_
  rcases k with ⟨mx,h1,h2,k⟩ | ⟨hno,k⟩
  case' inr=>exact .inr ⟨hno,fun R us a dx r H' ok hR sm ha hdx fr hr'=>k R us a dx r H' ok hR (s3.trans sm) ha hdx (s3.free fr) hr'⟩
  refine .inl ⟨mx,h1,h2,fun O H4 f4 fO dw do' gw=>?_⟩
  refine nA _ _ ?_
  have tk:∀t∈ts,cb ls t:=fun t ht=>(tc t ht).tok
  obtain ⟨tm,FN⟩:=uB le tk l10 h2
  obtain ⟨kv,hW,lW,vW⟩:=dw
  obtain ⟨ko,hO,lO,vO⟩:=do'
  have s4:ah H H4:=fun a u h=>f4 a u (fun z=>by rw [z,n1.fr] at h;cases h) (s3 _ _ h)
  refine zz fun DB nB rB=>⟨_,rfl,_,rfl,W,kv,Sum.inr (S lb),rfl,rfl,hW,_,rfl,?_⟩
  cases e:(aP ts le).ω lb with
  | none=>
   rw [(vW lb hb).2 e]
   exact bh (rB _ _ ((k H4 s4).2 e))
  | some w=>
   obtain ⟨o',v',h'⟩:=(vW lb hb).1 w e
   rw [v']
   refine aM (nB _ _ ?_)
   obtain ⟨R0,us0,fo0,ok0,ch0,_,_⟩:=FN.way tk _ lb w (Nat.lt_succ_self _) hb e
   have lR0:R0.length≤9:=by
    have e1:R0.length=us0.length:=by have:=congrArg List.length ok0.at';simpa using this
    have:=kd (xs:=lb :: us0.map (·.en)) (ys:=ls) ok0.nd ok0.sub
    simp only [List.length_cons,List.length_map] at this
    trivial
   refine bD fun Q3 nA3=>⟨Nat.zero_le _,fun r H5 n5=>nA3 _ _ ?_⟩
   refine bD fun Q4 nA4=>⟨_,rfl,nA4 _ _ ?_⟩
   have fr':H r=none:=s4.free n5.fr
   refine bz fun DC nC=>?_
   refine mZ (fun m σ H'=>eH fun (p pre R:List Nat)=>σ=[some (.ref na),some (af lb),some (af le),some (.ref W),some (.ref O),some (.ref r),some (af p)]∧m=R.length∧R0=pre++R∧p∈ls∧sL ts le (aP ts le).on p R∧H' r=some (.lst (aE pre))∧ah H4 H') _ ⟨lb,[],R0,rfl,rfl,rfl,hb,fo0,n5.at',n5.sm⟩ ?_
   rintro m σ J ⟨p,pre,R,rfl,rfl,eR,hp,fo,hr5,sm⟩ Q D' nD rD qT qF
   refine ⟨_,rfl,_,rfl,rfl,_,rfl,?_⟩
   have lp:pre.length+R.length≤9:=by rw [eR,List.length_append] at lR0;exact lR0
   cases fo with
   | nil=>
    have q:(!decide (af le=af le))=false:=by simp
    rw [q]
    refine qF _ (nC _ _ ⟨_,rfl,?_⟩)
    rw [List.append_nil] at eR
    exact (k J (s4.trans sm)).1 w R0 r e fo0 fr' (by rw [eR];exact hr5)
   | @cons p kk t R c eo et eb fo=>
    subst eb
    have q:(!decide (af t.bg=af le))=true:=by
     rw [decide_eq_false]
     ·rfl
     ·intro z
      injection z with z
      exact c (j7 z)
    rw [q]
    refine qT _ ?_
    have tt:=tc t (List.mem_of_getElem? et)
    have vo:valD ko (Sum.inr (S t.bg))=some (.int (kk:Int)):=by rw [vO t.bg hp,eo];rfl
    obtain ⟨y,ey⟩:∃y,ys[kk]?=some y:=⟨_,List.getElem?_eq_getElem (by rw [ity.length,List.length_map];exact (List.getElem?_eq_some_iff.mp et).1)⟩
    obtain ⟨dy,edy,gy⟩:=ity.get ey
    rw [List.getElem?_map,et] at edy
    obtain rfl:kM t=dy:=Option.some.inj edy
    obtain ⟨o3,om,og,op',rfl,hto,_,_,_⟩:=jR gy
    refine bz fun DE nE=>⟨_,rfl,.inl ⟨rfl,_,am.of hr5⟩,_,rfl,_,rfl,O,ko,Sum.inr (S t.bg),_,rfl,rfl,sm _ _ hO,vo,r,_,_,rfl,rfl,hr5,by rw [List.length_map];trivial,fun J4 c4=>nE _ _ ?_⟩
    have sm4:ah H4 J4:=fun a u h=>c4.ol a u (fun z=>by rw [z,n5.fr] at h;cases h) (sm a u h)
    have sm5:=s4.trans sm4
    refine ⟨_,rfl,na,_,_,_,rfl,rfl,ag.of (sm5 _ _ hna),rfl,_,rfl,_,rfl,O,ko,Sum.inr (S t.bg),_,rfl,rfl,sm4 _ _ hO,vo,ta,ys,_,_,rfl,rfl,ag.of (sm5 _ _ hta),cY ey,o3,_,_,_,rfl,rfl,ag.of (sm5 _ _ hto),rfl,?_⟩
    refine nD R.length _ _ (Nat.lt_succ_self _) ⟨t.en,pre++[kk],R,rfl,rfl,?_,tt.e,fo,?_,sm4⟩
    ·rw [eR];simp
    ·rw [c4.at']
     simp [aE]
end
end K13
namespace K13
open PySem L2
section
variable {P:Program}{w:World}{K:PySem.W.Frag}{mg:Str→Option Value}{base:Heap}
theorem BC {l:List Addr} (h:l.Nodup) {i j:Nat}{c d:Addr} (hi:l[i]?=some c) (hj:l[j]?=some d) (n:i≠j):c≠d:=fun z=>by
 obtain ⟨h1,e1⟩:=List.getElem?_eq_some_iff.mp hi
 obtain ⟨h2,e2⟩:=List.getElem?_eq_some_iff.mp hj
 have pw:=List.pairwise_iff_getElem.mp h
 rcases Nat.lt_or_gt_of_ne n with q | q
 ·exact pw i j h1 h2 q (by rw [e1,e2,z])
 ·exact pw j i h2 h1 q (by rw [e1,e2,z])
theorem ip (T:Txt K mg) {j:Nat}{d:Addr} (hj:(wE T)[j]?=some d) (n:j≠8):PySem.W.kitOne K (.ref T.x_Gaining) (.ref d)=some false:=by
 have h8:(wE T)[8]?=some T.x_Gaining:=rfl
 rw [(xl T.kn (List.mem_of_getElem? h8)).2.2.2 d (List.mem_of_getElem? hj),decide_eq_false (BC (Bl T.kn) h8 hj (Ne.symm n))]
def wd:Bool→Str
 | true => "gain"
 | false => "way"
inductive De (g:Addr) (vs:List V) (H:Hp) (Q:VK):Prop
 | mk (b:Bool) (v:V) (ls:List (List Nat)) (ts:List aa) (lb le:List Nat) (h0:vs=[.str (wd b),v,af lb,af le]) (h1:aU ED H v (dD ls ts)) (h2:(∀t∈ts,fK ls t)) (h3:ts.length≤24) (h4:1≤ls.length) (h5:ls.length≤10) (h6:lb∈ls) (h7:((∃mx,mx<ls.length∧(dg ts (mx+1)).lf=none∧∀(tp:Addr) (H':Hp),ah H H'→(∀w o,b=true→(aP ts le).ω lb=some w→H' o=some (fr w)→Gb 1500 1500 w→H' tp=some (.tup [.str "told",.ref o])→Q (.ref tp) H')∧(∀w R r,b=false→(aP ts le).ω lb=some w→sL ts le (aP ts le).on lb R→H r=none→H' r=some (.lst (aE R))→H' tp=some (.tup [.str "told",.ref r])→Q (.ref tp) H')∧((aP ts le).ω lb=none→H' tp=some (.tup [.str "told",.non])→Q (.ref tp) H'))∨((∀m,m<ls.length→(dg ts (m+1)).lf≠none)∧∀(R:List Nat) (us:List aa) (r tp:Addr) (H':Hp),fA ts R us→R.length≤10→ah H H'→H r=none→H' tp=some (.tup [.str "refused",.ref r])→H' r=some (.lst (aE R))→Q (.ref tp) H')))
def Gf (g:Addr):Sp:=fun vs H Q _=>De g vs H Q
theorem vS (T:Txt K mg):aZ P w K mg base CX0 8 T.l_all_told_.f T.l_all_told_.d ["_law_which", "_law_net", "_law_begin", "_law_end"] (Gf T.x_Gaining):=by
 have G_greatest_gain:=mr (P:=P) (w:=w) (base:=base) T
 have G_best_way:=ya (P:=P) (w:=w) (base:=base) T
 refine T.l_all_told_.F.ok cj (fun vs H Q E h=>?_) (fun cdv A outer s H vs Q E hr h=>?_)
 ·obtain ⟨b,v,ls,ts,lb,le,rfl,_⟩:=h
  rfl
 ·obtain ⟨b,v,ls,ts,lb,le,rfl,hv,tc,h24,l1,l10,hb,k⟩:=h
  refine ⟨_,‹(@gj _ _ _ _ _ _ (@aG _ _ _ _ _ ‹[(@b8 _ _ _),(@b8 _ _ _)]›) (@fk _ (K) _ _ _ _ (2) rfl (@aS _ _ _ _ _ ‹(4,cj.nd,dN)› (@aS _ _ _ _ _ ‹(5,cj.nd,bu)› (@eS _) (by rfl)) (by rfl)) (by rfl) (by rfl) (by rfl)) (by rfl) (by rfl) (by rfl)) :: ‹(@Gu _ _ _ _ _ _ _ _ _ _ _ _ (6) rfl rfl cj.nd rfl kz nQ T.m_GainError (fun EE pn xe hx=>(@ad _ _ _ (@be _ _ _ _ _ _ _ _ (@aq _ _ _ _ _ _ _ _ (@cP _) ‹(0,jB)› (@dh _ _ _ _) (@au _ _ (by decide) (by decide))) (@ad _ _ _ (@Eo _ _)) (@ad _ _ _ (@be _ _ _ _ _ _ _ _ (@aq _ _ _ _ _ _ _ _ (@cP _) ‹(0,jB)› (@dh _ _ _ _) (@au _ _ (by decide) (by decide))) (@ad _ _ _ ‹(4,cj.nd,dN,(@xw _ _ _ _ _ _ _ _ _ _ _ _ _ _ G_greatest_gain (hr.mono (by decide)) kH T.greatest_gain_.m T.greatest_gain_.F.kp T.greatest_gain_.B hx ‹[‹(1,kj)›,‹(2,je)›,‹(3,kq)›]› (by decide) (by rfl) (by rfl)))›) (@ad _ _ _ ‹(4,cj.nd,dN,(@xw _ _ _ _ _ _ _ _ _ _ _ _ _ _ G_best_way (hr.mono (by decide)) oN T.best_way_.m T.best_way_.F.kp T.best_way_.B hx ‹[‹(1,kj)›,‹(2,je)›,‹(3,kq)›]› (by decide) (by rfl) (by rfl)))›)))))) (fun _=>(@ad _ _ _ ‹(5,cj.nd,bu,‹(6,kz)›)›)) (by decide)) :: ‹(@be _ _ _ _ _ _ _ _ (@aq _ _ _ _ _ _ _ _ (@jr _) ‹(5,bu)› (@b8 _ _ _) (@au _ _ (by decide) (by decide))) (@ad _ _ _ (@aw _ _ _ _ (@aG _ _ _ _ _ ‹[(@dh _ _ _ _),‹(4,dN)›]›))) (@aN _)) :: ‹‹(7,cj.nd,dA,(@ao _ _ _ _ _ _ _ _ _ (@pU _ (K) (by rfl)) cO T.b_isinstance (@ax) ‹[‹(5,bu)›,(@aG _ _ _ _ _ ‹[(@eZ _ _ _ _ nt T.m_BadNumber (by decide)),(@eZ _ _ _ _ qu T.m_Taken (by decide)),(@eZ _ _ _ _ pf T.m_NoPlace (by decide)),(@eZ _ _ _ _ qY T.m_NoTie (by decide)),(@eZ _ _ _ _ qc T.m_AsItIs (by decide)),(@eZ _ _ _ _ qh T.m_NoEnds (by decide)),(@eZ _ _ _ _ sj T.m_Over (by decide)),(@eZ _ _ _ _ pA T.m_TooMuch (by decide)),(@eZ _ _ _ _ nV T.m_NotSoMuch (by decide)),(@eZ _ _ _ _ qB T.m_Short (by decide))]›)]› (by decide) (by decide) (by rfl) (by rfl)))› :: ‹‹(7,cj.nd,dA,(@Hm _ _ _ _ _ _ _ ‹(7,dA)› (@kr _ _ _ _ _ (@ao _ _ _ _ _ _ _ _ _ (@pU _ (K) (by rfl)) cO T.b_isinstance (@ax) ‹[‹(5,bu)›,(@aG _ _ _ _ _ ‹[(@eZ _ _ _ _ pD T.m_Lacking (by decide)),(@eZ _ _ _ _ qm T.m_BadRow (by decide)),(@eZ _ _ _ _ oK T.m_BadSheet (by decide))]›)]› (by decide) (by decide) (by rfl) (by rfl)))))› :: ‹(@be _ _ _ _ _ _ _ _ (@PW.pt _ _ _ (@dO _ _ _ _ _ _ _ (@b9 _ _ _ ‹(7,dA)› (by intro _;rfl)) (@dO _ _ _ _ _ _ _ (@gW _ _ _ _ (@b9 _ _ _ (@ao _ _ _ _ _ _ _ _ _ (@qW _ (K) (by rfl)) cO T.b_isinstance (@ax) ‹[‹(5,bu)›,(@eZ _ _ _ _ pH T.m_Gaining (by decide))]› (by decide) (by decide) (by rfl) (by rfl)) (by intro _;rfl))) (@d9 _ _ _ _ (@gW _ _ _ _ (@b9 _ _ _ (@ao _ _ _ _ _ _ _ _ _ (@qW _ (K) (by rfl)) cO T.b_isinstance (@ax) ‹[‹(5,bu)›,(@dR _ _ _ _ mI T.b_ValueError (@qV) (by decide) (by decide))]› (by decide) (by decide) (by rfl) (by rfl)) (by intro _;rfl))))))) (@ad _ _ _ (@aw _ _ _ _ (@aG _ _ _ _ _ ‹[(@dh _ _ _ _),(@b8 _ _ _)]›))) (@aN _)) :: (@ad _ _ _ (@aw _ _ _ _ (@aG _ _ _ _ _ ‹[(@dh _ _ _ _),(@Ak _ (K) _ _ _ _ ‹(5,bu)› (by rfl) (by rfl))]›)))››››››,?_⟩
  refine bz fun D0 n0=>⟨(by show 2≤10000;decide),fun t0 H0 m0=>⟨t0,_,rfl,ag.of m0.at',rfl,_,_,rfl,_,_,rfl,rfl,n0 _ _ ?_⟩⟩
  refine bz fun DA nA=>?_
  refine ⟨_,rfl,rfl,_,rfl,?_⟩
  have hv0:=hv.mono m0.sm.toE
  have q1:decide (V.str (wd b)=V.str "worths")=false:=by cases b <;> decide +kernel
  have q2:decide (V.str (wd b)=V.str "gain")=b:=by cases b <;> decide +kernel
  rw [q1]
  refine aM ⟨_,rfl,rfl,_,rfl,?_⟩
  rw [q2]
  rcases k with ⟨mx,hmx,emx,k⟩ | ⟨hno,k⟩
  ·cases b with
   | true=>
    refine bh ⟨_,rfl,_,rfl,_,rfl,v,ls,ts,lb,le,rfl,hv0,tc,h24,l1,l10,hb,.inl ⟨mx,hmx,emx,fun H1 s1=>⟨fun w o e ho gb=>nA _ _ ?_,fun e=>nA _ _ ?_⟩⟩⟩
    ·refine ⟨_,rfl,rfl,_,rfl,bh ⟨_,rfl,(by show 2≤10000;decide),fun tp H2 n2=>?_⟩⟩
     exact (k tp H2 ((m0.sm.trans s1).trans n2.sm)).1 w o rfl e (n2.sm _ _ ho) gb n2.at'
    ·refine ⟨_,rfl,rfl,_,rfl,bh ⟨_,rfl,(by show 2≤10000;decide),fun tp H2 n2=>?_⟩⟩
     exact (k tp H2 ((m0.sm.trans s1).trans n2.sm)).2.2 e n2.at'
   | false=>
    refine aM ⟨_,rfl,_,rfl,_,rfl,v,ls,ts,lb,le,rfl,hv0,tc,h24,l1,l10,hb,.inl ⟨mx,hmx,emx,fun H1 s1=>⟨fun w R r e fo f0 hr1=>nA _ _ ?_,fun e=>nA _ _ ?_⟩⟩⟩
    ·refine ⟨_,rfl,rfl,_,rfl,bh ⟨_,rfl,(by show 2≤10000;decide),fun tp H2 n2=>?_⟩⟩
     exact (k tp H2 ((m0.sm.trans s1).trans n2.sm)).2.1 w R r rfl e fo (m0.sm.free f0) (n2.sm _ _ hr1) n2.at'
    ·refine ⟨_,rfl,rfl,_,rfl,bh ⟨_,rfl,(by show 2≤10000;decide),fun tp H2 n2=>?_⟩⟩
     exact (k tp H2 ((m0.sm.trans s1).trans n2.sm)).2.2 e n2.at'
  ·cases b
   case' true=>refine bh ⟨_,rfl,_,rfl,_,rfl,v,ls,ts,lb,le,rfl,hv0,tc,h24,l1,l10,hb,.inr ⟨hno,fun R us a dx r H1 ok hR s1 ha hdx fr1 hr1=>?_⟩⟩
   case' false=>refine aM ⟨_,rfl,_,rfl,_,rfl,v,ls,ts,lb,le,rfl,hv0,tc,h24,l1,l10,hb,.inr ⟨hno,fun R us a dx r H1 ok hR s1 ha hdx fr1 hr1=>?_⟩⟩
   all_goals
    intro a' C' eC ha'
    cases eC
    refine ⟨T.em_Gaining_GainError,⟨_,rfl,nA _ _ ?_⟩⟩
    have h8:(wE T)[8]?=some T.x_Gaining:=rfl
    obtain ⟨q1,q2,q3,q4⟩:=xl T.kn (List.mem_of_getElem? h8)
    have q8:PySem.W.kitOne K (.ref T.x_Gaining) (.ref T.x_Gaining)=some true:=by rw [q4 _ (List.mem_of_getElem? h8)];simp
    refine bz fun DB nB=>⟨_,rfl,rfl,_,rfl,aM (nB _ _ ?_)⟩
    refine bD fun Q3 n3=>⟨_,rfl,(by show 10≤10000;decide),fun tq H2 m2=>⟨a',T.x_Gaining,dx,tq,_,[.ref T.x_BadNumber,.ref T.x_Taken,.ref T.x_NoPlace,.ref T.x_NoTie,.ref T.x_AsItIs,.ref T.x_NoEnds,.ref T.x_Over,.ref T.x_TooMuch,.ref T.x_NotSoMuch,.ref T.x_Short],false,rfl,⟨m2.sm _ _ ha',_,m2.sm _ _ hdx⟩,m2.at',rfl,q1,qN fun c hc=>?_,n3 _ _ ?_⟩⟩
    ·have hc':c=.ref T.x_BadNumber∨c=.ref T.x_Taken∨c=.ref T.x_NoPlace∨c=.ref T.x_NoTie∨c=.ref T.x_AsItIs∨c=.ref T.x_NoEnds∨c=.ref T.x_Over∨c=.ref T.x_TooMuch∨c=.ref T.x_NotSoMuch∨c=.ref T.x_Short:=by simpa using hc
     rcases hc' with rfl | rfl | rfl | rfl | rfl | rfl | rfl | rfl | rfl | rfl
     ·exact ip T (j:=0) rfl (by decide)
     ·exact ip T (j:=1) rfl (by decide)
     ·exact ip T (j:=2) rfl (by decide)
     ·exact ip T (j:=3) rfl (by decide)
     ·exact ip T (j:=4) rfl (by decide)
     ·exact ip T (j:=5) rfl (by decide)
     ·exact ip T (j:=6) rfl (by decide)
     ·exact ip T (j:=7) rfl (by decide)
     ·exact ip T (j:=9) rfl (by decide)
     ·exact ip T (j:=10) rfl (by decide)
    refine bD fun Q4 n4=>⟨_,rfl,_,rfl,aM ⟨_,rfl,(by show 3≤10000;decide),fun tq2 H3 m3=>⟨a',T.x_Gaining,dx,tq2,_,[.ref T.x_Lacking,.ref T.x_BadRow,.ref T.x_BadSheet],false,rfl,⟨m3.sm _ _ (m2.sm _ _ ha'),_,m3.sm _ _ (m2.sm _ _ hdx)⟩,m3.at',rfl,q1,qN fun c hc=>?_,n4 _ _ ?_⟩⟩⟩
    ·have hc':c=.ref T.x_Lacking∨c=.ref T.x_BadRow∨c=.ref T.x_BadSheet:=by simpa using hc
     rcases hc' with rfl | rfl | rfl
     ·exact ip T (j:=11) rfl (by decide)
     ·exact ip T (j:=12) rfl (by decide)
     ·exact ip T (j:=13) rfl (by decide)
    have S3:=m2.sm.trans m3.sm
    have ha3:=S3 _ _ ha'
    have hd3:=S3 _ _ hdx
    refine bz fun DC nC=>⟨_,rfl,_,rfl,aM ⟨_,rfl,a',T.x_Gaining,dx,_,_,true,rfl,⟨ha3,_,hd3⟩,rfl,q1,q8,_,rfl,aM ⟨_,rfl,a',T.x_Gaining,dx,_,_,true,rfl,⟨ha3,_,hd3⟩,rfl,q1,q3,_,rfl,aM (nC _ _ ?_)⟩⟩⟩
    refine ⟨_,rfl,a',T.x_Gaining,dx,_,_,rfl,ha3,hd3,Jz,T.fd_Gaining,(by show 2≤10000;decide),fun tp H4 m4=>?_⟩
    exact k R us r tp H4 ok hR (((m0.sm.trans s1).trans S3).trans m4.sm) (m0.sm.free fr1) m4.at' (m4.sm _ _ (S3 _ _ hr1))
end
end K13
namespace K13
open PySem L2
set_option maxHeartbeats 4000000
theorem bQ.mem {ls:List (List Nat)}{ts:List aa}{l0:List Nat}{R:List Nat}{us:List aa} (h:bQ ls ts l0 R us) {t:aa} (ht:t∈us):t∈ts:=by
 have m:some t∈R.map (fun k=>ts[k]?):=by rw [h.at'];exact List.mem_map_of_mem ht
 obtain ⟨k,_,hk⟩:=List.mem_map.mp m
 exact List.mem_of_getElem? hk
theorem wL:∀{a b:List Nat},aE a=aE b→a=b
 | [],[],_=>rfl
 | [],_ :: _,h=>by cases h
 | _ :: _,[],h=>by cases h
 | x :: r,y :: r',h=>by
  injection h with h1 h2
  injection h1 with h1
  rw [wL h2,Int.ofNat.inj h1]
theorem wW:∀{a b:List aa},a.map some=b.map some→a=b
 | [],[],_=>rfl
 | [],_ :: _,h=>by cases h
 | _ :: _,[],h=>by cases h
 | x :: r,y :: r',h=>by
  injection h with h1 h2
  injection h1 with h1
  rw [wW h2,h1]
theorem Bi {ls:List (List Nat)}{ts:List aa}{l0:List Nat}{R:List Nat}{us us':List aa} (h:bQ ls ts l0 R us) (k:bQ ls ts l0 R us'):us=us':=wW (h.at'.symm.trans k.at')
theorem C0 {ts:List aa}{le:List Nat}:∀{us:List aa}{l0:List Nat},(∀t∈us,t∈ts∧t.most≠(0,1))→us.map (·.bg)++[le]=l0 :: us.map (·.en)→Wk ts le l0 us
 | [],l0,_,e=>by
  have:le=l0:=by simpa using e
  subst this
  exact .nil
 | t :: r,l0,h,e=>by
  simp only [List.map_cons,List.cons_append,List.cons.injEq] at e
  obtain ⟨rfl,e⟩:=e
  exact .cons (h t (by simp)).1 (h t (by simp)).2 (C0 (fun x hx=>h x (by simp [hx])) e)
theorem bQ.last {ls:List (List Nat)}{ts:List aa}{l0:List Nat}{R:List Nat}{us:List aa}{t:aa} (h:bQ ls ts l0 R (us++[t])):(us++[t]).map (·.bg)++[t.en]=l0 :: (us++[t]).map (·.en):=by
 obtain ⟨c,hc⟩:=h.ch
 have e:c=t.en:=by
  have:=congrArg List.getLast? hc
  rw [List.getLast?_concat,List.map_append] at this
  rw [show l0 :: (us.map (·.en)++[t].map (·.en))=(l0 :: us.map (·.en))++[t.en] from rfl,List.getLast?_concat] at this
  exact Option.some.inj this
 rw [←e];exact hc
theorem bQ.wk {ls:List (List Nat)}{ts:List aa}{l0:List Nat}{R:List Nat}{us:List aa}{t:aa} (h:bQ ls ts l0 R (us++[t])):Wk ts t.en l0 (us++[t]):=C0 (fun x hx=>⟨h.mem hx,h.op x hx⟩) h.last
theorem uF {α:Type}{us:List α} (h:us≠[]):aW fun us' t'=>us=us'++[t']:=by
 rcases List.eq_nil_or_concat us with e | ⟨us',t',e⟩
 ·exact absurd e h
 ·exact ⟨us',t',by rw [e,List.concat_eq_append]⟩
structure Sf (ts:List aa) (lb le:List Nat) (f:KM.Fra):Prop where
 gf:Gb 80 80 f
 rf:KM.Rd f
 wk:∃us,Wk ts le lb us∧KM.vl f=bf us
section
variable {P:Program}{w:World}{K:PySem.W.Frag}{mg:Str→Option Value}{base:Heap}
inductive Bd (vs:List V) (H:Hp) (Q:VK):Prop
 | mk (v:V) (ls:List (List Nat)) (ts:List aa) (lb le:List Nat) (mx:Nat) (h0:vs=[v,af lb,af le]) (h1:aU ED H v (dD ls ts)) (h2:(∀t∈ts,fK ls t)) (h3:ts.length≤24) (h4:ls.length≤6) (h5:lb∈ls) (h6:lb≠le) (h7:(dg ts (mx+1)).lf=none) (h8:∀H':Hp,ah H H'→(∀w o,(aP ts le).ω lb=some w→H' o=some (fr w)→Q (.ref o) H')∧((aP ts le).ω lb=none→Q .non H'))
def Dt:Sp:=fun vs H Q _=>Bd  vs H Q
theorem yg (T:Txt K mg):aZ P w K mg base CX0 4 T.l_due_of_.f T.l_due_of_.d ["_law_net", "_law_begin", "_law_end"] Dt:=by
 have G_l_all_ways:=ww (P:=P) (w:=w) (base:=base) T
 have G_l_gain_of:=lJ (P:=P) (w:=w) (base:=base) T
 have G_l_above:=pT (P:=P) (w:=w) (base:=base) T
 refine T.l_due_of_.F.ok iG (fun vs H Q E h=>?_) (fun cdv A outer s H vs Q E hr h=>?_)
 ·obtain ⟨v,ls,ts,lb,le,mx,rfl,_⟩:=h
  rfl
 ·obtain ⟨v,ls,ts,lb,le,mx,rfl,hv,tc,h24,l6,hlb,nbe,emx,k⟩:=h
  have tk:∀t∈ts,cb ls t:=fun t ht=>(tc t ht).tok
  obtain ⟨tm,FN⟩:=uB le tk (by trivial) emx
  obtain ⟨na,pa,ta,ys,rfl,hna,hpa,hta,ity⟩:=cX hv
  refine ⟨_,‹‹(3,iG.nd,cz,(@b8 _ _ _))› :: ‹(@fM _ _ _ _ _ _ _ _ PassesOwn.never rfl (@cx _ (K) _ _ _ ‹(G_l_all_ways,ow,T.l_all_ways_,‹[‹(0,iX)›,‹(1,qy)›]›)› (by rfl)) ‹(4,iG.nd,iO)› (@ad _ _ _ (@be _ _ _ _ _ _ _ _ (@aq _ _ _ _ _ _ _ _ (@cP _) ‹‹‹‹(0,iX)›[‹0›]›[‹‹(4,iO)›[(@pz _ _ _ _ _ _ (@lV _) ‹0›)]!›]›[‹0›]› ‹(2,sS)› (@au _ _ (by decide) (by decide))) ‹‹(5,iG.nd,iF,‹(G_l_gain_of,pS,T.l_gain_of_,‹[‹(0,iX)›,‹(4,iO)›]›)›)› :: (@ad _ _ _ ‹(3,iG.nd,cz,(@fu _ _ _ _ _ _ _ _ (@PW.pt _ _ _ (@dO _ _ _ _ _ _ _ (@aq _ _ _ _ _ _ _ _ (@jr _) ‹(3,cz)› (@b8 _ _ _) (@au _ _ (by decide) (by decide))) (@d9 _ _ _ _ (@aq _ _ _ _ _ _ _ _ (@lc _) ‹(G_l_above,qU,T.l_above_,‹[‹(5,iF)›,‹(3,cz)›]›)› ‹0› (@au _ _ (by decide) (by decide)))))) ‹(5,iF)› ‹(3,cz)›))›)› (@aN _))) (by intro _;rfl)) :: (@ad _ _ _ (@aw _ _ _ _ ‹(3,cz)›))››,?_⟩
  refine bD fun Q1 n1=>n1 _ _ ?_
  refine bz fun DA nA=>?_
  refine ⟨_,rfl,_,rfl,.ref na,ls,ts,lb,rfl,hv,tc,h24,l6,hlb,fun F W xs H2 s2 fF hF fnd cmp=>⟨F,rfl,⟨_,am.of hF⟩,lK (xs:=xs) (fun j σ H'=>eH fun (x:V) (v3 v4:Option V)=>σ=[some (.ref na),some (af lb),some (af le),some x,v3,v4]∧ah H2 H'∧
   ((x=.non∧∀(j':Nat) (a:Addr) (R:List Nat) (us:List aa) (t:aa),j'<j→xs[j']?=some (.ref a)→H2 a=some (.lst (aE R))→bQ ls ts lb R (us++[t])→t.en≠le)∨
    (aW fun o f=>x=.ref o∧H' o=some (fr f)∧Sf ts lb le f∧∀(j':Nat) (a:Addr) (R:List Nat) (us:List aa) (t:aa),j'<j→xs[j']?=some (.ref a)→H2 a=some (.lst (aE R))→bQ ls ts lb R (us++[t])→t.en=le→bf (us++[t])≤KM.vl f))) ⟨.non,_,_,rfl,ah.refl _,.inl ⟨rfl,fun j' a R us t z=>by trivial⟩⟩ ?_ ?_ ?_⟩⟩
  ·rintro j σ H' _ ⟨_,_,_,_,sm,_⟩
   exact am.of (sm _ _ hF)
  ·rintro j x σ J hx ⟨xf,v3,v4,rfl,sm,old⟩
   obtain ⟨a,R,us,rfl,n1',n2',ha,ne,ok⟩:=fnd x (List.mem_of_getElem? hx)
   have lR:R.length=us.length:=by have:=congrArg List.length ok.at';simpa using this
   have lus:us.length+1≤ls.length:=by
    have:=kd (xs:=lb :: us.map (·.en)) (ys:=ls) ok.nd ok.sub
    simpa using this
   obtain ⟨us',t,rfl⟩:=uF ne
   obtain ⟨R',j2,rfl⟩:=uF (us:=R) (fun e=>by rw [e] at lR;simp at lR)
   have et:ts[j2]?=some t:=by
    have:=ok.at'
    rw [List.map_append,List.map_append] at this
    have:=(List.append_inj_right' this rfl)
    simpa using this
   obtain ⟨o3,om3,og3,op3,ey3,h13,_,_,_⟩:=kB ity et
   have elast:gO (aE (R'++[j2])) (-1)=some (V.int (j2:Int)):=by
    rw [show aE (R'++[j2])=aE R'++[V.int (j2:Int)] by simp [aE]]
    exact tK _ _
   have smJ:=s2.trans sm
   have same1:∀(a':Addr) (R1:List Nat) (us1:List aa) (t1:aa),xs[j]?=some (.ref a')→H2 a'=some (.lst (aE R1))→bQ ls ts lb R1 (us1++[t1])→us1++[t1]=us'++[t]:=fun a' R1 us1 t1 e1 e2 e3=>by
    rw [hx] at e1
    cases e1
    rw [ha] at e2
    injection e2 with e2
    injection e2 with e2
    have eR:=wL e2
    subst eR
    exact (Bi ok e3).symm
   refine ph (t:=zR _ _ _) fun DB nB=>?_
   refine ⟨_,rfl,na,_,_,_,rfl,rfl,ag.of (smJ _ _ hna),rfl,_,rfl,1,rfl,a,_,_,_,rfl,rfl,am.of (sm _ _ ha),elast,ta,_,_,_,rfl,rfl,ag.of (smJ _ _ hta),cY ey3,o3,_,_,_,rfl,rfl,ag.of (smJ _ _ h13),rfl,_,rfl,rfl,_,rfl,?_⟩
   by_cases c:t.en=le
   ·rw [decide_eq_true (congrArg af c)]
    refine bh ?_
    refine bD fun Q2 n2=>⟨_,rfl,_,rfl,.ref na,a,ls,ts,R'++[j2],us'++[t],rfl,hv.mono smJ.toE,tc,sm _ _ ha,ok.at',by trivial,fun g q J2 gg rg eg s3 hq=>n2 _ _ ?_⟩
    have wk:Wk ts le lb (us'++[t]):=by rw [←c];exact ok.wk
    have sfg:Sf ts lb le g:=⟨gg,rg,_,wk,eg⟩
    rcases old with ⟨rfl,old⟩ | ⟨o,f,rfl,ho,sf,old⟩
    ·refine ⟨_,rfl,rfl,_,rfl,bh ⟨_,rfl,nB _ _ ⟨.ref q,_,_,rfl,sm.trans s3,.inr ⟨q,g,rfl,hq,sfg,fun j' a' R1 us1 t1 hj' e1 e2 e3 e4=>?_⟩⟩⟩⟩
     by_cases z:j'=j
     ·subst z
      rw [same1 a' R1 us1 t1 e1 e2 e3,eg]
      exact Rat.le_refl
     ·exact absurd e4 (old j' a' R1 us1 t1 (by trivial) e1 e2 e3)
    ·have lt:(0<g.1*f.2 - f.1*g.2)↔KM.vl f<KM.vl g:=by
      rw [i5 sf.rf.1 rg.1]
      constructor <;> intro z <;> trivial
     have ho2:=s3 _ _ ho
     have gf:=sf.gf
     have new:∀{f':KM.Fra},KM.vl f≤KM.vl f'→KM.vl g≤KM.vl f'→∀(j':Nat) (a':Addr) (R1:List Nat) (us1:List aa) (t1:aa),j'<j+1→xs[j']?=some (.ref a')→H2 a'=some (.lst (aE R1))→bQ ls ts lb R1 (us1++[t1])→t1.en=le→bf (us1++[t1])≤KM.vl f':=fun l1 l2 j' a' R1 us1 t1 hj' e1 e2 e3 e4=>by
      by_cases z:j'=j
      ·subst z
       rw [same1 a' R1 us1 t1 e1 e2 e3,←eg]
       exact l2
      ·exact Rat.le_trans (old j' a' R1 us1 t1 (by trivial) e1 e2 e3 e4) l1
     refine ⟨_,rfl,rfl,_,rfl,aM ⟨_,rfl,_,rfl,q,o,g,f,rfl,hq,ho2,gg.n.mono (by decide),gg.d.mono (by decide),gf.n.mono (by decide),gf.d.mono (by decide),_,_,rfl,rfl,_,rfl,?_⟩⟩
     by_cases c:0<g.1*f.2 - f.1*g.2
     ·rw [decide_eq_true c]
      exact bh ⟨_,rfl,nB _ _ ⟨.ref q,_,_,rfl,sm.trans s3,.inr ⟨q,g,rfl,hq,sfg,new (Rat.le_of_lt (lt.mp c)) Rat.le_refl⟩⟩⟩
     ·rw [decide_eq_false c]
      exact aM ⟨_,rfl,nB _ _ ⟨.ref o,_,_,rfl,sm.trans s3,.inr ⟨o,f,rfl,ho2,sf,new Rat.le_refl (Rat.not_lt.mp fun z=>c (lt.mpr z))⟩⟩⟩
   ·rw [decide_eq_false (fun z=>by injection z with z;exact c (j7 z))]
    refine aM (nB _ _ ⟨xf,_,_,rfl,sm,?_⟩)
    rcases old with ⟨rfl,old⟩ | ⟨o,f,rfl,ho,sf,old⟩
    ·refine .inl ⟨rfl,fun j' a' R1 us1 t1 hj' e1 e2 e3=>?_⟩
     by_cases z:j'=j
     ·subst z
      have:=same1 a' R1 us1 t1 e1 e2 e3
      have e5:t1=t:=by have:=(List.append_inj_right' this rfl);simpa using this
      rw [e5];exact c
     ·exact old j' a' R1 us1 t1 (by trivial) e1 e2 e3
    ·refine .inr ⟨o,f,rfl,ho,sf,fun j' a' R1 us1 t1 hj' e1 e2 e3 e4=>?_⟩
     by_cases z:j'=j
     ·subst z
      have:=same1 a' R1 us1 t1 e1 e2 e3
      have e5:t1=t:=by have:=(List.append_inj_right' this rfl);simpa using this
      rw [e5] at e4;exact absurd e4 c
     ·exact old j' a' R1 us1 t1 (by trivial) e1 e2 e3 e4
  ·rintro σ J ⟨xf,v3,v4,rfl,sm,old⟩
   have get:∀w,(aP ts le).ω lb=some w→yC fun (j':Nat) (a:Addr) (R:List Nat) (us:List aa) (t:aa)=>j'<xs.length∧xs[j']?=some (.ref a)∧H2 a=some (.lst (aE R))∧bQ ls ts lb R (us++[t])∧t.en=le∧bf (us++[t])=KM.vl w:=fun w e=>by
    obtain ⟨R,us,fo,ok,ch,pe,_⟩:=FN.way tk _ lb w (Nat.lt_succ_self _) hlb e
    have ne:us≠[]:=fun z=>by
     rw [z] at ch
     have:le=lb:=by simpa using ch
     exact nbe this.symm
    obtain ⟨a,R',ma,ha,ok'⟩:=cmp R us ok ne
    obtain ⟨j',hj'⟩:=List.getElem?_of_mem ma
    obtain ⟨us',t,rfl⟩:=uF ne
    refine ⟨j',a,R',us',t,(List.getElem?_eq_some_iff.mp hj').1,hj',ha,ok',?_,pe⟩
    have q:=ok.last
    rw [←ch] at q
    have:=(List.append_inj_right' q rfl)
    simpa using this
   refine nA _ _ ⟨_,rfl,?_⟩
   have kk:=k J (s2.trans sm)
   rcases old with ⟨rfl,old⟩ | ⟨o,f,rfl,ho,sf,old⟩
   ·refine kk.2 ?_
    cases e:(aP ts le).ω lb with
    | none=>rfl
    | some w=>
     obtain ⟨j',a,R,us,t,h1,h2,h3,h4,h5,_⟩:=get w e
     exact absurd h5 (old j' a R us t h1 h2 h3 h4)
   ·obtain ⟨us,wk,ef⟩:=sf.wk
    obtain ⟨w,e,q⟩:=FN.cmp tk wk
    obtain ⟨j',a,R,us',t,h1,h2,h3,h4,h5,h6⟩:=get w e
    have q2:=old j' a R us' t h1 h2 h3 h4 h5
    rw [h6] at q2
    have eq:f=w:=sf.rf.eq (FN.pv.pos lb w e).2 (Rat.le_antisymm (by rw [ef];exact q) q2)
    subst eq
    exact kk.1 f o e ho
end
end K13
namespace K13
open PySem L2
set_option maxHeartbeats 4000000
theorem BP (ys:List V) (y:V):iU (ys++[y]) none (some (-1))=ys:=by
 have e:HT.sIx (ys++[y]).length (ys++[y]).length (some (-1))=ys.length:=by
  unfold HT.sIx
  simp
  trivial
 unfold iU
 rw [e,HT.sIx_none]
 simp
theorem GS (R:List Nat):(R.map fun k:Nat=>(Sum.inl (k:Int):aJ)).map f9=aE R:=by
 rw [List.map_map];rfl
theorem Gk {R:List Nat} (h:R.Nodup):(R.map fun k:Nat=>(Sum.inl (k:Int):aJ)).Nodup:=by
 rw [List.nodup_iff_pairwise_ne,List.pairwise_map]
 refine List.Pairwise.imp (fun {a b} hab z=>?_) (List.nodup_iff_pairwise_ne.mp h)
 injection z with z
 exact hab (Int.ofNat.inj z)
theorem bQ.ndR {ls:List (List Nat)}{ts:List aa}{l0 le:List Nat}{R:List Nat}{us:List aa} (h:bQ ls ts l0 R us) (ch:us.map (·.bg)++[le]=l0 :: us.map (·.en)):R.Nodup:=by
 have nb:(us.map (·.bg)).Nodup:=by
  have:=h.nd
  rw [←ch] at this
  exact (List.nodup_append.mp this).1
 have e:R.map (fun k=>(ts[k]?).map (·.bg))=(us.map (·.bg)).map some:=by
  have:=congrArg (List.map fun x:Option aa=>x.map (·.bg)) h.at'
  rw [List.map_map,List.map_map] at this
  rw [List.map_map]
  exact this
 have n2:((us.map (·.bg)).map some).Nodup:=by
  rw [List.nodup_iff_pairwise_ne,List.pairwise_map]
  exact List.Pairwise.imp (fun {a b} hab z=>hab (Option.some.inj z)) (List.nodup_iff_pairwise_ne.mp nb)
 rw [←e,List.nodup_iff_pairwise_ne,List.pairwise_map] at n2
 exact List.nodup_iff_pairwise_ne.mpr (List.Pairwise.imp (fun {a b} hab z=>hab (by rw [z])) n2)
section
variable {P:Program}{w:World}{K:PySem.W.Frag}{mg:Str→Option Value}{base:Heap}
inductive Bs (vs:List V) (H:Hp) (Q:VK):Prop
 | mk (v:V) (a:Addr) (ls:List (List Nat)) (ts:List aa) (lb le:List Nat) (R:List Nat) (us:List aa) (h0:vs=[v,.ref a,af lb,af le]) (h1:aU ED H v (dD ls ts)) (h2:(∀t∈ts,fK ls t)) (h3:ts.length≤24) (h4:(∀l∈ls,ir l)) (h5:H a=some (.lst (aE R))) (h6:bQ ls ts lb R us) (h7:us.map (·.bg)++[le]=lb :: us.map (·.en)) (h8:us≠[]) (h9:R.length≤10) (h10:∀H':Hp,ah H H'→Q (.bl true) H')
def DT:Sp:=fun vs H Q _=>Bs  vs H Q
theorem zr (T:Txt K mg):aZ P w K mg base CX0 4 T.l_leads_.f T.l_leads_.d ["_law_net", "_law_way", "_law_begin", "_law_end"] DT:=by
 have G_l_opened:=mY (P:=P) (w:=w) (base:=base) T
 refine T.l_leads_.F.ok uC (fun vs H Q E h=>?_) (fun cdv A outer s H vs Q E hr h=>?_)
 ·obtain ⟨v,a,ls,ts,lb,le,R,us,rfl,_⟩:=h
  rfl
 ·obtain ⟨v,a,ls,ts,lb,le,R,us,rfl,hv,tc,h24,nc,ha,ok,ch,une,l10,k⟩:=h
  obtain ⟨na,pa,ta,ys,rfl,hna,hpa,hta,ity⟩:=cX hv
  have lR:R.length=us.length:=by have:=congrArg List.length ok.at';simpa using this
  have lN:(aE R).length=R.length:=List.length_map ..
  have ndR:=ok.ndR ch
  refine ⟨_,‹(@be _ _ _ _ _ _ _ _ (@PW.pt _ _ _ (@dO _ _ _ _ _ _ _ (@gW _ _ _ _ (@b9 _ _ _ (@ao _ _ _ _ _ _ _ _ _ (@bV _ (K) (by rfl)) pK T.b_isinstance (@ax) ‹[‹(1,bW)›,(@dR _ _ _ _ uP T.b_list (@cH) (by decide) (by decide))]› (by decide) (by decide) (by rfl) (by rfl)) (by intro _;rfl))) (@dO _ _ _ _ _ _ _ (@aq _ _ _ _ _ _ _ _ (@xK _ hr.units) ‹(1,bW)› (@bJ _ _ _ _ (@b7 _)) (@au _ _ (by decide) (by decide))) (@d9 _ _ _ _ (@gW _ _ _ _ (@b9 _ _ _ (@ao _ _ _ _ _ _ _ _ _ (@zF _ (K) rfl (by rfl)) wn T.b_all (@o6) ‹[(@cV _ _ _ _ _ _ _ (["_law_number", "_law_net"]) (1) ([0]) _ _ _ _ rfl (by kernel_rfl) (@cx _ (K) _ _ _ ‹(1,bW)› (by rfl)) (fun _ _ _ _ _ _=>(@bo _ _ (0) _ (@cE _ (by kernel_rfl)) rfl (Or.inl (by kernel_rfl)) (by first | exact .inl rfl | exact .inr rfl | assumption))) (fun _ _ _ _ _ _=>@cu _) (fun _ _ _ _ _ _=>(@cI _ _ _ _ _ _ _ _ (@ES _ (K) (by rfl)) ‹(0,())› (@iq _ _ _ _ _ _ _ _ _ _ _ _ _ _ _ _ G_l_opened (hr.mono (by decide)) (by show _=_;kernel_rfl) T.l_opened_.m T.l_opened_.F.kp T.l_opened_.B .nil (@rA _) ‹[‹(1,0)›]› (by decide) (by rfl) (by rfl)) rfl)) (by intro _;rfl))]› (by decide) (by decide) (by rfl) (by rfl)) (by intro _;rfl))))))) (@ad _ _ _ (@aw _ _ _ _ (@ij _ _ _ _))) (@aN _)) :: ‹(@be _ _ _ _ _ _ _ _ (@PW.pt _ _ _ (@dO _ _ _ _ _ _ _ (@b9 _ _ _ (@ao _ _ _ _ _ _ _ _ _ (@C1 _ (K) rfl (by rfl)) wo T.b_any (@ur) ‹[(@cV _ _ _ _ _ _ _ (["_law_number"]) (1) ([]) _ _ _ _ rfl (by kernel_rfl) (@cx _ (K) _ _ _ ‹(1,bW)› (by rfl)) (fun _ _ _ _ _ _=>(@bo _ _ (0) _ (@cE _ (by kernel_rfl)) rfl (Or.inl (by kernel_rfl)) (by first | exact .inl rfl | exact .inr rfl | assumption))) (fun _ _ _ _ _ _=>@cu _) (fun _ _ _ _ _ _=>(@ao _ _ _ _ _ _ _ _ _ (@bV _ (K) (by rfl)) (by show _=_;kernel_rfl) T.b_isinstance (@ax) ‹[‹(0,())›,(@dR _ _ _ _ (by show _=_;kernel_rfl) T.b_bool (@ii) (by decide) (by decide))]› (by decide) (by decide) (by rfl) (by rfl))) (by intro _;rfl))]› (by decide) (by decide) (by rfl) (by rfl)) (by intro _;rfl)) (@d9 _ _ _ _ (@aq _ _ _ _ _ _ _ _ (@jo _) (@vP _ (K) _ _ _ _ _ _ ‹(1,bW)› rfl pX T.b_len wu T.b_set (by rfl) (by rfl)) (@ao _ _ _ _ _ _ _ _ _ (@dP _ (K) (by rfl)) pX T.b_len (@aX) ‹[‹(1,bW)›]› (by decide) (by decide) (by rfl) (by rfl)) (@au _ _ (by decide) (by decide)))))) (@ad _ _ _ (@aw _ _ _ _ (@ij _ _ _ _))) (@aN _)) :: ‹‹(4,uC.nd,iC,(@ak _ _ _ _ _ _ _ _ (@jX _) (@bJ _ _ _ _ ‹[‹(2,ss)›]›) (@cV _ _ _ _ _ _ _ (["_law_number", "_law_net"]) (1) ([0]) _ _ _ _ rfl (by kernel_rfl) (@cx _ (K) _ _ _ ‹(1,bW)› (by rfl)) (fun _ _ _ _ _ _=>(@bo _ _ (0) _ (@cE _ (by kernel_rfl)) rfl (Or.inl (by kernel_rfl)) (by first | exact .inl rfl | exact .inr rfl | assumption))) (fun _ _ _ _ _ _=>@cu _) (fun _ _ _ _ _ _=>‹‹‹‹(1,0)›[‹0›]›[‹(0,())›]›[‹0›]›) (by intro _;rfl))))› :: (@ad _ _ _ (@aw _ _ _ _ (@i7 _ _ _ _ _ _ _ (@cI _ _ _ _ _ _ _ _ (@xK _ hr.units) (@cV _ _ _ _ _ _ _ (["_law_number", "_law_net"]) (1) ([0]) _ _ _ _ rfl (by kernel_rfl) (@cx _ (K) _ _ _ ‹(1,bW)› (by rfl)) (fun _ _ _ _ _ _=>(@bo _ _ (0) _ (@cE _ (by kernel_rfl)) rfl (Or.inl (by kernel_rfl)) (by first | exact .inl rfl | exact .inr rfl | assumption))) (fun _ _ _ _ _ _=>@cu _) (fun _ _ _ _ _ _=>‹‹‹‹(1,0)›[‹0›]›[‹(0,())›]›[‹0›]›) (by intro _;rfl)) (@fZ _ _ _ _ _ _ _ _ _ _ (@iQ _ (K) (by rfl)) ‹(4,iC)› (@i4 _) (@gl _ _ _ (@pz _ _ _ _ _ _ (@lV _) ‹0›))) (@au _ _ (by decide) (by decide))) (@kr _ _ _ _ _ (@cI _ _ _ _ _ _ _ _ (@cP _) ‹‹(4,iC)›[(@pz _ _ _ _ _ _ (@lV _) ‹0›)]!› ‹(3,tZ)› (@au _ _ (by decide) (by decide)))))))›››,?_⟩
  have ity0:∀{ks:List Nat}{H:Hp},H a=some (.lst (aE ks))→aU (fun _=>False) H (.ref a) (.list (ks.map fun k:Nat=>PyData.int (k:Int))):=fun {ks H} h=>.lst h (fun z=>z) (by
   clear h
   induction ks with
   | nil=>exact .nil
   | cons k r ih=>exact .cons (.int _) ih)
  have wtR:Wt (.list (R.map fun k:Nat=>PyData.int (k:Int))) (1*R.length+1) 1:=.list (oi (m:=1) (k:=0) fun j hj=>.int (by
   have:(ts[j]?)∈us.map some:=by rw [←ok.at'];exact List.mem_map_of_mem hj
   obtain ⟨t,_,et⟩:=List.mem_map.mp this
   have jl:=(List.getElem?_eq_some_iff.mp et.symm).1
   exact Sz.mono (m:=5) (by show (j:Int).natAbs<2 ^ 5;rw [Int.natAbs_natCast];trivial) (by decide)))
  refine bz fun DA nA=>?_
  refine ⟨_,rfl,_,_,_,_,rfl,(ity0 ha).ty,gY _,_,rfl,aM ?_⟩
  refine ⟨_,rfl,Nat.zero_le _,fun q0 H0 m0=>⟨_,_,_,_,_,_,_,_,ity0 (m0.sm _ _ ha),.lst (E:=fun _=>False) m0.at' id .nil,wtR,.list (k:=0) .nil,by decide,_,rfl,?_⟩⟩
  have e0:PyData.eqv (.list (R.map fun k:Nat=>PyData.int (k:Int))) (.list [])=false:=by
   cases R with
   | nil=>cases us with
    | nil=>exact absurd rfl une
    | cons _ _=>simp at lR
   | cons j r=>simp [PyData.eqv,PyData.eqvAll]
  rw [e0]
  have ha0:=m0.sm _ _ ha
  refine aM ⟨_,rfl,a,rfl,⟨_,am.of ha0⟩,fun D hD=>fR (xs:=aE R) (fun _=>.bl true) (by trivial) hD ha0 ?_ ?_⟩
  ·intro i x H' R' hxi sm kk
   rw [List.getElem?_map] at hxi
   obtain ⟨j,ej,rfl⟩:=Option.map_eq_some_iff.mp hxi
   obtain ⟨t,eu,et⟩:=fA.get ok.at' ej
   have mo:=(l7 tc et).mpr (ok.op t (List.mem_of_getElem? eu))
   refine ⟨gK,_,rfl,_,rfl,.ref na,ls,ts,rfl,hv.mono (m0.sm.trans sm).toE,by trivial,fun D2 H2 s2 fD2 hD2=>⟨D2,_,rfl,.inl (am.of hD2),rfl,C8 _,?_⟩⟩
   show R' (.bl (sM _ _)) _
   rw [Ix mo]
   exact kk H2 s2
  intro H1 s1' hD1
  have s1:=m0.sm.trans s1'
  rw [zI,show List.replicate (aE R).length (V.bl true)=(List.replicate (aE R).length true).map V.bl by rw [List.map_replicate]] at hD1
  refine ⟨D,_,rfl,am.of hD1,_,rfl,?_⟩
  rw [show (List.replicate (aE R).length true).all id=true by simp]
  refine aM (nA _ _ ?_)
  refine bz fun DB nB=>?_
  have ha1:=s1 _ _ ha
  refine ⟨_,rfl,a,rfl,⟨_,am.of ha1⟩,fun D2 hD2=>fR (xs:=aE R) (fun _=>.bl false) (by trivial) hD2 ha1 ?_ ?_⟩
  ·intro i x H' R' hxi sm kk
   rw [List.getElem?_map] at hxi
   obtain ⟨j,ej,rfl⟩:=Option.map_eq_some_iff.mp hxi
   exact ⟨gK,_,rfl,_,_,_,_,rfl,(aU.int (E:=fun _=>False) (H:=H') (j:Int)).ty,jN (.int (j:Int)),kk H' (ah.refl _)⟩
  intro H2 s2 hD2'
  rw [zI,show List.replicate (aE R).length (V.bl false)=(List.replicate (aE R).length false).map V.bl by rw [List.map_replicate]] at hD2'
  refine ⟨D2,_,rfl,am.of hD2',_,rfl,?_⟩
  rw [show (List.replicate (aE R).length false).any id=false by simp]
  have s02:=s1.trans s2
  have ha2:=s02 _ _ ha
  refine aM ⟨_,rfl,a,R.map fun k:Nat=>(Sum.inl (k:Int):aJ),rfl,.inl (am.of (by rw [GS];exact ha2)),by rw [List.length_map];trivial,_,rfl,a,_,rfl,.inl (am.of ha2),rfl,_,rfl,?_⟩
  have e1:(gM (R.map fun k:Nat=>(Sum.inl (k:Int):aJ))).length=(aE R).length:=by
   rw [(uf _).mpr (Gk ndR)];simp [aE]
  rw [e1]
  refine jQ (nB _ _ ?_)
  have mapE:∀(f:aa→List Nat),(List.range (aE R).length).map (fun i=>((us[i]?).map fun t=>af (f t)).getD .non)=(us.map f).map af:=fun f=>by
   rw [lN,lR,p6 (fun i=>((us[i]?).map fun t=>af (f t)).getD .non) (fun t=>af (f t)) us (fun i x e=>by rw [e];rfl),List.map_map]
   rfl
  refine bD fun Q3 nA3=>⟨_,rfl,(by show 1≤10000;decide),fun q1 H3 n3=>⟨_,rfl,a,rfl,⟨_,am.of (n3.sm _ _ ha2)⟩,fun D3 hD3=>fR (xs:=aE R) (fun i=>((us[i]?).map fun t=>af t.en).getD .non) (by trivial) hD3 (n3.sm _ _ ha2) ?_ ?_⟩⟩
  ·intro i x H' R' hxi sm kk
   rw [List.getElem?_map] at hxi
   obtain ⟨j,ej,rfl⟩:=Option.map_eq_some_iff.mp hxi
   obtain ⟨t,eu,et⟩:=fA.get ok.at' ej
   rw [eu] at kk
   obtain ⟨o2,om,og,op,ey,h1,_,_,_⟩:=kB ity et
   have sm':=(s02.trans n3.sm).trans sm
   exact ⟨gK,_,rfl,na,_,_,_,rfl,rfl,ag.of (sm' _ _ hna),rfl,_,rfl,ta,_,_,_,rfl,rfl,ag.of (sm' _ _ hta),cY ey,o2,_,_,_,rfl,rfl,ag.of (sm' _ _ h1),rfl,kk H' (ah.refl _)⟩
  intro H4 s4 hE
  rw [mapE] at hE
  refine ⟨q1,D3,_,_,rfl,rfl,s4 _ _ n3.at',hE,?_,fun p H5 n5=>nA3 _ _ ?_⟩
  ·simp only [List.length_map,List.length_cons,List.length_nil];trivial
  have hp:H5 p=some (.lst ((us.map (·.bg)).map af++[af le])):=by
   rw [n5.at']
   have:=congrArg (List.map af) ch
   simp only [List.map_append,List.map_cons,List.map_nil] at this
   rw [this]
   rfl
  have s05:=((s02.trans n3.sm).trans s4).trans n5.sm
  have ha5:=s05 _ _ ha
  refine ⟨_,rfl,a,rfl,⟨_,am.of ha5⟩,fun D5 hD5=>fR (xs:=aE R) (fun i=>((us[i]?).map fun t=>af t.bg).getD .non) (by trivial) hD5 ha5 ?_ ?_⟩
  ·intro i x H' R' hxi sm kk
   rw [List.getElem?_map] at hxi
   obtain ⟨j,ej,rfl⟩:=Option.map_eq_some_iff.mp hxi
   obtain ⟨t,eu,et⟩:=fA.get ok.at' ej
   rw [eu] at kk
   obtain ⟨o2,om,og,op,ey,h1,_,_,_⟩:=kB ity et
   have sm':=s05.trans sm
   exact ⟨gK,_,rfl,na,_,_,_,rfl,rfl,ag.of (sm' _ _ hna),rfl,_,rfl,ta,_,_,_,rfl,rfl,ag.of (sm' _ _ hta),cY ey,o2,_,_,_,rfl,rfl,ag.of (sm' _ _ h1),rfl,kk H' (ah.refl _)⟩
  intro H6 s6 hB
  rw [mapE] at hB
  have hp6:=s6 _ _ hp
  refine ⟨_,rfl,1,rfl,_,rfl,p,_,rfl,am.of hp6,fun p1 J1 j1=>?_⟩
  have e3:J1 p1=some (.lst ((us.map (·.bg)).map af)):=by
   rw [j1.at',BP]
  have ncb:∀l∈us.map (·.bg),ir l:=fun l hl=>by
   obtain ⟨t,ht,rfl⟩:=List.mem_map.mp hl
   exact nc _ (tc t (ok.mem ht)).b
  refine ⟨_,_,_,_,_,_,_,_,rT (j1.sm _ _ hB),rT e3,rz ncb,rz ncb,by decide,_,rfl,?_⟩
  have e5:PyData.eqv (.list ((us.map (·.bg)).map fun l=>PyData.str (S l))) (.list ((us.map (·.bg)).map fun l=>PyData.str (S l)))=true:=by
   simp only [PyData.eqv]
   exact tf _
  rw [e5]
  refine bh ⟨_,rfl,1,rfl,p,_,_,_,rfl,rfl,am.of (j1.sm _ _ hp6),tK _ _,_,rfl,rfl,?_⟩
  have k7:=k J1 ((s05.trans s6).trans j1.sm)
  rw [←decide_eq_true (rfl:af le=af le)] at k7
  exact k7
end
end K13
namespace K13
open PySem L2
set_option maxHeartbeats 4000000
def TV (H:Hp) (kv:List (aJ×V)) (ts:List aa) (le l:List Nat):Prop:=∃x,valD kv (Sum.inr (S l))=some x∧(((aP ts le).ω l=none∧x=.non)∨aW fun w o=>(aP ts le).ω l=some w∧x=.ref o∧H o=some (fr w)∧Gb 1500 1500 w)
theorem TV.mono {H H':Hp}{kv:List (aJ×V)}{ts:List aa}{le l:List Nat} (h:TV H kv ts le l) (k:∀a us,H a=some (.tup us)→H' a=some (.tup us)):TV H' kv ts le l:=by
 obtain ⟨x,e,h⟩:=h
 rcases h with h | ⟨w,o,e1,e2,e3,e4⟩
 ·exact ⟨x,e,.inl h⟩
 ·exact ⟨x,e,.inr ⟨w,o,e1,e2,k _ _ e3,e4⟩⟩
theorem Ca (k:aJ) (v:V):valD [(k,v)] k=some v:=by unfold valD;rw [List.find?_cons,decide_eq_true rfl];rfl
section
variable {P:Program}{w:World}{K:PySem.W.Frag}{mg:Str→Option Value}{base:Heap}
inductive GX (vs:List V) (H:Hp) (Q:VK):Prop
 | mk (v:V) (ls:List (List Nat)) (ts:List aa) (lb le:List Nat) (mx:Nat) (h0:vs=[v,af lb,af le]) (h1:aU ED H v (dD ls ts)) (h2:(∀t∈ts,fK ls t)) (h3:ts.length≤24) (h4:1≤ls.length) (h5:ls.length≤10) (h6:mx<ls.length) (h7:(dg ts (mx+1)).lf=none) (h8:∀H':Hp,ah H H'→Q (.bl true) H')
def IN:Sp:=fun vs H Q _=>GX  vs H Q
theorem tN (T:Txt K mg):aZ P w K mg base CX0 8 T.l_none_better_.f T.l_none_better_.d ["_law_net", "_law_begin", "_law_end"] IN:=by
 have G_greatest_gain:=mr (P:=P) (w:=w) (base:=base) T
 have G_l_opened:=mY (P:=P) (w:=w) (base:=base) T
 have G_l_product:=my (P:=P) (w:=w) (base:=base) T
 have G_l_above:=pT (P:=P) (w:=w) (base:=base) T
 refine T.l_none_better_.F.ok dZ (fun vs H Q E h=>?_) (fun cdv A outer s H vs Q E hr h=>?_)
 ·obtain ⟨v,ls,ts,lb,le,mx,rfl,_⟩:=h
  rfl
 ·obtain ⟨v,ls,ts,lb,le,mx,rfl,hv,tc,h24,l1,l10,hmx,emx,k⟩:=h
  have tk:∀t∈ts,cb ls t:=fun t ht=>(tc t ht).tok
  obtain ⟨tm,FN⟩:=uB le tk l10 emx
  obtain ⟨na,pa,ta,ys,rfl,hna,hpa,hta,ity⟩:=cX hv
  refine ⟨_,‹‹(3,dZ.nd,bL,(@tP _ _ _ _ _ _ ‹(2,dB)› (@aG _ _ _ _ _ ‹[‹0›,‹0›]›)))› :: ‹(@fM _ _ _ _ _ _ _ _ PassesOwn.never rfl (@tD _ (K) _ _ _ ‹‹(0,dC)›[‹0›]› (by rfl)) ‹(4,dZ.nd,cQ)› (@ad _ _ _ (@be _ _ _ _ _ _ _ _ (@aq _ _ _ _ _ _ _ _ (@jo _) ‹(4,cQ)› ‹(2,dB)› (@au _ _ (by decide) (by decide))) (@ad _ _ _ (@gj _ _ _ _ _ _ (@iq _ _ _ _ _ _ _ _ _ _ _ _ _ _ _ _ G_greatest_gain (hr.mono (by decide)) jF T.greatest_gain_.m T.greatest_gain_.F.kp T.greatest_gain_.B .nil (@HC _ _ _) ‹[‹(0,dC)›,‹(4,cQ)›,‹(2,dB)›]› (by decide) (by rfl) (by rfl)) (@oH _ _ _ _ _ _ _ ‹(3,bL)› ‹(4,cQ)› (@tU _) (by intro _;rfl)) (by rfl) (by rfl) (by rfl))) (@aN _))) (by intro _;rfl)) :: ‹(@fM _ _ _ _ _ _ _ _ PassesOwn.never rfl (@cx _ (K) _ _ _ ‹(G_l_opened,mh,T.l_opened_,‹[‹(0,dC)›]›)› (by rfl)) ‹(5,dZ.nd,gS)› ‹‹(6,dZ.nd,bE,‹‹‹(0,dC)›[‹0›]›[‹(5,gS)›]›)› :: (@ad _ _ _ (@be _ _ _ _ _ _ _ _ (@PW.pt _ _ _ (@uw _ _ _ _ _ _ _ (@aq _ _ _ _ _ _ _ _ (@jo _) ‹‹(6,bE)›[‹0›]› ‹(2,dB)› (@au _ _ (by decide) (by decide))) (@rF _ _ _ _ (@aq _ _ _ _ _ _ _ _ (@rK _) (@cf _ _ _ _ _ _ _ (@eM _) ‹(3,bL)› ‹‹(6,bE)›[‹0›]› (fun _ _=>rfl)) (@b8 _ _ _) (@au _ _ (by decide) (by decide)))))) (@ad _ _ _ (@be _ _ _ _ _ _ _ _ (@PW.pt _ _ _ (@dO _ _ _ _ _ _ _ (@aq _ _ _ _ _ _ _ _ (@jr _) (@cf _ _ _ _ _ _ _ (@eM _) ‹(3,bL)› ‹‹(6,bE)›[‹0›]› (fun _ _=>rfl)) (@b8 _ _ _) (@au _ _ (by decide) (by decide))) (@d9 _ _ _ _ (@aq _ _ _ _ _ _ _ _ (@lc _) ‹(G_l_above,mL,T.l_above_,‹[‹(G_l_product,lq,T.l_product_,‹[‹‹(6,bE)›[‹0›]›,(@cf _ _ _ _ _ _ _ (@eM _) ‹(3,bL)› ‹‹(6,bE)›[‹0›]› (fun _ _=>rfl))]›)›,(@cf _ _ _ _ _ _ _ (@eM _) ‹(3,bL)› ‹‹(6,bE)›[‹0›]› (fun _ _=>rfl))]›)› ‹0› (@au _ _ (by decide) (by decide)))))) (@ad _ _ _ (@aw _ _ _ _ (@ij _ _ _ _))) (@aN _))) (@aN _)))› (by intro _;rfl)) :: (@ad _ _ _ (@aw _ _ _ _ (@ij _ _ _ _)))›››,?_⟩
  refine bD fun Q1 nA1=>fun W H1 n1=>⟨_,rfl,Sum.inr (S le),rfl,(by show 2≤10000;decide),fun o H2 n2=>⟨n2.sm _ _ n1.at',fun H3 c3=>nA1 _ _ ?_⟩⟩
  have s3:ah H H3:=fun a u h=>c3.ol a u (fun z=>by rw [z,n1.fr] at h;cases h) (n2.sm _ _ (n1.sm _ _ h))
  have oW:o≠W:=fun z=>by have:=n2.fr;rw [z,n1.at'] at this;cases this
  have sW:∀{J:Hp},(∀a u,a≠W→H3 a=some u→J a=some u)→ah H J:=fun f a u h=>f a u (fun z=>by rw [z,n1.fr] at h;cases h) (s3 _ _ h)
  refine bz fun DA nA=>?_
  refine ⟨_,rfl,na,_,_,_,rfl,rfl,ag.of (s3 _ _ hna),rfl,pa,rfl,⟨_,ag.of (s3 _ _ hpa)⟩,EB (xs:=ls.map af) (fun i σ H'=>kQ fun (v4 v5 v6:Option V) (kv:List (aJ×V))=>σ=[some (.ref na),some (af lb),some (af le),some (.ref W),v4,v5,v6]∧H' W=some (.dK kv)∧kv.length≤1+i∧TV H' kv ts le le∧(∀(j:Nat) l,j<i→ls[j]?=some l→TV H' kv ts le l)∧∀a u,a≠W→H3 a=some u→H' a=some u) ⟨_,_,_,_,rfl,c3.at',Nat.le_refl 1,⟨_,Ca _ _,.inr ⟨(1,1),o,FN.one tk,rfl,c3.ol o _ oW n2.at',zf.mono (by decide) (by decide)⟩⟩,(fun j l h=>by trivial),fun _ _ _ h=>h⟩ ?_ ?_ ?_⟩
  ·rintro i σ H' _ ⟨_,_,_,_,_,_,_,_,_,f⟩
   exact ag.of (sW f _ _ hpa)
  ·rintro i x σ J hx ⟨v4,v5,v6,kv,rfl,hW,lW,t0,tV,f⟩
   rw [List.getElem?_map] at hx
   obtain ⟨l,el,rfl⟩:=Option.map_eq_some_iff.mp hx
   have hl:=List.mem_of_getElem? el
   have il:i<ls.length:=(List.getElem?_eq_some_iff.mp el).1
   refine ph (t:=zR _ _ _) fun DB nB=>⟨_,rfl,_,rfl,rfl,_,rfl,?_⟩
   by_cases c:l=le
   ·rw [c,show (!decide (af le=af le))=false by simp]
    refine aM (nB _ _ ⟨_,_,_,kv,rfl,hW,by trivial,t0,fun j l' hj e=>?_,f⟩)
    by_cases z:j=i
    ·subst z
     rw [el] at e
     cases e
     rw [c];exact t0
    ·exact tV j l' (by trivial) e
   ·have q:(!decide (af l=af le))=true:=by
     rw [decide_eq_false]
     ·rfl
     ·intro z
      injection z with z
      exact c (j7 z)
    rw [q]
    refine bh ⟨_,rfl,_,rfl,_,rfl,.ref na,ls,ts,l,le,rfl,hv.mono (sW f).toE,tc,h24,l1,l10,hl,.inl ⟨mx,hmx,emx,fun J2 s2=>?_⟩⟩
    have fin1:∀(x:V),(((aP ts le).ω l=none∧x=.non)∨aW fun w o=>(aP ts le).ω l=some w∧x=.ref o∧J2 o=some (fr w)∧Gb 1500 1500 w)→∀J3,J3 W=some (.dK (dz kv (Sum.inr (S l)) x))→(∀a u,a≠W→J2 a=some u→J3 a=some u)→DB.nx [some (.ref na),some (af lb),some (af le),some (.ref W),some (af l),v5,v6] J3:=fun x hx J3 h3 f3=>by
     have tp:∀a us,J2 a=some (.tup us)→J3 a=some (.tup us):=fun a us h=>f3 a _ (fun z=>by rw [z,s2 _ _ hW] at h;cases h) h
     have tp1:∀a us,J a=some (.tup us)→J3 a=some (.tup us):=fun a us h=>tp a us (s2 _ _ h)
     have vo:∀l',l'≠l→valD (dz kv (Sum.inr (S l)) x) (Sum.inr (S l'))=valD kv (Sum.inr (S l')):=fun l' ne=>by rw [kC,if_neg (qr ne)]
     refine nB _ _ ⟨_,_,_,_,rfl,h3,by have:=pN kv (Sum.inr (S l)) x;trivial,?_,fun j l' hj e=>?_,fun a u ne h=>f3 a u ne (s2 _ _ (f a u ne h))⟩
     ·obtain ⟨y,e1,e2⟩:=t0.mono tp1
      exact ⟨y,by rw [vo le (fun z=>c z.symm)];exact e1,e2⟩
     ·by_cases z:l'=l
      ·subst z
       refine ⟨x,by rw [kC,if_pos rfl],?_⟩
       rcases hx with hx | ⟨w,o,e1,e2,e3,e4⟩
       ·exact .inl hx
       ·exact .inr ⟨w,o,e1,e2,tp _ _ e3,e4⟩
      ·have hji:j<i:=by
        by_cases y:j=i
        ·subst y
         rw [el] at e
         cases e
         exact absurd rfl z
        ·trivial
       obtain ⟨y,e1,e2⟩:=(tV j l' hji e).mono tp1
       exact ⟨y,by rw [vo l' z];exact e1,e2⟩
    exact ⟨fun w o e ho gb=>⟨_,rfl,_,rfl,W,kv,Sum.inr (S l),rfl,rfl,s2 _ _ hW,by trivial,fun J3 c3'=>fin1 _ (.inr ⟨w,o,e,rfl,ho,gb⟩) J3 c3'.at' c3'.ol⟩,fun e=>⟨_,rfl,_,rfl,W,kv,Sum.inr (S l),rfl,rfl,s2 _ _ hW,by trivial,fun J3 c3'=>fin1 _ (.inl ⟨e,rfl⟩) J3 c3'.at' c3'.ol⟩⟩
  rintro σ J ⟨v4,v5,v6,kv,rfl,hW,lW,t0,tV,f⟩
  refine nA _ _ ?_
  have tA:∀l∈ls,TV J kv ts le l:=fun l hl=>by
   obtain ⟨j,hj⟩:=List.getElem?_of_mem hl
   exact tV j l (by rw [List.length_map];exact (List.getElem?_eq_some_iff.mp hj).1) hj
  have sJ:=sW f
  refine bz fun DC nC=>?_
  refine ⟨_,rfl,.ref na,ls,ts,rfl,hv.mono sJ.toE,by trivial,fun D2 J1 s1 fD2 hD2=>⟨D2,rfl,⟨_,am.of hD2⟩,lK (xs:=aE (gF ts ts.length)) (fun j σ H'=>eH fun (v4 v5 v6:Option V)=>σ=[some (.ref na),some (af lb),some (af le),some (.ref W),v4,v5,v6]∧ah J1 H') ⟨_,_,_,rfl,ah.refl _⟩ ?_ ?_ ?_⟩⟩
  ·rintro j σ H' _ ⟨_,_,_,_,sm⟩
   exact am.of (sm _ _ hD2)
  rotate_left
  ·rintro σ H' ⟨_,_,_,rfl,sm⟩
   exact nC _ _ (k H' ((sJ.trans s1).trans sm))
  rintro j x σ G hx ⟨v4,v5,v6,rfl,sm⟩
  rw [List.getElem?_map] at hx
  obtain ⟨i',hi',rfl⟩:=Option.map_eq_some_iff.mp hx
  have mj:=List.mem_of_getElem? hi'
  have jlt:i'<ts.length:=List.mem_range.mp (List.mem_filter.mp mj).1
  obtain ⟨t,et⟩:∃t,ts[i']?=some t:=⟨_,List.getElem?_eq_getElem jlt⟩
  have ht:=List.mem_of_getElem? et
  have tt:=tc t ht
  have op:=(l7 tc et).mp mj
  obtain ⟨o2,om,og,op',ey,h1,_,hog,_⟩:=kB ity et
  have sG:=(sJ.trans s1).trans sm
  have sG1:=s1.trans sm
  have hWG:=sG1 _ _ hW
  refine ph (t:=kG _ _) fun DE nE=>?_
  refine bD fun Q5 nA5=>⟨_,rfl,na,_,_,_,rfl,rfl,ag.of (sG _ _ hna),rfl,_,rfl,ta,_,_,_,rfl,rfl,ag.of (sG _ _ hta),cY ey,nA5 _ _ ?_⟩
  have done:∀{G':Hp},ah G G'→DE.nx [some (.ref na),some (af lb),some (af le),some (.ref W),v4,some (.int (i':Int)),some (.ref o2)] G':=fun s=>nE _ _ ⟨_,_,_,rfl,sm.trans s⟩
  refine ⟨_,rfl,o2,_,_,_,rfl,rfl,ag.of (sG _ _ h1),rfl,_,rfl,rfl,_,rfl,?_⟩
  by_cases c:t.bg=le
  ·have q:(!decide (V.str (S t.bg)=af le))=false:=by rw [c];simp [af]
   rw [q]
   exact aM (done (ah.refl _))
  have q:(!decide (V.str (S t.bg)=af le))=true:=by
   rw [decide_eq_false]
   ·rfl
   ·intro z
    injection z with z
    exact c (j7 z)
  rw [q]
  obtain ⟨xe,ve,he⟩:=(tA t.en tt.e).mono fun a us h=>sG1 _ _ h
  refine bh ⟨_,rfl,_,rfl,o2,_,_,_,rfl,rfl,ag.of (sG _ _ h1),rfl,W,kv,Sum.inr (S t.en),xe,rfl,rfl,hWG,ve,rfl,_,rfl,?_⟩
  rcases he with ⟨_,rfl⟩ | ⟨we,oe,e1,rfl,hoe,ge⟩
  ·exact aM (done (ah.refl _))
  obtain ⟨wb,e2,q2⟩:=FN.cl t ht op we e1
  obtain ⟨xb,vb,hb⟩:=(tA t.bg tt.b).mono fun a us h=>sG1 _ _ h
  rcases hb with ⟨z,_⟩ | ⟨wb',ob,e2',rfl,hob,gb⟩
  ·rw [e2] at z;cases z
  rw [e2] at e2'
  cases e2'
  refine bh ⟨_,rfl,_,rfl,o2,_,_,_,rfl,rfl,ag.of (sG _ _ h1),rfl,W,kv,Sum.inr (S t.bg),_,rfl,rfl,hWG,vb,rfl,_,rfl,aM ?_⟩
  refine ⟨_,rfl,o2,_,_,_,rfl,rfl,ag.of (sG _ _ h1),rfl,_,rfl,_,rfl,o2,_,_,_,rfl,rfl,ag.of (sG _ _ h1),rfl,W,kv,Sum.inr (S t.en),_,rfl,rfl,hWG,ve,og,oe,t.gain,we,_,_,_,_,rfl,sG _ _ hog,hoe,tt.fg,ge,by decide,by decide,by decide,by decide,(fun z=>by cases z),fun q G1 n1=>?_⟩
  have gq:Gb 1506 1506 (KM.lTim t.gain we):=tt.fg.tim ge (by decide) (by decide)
  refine ⟨_,rfl,_,rfl,o2,_,_,_,rfl,rfl,ag.of (n1.sm _ _ (sG _ _ h1)),rfl,W,kv,Sum.inr (S t.bg),_,rfl,rfl,n1.sm _ _ hWG,vb,q,ob,_,wb,rfl,n1.at',n1.sm _ _ hob,gq.n.mono (by decide),gq.d.mono (by decide),gb.n.mono (by decide),gb.d.mono (by decide),_,_,rfl,rfl,_,rfl,?_⟩
  obtain ⟨v1,_,v3⟩:=j5 (tk t ht) (FN.pv.pos _ _ e1)
  rw [←v1,vc v3.1 (FN.pv.pos _ _ e2).2.1] at q2
  rw [decide_eq_false (by trivial)]
  exact aM (done n1.sm)
end
end K13
namespace K13
open PySem L2
set_option maxHeartbeats 4000000
theorem CD (p:KM.Fra):Dp 4 (kR p):=by
 refine ⟨by show 2≤1000;decide,fun y hy=>?_⟩
 have hy':y=.int p.1∨y=.int p.2:=by simpa using hy
 rcases hy' with rfl | rfl <;> trivial
section
variable {P:Program}{w:World}{K:PySem.W.Frag}{mg:Str→Option Value}{base:Heap}
inductive Cn (vs:List V) (H:Hp) (Q:VK):Prop
 | mk (v:V) (ls:List (List Nat)) (ts:List aa) (lb le:List Nat) (h0:vs=[v,af lb,af le]) (h1:aU ED H v (dD ls ts)) (h2:(∀t∈ts,fK ls t)) (h3:ts.length≤24) (h4:1≤ls.length) (h5:ls.length≤10) (h6:(∀l∈ls,ir l)) (h7:lb∈ls) (h8:lb≠le) (h9:∀H':Hp,ah H H'→Q (.bl true) H')
def DL:Sp:=fun vs H Q _=>Cn  vs H Q
theorem yU (T:Txt K mg):aZ P w K mg base CX0 9 T.l_right_.f T.l_right_.d ["_law_net", "_law_begin", "_law_end"] DL:=by
 have G_l_is_round:=vT (P:=P) (w:=w) (base:=base) T
 have G_gaining_round:=l8 (P:=P) (w:=w) (base:=base) T
 have G_l_same:=Ae (P:=P) (w:=w) (base:=base) T 4
 have G_l_all_told:=vS (P:=P) (w:=w) (base:=base) T
 have G_l_due_of:=yg (P:=P) (w:=w) (base:=base) T
 have G_l_leads:=zr (P:=P) (w:=w) (base:=base) T
 have G_l_gain_of:=lJ (P:=P) (w:=w) (base:=base) T
 have G_l_none_better:=tN (P:=P) (w:=w) (base:=base) T
 refine T.l_right_.F.ok ui (fun vs H Q E h=>?_) (fun cdv A outer s H vs Q E hr h=>?_)
 ·obtain ⟨v,ls,ts,lb,le,rfl,_⟩:=h
  rfl
 ·obtain ⟨v,ls,ts,lb,le,rfl,hv,tc,h24,l1,l10,nc,hlb,nbe,k⟩:=h
  obtain ⟨na,pa,ta,ys,rfl,hna,hpa,hta,ity⟩:=cX hv
  have tk:∀t∈ts,cb ls t:=fun t ht=>(tc t ht).tok
  refine ⟨_,‹(@kD _ _ (3) (4) _ _ _ _ _ _ _ _ _ _ _ rfl ui.nd rfl rfl (by decide) bR bN ‹[‹(G_l_all_told,jE,T.l_all_told_,‹[(@dh _ _ _ _),‹(0,bF)›,‹(1,dI)›,‹(2,fi)›]›)›,‹(G_l_all_told,jE,T.l_all_told_,‹[(@dh _ _ _ _),‹(0,bF)›,‹(1,dI)›,‹(2,fi)›]›)›]› (by kernel_rfl) (by rfl)) :: ‹(@be _ _ _ _ _ _ _ _ (@aq _ _ _ _ _ _ _ _ (@rK _) ‹(G_gaining_round,mM,T.gaining_round_,‹[‹(0,bF)›]›)› (@b8 _ _ _) (@au _ _ (by decide) (by decide))) (@ad _ _ _ (@aw _ _ _ _ (@i7 _ _ _ _ _ _ _ (@Ck _ _ _ _ _ _ _ _ _ _ _ _ (@cP _) (@cP _) ‹‹(3,bR)›[‹0›]› ‹‹(4,bN)›[‹0›]› (@dh _ _ _ _) (by with_unfolding_all rfl)) (@i7 _ _ _ _ _ _ _ ‹(G_l_is_round,jv,T.l_is_round_,‹[‹(0,bF)›,‹‹(3,bR)›[‹0›]›]›)› (@kr _ _ _ _ _ ‹(G_l_is_round,jv,T.l_is_round_,‹[‹(0,bF)›,‹‹(4,bN)›[‹0›]›]›)›))))) (@aN _)) :: ‹(@be _ _ _ _ _ _ _ _ (@PW.pt _ _ _ (@dO _ _ _ _ _ _ _ (@aq _ _ _ _ _ _ _ _ (@jo _) ‹‹(3,bR)›[‹0›]› (@dh _ _ _ _) (@au _ _ (by decide) (by decide))) (@d9 _ _ _ _ (@aq _ _ _ _ _ _ _ _ (@jo _) ‹‹(4,bN)›[‹0›]› (@dh _ _ _ _) (@au _ _ (by decide) (by decide)))))) (@ad _ _ _ (@aw _ _ _ _ (@ij _ _ _ _))) (@aN _)) :: ‹(@be _ _ _ _ _ _ _ _ (@PW.pt _ _ _ (@uw _ _ _ _ _ _ _ (@aq _ _ _ _ _ _ _ _ (@lh _) (@ao _ _ _ _ _ _ _ _ _ (@dP _ (K) (by rfl)) vZ T.b_len (@aX) ‹[‹‹(0,bF)›[‹0›]›]› (by decide) (by decide) (by rfl) (by rfl)) ‹0› (@au _ _ (by decide) (by decide))) (@rF _ _ _ _ (@gW _ _ _ _ (@b9 _ _ _ ‹(G_l_same,mG,T.l_same_,‹[‹‹(3,bR)›[‹0›]›,‹(G_l_due_of,qX,T.l_due_of_,‹[‹(0,bF)›,‹(1,dI)›,‹(2,fi)›]›)›]›)› (by intro _;rfl)))))) (@ad _ _ _ (@aw _ _ _ _ (@ij _ _ _ _))) (@aN _)) :: ‹(@be _ _ _ _ _ _ _ _ (@PW.pt _ _ _ (@dO _ _ _ _ _ _ _ (@aq _ _ _ _ _ _ _ _ (@jr _) ‹‹(3,bR)›[‹0›]› (@b8 _ _ _) (@au _ _ (by decide) (by decide))) (@d9 _ _ _ _ (@aq _ _ _ _ _ _ _ _ (@jr _) ‹‹(4,bN)›[‹0›]› (@b8 _ _ _) (@au _ _ (by decide) (by decide)))))) (@ad _ _ _ (@aw _ _ _ _ (@i7 _ _ _ _ _ _ _ (@cI _ _ _ _ _ _ _ _ (@jr _) ‹‹(3,bR)›[‹0›]› (@b8 _ _ _) (@au _ _ (by decide) (by decide))) (@kr _ _ _ _ _ (@cI _ _ _ _ _ _ _ _ (@jr _) ‹‹(4,bN)›[‹0›]› (@b8 _ _ _) (@au _ _ (by decide) (by decide))))))) (@aN _)) :: ‹(@be _ _ _ _ _ _ _ _ (@PW.pt _ _ _ (@dO _ _ _ _ _ _ _ (@gW _ _ _ _ (@b9 _ _ _ ‹(G_l_leads,sw,T.l_leads_,‹[‹(0,bF)›,‹‹(4,bN)›[‹0›]›,‹(1,dI)›,‹(2,fi)›]›)› (by intro _;rfl))) (@d9 _ _ _ _ (@gW _ _ _ _ (@b9 _ _ _ ‹(G_l_same,mG,T.l_same_,‹[‹‹(3,bR)›[‹0›]›,‹(G_l_gain_of,qi,T.l_gain_of_,‹[‹(0,bF)›,‹‹(4,bN)›[‹0›]›]›)›]›)› (by intro _;rfl)))))) (@ad _ _ _ (@aw _ _ _ _ (@ij _ _ _ _))) (@aN _)) :: ‹(@fJ _ _ _ _ (@fE _ (K) _ _ _ _ _ _ _ _ _ _ _ PySem.F.plainAttrs_list PySem.F.slot_list_append PySem.F.type_list_append (@io _) ‹‹(4,bN)›[‹0›]› ‹[‹0›]› (by rfl) (by rfl) (by rfl) (by rfl) (by rfl) (by rfl)) (by rfl)) :: (@ad _ _ _ (@aw _ _ _ _ ‹(G_l_none_better,mJ,T.l_none_better_,‹[‹(0,bF)›,‹(1,dI)›,‹(2,fi)›]›)›))›››››››,?_⟩
  refine bz fun DA nA=>?_
  by_cases hm:∃m,m<ls.length∧(dg ts (m+1)).lf=none
  ·obtain ⟨mx,hmx,emx⟩:=hm
   obtain ⟨tm,FN⟩:=uB le tk l10 emx
   refine ⟨_,rfl,_,rfl,_,rfl,true,.ref na,ls,ts,lb,le,rfl,hv,tc,h24,l1,l10,hlb,.inl ⟨mx,hmx,emx,fun tp H1 s1=>?_⟩⟩
   cases e:(aP ts le).ω lb with
   | none=>
    refine ⟨(fun _ _ _ z=>by cases z),(fun _ _ _ z=>by cases z),fun _ htp=>?_⟩
    refine ⟨_,rfl,_,rfl,_,rfl,false,.ref na,ls,ts,lb,le,rfl,hv.mono s1.toE,tc,h24,l1,l10,hlb,.inl ⟨mx,hmx,emx,fun tp2 H2 s2=>⟨(fun _ _ z=>by cases z),(fun _ _ _ _ z=>by rw [e] at z;cases z),fun _ htp2=>⟨_,_,rfl,nA _ _ ?_⟩⟩⟩⟩
    have s02:=s1.trans s2
    refine bz fun DB nB=>⟨_,rfl,.ref na,ls,ts,rfl,hv.mono s02.toE,tc,h24,l1,l10,.inl ⟨mx,hmx,emx,fun H3 s3=>⟨rfl,_,rfl,aM (nB _ _ ?_)⟩⟩⟩
    have s03:=s02.trans s3
    have ht1:=s3 _ _ (s2 _ _ htp)
    have ht2:=s3 _ _ htp2
    have q:(!decide (V.str ("told" : Str)=V.str "told"))=false:=by simp
    refine bz fun DC nC=>⟨_,rfl,tp,_,_,_,rfl,rfl,ag.of ht1,rfl,rfl,_,rfl,?_⟩
    rw [q]
    refine aM ⟨_,rfl,tp2,_,_,_,rfl,rfl,ag.of ht2,rfl,rfl,_,rfl,?_⟩
    rw [q]
    refine aM (nC _ _ ?_)
    refine bz fun DD nD=>⟨_,rfl,na,_,_,_,rfl,rfl,ag.of (s03 _ _ hna),rfl,pa,_,rfl,.inr (ag.of (s03 _ _ hpa)),_,_,rfl,rfl,_,rfl,?_⟩
    have fin2:∀{H4:Hp},ah H3 H4→DD.nx [some (.ref na),some (af lb),some (af le),some (.ref tp),some (.ref tp2)] H4:=fun {H4} s4=>by
     refine nD _ _ ?_
     refine zz fun DE nE rE=>⟨_,rfl,tp,_,_,_,rfl,rfl,ag.of (s4 _ _ ht1),rfl,rfl,_,rfl,bh ?_⟩
     exact ⟨_,rfl,tp,_,_,_,rfl,rfl,ag.of (s4 _ _ ht1),rfl,rfl,_,rfl,bh ⟨_,rfl,tp2,_,_,_,rfl,rfl,ag.of (s4 _ _ ht2),rfl,rfl,rE _ _ (k H4 (s03.trans s4))⟩⟩
    by_cases c7:((ls.map af).length:Int)<7
    ·rw [decide_eq_true c7]
     rw [List.length_map] at c7
     refine bh ⟨_,rfl,tp,_,_,_,rfl,rfl,ag.of ht1,rfl,_,rfl,_,rfl,_,rfl,.ref na,ls,ts,lb,le,mx,rfl,hv.mono s03.toE,tc,h24,by trivial,hlb,nbe,emx,fun H4 s4=>⟨(fun _ _ z=>by rw [e] at z;cases z),fun _=>⟨.non,.non,.none,fun _=>False,rfl,.non,.non,trivial,fun H5 s5=>⟨_,rfl,aM (fin2 (s4.trans s5))⟩⟩⟩⟩
    ·rw [decide_eq_false c7]
     exact aM (fin2 (ah.refl _))
   | some w=>
    refine ⟨fun w1 o _ e1 ho gb htp=>?_,(fun _ _ _ z=>by cases z),(fun z=>by cases z)⟩
    cases e1
    refine ⟨_,rfl,_,rfl,_,rfl,false,.ref na,ls,ts,lb,le,rfl,hv.mono s1.toE,tc,h24,l1,l10,hlb,.inl ⟨mx,hmx,emx,fun tp2 H2 s2=>⟨(fun _ _ z=>by cases z),fun _ R r _ _ fo fr2 hr2 htp2=>⟨_,_,rfl,nA _ _ ?_⟩,(fun z=>by rw [e] at z;cases z)⟩⟩⟩
    obtain ⟨R0,us,fo0,ok,ch,pe,_⟩:=FN.way tk _ lb w (Nat.lt_succ_self _) hlb e
    obtain rfl:=fo0.uniq fo
    have une:us≠[]:=fun z=>by
     rw [z] at ch
     have:le=lb:=by simpa using ch
     exact nbe this.symm
    have lR:R.length≤9:=by
     have e1:R.length=us.length:=by have:=congrArg List.length ok.at';simpa using this
     have:=kd (xs:=lb :: us.map (·.en)) (ys:=ls) ok.nd ok.sub
     simp only [List.length_cons,List.length_map] at this
     trivial
    have f0:H r=none:=s1.free fr2
    have s02:=s1.trans s2
    refine bz fun DB nB=>⟨_,rfl,.ref na,ls,ts,rfl,hv.mono s02.toE,tc,h24,l1,l10,.inl ⟨mx,hmx,emx,fun H3 s3=>⟨rfl,_,rfl,aM (nB _ _ ?_)⟩⟩⟩
    have s03:=s02.trans s3
    have ht1:=s3 _ _ (s2 _ _ htp)
    have ht2:=s3 _ _ htp2
    have ho3:=s3 _ _ (s2 _ _ ho)
    have hr3:=s3 _ _ hr2
    have q:(!decide (V.str ("told" : Str)=V.str "told"))=false:=by simp
    refine bz fun DC nC=>⟨_,rfl,tp,_,_,_,rfl,rfl,ag.of ht1,rfl,rfl,_,rfl,?_⟩
    rw [q]
    refine aM ⟨_,rfl,tp2,_,_,_,rfl,rfl,ag.of ht2,rfl,rfl,_,rfl,?_⟩
    rw [q]
    refine aM (nC _ _ ?_)
    refine bz fun DD nD=>⟨_,rfl,na,_,_,_,rfl,rfl,ag.of (s03 _ _ hna),rfl,pa,_,rfl,.inr (ag.of (s03 _ _ hpa)),_,_,rfl,rfl,_,rfl,?_⟩
    have fin2:∀{H4:Hp},ah H3 H4→DD.nx [some (.ref na),some (af lb),some (af le),some (.ref tp),some (.ref tp2)] H4:=fun {H4} s4=>by
     refine nD _ _ ?_
     have a1:=s4 _ _ ht1
     have a2:=s4 _ _ ht2
     refine bz fun DE nE=>⟨_,rfl,tp,_,_,_,rfl,rfl,ag.of a1,rfl,rfl,_,rfl,aM ⟨_,rfl,tp2,_,_,_,rfl,rfl,ag.of a2,rfl,rfl,_,rfl,aM (nE _ _ ?_)⟩⟩
     have s04:=s03.trans s4
     refine bz fun DF nF=>⟨_,rfl,_,rfl,tp2,_,_,_,rfl,rfl,ag.of a2,rfl,_,rfl,_,rfl,.ref na,r,ls,ts,lb,le,R,us,rfl,hv.mono s04.toE,tc,h24,nc,s4 _ _ hr3,ok,ch,une,by trivial,fun H5 s5=>⟨_,rfl,aM ?_⟩⟩
     have s45:=s4.trans s5
     have s05:=s03.trans s45
     refine ⟨_,rfl,tp,_,_,_,rfl,rfl,ag.of (s45 _ _ ht1),rfl,_,rfl,_,rfl,tp2,_,_,_,rfl,rfl,ag.of (s45 _ _ ht2),rfl,.ref na,r,ls,ts,R,us,rfl,hv.mono s05.toE,tc,s45 _ _ hr3,ok.at',by trivial,fun g q' H6 gg rg eg s6 hq=>?_⟩
     have eg':g=w:=rg.eq (FN.pv.pos lb w e).2 (eg.trans pe)
     subst eg'
     refine ⟨.ref o,.ref q',kR g,fun _=>False,rfl,(mQ (s6 _ _ (s45 _ _ ho3))).any,(mQ hq).any,CD _,fun H7 s7=>⟨_,rfl,aM (nF _ _ ?_)⟩⟩
     have s47:=(s45.trans s6).trans s7
     have s07:=s03.trans s47
     refine bz fun DG nG=>⟨_,rfl,tp2,_,_,_,rfl,rfl,ag.of (s47 _ _ ht2),rfl,.inl ⟨rfl,_,am.of (s47 _ _ hr3)⟩,r,_,_,rfl,rfl,s47 _ _ hr3,by rw [List.length_map];trivial,fun H8 c8=>nG _ _ ?_⟩
     have s08:ah H H8:=fun a o h=>c8.ol a o (fun z=>by rw [z,f0] at h;cases h) (s07 _ _ h)
     exact ⟨_,rfl,_,rfl,_,rfl,.ref na,ls,ts,lb,le,mx,rfl,hv.mono s08.toE,tc,h24,l1,l10,hmx,emx,fun H9 s9=>k H9 (s08.trans s9)⟩
    by_cases c7:((ls.map af).length:Int)<7
    ·rw [decide_eq_true c7]
     rw [List.length_map] at c7
     refine bh ⟨_,rfl,tp,_,_,_,rfl,rfl,ag.of ht1,rfl,_,rfl,_,rfl,_,rfl,.ref na,ls,ts,lb,le,mx,rfl,hv.mono s03.toE,tc,h24,by trivial,hlb,nbe,emx,fun H4 s4=>⟨fun w' o' e' ho'=>?_,(fun z=>by rw [e] at z;cases z)⟩⟩
     rw [e] at e'
     cases e'
     exact ⟨.ref o,.ref o',kR w,fun _=>False,rfl,(mQ (s4 _ _ ho3)).any,(mQ ho').any,CD _,fun H5 s5=>⟨_,rfl,aM (fin2 (s4.trans s5))⟩⟩
    ·rw [decide_eq_false c7]
     exact aM (fin2 (ah.refl _))
  ·have hno:∀m,m<ls.length→(dg ts (m+1)).lf≠none:=fun m h z=>hm ⟨m,h,z⟩
   refine ⟨_,rfl,_,rfl,_,rfl,true,.ref na,ls,ts,lb,le,rfl,hv,tc,h24,l1,l10,hlb,.inr ⟨hno,fun R1 us1 r1 tp H1 rk1 lR1 s1 f1 htp hr1=>?_⟩⟩
   refine ⟨_,rfl,_,rfl,_,rfl,false,.ref na,ls,ts,lb,le,rfl,hv.mono s1.toE,tc,h24,l1,l10,hlb,.inr ⟨hno,fun R2 us2 r2 tp2 H2 rk2 lR2 s2 f2 htp2 hr2=>⟨_,_,rfl,nA _ _ ?_⟩⟩⟩
   have s02:=s1.trans s2
   refine zz fun DB nB rB=>⟨_,rfl,.ref na,ls,ts,rfl,hv.mono s02.toE,tc,h24,l1,l10,.inr ⟨hno,fun R' us' r' H3 rk' lR' s3 f3 hr3=>⟨rfl,_,rfl,bh ?_⟩⟩⟩
   have s03:=s02.trans s3
   have ht1:=s3 _ _ (s2 _ _ htp)
   have ht2:=s3 _ _ htp2
   refine ⟨_,rfl,tp,_,_,_,rfl,rfl,ag.of ht1,rfl,_,rfl,tp2,_,_,_,rfl,rfl,ag.of ht2,rfl,rfl,_,rfl,?_⟩
   rw [decide_eq_true (rfl:V.str ("refused" : Str)=V.str "refused")]
   refine bh ⟨rfl,_,rfl,?_⟩
   rw [decide_eq_true (rfl:V.str ("refused" : Str)=V.str "refused")]
   refine bh ⟨_,rfl,_,rfl,tp,_,_,_,rfl,rfl,ag.of ht1,rfl,.ref na,r1,ls,ts,R1,us1,rfl,hv.mono s03.toE,tc,by trivial,nc,s3 _ _ (s2 _ _ hr1),rk1,lR1,fun H4 s4=>⟨_,rfl,bh ?_⟩⟩
   exact ⟨_,rfl,_,rfl,tp2,_,_,_,rfl,rfl,ag.of (s4 _ _ ht2),rfl,.ref na,r2,ls,ts,R2,us2,rfl,hv.mono (s03.trans s4).toE,tc,by trivial,nc,s4 _ _ (s3 _ _ hr2),rk2,lR2,fun H5 s5=>rB _ _ (k H5 ((s03.trans s4).trans s5))⟩
end
end K13
namespace K13
open PySem L2
set_option maxHeartbeats 8000000
theorem Er {ls:List (List Nat)}{t:aa} (hl:∀l∈ls,ir l) (h:fK ls t):Wt (kM t) 12 2:=
 .tuple (.cons (.str (mR (hl _ h.b))) (.cons (.str (mR (hl _ h.e))) (.cons (xU h.fm (by decide) (by decide)) (.cons (xU h.fg (by decide) (by decide)) (.cons (xU h.fp (by decide) (by decide)) .nil)))))
theorem D8 {ls:List (List Nat)}{ts:List aa} (hl:∀l∈ls,ir l) (ht:∀t∈ts,fK ls t):Wt (dD ls ts) (1*ls.length+1+(12*ts.length+1+0)+1) 4:=
 .tuple (.cons (.deep (.tuple (oi (m:=1) (k:=0) fun l h=>.str (mR (hl l h)))) (by decide)) (.cons (.tuple (oi fun t h=>Er hl (ht t h))) .nil))
section
variable {P:Program}{w:World}{K:PySem.W.Frag}{mg:Str→Option Value}{base:Heap}
inductive E3 (K:PySem.W.Frag) (vs:List V) (H:Hp) (Q:VK):Prop
 | mk (a:Addr) (ns:List Int) (h0:vs=[.ref a]) (h1:am K H a (ns.map V.int)) (h2:ns.length≤63) (h3:∀H',Q (.bl true) H')
def spLaw (K:PySem.W.Frag):Sp:=fun vs H Q _=>E3 K vs H Q
theorem law_start {H:Hp}{a:Addr}{ns:List Int} (hl:ns.length≤63) (_:uO H) (hS:am K H a (ns.map V.int)):spLaw K [.ref a] H (fun v _=>v=.bl true) fun _ _ _=>False:=
 ⟨a,ns,rfl,hS,hl,fun _=>rfl⟩
theorem law_ok (T:Txt K mg):aZ P w K mg base CX0 40 T.law_.f T.law_.d ["_law_script"] (spLaw K):=by
 have G_l_folded:=Ap (P:=P) (w:=w) (base:=base) T
 have G_l_box:=Gn (P:=P) (w:=w) (base:=base) T
 have G_l_take:=jO (P:=P) (w:=w) (base:=base) T
 have G_l_net_by:=zX (P:=P) (w:=w) (base:=base) T
 have G_l_right:=yU (P:=P) (w:=w) (base:=base) T
 refine T.law_.F.ok iI (fun vs H Q E h=>?_) (fun cdv A outer s H vs Q E hr h=>?_)
 ·obtain ⟨a,ns,rfl,_⟩:=h
  rfl
 ·obtain ⟨a,ns,rfl,hS,hn,k⟩:=h
  refine ⟨_,‹‹(1,iI.nd,kK,‹(G_l_folded,uL,T.l_folded_,‹[‹(0,uJ)›,‹0›]›)›)› :: ‹(@fM _ _ _ _ _ _ _ _ PassesOwn.never rfl (@eX _ _ _ _ _ _ nS T.b_range ‹[(@ao _ _ _ _ _ _ _ _ _ (@zY _ rfl) AU T.b_max (@yZ) ‹[‹0›,(@ao _ _ _ _ _ _ _ _ _ (@dP _ (K) (by rfl)) mV T.b_len (@aX) ‹[‹(1,kK)›]› (by decide) (by decide) (by rfl) (by rfl))]› (by decide) (by decide) (by rfl) (by rfl))]› (by rfl)) ‹(2,iI.nd,vA)› ‹‹(3,iI.nd,f8,‹(G_l_box,x6,T.l_box_,‹[‹(1,kK)›,‹(2,vA)›]›)›)› :: (@ad _ _ _ (@fM _ _ _ _ _ _ _ _ PassesOwn.never rfl (@eX _ _ _ _ _ _ nS T.b_range ‹[‹0›]› (by rfl)) ‹(4,iI.nd,wK)› ‹‹(5,iI.nd,cC,‹(G_l_net_by,uR,T.l_net_by_,‹[‹(3,f8)›,‹0›,‹0›]›)›)› :: ‹‹(6,iI.nd,mT,(@dX _ _ _ _ _ _ _ _ _ (@vI _ _ hr) vz T.b_str (@iK) ‹[‹(5,cC)›]› (by decide) (by decide) (by rfl) (by rfl)))› :: (@ad _ _ _ (@fM _ _ _ _ _ _ _ _ PassesOwn.never rfl (@eX _ _ _ _ _ _ nS T.b_range ‹[‹0›]› (by rfl)) ‹(7,iI.nd,vV)› ‹‹(8,iI.nd,pF,‹(G_l_take,qQ,T.l_take_,‹[‹(3,f8)›,(@ao _ _ _ _ _ _ _ _ _ (@dP _ (K) (by rfl)) mV T.b_len (@aX) ‹[‹‹(5,cC)›[‹0›]›]› (by decide) (by decide) (by rfl) (by rfl))]›)›)› :: ‹(@kD _ _ (9) (10) _ _ _ _ _ _ _ _ _ _ _ rfl iI.nd rfl rfl (by decide) kI nY ‹[‹‹‹(5,cC)›[‹0›]›[‹(8,pF)›]›,‹‹‹(5,cC)›[‹0›]›[(@ak _ _ _ _ _ _ _ _ (@ig _) (@ak _ _ _ _ _ _ _ _ (@bH _) (@ak _ _ _ _ _ _ _ _ (@bH _) ‹(8,pF)› ‹0›) ‹(G_l_take,qQ,T.l_take_,‹[‹(3,f8)›,(@ak _ _ _ _ _ _ _ _ (@jw _) (@ao _ _ _ _ _ _ _ _ _ (@dP _ (K) (by rfl)) mV T.b_len (@aX) ‹[‹‹(5,cC)›[‹0›]›]› (by decide) (by decide) (by rfl) (by rfl)) ‹0›)]›)›) (@ao _ _ _ _ _ _ _ _ _ (@dP _ (K) (by rfl)) mV T.b_len (@aX) ‹[‹‹(5,cC)›[‹0›]›]› (by decide) (by decide) (by rfl) (by rfl)))]›]› (by kernel_rfl) (by rfl)) :: (@ad _ _ _ (@be _ _ _ _ _ _ _ _ (@PW.pt _ _ _ (@dO _ _ _ _ _ _ _ (@gW _ _ _ _ (@b9 _ _ _ ‹(G_l_right,qb,T.l_right_,‹[‹(5,cC)›,‹(9,kI)›,‹(10,nY)›]›)› (by intro _;rfl))) (@dO _ _ _ _ _ _ _ (@gW _ _ _ _ (@b9 _ _ _ ‹(G_l_right,qb,T.l_right_,‹[‹(5,cC)›,‹(9,kI)›,‹(10,nY)›]›)› (by intro _;rfl))) (@d9 _ _ _ _ (@aq _ _ _ _ _ _ _ _ (@jo _) (@dX _ _ _ _ _ _ _ _ _ (@vI _ _ hr) vz T.b_str (@iK) ‹[‹(5,cC)›]› (by decide) (by decide) (by rfl) (by rfl)) ‹(6,mT)› (@au _ _ (by decide) (by decide))))))) (@ad _ _ _ (@aw _ _ _ _ (@ij _ _ _ _))) (@aN _)))›› (by intro _;rfl)))›› (by intro _;rfl)))› (by intro _;rfl)) :: (@ad _ _ _ (@aw _ _ _ _ (@ij _ _ _ _)))››,?_⟩
  refine bz fun DA nA=>?_
  refine ⟨_,rfl,a,ns,2,rfl,hS,hn,by decide,by decide,fun p ms H1 hp s1 hp1 hm4=>?_⟩
  refine nA _ _ ?_
  have hmx:0≤(if ((ms.map V.int).length:Int) > 2 then ((ms.map V.int).length:Int) else 2)∧(if ((ms.map V.int).length:Int) > 2 then ((ms.map V.int).length:Int) else 2)≤4:=by
   rw [List.length_map]
   split <;> trivial
  refine bz fun DX nX=>?_
  refine ⟨_,rfl,p,_,rfl,.inl (am.of hp1),_,_,rfl,_,rfl,by trivial,by trivial,?_⟩
  generalize (if ((ms.map V.int).length:Int) > 2 then ((ms.map V.int).length:Int) else 2)=mx at hmx
  refine ka (fun i σ H'=>Gz fun v2 v3 v4 v5 v6 v7 v8 v9 v10=>σ=[some (.ref a),some (.ref p),v2,v3,v4,v5,v6,v7,v8,v9,v10]∧H' p=some (.lst (ms.map V.int))) ⟨_,_,_,_,_,_,_,_,_,rfl,hp1⟩ ?_ ?_
  case refine_2=>
   rintro σ H2 ⟨v2,v3,v4,v5,v6,v7,v8,v9,v10,rfl,hp2⟩
   exact nX _ _ (k _)
  rintro i σ H2 hi ⟨v2,v3,v4,v5,v6,v7,v8,v9,v10,rfl,hp2⟩
  refine ph (t:=kG _ _) fun DB nB=>?_
  refine bz fun DC nC=>?_
  refine ⟨_,rfl,_,rfl,p,ms,_,rfl,am.of hp2,by trivial,by trivial,fun b H3 hb s3 B3=>?_⟩
  refine nC _ _ ?_
  have npb:¬p=b:=fun z=>by rw [z,hb] at hp2;cases hp2
  have hp3:=s3 _ _ hp2
  refine ⟨2,rfl,by decide,by decide,ka (fun i' σ H'=>CS fun (v4 v5 v6 v7 v8 v9 v10:Option V) (t':Int)=>σ=[some (.ref a),some (.ref p),some (.int (0+(i:Int))),some (.ref b),v4,v5,v6,v7,v8,v9,v10]∧Bx H' b t'∧0≤t'∧t'≤3000*i'∧aO (Eb b) H3 H') ⟨_,_,_,_,_,_,_,0,rfl,B3,by trivial,by trivial,aO.refl _⟩ ?_ ?_⟩
  case refine_2=>
   rintro σ H' ⟨v4,v5,v6,v7,v8,v9,v10,t',rfl,_,_,_,sE⟩
   exact nB _ _ ⟨_,_,_,_,_,_,_,_,_,rfl,sE.old p _ npb hp3⟩
  rintro i' σ H4 hi' ⟨v4,v5,v6,v7,v8,v9,v10,t4,rfl,B4,h40,h41,sE4⟩
  refine ph (t:=kG _ _) fun DD nD=>?_
  refine bD fun Q5 nA5=>⟨_,rfl,b,5,8,t4,rfl,B4,by trivial,by trivial,by decide,by decide,by decide,by decide,fun nv ls ts t5 H5 s5 iN l2 l10 nd nc l1 l24 tc B5 h5a h5b=>nA5 _ _ ?_⟩
  have wt:=(D8 nc tc).deep (show 4≤20 by decide)
  obtain ⟨na,pa,ta,ys,rfl,hna,hpa,hta,ity⟩:=cX iN
  have es:((ls.map af).length:Int)=(ls.length:Int):=by rw [List.length_map]
  refine bD fun Q6 nA6=>⟨_,rfl,na,_,ED,_,_,rfl,iN,wt,by trivial,by decide,nA6 _ _ ?_⟩
  refine ⟨4,rfl,by decide,by decide,ka (fun j σ H'=>yC fun (v7 v8 v9 v10:Option V) (t':Int)=>σ=[some (.ref a),some (.ref p),some (.int (0+(i:Int))),some (.ref b),some (.int (0+(i':Int))),some (.ref na),some (.str (PyData.shown (dD ls ts))),v7,v8,v9,v10]∧Bx H' b t'∧t5≤t'∧t'≤t5+2*j∧aO (Eb b) H5 H') ⟨_,_,_,_,t5,rfl,B5,by trivial,by trivial,aO.refl _⟩ ?_ ?_⟩
  case refine_2=>
   rintro σ H' ⟨v7,v8,v9,v10,t',rfl,B',b1,b2,sm⟩
   exact nD _ _ ⟨_,_,_,_,_,_,_,t',rfl,B',by trivial,by trivial,(sE4.trans s5).trans sm⟩
  rintro j σ H6 hj ⟨v7,v8,v9,v10,t6,rfl,B6,b61,b62,sm6⟩
  refine ph (t:=kG _ _) fun DE nE=>?_
  have hna0:=sm6.tup _ _ hna
  have hpa0:=sm6.tup _ _ hpa
  refine bD fun Q8 n8=>⟨_,rfl,_,rfl,na,_,_,_,rfl,rfl,ag.of hna0,rfl,pa,_,rfl,.inr (ag.of hpa0),b,_,t6,rfl,B6,by trivial,mB (by trivial) (by trivial),by trivial,by trivial,fun f t7 H7 f0 f1 h7a h7b s7 B7=>n8 _ _ ?_⟩
  have hna1:=s7.tup _ _ hna0
  have hpa1:=s7.tup _ _ hpa0
  refine bz fun DF nF=>⟨_,rfl,na,_,_,_,rfl,rfl,ag.of hna1,rfl,_,rfl,pa,_,_,_,rfl,rfl,ag.of hpa1,oU f0 (by trivial),_,rfl,na,_,_,_,rfl,rfl,ag.of hna1,rfl,_,rfl,_,_,rfl,rfl,_,rfl,_,rfl,na,_,_,_,rfl,rfl,ag.of hna1,rfl,pa,_,rfl,.inr (ag.of hpa1),_,_,rfl,rfl,b,_,t7,rfl,B7,by trivial,mB (by trivial) (by trivial),by trivial,by trivial,fun r t8 H8 r0 r1 h8a h8b s8 B8=>?_⟩
  have hna2:=s8.tup _ _ hna1
  have hpa2:=s8.tup _ _ hpa1
  obtain ⟨q0,q1,q2⟩:=yq (n:=(ls.length:Int)) (f:=f) (r:=r) f0 (by trivial) r0 (by trivial)
  obtain ⟨la,ela⟩:∃la,la=(f+1+r) % (ls.length:Int):=⟨_,rfl⟩
  rw [←ela] at q0 q1 q2
  have hat:gO (ls.map af) ((f+1+r) % ((ls.map af).length:Int))=some (af ls[la.toNat]):=by rw [es,←ela];exact oU q0 (by trivial)
  refine ⟨_,_,rfl,rfl,_,rfl,na,_,_,_,rfl,rfl,ag.of hna2,rfl,pa,_,rfl,.inr (ag.of hpa2),_,_,rfl,rfl,(by show (0:Int)<((ls.map af).length:Int);trivial),pa,_,_,_,rfl,rfl,ag.of hpa2,hat,_,_,rfl,nF _ _ ?_⟩
  have fe:ls[f.toNat]≠ls[la.toNat]:=fun z=>by
   have:=i0 nd (by trivial) (by trivial) z
   trivial
  have s58:=(sm6.trans s7).trans s8
  have iN8:aU ED H8 (.ref na) (dD ls ts):=iN.tupS (F:=ED) s58
  refine ⟨_,rfl,_,rfl,_,rfl,.ref na,ls,ts,ls[f.toNat],ls[la.toNat],rfl,iN8,tc,l24,by trivial,l10,nc,List.getElem_mem _,fe,fun H9 s9=>⟨_,rfl,aM ?_⟩⟩
  refine ⟨_,rfl,_,rfl,_,rfl,.ref na,ls,ts,ls[f.toNat],ls[la.toNat],rfl,iN8.sm s9,tc,l24,by trivial,l10,nc,List.getElem_mem _,fe,fun HA sA=>⟨_,rfl,aM ?_⟩⟩
  have s8A:=s9.trans sA
  refine ⟨_,rfl,na,_,ED,_,_,rfl,iN8.sm s8A,wt,by trivial,by decide,_,rfl,rfl,_,rfl,?_⟩
  exact jQ (nE _ _ ⟨_,_,_,_,t8,rfl,B8.same s8A,by trivial,by trivial,s58.trans s8A.toE⟩)
end
end K13
namespace K13
open PySem L2
set_option maxHeartbeats 0 in
theorem txt_of {K:PySem.W.Frag}{h:Heap}{mg:Str→Option Value} (y:obs K=due) (X:K.In h) (G:h.Ns mainGlobals mg):∃T:Txt K mg,∀(s:Shared) (u:Value),BindsTo s T.law_.d ⟨[u],[]⟩ [("_law_script",u)]:=by
 have e:∀i,(obs K).1.getD i none=due.1.getD i none:=fun i=>by rw [y]
 have b:∀i,(obs K).2.getD i true=due.2.getD i true:=fun i=>by rw [y]
 refine ⟨{
  b_ValueError:=PySem.W.mg_none_of X G (b5 (b 65)),
  b_abs:=PySem.W.mg_none_of X G (b5 (b 66)),
  b_all:=PySem.W.mg_none_of X G (b5 (b 67)),
  b_any:=PySem.W.mg_none_of X G (b5 (b 68)),
  b_bool:=PySem.W.mg_none_of X G (b5 (b 69)),
  b_dict:=PySem.W.mg_none_of X G (b5 (b 70)),
  b_divmod:=PySem.W.mg_none_of X G (b5 (b 71)),
  b_enumerate:=PySem.W.mg_none_of X G (b5 (b 72)),
  b_int:=PySem.W.mg_none_of X G (b5 (b 73)),
  b_isinstance:=PySem.W.mg_none_of X G (b5 (b 74)),
  b_len:=PySem.W.mg_none_of X G (b5 (b 75)),
  b_list:=PySem.W.mg_none_of X G (b5 (b 76)),
  b_max:=PySem.W.mg_none_of X G (b5 (b 77)),
  b_range:=PySem.W.mg_none_of X G (b5 (b 78)),
  b_set:=PySem.W.mg_none_of X G (b5 (b 79)),
  b_str:=PySem.W.mg_none_of X G (b5 (b 80)),
  b_tuple:=PySem.W.mg_none_of X G (b5 (b 81)),
  b_zip:=PySem.W.mg_none_of X G (b5 (b 82)),
  common_divisor_:=⟨_,_,PySem.W.mg_of X G (bv (e 0)),ap (e 0),(ap (e 0)).binds (ps:=["n", "d"]) fun _ _ _ _ _ _=>dE (fun _ _=>rfl)⟩,
  fraction_:=⟨_,_,PySem.W.mg_of X G (bv (e 1)),ap (e 1),(ap (e 1)).binds (ps:=["n", "d"]) fun _ _ _ _ _ _=>dE (fun _ _=>rfl)⟩,
  times_:=⟨_,_,PySem.W.mg_of X G (bv (e 2)),ap (e 2),(ap (e 2)).binds (ps:=["one", "other"]) fun _ _ _ _ _ _=>dE (fun _ _=>rfl)⟩,
  compared_:=⟨_,_,PySem.W.mg_of X G (bv (e 3)),ap (e 3),(ap (e 3)).binds (ps:=["one", "other"]) fun _ _ _ _ _ _=>dE (fun _ _=>rfl)⟩,
  is_shut_:=⟨_,_,PySem.W.mg_of X G (bv (e 4)),ap (e 4),(ap (e 4)).binds (ps:=["tie"]) fun _ _ _ _ _ _=>pB (fun _=>rfl)⟩,
  lift_once_:=⟨_,_,PySem.W.mg_of X G (bv (e 5)),ap (e 5),(ap (e 5)).binds (ps:=["net", "worths", "onward"]) fun _ _ _ _ _ _=>pL (fun _ _ _=>rfl)⟩,
  round_ahead_:=⟨_,_,PySem.W.mg_of X G (bv (e 6)),ap (e 6),(ap (e 6)).binds (ps:=["net", "onward", "place"]) fun _ _ _ _ _ _=>pL (fun _ _ _=>rfl)⟩,
  gaining_round_:=⟨_,_,PySem.W.mg_of X G (bv (e 7)),ap (e 7),(ap (e 7)).binds (ps:=["net"]) fun _ _ _ _ _ _=>pB (fun _=>rfl)⟩,
  lift_all_:=⟨_,_,PySem.W.mg_of X G (bv (e 8)),ap (e 8),(ap (e 8)).binds (ps:=["net", "worths"]) fun _ _ _ _ _ _=>dE (fun _ _=>rfl)⟩,
  holding_worths_:=⟨_,_,PySem.W.mg_of X G (bv (e 9)),ap (e 9),(ap (e 9)).binds (ps:=["net"]) fun _ _ _ _ _ _=>pB (fun _=>rfl)⟩,
  greatest_gain_:=⟨_,_,PySem.W.mg_of X G (bv (e 10)),ap (e 10),(ap (e 10)).binds (ps:=["net", "begin", "end"]) fun _ _ _ _ _ _=>pL (fun _ _ _=>rfl)⟩,
  best_way_:=⟨_,_,PySem.W.mg_of X G (bv (e 11)),ap (e 11),(ap (e 11)).binds (ps:=["net", "begin", "end"]) fun _ _ _ _ _ _=>pL (fun _ _ _=>rfl)⟩,
  l_box_:=⟨_,_,PySem.W.mg_of X G (bv (e 12)),ap (e 12),(ap (e 12)).binds (ps:=["_law_script", "_law_k"]) fun _ _ _ _ _ _=>dE (fun _ _=>rfl)⟩,
  l_take_:=⟨_,_,PySem.W.mg_of X G (bv (e 13)),ap (e 13),(ap (e 13)).binds (ps:=["_law_box_here", "_law_many"]) fun _ _ _ _ _ _=>dE (fun _ _=>rfl)⟩,
  l_folded_:=⟨_,_,PySem.W.mg_of X G (bv (e 14)),ap (e 14),(ap (e 14)).binds (ps:=["_law_script", "_law_many"]) fun _ _ _ _ _ _=>dE (fun _ _=>rfl)⟩,
  l_frac_:=⟨_,_,PySem.W.mg_of X G (bv (e 15)),ap (e 15),(ap (e 15)).binds (ps:=["_law_n", "_law_d"]) fun _ _ _ _ _ _=>dE (fun _ _=>rfl)⟩,
  l_product_:=⟨_,_,PySem.W.mg_of X G (bv (e 16)),ap (e 16),(ap (e 16)).binds (ps:=["_law_one", "_law_other"]) fun _ _ _ _ _ _=>dE (fun _ _=>rfl)⟩,
  l_over_:=⟨_,_,PySem.W.mg_of X G (bv (e 17)),ap (e 17),(ap (e 17)).binds (ps:=["_law_one", "_law_other"]) fun _ _ _ _ _ _=>dE (fun _ _=>rfl)⟩,
  l_above_:=⟨_,_,PySem.W.mg_of X G (bv (e 18)),ap (e 18),(ap (e 18)).binds (ps:=["_law_one", "_law_other"]) fun _ _ _ _ _ _=>dE (fun _ _=>rfl)⟩,
  l_names_by_:=⟨_,_,PySem.W.mg_of X G (bv (e 19)),ap (e 19),(ap (e 19)).binds (ps:=["_law_box_here", "_law_many"]) fun _ _ _ _ _ _=>dE (fun _ _=>rfl)⟩,
  l_any_gain_:=⟨_,_,PySem.W.mg_of X G (bv (e 20)),ap (e 20),(ap (e 20)).binds (ps:=["_law_box_here"]) fun _ _ _ _ _ _=>pB (fun _=>rfl)⟩,
  l_any_much_:=⟨_,_,PySem.W.mg_of X G (bv (e 21)),ap (e 21),(ap (e 21)).binds (ps:=["_law_box_here"]) fun _ _ _ _ _ _=>pB (fun _=>rfl)⟩,
  l_any_price_:=⟨_,_,PySem.W.mg_of X G (bv (e 22)),ap (e 22),(ap (e 22)).binds (ps:=["_law_box_here"]) fun _ _ _ _ _ _=>pB (fun _=>rfl)⟩,
  l_planted_:=⟨_,_,PySem.W.mg_of X G (bv (e 23)),ap (e 23),(ap (e 23)).binds (ps:=["_law_box_here", "_law_places"]) fun _ _ _ _ _ _=>dE (fun _ _=>rfl)⟩,
  l_net_by_:=⟨_,_,PySem.W.mg_of X G (bv (e 24)),ap (e 24),(ap (e 24)).binds (ps:=["_law_box_here", "_law_most_places", "_law_most_ties"]) fun _ _ _ _ _ _=>pL (fun _ _ _=>rfl)⟩,
  l_opened_:=⟨_,_,PySem.W.mg_of X G (bv (e 25)),ap (e 25),(ap (e 25)).binds (ps:=["_law_net"]) fun _ _ _ _ _ _=>pB (fun _=>rfl)⟩,
  l_gain_of_:=⟨_,_,PySem.W.mg_of X G (bv (e 26)),ap (e 26),(ap (e 26)).binds (ps:=["_law_net", "_law_way"]) fun _ _ _ _ _ _=>dE (fun _ _=>rfl)⟩,
  l_all_ways_:=⟨_,_,PySem.W.mg_of X G (bv (e 27)),ap (e 27),(ap (e 27)).binds (ps:=["_law_net", "_law_begin"]) fun _ _ _ _ _ _=>dE (fun _ _=>rfl)⟩,
  l_is_round_:=⟨_,_,PySem.W.mg_of X G (bv (e 28)),ap (e 28),(ap (e 28)).binds (ps:=["_law_net", "_law_thing"]) fun _ _ _ _ _ _=>dE (fun _ _=>rfl)⟩,
  l_all_told_:=⟨_,_,PySem.W.mg_of X G (bv (e 29)),ap (e 29),(ap (e 29)).binds (ps:=["_law_which", "_law_net", "_law_begin", "_law_end"]) fun _ _ _ _ _ _=>FG (fun _ _ _ _=>rfl)⟩,
  l_same_:=⟨_,_,PySem.W.mg_of X G (bv (e 30)),ap (e 30),(ap (e 30)).binds (ps:=["_law_found", "_law_due"]) fun _ _ _ _ _ _=>dE (fun _ _=>rfl)⟩,
  l_due_of_:=⟨_,_,PySem.W.mg_of X G (bv (e 31)),ap (e 31),(ap (e 31)).binds (ps:=["_law_net", "_law_begin", "_law_end"]) fun _ _ _ _ _ _=>pL (fun _ _ _=>rfl)⟩,
  l_leads_:=⟨_,_,PySem.W.mg_of X G (bv (e 32)),ap (e 32),(ap (e 32)).binds (ps:=["_law_net", "_law_way", "_law_begin", "_law_end"]) fun _ _ _ _ _ _=>FG (fun _ _ _ _=>rfl)⟩,
  l_none_better_:=⟨_,_,PySem.W.mg_of X G (bv (e 33)),ap (e 33),(ap (e 33)).binds (ps:=["_law_net", "_law_begin", "_law_end"]) fun _ _ _ _ _ _=>pL (fun _ _ _=>rfl)⟩,
  l_right_:=⟨_,_,PySem.W.mg_of X G (bv (e 34)),ap (e 34),(ap (e 34)).binds (ps:=["_law_net", "_law_begin", "_law_end"]) fun _ _ _ _ _ _=>pL (fun _ _ _=>rfl)⟩,
  law_:=⟨_,_,PySem.W.mg_of X G (bv (e 35)),ap (e 35),(ap (e 35)).binds (ps:=["_law_script"]) fun _ _ _ _ _ _=>pB (fun _=>rfl)⟩,
  f_Gaining__init:=_,d_Gaining__init:=_,F_Gaining__init:=ap (e 36),B_Gaining__init:=(ap (e 36)).binds (ps:=["self", "ties"]) fun _ _ _ _ _ _=>dE (fun _ _=>rfl),
  f_NotSoMuch__init:=_,d_NotSoMuch__init:=_,F_NotSoMuch__init:=ap (e 37),B_NotSoMuch__init:=(ap (e 37)).binds (ps:=["self", "most"]) fun _ _ _ _ _ _=>dE (fun _ _=>rfl),
  f_Short__init:=_,d_Short__init:=_,F_Short__init:=ap (e 38),B_Short__init:=(ap (e 38)).binds (ps:=["self", "share"]) fun _ _ _ _ _ _=>dE (fun _ _=>rfl),
  f_Lacking__init:=_,d_Lacking__init:=_,F_Lacking__init:=ap (e 39),B_Lacking__init:=(ap (e 39)).binds (ps:=["self", "place"]) fun _ _ _ _ _ _=>dE (fun _ _=>rfl),
  f_BadRow__init:=_,d_BadRow__init:=_,F_BadRow__init:=ap (e 40),B_BadRow__init:=(ap (e 40)).binds (ps:=["self", "row"]) fun _ _ _ _ _ _=>dE (fun _ _=>rfl),
  f_BadSheet__init:=_,d_BadSheet__init:=_,F_BadSheet__init:=ap (e 41),B_BadSheet__init:=(ap (e 41)).binds (ps:=["self", "row"]) fun _ _ _ _ _ _=>dE (fun _ _=>rfl),
  x_GainError:=_,m_GainError:=PySem.W.mg_of X G (dM (b 0)),k_GainError:=(b 15),xb_GainError:=(b 16),
  x_BadNumber:=_,m_BadNumber:=PySem.W.mg_of X G (dM (b 1)),k_BadNumber:=(b 17),q_BadNumber:=(b 18),
  x_Taken:=_,m_Taken:=PySem.W.mg_of X G (dM (b 2)),k_Taken:=(b 19),q_Taken:=(b 20),
  x_NoPlace:=_,m_NoPlace:=PySem.W.mg_of X G (dM (b 3)),k_NoPlace:=(b 21),q_NoPlace:=(b 22),
  x_NoTie:=_,m_NoTie:=PySem.W.mg_of X G (dM (b 4)),k_NoTie:=(b 23),q_NoTie:=(b 24),
  x_AsItIs:=_,m_AsItIs:=PySem.W.mg_of X G (dM (b 5)),k_AsItIs:=(b 25),q_AsItIs:=(b 26),
  x_NoEnds:=_,m_NoEnds:=PySem.W.mg_of X G (dM (b 6)),k_NoEnds:=(b 27),q_NoEnds:=(b 28),
  x_Over:=_,m_Over:=PySem.W.mg_of X G (dM (b 7)),k_Over:=(b 29),q_Over:=(b 30),
  x_TooMuch:=_,m_TooMuch:=PySem.W.mg_of X G (dM (b 8)),k_TooMuch:=(b 31),q_TooMuch:=(b 32),
  x_Gaining:=_,m_Gaining:=PySem.W.mg_of X G (dM (b 9)),k_Gaining:=(b 33),fn_Gaining:=(b 34),st_Gaining:=(b 35),fd_Gaining:=(b 36),q_Gaining:=(b 37),
  x_NotSoMuch:=_,m_NotSoMuch:=PySem.W.mg_of X G (dM (b 10)),k_NotSoMuch:=(b 38),fn_NotSoMuch:=(b 39),st_NotSoMuch:=(b 40),fd_NotSoMuch:=(b 41),q_NotSoMuch:=(b 42),
  x_Short:=_,m_Short:=PySem.W.mg_of X G (dM (b 11)),k_Short:=(b 43),fn_Short:=(b 44),st_Short:=(b 45),fd_Short:=(b 46),q_Short:=(b 47),
  x_Lacking:=_,m_Lacking:=PySem.W.mg_of X G (dM (b 12)),k_Lacking:=(b 48),fn_Lacking:=(b 49),st_Lacking:=(b 50),fd_Lacking:=(b 51),q_Lacking:=(b 52),
  x_BadRow:=_,m_BadRow:=PySem.W.mg_of X G (dM (b 13)),k_BadRow:=(b 53),fn_BadRow:=(b 54),st_BadRow:=(b 55),fd_BadRow:=(b 56),q_BadRow:=(b 57),
  x_BadSheet:=_,m_BadSheet:=PySem.W.mg_of X G (dM (b 14)),k_BadSheet:=(b 58),fn_BadSheet:=(b 59),st_BadSheet:=(b 60),fd_BadSheet:=(b 61),q_BadSheet:=(b 62),
  em_Gaining_GainError:=(Dn (b 63)),
  kin:=(b 64) },fun s u=>?_⟩
 obtain ⟨_,_,_,_,_,_,_,_,_,z,_⟩:=(ap (e 35):lG K "law" "law" cA _ _).ex
 show BindsTo s (iB K (PySem.W.nsIn K mainGlobals "law")) _ _
 rw [z]
 exact .of_eq rfl
end K13
open PySem PySem.W PyProof.Rows
set_option maxRecDepth 100000 in
set_option maxHeartbeats 0 in
theorem PySem.Challenge.cw_gainroads_k13_greatest_gains_and_best_wa_holds : PySem.Challenge.rw_gainroads_k13_greatest_gains_and_best_wa.Holds := by
 w_on;o_law
 refine holds_openX (q:=K13.qv) (loose:=[]) (Xt:=L2.Xt) (XP:=XL K13.qv []) (Yf:=L2.Yf) (Ya:=fun _=>K13.due) (N:=9140) (L2.left_tree rfl rfl (fun _=>rfl) L2.left) (fun s e=>xl_of s (Bool.and_eq_true_iff.mp e).1) XL.keeps (by rfl) (by rfl) (by rfl) (fun s e=>recFacts_of (Bool.and_eq_true_iff.mp e).2) (by rfl) (by first | assumption | decide +kernel) (by decide +kernel) ⟨rfl,rfl,rfl,rfl,rfl,by decide +kernel⟩ ?hw ?hc
 case hw=>w_witness2
 refine L2.walk_ofY (obs:=K13.obs) (due:=K13.due) (l:=PySem.Challenge.rw_gainroads_k13_greatest_gains_and_best_wa) (n:=63) (k:=40) (x := "_law_script") (CX:=L2.CX0) (sp:=K13.spLaw) rfl (by decide) rfl ⟨rfl,by decide,by decide,rfl⟩ ?F ?S ?C
 case F=>
  intro K w mg fa h y KX G hmg
  obtain ⟨T,hb⟩:=K13.txt_of y KX G
  have e0:=hmg.symm.trans T.law_.m
  cases e0
  exact ⟨T.law_.d,hb,fun base kb nb=>K13.law_ok T⟩
 case S=>exact fun K H a ns hl hO hS=>K13.law_start hl hO hS
 case C=>exact fun _ _ _ _ z=>z
